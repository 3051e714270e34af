/- FnExactReadStep, the row: where the program's own error reads as its initialiser lays it, the call returns true at every text and each argument reads afterwards as before; and its card. -/
import Derived.Test.YtcpphobokdkkeaaDoorTI
import Derived.Test.YtcpphobokdkkeaaDoorGS
import Derived.Test.YtcpphobokdkkeaaDoorH1
import Derived.Test.YtcpphobokdkkeaaDoorH2
import Derived.Test.YtcpphobokdkkeaaDoorH3
import Derived.Test.YtcpphobokdkkeaaDoorCards
import Derived.Test.YtcpphobokdkkeaaDoorTie
import Derived.ChangeSame
import Derived.ChangeVars
import Derived.JoinedOf
import Derived.LaidLaws
import Derived.LaidHandle
import Derived.Stop.LaidErr
import Derived.Lib.LaidTab
import Derived.Deep.DeepLaidRun
import Derived.SevenTiedAt
namespace Go.Proofs.YtcpphobokdkkeaaDoor
open Go.ChangeShapes Go.WideShapes Go.ChangeAt Go.RowKit Go.Deep Go.Joins

def errS : ByteArray := ⟨#[116, 104, 101, 32, 116, 101, 120, 116, 32, 105, 115, 32, 110, 111, 116, 32, 97, 115, 32, 105, 116, 32, 119, 111, 117, 108, 100, 32, 98, 101, 32, 119, 114, 105, 116, 116, 101, 110]⟩
theorem fnExactReadStep_g : Tryd.prog.globalNamed "loop.example/g00272/impl.errText" = some 0 := by kernel_rfl
theorem fnExactReadStep_gt : (Tryd.prog.globals[0]?).map (·.type) = some 80 := by kernel_rfl
theorem err_cells : Tryd.prog.cellsOf 142 = 1 := by kernel_rfl
theorem err_cells9 : Tryd.prog.cellsOf 9 = 1 := by kernel_rfl
theorem err_star : "*" ++ "errors.errorString" = "*errors.errorString" := by decide
theorem err_row (u : TypeId) (h : Tryd.prog.typeName? 3 u = some "*errors.errorString") : u = 127 :=
  typeName_ptr_named (nm := "errors.errorString") (by rw [err_star]; kernel_rfl) (by kernel_rfl) (by decide) u (by rw [err_star]; exact h)
theorem err_of {W : World} (h : laidMetH Tryd.prog Rows.fnExactReadStepRow.laid W) : ∃ a : Addr, W.var? Tryd.prog "loop.example/g00272/impl.errText" = some #[.iface 127 (.pointer (some a))] := by
  have h' : laidMet Tryd.prog [("loop.example/g00272/impl.errText", Rows.laid_loop_example_g00272_impl_errText)] W := h
  obtain ⟨a, s, hv, _⟩ := laid_sentinel h' fnExactReadStep_g fnExactReadStep_gt Tryd.underlying80 err_row Tryd.underlying127 Tryd.underlying142 rfl rfl Tryd.underlying9 err_cells err_cells9
  exact ⟨a, hv⟩
theorem var_lt {W : World} {cs : Array Value} (h : W.var? Tryd.prog "loop.example/g00272/impl.errText" = some cs) : 0 < W.heap.size := by
  by_cases e : 0 < W.heap.size
  · exact e
  · simp only [World.var?, fnExactReadStep_g, Option.bind_some] at h
    rw [Array.getElem?_eq_none (by omega)] at h
    cases h
theorem var_kept {W W' : World} {cs : Array Value} (h : W.var? Tryd.prog "loop.example/g00272/impl.errText" = some cs) (bel : Below W.heap.size W W') : W'.var? Tryd.prog "loop.example/g00272/impl.errText" = some cs := by
  have h0 := var_lt h
  unfold World.var? at h ⊢
  simp only [fnExactReadStep_g, Option.bind_some] at h ⊢
  rw [bel.block 0 h0]
  exact h

noncomputable def low : Nat := (World.holding Tryd.prog default ⟨#[], #[], []⟩).heap.size
noncomputable def laidWorld (os : Os) : World :=
  let w0 := World.holding Tryd.prog os ⟨#[.cells #[.string errS] 142], #[], []⟩
  { w0 with heap := w0.heap.modify 0 fun
      | .cells _ t frozen => .cells #[.iface 127 (.pointer (some ⟨low, 0, none⟩))] t frozen
      | o => o }
theorem fnExactReadStep_laidMet (os : Os) (args : Array Value) : laidMetH Tryd.prog Rows.fnExactReadStepRow.laid ((laidWorld os).forCall (fun _ _ => 0) ⟨#[], args, []⟩).memory := by
  show laidMet Tryd.prog Rows.fnExactReadStepRow.laid _
  exact laidMet_of_run (ps := [.cell 0 0, .cell low 0]) 8 (by kernel_rfl) (by kernel_rfl) (by kernel_rfl)

set_option maxRecDepth 100000 in
theorem fnExactReadStep_lifted (os : Os) (started : os.Started) (H : Type) (enc : TypeId × Value → H) :
    ReturnsInHanded {} Tryd.checked os 4 .any (fun w args => (Rows.fnExactReadStepSpec.pre enc Tryd.prog Tryd.f4 Rows.fnExactReadStepRow.domain false w args ∧ laidMetH Tryd.prog Rows.fnExactReadStepRow.laid w) ∧ sizedMet enc Tryd.prog Tryd.f4 (OpenSpec.ofChange Rows.fnExactReadStepSpec) false w args)
      (Rows.fnExactReadStepSpec.post enc Tryd.prog Tryd.f4 false true false false) := by
  refine returnsInHanded_of_change_and (C := Tryd.checked) (X := fun w _ => laidMetH Tryd.prog Rows.fnExactReadStepRow.laid w) (fun _ _ _ hh h => h.of_heap hh) Tryd.ownKnob started (by kernel_rfl) Tryd.func4
    (ChangeSpec.witness_at (enc := enc) (C := Tryd.checked) (os := os) (X := fun w _ => laidMetH Tryd.prog Rows.fnExactReadStepRow.laid w) false (laidWorld os) #[.string ⟨#[]⟩] 8 rfl (by kernel_rfl) (by kernel_rfl) (by kernel_rfl) (by kernel_rfl) (by kernel_rfl) (fnExactReadStep_laidMet os _)) ?_
  intro W base args ds gs before hval0 hW hcnd _ hL _
  have hval : ∀ (j : Nat) t v, Tryd.f4.params[j]? = some t → args[j]? = some v → Value.okWide Tryd.prog W .any base t v := hval0
  have hW' := hW
  obtain ⟨p, q, hA0, hV, rfl, hfz, hnd⟩ := hW
  have hA : DataW.TrodAll enc Tryd.prog W 0 (fun _ => true) true Tryd.f4.params.toList args.toList ds p := hA0
  rw [Tryd.params4] at hA hval
  obtain ⟨v0, vs0, d0, ds0, p0, q0, hargs, rfl, rfl, h0, r0⟩ := trodAll_cons hA
  obtain ⟨rfl, rfl, rfl⟩ := trodAll_nil r0
  obtain rfl : args = #[v0] := by cases args; simp_all
  have hV2 : DataW.TrodVars enc Tryd.prog W (fun _ => true) ["loop.example/g00272/impl.errText"] gs q := hV
  obtain ⟨s0, rfl, rfl, rfl, ws0⟩ := Go.ChangeMaps.open_string Tryd.underlying9 (hval 0 9 v0 rfl rfl) h0
  clear hA0 hval0
  obtain ⟨a0, hv0⟩ := err_of hL
  obtain ⟨rfl, rfl⟩ := hV2.unique (vars_read1 enc fnExactReadStep_g fnExactReadStep_gt Tryd.underlying80 hv0 trivial _)
  have hE : Err 127 (.pointer (some a0)) W := ⟨by simpa using World.var?_cell fnExactReadStep_g hv0 0, var_lt hv0⟩
  refine (exactReadStep_walk 127 (.pointer (some a0)) s0 W ws0 hE).mono fun e W' ⟨he, bel⟩ => ?_
  subst he
  exact ⟨_, rfl, _, _, _, [], _, [.cell 0 0], hW', trodAll_mk1 (shut_bool Tryd.underlying4 _), trodAll_cons_mk (Go.ChangeMaps.shut_string Tryd.underlying9 ws0) trodAll_mk0, vars_read1 enc fnExactReadStep_g fnExactReadStep_gt Tryd.underlying80 (var_kept hv0 bel) trivial _, bel.frame _, fun h => by cases h⟩

theorem fnExactReadStep_facts : joinedFacts Tryd.prog 4 Tryd.f4 Rows.fnExactReadStepSpec Rows.fnExactReadStepRow = true := by
  have e1 : (Rows.fnExactReadStepRow.lifted == Tryd.prog.liftsFinal) = true := by rw [fact_lifts]; kernel_rfl
  have e2 : (Tryd.prog.make == some Rows.fnExactReadStepRow.make) = true := fact_make
  unfold joinedFacts
  rw [fact_mayEnter, e1, e2]
  change _ = true
  kernel_rfl

theorem fnExactReadStep_holds : Rows.FnExactReadStepSaid :=
  OpenClaim.holds_of_wide 4 Tryd.f4 rfl rfl rfl rfl rfl rfl rfl ⟨rfl, rfl, rfl, rfl, rfl⟩ rfl rfl rfl rfl rfl (by kernel_rfl) Tryd.func4 fnExactReadStep_facts
    (of_decide_eq_true (by kernel_rfl)) (by unfold Func.isWrapper; first | (rw [if_pos (by decide +kernel)]; kernel_rfl) | (rw [if_neg (by decide +kernel)]; exact ⟨rfl, rfl⟩))
    (fun os started H enc _ => fnExactReadStep_lifted os started H enc)

theorem fnExactReadStep_card : Rows.FnExactReadStepCardSaid :=
  Claim7.holds_tied_plain_at .later [] [.sentinel] true (true, "ec995bb26553d440821d4f2ef95815fdc1a8eec697d128f6b7e5643ac909cebe") false
    fnExactReadStep_holds (fun _ h => by cases h) (by kernel_rfl) (fun _ h => by cases h) fnExactReadStep_row_tie rfl ⟨rfl, rfl⟩ (by kernel_rfl) rfl
    (fun f fn hf hfn => by
      obtain rfl : f = 4 := Option.some.inj ((show Tryd.prog.funcNamed "loop.example/g00272/laws.FnExactReadStep" = some 4 by kernel_rfl).symm.trans hf) |>.symm
      obtain rfl : fn = Tryd.f4 := (Option.some.inj (Tryd.func4.symm.trans hfn)).symm
      exact ⟨by kernel_rfl, fun j t ht => by
        rw [Tryd.params4] at ht
        match j, ht with
        | 0, ht =>
          have e : t = 9 := by simpa using ht.symm
          rw [e]
          exact (show Tryd.prog.wantsStandIn 9 = false by kernel_rfl)
        | j + 1, ht => simp at ht⟩)
    (by kernel_rfl)
end Go.Proofs.YtcpphobokdkkeaaDoor
