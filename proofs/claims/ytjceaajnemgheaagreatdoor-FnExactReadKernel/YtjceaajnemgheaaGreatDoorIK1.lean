/- FnExactReadKernel, the row: where the program's own error reads as its initialiser lays it, the call returns true at every text and each argument reads afterwards as before; and its card. -/
import Derived.Test.YtjceaajnemgheaaGreatDoorZ49
import Derived.Test.YtjceaajnemgheaaGreatDoorH1
import Derived.Test.YtjceaajnemgheaaGreatDoorH2
import Derived.Test.YtjceaajnemgheaaGreatDoorH3
import Derived.Test.YtjceaajnemgheaaGreatDoorCards
import Derived.Test.YtjceaajnemgheaaGreatDoorTie
import Derived.ChangeSame
import Derived.ChangeVars
import Derived.JoinedOf
import Derived.LaidLaws
import Derived.LaidHandle
import Derived.Stop.LaidErr
import Derived.Lib.LaidTab
import Derived.Deep.DeepLaidRun
import Derived.SevenTiedAt
namespace Go.Proofs.YtjceaajnemgheaaGreatDoor
open Go.ChangeShapes Go.WideShapes Go.ChangeAt Go.RowKit Go.Deep Go.Joins

def errS : ByteArray := ⟨#[116, 104, 101, 32, 116, 101, 120, 116, 32, 105, 115, 32, 110, 111, 116, 32, 97, 115, 32, 105, 116, 32, 119, 111, 117, 108, 100, 32, 98, 101, 32, 119, 114, 105, 116, 116, 101, 110]⟩
theorem fnExactReadKernel_g : Tryz.prog.globalNamed "loop.example/g00272/impl.errText" = some 0 := by kernel_rfl
theorem fnExactReadKernel_gt : (Tryz.prog.globals[0]?).map (·.type) = some 89 := by kernel_rfl
theorem err_cells : Tryz.prog.cellsOf 161 = 1 := by kernel_rfl
theorem err_cells9 : Tryz.prog.cellsOf 9 = 1 := by kernel_rfl
theorem err_star : "*" ++ "errors.errorString" = "*errors.errorString" := by decide
theorem err_row (u : TypeId) (h : Tryz.prog.typeName? 3 u = some "*errors.errorString") : u = 146 :=
  typeName_ptr_named (nm := "errors.errorString") (by rw [err_star]; kernel_rfl) (by kernel_rfl) (by decide) u (by rw [err_star]; exact h)
theorem err_of {W : World} (h : laidMetH Tryz.prog Rows.fnExactReadKernelRow.laid W) : ∃ a : Addr, W.var? Tryz.prog "loop.example/g00272/impl.errText" = some #[.iface 146 (.pointer (some a))] := by
  have h' : laidMet Tryz.prog [("loop.example/g00272/impl.errText", Rows.laid_loop_example_g00272_impl_errText)] W := h
  obtain ⟨a, s, hv, _⟩ := laid_sentinel h' fnExactReadKernel_g fnExactReadKernel_gt Tryz.underlying89 err_row Tryz.underlying146 Tryz.underlying161 rfl rfl Tryz.underlying9 err_cells err_cells9
  exact ⟨a, hv⟩
theorem var_lt {W : World} {cs : Array Value} (h : W.var? Tryz.prog "loop.example/g00272/impl.errText" = some cs) : 0 < W.heap.size := by
  by_cases e : 0 < W.heap.size
  · exact e
  · simp only [World.var?, fnExactReadKernel_g, Option.bind_some] at h
    rw [Array.getElem?_eq_none (by omega)] at h
    cases h
theorem var_kept {W W' : World} {cs : Array Value} (h : W.var? Tryz.prog "loop.example/g00272/impl.errText" = some cs) (bel : Below W.heap.size W W') : W'.var? Tryz.prog "loop.example/g00272/impl.errText" = some cs := by
  have h0 := var_lt h
  unfold World.var? at h ⊢
  simp only [fnExactReadKernel_g, Option.bind_some] at h ⊢
  rw [bel.block 0 h0]
  exact h

noncomputable def low : Nat := (World.holding Tryz.prog default ⟨#[], #[], []⟩).heap.size
noncomputable def laidWorld (os : Os) : World :=
  let w0 := World.holding Tryz.prog os ⟨#[.cells #[.string errS] 161], #[], []⟩
  { w0 with heap := w0.heap.modify 0 fun
      | .cells _ t frozen => .cells #[.iface 146 (.pointer (some ⟨low, 0, none⟩))] t frozen
      | o => o }
theorem fnExactReadKernel_laidMet (os : Os) (args : Array Value) : laidMetH Tryz.prog Rows.fnExactReadKernelRow.laid ((laidWorld os).forCall (fun _ _ => 0) ⟨#[], args, []⟩).memory := by
  show laidMet Tryz.prog Rows.fnExactReadKernelRow.laid _
  exact laidMet_of_run (ps := [.cell 0 0, .cell low 0]) 8 (by kernel_rfl) (by kernel_rfl) (by kernel_rfl)

set_option maxRecDepth 100000 in
theorem fnExactReadKernel_lifted (os : Os) (started : os.Started) (H : Type) (enc : TypeId × Value → H) :
    ReturnsInHanded {} Tryz.checked os 3 .any (fun w args => (Rows.fnExactReadKernelSpec.pre enc Tryz.prog Tryz.f3 Rows.fnExactReadKernelRow.domain false w args ∧ laidMetH Tryz.prog Rows.fnExactReadKernelRow.laid w) ∧ sizedMet enc Tryz.prog Tryz.f3 (OpenSpec.ofChange Rows.fnExactReadKernelSpec) false w args)
      (Rows.fnExactReadKernelSpec.post enc Tryz.prog Tryz.f3 false true false false) := by
  refine returnsInHanded_of_change_and (C := Tryz.checked) (X := fun w _ => laidMetH Tryz.prog Rows.fnExactReadKernelRow.laid w) (fun _ _ _ hh h => h.of_heap hh) Tryz.ownKnob started (by kernel_rfl) Tryz.func3
    (ChangeSpec.witness_at (enc := enc) (C := Tryz.checked) (os := os) (X := fun w _ => laidMetH Tryz.prog Rows.fnExactReadKernelRow.laid w) false (laidWorld os) #[.string ⟨#[]⟩] 8 rfl (by kernel_rfl) (by kernel_rfl) (by kernel_rfl) (by kernel_rfl) (by kernel_rfl) (fnExactReadKernel_laidMet os _)) ?_
  intro W base args ds gs before hval0 hW hcnd _ hL _
  have hval : ∀ (j : Nat) t v, Tryz.f3.params[j]? = some t → args[j]? = some v → Value.okWide Tryz.prog W .any base t v := hval0
  have hW' := hW
  obtain ⟨p, q, hA0, hV, rfl, hfz, hnd⟩ := hW
  have hA : DataW.TrodAll enc Tryz.prog W 0 (fun _ => true) true Tryz.f3.params.toList args.toList ds p := hA0
  rw [Tryz.params3] at hA hval
  obtain ⟨v0, vs0, d0, ds0, p0, q0, hargs, rfl, rfl, h0, r0⟩ := trodAll_cons hA
  obtain ⟨rfl, rfl, rfl⟩ := trodAll_nil r0
  obtain rfl : args = #[v0] := by cases args; simp_all
  have hV2 : DataW.TrodVars enc Tryz.prog W (fun _ => true) ["loop.example/g00272/impl.errText"] gs q := hV
  obtain ⟨s0, rfl, rfl, rfl, ws0⟩ := Go.ChangeMaps.open_string Tryz.underlying9 (hval 0 9 v0 rfl rfl) h0
  clear hA0 hval0
  obtain ⟨a0, hv0⟩ := err_of hL
  obtain ⟨rfl, rfl⟩ := hV2.unique (vars_read1 enc fnExactReadKernel_g fnExactReadKernel_gt Tryz.underlying89 hv0 trivial _)
  have hE : Err 146 (.pointer (some a0)) W := ⟨by simpa using World.var?_cell fnExactReadKernel_g hv0 0, var_lt hv0⟩
  refine (exactReadKernel_walkS 146 (.pointer (some a0)) s0 W hE).mono fun e W' ⟨he, bel⟩ => ?_
  subst he
  exact ⟨_, rfl, _, _, _, [], _, [.cell 0 0], hW', trodAll_mk1 (shut_bool Tryz.underlying4 _), trodAll_cons_mk (Go.ChangeMaps.shut_string Tryz.underlying9 ws0) trodAll_mk0, vars_read1 enc fnExactReadKernel_g fnExactReadKernel_gt Tryz.underlying89 (var_kept hv0 bel) trivial _, bel.frame _, fun h => by cases h⟩

theorem fnExactReadKernel_facts : joinedFacts Tryz.prog 3 Tryz.f3 Rows.fnExactReadKernelSpec Rows.fnExactReadKernelRow = true := by
  have e1 : (Rows.fnExactReadKernelRow.lifted == Tryz.prog.liftsFinal) = true := by rw [fact_lifts]; kernel_rfl
  have e2 : (Tryz.prog.make == some Rows.fnExactReadKernelRow.make) = true := fact_make
  unfold joinedFacts
  rw [fact_mayEnter, e1, e2]
  change _ = true
  kernel_rfl

theorem fnExactReadKernel_holds : Rows.FnExactReadKernelSaid :=
  OpenClaim.holds_of_wide 3 Tryz.f3 rfl rfl rfl rfl rfl rfl rfl ⟨rfl, rfl, rfl, rfl, rfl⟩ rfl rfl rfl rfl rfl (by kernel_rfl) Tryz.func3 fnExactReadKernel_facts
    (of_decide_eq_true (by kernel_rfl)) (by unfold Func.isWrapper; first | (rw [if_pos (by decide +kernel)]; kernel_rfl) | (rw [if_neg (by decide +kernel)]; exact ⟨rfl, rfl⟩))
    (fun os started H enc _ => fnExactReadKernel_lifted os started H enc)

theorem fnExactReadKernel_card : Rows.FnExactReadKernelCardSaid :=
  Claim7.holds_tied_plain_at .later [] [.sentinel] true (true, "28985cabafcf8b9cb80fc437126f2d4a7d93b40bbd0c3db55bd282800bd638ea") false
    fnExactReadKernel_holds (fun _ h => by cases h) (by kernel_rfl) (fun _ h => by cases h) fnExactReadKernel_row_tie rfl ⟨rfl, rfl⟩ (by kernel_rfl) rfl
    (fun f fn hf hfn => by
      obtain rfl : f = 3 := Option.some.inj ((show Tryz.prog.funcNamed "loop.example/g00272/laws.FnExactReadKernel" = some 3 by kernel_rfl).symm.trans hf) |>.symm
      obtain rfl : fn = Tryz.f3 := (Option.some.inj (Tryz.func3.symm.trans hfn)).symm
      exact ⟨by kernel_rfl, fun j t ht => by
        rw [Tryz.params3] at ht
        match j, ht with
        | 0, ht =>
          have e : t = 9 := by simpa using ht.symm
          rw [e]
          exact (show Tryz.prog.wantsStandIn 9 = false by kernel_rfl)
        | j + 1, ht => simp at ht⟩)
    (by kernel_rfl)
end Go.Proofs.YtjceaajnemgheaaGreatDoor
