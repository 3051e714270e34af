/- FnStepTexts, the row: under what the listed variables hold the call returns true and each argument reads afterwards as before; and its card. -/
import Derived.Test.YthbmfbnnemgbpaaGreatDoorYW
import Derived.Test.YthbmfbnnemgbpaaGreatDoorZ49
import Derived.Test.YthbmfbnnemgbpaaGreatDoorH1
import Derived.Test.YthbmfbnnemgbpaaGreatDoorH2
import Derived.Test.YthbmfbnnemgbpaaGreatDoorH3
import Derived.Test.YthbmfbnnemgbpaaGreatDoorCards
import Derived.Test.YthbmfbnnemgbpaaGreatDoorTie
import Derived.ChangeSame
import Derived.ChangeVars
import Derived.JoinedOf
import Derived.LaidLaws
import Derived.LaidHandle
import Derived.Stop.LaidErr
import Derived.Lib.LaidTab
import Derived.Deep.DeepLaidRun
import Derived.SevenTiedAt
namespace Go.Proofs.YthbmfbnnemgbpaaGreatDoor
open Go.ChangeShapes Go.WideShapes Go.ChangeAt Go.RowKit Go.Deep Go.Joins
def tab1 : Array Value := #[.int .u64 1, .int .u64 10, .int .u64 100, .int .u64 1000, .int .u64 10000, .int .u64 100000, .int .u64 1000000, .int .u64 10000000, .int .u64 100000000, .int .u64 1000000000, .int .u64 10000000000, .int .u64 100000000000, .int .u64 1000000000000, .int .u64 10000000000000, .int .u64 100000000000000, .int .u64 1000000000000000, .int .u64 10000000000000000, .int .u64 100000000000000000, .int .u64 1000000000000000000, .int .u64 10000000000000000000]
def tab2 : Array Value := #[.int .u8 0, .int .u8 1, .int .u8 28, .int .u8 2, .int .u8 29, .int .u8 14, .int .u8 24, .int .u8 3, .int .u8 30, .int .u8 22, .int .u8 20, .int .u8 15, .int .u8 25, .int .u8 17, .int .u8 4, .int .u8 8, .int .u8 31, .int .u8 27, .int .u8 13, .int .u8 23, .int .u8 21, .int .u8 19, .int .u8 16, .int .u8 7, .int .u8 26, .int .u8 12, .int .u8 18, .int .u8 6, .int .u8 11, .int .u8 5, .int .u8 10, .int .u8 9]
def tab3 : Array Value := #[.int .u8 0, .int .u8 1, .int .u8 56, .int .u8 2, .int .u8 57, .int .u8 49, .int .u8 28, .int .u8 3, .int .u8 61, .int .u8 58, .int .u8 42, .int .u8 50, .int .u8 38, .int .u8 29, .int .u8 17, .int .u8 4, .int .u8 62, .int .u8 47, .int .u8 59, .int .u8 36, .int .u8 45, .int .u8 43, .int .u8 51, .int .u8 22, .int .u8 53, .int .u8 39, .int .u8 33, .int .u8 30, .int .u8 24, .int .u8 18, .int .u8 12, .int .u8 5, .int .u8 63, .int .u8 55, .int .u8 48, .int .u8 27, .int .u8 60, .int .u8 41, .int .u8 37, .int .u8 16, .int .u8 46, .int .u8 35, .int .u8 44, .int .u8 21, .int .u8 52, .int .u8 32, .int .u8 23, .int .u8 11, .int .u8 54, .int .u8 26, .int .u8 40, .int .u8 15, .int .u8 34, .int .u8 20, .int .u8 31, .int .u8 10, .int .u8 25, .int .u8 14, .int .u8 19, .int .u8 9, .int .u8 13, .int .u8 8, .int .u8 7, .int .u8 6]
def errS : ByteArray := ⟨#[116, 104, 101, 32, 116, 101, 120, 116, 32, 105, 115, 32, 110, 111, 116, 32, 97, 115, 32, 105, 116, 32, 119, 111, 117, 108, 100, 32, 98, 101, 32, 119, 114, 105, 116, 116, 101, 110]⟩
theorem Tryz.g2 : Tryz.prog.globalNamed "internal/strconv.uint64pow10" = some 2 := by kernel_rfl
theorem Tryz.g2t : (Tryz.prog.globals[2]?).map (·.type) = some 140 := by kernel_rfl
theorem Tryz.cells140 : Tryz.prog.cellsOf 140 = 20 := by kernel_rfl
theorem err_g : Tryz.prog.globalNamed "loop.example/g00272/impl.errText" = some 0 := by kernel_rfl
theorem err_gt : (Tryz.prog.globals[0]?).map (·.type) = some 93 := by kernel_rfl
theorem err_cells : Tryz.prog.cellsOf 165 = 1 := by kernel_rfl
theorem err_cells9 : Tryz.prog.cellsOf 9 = 1 := by kernel_rfl
theorem err_star : "*" ++ "errors.errorString" = "*errors.errorString" := by decide
theorem err_row (u : TypeId) (h : Tryz.prog.typeName? 3 u = some "*errors.errorString") : u = 151 :=
 typeName_ptr_named (nm := "errors.errorString") (by rw [err_star]; kernel_rfl) (by kernel_rfl) (by decide) u (by rw [err_star]; exact h)
theorem laid_list {W : World} (h : laidMetH Tryz.prog Rows.fnStepTextsRow.laid W) : laidMet Tryz.prog [("math/bits.deBruijn32tab", Rows.laid_math_bits_deBruijn32tab), ("math/bits.deBruijn64tab", Rows.laid_math_bits_deBruijn64tab), ("internal/strconv.uint64pow10", Lib.tabData .u64 Lib.pow10Tab), ("loop.example/g00272/impl.errText", Rows.laid_loop_example_g00272_impl_errText)] W := h
theorem tab_of_laid {W : World} (h : laidMetH Tryz.prog Rows.fnStepTextsRow.laid W) : Tab W :=
 Lib.tabIs_of_head Tryz.g2 Tryz.g2t Tryz.underlying140 Tryz.underlying113 (by kernel_rfl) Tryz.cells140 (laid_list h).tail.tail
theorem err_of {W : World} (h : laidMetH Tryz.prog Rows.fnStepTextsRow.laid W) : ∃ a : Addr, W.var? Tryz.prog "loop.example/g00272/impl.errText" = some #[.iface 151 (.pointer (some a))] := by
 obtain ⟨a, s, hv, _⟩ := laid_sentinel (laid_list h).tail.tail.tail err_g err_gt Tryz.underlying93 err_row Tryz.underlying151 Tryz.underlying165 rfl rfl Tryz.underlying9 err_cells err_cells9
 exact ⟨a, hv⟩
theorem var_lt {W : World} {cs : Array Value} (h : W.var? Tryz.prog "loop.example/g00272/impl.errText" = some cs) : 0 < W.heap.size := by
 by_cases e : 0 < W.heap.size
 ·exact e
 ·simp only [World.var?, err_g, Option.bind_some] at h
  rw [Array.getElem?_eq_none (by omega)] at h
  cases h
theorem var_kept {W W' : World} {cs : Array Value} (h : W.var? Tryz.prog "loop.example/g00272/impl.errText" = some cs) (bel : Below W.heap.size W W') : W'.var? Tryz.prog "loop.example/g00272/impl.errText" = some cs := by
 have h0 := var_lt h
 unfold World.var? at h ⊢
 simp only [err_g, Option.bind_some] at h ⊢
 rw [bel.block 0 h0]
 exact h
noncomputable def low : Nat := (World.holding Tryz.prog default ⟨#[], #[], []⟩).heap.size
noncomputable def laidWorld (os : Os) : World :=
 let w0 := World.holding Tryz.prog os ⟨#[.cells #[.string errS] 165], #[], []⟩
 { w0 with heap := ((((w0.heap.modify 0 fun
  | .cells _ t frozen => .cells #[.iface 151 (.pointer (some ⟨low, 0, none⟩))] t frozen
  | o => o).modify 2 fun | .cells _ t frozen => .cells tab1 t frozen | o => o).modify 3 fun | .cells _ t frozen => .cells tab2 t frozen | o => o).modify 4 fun | .cells _ t frozen => .cells tab3 t frozen | o => o) }
theorem laid_met (os : Os) (args : Array Value) : laidMetH Tryz.prog Rows.fnStepTextsRow.laid ((laidWorld os).forCall (fun _ _ => 0) ⟨#[], args, []⟩).memory := by
 show laidMet Tryz.prog Rows.fnStepTextsRow.laid _
 exact laidMet_of_run3 8 (by kernel_rfl) (by kernel_rfl) (by kernel_rfl)
set_option maxRecDepth 100000 in
theorem fnStepTexts_lifted (os : Os) (started : os.Started) (H : Type) (enc : TypeId × Value → H) :
 ReturnsInHanded {} Tryz.checked os 3 .any (fun w args => (Rows.fnStepTextsSpec.pre enc Tryz.prog Tryz.f3 Rows.fnStepTextsRow.domain false w args ∧ laidMetH Tryz.prog Rows.fnStepTextsRow.laid w) ∧ sizedMet enc Tryz.prog Tryz.f3 (OpenSpec.ofChange Rows.fnStepTextsSpec) false w args)
  (Rows.fnStepTextsSpec.post enc Tryz.prog Tryz.f3 false true false false) := by
 refine returnsInHanded_of_change_and (C := Tryz.checked) (X := fun w _ => laidMetH Tryz.prog Rows.fnStepTextsRow.laid w) (fun _ _ _ hh h => h.of_heap hh) Tryz.ownKnob started (by kernel_rfl) Tryz.func3
  (ChangeSpec.witness_at (enc := enc) (C := Tryz.checked) (os := os) (X := fun w _ => laidMetH Tryz.prog Rows.fnStepTextsRow.laid w) false (laidWorld os) #[.slice none 0 0] 8 rfl (by kernel_rfl) (by kernel_rfl) (by kernel_rfl) (by kernel_rfl) (by kernel_rfl) (laid_met os _)) ?_
 intro W base args ds gs before hval0 hW hcnd _ hL _
 have hval : ∀ (j : Nat) t v, Tryz.f3.params[j]? = some t → args[j]? = some v → Value.okWide Tryz.prog W .any base t v := hval0
 have hW' := hW
 obtain ⟨p, q, hA0, hV, rfl, hfz, hnd⟩ := hW
 have hA : DataW.TrodAll enc Tryz.prog W 0 (fun _ => true) true Tryz.f3.params.toList args.toList ds p := hA0
 rw [Tryz.params3] at hA hval
 obtain ⟨v0, vs0, d0, ds0, p0, q0, hargs, rfl, rfl, h0, r0⟩ := trodAll_cons hA
 obtain ⟨rfl, rfl, rfl⟩ := trodAll_nil r0
 obtain rfl : args = #[v0] := by cases args; simp_all
 have hV2 : DataW.TrodVars enc Tryz.prog W (fun _ => true) ["loop.example/g00272/impl.errText"] gs q := hV
 have k0 := h0
 have lt0 : ∀ x ∈ p0, x.block < W.heap.size := by obtain ⟨m, hm⟩ := k0; exact DataW.trod_lt m _ _ _ hm
 obtain ⟨a0, n0, c0, rfl, hc0⟩ := open_codeArg (hval 0 22 v0 rfl rfl) h0
 clear hA0 hval0
 obtain ⟨a1, hv0⟩ := err_of hL
 obtain ⟨rfl, rfl⟩ := hV2.unique (vars_read1 enc err_g err_gt Tryz.underlying93 hv0 trivial _)
 have hE : Err 151 (.pointer (some a1)) W := ⟨by simpa using World.var?_cell err_g hv0 0, var_lt hv0⟩
 refine (stepTexts_walk 151 (.pointer (some a1)) a0 n0 c0 W hc0 (tab_of_laid hL) hE).mono fun e W' ⟨he, bel⟩ => ?_
 subst he
 exact ⟨_, rfl, _, _, _, [], _, [.cell 0 0], hW', trodAll_mk1 (shut_bool Tryz.underlying4 _), trodAll_cons_mk (Below.trod Tryz.laidOut (by kernel_rfl) (of_decide_eq_true (by kernel_rfl)) k0 bel lt0) trodAll_mk0, vars_read1 enc err_g err_gt Tryz.underlying93 (var_kept hv0 bel) trivial _, bel.frame _, fun h => by cases h⟩
theorem fnStepTexts_facts : joinedFacts Tryz.prog 3 Tryz.f3 Rows.fnStepTextsSpec Rows.fnStepTextsRow = true := by
 have e1 : (Rows.fnStepTextsRow.lifted == Tryz.prog.liftsFinal) = true := by rw [fact_lifts]; kernel_rfl
 have e2 : (Tryz.prog.make == some Rows.fnStepTextsRow.make) = true := fact_make
 unfold joinedFacts
 rw [fact_mayEnter, e1, e2]
 change _ = true
 kernel_rfl
theorem fnStepTexts_holds : Rows.FnStepTextsSaid :=
 OpenClaim.holds_of_wide 3 Tryz.f3 rfl rfl rfl rfl rfl rfl rfl ⟨rfl, rfl, rfl, rfl, rfl⟩ rfl rfl rfl rfl rfl (by kernel_rfl) Tryz.func3 fnStepTexts_facts
  (of_decide_eq_true (by kernel_rfl)) (by unfold Func.isWrapper; first | (rw [if_pos (by decide +kernel)]; kernel_rfl) | (rw [if_neg (by decide +kernel)]; exact ⟨rfl, rfl⟩))
  (fun os started H enc _ => fnStepTexts_lifted os started H enc)
theorem fnStepTexts_card : Rows.FnStepTextsCardSaid :=
 Claim7.holds_tied_plain_at .later [] [.data, .data, .data, .sentinel] true (true, "b0828a67a85256594095690e67b717ca5eaa4169442a410b7c0613f0f20b7d8f") false
  fnStepTexts_holds (fun _ h => by cases h) (by kernel_rfl) (fun _ h => by cases h) fnStepTexts_row_tie rfl ⟨rfl, rfl⟩ (by kernel_rfl) rfl
  (fun f fn hf hfn => by
    obtain rfl : f = 3 := Option.some.inj ((show Tryz.prog.funcNamed "loop.example/g00272/laws.FnStepTexts" = some 3 by kernel_rfl).symm.trans hf) |>.symm
    obtain rfl : fn = Tryz.f3 := (Option.some.inj (Tryz.func3.symm.trans hfn)).symm
    exact ⟨by kernel_rfl, fun j t ht => by
     rw [Tryz.params3] at ht
     have h3 : t = 22 := by
      rcases j with _ | j
      ·simpa using ht.symm
      ·simp at ht
     subst h3
     exact (show Tryz.prog.wantsStandIn 22 = false by kernel_rfl)⟩)
  (by kernel_rfl)
end Go.Proofs.YthbmfbnnemgbpaaGreatDoor
