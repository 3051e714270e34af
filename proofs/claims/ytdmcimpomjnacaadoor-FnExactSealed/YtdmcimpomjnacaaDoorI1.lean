/- FnExactSealed, the row: under what the listed table holds the call returns true and each argument reads afterwards as before; and its card. -/
import Derived.Test.YtdmcimpomjnacaaDoorSG
import Derived.Test.YtdmcimpomjnacaaDoorSV
import Derived.Test.YtdmcimpomjnacaaDoorH1
import Derived.Test.YtdmcimpomjnacaaDoorH2
import Derived.Test.YtdmcimpomjnacaaDoorH3
import Derived.Test.YtdmcimpomjnacaaDoorCards
import Derived.Test.YtdmcimpomjnacaaDoorTie
import Derived.ChangeSame
import Derived.ChangeVars
import Derived.JoinedOf
import Derived.LaidLaws
import Derived.LaidHandle
import Derived.Stop.LaidErr
import Derived.Lib.LaidTab
import Derived.Deep.DeepLaidRun
import Derived.SevenTiedAt
namespace Go.Proofs.YtdmcimpomjnacaaDoor
open Go.ChangeShapes Go.WideShapes Go.ChangeAt Go.RowKit Go.Deep Go.Joins

def fnExactSealed_tab : Array Value := #[.int .u32 0, .int .u32 498536548, .int .u32 997073096, .int .u32 651767980, .int .u32 1994146192, .int .u32 1802195444, .int .u32 1303535960, .int .u32 1342533948, .int .u32 3988292384, .int .u32 4027552580, .int .u32 3604390888, .int .u32 3412177804, .int .u32 2607071920, .int .u32 2262029012, .int .u32 2685067896, .int .u32 3183342108]
theorem fnExactSealed_g : Tryd.prog.globalNamed "loop.example/g00272/impl.crcTurns" = some 0 := by kernel_rfl
theorem fnExactSealed_gt : (Tryd.prog.globals[0]?).map (·.type) = some 51 := by kernel_rfl
theorem fnExactSealed_cells : Tryd.prog.cellsOf 51 = 16 := by kernel_rfl
theorem fnExactSealed_tabOf {W : World} (h : laidMetH Tryd.prog Rows.fnExactSealedRow.laid W) : Tab4 W := by
  have h' : laidMet Tryd.prog [("loop.example/g00272/impl.crcTurns", Lib.tabData .u32 (turnsL.map fun (x : Nat) => (x : Int)))] W := h
  have t := Lib.tabIs_of_head fnExactSealed_g fnExactSealed_gt Tryd.underlying51 Tryd.underlying37 (by kernel_rfl) fnExactSealed_cells h'
  intro j hj
  have c := t.cell fnExactSealed_g j (by simpa [turnsL] using hj)
  rw [c]
  match j, hj with

  | 0, _ => rfl
  | 1, _ => rfl
  | 2, _ => rfl
  | 3, _ => rfl
  | 4, _ => rfl
  | 5, _ => rfl
  | 6, _ => rfl
  | 7, _ => rfl
  | 8, _ => rfl
  | 9, _ => rfl
  | 10, _ => rfl
  | 11, _ => rfl
  | 12, _ => rfl
  | 13, _ => rfl
  | 14, _ => rfl
  | 15, _ => rfl
  | j + 16, h => exact absurd h (by omega)

theorem fnExactSealed_laidMet (os : Os) (args : Array Value) : laidMetH Tryd.prog Rows.fnExactSealedRow.laid (({ (World.holding Tryd.prog os ⟨#[], #[], []⟩) with heap := (((World.holding Tryd.prog os ⟨#[], #[], []⟩).heap).modify 0 fun | .cells _ t frozen => .cells fnExactSealed_tab t frozen | o => o) } : World).forCall (fun _ _ => 0) ⟨#[], args, []⟩).memory := by
  show laidMet Tryd.prog Rows.fnExactSealedRow.laid _
  exact laidMet_of_run3 8 (by kernel_rfl) (by kernel_rfl) (by kernel_rfl)

set_option maxRecDepth 100000 in
theorem fnExactSealed_lifted (os : Os) (started : os.Started) (H : Type) (enc : TypeId × Value → H) :
    ReturnsInHanded {} Tryd.checked os 3 .any (fun w args => (Rows.fnExactSealedSpec.pre enc Tryd.prog Tryd.f3 Rows.fnExactSealedRow.domain false w args ∧ laidMetH Tryd.prog Rows.fnExactSealedRow.laid w) ∧ sizedMet enc Tryd.prog Tryd.f3 (OpenSpec.ofChange Rows.fnExactSealedSpec) false w args)
      (Rows.fnExactSealedSpec.post enc Tryd.prog Tryd.f3 false true false false) := by
  refine returnsInHanded_of_change_and (C := Tryd.checked) (X := fun w _ => laidMetH Tryd.prog Rows.fnExactSealedRow.laid w) (fun _ _ _ hh h => h.of_heap hh) Tryd.ownKnob started (by kernel_rfl) Tryd.func3
    (ChangeSpec.witness_at (enc := enc) (C := Tryd.checked) (os := os) (X := fun w _ => laidMetH Tryd.prog Rows.fnExactSealedRow.laid w) false ({ (World.holding Tryd.prog os ⟨#[], #[], []⟩) with heap := (((World.holding Tryd.prog os ⟨#[], #[], []⟩).heap).modify 0 fun | .cells _ t frozen => .cells fnExactSealed_tab t frozen | o => o) } : World) #[.string ⟨#[]⟩, .int .i64 0, .string ⟨#[]⟩] 8 rfl (by kernel_rfl) (by kernel_rfl) (by kernel_rfl) (by kernel_rfl) (by kernel_rfl) (fnExactSealed_laidMet os _)) ?_
  intro W base args ds gs before hval0 hW hcnd _ hL _
  have hval : ∀ (j : Nat) t v, Tryd.f3.params[j]? = some t → args[j]? = some v → Value.okWide Tryd.prog W .any base t v := hval0
  have hW' := hW
  obtain ⟨p, q, hA0, hV, rfl, hfz, hnd⟩ := hW
  have hA : DataW.TrodAll enc Tryd.prog W 0 (fun _ => true) true Tryd.f3.params.toList args.toList ds p := hA0
  rw [Tryd.params3] at hA hval
  obtain ⟨v0, vs0, d0, ds0, p0, q0, hargs, rfl, rfl, h0, r0⟩ := trodAll_cons hA
  obtain ⟨v1, vs1, d1, ds1, p1, q1, rfl, rfl, rfl, h1, r1⟩ := trodAll_cons r0
  obtain ⟨v2, vs2, d2, ds2, p2, q2, rfl, rfl, rfl, h2, r2⟩ := trodAll_cons r1
  obtain ⟨rfl, rfl, rfl⟩ := trodAll_nil r2
  obtain rfl : args = #[v0, v1, v2] := by cases args; simp_all
  have hV2 : DataW.TrodVars enc Tryd.prog W (fun _ => true) ["loop.example/g00272/impl.crcTurns"] gs q := hV
  obtain ⟨s0, rfl, rfl, rfl, ws0⟩ := Go.ChangeMaps.open_string Tryd.underlying9 (hval 0 9 v0 rfl rfl) h0
  obtain ⟨x1, rfl, rfl, rfl, wx1⟩ := open_int Tryd.underlying2 (hval 1 2 v1 rfl rfl) h1
  obtain ⟨s2, rfl, rfl, rfl, ws2⟩ := Go.ChangeMaps.open_string Tryd.underlying9 (hval 2 9 v2 rfl rfl) h2
  clear hA0 hval0
  refine (exactSealed_walk s0 x1 s2 W (fnExactSealed_tabOf hL)).mono fun e W' ⟨he, bel⟩ => ?_
  subst he
  obtain ⟨dv, pv, rfl, hv'⟩ := vars_kept hV2 bel
  exact ⟨_, rfl, _, _, _, [], _, pv, hW', trodAll_mk1 (shut_bool Tryd.underlying4 _), trodAll_cons_mk (Go.ChangeMaps.shut_string Tryd.underlying9 ws0) (trodAll_cons_mk (shut_int Tryd.underlying2 wx1) (trodAll_cons_mk (Go.ChangeMaps.shut_string Tryd.underlying9 ws2) trodAll_mk0)), hv', bel.frame _, fun h => by cases h⟩

theorem fnExactSealed_facts : joinedFacts Tryd.prog 3 Tryd.f3 Rows.fnExactSealedSpec Rows.fnExactSealedRow = true := by
  have e1 : (Rows.fnExactSealedRow.lifted == Tryd.prog.liftsFinal) = true := by rw [fact_lifts]; kernel_rfl
  have e2 : (Tryd.prog.make == some Rows.fnExactSealedRow.make) = true := fact_make
  unfold joinedFacts
  rw [fact_mayEnter, e1, e2]
  change _ = true
  kernel_rfl

theorem fnExactSealed_holds : Rows.FnExactSealedSaid :=
  OpenClaim.holds_of_wide 3 Tryd.f3 rfl rfl rfl rfl rfl rfl rfl ⟨rfl, rfl, rfl, rfl, rfl⟩ rfl rfl rfl rfl rfl (by kernel_rfl) Tryd.func3 fnExactSealed_facts
    (of_decide_eq_true (by kernel_rfl)) (by unfold Func.isWrapper; first | (rw [if_pos (by decide +kernel)]; kernel_rfl) | (rw [if_neg (by decide +kernel)]; exact ⟨rfl, rfl⟩))
    (fun os started H enc _ => fnExactSealed_lifted os started H enc)

theorem fnExactSealed_card : Rows.FnExactSealedCardSaid :=
  Claim7.holds_tied_plain_at .later [] [.data] true (true, "9ba4e7069615b4e55967a023642e7dab6697ef55afb42643dc3a64c90cfe6039") false
    fnExactSealed_holds (fun _ h => by cases h) (by kernel_rfl) (fun _ h => by cases h) fnExactSealed_row_tie rfl ⟨rfl, rfl⟩ (by kernel_rfl) rfl
    (fun f fn hf hfn => by
      obtain rfl : f = 3 := Option.some.inj ((show Tryd.prog.funcNamed "loop.example/g00272/laws.FnExactSealed" = some 3 by kernel_rfl).symm.trans hf) |>.symm
      obtain rfl : fn = Tryd.f3 := (Option.some.inj (Tryd.func3.symm.trans hfn)).symm
      exact ⟨by kernel_rfl, fun j t ht => by
        rw [Tryd.params3] at ht
        match j, ht with
        | 0, ht =>
          have e : t = 9 := by simpa using ht.symm
          rw [e]
          exact (show Tryd.prog.wantsStandIn 9 = false by kernel_rfl)
        | 1, ht =>
          have e : t = 2 := by simpa using ht.symm
          rw [e]
          exact (show Tryd.prog.wantsStandIn 2 = false by kernel_rfl)
        | 2, ht =>
          have e : t = 9 := by simpa using ht.symm
          rw [e]
          exact (show Tryd.prog.wantsStandIn 9 = false by kernel_rfl)
        | j + 3, ht => simp at ht⟩)
    (by kernel_rfl)
end Go.Proofs.YtdmcimpomjnacaaDoor
