/- FnExactTidy is proved at every input: the call returns true and each argument reads afterwards as before. No condition. -/
import Derived.Test.YtgkfcjcdfbmbjaaGreatKG1
import Derived.Test.YtgkfcjcdfbmbjaaGreatVG
import Derived.Test.YtgkfcjcdfbmbjaaGreatH1
import Derived.Test.YtgkfcjcdfbmbjaaGreatH2
import Derived.Test.YtgkfcjcdfbmbjaaGreatH3
namespace Go.Proofs.YtgkfcjcdfbmbjaaGreat
open Go.ChangeShapes Go.WideShapes Go.ChangeAt Go.RowKit Go.Deep Go.Joins

set_option maxRecDepth 100000 in
theorem fnExactTidy_lifted (os : Os) (started : os.Started) (H : Type) (enc : TypeId × Value → H) :
    ReturnsInHanded {} Tryz.checked os 4 .any (Rows.fnExactTidySpec.pre6 enc Tryz.prog Tryz.f4 Rows.fnExactTidyRow.domain false) (Rows.fnExactTidySpec.post enc Tryz.prog Tryz.f4 false true false false) := by
  refine returnsInHanded_of_change (C := Tryz.checked) Tryz.ownKnob started (by kernel_rfl) Tryz.func4
    (ChangeSpec.witness6 (enc := enc) (C := Tryz.checked) false ⟨#[], #[.agg #[.slice none 0 0, .slice none 0 0], .agg #[.int .i64 0, .slice none 0 0]], []⟩ 8 (by kernel_rfl) (by kernel_rfl) (by kernel_rfl) (by kernel_rfl)) ?_
  intro W base args ds gs before hval0 hW hcnd _
  have hval : ∀ (j : Nat) t v, Tryz.f4.params[j]? = some t → args[j]? = some v → Value.okWide Tryz.prog W .any base t v := hval0
  have hW' := hW
  obtain ⟨p, q, hA0, hV, rfl, hfz, hnd⟩ := hW
  have hA : DataW.TrodAll enc Tryz.prog W 0 (fun _ => true) true Tryz.f4.params.toList args.toList ds p := hA0
  rw [Tryz.params4] at hA hval
  obtain ⟨v0, vs0, d0, ds0, p0, q0, hargs, rfl, rfl, h0, r0⟩ := trodAll_cons hA
  obtain ⟨v1, vs1, d1, ds1, p1, q1, rfl, rfl, rfl, h1, r1⟩ := trodAll_cons r0
  obtain ⟨rfl, rfl, rfl⟩ := trodAll_nil r1
  obtain rfl : args = #[v0, v1] := by cases args; simp_all
  obtain ⟨rfl, rfl⟩ := trodVars_none hV
  have k0 := h0
  have lt0 : ∀ x ∈ p0, x.block < W.heap.size := by obtain ⟨m, hm⟩ := k0; exact DataW.trod_lt m _ _ _ hm
  obtain ⟨K0, rfl, HA0, HC0, HW0⟩ := open_kernel (hval 0 25 v0 rfl rfl) h0
  have k1 := h1
  have lt1 : ∀ x ∈ p1, x.block < W.heap.size := by obtain ⟨m, hm⟩ := k1; exact DataW.trod_lt m _ _ _ hm
  obtain ⟨b1, a1, n1, cp1, f1, g1, rfl, wb1, hn1, hc1, hw1⟩ := open_label (hval 1 28 v1 rfl rfl) h1
  clear hA0 hval0
  refine (exactTidy_walk K0 b1 ⟨a1, n1, cp1, f1, g1⟩ W HA0 HW0 ⟨hn1, hc1⟩).mono fun e W' ⟨he, bel⟩ => ?_
  subst he
  exact ⟨_, rfl, _, _, _, [], _, [], hW', trodAll_mk1 (shut_bool Tryz.underlying4 _), trodAll_cons_mk (Below.trod Tryz.laidOut (by kernel_rfl) (of_decide_eq_true (by kernel_rfl)) k0 bel lt0) (trodAll_cons_mk (Below.trod Tryz.laidOut (by kernel_rfl) (of_decide_eq_true (by kernel_rfl)) k1 bel lt1) trodAll_mk0), rfl, bel.frame _, fun h => by cases h⟩

theorem fnExactTidy_facts : joinedFacts Tryz.prog 4 Tryz.f4 Rows.fnExactTidySpec Rows.fnExactTidyRow = true := by
  have e1 : (Rows.fnExactTidyRow.lifted == Tryz.prog.liftsFinal) = true := by rw [fact_lifts]; kernel_rfl
  have e2 : (Tryz.prog.make == some Rows.fnExactTidyRow.make) = true := fact_make
  unfold joinedFacts
  rw [fact_mayEnter, e1, e2]
  change _ = true
  kernel_rfl

theorem fnExactTidy_holds : Rows.FnExactTidySaid :=
  OpenClaim.holds_of_wide 4 Tryz.f4 rfl rfl rfl rfl rfl rfl rfl ⟨rfl, rfl, rfl, rfl, rfl⟩ rfl rfl rfl rfl rfl (by kernel_rfl) Tryz.func4 fnExactTidy_facts
    (of_decide_eq_true (by kernel_rfl)) (by unfold Func.isWrapper; first | (rw [if_pos (by decide +kernel)]; kernel_rfl) | (rw [if_neg (by decide +kernel)]; exact ⟨rfl, rfl⟩))
    (fun os started H enc _ => fnExactTidy_lifted os started H enc)
end Go.Proofs.YtgkfcjcdfbmbjaaGreat
