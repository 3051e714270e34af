/- The join is the least above two labels, the meet the greatest below: the plain part of FnJoin. -/
import Derived.Test.YtjmfaffghkclbaaRF
namespace Go.Proofs.Ytjmfaffghkclbaa
open Go.RowKit Go.Deep Go.Maps

section
variable {pk : Int → Int → Int} {ba : Int} {na : Nat} {fa ga : Nat → Int} {bb : Int} {nb : Nat} {fb gb : Nat → Int}

theorem mgOk_out (h : mgOk pk ba na fa ga bb nb fb gb = true) : labOk ba na fa ga = true ∧ labOk bb nb fb gb = true ∧ (mgAll pk ba na fa ga bb nb fb gb).length ≤ 12 := by
  simp only [mgOk, Bool.and_eq_true, decide_eq_true_eq] at h
  exact ⟨h.1.1, h.1.2, h.2⟩

theorem mg_lev (hp : Picks pk) (h : mgOk pk ba na fa ga bb nb fb gb = true) (x : Int) :
    levOf (pk ba bb) (mgAll pk ba na fa ga bb nb fb gb).length (fstAt (mgAll pk ba na fa ga bb nb fb gb)) (sndAt (mgAll pk ba na fa ga bb nb fb gb)) x = pkLev pk ba na fa ga bb nb fb gb x := by
  obtain ⟨ta, tb, hl⟩ := mgOk_out h
  have ok := mgAll_ok hp ta tb
  rw [decide_eq_true hl] at ok
  obtain ⟨i1, i2⟩ := foldTo_spec (pk ba bb) (glue na fa fb) (pkLev pk ba na fa ga bb nb fb gb) (na + nb)
  have hm : ∀ p, p ∈ mgAll pk ba na fa ga bb nb fb gb ↔ (∃ i, i < na + nb ∧ glue na fa fb i = p.1) ∧ p.2 = pkLev pk ba na fa ga bb nb fb gb p.1 ∧ p.2 ≠ pk ba bb := i2
  by_cases hx : (∃ i, i < na + nb ∧ glue na fa fb i = x) ∧ pkLev pk ba na fa ga bb nb fb gb x ≠ pk ba bb
  · exact ((look_lev ok (x, pkLev pk ba na fa ga bb nb fb gb x)).1 ((hm _).2 ⟨hx.1, rfl, hx.2⟩)).1
  · have hbase : pkLev pk ba na fa ga bb nb fb gb x = pk ba bb := by
      by_cases hn : ∃ i, i < na + nb ∧ glue na fa fb i = x
      · apply Classical.byContradiction
        intro hne
        exact hx ⟨hn, hne⟩
      · have hn' : ¬ ((look fa ga na x).isSome || (look fb gb nb x).isSome) = true := fun h => hn ((named_iff (rising (labOk_out ta).2.2) (rising (labOk_out tb).2.2) x).2 h)
        have h1 : look fa ga na x = none := by cases h : look fa ga na x with | none => rfl | some v => exact absurd (by simp [h]) hn'
        have h2 : look fb gb nb x = none := by cases h : look fb gb nb x with | none => rfl | some v => exact absurd (by simp [h]) hn'
        simp only [pkLev, levOf, h1, h2, Option.getD_none]
    rw [hbase]
    apply Classical.byContradiction
    intro hne
    have := (hm (x, levOf (pk ba bb) (mgAll pk ba na fa ga bb nb fb gb).length (fstAt (mgAll pk ba na fa ga bb nb fb gb)) (sndAt (mgAll pk ba na fa ga bb nb fb gb)) x)).1 ((look_lev ok _).2 ⟨rfl, hne⟩)
    exact hne (this.2.1.trans hbase)

theorem mg_ok (hp : Picks pk) (h : mgOk pk ba na fa ga bb nb fb gb = true) : labOk (pk ba bb) (mgAll pk ba na fa ga bb nb fb gb).length (fstAt (mgAll pk ba na fa ga bb nb fb gb)) (sndAt (mgAll pk ba na fa ga bb nb fb gb)) = true := by
  obtain ⟨ta, tb, hl⟩ := mgOk_out h
  rw [mgAll_ok hp ta tb, decide_eq_true hl]
end

section
variable {ba : Int} {na : Nat} {fa ga : Nat → Int} {bb : Int} {nb : Nat} {fb gb : Nat → Int} {bc : Int} {nc : Nat} {fc gc : Nat → Int}
theorem join_a (h : mgOk max ba na fa ga bb nb fb gb = true) : leqB ba na fa ga (max ba bb) (mgAll max ba na fa ga bb nb fb gb).length (fstAt (mgAll max ba na fa ga bb nb fb gb)) (sndAt (mgAll max ba na fa ga bb nb fb gb)) = true :=
  leqB_iff.2 ⟨(mgOk_out h).1, mg_ok picks_max h, by omega, fun x => by rw [mg_lev picks_max h]; unfold pkLev; omega⟩
theorem join_b (h : mgOk max ba na fa ga bb nb fb gb = true) : leqB bb nb fb gb (max ba bb) (mgAll max ba na fa ga bb nb fb gb).length (fstAt (mgAll max ba na fa ga bb nb fb gb)) (sndAt (mgAll max ba na fa ga bb nb fb gb)) = true :=
  leqB_iff.2 ⟨(mgOk_out h).2.1, mg_ok picks_max h, by omega, fun x => by rw [mg_lev picks_max h]; unfold pkLev; omega⟩
theorem join_c (h : mgOk max ba na fa ga bb nb fb gb = true) : leqB (max ba bb) (mgAll max ba na fa ga bb nb fb gb).length (fstAt (mgAll max ba na fa ga bb nb fb gb)) (sndAt (mgAll max ba na fa ga bb nb fb gb)) bc nc fc gc = (leqB ba na fa ga bc nc fc gc && leqB bb nb fb gb bc nc fc gc) := by
  rw [Bool.eq_iff_iff, Bool.and_eq_true, leqB_iff, leqB_iff, leqB_iff]
  constructor
  · rintro ⟨_, tc, p, q⟩
    refine ⟨⟨(mgOk_out h).1, tc, by omega, fun x => ?_⟩, (mgOk_out h).2.1, tc, by omega, fun x => ?_⟩ <;> have := q x <;> rw [mg_lev picks_max h] at this <;> unfold pkLev at this <;> omega
  · rintro ⟨⟨_, tc, p1, q1⟩, _, _, p2, q2⟩
    exact ⟨mg_ok picks_max h, tc, by omega, fun x => by rw [mg_lev picks_max h]; unfold pkLev; have := q1 x; have := q2 x; omega⟩
theorem meet_a (h : mgOk min ba na fa ga bb nb fb gb = true) : leqB (min ba bb) (mgAll min ba na fa ga bb nb fb gb).length (fstAt (mgAll min ba na fa ga bb nb fb gb)) (sndAt (mgAll min ba na fa ga bb nb fb gb)) ba na fa ga = true :=
  leqB_iff.2 ⟨mg_ok picks_min h, (mgOk_out h).1, by omega, fun x => by rw [mg_lev picks_min h]; unfold pkLev; omega⟩
theorem meet_b (h : mgOk min ba na fa ga bb nb fb gb = true) : leqB (min ba bb) (mgAll min ba na fa ga bb nb fb gb).length (fstAt (mgAll min ba na fa ga bb nb fb gb)) (sndAt (mgAll min ba na fa ga bb nb fb gb)) bb nb fb gb = true :=
  leqB_iff.2 ⟨mg_ok picks_min h, (mgOk_out h).2.1, by omega, fun x => by rw [mg_lev picks_min h]; unfold pkLev; omega⟩
theorem meet_c (h : mgOk min ba na fa ga bb nb fb gb = true) : leqB bc nc fc gc (min ba bb) (mgAll min ba na fa ga bb nb fb gb).length (fstAt (mgAll min ba na fa ga bb nb fb gb)) (sndAt (mgAll min ba na fa ga bb nb fb gb)) = (leqB bc nc fc gc ba na fa ga && leqB bc nc fc gc bb nb fb gb) := by
  rw [Bool.eq_iff_iff, Bool.and_eq_true, leqB_iff, leqB_iff, leqB_iff]
  constructor
  · rintro ⟨tc, _, p, q⟩
    refine ⟨⟨tc, (mgOk_out h).1, by omega, fun x => ?_⟩, tc, (mgOk_out h).2.1, by omega, fun x => ?_⟩ <;> have := q x <;> rw [mg_lev picks_min h] at this <;> unfold pkLev at this <;> omega
  · rintro ⟨⟨tc, _, p1, q1⟩, _, _, p2, q2⟩
    exact ⟨tc, mg_ok picks_min h, by omega, fun x => by rw [mg_lev picks_min h]; unfold pkLev; have := q1 x; have := q2 x; omega⟩
end
end Go.Proofs.Ytjmfaffghkclbaa
