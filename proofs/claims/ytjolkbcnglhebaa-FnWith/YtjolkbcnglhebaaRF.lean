/- Being below is an order on right labels: the plain part of FnOrder. -/
import Derived.Test.YtjolkbcnglhebaaJA
namespace Go.Proofs.Ytjolkbcnglhebaa
open Go.RowKit Go.Deep Go.Maps

theorem leqB_iff {ba : Int} {na : Nat} {fa ga : Nat → Int} {bb : Int} {nb : Nat} {fb gb : Nat → Int} :
    leqB ba na fa ga bb nb fb gb = true ↔ labOk ba na fa ga = true ∧ labOk bb nb fb gb = true ∧ ba ≤ bb ∧ ∀ x, levOf ba na fa ga x ≤ levOf bb nb fb gb x := by
  constructor
  · intro h
    simp only [leqB, Bool.and_eq_true] at h
    obtain ⟨⟨ta, tb⟩, hf⟩ := h
    have hb : ba ≤ bb := by
      apply Int.not_lt.1
      intro hlt
      rw [flowsB_base hlt] at hf
      cases hf
    refine ⟨ta, tb, hb, fun x => ?_⟩
    by_cases hx : ∃ i, i < na + nb ∧ glue na fa fb i = x
    · obtain ⟨i, hi, rfl⟩ := hx
      apply Int.not_lt.1
      intro hlt
      have : flowsB ba na fa ga 0 (fun _ => 0) bb nb fb gb = false := flowsB_at hi (by simp [letB, hasB, hlt])
      rw [this] at hf
      cases hf
    · have hn : ¬ ((look fa ga na x).isSome || (look fb gb nb x).isSome) = true := fun h => hx ((named_iff (rising (labOk_out ta).2.2) (rising (labOk_out tb).2.2) x).2 h)
      have h1 : look fa ga na x = none := by cases h : look fa ga na x with | none => rfl | some v => exact absurd (by simp [h]) hn
      have h2 : look fb gb nb x = none := by cases h : look fb gb nb x with | none => rfl | some v => exact absurd (by simp [h]) hn
      simp only [levOf, h1, h2, Option.getD_none]
      exact hb
  · rintro ⟨ta, tb, hb, hl⟩
    have hf : flowsB ba na fa ga 0 (fun _ => 0) bb nb fb gb = true := flowsB_mk hb (fun i _ => by
      have := hl (glue na fa fb i)
      simp only [letB, Bool.or_eq_true, Bool.not_eq_true', decide_eq_false_iff_not]
      right
      omega)
    simp [leqB, ta, tb, hf]

theorem leqB_refl (ba : Int) (na : Nat) (fa ga : Nat → Int) : leqB ba na fa ga ba na fa ga = labOk ba na fa ga := by
  cases t : labOk ba na fa ga with
  | true => exact leqB_iff.2 ⟨t, t, Int.le_refl _, fun _ => Int.le_refl _⟩
  | false => simp [leqB, t]

theorem leqB_trans {ba : Int} {na : Nat} {fa ga : Nat → Int} {bb : Int} {nb : Nat} {fb gb : Nat → Int} {bc : Int} {nc : Nat} {fc gc : Nat → Int}
    (h1 : leqB ba na fa ga bb nb fb gb = true) (h2 : leqB bb nb fb gb bc nc fc gc = true) : leqB ba na fa ga bc nc fc gc = true := by
  obtain ⟨t1, _, p1, q1⟩ := leqB_iff.1 h1
  obtain ⟨_, t3, p2, q2⟩ := leqB_iff.1 h2
  exact leqB_iff.2 ⟨t1, t3, Int.le_trans p1 p2, fun x => Int.le_trans (q1 x) (q2 x)⟩

theorem list_rise {l : List (Int × Int)} (h : ∀ j, j < l.length → ∀ i, i < j → fstAt l i < fstAt l j) : l.Pairwise (fun a b => a.1 < b.1) := by
  rw [List.pairwise_iff_getElem]
  intro i j hi hj hij
  have := h j hj i hij
  simpa [fstAt, hi, hj] using this

theorem look_lev {base : Int} {l : List (Int × Int)} (ok : labOk base l.length (fstAt l) (sndAt l) = true) (p : Int × Int) : p ∈ l ↔ levOf base l.length (fstAt l) (sndAt l) p.1 = p.2 ∧ p.2 ≠ base := by
  have hr := rising (labOk_out ok).2.2
  rw [mem_at]
  obtain ⟨x, v⟩ := p
  dsimp only
  constructor
  · rintro ⟨i, hi, e⟩
    simp only [Prod.mk.injEq] at e
    obtain ⟨rfl, rfl⟩ := e
    refine ⟨?_, (catOk_iff.1 ((labOk_out ok).2.2 i hi)).2.2.1⟩
    simp only [levOf, look_some hr hi, Option.getD_some]
  · rintro ⟨h1, h2⟩
    cases e : look (fstAt l) (sndAt l) l.length x with
    | none => simp only [levOf, e, Option.getD_none] at h1; exact absurd h1.symm h2
    | some u =>
      simp only [levOf, e, Option.getD_some] at h1
      subst h1
      obtain ⟨i, hi, e1, e2⟩ := (look_eq hr).1 e
      exact ⟨i, hi, by rw [e1, e2]⟩

/-- a right label is told by its base and its levels -/
theorem label_ext {b1 b2 : Int} {l1 l2 : List (Int × Int)} (t1 : labOk b1 l1.length (fstAt l1) (sndAt l1) = true) (t2 : labOk b2 l2.length (fstAt l2) (sndAt l2) = true) (hb : b1 = b2)
    (hl : ∀ x, levOf b1 l1.length (fstAt l1) (sndAt l1) x = levOf b2 l2.length (fstAt l2) (sndAt l2) x) : l1 = l2 := by
  refine eq_of_rising (list_rise (rising (labOk_out t1).2.2)) (list_rise (rising (labOk_out t2).2.2)) fun p => ?_
  rw [look_lev t1 p, look_lev t2 p, hl, hb]

theorem leqB_anti {b1 b2 : Int} {l1 l2 : List (Int × Int)} (h1 : leqB b1 l1.length (fstAt l1) (sndAt l1) b2 l2.length (fstAt l2) (sndAt l2) = true) (h2 : leqB b2 l2.length (fstAt l2) (sndAt l2) b1 l1.length (fstAt l1) (sndAt l1) = true) : b1 = b2 ∧ l1 = l2 := by
  obtain ⟨t1, t2, p1, q1⟩ := leqB_iff.1 h1
  obtain ⟨_, _, p2, q2⟩ := leqB_iff.1 h2
  have hb : b1 = b2 := Int.le_antisymm p1 p2
  exact ⟨hb, label_ext t1 t2 hb (fun x => Int.le_antisymm (q1 x) (q2 x))⟩
end Go.Proofs.Ytjolkbcnglhebaa
