/- Two kernels that are the same are right alike. -/
import Derived.Test.YtaaeeaknjlammaaGreatDoorKC2
import Derived.Test.YtaaeeaknjlammaaGreatDoorZB
namespace Go.Proofs.YtaaeeaknjlammaaGreatDoor

theorem findI_congr {ids ids' : Nat → Int} {n : Nat} (h : ∀ i, i < n → ids' i = ids i) (x : Int) : findI ids' n x = findI ids n x := by
  apply Option.ext
  intro j
  unfold findI
  rw [List.find?_range_eq_some, List.find?_range_eq_some]
  constructor
  · rintro ⟨h1, h2, h3⟩
    have hj := List.mem_range.1 h2
    rw [h j hj] at h1
    exact ⟨h1, h2, fun i hi => by have := h3 i hi; rw [h i (by omega)] at this; exact this⟩
  · rintro ⟨h1, h2, h3⟩
    have hj := List.mem_range.1 h2
    rw [← h j hj] at h1
    exact ⟨h1, h2, fun i hi => by have := h3 i hi; rw [← h i (by omega)] at this; exact this⟩
theorem par_congr {ids ids' ups ups' : Nat → Int} {n : Nat} (h : ∀ i, i < n → ids' i = ids i) (hu : ∀ i, i < n → ups' i = ups i) {i : Nat} (hi : i < n) : par ids' ups' n i = par ids ups n i := by
  unfold par
  rw [hu i hi, findI_congr h]
theorem parIt_congr {ids ids' ups ups' : Nat → Int} {n : Nat} (h : ∀ i, i < n → ids' i = ids i) (hu : ∀ i, i < n → ups' i = ups i) (m : Nat) {i : Nat} (hi : i < n) : parIt ids' ups' n m i = parIt ids ups n m i := by
  induction m generalizing i with
  | zero => rfl
  | succ m ih =>
    simp only [parIt]
    rw [par_congr h hu hi]
    cases e : par ids ups n i with
    | none => rfl
    | some j => exact ih (par_lt e)
theorem all_congr {n : Nat} {p q : Nat → Bool} (h : ∀ i, i < n → p i = q i) : (List.range n).all p = (List.range n).all q := by
  rw [Bool.eq_iff_iff]
  constructor
  · intro e; exact all_yes fun i hi => by rw [← h i hi]; exact all_out e i hi
  · intro e; exact all_yes fun i hi => by rw [h i hi]; exact all_out e i hi
theorem reachB_congr {ids ids' ups ups' : Nat → Int} {n : Nat} (h : ∀ i, i < n → ids' i = ids i) (hu : ∀ i, i < n → ups' i = ups i) : reachB ids' ups' n = reachB ids ups n := by
  unfold reachB
  refine all_congr fun i hi => ?_
  congr 1
  funext m
  rw [parIt_congr h hu m hi]
theorem kidsI_congr {ids ids' ups ups' : Nat → Int} {n : Nat} (h : ∀ i, i < n → ids' i = ids i) (hu : ∀ i, i < n → ups' i = ups i) {i : Nat} (hi : i < n) : kidsI ids' ups' n i = kidsI ids ups n i := by
  unfold kidsI
  apply List.filter_congr
  intro j hj
  rw [hu j (List.mem_range.1 hj), h i hi]

theorem thrOk_same {t u : ThrV} (h : t.same u) : thrOkV u = thrOkV t := by
  obtain ⟨h1, h2, ⟨a1, a2, a3⟩, h3, ⟨b1, b2, b3⟩, ⟨c1, c2⟩, h4⟩ := h
  simp only [thrOkV, h1, h2, h3, h4, a1, a2, a3, b1, b2, b3, c1, c2]
theorem objOk_same {t u : ObjV} (h : t.same u) : objOk u = objOk t := by
  obtain ⟨h1, h2, h3, h4, ⟨a1, a2, a3⟩, h5, ⟨d1, d2⟩, ⟨c1, c2⟩, h6, ⟨b1, b2, b3⟩⟩ := h
  simp only [objOk, kindB, h2, h4, h5, h6, a1, a2, a3, b1, b2, b3, c1, c2, d1, d2]
theorem look_congr {f g f' g' : Nat → Int} {n : Nat} (hf : ∀ i, i < n → f' i = f i) (hg : ∀ i, i < n → g' i = g i) (x : Int) : look f' g' n x = look f g n x := by
  induction n with
  | zero => rfl
  | succ n ih =>
    rw [look, look, hf n (by omega), hg n (by omega), ih (fun i hi => hf i (by omega)) (fun i hi => hg i (by omega))]

theorem kerOk_same {k l : KerV} (h : k.same l) : kerOk l = kerOk k := by
  obtain ⟨h1, h2, h3, h4⟩ := h
  have i1 : ∀ i, i < k.on → (l.O i).id = (k.O i).id := fun i hi => (h4 i hi).1
  have u1 : ∀ i, i < k.on → (l.O i).up = (k.O i).up := fun i hi => (h4 i hi).2.2.1
  have k1 : ∀ i, i < k.on → (l.O i).kind = (k.O i).kind := fun i hi => (h4 i hi).2.1
  have t1 : ∀ i, i < k.tn → (l.T i).id = (k.T i).id := fun i hi => (h2 i hi).1
  have m1 : ∀ i, i < k.tn → (l.T i).made = (k.T i).made := fun i hi => (h2 i hi).2.2.2.2.2.2
  by_cases h0 : 1 ≤ k.on
  · have e1 : thrsOk l.tn l.T = thrsOk k.tn k.T := by
      unfold thrsOk
      rw [h1]
      congr 1
      refine all_congr fun i hi => ?_
      unfold thrAt
      rw [thrOk_same (h2 i hi), t1 i hi]
      by_cases e : i = 0
      · subst e; rfl
      · rw [t1 (i - 1) (by omega)]
    have e2 : objsOk l.on l.O = objsOk k.on k.O := by
      unfold objsOk rootB
      rw [h3, i1 0 h0, u1 0 h0, k1 0 h0]
      congr 2
      refine all_congr fun i hi => ?_
      unfold objAt
      rw [objOk_same (h4 i hi), i1 0 h0, i1 i hi]
      by_cases e : i = 0
      · subst e; rfl
      · rw [i1 (i - 1) (by omega)]
    have e3 : numsOk l.tn l.T l.on l.O = numsOk k.tn k.T k.on k.O := by
      unfold numsOk
      rw [h3]
      refine all_congr fun i hi => ?_
      unfold numAt madeOf
      rw [i1 (i + 1) (by omega), h1, look_congr t1 m1]
    have e4 : upsOk l.on l.O = upsOk k.on k.O := by
      unfold upsOk
      rw [h3]
      refine all_congr fun i hi => ?_
      unfold boxAt
      rw [u1 (i + 1) (by omega), findI_congr i1]
      split
      · rename_i u hu; rw [k1 u (findI_some hu).1]
      · rfl
    unfold kerOk
    rw [e1, e2, e3, e4, h3, reachB_congr i1 u1]
  · rw [kerOk_few (k := k) (by omega), kerOk_few (k := l) (by rw [h3]; omega)]
end Go.Proofs.YtaaeeaknjlammaaGreatDoor
