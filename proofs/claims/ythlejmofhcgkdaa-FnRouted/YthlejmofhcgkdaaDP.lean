/- A route that is set, plainly: the routes are right, it is there, all others go where they went. -/
import Derived.Test.YthlejmofhcgkdaaDY
namespace Go.Proofs.Ythlejmofhcgkdaa
open Go

/-- a right route has just the addresses from its net on -/
theorem hasR_in {f g h : Nat → Int} {t : Int} {i b : Nat} (hr : rOk (f i) (g i) (h i) = true) (hg : g i = (b : Int)) : hasR f g t i ↔ f i ≤ t ∧ t < f i + 2 ^ (32 - b) := by
  rw [hasR_net hr hg]
  unfold netU
  obtain ⟨_, hm⟩ := rOk_is hr
  rw [hg] at hm
  have e : (32 - (b : Int)).toNat = 32 - b := by omega
  rw [e] at hm
  have hp : (0 : Int) < 2 ^ (32 - b) := Int.pow_pos (by decide)
  generalize (2 : Int) ^ (32 - b) = q at *
  have d := Int.emod_add_mul_ediv (f i) q
  have d2 := Int.emod_add_mul_ediv t q
  have m1 := Int.emod_nonneg t (show q ≠ 0 by omega)
  have m2 := Int.emod_lt_of_pos t hp
  rw [hm, Int.zero_add] at d
  constructor
  · intro e
    rw [Int.mul_comm] at e
    omega
  · rintro ⟨h1, h2⟩
    have : t / q = f i / q := by
      have l1 : q * (f i / q) ≤ q * (t / q) + t % q := by omega
      have l2 : q * (t / q) + t % q < q * (f i / q) + q := by omega
      have a1 : ¬ t / q < f i / q := fun c => by
        have := Int.mul_le_mul_of_nonneg_left (show t / q + 1 ≤ f i / q by omega) (Int.le_of_lt hp)
        rw [Int.mul_add, Int.mul_one] at this
        omega
      have a2 : ¬ f i / q < t / q := fun c => by
        have := Int.mul_le_mul_of_nonneg_left (show f i / q + 1 ≤ t / q by omega) (Int.le_of_lt hp)
        rw [Int.mul_add, Int.mul_one] at this
        omega
      omega
    rw [this, Int.mul_comm]
    exact d.symm
theorem best_pos {f g h : Nat → Int} {t : Int} {n : Nat} (ho : rtsOk n f g h = true) : 0 ≤ (best f g h t n).2 := by
  rcases best_is (f := f) (g := g) (h := h) (t := t) n with e | ⟨i, hi, _, e⟩
  · rw [e]; exact Int.le_refl _
  · rw [e]
    obtain ⟨⟨_, _, _, _, z0, _⟩, _⟩ := rOk_is (rts_at ho hi)
    show 0 ≤ h i
    omega

def xf (X : List R3) (i : Nat) : Int := (at3 X i).1
def xg (X : List R3) (i : Nat) : Int := (at3 X i).2.1
def xh (X : List R3) (i : Nat) : Int := (at3 X i).2.2
theorem at3_get {X : List R3} {i : Nat} (h : i < X.length) : at3 X i = X[i] := by
  unfold at3
  rw [List.getElem?_eq_getElem h]
  rfl
theorem at3_eta (X : List R3) (i : Nat) : (xf X i, xg X i, xh X i) = at3 X i := rfl
/-- a list of routes is right when each is, and each is behind the one ahead of it -/
theorem rts_of {X : List R3} (hl : X.length ≤ 20) (hr : ∀ r ∈ X, rOk r.1 r.2.1 r.2.2 = true) (hp : X.Pairwise (fun r r' => lessR r.1 r.2.1 r'.1 r'.2.1)) : rtsOk X.length (xf X) (xg X) (xh X) = true := by
  rw [rtsOk, decide_eq_true hl, Bool.true_and, List.all_eq_true]
  intro i hi
  have hi' := List.mem_range.1 hi
  have ro : rOk (xf X i) (xg X i) (xh X i) = true := by
    have := hr (at3 X i) (by rw [at3_get hi']; exact List.getElem_mem hi')
    exact this
  rw [okAt, ro, Bool.true_and, Bool.or_eq_true, decide_eq_true_eq, decide_eq_true_eq]
  by_cases e : i = 0
  · exact .inl e
  · right
    have := List.pairwise_iff_getElem.1 hp (i - 1) i (by omega) hi' (by omega)
    rw [← at3_get, ← at3_get] at this
    exact this

section
variable {n s : Nat} {f g h : Nat → Int} {x y z : Int}
theorem seg_mem (a k : Nat) (e : R3) : e ∈ seg f g h a k ↔ ∃ i, a ≤ i ∧ i < a + k ∧ e = (f i, g i, h i) := by
  unfold seg
  rw [List.mem_map]
  constructor
  · rintro ⟨i, hi, rfl⟩
    have := List.mem_range'_1.1 hi
    exact ⟨i, this.1, this.2, rfl⟩
  · rintro ⟨i, h1, h2, rfl⟩
    exact ⟨i, List.mem_range'_1.2 ⟨h1, h2⟩, rfl⟩
theorem seg_sorted (ho : rtsOk n f g h = true) (a k : Nat) (hk : a + k ≤ n) : (seg f g h a k).Pairwise (fun r r' => lessR r.1 r.2.1 r'.1 r'.2.1) := by
  rw [List.pairwise_iff_getElem]
  intro i j hi hj hij
  rw [seg_len] at hi hj
  have e : ∀ m (hm : m < (seg f g h a k).length), (seg f g h a k)[m] = (f (a + m), g (a + m), h (a + m)) := fun m hm => by
    simp [seg]
  rw [e i, e j]
  exact rts_lt ho (show a + i < a + j by omega) (by omega)
/-- the two forms of what is laid, in one: where it goes, what stands ahead of it and behind it -/
theorem laid_form (ho : rtsOk n f g h = true) : ∃ s k a, s ≤ n ∧ a + k = n ∧ s ≤ a ∧ a ≤ s + 1 ∧ laidAll f g h (x, y, z) n = seg f g h 0 s ++ [(x, y, z)] ++ seg f g h a k ∧ (∀ j, j < s → lessR (f j) (g j) x y) ∧ (∀ j, a ≤ j → j < n → lessR x y (f j) (g j)) ∧ (∀ j, s ≤ j → j < a → f j = x ∧ g j = y) := by
  obtain ⟨s, hs, lo, hi⟩ := place ho x y n (Nat.le_refl _)
  by_cases c : s < n ∧ f s = x ∧ g s = y
  · refine ⟨s, n - s - 1, s + 1, hs, by omega, by omega, by omega, all_old ho c.1 lo c.2.1 c.2.2, lo, fun j h1 h2 => ?_, fun j h1 h2 => ?_⟩
    · have := rts_lt ho (show s < j by omega) h2
      rw [c.2.1, c.2.2] at this
      exact this
    · obtain rfl : j = s := by omega
      exact c.2
  · refine ⟨s, n - s, s, hs, by omega, Nat.le_refl _, by omega, all_new ho hs lo hi (fun h q => c ⟨h, q⟩), lo, fun j h1 h2 => ?_, fun j h1 h2 => by omega⟩
    have hsn : s < n := by omega
    have e := hi s (Nat.le_refl _) hsn
    have l0 : lessR x y (f s) (g s) := by
      have ne : ¬ (f s = x ∧ g s = y) := fun q => c ⟨hsn, q⟩
      unfold lessR at e ⊢
      omega
    by_cases q : j = s
    · subst q; exact l0
    · exact less_trans l0 (rts_lt ho (show s < j by omega) h2)
theorem laid_mem (ho : rtsOk n f g h = true) (e : R3) : e ∈ laidAll f g h (x, y, z) n ↔ e = (x, y, z) ∨ ∃ i, i < n ∧ ¬ (f i = x ∧ g i = y) ∧ e = (f i, g i, h i) := by
  obtain ⟨s, k, a, h1, h2, h3, h4, hL, lo, up, eq⟩ := laid_form (x := x) (y := y) (z := z) ho
  rw [hL, List.mem_append, List.mem_append, List.mem_singleton, seg_mem, seg_mem]
  constructor
  · rintro ((⟨i, _, q1, q2⟩ | q) | ⟨i, q1, q2, q3⟩)
    · have := lo i (by omega)
      unfold lessR at this
      exact .inr ⟨i, by omega, by omega, q2⟩
    · exact .inl q
    · have := up i q1 (by omega)
      unfold lessR at this
      exact .inr ⟨i, by omega, by omega, q3⟩
  · rintro (q | ⟨i, q1, q2, q3⟩)
    · exact .inl (.inr q)
    · by_cases c : i < s
      · exact .inl (.inl ⟨i, by omega, by omega, q3⟩)
      · by_cases c' : a ≤ i
        · exact .inr ⟨i, c', by omega, q3⟩
        · exact absurd (eq i (by omega) (by omega)) q2
theorem laid_right (ho : rtsOk n f g h = true) (hr : rOk x y z = true) (hl : (laidAll f g h (x, y, z) n).length ≤ 20) : rtsOk (laidAll f g h (x, y, z) n).length (xf (laidAll f g h (x, y, z) n)) (xg (laidAll f g h (x, y, z) n)) (xh (laidAll f g h (x, y, z) n)) = true := by
  refine rts_of hl (fun r q => ?_) ?_
  · rcases (laid_mem ho r).1 q with rfl | ⟨i, q1, _, rfl⟩
    · exact hr
    · exact rts_at ho q1
  · obtain ⟨s, k, a, h1, h2, h3, h4, hL, lo, up, eq⟩ := laid_form (x := x) (y := y) (z := z) ho
    rw [hL, List.append_assoc, List.pairwise_append]
    refine ⟨seg_sorted ho 0 s (by omega), ?_, fun r q r' q' => ?_⟩
    · rw [List.singleton_append, List.pairwise_cons]
      refine ⟨fun r q => ?_, seg_sorted ho a k (by omega)⟩
      obtain ⟨i, q1, q2, rfl⟩ := (seg_mem a k r).1 q
      exact up i q1 (by omega)
    · obtain ⟨i, _, q2, rfl⟩ := (seg_mem 0 s r).1 q
      have l0 := lo i (by omega)
      rw [List.singleton_append, List.mem_cons] at q'
      rcases q' with rfl | q'
      · exact l0
      · obtain ⟨j, q3, q4, rfl⟩ := (seg_mem a k r').1 q'
        exact less_trans l0 (up j q3 (by omega))
/-- set once more it is as long -/
theorem laid_again (ho : rtsOk n f g h = true) (hr : rOk x y z = true) (hl : (laidAll f g h (x, y, z) n).length ≤ 20) :
    (laidAll (xf (laidAll f g h (x, y, z) n)) (xg (laidAll f g h (x, y, z) n)) (xh (laidAll f g h (x, y, z) n)) (x, y, z) (laidAll f g h (x, y, z) n).length).length = (laidAll f g h (x, y, z) n).length := by
  have hR := laid_right ho hr hl
  obtain ⟨s, k, a, h1, h2, h3, h4, hL, lo, up, eq⟩ := laid_form (x := x) (y := y) (z := z) ho
  have len : (laidAll f g h (x, y, z) n).length = s + 1 + k := by rw [hL]; simp [seg_len]; omega
  have ats : at3 (laidAll f g h (x, y, z) n) s = (x, y, z) := by
    rw [hL]
    unfold at3
    rw [List.append_assoc, List.getElem?_append_right (by rw [seg_len]; exact Nat.le_refl _), seg_len, Nat.sub_self]
    rfl
  generalize laidAll f g h (x, y, z) n = M at *
  have lo' : ∀ j, j < s → lessR (xf M j) (xg M j) x y := fun j hj => by
    have := rts_lt hR (show j < s from hj) (by omega)
    have e1 : xf M s = x := by unfold xf; rw [ats]
    have e2 : xg M s = y := by unfold xg; rw [ats]
    rw [e1, e2] at this
    exact this
  rw [all_old hR (by omega) lo' (by unfold xf; rw [ats]) (by unfold xg; rw [ats])]
  simp [seg_len]
  omega
theorem port_pos (t : Int) {i : Nat} (ho : rtsOk n f g h = true) (hi : i < n) (hh : hasR f g t i) : 0 < (best f g h t n).2 := by
  have hl := best_le (h := h) n i hi hh
  obtain ⟨⟨y0, _⟩, _⟩ := rOk_is (rts_at ho hi)
  rcases best_is (f := f) (g := g) (h := h) (t := t) n with e | ⟨j, hj, _, e⟩
  · rw [e] at hl
    simp only at hl
    omega
  · rw [e]
    obtain ⟨⟨_, _, _, _, z0, _⟩, _⟩ := rOk_is (rts_at ho hj)
    show 0 < h j
    omega
/-- two right lists whose routes that have an address are the same send it the same way -/
theorem port_same {n' : Nat} {f' g' h' : Nat → Int} {t : Int} (ho : rtsOk n f g h = true) (ho' : rtsOk n' f' g' h' = true)
    (l1 : ∀ i, i < n → hasR f g t i → ∃ j, j < n' ∧ hasR f' g' t j ∧ f' j = f i ∧ g' j = g i ∧ h' j = h i) (l2 : ∀ j, j < n' → hasR f' g' t j → ∃ i, i < n ∧ hasR f g t i ∧ f i = f' j ∧ g i = g' j ∧ h i = h' j) : (best f g h t n).2 = (best f' g' h' t n').2 := by
  rcases best_is (f := f') (g := g') (h := h') (t := t) n' with e | ⟨j, hj, hh, e⟩
  · rcases best_is (f := f) (g := g) (h := h) (t := t) n with e' | ⟨i, hi, hh, e'⟩
    · rw [e, e']
    · obtain ⟨j, hj, hh', _⟩ := l1 i hi hh
      have := best_le (h := h') n' j hj hh'
      obtain ⟨⟨y0, _⟩, _⟩ := rOk_is (rts_at ho' hj)
      rw [e] at this
      simp only at this
      omega
  · obtain ⟨i, hi, hh', e1, e2, e3⟩ := l2 j hj hh
    obtain ⟨⟨y0, y1, _⟩, _⟩ := rOk_is (rts_at ho hi)
    obtain ⟨b, hb⟩ : ∃ b : Nat, g i = (b : Int) := ⟨(g i).toNat, by omega⟩
    rw [port_at ho hi hh' hb (fun b' h1 h2 => ?_), e]
    · exact e3
    · rintro ⟨i', q1, q2, q3⟩
      obtain ⟨j', hj', hh'', _, e5, _⟩ := l1 i' q1 q2
      have := best_le (h := h') n' j' hj' hh''
      rw [e] at this
      simp only at this
      omega
/-- all addresses that the route has not go where they went -/
theorem laid_port {t : Int} (ho : rtsOk n f g h = true) (hr : rOk x y z = true) (hl : (laidAll f g h (x, y, z) n).length ≤ 20) (hb : y = ((y.toNat : Nat) : Int)) (ht : ¬ (x ≤ t ∧ t < x + 2 ^ (32 - y.toNat))) :
    (best (xf (laidAll f g h (x, y, z) n)) (xg (laidAll f g h (x, y, z) n)) (xh (laidAll f g h (x, y, z) n)) t (laidAll f g h (x, y, z) n).length).2 = (best f g h t n).2 := by
  have hR := laid_right ho hr hl
  have hm := fun e => laid_mem (x := x) (y := y) (z := z) ho e
  generalize laidAll f g h (x, y, z) n = M at *
  refine port_same hR ho (fun i hi hh => ?_) (fun j hj hh => ?_)
  · rcases (hm (at3 M i)).1 (by rw [at3_get hi]; exact List.getElem_mem hi) with e | ⟨j, q1, q2, q3⟩
    · have e1 : xf M i = x := by unfold xf; rw [e]
      have e2 : xg M i = y := by unfold xg; rw [e]
      have := (hasR_in (t := t) (rts_at hR hi) (show xg M i = ((y.toNat : Nat) : Int) by rw [e2]; exact hb)).1 hh
      rw [e1] at this
      exact absurd this ht
    · have e1 : xf M i = f j := by unfold xf; rw [q3]
      have e2 : xg M i = g j := by unfold xg; rw [q3]
      have e3 : xh M i = h j := by unfold xh; rw [q3]
      refine ⟨j, q1, ?_, e1.symm, e2.symm, e3.symm⟩
      unfold hasR at hh ⊢
      rw [e1, e2] at hh
      exact hh
  · have hne : ¬ (f j = x ∧ g j = y) := by
      rintro ⟨e1, e2⟩
      have := (hasR_in (t := t) (rts_at ho hj) (show g j = ((y.toNat : Nat) : Int) by rw [e2]; exact hb)).1 hh
      rw [e1] at this
      exact ht this
    have := (hm (f j, g j, h j)).2 (.inr ⟨j, hj, hne, rfl⟩)
    obtain ⟨i, hi, ei⟩ := List.getElem_of_mem this
    have ea : at3 M i = (f j, g j, h j) := by rw [at3_get hi]; exact ei
    have e1 : xf M i = f j := by unfold xf; rw [ea]
    have e2 : xg M i = g j := by unfold xg; rw [ea]
    have e3 : xh M i = h j := by unfold xh; rw [ea]
    refine ⟨i, hi, ?_, e1, e2, e3⟩
    unfold hasR at hh ⊢
    rw [e1, e2]
    exact hh
end
end Go.Proofs.Ythlejmofhcgkdaa
