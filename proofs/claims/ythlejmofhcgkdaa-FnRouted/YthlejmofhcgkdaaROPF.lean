/- Where a route lies among routes, plainly: what is laid is what is put together. -/
import Derived.Test.YthlejmofhcgkdaaROPE
namespace Go.Proofs.Ythlejmofhcgkdaa
open Go

theorem rts_less {n i : Nat} {f g h : Nat → Int} (ho : rtsOk n f g h = true) (hi : i + 1 < n) : lessR (f i) (g i) (f (i + 1)) (g (i + 1)) := by
  rw [rtsOk, Bool.and_eq_true, List.all_eq_true] at ho
  have := ho.2 (i + 1) (List.mem_range.2 hi)
  rw [okAt, Bool.and_eq_true, Nat.add_sub_cancel, decide_eq_false (by omega), Bool.false_or, decide_eq_true_eq] at this
  exact this.2
theorem less_trans {a b c d e f : Int} (h : lessR a b c d) (k : lessR c d e f) : lessR a b e f := by unfold lessR at *; omega
theorem rts_far {n : Nat} {f g h : Nat → Int} (ho : rtsOk n f g h = true) (i d : Nat) (hi : i + d + 1 < n) : lessR (f i) (g i) (f (i + d + 1)) (g (i + d + 1)) := by
  induction d with
  | zero => exact rts_less ho hi
  | succ d ih => exact less_trans (ih (by omega)) (rts_less ho (i := i + d + 1) hi)
theorem rts_lt {n : Nat} {f g h : Nat → Int} (ho : rtsOk n f g h = true) {i j : Nat} (hij : i < j) (hj : j < n) : lessR (f i) (g i) (f j) (g j) := by
  have := rts_far ho i (j - i - 1) (by omega)
  rwa [show i + (j - i - 1) + 1 = j by omega] at this

/-- where the new one goes -/
theorem place {n : Nat} {f g h : Nat → Int} (ho : rtsOk n f g h = true) (x y : Int) : ∀ m, m ≤ n → ∃ s, s ≤ m ∧ (∀ j, j < s → lessR (f j) (g j) x y) ∧ ∀ j, s ≤ j → j < m → ¬ lessR (f j) (g j) x y := by
  intro m
  induction m with
  | zero => exact fun _ => ⟨0, Nat.le_refl _, fun j hj => by omega, fun j _ hj => by omega⟩
  | succ m ih =>
    intro hm
    obtain ⟨s, hs, h1, h2⟩ := ih (by omega)
    by_cases c : lessR (f m) (g m) x y
    · refine ⟨m + 1, Nat.le_refl _, fun j hj => ?_, fun j h3 h4 => by omega⟩
      by_cases e : j = m
      · subst e; exact c
      · exact less_trans (rts_lt ho (show j < m by omega) (by omega)) c
    · refine ⟨s, by omega, h1, fun j h3 h4 => ?_⟩
      by_cases e : j = m
      · subst e; exact c
      · exact h2 j h3 (by omega)

/-- the routes from a place on -/
def seg (f g h : Nat → Int) (a k : Nat) : List R3 := (List.range' a k).map fun i => (f i, g i, h i)
theorem seg_succ (f g h : Nat → Int) (a k : Nat) : seg f g h a (k + 1) = seg f g h a k ++ [(f (a + k), g (a + k), h (a + k))] := by
  simp [seg, List.range'_concat]
theorem seg_len (f g h : Nat → Int) (a k : Nat) : (seg f g h a k).length = k := by simp [seg]

theorem laid_go {f g h : Nat → Int} {r : R3} {m : Nat} {L : List R3} (e : laid f g h r m = (L, true)) (e2 : (f m != r.1 || g m != r.2.1) = true) : laid f g h r (m + 1) = (L ++ [(f m, g m, h m)], true) := by
  simp only [laid, e, e2]
  rfl
variable {n s : Nat} {f g h : Nat → Int} {x y z : Int}
theorem laid_low (lo : ∀ j, j < s → lessR (f j) (g j) x y) : ∀ k, k ≤ s → laid f g h (x, y, z) k = (seg f g h 0 k, false) := by
  intro k
  induction k with
  | zero => intro _; rfl
  | succ k ih =>
    intro hk
    have l := lo k (by omega)
    unfold lessR at l
    have c1 : ¬ x < f k := by omega
    have c2 : ¬ (f k = x ∧ y ≤ g k) := by omega
    have c3 : f k ≠ x ∨ g k ≠ y := by omega
    rw [seg_succ]
    simp only [laid, ih (by omega), Nat.zero_add]
    have e1 : (decide (x < f k) || (f k == x && decide (y ≤ g k))) = false := by
      rw [decide_eq_false c1, Bool.false_or]
      cases e : (f k == x && decide (y ≤ g k)) with
      | false => rfl
      | true => rw [Bool.and_eq_true, beq_iff_eq, decide_eq_true_eq] at e; exact absurd e c2
    have e2 : (f k != x || g k != y) = true := by
      rw [Bool.or_eq_true, bne_iff_ne, bne_iff_ne]; exact c3
    simp only [e1, e2]
    rfl
/-- behind it, when none is like it -/
theorem laid_new (ho : rtsOk n f g h = true) (lo : ∀ j, j < s → lessR (f j) (g j) x y) (hi : ∀ j, s ≤ j → j < n → ¬ lessR (f j) (g j) x y) (hn : ¬ (f s = x ∧ g s = y)) : ∀ k, s + k < n → laid f g h (x, y, z) (s + k + 1) = (seg f g h 0 s ++ [(x, y, z)] ++ seg f g h s (k + 1), true) := by
  intro k
  induction k with
  | zero =>
    intro hk
    have l := hi s (Nat.le_refl _) hk
    unfold lessR at l
    have e1 : (decide (x < f s) || (f s == x && decide (y ≤ g s))) = true := by
      rw [Bool.or_eq_true, Bool.and_eq_true, decide_eq_true_eq, beq_iff_eq, decide_eq_true_eq]; omega
    have e2 : (f s != x || g s != y) = true := by rw [Bool.or_eq_true, bne_iff_ne, bne_iff_ne]; omega
    simp only [laid, laid_low lo s (Nat.le_refl _), e1, e2]
    rfl
  | succ k ih =>
    intro hk
    have l := hi s (Nat.le_refl _) (by omega)
    have l2 := rts_lt ho (show s < s + k + 1 by omega) (by omega)
    unfold lessR at l l2
    have e2 : (f (s + k + 1) != x || g (s + k + 1) != y) = true := by rw [Bool.or_eq_true, bne_iff_ne, bne_iff_ne]; omega
    have e := ih (by omega)
    rw [show s + (k + 1) + 1 = (s + k + 1) + 1 by omega, laid_go e e2, seg_succ f g h s (k + 1), List.append_assoc]
    rfl
/-- behind it, when one is like it -/
theorem laid_old (ho : rtsOk n f g h = true) (lo : ∀ j, j < s → lessR (f j) (g j) x y) (hx : f s = x) (hy : g s = y) : ∀ k, s + k < n → laid f g h (x, y, z) (s + k + 1) = (seg f g h 0 s ++ [(x, y, z)] ++ seg f g h (s + 1) k, true) := by
  intro k
  induction k with
  | zero =>
    intro hk
    have e1 : (decide (x < f s) || (f s == x && decide (y ≤ g s))) = true := by
      rw [Bool.or_eq_true, Bool.and_eq_true, decide_eq_true_eq, beq_iff_eq, decide_eq_true_eq]; omega
    have e2 : (f s != x || g s != y) = false := by rw [Bool.or_eq_false_iff]; simp [hx, hy]
    simp only [laid, laid_low lo s (Nat.le_refl _), e1, e2]
    simp [seg]
  | succ k ih =>
    intro hk
    have l2 := rts_lt ho (show s < s + k + 1 by omega) (by omega)
    unfold lessR at l2
    have e2 : (f (s + k + 1) != x || g (s + k + 1) != y) = true := by rw [Bool.or_eq_true, bne_iff_ne, bne_iff_ne]; omega
    have e := ih (by omega)
    rw [show s + (k + 1) + 1 = (s + k + 1) + 1 by omega, laid_go e e2, seg_succ, List.append_assoc, show s + 1 + k = s + k + 1 by omega]

theorem all_new (ho : rtsOk n f g h = true) (hs : s ≤ n) (lo : ∀ j, j < s → lessR (f j) (g j) x y) (hi : ∀ j, s ≤ j → j < n → ¬ lessR (f j) (g j) x y) (hn : s < n → ¬ (f s = x ∧ g s = y)) : laidAll f g h (x, y, z) n = seg f g h 0 s ++ [(x, y, z)] ++ seg f g h s (n - s) := by
  by_cases e : s = n
  · subst e
    rw [laidAll, laid_low lo s (Nat.le_refl _), Nat.sub_self]
    simp [seg]
  · have := laid_new (z := z) ho lo hi (hn (by omega)) (n - s - 1) (by omega)
    rw [show s + (n - s - 1) + 1 = n by omega, show n - s - 1 + 1 = n - s by omega] at this
    rw [laidAll, this]
    rfl
theorem all_old (ho : rtsOk n f g h = true) (hs : s < n) (lo : ∀ j, j < s → lessR (f j) (g j) x y) (hx : f s = x) (hy : g s = y) : laidAll f g h (x, y, z) n = seg f g h 0 s ++ [(x, y, z)] ++ seg f g h (s + 1) (n - s - 1) := by
  have := laid_old (z := z) ho lo hx hy (n - s - 1) (by omega)
  rw [show s + (n - s - 1) + 1 = n by omega] at this
  rw [laidAll, this]
  rfl
end Go.Proofs.Ythlejmofhcgkdaa
