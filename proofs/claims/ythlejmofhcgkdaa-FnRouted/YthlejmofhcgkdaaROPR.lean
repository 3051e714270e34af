/- The longest route that has an address, plainly: by the lists of one length, from the most bits down. -/
import Derived.Test.YthlejmofhcgkdaaROPQ
import Derived.Test.YthlejmofhcgkdaaROPF
namespace Go.Proofs.Ythlejmofhcgkdaa
open Go

section
variable {n : Nat} {f g h : Nat → Int} {t : Int}

theorem best_le (k : Nat) : ∀ i, i < k → hasR f g t i → g i ≤ (best f g h t k).1 := by
  induction k with
  | zero => intro i hi; omega
  | succ k ih =>
    intro i hi hh
    rw [best]
    split
    · rename_i c
      by_cases e : i = k
      · subst e; exact Int.le_refl _
      · have := ih i (by omega) hh
        show g i ≤ g k
        omega
    · rename_i c
      by_cases e : i = k
      · subst e
        have : ¬ (best f g h t i).1 < g i := fun q => c ⟨hh, q⟩
        omega
      · exact ih i (by omega) hh
theorem best_is (k : Nat) : best f g h t k = (-1, 0) ∨ ∃ i, i < k ∧ hasR f g t i ∧ best f g h t k = (g i, h i) := by
  induction k with
  | zero => exact .inl rfl
  | succ k ih =>
    rw [best]
    split
    · rename_i c; exact .inr ⟨k, by omega, c.1, rfl⟩
    · rcases ih with e | ⟨i, hi, hh, e⟩
      · exact .inl e
      · exact .inr ⟨i, by omega, hh, e⟩

theorem bitL_mem (b k : Nat) (x : R3) : x ∈ bitL f g h b k ↔ ∃ i, i < k ∧ g i = b ∧ x = (f i, g i, h i) := by
  induction k with
  | zero => simp [bitL]
  | succ k ih =>
    rw [bitL]
    split
    · rename_i e
      rw [List.mem_append, ih, List.mem_singleton]
      constructor
      · rintro (⟨i, hi, q⟩ | rfl)
        · exact ⟨i, by omega, q⟩
        · exact ⟨k, by omega, e, rfl⟩
      · rintro ⟨i, hi, q1, q2⟩
        by_cases e' : i = k
        · subst e'; exact .inr q2
        · exact .inl ⟨i, by omega, q1, q2⟩
    · rename_i e
      rw [ih]
      constructor
      · rintro ⟨i, hi, q⟩; exact ⟨i, by omega, q⟩
      · rintro ⟨i, hi, q1, q2⟩
        by_cases e' : i = k
        · subst e'; exact absurd q1 e
        · exact ⟨i, by omega, q1, q2⟩
theorem bitL_sorted (ho : rtsOk n f g h = true) (b : Nat) : ∀ k, k ≤ n → (bitL f g h b k).Pairwise (fun x y => x.1 < y.1) := by
  intro k
  induction k with
  | zero => intro _; exact List.Pairwise.nil
  | succ k ih =>
    intro hk
    rw [bitL]
    split
    · rename_i e
      rw [List.pairwise_append]
      refine ⟨ih (by omega), List.pairwise_singleton _ _, fun x hx y hy => ?_⟩
      obtain ⟨i, hi, q, rfl⟩ := (bitL_mem b k x).1 hx
      rw [List.mem_singleton] at hy
      subst hy
      have := rts_lt ho (i := i) (j := k) hi (by omega)
      unfold lessR at this
      show f i < f k
      omega
    · exact ih (by omega)
/-- what is found among the routes of one length: where the nets stop being below -/
theorem find_at {X : List R3} (hX : X.Pairwise (fun x y => x.1 < y.1)) (u : Int) : ∃ s, s ≤ X.length ∧ (∀ j, j < s → (r3 X j).1 < u) ∧ (∀ j, s ≤ j → j < X.length → ¬ (r3 X j).1 < u) := by
  have srt : ∀ i j, i < j → j < X.length → (r3 X i).1 < (r3 X j).1 := fun i j hij hj => by
    have := List.pairwise_iff_getElem.1 hX i j (by omega) hj hij
    unfold r3
    rw [List.getElem?_eq_getElem (by omega), List.getElem?_eq_getElem hj]
    exact this
  have all : ∀ m, m ≤ X.length → ∃ s, s ≤ m ∧ (∀ j, j < s → (r3 X j).1 < u) ∧ (∀ j, s ≤ j → j < m → ¬ (r3 X j).1 < u) := fun m => by
    induction m with
    | zero => exact fun _ => ⟨0, Nat.le_refl _, fun j hj => by omega, fun j _ hj => by omega⟩
    | succ m ih =>
      intro hm
      obtain ⟨s, hs, h1, h2⟩ := ih (by omega)
      by_cases c : (r3 X m).1 < u
      · refine ⟨m + 1, Nat.le_refl _, fun j hj => ?_, fun j h3 h4 => by omega⟩
        by_cases e : j = m
        · subst e; exact c
        · have := srt j m (by omega) (by omega); omega
      · refine ⟨s, by omega, h1, fun j h3 h4 => ?_⟩
        by_cases e : j = m
        · subst e; exact c
        · exact h2 j h3 (by omega)
  obtain ⟨s, a, b, c⟩ := all X.length (Nat.le_refl _)
  exact ⟨s, a, b, c⟩
theorem r3_mem {X : List R3} {i : Nat} (h : i < X.length) : r3 X i ∈ X := by
  unfold r3
  rw [List.getElem?_eq_getElem h]
  exact List.getElem_mem h

/-- the address with its upper bits alone -/
def netU (t : Int) (b : Nat) : Int := t / 2 ^ (32 - b) * 2 ^ (32 - b)
theorem hasR_net {i b : Nat} (hr : rOk (f i) (g i) (h i) = true) (hg : g i = (b : Int)) : hasR f g t i ↔ f i = netU t b := by
  obtain ⟨⟨y0, y1, _⟩, hm⟩ := rOk_is hr
  unfold hasR netU
  rw [hg] at hm ⊢
  have e : (32 - (b : Int)).toNat = 32 - b := by omega
  rw [e] at hm ⊢
  have hp : (0 : Int) < 2 ^ (32 - b) := Int.pow_pos (by decide)
  generalize (2 : Int) ^ (32 - b) = q at *
  have d := Int.emod_add_mul_ediv (f i) q
  rw [hm, Int.zero_add] at d
  constructor
  · intro e; rw [e, Int.mul_comm]; exact d.symm
  · intro e
    rw [e, Int.mul_ediv_cancel _ (by omega)]
/-- found among the routes of b bits -/
def foundAt (n : Nat) (f g : Nat → Int) (t : Int) (b : Nat) : Prop := ∃ i, i < n ∧ hasR f g t i ∧ g i = (b : Int)
theorem port_none (ho : rtsOk n f g h = true) (hn : ∀ b, b < 33 → ¬ foundAt n f g t b) : (best f g h t n).2 = 0 := by
  rcases best_is (f := f) (g := g) (h := h) (t := t) n with e | ⟨i, hi, hh, e⟩
  · rw [e]
  · obtain ⟨⟨y0, y1, _⟩, _⟩ := rOk_is (rts_at ho hi)
    exact absurd ⟨i, hi, hh, by omega⟩ (hn (g i).toNat (by omega))
theorem port_at (ho : rtsOk n f g h = true) {b i : Nat} (hi : i < n) (hh : hasR f g t i) (hg : g i = (b : Int)) (hn : ∀ b', b < b' → b' < 33 → ¬ foundAt n f g t b') : (best f g h t n).2 = h i := by
  have hb := rts_at ho hi
  have hl := best_le (h := h) n i hi hh
  rcases best_is (f := f) (g := g) (h := h) (t := t) n with e | ⟨j, hj, hh', e⟩
  · rw [e] at hl
    simp only at hl
    omega
  · obtain ⟨⟨y0, y1, _⟩, _⟩ := rOk_is (rts_at ho hj)
    rw [e] at hl ⊢
    have hge : (b : Int) ≤ g j := by rw [← hg]; exact hl
    have eg : g j = (b : Int) := by
      by_cases q : g j = (b : Int)
      · exact q
      · exact absurd ⟨j, hj, hh', by omega⟩ (hn (g j).toNat (by omega) (by omega))
    have f1 := (hasR_net hb hg).1 hh
    have f2 := (hasR_net (rts_at ho hj) eg).1 hh'
    have : j = i := by
      rcases Nat.lt_trichotomy j i with q | q | q
      · have := rts_lt ho q hi; unfold lessR at this; omega
      · exact q
      · have := rts_lt ho q hj; unfold lessR at this; omega
    rw [this]
/-- what the search among the routes of b bits says -/
theorem search_says (ho : rtsOk n f g h = true) {b s : Nat} (lo : ∀ j, j < s → (r3 (bitL f g h b n) j).1 < netU t b) (hi : ∀ j, s ≤ j → j < (bitL f g h b n).length → ¬ (r3 (bitL f g h b n) j).1 < netU t b) :
    (s < (bitL f g h b n).length ∧ (r3 (bitL f g h b n) s).1 = netU t b ∧ (∃ i, i < n ∧ hasR f g t i ∧ g i = (b : Int) ∧ h i = (r3 (bitL f g h b n) s).2.2)) ∨ (¬ (s < (bitL f g h b n).length ∧ (r3 (bitL f g h b n) s).1 = netU t b) ∧ ¬ foundAt n f g t b) := by
  by_cases c : s < (bitL f g h b n).length ∧ (r3 (bitL f g h b n) s).1 = netU t b
  · left
    refine ⟨c.1, c.2, ?_⟩
    obtain ⟨i, q1, q2, q3⟩ := (bitL_mem b n _).1 (r3_mem c.1)
    have e1 : f i = netU t b := by have := c.2; rw [q3] at this; exact this
    exact ⟨i, q1, (hasR_net (rts_at ho q1) q2).2 e1, q2, by rw [q3]⟩
  · right
    refine ⟨c, ?_⟩
    rintro ⟨i, q1, q2, q3⟩
    have e1 := (hasR_net (rts_at ho q1) q3).1 q2
    have hm : (f i, g i, h i) ∈ bitL f g h b n := (bitL_mem b n _).2 ⟨i, q1, q3, rfl⟩
    obtain ⟨j, hj, ej⟩ := List.getElem_of_mem hm
    have rj : r3 (bitL f g h b n) j = (f i, g i, h i) := by unfold r3; rw [List.getElem?_eq_getElem hj]; exact ej
    have hsj : s ≤ j := by
      rcases Nat.lt_or_ge j s with q | q
      · have := lo j q; rw [rj] at this; simp only at this; omega
      · exact q
    by_cases e : s = j
    · subst e
      exact c ⟨hj, by rw [rj]; exact e1⟩
    · have h1 := hi s (Nat.le_refl _) (by omega)
      have h2 := List.pairwise_iff_getElem.1 (bitL_sorted ho b n (Nat.le_refl _)) s j (by omega) hj (by omega)
      have rs : r3 (bitL f g h b n) s = (bitL f g h b n)[s] := by unfold r3; rw [List.getElem?_eq_getElem (by omega)]; rfl
      rw [rs] at h1
      rw [ej] at h2
      simp only at h2
      omega
end
end Go.Proofs.Ythlejmofhcgkdaa
