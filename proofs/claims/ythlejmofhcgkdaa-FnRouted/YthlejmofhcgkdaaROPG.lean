/- Routed of the program. -/
import Derived.Test.YthlejmofhcgkdaaROPF
import Derived.Deep.RegionHeld3
namespace Go.Proofs.Ythlejmofhcgkdaa
open Go Go.RowKit Go.Deep Go.BigFrame Go.Maps

theorem ord_zero {x y x' y' : Int} : (ordR x y x' y' == 0) = decide (x = x' ∧ y = y') := by
  unfold ordR orI cmpI
  by_cases h : x = x' ∧ y = y'
  · obtain ⟨rfl, rfl⟩ := h
    simp
  · rw [decide_eq_false h, beq_eq_false_iff_ne]
    intro e
    split at e <;> split at e <;> (try split at e) <;> (try split at e) <;> (try split at e) <;> (try split at e) <;> omega

theorem rcells_get (l : List R3) (j : Nat) : (rcells l)[j]? = (l[j / 3]?).bind fun r => (rc r)[j % 3]? := by
  induction l generalizing j with
  | nil => simp [rcells]
  | cons a l ih =>
    have e : rcells (a :: l) = rc a ++ rcells l := by rw [rcells, List.flatMap_cons]; rfl
    rw [e]
    by_cases h : j < 3
    · rw [List.getElem?_append_left (by simpa [rc] using h), show j / 3 = 0 by omega, show j % 3 = j by omega]
      rfl
    · rw [List.getElem?_append_right (by simp [rc]; omega)]
      show (rcells l)[j - 3]? = _
      rw [ih, show j / 3 = (j - 3) / 3 + 1 by omega, show j % 3 = (j - 3) % 3 by omega]
      rfl
theorem lies_seg {W : World} {b off n t0 m : Nat} {f g h : Nat → Int} (H : RtsAt W (some ⟨b, off, none⟩) n f g h) (ht : t0 + m ≤ n) : LiesC W (some ⟨b, off + t0 * 3, none⟩) m (rcells (seg f g h t0 m)) := fun hm => by
  obtain ⟨b', off', e, hlt, hc⟩ := H (by omega)
  simp only [Option.some.injEq, Addr.mk.injEq, and_true] at e
  obtain ⟨rfl, rfl⟩ := e
  refine ⟨b, off + t0 * 3, rfl, hlt, fun j u hu => ?_⟩
  rw [rcells_get] at hu
  have hj : j / 3 < m := by
    rcases Nat.lt_or_ge (j / 3) m with h1 | h1
    · exact h1
    · rw [List.getElem?_eq_none (by rw [seg_len]; exact h1)] at hu
      simp at hu
  have e2 : (seg f g h t0 m)[j / 3]? = some (f (t0 + j / 3), g (t0 + j / 3), h (t0 + j / 3)) := by simp [seg, hj]
  rw [e2] at hu
  obtain ⟨c1, c2, c3⟩ := hc (t0 + j / 3) (by omega)
  have h3 : j % 3 = 0 ∨ j % 3 = 1 ∨ j % 3 = 2 := by omega
  rcases h3 with h3 | h3 | h3
  · rw [show off + t0 * 3 + j = off + (t0 + j / 3) * 3 by omega, c1, ← hu, h3]; rfl
  · rw [show off + t0 * 3 + j = off + (t0 + j / 3) * 3 + 1 by omega, c2, ← hu, h3]; rfl
  · rw [show off + t0 * 3 + j = off + (t0 + j / 3) * 3 + 2 by omega, c3, ← hu, h3]; rfl
def ad3 (a0 a1 a2 : Option Addr) : Nat → Option Addr
  | 0 => a0
  | 1 => a1
  | _ => a2
def nat3 (a0 a1 a2 : Nat) : Nat → Nat
  | 0 => a0
  | 1 => a1
  | _ => a2
def lst3 (a0 a1 a2 : List R3) : Nat → List R3
  | 0 => a0
  | 1 => a1
  | _ => a2
theorem cat3 (a0 a1 a2 : List R3) : cat (lst3 a0 a1 a2) 3 = a0 ++ a1 ++ a2 := rfl
theorem three_of {W : World} {b off n cap s : Nat} {f g h : Nat → Int} (x y z : Int) (H : RtsAt W (some ⟨b, off, none⟩) n f g h) (hs : s ≤ n) (a2 : Option Addr) (m c2 t0 : Nat) (hl2 : LiesC W a2 m (rcells (seg f g h t0 m))) :
    Three ((W.alloc (.cells #[.int .i64 x, .int .i64 y, .int .i64 z] 29)).alloc (.cells #[.slice (some ⟨b, off, none⟩) s cap, .slice (some ⟨W.heap.size, 0, none⟩) 1 1, .slice a2 m c2] 24)) (W.heap.size + 1)
      (ad3 (some ⟨b, off, none⟩) (some ⟨W.heap.size, 0, none⟩) a2) (nat3 cap 1 c2) (lst3 (seg f g h 0 s) [(x, y, z)] (seg f g h t0 m)) := by
  have B1 : Below W.heap.size W (W.alloc (.cells #[.int .i64 x, .int .i64 y, .int .i64 z] 29)) := (Below.refl _ W).alloc (Nat.le_refl _) _
  have B2 : Below (W.alloc (.cells #[.int .i64 x, .int .i64 y, .int .i64 z] 29)).heap.size (W.alloc (.cells #[.int .i64 x, .int .i64 y, .int .i64 z] 29)) ((W.alloc (.cells #[.int .i64 x, .int .i64 y, .int .i64 z] 29)).alloc (.cells #[.slice (some ⟨b, off, none⟩) s cap, .slice (some ⟨W.heap.size, 0, none⟩) 1 1, .slice a2 m c2] 24)) := (Below.refl _ _).alloc (Nat.le_refl _) _
  have e : W.heap.size + 1 = (W.alloc (.cells #[.int .i64 x, .int .i64 y, .int .i64 z] 29)).heap.size := by rw [World.size_alloc]
  refine ⟨by rw [World.size_alloc, World.size_alloc]; omega, fun i hi => ?_⟩
  match i with
  | 0 =>
    refine ⟨?_, ?_⟩
    · rw [e]
      show _ = some (Value.slice _ (seg f g h 0 s).length _)
      rw [seg_len]
      simp [ad3, nat3]
    · show LiesC _ _ (seg f g h 0 s).length _
      rw [seg_len]
      have := lies_seg (t0 := 0) (m := s) H (by omega)
      rw [Nat.zero_mul, Nat.add_zero] at this
      exact (this.below B1).below B2
  | 1 =>
    refine ⟨?_, ?_⟩
    · rw [e]
      simp [ad3, nat3, lst3]
    · have := one_rt (w := W) (x, y, z)
      exact this.below B2
  | 2 =>
    refine ⟨?_, ?_⟩
    · rw [e]
      show _ = some (Value.slice _ (seg f g h t0 m).length _)
      rw [seg_len]
      simp [ad3, nat3]
    · show LiesC _ _ (seg f g h t0 m).length _
      rw [seg_len]
      exact (hl2.below B1).below B2
  | k + 3 => omega

end Go.Proofs.Ythlejmofhcgkdaa
