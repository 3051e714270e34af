/- xored of the program. -/
import Derived.Test.YtbopcgokmgifhaaDoorZC
namespace Go.Proofs.YtbopcgokmgifhaaDoor
open Go Go.RowKit Go.Deep Go.Maps
open Go.WideShapes (add_plain)

/-- n bytes lie there and may be written -/
def BRow (w : World) (b n : Nat) (f : Nat → Int) : Prop := ∃ c lo hi, w.heap[b]? = some (.cells c 5 (lo, hi)) ∧ n ≤ c.size ∧ n ≤ lo ∧ ∀ i, i < n → c[i]? = some (.int .u8 (f i))
theorem BRow.cell {w : World} {b n : Nat} {f : Nat → Int} (h : BRow w b n f) {i : Nat} (hi : i < n) : w.cell? ⟨b, i, none⟩ = some (.int .u8 (f i)) := by
  obtain ⟨c, lo, hi', h1, h2, h3, h4⟩ := h
  simp only [World.cell?, h1]
  exact h4 i hi
theorem BRow.frozen {w : World} {b n : Nat} {f : Nat → Int} (h : BRow w b n f) {i : Nat} (hi : i < n) : w.frozen? ⟨b, i, none⟩ = false := by
  obtain ⟨c, lo, hi', h1, h2, h3, h4⟩ := h
  simp only [World.frozen?, h1]
  have : ¬ lo ≤ i := by omega
  simp [this]
theorem BRow.set {w : World} {b n : Nat} {f : Nat → Int} (h : BRow w b n f) {i : Nat} (hi : i < n) (x : Int) : BRow (w.setCell ⟨b, i, none⟩ (.int .u8 x)) b n (fun j => if j = i then x else f j) := by
  obtain ⟨c, lo, hi', h1, h2, h3, h4⟩ := h
  refine ⟨c.setIfInBounds i (.int .u8 x), lo, hi', ?_, by simpa using h2, h3, fun j hj => ?_⟩
  · simp [World.setCell, Array.getElem?_modify, h1]
  · rw [Array.getElem?_setIfInBounds]
    by_cases e : i = j
    · subst e
      rw [if_pos rfl, if_pos (by omega)]
      simp
    · rw [if_neg e, h4 j hj]
      have e' : ¬ j = i := fun h => e h.symm
      simp [e']
theorem BRow.drew {w : World} {b n : Nat} {f : Nat → Int} (h : BRow w b n f) : BRow w.drew b n f := h
theorem BRow.congr {w : World} {b n : Nat} {f g : Nat → Int} (h : BRow w b n f) (e : ∀ i, i < n → f i = g i) : BRow w b n g := by
  obtain ⟨c, lo, hi', h1, h2, h3, h4⟩ := h
  exact ⟨c, lo, hi', h1, h2, h3, fun i hi => by rw [h4 i hi, e i hi]⟩
theorem BRow.made (w : World) (s : ByteArray) : BRow (w.drew.alloc (.cells (bytesRow s (grownCap w s.size 0 5)) 5 ((bytesRow s (grownCap w s.size 0 5)).size, (bytesRow s (grownCap w s.size 0 5)).size + 1))) w.heap.size s.size (fun i => (at8 s i : Nat)) := by
  refine ⟨_, _, _, heap_alloc_new w.drew _, ?_, ?_, ?_⟩
  · rw [bytesRow, Array.size_append, Array.size_map]
    exact Nat.le_add_right _ _
  · rw [bytesRow, Array.size_append, Array.size_map]
    exact Nat.le_add_right _ _
  · intro i hi
    rw [bytesRow_at s _ i hi]
    simp only [at8_eq hi]
    rfl

/-- the bytes when k of them have been turned -/
def part8 (a b : ByteArray) (k j : Nat) : Int := if j < k then ((UInt8.ofNat (at8 a j ^^^ at8 b j)).toNat : Nat) else (at8 a j : Nat)
theorem part8_text {w : World} {g c : Nat} {a b : ByteArray} (h : BRow w g a.size (part8 a b a.size)) : (convert 22 9 (.slice (some ⟨g, 0, none⟩) a.size c)).run Tryd.prog w = .ok (.string ⟨(xl a b a.size).toArray⟩) w := by
  have e := run_convert_bytes_back (P := Tryd.prog) w 22 9 5 ⟨g, 0, none⟩ c (xl a b a.size) Tryd.underlying22 Tryd.underlying5 Tryd.underlying9 fun j hj => by
    rw [xl_len] at hj
    have t := h.cell hj
    have q := xl_at a b a.size j hj
    rw [List.getElem?_eq_getElem (by rw [xl_len]; exact hj)] at q
    rw [add_plain, Option.some.inj q]
    simp only [Nat.zero_add]
    rw [t, part8, if_pos hj]
  rw [xl_len] at e
  exact e

set_option maxRecDepth 100000 in
set_option maxHeartbeats 1000000 in
theorem xored_any (a b : ByteArray) (w : World) (hab : a.size ≤ b.size) (hz : a.size ≤ 1000) :
    Calls Tryd.prog 19 #[.string a, .string b] w fun e w' => e = .returned (.string ⟨(xl a b a.size).toArray⟩) ∧ Below w.heap.size w w' := by
  have hcv := run_bytes_of_string (P := Tryd.prog) w 9 22 5 a Tryd.underlying9 Tryd.underlying22 Tryd.underlying5
  have R0 := hid (BRow.made w a)
  have B0 := hid ((Below.refl _ w).drew.alloc (Nat.le_refl _) (.cells (bytesRow a (grownCap w a.size 0 5)) 5 ((bytesRow a (grownCap w a.size 0 5)).size, (bytesRow a (grownCap w a.size 0 5)).size + 1)))
  go_enter Tryd.func19, Tryd.ntmps19
  go_wp2
  generalize grownCap w a.size 0 5 = cp at *
  clear hcv
  go_loopw [11] (fun iv W => ∃ k : Nat, k ≤ a.size ∧ iv = .int .i64 k ∧ BRow W w.heap.size a.size (part8 a b k) ∧ Below w.heap.size w W) (fun i _ => a.size - (intOf i).toNat)
  case atStart => exact ⟨0, by omega, rfl, R0.out.congr (fun i _ => by simp [part8]), B0.out⟩
  case round =>
    clear R0 B0
    obtain ⟨k, hk, rfl, hR, hB⟩ := hrel
    by_cases h0 : k < a.size
    · have h0' : (k : Int) < (a.size : Int) := by omega
      have h1 : k < b.size := by omega
      have h1' : (k : Int) < (b.size : Int) := by omega
      have c1 := hR.cell h0
      rw [part8, if_neg (by omega), at8_eq h0] at c1
      have f1 := hR.frozen h0
      have hx := byte_xor a b k h0 h1
      have HN : Hid (BRow (wr.setCell ⟨w.heap.size, k, none⟩ (.int .u8 ((UInt8.ofNat (at8 a k ^^^ at8 b k)).toNat : Nat))) w.heap.size a.size (part8 a b (k + 1))) := (hR.set h0 _).congr fun i hi => by
        by_cases e : i = k
        · subst e; simp [part8]
        · simp only [e, if_false]
          unfold part8
          by_cases h : i < k
          · rw [if_pos h, if_pos (by omega)]
          · rw [if_neg h, if_neg (by omega)]
      have B3 : Hid (Below w.heap.size w (wr.setCell ⟨w.heap.size, k, none⟩ (.int .u8 ((UInt8.ofNat (at8 a k ^^^ at8 b k)).toNat : Nat)))) := hB.setCell (Nat.le_refl _) _
      generalize (UInt8.ofNat (at8 a k ^^^ at8 b k)).toNat = x at *
      clear hR hB
      go_wp2
      go_region
      all_goals go_wp2
      all_goals exact ⟨⟨k + 1, by omega, rfl, HN.out.drew, B3.out.drew⟩, by simp [intOf]; omega⟩
    · obtain rfl : k = a.size := by omega
      have ht := part8_text (c := cp) hR
      go_wp2
      go_ret
      exact ⟨rfl, hB⟩
end Go.Proofs.YtbopcgokmgifhaaDoor
