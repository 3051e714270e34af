/- FrameOf of both sides, and the walk of its law. -/
import Derived.Test.YtccgnmdiainafaaDoorZB
import Derived.Test.YtccgnmdiainafaaDoorNBX
namespace Go.Proofs.YtccgnmdiainafaaDoor
open Go Go.RowKit Go.Deep Go.Maps

theorem Tab4.below {w w' : World} (h : Tab4 w) (hb : Below w.heap.size w w') : Tab4 w' := fun j hj => by
  have c := h j hj
  have h0 : 0 < w.heap.size := by
    by_cases e : 0 < w.heap.size
    · exact e
    · have c0 := c
      rw [World.cell?, Array.getElem?_eq_none (by simp only; omega)] at c0
      cases c0
  exact (hb.cell (p := ⟨0, j, none⟩) h0).trans c
theorem then_ {w a b : World} (h : Below w.heap.size w a) (k : Below a.heap.size a b) : Below w.heap.size w b := h.trans (k.mono h.size)
theorem ret_str {a b : ByteArray} (h : a = b) : Ending.returned (.string a) = .returned (.string b) := by rw [h]
/-- what FrameOf answers -/
def frameB (s : ByteArray) : ByteArray := if s.size ≤ 1000000 then (⟨(bigL s.size 4).toArray⟩ : ByteArray) ++ ⟨(lowL (crc s : Nat)).toArray⟩ ++ s else ⟨#[]⟩

set_option maxRecDepth 100000 in
set_option maxHeartbeats 1000000 in
theorem specFrame_any (s : ByteArray) (w : World) (hz : s.size ≤ 1048576) :
    Calls Tryd.prog 13 #[.string s] w fun e w' => e = .returned (.string (frameB s)) ∧ Below w.heap.size w w' := by
  by_cases h : s.size ≤ 1000000
  · have E : Hid (frameB s = (⟨(bigL s.size 4).toArray⟩ : ByteArray) ++ ⟨(lowL (crc s : Nat)).toArray⟩ ++ s) := by show _ = _; rw [frameB, if_pos h]
    have h' : ¬ (1000000 : Int) < (s.size : Int) := by omega
    have P1 := hid (fun w => l7Big_any (s.size : Int) 4 w (by decide) (by decide))
    have P2 := hid (fun w => l9Sum_any s w (by omega))
    have L1 := size_ofR (bigL s.size 4)
    rw [bigL_len] at L1
    have L2 := size_ofR (lowL (crc s : Nat))
    rw [show (lowL (crc s : Nat)).length = 4 from rfl] at L2
    generalize (⟨(bigL s.size 4).toArray⟩ : ByteArray) = X at *
    generalize (⟨(lowL (crc s : Nat)).toArray⟩ : ByteArray) = Y at *
    have r1 : ¬ 9223372036854775807 < X.size + Y.size := by omega
    have r2 : ¬ 9223372036854775807 < (X ++ Y).size + s.size := by rw [ByteArray.size_append]; omega
    go_enter Tryd.func13, Tryd.ntmps13
    go_wp2_with (first
      | (go_at_call 24; refine (P1.out _).mono ?_; rintro e w1 ⟨rfl, h1⟩)
      | (go_at_call 19; refine (P2.out _).mono ?_; rintro e w2 ⟨rfl, h2⟩))
    go_ret
    exact ⟨ret_str E.out.symm, then_ h1 h2⟩
  · have E : Hid (frameB s = ⟨#[]⟩) := by show _ = _; rw [frameB, if_neg h]
    have h' : (1000000 : Int) < (s.size : Int) := by omega
    go_enter Tryd.func13, Tryd.ntmps13
    go_wp2
    go_ret
    exact ⟨ret_str E.out.symm, Below.refl _ _⟩

set_option maxRecDepth 100000 in
set_option maxHeartbeats 1000000 in
theorem implFrame_any (s : ByteArray) (w : World) (hz : s.size ≤ 1048576) (hT : Tab4 w) :
    Calls Tryd.prog 9 #[.string s] w fun e w' => e = .returned (.string (frameB s)) ∧ Below w.heap.size w w' := by
  by_cases h : s.size ≤ 1000000
  · have E : Hid (frameB s = (⟨(bigL s.size 4).toArray⟩ : ByteArray) ++ ⟨(lowL (crc s : Nat)).toArray⟩ ++ s) := by show _ = _; rw [frameB, if_pos h]
    have h' : ¬ (1000000 : Int) < (s.size : Int) := by omega
    have P1 := hid (fun w => highFirst_any (s.size : Int) 4 w (by decide))
    have P2 : Hid (∀ W, Below w.heap.size w W → Calls Tryd.prog 21 #[.string s] W fun e w' => e = .returned (.string ⟨(lowL (crc s : Nat)).toArray⟩) ∧ Below W.heap.size W w') := fun W hW => crcText_any s W (by omega) (hT.below hW)
    clear hT
    have L1 := size_ofR (bigL s.size 4)
    rw [bigL_len] at L1
    have L2 := size_ofR (lowL (crc s : Nat))
    rw [show (lowL (crc s : Nat)).length = 4 from rfl] at L2
    generalize (⟨(bigL s.size 4).toArray⟩ : ByteArray) = X at *
    generalize (⟨(lowL (crc s : Nat)).toArray⟩ : ByteArray) = Y at *
    have r1 : ¬ 9223372036854775807 < X.size + Y.size := by omega
    have r2 : ¬ 9223372036854775807 < (X ++ Y).size + s.size := by rw [ByteArray.size_append]; omega
    go_enter Tryd.func9, Tryd.ntmps9
    go_wp2_with (first
      | (go_at_call 20; refine (P1.out _).mono ?_; rintro e w1 ⟨rfl, h1⟩)
      | (go_at_call 21; refine (P2.out _ h1).mono ?_; rintro e w2 ⟨rfl, h2⟩))
    go_ret
    exact ⟨ret_str E.out.symm, then_ h1 h2⟩
  · have E : Hid (frameB s = ⟨#[]⟩) := by show _ = _; rw [frameB, if_neg h]
    have h' : (1000000 : Int) < (s.size : Int) := by omega
    clear hT
    go_enter Tryd.func9, Tryd.ntmps9
    go_wp2
    go_ret
    exact ⟨ret_str E.out.symm, Below.refl _ _⟩

end Go.Proofs.YtccgnmdiainafaaDoor
