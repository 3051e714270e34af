/- Stream of the model. -/
import Derived.Test.YtbopcgokmgifhaaDoorCC
import Derived.Test.YtbopcgokmgifhaaDoorNBW
namespace Go.Proofs.YtbopcgokmgifhaaDoor
open Go Go.RowKit Go.Deep Go.Maps

/-- so many blocks, one behind the other -/
def strm (s : ByteArray) (b : Int) : Nat → List UInt8
  | 0 => []
  | m + 1 => strm s b m ++ bigL (blkOf s (b + m)) 8
theorem strm_len (s : ByteArray) (b : Int) (m : Nat) : (strm s b m).length = 8 * m := by
  induction m with
  | zero => rfl
  | succ m ih => rw [strm, List.length_append, ih, bigL_len]; omega
def strmOk (s : ByteArray) (b n : Int) : Prop := s.size = 16 ∧ 0 ≤ b ∧ b ≤ 1099511627776 ∧ 0 ≤ n ∧ n ≤ 1000
instance (s : ByteArray) (b n : Int) : Decidable (strmOk s b n) := by unfold strmOk; infer_instance
def strmAns (s : ByteArray) (b n : Int) : ByteArray × Bool :=
  if strmOk s b n then (⟨((strm s (b * 1024) ((n.toNat + 7) / 8)).take n.toNat).toArray⟩, true) else (⟨#[]⟩, false)
theorem take_text (l : List UInt8) (n : Nat) : (⟨l.toArray⟩ : ByteArray).extract 0 n = ⟨(l.take n).toArray⟩ := by
  apply ByteArray.ext
  apply Array.ext'
  simp
theorem ret_strm {a c : ByteArray} {p q : Bool} (h1 : a = c) (h2 : p = q) : Ending.returned (.tuple #[.string a, .bool p]) = .returned (.tuple #[.string c, .bool q]) := by rw [h1, h2]
theorem l1In_yes {x lo hi : Int} (w : World) (h1 : lo ≤ x) (h2 : x ≤ hi) : Calls Tryd.prog 35 #[.int .i64 x, .int .i64 lo, .int .i64 hi] w fun e w' => e = .returned (.bool true) ∧ w' = w := by
  go_enter Tryd.func35, Tryd.ntmps35
  go_wp2
  go_ret
  exact ⟨rfl, rfl⟩
theorem l1In_no {x lo hi : Int} (w : World) (h : x < lo ∨ hi < x) : Calls Tryd.prog 35 #[.int .i64 x, .int .i64 lo, .int .i64 hi] w fun e w' => e = .returned (.bool false) ∧ w' = w := by
  rcases h with h | h
  · have h' : ¬ lo ≤ x := by omega
    go_enter Tryd.func35, Tryd.ntmps35
    go_wp2
    go_ret
    exact ⟨rfl, rfl⟩
  · by_cases h1 : lo ≤ x
    · have h' : ¬ x ≤ hi := by omega
      go_enter Tryd.func35, Tryd.ntmps35
      go_wp2
      go_ret
      exact ⟨rfl, rfl⟩
    · go_enter Tryd.func35, Tryd.ntmps35
      go_wp2
      go_ret
      exact ⟨rfl, rfl⟩

set_option maxRecDepth 100000 in
set_option maxHeartbeats 1000000 in
theorem specStream_good (s : ByteArray) (b n : Int) (w : World) (h : strmOk s b n) :
    Calls Tryd.prog 21 #[.string s, .int .i64 b, .int .i64 n] w fun e w' => e = .returned (.tuple #[.string (strmAns s b n).1, .bool (strmAns s b n).2]) ∧ Below w.heap.size w w' := by
  have E : Hid (strmAns s b n = (⟨((strm s (b * 1024) ((n.toNat + 7) / 8)).take n.toNat).toArray⟩, true)) := by show _ = _; rw [strmAns, if_pos h]
  obtain ⟨hs, hb0, hb1, hn0, hn1⟩ := h
  have HS := hid hs
  have L1 := fun w => l1In_yes w hb0 hb1
  have L2 := fun w => l1In_yes w hn0 hn1
  have HL1 := hid L1
  have HL2 := hid L2
  clear L1 L2
  go_enter Tryd.func21, Tryd.ntmps21
  go_wp2_with (first | (go_at_call 35; have mk' := mk; refine (HL2.out _).mono ?_; rintro e w1 ⟨rfl, hw1⟩; subst w1) | (go_at_call 35; refine (HL1.out _).mono ?_; rintro e w1 ⟨rfl, hw1⟩; subst w1; have mk : True := trivial))
  go_loopw [8, 9] (fun ov iv W => ∃ (m : Nat) (l : List UInt8), (m : Int) ≤ 125 ∧ 8 * (m : Int) < n + 8 ∧ iv = .int .i64 m ∧ ov = .string ⟨l.toArray⟩ ∧ l = strm s (b * 1024) m ∧ Below w.heap.size w W) (fun _ i _ => 126 - (intOf i).toNat)
  case atStart => exact ⟨0, [], by omega, by omega, rfl, rfl, rfl, Below.refl _ _⟩
  case round =>
    obtain ⟨m, l, hm, hmn, rfl, rfl, hl, hB⟩ := hrel
    have HB := hid hB
    have hlen : Hid (l.length = 8 * m) := by show _ = _; rw [hl, strm_len]
    have HLL := hid hl
    clear hl hB
    by_cases h0 : (l.length : Int) < n
    · have hm8 : 8 * (m : Int) < n := by have := hlen.out; omega
      have hbm : 0 ≤ b * 1024 + m := by omega
      have HN : Hid (strm s (b * 1024) (m + 1) = l ++ bigL (blkOf s (b * 1024 + m)) 8) := by show _ = _; rw [HLL.out]; rfl
      have hD : Hid ((bigL (blkOf s (b * 1024 + m)) 8).length = 8) := bigL_len _ _
      have r1 : ¬ 9223372036854775807 < l.length + (bigL (blkOf s (b * 1024 + m)) 8).length := by have := hlen.out; have := hD.out; omega
      go_wp2_with (first | (go_at_call 36; refine (specBlock_good s (b * 1024 + m) _ HS.out hbm).mono ?_; rintro e w1 ⟨rfl, h1⟩) | (go_at_call 22; refine (l7Big_any (blkOf s (b * 1024 + m)) 8 _ (by decide) (by decide)).mono ?_; rintro e w2 ⟨rfl, h2⟩))
      refine ⟨⟨m + 1, l ++ bigL (blkOf s (b * 1024 + m)) 8, by omega, by omega, rfl, by rw [bytes_app], HN.out.symm, HB.out.trans ((h1.mono HB.out.size).trans (h2.mono (Nat.le_trans HB.out.size h1.size)))⟩, by simp [intOf]; omega⟩
    · have HM : Hid (m = (n.toNat + 7) / 8) := by show _ = _; have := hlen.out; omega
      go_wp2
      go_ret2
      refine ⟨ret_strm ?_ ?_, HB.out⟩
      · rw [take_text, E.out, HLL.out, HM.out]
      · rw [E.out]

set_option maxRecDepth 100000 in
theorem specStream_any (s : ByteArray) (b n : Int) (w : World) :
    Calls Tryd.prog 21 #[.string s, .int .i64 b, .int .i64 n] w fun e w' => e = .returned (.tuple #[.string (strmAns s b n).1, .bool (strmAns s b n).2]) ∧ Below w.heap.size w w' := by
  by_cases h : strmOk s b n
  · exact specStream_good s b n w h
  have E : Hid (strmAns s b n = (⟨#[]⟩, false)) := by show _ = _; rw [strmAns, if_neg h]
  by_cases hs : s.size = 16
  · by_cases hb : 0 ≤ b ∧ b ≤ 1099511627776
    · have L1 := hid (fun w => l1In_yes w hb.1 hb.2)
      have L2 := hid (fun w => l1In_no (x := n) (lo := 0) (hi := 1000) w (by unfold strmOk at h; omega))
      clear h hb
      go_enter Tryd.func21, Tryd.ntmps21
      go_wp2_with (first | (go_at_call 35; have mk' := mk; refine (L2.out _).mono ?_; rintro e w1 ⟨rfl, hw1⟩; subst w1) | (go_at_call 35; refine (L1.out _).mono ?_; rintro e w1 ⟨rfl, hw1⟩; subst w1; have mk : True := trivial))
      go_ret2
      exact ⟨by rw [E.out]; rfl, Below.refl _ _⟩
    · have L1 := hid (fun w => l1In_no (x := b) (lo := 0) (hi := 1099511627776) w (by omega))
      clear h hb
      go_enter Tryd.func21, Tryd.ntmps21
      go_wp2_with (go_at_call 35; refine (L1.out _).mono ?_; rintro e w1 ⟨rfl, hw1⟩; subst w1)
      go_ret2
      exact ⟨by rw [E.out]; rfl, Below.refl _ _⟩
  · have hs' : ¬ (s.size : Int) = 16 := by omega
    clear h
    go_enter Tryd.func21, Tryd.ntmps21
    go_wp2
    go_ret2
    exact ⟨by rw [E.out]; rfl, Below.refl _ _⟩
end Go.Proofs.YtbopcgokmgifhaaDoor
