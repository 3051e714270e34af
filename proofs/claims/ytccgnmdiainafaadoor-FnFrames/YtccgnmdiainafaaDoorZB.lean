/- Sums: l9Sum of the model, crcOf and crcText of the program. -/
import Derived.Test.YtccgnmdiainafaaDoorZA
import Derived.Test.YtccgnmdiainafaaDoorNGR
namespace Go.Proofs.YtccgnmdiainafaaDoor
open Go Go.RowKit Go.Deep Go.Maps
open Go.WideShapes (add_plain)

def lowL (n : Int) : List UInt8 := [byteOf n 0, byteOf n 1, byteOf n 2, byteOf n 3]
theorem low_text (w : World) (n : Int) : (convert 22 9 (.slice (some ⟨w.heap.size, 0, none⟩) 4 4)).run Tryd.prog (w.alloc (.cells #[.int .u8 (n % 256), .int .u8 (n / 256 % 256), .int .u8 (n / 65536 % 256), .int .u8 (n / 16777216 % 256)] 5)) = .ok (.string ⟨(lowL n).toArray⟩) (w.alloc (.cells #[.int .u8 (n % 256), .int .u8 (n / 256 % 256), .int .u8 (n / 65536 % 256), .int .u8 (n / 16777216 % 256)] 5)) := by
  refine run_convert_bytes_back (P := Tryd.prog) _ 22 9 5 ⟨w.heap.size, 0, none⟩ 4 (lowL n) Tryd.underlying22 Tryd.underlying5 Tryd.underlying9 fun j hj => ?_
  rw [add_plain]
  match j, hj with
  | 0, _ => simp [lowL, byteOf_val]
  | 1, _ => simp [lowL, byteOf_val]
  | 2, _ => simp [lowL, byteOf_val]
  | 3, _ => simp [lowL, byteOf_val]

set_option maxRecDepth 100000 in
set_option maxHeartbeats 1000000 in
theorem l9Sum_any (s : ByteArray) (w : World) (hz : s.size ≤ 9223372036854775807) :
    Calls Tryd.prog 19 #[.string s] w fun e w' => e = .returned (.string ⟨(lowL (crc s : Nat)).toArray⟩) ∧ Below w.heap.size w w' := by
  have HT := hid (low_text w (crc s : Nat))
  go_enter Tryd.func19, Tryd.ntmps19
  go_wp2
  go_loopw [3, 4] (fun cv iv W => ∃ k x : Nat, k ≤ s.size ∧ iv = .int .i64 k ∧ cv = .int .u32 x ∧ x = crcTo s k ∧ W = w) (fun _ i _ => s.size - (intOf i).toNat)
  case atStart => exact ⟨0, 4294967295, by omega, rfl, rfl, rfl, rfl⟩
  case round =>
    obtain ⟨k, x, hk, rfl, rfl, hx, hw⟩ := hrel
    subst hw
    generalize hW : wr = W at *
    have HW := hid hW
    clear hW
    have HX := hid hx
    have hlt : x < 4294967296 := by rw [hx]; exact crcTo_lt s k
    clear hx
    by_cases h0 : k < s.size
    · have h0' : (k : Int) < (s.size : Int) := by omega
      have b0 : s[k].toNat < 256 := UInt8.toNat_lt _
      have e1 := u32_xor_nat x s[k].toNat hlt (by omega)
      have HN : Hid (crcTo s (k + 1) = sk (x ^^^ s[k].toNat) 8) := by show _ = _; rw [crcTo, ← HX.out, at8_eq h0]
      have l1 : x ^^^ s[k].toNat < 4294967296 := Nat.xor_lt_two_pow (n := 32) (by omega) (by omega)
      clear HT
      go_wp2
      generalize x ^^^ s[k].toNat = X at *
      go_loopw [3, 5] (fun cv iv V => ∃ j y : Nat, j ≤ 8 ∧ iv = .int .i64 j ∧ cv = .int .u32 y ∧ y = sk X j ∧ V = W) (fun _ i _ => 8 - (intOf i).toNat)
      case atStart => exact ⟨0, X, by omega, rfl, rfl, rfl, rfl⟩
      case round =>
        obtain ⟨j, y, hj, rfl, rfl, hy, rfl⟩ := hrel
        have HY := hid hy
        have ylt : y < 4294967296 := by rw [hy]; exact sk_lt l1 j
        clear hy e1
        by_cases h8 : j < 8
        · have h8' : (j : Int) < 8 := by omega
          by_cases hp : y % 2 = 1
          · have hp' : (y : Int) % 2 = 1 := by omega
            have e2 := u32_xor_nat (y / 2) 3988292384 (by omega) (by omega)
            have HS : Hid (y / 2 ^^^ 3988292384 = sk X (j + 1)) := by show _ = _; rw [sk, ← HY.out, s1, if_pos hp]
            go_wp2
            refine ⟨⟨j + 1, y / 2 ^^^ 3988292384, by omega, rfl, by rw [← e2]; rfl, HS.out, trivial⟩, by simp [intOf]; omega⟩
          · have hp' : ¬ (y : Int) % 2 = 1 := by omega
            have HS : Hid (y / 2 = sk X (j + 1)) := by show _ = _; rw [sk, ← HY.out, s1, if_neg hp]
            go_wp2
            refine ⟨⟨j + 1, y / 2, by omega, rfl, rfl, HS.out, trivial⟩, by simp [intOf]; omega⟩
        · obtain rfl : j = 8 := by omega
          go_wp2
          refine ⟨⟨k + 1, y, by omega, rfl, rfl, HY.out.trans HN.out.symm, trivial⟩, by simp [intOf]; omega⟩
    · obtain rfl : k = s.size := by omega
      have hsg : IntKind.u32.signed = false := rfl
      have hmx : bits .xor .u32 IntKind.u32.max (x : Int) = ((crc s : Nat) : Int) := by
        have t := u32_xor_nat 4294967295 x (by decide) hlt
        rw [crc, ← HX.out]
        exact t
      have ht := HT.out
      go_wp2
      go_ret
      have hw := HW.out
      subst hw
      exact ⟨rfl, (Below.refl _ _).alloc (Nat.le_refl _) _⟩

/-- the table lies there -/
def Tab4 (w : World) : Prop := ∀ j, j < 16 → w.cell? ⟨0, j, none⟩ = some (.int .u32 (turn4 j : Nat))

theorem step_and (x : Nat) (h : x < 4294967296) : bits .and .u32 (x : Int) 15 = ((x % 16 : Nat) : Int) := by
  have t := u32_and_nat x 15 h (by decide)
  rw [show x &&& 15 = x % 16 from Nat.and_two_pow_sub_one_eq_mod x 4] at t
  exact t
theorem turn4_lt (r : Nat) (h : r < 16) : turn4 r < 4294967296 := by
  have : ∀ r, r < 16 → turn4 r < 4294967296 := by decide
  exact this r h

set_option maxRecDepth 100000 in
set_option maxHeartbeats 1000000 in
theorem crcOf_any (s : ByteArray) (w : World) (hz : s.size ≤ 9223372036854775807) (ht : Tab4 w) :
    Calls Tryd.prog 27 #[.string s] w fun e w' => e = .returned (.int .u32 (crc s : Nat)) ∧ w' = w := by
  have HT := hid ht
  clear ht
  go_enter Tryd.func27, Tryd.ntmps27
  go_wp2
  go_loop [3, 7] (fun cv iv => ∃ k x : Nat, k ≤ s.size ∧ iv = .int .i64 k ∧ cv = .int .u32 x ∧ x = crcTo s k) (fun _ i => s.size - (intOf i).toNat)
  case atStart => exact ⟨0, 4294967295, by omega, rfl, rfl, rfl⟩
  case round =>
    obtain ⟨k, x, hk, rfl, rfl, hx⟩ := hrel
    have HX := hid hx
    have hlt : x < 4294967296 := by rw [hx]; exact crcTo_lt s k
    clear hx
    by_cases h0 : k < s.size
    · have h0' : (k : Int) < (s.size : Int) := by omega
      have b0 : s[k].toNat < 256 := UInt8.toNat_lt _
      have e1 := u32_xor_nat x s[k].toNat hlt (by omega)
      have HN : Hid (crcTo s (k + 1) = sk (x ^^^ s[k].toNat) 8) := by show _ = _; rw [crcTo, ← HX.out, at8_eq h0]
      have l1 : x ^^^ s[k].toNat < 4294967296 := Nat.xor_lt_two_pow (n := 32) (by omega) (by omega)
      generalize x ^^^ s[k].toNat = X at *
      have e2 := step_and X l1
      have c2 := HT.out (X % 16) (by omega)
      have e3 := u32_xor_nat (X / 16) (turn4 (X % 16)) (by omega) (turn4_lt _ (by omega))
      have HS : Hid (s4 X = X / 16 ^^^ turn4 (X % 16)) := s4_eq X
      have l2 : s4 X < 4294967296 := s4_lt l1
      rw [← HS.out] at e3
      have e4 := step_and (s4 X) l2
      have c4 := HT.out (s4 X % 16) (by omega)
      have e5 := u32_xor_nat (s4 X / 16) (turn4 (s4 X % 16)) (by omega) (turn4_lt _ (by omega))
      rw [← s4_eq (s4 X)] at e5
      rw [Int.natCast_ediv, show ((16 : Nat) : Int) = 16 from rfl] at e3 e5
      have HE : Hid (crcTo s (k + 1) = s4 (s4 X)) := HN.out
      have i2 : X % 16 < 16 := by omega
      have i4 : s4 X % 16 < 16 := by omega
      have i2' : ((X % 16 : Nat) : Int) < 16 := by omega
      have i4' : ((s4 X % 16 : Nat) : Int) < 16 := by omega
      generalize hr2 : X % 16 = r2 at *
      generalize hr4 : s4 X % 16 = r4 at *
      generalize s4 (s4 X) = Z at *
      generalize hY : s4 X = Y at *
      clear hr2 hr4 hY HS HN
      go_wp2
      refine ⟨⟨k + 1, Z, by omega, rfl, rfl, HE.out.symm⟩, by simp [intOf]; omega⟩
    · obtain rfl : k = s.size := by omega
      have hsg : IntKind.u32.signed = false := rfl
      have hmx : bits .xor .u32 IntKind.u32.max (x : Int) = ((crc s : Nat) : Int) := by
        have t := u32_xor_nat 4294967295 x (by decide) hlt
        rw [crc, ← HX.out]
        exact t
      go_wp2
      go_ret
      exact ⟨rfl, rfl⟩

set_option maxRecDepth 100000 in
theorem crcText_any (s : ByteArray) (w : World) (hz : s.size ≤ 9223372036854775807) (ht : Tab4 w) :
    Calls Tryd.prog 21 #[.string s] w fun e w' => e = .returned (.string ⟨(lowL (crc s : Nat)).toArray⟩) ∧ Below w.heap.size w w' := by
  have HC := hid (crcOf_any s w hz ht)
  have htx := low_text w (crc s : Nat)
  generalize crc s = c at *
  go_enter Tryd.func21, Tryd.ntmps21
  go_wp2_with (go_at_call 27; refine HC.out.mono ?_; rintro e w1 ⟨rfl, hw1⟩; subst w1)
  go_ret
  exact ⟨rfl, (Below.refl _ _).alloc (Nat.le_refl _) _⟩
end Go.Proofs.YtccgnmdiainafaaDoor
