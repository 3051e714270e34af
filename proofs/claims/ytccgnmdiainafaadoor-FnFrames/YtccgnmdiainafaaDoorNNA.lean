/- Numbers read from bytes: l7Num of the model and readHighFirst of the program. -/
import Derived.Test.YtccgnmdiainafaaDoorNK
namespace Go.Proofs.YtccgnmdiainafaaDoor
open Go Go.RowKit

/-- the number of the first k bytes, the highest first -/
def numTo (s : ByteArray) : Nat → Nat
  | 0 => 0
  | k + 1 => 256 * numTo s k + at8 s k
theorem numTo_lt (s : ByteArray) (k : Nat) : numTo s k < 256 ^ k := by
  induction k with
  | zero => simp [numTo]
  | succ k ih =>
    have := at8_lt s k
    simp only [numTo, Nat.pow_succ]
    omega
theorem numTo_small (s : ByteArray) (k : Nat) (h : k ≤ 7) : numTo s k < 72057594037927936 := by
  have h1 := numTo_lt s k
  have h2 : 256 ^ k ≤ 256 ^ 7 := Nat.pow_le_pow_right (by omega) h
  have h3 : (256 : Nat) ^ 7 = 72057594037927936 := by decide
  omega

theorem numTo_less (s : ByteArray) (k : Nat) (h : k ≤ 6) : numTo s k < 281474976710656 := by
  have h1 := numTo_lt s k
  have h2 : 256 ^ k ≤ 256 ^ 6 := Nat.pow_le_pow_right (by omega) h
  have h3 : (256 : Nat) ^ 6 = 281474976710656 := by decide
  omega

set_option maxHeartbeats 1000000 in
theorem l7Num_any (s : ByteArray) (w : World) (hn : s.size ≤ 7) :
    Calls Tryd.prog 18 #[.string s] w fun e w' => e = .returned (.int .i64 ((numTo s s.size : Nat) : Int)) ∧ w' = w := by
  go_enter Tryd.func18, Tryd.ntmps18
  go_wp2
  go_loop [3, 4] (fun x i => ∃ m q : Nat, m ≤ s.size ∧ i = .int .i64 (m : Int) ∧ x = .int .i64 (q : Int) ∧ q = numTo s m) (fun _ i => s.size - (intOf i).toNat)
  case atStart => exact ⟨0, 0, by omega, rfl, rfl, rfl⟩
  case round =>
    obtain ⟨m, q, hm, rfl, rfl, hq⟩ := hrel
    by_cases h0 : m < s.size
    · have h0' : (m : Int) < (s.size : Int) := by omega
      have b0 : s[m].toNat < 256 := UInt8.toNat_lt _
      have HN : Hid (256 * q + s[m].toNat = numTo s (m + 1)) := by show _ = _; rw [hq, numTo, at8_eq h0]
      have hq1 : q < 281474976710656 := by rw [hq]; exact numTo_less s m (by omega)
      clear hq
      go_wp2
      refine ⟨⟨m + 1, 256 * q + s[m].toNat, by omega, by congr 1 <;> omega, by congr 1 <;> omega, HN.out⟩, by simp [intOf]; omega⟩
    · have h0' : ¬ (m : Int) < (s.size : Int) := by omega
      have HN : Hid (q = numTo s s.size) := by show _ = _; rw [hq, show m = s.size by omega]
      clear hq
      go_wp2
      go_ret
      exact ⟨ret_int (by rw [HN.out]), rfl⟩

theorem or_low (a b : Nat) (ha : a < 72057594037927936) (hb : b < 256) : bits .or .u64 ((a : Int) * 256) (b : Int) = ((256 * a + b : Nat) : Int) := by
  have e : (a : Int) * 256 = ((a * 256 : Nat) : Int) := by omega
  rw [e, u64_or_nat (a * 256) b (by omega) (by omega), nat_join 8 (a * 256) b (by omega) (by omega)]
  omega

set_option maxHeartbeats 1000000 in
theorem readHigh_any (s : ByteArray) (w : World) (hn : s.size ≤ 7) :
    Calls Tryd.prog 25 #[.string s] w fun e w' => e = .returned (.int .i64 ((numTo s s.size : Nat) : Int)) ∧ w' = w := by
  go_enter Tryd.func25, Tryd.ntmps25
  go_wp2
  go_loop [3, 7] (fun x i => ∃ m q : Nat, m ≤ s.size ∧ i = .int .i64 (m : Int) ∧ x = .int .u64 (q : Int) ∧ q = numTo s m) (fun _ i => s.size - (intOf i).toNat)
  case atStart => exact ⟨0, 0, by omega, rfl, rfl, rfl⟩
  case round =>
    obtain ⟨m, q, hm, rfl, rfl, hq⟩ := hrel
    have hq1 : q < 72057594037927936 := by rw [hq]; exact numTo_small s m (by omega)
    by_cases h0 : m < s.size
    · have h0' : (m : Int) < (s.size : Int) := by omega
      have b0 : s[m].toNat < 256 := UInt8.toNat_lt _
      have HN : Hid (256 * q + s[m].toNat = numTo s (m + 1)) := by show _ = _; rw [hq, numTo, at8_eq h0]
      have hq2 : q < 281474976710656 := by rw [hq]; exact numTo_less s m (by omega)
      have ho := or_low q s[m].toNat hq1 b0
      clear hq
      go_wp2
      refine ⟨⟨m + 1, 256 * q + s[m].toNat, by omega, by congr 1 <;> omega, by congr 1 <;> omega, HN.out⟩, by simp [intOf]; omega⟩
    · have h0' : ¬ (m : Int) < (s.size : Int) := by omega
      have HN : Hid (q = numTo s s.size) := by show _ = _; rw [hq, show m = s.size by omega]
      clear hq
      go_wp2
      go_ret
      exact ⟨ret_int (by rw [HN.out]), rfl⟩
end Go.Proofs.YtccgnmdiainafaaDoor
