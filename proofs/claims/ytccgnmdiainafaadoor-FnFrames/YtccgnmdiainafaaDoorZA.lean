/- CRC-32 by single bits and by four, plainly. -/
import Derived.Test.YtccgnmdiainafaaDoorNK
namespace Go.Proofs.YtccgnmdiainafaaDoor
open Go Go.RowKit

/-- one bit falls out -/
def s1 (n : Nat) : Nat := if n % 2 = 1 then (n / 2) ^^^ 3988292384 else n / 2
def s4 (n : Nat) : Nat := s1 (s1 (s1 (s1 n)))
def turnsL : List Nat := [0, 498536548, 997073096, 651767980, 1994146192, 1802195444, 1303535960, 1342533948, 3988292384, 4027552580, 3604390888, 3412177804, 2607071920, 2262029012, 2685067896, 3183342108]
def turn4 (r : Nat) : Nat := turnsL.getD r 0

theorem s1_lt {n : Nat} (h : n < 4294967296) : s1 n < 4294967296 := by
  unfold s1; split
  · exact Nat.xor_lt_two_pow (n := 32) (by omega) (by omega)
  · omega
theorem s4_lt {n : Nat} (h : n < 4294967296) : s4 n < 4294967296 := s1_lt (s1_lt (s1_lt (s1_lt h)))
theorem par (a b : Nat) : (a ^^^ b) % 2 = 1 ↔ ¬ (a % 2 = 1 ↔ b % 2 = 1) := by
  have h := Nat.xor_mod_two_pow (a := a) (b := b) (n := 1)
  rw [Nat.pow_one] at h
  rw [h]
  rcases Nat.mod_two_eq_zero_or_one a with ha | ha <;> rcases Nat.mod_two_eq_zero_or_one b with hb | hb <;> simp [ha, hb]
theorem half (a b : Nat) : (a ^^^ b) / 2 = a / 2 ^^^ b / 2 := by
  have h := Nat.xor_div_two_pow (a := a) (b := b) (n := 1)
  rwa [Nat.pow_one] at h
theorem s1_xor (a b : Nat) : s1 (a ^^^ b) = s1 a ^^^ s1 b := by
  unfold s1
  have hp := par a b
  rw [half]
  by_cases ha : a % 2 = 1 <;> by_cases hb : b % 2 = 1
  · rw [if_neg (by rw [hp]; simp [ha, hb]), if_pos ha, if_pos hb]
    rw [show a / 2 ^^^ 3988292384 ^^^ (b / 2 ^^^ 3988292384) = a / 2 ^^^ b / 2 ^^^ (3988292384 ^^^ 3988292384) by ac_rfl, Nat.xor_self, Nat.xor_zero]
  · rw [if_pos (by rw [hp]; simp [ha, hb]), if_pos ha, if_neg hb]
    ac_rfl
  · rw [if_pos (by rw [hp]; simp [ha, hb]), if_neg ha, if_pos hb]
    ac_rfl
  · rw [if_neg (by rw [hp]; simp [ha, hb]), if_neg ha, if_neg hb]
theorem s1_even (n : Nat) : s1 (2 * n) = n := by
  unfold s1
  rw [if_neg (by omega)]
  omega
theorem s4_xor (a b : Nat) : s4 (a ^^^ b) = s4 a ^^^ s4 b := by unfold s4; rw [s1_xor, s1_xor, s1_xor, s1_xor]
theorem s4_high (q : Nat) : s4 (16 * q) = q := by
  unfold s4
  rw [show 16 * q = 2 * (8 * q) by omega, s1_even, show 8 * q = 2 * (4 * q) by omega, s1_even, show 4 * q = 2 * (2 * q) by omega, s1_even, s1_even]
theorem split16 (n : Nat) : n = (16 * (n / 16)) ^^^ (n % 16) := by
  have h1 := Nat.xor_div_two_pow (a := 16 * (n / 16)) (b := n % 16) (n := 4)
  have h2 := Nat.xor_mod_two_pow (a := 16 * (n / 16)) (b := n % 16) (n := 4)
  rw [show (2 : Nat) ^ 4 = 16 from rfl] at h1 h2
  rw [show 16 * (n / 16) / 16 = n / 16 by omega, show n % 16 / 16 = 0 by omega, Nat.xor_zero] at h1
  rw [show 16 * (n / 16) % 16 = 0 by omega, show n % 16 % 16 = n % 16 by omega, Nat.zero_xor] at h2
  omega
theorem s4_low (r : Nat) (h : r < 16) : s4 r = turn4 r := by
  have : ∀ r, r < 16 → s4 r = turn4 r := by decide
  exact this r h
theorem s4_eq (n : Nat) : s4 n = n / 16 ^^^ turn4 (n % 16) := by
  rw [show s4 n = s4 ((16 * (n / 16)) ^^^ (n % 16)) by rw [← split16], s4_xor, s4_high, s4_low _ (by omega)]

/-- bit by bit: k of them -/
def sk (n : Nat) : Nat → Nat
  | 0 => n
  | k + 1 => s1 (sk n k)
theorem sk_lt {n : Nat} (h : n < 4294967296) (k : Nat) : sk n k < 4294967296 := by induction k with
  | zero => exact h
  | succ k ih => exact s1_lt ih
theorem sk8 (n : Nat) : sk n 8 = s4 (s4 n) := rfl

/-- the sum of the first k bytes, not turned over yet -/
def crcTo (s : ByteArray) : Nat → Nat
  | 0 => 4294967295
  | k + 1 => sk (crcTo s k ^^^ at8 s k) 8
theorem crcTo_lt (s : ByteArray) (k : Nat) : crcTo s k < 4294967296 := by induction k with
  | zero => exact (by decide : 4294967295 < 4294967296)
  | succ k ih => exact sk_lt (Nat.xor_lt_two_pow (n := 32) (by omega) (by have := at8_lt s k; omega)) 8
def crc (s : ByteArray) : Nat := 4294967295 ^^^ crcTo s s.size
theorem crc_lt (s : ByteArray) : crc s < 4294967296 := Nat.xor_lt_two_pow (n := 32) (by decide) (crcTo_lt s _)

/-- what was turned stays another -/
theorem s1_inj {a b : Nat} (ha : a < 4294967296) (hb : b < 4294967296) (h : s1 a = s1 b) : a = b := by
  have top : ∀ x, x < 2147483648 → (x ^^^ 3988292384) / 2147483648 = 1 := fun x hx => by
    have t := Nat.xor_div_two_pow (a := x) (b := 3988292384) (n := 31)
    rw [show (2 : Nat) ^ 31 = 2147483648 from rfl, show x / 2147483648 = 0 by omega, Nat.zero_xor] at t
    rw [t]
  unfold s1 at h
  by_cases h1 : a % 2 = 1 <;> by_cases h2 : b % 2 = 1
  · rw [if_pos h1, if_pos h2] at h
    have := congrArg (· ^^^ 3988292384) h
    simp only [Nat.xor_assoc, Nat.xor_self, Nat.xor_zero] at this
    omega
  · rw [if_pos h1, if_neg h2] at h
    have := top (a / 2) (by omega)
    rw [h] at this
    omega
  · rw [if_neg h1, if_pos h2] at h
    have := top (b / 2) (by omega)
    rw [← h] at this
    omega
  · rw [if_neg h1, if_neg h2] at h
    omega
theorem sk_inj {a b : Nat} (ha : a < 4294967296) (hb : b < 4294967296) (k : Nat) (h : sk a k = sk b k) : a = b := by induction k with
  | zero => exact h
  | succ k ih => exact ih (s1_inj (sk_lt ha k) (sk_lt hb k) h)
end Go.Proofs.YtccgnmdiainafaaDoor
