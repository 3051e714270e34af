/- Sums of bytes by twos, plainly. -/
import Derived.Test.YthlejmofhcgkdaaProg
import Derived.WalkKit
import Derived.WalkSpells
import Derived.WalkLawsBesides
import Derived.Below
import Derived.Laws.BitsAllLaws
namespace Go.Proofs.Ythlejmofhcgkdaa
open Go.RowKit

theorem ret_bool {a b : Bool} (h : a = b) : Ending.returned (.bool a) = .returned (.bool b) := by rw [h]
theorem ret_int {k : IntKind} {a b : Int} (h : a = b) : Ending.returned (.int k a) = .returned (.int k b) := by rw [h]
theorem hid {p : Prop} (h : p) : Hid p := h

/-- the byte at a place -/
def at8 (s : ByteArray) (k : Nat) : Nat := if h : k < s.size then s[k].toNat else 0
theorem at8_lt (s : ByteArray) (k : Nat) : at8 s k < 256 := by
  unfold at8; split
  · exact UInt8.toNat_lt _
  · omega
theorem at8_eq {s : ByteArray} {k : Nat} (h : k < s.size) : at8 s k = s[k].toNat := by simp [at8, h]

/-- the sum of the first k bytes, the even ones times 256 -/
def psum (f : Nat → Nat) : Nat → Nat
  | 0 => 0
  | k + 1 => psum f k + (if k % 2 = 0 then f k * 256 else f k)
/-- a number below 65536 with its rest by 65535, nought for nought alone -/
def fold (n : Nat) : Nat := if n = 0 then 0 else (n - 1) % 65535 + 1

theorem fold_lt (n : Nat) : fold n ≤ 65535 := by unfold fold; split <;> omega
theorem fold_small {n : Nat} (h : n < 65536) : fold n = n := by unfold fold; split <;> omega
theorem fold_step {n : Nat} (h : 65536 ≤ n) : fold (n / 65536 + n % 65536) = fold n := by unfold fold; split <;> split <;> omega
theorem fold_add (t n : Nat) : fold (fold t + n) = fold (t + n) := by
  unfold fold
  split
  · rename_i h; subst h; simp
  · rename_i h
    rw [if_neg (by omega), if_neg (by omega)]
    omega
theorem fold_over {x : Nat} (h1 : 65535 < x) (h2 : x ≤ 131070) : fold x = x - 65535 := by unfold fold; split <;> omega

theorem psum_le (f : Nat → Nat) (hf : ∀ k, f k < 256) (k : Nat) : psum f k ≤ k * 65280 := by
  induction k with
  | zero => simp [psum]
  | succ k ih =>
    have := hf k
    unfold psum
    split <;> omega
theorem psum_two (f : Nat → Nat) (k : Nat) (h : k % 2 = 0) : psum f (k + 2) = psum f k + (256 * f k + f (k + 1)) := by
  have e : ¬ (k + 1) % 2 = 0 := by omega
  simp only [psum, h, e, if_true, if_false]
  omega
theorem psum_one (f : Nat → Nat) (k : Nat) (h : k % 2 = 0) : psum f (k + 1) = psum f k + 256 * f k := by
  simp only [psum, h, if_true]
  omega

/-- what Checksum answers -/
def cks (s : ByteArray) : Nat := 65535 - fold (psum (at8 s) s.size)
theorem cks_lt (s : ByteArray) : cks s < 65536 := by unfold cks; omega
end Go.Proofs.Ythlejmofhcgkdaa
