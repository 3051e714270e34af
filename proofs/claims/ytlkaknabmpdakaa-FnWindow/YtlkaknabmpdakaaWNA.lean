/- Windows: the helpers of the exact laws over windows, and WindowOk of the model and of the program. -/
import Derived.Test.YtlkaknabmpdakaaNK
import Derived.WalkKit
import Derived.WalkSpells
import Derived.WalkLawsBesides
import Derived.Below
import Derived.Laws.BitsAllLaws
namespace Go.Proofs.Ytlkaknabmpdakaa
open Go.RowKit

def inB (x lo hi : Int) : Bool := decide (lo ≤ x) && decide (x ≤ hi)
theorem inB_yes {x lo hi : Int} (h : lo ≤ x) : inB x lo hi = decide (x ≤ hi) := by simp [inB, h]
theorem inB_no {x lo hi : Int} (h : x < lo) : inB x lo hi = false := by simp [inB]; omega

theorem l1In_any (x lo hi : Int) (w : World) :
    Calls Try.prog 28 #[.int .i64 x, .int .i64 lo, .int .i64 hi] w fun e w' => e = .returned (.bool (inB x lo hi)) ∧ w' = w := by
  go_enter Try.func28, Try.ntmps28
  go_wp2
  · go_ret
    exact ⟨ret_bool (inB_yes ‹_›).symm, rfl⟩
  · go_ret
    exact ⟨ret_bool (inB_no ‹_›).symm, rfl⟩

theorem isNonce_any (x : Int) (w : World) :
    Calls Try.prog 26 #[.int .i64 x] w fun e w' => e = .returned (.bool (inB x 0 1099511627776)) ∧ w' = w := by
  go_enter Try.func26, Try.ntmps26
  go_wp2
  · go_ret
    exact ⟨ret_bool (inB_yes ‹_›).symm, rfl⟩
  · go_ret
    exact ⟨ret_bool (inB_no ‹_›).symm, rfl⟩

/-- a right window -/
def okW (t b : Int) : Bool := inB t 0 1099511627776 && inB b 0 4294967295 && (b.tmod 2 == 1 || (t == 0 && b == 0))

theorem specOk_any (t b : Int) (w : World) :
    Calls Try.prog 10 #[.agg #[.int .i64 t, .int .i64 b]] w fun e w' => e = .returned (.bool (okW t b)) ∧ w' = w.alloc (.cells #[.int .i64 t, .int .i64 b] 25) := by
  by_cases h1 : inB t 0 1099511627776 = true
  · by_cases h2 : inB b 0 4294967295 = true
    · go_enter Try.func10, Try.ntmps10
      go_wp2_with (go_at_call 28; refine (l1In_any _ _ _ _).mono ?_; rintro e w' ⟨rfl, rfl⟩; simp only [h1, h2])
      all_goals
        go_ret
        exact ⟨ret_bool (by simp_all [okW]), by simp_all⟩
    · have h2 : inB b 0 4294967295 = false := by simpa using h2
      go_enter Try.func10, Try.ntmps10
      go_wp2_with (go_at_call 28; refine (l1In_any _ _ _ _).mono ?_; rintro e w' ⟨rfl, rfl⟩; simp only [h1, h2])
      all_goals
        go_ret
        exact ⟨ret_bool (by simp_all [okW]), by simp_all⟩
  · have h1 : inB t 0 1099511627776 = false := by simpa using h1
    go_enter Try.func10, Try.ntmps10
    go_wp2_with (go_at_call 28; refine (l1In_any _ _ _ _).mono ?_; rintro e w' ⟨rfl, rfl⟩; simp only [h1])
    all_goals
      go_ret
      exact ⟨ret_bool (by simp_all [okW]), by simp_all⟩

theorem i64_and_nat (a b : Nat) (ha : a < 9223372036854775808) (hb : b < 9223372036854775808) : bits .and .i64 (a : Int) (b : Int) = ((a &&& b : Nat) : Int) := by
  have hx : a &&& b < 2 ^ 63 := Nat.and_lt_two_pow _ (by omega)
  show IntKind.i64.wrap ((BitVec.ofInt 64 (a : Int) &&& BitVec.ofInt 64 (b : Int)).toNat : Int) = _
  rw [BitVec.toNat_and, ofInt_u64 a (by omega), ofInt_u64 b (by omega), IntKind.wrap_i64]
  omega
theorem i64_or_nat (a b : Nat) (ha : a < 9223372036854775808) (hb : b < 9223372036854775808) : bits .or .i64 (a : Int) (b : Int) = ((a ||| b : Nat) : Int) := by
  have hx : a ||| b < 2 ^ 63 := Nat.or_lt_two_pow (by omega) (by omega)
  show IntKind.i64.wrap ((BitVec.ofInt 64 (a : Int) ||| BitVec.ofInt 64 (b : Int)).toNat : Int) = _
  rw [BitVec.toNat_or, ofInt_u64 a (by omega), ofInt_u64 b (by omega), IntKind.wrap_i64]
  omega
theorem and_one (b : Int) (h : 0 ≤ b) (h' : b < 9223372036854775808) : bits .and .i64 b 1 = b.tmod 2 := by
  obtain ⟨n, rfl⟩ := Int.eq_ofNat_of_zero_le h
  rw [show (1 : Int) = ((1 : Nat) : Int) from rfl, i64_and_nat n 1 (by omega) (by omega), nat_mask1, Int.tmod_eq_emod_of_nonneg (by omega)]
  omega

theorem okW_zero : okW 0 0 = true := by decide
theorem okW_top {t b : Int} (h : inB t 0 1099511627776 = false) : okW t b = false := by simp [okW, h]
theorem okW_low {t b : Int} (h : b ≤ 0) (h0 : t = 0 → ¬ b = 0) : okW t b = false := by
  unfold okW inB
  by_cases e : b = 0
  · subst e
    have : (t == 0) = false := by simpa using fun e => h0 e rfl
    simp [this]
  · have : ¬ 0 ≤ b := by omega
    simp [this]
theorem okW_high {t b : Int} (h : 4294967296 ≤ b) : okW t b = false := by
  have : ¬ b ≤ 4294967295 := by omega
  simp [okW, inB, this]
theorem okW_mid {t b : Int} (h : inB t 0 1099511627776 = true) (h1 : 0 < b) (h2 : b < 4294967296) : okW t b = (bits .and .i64 b 1 == 1) := by
  rw [and_one b (by omega) (by omega)]
  have e : inB b 0 4294967295 = true := by simp [inB]; omega
  have e' : (b == 0) = false := by simp; omega
  simp [okW, h, e, e']

theorem implOk_any (t b : Int) (w : World) :
    Calls Try.prog 11 #[.agg #[.int .i64 t, .int .i64 b]] w fun e w' => e = .returned (.bool (okW t b)) ∧ w' = w.alloc (.cells #[.int .i64 t, .int .i64 b] 25) := by
  have HI : Hid (inB t 0 1099511627776 = false → okW t b = false) := okW_top
  have HJ : Hid (inB t 0 1099511627776 = true → 0 < b → b < 4294967296 → okW t b = (bits .and .i64 b 1 == 1)) := fun h => okW_mid h
  have HK : Hid (b ≤ 0 → (t = 0 → ¬ b = 0) → okW t b = false) := fun h => okW_low h
  have HL : Hid (4294967296 ≤ b → okW t b = false) := okW_high
  by_cases ht : t = 0
  · subst ht
    by_cases hb : b = 0
    · subst hb
      go_enter Try.func11, Try.ntmps11
      go_wp2
      go_ret
      exact ⟨ret_bool okW_zero.symm, rfl⟩
    · have hz : ∀ w : World, Calls Try.prog 26 #[.int .i64 0] w fun e w' => e = .returned (.bool true) ∧ w' = w := fun w => isNonce_any 0 w
      go_enter Try.func11, Try.ntmps11
      go_wp2_with (go_at_call 26; refine (hz _).mono ?_; rintro e w' ⟨rfl, rfl⟩)
      · go_ret
        exact ⟨ret_bool (HJ.out (by decide) (by assumption) (by assumption)).symm, rfl⟩
      · go_ret
        exact ⟨ret_bool (HL.out (by assumption)).symm, rfl⟩
      · go_ret
        exact ⟨ret_bool (HK.out (by assumption) (fun _ => hb)).symm, rfl⟩
  · have hz : ∀ w : World, Calls Try.prog 26 #[.int .i64 t] w fun e w' => e = .returned (.bool (inB t 0 1099511627776)) ∧ w' = w := fun w => isNonce_any t w
    generalize inB t 0 1099511627776 = q at *
    cases q
    · go_enter Try.func11, Try.ntmps11
      go_wp2_with (go_at_call 26; refine (hz _).mono ?_; rintro e w' ⟨rfl, rfl⟩)
      go_ret
      exact ⟨ret_bool (HI.out (by trivial)).symm, rfl⟩
    · go_enter Try.func11, Try.ntmps11
      go_wp2_with (go_at_call 26; refine (hz _).mono ?_; rintro e w' ⟨rfl, rfl⟩)
      · go_ret
        exact ⟨ret_bool (HJ.out (by trivial) (by assumption) (by assumption)).symm, rfl⟩
      · go_ret
        exact ⟨ret_bool (HL.out (by assumption)).symm, rfl⟩
      · go_ret
        exact ⟨ret_bool (HK.out (by assumption) (fun h => absurd h ht)).symm, rfl⟩
end Go.Proofs.Ytlkaknabmpdakaa
