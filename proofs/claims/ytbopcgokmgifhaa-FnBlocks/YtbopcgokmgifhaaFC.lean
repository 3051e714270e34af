/- FnBlocks, its walk. -/
import Derived.Test.YtbopcgokmgifhaaFA
import Derived.Test.YtbopcgokmgifhaaFB
import Derived.Test.YtbopcgokmgifhaaFV
import Derived.Test.YtbopcgokmgifhaaCF
namespace Go.Proofs.Ytbopcgokmgifhaa
open Go Go.RowKit Go.Deep Go.Maps

theorem i64_xor_nat (a b : Nat) (ha : a < 9223372036854775808) (hb : b < 9223372036854775808) : bits .xor .i64 (a : Int) (b : Int) = ((a ^^^ b : Nat) : Int) := by
  have hx : a ^^^ b < 2 ^ 63 := Nat.xor_lt_two_pow (by omega) (by omega)
  show IntKind.i64.wrap ((BitVec.ofInt 64 (a : Int) ^^^ BitVec.ofInt 64 (b : Int)).toNat : Int) = _
  rw [BitVec.toNat_xor, ofInt_u64 a (by omega), ofInt_u64 b (by omega), IntKind.wrap_i64]
  omega
theorem flip (b : Int) (i : Nat) (hb : 0 ≤ b) (hb' : b < 9223372036854775808) (hi : i < 62) : 0 ≤ bits .xor .i64 b (wrap64 (2 ^ i)) ∧ bits .xor .i64 b (wrap64 (2 ^ i)) < 9223372036854775808 ∧ bits .xor .i64 b (wrap64 (2 ^ i)) ≠ b := by
  obtain ⟨B, rfl⟩ : ∃ B : Nat, b = (B : Int) := ⟨b.toNat, by omega⟩
  have h1 : (2 : Nat) ^ i < 9223372036854775808 := by
    have : (2 : Nat) ^ i ≤ 2 ^ 62 := Nat.pow_le_pow_right (by decide) (by omega)
    have e : (2 : Nat) ^ 62 = 4611686018427387904 := by decide
    omega
  have h0 : 0 < (2 : Nat) ^ i := Nat.pow_pos (by decide)
  have e : wrap64 ((2 : Int) ^ i) = (((2 : Nat) ^ i : Nat) : Int) := by
    rw [show ((2 : Int) ^ i) = (((2 : Nat) ^ i : Nat) : Int) by simp]
    unfold wrap64
    omega
  rw [e, i64_xor_nat B _ (by omega) h1]
  have hx : B ^^^ 2 ^ i < 2 ^ 63 := Nat.xor_lt_two_pow (by omega) (by omega)
  refine ⟨by omega, by omega, fun h => ?_⟩
  have h' : B ^^^ 2 ^ i = B := by omega
  have t := congrArg (B ^^^ ·) h'
  simp only [← Nat.xor_assoc, Nat.xor_self, Nat.zero_xor] at t
  omega

set_option maxRecDepth 100000 in
set_option maxHeartbeats 2000000 in
theorem blocks_walk (a : Option Addr) (n cap : Nat) (w : World) (hb : BytesAt w a n) : Calls Try.prog 3 #[.slice a n cap] w fun e w' => e = .returned (.bool true) ∧ Below w.heap.size w w' := by
  by_cases hn : n ≤ 1048576
  · have hn' : decide (1048576 < n) = false := decide_eq_false (by omega)
    have P0 := hid (drawBlock_any a n cap w hn hb)
    go_enter Try.func3, Try.ntmps3
    go_wp2_with (first
      | (go_at_call 4; refine (big_any a n cap _).mono ?_; rintro e w1 ⟨rfl, hw1⟩; subst w1)
      | (go_at_call 5; refine P0.out.mono ?_; rintro e w1 ⟨s, b, rfl, hs, ib, h1⟩))
    clear P0
    by_cases hg : s.size = 16 ∧ 0 ≤ b
    · obtain ⟨h16, hb0⟩ := hg
      have hb0' : ¬ b < 0 := by omega
      have EA : Hid (blockAns s b = blkOf s b) := by show _ = _; rw [blockAns, if_pos ⟨h16, hb0⟩]
      have HI := hid (fun w => implBlock_any s b w)
      have HS := hid (fun w => specBlock_any s b w)
      rw [EA.out] at HI HS
      generalize hN : blkOf s b = N at *
      have HN := hid hN
      clear hN
      refine (HI.out _).mono ?_
      rintro e w2 ⟨rfl, h2⟩
      go_wp2_with (go_at_call 7; refine (HS.out _).mono ?_; rintro e w3 ⟨rfl, h3⟩)
      have B3 : Below w.heap.size w w3 := h1.trans ((h2.mono h1.size).trans (h3.mono (Nat.le_trans h1.size h2.size)))
      clear h1 h2 h3
      go_loopw [6] (fun iv W => ∃ i : Nat, i ≤ 62 ∧ iv = .int .i64 i ∧ Below w.heap.size w W) (fun i _ => 62 - (intOf i).toNat)
      case atStart => exact ⟨0, by omega, rfl, B3⟩
      case round =>
        clear B3
        obtain ⟨i, hi, rfl, hB⟩ := hrel
        by_cases h0 : i < 62
        · have h0' : (i : Int) < 62 := by omega
          obtain ⟨f0, f1, f2⟩ := flip b i hb0 ib.2 h0
          have HC : Hid (∀ w, Calls Try.prog 6 #[.string s, .int .i64 (bits .xor .i64 b (wrap64 (2 ^ i)))] w fun e w' => e = .returned (.int .i64 (blkOf s (bits .xor .i64 b (wrap64 (2 ^ i))))) ∧ Below w.heap.size w w') := fun w => by
            have t := implBlock_any s (bits .xor .i64 b (wrap64 (2 ^ i))) w
            rw [blockAns, if_pos ⟨h16, f0⟩] at t
            exact t
          have hne : (blkOf s (bits .xor .i64 b (wrap64 (2 ^ i))) == N) = false := beq_eq_false_iff_ne.2 fun h => f2 (blk_inj s f0 f1 hb0 ib.2 (h.trans HN.out.symm))
          generalize blkOf s (bits .xor .i64 b (wrap64 (2 ^ i))) = M at *
          go_wp2_with (go_at_call 6; refine (HC.out _).mono ?_; rintro e w4 ⟨rfl, h4⟩)
          exact ⟨⟨i + 1, by omega, rfl, hB.trans (h4.mono hB.size)⟩, by simp [intOf]; omega⟩
        · obtain rfl : i = 62 := by omega
          have HK : Hid (∀ w, Calls Try.prog 6 #[.string ⟨#[27, 26, 25, 24, 19, 18, 17, 16, 11, 10, 9, 8, 3, 2, 1, 0]⟩, .int .i64 4283597746427216685] w fun e w' => e = .returned (.int .i64 (-8327255456165789045)) ∧ Below w.heap.size w w') := fun w => by
            have t := implBlock_any kK 4283597746427216685 w
            rw [blockAns, if_pos ⟨rfl, by decide⟩, known] at t
            exact t
          go_wp2_with (go_at_call 6; refine (HK.out _).mono ?_; rintro e w4 ⟨rfl, h4⟩)
          go_ret
          exact ⟨rfl, hB.trans (h4.mono hB.size)⟩
    · have HI := hid (fun w => implBlock_any s b w)
      have HS := hid (fun w => specBlock_any s b w)
      generalize blockAns s b = N at *
      by_cases h16 : s.size = 16
      · have hb0 : b < 0 := by omega
        refine (HI.out _).mono ?_
        rintro e w2 ⟨rfl, h2⟩
        go_wp2_with (first | (go_at_call 7; have mk' := mk; refine (HS.out _).mono ?_; rintro e w4 ⟨rfl, h4⟩) | (go_at_call 7; refine (HS.out _).mono ?_; rintro e w3 ⟨rfl, h3⟩; have mk : True := trivial))
        go_ret
        exact ⟨by simp, h1.trans ((h2.mono h1.size).trans ((h3.mono (Nat.le_trans h1.size h2.size)).trans (h4.mono (Nat.le_trans h1.size (Nat.le_trans h2.size h3.size)))))⟩
      · have h16' : ¬ (s.size : Int) = 16 := by omega
        refine (HI.out _).mono ?_
        rintro e w2 ⟨rfl, h2⟩
        go_wp2_with (first | (go_at_call 7; have mk' := mk; refine (HS.out _).mono ?_; rintro e w4 ⟨rfl, h4⟩) | (go_at_call 7; refine (HS.out _).mono ?_; rintro e w3 ⟨rfl, h3⟩; have mk : True := trivial))
        go_ret
        exact ⟨by simp, h1.trans ((h2.mono h1.size).trans ((h3.mono (Nat.le_trans h1.size h2.size)).trans (h4.mono (Nat.le_trans h1.size (Nat.le_trans h2.size h3.size)))))⟩
  · have hn' : decide (1048576 < n) = true := decide_eq_true (by omega)
    go_enter Try.func3, Try.ntmps3
    go_wp2_with (go_at_call 4; refine (big_any a n cap _).mono ?_; rintro e w1 ⟨rfl, hw1⟩; subst w1)
    go_ret
    exact ⟨rfl, Below.refl _ _⟩
end Go.Proofs.Ytbopcgokmgifhaa
