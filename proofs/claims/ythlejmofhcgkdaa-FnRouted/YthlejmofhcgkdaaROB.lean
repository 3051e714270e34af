/- One route: what both sides call right; the order of routes. -/
import Derived.Test.YthlejmofhcgkdaaROA
import Derived.Deep.QuietTactic
import Derived.BigQuiet
namespace Go.Proofs.Ythlejmofhcgkdaa
open Go Go.RowKit Go.Deep

theorem then_ {w a b : World} (h : Below w.heap.size w a) (k : Below a.heap.size a b) : Below w.heap.size w b := h.trans (k.mono h.size)
theorem still (w : World) (n : Nat) : Below w.heap.size w (w.drewN n) := ⟨rfl, rfl, rfl, Nat.le_refl _, fun _ _ => rfl⟩
/-- a route is right -/
def rOk (x y z : Int) : Bool := decide (0 ≤ y ∧ y ≤ 32 ∧ 0 ≤ x ∧ x ≤ 4294967295 ∧ 1 ≤ z ∧ z ≤ 100) && decide (x % 2 ^ (32 - y).toNat = 0)
theorem l1In_yes {x lo hi : Int} (w : World) (h1 : lo ≤ x) (h2 : x ≤ hi) : Calls Try.prog 25 #[.int .i64 x, .int .i64 lo, .int .i64 hi] w fun e w' => e = .returned (.bool true) ∧ w' = w := by
  go_enter Try.func25, Try.ntmps25
  go_wp2
  go_ret
  exact ⟨rfl, rfl⟩
theorem l1In_no {x lo hi : Int} (w : World) (h : x < lo ∨ hi < x) : Calls Try.prog 25 #[.int .i64 x, .int .i64 lo, .int .i64 hi] w fun e w' => e = .returned (.bool false) ∧ w' = w := by
  rcases h with h | h
  · have h' : ¬ lo ≤ x := by omega
    go_enter Try.func25, Try.ntmps25
    go_wp2
    go_ret
    exact ⟨rfl, rfl⟩
  · by_cases h1 : lo ≤ x
    · have h' : ¬ x ≤ hi := by omega
      go_enter Try.func25, Try.ntmps25
      go_wp2
      go_ret
      exact ⟨rfl, rfl⟩
    · go_enter Try.func25, Try.ntmps25
      go_wp2
      go_ret
      exact ⟨rfl, rfl⟩
theorem pow_small (m : Nat) (h : m ≤ 32) : (1 : Int) ≤ 2 ^ m ∧ (2 : Int) ^ m ≤ 4294967296 := by
  have h1 : (2 : Nat) ^ m ≤ 2 ^ 32 := Nat.pow_le_pow_right (by decide) h
  have h0 : 0 < (2 : Nat) ^ m := Nat.pow_pos (by decide)
  have e : ((2 : Int) ^ m) = ((2 ^ m : Nat) : Int) := by simp
  rw [e]
  have e2 : (2 : Nat) ^ 32 = 4294967296 := by decide
  omega
theorem l8Size_any (m : Nat) (w : World) (h : m ≤ 32) : Calls Try.prog 26 #[.int .i64 (32 - (m : Int))] w fun e w' => e = .returned (.int .i64 (2 ^ m)) ∧ w' = w := by
  obtain ⟨h1, h2⟩ := pow_small m h
  go_enter Try.func26, Try.ntmps26
  go_wp2
  go_ret
  refine ⟨ret_int ?_, rfl⟩
  rw [show 32 - (32 - m) = m by omega]
  generalize (2 : Int) ^ m = q at *
  unfold wrap64
  omega

set_option maxRecDepth 100000 in
set_option maxHeartbeats 1000000 in
theorem l8Ok_any (x y z : Int) (w : World) : Calls Try.prog 32 #[.agg #[.int .i64 x, .int .i64 y, .int .i64 z]] w fun e w' => e = .returned (.bool (rOk x y z)) ∧ Below w.heap.size w w' := by
  have L0 := (Below.refl _ w).alloc (Nat.le_refl _) (.cells #[.int .i64 x, .int .i64 y, .int .i64 z] 29)
  by_cases hy : 0 ≤ y ∧ y ≤ 32
  · by_cases hx : 0 ≤ x ∧ x ≤ 4294967295
    · by_cases hz : 1 ≤ z ∧ z ≤ 100
      · obtain ⟨m, rfl, hm⟩ : ∃ m : Nat, y = 32 - (m : Int) ∧ m ≤ 32 := ⟨(32 - y).toNat, by omega, by omega⟩
        have F4 := hid (fun w => l8Size_any m w hm)
        have E : Hid (rOk x (32 - (m : Int)) z = decide (x % 2 ^ m = 0)) := by
          show _ = _
          unfold rOk
          rw [show (32 - (32 - (m : Int))).toNat = m by omega]
          have : (0 ≤ 32 - (m : Int) ∧ 32 - (m : Int) ≤ 32 ∧ 0 ≤ x ∧ x ≤ 4294967295 ∧ 1 ≤ z ∧ z ≤ 100) := ⟨hy.1, hy.2, hx.1, hx.2, hz.1, hz.2⟩
          rw [decide_eq_true this, Bool.true_and]
        obtain ⟨p1, p2⟩ := pow_small m hm
        have p0 : ¬ (2 : Int) ^ m = 0 := by omega
        obtain ⟨hy1, hy2⟩ := hy
        obtain ⟨hx1, hx2⟩ := hx
        obtain ⟨hz1, hz2⟩ := hz
        generalize (2 : Int) ^ m = q at *
        go_enter Try.func32, Try.ntmps32
        go_wp2
        go_quiet (first
          | (go_at_call 26; exact Calls.quiet_of_same (F4.out _))
          | (go_at_call 25; exact Calls.quiet_of_same (l1In_yes _ (by assumption) (by assumption))))
        go_wp2
        go_ret
        exact ⟨ret_bool (by rw [E.out]; rfl), then_ L0 (still _ _)⟩
      · have E : Hid (rOk x y z = false) := by show _ = _; unfold rOk; rw [decide_eq_false (by omega), Bool.false_and]
        obtain ⟨hy1, hy2⟩ := hy
        obtain ⟨hx1, hx2⟩ := hx
        have hz' : z < 1 ∨ 100 < z := by omega
        clear hz
        go_enter Try.func32, Try.ntmps32
        go_wp2
        go_quiet (first | (go_at_call 25; exact Calls.quiet_of_same (l1In_yes _ (by assumption) (by assumption))) | (go_at_call 25; exact Calls.quiet_of_same (l1In_no _ (by assumption))))
        go_wp2
        go_ret
        exact ⟨ret_bool E.out.symm, then_ L0 (still _ _)⟩
    · have E : Hid (rOk x y z = false) := by show _ = _; unfold rOk; rw [decide_eq_false (by omega), Bool.false_and]
      obtain ⟨hy1, hy2⟩ := hy
      have hx' : x < 0 ∨ 4294967295 < x := by omega
      clear hx
      go_enter Try.func32, Try.ntmps32
      go_wp2
      go_quiet (first | (go_at_call 25; exact Calls.quiet_of_same (l1In_yes _ (by assumption) (by assumption))) | (go_at_call 25; exact Calls.quiet_of_same (l1In_no _ (by assumption))))
      go_wp2
      go_ret
      exact ⟨ret_bool E.out.symm, then_ L0 (still _ _)⟩
  · have E : Hid (rOk x y z = false) := by show _ = _; unfold rOk; rw [decide_eq_false (by omega), Bool.false_and]
    have hy' : y < 0 ∨ 32 < y := by omega
    clear hy
    go_enter Try.func32, Try.ntmps32
    go_wp2
    go_quiet (first | (go_at_call 25; exact Calls.quiet_of_same (l1In_yes _ (by assumption) (by assumption))) | (go_at_call 25; exact Calls.quiet_of_same (l1In_no _ (by assumption))))
    go_wp2
    go_ret
    exact ⟨ret_bool E.out.symm, then_ L0 (still _ _)⟩

theorem isAddress_yes {x : Int} (w : World) (h1 : 0 ≤ x) (h2 : x ≤ 4294967295) : Calls Try.prog 18 #[.int .i64 x] w fun e w' => e = .returned (.bool true) ∧ w' = w := by
  go_enter Try.func18, Try.ntmps18
  go_wp2
  go_ret
  exact ⟨rfl, rfl⟩
theorem isAddress_no {x : Int} (w : World) (h : x < 0 ∨ 4294967295 < x) : Calls Try.prog 18 #[.int .i64 x] w fun e w' => e = .returned (.bool false) ∧ w' = w := by
  rcases h with h | h
  · have h' : ¬ 0 ≤ x := by omega
    go_enter Try.func18, Try.ntmps18
    go_wp2
    go_ret
    exact ⟨rfl, rfl⟩
  · have h1 : 0 ≤ x := by omega
    have h' : ¬ x ≤ 4294967295 := by omega
    go_enter Try.func18, Try.ntmps18
    go_wp2
    go_ret
    exact ⟨rfl, rfl⟩
set_option maxHeartbeats 1000000 in
theorem netOf_any (x : Int) (m : Nat) (w : World) (h : m ≤ 32) (hx : 0 ≤ x) (hx2 : x ≤ 4294967295) : Calls Try.prog 22 #[.int .i64 x, .int .i64 (32 - (m : Int))] w fun e w' => e = .returned (.int .i64 (x / 2 ^ m * 2 ^ m)) ∧ w' = w := by
  obtain ⟨p1, p2⟩ := pow_small m h
  go_enter Try.func22, Try.ntmps22
  go_wp2
  go_ret
  refine ⟨ret_int ?_, rfl⟩
  rw [show 32 - (32 - m) = m by omega]
  generalize (2 : Int) ^ m = q at *
  have h1 := Int.ediv_mul_le x (show q ≠ 0 by omega)
  have h2 : 0 ≤ x / q * q := Int.mul_nonneg (Int.ediv_nonneg hx (by omega)) (by omega)
  unfold wrap64
  omega
theorem whole (x q : Int) : (x / q * q == x) = decide (x % q = 0) := by
  have t := Int.mul_ediv_add_emod x q
  rw [Int.mul_comm] at t
  by_cases e : x % q = 0
  · rw [decide_eq_true e]
    exact beq_iff_eq.2 (by omega)
  · rw [decide_eq_false e]
    exact beq_eq_false_iff_ne.2 (by omega)

set_option maxRecDepth 100000 in
set_option maxHeartbeats 1000000 in
theorem routeOk_any (x y z : Int) (w : World) : Calls Try.prog 28 #[.agg #[.int .i64 x, .int .i64 y, .int .i64 z]] w fun e w' => e = .returned (.bool (rOk x y z)) ∧ Below w.heap.size w w' := by
  have L0 := (Below.refl _ w).alloc (Nat.le_refl _) (.cells #[.int .i64 x, .int .i64 y, .int .i64 z] 29)
  by_cases hy0 : y < 0
  · have E : Hid (rOk x y z = false) := by show _ = _; unfold rOk; rw [decide_eq_false (by omega), Bool.false_and]
    go_enter Try.func28, Try.ntmps28
    go_wp2
    go_ret
    exact ⟨ret_bool E.out.symm, L0⟩
  by_cases hy1 : 32 < y
  · have E : Hid (rOk x y z = false) := by show _ = _; unfold rOk; rw [decide_eq_false (by omega), Bool.false_and]
    go_enter Try.func28, Try.ntmps28
    go_wp2
    go_ret
    exact ⟨ret_bool E.out.symm, L0⟩
  by_cases hx : 0 ≤ x ∧ x ≤ 4294967295
  · obtain ⟨hx1, hx2⟩ := hx
    obtain ⟨m, rfl, hm⟩ : ∃ m : Nat, y = 32 - (m : Int) ∧ m ≤ 32 := ⟨(32 - y).toNat, by omega, by omega⟩
    have F1 := hid (fun w => isAddress_yes w hx1 hx2)
    have F2 := hid (fun w => netOf_any x m w hm hx1 hx2)
    have E : Hid (rOk x (32 - (m : Int)) z = ((x / 2 ^ m * 2 ^ m == x) && decide (1 ≤ z ∧ z ≤ 100))) := by
      show _ = _
      unfold rOk
      rw [show (32 - (32 - (m : Int))).toNat = m by omega, whole, Bool.and_comm]
      congr 1
      by_cases hz : 1 ≤ z ∧ z ≤ 100
      · rw [decide_eq_true hz, decide_eq_true (by omega)]
      · rw [decide_eq_false hz, decide_eq_false (by omega)]
    generalize x / 2 ^ m * 2 ^ m = N at *
    by_cases hN : N = x
    · have hN' : (N == x) = true := beq_iff_eq.2 hN
      rw [hN', Bool.true_and] at E
      by_cases hz1 : 1 ≤ z
      · have E2 : Hid (rOk x (32 - (m : Int)) z = decide (z ≤ 100)) := by show _ = _; rw [E.out]; simp [hz1]
        clear hN E
        go_enter Try.func28, Try.ntmps28
        go_wp2_with (go_at_call 18; refine (F1.out _).mono ?_; rintro e w1 ⟨rfl, hw1⟩; subst w1)
        go_quiet (first | (go_at_call 22; exact Calls.quiet_of_same (F2.out _)))
        go_wp2
        go_ret
        exact ⟨ret_bool E2.out.symm, then_ L0 (still _ _)⟩
      · have hz2 : decide (1 ≤ z) = false := decide_eq_false hz1
        have E2 : Hid (rOk x (32 - (m : Int)) z = false) := by show _ = _; rw [E.out]; simp [hz1]
        clear hN E
        go_enter Try.func28, Try.ntmps28
        go_wp2_with (go_at_call 18; refine (F1.out _).mono ?_; rintro e w1 ⟨rfl, hw1⟩; subst w1)
        go_quiet (first | (go_at_call 22; exact Calls.quiet_of_same (F2.out _)))
        go_wp2
        go_ret
        exact ⟨ret_bool E2.out.symm, then_ L0 (still _ _)⟩
    · have hN' : (N == x) = false := beq_eq_false_iff_ne.2 hN
      rw [hN', Bool.false_and] at E
      clear hN
      go_enter Try.func28, Try.ntmps28
      go_wp2_with (go_at_call 18; refine (F1.out _).mono ?_; rintro e w1 ⟨rfl, hw1⟩; subst w1)
      go_quiet (first | (go_at_call 22; exact Calls.quiet_of_same (F2.out _)))
      go_wp2
      go_ret
      exact ⟨ret_bool E.out.symm, then_ L0 (still _ _)⟩
  · have E : Hid (rOk x y z = false) := by show _ = _; unfold rOk; rw [decide_eq_false (by omega), Bool.false_and]
    have F1 := hid (fun w => isAddress_no (x := x) w (by omega))
    clear hx
    go_enter Try.func28, Try.ntmps28
    go_wp2_with (go_at_call 18; refine (F1.out _).mono ?_; rintro e w1 ⟨rfl, hw1⟩; subst w1)
    go_ret
    exact ⟨ret_bool E.out.symm, L0⟩
end Go.Proofs.Ythlejmofhcgkdaa
