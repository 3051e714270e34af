/- Owned categories: ownsOk of the program and l2Owns of the model answer the plain function ownOk. -/
import Derived.Test.YtonpoakimpoojaaE
import Derived.Test.YtonpoakimpoojaaJ
namespace Go.Proofs.Ytonpoakimpoojaa
open Go.RowKit Go.Deep

def ownAt (h : Nat → Int) (i : Nat) : Bool := inB (h i) 1 9999 && (i == 0 || decide (h (i - 1) < h i))
def ownOk (n : Nat) (h : Nat → Int) : Bool := decide (n ≤ 10) && (List.range n).all (ownAt h)

theorem ownOk_len {n : Nat} {h : Nat → Int} (e : 10 < n) : ownOk n h = false := by
  have : decide (n ≤ 10) = false := by simp; omega
  simp [ownOk, this]
theorem ownOk_at {n k : Nat} {h : Nat → Int} (hk : k < n) (e : ownAt h k = false) : ownOk n h = false := by
  have : (List.range n).all (ownAt h) = false := by
    rw [List.all_eq_false]; exact ⟨k, List.mem_range.2 hk, by simp [e]⟩
  simp [ownOk, this]
theorem ownOk_all {n : Nat} {h : Nat → Int} (e : ∀ i, i < n → ownAt h i = true) : ownOk n h = decide (n ≤ 10) := by
  have : (List.range n).all (ownAt h) = true := by
    rw [List.all_eq_true]; intro i hi; exact e i (List.mem_range.1 hi)
  simp [ownOk, this]
theorem ownOk_out {n : Nat} {h : Nat → Int} (e : ownOk n h = true) : n ≤ 10 ∧ ∀ i, i < n → ownAt h i = true := by
  simp only [ownOk, Bool.and_eq_true, decide_eq_true_eq, List.all_eq_true, List.mem_range] at e
  exact e
theorem ownAt_n1 {h : Nat → Int} {k : Nat} (e : inB (h k) 1 9999 = false) : ownAt h k = false := by simp [ownAt, e]
theorem ownAt_n2 {h : Nat → Int} {k : Nat} (h0 : inB (h k) 1 9999 = true) (e : h k ≤ lastOf h k) : ownAt h k = false := by
  have h0 := inB_iff.1 h0
  by_cases e0 : k = 0
  · subst e0; simp [lastOf] at e; omega
  · simp [lastOf, e0] at e
    have : decide (h (k - 1) < h k) = false := by simp; omega
    simp [ownAt, e0, this]
theorem ownAt_y {h : Nat → Int} {k : Nat} (h1 : inB (h k) 1 9999 = true) (h2 : lastOf h k < h k) : ownAt h k = true := by
  by_cases e : k = 0
  · subst e; simp_all [ownAt]
  · simp [lastOf, e] at h2
    simp [ownAt, h1, h2]
theorem ownAt_n5 {h : Nat → Int} {k : Nat} (h0 : 0 < k) (e : h k ≤ h (k - 1)) : ownAt h k = false := by
  have e0 : ¬ k = 0 := by omega
  have : decide (h (k - 1) < h k) = false := by simp; omega
  simp [ownAt, e0, this]
theorem ownAt_y0 {h : Nat → Int} {k : Nat} (h1 : inB (h k) 1 9999 = true) (e : k = 0 ∨ h (k - 1) < h k) : ownAt h k = true := by
  rcases e with e | e <;> simp_all [ownAt]

set_option maxHeartbeats 1000000 in
theorem ownsOk_any (a : Option Addr) (n cap : Nat) (h : Nat → Int) (w : World) (hn : n ≤ maxLen) (hc : IntsAt w a n h) :
    Calls Try.prog 92 #[.slice a n cap] w fun e w' => e = .returned (.bool (ownOk n h)) ∧ w' = w := by
  unfold maxLen at hn
  by_cases h10 : 10 < n
  · have h10' : (10 : Int) < (n : Int) := by omega
    go_enter Try.func92, Try.ntmps92
    go_wp2
    go_ret
    exact ⟨ret_bool (ownOk_len h10).symm, rfl⟩
  · have h10' : ¬ (10 : Int) < (n : Int) := by omega
    go_enter Try.func92, Try.ntmps92
    go_wp2
    go_loop [3, 11] (fun l i => ∃ k : Nat, k ≤ n ∧ i = .int .i64 k ∧ l = .int .i64 (lastOf h k) ∧ (∀ j, j < k → ownAt h j = true)) (fun _ i => n - (intOf i).toNat)
    case atStart => exact ⟨0, Nat.zero_le _, rfl, rfl, fun j hj => by omega⟩
    case round =>
      obtain ⟨k, hk, rfl, rfl, hall⟩ := hrel
      have HA : Hid (∀ j, j < k → ownAt h j = true) := hall
      clear hall
      by_cases hlt' : k < n
      · obtain ⟨b, off, rfl, hlt, hcc⟩ := hc (by omega)
        have g1 := hcc k hlt'
        clear hcc hc
        by_cases t1 : inB (h k) 1 9999 = true
        · go_wp2_with (go_at_call 103; refine (isCat_any _ _).mono ?_; rintro e w' ⟨rfl, rfl⟩)
          · go_ret
            have t2 : h k ≤ lastOf h k := by assumption
            exact ⟨ret_bool (ownOk_at hlt' (ownAt_n2 t1 t2)).symm, rfl⟩
          · have t2 : lastOf h k < h k := by assumption
            go_round
            case rel =>
              refine ⟨k + 1, by omega, by go_num, by rw [lastOf_succ], fun j hj => ?_⟩
              by_cases e : j = k
              · subst e; exact ownAt_y t1 t2
              · exact HA.out j (by omega)
            case measure => simp [intOf]; omega
        · have t1' : inB (h k) 1 9999 = false := by simpa using t1
          clear t1
          go_wp2_with (go_at_call 103; refine (isCat_any _ _).mono ?_; rintro e w' ⟨rfl, rfl⟩)
          go_ret
          exact ⟨ret_bool (ownOk_at hlt' (ownAt_n1 t1')).symm, rfl⟩
      · clear hc
        go_wp2
        go_ret
        have e : k = n := by omega
        subst e
        exact ⟨ret_bool (by rw [ownOk_all HA.out]; simp; omega), rfl⟩

set_option maxHeartbeats 1000000 in
theorem l2Owns_any (a : Option Addr) (n cap : Nat) (h : Nat → Int) (w : World) (hn : n ≤ maxLen) (hc : IntsAt w a n h) :
    Calls Try.prog 66 #[.slice a n cap] w fun e w' => e = .returned (.bool (ownOk n h)) ∧ Below w.heap.size w w' := by
  unfold maxLen at hn
  go_enter Try.func66, Try.ntmps66
  go_wp2
  go_loopw [3] (fun i wr => ∃ k : Nat, k ≤ n ∧ i = .int .i64 k ∧ (∀ j, j < k → ownAt h j = true) ∧ Below w.heap.size w wr) (fun i _ => n - (intOf i).toNat)
  case atStart => exact ⟨0, Nat.zero_le _, rfl, fun j hj => by omega, Below.refl _ _⟩
  case round =>
    obtain ⟨k, hk, rfl, hall, hB⟩ := hrel
    have HA : Hid (∀ j, j < k → ownAt h j = true) := hall
    clear hall
    by_cases hlt' : k < n
    · obtain ⟨b, off, rfl, hlt, hcc⟩ := hc (by omega)
      have g1 : wr.cell? ⟨b, off + k, none⟩ = some (.int .i64 (h k)) := (hB.cell (p := ⟨b, _, none⟩) hlt).trans (hcc k hlt')
      have i0 : (0 : Int) ≤ (k : Int) := by omega
      have i1 : (k : Int) < (n : Int) := by omega
      clear hc
      by_cases t1 : inB (h k) 1 9999 = true
      · by_cases k0 : k = 0
        · have d0 : decide ((0 : Int) < (k : Int)) = false := by simp; omega
          have d1 : decide (0 < k) = false := by simp; omega
          have K0 : Hid (k = 0) := k0
          clear k0 hcc
          go_wp2_with fail
          go_quiet ((go_at_call 37; exact Calls.quiet_of_same (l1In_any _ _ _ _)))
          go_wp2
          go_roundw
          case rel =>
            refine ⟨k + 1, by omega, by go_num, fun j hj => ?_, below_drewN hB _⟩
            by_cases e : j = k
            · subst e; exact ownAt_y0 t1 (.inl K0.out)
            · exact HA.out j (by omega)
          case measure => simp [intOf]; omega
        · obtain ⟨m, rfl⟩ : ∃ m, k = m + 1 := ⟨k - 1, by omega⟩
          have d0 : (0 : Int) < ((m + 1 : Nat) : Int) := by omega
          have q1 : wr.cell? ⟨b, off + m, none⟩ = some (.int .i64 (h m)) := (hB.cell (p := ⟨b, _, none⟩) hlt).trans (hcc m (by omega))
          have j1 : ((m : Nat) : Int) < (n : Int) := by omega
          clear hcc
          by_cases t5 : h (m + 1) ≤ h m
          · have d5 : decide (h (m + 1) ≤ h m) = true := by simpa using t5
            go_wp2_with fail
            go_quiet ((go_at_call 37; exact Calls.quiet_of_same (l1In_any _ _ _ _)))
            go_wp2
            go_ret
            exact ⟨ret_bool (ownOk_at hlt' (ownAt_n5 (by omega) t5)).symm, below_drewN hB _⟩
          · have d5 : decide (h (m + 1) ≤ h m) = false := by simpa using t5
            go_wp2_with fail
            go_quiet ((go_at_call 37; exact Calls.quiet_of_same (l1In_any _ _ _ _)))
            go_wp2
            go_roundw
            case rel =>
              refine ⟨m + 1 + 1, by omega, by go_num, fun j hj => ?_, below_drewN hB _⟩
              by_cases e : j = m + 1
              · subst e; exact ownAt_y0 t1 (.inr (by simpa using t5))
              · exact HA.out j (by omega)
            case measure => simp [intOf]; omega
      · have t1' : inB (h k) 1 9999 = false := by simpa using t1
        clear t1 hcc
        go_wp2_with fail
        go_quiet ((go_at_call 37; exact Calls.quiet_of_same (l1In_any _ _ _ _)))
        go_wp2
        go_ret
        exact ⟨ret_bool (ownOk_at hlt' (ownAt_n1 t1')).symm, below_drewN hB _⟩
    · clear hc
      go_wp2
      go_ret
      have e : k = n := by omega
      subst e
      exact ⟨ret_bool (by rw [ownOk_all HA.out]; exact decide_eq_decide.2 (by omega)), hB⟩
end Go.Proofs.Ytonpoakimpoojaa
