/- LabelOk of the model answers the plain function labOk, at every label. -/
import Derived.Test.YtjceaajnemgheaaGreatDoorZ0
import Derived.Deep.QuietTactic
import Derived.BigQuiet
namespace Go.Proofs.YtjceaajnemgheaaGreatDoor
open Go.RowKit Go.Deep

theorem catOk_n5 {base : Int} {f g : Nat → Int} {k : Nat} (h0 : 0 < k) (h : f k ≤ f (k - 1)) : catOk base f g k = false := by
  have e : ¬ k = 0 := by omega
  have : decide (f (k - 1) < f k) = false := by simp; omega
  simp [catOk, e, this]
theorem catOk_y0 {base : Int} {f g : Nat → Int} {k : Nat} (h1 : inB (f k) 1 9999 = true) (h3 : inB (g k) 0 3 = true) (h4 : (g k == base) = false) (h : k = 0 ∨ f (k - 1) < f k) : catOk base f g k = true := by
  rcases h with h | h <;> simp_all [catOk]

set_option maxHeartbeats 1000000 in
theorem specOk_any (base : Int) (a : Option Addr) (n cap : Nat) (f g : Nat → Int) (w : World) (hn : n ≤ maxLen) (hc : CatsAt w a n f g) :
    Calls Tryz.prog 44 #[.agg #[.int .i64 base, .slice a n cap]] w fun e w' => e = .returned (.bool (labOk base n f g)) ∧ Below w.heap.size w w' := by
  unfold maxLen at hn
  by_cases hb : inB base 0 3 = true
  · by_cases h12 : 12 < n
    · have h12' : (12 : Int) < (n : Int) := by omega
      go_enter Tryz.func44, Tryz.ntmps44
      go_wp2_with (go_at_call 49; refine (l1In_any _ _ _ _).mono ?_; rintro e w' ⟨rfl, rfl⟩)
      go_ret
      exact ⟨ret_bool (labOk_len h12).symm, (Below.refl _ _).alloc (Nat.le_refl _) _⟩
    · have h12' : ¬ (12 : Int) < (n : Int) := by omega
      have hb0 := (Below.refl _ w).alloc (Nat.le_refl _) (.cells #[.int .i64 base, .slice a n cap] 39)
      have hc1 := hc.below hb0
      go_enter Tryz.func44, Tryz.ntmps44
      go_wp2_with (go_at_call 49; refine (l1In_any _ _ _ _).mono ?_; rintro e w' ⟨rfl, rfl⟩)
      go_loopw [3] (fun i wr => ∃ k : Nat, k ≤ n ∧ i = .int .i64 k ∧ (∀ j, j < k → catOk base f g j = true) ∧ Below (w.heap.size + 1) (w.alloc (.cells #[.int .i64 base, .slice a n cap] 39)) wr) (fun i _ => n - (intOf i).toNat)
      case atStart => exact ⟨0, Nat.zero_le _, rfl, fun j hj => by omega, Below.refl _ _⟩
      case round =>
        obtain ⟨k, hk, rfl, hall, hB⟩ := hrel
        have x0 : wr.cell? ⟨w.heap.size, 0, none⟩ = some (.int .i64 base) := (hB.cell (p := ⟨w.heap.size, 0, none⟩) (by simp)).trans (by simp)
        have y0 : wr.cell? ⟨w.heap.size, 1, none⟩ = some (.slice a n cap) := (hB.cell (p := ⟨w.heap.size, 1, none⟩) (by simp)).trans (by simp)
        have hB' : Below w.heap.size w wr := hb0.trans (hB.mono (by omega))
        have zz : w.heap.size < wr.heap.size := by have := hB.size; simp at this; omega
        by_cases hlt' : k < n
        · obtain ⟨b, off, rfl, hlt, hcc⟩ := hc (by omega)
          obtain ⟨h1, h2⟩ := hcc k hlt'
          have zb : b < wr.heap.size := by omega
          have g1 : wr.cell? ⟨b, off + k * 2, none⟩ = some (.int .i64 (f k)) := (hB'.cell (p := ⟨b, _, none⟩) hlt).trans h1
          have g2 : wr.cell? ⟨b, off + k * 2 + 1, none⟩ = some (.int .i64 (g k)) := (hB'.cell (p := ⟨b, _, none⟩) hlt).trans h2
          have x1 : ∀ o, (wr.alloc o).cell? ⟨w.heap.size, 0, none⟩ = some (.int .i64 base) := fun o => (((Below.refl _ wr).alloc (Nat.le_refl _) o).cell (p := ⟨w.heap.size, 0, none⟩) zz).trans x0
          have y1 : ∀ o, (wr.alloc o).cell? ⟨w.heap.size, 1, none⟩ = some (.slice (some ⟨b, off, none⟩) n cap) := fun o => (((Below.refl _ wr).alloc (Nat.le_refl _) o).cell (p := ⟨w.heap.size, 1, none⟩) zz).trans y0
          have i0 : (0 : Int) ≤ (k : Int) := by omega
          have i1 : (k : Int) < (n : Int) := by omega
          have HA : Hid (∀ j, j < k → catOk base f g j = true) := hall
          clear h1 h2 hc hc1 hb0 hall
          by_cases t1 : inB (f k) 1 9999 = true
          · by_cases t3 : inB (g k) 0 3 = true
            · by_cases t4 : (g k == base) = true
              · have t4' : g k = base := by simpa using t4
                clear t4
                go_wp2_with fail
                go_quiet ((go_at_call 49; exact Calls.quiet_of_same (l1In_any _ _ _ _)))
                go_wp2
                go_ret
                exact ⟨ret_bool (labOk_at hlt' (catOk_n4 (by simpa using t4'))).symm, below_drewN (hB'.alloc (by omega) _) _⟩
              · have t4' : (g k == base) = false := by simpa using t4
                clear t4
                by_cases k0 : k = 0
                · have d0 : decide ((0 : Int) < (k : Int)) = false := by simp; omega
                  have d1 : decide (0 < k) = false := by simp; omega
                  have K0 : Hid (k = 0) := k0
                  clear k0
                  go_wp2_with fail
                  go_quiet ((go_at_call 49; exact Calls.quiet_of_same (l1In_any _ _ _ _)))
                  go_wp2
                  go_roundw
                  case rel =>
                    refine ⟨k + 1, by omega, by go_num, fun j hj => ?_, below_drewN (hB.alloc (by omega) _) _⟩
                    by_cases e : j = k
                    · subst e; exact catOk_y0 t1 t3 t4' (.inl K0.out)
                    · exact HA.out j (by omega)
                  case measure => simp [intOf]; omega
                · obtain ⟨m, rfl⟩ : ∃ m, k = m + 1 := ⟨k - 1, by omega⟩
                  have d0 : (0 : Int) < ((m + 1 : Nat) : Int) := by omega
                  have q1 : ∀ o, (wr.alloc o).cell? ⟨b, off + m * 2, none⟩ = some (.int .i64 (f m)) := fun o => (((Below.refl _ wr).alloc (Nat.le_refl _) o).cell (p := ⟨b, off + m * 2, none⟩) zb).trans ((hB'.cell (p := ⟨b, _, none⟩) hlt).trans (hcc m (by omega)).1)
                  have j1 : ((m : Nat) : Int) < (n : Int) := by omega
                  clear hcc
                  by_cases t5 : f (m + 1) ≤ f m
                  · have d5 : decide (f (m + 1) ≤ f m) = true := by simpa using t5
                    go_wp2_with fail
                    go_quiet ((go_at_call 49; exact Calls.quiet_of_same (l1In_any _ _ _ _)))
                    go_wp2
                    go_ret
                    exact ⟨ret_bool (labOk_at hlt' (catOk_n5 (by omega) t5)).symm, below_drewN (hB'.alloc (by omega) _) _⟩
                  · have d5 : decide (f (m + 1) ≤ f m) = false := by simpa using t5
                    go_wp2_with fail
                    go_quiet ((go_at_call 49; exact Calls.quiet_of_same (l1In_any _ _ _ _)))
                    go_wp2
                    go_roundw
                    case rel =>
                      refine ⟨m + 1 + 1, by omega, by go_num, fun j hj => ?_, below_drewN (hB.alloc (by omega) _) _⟩
                      by_cases e : j = (m + 1)
                      · subst e; exact catOk_y0 t1 t3 t4' (.inr (by simpa using t5))
                      · exact HA.out j (by omega)
                    case measure => simp [intOf]; omega
            · have t3' : inB (g k) 0 3 = false := by simpa using t3
              clear t3
              go_wp2_with fail
              go_quiet ((go_at_call 49; exact Calls.quiet_of_same (l1In_any _ _ _ _)))
              go_wp2
              go_ret
              exact ⟨ret_bool (labOk_at hlt' (catOk_n3 t3')).symm, below_drewN (hB'.alloc (by omega) _) _⟩
          · have t1' : inB (f k) 1 9999 = false := by simpa using t1
            clear t1
            go_wp2_with fail
            go_quiet ((go_at_call 49; exact Calls.quiet_of_same (l1In_any _ _ _ _)))
            go_wp2
            go_ret
            exact ⟨ret_bool (labOk_at hlt' (catOk_n1 t1')).symm, below_drewN (hB'.alloc (by omega) _) _⟩
        · have HA : Hid (∀ j, j < k → catOk base f g j = true) := hall
          clear hall hc hc1
          go_wp2
          go_ret
          have e : k = n := by omega
          subst e
          exact ⟨ret_bool (labOk_mk hb (by omega) HA.out).symm, hB'⟩
  · have hb' : inB base 0 3 = false := by simpa using hb
    clear hb
    go_enter Tryz.func44, Tryz.ntmps44
    go_wp2_with (go_at_call 49; refine (l1In_any _ _ _ _).mono ?_; rintro e w' ⟨rfl, rfl⟩)
    go_ret
    exact ⟨ret_bool (labOk_base hb').symm, (Below.refl _ _).alloc (Nat.le_refl _) _⟩
end Go.Proofs.YtjceaajnemgheaaGreatDoor
namespace Go.Proofs.YtjceaajnemgheaaGreatDoor
open Go.RowKit Go.Deep

def IntsAt (w : World) (a : Option Addr) (n : Nat) (h : Nat → Int) : Prop :=
  0 < n → ∃ b off, a = some ⟨b, off, none⟩ ∧ b < w.heap.size ∧ ∀ i, i < n → w.cell? ⟨b, off + i, none⟩ = some (.int .i64 (h i))

theorem IntsAt.below {w w' : World} {a : Option Addr} {n : Nat} {h : Nat → Int} (hc : IntsAt w a n h) (hb : Below w.heap.size w w') : IntsAt w' a n h := fun hn => by
  obtain ⟨b, off, rfl, hlt, hc⟩ := hc hn
  obtain ⟨h1, _⟩ := bcell hb
  exact ⟨b, off, rfl, Nat.lt_of_lt_of_le hlt hb.size, fun i hi => by rw [h1 _ _ hlt]; exact hc i hi⟩

theorem IntsAt.row {w : World} {b n : Nat} {t : TypeId} {h : Nat → Int} (hr : w.rowIs b t n (fun i => .int .i64 (h i))) : IntsAt w (some ⟨b, 0, none⟩) n h := fun _ =>
  ⟨b, 0, rfl, hr.lt, fun i hi => by rw [Nat.zero_add]; exact hr.cell hi⟩

theorem Tryz.info2 : (Tryz.prog.info? 2).map (fun i => (i.zero, i.size, i.bytes)) = some (some (.int .i64 0), 1, 8) := by kernel_rfl

theorem upto_int_row {w : World} {b n k : Nat} {h : Nat → Int} (hr : w.rowIs b 2 n (fun i => .int .i64 (upto k h i))) :
    (w.setCell ⟨b, k, none⟩ (.int .i64 (h k))).rowIs b 2 n (fun i => .int .i64 (upto (k + 1) h i)) := by
  refine (hr.set k _).congr fun j _ => ?_
  by_cases e : j = k
  · subst e; simp [upto]
  · have a1 : (j < k + 1) = (j < k) := by apply propext; omega
    simp [upto, e, a1]

theorem upto_int_done {w : World} {b n : Nat} {h : Nat → Int} (hr : w.rowIs b 2 n (fun i => .int .i64 (upto n h i))) : w.rowIs b 2 n (fun i => .int .i64 (h i)) :=
  hr.congr fun j hj => by simp [upto, hj]

set_option maxHeartbeats 1000000 in
theorem eqInt64S_true (a a' : Option Addr) (n cap cap' : Nat) (h : Nat → Int) (w : World) (hn : n ≤ maxLen) (hc : IntsAt w a n h) (hc' : IntsAt w a' n h) :
    Calls Tryz.prog 61 #[.slice a n cap, .slice a' n cap'] w fun e w' => e = .returned (.bool true) ∧ Below w.heap.size w w' := by
  unfold maxLen at hn
  go_enter Tryz.func61, Tryz.ntmps61
  go_wp2
  go_loopw [5] (fun i wr => ∃ k : Nat, k ≤ n ∧ i = .int .i64 k ∧ Below w.heap.size w wr) (fun i _ => n - (intOf i).toNat)
  case atStart => exact ⟨0, Nat.zero_le _, rfl, Below.refl _ _⟩
  case round =>
    obtain ⟨k, hk, rfl, hB⟩ := hrel
    by_cases hlt' : k < n
    · obtain ⟨b, off, rfl, hlt, hc⟩ := hc (by omega)
      obtain ⟨b', off', rfl, hlt2, hc'⟩ := hc' (by omega)
      have g1 : wr.cell? ⟨b, off + k, none⟩ = some (.int .i64 (h k)) := (hB.cell (p := ⟨b, _, none⟩) hlt).trans (hc k hlt')
      have g2 : wr.cell? ⟨b', off' + k, none⟩ = some (.int .i64 (h k)) := (hB.cell (p := ⟨b', _, none⟩) hlt2).trans (hc' k hlt')
      clear hc hc'
      have i0 : (0 : Int) ≤ (k : Int) := by omega
      have i1 : (k : Int) < (n : Int) := by omega
      go_wp2_with fail
      go_quiet (fail)
      go_wp2
      go_roundw
      case rel => exact ⟨k + 1, by omega, by go_num, below_drewN hB _⟩
      case measure => simp [intOf]; omega
    · clear hc hc'
      go_wp2
      go_ret
      exact ⟨rfl, hB⟩
end Go.Proofs.YtjceaajnemgheaaGreatDoor
namespace Go.Proofs.YtjceaajnemgheaaGreatDoor
open Go.RowKit Go.Deep

def ownAt (h : Nat → Int) (i : Nat) : Bool := inB (h i) 1 9999 && (i == 0 || decide (h (i - 1) < h i))
def ownOk (n : Nat) (h : Nat → Int) : Bool := decide (n ≤ 10) && (List.range n).all (ownAt h)

theorem ownOk_len {n : Nat} {h : Nat → Int} (e : 10 < n) : ownOk n h = false := by
  have : decide (n ≤ 10) = false := by simp; omega
  simp [ownOk, this]
theorem ownOk_at {n k : Nat} {h : Nat → Int} (hk : k < n) (e : ownAt h k = false) : ownOk n h = false := by
  have : (List.range n).all (ownAt h) = false := by
    rw [List.all_eq_false]; exact ⟨k, List.mem_range.2 hk, by simp [e]⟩
  simp [ownOk, this]
theorem ownOk_all {n : Nat} {h : Nat → Int} (e : ∀ i, i < n → ownAt h i = true) : ownOk n h = decide (n ≤ 10) := by
  have : (List.range n).all (ownAt h) = true := by
    rw [List.all_eq_true]; intro i hi; exact e i (List.mem_range.1 hi)
  simp [ownOk, this]
theorem ownOk_out {n : Nat} {h : Nat → Int} (e : ownOk n h = true) : n ≤ 10 ∧ ∀ i, i < n → ownAt h i = true := by
  simp only [ownOk, Bool.and_eq_true, decide_eq_true_eq, List.all_eq_true, List.mem_range] at e
  exact e
theorem ownAt_n1 {h : Nat → Int} {k : Nat} (e : inB (h k) 1 9999 = false) : ownAt h k = false := by simp [ownAt, e]
theorem ownAt_n2 {h : Nat → Int} {k : Nat} (h0 : inB (h k) 1 9999 = true) (e : h k ≤ lastOf h k) : ownAt h k = false := by
  have h0 := inB_iff.1 h0
  by_cases e0 : k = 0
  · subst e0; simp [lastOf] at e; omega
  · simp [lastOf, e0] at e
    have : decide (h (k - 1) < h k) = false := by simp; omega
    simp [ownAt, e0, this]
theorem ownAt_y {h : Nat → Int} {k : Nat} (h1 : inB (h k) 1 9999 = true) (h2 : lastOf h k < h k) : ownAt h k = true := by
  by_cases e : k = 0
  · subst e; simp_all [ownAt]
  · simp [lastOf, e] at h2
    simp [ownAt, h1, h2]
theorem ownAt_n5 {h : Nat → Int} {k : Nat} (h0 : 0 < k) (e : h k ≤ h (k - 1)) : ownAt h k = false := by
  have e0 : ¬ k = 0 := by omega
  have : decide (h (k - 1) < h k) = false := by simp; omega
  simp [ownAt, e0, this]
theorem ownAt_y0 {h : Nat → Int} {k : Nat} (h1 : inB (h k) 1 9999 = true) (e : k = 0 ∨ h (k - 1) < h k) : ownAt h k = true := by
  rcases e with e | e <;> simp_all [ownAt]

set_option maxHeartbeats 1000000 in
theorem ownsOk_any (a : Option Addr) (n cap : Nat) (h : Nat → Int) (w : World) (hn : n ≤ maxLen) (hc : IntsAt w a n h) :
    Calls Tryz.prog 80 #[.slice a n cap] w fun e w' => e = .returned (.bool (ownOk n h)) ∧ w' = w := by
  unfold maxLen at hn
  by_cases h10 : 10 < n
  · have h10' : (10 : Int) < (n : Int) := by omega
    go_enter Tryz.func80, Tryz.ntmps80
    go_wp2
    go_ret
    exact ⟨ret_bool (ownOk_len h10).symm, rfl⟩
  · have h10' : ¬ (10 : Int) < (n : Int) := by omega
    go_enter Tryz.func80, Tryz.ntmps80
    go_wp2
    go_loop [3, 11] (fun l i => ∃ k : Nat, k ≤ n ∧ i = .int .i64 k ∧ l = .int .i64 (lastOf h k) ∧ (∀ j, j < k → ownAt h j = true)) (fun _ i => n - (intOf i).toNat)
    case atStart => exact ⟨0, Nat.zero_le _, rfl, rfl, fun j hj => by omega⟩
    case round =>
      obtain ⟨k, hk, rfl, rfl, hall⟩ := hrel
      have HA : Hid (∀ j, j < k → ownAt h j = true) := hall
      clear hall
      by_cases hlt' : k < n
      · obtain ⟨b, off, rfl, hlt, hcc⟩ := hc (by omega)
        have g1 := hcc k hlt'
        clear hcc hc
        by_cases t1 : inB (h k) 1 9999 = true
        · go_wp2_with (go_at_call 89; refine (isCat_any _ _).mono ?_; rintro e w' ⟨rfl, rfl⟩)
          · go_ret
            have t2 : h k ≤ lastOf h k := by assumption
            exact ⟨ret_bool (ownOk_at hlt' (ownAt_n2 t1 t2)).symm, rfl⟩
          · have t2 : lastOf h k < h k := by assumption
            go_round
            case rel =>
              refine ⟨k + 1, by omega, by go_num, by rw [lastOf_succ], fun j hj => ?_⟩
              by_cases e : j = k
              · subst e; exact ownAt_y t1 t2
              · exact HA.out j (by omega)
            case measure => simp [intOf]; omega
        · have t1' : inB (h k) 1 9999 = false := by simpa using t1
          clear t1
          go_wp2_with (go_at_call 89; refine (isCat_any _ _).mono ?_; rintro e w' ⟨rfl, rfl⟩)
          go_ret
          exact ⟨ret_bool (ownOk_at hlt' (ownAt_n1 t1')).symm, rfl⟩
      · clear hc
        go_wp2
        go_ret
        have e : k = n := by omega
        subst e
        exact ⟨ret_bool (by rw [ownOk_all HA.out]; simp; omega), rfl⟩

set_option maxHeartbeats 1000000 in
theorem l2Owns_any (a : Option Addr) (n cap : Nat) (h : Nat → Int) (w : World) (hn : n ≤ maxLen) (hc : IntsAt w a n h) :
    Calls Tryz.prog 63 #[.slice a n cap] w fun e w' => e = .returned (.bool (ownOk n h)) ∧ Below w.heap.size w w' := by
  unfold maxLen at hn
  go_enter Tryz.func63, Tryz.ntmps63
  go_wp2
  go_loopw [3] (fun i wr => ∃ k : Nat, k ≤ n ∧ i = .int .i64 k ∧ (∀ j, j < k → ownAt h j = true) ∧ Below w.heap.size w wr) (fun i _ => n - (intOf i).toNat)
  case atStart => exact ⟨0, Nat.zero_le _, rfl, fun j hj => by omega, Below.refl _ _⟩
  case round =>
    obtain ⟨k, hk, rfl, hall, hB⟩ := hrel
    have HA : Hid (∀ j, j < k → ownAt h j = true) := hall
    clear hall
    by_cases hlt' : k < n
    · obtain ⟨b, off, rfl, hlt, hcc⟩ := hc (by omega)
      have g1 : wr.cell? ⟨b, off + k, none⟩ = some (.int .i64 (h k)) := (hB.cell (p := ⟨b, _, none⟩) hlt).trans (hcc k hlt')
      have i0 : (0 : Int) ≤ (k : Int) := by omega
      have i1 : (k : Int) < (n : Int) := by omega
      clear hc
      by_cases t1 : inB (h k) 1 9999 = true
      · by_cases k0 : k = 0
        · have d0 : decide ((0 : Int) < (k : Int)) = false := by simp; omega
          have d1 : decide (0 < k) = false := by simp; omega
          have K0 : Hid (k = 0) := k0
          clear k0 hcc
          go_wp2_with fail
          go_quiet ((go_at_call 49; exact Calls.quiet_of_same (l1In_any _ _ _ _)))
          go_wp2
          go_roundw
          case rel =>
            refine ⟨k + 1, by omega, by go_num, fun j hj => ?_, below_drewN hB _⟩
            by_cases e : j = k
            · subst e; exact ownAt_y0 t1 (.inl K0.out)
            · exact HA.out j (by omega)
          case measure => simp [intOf]; omega
        · obtain ⟨m, rfl⟩ : ∃ m, k = m + 1 := ⟨k - 1, by omega⟩
          have d0 : (0 : Int) < ((m + 1 : Nat) : Int) := by omega
          have q1 : wr.cell? ⟨b, off + m, none⟩ = some (.int .i64 (h m)) := (hB.cell (p := ⟨b, _, none⟩) hlt).trans (hcc m (by omega))
          have j1 : ((m : Nat) : Int) < (n : Int) := by omega
          clear hcc
          by_cases t5 : h (m + 1) ≤ h m
          · have d5 : decide (h (m + 1) ≤ h m) = true := by simpa using t5
            go_wp2_with fail
            go_quiet ((go_at_call 49; exact Calls.quiet_of_same (l1In_any _ _ _ _)))
            go_wp2
            go_ret
            exact ⟨ret_bool (ownOk_at hlt' (ownAt_n5 (by omega) t5)).symm, below_drewN hB _⟩
          · have d5 : decide (h (m + 1) ≤ h m) = false := by simpa using t5
            go_wp2_with fail
            go_quiet ((go_at_call 49; exact Calls.quiet_of_same (l1In_any _ _ _ _)))
            go_wp2
            go_roundw
            case rel =>
              refine ⟨m + 1 + 1, by omega, by go_num, fun j hj => ?_, below_drewN hB _⟩
              by_cases e : j = m + 1
              · subst e; exact ownAt_y0 t1 (.inr (by simpa using t5))
              · exact HA.out j (by omega)
            case measure => simp [intOf]; omega
      · have t1' : inB (h k) 1 9999 = false := by simpa using t1
        clear t1 hcc
        go_wp2_with fail
        go_quiet ((go_at_call 49; exact Calls.quiet_of_same (l1In_any _ _ _ _)))
        go_wp2
        go_ret
        exact ⟨ret_bool (ownOk_at hlt' (ownAt_n1 t1')).symm, below_drewN hB _⟩
    · clear hc
      go_wp2
      go_ret
      have e : k = n := by omega
      subst e
      exact ⟨ret_bool (by rw [ownOk_all HA.out]; exact decide_eq_decide.2 (by omega)), hB⟩
end Go.Proofs.YtjceaajnemgheaaGreatDoor
