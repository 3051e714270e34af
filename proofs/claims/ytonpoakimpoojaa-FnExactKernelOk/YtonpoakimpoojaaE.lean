/- LabelOk of the model answers the plain function labOk, at every label. -/
import Derived.Test.YtonpoakimpoojaaD
import Derived.Deep.QuietTactic
import Derived.BigQuiet
namespace Go.Proofs.Ytonpoakimpoojaa
open Go.RowKit Go.Deep

theorem catOk_n5 {base : Int} {f g : Nat → Int} {k : Nat} (h0 : 0 < k) (h : f k ≤ f (k - 1)) : catOk base f g k = false := by
  have e : ¬ k = 0 := by omega
  have : decide (f (k - 1) < f k) = false := by simp; omega
  simp [catOk, e, this]
theorem catOk_y0 {base : Int} {f g : Nat → Int} {k : Nat} (h1 : inB (f k) 1 9999 = true) (h3 : inB (g k) 0 3 = true) (h4 : (g k == base) = false) (h : k = 0 ∨ f (k - 1) < f k) : catOk base f g k = true := by
  rcases h with h | h <;> simp_all [catOk]

set_option maxHeartbeats 1000000 in
theorem specOk_any (base : Int) (a : Option Addr) (n cap : Nat) (f g : Nat → Int) (w : World) (hn : n ≤ maxLen) (hc : CatsAt w a n f g) :
    Calls Try.prog 65 #[.agg #[.int .i64 base, .slice a n cap]] w fun e w' => e = .returned (.bool (labOk base n f g)) ∧ Below w.heap.size w w' := by
  unfold maxLen at hn
  by_cases hb : inB base 0 3 = true
  · by_cases h12 : 12 < n
    · have h12' : (12 : Int) < (n : Int) := by omega
      go_enter Try.func65, Try.ntmps65
      go_wp2_with (go_at_call 37; refine (l1In_any _ _ _ _).mono ?_; rintro e w' ⟨rfl, rfl⟩)
      go_ret
      exact ⟨ret_bool (labOk_len h12).symm, (Below.refl _ _).alloc (Nat.le_refl _) _⟩
    · have h12' : ¬ (12 : Int) < (n : Int) := by omega
      have hb0 := (Below.refl _ w).alloc (Nat.le_refl _) (.cells #[.int .i64 base, .slice a n cap] 37)
      have hc1 := hc.below hb0
      go_enter Try.func65, Try.ntmps65
      go_wp2_with (go_at_call 37; refine (l1In_any _ _ _ _).mono ?_; rintro e w' ⟨rfl, rfl⟩)
      go_loopw [3] (fun i wr => ∃ k : Nat, k ≤ n ∧ i = .int .i64 k ∧ (∀ j, j < k → catOk base f g j = true) ∧ Below (w.heap.size + 1) (w.alloc (.cells #[.int .i64 base, .slice a n cap] 37)) wr) (fun i _ => n - (intOf i).toNat)
      case atStart => exact ⟨0, Nat.zero_le _, rfl, fun j hj => by omega, Below.refl _ _⟩
      case round =>
        obtain ⟨k, hk, rfl, hall, hB⟩ := hrel
        have x0 : wr.cell? ⟨w.heap.size, 0, none⟩ = some (.int .i64 base) := (hB.cell (p := ⟨w.heap.size, 0, none⟩) (by simp)).trans (by simp)
        have y0 : wr.cell? ⟨w.heap.size, 1, none⟩ = some (.slice a n cap) := (hB.cell (p := ⟨w.heap.size, 1, none⟩) (by simp)).trans (by simp)
        have hB' : Below w.heap.size w wr := hb0.trans (hB.mono (by omega))
        have zz : w.heap.size < wr.heap.size := by have := hB.size; simp at this; omega
        by_cases hlt' : k < n
        · obtain ⟨b, off, rfl, hlt, hcc⟩ := hc (by omega)
          obtain ⟨h1, h2⟩ := hcc k hlt'
          have zb : b < wr.heap.size := by omega
          have g1 : wr.cell? ⟨b, off + k * 2, none⟩ = some (.int .i64 (f k)) := (hB'.cell (p := ⟨b, _, none⟩) hlt).trans h1
          have g2 : wr.cell? ⟨b, off + k * 2 + 1, none⟩ = some (.int .i64 (g k)) := (hB'.cell (p := ⟨b, _, none⟩) hlt).trans h2
          have x1 : ∀ o, (wr.alloc o).cell? ⟨w.heap.size, 0, none⟩ = some (.int .i64 base) := fun o => (((Below.refl _ wr).alloc (Nat.le_refl _) o).cell (p := ⟨w.heap.size, 0, none⟩) zz).trans x0
          have y1 : ∀ o, (wr.alloc o).cell? ⟨w.heap.size, 1, none⟩ = some (.slice (some ⟨b, off, none⟩) n cap) := fun o => (((Below.refl _ wr).alloc (Nat.le_refl _) o).cell (p := ⟨w.heap.size, 1, none⟩) zz).trans y0
          have i0 : (0 : Int) ≤ (k : Int) := by omega
          have i1 : (k : Int) < (n : Int) := by omega
          have HA : Hid (∀ j, j < k → catOk base f g j = true) := hall
          clear h1 h2 hc hc1 hb0 hall
          by_cases t1 : inB (f k) 1 9999 = true
          · by_cases t3 : inB (g k) 0 3 = true
            · by_cases t4 : (g k == base) = true
              · have t4' : g k = base := by simpa using t4
                clear t4
                go_wp2_with fail
                go_quiet ((go_at_call 37; exact Calls.quiet_of_same (l1In_any _ _ _ _)))
                go_wp2
                go_ret
                exact ⟨ret_bool (labOk_at hlt' (catOk_n4 (by simpa using t4'))).symm, below_drewN (hB'.alloc (by omega) _) _⟩
              · have t4' : (g k == base) = false := by simpa using t4
                clear t4
                by_cases k0 : k = 0
                · have d0 : decide ((0 : Int) < (k : Int)) = false := by simp; omega
                  have d1 : decide (0 < k) = false := by simp; omega
                  have K0 : Hid (k = 0) := k0
                  clear k0
                  go_wp2_with fail
                  go_quiet ((go_at_call 37; exact Calls.quiet_of_same (l1In_any _ _ _ _)))
                  go_wp2
                  go_roundw
                  case rel =>
                    refine ⟨k + 1, by omega, by go_num, fun j hj => ?_, below_drewN (hB.alloc (by omega) _) _⟩
                    by_cases e : j = k
                    · subst e; exact catOk_y0 t1 t3 t4' (.inl K0.out)
                    · exact HA.out j (by omega)
                  case measure => simp [intOf]; omega
                · obtain ⟨m, rfl⟩ : ∃ m, k = m + 1 := ⟨k - 1, by omega⟩
                  have d0 : (0 : Int) < ((m + 1 : Nat) : Int) := by omega
                  have q1 : ∀ o, (wr.alloc o).cell? ⟨b, off + m * 2, none⟩ = some (.int .i64 (f m)) := fun o => (((Below.refl _ wr).alloc (Nat.le_refl _) o).cell (p := ⟨b, off + m * 2, none⟩) zb).trans ((hB'.cell (p := ⟨b, _, none⟩) hlt).trans (hcc m (by omega)).1)
                  have j1 : ((m : Nat) : Int) < (n : Int) := by omega
                  clear hcc
                  by_cases t5 : f (m + 1) ≤ f m
                  · have d5 : decide (f (m + 1) ≤ f m) = true := by simpa using t5
                    go_wp2_with fail
                    go_quiet ((go_at_call 37; exact Calls.quiet_of_same (l1In_any _ _ _ _)))
                    go_wp2
                    go_ret
                    exact ⟨ret_bool (labOk_at hlt' (catOk_n5 (by omega) t5)).symm, below_drewN (hB'.alloc (by omega) _) _⟩
                  · have d5 : decide (f (m + 1) ≤ f m) = false := by simpa using t5
                    go_wp2_with fail
                    go_quiet ((go_at_call 37; exact Calls.quiet_of_same (l1In_any _ _ _ _)))
                    go_wp2
                    go_roundw
                    case rel =>
                      refine ⟨m + 1 + 1, by omega, by go_num, fun j hj => ?_, below_drewN (hB.alloc (by omega) _) _⟩
                      by_cases e : j = (m + 1)
                      · subst e; exact catOk_y0 t1 t3 t4' (.inr (by simpa using t5))
                      · exact HA.out j (by omega)
                    case measure => simp [intOf]; omega
            · have t3' : inB (g k) 0 3 = false := by simpa using t3
              clear t3
              go_wp2_with fail
              go_quiet ((go_at_call 37; exact Calls.quiet_of_same (l1In_any _ _ _ _)))
              go_wp2
              go_ret
              exact ⟨ret_bool (labOk_at hlt' (catOk_n3 t3')).symm, below_drewN (hB'.alloc (by omega) _) _⟩
          · have t1' : inB (f k) 1 9999 = false := by simpa using t1
            clear t1
            go_wp2_with fail
            go_quiet ((go_at_call 37; exact Calls.quiet_of_same (l1In_any _ _ _ _)))
            go_wp2
            go_ret
            exact ⟨ret_bool (labOk_at hlt' (catOk_n1 t1')).symm, below_drewN (hB'.alloc (by omega) _) _⟩
        · have HA : Hid (∀ j, j < k → catOk base f g j = true) := hall
          clear hall hc hc1
          go_wp2
          go_ret
          have e : k = n := by omega
          subst e
          exact ⟨ret_bool (labOk_mk hb (by omega) HA.out).symm, hB'⟩
  · have hb' : inB base 0 3 = false := by simpa using hb
    clear hb
    go_enter Try.func65, Try.ntmps65
    go_wp2_with (go_at_call 37; refine (l1In_any _ _ _ _).mono ?_; rintro e w' ⟨rfl, rfl⟩)
    go_ret
    exact ⟨ret_bool (labOk_base hb').symm, (Below.refl _ _).alloc (Nat.le_refl _) _⟩
end Go.Proofs.Ytonpoakimpoojaa
