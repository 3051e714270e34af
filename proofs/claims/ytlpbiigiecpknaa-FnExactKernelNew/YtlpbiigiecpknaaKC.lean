/- The marks of rows of threads that own nothing. -/
import Derived.Test.YtlpbiigiecpknaaKB
namespace Go.Proofs.Ytlpbiigiecpknaa
open Go.RowKit Go.Deep Go.Maps

def mkF (k0 : Int) (i q : Nat) : Int := k0 + 4 * i + q
/-- the first j are marked -/
def mkTo (k0 : Int) (j : Nat) (F : Nat → Nat → Int) (i q : Nat) : Int := if i < j then mkF k0 i q else F i q

theorem cell7_set {F F' : Nat → Nat → Int} {C : Nat → Value} {N j : Nat} (hc : ∀ q, q < N → C q = cell7 F q) (hF : ∀ i k, i ≠ j → F' i k = F i k) :
    ∀ q, q < N → (if q = j * 7 + 6 then .int .i64 (F' j 3) else if q = j * 7 + 3 then .int .i64 (F' j 2) else if q = j * 7 + 1 then .int .i64 (F' j 1) else if q = j * 7 then .int .i64 (F' j 0) else C q) = cell7 F' q := by
  intro q hq
  by_cases h6 : q = j * 7 + 6
  · subst h6; rw [if_pos rfl, cell7_6]
  rw [if_neg h6]
  by_cases h3 : q = j * 7 + 3
  · subst h3; rw [if_pos rfl, cell7_3]
  rw [if_neg h3]
  by_cases h1 : q = j * 7 + 1
  · subst h1; rw [if_pos rfl, cell7_1]
  rw [if_neg h1]
  by_cases h0 : q = j * 7
  · subst h0; rw [if_pos rfl, cell7_0]
  rw [if_neg h0, hc q hq]
  by_cases hj : q / 7 = j
  · have : q % 7 = 2 ∨ q % 7 = 4 ∨ q % 7 = 5 := by omega
    rcases this with e | e | e <;> simp only [cell7, e]
  · exact (cell7_congr (fun k => (hF _ k hj))).symm

set_option maxRecDepth 100000 in
set_option maxHeartbeats 4000000 in
theorem markThreadS_any (a : Option Addr) (b n cap : Nat) (F : Nat → Nat → Int) (k0 : Int) (w : World) (hn : n ≤ 9) (h0 : 0 ≤ k0) (h1 : k0 ≤ 1000) (hr : Thr w a b n F) :
    Calls Try.prog 25 #[.slice a n cap, .int .i64 k0] w fun e w' => e = .returned (.int .i64 (k0 + 4 * n)) ∧ w.grownBy w' (some b) ∧ Thr w' a b n (mkF k0) := by
  go_enter Try.func25, Try.ntmps25
  go_wp2
  go_loopw [1, 5] (fun kk i wr => ∃ j : Nat, j ≤ n ∧ i = .int .i64 j ∧ kk = .int .i64 (k0 + 4 * j) ∧ w.grownBy wr (some b) ∧ Thr wr a b n (mkTo k0 j F)) (fun _ i _ => n - (intOf i).toNat)
  case atStart => exact ⟨0, Nat.zero_le _, rfl, by simp, grown_refl _ _, fun h => by
    obtain ⟨e, m, C, hm, hR, hc⟩ := hr h
    exact ⟨e, m, C, hm, hR, fun q hq => by rw [hc q hq]; exact cell7_congr (fun k => by simp [mkTo])⟩⟩
  case round =>
    obtain ⟨j, hj, rfl, rfl, hg, hT⟩ := hrel
    by_cases hlt : j < n
    · obtain ⟨c0, c1, c2, c3, c4, c5, c6⟩ := hT.cells hlt
      obtain ⟨rfl, m, C, hm, hR, hc⟩ := hT (by omega)
      have f0 := hR.frozen (j * 7)
      have f1 := hR.frozen (j * 7 + 1)
      have f3 := hR.frozen (j * 7 + 3)
      have f6 := hR.frozen (j * 7 + 6)
      have HR : Hid (wr.rowIs b 56 m C) := hR
      have HC : Hid (∀ q, q < n * 7 → C q = cell7 (mkTo k0 j F) q) := hc
      have hji : (j : Int) < (n : Int) := by omega
      clear hR hT hr hc
      generalize mkTo k0 j F j 0 = y0 at *
      generalize mkTo k0 j F j 1 = y1 at *
      generalize mkTo k0 j F j 2 = y2 at *
      generalize mkTo k0 j F j 3 = y3 at *
      go_wp2_with (first
        | (go_at_call 44; refine (markCatS_nil _ _).mono ?_; rintro e w' ⟨rfl, rfl⟩)
        | (go_at_call 20; refine (markInt64S_nil _ _).mono ?_; rintro e w' ⟨rfl, rfl⟩))
      go_roundw
      case rel =>
        have R1 := (((HR.out.set (j * 7) (.int .i64 (k0 + 4 * j))).set (j * 7 + 1) (.int .i64 (k0 + 4 * j + 1))).set (j * 7 + 3) (.int .i64 (k0 + 4 * j + 1 + 1))).set (j * 7 + 6) (.int .i64 (k0 + 4 * j + 1 + 1 + 1))
        refine ⟨j + 1, by omega, by go_num, by go_num, grown_set (grown_set (grown_set (grown_set hg _ _) _ _) _ _) _ _, fun _ => ⟨rfl, m, _, hm, R1, fun q hq => ?_⟩⟩
        have t := cell7_set (F' := mkTo k0 (j + 1) F) (j := j) HC.out (fun i k hi => by
          unfold mkTo
          by_cases e : i < j
          · rw [if_pos e, if_pos (by omega)]
          · rw [if_neg e, if_neg (by omega)]) q hq
        have e0 : mkTo k0 (j + 1) F j 0 = k0 + 4 * j := by simp [mkTo, mkF]
        have e1 : mkTo k0 (j + 1) F j 1 = k0 + 4 * j + 1 := by simp [mkTo, mkF]
        have e2 : mkTo k0 (j + 1) F j 2 = k0 + 4 * j + 1 + 1 := by simp [mkTo, mkF]; omega
        have e3 : mkTo k0 (j + 1) F j 3 = k0 + 4 * j + 1 + 1 + 1 := by simp [mkTo, mkF]; omega
        rw [e0, e1, e2, e3] at t
        exact t
      case measure => simp [intOf]; omega
    · go_wp2
      go_ret
      have e : j = n := by omega
      subst e
      refine ⟨rfl, hg, fun h => ?_⟩
      obtain ⟨rfl, m, C, hm, hR, hc⟩ := hT h
      exact ⟨rfl, m, C, hm, hR, fun q hq => by rw [hc q hq]; exact cell7_congr (fun k => by have : q / 7 < j := by omega
                                                                                            simp [mkTo, this])⟩

set_option maxRecDepth 100000 in
set_option maxHeartbeats 4000000 in
theorem heldThreadS_any (a : Option Addr) (b n cap : Nat) (k0 : Int) (w : World) (hn : n ≤ 9) (h0 : 0 ≤ k0) (h1 : k0 ≤ 1000) (hr : Thr w a b n (mkF k0)) :
    Calls Try.prog 27 #[.slice a n cap, .int .i64 k0] w fun e w' => e = .returned (.int .i64 (k0 + 4 * n)) ∧ w' = w := by
  go_enter Try.func27, Try.ntmps27
  go_wp2
  go_loop [1, 5] (fun kk i => ∃ j : Nat, j ≤ n ∧ i = .int .i64 j ∧ kk = .int .i64 (k0 + 4 * j)) (fun _ i => n - (intOf i).toNat)
  case atStart => exact ⟨0, Nat.zero_le _, rfl, by simp⟩
  case round =>
    obtain ⟨j, hj, rfl, rfl⟩ := hrel
    by_cases hlt : j < n
    · obtain ⟨c0, c1, c2, c3, c4, c5, c6⟩ := hr.cells hlt
      obtain ⟨rfl, _⟩ := hr (by omega)
      have e0 : mkF k0 j 0 = k0 + 4 * j := by simp [mkF]
      have e1 : mkF k0 j 1 = k0 + 4 * j + 1 := by simp [mkF]
      have e2 : mkF k0 j 2 = k0 + 4 * j + 1 + 1 := by simp [mkF]; omega
      have e3 : mkF k0 j 3 = k0 + 4 * j + 1 + 1 + 1 := by simp [mkF]; omega
      rw [e0] at c0
      rw [e1] at c1
      rw [e2] at c3
      rw [e3] at c6
      have hji : (j : Int) < (n : Int) := by omega
      clear hr e0 e1 e2 e3
      go_wp2_with (first
        | (go_at_call 47; refine (heldCatS_nil _ _).mono ?_; rintro e w' ⟨rfl, rfl⟩)
        | (go_at_call 21; refine (heldInt64S_nil _ _).mono ?_; rintro e w' ⟨rfl, rfl⟩))
      go_round
      case rel => exact ⟨j + 1, by omega, by go_num, by go_num⟩
      case measure => simp [intOf]; omega
    · clear hr
      go_wp2
      go_ret
      have e : j = n := by omega
      subst e
      exact ⟨rfl, rfl⟩
end Go.Proofs.Ytlpbiigiecpknaa
