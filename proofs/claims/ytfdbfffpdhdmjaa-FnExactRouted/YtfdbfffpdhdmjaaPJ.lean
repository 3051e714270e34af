/- The marks that the law writes into routes, and their reading. -/
import Derived.Test.YtfdbfffpdhdmjaaPI
namespace Go.Proofs.Ytfdbfffpdhdmjaa
open Go.RowKit Go.Deep Go.Maps

theorem grown_set {a b : World} {P : Nat} (h : a.grownBy b (some P)) (i : Nat) (v : Value) : a.grownBy (b.setCell ⟨P, i, none⟩ v) (some P) :=
  ⟨h.os, h.tape, h.output, by rw [nblk_setCell]; exact h.size, fun j hj hne => (blk_setCell_other _ _ _ _ (by dsimp only; intro e; exact hne (by rw [e]))).trans (h.block j hj hne)⟩
theorem grown_refl (a : World) (P : Nat) : a.grownBy a (some P) := ⟨rfl, rfl, rfl, Nat.le_refl _, fun _ _ _ => rfl⟩
def mk0 (k0 : Int) (i : Nat) : Int := k0 + 3 * i
def mk1 (k0 : Int) (i : Nat) : Int := k0 + 3 * i + 1
def mk2 (k0 : Int) (i : Nat) : Int := k0 + 3 * i + 1 + 1
/-- a slice of routes that may be written: it begins block b -/
def RowR (w : World) (a : Option Addr) (b n : Nat) : Prop := 0 < n → a = some ⟨b, 0, none⟩ ∧ ∃ m F, n * 3 ≤ m ∧ w.rowIs b 35 m F
theorem RowR.below {w w' : World} {a : Option Addr} {b n : Nat} (h : RowR w a b n) (hb : Below w.heap.size w w') : RowR w' a b n := fun h0 => by
  obtain ⟨e, m, F, hm, hr⟩ := h h0
  exact ⟨e, m, F, hm, hr.of_block (hb.block b hr.lt)⟩
theorem RowR.grown {w w' : World} {a : Option Addr} {b n : Nat} {row : Option Nat} (h : RowR w a b n) (hg : w.grownBy w' row) (hne : some b ≠ row) : RowR w' a b n := fun h0 => by
  obtain ⟨e, m, F, hm, hr⟩ := h h0
  exact ⟨e, m, F, hm, hr.of_block (hg.block b hr.lt hne)⟩

set_option maxRecDepth 100000 in
set_option maxHeartbeats 1000000 in
theorem markRouteS_any (a : Option Addr) (b n cap : Nat) (k0 : Int) (w : World) (hn : n ≤ 1048576) (h0 : 0 ≤ k0) (h1 : k0 ≤ 4194304) (hr : RowR w a b n) :
    Calls Try.prog 16 #[.slice a n cap, .int .i64 k0] w fun e w' => e = .returned (.int .i64 (k0 + 3 * n)) ∧ w.grownBy w' (some b) ∧ RtsAt w' a n (mk0 k0) (mk1 k0) (mk2 k0) := by
  go_enter Try.func16, Try.ntmps16
  go_wp2
  go_loopw [1, 5] (fun kk i wr => ∃ j : Nat, j ≤ n ∧ i = .int .i64 j ∧ kk = .int .i64 (k0 + 3 * j) ∧ w.grownBy wr (some b) ∧ RowR wr a b n ∧ (∀ i, i < j → wr.cell? ⟨b, i * 3, none⟩ = some (.int .i64 (mk0 k0 i)) ∧ wr.cell? ⟨b, i * 3 + 1, none⟩ = some (.int .i64 (mk1 k0 i)) ∧ wr.cell? ⟨b, i * 3 + 2, none⟩ = some (.int .i64 (mk2 k0 i)))) (fun _ i _ => n - (intOf i).toNat)
  case atStart => exact ⟨0, Nat.zero_le _, rfl, by simp, grown_refl _ _, hr, fun i hi => by omega⟩
  case round =>
    obtain ⟨j, hj, rfl, rfl, hg, hrow, hcells⟩ := hrel
    have HCL := hid hcells
    clear hcells
    by_cases hlt : j < n
    · obtain ⟨rfl, m, F, hm, hR⟩ := hrow (by omega)
      have c1 := hR.cell (i := j * 3) (by omega)
      have c2 := hR.cell (i := j * 3 + 1) (by omega)
      have c3 := hR.cell (i := j * 3 + 2) (by omega)
      have f1 := hR.frozen (j * 3)
      have f2 := hR.frozen (j * 3 + 1)
      have f3 := hR.frozen (j * 3 + 2)
      have HR := hid hR
      clear hR hrow hr
      go_wp2
      go_roundw
      case rel =>
        have R1 := ((HR.out.set (j * 3) (.int .i64 (k0 + 3 * j))).set (j * 3 + 1) (.int .i64 (k0 + 3 * j + 1))).set (j * 3 + 2) (.int .i64 (k0 + 3 * j + 1 + 1))
        refine ⟨j + 1, by omega, by go_num, by go_num, grown_set (grown_set (grown_set hg _ _) _ _) _ _, fun _ => ⟨rfl, m, _, hm, R1⟩, fun i hi => ?_⟩
        rw [R1.cell (i := i * 3) (by omega), R1.cell (i := i * 3 + 1) (by omega), R1.cell (i := i * 3 + 2) (by omega)]
        by_cases e : i = j
        · subst e
          rw [if_neg (by omega), if_neg (by omega), if_pos rfl, if_neg (by omega), if_pos rfl, if_pos rfl]
          exact ⟨rfl, rfl, rfl⟩
        · obtain ⟨d1, d2, d3⟩ := HCL.out i (by omega)
          rw [HR.out.cell (i := i * 3) (by omega)] at d1
          rw [HR.out.cell (i := i * 3 + 1) (by omega)] at d2
          rw [HR.out.cell (i := i * 3 + 2) (by omega)] at d3
          rw [if_neg (by omega), if_neg (by omega), if_neg (by omega), if_neg (by omega), if_neg (by omega), if_neg (by omega), if_neg (by omega), if_neg (by omega), if_neg (by omega)]
          exact ⟨d1, d2, d3⟩
      case measure => simp [intOf]; omega
    · have ej : j = n := by omega
      subst ej
      go_wp2
      go_ret
      refine ⟨rfl, hg, fun hp => ?_⟩
      obtain ⟨rfl, m, F, hm, hR⟩ := hrow hp
      exact ⟨b, 0, rfl, hR.lt, fun i hi => by simpa using HCL.out i hi⟩

set_option maxRecDepth 100000 in
set_option maxHeartbeats 1000000 in
theorem heldRouteS_any (a : Option Addr) (n cap : Nat) (k0 : Int) (w : World) (hn : n ≤ 1048576) (h0 : 0 ≤ k0) (h1 : k0 ≤ 4194304) (H : RtsAt w a n (mk0 k0) (mk1 k0) (mk2 k0)) :
    Calls Try.prog 17 #[.slice a n cap, .int .i64 k0] w fun e w' => e = .returned (.int .i64 (k0 + 3 * n)) ∧ w' = w := by
  go_enter Try.func17, Try.ntmps17
  go_wp2
  go_loopw [1, 5] (fun kk i wr => ∃ j : Nat, j ≤ n ∧ i = .int .i64 j ∧ kk = .int .i64 (k0 + 3 * j) ∧ wr = w) (fun _ i _ => n - (intOf i).toNat)
  case atStart => exact ⟨0, Nat.zero_le _, rfl, by simp, rfl⟩
  case round =>
    obtain ⟨j, hj, rfl, rfl, hw⟩ := hrel
    subst wr
    by_cases hlt : j < n
    · obtain ⟨b, off, rfl, hz, hc⟩ := H (by omega)
      obtain ⟨c1, c2, c3⟩ := hc j hlt
      simp only [mk0, mk1, mk2] at c1 c2 c3
      clear hc H
      go_wp2
      go_roundw
      case rel => exact ⟨j + 1, by omega, by go_num, by go_num, trivial⟩
      case measure => simp [intOf]; omega
    · have ej : j = n := by omega
      subst ej
      clear H
      go_wp2
      go_ret
      exact ⟨rfl, rfl⟩
end Go.Proofs.Ytfdbfffpdhdmjaa
