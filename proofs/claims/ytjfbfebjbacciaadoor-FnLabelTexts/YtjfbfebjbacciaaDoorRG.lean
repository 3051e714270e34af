/- Two labels with the same levels are the same to the drawn laws; a code that is too long. -/
import Derived.Test.YtjfbfebjbacciaaDoorRE
namespace Go.Proofs.YtjfbfebjbacciaaDoor
open Go.RowKit Go.Deep Go.Maps

theorem big_any (a : Option Addr) (n cap : Nat) (w : World) : Calls Tryd.prog 5 #[.slice a n cap] w fun e w' => e = .returned (.bool (decide (1048576 < n))) ∧ w' = w := by
  go_enter Tryd.func5, Tryd.ntmps5
  go_wp2
  go_ret
  refine ⟨ret_bool ?_, rfl⟩
  congr 1
  apply propext
  omega

set_option maxRecDepth 100000 in
set_option maxHeartbeats 2000000 in
theorem same_any (base : Int) (a1 a2 : Option Addr) (n k1 k2 : Nat) (f g : Nat → Int) (w : World) (hn : n ≤ 1048576) (h1 : CatsAt w a1 n f g) (h2 : CatsAt w a2 n f g) :
    Calls Tryd.prog 11 #[.agg #[.int .i64 base, .slice a1 n k1], .agg #[.int .i64 base, .slice a2 n k2]] w fun e w' => e = .returned (.bool true) ∧ Below w.heap.size w w' := by
  have hb0 := ((Below.refl _ w).alloc (Nat.le_refl _) (.cells #[.int .i64 base, .slice a1 n k1] 26)).alloc (by simp) (.cells #[.int .i64 base, .slice a2 n k2] 26)
  have H1 : Hid (CatsAt w a1 n f g) := h1
  have H2 : Hid (CatsAt w a2 n f g) := h2
  clear h1 h2
  have A0 : Blk ((w.alloc (.cells #[.int .i64 base, .slice a1 n k1] 26)).alloc (.cells #[.int .i64 base, .slice a2 n k2] 26)) w.heap.size (.cells #[.int .i64 base, .slice a1 n k1] 26) := (Blk.new w _).alloc _
  have B0 : Blk ((w.alloc (.cells #[.int .i64 base, .slice a1 n k1] 26)).alloc (.cells #[.int .i64 base, .slice a2 n k2] 26)) (w.heap.size + 1) (.cells #[.int .i64 base, .slice a2 n k2] 26) := by
    have := Blk.new (w.alloc (.cells #[.int .i64 base, .slice a1 n k1] 26)) (.cells #[.int .i64 base, .slice a2 n k2] 26)
    simpa using this
  go_enter Tryd.func11, Tryd.ntmps11
  go_wp2
  generalize (w.alloc (.cells #[.int .i64 base, .slice a1 n k1] 26)).alloc (.cells #[.int .i64 base, .slice a2 n k2] 26) = W0 at *
  go_loopw [5] (fun i wr => ∃ k : Nat, k ≤ n ∧ i = .int .i64 k ∧ Below W0.heap.size W0 wr) (fun i _ => n - (intOf i).toNat)
  case atStart => exact ⟨0, Nat.zero_le _, rfl, Below.refl _ _⟩
  case round =>
    obtain ⟨k, hk, rfl, hB⟩ := hrel
    obtain ⟨x1, x2⟩ := (A0.below hB).two
    obtain ⟨x3, x4⟩ := (B0.below hB).two
    have Lw : Below w.heap.size w wr := hb0.trans (hB.mono hb0.size)
    by_cases hlt' : k < n
    · obtain ⟨p1, o1, rfl, l1, c1⟩ := H1.out.below Lw (by omega)
      obtain ⟨p2, o2, rfl, l2, c2⟩ := H2.out.below Lw (by omega)
      obtain ⟨r1, r2⟩ := c1 k hlt'
      obtain ⟨r3, r4⟩ := c2 k hlt'
      have i0 : (0 : Int) ≤ (k : Int) := by omega
      have i1 : (k : Int) < (n : Int) := by omega
      clear c1 c2
      go_wp2_with fail
      go_region_held3 (fun w' => w'.cell? ⟨w.heap.size, 1, none⟩ = some (.slice (some ⟨p1, o1, none⟩) n k1) ∧ w'.cell? ⟨w.heap.size + 1, 1, none⟩ = some (.slice (some ⟨p2, o2, none⟩) n k2) ∧ w'.cell? ⟨p1, o1 + k * 2, none⟩ = some (.int .i64 (f k)) ∧ w'.cell? ⟨p1, o1 + k * 2 + 1, none⟩ = some (.int .i64 (g k)) ∧ w'.cell? ⟨p2, o2 + k * 2, none⟩ = some (.int .i64 (f k)) ∧ w'.cell? ⟨p2, o2 + k * 2 + 1, none⟩ = some (.int .i64 (g k))) (go_keep) (fail)
      go_wp2
      go_roundw
      case rel => exact ⟨k + 1, by omega, by go_num, hB.drew⟩
      case measure => simp [intOf]; omega
    · have i1 : ¬ (k : Int) < (n : Int) := by omega
      go_wp2
      go_ret
      exact ⟨rfl, Lw⟩
end Go.Proofs.YtjfbfebjbacciaaDoor
