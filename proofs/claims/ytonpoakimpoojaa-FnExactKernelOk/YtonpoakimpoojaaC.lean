/- The comparisons of the exact laws: eqCatS and eqLabel answer true at two labels with the same numbers. -/
import Derived.Test.YtonpoakimpoojaaB
import Derived.Deep.RegionHeld3
namespace Go.Proofs.Ytonpoakimpoojaa
open Go.RowKit Go.Deep

set_option maxHeartbeats 1000000 in
theorem eqCatS_true (a a' : Option Addr) (n cap cap' : Nat) (f g : Nat → Int) (w : World) (hn : n ≤ maxLen) (h : CatsAt w a n f g) (h' : CatsAt w a' n f g) :
    Calls Try.prog 76 #[.slice a n cap, .slice a' n cap'] w fun e w' => e = .returned (.bool true) ∧ Below w.heap.size w w' := by
  unfold maxLen at hn
  go_enter Try.func76, Try.ntmps76
  go_wp2
  go_loopw [5] (fun i wr => ∃ k : Nat, k ≤ n ∧ i = .int .i64 k ∧ Below w.heap.size w wr) (fun i _ => n - (intOf i).toNat)
  case atStart => exact ⟨0, Nat.zero_le _, rfl, Below.refl _ _⟩
  case round =>
    obtain ⟨k, hk, rfl, hB⟩ := hrel
    by_cases hlt' : k < n
    · obtain ⟨b, off, rfl, hlt, hc⟩ := h (by omega)
      obtain ⟨b', off', rfl, hlt2, hc'⟩ := h' (by omega)
      obtain ⟨h1, h2⟩ := hc k hlt'
      obtain ⟨h3, h4⟩ := hc' k hlt'
      have g1 : wr.cell? ⟨b, off + k * 2, none⟩ = some (.int .i64 (f k)) := (hB.cell (p := ⟨b, _, none⟩) hlt).trans h1
      have g2 : wr.cell? ⟨b, off + k * 2 + 1, none⟩ = some (.int .i64 (g k)) := (hB.cell (p := ⟨b, _, none⟩) hlt).trans h2
      have g3 : wr.cell? ⟨b', off' + k * 2, none⟩ = some (.int .i64 (f k)) := (hB.cell (p := ⟨b', _, none⟩) hlt2).trans h3
      have g4 : wr.cell? ⟨b', off' + k * 2 + 1, none⟩ = some (.int .i64 (g k)) := (hB.cell (p := ⟨b', _, none⟩) hlt2).trans h4
      clear h1 h2 hc h3 h4 hc'
      have i0 : (0 : Int) ≤ (k : Int) := by omega
      have i1 : (k : Int) < (n : Int) := by omega
      have z1 : b < wr.heap.size := Nat.lt_of_lt_of_le hlt hB.size
      have z2 : b' < wr.heap.size := Nat.lt_of_lt_of_le hlt2 hB.size
      go_wp2_with fail
      go_region_held3 (fun w' => w'.cell? ⟨b, off + k * 2, none⟩ = some (.int .i64 (f k)) ∧ w'.cell? ⟨b, off + k * 2 + 1, none⟩ = some (.int .i64 (g k)) ∧ w'.cell? ⟨b', off' + k * 2, none⟩ = some (.int .i64 (f k)) ∧ w'.cell? ⟨b', off' + k * 2 + 1, none⟩ = some (.int .i64 (g k))) (go_keep)
        (first | (go_at_call 97; refine (eqCat_any _ _ _ _ _).mono ?_; rintro e w1 ⟨rfl, hb1⟩; have p1 := (hb1.cell (p := ⟨b, off + k * 2, none⟩) z1).trans g1; have p2 := (hb1.cell (p := ⟨b, off + k * 2 + 1, none⟩) z1).trans g2; have p3 := (hb1.cell (p := ⟨b', off' + k * 2, none⟩) z2).trans g3; have p4 := (hb1.cell (p := ⟨b', off' + k * 2 + 1, none⟩) z2).trans g4))
      have hB1 : Below w.heap.size w w1 := hB.drew.trans (hb1.mono hB.size)
      clear g1 g2 g3 g4 p1 p2 p3 p4 h h' hb1
      go_wp2
      go_roundw
      case rel => exact ⟨k + 1, by omega, by go_num, hB1⟩
      case measure => simp [intOf]; omega
    · clear h h'
      go_wp2
      go_ret
      exact ⟨rfl, hB⟩

set_option maxHeartbeats 1000000 in
theorem eqLabel_true (base : Int) (a a' : Option Addr) (n cap cap' : Nat) (f g : Nat → Int) (w : World) (hn : n ≤ maxLen) (h : CatsAt w a n f g) (h' : CatsAt w a' n f g) :
    Calls Try.prog 49 #[.agg #[.int .i64 base, .slice a n cap], .agg #[.int .i64 base, .slice a' n cap']] w fun e w' => e = .returned (.bool true) ∧ Below w.heap.size w w' := by
  have hb0 := ((Below.refl _ w).alloc (Nat.le_refl _) (.cells #[.int .i64 base, .slice a n cap] 37)).alloc (by simp) (.cells #[.int .i64 base, .slice a' n cap'] 37)
  have hc1 := h.below hb0
  have hc2 := h'.below hb0
  go_enter Try.func49, Try.ntmps49
  go_wp2_with (go_at_call 76; refine (eqCatS_true _ _ _ _ _ f g _ hn hc1 hc2).mono ?_; rintro e w1 ⟨rfl, hb1⟩)
  go_ret
  exact ⟨rfl, hb0.trans (hb1.mono (by simp; omega))⟩
end Go.Proofs.Ytonpoakimpoojaa
