/- FnExactLabelOk: the walk: the law answers true at every label that came in, and writes nothing that was there. -/
import Derived.Test.YtjmfaffghkclbaaE
namespace Go.Proofs.Ytjmfaffghkclbaa
open Go.RowKit Go.Deep

theorem szOf_ok {n : Nat} {left : Int} (h0 : 0 ≤ left) (h1 : left ≤ 1048576) (h : 0 ≤ szOf n left) : n ≤ 1048576 ∧ szOf n left = left - n := by
  unfold szOf at *; split at h <;> rename_i hh
  · omega
  · rw [if_neg hh]; omega

set_option maxHeartbeats 1000000 in
theorem exactLabelOk_walk (base : Int) (a : Option Addr) (n cap : Nat) (f g : Nat → Int) (w : World) (hn : n ≤ maxLen) (hc : CatsAt w a n f g) :
    Calls Try.prog 8 #[.agg #[.int .i64 base, .slice a n cap]] w fun e w' => e = .returned (.bool true) ∧ Below w.heap.size w w' := by
  have hb0 := (Below.refl _ w).alloc (Nat.le_refl _) (.cells #[.int .i64 base, .slice a n cap] 49)
  go_enter Try.func8, Try.ntmps8
  go_wp2_with fail
  refine (szLabel_any _ _ _ _ _ _ hn (by omega) (by omega)).mono ?_
  rintro e w1 ⟨rfl, hb1⟩
  have hc1 := (hc.below hb0).below hb1
  have x0 : w1.cell? ⟨w.heap.size, 0, none⟩ = some (.int .i64 base) := (hb1.cell (p := ⟨w.heap.size, 0, none⟩) (by simp)).trans (by simp)
  have x1 : w1.cell? ⟨w.heap.size, 1, none⟩ = some (.slice a n cap) := (hb1.cell (p := ⟨w.heap.size, 1, none⟩) (by simp)).trans (by simp)
  have z1 : w.heap.size + 1 ≤ w1.heap.size := by have := hb1.size; simpa using this
  have B1 : Below w.heap.size w w1 := hb0.trans (hb1.mono (by simp))
  clear hb0 hb1 hc
  by_cases hneg : szOf n 1048576 < 0
  · clear hc1
    go_wp2
    go_ret
    exact ⟨rfl, B1⟩
  · obtain ⟨hn', _⟩ := szOf_ok (by omega) (by omega) (Int.not_lt.1 hneg)
    go_wp2_with fail
    refine (toLabel_any _ _ _ _ f g _ hn' hc1).mono ?_
    rintro e w2 ⟨c2, rfl, hl2, r2, hb2⟩
    go_wp2_with fail
    refine (specOk_any _ _ _ _ f g _ hn (CatsAt.row r2)).mono ?_
    rintro e w3 ⟨rfl, hb3⟩
    have B3 : Below w1.heap.size w1 w3 := hb2.trans (hb3.mono hb2.size)
    have y0 := (B3.cell (p := ⟨w.heap.size, 0, none⟩) (by dsimp only; omega)).trans x0
    have y1 := (B3.cell (p := ⟨w.heap.size, 1, none⟩) (by dsimp only; omega)).trans x1
    have hc3 := hc1.below B3
    have z3 : w.heap.size + 1 ≤ w3.heap.size := by have := B3.size; omega
    have C3 : Below w.heap.size w w3 := B1.trans (B3.mono (by omega))
    clear x0 x1 hc1 hl2 r2 hb2 hb3 B3 z1 B1
    go_wp2_with fail
    refine (toLabel_any _ _ _ _ f g _ hn' hc3).mono ?_
    rintro e w4 ⟨c4, rfl, hl4, r4, hb4⟩
    go_wp2_with fail
    have hb5 := (Below.refl _ w4).alloc (Nat.le_refl _) (.cells #[.int .i64 base, .slice (some ⟨c4, 0, none⟩) n n] 26)
    refine (implOk_any _ _ _ _ f g _ hn ((CatsAt.row r4).below hb5)).mono ?_
    rintro e w6 ⟨rfl, hb6⟩
    have B6 : Below w4.heap.size w4 w6 := hb5.trans (hb6.mono (by simp))
    have z4 : w3.heap.size ≤ w4.heap.size := hb4.size
    have z6 : w4.heap.size + 1 ≤ w6.heap.size := by have := hb6.size; simpa using this
    have u0 : w6.cell? ⟨w4.heap.size, 0, none⟩ = some (.int .i64 base) := (hb6.cell (p := ⟨w4.heap.size, 0, none⟩) (by simp)).trans (by simp)
    have u1 : w6.cell? ⟨w4.heap.size, 1, none⟩ = some (.slice (some ⟨c4, 0, none⟩) n n) := (hb6.cell (p := ⟨w4.heap.size, 1, none⟩) (by simp)).trans (by simp)
    have v0 := (B6.cell (p := ⟨w.heap.size, 0, none⟩) (by dsimp only; omega)).trans ((hb4.cell (p := ⟨w.heap.size, 0, none⟩) (by dsimp only; omega)).trans y0)
    have v1 := (B6.cell (p := ⟨w.heap.size, 1, none⟩) (by dsimp only; omega)).trans ((hb4.cell (p := ⟨w.heap.size, 1, none⟩) (by dsimp only; omega)).trans y1)
    have hc6 : CatsAt w6.drew a n f g := ((hc3.below hb4).below B6).below (Below.refl _ _).drew
    have r6 : CatsAt w6.drew (some ⟨c4, 0, none⟩) n f g := ((CatsAt.row r4).below B6).below (Below.refl _ _).drew
    have C6 : Below w.heap.size w w6 := (C3.trans (hb4.mono (by omega))).trans (B6.mono (by omega))
    clear y0 y1 hc3 r4 hb4 hb5 hb6 B6 C3 hl4
    go_wp2_with fail
    go_region_held3 (fun w' => w'.cell? ⟨w4.heap.size, 0, none⟩ = some (.int .i64 base) ∧ w'.cell? ⟨w4.heap.size, 1, none⟩ = some (.slice (some ⟨c4, 0, none⟩) n n) ∧ w'.cell? ⟨w.heap.size, 0, none⟩ = some (.int .i64 base) ∧ w'.cell? ⟨w.heap.size, 1, none⟩ = some (.slice a n cap)) (go_keep)
      (first
        | (go_at_call 48; refine (toLabel_any _ _ _ _ f g _ hn' hc6).mono ?_; rintro e w7 ⟨c7, rfl, hl7, r7, hb7⟩; have p1 := (hb7.cell (p := ⟨w4.heap.size, 0, none⟩) (by dsimp only; exact z6)).trans u0; have p2 := (hb7.cell (p := ⟨w4.heap.size, 1, none⟩) (by dsimp only; exact z6)).trans u1; have p3 := (hb7.cell (p := ⟨w.heap.size, 0, none⟩) (Nat.lt_of_lt_of_le z3 (Nat.le_trans z4 (Nat.le_of_lt z6)))).trans v0; have p4 := (hb7.cell (p := ⟨w.heap.size, 1, none⟩) (Nat.lt_of_lt_of_le z3 (Nat.le_trans z4 (Nat.le_of_lt z6)))).trans v1)
        | (go_at_call 49; refine (eqLabel_true _ _ _ _ _ _ f g _ hn (r6.below hb7) (CatsAt.row r7)).mono ?_; rintro e w8 ⟨rfl, hb8⟩; have z7 := hb7.size; have q1 := (hb8.cell (p := ⟨w4.heap.size, 0, none⟩) (Nat.lt_of_lt_of_le z6 z7)).trans p1; have q2 := (hb8.cell (p := ⟨w4.heap.size, 1, none⟩) (Nat.lt_of_lt_of_le z6 z7)).trans p2; have q3 := (hb8.cell (p := ⟨w.heap.size, 0, none⟩) (Nat.lt_of_lt_of_le z3 (Nat.le_trans z4 (Nat.le_trans (Nat.le_of_lt z6) z7)))).trans p3; have q4 := (hb8.cell (p := ⟨w.heap.size, 1, none⟩) (Nat.lt_of_lt_of_le z3 (Nat.le_trans z4 (Nat.le_trans (Nat.le_of_lt z6) z7)))).trans p4))
    go_wp2
    go_ret
    exact ⟨rfl, (C6.drew.trans (hb7.mono (by simp; omega))).trans (hb8.mono (by have z7' : w6.heap.size ≤ w7.heap.size := z7; omega))⟩
end Go.Proofs.Ytjmfaffghkclbaa
