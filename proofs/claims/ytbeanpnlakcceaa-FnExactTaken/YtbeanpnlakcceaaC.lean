/- FnExactWindowOk and FnExactTaken: the walks: both laws answer true at all that came in, and write nothing that was there. -/
import Derived.Test.YtbeanpnlakcceaaB2
namespace Go.Proofs.Ytbeanpnlakcceaa
open Go.RowKit

set_option maxHeartbeats 1000000 in
theorem exactWindowOk_walk (t b : Int) (w : World) :
    Calls Try.prog 3 #[.agg #[.int .i64 t, .int .i64 b]] w fun e w' => e = .returned (.bool true) ∧ Below w.heap.size w w' := by
  have hb0 := (Below.refl _ w).alloc (Nat.le_refl _) (.cells #[.int .i64 t, .int .i64 b] 23)
  have a0 : (w.alloc (.cells #[.int .i64 t, .int .i64 b] 23)).cell? ⟨w.heap.size, 0, none⟩ = some (.int .i64 t) := by simp [go_sem]
  have a1 : (w.alloc (.cells #[.int .i64 t, .int .i64 b] 23)).cell? ⟨w.heap.size, 1, none⟩ = some (.int .i64 b) := by simp [go_sem]
  have z0 : w.heap.size < (w.alloc (.cells #[.int .i64 t, .int .i64 b] 23)).heap.size := by simp
  go_enter Try.func3, Try.ntmps3
  go_wp2_with fail
  generalize w.alloc (.cells #[.int .i64 t, .int .i64 b] 23) = V at *
  refine (toWindow_any _ _ _).mono ?_
  rintro e w1 ⟨rfl, hb1⟩
  have B1 : Below w.heap.size w w1 := hb0.trans (hb1.mono (by omega))
  have c0 : w1.cell? ⟨w.heap.size, 0, none⟩ = some (.int .i64 t) := by rw [hb1.cell (by exact z0)]; exact a0
  have c1 : w1.cell? ⟨w.heap.size, 1, none⟩ = some (.int .i64 b) := by rw [hb1.cell (by exact z0)]; exact a1
  have z1 : w.heap.size < w1.heap.size := by have := hb1.size; omega
  clear a0 a1 hb0 hb1
  go_wp2_with fail
  refine (specOk_any _ _ _).mono ?_
  rintro e w2 ⟨rfl, hw2⟩
  have hb2 : Below w1.heap.size w1 w2 := by subst hw2; exact (Below.refl _ _).alloc (Nat.le_refl _) _
  clear hw2
  have B2 : Below w.heap.size w w2 := B1.trans (hb2.mono (by omega))
  have d0 : w2.cell? ⟨w.heap.size, 0, none⟩ = some (.int .i64 t) := by rw [hb2.cell (by exact z1)]; exact c0
  have d1 : w2.cell? ⟨w.heap.size, 1, none⟩ = some (.int .i64 b) := by rw [hb2.cell (by exact z1)]; exact c1
  have z2 : w.heap.size < w2.heap.size := by have := hb2.size; omega
  clear c0 c1 hb2
  go_wp2_with fail
  refine (toWindow_any _ _ _).mono ?_
  rintro e w3 ⟨rfl, hb3⟩
  have B3 : Below w.heap.size w w3 := B2.trans (hb3.mono (by omega))
  clear hb3
  go_wp2_with fail
  refine (implOk_any _ _ _).mono ?_
  rintro e w4 ⟨rfl, hw4⟩
  have hb4 : Below w3.heap.size w3 w4 := by subst hw4; exact (Below.refl _ _).alloc (Nat.le_refl _) _
  clear hw4
  have B4 : Below w.heap.size w w4 := B3.trans (hb4.mono B3.size)
  clear hb4
  go_wp2
  go_ret
  exact ⟨rfl, B4⟩

set_option maxHeartbeats 1000000 in
theorem exactTaken_walk (t b n : Int) (w : World) :
    Calls Try.prog 4 #[.agg #[.int .i64 t, .int .i64 b], .int .i64 n] w fun e w' => e = .returned (.bool true) ∧ Below w.heap.size w w' := by
  have hb0 := (Below.refl _ w).alloc (Nat.le_refl _) (.cells #[.int .i64 t, .int .i64 b] 23)
  have a0 : (w.alloc (.cells #[.int .i64 t, .int .i64 b] 23)).cell? ⟨w.heap.size, 0, none⟩ = some (.int .i64 t) := by simp [go_sem]
  have a1 : (w.alloc (.cells #[.int .i64 t, .int .i64 b] 23)).cell? ⟨w.heap.size, 1, none⟩ = some (.int .i64 b) := by simp [go_sem]
  have z0 : w.heap.size < (w.alloc (.cells #[.int .i64 t, .int .i64 b] 23)).heap.size := by simp
  have hS := fun W => specTaken_any t b n W
  have hI := fun W => implTaken_any t b n W
  generalize (tak t b n).1 = p at *
  generalize (tak t b n).2.1 = q at *
  generalize (tak t b n).2.2 = r at *
  go_enter Try.func4, Try.ntmps4
  go_wp2_with fail
  generalize w.alloc (.cells #[.int .i64 t, .int .i64 b] 23) = V at *
  refine (toWindow_any _ _ _).mono ?_
  rintro e w1 ⟨rfl, hb1⟩
  have B1 : Below w.heap.size w w1 := hb0.trans (hb1.mono (by omega))
  have c0 : w1.cell? ⟨w.heap.size, 0, none⟩ = some (.int .i64 t) := by rw [hb1.cell (by exact z0)]; exact a0
  have c1 : w1.cell? ⟨w.heap.size, 1, none⟩ = some (.int .i64 b) := by rw [hb1.cell (by exact z0)]; exact a1
  have z1 : w.heap.size < w1.heap.size := by have := hb1.size; omega
  clear a0 a1 hb0 hb1
  go_wp2_with fail
  refine (hS _).mono ?_
  rintro e w2 ⟨rfl, hb2⟩
  have B2 : Below w.heap.size w w2 := B1.trans (hb2.mono (by omega))
  have d0 : w2.cell? ⟨w.heap.size, 0, none⟩ = some (.int .i64 t) := by rw [hb2.cell (by exact z1)]; exact c0
  have d1 : w2.cell? ⟨w.heap.size, 1, none⟩ = some (.int .i64 b) := by rw [hb2.cell (by exact z1)]; exact c1
  have z2 : w.heap.size < w2.heap.size := by have := hb2.size; omega
  have B2' := B2.alloc (by omega) (.cells #[.int .i64 p, .int .i64 q] 25)
  have x0 : (w2.alloc (.cells #[.int .i64 p, .int .i64 q] 25)).cell? ⟨w2.heap.size, 0, none⟩ = some (.int .i64 p) := by simp [go_sem]
  have x1 : (w2.alloc (.cells #[.int .i64 p, .int .i64 q] 25)).cell? ⟨w2.heap.size, 1, none⟩ = some (.int .i64 q) := by simp [go_sem]
  have y0 : (w2.alloc (.cells #[.int .i64 p, .int .i64 q] 25)).cell? ⟨w.heap.size, 0, none⟩ = some (.int .i64 t) := by rw [((Below.refl _ w2).alloc (Nat.le_refl _) _).cell (by exact z2)]; exact d0
  have y1 : (w2.alloc (.cells #[.int .i64 p, .int .i64 q] 25)).cell? ⟨w.heap.size, 1, none⟩ = some (.int .i64 b) := by rw [((Below.refl _ w2).alloc (Nat.le_refl _) _).cell (by exact z2)]; exact d1
  have z2' : w2.heap.size < (w2.alloc (.cells #[.int .i64 p, .int .i64 q] 25)).heap.size := by simp
  clear c0 c1 hb2 d0 d1 hS
  go_wp2_with fail
  generalize w2.alloc (.cells #[.int .i64 p, .int .i64 q] 25) = V2 at *
  refine (toWindow_any _ _ _).mono ?_
  rintro e w3 ⟨rfl, hb3⟩
  have B3 : Below w.heap.size w w3 := B2'.trans (hb3.mono (by omega))
  have u0 : w3.cell? ⟨w2.heap.size, 0, none⟩ = some (.int .i64 p) := by rw [hb3.cell (by exact z2')]; exact x0
  have u1 : w3.cell? ⟨w2.heap.size, 1, none⟩ = some (.int .i64 q) := by rw [hb3.cell (by exact z2')]; exact x1
  have z3 : w2.heap.size < w3.heap.size := by have := hb3.size; omega
  clear hb3 x0 x1 y0 y1
  go_wp2_with fail
  refine (hI _).mono ?_
  rintro e w4 ⟨rfl, hb4⟩
  have B4 : Below w.heap.size w w4 := B3.trans (hb4.mono B3.size)
  have v0 : w4.cell? ⟨w2.heap.size, 0, none⟩ = some (.int .i64 p) := by rw [hb4.cell (by exact z3)]; exact u0
  have v1 : w4.cell? ⟨w2.heap.size, 1, none⟩ = some (.int .i64 q) := by rw [hb4.cell (by exact z3)]; exact u1
  have z4 : w2.heap.size < w4.heap.size := by have := hb4.size; omega
  clear hb4 u0 u1 hI
  have he := fun W => eqWindow_any p q p q W
  simp only [BEq.rfl, Bool.and_self] at he
  go_wp2_with fail
  refine (he _).mono ?_
  rintro e w5 ⟨rfl, hb5⟩
  have B5 : Below w.heap.size w w5 := (B4.alloc (by have := B4.size; omega) _).trans (hb5.mono (by simp; have := B4.size; omega))
  clear hb5
  go_wp2
  go_ret
  exact ⟨rfl, B5⟩
end Go.Proofs.Ytbeanpnlakcceaa
