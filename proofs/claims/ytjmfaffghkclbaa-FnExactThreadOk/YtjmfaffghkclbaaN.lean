/- FnExactThreadOk: the walk: the law answers true at every thread that came in, and writes nothing that was there. -/
import Derived.Test.YtjmfaffghkclbaaM
namespace Go.Proofs.Ytjmfaffghkclbaa
open Go.RowKit Go.Deep

set_option maxHeartbeats 2000000 in
theorem exactThreadOk_walk (id made b1 : Int) (a1 : Option Addr) (n1 k1 : Nat) (f1 g1 : Nat → Int) (b2 : Int) (a2 : Option Addr) (n2 k2 : Nat) (f2 g2 : Nat → Int) (a3 : Option Addr) (n3 k3 : Nat) (h : Nat → Int) (w : World)
    (hn1 : n1 ≤ maxLen) (hn2 : n2 ≤ maxLen) (hn3 : n3 ≤ maxLen) (hc1 : CatsAt w a1 n1 f1 g1) (hc2 : CatsAt w a2 n2 f2 g2) (hc3 : IntsAt w a3 n3 h) :
    Calls Try.prog 16 #[.agg #[.int .i64 id, .int .i64 b1, .slice a1 n1 k1, .int .i64 b2, .slice a2 n2 k2, .slice a3 n3 k3, .int .i64 made]] w fun e w' => e = .returned (.bool true) ∧ Below w.heap.size w w' := by
  have hb0 := (Below.refl _ w).alloc (Nat.le_refl _) (.cells #[.int .i64 id, .int .i64 b1, .slice a1 n1 k1, .int .i64 b2, .slice a2 n2 k2, .slice a3 n3 k3, .int .i64 made] 63)
  go_enter Try.func16, Try.ntmps16
  go_wp2_with fail
  refine (szThread_any _ _ _ _ _ _ _ _ _ _ _ _ _ _ _ hn1 hn2 hn3 (by omega) (by omega)).mono ?_
  rintro e w1 ⟨r, rfl, hr, hb1⟩
  have x0 : w1.cell? ⟨w.heap.size, 0, none⟩ = some (.int .i64 id) := (hb1.cell (p := ⟨w.heap.size, 0, none⟩) (by simp)).trans (by simp)
  have x1 : w1.cell? ⟨w.heap.size, 1, none⟩ = some (.int .i64 b1) := (hb1.cell (p := ⟨w.heap.size, 1, none⟩) (by simp)).trans (by simp)
  have x2 : w1.cell? ⟨w.heap.size, 2, none⟩ = some (.slice a1 n1 k1) := (hb1.cell (p := ⟨w.heap.size, 2, none⟩) (by simp)).trans (by simp)
  have x3 : w1.cell? ⟨w.heap.size, 3, none⟩ = some (.int .i64 b2) := (hb1.cell (p := ⟨w.heap.size, 3, none⟩) (by simp)).trans (by simp)
  have x4 : w1.cell? ⟨w.heap.size, 4, none⟩ = some (.slice a2 n2 k2) := (hb1.cell (p := ⟨w.heap.size, 4, none⟩) (by simp)).trans (by simp)
  have x5 : w1.cell? ⟨w.heap.size, 5, none⟩ = some (.slice a3 n3 k3) := (hb1.cell (p := ⟨w.heap.size, 5, none⟩) (by simp)).trans (by simp)
  have x6 : w1.cell? ⟨w.heap.size, 6, none⟩ = some (.int .i64 made) := (hb1.cell (p := ⟨w.heap.size, 6, none⟩) (by simp)).trans (by simp)
  have z1 : w.heap.size < w1.heap.size := by have := hb1.size; simp at this; omega
  have B1 : Below w.heap.size w w1 := hb0.trans (hb1.mono (by simp))
  clear hb0 hb1
  rcases hr with rfl | ⟨r0, r1, m1, m2, m3⟩
  · clear hc1 hc2 hc3
    go_wp2
    go_ret
    exact ⟨rfl, B1⟩
  · have C1 := hc1.below B1
    have C2 := hc2.below B1
    have C3 := hc3.below B1
    go_wp2_with fail
    refine (toThread_any _ _ _ _ _ _ f1 g1 _ _ _ _ f2 g2 _ _ _ h _ m1 m2 m3 C1 C2 C3).mono ?_
    rintro e w2 ⟨c1, c2, c3, rfl, s1, s2, s3, hb2⟩
    go_wp2_with fail
    refine (specThr_any _ _ _ _ _ _ f1 g1 _ _ _ _ f2 g2 _ _ _ h _ hn1 hn2 hn3 (CatsAt.row s1) (CatsAt.row s2) (IntsAt.row s3)).mono ?_
    rintro e w3 ⟨rfl, hb3⟩
    have D3 : Below w1.heap.size w1 w3 := hb2.trans (hb3.mono hb2.size)
    have B3 : Below w.heap.size w w3 := B1.trans (D3.mono (by omega))
    have z3 : w.heap.size < w3.heap.size := by have := D3.size; omega
    have y0 : w3.cell? ⟨w.heap.size, 0, none⟩ = some (.int .i64 id) := (D3.cell (p := ⟨w.heap.size, 0, none⟩) z1).trans x0
    have y1 : w3.cell? ⟨w.heap.size, 1, none⟩ = some (.int .i64 b1) := (D3.cell (p := ⟨w.heap.size, 1, none⟩) z1).trans x1
    have y2 : w3.cell? ⟨w.heap.size, 2, none⟩ = some (.slice a1 n1 k1) := (D3.cell (p := ⟨w.heap.size, 2, none⟩) z1).trans x2
    have y3 : w3.cell? ⟨w.heap.size, 3, none⟩ = some (.int .i64 b2) := (D3.cell (p := ⟨w.heap.size, 3, none⟩) z1).trans x3
    have y4 : w3.cell? ⟨w.heap.size, 4, none⟩ = some (.slice a2 n2 k2) := (D3.cell (p := ⟨w.heap.size, 4, none⟩) z1).trans x4
    have y5 : w3.cell? ⟨w.heap.size, 5, none⟩ = some (.slice a3 n3 k3) := (D3.cell (p := ⟨w.heap.size, 5, none⟩) z1).trans x5
    have y6 : w3.cell? ⟨w.heap.size, 6, none⟩ = some (.int .i64 made) := (D3.cell (p := ⟨w.heap.size, 6, none⟩) z1).trans x6
    clear x0 x1 x2 x3 x4 x5 x6 s1 s2 s3 hb2 hb3 D3 B1 C1 C2 C3
    have C1 := hc1.below B3
    have C2 := hc2.below B3
    have C3 := hc3.below B3
    go_wp2_with fail
    refine (toThread_any _ _ _ _ _ _ f1 g1 _ _ _ _ f2 g2 _ _ _ h _ m1 m2 m3 C1 C2 C3).mono ?_
    rintro e w4 ⟨c1, c2, c3, rfl, s1, s2, s3, hb4⟩
    go_wp2_with fail
    have hb5 := (Below.refl _ w4).alloc (Nat.le_refl _) (.cells #[.int .i64 id, .int .i64 b1, .slice (some ⟨c1, 0, none⟩) n1 n1, .int .i64 b2, .slice (some ⟨c2, 0, none⟩) n2 n2, .slice (some ⟨c3, 0, none⟩) n3 n3, .int .i64 made] 43)
    refine (implThr_any _ _ _ _ _ _ f1 g1 _ _ _ _ f2 g2 _ _ _ h _ hn1 hn2 hn3 ((CatsAt.row s1).below hb5) ((CatsAt.row s2).below hb5) ((IntsAt.row s3).below hb5)).mono ?_
    rintro e w6 ⟨rfl, hb6⟩
    have D6 : Below w4.heap.size w4 w6 := hb5.trans (hb6.mono (by simp))
    have z4 : w.heap.size < w4.heap.size := by have := hb4.size; omega
    have z6 : w4.heap.size < w6.heap.size := by have := hb6.size; simp at this; omega
    have z6' : w.heap.size < w6.heap.size := by omega
    have u0 : w6.cell? ⟨w4.heap.size, 0, none⟩ = some (.int .i64 id) := (hb6.cell (p := ⟨w4.heap.size, 0, none⟩) (by simp)).trans (by simp)
    have u1 : w6.cell? ⟨w4.heap.size, 1, none⟩ = some (.int .i64 b1) := (hb6.cell (p := ⟨w4.heap.size, 1, none⟩) (by simp)).trans (by simp)
    have u2 : w6.cell? ⟨w4.heap.size, 2, none⟩ = some (.slice (some ⟨c1, 0, none⟩) n1 n1) := (hb6.cell (p := ⟨w4.heap.size, 2, none⟩) (by simp)).trans (by simp)
    have u3 : w6.cell? ⟨w4.heap.size, 3, none⟩ = some (.int .i64 b2) := (hb6.cell (p := ⟨w4.heap.size, 3, none⟩) (by simp)).trans (by simp)
    have u4 : w6.cell? ⟨w4.heap.size, 4, none⟩ = some (.slice (some ⟨c2, 0, none⟩) n2 n2) := (hb6.cell (p := ⟨w4.heap.size, 4, none⟩) (by simp)).trans (by simp)
    have u5 : w6.cell? ⟨w4.heap.size, 5, none⟩ = some (.slice (some ⟨c3, 0, none⟩) n3 n3) := (hb6.cell (p := ⟨w4.heap.size, 5, none⟩) (by simp)).trans (by simp)
    have u6 : w6.cell? ⟨w4.heap.size, 6, none⟩ = some (.int .i64 made) := (hb6.cell (p := ⟨w4.heap.size, 6, none⟩) (by simp)).trans (by simp)
    have v0 : w6.cell? ⟨w.heap.size, 0, none⟩ = some (.int .i64 id) := (D6.cell (p := ⟨w.heap.size, 0, none⟩) z4).trans ((hb4.cell (p := ⟨w.heap.size, 0, none⟩) z3).trans y0)
    have v1 : w6.cell? ⟨w.heap.size, 1, none⟩ = some (.int .i64 b1) := (D6.cell (p := ⟨w.heap.size, 1, none⟩) z4).trans ((hb4.cell (p := ⟨w.heap.size, 1, none⟩) z3).trans y1)
    have v2 : w6.cell? ⟨w.heap.size, 2, none⟩ = some (.slice a1 n1 k1) := (D6.cell (p := ⟨w.heap.size, 2, none⟩) z4).trans ((hb4.cell (p := ⟨w.heap.size, 2, none⟩) z3).trans y2)
    have v3 : w6.cell? ⟨w.heap.size, 3, none⟩ = some (.int .i64 b2) := (D6.cell (p := ⟨w.heap.size, 3, none⟩) z4).trans ((hb4.cell (p := ⟨w.heap.size, 3, none⟩) z3).trans y3)
    have v4 : w6.cell? ⟨w.heap.size, 4, none⟩ = some (.slice a2 n2 k2) := (D6.cell (p := ⟨w.heap.size, 4, none⟩) z4).trans ((hb4.cell (p := ⟨w.heap.size, 4, none⟩) z3).trans y4)
    have v5 : w6.cell? ⟨w.heap.size, 5, none⟩ = some (.slice a3 n3 k3) := (D6.cell (p := ⟨w.heap.size, 5, none⟩) z4).trans ((hb4.cell (p := ⟨w.heap.size, 5, none⟩) z3).trans y5)
    have v6 : w6.cell? ⟨w.heap.size, 6, none⟩ = some (.int .i64 made) := (D6.cell (p := ⟨w.heap.size, 6, none⟩) z4).trans ((hb4.cell (p := ⟨w.heap.size, 6, none⟩) z3).trans y6)
    have B6 : Below w.heap.size w w6 := (B3.trans (hb4.mono (by omega))).trans (D6.mono (by omega))
    have C1 : CatsAt w6.drew a1 n1 f1 g1 := hc1.below B6.drew
    have C2 : CatsAt w6.drew a2 n2 f2 g2 := hc2.below B6.drew
    have C3 : IntsAt w6.drew a3 n3 h := hc3.below B6.drew
    have E1 : CatsAt w6.drew (some ⟨c1, 0, none⟩) n1 f1 g1 := (CatsAt.row s1).below D6.drew
    have E2 : CatsAt w6.drew (some ⟨c2, 0, none⟩) n2 f2 g2 := (CatsAt.row s2).below D6.drew
    have E3 : IntsAt w6.drew (some ⟨c3, 0, none⟩) n3 h := (IntsAt.row s3).below D6.drew
    clear y0 y1 y2 y3 y4 y5 y6 s1 s2 s3 hb4 hb5 hb6 D6 B3 hc1 hc2 hc3
    go_wp2_with fail
    go_region_held3 (fun w' => w'.cell? ⟨w4.heap.size, 0, none⟩ = some (.int .i64 id) ∧ w'.cell? ⟨w4.heap.size, 1, none⟩ = some (.int .i64 b1) ∧ w'.cell? ⟨w4.heap.size, 2, none⟩ = some (.slice (some ⟨c1, 0, none⟩) n1 n1) ∧ w'.cell? ⟨w4.heap.size, 3, none⟩ = some (.int .i64 b2) ∧ w'.cell? ⟨w4.heap.size, 4, none⟩ = some (.slice (some ⟨c2, 0, none⟩) n2 n2) ∧ w'.cell? ⟨w4.heap.size, 5, none⟩ = some (.slice (some ⟨c3, 0, none⟩) n3 n3) ∧ w'.cell? ⟨w4.heap.size, 6, none⟩ = some (.int .i64 made) ∧ w'.cell? ⟨w.heap.size, 0, none⟩ = some (.int .i64 id) ∧ w'.cell? ⟨w.heap.size, 1, none⟩ = some (.int .i64 b1) ∧ w'.cell? ⟨w.heap.size, 2, none⟩ = some (.slice a1 n1 k1) ∧ w'.cell? ⟨w.heap.size, 3, none⟩ = some (.int .i64 b2) ∧ w'.cell? ⟨w.heap.size, 4, none⟩ = some (.slice a2 n2 k2) ∧ w'.cell? ⟨w.heap.size, 5, none⟩ = some (.slice a3 n3 k3) ∧ w'.cell? ⟨w.heap.size, 6, none⟩ = some (.int .i64 made)) (first | go_keep | (simp only [*, and_self]))
      (first
        | (go_at_call 59; refine (toThread_any _ _ _ _ _ _ f1 g1 _ _ _ _ f2 g2 _ _ _ h _ m1 m2 m3 C1 C2 C3).mono ?_; rintro e w7 ⟨d1, d2, d3, rfl, s1, s2, s3, hb7⟩; have P7 : ∀ i, w7.cell? ⟨w4.heap.size, i, none⟩ = w6.cell? ⟨w4.heap.size, i, none⟩ := fun i => hb7.cell (p := ⟨w4.heap.size, i, none⟩) z6; have Q7 : ∀ i, w7.cell? ⟨w.heap.size, i, none⟩ = w6.cell? ⟨w.heap.size, i, none⟩ := fun i => hb7.cell (p := ⟨w.heap.size, i, none⟩) z6')
        | (go_at_call 61; refine (eqThread_true _ _ _ _ _ _ f1 g1 _ _ _ _ f2 g2 _ _ _ h _ _ _ _ _ _ _ hn1 hn2 hn3 (E1.below hb7) (E2.below hb7) (E3.below hb7) (CatsAt.row s1) (CatsAt.row s2) (IntsAt.row s3)).mono ?_; rintro e w8 ⟨rfl, hb8⟩; have z7 := hb7.size; have P8 : ∀ i, w8.cell? ⟨w4.heap.size, i, none⟩ = w7.cell? ⟨w4.heap.size, i, none⟩ := fun i => hb8.cell (p := ⟨w4.heap.size, i, none⟩) (Nat.lt_of_lt_of_le z6 z7); have Q8 : ∀ i, w8.cell? ⟨w.heap.size, i, none⟩ = w7.cell? ⟨w.heap.size, i, none⟩ := fun i => hb8.cell (p := ⟨w.heap.size, i, none⟩) (Nat.lt_of_lt_of_le z6' z7)))
    have B8 : Below w.heap.size w w8 := (B6.drew.trans (hb7.mono (Nat.le_of_lt z6'))).trans (hb8.mono (Nat.le_trans (Nat.le_of_lt z6') z7))
    clear P7 Q7 P8 Q8 C1 C2 C3 E1 E2 E3 s1 s2 s3
    go_wp2
    go_ret
    exact ⟨rfl, B8⟩
end Go.Proofs.Ytjmfaffghkclbaa
