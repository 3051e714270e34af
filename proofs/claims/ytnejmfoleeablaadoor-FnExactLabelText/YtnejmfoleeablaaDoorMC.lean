/- FnExactLabelText: the walk: the law answers true at every label that came in, and writes nothing that was there. -/
import Derived.Test.YtnejmfoleeablaaDoorMB
namespace Go.Proofs.YtnejmfoleeablaaDoor
open Go.RowKit Go.Deep Go.Maps

theorem szOf_cases (n : Nat) (left : Int) (h0 : 0 ≤ left) (h1 : left ≤ 1048576) : (szOf n left = -1) ∨ (0 ≤ szOf n left ∧ szOf n left ≤ left ∧ n ≤ 1048576) := by
  unfold szOf; split
  · exact .inl rfl
  · right; omega

set_option maxRecDepth 100000 in
set_option maxHeartbeats 4000000 in
theorem exactLabelText_walk (ba : Int) (aa : Option Addr) (na ka : Nat) (fa ga : Nat → Int) (w : World) (hna : na ≤ maxLen) (hca : CatsAt w aa na fa ga) (ht : Tab w) :
    Calls Tryd.prog 4 #[.agg #[.int .i64 ba, .slice aa na ka]] w fun e w' => e = .returned (.bool true) ∧ Below w.heap.size w w' := by
  have hb0 := (Below.refl _ w).alloc (Nat.le_refl _) (.cells #[.int .i64 ba, .slice aa na ka] 36)
  have A0 := Blk.new w (.cells #[.int .i64 ba, .slice aa na ka] 36)
  go_enter Tryd.func4, Tryd.ntmps4
  go_wp2_with fail
  refine (szLabel_any _ _ _ _ _ _ hna (by omega) (by omega)).mono ?_
  rintro e w1 ⟨rfl, hb1⟩
  have A1 := A0.below hb1
  have L1 : Below w.heap.size w w1 := hb0.trans (hb1.mono (by simp))
  clear hb0 A0 hb1
  obtain ⟨x1, x2⟩ := A1.two
  have s1 := szOf_cases na 1048576 (by omega) (by omega)
  generalize szOf na 1048576 = r1 at *
  rcases s1 with rfl | ⟨u1, v1, m1⟩
  · go_wp2
    go_ret
    exact ⟨rfl, L1⟩
  · go_wp2_with fail
    refine (toLabel_any _ _ _ _ fa ga _ m1 (hca.below L1)).mono ?_
    rintro e w2 ⟨d0, rfl, _, c0, hb2⟩
    have A2 := A1.below hb2
    have L2 : Below w.heap.size w w2 := L1.trans (hb2.mono L1.size)
    clear x1 x2 A1 L1 hb2
    go_wp2_with fail
    refine (specLabelText_any _ _ _ _ fa ga _ hna (CatsAt.row c0)).mono ?_
    rintro e w3 ⟨rfl, hb3⟩
    have A3 := A2.below hb3
    have L3 : Below w.heap.size w w3 := L2.trans (hb3.mono L2.size)
    clear A2 L2 hb3 c0
    obtain ⟨x1, x2⟩ := A3.two
    go_wp2_with fail
    refine (toLabel_any _ _ _ _ fa ga _ m1 (hca.below L3)).mono ?_
    rintro e w4 ⟨d1, rfl, _, c1, hb4⟩
    have X := Blk.new w4 (.cells #[.int .i64 ba, .slice (some ⟨d1, 0, none⟩) na na] 26)
    have K4 := (Below.refl _ w4).alloc (Nat.le_refl _) (.cells #[.int .i64 ba, .slice (some ⟨d1, 0, none⟩) na na] 26)
    have A4 := (A3.below hb4).below K4
    have L4 : Below w.heap.size w (w4.alloc (.cells #[.int .i64 ba, .slice (some ⟨d1, 0, none⟩) na na] 26)) := (L3.trans (hb4.mono L3.size)).alloc (Nat.le_trans L3.size hb4.size) _
    have XC := (CatsAt.row c1).below K4
    clear x1 x2 A3 L3 hb4 c1 K4
    obtain ⟨x1, x2⟩ := X.two
    go_wp2_with fail
    refine (implText_any _ _ _ _ fa ga _ hna XC (ht.below L4)).mono ?_
    rintro e w6 ⟨rfl, hb6⟩
    have L6 : Below w.heap.size w w6.drew := (L4.trans (hb6.mono L4.size)).drew
    have X6 : Blk w6.drew w4.heap.size (.cells #[.int .i64 ba, .slice (some ⟨d1, 0, none⟩) na na] 26) := X.below hb6.drew
    have XC6 : CatsAt w6.drew (some ⟨d1, 0, none⟩) na fa ga := XC.below hb6.drew
    have A6 : Blk w6.drew w.heap.size (.cells #[.int .i64 ba, .slice aa na ka] 36) := A4.below hb6.drew
    have C6 := hca.below L6
    generalize ltext ba na fa ga = tx at *
    clear x1 x2 X XC A4 L4 hb6
    obtain ⟨z1, z2⟩ : w6.cell? ⟨w.heap.size, 0, none⟩ = _ ∧ w6.cell? ⟨w.heap.size, 1, none⟩ = _ := A6.two
    obtain ⟨z5, z6⟩ : w6.cell? ⟨w4.heap.size, 0, none⟩ = _ ∧ w6.cell? ⟨w4.heap.size, 1, none⟩ = _ := X6.two
    go_wp2_with fail
    go_region_held3 (fun w' => w'.cell? ⟨w.heap.size, 0, none⟩ = some (.int .i64 ba) ∧ w'.cell? ⟨w.heap.size, 1, none⟩ = some (.slice aa na ka) ∧ w'.cell? ⟨w4.heap.size, 0, none⟩ = some (.int .i64 ba) ∧ w'.cell? ⟨w4.heap.size, 1, none⟩ = some (.slice (some ⟨d1, 0, none⟩) na na)) (go_keep)
      (first
        | (go_at_call 15; refine (toLabel_any _ _ _ _ fa ga _ m1 C6).mono ?_; rintro e w7 ⟨d3, rfl, _, c3, hb7⟩; obtain ⟨y1, y2⟩ := (A6.below hb7).two; obtain ⟨y3, y4⟩ := (X6.below hb7).two)
        | (go_at_call 16; refine (eqLabel_true _ _ _ _ _ _ fa ga _ hna (XC6.below hb7) (CatsAt.row c3)).mono ?_; rintro e w8 ⟨rfl, hb8⟩; obtain ⟨t1, t2⟩ := ((A6.below hb7).below hb8).two; obtain ⟨t3, t4⟩ := ((X6.below hb7).below hb8).two))
    have L8 : Below w.heap.size w w8 := (L6.trans (hb7.mono L6.size)).trans (hb8.mono (Nat.le_trans L6.size hb7.size))
    clear z1 z2 z5 z6 y1 y2 y3 y4 t1 t2 t3 t4 hb7 hb8 c3 X6 XC6 A6 C6 L6
    go_wp2
    go_ret
    exact ⟨rfl, L8⟩
end Go.Proofs.YtnejmfoleeablaaDoor
