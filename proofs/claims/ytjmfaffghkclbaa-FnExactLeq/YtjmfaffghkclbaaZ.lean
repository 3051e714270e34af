/- FnExactLeq: the walk: the law answers true at every two labels that came in, and writes nothing that was there. -/
import Derived.Test.YtjmfaffghkclbaaY
namespace Go.Proofs.Ytjmfaffghkclbaa
open Go.RowKit Go.Deep Go.Maps

set_option maxRecDepth 100000 in
set_option maxHeartbeats 2000000 in
theorem exactLeq_walk (ba : Int) (aa : Option Addr) (na ka : Nat) (fa ga : Nat → Int) (bb : Int) (ab : Option Addr) (nb kb : Nat) (fb gb : Nat → Int) (w : World)
    (hna : na ≤ maxLen) (hnb : nb ≤ maxLen) (hca : CatsAt w aa na fa ga) (hcb : CatsAt w ab nb fb gb) :
    Calls Try.prog 11 #[.agg #[.int .i64 ba, .slice aa na ka], .agg #[.int .i64 bb, .slice ab nb kb]] w fun e w' => e = .returned (.bool true) ∧ Below w.heap.size w w' := by
  have hb0 := ((Below.refl _ w).alloc (Nat.le_refl _) (.cells #[.int .i64 ba, .slice aa na ka] 49)).alloc (by simp) (.cells #[.int .i64 bb, .slice ab nb kb] 49)
  have A0 : Blk ((w.alloc (.cells #[.int .i64 ba, .slice aa na ka] 49)).alloc (.cells #[.int .i64 bb, .slice ab nb kb] 49)) w.heap.size (.cells #[.int .i64 ba, .slice aa na ka] 49) := (Blk.new w _).alloc _
  have B0 : Blk ((w.alloc (.cells #[.int .i64 ba, .slice aa na ka] 49)).alloc (.cells #[.int .i64 bb, .slice ab nb kb] 49)) (w.heap.size + 1) (.cells #[.int .i64 bb, .slice ab nb kb] 49) := by have := Blk.new (w.alloc (.cells #[.int .i64 ba, .slice aa na ka] 49)) (.cells #[.int .i64 bb, .slice ab nb kb] 49); simpa using this
  go_enter Try.func11, Try.ntmps11
  go_wp2_with fail
  refine (szLabel_any _ _ _ _ _ _ hna (by omega) (by omega)).mono ?_
  rintro e w1 ⟨rfl, hb1⟩
  have A1 := A0.below hb1
  have B1 := B0.below hb1
  have L1 : Below w.heap.size w w1 := hb0.trans (hb1.mono (by simp; omega))
  clear hb0 A0 B0 hb1
  obtain ⟨x1, x2⟩ := A1.two
  obtain ⟨x3, x4⟩ := B1.two
  have s1 := szOf_cases na 1048576 (by omega) (by omega)
  generalize szOf na 1048576 = r1 at *
  rcases s1 with rfl | ⟨u1, v1, m1⟩
  · go_wp2
    go_ret
    exact ⟨rfl, L1⟩
  · go_wp2_with fail
    refine (szLabel_any _ _ _ _ _ _ hnb u1 (by omega)).mono ?_
    rintro e w2 ⟨rfl, hb2⟩
    have A2 := A1.below hb2
    have B2 := B1.below hb2
    have L2 : Below w.heap.size w w2 := L1.trans (hb2.mono L1.size)
    clear x1 x2 x3 x4 A1 B1 L1 hb2
    obtain ⟨x1, x2⟩ := A2.two
    obtain ⟨x3, x4⟩ := B2.two
    have s2 := szOf_cases nb r1 u1 (by omega)
    generalize szOf nb r1 = r2 at *
    rcases s2 with rfl | ⟨u2, v2, m2⟩
    · go_wp2
      go_ret
      exact ⟨rfl, L2⟩
    · have Ca : CatsAt w2.drew aa na fa ga := hca.below L2.drew
      have Cb : CatsAt w2.drew ab nb fb gb := hcb.below L2.drew
      have A2d : Blk w2.drew w.heap.size (.cells #[.int .i64 ba, .slice aa na ka] 49) := A2
      have B2d : Blk w2.drew (w.heap.size + 1) (.cells #[.int .i64 bb, .slice ab nb kb] 49) := B2
      clear A2 B2
      go_wp2_with fail
      go_region_held3 (fun w' => w'.cell? ⟨w.heap.size, 0, none⟩ = some (.int .i64 ba) ∧ w'.cell? ⟨w.heap.size, 1, none⟩ = some (.slice aa na ka) ∧ w'.cell? ⟨w.heap.size + 1, 0, none⟩ = some (.int .i64 bb) ∧ w'.cell? ⟨w.heap.size + 1, 1, none⟩ = some (.slice ab nb kb)) (go_keep)
        (first
          | (go_at_call 34; refine (specLeq_any _ _ _ _ fa ga _ _ _ _ fb gb _ hna hnb ((CatsAt.row c1).below hb2) (CatsAt.row c2)).mono ?_; rintro e w5 ⟨rfl, hb3⟩; have A5 := ((A2d.below hb1).below hb2).below hb3; have B5 := ((B2d.below hb1).below hb2).below hb3; obtain ⟨z1, z2⟩ := A5.two; obtain ⟨z3, z4⟩ := B5.two)
          | (go_at_call 48; have hb1' := hb1; clear hb1'; refine (toLabel_any _ _ _ _ fb gb _ m2 (Cb.below hb1)).mono ?_; rintro e w4 ⟨d2, rfl, _, c2, hb2⟩; obtain ⟨y1, y2⟩ := ((A2d.below hb1).below hb2).two; obtain ⟨y3, y4⟩ := ((B2d.below hb1).below hb2).two)
          | (go_at_call 48; refine (toLabel_any _ _ _ _ fa ga _ m1 Ca).mono ?_; rintro e w3 ⟨d1, rfl, _, c1, hb1⟩; obtain ⟨y1, y2⟩ := (A2d.below hb1).two; obtain ⟨y3, y4⟩ := (B2d.below hb1).two))
      have L5 : Below w.heap.size w w5 := ((L2.drew.trans (hb1.mono L2.size)).trans (hb2.mono (Nat.le_trans L2.size hb1.size))).trans (hb3.mono (Nat.le_trans L2.size (Nat.le_trans hb1.size hb2.size)))
      have C5a := hca.below L5
      have C5b := hcb.below L5
      clear Ca Cb A2d B2d x1 x2 x3 x4 c1 c2 hb1 hb2 hb3 y1 y2 y3 y4 L2
      go_wp2_with fail
      refine (toLabel_any _ _ _ _ fa ga _ m1 C5a).mono ?_
      rintro e w6 ⟨d1, rfl, _, c1, hb6⟩
      have A6 := (A5.below hb6).alloc (.cells #[.int .i64 ba, .slice (some ⟨d1, 0, none⟩) na na] 26)
      have B6 := (B5.below hb6).alloc (.cells #[.int .i64 ba, .slice (some ⟨d1, 0, none⟩) na na] 26)
      have L6 : Below w.heap.size w (w6.alloc (.cells #[.int .i64 ba, .slice (some ⟨d1, 0, none⟩) na na] 26)) := (L5.trans (hb6.mono L5.size)).alloc (Nat.le_trans L5.size hb6.size) _
      have X6 := Blk.new w6 (.cells #[.int .i64 ba, .slice (some ⟨d1, 0, none⟩) na na] 26)
      have R6 := (CatsAt.row c1).below ((Below.refl _ w6).alloc (Nat.le_refl _) (.cells #[.int .i64 ba, .slice (some ⟨d1, 0, none⟩) na na] 26))
      clear A5 B5 L5 z1 z2 z3 z4 C5a C5b hb6 c1
      obtain ⟨z1, z2⟩ := A6.two
      obtain ⟨z3, z4⟩ := B6.two
      go_wp2_with fail
      refine (toLabel_any _ _ _ _ fb gb _ m2 (hcb.below L6)).mono ?_
      rintro e w7 ⟨d2, rfl, _, c2, hb7⟩
      have A7 := (A6.below hb7).alloc (.cells #[.int .i64 bb, .slice (some ⟨d2, 0, none⟩) nb nb] 26)
      have B7 := (B6.below hb7).alloc (.cells #[.int .i64 bb, .slice (some ⟨d2, 0, none⟩) nb nb] 26)
      have X7 := (X6.below hb7).alloc (.cells #[.int .i64 bb, .slice (some ⟨d2, 0, none⟩) nb nb] 26)
      have Y7 := Blk.new w7 (.cells #[.int .i64 bb, .slice (some ⟨d2, 0, none⟩) nb nb] 26)
      have L7 : Below w.heap.size w (w7.alloc (.cells #[.int .i64 bb, .slice (some ⟨d2, 0, none⟩) nb nb] 26)) := (L6.trans (hb7.mono L6.size)).alloc (Nat.le_trans L6.size hb7.size) _
      have K7 := (Below.refl _ w7).alloc (Nat.le_refl _) (.cells #[.int .i64 bb, .slice (some ⟨d2, 0, none⟩) nb nb] 26)
      have R7 := (R6.below hb7).below K7
      have Q7 := (CatsAt.row c2).below K7
      clear A6 B6 X6 L6 R6 z1 z2 z3 z4 hb7 c2 K7
      obtain ⟨z5, z6⟩ := X7.two
      obtain ⟨z7, z8⟩ := Y7.two
      go_wp2_with fail
      refine (implLeq_any _ _ _ _ fa ga _ _ _ _ fb gb _ hna hnb R7 Q7).mono ?_
      rintro e w8 ⟨rfl, hb8⟩
      have L8 : Below w.heap.size w w8 := L7.trans (hb8.mono L7.size)
      have A8 : Blk w8.drew w.heap.size (.cells #[.int .i64 ba, .slice aa na ka] 49) := A7.below hb8.drew
      have B8 : Blk w8.drew (w.heap.size + 1) (.cells #[.int .i64 bb, .slice ab nb kb] 49) := B7.below hb8.drew
      have X8 : Blk w8.drew w6.heap.size (.cells #[.int .i64 ba, .slice (some ⟨d1, 0, none⟩) na na] 26) := X7.below hb8.drew
      have Y8 : Blk w8.drew w7.heap.size (.cells #[.int .i64 bb, .slice (some ⟨d2, 0, none⟩) nb nb] 26) := Y7.below hb8.drew
      have R8 : CatsAt w8.drew (some ⟨d1, 0, none⟩) na fa ga := R7.below hb8.drew
      have Q8 : CatsAt w8.drew (some ⟨d2, 0, none⟩) nb fb gb := Q7.below hb8.drew
      have Ca : CatsAt w8.drew aa na fa ga := hca.below L8.drew
      clear A7 B7 X7 Y7 L7 R7 Q7 z5 z6 z7 z8 hb8
      obtain ⟨z1, z2⟩ : w8.cell? ⟨w.heap.size, 0, none⟩ = _ ∧ w8.cell? ⟨w.heap.size, 1, none⟩ = _ := A8.two
      obtain ⟨z5, z6⟩ : w8.cell? ⟨w6.heap.size, 0, none⟩ = _ ∧ w8.cell? ⟨w6.heap.size, 1, none⟩ = _ := X8.two
      go_wp2_with fail
      go_region_held3 (fun w' => w'.cell? ⟨w.heap.size, 0, none⟩ = some (.int .i64 ba) ∧ w'.cell? ⟨w.heap.size, 1, none⟩ = some (.slice aa na ka) ∧ w'.cell? ⟨w6.heap.size, 0, none⟩ = some (.int .i64 ba) ∧ w'.cell? ⟨w6.heap.size, 1, none⟩ = some (.slice (some ⟨d1, 0, none⟩) na na)) (go_keep)
        (first
          | (go_at_call 48; refine (toLabel_any _ _ _ _ fa ga _ m1 Ca).mono ?_; rintro e w9 ⟨d3, rfl, _, c3, hb9⟩; obtain ⟨y1, y2⟩ := (A8.below hb9).two; obtain ⟨y3, y4⟩ := (X8.below hb9).two)
          | (go_at_call 49; refine (eqLabel_true _ _ _ _ _ _ fa ga _ hna (R8.below hb9) (CatsAt.row c3)).mono ?_; rintro e w10 ⟨rfl, hb10⟩; obtain ⟨t1, t2⟩ := ((A8.below hb9).below hb10).two; obtain ⟨t3, t4⟩ := ((X8.below hb9).below hb10).two))
      have L10 : Below w.heap.size w w10 := (L8.drew.trans (hb9.mono L8.size)).trans (hb10.mono (Nat.le_trans L8.size hb9.size))
      have B10 : Blk w10.drew (w.heap.size + 1) (.cells #[.int .i64 bb, .slice ab nb kb] 49) := (B8.below hb9).below hb10.drew
      have Y10 : Blk w10.drew w7.heap.size (.cells #[.int .i64 bb, .slice (some ⟨d2, 0, none⟩) nb nb] 26) := (Y8.below hb9).below hb10.drew
      have Q10 : CatsAt w10.drew (some ⟨d2, 0, none⟩) nb fb gb := (Q8.below hb9).below hb10.drew
      have Cb : CatsAt w10.drew ab nb fb gb := hcb.below L10.drew
      clear A8 B8 X8 Y8 R8 Q8 Ca z1 z2 z5 z6 y1 y2 y3 y4 t1 t2 t3 t4 hb9 hb10 c3 L8
      obtain ⟨z1, z2⟩ : w10.cell? ⟨w.heap.size + 1, 0, none⟩ = _ ∧ w10.cell? ⟨w.heap.size + 1, 1, none⟩ = _ := B10.two
      obtain ⟨z5, z6⟩ : w10.cell? ⟨w7.heap.size, 0, none⟩ = _ ∧ w10.cell? ⟨w7.heap.size, 1, none⟩ = _ := Y10.two
      go_wp2_with fail
      go_region_held3 (fun w' => w'.cell? ⟨w.heap.size + 1, 0, none⟩ = some (.int .i64 bb) ∧ w'.cell? ⟨w.heap.size + 1, 1, none⟩ = some (.slice ab nb kb) ∧ w'.cell? ⟨w7.heap.size, 0, none⟩ = some (.int .i64 bb) ∧ w'.cell? ⟨w7.heap.size, 1, none⟩ = some (.slice (some ⟨d2, 0, none⟩) nb nb)) (go_keep)
        (first
          | (go_at_call 48; refine (toLabel_any _ _ _ _ fb gb _ m2 Cb).mono ?_; rintro e w11 ⟨d4, rfl, _, c4, hb11⟩; obtain ⟨y1, y2⟩ := (B10.below hb11).two; obtain ⟨y3, y4⟩ := (Y10.below hb11).two)
          | (go_at_call 49; refine (eqLabel_true _ _ _ _ _ _ fb gb _ hnb (Q10.below hb11) (CatsAt.row c4)).mono ?_; rintro e w12 ⟨rfl, hb12⟩; obtain ⟨t1, t2⟩ := ((B10.below hb11).below hb12).two; obtain ⟨t3, t4⟩ := ((Y10.below hb11).below hb12).two))
      have L12 : Below w.heap.size w w12 := (L10.drew.trans (hb11.mono L10.size)).trans (hb12.mono (Nat.le_trans L10.size hb11.size))
      clear B10 Y10 Q10 Cb z1 z2 z5 z6 y1 y2 y3 y4 t1 t2 t3 t4 hb11 hb12 c4 L10 hca hcb
      go_wp2
      go_ret
      exact ⟨rfl, L12⟩
end Go.Proofs.Ytjmfaffghkclbaa
