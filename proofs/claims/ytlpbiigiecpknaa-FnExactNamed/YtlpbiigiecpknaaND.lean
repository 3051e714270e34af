/- FnExactNamed: the walk: the law answers true at every step that came in, and writes nothing that was there. -/
import Derived.Test.YtlpbiigiecpknaaNC
namespace Go.Proofs.Ytlpbiigiecpknaa
open Go.RowKit Go.Deep Go.Maps

theorem RowI.of_own' {w : World} {B k : Nat} {a : Option Addr} {l : List Int} (h : OwnI w B (.slice a l.length k) l) : ∃ b, RowI w a b l.length ∧ B ≤ b := by
  by_cases h0 : 0 < l.length
  · obtain ⟨b, h1, h2⟩ := RowI.of_own h
    exact ⟨b, h1, h2 h0⟩
  · exact ⟨B, fun h => absurd h h0, Nat.le_refl _⟩

theorem Marked2.step {nl b1 nc b2 : Nat} {w w' : World} (h : Marked2 nl b1 nc b2 w w') : ∃ w1 r1 r2, w.grownBy w1 r1 ∧ w1.grownBy w' r2 ∧ (∀ j, r1 = some j → j = b1) ∧ (∀ j, r2 = some j → j = b2) := by
  obtain ⟨w1, h1, h2⟩ := h
  exact ⟨w1, _, _, h1, h2, fun j e => by split at e <;> simp_all, fun j e => by split at e <;> simp_all⟩

set_option maxRecDepth 100000 in
set_option maxHeartbeats 4000000 in
theorem exactNamed_walk (th kind id to' cat : Int) (d : ByteArray) (bl : Int) (al : Option Addr) (nl kl : Nat) (fl gl : Nat → Int) (bc : Int) (ac : Option Addr) (nc kc : Nat) (fc gc : Nat → Int) (w : World) (hd : d.size ≤ maxLen) (hnl : nl ≤ maxLen) (hnc : nc ≤ maxLen) (hcl : CatsAt w al nl fl gl) (hcc : CatsAt w ac nc fc gc) :
    Calls Try.prog 5 #[.agg #[.int .i64 th, .int .i64 kind, .int .i64 id, .int .i64 to', .int .i64 cat, .string d, .int .i64 bl, .slice al nl kl, .int .i64 bc, .slice ac nc kc]] w fun e w' => e = .returned (.bool true) ∧ Below w.heap.size w w' := by
  have L0 := (Below.refl _ w).alloc (Nat.le_refl _) (.cells #[.int .i64 th, .int .i64 kind, .int .i64 id, .int .i64 to', .int .i64 cat, .string d, .int .i64 bl, .slice al nl kl, .int .i64 bc, .slice ac nc kc] 35)
  have A0 := Blk.new w (.cells #[.int .i64 th, .int .i64 kind, .int .i64 id, .int .i64 to', .int .i64 cat, .string d, .int .i64 bl, .slice al nl kl, .int .i64 bc, .slice ac nc kc] 35)
  have hlen := namedL_len (stepOk th kind id to' cat d bl nl fl gl bc nc fc gc) id to'
  have IN : Hid (∀ (v : World) (a : Option Addr) (k : Nat) (a' : Option Addr) (k' : Nat), CatsAt v a nl fl gl → CatsAt v a' nc fc gc → Calls Try.prog 17 #[.agg #[.int .i64 th, .int .i64 kind, .int .i64 id, .int .i64 to', .int .i64 cat, .string d, .int .i64 bl, .slice a nl k, .int .i64 bc, .slice a' nc k']] v (NamedPost (namedL (stepOk th kind id to' cat d bl nl fl gl bc nc fc gc) id to') v)) := fun v a k a' k' h1 h2 => implNamed_any _ _ _ _ _ _ _ _ _ _ fl gl _ _ _ _ fc gc v hd hnl hnc h1 h2
  have SN : Hid (∀ (v : World) (a : Option Addr) (k : Nat) (a' : Option Addr) (k' : Nat), CatsAt v a nl fl gl → CatsAt v a' nc fc gc → Calls Try.prog 16 #[.agg #[.int .i64 th, .int .i64 kind, .int .i64 id, .int .i64 to', .int .i64 cat, .string d, .int .i64 bl, .slice a nl k, .int .i64 bc, .slice a' nc k']] v (NamedPost (namedL (stepOk th kind id to' cat d bl nl fl gl bc nc fc gc) id to') v)) := fun v a k a' k' h1 h2 => specNamed_any _ _ _ _ _ _ _ _ _ _ fl gl _ _ _ _ fc gc v hd hnl hnc h1 h2
  generalize namedL (stepOk th kind id to' cat d bl nl fl gl bc nc fc gc) id to' = l at *
  have hl : l.length ≤ maxLen := by unfold maxLen; omega
  have hl' : l.length ≤ 1048576 := by omega
  go_enter Try.func5, Try.ntmps5
  go_wp2_with fail
  refine (szStep_any _ _ _ _ _ _ _ _ _ _ _ _ _ _ _ _ hd hnl hnc (by omega) (by omega)).mono ?_
  rintro e w1 ⟨r, rfl, hr, hb1⟩
  have A1 := A0.below hb1
  have B1 : Below w.heap.size w w1 := L0.trans (hb1.mono L0.size)
  clear L0 A0 hb1
  rcases hr with rfl | ⟨r0, r1, md, m1, m2⟩
  · clear hcl hcc
    go_wp2
    go_ret
    exact ⟨rfl, B1⟩
  · have C1 := hcl.below B1
    have C2 := hcc.below B1
    obtain ⟨x0, x1, x2, x3, x4, x5, x6, x7, x8, x9⟩ := A1.ten
    go_wp2_with fail
    refine (toStep_any _ _ _ _ _ _ _ _ _ _ fl gl _ _ _ _ fc gc _ m1 m2 C1 C2).mono ?_
    rintro e w2 ⟨c1, c2, rfl, s1, s2, hb2⟩
    go_wp2_with fail
    refine (SN.out _ _ _ _ _ (CatsAt.row s1) (CatsAt.row s2)).mono ?_
    rintro e V ⟨pa, pk, rfl, po, hb3⟩
    have pc : IntsAt V pa l.length (numAt l) := po.lies.ints
    have A3 := (A1.below hb2).below hb3
    have B3 : Below w.heap.size w V := (B1.trans (hb2.mono B1.size)).trans (hb3.mono (Nat.le_trans B1.size hb2.size))
    clear x0 x1 x2 x3 x4 x5 x6 x7 x8 x9 s1 s2 hb2 hb3 B1 C1 C2 A1 SN po
    have C1 := hcl.below B3
    have C2 := hcc.below B3
    clear hcl hcc
    obtain ⟨x0, x1, x2, x3, x4, x5, x6, x7, x8, x9⟩ := A3.ten
    go_wp2_with fail
    refine (toStep_new _ _ _ _ _ _ _ _ _ _ fl gl _ _ _ _ fc gc _ m1 m2 C1 C2).mono ?_
    rintro e w4 ⟨c1, c2, rfl, g1, g2, s1, s2, hb4⟩
    have hb5 := (Below.refl _ w4).alloc (Nat.le_refl _) (.cells #[.int .i64 th, .int .i64 kind, .int .i64 id, .int .i64 to', .int .i64 cat, .string d, .int .i64 bl, .slice (some ⟨c1, 0, none⟩) nl nl, .int .i64 bc, .slice (some ⟨c2, 0, none⟩) nc nc] 42)
    have X5 := Blk.new w4 (.cells #[.int .i64 th, .int .i64 kind, .int .i64 id, .int .i64 to', .int .i64 cat, .string d, .int .i64 bl, .slice (some ⟨c1, 0, none⟩) nl nl, .int .i64 bc, .slice (some ⟨c2, 0, none⟩) nc nc] 42)
    have T5 : Below V.heap.size V (w4.alloc (.cells #[.int .i64 th, .int .i64 kind, .int .i64 id, .int .i64 to', .int .i64 cat, .string d, .int .i64 bl, .slice (some ⟨c1, 0, none⟩) nl nl, .int .i64 bc, .slice (some ⟨c2, 0, none⟩) nc nc] 42)) := hb4.alloc hb4.size _
    have l2 := s2.lt
    have R1 := (RowAt.of_row s1).below hb5
    have R2 := (RowAt.of_row s2).below hb5
    have E1 := (CatsAt.row s1).below hb5
    have E2 := (CatsAt.row s2).below hb5
    have s5 : w4.heap.size + 1 = (w4.alloc (.cells #[.int .i64 th, .int .i64 kind, .int .i64 id, .int .i64 to', .int .i64 cat, .string d, .int .i64 bl, .slice (some ⟨c1, 0, none⟩) nl nl, .int .i64 bc, .slice (some ⟨c2, 0, none⟩) nc nc] 42)).heap.size := by simp
    clear x0 x1 x2 x3 x4 x5 x6 x7 x8 x9 hb4 hb5 s1 s2
    obtain ⟨x0, x1, x2, x3, x4, x5, x6, x7, x8, x9⟩ := X5.ten
    go_wp2_with fail
    refine (IN.out _ _ _ _ _ E1 E2).mono ?_
    rintro e w6 ⟨qa, qk, rfl, qo, hb6⟩
    obtain ⟨bg, RG, gbg⟩ := RowI.of_own' qo
    have qc : IntsAt w6 qa l.length (numAt l) := qo.lies.ints
    rw [← s5] at gbg
    have T6 : Below V.heap.size V w6 := T5.trans (hb6.mono T5.size)
    have X6 := X5.below hb6
    have R16 := R1.below hb6
    have R26 := R2.below hb6
    have E16 := E1.below hb6
    have E26 := E2.below hb6
    have z6 : w4.heap.size + 1 ≤ w6.heap.size := by rw [s5]; exact hb6.size
    clear x0 x1 x2 x3 x4 x5 x6 x7 x8 x9 X5 T5 R1 R2 E1 E2 qo s5 hb6
    go_wp2_with fail
    refine (eqInt64S_true _ _ _ _ _ (numAt l) _ hl qc (pc.below T6)).mono ?_
    rintro e w7 ⟨rfl, hb7⟩
    have T7 : Below V.heap.size V w7.drew := (T6.trans (hb7.mono T6.size)).drew
    have Xd : Blk w7.drew w4.heap.size (.cells #[.int .i64 th, .int .i64 kind, .int .i64 id, .int .i64 to', .int .i64 cat, .string d, .int .i64 bl, .slice (some ⟨c1, 0, none⟩) nl nl, .int .i64 bc, .slice (some ⟨c2, 0, none⟩) nc nc] 42) := X6.below hb7.drew
    have Ad : Blk w7.drew w.heap.size (.cells #[.int .i64 th, .int .i64 kind, .int .i64 id, .int .i64 to', .int .i64 cat, .string d, .int .i64 bl, .slice al nl kl, .int .i64 bc, .slice ac nc kc] 35) := A3.below T7
    have R17 : RowAt w7.drew (some ⟨c1, 0, none⟩) c1 nl := R16.below hb7.drew
    have R27 : RowAt w7.drew (some ⟨c2, 0, none⟩) c2 nc := R26.below hb7.drew
    have E17 : CatsAt w7.drew (some ⟨c1, 0, none⟩) nl fl gl := E16.below hb7.drew
    have E27 : CatsAt w7.drew (some ⟨c2, 0, none⟩) nc fc gc := E26.below hb7.drew
    have RG7 : RowI w7.drew qa bg l.length := RG.below hb7.drew
    have qc7 : IntsAt w7.drew qa l.length (numAt l) := qc.below hb7.drew
    have C17 := C1.below T7
    have C27 := C2.below T7
    have z7 : w4.heap.size + 1 ≤ w7.drew.heap.size := Nat.le_trans z6 hb7.size
    obtain ⟨x0, x1, x2, x3, x4, x5, x6, x7, x8, x9⟩ := (show Blk w7 w.heap.size (.cells #[.int .i64 th, .int .i64 kind, .int .i64 id, .int .i64 to', .int .i64 cat, .string d, .int .i64 bl, .slice al nl kl, .int .i64 bc, .slice ac nc kc] 35) from Ad).ten
    obtain ⟨u0, u1, u2, u3, u4, u5, u6, u7, u8, u9⟩ := (show Blk w7 w4.heap.size (.cells #[.int .i64 th, .int .i64 kind, .int .i64 id, .int .i64 to', .int .i64 cat, .string d, .int .i64 bl, .slice (some ⟨c1, 0, none⟩) nl nl, .int .i64 bc, .slice (some ⟨c2, 0, none⟩) nc nc] 42) from Xd).ten
    clear X6 R16 R26 E16 E26 RG qc T6 hb7 z6
    go_wp2_with fail
    go_region_held3 (fun w' => w'.cell? ⟨w4.heap.size, 0, none⟩ = some (.int .i64 th) ∧ w'.cell? ⟨w4.heap.size, 1, none⟩ = some (.int .i64 kind) ∧ w'.cell? ⟨w4.heap.size, 2, none⟩ = some (.int .i64 id) ∧ w'.cell? ⟨w4.heap.size, 3, none⟩ = some (.int .i64 to') ∧ w'.cell? ⟨w4.heap.size, 4, none⟩ = some (.int .i64 cat) ∧ w'.cell? ⟨w4.heap.size, 5, none⟩ = some (.string d) ∧ w'.cell? ⟨w4.heap.size, 6, none⟩ = some (.int .i64 bl) ∧ w'.cell? ⟨w4.heap.size, 7, none⟩ = some (.slice (some ⟨c1, 0, none⟩) nl nl) ∧ w'.cell? ⟨w4.heap.size, 8, none⟩ = some (.int .i64 bc) ∧ w'.cell? ⟨w4.heap.size, 9, none⟩ = some (.slice (some ⟨c2, 0, none⟩) nc nc) ∧ w'.cell? ⟨w.heap.size, 0, none⟩ = some (.int .i64 th) ∧ w'.cell? ⟨w.heap.size, 1, none⟩ = some (.int .i64 kind) ∧ w'.cell? ⟨w.heap.size, 2, none⟩ = some (.int .i64 id) ∧ w'.cell? ⟨w.heap.size, 3, none⟩ = some (.int .i64 to') ∧ w'.cell? ⟨w.heap.size, 4, none⟩ = some (.int .i64 cat) ∧ w'.cell? ⟨w.heap.size, 5, none⟩ = some (.string d) ∧ w'.cell? ⟨w.heap.size, 6, none⟩ = some (.int .i64 bl) ∧ w'.cell? ⟨w.heap.size, 7, none⟩ = some (.slice al nl kl) ∧ w'.cell? ⟨w.heap.size, 8, none⟩ = some (.int .i64 bc) ∧ w'.cell? ⟨w.heap.size, 9, none⟩ = some (.slice ac nc kc)) (go_keep)
      (first
        | (go_at_call 13; refine (toStep_any _ _ _ _ _ _ _ _ _ _ fl gl _ _ _ _ fc gc _ m1 m2 C17 C27).mono ?_; rintro e w8 ⟨d1, d2, rfl, s1, s2, hb8⟩; obtain ⟨p0, p1, p2, p3, p4, p5, p6, p7, p8, p9⟩ := (Ad.below hb8).ten; obtain ⟨q0, q1, q2, q3, q4, q5, q6, q7, q8, q9⟩ := (Xd.below hb8).ten)
        | (go_at_call 15; refine (eqStep_true _ _ _ _ _ _ _ _ _ _ fl gl _ _ _ _ fc gc _ _ _ _ _ hnl hnc (E17.below hb8) (E27.below hb8) (CatsAt.row s1) (CatsAt.row s2)).mono ?_; rintro e w9 ⟨rfl, hb9⟩; obtain ⟨i0, i1, i2, i3, i4, i5, i6, i7, i8, i9⟩ := ((Ad.below hb8).below hb9).ten; obtain ⟨j0, j1, j2, j3, j4, j5, j6, j7, j8, j9⟩ := ((Xd.below hb8).below hb9).ten))
    have T9 : Below V.heap.size V w9 := (T7.trans (hb8.mono T7.size)).trans (hb9.mono (Nat.le_trans T7.size hb8.size))
    have X9 := (Xd.below hb8).below hb9
    have R19 := (R17.below hb8).below hb9
    have R29 := (R27.below hb8).below hb9
    have RG9 := (RG7.below hb8).below hb9
    have qc9 := (qc7.below hb8).below hb9
    have z9 : w4.heap.size + 1 ≤ w9.heap.size := Nat.le_trans z7 (Nat.le_trans hb8.size hb9.size)
    clear p0 p1 p2 p3 p4 p5 p6 p7 p8 p9 q0 q1 q2 q3 q4 q5 q6 q7 q8 q9 i0 i1 i2 i3 i4 i5 i6 i7 i8 i9 j0 j1 j2 j3 j4 j5 j6 j7 j8 j9 x0 x1 x2 x3 x4 x5 x6 x7 x8 x9 u0 u1 u2 u3 u4 u5 u6 u7 u8 u9 C17 C27 E17 E27 R17 R27 RG7 qc7 s1 s2 Ad Xd hb8 hb9 T7 z7
    obtain ⟨x0, x1, x2, x3, x4, x5, x6, x7, x8, x9⟩ := X9.ten
    go_wp2_with fail
    refine (markStep_any _ _ _ _ _ _ _ _ _ _ _ _ _ _ c1 c2 _ _ m1 m2 (by omega) (by omega) R19 R29 (fun _ => by omega) (by omega)).mono ?_
    rintro e w10 ⟨k, rfl, hk, hM⟩
    obtain ⟨wm, row1, row2, G1, G2, hr1, hr2⟩ := hM.step
    have T10 : Below V.heap.size V w10 := (T9.grown G1 T9.size (fun j e => by rw [hr1 j e]; exact g1)).grown G2 (Nat.le_trans T9.size G1.size) (fun j e => by rw [hr2 j e]; omega)
    have n1 : some bg ≠ row1 := fun e => by have := hr1 _ e.symm; omega
    have n2 : some bg ≠ row2 := fun e => by have := hr2 _ e.symm; omega
    have RG10 := (RG9.grown G1 n1).grown G2 n2
    have qc10 := (qc9.grown RG9 G1 (fun _ => n1)).grown (RG9.grown G1 n1) G2 (fun _ => n2)
    have k10 : ¬ (k < 0) := by omega
    clear x0 x1 x2 x3 x4 x5 x6 x7 x8 x9 hM G1 G2 hr1 hr2 n1 n2 RG9 qc9 X9 R19 R29 T9
    go_wp2_with fail
    refine (eqInt64S_true _ _ _ _ _ (numAt l) _ hl qc10 (pc.below T10)).mono ?_
    rintro e w11 ⟨rfl, hb11⟩
    have T11 : Below V.heap.size V w11 := T10.trans (hb11.mono T10.size)
    have RG11 := RG10.below hb11
    clear RG10 qc10 T10 hb11
    go_wp2_with fail
    refine (markInt64S_any _ bg _ _ _ _ hl' (by omega) (by omega) RG11).mono ?_
    rintro e w12 ⟨rfl, G12, MC⟩
    have gV : V.heap.size ≤ bg := by omega
    have T12 : Below V.heap.size V w12 := T11.grown G12 T11.size (fun j e => by cases e; exact gV)
    clear G12 RG11 T11
    go_wp2_with fail
    refine (heldInt64S_any _ _ _ _ _ hl' (by omega) (by omega) MC).mono ?_
    rintro e w13 ⟨rfl, rfl⟩
    have k13 : ¬ (1 + (l.length : Int) < 0) := by omega
    have A13 := A3.below T12
    obtain ⟨x0, x1, x2, x3, x4, x5, x6, x7, x8, x9⟩ := A13.ten
    go_wp2_with fail
    refine (toStep_any _ _ _ _ _ _ _ _ _ _ fl gl _ _ _ _ fc gc _ m1 m2 (C1.below T12) (C2.below T12)).mono ?_
    rintro e w14 ⟨e1, e2, rfl, s1, s2, hb14⟩
    have T14 : Below V.heap.size V w14 := T12.trans (hb14.mono T12.size)
    have MC14 := MC.below hb14
    clear x0 x1 x2 x3 x4 x5 x6 x7 x8 x9 A13 T12 MC hb14
    go_wp2_with fail
    refine (IN.out _ _ _ _ _ (CatsAt.row s1) (CatsAt.row s2)).mono ?_
    rintro e w15 ⟨ra, rk, rfl, ro, hb15⟩
    have rc : IntsAt w15 ra l.length (numAt l) := ro.lies.ints
    have T15 : Below V.heap.size V w15 := T14.trans (hb15.mono T14.size)
    have MC15 := MC14.below hb15
    clear T14 MC14 hb15 ro s1 s2
    go_wp2_with fail
    refine (eqInt64S_true _ _ _ _ _ (numAt l) _ hl rc (pc.below T15)).mono ?_
    rintro e w16 ⟨rfl, hb16⟩
    have T16 : Below V.heap.size V w16 := T15.trans (hb16.mono T15.size)
    have MC16 := MC15.below hb16
    clear T15 MC15 hb16 rc
    go_wp2_with fail
    refine (heldInt64S_any _ _ _ _ _ hl' (by omega) (by omega) MC16).mono ?_
    rintro e w17 ⟨rfl, rfl⟩
    clear MC16 IN C1 C2 pc A3
    go_wp2
    go_ret
    exact ⟨rfl, B3.trans (T16.mono B3.size)⟩
end Go.Proofs.Ytlpbiigiecpknaa
