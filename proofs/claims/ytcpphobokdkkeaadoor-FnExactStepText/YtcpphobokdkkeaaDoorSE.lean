/- FnExactStepText: the walk. -/
import Derived.Test.YtcpphobokdkkeaaDoorSD
import Derived.Test.YtcpphobokdkkeaaDoorHF
import Derived.Deep.RegionHeld3
namespace Go.Proofs.YtcpphobokdkkeaaDoor
open Go.RowKit Go.Deep

set_option maxRecDepth 100000 in
set_option maxHeartbeats 4000000 in
theorem exactStepText_walk (th kind id to' cat : Int) (d : ByteArray) (bl : Int) (al : Option Addr) (nl kl : Nat) (fl gl : Nat → Int) (bc : Int) (ac : Option Addr) (nc kc : Nat) (fc gc : Nat → Int) (w : World) (hd : d.size ≤ maxLen) (hnl : nl ≤ maxLen) (hnc : nc ≤ maxLen) (hcl : CatsAt w al nl fl gl) (hcc : CatsAt w ac nc fc gc) (hT : Tab w) :
    Calls Tryd.prog 3 #[.agg #[.int .i64 th, .int .i64 kind, .int .i64 id, .int .i64 to', .int .i64 cat, .string d, .int .i64 bl, .slice al nl kl, .int .i64 bc, .slice ac nc kc]] w fun e w' => e = .returned (.bool true) ∧ Below w.heap.size w w' := by
  have L0 := (Below.refl _ w).alloc (Nat.le_refl _) (.cells #[.int .i64 th, .int .i64 kind, .int .i64 id, .int .i64 to', .int .i64 cat, .string d, .int .i64 bl, .slice al nl kl, .int .i64 bc, .slice ac nc kc] 26)
  have A0 := Blk.new w (.cells #[.int .i64 th, .int .i64 kind, .int .i64 id, .int .i64 to', .int .i64 cat, .string d, .int .i64 bl, .slice al nl kl, .int .i64 bc, .slice ac nc kc] 26)
  go_enter Tryd.func3, Tryd.ntmps3
  go_wp2_with fail
  refine (szStep_any _ _ _ _ _ _ _ _ _ _ _ _ _ _ _ _ hd hnl hnc (by omega) (by omega)).mono ?_
  rintro e w1 ⟨r, rfl, hr, hb1⟩
  have A1 := A0.below hb1
  have B1 : Below w.heap.size w w1 := L0.trans (hb1.mono L0.size)
  clear L0 A0 hb1
  rcases hr with rfl | ⟨r0, r1, md, m1, m2⟩
  · clear hcl hcc hT
    go_wp2
    go_ret
    exact ⟨rfl, B1⟩
  · have C1 := hcl.below B1
    have C2 := hcc.below B1
    obtain ⟨x0, x1, x2, x3, x4, x5, x6, x7, x8, x9⟩ := A1.ten
    go_wp2_with fail
    refine (toStep_any _ _ _ _ _ _ _ _ _ _ fl gl _ _ _ _ fc gc _ m1 m2 C1 C2).mono ?_
    rintro e w2 ⟨c1, c2, rfl, s1, s2, hb2⟩
    go_wp2_with fail
    refine (specStepText_any _ _ _ _ _ _ _ _ _ _ fl gl _ _ _ _ fc gc _ hd hnl hnc (CatsAt.row s1) (CatsAt.row s2)).mono ?_
    rintro e w3 ⟨rfl, hb3⟩
    have A3 := (A1.below hb2).below hb3
    have B3 : Below w.heap.size w w3 := (B1.trans (hb2.mono B1.size)).trans (hb3.mono (Nat.le_trans B1.size hb2.size))
    clear x0 x1 x2 x3 x4 x5 x6 x7 x8 x9 s1 s2 hb2 hb3 B1 C1 C2 A1
    have C1 := hcl.below B3
    have C2 := hcc.below B3
    obtain ⟨x0, x1, x2, x3, x4, x5, x6, x7, x8, x9⟩ := A3.ten
    go_wp2_with fail
    refine (toStep_any _ _ _ _ _ _ _ _ _ _ fl gl _ _ _ _ fc gc _ m1 m2 C1 C2).mono ?_
    rintro e w4 ⟨c1, c2, rfl, s1, s2, hb4⟩
    have hb5 := (Below.refl _ w4).alloc (Nat.le_refl _) (.cells #[.int .i64 th, .int .i64 kind, .int .i64 id, .int .i64 to', .int .i64 cat, .string d, .int .i64 bl, .slice (some ⟨c1, 0, none⟩) nl nl, .int .i64 bc, .slice (some ⟨c2, 0, none⟩) nc nc] 33)
    have X5 := Blk.new w4 (.cells #[.int .i64 th, .int .i64 kind, .int .i64 id, .int .i64 to', .int .i64 cat, .string d, .int .i64 bl, .slice (some ⟨c1, 0, none⟩) nl nl, .int .i64 bc, .slice (some ⟨c2, 0, none⟩) nc nc] 33)
    have A5 := (A3.below hb4).below hb5
    have B4 : Below w.heap.size w w4 := B3.trans (hb4.mono B3.size)
    clear x0 x1 x2 x3 x4 x5 x6 x7 x8 x9 C1 C2 B3 A3 hb4
    go_wp2_with fail
    refine (implStepText_any _ _ _ _ _ _ _ _ _ _ fl gl _ _ _ _ fc gc _ hd hnl hnc ((CatsAt.row s1).below hb5) ((CatsAt.row s2).below hb5) (hT.below (B4.trans (hb5.mono B4.size)))).mono ?_
    rintro e w6 ⟨rfl, hb6⟩
    have D6 : Below w4.heap.size w4 w6 := hb5.trans (hb6.mono (by simp))
    have X6 := X5.below hb6
    have A6 := A5.below hb6
    have B6 : Below w.heap.size w w6 := B4.trans (D6.mono B4.size)
    have C1 : CatsAt w6.drew al nl fl gl := hcl.below B6.drew
    have C2 : CatsAt w6.drew ac nc fc gc := hcc.below B6.drew
    have E1 : CatsAt w6.drew (some ⟨c1, 0, none⟩) nl fl gl := (CatsAt.row s1).below D6.drew
    have E2 : CatsAt w6.drew (some ⟨c2, 0, none⟩) nc fc gc := (CatsAt.row s2).below D6.drew
    have Xd : Blk w6.drew w4.heap.size (.cells #[.int .i64 th, .int .i64 kind, .int .i64 id, .int .i64 to', .int .i64 cat, .string d, .int .i64 bl, .slice (some ⟨c1, 0, none⟩) nl nl, .int .i64 bc, .slice (some ⟨c2, 0, none⟩) nc nc] 33) := X6
    have Ad : Blk w6.drew w.heap.size (.cells #[.int .i64 th, .int .i64 kind, .int .i64 id, .int .i64 to', .int .i64 cat, .string d, .int .i64 bl, .slice al nl kl, .int .i64 bc, .slice ac nc kc] 26) := A6
    obtain ⟨x0, x1, x2, x3, x4, x5, x6, x7, x8, x9⟩ := A6.ten
    obtain ⟨u0, u1, u2, u3, u4, u5, u6, u7, u8, u9⟩ := X6.ten
    clear s1 s2 hb5 hb6 D6 B4 hcl hcc X5 X6 A5 A6
    clear hT
    generalize stepA th kind id to' cat d bl nl fl gl bc nc fc gc = res at *
    go_wp2_with fail
    go_region_held3 (fun w' => w'.cell? ⟨w4.heap.size, 0, none⟩ = some (.int .i64 th) ∧ w'.cell? ⟨w4.heap.size, 1, none⟩ = some (.int .i64 kind) ∧ w'.cell? ⟨w4.heap.size, 2, none⟩ = some (.int .i64 id) ∧ w'.cell? ⟨w4.heap.size, 3, none⟩ = some (.int .i64 to') ∧ w'.cell? ⟨w4.heap.size, 4, none⟩ = some (.int .i64 cat) ∧ w'.cell? ⟨w4.heap.size, 5, none⟩ = some (.string d) ∧ w'.cell? ⟨w4.heap.size, 6, none⟩ = some (.int .i64 bl) ∧ w'.cell? ⟨w4.heap.size, 7, none⟩ = some (.slice (some ⟨c1, 0, none⟩) nl nl) ∧ w'.cell? ⟨w4.heap.size, 8, none⟩ = some (.int .i64 bc) ∧ w'.cell? ⟨w4.heap.size, 9, none⟩ = some (.slice (some ⟨c2, 0, none⟩) nc nc) ∧ w'.cell? ⟨w.heap.size, 0, none⟩ = some (.int .i64 th) ∧ w'.cell? ⟨w.heap.size, 1, none⟩ = some (.int .i64 kind) ∧ w'.cell? ⟨w.heap.size, 2, none⟩ = some (.int .i64 id) ∧ w'.cell? ⟨w.heap.size, 3, none⟩ = some (.int .i64 to') ∧ w'.cell? ⟨w.heap.size, 4, none⟩ = some (.int .i64 cat) ∧ w'.cell? ⟨w.heap.size, 5, none⟩ = some (.string d) ∧ w'.cell? ⟨w.heap.size, 6, none⟩ = some (.int .i64 bl) ∧ w'.cell? ⟨w.heap.size, 7, none⟩ = some (.slice al nl kl) ∧ w'.cell? ⟨w.heap.size, 8, none⟩ = some (.int .i64 bc) ∧ w'.cell? ⟨w.heap.size, 9, none⟩ = some (.slice ac nc kc)) (first | go_keep | (simp only [*, and_self]))
      (first
        | (go_at_call 7; refine (toStep_any _ _ _ _ _ _ _ _ _ _ fl gl _ _ _ _ fc gc _ m1 m2 C1 C2).mono ?_; rintro e w7 ⟨d1, d2, rfl, s1, s2, hb7⟩; obtain ⟨p0, p1, p2, p3, p4, p5, p6, p7, p8, p9⟩ := (Ad.below hb7).ten; obtain ⟨q0, q1, q2, q3, q4, q5, q6, q7, q8, q9⟩ := (Xd.below hb7).ten)
        | (go_at_call 9; refine (eqStep_true _ _ _ _ _ _ _ _ _ _ fl gl _ _ _ _ fc gc _ _ _ _ _ hnl hnc (E1.below hb7) (E2.below hb7) (CatsAt.row s1) (CatsAt.row s2)).mono ?_; rintro e w8 ⟨rfl, hb8⟩; obtain ⟨i0, i1, i2, i3, i4, i5, i6, i7, i8, i9⟩ := ((Ad.below hb7).below hb8).ten; obtain ⟨j0, j1, j2, j3, j4, j5, j6, j7, j8, j9⟩ := ((Xd.below hb7).below hb8).ten))
    have B8 : Below w.heap.size w w8 := (B6.drew.trans (hb7.mono B6.size)).trans (hb8.mono (Nat.le_trans B6.size hb7.size))
    clear p0 p1 p2 p3 p4 p5 p6 p7 p8 p9 q0 q1 q2 q3 q4 q5 q6 q7 q8 q9 i0 i1 i2 i3 i4 i5 i6 i7 i8 i9 j0 j1 j2 j3 j4 j5 j6 j7 j8 j9 x0 x1 x2 x3 x4 x5 x6 x7 x8 x9 u0 u1 u2 u3 u4 u5 u6 u7 u8 u9 C1 C2 E1 E2 s1 s2 Ad Xd
    go_wp2
    go_ret
    exact ⟨rfl, B8⟩
end Go.Proofs.YtcpphobokdkkeaaDoor
