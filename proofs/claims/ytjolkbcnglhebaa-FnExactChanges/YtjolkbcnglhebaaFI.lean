/- FnExactChanges: the walk: the law answers true at all that came in, and writes nothing that was there. -/
import Derived.Test.YtjolkbcnglhebaaFE
namespace Go.Proofs.Ytjolkbcnglhebaa
open Go.RowKit Go.Deep Go.Maps

set_option maxRecDepth 100000 in
set_option maxHeartbeats 4000000 in
theorem exactChanges_walk (id made : Int) (b1 : Int) (a1 : Option Addr) (n1 k1 : Nat) (f1 g1 : Nat → Int) (b2 : Int) (a2 : Option Addr) (n2 k2 : Nat) (f2 g2 : Nat → Int) (a3 : Option Addr) (n3 k3 : Nat) (h : Nat → Int) (bl : Int) (al : Option Addr) (nl kl : Nat) (fl gl : Nat → Int) (w : World) (hn1 : n1 ≤ maxLen) (hn2 : n2 ≤ maxLen) (hn3 : n3 ≤ maxLen) (hc1 : CatsAt w a1 n1 f1 g1) (hc2 : CatsAt w a2 n2 f2 g2) (hc3 : IntsAt w a3 n3 h) (hnl : nl ≤ maxLen) (hcl : CatsAt w al nl fl gl) :
    Calls Try.prog 8 #[.agg #[.int .i64 id, .int .i64 b1, .slice a1 n1 k1, .int .i64 b2, .slice a2 n2 k2, .slice a3 n3 k3, .int .i64 made], .agg #[.int .i64 bl, .slice al nl kl]] w fun e w' => e = .returned (.bool true) ∧ Below w.heap.size w w' := by
  have L0 : Below w.heap.size w ((w.alloc (.cells #[.int .i64 id, .int .i64 b1, .slice a1 n1 k1, .int .i64 b2, .slice a2 n2 k2, .slice a3 n3 k3, .int .i64 made] 52)).alloc (.cells #[.int .i64 bl, .slice al nl kl] 45)) := (((Below.refl _ w).alloc (Nat.le_refl _) (.cells #[.int .i64 id, .int .i64 b1, .slice a1 n1 k1, .int .i64 b2, .slice a2 n2 k2, .slice a3 n3 k3, .int .i64 made] 52)).alloc (by simp) (.cells #[.int .i64 bl, .slice al nl kl] 45))
  have A0s0 : Blk ((w.alloc (.cells #[.int .i64 id, .int .i64 b1, .slice a1 n1 k1, .int .i64 b2, .slice a2 n2 k2, .slice a3 n3 k3, .int .i64 made] 52)).alloc (.cells #[.int .i64 bl, .slice al nl kl] 45)) (w.heap.size) (.cells #[.int .i64 id, .int .i64 b1, .slice a1 n1 k1, .int .i64 b2, .slice a2 n2 k2, .slice a3 n3 k3, .int .i64 made] 52) := by have := (Blk.new w (.cells #[.int .i64 id, .int .i64 b1, .slice a1 n1 k1, .int .i64 b2, .slice a2 n2 k2, .slice a3 n3 k3, .int .i64 made] 52)).alloc (.cells #[.int .i64 bl, .slice al nl kl] 45); simpa using this
  have A1s0 : Blk ((w.alloc (.cells #[.int .i64 id, .int .i64 b1, .slice a1 n1 k1, .int .i64 b2, .slice a2 n2 k2, .slice a3 n3 k3, .int .i64 made] 52)).alloc (.cells #[.int .i64 bl, .slice al nl kl] 45)) (w.heap.size + 1) (.cells #[.int .i64 bl, .slice al nl kl] 45) := by have := Blk.new (w.alloc (.cells #[.int .i64 id, .int .i64 b1, .slice a1 n1 k1, .int .i64 b2, .slice a2 n2 k2, .slice a3 n3 k3, .int .i64 made] 52)) (.cells #[.int .i64 bl, .slice al nl kl] 45); simpa using this
  go_enter Try.func8, Try.ntmps8
  go_wp2_with fail
  refine (szThread_any _ _ _ _ _ _ _ _ _ _ _ _ _ _ _ hn1 hn2 hn3 (by omega) (by omega)).mono ?_
  rintro e w1 ⟨r0, rfl, s0, hb1⟩
  have A0s1 := A0s0.below hb1
  have A1s1 := A1s0.below hb1
  have L1 : Below w.heap.size w w1 := L0.trans (hb1.mono L0.size)
  clear A0s0 A1s0 L0
  rcases s0 with rfl | ⟨u0, v0, m1, m2, m3⟩
  · go_wp2
    go_ret
    exact ⟨rfl, L1⟩
  obtain ⟨cA0x0, cA0x1, cA0x2, cA0x3, cA0x4, cA0x5, cA0x6⟩ := A0s1.seven
  obtain ⟨cA1x0, cA1x1⟩ := A1s1.two
  go_wp2_with fail
  refine (szLabel_any _ _ _ _ _ _ hnl u0 (by omega)).mono ?_
  rintro e w2 ⟨rfl, hb2⟩
  have A0s2 := A0s1.below hb2
  have A1s2 := A1s1.below hb2
  have L2 : Below w.heap.size w w2 := L1.trans (hb2.mono L1.size)
  clear A0s1 A1s1 L1 cA0x0 cA0x1 cA0x2 cA0x3 cA0x4 cA0x5 cA0x6 cA1x0 cA1x1
  have s1 := szOf_cases nl r0 u0 (by omega)
  generalize szOf nl r0 = r1 at *
  rcases s1 with rfl | ⟨u1, v1, ml⟩
  · go_wp2
    go_ret
    exact ⟨rfl, L2⟩
  have O0q0 : CatsAt w2.drew a1 n1 f1 g1 := hc1.below L2.drew
  have O0q1 : CatsAt w2.drew a2 n2 f2 g2 := hc2.below L2.drew
  have O0q2 : IntsAt w2.drew a3 n3 h := hc3.below L2.drew
  have O1q0 : CatsAt w2.drew al nl fl gl := hcl.below L2.drew
  have A0d : Blk w2.drew (w.heap.size) (.cells #[.int .i64 id, .int .i64 b1, .slice a1 n1 k1, .int .i64 b2, .slice a2 n2 k2, .slice a3 n3 k3, .int .i64 made] 52) := A0s2
  have A1d : Blk w2.drew (w.heap.size + 1) (.cells #[.int .i64 bl, .slice al nl kl] 45) := A1s2
  obtain ⟨cA0x0, cA0x1, cA0x2, cA0x3, cA0x4, cA0x5, cA0x6⟩ := A0s2.seven
  obtain ⟨cA1x0, cA1x1⟩ := A1s2.two
  go_wp2_with fail
  go_region_held3 (fun w' => w'.cell? ⟨w.heap.size, 0, none⟩ = some (.int .i64 id) ∧ w'.cell? ⟨w.heap.size, 1, none⟩ = some (.int .i64 b1) ∧ w'.cell? ⟨w.heap.size, 2, none⟩ = some (.slice a1 n1 k1) ∧ w'.cell? ⟨w.heap.size, 3, none⟩ = some (.int .i64 b2) ∧ w'.cell? ⟨w.heap.size, 4, none⟩ = some (.slice a2 n2 k2) ∧ w'.cell? ⟨w.heap.size, 5, none⟩ = some (.slice a3 n3 k3) ∧ w'.cell? ⟨w.heap.size, 6, none⟩ = some (.int .i64 made) ∧ w'.cell? ⟨w.heap.size + 1, 0, none⟩ = some (.int .i64 bl) ∧ w'.cell? ⟨w.heap.size + 1, 1, none⟩ = some (.slice al nl kl)) (first | go_keep | (simp only [*, and_self]))
    (first
      | (go_at_call 26; refine (specChanges_any _ _ _ _ _ _ f1 g1 _ _ _ _ f2 g2 _ _ _ h _ _ _ _ fl gl _ hn1 hn2 hn3 ((CatsAt.row c1v1).below hv2) ((CatsAt.row c1v2).below hv2) ((IntsAt.row c1v3).below hv2) hnl (CatsAt.row c2v1)).mono ?_; rintro e v3 ⟨rfl, hv3⟩; obtain ⟨y3A0x0, y3A0x1, y3A0x2, y3A0x3, y3A0x4, y3A0x5, y3A0x6⟩ := (((A0d.below hv1).below hv2).below hv3).seven; obtain ⟨y3A1x0, y3A1x1⟩ := (((A1d.below hv1).below hv2).below hv3).two)
      | (go_at_call 29; have hq := hv1; clear hq; refine (toLabel_any _ _ _ _ fl gl _ ml (O1q0.below hv1)).mono ?_; rintro e v2 ⟨d2v1, rfl, _, c2v1, hv2⟩; obtain ⟨y2A0x0, y2A0x1, y2A0x2, y2A0x3, y2A0x4, y2A0x5, y2A0x6⟩ := ((A0d.below hv1).below hv2).seven; obtain ⟨y2A1x0, y2A1x1⟩ := ((A1d.below hv1).below hv2).two)
      | (go_at_call 34; refine (toThread_any _ _ _ _ _ _ f1 g1 _ _ _ _ f2 g2 _ _ _ h _ m1 m2 m3 O0q0 O0q1 O0q2).mono ?_; rintro e v1 ⟨d1v1, d1v2, d1v3, rfl, c1v1, c1v2, c1v3, hv1⟩; obtain ⟨y1A0x0, y1A0x1, y1A0x2, y1A0x3, y1A0x4, y1A0x5, y1A0x6⟩ := (A0d.below hv1).seven; obtain ⟨y1A1x0, y1A1x1⟩ := (A1d.below hv1).two))
  have L3 : Below w.heap.size w v3 := (((L2.drew.trans (hv1.mono (L2.size))).trans (hv2.mono (Nat.le_trans (L2.size) hv1.size))).trans (hv3.mono (Nat.le_trans (Nat.le_trans (L2.size) hv1.size) hv2.size)))
  have A0s3 := (((A0d.below hv1).below hv2).below hv3)
  have A1s3 := (((A1d.below hv1).below hv2).below hv3)
  clear cA0x0 cA0x1 cA0x2 cA0x3 cA0x4 cA0x5 cA0x6 cA1x0 cA1x1 A0s2 A1s2 A0d A1d L2 O0q0 O0q1 O0q2 O1q0 y1A0x0 y1A0x1 y1A0x2 y1A0x3 y1A0x4 y1A0x5 y1A0x6 y1A1x0 y1A1x1 y2A0x0 y2A0x1 y2A0x2 y2A0x3 y2A0x4 y2A0x5 y2A0x6 y2A1x0 y2A1x1 y3A0x0 y3A0x1 y3A0x2 y3A0x3 y3A0x4 y3A0x5 y3A0x6 y3A1x0 y3A1x1 c1v1 c1v2 c1v3 c2v1 hv1 hv2 hv3
  obtain ⟨cA0x0, cA0x1, cA0x2, cA0x3, cA0x4, cA0x5, cA0x6⟩ := A0s3.seven
  obtain ⟨cA1x0, cA1x1⟩ := A1s3.two
  go_wp2_with fail
  refine (toThread_any _ _ _ _ _ _ f1 g1 _ _ _ _ f2 g2 _ _ _ h _ m1 m2 m3 (hc1.below L3) (hc2.below L3) (hc3.below L3)).mono ?_
  rintro e x0 ⟨e0v1, e0v2, e0v3, rfl, t0v1, t0v2, t0v3, hx0⟩
  have A0s4 := A0s3.below hx0
  have A1s4 := A1s3.below hx0
  have L4 : Below w.heap.size w x0 := L3.trans (hx0.mono L3.size)
  clear A0s3 A1s3 L3 cA0x0 cA0x1 cA0x2 cA0x3 cA0x4 cA0x5 cA0x6 cA1x0 cA1x1
  have K0 := (Below.refl _ x0).alloc (Nat.le_refl _) (.cells #[.int .i64 id, .int .i64 b1, .slice (some ⟨e0v1, 0, none⟩) n1 n1, .int .i64 b2, .slice (some ⟨e0v2, 0, none⟩) n2 n2, .slice (some ⟨e0v3, 0, none⟩) n3 n3, .int .i64 made] 39)
  have R0q0s4 := CatsAt.row t0v1
  have R0q1s4 := CatsAt.row t0v2
  have R0q2s4 := IntsAt.row t0v3
  clear t0v1 t0v2 t0v3 hx0
  have A0s5 := A0s4.below K0
  have A1s5 := A1s4.below K0
  have R0q0s5 := R0q0s4.below K0
  have R0q1s5 := R0q1s4.below K0
  have R0q2s5 := R0q2s4.below K0
  have L5 : Below w.heap.size w (x0.alloc (.cells #[.int .i64 id, .int .i64 b1, .slice (some ⟨e0v1, 0, none⟩) n1 n1, .int .i64 b2, .slice (some ⟨e0v2, 0, none⟩) n2 n2, .slice (some ⟨e0v3, 0, none⟩) n3 n3, .int .i64 made] 39)) := L4.trans (K0.mono L4.size)
  clear A0s4 A1s4 R0q0s4 R0q1s4 R0q2s4 L4
  have X0s5 := Blk.new x0 (.cells #[.int .i64 id, .int .i64 b1, .slice (some ⟨e0v1, 0, none⟩) n1 n1, .int .i64 b2, .slice (some ⟨e0v2, 0, none⟩) n2 n2, .slice (some ⟨e0v3, 0, none⟩) n3 n3, .int .i64 made] 39)
  clear K0
  obtain ⟨cA0x0, cA0x1, cA0x2, cA0x3, cA0x4, cA0x5, cA0x6⟩ := A0s5.seven
  obtain ⟨cA1x0, cA1x1⟩ := A1s5.two
  go_wp2_with fail
  refine (toLabel_any _ _ _ _ fl gl _ ml (hcl.below L5)).mono ?_
  rintro e x1 ⟨e1v1, rfl, _, t1v1, hx1⟩
  have A0s6 := A0s5.below hx1
  have A1s6 := A1s5.below hx1
  have R0q0s6 := R0q0s5.below hx1
  have R0q1s6 := R0q1s5.below hx1
  have R0q2s6 := R0q2s5.below hx1
  have X0s6 := X0s5.below hx1
  have L6 : Below w.heap.size w x1 := L5.trans (hx1.mono L5.size)
  clear A0s5 A1s5 R0q0s5 R0q1s5 R0q2s5 X0s5 L5 cA0x0 cA0x1 cA0x2 cA0x3 cA0x4 cA0x5 cA0x6 cA1x0 cA1x1
  have K1 := (Below.refl _ x1).alloc (Nat.le_refl _) (.cells #[.int .i64 bl, .slice (some ⟨e1v1, 0, none⟩) nl nl] 26)
  have R1q0s6 := CatsAt.row t1v1
  clear t1v1 hx1
  have A0s7 := A0s6.below K1
  have A1s7 := A1s6.below K1
  have R0q0s7 := R0q0s6.below K1
  have R0q1s7 := R0q1s6.below K1
  have R0q2s7 := R0q2s6.below K1
  have X0s7 := X0s6.below K1
  have R1q0s7 := R1q0s6.below K1
  have L7 : Below w.heap.size w (x1.alloc (.cells #[.int .i64 bl, .slice (some ⟨e1v1, 0, none⟩) nl nl] 26)) := L6.trans (K1.mono L6.size)
  clear A0s6 A1s6 R0q0s6 R0q1s6 R0q2s6 X0s6 R1q0s6 L6
  have X1s7 := Blk.new x1 (.cells #[.int .i64 bl, .slice (some ⟨e1v1, 0, none⟩) nl nl] 26)
  clear K1
  obtain ⟨cX0x0, cX0x1, cX0x2, cX0x3, cX0x4, cX0x5, cX0x6⟩ := X0s7.seven
  obtain ⟨cX1x0, cX1x1⟩ := X1s7.two
  go_wp2_with fail
  refine (implChanges_any _ _ _ _ _ _ f1 g1 _ _ _ _ f2 g2 _ _ _ h _ _ _ _ fl gl _ hn1 hn2 hn3 R0q0s7 R0q1s7 R0q2s7 hnl R1q0s7).mono ?_
  rintro e g ⟨rfl, hg⟩
  have A0s8 := A0s7.below hg
  have A1s8 := A1s7.below hg
  have R0q0s8 := R0q0s7.below hg
  have R0q1s8 := R0q1s7.below hg
  have R0q2s8 := R0q2s7.below hg
  have X0s8 := X0s7.below hg
  have R1q0s8 := R1q0s7.below hg
  have X1s8 := X1s7.below hg
  have L8 : Below w.heap.size w g := L7.trans (hg.mono L7.size)
  clear A0s7 A1s7 R0q0s7 R0q1s7 R0q2s7 X0s7 R1q0s7 X1s7 L7 cX0x0 cX0x1 cX0x2 cX0x3 cX0x4 cX0x5 cX0x6 cX1x0 cX1x1
  clear hg
  have O0 : CatsAt g.drew a1 n1 f1 g1 := hc1.below L8.drew
  have O1 : CatsAt g.drew a2 n2 f2 g2 := hc2.below L8.drew
  have O2 : IntsAt g.drew a3 n3 h := hc3.below L8.drew
  have E0 : CatsAt g.drew (some ⟨e0v1, 0, none⟩) n1 f1 g1 := R0q0s8.below (Below.refl _ g).drew
  have E1 : CatsAt g.drew (some ⟨e0v2, 0, none⟩) n2 f2 g2 := R0q1s8.below (Below.refl _ g).drew
  have E2 : IntsAt g.drew (some ⟨e0v3, 0, none⟩) n3 h := R0q2s8.below (Below.refl _ g).drew
  have A0d := A0s8.below (Below.refl _ g).drew
  have A1d := A1s8.below (Below.refl _ g).drew
  have R0q0d := R0q0s8.below (Below.refl _ g).drew
  have R0q1d := R0q1s8.below (Below.refl _ g).drew
  have R0q2d := R0q2s8.below (Below.refl _ g).drew
  have X0d := X0s8.below (Below.refl _ g).drew
  have R1q0d := R1q0s8.below (Below.refl _ g).drew
  have X1d := X1s8.below (Below.refl _ g).drew
  obtain ⟨cA0x0, cA0x1, cA0x2, cA0x3, cA0x4, cA0x5, cA0x6⟩ := A0s8.seven
  obtain ⟨cX0x0, cX0x1, cX0x2, cX0x3, cX0x4, cX0x5, cX0x6⟩ := X0s8.seven
  go_wp2_with fail
  go_region_held3 (fun w' => w'.cell? ⟨w.heap.size, 0, none⟩ = some (.int .i64 id) ∧ w'.cell? ⟨w.heap.size, 1, none⟩ = some (.int .i64 b1) ∧ w'.cell? ⟨w.heap.size, 2, none⟩ = some (.slice a1 n1 k1) ∧ w'.cell? ⟨w.heap.size, 3, none⟩ = some (.int .i64 b2) ∧ w'.cell? ⟨w.heap.size, 4, none⟩ = some (.slice a2 n2 k2) ∧ w'.cell? ⟨w.heap.size, 5, none⟩ = some (.slice a3 n3 k3) ∧ w'.cell? ⟨w.heap.size, 6, none⟩ = some (.int .i64 made) ∧ w'.cell? ⟨x0.heap.size, 0, none⟩ = some (.int .i64 id) ∧ w'.cell? ⟨x0.heap.size, 1, none⟩ = some (.int .i64 b1) ∧ w'.cell? ⟨x0.heap.size, 2, none⟩ = some (.slice (some ⟨e0v1, 0, none⟩) n1 n1) ∧ w'.cell? ⟨x0.heap.size, 3, none⟩ = some (.int .i64 b2) ∧ w'.cell? ⟨x0.heap.size, 4, none⟩ = some (.slice (some ⟨e0v2, 0, none⟩) n2 n2) ∧ w'.cell? ⟨x0.heap.size, 5, none⟩ = some (.slice (some ⟨e0v3, 0, none⟩) n3 n3) ∧ w'.cell? ⟨x0.heap.size, 6, none⟩ = some (.int .i64 made)) (first | go_keep | (simp only [*, and_self]))
    (first
      | (go_at_call 34; refine (toThread_any _ _ _ _ _ _ f1 g1 _ _ _ _ f2 g2 _ _ _ h _ m1 m2 m3 O0 O1 O2).mono ?_; rintro e y ⟨z0d1, z0d2, z0d3, rfl, z0c1, z0c2, z0c3, hy⟩; obtain ⟨pA0x0, pA0x1, pA0x2, pA0x3, pA0x4, pA0x5, pA0x6⟩ := (A0d.below hy).seven; obtain ⟨pX0x0, pX0x1, pX0x2, pX0x3, pX0x4, pX0x5, pX0x6⟩ := (X0d.below hy).seven)
      | (go_at_call 35; refine (eqThread_true _ _ _ _ _ _ f1 g1 _ _ _ _ f2 g2 _ _ _ h _ _ _ _ _ _ _ hn1 hn2 hn3 (E0.below hy) (E1.below hy) (E2.below hy) (CatsAt.row z0c1) (CatsAt.row z0c2) (IntsAt.row z0c3)).mono ?_; rintro e z ⟨rfl, hz⟩; obtain ⟨rA0x0, rA0x1, rA0x2, rA0x3, rA0x4, rA0x5, rA0x6⟩ := ((A0d.below hy).below hz).seven; obtain ⟨rX0x0, rX0x1, rX0x2, rX0x3, rX0x4, rX0x5, rX0x6⟩ := ((X0d.below hy).below hz).seven))
  have L9 : Below w.heap.size w z := (L8.drew.trans (hy.mono L8.size)).trans (hz.mono (Nat.le_trans L8.size hy.size))
  have A0s9 := (A0d.below hy).below hz
  have A1s9 := (A1d.below hy).below hz
  have R0q0s9 := (R0q0d.below hy).below hz
  have R0q1s9 := (R0q1d.below hy).below hz
  have R0q2s9 := (R0q2d.below hy).below hz
  have X0s9 := (X0d.below hy).below hz
  have R1q0s9 := (R1q0d.below hy).below hz
  have X1s9 := (X1d.below hy).below hz
  clear A0s8 A1s8 R0q0s8 R0q1s8 R0q2s8 X0s8 R1q0s8 X1s8 A0d A1d R0q0d R0q1d R0q2d X0d R1q0d X1d L8 cA0x0 cA0x1 cA0x2 cA0x3 cA0x4 cA0x5 cA0x6 cX0x0 cX0x1 cX0x2 cX0x3 cX0x4 cX0x5 cX0x6 pA0x0 pA0x1 pA0x2 pA0x3 pA0x4 pA0x5 pA0x6 pX0x0 pX0x1 pX0x2 pX0x3 pX0x4 pX0x5 pX0x6 rA0x0 rA0x1 rA0x2 rA0x3 rA0x4 rA0x5 rA0x6 rX0x0 rX0x1 rX0x2 rX0x3 rX0x4 rX0x5 rX0x6 O0 O1 O2 E0 E1 E2 z0c1 z0c2 z0c3 hy hz
  obtain ⟨gg0, hgg⟩ : ∃ gg0, gg0 = z := ⟨_, rfl⟩
  subst hgg
  have O0 : CatsAt gg0.drew al nl fl gl := hcl.below L9.drew
  have E0 : CatsAt gg0.drew (some ⟨e1v1, 0, none⟩) nl fl gl := R1q0s9.below (Below.refl _ gg0).drew
  have A0d := A0s9.below (Below.refl _ gg0).drew
  have A1d := A1s9.below (Below.refl _ gg0).drew
  have R0q0d := R0q0s9.below (Below.refl _ gg0).drew
  have R0q1d := R0q1s9.below (Below.refl _ gg0).drew
  have R0q2d := R0q2s9.below (Below.refl _ gg0).drew
  have X0d := X0s9.below (Below.refl _ gg0).drew
  have R1q0d := R1q0s9.below (Below.refl _ gg0).drew
  have X1d := X1s9.below (Below.refl _ gg0).drew
  obtain ⟨cA1x0, cA1x1⟩ := A1s9.two
  obtain ⟨cX1x0, cX1x1⟩ := X1s9.two
  go_wp2_with fail
  go_region_held3 (fun w' => w'.cell? ⟨w.heap.size + 1, 0, none⟩ = some (.int .i64 bl) ∧ w'.cell? ⟨w.heap.size + 1, 1, none⟩ = some (.slice al nl kl) ∧ w'.cell? ⟨x1.heap.size, 0, none⟩ = some (.int .i64 bl) ∧ w'.cell? ⟨x1.heap.size, 1, none⟩ = some (.slice (some ⟨e1v1, 0, none⟩) nl nl)) (first | go_keep | (simp only [*, and_self]))
    (first
      | (go_at_call 29; refine (toLabel_any _ _ _ _ fl gl _ ml O0).mono ?_; rintro e y ⟨z1d1, rfl, _, z1c1, hy⟩; obtain ⟨pA1x0, pA1x1⟩ := (A1d.below hy).two; obtain ⟨pX1x0, pX1x1⟩ := (X1d.below hy).two)
      | (go_at_call 31; refine (eqLabel_true _ _ _ _ _ _ fl gl _ hnl (E0.below hy) (CatsAt.row z1c1)).mono ?_; rintro e z ⟨rfl, hz⟩; obtain ⟨rA1x0, rA1x1⟩ := ((A1d.below hy).below hz).two; obtain ⟨rX1x0, rX1x1⟩ := ((X1d.below hy).below hz).two))
  have L10 : Below w.heap.size w z := (L9.drew.trans (hy.mono L9.size)).trans (hz.mono (Nat.le_trans L9.size hy.size))
  have A0s10 := (A0d.below hy).below hz
  have A1s10 := (A1d.below hy).below hz
  have R0q0s10 := (R0q0d.below hy).below hz
  have R0q1s10 := (R0q1d.below hy).below hz
  have R0q2s10 := (R0q2d.below hy).below hz
  have X0s10 := (X0d.below hy).below hz
  have R1q0s10 := (R1q0d.below hy).below hz
  have X1s10 := (X1d.below hy).below hz
  clear A0s9 A1s9 R0q0s9 R0q1s9 R0q2s9 X0s9 R1q0s9 X1s9 A0d A1d R0q0d R0q1d R0q2d X0d R1q0d X1d L9 cA1x0 cA1x1 cX1x0 cX1x1 pA1x0 pA1x1 pX1x0 pX1x1 rA1x0 rA1x1 rX1x0 rX1x1 O0 E0 z1c1 hy hz
  obtain ⟨gg1, hgg⟩ : ∃ gg1, gg1 = z := ⟨_, rfl⟩
  subst hgg
  go_wp2
  go_ret
  exact ⟨rfl, L10⟩
end Go.Proofs.Ytjolkbcnglhebaa
