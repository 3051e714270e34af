/- FnExactFlows: the walk: the law answers true at all that came in, and writes nothing that was there. -/
import Derived.Test.YtjolkbcnglhebaaFE
namespace Go.Proofs.Ytjolkbcnglhebaa
open Go.RowKit Go.Deep Go.Maps

set_option maxRecDepth 100000 in
set_option maxHeartbeats 4000000 in
theorem exactFlows_walk (ba : Int) (aa : Option Addr) (na ka : Nat) (fa ga : Nat → Int) (ao : Option Addr) (no ko : Nat) (ho : Nat → Int) (bb : Int) (ab : Option Addr) (nb kb : Nat) (fb gb : Nat → Int) (w : World) (hna : na ≤ maxLen) (hca : CatsAt w aa na fa ga) (hno : no ≤ maxLen) (hco : IntsAt w ao no ho) (hnb : nb ≤ maxLen) (hcb : CatsAt w ab nb fb gb) :
    Calls Try.prog 6 #[.agg #[.int .i64 ba, .slice aa na ka], .slice ao no ko, .agg #[.int .i64 bb, .slice ab nb kb]] w fun e w' => e = .returned (.bool true) ∧ Below w.heap.size w w' := by
  have L0 : Below w.heap.size w ((w.alloc (.cells #[.int .i64 ba, .slice aa na ka] 45)).alloc (.cells #[.int .i64 bb, .slice ab nb kb] 45)) := (((Below.refl _ w).alloc (Nat.le_refl _) (.cells #[.int .i64 ba, .slice aa na ka] 45)).alloc (by simp) (.cells #[.int .i64 bb, .slice ab nb kb] 45))
  have A0s0 : Blk ((w.alloc (.cells #[.int .i64 ba, .slice aa na ka] 45)).alloc (.cells #[.int .i64 bb, .slice ab nb kb] 45)) (w.heap.size) (.cells #[.int .i64 ba, .slice aa na ka] 45) := by have := (Blk.new w (.cells #[.int .i64 ba, .slice aa na ka] 45)).alloc (.cells #[.int .i64 bb, .slice ab nb kb] 45); simpa using this
  have A2s0 : Blk ((w.alloc (.cells #[.int .i64 ba, .slice aa na ka] 45)).alloc (.cells #[.int .i64 bb, .slice ab nb kb] 45)) (w.heap.size + 1) (.cells #[.int .i64 bb, .slice ab nb kb] 45) := by have := Blk.new (w.alloc (.cells #[.int .i64 ba, .slice aa na ka] 45)) (.cells #[.int .i64 bb, .slice ab nb kb] 45); simpa using this
  go_enter Try.func6, Try.ntmps6
  by_cases mo : no ≤ 1048576
  rotate_left
  · have mo' : (1048576 : Int) < (no : Int) := by omega
    go_wp2
    go_ret
    exact ⟨rfl, L0⟩
  have mo' : (no : Int) ≤ 1048576 := by omega
  go_wp2_with fail
  refine (szLabel_any _ _ _ _ _ _ hna (by omega) (by omega)).mono ?_
  rintro e w1 ⟨rfl, hb1⟩
  have A0s1 := A0s0.below hb1
  have A2s1 := A2s0.below hb1
  have L1 : Below w.heap.size w w1 := L0.trans (hb1.mono L0.size)
  clear A0s0 A2s0 L0
  have s0 := szOf_cases na 1048576 (by omega) (by omega)
  generalize szOf na 1048576 = r0 at *
  rcases s0 with rfl | ⟨u0, v0, ma⟩
  · go_wp2
    go_ret
    exact ⟨rfl, L1⟩
  obtain ⟨cA0x0, cA0x1⟩ := A0s1.two
  obtain ⟨cA2x0, cA2x1⟩ := A2s1.two
  go_wp2_with fail
  refine (szLabel_any _ _ _ _ _ _ hnb u0 (by omega)).mono ?_
  rintro e w2 ⟨rfl, hb2⟩
  have A0s2 := A0s1.below hb2
  have A2s2 := A2s1.below hb2
  have L2 : Below w.heap.size w w2 := L1.trans (hb2.mono L1.size)
  clear A0s1 A2s1 L1 cA0x0 cA0x1 cA2x0 cA2x1
  have s1 := szOf_cases nb r0 u0 (by omega)
  generalize szOf nb r0 = r1 at *
  rcases s1 with rfl | ⟨u1, v1, mb⟩
  · go_wp2
    go_ret
    exact ⟨rfl, L2⟩
  have O0q0 : CatsAt w2.drew aa na fa ga := hca.below L2.drew
  have O1q0 : IntsAt w2.drew ao no ho := hco.below L2.drew
  have O2q0 : CatsAt w2.drew ab nb fb gb := hcb.below L2.drew
  have A0d : Blk w2.drew (w.heap.size) (.cells #[.int .i64 ba, .slice aa na ka] 45) := A0s2
  have A2d : Blk w2.drew (w.heap.size + 1) (.cells #[.int .i64 bb, .slice ab nb kb] 45) := A2s2
  obtain ⟨cA0x0, cA0x1⟩ := A0s2.two
  obtain ⟨cA2x0, cA2x1⟩ := A2s2.two
  go_wp2_with fail
  go_region_held3 (fun w' => w'.cell? ⟨w.heap.size, 0, none⟩ = some (.int .i64 ba) ∧ w'.cell? ⟨w.heap.size, 1, none⟩ = some (.slice aa na ka) ∧ w'.cell? ⟨w.heap.size + 1, 0, none⟩ = some (.int .i64 bb) ∧ w'.cell? ⟨w.heap.size + 1, 1, none⟩ = some (.slice ab nb kb)) (first | go_keep | (simp only [*, and_self]))
    (first
      | (go_at_call 19; refine (specFlows_any _ _ _ _ fa ga _ _ _ ho _ _ _ _ fb gb _ hna hnb hno (((CatsAt.row c1v1).below hv2).below hv3) (CatsAt.row c3v1) ((IntsAt.row c2v1).below hv3)).mono ?_; rintro e v4 ⟨rfl, hv4⟩; obtain ⟨y4A0x0, y4A0x1⟩ := ((((A0d.below hv1).below hv2).below hv3).below hv4).two; obtain ⟨y4A2x0, y4A2x1⟩ := ((((A2d.below hv1).below hv2).below hv3).below hv4).two)
      | (go_at_call 29; have hq := hv2; clear hq; refine (toLabel_any _ _ _ _ fb gb _ mb ((O2q0.below hv1).below hv2)).mono ?_; rintro e v3 ⟨d3v1, rfl, _, c3v1, hv3⟩; obtain ⟨y3A0x0, y3A0x1⟩ := (((A0d.below hv1).below hv2).below hv3).two; obtain ⟨y3A2x0, y3A2x1⟩ := (((A2d.below hv1).below hv2).below hv3).two)
      | (go_at_call 30; have hq := hv1; clear hq; refine (toInt64S_any _ _ _ ho _ mo (O1q0.below hv1)).mono ?_; rintro e v2 ⟨rfl, c2v1, hv2⟩; obtain ⟨y2A0x0, y2A0x1⟩ := ((A0d.below hv1).below hv2).two; obtain ⟨y2A2x0, y2A2x1⟩ := ((A2d.below hv1).below hv2).two)
      | (go_at_call 29; refine (toLabel_any _ _ _ _ fa ga _ ma O0q0).mono ?_; rintro e v1 ⟨d1v1, rfl, _, c1v1, hv1⟩; obtain ⟨y1A0x0, y1A0x1⟩ := (A0d.below hv1).two; obtain ⟨y1A2x0, y1A2x1⟩ := (A2d.below hv1).two))
  have L3 : Below w.heap.size w v4 := ((((L2.drew.trans (hv1.mono (L2.size))).trans (hv2.mono (Nat.le_trans (L2.size) hv1.size))).trans (hv3.mono (Nat.le_trans (Nat.le_trans (L2.size) hv1.size) hv2.size))).trans (hv4.mono (Nat.le_trans (Nat.le_trans (Nat.le_trans (L2.size) hv1.size) hv2.size) hv3.size)))
  have A0s3 := ((((A0d.below hv1).below hv2).below hv3).below hv4)
  have A2s3 := ((((A2d.below hv1).below hv2).below hv3).below hv4)
  clear cA0x0 cA0x1 cA2x0 cA2x1 A0s2 A2s2 A0d A2d L2 O0q0 O1q0 O2q0 y1A0x0 y1A0x1 y1A2x0 y1A2x1 y2A0x0 y2A0x1 y2A2x0 y2A2x1 y3A0x0 y3A0x1 y3A2x0 y3A2x1 y4A0x0 y4A0x1 y4A2x0 y4A2x1 c1v1 c2v1 c3v1 hv1 hv2 hv3 hv4
  obtain ⟨cA0x0, cA0x1⟩ := A0s3.two
  obtain ⟨cA2x0, cA2x1⟩ := A2s3.two
  go_wp2_with fail
  refine (toLabel_any _ _ _ _ fa ga _ ma (hca.below L3)).mono ?_
  rintro e x0 ⟨e0v1, rfl, _, t0v1, hx0⟩
  have A0s4 := A0s3.below hx0
  have A2s4 := A2s3.below hx0
  have L4 : Below w.heap.size w x0 := L3.trans (hx0.mono L3.size)
  clear A0s3 A2s3 L3 cA0x0 cA0x1 cA2x0 cA2x1
  have K0 := (Below.refl _ x0).alloc (Nat.le_refl _) (.cells #[.int .i64 ba, .slice (some ⟨e0v1, 0, none⟩) na na] 26)
  have R0q0s4 := CatsAt.row t0v1
  clear t0v1 hx0
  have A0s5 := A0s4.below K0
  have A2s5 := A2s4.below K0
  have R0q0s5 := R0q0s4.below K0
  have L5 : Below w.heap.size w (x0.alloc (.cells #[.int .i64 ba, .slice (some ⟨e0v1, 0, none⟩) na na] 26)) := L4.trans (K0.mono L4.size)
  clear A0s4 A2s4 R0q0s4 L4
  have X0s5 := Blk.new x0 (.cells #[.int .i64 ba, .slice (some ⟨e0v1, 0, none⟩) na na] 26)
  clear K0
  go_wp2_with fail
  refine (toInt64S_any _ _ _ ho _ mo (hco.below L5)).mono ?_
  rintro e x1 ⟨rfl, t1v1, hx1⟩
  have A0s6 := A0s5.below hx1
  have A2s6 := A2s5.below hx1
  have R0q0s6 := R0q0s5.below hx1
  have X0s6 := X0s5.below hx1
  have L6 : Below w.heap.size w x1 := L5.trans (hx1.mono L5.size)
  clear A0s5 A2s5 R0q0s5 X0s5 L5
  obtain ⟨e1v1, he1v⟩ : ∃ e1v1, e1v1 = (x0.alloc (.cells #[.int .i64 ba, .slice (some ⟨e0v1, 0, none⟩) na na] 26)).heap.size := ⟨_, rfl⟩
  have R1q0s6 : IntsAt x1 (some ⟨e1v1, 0, none⟩) no ho := by rw [he1v]; exact IntsAt.row t1v1
  clear t1v1 hx1
  rw [← he1v]
  clear he1v
  obtain ⟨cA0x0, cA0x1⟩ := A0s6.two
  obtain ⟨cA2x0, cA2x1⟩ := A2s6.two
  go_wp2_with fail
  refine (toLabel_any _ _ _ _ fb gb _ mb (hcb.below L6)).mono ?_
  rintro e x2 ⟨e2v1, rfl, _, t2v1, hx2⟩
  have A0s7 := A0s6.below hx2
  have A2s7 := A2s6.below hx2
  have R0q0s7 := R0q0s6.below hx2
  have X0s7 := X0s6.below hx2
  have R1q0s7 := R1q0s6.below hx2
  have L7 : Below w.heap.size w x2 := L6.trans (hx2.mono L6.size)
  clear A0s6 A2s6 R0q0s6 X0s6 R1q0s6 L6 cA0x0 cA0x1 cA2x0 cA2x1
  have K2 := (Below.refl _ x2).alloc (Nat.le_refl _) (.cells #[.int .i64 bb, .slice (some ⟨e2v1, 0, none⟩) nb nb] 26)
  have R2q0s7 := CatsAt.row t2v1
  clear t2v1 hx2
  have A0s8 := A0s7.below K2
  have A2s8 := A2s7.below K2
  have R0q0s8 := R0q0s7.below K2
  have X0s8 := X0s7.below K2
  have R1q0s8 := R1q0s7.below K2
  have R2q0s8 := R2q0s7.below K2
  have L8 : Below w.heap.size w (x2.alloc (.cells #[.int .i64 bb, .slice (some ⟨e2v1, 0, none⟩) nb nb] 26)) := L7.trans (K2.mono L7.size)
  clear A0s7 A2s7 R0q0s7 X0s7 R1q0s7 R2q0s7 L7
  have X2s8 := Blk.new x2 (.cells #[.int .i64 bb, .slice (some ⟨e2v1, 0, none⟩) nb nb] 26)
  clear K2
  obtain ⟨cX0x0, cX0x1⟩ := X0s8.two
  obtain ⟨cX2x0, cX2x1⟩ := X2s8.two
  go_wp2_with fail
  refine (implFlows_any _ _ _ _ fa ga _ _ _ ho _ _ _ _ fb gb _ hna hnb hno R0q0s8 R2q0s8 R1q0s8).mono ?_
  rintro e g ⟨rfl, hg⟩
  have A0s9 := A0s8.below hg
  have A2s9 := A2s8.below hg
  have R0q0s9 := R0q0s8.below hg
  have X0s9 := X0s8.below hg
  have R1q0s9 := R1q0s8.below hg
  have R2q0s9 := R2q0s8.below hg
  have X2s9 := X2s8.below hg
  have L9 : Below w.heap.size w g := L8.trans (hg.mono L8.size)
  clear A0s8 A2s8 R0q0s8 X0s8 R1q0s8 R2q0s8 X2s8 L8 cX0x0 cX0x1 cX2x0 cX2x1
  clear hg
  have O0 : CatsAt g.drew aa na fa ga := hca.below L9.drew
  have E0 : CatsAt g.drew (some ⟨e0v1, 0, none⟩) na fa ga := R0q0s9.below (Below.refl _ g).drew
  have A0d := A0s9.below (Below.refl _ g).drew
  have A2d := A2s9.below (Below.refl _ g).drew
  have R0q0d := R0q0s9.below (Below.refl _ g).drew
  have X0d := X0s9.below (Below.refl _ g).drew
  have R1q0d := R1q0s9.below (Below.refl _ g).drew
  have R2q0d := R2q0s9.below (Below.refl _ g).drew
  have X2d := X2s9.below (Below.refl _ g).drew
  obtain ⟨cA0x0, cA0x1⟩ := A0s9.two
  obtain ⟨cX0x0, cX0x1⟩ := X0s9.two
  go_wp2_with fail
  go_region_held3 (fun w' => w'.cell? ⟨w.heap.size, 0, none⟩ = some (.int .i64 ba) ∧ w'.cell? ⟨w.heap.size, 1, none⟩ = some (.slice aa na ka) ∧ w'.cell? ⟨x0.heap.size, 0, none⟩ = some (.int .i64 ba) ∧ w'.cell? ⟨x0.heap.size, 1, none⟩ = some (.slice (some ⟨e0v1, 0, none⟩) na na)) (first | go_keep | (simp only [*, and_self]))
    (first
      | (go_at_call 29; refine (toLabel_any _ _ _ _ fa ga _ ma O0).mono ?_; rintro e y ⟨z0d1, rfl, _, z0c1, hy⟩; obtain ⟨pA0x0, pA0x1⟩ := (A0d.below hy).two; obtain ⟨pX0x0, pX0x1⟩ := (X0d.below hy).two)
      | (go_at_call 31; refine (eqLabel_true _ _ _ _ _ _ fa ga _ hna (E0.below hy) (CatsAt.row z0c1)).mono ?_; rintro e z ⟨rfl, hz⟩; obtain ⟨rA0x0, rA0x1⟩ := ((A0d.below hy).below hz).two; obtain ⟨rX0x0, rX0x1⟩ := ((X0d.below hy).below hz).two))
  have L10 : Below w.heap.size w z := (L9.drew.trans (hy.mono L9.size)).trans (hz.mono (Nat.le_trans L9.size hy.size))
  have A0s10 := (A0d.below hy).below hz
  have A2s10 := (A2d.below hy).below hz
  have R0q0s10 := (R0q0d.below hy).below hz
  have X0s10 := (X0d.below hy).below hz
  have R1q0s10 := (R1q0d.below hy).below hz
  have R2q0s10 := (R2q0d.below hy).below hz
  have X2s10 := (X2d.below hy).below hz
  clear A0s9 A2s9 R0q0s9 X0s9 R1q0s9 R2q0s9 X2s9 A0d A2d R0q0d X0d R1q0d R2q0d X2d L9 cA0x0 cA0x1 cX0x0 cX0x1 pA0x0 pA0x1 pX0x0 pX0x1 rA0x0 rA0x1 rX0x0 rX0x1 O0 E0 z0c1 hy hz
  obtain ⟨gg0, hgg⟩ : ∃ gg0, gg0 = z := ⟨_, rfl⟩
  subst hgg
  have O0 : IntsAt gg0.drew ao no ho := hco.below L10.drew
  have E0 : IntsAt gg0.drew (some ⟨e1v1, 0, none⟩) no ho := R1q0s10.below (Below.refl _ gg0).drew
  have A0d := A0s10.below (Below.refl _ gg0).drew
  have A2d := A2s10.below (Below.refl _ gg0).drew
  have R0q0d := R0q0s10.below (Below.refl _ gg0).drew
  have X0d := X0s10.below (Below.refl _ gg0).drew
  have R1q0d := R1q0s10.below (Below.refl _ gg0).drew
  have R2q0d := R2q0s10.below (Below.refl _ gg0).drew
  have X2d := X2s10.below (Below.refl _ gg0).drew
  go_wp2_with fail
  refine (toInt64S_any _ _ _ ho _ mo (hco.below L10)).mono ?_
  rintro e y ⟨rfl, z1c1, hy⟩
  go_wp2_with fail
  refine (eqInt64S_true _ _ _ _ _ ho _ hno (R1q0s10.below hy) (IntsAt.row z1c1)).mono ?_
  rintro e z ⟨rfl, hz⟩
  have L11 : Below w.heap.size w z := (L10.trans (hy.mono L10.size)).trans (hz.mono (Nat.le_trans L10.size hy.size))
  have A0s11 := (A0s10.below hy).below hz
  have A2s11 := (A2s10.below hy).below hz
  have R0q0s11 := (R0q0s10.below hy).below hz
  have X0s11 := (X0s10.below hy).below hz
  have R1q0s11 := (R1q0s10.below hy).below hz
  have R2q0s11 := (R2q0s10.below hy).below hz
  have X2s11 := (X2s10.below hy).below hz
  clear A0s10 A2s10 R0q0s10 X0s10 R1q0s10 R2q0s10 X2s10 A0d A2d R0q0d X0d R1q0d R2q0d X2d L10 O0 E0 z1c1 hy hz
  obtain ⟨gg1, hgg⟩ : ∃ gg1, gg1 = z := ⟨_, rfl⟩
  subst hgg
  have O0 : CatsAt gg1.drew ab nb fb gb := hcb.below L11.drew
  have E0 : CatsAt gg1.drew (some ⟨e2v1, 0, none⟩) nb fb gb := R2q0s11.below (Below.refl _ gg1).drew
  have A0d := A0s11.below (Below.refl _ gg1).drew
  have A2d := A2s11.below (Below.refl _ gg1).drew
  have R0q0d := R0q0s11.below (Below.refl _ gg1).drew
  have X0d := X0s11.below (Below.refl _ gg1).drew
  have R1q0d := R1q0s11.below (Below.refl _ gg1).drew
  have R2q0d := R2q0s11.below (Below.refl _ gg1).drew
  have X2d := X2s11.below (Below.refl _ gg1).drew
  obtain ⟨cA2x0, cA2x1⟩ := A2s11.two
  obtain ⟨cX2x0, cX2x1⟩ := X2s11.two
  go_wp2_with fail
  go_region_held3 (fun w' => w'.cell? ⟨w.heap.size + 1, 0, none⟩ = some (.int .i64 bb) ∧ w'.cell? ⟨w.heap.size + 1, 1, none⟩ = some (.slice ab nb kb) ∧ w'.cell? ⟨x2.heap.size, 0, none⟩ = some (.int .i64 bb) ∧ w'.cell? ⟨x2.heap.size, 1, none⟩ = some (.slice (some ⟨e2v1, 0, none⟩) nb nb)) (first | go_keep | (simp only [*, and_self]))
    (first
      | (go_at_call 29; refine (toLabel_any _ _ _ _ fb gb _ mb O0).mono ?_; rintro e y ⟨z2d1, rfl, _, z2c1, hy⟩; obtain ⟨pA2x0, pA2x1⟩ := (A2d.below hy).two; obtain ⟨pX2x0, pX2x1⟩ := (X2d.below hy).two)
      | (go_at_call 31; refine (eqLabel_true _ _ _ _ _ _ fb gb _ hnb (E0.below hy) (CatsAt.row z2c1)).mono ?_; rintro e z ⟨rfl, hz⟩; obtain ⟨rA2x0, rA2x1⟩ := ((A2d.below hy).below hz).two; obtain ⟨rX2x0, rX2x1⟩ := ((X2d.below hy).below hz).two))
  have L12 : Below w.heap.size w z := (L11.drew.trans (hy.mono L11.size)).trans (hz.mono (Nat.le_trans L11.size hy.size))
  have A0s12 := (A0d.below hy).below hz
  have A2s12 := (A2d.below hy).below hz
  have R0q0s12 := (R0q0d.below hy).below hz
  have X0s12 := (X0d.below hy).below hz
  have R1q0s12 := (R1q0d.below hy).below hz
  have R2q0s12 := (R2q0d.below hy).below hz
  have X2s12 := (X2d.below hy).below hz
  clear A0s11 A2s11 R0q0s11 X0s11 R1q0s11 R2q0s11 X2s11 A0d A2d R0q0d X0d R1q0d R2q0d X2d L11 cA2x0 cA2x1 cX2x0 cX2x1 pA2x0 pA2x1 pX2x0 pX2x1 rA2x0 rA2x1 rX2x0 rX2x1 O0 E0 z2c1 hy hz
  obtain ⟨gg2, hgg⟩ : ∃ gg2, gg2 = z := ⟨_, rfl⟩
  subst hgg
  go_wp2
  go_ret
  exact ⟨rfl, L12⟩
end Go.Proofs.Ytjolkbcnglhebaa
