/- FnExactJoin: the walk: the law answers true at every two labels that came in, and writes nothing that was there. -/
import Derived.Test.YtjmfaffghkclbaaJH
import Derived.Test.YtjmfaffghkclbaaJB
import Derived.Test.YtjmfaffghkclbaaJD
namespace Go.Proofs.Ytjmfaffghkclbaa
open Go.RowKit Go.Deep Go.Maps

set_option maxRecDepth 100000 in
set_option maxHeartbeats 8000000 in
theorem exactJoin_walk (ba : Int) (aa : Option Addr) (na ka : Nat) (fa ga : Nat → Int) (bb : Int) (ab : Option Addr) (nb kb : Nat) (fb gb : Nat → Int) (w : World)
    (hna : na ≤ maxLen) (hnb : nb ≤ maxLen) (hca : CatsAt w aa na fa ga) (hcb : CatsAt w ab nb fb gb) :
    Calls Try.prog 12 #[.agg #[.int .i64 ba, .slice aa na ka], .agg #[.int .i64 bb, .slice ab nb kb]] w fun e w' => e = .returned (.bool true) ∧ Below w.heap.size w w' := by
  have hb0 := ((Below.refl _ w).alloc (Nat.le_refl _) (.cells #[.int .i64 ba, .slice aa na ka] 49)).alloc (by simp) (.cells #[.int .i64 bb, .slice ab nb kb] 49)
  have A0 : Blk ((w.alloc (.cells #[.int .i64 ba, .slice aa na ka] 49)).alloc (.cells #[.int .i64 bb, .slice ab nb kb] 49)) w.heap.size (.cells #[.int .i64 ba, .slice aa na ka] 49) := (Blk.new w _).alloc _
  have B0 : Blk ((w.alloc (.cells #[.int .i64 ba, .slice aa na ka] 49)).alloc (.cells #[.int .i64 bb, .slice ab nb kb] 49)) (w.heap.size + 1) (.cells #[.int .i64 bb, .slice ab nb kb] 49) := by have := Blk.new (w.alloc (.cells #[.int .i64 ba, .slice aa na ka] 49)) (.cells #[.int .i64 bb, .slice ab nb kb] 49); simpa using this
  have hlen : (mgList max ba na fa ga bb nb fb gb).length ≤ 12 := mgList_len
  have IW : Hid (∀ (a a' : Option Addr) (k k' : Nat) (v : World), CatsAt v a na fa ga → CatsAt v a' nb fb gb → Calls Try.prog 28 #[.agg #[.int .i64 ba, .slice a na k], .agg #[.int .i64 bb, .slice a' nb k']] v fun e w' => LabPost (mgBase max ba na fa ga bb nb fb gb) (mgList max ba na fa ga bb nb fb gb) (mgOk max ba na fa ga bb nb fb gb) v e w') := fun a a' k k' v h h' => implJoin_any _ _ _ _ _ _ _ _ _ _ _ _ _ hna hnb h h'
  have SW : Hid (∀ (a a' : Option Addr) (k k' : Nat) (v : World), CatsAt v a na fa ga → CatsAt v a' nb fb gb → Calls Try.prog 30 #[.agg #[.int .i64 ba, .slice a na k], .agg #[.int .i64 bb, .slice a' nb k']] v fun e w' => LabPost (mgBase max ba na fa ga bb nb fb gb) (mgList max ba na fa ga bb nb fb gb) (mgOk max ba na fa ga bb nb fb gb) v e w') := fun a a' k k' v h h' => specJoin_any _ _ _ _ _ _ _ _ _ _ _ _ _ hna hnb h h'
  unfold LabPost at IW SW
  generalize mgList max ba na fa ga bb nb fb gb = l at *
  generalize mgBase max ba na fa ga bb nb fb gb = lb at *
  generalize mgOk max ba na fa ga bb nb fb gb = ok at *
  have hl : l.length ≤ maxLen := by unfold maxLen; omega
  go_enter Try.func12, Try.ntmps12
  go_wp2_with fail
  refine (szLabel_any _ _ _ _ _ _ hna (by omega) (by omega)).mono ?_
  rintro e w1 ⟨rfl, hb1⟩
  have A1 := A0.below hb1
  have B1 := B0.below hb1
  have L1 : Below w.heap.size w w1 := hb0.trans (hb1.mono (by simp; omega))
  clear hb0 A0 B0 hb1
  obtain ⟨x1, x2⟩ := A1.two
  obtain ⟨x3, x4⟩ := B1.two
  have s1 := szOf_cases na 1048576 (by omega) (by omega)
  generalize szOf na 1048576 = r1 at *
  rcases s1 with rfl | ⟨u1, v1, m1⟩
  · go_wp2
    go_ret
    exact ⟨rfl, L1⟩
  · go_wp2_with fail
    refine (szLabel_any _ _ _ _ _ _ hnb u1 (by omega)).mono ?_
    rintro e w2 ⟨rfl, hb2⟩
    have A2 := A1.below hb2
    have B2 := B1.below hb2
    have L2 : Below w.heap.size w w2 := L1.trans (hb2.mono L1.size)
    clear x1 x2 x3 x4 A1 B1 L1 hb2
    obtain ⟨x1, x2⟩ := A2.two
    obtain ⟨x3, x4⟩ := B2.two
    have s2 := szOf_cases nb r1 u1 (by omega)
    generalize szOf nb r1 = r2 at *
    rcases s2 with rfl | ⟨u2, v2, m2⟩
    · go_wp2
      go_ret
      exact ⟨rfl, L2⟩
    · clear x1 x2 x3 x4
      have lAB : w.heap.size + 1 < w2.heap.size := B2.lt
      have HtA : Hid (∀ W, Below w2.heap.size w2 W → Calls Try.prog 48 #[.agg #[.int .i64 ba, .slice aa na ka]] W fun e w' => ∃ d1, e = .returned (.agg #[.int .i64 ba, .slice (some ⟨d1, 0, none⟩) na na]) ∧ CatsAt w' (some ⟨d1, 0, none⟩) na fa ga ∧ Below w2.heap.size w2 w' ∧ Below W.heap.size W w' ∧ w'.cell? ⟨w.heap.size, 0, none⟩ = some (.int .i64 ba) ∧ w'.cell? ⟨w.heap.size, 1, none⟩ = some (.slice aa na ka) ∧ w'.cell? ⟨w.heap.size + 1, 0, none⟩ = some (.int .i64 bb) ∧ w'.cell? ⟨w.heap.size + 1, 1, none⟩ = some (.slice ab nb kb)) := fun W hW => by
        refine (toLabel_any _ _ _ _ fa ga _ m1 ((hca.below L2).below hW)).mono ?_
        rintro e w' ⟨d1, rfl, _, c1, hb⟩
        have E := hW.trans (hb.mono hW.size)
        exact ⟨d1, rfl, CatsAt.row c1, E, hb, (A2.below E).two.1, (A2.below E).two.2, (B2.below E).two.1, (B2.below E).two.2⟩
      have HtB : Hid (∀ W, Below w2.heap.size w2 W → Calls Try.prog 48 #[.agg #[.int .i64 bb, .slice ab nb kb]] W fun e w' => ∃ d1, e = .returned (.agg #[.int .i64 bb, .slice (some ⟨d1, 0, none⟩) nb nb]) ∧ CatsAt w' (some ⟨d1, 0, none⟩) nb fb gb ∧ Below w2.heap.size w2 w' ∧ Below W.heap.size W w' ∧ w'.cell? ⟨w.heap.size, 0, none⟩ = some (.int .i64 ba) ∧ w'.cell? ⟨w.heap.size, 1, none⟩ = some (.slice aa na ka) ∧ w'.cell? ⟨w.heap.size + 1, 0, none⟩ = some (.int .i64 bb) ∧ w'.cell? ⟨w.heap.size + 1, 1, none⟩ = some (.slice ab nb kb)) := fun W hW => by
        refine (toLabel_any _ _ _ _ fb gb _ m2 ((hcb.below L2).below hW)).mono ?_
        rintro e w' ⟨d1, rfl, _, c1, hb⟩
        have E := hW.trans (hb.mono hW.size)
        exact ⟨d1, rfl, CatsAt.row c1, E, hb, (A2.below E).two.1, (A2.below E).two.2, (B2.below E).two.1, (B2.below E).two.2⟩
      have HJ : Hid (∀ W d1 d2, Below w2.heap.size w2 W → CatsAt W (some ⟨d1, 0, none⟩) na fa ga → CatsAt W (some ⟨d2, 0, none⟩) nb fb gb → Calls Try.prog 30 #[.agg #[.int .i64 ba, .slice (some ⟨d1, 0, none⟩) na na], .agg #[.int .i64 bb, .slice (some ⟨d2, 0, none⟩) nb nb]] W fun e w' => ∃ pa pk, e = .returned (.tuple #[.agg #[.int .i64 lb, .slice pa l.length pk], .bool ok]) ∧ CatsAt w' pa l.length (fstAt l) (sndAt l) ∧ Below w2.heap.size w2 w' ∧ Below W.heap.size W w' ∧ w'.cell? ⟨w.heap.size, 0, none⟩ = some (.int .i64 ba) ∧ w'.cell? ⟨w.heap.size, 1, none⟩ = some (.slice aa na ka) ∧ w'.cell? ⟨w.heap.size + 1, 0, none⟩ = some (.int .i64 bb) ∧ w'.cell? ⟨w.heap.size + 1, 1, none⟩ = some (.slice ab nb kb)) := fun W d1 d2 hW h1 h2 => by
        refine (SW.out _ _ _ _ _ h1 h2).mono ?_
        rintro e w' ⟨pa, pk, rfl, po, hb⟩
        have E := hW.trans (hb.mono hW.size)
        exact ⟨pa, pk, rfl, OwnCats.cats po, E, hb, (A2.below E).two.1, (A2.below E).two.2, (B2.below E).two.1, (B2.below E).two.2⟩
      have HE00 : Hid (Below w2.heap.size w2 w2.drew) := (Below.refl _ _).drew
      have HE0 : Hid (∀ o, Below w2.heap.size w2 (w2.alloc o).drew) := fun o => ((Below.refl _ _).alloc (Nat.le_refl _) o).drew
      obtain ⟨x1, x2⟩ := A2.two
      obtain ⟨x3, x4⟩ := B2.two
      go_upto_region 8 with fail
      go_cut [6, 7] (fun p q wc => ∃ (P : Nat) (pa : Option Addr) (pk : Nat), p = .pointer (some ⟨P, 0, none⟩) ∧ q = .bool ok ∧ Blk wc P (.cells #[.int .i64 lb, .slice pa l.length pk] 26) ∧ CatsAt wc pa l.length (fstAt l) (sndAt l) ∧ Below w2.heap.size w2 wc)
      case first =>
        go_region_held3 (fun w' => w'.cell? ⟨w.heap.size, 0, none⟩ = some (.int .i64 ba) ∧ w'.cell? ⟨w.heap.size, 1, none⟩ = some (.slice aa na ka) ∧ w'.cell? ⟨w.heap.size + 1, 0, none⟩ = some (.int .i64 bb) ∧ w'.cell? ⟨w.heap.size + 1, 1, none⟩ = some (.slice ab nb kb)) (first | (with_reducible refine ⟨cell_far (by omega) (cell_far (by omega) ?_), cell_far (by omega) (cell_far (by omega) ?_), cell_far (by omega) (cell_far (by omega) ?_), cell_far (by omega) (cell_far (by omega) ?_)⟩ <;> first | assumption | go_keep) | go_keep)
          (first
            | (go_at_call 30; refine (HJ.out _ d1 d2 ?hA ?hB ?hC).mono ?_; (case hA => first | with_reducible exact E2 | with_reducible exact E2.alloc E2.size _); (case hB => first | with_reducible exact C1.below hb2 | with_reducible exact (C1.alloc _).below hb2 | with_reducible exact (C1.below hb2).alloc _); (case hC => first | with_reducible exact C2 | with_reducible exact C2.alloc _); rintro e v3 ⟨pa, pk, rfl, pc, E3, hb3, p1, p2, p3, p4⟩; have e3 := E3.size; (first | (with_reducible (have Zk := (Blk.new v2 (.cells #[.int .i64 0, .slice none 0 0] 26)).below hb3); obtain ⟨k1, k2⟩ := Zk.two; have kf0 := Zk.frozen2 0; have kf1 := Zk.frozen2 1) | (with_reducible (have Zk := ((Blk.new v1 (.cells #[.int .i64 0, .slice none 0 0] 26)).below hb2).below hb3); obtain ⟨k1, k2⟩ := Zk.two; have kf0 := Zk.frozen2 0; have kf1 := Zk.frozen2 1) | (with_reducible (have Zk := (((Blk.new w2 (.cells #[.int .i64 0, .slice none 0 0] 26)).drew.below hb1).below hb2).below hb3); obtain ⟨k1, k2⟩ := Zk.two; have kf0 := Zk.frozen2 0; have kf1 := Zk.frozen2 1) | skip))
            | (go_at_call 48; have hb1' := hb1; clear hb1'; refine (HtB.out _ ?hB).mono ?_; (case hB => first | with_reducible exact E1 | with_reducible exact E1.alloc E1.size _); rintro e v2 ⟨d2, rfl, C2, E2, hb2, q1, q2, q3, q4⟩; have e2 := E2.size)
            | (go_at_call 48; refine (HtA.out _ ?hB).mono ?_; (case hB => first | exact HE00.out | exact HE0.out _); rintro e v1 ⟨d1, rfl, C1, E1, hb1, r1, r2, r3, r4⟩; have e1 := E1.size))
        all_goals
          clear HtA HtB HJ
          go_wp2_with fail
          go_meet
          case rel =>
            first | exact ⟨_, pa, pk, rfl, rfl, put26 Zk (by omega) pc E3⟩ | exact ⟨_, pa, pk, rfl, rfl, Blk.new _ _, pc.alloc _, E3.alloc E3.size _⟩
      case rest =>
      obtain ⟨P0, pa, pk, rfl, rfl, P, PC, E5⟩ := hcut
      have A := A2.below E5
      have B := B2.below E5
      have L : Below w.heap.size w wc := L2.trans (E5.mono L2.size)
      have C := hca.below L
      have D := hcb.below L
      clear A2 B2 L2 x1 x2 x3 x4 SW HtA HtB HJ HE00 HE0 E5
      obtain ⟨x1, x2⟩ := A.two
      go_wp2_with fail
      refine (toLabel_any _ _ _ _ fa ga _ m1 C).mono ?_
      rintro e w6 ⟨d1, rfl, gd1, c1, hb6⟩
      have X := Blk.new w6 (.cells #[.int .i64 ba, .slice (some ⟨d1, 0, none⟩) na na] 26)
      have T6 : Below wc.heap.size wc (w6.alloc (.cells #[.int .i64 ba, .slice (some ⟨d1, 0, none⟩) na na] 26)) := hb6.alloc hb6.size _
      have K6 := (Below.refl _ w6).alloc (Nat.le_refl _) (.cells #[.int .i64 ba, .slice (some ⟨d1, 0, none⟩) na na] 26)
      have ld1 : d1 < w6.heap.size := c1.lt
      have RX := (RowAt.of_row c1).below K6
      have XC := (CatsAt.row c1).below K6
      have sX : w6.heap.size + 1 = (w6.alloc (.cells #[.int .i64 ba, .slice (some ⟨d1, 0, none⟩) na na] 26)).heap.size := by simp
      have B6 := B.below T6
      clear x1 x2 hb6 c1 K6
      obtain ⟨x1, x2⟩ := B6.two
      go_wp2_with fail
      refine (toLabel_any _ _ _ _ fb gb _ m2 (D.below T6)).mono ?_
      rintro e w7 ⟨d2, rfl, gd2, c2, hb7⟩
      have Y := Blk.new w7 (.cells #[.int .i64 bb, .slice (some ⟨d2, 0, none⟩) nb nb] 26)
      have K7 := (Below.refl _ w7).alloc (Nat.le_refl _) (.cells #[.int .i64 bb, .slice (some ⟨d2, 0, none⟩) nb nb] 26)
      have T7 : Below wc.heap.size wc (w7.alloc (.cells #[.int .i64 bb, .slice (some ⟨d2, 0, none⟩) nb nb] 26)) := (T6.trans (hb7.mono T6.size)).alloc (Nat.le_trans T6.size hb7.size) _
      have ld2 : d2 < w7.heap.size := c2.lt
      have RY := (RowAt.of_row c2).below K7
      have YC := (CatsAt.row c2).below K7
      have X7 := (X.below hb7).below K7
      have RX7 := (RX.below hb7).below K7
      have XC7 := (XC.below hb7).below K7
      have sY : w7.heap.size + 1 = (w7.alloc (.cells #[.int .i64 bb, .slice (some ⟨d2, 0, none⟩) nb nb] 26)).heap.size := by simp
      have s7 : w6.heap.size + 1 ≤ w7.heap.size := by rw [sX]; exact hb7.size
      have gd2' : w6.heap.size + 1 ≤ d2 := by rw [sX]; exact gd2
      clear x1 x2 B6 hb7 c2 K7 X RX XC T6 sX gd2
      obtain ⟨x3, x4⟩ := X7.two
      obtain ⟨x5, x6⟩ := Y.two
      go_wp2_with fail
      refine (IW.out _ _ _ _ _ XC7 YC).mono ?_
      rintro e w8 ⟨qa, qk, rfl, qo, hb8⟩
      obtain ⟨bg, RG, gbg⟩ := RowAt.of_own qo
      have qc : CatsAt w8 qa l.length (fstAt l) (sndAt l) := OwnCats.cats qo
      have G := Blk.new w8 (.cells #[.int .i64 lb, .slice qa l.length qk] 26)
      have K8 := (Below.refl _ w8).alloc (Nat.le_refl _) (.cells #[.int .i64 lb, .slice qa l.length qk] 26)
      have lbg : 0 < l.length → bg < w8.heap.size := fun h => RG.lt h
      have X8 := (X7.below hb8).below K8
      have RX8 := (RX7.below hb8).below K8
      have XC8 := (XC7.below hb8).below K8
      have Y8 := (Y.below hb8).below K8
      have RY8 := (RY.below hb8).below K8
      have YC8 := (YC.below hb8).below K8
      have RG8 := RG.below K8
      have GC8 := qc.below K8
      have T8 : Below wc.heap.size wc (w8.alloc (.cells #[.int .i64 lb, .slice qa l.length qk] 26)) := (T7.trans (hb8.mono T7.size)).trans (K8.mono (Nat.le_trans T7.size hb8.size))
      have P8 := P.below T8
      have s8 : w7.heap.size + 1 ≤ w8.heap.size := by rw [sY]; exact hb8.size
      rw [← sY] at gbg
      clear x3 x4 x5 x6 X7 RX7 XC7 Y RY YC RG qc K8 T7 hb8 qo sY
      obtain ⟨x1, x2⟩ := G.two
      obtain ⟨x3, x4⟩ := P8.two
      go_wp2_with fail
      refine (eqLabel_true _ _ _ _ _ _ (fstAt l) (sndAt l) _ hl GC8 (PC.below T8)).mono ?_
      rintro e w9 ⟨rfl, hb9⟩
      have T9 : Below wc.heap.size wc w9.drew := (T8.trans (hb9.mono T8.size)).drew
      have X9 : Blk w9.drew w6.heap.size (.cells #[.int .i64 ba, .slice (some ⟨d1, 0, none⟩) na na] 26) := X8.below hb9.drew
      have RX9 : RowAt w9.drew (some ⟨d1, 0, none⟩) d1 na := RX8.below hb9.drew
      have XC9 : CatsAt w9.drew (some ⟨d1, 0, none⟩) na fa ga := XC8.below hb9.drew
      have Y9 : Blk w9.drew w7.heap.size (.cells #[.int .i64 bb, .slice (some ⟨d2, 0, none⟩) nb nb] 26) := Y8.below hb9.drew
      have RY9 : RowAt w9.drew (some ⟨d2, 0, none⟩) d2 nb := RY8.below hb9.drew
      have YC9 : CatsAt w9.drew (some ⟨d2, 0, none⟩) nb fb gb := YC8.below hb9.drew
      have G9 : Blk w9.drew w8.heap.size (.cells #[.int .i64 lb, .slice qa l.length qk] 26) := G.below hb9.drew
      have RG9 : RowAt w9.drew qa bg l.length := RG8.below hb9.drew
      have GC9 : CatsAt w9.drew qa l.length (fstAt l) (sndAt l) := GC8.below hb9.drew
      have A9 : Blk w9.drew w.heap.size (.cells #[.int .i64 ba, .slice aa na ka] 49) := A.below T9
      have C9 := C.below T9
      clear x1 x2 x3 x4 X8 RX8 XC8 Y8 RY8 YC8 G RG8 GC8 T8 P8 hb9
      obtain ⟨z1, z2⟩ : w9.cell? ⟨w.heap.size, 0, none⟩ = _ ∧ w9.cell? ⟨w.heap.size, 1, none⟩ = _ := A9.two
      obtain ⟨z5, z6⟩ : w9.cell? ⟨w6.heap.size, 0, none⟩ = _ ∧ w9.cell? ⟨w6.heap.size, 1, none⟩ = _ := X9.two
      go_wp2_with fail
      go_region_held3 (fun w' => w'.cell? ⟨w.heap.size, 0, none⟩ = some (.int .i64 ba) ∧ w'.cell? ⟨w.heap.size, 1, none⟩ = some (.slice aa na ka) ∧ w'.cell? ⟨w6.heap.size, 0, none⟩ = some (.int .i64 ba) ∧ w'.cell? ⟨w6.heap.size, 1, none⟩ = some (.slice (some ⟨d1, 0, none⟩) na na)) (go_keep)
        (first
          | (go_at_call 48; refine (toLabel_any _ _ _ _ fa ga _ m1 C9).mono ?_; rintro e w10 ⟨d3, rfl, _, c3, hb10⟩; obtain ⟨y1, y2⟩ := (A9.below hb10).two; obtain ⟨y3, y4⟩ := (X9.below hb10).two)
          | (go_at_call 49; refine (eqLabel_true _ _ _ _ _ _ fa ga _ hna (XC9.below hb10) (CatsAt.row c3)).mono ?_; rintro e w11 ⟨rfl, hb11⟩; obtain ⟨t1, t2⟩ := ((A9.below hb10).below hb11).two; obtain ⟨t3, t4⟩ := ((X9.below hb10).below hb11).two))
      have T11 : Below wc.heap.size wc w11.drew := ((T9.trans (hb10.mono T9.size)).trans (hb11.mono (Nat.le_trans T9.size hb10.size))).drew
      have X11 : Blk w11.drew w6.heap.size (.cells #[.int .i64 ba, .slice (some ⟨d1, 0, none⟩) na na] 26) := (X9.below hb10).below hb11.drew
      have RX11 : RowAt w11.drew (some ⟨d1, 0, none⟩) d1 na := (RX9.below hb10).below hb11.drew
      have Y11 : Blk w11.drew w7.heap.size (.cells #[.int .i64 bb, .slice (some ⟨d2, 0, none⟩) nb nb] 26) := (Y9.below hb10).below hb11.drew
      have RY11 : RowAt w11.drew (some ⟨d2, 0, none⟩) d2 nb := (RY9.below hb10).below hb11.drew
      have YC11 : CatsAt w11.drew (some ⟨d2, 0, none⟩) nb fb gb := (YC9.below hb10).below hb11.drew
      have G11 : Blk w11.drew w8.heap.size (.cells #[.int .i64 lb, .slice qa l.length qk] 26) := (G9.below hb10).below hb11.drew
      have RG11 : RowAt w11.drew qa bg l.length := (RG9.below hb10).below hb11.drew
      have GC11 : CatsAt w11.drew qa l.length (fstAt l) (sndAt l) := (GC9.below hb10).below hb11.drew
      have B11 : Blk w11.drew (w.heap.size + 1) (.cells #[.int .i64 bb, .slice ab nb kb] 49) := B.below T11
      have D11 := D.below T11
      clear z1 z2 z5 z6 y1 y2 y3 y4 t1 t2 t3 t4 hb10 hb11 c3 X9 RX9 XC9 Y9 RY9 YC9 G9 RG9 GC9 A9 C9 T9
      obtain ⟨z1, z2⟩ : w11.cell? ⟨w.heap.size + 1, 0, none⟩ = _ ∧ w11.cell? ⟨w.heap.size + 1, 1, none⟩ = _ := B11.two
      obtain ⟨z5, z6⟩ : w11.cell? ⟨w7.heap.size, 0, none⟩ = _ ∧ w11.cell? ⟨w7.heap.size, 1, none⟩ = _ := Y11.two
      go_wp2_with fail
      go_region_held3 (fun w' => w'.cell? ⟨w.heap.size + 1, 0, none⟩ = some (.int .i64 bb) ∧ w'.cell? ⟨w.heap.size + 1, 1, none⟩ = some (.slice ab nb kb) ∧ w'.cell? ⟨w7.heap.size, 0, none⟩ = some (.int .i64 bb) ∧ w'.cell? ⟨w7.heap.size, 1, none⟩ = some (.slice (some ⟨d2, 0, none⟩) nb nb)) (go_keep)
        (first
          | (go_at_call 48; refine (toLabel_any _ _ _ _ fb gb _ m2 D11).mono ?_; rintro e w12 ⟨d4, rfl, _, c4, hb12⟩; obtain ⟨y1, y2⟩ := (B11.below hb12).two; obtain ⟨y3, y4⟩ := (Y11.below hb12).two)
          | (go_at_call 49; refine (eqLabel_true _ _ _ _ _ _ fb gb _ hnb (YC11.below hb12) (CatsAt.row c4)).mono ?_; rintro e w13 ⟨rfl, hb13⟩; obtain ⟨t1, t2⟩ := ((B11.below hb12).below hb13).two; obtain ⟨t3, t4⟩ := ((Y11.below hb12).below hb13).two))
      have T13 : Below wc.heap.size wc w13 := (T11.trans (hb12.mono T11.size)).trans (hb13.mono (Nat.le_trans T11.size hb12.size))
      have X13 := (X11.below hb12).below hb13
      have RX13 := (RX11.below hb12).below hb13
      have Y13 := (Y11.below hb12).below hb13
      have RY13 := (RY11.below hb12).below hb13
      have G13 := (G11.below hb12).below hb13
      have RG13 := (RG11.below hb12).below hb13
      have GC13 := (GC11.below hb12).below hb13
      clear z1 z2 z5 z6 y1 y2 y3 y4 t1 t2 t3 t4 hb12 hb13 c4 X11 RX11 Y11 RY11 YC11 G11 RG11 GC11 B11 D11 T11
      obtain ⟨x1, x2⟩ := X13.two
      go_wp2_with fail
      refine (markLabel_any _ _ d1 _ _ _ _ m1 (by omega) (by omega) RX13).mono ?_
      rintro e w14 ⟨rfl, hg14, _⟩
      have hrow14 : ∀ j, (if 0 < na then some d1 else none) = some j → j = d1 := fun j e => by split at e <;> simp_all
      have T14 : Below wc.heap.size wc w14 := T13.grown hg14 T13.size (fun j e => by rw [hrow14 j e]; exact gd1)
      have hne14 : ∀ j, j ≠ d1 → some j ≠ (if 0 < na then some d1 else none) := fun j hj e => hj (hrow14 j e.symm)
      have Y14 := Y13.grown hg14 (hne14 _ (by omega))
      have RY14 : RowAt w14 (some ⟨d2, 0, none⟩) d2 nb := RY13.grown hg14 (hne14 _ (by omega))
      have G14 := G13.grown hg14 (hne14 _ (by omega))
      have RG14 : RowAt w14 qa bg l.length := fun h0 => RG13.grown hg14 (hne14 _ (by have := gbg h0; omega)) h0
      have GC14 := GC13.grown RG13 hg14 (fun h0 => hne14 _ (by have := gbg h0; omega))
      clear hrow14 hne14 hg14 G13 RG13 GC13 T13 X13 RX13 Y13 RY13 x1 x2
      obtain ⟨x1, x2⟩ := Y14.two
      go_wp2_with fail
      refine (markLabel_any _ _ d2 _ _ _ _ m2 (by omega) (by omega) RY14).mono ?_
      rintro e w15 ⟨rfl, hg15, _⟩
      have hrow15 : ∀ j, (if 0 < nb then some d2 else none) = some j → j = d2 := fun j e => by split at e <;> simp_all
      have T15 : Below wc.heap.size wc w15 := T14.grown hg15 T14.size (fun j e => by rw [hrow15 j e]; have h1 := gd2'; have h2 := gd1; omega)
      have hne15 : ∀ j, j ≠ d2 → some j ≠ (if 0 < nb then some d2 else none) := fun j hj e => hj (hrow15 j e.symm)
      have G15 := G14.grown hg15 (hne15 _ (by omega))
      have RG15 : RowAt w15 qa bg l.length := fun h0 => RG14.grown hg15 (hne15 _ (by have := gbg h0; omega)) h0
      have GC15 := GC14.grown RG14 hg15 (fun h0 => hne15 _ (by have := gbg h0; omega))
      have P15 := P.below T15
      have k15 : ¬ (1 + 2 * (na : Int) + 2 * (nb : Int) < 0) := by omega
      clear hrow15 hne15 hg15 G14 RG14 GC14 T14 Y14 RY14 x1 x2
      obtain ⟨x1, x2⟩ := G15.two
      obtain ⟨x3, x4⟩ := P15.two
      go_wp2_with fail
      refine (eqLabel_true _ _ _ _ _ _ (fstAt l) (sndAt l) _ hl GC15 (PC.below T15)).mono ?_
      rintro e w16 ⟨rfl, hb16⟩
      have T16 : Below wc.heap.size wc w16 := T15.trans (hb16.mono T15.size)
      have G16 := G15.below hb16
      have RG16 := RG15.below hb16
      clear x1 x2 x3 x4 G15 RG15 GC15 P15 T15 hb16
      obtain ⟨x1, x2⟩ := G16.two
      have hl' : l.length ≤ 1048576 := by omega
      go_wp2_with fail
      refine (markLabel_any _ _ bg _ _ _ _ hl' (by omega) (by omega) RG16).mono ?_
      rintro e w17 ⟨rfl, hg17, MC17⟩
      have hrow17 : ∀ j, (if 0 < l.length then some bg else none) = some j → j = bg ∧ 0 < l.length := fun j e => by split at e <;> simp_all
      have T17 : Below wc.heap.size wc w17 := T16.grown hg17 T16.size (fun j e => by have h := hrow17 j e; have := gbg h.2; omega)
      have G17 := G16.grown hg17 (fun e => by have h := hrow17 _ e.symm; have := lbg h.2; omega)
      clear hrow17 hg17 G16 RG16 T16 x1 x2
      obtain ⟨x1, x2⟩ := G17.two
      go_wp2_with fail
      refine (heldLabel_any _ _ _ _ _ _ hl' (by omega) (by omega) MC17).mono ?_
      rintro e w18 ⟨rfl, hb18⟩
      have T18 : Below wc.heap.size wc w18 := T17.trans (hb18.mono T17.size)
      have G18 : Blk w18 w8.heap.size (.cells #[.int .i64 lb, .slice qa l.length qk] 26) := G17.below hb18
      have MC18 : CatsAt w18 qa l.length (mk1 1) (mk2 1) := MC17.below hb18
      have A18 : Blk w18 w.heap.size (.cells #[.int .i64 ba, .slice aa na ka] 49) := A.below T18
      have B18 : Blk w18 (w.heap.size + 1) (.cells #[.int .i64 bb, .slice ab nb kb] 49) := B.below T18
      have L18 : Below w.heap.size w w18 := L.trans (T18.mono L.size)
      have k18 : ¬ (1 + 2 * (l.length : Int) < 0) := by omega
      clear x1 x2 T17 G17 MC17 hb18
      have lAB : w.heap.size + 1 < w18.heap.size := B18.lt
      have HtA : Hid (∀ W, Below w18.heap.size w18 W → Calls Try.prog 48 #[.agg #[.int .i64 ba, .slice aa na ka]] W fun e w' => ∃ d1, e = .returned (.agg #[.int .i64 ba, .slice (some ⟨d1, 0, none⟩) na na]) ∧ CatsAt w' (some ⟨d1, 0, none⟩) na fa ga ∧ Below w18.heap.size w18 w' ∧ Below W.heap.size W w' ∧ w'.cell? ⟨w.heap.size, 0, none⟩ = some (.int .i64 ba) ∧ w'.cell? ⟨w.heap.size, 1, none⟩ = some (.slice aa na ka) ∧ w'.cell? ⟨w.heap.size + 1, 0, none⟩ = some (.int .i64 bb) ∧ w'.cell? ⟨w.heap.size + 1, 1, none⟩ = some (.slice ab nb kb)) := fun W hW => by
        refine (toLabel_any _ _ _ _ fa ga _ m1 ((hca.below L18).below hW)).mono ?_
        rintro e w' ⟨d1, rfl, _, c1, hb⟩
        have E := hW.trans (hb.mono hW.size)
        exact ⟨d1, rfl, CatsAt.row c1, E, hb, (A18.below E).two.1, (A18.below E).two.2, (B18.below E).two.1, (B18.below E).two.2⟩
      have HtB : Hid (∀ W, Below w18.heap.size w18 W → Calls Try.prog 48 #[.agg #[.int .i64 bb, .slice ab nb kb]] W fun e w' => ∃ d1, e = .returned (.agg #[.int .i64 bb, .slice (some ⟨d1, 0, none⟩) nb nb]) ∧ CatsAt w' (some ⟨d1, 0, none⟩) nb fb gb ∧ Below w18.heap.size w18 w' ∧ Below W.heap.size W w' ∧ w'.cell? ⟨w.heap.size, 0, none⟩ = some (.int .i64 ba) ∧ w'.cell? ⟨w.heap.size, 1, none⟩ = some (.slice aa na ka) ∧ w'.cell? ⟨w.heap.size + 1, 0, none⟩ = some (.int .i64 bb) ∧ w'.cell? ⟨w.heap.size + 1, 1, none⟩ = some (.slice ab nb kb)) := fun W hW => by
        refine (toLabel_any _ _ _ _ fb gb _ m2 ((hcb.below L18).below hW)).mono ?_
        rintro e w' ⟨d1, rfl, _, c1, hb⟩
        have E := hW.trans (hb.mono hW.size)
        exact ⟨d1, rfl, CatsAt.row c1, E, hb, (A18.below E).two.1, (A18.below E).two.2, (B18.below E).two.1, (B18.below E).two.2⟩
      have HJ : Hid (∀ W d1 d2, Below w18.heap.size w18 W → CatsAt W (some ⟨d1, 0, none⟩) na fa ga → CatsAt W (some ⟨d2, 0, none⟩) nb fb gb → Calls Try.prog 28 #[.agg #[.int .i64 ba, .slice (some ⟨d1, 0, none⟩) na na], .agg #[.int .i64 bb, .slice (some ⟨d2, 0, none⟩) nb nb]] W fun e w' => ∃ pa pk, e = .returned (.tuple #[.agg #[.int .i64 lb, .slice pa l.length pk], .bool ok]) ∧ CatsAt w' pa l.length (fstAt l) (sndAt l) ∧ Below w18.heap.size w18 w' ∧ Below W.heap.size W w' ∧ w'.cell? ⟨w.heap.size, 0, none⟩ = some (.int .i64 ba) ∧ w'.cell? ⟨w.heap.size, 1, none⟩ = some (.slice aa na ka) ∧ w'.cell? ⟨w.heap.size + 1, 0, none⟩ = some (.int .i64 bb) ∧ w'.cell? ⟨w.heap.size + 1, 1, none⟩ = some (.slice ab nb kb)) := fun W d1 d2 hW h1 h2 => by
        refine (IW.out _ _ _ _ _ h1 h2).mono ?_
        rintro e w' ⟨pa, pk, rfl, po, hb⟩
        have E := hW.trans (hb.mono hW.size)
        exact ⟨pa, pk, rfl, OwnCats.cats po, E, hb, (A18.below E).two.1, (A18.below E).two.2, (B18.below E).two.1, (B18.below E).two.2⟩
      have HE00 : Hid (Below w18.heap.size w18 w18.drew) := (Below.refl _ _).drew
      have HE0 : Hid (∀ o, Below w18.heap.size w18 (w18.alloc o).drew) := fun o => ((Below.refl _ _).alloc (Nat.le_refl _) o).drew
      obtain ⟨x1, x2⟩ := A18.two
      obtain ⟨x3, x4⟩ := B18.two
      go_upto_region 31 with fail
      go_cut [15, 16] (fun p q wd => ∃ (P : Nat) (pa : Option Addr) (pk : Nat), p = .pointer (some ⟨P, 0, none⟩) ∧ q = .bool ok ∧ Blk wd P (.cells #[.int .i64 lb, .slice pa l.length pk] 26) ∧ CatsAt wd pa l.length (fstAt l) (sndAt l) ∧ Below w18.heap.size w18 wd)
      case first =>
        go_region_held3 (fun w' => w'.cell? ⟨w.heap.size, 0, none⟩ = some (.int .i64 ba) ∧ w'.cell? ⟨w.heap.size, 1, none⟩ = some (.slice aa na ka) ∧ w'.cell? ⟨w.heap.size + 1, 0, none⟩ = some (.int .i64 bb) ∧ w'.cell? ⟨w.heap.size + 1, 1, none⟩ = some (.slice ab nb kb)) (first | (with_reducible refine ⟨cell_far (by omega) (cell_far (by omega) ?_), cell_far (by omega) (cell_far (by omega) ?_), cell_far (by omega) (cell_far (by omega) ?_), cell_far (by omega) (cell_far (by omega) ?_)⟩ <;> first | assumption | go_keep) | go_keep)
          (first
            | (go_at_call 28; refine (HJ.out _ d1 d2 ?hA ?hB ?hC).mono ?_; (case hA => first | with_reducible exact E2 | with_reducible exact E2.alloc E2.size _); (case hB => first | with_reducible exact C1.below hb2 | with_reducible exact (C1.alloc _).below hb2 | with_reducible exact (C1.below hb2).alloc _); (case hC => first | with_reducible exact C2 | with_reducible exact C2.alloc _); rintro e v3 ⟨pa, pk, rfl, pc, E3, hb3, p1, p2, p3, p4⟩; have e3 := E3.size; (first | (with_reducible (have Zk := (Blk.new v2 (.cells #[.int .i64 0, .slice none 0 0] 26)).below hb3); obtain ⟨k1, k2⟩ := Zk.two; have kf0 := Zk.frozen2 0; have kf1 := Zk.frozen2 1) | (with_reducible (have Zk := ((Blk.new v1 (.cells #[.int .i64 0, .slice none 0 0] 26)).below hb2).below hb3); obtain ⟨k1, k2⟩ := Zk.two; have kf0 := Zk.frozen2 0; have kf1 := Zk.frozen2 1) | (with_reducible (have Zk := (((Blk.new w18 (.cells #[.int .i64 0, .slice none 0 0] 26)).drew.below hb1).below hb2).below hb3); obtain ⟨k1, k2⟩ := Zk.two; have kf0 := Zk.frozen2 0; have kf1 := Zk.frozen2 1) | skip))
            | (go_at_call 48; have hb1' := hb1; clear hb1'; refine (HtB.out _ ?hB).mono ?_; (case hB => first | with_reducible exact E1 | with_reducible exact E1.alloc E1.size _); rintro e v2 ⟨d2, rfl, C2, E2, hb2, q1, q2, q3, q4⟩; have e2 := E2.size)
            | (go_at_call 48; refine (HtA.out _ ?hB).mono ?_; (case hB => first | exact HE00.out | exact HE0.out _); rintro e v1 ⟨d1, rfl, C1, E1, hb1, r1, r2, r3, r4⟩; have e1 := E1.size))
        all_goals
          clear HtA HtB HJ
          go_wp2_with fail
          go_meet
          case rel =>
            first | exact ⟨_, pa, pk, rfl, rfl, put26 Zk (by omega) pc E3⟩ | exact ⟨_, pa, pk, rfl, rfl, Blk.new _ _, pc.alloc _, E3.alloc E3.size _⟩
      case rest =>
      obtain ⟨H0, ra, rk, rfl, rfl, H, rc21, E21⟩ := hcut
      have T21 := T18.trans (E21.mono T18.size)
      have G21 := G18.below E21
      have MC21 := MC18.below E21
      have P21 := P.below T21
      clear x1 x2 x3 x4 HtA HtB HJ HE00 HE0 E21 A18 B18 L18 G18 MC18 T18
      obtain ⟨x1, x2⟩ := H.two
      obtain ⟨x3, x4⟩ := P21.two
      go_wp2_with fail
      refine (eqLabel_true _ _ _ _ _ _ (fstAt l) (sndAt l) _ hl rc21 (PC.below T21)).mono ?_
      rintro e w22 ⟨rfl, hb22⟩
      have T22 := T21.trans (hb22.mono T21.size)
      have G22 := G21.below hb22
      have MC22 := MC21.below hb22
      clear x1 x2 x3 x4 T21 G21 MC21 P21 H rc21 hb22
      obtain ⟨x1, x2⟩ := G22.two
      go_wp2_with fail
      refine (heldLabel_any _ _ _ _ _ _ hl' (by omega) (by omega) MC22).mono ?_
      rintro e w23 ⟨rfl, hb23⟩
      have L23 : Below w.heap.size w w23 := (L.trans (T22.mono L.size)).trans (hb23.mono (Nat.le_trans L.size T22.size))
      clear x1 x2 T22 G22 MC22 hb23
      go_wp2
      go_ret
      exact ⟨rfl, L23⟩
end Go.Proofs.Ytjmfaffghkclbaa
