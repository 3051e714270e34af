/- Meet of the program answers the plain function of the two labels. -/
import Derived.Test.YtjmfaffghkclbaaJL
namespace Go.Proofs.Ytjmfaffghkclbaa
open Go.RowKit Go.Deep Go.Maps

theorem MapIs.no_cellMeet {w : World} {b n : Nat} {m : Int → Option Int} (h : MapIs w b n m) (o : Nat) : w.cell? ⟨b, o, none⟩ = none := by
  obtain ⟨D, ⟨es, clock, hb, _⟩, _⟩ := h
  simp [World.cell?, hb]
theorem Cell2.grownMeet {W W' : World} {P : Nat} {x y : Value} {row : Nat} (h : Cell2 W P x y) (hg : W.grownBy W' (some row)) (hne : P ≠ row) : Cell2 W' P x y := (hg.block P h.lt (by simpa using hne)).trans h

theorem grown_twoMeet {a b c : World} {P : Nat} (h : a.grownBy b (some P)) (k : b.grownBy c (some P)) : a.grownBy c (some P) :=
  ⟨k.os.trans h.os, k.tape.trans h.tape, k.output.trans h.output, Nat.le_trans h.size k.size, fun j hj hne => (k.block j (Nat.lt_of_lt_of_le hj h.size) hne).trans (h.block j hj hne)⟩
theorem lesser_any (x y : Int) (w : World) : Calls Try.prog 75 #[.int .i64 x, .int .i64 y] w fun e w' => e = .returned (.int .i64 (min x y)) ∧ w' = w := by
  go_enter Try.func75, Try.ntmps75
  go_wp2
  go_ret
  exact ⟨rfl, rfl⟩

set_option maxRecDepth 100000 in
set_option maxHeartbeats 4000000 in
theorem mergedMeet_any (ba : Int) (aa : Option Addr) (na ka : Nat) (fa ga : Nat → Int) (bb : Int) (ab : Option Addr) (nb kb : Nat) (fb gb : Nat → Int) (w : World)
    (hna : na ≤ maxLen) (hnb : nb ≤ maxLen) (hca : CatsAt w aa na fa ga) (hcb : CatsAt w ab nb fb gb) :
    Calls Try.prog 73 #[.agg #[.int .i64 ba, .slice aa na ka], .agg #[.int .i64 bb, .slice ab nb kb], .func (.func 75) #[] #[]] w fun e w' => LabPost (mgBase min ba na fa ga bb nb fb gb) (mgList min ba na fa ga bb nb fb gb) (mgOk min ba na fa ga bb nb fb gb) w e w' := by
  have hb0 := (((Below.refl _ w).alloc (Nat.le_refl _) (.cells #[.int .i64 ba, .slice aa na ka] 26)).alloc (by simp) (.cells #[.int .i64 bb, .slice ab nb kb] 26)).alloc (by simp; omega) (.cells #[.int .i64 0, .slice none 0 0] 26)
  have A0 : Blk (((w.alloc (.cells #[.int .i64 ba, .slice aa na ka] 26)).alloc (.cells #[.int .i64 bb, .slice ab nb kb] 26)).alloc (.cells #[.int .i64 0, .slice none 0 0] 26)) w.heap.size (.cells #[.int .i64 ba, .slice aa na ka] 26) := ((Blk.new w _).alloc _).alloc _
  have B0 : Blk (((w.alloc (.cells #[.int .i64 ba, .slice aa na ka] 26)).alloc (.cells #[.int .i64 bb, .slice ab nb kb] 26)).alloc (.cells #[.int .i64 0, .slice none 0 0] 26)) (w.heap.size + 1) (.cells #[.int .i64 bb, .slice ab nb kb] 26) := by
    have := (Blk.new (w.alloc (.cells #[.int .i64 ba, .slice aa na ka] 26)) (.cells #[.int .i64 bb, .slice ab nb kb] 26)).alloc (.cells #[.int .i64 0, .slice none 0 0] 26)
    simpa using this
  have Y0 : Blk (((w.alloc (.cells #[.int .i64 ba, .slice aa na ka] 26)).alloc (.cells #[.int .i64 bb, .slice ab nb kb] 26)).alloc (.cells #[.int .i64 0, .slice none 0 0] 26)) (w.heap.size + 1 + 1) (.cells #[.int .i64 0, .slice none 0 0] 26) := by
    have := Blk.new ((w.alloc (.cells #[.int .i64 ba, .slice aa na ka] 26)).alloc (.cells #[.int .i64 bb, .slice ab nb kb] 26)) (.cells #[.int .i64 0, .slice none 0 0] 26)
    simpa using this
  have NP : Hid (∀ v : World, mgOk min ba na fa ga bb nb fb gb = false → Below w.heap.size w v → LabPost (mgBase min ba na fa ga bb nb fb gb) (mgList min ba na fa ga bb nb fb gb) (mgOk min ba na fa ga bb nb fb gb) w (.returned (.tuple #[.agg #[.int .i64 0, .slice none 0 0], .bool false])) v) := fun v h1 h2 => mgPost_no h1 h2
  have YES : Hid (∀ (va : Option Addr) (vc : Nat) (v : World), mgOk min ba na fa ga bb nb fb gb = true → Below w.heap.size w v → OwnList v w.heap.size (.slice va (mgAll min ba na fa ga bb nb fb gb).length vc) (mgAll min ba na fa ga bb nb fb gb) → LabPost (mgBase min ba na fa ga bb nb fb gb) (mgList min ba na fa ga bb nb fb gb) (mgOk min ba na fa ga bb nb fb gb) w (.returned (.tuple #[.agg #[.int .i64 (min ba bb), .slice va (mgAll min ba na fa ga bb nb fb gb).length vc], .bool true])) v) := fun va vc v h1 h2 h3 => mgPost_yes h1 h2 h3
  have HMO : Hid (mgOk min ba na fa ga bb nb fb gb = (labOk ba na fa ga && labOk bb nb fb gb && decide ((mgAll min ba na fa ga bb nb fb gb).length ≤ 12))) := rfl
  have HML : Hid (labOk ba na fa ga = true → labOk bb nb fb gb = true → ∀ (h h' : Nat → Int) (n n' : Nat), (∀ x, (∃ i, i < n ∧ h i = x) ↔ ((look fa ga na x).isSome || (look fb gb nb x).isSome) = true) → (∀ j, j < n' → ∀ i, i < j → h' i < h' j) → (∀ x, (∃ i, i < n' ∧ h' i = x) ↔ (mapTo (pkLev min ba na fa ga bb nb fb gb) h n x).isSome = true) → fltTo (min ba bb) (mapTo (pkLev min ba na fa ga bb nb fb gb) h n) h' n' = mgAll min ba na fa ga bb nb fb gb) :=
    fun h1 h2 h h' n n' e1 e2 e3 => merge_lists (rising (labOk_out h1).2.2) (rising (labOk_out h2).2.2) e1 e2 e3
  generalize LabPost (mgBase min ba na fa ga bb nb fb gb) (mgList min ba na fa ga bb nb fb gb) (mgOk min ba na fa ga bb nb fb gb) = LP at *
  generalize mgOk min ba na fa ga bb nb fb gb = OK at *
  generalize mgAll min ba na fa ga bb nb fb gb = ML at *
  go_enter Try.func73, Try.ntmps73
  go_wp2_with fail
  refine (implOk_any _ _ _ _ fa ga _ hna (hca.below hb0)).mono ?_
  rintro e w1 ⟨rfl, hb1⟩
  have A1 := A0.below hb1
  have B1 := B0.below hb1
  have Y1 := Y0.below hb1
  have L1 : Below w.heap.size w w1 := hb0.trans (hb1.mono hb0.size)
  clear hb0 hb1 A0 B0 Y0
  obtain ⟨x1, x2⟩ := B1.two
  obtain ⟨y1, y2⟩ := Y1.two
  have yf0 := Y1.frozen2 0
  have yf1 := Y1.frozen2 1
  by_cases t1 : labOk ba na fa ga = true
  · go_wp2_with fail
    refine (implOk_any _ _ _ _ fb gb _ hnb (hcb.below L1)).mono ?_
    rintro e w2 ⟨rfl, hb2⟩
    have A2 := A1.below hb2
    have B2 := B1.below hb2
    have Y2 := Y1.below hb2
    have L2 : Below w.heap.size w w2 := L1.trans (hb2.mono L1.size)
    clear hb2 A1 B1 Y1 L1 x1 x2 y1 y2 yf0 yf1
    have lY := Y2.lt
    obtain ⟨y1, y2⟩ := Y2.two
    have yf0 := Y2.frozen2 0
    have yf1 := Y2.frozen2 1
    by_cases t2 : labOk bb nb fb gb = true
    · obtain ⟨x1, x2⟩ := A2.two
      obtain ⟨x3, x4⟩ := B2.two
      clear y1 y2 yf0 yf1
      clear B2
      have B2 : Below w.heap.size w w2 := L2
      have z2 : w.heap.size + 1 < w2.heap.size := by omega
      have z2' : w.heap.size < w2.heap.size := by omega
      have A2' := A2
      have hb0 : True := trivial
      have HCA : Hid (CatsAt w aa na fa ga) := hca
      have HCB : Hid (CatsAt w ab nb fb gb) := hcb
      have HA2 : Hid (Blk w2 w.heap.size (.cells #[.int .i64 ba, .slice aa na ka] 26)) := A2
      have HY2 : Hid (Blk w2 (w.heap.size + 1 + 1) (.cells #[.int .i64 0, .slice none 0 0] 26)) := Y2
      clear A2 A2' Y2 L2
      have ma : na ≤ 1048576 := by have := (labOk_out t1).2.1; omega
      have mb : nb ≤ 1048576 := by have := (labOk_out t2).2.1; omega
      have Ca : CatsAt w2.drew aa na fa ga := hca.below B2.drew
      have Cb : CatsAt w2.drew ab nb fb gb := hcb.below B2.drew
      have WA := labOk_wf t1
      have WB := labOk_wf t2
      have HWA : Hid (∀ i, i < na → (Lit.int .i64 (fa i)).wf = true ∧ (Lit.int .i64 (ga i)).wf = true) := WA
      have HWB : Hid (∀ i, i < nb → (Lit.int .i64 (fb i)).wf = true ∧ (Lit.int .i64 (gb i)).wf = true) := WB
      clear WA WB Ca Cb
      have levA : ∀ W, Below w2.heap.size w2 W → Calls Try.prog 68 #[.agg #[.int .i64 ba, .slice aa na ka]] W fun e w' => ∃ c, e = .returned (.agg #[.int .i64 ba, .map (some c)]) ∧ W.heap.size ≤ c ∧ MapIs w' c na (look fa ga na) ∧ (∀ b o, b < W.heap.size → w'.cell? ⟨b, o, none⟩ = W.cell? ⟨b, o, none⟩) ∧ (∀ b o, b < W.heap.size → w'.frozen? ⟨b, o, none⟩ = W.frozen? ⟨b, o, none⟩) ∧ (∀ V : World, V.heap.size ≤ W.heap.size → V.heap.size + 3 < w'.heap.size) ∧ Below w2.heap.size w2 w' ∧ Below W.heap.size W w' ∧ (w'.heap.size ≠ w.heap.size ∧ w'.heap.size ≠ w.heap.size + 1 ∧ w'.heap.size + 1 ≠ w.heap.size) ∧ (w2.heap.size < w'.heap.size ∧ w2.heap.size + 1 < w'.heap.size ∧ w'.heap.size ≠ w2.heap.size ∧ w'.heap.size ≠ w2.heap.size + 1 ∧ w'.heap.size + 1 ≠ w2.heap.size) ∧ w'.cell? ⟨w.heap.size, 0, none⟩ = some (.int .i64 ba) ∧ w'.cell? ⟨w.heap.size, 1, none⟩ = some (.slice aa na ka) ∧ w'.cell? ⟨w.heap.size + 1, 0, none⟩ = some (.int .i64 bb) ∧ w'.cell? ⟨w.heap.size + 1, 1, none⟩ = some (.slice ab nb kb) := fun W hW => by
        refine (levelsOf_any ba aa na ka fa ga W ma (hca.below (B2.trans (hW.mono B2.size))) HWA.out).mono ?_
        rintro e w' ⟨c, rfl, hl, hm, hz, hb⟩
        have hW' := hW.trans (hb.mono hW.size)
        obtain ⟨q, p⟩ := bcell hb
        exact ⟨c, rfl, hl, hm, q, p, fun V hV => by omega, hW', hb, (by have := hW'.size; omega), lt3 (by have := hW.size; omega), (hW'.cell (p := ⟨_, _, none⟩) z2').trans x1, (hW'.cell (p := ⟨_, _, none⟩) z2').trans x2, (hW'.cell (p := ⟨_, _, none⟩) z2).trans x3, (hW'.cell (p := ⟨_, _, none⟩) z2).trans x4⟩
      have HlevA : Hid (∀ W, Below w2.heap.size w2 W → Calls Try.prog 68 #[.agg #[.int .i64 ba, .slice aa na ka]] W fun e w' => ∃ c, e = .returned (.agg #[.int .i64 ba, .map (some c)]) ∧ W.heap.size ≤ c ∧ MapIs w' c na (look fa ga na) ∧ (∀ b o, b < W.heap.size → w'.cell? ⟨b, o, none⟩ = W.cell? ⟨b, o, none⟩) ∧ (∀ b o, b < W.heap.size → w'.frozen? ⟨b, o, none⟩ = W.frozen? ⟨b, o, none⟩) ∧ (∀ V : World, V.heap.size ≤ W.heap.size → V.heap.size + 3 < w'.heap.size) ∧ Below w2.heap.size w2 w' ∧ Below W.heap.size W w' ∧ (w'.heap.size ≠ w.heap.size ∧ w'.heap.size ≠ w.heap.size + 1 ∧ w'.heap.size + 1 ≠ w.heap.size) ∧ (w2.heap.size < w'.heap.size ∧ w2.heap.size + 1 < w'.heap.size ∧ w'.heap.size ≠ w2.heap.size ∧ w'.heap.size ≠ w2.heap.size + 1 ∧ w'.heap.size + 1 ≠ w2.heap.size) ∧ w'.cell? ⟨w.heap.size, 0, none⟩ = some (.int .i64 ba) ∧ w'.cell? ⟨w.heap.size, 1, none⟩ = some (.slice aa na ka) ∧ w'.cell? ⟨w.heap.size + 1, 0, none⟩ = some (.int .i64 bb) ∧ w'.cell? ⟨w.heap.size + 1, 1, none⟩ = some (.slice ab nb kb)) := levA
      clear levA
      have levB : ∀ W, Below w2.heap.size w2 W → Calls Try.prog 68 #[.agg #[.int .i64 bb, .slice ab nb kb]] W fun e w' => ∃ c, e = .returned (.agg #[.int .i64 bb, .map (some c)]) ∧ W.heap.size ≤ c ∧ MapIs w' c nb (look fb gb nb) ∧ (∀ b o, b < W.heap.size → w'.cell? ⟨b, o, none⟩ = W.cell? ⟨b, o, none⟩) ∧ (∀ b o, b < W.heap.size → w'.frozen? ⟨b, o, none⟩ = W.frozen? ⟨b, o, none⟩) ∧ (∀ V : World, V.heap.size ≤ W.heap.size → V.heap.size + 3 < w'.heap.size) ∧ Below w2.heap.size w2 w' ∧ Below W.heap.size W w' ∧ (w'.heap.size ≠ w.heap.size ∧ w'.heap.size ≠ w.heap.size + 1 ∧ w'.heap.size + 1 ≠ w.heap.size) ∧ (w2.heap.size < w'.heap.size ∧ w2.heap.size + 1 < w'.heap.size ∧ w'.heap.size ≠ w2.heap.size ∧ w'.heap.size ≠ w2.heap.size + 1 ∧ w'.heap.size + 1 ≠ w2.heap.size) ∧ w'.cell? ⟨w.heap.size, 0, none⟩ = some (.int .i64 ba) ∧ w'.cell? ⟨w.heap.size, 1, none⟩ = some (.slice aa na ka) ∧ w'.cell? ⟨w.heap.size + 1, 0, none⟩ = some (.int .i64 bb) ∧ w'.cell? ⟨w.heap.size + 1, 1, none⟩ = some (.slice ab nb kb) := fun W hW => by
        refine (levelsOf_any bb ab nb kb fb gb W mb (hcb.below (B2.trans (hW.mono B2.size))) HWB.out).mono ?_
        rintro e w' ⟨c, rfl, hl, hm, hz, hb⟩
        have hW' := hW.trans (hb.mono hW.size)
        obtain ⟨q, p⟩ := bcell hb
        exact ⟨c, rfl, hl, hm, q, p, fun V hV => by omega, hW', hb, (by have := hW'.size; omega), lt3 (by have := hW.size; omega), (hW'.cell (p := ⟨_, _, none⟩) z2').trans x1, (hW'.cell (p := ⟨_, _, none⟩) z2').trans x2, (hW'.cell (p := ⟨_, _, none⟩) z2).trans x3, (hW'.cell (p := ⟨_, _, none⟩) z2).trans x4⟩
      have HlevB : Hid (∀ W, Below w2.heap.size w2 W → Calls Try.prog 68 #[.agg #[.int .i64 bb, .slice ab nb kb]] W fun e w' => ∃ c, e = .returned (.agg #[.int .i64 bb, .map (some c)]) ∧ W.heap.size ≤ c ∧ MapIs w' c nb (look fb gb nb) ∧ (∀ b o, b < W.heap.size → w'.cell? ⟨b, o, none⟩ = W.cell? ⟨b, o, none⟩) ∧ (∀ b o, b < W.heap.size → w'.frozen? ⟨b, o, none⟩ = W.frozen? ⟨b, o, none⟩) ∧ (∀ V : World, V.heap.size ≤ W.heap.size → V.heap.size + 3 < w'.heap.size) ∧ Below w2.heap.size w2 w' ∧ Below W.heap.size W w' ∧ (w'.heap.size ≠ w.heap.size ∧ w'.heap.size ≠ w.heap.size + 1 ∧ w'.heap.size + 1 ≠ w.heap.size) ∧ (w2.heap.size < w'.heap.size ∧ w2.heap.size + 1 < w'.heap.size ∧ w'.heap.size ≠ w2.heap.size ∧ w'.heap.size ≠ w2.heap.size + 1 ∧ w'.heap.size + 1 ≠ w2.heap.size) ∧ w'.cell? ⟨w.heap.size, 0, none⟩ = some (.int .i64 ba) ∧ w'.cell? ⟨w.heap.size, 1, none⟩ = some (.slice aa na ka) ∧ w'.cell? ⟨w.heap.size + 1, 0, none⟩ = some (.int .i64 bb) ∧ w'.cell? ⟨w.heap.size + 1, 1, none⟩ = some (.slice ab nb kb)) := levB
      clear levB
      have HE00 : Hid (Below w2.heap.size w2 w2.drew) := (Below.refl _ _).drew
      have HE0 : Hid (∀ o, Below w2.heap.size w2 (w2.alloc o).drew) := fun o => ((Below.refl _ _).alloc (Nat.le_refl _) o).drew
      have HE000 : Hid (∀ o o', Below w2.heap.size w2 ((w2.alloc o).alloc o').drew) := fun o o' => (((Below.refl _ _).alloc (Nat.le_refl _) o).alloc (by simp) o').drew
      have HB2 : Hid (Below w.heap.size w w2) := B2
      clear hca hcb hb0 B2
      have n1 : w2.heap.size ≠ w.heap.size := by omega
      have n2 : w2.heap.size ≠ w.heap.size + 1 := by omega
      have n3 : w2.heap.size + 1 ≠ w.heap.size := by omega
      go_upto_region 3 with fail
      go_cut [8, 9] (fun p q wc => ∃ P Q c d : Nat, p = .pointer (some ⟨P, 0, none⟩) ∧ q = .pointer (some ⟨Q, 0, none⟩) ∧ Cell2 wc P (.int .i64 ba) (.map (some c)) ∧ Cell2 wc Q (.int .i64 bb) (.map (some d)) ∧ MapIs wc c na (look fa ga na) ∧ MapIs wc d nb (look fb gb nb) ∧ Below w2.heap.size w2 wc)
      case first =>
        go_region_held3 (fun w' => w'.cell? ⟨w.heap.size, 0, none⟩ = some (.int .i64 ba) ∧ w'.cell? ⟨w.heap.size, 1, none⟩ = some (.slice aa na ka) ∧ w'.cell? ⟨w.heap.size + 1, 0, none⟩ = some (.int .i64 bb) ∧ w'.cell? ⟨w.heap.size + 1, 1, none⟩ = some (.slice ab nb kb)) (first | go_keep | (simp [*]))
          (first
            | (go_at_call 68; have hb1' := hb1; clear hb1'; refine (HlevB.out _ ?hB).mono ?_; (case hB => first | exact E1 | exact E1.alloc E1.size _ | exact (E1.alloc E1.size _).alloc (E1.alloc E1.size _).size _); rintro e v2 ⟨c2, rfl, hl2, m2, qb, pb, rb, E2, hb2, ⟨s1, s2, s3⟩, ⟨g1, g2, g3, g4, g5⟩, y1, y2, y3, y4⟩; have rb' := rb v1 (by simp; try omega); obtain ⟨f1, f2, f3, f4, f5⟩ := lt3 rb')
            | (go_at_call 68; refine (HlevA.out _ ?hB).mono ?_; (case hB => first | exact HE00.out | exact HE0.out _ | exact HE000.out _ _); rintro e v1 ⟨c1, rfl, hl1, m1, qa, pa, ra, E1, hb1, ⟨r1, r2, r3⟩, ⟨d1, d2, d3, d4, d5⟩, p1, p2, p3, p4⟩))
        all_goals
          have l1 := m1.lt
          have l2 := m2.lt
          try simp at hl1
          try simp at hl2
          clear qa pa qb pb HlevA HlevB
          have E3 : Below w2.heap.size w2 v2 := E2
          go_wp2_with fail
          go_meet
          case rel =>
            refine ⟨_, _, c1, c2, rfl, rfl, ?_, ?_, ?_, ?_, ?_⟩
            · repeat (first | (with_reducible refine Cell2.new' ?_; simp; done) | with_reducible refine Cell2.set01 ?_ _ _ | (with_reducible refine Cell2.other ?_ ?_ _; rotate_left; (dsimp only; omega)) | with_reducible refine Cell2.alloc ?_ _)
              all_goals repeat (first | (with_reducible refine Has2.new' ?_; simp; done) | (with_reducible refine Has2.other ?_ ?_ _; rotate_left; (dsimp only; omega)) | with_reducible refine Has2.alloc ?_ _ | with_reducible refine Has2.drew ?_ | with_reducible refine Has2.below ?_ hb2 | with_reducible refine Has2.below ?_ hb1)
            · repeat (first | (with_reducible refine Cell2.new' ?_; simp; done) | with_reducible refine Cell2.set01 ?_ _ _ | (with_reducible refine Cell2.other ?_ ?_ _; rotate_left; (dsimp only; omega)) | with_reducible refine Cell2.alloc ?_ _)
              all_goals repeat (first | (with_reducible refine Has2.new' ?_; simp; done) | (with_reducible refine Has2.other ?_ ?_ _; rotate_left; (dsimp only; omega)) | with_reducible refine Has2.alloc ?_ _ | with_reducible refine Has2.drew ?_ | with_reducible refine Has2.below ?_ hb2 | with_reducible refine Has2.below ?_ hb1)
            · repeat (first | with_reducible exact m1 | (with_reducible refine MapIs.setCell ?_ ?_ _; rotate_left; (dsimp only; omega)) | with_reducible refine MapIs.alloc ?_ _ | with_reducible refine MapIs.below ?_ hb2)
            · repeat (first | with_reducible exact m2 | (with_reducible refine MapIs.setCell ?_ ?_ _; rotate_left; (dsimp only; omega)) | with_reducible refine MapIs.alloc ?_ _)
            · repeat (first | with_reducible exact E3 | (with_reducible refine Below.setCell ?_ ?_ _; rotate_left; (dsimp only; omega)) | (with_reducible refine Below.alloc ?_ ?_ _; rotate_left; (first | omega | (simp; omega))))
      case rest =>
        obtain ⟨P, Q, c, d, rfl, rfl, u1, u2, m1, m2, Bc⟩ := hcut
        have lP := u1.lt
        have lQ := u2.lt
        obtain ⟨a1, a2⟩ := u1.cells
        obtain ⟨a3, a4⟩ := u2.cells
        have Y3 := HY2.out.below Bc
        have s3 := Bc.size
        clear n1 n2 n3 x1 x2 x3 x4 HE00 HE0 HE000 HlevA HlevB HWA HWB HA2 HY2
        go_wp2_with fail
        refine (lesser_any _ _ _).mono ?_
        rintro e wc' ⟨rfl, rfl⟩
        have hmm := @run_makeMap Try.prog
        go_wp2_with fail
        have M4 : MapIs ((wc'.alloc (.map #[] 0)).alloc (.cells #[.int .i64 (min ba bb), .map (some wc'.heap.size)] 78)) wc'.heap.size 0 (fun _ => none) := (MapIs.made wc').alloc _
        have V4 : Blk ((wc'.alloc (.map #[] 0)).alloc (.cells #[.int .i64 (min ba bb), .map (some wc'.heap.size)] 78)) (wc'.heap.size + 1) (.cells #[.int .i64 (min ba bb), .map (some wc'.heap.size)] 78) := by
          have := Blk.new (wc'.alloc (.map #[] 0)) (.cells #[.int .i64 (min ba bb), .map (some wc'.heap.size)] 78)
          simpa using this
        have m14 := (m1.alloc (.map #[] 0)).alloc (.cells #[.int .i64 (min ba bb), .map (some wc'.heap.size)] 78)
        have m24 := (m2.alloc (.map #[] 0)).alloc (.cells #[.int .i64 (min ba bb), .map (some wc'.heap.size)] 78)
        have u14 := (u1.alloc (.map #[] 0)).alloc (.cells #[.int .i64 (min ba bb), .map (some wc'.heap.size)] 78)
        have u24 := (u2.alloc (.map #[] 0)).alloc (.cells #[.int .i64 (min ba bb), .map (some wc'.heap.size)] 78)
        have Y4 := (Y3.alloc (.map #[] 0)).alloc (.cells #[.int .i64 (min ba bb), .map (some wc'.heap.size)] 78)
        have K4 : Below w2.heap.size w2 ((wc'.alloc (.map #[] 0)).alloc (.cells #[.int .i64 (min ba bb), .map (some wc'.heap.size)] 78)) := (Bc.alloc s3 _).alloc (by simp; omega) _
        have lc := m1.lt
        have ld := m2.lt
        generalize (wc'.alloc (.map #[] 0)).alloc (.cells #[.int .i64 (min ba bb), .map (some wc'.heap.size)] 78) = W4 at *
        have lV := V4.lt
        clear a1 a2 a3 a4 m1 m2 u1 u2 Y3 Bc hmm
        refine (namedBy_any _ _ _ _ _ _ _ _ _ m14 m24 (by omega)).mono ?_
        rintro e w3 ⟨a, n, cap, h, rfl, hle, hat, hmem, hris, hwf, hb3⟩
        have M5 := M4.below hb3
        have V5 := V4.below hb3
        have m15 := m14.below hb3
        have m25 := m24.below hb3
        have u15 := u14.below hb3
        have u25 := u24.below hb3
        have Y5 := Y4.below hb3
        have s5 := hb3.size
        have K5 : Below w2.heap.size w2 w3 := K4.trans (hb3.mono K4.size)
        have HM : Hid (∀ x, (∃ i, i < n ∧ h i = x) ↔ ((look fa ga na x).isSome || (look fb gb nb x).isSome) = true) := hmem
        have HWF : Hid (∀ i, i < n → (Lit.int .i64 (h i)).wf = true) := hwf
        clear M4 V4 m14 m24 u14 u24 Y4 hb3 K4 hmem hwf hris
        go_wp2
        have HLW : Hid (∀ x, (Lit.int .i64 (pkLev min ba na fa ga bb nb fb gb x)).wf = true) := fun x => by
          have := pkLev_range (picks_min) t1 t2 x
          exact wf_of_le (by omega) (by omega)
        have HLV : Hid (∀ x, pkLev min ba na fa ga bb nb fb gb x = min (levOf ba na fa ga x) (levOf bb nb fb gb x)) := fun x => rfl
        have HM2 : Hid (∀ (h' : Nat → Int) (n' : Nat), (∀ j, j < n' → ∀ i, i < j → h' i < h' j) → (∀ x, (∃ i, i < n' ∧ h' i = x) ↔ (mapTo (pkLev min ba na fa ga bb nb fb gb) h n x).isSome = true) → fltTo (min ba bb) (mapTo (pkLev min ba na fa ga bb nb fb gb) h n) h' n' = ML) := fun h' n' e2 e3 => HML.out t1 t2 h h' n n' HM.out e2 e3
        have HOK : Hid (OK = decide (ML.length ≤ 12)) := by show _ = _; rw [HMO.out, t1, t2]; simp
        generalize pkLev min ba na fa ga bb nb fb gb = lev at *
        clear HML HMO
        go_loopw [38] (fun i wr => ∃ k : Nat, k ≤ n ∧ i = .int .i64 k ∧ MapIs wr wc'.heap.size k (mapTo lev h k) ∧ w3.grownBy wr (some wc'.heap.size)) (fun i _ => n - (intOf i).toNat)
        case atStart => exact ⟨0, Nat.zero_le _, rfl, M5, grown_refl _ _⟩
        case round =>
          obtain ⟨k, hk, rfl, hMr, hg⟩ := hrel
          have hs := hg.size
          by_cases hlt' : k < n
          · obtain ⟨b, off, rfl, hlt, hcc⟩ := hat (by omega)
            have hne : b ≠ wc'.heap.size := fun e => by
              have h1 := hcc k hlt'
              rw [e, M5.no_cellMeet] at h1
              cases h1
            have r5 : wr.cell? ⟨b, off + k, none⟩ = some (.int .i64 (h k)) := (grown_cell hg hlt hne).trans (hcc k hlt')
            have Pr := u15.grownMeet hg (by omega)
            have Qr := u25.grownMeet hg (by omega)
            have Vr : Blk wr (wc'.heap.size + 1) (.cells #[.int .i64 (min ba bb), .map (some wc'.heap.size)] 78) := V5.grown hg (by simp)
            have mr1 := m15.of_block (hg.block c m15.lt (by simp; omega))
            have mr2 := m25.of_block (hg.block d m25.lt (by simp; omega))
            obtain ⟨r1, r2⟩ := Pr.cells
            obtain ⟨r3, r4⟩ := Qr.cells
            obtain ⟨r6, r7⟩ := Vr.two
            have wx := HWF.out k hlt'
            go_wp2_with fail
            have Pd : Cell2 wr.drew P (.int .i64 ba) (.map (some c)) := Pr
            have Qd : Cell2 wr.drew Q (.int .i64 bb) (.map (some d)) := Qr
            have Vd : Blk wr.drew (wc'.heap.size + 1) (.cells #[.int .i64 (min ba bb), .map (some wc'.heap.size)] 78) := Vr
            have N1 : MapIs wr.drew c na (look fa ga na) := mr1.below (Below.refl _ _).drew
            have N2 : MapIs wr.drew d nb (look fb gb nb) := mr2.below (Below.refl _ _).drew
            have N3 : MapIs wr.drew wc'.heap.size k (mapTo lev h k) := hMr.below (Below.refl _ _).drew
            have S0 : wr.drew.cell? ⟨P, 0, none⟩ = some (.int .i64 ba) ∧ wr.drew.cell? ⟨P, 1, none⟩ = some (.map (some c)) ∧ wr.drew.cell? ⟨Q, 0, none⟩ = some (.int .i64 bb) ∧ wr.drew.cell? ⟨Q, 1, none⟩ = some (.map (some d)) ∧ wr.drew.cell? ⟨wc'.heap.size + 1, 1, none⟩ = some (.map (some wc'.heap.size)) := ⟨r1, r2, r3, r4, r7⟩
            clear r1 r2 r3 r4 r5 r6 r7 hcc hat Pr Qr Vr mr1 mr2
            refine AnyL.region (fun w' => w'.cell? ⟨P, 0, none⟩ = some (.int .i64 ba) ∧ w'.cell? ⟨P, 1, none⟩ = some (.map (some c)) ∧ w'.cell? ⟨Q, 0, none⟩ = some (.int .i64 bb) ∧ w'.cell? ⟨Q, 1, none⟩ = some (.map (some d)) ∧ w'.cell? ⟨wc'.heap.size + 1, 1, none⟩ = some (.map (some wc'.heap.size))) 11 (by kernel_rfl) ?_
            refine AnyL.take (i := 0) (.pointer (some ⟨wc'.heap.size + 1, 1, none⟩)) rfl (by kernel_rfl) (by kernel_rfl) (by kernel_rfl) (by kernel_rfl) (fun _ _ _ h => h) S0 (Or.inl ⟨by rfl, fun w' h => (by dsimp only at h; go_simp)⟩) ?_
            simp only [Act.put, List.setIfInBounds_toArray]
            refine AnyL.take (i := 1) (.map (some wc'.heap.size)) rfl (by kernel_rfl) (by kernel_rfl) (by kernel_rfl) (by kernel_rfl) (fun _ _ _ h => h) S0 (Or.inl ⟨by rfl, fun w' h => (by dsimp only at h; go_simp)⟩) ?_
            simp only [Act.put]
            refine AnyL.take (i := 2) (.int .i64 (h k)) rfl (by kernel_rfl) (by kernel_rfl) (by kernel_rfl) (by kernel_rfl) (fun _ _ _ h => h) S0 (Or.inl ⟨by rfl, fun w' h => (by dsimp only at h; go_simp)⟩) ?_
            simp only [Act.put]
            refine AnyL.take (i := 3) (.func (.func 75) #[] #[]) rfl (by kernel_rfl) (by kernel_rfl) (by kernel_rfl) (by kernel_rfl) (fun _ _ _ h => h) S0 (Or.inl ⟨by rfl, fun w' h => (by dsimp only at h; go_simp)⟩) ?_
            simp only [Act.put]
            refine AnyL.take (i := 4) (.agg #[.int .i64 ba, .map (some c)]) rfl (by kernel_rfl) (by kernel_rfl) (by kernel_rfl) (by kernel_rfl) (fun _ _ _ h => h) S0 (Or.inl ⟨by rfl, fun w' h => (by dsimp only at h; go_simp)⟩) ?_
            simp only [Act.put]
            refine AnyL.take (i := 5) (.int .i64 (h k)) rfl (by kernel_rfl) (by kernel_rfl) (by kernel_rfl) (by kernel_rfl) (fun _ _ _ h => h) S0 (Or.inl ⟨by rfl, fun w' h => (by dsimp only at h; go_simp)⟩) ?_
            simp only [Act.put]
            refine AnyL.take (i := 7) (.agg #[.int .i64 bb, .map (some d)]) rfl (by kernel_rfl) (by kernel_rfl) (by kernel_rfl) (by kernel_rfl) (fun _ _ _ h => h) S0 (Or.inl ⟨by rfl, fun w' h => (by dsimp only at h; go_simp)⟩) ?_
            simp only [Act.put]
            refine AnyL.take (i := 8) (.int .i64 (h k)) rfl (by kernel_rfl) (by kernel_rfl) (by kernel_rfl) (by kernel_rfl) (fun _ _ _ h => h) S0 (Or.inl ⟨by rfl, fun w' h => (by dsimp only at h; go_simp)⟩) ?_
            simp only [Act.put]
            refine AnyL.one (i := 6) rfl (by kernel_rfl) (fun K1 hK1 => ?_)
            go_simp
            refine (of_lev ba c na fa ga (h k) _ N1 wx).mono ?_
            rintro e v1 ⟨rfl, hb1⟩
            have S1 : v1.cell? ⟨P, 0, none⟩ = some (.int .i64 ba) ∧ v1.cell? ⟨P, 1, none⟩ = some (.map (some c)) ∧ v1.cell? ⟨Q, 0, none⟩ = some (.int .i64 bb) ∧ v1.cell? ⟨Q, 1, none⟩ = some (.map (some d)) ∧ v1.cell? ⟨wc'.heap.size + 1, 1, none⟩ = some (.map (some wc'.heap.size)) := ⟨(Pd.below hb1).cells.1, (Pd.below hb1).cells.2, (Qd.below hb1).cells.1, (Qd.below hb1).cells.2, (Vd.below hb1).two.2⟩
            refine hK1.out _ _ (fun _ => S1) ?_
            clear hK1 K1 S0
            refine AnyL.one (i := 9) rfl (by kernel_rfl) (fun K1 hK1 => ?_)
            go_simp
            refine (of_lev bb d nb fb gb (h k) _ (N2.below hb1) wx).mono ?_
            rintro e v2 ⟨rfl, hb2⟩
            have S2 : v2.cell? ⟨P, 0, none⟩ = some (.int .i64 ba) ∧ v2.cell? ⟨P, 1, none⟩ = some (.map (some c)) ∧ v2.cell? ⟨Q, 0, none⟩ = some (.int .i64 bb) ∧ v2.cell? ⟨Q, 1, none⟩ = some (.map (some d)) ∧ v2.cell? ⟨wc'.heap.size + 1, 1, none⟩ = some (.map (some wc'.heap.size)) := ⟨((Pd.below hb1).below hb2).cells.1, ((Pd.below hb1).below hb2).cells.2, ((Qd.below hb1).below hb2).cells.1, ((Qd.below hb1).below hb2).cells.2, ((Vd.below hb1).below hb2).two.2⟩
            refine hK1.out _ _ (fun _ => S2) ?_
            clear hK1 K1 S1
            refine AnyL.one (i := 10) rfl (by kernel_rfl) (fun K1 hK1 => ?_)
            go_simp
            refine (lesser_any _ _ _).mono ?_
            rintro e v2' ⟨rfl, rfl⟩
            refine hK1.out _ _ (fun _ => S2) ?_
            clear hK1 K1
            have M2 := (N3.below hb1).below hb2
            have wl := HLW.out (h k)
            rw [HLV.out] at wl
            refine AnyL.one (i := 11) rfl (by kernel_rfl) (fun K1 hK1 => ?_)
            refine step_mapUpdate rfl _ _ _ rfl rfl M2 (by unfold maxLen; omega) (h k) (min (levOf ba na fa ga (h k)) (levOf bb nb fb gb (h k))) rfl rfl wx wl ?_
            intro w9 hM9 hg9
            refine hK1.out _ _ (fun h => absurd rfl h) ?_
            refine AnyL.done (by kernel_rfl) ?_
            have hg8 : w3.grownBy v2' (some wc'.heap.size) := grown_below (grown_below (⟨hg.os, hg.tape, hg.output, hg.size, hg.block⟩ : w3.grownBy wr.drew (some wc'.heap.size)) hb1) hb2
            have hgN : w3.grownBy w9 (some wc'.heap.size) := grown_twoMeet hg8 hg9
            rw [← HLV.out] at hM9
            clear hK1 K1 S2 M2 wl hb1 hb2 N1 N2 N3 Pd Qd Vd hg8 hg9
            go_wp2
            go_roundw
            case rel => exact ⟨k + 1, by omega, by go_num, hM9, hgN⟩
            case measure => simp [intOf]; omega
          · have e : k = n := by omega
            subst e
            have Vr : Blk wr (wc'.heap.size + 1) (.cells #[.int .i64 (min ba bb), .map (some wc'.heap.size)] 78) := V5.grown hg (by simp)
            have Yr : Blk wr (w.heap.size + 1 + 1) (.cells #[.int .i64 0, .slice none 0 0] 26) := Y5.grown hg (by simp; omega)
            have Lr : Below w.heap.size w wr := (HB2.out.trans (K5.mono HB2.out.size)).grown hg (by have := K5.size; have := HB2.out.size; omega) (fun j e => by cases e; omega)
            obtain ⟨r6, r7⟩ := Vr.two
            clear hat m15 m25 u15 u25 V5 Y5 M5
            go_wp2_with fail
            refine (label_any _ _ _ _ _ hMr (by have := (labOk_out t1).2.1; have := (labOk_out t2).2.1; omega)).mono ?_
            rintro e w6 ⟨k', h', hmem', hris', hk', hres, hb6⟩
            rw [HM2.out h' k' hris' hmem'] at hres
            have Y6 := Yr.below hb6
            obtain ⟨y1, y2⟩ := Y6.two
            have yf0 := Y6.frozen2 0
            have yf1 := Y6.frozen2 1
            have L6 : Below w.heap.size w w6 := Lr.trans (hb6.mono Lr.size)
            have lYr := Yr.lt
            clear r6 r7 Vr Yr hmem' hris' HM2 HLW HLV hMr
            rcases hres with ⟨t3, rfl⟩ | ⟨t3, va, vc, rfl, ho⟩
            · have HW : Hid (OK = false) := by show _ = _; rw [HOK.out]; simpa using t3
              clear t3
              go_wp2
              exact bodyPost_ret (v := .tuple #[.agg #[.int .i64 0, .slice none 0 0], .bool false]) (by simp [results, Try.results73, go_sem, *]) rfl (NP.out _ HW.out ((L6.setCell (by dsimp only; omega) _).setCell (by dsimp only; omega) _))
            · have HW : Hid (OK = true) := by show _ = _; rw [HOK.out]; simpa using t3
              have HO : Hid (OwnList w6 wr.heap.size (.slice va ML.length vc) ML) := ho
              clear t3 ho
              go_wp2
              refine bodyPost_ret (v := .tuple #[.agg #[.int .i64 (min ba bb), .slice va ML.length vc], .bool true]) (by simp [results, Try.results73, go_sem, *]) rfl (YES.out _ _ _ HW.out ((L6.setCell (by dsimp only; omega) _).setCell (by dsimp only; omega) _) ?_)
              exact ownsRow_base_a (OwnList.set (OwnList.set HO.out (by omega) _ _) (by omega) _ _) (by have := Lr.size; omega)
    · have t2' : labOk bb nb fb gb = false := by simpa using t2
      have HW : Hid (OK = false) := by show _ = _; rw [HMO.out, t2']; simp
      clear t2
      go_wp2
      exact bodyPost_ret (v := .tuple #[.agg #[.int .i64 0, .slice none 0 0], .bool false]) (by simp [results, Try.results73, go_sem, *]) rfl (NP.out _ HW.out ((L2.setCell (by dsimp only; omega) _).setCell (by dsimp only; omega) _))
  · have t1' : labOk ba na fa ga = false := by simpa using t1
    have HW : Hid (OK = false) := by show _ = _; rw [HMO.out, t1']; simp
    have lY := Y1.lt
    clear t1
    go_wp2
    exact bodyPost_ret (v := .tuple #[.agg #[.int .i64 0, .slice none 0 0], .bool false]) (by simp [results, Try.results73, go_sem, *]) rfl (NP.out _ HW.out ((L1.setCell (by dsimp only; omega) _).setCell (by dsimp only; omega) _))

set_option maxRecDepth 100000 in
set_option maxHeartbeats 1000000 in
theorem implMeet_any (ba : Int) (aa : Option Addr) (na ka : Nat) (fa ga : Nat → Int) (bb : Int) (ab : Option Addr) (nb kb : Nat) (fb gb : Nat → Int) (w : World)
    (hna : na ≤ maxLen) (hnb : nb ≤ maxLen) (hca : CatsAt w aa na fa ga) (hcb : CatsAt w ab nb fb gb) :
    Calls Try.prog 29 #[.agg #[.int .i64 ba, .slice aa na ka], .agg #[.int .i64 bb, .slice ab nb kb]] w fun e w' => LabPost (mgBase min ba na fa ga bb nb fb gb) (mgList min ba na fa ga bb nb fb gb) (mgOk min ba na fa ga bb nb fb gb) w e w' := by
  have hb0 := (((Below.refl _ w).alloc (Nat.le_refl _) (.cells #[.int .i64 ba, .slice aa na ka] 26)).alloc (by simp) (.cells #[.int .i64 bb, .slice ab nb kb] 26)).alloc (by simp; omega) (.cells #[.int .i64 0, .slice none 0 0] 26)
  have Y0 : Blk (((w.alloc (.cells #[.int .i64 ba, .slice aa na ka] 26)).alloc (.cells #[.int .i64 bb, .slice ab nb kb] 26)).alloc (.cells #[.int .i64 0, .slice none 0 0] 26)) (w.heap.size + 1 + 1) (.cells #[.int .i64 0, .slice none 0 0] 26) := by
    have := Blk.new ((w.alloc (.cells #[.int .i64 ba, .slice aa na ka] 26)).alloc (.cells #[.int .i64 bb, .slice ab nb kb] 26)) (.cells #[.int .i64 0, .slice none 0 0] 26)
    simpa using this
  have HM : Hid (∀ v : World, CatsAt v aa na fa ga → CatsAt v ab nb fb gb → Calls Try.prog 73 #[.agg #[.int .i64 ba, .slice aa na ka], .agg #[.int .i64 bb, .slice ab nb kb], .func (.func 75) #[] #[]] v fun e w' => LabPost (mgBase min ba na fa ga bb nb fb gb) (mgList min ba na fa ga bb nb fb gb) (mgOk min ba na fa ga bb nb fb gb) v e w') := fun v h1 h2 => mergedMeet_any _ _ _ _ _ _ _ _ _ _ _ _ _ hna hnb h1 h2
  unfold LabPost at HM ⊢
  generalize mgBase min ba na fa ga bb nb fb gb = lb at *
  generalize mgOk min ba na fa ga bb nb fb gb = ok at *
  generalize mgList min ba na fa ga bb nb fb gb = l at *
  go_enter Try.func29, Try.ntmps29
  go_wp2_with fail
  refine (HM.out _ (hca.below hb0) (hcb.below hb0)).mono ?_
  rintro e w1 ⟨a, k, rfl, ho, hb1⟩
  have Y1 := Y0.below hb1
  obtain ⟨y1, y2⟩ := Y1.two
  have yf0 := Y1.frozen2 0
  have yf1 := Y1.frozen2 1
  have L1 : Below w.heap.size w w1 := hb0.trans (hb1.mono hb0.size)
  have HO : Hid (OwnList w1 (((w.alloc (.cells #[.int .i64 ba, .slice aa na ka] 26)).alloc (.cells #[.int .i64 bb, .slice ab nb kb] 26)).alloc (.cells #[.int .i64 0, .slice none 0 0] 26)).heap.size (.slice a l.length k) l) := ho
  clear HM hca hcb hb0 Y0 ho hb1
  go_wp2
  refine bodyPost_ret (v := .tuple #[.agg #[.int .i64 lb, .slice a l.length k], .bool ok]) (by simp [results, Try.results29, go_sem, *]) rfl ⟨a, k, rfl, ?_, (L1.setCell (by dsimp only; omega) _).setCell (by dsimp only; omega) _⟩
  exact ownsRow_base_a (OwnList.set (OwnList.set HO.out (by simp) _ _) (by simp) _ _) (by simp; omega)
end Go.Proofs.Ytjmfaffghkclbaa
