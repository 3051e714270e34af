/- The program's iterator over the categories that one label has above another: what it gives, for every loop body that keeps what lies. -/
import Derived.Test.YtimacbpfnkephaaFC
import Derived.Shelf.Abstract
import Derived.Shelf.RegionOpen
import Derived.OwnWalkIn
import Derived.TacticsInMore
import Derived.LoopNIn
import Derived.LoopIn
namespace Go.Proofs.Ytimacbpfnkephaa
open Go.RowKit Go.Deep Go.Maps Go.Shelf
attribute [local go_sem] Oper.semAt_some

theorem hidd {p : Prop} (h : p) : Hid p := h

/-- x is named by one of the two labels, and the first has it above the second -/
def aboveB (ba : Int) (na : Nat) (fa ga : Nat → Int) (bb : Int) (nb : Nat) (fb gb : Nat → Int) (x : Int) : Bool :=
  ((look fa ga na x).isSome || (look fb gb nb x).isSome) && decide (levOf bb nb fb gb x < levOf ba na fa ga x)

/-- both labels lie in boxes, and what they name lies there -/
structure TwoLabs (W : World) (A B : Nat) (ba : Int) (aa : Option Addr) (na ka : Nat) (fa ga : Nat → Int) (bb : Int) (ab : Option Addr) (nb kb : Nat) (fb gb : Nat → Int) : Prop where
  ltA : A < W.heap.size
  ltB : B < W.heap.size
  a0 : W.cell? ⟨A, 0, none⟩ = some (.int .i64 ba)
  a1 : W.cell? ⟨A, 1, none⟩ = some (.slice aa na ka)
  b0 : W.cell? ⟨B, 0, none⟩ = some (.int .i64 bb)
  b1 : W.cell? ⟨B, 1, none⟩ = some (.slice ab nb kb)
  ca : CatsAt W aa na fa ga
  cb : CatsAt W ab nb fb gb

theorem TwoLabs.below {W W' : World} {A B : Nat} {ba : Int} {aa : Option Addr} {na ka : Nat} {fa ga : Nat → Int} {bb : Int} {ab : Option Addr} {nb kb : Nat} {fb gb : Nat → Int}
    (h : TwoLabs W A B ba aa na ka fa ga bb ab nb kb fb gb) (hb : Below W.heap.size W W') : TwoLabs W' A B ba aa na ka fa ga bb ab nb kb fb gb :=
  ⟨Nat.lt_of_lt_of_le h.ltA hb.size, Nat.lt_of_lt_of_le h.ltB hb.size, (hb.cell (p := ⟨A, 0, none⟩) h.ltA).trans h.a0, (hb.cell (p := ⟨A, 1, none⟩) h.ltA).trans h.a1,
    (hb.cell (p := ⟨B, 0, none⟩) h.ltB).trans h.b0, (hb.cell (p := ⟨B, 1, none⟩) h.ltB).trans h.b1, h.ca.below hb, h.cb.below hb⟩

set_option maxRecDepth 100000 in
set_option maxHeartbeats 4000000 in
theorem catsAbove1_in (l A B : Nat) (ba : Int) (aa : Option Addr) (na ka : Nat) (fa ga : Nat → Int) (bb : Int) (ab : Option Addr) (nb kb : Nat) (fb gb : Nat → Int) (J Jx : List Int → World → Prop) (w : World)
    (ma : na ≤ 1048576) (mb : nb ≤ 1048576) (hwa : ∀ i, i < na → (Lit.int .i64 (fa i)).wf = true ∧ (Lit.int .i64 (ga i)).wf = true) (hwb : ∀ i, i < nb → (Lit.int .i64 (fb i)).wf = true ∧ (Lit.int .i64 (gb i)).wf = true)
    (hL : TwoLabs w A B ba aa na ka fa ga bb ab nb kb fb gb) (hJ : AbidesFrom w.heap.size J)
    (hY : ∀ pre x W1, J pre W1 → pre.length < na + nb → YieldAt Fence.wide 2 Try.prog l #[.int .i64 x] W1 fun e W' =>
      (e = .returned (.bool true) ∧ J (pre ++ [x]) W' ∧ KeepsAll W1 W') ∨ (e = .returned (.bool false) ∧ Jx (pre ++ [x]) W')) (h0 : J [] w) :
    Calls Try.prog 51 #[.func (.yield l) #[] #[], .pointer (some ⟨A, 0, none⟩), .pointer (some ⟨B, 0, none⟩)] w fun e W' => (∃ v, e = .returned v) ∧
      ((∃ xs, (∀ x, x ∈ xs ↔ aboveB ba na fa ga bb nb fb gb x = true) ∧ J xs W') ∨ (∃ pre, (∀ x, x ∈ pre → aboveB ba na fa ga bb nb fb gb x = true) ∧ Jx pre W')) := by
  have HWA : Hid (∀ i, i < na → (Lit.int .i64 (fa i)).wf = true ∧ (Lit.int .i64 (ga i)).wf = true) := hwa
  have HWB : Hid (∀ i, i < nb → (Lit.int .i64 (fb i)).wf = true ∧ (Lit.int .i64 (gb i)).wf = true) := hwb
  clear hwa hwb
  have HJ : Hid (∀ W', Below w.heap.size w W' → J [] W') := fun W' hb => hJ [] w W' none h0 (grown_of_below hb) (fun r e => by cases e)
  have HL : Hid (TwoLabs w A B ba aa na ka fa ga bb ab nb kb fb gb) := hL
  obtain ⟨lA, lB, x1, x2, x3, x4, hca, hcb⟩ := hL
  have levA : ∀ W, Below w.heap.size w W → Calls Try.prog 52 #[.agg #[.int .i64 ba, .slice aa na ka]] W fun e w' => ∃ c, e = .returned (.agg #[.int .i64 ba, .map (some c)]) ∧ W.heap.size ≤ c ∧ MapIs w' c na (look fa ga na) ∧ (∀ b o, b < W.heap.size → w'.cell? ⟨b, o, none⟩ = W.cell? ⟨b, o, none⟩) ∧ (∀ b o, b < W.heap.size → w'.frozen? ⟨b, o, none⟩ = W.frozen? ⟨b, o, none⟩) ∧ (∀ V : World, V.heap.size ≤ W.heap.size → V.heap.size + 3 < w'.heap.size) ∧ Below w.heap.size w w' ∧ Below W.heap.size W w' ∧ (w'.heap.size ≠ A ∧ w'.heap.size ≠ B ∧ w'.heap.size + 1 ≠ A ∧ w'.heap.size + 1 ≠ B) ∧ (w.heap.size < w'.heap.size ∧ w.heap.size + 1 < w'.heap.size ∧ w'.heap.size ≠ w.heap.size ∧ w'.heap.size ≠ w.heap.size + 1 ∧ w'.heap.size + 1 ≠ w.heap.size) ∧ w'.cell? ⟨A, 0, none⟩ = some (.int .i64 ba) ∧ w'.cell? ⟨A, 1, none⟩ = some (.slice aa na ka) ∧ w'.cell? ⟨B, 0, none⟩ = some (.int .i64 bb) ∧ w'.cell? ⟨B, 1, none⟩ = some (.slice ab nb kb) := fun W hW => by
    refine (levelsOf_any ba aa na ka fa ga W ma (hca.below hW) HWA.out).mono ?_
    rintro e w' ⟨c, rfl, hl, hm, hz, hb⟩
    have hW' := hW.trans (hb.mono hW.size)
    obtain ⟨q, p⟩ := bcell hb
    have hs := hW'.size
    have hs0 := hW.size
    exact ⟨c, rfl, hl, hm, q, p, fun V hV => by omega, hW', hb, by omega, lt3 (by omega), (hW'.cell (p := ⟨_, _, none⟩) lA).trans x1, (hW'.cell (p := ⟨_, _, none⟩) lA).trans x2, (hW'.cell (p := ⟨_, _, none⟩) lB).trans x3, (hW'.cell (p := ⟨_, _, none⟩) lB).trans x4⟩
  have HlevA : Hid (∀ W, Below w.heap.size w W → Calls Try.prog 52 #[.agg #[.int .i64 ba, .slice aa na ka]] W fun e w' => ∃ c, e = .returned (.agg #[.int .i64 ba, .map (some c)]) ∧ W.heap.size ≤ c ∧ MapIs w' c na (look fa ga na) ∧ (∀ b o, b < W.heap.size → w'.cell? ⟨b, o, none⟩ = W.cell? ⟨b, o, none⟩) ∧ (∀ b o, b < W.heap.size → w'.frozen? ⟨b, o, none⟩ = W.frozen? ⟨b, o, none⟩) ∧ (∀ V : World, V.heap.size ≤ W.heap.size → V.heap.size + 3 < w'.heap.size) ∧ Below w.heap.size w w' ∧ Below W.heap.size W w' ∧ (w'.heap.size ≠ A ∧ w'.heap.size ≠ B ∧ w'.heap.size + 1 ≠ A ∧ w'.heap.size + 1 ≠ B) ∧ (w.heap.size < w'.heap.size ∧ w.heap.size + 1 < w'.heap.size ∧ w'.heap.size ≠ w.heap.size ∧ w'.heap.size ≠ w.heap.size + 1 ∧ w'.heap.size + 1 ≠ w.heap.size) ∧ w'.cell? ⟨A, 0, none⟩ = some (.int .i64 ba) ∧ w'.cell? ⟨A, 1, none⟩ = some (.slice aa na ka) ∧ w'.cell? ⟨B, 0, none⟩ = some (.int .i64 bb) ∧ w'.cell? ⟨B, 1, none⟩ = some (.slice ab nb kb)) := levA
  clear levA
  have levB : ∀ W, Below w.heap.size w W → Calls Try.prog 52 #[.agg #[.int .i64 bb, .slice ab nb kb]] W fun e w' => ∃ c, e = .returned (.agg #[.int .i64 bb, .map (some c)]) ∧ W.heap.size ≤ c ∧ MapIs w' c nb (look fb gb nb) ∧ (∀ b o, b < W.heap.size → w'.cell? ⟨b, o, none⟩ = W.cell? ⟨b, o, none⟩) ∧ (∀ b o, b < W.heap.size → w'.frozen? ⟨b, o, none⟩ = W.frozen? ⟨b, o, none⟩) ∧ (∀ V : World, V.heap.size ≤ W.heap.size → V.heap.size + 3 < w'.heap.size) ∧ Below w.heap.size w w' ∧ Below W.heap.size W w' ∧ (w'.heap.size ≠ A ∧ w'.heap.size ≠ B ∧ w'.heap.size + 1 ≠ A ∧ w'.heap.size + 1 ≠ B) ∧ (w.heap.size < w'.heap.size ∧ w.heap.size + 1 < w'.heap.size ∧ w'.heap.size ≠ w.heap.size ∧ w'.heap.size ≠ w.heap.size + 1 ∧ w'.heap.size + 1 ≠ w.heap.size) ∧ w'.cell? ⟨A, 0, none⟩ = some (.int .i64 ba) ∧ w'.cell? ⟨A, 1, none⟩ = some (.slice aa na ka) ∧ w'.cell? ⟨B, 0, none⟩ = some (.int .i64 bb) ∧ w'.cell? ⟨B, 1, none⟩ = some (.slice ab nb kb) := fun W hW => by
    refine (levelsOf_any bb ab nb kb fb gb W mb (hcb.below hW) HWB.out).mono ?_
    rintro e w' ⟨c, rfl, hl, hm, hz, hb⟩
    have hW' := hW.trans (hb.mono hW.size)
    obtain ⟨q, p⟩ := bcell hb
    have hs := hW'.size
    have hs0 := hW.size
    exact ⟨c, rfl, hl, hm, q, p, fun V hV => by omega, hW', hb, by omega, lt3 (by omega), (hW'.cell (p := ⟨_, _, none⟩) lA).trans x1, (hW'.cell (p := ⟨_, _, none⟩) lA).trans x2, (hW'.cell (p := ⟨_, _, none⟩) lB).trans x3, (hW'.cell (p := ⟨_, _, none⟩) lB).trans x4⟩
  have HlevB : Hid (∀ W, Below w.heap.size w W → Calls Try.prog 52 #[.agg #[.int .i64 bb, .slice ab nb kb]] W fun e w' => ∃ c, e = .returned (.agg #[.int .i64 bb, .map (some c)]) ∧ W.heap.size ≤ c ∧ MapIs w' c nb (look fb gb nb) ∧ (∀ b o, b < W.heap.size → w'.cell? ⟨b, o, none⟩ = W.cell? ⟨b, o, none⟩) ∧ (∀ b o, b < W.heap.size → w'.frozen? ⟨b, o, none⟩ = W.frozen? ⟨b, o, none⟩) ∧ (∀ V : World, V.heap.size ≤ W.heap.size → V.heap.size + 3 < w'.heap.size) ∧ Below w.heap.size w w' ∧ Below W.heap.size W w' ∧ (w'.heap.size ≠ A ∧ w'.heap.size ≠ B ∧ w'.heap.size + 1 ≠ A ∧ w'.heap.size + 1 ≠ B) ∧ (w.heap.size < w'.heap.size ∧ w.heap.size + 1 < w'.heap.size ∧ w'.heap.size ≠ w.heap.size ∧ w'.heap.size ≠ w.heap.size + 1 ∧ w'.heap.size + 1 ≠ w.heap.size) ∧ w'.cell? ⟨A, 0, none⟩ = some (.int .i64 ba) ∧ w'.cell? ⟨A, 1, none⟩ = some (.slice aa na ka) ∧ w'.cell? ⟨B, 0, none⟩ = some (.int .i64 bb) ∧ w'.cell? ⟨B, 1, none⟩ = some (.slice ab nb kb)) := levB
  clear levB
  have HE00 : Hid (Below w.heap.size w w.drew) := (Below.refl _ _).drew
  have HE0 : Hid (∀ o, Below w.heap.size w (w.alloc o).drew) := fun o => ((Below.refl _ _).alloc (Nat.le_refl _) o).drew
  have HE000 : Hid (∀ o o', Below w.heap.size w ((w.alloc o).alloc o').drew) := fun o o' => (((Below.refl _ _).alloc (Nat.le_refl _) o).alloc (by simp) o').drew
  have HY := hidd hY
  have HJ0 := hidd hJ
  clear hY hJ h0 hca hcb
  have n1 : w.heap.size ≠ A := by omega
  have n2 : w.heap.size ≠ B := by omega
  have n3 : w.heap.size + 1 ≠ A := by omega
  have n4 : w.heap.size + 1 ≠ B := by omega
  go_enter Try.func51, Try.ntmps51
  go_upto_region 0 with fail
  go_cut [4, 5] (fun p q wc => ∃ P Q c d : Nat, p = .pointer (some ⟨P, 0, none⟩) ∧ q = .pointer (some ⟨Q, 0, none⟩) ∧ Cell2 wc P (.int .i64 ba) (.map (some c)) ∧ Cell2 wc Q (.int .i64 bb) (.map (some d)) ∧ MapIs wc c na (look fa ga na) ∧ MapIs wc d nb (look fb gb nb) ∧ Below w.heap.size w wc)
  case first =>
    go_region_held3 (fun w' => w'.cell? ⟨A, 0, none⟩ = some (.int .i64 ba) ∧ w'.cell? ⟨A, 1, none⟩ = some (.slice aa na ka) ∧ w'.cell? ⟨B, 0, none⟩ = some (.int .i64 bb) ∧ w'.cell? ⟨B, 1, none⟩ = some (.slice ab nb kb)) (first | go_keep | (simp [*]))
      (first
        | (go_at_call 52; have hb1' := hb1; clear hb1'; refine (HlevB.out _ ?hB).mono ?_; (case hB => first | exact E1 | exact E1.alloc E1.size _ | exact (E1.alloc E1.size _).alloc (E1.alloc E1.size _).size _); rintro e v2 ⟨c2, rfl, hl2, m2, qb, pb, rb, E2, hb2, ⟨s1, s2, s3, s4⟩, ⟨g1, g2, g3, g4, g5⟩, y1, y2, y3, y4⟩; have rb' := rb v1 (by simp; try omega); obtain ⟨f1, f2, f3, f4, f5⟩ := lt3 rb')
        | (go_at_call 52; refine (HlevA.out _ ?hB).mono ?_; (case hB => first | exact HE00.out | exact HE0.out _ | exact HE000.out _ _); rintro e v1 ⟨c1, rfl, hl1, m1, qa, pa, ra, E1, hb1, ⟨r1, r2, r3, r4⟩, ⟨d1, d2, d3, d4, d5⟩, p1, p2, p3, p4⟩))
    all_goals
      have l1 := m1.lt
      have l2 := m2.lt
      try simp at hl1
      try simp at hl2
      clear qa pa qb pb HlevA HlevB
      have E3 : Below w.heap.size w v2 := E2
      go_wp2_with fail
      go_meet
      case rel =>
        refine ⟨_, _, c1, c2, rfl, rfl, ?_, ?_, ?_, ?_, ?_⟩
        · repeat (first | (with_reducible refine Cell2.new' ?_; simp; done) | with_reducible refine Cell2.set01 ?_ _ _ | (with_reducible refine Cell2.other ?_ ?_ _; rotate_left; (dsimp only; omega)) | with_reducible refine Cell2.alloc ?_ _)
          all_goals repeat (first | (with_reducible refine Has2.new' ?_; simp; done) | (with_reducible refine Has2.other ?_ ?_ _; rotate_left; (dsimp only; omega)) | with_reducible refine Has2.alloc ?_ _ | with_reducible refine Has2.drew ?_ | with_reducible refine Has2.below ?_ hb2 | with_reducible refine Has2.below ?_ hb1)
        · repeat (first | (with_reducible refine Cell2.new' ?_; simp; done) | with_reducible refine Cell2.set01 ?_ _ _ | (with_reducible refine Cell2.other ?_ ?_ _; rotate_left; (dsimp only; omega)) | with_reducible refine Cell2.alloc ?_ _)
          all_goals repeat (first | (with_reducible refine Has2.new' ?_; simp; done) | (with_reducible refine Has2.other ?_ ?_ _; rotate_left; (dsimp only; omega)) | with_reducible refine Has2.alloc ?_ _ | with_reducible refine Has2.drew ?_ | with_reducible refine Has2.below ?_ hb2 | with_reducible refine Has2.below ?_ hb1)
        · repeat (first | with_reducible exact m1 | (with_reducible refine MapIs.setCell ?_ ?_ _; rotate_left; (dsimp only; omega)) | with_reducible refine MapIs.alloc ?_ _ | with_reducible refine MapIs.below ?_ hb2)
        · repeat (first | with_reducible exact m2 | (with_reducible refine MapIs.setCell ?_ ?_ _; rotate_left; (dsimp only; omega)) | with_reducible refine MapIs.alloc ?_ _)
        · repeat (first | with_reducible exact E3 | (with_reducible refine Below.setCell ?_ ?_ _; rotate_left; (dsimp only; omega)) | (with_reducible refine Below.alloc ?_ ?_ _; rotate_left; (first | omega | (simp; omega))))
  case rest =>
    obtain ⟨P, Q, c, d, rfl, rfl, u1, u2, m1, m2, Bc⟩ := hcut
    obtain ⟨a1, a2⟩ := u1.cells
    obtain ⟨a3, a4⟩ := u2.cells
    have lP := u1.lt
    have lQ := u2.lt
    clear u1 u2 n1 n2 n3 n4 x1 x2 x3 x4 HE00 HE0 HE000 HlevA HlevB HWA HWB
    rename_i QQ KK hKK
    refine hKK _ _ ((wpIn_wide (n := 3)).1 ?_)
    clear hKK KK
    have hmix : Try.prog.follows .mixedOrders = true := by kernel_rfl
    gi_wp2_with fail
    refine ⟨trivial, ?_⟩
    refine (callsIn_wide.2 (namedBy_any _ _ _ _ _ _ _ _ _ m1 m2 (by omega))).mono ?_
    rintro e w3 ⟨a, n, cap, h, rfl, hle, hat, hmem, hris, hwf, hb3⟩
    have b1 := (hb3.cell (p := ⟨P, 0, none⟩) lP).trans a1
    have b2 := (hb3.cell (p := ⟨P, 1, none⟩) lP).trans a2
    have b3 := (hb3.cell (p := ⟨Q, 0, none⟩) lQ).trans a3
    have b4 := (hb3.cell (p := ⟨Q, 1, none⟩) lQ).trans a4
    have M1 := m1.below hb3
    have M2 := m2.below hb3
    have lP3 : P < w3.heap.size := Nat.lt_of_lt_of_le lP hb3.size
    have lQ3 : Q < w3.heap.size := Nat.lt_of_lt_of_le lQ hb3.size
    have J3 : Hid (J [] w3) := HJ.out _ (Bc.trans (hb3.mono Bc.size))
    have HM : Hid (∀ x, (∃ i, i < n ∧ h i = x) ↔ ((look fa ga na x).isSome || (look fb gb nb x).isSome) = true) := hmem
    have HWF : Hid (∀ i, i < n → (Lit.int .i64 (h i)).wf = true) := hwf
    have HR : Hid (∀ j, j < n → ∀ i, i < j → h i < h j) := hris
    clear a1 a2 a3 a4 m1 m2 hmem hwf hris lP lQ hb3 Bc HJ HL lA lB
    gi_wp2
    gi_loopw [16] (fun i wr => ∃ (k : Nat) (pre : List Int), k ≤ n ∧ i = .int .i64 k ∧ pre.length ≤ k ∧ (∀ x, x ∈ pre ↔ (∃ j, j < k ∧ h j = x) ∧ levOf bb nb fb gb x < levOf ba na fa ga x) ∧ J pre wr ∧ KeepsAll w3 wr) (fun i _ => n - (intOf i).toNat)
    case atStart => exact ⟨0, [], Nat.zero_le _, rfl, Nat.le_refl _, fun x => by simp, J3.out, KeepsAll.refl _⟩
    case round =>
      obtain ⟨k, pre, hk, rfl, hpl, hpre, hJp, hK⟩ := hrel
      have HP : Hid (∀ x, x ∈ pre ↔ (∃ j, j < k ∧ h j = x) ∧ levOf bb nb fb gb x < levOf ba na fa ga x) := hpre
      have HJp : Hid (J pre wr) := hJp
      clear hpre hJp
      by_cases hlt' : k < n
      · obtain ⟨b, off, rfl, hlt, hcc⟩ := hat (by omega)
        have r5 := hK.cell (hcc k hlt')
        have r1 := hK.cell b1
        have r2 := hK.cell b2
        have r3 := hK.cell b3
        have r4 := hK.cell b4
        have lPr : P < wr.heap.size := Nat.lt_of_lt_of_le lP3 hK.size
        have lQr : Q < wr.heap.size := Nat.lt_of_lt_of_le lQ3 hK.size
        have N1 : MapIs wr.drew c na (look fa ga na) := (hK.map M1).below (Below.refl _ _).drew
        have N2 : MapIs wr.drew d nb (look fb gb nb) := (hK.map M2).below (Below.refl _ _).drew
        have HWX : Hid ((Lit.int .i64 (h k)).wf = true) := HWF.out k hlt'
        clear hcc hat b1 b2 b3 b4 M1 M2
        by_cases t5 : levOf bb nb fb gb (h k) < levOf ba na fa ga (h k)
        · have hyk : Hid (∀ W, Below wr.heap.size wr W → YieldAt Fence.wide 2 Try.prog l #[.int .i64 (h k)] W fun e W' =>
              (e = .returned (.bool true) ∧ J (pre ++ [h k]) W' ∧ KeepsAll W W') ∨ (e = .returned (.bool false) ∧ Jx (pre ++ [h k]) W')) := fun W hb =>
            HY.out pre (h k) W (HJ0.out pre wr W none HJp.out (grown_of_below hb) (fun r e => by cases e)) (by omega)
          gi_wp2_with fail
          refine AnyF.region (fun w' => w'.cell? ⟨P, 0, none⟩ = some (.int .i64 ba) ∧ w'.cell? ⟨P, 1, none⟩ = some (.map (some c)) ∧ w'.cell? ⟨Q, 0, none⟩ = some (.int .i64 bb) ∧ w'.cell? ⟨Q, 1, none⟩ = some (.map (some d))) [10, 11, 12] hmix ?_
          have S0 : wr.drew.cell? ⟨P, 0, none⟩ = some (.int .i64 ba) ∧ wr.drew.cell? ⟨P, 1, none⟩ = some (.map (some c)) ∧ wr.drew.cell? ⟨Q, 0, none⟩ = some (.int .i64 bb) ∧ wr.drew.cell? ⟨Q, 1, none⟩ = some (.map (some d)) := ⟨r1, r2, r3, r4⟩
          refine AnyF.takeD (i := 0) (d := 20) (.agg #[.int .i64 ba, .map (some c)]) rfl rfl rfl (by kernel_rfl) (by kernel_rfl) (by kernel_rfl) (by kernel_rfl) (by kernel_rfl) (fun _ _ _ h => h) S0 (Or.inl ⟨by rfl, fun w' h => (by dsimp only at h; go_simp)⟩) (fun _ => by rfl) ?_
          simp only [Act.put, List.setIfInBounds_toArray, List.set_cons_zero, List.set_cons_succ]
          refine AnyF.takeD (i := 1) (d := 21) (.int .i64 (h k)) rfl rfl rfl (by kernel_rfl) (by kernel_rfl) (by kernel_rfl) (by kernel_rfl) (by kernel_rfl) (fun _ _ _ h => h) S0 (Or.inl ⟨by rfl, fun w' h => (by dsimp only at h; go_simp)⟩) (fun _ => by rfl) ?_
          simp only [Act.put, List.setIfInBounds_toArray, List.set_cons_zero, List.set_cons_succ]
          refine AnyF.takeD (i := 3) (d := 23) (.agg #[.int .i64 bb, .map (some d)]) rfl rfl rfl (by kernel_rfl) (by kernel_rfl) (by kernel_rfl) (by kernel_rfl) (by kernel_rfl) (fun _ _ _ h => h) S0 (Or.inl ⟨by rfl, fun w' h => (by dsimp only at h; go_simp)⟩) (fun _ => by rfl) ?_
          simp only [Act.put, List.setIfInBounds_toArray, List.set_cons_zero, List.set_cons_succ]
          refine AnyF.takeD (i := 4) (d := 24) (.int .i64 (h k)) rfl rfl rfl (by kernel_rfl) (by kernel_rfl) (by kernel_rfl) (by kernel_rfl) (by kernel_rfl) (fun _ _ _ h => h) S0 (Or.inl ⟨by rfl, fun w' h => (by dsimp only at h; go_simp)⟩) (fun _ => by rfl) ?_
          simp only [Act.put, List.setIfInBounds_toArray, List.set_cons_zero, List.set_cons_succ]
          refine AnyF.one (i := 2) rfl (by kernel_rfl) (fun K1 hK1 => ?_)
          go_simp
          refine ⟨trivial, ?_⟩
          refine (callsIn_wide.2 (of_lev ba c na fa ga (h k) _ N1 HWX.out)).mono ?_
          rintro e v1 ⟨rfl, hb1⟩
          have S1 : v1.cell? ⟨P, 0, none⟩ = some (.int .i64 ba) ∧ v1.cell? ⟨P, 1, none⟩ = some (.map (some c)) ∧ v1.cell? ⟨Q, 0, none⟩ = some (.int .i64 bb) ∧ v1.cell? ⟨Q, 1, none⟩ = some (.map (some d)) := ⟨(hb1.cell (p := ⟨P, 0, none⟩) lPr).trans r1, (hb1.cell (p := ⟨P, 1, none⟩) lPr).trans r2, (hb1.cell (p := ⟨Q, 0, none⟩) lQr).trans r3, (hb1.cell (p := ⟨Q, 1, none⟩) lQr).trans r4⟩
          refine hK1.out _ _ (fun _ => S1) ?_
          clear hK1 K1
          refine AnyF.one (i := 5) rfl (by kernel_rfl) (fun K1 hK1 => ?_)
          go_simp
          refine ⟨trivial, ?_⟩
          refine (callsIn_wide.2 (of_lev bb d nb fb gb (h k) _ (N2.below hb1) HWX.out)).mono ?_
          rintro e v2 ⟨rfl, hb2⟩
          have lPv : P < v1.heap.size := Nat.lt_of_lt_of_le lPr hb1.size
          have lQv : Q < v1.heap.size := Nat.lt_of_lt_of_le lQr hb1.size
          have S2 : v2.cell? ⟨P, 0, none⟩ = some (.int .i64 ba) ∧ v2.cell? ⟨P, 1, none⟩ = some (.map (some c)) ∧ v2.cell? ⟨Q, 0, none⟩ = some (.int .i64 bb) ∧ v2.cell? ⟨Q, 1, none⟩ = some (.map (some d)) := ⟨(hb2.cell (p := ⟨P, 0, none⟩) lPv).trans S1.1, (hb2.cell (p := ⟨P, 1, none⟩) lPv).trans S1.2.1, (hb2.cell (p := ⟨Q, 0, none⟩) lQv).trans S1.2.2.1, (hb2.cell (p := ⟨Q, 1, none⟩) lQv).trans S1.2.2.2⟩
          have B2 : Below wr.heap.size wr v2 := (((Below.refl _ wr).drew.trans hb1).trans (hb2.mono hb1.size))
          refine hK1.out _ _ (fun _ => S2) ?_
          clear hK1 K1 S0 S1 hb1 hb2
          refine AnyF.takeD (i := 6) (d := 26) (.bool true) rfl rfl rfl (by kernel_rfl) (by kernel_rfl) (by kernel_rfl) (by kernel_rfl) (by kernel_rfl) (fun _ _ _ h => h) S2 (Or.inl ⟨by rfl, fun w' h => (by dsimp only at h; go_simp)⟩) (fun _ => by rfl) ?_
          simp only [Act.put, List.setIfInBounds_toArray, List.set_cons_zero, List.set_cons_succ]
          refine AnyF.takeD (i := 7) (d := 27) (.bool true) rfl rfl rfl (by kernel_rfl) (by kernel_rfl) (by kernel_rfl) (by kernel_rfl) (by kernel_rfl) (fun _ _ _ h => h) S2 (Or.inl ⟨by rfl, fun w' h => (by dsimp only at h; go_simp)⟩) (fun _ => by rfl) ?_
          simp only [Act.put, List.setIfInBounds_toArray, List.set_cons_zero, List.set_cons_succ]
          refine AnyF.takeD (i := 8) (d := 28) (.func (.yield l) #[] #[]) rfl rfl rfl (by kernel_rfl) (by kernel_rfl) (by kernel_rfl) (by kernel_rfl) (by kernel_rfl) (fun _ _ _ h => h) S2 (Or.inl ⟨by rfl, fun w' h => (by dsimp only at h; go_simp)⟩) (fun _ => by rfl) ?_
          simp only [Act.put, List.setIfInBounds_toArray, List.set_cons_zero, List.set_cons_succ]
          refine AnyF.takeD (i := 9) (d := 29) (.int .i64 (h k)) rfl rfl rfl (by kernel_rfl) (by kernel_rfl) (by kernel_rfl) (by kernel_rfl) (by kernel_rfl) (fun _ _ _ h => h) S2 (Or.inl ⟨by rfl, fun w' h => (by dsimp only at h; go_simp)⟩) (fun _ => by rfl) ?_
          simp only [Act.put, List.setIfInBounds_toArray, List.set_cons_zero, List.set_cons_succ]
          obtain ⟨fn, tmps, assign, body, hy, hR⟩ := hyk.out v2 B2
          refine AnyF.one (i := 10) rfl (by kernel_rfl) (fun K1 hK1 => ?_)
          go_simp
          refine hR.mono ?_
          rintro e W3 (⟨rfl, hJ3, hk3⟩ | ⟨rfl, hJx3⟩)
          · refine hK1.out _ _ (fun h => by simp at h) ?_
            clear hK1 K1
            refine AnyF.one (i := 11) rfl (by kernel_rfl) (fun K1 hK1 => ?_)
            go_simp
            refine hK1.out _ _ (fun h => by simp at h) ?_
            clear hK1 K1
            refine AnyF.one (i := 12) rfl (by kernel_rfl) (fun K1 hK1 => ?_)
            go_simp
            refine hK1.out _ _ (fun h => by simp at h) ?_
            clear hK1 K1
            refine AnyF.done (by kernel_rfl) ?_
            gi_wp2
            go_roundw
            case rel =>
              refine ⟨k + 1, pre ++ [h k], by omega, by go_num, by simp; omega, fun x => ?_, hJ3, (hK.trans (KeepsAll.of_below B2)).trans hk3⟩
              rw [List.mem_append, HP.out x]
              constructor
              · rintro (⟨⟨j, hj, e⟩, q⟩ | q)
                · exact ⟨⟨j, by omega, e⟩, q⟩
                · obtain rfl : x = h k := by simpa using q
                  exact ⟨⟨k, by omega, rfl⟩, t5⟩
              · rintro ⟨⟨j, hj, e⟩, q⟩
                by_cases ej : j = k
                · subst ej; subst e; exact .inr (by simp)
                · exact .inl ⟨⟨j, by omega, e⟩, q⟩
            case measure => simp [intOf]; omega
          · refine hK1.out _ _ (fun h => by simp at h) ?_
            clear hK1 K1
            refine AnyF.one (i := 11) rfl (by kernel_rfl) (fun K1 hK1 => ?_)
            go_simp
            refine hK1.out _ _ (fun h => by simp at h) ?_
            clear hK1 K1
            refine AnyF.one (i := 12) rfl (by kernel_rfl) (fun K1 hK1 => ?_)
            go_simp
            refine hK1.out _ _ (fun h => by simp at h) ?_
            clear hK1 K1
            refine AnyF.done (by kernel_rfl) ?_
            gi_wp2
            refine bodyPost_ret (results_none rfl _ _ _) rfl ?_
            refine ⟨⟨_, rfl⟩, .inr ⟨pre ++ [h k], fun x hx => ?_, hJx3⟩⟩
            have hx2 : (∃ j, j < n ∧ h j = x) ∧ levOf bb nb fb gb x < levOf ba na fa ga x := by
              rcases List.mem_append.1 hx with hx | hx
              · obtain ⟨⟨j, hj, e⟩, q⟩ := (HP.out x).1 hx
                exact ⟨⟨j, by omega, e⟩, q⟩
              · obtain rfl : x = h k := by simpa using hx
                exact ⟨⟨k, hlt', rfl⟩, t5⟩
            have := (HM.out x).1 hx2.1
            unfold aboveB
            rw [this]
            simpa using hx2.2
        · skip
          gi_wp2_with fail
          refine AnyF.region (fun w' => w'.cell? ⟨P, 0, none⟩ = some (.int .i64 ba) ∧ w'.cell? ⟨P, 1, none⟩ = some (.map (some c)) ∧ w'.cell? ⟨Q, 0, none⟩ = some (.int .i64 bb) ∧ w'.cell? ⟨Q, 1, none⟩ = some (.map (some d))) [] hmix ?_
          have S0 : wr.drew.cell? ⟨P, 0, none⟩ = some (.int .i64 ba) ∧ wr.drew.cell? ⟨P, 1, none⟩ = some (.map (some c)) ∧ wr.drew.cell? ⟨Q, 0, none⟩ = some (.int .i64 bb) ∧ wr.drew.cell? ⟨Q, 1, none⟩ = some (.map (some d)) := ⟨r1, r2, r3, r4⟩
          refine AnyF.takeD (i := 0) (d := 20) (.agg #[.int .i64 ba, .map (some c)]) rfl rfl rfl (by kernel_rfl) (by kernel_rfl) (by kernel_rfl) (by kernel_rfl) (by kernel_rfl) (fun _ _ _ h => h) S0 (Or.inl ⟨by rfl, fun w' h => (by dsimp only at h; go_simp)⟩) (fun _ => by rfl) ?_
          simp only [Act.put, List.setIfInBounds_toArray, List.set_cons_zero, List.set_cons_succ]
          refine AnyF.takeD (i := 1) (d := 21) (.int .i64 (h k)) rfl rfl rfl (by kernel_rfl) (by kernel_rfl) (by kernel_rfl) (by kernel_rfl) (by kernel_rfl) (fun _ _ _ h => h) S0 (Or.inl ⟨by rfl, fun w' h => (by dsimp only at h; go_simp)⟩) (fun _ => by rfl) ?_
          simp only [Act.put, List.setIfInBounds_toArray, List.set_cons_zero, List.set_cons_succ]
          refine AnyF.takeD (i := 3) (d := 23) (.agg #[.int .i64 bb, .map (some d)]) rfl rfl rfl (by kernel_rfl) (by kernel_rfl) (by kernel_rfl) (by kernel_rfl) (by kernel_rfl) (fun _ _ _ h => h) S0 (Or.inl ⟨by rfl, fun w' h => (by dsimp only at h; go_simp)⟩) (fun _ => by rfl) ?_
          simp only [Act.put, List.setIfInBounds_toArray, List.set_cons_zero, List.set_cons_succ]
          refine AnyF.takeD (i := 4) (d := 24) (.int .i64 (h k)) rfl rfl rfl (by kernel_rfl) (by kernel_rfl) (by kernel_rfl) (by kernel_rfl) (by kernel_rfl) (fun _ _ _ h => h) S0 (Or.inl ⟨by rfl, fun w' h => (by dsimp only at h; go_simp)⟩) (fun _ => by rfl) ?_
          simp only [Act.put, List.setIfInBounds_toArray, List.set_cons_zero, List.set_cons_succ]
          refine AnyF.one (i := 2) rfl (by kernel_rfl) (fun K1 hK1 => ?_)
          go_simp
          refine ⟨trivial, ?_⟩
          refine (callsIn_wide.2 (of_lev ba c na fa ga (h k) _ N1 HWX.out)).mono ?_
          rintro e v1 ⟨rfl, hb1⟩
          have S1 : v1.cell? ⟨P, 0, none⟩ = some (.int .i64 ba) ∧ v1.cell? ⟨P, 1, none⟩ = some (.map (some c)) ∧ v1.cell? ⟨Q, 0, none⟩ = some (.int .i64 bb) ∧ v1.cell? ⟨Q, 1, none⟩ = some (.map (some d)) := ⟨(hb1.cell (p := ⟨P, 0, none⟩) lPr).trans r1, (hb1.cell (p := ⟨P, 1, none⟩) lPr).trans r2, (hb1.cell (p := ⟨Q, 0, none⟩) lQr).trans r3, (hb1.cell (p := ⟨Q, 1, none⟩) lQr).trans r4⟩
          refine hK1.out _ _ (fun _ => S1) ?_
          clear hK1 K1
          refine AnyF.one (i := 5) rfl (by kernel_rfl) (fun K1 hK1 => ?_)
          go_simp
          refine ⟨trivial, ?_⟩
          refine (callsIn_wide.2 (of_lev bb d nb fb gb (h k) _ (N2.below hb1) HWX.out)).mono ?_
          rintro e v2 ⟨rfl, hb2⟩
          have lPv : P < v1.heap.size := Nat.lt_of_lt_of_le lPr hb1.size
          have lQv : Q < v1.heap.size := Nat.lt_of_lt_of_le lQr hb1.size
          have S2 : v2.cell? ⟨P, 0, none⟩ = some (.int .i64 ba) ∧ v2.cell? ⟨P, 1, none⟩ = some (.map (some c)) ∧ v2.cell? ⟨Q, 0, none⟩ = some (.int .i64 bb) ∧ v2.cell? ⟨Q, 1, none⟩ = some (.map (some d)) := ⟨(hb2.cell (p := ⟨P, 0, none⟩) lPv).trans S1.1, (hb2.cell (p := ⟨P, 1, none⟩) lPv).trans S1.2.1, (hb2.cell (p := ⟨Q, 0, none⟩) lQv).trans S1.2.2.1, (hb2.cell (p := ⟨Q, 1, none⟩) lQv).trans S1.2.2.2⟩
          have B2 : Below wr.heap.size wr v2 := (((Below.refl _ wr).drew.trans hb1).trans (hb2.mono hb1.size))
          refine hK1.out _ _ (fun _ => S2) ?_
          clear hK1 K1 S0 S1 hb1 hb2
          refine AnyF.takeD (i := 6) (d := 26) (.bool false) rfl rfl rfl (by kernel_rfl) (by kernel_rfl) (by kernel_rfl) (by kernel_rfl) (by kernel_rfl) (fun _ _ _ h => h) S2 (Or.inl ⟨by rfl, fun w' h => (by dsimp only at h; go_simp)⟩) (fun _ => by rfl) ?_
          simp only [Act.put, List.setIfInBounds_toArray, List.set_cons_zero, List.set_cons_succ]
          refine AnyF.takeD (i := 7) (d := 27) (.bool false) rfl rfl rfl (by kernel_rfl) (by kernel_rfl) (by kernel_rfl) (by kernel_rfl) (by kernel_rfl) (fun _ _ _ h => h) S2 (Or.inl ⟨by rfl, fun w' h => (by dsimp only at h; go_simp)⟩) (fun _ => by rfl) ?_
          simp only [Act.put, List.setIfInBounds_toArray, List.set_cons_zero, List.set_cons_succ]
          refine AnyF.skip (i := 8) (d := 28) rfl rfl rfl (by kernel_rfl) (by kernel_rfl) (by kernel_rfl) (by kernel_rfl) (by kernel_rfl) (fun _ _ _ h => h) S2 (by rfl) (fun _ => by rfl) ?_
          simp only [Act.put, List.setIfInBounds_toArray, List.set_cons_zero, List.set_cons_succ]
          refine AnyF.skip (i := 9) (d := 29) rfl rfl rfl (by kernel_rfl) (by kernel_rfl) (by kernel_rfl) (by kernel_rfl) (by kernel_rfl) (fun _ _ _ h => h) S2 (by rfl) (fun _ => by rfl) ?_
          simp only [Act.put, List.setIfInBounds_toArray, List.set_cons_zero, List.set_cons_succ]
          refine AnyF.skip (i := 10) (d := 30) rfl rfl rfl (by kernel_rfl) (by kernel_rfl) (by kernel_rfl) (by kernel_rfl) (by kernel_rfl) (fun _ _ _ h => h) S2 (by rfl) (fun _ => by rfl) ?_
          simp only [Act.put, List.setIfInBounds_toArray, List.set_cons_zero, List.set_cons_succ]
          refine AnyF.skip (i := 11) (d := 31) rfl rfl rfl (by kernel_rfl) (by kernel_rfl) (by kernel_rfl) (by kernel_rfl) (by kernel_rfl) (fun _ _ _ h => h) S2 (by rfl) (fun _ => by rfl) ?_
          simp only [Act.put, List.setIfInBounds_toArray, List.set_cons_zero, List.set_cons_succ]
          refine AnyF.takeD (i := 12) (d := 32) (.bool false) rfl rfl rfl (by kernel_rfl) (by kernel_rfl) (by kernel_rfl) (by kernel_rfl) (by kernel_rfl) (fun _ _ _ h => h) S2 (Or.inl ⟨by rfl, fun w' h => (by dsimp only at h; go_simp)⟩) (fun _ => by rfl) ?_
          simp only [Act.put, List.setIfInBounds_toArray, List.set_cons_zero, List.set_cons_succ]
          refine AnyF.done (by kernel_rfl) ?_
          gi_wp2
          go_roundw
          case rel =>
            refine ⟨k + 1, pre, by omega, by go_num, by omega, fun x => ?_, HJ0.out pre wr v2 none HJp.out (grown_of_below B2) (fun r e => by cases e), hK.trans (KeepsAll.of_below B2)⟩
            rw [HP.out x]
            constructor
            · rintro ⟨⟨j, hj, e⟩, q⟩
              exact ⟨⟨j, by omega, e⟩, q⟩
            · rintro ⟨⟨j, hj, e⟩, q⟩
              by_cases ej : j = k
              · subst ej; subst e; exact absurd q (by omega)
              · exact ⟨⟨j, by omega, e⟩, q⟩
          case measure => simp [intOf]; omega
      · clear hat b1 b2 b3 b4 M1 M2
        gi_wp2
        go_end0
        refine ⟨⟨_, rfl⟩, .inl ⟨pre, fun x => ?_, HJp.out⟩⟩
        have ek : k = n := by omega
        subst ek
        rw [HP.out x, HM.out x]
        simp [aboveB]
end Go.Proofs.Ytimacbpfnkephaa
