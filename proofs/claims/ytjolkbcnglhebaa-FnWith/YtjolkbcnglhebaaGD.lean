/- The reader's thread. -/
import Derived.Test.YtjolkbcnglhebaaGC
import Derived.Test.YtjolkbcnglhebaaFE
namespace Go.Proofs.Ytjolkbcnglhebaa
open Go.RowKit Go.Deep Go.Maps

theorem OwnList.keptR {w w' : World} {B rb : Nat} {v : Value} {l : List (Int × Int)} (h : OwnList w B v l) (hg : w.grownBy w' (some rb)) (hB : rb < B) : OwnList w' B v l :=
  World.ownsRow.kept h hg (Or.inr (fun e => by have := (World.ownsRow.lt h _ e).1; omega))
theorem OwnList.low {w : World} {B B' : Nat} {v : Value} {l : List (Int × Int)} (h : OwnList w B v l) (hB : B' ≤ B) : OwnList w B' v l := by
  refine ⟨h.1, ?_⟩
  rcases h.2 with hn | ⟨g, cap, cur, hv, hb, rest⟩
  · exact .inl hn
  · exact .inr ⟨g, cap, cur, hv, by omega, rest⟩

theorem OwnI.set {w : World} {B : Nat} {v : Value} {l : List Int} (h : OwnI w B v l) {P : Nat} (hP : P < B) (i : Nat) (x : Value) : OwnI (w.setCell ⟨P, i, none⟩ x) B v l :=
  World.ownsRow.kept h (grown_set (grown_refl w P) i x) (Or.inr (fun e => by have := (World.ownsRow.lt h _ e).1; omega))

/-- seven cells are set -/
def World.set7 (W : World) (P : Nat) (x0 x1 x2 x3 x4 x5 x6 : Value) : World := ((((((W.setCell ⟨P, 0, none⟩ x0).setCell ⟨P, 1, none⟩ x1).setCell ⟨P, 2, none⟩ x2).setCell ⟨P, 3, none⟩ x3).setCell ⟨P, 4, none⟩ x4).setCell ⟨P, 5, none⟩ x5).setCell ⟨P, 6, none⟩ x6
theorem Blk.set7 {W : World} {P t : Nat} {y0 y1 y2 y3 y4 y5 y6 : Value} (h : Blk W P (.cells #[y0, y1, y2, y3, y4, y5, y6] t)) (x0 x1 x2 x3 x4 x5 x6 : Value) : Blk (World.set7 W P x0 x1 x2 x3 x4 x5 x6) P (.cells #[x0, x1, x2, x3, x4, x5, x6] t) := by
  unfold Blk World.set7 at *
  simp [World.setCell, Array.getElem?_modify, h]
theorem Blk.set76 {W : World} {P t : Nat} {y0 y1 y2 y3 y4 y5 y6 : Value} (h : Blk W P (.cells #[y0, y1, y2, y3, y4, y5, y6] t)) (x6 : Value) : Blk (W.setCell ⟨P, 6, none⟩ x6) P (.cells #[y0, y1, y2, y3, y4, y5, x6] t) := by
  unfold Blk at *
  simp [World.setCell, Array.getElem?_modify, h]

theorem Blk.frozen7 {W : World} {P t : Nat} {x0 x1 x2 x3 x4 x5 x6 : Value} (h : Blk W P (.cells #[x0, x1, x2, x3, x4, x5, x6] t)) (i : Nat) : W.frozen? ⟨P, i, none⟩ = false := by
  unfold Blk at h
  simp [World.frozen?, h]

set_option maxRecDepth 100000 in
set_option maxHeartbeats 4000000 in
theorem rdThread_any (w0 : World) (rb : Nat) (a : Option Addr) (n cap : Nat) (w : World) (h : Rd w0 w rb a n cap) :
    Calls Try.prog 56 #[.pointer (some ⟨rb, 0, none⟩)] w fun e w' => ∃ (id made b1 : Int) (l1 : List (Int × Int)) (va : Option Addr) (vc : Nat) (b2 : Int) (o : List Int) (A : Addr) (oc : Nat),
      e = .returned (.agg #[.int .i64 id, .int .i64 b1, .slice va l1.length vc, .int .i64 b2, .slice none 0 0, .slice (some A) o.length oc, .int .i64 made]) ∧ l1.length ≤ 3 ∧ o.length ≤ 2 ∧ GoodO o ∧
      OwnList w' w.heap.size (.slice va l1.length vc) l1 ∧ OwnI w' w.heap.size (.slice (some A) o.length oc) o ∧ Rd w0 w' rb a n cap ∧ w.grownBy w' (some rb) := by
  have HR : Hid (Rd w0 w rb a n cap) := h
  have lr := h.lt
  clear h
  have K0 := (Below.refl _ w).alloc (Nat.le_refl _) (.cells #[.int .i64 0, .int .i64 0, .slice none 0 0, .int .i64 0, .slice none 0 0, .slice none 0 0, .int .i64 0] 39)
  have Y0 := Blk.new w (.cells #[.int .i64 0, .int .i64 0, .slice none 0 0, .int .i64 0, .slice none 0 0, .slice none 0 0, .int .i64 0] 39)
  have G0 : w.grownBy (w.alloc (.cells #[.int .i64 0, .int .i64 0, .slice none 0 0, .int .i64 0, .slice none 0 0, .slice none 0 0, .int .i64 0] 39)) (some rb) := grown_trans (grown_refl w rb) (World.grownBy_alloc w _ none) (fun j e => by cases e)
  go_enter Try.func56, Try.ntmps56
  go_wp2_with fail
  refine (below_any w0 rb a n cap 3 _ (by omega) (HR.out.below K0)).mono ?_
  rintro e u1 ⟨x1, rfl, _, x1', R1, g1⟩
  have x1'' := x1' (by omega)
  have G1 := grown_pair G0 g1
  have Y1 := Y0.grown g1 (by simp; omega)
  have wx1 : IntKind.i64.wrap (1 + (x1 : Int)) = 1 + (x1 : Int) := by rw [IntKind.wrap_i64]; omega
  clear g1 G0 Y0 K0 HR x1'
  go_wp2_with fail
  refine (rdLabel_any w0 rb a n cap _ R1).mono ?_
  rintro e u2 ⟨b1, l1, va, vc, rfl, hl1, O2, R2, g2⟩
  have G2 := grown_pair G1 g2
  have Y2 := Y1.grown g2 (by simp; omega)
  have su : w.heap.size + 1 ≤ u1.heap.size := Y1.lt
  have P2 := O2.low (B' := w.heap.size + 1) su
  clear g2 G1 Y1 R1 O2
  go_wp2_with fail
  refine (below_any w0 rb a n cap 2 _ (by omega) R2).mono ?_
  rintro e u3 ⟨x3, rfl, _, x3', R3, g3⟩
  have x3'' := x3' (by omega)
  have G3 := grown_pair G2 g3
  have Y3 := Y2.grown g3 (by simp; omega)
  have P3 := P2.keptR g3 (by omega)
  have wx3 : IntKind.i64.wrap (2 + (x3 : Int)) = 2 + (x3 : Int) := by rw [IntKind.wrap_i64]; omega
  clear g3 G2 Y2 R2 P2 x3'
  go_wp2_with fail
  refine (owns_any w0 rb a n cap _ R3).mono ?_
  rintro e u4 ⟨o, A, oc, rfl, ho2, hgo, O4, R4, g4⟩
  have G4 := grown_pair G3 g4
  have Y4 := Y3.grown g4 (by simp; omega)
  have P4 := P3.keptR g4 (by omega)
  have I4 := O4.low (B' := w.heap.size + 1) Y3.lt
  clear g4 G3 Y3 R3 P3 O4
  go_wp2_with fail
  refine (below_any w0 rb a n cap 5 _ (by omega) R4).mono ?_
  rintro e u5 ⟨x5, rfl, _, x5', R5, g5⟩
  have G5 := grown_pair G4 g5
  have Y5 := Y4.grown g5 (by simp; omega)
  have P5 := P4.keptR g5 (by omega)
  have I5 := I4.kept g5 (by omega)
  clear g5 G4 Y4 R4 P4 I4 x5'
  go_wp2_with fail
  have K5 := (Below.refl _ u5).alloc (Nat.le_refl _) (.cells #[.int .i64 (1 + (x1 : Int)), .int .i64 b1, .slice va l1.length vc, .int .i64 (2 + (x3 : Int)), .slice none 0 0, .slice (some A) o.length oc, .int .i64 x5] 39)
  have Z5 := Blk.new u5 (.cells #[.int .i64 (1 + (x1 : Int)), .int .i64 b1, .slice va l1.length vc, .int .i64 (2 + (x3 : Int)), .slice none 0 0, .slice (some A) o.length oc, .int .i64 x5] 39)
  have lz : w.heap.size < u5.heap.size := Y5.lt
  have hZP : Hid (∀ k, (Value.slice va l1.length vc).ownBlock = some k → k < u5.heap.size) := fun k e => (World.ownsRow.lt P5 k e).2
  have hZI : Hid (∀ k, (Value.slice (some A) o.length oc).ownBlock = some k → k < u5.heap.size) := fun k e => (World.ownsRow.lt I5 k e).2
  refine (once_any w0 rb a n cap 30 _ (by omega) (R5.below K5)).mono ?_
  rintro e u6 ⟨t, rfl, R6, g6⟩
  have G6 := grown_pair (grown_below G5 K5) g6
  have Y6 := (Y5.below K5).grown g6 (by simp; omega)
  have Z6 := Z5.grown g6 (by simp; omega)
  have P6 := (P5.below K5).keptR g6 (by omega)
  have I6 := (I5.below K5).kept g6 (by omega)
  clear g6 G5 Y5 R5 P5 I5 K5 Z5
  have fin : Hid (∀ (W : World) (mm : Int), Blk W w.heap.size (.cells #[.int .i64 0, .int .i64 0, .slice none 0 0, .int .i64 0, .slice none 0 0, .slice none 0 0, .int .i64 0] 39) →
      OwnList W (w.heap.size + 1) (.slice va l1.length vc) l1 → OwnI W (w.heap.size + 1) (.slice (some A) o.length oc) o → Rd w0 W rb a n cap → w.grownBy W (some rb) →
      ∀ tm : Array Value, tm[2]? = some (.pointer (some ⟨w.heap.size, 0, none⟩)) →
      bodyPost Try.prog Try.f56 (fun e w' => ∃ (id made b1 : Int) (l1 : List (Int × Int)) (va : Option Addr) (vc : Nat) (b2 : Int) (o : List Int) (A : Addr) (oc : Nat),
      e = .returned (.agg #[.int .i64 id, .int .i64 b1, .slice va l1.length vc, .int .i64 b2, .slice none 0 0, .slice (some A) o.length oc, .int .i64 made]) ∧ l1.length ≤ 3 ∧ o.length ≤ 2 ∧ GoodO o ∧
      OwnList w' w.heap.size (.slice va l1.length vc) l1 ∧ OwnI w' w.heap.size (.slice (some A) o.length oc) o ∧ Rd w0 w' rb a n cap ∧ w.grownBy w' (some rb)) .ret { tmps := tm, defers := [] }
        (World.set7 W w.heap.size (.int .i64 (1 + (x1 : Int))) (.int .i64 b1) (.slice va l1.length vc) (.int .i64 (2 + (x3 : Int))) (.slice none 0 0) (.slice (some A) o.length oc) (.int .i64 mm))) := by
    intro W mm hY hP hI hR hG tm ht
    have hB := hY.set7 (.int .i64 (1 + (x1 : Int))) (.int .i64 b1) (.slice va l1.length vc) (.int .i64 (2 + (x3 : Int))) (.slice none 0 0) (.slice (some A) o.length oc) (.int .i64 mm)
    obtain ⟨c0, c1, c2, c3, c4, c5, c6⟩ := hB.seven
    refine bodyPost_ret (v := .agg #[.int .i64 (1 + (x1 : Int)), .int .i64 b1, .slice va l1.length vc, .int .i64 (2 + (x3 : Int)), .slice none 0 0, .slice (some A) o.length oc, .int .i64 mm]) ?_ rfl ?_
    · simp [results, Try.results56, go_sem, ht, c0, c1, c2, c3, c4, c5, c6]
    · refine ⟨_, mm, b1, l1, va, vc, _, o, A, oc, rfl, hl1, ho2, hgo, ?_, ?_, ?_, ?_⟩
      · exact (((((((hP.set (by omega) _ _).set (by omega) _ _).set (by omega) _ _).set (by omega) _ _).set (by omega) _ _).set (by omega) _ _).set (by omega) _ _).low (by omega)
      · exact (((((((hI.set (by omega) _ _).set (by omega) _ _).set (by omega) _ _).set (by omega) _ _).set (by omega) _ _).set (by omega) _ _).set (by omega) _ _).low (by omega)
      · exact (((((((hR.set lr _ _).set lr _ _).set lr _ _).set lr _ _).set lr _ _).set lr _ _).set lr _ _)
      · exact grown_over (grown_over (grown_over (grown_over (grown_over (grown_over (grown_over hG (Nat.le_refl _) _ _) (Nat.le_refl _) _ _) (Nat.le_refl _) _ _) (Nat.le_refl _) _ _) (Nat.le_refl _) _ _) (Nat.le_refl _) _ _) (Nat.le_refl _) _ _
  generalize u5.heap.size = Z at *
  go_upto_if 19 with fail
  go_cut [] (fun wc => ∃ mm : Int, Blk wc Z (.cells #[.int .i64 (1 + (x1 : Int)), .int .i64 b1, .slice va l1.length vc, .int .i64 (2 + (x3 : Int)), .slice none 0 0, .slice (some A) o.length oc, .int .i64 mm] 39) ∧ Blk wc w.heap.size (.cells #[.int .i64 0, .int .i64 0, .slice none 0 0, .int .i64 0, .slice none 0 0, .slice none 0 0, .int .i64 0] 39) ∧ OwnList wc (w.heap.size + 1) (.slice va l1.length vc) l1 ∧ OwnI wc (w.heap.size + 1) (.slice (some A) o.length oc) o ∧ Rd w0 wc rb a n cap ∧ w.grownBy wc (some rb))
  case first =>
    cases t with
    | true =>
      go_wp2_with fail
      refine (off_any w0 rb a n cap 0 30 _ (by omega) (by omega) R6).mono ?_
      rintro e u7 ⟨mm, rfl, R7, g7⟩
      have G7 := grown_pair G6 g7
      have Y7 := Y6.grown g7 (by simp; omega)
      have Z7 := Z6.grown g7 (by simp; omega)
      have P7 := P6.keptR g7 (by omega)
      have I7 := I6.kept g7 (by omega)
      clear g7 G6 Y6 R6 P6 I6 Z6
      obtain ⟨z0, z1, z2, z3, z4, z5, z6⟩ := Z7.seven
      have zf := Z7.frozen7 6
      go_wp2_with fail
      go_meet
      case rel => exact ⟨mm, Z7.set76 _, (blk_setCell_other _ _ _ _ (by dsimp only; omega)).trans Y7, World.ownsRow.kept P7 (grown_set (grown_refl u7 Z) 6 _) (Or.inr (fun e => by have := hZP.out _ e; omega)), World.ownsRow.kept I7 (grown_set (grown_refl u7 Z) 6 _) (Or.inr (fun e => by have := hZI.out _ e; omega)), R7.set (by omega) _ _, grown_over G7 (by omega) _ _⟩
    | false =>
      go_wp2_with fail
      go_meet
      case rel => exact ⟨_, Z6, Y6, P6, I6, R6, G6⟩
  case rest =>
    obtain ⟨mm, Z8, Y8, P8, I8, R8, G8⟩ := hcut
    obtain ⟨z0, z1, z2, z3, z4, z5, z6⟩ := Z8.seven
    obtain ⟨y0, y1, y2, y3, y4, y5, y6⟩ := Y8.seven
    have q0 := Y8.frozen7 0
    have q1 := Y8.frozen7 1
    have q2 := Y8.frozen7 2
    have q3 := Y8.frozen7 3
    have q4 := Y8.frozen7 4
    have q5 := Y8.frozen7 5
    have q6 := Y8.frozen7 6
    clear Z6 Y6 P6 I6 R6 G6
    go_wp2_with fail
    exact fin.out _ mm Y8 P8 I8 R8 G8 _ rfl
end Go.Proofs.Ytjolkbcnglhebaa
