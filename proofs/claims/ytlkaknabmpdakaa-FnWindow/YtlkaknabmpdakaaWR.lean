/- The reader's windows: some window. -/
import Derived.Test.YtlkaknabmpdakaaWQ
import Derived.Test.YtlkaknabmpdakaaRB
import Derived.Deep.RegionHeld3
namespace Go.Proofs.Ytlkaknabmpdakaa
open Go Go.RowKit Go.Deep Go.Maps

theorem grown_setnew {a b : World} {Q i : Nat} {P : Option Nat} {v : Value} (h : a.grownBy b P) (hQ : a.heap.size ≤ Q) : a.grownBy (b.setCell ⟨Q, i, none⟩ v) P :=
  ⟨h.os, h.tape, h.output, by rw [nblk_setCell]; exact h.size, fun j hj hne => (blk_setCell_other _ _ _ _ (by dsimp only; omega)).trans (h.block j hj hne)⟩
theorem Rd.setnew {w0 w : World} {rb Q i : Nat} {a : Option Addr} {n cap : Nat} {v : Value} (h : Rd w0 w rb a n cap) (hQ : w0.heap.size ≤ Q) (hne : rb ≠ Q) : Rd w0 (w.setCell ⟨Q, i, none⟩ v) rb a n cap :=
  h.other (grown_set (grown_refl w Q) i v) hQ hne
theorem Blk.setOther {W : World} {P Q i : Nat} {o : Obj} {v : Value} (h : Blk W P o) (hne : P ≠ Q) : Blk (W.setCell ⟨Q, i, none⟩ v) P o := (blk_setCell_other _ _ _ _ (by dsimp only; omega)).trans h
theorem Blk.set0 {W : World} {P t : Nat} {x y : Value} (h : Blk W P (.cells #[x, y] t)) (v : Value) : Blk (W.setCell ⟨P, 0, none⟩ v) P (.cells #[v, y] t) := by
  unfold Blk at *
  simp [World.setCell, Array.getElem?_modify, h]

/-- what stands in a round of window -/
structure Wd (w0 w wr : World) (rb : Nat) (a : Option Addr) (n cap : Nat) (t b : Int) : Prop where
  Y : Blk wr (w.heap.size + 1) (.cells #[.int .i64 t, .int .i64 b] 25)
  X : Blk wr w.heap.size (.cells #[.int .i64 0, .int .i64 0] 25)
  R : Rd w0 wr rb a n cap
  G : w.grownBy wr (some rb)

theorem Wd.below {w0 w wr w' : World} {rb : Nat} {a : Option Addr} {n cap : Nat} {t b : Int} (h : Wd w0 w wr rb a n cap t b) (hb : Below wr.heap.size wr w') : Wd w0 w w' rb a n cap t b :=
  ⟨h.Y.below hb, h.X.below hb, h.R.below hb, ⟨hb.os.trans h.G.os, hb.tape.trans h.G.tape, hb.output.trans h.G.output, Nat.le_trans h.G.size hb.size, fun k hk hne => (hb.block k (Nat.lt_of_lt_of_le hk h.G.size)).trans (h.G.block k hk hne)⟩⟩
theorem Wd.alloc {w0 w wr : World} {rb : Nat} {a : Option Addr} {n cap : Nat} {t b : Int} (h : Wd w0 w wr rb a n cap t b) (o : Obj) : Wd w0 w (wr.alloc o) rb a n cap t b := h.below ((Below.refl _ _).alloc (Nat.le_refl _) _)
theorem Wd.setbox {w0 w wr : World} {rb : Nat} {a : Option Addr} {n cap : Nat} {t b : Int} (h : Wd w0 w wr rb a n cap t b) (hw : w0.heap.size ≤ w.heap.size) (hr : rb < w.heap.size) {Q : Nat} (hQ : w.heap.size + 2 ≤ Q) (i : Nat) (v : Value) : Wd w0 w (wr.setCell ⟨Q, i, none⟩ v) rb a n cap t b :=
  ⟨h.Y.setOther (by omega), h.X.setOther (by omega), h.R.setnew (by omega) (by omega), grown_setnew h.G (by omega)⟩
theorem Wd.put {w0 w wr : World} {rb : Nat} {a : Option Addr} {n cap : Nat} {t b : Int} (h : Wd w0 w wr rb a n cap t b) (hw : w0.heap.size ≤ w.heap.size) (hr : rb < w.heap.size) (p q : Int) : Wd w0 w ((wr.setCell ⟨w.heap.size + 1, 0, none⟩ (.int .i64 p)).setCell ⟨w.heap.size + 1, 1, none⟩ (.int .i64 q)) rb a n cap p q :=
  ⟨(h.Y.set0 _).set1 _, (h.X.setOther (by omega)).setOther (by omega), (h.R.setnew (by omega) (by omega)).setnew (by omega) (by omega), grown_setnew (grown_setnew h.G (by omega)) (by omega)⟩

set_option maxRecDepth 100000 in
set_option maxHeartbeats 2000000 in
theorem rdWindow_any (w0 : World) (rb : Nat) (a : Option Addr) (n cap : Nat) (w : World) (h : Rd w0 w rb a n cap) :
    Calls Try.prog 22 #[.pointer (some ⟨rb, 0, none⟩)] w fun e w' => ∃ t b : Int, e = .returned (.agg #[.int .i64 t, .int .i64 b]) ∧ Rd w0 w' rb a n cap ∧ w.grownBy w' (some rb) := by
  have hrb : rb < w.heap.size := h.lt
  have hw0 : w0.heap.size ≤ w.heap.size := h.E.size
  have W0 : Wd w0 w ((w.alloc (.cells #[.int .i64 0, .int .i64 0] 25)).alloc (.cells #[.int .i64 0, .int .i64 0] 25)) rb a n cap 0 0 :=
    ⟨by have := Blk.new (w.alloc (.cells #[.int .i64 0, .int .i64 0] 25)) (.cells #[.int .i64 0, .int .i64 0] 25); simpa using this, (Blk.new w _).alloc _, (h.below ((Below.refl _ w).alloc (Nat.le_refl _) _)).below ((Below.refl _ _).alloc (Nat.le_refl _) _),
      grown_trans (grown_trans (grown_refl w rb) (World.grownBy_alloc w _ none) (fun j e => by cases e)) (World.grownBy_alloc _ _ none) (fun j e => by cases e)⟩
  clear h
  go_enter Try.func22, Try.ntmps22
  go_wp2_with fail
  generalize (w.alloc (.cells #[.int .i64 0, .int .i64 0] 25)).alloc (.cells #[.int .i64 0, .int .i64 0] 25) = U0 at *
  refine (below_any w0 rb a n cap 6 _ (by omega) W0.R).mono ?_
  rintro e U1 ⟨x, rfl, _, hx, R1, g1⟩
  have W1 : Wd w0 w U1 rb a n cap 0 0 := ⟨W0.Y.grown g1 (by simp; omega), W0.X.grown g1 (by simp; omega), R1, grown_pair W0.G g1⟩
  clear W0 R1 g1 hx
  go_wp2_with fail
  go_loopw [4] (fun i wr => ∃ (j : Nat) (t b : Int), i = .int .i64 j ∧ j ≤ x ∧ Wd w0 w wr rb a n cap t b) (fun i _ => (intOf i).toNat)
  case atStart => exact ⟨x, 0, 0, rfl, Nat.le_refl _, W1⟩
  case round =>
    obtain ⟨j, t, b, rfl, hjx, D⟩ := hrel
    clear W1
    by_cases hj : 0 < j
    · have hj' : (0 : Int) < (j : Int) := by omega
      have HS := hid (fun (y : Int) v => specTaken_any t b y v)
      obtain ⟨y0, y1⟩ := D.Y.two
      have DA : Hid (Wd w0 w wr.drew rb a n cap t b) := ⟨D.Y, D.X, D.R.drew, ⟨D.G.os, D.G.tape, D.G.output, D.G.size, D.G.block⟩⟩
      have DB : Hid (Wd w0 w (wr.drew.alloc (.cells #[.int .i64 0, .int .i64 0] 25)) rb a n cap t b) :=
        ⟨DA.out.Y.alloc _, DA.out.X.alloc _, DA.out.R.below ((Below.refl _ _).alloc (Nat.le_refl _) _), grown_trans DA.out.G (World.grownBy_alloc _ _ none) (fun j e => by cases e)⟩
      have ZB : Hid (Blk (wr.drew.alloc (.cells #[.int .i64 0, .int .i64 0] 25)) wr.heap.size (.cells #[.int .i64 0, .int .i64 0] 25)) := Blk.new wr.drew _
      have nP : some (w.heap.size + 1) ≠ some rb := by simp; omega
      have nX : some w.heap.size ≠ some rb := by simp; omega
      have lw := D.Y.lt
      have nw : ¬ wr.heap.size = w.heap.size + 1 := Nat.ne_of_gt lw
      have nw' : ¬ w.heap.size + 1 = wr.heap.size := Nat.ne_of_lt lw
      have nZ : some wr.heap.size ≠ some rb := by simp; omega
      go_wp2_with fail
      go_region_held3 (fun w' => w'.cell? ⟨w.heap.size + 1, 0, none⟩ = some (.int .i64 t) ∧ w'.cell? ⟨w.heap.size + 1, 1, none⟩ = some (.int .i64 b)) (go_keep)
        (first
          | (go_at_call 25; refine (below_any w0 rb a n cap 70 _ (by decide) DA.out.R).mono ?_; rintro e w2 ⟨q, rfl, _, hq, R2, g2⟩; have D2 : Wd w0 w w2 rb a n cap t b := ⟨DA.out.Y.grown g2 nP, DA.out.X.grown g2 nX, R2, grown_pair DA.out.G g2⟩; obtain ⟨c0, c1⟩ := D2.Y.two; have l2 := D2.Y.lt; have ne2 : ¬ w2.heap.size = w.heap.size + 1 := Nat.ne_of_gt l2; have ne2' : ¬ w.heap.size + 1 = w2.heap.size := Nat.ne_of_lt l2)
          | (go_at_call 25; refine (below_any w0 rb a n cap 70 _ (by decide) DB.out.R).mono ?_; rintro e w2 ⟨q, rfl, _, hq, R2, g2⟩; have D2 : Wd w0 w w2 rb a n cap t b := ⟨DB.out.Y.grown g2 nP, DB.out.X.grown g2 nX, R2, grown_pair DB.out.G g2⟩; obtain ⟨c0, c1⟩ := D2.Y.two; have l2 := D2.Y.lt; have ne2 : ¬ w2.heap.size = w.heap.size + 1 := Nat.ne_of_gt l2; have ne2' : ¬ w.heap.size + 1 = w2.heap.size := Nat.ne_of_lt l2; have zz := ZB.out.grown g2 nZ)
          | (go_at_call 9; refine (HS.out _ _).mono ?_; rintro e w3 ⟨rfl, hb3⟩; (first | (have Z3 := zz.below hb3; have D3 := D2.below hb3; obtain ⟨z0, z1⟩ := Z3.two; have fz := Z3.frozen2) | (have Z3 := (Blk.new w2 (.cells #[.int .i64 0, .int .i64 0] 25)).below hb3; have D3 := (D2.alloc (.cells #[.int .i64 0, .int .i64 0] 25)).below hb3; obtain ⟨z0, z1⟩ := Z3.two; have fz := Z3.frozen2) | (have D3 := D2.below hb3)); obtain ⟨k0, k1⟩ := D3.Y.two; have fy := D3.Y.frozen2; have l3 := D3.Y.lt))
      all_goals
        have E3 := D3
        go_wp2
      all_goals
        refine ⟨?_, by simp [intOf]; omega⟩
        refine ⟨j - 1, ?_⟩
        first
          | exact ⟨_, _, by congr 1; omega, by omega, (D3.put hw0 hrb _ _).alloc _⟩
          | exact ⟨_, _, by congr 1; omega, by omega, D3.alloc _⟩
          | exact ⟨_, _, by congr 1; omega, by omega, ((D3.setbox hw0 hrb (by omega) _ _).setbox hw0 hrb (by omega) _ _).put hw0 hrb _ _⟩
          | exact ⟨_, _, by congr 1; omega, by omega, (D3.setbox hw0 hrb (by omega) _ _).setbox hw0 hrb (by omega) _ _⟩
    · have hj' : ¬ (0 : Int) < (j : Int) := by omega
      have nP : some (w.heap.size + 1) ≠ some rb := by simp; omega
      have nX : some w.heap.size ≠ some rb := by simp; omega
      go_wp2_with fail
      refine (once_any w0 rb a n cap 30 _ (by omega) D.R).mono ?_
      rintro e w2 ⟨q, rfl, R2, g2⟩
      have D2 : Wd w0 w w2 rb a n cap t b := ⟨D.Y.grown g2 nP, D.X.grown g2 nX, R2, grown_pair D.G g2⟩
      clear D R2 g2
      cases q with
      | false =>
        obtain ⟨y0, y1⟩ := D2.Y.two
        obtain ⟨x0, x1⟩ := D2.X.two
        have fx := D2.X.frozen2
        go_wp2
        refine bodyPost_ret (v := .agg #[.int .i64 t, .int .i64 b]) (by simp [results, Try.results22, go_sem, x0, x1]) rfl ⟨t, b, rfl, ?_, ?_⟩
        · exact (D2.R.setnew hw0 (by omega)).setnew hw0 (by omega)
        · exact grown_setnew (grown_setnew D2.G (Nat.le_refl _)) (Nat.le_refl _)
      | true =>
        go_wp2_with fail
        refine (off_any w0 rb a n cap 0 8 _ (by omega) (by omega) D2.R).mono ?_
        rintro e w3 ⟨z, rfl, R3, g3⟩
        have D3 : Wd w0 w w3 rb a n cap t b := ⟨D2.Y.grown g3 nP, D2.X.grown g3 nX, R3, grown_pair D2.G g3⟩
        clear D2 R3 g3
        obtain ⟨y0, y1⟩ := D3.Y.two
        obtain ⟨x0, x1⟩ := D3.X.two
        have fx := D3.X.frozen2
        have fy := D3.Y.frozen2
        go_wp2
        refine bodyPost_ret (v := .agg #[.int .i64 t, .int .i64 z]) (by simp [results, Try.results22, go_sem, x0, x1]) rfl ⟨t, z, rfl, ?_, ?_⟩
        · exact ((D3.R.setnew (by omega) (by omega)).setnew hw0 (by omega)).setnew hw0 (by omega)
        · exact grown_setnew (grown_setnew (grown_setnew D3.G (by omega)) (Nat.le_refl _)) (Nat.le_refl _)
end Go.Proofs.Ytlkaknabmpdakaa
