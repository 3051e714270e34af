/- Kernels as they lie in memory: copies of threads. -/
import Derived.Test.YtjceaajnemgheaaGreatDoorZ2
namespace Go.Proofs.YtjceaajnemgheaaGreatDoor
open Go.RowKit Go.Deep

def CatL.same (c d : CatL) : Prop := d.n = c.n ∧ d.f = c.f ∧ d.g = c.g
def IntL.same (c d : IntL) : Prop := d.n = c.n ∧ d.h = c.h
def ThrV.same (t u : ThrV) : Prop := u.id = t.id ∧ u.b1 = t.b1 ∧ t.c1.same u.c1 ∧ u.b2 = t.b2 ∧ t.c2.same u.c2 ∧ t.own.same u.own ∧ u.made = t.made
def CatL.row (w : World) (c : CatL) : Prop := ∃ b, c.a = some ⟨b, 0, none⟩ ∧ w.rowIs b 58 (c.n * 2) (pairCell c.f c.g)
def IntL.row (w : World) (c : IntL) : Prop := ∃ b, c.a = some ⟨b, 0, none⟩ ∧ w.rowIs b 2 c.n (fun i => .int .i64 (c.h i))
def ThrV.row (w : World) (t : ThrV) : Prop := t.c1.row w ∧ t.c2.row w ∧ t.own.row w
theorem rowUp {w w' : World} {b ty N : Nat} {G : Nat → Value} (h : w.rowIs b ty N G) (hb : Below w.heap.size w w') : w'.rowIs b ty N G := h.of_block (hb.block b h.lt)
theorem row_ne {w : World} {b b' t t' N N' : Nat} {G G' : Nat → Value} (h : w.rowIs b t N G) (h' : w.rowIs b' t' N' G') (ht : t ≠ t') : b ≠ b' := fun e => by
  subst e
  obtain ⟨c, e1, _⟩ := h
  obtain ⟨c', e2, _⟩ := h'
  rw [e1] at e2
  simp only [Option.some.injEq, Obj.cells.injEq] at e2
  exact ht e2.2.1
theorem CatL.row.below {w w' : World} {c : CatL} (h : c.row w) (hb : Below w.heap.size w w') : c.row w' := by
  obtain ⟨b, e, hr⟩ := h
  exact ⟨b, e, rowUp hr hb⟩
theorem IntL.row.below {w w' : World} {c : IntL} (h : c.row w) (hb : Below w.heap.size w w') : c.row w' := by
  obtain ⟨b, e, hr⟩ := h
  exact ⟨b, e, rowUp hr hb⟩
theorem ThrV.row.below {w w' : World} {t : ThrV} (h : t.row w) (hb : Below w.heap.size w w') : t.row w' := ⟨CatL.row.below h.1 hb, CatL.row.below h.2.1 hb, IntL.row.below h.2.2 hb⟩
theorem ThrV.row.put {w : World} {t : ThrV} {P ty N : Nat} {G : Nat → Value} (h : t.row w) (hP : w.rowIs P ty N G) (h1 : ty ≠ 58) (h2 : ty ≠ 2) (i : Nat) (v : Value) : t.row (w.setCell ⟨P, i, none⟩ v) := by
  obtain ⟨⟨b1, e1, r1⟩, ⟨b2, e2, r2⟩, ⟨b3, e3, r3⟩⟩ := h
  exact ⟨⟨b1, e1, r1.setOther (row_ne r1 hP h1.symm) v⟩, ⟨b2, e2, r2.setOther (row_ne r2 hP h1.symm) v⟩, ⟨b3, e3, r3.setOther (row_ne r3 hP h2.symm) v⟩⟩
theorem ThrV.row.at {w : World} {t : ThrV} (h : t.row w) (hs : t.small) : t.at w := by
  obtain ⟨⟨b1, e1, r1⟩, ⟨b2, e2, r2⟩, ⟨b3, e3, r3⟩⟩ := h
  refine ⟨⟨by unfold maxLen; have := hs.1; omega, ?_⟩, ⟨by unfold maxLen; have := hs.2.1; omega, ?_⟩, ⟨by unfold maxLen; have := hs.2.2; omega, ?_⟩⟩
  · rw [e1]; exact CatsAt.row r1
  · rw [e2]; exact CatsAt.row r2
  · rw [e3]; exact IntsAt.row r3
def ThrV.since (B : Nat) (t : ThrV) : Prop := (∀ p, t.c1.a = some p → B ≤ p.block) ∧ (∀ p, t.c2.a = some p → B ≤ p.block) ∧ (∀ p, t.own.a = some p → B ≤ p.block)
theorem ThrV.since.low {B B' : Nat} {t : ThrV} (h : t.since B) (hB : B' ≤ B) : t.since B' := ⟨fun p e => Nat.le_trans hB (h.1 p e), fun p e => Nat.le_trans hB (h.2.1 p e), fun p e => Nat.le_trans hB (h.2.2 p e)⟩
structure G7 (G : Nat → Value) (o : Nat) (t : ThrV) : Prop where
  g0 : G o = .int .i64 t.id
  g1 : G (o + 1) = .int .i64 t.b1
  g2 : G (o + 2) = t.c1.val
  g3 : G (o + 3) = .int .i64 t.b2
  g4 : G (o + 4) = t.c2.val
  g5 : G (o + 5) = t.own.val
  g6 : G (o + 6) = .int .i64 t.made
theorem G7.cells {w : World} {b ty N : Nat} {G : Nat → Value} {o : Nat} {t : ThrV} (hr : w.rowIs b ty N G) (h : G7 G o t) (ho : o + 7 ≤ N) : Cells7 w b o t :=
  ⟨(hr.cell (by omega)).trans (congrArg some h.g0), (hr.cell (by omega)).trans (congrArg some h.g1), (hr.cell (by omega)).trans (congrArg some h.g2), (hr.cell (by omega)).trans (congrArg some h.g3), (hr.cell (by omega)).trans (congrArg some h.g4), (hr.cell (by omega)).trans (congrArg some h.g5), (hr.cell (by omega)).trans (congrArg some h.g6)⟩
theorem put7 {w : World} {b ty N : Nat} {G : Nat → Value} (hr : w.rowIs b ty N G) (o : Nat) (x0 x1 x2 x3 x4 x5 x6 : Value) :
    ∃ G' : Nat → Value, (((((((w.setCell ⟨b, o, none⟩ x0).setCell ⟨b, o + 1, none⟩ x1).setCell ⟨b, o + 2, none⟩ x2).setCell ⟨b, o + 3, none⟩ x3).setCell ⟨b, o + 4, none⟩ x4).setCell ⟨b, o + 5, none⟩ x5).setCell ⟨b, o + 6, none⟩ x6).rowIs b ty N G' ∧
      (G' o = x0 ∧ G' (o + 1) = x1 ∧ G' (o + 2) = x2 ∧ G' (o + 3) = x3 ∧ G' (o + 4) = x4 ∧ G' (o + 5) = x5 ∧ G' (o + 6) = x6) ∧ ∀ i, i < o → G' i = G i := by
  refine ⟨_, ((((((hr.set o x0).set (o + 1) x1).set (o + 2) x2).set (o + 3) x3).set (o + 4) x4).set (o + 5) x5).set (o + 6) x6, ⟨?_, ?_, ?_, ?_, ?_, ?_, ?_⟩, fun i hi => ?_⟩
  · simp
  · simp
  · simp
  · simp
  · simp
  · simp
  · simp
  · rw [if_neg (by omega), if_neg (by omega), if_neg (by omega), if_neg (by omega), if_neg (by omega), if_neg (by omega), if_neg (by omega)]

theorem ThrV.row.put7 {w : World} {t : ThrV} {P ty N : Nat} {G : Nat → Value} (h : t.row w) (hP : w.rowIs P ty N G) (h1 : ty ≠ 58) (h2 : ty ≠ 2) (o : Nat) (x0 x1 x2 x3 x4 x5 x6 : Value) :
    t.row (((((((w.setCell ⟨P, o, none⟩ x0).setCell ⟨P, o + 1, none⟩ x1).setCell ⟨P, o + 2, none⟩ x2).setCell ⟨P, o + 3, none⟩ x3).setCell ⟨P, o + 4, none⟩ x4).setCell ⟨P, o + 5, none⟩ x5).setCell ⟨P, o + 6, none⟩ x6) := by
  have r0 := hP.set o x0
  have r1 := r0.set (o + 1) x1
  have r2 := r1.set (o + 2) x2
  have r3 := r2.set (o + 3) x3
  have r4 := r3.set (o + 4) x4
  have r5 := r4.set (o + 5) x5
  exact ThrV.row.put (ThrV.row.put (ThrV.row.put (ThrV.row.put (ThrV.row.put (ThrV.row.put (ThrV.row.put h hP h1 h2 o x0) r0 h1 h2 _ x1) r1 h1 h2 _ x2) r2 h1 h2 _ x3) r3 h1 h2 _ x4) r4 h1 h2 _ x5) r5 h1 h2 _ x6
theorem Tryz.info41 : (Tryz.prog.info? 41).map (fun i => (i.zero, i.size, i.bytes)) = some (some (.agg #[.int .i64 0, .int .i64 0, .slice none 0 0, .int .i64 0, .slice none 0 0, .slice none 0 0, .int .i64 0]), 7, 104) := by kernel_rfl
theorem run_make_thr (n : Nat) (hn : n ≤ 1048576) (w : World) :
    ∃ c : Array Value, c.size = n * 7 ∧ (Instr.makeSlice 22 (.int .i64 (n : Int)) (.int .i64 (n : Int))).run Tryz.prog w = .ok (.slice (some ⟨w.heap.size, 0, none⟩) n n) (w.alloc (.cells c 41)) := by
  obtain ⟨i, hi, hzz⟩ := Option.map_eq_some_iff.1 Tryz.info41
  simp only [Prod.mk.injEq] at hzz
  obtain ⟨hz, hs, hb⟩ := hzz
  have hr := run_make (P := Tryz.prog) w 22 41 i _ Tryz.underlying22 hi hz .i64 .i64 n n (by omega) (Int.le_refl _) (by rw [hb]; omega) (by omega)
  simp only [Int.toNat_natCast, hs] at hr
  exact ⟨_, size_madeCells _ _, hr⟩
def Copied (w : World) (N k : Nat) (T U : Nat → ThrV) (wr : World) : Prop :=
  ∃ G : Nat → Value, wr.rowIs w.heap.size 41 N G ∧ ∀ j, j < k → G7 G (j * 7) (U j) ∧ (T j).same (U j) ∧ (U j).row wr ∧ (U j).since w.heap.size

end Go.Proofs.YtjceaajnemgheaaGreatDoor
namespace Go.Proofs.YtjceaajnemgheaaGreatDoor
open Go.RowKit Go.Deep

theorem Tryz.info9 : (Tryz.prog.info? 9).map (fun i => (i.zero, i.size, i.bytes)) = some (some (.string ⟨#[]⟩), 1, 16) := by kernel_rfl
def StrL.row (w : World) (c : StrL) : Prop := ∃ b, c.a = some ⟨b, 0, none⟩ ∧ w.rowIs b 9 c.n (fun i => .string (c.f i))
theorem Blk.setAt {W : World} {P t i : Nat} {cs : Array Value} (h : Blk W P (.cells cs t)) (v : Value) : Blk (W.setCell ⟨P, i, none⟩ v) P (.cells (cs.setIfInBounds i v) t) := by
  unfold Blk at *
  simp [World.setCell, Array.getElem?_modify, h]
theorem Blk.warm {W : World} {P t : Nat} {cs : Array Value} (h : Blk W P (.cells cs t)) (i : Nat) : W.frozen? ⟨P, i, none⟩ = false := by
  unfold Blk at h
  simp [World.frozen?, h]
theorem Blk.other {W : World} {P Q i : Nat} {o : Obj} (h : Blk W P o) (hne : Q ≠ P) (v : Value) : Blk (W.setCell ⟨Q, i, none⟩ v) P o := by
  unfold Blk at *
  simp [World.setCell, Array.getElem?_modify, h, hne]
theorem Blk.all10 {W : World} {P t : Nat} {z0 z1 z2 z3 z4 z5 z6 z7 z8 z9 : Value} (h : Blk W P (.cells #[z0, z1, z2, z3, z4, z5, z6, z7, z8, z9] t)) (x0 x1 x2 x3 x4 x5 x6 x7 x8 x9 : Value) :
    Blk ((((((((((W.setCell ⟨P, 0, none⟩ x0).setCell ⟨P, 1, none⟩ x1).setCell ⟨P, 2, none⟩ x2).setCell ⟨P, 3, none⟩ x3).setCell ⟨P, 4, none⟩ x4).setCell ⟨P, 5, none⟩ x5).setCell ⟨P, 6, none⟩ x6).setCell ⟨P, 7, none⟩ x7).setCell ⟨P, 8, none⟩ x8).setCell ⟨P, 9, none⟩ x9) P (.cells #[x0, x1, x2, x3, x4, x5, x6, x7, x8, x9] t) := by
  have h0 : Blk _ P (.cells #[x0, z1, z2, z3, z4, z5, z6, z7, z8, z9] t) := h.setAt (i := 0) x0
  have h1 : Blk _ P (.cells #[x0, x1, z2, z3, z4, z5, z6, z7, z8, z9] t) := h0.setAt (i := 1) x1
  have h2 : Blk _ P (.cells #[x0, x1, x2, z3, z4, z5, z6, z7, z8, z9] t) := h1.setAt (i := 2) x2
  have h3 : Blk _ P (.cells #[x0, x1, x2, x3, z4, z5, z6, z7, z8, z9] t) := h2.setAt (i := 3) x3
  have h4 : Blk _ P (.cells #[x0, x1, x2, x3, x4, z5, z6, z7, z8, z9] t) := h3.setAt (i := 4) x4
  have h5 : Blk _ P (.cells #[x0, x1, x2, x3, x4, x5, z6, z7, z8, z9] t) := h4.setAt (i := 5) x5
  have h6 : Blk _ P (.cells #[x0, x1, x2, x3, x4, x5, x6, z7, z8, z9] t) := h5.setAt (i := 6) x6
  have h7 : Blk _ P (.cells #[x0, x1, x2, x3, x4, x5, x6, x7, z8, z9] t) := h6.setAt (i := 7) x7
  have h8 : Blk _ P (.cells #[x0, x1, x2, x3, x4, x5, x6, x7, x8, z9] t) := h7.setAt (i := 8) x8
  exact h8.setAt (i := 9) x9
end Go.Proofs.YtjceaajnemgheaaGreatDoor
namespace Go.Proofs.YtjceaajnemgheaaGreatDoor
open Go.RowKit Go.Deep

end Go.Proofs.YtjceaajnemgheaaGreatDoor
namespace Go.Proofs.YtjceaajnemgheaaGreatDoor
open Go.RowKit Go.Deep

def StrL.same (c d : StrL) : Prop := d.n = c.n ∧ d.f = c.f
def ObjV.same (t u : ObjV) : Prop := u.id = t.id ∧ u.kind = t.kind ∧ u.up = t.up ∧ u.b1 = t.b1 ∧ t.c1.same u.c1 ∧ u.data = t.data ∧ t.items.same u.items ∧ t.own.same u.own ∧ u.b2 = t.b2 ∧ t.c2.same u.c2
def ObjV.row (w : World) (t : ObjV) : Prop := t.c1.row w ∧ t.items.row w ∧ t.own.row w ∧ t.c2.row w
theorem StrL.row.below {w w' : World} {c : StrL} (h : c.row w) (hb : Below w.heap.size w w') : c.row w' := by
  obtain ⟨b, e, hr⟩ := h
  exact ⟨b, e, rowUp hr hb⟩
theorem ObjV.row.below {w w' : World} {t : ObjV} (h : t.row w) (hb : Below w.heap.size w w') : t.row w' := ⟨CatL.row.below h.1 hb, StrL.row.below h.2.1 hb, IntL.row.below h.2.2.1 hb, CatL.row.below h.2.2.2 hb⟩
theorem ObjV.row.put {w : World} {t : ObjV} {P ty N : Nat} {G : Nat → Value} (h : t.row w) (hP : w.rowIs P ty N G) (h1 : ty ≠ 58) (h2 : ty ≠ 2) (h3 : ty ≠ 9) (i : Nat) (v : Value) : t.row (w.setCell ⟨P, i, none⟩ v) := by
  obtain ⟨⟨b1, e1, r1⟩, ⟨b2, e2, r2⟩, ⟨b3, e3, r3⟩, ⟨b4, e4, r4⟩⟩ := h
  exact ⟨⟨b1, e1, r1.setOther (row_ne r1 hP h1.symm) v⟩, ⟨b2, e2, r2.setOther (row_ne r2 hP h3.symm) v⟩, ⟨b3, e3, r3.setOther (row_ne r3 hP h2.symm) v⟩, ⟨b4, e4, r4.setOther (row_ne r4 hP h1.symm) v⟩⟩
def ObjV.since (B : Nat) (t : ObjV) : Prop := (∀ p, t.c1.a = some p → B ≤ p.block) ∧ (∀ p, t.items.a = some p → B ≤ p.block) ∧ (∀ p, t.own.a = some p → B ≤ p.block) ∧ (∀ p, t.c2.a = some p → B ≤ p.block)
theorem ObjV.since.low {B B' : Nat} {t : ObjV} (h : t.since B) (hB : B' ≤ B) : t.since B' := ⟨fun p e => Nat.le_trans hB (h.1 p e), fun p e => Nat.le_trans hB (h.2.1 p e), fun p e => Nat.le_trans hB (h.2.2.1 p e), fun p e => Nat.le_trans hB (h.2.2.2 p e)⟩
structure G10 (G : Nat → Value) (o : Nat) (u : ObjV) : Prop where
  g0 : G (o) = .int .i64 u.id
  g1 : G (o + 1) = .int .i64 u.kind
  g2 : G (o + 2) = .int .i64 u.up
  g3 : G (o + 3) = .int .i64 u.b1
  g4 : G (o + 4) = u.c1.val
  g5 : G (o + 5) = .string u.data
  g6 : G (o + 6) = u.items.val
  g7 : G (o + 7) = u.own.val
  g8 : G (o + 8) = .int .i64 u.b2
  g9 : G (o + 9) = u.c2.val
theorem put10 {w : World} {b ty N : Nat} {G : Nat → Value} (hr : w.rowIs b ty N G) (o : Nat) (x0 x1 x2 x3 x4 x5 x6 x7 x8 x9 : Value) :
    ∃ G' : Nat → Value, ((((((((((w.setCell ⟨b, o, none⟩ x0).setCell ⟨b, o + 1, none⟩ x1).setCell ⟨b, o + 2, none⟩ x2).setCell ⟨b, o + 3, none⟩ x3).setCell ⟨b, o + 4, none⟩ x4).setCell ⟨b, o + 5, none⟩ x5).setCell ⟨b, o + 6, none⟩ x6).setCell ⟨b, o + 7, none⟩ x7).setCell ⟨b, o + 8, none⟩ x8).setCell ⟨b, o + 9, none⟩ x9).rowIs b ty N G' ∧ (G' (o) = x0 ∧ G' (o + 1) = x1 ∧ G' (o + 2) = x2 ∧ G' (o + 3) = x3 ∧ G' (o + 4) = x4 ∧ G' (o + 5) = x5 ∧ G' (o + 6) = x6 ∧ G' (o + 7) = x7 ∧ G' (o + 8) = x8 ∧ G' (o + 9) = x9) ∧ ∀ i, i < o → G' i = G i := by
  refine ⟨_, ((((((((((hr.set (o) x0).set (o + 1) x1).set (o + 2) x2).set (o + 3) x3).set (o + 4) x4).set (o + 5) x5).set (o + 6) x6).set (o + 7) x7).set (o + 8) x8).set (o + 9) x9), ⟨?_, ?_, ?_, ?_, ?_, ?_, ?_, ?_, ?_, ?_⟩, fun i hi => ?_⟩
  · simp
  · simp
  · simp
  · simp
  · simp
  · simp
  · simp
  · simp
  · simp
  · simp
  · rw [if_neg (by omega), if_neg (by omega), if_neg (by omega), if_neg (by omega), if_neg (by omega), if_neg (by omega), if_neg (by omega), if_neg (by omega), if_neg (by omega), if_neg (by omega)]
theorem ObjV.row.put10 {w : World} {t : ObjV} {P ty N : Nat} {G : Nat → Value} (h : t.row w) (hP : w.rowIs P ty N G) (h1 : ty ≠ 58) (h2 : ty ≠ 2) (h3 : ty ≠ 9) (o : Nat) (x0 x1 x2 x3 x4 x5 x6 x7 x8 x9 : Value) :
    t.row ((((((((((w.setCell ⟨P, o, none⟩ x0).setCell ⟨P, o + 1, none⟩ x1).setCell ⟨P, o + 2, none⟩ x2).setCell ⟨P, o + 3, none⟩ x3).setCell ⟨P, o + 4, none⟩ x4).setCell ⟨P, o + 5, none⟩ x5).setCell ⟨P, o + 6, none⟩ x6).setCell ⟨P, o + 7, none⟩ x7).setCell ⟨P, o + 8, none⟩ x8).setCell ⟨P, o + 9, none⟩ x9) := by
  have r0 := hP.set (o) x0
  have r1 := r0.set (o + 1) x1
  have r2 := r1.set (o + 2) x2
  have r3 := r2.set (o + 3) x3
  have r4 := r3.set (o + 4) x4
  have r5 := r4.set (o + 5) x5
  have r6 := r5.set (o + 6) x6
  have r7 := r6.set (o + 7) x7
  have r8 := r7.set (o + 8) x8
  exact (ObjV.row.put (ObjV.row.put (ObjV.row.put (ObjV.row.put (ObjV.row.put (ObjV.row.put (ObjV.row.put (ObjV.row.put (ObjV.row.put (ObjV.row.put h hP h1 h2 h3 (o) x0) r0 h1 h2 h3 (o + 1) x1) r1 h1 h2 h3 (o + 2) x2) r2 h1 h2 h3 (o + 3) x3) r3 h1 h2 h3 (o + 4) x4) r4 h1 h2 h3 (o + 5) x5) r5 h1 h2 h3 (o + 6) x6) r6 h1 h2 h3 (o + 7) x7) r7 h1 h2 h3 (o + 8) x8) r8 h1 h2 h3 (o + 9) x9)
theorem Tryz.info45 : (Tryz.prog.info? 45).map (fun i => (i.zero, i.size, i.bytes)) = some (some (.agg #[.int .i64 0, .int .i64 0, .int .i64 0, .int .i64 0, .slice none 0 0, .string ⟨#[]⟩, .slice none 0 0, .slice none 0 0, .int .i64 0, .slice none 0 0]), 10, 152) := by kernel_rfl
theorem run_make_obj (n : Nat) (hn : n ≤ 1048576) (w : World) :
    ∃ c : Array Value, c.size = n * 10 ∧ (Instr.makeSlice 23 (.int .i64 (n : Int)) (.int .i64 (n : Int))).run Tryz.prog w = .ok (.slice (some ⟨w.heap.size, 0, none⟩) n n) (w.alloc (.cells c 45)) := by
  obtain ⟨i, hi, hzz⟩ := Option.map_eq_some_iff.1 Tryz.info45
  simp only [Prod.mk.injEq] at hzz
  obtain ⟨hz, hs, hb⟩ := hzz
  have hr := run_make (P := Tryz.prog) w 23 45 i _ Tryz.underlying23 hi hz .i64 .i64 n n (by omega) (Int.le_refl _) (by rw [hb]; omega) (by omega)
  simp only [Int.toNat_natCast, hs] at hr
  exact ⟨_, size_madeCells _ _, hr⟩
def CopiedO (w : World) (N k : Nat) (T U : Nat → ObjV) (wr : World) : Prop :=
  ∃ G : Nat → Value, wr.rowIs w.heap.size 45 N G ∧ ∀ j, j < k → G10 G (j * 10) (U j) ∧ (T j).same (U j) ∧ (U j).row wr ∧ (U j).since w.heap.size

end Go.Proofs.YtjceaajnemgheaaGreatDoor
namespace Go.Proofs.YtjceaajnemgheaaGreatDoor
open Go.RowKit Go.Deep
def ThrRow (w : World) (a : Option Addr) (n : Nat) (T : Nat → ThrV) : Prop := ∃ b G, a = some ⟨b, 0, none⟩ ∧ w.rowIs b 41 (n * 7) G ∧ ∀ j, j < n → G7 G (j * 7) (T j) ∧ (T j).row w
def ObjRow (w : World) (a : Option Addr) (n : Nat) (T : Nat → ObjV) : Prop := ∃ b G, a = some ⟨b, 0, none⟩ ∧ w.rowIs b 45 (n * 10) G ∧ ∀ j, j < n → G10 G (j * 10) (T j) ∧ (T j).row w
theorem ThrRow.below {w w' : World} {a : Option Addr} {n : Nat} {T : Nat → ThrV} (h : ThrRow w a n T) (hb : Below w.heap.size w w') : ThrRow w' a n T := by
  obtain ⟨b, G, e, hr, hj⟩ := h
  exact ⟨b, G, e, rowUp hr hb, fun j h => ⟨(hj j h).1, ThrV.row.below (hj j h).2 hb⟩⟩
theorem ObjRow.below {w w' : World} {a : Option Addr} {n : Nat} {T : Nat → ObjV} (h : ObjRow w a n T) (hb : Below w.heap.size w w') : ObjRow w' a n T := by
  obtain ⟨b, G, e, hr, hj⟩ := h
  exact ⟨b, G, e, rowUp hr hb, fun j h => ⟨(hj j h).1, ObjV.row.below (hj j h).2 hb⟩⟩
theorem ThrRow.put {w : World} {a : Option Addr} {n : Nat} {T : Nat → ThrV} {P ty N : Nat} {G : Nat → Value} (h : ThrRow w a n T) (hP : w.rowIs P ty N G) (h1 : ty ≠ 58) (h2 : ty ≠ 2) (h4 : ty ≠ 41) (i : Nat) (v : Value) : ThrRow (w.setCell ⟨P, i, none⟩ v) a n T := by
  obtain ⟨b, G', e, hr, hj⟩ := h
  exact ⟨b, G', e, hr.setOther (row_ne hr hP h4.symm) v, fun j h => ⟨(hj j h).1, ThrV.row.put (hj j h).2 hP h1 h2 i v⟩⟩
theorem ObjRow.put {w : World} {a : Option Addr} {n : Nat} {T : Nat → ObjV} {P ty N : Nat} {G : Nat → Value} (h : ObjRow w a n T) (hP : w.rowIs P ty N G) (h1 : ty ≠ 58) (h2 : ty ≠ 2) (h3 : ty ≠ 9) (h4 : ty ≠ 45) (i : Nat) (v : Value) : ObjRow (w.setCell ⟨P, i, none⟩ v) a n T := by
  obtain ⟨b, G', e, hr, hj⟩ := h
  exact ⟨b, G', e, hr.setOther (row_ne hr hP h4.symm) v, fun j h => ⟨(hj j h).1, ObjV.row.put (hj j h).2 hP h1 h2 h3 i v⟩⟩
theorem Blk.row {W : World} {P t : Nat} {cs : Array Value} (h : Blk W P (.cells cs t)) : W.rowIs P t cs.size (fun i => cs[i]?.getD undef) := ⟨cs, h, rfl, fun i hi => by simp [hi]⟩
def KerV.same (k l : KerV) : Prop := l.tn = k.tn ∧ (∀ j, j < k.tn → (k.T j).same (l.T j)) ∧ l.on = k.on ∧ (∀ j, j < k.on → (k.O j).same (l.O j))
def KerV.row (w : World) (k : KerV) : Prop := ThrRow w k.ta k.tn k.T ∧ ObjRow w k.oa k.on k.O
def KerV.since (B : Nat) (k : KerV) : Prop := (∀ p, k.ta = some p → B ≤ p.block) ∧ (∀ j, j < k.tn → (k.T j).since B) ∧ (∀ p, k.oa = some p → B ≤ p.block) ∧ (∀ j, j < k.on → (k.O j).since B)
end Go.Proofs.YtjceaajnemgheaaGreatDoor
namespace Go.Proofs.YtjceaajnemgheaaGreatDoor
open Go.RowKit Go.Deep

theorem StrL.row.at {w : World} {c : StrL} (h : c.row w) (hs : c.small) : c.at w := by
  obtain ⟨b, e, hr⟩ := h
  refine ⟨by unfold maxLen; have := hs.1; omega, fun _ => ⟨b, 0, e, hr.lt, fun i hi => ?_⟩, fun i hi => by unfold maxLen; have := hs.2 i hi; omega⟩
  rw [Nat.zero_add]
  exact hr.cell hi
theorem ObjV.row.at {w : World} {t : ObjV} (h : t.row w) (hs : t.small) : t.at w := by
  obtain ⟨⟨b1, e1, r1⟩, r2, ⟨b3, e3, r3⟩, ⟨b4, e4, r4⟩⟩ := h
  obtain ⟨s1, s2, s3, s4, s5⟩ := hs
  refine ⟨⟨by unfold maxLen; omega, ?_⟩, StrL.row.at r2 s3, ⟨by unfold maxLen; omega, ?_⟩, ⟨by unfold maxLen; omega, ?_⟩, by unfold maxLen; omega⟩
  · rw [e1]; exact CatsAt.row r1
  · rw [e3]; exact IntsAt.row r3
  · rw [e4]; exact CatsAt.row r4
theorem ThrV.same.small {t u : ThrV} (h : t.same u) (hs : t.small) : u.small := by
  obtain ⟨_, _, ⟨e1, _⟩, _, ⟨e2, _⟩, ⟨e3, _⟩, _⟩ := h
  unfold ThrV.small at *
  rw [e1, e2, e3]
  exact hs
theorem ObjV.same.small {t u : ObjV} (h : t.same u) (hs : t.small) : u.small := by
  obtain ⟨_, _, _, _, ⟨e1, _⟩, e2, ⟨e3, e4⟩, ⟨e5, _⟩, _, ⟨e6, _⟩⟩ := h
  unfold ObjV.small StrL.small at *
  rw [e1, e2, e3, e4, e5, e6]
  exact hs
theorem KerV.same.small {k l : KerV} (h : k.same l) (hs : k.small) : l.small := by
  obtain ⟨e1, h1, e2, h2⟩ := h
  obtain ⟨⟨n1, s1⟩, ⟨n2, s2⟩⟩ := hs
  unfold KerV.small
  rw [e1, e2]
  exact ⟨⟨n1, fun i hi => ThrV.same.small (h1 i hi) (s1 i hi)⟩, ⟨n2, fun i hi => ObjV.same.small (h2 i hi) (s2 i hi)⟩⟩
theorem G10.cells {w : World} {b ty N : Nat} {G : Nat → Value} {o : Nat} {t : ObjV} (hr : w.rowIs b ty N G) (h : G10 G o t) (ho : o + 10 ≤ N) : Cells10 w b o t :=
  ⟨(hr.cell (by omega)).trans (congrArg some h.g0), (hr.cell (by omega)).trans (congrArg some h.g1), (hr.cell (by omega)).trans (congrArg some h.g2), (hr.cell (by omega)).trans (congrArg some h.g3), (hr.cell (by omega)).trans (congrArg some h.g4), (hr.cell (by omega)).trans (congrArg some h.g5), (hr.cell (by omega)).trans (congrArg some h.g6), (hr.cell (by omega)).trans (congrArg some h.g7), (hr.cell (by omega)).trans (congrArg some h.g8), (hr.cell (by omega)).trans (congrArg some h.g9)⟩
theorem ThrRow.at {w : World} {a : Option Addr} {n : Nat} {T : Nat → ThrV} (h : ThrRow w a n T) (hs : ∀ i, i < n → (T i).small) : ThrsAt w a n T := fun _ => by
  obtain ⟨b, G, e, hr, hj⟩ := h
  refine ⟨b, 0, e, hr.lt, fun i hi => ⟨?_, ThrV.row.at (hj i hi).2 (hs i hi)⟩⟩
  rw [Nat.zero_add]
  exact G7.cells hr (hj i hi).1 (by omega)
theorem ObjRow.at {w : World} {a : Option Addr} {n : Nat} {T : Nat → ObjV} (h : ObjRow w a n T) (hs : ∀ i, i < n → (T i).small) : ObjsAt w a n T := fun _ => by
  obtain ⟨b, G, e, hr, hj⟩ := h
  refine ⟨b, 0, e, hr.lt, fun i hi => ⟨?_, ObjV.row.at (hj i hi).2 (hs i hi)⟩⟩
  rw [Nat.zero_add]
  exact G10.cells hr (hj i hi).1 (by omega)
theorem KerV.row.at {w : World} {k : KerV} (h : k.row w) (hs : k.small) : k.at w :=
  ⟨by unfold maxLen; have := hs.1.1; omega, by unfold maxLen; have := hs.2.1; omega, ThrRow.at h.1 hs.1.2, ObjRow.at h.2 hs.2.2⟩
theorem eqThread_v (t u : ThrV) (w : World) (ht : t.at w) (hu : u.at w) (h : t.same u) :
    Calls Tryz.prog 35 #[t.val, u.val] w fun e w' => e = .returned (.bool true) ∧ Below w.heap.size w w' := by
  obtain ⟨id, b1, ⟨a1, n1, k1, f1, g1⟩, b2, ⟨a2, n2, k2, f2, g2⟩, ⟨a3, n3, k3, h3⟩, m⟩ := t
  obtain ⟨id', b1', ⟨a1', n1', k1', f1', g1'⟩, b2', ⟨a2', n2', k2', f2', g2'⟩, ⟨a3', n3', k3', h3'⟩, m'⟩ := u
  obtain ⟨e1, e2, ⟨e3, e4, e5⟩, e6, ⟨e7, e8, e9⟩, ⟨e10, e11⟩, e12⟩ := h
  simp only at e1 e2 e3 e4 e5 e6 e7 e8 e9 e10 e11 e12
  subst e1 e2 e3 e4 e5 e6 e7 e8 e9 e10 e11 e12
  exact eqThread_true _ _ _ _ _ _ f1' g1' _ _ _ _ f2' g2' _ _ _ h3' _ _ _ _ _ _ w ht.1.1 ht.2.1.1 ht.2.2.1 ht.1.2 ht.2.1.2 ht.2.2.2 hu.1.2 hu.2.1.2 hu.2.2.2
end Go.Proofs.YtjceaajnemgheaaGreatDoor
