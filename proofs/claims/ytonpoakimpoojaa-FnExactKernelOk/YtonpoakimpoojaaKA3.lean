/- Kernels as they lie in memory: copies of threads. -/
import Derived.Test.YtonpoakimpoojaaKA2
namespace Go.Proofs.Ytonpoakimpoojaa
open Go.RowKit Go.Deep

def CatL.same (c d : CatL) : Prop := d.n = c.n ∧ d.f = c.f ∧ d.g = c.g
def IntL.same (c d : IntL) : Prop := d.n = c.n ∧ d.h = c.h
/-- the same thread, wherever its lists lie -/
def ThrV.same (t u : ThrV) : Prop := u.id = t.id ∧ u.b1 = t.b1 ∧ t.c1.same u.c1 ∧ u.b2 = t.b2 ∧ t.c2.same u.c2 ∧ t.own.same u.own ∧ u.made = t.made

/-- lists in rows of their own, as copies have them -/
def CatL.row (w : World) (c : CatL) : Prop := ∃ b, c.a = some ⟨b, 0, none⟩ ∧ w.rowIs b 112 (c.n * 2) (pairCell c.f c.g)
def IntL.row (w : World) (c : IntL) : Prop := ∃ b, c.a = some ⟨b, 0, none⟩ ∧ w.rowIs b 2 c.n (fun i => .int .i64 (c.h i))
def ThrV.row (w : World) (t : ThrV) : Prop := t.c1.row w ∧ t.c2.row w ∧ t.own.row w
theorem rowUp {w w' : World} {b ty N : Nat} {G : Nat → Value} (h : w.rowIs b ty N G) (hb : Below w.heap.size w w') : w'.rowIs b ty N G := h.of_block (hb.block b h.lt)
theorem row_ne {w : World} {b b' t t' N N' : Nat} {G G' : Nat → Value} (h : w.rowIs b t N G) (h' : w.rowIs b' t' N' G') (ht : t ≠ t') : b ≠ b' := fun e => by
  subst e
  obtain ⟨c, e1, _⟩ := h
  obtain ⟨c', e2, _⟩ := h'
  rw [e1] at e2
  simp only [Option.some.injEq, Obj.cells.injEq] at e2
  exact ht e2.2.1
theorem CatL.row.below {w w' : World} {c : CatL} (h : c.row w) (hb : Below w.heap.size w w') : c.row w' := by
  obtain ⟨b, e, hr⟩ := h
  exact ⟨b, e, rowUp hr hb⟩
theorem IntL.row.below {w w' : World} {c : IntL} (h : c.row w) (hb : Below w.heap.size w w') : c.row w' := by
  obtain ⟨b, e, hr⟩ := h
  exact ⟨b, e, rowUp hr hb⟩
theorem ThrV.row.below {w w' : World} {t : ThrV} (h : t.row w) (hb : Below w.heap.size w w') : t.row w' := ⟨CatL.row.below h.1 hb, CatL.row.below h.2.1 hb, IntL.row.below h.2.2 hb⟩
theorem ThrV.row.put {w : World} {t : ThrV} {P ty N : Nat} {G : Nat → Value} (h : t.row w) (hP : w.rowIs P ty N G) (h1 : ty ≠ 112) (h2 : ty ≠ 2) (i : Nat) (v : Value) : t.row (w.setCell ⟨P, i, none⟩ v) := by
  obtain ⟨⟨b1, e1, r1⟩, ⟨b2, e2, r2⟩, ⟨b3, e3, r3⟩⟩ := h
  exact ⟨⟨b1, e1, r1.setOther (row_ne r1 hP h1.symm) v⟩, ⟨b2, e2, r2.setOther (row_ne r2 hP h1.symm) v⟩, ⟨b3, e3, r3.setOther (row_ne r3 hP h2.symm) v⟩⟩
theorem ThrV.row.at {w : World} {t : ThrV} (h : t.row w) (hs : t.small) : t.at w := by
  obtain ⟨⟨b1, e1, r1⟩, ⟨b2, e2, r2⟩, ⟨b3, e3, r3⟩⟩ := h
  refine ⟨⟨by unfold maxLen; have := hs.1; omega, ?_⟩, ⟨by unfold maxLen; have := hs.2.1; omega, ?_⟩, ⟨by unfold maxLen; have := hs.2.2; omega, ?_⟩⟩
  · rw [e1]; exact CatsAt.row r1
  · rw [e2]; exact CatsAt.row r2
  · rw [e3]; exact IntsAt.row r3

theorem toThread_v (t : ThrV) (w : World) (ht : t.at w) (hs : t.small) :
    Calls Try.prog 68 #[t.val] w fun e w' => ∃ u : ThrV, e = .returned u.val ∧ t.same u ∧ u.row w' ∧ Below w.heap.size w w' := by
  refine (toThread_any t.id t.made t.b1 t.c1.a t.c1.n t.c1.k t.c1.f t.c1.g t.b2 t.c2.a t.c2.n t.c2.k t.c2.f t.c2.g t.own.a t.own.n t.own.k t.own.h w hs.1 hs.2.1 hs.2.2 ht.1.2 ht.2.1.2 ht.2.2.2).mono ?_
  rintro e w' ⟨c1, c2, c3, rfl, r1, r2, r3, hb⟩
  exact ⟨⟨t.id, t.b1, ⟨some ⟨c1, 0, none⟩, t.c1.n, t.c1.n, t.c1.f, t.c1.g⟩, t.b2, ⟨some ⟨c2, 0, none⟩, t.c2.n, t.c2.n, t.c2.f, t.c2.g⟩, ⟨some ⟨c3, 0, none⟩, t.own.n, t.own.n, t.own.h⟩, t.made⟩, rfl, ⟨rfl, rfl, ⟨rfl, rfl, rfl⟩, rfl, ⟨rfl, rfl, rfl⟩, ⟨rfl, rfl⟩, rfl⟩, ⟨⟨c1, rfl, r1⟩, ⟨c2, rfl, r2⟩, ⟨c3, rfl, r3⟩⟩, hb⟩

/-- a row of threads, cell by cell -/
structure G7 (G : Nat → Value) (o : Nat) (t : ThrV) : Prop where
  g0 : G o = .int .i64 t.id
  g1 : G (o + 1) = .int .i64 t.b1
  g2 : G (o + 2) = t.c1.val
  g3 : G (o + 3) = .int .i64 t.b2
  g4 : G (o + 4) = t.c2.val
  g5 : G (o + 5) = t.own.val
  g6 : G (o + 6) = .int .i64 t.made
theorem G7.cells {w : World} {b ty N : Nat} {G : Nat → Value} {o : Nat} {t : ThrV} (hr : w.rowIs b ty N G) (h : G7 G o t) (ho : o + 7 ≤ N) : Cells7 w b o t :=
  ⟨(hr.cell (by omega)).trans (congrArg some h.g0), (hr.cell (by omega)).trans (congrArg some h.g1), (hr.cell (by omega)).trans (congrArg some h.g2), (hr.cell (by omega)).trans (congrArg some h.g3), (hr.cell (by omega)).trans (congrArg some h.g4), (hr.cell (by omega)).trans (congrArg some h.g5), (hr.cell (by omega)).trans (congrArg some h.g6)⟩
theorem put7 {w : World} {b ty N : Nat} {G : Nat → Value} (hr : w.rowIs b ty N G) (o : Nat) (x0 x1 x2 x3 x4 x5 x6 : Value) :
    ∃ G' : Nat → Value, (((((((w.setCell ⟨b, o, none⟩ x0).setCell ⟨b, o + 1, none⟩ x1).setCell ⟨b, o + 2, none⟩ x2).setCell ⟨b, o + 3, none⟩ x3).setCell ⟨b, o + 4, none⟩ x4).setCell ⟨b, o + 5, none⟩ x5).setCell ⟨b, o + 6, none⟩ x6).rowIs b ty N G' ∧
      (G' o = x0 ∧ G' (o + 1) = x1 ∧ G' (o + 2) = x2 ∧ G' (o + 3) = x3 ∧ G' (o + 4) = x4 ∧ G' (o + 5) = x5 ∧ G' (o + 6) = x6) ∧ ∀ i, i < o → G' i = G i := by
  refine ⟨_, ((((((hr.set o x0).set (o + 1) x1).set (o + 2) x2).set (o + 3) x3).set (o + 4) x4).set (o + 5) x5).set (o + 6) x6, ⟨?_, ?_, ?_, ?_, ?_, ?_, ?_⟩, fun i hi => ?_⟩
  · simp
  · simp
  · simp
  · simp
  · simp
  · simp
  · simp
  · rw [if_neg (by omega), if_neg (by omega), if_neg (by omega), if_neg (by omega), if_neg (by omega), if_neg (by omega), if_neg (by omega)]

theorem ThrV.row.put7 {w : World} {t : ThrV} {P ty N : Nat} {G : Nat → Value} (h : t.row w) (hP : w.rowIs P ty N G) (h1 : ty ≠ 112) (h2 : ty ≠ 2) (o : Nat) (x0 x1 x2 x3 x4 x5 x6 : Value) :
    t.row (((((((w.setCell ⟨P, o, none⟩ x0).setCell ⟨P, o + 1, none⟩ x1).setCell ⟨P, o + 2, none⟩ x2).setCell ⟨P, o + 3, none⟩ x3).setCell ⟨P, o + 4, none⟩ x4).setCell ⟨P, o + 5, none⟩ x5).setCell ⟨P, o + 6, none⟩ x6) := by
  have r0 := hP.set o x0
  have r1 := r0.set (o + 1) x1
  have r2 := r1.set (o + 2) x2
  have r3 := r2.set (o + 3) x3
  have r4 := r3.set (o + 4) x4
  have r5 := r4.set (o + 5) x5
  exact ThrV.row.put (ThrV.row.put (ThrV.row.put (ThrV.row.put (ThrV.row.put (ThrV.row.put (ThrV.row.put h hP h1 h2 o x0) r0 h1 h2 _ x1) r1 h1 h2 _ x2) r2 h1 h2 _ x3) r3 h1 h2 _ x4) r4 h1 h2 _ x5) r5 h1 h2 _ x6
theorem Try.info49 : (Try.prog.info? 49).map (fun i => (i.zero, i.size, i.bytes)) = some (some (.agg #[.int .i64 0, .int .i64 0, .slice none 0 0, .int .i64 0, .slice none 0 0, .slice none 0 0, .int .i64 0]), 7, 104) := by kernel_rfl
theorem run_make_thr (n : Nat) (hn : n ≤ 1048576) (w : World) :
    ∃ c : Array Value, c.size = n * 7 ∧ (Instr.makeSlice 28 (.int .i64 (n : Int)) (.int .i64 (n : Int))).run Try.prog w = .ok (.slice (some ⟨w.heap.size, 0, none⟩) n n) (w.alloc (.cells c 49)) := by
  obtain ⟨i, hi, hzz⟩ := Option.map_eq_some_iff.1 Try.info49
  simp only [Prod.mk.injEq] at hzz
  obtain ⟨hz, hs, hb⟩ := hzz
  have hr := run_make (P := Try.prog) w 28 49 i _ Try.underlying28 hi hz .i64 .i64 n n (by omega) (Int.le_refl _) (by rw [hb]; omega) (by omega)
  simp only [Int.toNat_natCast, hs] at hr
  exact ⟨_, size_madeCells _ _, hr⟩

/-- the first k threads of the copy -/
def Copied (w : World) (N k : Nat) (T U : Nat → ThrV) (wr : World) : Prop :=
  ∃ G : Nat → Value, wr.rowIs w.heap.size 49 N G ∧ ∀ j, j < k → G7 G (j * 7) (U j) ∧ (T j).same (U j) ∧ (U j).row wr

set_option maxRecDepth 100000 in
set_option maxHeartbeats 2000000 in
theorem toThreadS_any (a : Option Addr) (n cap : Nat) (T : Nat → ThrV) (w : World) (hn : n ≤ 1048576) (hT : ThrsAt w a n T) (hs : ∀ i, i < n → (T i).small) :
    Calls Try.prog 38 #[.slice a n cap] w fun e w' => e = .returned (.slice (some ⟨w.heap.size, 0, none⟩) n n) ∧ (∃ U, Copied w (n * 7) n T U w') ∧ Below w.heap.size w w' := by
  obtain ⟨c, hc7, hmk⟩ := run_make_thr n hn w
  have HT := hid hT
  have HS := hid hs
  have R0 : Hid ((w.alloc (.cells c 49)).rowIs w.heap.size 49 (n * 7) (fun i => c[i]?.getD undef)) := hid (by
    rw [← hc7]
    exact World.rowIs_alloc w c 49 _ (fun i hi => by simp [hi]))
  clear hT hs
  go_enter Try.func38, Try.ntmps38
  go_wp2
  go_loopw [4] (fun i wr => ∃ k : Nat, k ≤ n ∧ i = .int .i64 k ∧ (∃ U, Copied w (n * 7) k T U wr) ∧ Below w.heap.size w wr) (fun i _ => n - (intOf i).toNat)
  case atStart => exact ⟨0, Nat.zero_le _, rfl, ⟨T, _, R0.out, fun j hj => by omega⟩, (Below.refl _ _).alloc (Nat.le_refl _) _⟩
  case round =>
    obtain ⟨k, hk, rfl, ⟨U, G, hG, hU⟩, hB⟩ := hrel
    have UU := hid hU
    have GG := hid hG
    clear hmk R0 hU hG
    by_cases hlt : k < n
    · obtain ⟨b, off, rfl, hlt0, hc⟩ := HT.out.below hB (by omega)
      obtain ⟨q, ht⟩ := hc k hlt
      obtain ⟨q0, q1, q2, q3, q4, q5, q6⟩ := q
      have i1 : (k : Int) < (n : Int) := by omega
      have SZ := hid (toThread_v (T k) wr ht (HS.out k hlt))
      unfold ThrV.val at SZ
      clear hc ht hlt0
      go_wp2_with fail
      refine SZ.out.mono ?_
      rintro e w2 ⟨u, rfl, us, ua, hb2⟩
      have B2 := then_ hB hb2
      have G2 := hid (rowUp GG.out hb2)
      have U2 := hid (fun j (hj : j < k) => (⟨(UU.out j hj).1, (UU.out j hj).2.1, ThrV.row.below (UU.out j hj).2.2 hb2⟩ : G7 G (j * 7) (U j) ∧ (T j).same (U j) ∧ (U j).row w2))
      have UA := hid ua
      clear q0 q1 q2 q3 q4 q5 q6 SZ UU GG hb2 ua
      have z0 := G2.out.cell (i := k * 7) (by omega)
      have z1 := G2.out.cell (i := k * 7 + 1) (by omega)
      have z2 := G2.out.cell (i := k * 7 + 2) (by omega)
      have z3 := G2.out.cell (i := k * 7 + 3) (by omega)
      have z4 := G2.out.cell (i := k * 7 + 4) (by omega)
      have z5 := G2.out.cell (i := k * 7 + 5) (by omega)
      have z6 := G2.out.cell (i := k * 7 + 6) (by omega)
      have zf := G2.out.frozen
      obtain ⟨G', hG', ⟨e0, e1, e2, e3, e4, e5, e6⟩, hold⟩ := put7 G2.out (k * 7) (.int .i64 u.id) (.int .i64 u.b1) u.c1.val (.int .i64 u.b2) u.c2.val u.own.val (.int .i64 u.made)
      have GN := hid hG'
      have RU : Hid (∀ t : ThrV, t.row w2 → t.row _) := hid (fun t h => ThrV.row.put7 h G2.out (by decide) (by decide) (k * 7) (.int .i64 u.id) (.int .i64 u.b1) u.c1.val (.int .i64 u.b2) u.c2.val u.own.val (.int .i64 u.made))
      have UN : Hid (∀ j, j < k + 1 → G7 G' (j * 7) (if j = k then u else U j) ∧ (T j).same (if j = k then u else U j) ∧ (if j = k then u else U j).row w2) := hid (fun j hj => by
        by_cases e : j = k
        · subst e
          rw [if_pos rfl]
          exact ⟨⟨e0, e1, e2, e3, e4, e5, e6⟩, us, UA.out⟩
        · rw [if_neg e]
          obtain ⟨⟨g0, g1, g2, g3, g4, g5, g6⟩, o2, o3⟩ := U2.out j (by omega)
          exact ⟨⟨(hold _ (by omega)).trans g0, (hold _ (by omega)).trans g1, (hold _ (by omega)).trans g2, (hold _ (by omega)).trans g3, (hold _ (by omega)).trans g4, (hold _ (by omega)).trans g5, (hold _ (by omega)).trans g6⟩, o2, o3⟩)
      clear e0 e1 e2 e3 e4 e5 e6 hold hG' us
      unfold CatL.val IntL.val
      go_wp2
      refine ⟨⟨k + 1, by omega, by go_num, ⟨fun j => if j = k then u else U j, G', GN.out, fun j hj => ⟨(UN.out j hj).1, (UN.out j hj).2.1, RU.out _ (UN.out j hj).2.2⟩⟩, ?_⟩, by simp [intOf]; omega⟩
      exact ((((((B2.setCell (Nat.le_refl _) _).setCell (Nat.le_refl _) _).setCell (Nat.le_refl _) _).setCell (Nat.le_refl _) _).setCell (Nat.le_refl _) _).setCell (Nat.le_refl _) _).setCell (Nat.le_refl _) _
    · go_wp2
      go_ret
      have e : k = n := by omega
      subst e
      exact ⟨rfl, ⟨U, G, GG.out, UU.out⟩, hB⟩
end Go.Proofs.Ytonpoakimpoojaa
