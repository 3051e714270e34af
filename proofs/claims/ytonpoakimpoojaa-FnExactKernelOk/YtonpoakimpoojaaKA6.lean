/- Kernels as they lie in memory: copies of rows of objects, and of kernels. -/
import Derived.Test.YtonpoakimpoojaaKA5
namespace Go.Proofs.Ytonpoakimpoojaa
open Go.RowKit Go.Deep

def StrL.same (c d : StrL) : Prop := d.n = c.n ∧ d.f = c.f
def ObjV.same (t u : ObjV) : Prop := u.id = t.id ∧ u.kind = t.kind ∧ u.up = t.up ∧ u.b1 = t.b1 ∧ t.c1.same u.c1 ∧ u.data = t.data ∧ t.items.same u.items ∧ t.own.same u.own ∧ u.b2 = t.b2 ∧ t.c2.same u.c2
def ObjV.row (w : World) (t : ObjV) : Prop := t.c1.row w ∧ t.items.row w ∧ t.own.row w ∧ t.c2.row w
theorem StrL.row.below {w w' : World} {c : StrL} (h : c.row w) (hb : Below w.heap.size w w') : c.row w' := by
  obtain ⟨b, e, hr⟩ := h
  exact ⟨b, e, rowUp hr hb⟩
theorem ObjV.row.below {w w' : World} {t : ObjV} (h : t.row w) (hb : Below w.heap.size w w') : t.row w' := ⟨CatL.row.below h.1 hb, StrL.row.below h.2.1 hb, IntL.row.below h.2.2.1 hb, CatL.row.below h.2.2.2 hb⟩
theorem ObjV.row.put {w : World} {t : ObjV} {P ty N : Nat} {G : Nat → Value} (h : t.row w) (hP : w.rowIs P ty N G) (h1 : ty ≠ 112) (h2 : ty ≠ 2) (h3 : ty ≠ 9) (i : Nat) (v : Value) : t.row (w.setCell ⟨P, i, none⟩ v) := by
  obtain ⟨⟨b1, e1, r1⟩, ⟨b2, e2, r2⟩, ⟨b3, e3, r3⟩, ⟨b4, e4, r4⟩⟩ := h
  exact ⟨⟨b1, e1, r1.setOther (row_ne r1 hP h1.symm) v⟩, ⟨b2, e2, r2.setOther (row_ne r2 hP h3.symm) v⟩, ⟨b3, e3, r3.setOther (row_ne r3 hP h2.symm) v⟩, ⟨b4, e4, r4.setOther (row_ne r4 hP h1.symm) v⟩⟩
theorem toObject_v (t : ObjV) (w : World) (ht : t.at w) (hs : t.small) :
    Calls Try.prog 69 #[t.val] w fun e w' => ∃ u : ObjV, e = .returned u.val ∧ t.same u ∧ u.row w' ∧ Below w.heap.size w w' := by
  refine (toObject_any t w ht hs).mono ?_
  rintro e w' ⟨d1, d2, d3, d4, rfl, r1, r2, r3, r4, hb⟩
  exact ⟨⟨t.id, t.kind, t.up, t.b1, ⟨some ⟨d1, 0, none⟩, t.c1.n, t.c1.n, t.c1.f, t.c1.g⟩, t.data, ⟨some ⟨d2, 0, none⟩, t.items.n, t.items.n, t.items.f⟩, ⟨some ⟨d3, 0, none⟩, t.own.n, t.own.n, t.own.h⟩, t.b2, ⟨some ⟨d4, 0, none⟩, t.c2.n, t.c2.n, t.c2.f, t.c2.g⟩⟩, rfl, ⟨rfl, rfl, rfl, rfl, ⟨rfl, rfl, rfl⟩, rfl, ⟨rfl, rfl⟩, ⟨rfl, rfl⟩, rfl, ⟨rfl, rfl, rfl⟩⟩, ⟨⟨d1, rfl, r1⟩, ⟨d2, rfl, r2⟩, ⟨d3, rfl, r3⟩, ⟨d4, rfl, r4⟩⟩, hb⟩
structure G10 (G : Nat → Value) (o : Nat) (u : ObjV) : Prop where
  g0 : G (o) = .int .i64 u.id
  g1 : G (o + 1) = .int .i64 u.kind
  g2 : G (o + 2) = .int .i64 u.up
  g3 : G (o + 3) = .int .i64 u.b1
  g4 : G (o + 4) = u.c1.val
  g5 : G (o + 5) = .string u.data
  g6 : G (o + 6) = u.items.val
  g7 : G (o + 7) = u.own.val
  g8 : G (o + 8) = .int .i64 u.b2
  g9 : G (o + 9) = u.c2.val
theorem put10 {w : World} {b ty N : Nat} {G : Nat → Value} (hr : w.rowIs b ty N G) (o : Nat) (x0 x1 x2 x3 x4 x5 x6 x7 x8 x9 : Value) :
    ∃ G' : Nat → Value, ((((((((((w.setCell ⟨b, o, none⟩ x0).setCell ⟨b, o + 1, none⟩ x1).setCell ⟨b, o + 2, none⟩ x2).setCell ⟨b, o + 3, none⟩ x3).setCell ⟨b, o + 4, none⟩ x4).setCell ⟨b, o + 5, none⟩ x5).setCell ⟨b, o + 6, none⟩ x6).setCell ⟨b, o + 7, none⟩ x7).setCell ⟨b, o + 8, none⟩ x8).setCell ⟨b, o + 9, none⟩ x9).rowIs b ty N G' ∧ (G' (o) = x0 ∧ G' (o + 1) = x1 ∧ G' (o + 2) = x2 ∧ G' (o + 3) = x3 ∧ G' (o + 4) = x4 ∧ G' (o + 5) = x5 ∧ G' (o + 6) = x6 ∧ G' (o + 7) = x7 ∧ G' (o + 8) = x8 ∧ G' (o + 9) = x9) ∧ ∀ i, i < o → G' i = G i := by
  refine ⟨_, ((((((((((hr.set (o) x0).set (o + 1) x1).set (o + 2) x2).set (o + 3) x3).set (o + 4) x4).set (o + 5) x5).set (o + 6) x6).set (o + 7) x7).set (o + 8) x8).set (o + 9) x9), ⟨?_, ?_, ?_, ?_, ?_, ?_, ?_, ?_, ?_, ?_⟩, fun i hi => ?_⟩
  · simp
  · simp
  · simp
  · simp
  · simp
  · simp
  · simp
  · simp
  · simp
  · simp
  · rw [if_neg (by omega), if_neg (by omega), if_neg (by omega), if_neg (by omega), if_neg (by omega), if_neg (by omega), if_neg (by omega), if_neg (by omega), if_neg (by omega), if_neg (by omega)]
theorem ObjV.row.put10 {w : World} {t : ObjV} {P ty N : Nat} {G : Nat → Value} (h : t.row w) (hP : w.rowIs P ty N G) (h1 : ty ≠ 112) (h2 : ty ≠ 2) (h3 : ty ≠ 9) (o : Nat) (x0 x1 x2 x3 x4 x5 x6 x7 x8 x9 : Value) :
    t.row ((((((((((w.setCell ⟨P, o, none⟩ x0).setCell ⟨P, o + 1, none⟩ x1).setCell ⟨P, o + 2, none⟩ x2).setCell ⟨P, o + 3, none⟩ x3).setCell ⟨P, o + 4, none⟩ x4).setCell ⟨P, o + 5, none⟩ x5).setCell ⟨P, o + 6, none⟩ x6).setCell ⟨P, o + 7, none⟩ x7).setCell ⟨P, o + 8, none⟩ x8).setCell ⟨P, o + 9, none⟩ x9) := by
  have r0 := hP.set (o) x0
  have r1 := r0.set (o + 1) x1
  have r2 := r1.set (o + 2) x2
  have r3 := r2.set (o + 3) x3
  have r4 := r3.set (o + 4) x4
  have r5 := r4.set (o + 5) x5
  have r6 := r5.set (o + 6) x6
  have r7 := r6.set (o + 7) x7
  have r8 := r7.set (o + 8) x8
  exact (ObjV.row.put (ObjV.row.put (ObjV.row.put (ObjV.row.put (ObjV.row.put (ObjV.row.put (ObjV.row.put (ObjV.row.put (ObjV.row.put (ObjV.row.put h hP h1 h2 h3 (o) x0) r0 h1 h2 h3 (o + 1) x1) r1 h1 h2 h3 (o + 2) x2) r2 h1 h2 h3 (o + 3) x3) r3 h1 h2 h3 (o + 4) x4) r4 h1 h2 h3 (o + 5) x5) r5 h1 h2 h3 (o + 6) x6) r6 h1 h2 h3 (o + 7) x7) r7 h1 h2 h3 (o + 8) x8) r8 h1 h2 h3 (o + 9) x9)
theorem Try.info41 : (Try.prog.info? 41).map (fun i => (i.zero, i.size, i.bytes)) = some (some (.agg #[.int .i64 0, .int .i64 0, .int .i64 0, .int .i64 0, .slice none 0 0, .string ⟨#[]⟩, .slice none 0 0, .slice none 0 0, .int .i64 0, .slice none 0 0]), 10, 152) := by kernel_rfl
theorem run_make_obj (n : Nat) (hn : n ≤ 1048576) (w : World) :
    ∃ c : Array Value, c.size = n * 10 ∧ (Instr.makeSlice 29 (.int .i64 (n : Int)) (.int .i64 (n : Int))).run Try.prog w = .ok (.slice (some ⟨w.heap.size, 0, none⟩) n n) (w.alloc (.cells c 41)) := by
  obtain ⟨i, hi, hzz⟩ := Option.map_eq_some_iff.1 Try.info41
  simp only [Prod.mk.injEq] at hzz
  obtain ⟨hz, hs, hb⟩ := hzz
  have hr := run_make (P := Try.prog) w 29 41 i _ Try.underlying29 hi hz .i64 .i64 n n (by omega) (Int.le_refl _) (by rw [hb]; omega) (by omega)
  simp only [Int.toNat_natCast, hs] at hr
  exact ⟨_, size_madeCells _ _, hr⟩
def CopiedO (w : World) (N k : Nat) (T U : Nat → ObjV) (wr : World) : Prop :=
  ∃ G : Nat → Value, wr.rowIs w.heap.size 41 N G ∧ ∀ j, j < k → G10 G (j * 10) (U j) ∧ (T j).same (U j) ∧ (U j).row wr

set_option maxRecDepth 100000 in
set_option maxHeartbeats 2000000 in
theorem toObjectS_any (a : Option Addr) (n cap : Nat) (T : Nat → ObjV) (w : World) (hn : n ≤ 1048576) (hT : ObjsAt w a n T) (hs : ∀ i, i < n → (T i).small) :
    Calls Try.prog 39 #[.slice a n cap] w fun e w' => e = .returned (.slice (some ⟨w.heap.size, 0, none⟩) n n) ∧ (∃ U, CopiedO w (n * 10) n T U w') ∧ Below w.heap.size w w' := by
  obtain ⟨c, hc7, hmk⟩ := run_make_obj n hn w
  have HT := hid hT
  have HS := hid hs
  have R0 : Hid ((w.alloc (.cells c 41)).rowIs w.heap.size 41 (n * 10) (fun i => c[i]?.getD undef)) := hid (by
    rw [← hc7]
    exact World.rowIs_alloc w c 41 _ (fun i hi => by simp [hi]))
  clear hT hs
  go_enter Try.func39, Try.ntmps39
  go_wp2
  go_loopw [4] (fun i wr => ∃ k : Nat, k ≤ n ∧ i = .int .i64 k ∧ (∃ U, CopiedO w (n * 10) k T U wr) ∧ Below w.heap.size w wr) (fun i _ => n - (intOf i).toNat)
  case atStart => exact ⟨0, Nat.zero_le _, rfl, ⟨T, _, R0.out, fun j hj => by omega⟩, (Below.refl _ _).alloc (Nat.le_refl _) _⟩
  case round =>
    obtain ⟨k, hk, rfl, ⟨U, G, hG, hU⟩, hB⟩ := hrel
    have UU := hid hU
    have GG := hid hG
    clear hmk R0 hU hG
    by_cases hlt : k < n
    · obtain ⟨b, off, rfl, hlt0, hc⟩ := HT.out.below hB (by omega)
      obtain ⟨q, ht⟩ := hc k hlt
      obtain ⟨q0, q1, q2, q3, q4, q5, q6, q7, q8, q9⟩ := q
      have i1 : (k : Int) < (n : Int) := by omega
      have SZ := hid (toObject_v (T k) wr ht (HS.out k hlt))
      unfold ObjV.val at SZ
      clear hc ht hlt0
      go_wp2_with fail
      refine SZ.out.mono ?_
      rintro e w2 ⟨u, rfl, us, ua, hb2⟩
      have B2 := then_ hB hb2
      have G2 := hid (rowUp GG.out hb2)
      have U2 := hid (fun j (hj : j < k) => (⟨(UU.out j hj).1, (UU.out j hj).2.1, ObjV.row.below (UU.out j hj).2.2 hb2⟩ : G10 G (j * 10) (U j) ∧ (T j).same (U j) ∧ (U j).row w2))
      have UA := hid ua
      clear q0 q1 q2 q3 q4 q5 q6 q7 q8 q9 SZ UU GG hb2 ua
      have z0 := G2.out.cell (i := k * 10) (by omega)
      have z1 := G2.out.cell (i := k * 10 + 1) (by omega)
      have z2 := G2.out.cell (i := k * 10 + 2) (by omega)
      have z3 := G2.out.cell (i := k * 10 + 3) (by omega)
      have z4 := G2.out.cell (i := k * 10 + 4) (by omega)
      have z5 := G2.out.cell (i := k * 10 + 5) (by omega)
      have z6 := G2.out.cell (i := k * 10 + 6) (by omega)
      have z7 := G2.out.cell (i := k * 10 + 7) (by omega)
      have z8 := G2.out.cell (i := k * 10 + 8) (by omega)
      have z9 := G2.out.cell (i := k * 10 + 9) (by omega)
      have zf := G2.out.frozen
      obtain ⟨G', hG', ⟨e0, e1, e2, e3, e4, e5, e6, e7, e8, e9⟩, hold⟩ := put10 G2.out (k * 10) (.int .i64 u.id) (.int .i64 u.kind) (.int .i64 u.up) (.int .i64 u.b1) (u.c1.val) (.string u.data) (u.items.val) (u.own.val) (.int .i64 u.b2) (u.c2.val)
      have GN := hid hG'
      have RU : Hid (∀ t : ObjV, t.row w2 → t.row _) := hid (fun t h => ObjV.row.put10 h G2.out (by decide) (by decide) (by decide) (k * 10) (.int .i64 u.id) (.int .i64 u.kind) (.int .i64 u.up) (.int .i64 u.b1) (u.c1.val) (.string u.data) (u.items.val) (u.own.val) (.int .i64 u.b2) (u.c2.val))
      have UN : Hid (∀ j, j < k + 1 → G10 G' (j * 10) (if j = k then u else U j) ∧ (T j).same (if j = k then u else U j) ∧ (if j = k then u else U j).row w2) := hid (fun j hj => by
        by_cases e : j = k
        · subst e
          rw [if_pos rfl]
          exact ⟨⟨e0, e1, e2, e3, e4, e5, e6, e7, e8, e9⟩, us, UA.out⟩
        · rw [if_neg e]
          obtain ⟨⟨g0, g1, g2, g3, g4, g5, g6, g7, g8, g9⟩, o2, o3⟩ := U2.out j (by omega)
          exact ⟨⟨(hold _ (by omega)).trans g0, (hold _ (by omega)).trans g1, (hold _ (by omega)).trans g2, (hold _ (by omega)).trans g3, (hold _ (by omega)).trans g4, (hold _ (by omega)).trans g5, (hold _ (by omega)).trans g6, (hold _ (by omega)).trans g7, (hold _ (by omega)).trans g8, (hold _ (by omega)).trans g9⟩, o2, o3⟩)
      clear e0 e1 e2 e3 e4 e5 e6 e7 e8 e9 hold hG' us
      unfold CatL.val IntL.val StrL.val
      go_wp2
      refine ⟨⟨k + 1, by omega, by go_num, ⟨fun j => if j = k then u else U j, G', GN.out, fun j hj => ⟨(UN.out j hj).1, (UN.out j hj).2.1, RU.out _ (UN.out j hj).2.2⟩⟩, ?_⟩, by simp [intOf]; omega⟩
      exact ((((((((((B2.setCell (Nat.le_refl _) _).setCell (Nat.le_refl _) _).setCell (Nat.le_refl _) _).setCell (Nat.le_refl _) _).setCell (Nat.le_refl _) _).setCell (Nat.le_refl _) _).setCell (Nat.le_refl _) _).setCell (Nat.le_refl _) _).setCell (Nat.le_refl _) _).setCell (Nat.le_refl _) _)
    · go_wp2
      go_ret
      have e : k = n := by omega
      subst e
      exact ⟨rfl, ⟨U, G, GG.out, UU.out⟩, hB⟩
end Go.Proofs.Ytonpoakimpoojaa
