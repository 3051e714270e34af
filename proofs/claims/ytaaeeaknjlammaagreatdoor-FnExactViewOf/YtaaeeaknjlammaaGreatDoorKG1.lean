/- How a kernel that came in is opened: its threads and objects as they lie there. -/
import Derived.Test.YtaaeeaknjlammaaGreatDoorZG
import Derived.Test.YtaaeeaknjlammaaGreatDoorKD1
namespace Go.Proofs.YtaaeeaknjlammaaGreatDoor
open Go.ChangeShapes Go.WideShapes Go.ChangeAt Go.RowKit Go.Deep Go.Joins

theorem Tryz.cells96 : Tryz.prog.cellsOf 96 = 10 := by kernel_rfl
theorem Tryz.cells9 : Tryz.prog.cellsOf 9 = 1 := by kernel_rfl
theorem Tryz.cells58 : Tryz.prog.cellsOf 58 = 1 := by kernel_rfl
theorem Tryz.cells22 : Tryz.prog.cellsOf 22 = 1 := by kernel_rfl
theorem Tryz.cells23 : Tryz.prog.cellsOf 23 = 1 := by kernel_rfl
theorem Tryz.cells25 : Tryz.prog.cellsOf 25 = 2 := by kernel_rfl

instance : Inhabited ThrV := ⟨⟨0, 0, ⟨none, 0, 0, fun _ => 0, fun _ => 0⟩, 0, ⟨none, 0, 0, fun _ => 0, fun _ => 0⟩, ⟨none, 0, 0, fun _ => 0⟩, 0⟩⟩
instance : Inhabited ObjV := ⟨⟨0, 0, 0, 0, ⟨none, 0, 0, fun _ => 0, fun _ => 0⟩, ⟨#[]⟩, ⟨none, 0, 0, fun _ => ⟨#[]⟩⟩, ⟨none, 0, 0, fun _ => 0⟩, 0, ⟨none, 0, 0, fun _ => 0, fun _ => 0⟩⟩⟩
section
variable {H : Type} {enc : TypeId × Value → H} {W : World}

theorem cats_v {fuel : Nat} {v : Value} {x : DataW H × List MemPlace} (h : DataW.trod enc Tryz.prog W 0 (fun _ => true) true fuel 26 [v] = some x) : ∃ c : CatL, v = c.val ∧ c.at W := by
  obtain ⟨a, n, cap, f, g, e, hn, hc, _⟩ := open_cats h
  exact ⟨⟨a, n, cap, f, g⟩, e, hn, hc⟩
theorem nums_v {fuel : Nat} {v : Value} {x : DataW H × List MemPlace} (h : DataW.trod enc Tryz.prog W 0 (fun _ => true) true fuel 52 [v] = some x) : ∃ c : IntL, v = c.val ∧ c.at W := by
  obtain ⟨a, n, cap, f, e, hn, hc, _⟩ := open_nums h
  exact ⟨⟨a, n, cap, f⟩, e, hn, hc⟩
theorem strs_v {fuel : Nat} {v : Value} {x : DataW H × List MemPlace} (h : DataW.trod enc Tryz.prog W 0 (fun _ => true) true fuel 58 [v] = some x) : ∃ c : StrL, v = c.val ∧ c.at W := by
  rcases open_slice1 Tryz.underlying58 Tryz.cells9 h with ⟨hcs, _⟩ | ⟨a, len, cap, m, k, V, D, Pl, hcs, _, hl, hm, hmm, _, hx⟩
  · simp only [List.cons.injEq, and_true] at hcs
    exact ⟨⟨none, 0, 0, fun _ => ⟨#[]⟩⟩, hcs, Nat.zero_le _, fun h => by simp at h, fun i hi => by simp at hi⟩
  · simp only [List.cons.injEq, and_true] at hcs
    simp only [if_true] at hmm
    subst hmm
    have each : ∀ i, i < len → ∃ s : ByteArray, V i = .string s ∧ s.size ≤ maxLen := fun i hi => by
      obtain ⟨_, t⟩ := hx i (by omega)
      obtain ⟨s, e, _, hs⟩ := DataW.trod_string Tryz.underlying9 t
      simp only [List.cons.injEq, and_true] at e
      exact ⟨s, e, hs⟩
    obtain ⟨q, hq⟩ := choose_lt each
    refine ⟨⟨some a, len, m, q⟩, hcs, Nat.le_trans hl hm, fun h0 => ?_, fun i hi => (hq i hi).2⟩
    obtain ⟨b, off, spot⟩ := a
    have hp : 0 < len := h0
    have c0 := (hx 0 (by omega)).1
    have hspot : spot = none := by simpa [Addr.add] using World.cell?_spot c0
    subst hspot
    have c0' : W.cell? ⟨b, off, none⟩ = some (V 0) := by simpa [Addr.add] using c0
    refine ⟨b, off, rfl, cell_lt c0', fun i hi => ?_⟩
    have hi' : i < len := hi
    have t := (hx i (by omega)).1
    rw [add_plain, (hq i hi').1] at t
    exact t
theorem lab_v {fuel : Nat} {v0 v1 : Value} {x : DataW H × List MemPlace} (h : DataW.trod enc Tryz.prog W 0 (fun _ => true) true fuel 28 [v0, v1] = some x) : ∃ (b : Int) (c : CatL), v0 = .int .i64 b ∧ v1 = c.val ∧ c.at W := by
  obtain ⟨b, a, n, cap, f, g, e0, e1, hn, hc⟩ := label_cells h
  exact ⟨b, ⟨a, n, cap, f, g⟩, e0, e1, hn, hc⟩

theorem thr_v {fuel : Nat} {c0 c1 c2 c3 c4 c5 c6 : Value} {x : DataW H × List MemPlace} (h : DataW.trod enc Tryz.prog W 0 (fun _ => true) true fuel 93 [c0, c1, c2, c3, c4, c5, c6] = some x) :
    ∃ t : ThrV, t.at W ∧ c0 = .int .i64 t.id ∧ c1 = .int .i64 t.b1 ∧ c2 = t.c1.val ∧ c3 = .int .i64 t.b2 ∧ c4 = t.c2.val ∧ c5 = t.own.val ∧ c6 = .int .i64 t.made := by
  obtain ⟨xs, k, hk, _, _, hxl, hf⟩ := DataW.trod_struct Tryz.underlying93 h
  match xs, hxl with
  | [y0, y1, y2, y3, y4], _ =>
    have g0 := hf 0 _ rfl
    have g1 := hf 1 _ rfl
    have g2 := hf 2 _ rfl
    have g3 := hf 3 _ rfl
    have g4 := hf 4 _ rfl
    simp [Tryz.cells2, Tryz.cells28, Tryz.cells52] at g0 g1 g2 g3 g4
    obtain ⟨id, e0, _, _⟩ := DataW.trod_int Tryz.underlying2 g0
    obtain ⟨b1, d1, e1, e2, hd1⟩ := lab_v g1
    obtain ⟨b2, d2, e3, e4, hd2⟩ := lab_v g2
    obtain ⟨d3, e5, hd3⟩ := nums_v g3
    obtain ⟨made, e6, _, _⟩ := DataW.trod_int Tryz.underlying2 g4
    simp only [List.cons.injEq, and_true] at e0 e6
    exact ⟨⟨id, b1, d1, b2, d2, d3, made⟩, ⟨hd1, hd2, hd3⟩, e0, e1, e2, e3, e4, e5, e6⟩
theorem obj_v {fuel : Nat} {c0 c1 c2 c3 c4 c5 c6 c7 c8 c9 : Value} {x : DataW H × List MemPlace} (h : DataW.trod enc Tryz.prog W 0 (fun _ => true) true fuel 96 [c0, c1, c2, c3, c4, c5, c6, c7, c8, c9] = some x) :
    ∃ t : ObjV, t.at W ∧ (Lit.int .i64 t.id).wf = true ∧ (Lit.int .i64 t.up).wf = true ∧ c0 = .int .i64 t.id ∧ c1 = .int .i64 t.kind ∧ c2 = .int .i64 t.up ∧ c3 = .int .i64 t.b1 ∧ c4 = t.c1.val ∧ c5 = .string t.data ∧ c6 = t.items.val ∧ c7 = t.own.val ∧ c8 = .int .i64 t.b2 ∧ c9 = t.c2.val := by
  obtain ⟨xs, k, hk, _, _, hxl, hf⟩ := DataW.trod_struct Tryz.underlying96 h
  match xs, hxl with
  | [y0, y1, y2, y3, y4, y5, y6, y7], _ =>
    have g0 := hf 0 _ rfl
    have g1 := hf 1 _ rfl
    have g2 := hf 2 _ rfl
    have g3 := hf 3 _ rfl
    have g4 := hf 4 _ rfl
    have g5 := hf 5 _ rfl
    have g6 := hf 6 _ rfl
    have g7 := hf 7 _ rfl
    simp [Tryz.cells2, Tryz.cells28, Tryz.cells52, Tryz.cells58, Tryz.cells9] at g0 g1 g2 g3 g4 g5 g6 g7
    obtain ⟨id, e0, _, w0⟩ := DataW.trod_int Tryz.underlying2 g0
    obtain ⟨kind, e1, _, _⟩ := DataW.trod_int Tryz.underlying2 g1
    obtain ⟨up, e2, _, w2⟩ := DataW.trod_int Tryz.underlying2 g2
    obtain ⟨b1, d1, e3, e4, hd1⟩ := lab_v g3
    obtain ⟨s, e5, _, hs⟩ := DataW.trod_string Tryz.underlying9 g4
    obtain ⟨d2, e6, hd2⟩ := strs_v g5
    obtain ⟨d3, e7, hd3⟩ := nums_v g6
    obtain ⟨b2, d4, e8, e9, hd4⟩ := lab_v g7
    simp only [List.cons.injEq, and_true] at e0 e1 e2 e5
    exact ⟨⟨id, kind, up, b1, d1, s, d2, d3, b2, d4⟩, ⟨hd1, hd2, hd3, hd4, hs⟩, w0, w2, e0, e1, e2, e3, e4, e5, e6, e7, e8, e9⟩

theorem thrs_v {fuel : Nat} {v : Value} {x : DataW H × List MemPlace} (h : DataW.trod enc Tryz.prog W 0 (fun _ => true) true fuel 22 [v] = some x) :
    ∃ (a : Option Addr) (n cap : Nat) (T : Nat → ThrV), v = .slice a n cap ∧ n ≤ maxLen ∧ n ≤ cap ∧ ThrsAt W a n T := by
  rcases open_slice Tryz.underlying22 h with ⟨hcs, _⟩ | ⟨a, len, cap, m, k, D, Pl, hcs, _, hl, hm, hmm, _, hx⟩
  · simp only [List.cons.injEq, and_true] at hcs
    exact ⟨none, 0, 0, fun _ => ⟨0, 0, ⟨none, 0, 0, fun _ => 0, fun _ => 0⟩, 0, ⟨none, 0, 0, fun _ => 0, fun _ => 0⟩, ⟨none, 0, 0, fun _ => 0⟩, 0⟩, hcs, Nat.zero_le _, Nat.le_refl _, fun h => by omega⟩
  · simp only [List.cons.injEq, and_true] at hcs
    simp only [if_true] at hmm
    subst hmm
    have each : ∀ i, i < len → ∃ t : ThrV, t.at W ∧ W.cell? (a.add (i * 7)) = some (.int .i64 t.id) ∧ W.cell? (a.add (i * 7 + 1)) = some (.int .i64 t.b1) ∧ W.cell? (a.add (i * 7 + 2)) = some t.c1.val ∧ W.cell? (a.add (i * 7 + 3)) = some (.int .i64 t.b2) ∧ W.cell? (a.add (i * 7 + 4)) = some t.c2.val ∧ W.cell? (a.add (i * 7 + 5)) = some t.own.val ∧ W.cell? (a.add (i * 7 + 6)) = some (.int .i64 t.made) := fun i hi => by
      obtain ⟨cs', h1, h2⟩ := hx i (by omega)
      rw [Tryz.cells93] at h1
      obtain ⟨_, hlen, hcell⟩ := World.cells?_some h1
      match cs', hlen with
      | [v0, v1, v2, v3, v4, v5, v6], _ =>
        obtain ⟨t, ht, q0, q1, q2, q3, q4, q5, q6⟩ := thr_v h2
        have e0 := hcell 0 (by omega)
        have e1 := hcell 1 (by omega)
        have e2 := hcell 2 (by omega)
        have e3 := hcell 3 (by omega)
        have e4 := hcell 4 (by omega)
        have e5 := hcell 5 (by omega)
        have e6 := hcell 6 (by omega)
        rw [add_add] at e0 e1 e2 e3 e4 e5 e6
        subst q0 q1 q2 q3 q4 q5 q6
        exact ⟨t, ht, by simpa using e0, by simpa using e1, by simpa using e2, by simpa using e3, by simpa using e4, by simpa using e5, by simpa using e6⟩
    obtain ⟨q, hq⟩ := choose_lt each
    obtain ⟨b, off, spot⟩ := a
    refine ⟨_, len, _, q, hcs, Nat.le_trans hl hm, hl, fun hp => ?_⟩
    have c0 := (hq 0 hp).2.1
    have hspot : spot = none := by simpa [Addr.add] using World.cell?_spot c0
    subst hspot
    have c0' : W.cell? ⟨b, off, none⟩ = some (.int .i64 (q 0).id) := by simpa [Addr.add] using c0
    refine ⟨b, off, rfl, cell_lt c0', fun i hi => ?_⟩
    obtain ⟨ht, t0, t1, t2, t3, t4, t5, t6⟩ := hq i hi
    rw [add_plain] at t0 t1 t2 t3 t4 t5 t6
    simp only [← Nat.add_assoc] at t1 t2 t3 t4 t5 t6
    exact ⟨⟨t0, t1, t2, t3, t4, t5, t6⟩, ht⟩
theorem objs_v {fuel : Nat} {v : Value} {x : DataW H × List MemPlace} (h : DataW.trod enc Tryz.prog W 0 (fun _ => true) true fuel 23 [v] = some x) :
    ∃ (a : Option Addr) (n cap : Nat) (T : Nat → ObjV), v = .slice a n cap ∧ n ≤ maxLen ∧ n ≤ cap ∧ ObjsAt W a n T ∧ ∀ i, i < n → (Lit.int .i64 (T i).id).wf = true ∧ (Lit.int .i64 (T i).up).wf = true := by
  rcases open_slice Tryz.underlying23 h with ⟨hcs, _⟩ | ⟨a, len, cap, m, k, D, Pl, hcs, _, hl, hm, hmm, _, hx⟩
  · simp only [List.cons.injEq, and_true] at hcs
    exact ⟨none, 0, 0, fun _ => ⟨0, 0, 0, 0, ⟨none, 0, 0, fun _ => 0, fun _ => 0⟩, ⟨#[]⟩, ⟨none, 0, 0, fun _ => ⟨#[]⟩⟩, ⟨none, 0, 0, fun _ => 0⟩, 0, ⟨none, 0, 0, fun _ => 0, fun _ => 0⟩⟩, hcs, Nat.zero_le _, Nat.le_refl _, fun h => by omega, fun i hi => by omega⟩
  · simp only [List.cons.injEq, and_true] at hcs
    simp only [if_true] at hmm
    subst hmm
    have each : ∀ i, i < len → ∃ t : ObjV, (t.at W ∧ (Lit.int .i64 t.id).wf = true ∧ (Lit.int .i64 t.up).wf = true) ∧ W.cell? (a.add (i * 10)) = some (.int .i64 t.id) ∧ W.cell? (a.add (i * 10 + 1)) = some (.int .i64 t.kind) ∧ W.cell? (a.add (i * 10 + 2)) = some (.int .i64 t.up) ∧ W.cell? (a.add (i * 10 + 3)) = some (.int .i64 t.b1) ∧ W.cell? (a.add (i * 10 + 4)) = some t.c1.val ∧ W.cell? (a.add (i * 10 + 5)) = some (.string t.data) ∧ W.cell? (a.add (i * 10 + 6)) = some t.items.val ∧ W.cell? (a.add (i * 10 + 7)) = some t.own.val ∧ W.cell? (a.add (i * 10 + 8)) = some (.int .i64 t.b2) ∧ W.cell? (a.add (i * 10 + 9)) = some t.c2.val := fun i hi => by
      obtain ⟨cs', h1, h2⟩ := hx i (by omega)
      rw [Tryz.cells96] at h1
      obtain ⟨_, hlen, hcell⟩ := World.cells?_some h1
      match cs', hlen with
      | [v0, v1, v2, v3, v4, v5, v6, v7, v8, v9], _ =>
        obtain ⟨t, ht, w0, w2, q0, q1, q2, q3, q4, q5, q6, q7, q8, q9⟩ := obj_v h2
        have e0 := hcell 0 (by omega)
        have e1 := hcell 1 (by omega)
        have e2 := hcell 2 (by omega)
        have e3 := hcell 3 (by omega)
        have e4 := hcell 4 (by omega)
        have e5 := hcell 5 (by omega)
        have e6 := hcell 6 (by omega)
        have e7 := hcell 7 (by omega)
        have e8 := hcell 8 (by omega)
        have e9 := hcell 9 (by omega)
        rw [add_add] at e0 e1 e2 e3 e4 e5 e6 e7 e8 e9
        subst q0 q1 q2 q3 q4 q5 q6 q7 q8 q9
        exact ⟨t, ⟨ht, w0, w2⟩, by simpa using e0, by simpa using e1, by simpa using e2, by simpa using e3, by simpa using e4, by simpa using e5, by simpa using e6, by simpa using e7, by simpa using e8, by simpa using e9⟩
    obtain ⟨q, hq⟩ := choose_lt each
    obtain ⟨b, off, spot⟩ := a
    refine ⟨_, len, _, q, hcs, Nat.le_trans hl hm, hl, fun hp => ?_, fun i hi => (hq i hi).1.2⟩
    have c0 := (hq 0 hp).2.1
    have hspot : spot = none := by simpa [Addr.add] using World.cell?_spot c0
    subst hspot
    have c0' : W.cell? ⟨b, off, none⟩ = some (.int .i64 (q 0).id) := by simpa [Addr.add] using c0
    refine ⟨b, off, rfl, cell_lt c0', fun i hi => ?_⟩
    obtain ⟨ht, t0, t1, t2, t3, t4, t5, t6, t7, t8, t9⟩ := hq i hi
    rw [add_plain] at t0 t1 t2 t3 t4 t5 t6 t7 t8 t9
    simp only [← Nat.add_assoc] at t1 t2 t3 t4 t5 t6 t7 t8 t9
    exact ⟨⟨t0, t1, t2, t3, t4, t5, t6, t7, t8, t9⟩, ht.1⟩

set_option maxRecDepth 100000 in
/-- A kernel as it came in. -/
theorem open_kernel {r : Reach} {b0 : Nat} {v : Value} {d : DataW H} {p : List MemPlace}
    (hv : Value.okWide Tryz.prog W r b0 25 v) (h : DataW.Trod enc Tryz.prog W 0 (fun _ => true) true 25 v d p) :
    ∃ k : KerV, v = k.val ∧ k.at W ∧ k.on ≤ k.ok ∧ k.wfs := by
  obtain ⟨c0, c1, y0, y1, m, rfl, _, _, hy0, hy1⟩ := open_agg2 Tryz.underlying25 (by kernel_rfl) Tryz.cells25 hv h
  obtain ⟨ta, tn, tk, T, rfl, h1, _, h3⟩ := thrs_v hy0
  obtain ⟨oa, on, ok, O, rfl, h4, h5, h6, h7⟩ := objs_v hy1
  exact ⟨⟨ta, tn, tk, T, oa, on, ok, O⟩, rfl, ⟨h1, h4, h3, h6⟩, h5, h7⟩
end
end Go.Proofs.YtaaeeaknjlammaaGreatDoor
