/- Texts put together. -/
import Derived.Test.YtaaeeaknjlammaaGreatDoorRows
import Derived.Test.YtaaeeaknjlammaaGreatDoorZA
import Derived.ProofKit
import Derived.OpenShut
import Derived.ShutString
import Derived.ChangeOld
import Derived.Lib.SmallJoins
import Derived.Deep.SlicePairs
/- How a label and a slice of categories that came in are opened: the numbers that lie there. -/
namespace Go.Proofs.YtaaeeaknjlammaaGreatDoor
open Go.ChangeShapes Go.WideShapes Go.ChangeAt Go.RowKit Go.Deep Go.Joins

theorem Tryz.ownKnob : Go.ownKnob Tryz.prog.godebug = none := by kernel_rfl
theorem Tryz.laidOut : laidOutB Tryz.prog = true := by kernel_rfl
theorem Tryz.cells28 : Tryz.prog.cellsOf 28 = 2 := by kernel_rfl
theorem Tryz.cells106 : Tryz.prog.cellsOf 106 = 2 := by kernel_rfl
theorem Tryz.cells2 : Tryz.prog.cellsOf 2 = 1 := by kernel_rfl
theorem Tryz.cells26 : Tryz.prog.cellsOf 26 = 1 := by kernel_rfl

theorem cell_lt {w : World} {b o : Nat} {v : Value} (h : w.cell? ⟨b, o, none⟩ = some v) : b < w.heap.size := by
  apply Nat.lt_of_not_le
  intro hle
  have : w.heap[b]? = none := Array.getElem?_eq_none hle
  simp [World.cell?, this] at h

/-- A slice of categories as it came in: the numbers that lie there. -/
theorem open_cats {H : Type} {enc : TypeId × Value → H} {W : World} {fuel : Nat} {v : Value} {x : DataW H × List MemPlace}
    (h : DataW.trod enc Tryz.prog W 0 (fun _ => true) true fuel 26 [v] = some x) :
    ∃ (a : Option Addr) (n cap : Nat) (f g : Nat → Int), v = .slice a n cap ∧ n ≤ maxLen ∧ CatsAt W a n f g ∧ ∀ i, i < n → (Lit.int .i64 (f i)).wf = true ∧ (Lit.int .i64 (g i)).wf = true := by
  rcases open_slice_pairs Tryz.underlying26 Tryz.underlying106 Tryz.cells106 rfl rfl Tryz.cells2 Tryz.cells2 h with ⟨hcs, _⟩ | ⟨a, len, cap, m, k, V0, V1, D0, D1, P0, P1, hcs, _, hl, hm, hmm, _, hall⟩
  · simp only [List.cons.injEq, and_true] at hcs
    exact ⟨none, 0, 0, fun _ => 0, fun _ => 0, hcs, Nat.zero_le _, fun h0 => by omega, fun i hi => by omega⟩
  · simp only [List.cons.injEq, and_true] at hcs
    simp only [if_true] at hmm
    subst hmm
    have each : ∀ i, i < len → ∃ q : Int × Int, V0 i = .int .i64 q.1 ∧ V1 i = .int .i64 q.2 ∧ (Lit.int .i64 q.1).wf = true ∧ (Lit.int .i64 q.2).wf = true := fun i hi => by
      obtain ⟨_, _, t0, t1⟩ := hall i (by omega)
      obtain ⟨n0, e0, _, w0⟩ := DataW.trod_int Tryz.underlying2 t0
      obtain ⟨n1, e1, _, w1⟩ := DataW.trod_int Tryz.underlying2 t1
      simp only [List.cons.injEq, and_true] at e0 e1
      exact ⟨(n0, n1), e0, e1, w0, w1⟩
    obtain ⟨q, hq⟩ := choose_lt each
    refine ⟨some a, len, m, fun i => (q i).1, fun i => (q i).2, hcs, Nat.le_trans hl hm, fun h0 => ?_, fun i hi => ⟨(hq i hi).2.2.1, (hq i hi).2.2.2⟩⟩
    obtain ⟨b, off, spot⟩ := a
    have c0 := (hall 0 (by omega)).1
    have hspot : spot = none := by simpa [Addr.add] using World.cell?_spot c0
    subst hspot
    have c0' : W.cell? ⟨b, off, none⟩ = some (V0 0) := by simpa [Addr.add] using c0
    refine ⟨b, off, rfl, cell_lt c0', fun i hi => ?_⟩
    obtain ⟨t0, t1, _, _⟩ := hall i (by omega)
    obtain ⟨e0, e1, _, _⟩ := hq i hi
    rw [e0] at t0
    rw [e1] at t1
    rw [add_plain] at t0 t1
    exact ⟨t0, by rw [Nat.add_assoc]; exact t1⟩

set_option maxRecDepth 100000 in
/-- A label as it came in. -/
theorem open_label {H : Type} {enc : TypeId × Value → H} {W : World} {r : Reach} {b0 : Nat} {v : Value} {d : DataW H} {p : List MemPlace}
    (hv : Value.okWide Tryz.prog W r b0 28 v) (h : DataW.Trod enc Tryz.prog W 0 (fun _ => true) true 28 v d p) :
    ∃ (base : Int) (a : Option Addr) (n cap : Nat) (f g : Nat → Int), v = .agg #[.int .i64 base, .slice a n cap] ∧ (Lit.int .i64 base).wf = true ∧ n ≤ maxLen ∧ CatsAt W a n f g ∧ ∀ i, i < n → (Lit.int .i64 (f i)).wf = true ∧ (Lit.int .i64 (g i)).wf = true := by
  obtain ⟨c0, c1, y0, y1, m, rfl, _, _, hy0, hy1⟩ := open_agg2 Tryz.underlying28 (by kernel_rfl) Tryz.cells28 hv h
  obtain ⟨base, e0, _, wb⟩ := DataW.trod_int Tryz.underlying2 hy0
  obtain ⟨a, n, cap, f, g, rfl, hn, hc, hw⟩ := open_cats hy1
  simp only [List.cons.injEq, and_true] at e0
  subst e0
  exact ⟨base, a, n, cap, f, g, rfl, wb, hn, hc, hw⟩

end Go.Proofs.YtaaeeaknjlammaaGreatDoor

/- How a thread that came in is opened: the numbers that lie there. -/
namespace Go.Proofs.YtaaeeaknjlammaaGreatDoor
open Go.ChangeShapes Go.WideShapes Go.ChangeAt Go.RowKit Go.Deep Go.Joins

theorem Tryz.cells93 : Tryz.prog.cellsOf 93 = 7 := by kernel_rfl
theorem Tryz.cells52 : Tryz.prog.cellsOf 52 = 1 := by kernel_rfl

/-- A slice of whole numbers as it came in. -/
theorem open_nums {H : Type} {enc : TypeId × Value → H} {W : World} {fuel : Nat} {v : Value} {x : DataW H × List MemPlace}
    (h : DataW.trod enc Tryz.prog W 0 (fun _ => true) true fuel 52 [v] = some x) :
    ∃ (a : Option Addr) (n cap : Nat) (f : Nat → Int), v = .slice a n cap ∧ n ≤ maxLen ∧ IntsAt W a n f ∧ ∀ i, i < n → (Lit.int .i64 (f i)).wf = true := by
  rcases open_ints Tryz.underlying52 Tryz.underlying2 Tryz.cells2 h with ⟨hcs, _⟩ | ⟨a, len, cap, zs, hcs, _, hl, hm, hz, _, hcell, hwz⟩
  · simp only [List.cons.injEq, and_true] at hcs
    exact ⟨none, 0, 0, fun _ => 0, hcs, Nat.zero_le _, fun h0 => by omega, fun i hi => by omega⟩
  · simp only [List.cons.injEq, and_true] at hcs
    have hzl : zs.length = cap := by simpa using hz
    refine ⟨some a, len, cap, fun i => zs.getD i 0, hcs, Nat.le_trans hl hm, fun h0 => ?_, fun i hi => ?_⟩
    · obtain ⟨b, off, spot⟩ := a
      have c0 := hcell 0 (by omega)
      have hspot : spot = none := by simpa [Addr.add] using World.cell?_spot c0
      subst hspot
      have c0' : W.cell? ⟨b, off, none⟩ = some (.int .i64 (zs.getD 0 0)) := by simpa [Addr.add] using c0
      refine ⟨b, off, rfl, cell_lt c0', fun i hi => ?_⟩
      have t := hcell i (by omega)
      rw [add_plain] at t
      exact t
    · have hi' : i < zs.length := by omega
      refine hwz _ ?_
      simp only [List.getD_eq_getElem?_getD, List.getElem?_eq_getElem hi', Option.getD_some]
      exact List.getElem_mem hi'

theorem label_cells {H : Type} {enc : TypeId × Value → H} {W : World} {fuel : Nat} {v0 v1 : Value} {x : DataW H × List MemPlace}
    (h : DataW.trod enc Tryz.prog W 0 (fun _ => true) true fuel 28 [v0, v1] = some x) :
    ∃ (base : Int) (a : Option Addr) (n cap : Nat) (f g : Nat → Int), v0 = .int .i64 base ∧ v1 = .slice a n cap ∧ n ≤ maxLen ∧ CatsAt W a n f g := by
  obtain ⟨xs, k, hk, _, _, hxl, hf⟩ := DataW.trod_struct Tryz.underlying28 h
  match xs, hxl with
  | [y0, y1], _ =>
    have g0 := hf 0 _ rfl
    have g1 := hf 1 _ rfl
    simp [Tryz.cells2, Tryz.cells26] at g0 g1
    obtain ⟨base, e0, _, _⟩ := DataW.trod_int Tryz.underlying2 g0
    obtain ⟨a, n, cap, f, g, rfl, hn, hc, _⟩ := open_cats g1
    simp only [List.cons.injEq, and_true] at e0
    exact ⟨base, a, n, cap, f, g, e0, rfl, hn, hc⟩

set_option maxRecDepth 100000 in
/-- A thread as it came in. -/
theorem open_thread {H : Type} {enc : TypeId × Value → H} {W : World} {r : Reach} {b0 : Nat} {v : Value} {d : DataW H} {p : List MemPlace}
    (hv : Value.okWide Tryz.prog W r b0 93 v) (h : DataW.Trod enc Tryz.prog W 0 (fun _ => true) true 93 v d p) :
    ∃ (id made b1 : Int) (a1 : Option Addr) (n1 k1 : Nat) (f1 g1 : Nat → Int) (b2 : Int) (a2 : Option Addr) (n2 k2 : Nat) (f2 g2 : Nat → Int) (a3 : Option Addr) (n3 k3 : Nat) (q : Nat → Int),
      v = .agg #[.int .i64 id, .int .i64 b1, .slice a1 n1 k1, .int .i64 b2, .slice a2 n2 k2, .slice a3 n3 k3, .int .i64 made] ∧ n1 ≤ maxLen ∧ n2 ≤ maxLen ∧ n3 ≤ maxLen ∧ CatsAt W a1 n1 f1 g1 ∧ CatsAt W a2 n2 f2 g2 ∧ IntsAt W a3 n3 q := by
  obtain ⟨cs, rfl, hsz⟩ := okWide_struct Tryz.underlying93 hv
  rw [Tryz.cells93] at hsz
  obtain ⟨fuel, hf0⟩ := h
  obtain ⟨xs, k, hk, _, _, hxl, hf⟩ := DataW.trod_struct Tryz.underlying93 hf0
  obtain ⟨l⟩ := cs
  match l, hsz with
  | [c0, c1, c2, c3, c4, c5, c6], _ =>
    match xs, hxl with
    | [y0, y1, y2, y3, y4], _ =>
      have g0 := hf 0 _ rfl
      have g1 := hf 1 _ rfl
      have g2 := hf 2 _ rfl
      have g3 := hf 3 _ rfl
      have g4 := hf 4 _ rfl
      simp [Value.cells, Tryz.cells2, Tryz.cells28, Tryz.cells52] at g0 g1 g2 g3 g4
      obtain ⟨id, e0, _, _⟩ := DataW.trod_int Tryz.underlying2 g0
      obtain ⟨b1, a1, n1, k1, f1, h1, rfl, rfl, hn1, hc1⟩ := label_cells g1
      obtain ⟨b2, a2, n2, k2, f2, h2, rfl, rfl, hn2, hc2⟩ := label_cells g2
      obtain ⟨a3, n3, k3, q, rfl, hn3, hc3, _⟩ := open_nums g3
      obtain ⟨made, e4, _, _⟩ := DataW.trod_int Tryz.underlying2 g4
      simp only [List.cons.injEq, and_true] at e0 e4
      subst e0 e4
      exact ⟨id, made, b1, a1, n1, k1, f1, h1, b2, a2, n2, k2, f2, h2, a3, n3, k3, q, rfl, hn1, hn2, hn3, hc1, hc2, hc3⟩
end Go.Proofs.YtaaeeaknjlammaaGreatDoor
