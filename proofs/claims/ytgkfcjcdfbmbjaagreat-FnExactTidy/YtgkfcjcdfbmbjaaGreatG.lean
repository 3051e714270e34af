/- How a label and a slice of categories that came in are opened: the numbers that lie there. -/
import Derived.Test.YtgkfcjcdfbmbjaaGreatRows
import Derived.Test.YtgkfcjcdfbmbjaaGreatZA
import Derived.ProofKit
import Derived.OpenShut
import Derived.ShutString
import Derived.ChangeOld
import Derived.Lib.SmallJoins
import Derived.Deep.SlicePairs
namespace Go.Proofs.YtgkfcjcdfbmbjaaGreat
open Go.ChangeShapes Go.WideShapes Go.ChangeAt Go.RowKit Go.Deep Go.Joins

theorem Tryz.ownKnob : Go.ownKnob Tryz.prog.godebug = none := by kernel_rfl
theorem Tryz.laidOut : laidOutB Tryz.prog = true := by kernel_rfl
theorem Tryz.cells28 : Tryz.prog.cellsOf 28 = 2 := by kernel_rfl
theorem Tryz.cells96 : Tryz.prog.cellsOf 96 = 2 := by kernel_rfl
theorem Tryz.cells2 : Tryz.prog.cellsOf 2 = 1 := by kernel_rfl
theorem Tryz.cells26 : Tryz.prog.cellsOf 26 = 1 := by kernel_rfl

theorem cell_lt {w : World} {b o : Nat} {v : Value} (h : w.cell? ⟨b, o, none⟩ = some v) : b < w.heap.size := by
  apply Nat.lt_of_not_le
  intro hle
  have : w.heap[b]? = none := Array.getElem?_eq_none hle
  simp [World.cell?, this] at h

/-- A slice of categories as it came in: the numbers that lie there. -/
theorem open_cats {H : Type} {enc : TypeId × Value → H} {W : World} {fuel : Nat} {v : Value} {x : DataW H × List MemPlace}
    (h : DataW.trod enc Tryz.prog W 0 (fun _ => true) true fuel 26 [v] = some x) :
    ∃ (a : Option Addr) (n cap : Nat) (f g : Nat → Int), v = .slice a n cap ∧ n ≤ maxLen ∧ CatsAt W a n f g ∧ ∀ i, i < n → (Lit.int .i64 (f i)).wf = true ∧ (Lit.int .i64 (g i)).wf = true := by
  rcases open_slice_pairs Tryz.underlying26 Tryz.underlying96 Tryz.cells96 rfl rfl Tryz.cells2 Tryz.cells2 h with ⟨hcs, _⟩ | ⟨a, len, cap, m, k, V0, V1, D0, D1, P0, P1, hcs, _, hl, hm, hmm, _, hall⟩
  · simp only [List.cons.injEq, and_true] at hcs
    exact ⟨none, 0, 0, fun _ => 0, fun _ => 0, hcs, Nat.zero_le _, fun h0 => by omega, fun i hi => by omega⟩
  · simp only [List.cons.injEq, and_true] at hcs
    simp only [if_true] at hmm
    subst hmm
    have each : ∀ i, i < len → ∃ q : Int × Int, V0 i = .int .i64 q.1 ∧ V1 i = .int .i64 q.2 ∧ (Lit.int .i64 q.1).wf = true ∧ (Lit.int .i64 q.2).wf = true := fun i hi => by
      obtain ⟨_, _, t0, t1⟩ := hall i (by omega)
      obtain ⟨n0, e0, _, w0⟩ := DataW.trod_int Tryz.underlying2 t0
      obtain ⟨n1, e1, _, w1⟩ := DataW.trod_int Tryz.underlying2 t1
      simp only [List.cons.injEq, and_true] at e0 e1
      exact ⟨(n0, n1), e0, e1, w0, w1⟩
    obtain ⟨q, hq⟩ := choose_lt each
    refine ⟨some a, len, m, fun i => (q i).1, fun i => (q i).2, hcs, Nat.le_trans hl hm, fun h0 => ?_, fun i hi => ⟨(hq i hi).2.2.1, (hq i hi).2.2.2⟩⟩
    obtain ⟨b, off, spot⟩ := a
    have c0 := (hall 0 (by omega)).1
    have hspot : spot = none := by simpa [Addr.add] using World.cell?_spot c0
    subst hspot
    have c0' : W.cell? ⟨b, off, none⟩ = some (V0 0) := by simpa [Addr.add] using c0
    refine ⟨b, off, rfl, cell_lt c0', fun i hi => ?_⟩
    obtain ⟨t0, t1, _, _⟩ := hall i (by omega)
    obtain ⟨e0, e1, _, _⟩ := hq i hi
    rw [e0] at t0
    rw [e1] at t1
    rw [add_plain] at t0 t1
    exact ⟨t0, by rw [Nat.add_assoc]; exact t1⟩

set_option maxRecDepth 100000 in
/-- A label as it came in. -/
theorem open_label {H : Type} {enc : TypeId × Value → H} {W : World} {r : Reach} {b0 : Nat} {v : Value} {d : DataW H} {p : List MemPlace}
    (hv : Value.okWide Tryz.prog W r b0 28 v) (h : DataW.Trod enc Tryz.prog W 0 (fun _ => true) true 28 v d p) :
    ∃ (base : Int) (a : Option Addr) (n cap : Nat) (f g : Nat → Int), v = .agg #[.int .i64 base, .slice a n cap] ∧ (Lit.int .i64 base).wf = true ∧ n ≤ maxLen ∧ CatsAt W a n f g ∧ ∀ i, i < n → (Lit.int .i64 (f i)).wf = true ∧ (Lit.int .i64 (g i)).wf = true := by
  obtain ⟨c0, c1, y0, y1, m, rfl, _, _, hy0, hy1⟩ := open_agg2 Tryz.underlying28 (by kernel_rfl) Tryz.cells28 hv h
  obtain ⟨base, e0, _, wb⟩ := DataW.trod_int Tryz.underlying2 hy0
  obtain ⟨a, n, cap, f, g, rfl, hn, hc, hw⟩ := open_cats hy1
  simp only [List.cons.injEq, and_true] at e0
  subst e0
  exact ⟨base, a, n, cap, f, g, rfl, wb, hn, hc, hw⟩

end Go.Proofs.YtgkfcjcdfbmbjaaGreat
