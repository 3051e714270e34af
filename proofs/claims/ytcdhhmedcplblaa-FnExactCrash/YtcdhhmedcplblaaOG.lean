/- How a disk that came in is opened: its files and ops as they lie there. -/
import Derived.Test.YtcdhhmedcplblaaRows
import Derived.Test.YtcdhhmedcplblaaDB
import Derived.ProofKit
import Derived.OpenShut
import Derived.ShutString
import Derived.ChangeOld
import Derived.Lib.SmallJoins
import Derived.Deep.SlicePairs
namespace Go.Proofs.Ytcdhhmedcplblaa
open Go.ChangeShapes Go.WideShapes Go.ChangeAt Go.RowKit Go.Deep Go.Joins

theorem Try.ownKnob : Go.ownKnob Try.prog.godebug = none := by kernel_rfl
theorem Try.laidOut : laidOutB Try.prog = true := by kernel_rfl
theorem Try.cells70 : Try.prog.cellsOf 70 = 2 := by kernel_rfl
theorem Try.cells27 : Try.prog.cellsOf 27 = 4 := by kernel_rfl
theorem Try.cells9 : Try.prog.cellsOf 9 = 1 := by kernel_rfl
theorem Try.cells2 : Try.prog.cellsOf 2 = 1 := by kernel_rfl
theorem Try.cells25 : Try.prog.cellsOf 25 = 3 := by kernel_rfl
theorem cell_lt {w : World} {b o : Nat} {v : Value} (h : w.cell? ⟨b, o, none⟩ = some v) : b < w.heap.size := by
  apply Nat.lt_of_not_le
  intro hle
  have : w.heap[b]? = none := Array.getElem?_eq_none hle
  simp [World.cell?, this] at h
instance : Inhabited FileV := ⟨⟨⟨#[]⟩, ⟨#[]⟩⟩⟩
instance : Inhabited OpV := ⟨⟨0, ⟨#[]⟩, ⟨#[]⟩, ⟨#[]⟩⟩⟩
section
variable {H : Type} {enc : TypeId × Value → H} {W : World}
theorem file_v {fuel : Nat} {c0 c1 : Value} {x : DataW H × List MemPlace} (h : DataW.trod enc Try.prog W 0 (fun _ => true) true fuel 70 [c0, c1] = some x) :
    ∃ t : FileV, t.wf ∧ c0 = .string t.name ∧ c1 = .string t.data := by
  obtain ⟨xs, k, hk, _, _, hxl, hf⟩ := DataW.trod_struct Try.underlying70 h
  match xs, hxl with
  | [y0, y1], _ =>
    have g0 := hf 0 _ rfl
    have g1 := hf 1 _ rfl
    simp [Try.cells9] at g0 g1
    obtain ⟨s, e0, _, h0⟩ := DataW.trod_string Try.underlying9 g0
    obtain ⟨d, e1, _, h1⟩ := DataW.trod_string Try.underlying9 g1
    simp only [List.cons.injEq, and_true] at e0 e1
    exact ⟨⟨s, d⟩, ⟨h0, h1⟩, e0, e1⟩
theorem op_v {fuel : Nat} {c0 c1 c2 c3 : Value} {x : DataW H × List MemPlace} (h : DataW.trod enc Try.prog W 0 (fun _ => true) true fuel 27 [c0, c1, c2, c3] = some x) :
    ∃ t : OpV, t.wf ∧ c0 = .int .i64 t.kind ∧ c1 = .string t.name ∧ c2 = .string t.to ∧ c3 = .string t.data := by
  obtain ⟨xs, k, hk, _, _, hxl, hf⟩ := DataW.trod_struct Try.underlying27 h
  match xs, hxl with
  | [y0, y1, y2, y3], _ =>
    have g0 := hf 0 _ rfl
    have g1 := hf 1 _ rfl
    have g2 := hf 2 _ rfl
    have g3 := hf 3 _ rfl
    simp [Try.cells9, Try.cells2] at g0 g1 g2 g3
    obtain ⟨n, e0, _, _⟩ := DataW.trod_int Try.underlying2 g0
    obtain ⟨s, e1, _, h1⟩ := DataW.trod_string Try.underlying9 g1
    obtain ⟨u, e2, _, h2⟩ := DataW.trod_string Try.underlying9 g2
    obtain ⟨d, e3, _, h3⟩ := DataW.trod_string Try.underlying9 g3
    simp only [List.cons.injEq, and_true] at e0 e1 e2 e3
    exact ⟨⟨n, s, u, d⟩, ⟨h1, h2, h3⟩, e0, e1, e2, e3⟩
theorem files_v {fuel : Nat} {v : Value} {x : DataW H × List MemPlace} (h : DataW.trod enc Try.prog W 0 (fun _ => true) true fuel 22 [v] = some x) :
    ∃ l : FileL, v = l.val ∧ l.at W := by
  rcases open_slice Try.underlying22 h with ⟨hcs, _⟩ | ⟨a, len, cap, m, k, D, Pl, hcs, _, hl, hm, hmm, _, hx⟩
  · simp only [List.cons.injEq, and_true] at hcs
    exact ⟨⟨none, 0, 0, fun _ => ⟨⟨#[]⟩, ⟨#[]⟩⟩⟩, hcs, Nat.zero_le _, fun h => absurd h (Nat.lt_irrefl 0), fun i hi => absurd hi (Nat.not_lt_zero i)⟩
  · simp only [List.cons.injEq, and_true] at hcs
    simp only [if_true] at hmm
    subst hmm
    have each : ∀ i, i < len → ∃ t : FileV, t.wf ∧ W.cell? (a.add (i * 2)) = some (.string t.name) ∧ W.cell? (a.add (i * 2 + 1)) = some (.string t.data) := fun i hi => by
      obtain ⟨cs', h1, h2⟩ := hx i (by omega)
      rw [Try.cells70] at h1
      obtain ⟨_, hlen, hcell⟩ := World.cells?_some h1
      match cs', hlen with
      | [v0, v1], _ =>
        obtain ⟨t, ht, q0, q1⟩ := file_v h2
        have e0 := hcell 0 (by omega)
        have e1 := hcell 1 (by omega)
        rw [add_add] at e0 e1
        subst q0 q1
        exact ⟨t, ht, by simpa using e0, by simpa using e1⟩
    obtain ⟨q, hq⟩ := choose_lt each
    obtain ⟨b, off, spot⟩ := a
    refine ⟨⟨_, len, _, q⟩, hcs, Nat.le_trans hl hm, fun hp => ?_, fun i hi => (hq i hi).1⟩
    have c0 := (hq 0 hp).2.1
    have hspot : spot = none := by simpa [Addr.add] using World.cell?_spot c0
    subst hspot
    have c0' : W.cell? ⟨b, off, none⟩ = some (.string (q 0).name) := by simpa [Addr.add] using c0
    refine ⟨b, off, rfl, cell_lt c0', fun i hi => ?_⟩
    obtain ⟨_, t0, t1⟩ := hq i hi
    rw [add_plain] at t0 t1
    simp only [← Nat.add_assoc] at t1
    exact ⟨t0, t1⟩
theorem ops_v {fuel : Nat} {v : Value} {x : DataW H × List MemPlace} (h : DataW.trod enc Try.prog W 0 (fun _ => true) true fuel 23 [v] = some x) :
    ∃ l : OpL, v = l.val ∧ l.at W := by
  rcases open_slice Try.underlying23 h with ⟨hcs, _⟩ | ⟨a, len, cap, m, k, D, Pl, hcs, _, hl, hm, hmm, _, hx⟩
  · simp only [List.cons.injEq, and_true] at hcs
    exact ⟨⟨none, 0, 0, fun _ => ⟨0, ⟨#[]⟩, ⟨#[]⟩, ⟨#[]⟩⟩⟩, hcs, Nat.zero_le _, fun h => absurd h (Nat.lt_irrefl 0), fun i hi => absurd hi (Nat.not_lt_zero i)⟩
  · simp only [List.cons.injEq, and_true] at hcs
    simp only [if_true] at hmm
    subst hmm
    have each : ∀ i, i < len → ∃ t : OpV, t.wf ∧ W.cell? (a.add (i * 4)) = some (.int .i64 t.kind) ∧ W.cell? (a.add (i * 4 + 1)) = some (.string t.name) ∧ W.cell? (a.add (i * 4 + 2)) = some (.string t.to) ∧ W.cell? (a.add (i * 4 + 3)) = some (.string t.data) := fun i hi => by
      obtain ⟨cs', h1, h2⟩ := hx i (by omega)
      rw [Try.cells27] at h1
      obtain ⟨_, hlen, hcell⟩ := World.cells?_some h1
      match cs', hlen with
      | [v0, v1, v2, v3], _ =>
        obtain ⟨t, ht, q0, q1, q2, q3⟩ := op_v h2
        have e0 := hcell 0 (by omega)
        have e1 := hcell 1 (by omega)
        have e2 := hcell 2 (by omega)
        have e3 := hcell 3 (by omega)
        rw [add_add] at e0 e1 e2 e3
        subst q0 q1 q2 q3
        exact ⟨t, ht, by simpa using e0, by simpa using e1, by simpa using e2, by simpa using e3⟩
    obtain ⟨q, hq⟩ := choose_lt each
    obtain ⟨b, off, spot⟩ := a
    refine ⟨⟨_, len, _, q⟩, hcs, Nat.le_trans hl hm, fun hp => ?_, fun i hi => (hq i hi).1⟩
    have c0 := (hq 0 hp).2.1
    have hspot : spot = none := by simpa [Addr.add] using World.cell?_spot c0
    subst hspot
    have c0' : W.cell? ⟨b, off, none⟩ = some (.int .i64 (q 0).kind) := by simpa [Addr.add] using c0
    refine ⟨b, off, rfl, cell_lt c0', fun i hi => ?_⟩
    obtain ⟨_, t0, t1, t2, t3⟩ := hq i hi
    rw [add_plain] at t0 t1 t2 t3
    simp only [← Nat.add_assoc] at t1 t2 t3
    exact ⟨t0, t1, t2, t3⟩

set_option maxRecDepth 100000 in
/-- A disk as it came in. -/
theorem open_disk {r : Reach} {b0 : Nat} {v : Value} {d : DataW H} {p : List MemPlace}
    (hv : Value.okWide Try.prog W r b0 25 v) (h : DataW.Trod enc Try.prog W 0 (fun _ => true) true 25 v d p) :
    ∃ k : DiskV, v = k.val ∧ k.at W := by
  obtain ⟨c0, c1, c2, y0, y1, y2, m, rfl, _, _, hy0, hy1, hy2⟩ := open_agg3 Try.underlying25 (by kernel_rfl) Try.cells25 hv h
  obtain ⟨l0, rfl, h0⟩ := files_v hy0
  obtain ⟨l1, rfl, h1⟩ := files_v hy1
  obtain ⟨l2, rfl, h2⟩ := ops_v hy2
  exact ⟨⟨l0, l1, l2⟩, rfl, h0, h1, h2⟩
end
end Go.Proofs.Ytcdhhmedcplblaa
