/- What a round of a loop over the program's iterator keeps: all cells and all maps lie as they lay. -/
import Derived.Test.YtimacbpfnkephaaX
import Derived.RangeFuncNested
import Derived.RangeFuncBound
import Derived.RangeFuncCalls
import Derived.RangeFuncLeaves
namespace Go.Proofs.Ytimacbpfnkephaa
open Go.RowKit Go.Deep Go.Maps

/-- every block of cells and every map lies as it lay -/
structure KeepsAll (W W' : World) : Prop where
  size : W.heap.size ≤ W'.heap.size
  same : ∀ (k : Nat) (o : Obj), W.heap[k]? = some o → (o.isCells = true ∨ o.isWalk = true) → W'.heap[k]? = some o

theorem KeepsAll.refl (W : World) : KeepsAll W W := ⟨Nat.le_refl _, fun _ _ h _ => h⟩
theorem KeepsAll.trans {A B C : World} (h : KeepsAll A B) (k : KeepsAll B C) : KeepsAll A C :=
  ⟨Nat.le_trans h.size k.size, fun i o hi ho => k.same i o (h.same i o hi ho) ho⟩
theorem KeepsAll.book {w : World} (W : World) (l : Nat) (o o' : Obj) (_ : w.heap.size ≤ l) (h : W.heap[l]? = some o) (hc : o.isCells = false) (hw : o.isWalk = false) : KeepsAll W (W.putObj l o') :=
  ⟨by simp, fun k o'' hk ho => by
    by_cases e : k = l
    · subst e; rw [h] at hk; cases hk; rw [hc, hw] at ho; simp at ho
    · exact (World.putObj_heap_other e).trans hk⟩
theorem KeepsAll.of_below {W W' : World} (h : Below W.heap.size W W') : KeepsAll W W' :=
  ⟨h.size, fun k _ hk _ => (h.block k (Array.getElem?_eq_some_iff.1 hk).1).trans hk⟩

theorem KeepsAll.cell {W W' : World} (h : KeepsAll W W') {a : Addr} {v : Value} (hv : W.cell? a = some v) : W'.cell? a = some v := by
  have hv' := hv
  unfold World.cell? at hv
  cases ho : W.heap[a.block]? with
  | none => simp [ho] at hv
  | some o =>
    have hc : o.isCells = true := by cases o <;> simp_all [Obj.isCells]
    have := h.same _ _ ho (.inl hc)
    exact (World.cell?_of_block (this.trans ho.symm)).trans hv'

theorem KeepsAll.map {W W' : World} (h : KeepsAll W W') {b n : Nat} {m : Int → Option Int} (hm : MapIs W b n m) : MapIs W' b n m := by
  have hm' := hm
  obtain ⟨D, ⟨es, clock, hb, F, hs, hD⟩, r⟩ := hm
  exact hm'.of_block ((h.same b _ hb (.inr rfl)).trans hb.symm)

theorem grown_of_below {W W' : World} (h : Below W.heap.size W W') : W.grownBy W' none := ⟨h.os, h.tape, h.output, h.size, fun k hk _ => h.block k hk⟩
end Go.Proofs.Ytimacbpfnkephaa
