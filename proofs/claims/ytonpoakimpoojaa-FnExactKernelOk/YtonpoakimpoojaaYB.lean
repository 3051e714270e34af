/- FnExactLeq: the walk: the law answers true at every two labels that came in, and writes nothing that was there. -/
import Derived.Test.YtonpoakimpoojaaE
namespace Go.Proofs.Ytonpoakimpoojaa
open Go.RowKit Go.Deep

/-- what lies in a block -/
def Blk (W : World) (P : Nat) (o : Obj) : Prop := W.heap[P]? = some o
theorem Blk.new (W : World) (o : Obj) : Blk (W.alloc o) W.heap.size o := blk_alloc_new _ _
theorem Blk.lt {W : World} {P : Nat} {o : Obj} (h : Blk W P o) : P < W.heap.size := (Array.getElem?_eq_some_iff.1 h).1
theorem Blk.alloc {W : World} {P : Nat} {o : Obj} (h : Blk W P o) (o' : Obj) : Blk (W.alloc o') P o := (blk_alloc_lt _ _ _ h.lt).trans h
theorem Blk.below {W W' : World} {P : Nat} {o : Obj} (h : Blk W P o) (hb : Below W.heap.size W W') : Blk W' P o := (hb.block P h.lt).trans h
theorem Blk.two {W : World} {P t : Nat} {x y : Value} (h : Blk W P (.cells #[x, y] t)) : W.cell? ⟨P, 0, none⟩ = some x ∧ W.cell? ⟨P, 1, none⟩ = some y := by
  unfold Blk at h
  simp [World.cell?, h]
end Go.Proofs.Ytonpoakimpoojaa
