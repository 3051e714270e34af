/- KernelOk of the model answers the plain function kerOk: first its threads. -/
import Derived.Test.YtimacbpfnkephaaKB3
import Derived.Test.YtimacbpfnkephaaKC2
namespace Go.Proofs.Ytimacbpfnkephaa
open Go Go.RowKit Go.Deep Go.BigFrame

/-- a world above w -/
structure Up (w : World) where
  W : World
  h : Below w.heap.size w W
instance (w : World) : Inhabited (Up w) := ⟨⟨w, Below.refl _ _⟩⟩
theorem wp_region_quiet_up {id : Nat} {Q : Exit → Act → World → Prop} {a : Act} {w : World} {l : List Oper} (hm : Try.prog.follows .mixedOrders = true) (hB : Region.lexB .any l.toArray = true)
    (h : wpQuiet Try.prog l.toArray (fun w' => ∃ p : Up w, w' = p.W) (fun a' => ∀ w', (∃ p : Up w, w' = p.W) → Q .normal a' w') l a) : (Code.region id l.toArray true).wp Try.prog Q a w :=
  wp_region_quiet (C := fun w' => ∃ p : Up w, w' = p.W) hm hB ⟨⟨w.drew, (Below.refl _ _).drew⟩, rfl⟩ (by simpa using h)
theorem up_of {w : World} {p : Up w} {f : FuncId} {args : Array Value} {v : Value} (h : Calls Try.prog f args p.W fun e w' => e = .returned v ∧ Below p.W.heap.size p.W w') : Calls Try.prog f args p.W fun e w'' => e = .returned v ∧ ∃ q : Up w, w'' = q.W :=
  h.mono fun _ w' ⟨he, hb⟩ => ⟨he, ⟨w', then_ p.h hb⟩, rfl⟩
theorem up_cell {w : World} {b o : Nat} {v : Value} (hb : b < w.heap.size) (h : w.cell? ⟨b, o, none⟩ = some v) : ∀ p : Up w, p.W.cell? ⟨b, o, none⟩ = some v := fun p => (p.h.cell (p := ⟨b, o, none⟩) hb).trans h
theorem kerOk_no {k : KerV} (ht : thrsOk k.tn k.T = true) (h1 : 1 ≤ k.on) (h2 : k.on ≤ 271) {q : Nat} (hq : q < k.on) (h : spAt k q = false) : kerOk k = false := by
  rw [kerOk_sp ht h1 h2, all_at hq h]; rfl
def ObjV.blk' (t : ObjV) : Obj := .cells #[.int .i64 t.id, .int .i64 t.kind, .int .i64 t.up, .int .i64 t.b1, .slice t.c1.a t.c1.n t.c1.k, .string t.data, .slice t.items.a t.items.n t.items.k, .slice t.own.a t.own.n t.own.k, .int .i64 t.b2, .slice t.c2.a t.c2.n t.c2.k] 37
end Go.Proofs.Ytimacbpfnkephaa
