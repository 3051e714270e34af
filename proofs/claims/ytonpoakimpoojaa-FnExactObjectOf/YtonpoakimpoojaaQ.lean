/- The program's map of levels: levelsOf fills it, of reads it. -/
import Derived.Test.YtonpoakimpoojaaZA
import Derived.Maps.Own
import Derived.Maps.OwnSet
namespace Go.Proofs.Ytonpoakimpoojaa
open Go.RowKit Go.Deep Go.Maps

theorem keyed2 : Keyed Try.prog 2 := int_keyed Try.underlying2
theorem zero2 (w : World) : (zeroValue 2).run Try.prog w = .ok (.int .i64 0) w := by kernel_rfl

/-- the level that the first k categories give to x, the later one where two are alike -/
def look (f g : Nat → Int) : Nat → Int → Option Int
  | 0, _ => none
  | k + 1, x => if f k = x then some (g k) else look f g k x

/-- block b is a map from whole numbers to whole numbers that holds what m says -/
def MapIs (w : World) (b n : Nat) (m : Int → Option Int) : Prop :=
  ∃ D : DataW Unit, w.ownsMap Try.prog 2 (plainElem Try.prog 2) b n D ∧ IsMap D ∧
    ∀ x, Maps.has D (.int .i64 x) = (m x).isSome ∧ ∀ v, m x = some v → D.atKey (.int .i64 x) (.lit (.int .i64 0)) = .lit (.int .i64 v)

theorem MapIs.made (w : World) : MapIs (w.alloc (.map #[] 0)) w.heap.size 0 (fun _ => none) :=
  ⟨.map [], World.ownsMap_made _ _ _ _, isMap_empty, fun x => ⟨rfl, fun v h => by cases h⟩⟩

theorem MapIs.of_block {w w' : World} {b n : Nat} {m : Int → Option Int} (h : MapIs w b n m) (e : w'.heap[b]? = w.heap[b]?) : MapIs w' b n m := by
  obtain ⟨D, ⟨es, clock, hb, F, hs, hD⟩, r⟩ := h
  exact ⟨D, ⟨es, clock, e.trans hb, F, hs, hD⟩, r⟩

theorem MapIs.setCell {w : World} {b n : Nat} {m : Int → Option Int} (h : MapIs w b n m) {a : Addr} (ha : b ≠ a.block) (v : Value) : MapIs (w.setCell a v) b n m := h.of_block (blk_setCell_other _ _ _ _ ha)

theorem MapIs.lt {w : World} {b n : Nat} {m : Int → Option Int} (h : MapIs w b n m) : b < w.heap.size := by
  obtain ⟨D, h1, _⟩ := h
  exact h1.lt

theorem MapIs.alloc {w : World} {b n : Nat} {m : Int → Option Int} (h : MapIs w b n m) (o : Obj) : MapIs (w.alloc o) b n m := by
  obtain ⟨D, h1, h2, h3⟩ := h
  exact ⟨D, h1.alloc o, h2, h3⟩

def setAt (m : Int → Option Int) (k v : Int) (x : Int) : Option Int := if k = x then some v else m x

theorem MapIs.put {D : DataW Unit} {m : Int → Option Int} {k v : Int} (h2 : IsMap D)
    (h3 : ∀ x, Maps.has D (.int .i64 x) = (m x).isSome ∧ ∀ v, m x = some v → D.atKey (.int .i64 x) (.lit (.int .i64 0)) = .lit (.int .i64 v)) :
    IsMap (D.put (.int .i64 k) (.lit (.int .i64 v))) ∧
    ∀ x, Maps.has (D.put (.int .i64 k) (.lit (.int .i64 v))) (.int .i64 x) = (setAt m k v x).isSome ∧ ∀ u, setAt m k v x = some u → (D.put (.int .i64 k) (.lit (.int .i64 v))).atKey (.int .i64 x) (.lit (.int .i64 0)) = .lit (.int .i64 u) := by
  refine ⟨h2.put _ _, fun x => ?_⟩
  by_cases e : k = x
  · subst e
    refine ⟨?_, fun u hu => ?_⟩
    · rw [has_put_same h2 (by trivial)]; simp [setAt]
    · simp [setAt] at hu
      subst hu
      exact atKey_put_same h2 (by trivial) _ _
  · have hne : (Lit.int .i64 x) ≠ (Lit.int .i64 k) := by simp; exact fun h => e h.symm
    refine ⟨?_, fun u hu => ?_⟩
    · rw [has_put_other hne]; simp [setAt, e]; exact (h3 x).1
    · simp [setAt, e] at hu
      rw [atKey_put_other hne]
      exact (h3 x).2 u hu

theorem look_setAt (f g : Nat → Int) (k : Nat) : setAt (look f g k) (f k) (g k) = look f g (k + 1) := by
  funext x; rfl

theorem grown_cell {w w' : World} {b : Nat} (hg : w.grownBy w' (some b)) {k o : Nat} (hk : k < w.heap.size) (hne : k ≠ b) : w'.cell? ⟨k, o, none⟩ = w.cell? ⟨k, o, none⟩ :=
  World.cell?_of_block (w := w) (hg.block k hk (fun e => hne (by simpa using e)))
theorem grown_frozen {w w' : World} {b : Nat} (hg : w.grownBy w' (some b)) {k o : Nat} (hk : k < w.heap.size) (hne : k ≠ b) : w'.frozen? ⟨k, o, none⟩ = w.frozen? ⟨k, o, none⟩ :=
  World.frozen?_of_block (w := w) (hg.block k hk (fun e => hne (by simpa using e)))

end Go.Proofs.Ytonpoakimpoojaa
