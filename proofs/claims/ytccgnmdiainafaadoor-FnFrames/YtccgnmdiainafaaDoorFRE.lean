/- Slices of texts: comparison, marks and their reading. -/
import Derived.Test.YtccgnmdiainafaaDoorFRD
namespace Go.Proofs.YtccgnmdiainafaaDoor
open Go Go.RowKit Go.Deep Go.Maps Go.BigFrame

/-- texts lie there -/
def StrAt (w : World) (a : Option Addr) (n : Nat) (f : Nat → ByteArray) : Prop := 0 < n → ∃ b off, a = some ⟨b, off, none⟩ ∧ b < w.heap.size ∧ ∀ i, i < n → w.cell? ⟨b, off + i, none⟩ = some (.string (f i))
theorem StrAt.below {w w' : World} {a : Option Addr} {n : Nat} {f : Nat → ByteArray} (h : StrAt w a n f) (hb : Below w.heap.size w w') : StrAt w' a n f := fun hn => by
  obtain ⟨b, off, e, hlt, hc⟩ := h hn
  exact ⟨b, off, e, Nat.lt_of_lt_of_le hlt hb.size, fun i hi => (hb.cell (p := ⟨b, off + i, none⟩) hlt).trans (hc i hi)⟩
theorem StrAt.grown {w w' : World} {a : Option Addr} {n b : Nat} {f : Nat → ByteArray} (H : StrAt w a n f) (hg : w.grownBy w' (some b)) (hne : 0 < n → ∀ p : Addr, a = some p → p.block ≠ b) : StrAt w' a n f := fun hn => by
  obtain ⟨b', off, rfl, hlt, hc⟩ := H hn
  have hx : ∀ o, w'.cell? ⟨b', o, none⟩ = w.cell? ⟨b', o, none⟩ := fun o => World.grownBy.cell_far hg ⟨b', o, none⟩ hlt (fun e => hne hn _ rfl (Option.some.inj e))
  exact ⟨b', off, rfl, Nat.lt_of_lt_of_le hlt hg.size, fun i hi => by rw [hx]; exact hc i hi⟩
/-- a slice of texts that may be written: it begins block b -/
def RowS (w : World) (a : Option Addr) (b n : Nat) : Prop := 0 < n → a = some ⟨b, 0, none⟩ ∧ ∃ m F, n ≤ m ∧ w.rowIs b 9 m F
theorem RowS.below {w w' : World} {a : Option Addr} {b n : Nat} (h : RowS w a b n) (hb : Below w.heap.size w w') : RowS w' a b n := fun h0 => by
  obtain ⟨e, m, F, hm, hr⟩ := h h0
  exact ⟨e, m, F, hm, hr.of_block (hb.block b hr.lt)⟩
def atS (X : List ByteArray) (i : Nat) : ByteArray := X[i]?.getD ⟨#[]⟩
theorem ownAtS {w : World} {B g c : Nat} {X : List ByteArray} (h : OwnS w B (.slice (some ⟨g, 0, none⟩) X.length c) X) : StrAt w (some ⟨g, 0, none⟩) X.length (atS X) := fun hn => by
  have hl := (World.ownsRow.lt h g rfl).2
  refine ⟨g, 0, rfl, hl, fun i hi => ?_⟩
  have hc : w.cell? ⟨g, 0 + i, none⟩ = (scells X)[0 + i]? := World.ownsRow.cellAt h (0 + i) (by omega)
  rw [hc, scells, atS, List.getElem?_map, Nat.zero_add, List.getElem?_eq_getElem hi]
  rfl
theorem ownRowS {w : World} {B g c : Nat} {X : List ByteArray} (h : OwnS w B (.slice (some ⟨g, 0, none⟩) X.length c) X) : RowS w (some ⟨g, 0, none⟩) g X.length := fun _ => by
  obtain ⟨_, hx⟩ := h
  rcases hx with ⟨hv, _⟩ | ⟨g', cap, cur, hv, _, hh, hnc, _, hcs, _⟩
  · simp at hv
  · simp only [Value.slice.injEq, Option.some.injEq, Addr.mk.injEq, and_true] at hv
    obtain ⟨rfl, _, rfl⟩ := hv
    refine ⟨rfl, c * 1, fun i => cur[i]!, by omega, ?_⟩
    refine ⟨cur, hh, hcs, fun i hi => ?_⟩
    show _ = some cur[i]!
    rw [Array.getElem?_eq_getElem (by omega), getElem!_pos cur i (by omega)]
/-- what TakeFrames answers, in sight -/
def ResS (w w' : World) (e : Ending) (X : List ByteArray) (k : Nat) : Prop :=
  ∃ a b c, e = .returned (.tuple #[.slice a X.length c, .int .i64 (k : Nat)]) ∧ StrAt w' a X.length (atS X) ∧ RowS w' a b X.length ∧ w.heap.size ≤ b ∧ X.length ≤ c ∧ Below w.heap.size w w'
theorem ResS.of {w w' : World} {s : ByteArray} {e : Ending} (h : TakesTo w s e w') : ResS w w' e (taken s).1 (taken s).2 := by
  obtain ⟨B, v, rfl, hB, hO, hb⟩ := h
  rcases hO.2 with ⟨hv, hl⟩ | ⟨g, cap, cur, hv, hbg, rest⟩
  · have hl' : (taken s).1.length = 0 := hl
    exact ⟨none, w.heap.size, 0, by rw [hv, hl'], fun h => by omega, fun h => by omega, Nat.le_refl _, by omega, hb⟩
  · have hO' : OwnS w' B (.slice (some ⟨g, 0, none⟩) (taken s).1.length cap) (taken s).1 := by rw [← hv]; exact hO
    exact ⟨some ⟨g, 0, none⟩, g, cap, by rw [hv], ownAtS hO', ownRowS hO', by omega, by have := rest.2.1; simpa using this, hb⟩

end Go.Proofs.YtccgnmdiainafaaDoor
