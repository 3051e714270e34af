/- The marks that the law writes into routes, and their reading. -/
import Derived.Test.YthlejmofhcgkdaaROPI
namespace Go.Proofs.Ythlejmofhcgkdaa
open Go.RowKit Go.Deep Go.Maps

theorem grown_set {a b : World} {P : Nat} (h : a.grownBy b (some P)) (i : Nat) (v : Value) : a.grownBy (b.setCell ⟨P, i, none⟩ v) (some P) :=
  ⟨h.os, h.tape, h.output, by rw [nblk_setCell]; exact h.size, fun j hj hne => (blk_setCell_other _ _ _ _ (by dsimp only; intro e; exact hne (by rw [e]))).trans (h.block j hj hne)⟩
theorem grown_refl (a : World) (P : Nat) : a.grownBy a (some P) := ⟨rfl, rfl, rfl, Nat.le_refl _, fun _ _ _ => rfl⟩
def mk0 (k0 : Int) (i : Nat) : Int := k0 + 3 * i
def mk1 (k0 : Int) (i : Nat) : Int := k0 + 3 * i + 1
def mk2 (k0 : Int) (i : Nat) : Int := k0 + 3 * i + 1 + 1
/-- a slice of routes that may be written: it begins block b -/
def RowR (w : World) (a : Option Addr) (b n : Nat) : Prop := 0 < n → a = some ⟨b, 0, none⟩ ∧ ∃ m F, n * 3 ≤ m ∧ w.rowIs b 29 m F
theorem RowR.below {w w' : World} {a : Option Addr} {b n : Nat} (h : RowR w a b n) (hb : Below w.heap.size w w') : RowR w' a b n := fun h0 => by
  obtain ⟨e, m, F, hm, hr⟩ := h h0
  exact ⟨e, m, F, hm, hr.of_block (hb.block b hr.lt)⟩
theorem RowR.grown {w w' : World} {a : Option Addr} {b n : Nat} {row : Option Nat} (h : RowR w a b n) (hg : w.grownBy w' row) (hne : some b ≠ row) : RowR w' a b n := fun h0 => by
  obtain ⟨e, m, F, hm, hr⟩ := h h0
  exact ⟨e, m, F, hm, hr.of_block (hg.block b hr.lt hne)⟩

end Go.Proofs.Ythlejmofhcgkdaa
