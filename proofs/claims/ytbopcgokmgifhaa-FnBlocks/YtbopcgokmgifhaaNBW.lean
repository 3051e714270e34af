/- Numbers in bytes: l7Big of the model. -/
import Derived.Test.YtbopcgokmgifhaaNGR
namespace Go.Proofs.Ytbopcgokmgifhaa
open Go Go.RowKit Go.Deep Go.Maps
open Go.WideShapes (add_plain)

theorem bigL_split (n : Int) (m k : Nat) (h : k ≤ m) : bigL n m = (bigL n m).take (m - k) ++ bigL n k := by
  induction m with
  | zero => obtain rfl : k = 0 := by omega
            rfl
  | succ m ih =>
    by_cases e : k = m + 1
    · subst e; simp
    · rw [show m + 1 - k = (m - k) + 1 by omega]
      simp only [bigL, List.take_succ_cons, List.cons_append, List.cons.injEq, true_and]
      exact ih (by omega)
theorem below_grown {a b : World} {B : Nat} {P : Option Nat} (h : a.grownBy b P) (hB : B ≤ a.heap.size) (hp : ∀ x, P = some x → B ≤ x) : Below B a b :=
  ⟨h.os, h.tape, h.output, h.size, fun k hk => h.block k (by omega) (fun e => by have := hp k (by first | exact e | exact e.symm); omega)⟩
theorem pow8 (i : Nat) (h : i ≤ 7) : (8 * (i : Int)).toNat = 8 * i := by omega

end Go.Proofs.Ytbopcgokmgifhaa
