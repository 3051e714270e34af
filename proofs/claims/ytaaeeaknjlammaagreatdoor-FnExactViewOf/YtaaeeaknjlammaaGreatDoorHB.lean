/- What a step may have by its kind: usesOf, numberOk, catOk, isZeroLabel of the program, l4None of the model. -/
import Derived.Test.YtaaeeaknjlammaaGreatDoorHA
namespace Go.Proofs.YtaaeeaknjlammaaGreatDoor
open Go.RowKit Go.Deep

def zeroB (base : Int) (n : Nat) : Bool := (base == 0) && (n == 0)
def uId (kind : Int) : Bool := kind == 2 || kind == 3 || kind == 4 || kind == 5 || kind == 6 || kind == 7 || kind == 8 || kind == 9 || kind == 10 || kind == 11 || kind == 13 || kind == 15
def uTo (kind : Int) : Bool := kind == 8
def uCat (kind : Int) : Bool := kind == 5 || kind == 14
def uData (kind : Int) : Bool := kind == 6 || kind == 9
def uLabel (kind : Int) : Bool := kind == 2 || kind == 3 || kind == 4 || kind == 5 || kind == 12
def uClear (kind : Int) : Bool := kind == 5
def uOk (kind : Int) : Bool := kind == 1 || kind == 2 || kind == 3 || kind == 4 || kind == 5 || kind == 6 || kind == 7 || kind == 8 || kind == 9 || kind == 10 || kind == 11 || kind == 12 || kind == 13 || kind == 14 || kind == 15
def numB (n : Int) (used : Bool) : Bool := if used then inB n 1 9030 else n == 0
def catB (kind cat : Int) (used : Bool) : Bool := if cat == 0 then kind != 14 else used && inB cat 1 9999

theorem isZero_any (base : Int) (a : Option Addr) (n cap : Nat) (w : World) (hn : n ≤ maxLen) :
    Calls Tryz.prog 102 #[.agg #[.int .i64 base, .slice a n cap]] w fun e w' => e = .returned (.bool (zeroB base n)) ∧ Below w.heap.size w w' := by
  unfold maxLen at hn
  have hb0 := (Below.refl _ w).alloc (Nat.le_refl _) (.cells #[.int .i64 base, .slice a n cap] 39)
  cases t : (base == 0) with
  | true =>
    go_enter Tryz.func102, Tryz.ntmps102
    go_wp2
    go_ret
    refine ⟨ret_bool ?_, hb0⟩
    unfold zeroB
    rw [t, Bool.true_and]
    by_cases e : n = 0
    · subst e; rfl
    · have e1 : (n == 0) = false := by simpa using e
      rw [e1]
      simp
      omega
  | false =>
    go_enter Tryz.func102, Tryz.ntmps102
    go_wp2
    go_ret
    exact ⟨ret_bool (by simp [zeroB, t]), hb0⟩

end Go.Proofs.YtaaeeaknjlammaaGreatDoor
