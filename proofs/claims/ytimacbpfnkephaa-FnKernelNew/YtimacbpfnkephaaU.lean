/- The model's l1Flows answers the plain function flowsB. -/
import Derived.Test.YtimacbpfnkephaaT
namespace Go.Proofs.Ytimacbpfnkephaa
open Go.RowKit Go.Deep Go.Maps

def hasB (n : Nat) (h : Nat → Int) (x : Int) : Bool := (List.range n).any (fun i => h i == x)
theorem hasB_yes {n k : Nat} {h : Nat → Int} {x : Int} (hk : k < n) (e : h k = x) : hasB n h x = true := by
  unfold hasB; rw [List.any_eq_true]; exact ⟨k, List.mem_range.2 hk, by simpa using e⟩
theorem hasB_no {n : Nat} {h : Nat → Int} {x : Int} (e : ∀ i, i < n → h i ≠ x) : hasB n h x = false := by
  unfold hasB; rw [List.any_eq_false]; intro i hi; simpa using e i (List.mem_range.1 hi)

/-- is the level of x above in the second label? or owned? -/
def letB (ba : Int) (na : Nat) (fa ga : Nat → Int) (no : Nat) (ho : Nat → Int) (bb : Int) (nb : Nat) (fb gb : Nat → Int) (x : Int) : Bool :=
  hasB no ho x || !decide (levOf bb nb fb gb x < levOf ba na fa ga x)
def flowsB (ba : Int) (na : Nat) (fa ga : Nat → Int) (no : Nat) (ho : Nat → Int) (bb : Int) (nb : Nat) (fb gb : Nat → Int) : Bool :=
  decide (ba ≤ bb) && (List.range (na + nb)).all (fun i => letB ba na fa ga no ho bb nb fb gb (glue na fa fb i))

theorem flowsB_base {ba : Int} {na : Nat} {fa ga : Nat → Int} {no : Nat} {ho : Nat → Int} {bb : Int} {nb : Nat} {fb gb : Nat → Int} (h : bb < ba) : flowsB ba na fa ga no ho bb nb fb gb = false := by
  have : decide (ba ≤ bb) = false := by simp; omega
  simp [flowsB, this]
theorem flowsB_at {ba : Int} {na : Nat} {fa ga : Nat → Int} {no : Nat} {ho : Nat → Int} {bb : Int} {nb : Nat} {fb gb : Nat → Int} {k : Nat} (hk : k < na + nb) (h : letB ba na fa ga no ho bb nb fb gb (glue na fa fb k) = false) : flowsB ba na fa ga no ho bb nb fb gb = false := by
  have : (List.range (na + nb)).all (fun i => letB ba na fa ga no ho bb nb fb gb (glue na fa fb i)) = false := by
    rw [List.all_eq_false]; exact ⟨k, List.mem_range.2 hk, by simp [h]⟩
  simp [flowsB, this]
theorem flowsB_mk {ba : Int} {na : Nat} {fa ga : Nat → Int} {no : Nat} {ho : Nat → Int} {bb : Int} {nb : Nat} {fb gb : Nat → Int} (h0 : ba ≤ bb) (h : ∀ i, i < na + nb → letB ba na fa ga no ho bb nb fb gb (glue na fa fb i) = true) : flowsB ba na fa ga no ho bb nb fb gb = true := by
  have : (List.range (na + nb)).all (fun i => letB ba na fa ga no ho bb nb fb gb (glue na fa fb i)) = true := by
    rw [List.all_eq_true]; intro i hi; exact h i (List.mem_range.1 hi)
  simp [flowsB, this, h0]

end Go.Proofs.Ytimacbpfnkephaa
