/- Where an object or a thread stands: l3Find and l3Thread of the model. -/
import Derived.Test.YtimacbpfnkephaaZB
import Derived.Test.YtimacbpfnkephaaKC1
namespace Go.Proofs.Ytimacbpfnkephaa
open Go Go.RowKit Go.Deep

def idxI : Option Nat → Int
  | none => -1
  | some j => j
theorem findI_first {ids : Nat → Int} {n k : Nat} {x : Int} (hk : k < n) (he : ids k = x) (h : ∀ j, j < k → ids j ≠ x) : findI ids n x = some k := by
  unfold findI
  rw [List.find?_range_eq_some]
  exact ⟨by simpa using he, List.mem_range.2 hk, fun j hj => by simpa using h j hj⟩
theorem findI_no {ids : Nat → Int} {n : Nat} {x : Int} (h : ∀ j, j < n → ids j ≠ x) : findI ids n x = none := by
  unfold findI
  rw [List.find?_eq_none]
  intro j hj
  simpa using h j (List.mem_range.1 hj)

end Go.Proofs.Ytimacbpfnkephaa
