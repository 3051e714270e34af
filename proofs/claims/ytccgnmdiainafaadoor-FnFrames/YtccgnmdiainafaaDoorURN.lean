/- The reader: near and off with greater bounds. -/
import Derived.Test.YtccgnmdiainafaaDoorRDR
namespace Go.Proofs.YtccgnmdiainafaaDoor
open Go.RowKit Go.Deep Go.Maps

/-- within the range of 64 bits -/
def InI (x : Int) : Prop := -9223372036854775808 ≤ x ∧ x < 9223372036854775808
theorem InI.w64 (x : Int) : InI (wrap64 x) := by unfold wrap64 InI; omega
theorem InI.of {x : Int} (h1 : -9223372036854775808 ≤ x) (h2 : x < 9223372036854775808) : InI x := ⟨h1, h2⟩

end Go.Proofs.YtccgnmdiainafaaDoor
