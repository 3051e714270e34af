/- A closed fact of the program, by the kernel's reckoning: it may be entered. -/
import Derived.Test.YtccgnmdiainafaaDoorRows
import Derived.ProofKit
namespace Go.Proofs.YtccgnmdiainafaaDoor
theorem fact_mayEnter : Tryd.prog.mayEnter = true := by kernel_rfl
end Go.Proofs.YtccgnmdiainafaaDoor
