/- A closed fact of the program, by the kernel's reckoning: whether it was lifted. -/
import Derived.Test.YtccgnmdiainafaaDoorRows
import Derived.ProofKit
namespace Go.Proofs.YtccgnmdiainafaaDoor
theorem fact_lifts : Tryd.prog.liftsFinal = Rows.fnFramesRow.lifted := by kernel_rfl
end Go.Proofs.YtccgnmdiainafaaDoor
