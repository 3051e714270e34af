/- A closed fact of the program, by the kernel's reckoning: its make. -/
import Derived.Test.YtccgnmdiainafaaDoorRows
import Derived.ProofKit
namespace Go.Proofs.YtccgnmdiainafaaDoor
theorem fact_make : (Tryd.prog.make == some Rows.fnFramesRow.make) = true := by kernel_rfl
end Go.Proofs.YtccgnmdiainafaaDoor
