/- A closed fact of the program, by the kernel's reckoning: its make. -/
import Derived.Test.YtcpphobokdkkeaaDoorRows
import Derived.ProofKit
namespace Go.Proofs.YtcpphobokdkkeaaDoor
theorem fact_make : (Tryd.prog.make == some Rows.fnExactStepTextRow.make) = true := by kernel_rfl
end Go.Proofs.YtcpphobokdkkeaaDoor
