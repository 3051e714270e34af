/- A closed fact of the program, by the kernel's reckoning: whether it was lifted. -/
import Derived.Test.YtcpphobokdkkeaaDoorRows
import Derived.ProofKit
namespace Go.Proofs.YtcpphobokdkkeaaDoor
theorem fact_lifts : Tryd.prog.liftsFinal = Rows.fnExactStepTextRow.lifted := by kernel_rfl
end Go.Proofs.YtcpphobokdkkeaaDoor
