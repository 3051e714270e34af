/- A closed fact of the program, by the kernel's reckoning: whether it was lifted. -/
import Derived.Test.YtbeanpnlakcceaaRows
import Derived.ProofKit
namespace Go.Proofs.Ytbeanpnlakcceaa
theorem fact_lifts : Try.prog.liftsFinal = Rows.fnExactTakenRow.lifted := by kernel_rfl
end Go.Proofs.Ytbeanpnlakcceaa
