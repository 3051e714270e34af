/- A closed fact of the program, by the kernel's reckoning: whether it was lifted. -/
import Derived.Test.YtjmfaffghkclbaaRows
import Derived.ProofKit
namespace Go.Proofs.Ytjmfaffghkclbaa
theorem fact_lifts : Try.prog.liftsFinal = Rows.fnExactLabelOkRow.lifted := by kernel_rfl
end Go.Proofs.Ytjmfaffghkclbaa
