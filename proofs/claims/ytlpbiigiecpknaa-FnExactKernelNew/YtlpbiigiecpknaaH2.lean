/- A closed fact of the program, by the kernel's reckoning: whether it was lifted. -/
import Derived.Test.YtlpbiigiecpknaaRows
import Derived.ProofKit
namespace Go.Proofs.Ytlpbiigiecpknaa
theorem fact_lifts : Try.prog.liftsFinal = Rows.fnExactStepOkRow.lifted := by kernel_rfl
end Go.Proofs.Ytlpbiigiecpknaa
