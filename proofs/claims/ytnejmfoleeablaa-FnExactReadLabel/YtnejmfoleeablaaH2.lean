/- A closed fact of the program, by the kernel's reckoning: whether it was lifted. -/
import Derived.Test.YtnejmfoleeablaaRows
import Derived.ProofKit
namespace Go.Proofs.Ytnejmfoleeablaa
theorem fact_lifts : Try.prog.liftsFinal = Rows.fnExactReadLabelRow.lifted := by kernel_rfl
end Go.Proofs.Ytnejmfoleeablaa
