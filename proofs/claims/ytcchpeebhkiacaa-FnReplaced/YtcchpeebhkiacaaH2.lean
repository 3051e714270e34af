/- A closed fact of the program, by the kernel's reckoning: whether it was lifted. -/
import Derived.Test.YtcchpeebhkiacaaRows
import Derived.ProofKit
namespace Go.Proofs.Ytcchpeebhkiacaa
theorem fact_lifts : Try.prog.liftsFinal = Rows.fnCrashedRow.lifted := by kernel_rfl
end Go.Proofs.Ytcchpeebhkiacaa
