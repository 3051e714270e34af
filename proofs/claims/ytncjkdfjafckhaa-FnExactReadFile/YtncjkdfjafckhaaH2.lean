/- A closed fact of the program, by the kernel's reckoning: whether it was lifted. -/
import Derived.Test.YtncjkdfjafckhaaRows
import Derived.ProofKit
namespace Go.Proofs.Ytncjkdfjafckhaa
theorem fact_lifts : Try.prog.liftsFinal = Rows.fnExactDiskOkRow.lifted := by kernel_rfl
end Go.Proofs.Ytncjkdfjafckhaa
