/- A closed fact of the program, by the kernel's reckoning: whether it was lifted. -/
import Derived.Test.YtimacbpfnkephaaRows
import Derived.ProofKit
namespace Go.Proofs.Ytimacbpfnkephaa
theorem fact_lifts : Try.prog.liftsFinal = Rows.fnKernelNewRow.lifted := by kernel_rfl
end Go.Proofs.Ytimacbpfnkephaa
