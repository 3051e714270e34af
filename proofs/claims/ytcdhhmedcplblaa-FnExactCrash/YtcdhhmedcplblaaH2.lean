/- A closed fact of the program, by the kernel's reckoning: whether it was lifted. -/
import Derived.Test.YtcdhhmedcplblaaRows
import Derived.ProofKit
namespace Go.Proofs.Ytcdhhmedcplblaa
theorem fact_lifts : Try.prog.liftsFinal = Rows.fnExactSyncRow.lifted := by kernel_rfl
end Go.Proofs.Ytcdhhmedcplblaa
