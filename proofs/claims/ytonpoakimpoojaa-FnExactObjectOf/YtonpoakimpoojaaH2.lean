/- A closed fact of the program, by the kernel's reckoning: whether it was lifted. -/
import Derived.Test.YtonpoakimpoojaaRows
import Derived.ProofKit
namespace Go.Proofs.Ytonpoakimpoojaa
theorem fact_lifts : Try.prog.liftsFinal = Rows.fnExactKernelOkRow.lifted := by kernel_rfl
end Go.Proofs.Ytonpoakimpoojaa
