/- A closed fact of the program, by the kernel's reckoning: whether it was lifted. -/
import Derived.Test.YtjceaajnemgheaaGreatDoorRows
import Derived.ProofKit
namespace Go.Proofs.YtjceaajnemgheaaGreatDoor
theorem fact_lifts : Tryz.prog.liftsFinal = Rows.fnExactReadKernelRow.lifted := by kernel_rfl
end Go.Proofs.YtjceaajnemgheaaGreatDoor
