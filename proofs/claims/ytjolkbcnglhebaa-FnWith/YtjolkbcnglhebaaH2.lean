/- A closed fact of the program, by the kernel's reckoning: whether it was lifted. -/
import Derived.Test.YtjolkbcnglhebaaRows
import Derived.ProofKit
namespace Go.Proofs.Ytjolkbcnglhebaa
theorem fact_lifts : Try.prog.liftsFinal = Rows.fnExactSeesRow.lifted := by kernel_rfl
end Go.Proofs.Ytjolkbcnglhebaa
