/- A closed fact of the program, by the kernel's reckoning: whether it was lifted. -/
import Derived.Test.YthlejmofhcgkdaaRows
import Derived.ProofKit
namespace Go.Proofs.Ythlejmofhcgkdaa
theorem fact_lifts : Try.prog.liftsFinal = Rows.fnRoutesRow.lifted := by kernel_rfl
end Go.Proofs.Ythlejmofhcgkdaa
