/- A closed fact of the program, by the kernel's reckoning: whether it was lifted. -/
import Derived.Test.YtkoinmddcnnipaaRows
import Derived.ProofKit
namespace Go.Proofs.Ytkoinmddcnnipaa
theorem fact_lifts : Try.prog.liftsFinal = Rows.fnUnderRow.lifted := by kernel_rfl
end Go.Proofs.Ytkoinmddcnnipaa
