/- A closed fact of the program, by the kernel's reckoning: whether it was lifted. -/
import Derived.Test.YtbopcgokmgifhaaRows
import Derived.ProofKit
namespace Go.Proofs.Ytbopcgokmgifhaa
theorem fact_lifts : Try.prog.liftsFinal = Rows.fnBlocksRow.lifted := by kernel_rfl
end Go.Proofs.Ytbopcgokmgifhaa
