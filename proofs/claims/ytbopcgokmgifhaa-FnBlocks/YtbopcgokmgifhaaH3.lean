/- A closed fact of the program, by the kernel's reckoning: its make. -/
import Derived.Test.YtbopcgokmgifhaaRows
import Derived.ProofKit
namespace Go.Proofs.Ytbopcgokmgifhaa
theorem fact_make : (Try.prog.make == some Rows.fnBlocksRow.make) = true := by kernel_rfl
end Go.Proofs.Ytbopcgokmgifhaa
