/- A closed fact of the program, by the kernel's reckoning: its make. -/
import Derived.Test.YtkoinmddcnnipaaRows
import Derived.ProofKit
namespace Go.Proofs.Ytkoinmddcnnipaa
theorem fact_make : (Try.prog.make == some Rows.fnUnderRow.make) = true := by kernel_rfl
end Go.Proofs.Ytkoinmddcnnipaa
