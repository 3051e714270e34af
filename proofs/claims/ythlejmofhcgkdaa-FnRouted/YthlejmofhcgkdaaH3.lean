/- A closed fact of the program, by the kernel's reckoning: its make. -/
import Derived.Test.YthlejmofhcgkdaaRows
import Derived.ProofKit
namespace Go.Proofs.Ythlejmofhcgkdaa
theorem fact_make : (Try.prog.make == some Rows.fnRoutesRow.make) = true := by kernel_rfl
end Go.Proofs.Ythlejmofhcgkdaa
