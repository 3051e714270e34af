/- A closed fact of the program, by the kernel's reckoning: its make. -/
import Derived.Test.YtnejmfoleeablaaRows
import Derived.ProofKit
namespace Go.Proofs.Ytnejmfoleeablaa
theorem fact_make : (Try.prog.make == some Rows.fnExactReadLabelRow.make) = true := by kernel_rfl
end Go.Proofs.Ytnejmfoleeablaa
