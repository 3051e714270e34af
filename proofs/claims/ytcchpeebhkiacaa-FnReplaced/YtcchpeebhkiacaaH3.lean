/- A closed fact of the program, by the kernel's reckoning: its make. -/
import Derived.Test.YtcchpeebhkiacaaRows
import Derived.ProofKit
namespace Go.Proofs.Ytcchpeebhkiacaa
theorem fact_make : (Try.prog.make == some Rows.fnCrashedRow.make) = true := by kernel_rfl
end Go.Proofs.Ytcchpeebhkiacaa
