/- A closed fact of the program, by the kernel's reckoning: it may be entered. -/
import Derived.Test.YtcchpeebhkiacaaRows
import Derived.ProofKit
namespace Go.Proofs.Ytcchpeebhkiacaa
theorem fact_mayEnter : Try.prog.mayEnter = true := by kernel_rfl
end Go.Proofs.Ytcchpeebhkiacaa
