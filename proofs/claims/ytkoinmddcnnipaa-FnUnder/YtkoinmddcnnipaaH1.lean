/- A closed fact of the program, by the kernel's reckoning: it may be entered. -/
import Derived.Test.YtkoinmddcnnipaaRows
import Derived.ProofKit
namespace Go.Proofs.Ytkoinmddcnnipaa
theorem fact_mayEnter : Try.prog.mayEnter = true := by kernel_rfl
end Go.Proofs.Ytkoinmddcnnipaa
