/- A closed fact of the program, by the kernel's reckoning: it may be entered. -/
import Derived.Test.YtmgdfjkjljlccaaRows
import Derived.ProofKit
namespace Go.Proofs.Ytmgdfjkjljlccaa
theorem fact_mayEnter : Try.prog.mayEnter = true := by kernel_rfl
end Go.Proofs.Ytmgdfjkjljlccaa
