/- A closed fact of the program, by the kernel's reckoning: whether it was lifted. -/
import Derived.Test.YtmgdfjkjljlccaaRows
import Derived.ProofKit
namespace Go.Proofs.Ytmgdfjkjljlccaa
theorem fact_lifts : Try.prog.liftsFinal = Rows.fnExactChecksumRow.lifted := by kernel_rfl
end Go.Proofs.Ytmgdfjkjljlccaa
