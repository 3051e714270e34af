/- A closed fact of the program, by the kernel's reckoning: its make. -/
import Derived.Test.YtmgdfjkjljlccaaRows
import Derived.ProofKit
namespace Go.Proofs.Ytmgdfjkjljlccaa
theorem fact_make : (Try.prog.make == some Rows.fnExactChecksumRow.make) = true := by kernel_rfl
end Go.Proofs.Ytmgdfjkjljlccaa
