/- A closed fact of the program, by the kernel's reckoning: its make. -/
import Derived.Test.YtjmfaffghkclbaaRows
import Derived.ProofKit
namespace Go.Proofs.Ytjmfaffghkclbaa
theorem fact_make : (Try.prog.make == some Rows.fnExactLabelOkRow.make) = true := by kernel_rfl
end Go.Proofs.Ytjmfaffghkclbaa
