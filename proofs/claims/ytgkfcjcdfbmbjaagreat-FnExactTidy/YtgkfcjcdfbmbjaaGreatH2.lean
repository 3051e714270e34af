/- A closed fact of the program, by the kernel's reckoning: whether it was lifted. -/
import Derived.Test.YtgkfcjcdfbmbjaaGreatRows
import Derived.ProofKit
namespace Go.Proofs.YtgkfcjcdfbmbjaaGreat
theorem fact_lifts : Tryz.prog.liftsFinal = Rows.fnExactSeenRow.lifted := by kernel_rfl
end Go.Proofs.YtgkfcjcdfbmbjaaGreat
