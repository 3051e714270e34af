/- A closed fact of the program, by the kernel's reckoning: its make. -/
import Derived.Test.YtgkfcjcdfbmbjaaGreatRows
import Derived.ProofKit
namespace Go.Proofs.YtgkfcjcdfbmbjaaGreat
theorem fact_make : (Tryz.prog.make == some Rows.fnExactSeenRow.make) = true := by kernel_rfl
end Go.Proofs.YtgkfcjcdfbmbjaaGreat
