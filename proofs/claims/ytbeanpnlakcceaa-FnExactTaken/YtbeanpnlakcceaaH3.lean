/- A closed fact of the program, by the kernel's reckoning: its make. -/
import Derived.Test.YtbeanpnlakcceaaRows
import Derived.ProofKit
namespace Go.Proofs.Ytbeanpnlakcceaa
theorem fact_make : (Try.prog.make == some Rows.fnExactTakenRow.make) = true := by kernel_rfl
end Go.Proofs.Ytbeanpnlakcceaa
