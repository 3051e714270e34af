/- A closed fact of the program, by the kernel's reckoning: whether it was lifted. -/
import Derived.Test.YtaaeeaknjlammaaGreatDoorRows
import Derived.ProofKit
namespace Go.Proofs.YtaaeeaknjlammaaGreatDoor
theorem fact_lifts : Tryz.prog.liftsFinal = Rows.fnExactKernelTextRow.lifted := by kernel_rfl
end Go.Proofs.YtaaeeaknjlammaaGreatDoor
