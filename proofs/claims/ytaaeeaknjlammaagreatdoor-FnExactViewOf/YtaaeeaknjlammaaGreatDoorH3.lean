/- A closed fact of the program, by the kernel's reckoning: its make. -/
import Derived.Test.YtaaeeaknjlammaaGreatDoorRows
import Derived.ProofKit
namespace Go.Proofs.YtaaeeaknjlammaaGreatDoor
theorem fact_make : (Tryz.prog.make == some Rows.fnExactKernelTextRow.make) = true := by kernel_rfl
end Go.Proofs.YtaaeeaknjlammaaGreatDoor
