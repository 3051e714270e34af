/- A closed fact of the program, by the kernel's reckoning: it may be entered. -/
import Derived.Test.YtaaeeaknjlammaaGreatDoorRows
import Derived.ProofKit
namespace Go.Proofs.YtaaeeaknjlammaaGreatDoor
theorem fact_mayEnter : Tryz.prog.mayEnter = true := by kernel_rfl
end Go.Proofs.YtaaeeaknjlammaaGreatDoor
