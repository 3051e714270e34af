/- A closed fact of the program, by the kernel's reckoning: it may be entered. -/
import Derived.Test.YtjceaajnemgheaaGreatDoorRows
import Derived.ProofKit
namespace Go.Proofs.YtjceaajnemgheaaGreatDoor
theorem fact_mayEnter : Tryz.prog.mayEnter = true := by kernel_rfl
end Go.Proofs.YtjceaajnemgheaaGreatDoor
