/- A closed fact of the program, by the kernel's reckoning: whether it was lifted. -/
import Derived.Test.YthbmfbnnemgbpaaGreatDoorRows
import Derived.ProofKit
namespace Go.Proofs.YthbmfbnnemgbpaaGreatDoor
theorem fact_lifts : Tryz.prog.liftsFinal = Rows.fnStepTextsRow.lifted := by kernel_rfl
end Go.Proofs.YthbmfbnnemgbpaaGreatDoor
