/- A closed fact of the program, by the kernel's reckoning: its make. -/
import Derived.Test.YthbmfbnnemgbpaaGreatDoorRows
import Derived.ProofKit
namespace Go.Proofs.YthbmfbnnemgbpaaGreatDoor
theorem fact_make : (Tryz.prog.make == some Rows.fnStepTextsRow.make) = true := by kernel_rfl
end Go.Proofs.YthbmfbnnemgbpaaGreatDoor
