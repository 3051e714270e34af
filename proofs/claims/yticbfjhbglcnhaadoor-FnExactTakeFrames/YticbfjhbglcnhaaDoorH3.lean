/- A closed fact of the program, by the kernel's reckoning: its make. -/
import Derived.Test.YticbfjhbglcnhaaDoorRows
import Derived.ProofKit
namespace Go.Proofs.YticbfjhbglcnhaaDoor
theorem fact_make : (Tryd.prog.make == some Rows.fnExactFrameOfRow.make) = true := by kernel_rfl
end Go.Proofs.YticbfjhbglcnhaaDoor
