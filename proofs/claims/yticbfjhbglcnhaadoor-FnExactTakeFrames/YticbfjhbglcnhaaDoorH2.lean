/- A closed fact of the program, by the kernel's reckoning: whether it was lifted. -/
import Derived.Test.YticbfjhbglcnhaaDoorRows
import Derived.ProofKit
namespace Go.Proofs.YticbfjhbglcnhaaDoor
theorem fact_lifts : Tryd.prog.liftsFinal = Rows.fnExactFrameOfRow.lifted := by kernel_rfl
end Go.Proofs.YticbfjhbglcnhaaDoor
