/- A closed fact of the program, by the kernel's reckoning: it may be entered. -/
import Derived.Test.YticbfjhbglcnhaaDoorRows
import Derived.ProofKit
namespace Go.Proofs.YticbfjhbglcnhaaDoor
theorem fact_mayEnter : Tryd.prog.mayEnter = true := by kernel_rfl
end Go.Proofs.YticbfjhbglcnhaaDoor
