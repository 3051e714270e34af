/- A closed fact of the program, by the kernel's reckoning: it may be entered. -/
import Derived.Test.YtcpphobokdkkeaaDoorRows
import Derived.ProofKit
namespace Go.Proofs.YtcpphobokdkkeaaDoor
theorem fact_mayEnter : Tryd.prog.mayEnter = true := by kernel_rfl
end Go.Proofs.YtcpphobokdkkeaaDoor
