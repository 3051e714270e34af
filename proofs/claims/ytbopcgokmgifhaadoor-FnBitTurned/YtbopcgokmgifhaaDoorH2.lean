/- A closed fact of the program, by the kernel's reckoning: whether it was lifted. -/
import Derived.Test.YtbopcgokmgifhaaDoorRows
import Derived.ProofKit
namespace Go.Proofs.YtbopcgokmgifhaaDoor
theorem fact_lifts : Tryd.prog.liftsFinal = Rows.fnSealedRow.lifted := by kernel_rfl
end Go.Proofs.YtbopcgokmgifhaaDoor
