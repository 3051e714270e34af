/- A closed fact of the program, by the kernel's reckoning: whether it was lifted. -/
import Derived.Test.YtdmcimpomjnacaaDoorRows
import Derived.ProofKit
namespace Go.Proofs.YtdmcimpomjnacaaDoor
theorem fact_lifts : Tryd.prog.liftsFinal = Rows.fnExactSealedRow.lifted := by kernel_rfl
end Go.Proofs.YtdmcimpomjnacaaDoor
