/- A closed fact of the program, by the kernel's reckoning: its make. -/
import Derived.Test.YtdmcimpomjnacaaDoorRows
import Derived.ProofKit
namespace Go.Proofs.YtdmcimpomjnacaaDoor
theorem fact_make : (Tryd.prog.make == some Rows.fnExactSealedRow.make) = true := by kernel_rfl
end Go.Proofs.YtdmcimpomjnacaaDoor
