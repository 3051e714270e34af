/- A closed fact of the program, by the kernel's reckoning: its make. -/
import Derived.Test.YtbopcgokmgifhaaDoorRows
import Derived.ProofKit
namespace Go.Proofs.YtbopcgokmgifhaaDoor
theorem fact_make : (Tryd.prog.make == some Rows.fnSealedRow.make) = true := by kernel_rfl
end Go.Proofs.YtbopcgokmgifhaaDoor
