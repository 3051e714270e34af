/- A closed fact of the program, by the kernel's reckoning: its make. -/
import Derived.Test.YtjceaajnemgheaaGreatDoorRows
import Derived.ProofKit
namespace Go.Proofs.YtjceaajnemgheaaGreatDoor
theorem fact_make : (Tryz.prog.make == some Rows.fnExactReadKernelRow.make) = true := by kernel_rfl
end Go.Proofs.YtjceaajnemgheaaGreatDoor
