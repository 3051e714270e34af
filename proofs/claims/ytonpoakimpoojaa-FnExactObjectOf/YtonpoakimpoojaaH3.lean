/- A closed fact of the program, by the kernel's reckoning: its make. -/
import Derived.Test.YtonpoakimpoojaaRows
import Derived.ProofKit
namespace Go.Proofs.Ytonpoakimpoojaa
theorem fact_make : (Try.prog.make == some Rows.fnExactKernelOkRow.make) = true := by kernel_rfl
end Go.Proofs.Ytonpoakimpoojaa
