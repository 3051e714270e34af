/- A closed fact of the program, by the kernel's reckoning: its make. -/
import Derived.Test.YtimacbpfnkephaaRows
import Derived.ProofKit
namespace Go.Proofs.Ytimacbpfnkephaa
theorem fact_make : (Try.prog.make == some Rows.fnKernelNewRow.make) = true := by kernel_rfl
end Go.Proofs.Ytimacbpfnkephaa
