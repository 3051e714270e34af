/- A closed fact of the program, by the kernel's reckoning: its make. -/
import Derived.Test.YtcdhhmedcplblaaRows
import Derived.ProofKit
namespace Go.Proofs.Ytcdhhmedcplblaa
theorem fact_make : (Try.prog.make == some Rows.fnExactSyncRow.make) = true := by kernel_rfl
end Go.Proofs.Ytcdhhmedcplblaa
