/- A closed fact of the program, by the kernel's reckoning: its make. -/
import Derived.Test.YtncjkdfjafckhaaRows
import Derived.ProofKit
namespace Go.Proofs.Ytncjkdfjafckhaa
theorem fact_make : (Try.prog.make == some Rows.fnExactDiskOkRow.make) = true := by kernel_rfl
end Go.Proofs.Ytncjkdfjafckhaa
