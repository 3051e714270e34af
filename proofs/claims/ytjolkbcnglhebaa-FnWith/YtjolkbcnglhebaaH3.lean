/- A closed fact of the program, by the kernel's reckoning: its make. -/
import Derived.Test.YtjolkbcnglhebaaRows
import Derived.ProofKit
namespace Go.Proofs.Ytjolkbcnglhebaa
theorem fact_make : (Try.prog.make == some Rows.fnExactSeesRow.make) = true := by kernel_rfl
end Go.Proofs.Ytjolkbcnglhebaa
