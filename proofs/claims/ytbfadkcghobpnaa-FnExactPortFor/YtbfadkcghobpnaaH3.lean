/- A closed fact of the program, by the kernel's reckoning: its make. -/
import Derived.Test.YtbfadkcghobpnaaRows
import Derived.ProofKit
namespace Go.Proofs.Ytbfadkcghobpnaa
theorem fact_make : (Try.prog.make == some Rows.fnExactRoutesOkRow.make) = true := by kernel_rfl
end Go.Proofs.Ytbfadkcghobpnaa
