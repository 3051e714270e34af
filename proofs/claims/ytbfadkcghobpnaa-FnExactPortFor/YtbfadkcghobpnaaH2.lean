/- A closed fact of the program, by the kernel's reckoning: whether it was lifted. -/
import Derived.Test.YtbfadkcghobpnaaRows
import Derived.ProofKit
namespace Go.Proofs.Ytbfadkcghobpnaa
theorem fact_lifts : Try.prog.liftsFinal = Rows.fnExactRoutesOkRow.lifted := by kernel_rfl
end Go.Proofs.Ytbfadkcghobpnaa
