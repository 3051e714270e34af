/- A closed fact of the program, by the kernel's reckoning: whether it was lifted. -/
import Derived.Test.YtaefebcfgcnhlaaRows
import Derived.ProofKit
namespace Go.Proofs.Ytaefebcfgcnhlaa
theorem fact_lifts : Try.prog.liftsFinal = Rows.fnPacketsRow.lifted := by kernel_rfl
end Go.Proofs.Ytaefebcfgcnhlaa
