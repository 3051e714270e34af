/- A closed fact of the program, by the kernel's reckoning: whether it was lifted. -/
import Derived.Test.YtdmcimpomjnacaaRows
import Derived.ProofKit
namespace Go.Proofs.Ytdmcimpomjnacaa
theorem fact_lifts : Try.prog.liftsFinal = Rows.fnExactBlockOfRow.lifted := by kernel_rfl
end Go.Proofs.Ytdmcimpomjnacaa
