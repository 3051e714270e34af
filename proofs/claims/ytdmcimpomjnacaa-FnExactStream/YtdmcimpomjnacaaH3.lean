/- A closed fact of the program, by the kernel's reckoning: its make. -/
import Derived.Test.YtdmcimpomjnacaaRows
import Derived.ProofKit
namespace Go.Proofs.Ytdmcimpomjnacaa
theorem fact_make : (Try.prog.make == some Rows.fnExactBlockOfRow.make) = true := by kernel_rfl
end Go.Proofs.Ytdmcimpomjnacaa
