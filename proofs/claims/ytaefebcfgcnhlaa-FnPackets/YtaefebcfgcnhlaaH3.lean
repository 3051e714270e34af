/- A closed fact of the program, by the kernel's reckoning: its make. -/
import Derived.Test.YtaefebcfgcnhlaaRows
import Derived.ProofKit
namespace Go.Proofs.Ytaefebcfgcnhlaa
theorem fact_make : (Try.prog.make == some Rows.fnPacketsRow.make) = true := by kernel_rfl
end Go.Proofs.Ytaefebcfgcnhlaa
