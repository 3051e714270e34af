/- A closed fact of the program, by the kernel's reckoning: its make. -/
import Derived.Test.YtlkaknabmpdakaaRows
import Derived.ProofKit
namespace Go.Proofs.Ytlkaknabmpdakaa
theorem fact_make : (Try.prog.make == some Rows.fnSumsRow.make) = true := by kernel_rfl
end Go.Proofs.Ytlkaknabmpdakaa
