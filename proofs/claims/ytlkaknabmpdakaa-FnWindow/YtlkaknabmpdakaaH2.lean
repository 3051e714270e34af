/- A closed fact of the program, by the kernel's reckoning: whether it was lifted. -/
import Derived.Test.YtlkaknabmpdakaaRows
import Derived.ProofKit
namespace Go.Proofs.Ytlkaknabmpdakaa
theorem fact_lifts : Try.prog.liftsFinal = Rows.fnSumsRow.lifted := by kernel_rfl
end Go.Proofs.Ytlkaknabmpdakaa
