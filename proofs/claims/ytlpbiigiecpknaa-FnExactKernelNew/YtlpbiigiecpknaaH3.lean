/- A closed fact of the program, by the kernel's reckoning: its make. -/
import Derived.Test.YtlpbiigiecpknaaRows
import Derived.ProofKit
namespace Go.Proofs.Ytlpbiigiecpknaa
theorem fact_make : (Try.prog.make == some Rows.fnExactStepOkRow.make) = true := by kernel_rfl
end Go.Proofs.Ytlpbiigiecpknaa
