/- A closed fact of the program, by the kernel's reckoning: whether it was lifted. -/
import Derived.Test.YtjfbfebjbacciaaDoorRows
import Derived.ProofKit
namespace Go.Proofs.YtjfbfebjbacciaaDoor
theorem fact_lifts : Tryd.prog.liftsFinal = Rows.fnExactLabelTextRow.lifted := by kernel_rfl
end Go.Proofs.YtjfbfebjbacciaaDoor
