/- A closed fact of the program, by the kernel's reckoning: its make. -/
import Derived.Test.YtjfbfebjbacciaaDoorRows
import Derived.ProofKit
namespace Go.Proofs.YtjfbfebjbacciaaDoor
theorem fact_make : (Tryd.prog.make == some Rows.fnExactLabelTextRow.make) = true := by kernel_rfl
end Go.Proofs.YtjfbfebjbacciaaDoor
