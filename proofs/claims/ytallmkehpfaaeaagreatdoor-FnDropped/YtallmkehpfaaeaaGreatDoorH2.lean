import Derived.Test.YtallmkehpfaaeaaGreatDoorRows
import Derived.ProofKit
namespace Go.Proofs.YtallmkehpfaaeaaGreatDoor
theorem fact_lifts:Tryz.prog.liftsFinal=Rows.fnDroppedRow.lifted:=by kernel_rfl
end Go.Proofs.YtallmkehpfaaeaaGreatDoor
