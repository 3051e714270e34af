import Derived.Test.YtallmkehpfaaeaaGreatDoorRows
import Derived.ProofKit
namespace Go.Proofs.YtallmkehpfaaeaaGreatDoor
open Go.Proofs.Tryz
theorem RN:prog.liftsFinal=Rows.fnDroppedRow.lifted:=by kernel_rfl
end Go.Proofs.YtallmkehpfaaeaaGreatDoor
