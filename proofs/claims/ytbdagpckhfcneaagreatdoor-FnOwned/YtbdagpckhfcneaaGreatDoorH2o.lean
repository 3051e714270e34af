import Derived.Test.YtbdagpckhfcneaaGreatDoorRows
import Derived.ProofKit
namespace Go.Proofs.YtbdagpckhfcneaaGreatDoor
open Go.Proofs.Tryz
theorem UL:prog.liftsFinal=Rows.fnSteppedRow.lifted:=by kernel_rfl
end Go.Proofs.YtbdagpckhfcneaaGreatDoor
