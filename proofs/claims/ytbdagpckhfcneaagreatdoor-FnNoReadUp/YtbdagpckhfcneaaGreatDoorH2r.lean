import Derived.Test.YtbdagpckhfcneaaGreatDoorRows
import Derived.ProofKit
namespace Go.Proofs.YtbdagpckhfcneaaGreatDoor
open Go.Proofs.Tryz
theorem Tg:prog.liftsFinal=Rows.fnNoReadUpRow.lifted:=by kernel_rfl
end Go.Proofs.YtbdagpckhfcneaaGreatDoor
