import Derived.Test.YtefoofaocbjdoaaGreatDoorRows
import Derived.ProofKit
namespace Go.Proofs.YtefoofaocbjdoaaGreatDoor
open Go.Proofs.Tryz
theorem UF:prog.liftsFinal=Rows.fnSteppedRow.lifted:=by kernel_rfl
end Go.Proofs.YtefoofaocbjdoaaGreatDoor
