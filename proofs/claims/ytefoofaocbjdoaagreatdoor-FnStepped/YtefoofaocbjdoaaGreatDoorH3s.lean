import Derived.Test.YtefoofaocbjdoaaGreatDoorRows
import Derived.ProofKit
namespace Go.Proofs.YtefoofaocbjdoaaGreatDoor
open Go.Proofs.Tryz
theorem WM:(prog.make==some Rows.fnSteppedRow.make)=true:=by kernel_rfl
end Go.Proofs.YtefoofaocbjdoaaGreatDoor
