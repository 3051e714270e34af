import Derived.Test.YtefoofaocbjdoaaGreatDoorRows
import Derived.ProofKit
namespace Go.Proofs.YtefoofaocbjdoaaGreatDoor
open Go.Proofs.Tryz
theorem OZ:prog.mayEnter=true:=by kernel_rfl
end Go.Proofs.YtefoofaocbjdoaaGreatDoor
