import Derived.Test.YtbdagpckhfcneaaGreatDoorRows
import Derived.ProofKit
namespace Go.Proofs.YtbdagpckhfcneaaGreatDoor
open Go.Proofs.Tryz
theorem OJ:prog.mayEnter=true:=by kernel_rfl
end Go.Proofs.YtbdagpckhfcneaaGreatDoor
