import Derived.Test.YtmikapeeflcbfaaGreatDoorRows
import Derived.ProofKit
namespace Go.Proofs.YtmikapeeflcbfaaGreatDoor
open Go.Proofs.Tryz
theorem Ob:prog.mayEnter=true:=by kernel_rfl
end Go.Proofs.YtmikapeeflcbfaaGreatDoor
