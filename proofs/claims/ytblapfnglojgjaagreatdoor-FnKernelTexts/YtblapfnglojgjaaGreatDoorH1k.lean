import Derived.Test.YtblapfnglojgjaaGreatDoorRows
import Derived.ProofKit
namespace Go.Proofs.YtblapfnglojgjaaGreatDoor
open Go.Proofs.Tryz
theorem Qt:prog.mayEnter=true:=by kernel_rfl
end Go.Proofs.YtblapfnglojgjaaGreatDoor
