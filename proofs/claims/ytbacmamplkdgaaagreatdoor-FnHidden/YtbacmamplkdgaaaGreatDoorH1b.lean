import Derived.Test.YtbacmamplkdgaaaGreatDoorRows
import Derived.ProofKit
namespace Go.Proofs.YtbacmamplkdgaaaGreatDoor
theorem fact_mayEnter:Tryz.prog.mayEnter=true:=by kernel_rfl
end Go.Proofs.YtbacmamplkdgaaaGreatDoor
