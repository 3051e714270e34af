import Derived.Test.YteoihknaljgocaaGreatDoorRows
import Derived.ProofKit
namespace Go.Proofs.YteoihknaljgocaaGreatDoor
open Go.Proofs.Tryz
theorem Pe:prog.mayEnter=true:=by kernel_rfl
end Go.Proofs.YteoihknaljgocaaGreatDoor
