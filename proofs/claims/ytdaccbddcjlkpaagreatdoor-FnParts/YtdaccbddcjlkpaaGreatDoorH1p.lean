import Derived.Test.YtdaccbddcjlkpaaGreatDoorRows
import Derived.ProofKit
namespace Go.Proofs.YtdaccbddcjlkpaaGreatDoor
open Go.Proofs.Tryz
theorem QC:prog.mayEnter=true:=by kernel_rfl
end Go.Proofs.YtdaccbddcjlkpaaGreatDoor
