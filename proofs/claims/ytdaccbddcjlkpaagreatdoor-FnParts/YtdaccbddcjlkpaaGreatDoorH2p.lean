import Derived.Test.YtdaccbddcjlkpaaGreatDoorRows
import Derived.ProofKit
namespace Go.Proofs.YtdaccbddcjlkpaaGreatDoor
open Go.Proofs.Tryz
theorem Wq:prog.liftsFinal=Rows.fnPartsRow.lifted:=by kernel_rfl
end Go.Proofs.YtdaccbddcjlkpaaGreatDoor
