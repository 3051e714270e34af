import Derived.Test.YtdaccbddcjlkpaaGreatDoorRows
import Derived.ProofKit
namespace Go.Proofs.YtdaccbddcjlkpaaGreatDoor
open Go.Proofs.Tryz
theorem XZ:(prog.make==some Rows.fnPartsRow.make)=true:=by kernel_rfl
end Go.Proofs.YtdaccbddcjlkpaaGreatDoor
