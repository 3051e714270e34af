import Derived.Test.YtmikapeeflcbfaaGreatDoorRows
import Derived.ProofKit
namespace Go.Proofs.YtmikapeeflcbfaaGreatDoor
open Go.Proofs.Tryz
theorem Ta:prog.liftsFinal=Rows.fnExactDoneRow.lifted:=by kernel_rfl
end Go.Proofs.YtmikapeeflcbfaaGreatDoor
