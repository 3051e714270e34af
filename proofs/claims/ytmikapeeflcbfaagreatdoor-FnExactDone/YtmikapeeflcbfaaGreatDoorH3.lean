import Derived.Test.YtmikapeeflcbfaaGreatDoorRows
import Derived.ProofKit
namespace Go.Proofs.YtmikapeeflcbfaaGreatDoor
open Go.Proofs.Tryz
theorem Ww:(prog.make==some Rows.fnExactDoneRow.make)=true:=by kernel_rfl
end Go.Proofs.YtmikapeeflcbfaaGreatDoor
