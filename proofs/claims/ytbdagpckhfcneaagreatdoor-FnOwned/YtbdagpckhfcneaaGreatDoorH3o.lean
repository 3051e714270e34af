import Derived.Test.YtbdagpckhfcneaaGreatDoorRows
import Derived.ProofKit
namespace Go.Proofs.YtbdagpckhfcneaaGreatDoor
open Go.Proofs.Tryz
theorem Vz:(prog.make==some Rows.fnSteppedRow.make)=true:=by kernel_rfl
end Go.Proofs.YtbdagpckhfcneaaGreatDoor
