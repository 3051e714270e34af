import Derived.Test.YtbdagpckhfcneaaGreatDoorRows
import Derived.ProofKit
namespace Go.Proofs.YtbdagpckhfcneaaGreatDoor
open Go.Proofs.Tryz
theorem Wl:(prog.make==some Rows.fnNoReadUpRow.make)=true:=by kernel_rfl
end Go.Proofs.YtbdagpckhfcneaaGreatDoor
