import Derived.Test.YtallmkehpfaaeaaGreatDoorRows
import Derived.ProofKit
namespace Go.Proofs.YtallmkehpfaaeaaGreatDoor
open Go.Proofs.Tryz
theorem Ul:(prog.make==some Rows.fnDroppedRow.make)=true:=by kernel_rfl
end Go.Proofs.YtallmkehpfaaeaaGreatDoor
