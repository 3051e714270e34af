import Derived.Test.YtallmkehpfaaeaaGreatDoorRows
import Derived.ProofKit
namespace Go.Proofs.YtallmkehpfaaeaaGreatDoor
theorem fact_make:(Tryz.prog.make==some Rows.fnDroppedRow.make)=true:=by kernel_rfl
end Go.Proofs.YtallmkehpfaaeaaGreatDoor
