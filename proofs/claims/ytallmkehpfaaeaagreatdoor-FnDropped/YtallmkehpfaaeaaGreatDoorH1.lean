import Derived.Test.YtallmkehpfaaeaaGreatDoorRows
import Derived.ProofKit
namespace Go.Proofs.YtallmkehpfaaeaaGreatDoor
theorem fact_mayEnter:Tryz.prog.mayEnter=true:=by kernel_rfl
end Go.Proofs.YtallmkehpfaaeaaGreatDoor
