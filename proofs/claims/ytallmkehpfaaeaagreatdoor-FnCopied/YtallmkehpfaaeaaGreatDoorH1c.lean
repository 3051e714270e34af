import Derived.Test.YtallmkehpfaaeaaGreatDoorRows
import Derived.ProofKit
namespace Go.Proofs.YtallmkehpfaaeaaGreatDoor
open Go.Proofs.Tryz
theorem MO:prog.mayEnter=true:=by kernel_rfl
end Go.Proofs.YtallmkehpfaaeaaGreatDoor
