import Derived.Test.YteoihknaljgocaaGreatDoorRows
import Derived.ProofKit
namespace Go.Proofs.YteoihknaljgocaaGreatDoor
open Go.Proofs.Tryz
theorem Uc:prog.liftsFinal=Rows.fnMadeRow.lifted:=by kernel_rfl
end Go.Proofs.YteoihknaljgocaaGreatDoor
