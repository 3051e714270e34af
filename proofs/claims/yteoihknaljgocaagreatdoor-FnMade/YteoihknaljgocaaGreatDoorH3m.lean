import Derived.Test.YteoihknaljgocaaGreatDoorRows
import Derived.ProofKit
namespace Go.Proofs.YteoihknaljgocaaGreatDoor
open Go.Proofs.Tryz
theorem VI:(prog.make==some Rows.fnMadeRow.make)=true:=by kernel_rfl
end Go.Proofs.YteoihknaljgocaaGreatDoor
