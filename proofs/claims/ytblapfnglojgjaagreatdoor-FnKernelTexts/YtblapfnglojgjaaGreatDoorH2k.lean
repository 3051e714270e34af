import Derived.Test.YtblapfnglojgjaaGreatDoorRows
import Derived.ProofKit
namespace Go.Proofs.YtblapfnglojgjaaGreatDoor
open Go.Proofs.Tryz
theorem Vy:prog.liftsFinal=Rows.fnKernelTextsRow.lifted:=by kernel_rfl
end Go.Proofs.YtblapfnglojgjaaGreatDoor
