import Derived.Test.YtblapfnglojgjaaGreatDoorRows
import Derived.ProofKit
namespace Go.Proofs.YtblapfnglojgjaaGreatDoor
open Go.Proofs.Tryz
theorem Xf:(prog.make==some Rows.fnKernelTextsRow.make)=true:=by kernel_rfl
end Go.Proofs.YtblapfnglojgjaaGreatDoor
