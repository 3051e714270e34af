import Derived.Test.YtphddbnadcjhgaaGreatDoorRows
import Derived.ProofKit
namespace Go.Proofs.YtphddbnadcjhgaaGreatDoor
open Go.Proofs.Tryz
theorem Ux:(prog.make==some Rows.fnQueuedRow.make)=true:=by kernel_rfl
end Go.Proofs.YtphddbnadcjhgaaGreatDoor
