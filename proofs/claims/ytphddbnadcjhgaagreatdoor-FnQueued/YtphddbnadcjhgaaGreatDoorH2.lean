import Derived.Test.YtphddbnadcjhgaaGreatDoorRows
import Derived.ProofKit
namespace Go.Proofs.YtphddbnadcjhgaaGreatDoor
open Go.Proofs.Tryz
theorem Sq:prog.liftsFinal=Rows.fnQueuedRow.lifted:=by kernel_rfl
end Go.Proofs.YtphddbnadcjhgaaGreatDoor
