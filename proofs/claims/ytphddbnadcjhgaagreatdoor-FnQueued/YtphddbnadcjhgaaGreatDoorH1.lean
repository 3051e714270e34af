import Derived.Test.YtphddbnadcjhgaaGreatDoorRows
import Derived.ProofKit
namespace Go.Proofs.YtphddbnadcjhgaaGreatDoor
open Go.Proofs.Tryz
theorem N6:prog.mayEnter=true:=by kernel_rfl
end Go.Proofs.YtphddbnadcjhgaaGreatDoor
