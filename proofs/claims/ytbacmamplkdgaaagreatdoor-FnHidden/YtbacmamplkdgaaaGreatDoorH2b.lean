import Derived.Test.YtbacmamplkdgaaaGreatDoorRows
import Derived.ProofKit
namespace Go.Proofs.YtbacmamplkdgaaaGreatDoor
theorem fact_lifts:Tryz.prog.liftsFinal=Rows.fnViewsRow.lifted:=by kernel_rfl
end Go.Proofs.YtbacmamplkdgaaaGreatDoor
