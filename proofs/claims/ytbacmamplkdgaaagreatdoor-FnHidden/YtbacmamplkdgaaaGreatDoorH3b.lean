import Derived.Test.YtbacmamplkdgaaaGreatDoorRows
import Derived.ProofKit
namespace Go.Proofs.YtbacmamplkdgaaaGreatDoor
theorem fact_make:(Tryz.prog.make==some Rows.fnViewsRow.make)=true:=by kernel_rfl
end Go.Proofs.YtbacmamplkdgaaaGreatDoor
