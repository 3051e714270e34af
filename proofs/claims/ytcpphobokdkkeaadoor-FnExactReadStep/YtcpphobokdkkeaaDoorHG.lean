/- FnExactStepOk: the walk: the law answers true at every step that came in, and writes nothing that was there. -/
import Derived.Test.YtcpphobokdkkeaaDoorHE
import Derived.Test.YtcpphobokdkkeaaDoorHF
namespace Go.Proofs.YtcpphobokdkkeaaDoor
open Go.RowKit Go.Deep

/-- What the program's StepOk is known to answer (proved by kinds in HD1 to HD4). -/
def ImplStep : Prop := ∀ (th kind id to' cat : Int) (d : ByteArray) (bl : Int) (al : Option Addr) (nl kl : Nat) (fl gl : Nat → Int) (bc : Int) (ac : Option Addr) (nc kc : Nat) (fc gc : Nat → Int) (w : World) (_ : d.size ≤ maxLen) (_ : nl ≤ maxLen) (_ : nc ≤ maxLen) (_ : CatsAt w al nl fl gl) (_ : CatsAt w ac nc fc gc),
    Calls Tryd.prog 19 #[.agg #[.int .i64 th, .int .i64 kind, .int .i64 id, .int .i64 to', .int .i64 cat, .string d, .int .i64 bl, .slice al nl kl, .int .i64 bc, .slice ac nc kc]] w fun e w' => e = .returned (.bool (stepOk th kind id to' cat d bl nl fl gl bc nc fc gc)) ∧ Below w.heap.size w w'

end Go.Proofs.YtcpphobokdkkeaaDoor
