/- Objects by themselves: l3Object of the model answers the plain function objOk. -/
import Derived.Test.YtimacbpfnkephaaKB2
namespace Go.Proofs.Ytimacbpfnkephaa
open Go.RowKit Go.Deep

end Go.Proofs.Ytimacbpfnkephaa
