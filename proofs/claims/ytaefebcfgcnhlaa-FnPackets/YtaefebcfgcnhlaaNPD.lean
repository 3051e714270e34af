/- FnExactPacketText: the walk; packets in the exact laws: their budget, copies and comparison. -/
import Derived.Test.YtaefebcfgcnhlaaNPB
import Derived.Test.YtaefebcfgcnhlaaNPC
namespace Go.Proofs.Ytaefebcfgcnhlaa
open Go Go.RowKit Go.Deep Go.Maps

end Go.Proofs.Ytaefebcfgcnhlaa
