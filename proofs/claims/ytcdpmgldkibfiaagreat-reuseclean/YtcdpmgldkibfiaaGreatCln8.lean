import Derived.Test.YtcdpmgldkibfiaaGreatCln2
import Derived.Maps.OwnSet
import Derived.Maps.OwnOps
import Derived.Maps.Ext
import Derived.Test.YtcdpmgldkibfiaaGreatCln1
namespace Go.Proofs.YtcdpmgldkibfiaaGreat
open Go.RowKit Go.Proofs.Tryz
set_option linter.all false
set_option maxRecDepth 100000
set_option maxHeartbeats 16000000
section
open Go.Maps (Keyed)
def hRI:Value->Option (DataW Value×List MemPlace):=fun v=>some (.held v,[])
end
end Go.Proofs.YtcdpmgldkibfiaaGreat
