import Derived.Test.YtnbccaicijcklaaGreatMns2
import Derived.Maps.OwnSet
import Derived.Maps.OwnOps
import Derived.Maps.Ext
import Derived.Test.YtnbccaicijcklaaGreatMns1
namespace Go.Proofs.YtnbccaicijcklaaGreat
open Go.RowKit Go.Proofs.Tryz
set_option linter.all false
set_option maxRecDepth 100000
set_option maxHeartbeats 16000000
section
open Go.Maps (Keyed)
end
end Go.Proofs.YtnbccaicijcklaaGreat
