import Derived.Test.YtjglaibglofddaaGreatSpe21
import Derived.Test.YtjglaibglofddaaGreatSpe26
import Derived.Deep.DeepCutAuto
import Derived.Test.YtjglaibglofddaaGreatSpe1
namespace Go.Proofs.YtjglaibglofddaaGreat
open Go.RowKit Go.Proofs.Tryz
set_option linter.all false
set_option maxRecDepth 100000
set_option maxHeartbeats 16000000


end Go.Proofs.YtjglaibglofddaaGreat
