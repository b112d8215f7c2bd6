import Derived.Test.YtjglaibglofddaaSum9
import Derived.Test.YtjglaibglofddaaSum1
namespace Go.Proofs.Ytjglaibglofddaa
open Go.RowKit Go.Proofs.Try
set_option linter.all false
set_option maxRecDepth 100000
set_option maxHeartbeats 16000000

end Go.Proofs.Ytjglaibglofddaa
