import Derived.Test.YtheanilpbnencaaSum10
import Derived.Test.YtheanilpbnencaaSum1
namespace Go.Proofs.Ytheanilpbnencaa
open Go.RowKit Go.Proofs.Try
set_option linter.all false
set_option maxRecDepth 100000
set_option maxHeartbeats 16000000

end Go.Proofs.Ytheanilpbnencaa
