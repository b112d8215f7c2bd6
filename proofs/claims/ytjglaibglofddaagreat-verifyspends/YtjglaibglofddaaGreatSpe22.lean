import Derived.Test.YtjglaibglofddaaGreatSpe8
import Derived.Test.YtjglaibglofddaaGreatSpe20
import Derived.Test.YtjglaibglofddaaGreatSpe1
namespace Go.Proofs.YtjglaibglofddaaGreat
open Go.RowKit Go.Proofs.Tryz
set_option linter.all false
set_option maxRecDepth 100000
set_option maxHeartbeats 16000000
section
variable {c : Cd} {G P : List (List Int)} {f f' : Fr} {i i' : Am}
end
end Go.Proofs.YtjglaibglofddaaGreat
