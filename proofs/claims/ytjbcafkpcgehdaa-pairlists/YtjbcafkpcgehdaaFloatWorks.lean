import Derived.Test.YtjbcafkpcgehdaaFloatRoot
import Derived.Test.YtjbcafkpcgehdaaFloatOrd
/- The head of the statements of layer 2. -/
namespace Go.Proofs.Ytjbcafkpcgehdaa
open Go.RowKit
set_option linter.unusedVariables false

end Go.Proofs.Ytjbcafkpcgehdaa
