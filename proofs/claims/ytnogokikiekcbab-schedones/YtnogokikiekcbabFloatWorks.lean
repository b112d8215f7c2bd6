import Derived.Test.YtnogokikiekcbabFloatRoot
import Derived.Test.YtnogokikiekcbabFloatOrd
/- The head of the statements of layer 2. -/
namespace Go.Proofs.Ytnogokikiekcbab
open Go.RowKit
set_option linter.unusedVariables false

end Go.Proofs.Ytnogokikiekcbab
