import Derived.Test.YtnogokikiekcbaaFloatRoot
import Derived.Test.YtnogokikiekcbaaFloatOrd
/- The head of the statements of layer 2. -/
namespace Go.Proofs.Ytnogokikiekcbaa
open Go.RowKit
set_option linter.unusedVariables false

end Go.Proofs.Ytnogokikiekcbaa
