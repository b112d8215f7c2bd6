import Derived.Test.YtnogokikiekcbabRefAdd3
/- The walks of the statements FloatAdds and FloatMuls. -/
namespace Go.Proofs.Ytnogokikiekcbab
open Go.RowKit
set_option linter.unusedVariables false

end Go.Proofs.Ytnogokikiekcbab
