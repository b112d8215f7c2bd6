import Derived.Test.YtnogokikiekcbaaRefAdd3
/- The walks of the statements FloatAdds and FloatMuls. -/
namespace Go.Proofs.Ytnogokikiekcbaa
open Go.RowKit
set_option linter.unusedVariables false

end Go.Proofs.Ytnogokikiekcbaa
