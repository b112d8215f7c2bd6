import Derived.Test.YtnogokikiekcbabRefSqrt
/- The walk of the statement FloatRoots. -/
namespace Go.Proofs.Ytnogokikiekcbab
open Go.RowKit
set_option linter.unusedVariables false

theorem fabs_lo (a : Int) (h0 : 0 ≤ a) (h1 : a < 4294967296) : 0 ≤ fabs a ∧ fabs a < 4294967296 := canon_lo _ (by omega) (by omega)

end Go.Proofs.Ytnogokikiekcbab
