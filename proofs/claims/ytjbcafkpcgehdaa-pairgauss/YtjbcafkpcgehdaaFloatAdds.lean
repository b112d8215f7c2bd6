import Derived.Test.YtjbcafkpcgehdaaRefAdd3
/- The walks of the statements FloatAdds and FloatMuls. -/
namespace Go.Proofs.Ytjbcafkpcgehdaa
open Go.RowKit
set_option linter.unusedVariables false

end Go.Proofs.Ytjbcafkpcgehdaa
