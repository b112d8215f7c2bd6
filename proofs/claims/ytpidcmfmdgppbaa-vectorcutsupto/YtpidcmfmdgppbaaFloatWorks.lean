import Derived.Test.YtpidcmfmdgppbaaFloatRoot
import Derived.Test.YtpidcmfmdgppbaaFloatOrd
/- The head of the statements of layer 2. -/
namespace Go.Proofs.Ytpidcmfmdgppbaa
open Go.RowKit
set_option linter.unusedVariables false

end Go.Proofs.Ytpidcmfmdgppbaa
