import Derived.Test.YtheanilpbnencaaSum9
import Derived.Test.YtheanilpbnencaaSum7
import Derived.Test.YtheanilpbnencaaSum1
namespace Go.Proofs.Ytheanilpbnencaa
open Go.RowKit Go.Proofs.Try
set_option linter.all false
set_option maxRecDepth 100000
set_option maxHeartbeats 16000000


def Gz(b:Int):Prop:=b=45\/b=110\/b=119\/b=118\/b=100\/b=120\/b=99\/b=97
instance (b:Int):Decidable (Gz b):=by unfold Gz;infer_instance

end Go.Proofs.Ytheanilpbnencaa
