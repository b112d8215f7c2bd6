import Derived.Test.YtjglaibglofddaaGre9
import Derived.Test.YtjglaibglofddaaGre1
namespace Go.Proofs.Ytjglaibglofddaa
open Go.RowKit Go.Proofs.Try
set_option linter.all false
set_option maxRecDepth 100000
set_option maxHeartbeats 16000000
theorem Ew(a:Int)(h0:0<=a)(h1:a<4294967296)(w:World):
 Calls prog 70 #[.int .i64 a] w fun e w'=>e=.returned (.int .i64 (Bw a))/\Below w.heap.size w w':=by
 have hf:=Gj;unfold Bw;rw[<-H3 a h0 h1];cases hna:DG a
 .rw[if_neg dE];exact LJ
 .rw[if_pos rfl];exact LJ
end Go.Proofs.Ytjglaibglofddaa
