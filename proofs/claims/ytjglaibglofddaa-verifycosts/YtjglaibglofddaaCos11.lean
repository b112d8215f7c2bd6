import Derived.Test.YtjglaibglofddaaCos9
import Derived.Test.YtjglaibglofddaaCos1
namespace Go.Proofs.Ytjglaibglofddaa
open Go.RowKit Go.Proofs.Try
set_option linter.all false
set_option maxRecDepth 100000
set_option maxHeartbeats 16000000
theorem EJ(a:Int)(h0:0<=a)(h1:a<4294967296)(w:World):
 Calls prog 70 #[.int .i64 a] w fun e w'=>e=.returned (.int .i64 (Bw a))/\Below w.heap.size w w':=by
 have hf:=GH;unfold Bw;rw[<-Hs a h0 h1];cases hna:DW a
 .rw[if_neg dE];exact Mp
 .rw[if_pos rfl];exact Mp
end Go.Proofs.Ytjglaibglofddaa
