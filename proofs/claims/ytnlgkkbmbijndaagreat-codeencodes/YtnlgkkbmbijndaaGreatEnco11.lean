import Derived.Test.YtnlgkkbmbijndaaGreatEnco2
import Derived.Test.YtnlgkkbmbijndaaGreatEnco1
namespace Go.Proofs.YtnlgkkbmbijndaaGreat
open Go.RowKit Go.Proofs.Tryz
set_option linter.all false
set_option maxRecDepth 100000
set_option maxHeartbeats 16000000
theorem MA(w:World):Calls prog 74 #[.int .i64 30] w fun e w'=>e=.returned (.tuple #[C8 (Ad 30),.bool true])/\Below w.heap.size w w':=by
 exact Dh
theorem MB(w:World):Calls prog 74 #[.int .i64 31] w fun e w'=>e=.returned (.tuple #[C8 (Ad 31),.bool true])/\Below w.heap.size w w':=by
 exact Dh
theorem MC(w:World):Calls prog 74 #[.int .i64 32] w fun e w'=>e=.returned (.tuple #[C8 (Ad 32),.bool true])/\Below w.heap.size w w':=by
 exact Dh
theorem MD(w:World):Calls prog 74 #[.int .i64 33] w fun e w'=>e=.returned (.tuple #[C8 (Ad 33),.bool true])/\Below w.heap.size w w':=by
 exact Dh
theorem ME(w:World):Calls prog 74 #[.int .i64 34] w fun e w'=>e=.returned (.tuple #[C8 (Ad 34),.bool true])/\Below w.heap.size w w':=by
 exact Dh
theorem MF(w:World):Calls prog 74 #[.int .i64 35] w fun e w'=>e=.returned (.tuple #[C8 (Ad 35),.bool true])/\Below w.heap.size w w':=by
 exact Dh
theorem MG(w:World):Calls prog 74 #[.int .i64 36] w fun e w'=>e=.returned (.tuple #[C8 (Ad 36),.bool true])/\Below w.heap.size w w':=by
 exact Dh
theorem MH(w:World):Calls prog 74 #[.int .i64 37] w fun e w'=>e=.returned (.tuple #[C8 (Ad 37),.bool true])/\Below w.heap.size w w':=by
 exact Dh
end Go.Proofs.YtnlgkkbmbijndaaGreat
