import Derived.Test.YtnlgkkbmbijndaaGreatBck2
import Derived.Test.YtnlgkkbmbijndaaGreatBck1
namespace Go.Proofs.YtnlgkkbmbijndaaGreat
open Go.RowKit Go.Proofs.Tryz
set_option linter.all false
set_option maxRecDepth 100000
set_option maxHeartbeats 16000000
theorem Mv(w:World):Calls prog 74 #[.int .i64 30] w fun e w'=>e=.returned (.tuple #[BV (Ad 30),.bool true])/\Below w.heap.size w w':=by
 exact Dd
theorem Mw(w:World):Calls prog 74 #[.int .i64 31] w fun e w'=>e=.returned (.tuple #[BV (Ad 31),.bool true])/\Below w.heap.size w w':=by
 exact Dd
theorem Mx(w:World):Calls prog 74 #[.int .i64 32] w fun e w'=>e=.returned (.tuple #[BV (Ad 32),.bool true])/\Below w.heap.size w w':=by
 exact Dd
theorem My(w:World):Calls prog 74 #[.int .i64 33] w fun e w'=>e=.returned (.tuple #[BV (Ad 33),.bool true])/\Below w.heap.size w w':=by
 exact Dd
theorem Mz(w:World):Calls prog 74 #[.int .i64 34] w fun e w'=>e=.returned (.tuple #[BV (Ad 34),.bool true])/\Below w.heap.size w w':=by
 exact Dd
theorem MA(w:World):Calls prog 74 #[.int .i64 35] w fun e w'=>e=.returned (.tuple #[BV (Ad 35),.bool true])/\Below w.heap.size w w':=by
 exact Dd
theorem MB(w:World):Calls prog 74 #[.int .i64 36] w fun e w'=>e=.returned (.tuple #[BV (Ad 36),.bool true])/\Below w.heap.size w w':=by
 exact Dd
theorem MC(w:World):Calls prog 74 #[.int .i64 37] w fun e w'=>e=.returned (.tuple #[BV (Ad 37),.bool true])/\Below w.heap.size w w':=by
 exact Dd
end Go.Proofs.YtnlgkkbmbijndaaGreat
