import Derived.Test.YtnlgkkbmbijndaaGreatBck2
import Derived.Test.YtnlgkkbmbijndaaGreatBck1
namespace Go.Proofs.YtnlgkkbmbijndaaGreat
open Go.RowKit Go.Proofs.Tryz
set_option linter.all false
set_option maxRecDepth 100000
set_option maxHeartbeats 16000000
theorem Me(w:World):Calls prog 74 #[.int .i64 13] w fun e w'=>e=.returned (.tuple #[BV (Ad 13),.bool true])/\Below w.heap.size w w':=by
 exact Dd
theorem Mf(w:World):Calls prog 74 #[.int .i64 14] w fun e w'=>e=.returned (.tuple #[BV (Ad 14),.bool true])/\Below w.heap.size w w':=by
 exact Dd
theorem Mg(w:World):Calls prog 74 #[.int .i64 15] w fun e w'=>e=.returned (.tuple #[BV (Ad 15),.bool true])/\Below w.heap.size w w':=by
 exact Dd
theorem Mh(w:World):Calls prog 74 #[.int .i64 16] w fun e w'=>e=.returned (.tuple #[BV (Ad 16),.bool true])/\Below w.heap.size w w':=by
 exact Dd
theorem Mi(w:World):Calls prog 74 #[.int .i64 17] w fun e w'=>e=.returned (.tuple #[BV (Ad 17),.bool true])/\Below w.heap.size w w':=by
 exact Dd
theorem Mj(w:World):Calls prog 74 #[.int .i64 18] w fun e w'=>e=.returned (.tuple #[BV (Ad 18),.bool true])/\Below w.heap.size w w':=by
 exact Dd
theorem Mk(w:World):Calls prog 74 #[.int .i64 19] w fun e w'=>e=.returned (.tuple #[BV (Ad 19),.bool true])/\Below w.heap.size w w':=by
 exact Dd
theorem Ml(w:World):Calls prog 74 #[.int .i64 20] w fun e w'=>e=.returned (.tuple #[BV (Ad 20),.bool true])/\Below w.heap.size w w':=by
 exact Dd
theorem Mm(w:World):Calls prog 74 #[.int .i64 21] w fun e w'=>e=.returned (.tuple #[BV (Ad 21),.bool true])/\Below w.heap.size w w':=by
 exact Dd
end Go.Proofs.YtnlgkkbmbijndaaGreat
