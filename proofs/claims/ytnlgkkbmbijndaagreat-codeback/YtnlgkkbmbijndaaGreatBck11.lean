import Derived.Test.YtnlgkkbmbijndaaGreatBck2
import Derived.Test.YtnlgkkbmbijndaaGreatBck1
namespace Go.Proofs.YtnlgkkbmbijndaaGreat
open Go.RowKit Go.Proofs.Tryz
set_option linter.all false
set_option maxRecDepth 100000
set_option maxHeartbeats 16000000
theorem Mw(w:World):Calls prog 74 #[.int .i64 30] w fun e w'=>e=.returned (.tuple #[BY (Ac 30),.bool true])/\Below w.heap.size w w':=by
 exact De
theorem Mx(w:World):Calls prog 74 #[.int .i64 31] w fun e w'=>e=.returned (.tuple #[BY (Ac 31),.bool true])/\Below w.heap.size w w':=by
 exact De
theorem My(w:World):Calls prog 74 #[.int .i64 32] w fun e w'=>e=.returned (.tuple #[BY (Ac 32),.bool true])/\Below w.heap.size w w':=by
 exact De
theorem Mz(w:World):Calls prog 74 #[.int .i64 33] w fun e w'=>e=.returned (.tuple #[BY (Ac 33),.bool true])/\Below w.heap.size w w':=by
 exact De
theorem MA(w:World):Calls prog 74 #[.int .i64 34] w fun e w'=>e=.returned (.tuple #[BY (Ac 34),.bool true])/\Below w.heap.size w w':=by
 exact De
theorem MB(w:World):Calls prog 74 #[.int .i64 35] w fun e w'=>e=.returned (.tuple #[BY (Ac 35),.bool true])/\Below w.heap.size w w':=by
 exact De
theorem MC(w:World):Calls prog 74 #[.int .i64 36] w fun e w'=>e=.returned (.tuple #[BY (Ac 36),.bool true])/\Below w.heap.size w w':=by
 exact De
theorem MD(w:World):Calls prog 74 #[.int .i64 37] w fun e w'=>e=.returned (.tuple #[BY (Ac 37),.bool true])/\Below w.heap.size w w':=by
 exact De
end Go.Proofs.YtnlgkkbmbijndaaGreat
