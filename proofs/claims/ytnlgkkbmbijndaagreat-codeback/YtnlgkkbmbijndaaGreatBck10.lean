import Derived.Test.YtnlgkkbmbijndaaGreatBck2
import Derived.Test.YtnlgkkbmbijndaaGreatBck1
namespace Go.Proofs.YtnlgkkbmbijndaaGreat
open Go.RowKit Go.Proofs.Tryz
set_option linter.all false
set_option maxRecDepth 100000
set_option maxHeartbeats 16000000
theorem Mf(w:World):Calls prog 74 #[.int .i64 13] w fun e w'=>e=.returned (.tuple #[BY (Ac 13),.bool true])/\Below w.heap.size w w':=by
 exact De
theorem Mg(w:World):Calls prog 74 #[.int .i64 14] w fun e w'=>e=.returned (.tuple #[BY (Ac 14),.bool true])/\Below w.heap.size w w':=by
 exact De
theorem Mh(w:World):Calls prog 74 #[.int .i64 15] w fun e w'=>e=.returned (.tuple #[BY (Ac 15),.bool true])/\Below w.heap.size w w':=by
 exact De
theorem Mi(w:World):Calls prog 74 #[.int .i64 16] w fun e w'=>e=.returned (.tuple #[BY (Ac 16),.bool true])/\Below w.heap.size w w':=by
 exact De
theorem Mj(w:World):Calls prog 74 #[.int .i64 17] w fun e w'=>e=.returned (.tuple #[BY (Ac 17),.bool true])/\Below w.heap.size w w':=by
 exact De
theorem Mk(w:World):Calls prog 74 #[.int .i64 18] w fun e w'=>e=.returned (.tuple #[BY (Ac 18),.bool true])/\Below w.heap.size w w':=by
 exact De
theorem Ml(w:World):Calls prog 74 #[.int .i64 19] w fun e w'=>e=.returned (.tuple #[BY (Ac 19),.bool true])/\Below w.heap.size w w':=by
 exact De
theorem Mm(w:World):Calls prog 74 #[.int .i64 20] w fun e w'=>e=.returned (.tuple #[BY (Ac 20),.bool true])/\Below w.heap.size w w':=by
 exact De
theorem Mn(w:World):Calls prog 74 #[.int .i64 21] w fun e w'=>e=.returned (.tuple #[BY (Ac 21),.bool true])/\Below w.heap.size w w':=by
 exact De
end Go.Proofs.YtnlgkkbmbijndaaGreat
