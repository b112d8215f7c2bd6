import Derived.Test.YtnlgkkbmbijndaaGreatEnco2
import Derived.Test.YtnlgkkbmbijndaaGreatEnco1
namespace Go.Proofs.YtnlgkkbmbijndaaGreat
open Go.RowKit Go.Proofs.Tryz
set_option linter.all false
set_option maxRecDepth 100000
set_option maxHeartbeats 16000000
theorem Mj(w:World):Calls prog 74 #[.int .i64 13] w fun e w'=>e=.returned (.tuple #[C8 (Ad 13),.bool true])/\Below w.heap.size w w':=by
 exact Dh
theorem Mk(w:World):Calls prog 74 #[.int .i64 14] w fun e w'=>e=.returned (.tuple #[C8 (Ad 14),.bool true])/\Below w.heap.size w w':=by
 exact Dh
theorem Ml(w:World):Calls prog 74 #[.int .i64 15] w fun e w'=>e=.returned (.tuple #[C8 (Ad 15),.bool true])/\Below w.heap.size w w':=by
 exact Dh
theorem Mm(w:World):Calls prog 74 #[.int .i64 16] w fun e w'=>e=.returned (.tuple #[C8 (Ad 16),.bool true])/\Below w.heap.size w w':=by
 exact Dh
theorem Mn(w:World):Calls prog 74 #[.int .i64 17] w fun e w'=>e=.returned (.tuple #[C8 (Ad 17),.bool true])/\Below w.heap.size w w':=by
 exact Dh
theorem Mo(w:World):Calls prog 74 #[.int .i64 18] w fun e w'=>e=.returned (.tuple #[C8 (Ad 18),.bool true])/\Below w.heap.size w w':=by
 exact Dh
theorem Mp(w:World):Calls prog 74 #[.int .i64 19] w fun e w'=>e=.returned (.tuple #[C8 (Ad 19),.bool true])/\Below w.heap.size w w':=by
 exact Dh
theorem Mq(w:World):Calls prog 74 #[.int .i64 20] w fun e w'=>e=.returned (.tuple #[C8 (Ad 20),.bool true])/\Below w.heap.size w w':=by
 exact Dh
theorem Mr(w:World):Calls prog 74 #[.int .i64 21] w fun e w'=>e=.returned (.tuple #[C8 (Ad 21),.bool true])/\Below w.heap.size w w':=by
 exact Dh
end Go.Proofs.YtnlgkkbmbijndaaGreat
