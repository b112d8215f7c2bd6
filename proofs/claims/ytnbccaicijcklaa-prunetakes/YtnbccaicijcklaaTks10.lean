import Derived.Test.YtnbccaicijcklaaTks2
import Derived.Test.YtnbccaicijcklaaTks1
namespace Go.Proofs.Ytnbccaicijcklaa
open Go.RowKit Go.Proofs.Try
set_option linter.all false
set_option maxRecDepth 100000
set_option maxHeartbeats 16000000
theorem Nf(w:World):Calls prog 41 #[.int .i64 30] w fun e w'=>e=.returned (.tuple #[Cg (A4 30),.bool true])/\Below w.heap.size w w':=by
 exact Dq
theorem Ng(w:World):Calls prog 41 #[.int .i64 31] w fun e w'=>e=.returned (.tuple #[Cg (A4 31),.bool true])/\Below w.heap.size w w':=by
 exact Dq
theorem Nh(w:World):Calls prog 41 #[.int .i64 32] w fun e w'=>e=.returned (.tuple #[Cg (A4 32),.bool true])/\Below w.heap.size w w':=by
 exact Dq
theorem Ni(w:World):Calls prog 41 #[.int .i64 33] w fun e w'=>e=.returned (.tuple #[Cg (A4 33),.bool true])/\Below w.heap.size w w':=by
 exact Dq
theorem Nj(w:World):Calls prog 41 #[.int .i64 34] w fun e w'=>e=.returned (.tuple #[Cg (A4 34),.bool true])/\Below w.heap.size w w':=by
 exact Dq
theorem Nk(w:World):Calls prog 41 #[.int .i64 35] w fun e w'=>e=.returned (.tuple #[Cg (A4 35),.bool true])/\Below w.heap.size w w':=by
 exact Dq
theorem Nl(w:World):Calls prog 41 #[.int .i64 36] w fun e w'=>e=.returned (.tuple #[Cg (A4 36),.bool true])/\Below w.heap.size w w':=by
 exact Dq
theorem Nm(w:World):Calls prog 41 #[.int .i64 37] w fun e w'=>e=.returned (.tuple #[Cg (A4 37),.bool true])/\Below w.heap.size w w':=by
 exact Dq
end Go.Proofs.Ytnbccaicijcklaa
