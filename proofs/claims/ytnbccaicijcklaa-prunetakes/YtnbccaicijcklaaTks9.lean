import Derived.Test.YtnbccaicijcklaaTks2
import Derived.Test.YtnbccaicijcklaaTks1
namespace Go.Proofs.Ytnbccaicijcklaa
open Go.RowKit Go.Proofs.Try
set_option linter.all false
set_option maxRecDepth 100000
set_option maxHeartbeats 16000000
theorem N5(w:World):Calls prog 41 #[.int .i64 22] w fun e w'=>e=.returned (.tuple #[Cg (A4 22),.bool true])/\Below w.heap.size w w':=by
 exact Dq
theorem N6(w:World):Calls prog 41 #[.int .i64 23] w fun e w'=>e=.returned (.tuple #[Cg (A4 23),.bool true])/\Below w.heap.size w w':=by
 exact Dq
theorem N7(w:World):Calls prog 41 #[.int .i64 24] w fun e w'=>e=.returned (.tuple #[Cg (A4 24),.bool true])/\Below w.heap.size w w':=by
 exact Dq
theorem N8(w:World):Calls prog 41 #[.int .i64 25] w fun e w'=>e=.returned (.tuple #[Cg (A4 25),.bool true])/\Below w.heap.size w w':=by
 exact Dq
theorem N9(w:World):Calls prog 41 #[.int .i64 26] w fun e w'=>e=.returned (.tuple #[Cg (A4 26),.bool true])/\Below w.heap.size w w':=by
 exact Dq
theorem Na(w:World):Calls prog 41 #[.int .i64 27] w fun e w'=>e=.returned (.tuple #[Cg (A4 27),.bool true])/\Below w.heap.size w w':=by
 exact Dq
theorem Nb(w:World):Calls prog 41 #[.int .i64 28] w fun e w'=>e=.returned (.tuple #[Cg (A4 28),.bool true])/\Below w.heap.size w w':=by
 exact Dq
theorem Nc(w:World):Calls prog 41 #[.int .i64 29] w fun e w'=>e=.returned (.tuple #[Cg (A4 29),.bool true])/\Below w.heap.size w w':=by
 exact Dq
theorem Kq(w:World):Calls prog 37 #[.int .i64 30] w fun e w'=>e=.returned (.tuple #[.string ⟨#[118,45,45,45,112]⟩,.bool true])/\w'=w:=by
 exact Dr
theorem Kr(w:World):Calls prog 37 #[.int .i64 31] w fun e w'=>e=.returned (.tuple #[.string ⟨#[45,118,45,45,112]⟩,.bool true])/\w'=w:=by
 exact Dr
theorem Ks(w:World):Calls prog 37 #[.int .i64 32] w fun e w'=>e=.returned (.tuple #[.string ⟨#[97,45,45,45,115]⟩,.bool true])/\w'=w:=by
 exact Dr
theorem Kt(w:World):Calls prog 37 #[.int .i64 33] w fun e w'=>e=.returned (.tuple #[.string ⟨#[45,97,45,45,115]⟩,.bool true])/\w'=w:=by
 exact Dr
theorem Ku(w:World):Calls prog 37 #[.int .i64 34] w fun e w'=>e=.returned (.tuple #[.string ⟨#[45,119,45,45,45]⟩,.bool true])/\w'=w:=by
 exact Dr
theorem Kv(w:World):Calls prog 37 #[.int .i64 35] w fun e w'=>e=.returned (.tuple #[.string ⟨#[45,45,45,45,45]⟩,.bool true])/\w'=w:=by
 exact Dr
theorem Kw(w:World):Calls prog 37 #[.int .i64 36] w fun e w'=>e=.returned (.tuple #[.string ⟨#[45,45,45,45,113]⟩,.bool true])/\w'=w:=by
 exact Dr
theorem Kx(w:World):Calls prog 37 #[.int .i64 37] w fun e w'=>e=.returned (.tuple #[.string ⟨#[45,45,45,45,45]⟩,.bool true])/\w'=w:=by
 exact Dr
theorem Ns(w:World):Calls prog 37 #[.int .i64 1] w fun e w'=>e=.returned (.tuple #[.string ⟨#[110,45,45,45,45]⟩,.bool true])/\w'=w:=by
 exact Dr
theorem Nt(w:World):Calls prog 37 #[.int .i64 2] w fun e w'=>e=.returned (.tuple #[.string ⟨#[119,45,45,45,105]⟩,.bool true])/\w'=w:=by
 exact Dr
theorem Nu(w:World):Calls prog 37 #[.int .i64 3] w fun e w'=>e=.returned (.tuple #[.string ⟨#[97,99,45,45,45]⟩,.bool true])/\w'=w:=by
 exact Dr
theorem Nv(w:World):Calls prog 37 #[.int .i64 4] w fun e w'=>e=.returned (.tuple #[.string ⟨#[100,120,120,45,45]⟩,.bool true])/\w'=w:=by
 exact Dr
theorem Nw(w:World):Calls prog 37 #[.int .i64 5] w fun e w'=>e=.returned (.tuple #[.string ⟨#[100,120,120,45,45]⟩,.bool true])/\w'=w:=by
 exact Dr
theorem Nx(w:World):Calls prog 37 #[.int .i64 6] w fun e w'=>e=.returned (.tuple #[.string ⟨#[100,120,120,45,45]⟩,.bool true])/\w'=w:=by
 exact Dr
theorem Ny(w:World):Calls prog 37 #[.int .i64 7] w fun e w'=>e=.returned (.tuple #[.string ⟨#[100,120,120,45,45]⟩,.bool true])/\w'=w:=by
 exact Dr
theorem Nz(w:World):Calls prog 37 #[.int .i64 8] w fun e w'=>e=.returned (.tuple #[.string ⟨#[100,120,120,45,45]⟩,.bool true])/\w'=w:=by
 exact Dr
theorem NA(w:World):Calls prog 37 #[.int .i64 9] w fun e w'=>e=.returned (.tuple #[.string ⟨#[100,120,120,45,45]⟩,.bool true])/\w'=w:=by
 exact Dr
theorem JZ(w:World):Calls prog 37 #[.int .i64 10] w fun e w'=>e=.returned (.tuple #[.string ⟨#[100,120,120,45,45]⟩,.bool true])/\w'=w:=by
 exact Dr
theorem K6(w:World):Calls prog 37 #[.int .i64 11] w fun e w'=>e=.returned (.tuple #[.string ⟨#[100,120,45,45,45]⟩,.bool true])/\w'=w:=by
 exact Dr
theorem K7(w:World):Calls prog 37 #[.int .i64 12] w fun e w'=>e=.returned (.tuple #[.string ⟨#[100,120,45,45,45]⟩,.bool true])/\w'=w:=by
 exact Dr
end Go.Proofs.Ytnbccaicijcklaa
