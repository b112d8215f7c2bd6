import Derived.Test.YtnlgkkbmbijndaaGreatEnco2
import Derived.Test.YtnlgkkbmbijndaaGreatEnco1
namespace Go.Proofs.YtnlgkkbmbijndaaGreat
open Go.RowKit Go.Proofs.Tryz
set_option linter.all false
set_option maxRecDepth 100000
set_option maxHeartbeats 16000000
theorem Ms(w:World):Calls prog 74 #[.int .i64 22] w fun e w'=>e=.returned (.tuple #[C8 (Ad 22),.bool true])/\Below w.heap.size w w':=by
 exact Dh
theorem Mt(w:World):Calls prog 74 #[.int .i64 23] w fun e w'=>e=.returned (.tuple #[C8 (Ad 23),.bool true])/\Below w.heap.size w w':=by
 exact Dh
theorem Mu(w:World):Calls prog 74 #[.int .i64 24] w fun e w'=>e=.returned (.tuple #[C8 (Ad 24),.bool true])/\Below w.heap.size w w':=by
 exact Dh
theorem Mv(w:World):Calls prog 74 #[.int .i64 25] w fun e w'=>e=.returned (.tuple #[C8 (Ad 25),.bool true])/\Below w.heap.size w w':=by
 exact Dh
theorem Mw(w:World):Calls prog 74 #[.int .i64 26] w fun e w'=>e=.returned (.tuple #[C8 (Ad 26),.bool true])/\Below w.heap.size w w':=by
 exact Dh
theorem Mx(w:World):Calls prog 74 #[.int .i64 27] w fun e w'=>e=.returned (.tuple #[C8 (Ad 27),.bool true])/\Below w.heap.size w w':=by
 exact Dh
theorem My(w:World):Calls prog 74 #[.int .i64 28] w fun e w'=>e=.returned (.tuple #[C8 (Ad 28),.bool true])/\Below w.heap.size w w':=by
 exact Dh
theorem Mz(w:World):Calls prog 74 #[.int .i64 29] w fun e w'=>e=.returned (.tuple #[C8 (Ad 29),.bool true])/\Below w.heap.size w w':=by
 exact Dh
theorem JK(w:World):Calls prog 48 #[.int .i64 30] w fun e w'=>e=.returned (.tuple #[.string ⟨#[118,45,45,45,112]⟩,.bool true])/\w'=w:=by
 exact Di
theorem JL(w:World):Calls prog 48 #[.int .i64 31] w fun e w'=>e=.returned (.tuple #[.string ⟨#[45,118,45,45,112]⟩,.bool true])/\w'=w:=by
 exact Di
theorem JM(w:World):Calls prog 48 #[.int .i64 32] w fun e w'=>e=.returned (.tuple #[.string ⟨#[97,45,45,45,115]⟩,.bool true])/\w'=w:=by
 exact Di
theorem JN(w:World):Calls prog 48 #[.int .i64 33] w fun e w'=>e=.returned (.tuple #[.string ⟨#[45,97,45,45,115]⟩,.bool true])/\w'=w:=by
 exact Di
theorem JO(w:World):Calls prog 48 #[.int .i64 34] w fun e w'=>e=.returned (.tuple #[.string ⟨#[45,119,45,45,45]⟩,.bool true])/\w'=w:=by
 exact Di
theorem JP(w:World):Calls prog 48 #[.int .i64 35] w fun e w'=>e=.returned (.tuple #[.string ⟨#[45,45,45,45,45]⟩,.bool true])/\w'=w:=by
 exact Di
theorem JQ(w:World):Calls prog 48 #[.int .i64 36] w fun e w'=>e=.returned (.tuple #[.string ⟨#[45,45,45,45,113]⟩,.bool true])/\w'=w:=by
 exact Di
theorem JR(w:World):Calls prog 48 #[.int .i64 37] w fun e w'=>e=.returned (.tuple #[.string ⟨#[45,45,45,45,45]⟩,.bool true])/\w'=w:=by
 exact Di
theorem JC(w:World):Calls prog 48 #[.int .i64 22] w fun e w'=>e=.returned (.tuple #[.string ⟨#[119,119,119,45,45]⟩,.bool true])/\w'=w:=by
 exact Di
theorem JD(w:World):Calls prog 48 #[.int .i64 23] w fun e w'=>e=.returned (.tuple #[.string ⟨#[119,119,119,45,45]⟩,.bool true])/\w'=w:=by
 exact Di
theorem JE(w:World):Calls prog 48 #[.int .i64 24] w fun e w'=>e=.returned (.tuple #[.string ⟨#[119,119,119,45,45]⟩,.bool true])/\w'=w:=by
 exact Di
theorem JF(w:World):Calls prog 48 #[.int .i64 25] w fun e w'=>e=.returned (.tuple #[.string ⟨#[119,119,45,45,45]⟩,.bool true])/\w'=w:=by
 exact Di
theorem JG(w:World):Calls prog 48 #[.int .i64 26] w fun e w'=>e=.returned (.tuple #[.string ⟨#[119,119,119,119,45]⟩,.bool true])/\w'=w:=by
 exact Di
theorem JH(w:World):Calls prog 48 #[.int .i64 27] w fun e w'=>e=.returned (.tuple #[.string ⟨#[119,119,119,45,45]⟩,.bool true])/\w'=w:=by
 exact Di
theorem JI(w:World):Calls prog 48 #[.int .i64 28] w fun e w'=>e=.returned (.tuple #[.string ⟨#[119,119,119,45,45]⟩,.bool true])/\w'=w:=by
 exact Di
theorem JJ(w:World):Calls prog 48 #[.int .i64 29] w fun e w'=>e=.returned (.tuple #[.string ⟨#[118,45,45,45,112]⟩,.bool true])/\w'=w:=by
 exact Di
end Go.Proofs.YtnlgkkbmbijndaaGreat
