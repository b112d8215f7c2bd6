import Derived.Test.YtnlgkkbmbijndaaGreatBck2
import Derived.Test.YtnlgkkbmbijndaaGreatBck1
namespace Go.Proofs.YtnlgkkbmbijndaaGreat
open Go.RowKit Go.Proofs.Tryz
set_option linter.all false
set_option maxRecDepth 100000
set_option maxHeartbeats 16000000
theorem Mn(w:World):Calls prog 74 #[.int .i64 22] w fun e w'=>e=.returned (.tuple #[BV (Ad 22),.bool true])/\Below w.heap.size w w':=by
 exact Dd
theorem Mo(w:World):Calls prog 74 #[.int .i64 23] w fun e w'=>e=.returned (.tuple #[BV (Ad 23),.bool true])/\Below w.heap.size w w':=by
 exact Dd
theorem Mp(w:World):Calls prog 74 #[.int .i64 24] w fun e w'=>e=.returned (.tuple #[BV (Ad 24),.bool true])/\Below w.heap.size w w':=by
 exact Dd
theorem Mq(w:World):Calls prog 74 #[.int .i64 25] w fun e w'=>e=.returned (.tuple #[BV (Ad 25),.bool true])/\Below w.heap.size w w':=by
 exact Dd
theorem Mr(w:World):Calls prog 74 #[.int .i64 26] w fun e w'=>e=.returned (.tuple #[BV (Ad 26),.bool true])/\Below w.heap.size w w':=by
 exact Dd
theorem Ms(w:World):Calls prog 74 #[.int .i64 27] w fun e w'=>e=.returned (.tuple #[BV (Ad 27),.bool true])/\Below w.heap.size w w':=by
 exact Dd
theorem Mt(w:World):Calls prog 74 #[.int .i64 28] w fun e w'=>e=.returned (.tuple #[BV (Ad 28),.bool true])/\Below w.heap.size w w':=by
 exact Dd
theorem Mu(w:World):Calls prog 74 #[.int .i64 29] w fun e w'=>e=.returned (.tuple #[BV (Ad 29),.bool true])/\Below w.heap.size w w':=by
 exact Dd
theorem JA(w:World):Calls prog 48 #[.int .i64 30] w fun e w'=>e=.returned (.tuple #[.string ⟨#[118,45,45,45,112]⟩,.bool true])/\w'=w:=by
 exact De
theorem JB(w:World):Calls prog 48 #[.int .i64 31] w fun e w'=>e=.returned (.tuple #[.string ⟨#[45,118,45,45,112]⟩,.bool true])/\w'=w:=by
 exact De
theorem JC(w:World):Calls prog 48 #[.int .i64 32] w fun e w'=>e=.returned (.tuple #[.string ⟨#[97,45,45,45,115]⟩,.bool true])/\w'=w:=by
 exact De
theorem JD(w:World):Calls prog 48 #[.int .i64 33] w fun e w'=>e=.returned (.tuple #[.string ⟨#[45,97,45,45,115]⟩,.bool true])/\w'=w:=by
 exact De
theorem JE(w:World):Calls prog 48 #[.int .i64 34] w fun e w'=>e=.returned (.tuple #[.string ⟨#[45,119,45,45,45]⟩,.bool true])/\w'=w:=by
 exact De
theorem JF(w:World):Calls prog 48 #[.int .i64 35] w fun e w'=>e=.returned (.tuple #[.string ⟨#[45,45,45,45,45]⟩,.bool true])/\w'=w:=by
 exact De
theorem JG(w:World):Calls prog 48 #[.int .i64 36] w fun e w'=>e=.returned (.tuple #[.string ⟨#[45,45,45,45,113]⟩,.bool true])/\w'=w:=by
 exact De
theorem JH(w:World):Calls prog 48 #[.int .i64 37] w fun e w'=>e=.returned (.tuple #[.string ⟨#[45,45,45,45,45]⟩,.bool true])/\w'=w:=by
 exact De
theorem Js(w:World):Calls prog 48 #[.int .i64 22] w fun e w'=>e=.returned (.tuple #[.string ⟨#[119,119,119,45,45]⟩,.bool true])/\w'=w:=by
 exact De
theorem Jt(w:World):Calls prog 48 #[.int .i64 23] w fun e w'=>e=.returned (.tuple #[.string ⟨#[119,119,119,45,45]⟩,.bool true])/\w'=w:=by
 exact De
theorem Ju(w:World):Calls prog 48 #[.int .i64 24] w fun e w'=>e=.returned (.tuple #[.string ⟨#[119,119,119,45,45]⟩,.bool true])/\w'=w:=by
 exact De
theorem Jv(w:World):Calls prog 48 #[.int .i64 25] w fun e w'=>e=.returned (.tuple #[.string ⟨#[119,119,45,45,45]⟩,.bool true])/\w'=w:=by
 exact De
theorem Jw(w:World):Calls prog 48 #[.int .i64 26] w fun e w'=>e=.returned (.tuple #[.string ⟨#[119,119,119,119,45]⟩,.bool true])/\w'=w:=by
 exact De
theorem Jx(w:World):Calls prog 48 #[.int .i64 27] w fun e w'=>e=.returned (.tuple #[.string ⟨#[119,119,119,45,45]⟩,.bool true])/\w'=w:=by
 exact De
theorem Jy(w:World):Calls prog 48 #[.int .i64 28] w fun e w'=>e=.returned (.tuple #[.string ⟨#[119,119,119,45,45]⟩,.bool true])/\w'=w:=by
 exact De
theorem Jz(w:World):Calls prog 48 #[.int .i64 29] w fun e w'=>e=.returned (.tuple #[.string ⟨#[118,45,45,45,112]⟩,.bool true])/\w'=w:=by
 exact De
end Go.Proofs.YtnlgkkbmbijndaaGreat
