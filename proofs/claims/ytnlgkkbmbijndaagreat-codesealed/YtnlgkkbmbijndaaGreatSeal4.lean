import Derived.Shelf.Strings.Builder1
import Derived.Shelf.Small.Strs
import Derived.Shelf.LaysM
import Derived.Shelf.Strconv.Clone
import Derived.Shelf.Strings.Search1
import Derived.Shelf.Strings.Prefix
import Derived.Test.YtnlgkkbmbijndaaGreatProg
import Derived.Test.YtnlgkkbmbijndaaGreatSeal1
namespace Go.Proofs.YtnlgkkbmbijndaaGreat
open Go.RowKit Go.Proofs.Tryz
set_option linter.all false
set_option maxRecDepth 100000
set_option maxHeartbeats 16000000
section
open Go.Shelf Go.RowKit
def FK:Go.Shelf.Ren:=⟨fun|137=>126|217=>128|266=>130|n=>n,fun|9=>9|5=>5|3=>3|n=>n,fun|n=>n⟩
theorem IU:Go.Proofs.Lays.n137 Tryz.prog FK:={
 mixed:=kR
 f137:=Tryz.func126.trans (congrArg some kR)
 f217:=Tryz.func128.trans (congrArg some kR)
 f266:=Tryz.func130.trans (congrArg some kR)
 t3:=Tryz.underlying3
 a3:=Tryz.isAgg3
 z3:=Tryz.sizeOf3
 v3:=Tryz.zeroValue3
 t5:=Tryz.underlying5
 a5:=Tryz.isAgg5
 z5:=Tryz.sizeOf5
 v5:=Tryz.zeroValue5
 t9:=Tryz.underlying9
 a9:=Tryz.isAgg9
 z9:=Tryz.sizeOf9
 v9:=Tryz.zeroValue9}
theorem DH(s:ByteArray)(c:Int)(w:World):
 Calls Tryz.prog 126 #[.string s,.int .u8 c] w fun e w'=>e=.returned (.int .i64 (Lib.indexByte s.data.toList c.toNat.toUInt8))/\w'=w:=Any.strings_IndexByte IU s c w
def F6:Go.Shelf.Ren:=⟨fun|316=>112|n=>n,fun|9=>9|3=>3|4=>4|37=>49|0=>0|127=>186|5=>5|n=>n,fun|n=>n⟩
theorem HH:Go.Proofs.LaysM.n316 Tryz.prog F6:={
 mixed:=kR
 f316:=Tryz.func112.trans (congrArg some kR)
 t0:=Tryz.underlying0
 a0:=Tryz.isAgg0
 z0:=Tryz.sizeOf0
 v0:=Tryz.zeroValue0
 t3:=Tryz.underlying3
 a3:=Tryz.isAgg3
 z3:=Tryz.sizeOf3
 v3:=Tryz.zeroValue3
 t4:=Tryz.underlying4
 a4:=Tryz.isAgg4
 z4:=Tryz.sizeOf4
 v4:=Tryz.zeroValue4
 t9:=Tryz.underlying9
 a9:=Tryz.isAgg9
 z9:=Tryz.sizeOf9
 v9:=Tryz.zeroValue9
 t37:=Tryz.underlying49
 a37:=Tryz.isAgg49
 z37:=Tryz.sizeOf49
 v37:=Tryz.zeroValue49
 t127:=Tryz.underlying186
 a127:=Tryz.isAgg186
 z127:=Tryz.sizeOf186
 v127:=Tryz.zeroValue186
 t5:=Tryz.underlying5
 a5:=Tryz.isAgg5
 z5:=Tryz.sizeOf5
 v5:=Tryz.zeroValue5
 i0:=kR
 i3:=kR
 i4:=kR
 i5:=kR
 i9:=kR
 i37:=kR
 i127:=by kernel_rfl}
theorem DI(s:ByteArray)(w:World)(hlim:s.size<=281474976710656):
 Calls Tryz.prog 112 #[.string s] w fun e w'=>e=.returned (.string s)/\Below w.heap.size w w':=Any.stringslite_Clone HH s w hlim
end
end Go.Proofs.YtnlgkkbmbijndaaGreat
