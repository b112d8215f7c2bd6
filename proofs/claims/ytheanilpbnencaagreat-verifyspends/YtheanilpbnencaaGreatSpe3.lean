import Derived.Shelf.Strings.Builder1
import Derived.Shelf.Small.Strs
import Derived.Shelf.LaysM
import Derived.Shelf.Strconv.Clone
import Derived.Shelf.Strings.Search1
import Derived.Shelf.Strings.Prefix
import Derived.Test.YtheanilpbnencaaGreatProg
import Derived.Test.YtheanilpbnencaaGreatSpe1
namespace Go.Proofs.YtheanilpbnencaaGreat
open Go.RowKit Go.Proofs.Tryz
set_option linter.all false
set_option maxRecDepth 100000
set_option maxHeartbeats 16000000
section
open Go.Shelf Go.RowKit
def I6:Go.Shelf.Ren:=⟨fun|137=>122|217=>124|266=>126|n=>n,fun|9=>9|5=>5|3=>3|n=>n,fun|n=>n⟩
theorem MP:Go.Proofs.Lays.n137 Tryz.prog I6:={
 mixed:=kR
 f137:=Tryz.func122.trans (congrArg some kR)
 f217:=Tryz.func124.trans (congrArg some kR)
 f266:=Tryz.func126.trans (congrArg some kR)
 t3:=Tryz.underlying3
 a3:=Tryz.isAgg3
 z3:=Tryz.sizeOf3
 v3:=Tryz.zeroValue3
 t5:=Tryz.underlying5
 a5:=Tryz.isAgg5
 z5:=Tryz.sizeOf5
 v5:=Tryz.zeroValue5
 t9:=Tryz.underlying9
 a9:=Tryz.isAgg9
 z9:=Tryz.sizeOf9
 v9:=Tryz.zeroValue9}
theorem EN(s:ByteArray)(c:Int)(w:World):
 Calls Tryz.prog 122 #[.string s,.int .u8 c] w fun e w'=>e=.returned (.int .i64 (Lib.indexByte s.data.toList c.toNat.toUInt8))/\w'=w:=Any.strings_IndexByte MP s c w
end
end Go.Proofs.YtheanilpbnencaaGreat
