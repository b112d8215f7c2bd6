import Derived.Shelf.Strings.Builder1
import Derived.Shelf.Small.Strs
import Derived.Shelf.LaysM
import Derived.Shelf.Strconv.Clone
import Derived.Shelf.Strings.Search1
import Derived.Shelf.Strings.Prefix
import Derived.Test.YtheanilpbnencaaProg
import Derived.Test.YtheanilpbnencaaGre1
namespace Go.Proofs.Ytheanilpbnencaa
open Go.RowKit Go.Proofs.Try
set_option linter.all false
set_option maxRecDepth 100000
set_option maxHeartbeats 16000000
section
open Go.Shelf Go.RowKit
def Dt:Go.Shelf.Ren:=⟨fun|137=>85|217=>87|266=>89|n=>n,fun|9=>9|5=>5|3=>3|n=>n,fun|n=>n⟩
theorem Fs:Go.Proofs.Lays.n137 Try.prog Dt:={
 mixed:=kR
 f137:=Try.func85.trans (congrArg some kR)
 f217:=Try.func87.trans (congrArg some kR)
 f266:=Try.func89.trans (congrArg some kR)
 t3:=Try.underlying3
 a3:=Try.isAgg3
 z3:=Try.sizeOf3
 v3:=Try.zeroValue3
 t5:=Try.underlying5
 a5:=Try.isAgg5
 z5:=Try.sizeOf5
 v5:=Try.zeroValue5
 t9:=Try.underlying9
 a9:=Try.isAgg9
 z9:=Try.sizeOf9
 v9:=Try.zeroValue9}
theorem Cf(s:ByteArray)(c:Int)(w:World):
 Calls Try.prog 85 #[.string s,.int .u8 c] w fun e w'=>e=.returned (.int .i64 (Lib.indexByte s.data.toList c.toNat.toUInt8))/\w'=w:=Any.strings_IndexByte Fs s c w
end
end Go.Proofs.Ytheanilpbnencaa
