import Derived.Test.YtpoklpdgpcnkgaaGreatFrm18
import Derived.Test.YtpoklpdgpcnkgaaGreatFrm5
import Derived.Deep.DeepCutAuto
import Derived.Test.YtpoklpdgpcnkgaaGreatFrm12
import Derived.Test.YtpoklpdgpcnkgaaGreatFrm9
import Derived.Test.YtpoklpdgpcnkgaaGreatFrm17
import Derived.Test.YtpoklpdgpcnkgaaGreatFrm7
import Derived.Test.YtpoklpdgpcnkgaaGreatFrm14
import Derived.Test.YtpoklpdgpcnkgaaGreatFrm1
namespace Go.Proofs.YtpoklpdgpcnkgaaGreat
open Go.RowKit Go.Proofs.Tryz
set_option linter.all false
set_option maxRecDepth 100000
set_option maxHeartbeats 16000000
section
variable {E : Nat} {c : Cd} {s : RW} {w w' : World} {B C SB IB MB nm rb ro q1 : Nat} {vk vo vl : Value} {tag : Nat -> Nat}
end

section
variable {E : Nat} {c : Cd} {s : RW} {V : World} {B C SB IB MB nm rb ro q1 : Nat} {vk vo vl : Value} {tag : Nat -> Nat}
end






theorem Fo{α:Type}(k:Nat)(f:α->List Value)(w:World):AM k f w (.slice none 0 0) []:=⟨none,0,rfl,.inl rfl⟩
end Go.Proofs.YtpoklpdgpcnkgaaGreat
