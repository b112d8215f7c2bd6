import Derived.Test.YtpoklpdgpcnkgaaGreatLng18
import Derived.Test.YtpoklpdgpcnkgaaGreatLng5
import Derived.Deep.DeepCutAuto
import Derived.Test.YtpoklpdgpcnkgaaGreatLng12
import Derived.Test.YtpoklpdgpcnkgaaGreatLng9
import Derived.Test.YtpoklpdgpcnkgaaGreatLng17
import Derived.Test.YtpoklpdgpcnkgaaGreatLng7
import Derived.Test.YtpoklpdgpcnkgaaGreatLng1
namespace Go.Proofs.YtpoklpdgpcnkgaaGreat
open Go.RowKit Go.Proofs.Tryz
set_option linter.all false
set_option maxRecDepth 100000
set_option maxHeartbeats 16000000
section
variable {E : Nat} {c : Cd} {s : RW} {w w' : World} {B C SB IB MB nm rb ro q1 : Nat} {vk vo vl : Value} {tag : Nat -> Nat}
end

section
variable {E : Nat} {c : Cd} {s : RW} {V : World} {B C SB IB MB nm rb ro q1 : Nat} {vk vo vl : Value} {tag : Nat -> Nat}
end






end Go.Proofs.YtpoklpdgpcnkgaaGreat
