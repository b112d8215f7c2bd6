import Derived.Test.YtpoklpdgpcnkgaaGreatLps18
import Derived.Test.YtpoklpdgpcnkgaaGreatLps5
import Derived.Deep.DeepCutAuto
import Derived.Test.YtpoklpdgpcnkgaaGreatLps12
import Derived.Test.YtpoklpdgpcnkgaaGreatLps9
import Derived.Test.YtpoklpdgpcnkgaaGreatLps17
import Derived.Test.YtpoklpdgpcnkgaaGreatLps7
import Derived.Test.YtpoklpdgpcnkgaaGreatLps1
namespace Go.Proofs.YtpoklpdgpcnkgaaGreat
open Go.RowKit Go.Proofs.Tryz
set_option linter.all false
set_option maxRecDepth 100000
set_option maxHeartbeats 16000000
section
variable {E : Nat} {c : Cd} {s : RW} {w w' : World} {B C SB IB MB nm rb ro q1 : Nat} {vk vo vl : Value} {tag : Nat -> Nat}
end

section
variable {E : Nat} {c : Cd} {s : RW} {V : World} {B C SB IB MB nm rb ro q1 : Nat} {vk vo vl : Value} {tag : Nat -> Nat}
end






end Go.Proofs.YtpoklpdgpcnkgaaGreat
