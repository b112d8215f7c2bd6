import Derived.Test.YtpoklpdgpcnkgaaGreatLng9
import Derived.Test.YtpoklpdgpcnkgaaGreatLng17
import Derived.Test.YtpoklpdgpcnkgaaGreatLng1
namespace Go.Proofs.YtpoklpdgpcnkgaaGreat
open Go.RowKit Go.Proofs.Tryz
set_option linter.all false
set_option maxRecDepth 100000
set_option maxHeartbeats 16000000
section
open Go.ChangeShapes Go.WideShapes Go.ChangeAt Go.RowKit
structure St where
 gv:Value
 pv:Value
 G:List (List Int)
 P:List (List Int)
def stC(s:St):List Value:=[s.gv,s.pv]
structure VL where
 v:Value
 l:List Int
instance:Inhabited St:=⟨⟨.slice none 0 0,.slice none 0 0,[],[]⟩⟩
instance:Inhabited VL:=⟨⟨.slice none 0 0,[]⟩⟩
section
variable {H : Type} {enc : TypeId × Value -> H} {w : World} {base : Nat} {held : Bool}
end
end
end Go.Proofs.YtpoklpdgpcnkgaaGreat
