import Ieee.Arith
import Derived.Laws.FloatBits
import Derived.Test.YtheanilpbnencaaSum1
namespace Go.Proofs.Ytheanilpbnencaa
open Go.RowKit Go.Proofs.Try
set_option linter.all false
set_option maxRecDepth 100000
set_option maxHeartbeats 16000000
def V(p k:Nat):Nat:=if k<2^p then k else(2^p+k%2^p)*2^(k/2^p-1)
def GZ(p:Nat)(L:Int)(mag:Nat)(place:Int):Nat:=
 if mag=0 then 0 else
 (max (place+mag.log2-p) L-L).toNat*2^p+Ieee.Toward.even.cut false (mag<<<(place-max (place+mag.log2-p) L).toNat) (max (place+mag.log2-p) L-place).toNat
def ng(a:Nat):Bool:=a/2147483648%2==1
def rg(a:Nat):Nat:=a%2147483648
def mv(a:Nat):Nat:=V 23 (rg a)
def sg(s:Bool)(m:Nat):Int:=if s then -(m:Int)else m
def sv(a:Nat):Int:=sg (ng a) (mv a)
def R(n:Nat):Nat:=GZ 23 (-149) n (-149)
end Go.Proofs.Ytheanilpbnencaa
