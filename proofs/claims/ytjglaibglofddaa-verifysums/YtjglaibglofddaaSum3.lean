import Derived.Test.YtjglaibglofddaaSum1
import Ieee.Arith
import Derived.Laws.FloatBits
import Derived.Below
namespace Go.Proofs.Ytjglaibglofddaa
open Go.RowKit Go.Proofs.Try
set_option linter.all false
set_option maxRecDepth 100000
set_option maxHeartbeats 16000000
theorem CC(s:ByteArray):(s.toList==[])=(s.size==0):=by
 rw[Bool.eq_iff_iff];simp only[beq_iff_eq];constructor
 .intro h;rw[ByteArray.toList_eq]at h;show s.data.size=0;rw[<-Array.length_toList,h];rfl
 .intro h;rw[ByteArray.toList_eq];exact List.eq_nil_of_length_eq_zero (by rw[Array.length_toList];exact h)
theorem BR(s:ByteArray):s.toList.isEmpty=(s.size==0):=by
 rw[<-CC,Bool.eq_iff_iff];simp
theorem EQ{s:ByteArray}{j:Nat}(h:j<s.size)(hq:ET (s[j].toNat:Int)=false):AI s=false:=by
 unfold AI;have:((bs s).all fun b=>ET (nb b))=false:=by
  rw[List.all_eq_false];exact⟨s[j],by unfold bs;exact Array.mem_toList_iff.2 (Array.getElem_mem (xs:=s.data) h),by simp[nb,hq]⟩
 rw[this,Bool.and_false]
theorem Ec{s:ByteArray}(h0:s.size≠0)(h1:s.size<=64)(h:∀j (h:j<s.size),ET (s[j].toNat:Int)=true):AI s=true:=by
 unfold AI;have:((bs s).all fun b=>ET (nb b))=true:=by
  rw[List.all_eq_true];intro b hb;obtain⟨j,hj,rfl⟩:=List.mem_iff_getElem.1 hb;exact h j (by rw[<-EF];exact hj)
 rw[this];simp[h0,h1]
theorem Fe(p:AF):AZ p=((AI p.name&&(p.kind==1||p.kind==2))&&(decide (1<=p.len)&&decide (p.len<=4096))):=rfl

theorem E9:(prog.info? 63).map (fun i=>(i.zero,i.size,i.bytes))=some (some (.agg #[.string ⟨#[]⟩,.int .i64 0,.int .i64 0]),3,32):=kR



def V(p k:Nat):Nat:=if k<2^p then k else(2^p+k%2^p)*2^(k/2^p-1)
def GZ(p:Nat)(L:Int)(mag:Nat)(place:Int):Nat:=
 if mag=0 then 0 else
 (max (place+mag.log2-p) L-L).toNat*2^p+Ieee.Toward.even.cut false (mag<<<(place-max (place+mag.log2-p) L).toNat) (max (place+mag.log2-p) L-place).toNat
def ng(a:Nat):Bool:=a/2147483648%2==1
def rg(a:Nat):Nat:=a%2147483648
def mv(a:Nat):Nat:=V 23 (rg a)
def sg(s:Bool)(m:Nat):Int:=if s then -(m:Int)else m
def sv(a:Nat):Int:=sg (ng a) (mv a)
def R(n:Nat):Nat:=GZ 23 (-149) n (-149)

end Go.Proofs.Ytjglaibglofddaa
