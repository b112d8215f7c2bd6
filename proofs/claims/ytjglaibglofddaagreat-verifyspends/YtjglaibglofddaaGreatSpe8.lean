import Derived.Test.YtjglaibglofddaaGreatSpe3
import Derived.Test.YtjglaibglofddaaGreatSpe2
import Derived.Laws.FloatArith
import Derived.Maps.OwnSet
import Derived.Maps.OwnOps
import Derived.Maps.Ext
import Derived.Test.YtjglaibglofddaaGreatSpe1
namespace Go.Proofs.YtjglaibglofddaaGreat
open Go.RowKit Go.Proofs.Tryz
set_option linter.all false
set_option maxRecDepth 100000
set_option maxHeartbeats 16000000
def Ny:Option Nat->Int
 |some r=>r
 |none=>2143289344
def CJ(a b:Int):Int:=Ny (Ieee.single.add a.toNat b.toNat)
def Ki(a b:Int):Int:=Ny (Ieee.single.sub a.toNat b.toNat)
def Ek(a b:Int):Int:=Ny (Ieee.single.mul a.toNat b.toNat)
def F9(a b:Int):Int:=Ny (Ieee.single.div a.toNat b.toNat)
def CB(a:Int):Int:=Ny (Ieee.single.sqrt a.toNat)
def Ff(n:Int):Int:=(Ieee.single.nearest (decide (n<0)) n.natAbs 0:Nat)
def Hh(a:Int):Int:=A9 (if 2147483648<=a then a-2147483648 else a+2147483648)
def Tj(a:Int):Int:=A9 (a%2147483648)
def U6(a b:Int):Option Ordering:=Ieee.single.order a.toNat b.toNat
def GL(a b:Int):Int:=match U6 a b with
 |none=>2143289344
 |some .lt=>a
 |some .gt=>b
 |some .eq=>if 2147483648<=a then a else b
def Hg(a b:Int):Int:=match U6 a b with
 |none=>2143289344
 |some .lt=>b
 |some .gt=>a
 |some .eq=>if 2147483648<=a then b else a
def Hf(a b:Int):Bool:=U6 a b==some .lt
def Zl(a b:Int):Bool:=U6 a b==some .eq
def Wr(a:Int):Bool:=decide (a%2147483648<2139095040)
def Ji(c a b:Int):Int:=if nan c||c%2147483648==0 then A9 b else A9 a
theorem UW(s:Bool)(r:Nat):rg (wd s r)=min r 2139095040:=by
 unfold rg wd;split<;>omega
theorem PM(d:Ieee.Datum)(h:d.isNaN=false):rg (Ieee.single.write d)<=2139095040:=by
 cases d with
 |number s m e=>show rg (Ieee.single.nearest s m e)<=_;rw[B9,GZ,UW];omega
 |infinity s=>show rg (wd s 2139095040)<=_;rw[UW];omega
 |nan s t=>simp[Ieee.Datum.isNaN]at h
theorem Oe{d e f:Ieee.Datum}(h:d.sum e=some f):f.isNaN=false:=by
 cases d<;>cases e<;>simp[Ieee.Datum.sum]at h<;>first|(subst h;rfl)|(obtain⟨_,rfl⟩:=h;rfl)
theorem QT{d e f:Ieee.Datum}(h:d.product e=some f):f.isNaN=false:=by
 cases d<;>cases e<;>simp[Ieee.Datum.product]at h<;>first|(subst h;rfl)|(obtain⟨_,rfl⟩:=h;rfl)
theorem QU{k:Nat}{d e f:Ieee.Datum}(h:d.quotient k e=some f):f.isNaN=false:=by
 cases d<;>cases e<;>simp[Ieee.Datum.quotient]at h
 .split at h
  .split at h
   .cases h
   .cases h;rfl
  .cases h;rfl
 .subst h;rfl
 .subst h;rfl
theorem R3{k:Nat}{d f:Ieee.Datum}(h:d.root k=some f):f.isNaN=false:=by
 cases d<;>simp[Ieee.Datum.root]at h
 .split at h
  .cases h;rfl
  .split at h
   .cases h
   .simp only[Option.some.injEq]at h;subst h;rfl
 .obtain⟨-,rfl⟩:=h;rfl
theorem FF{o:Option Ieee.Datum}{r:Nat}(h:o.map Ieee.single.write=some r)(k:∀f,o=some f->f.isNaN=false):rg r<=2139095040/\r<4294967296:=by
 have lt:=Ieee.single.map_write_lt h;cases o with
 |none=>simp at h
 |some d=>simp only[Option.map_some,Option.some.injEq]at h;subst h;exact⟨PM d (k d rfl),lt⟩
theorem N7{x y r:Nat}(h:Ieee.single.add x y=some r):rg r<=2139095040/\r<4294967296:=FF h fun _ q=>Oe q
theorem Oa{x y r:Nat}(h:Ieee.single.sub x y=some r):rg r<=2139095040/\r<4294967296:=FF h fun _ q=>Oe q
theorem Ns{x y r:Nat}(h:Ieee.single.mul x y=some r):rg r<=2139095040/\r<4294967296:=FF h fun _ q=>QT q
theorem Nd{x y r:Nat}(h:Ieee.single.div x y=some r):rg r<=2139095040/\r<4294967296:=FF h fun _ q=>QU q
theorem Li{x r:Nat}(h:Ieee.single.sqrt x=some r):rg r<=2139095040/\r<4294967296:=FF h fun _ q=>R3 q
theorem TL(r:Nat):nan (r:Int)=decide (2139095040<rg r):=by unfold nan rg;rw[decide_eq_decide];omega
theorem Iw{r:Nat}(h:rg r<=2139095040):A9 (r:Int)=r:=by
 unfold A9;rw[TL];simp;omega
section
variable {P : Program} (w : World)
end
theorem Ht(o:Option Nat)(h:∀r,o=some r->r<4294967296):0<=Ny o/\Ny o<4294967296:=by
 cases o with
 |none=>decide
 |some r=>have:=h r rfl;show 0<=(r:Int)/\(r:Int)<_;omega
theorem Ng(a b:Int):0<=CJ a b/\CJ a b<4294967296:=Ht _ fun _ h=>(N7 h).2
theorem Tp(a b:Int):0<=Ki a b/\Ki a b<4294967296:=Ht _ fun _ h=>(Oa h).2
theorem DR(a b:Int):0<=Ek a b/\Ek a b<4294967296:=Ht _ fun _ h=>(Ns h).2
theorem Tl(a b:Int):0<=F9 a b/\F9 a b<4294967296:=Ht _ fun _ h=>(Nd h).2
theorem Qs(a:Int):0<=CB a/\CB a<4294967296:=Ht _ fun _ h=>(Li h).2
theorem Dj(a b:Int):compare a b=if a<b then .lt else if a=b then .eq else .gt:=rfl
theorem LU{a b:Int}(h:a<b):compare a b=.lt:=by rw[Dj,if_pos h]
theorem LR{a b:Int}(h:a=b):compare a b=.eq:=by rw[Dj,if_neg oM,if_pos h]
theorem LS{a b:Int}(h:b<a):compare a b=.gt:=by rw[Dj,if_neg oM,if_neg oM]
theorem Ov(a b p:Int)(hp:0<p):compare (a*p) (b*p)=compare a b:=by
 rw[Dj,Dj];have h1:a*p<b*p↔a<b:=Int.mul_lt_mul_right hp;have h2:a*p=b*p↔a=b:=⟨fun h=>Int.eq_of_mul_eq_mul_right oM h,fun h=>by rw[h]⟩
 simp only[h1,h2]
theorem Jn{x:Nat}(h:rg x=2139095040):mv x=V 23 2139095040:=by unfold mv;rw[h]
theorem Vp{x:Nat}(h:rg x<2139095040):mv x<V 23 2139095040:=G6 23 h
theorem Sm{x:Nat}(h:rg x<2139095040): -(V 23 2139095040:Int)<sv x/\sv x<(V 23 2139095040:Int):=by
 have:=Vp h;unfold sv sg;split<;>omega
theorem QO(x y:Nat):Ieee.single.order x y=if 2139095040<rg x\/2139095040<rg y then none else some (compare (sv x) (sv y)):=by
 unfold Ieee.Format.order;have hV:0<V 23 2139095040:=by have:=G6 23 (show 0<2139095040 by decide);omega
 rcases Nat.lt_trichotomy (rg x) 2139095040 with c|c|c
 .rcases Nat.lt_trichotomy (rg y) 2139095040 with d|d|d
  .rw[BB x c,BB y d,if_neg oM];simp only[Ieee.Datum.order];have hm:min (-149+(te x:Int)) (-149+(te y:Int))= -149+((min (te x) (te y):Nat):Int):=oM;rw[hm];have e1:(-149+(te x:Int)-(-149+((min (te x) (te y):Nat):Int))).toNat=te x-min (te x) (te y):=oM;have e2:(-149+(te y:Int)-(-149+((min (te x) (te y):Nat):Int))).toNat=te y-min (te x) (te y):=oM;rw[e1,e2];generalize hc:min (te x) (te y)=m;have s1:Ieee.signed (ng x) (mg x) (te x-m)*(2:Int)^m=sv x:=by
    rw[I8,show te x-m+m=te x by omega,<-Gy];rfl
   have s2:Ieee.signed (ng y) (mg y) (te y-m)*(2:Int)^m=sv y:=by
    rw[I8,show te y-m+m=te y by omega,<-Gy];rfl
   rw[<-s1,<-s2,Ov _ _ _ (Int.pow_pos dE)]
  .rw[BB x c,Dd y d,if_neg oM];simp only[Ieee.Datum.order];have h:=Sm c;have e:sv y=sg (ng y) (V 23 2139095040):=by unfold sv;rw[Jn d]
   rw[e,Dj];cases ng y
   .rw[if_neg dE,if_pos VZ]
   .rw[if_pos rfl,if_neg VZ,if_neg VZ]
  .rw[De y d,BB x c,if_pos (Or.inr d)];rfl
 .rcases Nat.lt_trichotomy (rg y) 2139095040 with d|d|d
  .rw[Dd x c,BB y d,if_neg oM];simp only[Ieee.Datum.order];have h:=Sm d;have e:sv x=sg (ng x) (V 23 2139095040):=by unfold sv;rw[Jn c]
   rw[e,Dj];cases ng x
   .rw[if_neg dE,if_neg VZ,if_neg VZ]
   .rw[if_pos rfl,if_pos VZ]
  .rw[Dd x c,Dd y d,if_neg oM];simp only[Ieee.Datum.order];have e1:sv x=sg (ng x) (V 23 2139095040):=by unfold sv;rw[Jn c]
   have e2:sv y=sg (ng y) (V 23 2139095040):=by unfold sv;rw[Jn d]
   rw[e1,e2,Dj];cases ng x<;>cases ng y
   .rw[if_neg oM,if_pos rfl];rfl
   .rw[if_neg XO,if_neg XO];rfl
   .rw[if_pos XO];rfl
   .rw[if_neg oM,if_pos rfl];rfl
  .rw[De y d,Dd x c,if_pos (Or.inr d)];rfl
 .rw[De x c,if_pos (Or.inl c)];cases Ieee.single.read y<;>rfl
theorem BC(a:Int)(h0:0<=a):(rg a.toNat:Int)=a%2147483648:=by unfold rg;omega
theorem Hq(a:Int)(h0:0<=a):nan a=decide (2139095040<rg a.toNat):=by
 unfold nan;rw[decide_eq_decide];have:=BC a h0;omega
theorem Hv(a b:Int)(h0:0<=a)(g0:0<=b):U6 a b=if nan a=true\/nan b=true then none else some (compare (sv a.toNat) (sv b.toNat)):=by
 unfold U6;rw[QO,Hq a h0,Hq b g0];simp only[decide_eq_true_eq]
theorem OF(a b:Int)(h0:0<=a)(g0:0<=b):Hf a b=true↔nan a=false/\nan b=false/\sv a.toNat<sv b.toNat:=by
 unfold Hf;rw[Hv a b h0 g0];by_cases hn:nan a=true\/nan b=true
 .rw[if_pos hn];simp;intro k1 k2;simp[k1,k2]at hn
 .rw[if_neg hn];have hn':nan a=false/\nan b=false:=by simpa using hn
  rcases Int.lt_trichotomy (sv a.toNat) (sv b.toNat)with c|c|c
  .rw[LU c];simp[hn',c]
  .rw[LR c];simp;omega
  .rw[LS c];simp;omega
theorem VO{x y:Nat}(h:sv x=sv y):rg x=rg y/\(ng x=ng y\/rg x=0):=by
 have hz:∀z,mv z=0->rg z=0:=by
  intro z hz;unfold mv at hz;rw[<-J8 23]at hz;exact PX 23 hz
 have BD:mv x=mv y/\(ng x=ng y\/mv x=0):=by
  unfold sv sg at h;cases hx:ng x<;>cases hy:ng y<;>rw[hx,hy]at h<;>simp only[if_true,if_false,Bool.false_eq_true]at h
  .exact⟨oM,Or.inl rfl⟩
  .exact⟨oM,Or.inr oM⟩
  .exact⟨oM,Or.inr oM⟩
  .exact⟨oM,Or.inl rfl⟩
 refine⟨PX 23 BD.1,?_⟩;rcases BD.2 with e|e
 .exact Or.inl e
 .exact Or.inr (hz x e)
theorem Dt(a:Int)(h0:0<=a)(h1:a<4294967296):a=(if ng a.toNat then 2147483648 else 0)+(rg a.toNat:Int):=by
 unfold ng rg;by_cases c:2147483648<=a
 .have:a.toNat/2147483648%2=1:=oM;simp[this];omega
 .have:a.toNat/2147483648%2=0:=oM;simp[this];omega
theorem Ub{a b:Int}(h0:0<=a)(h1:a<4294967296)(g0:0<=b)(g1:b<4294967296)(hr:rg a.toNat=rg b.toNat)(hs:ng a.toNat=ng b.toNat):a=b:=by
 rw[Dt a h0 h1,Dt b g0 g1,hr,hs]
theorem Mn(a:Int)(h0:0<=a)(h1:a<4294967296):ng a.toNat=decide (2147483648<=a):=by
 unfold ng;by_cases c:2147483648<=a<;>simp[c]<;>omega
theorem Sk(d e:Ieee.Datum):d.sum e=e.sum d:=by
 cases d<;>cases e<;>simp only[Ieee.Datum.sum]
 .rename_i s m i t n j;rw[Int.min_comm j i,Int.add_comm (Ieee.signed t n _),Bool.and_comm]
 .rename_i s t;by_cases h:s=t
  .rw[if_pos h,if_pos h.symm,h]
  .rw[if_neg h,if_neg (fun k=>h k.symm)]
theorem IA(a b:Int):CJ a b=CJ b a:=by unfold CJ Ieee.Format.add;rw[Sk]
def Jh(a:Nat):Nat:=if 2147483648<=a then a-2147483648 else a+2147483648
theorem NC(a:Nat)(h:a<4294967296):rg (Jh a)=rg a:=by unfold rg Jh;split<;>omega
theorem TN(a:Nat)(h:a<4294967296):ng (Jh a)= !ng a:=by
 unfold ng Jh;split
 .rename_i c;have e1:a/2147483648%2=1:=oM;have e2:(a-2147483648)/2147483648%2=0:=oM;simp[e1,e2]
 .rename_i c;have e1:a/2147483648%2=0:=oM;have e2:(a+2147483648)/2147483648%2=1:=oM;rw[e1,e2];rfl
theorem P4(a:Nat)(h:a<4294967296):Ieee.single.read (Jh a)=(Ieee.single.read a).opposite:=by
 rw[CG,CG,NC a h,TN a h];split
 .rfl
 .split
  .rfl
  .split<;>rfl
theorem Kh(a:Int)(h0:0<=a)(h1:a<4294967296)(hn:nan a=false):Hh a=(Jh a.toNat:Nat):=by
 unfold Hh Jh;have e:(if 2147483648<=a then a-2147483648 else a+2147483648)=((if 2147483648<=a.toNat then a.toNat-2147483648 else a.toNat+2147483648:Nat):Int):=by
  by_cases c:2147483648<=a
  .rw[if_pos c,if_pos oM];omega
  .rw[if_neg c,if_neg oM];omega
 rw[e];apply Iw;have:=NC a.toNat oM;unfold Jh at this;rw[this];rw[Hq a h0]at hn;simpa using hn
theorem Kg(a:Int)(h0:0<=a)(h1:a<4294967296)(hn:nan a=true):Hh a=2143289344:=by
 unfold Hh A9;rw[Jp]at hn;have:nan (if 2147483648<=a then a-2147483648 else a+2147483648)=true:=by
  rw[Jp];split<;>omega
 rw[if_pos this]
theorem Nj(a:Int)(h0:0<=a)(h1:a<4294967296):0<=Hh a/\Hh a<4294967296:=by
 have h:0<=(if 2147483648<=a then a-2147483648 else a+2147483648)/\(if 2147483648<=a then a-2147483648 else a+2147483648)<4294967296:=by split<;>omega
 exact DD _ h.1 h.2
def S1:Wk->List Am->Wk
 |s,[]=>s
 |s,i::r=>S1 (Al s i) r
def Ca(c:Cd):Wk->List Am->Bool
 |_,[]=>true
 |s,i::r=>AF c s i&&Ca c (Al s i) r
theorem Qt{c:Cd}:∀ {l:List Am} {s:Wk} {k:Nat},(In c s k l).1=0↔Ca c s l=true/\(S1 s l).opens.isEmpty=true
 |[],s,k=>by
  simp only[In,Ca,S1,true_and];by_cases h:s.opens.isEmpty=true
  .simp[h]
  .simp[h]
 |i::l,s,k=>by
  simp only[In,Ca,S1,Bool.and_eq_true];by_cases h:AF c s i=true
  .rw[if_pos h,Qt (k:=k+1)];simp[h]
  .rw[if_neg h];simp[h]
theorem BF{c:Cd}:(Ag c).1=0↔BJ c=0/\Ca c ⟨[],[]⟩ c.list=true/\(S1 ⟨[],[]⟩ c.list).opens.isEmpty=true:=by
 unfold Ag;by_cases h:BJ c=0
 .rw[if_neg (by simp[h]),Qt];simp[h]
 .rw[if_pos h];simp[h]
def GM(S:List Nat)(i:Am):List Nat:=if(A5 i.op).d≠0/\i.d.toNat∉S then S++[i.d.toNat]else S
theorem Mp:∀ {r:List Bk} {n:Nat},Vv n r->∀b∈r,b.ahead<=n
 |[],_,_,b,hb=>absurd hb sM
 |a::r,n,h,b,hb=>by
  rcases List.mem_cons.1 hb with rfl|hb
  .exact h.1
  .exact gH (Mp h.2 b hb) h.1
theorem Iu{s:Wk}{i:Am}(h:(A5 i.op).d=0):F7 s i (A5 i.op)=s:=by unfold F7;rw[if_neg (fun e=>e.1 h)]
theorem Nl{S:List Nat}{i:Am}{x:Nat}:x∈GM S i↔x∈S\/((A5 i.op).d≠0/\x=i.d.toNat):=by
 unfold GM;by_cases h:(A5 i.op).d≠0/\i.d.toNat∉S
 .rw[if_pos h,List.mem_append];simp only[List.mem_singleton];exact⟨fun q=>q.imp id fun e=>⟨h.1,e⟩,fun q=>q.imp id fun e=>e.2⟩
 .rw[if_neg h];constructor
  .exact .inl
  .rintro(q|⟨q1,q2⟩)
   .exact q
   .rw[q2];exact Decidable.byContradiction fun e=>h ⟨q1,e⟩
section
open Go.Maps (Keyed)
end
def DM(ps:List Bd)(t:Ty):Int:=if t.kind≠3 then 1 else if Ab t.par ps.length=true then((ps[t.par.toNat]?).map fun p=>p.len).getD 0 else 0
def CI(c:Cd)(i:Am):Int:=
 if i.op=16 then 62
 else if As i.op=true\/i.op=29\/i.op=30\/i.op=32 then DM c.sign (A7 c.regs i.d)
 else if i.op=31\/i.op=33\/i.op=19\/i.op=20 then DM c.sign (A7 c.regs i.a)
 else 1
def Bw(c:Cd):List Am->Int
 |[]=>0
 |i::l=>CI c i+Bw c l
def Ed(c:Cd):Int:=Bw c c.list
def EM(c:Cd):Int:=(c.regs.map fun t=>DM c.sign t).sum+(c.slots.map fun s=>DM c.sign s.ty).sum
theorem Iy(c:Cd):∀l m:List Am,Bw c (l++m)=Bw c l+Bw c m
 |[],m=>by simp[Bw]
 |i::l,m=>by simp only[List.cons_append,Bw,Iy c l m];omega
theorem AR{n:Int}{k:Nat}:Ab n k=true↔0<=n/\n<(k:Int):=by unfold Ab;simp
theorem Sb{ps:List Bd}(h:Ay ps=0):∀p∈ps,B5 p=true:=by
 unfold Ay at h;split at h
 .exact absurd h dE
 .split at h
  .exact absurd h dE
  .rename_i h2;intro p hp;have h3:ps.all B5=true:=by simpa using h2
   exact List.all_eq_true.1 h3 p hp
theorem TJ{p:Bd}(h:B5 p=true):1<=p.len/\p.len<=4096:=by
 unfold B5 at h;simp only[Bool.and_eq_true,decide_eq_true_eq]at h;exact h.2
theorem JL{ps:List Bd}{t:Ty}(hs:Ay ps=0)(ht:Ak t ps.length=true):1<=DM ps t/\DM ps t<=4096:=by
 unfold DM;by_cases h3:t.kind=3
 .rw[if_neg (by simp[h3])];unfold Ak at ht;rw[if_neg oM,if_pos h3]at ht;rw[if_pos ht];obtain⟨h0,h1⟩:=AR.1 ht;have hl:t.par.toNat<ps.length:=oM;rw[gB hl];exact TJ (Sb hs _ (gD hl))
 .rw[if_pos h3];omega
theorem Kv{c:Cd}{n:Int}(ht:Ad c=true)(hn:Ab n c.regs.length=true):Ak (A7 c.regs n) c.sign.length=true:=by
 obtain⟨h0,h1⟩:=AR.1 hn;have hl:n.toNat<c.regs.length:=oM;unfold A7;rw[if_pos hn,gB hl];exact List.all_eq_true.1 ht _ (gD hl)
theorem Jg{rs:List Ty}{l n:Int}{m:Ty}(h:A8 rs l n m=true)(hl:l≠0):Ab n rs.length=true:=by
 unfold A8 at h;rw[if_neg hl]at h;simp only[Bool.and_eq_true]at h;exact h.1
theorem RC:∀n:Nat,n<38->(As (n:Int)=true\/(n:Int)=29\/(n:Int)=30\/(n:Int)=32)->(A5 (n:Int)).d≠0:=by decide+kernel
theorem Rz:∀n:Nat,n<38->((n:Int)=31\/(n:Int)=33\/(n:Int)=19\/(n:Int)=20)->(A5 (n:Int)).a≠0:=by decide+kernel
structure Tk(c:Cd)(s:Wk)(i:Am):Prop where
 known:1<=i.op/\i.op<=37
 d:A8 c.regs (A5 i.op).d i.d (Ap c.regs i (A5 i.op))=true
 a:A8 c.regs (A5 i.op).a i.a (Ap c.regs i (A5 i.op))=true
 b:A8 c.regs (A5 i.op).b i.b (Ap c.regs i (A5 i.op))=true
 e:A8 c.regs (A5 i.op).c i.c (Ap c.regs i (A5 i.op))=true
 n:AV c i (A5 i.op).n (Ap c.regs i (A5 i.op))=true
 stand:Au c s i (A5 i.op)=true
 read:EK s i (A5 i.op)=true
theorem Sn{c:Cd}{s:Wk}{i:Am}:AF c s i=true↔Tk c s i:=by
 unfold AF B0 An;simp only[Bool.and_eq_true,decide_eq_true_eq];exact⟨fun⟨k,⟨d,a,b,e,n⟩,st,r⟩=>⟨k,d,a,b,e,n,st,r⟩,fun h=>⟨h.known,⟨h.d,h.a,h.b,h.e,h.n⟩,h.stand,h.read⟩⟩
theorem VU{c:Cd}{s:Wk}{i:Am}(hs:Ay c.sign=0)(ht:Ad c=true)(h:Tk c s i):1<=CI c i/\CI c i<=4096:=by
 obtain⟨N,hN⟩:∃N:Nat,i.op=(N:Int):=⟨i.op.toNat,by have:=h.known;omega⟩
 have hN2:N<38:=by have:=h.known;omega
 unfold CI;by_cases h1:i.op=16
 .rw[if_pos h1];omega
 .rw[if_neg h1];by_cases h2:As i.op=true\/i.op=29\/i.op=30\/i.op=32
  .rw[if_pos h2];refine JL hs (Kv ht (Jg h.d ?_));rw[hN]at h2 |-;exact RC N hN2 h2
  .rw[if_neg h2];by_cases h3:i.op=31\/i.op=33\/i.op=19\/i.op=20
   .rw[if_pos h3];refine JL hs (Kv ht (Jg h.a ?_));rw[hN]at h3 |-;exact Rz N hN2 h3
   .rw[if_neg h3];omega
theorem J3{c:Cd}(hs:Ay c.sign=0)(ht:Ad c=true):∀ (l:List Am) (s:Wk),Ca c s l=true->∀i∈l,1<=CI c i/\CI c i<=4096
 |[],s,_,i,hi=>by cases hi
 |j::l,s,h,i,hi=>by
  simp only[Ca,Bool.and_eq_true]at h;rcases List.mem_cons.1 hi with e|e
  .rw[e];exact VU hs ht (Sn.1 h.1)
  .exact J3 hs ht l _ h.2 i e
structure Ah(c:Cd):Prop where
 sign:Ay c.sign=0
 regs:c.regs.length<=16384
 list:c.list.length<=32768
 slots:c.slots.length<=4096
 types:Ad c=true
 begun:AW c=true
theorem Fm{c:Cd}:BJ c=0↔Ah c:=by
 unfold BJ;by_cases h0:Ay c.sign=0
 .rw[if_neg (by simp[h0])];by_cases h1:16384<c.regs.length\/32768<c.list.length
  .rw[if_pos h1];exact⟨fun h=>absurd h dE,fun h=>by have:=h.regs;have:=h.list;omega⟩
  .rw[if_neg h1];by_cases h2:4096<c.slots.length
   .rw[if_pos h2];exact⟨fun h=>absurd h dE,fun h=>by have:=h.slots;omega⟩
   .rw[if_neg h2];by_cases h3:(Ad c&&AW c)=true
    .rw[if_pos h3];simp only[Bool.and_eq_true]at h3;exact⟨fun _=>⟨h0,oM,oM,oM,h3.1,h3.2⟩,fun _=>rfl⟩
    .rw[if_neg h3];exact⟨fun h=>absurd h dE,fun h=>absurd (by rw[h.types,h.begun];rfl) h3⟩
 .rw[if_pos h0];exact⟨fun h=>absurd h h0,fun h=>absurd h.sign h0⟩
theorem DK{c:Cd}(hc:(Ag c).1=0):∀i∈c.list,1<=CI c i/\CI c i<=4096:=by
 obtain⟨h1,h2,h3⟩:=BF.1 hc;have hA:=Fm.1 h1;exact J3 hA.sign hA.types c.list _ h2
theorem Ha{c:Cd}:∀ (l:List Am),(∀i∈l,1<=CI c i/\CI c i<=4096)->(l.length:Int)<=Bw c l/\Bw c l<=4096*(l.length:Int)
 |[],_=>by simp[Bw]
 |i::l,h=>by
  have h1:=h i sM;have h2:=Ha l (fun j hj=>h j (List.mem_cons_of_mem _ hj));simp only[Bw,List.length_cons];omega
structure Rk where
 by_:Am
 of_:Ty
 deriving DecidableEq
structure RW where
 ins:Nat->Nat
 hold:Rk->Option Nat
 reck:List Rk
 opn:List Nat
 left:List Am
end Go.Proofs.YtjglaibglofddaaGreat
