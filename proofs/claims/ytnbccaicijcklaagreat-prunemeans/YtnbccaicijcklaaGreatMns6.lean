import Derived.Test.YtnbccaicijcklaaGreatMns4
import Derived.Test.YtnbccaicijcklaaGreatMns2
import Derived.Laws.FloatArith
import Derived.Laws.Externs
import Derived.Below
import Derived.Handy
import Derived.Deep.Draws
import Derived.Laws.ComplexArith
import Derived.Deep.RegionHeld3
import Derived.Deep.DeepCutAuto
import Derived.Deep.OwnRows
import Derived.OwnWalk
import Derived.Deep.QuietTactic
import Derived.BigQuiet
import Derived.Deep.AppendLies
import Derived.Maps.AppendAt
import Derived.Laws.AppendOwnNone
import Derived.Shelf.Abstract
import Derived.Laws.EntriesVeiled
import Derived.Test.YtnbccaicijcklaaGreatMns1
namespace Go.Proofs.YtnbccaicijcklaaGreat
open Go.RowKit Go.Proofs.Tryz
set_option linter.all false
set_option maxRecDepth 100000
set_option maxHeartbeats 16000000
def Ry:Option Nat->Int
 |some r=>r
 |none=>2143289344
def DQ(a b:Int):Int:=Ry (Ieee.single.add a.toNat b.toNat)
def NP(a b:Int):Int:=Ry (Ieee.single.sub a.toNat b.toNat)
def FJ(a b:Int):Int:=Ry (Ieee.single.mul a.toNat b.toNat)
def GA(a b:Int):Int:=Ry (Ieee.single.div a.toNat b.toNat)
def DA(a:Int):Int:=Ry (Ieee.single.sqrt a.toNat)
def GG(n:Int):Int:=(Ieee.single.nearest (decide (n<0)) n.natAbs 0:Nat)
def JI(a:Int):Int:=An (if 2147483648<=a then a-2147483648 else a+2147483648)
def YR(a:Int):Int:=An (a%2147483648)
def ZE(a b:Int):Option Ordering:=Ieee.single.order a.toNat b.toNat
def Jc(a b:Int):Int:=match ZE a b with
 |none=>2143289344
 |some .lt=>a
 |some .gt=>b
 |some .eq=>if 2147483648<=a then a else b
def JH(a b:Int):Int:=match ZE a b with
 |none=>2143289344
 |some .lt=>b
 |some .gt=>a
 |some .eq=>if 2147483648<=a then b else a
def JG(a b:Int):Bool:=ZE a b==some .lt
def feq(a b:Int):Bool:=ZE a b==some .eq
def ffin(a:Int):Bool:=decide (a%2147483648<2139095040)
def My(c a b:Int):Int:=if nan c||c%2147483648==0 then An b else An a
theorem rg_wd(s:Bool)(r:Nat):rg (wd s r)=min r 2139095040:=by
 unfold rg wd;split<;>omega
theorem Uz(d:Ieee.Datum)(h:d.isNaN=false):rg (Ieee.single.write d)<=2139095040:=by
 cases d with
 |number s m e=>show rg (Ieee.single.nearest s m e)<=_;rw[BN,Js,rg_wd];omega
 |infinity s=>show rg (wd s 2139095040)<=_;rw[rg_wd];omega
 |nan s t=>simp[Ieee.Datum.isNaN]at h
theorem Sp{d e f:Ieee.Datum}(h:d.sum e=some f):f.isNaN=false:=by
 cases d<;>cases e<;>simp[Ieee.Datum.sum]at h<;>first|(subst h;rfl)|(obtain⟨_,rfl⟩:=h;rfl)
theorem Wm{d e f:Ieee.Datum}(h:d.product e=some f):f.isNaN=false:=by
 cases d<;>cases e<;>simp[Ieee.Datum.product]at h<;>first|(subst h;rfl)|(obtain⟨_,rfl⟩:=h;rfl)
theorem Wp{k:Nat}{d e f:Ieee.Datum}(h:d.quotient k e=some f):f.isNaN=false:=by
 cases d<;>cases e<;>simp[Ieee.Datum.quotient]at h
 .split at h
  .split at h
   .cases h
   .cases h;rfl
  .cases h;rfl
 .subst h;rfl
 .subst h;rfl
theorem WA{k:Nat}{d f:Ieee.Datum}(h:d.root k=some f):f.isNaN=false:=by
 cases d<;>simp[Ieee.Datum.root]at h
 .split at h
  .cases h;rfl
  .split at h
   .cases h
   .simp only[Option.some.injEq]at h;subst h;rfl
 .obtain⟨-,rfl⟩:=h;rfl
theorem Hg{o:Option Ieee.Datum}{r:Nat}(h:o.map Ieee.single.write=some r)(k:∀f,o=some f->f.isNaN=false):rg r<=2139095040/\r<4294967296:=by
 have lt:=Ieee.single.map_write_lt h;cases o with
 |none=>simp at h
 |some d=>simp only[Option.map_some,Option.some.injEq]at h;subst h;exact⟨Uz d (k d rfl),lt⟩
theorem QP{x y r:Nat}(h:Ieee.single.add x y=some r):rg r<=2139095040/\r<4294967296:=Hg h fun _ q=>Sp q
theorem So{x y r:Nat}(h:Ieee.single.sub x y=some r):rg r<=2139095040/\r<4294967296:=Hg h fun _ q=>Sp q
theorem Rp{x y r:Nat}(h:Ieee.single.mul x y=some r):rg r<=2139095040/\r<4294967296:=Hg h fun _ q=>Wm q
theorem QY{x y r:Nat}(h:Ieee.single.div x y=some r):rg r<=2139095040/\r<4294967296:=Hg h fun _ q=>Wp q
theorem OM{x r:Nat}(h:Ieee.single.sqrt x=some r):rg r<=2139095040/\r<4294967296:=Hg h fun _ q=>WA q
theorem Zo(r:Nat):nan (r:Int)=decide (2139095040<rg r):=by unfold nan rg;rw[decide_eq_decide];omega
theorem Lo{r:Nat}(h:rg r<=2139095040):An (r:Int)=r:=by
 unfold An;rw[Zo];simp;omega
section
variable {P : Program} (w : World)
end
theorem Ka(o:Option Nat)(h:∀r,o=some r->r<4294967296):0<=Ry o/\Ry o<4294967296:=by
 cases o with
 |none=>decide
 |some r=>have:=h r rfl;show 0<=(r:Int)/\(r:Int)<_;omega
theorem R1(a b:Int):0<=DQ a b/\DQ a b<4294967296:=Ka _ fun _ h=>(QP h).2
theorem YW(a b:Int):0<=NP a b/\NP a b<4294967296:=Ka _ fun _ h=>(So h).2
theorem Fc(a b:Int):0<=FJ a b/\FJ a b<4294967296:=Ka _ fun _ h=>(Rp h).2
theorem YS(a b:Int):0<=GA a b/\GA a b<4294967296:=Ka _ fun _ h=>(QY h).2
theorem Vn(a:Int):0<=DA a/\DA a<4294967296:=Ka _ fun _ h=>(OM h).2
theorem IW(n:Nat)(h:n<2^31):n^^^2^31=2^31+n:=by
 apply Nat.eq_of_testBit_eq;intro i;rw[Nat.testBit_xor,Nat.testBit_two_pow];rcases Nat.lt_trichotomy i 31 with c|c|c
 .rw[Nat.testBit_two_pow_add_gt c,decide_eq_false (show¬ (31=i) by omega),Bool.xor_false]
 .subst c;rw[Nat.testBit_two_pow_add_eq];simp
 .have e1:n.testBit i=false:=Nat.testBit_lt_two_pow (Nat.lt_of_lt_of_le h (Nat.pow_le_pow_right dE oM));have e2:(2^31+n).testBit i=false:=Nat.testBit_lt_two_pow (Nat.lt_of_lt_of_le (show 2^31+n<2^32 by omega) (Nat.pow_le_pow_right dE oM));rw[e1,e2,decide_eq_false (show¬ (31=i) by omega),Bool.xor_false]
theorem Y7(a:Int)(h0:0<=a)(h1:a<4294967296):bits .xor .u32 a 2147483648=if 2147483648<=a then a-2147483648 else a+2147483648:=by
 rw[u32_xor a _ h0 h1 dE dE,show(2147483648:Int).toNat=2^31 from rfl];by_cases c:2147483648<=a
 .rw[if_pos c];have e:=IW (a.toNat-2^31) oM;rw[show 2^31+(a.toNat-2^31)=a.toNat by omega]at e;rw[<-e,Nat.xor_assoc,Nat.xor_self,Nat.xor_zero];omega
 .rw[if_neg c,IW _ oM];omega
theorem Ve(n:Int):0<=GG n/\GG n<4294967296:=⟨Int.natCast_nonneg _,by have:=Ieee.single.write_lt (.number (decide (n<0)) n.natAbs 0);exact Int.ofNat_lt.2 this⟩
section
variable {P : Program} (w : World)
end
theorem Oq(a:Nat)(ha:rg a<2139095040)(hs:ng a=false)(h0:mg a≠0):
 ∃r,Ieee.single.sqrt a=some (wd false r)/\IP 23 (mv a*2^149) r:=by
 unfold Ieee.Format.sqrt;rw[Ct a ha,hs];simp only[Ieee.Datum.root,if_neg h0,Bool.false_eq_true,if_false,Option.map_some,Ieee.Format.write];rw[BN,Dt,C4];have hl:(mg a).log2<=23:=by
  have:(mg a).log2<24:=(Nat.log2_lt h0).2 (VF a);omega
 generalize hi:(-149+(te a:Int))=i;generalize hm1:2*(23+2)-(mg a).log2=more1;generalize hmore:more1+((i-(more1:Int))%2).toNat=more;have hpar:(i-(more:Int))%2=0:=oM;have hmo:27<=more/\more<=51:=oM;generalize hn:mg a<<<more=n at *;have hlo:2^(mg a).log2<=mg a:=Nat.log2_self_le h0;have hn50:2^50<=n:=by
  rw[<-hn,Nat.shiftLeft_eq]
  calc 2^50<=2^((mg a).log2+more):=Nat.pow_le_pow_right dE oM
   _=2^(mg a).log2*2^more:=Nat.pow_add ..
   _<=mg a*2^more:=Nat.mul_le_mul_right _ hlo
 have hrt:=Ix n (n.log2/2+1) 0 oM (by
  have:n<2^(n.log2+1):=Nat.lt_log2_self;rw[Nat.zero_add,<-Nat.pow_add]
  exact Nat.lt_of_lt_of_le this (Nat.pow_le_pow_right dE oM))
 generalize Ieee.Datum.rootFrom n (n.log2/2+1) 0=w at *;have hw:2^24<=w:=by
  rcases Nat.lt_or_ge w (2^24)with c|c
  .exfalso;have:=Nat.mul_self_le_mul_self (show w+1<=2^24 from c);have e:(2:Nat)^24*2^24<2^50:=dE;omega
  .exact c
 have big:23+2<=(2*w+(w*w != n).toNat).log2:=by
  apply(Nat.le_log2 oM).2;omega
 refine⟨_,rfl,?_⟩;obtain⟨x,hx⟩:∃x:Nat,(x:Int)=(i-(more:Int))/2+149:=⟨((i-(more:Int))/2+149).toNat,oM⟩
 have hnr:=LL 23 (-149) w n ((i-(more:Int))/2-1) dE hrt.1 hrt.2 big x oM;have e:n*(2^x*2^x)=mv a*2^149:=by
  rw[IV,<-hn,Nat.shiftLeft_eq,<-Nat.pow_add,Nat.mul_assoc,Nat.mul_assoc,<-Nat.pow_add,<-Nat.pow_add];congr 2;omega
 rw[e]at hnr;exact hnr
section
variable {P : Program} (w : World)
end
theorem Et(a b:Int):compare a b=if a<b then .lt else if a=b then .eq else .gt:=rfl
theorem Pm{a b:Int}(h:a<b):compare a b=.lt:=by rw[Et,if_pos h]
theorem Pk{a b:Int}(h:a=b):compare a b=.eq:=by rw[Et,if_neg oM,if_pos h]
theorem Pl{a b:Int}(h:b<a):compare a b=.gt:=by rw[Et,if_neg oM,if_neg oM]
theorem SQ(a b p:Int)(hp:0<p):compare (a*p) (b*p)=compare a b:=by
 rw[Et,Et];have h1:a*p<b*p↔a<b:=Int.mul_lt_mul_right hp;have h2:a*p=b*p↔a=b:=⟨fun h=>Int.eq_of_mul_eq_mul_right oM h,fun h=>by rw[h]⟩
 simp only[h1,h2]
theorem MJ{x:Nat}(h:rg x=2139095040):mv x=V 23 2139095040:=by unfold mv;rw[h]
theorem mv_fin{x:Nat}(h:rg x<2139095040):mv x<V 23 2139095040:=If 23 h
theorem XZ{x:Nat}(h:rg x<2139095040): -(V 23 2139095040:Int)<sv x/\sv x<(V 23 2139095040:Int):=by
 have:=mv_fin h;unfold sv sg;split<;>omega
theorem VZ(x y:Nat):Ieee.single.order x y=if 2139095040<rg x\/2139095040<rg y then none else some (compare (sv x) (sv y)):=by
 unfold Ieee.Format.order;have hV:0<V 23 2139095040:=by have:=If 23 (show 0<2139095040 by decide);omega
 rcases Nat.lt_trichotomy (rg x) 2139095040 with c|c|c
 .rcases Nat.lt_trichotomy (rg y) 2139095040 with d|d|d
  .rw[Ct x c,Ct y d,if_neg oM];simp only[Ieee.Datum.order];have hm:min (-149+(te x:Int)) (-149+(te y:Int))= -149+((min (te x) (te y):Nat):Int):=oM;rw[hm];have e1:(-149+(te x:Int)-(-149+((min (te x) (te y):Nat):Int))).toNat=te x-min (te x) (te y):=oM;have e2:(-149+(te y:Int)-(-149+((min (te x) (te y):Nat):Int))).toNat=te y-min (te x) (te y):=oM;rw[e1,e2];generalize hc:min (te x) (te y)=m;have s1:Ieee.signed (ng x) (mg x) (te x-m)*(2:Int)^m=sv x:=by
    rw[Kr,show te x-m+m=te x by omega,<-IV];rfl
   have s2:Ieee.signed (ng y) (mg y) (te y-m)*(2:Int)^m=sv y:=by
    rw[Kr,show te y-m+m=te y by omega,<-IV];rfl
   rw[<-s1,<-s2,SQ _ _ _ (Int.pow_pos dE)]
  .rw[Ct x c,Eh y d,if_neg oM];simp only[Ieee.Datum.order];have h:=XZ c;have e:sv y=sg (ng y) (V 23 2139095040):=by unfold sv;rw[MJ d]
   rw[e,Et];cases ng y
   .rw[if_neg dE,if_pos Zhe]
   .rw[if_pos rfl,if_neg Zhe,if_neg Zhe]
  .rw[Ei y d,Ct x c,if_pos (Or.inr d)];rfl
 .rcases Nat.lt_trichotomy (rg y) 2139095040 with d|d|d
  .rw[Eh x c,Ct y d,if_neg oM];simp only[Ieee.Datum.order];have h:=XZ d;have e:sv x=sg (ng x) (V 23 2139095040):=by unfold sv;rw[MJ c]
   rw[e,Et];cases ng x
   .rw[if_neg dE,if_neg Zhe,if_neg Zhe]
   .rw[if_pos rfl,if_pos Zhe]
  .rw[Eh x c,Eh y d,if_neg oM];simp only[Ieee.Datum.order];have e1:sv x=sg (ng x) (V 23 2139095040):=by unfold sv;rw[MJ c]
   have e2:sv y=sg (ng y) (V 23 2139095040):=by unfold sv;rw[MJ d]
   rw[e1,e2,Et];cases ng x<;>cases ng y
   .rw[if_neg oM,if_pos rfl];rfl
   .rw[if_neg Zgt,if_neg Zgt];rfl
   .rw[if_pos Zgt];rfl
   .rw[if_neg oM,if_pos rfl];rfl
  .rw[Ei y d,Eh x c,if_pos (Or.inr d)];rfl
 .rw[Ei x c,if_pos (Or.inl c)];cases Ieee.single.read y<;>rfl
theorem Cv(a:Int)(h0:0<=a):(rg a.toNat:Int)=a%2147483648:=by unfold rg;omega
theorem JV(a:Int)(h0:0<=a):nan a=decide (2139095040<rg a.toNat):=by
 unfold nan;rw[decide_eq_decide];have:=Cv a h0;omega
theorem Kc(a b:Int)(h0:0<=a)(g0:0<=b):ZE a b=if nan a=true\/nan b=true then none else some (compare (sv a.toNat) (sv b.toNat)):=by
 unfold ZE;rw[VZ,JV a h0,JV b g0];simp only[decide_eq_true_eq]
theorem T6(a b:Int)(h0:0<=a)(g0:0<=b):JG a b=true↔nan a=false/\nan b=false/\sv a.toNat<sv b.toNat:=by
 unfold JG;rw[Kc a b h0 g0];by_cases hn:nan a=true\/nan b=true
 .rw[if_pos hn];simp;intro k1 k2;simp[k1,k2]at hn
 .rw[if_neg hn];have hn':nan a=false/\nan b=false:=by simpa using hn
  rcases Int.lt_trichotomy (sv a.toNat) (sv b.toNat)with c|c|c
  .rw[Pm c];simp[hn',c]
  .rw[Pk c];simp;omega
  .rw[Pl c];simp;omega
theorem sv_inj{x y:Nat}(h:sv x=sv y):rg x=rg y/\(ng x=ng y\/rg x=0):=by
 have hz:∀z,mv z=0->rg z=0:=by
  intro z hz;unfold mv at hz;rw[<-Mp 23]at hz;exact UM 23 hz
 have Bl:mv x=mv y/\(ng x=ng y\/mv x=0):=by
  unfold sv sg at h;cases hx:ng x<;>cases hy:ng y<;>rw[hx,hy]at h<;>simp only[if_true,if_false,Bool.false_eq_true]at h
  .exact⟨oM,Or.inl rfl⟩
  .exact⟨oM,Or.inr oM⟩
  .exact⟨oM,Or.inr oM⟩
  .exact⟨oM,Or.inl rfl⟩
 refine⟨UM 23 Bl.1,?_⟩;rcases Bl.2 with e|e
 .exact Or.inl e
 .exact Or.inr (hz x e)
theorem EI(a:Int)(h0:0<=a)(h1:a<4294967296):a=(if ng a.toNat then 2147483648 else 0)+(rg a.toNat:Int):=by
 unfold ng rg;by_cases c:2147483648<=a
 .have:a.toNat/2147483648%2=1:=oM;simp[this];omega
 .have:a.toNat/2147483648%2=0:=oM;simp[this];omega
theorem ZJ{a b:Int}(h0:0<=a)(h1:a<4294967296)(g0:0<=b)(g1:b<4294967296)(hr:rg a.toNat=rg b.toNat)(hs:ng a.toNat=ng b.toNat):a=b:=by
 rw[EI a h0 h1,EI b g0 g1,hr,hs]
theorem Q5(a:Int)(h0:0<=a)(h1:a<4294967296):ng a.toNat=decide (2147483648<=a):=by
 unfold ng;by_cases c:2147483648<=a<;>simp[c]<;>omega
theorem XY(d e:Ieee.Datum):d.sum e=e.sum d:=by
 cases d<;>cases e<;>simp only[Ieee.Datum.sum]
 .rename_i s m i t n j;rw[Int.min_comm j i,Int.add_comm (Ieee.signed t n _),Bool.and_comm]
 .rename_i s t;by_cases h:s=t
  .rw[if_pos h,if_pos h.symm,h]
  .rw[if_neg h,if_neg (fun k=>h k.symm)]
theorem Ls(a b:Int):DQ a b=DQ b a:=by unfold DQ Ieee.Format.add;rw[XY]
def Mx(a:Nat):Nat:=if 2147483648<=a then a-2147483648 else a+2147483648
theorem RJ(a:Nat)(h:a<4294967296):rg (Mx a)=rg a:=by unfold rg Mx;split<;>omega
theorem Zs(a:Nat)(h:a<4294967296):ng (Mx a)= !ng a:=by
 unfold ng Mx;split
 .rename_i c;have e1:a/2147483648%2=1:=oM;have e2:(a-2147483648)/2147483648%2=0:=oM;simp[e1,e2]
 .rename_i c;have e1:a/2147483648%2=0:=oM;have e2:(a+2147483648)/2147483648%2=1:=oM;rw[e1,e2];rfl
theorem TH(a:Nat)(h:a<4294967296):Ieee.single.read (Mx a)=(Ieee.single.read a).opposite:=by
 rw[DK,DK,RJ a h,Zs a h];split
 .rfl
 .split
  .rfl
  .split<;>rfl
theorem NO(a:Int)(h0:0<=a)(h1:a<4294967296)(hn:nan a=false):JI a=(Mx a.toNat:Nat):=by
 unfold JI Mx;have e:(if 2147483648<=a then a-2147483648 else a+2147483648)=((if 2147483648<=a.toNat then a.toNat-2147483648 else a.toNat+2147483648:Nat):Int):=by
  by_cases c:2147483648<=a
  .rw[if_pos c,if_pos oM];omega
  .rw[if_neg c,if_neg oM];omega
 rw[e];apply Lo;have:=RJ a.toNat oM;unfold Mx at this;rw[this];rw[JV a h0]at hn;simpa using hn
theorem NM(a:Int)(h0:0<=a)(h1:a<4294967296)(hn:nan a=true):JI a=2143289344:=by
 unfold JI An;rw[MM]at hn;have:nan (if 2147483648<=a then a-2147483648 else a+2147483648)=true:=by
  rw[MM];split<;>omega
 rw[if_pos this]
theorem R6(a:Int)(h0:0<=a)(h1:a<4294967296):0<=JI a/\JI a<4294967296:=by
 have h:0<=(if 2147483648<=a then a-2147483648 else a+2147483648)/\(if 2147483648<=a then a-2147483648 else a+2147483648)<4294967296:=by split<;>omega
 exact ET _ h.1 h.2

theorem GL(a:Int)(k:Nat)(hk:k<64)(h0:0<=a)(h1:a<18446744073709551616):bits .and .u64 a ((2^k-1:Nat):Int)=a%((2^k:Nat):Int):=by
 have hp:2^k<2^64:=Nat.pow_lt_pow_right oM hk;have hq:0<2^k:=Nat.two_pow_pos k;obtain⟨n,rfl⟩:=Int.eq_ofNat_of_zero_le h0;rw[u64_and _ _ h0 h1 oM oM,Int.toNat_natCast,Int.toNat_natCast,Nat.and_two_pow_sub_one_eq_mod];rfl
theorem Yt(a:Int)(h0:0<=a)(h1:a<18446744073709551616):bits .and .u64 a 255=a%256:=GL a 8 dE h0 h1
theorem US(a:Int)(h0:0<=a)(h1:a<18446744073709551616):bits .and .u64 a 8388607=a%8388608:=GL a 23 dE h0 h1
def B8(a:Int):Bool:=a/2147483648==1
def nM(a:Int):Int:=if a/8388608%256=255 then 0 else if a/8388608%256=0 then a%8388608 else 8388608+a%8388608
def nE(a:Int):Int:=if a/8388608%256=255 then 0 else if a/8388608%256=0 then -149 else a/8388608%256-150
def DG(a:Int):Bool:=if a/8388608%256=255 then a%8388608==0 else false
def BQ(a:Int):Bool:=if a/8388608%256=255 then a%8388608 != 0 else false
theorem De(a:Int)(h0:0<=a)(h1:a<4294967296)(w:World):
 Calls prog 106 #[.int .i64 a] w fun e w'=>e=.returned (.agg #[.bool (B8 a),.int .u64 (nM a),.int .i64 (nE a),.bool (DG a),.bool (BQ a)])/\∃o,w'=(w.alloc o).alloc o:=by
 have e1:=Yt (a/8388608) oM oM;have e2:=US a h0 oM;by_cases c:a/8388608%256=255
 .have f1:nM a=0:=by unfold nM;rw[if_pos c]
  have f2:nE a=0:=by unfold nE;rw[if_pos c]
  have f3:DG a=(a%8388608==0):=by unfold DG;rw[if_pos c]
  have f4:BQ a=(a%8388608 != 0):=by unfold BQ;rw[if_pos c]
  exact Zdr
 .by_cases c2:a/8388608%256=0
  .have f1:nM a=a%8388608:=by unfold nM;rw[if_neg c,if_pos c2]
   have f2:nE a= -149:=by unfold nE;rw[if_neg c,if_pos c2]
   have f3:DG a=false:=by unfold DG;rw[if_neg c]
   have f4:BQ a=false:=by unfold BQ;rw[if_neg c]
   exact Zdr
  .have f1:nM a=8388608+a%8388608:=by unfold nM;rw[if_neg c,if_neg c2]
   have f2:nE a=a/8388608%256-150:=by unfold nE;rw[if_neg c,if_neg c2]
   have f3:DG a=false:=by unfold DG;rw[if_neg c]
   have f4:BQ a=false:=by unfold BQ;rw[if_neg c]
   exact Zdr
def I4(s:Bool):Int:=if s then 2147483648 else 0
theorem QC(s:Bool):0<=I4 s/\I4 s<=2147483648:=by unfold I4;split<;>decide
theorem Gt(s:Bool)(w:World):
 Calls prog 114 #[.bool s] w fun e w'=>e=.returned (.int .u64 (I4 s))/\w'=w:=by
 cases s
 all_goals(
  go_enter func114,ntmps114;go_wp2;go_ret
  exact⟨rfl,rfl⟩)
theorem Ds(s:Bool)(w:World):
 Calls prog 112 #[.bool s] w fun e w'=>e=.returned (.int .i64 (I4 s))/\w'=w:=by
 have hl:=QC s;go_enter func112,ntmps112;go_wp2_with(go_at_call 114;refine(Gt _ _).mono ?_;rintro e w' ⟨rfl,rfl⟩);go_ret;exact⟨rfl,rfl⟩
theorem Ej(s:Bool)(w:World):
 Calls prog 111 #[.bool s] w fun e w'=>e=.returned (.int .i64 (I4 s+2139095040))/\w'=w:=by
 have hl:=QC s;go_enter func111,ntmps111;go_wp2_with(go_at_call 114;refine(Gt _ _).mono ?_;rintro e w' ⟨rfl,rfl⟩);go_ret;exact⟨rfl,rfl⟩
def Dg(n:Nat):Nat:=if n=0 then 0 else n.log2+1
theorem SF(n:Nat)(h:n≠0):Dg n=Dg (n/2)+1:=by
 unfold Dg;rw[if_neg h];by_cases c:n/2=0
 .rw[if_pos c];have:n=1:=oM;subst this;decide
 .rw[if_neg c,Nat.log2_def n,if_pos oM]
theorem Fv(m:Int)(h0:0<=m)(h1:m<18446744073709551616)(w:World):
 Calls prog 92 #[.int .u64 m] w fun e w'=>e=.returned (.int .i64 (Dg m.toNat))/\w'=w:=by
 have hb:Dg m.toNat<=64:=by
  unfold Dg;split
  .omega
  .rename_i c;have:m.toNat.log2<64:=(Nat.log2_lt c).2 oM;omega
 generalize hB:Dg m.toNat=B at *;have HB:Hid (Dg m.toNat=B):=hB;clear hB;go_enter func92,ntmps92;go_wp2;go_loop [0,3] (fun mv nv=>∃ (x:Int) (k:Nat),0<=x/\x<=m/\mv=.int .u64 x/\nv=.int .i64 k/\k+Dg x.toNat=B) (fun mv _=>(intOf mv).toNat)
 case atStart=>exact⟨m,0,h0,Int.le_refl _,rfl,rfl,by rw[HB.out];omega⟩
 case round=>
  obtain⟨x,k,hx0,hx1,rfl,rfl,hk⟩:=hrel;have HK:Hid (k+Dg x.toNat=B):=hk;by_cases hz:x=0
  .have:k=B:=by rw[<-hk,hz];rfl
   subst this;clear hk HK HB;subst hz;go_wp2;go_ret;exact⟨rfl,rfl⟩
  .have hs:=SF x.toNat oM;have HS:Hid (Dg x.toNat=Dg (x.toNat/2)+1):=hs;have hkB:k<=63:=oM;clear hs hk;go_wp2;go_round
   case rel=>exact⟨x/2,k+1,oM,oM,rfl,gN,by rw[show(x/2).toNat=x.toNat/2 by omega];have:=HK.out;have:=HS.out;omega⟩
   case measure=>simp[intOf];omega
theorem Ms(neg:Bool)(n drop:Nat):Ieee.Toward.even.cut neg n drop=n/2^drop+(if 2^drop<2*(n%2^drop)\/(2^drop=2*(n%2^drop)/\n/2^drop%2=1)then 1 else 0):=by
 have Bl:∀g l r:Nat,l+(decide (g<2*r)||g==2*r&&l%2==1).toNat=l+(if g<2*r\/(g=2*r/\l%2=1)then 1 else 0):=by
  intro g l r;by_cases c1:g<2*r
  .simp[c1]
  .by_cases c2:g=2*r
   .by_cases c3:l%2=1<;>simp[c2,c3]
   .simp[c1,c2]
 unfold Ieee.Toward.cut;simp only[Nat.one_shiftLeft];rcases Nat.lt_or_ge (n.log2+2) drop with c|c
 .rw[Nat.min_eq_right oM];have h1:n<2^(n.log2+1):=Nat.lt_log2_self;have h2:2^(n.log2+2)=2*2^(n.log2+1):=by rw[Nat.pow_succ];omega
  have h3:2^(n.log2+2)<=2^drop:=Nat.pow_le_pow_right oM oM;rw[Bl,Nat.div_eq_of_lt oM,Nat.mod_eq_of_lt oM,Nat.div_eq_of_lt oM,Nat.mod_eq_of_lt (show n<2^drop by omega)];rw[if_neg oM,if_neg oM]
 .rw[Nat.min_eq_left oM,Bl]
theorem YG(m:Int)(h0:0<=m)(d:Nat)(hd:1<=d):((Ieee.Toward.even.cut false m.toNat d:Nat):Int)=if(2:Int)^(d-1)<m%2^d\/(m%2^d=2^(d-1)/\m/2^d%2=1)then m/2^d+1 else m/2^d:=by
 obtain⟨n,rfl⟩:=Int.eq_ofNat_of_zero_le h0;rw[Ms,Int.toNat_natCast];have hG:2^d=2*2^(d-1):=by
  obtain⟨e,rfl⟩:∃e,d=e+1:=⟨d-1,oM⟩
  rw[Nat.add_sub_cancel,Nat.pow_succ,Nat.mul_comm]
 have e1:((n:Int)/2^d)=((n/2^d:Nat):Int):=by push_cast;rfl
 have e2:((n:Int)%2^d)=((n%2^d:Nat):Int):=by push_cast;rfl
 have e3:(2:Int)^(d-1)=((2^(d-1):Nat):Int):=by push_cast;rfl
 rw[e1,e2,e3];generalize n/2^d=q;generalize n%2^d=r;rw[hG];generalize 2^(d-1)=H;by_cases c:2*H<2*r\/(2*H=2*r/\q%2=1)
 .rw[if_pos c,if_pos oM];omega
 .rw[if_neg c,if_neg oM];omega
theorem Om(m:Int)(h0:0<=m)(h1:m<18446744073709551616)(d:Nat)(g0:1<=d)(g1:d<64)(w:World):
 Calls prog 113 #[.int .u64 m,.int .i64 d] w fun e w'=>e=.returned (.int .u64 (Ieee.Toward.even.cut false m.toNat d:Nat))/\w'=w:=by
 rw[YG m h0 d g0];have hG:(2:Int)^d=2*2^(d-1):=by
  obtain⟨e,rfl⟩:∃e,d=e+1:=⟨d-1,oM⟩
  rw[Nat.add_sub_cancel,Int.pow_succ,Int.mul_comm]
 have hle:(2:Int)^d<=9223372036854775808:=by
  have h:2^d<=9223372036854775808:=gH (Nat.pow_le_pow_right dE (show d<=63 by omega)) dE;have h':((2^d:Nat):Int)<=((9223372036854775808:Nat):Int):=Int.ofNat_le.2 h;rw[Int.natCast_pow]at h';exact h'
 have hH:(1:Int)<=2^(d-1):=Int.pow_pos dE;have f1:IntKind.u64.wrap ((2:Int)^d)=2^d:=by rw[IntKind.wrap_u64];omega
 have f4:IntKind.u64.wrap ((2:Int)^(d-1))=2^(d-1):=by rw[IntKind.wrap_u64];omega
 have f3:bits .and .u64 m ((2:Int)^d-1)=m%2^d:=by
  have:=GL m d g1 h0 h1;have e:((2^d-1:Nat):Int)=(2:Int)^d-1:=by
   rw[Int.ofNat_sub (Nat.two_pow_pos d)];push_cast;rfl
  rw[e]at this;rw[this];push_cast;rfl
 have hr0:0<=m%2^d:=Int.emod_nonneg _ oM;have hr1:m%2^d<2^d:=Int.emod_lt_of_pos _ oM;have hq0:0<=m/2^d:=Int.ediv_nonneg h0 oM;have hq1:m/2^d<=9223372036854775807:=by
  have h2:m/2^d<=m/2:=by
   have:(2:Int)∣2^d:=⟨2^(d-1),hG⟩
   rw[hG,<-Int.ediv_ediv_of_nonneg dE];exact Int.ediv_le_self _ oM
  omega
 have f5:IntKind.u64.wrap ((2:Int)^d-1)=2^d-1:=by rw[IntKind.wrap_u64];omega
 generalize hr:m%2^d=r at *;generalize hq:m/2^d=q at *;generalize hHH:(2:Int)^(d-1)=H at *;generalize hGG:(2:Int)^d=G at *;have hG1:1<=G:=oM;clear hr hG;by_cases c1:H<r
 .rw[if_pos (Or.inl c1)];exact Zch
 .by_cases c2:r=H
  .by_cases c3:q%2=1
   .rw[if_pos (Or.inr ⟨c2,c3⟩)];exact Zch
   .rw[if_neg oM];exact Zch
  .rw[if_neg oM];exact Zch
theorem J2(m:Int)(h0:0<=m)(h1:m<18446744073709551616)(d:Int)(g0:1<=d)(g1:d<100000)(w:World):
 Calls prog 113 #[.int .u64 m,.int .i64 d] w fun e w'=>e=.returned (.int .u64 (Ieee.Toward.even.cut false m.toNat d.toNat:Nat))/\w'=w:=by
 rcases Int.lt_trichotomy d 64 with c|c|c
 .have:=Om m h0 h1 d.toNat oM oM w;rwa[Int.toNat_of_nonneg oM]at this
 .subst c;have hv:((Ieee.Toward.even.cut false m.toNat (64:Int).toNat:Nat):Int)=if 9223372036854775808<m then 1 else 0:=by
   rw[Ms,show(64:Int).toNat=64 from rfl,show(2:Nat)^64=18446744073709551616 from rfl,Nat.div_eq_of_lt oM,Nat.mod_eq_of_lt oM];by_cases c:9223372036854775808<m
   .rw[if_pos c,if_pos oM];rfl
   .rw[if_neg c,if_neg oM];rfl
  rw[hv];clear hv;by_cases c:9223372036854775808<m
  .rw[if_pos c];exact Zch
  .rw[if_neg c];by_cases c2:m=9223372036854775808
   .subst c2;exact Zch
   .exact Zch
 .have hv:((Ieee.Toward.even.cut false m.toNat d.toNat:Nat):Int)=0:=by
   have hp:2^65<=2^d.toNat:=Nat.pow_le_pow_right dE oM;have h65:(2:Nat)^65=36893488147419103232:=rfl;rw[Ms,Nat.div_eq_of_lt oM,Nat.mod_eq_of_lt oM,if_neg oM];rfl
  rw[hv];clear hv;exact Zch
theorem OV(s:Bool)(r:Nat):((wd s r:Nat):Int)=I4 s+min (r:Int) 2139095040:=by
 unfold wd I4;cases s
 .simp only[if_false,Bool.false_eq_true];omega
 .simp only[if_true];omega
theorem Lg(s:Bool)(m:Nat)(e:Int)(h0:m≠0):∃ (U:Int) (k:Nat),U=max (e+(Dg m:Int)-24) (-149)/\
 ((Ieee.single.nearest s m e:Nat):Int)=I4 s+min ((U+149)*8388608+k) 2139095040/\k<=16777216/\(U= -149\/8388608<=k)/\
 k=Ieee.Toward.even.cut false (m*2^(e-U).toNat) (U-e).toNat/\(U<=e->(k:Int)=(m:Int)*2^(e-U).toNat):=by
 have hb:(Dg m:Int)-24=m.log2-23:=by unfold Dg;rw[if_neg h0];omega
 have hn:=BN Ieee.single s m e;rw[Js,Dt,C4]at hn;refine⟨max (e+(Dg m:Int)-24) (-149),Ieee.Toward.even.cut false (m*2^(e-max (e+(Dg m:Int)-24) (-149)).toNat) (max (e+(Dg m:Int)-24) (-149)-e).toNat,rfl,?_⟩;have hU:max (e+(Dg m:Int)-24) (-149)=max (e+m.log2-((23:Nat):Int)) (-149):=oM;rw[hU];generalize hUU:max (e+m.log2-((23:Nat):Int)) (-149)=U at *;have hr:Cj 23 (-149) m e=(U-(-149)).toNat*2^23+Ieee.Toward.even.cut false (m*2^(e-U).toNat) (U-e).toNat:=by
  unfold Cj;rw[if_neg h0,Nat.shiftLeft_eq,hUU]
 have hcut:=Ny false (m*2^(e-U).toNat) (U-e).toNat;generalize hk:Ieee.Toward.even.cut false (m*2^(e-U).toNat) (U-e).toNat=k at *;have hlo:2^m.log2<=m:=Nat.log2_self_le h0;have hhi:m<2^(m.log2+1):=Nat.lt_log2_self;have hcs:=hcut.scale 0 0 (U-e).toNat rfl;rw[Nat.pow_zero,Nat.mul_one]at hcs;have lo:U= -149\/2^23*2^(U-e).toNat<=m*2^(e-U).toNat:=by
  rcases(show U= -149\/U=e+m.log2-23 by omega)with c|c
  .exact Or.inl c
  .right
   calc 2^23*2^(U-e).toNat=2^m.log2*2^(e-U).toNat:=by rw[<-Nat.pow_add,<-Nat.pow_add];congr 1;omega
    _<=m*2^(e-U).toNat:=Nat.mul_le_mul_right _ hlo
 have hi:m*2^(e-U).toNat<2*2^23*2^(U-e).toNat:=by
  calc m*2^(e-U).toNat<2^(m.log2+1)*2^(e-U).toNat:=Nat.mul_lt_mul_of_pos_right hhi (Nat.two_pow_pos _)
   _=2^(m.log2+1+(e-U).toNat):=(Nat.pow_add ..).symm
   _<=2^(24+(U-e).toNat):=Nat.pow_le_pow_right dE oM
   _=2*2^23*2^(U-e).toNat:=by rw[Nat.pow_add]
 have up:=hcut.up;have dn:=hcut.dn;simp only[Nat.mul_one]at up dn;have hT:0<2^(U-e).toNat:=Nat.two_pow_pos _;have hkle:k<=16777216:=by
  rcases Nat.lt_or_ge 16777216 k with c|c
  .exfalso;have:(2*16777217)*2^(U-e).toNat<=2*k*2^(U-e).toNat:=Nat.mul_le_mul_right _ oM;generalize 2^(U-e).toNat=T at *;generalize m*2^(e-U).toNat=X at *;omega
  .exact c
 have hkge:U= -149\/8388608<=k:=by
  rcases lo with c|c
  .exact Or.inl c
  .right;rcases Nat.lt_or_ge k 8388608 with d|d
   .exfalso;have:(2*k+1)*2^(U-e).toNat<=16777215*2^(U-e).toNat:=Nat.mul_le_mul_right _ oM;generalize 2^(U-e).toNat=T at *;generalize m*2^(e-U).toNat=X at *;omega
   .exact d
 refine⟨?_,hkle,hkge,rfl,?_⟩
 .rw[hn,hr,OV];rw[Int.natCast_add,Int.natCast_mul,Int.toNat_of_nonneg oM];omega
 .intro l;rw[show(U-e).toNat=0 by omega]at hcut;have up:=hcut.up;have dn:=hcut.dn;have ue:=hcut.ue;have de:=hcut.de;have:k=m*2^(e-U).toNat:=by
   generalize m*2^(e-U).toNat=X at *;simp only[Nat.pow_zero,Nat.mul_one]at ue de up dn;omega
  rw[this];push_cast;rfl
theorem BO(s:Bool)(m:Int)(h0:0<=m)(h1:m<18446744073709551616)(e:Int)(e0: -10000<=e)(e1:e<=10000)(w:World):
 Calls prog 94 #[.bool s,.int .u64 m,.int .i64 e] w fun x w'=>x=.returned (.int .i64 (Ieee.single.nearest s m.toNat e:Nat))/\w'=w:=by
 have hs:=QC s;by_cases hz:m=0
 .subst hz;have hv:((Ieee.single.nearest s (0:Int).toNat e:Nat):Int)=I4 s:=by
   show((Ieee.single.nearest s 0 e:Nat):Int)=I4 s;exact Zfy
  rw[hv];clear hv;go_enter func94,ntmps94;go_wp2_with(go_at_call 112;refine(Ds _ _).mono ?_;rintro e w' ⟨rfl,rfl⟩);go_ret;exact⟨rfl,rfl⟩
 .obtain⟨U,k,hU,hv,hk1,hk2,hk3,hk4⟩:=Lg s m.toNat e oM;rw[hv];clear hv;have hB:1<=Dg m.toNat/\Dg m.toNat<=64:=by
   unfold Dg;rw[if_neg oM];have:m.toNat.log2<64:=(Nat.log2_lt oM).2 oM;omega
  generalize hBB:Dg m.toNat=B at *;have fh:e<U->((Ieee.Toward.even.cut false m.toNat (U-e).toNat:Nat):Int)=k:=by
   intro l;rw[hk3,show(e-U).toNat=0 by omega,Nat.pow_zero,Nat.mul_one]
  have fq:U<=e->IntKind.u64.wrap (m*2^(-(U-e)).toNat)=k:=by
   intro l;have:=hk4 l;rw[show(-(U-e)).toNat=(e-U).toNat by omega,show m=(m.toNat:Int) by omega,<-this,IntKind.wrap_u64];omega
  clear hk3 hk4;have hUr: -149<=U/\U<=20000:=oM;have hK0:0<=(k:Int)/\(k:Int)<=16777216/\(U= -149\/8388608<=(k:Int)):=oM;clear hk1 hk2;generalize hKK:(k:Int)=K at *;clear hKK;generalize hT:min ((U+149)*8388608+K) 2139095040=T;have cases:(K=16777216/\U<104/\T=(U+151)*8388608)\/(K=16777216/\104<=U/\T=2139095040)\/(U= -149/\K<8388608/\T=K)\/
   (8388608<=K/\K<16777216/\U<105/\T=(U+149)*8388608+K)\/(8388608<=K/\K<16777216/\105<=U/\T=2139095040):=oM
  clear hT;by_cases hu: -149>e+(B:Int)-24
  .have hU':U= -149:=oM;clear hU;subst hU';clear hUr;by_cases hsh: -149<=e
   .have fq':=fq hsh;exact Zca
   .have fh':=fh oM;exact Zca
  .have hu2:e+(B:Int)-24=U:=oM;clear hU;by_cases hsh:U<=e
   .have fq':=fq hsh;exact Zbz
   .have fh':=fh oM;exact Zbz
theorem MK(a:Int)(h0:0<=a)(h1:a<4294967296):B8 a=ng a.toNat:=by
 unfold B8 ng;by_cases c:2147483648<=a
 .have e1:a/2147483648=1:=oM;have e2:a.toNat/2147483648%2=1:=oM;rw[e1,e2];rfl
 .have e1:a/2147483648=0:=oM;have e2:a.toNat/2147483648%2=0:=oM;rw[e1,e2];rfl
theorem Cb(a:Int)(h0:0<=a)(h1:a<4294967296):BQ a=nan a:=by
 unfold BQ nan;by_cases c:a/8388608%256=255
 .rw[if_pos c];by_cases d:a%8388608=0
  .have:¬ (2139095040<a%2147483648):=oM;simp[d,this]
  .have:2139095040<a%2147483648:=oM;simp[d,this]
 .rw[if_neg c];have:¬ (2139095040<a%2147483648):=oM;simp[this]
theorem Fs(a:Int)(h0:0<=a)(h1:a<4294967296)(h:BQ a=true):∃s t,Ieee.single.read a.toNat=.nan s t:=by
 rw[Cb a h0 h1,JV a h0]at h;exact⟨_,_,Ei _ UQ⟩
theorem Dw(a:Int)(h0:0<=a)(h1:a<4294967296)(h:DG a=true):Ieee.single.read a.toNat=.infinity (B8 a)/\BQ a=false/\nM a=0:=by
 have c:a/8388608%256=255/\a%8388608=0:=by
  unfold DG at h;split at h
  .rename_i c;exact⟨c,by simpa using h⟩
  .cases h
 refine⟨?_,?_,?_⟩
 .rw[MK a h0 h1];exact Eh _ (by have:=Cv a h0;omega)
 .unfold BQ;simp[c]
 .unfold nM;rw[if_pos c.1]
theorem BR(a:Int)(h0:0<=a)(h1:a<4294967296)(hi:DG a=false)(hn:BQ a=false):
 Ieee.single.read a.toNat=.number (B8 a) (nM a).toNat (nE a)/\0<=nM a/\nM a<16777216/\-149<=nE a/\nE a<=104/\(nE a= -149\/8388608<=nM a):=by
 have c:¬ (a/8388608%256=255):=by
  intro c;unfold DG at hi;unfold BQ at hn;rw[if_pos c]at hi hn;simp at hi hn;exact hi hn
 have hf:rg a.toNat<2139095040:=by have:=Cv a h0;omega
 have hr:=Cv a h0;rw[Ct _ hf,MK a h0 h1];unfold nM nE mg te;rw[if_neg c,if_neg c];by_cases d:a/8388608%256=0
 .rw[if_pos d,if_pos d,if_pos oM,show rg a.toNat/8388608-1=0 by omega,show(a%8388608).toNat=rg a.toNat by omega];exact⟨rfl,oM,oM,oM,oM,oM⟩
 .rw[if_neg d,if_neg d,if_neg oM,show(8388608+a%8388608).toNat=8388608+rg a.toNat%8388608 by omega,show -149+((rg a.toNat/8388608-1:Nat):Int)=a/8388608%256-150 by omega];exact⟨rfl,oM,oM,oM,oM,oM⟩
theorem DM(s1:Bool)(m1 e1:Int)(i1 n1 s2:Bool)(m2 e2:Int)(i2 n2:Bool)(w:World):
 Calls prog 110 #[.agg #[.bool s1,.int .u64 m1,.int .i64 e1,.bool i1,.bool n1],.agg #[.bool s2,.int .u64 m2,.int .i64 e2,.bool i2,.bool n2]] w fun e w'=>e=.returned (.bool (n1||n2))/\∃o p,w'=(w.alloc o).alloc p:=by
 cases n1<;>cases n2
 all_goals(
  go_enter func110,ntmps110;go_wp2;go_ret
  exact⟨rfl,_,_,rfl⟩)
theorem Ce(s:Bool):((Ieee.single.write (.infinity s):Nat):Int)=I4 s+2139095040:=by cases s<;>decide
theorem Ey(a b:Int){d e:Ieee.Datum}(h:Ieee.single.read a.toNat=d)(k:Ieee.single.read b.toNat=e):FJ a b=Ry ((d.product e).map Ieee.single.write):=by
 unfold FJ Ieee.Format.mul;rw[h,k]
theorem DZ(s t:Bool):(s^^t)=(s != t):=by cases s<;>cases t<;>rfl
theorem NL(a b:Int)(h0:0<=a)(h1:a<4294967296)(g0:0<=b)(g1:b<4294967296)(h:BQ a=true\/BQ b=true):FJ a b=2143289344:=by
 rcases h with h|h
 .obtain⟨s,t,e⟩:=Fs a h0 h1 h;rw[Ey a b e rfl];cases Ieee.single.read b.toNat<;>rfl
 .obtain⟨s,t,e⟩:=Fs b g0 g1 h;rw[Ey a b rfl e];cases Ieee.single.read a.toNat<;>rfl
theorem Kl(a:Int)(h0:0<=a)(h1:a<4294967296)(b:Int)(g0:0<=b)(g1:b<4294967296)(w:World):
 Calls prog 93 #[.int .i64 a,.int .i64 b] w fun e w'=>e=.returned (.int .i64 (FJ a b))/\Below w.heap.size w w':=by
 cases hna:BQ a
 .cases hnb:BQ b
  .cases hia:DG a
   .obtain⟨ra,a1,a2,a3,a4,-⟩:=BR a h0 h1 hia hna;cases hib:DG b
    .obtain⟨rb,b1,b2,b3,b4,-⟩:=BR b g0 g1 hib hnb;have hv:FJ a b=(Ieee.single.nearest (B8 a != B8 b) (nM a*nM b).toNat (nE a+nE b):Nat):=by
      rw[Ey a b ra rb,show(nM a*nM b).toNat=(nM a).toNat*(nM b).toNat from Int.toNat_mul a1 b1,<-DZ];rfl
     have hm:0<=nM a*nM b/\nM a*nM b<281474976710656:=by
      refine⟨Int.mul_nonneg a1 b1,?_⟩;have h1:nM a*nM b<=16777215*16777215:=Int.mul_le_mul oM oM b1 oM;omega
     have hw:IntKind.u64.wrap (nM a*nM b)=nM a*nM b:=by rw[IntKind.wrap_u64];omega
     rw[hv];clear hv ra rb;exact Zam
    .obtain⟨rb,-,b1⟩:=Dw b g0 g1 hib;by_cases hz:nM a=0
     .have hv:FJ a b=2143289344:=by rw[Ey a b ra rb,hz];rfl
      rw[hv];clear hv ra rb;exact Zam
     .have hv:FJ a b=I4 (B8 a != B8 b)+2139095040:=by
       rw[Ey a b ra rb,<-Ce,<-DZ,Bool.xor_comm];have:(nM a).toNat≠0:=oM;simp only[Ieee.Datum.product,if_neg this];rfl
      rw[hv];clear hv ra rb;exact Zam
   .obtain⟨ra,-,a1⟩:=Dw a h0 h1 hia;cases hib:DG b
    .obtain⟨rb,b1,b2,b3,b4,-⟩:=BR b g0 g1 hib hnb;by_cases hz:nM b=0
     .have hv:FJ a b=2143289344:=by rw[Ey a b ra rb,hz];rfl
      rw[hv];clear hv ra rb;exact Zam
     .have hv:FJ a b=I4 (B8 a != B8 b)+2139095040:=by
       rw[Ey a b ra rb,<-Ce,<-DZ];have:(nM b).toNat≠0:=oM;simp only[Ieee.Datum.product,if_neg this];rfl
      rw[hv];clear hv ra rb;exact Zam
    .obtain⟨rb,-,b1⟩:=Dw b g0 g1 hib;have hv:FJ a b=I4 (B8 a != B8 b)+2139095040:=by
      rw[Ey a b ra rb,<-Ce,<-DZ];rfl
     rw[hv];clear hv ra rb;exact Zam
  .have hv:=NL a b h0 h1 g0 g1 (Or.inr hnb);rw[hv];clear hv;exact Zam
 .have hv:=NL a b h0 h1 g0 g1 (Or.inl hna);rw[hv];clear hv;exact Zam
theorem TQ(n:Int)(h0: -9223372036854775808<=n)(h1:n<=9223372036854775807)(w:World):
 Calls prog 64 #[.int .i64 n] w fun e w'=>e=.returned (.int .i64 (GG n))/\w'=w:=by
 unfold GG;by_cases c:n<0
 .rw[decide_eq_true c,show n.natAbs=(-(n+1)+1).toNat by omega];exact Zew
 .rw[decide_eq_false c,show n.natAbs=n.toNat by omega];exact Zew
theorem Gj(w:World)(v0 v1 v2 v3 v4:Value):(Instr.field 167 (.agg #[v0,v1,v2,v3,v4]) 4).run prog w=.ok v4 w:=by
 simp[Instr.field,run_underlying underlying167,asAgg,part,go_sem]
theorem NU(a b:Nat)(ha:a<9223372036854775808)(hb:b<9223372036854775808):bits .xor .i64 (a:Int) (b:Int)=((a^^^b:Nat):Int):=by
 have hx:a^^^b<2^63:=Nat.xor_lt_two_pow oM oM;show IntKind.i64.wrap ((BitVec.ofInt 64 (a:Int)^^^BitVec.ofInt 64 (b:Int)).toNat:Int)=_;rw[BitVec.toNat_xor,ofInt_u64 a oM,ofInt_u64 b oM,IntKind.wrap_i64];omega
theorem JK(a b:Nat)(ha:a<9223372036854775808)(hb:b<9223372036854775808):bits .andNot .i64 (a:Int) (b:Int)=((a&&& (18446744073709551615-b):Nat):Int):=by
 have hx:a&&& (18446744073709551615-b)<=a:=Nat.and_le_left;show IntKind.i64.wrap ((BitVec.ofInt 64 (a:Int)&&& ~~~BitVec.ofInt 64 (b:Int)).toNat:Int)=_;rw[BitVec.toNat_and,BitVec.toNat_not,ofInt_u64 a oM,ofInt_u64 b oM,IntKind.wrap_i64];have e:2^64-1-b=18446744073709551615-b:=oM;rw[e];omega
theorem QL(a:Int)(h0:0<=a)(h1:a<4294967296):bits .xor .i64 a 2147483648=if 2147483648<=a then a-2147483648 else a+2147483648:=by
 rw[<-Y7 a h0 h1,u32_xor a _ h0 h1 dE dE];obtain⟨A,rfl⟩:=Int.eq_ofNat_of_zero_le h0;exact NU A 2147483648 oM dE
theorem EM(a:Int)(h0:0<=a)(h1:a<4294967296):bits .andNot .i64 a 2147483648=a%2147483648:=by
 rw[<-Tn a h0 h1,u32_andNot a _ h0 h1 dE dE];obtain⟨A,rfl⟩:=Int.eq_ofNat_of_zero_le h0;rw[show(2147483648:Int)=((2147483648:Nat):Int)from rfl,JK A 2147483648 oM dE,Int.toNat_natCast,Int.toNat_natCast];congr 1;apply Nat.eq_of_testBit_eq;intro i;rw[Nat.testBit_and,Nat.testBit_and];rcases Nat.lt_or_ge i 32 with c|c
 .have:∀j:Fin 32,(18446744073709551615-2147483648:Nat).testBit j.val=(4294967295-2147483648:Nat).testBit j.val:=dE;rw[this ⟨i,c⟩]
 .have:A.testBit i=false:=Nat.testBit_lt_two_pow (Nat.lt_of_lt_of_le (show A<2^32 by omega) (Nat.pow_le_pow_right dE c));rw[this,Bool.false_and,Bool.false_and]
theorem Oo(a:Int)(h0:0<=a)(h1:a<4294967296)(w:World):
 Calls prog 120 #[.int .i64 a] w fun e w'=>e=.returned (.int .i64 (JI a))/\Below w.heap.size w w':=by
 have hf:=Gj;cases hna:BQ a
 .have hv:JI a=if 2147483648<=a then a-2147483648 else a+2147483648:=by
   rw[NO a h0 h1 (by rw[<-Cb a h0 h1];exact hna)];unfold Mx;by_cases c:2147483648<=a
   .rw[if_pos c,if_pos oM];omega
   .rw[if_neg c,if_neg oM];omega
  have hx:=QL a h0 h1;rw[hv];clear hv;generalize (if 2147483648<=a then a-2147483648 else a+2147483648)=z at *;go_enter func120,ntmps120;exact UO
 .have hv:=NM a h0 h1 (by rw[<-Cb a h0 h1];exact hna);rw[hv];clear hv;go_enter func120,ntmps120;exact UO
theorem Wq(a:Int)(h0:0<=a)(h1:a<4294967296)(w:World):
 Calls prog 121 #[.int .i64 a] w fun e w'=>e=.returned (.int .i64 (YR a))/\Below w.heap.size w w':=by
 have hm:nan (a%2147483648)=nan a:=by unfold nan;rw[Int.emod_emod_of_dvd _ (Int.dvd_refl _)]
 unfold YR An;rw[hm,<-Cb a h0 h1];have hx:=EM a h0 h1;have hf:=Gj;cases hna:BQ a
 .rw[if_neg dE];go_enter func121,ntmps121;exact UO
 .rw[if_pos rfl];go_enter func121,ntmps121;exact UO
theorem LG(a:Int)(h0:0<=a)(h1:a<4294967296):(ng a.toNat=true/\Bl a= -1-(rg a.toNat:Int)/\sv a.toNat= -(mv a.toNat:Int))\/(ng a.toNat=false/\Bl a=(rg a.toNat:Int)/\sv a.toNat=(mv a.toNat:Int)):=by
 have hr:=Cv a h0;rw[Q5 a h0 h1];by_cases c:2147483648<=a
 .left;refine⟨by simpa using c,?_,?_⟩
  .unfold Bl;rw[if_pos c];omega
  .unfold sv sg;rw[Q5 a h0 h1,if_pos (by simpa using c)]
 .right;refine⟨by simpa using c,?_,?_⟩
  .unfold Bl;rw[if_neg c];omega
  .unfold sv sg;rw[Q5 a h0 h1,if_neg (by simpa using c)]
theorem Jl(x:Nat):mv x=0↔rg x=0:=by
 unfold mv;constructor
 .intro h;rw[<-Mp 23]at h;exact UM 23 h
 .intro h;rw[h,Mp]
theorem PO(a b:Int)(h0:0<=a)(h1:a<4294967296)(g0:0<=b)(g1:b<4294967296):Bl a<Bl b↔(sv a.toNat<sv b.toNat\/(rg a.toNat=0/\rg b.toNat=0/\ng a.toNat=true/\ng b.toNat=false)):=by
 have ha:=LG a h0 h1;have hb:=LG b g0 g1;have m1:mv a.toNat<mv b.toNat↔rg a.toNat<rg b.toNat:=Nl 23 _ _;have m2:mv b.toNat<mv a.toNat↔rg b.toNat<rg a.toNat:=Nl 23 _ _;have z1:=Jl a.toNat;have z2:=Jl b.toNat;rcases ha with⟨p,q,r⟩|⟨p,q,r⟩<;>rcases hb with⟨p',q',r'⟩|⟨p',q',r'⟩<;>rw[p,q,r,p',q',r']<;>simp only[Bool.false_eq_true,Bool.true_eq_false,and_false,or_false,and_true]<;>omega
theorem Jn(a b:Int)(h0:0<=a)(h1:a<4294967296)(g0:0<=b)(g1:b<4294967296):sv a.toNat=sv b.toNat↔(a=b\/(a%2147483648=0/\b%2147483648=0)):=by
 have hr:=Cv a h0;have hs:=Cv b g0;constructor
 .intro h;obtain⟨e,f⟩:=sv_inj h;rcases f with f|f
  .exact Or.inl (ZJ h0 h1 g0 g1 e f)
  .right;omega
 .rintro(h|⟨h,k⟩)
  .rw[h]
  .have z1:=(Jl a.toNat).2 oM;have z2:=(Jl b.toNat).2 oM;unfold sv sg;rw[z1,z2];simp
theorem Vl(a b:Int)(h0:0<=a)(h1:a<4294967296)(g0:0<=b)(g1:b<4294967296)(hn:nan a=false)(hm:nan b=false):Jc a b=if Bl b<Bl a then b else a:=by
 unfold Jc;rw[Kc a b h0 g0,if_neg (by simp[hn,hm])];have hk:=PO b a g0 g1 h0 h1;rcases Int.lt_trichotomy (sv a.toNat) (sv b.toNat)with c|c|c
 .have hne:¬ (Bl b<Bl a):=by
   exact Zez
  rw[Pm c];simp only [];rw[if_neg hne]
 .rw[Pk c];simp only [];rcases(Jn a b h0 h1 g0 g1).1 c with e|⟨e,f⟩
  .subst e;split<;>simp
  .unfold Bl;by_cases d1:2147483648<=a<;>by_cases d2:2147483648<=b<;>simp only[d1,d2,if_true,if_false]
   .rw[if_neg oM]
   .rw[if_neg oM]
   .rw[if_pos oM]
   .rw[if_neg oM];omega
 .rw[Pl c];simp only [];rw[if_pos (hk.2 (Or.inl c))]
theorem Vj(a b:Int)(h0:0<=a)(h1:a<4294967296)(g0:0<=b)(g1:b<4294967296)(hn:nan a=false)(hm:nan b=false):JH a b=if Bl b>Bl a then b else a:=by
 unfold JH;rw[Kc a b h0 g0,if_neg (by simp[hn,hm])];have hk:=PO a b h0 h1 g0 g1;rcases Int.lt_trichotomy (sv a.toNat) (sv b.toNat)with c|c|c
 .rw[Pm c];simp only [];rw[if_pos (show Bl b>Bl a from hk.2 (Or.inl c))]
 .rw[Pk c];simp only [];rcases(Jn a b h0 h1 g0 g1).1 c with e|⟨e,f⟩
  .subst e;split<;>simp
  .unfold Bl;by_cases d1:2147483648<=a<;>by_cases d2:2147483648<=b<;>simp only[d1,d2,if_true,if_false]
   .rw[if_neg oM];omega
   .rw[if_pos oM]
   .rw[if_neg oM]
   .rw[if_neg oM]
 .have hne:¬ (Bl b>Bl a):=by
   show¬ (Bl a<Bl b);exact Zez
  rw[Pl c];simp only [];rw[if_neg hne]
theorem T7(a b:Int)(h0:0<=a)(h1:a<4294967296)(g0:0<=b)(g1:b<4294967296)(hn:nan a=false)(hm:nan b=false):JG a b=(decide (Bl a<Bl b)&& !((a%2147483648==0)&&(b%2147483648==0))):=by
 have h:=T6 a b h0 g0;have hk:=PO a b h0 h1 g0 g1;have hr:=Cv a h0;have hs:=Cv b g0;have hz:=Jn a b h0 h1 g0 g1;simp only[hn,hm,true_and]at h;rw[Bool.eq_iff_iff,h];simp only[Bool.and_eq_true,decide_eq_true_eq,Bool.not_eq_true',Bool.and_eq_false_iff,beq_eq_false_iff_ne];constructor
 .intro c;refine⟨hk.2 (Or.inl c),?_⟩;by_cases e:a%2147483648=0
  .right;intro f;have:=hz.2 (Or.inr ⟨e,f⟩);omega
  .exact Or.inl e
 .rintro⟨c,d⟩;rcases hk.1 c with e|⟨e1,e2,-,-⟩
  .exact e
  .exfalso;rcases d with d|d<;>omega
theorem E3(a b:Int)(h0:0<=a)(g0:0<=b)(h:nan a=true\/nan b=true):JG a b=false/\feq a b=false/\Jc a b=2143289344/\JH a b=2143289344:=by
 unfold JG feq Jc JH;rw[Kc a b h0 g0,if_pos h];exact⟨rfl,rfl,rfl,rfl⟩
theorem Iw(a:Int)(h0:0<=a)(h1:a<4294967296)(w:World):
 Calls prog 116 #[.int .i64 a] w fun e w'=>e=.returned (.int .i64 (Bl a))/\w'=w:=by
 have hx:=EM a h0 h1;unfold Bl;by_cases c:2147483648<=a
 .have h2:a/2147483648=1:=oM;rw[if_pos c];go_enter func116,ntmps116;go_wp2;go_ret;exact⟨Ht oM,rfl⟩
 .have h2:a/2147483648=0:=oM;rw[if_neg c];go_enter func116,ntmps116;go_wp2;go_ret;exact⟨Ht oM,rfl⟩
theorem Ga(a:Int)(h0:0<=a)(h1:a<4294967296)(w:World):
 Calls prog 132 #[.int .i64 a] w fun e w'=>e=.returned (.bool (a%2147483648==0))/\w'=w:=by
 have hx:=EM a h0 h1;go_enter func132,ntmps132;go_wp2;go_ret;exact⟨rfl,rfl⟩
theorem G9(a:Int)(h0:0<=a)(h1:a<4294967296)(w:World):
 Calls prog 85 #[.int .i64 a] w fun e w'=>e=.returned (.int .i64 (An a))/\Below w.heap.size w w':=by
 have hf:=Gj;unfold An;rw[<-Cb a h0 h1];cases hna:BQ a
 .rw[if_neg dE];go_enter func85,ntmps85;exact UO
 .rw[if_pos rfl];go_enter func85,ntmps85;exact UO
theorem On(a:Int)(h0:0<=a)(h1:a<4294967296)(b:Int)(g0:0<=b)(g1:b<4294967296)(w:World):
 Calls prog 96 #[.int .i64 a,.int .i64 b] w fun e w'=>e=.returned (.int .i64 (Jc a b))/\Below w.heap.size w w':=by
 have ea:=Cb a h0 h1;have eb:=Cb b g0 g1;cases hna:BQ a
 .cases hnb:BQ b
  .rw[Vl a b h0 h1 g0 g1 Zhn Zhm];clear ea eb;by_cases c:Bl b<Bl a
   .rw[if_pos c];go_enter func96,ntmps96;exact Zat
   .rw[if_neg c];go_enter func96,ntmps96;exact Zat
  .rw[(E3 a b h0 g0 (Or.inr Zhm)).2.2.1];clear ea eb;go_enter func96,ntmps96;exact Zat
 .rw[(E3 a b h0 g0 (Or.inl Zhn)).2.2.1];clear ea eb;go_enter func96,ntmps96;exact Zat
theorem Wz(a:Int)(h0:0<=a)(h1:a<4294967296)(b:Int)(g0:0<=b)(g1:b<4294967296)(w:World):
 Calls prog 126 #[.int .i64 a,.int .i64 b] w fun e w'=>e=.returned (.int .i64 (JH a b))/\Below w.heap.size w w':=by
 have ea:=Cb a h0 h1;have eb:=Cb b g0 g1;cases hna:BQ a
 .cases hnb:BQ b
  .rw[Vj a b h0 h1 g0 g1 Zhn Zhm];clear ea eb;by_cases c:Bl b>Bl a
   .rw[if_pos c];go_enter func126,ntmps126;exact Zat
   .rw[if_neg c];go_enter func126,ntmps126;exact Zat
  .rw[(E3 a b h0 g0 (Or.inr Zhm)).2.2.2];clear ea eb;go_enter func126,ntmps126;exact Zat
 .rw[(E3 a b h0 g0 (Or.inl Zhn)).2.2.2];clear ea eb;go_enter func126,ntmps126;exact Zat
theorem TR(a:Int)(h0:0<=a)(h1:a<4294967296)(b:Int)(g0:0<=b)(g1:b<4294967296)(w:World):
 Calls prog 127 #[.int .i64 a,.int .i64 b] w fun e w'=>e=.returned (.bool (JG a b))/\Below w.heap.size w w':=by
 have ea:=Cb a h0 h1;have eb:=Cb b g0 g1;cases hna:BQ a
 .cases hnb:BQ b
  .rw[T7 a b h0 h1 g0 g1 Zhn Zhm];clear ea eb;cases za:(a%2147483648==0)<;>cases zb:(b%2147483648==0)<;>simp only[Bool.and_true,Bool.and_false,Bool.not_true,Bool.not_false]
   all_goals(
    go_enter func127,ntmps127;go_wp2_with(first
     |(go_at_call 106;refine(De _ oM oM _).mono ?_;rintro e w' ⟨rfl,o,rfl⟩)
     |(go_at_call 110;refine(DM _ _ _ _ _ _ _ _ _ _ _).mono ?_;rintro e w' ⟨rfl,o,p,rfl⟩)
     |(go_at_call 116;refine(Iw _ oM oM _).mono ?_;rintro e w' ⟨rfl,rfl⟩)
     |(go_at_call 132;refine(Ga _ oM oM _).mono ?_;rintro e w' ⟨rfl,rfl⟩))
    go_ret
    exact⟨rfl,gG⟩)
  .rw[(E3 a b h0 g0 (Or.inr Zhm)).1];exact Zcj
 .rw[(E3 a b h0 g0 (Or.inl Zhn)).1];exact Zcj
theorem Ow(c:Int)(e0:0<=c)(e1:c<4294967296)(a:Int)(h0:0<=a)(h1:a<4294967296)(b:Int)(g0:0<=b)(g1:b<4294967296)(w:World):
 Calls prog 128 #[.int .i64 c,.int .i64 a,.int .i64 b] w fun e w'=>e=.returned (.int .i64 (My c a b))/\Below w.heap.size w w':=by
 have hf:=Gj;unfold My;rw[<-Cb c e0 e1];cases hn:BQ c<;>cases hz:(c%2147483648==0)<;>simp only[Bool.or_true,Bool.or_false,if_true,if_false,Bool.false_eq_true]
 all_goals(
  go_enter func128,ntmps128;go_wp2_with(first
   |(go_at_call 106;refine(De _ oM oM _).mono ?_;rintro e w' ⟨rfl,o,rfl⟩)
   |(go_at_call 132;refine(Ga _ oM oM _).mono ?_;rintro e w' ⟨rfl,rfl⟩)
   |(go_at_call 85;refine(G9 _ oM oM _).mono ?_;rintro e w1 ⟨rfl,hb1⟩))
  go_ret
  exact⟨rfl,Jx gG hb1⟩)
def rnd(x e:Int):Int:=if x=0 then 0 else(Ieee.single.nearest (decide (x<0)) x.natAbs e:Nat)
def GI(s:Bool)(x:Int):Int:=if s then -x else x
def Uo(s1:Bool)(m1 e1:Int)(s2:Bool)(m2 e2:Int):Int:=
 if e1-e2<=36 then rnd (GI s1 (m1*2^(e1-e2).toNat)+GI s2 m2) e2 else rnd (GI s1 (m1*68719476736)+GI s2 1) (e1-36)
theorem Hu{s:Bool}{m m':Nat}{e e':Int}(h:m=m')(k:e=e'):Ending.returned (.int .i64 ((Ieee.single.nearest s m e:Nat):Int))=.returned (.int .i64 ((Ieee.single.nearest s m' e':Nat):Int)):=by rw[h,k]
theorem OA(s1:Bool)(m1 e1:Int)(i1 n1 s2:Bool)(m2 e2:Int)(i2 n2:Bool)(h1:0<m1)(h2:m1<16777216)(h3:0<m2)(h4:m2<16777216)(h5: -149<=e2)(h6:e2<=e1)(h7:e1<=104)(w:World):
 Calls prog 115 #[.agg #[.bool s1,.int .u64 m1,.int .i64 e1,.bool i1,.bool n1],.agg #[.bool s2,.int .u64 m2,.int .i64 e2,.bool i2,.bool n2]] w fun e w'=>e=.returned (.int .i64 (Uo s1 m1 e1 s2 m2 e2))/\Below w.heap.size w w':=by
 unfold Uo;by_cases c:e1-e2<=36
 .rw[if_pos c];generalize hd:e1-e2=d at *;have hd0:0<=d:=oM;obtain⟨X,hXX⟩:=gA (m1*2^d.toNat)
  have hX:0<X/\X<1152921504606846976:=by
   rw[<-hXX];have p1:(1:Int)<=2^d.toNat:=Int.pow_pos dE;have p2:(2:Int)^d.toNat<=68719476736:=by
    have h:2^d.toNat<=68719476736:=gH (Nat.pow_le_pow_right dE (show d.toNat<=36 by omega)) dE;have h':((2^d.toNat:Nat):Int)<=((68719476736:Nat):Int):=Int.ofNat_le.2 h;rw[Int.natCast_pow]at h';exact h'
   refine⟨Int.mul_pos h1 oM,?_⟩;have:=Int.mul_le_mul (show m1<=16777215 by omega) p2 oM oM;omega
  have hw:IntKind.u64.wrap (m1*2^d.toNat)=X:=by rw[hXX,IntKind.wrap_u64];omega
  rw[hXX];clear hXX;cases s1<;>cases s2<;>simp only[GI,if_true,if_false,Bool.false_eq_true]<;>unfold rnd
  .rw[if_neg oM,decide_eq_false oM,show(X+m2).natAbs=(X+m2).toNat by omega];exact Y9
  .rcases Int.lt_trichotomy (X+ -m2) 0 with c2|c2|c2
   .rw[if_neg oM,decide_eq_true oM,show(X+ -m2).natAbs=(-(X+ -m2)).toNat by omega];exact Y9
   .exact Zdl
   .rw[if_neg oM,decide_eq_false oM,show(X+ -m2).natAbs=(X+ -m2).toNat by omega];exact Y9
  .rcases Int.lt_trichotomy (-X+m2) 0 with c2|c2|c2
   .rw[if_neg oM,decide_eq_true oM,show(-X+m2).natAbs=(-(-X+m2)).toNat by omega];exact Y9
   .exact Zdl
   .rw[if_neg oM,decide_eq_false oM,show(-X+m2).natAbs=(-X+m2).toNat by omega];exact Y9
  .rw[if_neg oM,decide_eq_true oM,show(-X+ -m2).natAbs=(-(-X+ -m2)).toNat by omega];exact Y9
 .rw[if_neg c];obtain⟨X,hXX⟩:=gA (m1*68719476736)
  have hX:68719476736<=X/\X<1152921504606846976:=oM;have hw:IntKind.u64.wrap (m1*68719476736)=X:=by rw[hXX,IntKind.wrap_u64];omega
  rw[hXX];have hX3:m1*68719476736<18446744073709551616:=oM;cases s1<;>cases s2<;>simp only[GI,if_true,if_false,Bool.false_eq_true]<;>unfold rnd
  .rw[if_neg oM,decide_eq_false oM,show(X+1).natAbs=(X+1).toNat by omega];exact Y9
  .rw[if_neg oM,decide_eq_false oM,show(X+ -1).natAbs=(X+ -1).toNat by omega];exact Y9
  .rw[if_neg oM,decide_eq_true oM,show(-X+1).natAbs=(-(-X+1)).toNat by omega];exact Y9
  .rw[if_neg oM,decide_eq_true oM,show(-X+ -1).natAbs=(-(-X+ -1)).toNat by omega];exact Y9
def UY(w:World)(b:Nat):Nat:=match w.cell? ⟨b,1,none⟩with
 |some (.int _ x)=>x.toNat
 |_=>0
theorem IR(w:World)(v0 v2 v3 v4:Value)(X:Int)(t:TypeId)(p:Obj):UY ((w.alloc (.cells #[v0,.int .u64 X,v2,v3,v4] t)).alloc p) w.heap.size=X.toNat:=by
 have:((w.alloc (.cells #[v0,.int .u64 X,v2,v3,v4] t)).alloc p).cell? ⟨w.heap.size,1,none⟩=some (.int .u64 X):=by
  simp
 unfold UY;rw[this]
theorem rup_any(s:Bool)(m e:Int)(i n:Bool)(h0:0<m)(h1:m<16777216)(e0: -149<=e)(e1:e<=104)(w:World):
 Calls prog 131 #[.agg #[.bool s,.int .u64 m,.int .i64 e,.bool i,.bool n]] w fun x w'=>(∃k:Nat,k<=23/\x=.returned (.agg #[.bool s,.int .u64 (m*2^k),.int .i64 (e-k),.bool i,.bool n])/\8388608<=m*2^k/\m*2^k<16777216)/\∃o p,w'=(w.alloc o).alloc p:=by
 go_enter func131,ntmps131;go_wp2
 go_loopw [4] (fun _ wr=>∃ (k:Nat),k<=23/\m*2^k<16777216/\wr=(w.alloc (.cells #[.bool s,.int .u64 (m*2^k),.int .i64 (e-k),.bool i,.bool n] 167)).alloc (.cells #[.bool false,.int .u64 0,.int .i64 0,.bool false,.bool false] 167)) (fun _ wr=>16777216-UY wr w.heap.size)
 case atStart=>exact⟨0,oM,by simpa using h1,sM⟩
 case round=>
  obtain⟨k,hk,hm,rfl⟩:=hrel;have hP:(1:Int)<=2^k:=Int.pow_pos dE;have hX:0<m*2^k:=Int.mul_pos h0 oM;by_cases c:m*2^k<8388608
  .have hs:m*2^(k+1)=m*2^k*2:=by rw[Int.pow_succ,<-Int.mul_assoc]
   have HS:Hid (m*2^(k+1)=m*2^k*2):=hs;have hk23:k<=22:=by
    rcases Nat.lt_or_ge 22 k with d|d
    .exfalso;have h2:8388608<=2^k:=gH (show 8388608<=2^23 by decide) (Nat.pow_le_pow_right dE oM);have h3:((8388608:Nat):Int)<=((2^k:Nat):Int):=Int.ofNat_le.2 h2;rw[Int.natCast_pow]at h3;have h4:(1:Int)*2^k<=m*2^k:=Int.mul_le_mul_of_nonneg_right oM oM;have h5:((8388608:Nat):Int)=8388608:=rfl;have h6:(((2:Nat):Int))^k=(2:Int)^k:=rfl;omega
    .exact d
   clear hs;generalize m*2^k=X at *;go_wp2;go_roundw
   case rel=>
    refine⟨k+1,oM,?_,?_⟩
    .rw[HS.out];omega
    .rw[HS.out,show e-(k:Int)-1=e-((k+1:Nat):Int) by omega]
   case measure=>rw[IR,IR];omega
  .generalize hXX:m*2^k=X at *;have HX:Hid (m*2^k=X):=hXX;clear hXX;go_wp2;go_returns;exact⟨⟨k,hk,by rw[HX.out],by rw[HX.out];omega,by rw[HX.out];omega⟩,_,_,rfl⟩
theorem PZ(p t k n δ:Nat)(hp:1<=p)(ht:1<=t)(hk:2^p<=k)(hk2:k<2*2^p)(h:n=k*2^t+δ\/n+δ=k*2^t)(hδ:4*δ<2^t):Gy p n 1 (t*2^p+k):=by
 have hB:0<2^p:=Nat.two_pow_pos p;have v0:V p (t*2^p+k)=k*2^t:=GK p t k oM (Or.inr hk);have v1:V p (t*2^p+k+1)=(k+1)*2^t:=by rw[Nat.add_assoc];exact GK p t (k+1) oM (Or.inr oM)
 have e1:(k+1)*2^t=k*2^t+2^t:=by rw[Nat.add_mul,Nat.one_mul]
 have hlow:∀q,t*2^p+k=q+1->2*(V p q)+2^t<=2*(k*2^t):=by
  intro q hq;have hst:=Mo p q;rw[<-hq,v0]at hst;have:t-1<=q/2^p-1:=by
   have:t<=q/2^p:=(Nat.le_div_iff_mul_le hB).2 oM;omega
  have hle:2^(t-1)<=2^(q/2^p-1):=Nat.pow_le_pow_right dE this;have:2^t=2*2^(t-1):=by
   obtain⟨e,rfl⟩:∃e,t=e+1:=⟨t-1,oM⟩
   rw[Nat.add_sub_cancel,Nat.pow_succ,Nat.mul_comm]
  omega
 refine⟨?_,?_,?_,?_⟩
 .rw[v0,v1,e1,Nat.mul_one];omega
 .rw[v0,v1,e1,Nat.mul_one];omega
 .intro q hq;have:=hlow q hq;rw[v0,Nat.mul_one];omega
 .intro q hq;have:=hlow q hq;rw[v0,Nat.mul_one];omega
theorem NA(m:Nat)(e:Int)(x δ:Nat)(i:Int)(hm:8388608<=m)(hm2:m<16777216)(hi: -113<i)(j:Int)(hj: -149<=j)(u:Nat)(hu:(u:Int)=i-j)(hx:x=m*2^u+δ\/x+δ=m*2^u)(hδ:4*δ<2^u):
 Cj 23 (-149) x j=(i+149).toNat*8388608+m:=by
 obtain⟨c,hc⟩:∃c:Nat,(c:Int)=j+149:=⟨(j+149).toNat,oM⟩
 have h1:=FY 23 (-149) x j dE c 0 oM;have ht:(i+149).toNat=u+c:=oM;have h2:Gy 23 (x*2^c) 1 ((i+149).toNat*2^23+m):=by
  refine PZ 23 (i+149).toNat m (x*2^c) (δ*2^c) dE oM oM oM ?_ ?_
  .rw[ht,Nat.pow_add,<-Nat.mul_assoc,<-Nat.add_mul];rcases hx with hx|hx
   .left;rw[hx]
   .right;rw[<-Nat.add_mul,hx]
  .rw[ht,Nat.pow_add,<-Nat.mul_assoc];exact Nat.mul_lt_mul_of_pos_right hδ (Nat.two_pow_pos c)
 exact h1.unique h2 dE dE sM
theorem IC(s:Bool)(m u:Nat):Ieee.signed s m u=GI s ((m:Int)*2^u):=by
 unfold Ieee.signed GI;rw[Nat.shiftLeft_eq];push_cast;rfl
theorem CP(a b:Int){d e:Ieee.Datum}(h:Ieee.single.read a.toNat=d)(k:Ieee.single.read b.toNat=e):DQ a b=Ry ((d.sum e).map Ieee.single.write):=by
 unfold DQ Ieee.Format.add;rw[h,k]
theorem Gm(s:Bool)(e:Int):((Ieee.single.nearest s 0 e:Nat):Int)=I4 s:=by
 exact Zfy
theorem OO(s1:Bool)(m1 e1:Int)(s2:Bool)(m2 e2:Int)(h1:0<m1)(h2:m1<16777216)(h3:0<m2)(h4:m2<16777216)(h5: -149<=e2)(h6:e2<=e1)(h7:e1= -149\/8388608<=m1):
 Ry (((Ieee.Datum.number s1 m1.toNat e1).sum (.number s2 m2.toNat e2)).map Ieee.single.write)=Uo s1 m1 e1 s2 m2 e2:=by
 simp only[Ieee.Datum.sum,Option.map_some,Ieee.Format.write];rw[show min e1 e2=e2 by omega,show(e2-e2).toNat=0 by omega,IC,IC,Int.toNat_of_nonneg oM,Int.toNat_of_nonneg oM,Int.pow_zero,Int.mul_one];have hP:(1:Int)<=2^(e1-e2).toNat:=Int.pow_pos dE;have hX:0<m1*2^(e1-e2).toNat:=Int.mul_pos h1 oM;unfold Uo;by_cases c:e1-e2<=36
 .rw[if_pos c];generalize m1*2^(e1-e2).toNat=X at *;unfold rnd;by_cases z:GI s1 X+GI s2 m2=0
  .rw[if_pos z,if_pos z,z];have:(s1&&s2)=false:=by
    cases s1<;>cases s2<;>simp only[GI,if_true,if_false,Bool.false_eq_true]at z<;>first|rfl|omega
   rw[this];exact Gm false e2
  .rw[if_neg z,if_neg z];rfl
 .rw[if_neg c];have hm8:8388608<=m1:=oM;have hpow:(2:Int)^(e1-e2).toNat=2^(e1-e2-37).toNat*137438953472:=by
   have:(e1-e2).toNat=(e1-e2-37).toNat+37:=oM;rw[this,Int.pow_add];rfl
  have hP2:(1:Int)<=2^(e1-e2-37).toNat:=Int.pow_pos dE;have hbig:137438953472<=(2:Int)^(e1-e2).toNat:=oM;have hXbig:137438953472<=m1*2^(e1-e2).toNat:=by
   have:=Int.mul_le_mul (show(1:Int)<=m1 by omega) hbig dE oM;omega
  have hz1:¬ (GI s1 (m1*2^(e1-e2).toNat)+GI s2 m2=0):=by
   generalize m1*2^(e1-e2).toNat=X at *;exact Zds
  have hz2:¬ (GI s1 (m1*68719476736)+GI s2 1=0):=by
   exact Zds
  have hs1:decide (GI s1 (m1*2^(e1-e2).toNat)+GI s2 m2<0)=s1:=by
   generalize m1*2^(e1-e2).toNat=X at *;cases s1<;>cases s2<;>simp only[GI,if_true,if_false,Bool.false_eq_true]<;>simp<;>omega
  have hs2:decide (GI s1 (m1*68719476736)+GI s2 1<0)=s1:=by
   cases s1<;>cases s2<;>simp only[GI,if_true,if_false,Bool.false_eq_true]<;>simp<;>omega
  unfold rnd;rw[if_neg hz1,if_neg hz2,hs1,hs2,BN,BN];have r1:Cj 23 (-149) (GI s1 (m1*2^(e1-e2).toNat)+GI s2 m2).natAbs e2=(e1+149).toNat*8388608+m1.toNat:=by
   refine NA m1.toNat 0 _ m2.toNat e1 oM oM oM e2 h5 (e1-e2).toNat oM ?_ ?_
   .have hcast:((m1.toNat*2^(e1-e2).toNat:Nat):Int)=m1*2^(e1-e2).toNat:=by
     rw[Int.natCast_mul,Int.natCast_pow,Int.toNat_of_nonneg oM];rfl
    generalize m1.toNat*2^(e1-e2).toNat=Y at *;generalize m1*2^(e1-e2).toNat=X at *;exact Zds
   .have hcast:((2^(e1-e2).toNat:Nat):Int)=(2:Int)^(e1-e2).toNat:=Int.natCast_pow 2 _;omega
  have r2:Cj 23 (-149) (GI s1 (m1*68719476736)+GI s2 1).natAbs (e1-36)=(e1+149).toNat*8388608+m1.toNat:=by
   refine NA m1.toNat 0 _ 1 e1 oM oM oM (e1-36) oM 36 oM ?_ dE;rw[show(2:Nat)^36=68719476736 from rfl];exact Zds
  rw[Dt,C4,r1,r2];rfl
def nk(m:Int):Nat:=23-m.toNat.log2
theorem Ef(k:Nat):((2^k:Nat):Int)=(2:Int)^k:=Int.natCast_pow 2 k
theorem Zt(m:Int)(k:Nat)(h0:0<m)(hk:k<=23)(h:8388608<=m*2^k)(h':m*2^k<16777216):k=nk m:=by
 obtain⟨n,rfl⟩:=Int.eq_ofNat_of_zero_le (Int.le_of_lt h0);rw[<-Ef,<-Int.natCast_mul]at h h';have hn:n≠0:=oM;have e:(n*2^k).log2=n.log2+k:=by
  refine(Nat.log2_eq_iff oM).2 ⟨?_,?_⟩
  .rw[Nat.pow_add];exact Nat.mul_le_mul_right _ (Nat.log2_self_le hn)
  .rw[show n.log2+k+1=n.log2+1+k by omega,Nat.pow_add];exact Nat.mul_lt_mul_of_pos_right Nat.lt_log2_self (Nat.two_pow_pos k)
 have e2:(n*2^k).log2=23:=(Nat.log2_eq_iff oM).2 ⟨oM,oM⟩;unfold nk;rw[Int.toNat_natCast];omega
theorem Qv(s:Bool)(m e:Int)(i n:Bool)(h0:0<m)(h1:m<16777216)(e0: -149<=e)(e1:e<=104)(w:World):
 Calls prog 131 #[.agg #[.bool s,.int .u64 m,.int .i64 e,.bool i,.bool n]] w fun x w'=>x=.returned (.agg #[.bool s,.int .u64 (m*2^nk m),.int .i64 (e-nk m),.bool i,.bool n])/\∃o p,w'=(w.alloc o).alloc p:=by
 refine(rup_any s m e i n h0 h1 e0 e1 w).mono ?_;rintro x w' ⟨⟨k,hk,rfl,ha,hb⟩,ho⟩;have:=Zt m k h0 hk ha hb;subst this;exact⟨rfl,ho⟩
theorem F0(m:Int)(h0:0<m)(h1:m<16777216):nk m<=23/\8388608<=m*2^nk m/\m*2^nk m<16777216:=by
 obtain⟨n,rfl⟩:=Int.eq_ofNat_of_zero_le (Int.le_of_lt h0);have hn:n≠0:=oM;have hl:n.log2<24:=(Nat.log2_lt hn).2 oM;have lo:=Nat.log2_self_le hn;have hi:n<2^(n.log2+1):=Nat.lt_log2_self;unfold nk;rw[Int.toNat_natCast,<-Ef,<-Int.natCast_mul];refine⟨oM,?_,?_⟩
 .have:2^n.log2*2^(23-n.log2)<=n*2^(23-n.log2):=Nat.mul_le_mul_right _ lo;rw[<-Nat.pow_add,show n.log2+(23-n.log2)=23 by omega]at this;omega
 .have:n*2^(23-n.log2)<2^(n.log2+1)*2^(23-n.log2):=Nat.mul_lt_mul_of_pos_right hi (Nat.two_pow_pos _);rw[<-Nat.pow_add,show n.log2+1+(23-n.log2)=24 by omega]at this;omega
theorem N6(a:Int)(h0:0<=a)(h1:a<4294967296)(hi:DG a=false)(hn:BQ a=false):rg a.toNat<2139095040/\ng a.toNat=B8 a/\(mg a.toNat:Int)=nM a/\(te a.toNat:Int)=nE a+149:=by
 have h:=BR a h0 h1 hi hn;have hf:rg a.toNat<2139095040:=by
  rcases Nat.lt_trichotomy (rg a.toNat) 2139095040 with c|c|c
  .exact c
  .rw[Eh _ c]at h;cases h.1
  .rw[Ei _ c]at h;cases h.1
 rw[Ct _ hf]at h;have e:=h.1;injection e with e1 e2 e3;exact⟨hf,e1,oM,oM⟩
theorem Eu(a b:Int){d e:Ieee.Datum}(h:Ieee.single.read a.toNat=d)(k:Ieee.single.read b.toNat=e):GA a b=Ry ((d.quotient 25 e).map Ieee.single.write):=by
 unfold GA Ieee.Format.div;rw[h,k];rfl
theorem V3(p q:Nat):(2*((p:Int)*274877906944/(q:Int))+(if(p:Int)*274877906944%(q:Int)=0 then 0 else 1)).toNat=2*((p<<<38)/q)+((p<<<38)%q != 0).toNat:=by
 have e:(p:Int)*(274877906944:Int)=((p<<<38:Nat):Int):=by
  rw[Nat.shiftLeft_eq,Int.natCast_mul,Ef];rfl
 rw[e,<-Int.natCast_ediv,<-Int.natCast_emod];generalize (p<<<38)/q=x;generalize (p<<<38)%q=y;have hb:(y != 0).toNat=if y=0 then 0 else 1:=by by_cases c:y=0<;>simp[c]
 rw[hb];by_cases c:y=0
 .rw[if_pos c,if_pos oM];omega
 .rw[if_neg c,if_neg oM];omega
theorem TC(M N j k r:Nat)(E F:Int)(ta tb:Nat)(hE:(ta:Int)=E+149)(hF:(tb:Int)=F+149)(hj:j<=23)(hk:k<=23)(hM:8388608<=M*2^j)(hN:8388608<=N*2^k)(hN2:N*2^k<16777216)(hNpos:0<N)
 (hnear:Gy 23 (M*2^ta*2^149) (N*2^tb) r):
 r=Cj 23 (-149) (2*(((M*2^j)<<<38)/(N*2^k))+(((M*2^j)<<<38)%(N*2^k) != 0).toNat) (E-j-(F-k)-39):=by
 have hq:0<N*2^k:=oM;have big:25<=(2*(((M*2^j)<<<38)/(N*2^k))+(((M*2^j)<<<38)%(N*2^k) != 0).toNat).log2:=by
  refine Kv hq (j:=24) ?_;exact gH (Nat.mul_le_mul_right _ (show N*2^k<=16777216 by omega)) (gH dE (Nat.mul_le_mul_right _ hM))
 obtain⟨s,hs⟩:∃s:Nat,(s:Int)=F-k+172:=⟨(F-k+172).toNat,oM⟩
 obtain⟨x,hx⟩:∃x:Nat,(x:Int)=E-j+321:=⟨(E-j+321).toNat,oM⟩
 have h2:=LK (M*2^j) (N*2^k) 38 hq (E-j-(F-k)-39) big x s oM oM;refine hnear.unique h2 (Nat.mul_pos hNpos (Nat.two_pow_pos _)) (Nat.mul_pos hq (Nat.two_pow_pos s)) ?_;obtain⟨z,hz⟩:∃z:Nat,z=149:=⟨_,rfl⟩
 rw[<-hz];have e1:M*2^ta*2^z*(N*2^k*2^s)=M*N*2^(ta+z+k+s):=by
  rw[Nat.pow_add,Nat.pow_add,Nat.pow_add];grind
 have e2:M*2^j*2^x*(N*2^tb)=M*N*2^(j+x+tb):=by
  rw[Nat.pow_add,Nat.pow_add];grind
 rw[e1,e2,show ta+z+k+s=j+x+tb by omega]
theorem Vd(a b:Int)(h0:0<=a)(h1:a<4294967296)(g0:0<=b)(g1:b<4294967296)(hia:DG a=false)(hna:BQ a=false)(hib:DG b=false)(hnb:BQ b=false)(za:nM a≠0)(zb:nM b≠0)
 (A B:Int) (hA:nM a*2^nk (nM a)=A) (hB:nM b*2^nk (nM b)=B):
 GA a b=(Ieee.single.nearest (B8 a != B8 b) (2*(A*274877906944/B)+(if A*274877906944%B=0 then 0 else 1)).toNat (nE a-nk (nM a)-(nE b-nk (nM b))-39):Nat):=by
 obtain⟨fa,sa,ma,ta⟩:=N6 a h0 h1 hia hna;obtain⟨fb,sb,mb,tb⟩:=N6 b g0 g1 hib hnb;obtain⟨-,a1,a2,a3,a4,-⟩:=BR a h0 h1 hia hna;obtain⟨-,b1,b2,b3,b4,-⟩:=BR b g0 g1 hib hnb;obtain⟨ka,A1,A2⟩:=F0 (nM a) oM a2;obtain⟨kb,B1,B2⟩:=F0 (nM b) oM b2;obtain⟨r,hr,hnear⟩:=YJ a.toNat b.toNat fa fb oM oM;have cA:A=((mg a.toNat*2^nk (nM a):Nat):Int):=by rw[Int.natCast_mul,Ef,ma,hA]
 have cB:B=((mg b.toNat*2^nk (nM b):Nat):Int):=by rw[Int.natCast_mul,Ef,mb,hB]
 rw[IV,IV]at hnear;have Bl:=TC (mg a.toNat) (mg b.toNat) (nk (nM a)) (nk (nM b)) r (nE a) (nE b) (te a.toNat) (te b.toNat) ta tb ka kb oM oM oM oM hnear;unfold GA;rw[hr,sa,sb,DZ];show((wd (B8 a != B8 b) r:Nat):Int)=_;rw[BN,Dt,C4,Js,cA,cB,V3,<-Bl]
theorem NF(a b:Int)(h0:0<=a)(h1:a<4294967296)(g0:0<=b)(g1:b<4294967296)(h:BQ a=true\/BQ b=true):GA a b=2143289344:=by
 rcases h with h|h
 .obtain⟨s,t,e⟩:=Fs a h0 h1 h;rw[Eu a b e rfl];cases Ieee.single.read b.toNat<;>rfl
 .obtain⟨s,t,e⟩:=Fs b g0 g1 h;rw[Eu a b rfl e];cases Ieee.single.read a.toNat<;>rfl
theorem QK(s:Bool):((Ieee.single.write (.number s 0 0):Nat):Int)=I4 s:=by cases s<;>decide
theorem ZO(A B:Int)(h1:8388608<=A)(h2:A<16777216)(h3:8388608<=B)(h4:B<16777216):0<=A*274877906944/B/\A*274877906944/B<1099511627776/\0<=A*274877906944%B/\A*274877906944%B<16777216:=by
 have e:=Int.mul_ediv_add_emod (A*274877906944) B;have r0:=Int.emod_nonneg (A*274877906944) (show B≠0 by omega);have r1:=Int.emod_lt_of_pos (A*274877906944) (show 0<B by omega);have q0:0<=A*274877906944/B:=Int.ediv_nonneg oM oM;refine⟨q0,?_,r0,oM⟩;apply Int.ediv_lt_of_lt_mul oM;omega
theorem Wt(a:Int)(h0:0<=a)(h1:a<4294967296)(b:Int)(g0:0<=b)(g1:b<4294967296)(w:World):
 Calls prog 125 #[.int .i64 a,.int .i64 b] w fun e w'=>e=.returned (.int .i64 (GA a b))/\Below w.heap.size w w':=by
 cases hna:BQ a
 .cases hnb:BQ b
  .cases hia:DG a
   .obtain⟨ra,a1,a2,a3,a4,a5⟩:=BR a h0 h1 hia hna;cases hib:DG b
    .obtain⟨rb,b1,b2,b3,b4,b5⟩:=BR b g0 g1 hib hnb;by_cases zb:nM b=0
     .by_cases za:nM a=0
      .have hv:GA a b=2143289344:=by rw[Eu a b ra rb,za,zb];rfl
       rw[hv];clear hv ra rb;exact Yp
      .have hv:GA a b=I4 (B8 a != B8 b)+2139095040:=by
        rw[Eu a b ra rb,zb,<-Ce,<-DZ];have:(nM a).toNat≠0:=oM;simp only[Ieee.Datum.quotient,if_neg this,Int.toNat_zero,if_true];rfl
       rw[hv];clear hv ra rb;exact Yp
     .by_cases za:nM a=0
      .have hv:GA a b=I4 (B8 a != B8 b):=by
        rw[Eu a b ra rb,za,<-DZ];have:(nM b).toNat≠0:=oM;simp only[Ieee.Datum.quotient,if_neg this,Int.toNat_zero,Nat.zero_shiftLeft,Nat.zero_div,Nat.zero_mod];exact Gm _ _
       rw[hv];clear hv ra rb;exact Yp
      .obtain⟨ka,A1,A2⟩:=F0 (nM a) oM a2;obtain⟨kb,B1,B2⟩:=F0 (nM b) oM b2;obtain⟨A,hA⟩:=gA (nM a*2^nk (nM a))
       obtain⟨B,hB⟩:=gA (nM b*2^nk (nM b))
       have hv:=Vd a b h0 h1 g0 g1 hia hna hib hnb za zb A B hA hB;rw[hA]at A1 A2;rw[hB]at B1 B2;have hq:=ZO A B A1 A2 B1 B2;obtain⟨EA,hEA⟩:=gA (nE a-(nk (nM a):Int))
       obtain⟨EB,hEB⟩:=gA (nE b-(nk (nM b):Int))
       rw[hEA,hEB]at hv;have eb: -172<=EA/\EA<=104/\-172<=EB/\EB<=104:=oM;rw[hv];clear hv ra rb a5 b5;obtain⟨q,hqq⟩:=gA (A*274877906944/B)
       obtain⟨r,hrr⟩:=gA (A*274877906944%B)
       rw[hqq,hrr]at hq |-;have hdiv:(A*274877906944).tdiv B=q:=by rw[<-hqq,Int.tdiv_eq_ediv_of_nonneg oM]
       have hmod:(A*274877906944).tmod B=r:=by rw[<-hrr,Int.tmod_eq_emod_of_nonneg oM]
       by_cases zr:r=0
       .rw[if_pos zr];exact Zbw
       .rw[if_neg zr];exact Zbw
    .obtain⟨rb,-,b1⟩:=Dw b g0 g1 hib;have hv:GA a b=I4 (B8 a != B8 b):=by rw[Eu a b ra rb,<-QK,<-DZ];rfl
     rw[hv];clear hv ra rb;by_cases za:nM a=0
     .skip
      exact Yp
     .skip
      exact Yp
   .obtain⟨ra,-,a1⟩:=Dw a h0 h1 hia;cases hib:DG b
    .obtain⟨rb,b1,b2,b3,b4,b5⟩:=BR b g0 g1 hib hnb;have hv:GA a b=I4 (B8 a != B8 b)+2139095040:=by rw[Eu a b ra rb,<-Ce,<-DZ];rfl
     rw[hv];clear hv ra rb;exact Yp
    .obtain⟨rb,-,b1⟩:=Dw b g0 g1 hib;have hv:GA a b=2143289344:=by rw[Eu a b ra rb];rfl
     rw[hv];clear hv ra rb;exact Yp
  .have hv:=NF a b h0 h1 g0 g1 (Or.inr hnb);rw[hv];clear hv;exact Yp
 .have hv:=NF a b h0 h1 g0 g1 (Or.inl hna);rw[hv];clear hv;exact Yp
theorem Nz(a b:Int)(h0:0<=a)(h1:a<4294967296)(g0:0<=b)(g1:b<4294967296)(h:BQ a=true\/BQ b=true):DQ a b=2143289344:=by
 rcases h with h|h
 .obtain⟨s,t,e⟩:=Fs a h0 h1 h;rw[CP a b e rfl];cases Ieee.single.read b.toNat<;>rfl
 .obtain⟨s,t,e⟩:=Fs b g0 g1 h;rw[CP a b rfl e];cases Ieee.single.read a.toNat<;>rfl
theorem Lu(a b:Int)(h0:0<=a)(h1:a<4294967296)(g0:0<=b)(g1:b<4294967296){s:Bool}{i:Int}(ra:Ieee.single.read a.toNat=.number s 0 i)(rb:Ieee.single.read b.toNat=.number (B8 b) (nM b).toNat (nE b))(hb:nM b≠0)(hb0:0<=nM b)(hi: -149<=i)(hj: -149<=nE b):
 DQ a b=(Ieee.single.nearest (B8 b) (nM b).toNat (nE b):Nat):=by
 rw[CP a b ra rb];simp only[Ieee.Datum.sum,Option.map_some,Ieee.Format.write];generalize hbase:min i (nE b)=base;have hz:Ieee.signed s 0 (i-base).toNat=0:=by unfold Ieee.signed;simp
 rw[hz,Int.zero_add,IC];have hP:(1:Int)<=2^(nE b-base).toNat:=Int.pow_pos dE;have hX:0<((nM b).toNat:Int)*2^(nE b-base).toNat:=Int.mul_pos oM oM;have e1:¬ (GI (B8 b) (((nM b).toNat:Int)*2^(nE b-base).toNat)=0):=by
  unfold GI;split<;>omega
 have e2:decide (GI (B8 b) (((nM b).toNat:Int)*2^(nE b-base).toNat)<0)=B8 b:=by
  generalize ((nM b).toNat:Int)*2^(nE b-base).toNat=X at *;cases B8 b<;>simp only[GI,if_true,if_false,Bool.false_eq_true]<;>simp<;>omega
 have e3:(GI (B8 b) (((nM b).toNat:Int)*2^(nE b-base).toNat)).natAbs=(nM b).toNat*2^(nE b-base).toNat:=by
  have hc:(((nM b).toNat*2^(nE b-base).toNat:Nat):Int)=((nM b).toNat:Int)*2^(nE b-base).toNat:=by rw[Int.natCast_mul,Int.natCast_pow];rfl
  unfold GI;split<;>omega
 rw[if_neg e1,e2,e3];show((Ieee.single.nearest (B8 b) _ base:Nat):Int)=_;rw[BN,BN,Dt,C4];obtain⟨c,hc⟩:∃c:Nat,(c:Int)=base+149:=⟨(base+149).toNat,oM⟩
 obtain⟨d,hd⟩:∃d:Nat,(d:Int)=nE b+149:=⟨(nE b+149).toNat,oM⟩
 have r1:=OC ((nM b).toNat*2^(nE b-base).toNat) c;have r2:=OC (nM b).toNat d;rw[show -149+(c:Int)=base by omega]at r1;rw[show -149+(d:Int)=nE b by omega]at r2;rw[r1,r2,Nat.mul_assoc,<-Nat.pow_add,show(nE b-base).toNat+c=d by omega]
theorem Ki(a:Int)(h0:0<=a)(h1:a<4294967296)(b:Int)(g0:0<=b)(g1:b<4294967296)(w:World):
 Calls prog 95 #[.int .i64 a,.int .i64 b] w fun e w'=>e=.returned (.int .i64 (DQ a b))/\Below w.heap.size w w':=by
 cases hna:BQ a
 .cases hnb:BQ b
  .cases hia:DG a
   .obtain⟨ra,a1,a2,a3,a4,a5⟩:=BR a h0 h1 hia hna;cases hib:DG b
    .obtain⟨rb,b1,b2,b3,b4,b5⟩:=BR b g0 g1 hib hnb;by_cases za:nM a=0
     .by_cases zb:nM b=0
      .have hv:DQ a b=I4 (B8 a&&B8 b):=by
        rw[CP a b ra rb,za,zb];simp only[Ieee.Datum.sum,Option.map_some,Ieee.Format.write];have:Ieee.signed (B8 a) (0:Int).toNat (nE a-min (nE a) (nE b)).toNat+Ieee.signed (B8 b) (0:Int).toNat (nE b-min (nE a) (nE b)).toNat=0:=by unfold Ieee.signed;simp
        rw[this,if_pos rfl];exact Gm _ _
       rw[hv];clear hv ra rb;cases hma:B8 a
       .rw[Bool.false_and];exact UE
       .rw[Bool.true_and];exact UE
      .have hv:=Lu a b h0 h1 g0 g1 (s:=B8 a) (i:=nE a) (by rw[ra,za];rfl) rb zb b1 a3 b3;rw[hv];clear hv ra rb;exact UE
     .by_cases zb:nM b=0
      .have hv:=Lu b a g0 g1 h0 h1 (s:=B8 b) (i:=nE b) (by rw[rb,zb];rfl) ra za a1 b3 a3;rw[Ls,hv];clear hv ra rb;exact UE
      .by_cases hE:nE a<nE b
       .have hv:DQ a b=Uo (B8 b) (nM b) (nE b) (B8 a) (nM a) (nE a):=by
         rw[Ls,CP b a rb ra,OO _ _ _ _ _ _ oM b2 oM a2 a3 oM b5]
        exact Zbu
       .have hv:DQ a b=Uo (B8 a) (nM a) (nE a) (B8 b) (nM b) (nE b):=by
         rw[CP a b ra rb,OO _ _ _ _ _ _ oM a2 oM b2 b3 oM a5]
        exact Zbu
    .obtain⟨rb,-,b1⟩:=Dw b g0 g1 hib;have hv:DQ a b=I4 (B8 b)+2139095040:=by rw[CP a b ra rb,<-Ce];rfl
     rw[hv];clear hv ra rb;exact UE
   .obtain⟨ra,-,a1⟩:=Dw a h0 h1 hia;cases hib:DG b
    .obtain⟨rb,b1,b2,b3,b4,b5⟩:=BR b g0 g1 hib hnb;have hv:DQ a b=I4 (B8 a)+2139095040:=by rw[CP a b ra rb,<-Ce];rfl
     rw[hv];clear hv ra rb;exact UE
    .obtain⟨rb,-,b1⟩:=Dw b g0 g1 hib;cases hma:B8 a<;>cases hmb:B8 b<;>rw[hma]at ra<;>rw[hmb]at rb
     .have hv:DQ a b=I4 false+2139095040:=by rw[CP a b ra rb,<-Ce];rfl
      rw[hv];clear hv ra rb;exact UE
     .have hv:DQ a b=2143289344:=by rw[CP a b ra rb];rfl
      rw[hv];clear hv ra rb;exact UE
     .have hv:DQ a b=2143289344:=by rw[CP a b ra rb];rfl
      rw[hv];clear hv ra rb;exact UE
     .have hv:DQ a b=I4 true+2139095040:=by rw[CP a b ra rb,<-Ce];rfl
      rw[hv];clear hv ra rb;exact UE
  .have hv:=Nz a b h0 h1 g0 g1 (Or.inr hnb);rw[hv];clear hv;exact UE
 .have hv:=Nz a b h0 h1 g0 g1 (Or.inl hna);rw[hv];clear hv;exact UE
theorem J4(d e:Ieee.Datum)(h:d.isNaN=true):e.sum d=none:=by
 cases d<;>simp[Ieee.Datum.isNaN]at h
 cases e<;>rfl
theorem YV(a b:Int)(g0:0<=b)(g1:b<4294967296):NP a b=DQ a (JI b):=by
 cases hn:nan b
 .rw[NO b g0 g1 hn];unfold NP DQ Ieee.Format.sub Ieee.Format.add;rw[Int.toNat_natCast,TH _ oM]
 .rw[NM b g0 g1 hn];have h2:2139095040<rg b.toNat:=by rw[JV b g0]at hn;simpa using hn
  unfold NP DQ Ieee.Format.sub Ieee.Format.add;rw[Ei _ h2,show Ieee.single.read (2143289344:Int).toNat=.nan false 4194304 from by decide,J4 _ _ rfl,J4 _ _ rfl]
theorem Xr(a:Int)(h0:0<=a)(h1:a<4294967296)(b:Int)(g0:0<=b)(g1:b<4294967296)(w:World):
 Calls prog 124 #[.int .i64 a,.int .i64 b] w fun e w'=>e=.returned (.int .i64 (NP a b))/\Below w.heap.size w w':=by
 rw[YV a b g0 g1];have hl:=R6 b g0 g1;go_enter func124,ntmps124;go_wp2_with(first
  |(go_at_call 120;refine(Oo _ g0 g1 _).mono ?_;rintro e w1 ⟨rfl,hb1⟩)
  |(go_at_call 95;refine(Ki _ h0 h1 _ hl.1 hl.2 _).mono ?_;rintro e w2 ⟨rfl,hb2⟩))
 go_ret;exact⟨rfl,Jx hb1 hb2⟩
theorem FU(a:Int){d:Ieee.Datum}(h:Ieee.single.read a.toNat=d):DA a=Ry ((d.root 25).map Ieee.single.write):=by
 unfold DA Ieee.Format.sqrt;rw[h];rfl
theorem T8(a:Int)(h0:0<=a)(h1:a<4294967296)(hia:DG a=false)(hna:BQ a=false)(za:nM a≠0)(hs:B8 a=false)(root n:Nat)(e:Int)(he:e%2=0)
 (hn:(n:Int)=nM a*2^nk (nM a)*68719476736/\e=nE a-nk (nM a)-36\/(n:Int)=nM a*2^nk (nM a)*68719476736*2/\e=nE a-nk (nM a)-37) (hr1:root*root<=n) (hr2:n<(root+1)*(root+1)):
 DA a=(Ieee.single.nearest false (2*root+(if root*root<n then 1 else 0)) (e/2-1):Nat):=by
 obtain⟨fa,sa,ma,ta⟩:=N6 a h0 h1 hia hna;obtain⟨-,a1,a2,a3,a4,-⟩:=BR a h0 h1 hia hna;obtain⟨ka,A1,A2⟩:=F0 (nM a) oM a2;obtain⟨r,hr,hnear⟩:=Oq a.toNat fa (by rw[sa];exact hs) oM;have hst:(root*root != n).toNat=if root*root<n then 1 else 0:=by
  by_cases c:root*root=n
  .rw[if_neg oM];simp[c]
  .rw[if_pos oM];simp[c]
 obtain⟨x,hx⟩:∃x:Nat,(x:Int)=e/2+149:=⟨(e/2+149).toNat,oM⟩
 have hn59:576460752303423488<=n:=oM;have hroot:16777216<=root:=by
  rcases Nat.lt_or_ge root 16777216 with c|c
  .exfalso;have:=Nat.mul_self_le_mul_self (show root+1<=16777216 from c);omega
  .exact c
 have big:23+2<=(2*root+(root*root != n).toNat).log2:=by
  apply(Nat.le_log2 oM).2;omega
 have h2:=LL 23 (-149) root n (e/2-1) dE hr1 hr2 big x oM;have hval:n*(2^x*2^x)=mv a.toNat*2^149:=by
  have cA:nM a*2^nk (nM a)=((mg a.toNat*2^nk (nM a):Nat):Int):=by rw[Int.natCast_mul,Ef,ma]
  rw[cA]at hn;obtain⟨z,hz⟩:∃z:Nat,z=149:=⟨_,rfl⟩
  rw[IV,<-hz];rcases hn with⟨hn,hE⟩|⟨hn,hE⟩
  .have hn':n=mg a.toNat*2^nk (nM a)*2^36:=by
    have:(2:Nat)^36=68719476736:=rfl;omega
   exact Zfp
  .have hn':n=mg a.toNat*2^nk (nM a)*2^37:=by
    have:(2:Nat)^37=68719476736*2:=rfl;omega
   exact Zfp
 rw[hval,hst]at h2;have Bl:=hnear.unique h2;unfold DA;rw[hr];show((wd false r:Nat):Int)=_;rw[BN,Dt,C4,Js,<-Bl]
def rrel(n k root:Nat):Prop:=root*root<=n/\n<(root+2^k)*(root+2^k)/\root+2^k<=4294967296
def SC(k:Nat):Int:=if k=0 then 0 else 2^(k-1)
theorem SE(k:Nat):SC (k+1)=2^k:=by unfold SC;rw[if_neg oM];rfl
theorem SD(k:Nat):(2:Int)^k/2=SC k:=by
 unfold SC;rcases Nat.eq_zero_or_pos k with c|c
 .subst c;rfl
 .rw[if_neg oM];obtain⟨j,rfl⟩:∃j,k=j+1:=⟨k-1,oM⟩
  rw[Int.pow_succ,Nat.add_sub_cancel];omega
theorem TU(a:Int)(h0:0<=a)(h1:a<4294967296)(hia:DG a=false)(hna:BQ a=false)(za:nM a≠0)(hs:B8 a=false)(w:World):
 Calls prog 119 #[.int .i64 a] w fun e w'=>e=.returned (.int .i64 (DA a))/\Below w.heap.size w w':=by
 obtain⟨ra,a1,a2,a3,a4,a5⟩:=BR a h0 h1 hia hna;obtain⟨ka,A1,A2⟩:=F0 (nM a) oM a2;obtain⟨A,hA⟩:=gA (nM a*2^nk (nM a))
 obtain⟨EA,hEA⟩:=gA (nE a-(nk (nM a):Int))
 have hv:=T8 a h0 h1 hia hna za hs;rw[hA,hEA]at hv;rw[hA]at A1 A2;have eb: -172<=EA/\EA<=104:=oM;clear ra a5;have HV:Hid (∀ (root n:Nat) (e:Int),e%2=0->((n:Int)=A*68719476736/\e=EA-36\/(n:Int)=A*68719476736*2/\e=EA-37)->root*root<=n->n<(root+1)*(root+1)->DA a=(Ieee.single.nearest false (2*root+(if root*root<n then 1 else 0)) (e/2-1):Nat)):=fun root n e p q r s=>hv root n e p q r s;clear hv;generalize hF:DA a=F at *;clear hF;by_cases c:EA%2=0
 .skip
  obtain⟨N,hN⟩:∃N:Int,A*68719476736=N:=⟨_,rfl⟩
  obtain⟨e,he⟩:∃e:Int,EA-36=e:=⟨_,rfl⟩
  obtain⟨E2,hE2⟩:∃E2:Int,e/2=E2:=⟨_,rfl⟩
  have hNb:576460752303423488<=N/\N<2305843009213693952:=oM;obtain⟨n,hn⟩:∃n:Nat,(n:Int)=N:=⟨N.toNat,oM⟩
  have hv2:=fun root=>HV.out root n e oM (Or.inl ⟨oM,oM⟩);rw[hE2]at hv2;have htd:e.tdiv 2=E2:=by rw[<-hE2,Int.tdiv_eq_ediv];split<;>omega
  have hodd:e.tmod 2=0:=by rw[Int.tmod_eq_emod];split<;>omega
  exact Zaj
 .skip
  have hodd:(EA-36).tmod 2≠0:=by rw[Int.tmod_eq_emod];split<;>omega
  obtain⟨N,hN⟩:∃N:Int,A*68719476736*2=N:=⟨_,rfl⟩
  obtain⟨e,he⟩:∃e:Int,EA-36-1=e:=⟨_,rfl⟩
  obtain⟨E2,hE2⟩:∃E2:Int,e/2=E2:=⟨_,rfl⟩
  have hNb:576460752303423488<=N/\N<2305843009213693952:=oM;obtain⟨n,hn⟩:∃n:Nat,(n:Int)=N:=⟨N.toNat,oM⟩
  have hv2:=fun root=>HV.out root n e oM (Or.inr ⟨oM,oM⟩);rw[hE2]at hv2;have htd:e.tdiv 2=E2:=by rw[<-hE2,Int.tdiv_eq_ediv];split<;>omega
  exact Zaj
def dn(o:Option Nat):Nat:=match o with
 |some _=>0
 |none=>1
section
variable {P : Program} (w : World)
end
section
variable (w : World) (n : Nat)
@[go_sem] theorem alloc_drewN (o:Obj):(w.drewN n).alloc o=(w.alloc o).drewN n:=rfl
@[go_sem] theorem setCell_drewN (a:Addr) (v:Value):(w.drewN n).setCell a v=(w.setCell a v).drewN n:=rfl
end
theorem Ik{w:World}{a:Addr}{v:Value}(h:w.cell? a=some v):a.block<w.heap.size:=by
 rcases Nat.lt_or_ge a.block w.heap.size with c|c
 .exact c
 .have:w.heap[a.block]? =none:=Array.getElem?_eq_none c;simp[World.cell?,this]at h
structure Kept(w:World)(cs:List (Addr×Value))(v:World):Prop where
 bel:Below w.heap.size w v
 all:∀p∈cs,v.cell? p.1=some p.2/\v.frozen? p.1=false
theorem PX(w:World)(o:Obj):Below w.heap.size w (w.alloc o):=(Below.refl _ _).alloc (gF _) o
section
variable {w : World} {cs : List (Addr × Value)} {g : Nat} {x y : Value} {v v' : World}
end
theorem TS(a:Int)(h0:0<=a)(h1:a<4294967296)(w:World):
 Calls prog 119 #[.int .i64 a] w fun e w'=>e=.returned (.int .i64 (DA a))/\Below w.heap.size w w':=by
 cases hna:BQ a
 .cases hia:DG a
  .by_cases za:nM a=0
   .obtain⟨ra,a1,a2,a3,a4,a5⟩:=BR a h0 h1 hia hna;have hv:DA a=a:=by
     rw[FU a ra,za];have e:((Ieee.single.nearest (B8 a) 0 (nE a):Nat):Int)=I4 (B8 a):=Gm _ _;show((Ieee.single.nearest (B8 a) 0 (nE a):Nat):Int)=a;rw[e];have h2:=N6 a h0 h1 hia hna;have h3:=EI a h0 h1;have h4:rg a.toNat=0:=by
      have:mg a.toNat=0:=oM;unfold mg at this;split at this<;>omega
     rw[h2.2.1,h4]at h3;unfold I4;omega
    rw[hv];clear hv ra a5;go_enter func119,ntmps119;exact UO
   .cases hs:B8 a
    .exact TU a h0 h1 hia hna za hs w
    .obtain⟨ra,a1,a2,a3,a4,a5⟩:=BR a h0 h1 hia hna;have hv:DA a=2143289344:=by
      rw[FU a ra,hs];have:(nM a).toNat≠0:=oM;simp only[Ieee.Datum.root,if_neg this,if_true];rfl
     rw[hv];clear hv ra a5;go_enter func119,ntmps119;exact UO
  .obtain⟨ra,-,a1⟩:=Dw a h0 h1 hia;cases hs:B8 a
   .have hv:DA a=a:=by
     rw[FU a ra,hs];have h2:rg a.toNat=2139095040:=by
      rcases Nat.lt_trichotomy (rg a.toNat) 2139095040 with c|c|c
      .rw[Ct _ c]at ra;cases ra
      .exact c
      .rw[Ei _ c]at ra;cases ra
     have h3:=EI a h0 h1;rw[<-MK a h0 h1,hs,h2]at h3;show((Ieee.single.write (.infinity false):Nat):Int)=a;rw[Ce];unfold I4;omega
    rw[hv];clear hv ra;go_enter func119,ntmps119;exact UO
   .have hv:DA a=2143289344:=by rw[FU a ra,hs];rfl
    rw[hv];clear hv ra;go_enter func119,ntmps119;exact UO
 .have hv:DA a=2143289344:=by
   obtain⟨s,t,e⟩:=Fs a h0 h1 hna;rw[FU a e];rfl
  rw[hv];clear hv;go_enter func119,ntmps119;exact UO
def Bb(w:World)(p:Option Addr)(n:Nat)(X:Nat->Value):Prop:=n=0\/∃b o,p=some ⟨b,o,none⟩/\∀i,i<n->w.cell? ⟨b,o+i,none⟩=some (X i)
theorem Bb.below{w w':World}{p:Option Addr}{n:Nat}{X:Nat->Value}(h:Bb w p n X)(k:Below w.heap.size w w'):Bb w' p n X:=by
 rcases h with h|⟨b,o,e,h⟩
 .exact .inl h
 .exact .inr ⟨b,o,e,fun i hi=>(k.cell (Ik (h i hi))).trans (h i hi)⟩
theorem Bb.congr{w:World}{p:Option Addr}{n:Nat}{X Y:Nat->Value}(h:Bb w p n X)(e:∀i,i<n->X i=Y i):Bb w p n Y:=by
 rcases h with h|⟨b,o,q,h⟩
 .exact .inl h
 .exact .inr ⟨b,o,q,fun i hi=>by rw[h i hi,e i hi]⟩

def nums(X:Nat->Int)(n:Nat):List Value:=(List.range n).map fun i=>.int .u32 (X i)
def AH(a:Int):Prop:=0<=a/\a<4294967296
theorem Do(a:Int)(h:AH a):AH (An a):=ET a h.1 h.2
theorem Rb(a b:Int):AH (DQ a b):=R1 a b
theorem Z9(a b:Int):AH (NP a b):=YW a b
theorem Z6(a b:Int):AH (FJ a b):=Fc a b
theorem Z4(a b:Int):AH (GA a b):=YS a b
theorem Vy(a:Int):AH (DA a):=Vn a
theorem Z7(a:Int)(h:AH a):AH (JI a):=R6 a h.1 h.2
theorem Z3(a:Int)(h:AH a):AH (YR a):=ET _ (by have:=h.1;omega) (by have:=h.1;omega)
theorem MD(a b:Int)(h:AH a)(k:AH b):AH (Jc a b):=by
 have h1:=h.1;have h2:=h.2;have k1:=k.1;have k2:=k.2;unfold AH Jc;split
 .decide
 .exact h
 .exact k
 .split
  .exact h
  .exact k
theorem Z5(a b:Int)(h:AH a)(k:AH b):AH (JH a b):=by
 have h1:=h.1;have h2:=h.2;have k1:=k.1;have k2:=k.2;unfold AH JH;split
 .decide
 .exact k
 .exact h
 .split
  .exact k
  .exact h
theorem Z8(c a b:Int)(h:AH a)(k:AH b):AH (My c a b):=by
 unfold My;split
 .exact Do b k
 .exact Do a h
def R7(f:Int->Int->Int)(s:Int)(X:Nat->Int):Nat->Int
 |0=>s
 |n+1=>f (R7 f s X n) (X n)
theorem FT{f:Int->Int->Int}(hf:∀a b,AH a->AH b->AH (f a b)){s:Int}(hs:AH s){X:Nat->Int}(hX:∀i,AH (X i)):∀n,AH (R7 f s X n)
 |0=>hs
 |n+1=>hf _ _ (FT hf hs hX n) (hX n)
def L5(X:Nat->Int)(n:Nat):Int:=R7 DQ 0 X n
def EP(X:Nat->Int)(n:Nat):Int:=R7 Jc 2139095040 X n
theorem JM:AH 0:=by unfold AH;decide
theorem Za(X:Nat->Int)(n:Nat)(hX:∀i,AH (X i)):AH (L5 X n):=FT (fun _ _ _ _=>R1 _ _) JM hX n
def CD(op:Int):Nat:=
 if op=3\/op=11\/op=12\/op=13\/op=14 then 1 else if op=4\/op=5\/op=6\/op=7\/op=8\/op=9\/op=10 then 2 else if op=15 then 3 else 0
def PD(b:Bool):Int:=if b then 1065353216 else 0
theorem NV(b:Bool):AH (PD b):=by unfold AH PD;cases b<;>decide
theorem BG{c:Prop}[Decidable c]{a b:Int}(h:AH a)(k:AH b):AH (if c then a else b):=by
 split
 .exact h
 .exact k
def Kb(op a b c:Int):Int:=
 if op=3 then An a else if op=11 then DA a else if op=12 then JI a else if op=13 then YR a else if op=14 then PD (ffin a)
 else if op=4 then DQ a b else if op=5 then NP a b else if op=6 then FJ a b else if op=7 then GA a b else if op=8 then Jc a b else if op=9 then JH a b
 else if op=10 then PD (JG a b)else My a b c
theorem Rc(op a b c:Int)(ha:AH a)(hb:AH b)(hc:AH c):AH (Kb op a b c):=
 BG (Do a ha) (BG (Vy a) (BG (Z7 a ha) (BG (Z3 a ha) (BG (NV _) (BG (Rb a b) (BG (Z9 a b) (BG (Z6 a b)
  (BG (Z4 a b) (BG (MD a b ha hb) (BG (Z5 a b ha hb) (BG (NV _) (Z8 a b c hb hc))))))))))))
def IK(X:Nat->Value)(n:Nat):List Value:=(List.range n).map X
theorem vals_at(X:Nat->Value)(n i:Nat)(h:i<n):(IK X n)[i]? =some (X i):=by simp[IK,h]
theorem Ml(X:Nat->Value)(n:Nat):IK X (n+1)=IK X n++[X n]:=by unfold IK;rw[List.range_succ];simp
theorem LP{w:World}{base:Nat}{e:TypeId}{v:Value}{n:Nat}{X:Nat->Value}(h:w.ownsRow base e 1 v n (IK X n)):
 ∃q cap,v=.slice q n cap/\Bb w q n X/\(∀b o s,q=some ⟨b,o,s⟩->base<=b)/\(q=none->n=0/\cap=0)/\n<=cap:=by
 rcases h.2 with⟨rfl,hx⟩|⟨g,cap,cur,rfl,hb,hg,rest⟩
 .subst hx;exact⟨none,0,rfl,.inl rfl,fun b o s e=>(by cases e),fun _=>⟨rfl,rfl⟩,gF _⟩
 .refine⟨some ⟨g,0,none⟩,cap,rfl,.inr ⟨g,0,rfl,fun i hi=>?_⟩,fun b o s e=>(by cases e;exact hb),fun e=>(by cases e),rest.1⟩;have:=h.cells (g:=g) rfl i (X i) (vals_at X n i hi);rw[Nat.zero_add];by_cases c:i=0
  .subst c;simpa[Addr.add]using this
  .simpa[Addr.add,c]using this
theorem Vv:(prog.info? 3).map (fun i=>(i.zero,i.size,i.bytes))=some (some (.int .i64 0),1,8):=kR

theorem Ux(p:Option Addr)(n c:Nat)(X:Nat->Int)(hX:∀i,AH (X i))(hn:n<=1048576)(w:World)(hp:Bb w p n (fun i=>.int .i64 (X i))):
 Calls prog 66 #[.slice p n c] w fun e w'=>e=.returned (.int .i64 (L5 X n))/\Below w.heap.size w w':=by
 go_enter func66,ntmps66;go_wp2
 go_loopw [3,4] (fun sv iv wr=>Below w.heap.size w wr/\∃j:Nat,j<=n/\iv=.int .i64 j/\sv=.int .i64 (L5 X j)) (fun _ iv _=>n-(intOf iv).toNat)
 case atStart=>exact⟨Ln w,0,gI _,rfl,rfl⟩
 case round=>
  obtain⟨hb,j,hj,rfl,rfl⟩:=hrel;by_cases hlt:j<n
  .rcases hp with hp|⟨b,o,rfl,hp⟩
   .omega
   have hbl:b<w.heap.size:=Ik (hp j hlt);have h1:wr.cell? ⟨b,o+j,none⟩=some (.int .i64 (X j)):=(hb.cell hbl).trans (hp j hlt);have i1:(0:Int)<=(j:Int):=oM;have i2:(j:Int)<(n:Int):=oM;have s1:AH (L5 X j):=FT (fun _ _ _ _=>Rb _ _) (by unfold AH;decide) hX j;have x1:=hX j;clear hp hX;go_wp2_with(go_at_call 95;refine(Ki _ s1.1 s1.2 _ x1.1 x1.2 _).mono ?_;rintro e w1 ⟨rfl,hb1⟩);go_roundw
   case rel=>exact⟨Jx hb hb1,j+1,oM,gN,rfl⟩
   case measure=>simp[intOf];omega
  .have:j=n:=oM;subst this;clear hp hX;go_wp2;go_ret;exact⟨rfl,hb⟩
theorem Qn(p:Option Addr)(n c:Nat)(X:Nat->Int)(hX:∀i,AH (X i))(hn:n<=1048576)(w:World)(hp:Bb w p n (fun i=>.int .i64 (X i))):
 Calls prog 67 #[.slice p n c] w fun e w'=>e=.returned (.int .i64 (EP X n))/\Below w.heap.size w w':=by
 go_enter func67,ntmps67;go_wp2
 go_loopw [3,4] (fun sv iv wr=>Below w.heap.size w wr/\∃j:Nat,j<=n/\iv=.int .i64 j/\sv=.int .i64 (EP X j)) (fun _ iv _=>n-(intOf iv).toNat)
 case atStart=>exact⟨Ln w,0,gI _,rfl,rfl⟩
 case round=>
  obtain⟨hb,j,hj,rfl,rfl⟩:=hrel;by_cases hlt:j<n
  .rcases hp with hp|⟨b,o,rfl,hp⟩
   .omega
   have hbl:b<w.heap.size:=Ik (hp j hlt);have h1:wr.cell? ⟨b,o+j,none⟩=some (.int .i64 (X j)):=(hb.cell hbl).trans (hp j hlt);have i1:(0:Int)<=(j:Int):=oM;have i2:(j:Int)<(n:Int):=oM;have s1:AH (EP X j):=FT MD (by unfold AH;decide) hX j;have x1:=hX j;clear hp hX;go_wp2_with(go_at_call 96;refine(On _ s1.1 s1.2 _ x1.1 x1.2 _).mono ?_;rintro e w1 ⟨rfl,hb1⟩);go_roundw
   case rel=>exact⟨Jx hb hb1,j+1,oM,gN,rfl⟩
   case measure=>simp[intOf];omega
  .have:j=n:=oM;subst this;clear hp hX;go_wp2;go_ret;exact⟨rfl,hb⟩
theorem TN(a:Int)(h:AH a)(w:World):
 Calls prog 123 #[.int .i64 a] w fun e w'=>e=.returned (.bool (ffin a))/\w'=w:=by
 have h0:=h.1;have h1:=h.2;have t1:a.tmod 2147483648=a%2147483648:=Int.tmod_eq_emod_of_nonneg h0;go_enter func123,ntmps123;go_wp2;go_ret;exact⟨rfl,rfl⟩

structure P7(k:IntKind)(w:World)(q:Option Addr)(m:Nat)(P:Nat->Option Addr)(l c:Nat->Nat)(X:Nat->Nat->Int):Prop where
 heads:Bb w q m (fun i=>.slice (P i) (l i) (c i))
 parts:∀i,i<m->Bb w (P i) (l i) (fun j=>.int k (X i j))
theorem P7.below{k:IntKind}{w w':World}{q:Option Addr}{m:Nat}{P:Nat->Option Addr}{l c:Nat->Nat}{X:Nat->Nat->Int}(h:P7 k w q m P l c X)(b:Below w.heap.size w w'):P7 k w' q m P l c X:=
 ⟨h.heads.below b,fun i hi=>(h.parts i hi).below b⟩
theorem Qc{w w':World}{base:Nat}{e:TypeId}{v:Value}{n:Nat}{xs:List Value}(h:w.ownsRow base e 1 v n xs)(k:Below w.heap.size w w'):w'.ownsRow base e 1 v n xs:=by
 refine h.kept (row:=none) ⟨k.os,k.tape,k.output,k.size,fun j hj _=>k.block j hj⟩ ?_;cases v.ownBlock<;>simp
theorem J5(op:Int)(h:CD op≠0):op=3\/op=11\/op=12\/op=13\/op=14\/op=4\/op=5\/op=6\/op=7\/op=8\/op=9\/op=10\/op=15:=by
 unfold CD at h;split at h
 .omega
 .split at h
  .omega
  .split at h
   .omega
   .exact absurd rfl h

def Eo(l:Nat->Nat):Nat->Option Nat
 |0=>some (l 0)
 |j+1=>match Eo l j with
  |none=>none
  |some n=>if l (j+1)=n then some n else if l (j+1)=0\/n=0 then none else if n=1 then some (l (j+1))else if l (j+1)=1 then some n else none
theorem I5{l:Nat->Nat}{j n:Nat}(h:Eo l j=some n):Eo l (j+1)=if l (j+1)=n then some n else if l (j+1)=0\/n=0 then none else if n=1 then some (l (j+1))else if l (j+1)=1 then some n else none:=by
 show(match Eo l j with |none=>none|some n=>_)=_;rw[h]
theorem Kq{l:Nat->Nat}{j:Nat}(h:Eo l j=none):∀M,j<=M->Eo l M=none:=by
 intro M;induction M with
 |zero=>
  intro hj;have:j=0:=oM;subst this;exact h
 |succ M ih=>
  intro hj;rcases Nat.lt_or_ge M j with c|c
  .have:j=M+1:=oM;subst this;exact h
  .show(match Eo l M with |none=>none|some n=>_)=_;rw[ih c]
theorem shp_le{l:Nat->Nat}{N:Nat}(hl:∀i,l i<=N):∀ {M n:Nat},Eo l M=some n->n<=N:=by
 intro M;induction M with
 |zero=>intro n h;cases h;exact hl 0
 |succ M ih=>
  intro n h;cases e:Eo l M with
  |none=>rw[Kq e (M+1) oM]at h;cases h
  |some k=>
   rw[I5 e]at h;have:=ih e;have:=hl (M+1)
   repeat' split at h
   all_goals cases h
   all_goals omega
theorem OI{l:Nat->Nat}:∀ {M n:Nat},Eo l M=some n->∀i,i<=M->l i=n\/(l i=1/\n≠0):=by
 intro M;induction M with
 |zero=>
  intro n h i hi;cases h;have:i=0:=oM;subst this;exact .inl rfl
 |succ M ih=>
  intro n h i hi;cases e:Eo l M with
  |none=>rw[Kq e (M+1) oM]at h;cases h
  |some k=>
   rw[I5 e]at h;have hi':i<=M\/i=M+1:=oM;split at h
   .cases h
    rcases hi' with c|c
    .exact ih e i c
    .subst c;left;assumption
   .split at h
    .cases h
    .split at h
     .cases h
      rcases hi' with c|c
      .have:=ih e i c;omega
      .subst c;exact .inl rfl
     .split at h
      .cases h
       rcases hi' with c|c
       .exact ih e i c
       .subst c;right;omega
      .cases h
def Gz(l:Nat->Nat)(X:Nat->Nat->Int)(m i j:Nat):Int:=if j<m then X j (if l j=1 then 0 else i)else 0
theorem Cq{l:Nat->Nat}{X:Nat->Nat->Int}(hX:∀i j,AH (X i j))(m i j:Nat):AH (Gz l X m i j):=BG (hX _ _) JM
theorem Gl{k:IntKind}{w:World}{b o m:Nat}{P:Nat->Option Addr}{l c:Nat->Nat}{X:Nat->Nat->Int}(h:P7 k w (some ⟨b,o,none⟩) m P l c X)(i:Nat)(hi:i<m):w.cell? ⟨b,o+i,none⟩=some (.slice (P i) (l i) (c i)):=by
 rcases h.heads with q|⟨b',o',e,hh⟩
 .omega
 .cases e;exact hh i hi
theorem Ug{l:Nat->Nat}{M n i j:Nat}(h:Eo l M=some n)(hj:j<=M)(hi:i<n):l j=1\/i<l j:=by
 rcases OI h j hj with e|e
 .right;omega
 .left;exact e.1
theorem Ky(op:Int):CD op<=3:=by
 unfold CD;split
 .omega
 .split
  .omega
  .split<;>omega

def sl:Nat->Nat:=fun i=>if i=0 then 2 else 1
def rn(l:Nat->Nat):Nat->Nat
 |0=>l 0
 |j+1=>if rn l j=1\/l j=0 then l j else rn l j
theorem rn_shp{l:Nat->Nat}:∀ {M n:Nat},Eo l M=some n->rn l (M+1)=n:=by
 intro M;induction M with
 |zero=>intro n h;cases h;show(if l 0=1\/l 0=0 then l 0 else l 0)=l 0;split<;>rfl
 |succ M ih=>
  intro n h;cases e:Eo l M with
  |none=>rw[Kq e (M+1) oM]at h;cases h
  |some k=>
   rw[I5 e]at h;have hk:=ih e;show(if rn l (M+1)=1\/l (M+1)=0 then l (M+1)else rn l (M+1))=n;rw[hk];split at h
   .cases h;split<;>omega
   .split at h
    .cases h
    .split at h
     .cases h;rw[if_pos oM]
     .split at h
      .cases h;rw[if_neg oM]
      .cases h
theorem Xs(w:World):Calls prog 91 #[.int .i64 3] w fun e w'=>e=.returned (.int .i64 1)/\w'=w:=by
 exact QN
theorem TY(w:World):Calls prog 91 #[.int .i64 11] w fun e w'=>e=.returned (.int .i64 1)/\w'=w:=by
 exact QN
theorem TZ(w:World):Calls prog 91 #[.int .i64 12] w fun e w'=>e=.returned (.int .i64 1)/\w'=w:=by
 exact QN
theorem U0(w:World):Calls prog 91 #[.int .i64 13] w fun e w'=>e=.returned (.int .i64 1)/\w'=w:=by
 exact QN
theorem U7(w:World):Calls prog 91 #[.int .i64 14] w fun e w'=>e=.returned (.int .i64 1)/\w'=w:=by
 exact QN
theorem Xt(w:World):Calls prog 91 #[.int .i64 4] w fun e w'=>e=.returned (.int .i64 2)/\w'=w:=by
 exact QN
theorem Xu(w:World):Calls prog 91 #[.int .i64 5] w fun e w'=>e=.returned (.int .i64 2)/\w'=w:=by
 exact QN
theorem Xv(w:World):Calls prog 91 #[.int .i64 6] w fun e w'=>e=.returned (.int .i64 2)/\w'=w:=by
 exact QN
theorem Xw(w:World):Calls prog 91 #[.int .i64 7] w fun e w'=>e=.returned (.int .i64 2)/\w'=w:=by
 exact QN
theorem Xx(w:World):Calls prog 91 #[.int .i64 8] w fun e w'=>e=.returned (.int .i64 2)/\w'=w:=by
 exact QN
theorem Xy(w:World):Calls prog 91 #[.int .i64 9] w fun e w'=>e=.returned (.int .i64 2)/\w'=w:=by
 exact QN
theorem TX(w:World):Calls prog 91 #[.int .i64 10] w fun e w'=>e=.returned (.int .i64 2)/\w'=w:=by
 exact QN
theorem U8(w:World):Calls prog 91 #[.int .i64 15] w fun e w'=>e=.returned (.int .i64 3)/\w'=w:=by
 exact QN
theorem U9(op:Int)(h:CD op=0)(w:World):Calls prog 91 #[.int .i64 op] w fun e w'=>e=.returned (.int .i64 0)/\w'=w:=by
 have n1:¬ (op=3\/op=11\/op=12\/op=13\/op=14):=fun c=>by unfold CD at h;rw[if_pos c]at h;cases h
 have n2:¬ (op=4\/op=5\/op=6\/op=7\/op=8\/op=9\/op=10):=fun c=>by unfold CD at h;rw[if_neg n1,if_pos c]at h;cases h
 have n3:¬ (op=15):=fun c=>by unfold CD at h;rw[if_neg n1,if_neg n2,if_pos c]at h;cases h
 simp only[not_or]at n1 n2;obtain⟨a1,a2,a3,a4,a5⟩:=n1;obtain⟨b1,b2,b3,b4,b5,b6,b7⟩:=n2;clear h;exact QN
theorem Km(op:Int)(w:World):Calls prog 91 #[.int .i64 op] w fun e w'=>e=.returned (.int .i64 (CD op:Nat))/\w'=w:=by
 by_cases h:CD op=0
 .rw[h];exact U9 op h w
 .rcases J5 op h with rfl|rfl|rfl|rfl|rfl|rfl|rfl|rfl|rfl|rfl|rfl|rfl|rfl
  .exact Xs w
  .exact TY w
  .exact TZ w
  .exact U0 w
  .exact U7 w
  .exact Xt w
  .exact Xu w
  .exact Xv w
  .exact Xw w
  .exact Xx w
  .exact Xy w
  .exact TX w
  .exact U8 w
theorem M5(b:Bool)(w:World):Calls prog 122 #[.bool b] w fun e w'=>e=.returned (.int .i64 (PD b))/\w'=w:=by
 cases b<;>(go_enter func122,ntmps122;go_wp2;go_ret;exact⟨rfl,rfl⟩)
theorem rdo_3(a b c:Int)(ha:AH a)(hb:AH b)(hc:AH c)(w:World):Calls prog 109 #[.int .i64 3,.int .i64 a,.int .i64 b,.int .i64 c] w fun e w'=>e=.returned (.int .i64 (Kb 3 a b c))/\Below w.heap.size w w':=by
 go_enter func109,ntmps109;go_wp2_with(first|(go_at_call 60;refine(Fo _ ha.1 ha.2 _).mono ?_;rintro e w1 ⟨rfl,hw1⟩;obtain rfl:=hw1.symm));go_ret;exact⟨rfl,Ln _⟩
theorem rdo_11(a b c:Int)(ha:AH a)(hb:AH b)(hc:AH c)(w:World):Calls prog 109 #[.int .i64 11,.int .i64 a,.int .i64 b,.int .i64 c] w fun e w'=>e=.returned (.int .i64 (Kb 11 a b c))/\Below w.heap.size w w':=by
 go_enter func109,ntmps109;go_wp2_with(first|(go_at_call 119;refine(TS _ ha.1 ha.2 _).mono ?_;rintro e w1 ⟨rfl,hb1⟩));go_ret;exact⟨rfl,hb1⟩
theorem rdo_12(a b c:Int)(ha:AH a)(hb:AH b)(hc:AH c)(w:World):Calls prog 109 #[.int .i64 12,.int .i64 a,.int .i64 b,.int .i64 c] w fun e w'=>e=.returned (.int .i64 (Kb 12 a b c))/\Below w.heap.size w w':=by
 go_enter func109,ntmps109;go_wp2_with(first|(go_at_call 120;refine(Oo _ ha.1 ha.2 _).mono ?_;rintro e w1 ⟨rfl,hb1⟩));go_ret;exact⟨rfl,hb1⟩
theorem rdo_13(a b c:Int)(ha:AH a)(hb:AH b)(hc:AH c)(w:World):Calls prog 109 #[.int .i64 13,.int .i64 a,.int .i64 b,.int .i64 c] w fun e w'=>e=.returned (.int .i64 (Kb 13 a b c))/\Below w.heap.size w w':=by
 go_enter func109,ntmps109;go_wp2_with(first|(go_at_call 121;refine(Wq _ ha.1 ha.2 _).mono ?_;rintro e w1 ⟨rfl,hb1⟩));go_ret;exact⟨rfl,hb1⟩
theorem rdo_14(a b c:Int)(ha:AH a)(hb:AH b)(hc:AH c)(w:World):Calls prog 109 #[.int .i64 14,.int .i64 a,.int .i64 b,.int .i64 c] w fun e w'=>e=.returned (.int .i64 (Kb 14 a b c))/\Below w.heap.size w w':=by
 go_enter func109,ntmps109;go_wp2_with(first|(go_at_call 123;refine(TN _ ha _).mono ?_;rintro e w1 ⟨rfl,hw1⟩;obtain rfl:=hw1.symm)|(go_at_call 122;refine(M5 _ _).mono ?_;rintro e w1 ⟨rfl,hw1⟩;obtain rfl:=hw1.symm));go_ret;exact⟨rfl,Ln _⟩
theorem rdo_4(a b c:Int)(ha:AH a)(hb:AH b)(hc:AH c)(w:World):Calls prog 109 #[.int .i64 4,.int .i64 a,.int .i64 b,.int .i64 c] w fun e w'=>e=.returned (.int .i64 (Kb 4 a b c))/\Below w.heap.size w w':=by
 go_enter func109,ntmps109;go_wp2_with(first|(go_at_call 95;refine(Ki _ ha.1 ha.2 _ hb.1 hb.2 _).mono ?_;rintro e w1 ⟨rfl,hb1⟩));go_ret;exact⟨rfl,hb1⟩
theorem rdo_5(a b c:Int)(ha:AH a)(hb:AH b)(hc:AH c)(w:World):Calls prog 109 #[.int .i64 5,.int .i64 a,.int .i64 b,.int .i64 c] w fun e w'=>e=.returned (.int .i64 (Kb 5 a b c))/\Below w.heap.size w w':=by
 go_enter func109,ntmps109;go_wp2_with(first|(go_at_call 124;refine(Xr _ ha.1 ha.2 _ hb.1 hb.2 _).mono ?_;rintro e w1 ⟨rfl,hb1⟩));go_ret;exact⟨rfl,hb1⟩
theorem rdo_6(a b c:Int)(ha:AH a)(hb:AH b)(hc:AH c)(w:World):Calls prog 109 #[.int .i64 6,.int .i64 a,.int .i64 b,.int .i64 c] w fun e w'=>e=.returned (.int .i64 (Kb 6 a b c))/\Below w.heap.size w w':=by
 go_enter func109,ntmps109;go_wp2_with(first|(go_at_call 93;refine(Kl _ ha.1 ha.2 _ hb.1 hb.2 _).mono ?_;rintro e w1 ⟨rfl,hb1⟩));go_ret;exact⟨rfl,hb1⟩
theorem rdo_7(a b c:Int)(ha:AH a)(hb:AH b)(hc:AH c)(w:World):Calls prog 109 #[.int .i64 7,.int .i64 a,.int .i64 b,.int .i64 c] w fun e w'=>e=.returned (.int .i64 (Kb 7 a b c))/\Below w.heap.size w w':=by
 go_enter func109,ntmps109;go_wp2_with(first|(go_at_call 125;refine(Wt _ ha.1 ha.2 _ hb.1 hb.2 _).mono ?_;rintro e w1 ⟨rfl,hb1⟩));go_ret;exact⟨rfl,hb1⟩
theorem rdo_8(a b c:Int)(ha:AH a)(hb:AH b)(hc:AH c)(w:World):Calls prog 109 #[.int .i64 8,.int .i64 a,.int .i64 b,.int .i64 c] w fun e w'=>e=.returned (.int .i64 (Kb 8 a b c))/\Below w.heap.size w w':=by
 go_enter func109,ntmps109;go_wp2_with(first|(go_at_call 96;refine(On _ ha.1 ha.2 _ hb.1 hb.2 _).mono ?_;rintro e w1 ⟨rfl,hb1⟩));go_ret;exact⟨rfl,hb1⟩
theorem rdo_9(a b c:Int)(ha:AH a)(hb:AH b)(hc:AH c)(w:World):Calls prog 109 #[.int .i64 9,.int .i64 a,.int .i64 b,.int .i64 c] w fun e w'=>e=.returned (.int .i64 (Kb 9 a b c))/\Below w.heap.size w w':=by
 go_enter func109,ntmps109;go_wp2_with(first|(go_at_call 126;refine(Wz _ ha.1 ha.2 _ hb.1 hb.2 _).mono ?_;rintro e w1 ⟨rfl,hb1⟩));go_ret;exact⟨rfl,hb1⟩
theorem rdo_10(a b c:Int)(ha:AH a)(hb:AH b)(hc:AH c)(w:World):Calls prog 109 #[.int .i64 10,.int .i64 a,.int .i64 b,.int .i64 c] w fun e w'=>e=.returned (.int .i64 (Kb 10 a b c))/\Below w.heap.size w w':=by
 go_enter func109,ntmps109;go_wp2_with(first|(go_at_call 127;refine(TR _ ha.1 ha.2 _ hb.1 hb.2 _).mono ?_;rintro e w1 ⟨rfl,hb1⟩)|(go_at_call 122;refine(M5 _ _).mono ?_;rintro e w2 ⟨rfl,hw2⟩;obtain rfl:=hw2.symm));go_ret;exact⟨rfl,hb1⟩
theorem rdo_15(a b c:Int)(ha:AH a)(hb:AH b)(hc:AH c)(w:World):Calls prog 109 #[.int .i64 15,.int .i64 a,.int .i64 b,.int .i64 c] w fun e w'=>e=.returned (.int .i64 (Kb 15 a b c))/\Below w.heap.size w w':=by
 go_enter func109,ntmps109;go_wp2_with(first|(go_at_call 128;refine(Ow _ ha.1 ha.2 _ hb.1 hb.2 _ hc.1 hc.2 _).mono ?_;rintro e w1 ⟨rfl,hb1⟩));go_ret;exact⟨rfl,hb1⟩
theorem ZQ(op:Int)(h:CD op≠0)(a b c:Int)(ha:AH a)(hb:AH b)(hc:AH c)(w:World):Calls prog 109 #[.int .i64 op,.int .i64 a,.int .i64 b,.int .i64 c] w fun e w'=>e=.returned (.int .i64 (Kb op a b c))/\Below w.heap.size w w':=by
 rcases J5 op h with rfl|rfl|rfl|rfl|rfl|rfl|rfl|rfl|rfl|rfl|rfl|rfl|rfl
 .exact rdo_3 a b c ha hb hc w
 .exact rdo_11 a b c ha hb hc w
 .exact rdo_12 a b c ha hb hc w
 .exact rdo_13 a b c ha hb hc w
 .exact rdo_14 a b c ha hb hc w
 .exact rdo_4 a b c ha hb hc w
 .exact rdo_5 a b c ha hb hc w
 .exact rdo_6 a b c ha hb hc w
 .exact rdo_7 a b c ha hb hc w
 .exact rdo_8 a b c ha hb hc w
 .exact rdo_9 a b c ha hb hc w
 .exact rdo_10 a b c ha hb hc w
 .exact rdo_15 a b c ha hb hc w
theorem ZP(p:Option Addr)(n c i:Nat)(X:Nat->Int)(hn:n<=1048576)(hi:i<=1048576)(h:n=1\/i<n)(w:World)(hp:Bb w p n (fun j=>.int .i64 (X j))):
 Calls prog 108 #[.slice p n c,.int .i64 i] w fun e w'=>e=.returned (.int .i64 (X (if n=1 then 0 else i)))/\w'=w:=by
 rcases hp with hp|⟨b,o,rfl,hp⟩
 .omega
 by_cases h1:n=1
 .subst h1;have c1:=hp 0 oM;rw[Nat.add_zero]at c1;rw[if_pos rfl];clear hp h;go_enter func108,ntmps108;go_wp2;go_ret;exact⟨rfl,rfl⟩
 .have c1:=hp i oM;have n1:¬ ((n:Int)=1):=oM;have i1:(0:Int)<=(i:Int):=oM;have i2:(i:Int)<(n:Int):=oM;rw[if_neg h1];clear hp h;go_enter func108,ntmps108;go_wp2;go_ret;exact⟨rfl,rfl⟩
def Yl(w:World)(l:Nat->Nat)(m:Nat)(nv iv:Value)(wr:World):Prop:=wr=w/\∃j R:Nat,j<=m/\iv=.int .i64 j/\nv=.int .i64 R/\R=rn l j
def Ym(w:World)(m:Nat)(iv:Value)(wr:World):Prop:=wr=w/\∃i:Nat,i<=m/\iv=.int .i64 i
theorem rel_el(F:Nat->Int)(j k:Nat):(if k=j then Value.int .i64 (F j)else .int .i64 (if k<j then F k else 0))=.int .i64 (if k<j+1 then F k else 0):=by
 by_cases h:k=j
 .subst h;rw[if_pos rfl,if_pos oM]
 .rw[if_neg h];by_cases h2:k<j
  .rw[if_pos h2,if_pos oM]
  .rw[if_neg h2,if_neg oM]
theorem row3(w:World)(t:TypeId):(w.alloc (.cells #[.int .i64 0,.int .i64 0,.int .i64 0] t)).rowIs w.heap.size t 3 (fun _=>.int .i64 0):=
 World.rowIs_alloc w #[.int .i64 0,.int .i64 0,.int .i64 0] t (fun _=>.int .i64 0) (by
  intro i hi;have:i=0\/i=1\/i=2:=by simp at hi;omega
  rcases this with rfl|rfl|rfl<;>rfl)
theorem TE(op:Int)(h0:CD op≠0)(b o m cq:Nat)(hm:CD op=m)(n:Nat)(P:Nat->Option Addr)(l c:Nat->Nat)(X:Nat->Nat->Int)(hX:∀i j,AH (X i j))(hl:∀i,l i<=1048576)(hs:Eo l (m-1)=some n)(w:World)(hL:P7 .i64 w (some ⟨b,o,none⟩) m P l c X):
 Calls prog 90 #[.int .i64 op,.slice (some ⟨b,o,none⟩) m cq] w fun e w'=>∃q cap,e=.returned (.tuple #[.slice q n cap,.int .i64 0])/\Bb w' q n (fun i=>.int .i64 (Kb op (Gz l X m i 0) (Gz l X m i 1) (Gz l X m i 2)))/\Below w.heap.size w w'/\∀b o s,q=some ⟨b,o,s⟩->w.heap.size<=b:=by
 obtain⟨i0,hi0,hz0,hz1,hz2⟩:=info_parts Vv;have hn:n<=1048576:=shp_le hl hs;have hm3:m<=3:=by rw[<-hm];exact Ky op
 have ht:¬ ((m:Int)=0):=oM;have hm1:1<=m:=oM;have HL:Hid (P7 .i64 w (some ⟨b,o,none⟩) m P l c X/\(∀i,l i<=1048576)/\Eo l (m-1)=some n/\(∀i j,AH (X i j))):=⟨hL,hl,hs,hX⟩
 have H0:Hid (CD op≠0/\CD op=m):=⟨h0,hm⟩
 have h00:=Gl hL 0 oM;rw[Nat.add_zero]at h00;have d0:((m:Int)==0)=false:=sO;clear hL hl hs hX h0 hm;go_enter func90,ntmps90;go_wp2_with(go_at_call 91;refine(Km op _).mono ?_;rintro e w1 ⟨rfl,hw1⟩;obtain rfl:=hw1.symm;rw[H0.2])
 go_loopw [7,8] (fun nv iv wr=>Yl w l m nv iv wr) (fun _ iv _=>m-(intOf iv).toNat)
 case atStart=>unfold Yl;exact⟨rfl,0,_,gI _,rfl,rfl,rfl⟩
 case round=>
  obtain⟨rfl,j,R,hj,rfl,rfl,hR⟩:=hrel;by_cases hlt:j<m
  .have h1:=Gl HL.1 j hlt;have i1:(0:Int)<=(j:Int):=oM;have i2:(j:Int)<(m:Int):=oM;obtain⟨L,hLL⟩:∃L,L=l j:=⟨_,rfl⟩
   have HRN:Hid (rn l (j+1)=if R=1\/L=0 then L else R):=by rw[hR];subst hLL;rfl
   rw[<-hLL]at h1;clear hR hLL;by_cases c1:R=1
   .have HR1:Hid (rn l (j+1)=L):=by rw[HRN.out,if_pos (.inl c1)];exact rfl
    subst c1;exact Zfx
   .have c2:¬ ((R:Int)=1):=oM;by_cases c3:L=0
    .have HR1:Hid (rn l (j+1)=L):=by rw[HRN.out,if_pos (.inr c3)];exact rfl
     subst c3;go_wp2;go_roundw
     case rel=>unfold Yl;exact⟨rfl,j+1,0,oM,gN,rfl,HR1.symm⟩
     case measure=>simp[intOf];omega
    .have HR1:Hid (rn l (j+1)=R):=by rw[HRN.out,if_neg oM];exact rfl
     have c4:¬ ((L:Int)=0):=oM;have d1:((R:Int)==1)=false:=by simp[c2]
     have d2:((L:Int)==0)=false:=sO;exact Zfx
  .have:j=m:=oM;subst this;have hrn:n=R:=by rw[hR];have:=rn_shp HL.2.2.1;rw[show j-1+1=j by omega]at this;exact this.symm
   subst hrn;clear hR;go_wp2
   go_loopw [9] (fun iv wr'=>Ym wr j iv wr') (fun iv _=>j-(intOf iv).toNat)
   case atStart=>unfold Ym;exact⟨rfl,0,gI _,rfl⟩
   case round=>
    obtain⟨rfl,i,hi,rfl⟩:=hrel;by_cases hlt:i<j
    .have h1:=Gl HL.1 i hlt;have i1:(0:Int)<=(i:Int):=oM;have i2:(i:Int)<(j:Int):=oM;have hg:=OI HL.2.2.1 i oM;obtain⟨L,hLL⟩:∃L,L=l i:=⟨_,rfl⟩
     rw[<-hLL]at h1 hg;clear hLL;by_cases c1:L=n
     .subst c1;clear hg;go_wp2;go_roundw
      case rel=>unfold Ym;exact⟨rfl,i+1,oM,gN⟩
      case measure=>simp[intOf];omega
     .have c2:L=1:=oM;have c3:¬ ((n:Int)=0):=oM;have c4:¬ ((1:Int)=(n:Int)):=oM;have d1:((n:Int)==0)=false:=sO;have d2:((1:Int) != (n:Int))=true:=by simp[c4]
      subst c2;clear hg;go_wp2;go_roundw
      case rel=>unfold Ym;exact⟨rfl,i+1,oM,gN⟩
      case measure=>simp[intOf];omega
    .have:i=j:=oM;subst this;obtain⟨G,HG⟩:∃G:Nat->Int,Hid (G=fun t=>Kb op (Gz l X i t 0) (Gz l X i t 1) (Gz l X i t 2)):=⟨_,rfl⟩
     clear h00;rename World=>W0;go_wp2
     go_loopw [10,11] (fun ov iv wr=>Below W0.heap.size W0 wr/\∃ (k:Nat) (v:Value),v=ov/\k<=n/\iv=.int .i64 k/\Hid (wr.ownsRow W0.heap.size 3 1 v k (IK (fun t=>.int .i64 (G t)) k))) (fun _ iv _=>n-(intOf iv).toNat)
     case atStart=>exact⟨Ln _,0,_,rfl,gI _,rfl,World.ownsRow_nil _ _ _ _⟩
     case round=>
      obtain⟨hb,k,ov,rfl,hk,rfl,hown⟩:=hrel;by_cases hlt:k<n
      .rename World=>W3;have i1:(k:Int)<(n:Int):=oM;obtain⟨E,HE⟩:∃E:Nat->Int,Hid (E=Gz l X i k):=⟨_,rfl⟩
       have HGk:Hid (Kb op (E 0) (E 1) (E 2)=G k/\AH (E 0)/\AH (E 1)/\AH (E 2)):=by
        have e1:=HE.out;have e2:=HG.out;have hXX:=HL.2.2.2;subst e1;subst e2;exact⟨rfl,Cq hXX _ _ _,Cq hXX _ _ _,Cq hXX _ _ _⟩
       have HT:Hid ((W3.alloc (.cells #[.int .i64 0,.int .i64 0,.int .i64 0] 171)).rowIs W3.heap.size 171 3 (fun _=>.int .i64 0)):=row3 W3 _;go_wp2
       go_loopw [13] (fun iv wr=>Below W3.heap.size W3 wr/\∃j:Nat,j<=i/\iv=.int .i64 j/\Hid (wr.rowIs W3.heap.size 171 3 (fun t=>.int .i64 (if t<j then E t else 0)))) (fun iv _=>i-(intOf iv).toNat)
       case atStart=>exact⟨PX W3 _,0,gI _,rfl,HT.congr fun t ht=>by simp⟩
       case round=>
        obtain⟨hb4,j,hj,rfl,hrow⟩:=hrel;clear HT;by_cases hlt4:j<i
        .have hL4:=HL.1.below (Jx hb hb4);have h1:=Gl hL4 j hlt4;have HPJ:Hid (Bb wr (P j) (l j) (fun t=>.int .i64 (X j t))/\(l j=1\/k<l j)/\X j (if l j=1 then 0 else k)=E j/\l j<=1048576):=⟨hL4.parts j hlt4,Ug HL.2.2.1 oM hlt,by rw[HE.out];unfold Gz;rw[if_pos hlt4],HL.2.1 j⟩
         have c1:=hrow.cell (i:=j) oM;have f1:=hrow.frozen j;have i2:(0:Int)<=(j:Int):=oM;have i3:(j:Int)<(i:Int):=oM;have i4:(j:Int)<3:=oM;have j3:j<3:=oM;have HR:Hid (∀x,(wr.setCell ⟨W3.heap.size,j,none⟩ x).rowIs W3.heap.size 171 3 (fun t=>if t=j then x else .int .i64 (if t<j then E t else 0))):=fun x=>hrow.set j x;clear hL4;go_wp2_with(go_at_call 108;refine(ZP _ _ _ k (X j) HPJ.2.2.2 oM HPJ.2.1 wr HPJ.1).mono ?_;rintro e w5 ⟨rfl,hw5⟩;obtain rfl:=hw5.symm;rw[HPJ.2.2.1]);go_roundw
         case rel=>exact⟨hb4.setCell (gF _) _,j+1,oM,gN,(HR.out _).congr fun t ht=>rel_el E j t⟩
         case measure=>simp[intOf];omega
        .have:j=i:=oM;subst this;have e0:∀t,t<3->(if t<j then E t else 0)=E t:=by
          intro t ht;by_cases q:t<j
          .rw[if_pos q]
          .rw[if_neg q,HE.out];unfold Gz;rw[if_neg q]
         have r1:=hrow.congr (g:=fun t=>.int .i64 (E t)) (fun t ht=>by rw[e0 t ht]);have c0:=r1.cell (i:=0) oM;have c1:=r1.cell (i:=1) oM;have c2:=r1.cell (i:=2) oM;clear r1 e0 hrow;go_wp2_with(first
          |(go_at_call 109;refine(ZQ op H0.1 (E 0) (E 1) (E 2) HGk.2.1 HGk.2.2.1 HGk.2.2.2 wr).mono ?_;rintro e w6 ⟨rfl,hb6⟩;rw[HGk.1];have hown6:Hid (w6.ownsRow W0.heap.size 3 1 ov k (IK (fun t=>.int .i64 (G t)) k)):=Qc hown.out (Jx hb4 hb6);have hob:Hid (∀j,ov.ownBlock=some j->W0.heap.size<=j/\j<W3.heap.size):=hown.lt;have HB6:Below W0.heap.size W0 w6:=Jx (Jx hb hb4) hb6;have sz:=HB6.size)
          |(at_builtin;refine wpList_append_own _ rfl _ _ 72 rfl W0.heap.size 3 i0 _ 1 8 underlying72 hi0 hz0 hz1 hz2 rfl dE ov k (IK (fun t=>.int .i64 (G t)) k) rfl (hown6.alloc _) ⟨w6.heap.size,0,none⟩ 1 1 [.int .i64 (G k)] rfl rfl (World.news_of_block (cs:=#[.int .i64 (G k)]) (t:=3) (fr:=(0,0)) (heap_alloc_new w6 _)) Sx mL oM sO ?_;intro v' w7 hown7 hgrow hnil;have HB7:Below W0.heap.size W0 w7:=Below.grown (HB6.alloc sz _) hgrow sO (fun j e=>(hob.out j e).1);have HO:Hid (w7.ownsRow W0.heap.size 3 1 v' (k+1) (IK (fun t=>.int .i64 (G t)) k++[.int .i64 (G k)])):=hown7;clear hown7 hgrow hnil))
         go_roundw
         case rel=>exact⟨HB7,k+1,_,rfl,oM,gN,by rw[Ml];exact HO⟩
         case measure=>simp[intOf];omega
      .have:k=n:=oM;subst this;obtain⟨q,cap,rfl,hR,hg,-⟩:=LP hown.out;have HR:Hid (Bb wr q k (fun t=>.int .i64 (G t))):=hR;have HLO:Hid (∀b o s,q=some ⟨b,o,s⟩->W0.heap.size<=b):=hg;clear hR hg hown;go_wp2;go_returns;have e2:=HG.out;subst e2;first|exact⟨_,_,rfl,HR.out,hb,HLO.out⟩|exact⟨_,⟨_,rfl⟩,HR.out,hb,HLO.out⟩
def KJ(l:List Ad):List Nat:=(l.filter Af).map fun i=>i.d.toNat
def Bd(l:List Ad):Prop:=(KJ l).Nodup
theorem Cn(l m:List Ad):KJ (l++m)=KJ l++KJ m:=by unfold KJ;simp
theorem Sj:∀ (l:List Ad) (s:Wk),∀r∈(CZ s l).set,r∈s.set\/∃j∈l,Af j=true/\j.d.toNat=r
 |[],s,r,hr=>.inl hr
 |i::l,s,r,hr=>by
  have hr':r∈(CZ (Aj s i) l).set:=hr;rcases Sj l (Aj s i) r hr' with h|⟨j,hj,h⟩
  .have h2:r∈s.set\/(Af i=true/\i.d.toNat=r):=by
    unfold Aj Dd at h;have h3:r∈(Bv s i).set\/(Af i=true/\i.d.toNat=r):=by
     unfold Cf at h;split at h
     .rename_i q;rcases List.mem_append.1 h with h|h
      .exact .inl h
      .simp at h;exact .inr ⟨by unfold Af;simpa using q.1,h.symm⟩
     .exact .inl h
    rcases h3 with h3|h3
    .left;unfold Bv at h3;split at h3
     .exact h3
     .split at h3
      .unfold AQ at h3;split at h3
       .split at h3
        .exact h3
        .exact List.mem_of_mem_take h3
       .exact h3
      .exact h3
    .exact .inr h3
   rcases h2 with h2|h2
   .exact .inl h2
   .exact .inr ⟨i,sM,h2⟩
  .exact .inr ⟨j,List.mem_cons_of_mem i hj,h⟩
theorem Kx{c:Cd}{l:List Ad}(h:AR c ⟨[],[]⟩ l=true){i:Ad}(hi:i∈l):∃L R,l=L++i::R/\AG c (CZ ⟨[],[]⟩ L) i=true:=by
 obtain⟨L,R,rfl⟩:=List.append_of_mem hi;rw[Dx]at h;simp only[Bool.and_eq_true]at h;refine⟨L,R,rfl,?_⟩;have h2:=h.2;unfold AR at h2;simp only[Bool.and_eq_true]at h2;exact h2.1
end Go.Proofs.YtnbccaicijcklaaGreat
