import Derived.Test.YtbinohkcolcbfaaGreatPart11
import Derived.Test.YtbinohkcolcbfaaGreatPart15
import Derived.Test.YtbinohkcolcbfaaGreatPart10
import Derived.Deep.Draws
import Derived.Laws.ComplexArith
import Derived.Deep.RegionHeld3
import Derived.Deep.DeepCutAuto
import Derived.Handy
import Derived.Deep.OwnRows
import Derived.OwnWalk
import Derived.Deep.QuietTactic
import Derived.BigQuiet
import Derived.Deep.AppendLies
import Derived.Shelf.Abstract
import Derived.Maps.AppendAt
import Derived.Laws.AppendOwnNone
import Derived.Test.YtbinohkcolcbfaaGreatPart1
namespace Go.Proofs.YtbinohkcolcbfaaGreat
open Go.RowKit Go.Proofs.Tryz
set_option linter.unusedVariables false
set_option linter.unusedSimpArgs false
set_option maxRecDepth 100000
set_option maxHeartbeats 16000000
def rnd(x e:Int):Int:=if x=0 then 0 else(Ieee.single.nearest (decide (x<0)) x.natAbs e:Nat)
def sgd(s:Bool)(x:Int):Int:=if s then -x else x
def sumv(s1:Bool)(m1 e1:Int)(s2:Bool)(m2 e2:Int):Int:=
 if e1-e2<=36 then rnd (sgd s1 (m1*2^(e1-e2).toNat)+sgd s2 m2) e2 else rnd (sgd s1 (m1*68719476736)+sgd s2 1) (e1-36)
theorem Zsz{s:Bool}{m m':Nat}{e e':Int}(h:m=m')(k:e=e'):Ending.returned (.int .i64 ((Ieee.single.nearest s m e:Nat):Int))=.returned (.int .i64 ((Ieee.single.nearest s m' e':Nat):Int)):=by rw[h,k]
theorem Zaay(s1:Bool)(m1 e1:Int)(i1 n1 s2:Bool)(m2 e2:Int)(i2 n2:Bool)(h1:0<m1)(h2:m1<16777216)(h3:0<m2)(h4:m2<16777216)(h5: -149<=e2)(h6:e2<=e1)(h7:e1<=104)(w:World):
 Calls prog 156 #[.agg #[.bool s1,.int .u64 m1,.int .i64 e1,.bool i1,.bool n1],.agg #[.bool s2,.int .u64 m2,.int .i64 e2,.bool i2,.bool n2]] w fun e w'=>e=.returned (.int .i64 (sumv s1 m1 e1 s2 m2 e2))/\Below w.heap.size w w':=by
 unfold sumv;by_cases c:e1-e2<=36
 ·rw[if_pos c];generalize hd:e1-e2=d at *;have hd0:0<=d:=oM;obtain⟨X,hXX⟩:∃X,m1*2^d.toNat=X:=⟨_,rfl⟩
  have hX:0<X/\X<1152921504606846976:=by
   rw[←hXX];have p1:(1:Int)<=2^d.toNat:=Int.pow_pos dE;have p2:(2:Int)^d.toNat<=68719476736:=by
    have h:2^d.toNat<=68719476736:=Nat.le_trans (Nat.pow_le_pow_right dE (show d.toNat<=36 by omega)) dE;have h':((2^d.toNat:Nat):Int)<=((68719476736:Nat):Int):=Int.ofNat_le.2 h;rw[Int.natCast_pow]at h';exact h'
   refine⟨Int.mul_pos h1 oM,?_⟩;have:=Int.mul_le_mul (show m1<=16777215 by omega) p2 oM oM;omega
  have hw:IntKind.u64.wrap (m1*2^d.toNat)=X:=by rw[hXX,IntKind.wrap_u64];omega
  rw[hXX];clear hXX;cases s1<;>cases s2<;>simp only[sgd,if_true,if_false,Bool.false_eq_true]<;>unfold rnd
  ·rw[if_neg oM,decide_eq_false oM,show(X+m2).natAbs=(X+m2).toNat by omega];exact Zat
  ·rcases Int.lt_trichotomy (X+ -m2) 0 with c2|c2|c2
   ·rw[if_neg oM,decide_eq_true oM,show(X+ -m2).natAbs=(-(X+ -m2)).toNat by omega];exact Zat
   ·exact Zdf
   ·rw[if_neg oM,decide_eq_false oM,show(X+ -m2).natAbs=(X+ -m2).toNat by omega];exact Zat
  ·rcases Int.lt_trichotomy (-X+m2) 0 with c2|c2|c2
   ·rw[if_neg oM,decide_eq_true oM,show(-X+m2).natAbs=(-(-X+m2)).toNat by omega];exact Zat
   ·exact Zdf
   ·rw[if_neg oM,decide_eq_false oM,show(-X+m2).natAbs=(-X+m2).toNat by omega];exact Zat
  ·rw[if_neg oM,decide_eq_true oM,show(-X+ -m2).natAbs=(-(-X+ -m2)).toNat by omega];exact Zat
 ·rw[if_neg c];obtain⟨X,hXX⟩:∃X,m1*68719476736=X:=⟨_,rfl⟩
  have hX:68719476736<=X/\X<1152921504606846976:=oM;have hw:IntKind.u64.wrap (m1*68719476736)=X:=by rw[hXX,IntKind.wrap_u64];omega
  rw[hXX];have hX3:m1*68719476736<18446744073709551616:=oM;cases s1<;>cases s2<;>simp only[sgd,if_true,if_false,Bool.false_eq_true]<;>unfold rnd
  ·rw[if_neg oM,decide_eq_false oM,show(X+1).natAbs=(X+1).toNat by omega];exact Zat
  ·rw[if_neg oM,decide_eq_false oM,show(X+ -1).natAbs=(X+ -1).toNat by omega];exact Zat
  ·rw[if_neg oM,decide_eq_true oM,show(-X+1).natAbs=(-(-X+1)).toNat by omega];exact Zat
  ·rw[if_neg oM,decide_eq_true oM,show(-X+ -1).natAbs=(-(-X+ -1)).toNat by omega];exact Zat
theorem Zahl(p t k n δ:Nat)(hp:1<=p)(ht:1<=t)(hk:2^p<=k)(hk2:k<2*2^p)(h:n=k*2^t+δ\/n+δ=k*2^t)(hδ:4*δ<2^t):Near p n 1 (t*2^p+k):=by
 have hB:0<2^p:=Nat.two_pow_pos p;have v0:V p (t*2^p+k)=k*2^t:=V_at p t k oM (Or.inr hk);have v1:V p (t*2^p+k+1)=(k+1)*2^t:=by rw[Nat.add_assoc];exact V_at p t (k+1) oM (Or.inr oM)
 have e1:(k+1)*2^t=k*2^t+2^t:=by rw[Nat.add_mul,Nat.one_mul]
 have hlow:∀q,t*2^p+k=q+1->2*(V p q)+2^t<=2*(k*2^t):=by
  intro q hq;have hst:=Zrr p q;rw[←hq,v0]at hst;have:t-1<=q/2^p-1:=by
   have:t<=q/2^p:=(Nat.le_div_iff_mul_le hB).2 oM;omega
  have hle:2^(t-1)<=2^(q/2^p-1):=Nat.pow_le_pow_right dE this;have:2^t=2*2^(t-1):=by
   obtain⟨e,rfl⟩:∃e,t=e+1:=⟨t-1,oM⟩
   rw[Nat.add_sub_cancel,Nat.pow_succ,Nat.mul_comm]
  omega
 refine⟨?_,?_,?_,?_⟩
 ·rw[v0,v1,e1,Nat.mul_one];omega
 ·rw[v0,v1,e1,Nat.mul_one];omega
 ·intro q hq;have:=hlow q hq;rw[v0,Nat.mul_one];omega
 ·intro q hq;have:=hlow q hq;rw[v0,Nat.mul_one];omega
theorem Zack(m:Nat)(e:Int)(x δ:Nat)(i:Int)(hm:8388608<=m)(hm2:m<16777216)(hi: -113<i)(j:Int)(hj: -149<=j)(u:Nat)(hu:(u:Int)=i-j)(hx:x=m*2^u+δ\/x+δ=m*2^u)(hδ:4*δ<2^u):
 Zkh 23 (-149) x j=(i+149).toNat*8388608+m:=by
 obtain⟨c,hc⟩:∃c:Nat,(c:Int)=j+149:=⟨(j+149).toNat,oM⟩
 have h1:=Znj 23 (-149) x j dE c 0 oM;have ht:(i+149).toNat=u+c:=oM;have h2:Near 23 (x*2^c) 1 ((i+149).toNat*2^23+m):=by
  refine Zahl 23 (i+149).toNat m (x*2^c) (δ*2^c) dE oM oM oM ?_ ?_
  ·rw[ht,Nat.pow_add,←Nat.mul_assoc,←Nat.add_mul];rcases hx with hx|hx
   ·left;rw[hx]
   ·right;rw[←Nat.add_mul,hx]
  ·rw[ht,Nat.pow_add,←Nat.mul_assoc];exact Nat.mul_lt_mul_of_pos_right hδ (Nat.two_pow_pos c)
 exact h1.unique h2 dE dE sM
theorem Ztl(s:Bool)(m u:Nat):Ieee.signed s m u=sgd s ((m:Int)*2^u):=by
 unfold Ieee.signed sgd;rw[Nat.shiftLeft_eq];push_cast;rfl
theorem Zlo(a b:Int){d e:Ieee.Datum}(h:Ieee.single.read a.toNat=d)(k:Ieee.single.read b.toNat=e):fadd a b=op2 ((d.sum e).map Ieee.single.write):=by
 unfold fadd Ieee.Format.add;rw[h,k]
theorem Zrg(s:Bool)(e:Int):((Ieee.single.nearest s 0 e:Nat):Int)=sgn s:=by
 exact Zfo
theorem Zacp(s1:Bool)(m1 e1:Int)(s2:Bool)(m2 e2:Int)(h1:0<m1)(h2:m1<16777216)(h3:0<m2)(h4:m2<16777216)(h5: -149<=e2)(h6:e2<=e1)(h7:e1= -149\/8388608<=m1):
 op2 (((Ieee.Datum.number s1 m1.toNat e1).sum (.number s2 m2.toNat e2)).map Ieee.single.write)=sumv s1 m1 e1 s2 m2 e2:=by
 simp only[Ieee.Datum.sum,Option.map_some,Ieee.Format.write];rw[show min e1 e2=e2 by omega,show(e2-e2).toNat=0 by omega,Ztl,Ztl,Int.toNat_of_nonneg oM,Int.toNat_of_nonneg oM,Int.pow_zero,Int.mul_one];have hP:(1:Int)<=2^(e1-e2).toNat:=Int.pow_pos dE;have hX:0<m1*2^(e1-e2).toNat:=Int.mul_pos h1 oM;unfold sumv;by_cases c:e1-e2<=36
 ·rw[if_pos c];generalize m1*2^(e1-e2).toNat=X at *;unfold rnd;by_cases z:sgd s1 X+sgd s2 m2=0
  ·rw[if_pos z,if_pos z,z];have:(s1&&s2)=false:=by
    cases s1<;>cases s2<;>simp only[sgd,if_true,if_false,Bool.false_eq_true]at z<;>first|rfl|omega
   rw[this];exact Zrg false e2
  ·rw[if_neg z,if_neg z];rfl
 ·rw[if_neg c];have hm8:8388608<=m1:=oM;have hpow:(2:Int)^(e1-e2).toNat=2^(e1-e2-37).toNat*137438953472:=by
   have:(e1-e2).toNat=(e1-e2-37).toNat+37:=oM;rw[this,Int.pow_add];rfl
  have hP2:(1:Int)<=2^(e1-e2-37).toNat:=Int.pow_pos dE;have hbig:137438953472<=(2:Int)^(e1-e2).toNat:=oM;have hXbig:137438953472<=m1*2^(e1-e2).toNat:=by
   have:=Int.mul_le_mul (show(1:Int)<=m1 by omega) hbig dE oM;omega
  have hz1:¬ (sgd s1 (m1*2^(e1-e2).toNat)+sgd s2 m2=0):=by
   generalize m1*2^(e1-e2).toNat=X at *;exact Zdi
  have hz2:¬ (sgd s1 (m1*68719476736)+sgd s2 1=0):=by
   exact Zdi
  have hs1:decide (sgd s1 (m1*2^(e1-e2).toNat)+sgd s2 m2<0)=s1:=by
   generalize m1*2^(e1-e2).toNat=X at *;cases s1<;>cases s2<;>simp only[sgd,if_true,if_false,Bool.false_eq_true]<;>simp<;>omega
  have hs2:decide (sgd s1 (m1*68719476736)+sgd s2 1<0)=s1:=by
   cases s1<;>cases s2<;>simp only[sgd,if_true,if_false,Bool.false_eq_true]<;>simp<;>omega
  unfold rnd;rw[if_neg hz1,if_neg hz2,hs1,hs2,Zju,Zju];have r1:Zkh 23 (-149) (sgd s1 (m1*2^(e1-e2).toNat)+sgd s2 m2).natAbs e2=(e1+149).toNat*8388608+m1.toNat:=by
   refine Zack m1.toNat 0 _ m2.toNat e1 oM oM oM e2 h5 (e1-e2).toNat oM ?_ ?_
   ·have hcast:((m1.toNat*2^(e1-e2).toNat:Nat):Int)=m1*2^(e1-e2).toNat:=by
     rw[Int.natCast_mul,Int.natCast_pow,Int.toNat_of_nonneg oM];rfl
    generalize m1.toNat*2^(e1-e2).toNat=Y at *;generalize m1*2^(e1-e2).toNat=X at *;exact Zdi
   ·have hcast:((2^(e1-e2).toNat:Nat):Int)=(2:Int)^(e1-e2).toNat:=Int.natCast_pow 2 _;omega
  have r2:Zkh 23 (-149) (sgd s1 (m1*68719476736)+sgd s2 1).natAbs (e1-36)=(e1+149).toNat*8388608+m1.toNat:=by
   refine Zack m1.toNat 0 _ 1 e1 oM oM oM (e1-36) oM 36 oM ?_ dE;rw[show(2:Nat)^36=68719476736 from rfl];exact Zdi
  rw[Zmb,Zkq,r1,r2];rfl
theorem Zqi(a:Int){d:Ieee.Datum}(h:Ieee.single.read a.toNat=d):Zks a=op2 ((d.root 25).map Ieee.single.write):=by
 unfold Zks Ieee.Format.sqrt;rw[h];rfl
theorem Zalf(a:Int)(h0:0<=a)(h1:a<4294967296)(hia:nInf a=false)(hna:nNan a=false)(za:nM a≠0)(hs:nMin a=false)(root n:Nat)(e:Int)(he:e%2=0)
 (hn:(n:Int)=nM a*2^nk (nM a)*68719476736/\e=nE a-nk (nM a)-36\/(n:Int)=nM a*2^nk (nM a)*68719476736*2/\e=nE a-nk (nM a)-37) (hr1:root*root<=n) (hr2:n<(root+1)*(root+1)):
 Zks a=(Ieee.single.nearest false (2*root+(if root*root<n then 1 else 0)) (e/2-1):Nat):=by
 obtain⟨fa,sa,ma,ta⟩:=Zwt a h0 h1 hia hna;obtain⟨-,a1,a2,a3,a4,-⟩:=Zki a h0 h1 hia hna;obtain⟨ka,A1,A2⟩:=Zow (nM a) oM a2;obtain⟨r,hr,hnear⟩:=Zuq a.toNat fa (by rw[sa];exact hs) oM;have hst:(root*root != n).toNat=if root*root<n then 1 else 0:=by
  by_cases c:root*root=n
  ·rw[if_neg oM];simp[c]
  ·rw[if_pos oM];simp[c]
 obtain⟨x,hx⟩:∃x:Nat,(x:Int)=e/2+149:=⟨(e/2+149).toNat,oM⟩
 have hn59:576460752303423488<=n:=oM;have hroot:16777216<=root:=by
  rcases Nat.lt_or_ge root 16777216 with c|c
  ·exfalso;have:=Nat.mul_self_le_mul_self (show root+1<=16777216 from c);omega
  ·exact c
 have big:23+2<=(2*root+(root*root != n).toNat).log2:=by
  apply(Nat.le_log2 oM).2;omega
 have h2:=Zti 23 (-149) root n (e/2-1) dE hr1 hr2 big x oM;have hval:n*(2^x*2^x)=mv a.toNat*2^149:=by
  have cA:nM a*2^nk (nM a)=((mg a.toNat*2^nk (nM a):Nat):Int):=by rw[Int.natCast_mul,Znn,ma]
  rw[cA]at hn;obtain⟨z,hz⟩:∃z:Nat,z=149:=⟨_,rfl⟩
  rw[Zpx,←hz];rcases hn with⟨hn,hE⟩|⟨hn,hE⟩
  ·have hn':n=mg a.toNat*2^nk (nM a)*2^36:=by
    have:(2:Nat)^36=68719476736:=rfl;omega
   exact Zfe
  ·have hn':n=mg a.toNat*2^nk (nM a)*2^37:=by
    have:(2:Nat)^37=68719476736*2:=rfl;omega
   exact Zfe
 rw[hval,hst]at h2;have key:=hnear.unique h2;unfold Zks;rw[hr];show((wd false r:Nat):Int)=_;rw[Zju,Zmb,Zkq,Zsb,←key]
def rrel(n k root:Nat):Prop:=root*root<=n/\n<(root+2^k)*(root+2^k)/\root+2^k<=4294967296
def bitv(k:Nat):Int:=if k=0 then 0 else 2^(k-1)
theorem Zajv(k:Nat):bitv (k+1)=2^k:=by unfold bitv;rw[if_neg oM];rfl
theorem Zajy(k:Nat):(2:Int)^k/2=bitv k:=by
 unfold bitv;rcases Nat.eq_zero_or_pos k with c|c
 ·subst c;rfl
 ·rw[if_neg oM];obtain⟨j,rfl⟩:∃j,k=j+1:=⟨k-1,oM⟩
  rw[Int.pow_succ,Nat.add_sub_cancel];omega
theorem Zalj(a:Int)(h0:0<=a)(h1:a<4294967296)(hia:nInf a=false)(hna:nNan a=false)(za:nM a≠0)(hs:nMin a=false)(w:World):
 Calls prog 178 #[.int .i64 a] w fun e w'=>e=.returned (.int .i64 (Zks a))/\Below w.heap.size w w':=by
 obtain⟨ra,a1,a2,a3,a4,a5⟩:=Zki a h0 h1 hia hna;obtain⟨ka,A1,A2⟩:=Zow (nM a) oM a2;obtain⟨A,hA⟩:∃A,nM a*2^nk (nM a)=A:=⟨_,rfl⟩
 obtain⟨EA,hEA⟩:∃EA,nE a-(nk (nM a):Int)=EA:=⟨_,rfl⟩
 have hv:=Zalf a h0 h1 hia hna za hs;rw[hA,hEA]at hv;rw[hA]at A1 A2;have eb: -172<=EA/\EA<=104:=oM;clear ra a5;have HV:Hid (∀ (root n:Nat) (e:Int),e%2=0->((n:Int)=A*68719476736/\e=EA-36\/(n:Int)=A*68719476736*2/\e=EA-37)->root*root<=n->n<(root+1)*(root+1)->Zks a=(Ieee.single.nearest false (2*root+(if root*root<n then 1 else 0)) (e/2-1):Nat)):=fun root n e p q r s=>hv root n e p q r s;clear hv;generalize hF:Zks a=F at *;clear hF;by_cases c:EA%2=0
 ·skip
  obtain⟨N,hN⟩:∃N:Int,A*68719476736=N:=⟨_,rfl⟩
  obtain⟨e,he⟩:∃e:Int,EA-36=e:=⟨_,rfl⟩
  obtain⟨E2,hE2⟩:∃E2:Int,e/2=E2:=⟨_,rfl⟩
  have hNb:576460752303423488<=N/\N<2305843009213693952:=oM;obtain⟨n,hn⟩:∃n:Nat,(n:Int)=N:=⟨N.toNat,oM⟩
  have hv2:=fun root=>HV.out root n e oM (Or.inl ⟨oM,oM⟩);rw[hE2]at hv2;have htd:e.tdiv 2=E2:=by rw[←hE2,Int.tdiv_eq_ediv];split<;>omega
  have hodd:e.tmod 2=0:=by rw[Int.tmod_eq_emod];split<;>omega
  exact Zaj
 ·skip
  have hodd:(EA-36).tmod 2≠0:=by rw[Int.tmod_eq_emod];split<;>omega
  obtain⟨N,hN⟩:∃N:Int,A*68719476736*2=N:=⟨_,rfl⟩
  obtain⟨e,he⟩:∃e:Int,EA-36-1=e:=⟨_,rfl⟩
  obtain⟨E2,hE2⟩:∃E2:Int,e/2=E2:=⟨_,rfl⟩
  have hNb:576460752303423488<=N/\N<2305843009213693952:=oM;obtain⟨n,hn⟩:∃n:Nat,(n:Int)=N:=⟨N.toNat,oM⟩
  have hv2:=fun root=>HV.out root n e oM (Or.inr ⟨oM,oM⟩);rw[hE2]at hv2;have htd:e.tdiv 2=E2:=by rw[←hE2,Int.tdiv_eq_ediv];split<;>omega
  exact Zaj
theorem Zajr(a:Int)(h0:0<=a)(h1:a<4294967296)(w:World):
 Calls prog 178 #[.int .i64 a] w fun e w'=>e=.returned (.int .i64 (Zks a))/\Below w.heap.size w w':=by
 cases hna:nNan a
 ·cases hia:nInf a
  ·by_cases za:nM a=0
   ·obtain⟨ra,a1,a2,a3,a4,a5⟩:=Zki a h0 h1 hia hna;have hv:Zks a=a:=by
     rw[Zqi a ra,za];have e:((Ieee.single.nearest (nMin a) 0 (nE a):Nat):Int)=sgn (nMin a):=Zrg _ _;show((Ieee.single.nearest (nMin a) 0 (nE a):Nat):Int)=a;rw[e];have h2:=Zwt a h0 h1 hia hna;have h3:=Zpi a h0 h1;have h4:rg a.toNat=0:=by
      have:mg a.toNat=0:=oM;unfold mg at this;split at this<;>omega
     rw[h2.2.1,h4]at h3;unfold sgn;omega
    rw[hv];clear hv ra a5;go_enter func178,ntmps178;exact Zbd
   ·cases hs:nMin a
    ·exact Zalj a h0 h1 hia hna za hs w
    ·obtain⟨ra,a1,a2,a3,a4,a5⟩:=Zki a h0 h1 hia hna;have hv:Zks a=2143289344:=by
      rw[Zqi a ra,hs];have:(nM a).toNat≠0:=oM;simp only[Ieee.Datum.root,if_neg this,if_true];rfl
     rw[hv];clear hv ra a5;go_enter func178,ntmps178;exact Zbd
  ·obtain⟨ra,-,a1⟩:=Zmk a h0 h1 hia;cases hs:nMin a
   ·have hv:Zks a=a:=by
     rw[Zqi a ra,hs];have h2:rg a.toNat=2139095040:=by
      rcases Nat.lt_trichotomy (rg a.toNat) 2139095040 with c|c|c
      ·rw[Zjy _ c]at ra;cases ra
      ·exact c
      ·rw[Zlc _ c]at ra;cases ra
     have h3:=Zpi a h0 h1;rw[←Zxa a h0 h1,hs,h2]at h3;show((Ieee.single.write (.infinity false):Nat):Int)=a;rw[Zkz];unfold sgn;omega
    rw[hv];clear hv ra;go_enter func178,ntmps178;exact Zbd
   ·have hv:Zks a=2143289344:=by rw[Zqi a ra,hs];rfl
    rw[hv];clear hv ra;go_enter func178,ntmps178;exact Zbd
 ·have hv:Zks a=2143289344:=by
   obtain⟨s,t,e⟩:=Zox a h0 h1 hna;rw[Zqi a e];rfl
  rw[hv];clear hv;go_enter func178,ntmps178;exact Zbd
theorem Zaau(a b:Int)(h0:0<=a)(h1:a<4294967296)(g0:0<=b)(g1:b<4294967296)(h:nNan a=true\/nNan b=true):fdiv a b=2143289344:=by
 rcases h with h|h
 ·obtain⟨s,t,e⟩:=Zox a h0 h1 h;rw[Zod a b e rfl];cases Ieee.single.read b.toNat<;>rfl
 ·obtain⟨s,t,e⟩:=Zox b g0 g1 h;rw[Zod a b rfl e];cases Ieee.single.read a.toNat<;>rfl
theorem Zaiv(s:Bool):((Ieee.single.write (.number s 0 0):Nat):Int)=sgn s:=by cases s<;>decide
theorem quot_lo(A B:Int)(h1:8388608<=A)(h2:A<16777216)(h3:8388608<=B)(h4:B<16777216):0<=A*274877906944/B/\A*274877906944/B<1099511627776/\0<=A*274877906944%B/\A*274877906944%B<16777216:=by
 have e:=Int.mul_ediv_add_emod (A*274877906944) B;have r0:=Int.emod_nonneg (A*274877906944) (show B≠0 by omega);have r1:=Int.emod_lt_of_pos (A*274877906944) (show 0<B by omega);have q0:0<=A*274877906944/B:=Int.ediv_nonneg oM oM;refine⟨q0,?_,r0,oM⟩;apply Int.ediv_lt_of_lt_mul oM;omega
theorem Zarg(a:Int)(h0:0<=a)(h1:a<4294967296)(b:Int)(g0:0<=b)(g1:b<4294967296)(w:World):
 Calls prog 184 #[.int .i64 a,.int .i64 b] w fun e w'=>e=.returned (.int .i64 (fdiv a b))/\Below w.heap.size w w':=by
 cases hna:nNan a
 ·cases hnb:nNan b
  ·cases hia:nInf a
   ·obtain⟨ra,a1,a2,a3,a4,a5⟩:=Zki a h0 h1 hia hna;cases hib:nInf b
    ·obtain⟨rb,b1,b2,b3,b4,b5⟩:=Zki b g0 g1 hib hnb;by_cases zb:nM b=0
     ·by_cases za:nM a=0
      ·have hv:fdiv a b=2143289344:=by rw[Zod a b ra rb,za,zb];rfl
       rw[hv];clear hv ra rb;exact Zah
      ·have hv:fdiv a b=sgn (nMin a != nMin b)+2139095040:=by
        rw[Zod a b ra rb,zb,←Zkz,←Znf];have:(nM a).toNat≠0:=oM;simp only[Ieee.Datum.quotient,if_neg this,Int.toNat_zero,if_true];rfl
       rw[hv];clear hv ra rb;exact Zah
     ·by_cases za:nM a=0
      ·have hv:fdiv a b=sgn (nMin a != nMin b):=by
        rw[Zod a b ra rb,za,←Znf];have:(nM b).toNat≠0:=oM;simp only[Ieee.Datum.quotient,if_neg this,Int.toNat_zero,Nat.zero_shiftLeft,Nat.zero_div,Nat.zero_mod];exact Zrg _ _
       rw[hv];clear hv ra rb;exact Zah
      ·obtain⟨ka,A1,A2⟩:=Zow (nM a) oM a2;obtain⟨kb,B1,B2⟩:=Zow (nM b) oM b2;obtain⟨A,hA⟩:∃A,nM a*2^nk (nM a)=A:=⟨_,rfl⟩
       obtain⟨B,hB⟩:∃B,nM b*2^nk (nM b)=B:=⟨_,rfl⟩
       have hv:=Zapf a b h0 h1 g0 g1 hia hna hib hnb za zb A B hA hB;rw[hA]at A1 A2;rw[hB]at B1 B2;have hq:=quot_lo A B A1 A2 B1 B2;obtain⟨EA,hEA⟩:∃EA,nE a-(nk (nM a):Int)=EA:=⟨_,rfl⟩
       obtain⟨EB,hEB⟩:∃EB,nE b-(nk (nM b):Int)=EB:=⟨_,rfl⟩
       rw[hEA,hEB]at hv;have eb: -172<=EA/\EA<=104/\-172<=EB/\EB<=104:=oM;rw[hv];clear hv ra rb a5 b5;obtain⟨q,hqq⟩:∃q,A*274877906944/B=q:=⟨_,rfl⟩
       obtain⟨r,hrr⟩:∃r,A*274877906944%B=r:=⟨_,rfl⟩
       rw[hqq,hrr]at hq ⊢;have hdiv:(A*274877906944).tdiv B=q:=by rw[←hqq,Int.tdiv_eq_ediv_of_nonneg oM]
       have hmod:(A*274877906944).tmod B=r:=by rw[←hrr,Int.tmod_eq_emod_of_nonneg oM]
       by_cases zr:r=0
       ·rw[if_pos zr];exact Zbw
       ·rw[if_neg zr];exact Zbw
    ·obtain⟨rb,-,b1⟩:=Zmk b g0 g1 hib;have hv:fdiv a b=sgn (nMin a != nMin b):=by rw[Zod a b ra rb,←Zaiv,←Znf];rfl
     rw[hv];clear hv ra rb;by_cases za:nM a=0
     ·skip
      exact Zah
     ·skip
      exact Zah
   ·obtain⟨ra,-,a1⟩:=Zmk a h0 h1 hia;cases hib:nInf b
    ·obtain⟨rb,b1,b2,b3,b4,b5⟩:=Zki b g0 g1 hib hnb;have hv:fdiv a b=sgn (nMin a != nMin b)+2139095040:=by rw[Zod a b ra rb,←Zkz,←Znf];rfl
     rw[hv];clear hv ra rb;exact Zah
    ·obtain⟨rb,-,b1⟩:=Zmk b g0 g1 hib;have hv:fdiv a b=2143289344:=by rw[Zod a b ra rb];rfl
     rw[hv];clear hv ra rb;exact Zah
  ·have hv:=Zaau a b h0 h1 g0 g1 (Or.inr hnb);rw[hv];clear hv;exact Zah
 ·have hv:=Zaau a b h0 h1 g0 g1 (Or.inl hna);rw[hv];clear hv;exact Zah
theorem Zadb(a b:Int)(h0:0<=a)(h1:a<4294967296)(g0:0<=b)(g1:b<4294967296)(h:nNan a=true\/nNan b=true):fadd a b=2143289344:=by
 rcases h with h|h
 ·obtain⟨s,t,e⟩:=Zox a h0 h1 h;rw[Zlo a b e rfl];cases Ieee.single.read b.toNat<;>rfl
 ·obtain⟨s,t,e⟩:=Zox b g0 g1 h;rw[Zlo a b rfl e];cases Ieee.single.read a.toNat<;>rfl
theorem Zzj(a b:Int)(h0:0<=a)(h1:a<4294967296)(g0:0<=b)(g1:b<4294967296){s:Bool}{i:Int}(ra:Ieee.single.read a.toNat=.number s 0 i)(rb:Ieee.single.read b.toNat=.number (nMin b) (nM b).toNat (nE b))(hb:nM b≠0)(hb0:0<=nM b)(hi: -149<=i)(hj: -149<=nE b):
 fadd a b=(Ieee.single.nearest (nMin b) (nM b).toNat (nE b):Nat):=by
 rw[Zlo a b ra rb];simp only[Ieee.Datum.sum,Option.map_some,Ieee.Format.write];generalize hbase:min i (nE b)=base;have hz:Ieee.signed s 0 (i-base).toNat=0:=by unfold Ieee.signed;simp
 rw[hz,Int.zero_add,Ztl];have hP:(1:Int)<=2^(nE b-base).toNat:=Int.pow_pos dE;have hX:0<((nM b).toNat:Int)*2^(nE b-base).toNat:=Int.mul_pos oM oM;have e1:¬ (sgd (nMin b) (((nM b).toNat:Int)*2^(nE b-base).toNat)=0):=by
  unfold sgd;split<;>omega
 have e2:decide (sgd (nMin b) (((nM b).toNat:Int)*2^(nE b-base).toNat)<0)=nMin b:=by
  generalize ((nM b).toNat:Int)*2^(nE b-base).toNat=X at *;cases nMin b<;>simp only[sgd,if_true,if_false,Bool.false_eq_true]<;>simp<;>omega
 have e3:(sgd (nMin b) (((nM b).toNat:Int)*2^(nE b-base).toNat)).natAbs=(nM b).toNat*2^(nE b-base).toNat:=by
  have hc:(((nM b).toNat*2^(nE b-base).toNat:Nat):Int)=((nM b).toNat:Int)*2^(nE b-base).toNat:=by rw[Int.natCast_mul,Int.natCast_pow];rfl
  unfold sgd;split<;>omega
 rw[if_neg e1,e2,e3];show((Ieee.single.nearest (nMin b) _ base:Nat):Int)=_;rw[Zju,Zju,Zmb,Zkq];obtain⟨c,hc⟩:∃c:Nat,(c:Int)=base+149:=⟨(base+149).toNat,oM⟩
 obtain⟨d,hd⟩:∃d:Nat,(d:Int)=nE b+149:=⟨(nE b+149).toNat,oM⟩
 have r1:=Zaby ((nM b).toNat*2^(nE b-base).toNat) c;have r2:=Zaby (nM b).toNat d;rw[show -149+(c:Int)=base by omega]at r1;rw[show -149+(d:Int)=nE b by omega]at r2;rw[r1,r2,Nat.mul_assoc,←Nat.pow_add,show(nE b-base).toNat+c=d by omega]
theorem Zvf(a:Int)(h0:0<=a)(h1:a<4294967296)(b:Int)(g0:0<=b)(g1:b<4294967296)(w:World):
 Calls prog 125 #[.int .i64 a,.int .i64 b] w fun e w'=>e=.returned (.int .i64 (fadd a b))/\Below w.heap.size w w':=by
 cases hna:nNan a
 ·cases hnb:nNan b
  ·cases hia:nInf a
   ·obtain⟨ra,a1,a2,a3,a4,a5⟩:=Zki a h0 h1 hia hna;cases hib:nInf b
    ·obtain⟨rb,b1,b2,b3,b4,b5⟩:=Zki b g0 g1 hib hnb;by_cases za:nM a=0
     ·by_cases zb:nM b=0
      ·have hv:fadd a b=sgn (nMin a&&nMin b):=by
        rw[Zlo a b ra rb,za,zb];simp only[Ieee.Datum.sum,Option.map_some,Ieee.Format.write];have:Ieee.signed (nMin a) (0:Int).toNat (nE a-min (nE a) (nE b)).toNat+Ieee.signed (nMin b) (0:Int).toNat (nE b-min (nE a) (nE b)).toNat=0:=by unfold Ieee.signed;simp
        rw[this,if_pos rfl];exact Zrg _ _
       rw[hv];clear hv ra rb;cases hma:nMin a
       ·rw[Bool.false_and];exact Zad
       ·rw[Bool.true_and];exact Zad
      ·have hv:=Zzj a b h0 h1 g0 g1 (s:=nMin a) (i:=nE a) (by rw[ra,za];rfl) rb zb b1 a3 b3;rw[hv];clear hv ra rb;exact Zad
     ·by_cases zb:nM b=0
      ·have hv:=Zzj b a g0 g1 h0 h1 (s:=nMin b) (i:=nE b) (by rw[rb,zb];rfl) ra za a1 b3 a3;rw[Zyp,hv];clear hv ra rb;exact Zad
      ·by_cases hE:nE a<nE b
       ·have hv:fadd a b=sumv (nMin b) (nM b) (nE b) (nMin a) (nM a) (nE a):=by
         rw[Zyp,Zlo b a rb ra,Zacp _ _ _ _ _ _ oM b2 oM a2 a3 oM b5]
        exact Zbs
       ·have hv:fadd a b=sumv (nMin a) (nM a) (nE a) (nMin b) (nM b) (nE b):=by
         rw[Zlo a b ra rb,Zacp _ _ _ _ _ _ oM a2 oM b2 b3 oM a5]
        exact Zbs
    ·obtain⟨rb,-,b1⟩:=Zmk b g0 g1 hib;have hv:fadd a b=sgn (nMin b)+2139095040:=by rw[Zlo a b ra rb,←Zkz];rfl
     rw[hv];clear hv ra rb;exact Zad
   ·obtain⟨ra,-,a1⟩:=Zmk a h0 h1 hia;cases hib:nInf b
    ·obtain⟨rb,b1,b2,b3,b4,b5⟩:=Zki b g0 g1 hib hnb;have hv:fadd a b=sgn (nMin a)+2139095040:=by rw[Zlo a b ra rb,←Zkz];rfl
     rw[hv];clear hv ra rb;exact Zad
    ·obtain⟨rb,-,b1⟩:=Zmk b g0 g1 hib;cases hma:nMin a<;>cases hmb:nMin b<;>rw[hma]at ra<;>rw[hmb]at rb
     ·have hv:fadd a b=sgn false+2139095040:=by rw[Zlo a b ra rb,←Zkz];rfl
      rw[hv];clear hv ra rb;exact Zad
     ·have hv:fadd a b=2143289344:=by rw[Zlo a b ra rb];rfl
      rw[hv];clear hv ra rb;exact Zad
     ·have hv:fadd a b=2143289344:=by rw[Zlo a b ra rb];rfl
      rw[hv];clear hv ra rb;exact Zad
     ·have hv:fadd a b=sgn true+2139095040:=by rw[Zlo a b ra rb,←Zkz];rfl
      rw[hv];clear hv ra rb;exact Zad
  ·have hv:=Zadb a b h0 h1 g0 g1 (Or.inr hnb);rw[hv];clear hv;exact Zad
 ·have hv:=Zadb a b h0 h1 g0 g1 (Or.inl hna);rw[hv];clear hv;exact Zad
theorem Zuo(d e:Ieee.Datum)(h:d.isNaN=true):e.sum d=none:=by
 cases d<;>simp[Ieee.Datum.isNaN]at h
 cases e<;>rfl
theorem fsub_eq(a b:Int)(g0:0<=b)(g1:b<4294967296):fsub a b=fadd a (fneg b):=by
 cases hn:nan b
 ·rw[Zacl b g0 g1 hn];unfold fsub fadd Ieee.Format.sub Ieee.Format.add;rw[Int.toNat_natCast,Zamn _ oM]
 ·rw[Zaca b g0 g1 hn];have h2:2139095040<rg b.toNat:=by rw[Ztg b g0]at hn;simpa using hn
  unfold fsub fadd Ieee.Format.sub Ieee.Format.add;rw[Zlc _ h2,show Ieee.single.read (2143289344:Int).toNat=.nan false 4194304 from by decide,Zuo _ _ rfl,Zuo _ _ rfl]
theorem Zaql(a:Int)(h0:0<=a)(h1:a<4294967296)(b:Int)(g0:0<=b)(g1:b<4294967296)(w:World):
 Calls prog 183 #[.int .i64 a,.int .i64 b] w fun e w'=>e=.returned (.int .i64 (fsub a b))/\Below w.heap.size w w':=by
 rw[fsub_eq a b g0 g1];have hl:=Zafo b g0 g1;go_enter func183,ntmps183;go_wp2_with(first
  |(go_at_call 179;refine(Zaar _ g0 g1 _).mono ?_;rintro e w1 ⟨rfl,hb1⟩)
  |(go_at_call 125;refine(Zvf _ h0 h1 _ hl.1 hl.2 _).mono ?_;rintro e w2 ⟨rfl,hb2⟩))
 go_ret;exact⟨rfl,belV hb1 hb2⟩
end Go.Proofs.YtbinohkcolcbfaaGreat
set_option maxRecDepth 100000
set_option maxHeartbeats 16000000
namespace Go.Proofs.YtbinohkcolcbfaaGreat
open Go.RowKit Go.Proofs.Tryz
set_option linter.unusedVariables false
def dn(o:Option Nat):Nat:=match o with
 |some _=>0
 |none=>1
section
variable {P : Program} (w : World)
end
section
variable (w : World) (n : Nat)
@[go_sem] theorem alloc_drewN (o:Obj):(w.drewN n).alloc o=(w.alloc o).drewN n:=rfl
@[go_sem] theorem setCell_drewN (a:Addr) (v:Value):(w.drewN n).setCell a v=(w.setCell a v).drewN n:=rfl
end
end Go.Proofs.YtbinohkcolcbfaaGreat
set_option maxRecDepth 100000
set_option maxHeartbeats 16000000
namespace Go.Proofs.YtbinohkcolcbfaaGreat
open Go.RowKit Go.Proofs.Tryz
set_option linter.unusedVariables false
theorem Zkj{w:World}{a:Addr}{v:Value}(h:w.cell? a=some v):a.block<w.heap.size:=by
 rcases Nat.lt_or_ge a.block w.heap.size with c|c
 ·exact c
 ·have:w.heap[a.block]? =none:=Array.getElem?_eq_none c;simp[World.cell?,this]at h
theorem Zjg(w:World)(o:Obj):Below w.heap.size w (w.alloc o):=(Below.refl _ _).alloc (Nat.le_refl _) o
section
variable {w : World} {cs : List (Addr × Value)} {g : Nat} {x y : Value} {v v' : World}
end
end Go.Proofs.YtbinohkcolcbfaaGreat
namespace Go.Proofs.YtbinohkcolcbfaaGreat
open Go.RowKit Go.Proofs.Tryz
set_option linter.unusedVariables false
set_option linter.unusedSimpArgs false
set_option maxRecDepth 100000
set_option maxHeartbeats 16000000
def Zio(w:World)(p:Option Addr)(n:Nat)(X:Nat->Value):Prop:=n=0\/∃b o,p=some ⟨b,o,none⟩/\∀i,i<n->w.cell? ⟨b,o+i,none⟩=some (X i)
theorem Zio.below{w w':World}{p:Option Addr}{n:Nat}{X:Nat->Value}(h:Zio w p n X)(k:Below w.heap.size w w'):Zio w' p n X:=by
 rcases h with h|⟨b,o,e,h⟩
 ·exact .inl h
 ·exact .inr ⟨b,o,e,fun i hi=>(k.cell (Zkj (h i hi))).trans (h i hi)⟩
theorem Zio.congr{w:World}{p:Option Addr}{n:Nat}{X Y:Nat->Value}(h:Zio w p n X)(e:∀i,i<n->X i=Y i):Zio w p n Y:=by
 rcases h with h|⟨b,o,q,h⟩
 ·exact .inl h
 ·exact .inr ⟨b,o,q,fun i hi=>by rw[h i hi,e i hi]⟩
theorem Zakd{w w':World}{g:Nat}{t:TypeId}{n:Nat}{X:Nat->Value}(h:w.rowIs g t n X)(k:Below w.heap.size w w'):w'.rowIs g t n X:=h.of_block (k.block g h.lt)
theorem info_F:(prog.info? 43).map (fun i=>(i.zero,i.size,i.bytes))=some (some (.int .u32 0),1,4):=kR
theorem Zwm(m:Nat)(h:m<=70368744177664)(w:World):(Instr.makeSlice 57 (.int .i64 m) (.int .i64 m)).run prog w=.ok (.slice (some ⟨w.heap.size,0,none⟩) m m) (w.alloc (.cells (madeCells #[.int .u32 0] m) 43)):=
 run_make_row' (P:=prog) 57 43 (.int .u32 0) 4 underlying57 info_F rfl .i64 .i64 m oM oM w

def nums(X:Nat->Int)(n:Nat):List Value:=(List.range n).map fun i=>.int .u32 (X i)
def IsP(a:Int):Prop:=0<=a/\a<4294967296
theorem Zmx(a:Int)(h:IsP a):IsP (canon a):=Zno a h.1 h.2
theorem Zxy(a b:Int):IsP (fadd a b):=Zafs a b
theorem isP_sub(a b:Int):IsP (fsub a b):=fsub_lo a b
theorem isP_mul(a b:Int):IsP (fmul a b):=Znd a b
theorem isP_div(a b:Int):IsP (fdiv a b):=fdiv_lo a b
theorem Zaqe(a:Int):IsP (Zks a):=Zarx a
theorem isP_neg(a:Int)(h:IsP a):IsP (fneg a):=Zafo a h.1 h.2
theorem isP_abs(a:Int)(h:IsP a):IsP (fabs a):=Zno _ (by have:=h.1;omega) (by have:=h.1;omega)
theorem Ztz(a b:Int)(h:IsP a)(k:IsP b):IsP (fmin a b):=by
 have h1:=h.1;have h2:=h.2;have k1:=k.1;have k2:=k.2;unfold IsP fmin;split
 ·decide
 ·exact h
 ·exact k
 ·split
  ·exact h
  ·exact k
theorem isP_max(a b:Int)(h:IsP a)(k:IsP b):IsP (fmax a b):=by
 have h1:=h.1;have h2:=h.2;have k1:=k.1;have k2:=k.2;unfold IsP fmax;split
 ·decide
 ·exact k
 ·exact h
 ·split
  ·exact k
  ·exact h
theorem isP_sel(c a b:Int)(h:IsP a)(k:IsP b):IsP (fsel c a b):=by
 unfold fsel;split
 ·exact Zmx b k
 ·exact Zmx a h
def Zpu(f:Int->Int->Int)(s:Int)(X:Nat->Int):Nat->Int
 |0=>s
 |n+1=>f (Zpu f s X n) (X n)
theorem Zpa{f:Int->Int->Int}(hf:∀a b,IsP a->IsP b->IsP (f a b)){s:Int}(hs:IsP s){X:Nat->Int}(hX:∀i,IsP (X i)):∀n,IsP (Zpu f s X n)
 |0=>hs
 |n+1=>hf _ _ (Zpa hf hs hX n) (hX n)
def fsum(X:Nat->Int)(n:Nat):Int:=Zpu fadd 0 X n
def Zmh(X:Nat->Int)(n:Nat):Int:=Zpu fmin 2139095040 X n
theorem Zpv:IsP 0:=by unfold IsP;decide
theorem isP_sum(X:Nat->Int)(n:Nat)(hX:∀i,IsP (X i)):IsP (fsum X n):=Zpa (fun _ _ _ _=>Zafs _ _) Zpv hX n
def Zjq(op:Int):Nat:=
 if op=3\/op=11\/op=12\/op=13\/op=14 then 1 else if op=4\/op=5\/op=6\/op=7\/op=8\/op=9\/op=10 then 2 else if op=15 then 3 else 0
def flag(b:Bool):Int:=if b then 1065353216 else 0
theorem Zabe(b:Bool):IsP (flag b):=by unfold IsP flag;cases b<;>decide
theorem Zkd{c:Prop}[Decidable c]{a b:Int}(h:IsP a)(k:IsP b):IsP (if c then a else b):=by
 split
 ·exact h
 ·exact k
def opf(op a b c:Int):Int:=
 if op=3 then canon a else if op=11 then Zks a else if op=12 then fneg a else if op=13 then fabs a else if op=14 then flag (ffin a)
 else if op=4 then fadd a b else if op=5 then fsub a b else if op=6 then fmul a b else if op=7 then fdiv a b else if op=8 then fmin a b else if op=9 then fmax a b
 else if op=10 then flag (Zpg a b)else fsel a b c
theorem Zxg(op a b c:Int)(ha:IsP a)(hb:IsP b)(hc:IsP c):IsP (opf op a b c):=
 Zkd (Zmx a ha) (Zkd (Zaqe a) (Zkd (isP_neg a ha) (Zkd (isP_abs a ha) (Zkd (Zabe _) (Zkd (Zxy a b) (Zkd (isP_sub a b) (Zkd (isP_mul a b)
  (Zkd (isP_div a b) (Zkd (Ztz a b ha hb) (Zkd (isP_max a b ha hb) (Zkd (Zabe _) (isP_sel a b c hb hc))))))))))))
def EntV(k:Nat):Prop:=∀ (args:Array Value) (w:World),(callFunc k args).run prog w=.ok (.enter k args) w
theorem Zvv(k:Nat)(hen:EntV k)(f:Int->Int->Int)(hf:∀a b,IsP a->IsP b->IsP (f a b))
 (hk:∀a b (v:World),IsP a->IsP b->Calls prog k #[.int .u32 a,.int .u32 b] v fun e v'=>e=.returned (.int .u32 (f a b))/\Below v.heap.size v v')
 (s:Int) (hs:IsP s) (p:Option Addr) (n c:Nat) (X:Nat->Int) (hX:∀i,IsP (X i)) (hn:n<=1048576) (w:World) (hp:Zio w p n (fun i=>.int .u32 (X i))):
 Calls prog 141 #[.int .u32 s,.slice p n c,.func (.func k) #[] #[]] w fun e w'=>e=.returned (.int .u32 (Zpu f s X n))/\Below w.heap.size w w':=by
 unfold EntV at hen;go_enter func141,ntmps141;go_wp2
 go_loopw [0,11] (fun sv iv wr=>Below w.heap.size w wr/\∃j:Nat,j<=n/\iv=.int .i64 j/\sv=.int .u32 (Zpu f s X j)) (fun _ iv _=>n-(intOf iv).toNat)
 case atStart=>exact⟨Zkp w,0,Nat.zero_le _,rfl,rfl⟩
 case round=>
  obtain⟨hb,j,hj,rfl,rfl⟩:=hrel;by_cases hlt:j<n
  ·rcases hp with hp|⟨b,o,rfl,hp⟩
   ·omega
   have hbl:b<w.heap.size:=Zkj (hp j hlt);have h1:wr.cell? ⟨b,o+j,none⟩=some (.int .u32 (X j)):=(hb.cell hbl).trans (hp j hlt);have i1:(0:Int)<=(j:Int):=oM;have i2:(j:Int)<(n:Int):=oM;have hk1:=hk (Zpu f s X j) (X j) wr (Zpa hf hs hX j) (hX j);have HK:Hid (Calls prog k #[.int .u32 (Zpu f s X j),.int .u32 (X j)] wr fun e v'=>e=.returned (.int .u32 (Zpu f s X (j+1)))/\Below wr.heap.size wr v'):=hk1;clear hp hk hk1;go_wp2_with((with_reducible refine HK.out.mono ?_);rintro e w1 ⟨rfl,hb1⟩);exact Zeb
  ·have:j=n:=oM;subst this;clear hp hk;go_wp2;go_ret;exact⟨rfl,hb⟩
theorem sum_any(p:Option Addr)(n c:Nat)(X:Nat->Int)(hX:∀i,IsP (X i))(hn:n<=1048576)(w:World)(hp:Zio w p n (fun i=>.int .u32 (X i))):
 Calls prog 111 #[.slice p n c] w fun e w'=>e=.returned (.int .u32 (fsum X n))/\Below w.heap.size w w':=by
 go_enter func111,ntmps111;go_wp2_with(go_at_call 141;refine(Zvv 142 (enters_of func142 kR rfl) fadd (fun _ _ _ _=>Zxy _ _) (fun a b v ha hb=>Zaem a ha.1 ha.2 b hb.1 hb.2 v) 0 Zpv _ _ _ X hX hn _ hp).mono ?_;rintro e w1 ⟨rfl,hb1⟩);go_ret;exact⟨rfl,hb1⟩
theorem Zalc(p:Option Addr)(n c:Nat)(X:Nat->Int)(hX:∀i,IsP (X i))(hn:n<=1048576)(w:World)(hp:Zio w p n (fun i=>.int .u32 (X i))):
 Calls prog 112 #[.slice p n c] w fun e w'=>e=.returned (.int .u32 (Zmh X n))/\Below w.heap.size w w':=by
 go_enter func112,ntmps112;go_wp2_with(go_at_call 141;refine(Zvv 143 (enters_of func143 kR rfl) fmin Ztz (fun a b v ha hb=>Zafv a ha.1 ha.2 b hb.1 hb.2 v) 2139095040 Zgw _ _ _ X hX hn _ hp).mono ?_;rintro e w1 ⟨rfl,hb1⟩);go_ret;exact⟨rfl,hb1⟩
theorem Ztx(k:Nat)(hen:EntV k)(cap:Array Value)(n:Nat)(Y:Nat->Int)(hn:n<=1048576)(w:World)
 (hk:∀ (i:Nat) (v:World),i<n->Below w.heap.size w v->Calls prog k (#[.int .i64 i]++cap) v fun e v'=>e=.returned (.int .u32 (Y i))/\Below v.heap.size v v'):
 Calls prog 99 #[.int .i64 n,.func (.func k) #[] cap] w fun e w'=>∃g,e=.returned (.slice (some ⟨g,0,none⟩) n n)/\w.heap.size<=g/\w'.rowIs g 43 n (fun i=>.int .u32 (Y i))/\Below w.heap.size w w':=by
 have hmk:=Zwm n oM;unfold EntV at hen;go_enter func99,ntmps99;go_wp2
 go_loopw [11] (fun iv wr=>Below w.heap.size w wr/\∃j:Nat,j<=n/\iv=.int .i64 j/\Hid (wr.rowIs w.heap.size 43 n (fun i=>.int .u32 (if i<j then Y i else 0)))) (fun iv _=>n-(intOf iv).toNat)
 case atStart=>exact⟨gG,0,Nat.zero_le _,rfl,(World.rowIs_made w _ n _).congr fun i hi=>by simp⟩
 case round=>
  obtain⟨hb,j,hj,rfl,hrow⟩:=hrel;clear hmk;by_cases hlt:j<n
  ·have HK:=hk j wr hlt hb;have HKH:Hid (Calls prog k (#[.int .i64 j]++cap) wr fun e v'=>e=.returned (.int .u32 (Y j))/\Below wr.heap.size wr v'):=HK;have i1:(0:Int)<=(j:Int):=oM;have i2:(j:Int)<(n:Int):=oM;clear hk HK;go_wp2_with((with_reducible refine HKH.out.mono ?_);(rintro e w1 ⟨rfl,hb1⟩;have r1:=Zakd hrow.out hb1;have c1:=r1.cell (i:=j) hlt;have f1:=r1.frozen j;have HR:Hid (w1.rowIs w.heap.size 43 n (fun i=>.int .u32 (if i<j then Y i else 0))):=r1;clear r1));go_roundw
   case rel=>exact⟨(belV hb hb1).setCell (Nat.le_refl _) _,j+1,oM,gN,(HR.out.set j _).congr fun i hi=>by by_cases e:i=j<;>by_cases e2:i<j<;>simp[e,e2]<;>omega⟩
   case measure=>simp[intOf];omega
  ·have:j=n:=oM;subst this;clear hk;go_wp2;go_ret;exact⟨_,rfl,Nat.le_refl _,hrow.out.congr fun i hi=>by rw[if_pos hi],hb⟩
def vals(X:Nat->Value)(n:Nat):List Value:=(List.range n).map X
theorem vals_at(X:Nat->Value)(n i:Nat)(h:i<n):(vals X n)[i]? =some (X i):=by simp[vals,h]
theorem Zzt(X:Nat->Value)(n:Nat):vals X (n+1)=vals X n++[X n]:=by unfold vals;rw[List.range_succ];simp
theorem Zya{w:World}{base:Nat}{e:TypeId}{v:Value}{n:Nat}{X:Nat->Value}(h:w.ownsRow base e 1 v n (vals X n)):
 ∃q cap,v=.slice q n cap/\Zio w q n X/\(∀b o s,q=some ⟨b,o,s⟩->base<=b)/\(q=none->n=0/\cap=0)/\n<=cap:=by
 rcases h.2 with⟨rfl,hx⟩|⟨g,cap,cur,rfl,hb,hg,rest⟩
 ·subst hx;exact⟨none,0,rfl,.inl rfl,fun b o s e=>(by cases e),fun _=>⟨rfl,rfl⟩,Nat.le_refl _⟩
 ·refine⟨some ⟨g,0,none⟩,cap,rfl,.inr ⟨g,0,rfl,fun i hi=>?_⟩,fun b o s e=>(by cases e;exact hb),fun e=>(by cases e),rest.1⟩;have:=h.cells (g:=g) rfl i (X i) (vals_at X n i hi);rw[Nat.zero_add];by_cases c:i=0
  ·subst c;simpa[Addr.add]using this
  ·simpa[Addr.add,c]using this
theorem info_I:(prog.info? 3).map (fun i=>(i.zero,i.size,i.bytes))=some (some (.int .i64 0),1,8):=kR
theorem Zakt(x:Int)(hx:IsP x)(i g:Nat)(w:World)(hg:w.cell? ⟨g,0,none⟩=some (.int .u32 x)):
 Calls prog 100 #[.int .i64 i,.pointer (some ⟨g,0,none⟩)] w fun e w'=>e=.returned (.int .u32 (canon x))/\Below w.heap.size w w':=by
 go_enter func100,ntmps100;go_wp2_with(go_at_call 101;refine(Zmg _ hx.1 hx.2 _).mono ?_;rintro e w' ⟨rfl,hw'⟩;obtain rfl:=hw'.symm);go_ret;exact⟨rfl,Zkp _⟩
theorem Zaje(n:Nat)(x:Int)(hx:IsP x)(hn:n<=65536)(w:World):
 Calls prog 58 #[.int .i64 n,.int .u32 x] w fun e w'=>∃g,e=.returned (.tuple #[.slice (some ⟨g,0,none⟩) n n,.int .i64 0])/\w.heap.size<=g/\w'.rowIs g 43 n (fun i=>.int .u32 (canon x))/\Below w.heap.size w w':=by
 have h1:¬ ((n:Int)<0):=oM;have h2:(n:Int)<=65536:=oM;go_enter func58,ntmps58;go_wp2_with(go_at_call 99;refine(Ztx 100 (enters_of func100 kR rfl) #[.pointer (some ⟨w.heap.size,0,none⟩)] n (fun _=>canon x) oM _ (fun i v hi hv=>Zakt x hx i w.heap.size v ((hv.cell sM).trans sM))).mono ?_;rintro e w1 ⟨g,rfl,hg,hr,hb1⟩;have HR:Hid (w1.rowIs g 43 n (fun i=>.int .u32 (canon x))):=hr;clear hr);go_returns;exact⟨_,rfl,by
  have:w.heap.size+1<=g:=by simpa using hg
  omega,HR.out,belV (Zjg w _) hb1⟩
theorem Zakc(p:Option Addr)(n c:Nat)(X:Nat->Int)(hX:∀i,IsP (X i))(hn:n<=1048576)(w:World)(hp:Zio w p n (fun i=>.int .i64 (X i))):
 Calls prog 82 #[.slice p n c] w fun e w'=>e=.returned (.int .i64 (fsum X n))/\Below w.heap.size w w':=by
 go_enter func82,ntmps82;go_wp2
 go_loopw [3,4] (fun sv iv wr=>Below w.heap.size w wr/\∃j:Nat,j<=n/\iv=.int .i64 j/\sv=.int .i64 (fsum X j)) (fun _ iv _=>n-(intOf iv).toNat)
 case atStart=>exact⟨Zkp w,0,Nat.zero_le _,rfl,rfl⟩
 case round=>
  obtain⟨hb,j,hj,rfl,rfl⟩:=hrel;by_cases hlt:j<n
  ·rcases hp with hp|⟨b,o,rfl,hp⟩
   ·omega
   have hbl:b<w.heap.size:=Zkj (hp j hlt);have h1:wr.cell? ⟨b,o+j,none⟩=some (.int .i64 (X j)):=(hb.cell hbl).trans (hp j hlt);have i1:(0:Int)<=(j:Int):=oM;have i2:(j:Int)<(n:Int):=oM;have s1:IsP (fsum X j):=Zpa (fun _ _ _ _=>Zxy _ _) Zgw hX j;have x1:=hX j;clear hp hX;go_wp2_with(go_at_call 125;refine(Zvf _ s1.1 s1.2 _ x1.1 x1.2 _).mono ?_;rintro e w1 ⟨rfl,hb1⟩);exact Zeb
  ·have:j=n:=oM;subst this;clear hp hX;go_wp2;go_ret;exact⟨rfl,hb⟩
theorem Zahr(p:Option Addr)(n c:Nat)(X:Nat->Int)(hX:∀i,IsP (X i))(hn:n<=1048576)(w:World)(hp:Zio w p n (fun i=>.int .i64 (X i))):
 Calls prog 83 #[.slice p n c] w fun e w'=>e=.returned (.int .i64 (Zmh X n))/\Below w.heap.size w w':=by
 go_enter func83,ntmps83;go_wp2
 go_loopw [3,4] (fun sv iv wr=>Below w.heap.size w wr/\∃j:Nat,j<=n/\iv=.int .i64 j/\sv=.int .i64 (Zmh X j)) (fun _ iv _=>n-(intOf iv).toNat)
 case atStart=>exact⟨Zkp w,0,Nat.zero_le _,rfl,rfl⟩
 case round=>
  obtain⟨hb,j,hj,rfl,rfl⟩:=hrel;by_cases hlt:j<n
  ·rcases hp with hp|⟨b,o,rfl,hp⟩
   ·omega
   have hbl:b<w.heap.size:=Zkj (hp j hlt);have h1:wr.cell? ⟨b,o+j,none⟩=some (.int .i64 (X j)):=(hb.cell hbl).trans (hp j hlt);have i1:(0:Int)<=(j:Int):=oM;have i2:(j:Int)<(n:Int):=oM;have s1:IsP (Zmh X j):=Zpa Ztz Zgw hX j;have x1:=hX j;clear hp hX;go_wp2_with(go_at_call 126;refine(Zaam _ s1.1 s1.2 _ x1.1 x1.2 _).mono ?_;rintro e w1 ⟨rfl,hb1⟩);exact Zeb
  ·have:j=n:=oM;subst this;clear hp hX;go_wp2;go_ret;exact⟨rfl,hb⟩
theorem Zakb(a:Int)(h:IsP a)(w:World):
 Calls prog 182 #[.int .i64 a] w fun e w'=>e=.returned (.bool (ffin a))/\w'=w:=by
 have h0:=h.1;have h1:=h.2;have t1:a.tmod 2147483648=a%2147483648:=Int.tmod_eq_emod_of_nonneg h0;go_enter func182,ntmps182;go_wp2;go_ret;exact⟨rfl,rfl⟩
structure Lsts(k:IntKind)(w:World)(q:Option Addr)(m:Nat)(P:Nat->Option Addr)(l c:Nat->Nat)(X:Nat->Nat->Int):Prop where
 heads:Zio w q m (fun i=>.slice (P i) (l i) (c i))
 parts:∀i,i<m->Zio w (P i) (l i) (fun j=>.int k (X i j))
theorem Lsts.below{k:IntKind}{w w':World}{q:Option Addr}{m:Nat}{P:Nat->Option Addr}{l c:Nat->Nat}{X:Nat->Nat->Int}(h:Lsts k w q m P l c X)(b:Below w.heap.size w w'):Lsts k w' q m P l c X:=
 ⟨h.heads.below b,fun i hi=>(h.parts i hi).below b⟩
theorem Zaen:(prog.info? 57).map (fun i=>(i.zero,i.size,i.bytes))=some (some (.slice none 0 0),1,24):=kR
theorem Zahc{w w':World}{base:Nat}{e:TypeId}{v:Value}{n:Nat}{xs:List Value}(h:w.ownsRow base e 1 v n xs)(k:Below w.heap.size w w'):w'.ownsRow base e 1 v n xs:=by
 refine h.kept (row:=none) ⟨k.os,k.tape,k.output,k.size,fun j hj _=>k.block j hj⟩ ?_;cases v.ownBlock<;>simp
end Go.Proofs.YtbinohkcolcbfaaGreat
