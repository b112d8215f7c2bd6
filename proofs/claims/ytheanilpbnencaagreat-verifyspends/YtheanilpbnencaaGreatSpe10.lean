import Derived.Test.YtheanilpbnencaaGreatSpe8
import Derived.Test.YtheanilpbnencaaGreatSpe1
namespace Go.Proofs.YtheanilpbnencaaGreat
open Go.RowKit Go.Proofs.Tryz
set_option linter.all false
set_option maxRecDepth 100000
set_option maxHeartbeats 16000000
def W6(x e:Int):Int:=if x=0 then 0 else(Ieee.single.nearest (decide (x<0)) x.natAbs e:Nat)
def Fj(s:Bool)(x:Int):Int:=if s then -x else x
def PE(s1:Bool)(m1 e1:Int)(s2:Bool)(m2 e2:Int):Int:=
 if e1-e2<=36 then W6 (Fj s1 (m1*2^(e1-e2).toNat)+Fj s2 m2) e2 else W6 (Fj s1 (m1*68719476736)+Fj s2 1) (e1-36)
theorem FP{s:Bool}{m m':Nat}{e e':Int}(h:m=m')(k:e=e'):Ending.returned (.int .i64 ((Ieee.single.nearest s m e:Nat):Int))=.returned (.int .i64 ((Ieee.single.nearest s m' e':Nat):Int)):=by rw[h,k]
theorem KV(s1:Bool)(m1 e1:Int)(i1 n1 s2:Bool)(m2 e2:Int)(i2 n2:Bool)(h1:0<m1)(h2:m1<16777216)(h3:0<m2)(h4:m2<16777216)(h5: -149<=e2)(h6:e2<=e1)(h7:e1<=104)(w:World):
 Calls prog 97 #[.agg #[.bool s1,.int .u64 m1,.int .i64 e1,.bool i1,.bool n1],.agg #[.bool s2,.int .u64 m2,.int .i64 e2,.bool i2,.bool n2]] w fun e w'=>e=.returned (.int .i64 (PE s1 m1 e1 s2 m2 e2))/\Below w.heap.size w w':=by
 unfold PE;by_cases c:e1-e2<=36
 .rw[if_pos c];generalize hd:e1-e2=d at *;have hd0:0<=d:=oM;obtain⟨X,hXX⟩:=gA (m1*2^d.toNat)
  have hX:0<X/\X<1152921504606846976:=by
   rw[<-hXX];have p1:(1:Int)<=2^d.toNat:=Int.pow_pos dE;have p2:(2:Int)^d.toNat<=68719476736:=by
    have h:2^d.toNat<=68719476736:=gH (Nat.pow_le_pow_right dE (show d.toNat<=36 by omega)) dE;have h':((2^d.toNat:Nat):Int)<=((68719476736:Nat):Int):=Int.ofNat_le.2 h;rw[Int.natCast_pow]at h';exact h'
   refine⟨Int.mul_pos h1 oM,?_⟩;have:=Int.mul_le_mul (show m1<=16777215 by omega) p2 oM oM;omega
  have hw:IntKind.u64.wrap (m1*2^d.toNat)=X:=by rw[hXX,IntKind.wrap_u64];omega
  rw[hXX];clear hXX;cases s1<;>cases s2<;>simp only[Fj,if_true,if_false,Bool.false_eq_true]<;>unfold W6
  .rw[if_neg oM,decide_eq_false oM,show(X+m2).natAbs=(X+m2).toNat by omega];exact Sw
  .rcases Int.lt_trichotomy (X+ -m2) 0 with c2|c2|c2
   .rw[if_neg oM,decide_eq_true oM,show(X+ -m2).natAbs=(-(X+ -m2)).toNat by omega];exact Sw
   .exact YH
   .rw[if_neg oM,decide_eq_false oM,show(X+ -m2).natAbs=(X+ -m2).toNat by omega];exact Sw
  .rcases Int.lt_trichotomy (-X+m2) 0 with c2|c2|c2
   .rw[if_neg oM,decide_eq_true oM,show(-X+m2).natAbs=(-(-X+m2)).toNat by omega];exact Sw
   .exact YH
   .rw[if_neg oM,decide_eq_false oM,show(-X+m2).natAbs=(-X+m2).toNat by omega];exact Sw
  .rw[if_neg oM,decide_eq_true oM,show(-X+ -m2).natAbs=(-(-X+ -m2)).toNat by omega];exact Sw
 .rw[if_neg c];obtain⟨X,hXX⟩:=gA (m1*68719476736)
  have hX:68719476736<=X/\X<1152921504606846976:=oM;have hw:IntKind.u64.wrap (m1*68719476736)=X:=by rw[hXX,IntKind.wrap_u64];omega
  rw[hXX];have hX3:m1*68719476736<18446744073709551616:=oM;cases s1<;>cases s2<;>simp only[Fj,if_true,if_false,Bool.false_eq_true]<;>unfold W6
  .rw[if_neg oM,decide_eq_false oM,show(X+1).natAbs=(X+1).toNat by omega];exact Sw
  .rw[if_neg oM,decide_eq_false oM,show(X+ -1).natAbs=(X+ -1).toNat by omega];exact Sw
  .rw[if_neg oM,decide_eq_true oM,show(-X+1).natAbs=(-(-X+1)).toNat by omega];exact Sw
  .rw[if_neg oM,decide_eq_true oM,show(-X+ -1).natAbs=(-(-X+ -1)).toNat by omega];exact Sw
theorem Ml(p t k n δ:Nat)(hp:1<=p)(ht:1<=t)(hk:2^p<=k)(hk2:k<2*2^p)(h:n=k*2^t+δ\/n+δ=k*2^t)(hδ:4*δ<2^t):F5 p n 1 (t*2^p+k):=by
 have hB:0<2^p:=Nat.two_pow_pos p;have v0:V p (t*2^p+k)=k*2^t:=Fl p t k oM (Or.inr hk);have v1:V p (t*2^p+k+1)=(k+1)*2^t:=by rw[Nat.add_assoc];exact Fl p t (k+1) oM (Or.inr oM)
 have e1:(k+1)*2^t=k*2^t+2^t:=by rw[Nat.add_mul,Nat.one_mul]
 have hlow:∀q,t*2^p+k=q+1->2*(V p q)+2^t<=2*(k*2^t):=by
  intro q hq;have hst:=J8 p q;rw[<-hq,v0]at hst;have:t-1<=q/2^p-1:=by
   have:t<=q/2^p:=(Nat.le_div_iff_mul_le hB).2 oM;omega
  have hle:2^(t-1)<=2^(q/2^p-1):=Nat.pow_le_pow_right dE this;have:2^t=2*2^(t-1):=by
   obtain⟨e,rfl⟩:∃e,t=e+1:=⟨t-1,oM⟩
   rw[Nat.add_sub_cancel,Nat.pow_succ,Nat.mul_comm]
  omega
 refine⟨?_,?_,?_,?_⟩
 .rw[v0,v1,e1,Nat.mul_one];omega
 .rw[v0,v1,e1,Nat.mul_one];omega
 .intro q hq;have:=hlow q hq;rw[v0,Nat.mul_one];omega
 .intro q hq;have:=hlow q hq;rw[v0,Nat.mul_one];omega
theorem K7(m:Nat)(e:Int)(x δ:Nat)(i:Int)(hm:8388608<=m)(hm2:m<16777216)(hi: -113<i)(j:Int)(hj: -149<=j)(u:Nat)(hu:(u:Int)=i-j)(hx:x=m*2^u+δ\/x+δ=m*2^u)(hδ:4*δ<2^u):
 Bv 23 (-149) x j=(i+149).toNat*8388608+m:=by
 obtain⟨c,hc⟩:∃c:Nat,(c:Int)=j+149:=⟨(j+149).toNat,oM⟩
 have h1:=ED 23 (-149) x j dE c 0 oM;have ht:(i+149).toNat=u+c:=oM;have h2:F5 23 (x*2^c) 1 ((i+149).toNat*2^23+m):=by
  refine Ml 23 (i+149).toNat m (x*2^c) (δ*2^c) dE oM oM oM ?_ ?_
  .rw[ht,Nat.pow_add,<-Nat.mul_assoc,<-Nat.add_mul];rcases hx with hx|hx
   .left;rw[hx]
   .right;rw[<-Nat.add_mul,hx]
  .rw[ht,Nat.pow_add,<-Nat.mul_assoc];exact Nat.mul_lt_mul_of_pos_right hδ (Nat.two_pow_pos c)
 exact h1.unique h2 dE dE sM
theorem Gi(s:Bool)(m u:Nat):Ieee.signed s m u=Fj s ((m:Int)*2^u):=by
 unfold Ieee.signed Fj;rw[Nat.shiftLeft_eq];push_cast;rfl
theorem BP(a b:Int){d e:Ieee.Datum}(h:Ieee.single.read a.toNat=d)(k:Ieee.single.read b.toNat=e):CJ a b=Ny ((d.sum e).map Ieee.single.write):=by
 unfold CJ Ieee.Format.add;rw[h,k]
theorem EZ(s:Bool)(e:Int):((Ieee.single.nearest s 0 e:Nat):Int)=FY s:=by
 exact Zc
theorem Ll(s1:Bool)(m1 e1:Int)(s2:Bool)(m2 e2:Int)(h1:0<m1)(h2:m1<16777216)(h3:0<m2)(h4:m2<16777216)(h5: -149<=e2)(h6:e2<=e1)(h7:e1= -149\/8388608<=m1):
 Ny (((Ieee.Datum.number s1 m1.toNat e1).sum (.number s2 m2.toNat e2)).map Ieee.single.write)=PE s1 m1 e1 s2 m2 e2:=by
 simp only[Ieee.Datum.sum,Option.map_some,Ieee.Format.write];rw[show min e1 e2=e2 by omega,show(e2-e2).toNat=0 by omega,Gi,Gi,Int.toNat_of_nonneg oM,Int.toNat_of_nonneg oM,Int.pow_zero,Int.mul_one];have hP:(1:Int)<=2^(e1-e2).toNat:=Int.pow_pos dE;have hX:0<m1*2^(e1-e2).toNat:=Int.mul_pos h1 oM;unfold PE;by_cases c:e1-e2<=36
 .rw[if_pos c];generalize m1*2^(e1-e2).toNat=X at *;unfold W6;by_cases z:Fj s1 X+Fj s2 m2=0
  .rw[if_pos z,if_pos z,z];have:(s1&&s2)=false:=by
    cases s1<;>cases s2<;>simp only[Fj,if_true,if_false,Bool.false_eq_true]at z<;>first|rfl|omega
   rw[this];exact EZ false e2
  .rw[if_neg z,if_neg z];rfl
 .rw[if_neg c];have hm8:8388608<=m1:=oM;have hpow:(2:Int)^(e1-e2).toNat=2^(e1-e2-37).toNat*137438953472:=by
   have:(e1-e2).toNat=(e1-e2-37).toNat+37:=oM;rw[this,Int.pow_add];rfl
  have hP2:(1:Int)<=2^(e1-e2-37).toNat:=Int.pow_pos dE;have hbig:137438953472<=(2:Int)^(e1-e2).toNat:=oM;have hXbig:137438953472<=m1*2^(e1-e2).toNat:=by
   have:=Int.mul_le_mul (show(1:Int)<=m1 by omega) hbig dE oM;omega
  have hz1:¬ (Fj s1 (m1*2^(e1-e2).toNat)+Fj s2 m2=0):=by
   generalize m1*2^(e1-e2).toNat=X at *;exact X9
  have hz2:¬ (Fj s1 (m1*68719476736)+Fj s2 1=0):=by
   exact X9
  have hs1:decide (Fj s1 (m1*2^(e1-e2).toNat)+Fj s2 m2<0)=s1:=by
   generalize m1*2^(e1-e2).toNat=X at *;cases s1<;>cases s2<;>simp only[Fj,if_true,if_false,Bool.false_eq_true]<;>simp<;>omega
  have hs2:decide (Fj s1 (m1*68719476736)+Fj s2 1<0)=s1:=by
   cases s1<;>cases s2<;>simp only[Fj,if_true,if_false,Bool.false_eq_true]<;>simp<;>omega
  unfold W6;rw[if_neg hz1,if_neg hz2,hs1,hs2,B9,B9];have r1:Bv 23 (-149) (Fj s1 (m1*2^(e1-e2).toNat)+Fj s2 m2).natAbs e2=(e1+149).toNat*8388608+m1.toNat:=by
   refine K7 m1.toNat 0 _ m2.toNat e1 oM oM oM e2 h5 (e1-e2).toNat oM ?_ ?_
   .have hcast:((m1.toNat*2^(e1-e2).toNat:Nat):Int)=m1*2^(e1-e2).toNat:=by
     rw[Int.natCast_mul,Int.natCast_pow,Int.toNat_of_nonneg oM];rfl
    generalize m1.toNat*2^(e1-e2).toNat=Y at *;generalize m1*2^(e1-e2).toNat=X at *;exact X9
   .have hcast:((2^(e1-e2).toNat:Nat):Int)=(2:Int)^(e1-e2).toNat:=Int.natCast_pow 2 _;omega
  have r2:Bv 23 (-149) (Fj s1 (m1*68719476736)+Fj s2 1).natAbs (e1-36)=(e1+149).toNat*8388608+m1.toNat:=by
   refine K7 m1.toNat 0 _ 1 e1 oM oM oM (e1-36) oM 36 oM ?_ dE;rw[show(2:Nat)^36=68719476736 from rfl];exact X9
  rw[Cr,Bo,r1,r2];rfl
theorem K8(a b:Int)(h0:0<=a)(h1:a<4294967296)(g0:0<=b)(g1:b<4294967296)(h:Bc a=true\/Bc b=true):F9 a b=2143289344:=by
 rcases h with h|h
 .obtain⟨s,t,e⟩:=E1 a h0 h1 h;rw[Dk a b e rfl];cases Ieee.single.read b.toNat<;>rfl
 .obtain⟨s,t,e⟩:=E1 b g0 g1 h;rw[Dk a b rfl e];cases Ieee.single.read a.toNat<;>rfl
theorem MY(s:Bool):((Ieee.single.write (.number s 0 0):Nat):Int)=FY s:=by cases s<;>decide
theorem Uc(A B:Int)(h1:8388608<=A)(h2:A<16777216)(h3:8388608<=B)(h4:B<16777216):0<=A*274877906944/B/\A*274877906944/B<1099511627776/\0<=A*274877906944%B/\A*274877906944%B<16777216:=by
 have e:=Int.mul_ediv_add_emod (A*274877906944) B;have r0:=Int.emod_nonneg (A*274877906944) (show B≠0 by omega);have r1:=Int.emod_lt_of_pos (A*274877906944) (show 0<B by omega);have q0:0<=A*274877906944/B:=Int.ediv_nonneg oM oM;refine⟨q0,?_,r0,oM⟩;apply Int.ediv_lt_of_lt_mul oM;omega
theorem QY(a:Int)(h0:0<=a)(h1:a<4294967296)(b:Int)(g0:0<=b)(g1:b<4294967296)(w:World):
 Calls prog 114 #[.int .i64 a,.int .i64 b] w fun e w'=>e=.returned (.int .i64 (F9 a b))/\Below w.heap.size w w':=by
 cases hna:Bc a
 .cases hnb:Bc b
  .cases hia:CF a
   .obtain⟨ra,a1,a2,a3,a4,a5⟩:=Be a h0 h1 hia hna;cases hib:CF b
    .obtain⟨rb,b1,b2,b3,b4,b5⟩:=Be b g0 g1 hib hnb;by_cases zb:nM b=0
     .by_cases za:nM a=0
      .have hv:F9 a b=2143289344:=by rw[Dk a b ra rb,za,zb];rfl
       rw[hv];clear hv ra rb;exact SJ
      .have hv:F9 a b=FY (AK a != AK b)+2139095040:=by
        rw[Dk a b ra rb,zb,<-Bu,<-CS];have:(nM a).toNat≠0:=oM;simp only[Ieee.Datum.quotient,if_neg this,Int.toNat_zero,if_true];rfl
       rw[hv];clear hv ra rb;exact SJ
     .by_cases za:nM a=0
      .have hv:F9 a b=FY (AK a != AK b):=by
        rw[Dk a b ra rb,za,<-CS];have:(nM b).toNat≠0:=oM;simp only[Ieee.Datum.quotient,if_neg this,Int.toNat_zero,Nat.zero_shiftLeft,Nat.zero_div,Nat.zero_mod];exact EZ _ _
       rw[hv];clear hv ra rb;exact SJ
      .obtain⟨ka,A1,A2⟩:=DH (nM a) oM a2;obtain⟨kb,B1,B2⟩:=DH (nM b) oM b2;obtain⟨A,hA⟩:=gA (nM a*2^nk (nM a))
       obtain⟨B,hB⟩:=gA (nM b*2^nk (nM b))
       have hv:=Qk a b h0 h1 g0 g1 hia hna hib hnb za zb A B hA hB;rw[hA]at A1 A2;rw[hB]at B1 B2;have hq:=Uc A B A1 A2 B1 B2;obtain⟨EA,hEA⟩:=gA (nE a-(nk (nM a):Int))
       obtain⟨EB,hEB⟩:=gA (nE b-(nk (nM b):Int))
       rw[hEA,hEB]at hv;have eb: -172<=EA/\EA<=104/\-172<=EB/\EB<=104:=oM;rw[hv];clear hv ra rb a5 b5;obtain⟨q,hqq⟩:=gA (A*274877906944/B)
       obtain⟨r,hrr⟩:=gA (A*274877906944%B)
       rw[hqq,hrr]at hq |-;have hdiv:(A*274877906944).tdiv B=q:=by rw[<-hqq,Int.tdiv_eq_ediv_of_nonneg oM]
       have hmod:(A*274877906944).tmod B=r:=by rw[<-hrr,Int.tmod_eq_emod_of_nonneg oM]
       by_cases zr:r=0
       .rw[if_pos zr];exact Yn
       .rw[if_neg zr];exact Yn
    .obtain⟨rb,-,b1⟩:=Cw b g0 g1 hib;have hv:F9 a b=FY (AK a != AK b):=by rw[Dk a b ra rb,<-MY,<-CS];rfl
     rw[hv];clear hv ra rb;by_cases za:nM a=0
     .skip
      exact SJ
     .skip
      exact SJ
   .obtain⟨ra,-,a1⟩:=Cw a h0 h1 hia;cases hib:CF b
    .obtain⟨rb,b1,b2,b3,b4,b5⟩:=Be b g0 g1 hib hnb;have hv:F9 a b=FY (AK a != AK b)+2139095040:=by rw[Dk a b ra rb,<-Bu,<-CS];rfl
     rw[hv];clear hv ra rb;exact SJ
    .obtain⟨rb,-,b1⟩:=Cw b g0 g1 hib;have hv:F9 a b=2143289344:=by rw[Dk a b ra rb];rfl
     rw[hv];clear hv ra rb;exact SJ
  .have hv:=K8 a b h0 h1 g0 g1 (Or.inr hnb);rw[hv];clear hv;exact SJ
 .have hv:=K8 a b h0 h1 g0 g1 (Or.inl hna);rw[hv];clear hv;exact SJ
theorem JZ(a b:Int)(h0:0<=a)(h1:a<4294967296)(g0:0<=b)(g1:b<4294967296)(h:Bc a=true\/Bc b=true):CJ a b=2143289344:=by
 rcases h with h|h
 .obtain⟨s,t,e⟩:=E1 a h0 h1 h;rw[BP a b e rfl];cases Ieee.single.read b.toNat<;>rfl
 .obtain⟨s,t,e⟩:=E1 b g0 g1 h;rw[BP a b rfl e];cases Ieee.single.read a.toNat<;>rfl
theorem IC(a b:Int)(h0:0<=a)(h1:a<4294967296)(g0:0<=b)(g1:b<4294967296){s:Bool}{i:Int}(ra:Ieee.single.read a.toNat=.number s 0 i)(rb:Ieee.single.read b.toNat=.number (AK b) (nM b).toNat (nE b))(hb:nM b≠0)(hb0:0<=nM b)(hi: -149<=i)(hj: -149<=nE b):
 CJ a b=(Ieee.single.nearest (AK b) (nM b).toNat (nE b):Nat):=by
 rw[BP a b ra rb];simp only[Ieee.Datum.sum,Option.map_some,Ieee.Format.write];generalize hbase:min i (nE b)=base;have hz:Ieee.signed s 0 (i-base).toNat=0:=by unfold Ieee.signed;simp
 rw[hz,Int.zero_add,Gi];have hP:(1:Int)<=2^(nE b-base).toNat:=Int.pow_pos dE;have hX:0<((nM b).toNat:Int)*2^(nE b-base).toNat:=Int.mul_pos oM oM;have e1:¬ (Fj (AK b) (((nM b).toNat:Int)*2^(nE b-base).toNat)=0):=by
  unfold Fj;split<;>omega
 have e2:decide (Fj (AK b) (((nM b).toNat:Int)*2^(nE b-base).toNat)<0)=AK b:=by
  generalize ((nM b).toNat:Int)*2^(nE b-base).toNat=X at *;cases AK b<;>simp only[Fj,if_true,if_false,Bool.false_eq_true]<;>simp<;>omega
 have e3:(Fj (AK b) (((nM b).toNat:Int)*2^(nE b-base).toNat)).natAbs=(nM b).toNat*2^(nE b-base).toNat:=by
  have hc:(((nM b).toNat*2^(nE b-base).toNat:Nat):Int)=((nM b).toNat:Int)*2^(nE b-base).toNat:=by rw[Int.natCast_mul,Int.natCast_pow];rfl
  unfold Fj;split<;>omega
 rw[if_neg e1,e2,e3];show((Ieee.single.nearest (AK b) _ base:Nat):Int)=_;rw[B9,B9,Cr,Bo];obtain⟨c,hc⟩:∃c:Nat,(c:Int)=base+149:=⟨(base+149).toNat,oM⟩
 obtain⟨d,hd⟩:∃d:Nat,(d:Int)=nE b+149:=⟨(nE b+149).toNat,oM⟩
 have r1:=KZ ((nM b).toNat*2^(nE b-base).toNat) c;have r2:=KZ (nM b).toNat d;rw[show -149+(c:Int)=base by omega]at r1;rw[show -149+(d:Int)=nE b by omega]at r2;rw[r1,r2,Nat.mul_assoc,<-Nat.pow_add,show(nE b-base).toNat+c=d by omega]
theorem Hy(a:Int)(h0:0<=a)(h1:a<4294967296)(b:Int)(g0:0<=b)(g1:b<4294967296)(w:World):
 Calls prog 70 #[.int .i64 a,.int .i64 b] w fun e w'=>e=.returned (.int .i64 (CJ a b))/\Below w.heap.size w w':=by
 cases hna:Bc a
 .cases hnb:Bc b
  .cases hia:CF a
   .obtain⟨ra,a1,a2,a3,a4,a5⟩:=Be a h0 h1 hia hna;cases hib:CF b
    .obtain⟨rb,b1,b2,b3,b4,b5⟩:=Be b g0 g1 hib hnb;by_cases za:nM a=0
     .by_cases zb:nM b=0
      .have hv:CJ a b=FY (AK a&&AK b):=by
        rw[BP a b ra rb,za,zb];simp only[Ieee.Datum.sum,Option.map_some,Ieee.Format.write];have:Ieee.signed (AK a) (0:Int).toNat (nE a-min (nE a) (nE b)).toNat+Ieee.signed (AK b) (0:Int).toNat (nE b-min (nE a) (nE b)).toNat=0:=by unfold Ieee.signed;simp
        rw[this,if_pos rfl];exact EZ _ _
       rw[hv];clear hv ra rb;cases hma:AK a
       .rw[Bool.false_and];exact PO
       .rw[Bool.true_and];exact PO
      .have hv:=IC a b h0 h1 g0 g1 (s:=AK a) (i:=nE a) (by rw[ra,za];rfl) rb zb b1 a3 b3;rw[hv];clear hv ra rb;exact PO
     .by_cases zb:nM b=0
      .have hv:=IC b a g0 g1 h0 h1 (s:=AK b) (i:=nE b) (by rw[rb,zb];rfl) ra za a1 b3 a3;rw[IB,hv];clear hv ra rb;exact PO
      .by_cases hE:nE a<nE b
       .have hv:CJ a b=PE (AK b) (nM b) (nE b) (AK a) (nM a) (nE a):=by
         rw[IB,BP b a rb ra,Ll _ _ _ _ _ _ oM b2 oM a2 a3 oM b5]
        exact Ym
       .have hv:CJ a b=PE (AK a) (nM a) (nE a) (AK b) (nM b) (nE b):=by
         rw[BP a b ra rb,Ll _ _ _ _ _ _ oM a2 oM b2 b3 oM a5]
        exact Ym
    .obtain⟨rb,-,b1⟩:=Cw b g0 g1 hib;have hv:CJ a b=FY (AK b)+2139095040:=by rw[BP a b ra rb,<-Bu];rfl
     rw[hv];clear hv ra rb;exact PO
   .obtain⟨ra,-,a1⟩:=Cw a h0 h1 hia;cases hib:CF b
    .obtain⟨rb,b1,b2,b3,b4,b5⟩:=Be b g0 g1 hib hnb;have hv:CJ a b=FY (AK a)+2139095040:=by rw[BP a b ra rb,<-Bu];rfl
     rw[hv];clear hv ra rb;exact PO
    .obtain⟨rb,-,b1⟩:=Cw b g0 g1 hib;cases hma:AK a<;>cases hmb:AK b<;>rw[hma]at ra<;>rw[hmb]at rb
     .have hv:CJ a b=FY false+2139095040:=by rw[BP a b ra rb,<-Bu];rfl
      rw[hv];clear hv ra rb;exact PO
     .have hv:CJ a b=2143289344:=by rw[BP a b ra rb];rfl
      rw[hv];clear hv ra rb;exact PO
     .have hv:CJ a b=2143289344:=by rw[BP a b ra rb];rfl
      rw[hv];clear hv ra rb;exact PO
     .have hv:CJ a b=FY true+2139095040:=by rw[BP a b ra rb,<-Bu];rfl
      rw[hv];clear hv ra rb;exact PO
  .have hv:=JZ a b h0 h1 g0 g1 (Or.inr hnb);rw[hv];clear hv;exact PO
 .have hv:=JZ a b h0 h1 g0 g1 (Or.inl hna);rw[hv];clear hv;exact PO
theorem GF(d e:Ieee.Datum)(h:d.isNaN=true):e.sum d=none:=by
 cases d<;>simp[Ieee.Datum.isNaN]at h
 cases e<;>rfl
theorem To(a b:Int)(g0:0<=b)(g1:b<4294967296):Ki a b=CJ a (Hh b):=by
 cases hn:nan b
 .rw[Kh b g0 g1 hn];unfold Ki CJ Ieee.Format.sub Ieee.Format.add;rw[Int.toNat_natCast,P4 _ oM]
 .rw[Kg b g0 g1 hn];have h2:2139095040<rg b.toNat:=by rw[Hq b g0]at hn;simpa using hn
  unfold Ki CJ Ieee.Format.sub Ieee.Format.add;rw[De _ h2,show Ieee.single.read (2143289344:Int).toNat=.nan false 4194304 from by decide,GF _ _ rfl,GF _ _ rfl]
theorem RP(a:Int)(h0:0<=a)(h1:a<4294967296)(b:Int)(g0:0<=b)(g1:b<4294967296)(w:World):
 Calls prog 113 #[.int .i64 a,.int .i64 b] w fun e w'=>e=.returned (.int .i64 (Ki a b))/\Below w.heap.size w w':=by
 rw[To a b g0 g1];have hl:=Nj b g0 g1;go_enter func113,ntmps113;go_wp2_with(first
  |(go_at_call 109;refine(Ky _ g0 g1 _).mono ?_;rintro e w1 ⟨rfl,hb1⟩)
  |(go_at_call 70;refine(Hy _ h0 h1 _ hl.1 hl.2 _).mono ?_;rintro e w2 ⟨rfl,hb2⟩))
 go_ret;exact⟨rfl,H5 hb1 hb2⟩

end Go.Proofs.YtheanilpbnencaaGreat
