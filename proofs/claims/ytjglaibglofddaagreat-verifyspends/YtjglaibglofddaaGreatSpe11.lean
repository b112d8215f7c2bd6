import Derived.Test.YtjglaibglofddaaGreatSpe9
import Derived.Test.YtjglaibglofddaaGreatSpe8
import Derived.Deep.Draws
import Derived.Laws.ComplexArith
import Derived.Deep.RegionHeld3
import Derived.Deep.DeepCutAuto
import Derived.Handy
import Derived.Test.YtjglaibglofddaaGreatSpe1
namespace Go.Proofs.YtjglaibglofddaaGreat
open Go.RowKit Go.Proofs.Tryz
set_option linter.all false
set_option maxRecDepth 100000
set_option maxHeartbeats 16000000
theorem IJ(a:Int)(h0:0<=a)(h1:a<4294967296):(ng a.toNat=true/\BD a= -1-(rg a.toNat:Int)/\sv a.toNat= -(mv a.toNat:Int))\/(ng a.toNat=false/\BD a=(rg a.toNat:Int)/\sv a.toNat=(mv a.toNat:Int)):=by
 have hr:=BC a h0;rw[Mn a h0 h1];by_cases c:2147483648<=a
 .left;refine⟨by simpa using c,?_,?_⟩
  .unfold BD;rw[if_pos c];omega
  .unfold sv sg;rw[Mn a h0 h1,if_pos (by simpa using c)]
 .right;refine⟨by simpa using c,?_,?_⟩
  .unfold BD;rw[if_neg c];omega
  .unfold sv sg;rw[Mn a h0 h1,if_neg (by simpa using c)]
theorem GS(x:Nat):mv x=0↔rg x=0:=by
 unfold mv;constructor
 .intro h;rw[<-J8 23]at h;exact PX 23 h
 .intro h;rw[h,J8]
theorem Mg(a b:Int)(h0:0<=a)(h1:a<4294967296)(g0:0<=b)(g1:b<4294967296):BD a<BD b↔(sv a.toNat<sv b.toNat\/(rg a.toNat=0/\rg b.toNat=0/\ng a.toNat=true/\ng b.toNat=false)):=by
 have ha:=IJ a h0 h1;have hb:=IJ b g0 g1;have m1:mv a.toNat<mv b.toNat↔rg a.toNat<rg b.toNat:=JO 23 _ _;have m2:mv b.toNat<mv a.toNat↔rg b.toNat<rg a.toNat:=JO 23 _ _;have z1:=GS a.toNat;have z2:=GS b.toNat;rcases ha with⟨p,q,r⟩|⟨p,q,r⟩<;>rcases hb with⟨p',q',r'⟩|⟨p',q',r'⟩<;>rw[p,q,r,p',q',r']<;>simp only[Bool.false_eq_true,Bool.true_eq_false,and_false,or_false,and_true]<;>omega
theorem GU(a b:Int)(h0:0<=a)(h1:a<4294967296)(g0:0<=b)(g1:b<4294967296):sv a.toNat=sv b.toNat↔(a=b\/(a%2147483648=0/\b%2147483648=0)):=by
 have hr:=BC a h0;have hs:=BC b g0;constructor
 .intro h;obtain⟨e,f⟩:=VO h;rcases f with f|f
  .exact Or.inl (Ub h0 h1 g0 g1 e f)
  .right;omega
 .rintro(h|⟨h,k⟩)
  .rw[h]
  .have z1:=(GS a.toNat).2 oM;have z2:=(GS b.toNat).2 oM;unfold sv sg;rw[z1,z2];simp
theorem Qq(a b:Int)(h0:0<=a)(h1:a<4294967296)(g0:0<=b)(g1:b<4294967296)(hn:nan a=false)(hm:nan b=false):GL a b=if BD b<BD a then b else a:=by
 unfold GL;rw[Hv a b h0 g0,if_neg (by simp[hn,hm])];have hk:=Mg b a g0 g1 h0 h1;rcases Int.lt_trichotomy (sv a.toNat) (sv b.toNat)with c|c|c
 .have hne:¬ (BD b<BD a):=by
   exact YY
  rw[LU c];simp only [];rw[if_neg hne]
 .rw[LR c];simp only [];rcases(GU a b h0 h1 g0 g1).1 c with e|⟨e,f⟩
  .subst e;split<;>simp
  .unfold BD;by_cases d1:2147483648<=a<;>by_cases d2:2147483648<=b<;>simp only[d1,d2,if_true,if_false]
   .rw[if_neg oM]
   .rw[if_neg oM]
   .rw[if_pos oM]
   .rw[if_neg oM];omega
 .rw[LS c];simp only [];rw[if_pos (hk.2 (Or.inl c))]
theorem Qo(a b:Int)(h0:0<=a)(h1:a<4294967296)(g0:0<=b)(g1:b<4294967296)(hn:nan a=false)(hm:nan b=false):Hg a b=if BD b>BD a then b else a:=by
 unfold Hg;rw[Hv a b h0 g0,if_neg (by simp[hn,hm])];have hk:=Mg a b h0 h1 g0 g1;rcases Int.lt_trichotomy (sv a.toNat) (sv b.toNat)with c|c|c
 .rw[LU c];simp only [];rw[if_pos (show BD b>BD a from hk.2 (Or.inl c))]
 .rw[LR c];simp only [];rcases(GU a b h0 h1 g0 g1).1 c with e|⟨e,f⟩
  .subst e;split<;>simp
  .unfold BD;by_cases d1:2147483648<=a<;>by_cases d2:2147483648<=b<;>simp only[d1,d2,if_true,if_false]
   .rw[if_neg oM];omega
   .rw[if_pos oM]
   .rw[if_neg oM]
   .rw[if_neg oM]
 .have hne:¬ (BD b>BD a):=by
   show¬ (BD a<BD b);exact YY
  rw[LS c];simp only [];rw[if_neg hne]
theorem OG(a b:Int)(h0:0<=a)(h1:a<4294967296)(g0:0<=b)(g1:b<4294967296)(hn:nan a=false)(hm:nan b=false):Hf a b=(decide (BD a<BD b)&& !((a%2147483648==0)&&(b%2147483648==0))):=by
 have h:=OF a b h0 g0;have hk:=Mg a b h0 h1 g0 g1;have hr:=BC a h0;have hs:=BC b g0;have hz:=GU a b h0 h1 g0 g1;simp only[hn,hm,true_and]at h;rw[Bool.eq_iff_iff,h];simp only[Bool.and_eq_true,decide_eq_true_eq,Bool.not_eq_true',Bool.and_eq_false_iff,beq_eq_false_iff_ne];constructor
 .intro c;refine⟨hk.2 (Or.inl c),?_⟩;by_cases e:a%2147483648=0
  .right;intro f;have:=hz.2 (Or.inr ⟨e,f⟩);omega
  .exact Or.inl e
 .rintro⟨c,d⟩;rcases hk.1 c with e|⟨e1,e2,-,-⟩
  .exact e
  .exfalso;rcases d with d|d<;>omega
theorem CY(a b:Int)(h0:0<=a)(g0:0<=b)(h:nan a=true\/nan b=true):Hf a b=false/\Zl a b=false/\GL a b=2143289344/\Hg a b=2143289344:=by
 unfold Hf Zl GL Hg;rw[Hv a b h0 g0,if_pos h];exact⟨rfl,rfl,rfl,rfl⟩
theorem Gf(a:Int)(h0:0<=a)(h1:a<4294967296)(w:World):
 Calls prog 98 #[.int .i64 a] w fun e w'=>e=.returned (.int .i64 (BD a))/\w'=w:=by
 have hx:=Dx a h0 h1;unfold BD;by_cases c:2147483648<=a
 .have h2:a/2147483648=1:=oM;rw[if_pos c];go_enter func98,ntmps98;go_wp2;go_ret;exact⟨FO oM,rfl⟩
 .have h2:a/2147483648=0:=oM;rw[if_neg c];go_enter func98,ntmps98;go_wp2;go_ret;exact⟨FO oM,rfl⟩
theorem EL(a:Int)(h0:0<=a)(h1:a<4294967296)(w:World):
 Calls prog 121 #[.int .i64 a] w fun e w'=>e=.returned (.bool (a%2147483648==0))/\w'=w:=by
 have hx:=Dx a h0 h1;go_enter func121,ntmps121;go_wp2;go_ret;exact⟨rfl,rfl⟩
theorem EJ(a:Int)(h0:0<=a)(h1:a<4294967296)(w:World):
 Calls prog 66 #[.int .i64 a] w fun e w'=>e=.returned (.int .i64 (A9 a))/\Below w.heap.size w w':=by
 have hf:=ET;unfold A9;rw[<-Bt a h0 h1];cases hna:Bc a
 .rw[if_neg dE];go_enter func66,ntmps66;exact PZ
 .rw[if_pos rfl];go_enter func66,ntmps66;exact PZ
theorem Kx(a:Int)(h0:0<=a)(h1:a<4294967296)(b:Int)(g0:0<=b)(g1:b<4294967296)(w:World):
 Calls prog 71 #[.int .i64 a,.int .i64 b] w fun e w'=>e=.returned (.int .i64 (GL a b))/\Below w.heap.size w w':=by
 have ea:=Bt a h0 h1;have eb:=Bt b g0 g1;cases hna:Bc a
 .cases hnb:Bc b
  .rw[Qq a b h0 h1 g0 g1 W5 W4];clear ea eb;by_cases c:BD b<BD a
   .rw[if_pos c];go_enter func71,ntmps71;exact UO
   .rw[if_neg c];go_enter func71,ntmps71;exact UO
  .rw[(CY a b h0 g0 (Or.inr W4)).2.2.1];clear ea eb;go_enter func71,ntmps71;exact UO
 .rw[(CY a b h0 g0 (Or.inl W5)).2.2.1];clear ea eb;go_enter func71,ntmps71;exact UO
theorem R1(a:Int)(h0:0<=a)(h1:a<4294967296)(b:Int)(g0:0<=b)(g1:b<4294967296)(w:World):
 Calls prog 115 #[.int .i64 a,.int .i64 b] w fun e w'=>e=.returned (.int .i64 (Hg a b))/\Below w.heap.size w w':=by
 have ea:=Bt a h0 h1;have eb:=Bt b g0 g1;cases hna:Bc a
 .cases hnb:Bc b
  .rw[Qo a b h0 h1 g0 g1 W5 W4];clear ea eb;by_cases c:BD b>BD a
   .rw[if_pos c];go_enter func115,ntmps115;exact UO
   .rw[if_neg c];go_enter func115,ntmps115;exact UO
  .rw[(CY a b h0 g0 (Or.inr W4)).2.2.2];clear ea eb;go_enter func115,ntmps115;exact UO
 .rw[(CY a b h0 g0 (Or.inl W5)).2.2.2];clear ea eb;go_enter func115,ntmps115;exact UO
theorem Pd(a:Int)(h0:0<=a)(h1:a<4294967296)(b:Int)(g0:0<=b)(g1:b<4294967296)(w:World):
 Calls prog 116 #[.int .i64 a,.int .i64 b] w fun e w'=>e=.returned (.bool (Hf a b))/\Below w.heap.size w w':=by
 have ea:=Bt a h0 h1;have eb:=Bt b g0 g1;cases hna:Bc a
 .cases hnb:Bc b
  .rw[OG a b h0 h1 g0 g1 W5 W4];clear ea eb;cases za:(a%2147483648==0)<;>cases zb:(b%2147483648==0)<;>simp only[Bool.and_true,Bool.and_false,Bool.not_true,Bool.not_false]
   all_goals(
    go_enter func116,ntmps116;go_wp2_with(first
     |(go_at_call 91;refine(C8 _ oM oM _).mono ?_;rintro e w' ⟨rfl,o,rfl⟩)
     |(go_at_call 92;refine(CH _ _ _ _ _ _ _ _ _ _ _).mono ?_;rintro e w' ⟨rfl,o,p,rfl⟩)
     |(go_at_call 98;refine(Gf _ oM oM _).mono ?_;rintro e w' ⟨rfl,rfl⟩)
     |(go_at_call 121;refine(EL _ oM oM _).mono ?_;rintro e w' ⟨rfl,rfl⟩))
    go_ret
    exact⟨rfl,gG⟩)
  .rw[(CY a b h0 g0 (Or.inr W4)).1];exact Yu
 .rw[(CY a b h0 g0 (Or.inl W5)).1];exact Yu
theorem KP(c:Int)(e0:0<=c)(e1:c<4294967296)(a:Int)(h0:0<=a)(h1:a<4294967296)(b:Int)(g0:0<=b)(g1:b<4294967296)(w:World):
 Calls prog 117 #[.int .i64 c,.int .i64 a,.int .i64 b] w fun e w'=>e=.returned (.int .i64 (Ji c a b))/\Below w.heap.size w w':=by
 have hf:=ET;unfold Ji;rw[<-Bt c e0 e1];cases hn:Bc c<;>cases hz:(c%2147483648==0)<;>simp only[Bool.or_true,Bool.or_false,if_true,if_false,Bool.false_eq_true]
 all_goals(
  go_enter func117,ntmps117;go_wp2_with(first
   |(go_at_call 91;refine(C8 _ oM oM _).mono ?_;rintro e w' ⟨rfl,o,rfl⟩)
   |(go_at_call 121;refine(EL _ oM oM _).mono ?_;rintro e w' ⟨rfl,rfl⟩)
   |(go_at_call 66;refine(EJ _ oM oM _).mono ?_;rintro e w1 ⟨rfl,hb1⟩))
  go_ret
  exact⟨rfl,H5 gG hb1⟩)
def W6(x e:Int):Int:=if x=0 then 0 else(Ieee.single.nearest (decide (x<0)) x.natAbs e:Nat)
def Fj(s:Bool)(x:Int):Int:=if s then -x else x
def PE(s1:Bool)(m1 e1:Int)(s2:Bool)(m2 e2:Int):Int:=
 if e1-e2<=36 then W6 (Fj s1 (m1*2^(e1-e2).toNat)+Fj s2 m2) e2 else W6 (Fj s1 (m1*68719476736)+Fj s2 1) (e1-36)
theorem FP{s:Bool}{m m':Nat}{e e':Int}(h:m=m')(k:e=e'):Ending.returned (.int .i64 ((Ieee.single.nearest s m e:Nat):Int))=.returned (.int .i64 ((Ieee.single.nearest s m' e':Nat):Int)):=by rw[h,k]
theorem KV(s1:Bool)(m1 e1:Int)(i1 n1 s2:Bool)(m2 e2:Int)(i2 n2:Bool)(h1:0<m1)(h2:m1<16777216)(h3:0<m2)(h4:m2<16777216)(h5: -149<=e2)(h6:e2<=e1)(h7:e1<=104)(w:World):
 Calls prog 97 #[.agg #[.bool s1,.int .u64 m1,.int .i64 e1,.bool i1,.bool n1],.agg #[.bool s2,.int .u64 m2,.int .i64 e2,.bool i2,.bool n2]] w fun e w'=>e=.returned (.int .i64 (PE s1 m1 e1 s2 m2 e2))/\Below w.heap.size w w':=by
 unfold PE;by_cases c:e1-e2<=36
 .rw[if_pos c];generalize hd:e1-e2=d at *;have hd0:0<=d:=oM;obtain⟨X,hXX⟩:=gA (m1*2^d.toNat)
  have hX:0<X/\X<1152921504606846976:=by
   rw[<-hXX];have p1:(1:Int)<=2^d.toNat:=Int.pow_pos dE;have p2:(2:Int)^d.toNat<=68719476736:=by
    have h:2^d.toNat<=68719476736:=gH (Nat.pow_le_pow_right dE (show d.toNat<=36 by omega)) dE;have h':((2^d.toNat:Nat):Int)<=((68719476736:Nat):Int):=Int.ofNat_le.2 h;rw[Int.natCast_pow]at h';exact h'
   refine⟨Int.mul_pos h1 oM,?_⟩;have:=Int.mul_le_mul (show m1<=16777215 by omega) p2 oM oM;omega
  have hw:IntKind.u64.wrap (m1*2^d.toNat)=X:=by rw[hXX,IntKind.wrap_u64];omega
  rw[hXX];clear hXX;cases s1<;>cases s2<;>simp only[Fj,if_true,if_false,Bool.false_eq_true]<;>unfold W6
  .rw[if_neg oM,decide_eq_false oM,show(X+m2).natAbs=(X+m2).toNat by omega];exact Sw
  .rcases Int.lt_trichotomy (X+ -m2) 0 with c2|c2|c2
   .rw[if_neg oM,decide_eq_true oM,show(X+ -m2).natAbs=(-(X+ -m2)).toNat by omega];exact Sw
   .exact YH
   .rw[if_neg oM,decide_eq_false oM,show(X+ -m2).natAbs=(X+ -m2).toNat by omega];exact Sw
  .rcases Int.lt_trichotomy (-X+m2) 0 with c2|c2|c2
   .rw[if_neg oM,decide_eq_true oM,show(-X+m2).natAbs=(-(-X+m2)).toNat by omega];exact Sw
   .exact YH
   .rw[if_neg oM,decide_eq_false oM,show(-X+m2).natAbs=(-X+m2).toNat by omega];exact Sw
  .rw[if_neg oM,decide_eq_true oM,show(-X+ -m2).natAbs=(-(-X+ -m2)).toNat by omega];exact Sw
 .rw[if_neg c];obtain⟨X,hXX⟩:=gA (m1*68719476736)
  have hX:68719476736<=X/\X<1152921504606846976:=oM;have hw:IntKind.u64.wrap (m1*68719476736)=X:=by rw[hXX,IntKind.wrap_u64];omega
  rw[hXX];have hX3:m1*68719476736<18446744073709551616:=oM;cases s1<;>cases s2<;>simp only[Fj,if_true,if_false,Bool.false_eq_true]<;>unfold W6
  .rw[if_neg oM,decide_eq_false oM,show(X+1).natAbs=(X+1).toNat by omega];exact Sw
  .rw[if_neg oM,decide_eq_false oM,show(X+ -1).natAbs=(X+ -1).toNat by omega];exact Sw
  .rw[if_neg oM,decide_eq_true oM,show(-X+1).natAbs=(-(-X+1)).toNat by omega];exact Sw
  .rw[if_neg oM,decide_eq_true oM,show(-X+ -1).natAbs=(-(-X+ -1)).toNat by omega];exact Sw
theorem Ml(p t k n δ:Nat)(hp:1<=p)(ht:1<=t)(hk:2^p<=k)(hk2:k<2*2^p)(h:n=k*2^t+δ\/n+δ=k*2^t)(hδ:4*δ<2^t):F5 p n 1 (t*2^p+k):=by
 have hB:0<2^p:=Nat.two_pow_pos p;have v0:V p (t*2^p+k)=k*2^t:=Fl p t k oM (Or.inr hk);have v1:V p (t*2^p+k+1)=(k+1)*2^t:=by rw[Nat.add_assoc];exact Fl p t (k+1) oM (Or.inr oM)
 have e1:(k+1)*2^t=k*2^t+2^t:=by rw[Nat.add_mul,Nat.one_mul]
 have hlow:∀q,t*2^p+k=q+1->2*(V p q)+2^t<=2*(k*2^t):=by
  intro q hq;have hst:=J7 p q;rw[<-hq,v0]at hst;have:t-1<=q/2^p-1:=by
   have:t<=q/2^p:=(Nat.le_div_iff_mul_le hB).2 oM;omega
  have hle:2^(t-1)<=2^(q/2^p-1):=Nat.pow_le_pow_right dE this;have:2^t=2*2^(t-1):=by
   obtain⟨e,rfl⟩:∃e,t=e+1:=⟨t-1,oM⟩
   rw[Nat.add_sub_cancel,Nat.pow_succ,Nat.mul_comm]
  omega
 refine⟨?_,?_,?_,?_⟩
 .rw[v0,v1,e1,Nat.mul_one];omega
 .rw[v0,v1,e1,Nat.mul_one];omega
 .intro q hq;have:=hlow q hq;rw[v0,Nat.mul_one];omega
 .intro q hq;have:=hlow q hq;rw[v0,Nat.mul_one];omega
theorem K7(m:Nat)(e:Int)(x δ:Nat)(i:Int)(hm:8388608<=m)(hm2:m<16777216)(hi: -113<i)(j:Int)(hj: -149<=j)(u:Nat)(hu:(u:Int)=i-j)(hx:x=m*2^u+δ\/x+δ=m*2^u)(hδ:4*δ<2^u):
 Bv 23 (-149) x j=(i+149).toNat*8388608+m:=by
 obtain⟨c,hc⟩:∃c:Nat,(c:Int)=j+149:=⟨(j+149).toNat,oM⟩
 have h1:=ED 23 (-149) x j dE c 0 oM;have ht:(i+149).toNat=u+c:=oM;have h2:F5 23 (x*2^c) 1 ((i+149).toNat*2^23+m):=by
  refine Ml 23 (i+149).toNat m (x*2^c) (δ*2^c) dE oM oM oM ?_ ?_
  .rw[ht,Nat.pow_add,<-Nat.mul_assoc,<-Nat.add_mul];rcases hx with hx|hx
   .left;rw[hx]
   .right;rw[<-Nat.add_mul,hx]
  .rw[ht,Nat.pow_add,<-Nat.mul_assoc];exact Nat.mul_lt_mul_of_pos_right hδ (Nat.two_pow_pos c)
 exact h1.unique h2 dE dE sM
theorem Gi(s:Bool)(m u:Nat):Ieee.signed s m u=Fj s ((m:Int)*2^u):=by
 unfold Ieee.signed Fj;rw[Nat.shiftLeft_eq];push_cast;rfl
theorem BP(a b:Int){d e:Ieee.Datum}(h:Ieee.single.read a.toNat=d)(k:Ieee.single.read b.toNat=e):CJ a b=Ny ((d.sum e).map Ieee.single.write):=by
 unfold CJ Ieee.Format.add;rw[h,k]
theorem EZ(s:Bool)(e:Int):((Ieee.single.nearest s 0 e:Nat):Int)=FY s:=by
 exact Zc
theorem Ll(s1:Bool)(m1 e1:Int)(s2:Bool)(m2 e2:Int)(h1:0<m1)(h2:m1<16777216)(h3:0<m2)(h4:m2<16777216)(h5: -149<=e2)(h6:e2<=e1)(h7:e1= -149\/8388608<=m1):
 Ny (((Ieee.Datum.number s1 m1.toNat e1).sum (.number s2 m2.toNat e2)).map Ieee.single.write)=PE s1 m1 e1 s2 m2 e2:=by
 simp only[Ieee.Datum.sum,Option.map_some,Ieee.Format.write];rw[show min e1 e2=e2 by omega,show(e2-e2).toNat=0 by omega,Gi,Gi,Int.toNat_of_nonneg oM,Int.toNat_of_nonneg oM,Int.pow_zero,Int.mul_one];have hP:(1:Int)<=2^(e1-e2).toNat:=Int.pow_pos dE;have hX:0<m1*2^(e1-e2).toNat:=Int.mul_pos h1 oM;unfold PE;by_cases c:e1-e2<=36
 .rw[if_pos c];generalize m1*2^(e1-e2).toNat=X at *;unfold W6;by_cases z:Fj s1 X+Fj s2 m2=0
  .rw[if_pos z,if_pos z,z];have:(s1&&s2)=false:=by
    cases s1<;>cases s2<;>simp only[Fj,if_true,if_false,Bool.false_eq_true]at z<;>first|rfl|omega
   rw[this];exact EZ false e2
  .rw[if_neg z,if_neg z];rfl
 .rw[if_neg c];have hm8:8388608<=m1:=oM;have hpow:(2:Int)^(e1-e2).toNat=2^(e1-e2-37).toNat*137438953472:=by
   have:(e1-e2).toNat=(e1-e2-37).toNat+37:=oM;rw[this,Int.pow_add];rfl
  have hP2:(1:Int)<=2^(e1-e2-37).toNat:=Int.pow_pos dE;have hbig:137438953472<=(2:Int)^(e1-e2).toNat:=oM;have hXbig:137438953472<=m1*2^(e1-e2).toNat:=by
   have:=Int.mul_le_mul (show(1:Int)<=m1 by omega) hbig dE oM;omega
  have hz1:¬ (Fj s1 (m1*2^(e1-e2).toNat)+Fj s2 m2=0):=by
   generalize m1*2^(e1-e2).toNat=X at *;exact X9
  have hz2:¬ (Fj s1 (m1*68719476736)+Fj s2 1=0):=by
   exact X9
  have hs1:decide (Fj s1 (m1*2^(e1-e2).toNat)+Fj s2 m2<0)=s1:=by
   generalize m1*2^(e1-e2).toNat=X at *;cases s1<;>cases s2<;>simp only[Fj,if_true,if_false,Bool.false_eq_true]<;>simp<;>omega
  have hs2:decide (Fj s1 (m1*68719476736)+Fj s2 1<0)=s1:=by
   cases s1<;>cases s2<;>simp only[Fj,if_true,if_false,Bool.false_eq_true]<;>simp<;>omega
  unfold W6;rw[if_neg hz1,if_neg hz2,hs1,hs2,B9,B9];have r1:Bv 23 (-149) (Fj s1 (m1*2^(e1-e2).toNat)+Fj s2 m2).natAbs e2=(e1+149).toNat*8388608+m1.toNat:=by
   refine K7 m1.toNat 0 _ m2.toNat e1 oM oM oM e2 h5 (e1-e2).toNat oM ?_ ?_
   .have hcast:((m1.toNat*2^(e1-e2).toNat:Nat):Int)=m1*2^(e1-e2).toNat:=by
     rw[Int.natCast_mul,Int.natCast_pow,Int.toNat_of_nonneg oM];rfl
    generalize m1.toNat*2^(e1-e2).toNat=Y at *;generalize m1*2^(e1-e2).toNat=X at *;exact X9
   .have hcast:((2^(e1-e2).toNat:Nat):Int)=(2:Int)^(e1-e2).toNat:=Int.natCast_pow 2 _;omega
  have r2:Bv 23 (-149) (Fj s1 (m1*68719476736)+Fj s2 1).natAbs (e1-36)=(e1+149).toNat*8388608+m1.toNat:=by
   refine K7 m1.toNat 0 _ 1 e1 oM oM oM (e1-36) oM 36 oM ?_ dE;rw[show(2:Nat)^36=68719476736 from rfl];exact X9
  rw[Cr,Bo,r1,r2];rfl
theorem K8(a b:Int)(h0:0<=a)(h1:a<4294967296)(g0:0<=b)(g1:b<4294967296)(h:Bc a=true\/Bc b=true):F9 a b=2143289344:=by
 rcases h with h|h
 .obtain⟨s,t,e⟩:=E1 a h0 h1 h;rw[Dk a b e rfl];cases Ieee.single.read b.toNat<;>rfl
 .obtain⟨s,t,e⟩:=E1 b g0 g1 h;rw[Dk a b rfl e];cases Ieee.single.read a.toNat<;>rfl
theorem MY(s:Bool):((Ieee.single.write (.number s 0 0):Nat):Int)=FY s:=by cases s<;>decide
theorem Uc(A B:Int)(h1:8388608<=A)(h2:A<16777216)(h3:8388608<=B)(h4:B<16777216):0<=A*274877906944/B/\A*274877906944/B<1099511627776/\0<=A*274877906944%B/\A*274877906944%B<16777216:=by
 have e:=Int.mul_ediv_add_emod (A*274877906944) B;have r0:=Int.emod_nonneg (A*274877906944) (show B≠0 by omega);have r1:=Int.emod_lt_of_pos (A*274877906944) (show 0<B by omega);have q0:0<=A*274877906944/B:=Int.ediv_nonneg oM oM;refine⟨q0,?_,r0,oM⟩;apply Int.ediv_lt_of_lt_mul oM;omega
theorem QY(a:Int)(h0:0<=a)(h1:a<4294967296)(b:Int)(g0:0<=b)(g1:b<4294967296)(w:World):
 Calls prog 114 #[.int .i64 a,.int .i64 b] w fun e w'=>e=.returned (.int .i64 (F9 a b))/\Below w.heap.size w w':=by
 cases hna:Bc a
 .cases hnb:Bc b
  .cases hia:CF a
   .obtain⟨ra,a1,a2,a3,a4,a5⟩:=Be a h0 h1 hia hna;cases hib:CF b
    .obtain⟨rb,b1,b2,b3,b4,b5⟩:=Be b g0 g1 hib hnb;by_cases zb:nM b=0
     .by_cases za:nM a=0
      .have hv:F9 a b=2143289344:=by rw[Dk a b ra rb,za,zb];rfl
       rw[hv];clear hv ra rb;exact SJ
      .have hv:F9 a b=FY (AK a != AK b)+2139095040:=by
        rw[Dk a b ra rb,zb,<-Bu,<-CS];have:(nM a).toNat≠0:=oM;simp only[Ieee.Datum.quotient,if_neg this,Int.toNat_zero,if_true];rfl
       rw[hv];clear hv ra rb;exact SJ
     .by_cases za:nM a=0
      .have hv:F9 a b=FY (AK a != AK b):=by
        rw[Dk a b ra rb,za,<-CS];have:(nM b).toNat≠0:=oM;simp only[Ieee.Datum.quotient,if_neg this,Int.toNat_zero,Nat.zero_shiftLeft,Nat.zero_div,Nat.zero_mod];exact EZ _ _
       rw[hv];clear hv ra rb;exact SJ
      .obtain⟨ka,A1,A2⟩:=DH (nM a) oM a2;obtain⟨kb,B1,B2⟩:=DH (nM b) oM b2;obtain⟨A,hA⟩:=gA (nM a*2^nk (nM a))
       obtain⟨B,hB⟩:=gA (nM b*2^nk (nM b))
       have hv:=Qk a b h0 h1 g0 g1 hia hna hib hnb za zb A B hA hB;rw[hA]at A1 A2;rw[hB]at B1 B2;have hq:=Uc A B A1 A2 B1 B2;obtain⟨EA,hEA⟩:=gA (nE a-(nk (nM a):Int))
       obtain⟨EB,hEB⟩:=gA (nE b-(nk (nM b):Int))
       rw[hEA,hEB]at hv;have eb: -172<=EA/\EA<=104/\-172<=EB/\EB<=104:=oM;rw[hv];clear hv ra rb a5 b5;obtain⟨q,hqq⟩:=gA (A*274877906944/B)
       obtain⟨r,hrr⟩:=gA (A*274877906944%B)
       rw[hqq,hrr]at hq |-;have hdiv:(A*274877906944).tdiv B=q:=by rw[<-hqq,Int.tdiv_eq_ediv_of_nonneg oM]
       have hmod:(A*274877906944).tmod B=r:=by rw[<-hrr,Int.tmod_eq_emod_of_nonneg oM]
       by_cases zr:r=0
       .rw[if_pos zr];exact Yn
       .rw[if_neg zr];exact Yn
    .obtain⟨rb,-,b1⟩:=Cw b g0 g1 hib;have hv:F9 a b=FY (AK a != AK b):=by rw[Dk a b ra rb,<-MY,<-CS];rfl
     rw[hv];clear hv ra rb;by_cases za:nM a=0
     .skip
      exact SJ
     .skip
      exact SJ
   .obtain⟨ra,-,a1⟩:=Cw a h0 h1 hia;cases hib:CF b
    .obtain⟨rb,b1,b2,b3,b4,b5⟩:=Be b g0 g1 hib hnb;have hv:F9 a b=FY (AK a != AK b)+2139095040:=by rw[Dk a b ra rb,<-Bu,<-CS];rfl
     rw[hv];clear hv ra rb;exact SJ
    .obtain⟨rb,-,b1⟩:=Cw b g0 g1 hib;have hv:F9 a b=2143289344:=by rw[Dk a b ra rb];rfl
     rw[hv];clear hv ra rb;exact SJ
  .have hv:=K8 a b h0 h1 g0 g1 (Or.inr hnb);rw[hv];clear hv;exact SJ
 .have hv:=K8 a b h0 h1 g0 g1 (Or.inl hna);rw[hv];clear hv;exact SJ
theorem Ez(a:Int){d:Ieee.Datum}(h:Ieee.single.read a.toNat=d):CB a=Ny ((d.root 25).map Ieee.single.write):=by
 unfold CB Ieee.Format.sqrt;rw[h];rfl
theorem OH(a:Int)(h0:0<=a)(h1:a<4294967296)(hia:CF a=false)(hna:Bc a=false)(za:nM a≠0)(hs:AK a=false)(root n:Nat)(e:Int)(he:e%2=0)
 (hn:(n:Int)=nM a*2^nk (nM a)*68719476736/\e=nE a-nk (nM a)-36\/(n:Int)=nM a*2^nk (nM a)*68719476736*2/\e=nE a-nk (nM a)-37) (hr1:root*root<=n) (hr2:n<(root+1)*(root+1)):
 CB a=(Ieee.single.nearest false (2*root+(if root*root<n then 1 else 0)) (e/2-1):Nat):=by
 obtain⟨fa,sa,ma,ta⟩:=Jz a h0 h1 hia hna;obtain⟨-,a1,a2,a3,a4,-⟩:=Be a h0 h1 hia hna;obtain⟨ka,A1,A2⟩:=DH (nM a) oM a2;obtain⟨r,hr,hnear⟩:=KG a.toNat fa (by rw[sa];exact hs) oM;have hst:(root*root != n).toNat=if root*root<n then 1 else 0:=by
  by_cases c:root*root=n
  .rw[if_neg oM];simp[c]
  .rw[if_pos oM];simp[c]
 obtain⟨x,hx⟩:∃x:Nat,(x:Int)=e/2+149:=⟨(e/2+149).toNat,oM⟩
 have hn59:576460752303423488<=n:=oM;have hroot:16777216<=root:=by
  rcases Nat.lt_or_ge root 16777216 with c|c
  .exfalso;have:=Nat.mul_self_le_mul_self (show root+1<=16777216 from c);omega
  .exact c
 have big:23+2<=(2*root+(root*root != n).toNat).log2:=by
  apply(Nat.le_log2 oM).2;omega
 have h2:=IP 23 (-149) root n (e/2-1) dE hr1 hr2 big x oM;have hval:n*(2^x*2^x)=mv a.toNat*2^149:=by
  have cA:nM a*2^nk (nM a)=((mg a.toNat*2^nk (nM a):Nat):Int):=by rw[Int.natCast_mul,Db,ma]
  rw[cA]at hn;obtain⟨z,hz⟩:∃z:Nat,z=149:=⟨_,rfl⟩
  rw[Gy,<-hz];rcases hn with⟨hn,hE⟩|⟨hn,hE⟩
  .have hn':n=mg a.toNat*2^nk (nM a)*2^36:=by
    have:(2:Nat)^36=68719476736:=rfl;omega
   exact Z5
  .have hn':n=mg a.toNat*2^nk (nM a)*2^37:=by
    have:(2:Nat)^37=68719476736*2:=rfl;omega
   exact Z5
 rw[hval,hst]at h2;have BD:=hnear.unique h2;unfold CB;rw[hr];show((wd false r:Nat):Int)=_;rw[B9,Cr,Bo,GZ,<-BD]
def WL(n k root:Nat):Prop:=root*root<=n/\n<(root+2^k)*(root+2^k)/\root+2^k<=4294967296
def Ok(k:Nat):Int:=if k=0 then 0 else 2^(k-1)
theorem Om(k:Nat):Ok (k+1)=2^k:=by unfold Ok;rw[if_neg oM];rfl
theorem Ol(k:Nat):(2:Int)^k/2=Ok k:=by
 unfold Ok;rcases Nat.eq_zero_or_pos k with c|c
 .subst c;rfl
 .rw[if_neg oM];obtain⟨j,rfl⟩:∃j,k=j+1:=⟨k-1,oM⟩
  rw[Int.pow_succ,Nat.add_sub_cancel];omega
theorem Pk(a:Int)(h0:0<=a)(h1:a<4294967296)(hia:CF a=false)(hna:Bc a=false)(za:nM a≠0)(hs:AK a=false)(w:World):
 Calls prog 108 #[.int .i64 a] w fun e w'=>e=.returned (.int .i64 (CB a))/\Below w.heap.size w w':=by
 obtain⟨ra,a1,a2,a3,a4,a5⟩:=Be a h0 h1 hia hna;obtain⟨ka,A1,A2⟩:=DH (nM a) oM a2;obtain⟨A,hA⟩:=gA (nM a*2^nk (nM a))
 obtain⟨EA,hEA⟩:=gA (nE a-(nk (nM a):Int))
 have hv:=OH a h0 h1 hia hna za hs;rw[hA,hEA]at hv;rw[hA]at A1 A2;have eb: -172<=EA/\EA<=104:=oM;clear ra a5;have HV:Hid (∀ (root n:Nat) (e:Int),e%2=0->((n:Int)=A*68719476736/\e=EA-36\/(n:Int)=A*68719476736*2/\e=EA-37)->root*root<=n->n<(root+1)*(root+1)->CB a=(Ieee.single.nearest false (2*root+(if root*root<n then 1 else 0)) (e/2-1):Nat)):=fun root n e p q r s=>hv root n e p q r s;clear hv;generalize hF:CB a=F at *;clear hF;by_cases c:EA%2=0
 .skip
  obtain⟨N,hN⟩:∃N:Int,A*68719476736=N:=⟨_,rfl⟩
  obtain⟨e,he⟩:∃e:Int,EA-36=e:=⟨_,rfl⟩
  obtain⟨E2,hE2⟩:∃E2:Int,e/2=E2:=⟨_,rfl⟩
  have hNb:576460752303423488<=N/\N<2305843009213693952:=oM;obtain⟨n,hn⟩:∃n:Nat,(n:Int)=N:=⟨N.toNat,oM⟩
  have hv2:=fun root=>HV.out root n e oM (Or.inl ⟨oM,oM⟩);rw[hE2]at hv2;have htd:e.tdiv 2=E2:=by rw[<-hE2,Int.tdiv_eq_ediv];split<;>omega
  have hodd:e.tmod 2=0:=by rw[Int.tmod_eq_emod];split<;>omega
  exact Yb
 .skip
  have hodd:(EA-36).tmod 2≠0:=by rw[Int.tmod_eq_emod];split<;>omega
  obtain⟨N,hN⟩:∃N:Int,A*68719476736*2=N:=⟨_,rfl⟩
  obtain⟨e,he⟩:∃e:Int,EA-36-1=e:=⟨_,rfl⟩
  obtain⟨E2,hE2⟩:∃E2:Int,e/2=E2:=⟨_,rfl⟩
  have hNb:576460752303423488<=N/\N<2305843009213693952:=oM;obtain⟨n,hn⟩:∃n:Nat,(n:Int)=N:=⟨N.toNat,oM⟩
  have hv2:=fun root=>HV.out root n e oM (Or.inr ⟨oM,oM⟩);rw[hE2]at hv2;have htd:e.tdiv 2=E2:=by rw[<-hE2,Int.tdiv_eq_ediv];split<;>omega
  exact Yb
def dn(o:Option Nat):Nat:=match o with
 |some _=>0
 |none=>1
section
variable {P : Program} (w : World)
end
section
variable (w : World) (n : Nat)
@[go_sem] theorem alloc_drewN (o:Obj):(w.drewN n).alloc o=(w.alloc o).drewN n:=rfl
@[go_sem] theorem setCell_drewN (a:Addr) (v:Value):(w.drewN n).setCell a v=(w.setCell a v).drewN n:=rfl
end
theorem G9{w:World}{a:Addr}{v:Value}(h:w.cell? a=some v):a.block<w.heap.size:=by
 rcases Nat.lt_or_ge a.block w.heap.size with c|c
 .exact c
 .have:w.heap[a.block]? =none:=Array.getElem?_eq_none c;simp[World.cell?,this]at h
theorem Mj(w:World)(o:Obj):Below w.heap.size w (w.alloc o):=(Below.refl _ _).alloc (gF _) o
section
variable {w : World} {cs : List (Addr × Value)} {g : Nat} {x y : Value} {v v' : World}
end
end Go.Proofs.YtjglaibglofddaaGreat
