import Derived.Test.YtnbccaicijcklaaGreatMns6
import Derived.Deep.QuietTactic
import Derived.BigQuiet
import Derived.Deep.AppendLies
import Derived.Maps.AppendAt
import Derived.Laws.AppendOwnNone
import Derived.Shelf.Abstract
import Derived.Deep.RegionHeld3
import Derived.Laws.EntriesVeiled
import Derived.Test.YtnbccaicijcklaaGreatMns7
import Derived.DeepKeys4
import Derived.Test.YtnbccaicijcklaaGreatMns1
namespace Go.Proofs.YtnbccaicijcklaaGreat
open Go.RowKit Go.Proofs.Tryz
set_option linter.all false
set_option maxRecDepth 100000
set_option maxHeartbeats 16000000
theorem NA(a b:Int)(h0:0<=a)(h1:a<4294967296)(g0:0<=b)(g1:b<4294967296)(h:BQ a=true\/BQ b=true):GA a b=2143289344:=by
 rcases h with h|h
 .obtain⟨s,t,e⟩:=Fs a h0 h1 h;rw[Eu a b e rfl];cases Ieee.single.read b.toNat<;>rfl
 .obtain⟨s,t,e⟩:=Fs b g0 g1 h;rw[Eu a b rfl e];cases Ieee.single.read a.toNat<;>rfl
theorem QK(s:Bool):((Ieee.single.write (.number s 0 0):Nat):Int)=I4 s:=by cases s<;>decide
theorem ZO(A B:Int)(h1:8388608<=A)(h2:A<16777216)(h3:8388608<=B)(h4:B<16777216):0<=A*274877906944/B/\A*274877906944/B<1099511627776/\0<=A*274877906944%B/\A*274877906944%B<16777216:=by
 have e:=Int.mul_ediv_add_emod (A*274877906944) B;have r0:=Int.emod_nonneg (A*274877906944) (show B≠0 by omega);have r1:=Int.emod_lt_of_pos (A*274877906944) (show 0<B by omega);have q0:0<=A*274877906944/B:=Int.ediv_nonneg oM oM;refine⟨q0,?_,r0,oM⟩;apply Int.ediv_lt_of_lt_mul oM;omega
theorem Wt(a:Int)(h0:0<=a)(h1:a<4294967296)(b:Int)(g0:0<=b)(g1:b<4294967296)(w:World):
 Calls prog 125 #[.int .i64 a,.int .i64 b] w fun e w'=>e=.returned (.int .i64 (GA a b))/\Below w.heap.size w w':=by
 cases hna:BQ a
 .cases hnb:BQ b
  .cases hia:DG a
   .obtain⟨ra,a1,a2,a3,a4,a5⟩:=BR a h0 h1 hia hna;cases hib:DG b
    .obtain⟨rb,b1,b2,b3,b4,b5⟩:=BR b g0 g1 hib hnb;by_cases zb:nM b=0
     .by_cases za:nM a=0
      .have hv:GA a b=2143289344:=by rw[Eu a b ra rb,za,zb];rfl
       rw[hv];clear hv ra rb;exact Yp
      .have hv:GA a b=I4 (B8 a != B8 b)+2139095040:=by
        rw[Eu a b ra rb,zb,<-Ce,<-DZ];have:(nM a).toNat≠0:=oM;simp only[Ieee.Datum.quotient,if_neg this,Int.toNat_zero,if_true];rfl
       rw[hv];clear hv ra rb;exact Yp
     .by_cases za:nM a=0
      .have hv:GA a b=I4 (B8 a != B8 b):=by
        rw[Eu a b ra rb,za,<-DZ];have:(nM b).toNat≠0:=oM;simp only[Ieee.Datum.quotient,if_neg this,Int.toNat_zero,Nat.zero_shiftLeft,Nat.zero_div,Nat.zero_mod];exact Gm _ _
       rw[hv];clear hv ra rb;exact Yp
      .obtain⟨ka,A1,A2⟩:=F0 (nM a) oM a2;obtain⟨kb,B1,B2⟩:=F0 (nM b) oM b2;obtain⟨A,hA⟩:=gA (nM a*2^nk (nM a))
       obtain⟨B,hB⟩:=gA (nM b*2^nk (nM b))
       have hv:=Vd a b h0 h1 g0 g1 hia hna hib hnb za zb A B hA hB;rw[hA]at A1 A2;rw[hB]at B1 B2;have hq:=ZO A B A1 A2 B1 B2;obtain⟨EA,hEA⟩:=gA (nE a-(nk (nM a):Int))
       obtain⟨EB,hEB⟩:=gA (nE b-(nk (nM b):Int))
       rw[hEA,hEB]at hv;have eb: -172<=EA/\EA<=104/\-172<=EB/\EB<=104:=oM;rw[hv];clear hv ra rb a5 b5;obtain⟨q,hqq⟩:=gA (A*274877906944/B)
       obtain⟨r,hrr⟩:=gA (A*274877906944%B)
       rw[hqq,hrr]at hq |-;have hdiv:(A*274877906944).tdiv B=q:=by rw[<-hqq,Int.tdiv_eq_ediv_of_nonneg oM]
       have hmod:(A*274877906944).tmod B=r:=by rw[<-hrr,Int.tmod_eq_emod_of_nonneg oM]
       by_cases zr:r=0
       .rw[if_pos zr];exact Zbv
       .rw[if_neg zr];exact Zbv
    .obtain⟨rb,-,b1⟩:=Dv b g0 g1 hib;have hv:GA a b=I4 (B8 a != B8 b):=by rw[Eu a b ra rb,<-QK,<-DZ];rfl
     rw[hv];clear hv ra rb;by_cases za:nM a=0
     .skip
      exact Yp
     .skip
      exact Yp
   .obtain⟨ra,-,a1⟩:=Dv a h0 h1 hia;cases hib:DG b
    .obtain⟨rb,b1,b2,b3,b4,b5⟩:=BR b g0 g1 hib hnb;have hv:GA a b=I4 (B8 a != B8 b)+2139095040:=by rw[Eu a b ra rb,<-Ce,<-DZ];rfl
     rw[hv];clear hv ra rb;exact Yp
    .obtain⟨rb,-,b1⟩:=Dv b g0 g1 hib;have hv:GA a b=2143289344:=by rw[Eu a b ra rb];rfl
     rw[hv];clear hv ra rb;exact Yp
  .have hv:=NA a b h0 h1 g0 g1 (Or.inr hnb);rw[hv];clear hv;exact Yp
 .have hv:=NA a b h0 h1 g0 g1 (Or.inl hna);rw[hv];clear hv;exact Yp
theorem Ny(a b:Int)(h0:0<=a)(h1:a<4294967296)(g0:0<=b)(g1:b<4294967296)(h:BQ a=true\/BQ b=true):DQ a b=2143289344:=by
 rcases h with h|h
 .obtain⟨s,t,e⟩:=Fs a h0 h1 h;rw[CO a b e rfl];cases Ieee.single.read b.toNat<;>rfl
 .obtain⟨s,t,e⟩:=Fs b g0 g1 h;rw[CO a b rfl e];cases Ieee.single.read a.toNat<;>rfl
theorem Ls(a b:Int)(h0:0<=a)(h1:a<4294967296)(g0:0<=b)(g1:b<4294967296){s:Bool}{i:Int}(ra:Ieee.single.read a.toNat=.number s 0 i)(rb:Ieee.single.read b.toNat=.number (B8 b) (nM b).toNat (nE b))(hb:nM b≠0)(hb0:0<=nM b)(hi: -149<=i)(hj: -149<=nE b):
 DQ a b=(Ieee.single.nearest (B8 b) (nM b).toNat (nE b):Nat):=by
 rw[CO a b ra rb];simp only[Ieee.Datum.sum,Option.map_some,Ieee.Format.write];generalize hbase:min i (nE b)=base;have hz:Ieee.signed s 0 (i-base).toNat=0:=by unfold Ieee.signed;simp
 rw[hz,Int.zero_add,IC];have hP:(1:Int)<=2^(nE b-base).toNat:=Int.pow_pos dE;have hX:0<((nM b).toNat:Int)*2^(nE b-base).toNat:=Int.mul_pos oM oM;have e1:¬ (GI (B8 b) (((nM b).toNat:Int)*2^(nE b-base).toNat)=0):=by
  unfold GI;split<;>omega
 have e2:decide (GI (B8 b) (((nM b).toNat:Int)*2^(nE b-base).toNat)<0)=B8 b:=by
  generalize ((nM b).toNat:Int)*2^(nE b-base).toNat=X at *;cases B8 b<;>simp only[GI,if_true,if_false,Bool.false_eq_true]<;>simp<;>omega
 have e3:(GI (B8 b) (((nM b).toNat:Int)*2^(nE b-base).toNat)).natAbs=(nM b).toNat*2^(nE b-base).toNat:=by
  have hc:(((nM b).toNat*2^(nE b-base).toNat:Nat):Int)=((nM b).toNat:Int)*2^(nE b-base).toNat:=by rw[Int.natCast_mul,Int.natCast_pow];rfl
  unfold GI;split<;>omega
 rw[if_neg e1,e2,e3];show((Ieee.single.nearest (B8 b) _ base:Nat):Int)=_;rw[BK,BK,Ds,C3];obtain⟨c,hc⟩:∃c:Nat,(c:Int)=base+149:=⟨(base+149).toNat,oM⟩
 obtain⟨d,hd⟩:∃d:Nat,(d:Int)=nE b+149:=⟨(nE b+149).toNat,oM⟩
 have r1:=OC ((nM b).toNat*2^(nE b-base).toNat) c;have r2:=OC (nM b).toNat d;rw[show -149+(c:Int)=base by omega]at r1;rw[show -149+(d:Int)=nE b by omega]at r2;rw[r1,r2,Nat.mul_assoc,<-Nat.pow_add,show(nE b-base).toNat+c=d by omega]
theorem Ki(a:Int)(h0:0<=a)(h1:a<4294967296)(b:Int)(g0:0<=b)(g1:b<4294967296)(w:World):
 Calls prog 95 #[.int .i64 a,.int .i64 b] w fun e w'=>e=.returned (.int .i64 (DQ a b))/\Below w.heap.size w w':=by
 cases hna:BQ a
 .cases hnb:BQ b
  .cases hia:DG a
   .obtain⟨ra,a1,a2,a3,a4,a5⟩:=BR a h0 h1 hia hna;cases hib:DG b
    .obtain⟨rb,b1,b2,b3,b4,b5⟩:=BR b g0 g1 hib hnb;by_cases za:nM a=0
     .by_cases zb:nM b=0
      .have hv:DQ a b=I4 (B8 a&&B8 b):=by
        rw[CO a b ra rb,za,zb];simp only[Ieee.Datum.sum,Option.map_some,Ieee.Format.write];have:Ieee.signed (B8 a) (0:Int).toNat (nE a-min (nE a) (nE b)).toNat+Ieee.signed (B8 b) (0:Int).toNat (nE b-min (nE a) (nE b)).toNat=0:=by unfold Ieee.signed;simp
        rw[this,if_pos rfl];exact Gm _ _
       rw[hv];clear hv ra rb;cases hma:B8 a
       .rw[Bool.false_and];exact UE
       .rw[Bool.true_and];exact UE
      .have hv:=Ls a b h0 h1 g0 g1 (s:=B8 a) (i:=nE a) (by rw[ra,za];rfl) rb zb b1 a3 b3;rw[hv];clear hv ra rb;exact UE
     .by_cases zb:nM b=0
      .have hv:=Ls b a g0 g1 h0 h1 (s:=B8 b) (i:=nE b) (by rw[rb,zb];rfl) ra za a1 b3 a3;rw[Lr,hv];clear hv ra rb;exact UE
      .by_cases hE:nE a<nE b
       .have hv:DQ a b=Uo (B8 b) (nM b) (nE b) (B8 a) (nM a) (nE a):=by
         rw[Lr,CO b a rb ra,OO _ _ _ _ _ _ oM b2 oM a2 a3 oM b5]
        exact Zbt
       .have hv:DQ a b=Uo (B8 a) (nM a) (nE a) (B8 b) (nM b) (nE b):=by
         rw[CO a b ra rb,OO _ _ _ _ _ _ oM a2 oM b2 b3 oM a5]
        exact Zbt
    .obtain⟨rb,-,b1⟩:=Dv b g0 g1 hib;have hv:DQ a b=I4 (B8 b)+2139095040:=by rw[CO a b ra rb,<-Ce];rfl
     rw[hv];clear hv ra rb;exact UE
   .obtain⟨ra,-,a1⟩:=Dv a h0 h1 hia;cases hib:DG b
    .obtain⟨rb,b1,b2,b3,b4,b5⟩:=BR b g0 g1 hib hnb;have hv:DQ a b=I4 (B8 a)+2139095040:=by rw[CO a b ra rb,<-Ce];rfl
     rw[hv];clear hv ra rb;exact UE
    .obtain⟨rb,-,b1⟩:=Dv b g0 g1 hib;cases hma:B8 a<;>cases hmb:B8 b<;>rw[hma]at ra<;>rw[hmb]at rb
     .have hv:DQ a b=I4 false+2139095040:=by rw[CO a b ra rb,<-Ce];rfl
      rw[hv];clear hv ra rb;exact UE
     .have hv:DQ a b=2143289344:=by rw[CO a b ra rb];rfl
      rw[hv];clear hv ra rb;exact UE
     .have hv:DQ a b=2143289344:=by rw[CO a b ra rb];rfl
      rw[hv];clear hv ra rb;exact UE
     .have hv:DQ a b=I4 true+2139095040:=by rw[CO a b ra rb,<-Ce];rfl
      rw[hv];clear hv ra rb;exact UE
  .have hv:=Ny a b h0 h1 g0 g1 (Or.inr hnb);rw[hv];clear hv;exact UE
 .have hv:=Ny a b h0 h1 g0 g1 (Or.inl hna);rw[hv];clear hv;exact UE
theorem J4(d e:Ieee.Datum)(h:d.isNaN=true):e.sum d=none:=by
 cases d<;>simp[Ieee.Datum.isNaN]at h
 cases e<;>rfl
theorem YV(a b:Int)(g0:0<=b)(g1:b<4294967296):NO a b=DQ a (JI b):=by
 cases hn:nan b
 .rw[NM b g0 g1 hn];unfold NO DQ Ieee.Format.sub Ieee.Format.add;rw[Int.toNat_natCast,TH _ oM]
 .rw[NL b g0 g1 hn];have h2:2139095040<rg b.toNat:=by rw[JV b g0]at hn;simpa using hn
  unfold NO DQ Ieee.Format.sub Ieee.Format.add;rw[Ei _ h2,show Ieee.single.read (2143289344:Int).toNat=.nan false 4194304 from by decide,J4 _ _ rfl,J4 _ _ rfl]
theorem Xr(a:Int)(h0:0<=a)(h1:a<4294967296)(b:Int)(g0:0<=b)(g1:b<4294967296)(w:World):
 Calls prog 124 #[.int .i64 a,.int .i64 b] w fun e w'=>e=.returned (.int .i64 (NO a b))/\Below w.heap.size w w':=by
 rw[YV a b g0 g1];have hl:=R6 b g0 g1;go_enter func124,ntmps124;go_wp2_with(first
  |(go_at_call 120;refine(Oo _ g0 g1 _).mono ?_;rintro e w1 ⟨rfl,hb1⟩)
  |(go_at_call 95;refine(Ki _ h0 h1 _ hl.1 hl.2 _).mono ?_;rintro e w2 ⟨rfl,hb2⟩))
 go_ret;exact⟨rfl,Jx hb1 hb2⟩
theorem TS(a:Int)(h0:0<=a)(h1:a<4294967296)(w:World):
 Calls prog 119 #[.int .i64 a] w fun e w'=>e=.returned (.int .i64 (Dz a))/\Below w.heap.size w w':=by
 cases hna:BQ a
 .cases hia:DG a
  .by_cases za:nM a=0
   .obtain⟨ra,a1,a2,a3,a4,a5⟩:=BR a h0 h1 hia hna;have hv:Dz a=a:=by
     rw[FU a ra,za];have e:((Ieee.single.nearest (B8 a) 0 (nE a):Nat):Int)=I4 (B8 a):=Gm _ _;show((Ieee.single.nearest (B8 a) 0 (nE a):Nat):Int)=a;rw[e];have h2:=N5 a h0 h1 hia hna;have h3:=EI a h0 h1;have h4:rg a.toNat=0:=by
      have:mg a.toNat=0:=oM;unfold mg at this;split at this<;>omega
     rw[h2.2.1,h4]at h3;unfold I4;omega
    rw[hv];clear hv ra a5;go_enter func119,ntmps119;exact UO
   .cases hs:B8 a
    .exact TU a h0 h1 hia hna za hs w
    .obtain⟨ra,a1,a2,a3,a4,a5⟩:=BR a h0 h1 hia hna;have hv:Dz a=2143289344:=by
      rw[FU a ra,hs];have:(nM a).toNat≠0:=oM;simp only[Ieee.Datum.root,if_neg this,if_true];rfl
     rw[hv];clear hv ra a5;go_enter func119,ntmps119;exact UO
  .obtain⟨ra,-,a1⟩:=Dv a h0 h1 hia;cases hs:B8 a
   .have hv:Dz a=a:=by
     rw[FU a ra,hs];have h2:rg a.toNat=2139095040:=by
      rcases Nat.lt_trichotomy (rg a.toNat) 2139095040 with c|c|c
      .rw[Cs _ c]at ra;cases ra
      .exact c
      .rw[Ei _ c]at ra;cases ra
     have h3:=EI a h0 h1;rw[<-MJ a h0 h1,hs,h2]at h3;show((Ieee.single.write (.infinity false):Nat):Int)=a;rw[Ce];unfold I4;omega
    rw[hv];clear hv ra;go_enter func119,ntmps119;exact UO
   .have hv:Dz a=2143289344:=by rw[FU a ra,hs];rfl
    rw[hv];clear hv ra;go_enter func119,ntmps119;exact UO
 .have hv:Dz a=2143289344:=by
   obtain⟨s,t,e⟩:=Fs a h0 h1 hna;rw[FU a e];rfl
  rw[hv];clear hv;go_enter func119,ntmps119;exact UO

def nums(X:Nat->Int)(n:Nat):List Value:=(List.range n).map fun i=>.int .u32 (X i)
def AH(a:Int):Prop:=0<=a/\a<4294967296
theorem Dn(a:Int)(h:AH a):AH (An a):=ET a h.1 h.2
theorem Rb(a b:Int):AH (DQ a b):=R1 a b
theorem Z9(a b:Int):AH (NO a b):=YW a b
theorem Z6(a b:Int):AH (FJ a b):=Fc a b
theorem Z4(a b:Int):AH (GA a b):=YS a b
theorem Vy(a:Int):AH (Dz a):=Vn a
theorem Z7(a:Int)(h:AH a):AH (JI a):=R6 a h.1 h.2
theorem Z3(a:Int)(h:AH a):AH (YR a):=ET _ (by have:=h.1;omega) (by have:=h.1;omega)
theorem Mz(a b:Int)(h:AH a)(k:AH b):AH (Jc a b):=by
 have h1:=h.1;have h2:=h.2;have k1:=k.1;have k2:=k.2;unfold AH Jc;split
 .decide
 .exact h
 .exact k
 .split
  .exact h
  .exact k
theorem Z5(a b:Int)(h:AH a)(k:AH b):AH (JH a b):=by
 have h1:=h.1;have h2:=h.2;have k1:=k.1;have k2:=k.2;unfold AH JH;split
 .decide
 .exact k
 .exact h
 .split
  .exact k
  .exact h
theorem Z8(c a b:Int)(h:AH a)(k:AH b):AH (Mx c a b):=by
 unfold Mx;split
 .exact Dn b k
 .exact Dn a h
def R7(f:Int->Int->Int)(s:Int)(X:Nat->Int):Nat->Int
 |0=>s
 |n+1=>f (R7 f s X n) (X n)
theorem FT{f:Int->Int->Int}(hf:∀a b,AH a->AH b->AH (f a b)){s:Int}(hs:AH s){X:Nat->Int}(hX:∀i,AH (X i)):∀n,AH (R7 f s X n)
 |0=>hs
 |n+1=>hf _ _ (FT hf hs hX n) (hX n)
def L5(X:Nat->Int)(n:Nat):Int:=R7 DQ 0 X n
def EP(X:Nat->Int)(n:Nat):Int:=R7 Jc 2139095040 X n
theorem JM:AH 0:=by unfold AH;decide
theorem Za(X:Nat->Int)(n:Nat)(hX:∀i,AH (X i)):AH (L5 X n):=FT (fun _ _ _ _=>R1 _ _) JM hX n
def CC(op:Int):Nat:=
 if op=3\/op=11\/op=12\/op=13\/op=14 then 1 else if op=4\/op=5\/op=6\/op=7\/op=8\/op=9\/op=10 then 2 else if op=15 then 3 else 0
def PD(b:Bool):Int:=if b then 1065353216 else 0
theorem NU(b:Bool):AH (PD b):=by unfold AH PD;cases b<;>decide
theorem BE{c:Prop}[Decidable c]{a b:Int}(h:AH a)(k:AH b):AH (if c then a else b):=by
 split
 .exact h
 .exact k
def Kb(op a b c:Int):Int:=
 if op=3 then An a else if op=11 then Dz a else if op=12 then JI a else if op=13 then YR a else if op=14 then PD (ffin a)
 else if op=4 then DQ a b else if op=5 then NO a b else if op=6 then FJ a b else if op=7 then GA a b else if op=8 then Jc a b else if op=9 then JH a b
 else if op=10 then PD (JG a b)else Mx a b c
theorem Rc(op a b c:Int)(ha:AH a)(hb:AH b)(hc:AH c):AH (Kb op a b c):=
 BE (Dn a ha) (BE (Vy a) (BE (Z7 a ha) (BE (Z3 a ha) (BE (NU _) (BE (Rb a b) (BE (Z9 a b) (BE (Z6 a b)
  (BE (Z4 a b) (BE (Mz a b ha hb) (BE (Z5 a b ha hb) (BE (NU _) (Z8 a b c hb hc))))))))))))
def IK(X:Nat->Value)(n:Nat):List Value:=(List.range n).map X
theorem vals_at(X:Nat->Value)(n i:Nat)(h:i<n):(IK X n)[i]? =some (X i):=by simp[IK,h]
theorem Mk(X:Nat->Value)(n:Nat):IK X (n+1)=IK X n++[X n]:=by unfold IK;rw[List.range_succ];simp
theorem LO{w:World}{base:Nat}{e:TypeId}{v:Value}{n:Nat}{X:Nat->Value}(h:w.ownsRow base e 1 v n (IK X n)):
 ∃q cap,v=.slice q n cap/\Bb w q n X/\(∀b o s,q=some ⟨b,o,s⟩->base<=b)/\(q=none->n=0/\cap=0)/\n<=cap:=by
 rcases h.2 with⟨rfl,hx⟩|⟨g,cap,cur,rfl,hb,hg,rest⟩
 .subst hx;exact⟨none,0,rfl,.inl rfl,fun b o s e=>(by cases e),fun _=>⟨rfl,rfl⟩,gF _⟩
 .refine⟨some ⟨g,0,none⟩,cap,rfl,.inr ⟨g,0,rfl,fun i hi=>?_⟩,fun b o s e=>(by cases e;exact hb),fun e=>(by cases e),rest.1⟩;have:=h.cells (g:=g) rfl i (X i) (vals_at X n i hi);rw[Nat.zero_add];by_cases c:i=0
  .subst c;simpa[Addr.add]using this
  .simpa[Addr.add,c]using this
theorem Vv:(prog.info? 3).map (fun i=>(i.zero,i.size,i.bytes))=some (some (.int .i64 0),1,8):=kR

theorem Ux(p:Option Addr)(n c:Nat)(X:Nat->Int)(hX:∀i,AH (X i))(hn:n<=1048576)(w:World)(hp:Bb w p n (fun i=>.int .i64 (X i))):
 Calls prog 66 #[.slice p n c] w fun e w'=>e=.returned (.int .i64 (L5 X n))/\Below w.heap.size w w':=by
 go_enter func66,ntmps66;go_wp2
 go_loopw [3,4] (fun sv iv wr=>Below w.heap.size w wr/\∃j:Nat,j<=n/\iv=.int .i64 j/\sv=.int .i64 (L5 X j)) (fun _ iv _=>n-(intOf iv).toNat)
 case atStart=>exact⟨Lm w,0,gI _,rfl,rfl⟩
 case round=>
  obtain⟨hb,j,hj,rfl,rfl⟩:=hrel;by_cases hlt:j<n
  .rcases hp with hp|⟨b,o,rfl,hp⟩
   .omega
   have hbl:b<w.heap.size:=Ik (hp j hlt);have h1:wr.cell? ⟨b,o+j,none⟩=some (.int .i64 (X j)):=(hb.cell hbl).trans (hp j hlt);have i1:(0:Int)<=(j:Int):=oM;have i2:(j:Int)<(n:Int):=oM;have s1:AH (L5 X j):=FT (fun _ _ _ _=>Rb _ _) (by unfold AH;decide) hX j;have x1:=hX j;clear hp hX;go_wp2_with(go_at_call 95;refine(Ki _ s1.1 s1.2 _ x1.1 x1.2 _).mono ?_;rintro e w1 ⟨rfl,hb1⟩);go_roundw
   case rel=>exact⟨Jx hb hb1,j+1,oM,gN,rfl⟩
   case measure=>simp[intOf];omega
  .have:j=n:=oM;subst this;clear hp hX;go_wp2;go_ret;exact⟨rfl,hb⟩
theorem Qn(p:Option Addr)(n c:Nat)(X:Nat->Int)(hX:∀i,AH (X i))(hn:n<=1048576)(w:World)(hp:Bb w p n (fun i=>.int .i64 (X i))):
 Calls prog 67 #[.slice p n c] w fun e w'=>e=.returned (.int .i64 (EP X n))/\Below w.heap.size w w':=by
 go_enter func67,ntmps67;go_wp2
 go_loopw [3,4] (fun sv iv wr=>Below w.heap.size w wr/\∃j:Nat,j<=n/\iv=.int .i64 j/\sv=.int .i64 (EP X j)) (fun _ iv _=>n-(intOf iv).toNat)
 case atStart=>exact⟨Lm w,0,gI _,rfl,rfl⟩
 case round=>
  obtain⟨hb,j,hj,rfl,rfl⟩:=hrel;by_cases hlt:j<n
  .rcases hp with hp|⟨b,o,rfl,hp⟩
   .omega
   have hbl:b<w.heap.size:=Ik (hp j hlt);have h1:wr.cell? ⟨b,o+j,none⟩=some (.int .i64 (X j)):=(hb.cell hbl).trans (hp j hlt);have i1:(0:Int)<=(j:Int):=oM;have i2:(j:Int)<(n:Int):=oM;have s1:AH (EP X j):=FT Mz (by unfold AH;decide) hX j;have x1:=hX j;clear hp hX;go_wp2_with(go_at_call 96;refine(On _ s1.1 s1.2 _ x1.1 x1.2 _).mono ?_;rintro e w1 ⟨rfl,hb1⟩);go_roundw
   case rel=>exact⟨Jx hb hb1,j+1,oM,gN,rfl⟩
   case measure=>simp[intOf];omega
  .have:j=n:=oM;subst this;clear hp hX;go_wp2;go_ret;exact⟨rfl,hb⟩
theorem TN(a:Int)(h:AH a)(w:World):
 Calls prog 123 #[.int .i64 a] w fun e w'=>e=.returned (.bool (ffin a))/\w'=w:=by
 have h0:=h.1;have h1:=h.2;have t1:a.tmod 2147483648=a%2147483648:=Int.tmod_eq_emod_of_nonneg h0;go_enter func123,ntmps123;go_wp2;go_ret;exact⟨rfl,rfl⟩

structure P7(k:IntKind)(w:World)(q:Option Addr)(m:Nat)(P:Nat->Option Addr)(l c:Nat->Nat)(X:Nat->Nat->Int):Prop where
 heads:Bb w q m (fun i=>.slice (P i) (l i) (c i))
 parts:∀i,i<m->Bb w (P i) (l i) (fun j=>.int k (X i j))
theorem P7.below{k:IntKind}{w w':World}{q:Option Addr}{m:Nat}{P:Nat->Option Addr}{l c:Nat->Nat}{X:Nat->Nat->Int}(h:P7 k w q m P l c X)(b:Below w.heap.size w w'):P7 k w' q m P l c X:=
 ⟨h.heads.below b,fun i hi=>(h.parts i hi).below b⟩
theorem Qc{w w':World}{base:Nat}{e:TypeId}{v:Value}{n:Nat}{xs:List Value}(h:w.ownsRow base e 1 v n xs)(k:Below w.heap.size w w'):w'.ownsRow base e 1 v n xs:=by
 refine h.kept (row:=none) ⟨k.os,k.tape,k.output,k.size,fun j hj _=>k.block j hj⟩ ?_;cases v.ownBlock<;>simp
theorem J5(op:Int)(h:CC op≠0):op=3\/op=11\/op=12\/op=13\/op=14\/op=4\/op=5\/op=6\/op=7\/op=8\/op=9\/op=10\/op=15:=by
 unfold CC at h;split at h
 .omega
 .split at h
  .omega
  .split at h
   .omega
   .exact absurd rfl h

def Eo(l:Nat->Nat):Nat->Option Nat
 |0=>some (l 0)
 |j+1=>match Eo l j with
  |none=>none
  |some n=>if l (j+1)=n then some n else if l (j+1)=0\/n=0 then none else if n=1 then some (l (j+1))else if l (j+1)=1 then some n else none
theorem I5{l:Nat->Nat}{j n:Nat}(h:Eo l j=some n):Eo l (j+1)=if l (j+1)=n then some n else if l (j+1)=0\/n=0 then none else if n=1 then some (l (j+1))else if l (j+1)=1 then some n else none:=by
 show(match Eo l j with |none=>none|some n=>_)=_;rw[h]
theorem Kq{l:Nat->Nat}{j:Nat}(h:Eo l j=none):∀M,j<=M->Eo l M=none:=by
 intro M;induction M with
 |zero=>
  intro hj;have:j=0:=oM;subst this;exact h
 |succ M ih=>
  intro hj;rcases Nat.lt_or_ge M j with c|c
  .have:j=M+1:=oM;subst this;exact h
  .show(match Eo l M with |none=>none|some n=>_)=_;rw[ih c]
theorem shp_le{l:Nat->Nat}{N:Nat}(hl:∀i,l i<=N):∀ {M n:Nat},Eo l M=some n->n<=N:=by
 intro M;induction M with
 |zero=>intro n h;cases h;exact hl 0
 |succ M ih=>
  intro n h;cases e:Eo l M with
  |none=>rw[Kq e (M+1) oM]at h;cases h
  |some k=>
   rw[I5 e]at h;have:=ih e;have:=hl (M+1)
   repeat' split at h
   all_goals cases h
   all_goals omega
theorem OI{l:Nat->Nat}:∀ {M n:Nat},Eo l M=some n->∀i,i<=M->l i=n\/(l i=1/\n≠0):=by
 intro M;induction M with
 |zero=>
  intro n h i hi;cases h;have:i=0:=oM;subst this;exact .inl rfl
 |succ M ih=>
  intro n h i hi;cases e:Eo l M with
  |none=>rw[Kq e (M+1) oM]at h;cases h
  |some k=>
   rw[I5 e]at h;have hi':i<=M\/i=M+1:=oM;split at h
   .cases h
    rcases hi' with c|c
    .exact ih e i c
    .subst c;left;assumption
   .split at h
    .cases h
    .split at h
     .cases h
      rcases hi' with c|c
      .have:=ih e i c;omega
      .subst c;exact .inl rfl
     .split at h
      .cases h
       rcases hi' with c|c
       .exact ih e i c
       .subst c;right;omega
      .cases h
def Gz(l:Nat->Nat)(X:Nat->Nat->Int)(m i j:Nat):Int:=if j<m then X j (if l j=1 then 0 else i)else 0
theorem Cp{l:Nat->Nat}{X:Nat->Nat->Int}(hX:∀i j,AH (X i j))(m i j:Nat):AH (Gz l X m i j):=BE (hX _ _) JM
theorem Gl{k:IntKind}{w:World}{b o m:Nat}{P:Nat->Option Addr}{l c:Nat->Nat}{X:Nat->Nat->Int}(h:P7 k w (some ⟨b,o,none⟩) m P l c X)(i:Nat)(hi:i<m):w.cell? ⟨b,o+i,none⟩=some (.slice (P i) (l i) (c i)):=by
 rcases h.heads with q|⟨b',o',e,hh⟩
 .omega
 .cases e;exact hh i hi
theorem Ug{l:Nat->Nat}{M n i j:Nat}(h:Eo l M=some n)(hj:j<=M)(hi:i<n):l j=1\/i<l j:=by
 rcases OI h j hj with e|e
 .right;omega
 .left;exact e.1
theorem Ky(op:Int):CC op<=3:=by
 unfold CC;split
 .omega
 .split
  .omega
  .split<;>omega

def sl:Nat->Nat:=fun i=>if i=0 then 2 else 1
def rn(l:Nat->Nat):Nat->Nat
 |0=>l 0
 |j+1=>if rn l j=1\/l j=0 then l j else rn l j
theorem rn_shp{l:Nat->Nat}:∀ {M n:Nat},Eo l M=some n->rn l (M+1)=n:=by
 intro M;induction M with
 |zero=>intro n h;cases h;show(if l 0=1\/l 0=0 then l 0 else l 0)=l 0;split<;>rfl
 |succ M ih=>
  intro n h;cases e:Eo l M with
  |none=>rw[Kq e (M+1) oM]at h;cases h
  |some k=>
   rw[I5 e]at h;have hk:=ih e;show(if rn l (M+1)=1\/l (M+1)=0 then l (M+1)else rn l (M+1))=n;rw[hk];split at h
   .cases h;split<;>omega
   .split at h
    .cases h
    .split at h
     .cases h;rw[if_pos oM]
     .split at h
      .cases h;rw[if_neg oM]
      .cases h
theorem Xs(w:World):Calls prog 91 #[.int .i64 3] w fun e w'=>e=.returned (.int .i64 1)/\w'=w:=by
 exact QN
theorem TY(w:World):Calls prog 91 #[.int .i64 11] w fun e w'=>e=.returned (.int .i64 1)/\w'=w:=by
 exact QN
theorem TZ(w:World):Calls prog 91 #[.int .i64 12] w fun e w'=>e=.returned (.int .i64 1)/\w'=w:=by
 exact QN
theorem U0(w:World):Calls prog 91 #[.int .i64 13] w fun e w'=>e=.returned (.int .i64 1)/\w'=w:=by
 exact QN
theorem U7(w:World):Calls prog 91 #[.int .i64 14] w fun e w'=>e=.returned (.int .i64 1)/\w'=w:=by
 exact QN
theorem Xt(w:World):Calls prog 91 #[.int .i64 4] w fun e w'=>e=.returned (.int .i64 2)/\w'=w:=by
 exact QN
theorem Xu(w:World):Calls prog 91 #[.int .i64 5] w fun e w'=>e=.returned (.int .i64 2)/\w'=w:=by
 exact QN
theorem Xv(w:World):Calls prog 91 #[.int .i64 6] w fun e w'=>e=.returned (.int .i64 2)/\w'=w:=by
 exact QN
theorem Xw(w:World):Calls prog 91 #[.int .i64 7] w fun e w'=>e=.returned (.int .i64 2)/\w'=w:=by
 exact QN
theorem Xx(w:World):Calls prog 91 #[.int .i64 8] w fun e w'=>e=.returned (.int .i64 2)/\w'=w:=by
 exact QN
theorem Xy(w:World):Calls prog 91 #[.int .i64 9] w fun e w'=>e=.returned (.int .i64 2)/\w'=w:=by
 exact QN
theorem TX(w:World):Calls prog 91 #[.int .i64 10] w fun e w'=>e=.returned (.int .i64 2)/\w'=w:=by
 exact QN
theorem U8(w:World):Calls prog 91 #[.int .i64 15] w fun e w'=>e=.returned (.int .i64 3)/\w'=w:=by
 exact QN
theorem U9(op:Int)(h:CC op=0)(w:World):Calls prog 91 #[.int .i64 op] w fun e w'=>e=.returned (.int .i64 0)/\w'=w:=by
 have n1:¬ (op=3\/op=11\/op=12\/op=13\/op=14):=fun c=>by unfold CC at h;rw[if_pos c]at h;cases h
 have n2:¬ (op=4\/op=5\/op=6\/op=7\/op=8\/op=9\/op=10):=fun c=>by unfold CC at h;rw[if_neg n1,if_pos c]at h;cases h
 have n3:¬ (op=15):=fun c=>by unfold CC at h;rw[if_neg n1,if_neg n2,if_pos c]at h;cases h
 simp only[not_or]at n1 n2;obtain⟨a1,a2,a3,a4,a5⟩:=n1;obtain⟨b1,b2,b3,b4,b5,b6,b7⟩:=n2;clear h;exact QN
theorem Km(op:Int)(w:World):Calls prog 91 #[.int .i64 op] w fun e w'=>e=.returned (.int .i64 (CC op:Nat))/\w'=w:=by
 by_cases h:CC op=0
 .rw[h];exact U9 op h w
 .rcases J5 op h with rfl|rfl|rfl|rfl|rfl|rfl|rfl|rfl|rfl|rfl|rfl|rfl|rfl
  .exact Xs w
  .exact TY w
  .exact TZ w
  .exact U0 w
  .exact U7 w
  .exact Xt w
  .exact Xu w
  .exact Xv w
  .exact Xw w
  .exact Xx w
  .exact Xy w
  .exact TX w
  .exact U8 w
theorem M4(b:Bool)(w:World):Calls prog 122 #[.bool b] w fun e w'=>e=.returned (.int .i64 (PD b))/\w'=w:=by
 cases b<;>(go_enter func122,ntmps122;go_wp2;go_ret;exact⟨rfl,rfl⟩)
theorem rdo_3(a b c:Int)(ha:AH a)(hb:AH b)(hc:AH c)(w:World):Calls prog 109 #[.int .i64 3,.int .i64 a,.int .i64 b,.int .i64 c] w fun e w'=>e=.returned (.int .i64 (Kb 3 a b c))/\Below w.heap.size w w':=by
 go_enter func109,ntmps109;go_wp2_with(first|(go_at_call 60;refine(Fo _ ha.1 ha.2 _).mono ?_;rintro e w1 ⟨rfl,hw1⟩;obtain rfl:=hw1.symm));go_ret;exact⟨rfl,Lm _⟩
theorem rdo_11(a b c:Int)(ha:AH a)(hb:AH b)(hc:AH c)(w:World):Calls prog 109 #[.int .i64 11,.int .i64 a,.int .i64 b,.int .i64 c] w fun e w'=>e=.returned (.int .i64 (Kb 11 a b c))/\Below w.heap.size w w':=by
 go_enter func109,ntmps109;go_wp2_with(first|(go_at_call 119;refine(TS _ ha.1 ha.2 _).mono ?_;rintro e w1 ⟨rfl,hb1⟩));go_ret;exact⟨rfl,hb1⟩
theorem rdo_12(a b c:Int)(ha:AH a)(hb:AH b)(hc:AH c)(w:World):Calls prog 109 #[.int .i64 12,.int .i64 a,.int .i64 b,.int .i64 c] w fun e w'=>e=.returned (.int .i64 (Kb 12 a b c))/\Below w.heap.size w w':=by
 go_enter func109,ntmps109;go_wp2_with(first|(go_at_call 120;refine(Oo _ ha.1 ha.2 _).mono ?_;rintro e w1 ⟨rfl,hb1⟩));go_ret;exact⟨rfl,hb1⟩
theorem rdo_13(a b c:Int)(ha:AH a)(hb:AH b)(hc:AH c)(w:World):Calls prog 109 #[.int .i64 13,.int .i64 a,.int .i64 b,.int .i64 c] w fun e w'=>e=.returned (.int .i64 (Kb 13 a b c))/\Below w.heap.size w w':=by
 go_enter func109,ntmps109;go_wp2_with(first|(go_at_call 121;refine(Wq _ ha.1 ha.2 _).mono ?_;rintro e w1 ⟨rfl,hb1⟩));go_ret;exact⟨rfl,hb1⟩
theorem rdo_14(a b c:Int)(ha:AH a)(hb:AH b)(hc:AH c)(w:World):Calls prog 109 #[.int .i64 14,.int .i64 a,.int .i64 b,.int .i64 c] w fun e w'=>e=.returned (.int .i64 (Kb 14 a b c))/\Below w.heap.size w w':=by
 go_enter func109,ntmps109;go_wp2_with(first|(go_at_call 123;refine(TN _ ha _).mono ?_;rintro e w1 ⟨rfl,hw1⟩;obtain rfl:=hw1.symm)|(go_at_call 122;refine(M4 _ _).mono ?_;rintro e w1 ⟨rfl,hw1⟩;obtain rfl:=hw1.symm));go_ret;exact⟨rfl,Lm _⟩
theorem rdo_4(a b c:Int)(ha:AH a)(hb:AH b)(hc:AH c)(w:World):Calls prog 109 #[.int .i64 4,.int .i64 a,.int .i64 b,.int .i64 c] w fun e w'=>e=.returned (.int .i64 (Kb 4 a b c))/\Below w.heap.size w w':=by
 go_enter func109,ntmps109;go_wp2_with(first|(go_at_call 95;refine(Ki _ ha.1 ha.2 _ hb.1 hb.2 _).mono ?_;rintro e w1 ⟨rfl,hb1⟩));go_ret;exact⟨rfl,hb1⟩
theorem rdo_5(a b c:Int)(ha:AH a)(hb:AH b)(hc:AH c)(w:World):Calls prog 109 #[.int .i64 5,.int .i64 a,.int .i64 b,.int .i64 c] w fun e w'=>e=.returned (.int .i64 (Kb 5 a b c))/\Below w.heap.size w w':=by
 go_enter func109,ntmps109;go_wp2_with(first|(go_at_call 124;refine(Xr _ ha.1 ha.2 _ hb.1 hb.2 _).mono ?_;rintro e w1 ⟨rfl,hb1⟩));go_ret;exact⟨rfl,hb1⟩
theorem rdo_6(a b c:Int)(ha:AH a)(hb:AH b)(hc:AH c)(w:World):Calls prog 109 #[.int .i64 6,.int .i64 a,.int .i64 b,.int .i64 c] w fun e w'=>e=.returned (.int .i64 (Kb 6 a b c))/\Below w.heap.size w w':=by
 go_enter func109,ntmps109;go_wp2_with(first|(go_at_call 93;refine(Kl _ ha.1 ha.2 _ hb.1 hb.2 _).mono ?_;rintro e w1 ⟨rfl,hb1⟩));go_ret;exact⟨rfl,hb1⟩
theorem rdo_7(a b c:Int)(ha:AH a)(hb:AH b)(hc:AH c)(w:World):Calls prog 109 #[.int .i64 7,.int .i64 a,.int .i64 b,.int .i64 c] w fun e w'=>e=.returned (.int .i64 (Kb 7 a b c))/\Below w.heap.size w w':=by
 go_enter func109,ntmps109;go_wp2_with(first|(go_at_call 125;refine(Wt _ ha.1 ha.2 _ hb.1 hb.2 _).mono ?_;rintro e w1 ⟨rfl,hb1⟩));go_ret;exact⟨rfl,hb1⟩
theorem rdo_8(a b c:Int)(ha:AH a)(hb:AH b)(hc:AH c)(w:World):Calls prog 109 #[.int .i64 8,.int .i64 a,.int .i64 b,.int .i64 c] w fun e w'=>e=.returned (.int .i64 (Kb 8 a b c))/\Below w.heap.size w w':=by
 go_enter func109,ntmps109;go_wp2_with(first|(go_at_call 96;refine(On _ ha.1 ha.2 _ hb.1 hb.2 _).mono ?_;rintro e w1 ⟨rfl,hb1⟩));go_ret;exact⟨rfl,hb1⟩
theorem rdo_9(a b c:Int)(ha:AH a)(hb:AH b)(hc:AH c)(w:World):Calls prog 109 #[.int .i64 9,.int .i64 a,.int .i64 b,.int .i64 c] w fun e w'=>e=.returned (.int .i64 (Kb 9 a b c))/\Below w.heap.size w w':=by
 go_enter func109,ntmps109;go_wp2_with(first|(go_at_call 126;refine(Wz _ ha.1 ha.2 _ hb.1 hb.2 _).mono ?_;rintro e w1 ⟨rfl,hb1⟩));go_ret;exact⟨rfl,hb1⟩
theorem rdo_10(a b c:Int)(ha:AH a)(hb:AH b)(hc:AH c)(w:World):Calls prog 109 #[.int .i64 10,.int .i64 a,.int .i64 b,.int .i64 c] w fun e w'=>e=.returned (.int .i64 (Kb 10 a b c))/\Below w.heap.size w w':=by
 go_enter func109,ntmps109;go_wp2_with(first|(go_at_call 127;refine(TR _ ha.1 ha.2 _ hb.1 hb.2 _).mono ?_;rintro e w1 ⟨rfl,hb1⟩)|(go_at_call 122;refine(M4 _ _).mono ?_;rintro e w2 ⟨rfl,hw2⟩;obtain rfl:=hw2.symm));go_ret;exact⟨rfl,hb1⟩
theorem rdo_15(a b c:Int)(ha:AH a)(hb:AH b)(hc:AH c)(w:World):Calls prog 109 #[.int .i64 15,.int .i64 a,.int .i64 b,.int .i64 c] w fun e w'=>e=.returned (.int .i64 (Kb 15 a b c))/\Below w.heap.size w w':=by
 go_enter func109,ntmps109;go_wp2_with(first|(go_at_call 128;refine(Ow _ ha.1 ha.2 _ hb.1 hb.2 _ hc.1 hc.2 _).mono ?_;rintro e w1 ⟨rfl,hb1⟩));go_ret;exact⟨rfl,hb1⟩
theorem ZQ(op:Int)(h:CC op≠0)(a b c:Int)(ha:AH a)(hb:AH b)(hc:AH c)(w:World):Calls prog 109 #[.int .i64 op,.int .i64 a,.int .i64 b,.int .i64 c] w fun e w'=>e=.returned (.int .i64 (Kb op a b c))/\Below w.heap.size w w':=by
 rcases J5 op h with rfl|rfl|rfl|rfl|rfl|rfl|rfl|rfl|rfl|rfl|rfl|rfl|rfl
 .exact rdo_3 a b c ha hb hc w
 .exact rdo_11 a b c ha hb hc w
 .exact rdo_12 a b c ha hb hc w
 .exact rdo_13 a b c ha hb hc w
 .exact rdo_14 a b c ha hb hc w
 .exact rdo_4 a b c ha hb hc w
 .exact rdo_5 a b c ha hb hc w
 .exact rdo_6 a b c ha hb hc w
 .exact rdo_7 a b c ha hb hc w
 .exact rdo_8 a b c ha hb hc w
 .exact rdo_9 a b c ha hb hc w
 .exact rdo_10 a b c ha hb hc w
 .exact rdo_15 a b c ha hb hc w
theorem ZP(p:Option Addr)(n c i:Nat)(X:Nat->Int)(hn:n<=1048576)(hi:i<=1048576)(h:n=1\/i<n)(w:World)(hp:Bb w p n (fun j=>.int .i64 (X j))):
 Calls prog 108 #[.slice p n c,.int .i64 i] w fun e w'=>e=.returned (.int .i64 (X (if n=1 then 0 else i)))/\w'=w:=by
 rcases hp with hp|⟨b,o,rfl,hp⟩
 .omega
 by_cases h1:n=1
 .subst h1;have c1:=hp 0 oM;rw[Nat.add_zero]at c1;rw[if_pos rfl];clear hp h;go_enter func108,ntmps108;go_wp2;go_ret;exact⟨rfl,rfl⟩
 .have c1:=hp i oM;have n1:¬ ((n:Int)=1):=oM;have i1:(0:Int)<=(i:Int):=oM;have i2:(i:Int)<(n:Int):=oM;rw[if_neg h1];clear hp h;go_enter func108,ntmps108;go_wp2;go_ret;exact⟨rfl,rfl⟩
def Yl(w:World)(l:Nat->Nat)(m:Nat)(nv iv:Value)(wr:World):Prop:=wr=w/\∃j R:Nat,j<=m/\iv=.int .i64 j/\nv=.int .i64 R/\R=rn l j
def Ym(w:World)(m:Nat)(iv:Value)(wr:World):Prop:=wr=w/\∃i:Nat,i<=m/\iv=.int .i64 i
theorem rel_el(F:Nat->Int)(j k:Nat):(if k=j then Value.int .i64 (F j)else .int .i64 (if k<j then F k else 0))=.int .i64 (if k<j+1 then F k else 0):=by
 by_cases h:k=j
 .subst h;rw[if_pos rfl,if_pos oM]
 .rw[if_neg h];by_cases h2:k<j
  .rw[if_pos h2,if_pos oM]
  .rw[if_neg h2,if_neg oM]
theorem row3(w:World)(t:TypeId):(w.alloc (.cells #[.int .i64 0,.int .i64 0,.int .i64 0] t)).rowIs w.heap.size t 3 (fun _=>.int .i64 0):=
 World.rowIs_alloc w #[.int .i64 0,.int .i64 0,.int .i64 0] t (fun _=>.int .i64 0) (by
  intro i hi;have:i=0\/i=1\/i=2:=by simp at hi;omega
  rcases this with rfl|rfl|rfl<;>rfl)
theorem TE(op:Int)(h0:CC op≠0)(b o m cq:Nat)(hm:CC op=m)(n:Nat)(P:Nat->Option Addr)(l c:Nat->Nat)(X:Nat->Nat->Int)(hX:∀i j,AH (X i j))(hl:∀i,l i<=1048576)(hs:Eo l (m-1)=some n)(w:World)(hL:P7 .i64 w (some ⟨b,o,none⟩) m P l c X):
 Calls prog 90 #[.int .i64 op,.slice (some ⟨b,o,none⟩) m cq] w fun e w'=>∃q cap,e=.returned (.tuple #[.slice q n cap,.int .i64 0])/\Bb w' q n (fun i=>.int .i64 (Kb op (Gz l X m i 0) (Gz l X m i 1) (Gz l X m i 2)))/\Below w.heap.size w w'/\∀b o s,q=some ⟨b,o,s⟩->w.heap.size<=b:=by
 obtain⟨i0,hi0,hz0,hz1,hz2⟩:=info_parts Vv;have hn:n<=1048576:=shp_le hl hs;have hm3:m<=3:=by rw[<-hm];exact Ky op
 have ht:¬ ((m:Int)=0):=oM;have hm1:1<=m:=oM;have HL:Hid (P7 .i64 w (some ⟨b,o,none⟩) m P l c X/\(∀i,l i<=1048576)/\Eo l (m-1)=some n/\(∀i j,AH (X i j))):=⟨hL,hl,hs,hX⟩
 have H0:Hid (CC op≠0/\CC op=m):=⟨h0,hm⟩
 have h00:=Gl hL 0 oM;rw[Nat.add_zero]at h00;have d0:((m:Int)==0)=false:=sO;clear hL hl hs hX h0 hm;go_enter func90,ntmps90;go_wp2_with(go_at_call 91;refine(Km op _).mono ?_;rintro e w1 ⟨rfl,hw1⟩;obtain rfl:=hw1.symm;rw[H0.2])
 go_loopw [7,8] (fun nv iv wr=>Yl w l m nv iv wr) (fun _ iv _=>m-(intOf iv).toNat)
 case atStart=>unfold Yl;exact⟨rfl,0,_,gI _,rfl,rfl,rfl⟩
 case round=>
  obtain⟨rfl,j,R,hj,rfl,rfl,hR⟩:=hrel;by_cases hlt:j<m
  .have h1:=Gl HL.1 j hlt;have i1:(0:Int)<=(j:Int):=oM;have i2:(j:Int)<(m:Int):=oM;obtain⟨L,hLL⟩:∃L,L=l j:=⟨_,rfl⟩
   have HRN:Hid (rn l (j+1)=if R=1\/L=0 then L else R):=by rw[hR];subst hLL;rfl
   rw[<-hLL]at h1;clear hR hLL;by_cases c1:R=1
   .have HR1:Hid (rn l (j+1)=L):=by rw[HRN.out,if_pos (.inl c1)];exact rfl
    subst c1;exact Zfu
   .have c2:¬ ((R:Int)=1):=oM;by_cases c3:L=0
    .have HR1:Hid (rn l (j+1)=L):=by rw[HRN.out,if_pos (.inr c3)];exact rfl
     subst c3;go_wp2;go_roundw
     case rel=>unfold Yl;exact⟨rfl,j+1,0,oM,gN,rfl,HR1.symm⟩
     case measure=>simp[intOf];omega
    .have HR1:Hid (rn l (j+1)=R):=by rw[HRN.out,if_neg oM];exact rfl
     have c4:¬ ((L:Int)=0):=oM;have d1:((R:Int)==1)=false:=by simp[c2]
     have d2:((L:Int)==0)=false:=sO;exact Zfu
  .have:j=m:=oM;subst this;have hrn:n=R:=by rw[hR];have:=rn_shp HL.2.2.1;rw[show j-1+1=j by omega]at this;exact this.symm
   subst hrn;clear hR;go_wp2
   go_loopw [9] (fun iv wr'=>Ym wr j iv wr') (fun iv _=>j-(intOf iv).toNat)
   case atStart=>unfold Ym;exact⟨rfl,0,gI _,rfl⟩
   case round=>
    obtain⟨rfl,i,hi,rfl⟩:=hrel;by_cases hlt:i<j
    .have h1:=Gl HL.1 i hlt;have i1:(0:Int)<=(i:Int):=oM;have i2:(i:Int)<(j:Int):=oM;have hg:=OI HL.2.2.1 i oM;obtain⟨L,hLL⟩:∃L,L=l i:=⟨_,rfl⟩
     rw[<-hLL]at h1 hg;clear hLL;by_cases c1:L=n
     .subst c1;clear hg;go_wp2;go_roundw
      case rel=>unfold Ym;exact⟨rfl,i+1,oM,gN⟩
      case measure=>simp[intOf];omega
     .have c2:L=1:=oM;have c3:¬ ((n:Int)=0):=oM;have c4:¬ ((1:Int)=(n:Int)):=oM;have d1:((n:Int)==0)=false:=sO;have d2:((1:Int) != (n:Int))=true:=by simp[c4]
      subst c2;clear hg;go_wp2;go_roundw
      case rel=>unfold Ym;exact⟨rfl,i+1,oM,gN⟩
      case measure=>simp[intOf];omega
    .have:i=j:=oM;subst this;obtain⟨G,HG⟩:∃G:Nat->Int,Hid (G=fun t=>Kb op (Gz l X i t 0) (Gz l X i t 1) (Gz l X i t 2)):=⟨_,rfl⟩
     clear h00;rename World=>W0;go_wp2
     go_loopw [10,11] (fun ov iv wr=>Below W0.heap.size W0 wr/\∃ (k:Nat) (v:Value),v=ov/\k<=n/\iv=.int .i64 k/\Hid (wr.ownsRow W0.heap.size 3 1 v k (IK (fun t=>.int .i64 (G t)) k))) (fun _ iv _=>n-(intOf iv).toNat)
     case atStart=>exact⟨Lm _,0,_,rfl,gI _,rfl,World.ownsRow_nil _ _ _ _⟩
     case round=>
      obtain⟨hb,k,ov,rfl,hk,rfl,hown⟩:=hrel;by_cases hlt:k<n
      .rename World=>W3;have i1:(k:Int)<(n:Int):=oM;obtain⟨E,HE⟩:∃E:Nat->Int,Hid (E=Gz l X i k):=⟨_,rfl⟩
       have HGk:Hid (Kb op (E 0) (E 1) (E 2)=G k/\AH (E 0)/\AH (E 1)/\AH (E 2)):=by
        have e1:=HE.out;have e2:=HG.out;have hXX:=HL.2.2.2;subst e1;subst e2;exact⟨rfl,Cp hXX _ _ _,Cp hXX _ _ _,Cp hXX _ _ _⟩
       have HT:Hid ((W3.alloc (.cells #[.int .i64 0,.int .i64 0,.int .i64 0] 171)).rowIs W3.heap.size 171 3 (fun _=>.int .i64 0)):=row3 W3 _;go_wp2
       go_loopw [13] (fun iv wr=>Below W3.heap.size W3 wr/\∃j:Nat,j<=i/\iv=.int .i64 j/\Hid (wr.rowIs W3.heap.size 171 3 (fun t=>.int .i64 (if t<j then E t else 0)))) (fun iv _=>i-(intOf iv).toNat)
       case atStart=>exact⟨PX W3 _,0,gI _,rfl,HT.congr fun t ht=>by simp⟩
       case round=>
        obtain⟨hb4,j,hj,rfl,hrow⟩:=hrel;clear HT;by_cases hlt4:j<i
        .have hL4:=HL.1.below (Jx hb hb4);have h1:=Gl hL4 j hlt4;have HPJ:Hid (Bb wr (P j) (l j) (fun t=>.int .i64 (X j t))/\(l j=1\/k<l j)/\X j (if l j=1 then 0 else k)=E j/\l j<=1048576):=⟨hL4.parts j hlt4,Ug HL.2.2.1 oM hlt,by rw[HE.out];unfold Gz;rw[if_pos hlt4],HL.2.1 j⟩
         have c1:=hrow.cell (i:=j) oM;have f1:=hrow.frozen j;have i2:(0:Int)<=(j:Int):=oM;have i3:(j:Int)<(i:Int):=oM;have i4:(j:Int)<3:=oM;have j3:j<3:=oM;have HR:Hid (∀x,(wr.setCell ⟨W3.heap.size,j,none⟩ x).rowIs W3.heap.size 171 3 (fun t=>if t=j then x else .int .i64 (if t<j then E t else 0))):=fun x=>hrow.set j x;clear hL4;go_wp2_with(go_at_call 108;refine(ZP _ _ _ k (X j) HPJ.2.2.2 oM HPJ.2.1 wr HPJ.1).mono ?_;rintro e w5 ⟨rfl,hw5⟩;obtain rfl:=hw5.symm;rw[HPJ.2.2.1]);go_roundw
         case rel=>exact⟨hb4.setCell (gF _) _,j+1,oM,gN,(HR.out _).congr fun t ht=>rel_el E j t⟩
         case measure=>simp[intOf];omega
        .have:j=i:=oM;subst this;have e0:∀t,t<3->(if t<j then E t else 0)=E t:=by
          intro t ht;by_cases q:t<j
          .rw[if_pos q]
          .rw[if_neg q,HE.out];unfold Gz;rw[if_neg q]
         have r1:=hrow.congr (g:=fun t=>.int .i64 (E t)) (fun t ht=>by rw[e0 t ht]);have c0:=r1.cell (i:=0) oM;have c1:=r1.cell (i:=1) oM;have c2:=r1.cell (i:=2) oM;clear r1 e0 hrow;go_wp2_with(first
          |(go_at_call 109;refine(ZQ op H0.1 (E 0) (E 1) (E 2) HGk.2.1 HGk.2.2.1 HGk.2.2.2 wr).mono ?_;rintro e w6 ⟨rfl,hb6⟩;rw[HGk.1];have hown6:Hid (w6.ownsRow W0.heap.size 3 1 ov k (IK (fun t=>.int .i64 (G t)) k)):=Qc hown.out (Jx hb4 hb6);have hob:Hid (∀j,ov.ownBlock=some j->W0.heap.size<=j/\j<W3.heap.size):=hown.lt;have HB6:Below W0.heap.size W0 w6:=Jx (Jx hb hb4) hb6;have sz:=HB6.size)
          |(at_builtin;refine wpList_append_own _ rfl _ _ 72 rfl W0.heap.size 3 i0 _ 1 8 underlying72 hi0 hz0 hz1 hz2 rfl dE ov k (IK (fun t=>.int .i64 (G t)) k) rfl (hown6.alloc _) ⟨w6.heap.size,0,none⟩ 1 1 [.int .i64 (G k)] rfl rfl (World.news_of_block (cs:=#[.int .i64 (G k)]) (t:=3) (fr:=(0,0)) (heap_alloc_new w6 _)) Sx mL oM sO ?_;intro v' w7 hown7 hgrow hnil;have HB7:Below W0.heap.size W0 w7:=Below.grown (HB6.alloc sz _) hgrow sO (fun j e=>(hob.out j e).1);have HO:Hid (w7.ownsRow W0.heap.size 3 1 v' (k+1) (IK (fun t=>.int .i64 (G t)) k++[.int .i64 (G k)])):=hown7;clear hown7 hgrow hnil))
         go_roundw
         case rel=>exact⟨HB7,k+1,_,rfl,oM,gN,by rw[Mk];exact HO⟩
         case measure=>simp[intOf];omega
      .have:k=n:=oM;subst this;obtain⟨q,cap,rfl,hR,hg,-⟩:=LO hown.out;have HR:Hid (Bb wr q k (fun t=>.int .i64 (G t))):=hR;have HLO:Hid (∀b o s,q=some ⟨b,o,s⟩->W0.heap.size<=b):=hg;clear hR hg hown;go_wp2;go_returns;have e2:=HG.out;subst e2;first|exact⟨_,_,rfl,HR.out,hb,HLO.out⟩|exact⟨_,⟨_,rfl⟩,HR.out,hb,HLO.out⟩
structure Rk where
 by_:Ad
 of_:Ty
 deriving DecidableEq
structure RW where
 ins:Nat->Nat
 hold:Rk->Option Nat
 reck:List Rk
 opn:List Nat
 left:List Ad
def Af(i:Ad):Bool:=decide ((A4 i.op).d≠0)
theorem Na{i:Ad}(h:Af i=true):i.op≠34/\i.op≠35/\i.op≠36/\i.op≠37:=by
 unfold Af at h;simp only[decide_eq_true_eq]at h;refine⟨?_,?_,?_,?_⟩<;>(intro e;rw[e]at h;exact h dE)
theorem Uf{s:Wk}{i:Ad}(h:Af i=true):Bv s i=s:=by
 obtain⟨h1,h2,h3,h4⟩:=Na h;unfold Bv;rw[if_neg oM,if_neg oM]
theorem GV{c:Cd}{x:Wk}{i:Ad}(t:AG c x i=true)(hs:Af i=true):0<=i.d/\i.d<(c.regs.length:Int):=by
 obtain⟨_,t2,_,_⟩:=Ao t;unfold Af at hs;exact Ag (Cw t2) (by simpa using hs)
theorem Mg{x:Wk}{i:Ad}(hs:Af i=true):Aj x i=Cf x i (A4 i.op):=by
 unfold Aj Dd;rw[Uf hs]
theorem Il{s:Wk}{i:Ad}(h:Af i=false):Cf s i (A4 i.op)=s:=by
 unfold Cf;rw[if_neg];unfold Af at h;simp only[decide_eq_false_iff_not,Decidable.not_not]at h;exact fun e=>e.1 h
theorem Us{s:Wk}{i:Ad}(e:i.op=34):Bv s i=⟨s.set,⟨false,i.n,s.set.length⟩::s.opens⟩:=by
 unfold Bv;rw[if_pos (.inl e)];have b:(i.op==36)=false:=by rw[e];decide
 rw[b]
theorem Ur{s:Wk}{i:Ad}(e:i.op=36):Bv s i=⟨s.set,⟨true,i.n,s.set.length⟩::s.opens⟩:=by
 unfold Bv;rw[if_pos (.inr e)];have b:(i.op==36)=true:=by rw[e];decide
 rw[b]
theorem QG{s:Wk}{i:Ad}(e:i.op=35\/i.op=37):Bv s i=AQ s:=by
 unfold Bv;rw[if_neg oM,if_pos e]
def XS(s:List Nat×Nat)(i:Ad):List Nat×Nat:=(if i.op=34\/i.op=36 then s.2::s.1 else if i.op=35\/i.op=37 then s.1.tail else s.1,s.2+1)
def Ul(l:List Ad):List Nat×Nat:=l.foldl XS ([],0)
def AE(l:List Ad):List Nat:=(Ul l).1
theorem Um(l:List Ad)(i:Ad):Ul (l++[i])=XS (Ul l) i:=by unfold Ul;rw[List.foldl_append];rfl
theorem XR:∀ (l:List Ad),(Ul l).2=l.length:=by
 have Bl:∀ (m:List Ad) (s:List Nat×Nat),(m.foldl XS s).2=s.2+m.length:=by
  intro m;induction m with
  |nil=>intro s;rfl
  |cons i m ih=>intro s;rw[List.foldl_cons,ih];unfold XS;simp;omega
 intro l;unfold Ul;rw[Bl];simp
theorem IE(l:List Ad)(i:Ad):AE (l++[i])=if i.op=34\/i.op=36 then l.length::AE l else if i.op=35\/i.op=37 then(AE l).tail else AE l:=by
 unfold AE;rw[Um];unfold XS;simp only;rw[XR]
def Bc(K:Nat->Bool)(f:Ad->Ad)(l:List Ad):Nat->List Ad
 |0=>[]
 |j+1=>Bc K f l j++(match l[j]? with |some i=>if K j then [f i]else [] |none=>[])
theorem DI{K:Nat->Bool}{f:Ad->Ad}{l:List Ad}{j:Nat}(h:j<l.length)(hK:K j=true):Bc K f l (j+1)=Bc K f l j++[f l[j]]:=by
 show Bc K f l j++_=_;rw[gB h];simp[hK]
theorem Gs{K:Nat->Bool}{f:Ad->Ad}{l:List Ad}{j:Nat}(hK:K j=false):Bc K f l (j+1)=Bc K f l j:=by
 show Bc K f l j++_=_;cases l[j]? <;>simp[hK]
theorem G7(K:Nat->Bool)(f:Ad->Ad)(l:List Ad):∀j,(Bc K f l j).length<=j
 |0=>gF _
 |j+1=>by
  have h:=G7 K f l j;show(Bc K f l j++_).length<=_;rw[List.length_append];have h2:(match l[j]? with |some i=>if K j then [f i]else [] |none=>([]:List Ad)).length<=1:=by
   split
   .split<;>simp
   .simp
  omega
inductive J7(U K:Nat->Bool):List Nat->List Nat->List Bk->List Bk->Prop where
 |nil {X:List Nat}:J7 U K X [] [] []
 |skipL {X S:List Nat} {o o':List Bk} {b a:Nat} {p:Int} (hK:K b=false) (ha:a<=X.length) (hu:∀r∈X.drop a,U r=false) (h:J7 U K X S o o'):J7 U K X (b::S) (⟨true,p,a⟩::o) o'
 |skipW {X S:List Nat} {o o':List Bk} {b a:Nat} {p:Int} (hK:K b=false) (ha:a<=X.length) (hu:∀r∈X.drop a,U r=false) (h:J7 U K (X.take a) S o o'):J7 U K X (b::S) (⟨false,p,a⟩::o) o'
 |keepL {X S:List Nat} {o o':List Bk} {b a a':Nat} {p:Int} (hK:K b=true) (h:J7 U K X S o o'):J7 U K X (b::S) (⟨true,p,a⟩::o) (⟨true,p,a'⟩::o')
 |keepW {X S:List Nat} {o o':List Bk} {b a a':Nat} {p:Int} (hK:K b=true) (ha:a<=X.length) (e:a'=((X.take a).filter U).length) (h:J7 U K (X.take a) S o o'):J7 U K X (b::S) (⟨false,p,a⟩::o) (⟨false,p,a'⟩::o')
theorem J7.growK{U K:Nat->Bool}{X S:List Nat}{o o':List Bk}(h:J7 U K X S o o'):(∀b∈S,K b=true)->∀Y,J7 U K (X++Y) S o o':=by
 induction h with
 |nil=>exact fun _ _=>.nil
 |skipL hK _ _ _ _=>exact fun hS=>absurd ((hS _ List.mem_cons_self).symm.trans hK) sM
 |skipW hK _ _ _ _=>exact fun hS=>absurd ((hS _ List.mem_cons_self).symm.trans hK) sM
 |keepL hK h ih=>exact fun hS Y=>.keepL hK (ih (fun b hb=>hS b Zho) Y)
 |keepW hK ha e h ih=>
  intro hS Y;exact Zfp
theorem J7.growN{U K:Nat->Bool}{X S:List Nat}{o o':List Bk}(h:J7 U K X S o o'):∀Y,(∀r∈Y,U r=false)->J7 U K (X++Y) S o o':=by
 induction h with
 |nil=>exact fun _ _=>.nil
 |skipL hK ha hu h ih=>
  intro Y hY;refine .skipL hK sO (fun r hr=>?_) (ih Y hY);rw[List.drop_append_of_le_length ha]at hr;rcases List.mem_append.1 hr with e|e
  .exact hu r e
  .exact hY r e
 |skipW hK ha hu h ih=>
  intro Y hY;refine .skipW hK sO (fun r hr=>?_) ?_
  .rw[List.drop_append_of_le_length ha]at hr;rcases List.mem_append.1 hr with e|e
   .exact hu r e
   .exact hY r e
  .rw[List.take_append_of_le_length ha];exact h
 |keepL hK h ih=>exact fun Y hY=>.keepL hK (ih Y hY)
 |keepW hK ha e h ih=>
  intro Y hY;exact Zfp
theorem J7.shape{U K:Nat->Bool}{X S:List Nat}{o o':List Bk}(h:J7 U K X S o o'):(∀b∈S,K b=true)->o.length=o'.length/\∀V V',AD ⟨V,o⟩=AD ⟨V',o'⟩/\Co ⟨V,o⟩=Co ⟨V',o'⟩:=by
 induction h with
 |nil=>exact fun _=>⟨rfl,fun _ _=>⟨rfl,rfl⟩⟩
 |skipL hK _ _ _ _=>exact fun hS=>absurd ((hS _ List.mem_cons_self).symm.trans hK) sM
 |skipW hK _ _ _ _=>exact fun hS=>absurd ((hS _ List.mem_cons_self).symm.trans hK) sM
 |keepL hK h ih=>exact fun hS=>⟨by simp[(ih (fun b hb=>hS b Zho)).1],fun _ _=>⟨rfl,rfl⟩⟩
 |keepW hK ha e h ih=>exact fun hS=>⟨by simp[(ih (fun b hb=>hS b Zho)).1],fun _ _=>⟨rfl,rfl⟩⟩
theorem J7.len{U K:Nat->Bool}{X S:List Nat}{o o':List Bk}(h:J7 U K X S o o'):S.length=o.length:=by
 induction h with
 |nil=>rfl
 |skipL _ _ _ _ ih=>simp[ih]
 |skipW _ _ _ _ ih=>simp[ih]
 |keepL _ _ ih=>simp[ih]
 |keepW _ _ _ _ ih=>simp[ih]
structure Yk(c c':Cd)(K U:Nat->Bool)(f:Ad->Ad)(rho:Nat->Nat):Prop where
 hU:∀k (hk:k<c.list.length),Af c.list[k]=true->U c.list[k].d.toNat=K k
 reads:∀k (hk:k<c.list.length),K k=true->∀r∈Ae c.list[k] (A4 c.list[k].op),(∃j,∃hj:j<c.list.length,Af c.list[j]=true/\c.list[j].d.toNat=r.toNat)->U r.toNat=true
 around:∀k (hk:k<c.list.length),K k=true->∀b∈(if c.list[k].op=35\/c.list[k].op=37 then(AE (c.list.take k)).tail else AE (c.list.take k)),K b=true
 pair:∀k (hk:k<c.list.length),(c.list[k].op=35\/c.list[k].op=37)->∀b,(AE (c.list.take k)).head?=some b->K b=K k
 inj:∀r s,U r=true->U s=true->rho r=rho s->r=s
 op:∀i,(f i).op=i.op
 n:∀i,(i.op=34\/i.op=35\/i.op=36\/i.op=37)->(f i).n=i.n
 fits:∀k (hk:k<c.list.length),K k=true->AS c c.list[k] (A4 c.list[k].op)=true->AS c' (f c.list[k]) (A4 c.list[k].op)=true
 main:∀k (hk:k<c.list.length),K k=true->c.list[k].op<35->AS c c.list[k] (A4 c.list[k].op)=true->AC c'.regs (f c.list[k]) (A4 c.list[k].op)=AC c.regs c.list[k] (A4 c.list[k].op)
 rd:∀i,Ae (f i) (A4 i.op)=(Ae i (A4 i.op)).map fun r=>((rho r.toNat:Nat):Int)
 d:∀i,Af i=true->(f i).d.toNat=rho i.d.toNat
structure PrI(c:Cd)(K U:Nat->Bool)(rho:Nat->Nat)(j:Nat)(x x':Wk):Prop where
 set:x'.set=(x.set.filter U).map rho
 was:∀r∈x.set,∃k,∃hk:k<c.list.length,Af c.list[k]=true/\c.list[k].d.toNat=r
 opens:J7 U K x.set (AE (c.list.take j)) x.opens x'.opens
section
variable {c c' : Cd} {K U : Nat -> Bool} {f : Ad -> Ad} {rho : Nat -> Nat}
theorem Ck(h:AR c ⟨[],[]⟩ c.list=true){j:Nat}(hj:j<c.list.length):AG c (CY ⟨[],[]⟩ (c.list.take j)) c.list[j]=true:=by
 have e:c.list=c.list.take j++c.list[j]::c.list.drop (j+1):=by rw[<-List.drop_eq_getElem_cons hj,List.take_append_drop]
 rw[e,Dw]at h;simp only[Bool.and_eq_true]at h;have h2:=h.2;unfold AR at h2;simp only[Bool.and_eq_true]at h2;exact h2.1
theorem R3{U K:Nat->Bool}{X S:List Nat}{o o':List Bk}(h:J7 U K X S o o'){t:Bool}(ho:o.isEmpty=false):∃b S1 q o1,S=b::S1/\o=q::o1/\((K b=false/\(∀r∈X.drop q.ahead,U r=false)/\q.ahead<=X.length/\J7 U K (if q.loop then X else X.take q.ahead) S1 o1 o')\/(K b=true/\∃q' o1',o'=q'::o1'/\q'.loop=q.loop/\(q.loop=false->q.ahead<=X.length/\q'.ahead=((X.take q.ahead).filter U).length)/\J7 U K (if q.loop then X else X.take q.ahead) S1 o1 o1')):=by
 cases h with
 |nil=>simp at ho
 |skipL hK ha hu h=>exact⟨_,_,_,_,rfl,rfl,.inl ⟨hK,hu,ha,h⟩⟩
 |skipW hK ha hu h=>exact⟨_,_,_,_,rfl,rfl,.inl ⟨hK,hu,ha,h⟩⟩
 |keepL hK h=>exact⟨_,_,_,_,rfl,rfl,.inr ⟨hK,_,_,rfl,rfl,fun e=>(by cases e),h⟩⟩
 |keepW hK ha e h=>exact⟨_,_,_,_,rfl,rfl,.inr ⟨hK,_,_,rfl,rfl,fun _=>⟨ha,e⟩,h⟩⟩
theorem IT{U:Nat->Bool}{Y:List Nat}(h:∀r∈Y,U r=false):Y.filter U=[]:=by
 rw[List.filter_eq_nil_iff];intro r hr;rw[h r hr];simp
theorem NF{U:Nat->Bool}{X:List Nat}{a:Nat}(h:∀r∈X.drop a,U r=false):(X.take a).filter U=X.filter U:=by
 conv=>rhs;rw[<-List.take_append_drop a X,List.filter_append,IT h,List.append_nil]
theorem Wl(hp:Yk c c' K U f rho){j:Nat}(hj:j<c.list.length){x x':Wk}(h:PrI c K U rho j x x')(t:AG c x c.list[j]=true):
 (K j=true->AG c' x' (f c.list[j])=true/\PrI c K U rho (j+1) (Aj x c.list[j]) (Aj x' (f c.list[j])))/\(K j=false->PrI c K U rho (j+1) (Aj x c.list[j]) x'):=by
 obtain⟨t1,t2,t3,t4⟩:=Ao t;have hst:AE (c.list.take (j+1))=if c.list[j].op=34\/c.list[j].op=36 then j::AE (c.list.take j)else if c.list[j].op=35\/c.list[j].op=37 then(AE (c.list.take j)).tail else AE (c.list.take j):=by
  exact Zfw
 have har:=hp.around j hj;have hpa:=hp.pair j hj;have hu:=hp.hU j hj;have hrd:=hp.reads j hj;have hf:=fun hk=>hp.fits j hj hk t2;have hm:=fun hk ho=>hp.main j hj hk ho t2;have hop:=hp.op c.list[j];have hfn:=hp.n c.list[j];have hrr:=hp.rd c.list[j];have hdd:=hp.d c.list[j];have hwas:∀ (y:Wk),(∀r∈y.set,∃k,∃hk:k<c.list.length,Af c.list[k]=true/\c.list[k].d.toNat=r)->∀r∈(Cf y c.list[j] (A4 c.list[j].op)).set,∃k,∃hk:k<c.list.length,Af c.list[k]=true/\c.list[k].d.toNat=r:=fun y hy r hr=>by
  unfold Cf at hr;split at hr
  .rename_i q;rcases List.mem_append.1 hr with e|e
   .exact hy r e
   .simp only[List.mem_singleton]at e;exact⟨j,hj,by unfold Af;simpa using q.1,e.symm⟩
  .exact hy r hr
 generalize hi:c.list[j]=i at t1 t2 t3 t4 hst har hpa hu hrd hf hm hop hfn hrr hdd hwas;obtain⟨X,O⟩:=x;obtain⟨X',O'⟩:=x';have hX:=h.set;have hO:=h.opens;have hW:=h.was;simp only at hX hO hW;have hS1:Af (f i)=Af i:=by unfold Af;rw[hop]
 have stand:K j=true->AG c' ⟨X',O'⟩ (f i)=true:=fun hk=>by
  have hS:∀b∈(if i.op=35\/i.op=37 then(AE (c.list.take j)).tail else AE (c.list.take j)),K b=true:=har hk;have hall:∀b∈AE (c.list.take j),K b=true:=by
   by_cases hfin:i.op=35\/i.op=37
   .rw[if_pos hfin]at hS;intro b hb;cases hs:AE (c.list.take j)with
    |nil=>rw[hs]at hb;cases hb
    |cons b0 S0=>
     rw[hs]at hb hS;rcases List.mem_cons.1 hb with e|e
     .rw[e];have:=hpa hfin b0 (by rw[hs];rfl);rw[this];exact hk
     .exact hS b e
   .rw[if_neg hfin]at hS;exact hS
  obtain⟨s1,s2⟩:=hO.shape hall;obtain⟨s3,s4⟩:=s2 X X';unfold AG;rw[hop];simp only[Bool.and_eq_true];refine⟨t1,hf hk,?_,?_⟩
  .unfold Az at t3 |-;have e:O.isEmpty=O'.isEmpty:=by
    cases O with
    |nil=>cases O' with |nil=>rfl|cons _ _=>simp at s1
    |cons _ _=>cases O' with |nil=>simp at s1|cons _ _=>rfl
   rw[hop,<-s3];simp only at s1 |-;rw[<-s1,<-e];by_cases ho:i.op<35
   .rw[hm hk ho,<-s4];exact t3
   .unfold Al at t1;simp only[Bool.and_eq_true,decide_eq_true_eq]at t1;rcases(show i.op=35\/i.op=36\/i.op=37 by omega)with q|q|q
    .rw[if_neg oM,if_pos q]at t3 |-;exact t3
    .rw[if_pos (.inr q)]at t3 |-;exact t3
    .rw[if_neg oM,if_neg oM,if_pos q]at t3 |-;exact t3
  .unfold EQ at t4 |-;rw[hrr,List.all_eq_true];intro y hy;obtain⟨r,hr,rfl⟩:=List.mem_map.1 hy;rw[List.all_eq_true]at t4;have h4:r.toNat∈X:=by simpa using t4 r hr
   have hur:=hrd hk r hr (hW _ h4);simp only[Int.toNat_natCast,decide_eq_true_eq];rw[hX];exact List.mem_map.2 ⟨r.toNat,List.mem_filter.2 ⟨h4,hur⟩,rfl⟩
 by_cases hs:Af i=true
 ·--a setting
  obtain⟨o4,o5,o6,o7⟩:=Na hs;have e1:Aj ⟨X,O⟩ i=Cf ⟨X,O⟩ i (A4 i.op):=Mg hs;have e2:Aj ⟨X',O'⟩ (f i)=Cf ⟨X',O'⟩ (f i) (A4 i.op):=by rw[Mg (by rw[hS1];exact hs),hop]
  have hdr:(A4 i.op).d≠0:=by unfold Af at hs;simpa using hs
  have hst':AE (c.list.take (j+1))=AE (c.list.take j):=by rw[hst,if_neg oM,if_neg oM]
  have hu':=hu hs;refine⟨fun hk=>⟨stand hk,?_⟩,fun hk=>?_⟩
  .rw[e1,e2];have hall:∀b∈AE (c.list.take j),K b=true:=by have:=har hk;rw[if_neg oM]at this;exact this
   have hud:U i.d.toNat=true:=by rw[hu',hk]
   have hmem:(f i).d.toNat∈X'↔i.d.toNat∈X:=by
    rw[hX,hdd hs];constructor
    .intro q;obtain⟨r,hr,e⟩:=List.mem_map.1 q;obtain⟨hr1,hr2⟩:=List.mem_filter.1 hr;rw[<-hp.inj r i.d.toNat hr2 hud e];exact hr1
    .exact fun q=>List.mem_map.2 ⟨_,List.mem_filter.2 ⟨q,hud⟩,rfl⟩
   refine⟨?_,hwas _ hW,?_⟩
   .unfold Cf;by_cases q:i.d.toNat∈X
    .rw[if_neg (fun w=>w.2 (hmem.2 q)),if_neg (fun w=>w.2 q)];exact hX
    .rw[if_pos ⟨hdr,fun w=>q (hmem.1 w)⟩,if_pos ⟨hdr,q⟩];simp only;rw[List.filter_append,List.map_append,<-hX,hdd hs];simp[hud]
   .rw[hst'];unfold Cf;by_cases q:i.d.toNat∈X
    .rw[if_neg (fun w=>w.2 q),if_neg (fun w=>w.2 (hmem.2 q))];exact hO
    .rw[if_pos ⟨hdr,q⟩,if_pos ⟨hdr,fun w=>q (hmem.1 w)⟩];exact hO.growK hall _
  .rw[e1];have hud:U i.d.toNat=false:=by rw[hu',hk]
   refine⟨?_,hwas _ hW,?_⟩
   .unfold Cf;split
    .simp only;rw[List.filter_append,IT (Y:=[i.d.toNat]) (fun r hr=>by simp only[List.mem_singleton]at hr;rw[hr];exact hud),List.append_nil];exact hX
    .exact hX
   .rw[hst'];unfold Cf;split
    .exact hO.growN _ (fun r hr=>by simp only[List.mem_singleton]at hr;rw[hr];exact hud)
    .exact hO
 .have hns:Af i=false:=by simpa using hs
  have e1:Aj ⟨X,O⟩ i=Bv ⟨X,O⟩ i:=by unfold Aj Dd;exact Il hns
  have e2:Aj ⟨X',O'⟩ (f i)=Bv ⟨X',O'⟩ (f i):=by unfold Aj Dd;exact Il (by rw[hS1];exact hns)
  rw[e1,e2];unfold Bv;rw[hop];by_cases hb:i.op=34\/i.op=36
  .rw[if_pos hb,if_pos hb];rw[if_pos hb]at hst;have hfn':=hfn oM;refine⟨fun hk=>⟨stand hk,?_⟩,fun hk=>?_⟩
   .refine⟨hX,hW,?_⟩;rw[hst,hfn'];rcases hb with e|e
    .rw[show(i.op==36)=false by rw[e];rfl];refine .keepW hk (gF _) ?_ ?_
     .rw[List.take_length,hX,List.length_map]
     .rw[List.take_length];exact hO
    .rw[show(i.op==36)=true by rw[e];rfl];exact .keepL hk hO
   .refine⟨hX,hW,?_⟩;rw[hst];rcases hb with e|e
    .rw[show(i.op==36)=false by rw[e];rfl];refine .skipW hk (gF _) (fun r hr=>by simp at hr) ?_;rw[List.take_length];exact hO
    .rw[show(i.op==36)=true by rw[e];rfl];exact .skipL hk (gF _) (fun r hr=>by simp at hr) hO
  .rw[if_neg hb,if_neg hb];rw[if_neg hb]at hst;by_cases hfin:i.op=35\/i.op=37
   .rw[if_pos hfin,if_pos hfin];rw[if_pos hfin]at hst;have hne:O.isEmpty=false:=by
     unfold Az at t3;rw[if_neg hb]at t3;rcases hfin with e|e
     .exact Zeu
     .exact Zed
    obtain⟨b,S1,q,o1,eS,eO,hc⟩:=R3 hO (t:=true) hne;have hkb:=hpa hfin b (by rw[eS];rfl);rw[eS]at hst;simp only[List.tail_cons]at hst;subst eO;refine⟨fun hk=>⟨stand hk,?_⟩,fun hk=>?_⟩
    .rcases hc with⟨k1,_⟩|⟨k1,q',o1',e',el,ea,k2⟩
     .rw[k1]at hkb;rw[hk]at hkb;cases hkb
     .subst e';unfold AQ;simp only;rw[el];by_cases hl:q.loop=true
      .rw[hl]at k2 |-;simp only[if_true]at k2 |-;exact⟨hX,hW,by rw[hst];exact k2⟩
      .have hl':q.loop=false:=by simpa using hl
       rw[hl']at k2 |-;obtain⟨a1,a2⟩:=ea hl';refine⟨?_,fun r hr=>hW r (List.mem_of_mem_take hr),by rw[hst];exact k2⟩;show X'.take q'.ahead=((X.take q.ahead).filter U).map rho;rw[hX,a2]
       conv=>lhs;rw[<-List.take_append_drop q.ahead X,List.filter_append,List.map_append]
       rw[List.take_append_of_le_length sM,List.take_of_length_le sM]
    .rcases hc with⟨k1,ku,ka,k2⟩|⟨k1,_⟩
     .unfold AQ;simp only;by_cases hl:q.loop=true
      .rw[hl]at k2 |-;simp only[if_true]at k2 |-;exact⟨hX,hW,by rw[hst];exact k2⟩
      .have hl':q.loop=false:=by simpa using hl
       rw[hl']at k2 |-;refine⟨?_,fun r hr=>hW r (List.mem_of_mem_take hr),by rw[hst];exact k2⟩;show X'=((X.take q.ahead).filter U).map rho;rw[NF ku];exact hX
     .rw[k1]at hkb;rw[hk]at hkb;cases hkb
   .rw[if_neg hfin,if_neg hfin];rw[if_neg hfin]at hst;exact⟨fun hk=>⟨stand hk,hX,hW,by rw[hst];exact hO⟩,fun hk=>⟨hX,hW,by rw[hst];exact hO⟩⟩
theorem Kg(hp:Yk c c' K U f rho)(h:AR c ⟨[],[]⟩ c.list=true):∀j,j<=c.list.length->AR c' ⟨[],[]⟩ (Bc K f c.list j)=true/\PrI c K U rho j (CY ⟨[],[]⟩ (c.list.take j)) (CY ⟨[],[]⟩ (Bc K f c.list j)):=by
 intro j;induction j with
 |zero=>intro _;exact⟨rfl,rfl,fun r hr=>(by cases hr),.nil⟩
 |succ j ih=>
  intro hj;obtain⟨i1,i2⟩:=ih oM;have hjl:j<c.list.length:=oM;have t:=Ck h hjl;obtain⟨s1,s2⟩:=Wl hp hjl i2 t;have er:CY ⟨[],[]⟩ (c.list.take (j+1))=Aj (CY ⟨[],[]⟩ (c.list.take j)) c.list[j]:=by rw[List.take_succ_eq_append_getElem hjl,EH];rfl
  rw[er];cases hk:K j with
  |true=>
   obtain⟨s3,s4⟩:=s1 hk;rw[DI hjl hk,Dw,EH,i1];refine⟨?_,s4⟩;show(true&&AR c' _ [f c.list[j]])=true;unfold AR;rw[s3];rfl
  |false=>
   rw[Gs hk];exact⟨i1,s2 hk⟩
end
section
open Go.Maps (Keyed)
def rkC(q:Rk):List Value:=[.int .i64 q.by_.op,.int .i64 q.by_.d,.int .i64 q.by_.a,.int .i64 q.by_.b,.int .i64 q.by_.c,.int .i64 q.by_.n,.int .u32 q.by_.bits,.int .i64 q.of_.kind,.int .i64 q.of_.par]
end
def KJ(l:List Ad):List Nat:=(l.filter Af).map fun i=>i.d.toNat
def Bd(l:List Ad):Prop:=(KJ l).Nodup
theorem Cn(l m:List Ad):KJ (l++m)=KJ l++KJ m:=by unfold KJ;simp
theorem Sj:∀ (l:List Ad) (s:Wk),∀r∈(CY s l).set,r∈s.set\/∃j∈l,Af j=true/\j.d.toNat=r
 |[],s,r,hr=>.inl hr
 |i::l,s,r,hr=>by
  have hr':r∈(CY (Aj s i) l).set:=hr;rcases Sj l (Aj s i) r hr' with h|⟨j,hj,h⟩
  .have h2:r∈s.set\/(Af i=true/\i.d.toNat=r):=by
    unfold Aj Dd at h;have h3:r∈(Bv s i).set\/(Af i=true/\i.d.toNat=r):=by
     unfold Cf at h;split at h
     .rename_i q;rcases List.mem_append.1 h with h|h
      .exact .inl h
      .simp at h;exact .inr ⟨by unfold Af;simpa using q.1,h.symm⟩
     .exact .inl h
    rcases h3 with h3|h3
    .left;unfold Bv at h3;split at h3
     .exact h3
     .split at h3
      .unfold AQ at h3;split at h3
       .split at h3
        .exact h3
        .exact List.mem_of_mem_take h3
       .exact h3
      .exact h3
    .exact .inr h3
   rcases h2 with h2|h2
   .exact .inl h2
   .exact .inr ⟨i,sM,h2⟩
  .exact .inr ⟨j,List.mem_cons_of_mem i hj,h⟩
theorem Kx{c:Cd}{l:List Ad}(h:AR c ⟨[],[]⟩ l=true){i:Ad}(hi:i∈l):∃L R,l=L++i::R/\AG c (CY ⟨[],[]⟩ L) i=true:=by
 obtain⟨L,R,rfl⟩:=List.append_of_mem hi;rw[Dw]at h;simp only[Bool.and_eq_true]at h;refine⟨L,R,rfl,?_⟩;have h2:=h.2;unfold AR at h2;simp only[Bool.and_eq_true]at h2;exact h2.1
end Go.Proofs.YtnbccaicijcklaaGreat
