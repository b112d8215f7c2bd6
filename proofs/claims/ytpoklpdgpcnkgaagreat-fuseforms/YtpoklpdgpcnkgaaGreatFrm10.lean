import Derived.Test.YtpoklpdgpcnkgaaGreatFrm8
import Derived.Test.YtpoklpdgpcnkgaaGreatFrm7
import Derived.Maps.AppendAt
import Derived.Laws.AppendOwnNone
import Derived.Shelf.Abstract
import Derived.Deep.RegionHeld3
import Derived.Laws.EntriesVeiled
import Derived.Test.YtpoklpdgpcnkgaaGreatFrm1
namespace Go.Proofs.YtpoklpdgpcnkgaaGreat
open Go.RowKit Go.Proofs.Tryz
set_option linter.all false
set_option maxRecDepth 100000
set_option maxHeartbeats 16000000
theorem O5(a b:Int)(h0:0<=a)(h1:a<4294967296)(g0:0<=b)(g1:b<4294967296)(h:C5 a=true\/C5 b=true):GS a b=2143289344:=by
 rcases h with h|h
 .obtain⟨s,t,e⟩:=FJ a h0 h1 h;rw[EQ a b e rfl];cases Ieee.single.read b.toNat<;>rfl
 .obtain⟨s,t,e⟩:=FJ b g0 g1 h;rw[EQ a b rfl e];cases Ieee.single.read a.toNat<;>rfl
theorem QX(s:Bool):((Ieee.single.write (.number s 0 0):Nat):Int)=Ig s:=by cases s<;>decide
theorem Zz(A B:Int)(h1:8388608<=A)(h2:A<16777216)(h3:8388608<=B)(h4:B<16777216):0<=A*274877906944/B/\A*274877906944/B<1099511627776/\0<=A*274877906944%B/\A*274877906944%B<16777216:=by
 have e:=Int.mul_ediv_add_emod (A*274877906944) B;have r0:=Int.emod_nonneg (A*274877906944) (show B≠0 by omega);have r1:=Int.emod_lt_of_pos (A*274877906944) (show 0<B by omega);have q0:0<=A*274877906944/B:=Int.ediv_nonneg oM oM;refine⟨q0,?_,r0,oM⟩;apply Int.ediv_lt_of_lt_mul oM;omega
theorem Ws(a:Int)(h0:0<=a)(h1:a<4294967296)(b:Int)(g0:0<=b)(g1:b<4294967296)(w:World):
 Calls prog 144 #[.int .i64 a,.int .i64 b] w fun e w'=>e=.returned (.int .i64 (GS a b))/\Below w.heap.size w w':=by
 cases hna:C5 a
 .cases hnb:C5 b
  .cases hia:E9 a
   .obtain⟨ra,a1,a2,a3,a4,a5⟩:=C7 a h0 h1 hia hna;cases hib:E9 b
    .obtain⟨rb,b1,b2,b3,b4,b5⟩:=C7 b g0 g1 hib hnb;by_cases zb:nM b=0
     .by_cases za:nM a=0
      .have hv:GS a b=2143289344:=by rw[EQ a b ra rb,za,zb];rfl
       rw[hv];clear hv ra rb;exact Yk
      .have hv:GS a b=Ig (Bc a != Bc b)+2139095040:=by
        rw[EQ a b ra rb,zb,<-CD,<-Es];have:(nM a).toNat≠0:=oM;simp only[Ieee.Datum.quotient,if_neg this,Int.toNat_zero,if_true];rfl
       rw[hv];clear hv ra rb;exact Yk
     .by_cases za:nM a=0
      .have hv:GS a b=Ig (Bc a != Bc b):=by
        rw[EQ a b ra rb,za,<-Es];have:(nM b).toNat≠0:=oM;simp only[Ieee.Datum.quotient,if_neg this,Int.toNat_zero,Nat.zero_shiftLeft,Nat.zero_div,Nat.zero_mod];exact GH _ _
       rw[hv];clear hv ra rb;exact Yk
      .obtain⟨ka,A1,A2⟩:=Fj (nM a) oM a2;obtain⟨kb,B1,B2⟩:=Fj (nM b) oM b2;obtain⟨A,hA⟩:=gA (nM a*2^nk (nM a))
       obtain⟨B,hB⟩:=gA (nM b*2^nk (nM b))
       have hv:=Vt a b h0 h1 g0 g1 hia hna hib hnb za zb A B hA hB;rw[hA]at A1 A2;rw[hB]at B1 B2;have hq:=Zz A B A1 A2 B1 B2;obtain⟨EA,hEA⟩:=gA (nE a-(nk (nM a):Int))
       obtain⟨EB,hEB⟩:=gA (nE b-(nk (nM b):Int))
       rw[hEA,hEB]at hv;have eb: -172<=EA/\EA<=104/\-172<=EB/\EB<=104:=oM;rw[hv];clear hv ra rb a5 b5;obtain⟨q,hqq⟩:=gA (A*274877906944/B)
       obtain⟨r,hrr⟩:=gA (A*274877906944%B)
       rw[hqq,hrr]at hq |-;have hdiv:(A*274877906944).tdiv B=q:=by rw[<-hqq,Int.tdiv_eq_ediv_of_nonneg oM]
       have hmod:(A*274877906944).tmod B=r:=by rw[<-hrr,Int.tmod_eq_emod_of_nonneg oM]
       by_cases zr:r=0
       .rw[if_pos zr];exact Zbs
       .rw[if_neg zr];exact Zbs
    .obtain⟨rb,-,b1⟩:=DX b g0 g1 hib;have hv:GS a b=Ig (Bc a != Bc b):=by rw[EQ a b ra rb,<-QX,<-Es];rfl
     rw[hv];clear hv ra rb;by_cases za:nM a=0
     .skip
      exact Yk
     .skip
      exact Yk
   .obtain⟨ra,-,a1⟩:=DX a h0 h1 hia;cases hib:E9 b
    .obtain⟨rb,b1,b2,b3,b4,b5⟩:=C7 b g0 g1 hib hnb;have hv:GS a b=Ig (Bc a != Bc b)+2139095040:=by rw[EQ a b ra rb,<-CD,<-Es];rfl
     rw[hv];clear hv ra rb;exact Yk
    .obtain⟨rb,-,b1⟩:=DX b g0 g1 hib;have hv:GS a b=2143289344:=by rw[EQ a b ra rb];rfl
     rw[hv];clear hv ra rb;exact Yk
  .have hv:=O5 a b h0 h1 g0 g1 (Or.inr hnb);rw[hv];clear hv;exact Yk
 .have hv:=O5 a b h0 h1 g0 g1 (Or.inl hna);rw[hv];clear hv;exact Yk
theorem O3(a b:Int)(h0:0<=a)(h1:a<4294967296)(g0:0<=b)(g1:b<4294967296)(h:C5 a=true\/C5 b=true):DK a b=2143289344:=by
 rcases h with h|h
 .obtain⟨s,t,e⟩:=FJ a h0 h1 h;rw[D7 a b e rfl];cases Ieee.single.read b.toNat<;>rfl
 .obtain⟨s,t,e⟩:=FJ b g0 g1 h;rw[D7 a b rfl e];cases Ieee.single.read a.toNat<;>rfl
theorem LN(a b:Int)(h0:0<=a)(h1:a<4294967296)(g0:0<=b)(g1:b<4294967296){s:Bool}{i:Int}(ra:Ieee.single.read a.toNat=.number s 0 i)(rb:Ieee.single.read b.toNat=.number (Bc b) (nM b).toNat (nE b))(hb:nM b≠0)(hb0:0<=nM b)(hi: -149<=i)(hj: -149<=nE b):
 DK a b=(Ieee.single.nearest (Bc b) (nM b).toNat (nE b):Nat):=by
 rw[D7 a b ra rb];simp only[Ieee.Datum.sum,Option.map_some,Ieee.Format.write];generalize hbase:min i (nE b)=base;have hz:Ieee.signed s 0 (i-base).toNat=0:=by unfold Ieee.signed;simp
 rw[hz,Int.zero_add,IN];have hP:(1:Int)<=2^(nE b-base).toNat:=Int.pow_pos dE;have hX:0<((nM b).toNat:Int)*2^(nE b-base).toNat:=Int.mul_pos oM oM;have e1:¬ (H2 (Bc b) (((nM b).toNat:Int)*2^(nE b-base).toNat)=0):=by
  unfold H2;split<;>omega
 have e2:decide (H2 (Bc b) (((nM b).toNat:Int)*2^(nE b-base).toNat)<0)=Bc b:=by
  generalize ((nM b).toNat:Int)*2^(nE b-base).toNat=X at *;cases Bc b<;>simp only[H2,if_true,if_false,Bool.false_eq_true]<;>simp<;>omega
 have e3:(H2 (Bc b) (((nM b).toNat:Int)*2^(nE b-base).toNat)).natAbs=(nM b).toNat*2^(nE b-base).toNat:=by
  have hc:(((nM b).toNat*2^(nE b-base).toNat:Nat):Int)=((nM b).toNat:Int)*2^(nE b-base).toNat:=by rw[Int.natCast_mul,Int.natCast_pow];rfl
  unfold H2;split<;>omega
 rw[if_neg e1,e2,e3];show((Ieee.single.nearest (Bc b) _ base:Nat):Int)=_;rw[BJ,BJ,Dn,BV];obtain⟨c,hc⟩:∃c:Nat,(c:Int)=base+149:=⟨(base+149).toNat,oM⟩
 obtain⟨d,hd⟩:∃d:Nat,(d:Int)=nE b+149:=⟨(nE b+149).toNat,oM⟩
 have r1:=KG ((nM b).toNat*2^(nE b-base).toNat) c;have r2:=KG (nM b).toNat d;rw[show -149+(c:Int)=base by omega]at r1;rw[show -149+(d:Int)=nE b by omega]at r2;rw[r1,r2,Nat.mul_assoc,<-Nat.pow_add,show(nE b-base).toNat+c=d by omega]
theorem Ks(a:Int)(h0:0<=a)(h1:a<4294967296)(b:Int)(g0:0<=b)(g1:b<4294967296)(w:World):
 Calls prog 123 #[.int .i64 a,.int .i64 b] w fun e w'=>e=.returned (.int .i64 (DK a b))/\Below w.heap.size w w':=by
 cases hna:C5 a
 .cases hnb:C5 b
  .cases hia:E9 a
   .obtain⟨ra,a1,a2,a3,a4,a5⟩:=C7 a h0 h1 hia hna;cases hib:E9 b
    .obtain⟨rb,b1,b2,b3,b4,b5⟩:=C7 b g0 g1 hib hnb;by_cases za:nM a=0
     .by_cases zb:nM b=0
      .have hv:DK a b=Ig (Bc a&&Bc b):=by
        rw[D7 a b ra rb,za,zb];simp only[Ieee.Datum.sum,Option.map_some,Ieee.Format.write];have:Ieee.signed (Bc a) (0:Int).toNat (nE a-min (nE a) (nE b)).toNat+Ieee.signed (Bc b) (0:Int).toNat (nE b-min (nE a) (nE b)).toNat=0:=by unfold Ieee.signed;simp
        rw[this,if_pos rfl];exact GH _ _
       rw[hv];clear hv ra rb;cases hma:Bc a
       .rw[Bool.false_and];exact UK
       .rw[Bool.true_and];exact UK
      .have hv:=LN a b h0 h1 g0 g1 (s:=Bc a) (i:=nE a) (by rw[ra,za];rfl) rb zb b1 a3 b3;rw[hv];clear hv ra rb;exact UK
     .by_cases zb:nM b=0
      .have hv:=LN b a g0 g1 h0 h1 (s:=Bc b) (i:=nE b) (by rw[rb,zb];rfl) ra za a1 b3 a3;rw[LM,hv];clear hv ra rb;exact UK
      .by_cases hE:nE a<nE b
       .have hv:DK a b=Ux (Bc b) (nM b) (nE b) (Bc a) (nM a) (nE a):=by
         rw[LM,D7 b a rb ra,P7 _ _ _ _ _ _ oM b2 oM a2 a3 oM b5]
        exact Zbp
       .have hv:DK a b=Ux (Bc a) (nM a) (nE a) (Bc b) (nM b) (nE b):=by
         rw[D7 a b ra rb,P7 _ _ _ _ _ _ oM a2 oM b2 b3 oM a5]
        exact Zbp
    .obtain⟨rb,-,b1⟩:=DX b g0 g1 hib;have hv:DK a b=Ig (Bc b)+2139095040:=by rw[D7 a b ra rb,<-CD];rfl
     rw[hv];clear hv ra rb;exact UK
   .obtain⟨ra,-,a1⟩:=DX a h0 h1 hia;cases hib:E9 b
    .obtain⟨rb,b1,b2,b3,b4,b5⟩:=C7 b g0 g1 hib hnb;have hv:DK a b=Ig (Bc a)+2139095040:=by rw[D7 a b ra rb,<-CD];rfl
     rw[hv];clear hv ra rb;exact UK
    .obtain⟨rb,-,b1⟩:=DX b g0 g1 hib;cases hma:Bc a<;>cases hmb:Bc b<;>rw[hma]at ra<;>rw[hmb]at rb
     .have hv:DK a b=Ig false+2139095040:=by rw[D7 a b ra rb,<-CD];rfl
      rw[hv];clear hv ra rb;exact UK
     .have hv:DK a b=2143289344:=by rw[D7 a b ra rb];rfl
      rw[hv];clear hv ra rb;exact UK
     .have hv:DK a b=2143289344:=by rw[D7 a b ra rb];rfl
      rw[hv];clear hv ra rb;exact UK
     .have hv:DK a b=Ig true+2139095040:=by rw[D7 a b ra rb,<-CD];rfl
      rw[hv];clear hv ra rb;exact UK
  .have hv:=O3 a b h0 h1 g0 g1 (Or.inr hnb);rw[hv];clear hv;exact UK
 .have hv:=O3 a b h0 h1 g0 g1 (Or.inl hna);rw[hv];clear hv;exact UK
theorem Je(d e:Ieee.Datum)(h:d.isNaN=true):e.sum d=none:=by
 cases d<;>simp[Ieee.Datum.isNaN]at h
 cases e<;>rfl
theorem YR(a b:Int)(g0:0<=b)(g1:b<4294967296):Ok a b=DK a (JW b):=by
 cases hn:nan b
 .rw[Oi b g0 g1 hn];unfold Ok DK Ieee.Format.sub Ieee.Format.add;rw[Int.toNat_natCast,TR _ oM]
 .rw[Oh b g0 g1 hn];have h2:2139095040<rg b.toNat:=by rw[Kf b g0]at hn;simpa using hn
  unfold Ok DK Ieee.Format.sub Ieee.Format.add;rw[EJ _ h2,show Ieee.single.read (2143289344:Int).toNat=.nan false 4194304 from by decide,Je _ _ rfl,Je _ _ rfl]
theorem Xi(a:Int)(h0:0<=a)(h1:a<4294967296)(b:Int)(g0:0<=b)(g1:b<4294967296)(w:World):
 Calls prog 143 #[.int .i64 a,.int .i64 b] w fun e w'=>e=.returned (.int .i64 (Ok a b))/\Below w.heap.size w w':=by
 rw[YR a b g0 g1];have hl:=Rs b g0 g1;go_enter func143,ntmps143;go_wp2_with(first
  |(go_at_call 139;refine(OL _ g0 g1 _).mono ?_;rintro e w1 ⟨rfl,hb1⟩)
  |(go_at_call 123;refine(Ks _ h0 h1 _ hl.1 hl.2 _).mono ?_;rintro e w2 ⟨rfl,hb2⟩))
 go_ret;exact⟨rfl,JL hb1 hb2⟩
def AB(a:Int):Prop:=0<=a/\a<4294967296
theorem Dl(a:Int)(h:AB a):AB (Ae a):=Fa a h.1 h.2
theorem Rx(a b:Int):AB (DK a b):=MZ a b
theorem Z3(a b:Int):AB (Ok a b):=YS a b
theorem Z0(a b:Int):AB (Fc a b):=DV a b
theorem YY(a b:Int):AB (GS a b):=YO a b
theorem VO(a:Int):AB (E6 a):=VD a
theorem Z1(a:Int)(h:AB a):AB (JW a):=Rs a h.1 h.2
theorem YX(a:Int)(h:AB a):AB (YN a):=Fa _ (by have:=h.1;omega) (by have:=h.1;omega)
theorem Jx(a b:Int)(h:AB a)(k:AB b):AB (Jm a b):=by
 have h1:=h.1;have h2:=h.2;have k1:=k.1;have k2:=k.2;unfold AB Jm;split
 .decide
 .exact h
 .exact k
 .split
  .exact h
  .exact k
theorem YZ(a b:Int)(h:AB a)(k:AB b):AB (JV a b):=by
 have h1:=h.1;have h2:=h.2;have k1:=k.1;have k2:=k.2;unfold AB JV;split
 .decide
 .exact k
 .exact h
 .split
  .exact k
  .exact h
theorem Z2(c a b:Int)(h:AB a)(k:AB b):AB (N9 c a b):=by
 unfold N9;split
 .exact Dl b k
 .exact Dl a h
def LU(f:Int->Int->Int)(s:Int)(X:Nat->Int):Nat->Int
 |0=>s
 |n+1=>f (LU f s X n) (X n)
theorem Fe{f:Int->Int->Int}(hf:∀a b,AB a->AB b->AB (f a b)){s:Int}(hs:AB s){X:Nat->Int}(hX:∀i,AB (X i)):∀n,AB (LU f s X n)
 |0=>hs
 |n+1=>hf _ _ (Fe hf hs hX n) (hX n)
def Lq(X:Nat->Int)(n:Nat):Int:=LU DK 0 X n
def F4(X:Nat->Int)(n:Nat):Int:=LU Jm 2139095040 X n
theorem J4:AB 0:=by unfold AB;decide
theorem Z4(X:Nat->Int)(n:Nat)(hX:∀i,AB (X i)):AB (Lq X n):=Fe (fun _ _ _ _=>MZ _ _) J4 hX n
def CU(op:Int):Nat:=
 if op=3\/op=11\/op=12\/op=13\/op=14 then 1 else if op=4\/op=5\/op=6\/op=7\/op=8\/op=9\/op=10 then 2 else if op=15 then 3 else 0
def Q4(b:Bool):Int:=if b then 1065353216 else 0
theorem Ou(b:Bool):AB (Q4 b):=by unfold AB Q4;cases b<;>decide
theorem BS{c:Prop}[Decidable c]{a b:Int}(h:AB a)(k:AB b):AB (if c then a else b):=by
 split
 .exact h
 .exact k
def J9(op a b c:Int):Int:=
 if op=3 then Ae a else if op=11 then E6 a else if op=12 then JW a else if op=13 then YN a else if op=14 then Q4 (ffin a)
 else if op=4 then DK a b else if op=5 then Ok a b else if op=6 then Fc a b else if op=7 then GS a b else if op=8 then Jm a b else if op=9 then JV a b
 else if op=10 then Q4 (JU a b)else N9 a b c
theorem Ry(op a b c:Int)(ha:AB a)(hb:AB b)(hc:AB c):AB (J9 op a b c):=
 BS (Dl a ha) (BS (VO a) (BS (Z1 a ha) (BS (YX a ha) (BS (Ou _) (BS (Rx a b) (BS (Z3 a b) (BS (Z0 a b)
  (BS (YY a b) (BS (Jx a b ha hb) (BS (YZ a b ha hb) (BS (Ou _) (Z2 a b c hb hc))))))))))))
def IV(X:Nat->Value)(n:Nat):List Value:=(List.range n).map X
theorem vals_at(X:Nat->Value)(n i:Nat)(h:i<n):(IV X n)[i]? =some (X i):=by simp[IV,h]
theorem ME(X:Nat->Value)(n:Nat):IV X (n+1)=IV X n++[X n]:=by unfold IV;rw[List.range_succ];simp
theorem Mi{w:World}{base:Nat}{e:TypeId}{v:Value}{n:Nat}{X:Nat->Value}(h:w.ownsRow base e 1 v n (IV X n)):
 ∃q cap,v=.slice q n cap/\Be w q n X/\(∀b o s,q=some ⟨b,o,s⟩->base<=b)/\(q=none->n=0/\cap=0)/\n<=cap:=by
 rcases h.2 with⟨rfl,hx⟩|⟨g,cap,cur,rfl,hb,hg,rest⟩
 .subst hx;exact⟨none,0,rfl,.inl rfl,fun b o s e=>(by cases e),fun _=>⟨rfl,rfl⟩,gF _⟩
 .refine⟨some ⟨g,0,none⟩,cap,rfl,.inr ⟨g,0,rfl,fun i hi=>?_⟩,fun b o s e=>(by cases e;exact hb),fun e=>(by cases e),rest.1⟩;have:=h.cells (g:=g) rfl i (X i) (vals_at X n i hi);rw[Nat.zero_add];by_cases c:i=0
  .subst c;simpa[Addr.add]using this
  .simpa[Addr.add,c]using this
theorem VM:(prog.info? 3).map (fun i=>(i.zero,i.size,i.bytes))=some (some (.int .i64 0),1,8):=kR

theorem UG(p:Option Addr)(n c:Nat)(X:Nat->Int)(hX:∀i,AB (X i))(hn:n<=1048576)(w:World)(hp:Be w p n (fun i=>.int .i64 (X i))):
 Calls prog 102 #[.slice p n c] w fun e w'=>e=.returned (.int .i64 (Lq X n))/\Below w.heap.size w w':=by
 go_enter func102,ntmps102;go_wp2
 go_loopw [3,4] (fun sv iv wr=>Below w.heap.size w wr/\∃j:Nat,j<=n/\iv=.int .i64 j/\sv=.int .i64 (Lq X j)) (fun _ iv _=>n-(intOf iv).toNat)
 case atStart=>exact⟨LI w,0,gI _,rfl,rfl⟩
 case round=>
  obtain⟨hb,j,hj,rfl,rfl⟩:=hrel;by_cases hlt:j<n
  .rcases hp with hp|⟨b,o,rfl,hp⟩
   .omega
   have hbl:b<w.heap.size:=IC (hp j hlt);have h1:wr.cell? ⟨b,o+j,none⟩=some (.int .i64 (X j)):=(hb.cell hbl).trans (hp j hlt);have i1:(0:Int)<=(j:Int):=oM;have i2:(j:Int)<(n:Int):=oM;have s1:AB (Lq X j):=Fe (fun _ _ _ _=>Rx _ _) Zhx hX j;have x1:=hX j;clear hp hX;go_wp2_with(go_at_call 123;refine(Ks _ s1.1 s1.2 _ x1.1 x1.2 _).mono ?_;rintro e w1 ⟨rfl,hb1⟩);go_roundw
   case rel=>exact⟨JL hb hb1,j+1,oM,gN,rfl⟩
   case measure=>simp[intOf];omega
  .have:j=n:=oM;subst this;clear hp hX;go_wp2;go_ret;exact⟨rfl,hb⟩
theorem Qz(p:Option Addr)(n c:Nat)(X:Nat->Int)(hX:∀i,AB (X i))(hn:n<=1048576)(w:World)(hp:Be w p n (fun i=>.int .i64 (X i))):
 Calls prog 103 #[.slice p n c] w fun e w'=>e=.returned (.int .i64 (F4 X n))/\Below w.heap.size w w':=by
 go_enter func103,ntmps103;go_wp2
 go_loopw [3,4] (fun sv iv wr=>Below w.heap.size w wr/\∃j:Nat,j<=n/\iv=.int .i64 j/\sv=.int .i64 (F4 X j)) (fun _ iv _=>n-(intOf iv).toNat)
 case atStart=>exact⟨LI w,0,gI _,rfl,rfl⟩
 case round=>
  obtain⟨hb,j,hj,rfl,rfl⟩:=hrel;by_cases hlt:j<n
  .rcases hp with hp|⟨b,o,rfl,hp⟩
   .omega
   have hbl:b<w.heap.size:=IC (hp j hlt);have h1:wr.cell? ⟨b,o+j,none⟩=some (.int .i64 (X j)):=(hb.cell hbl).trans (hp j hlt);have i1:(0:Int)<=(j:Int):=oM;have i2:(j:Int)<(n:Int):=oM;have s1:AB (F4 X j):=Fe Jx Zhx hX j;have x1:=hX j;clear hp hX;go_wp2_with(go_at_call 124;refine(OK _ s1.1 s1.2 _ x1.1 x1.2 _).mono ?_;rintro e w1 ⟨rfl,hb1⟩);go_roundw
   case rel=>exact⟨JL hb hb1,j+1,oM,gN,rfl⟩
   case measure=>simp[intOf];omega
  .have:j=n:=oM;subst this;clear hp hX;go_wp2;go_ret;exact⟨rfl,hb⟩
theorem TV(a:Int)(h:AB a)(w:World):
 Calls prog 142 #[.int .i64 a] w fun e w'=>e=.returned (.bool (ffin a))/\w'=w:=by
 have h0:=h.1;have h1:=h.2;have t1:a.tmod 2147483648=a%2147483648:=Int.tmod_eq_emod_of_nonneg h0;go_enter func142,ntmps142;go_wp2;go_ret;exact⟨rfl,rfl⟩

structure Pn(k:IntKind)(w:World)(q:Option Addr)(m:Nat)(P:Nat->Option Addr)(l c:Nat->Nat)(X:Nat->Nat->Int):Prop where
 heads:Be w q m (fun i=>.slice (P i) (l i) (c i))
 parts:∀i,i<m->Be w (P i) (l i) (fun j=>.int k (X i j))
theorem Pn.below{k:IntKind}{w w':World}{q:Option Addr}{m:Nat}{P:Nat->Option Addr}{l c:Nat->Nat}{X:Nat->Nat->Int}(h:Pn k w q m P l c X)(b:Below w.heap.size w w'):Pn k w' q m P l c X:=
 ⟨h.heads.below b,fun i hi=>(h.parts i hi).below b⟩
theorem Qs{w w':World}{base:Nat}{e:TypeId}{v:Value}{n:Nat}{xs:List Value}(h:w.ownsRow base e 1 v n xs)(k:Below w.heap.size w w'):w'.ownsRow base e 1 v n xs:=by
 refine h.kept (row:=none) ⟨k.os,k.tape,k.output,k.size,fun j hj _=>k.block j hj⟩ ?_;cases v.ownBlock<;>simp
theorem Jg(op:Int)(h:CU op≠0):op=3\/op=11\/op=12\/op=13\/op=14\/op=4\/op=5\/op=6\/op=7\/op=8\/op=9\/op=10\/op=15:=by
 unfold CU at h;split at h
 .omega
 .split at h
  .omega
  .split at h
   .omega
   .exact absurd rfl h

def Ek(l:Nat->Nat):Nat->Option Nat
 |0=>some (l 0)
 |j+1=>match Ek l j with
  |none=>none
  |some n=>if l (j+1)=n then some n else if l (j+1)=0\/n=0 then none else if n=1 then some (l (j+1))else if l (j+1)=1 then some n else none
theorem Ih{l:Nat->Nat}{j n:Nat}(h:Ek l j=some n):Ek l (j+1)=if l (j+1)=n then some n else if l (j+1)=0\/n=0 then none else if n=1 then some (l (j+1))else if l (j+1)=1 then some n else none:=by
 show(match Ek l j with |none=>none|some n=>_)=_;rw[h]
theorem KU{l:Nat->Nat}{j:Nat}(h:Ek l j=none):∀M,j<=M->Ek l M=none:=by
 intro M;induction M with
 |zero=>
  intro hj;have:j=0:=oM;subst this;exact h
 |succ M ih=>
  intro hj;rcases Nat.lt_or_ge M j with c|c
  .have:j=M+1:=oM;subst this;exact h
  .show(match Ek l M with |none=>none|some n=>_)=_;rw[ih c]
theorem shp_le{l:Nat->Nat}{N:Nat}(hl:∀i,l i<=N):∀ {M n:Nat},Ek l M=some n->n<=N:=by
 intro M;induction M with
 |zero=>intro n h;cases h;exact hl 0
 |succ M ih=>
  intro n h;cases e:Ek l M with
  |none=>rw[KU e (M+1) oM]at h;cases h
  |some k=>
   rw[Ih e]at h;have:=ih e;have:=hl (M+1)
   repeat' split at h
   all_goals cases h
   all_goals omega
theorem P1{l:Nat->Nat}:∀ {M n:Nat},Ek l M=some n->∀i,i<=M->l i=n\/(l i=1/\n≠0):=by
 intro M;induction M with
 |zero=>
  intro n h i hi;cases h;have:i=0:=oM;subst this;exact .inl rfl
 |succ M ih=>
  intro n h i hi;cases e:Ek l M with
  |none=>rw[KU e (M+1) oM]at h;cases h
  |some k=>
   rw[Ih e]at h;have hi':i<=M\/i=M+1:=oM;split at h
   .cases h
    rcases hi' with c|c
    .exact ih e i c
    .subst c;left;assumption
   .split at h
    .cases h
    .split at h
     .cases h
      rcases hi' with c|c
      .have:=ih e i c;omega
      .subst c;exact .inl rfl
     .split at h
      .cases h
       rcases hi' with c|c
       .exact ih e i c
       .subst c;right;omega
      .cases h
def G7(l:Nat->Nat)(X:Nat->Nat->Int)(m i j:Nat):Int:=if j<m then X j (if l j=1 then 0 else i)else 0
theorem CK{l:Nat->Nat}{X:Nat->Nat->Int}(hX:∀i j,AB (X i j))(m i j:Nat):AB (G7 l X m i j):=BS (hX _ _) J4
theorem GF{k:IntKind}{w:World}{b o m:Nat}{P:Nat->Option Addr}{l c:Nat->Nat}{X:Nat->Nat->Int}(h:Pn k w (some ⟨b,o,none⟩) m P l c X)(i:Nat)(hi:i<m):w.cell? ⟨b,o+i,none⟩=some (.slice (P i) (l i) (c i)):=by
 rcases h.heads with q|⟨b',o',e,hh⟩
 .omega
 .cases e;exact hh i hi
theorem Uo{l:Nat->Nat}{M n i j:Nat}(h:Ek l M=some n)(hj:j<=M)(hi:i<n):l j=1\/i<l j:=by
 rcases P1 h j hj with e|e
 .right;omega
 .left;exact e.1
theorem Li(op:Int):CU op<=3:=by
 unfold CU;split
 .omega
 .split
  .omega
  .split<;>omega

def sl:Nat->Nat:=fun i=>if i=0 then 2 else 1
end Go.Proofs.YtpoklpdgpcnkgaaGreat
