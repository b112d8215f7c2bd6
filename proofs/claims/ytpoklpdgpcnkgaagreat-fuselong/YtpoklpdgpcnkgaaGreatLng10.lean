import Derived.Test.YtpoklpdgpcnkgaaGreatLng8
import Derived.Test.YtpoklpdgpcnkgaaGreatLng7
import Derived.Maps.AppendAt
import Derived.Laws.AppendOwnNone
import Derived.Shelf.Abstract
import Derived.Deep.RegionHeld3
import Derived.Laws.EntriesVeiled
import Derived.Test.YtpoklpdgpcnkgaaGreatLng1
namespace Go.Proofs.YtpoklpdgpcnkgaaGreat
open Go.RowKit Go.Proofs.Tryz
set_option linter.all false
set_option maxRecDepth 100000
set_option maxHeartbeats 16000000
theorem Oh(a b:Int)(h0:0<=a)(h1:a<4294967296)(g0:0<=b)(g1:b<4294967296)(h:Cf a=true\/Cf b=true):Ha a b=2143289344:=by
 rcases h with h|h
 .obtain⟨s,t,e⟩:=FV a h0 h1 h;rw[EY a b e rfl];cases Ieee.single.read b.toNat<;>rfl
 .obtain⟨s,t,e⟩:=FV b g0 g1 h;rw[EY a b rfl e];cases Ieee.single.read a.toNat<;>rfl
theorem Re(s:Bool):((Ieee.single.write (.number s 0 0):Nat):Int)=Iy s:=by cases s<;>decide
theorem ZC(A B:Int)(h1:8388608<=A)(h2:A<16777216)(h3:8388608<=B)(h4:B<16777216):0<=A*274877906944/B/\A*274877906944/B<1099511627776/\0<=A*274877906944%B/\A*274877906944%B<16777216:=by
 have e:=Int.mul_ediv_add_emod (A*274877906944) B;have r0:=Int.emod_nonneg (A*274877906944) (show B≠0 by omega);have r1:=Int.emod_lt_of_pos (A*274877906944) (show 0<B by omega);have q0:0<=A*274877906944/B:=Int.ediv_nonneg oM oM;refine⟨q0,?_,r0,oM⟩;apply Int.ediv_lt_of_lt_mul oM;omega
theorem Ww(a:Int)(h0:0<=a)(h1:a<4294967296)(b:Int)(g0:0<=b)(g1:b<4294967296)(w:World):
 Calls prog 144 #[.int .i64 a,.int .i64 b] w fun e w'=>e=.returned (.int .i64 (Ha a b))/\Below w.heap.size w w':=by
 cases hna:Cf a
 .cases hnb:Cf b
  .cases hia:Ej a
   .obtain⟨ra,a1,a2,a3,a4,a5⟩:=Cg a h0 h1 hia hna;cases hib:Ej b
    .obtain⟨rb,b1,b2,b3,b4,b5⟩:=Cg b g0 g1 hib hnb;by_cases zb:nM b=0
     .by_cases za:nM a=0
      .have hv:Ha a b=2143289344:=by rw[EY a b ra rb,za,zb];rfl
       rw[hv];clear hv ra rb;exact Yn
      .have hv:Ha a b=Iy (Bg a != Bg b)+2139095040:=by
        rw[EY a b ra rb,zb,<-CM,<-Ey];have:(nM a).toNat≠0:=oM;simp only[Ieee.Datum.quotient,if_neg this,Int.toNat_zero,if_true];rfl
       rw[hv];clear hv ra rb;exact Yn
     .by_cases za:nM a=0
      .have hv:Ha a b=Iy (Bg a != Bg b):=by
        rw[EY a b ra rb,za,<-Ey];have:(nM b).toNat≠0:=oM;simp only[Ieee.Datum.quotient,if_neg this,Int.toNat_zero,Nat.zero_shiftLeft,Nat.zero_div,Nat.zero_mod];exact GW _ _
       rw[hv];clear hv ra rb;exact Yn
      .obtain⟨ka,A1,A2⟩:=Fv (nM a) oM a2;obtain⟨kb,B1,B2⟩:=Fv (nM b) oM b2;obtain⟨A,hA⟩:=gA (nM a*2^nk (nM a))
       obtain⟨B,hB⟩:=gA (nM b*2^nk (nM b))
       have hv:=Vx a b h0 h1 g0 g1 hia hna hib hnb za zb A B hA hB;rw[hA]at A1 A2;rw[hB]at B1 B2;have hq:=ZC A B A1 A2 B1 B2;obtain⟨EA,hEA⟩:=gA (nE a-(nk (nM a):Int))
       obtain⟨EB,hEB⟩:=gA (nE b-(nk (nM b):Int))
       rw[hEA,hEB]at hv;have eb: -172<=EA/\EA<=104/\-172<=EB/\EB<=104:=oM;rw[hv];clear hv ra rb a5 b5;obtain⟨q,hqq⟩:=gA (A*274877906944/B)
       obtain⟨r,hrr⟩:=gA (A*274877906944%B)
       rw[hqq,hrr]at hq |-;have hdiv:(A*274877906944).tdiv B=q:=by rw[<-hqq,Int.tdiv_eq_ediv_of_nonneg oM]
       have hmod:(A*274877906944).tmod B=r:=by rw[<-hrr,Int.tmod_eq_emod_of_nonneg oM]
       by_cases zr:r=0
       .rw[if_pos zr];exact Zbu
       .rw[if_neg zr];exact Zbu
    .obtain⟨rb,-,b1⟩:=Eb b g0 g1 hib;have hv:Ha a b=Iy (Bg a != Bg b):=by rw[EY a b ra rb,<-Re,<-Ey];rfl
     rw[hv];clear hv ra rb;by_cases za:nM a=0
     .skip
      exact Yn
     .skip
      exact Yn
   .obtain⟨ra,-,a1⟩:=Eb a h0 h1 hia;cases hib:Ej b
    .obtain⟨rb,b1,b2,b3,b4,b5⟩:=Cg b g0 g1 hib hnb;have hv:Ha a b=Iy (Bg a != Bg b)+2139095040:=by rw[EY a b ra rb,<-CM,<-Ey];rfl
     rw[hv];clear hv ra rb;exact Yn
    .obtain⟨rb,-,b1⟩:=Eb b g0 g1 hib;have hv:Ha a b=2143289344:=by rw[EY a b ra rb];rfl
     rw[hv];clear hv ra rb;exact Yn
  .have hv:=Oh a b h0 h1 g0 g1 (Or.inr hnb);rw[hv];clear hv;exact Yn
 .have hv:=Oh a b h0 h1 g0 g1 (Or.inl hna);rw[hv];clear hv;exact Yn
theorem Of(a b:Int)(h0:0<=a)(h1:a<4294967296)(g0:0<=b)(g1:b<4294967296)(h:Cf a=true\/Cf b=true):DZ a b=2143289344:=by
 rcases h with h|h
 .obtain⟨s,t,e⟩:=FV a h0 h1 h;rw[Dg a b e rfl];cases Ieee.single.read b.toNat<;>rfl
 .obtain⟨s,t,e⟩:=FV b g0 g1 h;rw[Dg a b rfl e];cases Ieee.single.read a.toNat<;>rfl
theorem M4(a b:Int)(h0:0<=a)(h1:a<4294967296)(g0:0<=b)(g1:b<4294967296){s:Bool}{i:Int}(ra:Ieee.single.read a.toNat=.number s 0 i)(rb:Ieee.single.read b.toNat=.number (Bg b) (nM b).toNat (nE b))(hb:nM b≠0)(hb0:0<=nM b)(hi: -149<=i)(hj: -149<=nE b):
 DZ a b=(Ieee.single.nearest (Bg b) (nM b).toNat (nE b):Nat):=by
 rw[Dg a b ra rb];simp only[Ieee.Datum.sum,Option.map_some,Ieee.Format.write];generalize hbase:min i (nE b)=base;have hz:Ieee.signed s 0 (i-base).toNat=0:=by unfold Ieee.signed;simp
 rw[hz,Int.zero_add,J3];have hP:(1:Int)<=2^(nE b-base).toNat:=Int.pow_pos dE;have hX:0<((nM b).toNat:Int)*2^(nE b-base).toNat:=Int.mul_pos oM oM;have e1:¬ (Hj (Bg b) (((nM b).toNat:Int)*2^(nE b-base).toNat)=0):=by
  unfold Hj;split<;>omega
 have e2:decide (Hj (Bg b) (((nM b).toNat:Int)*2^(nE b-base).toNat)<0)=Bg b:=by
  generalize ((nM b).toNat:Int)*2^(nE b-base).toNat=X at *;cases Bg b<;>simp only[Hj,if_true,if_false,Bool.false_eq_true]<;>simp<;>omega
 have e3:(Hj (Bg b) (((nM b).toNat:Int)*2^(nE b-base).toNat)).natAbs=(nM b).toNat*2^(nE b-base).toNat:=by
  have hc:(((nM b).toNat*2^(nE b-base).toNat:Nat):Int)=((nM b).toNat:Int)*2^(nE b-base).toNat:=by rw[Int.natCast_mul,Int.natCast_pow];rfl
  unfold Hj;split<;>omega
 rw[if_neg e1,e2,e3];show((Ieee.single.nearest (Bg b) _ base:Nat):Int)=_;rw[BO,BO,Dz,Ca];obtain⟨c,hc⟩:∃c:Nat,(c:Int)=base+149:=⟨(base+149).toNat,oM⟩
 obtain⟨d,hd⟩:∃d:Nat,(d:Int)=nE b+149:=⟨(nE b+149).toNat,oM⟩
 have r1:=Lh ((nM b).toNat*2^(nE b-base).toNat) c;have r2:=Lh (nM b).toNat d;rw[show -149+(c:Int)=base by omega]at r1;rw[show -149+(d:Int)=nE b by omega]at r2;rw[r1,r2,Nat.mul_assoc,<-Nat.pow_add,show(nE b-base).toNat+c=d by omega]
theorem KZ(a:Int)(h0:0<=a)(h1:a<4294967296)(b:Int)(g0:0<=b)(g1:b<4294967296)(w:World):
 Calls prog 123 #[.int .i64 a,.int .i64 b] w fun e w'=>e=.returned (.int .i64 (DZ a b))/\Below w.heap.size w w':=by
 cases hna:Cf a
 .cases hnb:Cf b
  .cases hia:Ej a
   .obtain⟨ra,a1,a2,a3,a4,a5⟩:=Cg a h0 h1 hia hna;cases hib:Ej b
    .obtain⟨rb,b1,b2,b3,b4,b5⟩:=Cg b g0 g1 hib hnb;by_cases za:nM a=0
     .by_cases zb:nM b=0
      .have hv:DZ a b=Iy (Bg a&&Bg b):=by
        rw[Dg a b ra rb,za,zb];simp only[Ieee.Datum.sum,Option.map_some,Ieee.Format.write];have:Ieee.signed (Bg a) (0:Int).toNat (nE a-min (nE a) (nE b)).toNat+Ieee.signed (Bg b) (0:Int).toNat (nE b-min (nE a) (nE b)).toNat=0:=by unfold Ieee.signed;simp
        rw[this,if_pos rfl];exact GW _ _
       rw[hv];clear hv ra rb;cases hma:Bg a
       .rw[Bool.false_and];exact UN
       .rw[Bool.true_and];exact UN
      .have hv:=M4 a b h0 h1 g0 g1 (s:=Bg a) (i:=nE a) (by rw[ra,za];rfl) rb zb b1 a3 b3;rw[hv];clear hv ra rb;exact UN
     .by_cases zb:nM b=0
      .have hv:=M4 b a g0 g1 h0 h1 (s:=Bg b) (i:=nE b) (by rw[rb,zb];rfl) ra za a1 b3 a3;rw[M3,hv];clear hv ra rb;exact UN
      .by_cases hE:nE a<nE b
       .have hv:DZ a b=UC (Bg b) (nM b) (nE b) (Bg a) (nM a) (nE a):=by
         rw[M3,Dg b a rb ra,Pj _ _ _ _ _ _ oM b2 oM a2 a3 oM b5]
        exact Zbp
       .have hv:DZ a b=UC (Bg a) (nM a) (nE a) (Bg b) (nM b) (nE b):=by
         rw[Dg a b ra rb,Pj _ _ _ _ _ _ oM a2 oM b2 b3 oM a5]
        exact Zbp
    .obtain⟨rb,-,b1⟩:=Eb b g0 g1 hib;have hv:DZ a b=Iy (Bg b)+2139095040:=by rw[Dg a b ra rb,<-CM];rfl
     rw[hv];clear hv ra rb;exact UN
   .obtain⟨ra,-,a1⟩:=Eb a h0 h1 hia;cases hib:Ej b
    .obtain⟨rb,b1,b2,b3,b4,b5⟩:=Cg b g0 g1 hib hnb;have hv:DZ a b=Iy (Bg a)+2139095040:=by rw[Dg a b ra rb,<-CM];rfl
     rw[hv];clear hv ra rb;exact UN
    .obtain⟨rb,-,b1⟩:=Eb b g0 g1 hib;cases hma:Bg a<;>cases hmb:Bg b<;>rw[hma]at ra<;>rw[hmb]at rb
     .have hv:DZ a b=Iy false+2139095040:=by rw[Dg a b ra rb,<-CM];rfl
      rw[hv];clear hv ra rb;exact UN
     .have hv:DZ a b=2143289344:=by rw[Dg a b ra rb];rfl
      rw[hv];clear hv ra rb;exact UN
     .have hv:DZ a b=2143289344:=by rw[Dg a b ra rb];rfl
      rw[hv];clear hv ra rb;exact UN
     .have hv:DZ a b=Iy true+2139095040:=by rw[Dg a b ra rb,<-CM];rfl
      rw[hv];clear hv ra rb;exact UN
  .have hv:=Of a b h0 h1 g0 g1 (Or.inr hnb);rw[hv];clear hv;exact UN
 .have hv:=Of a b h0 h1 g0 g1 (Or.inl hna);rw[hv];clear hv;exact UN
theorem Ju(d e:Ieee.Datum)(h:d.isNaN=true):e.sum d=none:=by
 cases d<;>simp[Ieee.Datum.isNaN]at h
 cases e<;>rfl
theorem YS(a b:Int)(g0:0<=b)(g1:b<4294967296):Ow a b=DZ a (Kh b):=by
 cases hn:nan b
 .rw[Ov b g0 g1 hn];unfold Ow DZ Ieee.Format.sub Ieee.Format.add;rw[Int.toNat_natCast,TV _ oM]
 .rw[Ou b g0 g1 hn];have h2:2139095040<rg b.toNat:=by rw[Kt b g0]at hn;simpa using hn
  unfold Ow DZ Ieee.Format.sub Ieee.Format.add;rw[ER _ h2,show Ieee.single.read (2143289344:Int).toNat=.nan false 4194304 from by decide,Ju _ _ rfl,Ju _ _ rfl]
theorem Xm(a:Int)(h0:0<=a)(h1:a<4294967296)(b:Int)(g0:0<=b)(g1:b<4294967296)(w:World):
 Calls prog 143 #[.int .i64 a,.int .i64 b] w fun e w'=>e=.returned (.int .i64 (Ow a b))/\Below w.heap.size w w':=by
 rw[YS a b g0 g1];have hl:=RD b g0 g1;go_enter func143,ntmps143;go_wp2_with(first
  |(go_at_call 139;refine(OX _ g0 g1 _).mono ?_;rintro e w1 ⟨rfl,hb1⟩)
  |(go_at_call 123;refine(KZ _ h0 h1 _ hl.1 hl.2 _).mono ?_;rintro e w2 ⟨rfl,hb2⟩))
 go_ret;exact⟨rfl,JZ hb1 hb2⟩
def AB(a:Int):Prop:=0<=a/\a<4294967296
theorem Dx(a:Int)(h:AB a):AB (Ae a):=Fo a h.1 h.2
theorem RH(a b:Int):AB (DZ a b):=Ng a b
theorem Z4(a b:Int):AB (Ow a b):=YT a b
theorem Z1(a b:Int):AB (Fq a b):=Ea a b
theorem YZ(a b:Int):AB (Ha a b):=YP a b
theorem VT(a:Int):AB (Eg a):=VH a
theorem Z2(a:Int)(h:AB a):AB (Kh a):=RD a h.1 h.2
theorem YY(a:Int)(h:AB a):AB (YO a):=Fo _ (by have:=h.1;omega) (by have:=h.1;omega)
theorem JL(a b:Int)(h:AB a)(k:AB b):AB (JB a b):=by
 have h1:=h.1;have h2:=h.2;have k1:=k.1;have k2:=k.2;unfold AB JB;split
 .decide
 .exact h
 .exact k
 .split
  .exact h
  .exact k
theorem Z0(a b:Int)(h:AB a)(k:AB b):AB (Kg a b):=by
 have h1:=h.1;have h2:=h.2;have k1:=k.1;have k2:=k.2;unfold AB Kg;split
 .decide
 .exact k
 .exact h
 .split
  .exact k
  .exact h
theorem Z3(c a b:Int)(h:AB a)(k:AB b):AB (Nl c a b):=by
 unfold Nl;split
 .exact Dx b k
 .exact Dx a h
def Ma(f:Int->Int->Int)(s:Int)(X:Nat->Int):Nat->Int
 |0=>s
 |n+1=>f (Ma f s X n) (X n)
theorem Fs{f:Int->Int->Int}(hf:∀a b,AB a->AB b->AB (f a b)){s:Int}(hs:AB s){X:Nat->Int}(hX:∀i,AB (X i)):∀n,AB (Ma f s X n)
 |0=>hs
 |n+1=>hf _ _ (Fs hf hs hX n) (hX n)
def LI(X:Nat->Int)(n:Nat):Int:=Ma DZ 0 X n
def Fe(X:Nat->Int)(n:Nat):Int:=Ma JB 2139095040 X n
theorem Jj:AB 0:=by unfold AB;decide
theorem Z5(X:Nat->Int)(n:Nat)(hX:∀i,AB (X i)):AB (LI X n):=Fs (fun _ _ _ _=>Ng _ _) Jj hX n
def D9(op:Int):Nat:=
 if op=3\/op=11\/op=12\/op=13\/op=14 then 1 else if op=4\/op=5\/op=6\/op=7\/op=8\/op=9\/op=10 then 2 else if op=15 then 3 else 0
def Qe(b:Bool):Int:=if b then 1065353216 else 0
theorem OD(b:Bool):AB (Qe b):=by unfold AB Qe;cases b<;>decide
theorem C6{c:Prop}[Decidable c]{a b:Int}(h:AB a)(k:AB b):AB (if c then a else b):=by
 split
 .exact h
 .exact k
def Jo(op a b c:Int):Int:=
 if op=3 then Ae a else if op=11 then Eg a else if op=12 then Kh a else if op=13 then YO a else if op=14 then Qe (ffin a)
 else if op=4 then DZ a b else if op=5 then Ow a b else if op=6 then Fq a b else if op=7 then Ha a b else if op=8 then JB a b else if op=9 then Kg a b
 else if op=10 then Qe (Kf a b)else Nl a b c
theorem RI(op a b c:Int)(ha:AB a)(hb:AB b)(hc:AB c):AB (Jo op a b c):=
 C6 (Dx a ha) (C6 (VT a) (C6 (Z2 a ha) (C6 (YY a ha) (C6 (OD _) (C6 (RH a b) (C6 (Z4 a b) (C6 (Z1 a b)
  (C6 (YZ a b) (C6 (JL a b ha hb) (C6 (Z0 a b ha hb) (C6 (OD _) (Z3 a b c hb hc))))))))))))
def Jb(X:Nat->Value)(n:Nat):List Value:=(List.range n).map X
theorem vals_at(X:Nat->Value)(n i:Nat)(h:i<n):(Jb X n)[i]? =some (X i):=by simp[Jb,h]
theorem MR(X:Nat->Value)(n:Nat):Jb X (n+1)=Jb X n++[X n]:=by unfold Jb;rw[List.range_succ];simp
theorem Mu{w:World}{base:Nat}{e:TypeId}{v:Value}{n:Nat}{X:Nat->Value}(h:w.ownsRow base e 1 v n (Jb X n)):
 ∃q cap,v=.slice q n cap/\Bh w q n X/\(∀b o s,q=some ⟨b,o,s⟩->base<=b)/\(q=none->n=0/\cap=0)/\n<=cap:=by
 rcases h.2 with⟨rfl,hx⟩|⟨g,cap,cur,rfl,hb,hg,rest⟩
 .subst hx;exact⟨none,0,rfl,.inl rfl,fun b o s e=>(by cases e),fun _=>⟨rfl,rfl⟩,gF _⟩
 .refine⟨some ⟨g,0,none⟩,cap,rfl,.inr ⟨g,0,rfl,fun i hi=>?_⟩,fun b o s e=>(by cases e;exact hb),fun e=>(by cases e),rest.1⟩;have:=h.cells (g:=g) rfl i (X i) (vals_at X n i hi);rw[Nat.zero_add];by_cases c:i=0
  .subst c;simpa[Addr.add]using this
  .simpa[Addr.add,c]using this
theorem VQ:(prog.info? 3).map (fun i=>(i.zero,i.size,i.bytes))=some (some (.int .i64 0),1,8):=kR

theorem UJ(p:Option Addr)(n c:Nat)(X:Nat->Int)(hX:∀i,AB (X i))(hn:n<=1048576)(w:World)(hp:Bh w p n (fun i=>.int .i64 (X i))):
 Calls prog 102 #[.slice p n c] w fun e w'=>e=.returned (.int .i64 (LI X n))/\Below w.heap.size w w':=by
 go_enter func102,ntmps102;go_wp2
 go_loopw [3,4] (fun sv iv wr=>Below w.heap.size w wr/\∃j:Nat,j<=n/\iv=.int .i64 j/\sv=.int .i64 (LI X j)) (fun _ iv _=>n-(intOf iv).toNat)
 case atStart=>exact⟨LZ w,0,gI _,rfl,rfl⟩
 case round=>
  obtain⟨hb,j,hj,rfl,rfl⟩:=hrel;by_cases hlt:j<n
  .rcases hp with hp|⟨b,o,rfl,hp⟩
   .omega
   have hbl:b<w.heap.size:=IS (hp j hlt);have h1:wr.cell? ⟨b,o+j,none⟩=some (.int .i64 (X j)):=(hb.cell hbl).trans (hp j hlt);have i1:(0:Int)<=(j:Int):=oM;have i2:(j:Int)<(n:Int):=oM;have s1:AB (LI X j):=Fs (fun _ _ _ _=>RH _ _) Zht hX j;have x1:=hX j;clear hp hX;go_wp2_with(go_at_call 123;refine(KZ _ s1.1 s1.2 _ x1.1 x1.2 _).mono ?_;rintro e w1 ⟨rfl,hb1⟩);go_roundw
   case rel=>exact⟨JZ hb hb1,j+1,oM,gN,rfl⟩
   case measure=>simp[intOf];omega
  .have:j=n:=oM;subst this;clear hp hX;go_wp2;go_ret;exact⟨rfl,hb⟩
theorem QN(p:Option Addr)(n c:Nat)(X:Nat->Int)(hX:∀i,AB (X i))(hn:n<=1048576)(w:World)(hp:Bh w p n (fun i=>.int .i64 (X i))):
 Calls prog 103 #[.slice p n c] w fun e w'=>e=.returned (.int .i64 (Fe X n))/\Below w.heap.size w w':=by
 go_enter func103,ntmps103;go_wp2
 go_loopw [3,4] (fun sv iv wr=>Below w.heap.size w wr/\∃j:Nat,j<=n/\iv=.int .i64 j/\sv=.int .i64 (Fe X j)) (fun _ iv _=>n-(intOf iv).toNat)
 case atStart=>exact⟨LZ w,0,gI _,rfl,rfl⟩
 case round=>
  obtain⟨hb,j,hj,rfl,rfl⟩:=hrel;by_cases hlt:j<n
  .rcases hp with hp|⟨b,o,rfl,hp⟩
   .omega
   have hbl:b<w.heap.size:=IS (hp j hlt);have h1:wr.cell? ⟨b,o+j,none⟩=some (.int .i64 (X j)):=(hb.cell hbl).trans (hp j hlt);have i1:(0:Int)<=(j:Int):=oM;have i2:(j:Int)<(n:Int):=oM;have s1:AB (Fe X j):=Fs JL Zht hX j;have x1:=hX j;clear hp hX;go_wp2_with(go_at_call 124;refine(OW _ s1.1 s1.2 _ x1.1 x1.2 _).mono ?_;rintro e w1 ⟨rfl,hb1⟩);go_roundw
   case rel=>exact⟨JZ hb hb1,j+1,oM,gN,rfl⟩
   case measure=>simp[intOf];omega
  .have:j=n:=oM;subst this;clear hp hX;go_wp2;go_ret;exact⟨rfl,hb⟩
theorem U6(a:Int)(h:AB a)(w:World):
 Calls prog 142 #[.int .i64 a] w fun e w'=>e=.returned (.bool (ffin a))/\w'=w:=by
 have h0:=h.1;have h1:=h.2;have t1:a.tmod 2147483648=a%2147483648:=Int.tmod_eq_emod_of_nonneg h0;go_enter func142,ntmps142;go_wp2;go_ret;exact⟨rfl,rfl⟩

structure PD(k:IntKind)(w:World)(q:Option Addr)(m:Nat)(P:Nat->Option Addr)(l c:Nat->Nat)(X:Nat->Nat->Int):Prop where
 heads:Bh w q m (fun i=>.slice (P i) (l i) (c i))
 parts:∀i,i<m->Bh w (P i) (l i) (fun j=>.int k (X i j))
theorem PD.below{k:IntKind}{w w':World}{q:Option Addr}{m:Nat}{P:Nat->Option Addr}{l c:Nat->Nat}{X:Nat->Nat->Int}(h:PD k w q m P l c X)(b:Below w.heap.size w w'):PD k w' q m P l c X:=
 ⟨h.heads.below b,fun i hi=>(h.parts i hi).below b⟩
theorem QG{w w':World}{base:Nat}{e:TypeId}{v:Value}{n:Nat}{xs:List Value}(h:w.ownsRow base e 1 v n xs)(k:Below w.heap.size w w'):w'.ownsRow base e 1 v n xs:=by
 refine h.kept (row:=none) ⟨k.os,k.tape,k.output,k.size,fun j hj _=>k.block j hj⟩ ?_;cases v.ownBlock<;>simp
theorem Jw(op:Int)(h:D9 op≠0):op=3\/op=11\/op=12\/op=13\/op=14\/op=4\/op=5\/op=6\/op=7\/op=8\/op=9\/op=10\/op=15:=by
 unfold D9 at h;split at h
 .omega
 .split at h
  .omega
  .split at h
   .omega
   .exact absurd rfl h

def Es(l:Nat->Nat):Nat->Option Nat
 |0=>some (l 0)
 |j+1=>match Es l j with
  |none=>none
  |some n=>if l (j+1)=n then some n else if l (j+1)=0\/n=0 then none else if n=1 then some (l (j+1))else if l (j+1)=1 then some n else none
theorem Iz{l:Nat->Nat}{j n:Nat}(h:Es l j=some n):Es l (j+1)=if l (j+1)=n then some n else if l (j+1)=0\/n=0 then none else if n=1 then some (l (j+1))else if l (j+1)=1 then some n else none:=by
 show(match Es l j with |none=>none|some n=>_)=_;rw[h]
theorem Lm{l:Nat->Nat}{j:Nat}(h:Es l j=none):∀M,j<=M->Es l M=none:=by
 intro M;induction M with
 |zero=>
  intro hj;have:j=0:=oM;subst this;exact h
 |succ M ih=>
  intro hj;rcases Nat.lt_or_ge M j with c|c
  .have:j=M+1:=oM;subst this;exact h
  .show(match Es l M with |none=>none|some n=>_)=_;rw[ih c]
theorem shp_le{l:Nat->Nat}{N:Nat}(hl:∀i,l i<=N):∀ {M n:Nat},Es l M=some n->n<=N:=by
 intro M;induction M with
 |zero=>intro n h;cases h;exact hl 0
 |succ M ih=>
  intro n h;cases e:Es l M with
  |none=>rw[Lm e (M+1) oM]at h;cases h
  |some k=>
   rw[Iz e]at h;have:=ih e;have:=hl (M+1)
   repeat' split at h
   all_goals cases h
   all_goals omega
theorem Pc{l:Nat->Nat}:∀ {M n:Nat},Es l M=some n->∀i,i<=M->l i=n\/(l i=1/\n≠0):=by
 intro M;induction M with
 |zero=>
  intro n h i hi;cases h;have:i=0:=oM;subst this;exact .inl rfl
 |succ M ih=>
  intro n h i hi;cases e:Es l M with
  |none=>rw[Lm e (M+1) oM]at h;cases h
  |some k=>
   rw[Iz e]at h;have hi':i<=M\/i=M+1:=oM;split at h
   .cases h
    rcases hi' with c|c
    .exact ih e i c
    .subst c;left;assumption
   .split at h
    .cases h
    .split at h
     .cases h
      rcases hi' with c|c
      .have:=ih e i c;omega
      .subst c;exact .inl rfl
     .split at h
      .cases h
       rcases hi' with c|c
       .exact ih e i c
       .subst c;right;omega
      .cases h
def Gf(l:Nat->Nat)(X:Nat->Nat->Int)(m i j:Nat):Int:=if j<m then X j (if l j=1 then 0 else i)else 0
theorem CR{l:Nat->Nat}{X:Nat->Nat->Int}(hX:∀i j,AB (X i j))(m i j:Nat):AB (Gf l X m i j):=C6 (hX _ _) Jj
theorem GU{k:IntKind}{w:World}{b o m:Nat}{P:Nat->Option Addr}{l c:Nat->Nat}{X:Nat->Nat->Int}(h:PD k w (some ⟨b,o,none⟩) m P l c X)(i:Nat)(hi:i<m):w.cell? ⟨b,o+i,none⟩=some (.slice (P i) (l i) (c i)):=by
 rcases h.heads with q|⟨b',o',e,hh⟩
 .omega
 .cases e;exact hh i hi
theorem Ut{l:Nat->Nat}{M n i j:Nat}(h:Es l M=some n)(hj:j<=M)(hi:i<n):l j=1\/i<l j:=by
 rcases Pc h j hj with e|e
 .right;omega
 .left;exact e.1
theorem Lx(op:Int):D9 op<=3:=by
 unfold D9;split
 .omega
 .split
  .omega
  .split<;>omega

def sl:Nat->Nat:=fun i=>if i=0 then 2 else 1
end Go.Proofs.YtpoklpdgpcnkgaaGreat
