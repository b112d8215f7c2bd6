import Derived.Test.YtjglaibglofddaaGreatSpe11
import Derived.Deep.OwnRows
import Derived.OwnWalk
import Derived.Deep.QuietTactic
import Derived.BigQuiet
import Derived.Deep.AppendLies
import Derived.Maps.AppendAt
import Derived.Laws.AppendOwnNone
import Derived.Shelf.Abstract
import Derived.Deep.RegionHeld3
import Derived.Laws.EntriesVeiled
import Derived.Test.YtjglaibglofddaaGreatSpe1
namespace Go.Proofs.YtjglaibglofddaaGreat
open Go.RowKit Go.Proofs.Tryz
set_option linter.all false
set_option maxRecDepth 100000
set_option maxHeartbeats 16000000
theorem JZ(a b:Int)(h0:0<=a)(h1:a<4294967296)(g0:0<=b)(g1:b<4294967296)(h:Bc a=true\/Bc b=true):CJ a b=2143289344:=by
 rcases h with h|h
 .obtain⟨s,t,e⟩:=E1 a h0 h1 h;rw[BP a b e rfl];cases Ieee.single.read b.toNat<;>rfl
 .obtain⟨s,t,e⟩:=E1 b g0 g1 h;rw[BP a b rfl e];cases Ieee.single.read a.toNat<;>rfl
theorem IB(a b:Int)(h0:0<=a)(h1:a<4294967296)(g0:0<=b)(g1:b<4294967296){s:Bool}{i:Int}(ra:Ieee.single.read a.toNat=.number s 0 i)(rb:Ieee.single.read b.toNat=.number (AK b) (nM b).toNat (nE b))(hb:nM b≠0)(hb0:0<=nM b)(hi: -149<=i)(hj: -149<=nE b):
 CJ a b=(Ieee.single.nearest (AK b) (nM b).toNat (nE b):Nat):=by
 rw[BP a b ra rb];simp only[Ieee.Datum.sum,Option.map_some,Ieee.Format.write];generalize hbase:min i (nE b)=base;have hz:Ieee.signed s 0 (i-base).toNat=0:=by unfold Ieee.signed;simp
 rw[hz,Int.zero_add,Gi];have hP:(1:Int)<=2^(nE b-base).toNat:=Int.pow_pos dE;have hX:0<((nM b).toNat:Int)*2^(nE b-base).toNat:=Int.mul_pos oM oM;have e1:¬ (Fj (AK b) (((nM b).toNat:Int)*2^(nE b-base).toNat)=0):=by
  unfold Fj;split<;>omega
 have e2:decide (Fj (AK b) (((nM b).toNat:Int)*2^(nE b-base).toNat)<0)=AK b:=by
  generalize ((nM b).toNat:Int)*2^(nE b-base).toNat=X at *;cases AK b<;>simp only[Fj,if_true,if_false,Bool.false_eq_true]<;>simp<;>omega
 have e3:(Fj (AK b) (((nM b).toNat:Int)*2^(nE b-base).toNat)).natAbs=(nM b).toNat*2^(nE b-base).toNat:=by
  have hc:(((nM b).toNat*2^(nE b-base).toNat:Nat):Int)=((nM b).toNat:Int)*2^(nE b-base).toNat:=by rw[Int.natCast_mul,Int.natCast_pow];rfl
  unfold Fj;split<;>omega
 rw[if_neg e1,e2,e3];show((Ieee.single.nearest (AK b) _ base:Nat):Int)=_;rw[B9,B9,Cr,Bo];obtain⟨c,hc⟩:∃c:Nat,(c:Int)=base+149:=⟨(base+149).toNat,oM⟩
 obtain⟨d,hd⟩:∃d:Nat,(d:Int)=nE b+149:=⟨(nE b+149).toNat,oM⟩
 have r1:=KZ ((nM b).toNat*2^(nE b-base).toNat) c;have r2:=KZ (nM b).toNat d;rw[show -149+(c:Int)=base by omega]at r1;rw[show -149+(d:Int)=nE b by omega]at r2;rw[r1,r2,Nat.mul_assoc,<-Nat.pow_add,show(nE b-base).toNat+c=d by omega]
theorem Hy(a:Int)(h0:0<=a)(h1:a<4294967296)(b:Int)(g0:0<=b)(g1:b<4294967296)(w:World):
 Calls prog 70 #[.int .i64 a,.int .i64 b] w fun e w'=>e=.returned (.int .i64 (CJ a b))/\Below w.heap.size w w':=by
 cases hna:Bc a
 .cases hnb:Bc b
  .cases hia:CF a
   .obtain⟨ra,a1,a2,a3,a4,a5⟩:=Be a h0 h1 hia hna;cases hib:CF b
    .obtain⟨rb,b1,b2,b3,b4,b5⟩:=Be b g0 g1 hib hnb;by_cases za:nM a=0
     .by_cases zb:nM b=0
      .have hv:CJ a b=FY (AK a&&AK b):=by
        rw[BP a b ra rb,za,zb];simp only[Ieee.Datum.sum,Option.map_some,Ieee.Format.write];have:Ieee.signed (AK a) (0:Int).toNat (nE a-min (nE a) (nE b)).toNat+Ieee.signed (AK b) (0:Int).toNat (nE b-min (nE a) (nE b)).toNat=0:=by unfold Ieee.signed;simp
        rw[this,if_pos rfl];exact EZ _ _
       rw[hv];clear hv ra rb;cases hma:AK a
       .rw[Bool.false_and];exact PO
       .rw[Bool.true_and];exact PO
      .have hv:=IB a b h0 h1 g0 g1 (s:=AK a) (i:=nE a) (by rw[ra,za];rfl) rb zb b1 a3 b3;rw[hv];clear hv ra rb;exact PO
     .by_cases zb:nM b=0
      .have hv:=IB b a g0 g1 h0 h1 (s:=AK b) (i:=nE b) (by rw[rb,zb];rfl) ra za a1 b3 a3;rw[IA,hv];clear hv ra rb;exact PO
      .by_cases hE:nE a<nE b
       .have hv:CJ a b=PE (AK b) (nM b) (nE b) (AK a) (nM a) (nE a):=by
         rw[IA,BP b a rb ra,Ll _ _ _ _ _ _ oM b2 oM a2 a3 oM b5]
        exact Ym
       .have hv:CJ a b=PE (AK a) (nM a) (nE a) (AK b) (nM b) (nE b):=by
         rw[BP a b ra rb,Ll _ _ _ _ _ _ oM a2 oM b2 b3 oM a5]
        exact Ym
    .obtain⟨rb,-,b1⟩:=Cw b g0 g1 hib;have hv:CJ a b=FY (AK b)+2139095040:=by rw[BP a b ra rb,<-Bu];rfl
     rw[hv];clear hv ra rb;exact PO
   .obtain⟨ra,-,a1⟩:=Cw a h0 h1 hia;cases hib:CF b
    .obtain⟨rb,b1,b2,b3,b4,b5⟩:=Be b g0 g1 hib hnb;have hv:CJ a b=FY (AK a)+2139095040:=by rw[BP a b ra rb,<-Bu];rfl
     rw[hv];clear hv ra rb;exact PO
    .obtain⟨rb,-,b1⟩:=Cw b g0 g1 hib;cases hma:AK a<;>cases hmb:AK b<;>rw[hma]at ra<;>rw[hmb]at rb
     .have hv:CJ a b=FY false+2139095040:=by rw[BP a b ra rb,<-Bu];rfl
      rw[hv];clear hv ra rb;exact PO
     .have hv:CJ a b=2143289344:=by rw[BP a b ra rb];rfl
      rw[hv];clear hv ra rb;exact PO
     .have hv:CJ a b=2143289344:=by rw[BP a b ra rb];rfl
      rw[hv];clear hv ra rb;exact PO
     .have hv:CJ a b=FY true+2139095040:=by rw[BP a b ra rb,<-Bu];rfl
      rw[hv];clear hv ra rb;exact PO
  .have hv:=JZ a b h0 h1 g0 g1 (Or.inr hnb);rw[hv];clear hv;exact PO
 .have hv:=JZ a b h0 h1 g0 g1 (Or.inl hna);rw[hv];clear hv;exact PO
theorem GF(d e:Ieee.Datum)(h:d.isNaN=true):e.sum d=none:=by
 cases d<;>simp[Ieee.Datum.isNaN]at h
 cases e<;>rfl
theorem To(a b:Int)(g0:0<=b)(g1:b<4294967296):Ki a b=CJ a (Hh b):=by
 cases hn:nan b
 .rw[Kh b g0 g1 hn];unfold Ki CJ Ieee.Format.sub Ieee.Format.add;rw[Int.toNat_natCast,P4 _ oM]
 .rw[Kg b g0 g1 hn];have h2:2139095040<rg b.toNat:=by rw[Hq b g0]at hn;simpa using hn
  unfold Ki CJ Ieee.Format.sub Ieee.Format.add;rw[De _ h2,show Ieee.single.read (2143289344:Int).toNat=.nan false 4194304 from by decide,GF _ _ rfl,GF _ _ rfl]
theorem RP(a:Int)(h0:0<=a)(h1:a<4294967296)(b:Int)(g0:0<=b)(g1:b<4294967296)(w:World):
 Calls prog 113 #[.int .i64 a,.int .i64 b] w fun e w'=>e=.returned (.int .i64 (Ki a b))/\Below w.heap.size w w':=by
 rw[To a b g0 g1];have hl:=Nj b g0 g1;go_enter func113,ntmps113;go_wp2_with(first
  |(go_at_call 109;refine(Ky _ g0 g1 _).mono ?_;rintro e w1 ⟨rfl,hb1⟩)
  |(go_at_call 70;refine(Hy _ h0 h1 _ hl.1 hl.2 _).mono ?_;rintro e w2 ⟨rfl,hb2⟩))
 go_ret;exact⟨rfl,H5 hb1 hb2⟩
theorem Pj(a:Int)(h0:0<=a)(h1:a<4294967296)(w:World):
 Calls prog 108 #[.int .i64 a] w fun e w'=>e=.returned (.int .i64 (CB a))/\Below w.heap.size w w':=by
 cases hna:Bc a
 .cases hia:CF a
  .by_cases za:nM a=0
   .obtain⟨ra,a1,a2,a3,a4,a5⟩:=Be a h0 h1 hia hna;have hv:CB a=a:=by
     rw[Ez a ra,za];have e:((Ieee.single.nearest (AK a) 0 (nE a):Nat):Int)=FY (AK a):=EZ _ _;show((Ieee.single.nearest (AK a) 0 (nE a):Nat):Int)=a;rw[e];have h2:=Jz a h0 h1 hia hna;have h3:=Dt a h0 h1;have h4:rg a.toNat=0:=by
      have:mg a.toNat=0:=oM;unfold mg at this;split at this<;>omega
     rw[h2.2.1,h4]at h3;unfold FY;omega
    rw[hv];clear hv ra a5;go_enter func108,ntmps108;exact PZ
   .cases hs:AK a
    .exact Pk a h0 h1 hia hna za hs w
    .obtain⟨ra,a1,a2,a3,a4,a5⟩:=Be a h0 h1 hia hna;have hv:CB a=2143289344:=by
      rw[Ez a ra,hs];have:(nM a).toNat≠0:=oM;simp only[Ieee.Datum.root,if_neg this,if_true];rfl
     rw[hv];clear hv ra a5;go_enter func108,ntmps108;exact PZ
  .obtain⟨ra,-,a1⟩:=Cw a h0 h1 hia;cases hs:AK a
   .have hv:CB a=a:=by
     rw[Ez a ra,hs];have h2:rg a.toNat=2139095040:=by
      rcases Nat.lt_trichotomy (rg a.toNat) 2139095040 with c|c|c
      .rw[BB _ c]at ra;cases ra
      .exact c
      .rw[De _ c]at ra;cases ra
     have h3:=Dt a h0 h1;rw[<-Jo a h0 h1,hs,h2]at h3;show((Ieee.single.write (.infinity false):Nat):Int)=a;rw[Bu];unfold FY;omega
    rw[hv];clear hv ra;go_enter func108,ntmps108;exact PZ
   .have hv:CB a=2143289344:=by rw[Ez a ra,hs];rfl
    rw[hv];clear hv ra;go_enter func108,ntmps108;exact PZ
 .have hv:CB a=2143289344:=by
   obtain⟨s,t,e⟩:=E1 a h0 h1 hna;rw[Ez a e];rfl
  rw[hv];clear hv;go_enter func108,ntmps108;exact PZ
def AP(w:World)(p:Option Addr)(n:Nat)(X:Nat->Value):Prop:=n=0\/∃b o,p=some ⟨b,o,none⟩/\∀i,i<n->w.cell? ⟨b,o+i,none⟩=some (X i)
theorem AP.below{w w':World}{p:Option Addr}{n:Nat}{X:Nat->Value}(h:AP w p n X)(k:Below w.heap.size w w'):AP w' p n X:=by
 rcases h with h|⟨b,o,e,h⟩
 .exact .inl h
 .exact .inr ⟨b,o,e,fun i hi=>(k.cell (G9 (h i hi))).trans (h i hi)⟩
theorem AP.congr{w:World}{p:Option Addr}{n:Nat}{X Y:Nat->Value}(h:AP w p n X)(e:∀i,i<n->X i=Y i):AP w p n Y:=by
 rcases h with h|⟨b,o,q,h⟩
 .exact .inl h
 .exact .inr ⟨b,o,q,fun i hi=>by rw[h i hi,e i hi]⟩

def nums(X:Nat->Int)(n:Nat):List Value:=(List.range n).map fun i=>.int .u32 (X i)
def Ar(a:Int):Prop:=0<=a/\a<4294967296
theorem Cm(a:Int)(h:Ar a):Ar (A9 a):=DD a h.1 h.2
theorem Nm(a b:Int):Ar (CJ a b):=Ng a b
theorem TA(a b:Int):Ar (Ki a b):=Tp a b
theorem Tw(a b:Int):Ar (Ek a b):=DR a b
theorem Tu(a b:Int):Ar (F9 a b):=Tl a b
theorem Qx(a:Int):Ar (CB a):=Qs a
theorem Tx(a:Int)(h:Ar a):Ar (Hh a):=Nj a h.1 h.2
theorem Tt(a:Int)(h:Ar a):Ar (Tj a):=DD _ (by have:=h.1;omega) (by have:=h.1;omega)
theorem Jk(a b:Int)(h:Ar a)(k:Ar b):Ar (GL a b):=by
 have h1:=h.1;have h2:=h.2;have k1:=k.1;have k2:=k.2;unfold Ar GL;split
 .decide
 .exact h
 .exact k
 .split
  .exact h
  .exact k
theorem Tv(a b:Int)(h:Ar a)(k:Ar b):Ar (Hg a b):=by
 have h1:=h.1;have h2:=h.2;have k1:=k.1;have k2:=k.2;unfold Ar Hg;split
 .decide
 .exact k
 .exact h
 .split
  .exact k
  .exact h
theorem Tz(c a b:Int)(h:Ar a)(k:Ar b):Ar (Ji c a b):=by
 unfold Ji;split
 .exact Cm b k
 .exact Cm a h
def Nk(f:Int->Int->Int)(s:Int)(X:Nat->Int):Nat->Int
 |0=>s
 |n+1=>f (Nk f s X n) (X n)
theorem Ey{f:Int->Int->Int}(hf:∀a b,Ar a->Ar b->Ar (f a b)){s:Int}(hs:Ar s){X:Nat->Int}(hX:∀i,Ar (X i)):∀n,Ar (Nk f s X n)
 |0=>hs
 |n+1=>hf _ _ (Ey hf hs hX n) (hX n)
def Im(X:Nat->Int)(n:Nat):Int:=Nk CJ 0 X n
def Dy(X:Nat->Int)(n:Nat):Int:=Nk GL 2139095040 X n
theorem Hl:Ar 0:=by unfold Ar;decide
theorem TB(X:Nat->Int)(n:Nat)(hX:∀i,Ar (X i)):Ar (Im X n):=Ey (fun _ _ _ _=>Ng _ _) Hl hX n
def BI(op:Int):Nat:=
 if op=3\/op=11\/op=12\/op=13\/op=14 then 1 else if op=4\/op=5\/op=6\/op=7\/op=8\/op=9\/op=10 then 2 else if op=15 then 3 else 0
def M9(b:Bool):Int:=if b then 1065353216 else 0
theorem Kl(b:Bool):Ar (M9 b):=by unfold Ar M9;cases b<;>decide
theorem B4{c:Prop}[Decidable c]{a b:Int}(h:Ar a)(k:Ar b):Ar (if c then a else b):=by
 split
 .exact h
 .exact k
def Hu(op a b c:Int):Int:=
 if op=3 then A9 a else if op=11 then CB a else if op=12 then Hh a else if op=13 then Tj a else if op=14 then M9 (Wr a)
 else if op=4 then CJ a b else if op=5 then Ki a b else if op=6 then Ek a b else if op=7 then F9 a b else if op=8 then GL a b else if op=9 then Hg a b
 else if op=10 then M9 (Hf a b)else Ji a b c
theorem Nn(op a b c:Int)(ha:Ar a)(hb:Ar b)(hc:Ar c):Ar (Hu op a b c):=
 B4 (Cm a ha) (B4 (Qx a) (B4 (Tx a ha) (B4 (Tt a ha) (B4 (Kl _) (B4 (Nm a b) (B4 (TA a b) (B4 (Tw a b)
  (B4 (Tu a b) (B4 (Jk a b ha hb) (B4 (Tv a b ha hb) (B4 (Kl _) (Tz a b c hb hc))))))))))))
def Gn(X:Nat->Value)(n:Nat):List Value:=(List.range n).map X
theorem UK(X:Nat->Value)(n i:Nat)(h:i<n):(Gn X n)[i]? =some (X i):=by simp[Gn,h]
theorem J4(X:Nat->Value)(n:Nat):Gn X (n+1)=Gn X n++[X n]:=by unfold Gn;rw[List.range_succ];simp
theorem IS{w:World}{base:Nat}{e:TypeId}{v:Value}{n:Nat}{X:Nat->Value}(h:w.ownsRow base e 1 v n (Gn X n)):
 ∃q cap,v=.slice q n cap/\AP w q n X/\(∀b o s,q=some ⟨b,o,s⟩->base<=b)/\(q=none->n=0/\cap=0)/\n<=cap:=by
 rcases h.2 with⟨rfl,hx⟩|⟨g,cap,cur,rfl,hb,hg,rest⟩
 .subst hx;exact⟨none,0,rfl,.inl rfl,fun b o s e=>(by cases e),fun _=>⟨rfl,rfl⟩,gF _⟩
 .refine⟨some ⟨g,0,none⟩,cap,rfl,.inr ⟨g,0,rfl,fun i hi=>?_⟩,fun b o s e=>(by cases e;exact hb),fun e=>(by cases e),rest.1⟩;have:=h.cells (g:=g) rfl i (X i) (UK X n i hi);rw[Nat.zero_add];by_cases c:i=0
  .subst c;simpa[Addr.add]using this
  .simpa[Addr.add,c]using this
theorem Qw:(prog.info? 3).map (fun i=>(i.zero,i.size,i.bytes))=some (some (.int .i64 0),1,8):=kR

theorem PJ(p:Option Addr)(n c:Nat)(X:Nat->Int)(hX:∀i,Ar (X i))(hn:n<=1048576)(w:World)(hp:AP w p n (fun i=>.int .i64 (X i))):
 Calls prog 40 #[.slice p n c] w fun e w'=>e=.returned (.int .i64 (Im X n))/\Below w.heap.size w w':=by
 go_enter func40,ntmps40;go_wp2
 go_loopw [3,4] (fun sv iv wr=>Below w.heap.size w wr/\∃j:Nat,j<=n/\iv=.int .i64 j/\sv=.int .i64 (Im X j)) (fun _ iv _=>n-(intOf iv).toNat)
 case atStart=>exact⟨Iv w,0,gI _,rfl,rfl⟩
 case round=>
  obtain⟨hb,j,hj,rfl,rfl⟩:=hrel;by_cases hlt:j<n
  .rcases hp with hp|⟨b,o,rfl,hp⟩
   .omega
   have hbl:b<w.heap.size:=G9 (hp j hlt);have h1:wr.cell? ⟨b,o+j,none⟩=some (.int .i64 (X j)):=(hb.cell hbl).trans (hp j hlt);have i1:(0:Int)<=(j:Int):=oM;have i2:(j:Int)<(n:Int):=oM;have s1:Ar (Im X j):=Ey (fun _ _ _ _=>Nm _ _) (by unfold Ar;decide) hX j;have x1:=hX j;clear hp hX;go_wp2_with(go_at_call 70;refine(Hy _ s1.1 s1.2 _ x1.1 x1.2 _).mono ?_;rintro e w1 ⟨rfl,hb1⟩);go_roundw
   case rel=>exact⟨H5 hb hb1,j+1,oM,gN,rfl⟩
   case measure=>simp[intOf];omega
  .have:j=n:=oM;subst this;clear hp hX;go_wp2;go_ret;exact⟨rfl,hb⟩
theorem Mz(p:Option Addr)(n c:Nat)(X:Nat->Int)(hX:∀i,Ar (X i))(hn:n<=1048576)(w:World)(hp:AP w p n (fun i=>.int .i64 (X i))):
 Calls prog 41 #[.slice p n c] w fun e w'=>e=.returned (.int .i64 (Dy X n))/\Below w.heap.size w w':=by
 go_enter func41,ntmps41;go_wp2
 go_loopw [3,4] (fun sv iv wr=>Below w.heap.size w wr/\∃j:Nat,j<=n/\iv=.int .i64 j/\sv=.int .i64 (Dy X j)) (fun _ iv _=>n-(intOf iv).toNat)
 case atStart=>exact⟨Iv w,0,gI _,rfl,rfl⟩
 case round=>
  obtain⟨hb,j,hj,rfl,rfl⟩:=hrel;by_cases hlt:j<n
  .rcases hp with hp|⟨b,o,rfl,hp⟩
   .omega
   have hbl:b<w.heap.size:=G9 (hp j hlt);have h1:wr.cell? ⟨b,o+j,none⟩=some (.int .i64 (X j)):=(hb.cell hbl).trans (hp j hlt);have i1:(0:Int)<=(j:Int):=oM;have i2:(j:Int)<(n:Int):=oM;have s1:Ar (Dy X j):=Ey Jk (by unfold Ar;decide) hX j;have x1:=hX j;clear hp hX;go_wp2_with(go_at_call 71;refine(Kx _ s1.1 s1.2 _ x1.1 x1.2 _).mono ?_;rintro e w1 ⟨rfl,hb1⟩);go_roundw
   case rel=>exact⟨H5 hb hb1,j+1,oM,gN,rfl⟩
   case measure=>simp[intOf];omega
  .have:j=n:=oM;subst this;clear hp hX;go_wp2;go_ret;exact⟨rfl,hb⟩
theorem P9(a:Int)(h:Ar a)(w:World):
 Calls prog 112 #[.int .i64 a] w fun e w'=>e=.returned (.bool (Wr a))/\w'=w:=by
 have h0:=h.1;have h1:=h.2;have t1:a.tmod 2147483648=a%2147483648:=Int.tmod_eq_emod_of_nonneg h0;go_enter func112,ntmps112;go_wp2;go_ret;exact⟨rfl,rfl⟩

structure LF(k:IntKind)(w:World)(q:Option Addr)(m:Nat)(P:Nat->Option Addr)(l c:Nat->Nat)(X:Nat->Nat->Int):Prop where
 heads:AP w q m (fun i=>.slice (P i) (l i) (c i))
 parts:∀i,i<m->AP w (P i) (l i) (fun j=>.int k (X i j))
theorem LF.below{k:IntKind}{w w':World}{q:Option Addr}{m:Nat}{P:Nat->Option Addr}{l c:Nat->Nat}{X:Nat->Nat->Int}(h:LF k w q m P l c X)(b:Below w.heap.size w w'):LF k w' q m P l c X:=
 ⟨h.heads.below b,fun i hi=>(h.parts i hi).below b⟩
theorem Mt{w w':World}{base:Nat}{e:TypeId}{v:Value}{n:Nat}{xs:List Value}(h:w.ownsRow base e 1 v n xs)(k:Below w.heap.size w w'):w'.ownsRow base e 1 v n xs:=by
 refine h.kept (row:=none) ⟨k.os,k.tape,k.output,k.size,fun j hj _=>k.block j hj⟩ ?_;cases v.ownBlock<;>simp
theorem GG(op:Int)(h:BI op≠0):op=3\/op=11\/op=12\/op=13\/op=14\/op=4\/op=5\/op=6\/op=7\/op=8\/op=9\/op=10\/op=15:=by
 unfold BI at h;split at h
 .omega
 .split at h
  .omega
  .split at h
   .omega
   .exact absurd rfl h

def Dh(l:Nat->Nat):Nat->Option Nat
 |0=>some (l 0)
 |j+1=>match Dh l j with
  |none=>none
  |some n=>if l (j+1)=n then some n else if l (j+1)=0\/n=0 then none else if n=1 then some (l (j+1))else if l (j+1)=1 then some n else none
theorem FZ{l:Nat->Nat}{j n:Nat}(h:Dh l j=some n):Dh l (j+1)=if l (j+1)=n then some n else if l (j+1)=0\/n=0 then none else if n=1 then some (l (j+1))else if l (j+1)=1 then some n else none:=by
 show(match Dh l j with |none=>none|some n=>_)=_;rw[h]
theorem I7{l:Nat->Nat}{j:Nat}(h:Dh l j=none):∀M,j<=M->Dh l M=none:=by
 intro M;induction M with
 |zero=>
  intro hj;have:j=0:=oM;subst this;exact h
 |succ M ih=>
  intro hj;rcases Nat.lt_or_ge M j with c|c
  .have:j=M+1:=oM;subst this;exact h
  .show(match Dh l M with |none=>none|some n=>_)=_;rw[ih c]
theorem VI{l:Nat->Nat}{N:Nat}(hl:∀i,l i<=N):∀ {M n:Nat},Dh l M=some n->n<=N:=by
 intro M;induction M with
 |zero=>intro n h;cases h;exact hl 0
 |succ M ih=>
  intro n h;cases e:Dh l M with
  |none=>rw[I7 e (M+1) oM]at h;cases h
  |some k=>
   rw[FZ e]at h;have:=ih e;have:=hl (M+1)
   repeat' split at h
   all_goals cases h
   all_goals omega
theorem L7{l:Nat->Nat}:∀ {M n:Nat},Dh l M=some n->∀i,i<=M->l i=n\/(l i=1/\n≠0):=by
 intro M;induction M with
 |zero=>
  intro n h i hi;cases h;have:i=0:=oM;subst this;exact .inl rfl
 |succ M ih=>
  intro n h i hi;cases e:Dh l M with
  |none=>rw[I7 e (M+1) oM]at h;cases h
  |some k=>
   rw[FZ e]at h;have hi':i<=M\/i=M+1:=oM;split at h
   .cases h
    rcases hi' with c|c
    .exact ih e i c
    .subst c;left;assumption
   .split at h
    .cases h
    .split at h
     .cases h
      rcases hi' with c|c
      .have:=ih e i c;omega
      .subst c;exact .inl rfl
     .split at h
      .cases h
       rcases hi' with c|c
       .exact ih e i c
       .subst c;right;omega
      .cases h
def F8(l:Nat->Nat)(X:Nat->Nat->Int)(m i j:Nat):Int:=if j<m then X j (if l j=1 then 0 else i)else 0
theorem By{l:Nat->Nat}{X:Nat->Nat->Int}(hX:∀i j,Ar (X i j))(m i j:Nat):Ar (F8 l X m i j):=B4 (hX _ _) Hl
theorem EY{k:IntKind}{w:World}{b o m:Nat}{P:Nat->Option Addr}{l c:Nat->Nat}{X:Nat->Nat->Int}(h:LF k w (some ⟨b,o,none⟩) m P l c X)(i:Nat)(hi:i<m):w.cell? ⟨b,o+i,none⟩=some (.slice (P i) (l i) (c i)):=by
 rcases h.heads with q|⟨b',o',e,hh⟩
 .omega
 .cases e;exact hh i hi
theorem Px{l:Nat->Nat}{M n i j:Nat}(h:Dh l M=some n)(hj:j<=M)(hi:i<n):l j=1\/i<l j:=by
 rcases L7 h j hj with e|e
 .right;omega
 .left;exact e.1
theorem Ie(op:Int):BI op<=3:=by
 unfold BI;split
 .omega
 .split
  .omega
  .split<;>omega

def sl:Nat->Nat:=fun i=>if i=0 then 2 else 1
def rn(l:Nat->Nat):Nat->Nat
 |0=>l 0
 |j+1=>if rn l j=1\/l j=0 then l j else rn l j
theorem VG{l:Nat->Nat}:∀ {M n:Nat},Dh l M=some n->rn l (M+1)=n:=by
 intro M;induction M with
 |zero=>intro n h;cases h;show(if l 0=1\/l 0=0 then l 0 else l 0)=l 0;split<;>rfl
 |succ M ih=>
  intro n h;cases e:Dh l M with
  |none=>rw[I7 e (M+1) oM]at h;cases h
  |some k=>
   rw[FZ e]at h;have hk:=ih e;show(if rn l (M+1)=1\/l (M+1)=0 then l (M+1)else rn l (M+1))=n;rw[hk];split at h
   .cases h;split<;>omega
   .split at h
    .cases h
    .split at h
     .cases h;rw[if_pos oM]
     .split at h
      .cases h;rw[if_neg oM]
      .cases h
theorem RQ(w:World):Calls prog 65 #[.int .i64 3] w fun e w'=>e=.returned (.int .i64 1)/\w'=w:=by
 exact N5
theorem Pm(w:World):Calls prog 65 #[.int .i64 11] w fun e w'=>e=.returned (.int .i64 1)/\w'=w:=by
 exact N5
theorem Pn(w:World):Calls prog 65 #[.int .i64 12] w fun e w'=>e=.returned (.int .i64 1)/\w'=w:=by
 exact N5
theorem Po(w:World):Calls prog 65 #[.int .i64 13] w fun e w'=>e=.returned (.int .i64 1)/\w'=w:=by
 exact N5
theorem Pp(w:World):Calls prog 65 #[.int .i64 14] w fun e w'=>e=.returned (.int .i64 1)/\w'=w:=by
 exact N5
theorem RS(w:World):Calls prog 65 #[.int .i64 4] w fun e w'=>e=.returned (.int .i64 2)/\w'=w:=by
 exact N5
theorem RT(w:World):Calls prog 65 #[.int .i64 5] w fun e w'=>e=.returned (.int .i64 2)/\w'=w:=by
 exact N5
theorem RU(w:World):Calls prog 65 #[.int .i64 6] w fun e w'=>e=.returned (.int .i64 2)/\w'=w:=by
 exact N5
theorem RX(w:World):Calls prog 65 #[.int .i64 7] w fun e w'=>e=.returned (.int .i64 2)/\w'=w:=by
 exact N5
theorem RY(w:World):Calls prog 65 #[.int .i64 8] w fun e w'=>e=.returned (.int .i64 2)/\w'=w:=by
 exact N5
theorem RZ(w:World):Calls prog 65 #[.int .i64 9] w fun e w'=>e=.returned (.int .i64 2)/\w'=w:=by
 exact N5
theorem Pl(w:World):Calls prog 65 #[.int .i64 10] w fun e w'=>e=.returned (.int .i64 2)/\w'=w:=by
 exact N5
theorem Pq(w:World):Calls prog 65 #[.int .i64 15] w fun e w'=>e=.returned (.int .i64 3)/\w'=w:=by
 exact N5
theorem Ps(op:Int)(h:BI op=0)(w:World):Calls prog 65 #[.int .i64 op] w fun e w'=>e=.returned (.int .i64 0)/\w'=w:=by
 have n1:¬ (op=3\/op=11\/op=12\/op=13\/op=14):=fun c=>by unfold BI at h;rw[if_pos c]at h;cases h
 have n2:¬ (op=4\/op=5\/op=6\/op=7\/op=8\/op=9\/op=10):=fun c=>by unfold BI at h;rw[if_neg n1,if_pos c]at h;cases h
 have n3:¬ (op=15):=fun c=>by unfold BI at h;rw[if_neg n1,if_neg n2,if_pos c]at h;cases h
 simp only[not_or]at n1 n2;obtain⟨a1,a2,a3,a4,a5⟩:=n1;obtain⟨b1,b2,b3,b4,b5,b6,b7⟩:=n2;clear h;exact N5
theorem I3(op:Int)(w:World):Calls prog 65 #[.int .i64 op] w fun e w'=>e=.returned (.int .i64 (BI op:Nat))/\w'=w:=by
 by_cases h:BI op=0
 .rw[h];exact Ps op h w
 .rcases GG op h with rfl|rfl|rfl|rfl|rfl|rfl|rfl|rfl|rfl|rfl|rfl|rfl|rfl
  .exact RQ w
  .exact Pm w
  .exact Pn w
  .exact Po w
  .exact Pp w
  .exact RS w
  .exact RT w
  .exact RU w
  .exact RX w
  .exact RY w
  .exact RZ w
  .exact Pl w
  .exact Pq w
theorem IU(b:Bool)(w:World):Calls prog 111 #[.bool b] w fun e w'=>e=.returned (.int .i64 (M9 b))/\w'=w:=by
 cases b<;>(go_enter func111,ntmps111;go_wp2;go_ret;exact⟨rfl,rfl⟩)
theorem WC(a b c:Int)(ha:Ar a)(hb:Ar b)(hc:Ar c)(w:World):Calls prog 90 #[.int .i64 3,.int .i64 a,.int .i64 b,.int .i64 c] w fun e w'=>e=.returned (.int .i64 (Hu 3 a b c))/\Below w.heap.size w w':=by
 go_enter func90,ntmps90;go_wp2_with(first|(go_at_call 35;refine(DY _ ha.1 ha.2 _).mono ?_;rintro e w1 ⟨rfl,hw1⟩;obtain rfl:=hw1.symm));go_ret;exact⟨rfl,Iv _⟩
theorem VA(a b c:Int)(ha:Ar a)(hb:Ar b)(hc:Ar c)(w:World):Calls prog 90 #[.int .i64 11,.int .i64 a,.int .i64 b,.int .i64 c] w fun e w'=>e=.returned (.int .i64 (Hu 11 a b c))/\Below w.heap.size w w':=by
 go_enter func90,ntmps90;go_wp2_with(first|(go_at_call 108;refine(Pj _ ha.1 ha.2 _).mono ?_;rintro e w1 ⟨rfl,hb1⟩));go_ret;exact⟨rfl,hb1⟩
theorem VB(a b c:Int)(ha:Ar a)(hb:Ar b)(hc:Ar c)(w:World):Calls prog 90 #[.int .i64 12,.int .i64 a,.int .i64 b,.int .i64 c] w fun e w'=>e=.returned (.int .i64 (Hu 12 a b c))/\Below w.heap.size w w':=by
 go_enter func90,ntmps90;go_wp2_with(first|(go_at_call 109;refine(Ky _ ha.1 ha.2 _).mono ?_;rintro e w1 ⟨rfl,hb1⟩));go_ret;exact⟨rfl,hb1⟩
theorem VC(a b c:Int)(ha:Ar a)(hb:Ar b)(hc:Ar c)(w:World):Calls prog 90 #[.int .i64 13,.int .i64 a,.int .i64 b,.int .i64 c] w fun e w'=>e=.returned (.int .i64 (Hu 13 a b c))/\Below w.heap.size w w':=by
 go_enter func90,ntmps90;go_wp2_with(first|(go_at_call 110;refine(QV _ ha.1 ha.2 _).mono ?_;rintro e w1 ⟨rfl,hb1⟩));go_ret;exact⟨rfl,hb1⟩
theorem VD(a b c:Int)(ha:Ar a)(hb:Ar b)(hc:Ar c)(w:World):Calls prog 90 #[.int .i64 14,.int .i64 a,.int .i64 b,.int .i64 c] w fun e w'=>e=.returned (.int .i64 (Hu 14 a b c))/\Below w.heap.size w w':=by
 go_enter func90,ntmps90;go_wp2_with(first|(go_at_call 112;refine(P9 _ ha _).mono ?_;rintro e w1 ⟨rfl,hw1⟩;obtain rfl:=hw1.symm)|(go_at_call 111;refine(IU _ _).mono ?_;rintro e w1 ⟨rfl,hw1⟩;obtain rfl:=hw1.symm));go_ret;exact⟨rfl,Iv _⟩
theorem WD(a b c:Int)(ha:Ar a)(hb:Ar b)(hc:Ar c)(w:World):Calls prog 90 #[.int .i64 4,.int .i64 a,.int .i64 b,.int .i64 c] w fun e w'=>e=.returned (.int .i64 (Hu 4 a b c))/\Below w.heap.size w w':=by
 go_enter func90,ntmps90;go_wp2_with(first|(go_at_call 70;refine(Hy _ ha.1 ha.2 _ hb.1 hb.2 _).mono ?_;rintro e w1 ⟨rfl,hb1⟩));go_ret;exact⟨rfl,hb1⟩
theorem WF(a b c:Int)(ha:Ar a)(hb:Ar b)(hc:Ar c)(w:World):Calls prog 90 #[.int .i64 5,.int .i64 a,.int .i64 b,.int .i64 c] w fun e w'=>e=.returned (.int .i64 (Hu 5 a b c))/\Below w.heap.size w w':=by
 go_enter func90,ntmps90;go_wp2_with(first|(go_at_call 113;refine(RP _ ha.1 ha.2 _ hb.1 hb.2 _).mono ?_;rintro e w1 ⟨rfl,hb1⟩));go_ret;exact⟨rfl,hb1⟩
theorem WH(a b c:Int)(ha:Ar a)(hb:Ar b)(hc:Ar c)(w:World):Calls prog 90 #[.int .i64 6,.int .i64 a,.int .i64 b,.int .i64 c] w fun e w'=>e=.returned (.int .i64 (Hu 6 a b c))/\Below w.heap.size w w':=by
 go_enter func90,ntmps90;go_wp2_with(first|(go_at_call 68;refine(I2 _ ha.1 ha.2 _ hb.1 hb.2 _).mono ?_;rintro e w1 ⟨rfl,hb1⟩));go_ret;exact⟨rfl,hb1⟩
theorem WI(a b c:Int)(ha:Ar a)(hb:Ar b)(hc:Ar c)(w:World):Calls prog 90 #[.int .i64 7,.int .i64 a,.int .i64 b,.int .i64 c] w fun e w'=>e=.returned (.int .i64 (Hu 7 a b c))/\Below w.heap.size w w':=by
 go_enter func90,ntmps90;go_wp2_with(first|(go_at_call 114;refine(QY _ ha.1 ha.2 _ hb.1 hb.2 _).mono ?_;rintro e w1 ⟨rfl,hb1⟩));go_ret;exact⟨rfl,hb1⟩
theorem WJ(a b c:Int)(ha:Ar a)(hb:Ar b)(hc:Ar c)(w:World):Calls prog 90 #[.int .i64 8,.int .i64 a,.int .i64 b,.int .i64 c] w fun e w'=>e=.returned (.int .i64 (Hu 8 a b c))/\Below w.heap.size w w':=by
 go_enter func90,ntmps90;go_wp2_with(first|(go_at_call 71;refine(Kx _ ha.1 ha.2 _ hb.1 hb.2 _).mono ?_;rintro e w1 ⟨rfl,hb1⟩));go_ret;exact⟨rfl,hb1⟩
theorem WK(a b c:Int)(ha:Ar a)(hb:Ar b)(hc:Ar c)(w:World):Calls prog 90 #[.int .i64 9,.int .i64 a,.int .i64 b,.int .i64 c] w fun e w'=>e=.returned (.int .i64 (Hu 9 a b c))/\Below w.heap.size w w':=by
 go_enter func90,ntmps90;go_wp2_with(first|(go_at_call 115;refine(R1 _ ha.1 ha.2 _ hb.1 hb.2 _).mono ?_;rintro e w1 ⟨rfl,hb1⟩));go_ret;exact⟨rfl,hb1⟩
theorem Vz(a b c:Int)(ha:Ar a)(hb:Ar b)(hc:Ar c)(w:World):Calls prog 90 #[.int .i64 10,.int .i64 a,.int .i64 b,.int .i64 c] w fun e w'=>e=.returned (.int .i64 (Hu 10 a b c))/\Below w.heap.size w w':=by
 go_enter func90,ntmps90;go_wp2_with(first|(go_at_call 116;refine(Pd _ ha.1 ha.2 _ hb.1 hb.2 _).mono ?_;rintro e w1 ⟨rfl,hb1⟩)|(go_at_call 111;refine(IU _ _).mono ?_;rintro e w2 ⟨rfl,hw2⟩;obtain rfl:=hw2.symm));go_ret;exact⟨rfl,hb1⟩
theorem VE(a b c:Int)(ha:Ar a)(hb:Ar b)(hc:Ar c)(w:World):Calls prog 90 #[.int .i64 15,.int .i64 a,.int .i64 b,.int .i64 c] w fun e w'=>e=.returned (.int .i64 (Hu 15 a b c))/\Below w.heap.size w w':=by
 go_enter func90,ntmps90;go_wp2_with(first|(go_at_call 117;refine(KP _ ha.1 ha.2 _ hb.1 hb.2 _ hc.1 hc.2 _).mono ?_;rintro e w1 ⟨rfl,hb1⟩));go_ret;exact⟨rfl,hb1⟩
theorem Ue(op:Int)(h:BI op≠0)(a b c:Int)(ha:Ar a)(hb:Ar b)(hc:Ar c)(w:World):Calls prog 90 #[.int .i64 op,.int .i64 a,.int .i64 b,.int .i64 c] w fun e w'=>e=.returned (.int .i64 (Hu op a b c))/\Below w.heap.size w w':=by
 rcases GG op h with rfl|rfl|rfl|rfl|rfl|rfl|rfl|rfl|rfl|rfl|rfl|rfl|rfl
 .exact WC a b c ha hb hc w
 .exact VA a b c ha hb hc w
 .exact VB a b c ha hb hc w
 .exact VC a b c ha hb hc w
 .exact VD a b c ha hb hc w
 .exact WD a b c ha hb hc w
 .exact WF a b c ha hb hc w
 .exact WH a b c ha hb hc w
 .exact WI a b c ha hb hc w
 .exact WJ a b c ha hb hc w
 .exact WK a b c ha hb hc w
 .exact Vz a b c ha hb hc w
 .exact VE a b c ha hb hc w
theorem Ud(p:Option Addr)(n c i:Nat)(X:Nat->Int)(hn:n<=1048576)(hi:i<=1048576)(h:n=1\/i<n)(w:World)(hp:AP w p n (fun j=>.int .i64 (X j))):
 Calls prog 89 #[.slice p n c,.int .i64 i] w fun e w'=>e=.returned (.int .i64 (X (if n=1 then 0 else i)))/\w'=w:=by
 rcases hp with hp|⟨b,o,rfl,hp⟩
 .omega
 by_cases h1:n=1
 .subst h1;have c1:=hp 0 oM;rw[Nat.add_zero]at c1;rw[if_pos rfl];clear hp h;go_enter func89,ntmps89;go_wp2;go_ret;exact⟨rfl,rfl⟩
 .have c1:=hp i oM;have n1:¬ ((n:Int)=1):=oM;have i1:(0:Int)<=(i:Int):=oM;have i2:(i:Int)<(n:Int):=oM;rw[if_neg h1];clear hp h;go_enter func89,ntmps89;go_wp2;go_ret;exact⟨rfl,rfl⟩
end Go.Proofs.YtjglaibglofddaaGreat
