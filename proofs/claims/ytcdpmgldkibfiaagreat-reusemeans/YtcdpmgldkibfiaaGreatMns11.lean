import Derived.Test.YtcdpmgldkibfiaaGreatMns9
import Derived.Maps.AppendAt
import Derived.Laws.AppendOwnNone
import Derived.Shelf.Abstract
import Derived.Deep.RegionHeld3
import Derived.Laws.EntriesVeiled
import Derived.Test.YtcdpmgldkibfiaaGreatMns1
namespace Go.Proofs.YtcdpmgldkibfiaaGreat
open Go.RowKit Go.Proofs.Tryz
set_option linter.all false
set_option maxRecDepth 100000
set_option maxHeartbeats 16000000
theorem Mw(a b:Int)(h0:0<=a)(h1:a<4294967296)(g0:0<=b)(g1:b<4294967296)(h:BC a=true\/BC b=true):G8 a b=2143289344:=by
 rcases h with h|h
 ·obtain⟨s,t,e⟩:=F5 a h0 h1 h;rw[Ed a b e rfl];cases Ieee.single.read b.toNat<;>rfl
 ·obtain⟨s,t,e⟩:=F5 b g0 g1 h;rw[Ed a b rfl e];cases Ieee.single.read a.toNat<;>rfl
theorem Pb(s:Bool):((Ieee.single.write (.number s 0 0):Nat):Int)=GU s:=by cases s<;>decide
theorem Xi(A B:Int)(h1:8388608<=A)(h2:A<16777216)(h3:8388608<=B)(h4:B<16777216):0<=A*274877906944/B/\A*274877906944/B<1099511627776/\0<=A*274877906944%B/\A*274877906944%B<16777216:=by
 have e:=Int.mul_ediv_add_emod (A*274877906944) B;have r0:=Int.emod_nonneg (A*274877906944) (show B≠0 by omega);have r1:=Int.emod_lt_of_pos (A*274877906944) (show 0<B by omega);have q0:0<=A*274877906944/B:=Int.ediv_nonneg oM oM;refine⟨q0,?_,r0,oM⟩;apply Int.ediv_lt_of_lt_mul oM;omega
theorem TZ(a:Int)(h0:0<=a)(h1:a<4294967296)(b:Int)(g0:0<=b)(g1:b<4294967296)(w:World):
 Calls prog 155 #[.int .i64 a,.int .i64 b] w fun e w'=>e=.returned (.int .i64 (G8 a b))/\Below w.heap.size w w':=by
 cases hna:BC a
 ·cases hnb:BC b
  ·cases hia:Dq a
   ·obtain⟨ra,a1,a2,a3,a4,a5⟩:=BE a h0 h1 hia hna;cases hib:Dq b
    ·obtain⟨rb,b1,b2,b3,b4,b5⟩:=BE b g0 g1 hib hnb;by_cases zb:nM b=0
     ·by_cases za:nM a=0
      ·have hv:G8 a b=2143289344:=by rw[Ed a b ra rb,za,zb];rfl
       rw[hv];clear hv ra rb;exact VS
      ·have hv:G8 a b=GU (B4 a != B4 b)+2139095040:=by
        rw[Ed a b ra rb,zb,←Ca,←DH];have:(nM a).toNat≠0:=oM;simp only[Ieee.Datum.quotient,if_neg this,Int.toNat_zero,if_true];rfl
       rw[hv];clear hv ra rb;exact VS
     ·by_cases za:nM a=0
      ·have hv:G8 a b=GU (B4 a != B4 b):=by
        rw[Ed a b ra rb,za,←DH];have:(nM b).toNat≠0:=oM;simp only[Ieee.Datum.quotient,if_neg this,Int.toNat_zero,Nat.zero_shiftLeft,Nat.zero_div,Nat.zero_mod];exact FY _ _
       rw[hv];clear hv ra rb;exact VS
      ·obtain⟨ka,A1,A2⟩:=EM (nM a) oM a2;obtain⟨kb,B1,B2⟩:=EM (nM b) oM b2;obtain⟨A,hA⟩:∃A,nM a*2^nk (nM a)=A:=⟨_,rfl⟩
       obtain⟨B,hB⟩:∃B,nM b*2^nk (nM b)=B:=⟨_,rfl⟩
       have hv:=Ta a b h0 h1 g0 g1 hia hna hib hnb za zb A B hA hB;rw[hA]at A1 A2;rw[hB]at B1 B2;have hq:=Xi A B A1 A2 B1 B2;obtain⟨EA,hEA⟩:∃EA,nE a-(nk (nM a):Int)=EA:=⟨_,rfl⟩
       obtain⟨EB,hEB⟩:∃EB,nE b-(nk (nM b):Int)=EB:=⟨_,rfl⟩
       rw[hEA,hEB]at hv;have eb: -172<=EA/\EA<=104/\-172<=EB/\EB<=104:=oM;rw[hv];clear hv ra rb a5 b5;obtain⟨q,hqq⟩:∃q,A*274877906944/B=q:=⟨_,rfl⟩
       obtain⟨r,hrr⟩:∃r,A*274877906944%B=r:=⟨_,rfl⟩
       rw[hqq,hrr]at hq ⊢;have hdiv:(A*274877906944).tdiv B=q:=by rw[←hqq,Int.tdiv_eq_ediv_of_nonneg oM]
       have hmod:(A*274877906944).tmod B=r:=by rw[←hrr,Int.tmod_eq_emod_of_nonneg oM]
       by_cases zr:r=0
       ·rw[if_pos zr];exact Zbu
       ·rw[if_neg zr];exact Zbu
    ·obtain⟨rb,-,b1⟩:=Dj b g0 g1 hib;have hv:G8 a b=GU (B4 a != B4 b):=by rw[Ed a b ra rb,←Pb,←DH];rfl
     rw[hv];clear hv ra rb;by_cases za:nM a=0
     ·skip
      exact VS
     ·skip
      exact VS
   ·obtain⟨ra,-,a1⟩:=Dj a h0 h1 hia;cases hib:Dq b
    ·obtain⟨rb,b1,b2,b3,b4,b5⟩:=BE b g0 g1 hib hnb;have hv:G8 a b=GU (B4 a != B4 b)+2139095040:=by rw[Ed a b ra rb,←Ca,←DH];rfl
     rw[hv];clear hv ra rb;exact VS
    ·obtain⟨rb,-,b1⟩:=Dj b g0 g1 hib;have hv:G8 a b=2143289344:=by rw[Ed a b ra rb];rfl
     rw[hv];clear hv ra rb;exact VS
  ·have hv:=Mw a b h0 h1 g0 g1 (Or.inr hnb);rw[hv];clear hv;exact VS
 ·have hv:=Mw a b h0 h1 g0 g1 (Or.inl hna);rw[hv];clear hv;exact VS
theorem Mu(a b:Int)(h0:0<=a)(h1:a<4294967296)(g0:0<=b)(g1:b<4294967296)(h:BC a=true\/BC b=true):Db a b=2143289344:=by
 rcases h with h|h
 ·obtain⟨s,t,e⟩:=F5 a h0 h1 h;rw[Ct a b e rfl];cases Ieee.single.read b.toNat<;>rfl
 ·obtain⟨s,t,e⟩:=F5 b g0 g1 h;rw[Ct a b rfl e];cases Ieee.single.read a.toNat<;>rfl
theorem Kf(a b:Int)(h0:0<=a)(h1:a<4294967296)(g0:0<=b)(g1:b<4294967296){s:Bool}{i:Int}(ra:Ieee.single.read a.toNat=.number s 0 i)(rb:Ieee.single.read b.toNat=.number (B4 b) (nM b).toNat (nE b))(hb:nM b≠0)(hb0:0<=nM b)(hi: -149<=i)(hj: -149<=nE b):
 Db a b=(Ieee.single.nearest (B4 b) (nM b).toNat (nE b):Nat):=by
 rw[Ct a b ra rb];simp only[Ieee.Datum.sum,Option.map_some,Ieee.Format.write];generalize hbase:min i (nE b)=base;have hz:Ieee.signed s 0 (i-base).toNat=0:=by unfold Ieee.signed;simp
 rw[hz,Int.zero_add,Ho];have hP:(1:Int)<=2^(nE b-base).toNat:=Int.pow_pos dE;have hX:0<((nM b).toNat:Int)*2^(nE b-base).toNat:=Int.mul_pos oM oM;have e1:¬ (Ge (B4 b) (((nM b).toNat:Int)*2^(nE b-base).toNat)=0):=by
  unfold Ge;split<;>omega
 have e2:decide (Ge (B4 b) (((nM b).toNat:Int)*2^(nE b-base).toNat)<0)=B4 b:=by
  generalize ((nM b).toNat:Int)*2^(nE b-base).toNat=X at *;cases B4 b<;>simp only[Ge,if_true,if_false,Bool.false_eq_true]<;>simp<;>omega
 have e3:(Ge (B4 b) (((nM b).toNat:Int)*2^(nE b-base).toNat)).natAbs=(nM b).toNat*2^(nE b-base).toNat:=by
  have hc:(((nM b).toNat*2^(nE b-base).toNat:Nat):Int)=((nM b).toNat:Int)*2^(nE b-base).toNat:=by rw[Int.natCast_mul,Int.natCast_pow];rfl
  unfold Ge;split<;>omega
 rw[if_neg e1,e2,e3];show((Ieee.single.nearest (B4 b) _ base:Nat):Int)=_;rw[Bp,Bp,CH,Bz];obtain⟨c,hc⟩:∃c:Nat,(c:Int)=base+149:=⟨(base+149).toNat,oM⟩
 obtain⟨d,hd⟩:∃d:Nat,(d:Int)=nE b+149:=⟨(nE b+149).toNat,oM⟩
 have r1:=Ju ((nM b).toNat*2^(nE b-base).toNat) c;have r2:=Ju (nM b).toNat d;rw[show -149+(c:Int)=base by omega]at r1;rw[show -149+(d:Int)=nE b by omega]at r2;rw[r1,r2,Nat.mul_assoc,←Nat.pow_add,show(nE b-base).toNat+c=d by omega]
theorem Jk(a:Int)(h0:0<=a)(h1:a<4294967296)(b:Int)(g0:0<=b)(g1:b<4294967296)(w:World):
 Calls prog 125 #[.int .i64 a,.int .i64 b] w fun e w'=>e=.returned (.int .i64 (Db a b))/\Below w.heap.size w w':=by
 cases hna:BC a
 ·cases hnb:BC b
  ·cases hia:Dq a
   ·obtain⟨ra,a1,a2,a3,a4,a5⟩:=BE a h0 h1 hia hna;cases hib:Dq b
    ·obtain⟨rb,b1,b2,b3,b4,b5⟩:=BE b g0 g1 hib hnb;by_cases za:nM a=0
     ·by_cases zb:nM b=0
      ·have hv:Db a b=GU (B4 a&&B4 b):=by
        rw[Ct a b ra rb,za,zb];simp only[Ieee.Datum.sum,Option.map_some,Ieee.Format.write];have:Ieee.signed (B4 a) (0:Int).toNat (nE a-min (nE a) (nE b)).toNat+Ieee.signed (B4 b) (0:Int).toNat (nE b-min (nE a) (nE b)).toNat=0:=by unfold Ieee.signed;simp
        rw[this,if_pos rfl];exact FY _ _
       rw[hv];clear hv ra rb;cases hma:B4 a
       ·rw[Bool.false_and];exact So
       ·rw[Bool.true_and];exact So
      ·have hv:=Kf a b h0 h1 g0 g1 (s:=B4 a) (i:=nE a) (by rw[ra,za];rfl) rb zb b1 a3 b3;rw[hv];clear hv ra rb;exact So
     ·by_cases zb:nM b=0
      ·have hv:=Kf b a g0 g1 h0 h1 (s:=B4 b) (i:=nE b) (by rw[rb,zb];rfl) ra za a1 b3 a3;rw[Ke,hv];clear hv ra rb;exact So
      ·by_cases hE:nE a<nE b
       ·have hv:Db a b=Sa (B4 b) (nM b) (nE b) (B4 a) (nM a) (nE a):=by
         rw[Ke,Ct b a rb ra,Nz _ _ _ _ _ _ oM b2 oM a2 a3 oM b5]
        exact Zbq
       ·have hv:Db a b=Sa (B4 a) (nM a) (nE a) (B4 b) (nM b) (nE b):=by
         rw[Ct a b ra rb,Nz _ _ _ _ _ _ oM a2 oM b2 b3 oM a5]
        exact Zbq
    ·obtain⟨rb,-,b1⟩:=Dj b g0 g1 hib;have hv:Db a b=GU (B4 b)+2139095040:=by rw[Ct a b ra rb,←Ca];rfl
     rw[hv];clear hv ra rb;exact So
   ·obtain⟨ra,-,a1⟩:=Dj a h0 h1 hia;cases hib:Dq b
    ·obtain⟨rb,b1,b2,b3,b4,b5⟩:=BE b g0 g1 hib hnb;have hv:Db a b=GU (B4 a)+2139095040:=by rw[Ct a b ra rb,←Ca];rfl
     rw[hv];clear hv ra rb;exact So
    ·obtain⟨rb,-,b1⟩:=Dj b g0 g1 hib;cases hma:B4 a<;>cases hmb:B4 b<;>rw[hma]at ra<;>rw[hmb]at rb
     ·have hv:Db a b=GU false+2139095040:=by rw[Ct a b ra rb,←Ca];rfl
      rw[hv];clear hv ra rb;exact So
     ·have hv:Db a b=2143289344:=by rw[Ct a b ra rb];rfl
      rw[hv];clear hv ra rb;exact So
     ·have hv:Db a b=2143289344:=by rw[Ct a b ra rb];rfl
      rw[hv];clear hv ra rb;exact So
     ·have hv:Db a b=GU true+2139095040:=by rw[Ct a b ra rb,←Ca];rfl
      rw[hv];clear hv ra rb;exact So
  ·have hv:=Mu a b h0 h1 g0 g1 (Or.inr hnb);rw[hv];clear hv;exact So
 ·have hv:=Mu a b h0 h1 g0 g1 (Or.inl hna);rw[hv];clear hv;exact So
theorem Ic(d e:Ieee.Datum)(h:d.isNaN=true):e.sum d=none:=by
 cases d<;>simp[Ieee.Datum.isNaN]at h
 cases e<;>rfl
theorem Wt(a b:Int)(g0:0<=b)(g1:b<4294967296):MJ a b=Db a (J2 b):=by
 cases hn:nan b
 ·rw[MI b g0 g1 hn];unfold MJ Db Ieee.Format.sub Ieee.Format.add;rw[Int.toNat_natCast,Rt _ oM]
 ·rw[MH b g0 g1 hn];have h2:2139095040<rg b.toNat:=by rw[Ja b g0]at hn;simpa using hn
  unfold MJ Db Ieee.Format.sub Ieee.Format.add;rw[E5 _ h2,show Ieee.single.read (2143289344:Int).toNat=.nan false 4194304 from by decide,Ic _ _ rfl,Ic _ _ rfl]
theorem UR(a:Int)(h0:0<=a)(h1:a<4294967296)(b:Int)(g0:0<=b)(g1:b<4294967296)(w:World):
 Calls prog 154 #[.int .i64 a,.int .i64 b] w fun e w'=>e=.returned (.int .i64 (MJ a b))/\Below w.heap.size w w':=by
 rw[Wt a b g0 g1];have hl:=PB b g0 g1;go_enter func154,ntmps154;go_wp2_with(first
  |(go_at_call 150;refine(Nf _ g0 g1 _).mono ?_;rintro e w1 ⟨rfl,hb1⟩)
  |(go_at_call 125;refine(Jk _ h0 h1 _ hl.1 hl.2 _).mono ?_;rintro e w2 ⟨rfl,hb2⟩))
 go_ret;exact⟨rfl,IQ hb1 hb2⟩
def Aw(a:Int):Prop:=0<=a/\a<4294967296
theorem CF(a:Int)(h:Aw a):Aw (canon a):=EF a h.1 h.2
theorem PE(a b:Int):Aw (Db a b):=LJ a b
theorem WG(a b:Int):Aw (MJ a b):=Wu a b
theorem WC(a b:Int):Aw (EJ a b):=Di a b
theorem Wz(a b:Int):Aw (G8 a b):=Wq a b
theorem Ts(a:Int):Aw (Dn a):=Tl a
theorem WD(a:Int)(h:Aw a):Aw (J2 a):=PB a h.1 h.2
theorem Wy(a:Int)(h:Aw a):Aw (Wp a):=EF _ (by have:=h.1;omega) (by have:=h.1;omega)
theorem Iw(a b:Int)(h:Aw a)(k:Aw b):Aw (In a b):=by
 have h1:=h.1;have h2:=h.2;have k1:=k.1;have k2:=k.2;unfold Aw In;split
 ·decide
 ·exact h
 ·exact k
 ·split
  ·exact h
  ·exact k
theorem WA(a b:Int)(h:Aw a)(k:Aw b):Aw (J1 a b):=by
 have h1:=h.1;have h2:=h.2;have k1:=k.1;have k2:=k.2;unfold Aw J1;split
 ·decide
 ·exact k
 ·exact h
 ·split
  ·exact k
  ·exact h
theorem WF(c a b:Int)(h:Aw a)(k:Aw b):Aw (LO c a b):=by
 unfold LO;split
 ·exact CF b k
 ·exact CF a h
def Kl(f:Int->Int->Int)(s:Int)(X:Nat->Int):Nat->Int
 |0=>s
 |n+1=>f (Kl f s X n) (X n)
theorem EK{f:Int->Int->Int}(hf:∀a b,Aw a->Aw b->Aw (f a b)){s:Int}(hs:Aw s){X:Nat->Int}(hX:∀i,Aw (X i)):∀n,Aw (Kl f s X n)
 |0=>hs
 |n+1=>hf _ _ (EK hf hs hX n) (hX n)
def JP(X:Nat->Int)(n:Nat):Int:=Kl Db 0 X n
def Ev(X:Nat->Int)(n:Nat):Int:=Kl In 2139095040 X n
theorem I1:Aw 0:=by unfold Aw;decide
theorem WH(X:Nat->Int)(n:Nat)(hX:∀i,Aw (X i)):Aw (JP X n):=EK (fun _ _ _ _=>LJ _ _) I1 hX n
def Co(op:Int):Nat:=
 if op=3\/op=11\/op=12\/op=13\/op=14 then 1 else if op=4\/op=5\/op=6\/op=7\/op=8\/op=9\/op=10 then 2 else if op=15 then 3 else 0
def Ok(b:Bool):Int:=if b then 1065353216 else 0
theorem MO(b:Bool):Aw (Ok b):=by unfold Aw Ok;cases b<;>decide
theorem Bx{c:Prop}[Decidable c]{a b:Int}(h:Aw a)(k:Aw b):Aw (if c then a else b):=by
 split
 ·exact h
 ·exact k
def Hg(op a b c:Int):Int:=
 if op=3 then canon a else if op=11 then Dn a else if op=12 then J2 a else if op=13 then Wp a else if op=14 then Ok (ZN a)
 else if op=4 then Db a b else if op=5 then MJ a b else if op=6 then EJ a b else if op=7 then G8 a b else if op=8 then In a b else if op=9 then J1 a b
 else if op=10 then Ok (J0 a b)else LO a b c
theorem PF(op a b c:Int)(ha:Aw a)(hb:Aw b)(hc:Aw c):Aw (Hg op a b c):=
 Bx (CF a ha) (Bx (Ts a) (Bx (WD a ha) (Bx (Wy a ha) (Bx (MO _) (Bx (PE a b) (Bx (WG a b) (Bx (WC a b)
  (Bx (Wz a b) (Bx (Iw a b ha hb) (Bx (WA a b ha hb) (Bx (MO _) (WF a b c hb hc))))))))))))
def Ht(X:Nat->Value)(n:Nat):List Value:=(List.range n).map X
theorem XX(X:Nat->Value)(n i:Nat)(h:i<n):(Ht X n)[i]? =some (X i):=by simp[Ht,h]
theorem Ls(X:Nat->Value)(n:Nat):Ht X (n+1)=Ht X n++[X n]:=by unfold Ht;rw[List.range_succ];simp
theorem KU{w:World}{base:Nat}{e:TypeId}{v:Value}{n:Nat}{X:Nat->Value}(h:w.ownsRow base e 1 v n (Ht X n)):
 ∃q cap,v=.slice q n cap/\B5 w q n X/\(∀b o s,q=some ⟨b,o,s⟩->base<=b)/\(q=none->n=0/\cap=0)/\n<=cap:=by
 rcases h.2 with⟨rfl,hx⟩|⟨g,cap,cur,rfl,hb,hg,rest⟩
 ·subst hx;exact⟨none,0,rfl,.inl rfl,fun b o s e=>(by cases e),fun _=>⟨rfl,rfl⟩,Nat.le_refl _⟩
 ·refine⟨some ⟨g,0,none⟩,cap,rfl,.inr ⟨g,0,rfl,fun i hi=>?_⟩,fun b o s e=>(by cases e;exact hb),fun e=>(by cases e),rest.1⟩;have:=h.cells (g:=g) rfl i (X i) (XX X n i hi);rw[Nat.zero_add];by_cases c:i=0
  ·subst c;simpa[Addr.add]using this
  ·simpa[Addr.add,c]using this
theorem Tr:(prog.info? 3).map (fun i=>(i.zero,i.size,i.bytes))=some (some (.int .i64 0),1,8):=kR

theorem Si(p:Option Addr)(n c:Nat)(X:Nat->Int)(hX:∀i,Aw (X i))(hn:n<=1048576)(w:World)(hp:B5 w p n (fun i=>.int .i64 (X i))):
 Calls prog 96 #[.slice p n c] w fun e w'=>e=.returned (.int .i64 (JP X n))/\Below w.heap.size w w':=by
 go_enter func96,ntmps96;go_wp2
 go_loopw [3,4] (fun sv iv wr=>Below w.heap.size w wr/\∃j:Nat,j<=n/\iv=.int .i64 j/\sv=.int .i64 (JP X j)) (fun _ iv _=>n-(intOf iv).toNat)
 case atStart=>exact⟨K7 w,0,Nat.zero_le _,rfl,rfl⟩
 case round=>
  obtain⟨hb,j,hj,rfl,rfl⟩:=hrel;by_cases hlt:j<n
  ·rcases hp with hp|⟨b,o,rfl,hp⟩
   ·omega
   have hbl:b<w.heap.size:=Hc (hp j hlt);have h1:wr.cell? ⟨b,o+j,none⟩=some (.int .i64 (X j)):=(hb.cell hbl).trans (hp j hlt);have i1:(0:Int)<=(j:Int):=oM;have i2:(j:Int)<(n:Int):=oM;have s1:Aw (JP X j):=EK (fun _ _ _ _=>PE _ _) Zhe hX j;have x1:=hX j;clear hp hX;go_wp2_with(go_at_call 125;refine(Jk _ s1.1 s1.2 _ x1.1 x1.2 _).mono ?_;rintro e w1 ⟨rfl,hb1⟩);go_roundw
   case rel=>exact⟨IQ hb hb1,j+1,oM,gN,rfl⟩
   case measure=>simp[intOf];omega
  ·have:j=n:=oM;subst this;clear hp hX;go_wp2;go_ret;exact⟨rfl,hb⟩
theorem ON(p:Option Addr)(n c:Nat)(X:Nat->Int)(hX:∀i,Aw (X i))(hn:n<=1048576)(w:World)(hp:B5 w p n (fun i=>.int .i64 (X i))):
 Calls prog 97 #[.slice p n c] w fun e w'=>e=.returned (.int .i64 (Ev X n))/\Below w.heap.size w w':=by
 go_enter func97,ntmps97;go_wp2
 go_loopw [3,4] (fun sv iv wr=>Below w.heap.size w wr/\∃j:Nat,j<=n/\iv=.int .i64 j/\sv=.int .i64 (Ev X j)) (fun _ iv _=>n-(intOf iv).toNat)
 case atStart=>exact⟨K7 w,0,Nat.zero_le _,rfl,rfl⟩
 case round=>
  obtain⟨hb,j,hj,rfl,rfl⟩:=hrel;by_cases hlt:j<n
  ·rcases hp with hp|⟨b,o,rfl,hp⟩
   ·omega
   have hbl:b<w.heap.size:=Hc (hp j hlt);have h1:wr.cell? ⟨b,o+j,none⟩=some (.int .i64 (X j)):=(hb.cell hbl).trans (hp j hlt);have i1:(0:Int)<=(j:Int):=oM;have i2:(j:Int)<(n:Int):=oM;have s1:Aw (Ev X j):=EK Iw Zhe hX j;have x1:=hX j;clear hp hX;go_wp2_with(go_at_call 126;refine(Nd _ s1.1 s1.2 _ x1.1 x1.2 _).mono ?_;rintro e w1 ⟨rfl,hb1⟩);go_roundw
   case rel=>exact⟨IQ hb hb1,j+1,oM,gN,rfl⟩
   case measure=>simp[intOf];omega
  ·have:j=n:=oM;subst this;clear hp hX;go_wp2;go_ret;exact⟨rfl,hb⟩
theorem RC(a:Int)(h:Aw a)(w:World):
 Calls prog 153 #[.int .i64 a] w fun e w'=>e=.returned (.bool (ZN a))/\w'=w:=by
 have h0:=h.1;have h1:=h.2;have t1:a.tmod 2147483648=a%2147483648:=Int.tmod_eq_emod_of_nonneg h0;go_enter func153,ntmps153;go_wp2;go_ret;exact⟨rfl,rfl⟩

structure NP(k:IntKind)(w:World)(q:Option Addr)(m:Nat)(P:Nat->Option Addr)(l c:Nat->Nat)(X:Nat->Nat->Int):Prop where
 heads:B5 w q m (fun i=>.slice (P i) (l i) (c i))
 parts:∀i,i<m->B5 w (P i) (l i) (fun j=>.int k (X i j))
theorem NP.below{k:IntKind}{w w':World}{q:Option Addr}{m:Nat}{P:Nat->Option Addr}{l c:Nat->Nat}{X:Nat->Nat->Int}(h:NP k w q m P l c X)(b:Below w.heap.size w w'):NP k w' q m P l c X:=
 ⟨h.heads.below b,fun i hi=>(h.parts i hi).below b⟩
theorem OH{w w':World}{base:Nat}{e:TypeId}{v:Value}{n:Nat}{xs:List Value}(h:w.ownsRow base e 1 v n xs)(k:Below w.heap.size w w'):w'.ownsRow base e 1 v n xs:=by
 refine h.kept (row:=none) ⟨k.os,k.tape,k.output,k.size,fun j hj _=>k.block j hj⟩ ?_;cases v.ownBlock<;>simp
theorem If(op:Int)(h:Co op≠0):op=3\/op=11\/op=12\/op=13\/op=14\/op=4\/op=5\/op=6\/op=7\/op=8\/op=9\/op=10\/op=15:=by
 unfold Co at h;split at h
 ·omega
 ·split at h
  ·omega
  ·split at h
   ·omega
   ·exact absurd rfl h

def DA(l:Nat->Nat):Nat->Option Nat
 |0=>some (l 0)
 |j+1=>match DA l j with
  |none=>none
  |some n=>if l (j+1)=n then some n else if l (j+1)=0\/n=0 then none else if n=1 then some (l (j+1))else if l (j+1)=1 then some n else none
theorem GV{l:Nat->Nat}{j n:Nat}(h:DA l j=some n):DA l (j+1)=if l (j+1)=n then some n else if l (j+1)=0\/n=0 then none else if n=1 then some (l (j+1))else if l (j+1)=1 then some n else none:=by
 show(match DA l j with |none=>none|some n=>_)=_;rw[h]
theorem Jz{l:Nat->Nat}{j:Nat}(h:DA l j=none):∀M,j<=M->DA l M=none:=by
 intro M;induction M with
 |zero=>
  intro hj;have:j=0:=oM;subst this;exact h
 |succ M ih=>
  intro hj;rcases Nat.lt_or_ge M j with c|c
  ·have:j=M+1:=oM;subst this;exact h
  ·show(match DA l M with |none=>none|some n=>_)=_;rw[ih c]
theorem Z8{l:Nat->Nat}{N:Nat}(hl:∀i,l i<=N):∀ {M n:Nat},DA l M=some n->n<=N:=by
 intro M;induction M with
 |zero=>intro n h;cases h;exact hl 0
 |succ M ih=>
  intro n h;cases e:DA l M with
  |none=>rw[Jz e (M+1) oM]at h;cases h
  |some k=>
   rw[GV e]at h;have:=ih e;have:=hl (M+1)
   repeat' split at h
   all_goals cases h
   all_goals omega
theorem Nt{l:Nat->Nat}:∀ {M n:Nat},DA l M=some n->∀i,i<=M->l i=n\/(l i=1/\n≠0):=by
 intro M;induction M with
 |zero=>
  intro n h i hi;cases h;have:i=0:=oM;subst this;exact .inl rfl
 |succ M ih=>
  intro n h i hi;cases e:DA l M with
  |none=>rw[Jz e (M+1) oM]at h;cases h
  |some k=>
   rw[GV e]at h;have hi':i<=M\/i=M+1:=oM;split at h
   ·cases h
    rcases hi' with c|c
    ·exact ih e i c
    ·subst c;left;assumption
   ·split at h
    ·cases h
    ·split at h
     ·cases h
      rcases hi' with c|c
      ·have:=ih e i c;omega
      ·subst c;exact .inl rfl
     ·split at h
      ·cases h
       rcases hi' with c|c
       ·exact ih e i c
       ·subst c;right;omega
      ·cases h
def Eu(l:Nat->Nat)(X:Nat->Nat->Int)(m i j:Nat):Int:=if j<m then X j (if l j=1 then 0 else i)else 0
theorem Ci{l:Nat->Nat}{X:Nat->Nat->Int}(hX:∀i j,Aw (X i j))(m i j:Nat):Aw (Eu l X m i j):=Bx (hX _ _) I1
theorem FV{k:IntKind}{w:World}{b o m:Nat}{P:Nat->Option Addr}{l c:Nat->Nat}{X:Nat->Nat->Int}(h:NP k w (some ⟨b,o,none⟩) m P l c X)(i:Nat)(hi:i<m):w.cell? ⟨b,o+i,none⟩=some (.slice (P i) (l i) (c i)):=by
 rcases h.heads with q|⟨b',o',e,hh⟩
 ·omega
 ·cases e;exact hh i hi
theorem S1{l:Nat->Nat}{M n i j:Nat}(h:DA l M=some n)(hj:j<=M)(hi:i<n):l j=1\/i<l j:=by
 rcases Nt h j hj with e|e
 ·right;omega
 ·left;exact e.1
theorem JG(op:Int):Co op<=3:=by
 unfold Co;split
 ·omega
 ·split
  ·omega
  ·split<;>omega

def sX:Nat->Nat->Int:=fun i j=>if i=0 then(if j=0 then 1065353216 else 1073741824)else 1065353216
def sl:Nat->Nat:=fun i=>if i=0 then 2 else 1
def sR:Nat->Int:=fun i=>Hg 4 (Eu sl sX 2 i 0) (Eu sl sX 2 i 1) (Eu sl sX 2 i 2)
def rn(l:Nat->Nat):Nat->Nat
 |0=>l 0
 |j+1=>if rn l j=1\/l j=0 then l j else rn l j
theorem Z5{l:Nat->Nat}:∀ {M n:Nat},DA l M=some n->rn l (M+1)=n:=by
 intro M;induction M with
 |zero=>intro n h;cases h;show(if l 0=1\/l 0=0 then l 0 else l 0)=l 0;split<;>rfl
 |succ M ih=>
  intro n h;cases e:DA l M with
  |none=>rw[Jz e (M+1) oM]at h;cases h
  |some k=>
   rw[GV e]at h;have hk:=ih e;show(if rn l (M+1)=1\/l (M+1)=0 then l (M+1)else rn l (M+1))=n;rw[hk];split at h
   ·cases h;split<;>omega
   ·split at h
    ·cases h
    ·split at h
     ·cases h;rw[if_pos oM]
     ·split at h
      ·cases h;rw[if_neg oM]
      ·cases h
theorem US(w:World):Calls prog 121 #[.int .i64 3] w fun e w'=>e=.returned (.int .i64 1)/\w'=w:=by
 exact Pj
theorem RO(w:World):Calls prog 121 #[.int .i64 11] w fun e w'=>e=.returned (.int .i64 1)/\w'=w:=by
 exact Pj
theorem RP(w:World):Calls prog 121 #[.int .i64 12] w fun e w'=>e=.returned (.int .i64 1)/\w'=w:=by
 exact Pj
theorem RQ(w:World):Calls prog 121 #[.int .i64 13] w fun e w'=>e=.returned (.int .i64 1)/\w'=w:=by
 exact Pj
theorem RS(w:World):Calls prog 121 #[.int .i64 14] w fun e w'=>e=.returned (.int .i64 1)/\w'=w:=by
 exact Pj
theorem UT(w:World):Calls prog 121 #[.int .i64 4] w fun e w'=>e=.returned (.int .i64 2)/\w'=w:=by
 exact Pj
theorem UU(w:World):Calls prog 121 #[.int .i64 5] w fun e w'=>e=.returned (.int .i64 2)/\w'=w:=by
 exact Pj
theorem UV(w:World):Calls prog 121 #[.int .i64 6] w fun e w'=>e=.returned (.int .i64 2)/\w'=w:=by
 exact Pj
theorem UW(w:World):Calls prog 121 #[.int .i64 7] w fun e w'=>e=.returned (.int .i64 2)/\w'=w:=by
 exact Pj
theorem UX(w:World):Calls prog 121 #[.int .i64 8] w fun e w'=>e=.returned (.int .i64 2)/\w'=w:=by
 exact Pj
theorem UY(w:World):Calls prog 121 #[.int .i64 9] w fun e w'=>e=.returned (.int .i64 2)/\w'=w:=by
 exact Pj
theorem RN(w:World):Calls prog 121 #[.int .i64 10] w fun e w'=>e=.returned (.int .i64 2)/\w'=w:=by
 exact Pj
theorem RT(w:World):Calls prog 121 #[.int .i64 15] w fun e w'=>e=.returned (.int .i64 3)/\w'=w:=by
 exact Pj
theorem RU(op:Int)(h:Co op=0)(w:World):Calls prog 121 #[.int .i64 op] w fun e w'=>e=.returned (.int .i64 0)/\w'=w:=by
 have n1:¬ (op=3\/op=11\/op=12\/op=13\/op=14):=fun c=>by unfold Co at h;rw[if_pos c]at h;cases h
 have n2:¬ (op=4\/op=5\/op=6\/op=7\/op=8\/op=9\/op=10):=fun c=>by unfold Co at h;rw[if_neg n1,if_pos c]at h;cases h
 have n3:¬ (op=15):=fun c=>by unfold Co at h;rw[if_neg n1,if_neg n2,if_pos c]at h;cases h
 simp only[not_or]at n1 n2;obtain⟨a1,a2,a3,a4,a5⟩:=n1;obtain⟨b1,b2,b3,b4,b5,b6,b7⟩:=n2;clear h;exact Pj
theorem Jt(op:Int)(w:World):Calls prog 121 #[.int .i64 op] w fun e w'=>e=.returned (.int .i64 (Co op:Nat))/\w'=w:=by
 by_cases h:Co op=0
 ·rw[h];exact RU op h w
 ·rcases If op h with rfl|rfl|rfl|rfl|rfl|rfl|rfl|rfl|rfl|rfl|rfl|rfl|rfl
  ·exact US w
  ·exact RO w
  ·exact RP w
  ·exact RQ w
  ·exact RS w
  ·exact UT w
  ·exact UU w
  ·exact UV w
  ·exact UW w
  ·exact UX w
  ·exact UY w
  ·exact RN w
  ·exact RT w
theorem L7(b:Bool)(w:World):Calls prog 152 #[.bool b] w fun e w'=>e=.returned (.int .i64 (Ok b))/\w'=w:=by
 cases b<;>(go_enter func152,ntmps152;go_wp2;go_ret;exact⟨rfl,rfl⟩)
theorem rdo_3(a b c:Int)(ha:Aw a)(hb:Aw b)(hc:Aw c)(w:World):Calls prog 139 #[.int .i64 3,.int .i64 a,.int .i64 b,.int .i64 c] w fun e w'=>e=.returned (.int .i64 (Hg 3 a b c))/\Below w.heap.size w w':=by
 go_enter func139,ntmps139;go_wp2_with(first|(go_at_call 90;refine(F2 _ ha.1 ha.2 _).mono ?_;rintro e w1 ⟨rfl,hw1⟩;obtain rfl:=hw1.symm));go_ret;exact⟨rfl,K7 _⟩
theorem YY(a b c:Int)(ha:Aw a)(hb:Aw b)(hc:Aw c)(w:World):Calls prog 139 #[.int .i64 11,.int .i64 a,.int .i64 b,.int .i64 c] w fun e w'=>e=.returned (.int .i64 (Hg 11 a b c))/\Below w.heap.size w w':=by
 go_enter func139,ntmps139;go_wp2_with(first|(go_at_call 149;refine(RJ _ ha.1 ha.2 _).mono ?_;rintro e w1 ⟨rfl,hb1⟩));go_ret;exact⟨rfl,hb1⟩
theorem YZ(a b c:Int)(ha:Aw a)(hb:Aw b)(hc:Aw c)(w:World):Calls prog 139 #[.int .i64 12,.int .i64 a,.int .i64 b,.int .i64 c] w fun e w'=>e=.returned (.int .i64 (Hg 12 a b c))/\Below w.heap.size w w':=by
 go_enter func139,ntmps139;go_wp2_with(first|(go_at_call 150;refine(Nf _ ha.1 ha.2 _).mono ?_;rintro e w1 ⟨rfl,hb1⟩));go_ret;exact⟨rfl,hb1⟩
theorem Z0(a b c:Int)(ha:Aw a)(hb:Aw b)(hc:Aw c)(w:World):Calls prog 139 #[.int .i64 13,.int .i64 a,.int .i64 b,.int .i64 c] w fun e w'=>e=.returned (.int .i64 (Hg 13 a b c))/\Below w.heap.size w w':=by
 go_enter func139,ntmps139;go_wp2_with(first|(go_at_call 151;refine(TV _ ha.1 ha.2 _).mono ?_;rintro e w1 ⟨rfl,hb1⟩));go_ret;exact⟨rfl,hb1⟩
theorem Z1(a b c:Int)(ha:Aw a)(hb:Aw b)(hc:Aw c)(w:World):Calls prog 139 #[.int .i64 14,.int .i64 a,.int .i64 b,.int .i64 c] w fun e w'=>e=.returned (.int .i64 (Hg 14 a b c))/\Below w.heap.size w w':=by
 go_enter func139,ntmps139;go_wp2_with(first|(go_at_call 153;refine(RC _ ha _).mono ?_;rintro e w1 ⟨rfl,hw1⟩;obtain rfl:=hw1.symm)|(go_at_call 152;refine(L7 _ _).mono ?_;rintro e w1 ⟨rfl,hw1⟩;obtain rfl:=hw1.symm));go_ret;exact⟨rfl,K7 _⟩
theorem rdo_4(a b c:Int)(ha:Aw a)(hb:Aw b)(hc:Aw c)(w:World):Calls prog 139 #[.int .i64 4,.int .i64 a,.int .i64 b,.int .i64 c] w fun e w'=>e=.returned (.int .i64 (Hg 4 a b c))/\Below w.heap.size w w':=by
 go_enter func139,ntmps139;go_wp2_with(first|(go_at_call 125;refine(Jk _ ha.1 ha.2 _ hb.1 hb.2 _).mono ?_;rintro e w1 ⟨rfl,hb1⟩));go_ret;exact⟨rfl,hb1⟩
theorem rdo_5(a b c:Int)(ha:Aw a)(hb:Aw b)(hc:Aw c)(w:World):Calls prog 139 #[.int .i64 5,.int .i64 a,.int .i64 b,.int .i64 c] w fun e w'=>e=.returned (.int .i64 (Hg 5 a b c))/\Below w.heap.size w w':=by
 go_enter func139,ntmps139;go_wp2_with(first|(go_at_call 154;refine(UR _ ha.1 ha.2 _ hb.1 hb.2 _).mono ?_;rintro e w1 ⟨rfl,hb1⟩));go_ret;exact⟨rfl,hb1⟩
theorem rdo_6(a b c:Int)(ha:Aw a)(hb:Aw b)(hc:Aw c)(w:World):Calls prog 139 #[.int .i64 6,.int .i64 a,.int .i64 b,.int .i64 c] w fun e w'=>e=.returned (.int .i64 (Hg 6 a b c))/\Below w.heap.size w w':=by
 go_enter func139,ntmps139;go_wp2_with(first|(go_at_call 123;refine(Jr _ ha.1 ha.2 _ hb.1 hb.2 _).mono ?_;rintro e w1 ⟨rfl,hb1⟩));go_ret;exact⟨rfl,hb1⟩
theorem rdo_7(a b c:Int)(ha:Aw a)(hb:Aw b)(hc:Aw c)(w:World):Calls prog 139 #[.int .i64 7,.int .i64 a,.int .i64 b,.int .i64 c] w fun e w'=>e=.returned (.int .i64 (Hg 7 a b c))/\Below w.heap.size w w':=by
 go_enter func139,ntmps139;go_wp2_with(first|(go_at_call 155;refine(TZ _ ha.1 ha.2 _ hb.1 hb.2 _).mono ?_;rintro e w1 ⟨rfl,hb1⟩));go_ret;exact⟨rfl,hb1⟩
theorem rdo_8(a b c:Int)(ha:Aw a)(hb:Aw b)(hc:Aw c)(w:World):Calls prog 139 #[.int .i64 8,.int .i64 a,.int .i64 b,.int .i64 c] w fun e w'=>e=.returned (.int .i64 (Hg 8 a b c))/\Below w.heap.size w w':=by
 go_enter func139,ntmps139;go_wp2_with(first|(go_at_call 126;refine(Nd _ ha.1 ha.2 _ hb.1 hb.2 _).mono ?_;rintro e w1 ⟨rfl,hb1⟩));go_ret;exact⟨rfl,hb1⟩
theorem rdo_9(a b c:Int)(ha:Aw a)(hb:Aw b)(hc:Aw c)(w:World):Calls prog 139 #[.int .i64 9,.int .i64 a,.int .i64 b,.int .i64 c] w fun e w'=>e=.returned (.int .i64 (Hg 9 a b c))/\Below w.heap.size w w':=by
 go_enter func139,ntmps139;go_wp2_with(first|(go_at_call 156;refine(U9 _ ha.1 ha.2 _ hb.1 hb.2 _).mono ?_;rintro e w1 ⟨rfl,hb1⟩));go_ret;exact⟨rfl,hb1⟩
theorem YX(a b c:Int)(ha:Aw a)(hb:Aw b)(hc:Aw c)(w:World):Calls prog 139 #[.int .i64 10,.int .i64 a,.int .i64 b,.int .i64 c] w fun e w'=>e=.returned (.int .i64 (Hg 10 a b c))/\Below w.heap.size w w':=by
 go_enter func139,ntmps139;go_wp2_with(first|(go_at_call 157;refine(RH _ ha.1 ha.2 _ hb.1 hb.2 _).mono ?_;rintro e w1 ⟨rfl,hb1⟩)|(go_at_call 152;refine(L7 _ _).mono ?_;rintro e w2 ⟨rfl,hw2⟩;obtain rfl:=hw2.symm));go_ret;exact⟨rfl,hb1⟩
theorem Z2(a b c:Int)(ha:Aw a)(hb:Aw b)(hc:Aw c)(w:World):Calls prog 139 #[.int .i64 15,.int .i64 a,.int .i64 b,.int .i64 c] w fun e w'=>e=.returned (.int .i64 (Hg 15 a b c))/\Below w.heap.size w w':=by
 go_enter func139,ntmps139;go_wp2_with(first|(go_at_call 158;refine(Nj _ ha.1 ha.2 _ hb.1 hb.2 _ hc.1 hc.2 _).mono ?_;rintro e w1 ⟨rfl,hb1⟩));go_ret;exact⟨rfl,hb1⟩
theorem Xm(op:Int)(h:Co op≠0)(a b c:Int)(ha:Aw a)(hb:Aw b)(hc:Aw c)(w:World):Calls prog 139 #[.int .i64 op,.int .i64 a,.int .i64 b,.int .i64 c] w fun e w'=>e=.returned (.int .i64 (Hg op a b c))/\Below w.heap.size w w':=by
 rcases If op h with rfl|rfl|rfl|rfl|rfl|rfl|rfl|rfl|rfl|rfl|rfl|rfl|rfl
 ·exact rdo_3 a b c ha hb hc w
 ·exact YY a b c ha hb hc w
 ·exact YZ a b c ha hb hc w
 ·exact Z0 a b c ha hb hc w
 ·exact Z1 a b c ha hb hc w
 ·exact rdo_4 a b c ha hb hc w
 ·exact rdo_5 a b c ha hb hc w
 ·exact rdo_6 a b c ha hb hc w
 ·exact rdo_7 a b c ha hb hc w
 ·exact rdo_8 a b c ha hb hc w
 ·exact rdo_9 a b c ha hb hc w
 ·exact YX a b c ha hb hc w
 ·exact Z2 a b c ha hb hc w
theorem Xj(p:Option Addr)(n c i:Nat)(X:Nat->Int)(hn:n<=1048576)(hi:i<=1048576)(h:n=1\/i<n)(w:World)(hp:B5 w p n (fun j=>.int .i64 (X j))):
 Calls prog 138 #[.slice p n c,.int .i64 i] w fun e w'=>e=.returned (.int .i64 (X (if n=1 then 0 else i)))/\w'=w:=by
 rcases hp with hp|⟨b,o,rfl,hp⟩
 ·omega
 by_cases h1:n=1
 ·subst h1;have c1:=hp 0 oM;rw[Nat.add_zero]at c1;rw[if_pos rfl];clear hp h;go_enter func138,ntmps138;go_wp2;go_ret;exact⟨rfl,rfl⟩
 ·have c1:=hp i oM;have n1:¬ ((n:Int)=1):=oM;have i1:(0:Int)<=(i:Int):=oM;have i2:(i:Int)<(n:Int):=oM;rw[if_neg h1];clear hp h;go_enter func138,ntmps138;go_wp2;go_ret;exact⟨rfl,rfl⟩
end Go.Proofs.YtcdpmgldkibfiaaGreat
