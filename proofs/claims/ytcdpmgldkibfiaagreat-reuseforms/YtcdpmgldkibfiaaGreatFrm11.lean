import Derived.Test.YtcdpmgldkibfiaaGreatFrm9
import Derived.Maps.AppendAt
import Derived.Laws.AppendOwnNone
import Derived.Shelf.Abstract
import Derived.Deep.RegionHeld3
import Derived.Laws.EntriesVeiled
import Derived.Test.YtcdpmgldkibfiaaGreatFrm1
namespace Go.Proofs.YtcdpmgldkibfiaaGreat
open Go.RowKit Go.Proofs.Tryz
set_option linter.all false
set_option maxRecDepth 100000
set_option maxHeartbeats 16000000
theorem MI(a b:Int)(h0:0<=a)(h1:a<4294967296)(g0:0<=b)(g1:b<4294967296)(h:BD a=true\/BD b=true):Gc a b=2143289344:=by
 rcases h with h|h
 ·obtain⟨s,t,e⟩:=F7 a h0 h1 h;rw[Eh a b e rfl];cases Ieee.single.read b.toNat<;>rfl
 ·obtain⟨s,t,e⟩:=F7 b g0 g1 h;rw[Eh a b rfl e];cases Ieee.single.read a.toNat<;>rfl
theorem Pn(s:Bool):((Ieee.single.write (.number s 0 0):Nat):Int)=H2 s:=by cases s<;>decide
theorem Xx(A B:Int)(h1:8388608<=A)(h2:A<16777216)(h3:8388608<=B)(h4:B<16777216):0<=A*274877906944/B/\A*274877906944/B<1099511627776/\0<=A*274877906944%B/\A*274877906944%B<16777216:=by
 have e:=Int.mul_ediv_add_emod (A*274877906944) B;have r0:=Int.emod_nonneg (A*274877906944) (show B≠0 by omega);have r1:=Int.emod_lt_of_pos (A*274877906944) (show 0<B by omega);have q0:0<=A*274877906944/B:=Int.ediv_nonneg oM oM;refine⟨q0,?_,r0,oM⟩;apply Int.ediv_lt_of_lt_mul oM;omega
theorem Uk(a:Int)(h0:0<=a)(h1:a<4294967296)(b:Int)(g0:0<=b)(g1:b<4294967296)(w:World):
 Calls prog 155 #[.int .i64 a,.int .i64 b] w fun e w'=>e=.returned (.int .i64 (Gc a b))/\Below w.heap.size w w':=by
 cases hna:BD a
 ·cases hnb:BD b
  ·cases hia:Dr a
   ·obtain⟨ra,a1,a2,a3,a4,a5⟩:=BF a h0 h1 hia hna;cases hib:Dr b
    ·obtain⟨rb,b1,b2,b3,b4,b5⟩:=BF b g0 g1 hib hnb;by_cases zb:nM b=0
     ·by_cases za:nM a=0
      ·have hv:Gc a b=2143289344:=by rw[Eh a b ra rb,za,zb];rfl
       rw[hv];clear hv ra rb;exact Wb
      ·have hv:Gc a b=H2 (B6 a != B6 b)+2139095040:=by
        rw[Eh a b ra rb,zb,←Ce,←DO];have:(nM a).toNat≠0:=oM;simp only[Ieee.Datum.quotient,if_neg this,Int.toNat_zero,if_true];rfl
       rw[hv];clear hv ra rb;exact Wb
     ·by_cases za:nM a=0
      ·have hv:Gc a b=H2 (B6 a != B6 b):=by
        rw[Eh a b ra rb,za,←DO];have:(nM b).toNat≠0:=oM;simp only[Ieee.Datum.quotient,if_neg this,Int.toNat_zero,Nat.zero_shiftLeft,Nat.zero_div,Nat.zero_mod];exact G2 _ _
       rw[hv];clear hv ra rb;exact Wb
      ·obtain⟨ka,A1,A2⟩:=EL (nM a) oM a2;obtain⟨kb,B1,B2⟩:=EL (nM b) oM b2;obtain⟨A,hA⟩:∃A,nM a*2^nk (nM a)=A:=⟨_,rfl⟩
       obtain⟨B,hB⟩:∃B,nM b*2^nk (nM b)=B:=⟨_,rfl⟩
       have hv:=Tr a b h0 h1 g0 g1 hia hna hib hnb za zb A B hA hB;rw[hA]at A1 A2;rw[hB]at B1 B2;have hq:=Xx A B A1 A2 B1 B2;obtain⟨EA,hEA⟩:∃EA,nE a-(nk (nM a):Int)=EA:=⟨_,rfl⟩
       obtain⟨EB,hEB⟩:∃EB,nE b-(nk (nM b):Int)=EB:=⟨_,rfl⟩
       rw[hEA,hEB]at hv;have eb: -172<=EA/\EA<=104/\-172<=EB/\EB<=104:=oM;rw[hv];clear hv ra rb a5 b5;obtain⟨q,hqq⟩:∃q,A*274877906944/B=q:=⟨_,rfl⟩
       obtain⟨r,hrr⟩:∃r,A*274877906944%B=r:=⟨_,rfl⟩
       rw[hqq,hrr]at hq ⊢;have hdiv:(A*274877906944).tdiv B=q:=by rw[←hqq,Int.tdiv_eq_ediv_of_nonneg oM]
       have hmod:(A*274877906944).tmod B=r:=by rw[←hrr,Int.tmod_eq_emod_of_nonneg oM]
       by_cases zr:r=0
       ·rw[if_pos zr];exact Zbu
       ·rw[if_neg zr];exact Zbu
    ·obtain⟨rb,-,b1⟩:=Dj b g0 g1 hib;have hv:Gc a b=H2 (B6 a != B6 b):=by rw[Eh a b ra rb,←Pn,←DO];rfl
     rw[hv];clear hv ra rb;by_cases za:nM a=0
     ·skip
      exact Wb
     ·skip
      exact Wb
   ·obtain⟨ra,-,a1⟩:=Dj a h0 h1 hia;cases hib:Dr b
    ·obtain⟨rb,b1,b2,b3,b4,b5⟩:=BF b g0 g1 hib hnb;have hv:Gc a b=H2 (B6 a != B6 b)+2139095040:=by rw[Eh a b ra rb,←Ce,←DO];rfl
     rw[hv];clear hv ra rb;exact Wb
    ·obtain⟨rb,-,b1⟩:=Dj b g0 g1 hib;have hv:Gc a b=2143289344:=by rw[Eh a b ra rb];rfl
     rw[hv];clear hv ra rb;exact Wb
  ·have hv:=MI a b h0 h1 g0 g1 (Or.inr hnb);rw[hv];clear hv;exact Wb
 ·have hv:=MI a b h0 h1 g0 g1 (Or.inl hna);rw[hv];clear hv;exact Wb
theorem MG(a b:Int)(h0:0<=a)(h1:a<4294967296)(g0:0<=b)(g1:b<4294967296)(h:BD a=true\/BD b=true):Db a b=2143289344:=by
 rcases h with h|h
 ·obtain⟨s,t,e⟩:=F7 a h0 h1 h;rw[Cw a b e rfl];cases Ieee.single.read b.toNat<;>rfl
 ·obtain⟨s,t,e⟩:=F7 b g0 g1 h;rw[Cw a b rfl e];cases Ieee.single.read a.toNat<;>rfl
theorem Km(a b:Int)(h0:0<=a)(h1:a<4294967296)(g0:0<=b)(g1:b<4294967296){s:Bool}{i:Int}(ra:Ieee.single.read a.toNat=.number s 0 i)(rb:Ieee.single.read b.toNat=.number (B6 b) (nM b).toNat (nE b))(hb:nM b≠0)(hb0:0<=nM b)(hi: -149<=i)(hj: -149<=nE b):
 Db a b=(Ieee.single.nearest (B6 b) (nM b).toNat (nE b):Nat):=by
 rw[Cw a b ra rb];simp only[Ieee.Datum.sum,Option.map_some,Ieee.Format.write];generalize hbase:min i (nE b)=base;have hz:Ieee.signed s 0 (i-base).toNat=0:=by unfold Ieee.signed;simp
 rw[hz,Int.zero_add,Hv];have hP:(1:Int)<=2^(nE b-base).toNat:=Int.pow_pos dE;have hX:0<((nM b).toNat:Int)*2^(nE b-base).toNat:=Int.mul_pos oM oM;have e1:¬ (Gi (B6 b) (((nM b).toNat:Int)*2^(nE b-base).toNat)=0):=by
  unfold Gi;split<;>omega
 have e2:decide (Gi (B6 b) (((nM b).toNat:Int)*2^(nE b-base).toNat)<0)=B6 b:=by
  generalize ((nM b).toNat:Int)*2^(nE b-base).toNat=X at *;cases B6 b<;>simp only[Gi,if_true,if_false,Bool.false_eq_true]<;>simp<;>omega
 have e3:(Gi (B6 b) (((nM b).toNat:Int)*2^(nE b-base).toNat)).natAbs=(nM b).toNat*2^(nE b-base).toNat:=by
  have hc:(((nM b).toNat*2^(nE b-base).toNat:Nat):Int)=((nM b).toNat:Int)*2^(nE b-base).toNat:=by rw[Int.natCast_mul,Int.natCast_pow];rfl
  unfold Gi;split<;>omega
 rw[if_neg e1,e2,e3];show((Ieee.single.nearest (B6 b) _ base:Nat):Int)=_;rw[Bq,Bq,CH,BA];obtain⟨c,hc⟩:∃c:Nat,(c:Int)=base+149:=⟨(base+149).toNat,oM⟩
 obtain⟨d,hd⟩:∃d:Nat,(d:Int)=nE b+149:=⟨(nE b+149).toNat,oM⟩
 have r1:=JA ((nM b).toNat*2^(nE b-base).toNat) c;have r2:=JA (nM b).toNat d;rw[show -149+(c:Int)=base by omega]at r1;rw[show -149+(d:Int)=nE b by omega]at r2;rw[r1,r2,Nat.mul_assoc,←Nat.pow_add,show(nE b-base).toNat+c=d by omega]
theorem Jr(a:Int)(h0:0<=a)(h1:a<4294967296)(b:Int)(g0:0<=b)(g1:b<4294967296)(w:World):
 Calls prog 125 #[.int .i64 a,.int .i64 b] w fun e w'=>e=.returned (.int .i64 (Db a b))/\Below w.heap.size w w':=by
 cases hna:BD a
 ·cases hnb:BD b
  ·cases hia:Dr a
   ·obtain⟨ra,a1,a2,a3,a4,a5⟩:=BF a h0 h1 hia hna;cases hib:Dr b
    ·obtain⟨rb,b1,b2,b3,b4,b5⟩:=BF b g0 g1 hib hnb;by_cases za:nM a=0
     ·by_cases zb:nM b=0
      ·have hv:Db a b=H2 (B6 a&&B6 b):=by
        rw[Cw a b ra rb,za,zb];simp only[Ieee.Datum.sum,Option.map_some,Ieee.Format.write];have:Ieee.signed (B6 a) (0:Int).toNat (nE a-min (nE a) (nE b)).toNat+Ieee.signed (B6 b) (0:Int).toNat (nE b-min (nE a) (nE b)).toNat=0:=by unfold Ieee.signed;simp
        rw[this,if_pos rfl];exact G2 _ _
       rw[hv];clear hv ra rb;cases hma:B6 a
       ·rw[Bool.false_and];exact SE
       ·rw[Bool.true_and];exact SE
      ·have hv:=Km a b h0 h1 g0 g1 (s:=B6 a) (i:=nE a) (by rw[ra,za];rfl) rb zb b1 a3 b3;rw[hv];clear hv ra rb;exact SE
     ·by_cases zb:nM b=0
      ·have hv:=Km b a g0 g1 h0 h1 (s:=B6 b) (i:=nE b) (by rw[rb,zb];rfl) ra za a1 b3 a3;rw[Kl,hv];clear hv ra rb;exact SE
      ·by_cases hE:nE a<nE b
       ·have hv:Db a b=So (B6 b) (nM b) (nE b) (B6 a) (nM a) (nE a):=by
         rw[Kl,Cw b a rb ra,NJ _ _ _ _ _ _ oM b2 oM a2 a3 oM b5]
        exact Zbq
       ·have hv:Db a b=So (B6 a) (nM a) (nE a) (B6 b) (nM b) (nE b):=by
         rw[Cw a b ra rb,NJ _ _ _ _ _ _ oM a2 oM b2 b3 oM a5]
        exact Zbq
    ·obtain⟨rb,-,b1⟩:=Dj b g0 g1 hib;have hv:Db a b=H2 (B6 b)+2139095040:=by rw[Cw a b ra rb,←Ce];rfl
     rw[hv];clear hv ra rb;exact SE
   ·obtain⟨ra,-,a1⟩:=Dj a h0 h1 hia;cases hib:Dr b
    ·obtain⟨rb,b1,b2,b3,b4,b5⟩:=BF b g0 g1 hib hnb;have hv:Db a b=H2 (B6 a)+2139095040:=by rw[Cw a b ra rb,←Ce];rfl
     rw[hv];clear hv ra rb;exact SE
    ·obtain⟨rb,-,b1⟩:=Dj b g0 g1 hib;cases hma:B6 a<;>cases hmb:B6 b<;>rw[hma]at ra<;>rw[hmb]at rb
     ·have hv:Db a b=H2 false+2139095040:=by rw[Cw a b ra rb,←Ce];rfl
      rw[hv];clear hv ra rb;exact SE
     ·have hv:Db a b=2143289344:=by rw[Cw a b ra rb];rfl
      rw[hv];clear hv ra rb;exact SE
     ·have hv:Db a b=2143289344:=by rw[Cw a b ra rb];rfl
      rw[hv];clear hv ra rb;exact SE
     ·have hv:Db a b=H2 true+2139095040:=by rw[Cw a b ra rb,←Ce];rfl
      rw[hv];clear hv ra rb;exact SE
  ·have hv:=MG a b h0 h1 g0 g1 (Or.inr hnb);rw[hv];clear hv;exact SE
 ·have hv:=MG a b h0 h1 g0 g1 (Or.inl hna);rw[hv];clear hv;exact SE
theorem Ij(d e:Ieee.Datum)(h:d.isNaN=true):e.sum d=none:=by
 cases d<;>simp[Ieee.Datum.isNaN]at h
 cases e<;>rfl
theorem WI(a b:Int)(g0:0<=b)(g1:b<4294967296):MT a b=Db a (J9 b):=by
 cases hn:nan b
 ·rw[MR b g0 g1 hn];unfold MT Db Ieee.Format.sub Ieee.Format.add;rw[Int.toNat_natCast,RJ _ oM]
 ·rw[MQ b g0 g1 hn];have h2:2139095040<rg b.toNat:=by rw[Jh b g0]at hn;simpa using hn
  unfold MT Db Ieee.Format.sub Ieee.Format.add;rw[E8 _ h2,show Ieee.single.read (2143289344:Int).toNat=.nan false 4194304 from by decide,Ij _ _ rfl,Ij _ _ rfl]
theorem Va(a:Int)(h0:0<=a)(h1:a<4294967296)(b:Int)(g0:0<=b)(g1:b<4294967296)(w:World):
 Calls prog 154 #[.int .i64 a,.int .i64 b] w fun e w'=>e=.returned (.int .i64 (MT a b))/\Below w.heap.size w w':=by
 rw[WI a b g0 g1];have hl:=PN b g0 g1;go_enter func154,ntmps154;go_wp2_with(first
  |(go_at_call 150;refine(Nn _ g0 g1 _).mono ?_;rintro e w1 ⟨rfl,hb1⟩)
  |(go_at_call 125;refine(Jr _ h0 h1 _ hl.1 hl.2 _).mono ?_;rintro e w2 ⟨rfl,hb2⟩))
 go_ret;exact⟨rfl,IW hb1 hb2⟩
def Ax(a:Int):Prop:=0<=a/\a<4294967296
theorem CF(a:Int)(h:Ax a):Ax (canon a):=EE a h.1 h.2
theorem PT(a b:Int):Ax (Db a b):=LP a b
theorem WW(a b:Int):Ax (MT a b):=WJ a b
theorem WT(a b:Int):Ax (EI a b):=Dh a b
theorem WQ(a b:Int):Ax (Gc a b):=WF a b
theorem TH(a:Int):Ax (Dn a):=TA a
theorem WU(a:Int)(h:Ax a):Ax (J9 a):=PN a h.1 h.2
theorem WP(a:Int)(h:Ax a):Ax (WD a):=EE _ (by have:=h.1;omega) (by have:=h.1;omega)
theorem ID(a b:Int)(h:Ax a)(k:Ax b):Ax (It a b):=by
 have h1:=h.1;have h2:=h.2;have k1:=k.1;have k2:=k.2;unfold Ax It;split
 ·decide
 ·exact h
 ·exact k
 ·split
  ·exact h
  ·exact k
theorem WR(a b:Int)(h:Ax a)(k:Ax b):Ax (J8 a b):=by
 have h1:=h.1;have h2:=h.2;have k1:=k.1;have k2:=k.2;unfold Ax J8;split
 ·decide
 ·exact k
 ·exact h
 ·split
  ·exact k
  ·exact h
theorem WV(c a b:Int)(h:Ax a)(k:Ax b):Ax (LV c a b):=by
 unfold LV;split
 ·exact CF b k
 ·exact CF a h
def Ks(f:Int->Int->Int)(s:Int)(X:Nat->Int):Nat->Int
 |0=>s
 |n+1=>f (Ks f s X n) (X n)
theorem EJ{f:Int->Int->Int}(hf:∀a b,Ax a->Ax b->Ax (f a b)){s:Int}(hs:Ax s){X:Nat->Int}(hX:∀i,Ax (X i)):∀n,Ax (Ks f s X n)
 |0=>hs
 |n+1=>hf _ _ (EJ hf hs hX n) (hX n)
def JV(X:Nat->Int)(n:Nat):Int:=Ks Db 0 X n
def Ew(X:Nat->Int)(n:Nat):Int:=Ks It 2139095040 X n
theorem I8:Ax 0:=by unfold Ax;decide
theorem WY(X:Nat->Int)(n:Nat)(hX:∀i,Ax (X i)):Ax (JV X n):=EJ (fun _ _ _ _=>LP _ _) I8 hX n
def Cr(op:Int):Nat:=
 if op=3\/op=11\/op=12\/op=13\/op=14 then 1 else if op=4\/op=5\/op=6\/op=7\/op=8\/op=9\/op=10 then 2 else if op=15 then 3 else 0
def Ox(b:Bool):Int:=if b then 1065353216 else 0
theorem MZ(b:Bool):Ax (Ox b):=by unfold Ax Ox;cases b<;>decide
theorem Bx{c:Prop}[Decidable c]{a b:Int}(h:Ax a)(k:Ax b):Ax (if c then a else b):=by
 split
 ·exact h
 ·exact k
def Hn(op a b c:Int):Int:=
 if op=3 then canon a else if op=11 then Dn a else if op=12 then J9 a else if op=13 then WD a else if op=14 then Ox (ffin a)
 else if op=4 then Db a b else if op=5 then MT a b else if op=6 then EI a b else if op=7 then Gc a b else if op=8 then It a b else if op=9 then J8 a b
 else if op=10 then Ox (J7 a b)else LV a b c
theorem PU(op a b c:Int)(ha:Ax a)(hb:Ax b)(hc:Ax c):Ax (Hn op a b c):=
 Bx (CF a ha) (Bx (TH a) (Bx (WU a ha) (Bx (WP a ha) (Bx (MZ _) (Bx (PT a b) (Bx (WW a b) (Bx (WT a b)
  (Bx (WQ a b) (Bx (ID a b ha hb) (Bx (WR a b ha hb) (Bx (MZ _) (WV a b c hb hc))))))))))))
def I0(X:Nat->Value)(n:Nat):List Value:=(List.range n).map X
theorem Yc(X:Nat->Value)(n i:Nat)(h:i<n):(I0 X n)[i]? =some (X i):=by simp[I0,h]
theorem Lz(X:Nat->Value)(n:Nat):I0 X (n+1)=I0 X n++[X n]:=by unfold I0;rw[List.range_succ];simp
theorem Lf{w:World}{base:Nat}{e:TypeId}{v:Value}{n:Nat}{X:Nat->Value}(h:w.ownsRow base e 1 v n (I0 X n)):
 ∃q cap,v=.slice q n cap/\B7 w q n X/\(∀b o s,q=some ⟨b,o,s⟩->base<=b)/\(q=none->n=0/\cap=0)/\n<=cap:=by
 rcases h.2 with⟨rfl,hx⟩|⟨g,cap,cur,rfl,hb,hg,rest⟩
 ·subst hx;exact⟨none,0,rfl,.inl rfl,fun b o s e=>(by cases e),fun _=>⟨rfl,rfl⟩,Nat.le_refl _⟩
 ·refine⟨some ⟨g,0,none⟩,cap,rfl,.inr ⟨g,0,rfl,fun i hi=>?_⟩,fun b o s e=>(by cases e;exact hb),fun e=>(by cases e),rest.1⟩;have:=h.cells (g:=g) rfl i (X i) (Yc X n i hi);rw[Nat.zero_add];by_cases c:i=0
  ·subst c;simpa[Addr.add]using this
  ·simpa[Addr.add,c]using this
theorem TG:(prog.info? 3).map (fun i=>(i.zero,i.size,i.bytes))=some (some (.int .i64 0),1,8):=kR

theorem Sy(p:Option Addr)(n c:Nat)(X:Nat->Int)(hX:∀i,Ax (X i))(hn:n<=1048576)(w:World)(hp:B7 w p n (fun i=>.int .i64 (X i))):
 Calls prog 96 #[.slice p n c] w fun e w'=>e=.returned (.int .i64 (JV X n))/\Below w.heap.size w w':=by
 go_enter func96,ntmps96;go_wp2
 go_loopw [3,4] (fun sv iv wr=>Below w.heap.size w wr/\∃j:Nat,j<=n/\iv=.int .i64 j/\sv=.int .i64 (JV X j)) (fun _ iv _=>n-(intOf iv).toNat)
 case atStart=>exact⟨Kg w,0,Nat.zero_le _,rfl,rfl⟩
 case round=>
  obtain⟨hb,j,hj,rfl,rfl⟩:=hrel;by_cases hlt:j<n
  ·rcases hp with hp|⟨b,o,rfl,hp⟩
   ·omega
   have hbl:b<w.heap.size:=Hk (hp j hlt);have h1:wr.cell? ⟨b,o+j,none⟩=some (.int .i64 (X j)):=(hb.cell hbl).trans (hp j hlt);have i1:(0:Int)<=(j:Int):=oM;have i2:(j:Int)<(n:Int):=oM;have s1:Ax (JV X j):=EJ (fun _ _ _ _=>PT _ _) Zhj hX j;have x1:=hX j;clear hp hX;go_wp2_with(go_at_call 125;refine(Jr _ s1.1 s1.2 _ x1.1 x1.2 _).mono ?_;rintro e w1 ⟨rfl,hb1⟩);go_roundw
   case rel=>exact⟨IW hb hb1,j+1,oM,gN,rfl⟩
   case measure=>simp[intOf];omega
  ·have:j=n:=oM;subst this;clear hp hX;go_wp2;go_ret;exact⟨rfl,hb⟩
theorem OZ(p:Option Addr)(n c:Nat)(X:Nat->Int)(hX:∀i,Ax (X i))(hn:n<=1048576)(w:World)(hp:B7 w p n (fun i=>.int .i64 (X i))):
 Calls prog 97 #[.slice p n c] w fun e w'=>e=.returned (.int .i64 (Ew X n))/\Below w.heap.size w w':=by
 go_enter func97,ntmps97;go_wp2
 go_loopw [3,4] (fun sv iv wr=>Below w.heap.size w wr/\∃j:Nat,j<=n/\iv=.int .i64 j/\sv=.int .i64 (Ew X j)) (fun _ iv _=>n-(intOf iv).toNat)
 case atStart=>exact⟨Kg w,0,Nat.zero_le _,rfl,rfl⟩
 case round=>
  obtain⟨hb,j,hj,rfl,rfl⟩:=hrel;by_cases hlt:j<n
  ·rcases hp with hp|⟨b,o,rfl,hp⟩
   ·omega
   have hbl:b<w.heap.size:=Hk (hp j hlt);have h1:wr.cell? ⟨b,o+j,none⟩=some (.int .i64 (X j)):=(hb.cell hbl).trans (hp j hlt);have i1:(0:Int)<=(j:Int):=oM;have i2:(j:Int)<(n:Int):=oM;have s1:Ax (Ew X j):=EJ ID Zhj hX j;have x1:=hX j;clear hp hX;go_wp2_with(go_at_call 126;refine(Nm _ s1.1 s1.2 _ x1.1 x1.2 _).mono ?_;rintro e w1 ⟨rfl,hb1⟩);go_roundw
   case rel=>exact⟨IW hb hb1,j+1,oM,gN,rfl⟩
   case measure=>simp[intOf];omega
  ·have:j=n:=oM;subst this;clear hp hX;go_wp2;go_ret;exact⟨rfl,hb⟩
theorem RQ(a:Int)(h:Ax a)(w:World):
 Calls prog 153 #[.int .i64 a] w fun e w'=>e=.returned (.bool (ffin a))/\w'=w:=by
 have h0:=h.1;have h1:=h.2;have t1:a.tmod 2147483648=a%2147483648:=Int.tmod_eq_emod_of_nonneg h0;go_enter func153,ntmps153;go_wp2;go_ret;exact⟨rfl,rfl⟩

structure O2(k:IntKind)(w:World)(q:Option Addr)(m:Nat)(P:Nat->Option Addr)(l c:Nat->Nat)(X:Nat->Nat->Int):Prop where
 heads:B7 w q m (fun i=>.slice (P i) (l i) (c i))
 parts:∀i,i<m->B7 w (P i) (l i) (fun j=>.int k (X i j))
theorem O2.below{k:IntKind}{w w':World}{q:Option Addr}{m:Nat}{P:Nat->Option Addr}{l c:Nat->Nat}{X:Nat->Nat->Int}(h:O2 k w q m P l c X)(b:Below w.heap.size w w'):O2 k w' q m P l c X:=
 ⟨h.heads.below b,fun i hi=>(h.parts i hi).below b⟩
theorem OS{w w':World}{base:Nat}{e:TypeId}{v:Value}{n:Nat}{xs:List Value}(h:w.ownsRow base e 1 v n xs)(k:Below w.heap.size w w'):w'.ownsRow base e 1 v n xs:=by
 refine h.kept (row:=none) ⟨k.os,k.tape,k.output,k.size,fun j hj _=>k.block j hj⟩ ?_;cases v.ownBlock<;>simp
theorem Il(op:Int)(h:Cr op≠0):op=3\/op=11\/op=12\/op=13\/op=14\/op=4\/op=5\/op=6\/op=7\/op=8\/op=9\/op=10\/op=15:=by
 unfold Cr at h;split at h
 ·omega
 ·split at h
  ·omega
  ·split at h
   ·omega
   ·exact absurd rfl h

def DD(l:Nat->Nat):Nat->Option Nat
 |0=>some (l 0)
 |j+1=>match DD l j with
  |none=>none
  |some n=>if l (j+1)=n then some n else if l (j+1)=0\/n=0 then none else if n=1 then some (l (j+1))else if l (j+1)=1 then some n else none
theorem H4{l:Nat->Nat}{j n:Nat}(h:DD l j=some n):DD l (j+1)=if l (j+1)=n then some n else if l (j+1)=0\/n=0 then none else if n=1 then some (l (j+1))else if l (j+1)=1 then some n else none:=by
 show(match DD l j with |none=>none|some n=>_)=_;rw[h]
theorem JF{l:Nat->Nat}{j:Nat}(h:DD l j=none):∀M,j<=M->DD l M=none:=by
 intro M;induction M with
 |zero=>
  intro hj;have:j=0:=oM;subst this;exact h
 |succ M ih=>
  intro hj;rcases Nat.lt_or_ge M j with c|c
  ·have:j=M+1:=oM;subst this;exact h
  ·show(match DD l M with |none=>none|some n=>_)=_;rw[ih c]
theorem Zq{l:Nat->Nat}{N:Nat}(hl:∀i,l i<=N):∀ {M n:Nat},DD l M=some n->n<=N:=by
 intro M;induction M with
 |zero=>intro n h;cases h;exact hl 0
 |succ M ih=>
  intro n h;cases e:DD l M with
  |none=>rw[JF e (M+1) oM]at h;cases h
  |some k=>
   rw[H4 e]at h;have:=ih e;have:=hl (M+1)
   repeat' split at h
   all_goals cases h
   all_goals omega
theorem NC{l:Nat->Nat}:∀ {M n:Nat},DD l M=some n->∀i,i<=M->l i=n\/(l i=1/\n≠0):=by
 intro M;induction M with
 |zero=>
  intro n h i hi;cases h;have:i=0:=oM;subst this;exact .inl rfl
 |succ M ih=>
  intro n h i hi;cases e:DD l M with
  |none=>rw[JF e (M+1) oM]at h;cases h
  |some k=>
   rw[H4 e]at h;have hi':i<=M\/i=M+1:=oM;split at h
   ·cases h
    rcases hi' with c|c
    ·exact ih e i c
    ·subst c;left;assumption
   ·split at h
    ·cases h
    ·split at h
     ·cases h
      rcases hi' with c|c
      ·have:=ih e i c;omega
      ·subst c;exact .inl rfl
     ·split at h
      ·cases h
       rcases hi' with c|c
       ·exact ih e i c
       ·subst c;right;omega
      ·cases h
def Ev(l:Nat->Nat)(X:Nat->Nat->Int)(m i j:Nat):Int:=if j<m then X j (if l j=1 then 0 else i)else 0
theorem Ck{l:Nat->Nat}{X:Nat->Nat->Int}(hX:∀i j,Ax (X i j))(m i j:Nat):Ax (Ev l X m i j):=Bx (hX _ _) I8
theorem G1{k:IntKind}{w:World}{b o m:Nat}{P:Nat->Option Addr}{l c:Nat->Nat}{X:Nat->Nat->Int}(h:O2 k w (some ⟨b,o,none⟩) m P l c X)(i:Nat)(hi:i<m):w.cell? ⟨b,o+i,none⟩=some (.slice (P i) (l i) (c i)):=by
 rcases h.heads with q|⟨b',o',e,hh⟩
 ·omega
 ·cases e;exact hh i hi
theorem Sf{l:Nat->Nat}{M n i j:Nat}(h:DD l M=some n)(hj:j<=M)(hi:i<n):l j=1\/i<l j:=by
 rcases NC h j hj with e|e
 ·right;omega
 ·left;exact e.1
theorem JM(op:Int):Cr op<=3:=by
 unfold Cr;split
 ·omega
 ·split
  ·omega
  ·split<;>omega

def sX:Nat->Nat->Int:=fun i j=>if i=0 then(if j=0 then 1065353216 else 1073741824)else 1065353216
def sl:Nat->Nat:=fun i=>if i=0 then 2 else 1
def sR:Nat->Int:=fun i=>Hn 4 (Ev sl sX 2 i 0) (Ev sl sX 2 i 1) (Ev sl sX 2 i 2)
def rn(l:Nat->Nat):Nat->Nat
 |0=>l 0
 |j+1=>if rn l j=1\/l j=0 then l j else rn l j
theorem Zn{l:Nat->Nat}:∀ {M n:Nat},DD l M=some n->rn l (M+1)=n:=by
 intro M;induction M with
 |zero=>intro n h;cases h;show(if l 0=1\/l 0=0 then l 0 else l 0)=l 0;split<;>rfl
 |succ M ih=>
  intro n h;cases e:DD l M with
  |none=>rw[JF e (M+1) oM]at h;cases h
  |some k=>
   rw[H4 e]at h;have hk:=ih e;show(if rn l (M+1)=1\/l (M+1)=0 then l (M+1)else rn l (M+1))=n;rw[hk];split at h
   ·cases h;split<;>omega
   ·split at h
    ·cases h
    ·split at h
     ·cases h;rw[if_pos oM]
     ·split at h
      ·cases h;rw[if_neg oM]
      ·cases h
theorem Vb(w:World):Calls prog 121 #[.int .i64 3] w fun e w'=>e=.returned (.int .i64 1)/\w'=w:=by
 exact Pw
theorem S4(w:World):Calls prog 121 #[.int .i64 11] w fun e w'=>e=.returned (.int .i64 1)/\w'=w:=by
 exact Pw
theorem S6(w:World):Calls prog 121 #[.int .i64 12] w fun e w'=>e=.returned (.int .i64 1)/\w'=w:=by
 exact Pw
theorem S7(w:World):Calls prog 121 #[.int .i64 13] w fun e w'=>e=.returned (.int .i64 1)/\w'=w:=by
 exact Pw
theorem S8(w:World):Calls prog 121 #[.int .i64 14] w fun e w'=>e=.returned (.int .i64 1)/\w'=w:=by
 exact Pw
theorem Vc(w:World):Calls prog 121 #[.int .i64 4] w fun e w'=>e=.returned (.int .i64 2)/\w'=w:=by
 exact Pw
theorem Vd(w:World):Calls prog 121 #[.int .i64 5] w fun e w'=>e=.returned (.int .i64 2)/\w'=w:=by
 exact Pw
theorem Ve(w:World):Calls prog 121 #[.int .i64 6] w fun e w'=>e=.returned (.int .i64 2)/\w'=w:=by
 exact Pw
theorem Vf(w:World):Calls prog 121 #[.int .i64 7] w fun e w'=>e=.returned (.int .i64 2)/\w'=w:=by
 exact Pw
theorem Vg(w:World):Calls prog 121 #[.int .i64 8] w fun e w'=>e=.returned (.int .i64 2)/\w'=w:=by
 exact Pw
theorem Vh(w:World):Calls prog 121 #[.int .i64 9] w fun e w'=>e=.returned (.int .i64 2)/\w'=w:=by
 exact Pw
theorem S3(w:World):Calls prog 121 #[.int .i64 10] w fun e w'=>e=.returned (.int .i64 2)/\w'=w:=by
 exact Pw
theorem S9(w:World):Calls prog 121 #[.int .i64 15] w fun e w'=>e=.returned (.int .i64 3)/\w'=w:=by
 exact Pw
theorem Sa(op:Int)(h:Cr op=0)(w:World):Calls prog 121 #[.int .i64 op] w fun e w'=>e=.returned (.int .i64 0)/\w'=w:=by
 have n1:¬ (op=3\/op=11\/op=12\/op=13\/op=14):=fun c=>by unfold Cr at h;rw[if_pos c]at h;cases h
 have n2:¬ (op=4\/op=5\/op=6\/op=7\/op=8\/op=9\/op=10):=fun c=>by unfold Cr at h;rw[if_neg n1,if_pos c]at h;cases h
 have n3:¬ (op=15):=fun c=>by unfold Cr at h;rw[if_neg n1,if_neg n2,if_pos c]at h;cases h
 simp only[not_or]at n1 n2;obtain⟨a1,a2,a3,a4,a5⟩:=n1;obtain⟨b1,b2,b3,b4,b5,b6,b7⟩:=n2;clear h;exact Pw
theorem Jz(op:Int)(w:World):Calls prog 121 #[.int .i64 op] w fun e w'=>e=.returned (.int .i64 (Cr op:Nat))/\w'=w:=by
 by_cases h:Cr op=0
 ·rw[h];exact Sa op h w
 ·rcases Il op h with rfl|rfl|rfl|rfl|rfl|rfl|rfl|rfl|rfl|rfl|rfl|rfl|rfl
  ·exact Vb w
  ·exact S4 w
  ·exact S6 w
  ·exact S7 w
  ·exact S8 w
  ·exact Vc w
  ·exact Vd w
  ·exact Ve w
  ·exact Vf w
  ·exact Vg w
  ·exact Vh w
  ·exact S3 w
  ·exact S9 w
theorem Lk(b:Bool)(w:World):Calls prog 152 #[.bool b] w fun e w'=>e=.returned (.int .i64 (Ox b))/\w'=w:=by
 cases b<;>(go_enter func152,ntmps152;go_wp2;go_ret;exact⟨rfl,rfl⟩)
theorem rdo_3(a b c:Int)(ha:Ax a)(hb:Ax b)(hc:Ax c)(w:World):Calls prog 139 #[.int .i64 3,.int .i64 a,.int .i64 b,.int .i64 c] w fun e w'=>e=.returned (.int .i64 (Hn 3 a b c))/\Below w.heap.size w w':=by
 go_enter func139,ntmps139;go_wp2_with(first|(go_at_call 90;refine(F4 _ ha.1 ha.2 _).mono ?_;rintro e w1 ⟨rfl,hw1⟩;obtain rfl:=hw1.symm));go_ret;exact⟨rfl,Kg _⟩
theorem Zg(a b c:Int)(ha:Ax a)(hb:Ax b)(hc:Ax c)(w:World):Calls prog 139 #[.int .i64 11,.int .i64 a,.int .i64 b,.int .i64 c] w fun e w'=>e=.returned (.int .i64 (Hn 11 a b c))/\Below w.heap.size w w':=by
 go_enter func139,ntmps139;go_wp2_with(first|(go_at_call 149;refine(RZ _ ha.1 ha.2 _).mono ?_;rintro e w1 ⟨rfl,hb1⟩));go_ret;exact⟨rfl,hb1⟩
theorem Zh(a b c:Int)(ha:Ax a)(hb:Ax b)(hc:Ax c)(w:World):Calls prog 139 #[.int .i64 12,.int .i64 a,.int .i64 b,.int .i64 c] w fun e w'=>e=.returned (.int .i64 (Hn 12 a b c))/\Below w.heap.size w w':=by
 go_enter func139,ntmps139;go_wp2_with(first|(go_at_call 150;refine(Nn _ ha.1 ha.2 _).mono ?_;rintro e w1 ⟨rfl,hb1⟩));go_ret;exact⟨rfl,hb1⟩
theorem Zi(a b c:Int)(ha:Ax a)(hb:Ax b)(hc:Ax c)(w:World):Calls prog 139 #[.int .i64 13,.int .i64 a,.int .i64 b,.int .i64 c] w fun e w'=>e=.returned (.int .i64 (Hn 13 a b c))/\Below w.heap.size w w':=by
 go_enter func139,ntmps139;go_wp2_with(first|(go_at_call 151;refine(Uh _ ha.1 ha.2 _).mono ?_;rintro e w1 ⟨rfl,hb1⟩));go_ret;exact⟨rfl,hb1⟩
theorem Zj(a b c:Int)(ha:Ax a)(hb:Ax b)(hc:Ax c)(w:World):Calls prog 139 #[.int .i64 14,.int .i64 a,.int .i64 b,.int .i64 c] w fun e w'=>e=.returned (.int .i64 (Hn 14 a b c))/\Below w.heap.size w w':=by
 go_enter func139,ntmps139;go_wp2_with(first|(go_at_call 153;refine(RQ _ ha _).mono ?_;rintro e w1 ⟨rfl,hw1⟩;obtain rfl:=hw1.symm)|(go_at_call 152;refine(Lk _ _).mono ?_;rintro e w1 ⟨rfl,hw1⟩;obtain rfl:=hw1.symm));go_ret;exact⟨rfl,Kg _⟩
theorem rdo_4(a b c:Int)(ha:Ax a)(hb:Ax b)(hc:Ax c)(w:World):Calls prog 139 #[.int .i64 4,.int .i64 a,.int .i64 b,.int .i64 c] w fun e w'=>e=.returned (.int .i64 (Hn 4 a b c))/\Below w.heap.size w w':=by
 go_enter func139,ntmps139;go_wp2_with(first|(go_at_call 125;refine(Jr _ ha.1 ha.2 _ hb.1 hb.2 _).mono ?_;rintro e w1 ⟨rfl,hb1⟩));go_ret;exact⟨rfl,hb1⟩
theorem rdo_5(a b c:Int)(ha:Ax a)(hb:Ax b)(hc:Ax c)(w:World):Calls prog 139 #[.int .i64 5,.int .i64 a,.int .i64 b,.int .i64 c] w fun e w'=>e=.returned (.int .i64 (Hn 5 a b c))/\Below w.heap.size w w':=by
 go_enter func139,ntmps139;go_wp2_with(first|(go_at_call 154;refine(Va _ ha.1 ha.2 _ hb.1 hb.2 _).mono ?_;rintro e w1 ⟨rfl,hb1⟩));go_ret;exact⟨rfl,hb1⟩
theorem rdo_6(a b c:Int)(ha:Ax a)(hb:Ax b)(hc:Ax c)(w:World):Calls prog 139 #[.int .i64 6,.int .i64 a,.int .i64 b,.int .i64 c] w fun e w'=>e=.returned (.int .i64 (Hn 6 a b c))/\Below w.heap.size w w':=by
 go_enter func139,ntmps139;go_wp2_with(first|(go_at_call 123;refine(Jx _ ha.1 ha.2 _ hb.1 hb.2 _).mono ?_;rintro e w1 ⟨rfl,hb1⟩));go_ret;exact⟨rfl,hb1⟩
theorem rdo_7(a b c:Int)(ha:Ax a)(hb:Ax b)(hc:Ax c)(w:World):Calls prog 139 #[.int .i64 7,.int .i64 a,.int .i64 b,.int .i64 c] w fun e w'=>e=.returned (.int .i64 (Hn 7 a b c))/\Below w.heap.size w w':=by
 go_enter func139,ntmps139;go_wp2_with(first|(go_at_call 155;refine(Uk _ ha.1 ha.2 _ hb.1 hb.2 _).mono ?_;rintro e w1 ⟨rfl,hb1⟩));go_ret;exact⟨rfl,hb1⟩
theorem rdo_8(a b c:Int)(ha:Ax a)(hb:Ax b)(hc:Ax c)(w:World):Calls prog 139 #[.int .i64 8,.int .i64 a,.int .i64 b,.int .i64 c] w fun e w'=>e=.returned (.int .i64 (Hn 8 a b c))/\Below w.heap.size w w':=by
 go_enter func139,ntmps139;go_wp2_with(first|(go_at_call 126;refine(Nm _ ha.1 ha.2 _ hb.1 hb.2 _).mono ?_;rintro e w1 ⟨rfl,hb1⟩));go_ret;exact⟨rfl,hb1⟩
theorem rdo_9(a b c:Int)(ha:Ax a)(hb:Ax b)(hc:Ax c)(w:World):Calls prog 139 #[.int .i64 9,.int .i64 a,.int .i64 b,.int .i64 c] w fun e w'=>e=.returned (.int .i64 (Hn 9 a b c))/\Below w.heap.size w w':=by
 go_enter func139,ntmps139;go_wp2_with(first|(go_at_call 156;refine(Uq _ ha.1 ha.2 _ hb.1 hb.2 _).mono ?_;rintro e w1 ⟨rfl,hb1⟩));go_ret;exact⟨rfl,hb1⟩
theorem Zf(a b c:Int)(ha:Ax a)(hb:Ax b)(hc:Ax c)(w:World):Calls prog 139 #[.int .i64 10,.int .i64 a,.int .i64 b,.int .i64 c] w fun e w'=>e=.returned (.int .i64 (Hn 10 a b c))/\Below w.heap.size w w':=by
 go_enter func139,ntmps139;go_wp2_with(first|(go_at_call 157;refine(RX _ ha.1 ha.2 _ hb.1 hb.2 _).mono ?_;rintro e w1 ⟨rfl,hb1⟩)|(go_at_call 152;refine(Lk _ _).mono ?_;rintro e w2 ⟨rfl,hw2⟩;obtain rfl:=hw2.symm));go_ret;exact⟨rfl,hb1⟩
theorem Zk(a b c:Int)(ha:Ax a)(hb:Ax b)(hc:Ax c)(w:World):Calls prog 139 #[.int .i64 15,.int .i64 a,.int .i64 b,.int .i64 c] w fun e w'=>e=.returned (.int .i64 (Hn 15 a b c))/\Below w.heap.size w w':=by
 go_enter func139,ntmps139;go_wp2_with(first|(go_at_call 158;refine(Nr _ ha.1 ha.2 _ hb.1 hb.2 _ hc.1 hc.2 _).mono ?_;rintro e w1 ⟨rfl,hb1⟩));go_ret;exact⟨rfl,hb1⟩
theorem XE(op:Int)(h:Cr op≠0)(a b c:Int)(ha:Ax a)(hb:Ax b)(hc:Ax c)(w:World):Calls prog 139 #[.int .i64 op,.int .i64 a,.int .i64 b,.int .i64 c] w fun e w'=>e=.returned (.int .i64 (Hn op a b c))/\Below w.heap.size w w':=by
 rcases Il op h with rfl|rfl|rfl|rfl|rfl|rfl|rfl|rfl|rfl|rfl|rfl|rfl|rfl
 ·exact rdo_3 a b c ha hb hc w
 ·exact Zg a b c ha hb hc w
 ·exact Zh a b c ha hb hc w
 ·exact Zi a b c ha hb hc w
 ·exact Zj a b c ha hb hc w
 ·exact rdo_4 a b c ha hb hc w
 ·exact rdo_5 a b c ha hb hc w
 ·exact rdo_6 a b c ha hb hc w
 ·exact rdo_7 a b c ha hb hc w
 ·exact rdo_8 a b c ha hb hc w
 ·exact rdo_9 a b c ha hb hc w
 ·exact Zf a b c ha hb hc w
 ·exact Zk a b c ha hb hc w
theorem Xy(p:Option Addr)(n c i:Nat)(X:Nat->Int)(hn:n<=1048576)(hi:i<=1048576)(h:n=1\/i<n)(w:World)(hp:B7 w p n (fun j=>.int .i64 (X j))):
 Calls prog 138 #[.slice p n c,.int .i64 i] w fun e w'=>e=.returned (.int .i64 (X (if n=1 then 0 else i)))/\w'=w:=by
 rcases hp with hp|⟨b,o,rfl,hp⟩
 ·omega
 by_cases h1:n=1
 ·subst h1;have c1:=hp 0 oM;rw[Nat.add_zero]at c1;rw[if_pos rfl];clear hp h;go_enter func138,ntmps138;go_wp2;go_ret;exact⟨rfl,rfl⟩
 ·have c1:=hp i oM;have n1:¬ ((n:Int)=1):=oM;have i1:(0:Int)<=(i:Int):=oM;have i2:(i:Int)<(n:Int):=oM;rw[if_neg h1];clear hp h;go_enter func138,ntmps138;go_wp2;go_ret;exact⟨rfl,rfl⟩
end Go.Proofs.YtcdpmgldkibfiaaGreat
