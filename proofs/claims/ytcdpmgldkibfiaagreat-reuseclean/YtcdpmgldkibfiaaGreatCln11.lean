import Derived.Test.YtcdpmgldkibfiaaGreatCln9
import Derived.Maps.AppendAt
import Derived.Laws.AppendOwnNone
import Derived.Shelf.Abstract
import Derived.Deep.RegionHeld3
import Derived.Laws.EntriesVeiled
import Derived.Test.YtcdpmgldkibfiaaGreatCln1
namespace Go.Proofs.YtcdpmgldkibfiaaGreat
open Go.RowKit Go.Proofs.Tryz
set_option linter.all false
set_option maxRecDepth 100000
set_option maxHeartbeats 16000000
theorem Ns(a b:Int)(h0:0<=a)(h1:a<4294967296)(g0:0<=b)(g1:b<4294967296)(h:BK a=true\/BK b=true):Gr a b=2143289344:=by
 rcases h with h|h
 ·obtain⟨s,t,e⟩:=Fl a h0 h1 h;rw[Er a b e rfl];cases Ieee.single.read b.toNat<;>rfl
 ·obtain⟨s,t,e⟩:=Fl b g0 g1 h;rw[Er a b rfl e];cases Ieee.single.read a.toNat<;>rfl
theorem Qm(s:Bool):((Ieee.single.write (.number s 0 0):Nat):Int)=Hr s:=by cases s<;>decide
theorem Yv(A B:Int)(h1:8388608<=A)(h2:A<16777216)(h3:8388608<=B)(h4:B<16777216):0<=A*274877906944/B/\A*274877906944/B<1099511627776/\0<=A*274877906944%B/\A*274877906944%B<16777216:=by
 have e:=Int.mul_ediv_add_emod (A*274877906944) B;have r0:=Int.emod_nonneg (A*274877906944) (show B≠0 by omega);have r1:=Int.emod_lt_of_pos (A*274877906944) (show 0<B by omega);have q0:0<=A*274877906944/B:=Int.ediv_nonneg oM oM;refine⟨q0,?_,r0,oM⟩;apply Int.ediv_lt_of_lt_mul oM;omega
theorem Vh(a:Int)(h0:0<=a)(h1:a<4294967296)(b:Int)(g0:0<=b)(g1:b<4294967296)(w:World):
 Calls prog 155 #[.int .i64 a,.int .i64 b] w fun e w'=>e=.returned (.int .i64 (Gr a b))/\Below w.heap.size w w':=by
 cases hna:BK a
 ·cases hnb:BK b
  ·cases hia:DD a
   ·obtain⟨ra,a1,a2,a3,a4,a5⟩:=BM a h0 h1 hia hna;cases hib:DD b
    ·obtain⟨rb,b1,b2,b3,b4,b5⟩:=BM b g0 g1 hib hnb;by_cases zb:nM b=0
     ·by_cases za:nM a=0
      ·have hv:Gr a b=2143289344:=by rw[Er a b ra rb,za,zb];rfl
       rw[hv];clear hv ra rb;exact Xe
      ·have hv:Gr a b=Hr (B8 a != B8 b)+2139095040:=by
        rw[Er a b ra rb,zb,←Ce,←DX];have:(nM a).toNat≠0:=oM;simp only[Ieee.Datum.quotient,if_neg this,Int.toNat_zero,if_true];rfl
       rw[hv];clear hv ra rb;exact Xe
     ·by_cases za:nM a=0
      ·have hv:Gr a b=Hr (B8 a != B8 b):=by
        rw[Er a b ra rb,za,←DX];have:(nM b).toNat≠0:=oM;simp only[Ieee.Datum.quotient,if_neg this,Int.toNat_zero,Nat.zero_shiftLeft,Nat.zero_div,Nat.zero_mod];exact Gh _ _
       rw[hv];clear hv ra rb;exact Xe
      ·obtain⟨ka,A1,A2⟩:=EX (nM a) oM a2;obtain⟨kb,B1,B2⟩:=EX (nM b) oM b2;obtain⟨A,hA⟩:∃A,nM a*2^nk (nM a)=A:=⟨_,rfl⟩
       obtain⟨B,hB⟩:∃B,nM b*2^nk (nM b)=B:=⟨_,rfl⟩
       have hv:=Uw a b h0 h1 g0 g1 hia hna hib hnb za zb A B hA hB;rw[hA]at A1 A2;rw[hB]at B1 B2;have hq:=Yv A B A1 A2 B1 B2;obtain⟨EA,hEA⟩:∃EA,nE a-(nk (nM a):Int)=EA:=⟨_,rfl⟩
       obtain⟨EB,hEB⟩:∃EB,nE b-(nk (nM b):Int)=EB:=⟨_,rfl⟩
       rw[hEA,hEB]at hv;have eb: -172<=EA/\EA<=104/\-172<=EB/\EB<=104:=oM;rw[hv];clear hv ra rb a5 b5;obtain⟨q,hqq⟩:∃q,A*274877906944/B=q:=⟨_,rfl⟩
       obtain⟨r,hrr⟩:∃r,A*274877906944%B=r:=⟨_,rfl⟩
       rw[hqq,hrr]at hq ⊢;have hdiv:(A*274877906944).tdiv B=q:=by rw[←hqq,Int.tdiv_eq_ediv_of_nonneg oM]
       have hmod:(A*274877906944).tmod B=r:=by rw[←hrr,Int.tmod_eq_emod_of_nonneg oM]
       by_cases zr:r=0
       ·rw[if_pos zr];exact Zbx
       ·rw[if_neg zr];exact Zbx
    ·obtain⟨rb,-,b1⟩:=Dw b g0 g1 hib;have hv:Gr a b=Hr (B8 a != B8 b):=by rw[Er a b ra rb,←Qm,←DX];rfl
     rw[hv];clear hv ra rb;by_cases za:nM a=0
     ·skip
      exact Xe
     ·skip
      exact Xe
   ·obtain⟨ra,-,a1⟩:=Dw a h0 h1 hia;cases hib:DD b
    ·obtain⟨rb,b1,b2,b3,b4,b5⟩:=BM b g0 g1 hib hnb;have hv:Gr a b=Hr (B8 a != B8 b)+2139095040:=by rw[Er a b ra rb,←Ce,←DX];rfl
     rw[hv];clear hv ra rb;exact Xe
    ·obtain⟨rb,-,b1⟩:=Dw b g0 g1 hib;have hv:Gr a b=2143289344:=by rw[Er a b ra rb];rfl
     rw[hv];clear hv ra rb;exact Xe
  ·have hv:=Ns a b h0 h1 g0 g1 (Or.inr hnb);rw[hv];clear hv;exact Xe
 ·have hv:=Ns a b h0 h1 g0 g1 (Or.inl hna);rw[hv];clear hv;exact Xe
theorem Nq(a b:Int)(h0:0<=a)(h1:a<4294967296)(g0:0<=b)(g1:b<4294967296)(h:BK a=true\/BK b=true):Dm a b=2143289344:=by
 rcases h with h|h
 ·obtain⟨s,t,e⟩:=Fl a h0 h1 h;rw[CC a b e rfl];cases Ieee.single.read b.toNat<;>rfl
 ·obtain⟨s,t,e⟩:=Fl b g0 g1 h;rw[CC a b rfl e];cases Ieee.single.read a.toNat<;>rfl
theorem Li(a b:Int)(h0:0<=a)(h1:a<4294967296)(g0:0<=b)(g1:b<4294967296){s:Bool}{i:Int}(ra:Ieee.single.read a.toNat=.number s 0 i)(rb:Ieee.single.read b.toNat=.number (B8 b) (nM b).toNat (nE b))(hb:nM b≠0)(hb0:0<=nM b)(hi: -149<=i)(hj: -149<=nE b):
 Dm a b=(Ieee.single.nearest (B8 b) (nM b).toNat (nE b):Nat):=by
 rw[CC a b ra rb];simp only[Ieee.Datum.sum,Option.map_some,Ieee.Format.write];generalize hbase:min i (nE b)=base;have hz:Ieee.signed s 0 (i-base).toNat=0:=by unfold Ieee.signed;simp
 rw[hz,Int.zero_add,Im];have hP:(1:Int)<=2^(nE b-base).toNat:=Int.pow_pos dE;have hX:0<((nM b).toNat:Int)*2^(nE b-base).toNat:=Int.mul_pos oM oM;have e1:¬ (Gx (B8 b) (((nM b).toNat:Int)*2^(nE b-base).toNat)=0):=by
  unfold Gx;split<;>omega
 have e2:decide (Gx (B8 b) (((nM b).toNat:Int)*2^(nE b-base).toNat)<0)=B8 b:=by
  generalize ((nM b).toNat:Int)*2^(nE b-base).toNat=X at *;cases B8 b<;>simp only[Gx,if_true,if_false,Bool.false_eq_true]<;>simp<;>omega
 have e3:(Gx (B8 b) (((nM b).toNat:Int)*2^(nE b-base).toNat)).natAbs=(nM b).toNat*2^(nE b-base).toNat:=by
  have hc:(((nM b).toNat*2^(nE b-base).toNat:Nat):Int)=((nM b).toNat:Int)*2^(nE b-base).toNat:=by rw[Int.natCast_mul,Int.natCast_pow];rfl
  unfold Gx;split<;>omega
 rw[if_neg e1,e2,e3];show((Ieee.single.nearest (B8 b) _ base:Nat):Int)=_;rw[Bt,Bt,CP,BG];obtain⟨c,hc⟩:∃c:Nat,(c:Int)=base+149:=⟨(base+149).toNat,oM⟩
 obtain⟨d,hd⟩:∃d:Nat,(d:Int)=nE b+149:=⟨(nE b+149).toNat,oM⟩
 have r1:=K7 ((nM b).toNat*2^(nE b-base).toNat) c;have r2:=K7 (nM b).toNat d;rw[show -149+(c:Int)=base by omega]at r1;rw[show -149+(d:Int)=nE b by omega]at r2;rw[r1,r2,Nat.mul_assoc,←Nat.pow_add,show(nE b-base).toNat+c=d by omega]
theorem JT(a:Int)(h0:0<=a)(h1:a<4294967296)(b:Int)(g0:0<=b)(g1:b<4294967296)(w:World):
 Calls prog 125 #[.int .i64 a,.int .i64 b] w fun e w'=>e=.returned (.int .i64 (Dm a b))/\Below w.heap.size w w':=by
 cases hna:BK a
 ·cases hnb:BK b
  ·cases hia:DD a
   ·obtain⟨ra,a1,a2,a3,a4,a5⟩:=BM a h0 h1 hia hna;cases hib:DD b
    ·obtain⟨rb,b1,b2,b3,b4,b5⟩:=BM b g0 g1 hib hnb;by_cases za:nM a=0
     ·by_cases zb:nM b=0
      ·have hv:Dm a b=Hr (B8 a&&B8 b):=by
        rw[CC a b ra rb,za,zb];simp only[Ieee.Datum.sum,Option.map_some,Ieee.Format.write];have:Ieee.signed (B8 a) (0:Int).toNat (nE a-min (nE a) (nE b)).toNat+Ieee.signed (B8 b) (0:Int).toNat (nE b-min (nE a) (nE b)).toNat=0:=by unfold Ieee.signed;simp
        rw[this,if_pos rfl];exact Gh _ _
       rw[hv];clear hv ra rb;cases hma:B8 a
       ·rw[Bool.false_and];exact TN
       ·rw[Bool.true_and];exact TN
      ·have hv:=Li a b h0 h1 g0 g1 (s:=B8 a) (i:=nE a) (by rw[ra,za];rfl) rb zb b1 a3 b3;rw[hv];clear hv ra rb;exact TN
     ·by_cases zb:nM b=0
      ·have hv:=Li b a g0 g1 h0 h1 (s:=B8 b) (i:=nE b) (by rw[rb,zb];rfl) ra za a1 b3 a3;rw[Lh,hv];clear hv ra rb;exact TN
      ·by_cases hE:nE a<nE b
       ·have hv:Dm a b=Tx (B8 b) (nM b) (nE b) (B8 a) (nM a) (nE a):=by
         rw[Lh,CC b a rb ra,OC _ _ _ _ _ _ oM b2 oM a2 a3 oM b5]
        exact Zbt
       ·have hv:Dm a b=Tx (B8 a) (nM a) (nE a) (B8 b) (nM b) (nE b):=by
         rw[CC a b ra rb,OC _ _ _ _ _ _ oM a2 oM b2 b3 oM a5]
        exact Zbt
    ·obtain⟨rb,-,b1⟩:=Dw b g0 g1 hib;have hv:Dm a b=Hr (B8 b)+2139095040:=by rw[CC a b ra rb,←Ce];rfl
     rw[hv];clear hv ra rb;exact TN
   ·obtain⟨ra,-,a1⟩:=Dw a h0 h1 hia;cases hib:DD b
    ·obtain⟨rb,b1,b2,b3,b4,b5⟩:=BM b g0 g1 hib hnb;have hv:Dm a b=Hr (B8 a)+2139095040:=by rw[CC a b ra rb,←Ce];rfl
     rw[hv];clear hv ra rb;exact TN
    ·obtain⟨rb,-,b1⟩:=Dw b g0 g1 hib;cases hma:B8 a<;>cases hmb:B8 b<;>rw[hma]at ra<;>rw[hmb]at rb
     ·have hv:Dm a b=Hr false+2139095040:=by rw[CC a b ra rb,←Ce];rfl
      rw[hv];clear hv ra rb;exact TN
     ·have hv:Dm a b=2143289344:=by rw[CC a b ra rb];rfl
      rw[hv];clear hv ra rb;exact TN
     ·have hv:Dm a b=2143289344:=by rw[CC a b ra rb];rfl
      rw[hv];clear hv ra rb;exact TN
     ·have hv:Dm a b=Hr true+2139095040:=by rw[CC a b ra rb,←Ce];rfl
      rw[hv];clear hv ra rb;exact TN
  ·have hv:=Nq a b h0 h1 g0 g1 (Or.inr hnb);rw[hv];clear hv;exact TN
 ·have hv:=Nq a b h0 h1 g0 g1 (Or.inl hna);rw[hv];clear hv;exact TN
theorem IL(d e:Ieee.Datum)(h:d.isNaN=true):e.sum d=none:=by
 cases d<;>simp[Ieee.Datum.isNaN]at h
 cases e<;>rfl
theorem XO(a b:Int)(g0:0<=b)(g1:b<4294967296):ND a b=Dm a (JA b):=by
 cases hn:nan b
 ·rw[NC b g0 g1 hn];unfold ND Dm Ieee.Format.sub Ieee.Format.add;rw[Int.toNat_natCast,SL _ oM]
 ·rw[NA b g0 g1 hn];have h2:2139095040<rg b.toNat:=by rw[JI b g0]at hn;simpa using hn
  unfold ND Dm Ieee.Format.sub Ieee.Format.add;rw[Ei _ h2,show Ieee.single.read (2143289344:Int).toNat=.nan false 4194304 from by decide,IL _ _ rfl,IL _ _ rfl]
theorem W7(a:Int)(h0:0<=a)(h1:a<4294967296)(b:Int)(g0:0<=b)(g1:b<4294967296)(w:World):
 Calls prog 154 #[.int .i64 a,.int .i64 b] w fun e w'=>e=.returned (.int .i64 (ND a b))/\Below w.heap.size w w':=by
 rw[XO a b g0 g1];have hl:=QK b g0 g1;go_enter func154,ntmps154;go_wp2_with(first
  |(go_at_call 150;refine(Oc _ g0 g1 _).mono ?_;rintro e w1 ⟨rfl,hb1⟩)
  |(go_at_call 125;refine(JT _ h0 h1 _ hl.1 hl.2 _).mono ?_;rintro e w2 ⟨rfl,hb2⟩))
 go_ret;exact⟨rfl,Jp hb1 hb2⟩
def Az(a:Int):Prop:=0<=a/\a<4294967296
theorem CN(a:Int)(h:Az a):Az (canon a):=EO a h.1 h.2
theorem QN(a b:Int):Az (Dm a b):=Mo a b
theorem XZ(a b:Int):Az (ND a b):=XP a b
theorem XW(a b:Int):Az (ET a b):=Dv a b
theorem XU(a b:Int):Az (Gr a b):=XL a b
theorem UJ(a:Int):Az (DA a):=UF a
theorem XX(a:Int)(h:Az a):Az (JA a):=QK a h.1 h.2
theorem XT(a:Int)(h:Az a):Az (XK a):=EO _ (by have:=h.1;omega) (by have:=h.1;omega)
theorem J6(a b:Int)(h:Az a)(k:Az b):Az (IV a b):=by
 have h1:=h.1;have h2:=h.2;have k1:=k.1;have k2:=k.2;unfold Az IV;split
 ·decide
 ·exact h
 ·exact k
 ·split
  ·exact h
  ·exact k
theorem XV(a b:Int)(h:Az a)(k:Az b):Az (Jz a b):=by
 have h1:=h.1;have h2:=h.2;have k1:=k.1;have k2:=k.2;unfold Az Jz;split
 ·decide
 ·exact k
 ·exact h
 ·split
  ·exact k
  ·exact h
theorem XY(c a b:Int)(h:Az a)(k:Az b):Az (Mt c a b):=by
 unfold Mt;split
 ·exact CN b k
 ·exact CN a h
def Lo(f:Int->Int->Int)(s:Int)(X:Nat->Int):Nat->Int
 |0=>s
 |n+1=>f (Lo f s X n) (X n)
theorem EU{f:Int->Int->Int}(hf:∀a b,Az a->Az b->Az (f a b)){s:Int}(hs:Az s){X:Nat->Int}(hX:∀i,Az (X i)):∀n,Az (Lo f s X n)
 |0=>hs
 |n+1=>hf _ _ (EU hf hs hX n) (hX n)
def Kt(X:Nat->Int)(n:Nat):Int:=Lo Dm 0 X n
def EI(X:Nat->Int)(n:Nat):Int:=Lo IV 2139095040 X n
theorem IA:Az 0:=by unfold Az;decide
theorem Y0(X:Nat->Int)(n:Nat)(hX:∀i,Az (X i)):Az (Kt X n):=EU (fun _ _ _ _=>Mo _ _) IA hX n
def Cx(op:Int):Nat:=
 if op=3\/op=11\/op=12\/op=13\/op=14 then 1 else if op=4\/op=5\/op=6\/op=7\/op=8\/op=9\/op=10 then 2 else if op=15 then 3 else 0
def Pp(b:Bool):Int:=if b then 1065353216 else 0
theorem NK(b:Bool):Az (Pp b):=by unfold Az Pp;cases b<;>decide
theorem BE{c:Prop}[Decidable c]{a b:Int}(h:Az a)(k:Az b):Az (if c then a else b):=by
 split
 ·exact h
 ·exact k
def Ie(op a b c:Int):Int:=
 if op=3 then canon a else if op=11 then DA a else if op=12 then JA a else if op=13 then XK a else if op=14 then Pp (ffin a)
 else if op=4 then Dm a b else if op=5 then ND a b else if op=6 then ET a b else if op=7 then Gr a b else if op=8 then IV a b else if op=9 then Jz a b
 else if op=10 then Pp (Jy a b)else Mt a b c
theorem QO(op a b c:Int)(ha:Az a)(hb:Az b)(hc:Az c):Az (Ie op a b c):=
 BE (CN a ha) (BE (UJ a) (BE (XX a ha) (BE (XT a ha) (BE (NK _) (BE (QN a b) (BE (XZ a b) (BE (XW a b)
  (BE (XU a b) (BE (J6 a b ha hb) (BE (XV a b ha hb) (BE (NK _) (XY a b c hb hc))))))))))))
def Ir(X:Nat->Value)(n:Nat):List Value:=(List.range n).map X
theorem Z7(X:Nat->Value)(n i:Nat)(h:i<n):(Ir X n)[i]? =some (X i):=by simp[Ir,h]
theorem Ma(X:Nat->Value)(n:Nat):Ir X (n+1)=Ir X n++[X n]:=by unfold Ir;rw[List.range_succ];simp
theorem LO{w:World}{base:Nat}{e:TypeId}{v:Value}{n:Nat}{X:Nat->Value}(h:w.ownsRow base e 1 v n (Ir X n)):
 ∃q cap,v=.slice q n cap/\Bb w q n X/\(∀b o s,q=some ⟨b,o,s⟩->base<=b)/\(q=none->n=0/\cap=0)/\n<=cap:=by
 rcases h.2 with⟨rfl,hx⟩|⟨g,cap,cur,rfl,hb,hg,rest⟩
 ·subst hx;exact⟨none,0,rfl,.inl rfl,fun b o s e=>(by cases e),fun _=>⟨rfl,rfl⟩,Nat.le_refl _⟩
 ·refine⟨some ⟨g,0,none⟩,cap,rfl,.inr ⟨g,0,rfl,fun i hi=>?_⟩,fun b o s e=>(by cases e;exact hb),fun e=>(by cases e),rest.1⟩;have:=h.cells (g:=g) rfl i (X i) (Z7 X n i hi);rw[Nat.zero_add];by_cases c:i=0
  ·subst c;simpa[Addr.add]using this
  ·simpa[Addr.add,c]using this
theorem UI:(prog.info? 3).map (fun i=>(i.zero,i.size,i.bytes))=some (some (.int .i64 0),1,8):=kR

theorem TH(p:Option Addr)(n c:Nat)(X:Nat->Int)(hX:∀i,Az (X i))(hn:n<=1048576)(w:World)(hp:Bb w p n (fun i=>.int .i64 (X i))):
 Calls prog 96 #[.slice p n c] w fun e w'=>e=.returned (.int .i64 (Kt X n))/\Below w.heap.size w w':=by
 go_enter func96,ntmps96;go_wp2
 go_loopw [3,4] (fun sv iv wr=>Below w.heap.size w wr/\∃j:Nat,j<=n/\iv=.int .i64 j/\sv=.int .i64 (Kt X j)) (fun _ iv _=>n-(intOf iv).toNat)
 case atStart=>exact⟨L6 w,0,Nat.zero_le _,rfl,rfl⟩
 case round=>
  obtain⟨hb,j,hj,rfl,rfl⟩:=hrel;by_cases hlt:j<n
  ·rcases hp with hp|⟨b,o,rfl,hp⟩
   ·omega
   have hbl:b<w.heap.size:=Ia (hp j hlt);have h1:wr.cell? ⟨b,o+j,none⟩=some (.int .i64 (X j)):=(hb.cell hbl).trans (hp j hlt);have i1:(0:Int)<=(j:Int):=oM;have i2:(j:Int)<(n:Int):=oM;have s1:Az (Kt X j):=EU (fun _ _ _ _=>QN _ _) Zho hX j;have x1:=hX j;clear hp hX;go_wp2_with(go_at_call 125;refine(JT _ s1.1 s1.2 _ x1.1 x1.2 _).mono ?_;rintro e w1 ⟨rfl,hb1⟩);go_roundw
   case rel=>exact⟨Jp hb hb1,j+1,oM,gN,rfl⟩
   case measure=>simp[intOf];omega
  ·have:j=n:=oM;subst this;clear hp hX;go_wp2;go_ret;exact⟨rfl,hb⟩
theorem PV(p:Option Addr)(n c:Nat)(X:Nat->Int)(hX:∀i,Az (X i))(hn:n<=1048576)(w:World)(hp:Bb w p n (fun i=>.int .i64 (X i))):
 Calls prog 97 #[.slice p n c] w fun e w'=>e=.returned (.int .i64 (EI X n))/\Below w.heap.size w w':=by
 go_enter func97,ntmps97;go_wp2
 go_loopw [3,4] (fun sv iv wr=>Below w.heap.size w wr/\∃j:Nat,j<=n/\iv=.int .i64 j/\sv=.int .i64 (EI X j)) (fun _ iv _=>n-(intOf iv).toNat)
 case atStart=>exact⟨L6 w,0,Nat.zero_le _,rfl,rfl⟩
 case round=>
  obtain⟨hb,j,hj,rfl,rfl⟩:=hrel;by_cases hlt:j<n
  ·rcases hp with hp|⟨b,o,rfl,hp⟩
   ·omega
   have hbl:b<w.heap.size:=Ia (hp j hlt);have h1:wr.cell? ⟨b,o+j,none⟩=some (.int .i64 (X j)):=(hb.cell hbl).trans (hp j hlt);have i1:(0:Int)<=(j:Int):=oM;have i2:(j:Int)<(n:Int):=oM;have s1:Az (EI X j):=EU J6 Zho hX j;have x1:=hX j;clear hp hX;go_wp2_with(go_at_call 126;refine(Oa _ s1.1 s1.2 _ x1.1 x1.2 _).mono ?_;rintro e w1 ⟨rfl,hb1⟩);go_roundw
   case rel=>exact⟨Jp hb hb1,j+1,oM,gN,rfl⟩
   case measure=>simp[intOf];omega
  ·have:j=n:=oM;subst this;clear hp hX;go_wp2;go_ret;exact⟨rfl,hb⟩
theorem SU(a:Int)(h:Az a)(w:World):
 Calls prog 153 #[.int .i64 a] w fun e w'=>e=.returned (.bool (ffin a))/\w'=w:=by
 have h0:=h.1;have h1:=h.2;have t1:a.tmod 2147483648=a%2147483648:=Int.tmod_eq_emod_of_nonneg h0;go_enter func153,ntmps153;go_wp2;go_ret;exact⟨rfl,rfl⟩

structure OS(k:IntKind)(w:World)(q:Option Addr)(m:Nat)(P:Nat->Option Addr)(l c:Nat->Nat)(X:Nat->Nat->Int):Prop where
 heads:Bb w q m (fun i=>.slice (P i) (l i) (c i))
 parts:∀i,i<m->Bb w (P i) (l i) (fun j=>.int k (X i j))
theorem OS.below{k:IntKind}{w w':World}{q:Option Addr}{m:Nat}{P:Nat->Option Addr}{l c:Nat->Nat}{X:Nat->Nat->Int}(h:OS k w q m P l c X)(b:Below w.heap.size w w'):OS k w' q m P l c X:=
 ⟨h.heads.below b,fun i hi=>(h.parts i hi).below b⟩
theorem PM{w w':World}{base:Nat}{e:TypeId}{v:Value}{n:Nat}{xs:List Value}(h:w.ownsRow base e 1 v n xs)(k:Below w.heap.size w w'):w'.ownsRow base e 1 v n xs:=by
 refine h.kept (row:=none) ⟨k.os,k.tape,k.output,k.size,fun j hj _=>k.block j hj⟩ ?_;cases v.ownBlock<;>simp
theorem IN(op:Int)(h:Cx op≠0):op=3\/op=11\/op=12\/op=13\/op=14\/op=4\/op=5\/op=6\/op=7\/op=8\/op=9\/op=10\/op=15:=by
 unfold Cx at h;split at h
 ·omega
 ·split at h
  ·omega
  ·split at h
   ·omega
   ·exact absurd rfl h

def DP(l:Nat->Nat):Nat->Option Nat
 |0=>some (l 0)
 |j+1=>match DP l j with
  |none=>none
  |some n=>if l (j+1)=n then some n else if l (j+1)=0\/n=0 then none else if n=1 then some (l (j+1))else if l (j+1)=1 then some n else none
theorem Hs{l:Nat->Nat}{j n:Nat}(h:DP l j=some n):DP l (j+1)=if l (j+1)=n then some n else if l (j+1)=0\/n=0 then none else if n=1 then some (l (j+1))else if l (j+1)=1 then some n else none:=by
 show(match DP l j with |none=>none|some n=>_)=_;rw[h]
theorem Ke{l:Nat->Nat}{j:Nat}(h:DP l j=none):∀M,j<=M->DP l M=none:=by
 intro M;induction M with
 |zero=>
  intro hj;have:j=0:=oM;subst this;exact h
 |succ M ih=>
  intro hj;rcases Nat.lt_or_ge M j with c|c
  ·have:j=M+1:=oM;subst this;exact h
  ·show(match DP l M with |none=>none|some n=>_)=_;rw[ih c]
theorem shp_le{l:Nat->Nat}{N:Nat}(hl:∀i,l i<=N):∀ {M n:Nat},DP l M=some n->n<=N:=by
 intro M;induction M with
 |zero=>intro n h;cases h;exact hl 0
 |succ M ih=>
  intro n h;cases e:DP l M with
  |none=>rw[Ke e (M+1) oM]at h;cases h
  |some k=>
   rw[Hs e]at h;have:=ih e;have:=hl (M+1)
   repeat' split at h
   all_goals cases h
   all_goals omega
theorem Ou{l:Nat->Nat}:∀ {M n:Nat},DP l M=some n->∀i,i<=M->l i=n\/(l i=1/\n≠0):=by
 intro M;induction M with
 |zero=>
  intro n h i hi;cases h;have:i=0:=oM;subst this;exact .inl rfl
 |succ M ih=>
  intro n h i hi;cases e:DP l M with
  |none=>rw[Ke e (M+1) oM]at h;cases h
  |some k=>
   rw[Hs e]at h;have hi':i<=M\/i=M+1:=oM;split at h
   ·cases h
    rcases hi' with c|c
    ·exact ih e i c
    ·subst c;left;assumption
   ·split at h
    ·cases h
    ·split at h
     ·cases h
      rcases hi' with c|c
      ·have:=ih e i c;omega
      ·subst c;exact .inl rfl
     ·split at h
      ·cases h
       rcases hi' with c|c
       ·exact ih e i c
       ·subst c;right;omega
      ·cases h
def EH(l:Nat->Nat)(X:Nat->Nat->Int)(m i j:Nat):Int:=if j<m then X j (if l j=1 then 0 else i)else 0
theorem Cq{l:Nat->Nat}{X:Nat->Nat->Int}(hX:∀i j,Az (X i j))(m i j:Nat):Az (EH l X m i j):=BE (hX _ _) IA
theorem Gg{k:IntKind}{w:World}{b o m:Nat}{P:Nat->Option Addr}{l c:Nat->Nat}{X:Nat->Nat->Int}(h:OS k w (some ⟨b,o,none⟩) m P l c X)(i:Nat)(hi:i<m):w.cell? ⟨b,o+i,none⟩=some (.slice (P i) (l i) (c i)):=by
 rcases h.heads with q|⟨b',o',e,hh⟩
 ·omega
 ·cases e;exact hh i hi
theorem Tp{l:Nat->Nat}{M n i j:Nat}(h:DP l M=some n)(hj:j<=M)(hi:i<n):l j=1\/i<l j:=by
 rcases Ou h j hj with e|e
 ·right;omega
 ·left;exact e.1
theorem Kl(op:Int):Cx op<=3:=by
 unfold Cx;split
 ·omega
 ·split
  ·omega
  ·split<;>omega

def sX:Nat->Nat->Int:=fun i j=>if i=0 then(if j=0 then 1065353216 else 1073741824)else 1065353216
def sl:Nat->Nat:=fun i=>if i=0 then 2 else 1
def sR:Nat->Int:=fun i=>Ie 4 (EH sl sX 2 i 0) (EH sl sX 2 i 1) (EH sl sX 2 i 2)
def rn(l:Nat->Nat):Nat->Nat
 |0=>l 0
 |j+1=>if rn l j=1\/l j=0 then l j else rn l j
theorem rn_shp{l:Nat->Nat}:∀ {M n:Nat},DP l M=some n->rn l (M+1)=n:=by
 intro M;induction M with
 |zero=>intro n h;cases h;show(if l 0=1\/l 0=0 then l 0 else l 0)=l 0;split<;>rfl
 |succ M ih=>
  intro n h;cases e:DP l M with
  |none=>rw[Ke e (M+1) oM]at h;cases h
  |some k=>
   rw[Hs e]at h;have hk:=ih e;show(if rn l (M+1)=1\/l (M+1)=0 then l (M+1)else rn l (M+1))=n;rw[hk];split at h
   ·cases h;split<;>omega
   ·split at h
    ·cases h
    ·split at h
     ·cases h;rw[if_pos oM]
     ·split at h
      ·cases h;rw[if_neg oM]
      ·cases h
theorem W8(w:World):Calls prog 121 #[.int .i64 3] w fun e w'=>e=.returned (.int .i64 1)/\w'=w:=by
 exact Qt
theorem Ta(w:World):Calls prog 121 #[.int .i64 11] w fun e w'=>e=.returned (.int .i64 1)/\w'=w:=by
 exact Qt
theorem Td(w:World):Calls prog 121 #[.int .i64 12] w fun e w'=>e=.returned (.int .i64 1)/\w'=w:=by
 exact Qt
theorem Te(w:World):Calls prog 121 #[.int .i64 13] w fun e w'=>e=.returned (.int .i64 1)/\w'=w:=by
 exact Qt
theorem Tg(w:World):Calls prog 121 #[.int .i64 14] w fun e w'=>e=.returned (.int .i64 1)/\w'=w:=by
 exact Qt
theorem W9(w:World):Calls prog 121 #[.int .i64 4] w fun e w'=>e=.returned (.int .i64 2)/\w'=w:=by
 exact Qt
theorem Wb(w:World):Calls prog 121 #[.int .i64 5] w fun e w'=>e=.returned (.int .i64 2)/\w'=w:=by
 exact Qt
theorem Wc(w:World):Calls prog 121 #[.int .i64 6] w fun e w'=>e=.returned (.int .i64 2)/\w'=w:=by
 exact Qt
theorem We(w:World):Calls prog 121 #[.int .i64 7] w fun e w'=>e=.returned (.int .i64 2)/\w'=w:=by
 exact Qt
theorem Wf(w:World):Calls prog 121 #[.int .i64 8] w fun e w'=>e=.returned (.int .i64 2)/\w'=w:=by
 exact Qt
theorem Wg(w:World):Calls prog 121 #[.int .i64 9] w fun e w'=>e=.returned (.int .i64 2)/\w'=w:=by
 exact Qt
theorem T9(w:World):Calls prog 121 #[.int .i64 10] w fun e w'=>e=.returned (.int .i64 2)/\w'=w:=by
 exact Qt
theorem Th(w:World):Calls prog 121 #[.int .i64 15] w fun e w'=>e=.returned (.int .i64 3)/\w'=w:=by
 exact Qt
theorem Ti(op:Int)(h:Cx op=0)(w:World):Calls prog 121 #[.int .i64 op] w fun e w'=>e=.returned (.int .i64 0)/\w'=w:=by
 have n1:¬ (op=3\/op=11\/op=12\/op=13\/op=14):=fun c=>by unfold Cx at h;rw[if_pos c]at h;cases h
 have n2:¬ (op=4\/op=5\/op=6\/op=7\/op=8\/op=9\/op=10):=fun c=>by unfold Cx at h;rw[if_neg n1,if_pos c]at h;cases h
 have n3:¬ (op=15):=fun c=>by unfold Cx at h;rw[if_neg n1,if_neg n2,if_pos c]at h;cases h
 simp only[not_or]at n1 n2;obtain⟨a1,a2,a3,a4,a5⟩:=n1;obtain⟨b1,b2,b3,b4,b5,b6,b7⟩:=n2;clear h;exact Qt
theorem K6(op:Int)(w:World):Calls prog 121 #[.int .i64 op] w fun e w'=>e=.returned (.int .i64 (Cx op:Nat))/\w'=w:=by
 by_cases h:Cx op=0
 ·rw[h];exact Ti op h w
 ·rcases IN op h with rfl|rfl|rfl|rfl|rfl|rfl|rfl|rfl|rfl|rfl|rfl|rfl|rfl
  ·exact W8 w
  ·exact Ta w
  ·exact Td w
  ·exact Te w
  ·exact Tg w
  ·exact W9 w
  ·exact Wb w
  ·exact Wc w
  ·exact We w
  ·exact Wf w
  ·exact Wg w
  ·exact T9 w
  ·exact Th w
theorem LV(b:Bool)(w:World):Calls prog 152 #[.bool b] w fun e w'=>e=.returned (.int .i64 (Pp b))/\w'=w:=by
 cases b<;>(go_enter func152,ntmps152;go_wp2;go_ret;exact⟨rfl,rfl⟩)
theorem rdo_3(a b c:Int)(ha:Az a)(hb:Az b)(hc:Az c)(w:World):Calls prog 139 #[.int .i64 3,.int .i64 a,.int .i64 b,.int .i64 c] w fun e w'=>e=.returned (.int .i64 (Ie 3 a b c))/\Below w.heap.size w w':=by
 go_enter func139,ntmps139;go_wp2_with(first|(go_at_call 90;refine(Fh _ ha.1 ha.2 _).mono ?_;rintro e w1 ⟨rfl,hw1⟩;obtain rfl:=hw1.symm));go_ret;exact⟨rfl,L6 _⟩
theorem rdo_11(a b c:Int)(ha:Az a)(hb:Az b)(hc:Az c)(w:World):Calls prog 139 #[.int .i64 11,.int .i64 a,.int .i64 b,.int .i64 c] w fun e w'=>e=.returned (.int .i64 (Ie 11 a b c))/\Below w.heap.size w w':=by
 go_enter func139,ntmps139;go_wp2_with(first|(go_at_call 149;refine(T6 _ ha.1 ha.2 _).mono ?_;rintro e w1 ⟨rfl,hb1⟩));go_ret;exact⟨rfl,hb1⟩
theorem rdo_12(a b c:Int)(ha:Az a)(hb:Az b)(hc:Az c)(w:World):Calls prog 139 #[.int .i64 12,.int .i64 a,.int .i64 b,.int .i64 c] w fun e w'=>e=.returned (.int .i64 (Ie 12 a b c))/\Below w.heap.size w w':=by
 go_enter func139,ntmps139;go_wp2_with(first|(go_at_call 150;refine(Oc _ ha.1 ha.2 _).mono ?_;rintro e w1 ⟨rfl,hb1⟩));go_ret;exact⟨rfl,hb1⟩
theorem rdo_13(a b c:Int)(ha:Az a)(hb:Az b)(hc:Az c)(w:World):Calls prog 139 #[.int .i64 13,.int .i64 a,.int .i64 b,.int .i64 c] w fun e w'=>e=.returned (.int .i64 (Ie 13 a b c))/\Below w.heap.size w w':=by
 go_enter func139,ntmps139;go_wp2_with(first|(go_at_call 151;refine(Ve _ ha.1 ha.2 _).mono ?_;rintro e w1 ⟨rfl,hb1⟩));go_ret;exact⟨rfl,hb1⟩
theorem rdo_14(a b c:Int)(ha:Az a)(hb:Az b)(hc:Az c)(w:World):Calls prog 139 #[.int .i64 14,.int .i64 a,.int .i64 b,.int .i64 c] w fun e w'=>e=.returned (.int .i64 (Ie 14 a b c))/\Below w.heap.size w w':=by
 go_enter func139,ntmps139;go_wp2_with(first|(go_at_call 153;refine(SU _ ha _).mono ?_;rintro e w1 ⟨rfl,hw1⟩;obtain rfl:=hw1.symm)|(go_at_call 152;refine(LV _ _).mono ?_;rintro e w1 ⟨rfl,hw1⟩;obtain rfl:=hw1.symm));go_ret;exact⟨rfl,L6 _⟩
theorem rdo_4(a b c:Int)(ha:Az a)(hb:Az b)(hc:Az c)(w:World):Calls prog 139 #[.int .i64 4,.int .i64 a,.int .i64 b,.int .i64 c] w fun e w'=>e=.returned (.int .i64 (Ie 4 a b c))/\Below w.heap.size w w':=by
 go_enter func139,ntmps139;go_wp2_with(first|(go_at_call 125;refine(JT _ ha.1 ha.2 _ hb.1 hb.2 _).mono ?_;rintro e w1 ⟨rfl,hb1⟩));go_ret;exact⟨rfl,hb1⟩
theorem rdo_5(a b c:Int)(ha:Az a)(hb:Az b)(hc:Az c)(w:World):Calls prog 139 #[.int .i64 5,.int .i64 a,.int .i64 b,.int .i64 c] w fun e w'=>e=.returned (.int .i64 (Ie 5 a b c))/\Below w.heap.size w w':=by
 go_enter func139,ntmps139;go_wp2_with(first|(go_at_call 154;refine(W7 _ ha.1 ha.2 _ hb.1 hb.2 _).mono ?_;rintro e w1 ⟨rfl,hb1⟩));go_ret;exact⟨rfl,hb1⟩
theorem rdo_6(a b c:Int)(ha:Az a)(hb:Az b)(hc:Az c)(w:World):Calls prog 139 #[.int .i64 6,.int .i64 a,.int .i64 b,.int .i64 c] w fun e w'=>e=.returned (.int .i64 (Ie 6 a b c))/\Below w.heap.size w w':=by
 go_enter func139,ntmps139;go_wp2_with(first|(go_at_call 123;refine(JY _ ha.1 ha.2 _ hb.1 hb.2 _).mono ?_;rintro e w1 ⟨rfl,hb1⟩));go_ret;exact⟨rfl,hb1⟩
theorem rdo_7(a b c:Int)(ha:Az a)(hb:Az b)(hc:Az c)(w:World):Calls prog 139 #[.int .i64 7,.int .i64 a,.int .i64 b,.int .i64 c] w fun e w'=>e=.returned (.int .i64 (Ie 7 a b c))/\Below w.heap.size w w':=by
 go_enter func139,ntmps139;go_wp2_with(first|(go_at_call 155;refine(Vh _ ha.1 ha.2 _ hb.1 hb.2 _).mono ?_;rintro e w1 ⟨rfl,hb1⟩));go_ret;exact⟨rfl,hb1⟩
theorem rdo_8(a b c:Int)(ha:Az a)(hb:Az b)(hc:Az c)(w:World):Calls prog 139 #[.int .i64 8,.int .i64 a,.int .i64 b,.int .i64 c] w fun e w'=>e=.returned (.int .i64 (Ie 8 a b c))/\Below w.heap.size w w':=by
 go_enter func139,ntmps139;go_wp2_with(first|(go_at_call 126;refine(Oa _ ha.1 ha.2 _ hb.1 hb.2 _).mono ?_;rintro e w1 ⟨rfl,hb1⟩));go_ret;exact⟨rfl,hb1⟩
theorem rdo_9(a b c:Int)(ha:Az a)(hb:Az b)(hc:Az c)(w:World):Calls prog 139 #[.int .i64 9,.int .i64 a,.int .i64 b,.int .i64 c] w fun e w'=>e=.returned (.int .i64 (Ie 9 a b c))/\Below w.heap.size w w':=by
 go_enter func139,ntmps139;go_wp2_with(first|(go_at_call 156;refine(Vl _ ha.1 ha.2 _ hb.1 hb.2 _).mono ?_;rintro e w1 ⟨rfl,hb1⟩));go_ret;exact⟨rfl,hb1⟩
theorem rdo_10(a b c:Int)(ha:Az a)(hb:Az b)(hc:Az c)(w:World):Calls prog 139 #[.int .i64 10,.int .i64 a,.int .i64 b,.int .i64 c] w fun e w'=>e=.returned (.int .i64 (Ie 10 a b c))/\Below w.heap.size w w':=by
 go_enter func139,ntmps139;go_wp2_with(first|(go_at_call 157;refine(T5 _ ha.1 ha.2 _ hb.1 hb.2 _).mono ?_;rintro e w1 ⟨rfl,hb1⟩)|(go_at_call 152;refine(LV _ _).mono ?_;rintro e w2 ⟨rfl,hw2⟩;obtain rfl:=hw2.symm));go_ret;exact⟨rfl,hb1⟩
theorem rdo_15(a b c:Int)(ha:Az a)(hb:Az b)(hc:Az c)(w:World):Calls prog 139 #[.int .i64 15,.int .i64 a,.int .i64 b,.int .i64 c] w fun e w'=>e=.returned (.int .i64 (Ie 15 a b c))/\Below w.heap.size w w':=by
 go_enter func139,ntmps139;go_wp2_with(first|(go_at_call 158;refine(Og _ ha.1 ha.2 _ hb.1 hb.2 _ hc.1 hc.2 _).mono ?_;rintro e w1 ⟨rfl,hb1⟩));go_ret;exact⟨rfl,hb1⟩
theorem Yz(op:Int)(h:Cx op≠0)(a b c:Int)(ha:Az a)(hb:Az b)(hc:Az c)(w:World):Calls prog 139 #[.int .i64 op,.int .i64 a,.int .i64 b,.int .i64 c] w fun e w'=>e=.returned (.int .i64 (Ie op a b c))/\Below w.heap.size w w':=by
 rcases IN op h with rfl|rfl|rfl|rfl|rfl|rfl|rfl|rfl|rfl|rfl|rfl|rfl|rfl
 ·exact rdo_3 a b c ha hb hc w
 ·exact rdo_11 a b c ha hb hc w
 ·exact rdo_12 a b c ha hb hc w
 ·exact rdo_13 a b c ha hb hc w
 ·exact rdo_14 a b c ha hb hc w
 ·exact rdo_4 a b c ha hb hc w
 ·exact rdo_5 a b c ha hb hc w
 ·exact rdo_6 a b c ha hb hc w
 ·exact rdo_7 a b c ha hb hc w
 ·exact rdo_8 a b c ha hb hc w
 ·exact rdo_9 a b c ha hb hc w
 ·exact rdo_10 a b c ha hb hc w
 ·exact rdo_15 a b c ha hb hc w
theorem Yw(p:Option Addr)(n c i:Nat)(X:Nat->Int)(hn:n<=1048576)(hi:i<=1048576)(h:n=1\/i<n)(w:World)(hp:Bb w p n (fun j=>.int .i64 (X j))):
 Calls prog 138 #[.slice p n c,.int .i64 i] w fun e w'=>e=.returned (.int .i64 (X (if n=1 then 0 else i)))/\w'=w:=by
 rcases hp with hp|⟨b,o,rfl,hp⟩
 ·omega
 by_cases h1:n=1
 ·subst h1;have c1:=hp 0 oM;rw[Nat.add_zero]at c1;rw[if_pos rfl];clear hp h;go_enter func138,ntmps138;go_wp2;go_ret;exact⟨rfl,rfl⟩
 ·have c1:=hp i oM;have n1:¬ ((n:Int)=1):=oM;have i1:(0:Int)<=(i:Int):=oM;have i2:(i:Int)<(n:Int):=oM;rw[if_neg h1];clear hp h;go_enter func138,ntmps138;go_wp2;go_ret;exact⟨rfl,rfl⟩
end Go.Proofs.YtcdpmgldkibfiaaGreat
