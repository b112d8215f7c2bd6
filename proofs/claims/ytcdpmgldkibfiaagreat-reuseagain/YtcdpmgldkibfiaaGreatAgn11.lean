import Derived.Test.YtcdpmgldkibfiaaGreatAgn9
import Derived.Maps.AppendAt
import Derived.Laws.AppendOwnNone
import Derived.Shelf.Abstract
import Derived.Deep.RegionHeld3
import Derived.Laws.EntriesVeiled
import Derived.Test.YtcdpmgldkibfiaaGreatAgn1
namespace Go.Proofs.YtcdpmgldkibfiaaGreat
open Go.RowKit Go.Proofs.Tryz
set_option linter.all false
set_option maxRecDepth 100000
set_option maxHeartbeats 16000000
theorem MZ(a b:Int)(h0:0<=a)(h1:a<4294967296)(g0:0<=b)(g1:b<4294967296)(h:BK a=true\/BK b=true):Gf a b=2143289344:=by
 rcases h with h|h
 ·obtain⟨s,t,e⟩:=Fa a h0 h1 h;rw[En a b e rfl];cases Ieee.single.read b.toNat<;>rfl
 ·obtain⟨s,t,e⟩:=Fa b g0 g1 h;rw[En a b rfl e];cases Ieee.single.read a.toNat<;>rfl
theorem PO(s:Bool):((Ieee.single.write (.number s 0 0):Nat):Int)=He s:=by cases s<;>decide
theorem Y9(A B:Int)(h1:8388608<=A)(h2:A<16777216)(h3:8388608<=B)(h4:B<16777216):0<=A*274877906944/B/\A*274877906944/B<1099511627776/\0<=A*274877906944%B/\A*274877906944%B<16777216:=by
 have e:=Int.mul_ediv_add_emod (A*274877906944) B;have r0:=Int.emod_nonneg (A*274877906944) (show B≠0 by omega);have r1:=Int.emod_lt_of_pos (A*274877906944) (show 0<B by omega);have q0:0<=A*274877906944/B:=Int.ediv_nonneg oM oM;refine⟨q0,?_,r0,oM⟩;apply Int.ediv_lt_of_lt_mul oM;omega
theorem UP(a:Int)(h0:0<=a)(h1:a<4294967296)(b:Int)(g0:0<=b)(g1:b<4294967296)(w:World):
 Calls prog 155 #[.int .i64 a,.int .i64 b] w fun e w'=>e=.returned (.int .i64 (Gf a b))/\Below w.heap.size w w':=by
 cases hna:BK a
 ·cases hnb:BK b
  ·cases hia:DB a
   ·obtain⟨ra,a1,a2,a3,a4,a5⟩:=BM a h0 h1 hia hna;cases hib:DB b
    ·obtain⟨rb,b1,b2,b3,b4,b5⟩:=BM b g0 g1 hib hnb;by_cases zb:nM b=0
     ·by_cases za:nM a=0
      ·have hv:Gf a b=2143289344:=by rw[En a b ra rb,za,zb];rfl
       rw[hv];clear hv ra rb;exact WJ
      ·have hv:Gf a b=He (Ba a != Ba b)+2139095040:=by
        rw[En a b ra rb,zb,←Cg,←DS];have:(nM a).toNat≠0:=oM;simp only[Ieee.Datum.quotient,if_neg this,Int.toNat_zero,if_true];rfl
       rw[hv];clear hv ra rb;exact WJ
     ·by_cases za:nM a=0
      ·have hv:Gf a b=He (Ba a != Ba b):=by
        rw[En a b ra rb,za,←DS];have:(nM b).toNat≠0:=oM;simp only[Ieee.Datum.quotient,if_neg this,Int.toNat_zero,Nat.zero_shiftLeft,Nat.zero_div,Nat.zero_mod];exact G5 _ _
       rw[hv];clear hv ra rb;exact WJ
      ·obtain⟨ka,A1,A2⟩:=ES (nM a) oM a2;obtain⟨kb,B1,B2⟩:=ES (nM b) oM b2;obtain⟨A,hA⟩:∃A,nM a*2^nk (nM a)=A:=⟨_,rfl⟩
       obtain⟨B,hB⟩:∃B,nM b*2^nk (nM b)=B:=⟨_,rfl⟩
       have hv:=TY a b h0 h1 g0 g1 hia hna hib hnb za zb A B hA hB;rw[hA]at A1 A2;rw[hB]at B1 B2;have hq:=Y9 A B A1 A2 B1 B2;obtain⟨EA,hEA⟩:∃EA,nE a-(nk (nM a):Int)=EA:=⟨_,rfl⟩
       obtain⟨EB,hEB⟩:∃EB,nE b-(nk (nM b):Int)=EB:=⟨_,rfl⟩
       rw[hEA,hEB]at hv;have eb: -172<=EA/\EA<=104/\-172<=EB/\EB<=104:=oM;rw[hv];clear hv ra rb a5 b5;obtain⟨q,hqq⟩:∃q,A*274877906944/B=q:=⟨_,rfl⟩
       obtain⟨r,hrr⟩:∃r,A*274877906944%B=r:=⟨_,rfl⟩
       rw[hqq,hrr]at hq ⊢;have hdiv:(A*274877906944).tdiv B=q:=by rw[←hqq,Int.tdiv_eq_ediv_of_nonneg oM]
       have hmod:(A*274877906944).tmod B=r:=by rw[←hrr,Int.tmod_eq_emod_of_nonneg oM]
       by_cases zr:r=0
       ·rw[if_pos zr];exact Zbu
       ·rw[if_neg zr];exact Zbu
    ·obtain⟨rb,-,b1⟩:=Dt b g0 g1 hib;have hv:Gf a b=He (Ba a != Ba b):=by rw[En a b ra rb,←PO,←DS];rfl
     rw[hv];clear hv ra rb;by_cases za:nM a=0
     ·skip
      exact WJ
     ·skip
      exact WJ
   ·obtain⟨ra,-,a1⟩:=Dt a h0 h1 hia;cases hib:DB b
    ·obtain⟨rb,b1,b2,b3,b4,b5⟩:=BM b g0 g1 hib hnb;have hv:Gf a b=He (Ba a != Ba b)+2139095040:=by rw[En a b ra rb,←Cg,←DS];rfl
     rw[hv];clear hv ra rb;exact WJ
    ·obtain⟨rb,-,b1⟩:=Dt b g0 g1 hib;have hv:Gf a b=2143289344:=by rw[En a b ra rb];rfl
     rw[hv];clear hv ra rb;exact WJ
  ·have hv:=MZ a b h0 h1 g0 g1 (Or.inr hnb);rw[hv];clear hv;exact WJ
 ·have hv:=MZ a b h0 h1 g0 g1 (Or.inl hna);rw[hv];clear hv;exact WJ
theorem MX(a b:Int)(h0:0<=a)(h1:a<4294967296)(g0:0<=b)(g1:b<4294967296)(h:BK a=true\/BK b=true):Di a b=2143289344:=by
 rcases h with h|h
 ·obtain⟨s,t,e⟩:=Fa a h0 h1 h;rw[CA a b e rfl];cases Ieee.single.read b.toNat<;>rfl
 ·obtain⟨s,t,e⟩:=Fa b g0 g1 h;rw[CA a b rfl e];cases Ieee.single.read a.toNat<;>rfl
theorem Kt(a b:Int)(h0:0<=a)(h1:a<4294967296)(g0:0<=b)(g1:b<4294967296){s:Bool}{i:Int}(ra:Ieee.single.read a.toNat=.number s 0 i)(rb:Ieee.single.read b.toNat=.number (Ba b) (nM b).toNat (nE b))(hb:nM b≠0)(hb0:0<=nM b)(hi: -149<=i)(hj: -149<=nE b):
 Di a b=(Ieee.single.nearest (Ba b) (nM b).toNat (nE b):Nat):=by
 rw[CA a b ra rb];simp only[Ieee.Datum.sum,Option.map_some,Ieee.Format.write];generalize hbase:min i (nE b)=base;have hz:Ieee.signed s 0 (i-base).toNat=0:=by unfold Ieee.signed;simp
 rw[hz,Int.zero_add,I2];have hP:(1:Int)<=2^(nE b-base).toNat:=Int.pow_pos dE;have hX:0<((nM b).toNat:Int)*2^(nE b-base).toNat:=Int.mul_pos oM oM;have e1:¬ (Gl (Ba b) (((nM b).toNat:Int)*2^(nE b-base).toNat)=0):=by
  unfold Gl;split<;>omega
 have e2:decide (Gl (Ba b) (((nM b).toNat:Int)*2^(nE b-base).toNat)<0)=Ba b:=by
  generalize ((nM b).toNat:Int)*2^(nE b-base).toNat=X at *;cases Ba b<;>simp only[Gl,if_true,if_false,Bool.false_eq_true]<;>simp<;>omega
 have e3:(Gl (Ba b) (((nM b).toNat:Int)*2^(nE b-base).toNat)).natAbs=(nM b).toNat*2^(nE b-base).toNat:=by
  have hc:(((nM b).toNat*2^(nE b-base).toNat:Nat):Int)=((nM b).toNat:Int)*2^(nE b-base).toNat:=by rw[Int.natCast_mul,Int.natCast_pow];rfl
  unfold Gl;split<;>omega
 rw[if_neg e1,e2,e3];show((Ieee.single.nearest (Ba b) _ base:Nat):Int)=_;rw[Bv,Bv,CN,BG];obtain⟨c,hc⟩:∃c:Nat,(c:Int)=base+149:=⟨(base+149).toNat,oM⟩
 obtain⟨d,hd⟩:∃d:Nat,(d:Int)=nE b+149:=⟨(nE b+149).toNat,oM⟩
 have r1:=JG ((nM b).toNat*2^(nE b-base).toNat) c;have r2:=JG (nM b).toNat d;rw[show -149+(c:Int)=base by omega]at r1;rw[show -149+(d:Int)=nE b by omega]at r2;rw[r1,r2,Nat.mul_assoc,←Nat.pow_add,show(nE b-base).toNat+c=d by omega]
theorem Jz(a:Int)(h0:0<=a)(h1:a<4294967296)(b:Int)(g0:0<=b)(g1:b<4294967296)(w:World):
 Calls prog 125 #[.int .i64 a,.int .i64 b] w fun e w'=>e=.returned (.int .i64 (Di a b))/\Below w.heap.size w w':=by
 cases hna:BK a
 ·cases hnb:BK b
  ·cases hia:DB a
   ·obtain⟨ra,a1,a2,a3,a4,a5⟩:=BM a h0 h1 hia hna;cases hib:DB b
    ·obtain⟨rb,b1,b2,b3,b4,b5⟩:=BM b g0 g1 hib hnb;by_cases za:nM a=0
     ·by_cases zb:nM b=0
      ·have hv:Di a b=He (Ba a&&Ba b):=by
        rw[CA a b ra rb,za,zb];simp only[Ieee.Datum.sum,Option.map_some,Ieee.Format.write];have:Ieee.signed (Ba a) (0:Int).toNat (nE a-min (nE a) (nE b)).toNat+Ieee.signed (Ba b) (0:Int).toNat (nE b-min (nE a) (nE b)).toNat=0:=by unfold Ieee.signed;simp
        rw[this,if_pos rfl];exact G5 _ _
       rw[hv];clear hv ra rb;cases hma:Ba a
       ·rw[Bool.false_and];exact Tm
       ·rw[Bool.true_and];exact Tm
      ·have hv:=Kt a b h0 h1 g0 g1 (s:=Ba a) (i:=nE a) (by rw[ra,za];rfl) rb zb b1 a3 b3;rw[hv];clear hv ra rb;exact Tm
     ·by_cases zb:nM b=0
      ·have hv:=Kt b a g0 g1 h0 h1 (s:=Ba b) (i:=nE b) (by rw[rb,zb];rfl) ra za a1 b3 a3;rw[Ks,hv];clear hv ra rb;exact Tm
      ·by_cases hE:nE a<nE b
       ·have hv:Di a b=T5 (Ba b) (nM b) (nE b) (Ba a) (nM a) (nE a):=by
         rw[Ks,CA b a rb ra,O8 _ _ _ _ _ _ oM b2 oM a2 a3 oM b5]
        exact Zbq
       ·have hv:Di a b=T5 (Ba a) (nM a) (nE a) (Ba b) (nM b) (nE b):=by
         rw[CA a b ra rb,O8 _ _ _ _ _ _ oM a2 oM b2 b3 oM a5]
        exact Zbq
    ·obtain⟨rb,-,b1⟩:=Dt b g0 g1 hib;have hv:Di a b=He (Ba b)+2139095040:=by rw[CA a b ra rb,←Cg];rfl
     rw[hv];clear hv ra rb;exact Tm
   ·obtain⟨ra,-,a1⟩:=Dt a h0 h1 hia;cases hib:DB b
    ·obtain⟨rb,b1,b2,b3,b4,b5⟩:=BM b g0 g1 hib hnb;have hv:Di a b=He (Ba a)+2139095040:=by rw[CA a b ra rb,←Cg];rfl
     rw[hv];clear hv ra rb;exact Tm
    ·obtain⟨rb,-,b1⟩:=Dt b g0 g1 hib;cases hma:Ba a<;>cases hmb:Ba b<;>rw[hma]at ra<;>rw[hmb]at rb
     ·have hv:Di a b=He false+2139095040:=by rw[CA a b ra rb,←Cg];rfl
      rw[hv];clear hv ra rb;exact Tm
     ·have hv:Di a b=2143289344:=by rw[CA a b ra rb];rfl
      rw[hv];clear hv ra rb;exact Tm
     ·have hv:Di a b=2143289344:=by rw[CA a b ra rb];rfl
      rw[hv];clear hv ra rb;exact Tm
     ·have hv:Di a b=He true+2139095040:=by rw[CA a b ra rb,←Cg];rfl
      rw[hv];clear hv ra rb;exact Tm
  ·have hv:=MX a b h0 h1 g0 g1 (Or.inr hnb);rw[hv];clear hv;exact Tm
 ·have hv:=MX a b h0 h1 g0 g1 (Or.inl hna);rw[hv];clear hv;exact Tm
theorem Iq(d e:Ieee.Datum)(h:d.isNaN=true):e.sum d=none:=by
 cases d<;>simp[Ieee.Datum.isNaN]at h
 cases e<;>rfl
theorem Xo(a b:Int)(g0:0<=b)(g1:b<4294967296):Nf a b=Di a (Jh b):=by
 cases hn:nan b
 ·rw[Nd b g0 g1 hn];unfold Nf Di Ieee.Format.sub Ieee.Format.add;rw[Int.toNat_natCast,Si _ oM]
 ·rw[Nc b g0 g1 hn];have h2:2139095040<rg b.toNat:=by rw[Jo b g0]at hn;simpa using hn
  unfold Nf Di Ieee.Format.sub Ieee.Format.add;rw[Ee _ h2,show Ieee.single.read (2143289344:Int).toNat=.nan false 4194304 from by decide,Iq _ _ rfl,Iq _ _ rfl]
theorem VE(a:Int)(h0:0<=a)(h1:a<4294967296)(b:Int)(g0:0<=b)(g1:b<4294967296)(w:World):
 Calls prog 154 #[.int .i64 a,.int .i64 b] w fun e w'=>e=.returned (.int .i64 (Nf a b))/\Below w.heap.size w w':=by
 rw[Xo a b g0 g1];have hl:=Qh b g0 g1;go_enter func154,ntmps154;go_wp2_with(first
  |(go_at_call 150;refine(NH _ g0 g1 _).mono ?_;rintro e w1 ⟨rfl,hb1⟩)
  |(go_at_call 125;refine(Jz _ h0 h1 _ hl.1 hl.2 _).mono ?_;rintro e w2 ⟨rfl,hb2⟩))
 go_ret;exact⟨rfl,J6 hb1 hb2⟩
def Ay(a:Int):Prop:=0<=a/\a<4294967296
theorem CK(a:Int)(h:Ay a):Ay (canon a):=EL a h.1 h.2
theorem Qm(a b:Int):Ay (Di a b):=M4 a b
theorem XD(a b:Int):Ay (Nf a b):=Xp a b
theorem Xx(a b:Int):Ay (EP a b):=Dr a b
theorem Xv(a b:Int):Ay (Gf a b):=Xl a b
theorem Ui(a:Int):Ay (Dy a):=Uc a
theorem Xy(a:Int)(h:Ay a):Ay (Jh a):=Qh a h.1 h.2
theorem Xu(a:Int)(h:Ay a):Ay (Xk a):=EL _ (by have:=h.1;omega) (by have:=h.1;omega)
theorem IM(a b:Int)(h:Ay a)(k:Ay b):Ay (IA a b):=by
 have h1:=h.1;have h2:=h.2;have k1:=k.1;have k2:=k.2;unfold Ay IA;split
 ·decide
 ·exact h
 ·exact k
 ·split
  ·exact h
  ·exact k
theorem Xw(a b:Int)(h:Ay a)(k:Ay b):Ay (Jg a b):=by
 have h1:=h.1;have h2:=h.2;have k1:=k.1;have k2:=k.2;unfold Ay Jg;split
 ·decide
 ·exact k
 ·exact h
 ·split
  ·exact k
  ·exact h
theorem Xz(c a b:Int)(h:Ay a)(k:Ay b):Ay (Ma c a b):=by
 unfold Ma;split
 ·exact CK b k
 ·exact CK a h
def Kz(f:Int->Int->Int)(s:Int)(X:Nat->Int):Nat->Int
 |0=>s
 |n+1=>f (Kz f s X n) (X n)
theorem EQ{f:Int->Int->Int}(hf:∀a b,Ay a->Ay b->Ay (f a b)){s:Int}(hs:Ay s){X:Nat->Int}(hX:∀i,Ay (X i)):∀n,Ay (Kz f s X n)
 |0=>hs
 |n+1=>hf _ _ (EQ hf hs hX n) (hX n)
def K7(X:Nat->Int)(n:Nat):Int:=Kz Di 0 X n
def EF(X:Nat->Int)(n:Nat):Int:=Kz IA 2139095040 X n
theorem Ig:Ay 0:=by unfold Ay;decide
theorem XE(X:Nat->Int)(n:Nat)(hX:∀i,Ay (X i)):Ay (K7 X n):=EQ (fun _ _ _ _=>M4 _ _) Ig hX n
def Cw(op:Int):Nat:=
 if op=3\/op=11\/op=12\/op=13\/op=14 then 1 else if op=4\/op=5\/op=6\/op=7\/op=8\/op=9\/op=10 then 2 else if op=15 then 3 else 0
def OV(b:Bool):Int:=if b then 1065353216 else 0
theorem Nl(b:Bool):Ay (OV b):=by unfold Ay OV;cases b<;>decide
theorem BE{c:Prop}[Decidable c]{a b:Int}(h:Ay a)(k:Ay b):Ay (if c then a else b):=by
 split
 ·exact h
 ·exact k
def Hv(op a b c:Int):Int:=
 if op=3 then canon a else if op=11 then Dy a else if op=12 then Jh a else if op=13 then Xk a else if op=14 then OV (ffin a)
 else if op=4 then Di a b else if op=5 then Nf a b else if op=6 then EP a b else if op=7 then Gf a b else if op=8 then IA a b else if op=9 then Jg a b
 else if op=10 then OV (Jf a b)else Ma a b c
theorem Qn(op a b c:Int)(ha:Ay a)(hb:Ay b)(hc:Ay c):Ay (Hv op a b c):=
 BE (CK a ha) (BE (Ui a) (BE (Xy a ha) (BE (Xu a ha) (BE (Nl _) (BE (Qm a b) (BE (XD a b) (BE (Xx a b)
  (BE (Xv a b) (BE (IM a b ha hb) (BE (Xw a b ha hb) (BE (Nl _) (Xz a b c hb hc))))))))))))
def I7(X:Nat->Value)(n:Nat):List Value:=(List.range n).map X
theorem YM(X:Nat->Value)(n i:Nat)(h:i<n):(I7 X n)[i]? =some (X i):=by simp[I7,h]
theorem LM(X:Nat->Value)(n:Nat):I7 X (n+1)=I7 X n++[X n]:=by unfold I7;rw[List.range_succ];simp
theorem Lm{w:World}{base:Nat}{e:TypeId}{v:Value}{n:Nat}{X:Nat->Value}(h:w.ownsRow base e 1 v n (I7 X n)):
 ∃q cap,v=.slice q n cap/\Bb w q n X/\(∀b o s,q=some ⟨b,o,s⟩->base<=b)/\(q=none->n=0/\cap=0)/\n<=cap:=by
 rcases h.2 with⟨rfl,hx⟩|⟨g,cap,cur,rfl,hb,hg,rest⟩
 ·subst hx;exact⟨none,0,rfl,.inl rfl,fun b o s e=>(by cases e),fun _=>⟨rfl,rfl⟩,Nat.le_refl _⟩
 ·refine⟨some ⟨g,0,none⟩,cap,rfl,.inr ⟨g,0,rfl,fun i hi=>?_⟩,fun b o s e=>(by cases e;exact hb),fun e=>(by cases e),rest.1⟩;have:=h.cells (g:=g) rfl i (X i) (YM X n i hi);rw[Nat.zero_add];by_cases c:i=0
  ·subst c;simpa[Addr.add]using this
  ·simpa[Addr.add,c]using this
theorem Uh:(prog.info? 3).map (fun i=>(i.zero,i.size,i.bytes))=some (some (.int .i64 0),1,8):=kR

theorem Th(p:Option Addr)(n c:Nat)(X:Nat->Int)(hX:∀i,Ay (X i))(hn:n<=1048576)(w:World)(hp:Bb w p n (fun i=>.int .i64 (X i))):
 Calls prog 96 #[.slice p n c] w fun e w'=>e=.returned (.int .i64 (K7 X n))/\Below w.heap.size w w':=by
 go_enter func96,ntmps96;go_wp2
 go_loopw [3,4] (fun sv iv wr=>Below w.heap.size w wr/\∃j:Nat,j<=n/\iv=.int .i64 j/\sv=.int .i64 (K7 X j)) (fun _ iv _=>n-(intOf iv).toNat)
 case atStart=>exact⟨Kn w,0,Nat.zero_le _,rfl,rfl⟩
 case round=>
  obtain⟨hb,j,hj,rfl,rfl⟩:=hrel;by_cases hlt:j<n
  ·rcases hp with hp|⟨b,o,rfl,hp⟩
   ·omega
   have hbl:b<w.heap.size:=Hs (hp j hlt);have h1:wr.cell? ⟨b,o+j,none⟩=some (.int .i64 (X j)):=(hb.cell hbl).trans (hp j hlt);have i1:(0:Int)<=(j:Int):=oM;have i2:(j:Int)<(n:Int):=oM;have s1:Ay (K7 X j):=EQ (fun _ _ _ _=>Qm _ _) Zhk hX j;have x1:=hX j;clear hp hX;go_wp2_with(go_at_call 125;refine(Jz _ s1.1 s1.2 _ x1.1 x1.2 _).mono ?_;rintro e w1 ⟨rfl,hb1⟩);go_roundw
   case rel=>exact⟨J6 hb hb1,j+1,oM,gN,rfl⟩
   case measure=>simp[intOf];omega
  ·have:j=n:=oM;subst this;clear hp hX;go_wp2;go_ret;exact⟨rfl,hb⟩
theorem Pn(p:Option Addr)(n c:Nat)(X:Nat->Int)(hX:∀i,Ay (X i))(hn:n<=1048576)(w:World)(hp:Bb w p n (fun i=>.int .i64 (X i))):
 Calls prog 97 #[.slice p n c] w fun e w'=>e=.returned (.int .i64 (EF X n))/\Below w.heap.size w w':=by
 go_enter func97,ntmps97;go_wp2
 go_loopw [3,4] (fun sv iv wr=>Below w.heap.size w wr/\∃j:Nat,j<=n/\iv=.int .i64 j/\sv=.int .i64 (EF X j)) (fun _ iv _=>n-(intOf iv).toNat)
 case atStart=>exact⟨Kn w,0,Nat.zero_le _,rfl,rfl⟩
 case round=>
  obtain⟨hb,j,hj,rfl,rfl⟩:=hrel;by_cases hlt:j<n
  ·rcases hp with hp|⟨b,o,rfl,hp⟩
   ·omega
   have hbl:b<w.heap.size:=Hs (hp j hlt);have h1:wr.cell? ⟨b,o+j,none⟩=some (.int .i64 (X j)):=(hb.cell hbl).trans (hp j hlt);have i1:(0:Int)<=(j:Int):=oM;have i2:(j:Int)<(n:Int):=oM;have s1:Ay (EF X j):=EQ IM Zhk hX j;have x1:=hX j;clear hp hX;go_wp2_with(go_at_call 126;refine(NG _ s1.1 s1.2 _ x1.1 x1.2 _).mono ?_;rintro e w1 ⟨rfl,hb1⟩);go_roundw
   case rel=>exact⟨J6 hb hb1,j+1,oM,gN,rfl⟩
   case measure=>simp[intOf];omega
  ·have:j=n:=oM;subst this;clear hp hX;go_wp2;go_ret;exact⟨rfl,hb⟩
theorem Sp(a:Int)(h:Ay a)(w:World):
 Calls prog 153 #[.int .i64 a] w fun e w'=>e=.returned (.bool (ffin a))/\w'=w:=by
 have h0:=h.1;have h1:=h.2;have t1:a.tmod 2147483648=a%2147483648:=Int.tmod_eq_emod_of_nonneg h0;go_enter func153,ntmps153;go_wp2;go_ret;exact⟨rfl,rfl⟩

structure On(k:IntKind)(w:World)(q:Option Addr)(m:Nat)(P:Nat->Option Addr)(l c:Nat->Nat)(X:Nat->Nat->Int):Prop where
 heads:Bb w q m (fun i=>.slice (P i) (l i) (c i))
 parts:∀i,i<m->Bb w (P i) (l i) (fun j=>.int k (X i j))
theorem On.below{k:IntKind}{w w':World}{q:Option Addr}{m:Nat}{P:Nat->Option Addr}{l c:Nat->Nat}{X:Nat->Nat->Int}(h:On k w q m P l c X)(b:Below w.heap.size w w'):On k w' q m P l c X:=
 ⟨h.heads.below b,fun i hi=>(h.parts i hi).below b⟩
theorem Pf{w w':World}{base:Nat}{e:TypeId}{v:Value}{n:Nat}{xs:List Value}(h:w.ownsRow base e 1 v n xs)(k:Below w.heap.size w w'):w'.ownsRow base e 1 v n xs:=by
 refine h.kept (row:=none) ⟨k.os,k.tape,k.output,k.size,fun j hj _=>k.block j hj⟩ ?_;cases v.ownBlock<;>simp
theorem Is(op:Int)(h:Cw op≠0):op=3\/op=11\/op=12\/op=13\/op=14\/op=4\/op=5\/op=6\/op=7\/op=8\/op=9\/op=10\/op=15:=by
 unfold Cw at h;split at h
 ·omega
 ·split at h
  ·omega
  ·split at h
   ·omega
   ·exact absurd rfl h

def DN(l:Nat->Nat):Nat->Option Nat
 |0=>some (l 0)
 |j+1=>match DN l j with
  |none=>none
  |some n=>if l (j+1)=n then some n else if l (j+1)=0\/n=0 then none else if n=1 then some (l (j+1))else if l (j+1)=1 then some n else none
theorem Hf{l:Nat->Nat}{j n:Nat}(h:DN l j=some n):DN l (j+1)=if l (j+1)=n then some n else if l (j+1)=0\/n=0 then none else if n=1 then some (l (j+1))else if l (j+1)=1 then some n else none:=by
 show(match DN l j with |none=>none|some n=>_)=_;rw[h]
theorem JL{l:Nat->Nat}{j:Nat}(h:DN l j=none):∀M,j<=M->DN l M=none:=by
 intro M;induction M with
 |zero=>
  intro hj;have:j=0:=oM;subst this;exact h
 |succ M ih=>
  intro hj;rcases Nat.lt_or_ge M j with c|c
  ·have:j=M+1:=oM;subst this;exact h
  ·show(match DN l M with |none=>none|some n=>_)=_;rw[ih c]
theorem ZY{l:Nat->Nat}{N:Nat}(hl:∀i,l i<=N):∀ {M n:Nat},DN l M=some n->n<=N:=by
 intro M;induction M with
 |zero=>intro n h;cases h;exact hl 0
 |succ M ih=>
  intro n h;cases e:DN l M with
  |none=>rw[JL e (M+1) oM]at h;cases h
  |some k=>
   rw[Hf e]at h;have:=ih e;have:=hl (M+1)
   repeat' split at h
   all_goals cases h
   all_goals omega
theorem O0{l:Nat->Nat}:∀ {M n:Nat},DN l M=some n->∀i,i<=M->l i=n\/(l i=1/\n≠0):=by
 intro M;induction M with
 |zero=>
  intro n h i hi;cases h;have:i=0:=oM;subst this;exact .inl rfl
 |succ M ih=>
  intro n h i hi;cases e:DN l M with
  |none=>rw[JL e (M+1) oM]at h;cases h
  |some k=>
   rw[Hf e]at h;have hi':i<=M\/i=M+1:=oM;split at h
   ·cases h
    rcases hi' with c|c
    ·exact ih e i c
    ·subst c;left;assumption
   ·split at h
    ·cases h
    ·split at h
     ·cases h
      rcases hi' with c|c
      ·have:=ih e i c;omega
      ·subst c;exact .inl rfl
     ·split at h
      ·cases h
       rcases hi' with c|c
       ·exact ih e i c
       ·subst c;right;omega
      ·cases h
def EE(l:Nat->Nat)(X:Nat->Nat->Int)(m i j:Nat):Int:=if j<m then X j (if l j=1 then 0 else i)else 0
theorem Co{l:Nat->Nat}{X:Nat->Nat->Int}(hX:∀i j,Ay (X i j))(m i j:Nat):Ay (EE l X m i j):=BE (hX _ _) Ig
theorem G4{k:IntKind}{w:World}{b o m:Nat}{P:Nat->Option Addr}{l c:Nat->Nat}{X:Nat->Nat->Int}(h:On k w (some ⟨b,o,none⟩) m P l c X)(i:Nat)(hi:i<m):w.cell? ⟨b,o+i,none⟩=some (.slice (P i) (l i) (c i)):=by
 rcases h.heads with q|⟨b',o',e,hh⟩
 ·omega
 ·cases e;exact hh i hi
theorem SQ{l:Nat->Nat}{M n i j:Nat}(h:DN l M=some n)(hj:j<=M)(hi:i<n):l j=1\/i<l j:=by
 rcases O0 h j hj with e|e
 ·right;omega
 ·left;exact e.1
theorem JT(op:Int):Cw op<=3:=by
 unfold Cw;split
 ·omega
 ·split
  ·omega
  ·split<;>omega

def sX:Nat->Nat->Int:=fun i j=>if i=0 then(if j=0 then 1065353216 else 1073741824)else 1065353216
def sl:Nat->Nat:=fun i=>if i=0 then 2 else 1
def sR:Nat->Int:=fun i=>Hv 4 (EE sl sX 2 i 0) (EE sl sX 2 i 1) (EE sl sX 2 i 2)
def rn(l:Nat->Nat):Nat->Nat
 |0=>l 0
 |j+1=>if rn l j=1\/l j=0 then l j else rn l j
theorem ZV{l:Nat->Nat}:∀ {M n:Nat},DN l M=some n->rn l (M+1)=n:=by
 intro M;induction M with
 |zero=>intro n h;cases h;show(if l 0=1\/l 0=0 then l 0 else l 0)=l 0;split<;>rfl
 |succ M ih=>
  intro n h;cases e:DN l M with
  |none=>rw[JL e (M+1) oM]at h;cases h
  |some k=>
   rw[Hf e]at h;have hk:=ih e;show(if rn l (M+1)=1\/l (M+1)=0 then l (M+1)else rn l (M+1))=n;rw[hk];split at h
   ·cases h;split<;>omega
   ·split at h
    ·cases h
    ·split at h
     ·cases h;rw[if_pos oM]
     ·split at h
      ·cases h;rw[if_neg oM]
      ·cases h
theorem VF(w:World):Calls prog 121 #[.int .i64 3] w fun e w'=>e=.returned (.int .i64 1)/\w'=w:=by
 exact PX
theorem SA(w:World):Calls prog 121 #[.int .i64 11] w fun e w'=>e=.returned (.int .i64 1)/\w'=w:=by
 exact PX
theorem SC(w:World):Calls prog 121 #[.int .i64 12] w fun e w'=>e=.returned (.int .i64 1)/\w'=w:=by
 exact PX
theorem SD(w:World):Calls prog 121 #[.int .i64 13] w fun e w'=>e=.returned (.int .i64 1)/\w'=w:=by
 exact PX
theorem SE(w:World):Calls prog 121 #[.int .i64 14] w fun e w'=>e=.returned (.int .i64 1)/\w'=w:=by
 exact PX
theorem VG(w:World):Calls prog 121 #[.int .i64 4] w fun e w'=>e=.returned (.int .i64 2)/\w'=w:=by
 exact PX
theorem VH(w:World):Calls prog 121 #[.int .i64 5] w fun e w'=>e=.returned (.int .i64 2)/\w'=w:=by
 exact PX
theorem VI(w:World):Calls prog 121 #[.int .i64 6] w fun e w'=>e=.returned (.int .i64 2)/\w'=w:=by
 exact PX
theorem VJ(w:World):Calls prog 121 #[.int .i64 7] w fun e w'=>e=.returned (.int .i64 2)/\w'=w:=by
 exact PX
theorem VK(w:World):Calls prog 121 #[.int .i64 8] w fun e w'=>e=.returned (.int .i64 2)/\w'=w:=by
 exact PX
theorem VM(w:World):Calls prog 121 #[.int .i64 9] w fun e w'=>e=.returned (.int .i64 2)/\w'=w:=by
 exact PX
theorem Sz(w:World):Calls prog 121 #[.int .i64 10] w fun e w'=>e=.returned (.int .i64 2)/\w'=w:=by
 exact PX
theorem SF(w:World):Calls prog 121 #[.int .i64 15] w fun e w'=>e=.returned (.int .i64 3)/\w'=w:=by
 exact PX
theorem SG(op:Int)(h:Cw op=0)(w:World):Calls prog 121 #[.int .i64 op] w fun e w'=>e=.returned (.int .i64 0)/\w'=w:=by
 have n1:¬ (op=3\/op=11\/op=12\/op=13\/op=14):=fun c=>by unfold Cw at h;rw[if_pos c]at h;cases h
 have n2:¬ (op=4\/op=5\/op=6\/op=7\/op=8\/op=9\/op=10):=fun c=>by unfold Cw at h;rw[if_neg n1,if_pos c]at h;cases h
 have n3:¬ (op=15):=fun c=>by unfold Cw at h;rw[if_neg n1,if_neg n2,if_pos c]at h;cases h
 simp only[not_or]at n1 n2;obtain⟨a1,a2,a3,a4,a5⟩:=n1;obtain⟨b1,b2,b3,b4,b5,b6,b7⟩:=n2;clear h;exact PX
theorem JF(op:Int)(w:World):Calls prog 121 #[.int .i64 op] w fun e w'=>e=.returned (.int .i64 (Cw op:Nat))/\w'=w:=by
 by_cases h:Cw op=0
 ·rw[h];exact SG op h w
 ·rcases Is op h with rfl|rfl|rfl|rfl|rfl|rfl|rfl|rfl|rfl|rfl|rfl|rfl|rfl
  ·exact VF w
  ·exact SA w
  ·exact SC w
  ·exact SD w
  ·exact SE w
  ·exact VG w
  ·exact VH w
  ·exact VI w
  ·exact VJ w
  ·exact VK w
  ·exact VM w
  ·exact Sz w
  ·exact SF w
theorem Ls(b:Bool)(w:World):Calls prog 152 #[.bool b] w fun e w'=>e=.returned (.int .i64 (OV b))/\w'=w:=by
 cases b<;>(go_enter func152,ntmps152;go_wp2;go_ret;exact⟨rfl,rfl⟩)
theorem rdo_3(a b c:Int)(ha:Ay a)(hb:Ay b)(hc:Ay c)(w:World):Calls prog 139 #[.int .i64 3,.int .i64 a,.int .i64 b,.int .i64 c] w fun e w'=>e=.returned (.int .i64 (Hv 3 a b c))/\Below w.heap.size w w':=by
 go_enter func139,ntmps139;go_wp2_with(first|(go_at_call 90;refine(F7 _ ha.1 ha.2 _).mono ?_;rintro e w1 ⟨rfl,hw1⟩;obtain rfl:=hw1.symm));go_ret;exact⟨rfl,Kn _⟩
theorem ZO(a b c:Int)(ha:Ay a)(hb:Ay b)(hc:Ay c)(w:World):Calls prog 139 #[.int .i64 11,.int .i64 a,.int .i64 b,.int .i64 c] w fun e w'=>e=.returned (.int .i64 (Hv 11 a b c))/\Below w.heap.size w w':=by
 go_enter func139,ntmps139;go_wp2_with(first|(go_at_call 149;refine(Sw _ ha.1 ha.2 _).mono ?_;rintro e w1 ⟨rfl,hb1⟩));go_ret;exact⟨rfl,hb1⟩
theorem ZP(a b c:Int)(ha:Ay a)(hb:Ay b)(hc:Ay c)(w:World):Calls prog 139 #[.int .i64 12,.int .i64 a,.int .i64 b,.int .i64 c] w fun e w'=>e=.returned (.int .i64 (Hv 12 a b c))/\Below w.heap.size w w':=by
 go_enter func139,ntmps139;go_wp2_with(first|(go_at_call 150;refine(NH _ ha.1 ha.2 _).mono ?_;rintro e w1 ⟨rfl,hb1⟩));go_ret;exact⟨rfl,hb1⟩
theorem ZQ(a b c:Int)(ha:Ay a)(hb:Ay b)(hc:Ay c)(w:World):Calls prog 139 #[.int .i64 13,.int .i64 a,.int .i64 b,.int .i64 c] w fun e w'=>e=.returned (.int .i64 (Hv 13 a b c))/\Below w.heap.size w w':=by
 go_enter func139,ntmps139;go_wp2_with(first|(go_at_call 151;refine(UM _ ha.1 ha.2 _).mono ?_;rintro e w1 ⟨rfl,hb1⟩));go_ret;exact⟨rfl,hb1⟩
theorem ZR(a b c:Int)(ha:Ay a)(hb:Ay b)(hc:Ay c)(w:World):Calls prog 139 #[.int .i64 14,.int .i64 a,.int .i64 b,.int .i64 c] w fun e w'=>e=.returned (.int .i64 (Hv 14 a b c))/\Below w.heap.size w w':=by
 go_enter func139,ntmps139;go_wp2_with(first|(go_at_call 153;refine(Sp _ ha _).mono ?_;rintro e w1 ⟨rfl,hw1⟩;obtain rfl:=hw1.symm)|(go_at_call 152;refine(Ls _ _).mono ?_;rintro e w1 ⟨rfl,hw1⟩;obtain rfl:=hw1.symm));go_ret;exact⟨rfl,Kn _⟩
theorem rdo_4(a b c:Int)(ha:Ay a)(hb:Ay b)(hc:Ay c)(w:World):Calls prog 139 #[.int .i64 4,.int .i64 a,.int .i64 b,.int .i64 c] w fun e w'=>e=.returned (.int .i64 (Hv 4 a b c))/\Below w.heap.size w w':=by
 go_enter func139,ntmps139;go_wp2_with(first|(go_at_call 125;refine(Jz _ ha.1 ha.2 _ hb.1 hb.2 _).mono ?_;rintro e w1 ⟨rfl,hb1⟩));go_ret;exact⟨rfl,hb1⟩
theorem rdo_5(a b c:Int)(ha:Ay a)(hb:Ay b)(hc:Ay c)(w:World):Calls prog 139 #[.int .i64 5,.int .i64 a,.int .i64 b,.int .i64 c] w fun e w'=>e=.returned (.int .i64 (Hv 5 a b c))/\Below w.heap.size w w':=by
 go_enter func139,ntmps139;go_wp2_with(first|(go_at_call 154;refine(VE _ ha.1 ha.2 _ hb.1 hb.2 _).mono ?_;rintro e w1 ⟨rfl,hb1⟩));go_ret;exact⟨rfl,hb1⟩
theorem rdo_6(a b c:Int)(ha:Ay a)(hb:Ay b)(hc:Ay c)(w:World):Calls prog 139 #[.int .i64 6,.int .i64 a,.int .i64 b,.int .i64 c] w fun e w'=>e=.returned (.int .i64 (Hv 6 a b c))/\Below w.heap.size w w':=by
 go_enter func139,ntmps139;go_wp2_with(first|(go_at_call 123;refine(JD _ ha.1 ha.2 _ hb.1 hb.2 _).mono ?_;rintro e w1 ⟨rfl,hb1⟩));go_ret;exact⟨rfl,hb1⟩
theorem rdo_7(a b c:Int)(ha:Ay a)(hb:Ay b)(hc:Ay c)(w:World):Calls prog 139 #[.int .i64 7,.int .i64 a,.int .i64 b,.int .i64 c] w fun e w'=>e=.returned (.int .i64 (Hv 7 a b c))/\Below w.heap.size w w':=by
 go_enter func139,ntmps139;go_wp2_with(first|(go_at_call 155;refine(UP _ ha.1 ha.2 _ hb.1 hb.2 _).mono ?_;rintro e w1 ⟨rfl,hb1⟩));go_ret;exact⟨rfl,hb1⟩
theorem rdo_8(a b c:Int)(ha:Ay a)(hb:Ay b)(hc:Ay c)(w:World):Calls prog 139 #[.int .i64 8,.int .i64 a,.int .i64 b,.int .i64 c] w fun e w'=>e=.returned (.int .i64 (Hv 8 a b c))/\Below w.heap.size w w':=by
 go_enter func139,ntmps139;go_wp2_with(first|(go_at_call 126;refine(NG _ ha.1 ha.2 _ hb.1 hb.2 _).mono ?_;rintro e w1 ⟨rfl,hb1⟩));go_ret;exact⟨rfl,hb1⟩
theorem rdo_9(a b c:Int)(ha:Ay a)(hb:Ay b)(hc:Ay c)(w:World):Calls prog 139 #[.int .i64 9,.int .i64 a,.int .i64 b,.int .i64 c] w fun e w'=>e=.returned (.int .i64 (Hv 9 a b c))/\Below w.heap.size w w':=by
 go_enter func139,ntmps139;go_wp2_with(first|(go_at_call 156;refine(UU _ ha.1 ha.2 _ hb.1 hb.2 _).mono ?_;rintro e w1 ⟨rfl,hb1⟩));go_ret;exact⟨rfl,hb1⟩
theorem ZN(a b c:Int)(ha:Ay a)(hb:Ay b)(hc:Ay c)(w:World):Calls prog 139 #[.int .i64 10,.int .i64 a,.int .i64 b,.int .i64 c] w fun e w'=>e=.returned (.int .i64 (Hv 10 a b c))/\Below w.heap.size w w':=by
 go_enter func139,ntmps139;go_wp2_with(first|(go_at_call 157;refine(Sv _ ha.1 ha.2 _ hb.1 hb.2 _).mono ?_;rintro e w1 ⟨rfl,hb1⟩)|(go_at_call 152;refine(Ls _ _).mono ?_;rintro e w2 ⟨rfl,hw2⟩;obtain rfl:=hw2.symm));go_ret;exact⟨rfl,hb1⟩
theorem ZS(a b c:Int)(ha:Ay a)(hb:Ay b)(hc:Ay c)(w:World):Calls prog 139 #[.int .i64 15,.int .i64 a,.int .i64 b,.int .i64 c] w fun e w'=>e=.returned (.int .i64 (Hv 15 a b c))/\Below w.heap.size w w':=by
 go_enter func139,ntmps139;go_wp2_with(first|(go_at_call 158;refine(NL _ ha.1 ha.2 _ hb.1 hb.2 _ hc.1 hc.2 _).mono ?_;rintro e w1 ⟨rfl,hb1⟩));go_ret;exact⟨rfl,hb1⟩
theorem Yd(op:Int)(h:Cw op≠0)(a b c:Int)(ha:Ay a)(hb:Ay b)(hc:Ay c)(w:World):Calls prog 139 #[.int .i64 op,.int .i64 a,.int .i64 b,.int .i64 c] w fun e w'=>e=.returned (.int .i64 (Hv op a b c))/\Below w.heap.size w w':=by
 rcases Is op h with rfl|rfl|rfl|rfl|rfl|rfl|rfl|rfl|rfl|rfl|rfl|rfl|rfl
 ·exact rdo_3 a b c ha hb hc w
 ·exact ZO a b c ha hb hc w
 ·exact ZP a b c ha hb hc w
 ·exact ZQ a b c ha hb hc w
 ·exact ZR a b c ha hb hc w
 ·exact rdo_4 a b c ha hb hc w
 ·exact rdo_5 a b c ha hb hc w
 ·exact rdo_6 a b c ha hb hc w
 ·exact rdo_7 a b c ha hb hc w
 ·exact rdo_8 a b c ha hb hc w
 ·exact rdo_9 a b c ha hb hc w
 ·exact ZN a b c ha hb hc w
 ·exact ZS a b c ha hb hc w
theorem Ya(p:Option Addr)(n c i:Nat)(X:Nat->Int)(hn:n<=1048576)(hi:i<=1048576)(h:n=1\/i<n)(w:World)(hp:Bb w p n (fun j=>.int .i64 (X j))):
 Calls prog 138 #[.slice p n c,.int .i64 i] w fun e w'=>e=.returned (.int .i64 (X (if n=1 then 0 else i)))/\w'=w:=by
 rcases hp with hp|⟨b,o,rfl,hp⟩
 ·omega
 by_cases h1:n=1
 ·subst h1;have c1:=hp 0 oM;rw[Nat.add_zero]at c1;rw[if_pos rfl];clear hp h;go_enter func138,ntmps138;go_wp2;go_ret;exact⟨rfl,rfl⟩
 ·have c1:=hp i oM;have n1:¬ ((n:Int)=1):=oM;have i1:(0:Int)<=(i:Int):=oM;have i2:(i:Int)<(n:Int):=oM;rw[if_neg h1];clear hp h;go_enter func138,ntmps138;go_wp2;go_ret;exact⟨rfl,rfl⟩
end Go.Proofs.YtcdpmgldkibfiaaGreat
