import Derived.Test.YtpoklpdgpcnkgaaGreatAgn8
import Derived.Test.YtpoklpdgpcnkgaaGreatAgn7
import Derived.Maps.AppendAt
import Derived.Laws.AppendOwnNone
import Derived.Shelf.Abstract
import Derived.Deep.RegionHeld3
import Derived.Laws.EntriesVeiled
import Derived.Test.YtpoklpdgpcnkgaaGreatAgn1
namespace Go.Proofs.YtpoklpdgpcnkgaaGreat
open Go.RowKit Go.Proofs.Tryz
set_option linter.all false
set_option maxRecDepth 100000
set_option maxHeartbeats 16000000
theorem NR(a b:Int)(h0:0<=a)(h1:a<4294967296)(g0:0<=b)(g1:b<4294967296)(h:C7 a=true\/C7 b=true):GO a b=2143289344:=by
 rcases h with h|h
 .obtain⟨s,t,e⟩:=Fy a h0 h1 h;rw[EO a b e rfl];cases Ieee.single.read b.toNat<;>rfl
 .obtain⟨s,t,e⟩:=Fy b g0 g1 h;rw[EO a b rfl e];cases Ieee.single.read a.toNat<;>rfl
theorem QN(s:Bool):((Ieee.single.write (.number s 0 0):Nat):Int)=Ia s:=by cases s<;>decide
theorem Zg(A B:Int)(h1:8388608<=A)(h2:A<16777216)(h3:8388608<=B)(h4:B<16777216):0<=A*274877906944/B/\A*274877906944/B<1099511627776/\0<=A*274877906944%B/\A*274877906944%B<16777216:=by
 have e:=Int.mul_ediv_add_emod (A*274877906944) B;have r0:=Int.emod_nonneg (A*274877906944) (show B≠0 by omega);have r1:=Int.emod_lt_of_pos (A*274877906944) (show 0<B by omega);have q0:0<=A*274877906944/B:=Int.ediv_nonneg oM oM;refine⟨q0,?_,r0,oM⟩;apply Int.ediv_lt_of_lt_mul oM;omega
theorem W8(a:Int)(h0:0<=a)(h1:a<4294967296)(b:Int)(g0:0<=b)(g1:b<4294967296)(w:World):
 Calls prog 144 #[.int .i64 a,.int .i64 b] w fun e w'=>e=.returned (.int .i64 (GO a b))/\Below w.heap.size w w':=by
 cases hna:C7 a
 .cases hnb:C7 b
  .cases hia:E7 a
   .obtain⟨ra,a1,a2,a3,a4,a5⟩:=C8 a h0 h1 hia hna;cases hib:E7 b
    .obtain⟨rb,b1,b2,b3,b4,b5⟩:=C8 b g0 g1 hib hnb;by_cases zb:nM b=0
     .by_cases za:nM a=0
      .have hv:GO a b=2143289344:=by rw[EO a b ra rb,za,zb];rfl
       rw[hv];clear hv ra rb;exact Y1
      .have hv:GO a b=Ia (Bb a != Bb b)+2139095040:=by
        rw[EO a b ra rb,zb,<-CA,<-En];have:(nM a).toNat≠0:=oM;simp only[Ieee.Datum.quotient,if_neg this,Int.toNat_zero,if_true];rfl
       rw[hv];clear hv ra rb;exact Y1
     .by_cases za:nM a=0
      .have hv:GO a b=Ia (Bb a != Bb b):=by
        rw[EO a b ra rb,za,<-En];have:(nM b).toNat≠0:=oM;simp only[Ieee.Datum.quotient,if_neg this,Int.toNat_zero,Nat.zero_shiftLeft,Nat.zero_div,Nat.zero_mod];exact GA _ _
       rw[hv];clear hv ra rb;exact Y1
      .obtain⟨ka,A1,A2⟩:=Ff (nM a) oM a2;obtain⟨kb,B1,B2⟩:=Ff (nM b) oM b2;obtain⟨A,hA⟩:=gA (nM a*2^nk (nM a))
       obtain⟨B,hB⟩:=gA (nM b*2^nk (nM b))
       have hv:=Vb a b h0 h1 g0 g1 hia hna hib hnb za zb A B hA hB;rw[hA]at A1 A2;rw[hB]at B1 B2;have hq:=Zg A B A1 A2 B1 B2;obtain⟨EA,hEA⟩:=gA (nE a-(nk (nM a):Int))
       obtain⟨EB,hEB⟩:=gA (nE b-(nk (nM b):Int))
       rw[hEA,hEB]at hv;have eb: -172<=EA/\EA<=104/\-172<=EB/\EB<=104:=oM;rw[hv];clear hv ra rb a5 b5;obtain⟨q,hqq⟩:=gA (A*274877906944/B)
       obtain⟨r,hrr⟩:=gA (A*274877906944%B)
       rw[hqq,hrr]at hq |-;have hdiv:(A*274877906944).tdiv B=q:=by rw[<-hqq,Int.tdiv_eq_ediv_of_nonneg oM]
       have hmod:(A*274877906944).tmod B=r:=by rw[<-hrr,Int.tmod_eq_emod_of_nonneg oM]
       by_cases zr:r=0
       .rw[if_pos zr];exact Zbs
       .rw[if_neg zr];exact Zbs
    .obtain⟨rb,-,b1⟩:=DY b g0 g1 hib;have hv:GO a b=Ia (Bb a != Bb b):=by rw[EO a b ra rb,<-QN,<-En];rfl
     rw[hv];clear hv ra rb;by_cases za:nM a=0
     .skip
      exact Y1
     .skip
      exact Y1
   .obtain⟨ra,-,a1⟩:=DY a h0 h1 hia;cases hib:E7 b
    .obtain⟨rb,b1,b2,b3,b4,b5⟩:=C8 b g0 g1 hib hnb;have hv:GO a b=Ia (Bb a != Bb b)+2139095040:=by rw[EO a b ra rb,<-CA,<-En];rfl
     rw[hv];clear hv ra rb;exact Y1
    .obtain⟨rb,-,b1⟩:=DY b g0 g1 hib;have hv:GO a b=2143289344:=by rw[EO a b ra rb];rfl
     rw[hv];clear hv ra rb;exact Y1
  .have hv:=NR a b h0 h1 g0 g1 (Or.inr hnb);rw[hv];clear hv;exact Y1
 .have hv:=NR a b h0 h1 g0 g1 (Or.inl hna);rw[hv];clear hv;exact Y1
theorem NP(a b:Int)(h0:0<=a)(h1:a<4294967296)(g0:0<=b)(g1:b<4294967296)(h:C7 a=true\/C7 b=true):DJ a b=2143289344:=by
 rcases h with h|h
 .obtain⟨s,t,e⟩:=Fy a h0 h1 h;rw[D5 a b e rfl];cases Ieee.single.read b.toNat<;>rfl
 .obtain⟨s,t,e⟩:=Fy b g0 g1 h;rw[D5 a b rfl e];cases Ieee.single.read a.toNat<;>rfl
theorem Lx(a b:Int)(h0:0<=a)(h1:a<4294967296)(g0:0<=b)(g1:b<4294967296){s:Bool}{i:Int}(ra:Ieee.single.read a.toNat=.number s 0 i)(rb:Ieee.single.read b.toNat=.number (Bb b) (nM b).toNat (nE b))(hb:nM b≠0)(hb0:0<=nM b)(hi: -149<=i)(hj: -149<=nE b):
 DJ a b=(Ieee.single.nearest (Bb b) (nM b).toNat (nE b):Nat):=by
 rw[D5 a b ra rb];simp only[Ieee.Datum.sum,Option.map_some,Ieee.Format.write];generalize hbase:min i (nE b)=base;have hz:Ieee.signed s 0 (i-base).toNat=0:=by unfold Ieee.signed;simp
 rw[hz,Int.zero_add,IH];have hP:(1:Int)<=2^(nE b-base).toNat:=Int.pow_pos dE;have hX:0<((nM b).toNat:Int)*2^(nE b-base).toNat:=Int.mul_pos oM oM;have e1:¬ (GW (Bb b) (((nM b).toNat:Int)*2^(nE b-base).toNat)=0):=by
  unfold GW;split<;>omega
 have e2:decide (GW (Bb b) (((nM b).toNat:Int)*2^(nE b-base).toNat)<0)=Bb b:=by
  generalize ((nM b).toNat:Int)*2^(nE b-base).toNat=X at *;cases Bb b<;>simp only[GW,if_true,if_false,Bool.false_eq_true]<;>simp<;>omega
 have e3:(GW (Bb b) (((nM b).toNat:Int)*2^(nE b-base).toNat)).natAbs=(nM b).toNat*2^(nE b-base).toNat:=by
  have hc:(((nM b).toNat*2^(nE b-base).toNat:Nat):Int)=((nM b).toNat:Int)*2^(nE b-base).toNat:=by rw[Int.natCast_mul,Int.natCast_pow];rfl
  unfold GW;split<;>omega
 rw[if_neg e1,e2,e3];show((Ieee.single.nearest (Bb b) _ base:Nat):Int)=_;rw[BI,BI,Dm,BZ];obtain⟨c,hc⟩:∃c:Nat,(c:Int)=base+149:=⟨(base+149).toNat,oM⟩
 obtain⟨d,hd⟩:∃d:Nat,(d:Int)=nE b+149:=⟨(nE b+149).toNat,oM⟩
 have r1:=Kq ((nM b).toNat*2^(nE b-base).toNat) c;have r2:=Kq (nM b).toNat d;rw[show -149+(c:Int)=base by omega]at r1;rw[show -149+(d:Int)=nE b by omega]at r2;rw[r1,r2,Nat.mul_assoc,<-Nat.pow_add,show(nE b-base).toNat+c=d by omega]
theorem Kj(a:Int)(h0:0<=a)(h1:a<4294967296)(b:Int)(g0:0<=b)(g1:b<4294967296)(w:World):
 Calls prog 123 #[.int .i64 a,.int .i64 b] w fun e w'=>e=.returned (.int .i64 (DJ a b))/\Below w.heap.size w w':=by
 cases hna:C7 a
 .cases hnb:C7 b
  .cases hia:E7 a
   .obtain⟨ra,a1,a2,a3,a4,a5⟩:=C8 a h0 h1 hia hna;cases hib:E7 b
    .obtain⟨rb,b1,b2,b3,b4,b5⟩:=C8 b g0 g1 hib hnb;by_cases za:nM a=0
     .by_cases zb:nM b=0
      .have hv:DJ a b=Ia (Bb a&&Bb b):=by
        rw[D5 a b ra rb,za,zb];simp only[Ieee.Datum.sum,Option.map_some,Ieee.Format.write];have:Ieee.signed (Bb a) (0:Int).toNat (nE a-min (nE a) (nE b)).toNat+Ieee.signed (Bb b) (0:Int).toNat (nE b-min (nE a) (nE b)).toNat=0:=by unfold Ieee.signed;simp
        rw[this,if_pos rfl];exact GA _ _
       rw[hv];clear hv ra rb;cases hma:Bb a
       .rw[Bool.false_and];exact Uu
       .rw[Bool.true_and];exact Uu
      .have hv:=Lx a b h0 h1 g0 g1 (s:=Bb a) (i:=nE a) (by rw[ra,za];rfl) rb zb b1 a3 b3;rw[hv];clear hv ra rb;exact Uu
     .by_cases zb:nM b=0
      .have hv:=Lx b a g0 g1 h0 h1 (s:=Bb b) (i:=nE b) (by rw[rb,zb];rfl) ra za a1 b3 a3;rw[Lw,hv];clear hv ra rb;exact Uu
      .by_cases hE:nE a<nE b
       .have hv:DJ a b=Uf (Bb b) (nM b) (nE b) (Bb a) (nM a) (nE a):=by
         rw[Lw,D5 b a rb ra,OW _ _ _ _ _ _ oM b2 oM a2 a3 oM b5]
        exact Zbp
       .have hv:DJ a b=Uf (Bb a) (nM a) (nE a) (Bb b) (nM b) (nE b):=by
         rw[D5 a b ra rb,OW _ _ _ _ _ _ oM a2 oM b2 b3 oM a5]
        exact Zbp
    .obtain⟨rb,-,b1⟩:=DY b g0 g1 hib;have hv:DJ a b=Ia (Bb b)+2139095040:=by rw[D5 a b ra rb,<-CA];rfl
     rw[hv];clear hv ra rb;exact Uu
   .obtain⟨ra,-,a1⟩:=DY a h0 h1 hia;cases hib:E7 b
    .obtain⟨rb,b1,b2,b3,b4,b5⟩:=C8 b g0 g1 hib hnb;have hv:DJ a b=Ia (Bb a)+2139095040:=by rw[D5 a b ra rb,<-CA];rfl
     rw[hv];clear hv ra rb;exact Uu
    .obtain⟨rb,-,b1⟩:=DY b g0 g1 hib;cases hma:Bb a<;>cases hmb:Bb b<;>rw[hma]at ra<;>rw[hmb]at rb
     .have hv:DJ a b=Ia false+2139095040:=by rw[D5 a b ra rb,<-CA];rfl
      rw[hv];clear hv ra rb;exact Uu
     .have hv:DJ a b=2143289344:=by rw[D5 a b ra rb];rfl
      rw[hv];clear hv ra rb;exact Uu
     .have hv:DJ a b=2143289344:=by rw[D5 a b ra rb];rfl
      rw[hv];clear hv ra rb;exact Uu
     .have hv:DJ a b=Ia true+2139095040:=by rw[D5 a b ra rb,<-CA];rfl
      rw[hv];clear hv ra rb;exact Uu
  .have hv:=NP a b h0 h1 g0 g1 (Or.inr hnb);rw[hv];clear hv;exact Uu
 .have hv:=NP a b h0 h1 g0 g1 (Or.inl hna);rw[hv];clear hv;exact Uu
theorem J8(d e:Ieee.Datum)(h:d.isNaN=true):e.sum d=none:=by
 cases d<;>simp[Ieee.Datum.isNaN]at h
 cases e<;>rfl
theorem Yw(a b:Int)(g0:0<=b)(g1:b<4294967296):O6 a b=DJ a (JO b):=by
 cases hn:nan b
 .rw[O5 b g0 g1 hn];unfold O6 DJ Ieee.Format.sub Ieee.Format.add;rw[Int.toNat_natCast,TA _ oM]
 .rw[O4 b g0 g1 hn];have h2:2139095040<rg b.toNat:=by rw[JY b g0]at hn;simpa using hn
  unfold O6 DJ Ieee.Format.sub Ieee.Format.add;rw[EG _ h2,show Ieee.single.read (2143289344:Int).toNat=.nan false 4194304 from by decide,J8 _ _ rfl,J8 _ _ rfl]
theorem WW(a:Int)(h0:0<=a)(h1:a<4294967296)(b:Int)(g0:0<=b)(g1:b<4294967296)(w:World):
 Calls prog 143 #[.int .i64 a,.int .i64 b] w fun e w'=>e=.returned (.int .i64 (O6 a b))/\Below w.heap.size w w':=by
 rw[Yw a b g0 g1];have hl:=Rc b g0 g1;go_enter func143,ntmps143;go_wp2_with(first
  |(go_at_call 139;refine(OA _ g0 g1 _).mono ?_;rintro e w1 ⟨rfl,hb1⟩)
  |(go_at_call 123;refine(Kj _ h0 h1 _ hl.1 hl.2 _).mono ?_;rintro e w2 ⟨rfl,hb2⟩))
 go_ret;exact⟨rfl,JD hb1 hb2⟩
def AA(a:Int):Prop:=0<=a/\a<4294967296
theorem Dk(a:Int)(h:AA a):AA (Af a):=F9 a h.1 h.2
theorem Rj(a b:Int):AA (DJ a b):=MI a b
theorem YJ(a b:Int):AA (O6 a b):=Yx a b
theorem YG(a b:Int):AA (Fb a b):=DX a b
theorem YE(a b:Int):AA (GO a b):=Yt a b
theorem Vx(a:Int):AA (E4 a):=Vl a
theorem YH(a:Int)(h:AA a):AA (JO a):=Rc a h.1 h.2
theorem YD(a:Int)(h:AA a):AA (Ys a):=F9 _ (by have:=h.1;omega) (by have:=h.1;omega)
theorem Jq(a b:Int)(h:AA a)(k:AA b):AA (Jh a b):=by
 have h1:=h.1;have h2:=h.2;have k1:=k.1;have k2:=k.2;unfold AA Jh;split
 .decide
 .exact h
 .exact k
 .split
  .exact h
  .exact k
theorem YF(a b:Int)(h:AA a)(k:AA b):AA (JN a b):=by
 have h1:=h.1;have h2:=h.2;have k1:=k.1;have k2:=k.2;unfold AA JN;split
 .decide
 .exact k
 .exact h
 .split
  .exact k
  .exact h
theorem YI(c a b:Int)(h:AA a)(k:AA b):AA (MO c a b):=by
 unfold MO;split
 .exact Dk b k
 .exact Dk a h
def LH(f:Int->Int->Int)(s:Int)(X:Nat->Int):Nat->Int
 |0=>s
 |n+1=>f (LH f s X n) (X n)
theorem Fc{f:Int->Int->Int}(hf:∀a b,AA a->AA b->AA (f a b)){s:Int}(hs:AA s){X:Nat->Int}(hX:∀i,AA (X i)):∀n,AA (LH f s X n)
 |0=>hs
 |n+1=>hf _ _ (Fc hf hs hX n) (hX n)
def Lf(X:Nat->Int)(n:Nat):Int:=LH DJ 0 X n
def F3(X:Nat->Int)(n:Nat):Int:=LH Jh 2139095040 X n
theorem IY:AA 0:=by unfold AA;decide
theorem YK(X:Nat->Int)(n:Nat)(hX:∀i,AA (X i)):AA (Lf X n):=Fc (fun _ _ _ _=>MI _ _) IY hX n
def CS(op:Int):Nat:=
 if op=3\/op=11\/op=12\/op=13\/op=14 then 1 else if op=4\/op=5\/op=6\/op=7\/op=8\/op=9\/op=10 then 2 else if op=15 then 3 else 0
def PK(b:Bool):Int:=if b then 1065353216 else 0
theorem Og(b:Bool):AA (PK b):=by unfold AA PK;cases b<;>decide
theorem BU{c:Prop}[Decidable c]{a b:Int}(h:AA a)(k:AA b):AA (if c then a else b):=by
 split
 .exact h
 .exact k
def J3(op a b c:Int):Int:=
 if op=3 then Af a else if op=11 then E4 a else if op=12 then JO a else if op=13 then Ys a else if op=14 then PK (ffin a)
 else if op=4 then DJ a b else if op=5 then O6 a b else if op=6 then Fb a b else if op=7 then GO a b else if op=8 then Jh a b else if op=9 then JN a b
 else if op=10 then PK (JM a b)else MO a b c
theorem Rl(op a b c:Int)(ha:AA a)(hb:AA b)(hc:AA c):AA (J3 op a b c):=
 BU (Dk a ha) (BU (Vx a) (BU (YH a ha) (BU (YD a ha) (BU (Og _) (BU (Rj a b) (BU (YJ a b) (BU (YG a b)
  (BU (YE a b) (BU (Jq a b ha hb) (BU (YF a b ha hb) (BU (Og _) (YI a b c hb hc))))))))))))
def IP(X:Nat->Value)(n:Nat):List Value:=(List.range n).map X
theorem ZK(X:Nat->Value)(n i:Nat)(h:i<n):(IP X n)[i]? =some (X i):=by simp[IP,h]
theorem Mo(X:Nat->Value)(n:Nat):IP X (n+1)=IP X n++[X n]:=by unfold IP;rw[List.range_succ];simp
theorem M7{w:World}{base:Nat}{e:TypeId}{v:Value}{n:Nat}{X:Nat->Value}(h:w.ownsRow base e 1 v n (IP X n)):
 ∃q cap,v=.slice q n cap/\Bc w q n X/\(∀b o s,q=some ⟨b,o,s⟩->base<=b)/\(q=none->n=0/\cap=0)/\n<=cap:=by
 rcases h.2 with⟨rfl,hx⟩|⟨g,cap,cur,rfl,hb,hg,rest⟩
 .subst hx;exact⟨none,0,rfl,.inl rfl,fun b o s e=>(by cases e),fun _=>⟨rfl,rfl⟩,gF _⟩
 .refine⟨some ⟨g,0,none⟩,cap,rfl,.inr ⟨g,0,rfl,fun i hi=>?_⟩,fun b o s e=>(by cases e;exact hb),fun e=>(by cases e),rest.1⟩;have:=h.cells (g:=g) rfl i (X i) (ZK X n i hi);rw[Nat.zero_add];by_cases c:i=0
  .subst c;simpa[Addr.add]using this
  .simpa[Addr.add,c]using this
theorem Vv:(prog.info? 3).map (fun i=>(i.zero,i.size,i.bytes))=some (some (.int .i64 0),1,8):=kR

theorem Uq(p:Option Addr)(n c:Nat)(X:Nat->Int)(hX:∀i,AA (X i))(hn:n<=1048576)(w:World)(hp:Bc w p n (fun i=>.int .i64 (X i))):
 Calls prog 102 #[.slice p n c] w fun e w'=>e=.returned (.int .i64 (Lf X n))/\Below w.heap.size w w':=by
 go_enter func102,ntmps102;go_wp2
 go_loopw [3,4] (fun sv iv wr=>Below w.heap.size w wr/\∃j:Nat,j<=n/\iv=.int .i64 j/\sv=.int .i64 (Lf X j)) (fun _ iv _=>n-(intOf iv).toNat)
 case atStart=>exact⟨Lr w,0,gI _,rfl,rfl⟩
 case round=>
  obtain⟨hb,j,hj,rfl,rfl⟩:=hrel;by_cases hlt:j<n
  .rcases hp with hp|⟨b,o,rfl,hp⟩
   .omega
   have hbl:b<w.heap.size:=Iv (hp j hlt);have h1:wr.cell? ⟨b,o+j,none⟩=some (.int .i64 (X j)):=(hb.cell hbl).trans (hp j hlt);have i1:(0:Int)<=(j:Int):=oM;have i2:(j:Int)<(n:Int):=oM;have s1:AA (Lf X j):=Fc (fun _ _ _ _=>Rj _ _) Zht hX j;have x1:=hX j;clear hp hX;go_wp2_with(go_at_call 123;refine(Kj _ s1.1 s1.2 _ x1.1 x1.2 _).mono ?_;rintro e w1 ⟨rfl,hb1⟩);go_roundw
   case rel=>exact⟨JD hb hb1,j+1,oM,gN,rfl⟩
   case measure=>simp[intOf];omega
  .have:j=n:=oM;subst this;clear hp hX;go_wp2;go_ret;exact⟨rfl,hb⟩
theorem Qp(p:Option Addr)(n c:Nat)(X:Nat->Int)(hX:∀i,AA (X i))(hn:n<=1048576)(w:World)(hp:Bc w p n (fun i=>.int .i64 (X i))):
 Calls prog 103 #[.slice p n c] w fun e w'=>e=.returned (.int .i64 (F3 X n))/\Below w.heap.size w w':=by
 go_enter func103,ntmps103;go_wp2
 go_loopw [3,4] (fun sv iv wr=>Below w.heap.size w wr/\∃j:Nat,j<=n/\iv=.int .i64 j/\sv=.int .i64 (F3 X j)) (fun _ iv _=>n-(intOf iv).toNat)
 case atStart=>exact⟨Lr w,0,gI _,rfl,rfl⟩
 case round=>
  obtain⟨hb,j,hj,rfl,rfl⟩:=hrel;by_cases hlt:j<n
  .rcases hp with hp|⟨b,o,rfl,hp⟩
   .omega
   have hbl:b<w.heap.size:=Iv (hp j hlt);have h1:wr.cell? ⟨b,o+j,none⟩=some (.int .i64 (X j)):=(hb.cell hbl).trans (hp j hlt);have i1:(0:Int)<=(j:Int):=oM;have i2:(j:Int)<(n:Int):=oM;have s1:AA (F3 X j):=Fc Jq Zht hX j;have x1:=hX j;clear hp hX;go_wp2_with(go_at_call 124;refine(Oz _ s1.1 s1.2 _ x1.1 x1.2 _).mono ?_;rintro e w1 ⟨rfl,hb1⟩);go_roundw
   case rel=>exact⟨JD hb hb1,j+1,oM,gN,rfl⟩
   case measure=>simp[intOf];omega
  .have:j=n:=oM;subst this;clear hp hX;go_wp2;go_ret;exact⟨rfl,hb⟩
theorem TE(a:Int)(h:AA a)(w:World):
 Calls prog 142 #[.int .i64 a] w fun e w'=>e=.returned (.bool (ffin a))/\w'=w:=by
 have h0:=h.1;have h1:=h.2;have t1:a.tmod 2147483648=a%2147483648:=Int.tmod_eq_emod_of_nonneg h0;go_enter func142,ntmps142;go_wp2;go_ret;exact⟨rfl,rfl⟩

structure Pd(k:IntKind)(w:World)(q:Option Addr)(m:Nat)(P:Nat->Option Addr)(l c:Nat->Nat)(X:Nat->Nat->Int):Prop where
 heads:Bc w q m (fun i=>.slice (P i) (l i) (c i))
 parts:∀i,i<m->Bc w (P i) (l i) (fun j=>.int k (X i j))
theorem Pd.below{k:IntKind}{w w':World}{q:Option Addr}{m:Nat}{P:Nat->Option Addr}{l c:Nat->Nat}{X:Nat->Nat->Int}(h:Pd k w q m P l c X)(b:Below w.heap.size w w'):Pd k w' q m P l c X:=
 ⟨h.heads.below b,fun i hi=>(h.parts i hi).below b⟩
theorem Qh{w w':World}{base:Nat}{e:TypeId}{v:Value}{n:Nat}{xs:List Value}(h:w.ownsRow base e 1 v n xs)(k:Below w.heap.size w w'):w'.ownsRow base e 1 v n xs:=by
 refine h.kept (row:=none) ⟨k.os,k.tape,k.output,k.size,fun j hj _=>k.block j hj⟩ ?_;cases v.ownBlock<;>simp
theorem Ja(op:Int)(h:CS op≠0):op=3\/op=11\/op=12\/op=13\/op=14\/op=4\/op=5\/op=6\/op=7\/op=8\/op=9\/op=10\/op=15:=by
 unfold CS at h;split at h
 .omega
 .split at h
  .omega
  .split at h
   .omega
   .exact absurd rfl h

def Eh(l:Nat->Nat):Nat->Option Nat
 |0=>some (l 0)
 |j+1=>match Eh l j with
  |none=>none
  |some n=>if l (j+1)=n then some n else if l (j+1)=0\/n=0 then none else if n=1 then some (l (j+1))else if l (j+1)=1 then some n else none
theorem Ib{l:Nat->Nat}{j n:Nat}(h:Eh l j=some n):Eh l (j+1)=if l (j+1)=n then some n else if l (j+1)=0\/n=0 then none else if n=1 then some (l (j+1))else if l (j+1)=1 then some n else none:=by
 show(match Eh l j with |none=>none|some n=>_)=_;rw[h]
theorem Kv{l:Nat->Nat}{j:Nat}(h:Eh l j=none):∀M,j<=M->Eh l M=none:=by
 intro M;induction M with
 |zero=>
  intro hj;have:j=0:=oM;subst this;exact h
 |succ M ih=>
  intro hj;rcases Nat.lt_or_ge M j with c|c
  .have:j=M+1:=oM;subst this;exact h
  .show(match Eh l M with |none=>none|some n=>_)=_;rw[ih c]
theorem shp_le{l:Nat->Nat}{N:Nat}(hl:∀i,l i<=N):∀ {M n:Nat},Eh l M=some n->n<=N:=by
 intro M;induction M with
 |zero=>intro n h;cases h;exact hl 0
 |succ M ih=>
  intro n h;cases e:Eh l M with
  |none=>rw[Kv e (M+1) oM]at h;cases h
  |some k=>
   rw[Ib e]at h;have:=ih e;have:=hl (M+1)
   repeat' split at h
   all_goals cases h
   all_goals omega
theorem OQ{l:Nat->Nat}:∀ {M n:Nat},Eh l M=some n->∀i,i<=M->l i=n\/(l i=1/\n≠0):=by
 intro M;induction M with
 |zero=>
  intro n h i hi;cases h;have:i=0:=oM;subst this;exact .inl rfl
 |succ M ih=>
  intro n h i hi;cases e:Eh l M with
  |none=>rw[Kv e (M+1) oM]at h;cases h
  |some k=>
   rw[Ib e]at h;have hi':i<=M\/i=M+1:=oM;split at h
   .cases h
    rcases hi' with c|c
    .exact ih e i c
    .subst c;left;assumption
   .split at h
    .cases h
    .split at h
     .cases h
      rcases hi' with c|c
      .have:=ih e i c;omega
      .subst c;exact .inl rfl
     .split at h
      .cases h
       rcases hi' with c|c
       .exact ih e i c
       .subst c;right;omega
      .cases h
def G0(l:Nat->Nat)(X:Nat->Nat->Int)(m i j:Nat):Int:=if j<m then X j (if l j=1 then 0 else i)else 0
theorem CI{l:Nat->Nat}{X:Nat->Nat->Int}(hX:∀i j,AA (X i j))(m i j:Nat):AA (G0 l X m i j):=BU (hX _ _) IY
theorem Gy{k:IntKind}{w:World}{b o m:Nat}{P:Nat->Option Addr}{l c:Nat->Nat}{X:Nat->Nat->Int}(h:Pd k w (some ⟨b,o,none⟩) m P l c X)(i:Nat)(hi:i<m):w.cell? ⟨b,o+i,none⟩=some (.slice (P i) (l i) (c i)):=by
 rcases h.heads with q|⟨b',o',e,hh⟩
 .omega
 .cases e;exact hh i hi
theorem U7{l:Nat->Nat}{M n i j:Nat}(h:Eh l M=some n)(hj:j<=M)(hi:i<n):l j=1\/i<l j:=by
 rcases OQ h j hj with e|e
 .right;omega
 .left;exact e.1
theorem KQ(op:Int):CS op<=3:=by
 unfold CS;split
 .omega
 .split
  .omega
  .split<;>omega

def sl:Nat->Nat:=fun i=>if i=0 then 2 else 1
end Go.Proofs.YtpoklpdgpcnkgaaGreat
