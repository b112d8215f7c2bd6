import Derived.Test.YtheanilpbnencaaGreatSpe18
import Derived.Test.YtheanilpbnencaaGreatSpe12
import Derived.Test.YtheanilpbnencaaGreatSpe1
import Derived.Test.YtheanilpbnencaaGreatSpe13
import Derived.Test.YtheanilpbnencaaGreatSpe17
namespace Go.Proofs.YtheanilpbnencaaGreat
open Go.RowKit Go.Proofs.Tryz
set_option linter.all false
set_option maxRecDepth 100000
set_option maxHeartbeats 16000000
theorem Fe.cellsOf{T:Nat->Prop}{w:World}{v:Value}{L:List (List Int)}(h:Fe T w v L):∃p c,v=.slice p L.length c/\∀i (hi:i<L.length),∃b o q d,p=some ⟨b,o,none⟩/\w.cell? ⟨b,o+i,none⟩=some (.slice q (L[i]).length d)/\AP w q (L[i]).length (fun j=>.int .u32 (BO L[i] j)):=by
 obtain⟨p,c,hv,hh⟩:=h;refine⟨p,c,hv,fun i hi=>?_⟩;rcases hh with e|⟨b,o,hp,_,_,hh⟩
 .rw[e]at hi;exact absurd hi (Nat.not_lt_zero _)
 .obtain⟨u,h1,h2⟩:=hh i hi;obtain⟨q,d,hq⟩:=h2.len;rw[hq]at h1 h2;exact⟨b,o,q,d,hp,h1,h2.reads.2⟩
def Bp(w:World)(p:Option Addr)(l:List Int):Prop:=AP w p l.length (fun j=>.int .i64 (BO l j))
theorem Bp.below{w w':World}{p:Option Addr}{l:List Int}(h:Bp w p l)(k:Below w.heap.size w w'):Bp w' p l:=AP.below h k
structure Cl where
 p:Option Addr
 q:Nat
 h:Hd
def Ot(x:Cl):List Value:=[.slice x.p x.h.pats.length x.q,.int .i64 x.h.whole]
def PR(x:Cl):List Value:=[.slice x.p x.h.pats.length x.q]
theorem FA(x:Cl):(Ot x).length=2:=rfl
theorem GW(x:Cl):(PR x).length=1:=rfl
theorem Nb:∀x:Cl,∀u∈Ot x,u.oneCell'=true:=fun x u hu=>by simp[Ot]at hu;rcases hu with rfl|rfl<;>rfl
theorem U7:∀x:Cl,∀u∈PR x,u.oneCell'=true:=fun x u hu=>by simp[PR]at hu;subst hu;rfl
structure SC(w:World)(v:Value)(X:List Cl):Prop where
 row:Bj 2 Ot w v X
 nums:∀x∈X,Bp w x.p x.h.pats
theorem SC.below{w w':World}{v:Value}{X:List Cl}(h:SC w v X)(k:Below w.heap.size w w'):SC w' v X:=⟨h.row.below k,fun x hx=>(h.nums x hx).below k⟩
structure Y9(w:World)(v:Value)(X:List Cl):Prop where
 row:Bj 1 PR w v X
 nums:∀x∈X,Bp w x.p x.h.pats
theorem G8:(prog.info? 60).map (fun i=>(i.zero,i.size,i.bytes))=some (some (.agg #[.slice none 0 0,.int .i64 0]),2,32):=kR
theorem II:(prog.info? 58).map (fun i=>(i.zero,i.size,i.bytes))=some (some (.slice none 0 0),1,24):=kR
theorem Ho{c:Cd}(hg:Good c){k:Nat}(h:k<c.sign.length):(lenOf c (k:Int):Int)=c.sign[k].len:=by
 unfold lenOf;rw[Int.toNat_natCast,gB h];have:=(hg.len _ (gD h)).1;simp;omega
theorem DX(v0 v1 v2 v3:Value)(c:Cd)(hg:Good c)(t:Ty)(ht:t.kind=3->Ab t.par c.sign.length=true)(w:World)(hv:Cy w v0 v1 v2 v3 c):
 Calls prog 33 #[.agg #[v0,v1,v2,v3],DB t] w fun e w'=>e=.returned (.int .i64 (if t.kind=3 then(lenOf c t.par:Int)else 1))/\Below w.heap.size w w':=by
 obtain⟨K,P⟩:=t;unfold DB;simp only at ht |-;by_cases h3:K=3
 .subst h3;obtain⟨k,rfl,hkl⟩:=Cp (ht rfl);rw[if_pos rfl,Ho hg hkl];have hr:=hv.sign;obtain⟨p,q,rfl,hrr⟩:=hv.sign;obtain⟨lb,lo,rfl,hc⟩:=hr.at hkl;obtain⟨⟨nm,K,L⟩,hT⟩:∃t:Bd,c.sign[k]=t:=⟨_,rfl⟩
  rw[hT]at hc |-;have hlen:=hg.signL;have y2:w.cell? ⟨lb,lo+k*3+2,none⟩=some (.int .i64 L):=hc.at 2 rfl;have g2:∀o o',((w.alloc o).alloc o').cell? ⟨lb,lo+k*3+2,none⟩=some (.int .i64 L):=fun o o'=>kc (bel (A0 _ _) (A0 _ _)) y2;obtain⟨N,hN⟩:=gA (c.sign.length)
  rw[hN]at hkl hlen |-;clear hr hrr hc hT hv hN ht;simp only;go_enter func33,ntmps33;go_wp2;go_ret;exact PP
 .rw[if_neg h3];have h3':(K==3)=false:=by simpa using h3
  clear h3 ht;go_enter func33,ntmps33;go_wp2;go_ret;exact PP
theorem GC(b:Bool)(w:World):Calls prog 39 #[.bool b] w fun e w'=>e=.returned (.int .i64 (B6 b))/\w'=w:=by
 cases b
 all_goals
  go_enter func39,ntmps39;go_wp2;go_ret;exact⟨rfl,rfl⟩
def Dr(V:List Int)(k n len:Nat):List Int:=(List.range len).map fun e=>A9 (BO V (k*e+n))
theorem IU(V:List Int)(k n len:Nat):(Dr V k n len).length=len:=by simp[Dr]
theorem Hw(V:List Int)(k n j:Nat):Dr V k n (j+1)=Dr V k n j++[A9 (BO V (k*j+n))]:=by simp[Dr,List.range_succ]
theorem Ua{w:World}{B:Nat}{p:Option Addr}{q:Nat}{l:List Int}(h:w.ownsRow B 3 1 (.slice p l.length q) l.length (BK l)):Bp w p l:=by
 by_cases h0:l.length=0
 .exact .inl h0
 .obtain⟨g,cap,e,_⟩:=h.form oM;simp only[Value.slice.injEq]at e;obtain⟨rfl,-,-⟩:=e;refine .inr ⟨g,0,rfl,fun j hj=>?_⟩;rw[Nat.zero_add,h.cellAt j oM];simp[BK,BO,hj]
theorem Dq{w:World}{B:Nat}{e:TypeId}{k:Nat}{p:Option Addr}{n m q:Nat}{xs:List Value}(h:w.ownsRow B e k (.slice p n q) m xs):∀b o s,p=some ⟨b,o,s⟩->B<=b:=by
 intro b o s e;subst e;rcases h.2 with⟨e1,-⟩|⟨g,cap,cur,e1,hb,-⟩
 .simp at e1
 .simp only[Value.slice.injEq,Option.some.injEq,Addr.mk.injEq]at e1;omega
theorem KH(nm:ByteArray)(K:Int)(len:Nat)(hlen:len<=4096)(k:Nat)(hk:k=if K=2 then 2 else 1)(V:List Int)(hV:∀y∈V,Ar y)(p:Option Addr)(q n:Nat)(hn:n<k)(hm:k*len<=V.length)(hVL:V.length<=1048576)(w:World)(hr:AP w p V.length (fun j=>.int .u32 (BO V j))):
 Calls prog 43 #[.agg #[.string nm,.int .i64 K,.int .i64 (len:Int)],.slice p V.length q,.int .i64 (n:Int)] w fun e w'=>∃p' q',e=.returned (.slice p' len q')/\Bp w' p' (Dr V k n len)/\Below w.heap.size w w'/\∀b o s,p'=some ⟨b,o,s⟩->w.heap.size<=b:=by
 have HRD:Hid (AP w p V.length (fun j=>.int .u32 (BO V j))):=hr;have HV:Hid (∀j,Ar (BO V j)):=fun j=>BQ hV j;obtain⟨M,hM⟩:=gA (V.length)
 rw[hM]at HRD hVL hm |-;have hC:∀v,Below (w.alloc (.cells #[.string nm,.int .i64 K,.int .i64 (len:Int)] 73)).heap.size (w.alloc (.cells #[.string nm,.int .i64 K,.int .i64 (len:Int)] 73)) v->v.cell? ⟨w.heap.size,2,none⟩=some (.int .i64 (len:Int)):=fun v hb=>kc hb sG;have HC:Hid _:=hC;have hk2:((K==2)=true/\k=2)\/((K==2)=false/\k=1):=by
  by_cases h:K=2
  .exact .inl ⟨by simpa using h,by rw[hk,if_pos h]⟩
  .exact .inr ⟨by simpa using h,by rw[hk,if_neg h]⟩
 clear hV hr hM hk hC;rcases hk2 with⟨hKb,rfl⟩|⟨hKb,rfl⟩
 .go_enter func43,ntmps43;go_wp2
  go_loopw [8,9] (fun ov iv wr=>Below (w.alloc (.cells #[.string nm,.int .i64 K,.int .i64 (len:Int)] 73)).heap.size (w.alloc (.cells #[.string nm,.int .i64 K,.int .i64 (len:Int)] 73)) wr/\∃ (j:Nat) (pp:Option Addr) (qq:Nat),j<=len/\iv=.int .i64 (j:Int)/\ov=.slice pp j qq/\Hid (wr.ownsRow (w.alloc (.cells #[.string nm,.int .i64 K,.int .i64 (len:Int)] 73)).heap.size 3 1 (.slice pp j qq) j (BK (Dr V 2 n j)))) (fun _ iv _=>len-(intOf iv).toNat)
  case atStart=>exact⟨BE _,0,none,0,gI _,rfl,rfl,World.ownsRow_nil _ _ _ 1⟩
  case round=>
   obtain⟨hb,j,pp,qq,hj,rfl,rfl,how⟩:=hrel;have c2:=HC.out wr hb;have HB:Hid (Below (w.alloc (.cells #[.string nm,.int .i64 K,.int .i64 (len:Int)] 73)).heap.size (w.alloc (.cells #[.string nm,.int .i64 K,.int .i64 (len:Int)] 73)) wr):=hb;by_cases hlt:j<len
   .have hi:2*j+n<M:=oM;rcases HRD.out with h0|⟨b,o,rfl,hcell⟩
    .omega
    have hc:=hcell (2*j+n) hi;simp only at hc;have y:=kc (bel (A0 _ _) hb) hc;have hP:=HV.out (2*j+n);have KC:=DY (BO V (2*j+n)) hP.1 hP.2;have KA:=fun x=>F1 (V:=wr) underlying58 EC rfl dE how.out hb.size #[.int .i64 x] rfl Wl mL oM 58;obtain⟨g,c',w8,hap,hb8,ho8,-⟩:=KA (A9 (BO V (2*j+n)));have HNX:Hid (w8.ownsRow (w.alloc (.cells #[.string nm,.int .i64 K,.int .i64 (len:Int)] 73)).heap.size 3 1 (.slice (some ⟨g,0,none⟩) (j+1) c') (j+1) (BK (Dr V 2 n (j+1)))):=by
     show World.ownsRow _ _ _ _ _ _ _;rw[Hw,BY];exact ho8
    have HB8:Hid (Below (w.alloc (.cells #[.string nm,.int .i64 K,.int .i64 (len:Int)] 73)).heap.size wr w8):=hb8;have HAP:Hid _:=hap;have HKC:Hid _:=KC;obtain⟨z,hz⟩:=gA (BO V (2*j+n))
    rw[hz]at y hP HKC HAP;have t0:(j:Int)<(len:Int):=oM;have t1:IntKind.i64.wrap (2*(j:Int))=2*(j:Int):=by rw[IntKind.wrap_i64];omega
    have t2:IntKind.i64.wrap (2*(j:Int)+(n:Int))=((2*j+n:Nat):Int):=by rw[IntKind.wrap_i64];omega
    have t3:(0:Int)<=((2*j+n:Nat):Int):=oM;have t4:((2*j+n:Nat):Int)<(M:Int):=oM;have t5:IntKind.i64.wrap ((j:Int)+1)=((j+1:Nat):Int):=by rw[IntKind.wrap_i64];omega
    have t6:IntKind.i64.wrap z=z:=by rw[IntKind.wrap_i64];have:=hP.1;have:=hP.2;omega
    obtain⟨ix,hix⟩:=gA (2*j+n)
    exact YB
   have hjn:j=len:=oM;have e1:¬ (j:Int)<(len:Int):=oM;have HF:Hid (Bp wr pp (Dr V 2 n len)):=by
    exact YO
   exact Yz
 .go_enter func43,ntmps43;go_wp2
  go_loopw [8,9] (fun ov iv wr=>Below (w.alloc (.cells #[.string nm,.int .i64 K,.int .i64 (len:Int)] 73)).heap.size (w.alloc (.cells #[.string nm,.int .i64 K,.int .i64 (len:Int)] 73)) wr/\∃ (j:Nat) (pp:Option Addr) (qq:Nat),j<=len/\iv=.int .i64 (j:Int)/\ov=.slice pp j qq/\Hid (wr.ownsRow (w.alloc (.cells #[.string nm,.int .i64 K,.int .i64 (len:Int)] 73)).heap.size 3 1 (.slice pp j qq) j (BK (Dr V 1 n j)))) (fun _ iv _=>len-(intOf iv).toNat)
  case atStart=>exact⟨BE _,0,none,0,gI _,rfl,rfl,World.ownsRow_nil _ _ _ 1⟩
  case round=>
   obtain⟨hb,j,pp,qq,hj,rfl,rfl,how⟩:=hrel;have c2:=HC.out wr hb;have HB:Hid (Below (w.alloc (.cells #[.string nm,.int .i64 K,.int .i64 (len:Int)] 73)).heap.size (w.alloc (.cells #[.string nm,.int .i64 K,.int .i64 (len:Int)] 73)) wr):=hb;by_cases hlt:j<len
   .have hi:j+n<M:=oM;rcases HRD.out with h0|⟨b,o,rfl,hcell⟩
    .omega
    have hc:=hcell (j+n) hi;simp only at hc;have y:=kc (bel (A0 _ _) hb) hc;have hP:=HV.out (j+n);have KC:=DY (BO V (j+n)) hP.1 hP.2;have KA:=fun x=>F1 (V:=wr) underlying58 EC rfl dE how.out hb.size #[.int .i64 x] rfl Wl mL oM 58;obtain⟨g,c',w8,hap,hb8,ho8,-⟩:=KA (A9 (BO V (j+n)));have HNX:Hid (w8.ownsRow (w.alloc (.cells #[.string nm,.int .i64 K,.int .i64 (len:Int)] 73)).heap.size 3 1 (.slice (some ⟨g,0,none⟩) (j+1) c') (j+1) (BK (Dr V 1 n (j+1)))):=by
     show World.ownsRow _ _ _ _ _ _ _;rw[Hw,Nat.one_mul,BY];exact ho8
    have HB8:Hid (Below (w.alloc (.cells #[.string nm,.int .i64 K,.int .i64 (len:Int)] 73)).heap.size wr w8):=hb8;have HAP:Hid _:=hap;have HKC:Hid _:=KC;obtain⟨z,hz⟩:=gA (BO V (j+n))
    rw[hz]at y hP HKC HAP;have t0:(j:Int)<(len:Int):=oM;have t1:IntKind.i64.wrap (j:Int)=(j:Int):=by rw[IntKind.wrap_i64];omega
    have t2:IntKind.i64.wrap ((j:Int)+(n:Int))=((j+n:Nat):Int):=by rw[IntKind.wrap_i64];omega
    have t3:(0:Int)<=((j+n:Nat):Int):=oM;have t4:((j+n:Nat):Int)<(M:Int):=oM;have t5:IntKind.i64.wrap ((j:Int)+1)=((j+1:Nat):Int):=by rw[IntKind.wrap_i64];omega
    have t6:IntKind.i64.wrap z=z:=by rw[IntKind.wrap_i64];have:=hP.1;have:=hP.2;omega
    obtain⟨ix,hix⟩:=gA (j+n)
    exact YB
   have hjn:j=len:=oM;have e1:¬ (j:Int)<(len:Int):=oM;have HF:Hid (Bp wr pp (Dr V 1 n len)):=by
    exact YO
   exact Yz
def Cc(op a b c:Int):Int:=
 if op=21 then min (a+1) 2147483647
 else if op=22 then B6 (decide (a<b))
 else if op=23 then B6 (a==b)
 else if op=24 then B6 (a != 0&&b != 0)
 else if op=25 then B6 (a==0)
 else if op=26 then(if a=0 then c else b)
 else if op=27 then max (a-b) 0
 else if b=0 then 0 else a/b
theorem ML(op a b c:Int)(ho:21<=op/\op<=28)(ha:0<=a/\a<=2147483647)(hb:0<=b/\b<=2147483647)(w:World):
 Calls prog 42 #[.int .i64 op,.int .i64 a,.int .i64 b,.int .i64 c] w fun e w'=>e=.returned (.int .i64 (Cc op a b c))/\w'=w:=by
 have KF:Hid (∀x v,Calls prog 39 #[.bool x] v fun e w'=>e=.returned (.int .i64 (B6 x))/\w'=v):=GC;obtain⟨a0,a1⟩:=ha;obtain⟨b0,b1⟩:=hb;have:op=21\/op=22\/op=23\/op=24\/op=25\/op=26\/op=27\/op=28:=oM;rcases this with rfl|rfl|rfl|rfl|rfl|rfl|rfl|rfl
 .rw[show Cc 21 a b c=min (a+1) 2147483647 from rfl];have t:IntKind.i64.wrap (a+1)=a+1:=by rw[IntKind.wrap_i64];omega
  exact Wj
 .rw[show Cc 22 a b c=B6 (decide (a<b))from rfl];exact Wi
 .rw[show Cc 23 a b c=B6 (a==b)from rfl];exact Wi
 .rw[show Cc 24 a b c=B6 (a != 0&&b != 0)from rfl];cases hz:(a != 0)
  .rw[Bool.false_and];have hz':(a==0)=true:=by simpa using hz
   exact Wi
  .rw[Bool.true_and];have hz':(a==0)=false:=by simpa using hz
   exact Wi
 .rw[show Cc 25 a b c=B6 (a==0)from rfl];exact Wi
 .rw[show Cc 26 a b c=(if a=0 then c else b)from rfl];by_cases hz:a=0
  .rw[if_pos hz];have hz':(a != 0)=false:=by simpa using hz
   have hz2:(a==0)=true:=by simpa using hz
   clear hz a0 a1;exact Wj
  .rw[if_neg hz];have hz':(a != 0)=true:=by simpa using hz
   have hz2:(a==0)=false:=by simpa using hz
   clear hz;exact Wj
 .rw[show Cc 27 a b c=max (a-b) 0 from rfl];have t:IntKind.i64.wrap (a-b)=a-b:=by rw[IntKind.wrap_i64];omega
  exact Wj
 .rw[show Cc 28 a b c=(if b=0 then 0 else a/b)from rfl];by_cases hz:b=0
  .rw[if_pos hz];have hz2:(b==0)=true:=by simpa using hz
   clear hz b0 b1;exact Wj
  .rw[if_neg hz];have hz2:(b==0)=false:=by simpa using hz
   have ht:a.tdiv b=a/b:=by rw[Int.tdiv_eq_ediv_of_nonneg a0]
   have hw:IntKind.i64.wrap (a/b)=a/b:=by
    rw[IntKind.wrap_i64];have h1:=Int.ediv_nonneg a0 b0;have h2:=Int.ediv_le_self b a0;omega
   go_enter func42,ntmps42;go_wp2;go_ret;first
    |exact⟨rfl,rfl⟩
    |(refine⟨?_,rfl⟩;simp[ht,hw])
theorem GO(n:Nat)(x:Int){j:Nat}(h:j<n):BO (List.replicate n x) j=x:=by simp[BO,h]
theorem Ge(n:Nat)(x:Int)(hx:Ar x)(hn:n<=65536)(w:World):
 Calls prog 18 #[.int .i64 n,.int .i64 x] w fun e w'=>∃q cap,e=.returned (.tuple #[.slice q n cap,.int .i64 0])/\AP w' q n (fun i=>.int .i64 (A9 x))/\Below w.heap.size w w'/\∀b o s,q=some ⟨b,o,s⟩->w.heap.size<=b:=by
 obtain⟨i0,hi0,hz0,hz1,hz2⟩:=info_parts Qw;have h1:¬ ((n:Int)<0):=oM;have h2:(n:Int)<=65536:=oM;go_enter func18,ntmps18;go_wp2
 go_loopw [6,7] (fun ov iv wr=>Below w.heap.size w wr/\∃ (k:Nat) (v:Value),v=ov/\k<=n/\iv=.int .i64 k/\Hid (wr.ownsRow w.heap.size 3 1 v k (Gn (fun i=>.int .i64 (A9 x)) k))) (fun _ iv _=>n-(intOf iv).toNat)
 case atStart=>exact⟨BE w,0,_,rfl,gI _,rfl,World.ownsRow_nil _ _ _ _⟩
 case round=>
  obtain⟨hb,k,ov,rfl,hk,rfl,hown⟩:=hrel;by_cases hlt:k<n
  .have i1:(0:Int)<=(k:Int):=oM;have i2:(k:Int)<(n:Int):=oM;have sz:=hb.size;have hob:Hid (∀j,ov.ownBlock=some j->w.heap.size<=j/\j<wr.heap.size):=hown.lt;go_wp2_with(first
    |(go_at_call 35;refine(DY _ hx.1 hx.2 _).mono ?_;rintro e w0 ⟨rfl,hw'⟩;obtain rfl:=hw'.symm)
    |(at_builtin;refine wpList_append_own _ rfl _ _ 58 rfl w.heap.size 3 i0 _ 1 8 underlying58 hi0 hz0 hz1 hz2 rfl dE ov k (Gn (fun i=>.int .i64 (A9 x)) k) rfl (hown.alloc _) ⟨wr.heap.size,0,none⟩ 1 1 [.int .i64 (A9 x)] rfl rfl (World.news_of_block (cs:=#[.int .i64 (A9 x)]) (t:=3) (fr:=(0,0)) (heap_alloc_new wr _)) Sz mL oM sO ?_;intro v' w1 hown1 hgrow hnil;have HB:Below w.heap.size w w1:=Below.grown (hb.alloc sz _) hgrow sO (fun j e=>(hob.out j e).1);have HO:Hid (w1.ownsRow w.heap.size 3 1 v' (k+1) (Gn (fun i=>.int .i64 (A9 x)) k++[.int .i64 (A9 x)])):=hown1;clear hown1 hgrow hnil))
   go_roundw
   case rel=>exact⟨HB,k+1,_,rfl,oM,gN,by rw[J5];exact HO⟩
   case measure=>simp[intOf];omega
  .have:k=n:=oM;subst this;obtain⟨q,cap,rfl,hR,hg,-⟩:=IT hown.out;have HR:Hid (AP wr q k (fun i=>.int .i64 (A9 x))):=hR;have HG:Hid (∀b o s,q=some ⟨b,o,s⟩->w.heap.size<=b):=hg;clear hR hg hown;go_wp2;go_returns;first|exact⟨_,_,rfl,HR.out,hb,HG.out⟩|exact⟨_,⟨_,rfl⟩,HR.out,hb,HG.out⟩
structure Lz(w:World)(v0 v1 v2 v3:Value)(tk tp:Int)(kp:Bool)(sb si:Int)(v:World):Prop where
 bel:Below w.heap.size w v
 c0:v.cell? ⟨w.heap.size,0,none⟩=some v0
 c1:v.cell? ⟨w.heap.size,1,none⟩=some v1
 c2:v.cell? ⟨w.heap.size,2,none⟩=some v2
 c3:v.cell? ⟨w.heap.size,3,none⟩=some v3
 s0:v.cell? ⟨w.heap.size+1,0,none⟩=some (.int .i64 tk)
 s1:v.cell? ⟨w.heap.size+1,1,none⟩=some (.int .i64 tp)
 s2:v.cell? ⟨w.heap.size+1,2,none⟩=some (.bool kp)
 s3:v.cell? ⟨w.heap.size+1,3,none⟩=some (.int .u32 sb)
 s4:v.cell? ⟨w.heap.size+1,4,none⟩=some (.int .i64 si)
 r0:v.cell? ⟨w.heap.size+1+1,0,none⟩=some (.slice none 0 0)
 r1:v.cell? ⟨w.heap.size+1+1,1,none⟩=some (.int .i64 0)
 f0:v.frozen? ⟨w.heap.size+1+1,0,none⟩=false
 f1:v.frozen? ⟨w.heap.size+1+1,1,none⟩=false
theorem Lz.next{w:World}{v0 v1 v2 v3:Value}{tk tp:Int}{kp:Bool}{sb si:Int}{v v':World}(h:Lz w v0 v1 v2 v3 tk tp kp sb si v)(k:Below v.heap.size v v'):Lz w v0 v1 v2 v3 tk tp kp sb si v':=
 ⟨Go.Proofs.YtheanilpbnencaaGreat.bel h.bel k,kc k h.c0,kc k h.c1,kc k h.c2,kc k h.c3,kc k h.s0,kc k h.s1,kc k h.s2,kc k h.s3,kc k h.s4,kc k h.r0,kc k h.r1,kf k h.r0 h.f0,kf k h.r1 h.f1⟩
theorem Lz.start(w:World)(v0 v1 v2 v3:Value)(tk tp:Int)(kp:Bool)(sb si:Int):Lz w v0 v1 v2 v3 tk tp kp sb si (((w.alloc (.cells #[v0,v1,v2,v3] 27)).alloc (.cells #[.int .i64 tk,.int .i64 tp,.bool kp,.int .u32 sb,.int .i64 si] 65)).alloc (.cells #[.slice none 0 0,.int .i64 0] 60)):=by
 have k1:=A0 (w.alloc (.cells #[v0,v1,v2,v3] 27)) (.cells #[.int .i64 tk,.int .i64 tp,.bool kp,.int .u32 sb,.int .i64 si] 65);have k2:=A0 ((w.alloc (.cells #[v0,v1,v2,v3] 27)).alloc (.cells #[.int .i64 tk,.int .i64 tp,.bool kp,.int .u32 sb,.int .i64 si] 65)) (.cells #[.slice none 0 0,.int .i64 0] 60);refine⟨Go.Proofs.YtheanilpbnencaaGreat.bel (A0 _ _) (Go.Proofs.YtheanilpbnencaaGreat.bel k1 k2),kc k2 (kc k1 ?_),kc k2 (kc k1 ?_),kc k2 (kc k1 ?_),kc k2 (kc k1 ?_),kc k2 ?_,kc k2 ?_,kc k2 ?_,kc k2 ?_,kc k2 ?_,?_,?_,?_,?_⟩
 all_goals simp[go_sem]
theorem I1(v0 v1 v2 v3:Value)(c:Cd)(hg:Good c)(s:Sl)(hs:AG s c.sign.length=true)(hb:Ar s.bits)(w:World)(hv:Cy w v0 v1 v2 v3 c):
 Calls prog 16 #[.agg #[v0,v1,v2,v3],VK s] w fun e w'=>∃p q,e=.returned (.agg #[.slice p (AU c s).pats.length q,.int .i64 (AU c s).whole])/\Bp w' p (AU c s).pats/\Below w.heap.size w w'/\∀b o s,p=some ⟨b,o,s⟩->w.heap.size<=b:=by
 have hw:=hg.width s.ty;have hmay:=hs;unfold AG at hmay;simp only[Bool.and_eq_true]at hmay;obtain⟨m1,m2⟩:=hmay;have hpl:s.ty.kind=3->Ab s.ty.par c.sign.length=true:=fun h3=>by
  unfold Ak at m1;rw[if_neg oM,if_pos h3]at m1;exact m1
 have hkd:s.ty.kind=1\/s.ty.kind=2\/s.ty.kind=3:=by
  unfold Ak at m1;by_cases h1:s.ty.kind=1\/s.ty.kind=2
  .rcases h1 with h1|h1
   .exact .inl h1
   .exact .inr (.inl h1)
  .rw[if_neg h1]at m1;by_cases h3:s.ty.kind=3
   .exact .inr (.inr h3)
   .rw[if_neg h3]at m1;exact absurd m1 dE
 have KW:=DX v0 v1 v2 v3 c hg s.ty hpl;unfold DO at m2;obtain⟨⟨tk,tp⟩,kp,sb,si⟩:=s;unfold AU VK Ef;unfold DB at KW;simp only at hw hpl hkd KW m2 hb |-;have HT0:=Lz.start w v0 v1 v2 v3 tk tp kp sb si;by_cases h2:tk=2
 .have hw0:AO c ⟨tk,tp⟩=0:=by unfold AO;simp[h2]
  rw[hw0];have h2b:(tk==2)=true:=by simpa using h2
  obtain⟨-,c0,c1,c2,c3,s0,s1,s2,s3,s4,r0,r1,f0,f1⟩:=HT0;clear KW m1 m2 hpl hkd h2;go_enter func16,ntmps16;go_wp2;refine bodyPost_ret (by simp[results,results16,go_sem];try rfl) rfl ?_;exact⟨none,0,rfl,.inl rfl,gG,fun b o s e=>by simp at e⟩
 .have h2b:(tk==2)=false:=by simpa using h2
  rw[if_neg h2]at m2;simp only[Bool.and_eq_true,beq_iff_eq]at m2;have HSI:Hid (si=0):=m2.1;obtain⟨n,hn⟩:∃n:Nat,(if tk=3 then(lenOf c tp:Int)else 1)=(n:Int)/\AO c ⟨tk,tp⟩=n:=by
   unfold AO;simp only;rcases hkd with e|e|e
   .exact⟨1,by simp[e],by simp[e]⟩
   .exact absurd e h2
   .exact⟨lenOf c tp,by simp[e],by simp[e]⟩
  rw[hn.1]at KW;rw[hn.2]at hw |-;have KFI:=Ge n sb hb oM;have HKW:Hid (∀v,Below w.heap.size w v->Calls prog 33 #[.agg #[v0,v1,v2,v3],.agg #[.int .i64 tk,.int .i64 tp]] v fun e w'=>e=.returned (.int .i64 (n:Int))/\Below v.heap.size v w'):=fun v hb=>KW v (hv.below hb);have HKF:Hid (∀v,Calls prog 18 #[.int .i64 (n:Int),.int .i64 sb] v fun e w'=>∃q cap,e=.returned (.tuple #[.slice q n cap,.int .i64 0])/\AP w' q n (fun i=>.int .i64 (A9 sb))/\Below v.heap.size v w'/\∀b o s,q=some ⟨b,o,s⟩->v.heap.size<=b):=KFI;have HT:Hid (Lz w v0 v1 v2 v3 tk tp kp sb si (((w.alloc (.cells #[v0,v1,v2,v3] 27)).alloc (.cells #[.int .i64 tk,.int .i64 tp,.bool kp,.int .u32 sb,.int .i64 si] 65)).alloc (.cells #[.slice none 0 0,.int .i64 0] 60))):=HT0;have hsb:IntKind.i64.wrap sb=sb:=by rw[IntKind.wrap_i64];have:=hb.1;have:=hb.2;omega
  obtain⟨-,c0,c1,c2,c3,s0,s1,s2,s3,s4,r0,r1,f0,f1⟩:=HT0;clear KW KFI m1 m2 hpl hkd h2 hn hs hv;go_enter func16,ntmps16;go_wp2;refine rG (fun v=>v.cell? ⟨w.heap.size,0,none⟩=some v0/\v.cell? ⟨w.heap.size,1,none⟩=some v1/\v.cell? ⟨w.heap.size,2,none⟩=some v2/\v.cell? ⟨w.heap.size,3,none⟩=some v3/\v.cell? ⟨w.heap.size+1,0,none⟩=some (.int .i64 tk)/\v.cell? ⟨w.heap.size+1,1,none⟩=some (.int .i64 tp)/\v.cell? ⟨w.heap.size+1,3,none⟩=some (.int .u32 sb)) fun hJ=>?_;refine Tf 0 1 2 4 5 6 ?_;clear hJ;refine AC 3 fun K hK=>?_;go_simp;(go_at_call 33;(with_reducible refine(HKW.out _ (bel HT.out.bel (A4 _))).mono ?_);rintro e w1 ⟨rfl,hb1⟩;have HB1:Hid (Below (((w.alloc (.cells #[v0,v1,v2,v3] 27)).alloc (.cells #[.int .i64 tk,.int .i64 tp,.bool kp,.int .u32 sb,.int .i64 si] 65)).alloc (.cells #[.slice none 0 0,.int .i64 0] 60)).heap.size (((w.alloc (.cells #[v0,v1,v2,v3] 27)).alloc (.cells #[.int .i64 tk,.int .i64 tp,.bool kp,.int .u32 sb,.int .i64 si] 65)).alloc (.cells #[.slice none 0 0,.int .i64 0] 60)) w1):=bel (A4 _) hb1;clear hb1;obtain⟨-,c0,c1,c2,c3,s0,s1,s2,s3,s4,r0,r1,f0,f1⟩:=HT.out.next HB1.out);try(go_wp2_with fail)
  refine AB hK fun hJ=>?_;clear hK K;clear hJ;refine AC 7 fun K hK=>?_;go_simp;(go_at_call 18;(with_reducible refine(HKF.out _).mono ?_);rintro e w2 ⟨pf,qf,rfl,hrf,hb2,hfr⟩;have HFR:Hid (∀b o s,pf=some ⟨b,o,s⟩->w1.heap.size<=b):=hfr;clear hfr;have HS1:Hid (w.heap.size+1+1<w1.heap.size):=A3 r0;have HB2:Hid (Below (((w.alloc (.cells #[v0,v1,v2,v3] 27)).alloc (.cells #[.int .i64 tk,.int .i64 tp,.bool kp,.int .u32 sb,.int .i64 si] 65)).alloc (.cells #[.slice none 0 0,.int .i64 0] 60)).heap.size (((w.alloc (.cells #[v0,v1,v2,v3] 27)).alloc (.cells #[.int .i64 tk,.int .i64 tp,.bool kp,.int .u32 sb,.int .i64 si] 65)).alloc (.cells #[.slice none 0 0,.int .i64 0] 60)) w2):=bel HB1.out hb2;have HRF:Hid (AP w2 pf n (fun i=>.int .i64 (A9 sb))):=hrf;clear hb2 hrf c0 c1 c2 c3 s0 s1 s2 s3 s4 r0 r1 f0 f1;obtain⟨-,c0,c1,c2,c3,s0,s1,s2,s3,s4,r0,r1,f0,f1⟩:=HT.out.next HB2.out);try(go_wp2_with fail)
  refine AB hK fun hJ=>?_;clear hK K;refine Tc 8 9 10 ?_;refine Tb 11 12 ?_;refine wpAnyH_done kR ?_ _;go_wp2;refine bodyPost_ret (by simp[results,results16,go_sem, *];try rfl) rfl ?_;have hbF:Below w.heap.size w ((w2.setCell ⟨w.heap.size+1+1,0,none⟩ (.slice pf n qf)).setCell ⟨w.heap.size+1+1,1,none⟩ (.int .i64 0)):=((bel HT.bel HB2.out).setCell V9 _).setCell V9 _;refine⟨pf,qf,by rw[List.length_replicate,HSI.out],?_,hbF,fun b o s e=>by have h3:=HFR.out b o s e;have h4:=HS1.out;omega⟩;show AP _ _ _ _;rw[List.length_replicate];rcases HRF.out with h0|⟨b,o,rfl,h1⟩
  .exact .inl h0
  .refine .inr ⟨b,o,rfl,fun j hj=>?_⟩;have hne:b≠w.heap.size+1+1:=by have h3:=HFR.out b o none rfl;have h4:=HS1.out;omega
   rw[gC (gE hne),gC (gE hne),h1 j hj];simp only;rw[GO _ _ hj]
def Fy(v:World)(sv:Value)(p:Option Addr)(l:List Int):Prop:=l=[]\/∃b o,p=some ⟨b,o,none⟩/\sv.ownBlock≠some b/\∀j,j<l.length->v.cell? ⟨b,o+j,none⟩=some (.int .i64 (BO l j))
theorem Fy.num{v:World}{sv:Value}{p:Option Addr}{l:List Int}(h:Fy v sv p l):Bp v p l:=by
 rcases h with rfl|⟨b,o,e,-,h⟩
 .exact .inl rfl
 .exact .inr ⟨b,o,e,h⟩
theorem Fy.below{v v':World}{sv:Value}{p:Option Addr}{l:List Int}(h:Fy v sv p l)(k:Below v.heap.size v v'):Fy v' sv p l:=by
 rcases h with rfl|⟨b,o,e,hn,h⟩
 .exact .inl rfl
 .exact .inr ⟨b,o,e,hn,fun j hj=>kc k (h j hj)⟩
theorem Bp.apart{v:World}{sv:Value}{p:Option Addr}{l:List Int}(h:Bp v p l)(ha:∀b o s,p=some ⟨b,o,s⟩->sv.ownBlock≠some b):Fy v sv p l:=by
 rcases h with h|⟨b,o,e,h⟩
 .exact .inl (List.length_eq_zero_iff.1 h)
 .exact .inr ⟨b,o,e,ha b o none e,h⟩
theorem Fy.grow{V w':World}{p:Option Addr}{n q g c' m:Nat}{pp:Option Addr}{l:List Int}(h:Fy V (.slice p n q) pp l)(hk:∀b,b<V.heap.size->(Value.slice p n q).ownBlock≠some b->w'.heap[b]? =V.heap[b]?)(hg:(Value.slice p n q).ownBlock=some g\/V.heap.size<g):Fy w' (.slice (some ⟨g,0,none⟩) m c') pp l:=by
 exact Yy
structure H2(B:Nat)(v:World)(sv:Value)(X:List Cl):Prop where
 own:v.ownsRow B 60 2 sv X.length (AT Ot X)
 nums:∀x∈X,Fy v sv x.p x.h.pats
theorem H2.below{B:Nat}{v v':World}{sv:Value}{X:List Cl}(h:H2 B v sv X)(k:Below v.heap.size v v'):H2 B v' sv X:=⟨AA h.own k,fun x hx=>(h.nums x hx).below k⟩
theorem H2.cs{B:Nat}{v:World}{sv:Value}{X:List Cl}(h:H2 B v sv X):SC v sv X:=⟨DU FA h.own,fun x hx=>(h.nums x hx).num⟩
theorem H2.nil(B:Nat)(v:World):H2 B v (.slice none 0 0) []:=⟨World.ownsRow_nil _ _ _ 2,fun x hx=>by cases hx⟩
theorem H2.push{B:Nat}{V:World}{p:Option Addr}{q:Nat}{X:List Cl}(h:H2 B V (.slice p X.length q) X)(hB:B<=V.heap.size)(hX:X.length<=16384)(x:Cl)(hx:Fy V (.slice p X.length q) x.p x.h.pats)(ty:TypeId):
 ∃g c' w',(Builtin.append_ #[34,34] ty #[.slice p X.length q,.slice (some ⟨V.heap.size,0,none⟩) 1 1]).run prog (V.alloc (.cells #[.slice x.p x.h.pats.length x.q,.int .i64 x.h.whole] 60))=.ok (.slice (some ⟨g,0,none⟩) (X.length+1) c') w'/\Below B V w'/\H2 B w' (.slice (some ⟨g,0,none⟩) (X.length+1) c') (X++[x])/\(∀b,b<V.heap.size->(Value.slice p X.length q).ownBlock≠some b->w'.heap[b]? =V.heap[b]?):=by
 obtain⟨g,c',w',hr,hb,ho,hk,hg⟩:=Kr (V:=V) underlying34 G8 rfl dE h.own hB #[.slice x.p x.h.pats.length x.q,.int .i64 x.h.whole] rfl (fun u hu=>Nb x u hu) mL oM ty;refine⟨g,c',w',hr,hb,⟨?_,fun y hy=>?_⟩,hk⟩
 .rw[List.length_append,Ew];exact ho
 .rcases List.mem_append.1 hy with e|e
  .exact(h.nums y e).grow hk hg
  .simp only[List.mem_singleton]at e;subst e;exact hx.grow hk hg
def f5(a b c d e:Value)(j:Nat):Value:=if j=0 then a else if j=1 then b else if j=2 then c else if j=3 then d else e
theorem Gw(a b c d e:Value):∀i,i<(#[a,b,c,d,e]:Array Value).size->(#[a,b,c,d,e]:Array Value)[i]? =some (f5 a b c d e i):=by
 intro i hi;have hi':i<5:=hi;obtain rfl|rfl|rfl|rfl|rfl:i=0\/i=1\/i=2\/i=3\/i=4:=oM
 all_goals rfl
structure NW(w:World)(v0 v1 v2 v3:Value)(R:Nat)(sv:Value)(X:List Cl)(v:World):Prop where
 cx:CX w v0 v1 v2 v3 v
 rb:v.rowIs (w.heap.size+1) 36 5 (f5 (.slice none 0 0) (.slice none 0 0) (.slice none 0 0) (.slice none 0 0) (.slice none 0 0))
 rr:v.rowIs R 36 5 (f5 v0 v1 v2 v3 sv)
 cs:H2 (R+1) v sv X
 hR:w.heap.size+1<R
 ap:∀x∈X,∀b o s,x.p=some ⟨b,o,s⟩->R<b
theorem NW.next{w:World}{v0 v1 v2 v3:Value}{R:Nat}{sv:Value}{X:List Cl}{v v':World}(h:NW w v0 v1 v2 v3 R sv X v)(k:Below v.heap.size v v'):NW w v0 v1 v2 v3 R sv X v':=
 ⟨h.cx.next k,h.rb.of_block (k.block _ h.rb.lt),h.rr.of_block (k.block _ h.rr.lt),h.cs.below k,h.hR,h.ap⟩
theorem NW.put{w:World}{v0 v1 v2 v3:Value}{R:Nat}{sv:Value}{X:List Cl}{v w':World}{g n c':Nat}{Y:List Cl}(h:NW w v0 v1 v2 v3 R sv X v)(hb:Below (R+1) v w')(hc:H2 (R+1) w' (.slice (some ⟨g,0,none⟩) n c') Y)(hap:∀x∈Y,∀b o s,x.p=some ⟨b,o,s⟩->R<b):
 w'.cell? ⟨R,4,none⟩=some sv/\w'.frozen? ⟨R,4,none⟩=false/\NW w v0 v1 v2 v3 R (.slice (some ⟨g,0,none⟩) n c') Y (w'.setCell ⟨R,4,none⟩ (.slice (some ⟨g,0,none⟩) n c')):=by
 have hR:=h.hR;have hr':w'.rowIs R 36 5 (f5 v0 v1 v2 v3 sv):=h.rr.of_block (hb.block R (Nat.lt_succ_self _));have ho:∀b,b≠R->(w'.setCell ⟨R,4,none⟩ (.slice (some ⟨g,0,none⟩) n c')).heap[b]? =w'.heap[b]? :=fun b hne=>gE hne;have hgR:g≠R:=fun e=>by have:=(hc.own.lt g rfl).1;omega
 refine⟨hr'.cell (i:=4) dE,hr'.frozen 4,(h.cx.on (hb.mono oM)).on ((Below.refl _ _).setCell (by show w.heap.size+1<=R;omega) _),(h.rb.of_block (hb.block _ oM)).setOther (by show w.heap.size+1≠R;omega) _,(hr'.set 4 _).congr (fun j hj=>?_),⟨Az hc.own (fun b hbb=>ho b XX),fun x hx=>?_⟩,h.hR,hap⟩
 .have hj':j<5:=hj;obtain rfl|rfl|rfl|rfl|rfl:j=0\/j=1\/j=2\/j=3\/j=4:=oM
  all_goals simp[f5]
 .rcases hc.nums x hx with e|⟨b,o,e,hn,h1⟩
  .exact .inl e
  .refine .inr ⟨b,o,e,hn,fun j hj=>?_⟩;have hne:b≠R:=by have:=hap x hx b o none e;omega
   rw[gC (ho b hne)];exact h1 j hj
theorem H2.off{B:Nat}{v v':World}{sv:Value}{X:List Cl}{Z R:Nat}(h:H2 B v sv X)(hZ:Z<R)(hB:R<B)(ap:∀x∈X,∀b o s,x.p=some ⟨b,o,s⟩->R<b)(k:∀b,b≠Z->v'.heap[b]? =v.heap[b]?):H2 B v' sv X:=by
 refine⟨Az h.own (fun b hb=>k b (by have:=(h.own.lt b hb).1;omega)),fun x hx=>?_⟩;rcases h.nums x hx with e|⟨b,o,e,hn,h1⟩
 .exact .inl e
 .have:=ap x hx b o none e;exact .inr ⟨b,o,e,hn,fun j hj=>by rw[gC (k b oM)];exact h1 j hj⟩
theorem Kz(v0 v1 v2 v3:Value)(c:Cd)(hk:AZ c)(w:World)(hv:Cy w v0 v1 v2 v3 c)(hc:(Ag c).1=0):
 Calls prog 7 #[.agg #[v0,v1,v2,v3]] w fun e w'=>∃p q X,e=.returned (.tuple #[.agg #[v0,v1,v2,v3,.slice p c.slots.length q],.int .i64 0])/\X.map (·.h)=BM c/\SC w' (.slice p c.slots.length q) X/\Below w.heap.size w w'/\(∀b o s,p=some ⟨b,o,s⟩->w.heap.size<=b)/\∀x∈X,∀b o s,x.p=some ⟨b,o,s⟩->w.heap.size<=b:=by
 have hg:=(GR hc).1;have KC:=Jy v0 v1 v2 v3 c hk;rw[hc]at KC;obtain⟨F,hF⟩:∃E,(Ag c).2=E:=⟨_,rfl⟩
 rw[hF]at KC;have HKC:Hid (∀v,Below w.heap.size w v->Calls prog 15 #[.agg #[v0,v1,v2,v3]] v fun e w'=>e=.returned (.tuple #[.int .i64 0,.int .i64 F])/\Below v.heap.size v w'):=fun v hb=>KC v (hv.below hb);have HKF:Hid (∀s∈c.slots,∀v,Below w.heap.size w v->Calls prog 16 #[.agg #[v0,v1,v2,v3],.agg #[.int .i64 s.ty.kind,.int .i64 s.ty.par,.bool s.keep,.int .u32 s.bits,.int .i64 s.int_]] v fun e w'=>∃p q,e=.returned (.agg #[.slice p (AU c s).pats.length q,.int .i64 (AU c s).whole])/\Bp w' p (AU c s).pats/\Below v.heap.size v w'/\∀b o s,p=some ⟨b,o,s⟩->v.heap.size<=b):=fun s hs v hb=>I1 v0 v1 v2 v3 c hg s (hg.slots s hs) ⟨(hk.sbits s hs).1,(hk.sbits s hs).2⟩ v (hv.below hb);obtain⟨p0,q0,rfl,-⟩:=id hv.sign;obtain⟨p1,q1,rfl,-⟩:=id hv.regs;obtain⟨p2,q2,rfl,-⟩:=id hv.slots;obtain⟨p3,q3,rfl,-⟩:=id hv.list;have HSL:Hid (Bj 5 Py w (.slice p2 c.slots.length q2) c.slots):=hv.slots;have hn2:=hg.slotsL;obtain⟨n2,hnn⟩:∃n,c.slots.length=n:=⟨_,rfl⟩
 have HN2:Hid (c.slots.length=n2):=hnn;rw[hnn]at hn2 HKC HKF HSL |-;obtain⟨n0,hn0⟩:∃n,c.sign.length=n:=⟨_,rfl⟩
 obtain⟨n1,hn1⟩:∃n,c.regs.length=n:=⟨_,rfl⟩
 obtain⟨n3,hn3⟩:∃n,c.list.length=n:=⟨_,rfl⟩
 rw[hn0,hn1,hn3]at HKC HKF |-;have HX0:Hid (CX w (.slice p0 n0 q0) (.slice p1 n1 q1) (.slice p2 n2 q2) (.slice p3 n3 q3) ((w.alloc (.cells #[.slice p0 n0 q0,.slice p1 n1 q1,.slice p2 n2 q2,.slice p3 n3 q3] 27)).alloc (.cells #[.slice none 0 0,.slice none 0 0,.slice none 0 0,.slice none 0 0,.slice none 0 0] 36))):=(CX.start w (.slice p0 n0 q0) (.slice p1 n1 q1) _ (.slice p3 n3 q3)).next (A0 _ _);have HRB0:Hid (((w.alloc (.cells #[.slice p0 n0 q0,.slice p1 n1 q1,.slice p2 n2 q2,.slice p3 n3 q3] 27)).alloc (.cells #[.slice none 0 0,.slice none 0 0,.slice none 0 0,.slice none 0 0,.slice none 0 0] 36)).rowIs (w.heap.size+1) 36 5 (f5 (.slice none 0 0) (.slice none 0 0) (.slice none 0 0) (.slice none 0 0) (.slice none 0 0))):=by
  have h9:=World.rowIs_alloc (w.alloc (.cells #[(.slice p0 n0 q0),(.slice p1 n1 q1),.slice p2 n2 q2,(.slice p3 n3 q3)] 27)) #[.slice none 0 0,.slice none 0 0,.slice none 0 0,.slice none 0 0,.slice none 0 0] 36 _ (Gw _ _ _ _ _);rw[show(w.alloc (.cells #[(.slice p0 n0 q0),(.slice p1 n1 q1),.slice p2 n2 q2,(.slice p3 n3 q3)] 27)).heap.size=w.heap.size+1 by simp]at h9;exact h9
 obtain⟨b1,b2,c0,c1,c2,c3⟩:=HX0.out;clear KC hF hc hv hk hnn hn0 hn1 hn3;go_enter func7,ntmps7;go_wp2_with(go_at_call 15;(with_reducible refine(HKC.out _ HX0.out.bel).mono ?_);rintro e w1 ⟨rfl,hb1⟩;have HNW:Hid (NW w (.slice p0 n0 q0) (.slice p1 n1 q1) (.slice p2 n2 q2) (.slice p3 n3 q3) w1.heap.size (.slice none 0 0) [] (w1.alloc (.cells #[(.slice p0 n0 q0),(.slice p1 n1 q1),.slice p2 n2 q2,(.slice p3 n3 q3),.slice none 0 0] 36))):=(by have hcx:=HX0.out.next hb1;have hrb:=HRB0.out.of_block (hb1.block _ HRB0.out.lt);exact⟨hcx.next (A0 _ _),hrb.alloc _,World.rowIs_alloc w1 _ _ _ (Gw _ _ _ _ _),H2.nil _ _,hrb.lt,fun x hx=>by cases hx⟩);obtain⟨-,-,c0,c1,c2,c3⟩:=HX0.out.next hb1;have a0:=(fun o=>kc (A0 w1 o) c0);have a1:=(fun o=>kc (A0 w1 o) c1);have a2:=(fun o=>kc (A0 w1 o) c2);have a3:=(fun o=>kc (A0 w1 o) c3);clear hb1);obtain⟨R,hR⟩:=gA (w1.heap.size)
 obtain⟨W1,hW1⟩:∃W,w1.alloc (.cells #[(.slice p0 n0 q0),(.slice p1 n1 q1),.slice p2 n2 q2,(.slice p3 n3 q3),.slice none 0 0] 36)=W:=⟨_,rfl⟩
 rw[hW1,hR]at HNW;try rw[hW1]
 try rw[hR]
 clear hW1 hR c0 c1 c2 c3 a0 a1 a2 a3 b1 b2 HRB0
 go_loopw [7] (fun iv wr=>∃ (j:Nat) (p:Option Addr) (q:Nat) (X:List Cl),j<=n2/\iv=.int .i64 (j:Int)/\Hid (NW w (.slice p0 n0 q0) (.slice p1 n1 q1) (.slice p2 n2 q2) (.slice p3 n3 q3) R (.slice p X.length q) X wr)/\Hid (X.map (·.h)=(BM c).take j)) (fun iv _=>n2-(intOf iv).toNat)
 case atStart=>exact⟨0,none,0,[],gI _,rfl,HNW.out,by show _=_;simp⟩
 case round=>
  obtain⟨j,p,q,X,hj,rfl,hnw,hmap⟩:=hrel;obtain⟨b1,b2,c0,c1,c2,c3⟩:=hnw.cx;have r4:wr.cell? ⟨R,4,none⟩=some (.slice p X.length q):=hnw.rr.cell (i:=4) dE;have hXl:X.length=j:=by
   have h5:=congrArg List.length hmap.out;rw[List.length_map,List.length_take,BM,List.length_map,HN2.out]at h5;omega
  clear HNW;by_cases hlt:j<n2
  .have hll:j<c.slots.length:=by rw[HN2.out];exact hlt
   obtain⟨lb,lo,rfl,hx⟩:=HSL.at hll;have KF1:=HKF.out c.slots[j] (gD hll);have HMN:Hid (∀h',h'=AU c c.slots[j]->(X.map (·.h))++[h']=(BM c).take (j+1)):=fun h' e=>by
    rw[hmap.out,List.take_succ_eq_append_getElem (by rw[BM,List.length_map];exact hll),J2 _ hll,e]
   obtain⟨s9,hs9⟩:∃s,c.slots[j]=s:=⟨_,rfl⟩
   rw[hs9]at hx KF1 HMN;obtain⟨H9,hH9⟩:∃h,AU c s9=h:=⟨_,rfl⟩
   rw[hH9]at KF1 HMN;obtain⟨⟨tk,tp⟩,kp,sb,si⟩:=s9;simp only at KF1;have y0:=kc b1 (hx.at 0 rfl);have y1:=kc b1 (hx.at 1 rfl);have y2:=kc b1 (hx.at 2 rfl);have y3:=kc b1 (hx.at 3 rfl);have y4:=kc b1 (hx.at 4 rfl);rw[Nat.add_zero]at y0;simp only[Py]at hx;have HKF1:Hid _:=KF1;have HXW:Hid (Ai w lb (lo+j*5) (Py ⟨⟨tk,tp⟩,kp,sb,si⟩)):=hx;obtain⟨N,hN⟩:=gA (X.length)
   have HNX:Hid (X.length=N):=hN;have hnw2:=hnw.out;rw[hN]at r4 hnw2;have HNW2:Hid _:=hnw2;try rw[hN]
   have i1:(0:Int)<=(j:Int):=oM;have i2:(j:Int)<(n2:Int):=oM;have wi:IntKind.i64.wrap ((j:Int)+1)=((j+1:Nat):Int):=by rw[IntKind.wrap_i64];omega
   have HXL:Hid (X.length=j):=hXl;clear KF1 hx hs9 hH9 hnw2 hN hmap hXl;go_wp2;refine rG (fun v=>v.cell? ⟨w.heap.size,0,none⟩=some (.slice p0 n0 q0)/\v.cell? ⟨w.heap.size,1,none⟩=some (.slice p1 n1 q1)/\v.cell? ⟨w.heap.size,2,none⟩=some (.slice (some ⟨lb,lo,none⟩) n2 q2)/\v.cell? ⟨w.heap.size,3,none⟩=some (.slice p3 n3 q3)/\v.cell? ⟨lb,lo+j*5,none⟩=some (.int .i64 tk)/\v.cell? ⟨lb,lo+j*5+1,none⟩=some (.int .i64 tp)/\v.cell? ⟨lb,lo+j*5+2,none⟩=some (.bool kp)/\v.cell? ⟨lb,lo+j*5+3,none⟩=some (.int .u32 sb)/\v.cell? ⟨lb,lo+j*5+4,none⟩=some (.int .i64 si)) fun hJ=>?_;refine Tf 0 2 3 4 5 6 ?_;refine Bm 7 ?_;clear hJ;refine wpAnyH_ready (rs:=[1,8]) kR sM ?_;refine IZ 1 (fun K hK=>?_) ?_
   .go_simp;refine AB hK fun hJ=>?_;clear hK K;clear hJ;refine AC 8 fun K hK=>?_;go_simp;(go_at_call 16;(with_reducible refine(HKF1.out _ (bel b1 (A4 _))).mono ?_);rintro e w2 ⟨pf,qf,rfl,hnum,hb2,hfr⟩;have hb22:Below wr.heap.size wr w2:=bel (A4 _) hb2;have h22:=hnw.out.next hb22;obtain⟨g,c',w3,hrun,hb3,hcs3,hoth⟩:=h22.cs.push (Nat.succ_le_of_lt h22.rr.lt) (by have h5:=HXL.out;omega) ⟨pf,qf,H9⟩ (hnum.apart (fun b o s e e2=>by have h5:=hfr b o s e;have h6:=(hnw.out.cs.own.lt b e2).2;have h7:wr.drew.heap.size=wr.heap.size:=rfl;omega)) 34;have hap3:∀x∈X++[(⟨pf,qf,H9⟩:Cl)],∀b o s,x.p=some ⟨b,o,s⟩->R<b:=(by intro x hx b o s e;rcases List.mem_append.1 hx with h|h;exact hnw.out.ap x h b o s e;simp only[List.mem_singleton]at h;subst h;have h5:=hfr b o s e;have h6:=hnw.out.rr.lt;have h7:wr.drew.heap.size=wr.heap.size:=rfl;omega);obtain⟨k4,z4,hnw3⟩:=h22.put hb3 hcs3 hap3;rw[HNX.out]at hrun k4 hnw3;have HRUN:Hid _:=hrun;have HNW3:Hid (NW w (.slice p0 n0 q0) (.slice p1 n1 q1) (.slice (some ⟨lb,lo,none⟩) n2 q2) (.slice p3 n3 q3) R (.slice (some ⟨g,0,none⟩) (N+1) c') (X++[(⟨pf,qf,H9⟩:Cl)]) (w3.setCell ⟨R,4,none⟩ (.slice (some ⟨g,0,none⟩) (N+1) c'))):=hnw3;have hcx2:=h22.cx;have hcx3:=hcx2.on (hb3.mono (by have:=h22.hR;omega));obtain⟨b21,-,d0,d1,d2,d3⟩:=hcx2;obtain⟨b31,-,e0,e1,e2,e3⟩:=hcx3;have u4:w2.cell? ⟨R,4,none⟩=some (.slice p N q):=Zi;have g0:=(fun o=>kc (A0 w2 o) d0);have g1:=(fun o=>kc (A0 w2 o) d1);have g2:=(fun o=>kc (A0 w2 o) d2);have g3:=(fun o=>kc (A0 w2 o) d3);have g4:=(fun o=>kc (A0 w2 o) u4);have m0:=kc b21 (HXW.out.at 0 rfl);have m1:=kc b21 (HXW.out.at 1 rfl);have m2:=kc b21 (HXW.out.at 2 rfl);have m3:=kc b21 (HXW.out.at 3 rfl);have m4:=kc b21 (HXW.out.at 4 rfl);rw[Nat.add_zero]at m0;have l0:=(fun o=>kc (A0 w2 o) m0);have l1:=(fun o=>kc (A0 w2 o) m1);have l2:=(fun o=>kc (A0 w2 o) m2);have l3:=(fun o=>kc (A0 w2 o) m3);have l4:=(fun o=>kc (A0 w2 o) m4);have t0:=kc b31 (HXW.out.at 0 rfl);have t1:=kc b31 (HXW.out.at 1 rfl);have t2:=kc b31 (HXW.out.at 2 rfl);have t3:=kc b31 (HXW.out.at 3 rfl);have t4:=kc b31 (HXW.out.at 4 rfl);rw[Nat.add_zero]at t0;obtain⟨b41,-,o0,o1,o2,o3⟩:=HNW3.out.cx;have x0:(w3.setCell ⟨R,4,none⟩ (.slice (some ⟨g,0,none⟩) (N+1) c')).cell? ⟨lb,lo+j*5,none⟩=some (.int .i64 tk):=kc b41 (HXW.out.at 0 rfl);have x1:=kc b41 (HXW.out.at 1 rfl);have x2:=kc b41 (HXW.out.at 2 rfl);have x3:=kc b41 (HXW.out.at 3 rfl);have x4:=kc b41 (HXW.out.at 4 rfl);clear b41 hnum hb2 hfr hb22 h22 hrun hb3 hcs3 hoth hap3 hnw3 b21 b31);try(go_wp2_with fail)
    refine AB hK fun hJ=>?_;clear hK K;clear hJ;refine AC 9 fun K hK=>?_;exact Xw
   refine IZ 8 (fun K hK=>?_) AllReadyH.nil;go_simp;(go_at_call 16;(with_reducible refine(HKF1.out _ (bel b1 (A4 _))).mono ?_);rintro e w2 ⟨pf,qf,rfl,hnum,hb2,hfr⟩;have hb22:Below wr.heap.size wr w2:=bel (A4 _) hb2;have h22:=hnw.out.next hb22;obtain⟨g,c',w3,hrun,hb3,hcs3,hoth⟩:=h22.cs.push (Nat.succ_le_of_lt h22.rr.lt) (by have h5:=HXL.out;omega) ⟨pf,qf,H9⟩ (hnum.apart (fun b o s e e2=>by have h5:=hfr b o s e;have h6:=(hnw.out.cs.own.lt b e2).2;have h7:wr.drew.heap.size=wr.heap.size:=rfl;omega)) 34;have hap3:∀x∈X++[(⟨pf,qf,H9⟩:Cl)],∀b o s,x.p=some ⟨b,o,s⟩->R<b:=(by intro x hx b o s e;rcases List.mem_append.1 hx with h|h;exact hnw.out.ap x h b o s e;simp only[List.mem_singleton]at h;subst h;have h5:=hfr b o s e;have h6:=hnw.out.rr.lt;have h7:wr.drew.heap.size=wr.heap.size:=rfl;omega);obtain⟨k4,z4,hnw3⟩:=h22.put hb3 hcs3 hap3;rw[HNX.out]at hrun k4 hnw3;have HRUN:Hid _:=hrun;have HNW3:Hid (NW w (.slice p0 n0 q0) (.slice p1 n1 q1) (.slice (some ⟨lb,lo,none⟩) n2 q2) (.slice p3 n3 q3) R (.slice (some ⟨g,0,none⟩) (N+1) c') (X++[(⟨pf,qf,H9⟩:Cl)]) (w3.setCell ⟨R,4,none⟩ (.slice (some ⟨g,0,none⟩) (N+1) c'))):=hnw3;have hcx2:=h22.cx;have hcx3:=hcx2.on (hb3.mono (by have:=h22.hR;omega));obtain⟨b21,-,d0,d1,d2,d3⟩:=hcx2;obtain⟨b31,-,e0,e1,e2,e3⟩:=hcx3;have u4:w2.cell? ⟨R,4,none⟩=some (.slice p N q):=Zi;have g0:=(fun o=>kc (A0 w2 o) d0);have g1:=(fun o=>kc (A0 w2 o) d1);have g2:=(fun o=>kc (A0 w2 o) d2);have g3:=(fun o=>kc (A0 w2 o) d3);have g4:=(fun o=>kc (A0 w2 o) u4);have m0:=kc b21 (HXW.out.at 0 rfl);have m1:=kc b21 (HXW.out.at 1 rfl);have m2:=kc b21 (HXW.out.at 2 rfl);have m3:=kc b21 (HXW.out.at 3 rfl);have m4:=kc b21 (HXW.out.at 4 rfl);rw[Nat.add_zero]at m0;have l0:=(fun o=>kc (A0 w2 o) m0);have l1:=(fun o=>kc (A0 w2 o) m1);have l2:=(fun o=>kc (A0 w2 o) m2);have l3:=(fun o=>kc (A0 w2 o) m3);have l4:=(fun o=>kc (A0 w2 o) m4);have t0:=kc b31 (HXW.out.at 0 rfl);have t1:=kc b31 (HXW.out.at 1 rfl);have t2:=kc b31 (HXW.out.at 2 rfl);have t3:=kc b31 (HXW.out.at 3 rfl);have t4:=kc b31 (HXW.out.at 4 rfl);rw[Nat.add_zero]at t0;obtain⟨b41,-,o0,o1,o2,o3⟩:=HNW3.out.cx;have x0:(w3.setCell ⟨R,4,none⟩ (.slice (some ⟨g,0,none⟩) (N+1) c')).cell? ⟨lb,lo+j*5,none⟩=some (.int .i64 tk):=kc b41 (HXW.out.at 0 rfl);have x1:=kc b41 (HXW.out.at 1 rfl);have x2:=kc b41 (HXW.out.at 2 rfl);have x3:=kc b41 (HXW.out.at 3 rfl);have x4:=kc b41 (HXW.out.at 4 rfl);clear b41 hnum hb2 hfr hb22 h22 hrun hb3 hcs3 hoth hap3 hnw3 b21 b31);try(go_wp2_with fail)
   refine AB hK fun hJ=>?_;clear hK K;clear hJ;refine wpAnyH_ready (rs:=[1,9]) kR sM ?_;refine IZ 1 (fun K hK=>?_) ?_
   .go_simp;refine AB hK fun hJ=>?_;clear hK K;clear hJ;refine AC 9 fun K hK=>?_;exact Xw
   refine IZ 9 (fun K hK=>?_) AllReadyH.nil;go_simp;refine AB hK fun hJ=>?_;clear hK K;clear hJ;refine AC 1 fun K hK=>?_;exact Xw
  .have hjn:j=n2:=oM;have HMF:Hid (X.map (·.h)=BM c):=by
    show _=_;have h5:=hmap.out;rw[hjn,<-HN2.out,List.take_of_length_le (by rw[BM,List.length_map];exact gF _)]at h5;exact h5
   have e1:¬ (j:Int)<(n2:Int):=oM;have r0:wr.cell? ⟨R,0,none⟩=some (.slice p0 n0 q0):=hnw.rr.cell (i:=0) dE;have r1:wr.cell? ⟨R,1,none⟩=some (.slice p1 n1 q1):=hnw.rr.cell (i:=1) dE;have r2:wr.cell? ⟨R,2,none⟩=some (.slice p2 n2 q2):=hnw.rr.cell (i:=2) dE;have r3:wr.cell? ⟨R,3,none⟩=some (.slice p3 n3 q3):=hnw.rr.cell (i:=3) dE;have k0:wr.cell? ⟨w.heap.size+1,0,none⟩=some (.slice none 0 0):=hnw.rb.cell (i:=0) dE;have k1:wr.cell? ⟨w.heap.size+1,1,none⟩=some (.slice none 0 0):=hnw.rb.cell (i:=1) dE;have k2:wr.cell? ⟨w.heap.size+1,2,none⟩=some (.slice none 0 0):=hnw.rb.cell (i:=2) dE;have k3:wr.cell? ⟨w.heap.size+1,3,none⟩=some (.slice none 0 0):=hnw.rb.cell (i:=3) dE;have k4:wr.cell? ⟨w.heap.size+1,4,none⟩=some (.slice none 0 0):=hnw.rb.cell (i:=4) dE;have z0:=hnw.rb.frozen 0;have z1:=hnw.rb.frozen 1;have z2:=hnw.rb.frozen 2;have z3:=hnw.rb.frozen 3;have z4:=hnw.rb.frozen 4;have hne:R≠w.heap.size+1:=by have:=hnw.hR;omega
   obtain⟨N,hN⟩:=gA (X.length)
   have HNX:Hid (X.length=N):=hN;rw[hN]at r4;clear hlt hmap hXl hN;go_wp2;refine bodyPost_ret (by simp[results,results7,go_sem, *];try rfl) rfl ?_;have ho:∀ (a b c d e:Value) (x:Nat),x≠w.heap.size+1->(((((wr.setCell ⟨w.heap.size+1,0,none⟩ a).setCell ⟨w.heap.size+1,1,none⟩ b).setCell ⟨w.heap.size+1,2,none⟩ c).setCell ⟨w.heap.size+1,3,none⟩ d).setCell ⟨w.heap.size+1,4,none⟩ e).heap[x]? =wr.heap[x]? :=fun a b c d e x hx=>by
    rw[gE hx,gE hx,gE hx,gE hx,gE hx]
   have HNN:N=n2:=by
    have h5:=congrArg List.length HMF.out;rw[List.length_map,BM,List.length_map,HN2.out,HNX.out]at h5;exact h5
   refine⟨p,q,by rw[HNN],X,HMF.out,?_,?_,fun b o s e=>?_,fun x hx b o s e=>by have h5:=hnw.ap x hx b o s e;have h6:=hnw.hR;omega⟩
   rotate_right 1
   .have h5:=Dq hnw.cs.own b o s e;have h6:=hnw.hR;omega
   .rw[<-HNN,<-HNX.out];exact(hnw.cs.off (Z:=w.heap.size+1) (by have:=hnw.hR;omega) (Nat.lt_succ_self _) hnw.ap (ho _ _ _ _ _)).cs
   .exact((((hnw.cx.bel.setCell Ja _).setCell Ja _).setCell Ja _).setCell Ja _).setCell Ja _
def Jx(l:List Int):List Value:=l.map fun x=>.int .u32 x
theorem Gc(l:List Int)(x:Int):Jx (l++[x])=Jx l++[.int .u32 x]:=by simp[Jx]
theorem NA{w:World}{B:Nat}{p:Option Addr}{q:Nat}{l:List Int}(h:w.ownsRow B 53 1 (.slice p l.length q) l.length (Jx l)):AP w p l.length (fun j=>.int .u32 (BO l j)):=by
 by_cases h0:l.length=0
 .exact .inl h0
 .obtain⟨g,cap,e,_⟩:=h.form oM;simp only[Value.slice.injEq]at e;obtain⟨rfl,-,-⟩:=e;refine .inr ⟨g,0,rfl,fun j hj=>?_⟩;rw[Nat.zero_add,h.cellAt j oM];simp[Jx,BO,hj]
theorem Hk:(prog.info? 53).map (fun i=>(i.zero,i.size,i.bytes))=some (some (.int .u32 0),1,4):=kR
def JN(w:World)(v:Value)(L:List (List Int)):Prop:=∃p c,v=.slice p L.length c/\∀i (hi:i<L.length),∃b o q d,p=some ⟨b,o,none⟩/\w.cell? ⟨b,o+i,none⟩=some (.slice q (L[i]).length d)/\AP w q (L[i]).length (fun j=>.int .u32 (BO L[i] j))
theorem JN.below{w w':World}{v:Value}{L:List (List Int)}(h:JN w v L)(k:Below w.heap.size w w'):JN w' v L:=by
 obtain⟨p,c,e,h⟩:=h;refine⟨p,c,e,fun i hi=>?_⟩;obtain⟨b,o,q,d,e1,e2,e3⟩:=h i hi;exact⟨b,o,q,d,e1,kc k e2,e3.below k⟩
theorem Fe.vc{T:Nat->Prop}{w:World}{v:Value}{L:List (List Int)}(h:Fe T w v L):JN w v L:=h.cellsOf
theorem Kc:∀ {l:List Bd} {m:List Nat},m.length≠l.length->Bq l m=false
 |[],[],h=>absurd rfl h
 |[],_::_,_=>rfl
 |_::_,[],_=>rfl
 |p::l,n::m,h=>by
  have:Bq l m=false:=Kc SL;simp[Bq,this]
theorem Kb:∀ {l:List Bd} {m:List Nat} {k:Nat} (h1:k<l.length) (h2:k<m.length),((m[k]:Nat):Int)≠Cn l[k]->Bq l m=false
 |[],m,k,h,_,_=>by simp at h
 |p::l,[],k,_,h,_=>by simp at h
 |p::l,n::m,0,_,_,hne=>by
  have:decide ((n:Int)=Cn p)=false:=by simpa using hne
  simp[Bq,this]
 |p::l,n::m,k+1,h1,h2,hne=>by
  have:Bq l m=false:=Kb (k:=k) (by simpa using h1) (by simpa using h2) (by simpa using hne);simp[Bq,this]
theorem IF:∀ {l:List Bd} {m:List Nat},m.length=l.length->(∀k (h1:k<l.length) (h2:k<m.length),((m[k]:Nat):Int)=Cn l[k])->Bq l m=true
 |[],[],_,_=>rfl
 |[],_::_,h,_=>by simp at h
 |_::_,[],h,_=>by simp at h
 |p::l,n::m,h,ha=>by
  have h0:((n:Nat):Int)=Cn p:=ha 0 sM sM;have:Bq l m=true:=IF SL fun k h1 h2=>by
   have:=ha (k+1) sO sO;simpa using this
  simp[Bq,h0,this]
theorem Ds(v0:Value)(l:List Bd)(hl:l.length<=64)(hM:∀p∈l,p.name.size<=140737488351232)(gv:Value)(L:List (List Int))(hL:L.length<=140737488351232)(hLL:∀x∈L,x.length<=140737488351232)(w:World)(hr:Bj 3 Bh w v0 l)(hg:JN w gv L):
 Calls prog 17 #[v0,gv] w fun e w'=>e=.returned (.bool (Bq l (L.map (·.length))))/\Below w.heap.size w w':=by
 obtain⟨p0,q0,rfl,-⟩:=id hr;obtain⟨pg,qg,rfl,hcell⟩:=hg;have HR:Hid (Bj 3 Bh w (.slice p0 l.length q0) l):=hr;have HCELL:Hid (∀i (hi:i<L.length),∃b o q d,pg=some ⟨b,o,none⟩/\w.cell? ⟨b,o+i,none⟩=some (.slice q (L[i]).length d)/\AP w q (L[i]).length (fun j=>.int .u32 (BO L[i] j))):=hcell;have HNM:Hid (∀p∈l,p.name.size<=140737488351232):=hM;have HLL:Hid (∀x∈L,x.length<=140737488351232):=hLL;by_cases hne:L.length=l.length
 .obtain⟨RES,hRES⟩:∃X,Bq l (L.map (·.length))=X:=⟨_,rfl⟩
  rw[hRES];have HRES:Hid (Bq l (L.map (·.length))=RES):=hRES;have HNE:Hid (L.length=l.length):=hne;obtain⟨N,hN⟩:=gA (l.length)
  have HN:Hid (l.length=N):=hN;rw[hne];rw[hN]at hl HR |-;clear hr hcell hM hLL hRES hne hN hL;go_enter func17,ntmps17;go_wp2
  go_loopw [5] (fun iv wr=>Below w.heap.size w wr/\∃j:Nat,j<=N/\iv=.int .i64 (j:Int)/\Hid (∀k (h1:k<l.length) (h2:k<L.length),k<j->((L[k].length:Nat):Int)=Cn l[k])) (fun iv _=>N-(intOf iv).toNat)
  case atStart=>exact⟨BE _,0,gI _,rfl,fun k _ _ h=>absurd h (Nat.not_lt_zero _)⟩
  case round=>
   obtain⟨hb,j,hj,rfl,hall⟩:=hrel;by_cases hlt:j<N
   .have hll:j<l.length:=by rw[HN.out];exact hlt
    have hLl:j<L.length:=by rw[HNE.out];exact hll
    obtain⟨lb,lo,rfl,hx⟩:=HR.at hll;obtain⟨gb,go,gq,gd,rfl,hgc,-⟩:=HCELL.out j hLl;have KN:=FM l[j] (HNM.out _ (gD hll));have hlen:=HLL.out _ (gD hLl);have NX:Hid (((L[j].length:Nat):Int)=Cn l[j]->∀k (h1:k<l.length) (h2:k<L.length),k<j+1->((L[k].length:Nat):Int)=Cn l[k]):=fun h k h1 h2 h3=>by
     by_cases e:k=j
     .subst e;exact h
     .exact hall.out k h1 h2 oM
    have NB:Hid (((L[j].length:Nat):Int)≠Cn l[j]->false=RES):=fun h=>by
     rw[<-HRES.out];exact(Kb (k:=j) hll (by simp;exact hLl) SL).symm
    obtain⟨U,hU⟩:=gA (Cn l[j])
    obtain⟨V,hV⟩:=gA (L[j].length)
    rw[hU]at KN NX NB;rw[hV]at hgc hlen NX NB;obtain⟨⟨nm,K9,L9⟩,hT⟩:∃T:Bd,l[j]=T:=⟨_,rfl⟩
    rw[hT]at hx KN;unfold pv at KN;simp only at KN;have HK:Hid (∀v,Calls prog 34 #[.agg #[.string nm,.int .i64 K9,.int .i64 L9]] v fun e w'=>e=.returned (.int .i64 U)/\Below v.heap.size v w'):=KN;have y0:wr.cell? ⟨lb,lo+j*3,none⟩=some (.string nm):=kc hb (hx.at 0 rfl);have y1:wr.cell? ⟨lb,lo+j*3+1,none⟩=some (.int .i64 K9):=kc hb (hx.at 1 rfl);have y2:wr.cell? ⟨lb,lo+j*3+2,none⟩=some (.int .i64 L9):=kc hb (hx.at 2 rfl);have y3:=kc hb hgc;have HB:Hid (Below w.heap.size w wr):=hb;have i1:(0:Int)<=(j:Int):=oM;have i2:(j:Int)<(N:Int):=oM;clear KN hx hgc hall hT hU hV hb;by_cases hX:((V:Nat):Int)=U
    .have hb1:((V:Int) != U)=false:=by simpa using hX
     have HNX:=NX.out hX;have HNX2:Hid _:=HNX;clear hX HNX NX NB;go_wp2;refine rG (fun v=>v.cell? ⟨gb,go+j,none⟩=some (.slice gq V gd)/\v.cell? ⟨lb,lo+j*3,none⟩=some (.string nm)/\v.cell? ⟨lb,lo+j*3+1,none⟩=some (.int .i64 K9)/\v.cell? ⟨lb,lo+j*3+2,none⟩=some (.int .i64 L9)) fun hJ=>?_;refine Tf 0 1 2 3 4 5 ?_;refine Tc 6 7 8 ?_;clear hJ;refine AC 9 fun K hK=>?_;go_simp;(go_at_call 34;(with_reducible refine(HK.out _).mono ?_);rintro e w2 ⟨rfl,hb2⟩;have HB2:Hid (Below wr.heap.size wr w2):=bel (A4 _) hb2;clear hb2;have x0:=kc HB2.out y0;have x1:=kc HB2.out y1;have x2:=kc HB2.out y2;have x3:=kc HB2.out y3);try(go_wp2_with fail)
     refine AB hK fun hJ=>?_;clear hK K;refine Bm 10 ?_;refine wpAnyH_done kR ?_ _;go_wp2;go_roundw
     case rel=>exact⟨bel HB.out HB2.out,j+1,oM,gN,HNX2.out⟩
     case measure=>simp[intOf];omega
    .have hb1:((V:Int) != U)=true:=by simpa using hX
     have HQ:=NB.out hX;have HQF:Hid (false=RES):=HQ;clear hX HQ NX NB;go_wp2;refine rG (fun v=>v.cell? ⟨gb,go+j,none⟩=some (.slice gq V gd)/\v.cell? ⟨lb,lo+j*3,none⟩=some (.string nm)/\v.cell? ⟨lb,lo+j*3+1,none⟩=some (.int .i64 K9)/\v.cell? ⟨lb,lo+j*3+2,none⟩=some (.int .i64 L9)) fun hJ=>?_;refine Tf 0 1 2 3 4 5 ?_;refine Tc 6 7 8 ?_;clear hJ;refine AC 9 fun K hK=>?_;go_simp;(go_at_call 34;(with_reducible refine(HK.out _).mono ?_);rintro e w2 ⟨rfl,hb2⟩;have HB2:Hid (Below wr.heap.size wr w2):=bel (A4 _) hb2;clear hb2;have x0:=kc HB2.out y0;have x1:=kc HB2.out y1;have x2:=kc HB2.out y2;have x3:=kc HB2.out y3);try(go_wp2_with fail)
     refine AB hK fun hJ=>?_;clear hK K;refine Bm 10 ?_;refine wpAnyH_done kR ?_ _;go_wp2;go_ret;exact⟨A6 HQF.out,bel HB.out HB2.out⟩
   have HQT:Hid (true=RES):=by
    show _=_;rw[<-HRES.out];refine(IF (by rw[List.length_map];exact HNE.out) fun k h1 h2=>?_).symm;rw[List.length_map]at h2;have h5:=hall.out k h1 h2 (by have:=HN.out;omega);simpa using h5
   have e1:¬ (j:Int)<(N:Int):=oM;clear hall hlt;go_wp2;go_ret;exact⟨A6 HQT.out,hb⟩
 .rw[Kc (by rw[List.length_map];exact hne)];obtain⟨N,hN⟩:=gA (l.length)
  obtain⟨M,hM'⟩:∃N,L.length=N:=⟨_,rfl⟩
  rw[hN]at hne hl |-;rw[hM']at hne hL |-;have hb1:(((M:Nat):Int)==((N:Nat):Int))=false:=by have:((M:Nat):Int)≠(N:Int):=oM;simpa using this
  have hb2:(((M:Nat):Int) != ((N:Nat):Int))=true:=by have:((M:Nat):Int)≠(N:Int):=oM;simpa using this
  clear hr hcell hM hLL hN hM';go_enter func17,ntmps17;go_wp2;go_ret;exact⟨rfl,BE _⟩
theorem VQ:prog.underlying 67=some (.slice (prog.elem 67)):=kR
theorem Tg:prog.elem 67=58:=kR
theorem Uy(w:World):(sizeOf (prog.elem 67)).run prog w=.ok 1 w:=by rw[Tg];exact Tryz.sizeOf58 w
def Cj(a b c:List Int)(m:Nat):List (List Int):=[a,b,c].take m
def PQ(W:Nat)(R:List Int):List Int:=if R.length=1 then List.replicate W (A9 (R.headD 0))else R
theorem Vd(op:Int)(m:Nat)(hm:BI op=m)(h0:m≠0)(xa xb xc:Cl)(n:Nat)(hs:Dh (lF (Cj xa.h.pats xb.h.pats xc.h.pats m)) (m-1)=some n)
 (pa:∀y∈xa.h.pats,Ar y) (pb:∀y∈xb.h.pats,Ar y) (pc:∀y∈xc.h.pats,Ar y) (la:xa.h.pats.length<=4096) (lb:xb.h.pats.length<=4096) (lc:xc.h.pats.length<=4096) (g:Nat) (w:World)
 (g0:w.cell? ⟨g,0,none⟩=some (.slice xa.p xa.h.pats.length xa.q)) (g1:w.cell? ⟨g,1,none⟩=some (.slice xb.p xb.h.pats.length xb.q)) (g2:w.cell? ⟨g,2,none⟩=some (.slice xc.p xc.h.pats.length xc.q))
 (na:Bp w xa.p xa.h.pats) (nb:Bp w xb.p xb.h.pats) (nc:Bp w xc.p xc.h.pats):
 Calls prog 64 #[.int .i64 op,.slice (some ⟨g,0,none⟩) m 3] w fun e w'=>∃q cap,e=.returned (.tuple #[.slice q n cap,.int .i64 0])/\Bp w' q (C5 op (Cj xa.h.pats xb.h.pats xc.h.pats m))/\(C5 op (Cj xa.h.pats xb.h.pats xc.h.pats m)).length=n/\(∀y∈C5 op (Cj xa.h.pats xb.h.pats xc.h.pats m),Ar y)/\Below w.heap.size w w'/\∀b o s,q=some ⟨b,o,s⟩->w.heap.size<=b:=by
 have hm3:m<=3:=by rw[<-hm];exact Ie op
 have hal:(Cj xa.h.pats xb.h.pats xc.h.pats m).length=m:=by unfold Cj;rw[List.length_take];simp;omega
 have hv:∀i,i<m->Dv (Cj xa.h.pats xb.h.pats xc.h.pats m) i=if i=0 then xa.h.pats else if i=1 then xb.h.pats else xc.h.pats:=fun i hi=>by
  unfold Dv Cj;rw[List.getElem?_take,if_pos hi];have:i=0\/i=1\/i=2:=oM;rcases this with rfl|rfl|rfl<;>rfl
 have hvs:∀i,Dv (Cj xa.h.pats xb.h.pats xc.h.pats m) i=[]\/Dv (Cj xa.h.pats xb.h.pats xc.h.pats m) i=xa.h.pats\/Dv (Cj xa.h.pats xb.h.pats xc.h.pats m) i=xb.h.pats\/Dv (Cj xa.h.pats xb.h.pats xc.h.pats m) i=xc.h.pats:=fun i=>by
  by_cases hi:i<m
  .rw[hv i hi];split
   .exact .inr (.inl rfl)
   .split
    .exact .inr (.inr (.inl rfl))
    .exact .inr (.inr (.inr rfl))
  .left;unfold Dv Cj;rw[List.getElem?_take,if_neg hi];rfl
 have hP:∀i j,Ar (xF (Cj xa.h.pats xb.h.pats xc.h.pats m) i j):=fun i j=>by
  unfold xF;refine BQ ?_ j;rcases hvs i with e|e|e|e<;>rw[e]
  .intro y hy;cases hy
  .exact pa
  .exact pb
  .exact pc
 have hl:∀i,lF (Cj xa.h.pats xb.h.pats xc.h.pats m) i<=1048576:=fun i=>by
  unfold lF;rcases hvs i with e|e|e|e<;>rw[e]<;>first|(show(0:Nat)<=_;omega)|omega
 have hL:LF .i64 w (some ⟨g,0,none⟩) m (fun i=>if i=0 then xa.p else if i=1 then xb.p else xc.p) (lF (Cj xa.h.pats xb.h.pats xc.h.pats m)) (fun i=>if i=0 then xa.q else if i=1 then xb.q else xc.q) (xF (Cj xa.h.pats xb.h.pats xc.h.pats m)):=by
  refine⟨.inr ⟨g,0,rfl,fun i hi=>?_⟩,fun i hi=>?_⟩
  .have:i=0\/i=1\/i=2:=oM;simp only[lF];rw[hv i hi,Nat.zero_add];rcases this with rfl|rfl|rfl
   .exact g0
   .exact g1
   .exact g2
  .have:i=0\/i=1\/i=2:=oM;simp only[lF,xF];rw[hv i hi];rcases this with rfl|rfl|rfl
   .exact na
   .exact nb
   .exact nc
 have hs':Dh (lF (Cj xa.h.pats xb.h.pats xc.h.pats m)) ((Cj xa.h.pats xb.h.pats xc.h.pats m).length-1)=some n:=by rw[hal];exact hs
 obtain⟨a1,a2⟩:=N9 (op:=op) hs';refine(P2 op oM g 0 m 3 hm n _ _ _ _ hP hl hs w hL).mono ?_;rintro e w' ⟨q,cap,rfl,hr,hb,hlo⟩;have a3:∀y∈C5 op (Cj xa.h.pats xb.h.pats xc.h.pats m),Ar y:=fun y hy=>by
  obtain⟨j,hj,rfl⟩:=List.mem_iff_getElem.1 hy;have h9:=a2 j oM;have h8:BO (C5 op (Cj xa.h.pats xb.h.pats xc.h.pats m)) j=(C5 op (Cj xa.h.pats xb.h.pats xc.h.pats m))[j]:=by simp[BO,hj]
  rw[<-h8,h9];exact Nn _ _ _ _ (By hP _ _ _) (By hP _ _ _) (By hP _ _ _)
 refine⟨q,cap,rfl,?_,a1,a3,hb,hlo⟩;unfold Bp;rw[a1];refine hr.congr fun j hj=>?_;rw[a2 j hj,hal]
def Qj(j:Nat):Value:=if j=0 then .slice none 0 0 else .int .i64 0
theorem Ti:∀i,i<(#[.slice none 0 0,.int .i64 0]:Array Value).size->(#[.slice none 0 0,.int .i64 0]:Array Value)[i]? =some (Qj i):=by
 intro i hi;have hi':i<2:=hi;obtain rfl|rfl:i=0\/i=1:=oM
 all_goals rfl
theorem Vt{v:World}{R:Nat}(h:v.rowIs R 60 2 Qj){q:Option Addr}{l:List Int}(hn:Bp v q l)(h2:2<=l.length):∀b o,q=some ⟨b,o,none⟩->b≠R:=by
 intro b o e hb;rcases hn with h0|⟨b',o',e',hc⟩
 .omega
 .rw[e]at e';simp only[Option.some.injEq,Addr.mk.injEq,true_and,and_true]at e';obtain⟨rfl,rfl⟩:b=b'/\o=o':=by first|exact e'|exact⟨e'.1,e'.2⟩
  subst hb;by_cases ho:o=0
  .have h3:=hc 0 oM;rw[ho]at h3;have h4:=h.cell (i:=0) dE;rw[Nat.add_zero]at h3;rw[h3]at h4;simp[Qj]at h4
  .have h3:=hc 1 oM;obtain⟨c,hb,hs,-⟩:=h;have h5:v.cell? ⟨b,o+1,none⟩=none:=by
    unfold World.cell?;simp only[hb];exact Array.getElem?_eq_none oM
   rw[h5]at h3;cases h3
structure Ly(w:World)(v0 v1 v2 v3 ru:Value)(op D A B C tk tp:Int)(rb oa ob oc:Nat)(ua ub uc:Value)(v:World):Prop where
 bel:Below w.heap.size w v
 a0:v.cell? ⟨w.heap.size,0,none⟩=some v0
 a1:v.cell? ⟨w.heap.size,1,none⟩=some v1
 a2:v.cell? ⟨w.heap.size,2,none⟩=some v2
 a3:v.cell? ⟨w.heap.size,3,none⟩=some v3
 a4:v.cell? ⟨w.heap.size,4,none⟩=some ru
 i0:v.cell? ⟨w.heap.size+1,0,none⟩=some (.int .i64 op)
 i1:v.cell? ⟨w.heap.size+1,1,none⟩=some (.int .i64 D)
 i2:v.cell? ⟨w.heap.size+1,2,none⟩=some (.int .i64 A)
 i3:v.cell? ⟨w.heap.size+1,3,none⟩=some (.int .i64 B)
 i4:v.cell? ⟨w.heap.size+1,4,none⟩=some (.int .i64 C)
 r0:v.cell? ⟨w.heap.size+1+1,0,none⟩=some (.slice none 0 0)
 r1:v.cell? ⟨w.heap.size+1+1,1,none⟩=some (.int .i64 0)
 rr:v.rowIs (w.heap.size+1+1) 60 2 Qj
 f0:v.frozen? ⟨w.heap.size+1+1,0,none⟩=false
 f1:v.frozen? ⟨w.heap.size+1+1,1,none⟩=false
 t0:v.cell? ⟨w.heap.size+1+1+1,0,none⟩=some (.int .i64 tk)
 t1:v.cell? ⟨w.heap.size+1+1+1,1,none⟩=some (.int .i64 tp)
 x0:v.cell? ⟨rb,oa,none⟩=some ua
 x1:v.cell? ⟨rb,ob,none⟩=some ub
 x2:v.cell? ⟨rb,oc,none⟩=some uc
theorem Ly.next{w:World}{v0 v1 v2 v3 ru:Value}{op D A B C tk tp:Int}{rb oa ob oc:Nat}{ua ub uc:Value}{v v':World}(h:Ly w v0 v1 v2 v3 ru op D A B C tk tp rb oa ob oc ua ub uc v)(k:Below v.heap.size v v'):Ly w v0 v1 v2 v3 ru op D A B C tk tp rb oa ob oc ua ub uc v':=
 ⟨Go.Proofs.YtheanilpbnencaaGreat.bel h.bel k,kc k h.a0,kc k h.a1,kc k h.a2,kc k h.a3,kc k h.a4,kc k h.i0,kc k h.i1,kc k h.i2,kc k h.i3,kc k h.i4,kc k h.r0,kc k h.r1,h.rr.of_block (k.block _ h.rr.lt),kf k h.r0 h.f0,kf k h.r1 h.f1,kc k h.t0,kc k h.t1,kc k h.x0,kc k h.x1,kc k h.x2⟩
theorem D6(a:Int):A9 (A9 a)=A9 a:=by
 by_cases h:nan a=true
 .have e:A9 a=2143289344:=by unfold A9;rw[if_pos h]
  rw[e];decide
 .have e:A9 a=a:=by unfold A9;rw[if_neg h]
  rw[e,e]
theorem He(b:Bool):A9 (M9 b)=M9 b:=by cases b<;>decide
theorem FH{o:Option Nat}(h:∀r,o=some r->rg r<=2139095040):A9 (Ny o)=Ny o:=by
 cases o with
 |none=>decide
 |some r=>exact Ix (h r rfl)
theorem Kq{a b:Int}(ha:0<=a)(hb:0<=b){o:Ordering}(h:U6 a b=some o):A9 a=a/\A9 b=b:=by
 rw[Hv a b ha hb]at h;split at h
 .cases h
 .rename_i hn;have h1:¬nan a=true:=fun e=>hn (.inl e);have h2:¬nan b=true:=fun e=>hn (.inr e);unfold A9;rw[if_neg h1,if_neg h2];exact⟨rfl,rfl⟩
theorem Qp(a b:Int)(ha:0<=a)(hb:0<=b):A9 (GL a b)=GL a b:=by
 unfold GL;cases e:U6 a b with
 |none=>show A9 2143289344=2143289344;decide
 |some o=>
  obtain⟨h1,h2⟩:=Kq ha hb e;cases o
  .exact h1
  .simp only;split
   .exact h1
   .exact h2
  .exact h2
theorem Qn(a b:Int)(ha:0<=a)(hb:0<=b):A9 (Hg a b)=Hg a b:=by
 unfold Hg;cases e:U6 a b with
 |none=>show A9 2143289344=2143289344;decide
 |some o=>
  obtain⟨h1,h2⟩:=Kq ha hb e;cases o
  .exact h2
  .simp only;split
   .exact h2
   .exact h1
  .exact h1
theorem BH{p:Prop}[Decidable p]{x y:Int}(h:A9 x=x)(k:A9 y=y):A9 (if p then x else y)=if p then x else y:=by
 split
 .exact h
 .exact k
theorem TZ(op a b c:Int)(ha:Ar a)(hb:Ar b):A9 (Hu op a b c)=Hu op a b c:=by
 unfold Hu;refine BH (D6 a) (BH (FH fun _ h=>(Li h).1) (BH (D6 _) (BH (D6 _) (BH (He _) (BH (FH fun _ h=>(N7 h).1) (BH (FH fun _ h=>(Oa h).1) (BH (FH fun _ h=>(Ns h).1) (BH (FH fun _ h=>(Nd h).1) (BH (Qp a b ha.1 hb.1) (BH (Qn a b ha.1 hb.1) (BH (He _) ?_)))))))))));unfold Jj;exact BH (D6 _) (D6 _)
theorem SR{op:Int}{args:List (List Int)}(h:∀l∈args,∀y∈l,Ar y):∀y∈C5 op args,A9 y=y:=by
 have hX:∀i j,Ar (xF args i j):=fun i j=>by
  exact YS
 intro y hy;unfold C5 at hy;split at hy
 .simp only[List.mem_map]at hy;obtain⟨k,_,rfl⟩:=hy;exact TZ _ _ _ _ (By hX _ _ _) (By hX _ _ _)
 .cases hy
theorem Wn{c:Cd}{f:Fr}{i:Am}(hg:Good c)(ok:Ij c f)(he:As i.op=true)(nd:Cz c f i)(hk:(A7 c.regs i.d).kind≠2):
 PQ (if(A7 c.regs i.d).kind=3 then lenOf c (A7 c.regs i.d).par else 1) (C5 i.op (Bb c f i))=(if(C5 i.op (Bb c f i)).length<AO c (A7 c.regs i.d)then Ef c (A7 c.regs i.d) ((C5 i.op (Bb c f i)).headD 0)else C5 i.op (Bb c f i))/\(if(A7 c.regs i.d).kind=3 then lenOf c (A7 c.regs i.d).par else 1)=AO c (A7 c.regs i.d):=by
 obtain⟨h1,h2,h3⟩:=ES hg ok he nd hk;obtain⟨s1,s2⟩:=DP hg ok he nd hk;have hcan:=SR (op:=i.op) (args:=Bb c f i) (fun l hl=>by
  unfold Bb at hl;simp only[List.mem_map]at hl;obtain⟨r,hr,rfl⟩:=hl
  exact(h2 r hr).2.2.2)
 have hw:(if(A7 c.regs i.d).kind=3 then lenOf c (A7 c.regs i.d).par else 1)=AO c (A7 c.regs i.d):=by
  unfold AO;rcases h3 with e|e
  .rw[if_neg oM,if_neg oM,if_pos e]
  .rw[if_pos e,if_pos e]
 refine⟨?_,hw⟩;rw[hw];unfold Ef;generalize C5 i.op (Bb c f i)=R at *;generalize AO c (A7 c.regs i.d)=W at *;unfold PQ;by_cases e:R.length=1
 .rw[if_pos e];obtain⟨x,rfl⟩:=List.length_eq_one_iff.1 e;have hx:A9 x=x:=hcan x sM;by_cases e2:W=1
  .subst e2;rw[if_neg sM];show [A9 x]=[x];rw[hx]
  .rw[if_pos sO]
 .rw[if_neg e,if_neg oM]
def Cg(c:Cd)(G P:List (List Int))(f:Fr)(i:Am):Hd:=CP c (DF c G P f i) i.d
section
variable {c : Cd} {G P : List (List Int)} {f : Fr} {i : Am}
theorem G1(nd:Cz c f i)(h:Eg i.op=true):Cg c G P f i=⟨[QF f i],0⟩:=by
 unfold Cg CP;rw[DG h,if_pos (nd.num h).2.2.2.2];simp only[Ct]
theorem Gm(nd:Cz c f i)(h:Bn i.op=true):Cg c G P f i=⟨[],Fx f i⟩:=by
 have hk:=(nd.whole h).2.2.2.2.2.1;unfold Cg CP;rw[CA h,if_neg oM,if_pos hk];simp only[Ct]
theorem VR(nd:Cz c f i)(h:i.op=29):Cg c G P f i=⟨Bz c G i,0⟩:=by
 have hk:=(nd.part (.inl h)).kind;unfold Cg CP;rw[Ep h,if_neg oM,if_neg oM];simp only[Ct]
theorem VS(nd:Cz c f i)(h:i.op=30):Cg c G P f i=⟨Bz c P i,0⟩:=by
 have hk:=(nd.part (.inr h)).kind;unfold Cg CP;rw[Er h,if_neg oM,if_neg oM];simp only[Ct]
theorem UV{r:Int}{h:Hd}(ho:LD c (A7 c.regs r) h)(hz:(A7 c.regs r).kind≠2->h.whole=0):CP c (MR c f r h) r=h:=by
 obtain⟨pats,whole⟩:=h;simp only at hz;have hl:pats.length=AO c (A7 c.regs r):=ho.1;unfold AO at hl;unfold CP MR;by_cases h1:(A7 c.regs r).kind=1
 .rw[if_neg oM,if_pos h1]at hl;rw[if_pos h1,if_pos h1];obtain⟨x,rfl⟩:=List.length_eq_one_iff.1 hl;simp only[Ct,List.headD_cons];rw[hz oM]
 .by_cases h2:(A7 c.regs r).kind=2
  .rw[if_neg oM,if_neg oM]at hl;rw[if_neg h1,if_pos h2,if_neg h1,if_pos h2];simp only[Ct];rw[List.length_eq_zero_iff.1 hl]
  .rw[if_neg h1,if_neg h2,if_neg h1,if_neg h2];simp only[Ct];rw[hz h2]
theorem VT(ok:Ij c f)(nd:Cz c f i)(h:i.op=32)(hz:∀j (h:j<c.slots.length),c.slots[j].ty.kind≠2->((f.slots[j]?).getD ⟨[],0⟩).whole=0):Cg c G P f i=(f.slots[i.n.toNat]?).getD ⟨[],0⟩:=by
 obtain⟨d0,d1,n0,n1,ht⟩:=nd.load h;have hn:i.n.toNat<c.slots.length:=oM;have hn2:i.n.toNat<f.slots.length:=by rw[ok.slotsL];exact hn
 have hh:=ok.slots i.n.toNat hn hn2;have e:BZ c.slots i.n=c.slots[i.n.toNat].ty:=by unfold BZ;rw[gB hn];rfl
 unfold Cg;rw[Et h];refine UV ?_ fun h2=>hz _ hn (by rw[<-e,ht];exact h2);rw[gB hn2,Option.getD_some,<-ht,e];exact hh
theorem PG(h:As i.op=true)(hk:(A7 c.regs i.d).kind=2):Cg c G P f i=⟨[],f.whs i.a.toNat⟩:=by
 unfold Cg CP;rw[Ck h];unfold Gv;rw[if_pos hk,if_neg oM,if_pos hk];simp only[Ct]
theorem Sq(hg:Good c)(ok:Ij c f)(nd:Cz c f i)(h:As i.op=true)(hk:(A7 c.regs i.d).kind≠2):Cg c G P f i=⟨PQ (if(A7 c.regs i.d).kind=3 then lenOf c (A7 c.regs i.d).par else 1) (C5 i.op (Bb c f i)),0⟩:=by
 obtain⟨e1,e2⟩:=Wn hg ok h nd hk;obtain⟨s1,s2⟩:=DP hg ok h nd hk;rw[e1];unfold Cg;rw[Ck h];unfold Gv;rw[if_neg hk];refine UV ⟨?_,fun y hy=>?_,Int.le_refl _,by show(0:Int)<=2147483647;decide⟩ fun _=>rfl
 .simp only;split
  .unfold Ef;rw[List.length_replicate]
  .rename_i hn;have h1:=(ES hg ok h nd hk).1;omega
 .simp only at hy;split at hy
  .unfold Ef at hy;rw[List.eq_of_mem_replicate hy];exact Cm _ (Hm s2)
  .exact s2 y hy
theorem Jz(hk:An i.op=true)(r:Nat)(h:(A5 i.op).d≠0->r≠i.d.toNat):CP c (DF c G P f i) (r:Int)=CP c f (r:Int):=by
 have hst:∀x:Hd,(A5 i.op).d≠0->CP c (MR c f i.d x) (r:Int)=CP c f (r:Int):=fun x hd=>by
  have hr:=h hd;unfold MR;split
  .unfold CP;simp only[Int.toNat_natCast,Cv _ _ hr]
  .split
   .unfold CP;simp only[Int.toNat_natCast,Cv _ _ hr]
   .unfold CP;simp only[Int.toNat_natCast,Cv _ _ hr]
 rcases EG hk with e|e|e|e|e|e|e|e|e
 .have hr:=h (by unfold Eg at e;simp only[Bool.or_eq_true,beq_iff_eq]at e;have:i.op=1\/i.op=16\/i.op=17\/i.op=19\/i.op=20:=oM;rcases this with q|q|q|q|q<;>rw[q]<;>decide);rw[DG e];unfold CP;simp only[Int.toNat_natCast,Cv _ _ hr]
 .have hr:=h (by unfold Bn at e;simp only[Bool.or_eq_true,Bool.and_eq_true,beq_iff_eq,decide_eq_true_eq]at e;have:i.op=2\/i.op=18\/i.op=21\/i.op=22\/i.op=23\/i.op=24\/i.op=25\/i.op=26\/i.op=27\/i.op=28:=oM;rcases this with q|q|q|q|q|q|q|q|q|q<;>rw[q]<;>decide);rw[CA e];unfold CP;simp only[Int.toNat_natCast,Cv _ _ hr]
 .have hr:=h (by rw[e];decide);rw[Ep e];unfold CP;simp only[Int.toNat_natCast,Cv _ _ hr]
 .have hr:=h (by rw[e];decide);rw[Er e];unfold CP;simp only[Int.toNat_natCast,Cv _ _ hr]
 .rw[Es e];rfl
 .rw[Et e];exact hst _ (by rw[e];decide)
 .rw[Eu e];rfl
 .rw[Bx e]
 .have hd:(A5 i.op).d≠0:=by
   unfold As at e;simp only[Bool.and_eq_true,decide_eq_true_eq]at e;have:i.op=3\/i.op=4\/i.op=5\/i.op=6\/i.op=7\/i.op=8\/i.op=9\/i.op=10\/i.op=11\/i.op=12\/i.op=13\/i.op=14\/i.op=15:=oM;rcases this with q|q|q|q|q|q|q|q|q|q|q|q|q<;>rw[q]<;>decide
  rw[Ck e];unfold Gv;split
  .unfold CP;simp only[Int.toNat_natCast,Cv _ _ (h hd)]
  .exact hst _ hd
end
structure LH(c:Cd)(f:Fr)(X S O:List Cl):Prop where
 xl:X.length=c.regs.length
 xok:∀x∈X,(∀y∈x.h.pats,Ar y)/\x.h.pats.length<=4096/\0<=x.h.whole/\x.h.whole<=2147483647
 sl:S.map (·.h)=f.slots
 sz:∀j (h:j<c.slots.length),c.slots[j].ty.kind≠2->((f.slots[j]?).getD ⟨[],0⟩).whole=0
 ol:O.length=2*c.sign.length
 oo:∀p n:Nat,p<c.sign.length->n<Ax c (p:Int)->∃o,O[2*p+n]? =some o/\o.h.pats.length=lenOf c (p:Int)/\(∀y∈o.h.pats,Ar y)/\∀e,e<lenOf c (p:Int)->BO o.h.pats e=f.outs p (Ax c (p:Int)*e+n)
def N0(c:Cd)(f:Fr)(X:List Cl)(r:Nat):Prop:=∃x,X[r]? =some x/\x.h=CP c f (r:Int)
def VV(c:Cd)(G P:List (List Int))(f:Fr)(i:Am)(X S O X' S' O':List Cl):Prop:=
 ((A5 i.op).d≠0/\(∃x,X'=X.set i.d.toNat x/\x.h=Cg c G P f i)/\S'=S/\O'=O)
 \/(i.op=33/\X'=X/\(∃x,X[i.a.toNat]? =some x/\S'=S.set i.n.toNat x)/\O'=O)
 \/(i.op=31/\X'=X/\S'=S/\∃x,X[i.a.toNat]? =some x/\O'=O.set (2*(A7 c.regs i.a).par.toNat+i.n.toNat) x)
 \/((34<=i.op/\i.op<=37)/\X'=X/\S'=S/\O'=O)
theorem MF{op:Int}(hk:An op=true):(A5 op).d≠0↔op≠31/\op≠33/\¬ (34<=op/\op<=37):=by
 unfold An at hk;simp only[Bool.and_eq_true,decide_eq_true_eq]at hk;have:op∈(List.range 38).map (fun n:Nat=>(n:Int)):=by
  rw[List.mem_map];exact⟨op.toNat,by rw[List.mem_range];omega,oM⟩
 have h0:op≠0:=oM;revert h0;revert op;intro op hk;simp only[List.range,List.range.loop,List.map_cons,List.map_nil,List.mem_cons,List.not_mem_nil,or_false];intro h h0;rcases h with h|h|h|h|h|h|h|h|h|h|h|h|h|h|h|h|h|h|h|h|h|h|h|h|h|h|h|h|h|h|h|h|h|h|h|h|h|h<;>(rw[h]at h0 |-;revert h0;decide)
theorem E7{c:Cd}{G P:List (List Int)}{f:Fr}{i:Am}(hk:An i.op=true):(i.op≠33->(DF c G P f i).slots=f.slots)/\(i.op≠31->(DF c G P f i).outs=f.outs):=by
 have hst:∀r h,(MR c f r h).slots=f.slots/\(MR c f r h).outs=f.outs:=fun r h=>by
  unfold MR;split
  .exact⟨rfl,rfl⟩
  .split
   .exact⟨rfl,rfl⟩
   .exact⟨rfl,rfl⟩
 rcases EG hk with e|e|e|e|e|e|e|e|e
 .rw[DG e];exact⟨fun _=>rfl,fun _=>rfl⟩
 .rw[CA e];exact⟨fun _=>rfl,fun _=>rfl⟩
 .rw[Ep e];exact⟨fun _=>rfl,fun _=>rfl⟩
 .rw[Er e];exact⟨fun _=>rfl,fun _=>rfl⟩
 .exact⟨fun _=>by rw[Es e],fun h=>absurd e h⟩
 .rw[Et e];exact⟨fun _=>(hst _ _).1,fun _=>(hst _ _).2⟩
 .exact⟨fun h=>absurd e h,fun _=>by rw[Eu e]⟩
 .rw[Bx e];exact⟨fun _=>rfl,fun _=>rfl⟩
 .rw[Ck e];unfold Gv;split
  .exact⟨fun _=>rfl,fun _=>rfl⟩
  .exact⟨fun _=>(hst _ _).1,fun _=>(hst _ _).2⟩
theorem It(c:Cd)(hg:Good c)(v0 v1 v2 v3 ru su ou gu pu ct:Value)(X:List Cl)(hX:X.length=c.regs.length)(op nn bt:Int)(kd ka kb kk:Nat)(hd:kd<c.regs.length)(ha:ka<X.length)(hb:kb<X.length)(hc:kk<X.length)(h2:c.regs[kd].kind≠2)(ht:c.regs[kd].kind=3->Ab c.regs[kd].par c.sign.length=true)
 (m:Nat) (hm:BI op=m) (h0:m≠0) (n:Nat) (hs:Dh (lF (Cj X[ka].h.pats X[kb].h.pats X[kk].h.pats m)) (m-1)=some n) (hn1:1<=n) (hn:n<=4096)
 (hP:∀x∈X,∀y∈x.h.pats,Ar y) (hL:∀x∈X,x.h.pats.length<=4096) (w:World) (hv:Cy w v0 v1 v2 v3 c) (hcs:SC w ru X):
 Calls prog 36 #[.agg #[v0,v1,v2,v3,ru,su,ou,gu,pu,ct],.agg #[.int .i64 op,.int .i64 (kd:Int),.int .i64 (ka:Int),.int .i64 (kb:Int),.int .i64 (kk:Int),.int .i64 nn,.int .u32 bt]] w fun e w'=>
  ∃p q,e=.returned (.agg #[.slice p (PQ (if c.regs[kd].kind=3 then lenOf c c.regs[kd].par else 1) (C5 op (Cj X[ka].h.pats X[kb].h.pats X[kk].h.pats m))).length q,.int .i64 0])/\Bp w' p (PQ (if c.regs[kd].kind=3 then lenOf c c.regs[kd].par else 1) (C5 op (Cj X[ka].h.pats X[kb].h.pats X[kk].h.pats m)))/\Below w.heap.size w w'/\∀b o s,p=some ⟨b,o,s⟩->w.heap.size<=b:=by
 have KW:=DX v0 v1 v2 v3 c hg c.regs[kd] ht;have hwid:(if c.regs[kd].kind=3 then lenOf c c.regs[kd].par else 1)<=4096:=by split;exact hg.lenOf _;omega
 obtain⟨p1,q1,rfl,-⟩:=id hv.regs;obtain⟨lb,lo,rfl,hreg⟩:=hv.regs.at hd;obtain⟨pr,qr,rfl,-⟩:=id hcs.row;obtain⟨rb,ro,rfl,hca⟩:=hcs.row.at ha;obtain⟨rb2,ro2,e2,hcb⟩:=hcs.row.at hb;obtain⟨rb3,ro3,e3,hcc⟩:=hcs.row.at hc;simp only[Option.some.injEq,Addr.mk.injEq,and_true]at e2 e3;obtain⟨rfl,rfl⟩:=e2;obtain⟨rfl,rfl⟩:=e3;have KA:=Vd op m hm h0 X[ka] X[kb] X[kk] n hs (hP _ (gD ha)) (hP _ (gD hb)) (hP _ (gD hc)) (hL _ (gD ha)) (hL _ (gD hb)) (hL _ (gD hc));have na:=hcs.nums _ (gD ha);have nb:=hcs.nums _ (gD hb);have nc:=hcs.nums _ (gD hc);obtain⟨xa,hxa⟩:∃x,X[ka]=x:=⟨_,rfl⟩
 obtain⟨xb,hxb⟩:∃x,X[kb]=x:=⟨_,rfl⟩
 obtain⟨xc,hxc⟩:∃x,X[kk]=x:=⟨_,rfl⟩
 rw[hxa]at hca na;rw[hxb]at hcb nb;rw[hxc]at hcc nc;rw[hxa,hxb,hxc]at KA |-;obtain⟨RR,hRR⟩:∃R,C5 op (Cj xa.h.pats xb.h.pats xc.h.pats m)=R:=⟨_,rfl⟩
 rw[hRR]at KA |-;obtain⟨⟨tk,tp⟩,hT⟩:∃t:Ty,c.regs[kd]=t:=⟨_,rfl⟩
 rw[hT]at hreg h2 KW hwid |-;unfold DB at KW;simp only at h2 KW hwid |-;obtain⟨Wd,hWd⟩:∃W,(if tk=3 then lenOf c tp else 1)=W:=⟨_,rfl⟩
 have hWi:(if tk=3 then(lenOf c tp:Int)else 1)=(Wd:Int):=by rw[<-hWd];split<;>rfl
 rw[hWi]at KW;rw[hWd]at hwid |-;obtain⟨n1,hn1'⟩:∃n,c.regs.length=n:=⟨_,rfl⟩
 rw[hX]at ha hb hc |-;rw[hn1']at hd ha hb hc KW |-;have hregsL:=hg.regsL;rw[hn1']at hregsL;obtain⟨LA,hLA⟩:∃l,xa.h.pats.length=l:=⟨_,rfl⟩
 obtain⟨LB,hLB⟩:∃l,xb.h.pats.length=l:=⟨_,rfl⟩
 obtain⟨LC,hLC⟩:∃l,xc.h.pats.length=l:=⟨_,rfl⟩
 have y0:w.cell? ⟨rb,ro+ka*2,none⟩=some (.slice xa.p LA xa.q):=by rw[<-hLA];exact hca.at 0 rfl
 have y1:w.cell? ⟨rb,ro+kb*2,none⟩=some (.slice xb.p LB xb.q):=by rw[<-hLB];exact hcb.at 0 rfl
 have y2:w.cell? ⟨rb,ro+kk*2,none⟩=some (.slice xc.p LC xc.q):=by rw[<-hLC];exact hcc.at 0 rfl
 rw[hLA,hLB,hLC]at KA;have z0:w.cell? ⟨lb,lo+kd*2,none⟩=some (.int .i64 tk):=hreg.at 0 rfl;have z1:w.cell? ⟨lb,lo+kd*2+1,none⟩=some (.int .i64 tp):=hreg.at 1 rfl;have hba:Below w.heap.size w (((w.alloc (.cells #[v0,.slice (some ⟨lb,lo,none⟩) n1 q1,v2,v3,.slice (some ⟨rb,ro,none⟩) n1 qr,su,ou,gu,pu,ct] 69)).alloc (.cells #[.int .i64 op,.int .i64 (kd:Int),.int .i64 (ka:Int),.int .i64 (kb:Int),.int .i64 (kk:Int),.int .i64 nn,.int .u32 bt] 55)).alloc (.cells #[.slice none 0 0,.int .i64 0] 60)):=bel (A0 _ _) (bel (A0 _ _) (A0 _ _));have b1:(((w.alloc (.cells #[v0,.slice (some ⟨lb,lo,none⟩) n1 q1,v2,v3,.slice (some ⟨rb,ro,none⟩) n1 qr,su,ou,gu,pu,ct] 69)).alloc (.cells #[.int .i64 op,.int .i64 (kd:Int),.int .i64 (ka:Int),.int .i64 (kb:Int),.int .i64 (kk:Int),.int .i64 nn,.int .u32 bt] 55)).alloc (.cells #[.slice none 0 0,.int .i64 0] 60)).cell? ⟨w.heap.size,1,none⟩=some (.slice (some ⟨lb,lo,none⟩) n1 q1):=kc (A0 _ _) (kc (A0 _ _) sG);have b2:(((w.alloc (.cells #[v0,.slice (some ⟨lb,lo,none⟩) n1 q1,v2,v3,.slice (some ⟨rb,ro,none⟩) n1 qr,su,ou,gu,pu,ct] 69)).alloc (.cells #[.int .i64 op,.int .i64 (kd:Int),.int .i64 (ka:Int),.int .i64 (kb:Int),.int .i64 (kk:Int),.int .i64 nn,.int .u32 bt] 55)).alloc (.cells #[.slice none 0 0,.int .i64 0] 60)).cell? ⟨w.heap.size+1,1,none⟩=some (.int .i64 (kd:Int)):=kc (A0 _ _) sG;have b3:=kc hba z0;have b4:=kc hba z1;have HE:Hid (Ly w v0 (.slice (some ⟨lb,lo,none⟩) n1 q1) v2 v3 (.slice (some ⟨rb,ro,none⟩) n1 qr) op (kd:Int) (ka:Int) (kb:Int) (kk:Int) tk tp rb (ro+ka*2) (ro+kb*2) (ro+kk*2) (.slice xa.p LA xa.q) (.slice xb.p LB xb.q) (.slice xc.p LC xc.q) ((((w.alloc (.cells #[v0,.slice (some ⟨lb,lo,none⟩) n1 q1,v2,v3,.slice (some ⟨rb,ro,none⟩) n1 qr,su,ou,gu,pu,ct] 69)).alloc (.cells #[.int .i64 op,.int .i64 (kd:Int),.int .i64 (ka:Int),.int .i64 (kb:Int),.int .i64 (kk:Int),.int .i64 nn,.int .u32 bt] 55)).alloc (.cells #[.slice none 0 0,.int .i64 0] 60)).alloc (.cells #[.int .i64 tk,.int .i64 tp] 63))):=by
  have k4:=A0 (((w.alloc (.cells #[v0,.slice (some ⟨lb,lo,none⟩) n1 q1,v2,v3,.slice (some ⟨rb,ro,none⟩) n1 qr,su,ou,gu,pu,ct] 69)).alloc (.cells #[.int .i64 op,.int .i64 (kd:Int),.int .i64 (ka:Int),.int .i64 (kb:Int),.int .i64 (kk:Int),.int .i64 nn,.int .u32 bt] 55)).alloc (.cells #[.slice none 0 0,.int .i64 0] 60)) (.cells #[.int .i64 tk,.int .i64 tp] 63);have k3:=A0 ((w.alloc (.cells #[v0,.slice (some ⟨lb,lo,none⟩) n1 q1,v2,v3,.slice (some ⟨rb,ro,none⟩) n1 qr,su,ou,gu,pu,ct] 69)).alloc (.cells #[.int .i64 op,.int .i64 (kd:Int),.int .i64 (ka:Int),.int .i64 (kb:Int),.int .i64 (kk:Int),.int .i64 nn,.int .u32 bt] 55)) (.cells #[.slice none 0 0,.int .i64 0] 60);have k2:=A0 (w.alloc (.cells #[v0,.slice (some ⟨lb,lo,none⟩) n1 q1,v2,v3,.slice (some ⟨rb,ro,none⟩) n1 qr,su,ou,gu,pu,ct] 69)) (.cells #[.int .i64 op,.int .i64 (kd:Int),.int .i64 (ka:Int),.int .i64 (kb:Int),.int .i64 (kk:Int),.int .i64 nn,.int .u32 bt] 55);have hrr:=World.rowIs_alloc ((w.alloc (.cells #[v0,.slice (some ⟨lb,lo,none⟩) n1 q1,v2,v3,.slice (some ⟨rb,ro,none⟩) n1 qr,su,ou,gu,pu,ct] 69)).alloc (.cells #[.int .i64 op,.int .i64 (kd:Int),.int .i64 (ka:Int),.int .i64 (kb:Int),.int .i64 (kk:Int),.int .i64 nn,.int .u32 bt] 55)) #[.slice none 0 0,.int .i64 0] 60 Qj Ti;rw[show((w.alloc (.cells #[v0,.slice (some ⟨lb,lo,none⟩) n1 q1,v2,v3,.slice (some ⟨rb,ro,none⟩) n1 qr,su,ou,gu,pu,ct] 69)).alloc (.cells #[.int .i64 op,.int .i64 (kd:Int),.int .i64 (ka:Int),.int .i64 (kb:Int),.int .i64 (kk:Int),.int .i64 nn,.int .u32 bt] 55)).heap.size=w.heap.size+1+1 by simp]at hrr;refine⟨bel hba k4,kc k4 (kc k3 (kc k2 ?_)),kc k4 (kc k3 (kc k2 ?_)),kc k4 (kc k3 (kc k2 ?_)),kc k4 (kc k3 (kc k2 ?_)),kc k4 (kc k3 (kc k2 ?_)),kc k4 (kc k3 ?_),kc k4 (kc k3 ?_),kc k4 (kc k3 ?_),kc k4 (kc k3 ?_),kc k4 (kc k3 ?_),kc k4 ?_,kc k4 ?_,hrr.alloc _,kf k4 (by simp[go_sem]:(((w.alloc (.cells #[v0,.slice (some ⟨lb,lo,none⟩) n1 q1,v2,v3,.slice (some ⟨rb,ro,none⟩) n1 qr,su,ou,gu,pu,ct] 69)).alloc (.cells #[.int .i64 op,.int .i64 (kd:Int),.int .i64 (ka:Int),.int .i64 (kb:Int),.int .i64 (kk:Int),.int .i64 nn,.int .u32 bt] 55)).alloc (.cells #[.slice none 0 0,.int .i64 0] 60)).cell? ⟨w.heap.size+1+1,0,none⟩=some (.slice none 0 0)) sG,kf k4 (by simp[go_sem]:(((w.alloc (.cells #[v0,.slice (some ⟨lb,lo,none⟩) n1 q1,v2,v3,.slice (some ⟨rb,ro,none⟩) n1 qr,su,ou,gu,pu,ct] 69)).alloc (.cells #[.int .i64 op,.int .i64 (kd:Int),.int .i64 (ka:Int),.int .i64 (kb:Int),.int .i64 (kk:Int),.int .i64 nn,.int .u32 bt] 55)).alloc (.cells #[.slice none 0 0,.int .i64 0] 60)).cell? ⟨w.heap.size+1+1,1,none⟩=some (.int .i64 0)) sG,?_,?_,kc (bel hba k4) y0,kc (bel hba k4) y1,kc (bel hba k4) y2⟩
  all_goals simp[go_sem]
 obtain⟨-,a0,a1,a2,a3,a4,i0,i1,i2,i3,i4,r0,r1,-,f0,f1,t0,t1,x0,x1,x2⟩:=HE.out;have d1:(0:Int)<=(kd:Int):=oM;have d2:(kd:Int)<(n1:Int):=oM;have d3:(ka:Int)<(n1:Int):=oM;have d4:(kb:Int)<(n1:Int):=oM;have d5:(kk:Int)<(n1:Int):=oM;have h2b:(tk==2)=false:=by simpa using h2
 have HKW:Hid (∀v,Below w.heap.size w v->Calls prog 33 #[.agg #[v0,.slice (some ⟨lb,lo,none⟩) n1 q1,v2,v3],.agg #[.int .i64 tk,.int .i64 tp]] v fun e w'=>e=.returned (.int .i64 (Wd:Int))/\Below v.heap.size v w'):=fun v hb=>KW v (by have h9:=hv.below hb;rw[hn1']at h9;exact h9);have HKA:Hid _:=KA;have HNA:Hid (Bp w xa.p xa.h.pats/\Bp w xb.p xb.h.pats/\Bp w xc.p xc.h.pats):=⟨na,nb,nc⟩
 have HLN:Hid (xa.h.pats.length=LA/\xb.h.pats.length=LB/\xc.h.pats.length=LC):=⟨hLA,hLB,hLC⟩
 have HTK:Hid (∀v,Calls prog 65 #[.int .i64 op] v fun e w'=>e=.returned (.int .i64 (m:Int))/\w'=v):=fun v=>by rw[<-hm];exact I3 op v
 have hm3:m<=3:=by rw[<-hm];exact Ie op
 clear KW KA hreg hca hcb hcc hcs hv hg hP hL hT hX h2 ht hs hm hRR hxa hxb hxc hWd hWi na nb nc hLA hLB hLC hn1' y0 y1 y2 z0 z1;go_enter func36,ntmps36;go_wp2;refine rG (fun v=>v.cell? ⟨w.heap.size,4,none⟩=some (.slice (some ⟨rb,ro,none⟩) n1 qr)/\v.cell? ⟨w.heap.size+1,2,none⟩=some (.int .i64 (ka:Int))/\v.cell? ⟨w.heap.size+1,3,none⟩=some (.int .i64 (kb:Int))/\v.cell? ⟨w.heap.size+1,4,none⟩=some (.int .i64 (kk:Int))/\v.cell? ⟨rb,ro+ka*2,none⟩=some (.slice xa.p LA xa.q)/\v.cell? ⟨rb,ro+kb*2,none⟩=some (.slice xb.p LB xb.q)/\v.cell? ⟨rb,ro+kk*2,none⟩=some (.slice xc.p LC xc.q)) fun hJ=>?_;refine Tf 0 1 2 3 4 5 ?_;refine Tf 6 7 8 9 10 11 ?_;refine Tf 12 13 14 15 16 17 ?_;refine Tc 18 19 20 ?_;clear hJ;refine AC 21 fun K hK=>?_;go_simp;refine AB hK fun hJ=>?_;clear hK K;refine Bm 22 ?_;refine wpAnyH_done kR ?_ _;have HE2:Hid (Ly w v0 (.slice (some ⟨lb,lo,none⟩) n1 q1) v2 v3 (.slice (some ⟨rb,ro,none⟩) n1 qr) op (kd:Int) (ka:Int) (kb:Int) (kk:Int) tk tp rb (ro+ka*2) (ro+kb*2) (ro+kk*2) (.slice xa.p LA xa.q) (.slice xb.p LB xb.q) (.slice xc.p LC xc.q) ((((((w.alloc (.cells #[v0,.slice (some ⟨lb,lo,none⟩) n1 q1,v2,v3,.slice (some ⟨rb,ro,none⟩) n1 qr,su,ou,gu,pu,ct] 69)).alloc (.cells #[.int .i64 op,.int .i64 (kd:Int),.int .i64 (ka:Int),.int .i64 (kb:Int),.int .i64 (kk:Int),.int .i64 nn,.int .u32 bt] 55)).alloc (.cells #[.slice none 0 0,.int .i64 0] 60)).alloc (.cells #[.int .i64 tk,.int .i64 tp] 63)).alloc (.cells #[.slice xa.p LA xa.q,.slice xb.p LB xb.q,.slice xc.p LC xc.q] 58)).drew)):=(HE.next (A0 _ _)).next (A4 _);have HG:Hid (((((((w.alloc (.cells #[v0,.slice (some ⟨lb,lo,none⟩) n1 q1,v2,v3,.slice (some ⟨rb,ro,none⟩) n1 qr,su,ou,gu,pu,ct] 69)).alloc (.cells #[.int .i64 op,.int .i64 (kd:Int),.int .i64 (ka:Int),.int .i64 (kb:Int),.int .i64 (kk:Int),.int .i64 nn,.int .u32 bt] 55)).alloc (.cells #[.slice none 0 0,.int .i64 0] 60)).alloc (.cells #[.int .i64 tk,.int .i64 tp] 63)).alloc (.cells #[.slice xa.p LA xa.q,.slice xb.p LB xb.q,.slice xc.p LC xc.q] 58)).drew).cell? ⟨w.heap.size+1+1+1+1,0,none⟩=some (.slice xa.p LA xa.q)/\((((((w.alloc (.cells #[v0,.slice (some ⟨lb,lo,none⟩) n1 q1,v2,v3,.slice (some ⟨rb,ro,none⟩) n1 qr,su,ou,gu,pu,ct] 69)).alloc (.cells #[.int .i64 op,.int .i64 (kd:Int),.int .i64 (ka:Int),.int .i64 (kb:Int),.int .i64 (kk:Int),.int .i64 nn,.int .u32 bt] 55)).alloc (.cells #[.slice none 0 0,.int .i64 0] 60)).alloc (.cells #[.int .i64 tk,.int .i64 tp] 63)).alloc (.cells #[.slice xa.p LA xa.q,.slice xb.p LB xb.q,.slice xc.p LC xc.q] 58)).drew).cell? ⟨w.heap.size+1+1+1+1,1,none⟩=some (.slice xb.p LB xb.q)/\((((((w.alloc (.cells #[v0,.slice (some ⟨lb,lo,none⟩) n1 q1,v2,v3,.slice (some ⟨rb,ro,none⟩) n1 qr,su,ou,gu,pu,ct] 69)).alloc (.cells #[.int .i64 op,.int .i64 (kd:Int),.int .i64 (ka:Int),.int .i64 (kb:Int),.int .i64 (kk:Int),.int .i64 nn,.int .u32 bt] 55)).alloc (.cells #[.slice none 0 0,.int .i64 0] 60)).alloc (.cells #[.int .i64 tk,.int .i64 tp] 63)).alloc (.cells #[.slice xa.p LA xa.q,.slice xb.p LB xb.q,.slice xc.p LC xc.q] 58)).drew).cell? ⟨w.heap.size+1+1+1+1,2,none⟩=some (.slice xc.p LC xc.q)):=⟨sG,sG,sG⟩
 obtain⟨W2,hW2⟩:∃W,(((((w.alloc (.cells #[v0,.slice (some ⟨lb,lo,none⟩) n1 q1,v2,v3,.slice (some ⟨rb,ro,none⟩) n1 qr,su,ou,gu,pu,ct] 69)).alloc (.cells #[.int .i64 op,.int .i64 (kd:Int),.int .i64 (ka:Int),.int .i64 (kb:Int),.int .i64 (kk:Int),.int .i64 nn,.int .u32 bt] 55)).alloc (.cells #[.slice none 0 0,.int .i64 0] 60)).alloc (.cells #[.int .i64 tk,.int .i64 tp] 63)).alloc (.cells #[.slice xa.p LA xa.q,.slice xb.p LB xb.q,.slice xc.p LC xc.q] 58)).drew=W:=⟨_,rfl⟩
 rw[hW2]at HE2 HG;rw[hW2];clear a0 a1 a2 a3 a4 i0 i1 i2 i3 i4 r0 r1 f0 f1 t0 t1 x0 x1 x2;clear hW2 HE b1 b2 b3 b4 hba;obtain⟨-,a0,a1,a2,a3,a4,i0,i1,i2,i3,i4,r0,r1,-,f0,f1,t0,t1,x0,x1,x2⟩:=HE2.out;have HGD:Hid (W2.drew.cell? ⟨w.heap.size+1+1+1+1,0,none⟩=some (.slice xa.p LA xa.q)/\W2.drew.cell? ⟨w.heap.size+1+1+1+1,1,none⟩=some (.slice xb.p LB xb.q)/\W2.drew.cell? ⟨w.heap.size+1+1+1+1,2,none⟩=some (.slice xc.p LC xc.q)):=HG.out;have s1:=fun w9=>DJ VQ Uy (some ⟨w.heap.size+1+1+1+1,0,none⟩) 3 3 m oM w9;go_wp2;refine rG (fun v=>v.cell? ⟨w.heap.size+1,0,none⟩=some (.int .i64 op)) fun hJ=>?_;refine Tc 0 1 2 ?_;refine Tb 3 4 ?_;clear hJ;refine AC 5 fun K hK=>?_;go_simp;(go_at_call 65;(with_reducible refine(HTK.out _).mono ?_);rintro e w3 ⟨rfl,rfl⟩);try(go_wp2_with fail)
 refine AB hK fun hJ=>?_;clear hK K;refine Bm 6 ?_;clear hJ;refine AC 7 fun K hK=>?_;go_simp;(go_at_call 64;(with_reducible refine(HKA.out (w.heap.size+1+1+1+1) W2.drew HGD.out.1 HGD.out.2.1 HGD.out.2.2 (HNA.out.1.below (bel HE2.out.bel (A4 _))) (HNA.out.2.1.below (bel HE2.out.bel (A4 _))) (HNA.out.2.2.below (bel HE2.out.bel (A4 _)))).mono ?_);rintro e w4 ⟨ql,cl,rfl,hnl,hln,hRP,hb4,hlo4⟩;have HLO4:Hid (∀b o s,ql=some ⟨b,o,s⟩->W2.drew.heap.size<=b):=hlo4;have HNL:Hid (Bp w4 ql RR):=hnl;have HLR:Hid (RR.length=n):=hln;have HRP:Hid (∀y∈RR,Ar y):=hRP;have HE4:Hid (Ly w v0 (.slice (some ⟨lb,lo,none⟩) n1 q1) v2 v3 (.slice (some ⟨rb,ro,none⟩) n1 qr) op (kd:Int) (ka:Int) (kb:Int) (kk:Int) tk tp rb (ro+ka*2) (ro+kb*2) (ro+kk*2) (.slice xa.p LA xa.q) (.slice xb.p LB xb.q) (.slice xc.p LC xc.q) w4):=HE2.out.next (bel (A4 _) hb4);clear hnl hln hRP hb4 hlo4 a0 a1 a2 a3 a4 i0 i1 i2 i3 i4 r0 r1 f0 f1 t0 t1 x0 x1 x2;obtain⟨-,a0,a1,a2,a3,a4,i0,i1,i2,i3,i4,r0,r1,-,f0,f1,t0,t1,x0,x1,x2⟩:=HE4.out);try(go_wp2_with fail)
 refine AB hK fun hJ=>?_;clear hK K;refine Tc 8 9 10 ?_;refine Tb 11 12 ?_;refine wpAnyH_done kR ?_ _;by_cases h1:n=1
 .have h1b:((n:Int)==1)=true:=by simp[h1]
  have hrl:RR.length=1:=by rw[HLR.out];exact h1
  have he:PQ Wd RR=List.replicate Wd (A9 (BO RR 0)):=by
   unfold PQ;rw[if_pos hrl];cases hR9:RR with
   |nil=>rw[hR9]at hrl;simp at hrl
   |cons a r=>rfl
  have HEL:Hid (PQ Wd RR=List.replicate Wd (A9 (BO RR 0))):=he;have hx9:∃bq oq,ql=some ⟨bq,oq,none⟩/\w4.cell? ⟨bq,oq,none⟩=some (.int .i64 (BO RR 0)):=by
   rcases HNL.out with e|⟨bq,oq,e,hc9⟩
   .omega
   .exact⟨bq,oq,e,hc9 0 oM⟩
  obtain⟨bq,oq,rfl,hl0⟩:=hx9;have hPz:Ar (BO RR 0):=BQ HRP.out 0;have KF:=Ge Wd (BO RR 0) hPz oM;obtain⟨z9,hz9⟩:∃z,BO RR 0=z:=⟨_,rfl⟩
  rw[hz9]at hl0 KF;have HZ9:Hid (BO RR 0=z9):=hz9;have HKF:Hid (∀v,Calls prog 18 #[.int .i64 (Wd:Int),.int .i64 z9] v fun e w'=>∃q cap,e=.returned (.tuple #[.slice q Wd cap,.int .i64 0])/\AP w' q Wd (fun i=>.int .i64 (A9 z9))/\Below v.heap.size v w'/\∀b o s,q=some ⟨b,o,s⟩->v.heap.size<=b):=KF;have hn0:(0:Int)<(n:Int):=oM;clear he hrl KF hz9 hPz;go_wp2;refine rG (fun v=>v.cell? ⟨w.heap.size,0,none⟩=some v0/\v.cell? ⟨w.heap.size,1,none⟩=some (.slice (some ⟨lb,lo,none⟩) n1 q1)/\v.cell? ⟨w.heap.size,2,none⟩=some v2/\v.cell? ⟨w.heap.size,3,none⟩=some v3/\v.cell? ⟨w.heap.size+1+1+1,0,none⟩=some (.int .i64 tk)/\v.cell? ⟨w.heap.size+1+1+1,1,none⟩=some (.int .i64 tp)/\v.cell? ⟨bq,oq,none⟩=some (.int .i64 z9)) fun hJ=>?_;refine Tf 0 1 2 4 5 6 ?_;clear hJ;refine AC 3 fun K hK=>?_;go_simp;(go_at_call 33;(with_reducible refine(HKW.out _ (bel HE4.out.bel (A4 _))).mono ?_);rintro e w5 ⟨rfl,hb5⟩;have HB5:Hid (Below w4.heap.size w4 w5):=bel (A4 _) hb5;clear hb5 a0 a1 a2 a3 a4 i0 i1 i2 i3 i4 r0 r1 f0 f1 t0 t1 x0 x1 x2;obtain⟨-,a0,a1,a2,a3,a4,i0,i1,i2,i3,i4,r0,r1,-,f0,f1,t0,t1,x0,x1,x2⟩:=HE4.out.next HB5.out;have hl5:=kc HB5.out hl0);try(go_wp2_with fail)
  refine AB hK fun hJ=>?_;clear hK K;clear hJ;refine AC 7 fun K hK=>?_;go_simp;(go_at_call 18;(with_reducible refine(HKF.out _).mono ?_);rintro e w6 ⟨pf,qf,rfl,hrf,hb6,hfr⟩;have HE6:Hid (Ly w v0 (.slice (some ⟨lb,lo,none⟩) n1 q1) v2 v3 (.slice (some ⟨rb,ro,none⟩) n1 qr) op (kd:Int) (ka:Int) (kb:Int) (kk:Int) tk tp rb (ro+ka*2) (ro+kb*2) (ro+kk*2) (.slice xa.p LA xa.q) (.slice xb.p LB xb.q) (.slice xc.p LC xc.q) w6):=(HE4.out.next HB5.out).next hb6;have HRF:Hid (AP w6 pf Wd (fun i=>.int .i64 (A9 z9))):=hrf;have HFR:Hid (∀b o s,pf=some ⟨b,o,s⟩->w5.heap.size<=b):=hfr;have HS5:Hid (w.heap.size+1+1<w5.heap.size):=A3 r0;have hl6:=kc hb6 hl5;clear hb6 hrf hfr a0 a1 a2 a3 a4 i0 i1 i2 i3 i4 r0 r1 f0 f1 t0 t1 x0 x1 x2;obtain⟨-,a0,a1,a2,a3,a4,i0,i1,i2,i3,i4,r0,r1,-,f0,f1,t0,t1,x0,x1,x2⟩:=HE6.out);try(go_wp2_with fail)
  refine AB hK fun hJ=>?_;clear hK K;refine Tc 8 9 10 ?_;refine Bm 11 ?_;refine wpAnyH_done kR ?_ _;go_wp2;refine bodyPost_ret XQ rfl ?_;have hbF:Below w.heap.size w ((w6.setCell ⟨w.heap.size+1+1,0,none⟩ (.slice pf Wd qf)).setCell ⟨w.heap.size+1+1,1,none⟩ (.int .i64 0)):=(HE6.bel.setCell V9 _).setCell V9 _;rw[HEL.out,HZ9.out];refine⟨pf,qf,by rw[List.length_replicate],?_,hbF,fun b o s e=>by have h3:=HFR.out b o s e;have h4:=HS5.out;omega⟩;show AP _ _ _ _;rw[List.length_replicate];rcases HRF.out with h9|⟨b,o,rfl,h8⟩
  .exact .inl h9
  .refine .inr ⟨b,o,rfl,fun j hj=>?_⟩;have hne:b≠w.heap.size+1+1:=by have h3:=HFR.out b o none rfl;have h4:=HS5.out;omega
   rw[gC (gE hne),gC (gE hne),h8 j hj];simp only;rw[GO _ _ hj]
 .have h1b:((n:Int)==1)=false:=by have:(n:Int)≠1:=oM;simpa using this
  have HEL:Hid (PQ Wd RR=RR):=by show _=_;unfold PQ;rw[if_neg (by rw[HLR.out];exact h1)]
  have HH1:Hid (n≠1):=h1;clear h1;go_wp2;refine bodyPost_ret XQ rfl ?_;have hbF:Below w.heap.size w ((w4.setCell ⟨w.heap.size+1+1,0,none⟩ (.slice ql n cl)).setCell ⟨w.heap.size+1+1,1,none⟩ (.int .i64 0)):=(HE4.bel.setCell V9 _).setCell V9 _;rw[HEL.out,HLR.out];refine⟨ql,cl,rfl,?_,hbF,fun b o s e=>by have h3:=HLO4.out b o s e;have h4:=HE2.bel.size;have h5:W2.drew.heap.size=W2.heap.size:=rfl;omega⟩;have h2l:2<=RR.length:=by rw[HLR.out];have:=HH1.out;omega
  have hne9:=Vt HE4.rr HNL.out h2l;rcases HNL.out with h9|⟨b,o,rfl,h8⟩
  .exact .inl h9
  .refine .inr ⟨b,o,rfl,fun j hj=>?_⟩;have hne:b≠w.heap.size+1+1:=hne9 b o rfl;rw[gC (gE hne),gC (gE hne),h8 j hj]
def AJ(T:Nat->Prop)(w:World)(p:Option Addr)(l:List Int):Prop:=l=[]\/∃b o,p=some ⟨b,o,none⟩/\¬T b/\b<w.heap.size/\∀j,j<l.length->w.cell? ⟨b,o+j,none⟩=some (.int .i64 (BO l j))
section
variable {T U : Nat -> Prop} {w w' : World} {p : Option Addr} {l : List Int}
theorem AJ.num(h:AJ T w p l):Bp w p l:=by
 rcases h with rfl|⟨b,o,e,-,-,h⟩
 .exact .inl rfl
 .exact .inr ⟨b,o,e,h⟩
theorem AJ.un(h:AJ T w p l)(q:Un U w w')(hu:∀b,b<w.heap.size->U b->T b):AJ T w' p l:=
 h.imp id fun⟨b,o,e,ht,hb,h⟩=>⟨b,o,e,ht,Nat.lt_of_lt_of_le hb q.size,fun j hj=>(gC (q.block b hb fun k=>ht (hu b hb k))).trans (h j hj)⟩
theorem AJ.below(h:AJ T w p l)(q:Below w.heap.size w w'):AJ T w' p l:=h.un (U:=fun _=>False) (Un.of q) (fun _ _ e=>e.elim)
theorem AJ.mono(h:AJ T w p l)(hu:∀b,b<w.heap.size->U b->T b):AJ U w p l:=
 h.imp id fun⟨b,o,e,ht,hb,h⟩=>⟨b,o,e,fun k=>ht (hu b hb k),hb,h⟩
theorem Bp.free{B:Nat}(h:Bp w p l)(hl:∀b o s,p=some ⟨b,o,s⟩->B<=b)(ht:∀b,T b->b<B):AJ T w p l:=by
 by_cases h0:l=[]
 .exact .inl h0
 .rcases h with h|⟨b,o,e,h⟩
  .exact absurd (List.length_eq_zero_iff.1 h) h0
  .have:=List.length_pos_iff.2 h0;exact .inr ⟨b,o,e,fun k=>by have h1:=ht b k;have h2:=hl b o none e;omega,A3 (h 0 this),h⟩
end
structure AI(T:Nat->Prop)(w:World)(v:Value)(X:List Cl):Prop where
 row:F6 T 2 Ot w v X
 nums:∀x∈X,AJ T w x.p x.h.pats
structure G5(T:Nat->Prop)(w:World)(v:Value)(X:List Cl):Prop where
 row:F6 T 1 PR w v X
 nums:∀x∈X,AJ T w x.p x.h.pats
section
variable {T U : Nat -> Prop} {w w' : World} {v : Value} {X : List Cl}
theorem AI.cs(h:AI T w v X):SC w v X:=⟨h.row.row,fun x hx=>(h.nums x hx).num⟩
theorem AI.un(h:AI T w v X)(q:Un U w w')(hu:∀b,b<w.heap.size->U b->T b):AI T w' v X:=⟨h.row.un q hu,fun x hx=>(h.nums x hx).un q hu⟩
theorem AI.below(h:AI T w v X)(q:Below w.heap.size w w'):AI T w' v X:=⟨h.row.below q,fun x hx=>(h.nums x hx).below q⟩
theorem AI.mono(h:AI T w v X)(hu:∀b,b<w.heap.size->U b->T b):AI U w v X:=⟨h.row.mono hu,fun x hx=>(h.nums x hx).mono hu⟩
theorem G5.un(h:G5 T w v X)(q:Un U w w')(hu:∀b,b<w.heap.size->U b->T b):G5 T w' v X:=⟨h.row.un q hu,fun x hx=>(h.nums x hx).un q hu⟩
theorem G5.below(h:G5 T w v X)(q:Below w.heap.size w w'):G5 T w' v X:=⟨h.row.below q,fun x hx=>(h.nums x hx).below q⟩
theorem G5.mono(h:G5 T w v X)(hu:∀b,b<w.heap.size->U b->T b):G5 U w v X:=⟨h.row.mono hu,fun x hx=>(h.nums x hx).mono hu⟩
end
theorem FJ{α:Type}{f:α->List Value}{k:Nat}(hf:∀x,(f x).length=k){w:World}{B:Nat}{t:TypeId}{v:Value}{l:List α}(h:w.ownsRow B t k v l.length (AT f l)){T:Nat->Prop}(ht:∀b,T b->b<B):F6 T k f w v l:=by
 have hr:=DU hf h;obtain⟨p,c,rfl,hr⟩:=hr;refine⟨p,c,rfl,hr.imp id fun⟨b,o,e,hc⟩=>⟨b,o,e,fun k=>?_,?_,hc⟩⟩
 .have h1:=Dq h b o none e;have h2:=ht b k;omega
 .subst e;exact(h.lt b rfl).2
theorem IH(x:Cl):∀ (X:List Cl) (d:Nat),d<X.length->((AT Ot X).set (d*2) (.slice x.p x.h.pats.length x.q)).set (d*2+1) (.int .i64 x.h.whole)=AT Ot (X.set d x)
 |[],d,h=>by simp at h
 |y::X,0,h=>rfl
 |y::X,d+1,h=>by
  have ih:=IH x X d SL;have e:AT Ot (y::X)=.slice y.p y.h.pats.length y.q:: .int .i64 y.h.whole::AT Ot X:=rfl;rw[e,show(d+1)*2=d*2+1+1 by omega];simp only[List.set_cons_succ];rw[ih];rfl
theorem VH{T:Nat->Prop}(v:Value)(X:List Cl)(hX:X.length<=16384)(d:Nat)(hd:d<X.length)(x:Cl)(w:World)(hT:∀b,T b->b<w.heap.size)(h:AI T w v X)(hx:AJ T w x.p x.h.pats):
 Calls prog 44 #[v,.int .i64 (d:Int),.agg #[.slice x.p x.h.pats.length x.q,.int .i64 x.h.whole]] w fun e w'=>∃p q,e=.returned (.slice p X.length q)/\AI T w' (.slice p X.length q) (X.set d x)/\Below w.heap.size w w':=by
 obtain⟨i0,hi0,hz0,hz1,hz2⟩:=info_parts G8;have hb0:=A0 w (.cells #[.slice x.p x.h.pats.length x.q,.int .i64 x.h.whole] 60);obtain⟨u,w',hr,hb,hown⟩:=DC dE FA Nb underlying34 hi0 hz0 hz1 hz2 rfl (h.row.row.below hb0) mL oM 34;obtain⟨g,cap,rfl,hg,hgl⟩:=hown.form oM;have hs0:(w.alloc (.cells #[.slice x.p x.h.pats.length x.q,.int .i64 x.h.whole] 60)).heap.size=w.heap.size+1:=sM;have s1:=hown.stored (d*2) (.slice x.p x.h.pats.length x.q);have s2:=s1.1.stored (d*2+1) (.int .i64 x.h.whole);have hfin:=s2.1;rw[IH x X d hd]at hfin;have hfl:(AT Ot X).length=X.length*2:=Ex FA X;have y0:∃z,w'.cell? ⟨g,d*2,none⟩=some z:=by
  refine⟨(AT Ot X)[d*2]'oM,?_⟩;rw[hown.cellAt (d*2) oM,gB]
 have y1:∃z,w'.cell? ⟨g,d*2+1,none⟩=some z:=by
  refine⟨(AT Ot X)[d*2+1]'oM,?_⟩;rw[hown.cellAt (d*2+1) oM,gB]
 have f0:=hown.frozenAt (d*2);have f1:=hown.frozenAt (d*2+1);have c0:w'.cell? ⟨w.heap.size,0,none⟩=some (.slice x.p x.h.pats.length x.q):=kc hb sG;have c1:w'.cell? ⟨w.heap.size,1,none⟩=some (.int .i64 x.h.whole):=kc hb sG;obtain⟨z0,y0⟩:=y0;obtain⟨z1,y1⟩:=y1;have hbF:Below w.heap.size w ((w'.setCell ⟨g,d*2,none⟩ (.slice x.p x.h.pats.length x.q)).setCell ⟨g,d*2+1,none⟩ (.int .i64 x.h.whole)):=((bel hb0 hb).setCell XZ _).setCell XZ _;have HFIN:Hid (AI T ((w'.setCell ⟨g,d*2,none⟩ (.slice x.p x.h.pats.length x.q)).setCell ⟨g,d*2+1,none⟩ (.int .i64 x.h.whole)) (.slice (some ⟨g,0,none⟩) X.length cap) (X.set d x)/\Below w.heap.size w ((w'.setCell ⟨g,d*2,none⟩ (.slice x.p x.h.pats.length x.q)).setCell ⟨g,d*2+1,none⟩ (.int .i64 x.h.whole))):=by
  refine⟨⟨FJ FA (by rw[List.length_set];exact hfin) (fun b hb=>by have:=hT b hb;omega),fun y hy=>?_⟩,hbF⟩;rcases List.mem_or_eq_of_mem_set hy with e|rfl
  .exact(h.nums y e).below hbF
  .exact hx.below hbF
 have HR:Hid _:=hr;obtain⟨p,q,rfl,-⟩:=id h.row;obtain⟨N,hN⟩:=gA (X.length)
 rw[hN]at hd hX HR HFIN |-;have d0:(0:Int)<=(d:Int):=oM;have d1:(d:Int)<(N:Int):=oM;clear hr hb hown s1 s2 hfin hfl hbF h hN hT;go_enter func44,ntmps44;go_wp2_with(at_builtin;refine AH rF _ _ _ rF _ _ _ rF rF HR.out ?_);go_ret;exact⟨_,_,rfl,HFIN.1,HFIN.2⟩
def C6(a b c d e f g h i j:Value)(k:Nat):Value:=if k=0 then a else if k=1 then b else if k=2 then c else if k=3 then d else if k=4 then e else if k=5 then f else if k=6 then g else if k=7 then h else if k=8 then i else j
theorem Je(a b c d e f g h i j:Value):∀k,k<(#[a,b,c,d,e,f,g,h,i,j]:Array Value).size->(#[a,b,c,d,e,f,g,h,i,j]:Array Value)[k]? =some (C6 a b c d e f g h i j k):=by
 intro k hk;have hk':k<10:=hk;obtain rfl|rfl|rfl|rfl|rfl|rfl|rfl|rfl|rfl|rfl:k=0\/k=1\/k=2\/k=3\/k=4\/k=5\/k=6\/k=7\/k=8\/k=9:=oM
 all_goals rfl
def f7(a b c d e f g:Value)(k:Nat):Value:=if k=0 then a else if k=1 then b else if k=2 then c else if k=3 then d else if k=4 then e else if k=5 then f else g
theorem UT(a b c d e f g:Value):∀k,k<(#[a,b,c,d,e,f,g]:Array Value).size->(#[a,b,c,d,e,f,g]:Array Value)[k]? =some (f7 a b c d e f g k):=by
 intro k hk;have hk':k<7:=hk;obtain rfl|rfl|rfl|rfl|rfl|rfl|rfl:k=0\/k=1\/k=2\/k=3\/k=4\/k=5\/k=6:=oM
 all_goals rfl
def f2(a b:Value)(k:Nat):Value:=if k=0 then a else b
theorem Wq(a b:Value):∀k,k<(#[a,b]:Array Value).size->(#[a,b]:Array Value)[k]? =some (f2 a b k):=by
 intro k hk;have hk':k<2:=hk;obtain rfl|rfl:k=0\/k=1:=oM
 all_goals rfl
structure DW(w:World)(F I D:Nat->Value)(v:World):Prop where
 bel:Below w.heap.size w v
 f:v.rowIs w.heap.size 69 10 F
 i:v.rowIs (w.heap.size+1) 55 7 I
 r:v.rowIs (w.heap.size+1+1) 69 10 (C6 (.slice none 0 0) (.slice none 0 0) (.slice none 0 0) (.slice none 0 0) (.slice none 0 0) (.slice none 0 0) (.slice none 0 0) (.slice none 0 0) (.slice none 0 0) (.int .i64 0))
 d:v.rowIs (w.heap.size+1+1+1) 60 2 D
theorem DW.next{w:World}{F I D:Nat->Value}{v v':World}(h:DW w F I D v)(k:Below v.heap.size v v'):DW w F I D v':=
 ⟨Go.Proofs.YtheanilpbnencaaGreat.bel h.bel k,h.f.of_block (k.block _ h.f.lt),h.i.of_block (k.block _ h.i.lt),h.r.of_block (k.block _ h.r.lt),h.d.of_block (k.block _ h.d.lt)⟩
theorem DW.size{w:World}{F I D:Nat->Value}{v:World}(h:DW w F I D v):w.heap.size+1+1+1<v.heap.size:=h.d.lt
theorem DW.put{w:World}{F I D:Nat->Value}{v:World}(h:DW w F I D v)(i:Nat)(x:Value):DW w F I (fun j=>if j=i then x else D j) (v.setCell ⟨w.heap.size+1+1+1,i,none⟩ x):=
 ⟨h.bel.setCell (by show w.heap.size<=w.heap.size+1+1+1;omega) _,h.f.setOther (by show w.heap.size≠w.heap.size+1+1+1;omega) _,h.i.setOther (by show w.heap.size+1≠w.heap.size+1+1+1;omega) _,h.r.setOther (by show w.heap.size+1+1≠w.heap.size+1+1+1;omega) _,h.d.set i x⟩
theorem DW.congr{w:World}{F I D D':Nat->Value}{v:World}(h:DW w F I D v)(k:∀j,j<2->D j=D' j):DW w F I D' v:=⟨h.bel,h.f,h.i,h.r,h.d.congr k⟩
theorem DW.start(w:World)(a0 a1 a2 a3 a4 a5 a6 a7 a8 a9 b0 b1 b2 b3 b4 b5 b6:Value):DW w (C6 a0 a1 a2 a3 a4 a5 a6 a7 a8 a9) (f7 b0 b1 b2 b3 b4 b5 b6) (f2 (.slice none 0 0) (.int .i64 0)) ((((w.alloc (.cells #[a0,a1,a2,a3,a4,a5,a6,a7,a8,a9] 69)).alloc (.cells #[b0,b1,b2,b3,b4,b5,b6] 55)).alloc (.cells #[.slice none 0 0,.slice none 0 0,.slice none 0 0,.slice none 0 0,.slice none 0 0,.slice none 0 0,.slice none 0 0,.slice none 0 0,.slice none 0 0,.int .i64 0] 69)).alloc (.cells #[.slice none 0 0,.int .i64 0] 60)):=by
 have r1:=World.rowIs_alloc w #[a0,a1,a2,a3,a4,a5,a6,a7,a8,a9] 69 _ (Je _ _ _ _ _ _ _ _ _ _);have r2:=World.rowIs_alloc (w.alloc (.cells #[a0,a1,a2,a3,a4,a5,a6,a7,a8,a9] 69)) #[b0,b1,b2,b3,b4,b5,b6] 55 _ (UT _ _ _ _ _ _ _);have r3:=World.rowIs_alloc ((w.alloc (.cells #[a0,a1,a2,a3,a4,a5,a6,a7,a8,a9] 69)).alloc (.cells #[b0,b1,b2,b3,b4,b5,b6] 55)) #[.slice none 0 0,.slice none 0 0,.slice none 0 0,.slice none 0 0,.slice none 0 0,.slice none 0 0,.slice none 0 0,.slice none 0 0,.slice none 0 0,.int .i64 0] 69 _ (Je _ _ _ _ _ _ _ _ _ _);have r4:=World.rowIs_alloc (((w.alloc (.cells #[a0,a1,a2,a3,a4,a5,a6,a7,a8,a9] 69)).alloc (.cells #[b0,b1,b2,b3,b4,b5,b6] 55)).alloc (.cells #[.slice none 0 0,.slice none 0 0,.slice none 0 0,.slice none 0 0,.slice none 0 0,.slice none 0 0,.slice none 0 0,.slice none 0 0,.slice none 0 0,.int .i64 0] 69)) #[.slice none 0 0,.int .i64 0] 60 _ (Wq _ _);simp only[World.size_alloc]at r2 r3 r4;exact⟨Go.Proofs.YtheanilpbnencaaGreat.bel (A0 _ _) (Go.Proofs.YtheanilpbnencaaGreat.bel (A0 _ _) (Go.Proofs.YtheanilpbnencaaGreat.bel (A0 _ _) (A0 _ _))),((r1.alloc _).alloc _).alloc _,(r2.alloc _).alloc _,r3.alloc _,r4⟩
def T2(w:World)(T:Nat->Prop)(b:Nat):Prop:=T b\/(w.heap.size<=b/\b<=w.heap.size+1+1+1)
theorem Ch{w:World}{T:Nat->Prop}(hT:∀b,T b->b<w.heap.size){b:Nat}(h:T2 w T b){v:World}(hv:w.heap.size+1+1+1<v.heap.size):b<v.heap.size:=by
 rcases h with h|h
 .have:=hT b h;omega
 .omega
theorem WQ{T:Nat->Prop}{w v:World}{u:Value}{X:List Cl}(h:AI T w u X)(k:Below w.heap.size w v):AI (T2 w T) v u X:=(h.mono fun b hb e=>e.elim id fun e=>by omega).below k
theorem JK{T:Nat->Prop}{w v:World}{p:Option Addr}{l:List Int}(h:AJ T w p l)(k:Below w.heap.size w v):AJ (T2 w T) v p l:=(h.mono fun b hb e=>e.elim id fun e=>by omega).below k
theorem Bf{T:Nat->Prop}(ru:Value)(X:List Cl){NN:Nat}(hN:X.length=NN)(hX:NN<=16384)(kd:Nat)(hd:kd<NN)(w:World)(hT:∀b,T b->b<w.heap.size)(hcs:AI T w ru X):∀v F I D (x:Cl),DW w F I D v->AJ (T2 w T) v x.p x.h.pats->Calls prog 44 #[ru,.int .i64 (kd:Int),.agg #[.slice x.p x.h.pats.length x.q,.int .i64 x.h.whole]] v fun e w'=>∃p q,e=.returned (.slice p NN q)/\AI (T2 w T) w' (.slice p NN q) (X.set kd x)/\Below v.heap.size v w':=
 fun v F I D x h hx=>by subst hN;exact VH ru X hX kd hd x v (fun b hb=>Ch hT hb h.size) (WQ hcs h.bel) hx
structure DE(w:World)(a0 a1 a2 a3 a4 a5 a6 a7 a8 a9:Value)(v:World):Prop where
 bel:Below w.heap.size w v
 c0:v.cell? ⟨w.heap.size,0,none⟩=some a0
 c1:v.cell? ⟨w.heap.size,1,none⟩=some a1
 c2:v.cell? ⟨w.heap.size,2,none⟩=some a2
 c3:v.cell? ⟨w.heap.size,3,none⟩=some a3
 c4:v.cell? ⟨w.heap.size,4,none⟩=some a4
 c5:v.cell? ⟨w.heap.size,5,none⟩=some a5
 c6:v.cell? ⟨w.heap.size,6,none⟩=some a6
 c7:v.cell? ⟨w.heap.size,7,none⟩=some a7
 c8:v.cell? ⟨w.heap.size,8,none⟩=some a8
 c9:v.cell? ⟨w.heap.size,9,none⟩=some a9
 r0:v.cell? ⟨w.heap.size+1+1,0,none⟩=some (.slice none 0 0)
 r1:v.cell? ⟨w.heap.size+1+1,1,none⟩=some (.slice none 0 0)
 r2:v.cell? ⟨w.heap.size+1+1,2,none⟩=some (.slice none 0 0)
 r3:v.cell? ⟨w.heap.size+1+1,3,none⟩=some (.slice none 0 0)
 r4:v.cell? ⟨w.heap.size+1+1,4,none⟩=some (.slice none 0 0)
 r5:v.cell? ⟨w.heap.size+1+1,5,none⟩=some (.slice none 0 0)
 r6:v.cell? ⟨w.heap.size+1+1,6,none⟩=some (.slice none 0 0)
 r7:v.cell? ⟨w.heap.size+1+1,7,none⟩=some (.slice none 0 0)
 r8:v.cell? ⟨w.heap.size+1+1,8,none⟩=some (.slice none 0 0)
 r9:v.cell? ⟨w.heap.size+1+1,9,none⟩=some (.int .i64 0)
 y0:v.frozen? ⟨w.heap.size+1+1,0,none⟩=false
 y1:v.frozen? ⟨w.heap.size+1+1,1,none⟩=false
 y2:v.frozen? ⟨w.heap.size+1+1,2,none⟩=false
 y3:v.frozen? ⟨w.heap.size+1+1,3,none⟩=false
 y4:v.frozen? ⟨w.heap.size+1+1,4,none⟩=false
 y5:v.frozen? ⟨w.heap.size+1+1,5,none⟩=false
 y6:v.frozen? ⟨w.heap.size+1+1,6,none⟩=false
 y7:v.frozen? ⟨w.heap.size+1+1,7,none⟩=false
 y8:v.frozen? ⟨w.heap.size+1+1,8,none⟩=false
 y9:v.frozen? ⟨w.heap.size+1+1,9,none⟩=false
theorem DE.of{w:World}{a0 a1 a2 a3 a4 a5 a6 a7 a8 a9:Value}{v:World}(b:Below w.heap.size w v)(f:v.rowIs w.heap.size 69 10 (C6 a0 a1 a2 a3 a4 a5 a6 a7 a8 a9))(r:v.rowIs (w.heap.size+1+1) 69 10 (C6 (.slice none 0 0) (.slice none 0 0) (.slice none 0 0) (.slice none 0 0) (.slice none 0 0) (.slice none 0 0) (.slice none 0 0) (.slice none 0 0) (.slice none 0 0) (.int .i64 0))):DE w a0 a1 a2 a3 a4 a5 a6 a7 a8 a9 v:=
 ⟨b,f.cell (i:=0) dE,f.cell (i:=1) dE,f.cell (i:=2) dE,f.cell (i:=3) dE,f.cell (i:=4) dE,f.cell (i:=5) dE,f.cell (i:=6) dE,f.cell (i:=7) dE,f.cell (i:=8) dE,f.cell (i:=9) dE,r.cell (i:=0) dE,r.cell (i:=1) dE,r.cell (i:=2) dE,r.cell (i:=3) dE,r.cell (i:=4) dE,r.cell (i:=5) dE,r.cell (i:=6) dE,r.cell (i:=7) dE,r.cell (i:=8) dE,r.cell (i:=9) dE,r.frozen 0,r.frozen 1,r.frozen 2,r.frozen 3,r.frozen 4,r.frozen 5,r.frozen 6,r.frozen 7,r.frozen 8,r.frozen 9⟩
theorem Av{v:World}{a b:Addr}{x:Value}(h:v.cell? a=some x)(hne:¬a.block=b.block)(u:Value):(v.setCell b u).cell? a=some x:=by
 rw[gC (gE hne)];exact h
theorem Nw{T:Nat->Prop}{w W:World}(hT2:∀v:World,w.heap.size+1+1+1<v.heap.size->∀b,T2 w T b->b<v.heap.size)(hsz:w.heap.size+1+1+1<W.heap.size)(x:Int){t:TypeId}{u:Value}:AJ (T2 w T) ((W.setCell ⟨w.heap.size+1+1+1,0,none⟩ u).alloc (.cells #[.int .i64 x] t)) (some ⟨W.heap.size,0,none⟩) [x]:=by
 refine .inr ⟨W.heap.size,0,rfl,fun k=>by have:=hT2 W hsz _ k;omega,sM,fun j hj=>?_⟩;have hj0:j=0:=by have:j<1:=hj;omega
 subst hj0;have h1:(W.setCell ⟨w.heap.size+1+1+1,0,none⟩ u).heap.size=W.heap.size:=sM;have h2:=heap_alloc_new (W.setCell ⟨w.heap.size+1+1+1,0,none⟩ u) (.cells #[.int .i64 x] t);rw[h1]at h2;unfold World.cell?;simp only[h2];rfl
theorem Hs{T:Nat->Prop}{w W:World}(hT2:∀v:World,w.heap.size+1+1+1<v.heap.size->∀b,T2 w T b->b<v.heap.size)(hsz:w.heap.size+1+1+1<W.heap.size)(x:Int){t:TypeId}{u:Value}:AJ (T2 w T) ((W.alloc (.cells #[.int .i64 x] t)).setCell ⟨w.heap.size+1+1+1,0,none⟩ u) (some ⟨W.heap.size,0,none⟩) [x]:=by
 refine .inr ⟨W.heap.size,0,rfl,fun k=>by have:=hT2 W hsz _ k;omega,sM,fun j hj=>?_⟩;have hj0:j=0:=by have:j<1:=hj;omega
 subst hj0;rw[gC (gE (by show W.heap.size≠w.heap.size+1+1+1;omega))];simp[go_sem,BO]
theorem FG{T:Nat->Prop}{w v:World}{p:Option Addr}{l:List Int}(h:AJ (T2 w T) v p l)(i:Nat)(x:Value):AJ (T2 w T) (v.setCell ⟨w.heap.size+1+1+1,i,none⟩ x) p l:=
 h.un ((Un.refl (fun b=>b=w.heap.size+1+1+1) v).setCell rF _) fun b _ e=>.inr ⟨oM,oM⟩
theorem Ev{T:Nat->Prop}{w:World}{a0 a1 a2 a3 a4 a5 a6 a7 a8 a9 u:Value}{I D:Nat->Value}{v:World}{Y:List Cl}(h:DW w (C6 a0 a1 a2 a3 a4 a5 a6 a7 a8 a9) I D v)(k:AI (T2 w T) v u Y):DE w a0 a1 a2 a3 u a5 a6 a7 a8 a9 (v.setCell ⟨w.heap.size,4,none⟩ u)/\AI (T2 w T) (v.setCell ⟨w.heap.size,4,none⟩ u) u Y:=by
 have hu:Un (fun b=>b=w.heap.size) v (v.setCell ⟨w.heap.size,4,none⟩ u):=(Un.refl _ _).setCell XV _;refine⟨DE.of (h.bel.setCell XU _) ((h.f.set 4 u).congr fun j hj=>?_) (h.r.setOther XT _),k.un hu fun b _ e=>.inr ⟨oM,oM⟩⟩;exact XF
theorem Ox{T:Nat->Prop}{w:World}{a0 a1 a2 a3 a4 a5 a6 a7 a8 a9 u:Value}{I D:Nat->Value}{v:World}{Y:List Cl}(h:DW w (C6 a0 a1 a2 a3 a4 a5 a6 a7 a8 a9) I D v)(k:AI (T2 w T) v u Y):DE w a0 a1 a2 a3 a4 u a6 a7 a8 a9 (v.setCell ⟨w.heap.size,5,none⟩ u)/\AI (T2 w T) (v.setCell ⟨w.heap.size,5,none⟩ u) u Y:=by
 have hu:Un (fun b=>b=w.heap.size) v (v.setCell ⟨w.heap.size,5,none⟩ u):=(Un.refl _ _).setCell XV _;refine⟨DE.of (h.bel.setCell XU _) ((h.f.set 5 u).congr fun j hj=>?_) (h.r.setOther XT _),k.un hu fun b _ e=>.inr ⟨oM,oM⟩⟩;exact XF
theorem Ow{T:Nat->Prop}{w:World}{a0 a1 a2 a3 a4 a5 a6 a7 a8 a9 u:Value}{I D:Nat->Value}{v:World}{Y:List Cl}(h:DW w (C6 a0 a1 a2 a3 a4 a5 a6 a7 a8 a9) I D v)(k:G5 (T2 w T) v u Y):DE w a0 a1 a2 a3 a4 a5 u a7 a8 a9 (v.setCell ⟨w.heap.size,6,none⟩ u)/\G5 (T2 w T) (v.setCell ⟨w.heap.size,6,none⟩ u) u Y:=by
 have hu:Un (fun b=>b=w.heap.size) v (v.setCell ⟨w.heap.size,6,none⟩ u):=(Un.refl _ _).setCell XV _;refine⟨DE.of (h.bel.setCell XU _) ((h.f.set 6 u).congr fun j hj=>?_) (h.r.setOther XT _),k.un hu fun b _ e=>.inr ⟨oM,oM⟩⟩;exact XF
theorem IG(x:Cl):∀ (X:List Cl) (d:Nat),d<X.length->(AT PR X).set d (.slice x.p x.h.pats.length x.q)=AT PR (X.set d x)
 |[],d,h=>by simp at h
 |y::X,0,h=>rfl
 |y::X,d+1,h=>by
  have ih:=IG x X d SL;have e:AT PR (y::X)=.slice y.p y.h.pats.length y.q::AT PR X:=rfl;rw[e,List.set_cons_succ,ih];rfl
theorem U9{T:Nat->Prop}{W:World}{O:List Cl}{M:Nat}(hM:O.length=M)(hl:M<=16384){p:Option Addr}{q:Nat}(h:G5 T W (.slice p M q) O)(hT:∀b,T b->b<W.heap.size)(ix:Nat)(hix:ix<M):
 ∃g cap w1,(Builtin.append_ #[67,67] 67 #[.slice none 0 0,.slice p M q]).run prog W=.ok (.slice (some ⟨g,0,none⟩) M cap) w1/\Below W.heap.size W w1/\(∃z,w1.cell? ⟨g,ix,none⟩=some z)/\w1.frozen? ⟨g,ix,none⟩=false/\W.heap.size<=g/\∀x:Cl,AJ T W x.p x.h.pats->G5 T (w1.setCell ⟨g,ix,none⟩ (.slice x.p x.h.pats.length x.q)) (.slice (some ⟨g,0,none⟩) M cap) (O.set ix x):=by
 subst hM;obtain⟨i0,hi0,hz0,hz1,hz2⟩:=info_parts II;obtain⟨u,w',hr,hb,hown⟩:=DC dE GW U7 underlying67 hi0 hz0 hz1 hz2 rfl h.row.row mL oM 67;obtain⟨g,cap,rfl,hg,hgl⟩:=hown.form oM;have hfl:(AT PR O).length=O.length*1:=Ex GW O;refine⟨g,cap,w',hr,hb,⟨(AT PR O)[ix]'oM,?_⟩,hown.frozenAt ix,hg,fun x hx=>?_⟩
 .rw[hown.cellAt ix oM,gB]
 .have s1:=(hown.stored ix (.slice x.p x.h.pats.length x.q)).1;rw[IG x O ix hix]at s1;have hbF:Below W.heap.size W (w'.setCell ⟨g,ix,none⟩ (.slice x.p x.h.pats.length x.q)):=hb.setCell hg _;refine⟨FJ GW (by rw[List.length_set];exact s1) hT,fun y hy=>?_⟩;rcases List.mem_or_eq_of_mem_set hy with e|rfl
  .exact(h.nums y e).below hbF
  .exact hx.below hbF
abbrev JD(v:World)(b:Nat)(b0 b1 b2 b3 b4 b5 b6 b7 b8 b9:Value):World:=(((((((((v.setCell ⟨b,0,none⟩ b0).setCell ⟨b,1,none⟩ b1).setCell ⟨b,2,none⟩ b2).setCell ⟨b,3,none⟩ b3).setCell ⟨b,4,none⟩ b4).setCell ⟨b,5,none⟩ b5).setCell ⟨b,6,none⟩ b6).setCell ⟨b,7,none⟩ b7).setCell ⟨b,8,none⟩ b8).setCell ⟨b,9,none⟩ b9
theorem GX(v:World)(b:Nat)(b0 b1 b2 b3 b4 b5 b6 b7 b8 b9:Value):Un (fun x=>x=b) v (JD v b b0 b1 b2 b3 b4 b5 b6 b7 b8 b9):=
 ((((((((((Un.refl _ _).setCell rF _).setCell rF _).setCell rF _).setCell rF _).setCell rF _).setCell rF _).setCell rF _).setCell rF _).setCell rF _).setCell rF _
theorem Hb{w:World}{a0 a1 a2 a3 a4 a5 a6 a7 a8 a9:Value}{v:World}(h:DE w a0 a1 a2 a3 a4 a5 a6 a7 a8 a9 v){b0 b1 b2 b3 b4 b5 b6 b7 b8 b9:Value}:Below w.heap.size w (JD v (w.heap.size+1+1) b0 b1 b2 b3 b4 b5 b6 b7 b8 b9):=by
 have:=GX v (w.heap.size+1+1) b0 b1 b2 b3 b4 b5 b6 b7 b8 b9;exact(Un.trans (Un.mono (T:=fun b=>b=w.heap.size+1+1) (U:=fun _=>False) ⟨h.bel.os,h.bel.tape,h.bel.output,h.bel.size,fun b hb _=>h.bel.block b hb⟩ fun _ e=>e.elim) this).below (gF _) fun b e=>by omega
theorem Jd{T:Nat->Prop}{w:World}{a0 a1 a2 a3 a4 a5 a6 a7 a8 a9 u:Value}{v:World}{Y:List Cl}(h:DE w a0 a1 a2 a3 a4 a5 a6 a7 a8 a9 v)(k:AI (T2 w T) v u Y){b0 b1 b2 b3 b4 b5 b6 b7 b8 b9:Value}:AI T (JD v (w.heap.size+1+1) b0 b1 b2 b3 b4 b5 b6 b7 b8 b9) u Y/\Below w.heap.size w (JD v (w.heap.size+1+1) b0 b1 b2 b3 b4 b5 b6 b7 b8 b9):=
 ⟨(k.un (GX v _ _ _ _ _ _ _ _ _ _ _) fun b _ e=>.inr ⟨oM,oM⟩).mono fun b _ e=>.inl e,Hb h⟩
theorem Ta{T:Nat->Prop}{w:World}{a0 a1 a2 a3 a4 a5 a6 a7 a8 a9 u:Value}{v:World}{Y:List Cl}(h:DE w a0 a1 a2 a3 a4 a5 a6 a7 a8 a9 v)(k:G5 (T2 w T) v u Y){b0 b1 b2 b3 b4 b5 b6 b7 b8 b9:Value}:G5 T (JD v (w.heap.size+1+1) b0 b1 b2 b3 b4 b5 b6 b7 b8 b9) u Y/\Below w.heap.size w (JD v (w.heap.size+1+1) b0 b1 b2 b3 b4 b5 b6 b7 b8 b9):=
 ⟨(k.un (GX v _ _ _ _ _ _ _ _ _ _ _) fun b _ e=>.inr ⟨oM,oM⟩).mono fun b _ e=>.inl e,Hb h⟩
end Go.Proofs.YtheanilpbnencaaGreat
