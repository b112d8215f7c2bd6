import Derived.Test.YtnbccaicijcklaaGreatMns7
import Derived.Test.YtnbccaicijcklaaGreatMns6
import Derived.Test.YtnbccaicijcklaaGreatMns1
import Derived.Test.YtnbccaicijcklaaGreatMns5
import Derived.Test.YtnbccaicijcklaaGreatMns2
import Derived.Deep.DeepCutAuto
import Derived.Deep.CutBlock
namespace Go.Proofs.YtnbccaicijcklaaGreat
open Go.RowKit Go.Proofs.Tryz
set_option linter.all false
set_option maxRecDepth 100000
set_option maxHeartbeats 16000000
theorem Hr(v0 v1 v2 v3:Value)(c:Cd)(hk:Ba c)(w:World)(hv:CE w v0 v1 v2 v3 c):
 Calls prog 19 #[.agg #[v0,v1,v2,v3]] w fun e w'=>e=.returned (.tuple #[.int .i64 (Ai c).1,.int .i64 (Ai c).2])/\Below w.heap.size w w':=by
 by_cases h0:B0 c.sign=0
 .by_cases h1:16384<c.regs.length\/32768<c.list.length
  .have e:Ai c=(181,-1):=by unfold Ai CG;simp[h0,h1]
   rw[e];exact Fp v0 v1 v2 v3 c hk w hv 181 (.inr (.inl ⟨h0,h1,rfl⟩))
  .by_cases h2:4096<c.slots.length
   .have e:Ai c=(180,-1):=by unfold Ai CG;simp[h0,h1,h2]
    rw[e];exact Fp v0 v1 v2 v3 c hk w hv 180 (.inr (.inr ⟨h0,fun e=>h1 (.inl e),fun e=>h1 (.inr e),h2,rfl⟩))
   .refine Oj v0 v1 v2 v3 c hk w hv h0 oM oM oM _ _ ?_;have hA:CG c=if(Ax c&&BK c)=true then 0 else 160:=by
     unfold CG;rw[if_neg (fun e=>e h0),if_neg h1,if_neg h2]
    unfold Ai;rw[hA];by_cases h3:(Ax c&&BK c)=true
    .rw[if_pos h3,if_pos h3,if_neg dE]
    .rw[if_neg h3,if_neg h3,if_pos dE]
 .have e:Ai c=(B0 c.sign,-1):=by unfold Ai CG;simp[h0]
  rw[e];exact Fp v0 v1 v2 v3 c hk w hv _ (.inl ⟨h0,rfl⟩)
def C6(w:World)(p:Option Addr)(l:List Int):Prop:=Bb w p l.length (fun j=>.int .i64 (CH l j))
theorem C6.below{w w':World}{p:Option Addr}{l:List Int}(h:C6 w p l)(k:Below w.heap.size w w'):C6 w' p l:=Bb.below h k
structure Cl where
 p:Option Addr
 q:Nat
 h:Hd
def SJ(x:Cl):List Value:=[.slice x.p x.h.pats.length x.q,.int .i64 x.h.whole]
def UH(x:Cl):List Value:=[.slice x.p x.h.pats.length x.q]
theorem H8(x:Cl):(SJ x).length=2:=rfl
theorem Jp(x:Cl):(UH x).length=1:=rfl
theorem QW:∀x:Cl,∀u∈SJ x,u.oneCell'=true:=fun x u hu=>by simp[SJ]at hu;rcases hu with rfl|rfl<;>rfl
theorem ZF:∀x:Cl,∀u∈UH x,u.oneCell'=true:=fun x u hu=>by simp[UH]at hu;subst hu;rfl
structure Yg(w:World)(v:Value)(X:List Cl):Prop where
 row:AV 2 SJ w v X
 nums:∀x∈X,C6 w x.p x.h.pats
theorem Yg.below{w w':World}{v:Value}{X:List Cl}(h:Yg w v X)(k:Below w.heap.size w w'):Yg w' v X:=⟨h.row.below k,fun x hx=>(h.nums x hx).below k⟩
structure OuV(w:World)(v:Value)(X:List Cl):Prop where
 row:AV 1 UH w v X
 nums:∀x∈X,C6 w x.p x.h.pats
theorem Ii:(prog.info? 74).map (fun i=>(i.zero,i.size,i.bytes))=some (some (.agg #[.slice none 0 0,.int .i64 0]),2,32):=kR
theorem LD:(prog.info? 72).map (fun i=>(i.zero,i.size,i.bytes))=some (some (.slice none 0 0),1,24):=kR
theorem JR{c:Cd}(hg:Good c){k:Nat}(h:k<c.sign.length):(lenOf c (k:Int):Int)=c.sign[k].len:=by
 unfold lenOf;rw[Int.toNat_natCast,gB h];have:=(hg.len _ (gD h)).1;simp;omega
theorem Fm(v0 v1 v2 v3:Value)(c:Cd)(hg:Good c)(t:Ty)(ht:t.kind=3->Av t.par c.sign.length=true)(w:World)(hv:CE w v0 v1 v2 v3 c):
 Calls prog 40 #[.agg #[v0,v1,v2,v3],DY t] w fun e w'=>e=.returned (.int .i64 (if t.kind=3 then(lenOf c t.par:Int)else 1))/\Below w.heap.size w w':=by
 obtain⟨K,P⟩:=t;unfold DY;simp only at ht |-;by_cases h3:K=3
 .subst h3;obtain⟨k,rfl,hkl⟩:=Dr (ht rfl);rw[if_pos rfl,JR hg hkl];have hr:=hv.sign;obtain⟨p,q,rfl,hrr⟩:=hv.sign;obtain⟨lb,lo,rfl,hc⟩:=hr.at hkl;obtain⟨⟨nm,K,L⟩,hT⟩:∃t:BM,c.sign[k]=t:=⟨_,rfl⟩
  rw[hT]at hc |-;have hlen:=hg.signL;have y2:w.cell? ⟨lb,lo+k*3+2,none⟩=some (.int .i64 L):=hc.at 2 rfl;have g2:∀o o',((w.alloc o).alloc o').cell? ⟨lb,lo+k*3+2,none⟩=some (.int .i64 L):=fun o o'=>kc (bel (A0 _ _) (A0 _ _)) y2;obtain⟨N,hN⟩:=gA (c.sign.length)
  rw[hN]at hkl hlen |-;clear hr hrr hc hT hv hN ht;simp only;go_enter func40,ntmps40;go_wp2;go_ret;exact UP
 .rw[if_neg h3];have h3':(K==3)=false:=by simpa using h3
  clear h3 ht;go_enter func40,ntmps40;go_wp2;go_ret;exact UP
theorem J1(b:Bool)(w:World):Calls prog 65 #[.bool b] w fun e w'=>e=.returned (.int .i64 (BI b))/\w'=w:=by
 cases b
 all_goals
  go_enter func65,ntmps65;go_wp2;go_ret;exact⟨rfl,rfl⟩
def EF(V:List Int)(k n len:Nat):List Int:=(List.range len).map fun e=>An (CH V (k*e+n))
theorem LQ(V:List Int)(k n len:Nat):(EF V k n len).length=len:=by simp[EF]
theorem Ke(V:List Int)(k n j:Nat):EF V k n (j+1)=EF V k n j++[An (CH V (k*j+n))]:=by simp[EF,List.range_succ]
theorem ZI{w:World}{B:Nat}{p:Option Addr}{q:Nat}{l:List Int}(h:w.ownsRow B 3 1 (.slice p l.length q) l.length (Cg l)):C6 w p l:=by
 by_cases h0:l.length=0
 .exact .inl h0
 .obtain⟨g,cap,e,_⟩:=h.form oM;simp only[Value.slice.injEq]at e;obtain⟨rfl,-,-⟩:=e;refine .inr ⟨g,0,rfl,fun j hj=>?_⟩;rw[Nat.zero_add,h.cellAt j oM];simp[Cg,CH,hj]
theorem EE{w:World}{B:Nat}{e:TypeId}{k:Nat}{p:Option Addr}{n m q:Nat}{xs:List Value}(h:w.ownsRow B e k (.slice p n q) m xs):∀b o s,p=some ⟨b,o,s⟩->B<=b:=by
 intro b o s e;subst e;rcases h.2 with⟨e1,-⟩|⟨g,cap,cur,e1,hb,-⟩
 .simp at e1
 .simp only[Value.slice.injEq,Option.some.injEq,Addr.mk.injEq]at e1;omega
theorem Ou(nm:ByteArray)(K:Int)(len:Nat)(hlen:len<=4096)(k:Nat)(hk:k=if K=2 then 2 else 1)(V:List Int)(hV:∀y∈V,AH y)(p:Option Addr)(q n:Nat)(hn:n<k)(hm:k*len<=V.length)(hVL:V.length<=1048576)(w:World)(hr:Bb w p V.length (fun j=>.int .u32 (CH V j))):
 Calls prog 69 #[.agg #[.string nm,.int .i64 K,.int .i64 (len:Int)],.slice p V.length q,.int .i64 (n:Int)] w fun e w'=>∃p' q',e=.returned (.slice p' len q')/\C6 w' p' (EF V k n len)/\Below w.heap.size w w'/\∀b o s,p'=some ⟨b,o,s⟩->w.heap.size<=b:=by
 have HRD:Hid (Bb w p V.length (fun j=>.int .u32 (CH V j))):=hr;have HV:Hid (∀j,AH (CH V j)):=fun j=>CS hV j;obtain⟨M,hM⟩:=gA (V.length)
 rw[hM]at HRD hVL hm |-;have hC:∀v,Below (w.alloc (.cells #[.string nm,.int .i64 K,.int .i64 (len:Int)] 67)).heap.size (w.alloc (.cells #[.string nm,.int .i64 K,.int .i64 (len:Int)] 67)) v->v.cell? ⟨w.heap.size,2,none⟩=some (.int .i64 (len:Int)):=fun v hb=>kc hb sG;have HC:Hid _:=hC;have hk2:((K==2)=true/\k=2)\/((K==2)=false/\k=1):=by
  by_cases h:K=2
  .exact .inl ⟨by simpa using h,by rw[hk,if_pos h]⟩
  .exact .inr ⟨by simpa using h,by rw[hk,if_neg h]⟩
 clear hV hr hM hk hC;rcases hk2 with⟨hKb,rfl⟩|⟨hKb,rfl⟩
 .go_enter func69,ntmps69;go_wp2
  go_loopw [8,9] (fun ov iv wr=>Below (w.alloc (.cells #[.string nm,.int .i64 K,.int .i64 (len:Int)] 67)).heap.size (w.alloc (.cells #[.string nm,.int .i64 K,.int .i64 (len:Int)] 67)) wr/\∃ (j:Nat) (pp:Option Addr) (qq:Nat),j<=len/\iv=.int .i64 (j:Int)/\ov=.slice pp j qq/\Hid (wr.ownsRow (w.alloc (.cells #[.string nm,.int .i64 K,.int .i64 (len:Int)] 67)).heap.size 3 1 (.slice pp j qq) j (Cg (EF V 2 n j)))) (fun _ iv _=>len-(intOf iv).toNat)
  case atStart=>exact⟨BZ _,0,none,0,gI _,rfl,rfl,World.ownsRow_nil _ _ _ 1⟩
  case round=>
   obtain⟨hb,j,pp,qq,hj,rfl,rfl,how⟩:=hrel;have c2:=HC.out wr hb;have HB:Hid (Below (w.alloc (.cells #[.string nm,.int .i64 K,.int .i64 (len:Int)] 67)).heap.size (w.alloc (.cells #[.string nm,.int .i64 K,.int .i64 (len:Int)] 67)) wr):=hb;by_cases hlt:j<len
   .have hi:2*j+n<M:=oM;rcases HRD.out with h0|⟨b,o,rfl,hcell⟩
    .omega
    have hc:=hcell (2*j+n) hi;simp only at hc;have y:=kc (bel (A0 _ _) hb) hc;have hP:=HV.out (2*j+n);have KC:=Fo (CH V (2*j+n)) hP.1 hP.2;have KA:=fun x=>Gq (V:=wr) underlying72 Co rfl dE how.out hb.size #[.int .i64 x] rfl Zgq mL oM 72;obtain⟨g,c',w8,hap,hb8,ho8,-⟩:=KA (An (CH V (2*j+n)));have HNX:Hid (w8.ownsRow (w.alloc (.cells #[.string nm,.int .i64 K,.int .i64 (len:Int)] 67)).heap.size 3 1 (.slice (some ⟨g,0,none⟩) (j+1) c') (j+1) (Cg (EF V 2 n (j+1)))):=by
     show World.ownsRow _ _ _ _ _ _ _;rw[Ke,D2];exact ho8
    have HB8:Hid (Below (w.alloc (.cells #[.string nm,.int .i64 K,.int .i64 (len:Int)] 67)).heap.size wr w8):=hb8;have HAP:Hid _:=hap;have HKC:Hid _:=KC;obtain⟨z,hz⟩:=gA (CH V (2*j+n))
    rw[hz]at y hP HKC HAP;have t0:(j:Int)<(len:Int):=oM;have t1:IntKind.i64.wrap (2*(j:Int))=2*(j:Int):=by rw[IntKind.wrap_i64];omega
    have t2:IntKind.i64.wrap (2*(j:Int)+(n:Int))=((2*j+n:Nat):Int):=by rw[IntKind.wrap_i64];omega
    have t3:(0:Int)<=((2*j+n:Nat):Int):=oM;have t4:((2*j+n:Nat):Int)<(M:Int):=oM;have t5:IntKind.i64.wrap ((j:Int)+1)=((j+1:Nat):Int):=by rw[IntKind.wrap_i64];omega
    have t6:IntKind.i64.wrap z=z:=by rw[IntKind.wrap_i64];have:=hP.1;have:=hP.2;omega
    obtain⟨ix,hix⟩:=gA (2*j+n)
    exact Zcy
   have hjn:j=len:=oM;have e1:¬ (j:Int)<(len:Int):=oM;have HF:Hid (C6 wr pp (EF V 2 n len)):=by
    exact Zei
   exact Zcu
 .go_enter func69,ntmps69;go_wp2
  go_loopw [8,9] (fun ov iv wr=>Below (w.alloc (.cells #[.string nm,.int .i64 K,.int .i64 (len:Int)] 67)).heap.size (w.alloc (.cells #[.string nm,.int .i64 K,.int .i64 (len:Int)] 67)) wr/\∃ (j:Nat) (pp:Option Addr) (qq:Nat),j<=len/\iv=.int .i64 (j:Int)/\ov=.slice pp j qq/\Hid (wr.ownsRow (w.alloc (.cells #[.string nm,.int .i64 K,.int .i64 (len:Int)] 67)).heap.size 3 1 (.slice pp j qq) j (Cg (EF V 1 n j)))) (fun _ iv _=>len-(intOf iv).toNat)
  case atStart=>exact⟨BZ _,0,none,0,gI _,rfl,rfl,World.ownsRow_nil _ _ _ 1⟩
  case round=>
   obtain⟨hb,j,pp,qq,hj,rfl,rfl,how⟩:=hrel;have c2:=HC.out wr hb;have HB:Hid (Below (w.alloc (.cells #[.string nm,.int .i64 K,.int .i64 (len:Int)] 67)).heap.size (w.alloc (.cells #[.string nm,.int .i64 K,.int .i64 (len:Int)] 67)) wr):=hb;by_cases hlt:j<len
   .have hi:j+n<M:=oM;rcases HRD.out with h0|⟨b,o,rfl,hcell⟩
    .omega
    have hc:=hcell (j+n) hi;simp only at hc;have y:=kc (bel (A0 _ _) hb) hc;have hP:=HV.out (j+n);have KC:=Fo (CH V (j+n)) hP.1 hP.2;have KA:=fun x=>Gq (V:=wr) underlying72 Co rfl dE how.out hb.size #[.int .i64 x] rfl Zgq mL oM 72;obtain⟨g,c',w8,hap,hb8,ho8,-⟩:=KA (An (CH V (j+n)));have HNX:Hid (w8.ownsRow (w.alloc (.cells #[.string nm,.int .i64 K,.int .i64 (len:Int)] 67)).heap.size 3 1 (.slice (some ⟨g,0,none⟩) (j+1) c') (j+1) (Cg (EF V 1 n (j+1)))):=by
     show World.ownsRow _ _ _ _ _ _ _;rw[Ke,Nat.one_mul,D2];exact ho8
    have HB8:Hid (Below (w.alloc (.cells #[.string nm,.int .i64 K,.int .i64 (len:Int)] 67)).heap.size wr w8):=hb8;have HAP:Hid _:=hap;have HKC:Hid _:=KC;obtain⟨z,hz⟩:=gA (CH V (j+n))
    rw[hz]at y hP HKC HAP;have t0:(j:Int)<(len:Int):=oM;have t1:IntKind.i64.wrap (j:Int)=(j:Int):=by rw[IntKind.wrap_i64];omega
    have t2:IntKind.i64.wrap ((j:Int)+(n:Int))=((j+n:Nat):Int):=by rw[IntKind.wrap_i64];omega
    have t3:(0:Int)<=((j+n:Nat):Int):=oM;have t4:((j+n:Nat):Int)<(M:Int):=oM;have t5:IntKind.i64.wrap ((j:Int)+1)=((j+1:Nat):Int):=by rw[IntKind.wrap_i64];omega
    have t6:IntKind.i64.wrap z=z:=by rw[IntKind.wrap_i64];have:=hP.1;have:=hP.2;omega
    obtain⟨ix,hix⟩:=gA (j+n)
    exact Zcy
   have hjn:j=len:=oM;have e1:¬ (j:Int)<(len:Int):=oM;have HF:Hid (C6 wr pp (EF V 1 n len)):=by
    exact Zei
   exact Zcu
def Df(op a b c:Int):Int:=
 if op=21 then min (a+1) 2147483647
 else if op=22 then BI (decide (a<b))
 else if op=23 then BI (a==b)
 else if op=24 then BI (a != 0&&b != 0)
 else if op=25 then BI (a==0)
 else if op=26 then(if a=0 then c else b)
 else if op=27 then max (a-b) 0
 else if b=0 then 0 else a/b
theorem Qx(op a b c:Int)(ho:21<=op/\op<=28)(ha:0<=a/\a<=2147483647)(hb:0<=b/\b<=2147483647)(w:World):
 Calls prog 68 #[.int .i64 op,.int .i64 a,.int .i64 b,.int .i64 c] w fun e w'=>e=.returned (.int .i64 (Df op a b c))/\w'=w:=by
 have KF:Hid (∀x v,Calls prog 65 #[.bool x] v fun e w'=>e=.returned (.int .i64 (BI x))/\w'=v):=J1;obtain⟨a0,a1⟩:=ha;obtain⟨b0,b1⟩:=hb;have:op=21\/op=22\/op=23\/op=24\/op=25\/op=26\/op=27\/op=28:=oM;rcases this with rfl|rfl|rfl|rfl|rfl|rfl|rfl|rfl
 .rw[show Df 21 a b c=min (a+1) 2147483647 from rfl];have t:IntKind.i64.wrap (a+1)=a+1:=by rw[IntKind.wrap_i64];omega
  exact Zdj
 .rw[show Df 22 a b c=BI (decide (a<b))from rfl];exact Zbv
 .rw[show Df 23 a b c=BI (a==b)from rfl];exact Zbv
 .rw[show Df 24 a b c=BI (a != 0&&b != 0)from rfl];cases hz:(a != 0)
  .rw[Bool.false_and];have hz':(a==0)=true:=by simpa using hz
   exact Zbv
  .rw[Bool.true_and];have hz':(a==0)=false:=by simpa using hz
   exact Zbv
 .rw[show Df 25 a b c=BI (a==0)from rfl];exact Zbv
 .rw[show Df 26 a b c=(if a=0 then c else b)from rfl];by_cases hz:a=0
  .rw[if_pos hz];have hz':(a != 0)=false:=by simpa using hz
   have hz2:(a==0)=true:=by simpa using hz
   clear hz a0 a1;exact Zdj
  .rw[if_neg hz];have hz':(a != 0)=true:=by simpa using hz
   have hz2:(a==0)=false:=by simpa using hz
   clear hz;exact Zdj
 .rw[show Df 27 a b c=max (a-b) 0 from rfl];have t:IntKind.i64.wrap (a-b)=a-b:=by rw[IntKind.wrap_i64];omega
  exact Zdj
 .rw[show Df 28 a b c=(if b=0 then 0 else a/b)from rfl];by_cases hz:b=0
  .rw[if_pos hz];have hz2:(b==0)=true:=by simpa using hz
   clear hz b0 b1;exact Zdj
  .rw[if_neg hz];have hz2:(b==0)=false:=by simpa using hz
   have ht:a.tdiv b=a/b:=by rw[Int.tdiv_eq_ediv_of_nonneg a0]
   have hw:IntKind.i64.wrap (a/b)=a/b:=by
    rw[IntKind.wrap_i64];have h1:=Int.ediv_nonneg a0 b0;have h2:=Int.ediv_le_self b a0;omega
   go_enter func68,ntmps68;go_wp2;go_ret;first
    |exact⟨rfl,rfl⟩
    |(refine⟨?_,rfl⟩;simp[ht,hw])
theorem Ji(n:Nat)(x:Int){j:Nat}(h:j<n):CH (List.replicate n x) j=x:=by simp[CH,h]
theorem Iv(n:Nat)(x:Int)(hx:AH x)(hn:n<=65536)(w:World):
 Calls prog 39 #[.int .i64 n,.int .i64 x] w fun e w'=>∃q cap,e=.returned (.tuple #[.slice q n cap,.int .i64 0])/\Bb w' q n (fun i=>.int .i64 (An x))/\Below w.heap.size w w'/\∀b o s,q=some ⟨b,o,s⟩->w.heap.size<=b:=by
 obtain⟨i0,hi0,hz0,hz1,hz2⟩:=info_parts Vv;have h1:¬ ((n:Int)<0):=oM;have h2:(n:Int)<=65536:=oM;go_enter func39,ntmps39;go_wp2
 go_loopw [6,7] (fun ov iv wr=>Below w.heap.size w wr/\∃ (k:Nat) (v:Value),v=ov/\k<=n/\iv=.int .i64 k/\Hid (wr.ownsRow w.heap.size 3 1 v k (IK (fun i=>.int .i64 (An x)) k))) (fun _ iv _=>n-(intOf iv).toNat)
 case atStart=>exact⟨BZ w,0,_,rfl,gI _,rfl,World.ownsRow_nil _ _ _ _⟩
 case round=>
  obtain⟨hb,k,ov,rfl,hk,rfl,hown⟩:=hrel;by_cases hlt:k<n
  .have i1:(0:Int)<=(k:Int):=oM;have i2:(k:Int)<(n:Int):=oM;have sz:=hb.size;have hob:Hid (∀j,ov.ownBlock=some j->w.heap.size<=j/\j<wr.heap.size):=hown.lt;go_wp2_with(first
    |(go_at_call 60;refine(Fo _ hx.1 hx.2 _).mono ?_;rintro e w0 ⟨rfl,hw'⟩;obtain rfl:=hw'.symm)
    |(at_builtin;refine wpList_append_own _ rfl _ _ 72 rfl w.heap.size 3 i0 _ 1 8 underlying72 hi0 hz0 hz1 hz2 rfl dE ov k (IK (fun i=>.int .i64 (An x)) k) rfl (hown.alloc _) ⟨wr.heap.size,0,none⟩ 1 1 [.int .i64 (An x)] rfl rfl (World.news_of_block (cs:=#[.int .i64 (An x)]) (t:=3) (fr:=(0,0)) (heap_alloc_new wr _)) Sx mL oM sO ?_;intro v' w1 hown1 hgrow hnil;have HB:Below w.heap.size w w1:=Below.grown (hb.alloc sz _) hgrow sO (fun j e=>(hob.out j e).1);have HO:Hid (w1.ownsRow w.heap.size 3 1 v' (k+1) (IK (fun i=>.int .i64 (An x)) k++[.int .i64 (An x)])):=hown1;clear hown1 hgrow hnil))
   go_roundw
   case rel=>exact⟨HB,k+1,_,rfl,oM,gN,by rw[Ml];exact HO⟩
   case measure=>simp[intOf];omega
  .have:k=n:=oM;subst this;obtain⟨q,cap,rfl,hR,hg,-⟩:=LP hown.out;have HR:Hid (Bb wr q k (fun i=>.int .i64 (An x))):=hR;have HG:Hid (∀b o s,q=some ⟨b,o,s⟩->w.heap.size<=b):=hg;clear hR hg hown;go_wp2;go_returns;first|exact⟨_,_,rfl,HR.out,hb,HG.out⟩|exact⟨_,⟨_,rfl⟩,HR.out,hb,HG.out⟩
structure P5(w:World)(v0 v1 v2 v3:Value)(tk tp:Int)(kp:Bool)(sb si:Int)(v:World):Prop where
 bel:Below w.heap.size w v
 c0:v.cell? ⟨w.heap.size,0,none⟩=some v0
 c1:v.cell? ⟨w.heap.size,1,none⟩=some v1
 c2:v.cell? ⟨w.heap.size,2,none⟩=some v2
 c3:v.cell? ⟨w.heap.size,3,none⟩=some v3
 s0:v.cell? ⟨w.heap.size+1,0,none⟩=some (.int .i64 tk)
 s1:v.cell? ⟨w.heap.size+1,1,none⟩=some (.int .i64 tp)
 s2:v.cell? ⟨w.heap.size+1,2,none⟩=some (.bool kp)
 s3:v.cell? ⟨w.heap.size+1,3,none⟩=some (.int .u32 sb)
 s4:v.cell? ⟨w.heap.size+1,4,none⟩=some (.int .i64 si)
 r0:v.cell? ⟨w.heap.size+1+1,0,none⟩=some (.slice none 0 0)
 r1:v.cell? ⟨w.heap.size+1+1,1,none⟩=some (.int .i64 0)
 f0:v.frozen? ⟨w.heap.size+1+1,0,none⟩=false
 f1:v.frozen? ⟨w.heap.size+1+1,1,none⟩=false
theorem P5.next{w:World}{v0 v1 v2 v3:Value}{tk tp:Int}{kp:Bool}{sb si:Int}{v v':World}(h:P5 w v0 v1 v2 v3 tk tp kp sb si v)(k:Below v.heap.size v v'):P5 w v0 v1 v2 v3 tk tp kp sb si v':=
 ⟨Go.Proofs.YtnbccaicijcklaaGreat.bel h.bel k,kc k h.c0,kc k h.c1,kc k h.c2,kc k h.c3,kc k h.s0,kc k h.s1,kc k h.s2,kc k h.s3,kc k h.s4,kc k h.r0,kc k h.r1,kf k h.r0 h.f0,kf k h.r1 h.f1⟩
theorem P5.start(w:World)(v0 v1 v2 v3:Value)(tk tp:Int)(kp:Bool)(sb si:Int):P5 w v0 v1 v2 v3 tk tp kp sb si (((w.alloc (.cells #[v0,v1,v2,v3] 27)).alloc (.cells #[.int .i64 tk,.int .i64 tp,.bool kp,.int .u32 sb,.int .i64 si] 64)).alloc (.cells #[.slice none 0 0,.int .i64 0] 74)):=by
 have k1:=A0 (w.alloc (.cells #[v0,v1,v2,v3] 27)) (.cells #[.int .i64 tk,.int .i64 tp,.bool kp,.int .u32 sb,.int .i64 si] 64);have k2:=A0 ((w.alloc (.cells #[v0,v1,v2,v3] 27)).alloc (.cells #[.int .i64 tk,.int .i64 tp,.bool kp,.int .u32 sb,.int .i64 si] 64)) (.cells #[.slice none 0 0,.int .i64 0] 74);refine⟨Go.Proofs.YtnbccaicijcklaaGreat.bel (A0 _ _) (Go.Proofs.YtnbccaicijcklaaGreat.bel k1 k2),kc k2 (kc k1 ?_),kc k2 (kc k1 ?_),kc k2 (kc k1 ?_),kc k2 (kc k1 ?_),kc k2 ?_,kc k2 ?_,kc k2 ?_,kc k2 ?_,kc k2 ?_,?_,?_,?_,?_⟩
 all_goals simp[go_sem]
theorem Kk(v0 v1 v2 v3:Value)(c:Cd)(hg:Good c)(s:Sl)(hs:Be s c.sign.length=true)(hb:AH s.bits)(w:World)(hv:CE w v0 v1 v2 v3 c):
 Calls prog 24 #[.agg #[v0,v1,v2,v3],Sk s] w fun e w'=>∃p q,e=.returned (.agg #[.slice p (Bf c s).pats.length q,.int .i64 (Bf c s).whole])/\C6 w' p (Bf c s).pats/\Below w.heap.size w w'/\∀b o s,p=some ⟨b,o,s⟩->w.heap.size<=b:=by
 have hw:=hg.width s.ty;have hmay:=hs;unfold Be at hmay;simp only[Bool.and_eq_true]at hmay;obtain⟨m1,m2⟩:=hmay;have hpl:s.ty.kind=3->Av s.ty.par c.sign.length=true:=fun h3=>by
  unfold AF at m1;rw[if_neg oM,if_pos h3]at m1;exact m1
 have hkd:s.ty.kind=1\/s.ty.kind=2\/s.ty.kind=3:=by
  unfold AF at m1;by_cases h1:s.ty.kind=1\/s.ty.kind=2
  .rcases h1 with h1|h1
   .exact .inl h1
   .exact .inr (.inl h1)
  .rw[if_neg h1]at m1;by_cases h3:s.ty.kind=3
   .exact .inr (.inr h3)
   .rw[if_neg h3]at m1;exact absurd m1 dE
 have KW:=Fm v0 v1 v2 v3 c hg s.ty hpl;unfold EN at m2;obtain⟨⟨tk,tp⟩,kp,sb,si⟩:=s;unfold Bf Sk DU;unfold DY at KW;simp only at hw hpl hkd KW m2 hb |-;have HT0:=P5.start w v0 v1 v2 v3 tk tp kp sb si;by_cases h2:tk=2
 .have hw0:B4 c ⟨tk,tp⟩=0:=by unfold B4;simp[h2]
  rw[hw0];have h2b:(tk==2)=true:=by simpa using h2
  obtain⟨-,c0,c1,c2,c3,s0,s1,s2,s3,s4,r0,r1,f0,f1⟩:=HT0;clear KW m1 m2 hpl hkd h2;go_enter func24,ntmps24;go_wp2;refine bodyPost_ret (by simp[results,results24,go_sem];try rfl) rfl ?_;exact⟨none,0,rfl,.inl rfl,gG,fun b o s e=>by simp at e⟩
 .have h2b:(tk==2)=false:=by simpa using h2
  rw[if_neg h2]at m2;simp only[Bool.and_eq_true,beq_iff_eq]at m2;have HSI:Hid (si=0):=m2.1;obtain⟨n,hn⟩:∃n:Nat,(if tk=3 then(lenOf c tp:Int)else 1)=(n:Int)/\B4 c ⟨tk,tp⟩=n:=by
   unfold B4;simp only;rcases hkd with e|e|e
   .exact⟨1,by simp[e],by simp[e]⟩
   .exact absurd e h2
   .exact⟨lenOf c tp,by simp[e],by simp[e]⟩
  rw[hn.1]at KW;rw[hn.2]at hw |-;have KFI:=Iv n sb hb oM;have HKW:Hid (∀v,Below w.heap.size w v->Calls prog 40 #[.agg #[v0,v1,v2,v3],.agg #[.int .i64 tk,.int .i64 tp]] v fun e w'=>e=.returned (.int .i64 (n:Int))/\Below v.heap.size v w'):=fun v hb=>KW v (hv.below hb);have HKF:Hid (∀v,Calls prog 39 #[.int .i64 (n:Int),.int .i64 sb] v fun e w'=>∃q cap,e=.returned (.tuple #[.slice q n cap,.int .i64 0])/\Bb w' q n (fun i=>.int .i64 (An sb))/\Below v.heap.size v w'/\∀b o s,q=some ⟨b,o,s⟩->v.heap.size<=b):=KFI;have HT:Hid (P5 w v0 v1 v2 v3 tk tp kp sb si (((w.alloc (.cells #[v0,v1,v2,v3] 27)).alloc (.cells #[.int .i64 tk,.int .i64 tp,.bool kp,.int .u32 sb,.int .i64 si] 64)).alloc (.cells #[.slice none 0 0,.int .i64 0] 74))):=HT0;have hsb:IntKind.i64.wrap sb=sb:=by rw[IntKind.wrap_i64];have:=hb.1;have:=hb.2;omega
  obtain⟨-,c0,c1,c2,c3,s0,s1,s2,s3,s4,r0,r1,f0,f1⟩:=HT0;clear KW KFI m1 m2 hpl hkd h2 hn hs hv;go_enter func24,ntmps24;go_wp2;refine rG (fun v=>v.cell? ⟨w.heap.size,0,none⟩=some v0/\v.cell? ⟨w.heap.size,1,none⟩=some v1/\v.cell? ⟨w.heap.size,2,none⟩=some v2/\v.cell? ⟨w.heap.size,3,none⟩=some v3/\v.cell? ⟨w.heap.size+1,0,none⟩=some (.int .i64 tk)/\v.cell? ⟨w.heap.size+1,1,none⟩=some (.int .i64 tp)/\v.cell? ⟨w.heap.size+1,3,none⟩=some (.int .u32 sb)) fun hJ=>?_;refine Tf 0 1 2 4 5 6 ?_;clear hJ;refine Aw 3 fun K hK=>?_;go_simp;(go_at_call 40;(with_reducible refine(HKW.out _ (bel HT.out.bel (A9 _))).mono ?_);rintro e w1 ⟨rfl,hb1⟩;have HB1:Hid (Below (((w.alloc (.cells #[v0,v1,v2,v3] 27)).alloc (.cells #[.int .i64 tk,.int .i64 tp,.bool kp,.int .u32 sb,.int .i64 si] 64)).alloc (.cells #[.slice none 0 0,.int .i64 0] 74)).heap.size (((w.alloc (.cells #[v0,v1,v2,v3] 27)).alloc (.cells #[.int .i64 tk,.int .i64 tp,.bool kp,.int .u32 sb,.int .i64 si] 64)).alloc (.cells #[.slice none 0 0,.int .i64 0] 74)) w1):=bel (A9 _) hb1;clear hb1;obtain⟨-,c0,c1,c2,c3,s0,s1,s2,s3,s4,r0,r1,f0,f1⟩:=HT.out.next HB1.out);try(go_wp2_with fail)
  refine Aq hK fun hJ=>?_;clear hK K;clear hJ;refine Aw 7 fun K hK=>?_;go_simp;(go_at_call 39;(with_reducible refine(HKF.out _).mono ?_);rintro e w2 ⟨pf,qf,rfl,hrf,hb2,hfr⟩;have HFR:Hid (∀b o s,pf=some ⟨b,o,s⟩->w1.heap.size<=b):=hfr;clear hfr;have HS1:Hid (w.heap.size+1+1<w1.heap.size):=A8 r0;have HB2:Hid (Below (((w.alloc (.cells #[v0,v1,v2,v3] 27)).alloc (.cells #[.int .i64 tk,.int .i64 tp,.bool kp,.int .u32 sb,.int .i64 si] 64)).alloc (.cells #[.slice none 0 0,.int .i64 0] 74)).heap.size (((w.alloc (.cells #[v0,v1,v2,v3] 27)).alloc (.cells #[.int .i64 tk,.int .i64 tp,.bool kp,.int .u32 sb,.int .i64 si] 64)).alloc (.cells #[.slice none 0 0,.int .i64 0] 74)) w2):=bel HB1.out hb2;have HRF:Hid (Bb w2 pf n (fun i=>.int .i64 (An sb))):=hrf;clear hb2 hrf c0 c1 c2 c3 s0 s1 s2 s3 s4 r0 r1 f0 f1;obtain⟨-,c0,c1,c2,c3,s0,s1,s2,s3,s4,r0,r1,f0,f1⟩:=HT.out.next HB2.out);try(go_wp2_with fail)
  refine Aq hK fun hJ=>?_;clear hK K;refine Tc 8 9 10 ?_;refine Tb 11 12 ?_;refine wpAnyH_done kR ?_ _;go_wp2;refine bodyPost_ret (by simp[results,results24,go_sem, *];try rfl) rfl ?_;have hbF:Below w.heap.size w ((w2.setCell ⟨w.heap.size+1+1,0,none⟩ (.slice pf n qf)).setCell ⟨w.heap.size+1+1,1,none⟩ (.int .i64 0)):=((bel HT.bel HB2.out).setCell Zgl _).setCell Zgl _;refine⟨pf,qf,by rw[List.length_replicate,HSI.out],?_,hbF,fun b o s e=>by have h3:=HFR.out b o s e;have h4:=HS1.out;omega⟩;show Bb _ _ _ _;rw[List.length_replicate];rcases HRF.out with h0|⟨b,o,rfl,h1⟩
  .exact .inl h0
  .refine .inr ⟨b,o,rfl,fun j hj=>?_⟩;have hne:b≠w.heap.size+1+1:=by have h3:=HFR.out b o none rfl;have h4:=HS1.out;omega
   rw[gC (gE hne),gC (gE hne),h1 j hj];simp only;rw[Ji _ _ hj]
def GY(v:World)(sv:Value)(p:Option Addr)(l:List Int):Prop:=l=[]\/∃b o,p=some ⟨b,o,none⟩/\sv.ownBlock≠some b/\∀j,j<l.length->v.cell? ⟨b,o+j,none⟩=some (.int .i64 (CH l j))
theorem GY.num{v:World}{sv:Value}{p:Option Addr}{l:List Int}(h:GY v sv p l):C6 v p l:=by
 rcases h with rfl|⟨b,o,e,-,h⟩
 .exact .inl rfl
 .exact .inr ⟨b,o,e,h⟩
theorem GY.below{v v':World}{sv:Value}{p:Option Addr}{l:List Int}(h:GY v sv p l)(k:Below v.heap.size v v'):GY v' sv p l:=by
 rcases h with rfl|⟨b,o,e,hn,h⟩
 .exact .inl rfl
 .exact .inr ⟨b,o,e,hn,fun j hj=>kc k (h j hj)⟩
theorem C6.apart{v:World}{sv:Value}{p:Option Addr}{l:List Int}(h:C6 v p l)(ha:∀b o s,p=some ⟨b,o,s⟩->sv.ownBlock≠some b):GY v sv p l:=by
 rcases h with h|⟨b,o,e,h⟩
 .exact .inl (List.length_eq_zero_iff.1 h)
 .exact .inr ⟨b,o,e,ha b o none e,h⟩
theorem GY.grow{V w':World}{p:Option Addr}{n q g c' m:Nat}{pp:Option Addr}{l:List Int}(h:GY V (.slice p n q) pp l)(hk:∀b,b<V.heap.size->(Value.slice p n q).ownBlock≠some b->w'.heap[b]? =V.heap[b]?)(hg:(Value.slice p n q).ownBlock=some g\/V.heap.size<g):GY w' (.slice (some ⟨g,0,none⟩) m c') pp l:=by
 exact Zcs
structure Jt(B:Nat)(v:World)(sv:Value)(X:List Cl):Prop where
 own:v.ownsRow B 74 2 sv X.length (Au SJ X)
 nums:∀x∈X,GY v sv x.p x.h.pats
theorem Jt.below{B:Nat}{v v':World}{sv:Value}{X:List Cl}(h:Jt B v sv X)(k:Below v.heap.size v v'):Jt B v' sv X:=⟨Ak h.own k,fun x hx=>(h.nums x hx).below k⟩
theorem Jt.cs{B:Nat}{v:World}{sv:Value}{X:List Cl}(h:Jt B v sv X):Yg v sv X:=⟨Dv H8 h.own,fun x hx=>(h.nums x hx).num⟩
theorem Jt.nil(B:Nat)(v:World):Jt B v (.slice none 0 0) []:=⟨World.ownsRow_nil _ _ _ 2,fun x hx=>by cases hx⟩
theorem Jt.push{B:Nat}{V:World}{p:Option Addr}{q:Nat}{X:List Cl}(h:Jt B V (.slice p X.length q) X)(hB:B<=V.heap.size)(hX:X.length<=16384)(x:Cl)(hx:GY V (.slice p X.length q) x.p x.h.pats)(ty:TypeId):
 ∃g c' w',(Builtin.append_ #[41,41] ty #[.slice p X.length q,.slice (some ⟨V.heap.size,0,none⟩) 1 1]).run prog (V.alloc (.cells #[.slice x.p x.h.pats.length x.q,.int .i64 x.h.whole] 74))=.ok (.slice (some ⟨g,0,none⟩) (X.length+1) c') w'/\Below B V w'/\Jt B w' (.slice (some ⟨g,0,none⟩) (X.length+1) c') (X++[x])/\(∀b,b<V.heap.size->(Value.slice p X.length q).ownBlock≠some b->w'.heap[b]? =V.heap[b]?):=by
 obtain⟨g,c',w',hr,hb,ho,hk,hg⟩:=G4 (V:=V) underlying41 Ii rfl dE h.own hB #[.slice x.p x.h.pats.length x.q,.int .i64 x.h.whole] rfl (fun u hu=>QW x u hu) mL oM ty;refine⟨g,c',w',hr,hb,⟨?_,fun y hy=>?_⟩,hk⟩
 .rw[List.length_append,FS];exact ho
 .rcases List.mem_append.1 hy with e|e
  .exact(h.nums y e).grow hk hg
  .simp only[List.mem_singleton]at e;subst e;exact hx.grow hk hg
def f5(a b c d e:Value)(j:Nat):Value:=if j=0 then a else if j=1 then b else if j=2 then c else if j=3 then d else e
theorem FE(a b c d e:Value):∀i,i<(#[a,b,c,d,e]:Array Value).size->(#[a,b,c,d,e]:Array Value)[i]? =some (f5 a b c d e i):=by
 intro i hi;have hi':i<5:=hi;obtain rfl|rfl|rfl|rfl|rfl:i=0\/i=1\/i=2\/i=3\/i=4:=oM
 all_goals rfl
structure NW(w:World)(v0 v1 v2 v3:Value)(R:Nat)(sv:Value)(X:List Cl)(v:World):Prop where
 cx:CX w v0 v1 v2 v3 v
 rb:v.rowIs (w.heap.size+1) 43 5 (f5 (.slice none 0 0) (.slice none 0 0) (.slice none 0 0) (.slice none 0 0) (.slice none 0 0))
 rr:v.rowIs R 43 5 (f5 v0 v1 v2 v3 sv)
 cs:Jt (R+1) v sv X
 hR:w.heap.size+1<R
 ap:∀x∈X,∀b o s,x.p=some ⟨b,o,s⟩->R<b
theorem NW.next{w:World}{v0 v1 v2 v3:Value}{R:Nat}{sv:Value}{X:List Cl}{v v':World}(h:NW w v0 v1 v2 v3 R sv X v)(k:Below v.heap.size v v'):NW w v0 v1 v2 v3 R sv X v':=
 ⟨h.cx.next k,h.rb.of_block (k.block _ h.rb.lt),h.rr.of_block (k.block _ h.rr.lt),h.cs.below k,h.hR,h.ap⟩
theorem NW.put{w:World}{v0 v1 v2 v3:Value}{R:Nat}{sv:Value}{X:List Cl}{v w':World}{g n c':Nat}{Y:List Cl}(h:NW w v0 v1 v2 v3 R sv X v)(hb:Below (R+1) v w')(hc:Jt (R+1) w' (.slice (some ⟨g,0,none⟩) n c') Y)(hap:∀x∈Y,∀b o s,x.p=some ⟨b,o,s⟩->R<b):
 w'.cell? ⟨R,4,none⟩=some sv/\w'.frozen? ⟨R,4,none⟩=false/\NW w v0 v1 v2 v3 R (.slice (some ⟨g,0,none⟩) n c') Y (w'.setCell ⟨R,4,none⟩ (.slice (some ⟨g,0,none⟩) n c')):=by
 have hR:=h.hR;have hr':w'.rowIs R 43 5 (f5 v0 v1 v2 v3 sv):=h.rr.of_block (hb.block R (Nat.lt_succ_self _));have ho:∀b,b≠R->(w'.setCell ⟨R,4,none⟩ (.slice (some ⟨g,0,none⟩) n c')).heap[b]? =w'.heap[b]? :=fun b hne=>gE hne;have hgR:g≠R:=fun e=>by have:=(hc.own.lt g rfl).1;omega
 refine⟨hr'.cell (i:=4) dE,hr'.frozen 4,(h.cx.on (hb.mono oM)).on ((Below.refl _ _).setCell (by show w.heap.size+1<=R;omega) _),(h.rb.of_block (hb.block _ oM)).setOther (by show w.heap.size+1≠R;omega) _,(hr'.set 4 _).congr (fun j hj=>?_),⟨Ac hc.own (fun b hbb=>ho b Zhp),fun x hx=>?_⟩,h.hR,hap⟩
 .have hj':j<5:=hj;obtain rfl|rfl|rfl|rfl|rfl:j=0\/j=1\/j=2\/j=3\/j=4:=oM
  all_goals simp[f5]
 .rcases hc.nums x hx with e|⟨b,o,e,hn,h1⟩
  .exact .inl e
  .refine .inr ⟨b,o,e,hn,fun j hj=>?_⟩;have hne:b≠R:=by have:=hap x hx b o none e;omega
   rw[gC (ho b hne)];exact h1 j hj
theorem Jt.off{B:Nat}{v v':World}{sv:Value}{X:List Cl}{Z R:Nat}(h:Jt B v sv X)(hZ:Z<R)(hB:R<B)(ap:∀x∈X,∀b o s,x.p=some ⟨b,o,s⟩->R<b)(k:∀b,b≠Z->v'.heap[b]? =v.heap[b]?):Jt B v' sv X:=by
 refine⟨Ac h.own (fun b hb=>k b (by have:=(h.own.lt b hb).1;omega)),fun x hx=>?_⟩;rcases h.nums x hx with e|⟨b,o,e,hn,h1⟩
 .exact .inl e
 .have:=ap x hx b o none e;exact .inr ⟨b,o,e,hn,fun j hj=>by rw[gC (k b oM)];exact h1 j hj⟩
theorem J3(v0 v1 v2 v3:Value)(c:Cd)(hk:Ba c)(w:World)(hv:CE w v0 v1 v2 v3 c)(hc:(Ai c).1=0):
 Calls prog 9 #[.agg #[v0,v1,v2,v3]] w fun e w'=>∃p q X,e=.returned (.tuple #[.agg #[v0,v1,v2,v3,.slice p c.slots.length q],.int .i64 0])/\X.map (·.h)=BE c/\Yg w' (.slice p c.slots.length q) X/\Below w.heap.size w w'/\(∀b o s,p=some ⟨b,o,s⟩->w.heap.size<=b)/\∀x∈X,∀b o s,x.p=some ⟨b,o,s⟩->w.heap.size<=b:=by
 have hg:=(Ez hc).1;have KC:=Hr v0 v1 v2 v3 c hk;rw[hc]at KC;obtain⟨F,hF⟩:∃E,(Ai c).2=E:=⟨_,rfl⟩
 rw[hF]at KC;have HKC:Hid (∀v,Below w.heap.size w v->Calls prog 19 #[.agg #[v0,v1,v2,v3]] v fun e w'=>e=.returned (.tuple #[.int .i64 0,.int .i64 F])/\Below v.heap.size v w'):=fun v hb=>KC v (hv.below hb);have HKF:Hid (∀s∈c.slots,∀v,Below w.heap.size w v->Calls prog 24 #[.agg #[v0,v1,v2,v3],.agg #[.int .i64 s.ty.kind,.int .i64 s.ty.par,.bool s.keep,.int .u32 s.bits,.int .i64 s.int_]] v fun e w'=>∃p q,e=.returned (.agg #[.slice p (Bf c s).pats.length q,.int .i64 (Bf c s).whole])/\C6 w' p (Bf c s).pats/\Below v.heap.size v w'/\∀b o s,p=some ⟨b,o,s⟩->v.heap.size<=b):=fun s hs v hb=>Kk v0 v1 v2 v3 c hg s (hg.slots s hs) ⟨(hk.sbits s hs).1,(hk.sbits s hs).2⟩ v (hv.below hb);obtain⟨p0,q0,rfl,-⟩:=id hv.sign;obtain⟨p1,q1,rfl,-⟩:=id hv.regs;obtain⟨p2,q2,rfl,-⟩:=id hv.slots;obtain⟨p3,q3,rfl,-⟩:=id hv.list;have HSL:Hid (AV 5 Jf w (.slice p2 c.slots.length q2) c.slots):=hv.slots;have hn2:=hg.slotsL;obtain⟨n2,hnn⟩:∃n,c.slots.length=n:=⟨_,rfl⟩
 have HN2:Hid (c.slots.length=n2):=hnn;rw[hnn]at hn2 HKC HKF HSL |-;obtain⟨n0,hn0⟩:∃n,c.sign.length=n:=⟨_,rfl⟩
 obtain⟨n1,hn1⟩:∃n,c.regs.length=n:=⟨_,rfl⟩
 obtain⟨n3,hn3⟩:∃n,c.list.length=n:=⟨_,rfl⟩
 rw[hn0,hn1,hn3]at HKC HKF |-;have HX0:Hid (CX w (.slice p0 n0 q0) (.slice p1 n1 q1) (.slice p2 n2 q2) (.slice p3 n3 q3) ((w.alloc (.cells #[.slice p0 n0 q0,.slice p1 n1 q1,.slice p2 n2 q2,.slice p3 n3 q3] 27)).alloc (.cells #[.slice none 0 0,.slice none 0 0,.slice none 0 0,.slice none 0 0,.slice none 0 0] 43))):=(CX.start w (.slice p0 n0 q0) (.slice p1 n1 q1) _ (.slice p3 n3 q3)).next (A0 _ _);have HRB0:Hid (((w.alloc (.cells #[.slice p0 n0 q0,.slice p1 n1 q1,.slice p2 n2 q2,.slice p3 n3 q3] 27)).alloc (.cells #[.slice none 0 0,.slice none 0 0,.slice none 0 0,.slice none 0 0,.slice none 0 0] 43)).rowIs (w.heap.size+1) 43 5 (f5 (.slice none 0 0) (.slice none 0 0) (.slice none 0 0) (.slice none 0 0) (.slice none 0 0))):=by
  have h9:=World.rowIs_alloc (w.alloc (.cells #[(.slice p0 n0 q0),(.slice p1 n1 q1),.slice p2 n2 q2,(.slice p3 n3 q3)] 27)) #[.slice none 0 0,.slice none 0 0,.slice none 0 0,.slice none 0 0,.slice none 0 0] 43 _ (FE _ _ _ _ _);rw[show(w.alloc (.cells #[(.slice p0 n0 q0),(.slice p1 n1 q1),.slice p2 n2 q2,(.slice p3 n3 q3)] 27)).heap.size=w.heap.size+1 by simp]at h9;exact h9
 obtain⟨b1,b2,c0,c1,c2,c3⟩:=HX0.out;clear KC hF hc hv hk hnn hn0 hn1 hn3;go_enter func9,ntmps9;go_wp2_with(go_at_call 19;(with_reducible refine(HKC.out _ HX0.out.bel).mono ?_);rintro e w1 ⟨rfl,hb1⟩;have HNW:Hid (NW w (.slice p0 n0 q0) (.slice p1 n1 q1) (.slice p2 n2 q2) (.slice p3 n3 q3) w1.heap.size (.slice none 0 0) [] (w1.alloc (.cells #[(.slice p0 n0 q0),(.slice p1 n1 q1),.slice p2 n2 q2,(.slice p3 n3 q3),.slice none 0 0] 43))):=(by have hcx:=HX0.out.next hb1;have hrb:=HRB0.out.of_block (hb1.block _ HRB0.out.lt);exact⟨hcx.next (A0 _ _),hrb.alloc _,World.rowIs_alloc w1 _ _ _ (FE _ _ _ _ _),Jt.nil _ _,hrb.lt,fun x hx=>by cases hx⟩);obtain⟨-,-,c0,c1,c2,c3⟩:=HX0.out.next hb1;have a0:=(fun o=>kc (A0 w1 o) c0);have a1:=(fun o=>kc (A0 w1 o) c1);have a2:=(fun o=>kc (A0 w1 o) c2);have a3:=(fun o=>kc (A0 w1 o) c3);clear hb1);obtain⟨R,hR⟩:=gA (w1.heap.size)
 obtain⟨W1,hW1⟩:∃W,w1.alloc (.cells #[(.slice p0 n0 q0),(.slice p1 n1 q1),.slice p2 n2 q2,(.slice p3 n3 q3),.slice none 0 0] 43)=W:=⟨_,rfl⟩
 rw[hW1,hR]at HNW;try rw[hW1]
 try rw[hR]
 clear hW1 hR c0 c1 c2 c3 a0 a1 a2 a3 b1 b2 HRB0
 go_loopw [7] (fun iv wr=>∃ (j:Nat) (p:Option Addr) (q:Nat) (X:List Cl),j<=n2/\iv=.int .i64 (j:Int)/\Hid (NW w (.slice p0 n0 q0) (.slice p1 n1 q1) (.slice p2 n2 q2) (.slice p3 n3 q3) R (.slice p X.length q) X wr)/\Hid (X.map (·.h)=(BE c).take j)) (fun iv _=>n2-(intOf iv).toNat)
 case atStart=>exact⟨0,none,0,[],gI _,rfl,HNW.out,by show _=_;simp⟩
 case round=>
  obtain⟨j,p,q,X,hj,rfl,hnw,hmap⟩:=hrel;obtain⟨b1,b2,c0,c1,c2,c3⟩:=hnw.cx;have r4:wr.cell? ⟨R,4,none⟩=some (.slice p X.length q):=hnw.rr.cell (i:=4) dE;have hXl:X.length=j:=by
   have h5:=congrArg List.length hmap.out;rw[List.length_map,List.length_take,BE,List.length_map,HN2.out]at h5;omega
  clear HNW;by_cases hlt:j<n2
  .have hll:j<c.slots.length:=by rw[HN2.out];exact hlt
   obtain⟨lb,lo,rfl,hx⟩:=HSL.at hll;have KF1:=HKF.out c.slots[j] (gD hll);have HMN:Hid (∀h',h'=Bf c c.slots[j]->(X.map (·.h))++[h']=(BE c).take (j+1)):=fun h' e=>by
    rw[hmap.out,List.take_succ_eq_append_getElem (by rw[BE,List.length_map];exact hll),Mg _ hll,e]
   obtain⟨s9,hs9⟩:∃s,c.slots[j]=s:=⟨_,rfl⟩
   rw[hs9]at hx KF1 HMN;obtain⟨H9,hH9⟩:∃h,Bf c s9=h:=⟨_,rfl⟩
   rw[hH9]at KF1 HMN;obtain⟨⟨tk,tp⟩,kp,sb,si⟩:=s9;simp only at KF1;have y0:=kc b1 (hx.at 0 rfl);have y1:=kc b1 (hx.at 1 rfl);have y2:=kc b1 (hx.at 2 rfl);have y3:=kc b1 (hx.at 3 rfl);have y4:=kc b1 (hx.at 4 rfl);rw[Nat.add_zero]at y0;simp only[Jf]at hx;have HKF1:Hid _:=KF1;have HXW:Hid (Ar w lb (lo+j*5) (Jf ⟨⟨tk,tp⟩,kp,sb,si⟩)):=hx;obtain⟨N,hN⟩:=gA (X.length)
   have HNX:Hid (X.length=N):=hN;have hnw2:=hnw.out;rw[hN]at r4 hnw2;have HNW2:Hid _:=hnw2;try rw[hN]
   have i1:(0:Int)<=(j:Int):=oM;have i2:(j:Int)<(n2:Int):=oM;have wi:IntKind.i64.wrap ((j:Int)+1)=((j+1:Nat):Int):=by rw[IntKind.wrap_i64];omega
   have HXL:Hid (X.length=j):=hXl;clear KF1 hx hs9 hH9 hnw2 hN hmap hXl;go_wp2;refine rG (fun v=>v.cell? ⟨w.heap.size,0,none⟩=some (.slice p0 n0 q0)/\v.cell? ⟨w.heap.size,1,none⟩=some (.slice p1 n1 q1)/\v.cell? ⟨w.heap.size,2,none⟩=some (.slice (some ⟨lb,lo,none⟩) n2 q2)/\v.cell? ⟨w.heap.size,3,none⟩=some (.slice p3 n3 q3)/\v.cell? ⟨lb,lo+j*5,none⟩=some (.int .i64 tk)/\v.cell? ⟨lb,lo+j*5+1,none⟩=some (.int .i64 tp)/\v.cell? ⟨lb,lo+j*5+2,none⟩=some (.bool kp)/\v.cell? ⟨lb,lo+j*5+3,none⟩=some (.int .u32 sb)/\v.cell? ⟨lb,lo+j*5+4,none⟩=some (.int .i64 si)) fun hJ=>?_;refine Tf 0 2 3 4 5 6 ?_;refine Bo 7 ?_;clear hJ;refine wpAnyH_ready (rs:=[1,8]) kR sM ?_;refine DP 1 (fun K hK=>?_) ?_
   .go_simp;refine Aq hK fun hJ=>?_;clear hK K;clear hJ;refine Aw 8 fun K hK=>?_;go_simp;(go_at_call 24;(with_reducible refine(HKF1.out _ (bel b1 (A9 _))).mono ?_);rintro e w2 ⟨pf,qf,rfl,hnum,hb2,hfr⟩;have hb22:Below wr.heap.size wr w2:=bel (A9 _) hb2;have h22:=hnw.out.next hb22;obtain⟨g,c',w3,hrun,hb3,hcs3,hoth⟩:=h22.cs.push (Nat.succ_le_of_lt h22.rr.lt) (by have h5:=HXL.out;omega) ⟨pf,qf,H9⟩ (hnum.apart (fun b o s e e2=>by have h5:=hfr b o s e;have h6:=(hnw.out.cs.own.lt b e2).2;have h7:wr.drew.heap.size=wr.heap.size:=rfl;omega)) 41;have hap3:∀x∈X++[(⟨pf,qf,H9⟩:Cl)],∀b o s,x.p=some ⟨b,o,s⟩->R<b:=(by intro x hx b o s e;rcases List.mem_append.1 hx with h|h;exact hnw.out.ap x h b o s e;simp only[List.mem_singleton]at h;subst h;have h5:=hfr b o s e;have h6:=hnw.out.rr.lt;have h7:wr.drew.heap.size=wr.heap.size:=rfl;omega);obtain⟨k4,z4,hnw3⟩:=h22.put hb3 hcs3 hap3;rw[HNX.out]at hrun k4 hnw3;have HRUN:Hid _:=hrun;have HNW3:Hid (NW w (.slice p0 n0 q0) (.slice p1 n1 q1) (.slice (some ⟨lb,lo,none⟩) n2 q2) (.slice p3 n3 q3) R (.slice (some ⟨g,0,none⟩) (N+1) c') (X++[(⟨pf,qf,H9⟩:Cl)]) (w3.setCell ⟨R,4,none⟩ (.slice (some ⟨g,0,none⟩) (N+1) c'))):=hnw3;have hcx2:=h22.cx;have hcx3:=hcx2.on (hb3.mono (by have:=h22.hR;omega));obtain⟨b21,-,d0,d1,d2,d3⟩:=hcx2;obtain⟨b31,-,e0,e1,e2,e3⟩:=hcx3;have u4:w2.cell? ⟨R,4,none⟩=some (.slice p N q):=Zhj;have g0:=(fun o=>kc (A0 w2 o) d0);have g1:=(fun o=>kc (A0 w2 o) d1);have g2:=(fun o=>kc (A0 w2 o) d2);have g3:=(fun o=>kc (A0 w2 o) d3);have g4:=(fun o=>kc (A0 w2 o) u4);have m0:=kc b21 (HXW.out.at 0 rfl);have m1:=kc b21 (HXW.out.at 1 rfl);have m2:=kc b21 (HXW.out.at 2 rfl);have m3:=kc b21 (HXW.out.at 3 rfl);have m4:=kc b21 (HXW.out.at 4 rfl);rw[Nat.add_zero]at m0;have l0:=(fun o=>kc (A0 w2 o) m0);have l1:=(fun o=>kc (A0 w2 o) m1);have l2:=(fun o=>kc (A0 w2 o) m2);have l3:=(fun o=>kc (A0 w2 o) m3);have l4:=(fun o=>kc (A0 w2 o) m4);have t0:=kc b31 (HXW.out.at 0 rfl);have t1:=kc b31 (HXW.out.at 1 rfl);have t2:=kc b31 (HXW.out.at 2 rfl);have t3:=kc b31 (HXW.out.at 3 rfl);have t4:=kc b31 (HXW.out.at 4 rfl);rw[Nat.add_zero]at t0;obtain⟨b41,-,o0,o1,o2,o3⟩:=HNW3.out.cx;have x0:(w3.setCell ⟨R,4,none⟩ (.slice (some ⟨g,0,none⟩) (N+1) c')).cell? ⟨lb,lo+j*5,none⟩=some (.int .i64 tk):=kc b41 (HXW.out.at 0 rfl);have x1:=kc b41 (HXW.out.at 1 rfl);have x2:=kc b41 (HXW.out.at 2 rfl);have x3:=kc b41 (HXW.out.at 3 rfl);have x4:=kc b41 (HXW.out.at 4 rfl);clear b41 hnum hb2 hfr hb22 h22 hrun hb3 hcs3 hoth hap3 hnw3 b21 b31);try(go_wp2_with fail)
    refine Aq hK fun hJ=>?_;clear hK K;clear hJ;refine Aw 9 fun K hK=>?_;exact Zbh
   refine DP 8 (fun K hK=>?_) AllReadyH.nil;go_simp;(go_at_call 24;(with_reducible refine(HKF1.out _ (bel b1 (A9 _))).mono ?_);rintro e w2 ⟨pf,qf,rfl,hnum,hb2,hfr⟩;have hb22:Below wr.heap.size wr w2:=bel (A9 _) hb2;have h22:=hnw.out.next hb22;obtain⟨g,c',w3,hrun,hb3,hcs3,hoth⟩:=h22.cs.push (Nat.succ_le_of_lt h22.rr.lt) (by have h5:=HXL.out;omega) ⟨pf,qf,H9⟩ (hnum.apart (fun b o s e e2=>by have h5:=hfr b o s e;have h6:=(hnw.out.cs.own.lt b e2).2;have h7:wr.drew.heap.size=wr.heap.size:=rfl;omega)) 41;have hap3:∀x∈X++[(⟨pf,qf,H9⟩:Cl)],∀b o s,x.p=some ⟨b,o,s⟩->R<b:=(by intro x hx b o s e;rcases List.mem_append.1 hx with h|h;exact hnw.out.ap x h b o s e;simp only[List.mem_singleton]at h;subst h;have h5:=hfr b o s e;have h6:=hnw.out.rr.lt;have h7:wr.drew.heap.size=wr.heap.size:=rfl;omega);obtain⟨k4,z4,hnw3⟩:=h22.put hb3 hcs3 hap3;rw[HNX.out]at hrun k4 hnw3;have HRUN:Hid _:=hrun;have HNW3:Hid (NW w (.slice p0 n0 q0) (.slice p1 n1 q1) (.slice (some ⟨lb,lo,none⟩) n2 q2) (.slice p3 n3 q3) R (.slice (some ⟨g,0,none⟩) (N+1) c') (X++[(⟨pf,qf,H9⟩:Cl)]) (w3.setCell ⟨R,4,none⟩ (.slice (some ⟨g,0,none⟩) (N+1) c'))):=hnw3;have hcx2:=h22.cx;have hcx3:=hcx2.on (hb3.mono (by have:=h22.hR;omega));obtain⟨b21,-,d0,d1,d2,d3⟩:=hcx2;obtain⟨b31,-,e0,e1,e2,e3⟩:=hcx3;have u4:w2.cell? ⟨R,4,none⟩=some (.slice p N q):=Zhj;have g0:=(fun o=>kc (A0 w2 o) d0);have g1:=(fun o=>kc (A0 w2 o) d1);have g2:=(fun o=>kc (A0 w2 o) d2);have g3:=(fun o=>kc (A0 w2 o) d3);have g4:=(fun o=>kc (A0 w2 o) u4);have m0:=kc b21 (HXW.out.at 0 rfl);have m1:=kc b21 (HXW.out.at 1 rfl);have m2:=kc b21 (HXW.out.at 2 rfl);have m3:=kc b21 (HXW.out.at 3 rfl);have m4:=kc b21 (HXW.out.at 4 rfl);rw[Nat.add_zero]at m0;have l0:=(fun o=>kc (A0 w2 o) m0);have l1:=(fun o=>kc (A0 w2 o) m1);have l2:=(fun o=>kc (A0 w2 o) m2);have l3:=(fun o=>kc (A0 w2 o) m3);have l4:=(fun o=>kc (A0 w2 o) m4);have t0:=kc b31 (HXW.out.at 0 rfl);have t1:=kc b31 (HXW.out.at 1 rfl);have t2:=kc b31 (HXW.out.at 2 rfl);have t3:=kc b31 (HXW.out.at 3 rfl);have t4:=kc b31 (HXW.out.at 4 rfl);rw[Nat.add_zero]at t0;obtain⟨b41,-,o0,o1,o2,o3⟩:=HNW3.out.cx;have x0:(w3.setCell ⟨R,4,none⟩ (.slice (some ⟨g,0,none⟩) (N+1) c')).cell? ⟨lb,lo+j*5,none⟩=some (.int .i64 tk):=kc b41 (HXW.out.at 0 rfl);have x1:=kc b41 (HXW.out.at 1 rfl);have x2:=kc b41 (HXW.out.at 2 rfl);have x3:=kc b41 (HXW.out.at 3 rfl);have x4:=kc b41 (HXW.out.at 4 rfl);clear b41 hnum hb2 hfr hb22 h22 hrun hb3 hcs3 hoth hap3 hnw3 b21 b31);try(go_wp2_with fail)
   refine Aq hK fun hJ=>?_;clear hK K;clear hJ;refine wpAnyH_ready (rs:=[1,9]) kR sM ?_;refine DP 1 (fun K hK=>?_) ?_
   .go_simp;refine Aq hK fun hJ=>?_;clear hK K;clear hJ;refine Aw 9 fun K hK=>?_;exact Zbh
   refine DP 9 (fun K hK=>?_) AllReadyH.nil;go_simp;refine Aq hK fun hJ=>?_;clear hK K;clear hJ;refine Aw 1 fun K hK=>?_;exact Zbh
  .have hjn:j=n2:=oM;have HMF:Hid (X.map (·.h)=BE c):=by
    show _=_;have h5:=hmap.out;rw[hjn,<-HN2.out,List.take_of_length_le (by rw[BE,List.length_map];exact gF _)]at h5;exact h5
   have e1:¬ (j:Int)<(n2:Int):=oM;have r0:wr.cell? ⟨R,0,none⟩=some (.slice p0 n0 q0):=hnw.rr.cell (i:=0) dE;have r1:wr.cell? ⟨R,1,none⟩=some (.slice p1 n1 q1):=hnw.rr.cell (i:=1) dE;have r2:wr.cell? ⟨R,2,none⟩=some (.slice p2 n2 q2):=hnw.rr.cell (i:=2) dE;have r3:wr.cell? ⟨R,3,none⟩=some (.slice p3 n3 q3):=hnw.rr.cell (i:=3) dE;have k0:wr.cell? ⟨w.heap.size+1,0,none⟩=some (.slice none 0 0):=hnw.rb.cell (i:=0) dE;have k1:wr.cell? ⟨w.heap.size+1,1,none⟩=some (.slice none 0 0):=hnw.rb.cell (i:=1) dE;have k2:wr.cell? ⟨w.heap.size+1,2,none⟩=some (.slice none 0 0):=hnw.rb.cell (i:=2) dE;have k3:wr.cell? ⟨w.heap.size+1,3,none⟩=some (.slice none 0 0):=hnw.rb.cell (i:=3) dE;have k4:wr.cell? ⟨w.heap.size+1,4,none⟩=some (.slice none 0 0):=hnw.rb.cell (i:=4) dE;have z0:=hnw.rb.frozen 0;have z1:=hnw.rb.frozen 1;have z2:=hnw.rb.frozen 2;have z3:=hnw.rb.frozen 3;have z4:=hnw.rb.frozen 4;have hne:R≠w.heap.size+1:=by have:=hnw.hR;omega
   obtain⟨N,hN⟩:=gA (X.length)
   have HNX:Hid (X.length=N):=hN;rw[hN]at r4;clear hlt hmap hXl hN;go_wp2;refine bodyPost_ret (by simp[results,results9,go_sem, *];try rfl) rfl ?_;have ho:∀ (a b c d e:Value) (x:Nat),x≠w.heap.size+1->(((((wr.setCell ⟨w.heap.size+1,0,none⟩ a).setCell ⟨w.heap.size+1,1,none⟩ b).setCell ⟨w.heap.size+1,2,none⟩ c).setCell ⟨w.heap.size+1,3,none⟩ d).setCell ⟨w.heap.size+1,4,none⟩ e).heap[x]? =wr.heap[x]? :=fun a b c d e x hx=>by
    rw[gE hx,gE hx,gE hx,gE hx,gE hx]
   have HNN:N=n2:=by
    have h5:=congrArg List.length HMF.out;rw[List.length_map,BE,List.length_map,HN2.out,HNX.out]at h5;exact h5
   refine⟨p,q,by rw[HNN],X,HMF.out,?_,?_,fun b o s e=>?_,fun x hx b o s e=>by have h5:=hnw.ap x hx b o s e;have h6:=hnw.hR;omega⟩
   rotate_right 1
   .have h5:=EE hnw.cs.own b o s e;have h6:=hnw.hR;omega
   .rw[<-HNN,<-HNX.out];exact(hnw.cs.off (Z:=w.heap.size+1) (by have:=hnw.hR;omega) (Nat.lt_succ_self _) hnw.ap (ho _ _ _ _ _)).cs
   .exact((((hnw.cx.bel.setCell Pd _).setCell Pd _).setCell Pd _).setCell Pd _).setCell Pd _
def MX(l:List Int):List Value:=l.map fun x=>.int .u32 x
theorem Iq(l:List Int)(x:Int):MX (l++[x])=MX l++[.int .u32 x]:=by simp[MX]
theorem RD{w:World}{B:Nat}{p:Option Addr}{q:Nat}{l:List Int}(h:w.ownsRow B 38 1 (.slice p l.length q) l.length (MX l)):Bb w p l.length (fun j=>.int .u32 (CH l j)):=by
 by_cases h0:l.length=0
 .exact .inl h0
 .obtain⟨g,cap,e,_⟩:=h.form oM;simp only[Value.slice.injEq]at e;obtain⟨rfl,-,-⟩:=e;refine .inr ⟨g,0,rfl,fun j hj=>?_⟩;rw[Nat.zero_add,h.cellAt j oM];simp[MX,CH,hj]
theorem JL:(prog.info? 38).map (fun i=>(i.zero,i.size,i.bytes))=some (some (.int .u32 0),1,4):=kR
def RdEq(c:Cd)(f f':Fr)(r r':Int):Prop:=C2 c f' r'=C2 c f r/\Aa c.regs r'=Aa c.regs r
section
variable {c : Cd} {G P : List (List Int)} {f f' : Fr} {i i' : Ad}
structure InsEq(c:Cd)(f f':Fr)(i i':Ad):Prop where
 op:i'.op=i.op
 d:Aa c.regs i'.d=Aa c.regs i.d
 n:i'.n=i.n
 bits:i'.bits=i.bits
 a:(A4 i.op).a≠0->RdEq c f f' i.a i'.a
 b:(A4 i.op).b≠0->RdEq c f f' i.b i'.b
 c:(A4 i.op).c≠0->RdEq c f f' i.c i'.c
theorem Fe(h:AS c i (A4 i.op)=true)(l:Int)(e:(A4 i.op).a=l)(h1:1<=l)(h2:l<=3):(Aa c.regs i.a).kind=l:=by
 have:=AP (BF h) oM;exact Zdb
theorem VA(h:AS c i (A4 i.op)=true)(l:Int)(e:(A4 i.op).b=l)(h1:1<=l)(h2:l<=3):(Aa c.regs i.b).kind=l:=by
 have:=AP (CQ h) oM;exact Zdb
theorem kind_c(h:AS c i (A4 i.op)=true)(l:Int)(e:(A4 i.op).c=l)(h1:1<=l)(h2:l<=3):(Aa c.regs i.c).kind=l:=by
 have:=AP (CR h) oM;exact Zdb
theorem ME(h:AS c i (A4 i.op)=true)(l:Int)(e:(A4 i.op).d=l)(h1:1<=l)(h2:l<=3):(Aa c.regs i.d).kind=l:=by
 have:=AP (Cx h) oM;exact Zdb
theorem num_rel(h:AS c i (A4 i.op)=true)(e:InsEq c f f' i i')(hn:Dk i.op=true):Lh f' i'=Lh f i:=by
 exact Zbm
theorem F4(c:Cd)(f:Fr)(r:Int)(h:Hd):(Kt c f r h).slots=f.slots/\(Kt c f r h).outs=f.outs:=by
 unfold Kt;split
 .exact⟨rfl,rfl⟩
 .split<;>exact⟨rfl,rfl⟩
theorem LY(c:Cd)(f:Fr){r d:Int}(h:Hd)(e:r.toNat≠d.toNat):C2 c (Kt c f d h) r=C2 c f r:=by
 unfold Kt;split
 .unfold C2;simp only[By _ _ e]
 .split
  .unfold C2;simp only[By _ _ e]
  .unfold C2;simp only[By _ _ e]
theorem F9(c:Cd)(f:Fr)(i:Ad):(EU c f i).slots=f.slots/\(EU c f i).outs=f.outs:=by
 unfold EU;split
 .exact⟨rfl,rfl⟩
 .exact F4 _ _ _ _
theorem FP(hk:Al i.op=true){r:Int}(hr:Af i=true->r.toNat≠i.d.toNat):C2 c (D1 c G P f i) r=C2 c f r:=by
 have sb:∀q:Int,i.op=q->(A4 q).d≠0->Af i=true:=fun q e h=>by unfold Af;rw[e];simpa using h
 rcases Da hk with o|o|o|o|o|o|o|o|o
 .have s:Af i=true:=by
   unfold Dk at o;simp only[Bool.or_eq_true,beq_iff_eq]at o;rcases(show i.op=1\/i.op=16\/i.op=17\/i.op=19\/i.op=20 by omega)with q|q|q|q|q<;>exact sb _ q dE
  rw[Cc o];unfold C2;simp only[By _ _ (hr s)]
 .have s:Af i=true:=by
   unfold Bj at o;simp only[Bool.or_eq_true,beq_iff_eq,Bool.and_eq_true,decide_eq_true_eq]at o;rcases(show i.op=2\/i.op=18\/i.op=21\/i.op=22\/i.op=23\/i.op=24\/i.op=25\/i.op=26\/i.op=27\/i.op=28 by omega)with q|q|q|q|q|q|q|q|q|q<;>exact sb _ q dE
  rw[Bp o];unfold C2;simp only[By _ _ (hr s)]
 .rw[CI o];unfold C2;simp only[By _ _ (hr (sb _ o dE))]
 .rw[CJ o];unfold C2;simp only[By _ _ (hr (sb _ o dE))]
 .rw[D7 o];rfl
 .rw[CK o];exact LY c f _ (hr (sb _ o dE))
 .rw[CM o];rfl
 .rw[AM o]
 .have s:Af i=true:=by
   unfold Bq at o;simp only[Bool.and_eq_true,decide_eq_true_eq]at o;rcases(show i.op=3\/i.op=4\/i.op=5\/i.op=6\/i.op=7\/i.op=8\/i.op=9\/i.op=10\/i.op=11\/i.op=12\/i.op=13\/i.op=14\/i.op=15 by omega)with q|q|q|q|q|q|q|q|q|q|q|q|q<;>exact sb _ q dE
  rw[Bt o];unfold EU;split
  .unfold C2;simp only[By _ _ (hr s)]
  .exact LY c f _ (hr s)
end
def Jh(w:World)(v:Value)(L:List (List Int)):Prop:=∃p c,v=.slice p L.length c/\∀i (hi:i<L.length),∃b o q d,p=some ⟨b,o,none⟩/\w.cell? ⟨b,o+i,none⟩=some (.slice q (L[i]).length d)/\Bb w q (L[i]).length (fun j=>.int .u32 (CH L[i] j))
theorem Jh.below{w w':World}{v:Value}{L:List (List Int)}(h:Jh w v L)(k:Below w.heap.size w w'):Jh w' v L:=by
 obtain⟨p,c,e,h⟩:=h;refine⟨p,c,e,fun i hi=>?_⟩;obtain⟨b,o,q,d,e1,e2,e3⟩:=h i hi;exact⟨b,o,q,d,e1,kc k e2,e3.below k⟩
theorem F7.vc{T:Nat->Prop}{w:World}{v:Value}{L:List (List Int)}(h:F7 T w v L):Jh w v L:=h.cellsOf
theorem NJ:∀ {l:List BM} {m:List Nat},m.length≠l.length->C8 l m=false
 |[],[],h=>absurd rfl h
 |[],_::_,_=>rfl
 |_::_,[],_=>rfl
 |p::l,n::m,h=>by
  have:C8 l m=false:=NJ UQ;simp[C8,this]
theorem NI:∀ {l:List BM} {m:List Nat} {k:Nat} (h1:k<l.length) (h2:k<m.length),((m[k]:Nat):Int)≠Dh l[k]->C8 l m=false
 |[],m,k,h,_,_=>by simp at h
 |p::l,[],k,_,h,_=>by simp at h
 |p::l,n::m,0,_,_,hne=>by
  have:decide ((n:Int)=Dh p)=false:=by simpa using hne
  simp[C8,this]
 |p::l,n::m,k+1,h1,h2,hne=>by
  have:C8 l m=false:=NI (k:=k) (by simpa using h1) (by simpa using h2) (by simpa using hne);simp[C8,this]
theorem Lx:∀ {l:List BM} {m:List Nat},m.length=l.length->(∀k (h1:k<l.length) (h2:k<m.length),((m[k]:Nat):Int)=Dh l[k])->C8 l m=true
 |[],[],_,_=>rfl
 |[],_::_,h,_=>by simp at h
 |_::_,[],h,_=>by simp at h
 |p::l,n::m,h,ha=>by
  have h0:((n:Nat):Int)=Dh p:=ha 0 sM sM;have:C8 l m=true:=Lx UQ fun k h1 h2=>by
   have:=ha (k+1) sO sO;simpa using this
  simp[C8,h0,this]
theorem EG(v0:Value)(l:List BM)(hl:l.length<=64)(hM:∀p∈l,p.name.size<=140737488351232)(gv:Value)(L:List (List Int))(hL:L.length<=140737488351232)(hLL:∀x∈L,x.length<=140737488351232)(w:World)(hr:AV 3 AY w v0 l)(hg:Jh w gv L):
 Calls prog 41 #[v0,gv] w fun e w'=>e=.returned (.bool (C8 l (L.map (·.length))))/\Below w.heap.size w w':=by
 obtain⟨p0,q0,rfl,-⟩:=id hr;obtain⟨pg,qg,rfl,hcell⟩:=hg;have HR:Hid (AV 3 AY w (.slice p0 l.length q0) l):=hr;have HCELL:Hid (∀i (hi:i<L.length),∃b o q d,pg=some ⟨b,o,none⟩/\w.cell? ⟨b,o+i,none⟩=some (.slice q (L[i]).length d)/\Bb w q (L[i]).length (fun j=>.int .u32 (CH L[i] j))):=hcell;have HNM:Hid (∀p∈l,p.name.size<=140737488351232):=hM;have HLL:Hid (∀x∈L,x.length<=140737488351232):=hLL;by_cases hne:L.length=l.length
 .obtain⟨RES,hRES⟩:∃X,C8 l (L.map (·.length))=X:=⟨_,rfl⟩
  rw[hRES];have HRES:Hid (C8 l (L.map (·.length))=RES):=hRES;have HNE:Hid (L.length=l.length):=hne;obtain⟨N,hN⟩:=gA (l.length)
  have HN:Hid (l.length=N):=hN;rw[hne];rw[hN]at hl HR |-;clear hr hcell hM hLL hRES hne hN hL;go_enter func41,ntmps41;go_wp2
  go_loopw [5] (fun iv wr=>Below w.heap.size w wr/\∃j:Nat,j<=N/\iv=.int .i64 (j:Int)/\Hid (∀k (h1:k<l.length) (h2:k<L.length),k<j->((L[k].length:Nat):Int)=Dh l[k])) (fun iv _=>N-(intOf iv).toNat)
  case atStart=>exact⟨BZ _,0,gI _,rfl,fun k _ _ h=>absurd h (Nat.not_lt_zero _)⟩
  case round=>
   obtain⟨hb,j,hj,rfl,hall⟩:=hrel;by_cases hlt:j<N
   .have hll:j<l.length:=by rw[HN.out];exact hlt
    have hLl:j<L.length:=by rw[HNE.out];exact hll
    obtain⟨lb,lo,rfl,hx⟩:=HR.at hll;obtain⟨gb,go,gq,gd,rfl,hgc,-⟩:=HCELL.out j hLl;have KN:=Hq l[j] (HNM.out _ (gD hll));have hlen:=HLL.out _ (gD hLl);have NX:Hid (((L[j].length:Nat):Int)=Dh l[j]->∀k (h1:k<l.length) (h2:k<L.length),k<j+1->((L[k].length:Nat):Int)=Dh l[k]):=fun h k h1 h2 h3=>by
     by_cases e:k=j
     .subst e;exact h
     .exact hall.out k h1 h2 oM
    have NB:Hid (((L[j].length:Nat):Int)≠Dh l[j]->false=RES):=fun h=>by
     rw[<-HRES.out];exact(NI (k:=j) hll (by simp;exact hLl) UQ).symm
    obtain⟨U,hU⟩:=gA (Dh l[j])
    obtain⟨V,hV⟩:=gA (L[j].length)
    rw[hU]at KN NX NB;rw[hV]at hgc hlen NX NB;obtain⟨⟨nm,K9,L9⟩,hT⟩:∃T:BM,l[j]=T:=⟨_,rfl⟩
    rw[hT]at hx KN;unfold pv at KN;simp only at KN;have HK:Hid (∀v,Calls prog 61 #[.agg #[.string nm,.int .i64 K9,.int .i64 L9]] v fun e w'=>e=.returned (.int .i64 U)/\Below v.heap.size v w'):=KN;have y0:wr.cell? ⟨lb,lo+j*3,none⟩=some (.string nm):=kc hb (hx.at 0 rfl);have y1:wr.cell? ⟨lb,lo+j*3+1,none⟩=some (.int .i64 K9):=kc hb (hx.at 1 rfl);have y2:wr.cell? ⟨lb,lo+j*3+2,none⟩=some (.int .i64 L9):=kc hb (hx.at 2 rfl);have y3:=kc hb hgc;have HB:Hid (Below w.heap.size w wr):=hb;have i1:(0:Int)<=(j:Int):=oM;have i2:(j:Int)<(N:Int):=oM;clear KN hx hgc hall hT hU hV hb;by_cases hX:((V:Nat):Int)=U
    .have hb1:((V:Int) != U)=false:=by simpa using hX
     have HNX:=NX.out hX;have HNX2:Hid _:=HNX;clear hX HNX NX NB;go_wp2;refine rG (fun v=>v.cell? ⟨gb,go+j,none⟩=some (.slice gq V gd)/\v.cell? ⟨lb,lo+j*3,none⟩=some (.string nm)/\v.cell? ⟨lb,lo+j*3+1,none⟩=some (.int .i64 K9)/\v.cell? ⟨lb,lo+j*3+2,none⟩=some (.int .i64 L9)) fun hJ=>?_;refine Tf 0 1 2 3 4 5 ?_;refine Tc 6 7 8 ?_;clear hJ;refine Aw 9 fun K hK=>?_;go_simp;(go_at_call 61;(with_reducible refine(HK.out _).mono ?_);rintro e w2 ⟨rfl,hb2⟩;have HB2:Hid (Below wr.heap.size wr w2):=bel (A9 _) hb2;clear hb2;have x0:=kc HB2.out y0;have x1:=kc HB2.out y1;have x2:=kc HB2.out y2;have x3:=kc HB2.out y3);try(go_wp2_with fail)
     refine Aq hK fun hJ=>?_;clear hK K;refine Bo 10 ?_;refine wpAnyH_done kR ?_ _;go_wp2;go_roundw
     case rel=>exact⟨bel HB.out HB2.out,j+1,oM,gN,HNX2.out⟩
     case measure=>simp[intOf];omega
    .have hb1:((V:Int) != U)=true:=by simpa using hX
     have HQ:=NB.out hX;have HQF:Hid (false=RES):=HQ;clear hX HQ NX NB;go_wp2;refine rG (fun v=>v.cell? ⟨gb,go+j,none⟩=some (.slice gq V gd)/\v.cell? ⟨lb,lo+j*3,none⟩=some (.string nm)/\v.cell? ⟨lb,lo+j*3+1,none⟩=some (.int .i64 K9)/\v.cell? ⟨lb,lo+j*3+2,none⟩=some (.int .i64 L9)) fun hJ=>?_;refine Tf 0 1 2 3 4 5 ?_;refine Tc 6 7 8 ?_;clear hJ;refine Aw 9 fun K hK=>?_;go_simp;(go_at_call 61;(with_reducible refine(HK.out _).mono ?_);rintro e w2 ⟨rfl,hb2⟩;have HB2:Hid (Below wr.heap.size wr w2):=bel (A9 _) hb2;clear hb2;have x0:=kc HB2.out y0;have x1:=kc HB2.out y1;have x2:=kc HB2.out y2;have x3:=kc HB2.out y3);try(go_wp2_with fail)
     refine Aq hK fun hJ=>?_;clear hK K;refine Bo 10 ?_;refine wpAnyH_done kR ?_ _;go_wp2;go_ret;exact⟨Ab HQF.out,bel HB.out HB2.out⟩
   have HQT:Hid (true=RES):=by
    show _=_;rw[<-HRES.out];refine(Lx (by rw[List.length_map];exact HNE.out) fun k h1 h2=>?_).symm;rw[List.length_map]at h2;have h5:=hall.out k h1 h2 (by have:=HN.out;omega);simpa using h5
   have e1:¬ (j:Int)<(N:Int):=oM;clear hall hlt;go_wp2;go_ret;exact⟨Ab HQT.out,hb⟩
 .rw[NJ (by rw[List.length_map];exact hne)];obtain⟨N,hN⟩:=gA (l.length)
  obtain⟨M,hM'⟩:∃N,L.length=N:=⟨_,rfl⟩
  rw[hN]at hne hl |-;rw[hM']at hne hL |-;have hb1:(((M:Nat):Int)==((N:Nat):Int))=false:=by have:((M:Nat):Int)≠(N:Int):=oM;simpa using this
  have hb2:(((M:Nat):Int) != ((N:Nat):Int))=true:=by have:((M:Nat):Int)≠(N:Int):=oM;simpa using this
  clear hr hcell hM hLL hN hM';go_enter func41,ntmps41;go_wp2;go_ret;exact⟨rfl,BZ _⟩
def Ju(c c':Cd)(f f':Fr)(r r':Int):Prop:=C2 c' f' r'=C2 c f r/\Aa c'.regs r'=Aa c.regs r
section
variable {c c' : Cd} {G P : List (List Int)} {f f' : Fr} {i i' : Ad}
theorem Ju.num{r r':Int}(h:Ju c c' f f' r r')(k:(Aa c.regs r).kind=1):f'.nums r'.toNat=f.nums r.toNat:=by
 obtain⟨h1,h2⟩:=h;unfold C2 at h1;rw[h2,if_pos k,if_pos k]at h1;simpa using h1
theorem Ju.whs{r r':Int}(h:Ju c c' f f' r r')(k:(Aa c.regs r).kind=2):f'.whs r'.toNat=f.whs r.toNat:=by
 obtain⟨h1,h2⟩:=h;unfold C2 at h1;rw[h2,if_neg oM,if_pos k,if_neg oM,if_pos k]at h1;simpa using h1
theorem Ju.vec{r r':Int}(h:Ju c c' f f' r r')(k:(Aa c.regs r).kind=3):f'.vecs r'.toNat=f.vecs r.toNat:=by
 obtain⟨h1,h2⟩:=h;unfold C2 at h1;rw[h2,if_neg oM,if_neg oM,if_neg oM,if_neg oM]at h1;simpa using h1
structure UK(c c':Cd)(f f':Fr)(i i':Ad):Prop where
 op:i'.op=i.op
 d:(A4 i.op).d≠0->Aa c'.regs i'.d=Aa c.regs i.d
 n:i.op≠32->i.op≠33->i'.n=i.n
 bits:i'.bits=i.bits
 a:(A4 i.op).a≠0->Ju c c' f f' i.a i'.a
 b:(A4 i.op).b≠0->Ju c c' f f' i.b i'.b
 c:(A4 i.op).c≠0->Ju c c' f f' i.c i'.c
theorem RG(c c':Cd)(f f':Fr){r r':Int}(h:Hd)(e:Aa c'.regs r'=Aa c.regs r):C2 c' (Kt c' f' r' h) r'=C2 c (Kt c f r h) r:=by
 unfold C2 Kt;rw[e];by_cases k1:(Aa c.regs r).kind=1
 .simp only[k1,if_true,Bx]
 .by_cases k2:(Aa c.regs r).kind=2
  .simp only[if_neg k1,k2,if_true,Bx];simp[Bx]
  .simp only[if_neg k1,if_neg k2,Bx]
theorem VQ(h:AS c i (A4 i.op)=true)(e:UK c c' f f' i i')(hn:Dk i.op=true):Lh f' i'=Lh f i:=by
 exact Zbm
theorem QI(h:AS c i (A4 i.op)=true)(e:UK c c' f f' i i')(hn:Bj i.op=true):ER f' i'=ER f i:=by
 unfold Bj at hn;simp only[Bool.or_eq_true,beq_iff_eq,Bool.and_eq_true,decide_eq_true_eq]at hn;have ka:∀l,(A4 i.op).a=l->1<=l->l<=3->(Aa c.regs i.a).kind=l:=fun l=>Fe h l;have wa:(A4 i.op).a=2->f'.whs i'.a.toNat=f.whs i.a.toNat:=fun q=>(e.a (by rw[q];decide)).whs (Fe h 2 q dE dE);have wb:(A4 i.op).b=2->f'.whs i'.b.toNat=f.whs i.b.toNat:=fun q=>(e.b (by rw[q];decide)).whs (VA h 2 q dE dE);have wc:(A4 i.op).c=2->f'.whs i'.c.toNat=f.whs i.c.toNat:=fun q=>(e.c (by rw[q];decide)).whs (kind_c h 2 q dE dE);unfold ER;rw[e.op,e.n oM oM];rcases(show i.op=2\/i.op=18\/i.op=21\/i.op=22\/i.op=23\/i.op=24\/i.op=25\/i.op=26\/i.op=27\/i.op=28 by omega)with o|o|o|o|o|o|o|o|o|o
 .simp[o]
 .have q:(A4 i.op).a=1:=by rw[o];decide
  have q2:=(e.a (by rw[q];decide)).num (Fe h 1 q dE dE);simp only[o,if_true];rw[q2]
 .simp[o,wa Yd]
 .exact Zed
 .exact Zed
 .exact Zed
 .simp[o,wa Yd]
 .simp[o,wa Yd,wb Yd,wc Yd]
 .exact Zed
 .exact Zed
theorem Sz(e:UK c c' f f' i i'):Br c' f' i'=Br c f i:=by
 unfold Br Ae;rw[e.op];by_cases ha:(A4 i.op).a=0<;>by_cases hb:(A4 i.op).b=0<;>by_cases hc:(A4 i.op).c=0<;>simp only[ha,hb,hc,if_true,if_false,List.nil_append,List.map_append,List.map_cons,List.map_nil]
 all_goals(
  try rw[(e.a ha).1]
  try rw[(e.b hb).1]
  try rw[(e.c hc).1])
theorem YM(hsg:c'.sign=c.sign)(h:AS c i (A4 i.op)=true)(hk:Al i.op=true)(e:UK c c' f f' i i')(hsl:i.op=32->f'.slots[i'.n.toNat]? =f.slots[i.n.toNat]?)(hou:f'.outs=f.outs):
 (i.op≠33->(D1 c' G P f' i').slots=f'.slots/\(D1 c G P f i).slots=f.slots)/\(i.op=33->(D1 c' G P f' i').slots=f'.slots.set i'.n.toNat (C2 c f i.a)/\(D1 c G P f i).slots=f.slots.set i.n.toNat (C2 c f i.a))/\(D1 c' G P f' i').outs=(D1 c G P f i).outs/\(Af i=true->C2 c' (D1 c' G P f' i') i'.d=C2 c (D1 c G P f i) i.d):=by
 have hw:∀t,B4 c' t=B4 c t:=fun t=>by unfold B4 lenOf;rw[hsg]
 have hfl:∀t x,DU c' t x=DU c t x:=fun t x=>by unfold DU;rw[hw]
 have hle:∀p,lenOf c' p=lenOf c p:=fun p=>by unfold lenOf;rw[hsg]
 have hap:∀p,AI c' p=AI c p:=fun p=>by unfold AI;rw[hsg]
 have eo:=e.op;rcases Da hk with o|o|o|o|o|o|o|o|o
 .have hd:(A4 i.op).d=1:=by
   unfold Dk at o;simp only[Bool.or_eq_true,beq_iff_eq]at o;rcases(show i.op=1\/i.op=16\/i.op=17\/i.op=19\/i.op=20 by omega)with q|q|q|q|q<;>(rw[q];decide)
  have k:=ME h 1 hd dE dE;have ed:=e.d (by rw[hd];decide);rw[Cc o,Cc (by rw[eo];exact o)];refine⟨fun _=>⟨rfl,rfl⟩,fun q33=>?_,hou,fun _=>?_⟩
  .exfalso;unfold Dk at o;simp only[Bool.or_eq_true,beq_iff_eq]at o;omega
  unfold C2;rw[ed,if_pos k,if_pos k];simp only[Bx,VQ h e o]
 .have hd:(A4 i.op).d=2:=by
   unfold Bj at o;simp only[Bool.or_eq_true,beq_iff_eq,Bool.and_eq_true,decide_eq_true_eq]at o;rcases(show i.op=2\/i.op=18\/i.op=21\/i.op=22\/i.op=23\/i.op=24\/i.op=25\/i.op=26\/i.op=27\/i.op=28 by omega)with q|q|q|q|q|q|q|q|q|q<;>(rw[q];decide)
  have k:=ME h 2 hd dE dE;have ed:=e.d (by rw[hd];decide);rw[Bp o,Bp (by rw[eo];exact o)];refine⟨fun _=>⟨rfl,rfl⟩,fun q33=>?_,hou,fun _=>?_⟩
  .exfalso;unfold Bj at o;simp only[Bool.or_eq_true,beq_iff_eq,Bool.and_eq_true,decide_eq_true_eq]at o;omega
  unfold C2;rw[ed,if_neg oM,if_pos k,if_neg oM,if_pos k];simp only[Bx,QI h e o]
 .have k:=ME h 3 Yd dE dE;have ed:=e.d Yd;have hp:BJ c' G i'=BJ c G i:=by unfold BJ;rw[ed,e.n oM oM,hle,hap]
  rw[CI o,CI (eo.trans o)];exact Zfg
 .have k:=ME h 3 Yd dE dE;have ed:=e.d Yd;have hp:BJ c' P i'=BJ c P i:=by unfold BJ;rw[ed,e.n oM oM,hle,hap]
  rw[CJ o,CJ (eo.trans o)];exact Zfg
 .have ra:(A4 i.op).a=3:=by rw[o];decide
  have q:=e.a (by rw[ra];decide);rw[D7 o,D7 (eo.trans o)];refine⟨fun _=>⟨rfl,rfl⟩,fun q33=>oM,?_,fun s=>?_⟩
  .simp only;rw[q.2,q.vec (Fe h 3 ra dE dE),hou,e.n oM oM,hap]
  .exfalso;unfold Af at s;rw[o]at s;exact absurd s dE
 .have ed:=e.d Yd;rw[CK o,CK (eo.trans o)];obtain⟨s1,s2⟩:=F4 c f i.d ((f.slots[i.n.toNat]?).getD ⟨[],0⟩);obtain⟨s3,s4⟩:=F4 c' f' i'.d ((f'.slots[i'.n.toNat]?).getD ⟨[],0⟩);refine⟨fun _=>⟨s3,s1⟩,fun q33=>oM,by rw[s2,s4,hou],fun _=>?_⟩;rw[hsl o];exact RG c c' f f' _ ed
 .have ra:(A4 i.op).a=6:=by rw[o];decide
  have q:=e.a (by rw[ra];decide);rw[CM o,CM (eo.trans o)];refine⟨fun q33=>absurd o q33,fun _=>⟨?_,rfl⟩,hou,fun s=>?_⟩
  .simp only;rw[q.1]
  .exfalso;unfold Af at s;rw[o]at s;exact absurd s dE
 .rw[AM o,AM (by rw[eo];exact o)];refine⟨fun _=>⟨rfl,rfl⟩,fun q33=>oM,hou,fun s=>?_⟩;obtain⟨a1,a2,a3,a4⟩:=Nb s;omega
 .have hd0:(A4 i.op).d≠0:=by
   exact Zdn
  have ed:=e.d hd0;rw[Bt o,Bt (by rw[eo];exact o)];obtain⟨s1,s2⟩:=F9 c f i;obtain⟨s3,s4⟩:=F9 c' f' i';refine⟨fun _=>⟨s3,s1⟩,fun q33=>(by unfold Bq at o;simp only[Bool.and_eq_true,decide_eq_true_eq]at o;omega),by rw[s2,s4,hou],fun _=>?_⟩;unfold EU;rw[ed];by_cases k2:(Aa c.regs i.d).kind=2
  .rw[if_pos k2,if_pos k2];have ha5:(A4 i.op).a=5:=by
    exact Zdn
   have hm:=AP (BF h) (by rw[ha5];decide);rw[ha5]at hm;unfold B7 AC ED at hm;rw[if_neg hd0]at hm;simp only[show((5:Int)=1)=False by decide,show((5:Int)=2)=False by decide,show((5:Int)=3)=False by decide,show((5:Int)=4)=False by decide,if_false,if_true,Bool.or_eq_true,decide_eq_true_eq,Bool.and_eq_true,beq_iff_eq]at hm;have ka:(Aa c.regs i.a).kind=2:=by
    rcases hm with q|q
    .rw[q];exact k2
    .omega
   have q:=(e.a (by rw[ha5];decide)).whs ka;unfold C2;rw[ed,if_neg oM,if_pos k2,if_neg oM,if_pos k2];simp only[Bx,q]
  .rw[if_neg k2,if_neg k2,Sz e,eo,hw,hfl];exact RG c c' f f' _ ed
end
theorem und_LL:prog.underlying 88=some (.slice (prog.elem 88)):=kR
theorem YN:prog.elem 88=72:=kR
theorem size_LL(w:World):(sizeOf (prog.elem 88)).run prog w=.ok 1 w:=by rw[YN];exact Tryz.sizeOf72 w
def Dn(a b c:List Int)(m:Nat):List (List Int):=[a,b,c].take m
def UF(W:Nat)(R:List Int):List Int:=if R.length=1 then List.replicate W (An (R.headD 0))else R
theorem apply3(op:Int)(m:Nat)(hm:CD op=m)(h0:m≠0)(xa xb xc:Cl)(n:Nat)(hs:Eo (lF (Dn xa.h.pats xb.h.pats xc.h.pats m)) (m-1)=some n)
 (pa:∀y∈xa.h.pats,AH y) (pb:∀y∈xb.h.pats,AH y) (pc:∀y∈xc.h.pats,AH y) (la:xa.h.pats.length<=4096) (lb:xb.h.pats.length<=4096) (lc:xc.h.pats.length<=4096) (g:Nat) (w:World)
 (g0:w.cell? ⟨g,0,none⟩=some (.slice xa.p xa.h.pats.length xa.q)) (g1:w.cell? ⟨g,1,none⟩=some (.slice xb.p xb.h.pats.length xb.q)) (g2:w.cell? ⟨g,2,none⟩=some (.slice xc.p xc.h.pats.length xc.q))
 (na:C6 w xa.p xa.h.pats) (nb:C6 w xb.p xb.h.pats) (nc:C6 w xc.p xc.h.pats):
 Calls prog 90 #[.int .i64 op,.slice (some ⟨g,0,none⟩) m 3] w fun e w'=>∃q cap,e=.returned (.tuple #[.slice q n cap,.int .i64 0])/\C6 w' q (D4 op (Dn xa.h.pats xb.h.pats xc.h.pats m))/\(D4 op (Dn xa.h.pats xb.h.pats xc.h.pats m)).length=n/\(∀y∈D4 op (Dn xa.h.pats xb.h.pats xc.h.pats m),AH y)/\Below w.heap.size w w'/\∀b o s,q=some ⟨b,o,s⟩->w.heap.size<=b:=by
 have hm3:m<=3:=by rw[<-hm];exact Ky op
 have hal:(Dn xa.h.pats xb.h.pats xc.h.pats m).length=m:=by unfold Dn;rw[List.length_take];simp;omega
 have hv:∀i,i<m->EK (Dn xa.h.pats xb.h.pats xc.h.pats m) i=if i=0 then xa.h.pats else if i=1 then xb.h.pats else xc.h.pats:=fun i hi=>by
  unfold EK Dn;rw[List.getElem?_take,if_pos hi];have:i=0\/i=1\/i=2:=oM;rcases this with rfl|rfl|rfl<;>rfl
 have hvs:∀i,EK (Dn xa.h.pats xb.h.pats xc.h.pats m) i=[]\/EK (Dn xa.h.pats xb.h.pats xc.h.pats m) i=xa.h.pats\/EK (Dn xa.h.pats xb.h.pats xc.h.pats m) i=xb.h.pats\/EK (Dn xa.h.pats xb.h.pats xc.h.pats m) i=xc.h.pats:=fun i=>by
  by_cases hi:i<m
  .rw[hv i hi];split
   .exact .inr (.inl rfl)
   .split
    .exact .inr (.inr (.inl rfl))
    .exact .inr (.inr (.inr rfl))
  .left;unfold EK Dn;rw[List.getElem?_take,if_neg hi];rfl
 have hP:∀i j,AH (xF (Dn xa.h.pats xb.h.pats xc.h.pats m) i j):=fun i j=>by
  unfold xF;refine CS ?_ j;rcases hvs i with e|e|e|e<;>rw[e]
  .intro y hy;cases hy
  .exact pa
  .exact pb
  .exact pc
 have hl:∀i,lF (Dn xa.h.pats xb.h.pats xc.h.pats m) i<=1048576:=fun i=>by
  unfold lF;rcases hvs i with e|e|e|e<;>rw[e]<;>first|(show(0:Nat)<=_;omega)|omega
 have hL:P7 .i64 w (some ⟨g,0,none⟩) m (fun i=>if i=0 then xa.p else if i=1 then xb.p else xc.p) (lF (Dn xa.h.pats xb.h.pats xc.h.pats m)) (fun i=>if i=0 then xa.q else if i=1 then xb.q else xc.q) (xF (Dn xa.h.pats xb.h.pats xc.h.pats m)):=by
  refine⟨.inr ⟨g,0,rfl,fun i hi=>?_⟩,fun i hi=>?_⟩
  .have:i=0\/i=1\/i=2:=oM;simp only[lF];rw[hv i hi,Nat.zero_add];rcases this with rfl|rfl|rfl
   .exact g0
   .exact g1
   .exact g2
  .have:i=0\/i=1\/i=2:=oM;simp only[lF,xF];rw[hv i hi];rcases this with rfl|rfl|rfl
   .exact na
   .exact nb
   .exact nc
 have hs':Eo (lF (Dn xa.h.pats xb.h.pats xc.h.pats m)) ((Dn xa.h.pats xb.h.pats xc.h.pats m).length-1)=some n:=by rw[hal];exact hs
 obtain⟨a1,a2⟩:=QR (op:=op) hs';refine(TE op oM g 0 m 3 hm n _ _ _ _ hP hl hs w hL).mono ?_;rintro e w' ⟨q,cap,rfl,hr,hb,hlo⟩;have a3:∀y∈D4 op (Dn xa.h.pats xb.h.pats xc.h.pats m),AH y:=fun y hy=>by
  obtain⟨j,hj,rfl⟩:=List.mem_iff_getElem.1 hy;have h9:=a2 j oM;have h8:CH (D4 op (Dn xa.h.pats xb.h.pats xc.h.pats m)) j=(D4 op (Dn xa.h.pats xb.h.pats xc.h.pats m))[j]:=by simp[CH,hj]
  rw[<-h8,h9];exact Rc _ _ _ _ (Cq hP _ _ _) (Cq hP _ _ _) (Cq hP _ _ _)
 refine⟨q,cap,rfl,?_,a1,a3,hb,hlo⟩;unfold C6;rw[a1];refine hr.congr fun j hj=>?_;rw[a2 j hj,hal]
def Vc(j:Nat):Value:=if j=0 then .slice none 0 0 else .int .i64 0
theorem YQ:∀i,i<(#[.slice none 0 0,.int .i64 0]:Array Value).size->(#[.slice none 0 0,.int .i64 0]:Array Value)[i]? =some (Vc i):=by
 intro i hi;have hi':i<2:=hi;obtain rfl|rfl:i=0\/i=1:=oM
 all_goals rfl
theorem num_ne{v:World}{R:Nat}(h:v.rowIs R 74 2 Vc){q:Option Addr}{l:List Int}(hn:C6 v q l)(h2:2<=l.length):∀b o,q=some ⟨b,o,none⟩->b≠R:=by
 intro b o e hb;rcases hn with h0|⟨b',o',e',hc⟩
 .omega
 .rw[e]at e';simp only[Option.some.injEq,Addr.mk.injEq,true_and,and_true]at e';obtain⟨rfl,rfl⟩:b=b'/\o=o':=by first|exact e'|exact⟨e'.1,e'.2⟩
  subst hb;by_cases ho:o=0
  .have h3:=hc 0 oM;rw[ho]at h3;have h4:=h.cell (i:=0) dE;rw[Nat.add_zero]at h3;rw[h3]at h4;simp[Vc]at h4
  .have h3:=hc 1 oM;obtain⟨c,hb,hs,-⟩:=h;have h5:v.cell? ⟨b,o+1,none⟩=none:=by
    unfold World.cell?;simp only[hb];exact Array.getElem?_eq_none oM
   rw[h5]at h3;cases h3
structure P4(w:World)(v0 v1 v2 v3 ru:Value)(op D A B C tk tp:Int)(rb oa ob oc:Nat)(ua ub uc:Value)(v:World):Prop where
 bel:Below w.heap.size w v
 a0:v.cell? ⟨w.heap.size,0,none⟩=some v0
 a1:v.cell? ⟨w.heap.size,1,none⟩=some v1
 a2:v.cell? ⟨w.heap.size,2,none⟩=some v2
 a3:v.cell? ⟨w.heap.size,3,none⟩=some v3
 a4:v.cell? ⟨w.heap.size,4,none⟩=some ru
 i0:v.cell? ⟨w.heap.size+1,0,none⟩=some (.int .i64 op)
 i1:v.cell? ⟨w.heap.size+1,1,none⟩=some (.int .i64 D)
 i2:v.cell? ⟨w.heap.size+1,2,none⟩=some (.int .i64 A)
 i3:v.cell? ⟨w.heap.size+1,3,none⟩=some (.int .i64 B)
 i4:v.cell? ⟨w.heap.size+1,4,none⟩=some (.int .i64 C)
 r0:v.cell? ⟨w.heap.size+1+1,0,none⟩=some (.slice none 0 0)
 r1:v.cell? ⟨w.heap.size+1+1,1,none⟩=some (.int .i64 0)
 rr:v.rowIs (w.heap.size+1+1) 74 2 Vc
 f0:v.frozen? ⟨w.heap.size+1+1,0,none⟩=false
 f1:v.frozen? ⟨w.heap.size+1+1,1,none⟩=false
 t0:v.cell? ⟨w.heap.size+1+1+1,0,none⟩=some (.int .i64 tk)
 t1:v.cell? ⟨w.heap.size+1+1+1,1,none⟩=some (.int .i64 tp)
 x0:v.cell? ⟨rb,oa,none⟩=some ua
 x1:v.cell? ⟨rb,ob,none⟩=some ub
 x2:v.cell? ⟨rb,oc,none⟩=some uc
theorem P4.next{w:World}{v0 v1 v2 v3 ru:Value}{op D A B C tk tp:Int}{rb oa ob oc:Nat}{ua ub uc:Value}{v v':World}(h:P4 w v0 v1 v2 v3 ru op D A B C tk tp rb oa ob oc ua ub uc v)(k:Below v.heap.size v v'):P4 w v0 v1 v2 v3 ru op D A B C tk tp rb oa ob oc ua ub uc v':=
 ⟨Go.Proofs.YtnbccaicijcklaaGreat.bel h.bel k,kc k h.a0,kc k h.a1,kc k h.a2,kc k h.a3,kc k h.a4,kc k h.i0,kc k h.i1,kc k h.i2,kc k h.i3,kc k h.i4,kc k h.r0,kc k h.r1,h.rr.of_block (k.block _ h.rr.lt),kf k h.r0 h.f0,kf k h.r1 h.f1,kc k h.t0,kc k h.t1,kc k h.x0,kc k h.x1,kc k h.x2⟩
structure Sv(c c':Cd)(K U W:Nat->Bool)(F:Ad->Ad)(rho sig:Nat->Nat):Prop where
 sign:c'.sign=c.sign
 ty:∀r,U r=true->Aa c'.regs ((rho r:Nat):Int)=Aa c.regs (r:Int)
 fd:∀i,(A4 i.op).d≠0->(F i).d=((rho i.d.toNat:Nat):Int)
 fa:∀i,(A4 i.op).a≠0->(F i).a=((rho i.a.toNat:Nat):Int)
 fb:∀i,(A4 i.op).b≠0->(F i).b=((rho i.b.toNat:Nat):Int)
 fc:∀i,(A4 i.op).c≠0->(F i).c=((rho i.c.toNat:Nat):Int)
 fn:∀i,i.op≠32->i.op≠33->(F i).n=i.n
 fs:∀i,(i.op=32\/i.op=33)->(F i).n=((sig i.n.toNat:Nat):Int)
 bits:∀i,(F i).bits=i.bits
 out:∀k (hk:k<c.list.length),c.list[k].op=31->K k=true
 used:∀k (hk:k<c.list.length),K k=true->(c.list[k].op=32\/c.list[k].op=33)->W c.list[k].n.toNat=true
 gone:∀k (hk:k<c.list.length),K k=false->c.list[k].op=33->W c.list[k].n.toNat=false
 injS:∀m n,W m=true->W n=true->sig m=sig n->m=n
 lt:∀n,W n=true->n<c.slots.length->sig n<c'.slots.length
structure Y8(c c':Cd)(W:Nat->Bool)(sig:Nat->Nat)(s s':List Hd):Prop where
 len:s.length=c.slots.length
 len':s'.length=c'.slots.length
 eq:∀n,W n=true->n<c.slots.length->s'[sig n]? =s[n]?
def J8(c c':Cd)(U:Nat->Bool)(rho:Nat->Nat)(f f':Fr)(X:List Nat):Prop:=∀r∈X,U r=true->Ju c c' f f' (r:Int) ((rho r:Nat):Int)
def C7(c c':Cd)(U K:Nat->Bool)(rho:Nat->Nat)(f f':Fr):List Bk->List Nat->Nat->Nat->List Nat->Prop
 |[],_,k,k',X=>k=0/\k'=0/\J8 c c' U rho f f' X
 |q::o,S,k,k',X=>(k=0/\k'=0/\J8 c c' U rho f f' X)\/(0<k/\(if q.loop=true then C7 c c' U K rho f f' o S.tail k k' X else if K (S.headD 0)=true then 0<k'/\C7 c c' U K rho f f' o S.tail (k-1) (k'-1) (X.take q.ahead)else C7 c c' U K rho f f' o S.tail (k-1) k' (X.take q.ahead)))
section
variable {c c' : Cd} {K U W : Nat -> Bool} {F : Ad -> Ad} {rho sig : Nat -> Nat} {G P : List (List Int)} {f f' : Fr}
theorem C7.zero{o:List Bk}{S X:List Nat}{k':Nat}(h:C7 c c' U K rho f f' o S 0 k' X):k'=0/\J8 c c' U rho f f' X:=by
 cases o with
 |nil=>exact h.2
 |cons q o=>
  rcases h with h|h
  .exact h.2
  .omega
theorem C7.mk0{o:List Bk}{S X:List Nat}(h:J8 c c' U rho f f' X):C7 c c' U K rho f f' o S 0 0 X:=by
 cases o with
 |nil=>exact⟨rfl,rfl,h⟩
 |cons q o=>exact .inl ⟨rfl,rfl,h⟩
theorem C7.cons{q:Bk}{o:List Bk}{b:Nat}{S X:List Nat}{k k':Nat}(h:C7 c c' U K rho f f' (q::o) (b::S) k k' X)(hk:0<k):if q.loop=true then C7 c c' U K rho f f' o S k k' X else if K b=true then 0<k'/\C7 c c' U K rho f f' o S (k-1) (k'-1) (X.take q.ahead)else C7 c c' U K rho f f' o S (k-1) k' (X.take q.ahead):=by
 rcases h with h|h
 .omega
 .exact h.2
theorem C7.grow{X S:List Nat}{o o':List Bk}(h:J7 U K X S o o'):∀ {k k':Nat} (Y:List Nat),0<k->C7 c c' U K rho f f' o S k k' X->C7 c c' U K rho f f' o S k k' (X++Y):=by
 induction h with
 |nil=>exact fun Y hk h=>by have:=h.1;omega
 |skipL hK ha hu h ih=>exact fun Y hk h=>.inr ⟨hk,by have:=h.cons hk;simp only[if_true]at this |-;exact ih Y hk this⟩
 |skipW hK ha hu h ih=>exact fun Y hk h=>.inr ⟨hk,by have:=h.cons hk;rw[List.take_append_of_le_length ha];exact this⟩
 |keepL hK h ih=>exact fun Y hk h=>.inr ⟨hk,by have:=h.cons hk;simp only[if_true]at this |-;exact ih Y hk this⟩
 |keepW hK ha e h ih=>exact fun Y hk h=>.inr ⟨hk,by have:=h.cons hk;rw[List.take_append_of_le_length ha];exact this⟩
theorem C7.all{X S:List Nat}{o o':List Bk}(h:J7 U K X S o o'):(∀b∈S,K b=true)->∀ {k k':Nat},C7 c c' U K rho f f' o S k k' X->k'=k:=by
 induction h with
 |nil=>exact fun _ k k' h=>by rw[h.1,h.2.1]
 |skipL hK _ _ _ _=>exact fun hS=>absurd ((hS _ List.mem_cons_self).symm.trans hK) sM
 |skipW hK _ _ _ _=>exact fun hS=>absurd ((hS _ List.mem_cons_self).symm.trans hK) sM
 |keepL hK h ih=>
  intro hS k k' hs;rcases Nat.eq_zero_or_pos k with e|e
  .subst e;exact hs.zero.1
  .have:=hs.cons e;simp only[if_true]at this;exact ih (fun b hb=>hS b Zhs) this
 |keepW hK ha e9 h ih=>
  intro hS k k' hs;rcases Nat.eq_zero_or_pos k with e|e
  .subst e;exact hs.zero.1
  .have:=hs.cons e;simp only[Bool.false_eq_true,if_false,hK,if_true]at this;have:=ih (fun b hb=>hS b Zhs) this.2;omega
theorem J8.take{X:List Nat}(h:J8 c c' U rho f f' X)(a:Nat):J8 c c' U rho f f' (X.take a):=fun r hr hu=>h r (List.mem_of_mem_take hr) hu
theorem Dp{c:Cd}{i:Ad}{f:Fr}{k:Nat}(hk:0<k)(h5:i.op≠35)(h4:i.op≠34):AK c G P (f,k) i=(f,k):=by
 unfold AK;simp only;rw[if_neg oM,if_neg oM,if_neg oM]
theorem EZ{c:Cd}{i:Ad}{f:Fr}(h4:i.op≠34):AK c G P (f,0) i=(D1 c G P f i,0):=by
 unfold AK;simp[h4]
theorem LM{c:Cd}{i:Ad}{f:Fr}{k:Nat}(hk:0<k)(o:i.op=35):AK c G P (f,k) i=(f,k-1):=by
 unfold AK;simp only;rw[if_pos ⟨hk,o⟩]
theorem JW{c:Cd}{i:Ad}{f:Fr}{k:Nat}(o:i.op=34):AK c G P (f,k) i=if 0<k\/f.whs i.a.toNat=0 then(f,k+1)else(f,0):=by
 unfold AK;simp only;rw[if_neg oM];by_cases h:0<k\/f.whs i.a.toNat=0
 .rw[if_pos ⟨o,h⟩,if_pos h]
 .rw[if_neg (fun q=>h q.2),if_neg h,if_pos oM,AM oM]
theorem Vx(hp:Yk c c' K U F rho)(hx:Sv c c' K U W F rho sig){j:Nat}(hj:j<c.list.length)(hk:K j=true){x x':Wk}(h:PrI c K U rho j x x')(t:AG c x c.list[j]=true)(hr:J8 c c' U rho f f' x.set):UK c c' f f' c.list[j] (F c.list[j]):=by
 obtain⟨t1,t2,t3,t4⟩:=Ao t;unfold EQ at t4;rw[List.all_eq_true]at t4;have Bl:∀r∈Ae c.list[j] (A4 c.list[j].op),0<=r->Ju c c' f f' r ((rho r.toNat:Nat):Int):=fun r hr' h0=>by
  have h4:r.toNat∈x.set:=by simpa using t4 r hr'
  have hu:=hp.reads j hj hk r hr' (h.was _ h4);have:=hr _ h4 hu;rw[Int.toNat_of_nonneg h0]at this;exact this
 refine⟨hp.op _,fun hd=>?_,hx.fn _,hx.bits _,fun q=>?_,fun q=>?_,fun q=>?_⟩
 .have hs:Af c.list[j]=true:=by unfold Af;simpa using hd
  have hu:U c.list[j].d.toNat=true:=by rw[hp.hU j hj hs,hk]
  have h0:=(GV t hs).1;rw[hx.fd _ hd,hx.ty _ hu,Int.toNat_of_nonneg h0]
 .rw[hx.fa _ q];exact Bl _ Zgn (Ag (BF t2) q).1
 .rw[hx.fb _ q];exact Bl _ Zgn (Ag (CQ t2) q).1
 .rw[hx.fc _ q];exact Bl _ Zgn (Ag (CR t2) q).1
theorem Gv{x:Wk}{i:Ad}(t:AG c x i=true)(o:i.op=32\/i.op=33):0<=i.n/\i.n<(c.slots.length:Int):=by
 obtain⟨t1,t2,t3,t4⟩:=Ao t;unfold AS at t2;simp only[Bool.and_eq_true]at t2;have h:=t2.2.2.2.2;have hn:(A4 i.op).n=10:=by rcases o with e|e<;>(rw[e];decide)
 unfold Bh at h;rw[if_neg (by rw[hn];decide)]at h;simp only[Bool.and_eq_true]at h;have h2:=h.2;unfold EW at h2;rw[if_neg (by rw[hn];decide),if_neg (by rw[hn];decide),if_pos hn]at h2;simp only[Bool.and_eq_true]at h2;exact BU.1 h2.1
theorem JD{c:Cd}{i:Ad}{f:Fr}(hk:Al i.op=true)(h:i.op≠33):(D1 c G P f i).slots=f.slots:=by
 rcases Da hk with o|o|o|o|o|o|o|o|o
 .rw[Cc o]
 .rw[Bp o]
 .rw[CI o]
 .rw[CJ o]
 .rw[D7 o]
 .rw[CK o];exact(F4 _ _ _ _).1
 .exact absurd o h
 .rw[AM o]
 .rw[Bt o];exact(F9 _ _ _).1
theorem KZ{c:Cd}{i:Ad}{f:Fr}(hk:Al i.op=true)(h:i.op≠31):(D1 c G P f i).outs=f.outs:=by
 rcases Da hk with o|o|o|o|o|o|o|o|o
 .rw[Cc o]
 .rw[Bp o]
 .rw[CI o]
 .rw[CJ o]
 .exact absurd o h
 .rw[CK o];exact(F4 _ _ _ _).2
 .rw[CM o]
 .rw[AM o]
 .rw[Bt o];exact(F9 _ _ _).2
theorem YK(hp:Yk c c' K U F rho)(hx:Sv c c' K U W F rho sig){j:Nat}(hj:j<c.list.length)(hk:K j=true){x x':Wk}(h:PrI c K U rho j x x')(t:AG c x c.list[j]=true)(hr:J8 c c' U rho f f' x.set)(sl:Y8 c c' W sig f.slots f'.slots)(ou:f'.outs=f.outs):
 J8 c c' U rho (D1 c G P f c.list[j]) (D1 c' G P f' (F c.list[j])) (Cf x c.list[j] (A4 c.list[j].op)).set/\Y8 c c' W sig (D1 c G P f c.list[j]).slots (D1 c' G P f' (F c.list[j])).slots/\(D1 c' G P f' (F c.list[j])).outs=(D1 c G P f c.list[j]).outs:=by
 have he:=Vx hp hx hj hk h t hr;obtain⟨t1,t2,t3,t4⟩:=Ao t;obtain⟨d1,d2,d3,d4⟩:=YM (G:=G) (P:=P) hx.sign t2 t1 he (fun o=>by
  obtain⟨n0,n1⟩:=Gv t (.inl o);rw[hx.fs _ (.inl o),Int.toNat_natCast]
  exact sl.eq _ (hx.used j hj hk (.inl o)) oM) ou
 refine⟨fun r hr' hu=>?_,?_,d3⟩
 .by_cases hs:Af c.list[j]=true
  .have hud:U c.list[j].d.toNat=true:=by rw[hp.hU j hj hs,hk]
   have h0:=(GV t hs).1;have hdr:(A4 c.list[j].op).d≠0:=by unfold Af at hs;simpa using hs
   by_cases hrd:r=c.list[j].d.toNat
   .subst hrd;have h9:=d4 hs;rw[hx.fd _ hdr]at h9;refine⟨?_,hx.ty _ hu⟩;rw[h9,Int.toNat_of_nonneg h0]
   .have hrx:r∈x.set:=by
     unfold Cf at hr';split at hr'
     .rcases List.mem_append.1 hr' with e|e
      .exact e
      .simp only[List.mem_singleton]at e;exact absurd e hrd
     .exact hr'
    obtain⟨q1,q2⟩:=hr r hrx hu;refine⟨?_,q2⟩;rw[FP t1 (fun _=>by rw[Int.toNat_natCast];exact hrd),FP (by rw[hp.op];exact t1) (fun _=>by rw[hx.fd _ hdr,Int.toNat_natCast,Int.toNat_natCast];exact fun e=>hrd (hp.inj r _ hu hud e))];exact q1
  .have hns:Af c.list[j]=false:=by simpa using hs
   rw[Il hns]at hr';obtain⟨q1,q2⟩:=hr r hr' hu;refine⟨?_,q2⟩;have e9:Af (F c.list[j])=false:=by rw[<-hns];unfold Af;rw[hp.op]
   rw[FP t1 (fun q=>by rw[hns]at q;cases q),FP (by rw[hp.op];exact t1) (fun q=>by rw[e9]at q;cases q)];exact q1
 .by_cases o:c.list[j].op=33
  .obtain⟨s1,s2⟩:=d2 o;rw[s1,s2];obtain⟨n0,n1⟩:=Gv t (.inr o);have hw:=hx.used j hj hk (.inr o);refine⟨by rw[List.length_set];exact sl.len,by rw[List.length_set];exact sl.len',fun n hn hl=>?_⟩;rw[hx.fs _ (.inr o),Int.toNat_natCast,List.getElem?_set,List.getElem?_set];by_cases e:c.list[j].n.toNat=n
   .rw[if_pos e,if_pos (by rw[e]),if_pos (by rw[sl.len',e];exact hx.lt n hn hl),if_pos (by rw[sl.len];omega)]
   .rw[if_neg e,if_neg (fun q=>e (hx.injS _ _ hw hn q))];exact sl.eq n hn hl
  .obtain⟨s1,s2⟩:=d1 o;rw[s1,s2];exact sl
theorem YL(hp:Yk c c' K U F rho)(hx:Sv c c' K U W F rho sig){j:Nat}(hj:j<c.list.length)(hk:K j=false){x x':Wk}(h:PrI c K U rho j x x')(t:AG c x c.list[j]=true)(hr:J8 c c' U rho f f' x.set)(sl:Y8 c c' W sig f.slots f'.slots)(ou:f'.outs=f.outs):
 J8 c c' U rho (D1 c G P f c.list[j]) f' (Cf x c.list[j] (A4 c.list[j].op)).set/\Y8 c c' W sig (D1 c G P f c.list[j]).slots f'.slots/\f'.outs=(D1 c G P f c.list[j]).outs:=by
 obtain⟨t1,t2,t3,t4⟩:=Ao t;refine⟨fun r hr' hu=>?_,?_,?_⟩
 .have hrd:Af c.list[j]=true->r≠c.list[j].d.toNat:=fun hs e=>by
   have:=hp.hU j hj hs;rw[hk,<-e,hu]at this;cases this
  have hrx:r∈x.set:=by
   unfold Cf at hr';split at hr'
   .rename_i q;rcases List.mem_append.1 hr' with e|e
    .exact e
    .simp only[List.mem_singleton]at e;exact absurd e (hrd (by unfold Af;simpa using q.1))
   .exact hr'
  obtain⟨q1,q2⟩:=hr r hrx hu;refine⟨?_,q2⟩;rw[FP t1 (fun hs=>by rw[Int.toNat_natCast];exact hrd hs)];exact q1
 .by_cases o:c.list[j].op=33
  .rw[CM o];have hw:=hx.gone j hj hk o;refine⟨by simp only[List.length_set];exact sl.len,sl.len',fun n hn hl=>?_⟩;simp only;rw[List.getElem?_set,if_neg (fun e=>by rw[e,hn]at hw;cases hw)];exact sl.eq n hn hl
  .rw[JD t1 o];exact sl
 .rw[KZ t1 (fun o=>by have:=hx.out j hj o;rw[hk]at this;cases this)];exact ou
end
section
variable {c c' : Cd} {K U W : Nat -> Bool} {F : Ad -> Ad} {rho sig : Nat -> Nat} {G P : List (List Int)} {f f' : Fr}
theorem XU{j:Nat}(hj:j<c.list.length):AE (c.list.take (j+1))=if c.list[j].op=34\/c.list[j].op=36 then j::AE (c.list.take j)else if c.list[j].op=35\/c.list[j].op=37 then(AE (c.list.take j)).tail else AE (c.list.take j):=by
 exact Zfz
theorem H7(hp:Yk c c' K U F rho){j:Nat}(hj:j<c.list.length)(hk:K j=true):∀b∈AE (c.list.take j),K b=true:=by
 have hS:=hp.around j hj hk;by_cases hfin:c.list[j].op=35\/c.list[j].op=37
 .rw[if_pos hfin]at hS;intro b hb;cases hs:AE (c.list.take j)with
  |nil=>rw[hs]at hb;cases hb
  |cons b0 S0=>
   rw[hs]at hb hS;rcases List.mem_cons.1 hb with e|e
   .rw[e,hp.pair j hj hfin b0 (by rw[hs];rfl)];exact hk
   .exact hS b e
 .rw[if_neg hfin]at hS;exact hS
theorem Wj(hp:Yk c c' K U F rho)(hx:Sv c c' K U W F rho sig){j:Nat}(hj:j<c.list.length){x x':Wk}(h:PrI c K U rho j x x')(t:AG c x c.list[j]=true){k k':Nat}(hs:C7 c c' U K rho f f' x.opens (AE (c.list.take j)) k k' x.set)(sl:Y8 c c' W sig f.slots f'.slots)(ou:f'.outs=f.outs):
 (K j=true->C7 c c' U K rho (AK c G P (f,k) c.list[j]).1 (AK c' G P (f',k') (F c.list[j])).1 (Aj x c.list[j]).opens (AE (c.list.take (j+1))) (AK c G P (f,k) c.list[j]).2 (AK c' G P (f',k') (F c.list[j])).2 (Aj x c.list[j]).set/\Y8 c c' W sig (AK c G P (f,k) c.list[j]).1.slots (AK c' G P (f',k') (F c.list[j])).1.slots/\(AK c' G P (f',k') (F c.list[j])).1.outs=(AK c G P (f,k) c.list[j]).1.outs)/\
 (K j=false->C7 c c' U K rho (AK c G P (f,k) c.list[j]).1 f' (Aj x c.list[j]).opens (AE (c.list.take (j+1))) (AK c G P (f,k) c.list[j]).2 k' (Aj x c.list[j]).set/\Y8 c c' W sig (AK c G P (f,k) c.list[j]).1.slots f'.slots/\f'.outs=(AK c G P (f,k) c.list[j]).1.outs):=by
 have hst:=XU (c:=c) hj;have hop:=hp.op c.list[j];obtain⟨t1,t2,t3,t4⟩:=Ao t;have hO:=h.opens;by_cases h34:c.list[j].op=34
 ·--a block EN
  have hns:Af c.list[j]=false:=by unfold Af;rw[h34];decide
  have e1:Aj x c.list[j]=Bv x c.list[j]:=by unfold Aj Dd;exact Il hns
  rw[e1,Us h34];rw[if_pos (.inl h34)]at hst;rw[hst,JW h34,JW (hop.trans h34)];simp only;refine⟨fun hk=>?_,fun hk=>?_⟩
  .have hkk:=C7.all hO (H7 hp hj hk) hs;have hw:k=0->f'.whs (F c.list[j]).a.toNat=f.whs c.list[j].a.toNat:=fun e=>by
    subst e;have he:=Vx hp hx hj hk h t hs.zero.2;have ra:(A4 c.list[j].op).a=2:=by rw[h34];decide
    exact(he.a (by rw[ra];decide)).whs (Fe t2 2 ra dE dE)
   by_cases q:0<k\/f.whs c.list[j].a.toNat=0
   .have q':0<k'\/f'.whs (F c.list[j]).a.toNat=0:=by
     rcases q with q|q
     .exact .inl oM
     .rcases Nat.eq_zero_or_pos k with e|e
      .exact .inr (by rw[hw e];exact q)
      .exact .inl oM
    rw[if_pos q,if_pos q'];refine⟨.inr ⟨Nat.succ_pos _,?_⟩,sl,ou⟩;simp only[Bool.false_eq_true,if_false,List.headD_cons,hk,if_true,List.tail_cons,Nat.add_sub_cancel,List.take_length];exact⟨Nat.succ_pos _,hs⟩
   .have q':¬ (0<k'\/f'.whs (F c.list[j]).a.toNat=0):=fun w=>by
     have e:k=0:=oM;rcases w with w|w
     .omega
     .exact q (.inr (by rw[<-hw e];exact w))
    rw[if_neg q,if_neg q'];have e:k=0:=oM;subst e;exact⟨C7.mk0 hs.zero.2,sl,ou⟩
  .by_cases q:0<k\/f.whs c.list[j].a.toNat=0
   .rw[if_pos q];refine⟨.inr ⟨Nat.succ_pos _,?_⟩,sl,ou⟩;simp only[Bool.false_eq_true,if_false,List.headD_cons,hk,List.tail_cons,Nat.add_sub_cancel,List.take_length];exact hs
   .rw[if_neg q];have e:k=0:=oM;subst e;have hz:=hs.zero;rw[hz.1];exact⟨C7.mk0 hz.2,sl,ou⟩
 by_cases h35:c.list[j].op=35\/c.list[j].op=37
 ·--a block ends
  have hns:Af c.list[j]=false:=by unfold Af;rcases h35 with e|e<;>(rw[e];decide)
  have e1:Aj x c.list[j]=Bv x c.list[j]:=by unfold Aj Dd;exact Il hns
  rw[e1,QG h35];rw[if_neg oM,if_pos h35]at hst;obtain⟨X,O⟩:=x;have hne:O.isEmpty=false:=by
   unfold Az at t3;rw[if_neg oM]at t3;rcases h35 with e|e
   .exact Zex
   .exact Zeg
  obtain⟨b,S1,q,o1,eS,eO,-⟩:=R3 hO (t:=true) hne;simp only at eO;subst eO;have hkb:=hp.pair j hj h35 b (by rw[eS];rfl);rw[eS]at hst hs;simp only[List.tail_cons]at hst;rw[hst];have hlp:c.list[j].op=35->q.loop=false:=fun e=>by
   unfold Az at t3;rw[if_neg oM,if_pos e]at t3;simp only[Bool.and_eq_true,Bool.not_eq_true']at t3;exact t3.2
  have hlp2:c.list[j].op=37->q.loop=true:=fun e=>by
   unfold Az at t3;rw[if_neg oM,if_neg oM,if_pos e]at t3;exact t3
  unfold AQ;simp only;have rel0:k=0->∀S',C7 c c' U K rho f f' o1 S' 0 0 (if q.loop=true then X else X.take q.ahead):=fun e S'=>by
   subst e;have hz:=hs.zero.2;split
   .exact C7.mk0 hz
   .exact C7.mk0 (hz.take _)
  rcases h35 with e|e
  .have hl:=hlp e;rw[hl];rw[hl]at rel0;simp only[Bool.false_eq_true,if_false]at rel0 |-;rcases Nat.eq_zero_or_pos k with e0|e0
   .exact Zee
   .have hc:=hs.cons e0;rw[hl]at hc;simp only[Bool.false_eq_true,if_false]at hc;rw[LM e0 e];refine⟨fun hk=>?_,fun hk=>?_⟩
    .rw[hkb,if_pos hk]at hc;rw[LM hc.1 (hop.trans e)];exact⟨hc.2,sl,ou⟩
    .rw[hkb,if_neg (by rw[hk];simp)]at hc;exact⟨hc,sl,ou⟩
  .have hl:=hlp2 e;rw[hl];rw[hl]at rel0;simp only[if_true]at rel0 |-;rcases Nat.eq_zero_or_pos k with e0|e0
   .exact Zee
   .have hc:=hs.cons e0;rw[hl]at hc;simp only[if_true]at hc;rw[Dp e0 oM oM];refine⟨fun hk=>?_,fun hk=>⟨hc,sl,ou⟩⟩;have hkk:=C7.all hO (H7 hp hj hk) (by rw[eS];exact hs);rw[Dp oM Yq Yq];exact⟨hc,sl,ou⟩
 by_cases h36:c.list[j].op=36
 .have hns:Af c.list[j]=false:=by unfold Af;rw[h36];decide
  have e1:Aj x c.list[j]=Bv x c.list[j]:=by unfold Aj Dd;exact Il hns
  rw[e1,Ur h36];rw[if_pos (.inr h36)]at hst;rw[hst];simp only;have push:0<k->C7 c c' U K rho f f' (⟨true,c.list[j].n,x.set.length⟩::x.opens) (j::AE (c.list.take j)) k k' x.set:=fun e0=>.inr ⟨e0,by simp only[if_true,List.tail_cons];exact hs⟩;rcases Nat.eq_zero_or_pos k with e0|e0
  .subst e0;have hz:=hs.zero;rw[hz.1,EZ oM,EZ Yq,AM oM,AM Yq];exact⟨fun _=>⟨C7.mk0 hz.2,sl,ou⟩,fun _=>⟨C7.mk0 hz.2,sl,ou⟩⟩
  .rw[Dp e0 oM oM];refine⟨fun hk=>?_,fun hk=>⟨push e0,sl,ou⟩⟩;have hkk:=C7.all hO (H7 hp hj hk) hs;rw[Dp oM Yq Yq];exact⟨push e0,sl,ou⟩
 have hst':AE (c.list.take (j+1))=AE (c.list.take j):=by rw[hst,if_neg oM,if_neg h35]
 have e1:Aj x c.list[j]=Cf x c.list[j] (A4 c.list[j].op):=by
  unfold Aj Dd Bv;rw[if_neg oM,if_neg h35]
 have eo:(Cf x c.list[j] (A4 c.list[j].op)).opens=x.opens:=by unfold Cf;split<;>rfl
 rw[e1,hst',eo];rcases Nat.eq_zero_or_pos k with e0|e0
 .subst e0;have hz:=hs.zero;rw[hz.1,EZ oM,EZ Yq];refine⟨fun hk=>?_,fun hk=>?_⟩
  .obtain⟨d1,d2,d3⟩:=YK (G:=G) (P:=P) hp hx hj hk h t hz.2 sl ou;exact⟨C7.mk0 d1,d2,d3⟩
  .obtain⟨d1,d2,d3⟩:=YL (G:=G) (P:=P) hp hx hj hk h t hz.2 sl ou;exact⟨C7.mk0 d1,d2,d3⟩
 .have hg:C7 c c' U K rho f f' x.opens (AE (c.list.take j)) k k' (Cf x c.list[j] (A4 c.list[j].op)).set:=by
   unfold Cf;split
   .exact C7.grow hO _ e0 hs
   .exact hs
  rw[Dp e0 oM oM];refine⟨fun hk=>?_,fun hk=>⟨hg,sl,ou⟩⟩;have hkk:=C7.all hO (H7 hp hj hk) hs;rw[Dp oM Yq Yq];exact⟨hg,sl,ou⟩
theorem ZM(hp:Yk c c' K U F rho)(hx:Sv c c' K U W F rho sig)(h:AR c ⟨[],[]⟩ c.list=true){f0 f0':Fr}(sl:Y8 c c' W sig f0.slots f0'.slots)(ou:f0'.outs=f0.outs):∀j,j<=c.list.length->∃g g' k k',UG c G P (f0,0) (c.list.take j)=(g,k)/\UG c' G P (f0',0) (Bc K F c.list j)=(g',k')/\C7 c c' U K rho g g' (CZ ⟨[],[]⟩ (c.list.take j)).opens (AE (c.list.take j)) k k' (CZ ⟨[],[]⟩ (c.list.take j)).set/\Y8 c c' W sig g.slots g'.slots/\g'.outs=g.outs:=by
 intro j;induction j with
 |zero=>intro _;exact⟨f0,f0',0,0,rfl,rfl,C7.mk0 (fun r hr=>(by cases hr)),sl,ou⟩
 |succ j ih=>
  intro hj;have hjl:j<c.list.length:=oM;obtain⟨g,g',k,k',i1,i2,i3,i4,i5⟩:=ih oM;obtain⟨-,p2⟩:=Kg hp h j oM;have t:=Ck h hjl;obtain⟨n1,n2⟩:=Wj (G:=G) (P:=P) hp hx hjl p2 t i3 i4 i5;have er:CZ ⟨[],[]⟩ (c.list.take (j+1))=Aj (CZ ⟨[],[]⟩ (c.list.take j)) c.list[j]:=by rw[List.take_succ_eq_append_getElem hjl,EH];rfl
  have eg:UG c G P (f0,0) (c.list.take (j+1))=AK c G P (g,k) c.list[j]:=by
   rw[List.take_succ_eq_append_getElem hjl];unfold UG at i1 |-;rw[List.foldl_append,i1];rfl
  rw[er];cases hk:K j with
  |true=>
   obtain⟨m1,m2,m3⟩:=n1 hk;have eg':UG c' G P (f0',0) (Bc K F c.list (j+1))=AK c' G P (g',k') (F c.list[j]):=by
    rw[DI hjl hk];unfold UG at i2 |-;rw[List.foldl_append,i2];rfl
   exact⟨_,_,_,_,eg,eg',m1,m2,m3⟩
  |false=>
   obtain⟨m1,m2,m3⟩:=n2 hk;refine⟨_,g',_,k',eg,?_,m1,m2,m3⟩;rw[Gs hk];exact i2
end
theorem E7(a:Int):An (An a)=An a:=by
 by_cases h:nan a=true
 .have e:An a=2143289344:=by unfold An;rw[if_pos h]
  rw[e];decide
 .have e:An a=a:=by unfold An;rw[if_neg h]
  rw[e,e]
theorem JF(b:Bool):An (PD b)=PD b:=by cases b<;>decide
theorem Hj{o:Option Nat}(h:∀r,o=some r->rg r<=2139095040):An (Ry o)=Ry o:=by
 cases o with
 |none=>decide
 |some r=>exact Lo (h r rfl)
theorem O9{a b:Int}(ha:0<=a)(hb:0<=b){o:Ordering}(h:ZE a b=some o):An a=a/\An b=b:=by
 rw[Kc a b ha hb]at h;split at h
 .cases h
 .rename_i hn;have h1:¬nan a=true:=fun e=>hn (.inl e);have h2:¬nan b=true:=fun e=>hn (.inr e);unfold An;rw[if_neg h1,if_neg h2];exact⟨rfl,rfl⟩
theorem Vk(a b:Int)(ha:0<=a)(hb:0<=b):An (Jc a b)=Jc a b:=by
 unfold Jc;cases e:ZE a b with
 |none=>show An 2143289344=2143289344;decide
 |some o=>
  obtain⟨h1,h2⟩:=O9 ha hb e;cases o
  .exact h1
  .simp only;split
   .exact h1
   .exact h2
  .exact h2
theorem Vi(a b:Int)(ha:0<=a)(hb:0<=b):An (JH a b)=JH a b:=by
 unfold JH;cases e:ZE a b with
 |none=>show An 2143289344=2143289344;decide
 |some o=>
  obtain⟨h1,h2⟩:=O9 ha hb e;cases o
  .exact h2
  .simp only;split
   .exact h2
   .exact h1
  .exact h1
theorem Cz{p:Prop}[Decidable p]{x y:Int}(h:An x=x)(k:An y=y):An (if p then x else y)=if p then x else y:=by
 split
 .exact h
 .exact k
theorem ZD(op a b c:Int)(ha:AH a)(hb:AH b):An (Kb op a b c)=Kb op a b c:=by
 unfold Kb;refine Cz (E7 a) (Cz (Hj fun _ h=>(OM h).1) (Cz (E7 _) (Cz (E7 _) (Cz (JF _) (Cz (Hj fun _ h=>(QP h).1) (Cz (Hj fun _ h=>(So h).1) (Cz (Hj fun _ h=>(Rp h).1) (Cz (Hj fun _ h=>(QY h).1) (Cz (Vk a b ha.1 hb.1) (Cz (Vi a b ha.1 hb.1) (Cz (JF _) ?_)))))))))));unfold My;exact Cz (E7 _) (E7 _)
theorem Yu{op:Int}{args:List (List Int)}(h:∀l∈args,∀y∈l,AH y):∀y∈D4 op args,An y=y:=by
 have hX:∀i j,AH (xF args i j):=fun i j=>by
  exact Zep
 intro y hy;unfold D4 at hy;split at hy
 .simp only[List.mem_map]at hy;obtain⟨k,_,rfl⟩:=hy;exact ZD _ _ _ _ (Cq hX _ _ _) (Cq hX _ _ _)
 .cases hy
theorem el_eq{c:Cd}{f:Fr}{i:Ad}(hg:Good c)(ok:KK c f)(he:Bq i.op=true)(nd:Dy c f i)(hk:(Aa c.regs i.d).kind≠2):
 UF (if(Aa c.regs i.d).kind=3 then lenOf c (Aa c.regs i.d).par else 1) (D4 i.op (Br c f i))=(if(D4 i.op (Br c f i)).length<B4 c (Aa c.regs i.d)then DU c (Aa c.regs i.d) ((D4 i.op (Br c f i)).headD 0)else D4 i.op (Br c f i))/\(if(Aa c.regs i.d).kind=3 then lenOf c (Aa c.regs i.d).par else 1)=B4 c (Aa c.regs i.d):=by
 obtain⟨h1,h2,h3⟩:=Gi hg ok he nd hk;obtain⟨s1,s2⟩:=Fa hg ok he nd hk;have hcan:=Yu (op:=i.op) (args:=Br c f i) (fun l hl=>by
  unfold Br at hl;simp only[List.mem_map]at hl;obtain⟨r,hr,rfl⟩:=hl
  exact(h2 r hr).2.2.2)
 have hw:(if(Aa c.regs i.d).kind=3 then lenOf c (Aa c.regs i.d).par else 1)=B4 c (Aa c.regs i.d):=by
  unfold B4;rcases h3 with e|e
  .rw[if_neg oM,if_neg oM,if_pos e]
  .rw[if_pos e,if_pos e]
 refine⟨?_,hw⟩;rw[hw];unfold DU;generalize D4 i.op (Br c f i)=R at *;generalize B4 c (Aa c.regs i.d)=W at *;unfold UF;by_cases e:R.length=1
 .rw[if_pos e];obtain⟨x,rfl⟩:=List.length_eq_one_iff.1 e;have hx:An x=x:=hcan x sM;by_cases e2:W=1
  .subst e2;rw[if_neg sM];show [An x]=[x];rw[hx]
  .rw[if_pos sO]
 .rw[if_neg e,if_neg oM]
def Dj(c:Cd)(G P:List (List Int))(f:Fr)(i:Ad):Hd:=C2 c (D1 c G P f i) i.d
section
variable {c : Cd} {G P : List (List Int)} {f : Fr} {i : Ad}
theorem I9(nd:Dy c f i)(h:Dk i.op=true):Dj c G P f i=⟨[Lh f i],0⟩:=by
 unfold Dj C2;rw[Cc h,if_pos (nd.num h).2.2.2.2];simp only[Bx]
theorem IJ(nd:Dy c f i)(h:Bj i.op=true):Dj c G P f i=⟨[],ER f i⟩:=by
 have hk:=(nd.whole h).2.2.2.2.2.1;unfold Dj C2;rw[Bp h,if_neg oM,if_pos hk];simp only[Bx]
theorem val_29(nd:Dy c f i)(h:i.op=29):Dj c G P f i=⟨BJ c G i,0⟩:=by
 have hk:=(nd.part (.inl h)).kind;unfold Dj C2;rw[CI h,if_neg oM,if_neg oM];simp only[Bx]
theorem val_30(nd:Dy c f i)(h:i.op=30):Dj c G P f i=⟨BJ c P i,0⟩:=by
 have hk:=(nd.part (.inr h)).kind;unfold Dj C2;rw[CJ h,if_neg oM,if_neg oM];simp only[Bx]
theorem rd_st{r:Int}{h:Hd}(ho:P6 c (Aa c.regs r) h)(hz:(Aa c.regs r).kind≠2->h.whole=0):C2 c (Kt c f r h) r=h:=by
 obtain⟨pats,whole⟩:=h;simp only at hz;have hl:pats.length=B4 c (Aa c.regs r):=ho.1;unfold B4 at hl;unfold C2 Kt;by_cases h1:(Aa c.regs r).kind=1
 .rw[if_neg oM,if_pos h1]at hl;rw[if_pos h1,if_pos h1];obtain⟨x,rfl⟩:=List.length_eq_one_iff.1 hl;simp only[Bx,List.headD_cons];rw[hz oM]
 .by_cases h2:(Aa c.regs r).kind=2
  .rw[if_neg oM,if_neg oM]at hl;rw[if_neg h1,if_pos h2,if_neg h1,if_pos h2];simp only[Bx];rw[List.length_eq_zero_iff.1 hl]
  .rw[if_neg h1,if_neg h2,if_neg h1,if_neg h2];simp only[Bx];rw[hz h2]
theorem val_32(ok:KK c f)(nd:Dy c f i)(h:i.op=32)(hz:∀j (h:j<c.slots.length),c.slots[j].ty.kind≠2->((f.slots[j]?).getD ⟨[],0⟩).whole=0):Dj c G P f i=(f.slots[i.n.toNat]?).getD ⟨[],0⟩:=by
 obtain⟨d0,d1,n0,n1,ht⟩:=nd.load h;have hn:i.n.toNat<c.slots.length:=oM;have hn2:i.n.toNat<f.slots.length:=by rw[ok.slotsL];exact hn
 have hh:=ok.slots i.n.toNat hn hn2;have e:Cw c.slots i.n=c.slots[i.n.toNat].ty:=by unfold Cw;rw[gB hn];rfl
 unfold Dj;rw[CK h];refine rd_st ?_ fun h2=>hz _ hn (by rw[<-e,ht];exact h2);rw[gB hn2,Option.getD_some,<-ht,e];exact hh
theorem Uv(h:Bq i.op=true)(hk:(Aa c.regs i.d).kind=2):Dj c G P f i=⟨[],f.whs i.a.toNat⟩:=by
 unfold Dj C2;rw[Bt h];unfold EU;rw[if_pos hk,if_neg oM,if_pos hk];simp only[Bx]
theorem Y3(hg:Good c)(ok:KK c f)(nd:Dy c f i)(h:Bq i.op=true)(hk:(Aa c.regs i.d).kind≠2):Dj c G P f i=⟨UF (if(Aa c.regs i.d).kind=3 then lenOf c (Aa c.regs i.d).par else 1) (D4 i.op (Br c f i)),0⟩:=by
 obtain⟨e1,e2⟩:=el_eq hg ok h nd hk;obtain⟨s1,s2⟩:=Fa hg ok h nd hk;rw[e1];unfold Dj;rw[Bt h];unfold EU;rw[if_neg hk];refine rd_st ⟨?_,fun y hy=>?_,Int.le_refl _,by show(0:Int)<=2147483647;decide⟩ fun _=>rfl
 .simp only;split
  .unfold DU;rw[List.length_replicate]
  .rename_i hn;have h1:=(Gi hg ok h nd hk).1;omega
 .simp only at hy;split at hy
  .unfold DU at hy;rw[List.eq_of_mem_replicate hy];exact Do _ (JN s2)
  .exact s2 y hy
theorem N5(hk:Al i.op=true)(r:Nat)(h:(A4 i.op).d≠0->r≠i.d.toNat):C2 c (D1 c G P f i) (r:Int)=C2 c f (r:Int):=by
 have hst:∀x:Hd,(A4 i.op).d≠0->C2 c (Kt c f i.d x) (r:Int)=C2 c f (r:Int):=fun x hd=>by
  have hr:=h hd;unfold Kt;split
  .unfold C2;simp only[Int.toNat_natCast,By _ _ hr]
  .split
   .unfold C2;simp only[Int.toNat_natCast,By _ _ hr]
   .unfold C2;simp only[Int.toNat_natCast,By _ _ hr]
 rcases Da hk with e|e|e|e|e|e|e|e|e
 .have hr:=h (by unfold Dk at e;simp only[Bool.or_eq_true,beq_iff_eq]at e;have:i.op=1\/i.op=16\/i.op=17\/i.op=19\/i.op=20:=oM;rcases this with q|q|q|q|q<;>rw[q]<;>decide);rw[Cc e];unfold C2;simp only[Int.toNat_natCast,By _ _ hr]
 .have hr:=h (by unfold Bj at e;simp only[Bool.or_eq_true,Bool.and_eq_true,beq_iff_eq,decide_eq_true_eq]at e;have:i.op=2\/i.op=18\/i.op=21\/i.op=22\/i.op=23\/i.op=24\/i.op=25\/i.op=26\/i.op=27\/i.op=28:=oM;rcases this with q|q|q|q|q|q|q|q|q|q<;>rw[q]<;>decide);rw[Bp e];unfold C2;simp only[Int.toNat_natCast,By _ _ hr]
 .have hr:=h Zht;rw[CI e];unfold C2;simp only[Int.toNat_natCast,By _ _ hr]
 .have hr:=h Zht;rw[CJ e];unfold C2;simp only[Int.toNat_natCast,By _ _ hr]
 .rw[D7 e];rfl
 .rw[CK e];exact hst _ Zht
 .rw[CM e];rfl
 .rw[AM e]
 .have hd:(A4 i.op).d≠0:=by
   unfold Bq at e;simp only[Bool.and_eq_true,decide_eq_true_eq]at e;have:i.op=3\/i.op=4\/i.op=5\/i.op=6\/i.op=7\/i.op=8\/i.op=9\/i.op=10\/i.op=11\/i.op=12\/i.op=13\/i.op=14\/i.op=15:=oM;rcases this with q|q|q|q|q|q|q|q|q|q|q|q|q<;>rw[q]<;>decide
  rw[Bt e];unfold EU;split
  .unfold C2;simp only[Int.toNat_natCast,By _ _ (h hd)]
  .exact hst _ hd
end
structure P9(c:Cd)(f:Fr)(X S O:List Cl):Prop where
 xl:X.length=c.regs.length
 xok:∀x∈X,(∀y∈x.h.pats,AH y)/\x.h.pats.length<=4096/\0<=x.h.whole/\x.h.whole<=2147483647
 sl:S.map (·.h)=f.slots
 sz:∀j (h:j<c.slots.length),c.slots[j].ty.kind≠2->((f.slots[j]?).getD ⟨[],0⟩).whole=0
 ol:O.length=2*c.sign.length
 oo:∀p n:Nat,p<c.sign.length->n<AI c (p:Int)->∃o,O[2*p+n]? =some o/\o.h.pats.length=lenOf c (p:Int)/\(∀y∈o.h.pats,AH y)/\∀e,e<lenOf c (p:Int)->CH o.h.pats e=f.outs p (AI c (p:Int)*e+n)
def QM(c:Cd)(f:Fr)(X:List Cl)(r:Nat):Prop:=∃x,X[r]? =some x/\x.h=C2 c f (r:Int)
def Did(c:Cd)(G P:List (List Int))(f:Fr)(i:Ad)(X S O X' S' O':List Cl):Prop:=
 ((A4 i.op).d≠0/\(∃x,X'=X.set i.d.toNat x/\x.h=Dj c G P f i)/\S'=S/\O'=O)
 \/(i.op=33/\X'=X/\(∃x,X[i.a.toNat]? =some x/\S'=S.set i.n.toNat x)/\O'=O)
 \/(i.op=31/\X'=X/\S'=S/\∃x,X[i.a.toNat]? =some x/\O'=O.set (2*(Aa c.regs i.a).par.toNat+i.n.toNat) x)
 \/((34<=i.op/\i.op<=37)/\X'=X/\S'=S/\O'=O)
theorem Qq{op:Int}(hk:Al op=true):(A4 op).d≠0↔op≠31/\op≠33/\¬ (34<=op/\op<=37):=by
 unfold Al at hk;simp only[Bool.and_eq_true,decide_eq_true_eq]at hk;have:op∈(List.range 38).map (fun n:Nat=>(n:Int)):=by
  rw[List.mem_map];exact⟨op.toNat,by rw[List.mem_range];omega,oM⟩
 have h0:op≠0:=oM;revert h0;revert op;intro op hk;simp only[List.range,List.range.loop,List.map_cons,List.map_nil,List.mem_cons,List.not_mem_nil,or_false];intro h h0;rcases h with h|h|h|h|h|h|h|h|h|h|h|h|h|h|h|h|h|h|h|h|h|h|h|h|h|h|h|h|h|h|h|h|h|h|h|h|h|h<;>(rw[h]at h0 |-;revert h0;decide)
theorem Fx{c:Cd}{G P:List (List Int)}{f:Fr}{i:Ad}(hk:Al i.op=true):(i.op≠33->(D1 c G P f i).slots=f.slots)/\(i.op≠31->(D1 c G P f i).outs=f.outs):=by
 have hst:∀r h,(Kt c f r h).slots=f.slots/\(Kt c f r h).outs=f.outs:=fun r h=>by
  unfold Kt;split
  .exact⟨rfl,rfl⟩
  .split
   .exact⟨rfl,rfl⟩
   .exact⟨rfl,rfl⟩
 rcases Da hk with e|e|e|e|e|e|e|e|e
 .rw[Cc e];exact⟨fun _=>rfl,fun _=>rfl⟩
 .rw[Bp e];exact⟨fun _=>rfl,fun _=>rfl⟩
 .rw[CI e];exact⟨fun _=>rfl,fun _=>rfl⟩
 .rw[CJ e];exact⟨fun _=>rfl,fun _=>rfl⟩
 .exact⟨fun _=>by rw[D7 e],fun h=>absurd e h⟩
 .rw[CK e];exact⟨fun _=>(hst _ _).1,fun _=>(hst _ _).2⟩
 .exact⟨fun h=>absurd e h,fun _=>by rw[CM e]⟩
 .rw[AM e];exact⟨fun _=>rfl,fun _=>rfl⟩
 .rw[Bt e];unfold EU;split
  .exact⟨fun _=>rfl,fun _=>rfl⟩
  .exact⟨fun _=>(hst _ _).1,fun _=>(hst _ _).2⟩
inductive Nd(l:List Ad):Nat->Prop where
 |out {k:Nat} (hk:k<l.length) (h:l[k].op=31):Nd l k
 |set {k j:Nat} (hk:k<l.length) (hj:j<l.length) (n:Nd l k) (r:Int) (hr:r∈Ae l[k] (A4 l[k].op)) (hs:Af l[j]=true) (e:l[j].d.toNat=r.toNat):Nd l j
 |store {k j:Nat} (hk:k<l.length) (hj:j<l.length) (n:Nd l k) (h1:l[k].op=32) (h2:l[j].op=33) (e:l[j].n=l[k].n):Nd l j
 |beg {k b:Nat} (hk:k<l.length) (n:Nd l k) (hb:b∈(if l[k].op=35\/l[k].op=37 then(AE (l.take k)).tail else AE (l.take k))):Nd l b
 |fin {k b:Nat} (hk:k<l.length) (n:Nd l b) (hf:l[k].op=35\/l[k].op=37) (hb:(AE (l.take k)).head?=some b):Nd l k
 |begE {k b:Nat} (hk:k<l.length) (n:Nd l k) (hf:l[k].op=35\/l[k].op=37) (hb:(AE (l.take k)).head?=some b):Nd l b
theorem DX(l:List Ad):∀k,k<=l.length->∀b∈AE (l.take k),∃hb:b<l.length,b<k/\(l[b].op=34\/l[b].op=36):=by
 intro k;induction k with
 |zero=>intro _ b hb;cases hb
 |succ k ih=>
  intro hk b hb;have hkl:k<l.length:=oM;rw[List.take_succ_eq_append_getElem hkl,IE,show(l.take k).length=k by rw[List.length_take];omega]at hb;have old:∀b∈AE (l.take k),∃hb:b<l.length,b<k+1/\(l[b].op=34\/l[b].op=36):=fun b hb=>by
   obtain⟨h1,h2,h3⟩:=ih oM b hb;exact⟨h1,oM,h3⟩
  by_cases h1:l[k].op=34\/l[k].op=36
  .rw[if_pos h1]at hb;rcases List.mem_cons.1 hb with e|e
   .subst e;exact⟨hkl,oM,h1⟩
   .exact old b e
  .rw[if_neg h1]at hb;split at hb
   .exact old b (List.mem_of_mem_tail hb)
   .exact old b hb
theorem QU{i:Ad}(h:i.op=34\/i.op=36):Af i=false/\i.op≠32/\i.op≠33:=by
 refine⟨?_,oM,oM⟩;unfold Af;rcases h with e|e<;>(rw[e];decide)
theorem Ff{l:List Ad}{k b:Nat}(hk:k<l.length)(hb:b∈(if l[k].op=35\/l[k].op=37 then(AE (l.take k)).tail else AE (l.take k))):b∈AE (l.take k):=by
 split at hb
 .exact List.mem_of_mem_tail hb
 .exact hb
theorem Nd.setter{l:List Ad}{j:Nat}(h:Nd l j)(hj:j<l.length)(hs:Af l[j]=true):∀k (hk:k<l.length),Af l[k]=true->l[k].d.toNat=l[j].d.toNat->Nd l k:=by
 cases h with
 |out hk o=>unfold Af at hs;rw[o]at hs;exact absurd hs dE
 |set hk0 hj0 n r hr _ e=>exact fun k hk hsk ek=>.set hk0 hk n r hr hsk (ek.trans e)
 |store _ _ _ _ o _=>unfold Af at hs;rw[o]at hs;exact absurd hs dE
 |beg hk n hb=>
  obtain⟨h1,-,h3⟩:=DX l _ oM j (Ff hk hb);rw[(QU h3).1]at hs;cases hs
 |fin hk n hf hb=>unfold Af at hs;rcases hf with e|e<;>(rw[e]at hs;exact absurd hs dE)
 |begE hk n hf hb=>
  obtain⟨h1,-,h3⟩:=DX l _ oM j (List.mem_of_mem_head? hb);rw[(QU h3).1]at hs;cases hs
theorem Nd.stored{l:List Ad}{j:Nat}(h:Nd l j)(hj:j<l.length)(o:l[j].op=33):∃k,∃hk:k<l.length,Nd l k/\l[k].op=32/\l[j].n=l[k].n:=by
 cases h with
 |out hk o'=>omega
 |set _ _ _ _ _ hs _=>unfold Af at hs;rw[o]at hs;exact absurd hs dE
 |store hk _ n o1 _ e=>exact⟨_,hk,n,o1,e⟩
 |beg hk n hb=>
  obtain⟨h1,-,h3⟩:=DX l _ oM j (Ff hk hb);omega
 |fin hk n hf hb=>omega
 |begE hk n hf hb=>
  obtain⟨h1,-,h3⟩:=DX l _ oM j (List.mem_of_mem_head? hb);omega
noncomputable def ndK (l:List Ad) (k:Nat):Bool:=@decide (Nd l k) (Classical.propDecidable _)
theorem BH{l:List Ad}{k:Nat}:ndK l k=true↔Nd l k:=by unfold ndK;simp
theorem Jm{l:List Ad}{k:Nat}:ndK l k=false↔¬Nd l k:=by unfold ndK;simp
def UsR(l:List Ad)(r:Nat):Prop:=∃k,∃hk:k<l.length,Nd l k/\Af l[k]=true/\l[k].d.toNat=r
def UsS(l:List Ad)(n:Nat):Prop:=∃k,∃hk:k<l.length,Nd l k/\(l[k].op=32\/l[k].op=33)/\l[k].n.toNat=n
noncomputable def usR (l:List Ad) (r:Nat):Bool:=@decide (UsR l r) (Classical.propDecidable _)
noncomputable def usS (l:List Ad) (r:Nat):Bool:=@decide (UsS l r) (Classical.propDecidable _)
theorem CC{l:List Ad}{r:Nat}:usR l r=true↔UsR l r:=by unfold usR;simp
theorem EJ{l:List Ad}{r:Nat}:usS l r=true↔UsS l r:=by unfold usS;simp
def AA(p:Nat->Bool)(r:Nat):Nat:=((List.range r).filter p).length
def AU{α:Type}(p:Nat->Bool)(l:List α):List α:=((List.range l.length).filter p).filterMap fun r=>l[r]?
theorem GR(p:Nat->Bool):∀n r,r<n->p r=true->((List.range n).filter p)[AA p r]? =some r:=by
 intro n;induction n with
 |zero=>intro r h;omega
 |succ n ih=>
  intro r hr hp;rw[List.range_succ,List.filter_append];by_cases e:r=n
  .subst e;unfold AA;rw[List.getElem?_append_right (gF _)];simp[hp]
  .have h:=ih r oM hp;rw[List.getElem?_append_left]
   .exact h
   .exact(List.getElem?_eq_some_iff.1 h).1
theorem Mq{p:Nat->Bool}{r s:Nat}(hr:p r=true)(hs:p s=true)(e:AA p r=AA p s):r=s:=by
 have h1:=GR p (r+s+1) r oM hr;have h2:=GR p (r+s+1) s oM hs;rw[e,h2]at h1;simpa using h1.symm
theorem Hp{α:Type}{l:List α}:∀ (m:List Nat),(∀r∈m,r<l.length)->(m.filterMap fun r=>l[r]?).length=m.length/\∀t:Nat,(m.filterMap fun r=>l[r]?)[t]? =(m[t]?).bind fun(r:Nat)=>l[r]?
 |[],_=>⟨rfl,fun t=>by simp⟩
 |a::m,h=>by
  obtain⟨h1,h2⟩:=Hp m (fun r hr=>h r (by simp[hr]));rw[List.filterMap_cons,gB (h a sM)];refine⟨by simp[h1],fun t=>?_⟩;cases t with
  |zero=>simp[h a sM]
  |succ t=>simpa using h2 t
theorem Od{α:Type}(p:Nat->Bool)(l:List α):∀r∈(List.range l.length).filter p,r<l.length:=fun r hr=>by have:=(List.mem_filter.1 hr).1;simpa using this
theorem Ho{α:Type}(p:Nat->Bool)(l:List α):(AU p l).length=((List.range l.length).filter p).length:=(Hp _ (Od p l)).1
theorem MY{α:Type}{p:Nat->Bool}{l:List α}{r:Nat}(hr:r<l.length)(hp:p r=true):(AU p l)[AA p r]? =l[r]? :=by
 have h:=GR p l.length r hr hp;have h2:=(Hp _ (Od p l)).2 (AA p r);rw[h]at h2;exact h2
theorem Hn{α:Type}(p:Nat->Bool)(l:List α):(AU p l).length<=l.length:=by
 rw[Ho];have:=List.length_filter_le p (List.range l.length);simpa using this
theorem Kf{α:Type}{p:Nat->Bool}{l:List α}{x:α}(h:x∈AU p l):x∈l:=by
 unfold AU at h;obtain⟨r,-,hr⟩:=List.mem_filterMap.1 h;exact List.mem_of_getElem? hr
def CY(rho sig:Nat->Nat)(i:Ad):Ad:=
 {i with d:=if(A4 i.op).d=0 then i.d else((rho i.d.toNat:Nat):Int),a:=if(A4 i.op).a=0 then i.a else((rho i.a.toNat:Nat):Int),b:=if(A4 i.op).b=0 then i.b else((rho i.b.toNat:Nat):Int),c:=if(A4 i.op).c=0 then i.c else((rho i.c.toNat:Nat):Int),n:=if i.op=32\/i.op=33 then((sig i.n.toNat:Nat):Int)else i.n}
noncomputable def pruneC (c:Cd):Cd:=⟨c.sign,AU (usR c.list) c.regs,AU (usS c.list) c.slots,Bc (ndK c.list) (CY (AA (usR c.list)) (AA (usS c.list))) c.list c.list.length⟩
def B6(T:Nat->Prop)(w:World)(p:Option Addr)(l:List Int):Prop:=l=[]\/∃b o,p=some ⟨b,o,none⟩/\¬T b/\b<w.heap.size/\∀j,j<l.length->w.cell? ⟨b,o+j,none⟩=some (.int .i64 (CH l j))
section
variable {T U : Nat -> Prop} {w w' : World} {p : Option Addr} {l : List Int}
theorem B6.num(h:B6 T w p l):C6 w p l:=by
 rcases h with rfl|⟨b,o,e,-,-,h⟩
 .exact .inl rfl
 .exact .inr ⟨b,o,e,h⟩
theorem B6.un(h:B6 T w p l)(q:Un U w w')(hu:∀b,b<w.heap.size->U b->T b):B6 T w' p l:=
 h.imp id fun⟨b,o,e,ht,hb,h⟩=>⟨b,o,e,ht,Nat.lt_of_lt_of_le hb q.size,fun j hj=>(gC (q.block b hb fun k=>ht (hu b hb k))).trans (h j hj)⟩
theorem B6.below(h:B6 T w p l)(q:Below w.heap.size w w'):B6 T w' p l:=h.un (U:=fun _=>False) (Un.of q) (fun _ _ e=>e.elim)
theorem B6.mono(h:B6 T w p l)(hu:∀b,b<w.heap.size->U b->T b):B6 U w p l:=
 h.imp id fun⟨b,o,e,ht,hb,h⟩=>⟨b,o,e,fun k=>ht (hu b hb k),hb,h⟩
theorem C6.free{B:Nat}(h:C6 w p l)(hl:∀b o s,p=some ⟨b,o,s⟩->B<=b)(ht:∀b,T b->b<B):B6 T w p l:=by
 by_cases h0:l=[]
 .exact .inl h0
 .rcases h with h|⟨b,o,e,h⟩
  .exact absurd (List.length_eq_zero_iff.1 h) h0
  .have:=List.length_pos_iff.2 h0;exact .inr ⟨b,o,e,fun k=>by have h1:=ht b k;have h2:=hl b o none e;omega,A8 (h 0 this),h⟩
end
structure AT(T:Nat->Prop)(w:World)(v:Value)(X:List Cl):Prop where
 row:F6 T 2 SJ w v X
 nums:∀x∈X,B6 T w x.p x.h.pats
structure Ie(T:Nat->Prop)(w:World)(v:Value)(X:List Cl):Prop where
 row:F6 T 1 UH w v X
 nums:∀x∈X,B6 T w x.p x.h.pats
section
variable {T U : Nat -> Prop} {w w' : World} {v : Value} {X : List Cl}
theorem AT.cs(h:AT T w v X):Yg w v X:=⟨h.row.row,fun x hx=>(h.nums x hx).num⟩
theorem AT.un(h:AT T w v X)(q:Un U w w')(hu:∀b,b<w.heap.size->U b->T b):AT T w' v X:=⟨h.row.un q hu,fun x hx=>(h.nums x hx).un q hu⟩
theorem AT.below(h:AT T w v X)(q:Below w.heap.size w w'):AT T w' v X:=⟨h.row.below q,fun x hx=>(h.nums x hx).below q⟩
theorem AT.mono(h:AT T w v X)(hu:∀b,b<w.heap.size->U b->T b):AT U w v X:=⟨h.row.mono hu,fun x hx=>(h.nums x hx).mono hu⟩
theorem Ie.un(h:Ie T w v X)(q:Un U w w')(hu:∀b,b<w.heap.size->U b->T b):Ie T w' v X:=⟨h.row.un q hu,fun x hx=>(h.nums x hx).un q hu⟩
theorem Ie.below(h:Ie T w v X)(q:Below w.heap.size w w'):Ie T w' v X:=⟨h.row.below q,fun x hx=>(h.nums x hx).below q⟩
theorem Ie.mono(h:Ie T w v X)(hu:∀b,b<w.heap.size->U b->T b):Ie U w v X:=⟨h.row.mono hu,fun x hx=>(h.nums x hx).mono hu⟩
end
theorem Hl{α:Type}{f:α->List Value}{k:Nat}(hf:∀x,(f x).length=k){w:World}{B:Nat}{t:TypeId}{v:Value}{l:List α}(h:w.ownsRow B t k v l.length (Au f l)){T:Nat->Prop}(ht:∀b,T b->b<B):F6 T k f w v l:=by
 have hr:=Dv hf h;obtain⟨p,c,rfl,hr⟩:=hr;refine⟨p,c,rfl,hr.imp id fun⟨b,o,e,hc⟩=>⟨b,o,e,fun k=>?_,?_,hc⟩⟩
 .have h1:=EE h b o none e;have h2:=ht b k;omega
 .subst e;exact(h.lt b rfl).2
theorem Lz(x:Cl):∀ (X:List Cl) (d:Nat),d<X.length->((Au SJ X).set (d*2) (.slice x.p x.h.pats.length x.q)).set (d*2+1) (.int .i64 x.h.whole)=Au SJ (X.set d x)
 |[],d,h=>by simp at h
 |y::X,0,h=>rfl
 |y::X,d+1,h=>by
  have ih:=Lz x X d UQ;have e:Au SJ (y::X)=.slice y.p y.h.pats.length y.q:: .int .i64 y.h.whole::Au SJ X:=rfl;rw[e,show(d+1)*2=d*2+1+1 by omega];simp only[List.set_cons_succ];rw[ih];rfl
theorem rput_T{T:Nat->Prop}(v:Value)(X:List Cl)(hX:X.length<=16384)(d:Nat)(hd:d<X.length)(x:Cl)(w:World)(hT:∀b,T b->b<w.heap.size)(h:AT T w v X)(hx:B6 T w x.p x.h.pats):
 Calls prog 70 #[v,.int .i64 (d:Int),.agg #[.slice x.p x.h.pats.length x.q,.int .i64 x.h.whole]] w fun e w'=>∃p q,e=.returned (.slice p X.length q)/\AT T w' (.slice p X.length q) (X.set d x)/\Below w.heap.size w w':=by
 obtain⟨i0,hi0,hz0,hz1,hz2⟩:=info_parts Ii;have hb0:=A0 w (.cells #[.slice x.p x.h.pats.length x.q,.int .i64 x.h.whole] 74);obtain⟨u,w',hr,hb,hown⟩:=Nu dE H8 QW underlying41 hi0 hz0 hz1 hz2 rfl (h.row.row.below hb0) mL oM 41;obtain⟨g,cap,rfl,hg,hgl⟩:=hown.form oM;have hs0:(w.alloc (.cells #[.slice x.p x.h.pats.length x.q,.int .i64 x.h.whole] 74)).heap.size=w.heap.size+1:=sM;have s1:=hown.stored (d*2) (.slice x.p x.h.pats.length x.q);have s2:=s1.1.stored (d*2+1) (.int .i64 x.h.whole);have hfin:=s2.1;rw[Lz x X d hd]at hfin;have hfl:(Au SJ X).length=X.length*2:=Dz H8 X;have y0:∃z,w'.cell? ⟨g,d*2,none⟩=some z:=by
  refine⟨(Au SJ X)[d*2]'oM,?_⟩;rw[hown.cellAt (d*2) oM,gB]
 have y1:∃z,w'.cell? ⟨g,d*2+1,none⟩=some z:=by
  refine⟨(Au SJ X)[d*2+1]'oM,?_⟩;rw[hown.cellAt (d*2+1) oM,gB]
 have f0:=hown.frozenAt (d*2);have f1:=hown.frozenAt (d*2+1);have c0:w'.cell? ⟨w.heap.size,0,none⟩=some (.slice x.p x.h.pats.length x.q):=kc hb sG;have c1:w'.cell? ⟨w.heap.size,1,none⟩=some (.int .i64 x.h.whole):=kc hb sG;obtain⟨z0,y0⟩:=y0;obtain⟨z1,y1⟩:=y1;have hbF:Below w.heap.size w ((w'.setCell ⟨g,d*2,none⟩ (.slice x.p x.h.pats.length x.q)).setCell ⟨g,d*2+1,none⟩ (.int .i64 x.h.whole)):=((bel hb0 hb).setCell Zhx _).setCell Zhx _;have HFIN:Hid (AT T ((w'.setCell ⟨g,d*2,none⟩ (.slice x.p x.h.pats.length x.q)).setCell ⟨g,d*2+1,none⟩ (.int .i64 x.h.whole)) (.slice (some ⟨g,0,none⟩) X.length cap) (X.set d x)/\Below w.heap.size w ((w'.setCell ⟨g,d*2,none⟩ (.slice x.p x.h.pats.length x.q)).setCell ⟨g,d*2+1,none⟩ (.int .i64 x.h.whole))):=by
  refine⟨⟨Hl H8 (by rw[List.length_set];exact hfin) (fun b hb=>by have:=hT b hb;omega),fun y hy=>?_⟩,hbF⟩;rcases List.mem_or_eq_of_mem_set hy with e|rfl
  .exact(h.nums y e).below hbF
  .exact hx.below hbF
 have HR:Hid _:=hr;obtain⟨p,q,rfl,-⟩:=id h.row;obtain⟨N,hN⟩:=gA (X.length)
 rw[hN]at hd hX HR HFIN |-;have d0:(0:Int)<=(d:Int):=oM;have d1:(d:Int)<(N:Int):=oM;clear hr hb hown s1 s2 hfin hfl hbF h hN hT;go_enter func70,ntmps70;go_wp2_with(at_builtin;refine AO rF _ _ _ rF _ _ _ rF rF HR.out ?_);go_ret;exact⟨_,_,rfl,HFIN.1,HFIN.2⟩
def D5(a b c d e f g h i j:Value)(k:Nat):Value:=if k=0 then a else if k=1 then b else if k=2 then c else if k=3 then d else if k=4 then e else if k=5 then f else if k=6 then g else if k=7 then h else if k=8 then i else j
theorem Mu(a b c d e f g h i j:Value):∀k,k<(#[a,b,c,d,e,f,g,h,i,j]:Array Value).size->(#[a,b,c,d,e,f,g,h,i,j]:Array Value)[k]? =some (D5 a b c d e f g h i j k):=by
 intro k hk;have hk':k<10:=hk;obtain rfl|rfl|rfl|rfl|rfl|rfl|rfl|rfl|rfl|rfl:k=0\/k=1\/k=2\/k=3\/k=4\/k=5\/k=6\/k=7\/k=8\/k=9:=oM
 all_goals rfl
def f7(a b c d e f g:Value)(k:Nat):Value:=if k=0 then a else if k=1 then b else if k=2 then c else if k=3 then d else if k=4 then e else if k=5 then f else g
theorem f7_ok(a b c d e f g:Value):∀k,k<(#[a,b,c,d,e,f,g]:Array Value).size->(#[a,b,c,d,e,f,g]:Array Value)[k]? =some (f7 a b c d e f g k):=by
 intro k hk;have hk':k<7:=hk;obtain rfl|rfl|rfl|rfl|rfl|rfl|rfl:k=0\/k=1\/k=2\/k=3\/k=4\/k=5\/k=6:=oM
 all_goals rfl
def f2(a b:Value)(k:Nat):Value:=if k=0 then a else b
theorem f2_ok(a b:Value):∀k,k<(#[a,b]:Array Value).size->(#[a,b]:Array Value)[k]? =some (f2 a b k):=by
 intro k hk;have hk':k<2:=hk;obtain rfl|rfl:k=0\/k=1:=oM
 all_goals rfl
structure DW(w:World)(F I D:Nat->Value)(v:World):Prop where
 bel:Below w.heap.size w v
 f:v.rowIs w.heap.size 110 10 F
 i:v.rowIs (w.heap.size+1) 40 7 I
 r:v.rowIs (w.heap.size+1+1) 110 10 (D5 (.slice none 0 0) (.slice none 0 0) (.slice none 0 0) (.slice none 0 0) (.slice none 0 0) (.slice none 0 0) (.slice none 0 0) (.slice none 0 0) (.slice none 0 0) (.int .i64 0))
 d:v.rowIs (w.heap.size+1+1+1) 74 2 D
theorem DW.next{w:World}{F I D:Nat->Value}{v v':World}(h:DW w F I D v)(k:Below v.heap.size v v'):DW w F I D v':=
 ⟨Go.Proofs.YtnbccaicijcklaaGreat.bel h.bel k,h.f.of_block (k.block _ h.f.lt),h.i.of_block (k.block _ h.i.lt),h.r.of_block (k.block _ h.r.lt),h.d.of_block (k.block _ h.d.lt)⟩
theorem DW.size{w:World}{F I D:Nat->Value}{v:World}(h:DW w F I D v):w.heap.size+1+1+1<v.heap.size:=h.d.lt
theorem DW.put{w:World}{F I D:Nat->Value}{v:World}(h:DW w F I D v)(i:Nat)(x:Value):DW w F I (fun j=>if j=i then x else D j) (v.setCell ⟨w.heap.size+1+1+1,i,none⟩ x):=
 ⟨h.bel.setCell (by show w.heap.size<=w.heap.size+1+1+1;omega) _,h.f.setOther (by show w.heap.size≠w.heap.size+1+1+1;omega) _,h.i.setOther (by show w.heap.size+1≠w.heap.size+1+1+1;omega) _,h.r.setOther (by show w.heap.size+1+1≠w.heap.size+1+1+1;omega) _,h.d.set i x⟩
theorem DW.congr{w:World}{F I D D':Nat->Value}{v:World}(h:DW w F I D v)(k:∀j,j<2->D j=D' j):DW w F I D' v:=⟨h.bel,h.f,h.i,h.r,h.d.congr k⟩
theorem DW.start(w:World)(a0 a1 a2 a3 a4 a5 a6 a7 a8 a9 b0 b1 b2 b3 b4 b5 b6:Value):DW w (D5 a0 a1 a2 a3 a4 a5 a6 a7 a8 a9) (f7 b0 b1 b2 b3 b4 b5 b6) (f2 (.slice none 0 0) (.int .i64 0)) ((((w.alloc (.cells #[a0,a1,a2,a3,a4,a5,a6,a7,a8,a9] 110)).alloc (.cells #[b0,b1,b2,b3,b4,b5,b6] 40)).alloc (.cells #[.slice none 0 0,.slice none 0 0,.slice none 0 0,.slice none 0 0,.slice none 0 0,.slice none 0 0,.slice none 0 0,.slice none 0 0,.slice none 0 0,.int .i64 0] 110)).alloc (.cells #[.slice none 0 0,.int .i64 0] 74)):=by
 have r1:=World.rowIs_alloc w #[a0,a1,a2,a3,a4,a5,a6,a7,a8,a9] 110 _ (Mu _ _ _ _ _ _ _ _ _ _);have r2:=World.rowIs_alloc (w.alloc (.cells #[a0,a1,a2,a3,a4,a5,a6,a7,a8,a9] 110)) #[b0,b1,b2,b3,b4,b5,b6] 40 _ (f7_ok _ _ _ _ _ _ _);have r3:=World.rowIs_alloc ((w.alloc (.cells #[a0,a1,a2,a3,a4,a5,a6,a7,a8,a9] 110)).alloc (.cells #[b0,b1,b2,b3,b4,b5,b6] 40)) #[.slice none 0 0,.slice none 0 0,.slice none 0 0,.slice none 0 0,.slice none 0 0,.slice none 0 0,.slice none 0 0,.slice none 0 0,.slice none 0 0,.int .i64 0] 110 _ (Mu _ _ _ _ _ _ _ _ _ _);have r4:=World.rowIs_alloc (((w.alloc (.cells #[a0,a1,a2,a3,a4,a5,a6,a7,a8,a9] 110)).alloc (.cells #[b0,b1,b2,b3,b4,b5,b6] 40)).alloc (.cells #[.slice none 0 0,.slice none 0 0,.slice none 0 0,.slice none 0 0,.slice none 0 0,.slice none 0 0,.slice none 0 0,.slice none 0 0,.slice none 0 0,.int .i64 0] 110)) #[.slice none 0 0,.int .i64 0] 74 _ (f2_ok _ _);simp only[World.size_alloc]at r2 r3 r4;exact⟨Go.Proofs.YtnbccaicijcklaaGreat.bel (A0 _ _) (Go.Proofs.YtnbccaicijcklaaGreat.bel (A0 _ _) (Go.Proofs.YtnbccaicijcklaaGreat.bel (A0 _ _) (A0 _ _))),((r1.alloc _).alloc _).alloc _,(r2.alloc _).alloc _,r3.alloc _,r4⟩
theorem Lj(c:Cd)(hg:Good c)(v0 v1 v2 v3 ru su ou gu pu ct:Value)(X:List Cl)(hX:X.length=c.regs.length)(op nn bt:Int)(kd ka kb kk:Nat)(hd:kd<c.regs.length)(ha:ka<X.length)(hb:kb<X.length)(hc:kk<X.length)(h2:c.regs[kd].kind≠2)(ht:c.regs[kd].kind=3->Av c.regs[kd].par c.sign.length=true)
 (m:Nat) (hm:CD op=m) (h0:m≠0) (n:Nat) (hs:Eo (lF (Dn X[ka].h.pats X[kb].h.pats X[kk].h.pats m)) (m-1)=some n) (hn1:1<=n) (hn:n<=4096)
 (hP:∀x∈X,∀y∈x.h.pats,AH y) (hL:∀x∈X,x.h.pats.length<=4096) (w:World) (hv:CE w v0 v1 v2 v3 c) (hcs:Yg w ru X):
 Calls prog 62 #[.agg #[v0,v1,v2,v3,ru,su,ou,gu,pu,ct],.agg #[.int .i64 op,.int .i64 (kd:Int),.int .i64 (ka:Int),.int .i64 (kb:Int),.int .i64 (kk:Int),.int .i64 nn,.int .u32 bt]] w fun e w'=>
  ∃p q,e=.returned (.agg #[.slice p (UF (if c.regs[kd].kind=3 then lenOf c c.regs[kd].par else 1) (D4 op (Dn X[ka].h.pats X[kb].h.pats X[kk].h.pats m))).length q,.int .i64 0])/\C6 w' p (UF (if c.regs[kd].kind=3 then lenOf c c.regs[kd].par else 1) (D4 op (Dn X[ka].h.pats X[kb].h.pats X[kk].h.pats m)))/\Below w.heap.size w w'/\∀b o s,p=some ⟨b,o,s⟩->w.heap.size<=b:=by
 have KW:=Fm v0 v1 v2 v3 c hg c.regs[kd] ht;have hwid:(if c.regs[kd].kind=3 then lenOf c c.regs[kd].par else 1)<=4096:=by split;exact hg.lenOf _;omega
 obtain⟨p1,q1,rfl,-⟩:=id hv.regs;obtain⟨lb,lo,rfl,hreg⟩:=hv.regs.at hd;obtain⟨pr,qr,rfl,-⟩:=id hcs.row;obtain⟨rb,ro,rfl,hca⟩:=hcs.row.at ha;obtain⟨rb2,ro2,e2,hcb⟩:=hcs.row.at hb;obtain⟨rb3,ro3,e3,hcc⟩:=hcs.row.at hc;simp only[Option.some.injEq,Addr.mk.injEq,and_true]at e2 e3;obtain⟨rfl,rfl⟩:=e2;obtain⟨rfl,rfl⟩:=e3;have KA:=apply3 op m hm h0 X[ka] X[kb] X[kk] n hs (hP _ (gD ha)) (hP _ (gD hb)) (hP _ (gD hc)) (hL _ (gD ha)) (hL _ (gD hb)) (hL _ (gD hc));have na:=hcs.nums _ (gD ha);have nb:=hcs.nums _ (gD hb);have nc:=hcs.nums _ (gD hc);obtain⟨xa,hxa⟩:∃x,X[ka]=x:=⟨_,rfl⟩
 obtain⟨xb,hxb⟩:∃x,X[kb]=x:=⟨_,rfl⟩
 obtain⟨xc,hxc⟩:∃x,X[kk]=x:=⟨_,rfl⟩
 rw[hxa]at hca na;rw[hxb]at hcb nb;rw[hxc]at hcc nc;rw[hxa,hxb,hxc]at KA |-;obtain⟨RR,hRR⟩:∃R,D4 op (Dn xa.h.pats xb.h.pats xc.h.pats m)=R:=⟨_,rfl⟩
 rw[hRR]at KA |-;obtain⟨⟨tk,tp⟩,hT⟩:∃t:Ty,c.regs[kd]=t:=⟨_,rfl⟩
 rw[hT]at hreg h2 KW hwid |-;unfold DY at KW;simp only at h2 KW hwid |-;obtain⟨Wd,hWd⟩:∃W,(if tk=3 then lenOf c tp else 1)=W:=⟨_,rfl⟩
 have hWi:(if tk=3 then(lenOf c tp:Int)else 1)=(Wd:Int):=by rw[<-hWd];split<;>rfl
 rw[hWi]at KW;rw[hWd]at hwid |-;obtain⟨n1,hn1'⟩:∃n,c.regs.length=n:=⟨_,rfl⟩
 rw[hX]at ha hb hc |-;rw[hn1']at hd ha hb hc KW |-;have hregsL:=hg.regsL;rw[hn1']at hregsL;obtain⟨LA,hLA⟩:∃l,xa.h.pats.length=l:=⟨_,rfl⟩
 obtain⟨LB,hLB⟩:∃l,xb.h.pats.length=l:=⟨_,rfl⟩
 obtain⟨LC,hLC⟩:∃l,xc.h.pats.length=l:=⟨_,rfl⟩
 have y0:w.cell? ⟨rb,ro+ka*2,none⟩=some (.slice xa.p LA xa.q):=by rw[<-hLA];exact hca.at 0 rfl
 have y1:w.cell? ⟨rb,ro+kb*2,none⟩=some (.slice xb.p LB xb.q):=by rw[<-hLB];exact hcb.at 0 rfl
 have y2:w.cell? ⟨rb,ro+kk*2,none⟩=some (.slice xc.p LC xc.q):=by rw[<-hLC];exact hcc.at 0 rfl
 rw[hLA,hLB,hLC]at KA;have z0:w.cell? ⟨lb,lo+kd*2,none⟩=some (.int .i64 tk):=hreg.at 0 rfl;have z1:w.cell? ⟨lb,lo+kd*2+1,none⟩=some (.int .i64 tp):=hreg.at 1 rfl;have hba:Below w.heap.size w (((w.alloc (.cells #[v0,.slice (some ⟨lb,lo,none⟩) n1 q1,v2,v3,.slice (some ⟨rb,ro,none⟩) n1 qr,su,ou,gu,pu,ct] 110)).alloc (.cells #[.int .i64 op,.int .i64 (kd:Int),.int .i64 (ka:Int),.int .i64 (kb:Int),.int .i64 (kk:Int),.int .i64 nn,.int .u32 bt] 40)).alloc (.cells #[.slice none 0 0,.int .i64 0] 74)):=bel (A0 _ _) (bel (A0 _ _) (A0 _ _));have b1:(((w.alloc (.cells #[v0,.slice (some ⟨lb,lo,none⟩) n1 q1,v2,v3,.slice (some ⟨rb,ro,none⟩) n1 qr,su,ou,gu,pu,ct] 110)).alloc (.cells #[.int .i64 op,.int .i64 (kd:Int),.int .i64 (ka:Int),.int .i64 (kb:Int),.int .i64 (kk:Int),.int .i64 nn,.int .u32 bt] 40)).alloc (.cells #[.slice none 0 0,.int .i64 0] 74)).cell? ⟨w.heap.size,1,none⟩=some (.slice (some ⟨lb,lo,none⟩) n1 q1):=kc (A0 _ _) (kc (A0 _ _) sG);have b2:(((w.alloc (.cells #[v0,.slice (some ⟨lb,lo,none⟩) n1 q1,v2,v3,.slice (some ⟨rb,ro,none⟩) n1 qr,su,ou,gu,pu,ct] 110)).alloc (.cells #[.int .i64 op,.int .i64 (kd:Int),.int .i64 (ka:Int),.int .i64 (kb:Int),.int .i64 (kk:Int),.int .i64 nn,.int .u32 bt] 40)).alloc (.cells #[.slice none 0 0,.int .i64 0] 74)).cell? ⟨w.heap.size+1,1,none⟩=some (.int .i64 (kd:Int)):=kc (A0 _ _) sG;have b3:=kc hba z0;have b4:=kc hba z1;have HE:Hid (P4 w v0 (.slice (some ⟨lb,lo,none⟩) n1 q1) v2 v3 (.slice (some ⟨rb,ro,none⟩) n1 qr) op (kd:Int) (ka:Int) (kb:Int) (kk:Int) tk tp rb (ro+ka*2) (ro+kb*2) (ro+kk*2) (.slice xa.p LA xa.q) (.slice xb.p LB xb.q) (.slice xc.p LC xc.q) ((((w.alloc (.cells #[v0,.slice (some ⟨lb,lo,none⟩) n1 q1,v2,v3,.slice (some ⟨rb,ro,none⟩) n1 qr,su,ou,gu,pu,ct] 110)).alloc (.cells #[.int .i64 op,.int .i64 (kd:Int),.int .i64 (ka:Int),.int .i64 (kb:Int),.int .i64 (kk:Int),.int .i64 nn,.int .u32 bt] 40)).alloc (.cells #[.slice none 0 0,.int .i64 0] 74)).alloc (.cells #[.int .i64 tk,.int .i64 tp] 59))):=by
  have k4:=A0 (((w.alloc (.cells #[v0,.slice (some ⟨lb,lo,none⟩) n1 q1,v2,v3,.slice (some ⟨rb,ro,none⟩) n1 qr,su,ou,gu,pu,ct] 110)).alloc (.cells #[.int .i64 op,.int .i64 (kd:Int),.int .i64 (ka:Int),.int .i64 (kb:Int),.int .i64 (kk:Int),.int .i64 nn,.int .u32 bt] 40)).alloc (.cells #[.slice none 0 0,.int .i64 0] 74)) (.cells #[.int .i64 tk,.int .i64 tp] 59);have k3:=A0 ((w.alloc (.cells #[v0,.slice (some ⟨lb,lo,none⟩) n1 q1,v2,v3,.slice (some ⟨rb,ro,none⟩) n1 qr,su,ou,gu,pu,ct] 110)).alloc (.cells #[.int .i64 op,.int .i64 (kd:Int),.int .i64 (ka:Int),.int .i64 (kb:Int),.int .i64 (kk:Int),.int .i64 nn,.int .u32 bt] 40)) (.cells #[.slice none 0 0,.int .i64 0] 74);have k2:=A0 (w.alloc (.cells #[v0,.slice (some ⟨lb,lo,none⟩) n1 q1,v2,v3,.slice (some ⟨rb,ro,none⟩) n1 qr,su,ou,gu,pu,ct] 110)) (.cells #[.int .i64 op,.int .i64 (kd:Int),.int .i64 (ka:Int),.int .i64 (kb:Int),.int .i64 (kk:Int),.int .i64 nn,.int .u32 bt] 40);have hrr:=World.rowIs_alloc ((w.alloc (.cells #[v0,.slice (some ⟨lb,lo,none⟩) n1 q1,v2,v3,.slice (some ⟨rb,ro,none⟩) n1 qr,su,ou,gu,pu,ct] 110)).alloc (.cells #[.int .i64 op,.int .i64 (kd:Int),.int .i64 (ka:Int),.int .i64 (kb:Int),.int .i64 (kk:Int),.int .i64 nn,.int .u32 bt] 40)) #[.slice none 0 0,.int .i64 0] 74 Vc YQ;rw[show((w.alloc (.cells #[v0,.slice (some ⟨lb,lo,none⟩) n1 q1,v2,v3,.slice (some ⟨rb,ro,none⟩) n1 qr,su,ou,gu,pu,ct] 110)).alloc (.cells #[.int .i64 op,.int .i64 (kd:Int),.int .i64 (ka:Int),.int .i64 (kb:Int),.int .i64 (kk:Int),.int .i64 nn,.int .u32 bt] 40)).heap.size=w.heap.size+1+1 by simp]at hrr;refine⟨bel hba k4,kc k4 (kc k3 (kc k2 ?_)),kc k4 (kc k3 (kc k2 ?_)),kc k4 (kc k3 (kc k2 ?_)),kc k4 (kc k3 (kc k2 ?_)),kc k4 (kc k3 (kc k2 ?_)),kc k4 (kc k3 ?_),kc k4 (kc k3 ?_),kc k4 (kc k3 ?_),kc k4 (kc k3 ?_),kc k4 (kc k3 ?_),kc k4 ?_,kc k4 ?_,hrr.alloc _,kf k4 (by simp[go_sem]:(((w.alloc (.cells #[v0,.slice (some ⟨lb,lo,none⟩) n1 q1,v2,v3,.slice (some ⟨rb,ro,none⟩) n1 qr,su,ou,gu,pu,ct] 110)).alloc (.cells #[.int .i64 op,.int .i64 (kd:Int),.int .i64 (ka:Int),.int .i64 (kb:Int),.int .i64 (kk:Int),.int .i64 nn,.int .u32 bt] 40)).alloc (.cells #[.slice none 0 0,.int .i64 0] 74)).cell? ⟨w.heap.size+1+1,0,none⟩=some (.slice none 0 0)) sG,kf k4 (by simp[go_sem]:(((w.alloc (.cells #[v0,.slice (some ⟨lb,lo,none⟩) n1 q1,v2,v3,.slice (some ⟨rb,ro,none⟩) n1 qr,su,ou,gu,pu,ct] 110)).alloc (.cells #[.int .i64 op,.int .i64 (kd:Int),.int .i64 (ka:Int),.int .i64 (kb:Int),.int .i64 (kk:Int),.int .i64 nn,.int .u32 bt] 40)).alloc (.cells #[.slice none 0 0,.int .i64 0] 74)).cell? ⟨w.heap.size+1+1,1,none⟩=some (.int .i64 0)) sG,?_,?_,kc (bel hba k4) y0,kc (bel hba k4) y1,kc (bel hba k4) y2⟩
  all_goals simp[go_sem]
 obtain⟨-,a0,a1,a2,a3,a4,i0,i1,i2,i3,i4,r0,r1,-,f0,f1,t0,t1,x0,x1,x2⟩:=HE.out;have d1:(0:Int)<=(kd:Int):=oM;have d2:(kd:Int)<(n1:Int):=oM;have d3:(ka:Int)<(n1:Int):=oM;have d4:(kb:Int)<(n1:Int):=oM;have d5:(kk:Int)<(n1:Int):=oM;have h2b:(tk==2)=false:=by simpa using h2
 have HKW:Hid (∀v,Below w.heap.size w v->Calls prog 40 #[.agg #[v0,.slice (some ⟨lb,lo,none⟩) n1 q1,v2,v3],.agg #[.int .i64 tk,.int .i64 tp]] v fun e w'=>e=.returned (.int .i64 (Wd:Int))/\Below v.heap.size v w'):=fun v hb=>KW v (by have h9:=hv.below hb;rw[hn1']at h9;exact h9);have HKA:Hid _:=KA;have HNA:Hid (C6 w xa.p xa.h.pats/\C6 w xb.p xb.h.pats/\C6 w xc.p xc.h.pats):=⟨na,nb,nc⟩
 have HLN:Hid (xa.h.pats.length=LA/\xb.h.pats.length=LB/\xc.h.pats.length=LC):=⟨hLA,hLB,hLC⟩
 have HTK:Hid (∀v,Calls prog 91 #[.int .i64 op] v fun e w'=>e=.returned (.int .i64 (m:Int))/\w'=v):=fun v=>by rw[<-hm];exact Km op v
 have hm3:m<=3:=by rw[<-hm];exact Ky op
 clear KW KA hreg hca hcb hcc hcs hv hg hP hL hT hX h2 ht hs hm hRR hxa hxb hxc hWd hWi na nb nc hLA hLB hLC hn1' y0 y1 y2 z0 z1;go_enter func62,ntmps62;go_wp2;refine rG (fun v=>v.cell? ⟨w.heap.size,4,none⟩=some (.slice (some ⟨rb,ro,none⟩) n1 qr)/\v.cell? ⟨w.heap.size+1,2,none⟩=some (.int .i64 (ka:Int))/\v.cell? ⟨w.heap.size+1,3,none⟩=some (.int .i64 (kb:Int))/\v.cell? ⟨w.heap.size+1,4,none⟩=some (.int .i64 (kk:Int))/\v.cell? ⟨rb,ro+ka*2,none⟩=some (.slice xa.p LA xa.q)/\v.cell? ⟨rb,ro+kb*2,none⟩=some (.slice xb.p LB xb.q)/\v.cell? ⟨rb,ro+kk*2,none⟩=some (.slice xc.p LC xc.q)) fun hJ=>?_;refine Tf 0 1 2 3 4 5 ?_;refine Tf 6 7 8 9 10 11 ?_;refine Tf 12 13 14 15 16 17 ?_;refine Tc 18 19 20 ?_;clear hJ;refine Aw 21 fun K hK=>?_;go_simp;refine Aq hK fun hJ=>?_;clear hK K;refine Bo 22 ?_;refine wpAnyH_done kR ?_ _;have HE2:Hid (P4 w v0 (.slice (some ⟨lb,lo,none⟩) n1 q1) v2 v3 (.slice (some ⟨rb,ro,none⟩) n1 qr) op (kd:Int) (ka:Int) (kb:Int) (kk:Int) tk tp rb (ro+ka*2) (ro+kb*2) (ro+kk*2) (.slice xa.p LA xa.q) (.slice xb.p LB xb.q) (.slice xc.p LC xc.q) ((((((w.alloc (.cells #[v0,.slice (some ⟨lb,lo,none⟩) n1 q1,v2,v3,.slice (some ⟨rb,ro,none⟩) n1 qr,su,ou,gu,pu,ct] 110)).alloc (.cells #[.int .i64 op,.int .i64 (kd:Int),.int .i64 (ka:Int),.int .i64 (kb:Int),.int .i64 (kk:Int),.int .i64 nn,.int .u32 bt] 40)).alloc (.cells #[.slice none 0 0,.int .i64 0] 74)).alloc (.cells #[.int .i64 tk,.int .i64 tp] 59)).alloc (.cells #[.slice xa.p LA xa.q,.slice xb.p LB xb.q,.slice xc.p LC xc.q] 72)).drew)):=(HE.next (A0 _ _)).next (A9 _);have HG:Hid (((((((w.alloc (.cells #[v0,.slice (some ⟨lb,lo,none⟩) n1 q1,v2,v3,.slice (some ⟨rb,ro,none⟩) n1 qr,su,ou,gu,pu,ct] 110)).alloc (.cells #[.int .i64 op,.int .i64 (kd:Int),.int .i64 (ka:Int),.int .i64 (kb:Int),.int .i64 (kk:Int),.int .i64 nn,.int .u32 bt] 40)).alloc (.cells #[.slice none 0 0,.int .i64 0] 74)).alloc (.cells #[.int .i64 tk,.int .i64 tp] 59)).alloc (.cells #[.slice xa.p LA xa.q,.slice xb.p LB xb.q,.slice xc.p LC xc.q] 72)).drew).cell? ⟨w.heap.size+1+1+1+1,0,none⟩=some (.slice xa.p LA xa.q)/\((((((w.alloc (.cells #[v0,.slice (some ⟨lb,lo,none⟩) n1 q1,v2,v3,.slice (some ⟨rb,ro,none⟩) n1 qr,su,ou,gu,pu,ct] 110)).alloc (.cells #[.int .i64 op,.int .i64 (kd:Int),.int .i64 (ka:Int),.int .i64 (kb:Int),.int .i64 (kk:Int),.int .i64 nn,.int .u32 bt] 40)).alloc (.cells #[.slice none 0 0,.int .i64 0] 74)).alloc (.cells #[.int .i64 tk,.int .i64 tp] 59)).alloc (.cells #[.slice xa.p LA xa.q,.slice xb.p LB xb.q,.slice xc.p LC xc.q] 72)).drew).cell? ⟨w.heap.size+1+1+1+1,1,none⟩=some (.slice xb.p LB xb.q)/\((((((w.alloc (.cells #[v0,.slice (some ⟨lb,lo,none⟩) n1 q1,v2,v3,.slice (some ⟨rb,ro,none⟩) n1 qr,su,ou,gu,pu,ct] 110)).alloc (.cells #[.int .i64 op,.int .i64 (kd:Int),.int .i64 (ka:Int),.int .i64 (kb:Int),.int .i64 (kk:Int),.int .i64 nn,.int .u32 bt] 40)).alloc (.cells #[.slice none 0 0,.int .i64 0] 74)).alloc (.cells #[.int .i64 tk,.int .i64 tp] 59)).alloc (.cells #[.slice xa.p LA xa.q,.slice xb.p LB xb.q,.slice xc.p LC xc.q] 72)).drew).cell? ⟨w.heap.size+1+1+1+1,2,none⟩=some (.slice xc.p LC xc.q)):=⟨sG,sG,sG⟩
 obtain⟨W2,hW2⟩:∃W,(((((w.alloc (.cells #[v0,.slice (some ⟨lb,lo,none⟩) n1 q1,v2,v3,.slice (some ⟨rb,ro,none⟩) n1 qr,su,ou,gu,pu,ct] 110)).alloc (.cells #[.int .i64 op,.int .i64 (kd:Int),.int .i64 (ka:Int),.int .i64 (kb:Int),.int .i64 (kk:Int),.int .i64 nn,.int .u32 bt] 40)).alloc (.cells #[.slice none 0 0,.int .i64 0] 74)).alloc (.cells #[.int .i64 tk,.int .i64 tp] 59)).alloc (.cells #[.slice xa.p LA xa.q,.slice xb.p LB xb.q,.slice xc.p LC xc.q] 72)).drew=W:=⟨_,rfl⟩
 rw[hW2]at HE2 HG;rw[hW2];clear a0 a1 a2 a3 a4 i0 i1 i2 i3 i4 r0 r1 f0 f1 t0 t1 x0 x1 x2;clear hW2 HE b1 b2 b3 b4 hba;obtain⟨-,a0,a1,a2,a3,a4,i0,i1,i2,i3,i4,r0,r1,-,f0,f1,t0,t1,x0,x1,x2⟩:=HE2.out;have HGD:Hid (W2.drew.cell? ⟨w.heap.size+1+1+1+1,0,none⟩=some (.slice xa.p LA xa.q)/\W2.drew.cell? ⟨w.heap.size+1+1+1+1,1,none⟩=some (.slice xb.p LB xb.q)/\W2.drew.cell? ⟨w.heap.size+1+1+1+1,2,none⟩=some (.slice xc.p LC xc.q)):=HG.out;have s1:=fun w9=>F3 und_LL size_LL (some ⟨w.heap.size+1+1+1+1,0,none⟩) 3 3 m oM w9;go_wp2;refine rG (fun v=>v.cell? ⟨w.heap.size+1,0,none⟩=some (.int .i64 op)) fun hJ=>?_;refine Tc 0 1 2 ?_;refine Tb 3 4 ?_;clear hJ;refine Aw 5 fun K hK=>?_;go_simp;(go_at_call 91;(with_reducible refine(HTK.out _).mono ?_);rintro e w3 ⟨rfl,rfl⟩);try(go_wp2_with fail)
 refine Aq hK fun hJ=>?_;clear hK K;refine Bo 6 ?_;clear hJ;refine Aw 7 fun K hK=>?_;go_simp;(go_at_call 90;(with_reducible refine(HKA.out (w.heap.size+1+1+1+1) W2.drew HGD.out.1 HGD.out.2.1 HGD.out.2.2 (HNA.out.1.below (bel HE2.out.bel (A9 _))) (HNA.out.2.1.below (bel HE2.out.bel (A9 _))) (HNA.out.2.2.below (bel HE2.out.bel (A9 _)))).mono ?_);rintro e w4 ⟨ql,cl,rfl,hnl,hln,hRP,hb4,hlo4⟩;have HLO4:Hid (∀b o s,ql=some ⟨b,o,s⟩->W2.drew.heap.size<=b):=hlo4;have HNL:Hid (C6 w4 ql RR):=hnl;have HLR:Hid (RR.length=n):=hln;have HRP:Hid (∀y∈RR,AH y):=hRP;have HE4:Hid (P4 w v0 (.slice (some ⟨lb,lo,none⟩) n1 q1) v2 v3 (.slice (some ⟨rb,ro,none⟩) n1 qr) op (kd:Int) (ka:Int) (kb:Int) (kk:Int) tk tp rb (ro+ka*2) (ro+kb*2) (ro+kk*2) (.slice xa.p LA xa.q) (.slice xb.p LB xb.q) (.slice xc.p LC xc.q) w4):=HE2.out.next (bel (A9 _) hb4);clear hnl hln hRP hb4 hlo4 a0 a1 a2 a3 a4 i0 i1 i2 i3 i4 r0 r1 f0 f1 t0 t1 x0 x1 x2;obtain⟨-,a0,a1,a2,a3,a4,i0,i1,i2,i3,i4,r0,r1,-,f0,f1,t0,t1,x0,x1,x2⟩:=HE4.out);try(go_wp2_with fail)
 refine Aq hK fun hJ=>?_;clear hK K;refine Tc 8 9 10 ?_;refine Tb 11 12 ?_;refine wpAnyH_done kR ?_ _;by_cases h1:n=1
 .have h1b:((n:Int)==1)=true:=by simp[h1]
  have hrl:RR.length=1:=by rw[HLR.out];exact h1
  have he:UF Wd RR=List.replicate Wd (An (CH RR 0)):=by
   unfold UF;rw[if_pos hrl];cases hR9:RR with
   |nil=>rw[hR9]at hrl;simp at hrl
   |cons a r=>rfl
  have HEL:Hid (UF Wd RR=List.replicate Wd (An (CH RR 0))):=he;have hx9:∃bq oq,ql=some ⟨bq,oq,none⟩/\w4.cell? ⟨bq,oq,none⟩=some (.int .i64 (CH RR 0)):=by
   rcases HNL.out with e|⟨bq,oq,e,hc9⟩
   .omega
   .exact⟨bq,oq,e,hc9 0 oM⟩
  obtain⟨bq,oq,rfl,hl0⟩:=hx9;have hPz:AH (CH RR 0):=CS HRP.out 0;have KF:=Iv Wd (CH RR 0) hPz oM;obtain⟨z9,hz9⟩:∃z,CH RR 0=z:=⟨_,rfl⟩
  rw[hz9]at hl0 KF;have HZ9:Hid (CH RR 0=z9):=hz9;have HKF:Hid (∀v,Calls prog 39 #[.int .i64 (Wd:Int),.int .i64 z9] v fun e w'=>∃q cap,e=.returned (.tuple #[.slice q Wd cap,.int .i64 0])/\Bb w' q Wd (fun i=>.int .i64 (An z9))/\Below v.heap.size v w'/\∀b o s,q=some ⟨b,o,s⟩->v.heap.size<=b):=KF;have hn0:(0:Int)<(n:Int):=oM;clear he hrl KF hz9 hPz;go_wp2;refine rG (fun v=>v.cell? ⟨w.heap.size,0,none⟩=some v0/\v.cell? ⟨w.heap.size,1,none⟩=some (.slice (some ⟨lb,lo,none⟩) n1 q1)/\v.cell? ⟨w.heap.size,2,none⟩=some v2/\v.cell? ⟨w.heap.size,3,none⟩=some v3/\v.cell? ⟨w.heap.size+1+1+1,0,none⟩=some (.int .i64 tk)/\v.cell? ⟨w.heap.size+1+1+1,1,none⟩=some (.int .i64 tp)/\v.cell? ⟨bq,oq,none⟩=some (.int .i64 z9)) fun hJ=>?_;refine Tf 0 1 2 4 5 6 ?_;clear hJ;refine Aw 3 fun K hK=>?_;go_simp;(go_at_call 40;(with_reducible refine(HKW.out _ (bel HE4.out.bel (A9 _))).mono ?_);rintro e w5 ⟨rfl,hb5⟩;have HB5:Hid (Below w4.heap.size w4 w5):=bel (A9 _) hb5;clear hb5 a0 a1 a2 a3 a4 i0 i1 i2 i3 i4 r0 r1 f0 f1 t0 t1 x0 x1 x2;obtain⟨-,a0,a1,a2,a3,a4,i0,i1,i2,i3,i4,r0,r1,-,f0,f1,t0,t1,x0,x1,x2⟩:=HE4.out.next HB5.out;have hl5:=kc HB5.out hl0);try(go_wp2_with fail)
  refine Aq hK fun hJ=>?_;clear hK K;clear hJ;refine Aw 7 fun K hK=>?_;go_simp;(go_at_call 39;(with_reducible refine(HKF.out _).mono ?_);rintro e w6 ⟨pf,qf,rfl,hrf,hb6,hfr⟩;have HE6:Hid (P4 w v0 (.slice (some ⟨lb,lo,none⟩) n1 q1) v2 v3 (.slice (some ⟨rb,ro,none⟩) n1 qr) op (kd:Int) (ka:Int) (kb:Int) (kk:Int) tk tp rb (ro+ka*2) (ro+kb*2) (ro+kk*2) (.slice xa.p LA xa.q) (.slice xb.p LB xb.q) (.slice xc.p LC xc.q) w6):=(HE4.out.next HB5.out).next hb6;have HRF:Hid (Bb w6 pf Wd (fun i=>.int .i64 (An z9))):=hrf;have HFR:Hid (∀b o s,pf=some ⟨b,o,s⟩->w5.heap.size<=b):=hfr;have HS5:Hid (w.heap.size+1+1<w5.heap.size):=A8 r0;have hl6:=kc hb6 hl5;clear hb6 hrf hfr a0 a1 a2 a3 a4 i0 i1 i2 i3 i4 r0 r1 f0 f1 t0 t1 x0 x1 x2;obtain⟨-,a0,a1,a2,a3,a4,i0,i1,i2,i3,i4,r0,r1,-,f0,f1,t0,t1,x0,x1,x2⟩:=HE6.out);try(go_wp2_with fail)
  refine Aq hK fun hJ=>?_;clear hK K;refine Tc 8 9 10 ?_;refine Bo 11 ?_;refine wpAnyH_done kR ?_ _;go_wp2;refine bodyPost_ret Zhb rfl ?_;have hbF:Below w.heap.size w ((w6.setCell ⟨w.heap.size+1+1,0,none⟩ (.slice pf Wd qf)).setCell ⟨w.heap.size+1+1,1,none⟩ (.int .i64 0)):=(HE6.bel.setCell Zgl _).setCell Zgl _;rw[HEL.out,HZ9.out];refine⟨pf,qf,by rw[List.length_replicate],?_,hbF,fun b o s e=>by have h3:=HFR.out b o s e;have h4:=HS5.out;omega⟩;show Bb _ _ _ _;rw[List.length_replicate];rcases HRF.out with h9|⟨b,o,rfl,h8⟩
  .exact .inl h9
  .refine .inr ⟨b,o,rfl,fun j hj=>?_⟩;have hne:b≠w.heap.size+1+1:=by have h3:=HFR.out b o none rfl;have h4:=HS5.out;omega
   rw[gC (gE hne),gC (gE hne),h8 j hj];simp only;rw[Ji _ _ hj]
 .have h1b:((n:Int)==1)=false:=by have:(n:Int)≠1:=oM;simpa using this
  have HEL:Hid (UF Wd RR=RR):=by show _=_;unfold UF;rw[if_neg (by rw[HLR.out];exact h1)]
  have HH1:Hid (n≠1):=h1;clear h1;go_wp2;refine bodyPost_ret Zhb rfl ?_;have hbF:Below w.heap.size w ((w4.setCell ⟨w.heap.size+1+1,0,none⟩ (.slice ql n cl)).setCell ⟨w.heap.size+1+1,1,none⟩ (.int .i64 0)):=(HE4.bel.setCell Zgl _).setCell Zgl _;rw[HEL.out,HLR.out];refine⟨ql,cl,rfl,?_,hbF,fun b o s e=>by have h3:=HLO4.out b o s e;have h4:=HE2.bel.size;have h5:W2.drew.heap.size=W2.heap.size:=rfl;omega⟩;have h2l:2<=RR.length:=by rw[HLR.out];have:=HH1.out;omega
  have hne9:=num_ne HE4.rr HNL.out h2l;rcases HNL.out with h9|⟨b,o,rfl,h8⟩
  .exact .inl h9
  .refine .inr ⟨b,o,rfl,fun j hj=>?_⟩;have hne:b≠w.heap.size+1+1:=hne9 b o rfl;rw[gC (gE hne),gC (gE hne),h8 j hj]
def CF(l:List Ad)(b k:Nat):Prop:=∃hk:k<l.length,(l[k].op=35\/l[k].op=37)/\(AE (l.take k)).head?=some b
def OY(l:List Ad)(k:Nat):List Nat:=if(l[k]?.map fun i=>decide (i.op=35\/i.op=37))=some true then(AE (l.take k)).tail else AE (l.take k)
theorem F8{l:List Ad}{k:Nat}(hk:k<l.length):OY l k=if l[k].op=35\/l[k].op=37 then(AE (l.take k)).tail else AE (l.take k):=by
 unfold OY;rw[gB hk];simp
theorem IF{l:List Ad}{j:Nat}(hj:j<l.length):AE (l.take (j+1))=if l[j].op=34\/l[j].op=36 then j::AE (l.take j)else if l[j].op=35\/l[j].op=37 then(AE (l.take j)).tail else AE (l.take j):=by
 rw[List.take_succ_eq_append_getElem hj,IE,show(l.take j).length=j by rw[List.length_take];omega]
theorem Ge{l:List Ad}:∀k,k<=l.length->∀b S,AE (l.take k)=b::S->b<k/\AE (l.take b)=S:=by
 intro k;induction k using Nat.strongRecOn with
 |ind k ih=>
  intro hk b S hs;cases k with
  |zero=>cases hs
  |succ k=>
   have hkl:k<l.length:=oM;rw[IF hkl]at hs;by_cases h1:l[k].op=34\/l[k].op=36
   .rw[if_pos h1]at hs;simp only[List.cons.injEq]at hs;obtain⟨rfl,rfl⟩:=hs;exact⟨oM,rfl⟩
   .rw[if_neg h1]at hs;by_cases h2:l[k].op=35\/l[k].op=37
    .rw[if_pos h2]at hs;cases hq:AE (l.take k)with
     |nil=>rw[hq]at hs;cases hs
     |cons b0 S0=>
      rw[hq]at hs;simp only[List.tail_cons]at hs;subst hs;obtain⟨g1,g2⟩:=ih k oM oM b0 _ hq;obtain⟨g3,g4⟩:=ih b0 oM oM b S g2;exact⟨oM,g4⟩
    .rw[if_neg h2]at hs;obtain⟨g1,g2⟩:=ih k oM oM b S hs;exact⟨oM,g2⟩
theorem XT{l:List Ad}{k:Nat}(hk:k<=l.length){b:Nat}(hb:b∈AE (l.take k)):b<k:=by
 obtain⟨-,h,-⟩:=DX l k hk b hb;exact h
theorem XV{l:List Ad}{k:Nat}(hk:k<=l.length){b:Nat}{S:List Nat}(hs:AE (l.take k)=b::S):b∉S:=fun hm=>by
 obtain⟨g1,g2⟩:=Ge k hk b S hs;have:=XT (l:=l) (k:=b) oM (by rw[g2];exact hm);omega
theorem Ij{l:List Ad}{b k1 k2:Nat}(h1:CF l b k1)(h2:CF l b k2):k1=k2:=by
 have Bl:∀ {k1 k2:Nat},CF l b k1->CF l b k2->¬k1<k2:=fun{k1 k2} h1 h2 hlt=>by
  obtain⟨hk1,f1,e1⟩:=h1;obtain⟨hk2,f2,e2⟩:=h2;have hb1:b<k1:=XT (Nat.le_of_lt hk1) (List.mem_of_mem_head? e1);have gone:∀m,k1+1<=m->m<=l.length->b∉AE (l.take m):=by
   intro m;induction m with
   |zero=>intro h;omega
   |succ m ih=>
    intro hm hml;have hmm:m<l.length:=oM;rw[IF hmm];by_cases e:m=k1
    .subst e;rw[if_neg oM,if_pos f1];cases hs:AE (l.take m)with
     |nil=>simp
     |cons b0 S=>
      rw[hs]at e1;simp only[List.head?_cons,Option.some.injEq]at e1;subst e1;exact XV (Nat.le_of_lt hmm) hs
    .have h:=ih oM oM;split
     .intro q;rcases List.mem_cons.1 q with w|w
      .omega
      .exact h w
     .split
      .exact fun q=>h (List.mem_of_mem_tail q)
      .exact h
  exact gone k2 oM oM (List.mem_of_mem_head? e2)
 have a:=Bl h1 h2;have b':=Bl h2 h1;omega
structure Sr where
 nd:Nat->Bool
 todo:List Nat
 sr:Nat->Bool
 ss:Nat->Bool
def need1(q:Sr)(p:Nat):Sr:=if q.nd p=true then q else{q with nd:=fun x=>if x=p then true else q.nd x,todo:=q.todo++[p]}
def needL(q:Sr)(ps:List Nat):Sr:=ps.foldl need1 q
def Lk(l:List Ad)(q:Sr)(p:Nat):Prop:=∀hp:p<l.length,(∀r∈Ae l[p] (A4 l[p].op),q.sr r.toNat=true)/\(l[p].op=32->q.ss l[p].n.toNat=true)/\∀b,(OY l p).head?=some b->q.nd b=true
structure SI(l:List Ad)(q:Sr)(X:List Nat):Prop where
 snd:∀p,q.nd p=true->p<l.length/\Nd l p
 tod:∀p∈q.todo,q.nd p=true
 don:∀p,q.nd p=true->p∉q.todo->p∉X->Lk l q p
 sr:∀r,q.sr r=true->∀j (hj:j<l.length),Af l[j]=true->l[j].d.toNat=r->q.nd j=true
 ss:∀n,q.ss n=true->∀j (hj:j<l.length),l[j].op=33->l[j].n.toNat=n->q.nd j=true
section
variable {l : List Ad} {q : Sr} {X : List Nat}
theorem Ee(q:Sr)(p x:Nat):(need1 q p).nd x=true↔q.nd x=true\/x=p:=by
 unfold need1;split
 .rename_i h;exact⟨.inl,fun w=>w.elim id (fun e=>e▸h)⟩
 .simp only;by_cases e:x=p
  .simp[e]
  .simp[e]
theorem IY(q:Sr)(p:Nat):(need1 q p).sr=q.sr/\(need1 q p).ss=q.ss:=by unfold need1;split<;>exact⟨rfl,rfl⟩
theorem Lk.mono{q q':Sr}{p:Nat}(h:Lk l q p)(h1:∀x,q.nd x=true->q'.nd x=true)(h2:∀x,q.sr x=true->q'.sr x=true)(h3:∀x,q.ss x=true->q'.ss x=true):Lk l q' p:=fun hp=>
 ⟨fun r hr=>h2 _ ((h hp).1 r hr),fun o=>h3 _ ((h hp).2.1 o),fun b hb=>h1 _ ((h hp).2.2 b hb)⟩
theorem SI.need1(h:SI l q X){p:Nat}(hp:p<l.length)(hn:Nd l p):SI l (need1 q p) X:=by
 obtain⟨k1,k2⟩:=IY q p;have up:∀x,q.nd x=true->(Go.Proofs.YtnbccaicijcklaaGreat.need1 q p).nd x=true:=fun x hx=>(Ee q p x).2 (.inl hx);refine⟨fun x hx=>?_,fun x hx=>?_,fun x hx ht hX=>?_,fun r hr j hj hs e=>up _ (h.sr r (by rw[k1]at hr;exact hr) j hj hs e),fun n hr j hj hs e=>up _ (h.ss n (by rw[k2]at hr;exact hr) j hj hs e)⟩
 .rcases(Ee q p x).1 hx with w|w
  .exact h.snd x w
  .rw[w];exact⟨hp,hn⟩
 .unfold Go.Proofs.YtnbccaicijcklaaGreat.need1 at hx;split at hx
  .exact up x (h.tod x hx)
  .simp only at hx;rcases List.mem_append.1 hx with w|w
   .exact up x (h.tod x w)
   .simp only[List.mem_singleton]at w;exact(Ee q p x).2 (.inr w)
 .have hx0:q.nd x=true/\x∉q.todo:=by
   unfold Go.Proofs.YtnbccaicijcklaaGreat.need1 at ht;split at ht
   .rename_i w;rcases(Ee q p x).1 hx with e|e
    .exact⟨e,ht⟩
    .exact⟨e▸w,ht⟩
   .simp only[List.mem_append,List.mem_singleton,not_or]at ht;rcases(Ee q p x).1 hx with e|e
    .exact⟨e,ht.1⟩
    .exact absurd e ht.2
  exact(h.don x hx0.1 hx0.2 hX).mono up (fun r hr=>by rw[k1];exact hr) (fun r hr=>by rw[k2];exact hr)
theorem Hh:∀ (ps:List Nat) {q:Sr},SI l q X->(∀p∈ps,p<l.length/\Nd l p)->SI l (needL q ps) X
 |[],q,h,_=>h
 |p::ps,q,h,hp=>Hh ps (h.need1 (hp p sM).1 (hp p sM).2) (fun x hx=>hp x (by simp[hx]))
theorem D9:∀ (ps:List Nat) (q:Sr) (x:Nat),(needL q ps).nd x=true↔q.nd x=true\/x∈ps
 |[],q,x=>by simp[needL]
 |p::ps,q,x=>by
  show(needL (need1 q p) ps).nd x=true↔_;rw[D9 ps,Ee];simp only[List.mem_cons];constructor
  .rintro((h|h)|h)
   .exact .inl h
   .exact .inr (.inl h)
   .exact .inr (.inr h)
  .rintro(h|h|h)
   .exact .inl (.inl h)
   .exact .inl (.inr h)
   .exact .inr h
theorem D3:∀ (ps:List Nat) (q:Sr),(needL q ps).sr=q.sr/\(needL q ps).ss=q.ss
 |[],q=>⟨rfl,rfl⟩
 |p::ps,q=>by
  obtain⟨h1,h2⟩:=D3 ps (need1 q p);obtain⟨h3,h4⟩:=IY q p;exact⟨h1.trans h3,h2.trans h4⟩
def Em(l:List Ad)(q:Sr):Prop:=∀b k,CF l b k->q.nd b=q.nd k
theorem DF{b k:Nat}(h:CF l b k):∃hb:b<l.length,∃hk:k<l.length,(l[b].op=34\/l[b].op=36)/\(l[k].op=35\/l[k].op=37):=by
 obtain⟨hk,f,e⟩:=h;obtain⟨hb,-,o⟩:=DX l k (Nat.le_of_lt hk) b (List.mem_of_mem_head? e);exact⟨hb,hk,o,f⟩
theorem Em.other(h:Em l q){ps:List Nat}(hp:∀p∈ps,∃hp:p<l.length,l[p].op<34):Em l (needL q ps):=fun b k hm=>by
 obtain⟨hb,hk,o1,o2⟩:=DF hm;have e1:b∉ps:=fun w=>by obtain⟨_,o⟩:=hp b w;omega
 have e2:k∉ps:=fun w=>by obtain⟨_,o⟩:=hp k w;omega
 have e3:=h b k hm;rw[Bool.eq_iff_iff,D9,D9];simp only[e1,e2,or_false];rw[e3]
theorem Em.both(h:Em l q){b e:Nat}(hm:CF l b e):Em l (needL q [b,e]):=fun b' k' hm'=>by
 have e3:=h b' k' hm';rw[Bool.eq_iff_iff,D9,D9,e3];simp only[List.mem_cons,List.not_mem_nil,or_false];obtain⟨hb,hk,o1,o2⟩:=DF hm;obtain⟨hb',hk',o1',o2'⟩:=DF hm';have n1:b'≠e:=fun w=>by subst w;omega
 have n2:k'≠b:=fun w=>by subst w;omega
 have i1:b'=b↔k'=e:=by
  constructor
  .intro w;subst w;exact Ij hm' hm
  .intro w;subst w;obtain⟨_,_,x1⟩:=hm;obtain⟨_,_,x2⟩:=hm';rw[x1]at x2;simpa using x2.symm
 constructor
 .rintro(w|w|w)
  .exact .inl w
  .exact .inr (.inr (i1.1 w))
  .exact absurd w n1
 .rintro(w|w|w)
  .exact .inl w
  .exact absurd w n2
  .exact .inr (.inl (i1.2 w))
theorem QB(h:SI l q [])(ht:q.todo=[])(hpar:Em l q)(ho:∀k (hk:k<l.length),l[k].op=31->q.nd k=true){p:Nat}(n:Nd l p):q.nd p=true:=by
 have dn:∀p,q.nd p=true->Lk l q p:=fun p hp=>h.don p hp (by rw[ht];simp) sM;have anc:∀ (N k:Nat),k<l.length->(OY l k).length<=N->q.nd k=true->∀b∈OY l k,q.nd b=true:=by
  intro N;induction N with
  |zero=>
   intro k hk hl _ b hb;have:OY l k=[]:=List.eq_nil_of_length_eq_zero oM;rw[this]at hb;cases hb
  |succ N ih=>
   intro k hk hl hn b hb;cases hs:OY l k with
   |nil=>rw[hs]at hb;cases hb
   |cons b0 S=>
    have h0:=(dn k hn hk).2.2 b0 (by rw[hs];rfl);rw[hs]at hb;rcases List.mem_cons.1 hb with e|e
    .rw[e];exact h0
    .have hmem:b0∈AE (l.take k)/\AE (l.take b0)=S:=by
      rw[F8 hk]at hs;split at hs
      .cases hq:AE (l.take k)with
       |nil=>rw[hq]at hs;cases hs
       |cons x Y=>
        rw[hq]at hs;simp only[List.tail_cons]at hs;subst hs;obtain⟨g1,g2⟩:=Ge k (Nat.le_of_lt hk) x _ hq;exact⟨sM,(Ge x oM b0 S g2).2⟩
      .exact⟨by rw[hs];simp,(Ge k (Nat.le_of_lt hk) b0 S hs).2⟩
     obtain⟨hb0,-,o0⟩:=DX l k (Nat.le_of_lt hk) b0 hmem.1;have e0:OY l b0=S:=by rw[F8 hb0,if_neg oM];exact hmem.2
     exact ih b0 hb0 (by rw[e0];rw[hs]at hl;simpa using hl) h0 b (by rw[e0];exact e)
 induction n with
 |out hk o=>exact ho _ hk o
 |set hk hj n r hr hs e ih=>exact h.sr _ ((dn _ ih hk).1 r hr) _ hj hs e
 |store hk hj n o1 o2 e ih=>exact h.ss _ ((dn _ ih hk).2.1 o1) _ hj o2 (by rw[e])
 |@beg k b hk n hb ih=>exact anc _ k hk (gF _) ih b (by rw[F8 hk];exact hb)
 |@fin k b hk n hf hb ih=>rw[<-hpar b k ⟨hk,hf,hb⟩];exact ih
 |@begE k b hk n hf hb ih=>rw[hpar b k ⟨hk,hf,hb⟩];exact ih
theorem Ua(h:SI l q [])(ht:q.todo=[])(hpar:Em l q)(ho:∀k (hk:k<l.length),l[k].op=31->q.nd k=true)(p:Nat):q.nd p=ndK l p:=by
 rw[Bool.eq_iff_iff,BH];exact⟨fun w=>(h.snd p w).2,fun n=>QB h ht hpar ho n⟩
end
theorem Xf:∀n:Nat,n<38->1<=n->(A4 (n:Int)).d=0->(A4 (n:Int)).a=0->35<=n:=dE
theorem row_bc:∀n:Nat,n<38->((A4 (n:Int)).a=0->(A4 (n:Int)).b=0/\(A4 (n:Int)).c=0)/\((A4 (n:Int)).n=10->n=32\/n=33):=dE
theorem EY{op:Int}(h:Al op=true):∃n:Nat,op=(n:Int)/\1<=n/\n<38:=by
 unfold Al at h;simp only[Bool.and_eq_true,decide_eq_true_eq]at h;exact⟨op.toNat,oM,oM,oM⟩
section
variable {c : Cd}
theorem TG(h:AR c ⟨[],[]⟩ c.list=true){k:Nat}(hk:k<c.list.length){r:Int}(hr:r∈Ae c.list[k] (A4 c.list[k].op)):∃j,∃hj:j<c.list.length,Af c.list[j]=true/\c.list[j].d.toNat=r.toNat:=by
 obtain⟨-,-,-,t4⟩:=Ao (Ck h hk);unfold EQ at t4;rw[List.all_eq_true]at t4;have h4:r.toNat∈(CZ ⟨[],[]⟩ (c.list.take k)).set:=by simpa using t4 r hr
 rcases Sj _ _ _ h4 with e|⟨i,hi,h1,h2⟩
 .cases e
 .obtain⟨j,hj,rfl⟩:=List.mem_iff_getElem.1 (List.mem_of_mem_take hi);exact⟨j,hj,h1,h2⟩
theorem Gx(h:AR c ⟨[],[]⟩ c.list=true){k:Nat}(hk:k<c.list.length)(n:Nd c.list k){r:Int}(hr:r∈Ae c.list[k] (A4 c.list[k].op)):usR c.list r.toNat=true:=by
 obtain⟨j,hj,h1,h2⟩:=TG h hk hr;exact CC.2 ⟨j,hj,.set hk hj n r hr h1 h2,h1,h2⟩
theorem used_lt(h:AR c ⟨[],[]⟩ c.list=true){r:Nat}(hr:usR c.list r=true):r<c.regs.length:=by
 obtain⟨k,hk,-,hs,e⟩:=CC.1 hr;have:=GV (Ck h hk) hs;omega
theorem N7(h:AR c ⟨[],[]⟩ c.list=true){r:Nat}(hr:usR c.list r=true):AA (usR c.list) r<(AU (usR c.list) c.regs).length/\Aa (AU (usR c.list) c.regs) ((AA (usR c.list) r:Nat):Int)=Aa c.regs (r:Int):=by
 have hl:=used_lt h hr;have hp:=MY (l:=c.regs) hl hr;rw[gB hl]at hp;obtain⟨h1,h2⟩:=List.getElem?_eq_some_iff.1 hp;refine⟨h1,?_⟩;unfold Aa;rw[if_pos (BU.2 ⟨oM,oM⟩),if_pos (BU.2 ⟨oM,oM⟩),Int.toNat_natCast,Int.toNat_natCast,hp,gB hl]
theorem Hs{n:Nat}(hn:n<c.slots.length)(hw:usS c.list n=true):AA (usS c.list) n<(AU (usS c.list) c.slots).length/\(AU (usS c.list) c.slots)[AA (usS c.list) n]? =c.slots[n]? :=by
 have hp:=MY (l:=c.slots) hn hw;refine⟨?_,hp⟩;rw[gB hn]at hp;exact(List.getElem?_eq_some_iff.1 hp).1
theorem Ol(h:AR c ⟨[],[]⟩ c.list=true){k:Nat}(hk:k<c.list.length)(n:Nd c.list k)(ho:c.list[k].op<35):AC (pruneC c).regs (CY (AA (usR c.list)) (AA (usS c.list)) c.list[k]) (A4 c.list[k].op)=AC c.regs c.list[k] (A4 c.list[k].op):=by
 have t:=Ck h hk;obtain⟨t1,t2,-,-⟩:=Ao t;unfold AC ED CY pruneC;simp only;by_cases hd:(A4 c.list[k].op).d=0
 .rw[if_pos hd,if_pos hd];by_cases ha:(A4 c.list[k].op).a=0
  .exfalso;obtain⟨m,e,m1,m2⟩:=EY t1;rw[e]at hd ha ho;have:=Xf m m2 m1 hd ha;omega
  .rw[if_neg ha];have h0:=(Ag (BF t2) ha).1;rw[(N7 h (Gx h hk n (r:=c.list[k].a) (by unfold Ae;rw[if_neg ha];simp))).2,Int.toNat_of_nonneg h0]
 .rw[if_neg hd,if_neg hd,if_neg hd];have hs:Af c.list[k]=true:=by unfold Af;simpa using hd
  have h0:=(GV t hs).1;rw[(N7 h (CC.2 ⟨k,hk,n,hs,rfl⟩)).2,Int.toNat_of_nonneg h0]
theorem Wx(h:AR c ⟨[],[]⟩ c.list=true){k:Nat}(hk:k<c.list.length)(n:Nd c.list k)(hf:AS c c.list[k] (A4 c.list[k].op)=true):AS (pruneC c) (CY (AA (usR c.list)) (AA (usS c.list)) c.list[k]) (A4 c.list[k].op)=true:=by
 have t:=Ck h hk;obtain⟨t1,-,-,-⟩:=Ao t;obtain⟨m,em,m1,m2⟩:=EY t1;have reg:∀ (l x:Int) (M M':Ty),Ah c.regs l x M=true->(l≠0->usR c.list x.toNat=true)->(c.list[k].op<35->M'=M)->(35<=c.list[k].op->l=0)->Ah (AU (usR c.list) c.regs) l (if l=0 then x else((AA (usR c.list) x.toNat:Nat):Int)) M'=true:=fun l x M M' hx hu hM h0=>by
  by_cases hl:l=0
  .rw[if_pos hl];unfold Ah at hx |-;rw[if_pos hl]at hx |-;exact hx
  .rw[if_neg hl];have ho:c.list[k].op<35:=by
    by_cases q:c.list[k].op<35
    .exact q
    .exact absurd (h0 oM) hl
   obtain⟨x0,x1⟩:=Ag hx hl;obtain⟨r1,r2⟩:=N7 h (hu hl);unfold Ah at hx |-;rw[if_neg hl]at hx |-;simp only[Bool.and_eq_true]at hx |-;rw[r2,Int.toNat_of_nonneg x0,hM ho];exact⟨BU.2 ⟨oM,oM⟩,hx.2⟩
 have hmain:=Ol h hk n;have h35:35<=c.list[k].op->(A4 c.list[k].op).d=0/\(A4 c.list[k].op).a=0/\(A4 c.list[k].op).b=0/\(A4 c.list[k].op).c=0/\(A4 c.list[k].op).n≠9/\(A4 c.list[k].op).n≠10:=fun q=>by
  rcases(show c.list[k].op=35\/c.list[k].op=36\/c.list[k].op=37 by omega)with e|e|e<;>(rw[e];decide)
 have hrd:∀x,x∈Ae c.list[k] (A4 c.list[k].op)->usR c.list x.toNat=true:=fun x hx=>Gx h hk n hx;have hfa:=BF hf;have hfb:=CQ hf;have hfc:=CR hf;have hfd:=Cx hf;unfold AS at hf |-;simp only[Bool.and_eq_true]at hf |-;refine⟨reg _ _ _ _ hfd (fun q=>CC.2 ⟨k,hk,n,by unfold Af;simpa using q,rfl⟩) (fun o=>hmain o) (fun q=>(h35 q).1),reg _ _ _ _ hfa (fun q=>hrd _ Zgn) (fun o=>hmain o) (fun q=>(h35 q).2.1),reg _ _ _ _ hfb (fun q=>hrd _ Zgn) (fun o=>hmain o) (fun q=>(h35 q).2.2.1),reg _ _ _ _ hfc (fun q=>hrd _ Zgn) (fun o=>hmain o) (fun q=>(h35 q).2.2.2.1),?_⟩;have hr:=hf.2.2.2.2;unfold Bh at hr |-;have hn10:(A4 c.list[k].op).n=10->c.list[k].op=32\/c.list[k].op=33:=fun q=>by
  rw[em]at q |-;have:=(row_bc m m2).2 q;omega
 have hnn:(A4 c.list[k].op).n≠10->(CY (AA (usR c.list)) (AA (usS c.list)) c.list[k]).n=c.list[k].n:=fun q=>by
  unfold CY;simp only;rw[if_neg (fun w=>q (by rcases w with w|w<;>(rw[w];decide)))]
 by_cases h7:(A4 c.list[k].op).n=7
 .rw[if_pos h7]at hr |-;rw[hnn oM];exact hr
 .rw[if_neg h7]at hr |-;simp only[Bool.and_eq_true]at hr |-;refine⟨hr.1,?_⟩;have h2:=hr.2;unfold EW at h2 |-;by_cases h8:(A4 c.list[k].op).n=8
  .rw[if_pos h8]at h2 |-;rw[hnn oM];exact h2
  .rw[if_neg h8]at h2 |-;by_cases h9:(A4 c.list[k].op).n=9
   .rw[if_pos h9]at h2 |-;have ho:c.list[k].op<35:=by
     by_cases q:c.list[k].op<35
     .exact q
     .exact absurd h9 (h35 oM).2.2.2.2.1
    rw[hnn oM,hmain ho];exact h2
   .rw[if_neg h9]at h2 |-;by_cases h10:(A4 c.list[k].op).n=10
    .rw[if_pos h10]at h2 |-;have ho:c.list[k].op<35:=by rcases hn10 h10 with q|q<;>omega
     obtain⟨n0,n1⟩:=Gv t (hn10 h10);have hw:usS c.list c.list[k].n.toNat=true:=EJ.2 ⟨k,hk,n,hn10 h10,rfl⟩;obtain⟨s1,s2⟩:=Hs (c:=c) (n:=c.list[k].n.toNat) oM hw;have en:(CY (AA (usR c.list)) (AA (usS c.list)) c.list[k]).n=((AA (usS c.list) c.list[k].n.toNat:Nat):Int):=by unfold CY;simp only;rw[if_pos (hn10 h10)]
     rw[en,hmain ho];simp only[Bool.and_eq_true]at h2 |-;refine⟨BU.2 ⟨oM,by show _<((AU (usS c.list) c.slots).length:Int);omega⟩,?_⟩;have e2:Cw (pruneC c).slots ((AA (usS c.list) c.list[k].n.toNat:Nat):Int)=Cw c.slots c.list[k].n:=by
      unfold Cw;rw[Int.toNat_natCast];show(((AU (usS c.list) c.slots)[_]?).map _).getD _=_;rw[s2]
     rw[e2];exact h2.2
    .rw[if_neg h10]at h2 |-;rw[hnn h10];exact h2
theorem Is(h:AR c ⟨[],[]⟩ c.list=true):Yk c (pruneC c) (ndK c.list) (usR c.list) (CY (AA (usR c.list)) (AA (usS c.list))) (AA (usR c.list)):=by
 refine⟨fun k hk hs=>?_,fun k hk hK r hr _=>Gx h hk (BH.1 hK) hr,fun k hk hK b hb=>BH.2 (.beg hk (BH.1 hK) hb),fun k hk hf b hb=>?_,fun r s hr hs e=>Mq hr hs e,fun i=>rfl,fun i o=>?_,fun k hk hK hf=>Wx h hk (BH.1 hK) hf,fun k hk hK ho hf=>Ol h hk (BH.1 hK) ho,fun i=>?_,fun i hs=>?_⟩
 .by_cases q:Nd c.list k
  .rw[BH.2 q];exact CC.2 ⟨k,hk,q,hs,rfl⟩
  .rw[Jm.2 q];cases hu:usR c.list c.list[k].d.toNat with
   |false=>rfl
   |true=>
    obtain⟨j,hj,hn,hsj,e⟩:=CC.1 hu;exact absurd (hn.setter hj hsj k hk hs e.symm) q
 .by_cases q:Nd c.list k
  .rw[BH.2 q,BH.2 (.begE hk q hf hb)]
  .rw[Jm.2 q,Jm.2 (fun w=>q (.fin hk w hf hb))]
 .unfold CY;simp only;rw[if_neg oM]
 .unfold Ae CY;simp only[List.map_append];congr 1
  .split<;>simp_all
  .congr 1<;>(split<;>simp_all)
 .unfold CY;simp only;have hd:(A4 i.op).d≠0:=by unfold Af at hs;simpa using hs
  rw[if_neg hd,Int.toNat_natCast]
theorem Qi(h:AR c ⟨[],[]⟩ c.list=true):Sv c (pruneC c) (ndK c.list) (usR c.list) (usS c.list) (CY (AA (usR c.list)) (AA (usS c.list))) (AA (usR c.list)) (AA (usS c.list)):=by
 refine⟨rfl,fun r hr=>(N7 h hr).2,fun i q=>?_,fun i q=>?_,fun i q=>?_,fun i q=>?_,fun i q1 q2=>?_,fun i q=>?_,fun i=>rfl,fun k hk o=>BH.2 (.out hk o),fun k hk hK o=>EJ.2 ⟨k,hk,BH.1 hK,o,rfl⟩,fun k hk hK o=>?_,fun m n hm hn e=>Mq hm hn e,fun n hn hl=>(Hs hl hn).1⟩
 .unfold CY;simp only;rw[if_neg q]
 .unfold CY;simp only;rw[if_neg q]
 .unfold CY;simp only;rw[if_neg q]
 .unfold CY;simp only;rw[if_neg q]
 .unfold CY;simp only;rw[if_neg oM]
 .unfold CY;simp only;rw[if_pos q]
 .cases hu:usS c.list c.list[k].n.toNat with
  |false=>rfl
  |true=>
   exfalso;obtain⟨j,hj,hn,oj,e⟩:=EJ.1 hu;have nk:=Gv (Ck h hk) (.inr o);have nj:=Gv (Ck h hj) oj;have ee:c.list[k].n=c.list[j].n:=oM;refine Jm.1 hK ?_;rcases oj with q|q
   .exact .store hj hk hn q o ee
   .obtain⟨m,hm,n1,o1,e1⟩:=hn.stored hj q;exact .store hm hk n1 o1 o (ee.trans e1)
theorem G8(hc:(Ai c).1=0):(Ai (pruneC c)).1=0:=by
 obtain⟨h1,h2,h3⟩:=Bi.1 hc;obtain⟨hg,-⟩:=Ez hc;obtain⟨w1,w2⟩:=Kg (Is h2) h2 c.list.length (gF _);refine Bi.2 ⟨?_,w1,?_⟩
 .have hl:(pruneC c).list.length<=c.list.length:=G7 _ _ _ _;have hr:(pruneC c).regs.length<=c.regs.length:=Hn _ _;have hs:(pruneC c).slots.length<=c.slots.length:=Hn _ _;have g1:=hg.regsL;have g2:=hg.listL;have g3:=hg.slotsL;have e0:B0 c.sign=0:=by
   unfold CG at h1;by_cases q:B0 c.sign=0
   .exact q
   .rw[if_pos q]at h1;exact absurd h1 q
  unfold CG;rw[if_neg (show¬B0 (pruneC c).sign≠0 from fun q=>q e0),if_neg oM,if_neg oM,if_pos];simp only[Bool.and_eq_true];refine⟨?_,?_⟩
  .unfold Ax;rw[List.all_eq_true];exact fun t ht=>hg.regs t (Kf ht)
  .unfold BK;rw[List.all_eq_true];exact fun s hs'=>hg.slots s (Kf hs')
 .have ho:=w2.opens;rw[List.take_length]at ho;have hl:=ho.len;rw[List.isEmpty_iff]at h3;rw[h3]at ho hl;have e:AE c.list=[]:=List.eq_nil_of_length_eq_zero hl;rw[e]at ho;show(CZ ⟨[],[]⟩ (Bc _ _ c.list c.list.length)).opens.isEmpty=true;rw[List.isEmpty_iff];revert ho;generalize (CZ ⟨[],[]⟩ (Bc (ndK c.list) (CY (AA (usR c.list)) (AA (usS c.list))) c.list c.list.length)).opens=o';intro ho;cases ho
  rfl
end
def rkCs(l:List Rk):List Value:=l.flatMap rkC
section
variable {E : Nat} {c : Cd} {s : RW} {w w' : World} {B C SB IB MB nm rb ro q1 : Nat} {vk vo vl : Value} {tag : Nat -> Nat}
theorem Am{tag:Nat->Nat}{a b m n:Nat}(ha:tag a=m)(hb:tag b=n)(h:m≠n):a≠b:=fun e=>h (by rw[<-ha,<-hb,e])
end
def T2(w:World)(T:Nat->Prop)(b:Nat):Prop:=T b\/(w.heap.size<=b/\b<=w.heap.size+1+1+1)
theorem Dl{w:World}{T:Nat->Prop}(hT:∀b,T b->b<w.heap.size){b:Nat}(h:T2 w T b){v:World}(hv:w.heap.size+1+1+1<v.heap.size):b<v.heap.size:=by
 rcases h with h|h
 .have:=hT b h;omega
 .omega
theorem t2_cs{T:Nat->Prop}{w v:World}{u:Value}{X:List Cl}(h:AT T w u X)(k:Below w.heap.size w v):AT (T2 w T) v u X:=(h.mono fun b hb e=>e.elim id fun e=>by omega).below k
theorem Nj{T:Nat->Prop}{w v:World}{p:Option Addr}{l:List Int}(h:B6 T w p l)(k:Below w.heap.size w v):B6 (T2 w T) v p l:=(h.mono fun b hb e=>e.elim id fun e=>by omega).below k
theorem BT{T:Nat->Prop}(ru:Value)(X:List Cl){NN:Nat}(hN:X.length=NN)(hX:NN<=16384)(kd:Nat)(hd:kd<NN)(w:World)(hT:∀b,T b->b<w.heap.size)(hcs:AT T w ru X):∀v F I D (x:Cl),DW w F I D v->B6 (T2 w T) v x.p x.h.pats->Calls prog 70 #[ru,.int .i64 (kd:Int),.agg #[.slice x.p x.h.pats.length x.q,.int .i64 x.h.whole]] v fun e w'=>∃p q,e=.returned (.slice p NN q)/\AT (T2 w T) w' (.slice p NN q) (X.set kd x)/\Below v.heap.size v w':=
 fun v F I D x h hx=>by subst hN;exact rput_T ru X hX kd hd x v (fun b hb=>Dl hT hb h.size) (t2_cs hcs h.bel) hx
structure DE(w:World)(a0 a1 a2 a3 a4 a5 a6 a7 a8 a9:Value)(v:World):Prop where
 bel:Below w.heap.size w v
 c0:v.cell? ⟨w.heap.size,0,none⟩=some a0
 c1:v.cell? ⟨w.heap.size,1,none⟩=some a1
 c2:v.cell? ⟨w.heap.size,2,none⟩=some a2
 c3:v.cell? ⟨w.heap.size,3,none⟩=some a3
 c4:v.cell? ⟨w.heap.size,4,none⟩=some a4
 c5:v.cell? ⟨w.heap.size,5,none⟩=some a5
 c6:v.cell? ⟨w.heap.size,6,none⟩=some a6
 c7:v.cell? ⟨w.heap.size,7,none⟩=some a7
 c8:v.cell? ⟨w.heap.size,8,none⟩=some a8
 c9:v.cell? ⟨w.heap.size,9,none⟩=some a9
 r0:v.cell? ⟨w.heap.size+1+1,0,none⟩=some (.slice none 0 0)
 r1:v.cell? ⟨w.heap.size+1+1,1,none⟩=some (.slice none 0 0)
 r2:v.cell? ⟨w.heap.size+1+1,2,none⟩=some (.slice none 0 0)
 r3:v.cell? ⟨w.heap.size+1+1,3,none⟩=some (.slice none 0 0)
 r4:v.cell? ⟨w.heap.size+1+1,4,none⟩=some (.slice none 0 0)
 r5:v.cell? ⟨w.heap.size+1+1,5,none⟩=some (.slice none 0 0)
 r6:v.cell? ⟨w.heap.size+1+1,6,none⟩=some (.slice none 0 0)
 r7:v.cell? ⟨w.heap.size+1+1,7,none⟩=some (.slice none 0 0)
 r8:v.cell? ⟨w.heap.size+1+1,8,none⟩=some (.slice none 0 0)
 r9:v.cell? ⟨w.heap.size+1+1,9,none⟩=some (.int .i64 0)
 y0:v.frozen? ⟨w.heap.size+1+1,0,none⟩=false
 y1:v.frozen? ⟨w.heap.size+1+1,1,none⟩=false
 y2:v.frozen? ⟨w.heap.size+1+1,2,none⟩=false
 y3:v.frozen? ⟨w.heap.size+1+1,3,none⟩=false
 y4:v.frozen? ⟨w.heap.size+1+1,4,none⟩=false
 y5:v.frozen? ⟨w.heap.size+1+1,5,none⟩=false
 y6:v.frozen? ⟨w.heap.size+1+1,6,none⟩=false
 y7:v.frozen? ⟨w.heap.size+1+1,7,none⟩=false
 y8:v.frozen? ⟨w.heap.size+1+1,8,none⟩=false
 y9:v.frozen? ⟨w.heap.size+1+1,9,none⟩=false
theorem DE.of{w:World}{a0 a1 a2 a3 a4 a5 a6 a7 a8 a9:Value}{v:World}(b:Below w.heap.size w v)(f:v.rowIs w.heap.size 110 10 (D5 a0 a1 a2 a3 a4 a5 a6 a7 a8 a9))(r:v.rowIs (w.heap.size+1+1) 110 10 (D5 (.slice none 0 0) (.slice none 0 0) (.slice none 0 0) (.slice none 0 0) (.slice none 0 0) (.slice none 0 0) (.slice none 0 0) (.slice none 0 0) (.slice none 0 0) (.int .i64 0))):DE w a0 a1 a2 a3 a4 a5 a6 a7 a8 a9 v:=
 ⟨b,f.cell (i:=0) dE,f.cell (i:=1) dE,f.cell (i:=2) dE,f.cell (i:=3) dE,f.cell (i:=4) dE,f.cell (i:=5) dE,f.cell (i:=6) dE,f.cell (i:=7) dE,f.cell (i:=8) dE,f.cell (i:=9) dE,r.cell (i:=0) dE,r.cell (i:=1) dE,r.cell (i:=2) dE,r.cell (i:=3) dE,r.cell (i:=4) dE,r.cell (i:=5) dE,r.cell (i:=6) dE,r.cell (i:=7) dE,r.cell (i:=8) dE,r.cell (i:=9) dE,r.frozen 0,r.frozen 1,r.frozen 2,r.frozen 3,r.frozen 4,r.frozen 5,r.frozen 6,r.frozen 7,r.frozen 8,r.frozen 9⟩
theorem AN{v:World}{a b:Addr}{x:Value}(h:v.cell? a=some x)(hne:¬a.block=b.block)(u:Value):(v.setCell b u).cell? a=some x:=by
 rw[gC (gE hne)];exact h
theorem Rv{T:Nat->Prop}{w W:World}(hT2:∀v:World,w.heap.size+1+1+1<v.heap.size->∀b,T2 w T b->b<v.heap.size)(hsz:w.heap.size+1+1+1<W.heap.size)(x:Int){t:TypeId}{u:Value}:B6 (T2 w T) ((W.setCell ⟨w.heap.size+1+1+1,0,none⟩ u).alloc (.cells #[.int .i64 x] t)) (some ⟨W.heap.size,0,none⟩) [x]:=by
 refine .inr ⟨W.heap.size,0,rfl,fun k=>by have:=hT2 W hsz _ k;omega,sM,fun j hj=>?_⟩;have hj0:j=0:=by have:j<1:=hj;omega
 subst hj0;have h1:(W.setCell ⟨w.heap.size+1+1+1,0,none⟩ u).heap.size=W.heap.size:=sM;have h2:=heap_alloc_new (W.setCell ⟨w.heap.size+1+1+1,0,none⟩ u) (.cells #[.int .i64 x] t);rw[h1]at h2;unfold World.cell?;simp only[h2];rfl
theorem JY{T:Nat->Prop}{w W:World}(hT2:∀v:World,w.heap.size+1+1+1<v.heap.size->∀b,T2 w T b->b<v.heap.size)(hsz:w.heap.size+1+1+1<W.heap.size)(x:Int){t:TypeId}{u:Value}:B6 (T2 w T) ((W.alloc (.cells #[.int .i64 x] t)).setCell ⟨w.heap.size+1+1+1,0,none⟩ u) (some ⟨W.heap.size,0,none⟩) [x]:=by
 refine .inr ⟨W.heap.size,0,rfl,fun k=>by have:=hT2 W hsz _ k;omega,sM,fun j hj=>?_⟩;have hj0:j=0:=by have:j<1:=hj;omega
 subst hj0;rw[gC (gE (by show W.heap.size≠w.heap.size+1+1+1;omega))];simp[go_sem,CH]
theorem Hi{T:Nat->Prop}{w v:World}{p:Option Addr}{l:List Int}(h:B6 (T2 w T) v p l)(i:Nat)(x:Value):B6 (T2 w T) (v.setCell ⟨w.heap.size+1+1+1,i,none⟩ x) p l:=
 h.un ((Un.refl (fun b=>b=w.heap.size+1+1+1) v).setCell rF _) fun b _ e=>.inr ⟨oM,oM⟩
theorem FQ{T:Nat->Prop}{w:World}{a0 a1 a2 a3 a4 a5 a6 a7 a8 a9 u:Value}{I D:Nat->Value}{v:World}{Y:List Cl}(h:DW w (D5 a0 a1 a2 a3 a4 a5 a6 a7 a8 a9) I D v)(k:AT (T2 w T) v u Y):DE w a0 a1 a2 a3 u a5 a6 a7 a8 a9 (v.setCell ⟨w.heap.size,4,none⟩ u)/\AT (T2 w T) (v.setCell ⟨w.heap.size,4,none⟩ u) u Y:=by
 have hu:Un (fun b=>b=w.heap.size) v (v.setCell ⟨w.heap.size,4,none⟩ u):=(Un.refl _ _).setCell Zhl _;refine⟨DE.of (h.bel.setCell Zhi _) ((h.f.set 4 u).congr fun j hj=>?_) (h.r.setOther Zhh _),k.un hu fun b _ e=>.inr ⟨oM,oM⟩⟩;exact Zdg
theorem SU{T:Nat->Prop}{w:World}{a0 a1 a2 a3 a4 a5 a6 a7 a8 a9 u:Value}{I D:Nat->Value}{v:World}{Y:List Cl}(h:DW w (D5 a0 a1 a2 a3 a4 a5 a6 a7 a8 a9) I D v)(k:AT (T2 w T) v u Y):DE w a0 a1 a2 a3 a4 u a6 a7 a8 a9 (v.setCell ⟨w.heap.size,5,none⟩ u)/\AT (T2 w T) (v.setCell ⟨w.heap.size,5,none⟩ u) u Y:=by
 have hu:Un (fun b=>b=w.heap.size) v (v.setCell ⟨w.heap.size,5,none⟩ u):=(Un.refl _ _).setCell Zhl _;refine⟨DE.of (h.bel.setCell Zhi _) ((h.f.set 5 u).congr fun j hj=>?_) (h.r.setOther Zhh _),k.un hu fun b _ e=>.inr ⟨oM,oM⟩⟩;exact Zdg
theorem SR{T:Nat->Prop}{w:World}{a0 a1 a2 a3 a4 a5 a6 a7 a8 a9 u:Value}{I D:Nat->Value}{v:World}{Y:List Cl}(h:DW w (D5 a0 a1 a2 a3 a4 a5 a6 a7 a8 a9) I D v)(k:Ie (T2 w T) v u Y):DE w a0 a1 a2 a3 a4 a5 u a7 a8 a9 (v.setCell ⟨w.heap.size,6,none⟩ u)/\Ie (T2 w T) (v.setCell ⟨w.heap.size,6,none⟩ u) u Y:=by
 have hu:Un (fun b=>b=w.heap.size) v (v.setCell ⟨w.heap.size,6,none⟩ u):=(Un.refl _ _).setCell Zhl _;refine⟨DE.of (h.bel.setCell Zhi _) ((h.f.set 6 u).congr fun j hj=>?_) (h.r.setOther Zhh _),k.un hu fun b _ e=>.inr ⟨oM,oM⟩⟩;exact Zdg
theorem Ly(x:Cl):∀ (X:List Cl) (d:Nat),d<X.length->(Au UH X).set d (.slice x.p x.h.pats.length x.q)=Au UH (X.set d x)
 |[],d,h=>by simp at h
 |y::X,0,h=>rfl
 |y::X,d+1,h=>by
  have ih:=Ly x X d UQ;have e:Au UH (y::X)=.slice y.p y.h.pats.length y.q::Au UH X:=rfl;rw[e,List.set_cons_succ,ih];rfl
theorem ZH{T:Nat->Prop}{W:World}{O:List Cl}{M:Nat}(hM:O.length=M)(hl:M<=16384){p:Option Addr}{q:Nat}(h:Ie T W (.slice p M q) O)(hT:∀b,T b->b<W.heap.size)(ix:Nat)(hix:ix<M):
 ∃g cap w1,(Builtin.append_ #[88,88] 88 #[.slice none 0 0,.slice p M q]).run prog W=.ok (.slice (some ⟨g,0,none⟩) M cap) w1/\Below W.heap.size W w1/\(∃z,w1.cell? ⟨g,ix,none⟩=some z)/\w1.frozen? ⟨g,ix,none⟩=false/\W.heap.size<=g/\∀x:Cl,B6 T W x.p x.h.pats->Ie T (w1.setCell ⟨g,ix,none⟩ (.slice x.p x.h.pats.length x.q)) (.slice (some ⟨g,0,none⟩) M cap) (O.set ix x):=by
 subst hM;obtain⟨i0,hi0,hz0,hz1,hz2⟩:=info_parts LD;obtain⟨u,w',hr,hb,hown⟩:=Nu dE Jp ZF underlying88 hi0 hz0 hz1 hz2 rfl h.row.row mL oM 88;obtain⟨g,cap,rfl,hg,hgl⟩:=hown.form oM;have hfl:(Au UH O).length=O.length*1:=Dz Jp O;refine⟨g,cap,w',hr,hb,⟨(Au UH O)[ix]'oM,?_⟩,hown.frozenAt ix,hg,fun x hx=>?_⟩
 .rw[hown.cellAt ix oM,gB]
 .have s1:=(hown.stored ix (.slice x.p x.h.pats.length x.q)).1;rw[Ly x O ix hix]at s1;have hbF:Below W.heap.size W (w'.setCell ⟨g,ix,none⟩ (.slice x.p x.h.pats.length x.q)):=hb.setCell hg _;refine⟨Hl Jp (by rw[List.length_set];exact s1) hT,fun y hy=>?_⟩;rcases List.mem_or_eq_of_mem_set hy with e|rfl
  .exact(h.nums y e).below hbF
  .exact hx.below hbF
abbrev Na(v:World)(b:Nat)(b0 b1 b2 b3 b4 b5 b6 b7 b8 b9:Value):World:=(((((((((v.setCell ⟨b,0,none⟩ b0).setCell ⟨b,1,none⟩ b1).setCell ⟨b,2,none⟩ b2).setCell ⟨b,3,none⟩ b3).setCell ⟨b,4,none⟩ b4).setCell ⟨b,5,none⟩ b5).setCell ⟨b,6,none⟩ b6).setCell ⟨b,7,none⟩ b7).setCell ⟨b,8,none⟩ b8).setCell ⟨b,9,none⟩ b9
theorem Jr(v:World)(b:Nat)(b0 b1 b2 b3 b4 b5 b6 b7 b8 b9:Value):Un (fun x=>x=b) v (Na v b b0 b1 b2 b3 b4 b5 b6 b7 b8 b9):=
 ((((((((((Un.refl _ _).setCell rF _).setCell rF _).setCell rF _).setCell rF _).setCell rF _).setCell rF _).setCell rF _).setCell rF _).setCell rF _).setCell rF _
theorem JC{w:World}{a0 a1 a2 a3 a4 a5 a6 a7 a8 a9:Value}{v:World}(h:DE w a0 a1 a2 a3 a4 a5 a6 a7 a8 a9 v){b0 b1 b2 b3 b4 b5 b6 b7 b8 b9:Value}:Below w.heap.size w (Na v (w.heap.size+1+1) b0 b1 b2 b3 b4 b5 b6 b7 b8 b9):=by
 have:=Jr v (w.heap.size+1+1) b0 b1 b2 b3 b4 b5 b6 b7 b8 b9;exact(Un.trans (Un.mono (T:=fun b=>b=w.heap.size+1+1) (U:=fun _=>False) ⟨h.bel.os,h.bel.tape,h.bel.output,h.bel.size,fun b hb _=>h.bel.block b hb⟩ fun _ e=>e.elim) this).below (gF _) fun b e=>by omega
theorem Mt{T:Nat->Prop}{w:World}{a0 a1 a2 a3 a4 a5 a6 a7 a8 a9 u:Value}{v:World}{Y:List Cl}(h:DE w a0 a1 a2 a3 a4 a5 a6 a7 a8 a9 v)(k:AT (T2 w T) v u Y){b0 b1 b2 b3 b4 b5 b6 b7 b8 b9:Value}:AT T (Na v (w.heap.size+1+1) b0 b1 b2 b3 b4 b5 b6 b7 b8 b9) u Y/\Below w.heap.size w (Na v (w.heap.size+1+1) b0 b1 b2 b3 b4 b5 b6 b7 b8 b9):=
 ⟨(k.un (Jr v _ _ _ _ _ _ _ _ _ _ _) fun b _ e=>.inr ⟨oM,oM⟩).mono fun b _ e=>.inl e,JC h⟩
theorem YH{T:Nat->Prop}{w:World}{a0 a1 a2 a3 a4 a5 a6 a7 a8 a9 u:Value}{v:World}{Y:List Cl}(h:DE w a0 a1 a2 a3 a4 a5 a6 a7 a8 a9 v)(k:Ie (T2 w T) v u Y){b0 b1 b2 b3 b4 b5 b6 b7 b8 b9:Value}:Ie T (Na v (w.heap.size+1+1) b0 b1 b2 b3 b4 b5 b6 b7 b8 b9) u Y/\Below w.heap.size w (Na v (w.heap.size+1+1) b0 b1 b2 b3 b4 b5 b6 b7 b8 b9):=
 ⟨(k.un (Jr v _ _ _ _ _ _ _ _ _ _ _) fun b _ e=>.inr ⟨oM,oM⟩).mono fun b _ e=>.inl e,JC h⟩
theorem O4{l:List Ad}(he:AE l=[]){b:Nat}:∀m k,m=l.length-k->k<=l.length->b∈AE (l.take k)->∃e,CF l b e:=by
 intro m;induction m with
 |zero=>
  intro k hm hk hb;have:k=l.length:=oM;subst this;rw[List.take_length,he]at hb;cases hb
 |succ m ih=>
  intro k hm hk hb;have hkl:k<l.length:=oM;have hn:=IF hkl;by_cases h1:l[k].op=34\/l[k].op=36
  .rw[if_pos h1]at hn;exact ih (k+1) oM oM (by rw[hn];simp[hb])
  .rw[if_neg h1]at hn;by_cases h2:l[k].op=35\/l[k].op=37
   .rw[if_pos h2]at hn;cases hs:AE (l.take k)with
    |nil=>rw[hs]at hb;cases hb
    |cons b0 S=>
     rw[hs]at hb hn;rcases List.mem_cons.1 hb with e|e
     .exact⟨k,hkl,h2,by rw[hs,e];rfl⟩
     .exact ih (k+1) oM oM (by rw[hn];exact e)
   .rw[if_neg h2]at hn;exact ih (k+1) oM oM (by rw[hn];exact hb)
def I1(l:List Ad)(r:Nat):List Nat:=(List.range l.length).filter fun k=>(l[k]?.map fun i=>Af i&&decide (i.d.toNat=r))==some true
def IG(l:List Ad)(n:Nat):List Nat:=(List.range l.length).filter fun k=>(l[k]?.map fun i=>decide (i.op=33)&&decide (i.n.toNat=n))==some true
theorem I2{l:List Ad}{r k:Nat}:k∈I1 l r↔∃hk:k<l.length,Af l[k]=true/\l[k].d.toNat=r:=by
 unfold I1;exact Zec
theorem I7{l:List Ad}{r k:Nat}:k∈IG l r↔∃hk:k<l.length,l[k].op=33/\l[k].n.toNat=r:=by
 unfold IG;exact Zec
noncomputable def enP (l:List Ad) (b:Nat):Nat:=@dite _ (∃e,CF l b e) (Classical.propDecidable _) (fun h=>Classical.choose h) (fun _=>0)
theorem Pu{l:List Ad}{b e:Nat}(h:CF l b e):enP l b=e:=by
 have hx:∃e,CF l b e:=⟨e,h⟩
 unfold enP;rw[dif_pos hx];exact Ij (Classical.choose_spec hx) h
def goR(l:List Ad)(q:Sr)(r:Nat):Sr:={needL q (if q.sr r=true then [] else I1 l r)with sr:=fun x=>if x=r then true else q.sr x}
def goS(l:List Ad)(q:Sr)(n:Nat):Sr:={needL q (if q.ss n=true then [] else IG l n)with ss:=fun x=>if x=n then true else q.ss x}
noncomputable def goA (l:List Ad) (q:Sr) (p:Nat):Sr:=match (OY l p).head? with
 |some b=>needL q [b,enP l b]
 |none=>q
def E9(l:List Ad)(q:Sr)(rs:List Int):Sr:=rs.foldl (fun q r=>goR l q r.toNat) q
noncomputable def goQ (l:List Ad) (q:Sr) (p:Nat) (i:Ad):Sr:=
 let q1:=E9 l q (Ae i (A4 i.op));let q2:=if i.op=32 then goS l q1 i.n.toNat else q1
 goA l q2 p
def CA(l:List Ad)(q:Sr):Nat:=((List.range l.length).filter fun k=> !(q.nd k)).length+q.todo.length
theorem Vf(f g:Nat->Bool)(p:Nat)(h1:f p=true)(h2:g p=false)(h3:∀x,x≠p->g x=f x):∀n,p<n->((List.range n).filter g).length+1=((List.range n).filter f).length:=by
 intro n;induction n with
 |zero=>intro h;omega
 |succ n ih=>
  intro hn;rw[List.range_succ,List.filter_append,List.filter_append,List.length_append,List.length_append];by_cases e:n=p
  .subst e;have:(List.range n).filter g=(List.range n).filter f:=List.filter_congr (fun x hx=>h3 x (by have:=List.mem_range.1 hx;omega));rw[this];simp[h1,h2]
  .have:=ih oM;simp only[List.filter_cons,List.filter_nil,h3 n e];omega
theorem Kz{l:List Ad}(q:Sr){p:Nat}(hp:p<l.length):CA l (need1 q p)=CA l q:=by
 unfold need1;split
 .rfl
 .rename_i h;unfold CA;simp only[List.length_append,List.length_singleton];have:=Vf (fun k=> !(q.nd k)) (fun k=> !(if k=p then true else q.nd k)) p UQ sM (fun x hx=>by simp[hx]) l.length hp;omega
theorem Fz{l:List Ad}:∀ (ps:List Nat) (q:Sr),(∀p∈ps,p<l.length)->CA l (needL q ps)=CA l q
 |[],q,_=>rfl
 |p::ps,q,h=>(Fz ps (need1 q p) (fun x hx=>h x (by simp[hx]))).trans (Kz q (h p sM))
section
variable {l : List Ad} {q : Sr} {X : List Nat}
theorem OH{i:Ad}(h:Af i=true)(hk:Al i.op=true):i.op<34:=by
 obtain⟨n,e,h1,h2⟩:=EY hk;unfold Af at h;rw[e]at h |-;have Bl:∀n:Nat,n<38->decide ((A4 (n:Int)).d≠0)=true->n<34:=dE;have:=Bl n h2 UQ;omega
theorem YZ(h:SI l q X)(hpar:Em l q)(hK:∀i∈l,Al i.op=true)(r:Nat)(hn:∀j∈I1 l r,Nd l j):SI l (goR l q r) X/\Em l (goR l q r)/\CA l (goR l q r)=CA l q/\(∀x,q.nd x=true->(goR l q r).nd x=true)/\(∀x,(goR l q r).sr x=true↔q.sr x=true\/x=r)/\(goR l q r).ss=q.ss:=by
 have hps:∀p∈(if q.sr r=true then [] else I1 l r),p∈I1 l r:=fun p hp=>by split at hp<;>simp_all
 have low:∀p∈(if q.sr r=true then [] else I1 l r),∃hp:p<l.length,l[p].op<34:=fun p hp=>by
  obtain⟨h1,h2,-⟩:=I2.1 (hps p hp);exact⟨h1,OH h2 (hK _ (gD h1))⟩
 have h1:=Hh (l:=l) (X:=X) (if q.sr r=true then [] else I1 l r) h (fun p hp=>⟨(low p hp).1,hn p (hps p hp)⟩);obtain⟨k1,k2⟩:=D3 (if q.sr r=true then [] else I1 l r) q;have nd':=D9 (if q.sr r=true then [] else I1 l r) q;have up:∀x,q.nd x=true->(goR l q r).nd x=true:=fun x hx=>(nd' x).2 (.inl hx);have sr':∀x,(goR l q r).sr x=true↔q.sr x=true\/x=r:=fun x=>by
  unfold goR;simp only;by_cases e:x=r<;>simp[e]
 refine⟨⟨h1.snd,h1.tod,fun p a b c=>?_,fun x hx j hj hs e=>?_,h1.ss⟩,hpar.other low,?_,up,sr',k2⟩
 .refine(h1.don p a b c).mono (fun x hx=>hx) (fun x hx=>(sr' x).2 (.inl (by rw[k1]at hx;exact hx))) (fun x hx=>hx)
 .by_cases hr:q.sr r=true
  .have:q.sr x=true:=by
    rcases(sr' x).1 hx with w|w
    .exact w
    .rw[w];exact hr
   exact up j (h.sr x this j hj hs e)
  .rcases(sr' x).1 hx with w|w
   .exact up j (h.sr x w j hj hs e)
   .refine(nd' j).2 (.inr ?_);rw[if_neg hr,<-w];exact I2.2 ⟨hj,hs,e⟩
 .exact Fz (l:=l) _ q (fun p hp=>(low p hp).1)
theorem Z0(h:SI l q X)(hpar:Em l q)(r:Nat)(hn:∀j∈IG l r,Nd l j):SI l (goS l q r) X/\Em l (goS l q r)/\CA l (goS l q r)=CA l q/\(∀x,q.nd x=true->(goS l q r).nd x=true)/\(∀x,(goS l q r).ss x=true↔q.ss x=true\/x=r)/\(goS l q r).sr=q.sr:=by
 have hps:∀p∈(if q.ss r=true then [] else IG l r),p∈IG l r:=fun p hp=>by split at hp<;>simp_all
 have low:∀p∈(if q.ss r=true then [] else IG l r),∃hp:p<l.length,l[p].op<34:=fun p hp=>by
  obtain⟨h1,h2,-⟩:=I7.1 (hps p hp);exact⟨h1,oM⟩
 have h1:=Hh (l:=l) (X:=X) (if q.ss r=true then [] else IG l r) h (fun p hp=>⟨(low p hp).1,hn p (hps p hp)⟩);obtain⟨k1,k2⟩:=D3 (if q.ss r=true then [] else IG l r) q;have nd':=D9 (if q.ss r=true then [] else IG l r) q;have up:∀x,q.nd x=true->(goS l q r).nd x=true:=fun x hx=>(nd' x).2 (.inl hx);have ss':∀x,(goS l q r).ss x=true↔q.ss x=true\/x=r:=fun x=>by
  unfold goS;simp only;by_cases e:x=r<;>simp[e]
 refine⟨⟨h1.snd,h1.tod,fun p a b c=>?_,h1.sr,fun x hx j hj hs e=>?_⟩,hpar.other low,?_,up,ss',k1⟩
 .refine(h1.don p a b c).mono (fun x hx=>hx) (fun x hx=>hx) (fun x hx=>(ss' x).2 (.inl (by rw[k2]at hx;exact hx)))
 .by_cases hr:q.ss r=true
  .have:q.ss x=true:=by
    rcases(ss' x).1 hx with w|w
    .exact w
    .rw[w];exact hr
   exact up j (h.ss x this j hj hs e)
  .rcases(ss' x).1 hx with w|w
   .exact up j (h.ss x w j hj hs e)
   .refine(nd' j).2 (.inr ?_);rw[if_neg hr,<-w];exact I7.2 ⟨hj,hs,e⟩
 .exact Fz (l:=l) _ q (fun p hp=>(low p hp).1)
theorem NT(hK:∀i∈l,Al i.op=true):∀ (rs:List Int) {q:Sr},SI l q X->Em l q->(∀r∈rs,∀j∈I1 l r.toNat,Nd l j)->SI l (E9 l q rs) X/\Em l (E9 l q rs)/\CA l (E9 l q rs)=CA l q/\(∀x,q.nd x=true->(E9 l q rs).nd x=true)/\(∀x,q.sr x=true->(E9 l q rs).sr x=true)/\(∀r∈rs,(E9 l q rs).sr r.toNat=true)/\(E9 l q rs).ss=q.ss
 |[],q,h,hp,_=>⟨h,hp,rfl,fun x hx=>hx,fun x hx=>hx,sM,rfl⟩
 |r::rs,q,h,hp,hn=>by
  obtain⟨a1,a2,a3,a4,a5,a6⟩:=YZ h hp hK r.toNat (hn r sM);obtain⟨b1,b2,b3,b4,b5,b6,b7⟩:=NT hK rs a1 a2 (fun x hx=>hn x (by simp[hx]));refine⟨b1,b2,b3.trans a3,fun x hx=>b4 x (a4 x hx),fun x hx=>b5 x ((a5 x).2 (.inl hx)),fun x hx=>?_,b7.trans a6⟩;rcases List.mem_cons.1 hx with e|e
  .rw[e];exact b5 _ ((a5 _).2 (.inr rfl))
  .exact b6 x e
theorem QT{p:Nat}(hp:p<l.length){b:Nat}(hb:(OY l p).head?=some b):b∈AE (l.take p):=by
 have:=List.mem_of_mem_head? hb;rw[F8 hp]at this;exact Ff hp this
theorem YX(he:AE l=[])(h:SI l q X)(hpar:Em l q){p:Nat}(hp:p<l.length)(np:Nd l p):SI l (goA l q p) X/\Em l (goA l q p)/\CA l (goA l q p)=CA l q/\(∀x,q.nd x=true->(goA l q p).nd x=true)/\(goA l q p).sr=q.sr/\(goA l q p).ss=q.ss/\∀b,(OY l p).head?=some b->(goA l q p).nd b=true:=by
 unfold goA;cases hb:(OY l p).head? with
 |none=>exact⟨h,hpar,rfl,fun x hx=>hx,rfl,rfl,sM⟩
 |some b=>
  obtain⟨e,hm⟩:=O4 he (l.length-p) p rfl (Nat.le_of_lt hp) (QT hp hb);simp only[Pu hm];obtain⟨hb',he',-,-⟩:=DF hm;have nb:Nd l b:=.beg hp np (by rw[<-F8 hp];exact List.mem_of_mem_head? hb);have ne:Nd l e:=.fin he' nb hm.2.1 hm.2.2;have all:∀x∈[b,e],x<l.length/\Nd l x:=fun x hx=>by
   simp only[List.mem_cons,List.not_mem_nil,or_false]at hx;rcases hx with w|w<;>subst w
   .exact⟨hb',nb⟩
   .exact⟨he',ne⟩
  obtain⟨k1,k2⟩:=D3 [b,e] q;refine⟨Hh [b,e] h all,hpar.both hm,Fz _ q (fun x hx=>(all x hx).1),fun x hx=>(D9 [b,e] q x).2 (.inl hx),k1,k2,fun b' hb'=>(D9 [b,e] q b').2 (.inr ?_)⟩;simp only[Option.some.injEq]at hb';simp[hb']
theorem YY(he:AE l=[])(hK:∀i∈l,Al i.op=true)(hN:∀j k (hj:j<l.length) (hk:k<l.length),l[j].op=33->l[k].op=32->l[j].n.toNat=l[k].n.toNat->l[j].n=l[k].n){t:List Nat}{p:Nat}(h:SI l q [])(hpar:Em l q)(ht:q.todo=t++[p])(hp:p<l.length):
 SI l (goQ l {q with todo:=t} p l[p]) []/\Em l (goQ l {q with todo:=t} p l[p])/\CA l (goQ l {q with todo:=t} p l[p])+1=CA l q/\∀x,q.nd x=true->(goQ l {q with todo:=t} p l[p]).nd x=true:=by
 have np:Nd l p:=(h.snd p (h.tod p (by rw[ht];simp))).2;have h0:SI l {q with todo:=t} [p]:=⟨h.snd,fun x hx=>h.tod x (by rw[ht];simp[hx]),fun x a b c=>h.don x a (by rw[ht];simp only[List.mem_append,not_or];exact⟨b,c⟩) sM,h.sr,h.ss⟩
 have p0:Em l {q with todo:=t}:=hpar;have d0:CA l {q with todo:=t}+1=CA l q:=by unfold CA;rw[ht];simp only[List.length_append,List.length_singleton];omega
 obtain⟨a1,a2,a3,a4,a5,a6,a7⟩:=NT hK (Ae l[p] (A4 l[p].op)) h0 p0 (fun r hr j hj=>by
  obtain⟨g1,g2,g3⟩:=I2.1 hj
  exact .set hp g1 np r hr g2 g3)
 generalize hq1:E9 l {q with todo:=t} (Ae l[p] (A4 l[p].op))=q1 at a1 a2 a3 a4 a5 a6 a7;obtain⟨q2,hq2,b1,b2,b3,b4,b5,b6⟩:∃q2,q2=(if l[p].op=32 then goS l q1 l[p].n.toNat else q1)/\SI l q2 [p]/\Em l q2/\CA l q2=CA l q1/\(∀x,q1.nd x=true->q2.nd x=true)/\q2.sr=q1.sr/\(l[p].op=32->q2.ss l[p].n.toNat=true):=by
  refine⟨_,rfl,?_⟩;by_cases o:l[p].op=32
  .rw[if_pos o];obtain⟨c1,c2,c3,c4,c5,c6⟩:=Z0 a1 a2 l[p].n.toNat (fun j hj=>by
    obtain⟨g1,g2,g3⟩:=I7.1 hj
    exact .store hp g1 np o g2 (hN j p g1 hp g2 o g3))
   exact⟨c1,c2,c3,c4,c6,fun _=>(c5 _).2 (.inr rfl)⟩
  .rw[if_neg o];exact⟨a1,a2,rfl,fun x hx=>hx,rfl,fun w=>absurd w o⟩
 obtain⟨c1,c2,c3,c4,c5,c6,c7⟩:=YX he b1 b2 hp np;have eg:goQ l {q with todo:=t} p l[p]=goA l q2 p:=by
  unfold goQ;simp only[hq1];rw[hq2]
 rw[eg];have hd:Lk l (goA l q2 p) p:=fun _=>⟨fun r hr=>by rw[c5,b5];exact a6 r hr,fun o=>by rw[c6];exact b6 o,c7⟩
 refine⟨⟨c1.snd,c1.tod,fun x a b _=>?_,c1.sr,c1.ss⟩,c2,oM,fun x hx=>c4 x (b4 x (a4 x hx))⟩;by_cases e:x=p
 .subst e;exact hd
 .exact c1.don x a b (by simpa using e)
end

section
variable {c : Cd}
theorem Mi(h:AR c ⟨[],[]⟩ c.list=true){j:Nat}(hj:j<=c.list.length):(AE (c.list.take j)).length=(CZ ⟨[],[]⟩ (c.list.take j)).opens.length:=
 ((Kg (Is h) h j hj).2.opens).len
theorem Sn(hc:(Ai c).1=0):AE c.list=[]:=by
 obtain⟨h1,h2,h3⟩:=Bi.1 hc;have h:=Mi h2 (gF _);rw[List.take_length]at h;rw[List.isEmpty_iff]at h3;rw[h3]at h;exact List.eq_nil_of_length_eq_zero h
theorem O0(hc:(Ai c).1=0):∀i∈c.list,Al i.op=true:=fun i hi=>by
 obtain⟨h1,h2,h3⟩:=Bi.1 hc;obtain⟨k,hk,e⟩:=List.mem_iff_getElem.1 hi;rw[<-e];exact(Ao (Ck h2 hk)).1
theorem Gu(hc:(Ai c).1=0){k:Nat}(hk:k<c.list.length)(o:c.list[k].op=32\/c.list[k].op=33):∃n:Nat,c.list[k].n=(n:Int)/\n<c.slots.length:=by
 obtain⟨h1,h2,h3⟩:=Bi.1 hc;obtain⟨t1,t2,t3,t4⟩:=Ao (Ck h2 hk);unfold AS at t2;simp only[Bool.and_eq_true]at t2;have h:=t2.2.2.2.2;have e:(A4 c.list[k].op).n=10:=by rcases o with e|e<;>(rw[e];decide)
 unfold Bh at h;rw[if_neg Zht]at h;simp only[Bool.and_eq_true]at h;have h:=h.2;unfold EW at h;rw[if_neg Zht,if_neg Zht,if_pos e]at h;simp only[Bool.and_eq_true]at h;have hp:=h.1;unfold Av at hp;simp only[Bool.and_eq_true,decide_eq_true_eq]at hp;exact⟨c.list[k].n.toNat,oM,oM⟩
theorem QF(hc:(Ai c).1=0):∀j k (hj:j<c.list.length) (hk:k<c.list.length),c.list[j].op=33->c.list[k].op=32->c.list[j].n.toNat=c.list[k].n.toNat->c.list[j].n=c.list[k].n:=fun j k hj hk o1 o2 e=>by
 obtain⟨n,e1,-⟩:=Gu hc hj (.inr o1);obtain⟨m,e2,-⟩:=Gu hc hk (.inl o2);omega
theorem Vg(hc:(Ai c).1=0){k:Nat}(hk:k<c.list.length)(o:c.list[k].op=35\/c.list[k].op=37):∃b S,AE (c.list.take k)=b::S:=by
 obtain⟨h1,h2,h3⟩:=Bi.1 hc;obtain⟨t1,t2,t3,t4⟩:=Ao (Ck h2 hk);have hl:=Mi h2 (Nat.le_of_lt hk);have hne:(CZ ⟨[],[]⟩ (c.list.take k)).opens.isEmpty=false:=by
  generalize CZ ⟨[],[]⟩ (c.list.take k)=x at t3;obtain⟨X,O⟩:=x;unfold Az at t3;rw[if_neg oM]at t3;rcases o with e|e
  .exact Zex
  .exact Zeg
 cases hs:AE (c.list.take k)with
 |nil=>
  rw[hs]at hl;have:(CZ ⟨[],[]⟩ (c.list.take k)).opens=[]:=List.eq_nil_of_length_eq_zero hl.symm;rw[this]at hne;cases hne
 |cons b S=>exact⟨b,S,rfl⟩
end
def FF:List Nat->Int
 |[]=> -1
 |b::_=>(b:Int)
def IQ(l:List Ad)(p:Nat):Int:=FF (OY l p)
theorem PF(S:List Nat):(S.head?=none/\FF S= -1)\/∃b,S.head?=some b/\FF S=(b:Int):=by
 cases S with
 |nil=>exact .inl ⟨rfl,rfl⟩
 |cons b S=>exact .inr ⟨b,rfl,rfl⟩
section
variable {c : Cd}
theorem Zg(hc:(Ai c).1=0){k:Nat}(hk:k<c.list.length)(o:c.list[k].op=35\/c.list[k].op=37):∃b S,AE (c.list.take k)=b::S/\b<k/\IQ c.list b=FF S/\IQ c.list k=FF S/\CF c.list b k/\AE (c.list.take (k+1))=S:=by
 obtain⟨b,S,hs⟩:=Vg hc hk o;obtain⟨g1,g2⟩:=Ge k (Nat.le_of_lt hk) b S hs;obtain⟨hb,-,ob⟩:=DX c.list k (Nat.le_of_lt hk) b (by rw[hs];simp);refine⟨b,S,hs,g1,?_,?_,⟨hk,o,by rw[hs];rfl⟩,?_⟩
 .unfold IQ;rw[F8 hb,if_neg oM,g2]
 .unfold IQ;rw[F8 hk,if_pos o,hs];rfl
 .rw[IF hk,if_neg oM,if_pos o,hs];rfl
theorem Zf{l:List Ad}{k:Nat}(hk:k<l.length)(o:l[k].op=34\/l[k].op=36):IQ l k=FF (AE (l.take k))/\FF (AE (l.take (k+1)))=(k:Int):=by
 constructor
 .unfold IQ;rw[F8 hk,if_neg oM]
 .rw[IF hk,if_pos o];rfl
theorem Zh{l:List Ad}{k:Nat}(hk:k<l.length)(o:¬ (l[k].op=34\/l[k].op=36))(o':¬ (l[k].op=35\/l[k].op=37)):IQ l k=FF (AE (l.take k))/\AE (l.take (k+1))=AE (l.take k):=by
 constructor
 .unfold IQ;rw[F8 hk,if_neg o']
 .rw[IF hk,if_neg o,if_neg o']
end
def XI(l:List Ad)(k r:Nat):List Nat:=(List.range k).filter fun k=>(l[k]?.map fun i=>Af i&&decide (i.d.toNat=r))==some true
def XW(l:List Ad)(k r:Nat):List Nat:=(List.range k).filter fun k=>(l[k]?.map fun i=>decide (i.op=33)&&decide (i.n.toNat=r))==some true
theorem Md{l:List Ad}{k:Nat}(hk:k<l.length)(r:Nat):XI l (k+1) r=XI l k r++(if Af l[k]=true/\l[k].d.toNat=r then [k]else []):=by
 unfold XI;rw[List.range_succ,List.filter_append];congr 1;simp only[List.filter_cons,List.filter_nil,gB hk];by_cases h1:Af l[k]=true<;>by_cases h2:l[k].d.toNat=r<;>simp[h1,h2]
theorem Mj{l:List Ad}{k:Nat}(hk:k<l.length)(r:Nat):XW l (k+1) r=XW l k r++(if l[k].op=33/\l[k].n.toNat=r then [k]else []):=by
 unfold XW;rw[List.range_succ,List.filter_append];congr 1;simp only[List.filter_cons,List.filter_nil,gB hk];by_cases h1:l[k].op=33<;>by_cases h2:l[k].n.toNat=r<;>simp[h1,h2]
structure UD(l:List Ad)(q:Sr):Prop where
 si:SI l q []
 par:Em l q
 out:∀k (hk:k<l.length),l[k].op=31->q.nd k=true
def sr0:Sr:=⟨fun _=>false,[],fun _=>false,fun _=>false⟩
def FK(l:List Ad):Nat->Sr
 |0=>sr0
 |k+1=>match l[k]? with
  |some i=>if i.op=31 then need1 (FK l k) k else FK l k
  |none=>FK l k
theorem Oa{l:List Ad}{k:Nat}(hk:k<l.length)(o:l[k].op=31):FK l (k+1)=need1 (FK l k) k:=by
 rw[FK,gB hk];exact if_pos o
theorem RC{l:List Ad}{k:Nat}(hk:k<l.length)(o:l[k].op≠31):FK l (k+1)=FK l k:=by
 rw[FK,gB hk];exact if_neg o
theorem MT{l:List Ad}:∀k,k<=l.length->SI l (FK l k) []/\Em l (FK l k)/\(∀j (hj:j<l.length),j<k->l[j].op=31->(FK l k).nd j=true)/\CA l (FK l k)=l.length:=by
 intro k;induction k with
 |zero=>
  intro _;refine⟨⟨fun p h=>Yr,fun p h=>Yr,fun p h=>Yr,fun r h=>Yr,fun r h=>Yr⟩,fun b k _=>rfl,fun j _ h=>by omega,?_⟩;unfold CA FK sr0;simp only[Bool.not_false,List.length_nil,Nat.add_zero];rw[List.filter_eq_self.2 (fun _ _=>rfl),List.length_range]
 |succ k ih=>
  intro hk;have hkl:k<l.length:=oM;obtain⟨h1,h2,h3,h4⟩:=ih oM;by_cases o:l[k].op=31
  .rw[Oa hkl o];refine⟨h1.need1 hkl (.out hkl o),?_,fun j hj hlt oj=>(Ee _ _ _).2 ?_,(Kz _ hkl).trans h4⟩
   .exact h2.other (ps:=[k]) (fun p hp=>by simp only[List.mem_singleton]at hp;subst hp;exact⟨hkl,oM⟩)
   .by_cases e:j=k
    .exact .inr e
    .exact .inl (h3 j hj oM oj)
  .rw[RC hkl o];refine⟨h1,h2,fun j hj hlt oj=>?_,h4⟩;by_cases e:j=k
   .subst e;exact absurd oj o
   .exact h3 j hj oM oj
theorem UD.begun(l:List Ad):UD l (FK l l.length):=by
 obtain⟨h1,h2,h3,-⟩:=MT (l:=l) l.length (gF _);exact⟨h1,h2,fun k hk o=>h3 k hk hk o⟩
theorem UD.next{c:Cd}(hc:(Ai c).1=0){q:Sr}(h:UD c.list q){t:List Nat}{p:Nat}(ht:q.todo=t++[p]):∃hp:p<c.list.length,UD c.list (goQ c.list {q with todo:=t} p c.list[p])/\CA c.list (goQ c.list {q with todo:=t} p c.list[p])+1=CA c.list q:=by
 have hp:p<c.list.length:=(h.si.snd p (h.si.tod p (by rw[ht];simp))).1;obtain⟨a1,a2,a3,a4⟩:=YY (Sn hc) (O0 hc) (QF hc) h.si h.par ht hp;exact⟨hp,⟨a1,a2,fun k hk o=>a4 k (h.out k hk o)⟩,a3⟩
theorem UD.done{l:List Ad}{q:Sr}(h:UD l q)(ht:q.todo=[])(p:Nat):q.nd p=ndK l p:=Ua h.si ht h.par h.out p
theorem SV{T:Nat->Prop}(p0 p1 p2 p3 p5 p6 p7 p8:Option Addr)(n0 q0 n1 q1 n2 q2 n3 q3 n5 q5 n6 q6 n7 q7 n8 q8:Nat)(ct:Int)(pr:Option Addr)(qr:Nat)(X:List Cl)(N:Nat)(hN:X.length=N)(hX:N<=16384)(nn bt:Int)(kd ka kb kk:Nat)(hd:kd<N)(w:World)(hT:∀b,T b->b<w.heap.size)(hcs:AT T w (.slice pr N qr) X)(xa:Cl)(hxa:X[ka]? =some xa)(hw:0<=xa.h.whole/\xa.h.whole<=2147483647):
 Calls prog 43 #[.agg #[(.slice p0 n0 q0),(.slice p1 n1 q1),(.slice p2 n2 q2),(.slice p3 n3 q3),.slice pr N qr,(.slice p5 n5 q5),(.slice p6 n6 q6),(.slice p7 n7 q7),(.slice p8 n8 q8),(.int .i64 ct)],.agg #[.int .i64 17,.int .i64 (kd:Int),.int .i64 (ka:Int),.int .i64 (kb:Int),.int .i64 (kk:Int),.int .i64 nn,.int .u32 bt]] w fun e w'=>∃p9 q9 x,e=.returned (.agg #[(.slice p0 n0 q0),(.slice p1 n1 q1),(.slice p2 n2 q2),(.slice p3 n3 q3),.slice p9 N q9,(.slice p5 n5 q5),(.slice p6 n6 q6),(.slice p7 n7 q7),(.slice p8 n8 q8),(.int .i64 ct)])/\x.h=⟨[GG xa.h.whole],0⟩/\AT T w' (.slice p9 N q9) (X.set kd x)/\Below w.heap.size w w':=by
 have HPUT:Hid (∀v F I D (x:Cl),DW w F I D v->B6 (T2 w T) v x.p x.h.pats->Calls prog 70 #[.slice pr N qr,.int .i64 (kd:Int),.agg #[.slice x.p x.h.pats.length x.q,.int .i64 x.h.whole]] v fun e w'=>∃p q,e=.returned (.slice p N q)/\AT (T2 w T) w' (.slice p N q) (X.set kd x)/\Below v.heap.size v w'):=BT (.slice pr N qr) X hN hX kd hd w hT hcs;have HT2:Hid (∀v:World,w.heap.size+1+1+1<v.heap.size->∀b,T2 w T b->b<v.heap.size):=fun v hv b hb=>Dl hT hb hv;have HXA:Hid (X[ka]? =some xa):=hxa;obtain⟨hal,hax⟩:=List.getElem?_eq_some_iff.1 hxa;obtain⟨rb,ro,rfl,hca⟩:=hcs.row.row.at hal;rw[hax]at hca;have x0:w.cell? ⟨rb,ro+ka*2,none⟩=some (.slice xa.p xa.h.pats.length xa.q):=hca.at 0 rfl;have x1:w.cell? ⟨rb,ro+ka*2+1,none⟩=some (.int .i64 xa.h.whole):=hca.at 1 rfl;have ha0:(0:Int)<=(ka:Int):=oM;have ha1:(ka:Int)<(N:Int):=oM;have hrb1:¬rb=w.heap.size:=by have:=A8 x0;intro e;simp only at this;omega
 have hrb2:¬rb=w.heap.size+1+1+1:=by have:=A8 x0;intro e;simp only at this;omega
 have HKF:Hid (∀v,Calls prog 64 #[.int .i64 xa.h.whole] v fun e w'=>e=.returned (.int .i64 (GG xa.h.whole))/\w'=v):=fun v=>TQ _ oM oM v;have HD0:Hid (DW w (D5 (.slice p0 n0 q0) (.slice p1 n1 q1) (.slice p2 n2 q2) (.slice p3 n3 q3) (.slice (some ⟨rb,ro,none⟩) N qr) (.slice p5 n5 q5) (.slice p6 n6 q6) (.slice p7 n7 q7) (.slice p8 n8 q8) (.int .i64 ct)) (f7 (.int .i64 17) (.int .i64 (kd:Int)) (.int .i64 (ka:Int)) (.int .i64 (kb:Int)) (.int .i64 (kk:Int)) (.int .i64 nn) (.int .u32 bt)) (f2 (.slice none 0 0) (.int .i64 0)) _):=DW.start w (.slice p0 n0 q0) (.slice p1 n1 q1) (.slice p2 n2 q2) (.slice p3 n3 q3) (.slice (some ⟨rb,ro,none⟩) N qr) (.slice p5 n5 q5) (.slice p6 n6 q6) (.slice p7 n7 q7) (.slice p8 n8 q8) (.int .i64 ct) (.int .i64 17) (.int .i64 (kd:Int)) (.int .i64 (ka:Int)) (.int .i64 (kb:Int)) (.int .i64 (kk:Int)) (.int .i64 nn) (.int .u32 bt);clear hT hcs hN hxa hca hal hax;go_enter func43,ntmps43;go_upto_block 0 with fail;go_cut [] (fun wx=>∃x:Cl,Hid (x.h=⟨[GG xa.h.whole],0⟩)/\Hid (DW w (D5 (.slice p0 n0 q0) (.slice p1 n1 q1) (.slice p2 n2 q2) (.slice p3 n3 q3) (.slice (some ⟨rb,ro,none⟩) N qr) (.slice p5 n5 q5) (.slice p6 n6 q6) (.slice p7 n7 q7) (.slice p8 n8 q8) (.int .i64 ct)) (f7 (.int .i64 17) (.int .i64 (kd:Int)) (.int .i64 (ka:Int)) (.int .i64 (kb:Int)) (.int .i64 (kk:Int)) (.int .i64 nn) (.int .u32 bt)) (f2 (.slice x.p x.h.pats.length x.q) (.int .i64 x.h.whole)) wx)/\Hid (B6 (T2 w T) wx x.p x.h.pats))
 case first=>
  obtain⟨W,hW⟩:=gA (((((w.alloc (.cells #[(.slice p0 n0 q0),(.slice p1 n1 q1),(.slice p2 n2 q2),(.slice p3 n3 q3),.slice (some ⟨rb,ro,none⟩) N qr,(.slice p5 n5 q5),(.slice p6 n6 q6),(.slice p7 n7 q7),(.slice p8 n8 q8),(.int .i64 ct)] 110)).alloc (.cells #[.int .i64 17,.int .i64 (kd:Int),.int .i64 (ka:Int),.int .i64 (kb:Int),.int .i64 (kk:Int),.int .i64 nn,.int .u32 bt] 40)).alloc (.cells #[.slice none 0 0,.slice none 0 0,.slice none 0 0,.slice none 0 0,.slice none 0 0,.slice none 0 0,.slice none 0 0,.slice none 0 0,.slice none 0 0,.int .i64 0] 110)).alloc (.cells #[.slice none 0 0,.int .i64 0] 74)))
  rw[hW]at HD0;rw[hW];clear hW;have hsz:=HD0.out.size;have f0:W.cell? ⟨w.heap.size,4,none⟩=some (.slice (some ⟨rb,ro,none⟩) N qr):=HD0.out.f.cell (i:=4) dE;have i0:W.cell? ⟨w.heap.size+1,0,none⟩=some (.int .i64 17):=HD0.out.i.cell (i:=0) dE;have i1:W.cell? ⟨w.heap.size+1,1,none⟩=some (.int .i64 (kd:Int)):=HD0.out.i.cell (i:=1) dE;have i2:W.cell? ⟨w.heap.size+1,2,none⟩=some (.int .i64 (ka:Int)):=HD0.out.i.cell (i:=2) dE;have i3:W.cell? ⟨w.heap.size+1,3,none⟩=some (.int .i64 (kb:Int)):=HD0.out.i.cell (i:=3) dE;have i4:W.cell? ⟨w.heap.size+1,4,none⟩=some (.int .i64 (kk:Int)):=HD0.out.i.cell (i:=4) dE;have i5:W.cell? ⟨w.heap.size+1,5,none⟩=some (.int .i64 nn):=HD0.out.i.cell (i:=5) dE;have i6:W.cell? ⟨w.heap.size+1,6,none⟩=some (.int .u32 bt):=HD0.out.i.cell (i:=6) dE;have d0:W.cell? ⟨w.heap.size+1+1+1,0,none⟩=some (.slice none 0 0):=HD0.out.d.cell (i:=0) dE;have d1:W.cell? ⟨w.heap.size+1+1+1,1,none⟩=some (.int .i64 0):=HD0.out.d.cell (i:=1) dE;have z0:=HD0.out.d.frozen 0;have z1:=HD0.out.d.frozen 1;have x2:=kc HD0.out.bel x0;have x3:=kc HD0.out.bel x1;have d2:=fun o=>kc (A0 W o) d0;have z2:=fun o=>kf (A0 W o) d0 z0;go_wp2_with(go_at_call 64;(with_reducible refine(HKF.out _).mono ?_);rintro e w3 ⟨rfl,hw3⟩;obtain rfl:=hw3.symm);go_meet;exact⟨⟨some ⟨W.heap.size,0,none⟩,1,⟨[GG xa.h.whole],0⟩⟩,rfl,((HD0.out.put 0 _).next (A0 _ _)).congr (fun j hj=>by obtain rfl|rfl:j=0\/j=1:=oM;all_goals rfl),Rv HT2.out (HD0.out.size) _⟩
 case rest=>
  exact Zaa
theorem V8{T:Nat->Prop}(p0 p1 p2 p3 p5 p6 p7 p8:Option Addr)(n0 q0 n1 q1 n2 q2 n3 q3 n5 q5 n6 q6 n7 q7 n8 q8:Nat)(ct:Int)(pr:Option Addr)(qr:Nat)(X:List Cl)(N:Nat)(hN:X.length=N)(hX:N<=16384)(nn bt:Int)(kd ka kb kk:Nat)(hd:kd<N)(w:World)(hT:∀b,T b->b<w.heap.size)(hcs:AT T w (.slice pr N qr) X)(xa:Cl)(hxa:X[ka]? =some xa)(hp:∀y∈xa.h.pats,AH y)(hl:xa.h.pats.length<=4096):
 Calls prog 43 #[.agg #[(.slice p0 n0 q0),(.slice p1 n1 q1),(.slice p2 n2 q2),(.slice p3 n3 q3),.slice pr N qr,(.slice p5 n5 q5),(.slice p6 n6 q6),(.slice p7 n7 q7),(.slice p8 n8 q8),(.int .i64 ct)],.agg #[.int .i64 19,.int .i64 (kd:Int),.int .i64 (ka:Int),.int .i64 (kb:Int),.int .i64 (kk:Int),.int .i64 nn,.int .u32 bt]] w fun e w'=>∃p9 q9 x,e=.returned (.agg #[(.slice p0 n0 q0),(.slice p1 n1 q1),(.slice p2 n2 q2),(.slice p3 n3 q3),.slice p9 N q9,(.slice p5 n5 q5),(.slice p6 n6 q6),(.slice p7 n7 q7),(.slice p8 n8 q8),(.int .i64 ct)])/\x.h=⟨[L5 (CH xa.h.pats) xa.h.pats.length],0⟩/\AT T w' (.slice p9 N q9) (X.set kd x)/\Below w.heap.size w w':=by
 have HPUT:Hid (∀v F I D (x:Cl),DW w F I D v->B6 (T2 w T) v x.p x.h.pats->Calls prog 70 #[.slice pr N qr,.int .i64 (kd:Int),.agg #[.slice x.p x.h.pats.length x.q,.int .i64 x.h.whole]] v fun e w'=>∃p q,e=.returned (.slice p N q)/\AT (T2 w T) w' (.slice p N q) (X.set kd x)/\Below v.heap.size v w'):=BT (.slice pr N qr) X hN hX kd hd w hT hcs;have HT2:Hid (∀v:World,w.heap.size+1+1+1<v.heap.size->∀b,T2 w T b->b<v.heap.size):=fun v hv b hb=>Dl hT hb hv;have HXA:Hid (X[ka]? =some xa):=hxa;obtain⟨hal,hax⟩:=List.getElem?_eq_some_iff.1 hxa;obtain⟨rb,ro,rfl,hca⟩:=hcs.row.row.at hal;rw[hax]at hca;have x0:w.cell? ⟨rb,ro+ka*2,none⟩=some (.slice xa.p xa.h.pats.length xa.q):=hca.at 0 rfl;have x1:w.cell? ⟨rb,ro+ka*2+1,none⟩=some (.int .i64 xa.h.whole):=hca.at 1 rfl;have ha0:(0:Int)<=(ka:Int):=oM;have ha1:(ka:Int)<(N:Int):=oM;have hrb1:¬rb=w.heap.size:=by have:=A8 x0;intro e;simp only at this;omega
 have hrb2:¬rb=w.heap.size+1+1+1:=by have:=A8 x0;intro e;simp only at this;omega
 have hna:=(hcs.nums xa (List.mem_of_getElem? hxa)).num;have HKF:Hid (∀v,Below w.heap.size w v->Calls prog 66 #[.slice xa.p xa.h.pats.length xa.q] v fun e w'=>e=.returned (.int .i64 (L5 (CH xa.h.pats) xa.h.pats.length))/\Below v.heap.size v w'):=fun v hb=>Ux xa.p xa.h.pats.length xa.q (CH xa.h.pats) (CS hp) oM v (hna.below hb);have HD0:Hid (DW w (D5 (.slice p0 n0 q0) (.slice p1 n1 q1) (.slice p2 n2 q2) (.slice p3 n3 q3) (.slice (some ⟨rb,ro,none⟩) N qr) (.slice p5 n5 q5) (.slice p6 n6 q6) (.slice p7 n7 q7) (.slice p8 n8 q8) (.int .i64 ct)) (f7 (.int .i64 19) (.int .i64 (kd:Int)) (.int .i64 (ka:Int)) (.int .i64 (kb:Int)) (.int .i64 (kk:Int)) (.int .i64 nn) (.int .u32 bt)) (f2 (.slice none 0 0) (.int .i64 0)) _):=DW.start w (.slice p0 n0 q0) (.slice p1 n1 q1) (.slice p2 n2 q2) (.slice p3 n3 q3) (.slice (some ⟨rb,ro,none⟩) N qr) (.slice p5 n5 q5) (.slice p6 n6 q6) (.slice p7 n7 q7) (.slice p8 n8 q8) (.int .i64 ct) (.int .i64 19) (.int .i64 (kd:Int)) (.int .i64 (ka:Int)) (.int .i64 (kb:Int)) (.int .i64 (kk:Int)) (.int .i64 nn) (.int .u32 bt);clear hT hcs hN hxa hca hal hax hna hp;go_enter func43,ntmps43;go_upto_block 0 with fail;go_cut [] (fun wx=>∃x:Cl,Hid (x.h=⟨[L5 (CH xa.h.pats) xa.h.pats.length],0⟩)/\Hid (DW w (D5 (.slice p0 n0 q0) (.slice p1 n1 q1) (.slice p2 n2 q2) (.slice p3 n3 q3) (.slice (some ⟨rb,ro,none⟩) N qr) (.slice p5 n5 q5) (.slice p6 n6 q6) (.slice p7 n7 q7) (.slice p8 n8 q8) (.int .i64 ct)) (f7 (.int .i64 19) (.int .i64 (kd:Int)) (.int .i64 (ka:Int)) (.int .i64 (kb:Int)) (.int .i64 (kk:Int)) (.int .i64 nn) (.int .u32 bt)) (f2 (.slice x.p x.h.pats.length x.q) (.int .i64 x.h.whole)) wx)/\Hid (B6 (T2 w T) wx x.p x.h.pats))
 case first=>
  obtain⟨W,hW⟩:=gA (((((w.alloc (.cells #[(.slice p0 n0 q0),(.slice p1 n1 q1),(.slice p2 n2 q2),(.slice p3 n3 q3),.slice (some ⟨rb,ro,none⟩) N qr,(.slice p5 n5 q5),(.slice p6 n6 q6),(.slice p7 n7 q7),(.slice p8 n8 q8),(.int .i64 ct)] 110)).alloc (.cells #[.int .i64 19,.int .i64 (kd:Int),.int .i64 (ka:Int),.int .i64 (kb:Int),.int .i64 (kk:Int),.int .i64 nn,.int .u32 bt] 40)).alloc (.cells #[.slice none 0 0,.slice none 0 0,.slice none 0 0,.slice none 0 0,.slice none 0 0,.slice none 0 0,.slice none 0 0,.slice none 0 0,.slice none 0 0,.int .i64 0] 110)).alloc (.cells #[.slice none 0 0,.int .i64 0] 74)))
  rw[hW]at HD0;rw[hW];clear hW;have hsz:=HD0.out.size;have f0:W.cell? ⟨w.heap.size,4,none⟩=some (.slice (some ⟨rb,ro,none⟩) N qr):=HD0.out.f.cell (i:=4) dE;have i0:W.cell? ⟨w.heap.size+1,0,none⟩=some (.int .i64 19):=HD0.out.i.cell (i:=0) dE;have i1:W.cell? ⟨w.heap.size+1,1,none⟩=some (.int .i64 (kd:Int)):=HD0.out.i.cell (i:=1) dE;have i2:W.cell? ⟨w.heap.size+1,2,none⟩=some (.int .i64 (ka:Int)):=HD0.out.i.cell (i:=2) dE;have i3:W.cell? ⟨w.heap.size+1,3,none⟩=some (.int .i64 (kb:Int)):=HD0.out.i.cell (i:=3) dE;have i4:W.cell? ⟨w.heap.size+1,4,none⟩=some (.int .i64 (kk:Int)):=HD0.out.i.cell (i:=4) dE;have i5:W.cell? ⟨w.heap.size+1,5,none⟩=some (.int .i64 nn):=HD0.out.i.cell (i:=5) dE;have i6:W.cell? ⟨w.heap.size+1,6,none⟩=some (.int .u32 bt):=HD0.out.i.cell (i:=6) dE;have d0:W.cell? ⟨w.heap.size+1+1+1,0,none⟩=some (.slice none 0 0):=HD0.out.d.cell (i:=0) dE;have d1:W.cell? ⟨w.heap.size+1+1+1,1,none⟩=some (.int .i64 0):=HD0.out.d.cell (i:=1) dE;have z0:=HD0.out.d.frozen 0;have z1:=HD0.out.d.frozen 1;have x2:=kc HD0.out.bel x0;have x3:=kc HD0.out.bel x1;go_wp2_with(go_at_call 66;(with_reducible refine(HKF.out _ HD0.out.bel).mono ?_);rintro e w3 ⟨rfl,hb3⟩;have HD3:Hid (DW w (D5 (.slice p0 n0 q0) (.slice p1 n1 q1) (.slice p2 n2 q2) (.slice p3 n3 q3) (.slice (some ⟨rb,ro,none⟩) N qr) (.slice p5 n5 q5) (.slice p6 n6 q6) (.slice p7 n7 q7) (.slice p8 n8 q8) (.int .i64 ct)) _ _ w3):=HD0.out.next hb3;clear hb3 d0 d1 z0 z1;have d0:w3.cell? ⟨w.heap.size+1+1+1,0,none⟩=some (.slice none 0 0):=HD3.out.d.cell (i:=0) dE;have d1:w3.cell? ⟨w.heap.size+1+1+1,1,none⟩=some (.int .i64 0):=HD3.out.d.cell (i:=1) dE;have z0:=HD3.out.d.frozen 0;have z1:=HD3.out.d.frozen 1;have d2:=(fun o=>kc (A0 w3 o) d0);have z2:=(fun o=>kf (A0 w3 o) d0 z0));go_meet;exact⟨⟨some ⟨w3.heap.size,0,none⟩,1,⟨[L5 (CH xa.h.pats) xa.h.pats.length],0⟩⟩,rfl,((HD3.out.next (A0 _ _)).put 0 _).congr (fun j hj=>by obtain rfl|rfl:j=0\/j=1:=oM;all_goals rfl),JY HT2.out (HD3.out.size) _⟩
 case rest=>
  exact Zaa
theorem Pn{T:Nat->Prop}(p0 p1 p2 p3 p5 p6 p7 p8:Option Addr)(n0 q0 n1 q1 n2 q2 n3 q3 n5 q5 n6 q6 n7 q7 n8 q8:Nat)(ct:Int)(pr:Option Addr)(qr:Nat)(X:List Cl)(N:Nat)(hN:X.length=N)(hX:N<=16384)(nn bt:Int)(kd ka kb kk:Nat)(hd:kd<N)(w:World)(hT:∀b,T b->b<w.heap.size)(hcs:AT T w (.slice pr N qr) X)(xa:Cl)(hxa:X[ka]? =some xa)(hp:∀y∈xa.h.pats,AH y)(hl:xa.h.pats.length<=4096):
 Calls prog 43 #[.agg #[(.slice p0 n0 q0),(.slice p1 n1 q1),(.slice p2 n2 q2),(.slice p3 n3 q3),.slice pr N qr,(.slice p5 n5 q5),(.slice p6 n6 q6),(.slice p7 n7 q7),(.slice p8 n8 q8),(.int .i64 ct)],.agg #[.int .i64 20,.int .i64 (kd:Int),.int .i64 (ka:Int),.int .i64 (kb:Int),.int .i64 (kk:Int),.int .i64 nn,.int .u32 bt]] w fun e w'=>∃p9 q9 x,e=.returned (.agg #[(.slice p0 n0 q0),(.slice p1 n1 q1),(.slice p2 n2 q2),(.slice p3 n3 q3),.slice p9 N q9,(.slice p5 n5 q5),(.slice p6 n6 q6),(.slice p7 n7 q7),(.slice p8 n8 q8),(.int .i64 ct)])/\x.h=⟨[EP (CH xa.h.pats) xa.h.pats.length],0⟩/\AT T w' (.slice p9 N q9) (X.set kd x)/\Below w.heap.size w w':=by
 have HPUT:Hid (∀v F I D (x:Cl),DW w F I D v->B6 (T2 w T) v x.p x.h.pats->Calls prog 70 #[.slice pr N qr,.int .i64 (kd:Int),.agg #[.slice x.p x.h.pats.length x.q,.int .i64 x.h.whole]] v fun e w'=>∃p q,e=.returned (.slice p N q)/\AT (T2 w T) w' (.slice p N q) (X.set kd x)/\Below v.heap.size v w'):=BT (.slice pr N qr) X hN hX kd hd w hT hcs;have HT2:Hid (∀v:World,w.heap.size+1+1+1<v.heap.size->∀b,T2 w T b->b<v.heap.size):=fun v hv b hb=>Dl hT hb hv;have HXA:Hid (X[ka]? =some xa):=hxa;obtain⟨hal,hax⟩:=List.getElem?_eq_some_iff.1 hxa;obtain⟨rb,ro,rfl,hca⟩:=hcs.row.row.at hal;rw[hax]at hca;have x0:w.cell? ⟨rb,ro+ka*2,none⟩=some (.slice xa.p xa.h.pats.length xa.q):=hca.at 0 rfl;have x1:w.cell? ⟨rb,ro+ka*2+1,none⟩=some (.int .i64 xa.h.whole):=hca.at 1 rfl;have ha0:(0:Int)<=(ka:Int):=oM;have ha1:(ka:Int)<(N:Int):=oM;have hrb1:¬rb=w.heap.size:=by have:=A8 x0;intro e;simp only at this;omega
 have hrb2:¬rb=w.heap.size+1+1+1:=by have:=A8 x0;intro e;simp only at this;omega
 have hna:=(hcs.nums xa (List.mem_of_getElem? hxa)).num;have HKF:Hid (∀v,Below w.heap.size w v->Calls prog 67 #[.slice xa.p xa.h.pats.length xa.q] v fun e w'=>e=.returned (.int .i64 (EP (CH xa.h.pats) xa.h.pats.length))/\Below v.heap.size v w'):=fun v hb=>Qn xa.p xa.h.pats.length xa.q (CH xa.h.pats) (CS hp) oM v (hna.below hb);have HD0:Hid (DW w (D5 (.slice p0 n0 q0) (.slice p1 n1 q1) (.slice p2 n2 q2) (.slice p3 n3 q3) (.slice (some ⟨rb,ro,none⟩) N qr) (.slice p5 n5 q5) (.slice p6 n6 q6) (.slice p7 n7 q7) (.slice p8 n8 q8) (.int .i64 ct)) (f7 (.int .i64 20) (.int .i64 (kd:Int)) (.int .i64 (ka:Int)) (.int .i64 (kb:Int)) (.int .i64 (kk:Int)) (.int .i64 nn) (.int .u32 bt)) (f2 (.slice none 0 0) (.int .i64 0)) _):=DW.start w (.slice p0 n0 q0) (.slice p1 n1 q1) (.slice p2 n2 q2) (.slice p3 n3 q3) (.slice (some ⟨rb,ro,none⟩) N qr) (.slice p5 n5 q5) (.slice p6 n6 q6) (.slice p7 n7 q7) (.slice p8 n8 q8) (.int .i64 ct) (.int .i64 20) (.int .i64 (kd:Int)) (.int .i64 (ka:Int)) (.int .i64 (kb:Int)) (.int .i64 (kk:Int)) (.int .i64 nn) (.int .u32 bt);clear hT hcs hN hxa hca hal hax hna hp;go_enter func43,ntmps43;go_upto_block 0 with fail;go_cut [] (fun wx=>∃x:Cl,Hid (x.h=⟨[EP (CH xa.h.pats) xa.h.pats.length],0⟩)/\Hid (DW w (D5 (.slice p0 n0 q0) (.slice p1 n1 q1) (.slice p2 n2 q2) (.slice p3 n3 q3) (.slice (some ⟨rb,ro,none⟩) N qr) (.slice p5 n5 q5) (.slice p6 n6 q6) (.slice p7 n7 q7) (.slice p8 n8 q8) (.int .i64 ct)) (f7 (.int .i64 20) (.int .i64 (kd:Int)) (.int .i64 (ka:Int)) (.int .i64 (kb:Int)) (.int .i64 (kk:Int)) (.int .i64 nn) (.int .u32 bt)) (f2 (.slice x.p x.h.pats.length x.q) (.int .i64 x.h.whole)) wx)/\Hid (B6 (T2 w T) wx x.p x.h.pats))
 case first=>
  obtain⟨W,hW⟩:=gA (((((w.alloc (.cells #[(.slice p0 n0 q0),(.slice p1 n1 q1),(.slice p2 n2 q2),(.slice p3 n3 q3),.slice (some ⟨rb,ro,none⟩) N qr,(.slice p5 n5 q5),(.slice p6 n6 q6),(.slice p7 n7 q7),(.slice p8 n8 q8),(.int .i64 ct)] 110)).alloc (.cells #[.int .i64 20,.int .i64 (kd:Int),.int .i64 (ka:Int),.int .i64 (kb:Int),.int .i64 (kk:Int),.int .i64 nn,.int .u32 bt] 40)).alloc (.cells #[.slice none 0 0,.slice none 0 0,.slice none 0 0,.slice none 0 0,.slice none 0 0,.slice none 0 0,.slice none 0 0,.slice none 0 0,.slice none 0 0,.int .i64 0] 110)).alloc (.cells #[.slice none 0 0,.int .i64 0] 74)))
  rw[hW]at HD0;rw[hW];clear hW;have hsz:=HD0.out.size;have f0:W.cell? ⟨w.heap.size,4,none⟩=some (.slice (some ⟨rb,ro,none⟩) N qr):=HD0.out.f.cell (i:=4) dE;have i0:W.cell? ⟨w.heap.size+1,0,none⟩=some (.int .i64 20):=HD0.out.i.cell (i:=0) dE;have i1:W.cell? ⟨w.heap.size+1,1,none⟩=some (.int .i64 (kd:Int)):=HD0.out.i.cell (i:=1) dE;have i2:W.cell? ⟨w.heap.size+1,2,none⟩=some (.int .i64 (ka:Int)):=HD0.out.i.cell (i:=2) dE;have i3:W.cell? ⟨w.heap.size+1,3,none⟩=some (.int .i64 (kb:Int)):=HD0.out.i.cell (i:=3) dE;have i4:W.cell? ⟨w.heap.size+1,4,none⟩=some (.int .i64 (kk:Int)):=HD0.out.i.cell (i:=4) dE;have i5:W.cell? ⟨w.heap.size+1,5,none⟩=some (.int .i64 nn):=HD0.out.i.cell (i:=5) dE;have i6:W.cell? ⟨w.heap.size+1,6,none⟩=some (.int .u32 bt):=HD0.out.i.cell (i:=6) dE;have d0:W.cell? ⟨w.heap.size+1+1+1,0,none⟩=some (.slice none 0 0):=HD0.out.d.cell (i:=0) dE;have d1:W.cell? ⟨w.heap.size+1+1+1,1,none⟩=some (.int .i64 0):=HD0.out.d.cell (i:=1) dE;have z0:=HD0.out.d.frozen 0;have z1:=HD0.out.d.frozen 1;have x2:=kc HD0.out.bel x0;have x3:=kc HD0.out.bel x1;go_wp2_with(go_at_call 67;(with_reducible refine(HKF.out _ HD0.out.bel).mono ?_);rintro e w3 ⟨rfl,hb3⟩;have HD3:Hid (DW w (D5 (.slice p0 n0 q0) (.slice p1 n1 q1) (.slice p2 n2 q2) (.slice p3 n3 q3) (.slice (some ⟨rb,ro,none⟩) N qr) (.slice p5 n5 q5) (.slice p6 n6 q6) (.slice p7 n7 q7) (.slice p8 n8 q8) (.int .i64 ct)) _ _ w3):=HD0.out.next hb3;clear hb3 d0 d1 z0 z1;have d0:w3.cell? ⟨w.heap.size+1+1+1,0,none⟩=some (.slice none 0 0):=HD3.out.d.cell (i:=0) dE;have d1:w3.cell? ⟨w.heap.size+1+1+1,1,none⟩=some (.int .i64 0):=HD3.out.d.cell (i:=1) dE;have z0:=HD3.out.d.frozen 0;have z1:=HD3.out.d.frozen 1;have d2:=(fun o=>kc (A0 w3 o) d0);have z2:=(fun o=>kf (A0 w3 o) d0 z0));go_meet;exact⟨⟨some ⟨w3.heap.size,0,none⟩,1,⟨[EP (CH xa.h.pats) xa.h.pats.length],0⟩⟩,rfl,((HD3.out.next (A0 _ _)).put 0 _).congr (fun j hj=>by obtain rfl|rfl:j=0\/j=1:=oM;all_goals rfl),JY HT2.out (HD3.out.size) _⟩
 case rest=>
  exact Zaa
section
variable {c : Cd} {G P : List (List Int)} {f f' : Fr} {i i' : Ad}
end
end Go.Proofs.YtnbccaicijcklaaGreat
