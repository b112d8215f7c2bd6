import Derived.Test.YtbinohkcolcbfaaGreatClon8
import Derived.Test.YtbinohkcolcbfaaGreatClon10
import Derived.Test.YtbinohkcolcbfaaGreatClon11
import Derived.Test.YtbinohkcolcbfaaGreatClon5
import Derived.Test.YtbinohkcolcbfaaGreatClon2
import Derived.Shelf.Abstract
import Derived.Maps.AppendAt
import Derived.Laws.AppendOwnNone
import Derived.Deep.RegionHeld3
import Derived.Laws.EntriesVeiled
import Derived.Test.YtbinohkcolcbfaaGreatClon1
namespace Go.Proofs.YtbinohkcolcbfaaGreat
open Go.RowKit Go.Proofs.Tryz
set_option linter.all false
set_option maxRecDepth 100000
set_option maxHeartbeats 16000000
def Ag(a:Int):Prop:=0<=a/\a<4294967296
theorem CV(a:Int)(h:Ag a):Ag (canon a):=Dy a h.1 h.2
theorem L7(a b:Int):Ag (CC a b):=Pv a b
theorem X5(a b:Int):Ag (Is a b):=WC a b
theorem WW(a b:Int):Ag (DR a b):=Dn a b
theorem WU(a b:Int):Ag (EF a b):=Wx a b
theorem TF(a:Int):Ag (Cv a):=To a
theorem WY(a:Int)(h:Ag a):Ag (Ge a):=Px a h.1 h.2
theorem WT(a:Int)(h:Ag a):Ag (NY a):=Dy _ (by have:=h.1;omega) (by have:=h.1;omega)
theorem I7(a b:Int)(h:Ag a)(k:Ag b):Ag (FK a b):=by
 have h1:=h.1;have h2:=h.2;have k1:=k.1;have k2:=k.2;unfold Ag FK;split
 ·decide
 ·exact h
 ·exact k
 ·split
  ·exact h
  ·exact k
theorem WV(a b:Int)(h:Ag a)(k:Ag b):Ag (Gd a b):=by
 have h1:=h.1;have h2:=h.2;have k1:=k.1;have k2:=k.2;unfold Ag Gd;split
 ·decide
 ·exact k
 ·exact h
 ·split
  ·exact k
  ·exact h
theorem WZ(c a b:Int)(h:Ag a)(k:Ag b):Ag (FY c a b):=by
 unfold FY;split
 ·exact CV b k
 ·exact CV a h
def Gf(f:Int->Int->Int)(s:Int)(X:Nat->Int):Nat->Int
 |0=>s
 |n+1=>f (Gf f s X n) (X n)
theorem Ep{f:Int->Int->Int}(hf:∀a b,Ag a->Ag b->Ag (f a b)){s:Int}(hs:Ag s){X:Nat->Int}(hX:∀i,Ag (X i)):∀n,Ag (Gf f s X n)
 |0=>hs
 |n+1=>hf _ _ (Ep hf hs hX n) (hX n)
def Hw(X:Nat->Int)(n:Nat):Int:=Gf CC 0 X n
def Dj(X:Nat->Int)(n:Nat):Int:=Gf FK 2139095040 X n
theorem Gi:Ag 0:=by unfold Ag;decide
theorem X6(X:Nat->Int)(n:Nat)(hX:∀i,Ag (X i)):Ag (Hw X n):=Ep (fun _ _ _ _=>Pv _ _) Gi hX n
def BB(op:Int):Nat:=
 if op=3\/op=11\/op=12\/op=13\/op=14 then 1 else if op=4\/op=5\/op=6\/op=7\/op=8\/op=9\/op=10 then 2 else if op=15 then 3 else 0
def Hv(b:Bool):Int:=if b then 1065353216 else 0
theorem Ms(b:Bool):Ag (Hv b):=by unfold Ag Hv;cases b<;>decide
theorem Bx{c:Prop}[Decidable c]{a b:Int}(h:Ag a)(k:Ag b):Ag (if c then a else b):=by
 split
 ·exact h
 ·exact k
def CJ(op a b c:Int):Int:=
 if op=3 then canon a else if op=11 then Cv a else if op=12 then Ge a else if op=13 then NY a else if op=14 then Hv (NZ a)
 else if op=4 then CC a b else if op=5 then Is a b else if op=6 then DR a b else if op=7 then EF a b else if op=8 then FK a b else if op=9 then Gd a b
 else if op=10 then Hv (FP a b)else FY a b c
theorem L8(op a b c:Int)(ha:Ag a)(hb:Ag b)(hc:Ag c):Ag (CJ op a b c):=
 Bx (CV a ha) (Bx (TF a) (Bx (WY a ha) (Bx (WT a ha) (Bx (Ms _) (Bx (L7 a b) (Bx (X5 a b) (Bx (WW a b)
  (Bx (WU a b) (Bx (I7 a b ha hb) (Bx (WV a b ha hb) (Bx (Ms _) (WZ a b c hb hc))))))))))))
def Hr(k:Nat):Prop:=∀ (args:Array Value) (w:World),(callFunc k args).run prog w=.ok (.enter k args) w
theorem It(k:Nat)(hen:Hr k)(f:Int->Int->Int)(hf:∀a b,Ag a->Ag b->Ag (f a b))
 (hk:∀a b (v:World),Ag a->Ag b->Calls prog k #[.int .u32 a,.int .u32 b] v fun e v'=>e=.returned (.int .u32 (f a b))/\Below v.heap.size v v')
 (s:Int) (hs:Ag s) (p:Option Addr) (n c:Nat) (X:Nat->Int) (hX:∀i,Ag (X i)) (hn:n<=1048576) (w:World) (hp:AE w p n (fun i=>.int .u32 (X i))):
 Calls prog 141 #[.int .u32 s,.slice p n c,.func (.func k) #[] #[]] w fun e w'=>e=.returned (.int .u32 (Gf f s X n))/\Below w.heap.size w w':=by
 unfold Hr at hen;go_enter func141,ntmps141;go_wp2
 go_loopw [0,11] (fun sv iv wr=>Below w.heap.size w wr/\∃j:Nat,j<=n/\iv=.int .i64 j/\sv=.int .u32 (Gf f s X j)) (fun _ iv _=>n-(intOf iv).toNat)
 case atStart=>exact⟨Ch w,0,Nat.zero_le _,rfl,rfl⟩
 case round=>
  obtain⟨hb,j,hj,rfl,rfl⟩:=hrel;by_cases hlt:j<n
  ·rcases hp with hp|⟨b,o,rfl,hp⟩
   ·omega
   have hbl:b<w.heap.size:=Bp (hp j hlt);have h1:wr.cell? ⟨b,o+j,none⟩=some (.int .u32 (X j)):=(hb.cell hbl).trans (hp j hlt);have i1:(0:Int)<=(j:Int):=oM;have i2:(j:Int)<(n:Int):=oM;have hk1:=hk (Gf f s X j) (X j) wr (Ep hf hs hX j) (hX j);have HK:Hid (Calls prog k #[.int .u32 (Gf f s X j),.int .u32 (X j)] wr fun e v'=>e=.returned (.int .u32 (Gf f s X (j+1)))/\Below wr.heap.size wr v'):=hk1;clear hp hk hk1;go_wp2_with((with_reducible refine HK.out.mono ?_);rintro e w1 ⟨rfl,hb1⟩);exact Zeb
  ·have:j=n:=oM;subst this;clear hp hk;go_wp2;go_ret;exact⟨rfl,hb⟩
theorem Y5(p:Option Addr)(n c:Nat)(X:Nat->Int)(hX:∀i,Ag (X i))(hn:n<=1048576)(w:World)(hp:AE w p n (fun i=>.int .u32 (X i))):
 Calls prog 111 #[.slice p n c] w fun e w'=>e=.returned (.int .u32 (Hw X n))/\Below w.heap.size w w':=by
 go_enter func111,ntmps111;go_wp2_with(go_at_call 141;refine(It 142 (enters_of func142 kR rfl) CC (fun _ _ _ _=>L7 _ _) (fun a b v ha hb=>Pj a ha.1 ha.2 b hb.1 hb.2 v) 0 Gi _ _ _ X hX hn _ hp).mono ?_;rintro e w1 ⟨rfl,hb1⟩);go_ret;exact⟨rfl,hb1⟩
theorem Ri(p:Option Addr)(n c:Nat)(X:Nat->Int)(hX:∀i,Ag (X i))(hn:n<=1048576)(w:World)(hp:AE w p n (fun i=>.int .u32 (X i))):
 Calls prog 112 #[.slice p n c] w fun e w'=>e=.returned (.int .u32 (Dj X n))/\Below w.heap.size w w':=by
 go_enter func112,ntmps112;go_wp2_with(go_at_call 141;refine(It 143 (enters_of func143 kR rfl) FK I7 (fun a b v ha hb=>PF a ha.1 ha.2 b hb.1 hb.2 v) 2139095040 ZI _ _ _ X hX hn _ hp).mono ?_;rintro e w1 ⟨rfl,hb1⟩);go_ret;exact⟨rfl,hb1⟩
theorem Gc(k:Nat)(hen:Hr k)(cap:Array Value)(n:Nat)(Y:Nat->Int)(hn:n<=1048576)(w:World)
 (hk:∀ (i:Nat) (v:World),i<n->Below w.heap.size w v->Calls prog k (#[.int .i64 i]++cap) v fun e v'=>e=.returned (.int .u32 (Y i))/\Below v.heap.size v v'):
 Calls prog 99 #[.int .i64 n,.func (.func k) #[] cap] w fun e w'=>∃g,e=.returned (.slice (some ⟨g,0,none⟩) n n)/\w.heap.size<=g/\w'.rowIs g 43 n (fun i=>.int .u32 (Y i))/\Below w.heap.size w w':=by
 have hmk:=Lf n oM;unfold Hr at hen;go_enter func99,ntmps99;go_wp2
 go_loopw [11] (fun iv wr=>Below w.heap.size w wr/\∃j:Nat,j<=n/\iv=.int .i64 j/\Hid (wr.rowIs w.heap.size 43 n (fun i=>.int .u32 (if i<j then Y i else 0)))) (fun iv _=>n-(intOf iv).toNat)
 case atStart=>exact⟨gG,0,Nat.zero_le _,rfl,(World.rowIs_made w _ n _).congr fun i hi=>by simp⟩
 case round=>
  obtain⟨hb,j,hj,rfl,hrow⟩:=hrel;clear hmk;by_cases hlt:j<n
  ·have HK:=hk j wr hlt hb;have HKH:Hid (Calls prog k (#[.int .i64 j]++cap) wr fun e v'=>e=.returned (.int .u32 (Y j))/\Below wr.heap.size wr v'):=HK;have i1:(0:Int)<=(j:Int):=oM;have i2:(j:Int)<(n:Int):=oM;clear hk HK;go_wp2_with((with_reducible refine HKH.out.mono ?_);(rintro e w1 ⟨rfl,hb1⟩;have r1:=RW hrow.out hb1;have c1:=r1.cell (i:=j) hlt;have f1:=r1.frozen j;have HR:Hid (w1.rowIs w.heap.size 43 n (fun i=>.int .u32 (if i<j then Y i else 0))):=r1;clear r1));go_roundw
   case rel=>exact⟨(Da hb hb1).setCell (Nat.le_refl _) _,j+1,oM,gN,(HR.out.set j _).congr fun i hi=>by by_cases e:i=j<;>by_cases e2:i<j<;>simp[e,e2]<;>omega⟩
   case measure=>simp[intOf];omega
  ·have:j=n:=oM;subst this;clear hk;go_wp2;go_ret;exact⟨_,rfl,Nat.le_refl _,hrow.out.congr fun i hi=>by rw[if_pos hi],hb⟩
def vals(X:Nat->Value)(n:Nat):List Value:=(List.range n).map X
theorem Yc(X:Nat->Value)(n i:Nat)(h:i<n):(vals X n)[i]? =some (X i):=by simp[vals,h]
theorem Kn(X:Nat->Value)(n:Nat):vals X (n+1)=vals X n++[X n]:=by unfold vals;rw[List.range_succ];simp
theorem JZ{w:World}{base:Nat}{e:TypeId}{v:Value}{n:Nat}{X:Nat->Value}(h:w.ownsRow base e 1 v n (vals X n)):
 ∃q cap,v=.slice q n cap/\AE w q n X/\(∀b o s,q=some ⟨b,o,s⟩->base<=b)/\(q=none->n=0/\cap=0)/\n<=cap:=by
 rcases h.2 with⟨rfl,hx⟩|⟨g,cap,cur,rfl,hb,hg,rest⟩
 ·subst hx;exact⟨none,0,rfl,.inl rfl,fun b o s e=>(by cases e),fun _=>⟨rfl,rfl⟩,Nat.le_refl _⟩
 ·refine⟨some ⟨g,0,none⟩,cap,rfl,.inr ⟨g,0,rfl,fun i hi=>?_⟩,fun b o s e=>(by cases e;exact hb),fun e=>(by cases e),rest.1⟩;have:=h.cells (g:=g) rfl i (X i) (Yc X n i hi);rw[Nat.zero_add];by_cases c:i=0
  ·subst c;simpa[Addr.add]using this
  ·simpa[Addr.add,c]using this
theorem Tw:(prog.info? 3).map (fun i=>(i.zero,i.size,i.bytes))=some (some (.int .i64 0),1,8):=kR
theorem QU(x:Int)(hx:Ag x)(i g:Nat)(w:World)(hg:w.cell? ⟨g,0,none⟩=some (.int .u32 x)):
 Calls prog 100 #[.int .i64 i,.pointer (some ⟨g,0,none⟩)] w fun e w'=>e=.returned (.int .u32 (canon x))/\Below w.heap.size w w':=by
 go_enter func100,ntmps100;go_wp2_with(go_at_call 101;refine(Cn _ hx.1 hx.2 _).mono ?_;rintro e w' ⟨rfl,hw'⟩;obtain rfl:=hw'.symm);go_ret;exact⟨rfl,Ch _⟩
theorem QV(n:Nat)(x:Int)(hx:Ag x)(hn:n<=65536)(w:World):
 Calls prog 58 #[.int .i64 n,.int .u32 x] w fun e w'=>∃g,e=.returned (.tuple #[.slice (some ⟨g,0,none⟩) n n,.int .i64 0])/\w.heap.size<=g/\w'.rowIs g 43 n (fun i=>.int .u32 (canon x))/\Below w.heap.size w w':=by
 have h1:¬ ((n:Int)<0):=oM;have h2:(n:Int)<=65536:=oM;go_enter func58,ntmps58;go_wp2_with(go_at_call 99;refine(Gc 100 (enters_of func100 kR rfl) #[.pointer (some ⟨w.heap.size,0,none⟩)] n (fun _=>canon x) oM _ (fun i v hi hv=>QU x hx i w.heap.size v ((hv.cell sM).trans sM))).mono ?_;rintro e w1 ⟨g,rfl,hg,hr,hb1⟩;have HR:Hid (w1.rowIs g 43 n (fun i=>.int .u32 (canon x))):=hr;clear hr);go_returns;exact⟨_,rfl,by
  have:w.heap.size+1<=g:=by simpa using hg
  omega,HR.out,Da (AG w _) hb1⟩
theorem Sp(p:Option Addr)(n c:Nat)(X:Nat->Int)(hX:∀i,Ag (X i))(hn:n<=1048576)(w:World)(hp:AE w p n (fun i=>.int .i64 (X i))):
 Calls prog 82 #[.slice p n c] w fun e w'=>e=.returned (.int .i64 (Hw X n))/\Below w.heap.size w w':=by
 go_enter func82,ntmps82;go_wp2
 go_loopw [3,4] (fun sv iv wr=>Below w.heap.size w wr/\∃j:Nat,j<=n/\iv=.int .i64 j/\sv=.int .i64 (Hw X j)) (fun _ iv _=>n-(intOf iv).toNat)
 case atStart=>exact⟨Ch w,0,Nat.zero_le _,rfl,rfl⟩
 case round=>
  obtain⟨hb,j,hj,rfl,rfl⟩:=hrel;by_cases hlt:j<n
  ·rcases hp with hp|⟨b,o,rfl,hp⟩
   ·omega
   have hbl:b<w.heap.size:=Bp (hp j hlt);have h1:wr.cell? ⟨b,o+j,none⟩=some (.int .i64 (X j)):=(hb.cell hbl).trans (hp j hlt);have i1:(0:Int)<=(j:Int):=oM;have i2:(j:Int)<(n:Int):=oM;have s1:Ag (Hw X j):=Ep (fun _ _ _ _=>L7 _ _) ZI hX j;have x1:=hX j;clear hp hX;go_wp2_with(go_at_call 125;refine(IK _ s1.1 s1.2 _ x1.1 x1.2 _).mono ?_;rintro e w1 ⟨rfl,hb1⟩);exact Zeb
  ·have:j=n:=oM;subst this;clear hp hX;go_wp2;go_ret;exact⟨rfl,hb⟩
theorem OP(p:Option Addr)(n c:Nat)(X:Nat->Int)(hX:∀i,Ag (X i))(hn:n<=1048576)(w:World)(hp:AE w p n (fun i=>.int .i64 (X i))):
 Calls prog 83 #[.slice p n c] w fun e w'=>e=.returned (.int .i64 (Dj X n))/\Below w.heap.size w w':=by
 go_enter func83,ntmps83;go_wp2
 go_loopw [3,4] (fun sv iv wr=>Below w.heap.size w wr/\∃j:Nat,j<=n/\iv=.int .i64 j/\sv=.int .i64 (Dj X j)) (fun _ iv _=>n-(intOf iv).toNat)
 case atStart=>exact⟨Ch w,0,Nat.zero_le _,rfl,rfl⟩
 case round=>
  obtain⟨hb,j,hj,rfl,rfl⟩:=hrel;by_cases hlt:j<n
  ·rcases hp with hp|⟨b,o,rfl,hp⟩
   ·omega
   have hbl:b<w.heap.size:=Bp (hp j hlt);have h1:wr.cell? ⟨b,o+j,none⟩=some (.int .i64 (X j)):=(hb.cell hbl).trans (hp j hlt);have i1:(0:Int)<=(j:Int):=oM;have i2:(j:Int)<(n:Int):=oM;have s1:Ag (Dj X j):=Ep I7 ZI hX j;have x1:=hX j;clear hp hX;go_wp2_with(go_at_call 126;refine(MK _ s1.1 s1.2 _ x1.1 x1.2 _).mono ?_;rintro e w1 ⟨rfl,hb1⟩);exact Zeb
  ·have:j=n:=oM;subst this;clear hp hX;go_wp2;go_ret;exact⟨rfl,hb⟩
theorem RQ(a:Int)(h:Ag a)(w:World):
 Calls prog 182 #[.int .i64 a] w fun e w'=>e=.returned (.bool (NZ a))/\w'=w:=by
 have h0:=h.1;have h1:=h.2;have t1:a.tmod 2147483648=a%2147483648:=Int.tmod_eq_emod_of_nonneg h0;go_enter func182,ntmps182;go_wp2;go_ret;exact⟨rfl,rfl⟩
structure G8(k:IntKind)(w:World)(q:Option Addr)(m:Nat)(P:Nat->Option Addr)(l c:Nat->Nat)(X:Nat->Nat->Int):Prop where
 heads:AE w q m (fun i=>.slice (P i) (l i) (c i))
 parts:∀i,i<m->AE w (P i) (l i) (fun j=>.int k (X i j))
theorem G8.below{k:IntKind}{w w':World}{q:Option Addr}{m:Nat}{P:Nat->Option Addr}{l c:Nat->Nat}{X:Nat->Nat->Int}(h:G8 k w q m P l c X)(b:Below w.heap.size w w'):G8 k w' q m P l c X:=
 ⟨h.heads.below b,fun i hi=>(h.parts i hi).below b⟩
theorem Pz:(prog.info? 57).map (fun i=>(i.zero,i.size,i.bytes))=some (some (.slice none 0 0),1,24):=kR
theorem OJ{w w':World}{base:Nat}{e:TypeId}{v:Value}{n:Nat}{xs:List Value}(h:w.ownsRow base e 1 v n xs)(k:Below w.heap.size w w'):w'.ownsRow base e 1 v n xs:=by
 refine h.kept (row:=none) ⟨k.os,k.tape,k.output,k.size,fun j hj _=>k.block j hj⟩ ?_;cases v.ownBlock<;>simp
theorem JY(b:Bool)(w:World):Calls prog 169 #[.bool b] w fun e w'=>e=.returned (.int .u32 (Hv b))/\w'=w:=by
 cases b<;>(go_enter func169,ntmps169;go_wp2;go_ret;exact⟨rfl,rfl⟩)
theorem Rv(a:Int)(h:Ag a)(w:World):Calls prog 168 #[.int .u32 a] w fun e w'=>e=.returned (.int .u32 (Hv (NZ a)))/\Below w.heap.size w w':=by
 go_enter func168,ntmps168;go_wp2_with(first
  |(go_at_call 170;refine(O0 _ h.1 h.2 _).mono ?_;rintro e w1 ⟨rfl,hw'⟩;obtain rfl:=hw'.symm)
  |(go_at_call 169;refine(JY _ _).mono ?_;rintro e w1 ⟨rfl,hw'⟩;obtain rfl:=hw'.symm))
 go_ret;exact⟨rfl,Ch _⟩
theorem OH(a:Int)(h:Ag a)(b:Int)(k:Ag b)(w:World):Calls prog 175 #[.int .u32 a,.int .u32 b] w fun e w'=>e=.returned (.int .u32 (Hv (FP a b)))/\Below w.heap.size w w':=by
 go_enter func175,ntmps175;go_wp2_with(first
  |(go_at_call 176;refine(TI _ h.1 h.2 _ k.1 k.2 _).mono ?_;rintro e w1 ⟨rfl,hw'⟩;obtain rfl:=hw'.symm)
  |(go_at_call 169;refine(JY _ _).mono ?_;rintro e w1 ⟨rfl,hw'⟩;obtain rfl:=hw'.symm))
 go_ret;exact⟨rfl,Ch _⟩
theorem Rx(a b c:Int)(ha:Ag a)(hb:Ag b)(hc:Ag c)(w:World):Calls prog 177 #[.agg #[.int .u32 a,.int .u32 b,.int .u32 c]] w fun e w'=>e=.returned (.int .u32 (FY a b c))/\Below w.heap.size w w':=by
 go_enter func177,ntmps177;go_wp2_with(go_at_call 144;refine(IU _ ha.1 ha.2 _ hb.1 hb.2 _ hc.1 hc.2 _).mono ?_;rintro e w1 ⟨rfl,hw'⟩;obtain rfl:=hw'.symm);go_ret;exact⟨rfl,AG w _⟩
theorem Rs(k:Nat)(hen:Hr k)(f:Int->Int)(hk:∀ (a:Int) (v:World),Ag a->Calls prog k #[.int .u32 a] v fun e v'=>e=.returned (.int .u32 (f a))/\Below v.heap.size v v')
 (g:Nat) (a b c:Int) (ha:Ag a) (w:World) (hg:w.cell? ⟨g,0,none⟩=some (.func (.func k) #[] #[])):
 Calls prog 190 #[.agg #[.int .u32 a,.int .u32 b,.int .u32 c],.pointer (some ⟨g,0,none⟩)] w fun e w'=>e=.returned (.int .u32 (f a))/\Below w.heap.size w w':=by
 have hg2:∀o,(w.alloc o).cell? ⟨g,0,none⟩=some (.func (.func k) #[] #[]):=fun o=>((AG w o).cell (Bp hg)).trans hg;have HK:Hid (∀ (v:World),Calls prog k #[.int .u32 a] v fun e v'=>e=.returned (.int .u32 (f a))/\Below v.heap.size v v'):=fun v=>hk a v ha;clear hk;unfold Hr at hen;go_enter func190,ntmps190;exact Zfb
theorem Rt(k:Nat)(hen:Hr k)(f:Int->Int->Int)(hk:∀ (a b:Int) (v:World),Ag a->Ag b->Calls prog k #[.int .u32 a,.int .u32 b] v fun e v'=>e=.returned (.int .u32 (f a b))/\Below v.heap.size v v')
 (g:Nat) (a b c:Int) (ha:Ag a) (hb:Ag b) (w:World) (hg:w.cell? ⟨g,0,none⟩=some (.func (.func k) #[] #[])):
 Calls prog 192 #[.agg #[.int .u32 a,.int .u32 b,.int .u32 c],.pointer (some ⟨g,0,none⟩)] w fun e w'=>e=.returned (.int .u32 (f a b))/\Below w.heap.size w w':=by
 have hg2:∀o,(w.alloc o).cell? ⟨g,0,none⟩=some (.func (.func k) #[] #[]):=fun o=>((AG w o).cell (Bp hg)).trans hg;have HK:Hid (∀ (v:World),Calls prog k #[.int .u32 a,.int .u32 b] v fun e v'=>e=.returned (.int .u32 (f a b))/\Below v.heap.size v v'):=fun v=>hk a b v ha hb;clear hk;unfold Hr at hen;go_enter func192,ntmps192;exact Zfb
def Ba(w:World)(D:Value)(f:Int->Int->Int->Int):Prop:=
 ∃k cap,D=.func (.func k) #[] cap/\Hr k/\∀ (a b c:Int) (v:World),Ag a->Ag b->Ag c->Below w.heap.size w v->
  Calls prog k (#[.agg #[.int .u32 a,.int .u32 b,.int .u32 c]]++cap) v fun e v'=>e=.returned (.int .u32 (f a b c))/\Below v.heap.size v v'
theorem Ba.below{w w':World}{D:Value}{f:Int->Int->Int->Int}(h:Ba w D f)(hb:Below w.heap.size w w'):Ba w' D f:=by
 obtain⟨k,cap,e,hen,h⟩:=h;exact⟨k,cap,e,hen,fun a b c v ha hb' hc hv=>h a b c v ha hb' hc (Da hb hv)⟩
theorem Et(k:Nat)(hen:Hr k)(f:Int->Int)(hk:∀ (a:Int) (v:World),Ag a->Calls prog k #[.int .u32 a] v fun e v'=>e=.returned (.int .u32 (f a))/\Below v.heap.size v v')(w:World):
 Calls prog 164 #[.func (.func k) #[] #[]] w fun e w'=>∃D,e=.returned D/\Ba w' D (fun a b c=>f a)/\Below w.heap.size w w':=by
 go_enter func164,ntmps164;go_wp2;go_ret;exact⟨_,rfl,⟨190,_,rfl,enters_of func190 kR rfl,fun a b c v ha hb hc hv=>Rs k hen f hk w.heap.size a b c ha v ((hv.cell sM).trans sM)⟩,AG w _⟩
theorem CY(k:Nat)(hen:Hr k)(f:Int->Int->Int)(hk:∀ (a b:Int) (v:World),Ag a->Ag b->Calls prog k #[.int .u32 a,.int .u32 b] v fun e v'=>e=.returned (.int .u32 (f a b))/\Below v.heap.size v v')(w:World):
 Calls prog 171 #[.func (.func k) #[] #[]] w fun e w'=>∃D,e=.returned D/\Ba w' D (fun a b c=>f a b)/\Below w.heap.size w w':=by
 go_enter func171,ntmps171;go_wp2;go_ret;exact⟨_,rfl,⟨192,_,rfl,enters_of func192 kR rfl,fun a b c v ha hb hc hv=>Rt k hen f hk w.heap.size a b c ha hb v ((hv.cell sM).trans sM)⟩,AG w _⟩
theorem WL(w:World):Calls prog 145 #[.int .i64 3] w fun e w'=>∃D,e=.returned (.tuple #[.int .i64 1,D])/\Ba w' D (CJ 3)/\Below w.heap.size w w':=by
 go_enter func145,ntmps145;go_wp2_with(go_at_call 164;refine(Et 101 (enters_of func101 kR rfl) canon (fun a v h=>((Cn a h.1 h.2 v).mono fun e w' h=>⟨h.1,by rw[h.2];exact Ch _⟩)) _).mono ?_;rintro e w1 ⟨D,rfl,hD,hb1⟩;have HD:Hid (Ba w1 D (CJ 3)):=hD;clear hD);go_returns;exact⟨_,rfl,HD.out,hb1⟩
theorem Tz(w:World):Calls prog 145 #[.int .i64 11] w fun e w'=>∃D,e=.returned (.tuple #[.int .i64 1,D])/\Ba w' D (CJ 11)/\Below w.heap.size w w':=by
 go_enter func145,ntmps145;go_wp2_with(go_at_call 164;refine(Et 165 (enters_of func165 kR rfl) Cv (fun a v h=>Vq a h.1 h.2 v) _).mono ?_;rintro e w1 ⟨D,rfl,hD,hb1⟩;have HD:Hid (Ba w1 D (CJ 11)):=hD;clear hD);go_returns;exact⟨_,rfl,HD.out,hb1⟩
theorem TA(w:World):Calls prog 145 #[.int .i64 12] w fun e w'=>∃D,e=.returned (.tuple #[.int .i64 1,D])/\Ba w' D (CJ 12)/\Below w.heap.size w w':=by
 go_enter func145,ntmps145;go_wp2_with(go_at_call 164;refine(Et 166 (enters_of func166 kR rfl) Ge (fun a v h=>((Xi a h.1 h.2 v).mono fun e w' h=>⟨h.1,by rw[h.2];exact Ch _⟩)) _).mono ?_;rintro e w1 ⟨D,rfl,hD,hb1⟩;have HD:Hid (Ba w1 D (CJ 12)):=hD;clear hD);go_returns;exact⟨_,rfl,HD.out,hb1⟩
theorem TB(w:World):Calls prog 145 #[.int .i64 13] w fun e w'=>∃D,e=.returned (.tuple #[.int .i64 1,D])/\Ba w' D (CJ 13)/\Below w.heap.size w w':=by
 go_enter func145,ntmps145;go_wp2_with(go_at_call 164;refine(Et 167 (enters_of func167 kR rfl) NY (fun a v h=>((W7 a h.1 h.2 v).mono fun e w' h=>⟨h.1,by rw[h.2];exact Ch _⟩)) _).mono ?_;rintro e w1 ⟨D,rfl,hD,hb1⟩;have HD:Hid (Ba w1 D (CJ 13)):=hD;clear hD);go_returns;exact⟨_,rfl,HD.out,hb1⟩
theorem TC(w:World):Calls prog 145 #[.int .i64 14] w fun e w'=>∃D,e=.returned (.tuple #[.int .i64 1,D])/\Ba w' D (CJ 14)/\Below w.heap.size w w':=by
 go_enter func145,ntmps145;go_wp2_with(go_at_call 164;refine(Et 168 (enters_of func168 kR rfl) (fun a=>Hv (NZ a)) (fun a v h=>Rv a h v) _).mono ?_;rintro e w1 ⟨D,rfl,hD,hb1⟩;have HD:Hid (Ba w1 D (CJ 14)):=hD;clear hD);go_returns;exact⟨_,rfl,HD.out,hb1⟩
theorem WM(w:World):Calls prog 145 #[.int .i64 4] w fun e w'=>∃D,e=.returned (.tuple #[.int .i64 2,D])/\Ba w' D (CJ 4)/\Below w.heap.size w w':=by
 go_enter func145,ntmps145;go_wp2_with(go_at_call 171;refine(CY 142 (enters_of func142 kR rfl) CC (fun a b v h k=>Pj a h.1 h.2 b k.1 k.2 v) _).mono ?_;rintro e w1 ⟨D,rfl,hD,hb1⟩;have HD:Hid (Ba w1 D (CJ 4)):=hD;clear hD);go_returns;exact⟨_,rfl,HD.out,hb1⟩
theorem WN(w:World):Calls prog 145 #[.int .i64 5] w fun e w'=>∃D,e=.returned (.tuple #[.int .i64 2,D])/\Ba w' D (CJ 5)/\Below w.heap.size w w':=by
 go_enter func145,ntmps145;go_wp2_with(go_at_call 171;refine(CY 172 (enters_of func172 kR rfl) Is (fun a b v h k=>Y4 a h.1 h.2 b k.1 k.2 v) _).mono ?_;rintro e w1 ⟨D,rfl,hD,hb1⟩;have HD:Hid (Ba w1 D (CJ 5)):=hD;clear hD);go_returns;exact⟨_,rfl,HD.out,hb1⟩
theorem WO(w:World):Calls prog 145 #[.int .i64 6] w fun e w'=>∃D,e=.returned (.tuple #[.int .i64 2,D])/\Ba w' D (CJ 6)/\Below w.heap.size w w':=by
 go_enter func145,ntmps145;go_wp2_with(go_at_call 171;refine(CY 139 (enters_of func139 kR rfl) DR (fun a b v h k=>Li a h.1 h.2 b k.1 k.2 v) _).mono ?_;rintro e w1 ⟨D,rfl,hD,hb1⟩;have HD:Hid (Ba w1 D (CJ 6)):=hD;clear hD);go_returns;exact⟨_,rfl,HD.out,hb1⟩
theorem WP(w:World):Calls prog 145 #[.int .i64 7] w fun e w'=>∃D,e=.returned (.tuple #[.int .i64 2,D])/\Ba w' D (CJ 7)/\Below w.heap.size w w':=by
 go_enter func145,ntmps145;go_wp2_with(go_at_call 171;refine(CY 173 (enters_of func173 kR rfl) EF (fun a b v h k=>Wp a h.1 h.2 b k.1 k.2 v) _).mono ?_;rintro e w1 ⟨D,rfl,hD,hb1⟩;have HD:Hid (Ba w1 D (CJ 7)):=hD;clear hD);go_returns;exact⟨_,rfl,HD.out,hb1⟩
theorem WQ(w:World):Calls prog 145 #[.int .i64 8] w fun e w'=>∃D,e=.returned (.tuple #[.int .i64 2,D])/\Ba w' D (CJ 8)/\Below w.heap.size w w':=by
 go_enter func145,ntmps145;go_wp2_with(go_at_call 171;refine(CY 143 (enters_of func143 kR rfl) FK (fun a b v h k=>PF a h.1 h.2 b k.1 k.2 v) _).mono ?_;rintro e w1 ⟨D,rfl,hD,hb1⟩;have HD:Hid (Ba w1 D (CJ 8)):=hD;clear hD);go_returns;exact⟨_,rfl,HD.out,hb1⟩
theorem WR(w:World):Calls prog 145 #[.int .i64 9] w fun e w'=>∃D,e=.returned (.tuple #[.int .i64 2,D])/\Ba w' D (CJ 9)/\Below w.heap.size w w':=by
 go_enter func145,ntmps145;go_wp2_with(go_at_call 171;refine(CY 174 (enters_of func174 kR rfl) Gd (fun a b v h k=>Xg a h.1 h.2 b k.1 k.2 v) _).mono ?_;rintro e w1 ⟨D,rfl,hD,hb1⟩;have HD:Hid (Ba w1 D (CJ 9)):=hD;clear hD);go_returns;exact⟨_,rfl,HD.out,hb1⟩
theorem Tx(w:World):Calls prog 145 #[.int .i64 10] w fun e w'=>∃D,e=.returned (.tuple #[.int .i64 2,D])/\Ba w' D (CJ 10)/\Below w.heap.size w w':=by
 go_enter func145,ntmps145;go_wp2_with(go_at_call 171;refine(CY 175 (enters_of func175 kR rfl) (fun a b=>Hv (FP a b)) (fun a b v h k=>OH a h b k v) _).mono ?_;rintro e w1 ⟨D,rfl,hD,hb1⟩;have HD:Hid (Ba w1 D (CJ 10)):=hD;clear hD);go_returns;exact⟨_,rfl,HD.out,hb1⟩
theorem TD(w:World):Calls prog 145 #[.int .i64 15] w fun e w'=>∃D,e=.returned (.tuple #[.int .i64 3,D])/\Ba w' D (CJ 15)/\Below w.heap.size w w':=by
 go_enter func145,ntmps145;go_wp2;go_returns;exact⟨_,rfl,⟨177,#[],rfl,enters_of func177 kR rfl,fun a b c v ha hb hc hv=>Rx a b c ha hb hc v⟩,Ch w⟩
theorem Fs(op:Int)(h:BB op≠0):op=3\/op=11\/op=12\/op=13\/op=14\/op=4\/op=5\/op=6\/op=7\/op=8\/op=9\/op=10\/op=15:=by
 unfold BB at h;split at h
 ·omega
 ·split at h
  ·omega
  ·split at h
   ·omega
   ·exact absurd rfl h
theorem Rf(op:Int)(h:BB op≠0)(w:World):Calls prog 145 #[.int .i64 op] w fun e w'=>∃D,e=.returned (.tuple #[.int .i64 (BB op),D])/\Ba w' D (CJ op)/\Below w.heap.size w w':=by
 rcases Fs op h with rfl|rfl|rfl|rfl|rfl|rfl|rfl|rfl|rfl|rfl|rfl|rfl|rfl
 ·exact WL w
 ·exact Tz w
 ·exact TA w
 ·exact TB w
 ·exact TC w
 ·exact WM w
 ·exact WN w
 ·exact WO w
 ·exact WP w
 ·exact WQ w
 ·exact WR w
 ·exact Tx w
 ·exact TD w
def BZ(l:Nat->Nat):Nat->Option Nat
 |0=>some (l 0)
 |j+1=>match BZ l j with
  |none=>none
  |some n=>if l (j+1)=n then some n else if l (j+1)=0\/n=0 then none else if n=1 then some (l (j+1))else if l (j+1)=1 then some n else none
theorem Fq{l:Nat->Nat}{j n:Nat}(h:BZ l j=some n):BZ l (j+1)=if l (j+1)=n then some n else if l (j+1)=0\/n=0 then none else if n=1 then some (l (j+1))else if l (j+1)=1 then some n else none:=by
 show(match BZ l j with |none=>none|some n=>_)=_;rw[h]
theorem Fp{l:Nat->Nat}{j:Nat}(h:BZ l j=none):∀M,j<=M->BZ l M=none:=by
 intro M;induction M with
 |zero=>
  intro hj;have:j=0:=oM;subst this;exact h
 |succ M ih=>
  intro hj;rcases Nat.lt_or_ge M j with c|c
  ·have:j=M+1:=oM;subst this;exact h
  ·show(match BZ l M with |none=>none|some n=>_)=_;rw[ih c]
theorem Vm{l:Nat->Nat}{N:Nat}(hl:∀i,l i<=N):∀ {M n:Nat},BZ l M=some n->n<=N:=by
 intro M;induction M with
 |zero=>intro n h;cases h;exact hl 0
 |succ M ih=>
  intro n h;cases e:BZ l M with
  |none=>rw[Fp e (M+1) oM]at h;cases h
  |some k=>
   rw[Fq e]at h;have:=ih e;have:=hl (M+1)
   repeat' split at h
   all_goals cases h
   all_goals omega
theorem N7{l:Nat->Nat}:∀ {M n:Nat},BZ l M=some n->∀i,i<=M->l i=n\/(l i=1/\n≠0):=by
 intro M;induction M with
 |zero=>
  intro n h i hi;cases h;have:i=0:=oM;subst this;exact .inl rfl
 |succ M ih=>
  intro n h i hi;cases e:BZ l M with
  |none=>rw[Fp e (M+1) oM]at h;cases h
  |some k=>
   rw[Fq e]at h;have hi':i<=M\/i=M+1:=oM;split at h
   ·cases h
    rcases hi' with c|c
    ·exact ih e i c
    ·subst c;left;assumption
   ·split at h
    ·cases h
    ·split at h
     ·cases h
      rcases hi' with c|c
      ·have:=ih e i c;omega
      ·subst c;exact .inl rfl
     ·split at h
      ·cases h
       rcases hi' with c|c
       ·exact ih e i c
       ·subst c;right;omega
      ·cases h
theorem Sd(b o M cq:Nat)(P:Nat->Option Addr)(l c:Nat->Nat)(hM:M<=1048576)(hl:∀i,l i<=1048576)(hc:M+1<=cq)(w:World)(hh:∀i,i<M+1->w.cell? ⟨b,o+i,none⟩=some (.slice (P i) (l i) (c i))):
 Calls prog 146 #[.slice (some ⟨b,o,none⟩) (M+1) cq] w fun e w'=>e=.returned (.tuple #[.int .i64 ((BZ l M).getD 0:Nat),.bool (BZ l M).isSome])/\w'=w:=by
 have h0:=hh 0 oM;rw[Nat.add_zero]at h0;have i1:(1:Int)<=((M+1:Nat):Int):=oM;rcases Nat.eq_zero_or_pos M with hM0|hM0
 ·subst hM0;have HS:Hid ((BZ l 0).getD 0=l 0/\(BZ l 0).isSome=true):=⟨rfl,rfl⟩
  clear hh hl;go_enter func146,ntmps146;go_wp2
  all_goals(refine wp_loop_rounds 1 ?_;rw[rounds_succ];go_wp2;go_returns;exact⟨rfl,rfl⟩)
 ·have hq:¬ (cq=1):=oM;have hq2:1<cq:=oM;have HH:Hid ((∀i,i<M+1->w.cell? ⟨b,o+i,none⟩=some (.slice (P i) (l i) (c i)))/\∀i,l i<=1048576):=⟨hh,hl⟩
  clear hh hl;go_enter func146,ntmps146;go_wp2
  go_loopw [4,14] (fun nv iv wr=>wr=w/\∃j n:Nat,j<=M/\iv=.int .i64 j/\nv=.int .i64 n/\n<=1048576/\Hid (BZ l j=some n)) (fun _ iv _=>M-(intOf iv).toNat)
  case atStart=>exact⟨rfl,0,l 0,Nat.zero_le _,rfl,rfl,HH.out.2 0,rfl⟩
  case round=>
   obtain⟨rfl,j,n,hj,rfl,rfl,hn,hs⟩:=hrel;by_cases hlt:j<M
   ·have h1:wr.cell? ⟨b,o+1+j,none⟩=some (.slice (P (j+1)) (l (j+1)) (c (j+1))):=by have:=HH.out.1 (j+1) oM;rw[show o+(j+1)=o+1+j by omega]at this;exact this
    have i2:(0:Int)<=(j:Int):=oM;have i3:(j:Int)<(M:Int):=oM;have hl1:=HH.out.2 (j+1);obtain⟨L,hL⟩:∃L,L=l (j+1):=⟨_,rfl⟩
    have HSS:Hid (BZ l (j+1)=if L=n then some n else if L=0\/n=0 then none else if n=1 then some L else if L=1 then some n else none):=by subst hL;exact Fq hs.out
    rw[←hL]at h1 hl1;clear hL;by_cases c1:L=n
    ·subst c1;have HS1:Hid (BZ l (j+1)=some L):=by have:=HSS.out;rw[if_pos rfl]at this;exact this
     clear HSS hs;go_wp2;go_roundw
     case rel=>exact⟨fT,j+1,L,oM,gN,rfl,hn,HS1⟩
     case measure=>simp[intOf];omega
    ·have c1':¬ ((L:Int)=(n:Int)):=oM;by_cases c2:L=0\/n=0
     ·have HS1:Hid (BZ l M=none):=by have:=HSS.out;rw[if_neg c1,if_pos c2]at this;exact Fp this M oM
      clear HSS hs;rcases c2 with c2|c2
      ·subst c2;go_wp2;go_returns;exact⟨by rw[HS1.out];rfl,rfl⟩
      ·subst c2;have c3:¬ ((L:Int)=0):=oM;go_wp2;go_returns;exact⟨by rw[HS1.out];rfl,rfl⟩
     ·have c3:¬ ((L:Int)=0):=oM;have c4:¬ ((n:Int)=0):=oM;by_cases c5:n=1
      ·have HS1:Hid (BZ l (j+1)=some L):=by have:=HSS.out;rw[if_neg c1,if_neg c2,if_pos c5]at this;exact this
       clear HSS hs;subst c5;go_wp2;go_roundw
       case rel=>exact⟨fT,j+1,L,oM,gN,rfl,hl1,HS1⟩
       case measure=>simp[intOf];omega
      ·have c6:¬ ((n:Int)=1):=oM;by_cases c7:L=1
       ·have HS1:Hid (BZ l (j+1)=some n):=by have:=HSS.out;rw[if_neg c1,if_neg c2,if_neg c5,if_pos c7]at this;exact this
        clear HSS hs;subst c7;go_wp2;go_roundw
        case rel=>exact⟨fT,j+1,n,oM,gN,rfl,hn,HS1⟩
        case measure=>simp[intOf];omega
       ·have HS1:Hid (BZ l M=none):=by have:=HSS.out;rw[if_neg c1,if_neg c2,if_neg c5,if_neg c7]at this;exact Fp this M oM
        have c8:¬ ((L:Int)=1):=oM;have c9:((L:Int) != 1)=true:=by simp[c8]
        clear HSS hs;go_wp2
        all_goals first
         |(
          have hq:((L:Int) != 1)=false:=by assumption
          rw[c9]at hq;cases hq)
         |(go_returns;exact⟨by rw[HS1.out];rfl,rfl⟩)
   ·have:j=M:=oM;subst this;go_wp2;go_returns;exact⟨by rw[hs.out];rfl,rfl⟩
def Bd(l:Nat->Nat)(X:Nat->Nat->Int)(m i j:Nat):Int:=if j<m then X j (if l j=1 then 0 else i)else 0
theorem B4{l:Nat->Nat}{X:Nat->Nat->Int}(hX:∀i j,Ag (X i j))(m i j:Nat):Ag (Bd l X m i j):=Bx (hX _ _) Gi
theorem Wu(F:Nat->Int)(j k:Nat):(if k=j then Value.int .u32 (F j)else .int .u32 (if k<j then F k else 0))=.int .u32 (if k<j+1 then F k else 0):=by
 exact Zez
theorem Vz(w:World)(t:TypeId):((w.alloc (.cells #[.int .u32 0,.int .u32 0,.int .u32 0] t)).alloc (.cells #[.int .u32 0,.int .u32 0,.int .u32 0] t)).rowIs (w.heap.size+1) t 3 (fun _=>.int .u32 0)/\((w.alloc (.cells #[.int .u32 0,.int .u32 0,.int .u32 0] t)).alloc (.cells #[.int .u32 0,.int .u32 0,.int .u32 0] t)).rowIs w.heap.size t 3 (fun _=>.int .u32 0):=by
 have h:∀i,i<3->(#[Value.int .u32 0,.int .u32 0,.int .u32 0]:Array Value)[i]? =some (.int .u32 0):=by
  intro i hi;have:i=0\/i=1\/i=2:=oM;rcases this with rfl|rfl|rfl<;>rfl
 have r1:=World.rowIs_alloc w #[.int .u32 0,.int .u32 0,.int .u32 0] t (fun _=>.int .u32 0) h;have r2:=World.rowIs_alloc (w.alloc (.cells #[.int .u32 0,.int .u32 0,.int .u32 0] t)) #[.int .u32 0,.int .u32 0,.int .u32 0] t (fun _=>.int .u32 0) h;have e:(w.alloc (.cells #[.int .u32 0,.int .u32 0,.int .u32 0] t)).heap.size=w.heap.size+1:=sM;rw[e]at r2;exact⟨r2,r1.alloc _⟩
theorem Nz(place b o m cq:Nat)(P:Nat->Option Addr)(l c:Nat->Nat)(X:Nat->Nat->Int)(hm:m<=3)(hi:place<=1048576)(hl:∀i,l i<=1048576)(hpl:∀i,i<m->l i=1\/place<l i)(w:World)(hL:G8 .u32 w (some ⟨b,o,none⟩) m P l c X):
 Calls prog 148 #[.int .i64 place,.slice (some ⟨b,o,none⟩) m cq] w fun e w'=>e=.returned (.agg #[.int .u32 (Bd l X m place 0),.int .u32 (Bd l X m place 1),.int .u32 (Bd l X m place 2)])/\Below w.heap.size w w':=by
 have HL:Hid (G8 .u32 w (some ⟨b,o,none⟩) m P l c X/\(∀i,l i<=1048576)/\∀i,i<m->l i=1\/place<l i):=⟨hL,hl,hpl⟩
 obtain⟨E,HE⟩:∃E:Nat->Int,Hid (E=Bd l X m place):=⟨_,rfl⟩
 have HE0:=HE.out;rw[←HE0];have T:=Vz w 216;have HT:Hid (((w.alloc (.cells #[.int .u32 0,.int .u32 0,.int .u32 0] 216)).alloc (.cells #[.int .u32 0,.int .u32 0,.int .u32 0] 216)).rowIs (w.heap.size+1) 216 3 (fun _=>.int .u32 0)/\((w.alloc (.cells #[.int .u32 0,.int .u32 0,.int .u32 0] 216)).alloc (.cells #[.int .u32 0,.int .u32 0,.int .u32 0] 216)).rowIs w.heap.size 216 3 (fun _=>.int .u32 0)):=T;clear hL hl hpl HE0 T;go_enter func148,ntmps148;go_wp2
 go_loopw [10] (fun iv wr=>Below w.heap.size w wr/\∃j:Nat,j<=m/\iv=.int .i64 j/\Hid (wr.rowIs (w.heap.size+1) 216 3 (fun i=>.int .u32 (if i<j then E i else 0))/\wr.rowIs w.heap.size 216 3 (fun _=>.int .u32 0))) (fun iv _=>m-(intOf iv).toNat)
 case atStart=>exact⟨gG,0,Nat.zero_le _,rfl,HT.out.1.congr fun i hi=>by simp,HT.out.2⟩
 case round=>
  obtain⟨hb,j,hj,rfl,hrow⟩:=hrel;clear HT;by_cases hlt:j<m
  ·have h1:wr.cell? ⟨b,o+j,none⟩=some (.slice (P j) (l j) (c j)):=by
    rcases HL.out.1.heads with q|⟨b',o',e,hh⟩
    ·omega
    ·cases e;exact(hb.cell (Bp (hh j hlt))).trans (hh j hlt)
   have hpj:=HL.out.2.2 j hlt;have hlj:=HL.out.2.1 j;have HEj:E j=X j (if l j=1 then 0 else place):=by rw[HE.out];unfold Bd;rw[if_pos hlt]
   have hR:=(HL.out.1.parts j hlt).below hb;obtain⟨L,hL0⟩:∃L,L=l j:=⟨_,rfl⟩
   rw[←hL0]at h1 hpj hlj HEj hR;clear hL0;rcases hR with hR|⟨b2,o2,hP,hR⟩
   ·omega
   rw[hP]at h1;clear hP;have c1:=hrow.out.1.cell (i:=j) oM;have f1:=hrow.out.1.frozen j;have i1:(0:Int)<=(j:Int):=oM;have i2:(j:Int)<(m:Int):=oM;have i3:(j:Int)<3:=oM;have j3:j<3:=oM;have HR:Hid (∀x,(wr.setCell ⟨w.heap.size+1,j,none⟩ x).rowIs (w.heap.size+1) 216 3 (fun k=>if k=j then x else .int .u32 (if k<j then E k else 0))/\(wr.setCell ⟨w.heap.size+1,j,none⟩ x).rowIs w.heap.size 216 3 (fun _=>.int .u32 0)):=fun x=>⟨hrow.out.1.set j x,hrow.out.2.setOther sM x⟩
   by_cases hL1:L=1
   ·have h2:wr.cell? ⟨b2,o2,none⟩=some (.int .u32 (E j)):=by have:=hR 0 oM;rw[Nat.add_zero]at this;rw[this,HEj,if_pos hL1]
    subst hL1;exact Zeh
   ·have h2:wr.cell? ⟨b2,o2+place,none⟩=some (.int .u32 (E j)):=by have:=hR place oM;rw[this,HEj,if_neg hL1]
    have c9:¬ ((L:Int)=1):=oM;have i4:(0:Int)<=(place:Int):=oM;have i5:(place:Int)<(L:Int):=oM;exact Zeh
  ·have:j=m:=oM;subst this;have e0:∀k,k<3->(if k<j then E k else 0)=E k:=by
    intro k hk;by_cases q:k<j
    ·rw[if_pos q]
    ·rw[if_neg q,HE.out];unfold Bd;rw[if_neg q]
   have r1:=hrow.out.1.congr (g:=fun i=>.int .u32 (E i)) (fun i hi=>by rw[e0 i hi]);have c0:=r1.cell (i:=0) oM;have c1:=r1.cell (i:=1) oM;have c2:=r1.cell (i:=2) oM;have r0:=hrow.out.2;have d0:=r0.cell (i:=0) oM;have d1:=r0.cell (i:=1) oM;have d2:=r0.cell (i:=2) oM;have f0:=r0.frozen 0;have f1:=r0.frozen 1;have f2:=r0.frozen 2;have r3:=((r0.set 0 (.int .u32 (E 0))).set 1 (.int .u32 (E 1))).set 2 (.int .u32 (E 2));have g0:=r3.cell (i:=0) oM;have g1:=r3.cell (i:=1) oM;have g2:=r3.cell (i:=2) oM;simp only[Nat.reduceEqDiff,if_true,if_false]at g0 g1 g2;clear r1 r0 r3 e0 hrow;go_wp2;refine bodyPost_ret (by simp[results,results148,go_sem, *];try rfl) rfl ?_;exact⟨rfl,((hb.setCell (Nat.le_refl _) _).setCell (Nat.le_refl _) _).setCell (Nat.le_refl _) _⟩
theorem Ny(D:Value)(f:Int->Int->Int->Int)(place g1 g2 b o m cq:Nat)(P:Nat->Option Addr)(l c:Nat->Nat)(X:Nat->Nat->Int)(hX:∀i j,Ag (X i j))(hm:m<=3)(hi:place<=1048576)(hl:∀i,l i<=1048576)(hpl:∀i,i<m->l i=1\/place<l i)(w:World)
 (hL:G8 .u32 w (some ⟨b,o,none⟩) m P l c X) (hW:Ba w D f) (hD:w.cell? ⟨g1,0,none⟩=some D) (hA:w.cell? ⟨g2,0,none⟩=some (.slice (some ⟨b,o,none⟩) m cq)):
 Calls prog 147 #[.int .i64 place,.pointer (some ⟨g1,0,none⟩),.pointer (some ⟨g2,0,none⟩)] w fun e w'=>e=.returned (.int .u32 (f (Bd l X m place 0) (Bd l X m place 1) (Bd l X m place 2)))/\Below w.heap.size w w':=by
 obtain⟨k,cap,rfl,hen,hk⟩:=hW;have HK:Hid (∀v:World,Below w.heap.size w v->Calls prog k (#[.agg #[.int .u32 (Bd l X m place 0),.int .u32 (Bd l X m place 1),.int .u32 (Bd l X m place 2)]]++cap) v fun e v'=>e=.returned (.int .u32 (f (Bd l X m place 0) (Bd l X m place 1) (Bd l X m place 2)))/\Below v.heap.size v v'):=fun v hv=>hk _ _ _ v (B4 hX m place 0) (B4 hX m place 1) (B4 hX m place 2) hv;have HL:Hid (G8 .u32 w (some ⟨b,o,none⟩) m P l c X/\(∀i,l i<=1048576)/\∀i,i<m->l i=1\/place<l i):=⟨hL,hl,hpl⟩
 have d1:=Bp hD;have d2:=Bp hA;unfold Hr at hen;clear hk hL hl hpl hX;go_enter func147,ntmps147;go_wp2
 go_region_held3 (fun w'=>w'.cell? ⟨g1,0,none⟩=some (.func (.func k) #[] cap)/\w'.cell? ⟨g2,0,none⟩=some (.slice (some ⟨b,o,none⟩) m cq)) (go_keep) (first
  |(go_at_call 148;refine(Nz place b o m cq P l c X hm hi HL.out.2.1 HL.out.2.2 _ (HL.out.1.below (SL w))).mono ?_;rintro e w1 ⟨rfl,hb1⟩;have HB:Below w.heap.size w w1:=Da (SL w) hb1;have e1:w1.cell? ⟨g1,0,none⟩=some (.func (.func k) #[] cap):=(HB.cell d1).trans hD;have e2:w1.cell? ⟨g2,0,none⟩=some (.slice (some ⟨b,o,none⟩) m cq):=(HB.cell d2).trans hA)
  |((with_reducible refine(HK.out _ HB).mono ?_);rintro e w2 ⟨rfl,hb2⟩;have e3:w2.cell? ⟨g1,0,none⟩=some (.func (.func k) #[] cap):=(hb2.cell (Bp e1)).trans e1;have e4:w2.cell? ⟨g2,0,none⟩=some (.slice (some ⟨b,o,none⟩) m cq):=(hb2.cell (Bp e2)).trans e2))
 go_wp2;go_ret;exact⟨rfl,Da HB hb2⟩
theorem Es{k:IntKind}{w:World}{b o m:Nat}{P:Nat->Option Addr}{l c:Nat->Nat}{X:Nat->Nat->Int}(h:G8 k w (some ⟨b,o,none⟩) m P l c X)(i:Nat)(hi:i<m):w.cell? ⟨b,o+i,none⟩=some (.slice (P i) (l i) (c i)):=by
 rcases h.heads with q|⟨b',o',e,hh⟩
 ·omega
 ·cases e;exact hh i hi
theorem Kg{l:Nat->Nat}{M n i j:Nat}(h:BZ l M=some n)(hj:j<=M)(hi:i<n):l j=1\/i<l j:=by
 rcases N7 h j hj with e|e
 ·right;omega
 ·left;exact e.1
theorem Ft(op:Int):BB op<=3:=by
 unfold BB;split
 ·omega
 ·split
  ·omega
  ·split<;>omega
theorem SJ(op:Int)(h0:BB op≠0)(b o m cq:Nat)(hm:BB op=m)(n:Nat)(P:Nat->Option Addr)(l c:Nat->Nat)(X:Nat->Nat->Int)(hX:∀i j,Ag (X i j))(hl:∀i,l i<=1048576)(hc:m<=cq)(hs:BZ l (m-1)=some n)(w:World)(hL:G8 .u32 w (some ⟨b,o,none⟩) m P l c X):
 Calls prog 119 #[.int .i64 op,.slice (some ⟨b,o,none⟩) m cq] w fun e w'=>∃g,e=.returned (.tuple #[.slice (some ⟨g,0,none⟩) n n,.int .i64 0])/\w.heap.size<=g/\w'.rowIs g 43 n (fun i=>.int .u32 (CJ op (Bd l X m i 0) (Bd l X m i 1) (Bd l X m i 2)))/\Below w.heap.size w w':=by
 have HL:Hid (G8 .u32 w (some ⟨b,o,none⟩) m P l c X/\(∀i,l i<=1048576)/\BZ l (m-1)=some n/\(∀i j,Ag (X i j))):=⟨hL,hl,hs,hX⟩
 have hn:n<=1048576:=Vm hl hs;have hm3:m<=3:=by rw[←hm];exact Ft op
 have ht:¬ ((m:Int)=0):=oM;have H0:Hid (BB op≠0):=h0;have HM:Hid (BB op=m):=hm;obtain⟨M,rfl⟩:∃M,m=M+1:=⟨m-1,oM⟩
 have HS:Hid (BZ l M=some n):=hs;clear hL hl hs hX h0 hm;go_enter func119,ntmps119;go_wp2_with(first
  |(go_at_call 145;refine(Rf op H0.out _).mono ?_;rintro e w1 ⟨D,rfl,hD,hb1⟩;rw[HM.out];have hD':=hD;obtain⟨kD,capD,rfl,-,-⟩:=hD';have HD:Hid (Ba w1 (.func (.func kD) #[] capD) (CJ op)):=hD;have a1:w1.cell? ⟨w.heap.size,0,none⟩=some (.slice (some ⟨b,o,none⟩) (M+1) cq):=(hb1.cell sM).trans sM;have s1:w.heap.size<w1.heap.size:=Bp a1;have s2:w.heap.size≠w1.heap.size:=oM;clear hD)
  |(go_at_call 146;refine(Sd b o M cq P l c oM HL.out.2.1 hc _ (fun i hi=>Es (HL.out.1.below (Da (Da (AG w _) hb1) (AG w1 _))) i hi)).mono ?_;rintro e w2 ⟨rfl,hw'⟩;obtain rfl:=hw'.symm;rw[HS.out])
  |(go_at_call 99;refine(Gc 147 (enters_of func147 kR rfl) #[.pointer (some ⟨w1.heap.size,0,none⟩),.pointer (some ⟨w.heap.size,0,none⟩)] n (fun i=>CJ op (Bd l X (M+1) i 0) (Bd l X (M+1) i 1) (Bd l X (M+1) i 2)) hn _ (fun i v hi hv=>Ny (.func (.func kD) #[] capD) (CJ op) i w1.heap.size w.heap.size b o (M+1) cq P l c X HL.out.2.2.2 hm3 oM HL.out.2.1 (fun j hj=>Kg HL.out.2.2.1 oM hi) v (HL.out.1.below (Da (Da (Da (AG w _) hb1) (AG w1 _)) hv)) (HD.out.below (Da (AG w1 _) hv)) ((hv.cell sM).trans sM) ((hv.cell sO).trans (((AG w1 _).cell s1).trans a1)))).mono ?_;rintro e w2 ⟨g,rfl,hg,hr,hb2⟩;have HR:Hid (w2.rowIs g 43 n (fun i=>.int .u32 (CJ op (Bd l X (M+1) i 0) (Bd l X (M+1) i 1) (Bd l X (M+1) i 2)))):=hr;clear hr))
 go_returns;exact⟨_,rfl,by
  have:w1.heap.size+1<=g:=by simpa using hg
  omega,HR.out,Da (Da (Da (AG w _) hb1) (AG w1 _)) hb2⟩

def sl:Nat->Nat:=fun i=>if i=0 then 2 else 1
def rn(l:Nat->Nat):Nat->Nat
 |0=>l 0
 |j+1=>if rn l j=1\/l j=0 then l j else rn l j
theorem Zm{l:Nat->Nat}:∀ {M n:Nat},BZ l M=some n->rn l (M+1)=n:=by
 intro M;induction M with
 |zero=>intro n h;cases h;show(if l 0=1\/l 0=0 then l 0 else l 0)=l 0;split<;>rfl
 |succ M ih=>
  intro n h;cases e:BZ l M with
  |none=>rw[Fp e (M+1) oM]at h;cases h
  |some k=>
   rw[Fq e]at h;have hk:=ih e;show(if rn l (M+1)=1\/l (M+1)=0 then l (M+1)else rn l (M+1))=n;rw[hk];split at h
   ·cases h;split<;>omega
   ·split at h
    ·cases h
    ·split at h
     ·cases h;rw[if_pos oM]
     ·split at h
      ·cases h;rw[if_neg oM]
      ·cases h
theorem V0(w:World):Calls prog 121 #[.int .i64 3] w fun e w'=>e=.returned (.int .i64 1)/\w'=w:=by
 exact Pg
theorem S3(w:World):Calls prog 121 #[.int .i64 11] w fun e w'=>e=.returned (.int .i64 1)/\w'=w:=by
 exact Pg
theorem S4(w:World):Calls prog 121 #[.int .i64 12] w fun e w'=>e=.returned (.int .i64 1)/\w'=w:=by
 exact Pg
theorem S5(w:World):Calls prog 121 #[.int .i64 13] w fun e w'=>e=.returned (.int .i64 1)/\w'=w:=by
 exact Pg
theorem S6(w:World):Calls prog 121 #[.int .i64 14] w fun e w'=>e=.returned (.int .i64 1)/\w'=w:=by
 exact Pg
theorem V4(w:World):Calls prog 121 #[.int .i64 4] w fun e w'=>e=.returned (.int .i64 2)/\w'=w:=by
 exact Pg
theorem V5(w:World):Calls prog 121 #[.int .i64 5] w fun e w'=>e=.returned (.int .i64 2)/\w'=w:=by
 exact Pg
theorem V6(w:World):Calls prog 121 #[.int .i64 6] w fun e w'=>e=.returned (.int .i64 2)/\w'=w:=by
 exact Pg
theorem V7(w:World):Calls prog 121 #[.int .i64 7] w fun e w'=>e=.returned (.int .i64 2)/\w'=w:=by
 exact Pg
theorem V8(w:World):Calls prog 121 #[.int .i64 8] w fun e w'=>e=.returned (.int .i64 2)/\w'=w:=by
 exact Pg
theorem V9(w:World):Calls prog 121 #[.int .i64 9] w fun e w'=>e=.returned (.int .i64 2)/\w'=w:=by
 exact Pg
theorem S2(w:World):Calls prog 121 #[.int .i64 10] w fun e w'=>e=.returned (.int .i64 2)/\w'=w:=by
 exact Pg
theorem S7(w:World):Calls prog 121 #[.int .i64 15] w fun e w'=>e=.returned (.int .i64 3)/\w'=w:=by
 exact Pg
theorem S8(op:Int)(h:BB op=0)(w:World):Calls prog 121 #[.int .i64 op] w fun e w'=>e=.returned (.int .i64 0)/\w'=w:=by
 have n1:¬ (op=3\/op=11\/op=12\/op=13\/op=14):=fun c=>by unfold BB at h;rw[if_pos c]at h;cases h
 have n2:¬ (op=4\/op=5\/op=6\/op=7\/op=8\/op=9\/op=10):=fun c=>by unfold BB at h;rw[if_neg n1,if_pos c]at h;cases h
 have n3:¬ (op=15):=fun c=>by unfold BB at h;rw[if_neg n1,if_neg n2,if_pos c]at h;cases h
 simp only[not_or]at n1 n2;obtain⟨a1,a2,a3,a4,a5⟩:=n1;obtain⟨b1,b2,b3,b4,b5,b6,b7⟩:=n2;clear h;exact Pg
theorem IQ(op:Int)(w:World):Calls prog 121 #[.int .i64 op] w fun e w'=>e=.returned (.int .i64 (BB op:Nat))/\w'=w:=by
 by_cases h:BB op=0
 ·rw[h];exact S8 op h w
 ·rcases Fs op h with rfl|rfl|rfl|rfl|rfl|rfl|rfl|rfl|rfl|rfl|rfl|rfl|rfl
  ·exact V0 w
  ·exact S3 w
  ·exact S4 w
  ·exact S5 w
  ·exact S6 w
  ·exact V4 w
  ·exact V5 w
  ·exact V6 w
  ·exact V7 w
  ·exact V8 w
  ·exact V9 w
  ·exact S2 w
  ·exact S7 w
theorem K7(b:Bool)(w:World):Calls prog 181 #[.bool b] w fun e w'=>e=.returned (.int .i64 (Hv b))/\w'=w:=by
 cases b<;>(go_enter func181,ntmps181;go_wp2;go_ret;exact⟨rfl,rfl⟩)
theorem rdo_3(a b c:Int)(ha:Ag a)(hb:Ag b)(hc:Ag c)(w:World):Calls prog 150 #[.int .i64 3,.int .i64 a,.int .i64 b,.int .i64 c] w fun e w'=>e=.returned (.int .i64 (CJ 3 a b c))/\Below w.heap.size w w':=by
 go_enter func150,ntmps150;go_wp2_with(first|(go_at_call 68;refine(EL _ ha.1 ha.2 _).mono ?_;rintro e w1 ⟨rfl,hw1⟩;obtain rfl:=hw1.symm));go_ret;exact⟨rfl,Ch _⟩
theorem Zg(a b c:Int)(ha:Ag a)(hb:Ag b)(hc:Ag c)(w:World):Calls prog 150 #[.int .i64 11,.int .i64 a,.int .i64 b,.int .i64 c] w fun e w'=>e=.returned (.int .i64 (CJ 11 a b c))/\Below w.heap.size w w':=by
 go_enter func150,ntmps150;go_wp2_with(first|(go_at_call 178;refine(RY _ ha.1 ha.2 _).mono ?_;rintro e w1 ⟨rfl,hb1⟩));go_ret;exact⟨rfl,hb1⟩
theorem Zh(a b c:Int)(ha:Ag a)(hb:Ag b)(hc:Ag c)(w:World):Calls prog 150 #[.int .i64 12,.int .i64 a,.int .i64 b,.int .i64 c] w fun e w'=>e=.returned (.int .i64 (CJ 12 a b c))/\Below w.heap.size w w':=by
 go_enter func150,ntmps150;go_wp2_with(first|(go_at_call 179;refine(ML _ ha.1 ha.2 _).mono ?_;rintro e w1 ⟨rfl,hb1⟩));go_ret;exact⟨rfl,hb1⟩
theorem Zi(a b c:Int)(ha:Ag a)(hb:Ag b)(hc:Ag c)(w:World):Calls prog 150 #[.int .i64 13,.int .i64 a,.int .i64 b,.int .i64 c] w fun e w'=>e=.returned (.int .i64 (CJ 13 a b c))/\Below w.heap.size w w':=by
 go_enter func150,ntmps150;go_wp2_with(first|(go_at_call 180;refine(U8 _ ha.1 ha.2 _).mono ?_;rintro e w1 ⟨rfl,hb1⟩));go_ret;exact⟨rfl,hb1⟩
theorem Zj(a b c:Int)(ha:Ag a)(hb:Ag b)(hc:Ag c)(w:World):Calls prog 150 #[.int .i64 14,.int .i64 a,.int .i64 b,.int .i64 c] w fun e w'=>e=.returned (.int .i64 (CJ 14 a b c))/\Below w.heap.size w w':=by
 go_enter func150,ntmps150;go_wp2_with(first|(go_at_call 182;refine(RQ _ ha _).mono ?_;rintro e w1 ⟨rfl,hw1⟩;obtain rfl:=hw1.symm)|(go_at_call 181;refine(K7 _ _).mono ?_;rintro e w1 ⟨rfl,hw1⟩;obtain rfl:=hw1.symm));go_ret;exact⟨rfl,Ch _⟩
theorem rdo_4(a b c:Int)(ha:Ag a)(hb:Ag b)(hc:Ag c)(w:World):Calls prog 150 #[.int .i64 4,.int .i64 a,.int .i64 b,.int .i64 c] w fun e w'=>e=.returned (.int .i64 (CJ 4 a b c))/\Below w.heap.size w w':=by
 go_enter func150,ntmps150;go_wp2_with(first|(go_at_call 125;refine(IK _ ha.1 ha.2 _ hb.1 hb.2 _).mono ?_;rintro e w1 ⟨rfl,hb1⟩));go_ret;exact⟨rfl,hb1⟩
theorem rdo_5(a b c:Int)(ha:Ag a)(hb:Ag b)(hc:Ag c)(w:World):Calls prog 150 #[.int .i64 5,.int .i64 a,.int .i64 b,.int .i64 c] w fun e w'=>e=.returned (.int .i64 (CJ 5 a b c))/\Below w.heap.size w w':=by
 go_enter func150,ntmps150;go_wp2_with(first|(go_at_call 183;refine(UZ _ ha.1 ha.2 _ hb.1 hb.2 _).mono ?_;rintro e w1 ⟨rfl,hb1⟩));go_ret;exact⟨rfl,hb1⟩
theorem rdo_6(a b c:Int)(ha:Ag a)(hb:Ag b)(hc:Ag c)(w:World):Calls prog 150 #[.int .i64 6,.int .i64 a,.int .i64 b,.int .i64 c] w fun e w'=>e=.returned (.int .i64 (CJ 6 a b c))/\Below w.heap.size w w':=by
 go_enter func150,ntmps150;go_wp2_with(first|(go_at_call 123;refine(IN _ ha.1 ha.2 _ hb.1 hb.2 _).mono ?_;rintro e w1 ⟨rfl,hb1⟩));go_ret;exact⟨rfl,hb1⟩
theorem rdo_7(a b c:Int)(ha:Ag a)(hb:Ag b)(hc:Ag c)(w:World):Calls prog 150 #[.int .i64 7,.int .i64 a,.int .i64 b,.int .i64 c] w fun e w'=>e=.returned (.int .i64 (CJ 7 a b c))/\Below w.heap.size w w':=by
 go_enter func150,ntmps150;go_wp2_with(first|(go_at_call 184;refine(Ub _ ha.1 ha.2 _ hb.1 hb.2 _).mono ?_;rintro e w1 ⟨rfl,hb1⟩));go_ret;exact⟨rfl,hb1⟩
theorem rdo_8(a b c:Int)(ha:Ag a)(hb:Ag b)(hc:Ag c)(w:World):Calls prog 150 #[.int .i64 8,.int .i64 a,.int .i64 b,.int .i64 c] w fun e w'=>e=.returned (.int .i64 (CJ 8 a b c))/\Below w.heap.size w w':=by
 go_enter func150,ntmps150;go_wp2_with(first|(go_at_call 126;refine(MK _ ha.1 ha.2 _ hb.1 hb.2 _).mono ?_;rintro e w1 ⟨rfl,hb1⟩));go_ret;exact⟨rfl,hb1⟩
theorem rdo_9(a b c:Int)(ha:Ag a)(hb:Ag b)(hc:Ag c)(w:World):Calls prog 150 #[.int .i64 9,.int .i64 a,.int .i64 b,.int .i64 c] w fun e w'=>e=.returned (.int .i64 (CJ 9 a b c))/\Below w.heap.size w w':=by
 go_enter func150,ntmps150;go_wp2_with(first|(go_at_call 185;refine(Ug _ ha.1 ha.2 _ hb.1 hb.2 _).mono ?_;rintro e w1 ⟨rfl,hb1⟩));go_ret;exact⟨rfl,hb1⟩
theorem Zf(a b c:Int)(ha:Ag a)(hb:Ag b)(hc:Ag c)(w:World):Calls prog 150 #[.int .i64 10,.int .i64 a,.int .i64 b,.int .i64 c] w fun e w'=>e=.returned (.int .i64 (CJ 10 a b c))/\Below w.heap.size w w':=by
 go_enter func150,ntmps150;go_wp2_with(first|(go_at_call 186;refine(RV _ ha.1 ha.2 _ hb.1 hb.2 _).mono ?_;rintro e w1 ⟨rfl,hb1⟩)|(go_at_call 181;refine(K7 _ _).mono ?_;rintro e w2 ⟨rfl,hw2⟩;obtain rfl:=hw2.symm));go_ret;exact⟨rfl,hb1⟩
theorem Zk(a b c:Int)(ha:Ag a)(hb:Ag b)(hc:Ag c)(w:World):Calls prog 150 #[.int .i64 15,.int .i64 a,.int .i64 b,.int .i64 c] w fun e w'=>e=.returned (.int .i64 (CJ 15 a b c))/\Below w.heap.size w w':=by
 go_enter func150,ntmps150;go_wp2_with(first|(go_at_call 187;refine(MQ _ ha.1 ha.2 _ hb.1 hb.2 _ hc.1 hc.2 _).mono ?_;rintro e w1 ⟨rfl,hb1⟩));go_ret;exact⟨rfl,hb1⟩
theorem XJ(op:Int)(h:BB op≠0)(a b c:Int)(ha:Ag a)(hb:Ag b)(hc:Ag c)(w:World):Calls prog 150 #[.int .i64 op,.int .i64 a,.int .i64 b,.int .i64 c] w fun e w'=>e=.returned (.int .i64 (CJ op a b c))/\Below w.heap.size w w':=by
 rcases Fs op h with rfl|rfl|rfl|rfl|rfl|rfl|rfl|rfl|rfl|rfl|rfl|rfl|rfl
 ·exact rdo_3 a b c ha hb hc w
 ·exact Zg a b c ha hb hc w
 ·exact Zh a b c ha hb hc w
 ·exact Zi a b c ha hb hc w
 ·exact Zj a b c ha hb hc w
 ·exact rdo_4 a b c ha hb hc w
 ·exact rdo_5 a b c ha hb hc w
 ·exact rdo_6 a b c ha hb hc w
 ·exact rdo_7 a b c ha hb hc w
 ·exact rdo_8 a b c ha hb hc w
 ·exact rdo_9 a b c ha hb hc w
 ·exact Zf a b c ha hb hc w
 ·exact Zk a b c ha hb hc w
theorem XI(p:Option Addr)(n c i:Nat)(X:Nat->Int)(hn:n<=1048576)(hi:i<=1048576)(h:n=1\/i<n)(w:World)(hp:AE w p n (fun j=>.int .i64 (X j))):
 Calls prog 149 #[.slice p n c,.int .i64 i] w fun e w'=>e=.returned (.int .i64 (X (if n=1 then 0 else i)))/\w'=w:=by
 rcases hp with hp|⟨b,o,rfl,hp⟩
 ·omega
 by_cases h1:n=1
 ·subst h1;have c1:=hp 0 oM;rw[Nat.add_zero]at c1;rw[if_pos rfl];clear hp h;go_enter func149,ntmps149;go_wp2;go_ret;exact⟨rfl,rfl⟩
 ·have c1:=hp i oM;have n1:¬ ((n:Int)=1):=oM;have i1:(0:Int)<=(i:Int):=oM;have i2:(i:Int)<(n:Int):=oM;rw[if_neg h1];clear hp h;go_enter func149,ntmps149;go_wp2;go_ret;exact⟨rfl,rfl⟩
def VX(w:World)(l:Nat->Nat)(m:Nat)(nv iv:Value)(wr:World):Prop:=wr=w/\∃j R:Nat,j<=m/\iv=.int .i64 j/\nv=.int .i64 R/\R=rn l j
def VY(w:World)(m:Nat)(iv:Value)(wr:World):Prop:=wr=w/\∃i:Nat,i<=m/\iv=.int .i64 i
theorem Zl(F:Nat->Int)(j k:Nat):(if k=j then Value.int .i64 (F j)else .int .i64 (if k<j then F k else 0))=.int .i64 (if k<j+1 then F k else 0):=by
 exact Zez
theorem row3(w:World)(t:TypeId):(w.alloc (.cells #[.int .i64 0,.int .i64 0,.int .i64 0] t)).rowIs w.heap.size t 3 (fun _=>.int .i64 0):=
 World.rowIs_alloc w #[.int .i64 0,.int .i64 0,.int .i64 0] t (fun _=>.int .i64 0) (by
  intro i hi;have:i=0\/i=1\/i=2:=by simp at hi;omega
  rcases this with rfl|rfl|rfl<;>rfl)
theorem RG(op:Int)(h0:BB op≠0)(b o m cq:Nat)(hm:BB op=m)(n:Nat)(P:Nat->Option Addr)(l c:Nat->Nat)(X:Nat->Nat->Int)(hX:∀i j,Ag (X i j))(hl:∀i,l i<=1048576)(hs:BZ l (m-1)=some n)(w:World)(hL:G8 .i64 w (some ⟨b,o,none⟩) m P l c X):
 Calls prog 120 #[.int .i64 op,.slice (some ⟨b,o,none⟩) m cq] w fun e w'=>∃q cap,e=.returned (.tuple #[.slice q n cap,.int .i64 0])/\AE w' q n (fun i=>.int .i64 (CJ op (Bd l X m i 0) (Bd l X m i 1) (Bd l X m i 2)))/\Below w.heap.size w w'/\∀b o s,q=some ⟨b,o,s⟩->w.heap.size<=b:=by
 obtain⟨i0,hi0,hz0,hz1,hz2⟩:=info_parts Tw;have hn:n<=1048576:=Vm hl hs;have hm3:m<=3:=by rw[←hm];exact Ft op
 have ht:¬ ((m:Int)=0):=oM;have hm1:1<=m:=oM;have HL:Hid (G8 .i64 w (some ⟨b,o,none⟩) m P l c X/\(∀i,l i<=1048576)/\BZ l (m-1)=some n/\(∀i j,Ag (X i j))):=⟨hL,hl,hs,hX⟩
 have H0:Hid (BB op≠0/\BB op=m):=⟨h0,hm⟩
 have h00:=Es hL 0 oM;rw[Nat.add_zero]at h00;have d0:((m:Int)==0)=false:=sO;clear hL hl hs hX h0 hm;go_enter func120,ntmps120;go_wp2_with(go_at_call 121;refine(IQ op _).mono ?_;rintro e w1 ⟨rfl,hw1⟩;obtain rfl:=hw1.symm;rw[H0.out.2])
 go_loopw [7,8] (fun nv iv wr=>VX w l m nv iv wr) (fun _ iv _=>m-(intOf iv).toNat)
 case atStart=>unfold VX;exact⟨rfl,0,_,Nat.zero_le _,rfl,rfl,rfl⟩
 case round=>
  obtain⟨rfl,j,R,hj,rfl,rfl,hR⟩:=hrel;by_cases hlt:j<m
  ·have h1:=Es HL.out.1 j hlt;have i1:(0:Int)<=(j:Int):=oM;have i2:(j:Int)<(m:Int):=oM;obtain⟨L,hLL⟩:∃L,L=l j:=⟨_,rfl⟩
   have HRN:Hid (rn l (j+1)=if R=1\/L=0 then L else R):=by rw[hR];subst hLL;rfl
   rw[←hLL]at h1;clear hR hLL;by_cases c1:R=1
   ·have HR1:Hid (rn l (j+1)=L):=by rw[HRN.out,if_pos (.inl c1)];exact rfl
    subst c1;exact Zfm
   ·have c2:¬ ((R:Int)=1):=oM;by_cases c3:L=0
    ·have HR1:Hid (rn l (j+1)=L):=by rw[HRN.out,if_pos (.inr c3)];exact rfl
     subst c3;go_wp2;go_roundw
     case rel=>unfold VX;exact⟨rfl,j+1,0,oM,gN,rfl,HR1.out.symm⟩
     case measure=>simp[intOf];omega
    ·have HR1:Hid (rn l (j+1)=R):=by rw[HRN.out,if_neg oM];exact rfl
     have c4:¬ ((L:Int)=0):=oM;have d1:((R:Int)==1)=false:=by simp[c2]
     have d2:((L:Int)==0)=false:=sO;exact Zfm
  ·have:j=m:=oM;subst this;have hrn:n=R:=by rw[hR];have:=Zm HL.out.2.2.1;rw[show j-1+1=j by omega]at this;exact this.symm
   subst hrn;clear hR;go_wp2
   go_loopw [9] (fun iv wr'=>VY wr j iv wr') (fun iv _=>j-(intOf iv).toNat)
   case atStart=>unfold VY;exact⟨rfl,0,Nat.zero_le _,rfl⟩
   case round=>
    obtain⟨rfl,i,hi,rfl⟩:=hrel;by_cases hlt:i<j
    ·have h1:=Es HL.out.1 i hlt;have i1:(0:Int)<=(i:Int):=oM;have i2:(i:Int)<(j:Int):=oM;have hg:=N7 HL.out.2.2.1 i oM;obtain⟨L,hLL⟩:∃L,L=l i:=⟨_,rfl⟩
     rw[←hLL]at h1 hg;clear hLL;by_cases c1:L=n
     ·subst c1;clear hg;go_wp2;go_roundw
      case rel=>unfold VY;exact⟨rfl,i+1,oM,gN⟩
      case measure=>simp[intOf];omega
     ·have c2:L=1:=oM;have c3:¬ ((n:Int)=0):=oM;have c4:¬ ((1:Int)=(n:Int)):=oM;have d1:((n:Int)==0)=false:=sO;have d2:((1:Int) != (n:Int))=true:=by simp[c4]
      subst c2;clear hg;go_wp2;go_roundw
      case rel=>unfold VY;exact⟨rfl,i+1,oM,gN⟩
      case measure=>simp[intOf];omega
    ·have:i=j:=oM;subst this;obtain⟨G,HG⟩:∃G:Nat->Int,Hid (G=fun t=>CJ op (Bd l X i t 0) (Bd l X i t 1) (Bd l X i t 2)):=⟨_,rfl⟩
     clear h00;rename World=>W0;go_wp2
     go_loopw [10,11] (fun ov iv wr=>Below W0.heap.size W0 wr/\∃ (k:Nat) (v:Value),v=ov/\k<=n/\iv=.int .i64 k/\Hid (wr.ownsRow W0.heap.size 3 1 v k (vals (fun t=>.int .i64 (G t)) k))) (fun _ iv _=>n-(intOf iv).toNat)
     case atStart=>exact⟨Ch _,0,_,rfl,Nat.zero_le _,rfl,World.ownsRow_nil _ _ _ _⟩
     case round=>
      obtain⟨hb,k,ov,rfl,hk,rfl,hown⟩:=hrel;by_cases hlt:k<n
      ·rename World=>W3;have i1:(k:Int)<(n:Int):=oM;obtain⟨E,HE⟩:∃E:Nat->Int,Hid (E=Bd l X i k):=⟨_,rfl⟩
       have HGk:Hid (CJ op (E 0) (E 1) (E 2)=G k/\Ag (E 0)/\Ag (E 1)/\Ag (E 2)):=by
        have e1:=HE.out;have e2:=HG.out;have hXX:=HL.out.2.2.2;subst e1;subst e2;exact⟨rfl,B4 hXX _ _ _,B4 hXX _ _ _,B4 hXX _ _ _⟩
       have HT:Hid ((W3.alloc (.cells #[.int .i64 0,.int .i64 0,.int .i64 0] 218)).rowIs W3.heap.size 218 3 (fun _=>.int .i64 0)):=row3 W3 _;go_wp2
       go_loopw [13] (fun iv wr=>Below W3.heap.size W3 wr/\∃j:Nat,j<=i/\iv=.int .i64 j/\Hid (wr.rowIs W3.heap.size 218 3 (fun t=>.int .i64 (if t<j then E t else 0)))) (fun iv _=>i-(intOf iv).toNat)
       case atStart=>exact⟨AG W3 _,0,Nat.zero_le _,rfl,HT.out.congr fun t ht=>by simp⟩
       case round=>
        obtain⟨hb4,j,hj,rfl,hrow⟩:=hrel;clear HT;by_cases hlt4:j<i
        ·have hL4:=HL.out.1.below (Da hb hb4);have h1:=Es hL4 j hlt4;have HPJ:Hid (AE wr (P j) (l j) (fun t=>.int .i64 (X j t))/\(l j=1\/k<l j)/\X j (if l j=1 then 0 else k)=E j/\l j<=1048576):=⟨hL4.parts j hlt4,Kg HL.out.2.2.1 oM hlt,by rw[HE.out];unfold Bd;rw[if_pos hlt4],HL.out.2.1 j⟩
         have c1:=hrow.out.cell (i:=j) oM;have f1:=hrow.out.frozen j;have i2:(0:Int)<=(j:Int):=oM;have i3:(j:Int)<(i:Int):=oM;have i4:(j:Int)<3:=oM;have j3:j<3:=oM;have HR:Hid (∀x,(wr.setCell ⟨W3.heap.size,j,none⟩ x).rowIs W3.heap.size 218 3 (fun t=>if t=j then x else .int .i64 (if t<j then E t else 0))):=fun x=>hrow.out.set j x;clear hL4;go_wp2_with(go_at_call 149;refine(XI _ _ _ k (X j) HPJ.out.2.2.2 oM HPJ.out.2.1 wr HPJ.out.1).mono ?_;rintro e w5 ⟨rfl,hw5⟩;obtain rfl:=hw5.symm;rw[HPJ.out.2.2.1]);go_roundw
         case rel=>exact⟨hb4.setCell (Nat.le_refl _) _,j+1,oM,gN,(HR.out _).congr fun t ht=>Zl E j t⟩
         case measure=>simp[intOf];omega
        ·have:j=i:=oM;subst this;have e0:∀t,t<3->(if t<j then E t else 0)=E t:=by
          intro t ht;by_cases q:t<j
          ·rw[if_pos q]
          ·rw[if_neg q,HE.out];unfold Bd;rw[if_neg q]
         have r1:=hrow.out.congr (g:=fun t=>.int .i64 (E t)) (fun t ht=>by rw[e0 t ht]);have c0:=r1.cell (i:=0) oM;have c1:=r1.cell (i:=1) oM;have c2:=r1.cell (i:=2) oM;clear r1 e0 hrow;go_wp2_with(first
          |(go_at_call 150;refine(XJ op H0.out.1 (E 0) (E 1) (E 2) HGk.out.2.1 HGk.out.2.2.1 HGk.out.2.2.2 wr).mono ?_;rintro e w6 ⟨rfl,hb6⟩;rw[HGk.out.1];have hown6:Hid (w6.ownsRow W0.heap.size 3 1 ov k (vals (fun t=>.int .i64 (G t)) k)):=OJ hown.out (Da hb4 hb6);have hob:Hid (∀j,ov.ownBlock=some j->W0.heap.size<=j/\j<W3.heap.size):=hown.out.lt;have HB6:Below W0.heap.size W0 w6:=Da (Da hb hb4) hb6;have sz:=HB6.size)
          |(at_builtin;refine wpList_append_own _ rfl _ _ 82 rfl W0.heap.size 3 i0 _ 1 8 underlying82 hi0 hz0 hz1 hz2 rfl dE ov k (vals (fun t=>.int .i64 (G t)) k) rfl (hown6.out.alloc _) ⟨w6.heap.size,0,none⟩ 1 1 [.int .i64 (G k)] rfl rfl (World.news_of_block (cs:=#[.int .i64 (G k)]) (t:=3) (fr:=(0,0)) (heap_alloc_new w6 _)) SD mL oM sO ?_;intro v' w7 hown7 hgrow hnil;have HB7:Below W0.heap.size W0 w7:=Below.grown (HB6.alloc sz _) hgrow sO (fun j e=>(hob.out j e).1);have HO:Hid (w7.ownsRow W0.heap.size 3 1 v' (k+1) (vals (fun t=>.int .i64 (G t)) k++[.int .i64 (G k)])):=hown7;clear hown7 hgrow hnil))
         go_roundw
         case rel=>exact⟨HB7,k+1,_,rfl,oM,gN,by rw[Kn];exact HO⟩
         case measure=>simp[intOf];omega
      ·have:k=n:=oM;subst this;obtain⟨q,cap,rfl,hR,hg,-⟩:=JZ hown.out;have HR:Hid (AE wr q k (fun t=>.int .i64 (G t))):=hR;have HLO:Hid (∀b o s,q=some ⟨b,o,s⟩->W0.heap.size<=b):=hg;clear hR hg hown;go_wp2;go_returns;have e2:=HG.out;subst e2;first|exact⟨_,_,rfl,HR.out,hb,HLO.out⟩|exact⟨_,⟨_,rfl⟩,HR.out,hb,HLO.out⟩
end Go.Proofs.YtbinohkcolcbfaaGreat
