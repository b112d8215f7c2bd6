import Derived.Test.YtjglaibglofddaaGreatSpe33
import Derived.Deep.DeepCutAuto
import Derived.Test.YtjglaibglofddaaGreatSpe32
import Derived.Test.YtjglaibglofddaaGreatSpe25
import Derived.Test.YtjglaibglofddaaGreatSpe1
import Derived.Test.YtjglaibglofddaaGreatSpe13
import Derived.Deep.CutBlock
namespace Go.Proofs.YtjglaibglofddaaGreat
open Go.RowKit Go.Proofs.Tryz
set_option linter.all false
set_option maxRecDepth 100000
set_option maxHeartbeats 16000000
theorem Ul{α:Type}{k:Nat}{f:α->List Value}(hf:∀x,(f x).length=k){l:List α}(w:World)(cs:Array Value)(t:TypeId)(h:cs.toList=AT f l)(c:Nat):Bj k f (w.alloc (.cells cs t)) (.slice (some ⟨w.heap.size,0,none⟩) l.length c) l:=by
 refine⟨_,_,rfl,.inr ⟨w.heap.size,0,rfl,fun i hi j hj=>?_⟩⟩;have hj':j<k:=by rw[<-hf l[i]];exact hj
 have h1:=GQ hf l i j hi hj';rw[<-h]at h1;have h2:cs[0+i*k+j]? =some (f l[i])[j]:=by
  rw[Nat.zero_add,<-Array.getElem?_toList,h1,gB hj]
 have h3:(w.alloc (.cells cs t)).heap[w.heap.size]? =some (.cells cs t (0,0)):=heap_alloc_new w _;unfold World.cell?;simp only[h3];exact h2
theorem FT{α:Type}{k:Nat}{f:α->List Value}(hf:∀x,(f x).length=k){l:List α}(w:World)(cs:Array Value)(t:TypeId)(h:cs.toList=AT f l)(c:Nat){n:Nat}(hn:w.heap.size=n):Bj k f (w.alloc (.cells cs t)) (.slice (some ⟨n,0,none⟩) l.length c) l:=by
 subst hn;exact Ul hf w cs t h c
def JN:Cd:=⟨[⟨⟨#[119]⟩,1,3⟩],[⟨3,0⟩,⟨1,0⟩],[],[⟨29,0,0,0,0,0,0⟩,⟨19,1,0,0,0,0,0⟩,⟨6,0,0,1,0,0,0⟩,⟨31,0,0,0,0,0,0⟩]⟩
theorem Lf:(Ag JN).1=0:=by decide+kernel
theorem O9:AZ JN:=⟨dE,dE,dE,dE,dE,dE,dE⟩
theorem UA:Ed JN=12:=by decide+kernel
theorem UC:EM JN=4:=by decide+kernel
theorem Sg:Cb JN 1=(3,0):=by decide+kernel
theorem PB:Fp JN=0:=by decide+kernel
def Wo:Cd:=⟨[],[],[],[⟨0,0,0,0,0,0,0⟩]⟩
theorem Wp:AZ Wo:=⟨dE,dE,dE,dE,dE,dE,dE⟩
theorem OD:Fp Wo=160:=by decide+kernel
theorem MS(w:World):Calls prog 11 #[] w fun e w'=>∃a b d,e=.returned (.agg #[.slice (some ⟨a,0,none⟩) 1 1,.slice (some ⟨b,0,none⟩) 2 2,.slice none 0 0,.slice (some ⟨d,0,none⟩) 4 4])/\Cy w' (.slice (some ⟨a,0,none⟩) 1 1) (.slice (some ⟨b,0,none⟩) 2 2) (.slice none 0 0) (.slice (some ⟨d,0,none⟩) 4 4) JN/\Below w.heap.size w w':=by
 go_enter func11,ntmps11;go_wp2;refine bodyPost_ret (by simp[results,results11,go_sem];try rfl) rfl ?_;refine⟨_,_,_,rfl,?_,gG⟩;exact⟨(FT (l:=JN.sign) FL _ _ _ rF 1 sM).below (A0 _ _),FT (l:=JN.regs) GY _ _ _ rF 2 sM,⟨none,0,rfl,.inl rfl⟩,((FT (l:=JN.list) FD _ _ _ rF 4 sM).below (A0 _ _)).below (A0 _ _)⟩
theorem Lr(w:World):Calls prog 6 #[] w fun e w'=>e=.returned (.bool true)/\Below w.heap.size w w':=by
 have KS:=Aa (fun v=>MS v);have K1:=Aa (fun(v:World) (a0 a1 a2 a3:Value) (h:Cy v a0 a1 a2 a3 JN)=>J5 a0 a1 a2 a3 JN O9 v h);have K2:=Aa (fun(v:World) (a0 a1 a2 a3:Value) (h:Cy v a0 a1 a2 a3 JN)=>PI a0 a1 a2 a3 JN O9 v h);have K3:=Aa (fun(v:World) (a0 a1 a2 a3:Value) (h:Cy v a0 a1 a2 a3 JN)=>JK a0 a1 a2 a3 JN O9 1 v h);have K4:=Aa (fun(v:World) (a0 a1 a2 a3:Value) (h:Cy v a0 a1 a2 a3 JN)=>Ih a0 a1 a2 a3 JN O9 v h);have K5:=Aa (fun(v:World) (a0 a1 a2 a3:Value) (h:Cy v a0 a1 a2 a3 Wo)=>Ih a0 a1 a2 a3 Wo Wp v h);rw[Lf,UA,if_pos rfl]at K1;rw[Lf,UC,if_pos rfl]at K2;rw[Sg]at K3;rw[PB]at K4;rw[OD]at K5;simp only at K3;have K6:Hid (∀v:World,Calls prog 14 #[.agg #[.slice none 0 0,.slice none 0 0,.slice none 0 0,.slice (some ⟨v.heap.size,0,none⟩) 1 1]] (v.alloc (.cells #[.int .i64 0,.int .i64 0,.int .i64 0,.int .i64 0,.int .i64 0,.int .i64 0,.int .u32 0] 55)) fun e w'=>e=.returned (.int .i64 160)/\Below v.heap.size v w'):=fun v=>(K5.out _ _ _ _ _ ⟨⟨none,0,rfl,.inl rfl⟩,⟨none,0,rfl,.inl rfl⟩,⟨none,0,rfl,.inl rfl⟩,FT (l:=Wo.list) FD v _ _ rF 1 rfl⟩).mono fun e w' ⟨h1,h2⟩=>⟨h1,bel (A0 _ _) h2⟩
 clear K5;go_enter func6,ntmps6;go_upto_region 2 with(first|(go_at_call 11;(with_reducible refine(KS.out _).mono ?_);rintro r9 w1 ⟨a1,b1,d1,rfl,hc1,hb1⟩;have HC1:=Aa hc1;have HB1:=Aa hb1;clear hc1 hb1)|(go_at_call 4;(with_reducible refine(K1.out _ _ _ _ _ HC1.out).mono ?_);rintro r9 w2 ⟨rfl,hb2⟩;have HB2:=Aa (bel HB1.out hb2);clear hb2))
 clear HC1 HB1 K1;go_upto_region 3 with(first|(go_at_call 11;(with_reducible refine(KS.out _).mono ?_);rintro r9 w3 ⟨a1,b1,d1,rfl,hc1,hb1⟩;have HC3:=Aa hc1;have HB3:=Aa (bel HB2.out hb1);clear hc1 hb1)|(go_at_call 12;(with_reducible refine(K2.out _ _ _ _ _ HC3.out).mono ?_);rintro r9 w4 ⟨rfl,hb2⟩;have HB4:=Aa (bel HB3.out hb2);clear hb2))
 clear HC3 HB2 HB3 K2;go_upto_region 4 with(first|(go_at_call 11;(with_reducible refine(KS.out _).mono ?_);rintro r9 w5 ⟨a1,b1,d1,rfl,hc1,hb1⟩;have HC5:=Aa hc1;have HB5:=Aa (bel HB4.out hb1);clear hc1 hb1)|(go_at_call 13;(with_reducible refine(K3.out _ _ _ _ _ HC5.out).mono ?_);rintro r9 w6 ⟨rfl,hb2⟩;have HB6:=Aa (bel HB5.out hb2);clear hb2))
 clear HC5 HB4 HB5 K3;go_wp2_with(first
  |(go_at_call 11;(with_reducible refine(KS.out _).mono ?_);rintro r9 w7 ⟨a1,b1,d1,rfl,hc1,hb1⟩;have HC7:=Aa hc1;have HB7:=Aa (bel HB6.out hb1);clear hc1 hb1)
  |(go_at_call 14;(with_reducible refine(K4.out _ _ _ _ _ HC7.out).mono ?_);rintro r9 w8 ⟨rfl,hb2⟩;have HB8:=Aa (bel HB7.out hb2);clear hb2)
  |(go_at_call 14;(with_reducible refine(K6.out _).mono ?_);rintro r9 w9 ⟨rfl,hb2⟩;have HB9:=Aa (bel HB8.out hb2);clear hb2))
 refine bodyPost_ret (by simp[results,results6,go_sem, *];try rfl) rfl ?_;exact⟨by first|rfl|simp,HB9.out⟩
theorem Vf{T:Nat->Prop}{w:World}{p:Option Addr}{n q B:Nat}{S:List Cl}(h:SC w (.slice p n q) S)(hp:∀b o s,p=some ⟨b,o,s⟩->B<=b)(hx:∀x∈S,∀b o s,x.p=some ⟨b,o,s⟩->B<=b)(hT:∀b,T b->b<B):AI T w (.slice p n q) S:=by
 obtain⟨p',q',e,hr⟩:=h.row;simp only[Value.slice.injEq]at e;obtain⟨rfl,rfl,rfl⟩:=e;refine⟨⟨p,q,rfl,?_⟩,fun x hx'=>(h.nums x hx').free (hx x hx') hT⟩;by_cases h0:S=[]
 .exact .inl h0
 .rcases hr with e|⟨b,o,e,hc⟩
  .exact absurd e h0
  .refine .inr ⟨b,o,e,fun k=>by have h1:=hT b k;have h2:=hp b o none e;omega,?_,hc⟩;have h1:=(hc 0 (List.length_pos_iff.2 h0)).at 0 (v:=.slice (S[0]'(List.length_pos_iff.2 h0)).p (S[0]'(List.length_pos_iff.2 h0)).h.pats.length (S[0]'(List.length_pos_iff.2 h0)).q) rfl;exact A3 h1
theorem Vq{T:Nat->Prop}{w5 w6:World}{a0 a1 a2 a3:Value}{p5 pu:Option Addr}{n2 q5 nu qu:Nat}{S':List Cl}{hs':List Hd}{L:List (List Int)}{c:Cd}{E:Int}{NX:Nat}(hn:w6.rowIs w5.heap.size 36 5 (f5 (.slice none 0 0) (.slice none 0 0) (.slice none 0 0) (.slice none 0 0) (.slice none 0 0)))(hb:Below w5.heap.size w5 w6)(h1:S'.map (·.h)=hs')(h2:AI (fun b=>T b\/b=w5.heap.size) w6 (.slice p5 n2 q5) S')(h3:Fe (fun b=>b<NX) w6 (.slice pu nu qu) L)(h4:J6 c hs')(hX:w5.heap.size<NX):
 ∃NB p5' q5' pu' nu' qu' S'',Value.pointer (some ⟨w5.heap.size,0,none⟩)=.pointer (some ⟨NB,0,none⟩)/\Value.slice pu nu qu=.slice pu' nu' qu'/\Value.int .i64 E=.int .i64 E/\Hid ((((((w6.setCell ⟨w5.heap.size,0,none⟩ a0).setCell ⟨w5.heap.size,1,none⟩ a1).setCell ⟨w5.heap.size,2,none⟩ a2).setCell ⟨w5.heap.size,3,none⟩ a3).setCell ⟨w5.heap.size,4,none⟩ (.slice p5 n2 q5)).rowIs NB 36 5 (f5 a0 a1 a2 a3 (.slice p5' n2 q5'))/\w5.heap.size<=NB/\S''.map (·.h)=hs'/\AI T (((((w6.setCell ⟨w5.heap.size,0,none⟩ a0).setCell ⟨w5.heap.size,1,none⟩ a1).setCell ⟨w5.heap.size,2,none⟩ a2).setCell ⟨w5.heap.size,3,none⟩ a3).setCell ⟨w5.heap.size,4,none⟩ (.slice p5 n2 q5)) (.slice p5' n2 q5') S''/\Fe (fun b=>b<w5.heap.size) (((((w6.setCell ⟨w5.heap.size,0,none⟩ a0).setCell ⟨w5.heap.size,1,none⟩ a1).setCell ⟨w5.heap.size,2,none⟩ a2).setCell ⟨w5.heap.size,3,none⟩ a3).setCell ⟨w5.heap.size,4,none⟩ (.slice p5 n2 q5)) (.slice pu' nu' qu') L/\J6 c hs'/\Below w5.heap.size w5 (((((w6.setCell ⟨w5.heap.size,0,none⟩ a0).setCell ⟨w5.heap.size,1,none⟩ a1).setCell ⟨w5.heap.size,2,none⟩ a2).setCell ⟨w5.heap.size,3,none⟩ a3).setCell ⟨w5.heap.size,4,none⟩ (.slice p5 n2 q5))):=by
 have hu:Un (fun b=>b=w5.heap.size) w6 (((((w6.setCell ⟨w5.heap.size,0,none⟩ a0).setCell ⟨w5.heap.size,1,none⟩ a1).setCell ⟨w5.heap.size,2,none⟩ a2).setCell ⟨w5.heap.size,3,none⟩ a3).setCell ⟨w5.heap.size,4,none⟩ (.slice p5 n2 q5)):=(((((Un.refl _ _).setCell rF _).setCell rF _).setCell rF _).setCell rF _).setCell rF _;refine⟨_,p5,q5,pu,nu,qu,S',rfl,rfl,rfl,(((((hn.set 0 a0).set 1 a1).set 2 a2).set 3 a3).set 4 _).congr (fun j hj=>?_),gF _,h1,(h2.un hu fun b _ e=>.inr e).mono fun b _ e=>.inl e,(h3.un hu fun b _ e=>by omega).mono fun b _ e=>by omega,h4,((((hb.setCell (gF _) _).setCell (gF _) _).setCell (gF _) _).setCell (gF _) _).setCell (gF _) _⟩;have hj':j<5:=hj;obtain rfl|rfl|rfl|rfl|rfl:j=0\/j=1\/j=2\/j=3\/j=4:=oM
 all_goals rfl
theorem QA{T:Nat->Prop}{w5 w6:World}{a0 a1 a2 a3:Value}{p5 pu:Option Addr}{n2 q5 nu qu:Nat}{S':List Cl}{hs':List Hd}{L:List (List Int)}{c:Cd}{E:Int}(hb:Below w5.heap.size w5 w6)(h1:S'.map (·.h)=hs')(h2:AI (fun b=>T b\/False) w6 (.slice p5 n2 q5) S')(h3:Fe (fun b=>b<w5.drew.heap.size) w6 (.slice pu nu qu) L)(h4:J6 c hs'):
 ∃NB p5' q5' pu' nu' qu' S'',Value.pointer (some ⟨w6.heap.size,0,none⟩)=.pointer (some ⟨NB,0,none⟩)/\Value.slice pu nu qu=.slice pu' nu' qu'/\Value.int .i64 E=.int .i64 E/\Hid ((w6.alloc (.cells #[a0,a1,a2,a3,.slice p5 n2 q5] 36)).rowIs NB 36 5 (f5 a0 a1 a2 a3 (.slice p5' n2 q5'))/\w5.heap.size<=NB/\S''.map (·.h)=hs'/\AI T (w6.alloc (.cells #[a0,a1,a2,a3,.slice p5 n2 q5] 36)) (.slice p5' n2 q5') S''/\Fe (fun b=>b<w5.heap.size) (w6.alloc (.cells #[a0,a1,a2,a3,.slice p5 n2 q5] 36)) (.slice pu' nu' qu') L/\J6 c hs'/\Below w5.heap.size w5 (w6.alloc (.cells #[a0,a1,a2,a3,.slice p5 n2 q5] 36))):=
 ⟨_,p5,q5,pu,nu,qu,S',rfl,rfl,rfl,World.rowIs_alloc w6 _ _ _ (Gw _ _ _ _ _),hb.size,h1,(h2.mono (fun b _ e=>.inl e)).below (A0 _ _),(h3.mono (fun b _ e=>Nat.lt_of_lt_of_le e (Q7 w5).size)).below (A0 _ _),h4,bel hb (A0 _ _)⟩
theorem Vh{w:World}{B:Nat}{a0 a1 a2 a3 a4 b0 b1 b2 b3 b4:Value}(h:w.rowIs B 36 5 (f5 b0 b1 b2 b3 b4)):
 (((((w.setCell ⟨B,0,none⟩ a0).setCell ⟨B,1,none⟩ a1).setCell ⟨B,2,none⟩ a2).setCell ⟨B,3,none⟩ a3).setCell ⟨B,4,none⟩ a4).rowIs B 36 5 (f5 a0 a1 a2 a3 a4)/\Un (fun b=>b=B) w (((((w.setCell ⟨B,0,none⟩ a0).setCell ⟨B,1,none⟩ a1).setCell ⟨B,2,none⟩ a2).setCell ⟨B,3,none⟩ a3).setCell ⟨B,4,none⟩ a4):=by
 refine⟨(((((h.set 0 a0).set 1 a1).set 2 a2).set 3 a3).set 4 a4).congr (fun j hj=>?_),(((((Un.refl _ _).setCell rF _).setCell rF _).setCell rF _).setCell rF _).setCell rF _⟩;have hj':j<5:=hj;obtain rfl|rfl|rfl|rfl|rfl:j=0\/j=1\/j=2\/j=3\/j=4:=oM
 all_goals rfl
def Th(c:Cd)(G P:List (List Int)):Int:=if Fg c G P=true then 0 else 170
def W7(c:Cd)(l:List Hd)(G P:List (List Int)):List Hd:=if Fg c G P=true then(M1 c l G P).slots else l
def Xo(c:Cd)(l:List Hd)(G P:List (List Int)):List (List Int):=if Fg c G P=true then MV c (M1 c l G P)else []
def Zn(w:World)(s:St):Prop:=JM w s.gv s.G/\JM w s.pv s.P/\GJ s.G/\GJ s.P
def VN(c:Cd)(l:List Hd)(G P:List (List Int)):Int:=if Fg c G P=true then WM c l G P else 0
theorem MQ{T:Nat->Prop}(p0 p1 p2 p3 ps pg pp:Option Addr)(q0 q1 q2 q3 qs qg qp:Nat)(c:Cd)(hc:(Ag c).1=0)(hk:AZ c)(l:List Hd)(hso:J6 c l)(S0:List Cl)(hS0:S0.map (·.h)=l)(G P:List (List Int))(kG:GJ G)(kP:GJ P)(w:World)(hT:∀b,T b->b<w.heap.size)
 (hv:Cy w (.slice p0 c.sign.length q0) (.slice p1 c.regs.length q1) (.slice p2 c.slots.length q2) (.slice p3 c.list.length q3) c) (hss:AI T w (.slice ps c.slots.length qs) S0) (hgv:JM w (.slice pg G.length qg) G) (hpv:JM w (.slice pp P.length qp) P):
 Calls prog 8 #[.agg #[.slice p0 c.sign.length q0,.slice p1 c.regs.length q1,.slice p2 c.slots.length q2,.slice p3 c.list.length q3,.slice ps c.slots.length qs],.slice pg G.length qg,.slice pp P.length qp] w fun e w'=>∃p5 q5 pu nu qu S',e=.returned (.tuple #[.agg #[.slice p0 c.sign.length q0,.slice p1 c.regs.length q1,.slice p2 c.slots.length q2,.slice p3 c.list.length q3,.slice p5 c.slots.length q5],.slice pu nu qu,.int .i64 (Th c G P),.int .i64 (VN c l G P)])/\S'.map (·.h)=W7 c l G P/\AI T w' (.slice p5 c.slots.length q5) S'/\Fe (fun b=>b<w.heap.size) w' (.slice pu nu qu) (Xo c l G P)/\J6 c (W7 c l G P)/\Below w.heap.size w w':=by
 unfold Th W7 Xo VN;by_cases hf:Fg c G P=true
 .rw[if_pos hf,if_pos hf,if_pos hf,if_pos hf];refine(KQ (T:=T) p0 p1 p2 p3 ps pg pp q0 q1 q2 q3 qs qg qp c hc hk l hso S0 hS0 G P kG kP hf w hT hv hss hgv hpv).mono ?_;rintro e w' ⟨p5,q5,pu,qu,S',rfl,k1,k2,k3,k4,k5⟩;exact⟨p5,q5,pu,c.sign.length,qu,S',rfl,k1,k2,k3,k4,k5⟩
 .rw[if_neg hf,if_neg hf,if_neg hf,if_neg hf];refine(MH p0 p1 p2 p3 ps pg pp q0 q1 q2 q3 qs qg qp c (GR hc).1 hk G P kG kP (by simpa using hf) w hv hgv hpv).mono ?_;rintro e w' ⟨rfl,k5⟩;exact⟨ps,qs,none,0,0,S0,rfl,hS0,hss.below k5,⟨none,0,rfl,.inl rfl⟩,hso,k5⟩
theorem Si{c:Cd}(hc:(Ag c).1=0)(l:List Hd)(G P:List (List Int)):VN c l G P<=Ed c:=by
 unfold VN;split
 .exact Sh hc
 .obtain⟨h1,h2⟩:=Ha c.list (fun i hi=>DK hc i hi);show 0<=Bw c c.list;omega
theorem G3(v0 v1 v2 v3:Value)(c:Cd)(hk:AZ c)(hz:W9 c)(v4:Value)(l:List St)(hl:l.length<=140737488351232)(w:World)(hv:Cy w v0 v1 v2 v3 c)(hr:Bj 2 WP w v4 l)(hs:∀s∈l,SI w s):
 Calls prog 3 #[.agg #[v0,v1,v2,v3],v4] w fun e w'=>e=.returned (.bool true)/\Below w.heap.size w w':=by
 have KW:=B8 (fun v=>Lr v);have KC:=B8 (fun(u:World) (x0 x1 x2 x3:Value) (h:Cy u x0 x1 x2 x3 c)=>J5 x0 x1 x2 x3 c hk u h);have KT:=B8 (fun(v:World) (h:Below w.heap.size w v)=>MU v0 v1 v2 v3 c hz v (hv.below h));obtain⟨p0,q0,rfl⟩:∃p q,v0=.slice p c.sign.length q:=by obtain⟨p,q,e,_⟩:=hv.sign;exact⟨p,q,e⟩
 obtain⟨p1,q1,rfl⟩:∃p q,v1=.slice p c.regs.length q:=by obtain⟨p,q,e,_⟩:=hv.regs;exact⟨p,q,e⟩
 obtain⟨p2,q2,rfl⟩:∃p q,v2=.slice p c.slots.length q:=by obtain⟨p,q,e,_⟩:=hv.slots;exact⟨p,q,e⟩
 obtain⟨p3,q3,rfl⟩:∃p q,v3=.slice p c.list.length q:=by obtain⟨p,q,e,_⟩:=hv.list;exact⟨p,q,e⟩
 obtain⟨p4,q4,rfl,hrow⟩:=hr;have HROW:=B8 hrow;have HS:=B8 (fun(s:St) (h:s∈l)=>(show Zn w s from⟨(hs s h).1.vc,(hs s h).2.1.vc,(hs s h).2.2.1,(hs s h).2.2.2⟩));have HVV:=B8 hv;have HK:=B8 hk;obtain⟨N4,hN4⟩:∃N,l.length=N:=⟨_,rfl⟩
 have HN4:=B8 hN4;rw[hN4]at hl |-;obtain⟨W0,hW0⟩:=gA (w.alloc (.cells #[.slice p0 c.sign.length q0,.slice p1 c.regs.length q1,.slice p2 c.slots.length q2,.slice p3 c.list.length q3] 27))
 have HB0:Hid (Below w.heap.size w W0):=by rw[<-hW0];exact A0 _ _
 have HS0:Hid (W0.heap.size=w.heap.size+1):=by rw[<-hW0];show _=_;simp
 have k0:W0.cell? ⟨w.heap.size,0,none⟩=some (.slice p0 c.sign.length q0):=by rw[<-hW0];simp[go_sem]
 have k1:W0.cell? ⟨w.heap.size,1,none⟩=some (.slice p1 c.regs.length q1):=by rw[<-hW0];simp[go_sem]
 have k2:W0.cell? ⟨w.heap.size,2,none⟩=some (.slice p2 c.slots.length q2):=by rw[<-hW0];simp[go_sem]
 have k3:W0.cell? ⟨w.heap.size,3,none⟩=some (.slice p3 c.list.length q3):=by rw[<-hW0];simp[go_sem]
 have HKC:Hid (∀u,Below W0.heap.size W0 u->u.cell? ⟨w.heap.size,0,none⟩=some (.slice p0 c.sign.length q0)/\u.cell? ⟨w.heap.size,1,none⟩=some (.slice p1 c.regs.length q1)/\u.cell? ⟨w.heap.size,2,none⟩=some (.slice p2 c.slots.length q2)/\u.cell? ⟨w.heap.size,3,none⟩=some (.slice p3 c.list.length q3)):=fun u h=>⟨kc h k0,kc h k1,kc h k2,kc h k3⟩
 by_cases hc:(Ag c).1≠0
 .rw[if_neg hc]at KC;obtain⟨E,hE⟩:∃e,(Ag c).1=e:=⟨_,rfl⟩
  rw[hE]at KC hc;have q1:(E==0)=false:=beq_eq_false_iff_ne.2 hc;have q2:(E != 0)=true:=by simp[hc]
  have HC:=B8 hc;clear hv hk hs hrow hN4 hE hc hz;go_enter func3,ntmps3;go_upto_region 1 with fail;try rw[hW0]
  clear hW0;go_upto_region 2 with(first|(go_at_call 5;(with_reducible refine(KT.out _ HB0.out).mono ?_);rintro e9 w3 ⟨t0,t1,t2,t3,rfl,ht3,ho3,hb3⟩;obtain⟨r0,s0,rfl⟩:=At ho3.sign;obtain⟨r1,s1,rfl⟩:=At ho3.regs;obtain⟨r2,s2,rfl⟩:=At ho3.slots;obtain⟨r3,s3,rfl⟩:=At ho3.list;have HT3:=B8 ht3;have HB3:=B8 (bel HB0.out hb3);have HB33:=B8 hb3;clear ht3 ho3 hb3)|(go_at_call 4;(with_reducible refine(KC.out _ _ _ _ _ HT3.out).mono ?_);rintro e9 w4 ⟨rfl,hb⟩;have HB4:=B8 (bel HB3.out hb);have HB44:=B8 (bel HB33.out hb);clear hb))
  go_wp2_with(go_at_call 6;(with_reducible refine(KW.out _).mono ?_);rintro e9 wz ⟨rfl,hbz⟩;have HBz:=B8 (bel HB4.out hbz);clear hbz);refine bodyPost_ret (by simp[results,results3,go_sem, *];try rfl) rfl ?_;exact⟨by first|rfl|simp,HBz.out⟩
 replace hc:(Ag c).1=0:=Decidable.of_not_not hc
 rw[if_pos hc,hc]at KC;obtain⟨hg,-⟩:=GR hc;have HG:=B8 (And.intro hg hc);have KA:=B8 (fun(v:World) (h:Below w.heap.size w v)=>Kz _ _ _ _ c hk v (hv.below h) hc);have HSP:=B8 (fun hs G P=>Si hc hs G P);obtain⟨CV,hCV⟩:∃v,Ed c=v:=⟨_,rfl⟩
 rw[hCV]at KC HSP;clear hv hk hs hrow hN4 hz hg hCV;have HC:=B8 hc;clear hc;go_enter func3,ntmps3;go_upto_region 1 with fail;try rw[hW0]
 clear hW0;go_upto_region 2 with(first|(go_at_call 5;(with_reducible refine(KT.out _ HB0.out).mono ?_);rintro e9 w3 ⟨t0,t1,t2,t3,rfl,ht3,ho3,hb3⟩;obtain⟨r0,s0,rfl⟩:=At ho3.sign;obtain⟨r1,s1,rfl⟩:=At ho3.regs;obtain⟨r2,s2,rfl⟩:=At ho3.slots;obtain⟨r3,s3,rfl⟩:=At ho3.list;have HT3:=B8 ht3;have HB3:=B8 (bel HB0.out hb3);have HB33:=B8 hb3;clear ht3 ho3 hb3)|(go_at_call 4;(with_reducible refine(KC.out _ _ _ _ _ HT3.out).mono ?_);rintro e9 w4 ⟨rfl,hb⟩;have HB4:=B8 (bel HB3.out hb);have HB44:=B8 (bel HB33.out hb);clear hb))
 clear k0 k1 k2 k3;obtain⟨k0,k1,k2,k3⟩:=HKC.out _ HB44.out;go_upto_block 0 with(go_at_call 7;(with_reducible refine(KA.out _ HB4.out).mono ?_);rintro e w1 ⟨px,qx,SX,rfl,hmx,hcx,hb1,hlx,hlxx⟩;have HCX:=B8 (And.intro hmx (And.intro hcx (And.intro hlx hlxx)));have HB1:=B8 hb1;clear hmx hcx hb1 hlx hlxx k0 k1 k2 k3)
 obtain⟨W2,hW2⟩:∃W,w1.alloc (.cells #[.slice p0 c.sign.length q0,.slice p1 c.regs.length q1,.slice p2 c.slots.length q2,.slice p3 c.list.length q3,.slice px c.slots.length qx] 36)=W:=⟨_,rfl⟩
 have HX2:Hid (Below w1.heap.size w1 W2/\W2.heap.size=w1.heap.size+1/\W2.rowIs w1.heap.size 36 5 (f5 (.slice p0 c.sign.length q0) (.slice p1 c.regs.length q1) (.slice p2 c.slots.length q2) (.slice p3 c.list.length q3) (.slice px c.slots.length qx))):=by rw[<-hW2];exact⟨A0 _ _,sM,World.rowIs_alloc w1 _ _ _ (Gw _ _ _ _ _)⟩
 try rw[hW2]
 clear hW2;obtain⟨XB,hXB⟩:∃x,w1.heap.size=x:=⟨_,rfl⟩
 have HNUM:Hid (w.heap.size<XB/\XB<W2.heap.size/\w4.heap.size<=XB):=by
  have e0:=HS0.out;have e1:=HB44.size;have e2:=HB1.size;have e3:=HX2.2.1;refine⟨?_,?_,?_⟩<;>omega
 have HW2:Hid (Below w.heap.size w W2):=bel HB4.out (bel HB1.out HX2.1);have HI:Hid (∃hs S px qx,AI (fun b=>b=XB) W2 (.slice px c.slots.length qx) S/\S.map (·.h)=hs/\J6 c hs/\World.rowIs W2 XB 36 5 (f5 (.slice p0 c.sign.length q0) (.slice p1 c.regs.length q1) (.slice p2 c.slots.length q2) (.slice p3 c.list.length q3) (.slice px c.slots.length qx))/\Un (fun b=>b=XB) W2 W2):=by
  obtain⟨f1,f2,f3⟩:=HNUM.out;obtain⟨i1,i2,i3,i4⟩:=HCX.out;refine⟨BM c,SX,px,qx,?_,i1,PA HG.1 HK.out,?_,Un.refl _ _⟩
  .refine AI.below (AI.mono (U:=(fun b=>b=XB)) (Vf (T:=fun b=>b<w4.heap.size) i2 i3 i4 (fun b e=>e)) (fun b hb e=>?_)) HX2.1;have e:b=XB:=e;omega
  .rw[<-hXB];exact HX2.2.2
 rw[hXB];clear HCX HX2 HB1 KA KT KC hXB;go_wp2_with fail
 go_loopw [9] (fun iv wr=>∃j:Nat,j<=N4/\j<=20/\iv=.int .i64 (j:Int)/\Hid (∃hs S px qx,AI (fun b=>b=XB) wr (.slice px c.slots.length qx) S/\S.map (·.h)=hs/\J6 c hs/\World.rowIs wr XB 36 5 (f5 (.slice p0 c.sign.length q0) (.slice p1 c.regs.length q1) (.slice p2 c.slots.length q2) (.slice p3 c.list.length q3) (.slice px c.slots.length qx))/\Un (fun b=>b=XB) W2 wr)) (fun iv _=>20-(intOf iv).toNat)
 case atStart=>exact⟨0,gI _,dE,rfl,HI.out⟩
 case round=>
  clear HI;obtain⟨j,hj,hj20,rfl,HR⟩:=hrel;obtain⟨hs,S,px,qx,hcx,hmx,hsl,hbx,hun⟩:=HR.out;have hbW:Below w.heap.size w wr:=HW2.trans (hun.below (by have:=HNUM.out;omega) (fun b e=>by have:=HNUM.out;have e:b=XB:=e;omega));have HEND:=B8 hbW;by_cases hlt:j<N4
  .by_cases h20:j<20
   .have hjl:j<l.length:=by rw[HN4.out];exact hlt
    obtain⟨lb,lo,hp4,hcj⟩:∃lb lo,p4=some ⟨lb,lo,none⟩/\Ai w lb (lo+j*2) (WP l[j]):=by
     rcases HROW.out with e|⟨b,o,hp,hc⟩
     .rw[e]at hjl;cases hjl
     .exact⟨b,o,hp,hc j hjl⟩
    subst hp4;have hst:=HS.out l[j] (gD hjl);obtain⟨s,hs9⟩:=gA (l[j])
    rw[hs9]at hcj hst;obtain⟨gv,pv,G,P⟩:=s;obtain⟨g1,g2,g3,g4⟩:=hst;simp only at g1 g2 g3 g4;obtain⟨pg,qg,rfl⟩:∃p q,gv=.slice p G.length q:=by obtain⟨p,q,e,_⟩:=g1;exact⟨p,q,e⟩
    obtain⟨pp,qp,rfl⟩:∃p q,pv=.slice p P.length q:=by obtain⟨p,q,e,_⟩:=g2;exact⟨p,q,e⟩
    have y0:wr.cell? ⟨lb,lo+j*2,none⟩=some (.slice pg G.length qg):=kc hbW (hcj.at 0 rfl);have y1:wr.cell? ⟨lb,lo+j*2+1,none⟩=some (.slice pp P.length qp):=kc hbW (hcj.at 1 rfl);have hlb:lb<w.heap.size:=A3 (hcj.at 0 rfl);have hTlt:∀b,b=XB->b<wr.heap.size:=fun b e=>by have:=HNUM.out;have:=hun.size;omega
    have KX:Hid (∀ (v:World) (N:Nat->Prop),Below wr.heap.size wr v->(∀b,N b->wr.heap.size<=b/\b<v.heap.size)->Calls prog 8 #[.agg #[.slice p0 c.sign.length q0,.slice p1 c.regs.length q1,.slice p2 c.slots.length q2,.slice p3 c.list.length q3,.slice px c.slots.length qx],.slice pg G.length qg,.slice pp P.length qp] v fun e w'=>∃p5 q5 pu nu qu S5,e=.returned (.tuple #[.agg #[.slice p0 c.sign.length q0,.slice p1 c.regs.length q1,.slice p2 c.slots.length q2,.slice p3 c.list.length q3,.slice p5 c.slots.length q5],.slice pu nu qu,.int .i64 (Th c G P),.int .i64 (VN c hs G P)])/\S5.map (·.h)=W7 c hs G P/\AI (fun b=>b=XB\/N b) w' (.slice p5 c.slots.length q5) S5/\Fe (fun b=>b<v.heap.size) w' (.slice pu nu qu) (Xo c hs G P)/\J6 c (W7 c hs G P)/\Below v.heap.size v w'):=fun v N hb hN=>
     MQ (T:=fun b=>b=XB\/N b) p0 p1 p2 p3 px pg pp q0 q1 q2 q3 qx qg qp c HG.2 HK.out hs hsl S hmx G P g3 g4 v (fun b e=>e.elim (fun e=>Nat.lt_of_lt_of_le (hTlt b e) hb.size) (fun e=>(hN b e).2)) ((HVV.below hbW).below hb) ((hcx.mono (fun b hb5 e=>e.elim id (fun e=>by have:=(hN b e).1;omega))).below hb) ((g1.below hbW).below hb) ((g2.below hbW).below hb)
    have hsp:VN c hs G P<=CV:=HSP.out hs G P;obtain⟨E,hE⟩:=gA (Th c G P)
    obtain⟨KS,hKS⟩:∃E,VN c hs G P=E:=⟨_,rfl⟩
    obtain⟨hs2,hhs2⟩:∃x,W7 c hs G P=x:=⟨_,rfl⟩
    obtain⟨L,hL⟩:∃x,Xo c hs G P=x:=⟨_,rfl⟩
    rw[hE,hKS,hhs2,hL]at KX;rw[hKS]at hsp;have HUN:=B8 hun;have HXW:=B8 hbx;have HLT:Hid (lb<w.heap.size/\XB<wr.heap.size/\w.heap.size<XB/\w.heap.size<=wr.heap.size):=⟨hlb,hTlt _ rfl,HNUM.1,hbW.size⟩
    have j1:(0:Int)<=(j:Int):=oM;have j2:(j:Int)<(N4:Int):=oM;have j3:(j:Int)<20:=oM;have j4:¬ (CV<KS):=oM;have j5:¬ (KS>CV):=j4;have wi:IntKind.i64.wrap ((j:Int)+1)=((j+1:Nat):Int):=by rw[IntKind.wrap_i64];omega
    clear hcx hmx hsl hbx hun hbW g1 g2 g3 g4 hcj hs9 hlb hTlt hE hKS hhs2 hL HR hsp;go_upto_region 8 with fail;go_cut [10,11,12,13] (fun nv uv ev kv wz=>∃NB p5 q5 pu nu qu S5,nv=.pointer (some ⟨NB,0,none⟩)/\uv=.slice pu nu qu/\ev=.int .i64 E/\kv=.int .i64 KS/\Hid (wz.rowIs NB 36 5 (f5 (.slice p0 c.sign.length q0) (.slice p1 c.regs.length q1) (.slice p2 c.slots.length q2) (.slice p3 c.list.length q3) (.slice p5 c.slots.length q5))/\wr.heap.size<=NB/\S5.map (·.h)=hs2/\AI (fun b=>b=XB) wz (.slice p5 c.slots.length q5) S5/\Fe (fun b=>b<wr.heap.size) wz (.slice pu nu qu) L/\J6 c hs2/\Below wr.heap.size wr wz))
    case first=>
     have hdb:=(HXW.of_block ((BE wr).block XB HLT.2.1))
     have d0:wr.cell? ⟨XB,0,none⟩=some (.slice p0 c.sign.length q0):=hdb.cell (i:=0) dE;have d1:wr.cell? ⟨XB,1,none⟩=some (.slice p1 c.regs.length q1):=hdb.cell (i:=1) dE;have d2:wr.cell? ⟨XB,2,none⟩=some (.slice p2 c.slots.length q2):=hdb.cell (i:=2) dE;have d3:wr.cell? ⟨XB,3,none⟩=some (.slice p3 c.list.length q3):=hdb.cell (i:=3) dE;have d4:wr.cell? ⟨XB,4,none⟩=some (.slice px c.slots.length qx):=hdb.cell (i:=4) dE;have t0:=y0;have t1:=y1;clear hdb y0 y1;have z1:=(fun o=>kc (A0 wr o) t0)
     have z2:=(fun o=>kc (A0 wr o) t1)
     have z3:=(fun o=>kc (A0 wr o) d0)
     have z4:=(fun o=>kc (A0 wr o) d1)
     have z5:=(fun o=>kc (A0 wr o) d2)
     have z6:=(fun o=>kc (A0 wr o) d3)
     have z7:=(fun o=>kc (A0 wr o) d4)
     refine rG (fun v=>v.cell? ⟨lb,lo+j*2,none⟩=some (.slice pg G.length qg)/\v.cell? ⟨lb,lo+j*2+1,none⟩=some (.slice pp P.length qp)/\v.cell? ⟨XB,0,none⟩=some (.slice p0 c.sign.length q0)/\v.cell? ⟨XB,1,none⟩=some (.slice p1 c.regs.length q1)/\v.cell? ⟨XB,2,none⟩=some (.slice p2 c.slots.length q2)/\v.cell? ⟨XB,3,none⟩=some (.slice p3 c.list.length q3)/\v.cell? ⟨XB,4,none⟩=some (.slice px c.slots.length qx)) fun hJ=>?_;refine Tf 0 1 2 3 4 5 ?_;refine Tc 6 7 8 ?_;refine Tb 9 10 ?_;clear hJ;refine wpAnyH_ready (rs:=[11,17]) kR sM ?_;refine IY 11 (fun K hK=>?_) ?_
     .go_simp;(go_at_call 8;(first|(with_reducible refine(KX.out wr.drew (fun _=>False) (bel (BE wr) (A4 _)) (fun b e=>e.elim)).mono ?_)|(with_reducible refine(KX.out _ (fun b=>b=wr.heap.size) (bel (BE wr) (bel (A0 _ _) (A4 _))) (fun b e=>by subst e;exact⟨gF _,sM⟩)).mono ?_));rintro e w6 ⟨p5,q5,pu,nu,qu,S5,rfl,k1,k2,k3,k4,k5⟩;have HK6:=B8 (And.intro k1 (And.intro k2 (And.intro k3 k4)));have HB6:Hid (Below wr.heap.size wr w6):=Zg;(try(have HNB:=B8 ((World.rowIs_alloc wr #[.slice none 0 0,.slice none 0 0,.slice none 0 0,.slice none 0 0,.slice none 0 0] 36 _ (Gw _ _ _ _ _)).of_block (k5.block wr.heap.size sM))));(try(have n0:w6.cell? ⟨wr.heap.size,0,none⟩=some (.slice none 0 0):=HNB.out.cell (i:=0) dE;have n1:w6.cell? ⟨wr.heap.size,1,none⟩=some (.slice none 0 0):=HNB.out.cell (i:=1) dE;have n2:w6.cell? ⟨wr.heap.size,2,none⟩=some (.slice none 0 0):=HNB.out.cell (i:=2) dE;have n3:w6.cell? ⟨wr.heap.size,3,none⟩=some (.slice none 0 0):=HNB.out.cell (i:=3) dE;have n4:w6.cell? ⟨wr.heap.size,4,none⟩=some (.slice none 0 0):=HNB.out.cell (i:=4) dE;have o0:=HNB.out.frozen 0;have o1:=HNB.out.frozen 1;have o2:=HNB.out.frozen 2;have o3:=HNB.out.frozen 3;have o4:=HNB.out.frozen 4));have ct0:=kc HB6.out t0;have et0:=(fun o=>kc (A0 w6 o) ct0);have st0:=Aw ct0 Xi;have ct1:=kc HB6.out t1;have et1:=(fun o=>kc (A0 w6 o) ct1);have st1:=Aw ct1 Xi;have cd0:=kc HB6.out d0;have ed0:=(fun o=>kc (A0 w6 o) cd0);have sd0:=Aw cd0 Sx;have cd1:=kc HB6.out d1;have ed1:=(fun o=>kc (A0 w6 o) cd1);have sd1:=Aw cd1 Sx;have cd2:=kc HB6.out d2;have ed2:=(fun o=>kc (A0 w6 o) cd2);have sd2:=Aw cd2 Sx;have cd3:=kc HB6.out d3;have ed3:=(fun o=>kc (A0 w6 o) cd3);have sd3:=Aw cd3 Sx;have cd4:=kc HB6.out d4;have ed4:=(fun o=>kc (A0 w6 o) cd4);have sd4:=Aw cd4 Sx;clear k1 k2 k3 k4 k5);try(go_wp2_with fail)
      refine AB hK fun hJ=>?_;clear hK K;refine Tc 12 13 14 ?_;refine Tb 15 16 ?_;clear hJ;refine AC 17 fun K hK=>?_;go_simp;refine AB hK fun hJ=>?_;clear hK K;exact Yo
     refine IY 17 (fun K hK=>?_) AllReadyH.nil;go_simp;refine AB hK fun hJ=>?_;clear hK K;clear hJ;refine AC 11 fun K hK=>?_;go_simp;(go_at_call 8;(first|(with_reducible refine(KX.out wr.drew (fun _=>False) (bel (BE wr) (A4 _)) (fun b e=>e.elim)).mono ?_)|(with_reducible refine(KX.out _ (fun b=>b=wr.heap.size) (bel (BE wr) (bel (A0 _ _) (A4 _))) (fun b e=>by subst e;exact⟨gF _,sM⟩)).mono ?_));rintro e w6 ⟨p5,q5,pu,nu,qu,S5,rfl,k1,k2,k3,k4,k5⟩;have HK6:=B8 (And.intro k1 (And.intro k2 (And.intro k3 k4)));have HB6:Hid (Below wr.heap.size wr w6):=Zg;(try(have HNB:=B8 ((World.rowIs_alloc wr #[.slice none 0 0,.slice none 0 0,.slice none 0 0,.slice none 0 0,.slice none 0 0] 36 _ (Gw _ _ _ _ _)).of_block (k5.block wr.heap.size sM))));(try(have n0:w6.cell? ⟨wr.heap.size,0,none⟩=some (.slice none 0 0):=HNB.out.cell (i:=0) dE;have n1:w6.cell? ⟨wr.heap.size,1,none⟩=some (.slice none 0 0):=HNB.out.cell (i:=1) dE;have n2:w6.cell? ⟨wr.heap.size,2,none⟩=some (.slice none 0 0):=HNB.out.cell (i:=2) dE;have n3:w6.cell? ⟨wr.heap.size,3,none⟩=some (.slice none 0 0):=HNB.out.cell (i:=3) dE;have n4:w6.cell? ⟨wr.heap.size,4,none⟩=some (.slice none 0 0):=HNB.out.cell (i:=4) dE;have o0:=HNB.out.frozen 0;have o1:=HNB.out.frozen 1;have o2:=HNB.out.frozen 2;have o3:=HNB.out.frozen 3;have o4:=HNB.out.frozen 4));have ct0:=kc HB6.out t0;have et0:=(fun o=>kc (A0 w6 o) ct0);have st0:=Aw ct0 Xi;have ct1:=kc HB6.out t1;have et1:=(fun o=>kc (A0 w6 o) ct1);have st1:=Aw ct1 Xi;have cd0:=kc HB6.out d0;have ed0:=(fun o=>kc (A0 w6 o) cd0);have sd0:=Aw cd0 Sx;have cd1:=kc HB6.out d1;have ed1:=(fun o=>kc (A0 w6 o) cd1);have sd1:=Aw cd1 Sx;have cd2:=kc HB6.out d2;have ed2:=(fun o=>kc (A0 w6 o) cd2);have sd2:=Aw cd2 Sx;have cd3:=kc HB6.out d3;have ed3:=(fun o=>kc (A0 w6 o) cd3);have sd3:=Aw cd3 Sx;have cd4:=kc HB6.out d4;have ed4:=(fun o=>kc (A0 w6 o) cd4);have sd4:=Aw cd4 Sx;clear k1 k2 k3 k4 k5);try(go_wp2_with fail)
     refine AB hK fun hJ=>?_;clear hK K;refine Tc 12 13 14 ?_;refine Tb 15 16 ?_;exact Yo
    case rest=>
    obtain⟨NX,pn,qn,pa,na,qa,SN,rfl,rfl,rfl,rfl,HC6⟩:=hcut;obtain⟨x1,x2,x3,x4,x5,x6,x7⟩:=HC6.out;have lNX:=x1.lt;have a0:wc.cell? ⟨NX,0,none⟩=some (.slice p0 c.sign.length q0):=x1.cell (i:=0) dE;have a1:wc.cell? ⟨NX,1,none⟩=some (.slice p1 c.regs.length q1):=x1.cell (i:=1) dE;have a2:wc.cell? ⟨NX,2,none⟩=some (.slice p2 c.slots.length q2):=x1.cell (i:=2) dE;have a3:wc.cell? ⟨NX,3,none⟩=some (.slice p3 c.list.length q3):=x1.cell (i:=3) dE;have a4:wc.cell? ⟨NX,4,none⟩=some (.slice pn c.slots.length qn):=x1.cell (i:=4) dE;have hX:=HXW.of_block (x7.block _ HLT.2.1);obtain⟨hV1,hV2⟩:=Vh (a0:=(.slice p0 c.sign.length q0)) (a1:=(.slice p1 c.regs.length q1)) (a2:=(.slice p2 c.slots.length q2)) (a3:=(.slice p3 c.list.length q3)) (a4:=(.slice pn c.slots.length qn)) hX;obtain⟨V1,hV⟩:∃V,(((((wc.setCell ⟨XB,0,none⟩ (.slice p0 c.sign.length q0)).setCell ⟨XB,1,none⟩ (.slice p1 c.regs.length q1)).setCell ⟨XB,2,none⟩ (.slice p2 c.slots.length q2)).setCell ⟨XB,3,none⟩ (.slice p3 c.list.length q3)).setCell ⟨XB,4,none⟩ (.slice pn c.slots.length qn))=V:=⟨_,rfl⟩
    rw[hV]at hV1 hV2;have c0:wc.cell? ⟨XB,0,none⟩=some (.slice p0 c.sign.length q0):=hX.cell (i:=0) dE;have o0:=hX.frozen 0;have c1:wc.cell? ⟨XB,1,none⟩=some (.slice p1 c.regs.length q1):=hX.cell (i:=1) dE;have o1:=hX.frozen 1;have c2:wc.cell? ⟨XB,2,none⟩=some (.slice p2 c.slots.length q2):=hX.cell (i:=2) dE;have o2:=hX.frozen 2;have c3:wc.cell? ⟨XB,3,none⟩=some (.slice p3 c.list.length q3):=hX.cell (i:=3) dE;have o3:=hX.frozen 3;have c4:wc.cell? ⟨XB,4,none⟩=some (.slice px c.slots.length qx):=hX.cell (i:=4) dE;have o4:=hX.frozen 4;have HRX:=B8 hV1;have HCX:Hid (AI (fun b=>b=XB) V1 (.slice pn c.slots.length qn) SN/\SN.map (·.h)=hs2):=⟨x4.un hV2 (fun b _ e=>e),x3⟩
    have HSL:=B8 x6;have HUV:Hid (Un (fun b=>b=XB) W2 V1):=(HUN.on x7).trans hV2;clear HC6 x1 x2 x3 x4 x5 x6 x7 lNX hX hV1 hV2 y0 y1;go_upto_region 10 with fail;try rw[hV]
    clear hV a0 a1 a2 a3 a4 c0 c1 c2 c3 c4 o0 o1 o2 o3 o4;by_cases hE0:E=0
    .have q1:(E==0)=true:=by simp[hE0]
     exact YQ
    .have q1:(E==0)=false:=by simp[hE0]
     exact YQ
   .have hj':j=20:=oM;exact YE
  .have hj':j=N4:=oM;exact YE
end Go.Proofs.YtjglaibglofddaaGreat
