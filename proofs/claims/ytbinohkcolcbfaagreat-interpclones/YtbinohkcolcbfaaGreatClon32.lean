import Derived.Test.YtbinohkcolcbfaaGreatClon1
import Derived.Test.YtbinohkcolcbfaaGreatClon31
import Derived.Test.YtbinohkcolcbfaaGreatClon29
import Derived.Test.YtbinohkcolcbfaaGreatClon16
import Derived.Deep.DeepCutAuto
import Derived.Test.YtbinohkcolcbfaaGreatClon24
namespace Go.Proofs.YtbinohkcolcbfaaGreat
open Go.RowKit Go.Proofs.Tryz
set_option linter.all false
set_option maxRecDepth 100000
set_option maxHeartbeats 16000000
theorem Br.slice{T:Nat->Prop}{w:World}{v:Value}{L:List (List Int)}(h:Br T w v L):∃p q,v=.slice p L.length q:=by obtain⟨p,q,e,_⟩:=h;exact⟨p,q,e⟩
theorem YI{T:Nat->Prop}{w:World}{p:Option Addr}{n q B:Nat}{S:List Cl}(h:Sx w (.slice p n q) S)(hp:∀b o s,p=some ⟨b,o,s⟩->B<=b)(hx:∀x∈S,∀b o s,x.p=some ⟨b,o,s⟩->B<=b)(hT:∀b,T b->b<B):AN T w (.slice p n q) S:=by
 obtain⟨p',q',e,hr⟩:=h.row;simp only[Value.slice.injEq]at e;obtain⟨rfl,rfl,rfl⟩:=e;refine⟨⟨p,q,rfl,?_⟩,fun x hx'=>(h.nums x hx').free (hx x hx') hT⟩;by_cases h0:S=[]
 ·exact .inl h0
 ·rcases hr with e|⟨b,o,e,hc⟩
  ·exact absurd e h0
  ·refine .inr ⟨b,o,e,fun k=>by have h1:=hT b k;have h2:=hp b o none e;omega,?_,hc⟩;have h1:=(hc 0 (List.length_pos_iff.2 h0)).at 0 (v:=.slice (S[0]'(List.length_pos_iff.2 h0)).p (S[0]'(List.length_pos_iff.2 h0)).h.pats.length (S[0]'(List.length_pos_iff.2 h0)).q) rfl;exact A3 h1
theorem Z6{T:Nat->Prop}{w5 w6:World}{a0 a1 a2 a3:Value}{p5 pu:Option Addr}{n2 q5 nu qu:Nat}{S':List Cl}{hs':List Hd}{L:List (List Int)}{c:Cd}{E:Int}{NX:Nat}(hn:w6.rowIs w5.heap.size 38 5 (f5 (.slice none 0 0) (.slice none 0 0) (.slice none 0 0) (.slice none 0 0) (.slice none 0 0)))(hb:Below w5.heap.size w5 w6)(h1:S'.map (·.h)=hs')(h2:AN (fun b=>T b\/b=w5.heap.size) w6 (.slice p5 n2 q5) S')(h3:Br (fun b=>b<NX) w6 (.slice pu nu qu) L)(h4:Jo c hs')(hX:w5.heap.size<NX):
 ∃NB p5' q5' pu' nu' qu' S'',Value.pointer (some ⟨w5.heap.size,0,none⟩)=.pointer (some ⟨NB,0,none⟩)/\Value.slice pu nu qu=.slice pu' nu' qu'/\Value.int .i64 E=.int .i64 E/\Hid ((((((w6.setCell ⟨w5.heap.size,0,none⟩ a0).setCell ⟨w5.heap.size,1,none⟩ a1).setCell ⟨w5.heap.size,2,none⟩ a2).setCell ⟨w5.heap.size,3,none⟩ a3).setCell ⟨w5.heap.size,4,none⟩ (.slice p5 n2 q5)).rowIs NB 38 5 (f5 a0 a1 a2 a3 (.slice p5' n2 q5'))/\w5.heap.size<=NB/\S''.map (·.h)=hs'/\AN T (((((w6.setCell ⟨w5.heap.size,0,none⟩ a0).setCell ⟨w5.heap.size,1,none⟩ a1).setCell ⟨w5.heap.size,2,none⟩ a2).setCell ⟨w5.heap.size,3,none⟩ a3).setCell ⟨w5.heap.size,4,none⟩ (.slice p5 n2 q5)) (.slice p5' n2 q5') S''/\Br (fun b=>b<w5.heap.size) (((((w6.setCell ⟨w5.heap.size,0,none⟩ a0).setCell ⟨w5.heap.size,1,none⟩ a1).setCell ⟨w5.heap.size,2,none⟩ a2).setCell ⟨w5.heap.size,3,none⟩ a3).setCell ⟨w5.heap.size,4,none⟩ (.slice p5 n2 q5)) (.slice pu' nu' qu') L/\Jo c hs'/\Below w5.heap.size w5 (((((w6.setCell ⟨w5.heap.size,0,none⟩ a0).setCell ⟨w5.heap.size,1,none⟩ a1).setCell ⟨w5.heap.size,2,none⟩ a2).setCell ⟨w5.heap.size,3,none⟩ a3).setCell ⟨w5.heap.size,4,none⟩ (.slice p5 n2 q5))):=by
 have hu:Un (fun b=>b=w5.heap.size) w6 (((((w6.setCell ⟨w5.heap.size,0,none⟩ a0).setCell ⟨w5.heap.size,1,none⟩ a1).setCell ⟨w5.heap.size,2,none⟩ a2).setCell ⟨w5.heap.size,3,none⟩ a3).setCell ⟨w5.heap.size,4,none⟩ (.slice p5 n2 q5)):=(((((Un.refl _ _).setCell rF _).setCell rF _).setCell rF _).setCell rF _).setCell rF _;refine⟨_,p5,q5,pu,nu,qu,S',rfl,rfl,rfl,(((((hn.set 0 a0).set 1 a1).set 2 a2).set 3 a3).set 4 _).congr (fun j hj=>?_),Nat.le_refl _,h1,(h2.un hu fun b _ e=>.inr e).mono fun b _ e=>.inl e,(h3.un hu fun b _ e=>by omega).mono fun b _ e=>by omega,h4,((((hb.setCell (Nat.le_refl _) _).setCell (Nat.le_refl _) _).setCell (Nat.le_refl _) _).setCell (Nat.le_refl _) _).setCell (Nat.le_refl _) _⟩;have hj':j<5:=hj;obtain rfl|rfl|rfl|rfl|rfl:j=0\/j=1\/j=2\/j=3\/j=4:=oM
 all_goals rfl
theorem TM{T:Nat->Prop}{w5 w6:World}{a0 a1 a2 a3:Value}{p5 pu:Option Addr}{n2 q5 nu qu:Nat}{S':List Cl}{hs':List Hd}{L:List (List Int)}{c:Cd}{E:Int}(hb:Below w5.heap.size w5 w6)(h1:S'.map (·.h)=hs')(h2:AN (fun b=>T b\/False) w6 (.slice p5 n2 q5) S')(h3:Br (fun b=>b<w5.drew.heap.size) w6 (.slice pu nu qu) L)(h4:Jo c hs'):
 ∃NB p5' q5' pu' nu' qu' S'',Value.pointer (some ⟨w6.heap.size,0,none⟩)=.pointer (some ⟨NB,0,none⟩)/\Value.slice pu nu qu=.slice pu' nu' qu'/\Value.int .i64 E=.int .i64 E/\Hid ((w6.alloc (.cells #[a0,a1,a2,a3,.slice p5 n2 q5] 38)).rowIs NB 38 5 (f5 a0 a1 a2 a3 (.slice p5' n2 q5'))/\w5.heap.size<=NB/\S''.map (·.h)=hs'/\AN T (w6.alloc (.cells #[a0,a1,a2,a3,.slice p5 n2 q5] 38)) (.slice p5' n2 q5') S''/\Br (fun b=>b<w5.heap.size) (w6.alloc (.cells #[a0,a1,a2,a3,.slice p5 n2 q5] 38)) (.slice pu' nu' qu') L/\Jo c hs'/\Below w5.heap.size w5 (w6.alloc (.cells #[a0,a1,a2,a3,.slice p5 n2 q5] 38))):=
 ⟨_,p5,q5,pu,nu,qu,S',rfl,rfl,rfl,World.rowIs_alloc w6 _ _ _ (Fc _ _ _ _ _),hb.size,h1,(h2.mono (fun b _ e=>.inl e)).below (A0 _ _),(h3.mono (fun b _ e=>Nat.lt_of_lt_of_le e (A4 w5).size)).below (A0 _ _),h4,bel hb (A0 _ _)⟩
theorem SR{w:World}{B:Nat}{a0 a1 a2 a3 a4 b0 b1 b2 b3 b4:Value}(h:w.rowIs B 38 5 (f5 b0 b1 b2 b3 b4)):
 (((((w.setCell ⟨B,0,none⟩ a0).setCell ⟨B,1,none⟩ a1).setCell ⟨B,2,none⟩ a2).setCell ⟨B,3,none⟩ a3).setCell ⟨B,4,none⟩ a4).rowIs B 38 5 (f5 a0 a1 a2 a3 a4)/\Un (fun b=>b=B) w (((((w.setCell ⟨B,0,none⟩ a0).setCell ⟨B,1,none⟩ a1).setCell ⟨B,2,none⟩ a2).setCell ⟨B,3,none⟩ a3).setCell ⟨B,4,none⟩ a4):=by
 refine⟨(((((h.set 0 a0).set 1 a1).set 2 a2).set 3 a3).set 4 a4).congr (fun j hj=>?_),(((((Un.refl _ _).setCell rF _).setCell rF _).setCell rF _).setCell rF _).setCell rF _⟩;have hj':j<5:=hj;obtain rfl|rfl|rfl|rfl|rfl:j=0\/j=1\/j=2\/j=3\/j=4:=oM
 all_goals rfl
def Nu(E E':Nat)(w:World)(UB:Nat)(ub nn:Nat->Nat)(pa:Option Addr)(na:Nat):Prop:=
 na<=1048576/\(0<na->pa=some ⟨UB,0,none⟩/\w.rowIs UB 57 na (fun p=>.slice (some ⟨ub p,0,none⟩) (nn p) (nn p)))/\(0<na->E<=UB/\UB<E')/\∀p,p<na->E<=ub p/\ub p<E'/\ub p≠UB/\nn p<=1048576/\∃f,w.rowIs (ub p) 43 (nn p) f
theorem Nu.below{E E':Nat}{w w':World}{UB:Nat}{ub nn:Nat->Nat}{pa:Option Addr}{na:Nat}(h:Nu E E' w UB ub nn pa na)(q:Below w.heap.size w w'):Nu E E' w' UB ub nn pa na:=
 ⟨h.1,fun k=>⟨(h.2.1 k).1,(h.2.1 k).2.of_block (q.block _ (h.2.1 k).2.lt)⟩,h.2.2.1,fun p hp=>by
  obtain⟨h1,h2,h3,h4,f,hf⟩:=h.2.2.2 p hp
  exact⟨h1,h2,h3,h4,f,hf.of_block (q.block _ hf.lt)⟩⟩
theorem Nu.un{E E':Nat}{w w':World}{UB:Nat}{ub nn:Nat->Nat}{pa:Option Addr}{na:Nat}{U:Nat->Prop}(h:Nu E E' w UB ub nn pa na)(q:Un U w w')(hU:∀b,U b->b<E):Nu E E' w' UB ub nn pa na:=
 ⟨h.1,fun k=>⟨(h.2.1 k).1,(h.2.1 k).2.of_block (q.block _ (h.2.1 k).2.lt fun e=>by have:=hU _ e;have:=(h.2.2.1 k).1;omega)⟩,h.2.2.1,fun p hp=>by
  obtain⟨h1,h2,h3,h4,f,hf⟩:=h.2.2.2 p hp
  exact⟨h1,h2,h3,h4,f,hf.of_block (q.block _ hf.lt fun e=>by have:=hU _ e;omega)⟩⟩
theorem Nu.put{E E':Nat}{w:World}{UB:Nat}{ub nn:Nat->Nat}{pa:Option Addr}{na:Nat}(h:Nu E E' w UB ub nn pa na){j:Nat}(hj:j<na)(x:Nat)(v:Value):Nu E E' (w.setCell ⟨ub j,x,none⟩ v) UB ub nn pa na:=
 ⟨h.1,fun k=>⟨(h.2.1 k).1,(h.2.1 k).2.setOther (a:=⟨ub j,x,none⟩) (Ne.symm (h.2.2.2 j hj).2.2.1) v⟩,h.2.2.1,fun p hp=>by
  obtain⟨h1,h2,h3,h4,f,hf⟩:=h.2.2.2 p hp;refine⟨h1,h2,h3,h4,?_⟩;by_cases e:ub p=ub j
  ·rw[e]at hf ⊢;exact⟨_,hf.set x v⟩
  ·exact⟨f,hf.setOther (a:=⟨ub j,x,none⟩) e v⟩⟩
def StU(T:Nat->Prop)(B:Nat)(w w':World)(R:Nat)(a:BY)(c:Cd)(l:List Hd)(pa:Option Addr)(na qa:Nat)(L:List (List Int)):Prop:=
 ∃ (E E':Nat) (X:Nat->Value) (UB:Nat) (ub nn:Nat->Nat),w.heap.size<=E/\E'<=w'.heap.size/\Ay (AB T E E') B w' R a X c l/\Nu E E' w' UB ub nn pa na/\Un (fun b=>b=a.S) w w'/\Br (fun b=>b<w.heap.size) w' (.slice pa na qa) L
theorem PG{T:Nat->Prop}{E E' n:Nat}(h:n<=E):∀b,b<n->AB T E E' b->T b:=fun b hb e=>e.elim id fun k=>by omega
theorem Kl{T:Nat->Prop}{B:Nat}(c:Cd)(hc:(Ar c).1=0)(hk:B0 c)(wr:World)(R:Nat)(a:BY)(Y:Nat->Value)(hs:List Hd)(h1:Ay T B wr R a Y c hs)(hTlt:∀b,T b->b<wr.heap.size)
 (p0 p1 p2 p3 pd pg pp:Option Addr) (q0 q1 q2 q3 qd qg qp:Nat) (S:List Cl) (hcs:AN T wr (.slice pd c.slots.length qd) S) (hmap:S.map (·.h)=hs) (hsl:Jo c hs) (G P:List (List Int)) (hgv:Br T wr (.slice pg G.length qg) G) (hpv:Br T wr (.slice pp P.length qp) P) (g3:CH G) (g4:CH P)
 (HVB:∀v5 v,Un (fun b=>b=a.S) wr v5->Below v5.heap.size v5 v->Di v (.slice p0 c.sign.length q0) (.slice p1 c.regs.length q1) (.slice p2 c.slots.length q2) (.slice p3 c.list.length q3) c/\J7 v (.slice pg G.length qg) G/\J7 v (.slice pp P.length qp) P):
 ∃ (er:Int) (hs':List Hd) (L:List (List Int)),(Calls prog 10 #[.pointer (some ⟨R,0,none⟩),.slice pg G.length qg,.slice pp P.length qp] wr.drew fun e w'=>∃pa na qa,e=.returned (.tuple #[.slice pa na qa,.int .i64 er])/\Hid (StU T B wr w' R a c hs' pa na qa L))/\
  (∀ (v5 v:World) (E E':Nat) (N:Nat->Prop),wr.heap.size<=E->Un (fun b=>b=a.S) wr v5->E'<=v5.heap.size->Below v5.heap.size v5 v->(∀b,N b->v5.heap.size<=b/\b<v.heap.size)->Calls prog 11 #[.agg #[.slice p0 c.sign.length q0,.slice p1 c.regs.length q1,.slice p2 c.slots.length q2,.slice p3 c.list.length q3,.slice pd c.slots.length qd],.slice pg G.length qg,.slice pp P.length qp] v fun e w'=>∃p5 q5 pu nu qu S',e=.returned (.tuple #[.agg #[.slice p0 c.sign.length q0,.slice p1 c.regs.length q1,.slice p2 c.slots.length q2,.slice p3 c.list.length q3,.slice p5 c.slots.length q5],.slice pu nu qu,.int .i64 er])/\S'.map (·.h)=hs'/\AN (fun b=>AB T E E' b\/N b) w' (.slice p5 c.slots.length q5) S'/\Br (fun b=>b<v.heap.size) w' (.slice pu nu qu) L/\Jo c hs'/\Below v.heap.size v w')/\L.length<=1048576/\∀l∈L,l.length<=1048576:=by
 obtain⟨hg,-⟩:=D2 hc;have hcv:∀ (v5 v:World) (E E':Nat) (N:Nat->Prop),wr.heap.size<=E->Un (fun b=>b=a.S) wr v5->E'<=v5.heap.size->Below v5.heap.size v5 v->(∀b,N b->v5.heap.size<=b/\b<v.heap.size)->AN (fun b=>AB T E E' b\/N b) v (.slice pd c.slots.length qd) S:=fun v5 v E E' N hE hu hE' hb hN=>
  (((hcs.mono (U:=AB T E E') (PG hE)).un hu (fun b _ e=>.inl (e▸h1.hS))).mono (fun b hb5 e=>e.elim id (fun e=>by have:=(hN b e).1;omega))).below hb
 cases hf:Db c G P with
 |true=>
  refine⟨0,(CI c hs G P).slots,DK c (CI c hs G P),?_,fun v5 v E E' N hE hu hE' hb hN=>?_,by rw[VB];have:=hg.signL;omega,Km hg _⟩
  ·refine(J4 wr.drew R a Y c hs (h1.below (A4 _)) hc hk (fun b e=>Nat.lt_of_lt_of_le (hTlt b e) (A4 wr).size) _ _ G P (hgv.below (A4 _)) (hpv.below (A4 _)) g3 g4 hf).mono ?_;rintro e w' ⟨UB,e1,e2,e3,e4,E,E',ub,X',u1,u2,u3,u4,u5,u6,u7,u8⟩;refine⟨_,_,_,e1,E,E',X',UB,ub,AZ c,Nat.le_trans (A4 wr).size u1,u5,u2,⟨by have:=hg.signL;omega,fun _=>⟨rfl,u6⟩,fun _=>⟨u3,u4⟩,fun p hp=>?_⟩,(Un.of (A4 _)).trans e3,e4.mono (fun b _ q=>Nat.lt_of_lt_of_le q (A4 wr).size)⟩;obtain⟨x1,x2,x3,x4⟩:=u7 p hp;refine⟨x1,x2,x3,?_,_,x4⟩;have h9:=Km hg (CI c hs G P) ((List.range (AZ c p)).map ((CI c hs G P).outs p)) (by unfold DK AZ;exact List.mem_map.2 ⟨p,List.mem_range.2 hp,rfl⟩);rw[List.length_map,List.length_range]at h9;exact h9
  ·obtain⟨i1,i2,i3⟩:=HVB v5 v hu hb;have hs5:=hu.size;have hsv:=hb.size;refine(OW (T:=fun b=>AB T E E' b\/N b) p0 p1 p2 p3 pd pg pp q0 q1 q2 q3 qd qg qp c hc hk hs hsl S hmap G P g3 g4 hf v (fun b e=>e.elim (fun e=>e.elim (fun e=>by have:=hTlt b e;omega) (fun e=>by omega)) (fun e=>(hN b e).2)) i1 (hcv v5 v E E' N hE hu hE' hb hN) i2 i3).mono ?_;rintro e w' ⟨p5,q5,pu,nu,qu,rfl,⟨⟨S',k1,k2⟩,k3,k4⟩,k5⟩;exact⟨p5,q5,pu,nu,qu,S',rfl,k1,k2.mono (fun b _ e=>.inl e),k3.mono (fun b _ e=>by omega),k4,k5⟩
 |false=>
  refine⟨170,hs,[],?_,fun v5 v E E' N hE hu hE' hb hN=>?_,Nat.zero_le _,fun x hx=>by cases hx⟩
  ·refine(J3 wr.drew R a Y c hs (h1.below (A4 _)) hg hk.names _ _ G P (hgv.below (A4 _)) (hpv.below (A4 _)) g3 g4 hf).mono fun e w' h=>?_;have hb:=bel (A4 wr) h.2;exact⟨none,0,0,h.1,w'.heap.size,w'.heap.size,Y,0,fun _=>0,fun _=>0,hb.size,Nat.le_refl _,(h1.below hb).mono (.inl h1.hS) (PG (Nat.le_refl _)),⟨dE,fun k=>absurd k dE,fun k=>absurd k dE,fun p hp=>absurd hp (Nat.not_lt_zero _)⟩,Un.of hb,⟨none,0,rfl,.inl rfl⟩⟩
  ·obtain⟨i1,i2,i3⟩:=HVB v5 v hu hb;refine(S1 p0 p1 p2 p3 pd pg pp q0 q1 q2 q3 qd qg qp c hg hk G P g3 g4 hf v i1 i2 i3).mono ?_;rintro e w' ⟨rfl,k5⟩;exact⟨pd,qd,none,0,0,S,rfl,hmap,(hcv v5 v E E' N hE hu hE' hb hN).below k5,⟨none,0,rfl,.inl rfl⟩,hsl,k5⟩
theorem TS{T:Nat->Prop}{B:Nat}(c:Cd)(hc:(Ar c).1=0)(hk:B0 c)(wr:World)(R:Nat)(a:BY)(Y:Nat->Value)(hs:List Hd)(h1:Ay T B wr R a Y c hs)(hTlt:∀b,T b->b<wr.heap.size)(gv pv:Value)(G P:List (List Int))(hgv:Br T wr gv G)(hpv:Br T wr pv P)(g3:CH G)(g4:CH P):
 Calls prog 10 #[.pointer (some ⟨R,0,none⟩),gv,pv] wr.drew fun e w'=>∃pa na qa er,e=.returned (.tuple #[.slice pa na qa,.int .i64 er])/\Hid ((∃X' hs',Ay T B w' R a X' c hs')/\Un (fun b=>b=a.S) wr w'):=by
 obtain⟨hg,-⟩:=D2 hc;cases hf:Db c G P with
 |true=>
  exact(Ki wr.drew R a Y c hs (h1.below (A4 _)) hc hk (fun b e=>Nat.lt_of_lt_of_le (hTlt b e) (A4 wr).size) _ _ G P (hgv.below (A4 _)) (hpv.below (A4 _)) g3 g4 hf).mono fun e w' ⟨UB,e1,⟨X',e2⟩,e3,e4⟩=>⟨_,_,_,_,e1,⟨X',_,e2⟩,(Un.of (A4 _)).trans e3⟩
 |false=>
  exact(J3 wr.drew R a Y c hs (h1.below (A4 _)) hg hk.names _ _ G P (hgv.below (A4 _)) (hpv.below (A4 _)) g3 g4 hf).mono fun e w' h=>⟨_,_,_,_,h.1,⟨_,_,h1.below (bel (A4 wr) h.2)⟩,Un.of (bel (A4 wr) h.2)⟩
end Go.Proofs.YtbinohkcolcbfaaGreat
