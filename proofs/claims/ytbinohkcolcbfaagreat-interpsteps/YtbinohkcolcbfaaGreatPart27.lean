import Derived.Test.YtbinohkcolcbfaaGreatPart26
import Derived.Test.YtbinohkcolcbfaaGreatPart1
import Derived.Test.YtbinohkcolcbfaaGreatPart18
import Derived.Deep.DeepCutAuto
namespace Go.Proofs.YtbinohkcolcbfaaGreat
open Go.RowKit Go.Proofs.Tryz
set_option linter.unusedVariables false
set_option linter.unusedSimpArgs false
set_option maxRecDepth 100000
set_option maxHeartbeats 16000000
def endC:Cd:=⟨[],[],[],[⟨35,0,0,0,0,0,0⟩]⟩
theorem Zzv:(Zik endC).1=160:=by decide+kernel
theorem end_ok:CdOk endC:=by
 refine⟨by show(0:Nat)<=_;decide,fun p hp=>?_,by show(0:Nat)<=_;decide,by show(0:Nat)<=_;decide,by show(1:Nat)<=_;decide,fun s hs=>?_,fun i hi=>?_⟩
 ·cases hp
 ·cases hs
 ·simp[endC]at hi;rw[hi];decide
theorem vs_two{T:Nat->Prop}(w:World)(x y:Int)(h1:¬T w.heap.size)(h2:¬T (w.heap.size+1)):VsT T ((w.alloc (.cells #[.int .u32 x,.int .u32 y] 43)).alloc (.cells #[.slice (some ⟨w.heap.size,0,none⟩) 2 2] 57)) (.slice (some ⟨w.heap.size+1,0,none⟩) 1 1) [[x,y]]:=by
 have r1:=(World.rowIs_alloc w #[.int .u32 x,.int .u32 y] 43 (fun j=>.int .u32 (atL [x,y] j)) (fun i hi=>by
  have hi':i<2:=hi;obtain rfl|rfl:i=0\/i=1:=oM
  all_goals rfl)).alloc (.cells #[.slice (some ⟨w.heap.size,0,none⟩) 2 2] 57)
 have r2:=World.rowIs_alloc (w.alloc (.cells #[.int .u32 x,.int .u32 y] 43)) #[.slice (some ⟨w.heap.size,0,none⟩) 2 2] 57 (fun _=>.slice (some ⟨w.heap.size,0,none⟩) 2 2) (fun i hi=>by
  have hi':i<1:=hi;obtain rfl:i=0:=oM
  rfl)
 rw[show(w.alloc (.cells #[.int .u32 x,.int .u32 y] 43)).heap.size=w.heap.size+1 by simp]at r2;refine⟨_,_,rfl,.inr ⟨w.heap.size+1,0,rfl,h2,r2.lt,fun i hi=>?_⟩⟩;have hi0:i=0:=by have:i<1:=hi;omega
 subst hi0;exact⟨_,r2.cell (i:=0) (by show 0<1;decide),Pt.of_row r1 h1 rfl (fun j _=>rfl) 2⟩
theorem vs_nil(T:Nat->Prop)(w:World)(c:Nat):VsT T w (.slice none 0 c) [] :=⟨none,c,rfl,.inl rfl⟩
theorem Zafn{x y:Int}(h1:IsP x)(h2:IsP y):VsOk [[x,y]]:=by
 refine⟨by show 1<=140737488351232;decide,fun l hl=>?_,fun l hl z hz=>?_⟩
 ·simp at hl;rw[hl];show 2<=140737488351232;decide
 ·simp at hl;rw[hl]at hz;simp at hz;rcases hz with e|e<;>rw[e]
  ·exact h1
  ·exact h2
theorem Zaet:VsOk [] :=⟨by show 0<=140737488351232;decide,fun l hl=>(by cases hl),fun l hl=>(by cases hl)⟩
theorem half_go{k y x1 x2:Int}(k0:0<=k)(k1:k<=2147483647)(h1:IsP x1)(h2:IsP x2){B:Nat}(w:World)(R:Nat)(a:Lay)(X:Nat->Value)(h:Zit (fun b=>b<B\/b=a.S) B w R a X (Zje k) [⟨[],y⟩])(hB:B<=w.heap.size)(v:Value)(hv:VsT (fun b=>b<B\/b=a.S) w v [[x1,x2]]):
 Calls prog 10 #[.pointer (some ⟨R,0,none⟩),v,v] w fun e w'=>∃UB,e=.returned (.tuple #[.slice (some ⟨UB,0,none⟩) 1 1,.int .i64 0])/\(∃X',Zit (fun b=>b<B\/b=a.S) B w' R a X' (Zje k) [⟨[],min y 2147483646+1⟩])/\Un (fun b=>b=a.S) w w'/\VsT (fun b=>b<w.heap.size) w' (.slice (some ⟨UB,0,none⟩) 1 1) (updP (Zje k) (endJ (Zje k) [⟨[],y⟩] [[x1,x2]] [[x1,x2]])):=by
 have:=Zyr w R a X (Zje k) [⟨[],y⟩] h (Zog k k0 k1) (Zxd k) (fun b e=>e.elim (fun q=>by omega) fun q=>by rw[q];exact h.slots.row.lt) v v [[x1,x2]] [[x1,x2]] hv hv (Zafn h1 h2) (Zafn h1 h2) (Zajo k x1 x2);rw[Zaiq]at this;exact this
theorem Zami{k y:Int}(k0:0<=k)(k1:k<=2147483647){B:Nat}(w:World)(R:Nat)(a:Lay)(X:Nat->Value)(h:Zit (fun b=>b<B\/b=a.S) B w R a X (Zje k) [⟨[],y⟩]):
 Calls prog 10 #[.pointer (some ⟨R,0,none⟩),.slice none 0 0,.slice none 0 0] w fun e w'=>e=.returned (.tuple #[.slice none 0 0,.int .i64 170])/\Below w.heap.size w w':=
 Zaan w R a X (Zje k) _ h (Zof (Zog k k0 k1)).1 (Zxd k).names _ _ [] [] (vs_nil _ _ _) (vs_nil _ _ _) Zaet Zaet (Zahm k)
theorem Zajj{k y:Int}(k0:0<=k)(k1:k<=2147483647){B:Nat}(w:World)(R:Nat)(a:Lay)(X:Nat->Value)(h:Zit (fun b=>b<B\/b=a.S) B w R a X (Zje k) [⟨[],y⟩]):
 Calls prog 14 #[.pointer (some ⟨R,0,none⟩),.int .i64 0] w fun e w'=>∃p d,e=.returned (.tuple #[.slice p 0 d,.int .i64 y,.int .i64 0])/\Below w.heap.size w w':=
 (Zaaz w R a X (Zje k) [⟨[],y⟩] h (Zof (Zog k k0 k1)).1 0 (by show 0<1;decide)).mono fun e w' ⟨p,d,h1,_,h2⟩=>⟨p,d,h1,h2⟩
theorem Zzq(w:World):Calls prog 8 #[] w fun e w'=>e=.returned (.bool true)/\Below w.heap.size w w':=by
 have KN:Hid (∀ (v u:World),Zabt v (w.heap.size+1)->u=v->Calls prog 6 #[.agg #[.slice (some ⟨w.heap.size+1,0,none⟩) 1 1,.slice (some ⟨w.heap.size+2,0,none⟩) 3 3,.slice (some ⟨w.heap.size+3,0,none⟩) 1 1,.slice (some ⟨w.heap.size+4,0,none⟩) 7 7]] u fun e w'=>∃R a X,e=.returned (.tuple #[.pointer (some ⟨R,0,none⟩),.int .i64 0])/\Zit (fun b=>b<u.heap.size\/b=a.S) u.heap.size w' R a X (Zje 4) [⟨[],4⟩]/\Below u.heap.size u w'):=fun v u h e=>by
  subst e;have:=Zabj _ _ _ _ (Zje 4) (Zxd 4) u (Zakk h (fun _ _ _=>rfl) h.slots) (Zog 4 dE dE);rw[Zait]at this;exact this
 have hg4:=(Zof (Zog 4 dE dE)).1;have KB:Hid (∀v:World,Calls prog 6 #[.agg #[.slice none 0 0,.slice none 0 0,.slice none 0 0,.slice (some ⟨v.heap.size,0,none⟩) 1 1]] (v.alloc (.cells #[.int .i64 35,.int .i64 0,.int .i64 0,.int .i64 0,.int .i64 0,.int .i64 0,.int .u32 0] 45)) fun e w'=>e=.returned (.tuple #[.pointer none,.int .i64 160])/\Below v.heap.size v w'):=fun v=>by
  have:=Zafw (.slice none 0 0) (.slice none 0 0) (.slice none 0 0) (.slice (some ⟨v.heap.size,0,none⟩) 1 1) endC end_ok (v.alloc (.cells #[.int .i64 35,.int .i64 0,.int .i64 0,.int .i64 0,.int .i64 0,.int .i64 0,.int .u32 0] 45)) ⟨⟨none,0,rfl,.inl rfl⟩,⟨none,0,rfl,.inl rfl⟩,⟨none,0,rfl,.inl rfl⟩,Zuy (l:=endC.list) Zqf v _ _ rF 1⟩ (by rw[Zzv];decide);rw[Zzv]at this;exact this.mono fun e w' ⟨h1,h2⟩=>⟨h1,bel (Zhq _ _) h2⟩
 have heq:∀ (w:World) (q:Addr),(binOp .eql 32 (.pointer (some q)) (.pointer none)).run prog w=.ok (.bool false) w:=fun w q=>by go_simp
 go_enter func8,ntmps8;go_wp2_with(first
  |(go_at_call 23;refine(Zapq w).mono ?_;rintro e w1 ⟨rfl,hb1,hh1,hs1⟩;have HB1:=hidM hb1;have HH1:=hidM hh1;have HS1:=hidM hs1;clear hb1 hh1 hs1)
  |(go_at_call 6;(with_reducible refine(KN.out w1 w1 HH1.out rfl).mono ?_);rintro e w2 ⟨R,a,X,rfl,hrun,hb2⟩;have HRUN:=hidM hrun;have HB2:=hidM hb2;obtain⟨W3,hW3⟩:∃W3,(w2.alloc (.cells #[.int .u32 1073741824,.int .u32 1065353216] 43)).alloc (.cells #[.slice (some ⟨w2.heap.size,0,none⟩) 2 2] 57)=W3:=⟨_,rfl⟩;have HB3:Hid (Below w2.heap.size w2 W3):=(by rw[←hW3];exact bel (Zhq _ _) (Zhq _ _));have HVS:Hid (VsT (fun b=>b<w1.heap.size\/b=a.S) W3 (.slice (some ⟨w2.heap.size+1,0,none⟩) 1 1) [[1073741824,1065353216]]):=(by rw[←hW3];exact vs_two w2 _ _ (by have:=hb2.size;have:=hrun.slots.row.lt;omega) (by have:=hb2.size;have:=hrun.slots.row.lt;omega));have KS1:=hidM (half_go (k:=4) (y:=4) dE dE Zgw Zgw W3 R a X (hrun.below HB3.out) (by have:=hb2.size;have:=HB3.out.size;omega) _ HVS.out);clear hrun hb2)
  |(go_at_call 10;(with_reducible refine KS1.out.mono ?_);rintro e w4 ⟨UB,rfl,⟨X4,hrun4⟩,hun4,hvs4⟩;have HRUN4:=hidM hrun4;have HUN4:=hidM hun4;have HVS4:=hidM hvs4;have KSL:=hidM (Zajj (k:=4) dE dE w4 R a X4 hrun4);clear hrun4 hun4 hvs4)
  |(go_at_call 14;(with_reducible refine KSL.out.mono ?_);rintro e w5 ⟨p5,d5,rfl,hb5⟩;have HB5:=hidM hb5;have KS2:=hidM (Zami (k:=4) dE dE w5 R a X4 (HRUN4.out.below hb5));clear hb5)
  |(go_at_call 10;(with_reducible refine KS2.out.mono ?_);rintro e w6 ⟨rfl,hb6⟩;have HB6:=hidM hb6;clear hb6)
  |(go_at_call 6;(with_reducible refine(KB.out w6).mono ?_);rintro e w7 ⟨rfl,hb7⟩;have HB7:=hidM hb7;have KSV:=hidM (Zuw (T:=fun b=>b<W3.heap.size) (T':=fun _=>False) ((w7.alloc (.cells #[.int .u32 1065353216,.int .u32 1056964608] 43)).alloc (.cells #[.slice (some ⟨w7.heap.size,0,none⟩) 2 2] 57)) (.slice (some ⟨UB,0,none⟩) 1 1) (.slice (some ⟨w7.heap.size+1,0,none⟩) 1 1) [[1065353216,1056964608]] (by have:=HVS4.out;rw[Zapp]at this;exact this.below (bel HB5.out (bel HB6.out (bel hb7 (bel (Zhq _ _) (Zhq _ _)))))) (vs_two w7 _ _ (fun e=>e) (fun e=>e)) (by show 1<=1048576;decide) (fun l hl=>by simp at hl;rw[hl];show 2<=1048576;decide));clear hb7)
  |(go_at_call 12;(with_reducible refine KSV.out.mono ?_);rintro e w8 ⟨rfl,hb8⟩;have HB8:=hidM hb8;clear hb8))
 go_ret;have hS:=HRUN.out.bS;have hs1:=HB1.out.size;have hs2:=HB2.out.size;have hs3:=HB3.out.size;refine⟨rfl,?_⟩;have hA:Below w.heap.size w W3:=bel HB1.out (bel HB2.out HB3.out);have hC:Below w.heap.size W3 w4:=HUN4.out.below oM (fun b e=>by omega);exact(hA.trans hC).trans ((bel HB5.out (bel HB6.out (bel HB7.out (bel (bel (Zhq _ _) (Zhq _ _)) HB8.out)))).mono (by have:=hC.size;omega))
theorem Zaqu(c:Cd)(f:Fr):(updP c f).length=c.sign.length:=by simp[updP]
theorem Zals{c:Cd}(hg:Good c)(f:Fr):∀l∈updP c f,l.length<=1048576:=by
 intro l hl;obtain⟨p,hp,rfl⟩:=List.mem_map.1 hl;rw[List.length_map,List.length_range];cases h:c.sign[p]? with
 |none=>exact Nat.zero_le _
 |some q=>
  have hq:=hg.len q (List.mem_of_getElem? h);show numL q<=_;unfold numL numP;split
  ·split<;>omega
  ·simp
theorem Zaed{T:Nat->Prop}{w w':World}{v:Value}{L:List (List Int)}(h:VsT (High w) w v L)(q:Un T w w')(hT:∀b,T b->w.heap.size<=b):VsT T w' v L:=
 (h.un q (fun b hb e=>hT b e)).mono (fun b hb e=>hT b e)
theorem VsT.slice{T:Nat->Prop}{w:World}{v:Value}{L:List (List Int)}(h:VsT T w v L):∃p q,v=.slice p L.length q:=by obtain⟨p,q,e,_⟩:=h;exact⟨p,q,e⟩
theorem cs_new{T:Nat->Prop}{w:World}{p:Option Addr}{n q B:Nat}{S:List Cl}(h:CsV w (.slice p n q) S)(hp:∀b o s,p=some ⟨b,o,s⟩->B<=b)(hx:∀x∈S,∀b o s,x.p=some ⟨b,o,s⟩->B<=b)(hT:∀b,T b->b<B):CsT T w (.slice p n q) S:=by
 obtain⟨p',q',e,hr⟩:=h.row;simp only[Value.slice.injEq]at e;obtain⟨rfl,rfl,rfl⟩:=e;refine⟨⟨p,q,rfl,?_⟩,fun x hx'=>(h.nums x hx').free (hx x hx') hT⟩;by_cases h0:S=[]
 ·exact .inl h0
 ·rcases hr with e|⟨b,o,e,hc⟩
  ·exact absurd e h0
  ·refine .inr ⟨b,o,e,fun k=>by have h1:=hT b k;have h2:=hp b o none e;omega,?_,hc⟩;have h1:=(hc 0 (List.length_pos_iff.2 h0)).at 0 (v:=.slice (S[0]'(List.length_pos_iff.2 h0)).p (S[0]'(List.length_pos_iff.2 h0)).h.pats.length (S[0]'(List.length_pos_iff.2 h0)).q) rfl;exact Zhr h1
theorem Zada{w:World}{B:Nat}{e:TypeId}{g n cap:Nat}{xs:List Value}(h:w.ownsRow B e 7 (.slice (some ⟨g,0,none⟩) n cap) n xs)(j:Nat)(u0 u1 u2 u3 u4 u5 u6:Value):∃ys,(((((((w.setCell ⟨g,j*7,none⟩ u0).setCell ⟨g,j*7+1,none⟩ u1).setCell ⟨g,j*7+2,none⟩ u2).setCell ⟨g,j*7+3,none⟩ u3).setCell ⟨g,j*7+4,none⟩ u4).setCell ⟨g,j*7+5,none⟩ u5).setCell ⟨g,j*7+6,none⟩ u6).ownsRow B e 7 (.slice (some ⟨g,0,none⟩) n cap) n ys:=
 ⟨_,((((((((h.stored (j*7) u0).1).stored (j*7+1) u1).1).stored (j*7+2) u2).1.stored (j*7+3) u3).1.stored (j*7+4) u4).1.stored (j*7+5) u5).1.stored (j*7+6) u6 |>.1⟩
theorem nb_set{T:Nat->Prop}{w5 w6:World}{a0 a1 a2 a3:Value}{p5 pu:Option Addr}{n2 q5 nu qu:Nat}{S':List Cl}{hs':List Hd}{L:List (List Int)}{c:Cd}{E:Int}{NX:Nat}(hn:w6.rowIs w5.heap.size 38 5 (f5 (.slice none 0 0) (.slice none 0 0) (.slice none 0 0) (.slice none 0 0) (.slice none 0 0)))(hb:Below w5.heap.size w5 w6)(h1:S'.map (·.h)=hs')(h2:CsT (fun b=>T b\/b=w5.heap.size) w6 (.slice p5 n2 q5) S')(h3:VsT (fun b=>b<NX) w6 (.slice pu nu qu) L)(h4:SlR c hs')(hX:w5.heap.size<NX):
 ∃NB p5' q5' pu' nu' qu' S'',Value.pointer (some ⟨w5.heap.size,0,none⟩)=.pointer (some ⟨NB,0,none⟩)/\Value.slice pu nu qu=.slice pu' nu' qu'/\Value.int .i64 E=.int .i64 E/\Hid ((((((w6.setCell ⟨w5.heap.size,0,none⟩ a0).setCell ⟨w5.heap.size,1,none⟩ a1).setCell ⟨w5.heap.size,2,none⟩ a2).setCell ⟨w5.heap.size,3,none⟩ a3).setCell ⟨w5.heap.size,4,none⟩ (.slice p5 n2 q5)).rowIs NB 38 5 (f5 a0 a1 a2 a3 (.slice p5' n2 q5'))/\w5.heap.size<=NB/\S''.map (·.h)=hs'/\CsT T (((((w6.setCell ⟨w5.heap.size,0,none⟩ a0).setCell ⟨w5.heap.size,1,none⟩ a1).setCell ⟨w5.heap.size,2,none⟩ a2).setCell ⟨w5.heap.size,3,none⟩ a3).setCell ⟨w5.heap.size,4,none⟩ (.slice p5 n2 q5)) (.slice p5' n2 q5') S''/\VsT (fun b=>b<w5.heap.size) (((((w6.setCell ⟨w5.heap.size,0,none⟩ a0).setCell ⟨w5.heap.size,1,none⟩ a1).setCell ⟨w5.heap.size,2,none⟩ a2).setCell ⟨w5.heap.size,3,none⟩ a3).setCell ⟨w5.heap.size,4,none⟩ (.slice p5 n2 q5)) (.slice pu' nu' qu') L/\SlR c hs'/\Below w5.heap.size w5 (((((w6.setCell ⟨w5.heap.size,0,none⟩ a0).setCell ⟨w5.heap.size,1,none⟩ a1).setCell ⟨w5.heap.size,2,none⟩ a2).setCell ⟨w5.heap.size,3,none⟩ a3).setCell ⟨w5.heap.size,4,none⟩ (.slice p5 n2 q5))):=by
 have hu:Un (fun b=>b=w5.heap.size) w6 (((((w6.setCell ⟨w5.heap.size,0,none⟩ a0).setCell ⟨w5.heap.size,1,none⟩ a1).setCell ⟨w5.heap.size,2,none⟩ a2).setCell ⟨w5.heap.size,3,none⟩ a3).setCell ⟨w5.heap.size,4,none⟩ (.slice p5 n2 q5)):=(((((Un.refl _ _).setCell rF _).setCell rF _).setCell rF _).setCell rF _).setCell rF _;refine⟨_,p5,q5,pu,nu,qu,S',rfl,rfl,rfl,(((((hn.set 0 a0).set 1 a1).set 2 a2).set 3 a3).set 4 _).congr (fun j hj=>?_),Nat.le_refl _,h1,(h2.un hu fun b _ e=>.inr e).mono fun b _ e=>.inl e,(h3.un hu fun b _ e=>by omega).mono fun b _ e=>by omega,h4,((((hb.setCell (Nat.le_refl _) _).setCell (Nat.le_refl _) _).setCell (Nat.le_refl _) _).setCell (Nat.le_refl _) _).setCell (Nat.le_refl _) _⟩;have hj':j<5:=hj;obtain rfl|rfl|rfl|rfl|rfl:j=0\/j=1\/j=2\/j=3\/j=4:=oM
 all_goals rfl
theorem Zapt{T:Nat->Prop}{w5 w6:World}{a0 a1 a2 a3:Value}{p5 pu:Option Addr}{n2 q5 nu qu:Nat}{S':List Cl}{hs':List Hd}{L:List (List Int)}{c:Cd}{E:Int}(hb:Below w5.heap.size w5 w6)(h1:S'.map (·.h)=hs')(h2:CsT (fun b=>T b\/False) w6 (.slice p5 n2 q5) S')(h3:VsT (fun b=>b<w5.drew.heap.size) w6 (.slice pu nu qu) L)(h4:SlR c hs'):
 ∃NB p5' q5' pu' nu' qu' S'',Value.pointer (some ⟨w6.heap.size,0,none⟩)=.pointer (some ⟨NB,0,none⟩)/\Value.slice pu nu qu=.slice pu' nu' qu'/\Value.int .i64 E=.int .i64 E/\Hid ((w6.alloc (.cells #[a0,a1,a2,a3,.slice p5 n2 q5] 38)).rowIs NB 38 5 (f5 a0 a1 a2 a3 (.slice p5' n2 q5'))/\w5.heap.size<=NB/\S''.map (·.h)=hs'/\CsT T (w6.alloc (.cells #[a0,a1,a2,a3,.slice p5 n2 q5] 38)) (.slice p5' n2 q5') S''/\VsT (fun b=>b<w5.heap.size) (w6.alloc (.cells #[a0,a1,a2,a3,.slice p5 n2 q5] 38)) (.slice pu' nu' qu') L/\SlR c hs'/\Below w5.heap.size w5 (w6.alloc (.cells #[a0,a1,a2,a3,.slice p5 n2 q5] 38))):=
 ⟨_,p5,q5,pu,nu,qu,S',rfl,rfl,rfl,World.rowIs_alloc w6 _ _ _ (Zpt _ _ _ _ _),hb.size,h1,(h2.mono (fun b _ e=>.inl e)).below (Zhq _ _),(h3.mono (fun b _ e=>Nat.lt_of_lt_of_le e (Zht w5).size)).below (Zhq _ _),h4,bel hb (Zhq _ _)⟩
theorem db_set{w:World}{B:Nat}{a0 a1 a2 a3 a4 b0 b1 b2 b3 b4:Value}(h:w.rowIs B 38 5 (f5 b0 b1 b2 b3 b4)):
 (((((w.setCell ⟨B,0,none⟩ a0).setCell ⟨B,1,none⟩ a1).setCell ⟨B,2,none⟩ a2).setCell ⟨B,3,none⟩ a3).setCell ⟨B,4,none⟩ a4).rowIs B 38 5 (f5 a0 a1 a2 a3 a4)/\Un (fun b=>b=B) w (((((w.setCell ⟨B,0,none⟩ a0).setCell ⟨B,1,none⟩ a1).setCell ⟨B,2,none⟩ a2).setCell ⟨B,3,none⟩ a3).setCell ⟨B,4,none⟩ a4):=by
 refine⟨(((((h.set 0 a0).set 1 a1).set 2 a2).set 3 a3).set 4 a4).congr (fun j hj=>?_),(((((Un.refl _ _).setCell rF _).setCell rF _).setCell rF _).setCell rF _).setCell rF _⟩;have hj':j<5:=hj;obtain rfl|rfl|rfl|rfl|rfl:j=0\/j=1\/j=2\/j=3\/j=4:=oM
 all_goals rfl
theorem Zakw(v0 v1 v2 v3 v4:Value)(c:Cd)(hk:CdOk c)(hz:CdSz c)(w:World)(hv:CdV w v0 v1 v2 v3 c)(hc:(Zik c).1≠0):
 Calls prog 3 #[.agg #[v0,v1,v2,v3,v4]] w fun e w'=>e=.returned (.bool true)/\Below w.heap.size w w':=by
 have KT:=hidM (fun(v:World) (h:Below w.heap.size w v)=>Zaca v0 v1 v2 v3 c hz v (hv.below h));have KN:Hid (∀ (v:World) (u0 u1 u2 u3:Value),CdV v u0 u1 u2 u3 c->Calls prog 6 #[.agg #[u0,u1,u2,u3]] v fun e w'=>e=.returned (.tuple #[.pointer none,.int .i64 (Zik c).1])/\Below v.heap.size v w'):=fun v u0 u1 u2 u3 h=>Zafw u0 u1 u2 u3 c hk v h hc;have KM:Hid (∀v,Below w.heap.size w v->Calls prog 7 #[.agg #[v0,v1,v2,v3]] v fun e w'=>e=.returned (.tuple #[.agg #[.slice none 0 0,.slice none 0 0,.slice none 0 0,.slice none 0 0,.slice none 0 0],.int .i64 (Zik c).1])/\Below v.heap.size v w'):=fun v h=>Zaih v0 v1 v2 v3 c hk v (hv.below h) hc;obtain⟨e1,he1⟩:∃e1,(Zik c).1=e1:=⟨_,rfl⟩
 rw[he1]at hc KN KM;have n1:(e1 != 0)=true:=by simpa using hc
 have n2:(e1==0)=false:=by simpa using hc
 have KSU:=hidM Zzq;obtain⟨p0,q0,rfl⟩:∃p q,v0=.slice p c.sign.length q:=by obtain⟨p,q,e,_⟩:=hv.sign;exact⟨p,q,e⟩
 obtain⟨p1,q1,rfl⟩:∃p q,v1=.slice p c.regs.length q:=by obtain⟨p,q,e,_⟩:=hv.regs;exact⟨p,q,e⟩
 obtain⟨p2,q2,rfl⟩:∃p q,v2=.slice p c.slots.length q:=by obtain⟨p,q,e,_⟩:=hv.slots;exact⟨p,q,e⟩
 obtain⟨p3,q3,rfl⟩:∃p q,v3=.slice p c.list.length q:=by obtain⟨p,q,e,_⟩:=hv.list;exact⟨p,q,e⟩
 obtain⟨W0,hW0⟩:∃W0,w.alloc (.cells #[.slice p0 c.sign.length q0,.slice p1 c.regs.length q1,.slice p2 c.slots.length q2,.slice p3 c.list.length q3,v4] 30)=W0:=⟨_,rfl⟩
 have HB0:Hid (Below w.heap.size w W0):=by rw[←hW0];exact Zhq _ _
 have k0:W0.cell? ⟨w.heap.size,0,none⟩=some (.slice p0 c.sign.length q0):=by rw[←hW0];simp[go_sem]
 have k1:W0.cell? ⟨w.heap.size,1,none⟩=some (.slice p1 c.regs.length q1):=by rw[←hW0];simp[go_sem]
 have k2:W0.cell? ⟨w.heap.size,2,none⟩=some (.slice p2 c.slots.length q2):=by rw[←hW0];simp[go_sem]
 have k3:W0.cell? ⟨w.heap.size,3,none⟩=some (.slice p3 c.list.length q3):=by rw[←hW0];simp[go_sem]
 clear hv hk hz he1;go_enter func3,ntmps3;go_wp2_with(first
  |(go_at_call 5;(with_reducible refine(KT.out _ HB0.out).mono ?_);rintro e w1 ⟨u0,u1,u2,u3,rfl,hcd,-,hb1⟩;obtain⟨a0,b0,rfl⟩:∃p q,u0=.slice p c.sign.length q:=(by obtain⟨p,q,e,_⟩:=hcd.sign;exact⟨p,q,e⟩);obtain⟨a1,b1,rfl⟩:∃p q,u1=.slice p c.regs.length q:=(by obtain⟨p,q,e,_⟩:=hcd.regs;exact⟨p,q,e⟩);obtain⟨a2,b2,rfl⟩:∃p q,u2=.slice p c.slots.length q:=Zhj;obtain⟨a3,b3,rfl⟩:∃p q,u3=.slice p c.list.length q:=(by obtain⟨p,q,e,_⟩:=hcd.list;exact⟨p,q,e⟩);have HCD:=hidM hcd;have HB1:=hidM hb1;have m0:=(fun o=>kc (bel hb1 (Zhq _ o)) k0);have m1:=(fun o=>kc (bel hb1 (Zhq _ o)) k1);have m2:=(fun o=>kc (bel hb1 (Zhq _ o)) k2);have m3:=(fun o=>kc (bel hb1 (Zhq _ o)) k3);clear hcd hb1)
  |(go_at_call 6;(with_reducible refine(KN.out _ _ _ _ _ (HCD.out.below (Zhq _ _))).mono ?_);rintro e w2 ⟨rfl,hb2⟩;have HB2:=hidM hb2;have l0:=kc hb2 (m0 _);have l1:=kc hb2 (m1 _);have l2:=kc hb2 (m2 _);have l3:=kc hb2 (m3 _);clear hb2)
  |(go_at_call 7;(with_reducible refine(KM.out _ (bel HB0.out (bel HB1.out (bel (Zhq _ _) HB2.out)))).mono ?_);rintro e w3 ⟨rfl,hb3⟩;have HB3:=hidM hb3;clear hb3)
  |(go_at_call 8;refine(KSU.out _).mono ?_;rintro e w6 ⟨rfl,hb6⟩;have HB6:=hidM hb6;clear hb6))
 go_ret;exact⟨rfl,bel HB0.out (bel HB1.out (bel (Zhq _ _) (bel HB2.out (bel HB3.out (bel (Zhq _ _) HB6.out)))))⟩
theorem Zagz(v0 v1 v2 v3 v4:Value)(c:Cd)(hk:CdOk c)(hz:CdSz c)(l:List St)(hl:l.length<=140737488351232)(w:World)(hv:CdV w v0 v1 v2 v3 c)(hr:RowG 2 stC w v4 l)(hs:∀s∈l,StOk w s)(hc:(Zik c).1=0):
 Calls prog 3 #[.agg #[v0,v1,v2,v3,v4]] w fun e w'=>e=.returned (.bool true)/\Below w.heap.size w w':=by
 obtain⟨hg,-⟩:=Zof hc;have heq:∀ (w:World) (q:Addr),(binOp .eql 32 (.pointer (some q)) (.pointer none)).run prog w=.ok (.bool false) w:=fun w q=>by go_simp
 have KT:=hidM (fun(v:World) (h:Below w.heap.size w v)=>Zaca v0 v1 v2 v3 c hz v (hv.below h));have KN:=hidM (fun(v:World) (u0 u1 u2 u3:Value) (h:CdV v u0 u1 u2 u3 c)=>Zabj u0 u1 u2 u3 c hk v h hc);have KM:=hidM (fun(v:World) (h:Below w.heap.size w v)=>Zadt v0 v1 v2 v3 c hk v (hv.below h) hc);have KSU:=hidM Zzq;have HG:=hidM (And.intro hg (And.intro hc hk));have HS:=hidM hs;have hb3:=hg.listL;obtain⟨p0,q0,rfl⟩:∃p q,v0=.slice p c.sign.length q:=by obtain⟨p,q,e,_⟩:=hv.sign;exact⟨p,q,e⟩
 obtain⟨p1,q1,rfl⟩:∃p q,v1=.slice p c.regs.length q:=by obtain⟨p,q,e,_⟩:=hv.regs;exact⟨p,q,e⟩
 obtain⟨p2,q2,rfl⟩:∃p q,v2=.slice p c.slots.length q:=by obtain⟨p,q,e,_⟩:=hv.slots;exact⟨p,q,e⟩
 obtain⟨p3,q3,rfl⟩:∃p q,v3=.slice p c.list.length q:=by obtain⟨p,q,e,_⟩:=hv.list;exact⟨p,q,e⟩
 obtain⟨p4,q4,rfl,hrow⟩:=hr;have HROW:=hidM hrow;have HVV:=hidM hv;obtain⟨N4,hN4⟩:∃N,l.length=N:=⟨_,rfl⟩
 have HN4:=hidM hN4;rw[hN4]at hl ⊢;obtain⟨W0,hW0⟩:∃W0,w.alloc (.cells #[.slice p0 c.sign.length q0,.slice p1 c.regs.length q1,.slice p2 c.slots.length q2,.slice p3 c.list.length q3,.slice p4 N4 q4] 30)=W0:=⟨_,rfl⟩
 have HB0:Hid (Below w.heap.size w W0):=by rw[←hW0];exact Zhq _ _
 have HS0:Hid (W0.heap.size=w.heap.size+1):=by rw[←hW0];show _=_;simp
 have k0:W0.cell? ⟨w.heap.size,0,none⟩=some (.slice p0 c.sign.length q0):=by rw[←hW0];simp[go_sem]
 have k1:W0.cell? ⟨w.heap.size,1,none⟩=some (.slice p1 c.regs.length q1):=by rw[←hW0];simp[go_sem]
 have k2:W0.cell? ⟨w.heap.size,2,none⟩=some (.slice p2 c.slots.length q2):=by rw[←hW0];simp[go_sem]
 have k3:W0.cell? ⟨w.heap.size,3,none⟩=some (.slice p3 c.list.length q3):=by rw[←hW0];simp[go_sem]
 have k4:W0.cell? ⟨w.heap.size,4,none⟩=some (.slice p4 N4 q4):=by rw[←hW0];simp[go_sem]
 have K4:=hidM k4;clear k4 hv hz hk hs hrow hg hc hN4;go_enter func3,ntmps3;go_upto_block 0 with(first
  |(go_at_call 5;(with_reducible refine(KT.out _ HB0.out).mono ?_);rintro e w1 ⟨u0,u1,u2,u3,rfl,hcd,how,hb1⟩;obtain⟨a0,b0,rfl⟩:∃p q,u0=.slice p c.sign.length q:=(by obtain⟨p,q,e,_⟩:=hcd.sign;exact⟨p,q,e⟩);obtain⟨a1,b1,rfl⟩:∃p q,u1=.slice p c.regs.length q:=(by obtain⟨p,q,e,_⟩:=hcd.regs;exact⟨p,q,e⟩);obtain⟨a2,b2,rfl⟩:∃p q,u2=.slice p c.slots.length q:=Zhj;obtain⟨a3,b3,rfl⟩:∃p q,u3=.slice p c.list.length q:=(by obtain⟨p,q,e,_⟩:=hcd.list;exact⟨p,q,e⟩);have HCD:=hidM hcd;have HOW:=hidM how.list;have HB1:=hidM hb1;have m0:=(fun o=>kc (bel hb1 (Zhq _ o)) k0);have m1:=(fun o=>kc (bel hb1 (Zhq _ o)) k1);have m2:=(fun o=>kc (bel hb1 (Zhq _ o)) k2);have m3:=(fun o=>kc (bel hb1 (Zhq _ o)) k3);clear hcd hb1 how)
  |(go_at_call 6;(with_reducible refine(KN.out _ _ _ _ _ (HCD.out.below (Zhq _ _))).mono ?_);rintro e w2 ⟨R,a,X,rfl,hrun,hb2⟩;have HRUN:=hidM hrun;have HB2:=hidM hb2;have l0:=kc hb2 (m0 _);have l1:=kc hb2 (m1 _);have l2:=kc hb2 (m2 _);have l3:=kc hb2 (m3 _);clear hb2 hrun)
  |(go_at_call 7;(with_reducible refine(KM.out _ (bel HB0.out (bel HB1.out (bel (Zhq _ _) HB2.out)))).mono ?_);rintro e w3 ⟨pd,qd,S,rfl,hmap,hcs,hb3',hlo,hlx⟩;have HMAP:=hidM hmap;have HCS:=hidM (And.intro hcs (And.intro hlo hlx));have HB3:=hidM hb3';clear hb3' hmap hcs hlo hlx l0 l1 l2 l3))
 obtain⟨W1,hW1⟩:∃W,w1.alloc (.cells #[.slice a0 c.sign.length b0,.slice a1 c.regs.length b1,.slice a2 c.slots.length b2,.slice a3 c.list.length b3] 27)=W:=⟨_,rfl⟩
 have HS1:Hid (W1.heap.size=w1.heap.size+1):=by rw[←hW1];show _=_;simp
 have HBX:Hid (Below w1.heap.size w1 W1):=by rw[←hW1];exact Zhq _ _
 have HM1:Hid (W1.cell? ⟨w1.heap.size,3,none⟩=some (.slice a3 c.list.length b3)):=by rw[←hW1];show _=_;simp[go_sem]
 rw[hW1]at HRUN HB2;obtain⟨W3,hW3⟩:∃W,w3.alloc (.cells #[.slice p0 c.sign.length q0,.slice p1 c.regs.length q1,.slice p2 c.slots.length q2,.slice p3 c.list.length q3,.slice pd c.slots.length qd] 38)=W:=⟨_,rfl⟩
 have HB4:Hid (Below w3.heap.size w3 W3):=by rw[←hW3];exact Zhq _ _
 have HDB:Hid (W3.rowIs w3.heap.size 38 5 (f5 (.slice p0 c.sign.length q0) (.slice p1 c.regs.length q1) (.slice p2 c.slots.length q2) (.slice p3 c.list.length q3) (.slice pd c.slots.length qd))):=by rw[←hW3];exact World.rowIs_alloc w3 _ _ _ (Zpt _ _ _ _ _)
 try rw[hW3]
 clear hW1 hW3 m0 m1 m2 m3 k0 k1 k2 k3;obtain⟨DB,hDB⟩:∃d,w3.heap.size=d:=⟨_,rfl⟩
 obtain⟨MB,hMB⟩:∃d,w1.heap.size=d:=⟨_,rfl⟩
 obtain⟨ML,hML⟩:∃ML,W0.heap.size<=ML/\ML<W1.heap.size/\(0<c.list.length->a3=some ⟨ML,0,none⟩/\ML<MB):=by
  by_cases h0:0<c.list.length
  ·obtain⟨g,cap,e,h1,h2⟩:=HOW.out.form h0;have h3:=(HOW.out.lt g (by rw[e];rfl))
   simp only[Value.slice.injEq]at e;have h4:=HS1.out;exact⟨g,oM,oM,fun _=>⟨e.1,oM⟩⟩
  ·exact⟨w1.heap.size,HB1.out.size,by have:=HS1.out;omega,fun h=>absurd h h0⟩
 rw[hDB]at HDB HB4;rw[hDB,hMB];rw[hMB]at HM1 HS1;have HML:=hidM hML;have HNUM:Hid (W0.heap.size=w.heap.size+1/\W0.heap.size<=MB/\W1.heap.size=MB+1/\W1.heap.size<=w2.heap.size/\w2.heap.size<=DB/\DB<W3.heap.size/\W1.heap.size<=a.S/\a.S<w2.heap.size/\W0.heap.size<=ML/\ML<W1.heap.size):=by
  have e1:=HB1.out.size;have e2:=HB2.out.size;have e3:=HB3.out.size;exact⟨HS0.out,oM,HS1.out,e2,oM,HDB.out.lt,HRUN.out.bS,HRUN.out.slots.row.lt,hML.1,hML.2.1⟩
 have HB4':Hid (Below w3.heap.size w3 W3):=by rw[hDB];exact HB4.out
 have HW3:Hid (Below w.heap.size w W3/\Below W0.heap.size W0 W3):=⟨bel HB0.out (bel HB1.out (bel HBX.out (bel HB2.out (bel HB3.out HB4'.out)))),bel HB1.out (bel HBX.out (bel HB2.out (bel HB3.out HB4'.out)))⟩
 have HI:Hid (Zit (fun b=>b=a.S\/b=ML\/b=DB) W1.heap.size W3 R a X c (Zjo c)/\CsT (fun b=>b=a.S\/b=ML\/b=DB) W3 (.slice pd c.slots.length qd) S):=by
  obtain⟨f1,f2,f3,f4,f5,f6,f7,f8,f9,f10⟩:=HNUM.out;refine⟨(HRUN.out.mono (.inl rfl) (fun b hb e=>?_)).below (bel HB3.out HB4'.out),((cs_new (T:=fun b=>b=a.S\/b=ML) HCS.out.1 HCS.out.2.1 HCS.out.2.2 (fun b e=>?_)).mono (fun b hb e=>?_)).below HB4'.out⟩
  ·rcases e with e|e|e
   ·exact .inr e
   ·exact .inl oM
   ·omega
  ·rcases e with e|e<;>omega
  ·rcases e with e|e|e
   ·exact .inl e
   ·exact .inr e
   ·omega
 have m3:W3.cell? ⟨MB,3,none⟩=some (.slice a3 c.list.length b3):=kc (bel HB2.out (bel HB3.out HB4'.out)) HM1.out;have HO3:Hid (W3.ownsRow W0.heap.size 45 7 (.slice a3 c.list.length b3) c.list.length (flat inC c.list)):=Ziu HOW.out (bel HBX.out (bel HB2.out (bel HB3.out HB4'.out)));have KSL:=hidM (fun(v:World) (Y:Nat->Value) (hs:List Hd) (S:List Cl) (pd:Option Addr) (qd:Nat) (h1:Zit (fun b=>b=a.S\/b=ML\/b=DB) W1.heap.size v R a Y c hs) (h2:S.map (·.h)=hs) (h3:CsV v (.slice pd c.slots.length qd) S)=>Zamu v R a Y c hs h1 HG.out.1 p0 p1 p2 p3 pd c.sign.length q0 c.regs.length q1 c.slots.length q2 c.list.length q3 qd rfl S h2 h3);have HZ0:Hid (SlR c (Zjo c)):=⟨HRUN.out.len,HRUN.out.ok,start_z HG.out.1⟩
 clear hML hDB hMB HB4 HOW HM1 HCS HB2 HB3 HBX HCD HRUN KT KN KM;go_cut [8] (fun iv wx=>Hid (Un (fun b=>b=ML) W3 wx))
 case first=>
  go_wp2_with fail
  go_loopw [8] (fun iv wr=>∃j:Nat,j<=c.list.length/\iv=.int .i64 (j:Int)/\Hid (Un (fun b=>b=ML) W3 wr/\wr.cell? ⟨MB,3,none⟩=some (.slice a3 c.list.length b3)/\(0<c.list.length->∃xs,wr.ownsRow W0.heap.size 45 7 (.slice (some ⟨ML,0,none⟩) c.list.length b3) c.list.length xs))) (fun iv _=>c.list.length-(intOf iv).toNat)
  case atStart=>exact⟨0,Nat.zero_le _,rfl,Un.refl _ _,m3,fun h=>⟨_,by have h9:=HO3.out;rw[(HML.out.2.2 h).1]at h9;exact h9⟩⟩
  case round=>
   clear m3 HO3;obtain⟨j,hj,rfl,hR⟩:=hrel;have n3:=hR.out.2.1;by_cases hlt:j<c.list.length
   ·obtain⟨xs,hox⟩:=hR.out.2.2 oM;obtain⟨e3,hlm⟩:=HML.out.2.2 oM;rw[e3]at n3;have hsx:xs.length=c.list.length*7:=hox.1;have y:∀k,k<7->(∃z,wr.cell? ⟨ML,j*7+k,none⟩=some z):=fun k hk=>⟨xs[j*7+k]'oM,by rw[hox.cellAt (j*7+k) oM,List.getElem?_eq_getElem]⟩
    obtain⟨z0,y0⟩:=y 0 dE;obtain⟨z1,y1⟩:=y 1 dE;obtain⟨z2,y2⟩:=y 2 dE;obtain⟨z3,y3⟩:=y 3 dE;obtain⟨z4,y4⟩:=y 4 dE;obtain⟨z5,y5⟩:=y 5 dE;obtain⟨z6,y6⟩:=y 6 dE;rw[Nat.add_zero]at y0;have x0:=hox.frozenAt (j*7);have x1:=hox.frozenAt (j*7+1);have x2:=hox.frozenAt (j*7+2);have x3:=hox.frozenAt (j*7+3);have x4:=hox.frozenAt (j*7+4);have x5:=hox.frozenAt (j*7+5);have x6:=hox.frozenAt (j*7+6);have HOX:=hidM hox;have HE3:=hidM e3;have HLM:=hidM hlm;have i1:(0:Int)<=(j:Int):=oM;have i2:(j:Int)<(c.list.length:Int):=oM;have wi:IntKind.i64.wrap ((j:Int)+1)=((j+1:Nat):Int):=by rw[IntKind.wrap_i64];omega
    clear hox hsx y e3 hlm;go_wp2;go_roundw
    case rel=>
     refine⟨j+1,oM,gN,?_,?_,fun _=>Zada HOX.out j _ _ _ _ _ _ _⟩
     ·exact(((((((hR.out.1.setCell rF _).setCell rF _).setCell rF _).setCell rF _).setCell rF _).setCell rF _).setCell rF _)
     ·have hne:¬MB=ML:=by have:=HLM.out;omega
      exact Zig (Zig (Zig (Zig (Zig (Zig (Zig hR.out.2.1 hne _) hne _) hne _) hne _) hne _) hne _) hne _
    case measure=>simp[intOf];omega
   ·have e1:¬ (j:Int)<(c.list.length:Int):=oM;clear hlt;go_wp2;go_meet;exact hR.out.1
 case rest=>
  clear m3 HO3;have HUA:Hid (Un (fun b=>b=ML) W3 wc):=hcut;clear hcut;have HDA:Hid (wc.rowIs DB 38 5 (f5 (.slice p0 c.sign.length q0) (.slice p1 c.regs.length q1) (.slice p2 c.slots.length q2) (.slice p3 c.list.length q3) (.slice pd c.slots.length qd))):=HDB.out.of_block (HUA.out.block DB HDB.out.lt (by obtain⟨f1,f2,f3,f4,f5,f6,f7,f8,f9,f10⟩:=HNUM.out;omega));have HIA:Hid (Zit (fun b=>b=a.S\/b=ML\/b=DB) W1.heap.size wc R a X c (Zjo c)/\CsT (fun b=>b=a.S\/b=ML\/b=DB) wc (.slice pd c.slots.length qd) S):=⟨HI.out.1.un HUA.out (by obtain⟨f1,f2,f3,f4,f5,f6,f7,f8,f9,f10⟩:=HNUM.out;show¬a.S=ML;omega) (fun b _ e=>.inr (.inl e)),HI.out.2.un HUA.out (fun b _ e=>.inr (.inl e))⟩
  have d0:wc.cell? ⟨DB,0,none⟩=some (.slice p0 c.sign.length q0):=HDA.out.cell (i:=0) dE;have d1:wc.cell? ⟨DB,1,none⟩=some (.slice p1 c.regs.length q1):=HDA.out.cell (i:=1) dE;have d2:wc.cell? ⟨DB,2,none⟩=some (.slice p2 c.slots.length q2):=HDA.out.cell (i:=2) dE;have d3:wc.cell? ⟨DB,3,none⟩=some (.slice p3 c.list.length q3):=HDA.out.cell (i:=3) dE;have d4:wc.cell? ⟨DB,4,none⟩=some (.slice pd c.slots.length qd):=HDA.out.cell (i:=4) dE;go_wp2_with(go_at_call 9;(with_reducible refine(KSL.out _ _ _ _ _ _ HIA.out.1 HMAP.out HIA.out.2.cs).mono ?_);rintro e w4 ⟨rfl,hb4⟩;have HB5:=hidM hb4;clear hb4 d0 d1 d2 d3 d4)
  go_loopw [9] (fun iv wr=>∃j:Nat,j<=N4/\j<=30/\iv=.int .i64 (j:Int)/\Hid (∃hs Y S pd qd,Zit (fun b=>b=a.S\/b=ML\/b=DB) W1.heap.size wr R a Y c hs/\CsT (fun b=>b=a.S\/b=ML\/b=DB) wr (.slice pd c.slots.length qd) S/\S.map (·.h)=hs/\SlR c hs/\wr.rowIs DB 38 5 (f5 (.slice p0 c.sign.length q0) (.slice p1 c.regs.length q1) (.slice p2 c.slots.length q2) (.slice p3 c.list.length q3) (.slice pd c.slots.length qd))/\Un (fun b=>b=a.S\/b=ML\/b=DB) W3 wr)) (fun iv _=>30-(intOf iv).toNat)
  case atStart=>exact⟨0,Nat.zero_le _,dE,rfl,Zjo c,X,S,pd,qd,HIA.out.1.below HB5.out,HIA.out.2.below HB5.out,HMAP.out,HZ0.out,HDA.out.of_block (HB5.out.block _ HDA.out.lt),(HUA.out.mono (fun b e=>.inr (.inl e))).on HB5.out⟩
  case round=>
   obtain⟨j,hj,hj30,rfl,HR⟩:=hrel;obtain⟨hs,Y,S,pd,qd,h1,hcs,hmap,hsl,hdb,hun⟩:=HR.out;obtain⟨f1,f2,f3,f4,f5,f6,f7,f8,f9,f10⟩:=HNUM.out;have hT9:∀b,(b=a.S\/b=ML\/b=DB)->w.heap.size+1<=b:=by rintro b (rfl|rfl|rfl)<;>omega
   have hbw:Below (w.heap.size+1) W0 wr:=by
    have hA:=HW3.out.2;rw[HS0.out]at hA;exact hA.trans (hun.below oM hT9)
   have hbW:Below w.heap.size w wr:=HW3.out.1.trans (hun.below oM (fun b e=>Nat.le_of_succ_le (hT9 b e)));have b4:wr.cell? ⟨w.heap.size,4,none⟩=some (.slice p4 N4 q4):=(World.cell?_of_block (hbw.block w.heap.size oM)).trans K4.out;have hszr:=hun.size;have HEND:Hid (Below w.heap.size w wr):=hbW;by_cases hlt:j<N4
   ·by_cases h30:j<30
    ·have hjl:j<l.length:=by rw[HN4.out];exact hlt
     obtain⟨lb,lo,hp4,hcj⟩:∃lb lo,p4=some ⟨lb,lo,none⟩/\Zhw w lb (lo+j*2) (stC l[j]):=by
      rcases HROW.out with e|⟨b,o,hp,hc⟩
      ·rw[e]at hjl;cases hjl
      ·exact⟨b,o,hp,hc j hjl⟩
     subst hp4;have hst:=HS.out l[j] (List.getElem_mem hjl);obtain⟨s,hs9⟩:∃s,l[j]=s:=⟨_,rfl⟩
     rw[hs9]at hcj hst;obtain⟨gv,pv,G,P⟩:=s;obtain⟨g1,g2,g3,g4⟩:=hst;have hlb:lb<w.heap.size:=Zhr (hcj.at 0 rfl);have hUw:Un (fun b=>b=a.S\/b=ML\/b=DB) w wr:=(Un.of HW3.out.1).trans hun;have hgv:VsT (fun b=>b=a.S\/b=ML\/b=DB) wr gv G:=Zaed g1 hUw (fun b e=>Nat.le_of_succ_le (hT9 b e));have hpv:VsT (fun b=>b=a.S\/b=ML\/b=DB) wr pv P:=Zaed g2 hUw (fun b e=>Nat.le_of_succ_le (hT9 b e));obtain⟨pg,qg,rfl⟩:=hgv.slice;obtain⟨pp,qp,rfl⟩:=hpv.slice;have y0:wr.cell? ⟨lb,lo+j*2,none⟩=some (.slice pg G.length qg):=(World.cell?_of_block (hbw.block lb oM)).trans (kc HB0.out (hcj.at 0 rfl));have y1:wr.cell? ⟨lb,lo+j*2+1,none⟩=some (.slice pp P.length qp):=(World.cell?_of_block (hbw.block lb oM)).trans (kc HB0.out (hcj.at 1 rfl));have hTlt:∀b,(b=a.S\/b=ML\/b=DB)->b<wr.heap.size:=by rintro b (rfl|rfl|rfl)<;>omega
     obtain⟨hg,hc,hk⟩:=HG.out;have HVB:∀v5 v,Un (fun b=>b=a.S) wr v5->Below v5.heap.size v5 v->CdV v (.slice p0 c.sign.length q0) (.slice p1 c.regs.length q1) (.slice p2 c.slots.length q2) (.slice p3 c.list.length q3) c/\VcR v (.slice pg G.length qg) G/\VcR v (.slice pp P.length qp) P:=fun v5 v hu hb=>by
      have hu2:Un (fun b=>b=a.S\/b=ML\/b=DB) w v5:=hUw.trans (hu.mono fun b e=>.inl e);refine⟨(HVV.out.below (hu2.below (Nat.le_refl _) fun b e=>Nat.le_of_succ_le (hT9 b e))).below hb,(hgv.un hu (fun b _ e=>.inl e)).vc.below hb,(hpv.un hu (fun b _ e=>.inl e)).vc.below hb⟩
     obtain⟨E,hs',L,hK1,hK2,hL1,hL2⟩:∃ (E:Int) (hs':List Hd) (L:List (List Int)),(Calls prog 10 #[.pointer (some ⟨R,0,none⟩),.slice pg G.length qg,.slice pp P.length qp] wr.drew fun e w'=>∃pa na qa,e=.returned (.tuple #[.slice pa na qa,.int .i64 E])/\(∃X',Zit (fun b=>b=a.S\/b=ML\/b=DB) W1.heap.size w' R a X' c hs')/\Un (fun b=>b=a.S) wr w'/\VsT (fun b=>b<wr.heap.size) w' (.slice pa na qa) L)/\(∀ (v5 v:World) (N:Nat->Prop),Un (fun b=>b=a.S) wr v5->Below v5.heap.size v5 v->(∀b,N b->v5.heap.size<=b/\b<v.heap.size)->Calls prog 11 #[.agg #[.slice p0 c.sign.length q0,.slice p1 c.regs.length q1,.slice p2 c.slots.length q2,.slice p3 c.list.length q3,.slice pd c.slots.length qd],.slice pg G.length qg,.slice pp P.length qp] v fun e w'=>∃p5 q5 pu nu qu S',e=.returned (.tuple #[.agg #[.slice p0 c.sign.length q0,.slice p1 c.regs.length q1,.slice p2 c.slots.length q2,.slice p3 c.list.length q3,.slice p5 c.slots.length q5],.slice pu nu qu,.int .i64 E])/\S'.map (·.h)=hs'/\CsT (fun b=>(b=a.S\/b=ML\/b=DB)\/N b) w' (.slice p5 c.slots.length q5) S'/\VsT (fun b=>b<v.heap.size) w' (.slice pu nu qu) L/\SlR c hs'/\Below v.heap.size v w')/\L.length<=1048576/\∀x∈L,x.length<=1048576:=by
      cases hf:Zmc c G P with
      |true=>
       refine⟨0,(endJ c hs G P).slots,updP c (endJ c hs G P),?_,fun v5 v N hu hb hN=>?_,by rw[Zaqu];have:=hg.signL;omega,Zals hg _⟩
       ·exact(Zyr wr.drew R a Y c hs (h1.below (Zht _)) hc hk (fun b e=>Nat.lt_of_lt_of_le (hTlt b e) (Zht wr).size) _ _ G P (hgv.below (Zht _)) (hpv.below (Zht _)) g3 g4 hf).mono fun e w' ⟨UB,e1,e2,e3,e4⟩=>⟨_,_,_,e1,e2,(Un.of (Zht _)).trans e3,e4.mono (fun b _ q=>Nat.lt_of_lt_of_le q (Zht wr).size)⟩
       ·obtain⟨i1,i2,i3⟩:=HVB v5 v hu hb;have hs5:=hu.size;have hsv:=hb.size;refine(Zahg (T:=fun b=>(b=a.S\/b=ML\/b=DB)\/N b) p0 p1 p2 p3 pd pg pp q0 q1 q2 q3 qd qg qp c hc hk hs hsl S hmap G P g3 g4 hf v (fun b e=>e.elim (fun e=>by have:=hTlt b e;omega) (fun e=>(hN b e).2)) i1 (((hcs.un hu (fun b _ e=>.inl e)).mono (fun b hb5 e=>e.elim id (fun e=>by have:=(hN b e).1;omega))).below hb) i2 i3).mono ?_;rintro e w' ⟨p5,q5,pu,nu,qu,rfl,⟨⟨S',k1,k2⟩,k3,k4⟩,k5⟩;exact⟨p5,q5,pu,nu,qu,S',rfl,k1,k2.mono (fun b _ e=>.inl e),k3.mono (fun b _ e=>by omega),k4,k5⟩
      |false=>
       refine⟨170,hs,[],?_,fun v5 v N hu hb hN=>?_,Nat.zero_le _,fun x hx=>by cases hx⟩
       ·exact(Zaan wr.drew R a Y c hs (h1.below (Zht _)) hg hk.names _ _ G P (hgv.below (Zht _)) (hpv.below (Zht _)) g3 g4 hf).mono fun e w' h=>⟨none,0,0,h.1,⟨_,h1.below (bel (Zht wr) h.2)⟩,Un.of (bel (Zht wr) h.2),⟨none,0,rfl,.inl rfl⟩⟩
       ·obtain⟨i1,i2,i3⟩:=HVB v5 v hu hb;refine(Zamn p0 p1 p2 p3 pd pg pp q0 q1 q2 q3 qd qg qp c hg hk G P g3 g4 hf v i1 i2 i3).mono ?_;rintro e w' ⟨rfl,k5⟩;exact⟨pd,qd,none,0,0,S,rfl,hmap,(((hcs.un hu (fun b _ e=>.inl e)).mono (fun b hb5 e=>e.elim id (fun e=>by have:=(hN b e).1;omega))).below hb).below k5,⟨none,0,rfl,.inl rfl⟩,hsl,k5⟩
     have KS1:Hid (Calls prog 10 #[.pointer (some ⟨R,0,none⟩),.slice pg G.length qg,.slice pp P.length qp] wr.drew fun e w'=>∃pa na qa,e=.returned (.tuple #[.slice pa na qa,.int .i64 E])/\(∃X',Zit (fun b=>b=a.S\/b=ML\/b=DB) W1.heap.size w' R a X' c hs')/\Un (fun b=>b=a.S) wr w'/\VsT (fun b=>b<wr.heap.size) w' (.slice pa na qa) L):=hK1;have KS2:Hid (∀ (v5 v:World) (N:Nat->Prop),Un (fun b=>b=a.S) wr v5->Below v5.heap.size v5 v->(∀b,N b->v5.heap.size<=b/\b<v.heap.size)->Calls prog 11 #[.agg #[.slice p0 c.sign.length q0,.slice p1 c.regs.length q1,.slice p2 c.slots.length q2,.slice p3 c.list.length q3,.slice pd c.slots.length qd],.slice pg G.length qg,.slice pp P.length qp] v fun e w'=>∃p5 q5 pu nu qu S',e=.returned (.tuple #[.agg #[.slice p0 c.sign.length q0,.slice p1 c.regs.length q1,.slice p2 c.slots.length q2,.slice p3 c.list.length q3,.slice p5 c.slots.length q5],.slice pu nu qu,.int .i64 E])/\S'.map (·.h)=hs'/\CsT (fun b=>(b=a.S\/b=ML\/b=DB)\/N b) w' (.slice p5 c.slots.length q5) S'/\VsT (fun b=>b<v.heap.size) w' (.slice pu nu qu) L/\SlR c hs'/\Below v.heap.size v w'):=hK2;have HL:=hidM (And.intro hL1 hL2);have HUN:=hidM hun;have HDW:=hidM hdb;have HLT:Hid (lb<w.heap.size/\w.heap.size<a.S/\DB≠a.S/\DB<wr.heap.size/\w.heap.size<wr.heap.size):=⟨hlb,oM,oM,oM,oM⟩
     have j1:(0:Int)<=(j:Int):=oM;have j2:(j:Int)<(N4:Int):=oM;have j3:(j:Int)<30:=oM;have wi:IntKind.i64.wrap ((j:Int)+1)=((j+1:Nat):Int):=by rw[IntKind.wrap_i64];omega
     clear hg hc hk h1 hcs hmap hsl hdb hgv hpv hTlt g1 g2 g3 g4 hcj hs9 hUw hbw hbW hun hT9 hszr hlb hK1 hK2 hL1 hL2 HVB f1 f2 f3 f4 f5 f6 f7 f8 f9 f10 HR;go_upto_region 17 with fail;refine rG (fun v=>v.cell? ⟨w.heap.size,4,none⟩=some (.slice (some ⟨lb,lo,none⟩) N4 q4)/\v.cell? ⟨lb,lo+j*2,none⟩=some (.slice pg G.length qg)/\v.cell? ⟨lb,lo+j*2+1,none⟩=some (.slice pp P.length qp)) fun hHeld=>?_;refine Tf 0 1 2 3 4 5 ?_;refine Tf 6 7 8 9 10 11 ?_;refine tkT 12 ?_;clear hHeld;refine ry1 13 fun K hK=>?_;go_simp;(go_at_call 10;(with_reducible refine KS1.out.mono ?_);rintro e w5 ⟨pa,na,qa,rfl,⟨Z1,r5⟩,un5,vs5⟩;have HR5:=hidM r5;have HU5:=hidM un5;have HV5:=hidM vs5;have HD5:=hidM (HDW.out.of_block (un5.block DB HLT.out.2.2.2.1 HLT.out.2.2.1));have HLT5:Hid (lb<w.heap.size/\w.heap.size<w5.heap.size/\DB<w5.heap.size/\wr.heap.size<=w5.heap.size):=⟨HLT.out.1,Nat.lt_of_lt_of_le HLT.out.2.2.2.2 un5.size,Nat.lt_of_lt_of_le HLT.out.2.2.2.1 un5.size,un5.size⟩;replace b4:=(World.cell?_of_block (un5.block w.heap.size HLT.out.2.2.2.2 (Nat.ne_of_lt HLT.out.2.1))).trans b4;replace y0:=(World.cell?_of_block (un5.block lb (Nat.lt_trans HLT.out.1 HLT.out.2.2.2.2) (Nat.ne_of_lt (Nat.lt_trans HLT.out.1 HLT.out.2.1)))).trans y0;replace y1:=(World.cell?_of_block (un5.block lb (Nat.lt_trans HLT.out.1 HLT.out.2.2.2.2) (Nat.ne_of_lt (Nat.lt_trans HLT.out.1 HLT.out.2.1)))).trans y1;clear r5 un5 vs5);try(go_wp2_with fail)
     refine okK hK fun hHeld=>?_;clear hK K;refine Tc 14 15 16 ?_;refine Tb 17 18 ?_;refine wpAnyH_done kR ?_ _;go_upto_region 18 with fail;go_cut [12,13,14] (fun nv uv ev wx=>∃NB p5 q5 pu nu qu S',nv=.pointer (some ⟨NB,0,none⟩)/\uv=.slice pu nu qu/\ev=.int .i64 E/\Hid (wx.rowIs NB 38 5 (f5 (.slice p0 c.sign.length q0) (.slice p1 c.regs.length q1) (.slice p2 c.slots.length q2) (.slice p3 c.list.length q3) (.slice p5 c.slots.length q5))/\w5.heap.size<=NB/\S'.map (·.h)=hs'/\CsT (fun b=>b=a.S\/b=ML\/b=DB) wx (.slice p5 c.slots.length q5) S'/\VsT (fun b=>b<w5.heap.size) wx (.slice pu nu qu) L/\SlR c hs'/\Below w5.heap.size w5 wx))
     case first=>
      have d0:w5.cell? ⟨DB,0,none⟩=some (.slice p0 c.sign.length q0):=HD5.out.cell (i:=0) dE;have d1:w5.cell? ⟨DB,1,none⟩=some (.slice p1 c.regs.length q1):=HD5.out.cell (i:=1) dE;have d2:w5.cell? ⟨DB,2,none⟩=some (.slice p2 c.slots.length q2):=HD5.out.cell (i:=2) dE;have d3:w5.cell? ⟨DB,3,none⟩=some (.slice p3 c.list.length q3):=HD5.out.cell (i:=3) dE;have d4:w5.cell? ⟨DB,4,none⟩=some (.slice pd c.slots.length qd):=HD5.out.cell (i:=4) dE;have z0:=(fun o=>kc (Zhq w5 o) b4)
      have z1:=(fun o=>kc (Zhq w5 o) y0)
      have z2:=(fun o=>kc (Zhq w5 o) y1)
      have z3:=(fun o=>kc (Zhq w5 o) d0)
      have z4:=(fun o=>kc (Zhq w5 o) d1)
      have z5:=(fun o=>kc (Zhq w5 o) d2)
      have z6:=(fun o=>kc (Zhq w5 o) d3)
      have z7:=(fun o=>kc (Zhq w5 o) d4)
      refine rG (fun v=>v.cell? ⟨w.heap.size,4,none⟩=some (.slice (some ⟨lb,lo,none⟩) N4 q4)/\v.cell? ⟨lb,lo+j*2,none⟩=some (.slice pg G.length qg)/\v.cell? ⟨lb,lo+j*2+1,none⟩=some (.slice pp P.length qp)/\v.cell? ⟨DB,0,none⟩=some (.slice p0 c.sign.length q0)/\v.cell? ⟨DB,1,none⟩=some (.slice p1 c.regs.length q1)/\v.cell? ⟨DB,2,none⟩=some (.slice p2 c.slots.length q2)/\v.cell? ⟨DB,3,none⟩=some (.slice p3 c.list.length q3)/\v.cell? ⟨DB,4,none⟩=some (.slice pd c.slots.length qd)) fun hHeld=>?_;refine Tf 0 1 2 3 4 5 ?_;refine Tf 6 7 8 9 10 11 ?_;refine tkT 12 ?_;clear hHeld;refine wpAnyH_ready (rs:=[13,18]) kR sM ?_;refine ryC 13 (fun K hK=>?_) ?_
      ·go_simp;(go_at_call 11;(first|(with_reducible refine(KS2.out w5 w5.drew (fun _=>False) HU5.out (Zhs _) (fun b e=>e.elim)).mono ?_)|(with_reducible refine(KS2.out w5 _ (fun b=>b=w5.heap.size) HU5.out (bel (Zhq _ _) (Zhs _)) (fun b e=>by subst e;exact⟨Nat.le_refl _,sM⟩)).mono ?_));rintro e w6 ⟨p5,q5,pu,nu,qu,S',rfl,k1,k2,k3,k4,k5⟩;have HK6:=hidM (And.intro k1 (And.intro k2 (And.intro k3 k4)));have HB6:Hid (Below w5.heap.size w5 w6):=Zgm;(try(have HNB:=hidM ((World.rowIs_alloc w5 #[.slice none 0 0,.slice none 0 0,.slice none 0 0,.slice none 0 0,.slice none 0 0] 38 _ (Zpt _ _ _ _ _)).of_block (k5.block w5.heap.size sM))));(try(have n0:w6.cell? ⟨w5.heap.size,0,none⟩=some (.slice none 0 0):=HNB.out.cell (i:=0) dE;have n1:w6.cell? ⟨w5.heap.size,1,none⟩=some (.slice none 0 0):=HNB.out.cell (i:=1) dE;have n2:w6.cell? ⟨w5.heap.size,2,none⟩=some (.slice none 0 0):=HNB.out.cell (i:=2) dE;have n3:w6.cell? ⟨w5.heap.size,3,none⟩=some (.slice none 0 0):=HNB.out.cell (i:=3) dE;have n4:w6.cell? ⟨w5.heap.size,4,none⟩=some (.slice none 0 0):=HNB.out.cell (i:=4) dE;have o0:=HNB.out.frozen 0;have o1:=HNB.out.frozen 1;have o2:=HNB.out.frozen 2;have o3:=HNB.out.frozen 3;have o4:=HNB.out.frozen 4));have cb4:=kc HB6.out b4;have eb4:=(fun o=>kc (Zhq w6 o) cb4);have tb4:=Zip cb4 Zhb;have cy0:=kc HB6.out y0;have ey0:=(fun o=>kc (Zhq w6 o) cy0);have ty0:=Zip cy0 Zgd;have cy1:=kc HB6.out y1;have ey1:=(fun o=>kc (Zhq w6 o) cy1);have ty1:=Zip cy1 Zgd;have cd0:=kc HB6.out d0;have ed0:=(fun o=>kc (Zhq w6 o) cd0);have td0:=Zip cd0 Zfs;have cd1:=kc HB6.out d1;have ed1:=(fun o=>kc (Zhq w6 o) cd1);have td1:=Zip cd1 Zfs;have cd2:=kc HB6.out d2;have ed2:=(fun o=>kc (Zhq w6 o) cd2);have td2:=Zip cd2 Zfs;have cd3:=kc HB6.out d3;have ed3:=(fun o=>kc (Zhq w6 o) cd3);have td3:=Zip cd3 Zfs;have cd4:=kc HB6.out d4;have ed4:=(fun o=>kc (Zhq w6 o) cd4);have td4:=Zip cd4 Zfs;clear k1 k2 k3 k4 k5);try(go_wp2_with fail)
       refine okK hK fun hHeld=>?_;clear hK K;refine Tc 14 15 16 ?_;refine tkT 17 ?_;clear hHeld;refine ry1 18 fun K hK=>?_;go_simp;refine okK hK fun hHeld=>?_;clear hK K;exact Zcu
      refine ryC 18 (fun K hK=>?_) AllReadyH.nil;go_simp;refine okK hK fun hHeld=>?_;clear hK K;clear hHeld;refine ry1 13 fun K hK=>?_;go_simp;(go_at_call 11;(first|(with_reducible refine(KS2.out w5 w5.drew (fun _=>False) HU5.out (Zhs _) (fun b e=>e.elim)).mono ?_)|(with_reducible refine(KS2.out w5 _ (fun b=>b=w5.heap.size) HU5.out (bel (Zhq _ _) (Zhs _)) (fun b e=>by subst e;exact⟨Nat.le_refl _,sM⟩)).mono ?_));rintro e w6 ⟨p5,q5,pu,nu,qu,S',rfl,k1,k2,k3,k4,k5⟩;have HK6:=hidM (And.intro k1 (And.intro k2 (And.intro k3 k4)));have HB6:Hid (Below w5.heap.size w5 w6):=Zgm;(try(have HNB:=hidM ((World.rowIs_alloc w5 #[.slice none 0 0,.slice none 0 0,.slice none 0 0,.slice none 0 0,.slice none 0 0] 38 _ (Zpt _ _ _ _ _)).of_block (k5.block w5.heap.size sM))));(try(have n0:w6.cell? ⟨w5.heap.size,0,none⟩=some (.slice none 0 0):=HNB.out.cell (i:=0) dE;have n1:w6.cell? ⟨w5.heap.size,1,none⟩=some (.slice none 0 0):=HNB.out.cell (i:=1) dE;have n2:w6.cell? ⟨w5.heap.size,2,none⟩=some (.slice none 0 0):=HNB.out.cell (i:=2) dE;have n3:w6.cell? ⟨w5.heap.size,3,none⟩=some (.slice none 0 0):=HNB.out.cell (i:=3) dE;have n4:w6.cell? ⟨w5.heap.size,4,none⟩=some (.slice none 0 0):=HNB.out.cell (i:=4) dE;have o0:=HNB.out.frozen 0;have o1:=HNB.out.frozen 1;have o2:=HNB.out.frozen 2;have o3:=HNB.out.frozen 3;have o4:=HNB.out.frozen 4));have cb4:=kc HB6.out b4;have eb4:=(fun o=>kc (Zhq w6 o) cb4);have tb4:=Zip cb4 Zhb;have cy0:=kc HB6.out y0;have ey0:=(fun o=>kc (Zhq w6 o) cy0);have ty0:=Zip cy0 Zgd;have cy1:=kc HB6.out y1;have ey1:=(fun o=>kc (Zhq w6 o) cy1);have ty1:=Zip cy1 Zgd;have cd0:=kc HB6.out d0;have ed0:=(fun o=>kc (Zhq w6 o) cd0);have td0:=Zip cd0 Zfs;have cd1:=kc HB6.out d1;have ed1:=(fun o=>kc (Zhq w6 o) cd1);have td1:=Zip cd1 Zfs;have cd2:=kc HB6.out d2;have ed2:=(fun o=>kc (Zhq w6 o) cd2);have td2:=Zip cd2 Zfs;have cd3:=kc HB6.out d3;have ed3:=(fun o=>kc (Zhq w6 o) cd3);have td3:=Zip cd3 Zfs;have cd4:=kc HB6.out d4;have ed4:=(fun o=>kc (Zhq w6 o) cd4);have td4:=Zip cd4 Zfs;clear k1 k2 k3 k4 k5);try(go_wp2_with fail)
      refine okK hK fun hHeld=>?_;clear hK K;refine Tc 14 15 16 ?_;refine tkT 17 ?_;exact Zcu
     case rest=>
      obtain⟨NB,p5,q5,pu,nu,qu,S',rfl,rfl,rfl,HC6⟩:=hcut;obtain⟨c1,c2,c3,c4,c5,c6,c7⟩:=HC6.out;have n0:wc.cell? ⟨NB,0,none⟩=some (.slice p0 c.sign.length q0):=c1.cell (i:=0) dE;have n1:wc.cell? ⟨NB,1,none⟩=some (.slice p1 c.regs.length q1):=c1.cell (i:=1) dE;have n2:wc.cell? ⟨NB,2,none⟩=some (.slice p2 c.slots.length q2):=c1.cell (i:=2) dE;have n3:wc.cell? ⟨NB,3,none⟩=some (.slice p3 c.list.length q3):=c1.cell (i:=3) dE;have n4:wc.cell? ⟨NB,4,none⟩=some (.slice p5 c.slots.length q5):=c1.cell (i:=4) dE;have hdx:=HD5.out.of_block (c7.block DB HLT5.out.2.2.1);have d0:wc.cell? ⟨DB,0,none⟩=some (.slice p0 c.sign.length q0):=hdx.cell (i:=0) dE;have o0:=hdx.frozen 0;have d1:wc.cell? ⟨DB,1,none⟩=some (.slice p1 c.regs.length q1):=hdx.cell (i:=1) dE;have o1:=hdx.frozen 1;have d2:wc.cell? ⟨DB,2,none⟩=some (.slice p2 c.slots.length q2):=hdx.cell (i:=2) dE;have o2:=hdx.frozen 2;have d3:wc.cell? ⟨DB,3,none⟩=some (.slice p3 c.list.length q3):=hdx.cell (i:=3) dE;have o3:=hdx.frozen 3;have d4:wc.cell? ⟨DB,4,none⟩=some (.slice pd c.slots.length qd):=hdx.cell (i:=4) dE;have o4:=hdx.frozen 4;obtain⟨hV1,hV2⟩:=db_set (a0:=(.slice p0 c.sign.length q0)) (a1:=(.slice p1 c.regs.length q1)) (a2:=(.slice p2 c.slots.length q2)) (a3:=(.slice p3 c.list.length q3)) (a4:=(.slice p5 c.slots.length q5)) hdx;obtain⟨V,hV⟩:∃V,(((((wc.setCell ⟨DB,0,none⟩ (.slice p0 c.sign.length q0)).setCell ⟨DB,1,none⟩ (.slice p1 c.regs.length q1)).setCell ⟨DB,2,none⟩ (.slice p2 c.slots.length q2)).setCell ⟨DB,3,none⟩ (.slice p3 c.list.length q3)).setCell ⟨DB,4,none⟩ (.slice p5 c.slots.length q5))=V:=⟨_,rfl⟩
      rw[hV]at hV1 hV2;have hne:¬a.S=DB:=by obtain⟨f1,f2,f3,f4,f5,f6,f7,f8,f9,f10⟩:=HNUM.out;omega
      have HRV:Hid (Zit (fun b=>b=a.S\/b=ML\/b=DB) W1.heap.size V R a Z1 c hs'):=(HR5.out.below c7).un hV2 hne (fun b _ e=>.inr (.inr e));have HCV:Hid (CsT (fun b=>b=a.S\/b=ML\/b=DB) V (.slice p5 c.slots.length q5) S'):=c4.un hV2 (fun b _ e=>.inr (.inr e));have HM5:=hidM c3;have HZ5:=hidM c6;have HDV:=hidM hV1;have HUV:Hid (Un (fun b=>b=a.S\/b=ML\/b=DB) W3 V):=((HUN.out.trans (HU5.out.mono (fun b e=>.inl e))).on c7).trans (hV2.mono (fun b e=>.inr (.inr e)));have KSA:Hid (Calls prog 12 #[.slice pa na qa,.slice pu nu qu] V fun e w'=>e=.returned (.bool true)/\Below V.heap.size V w'):=Zuw V _ _ L ((HV5.out.below c7).un hV2 (fun b _ e=>by have h9:=HLT.out.2.2.2.1;omega)) (c5.un hV2 (fun b _ e=>by have h9:=HLT5.out.2.2.1;omega)) HL.out.1 HL.out.2;have v0:V.cell? ⟨DB,0,none⟩=some (.slice p0 c.sign.length q0):=hV1.cell (i:=0) dE;have v1:V.cell? ⟨DB,1,none⟩=some (.slice p1 c.regs.length q1):=hV1.cell (i:=1) dE;have v2:V.cell? ⟨DB,2,none⟩=some (.slice p2 c.slots.length q2):=hV1.cell (i:=2) dE;have v3:V.cell? ⟨DB,3,none⟩=some (.slice p3 c.list.length q3):=hV1.cell (i:=3) dE;have v4:V.cell? ⟨DB,4,none⟩=some (.slice p5 c.slots.length q5):=hV1.cell (i:=4) dE;clear c1 c2 c3 c4 c5 c6 c7 hdx hV1 hV2 HC6 hne;go_wp2_with(first
       |(go_at_call 12;(try rw[hV]);(with_reducible refine KSA.out.mono ?_);rintro e w7 ⟨rfl,hb7⟩;have HB7:=hidM hb7;have x0:=kc hb7 v0;have x1:=kc hb7 v1;have x2:=kc hb7 v2;have x3:=kc hb7 v3;have x4:=kc hb7 v4;clear hb7 hV d0 d1 d2 d3 d4 o0 o1 o2 o3 o4 n0 n1 n2 n3 n4 v0 v1 v2 v3 v4)
       |(go_at_call 9;(with_reducible refine(KSL.out _ _ _ _ _ _ (HRV.out.below HB7.out) HM5.out (HCV.out.below HB7.out).cs).mono ?_);rintro e w8 ⟨rfl,hb8⟩;have HB8:=hidM (bel HB7.out hb8);clear hb8))
      go_roundw
      case rel=>
       exact⟨j+1,oM,oM,gN,hs',Z1,S',p5,q5,HRV.out.below HB8.out,HCV.out.below HB8.out,HM5.out,HZ5.out,HDV.out.of_block (HB8.out.block _ HDV.out.lt),HUV.out.on HB8.out⟩
      case measure=>simp[intOf];omega
    ·have hj':j=30:=oM;exact Zdu
   ·have hj':j=N4:=oM;exact Zdu
theorem Zvc(v0 v1 v2 v3 v4:Value)(c:Cd)(hk:CdOk c)(hz:CdSz c)(l:List St)(hl:l.length<=140737488351232)(w:World)(hv:CdV w v0 v1 v2 v3 c)(hr:RowG 2 stC w v4 l)(hs:∀s∈l,StOk w s):
 Calls prog 3 #[.agg #[v0,v1,v2,v3,v4]] w fun e w'=>e=.returned (.bool true)/\Below w.heap.size w w':=by
 by_cases hc:(Zik c).1=0
 ·exact Zagz v0 v1 v2 v3 v4 c hk hz l hl w hv hr hs hc
 ·exact Zakw v0 v1 v2 v3 v4 c hk hz w hv hc
end Go.Proofs.YtbinohkcolcbfaaGreat
