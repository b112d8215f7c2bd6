import Derived.Test.YtbinohkcolcbfaaGreatPart1
import Derived.Test.YtbinohkcolcbfaaGreatPart19
import Derived.Test.YtbinohkcolcbfaaGreatPart7
namespace Go.Proofs.YtbinohkcolcbfaaGreat
open Go.RowKit Go.Proofs.Tryz
set_option linter.unusedVariables false
set_option linter.unusedSimpArgs false
set_option maxRecDepth 100000
set_option maxHeartbeats 16000000
def slP:Value->Option Addr
 | .slice p _ _=>p
 |_=>none
def slCap:Value->Nat
 | .slice _ _ c=>c
 |_=>0
theorem Znq{L:List (List Int)}{k:Nat}(h:k<L.length):Zkt L k=L[k]:=by unfold Zkt;rw[List.getElem?_eq_getElem h];rfl
theorem lsts_of{T:Nat->Prop}{w:World}{g:Nat}{vals:List Value}{args:List (List Int)}(hv:vals.length=args.length)(hc:∀ (k:Nat) (u:Value),vals[k]? =some u->w.cell? ⟨g,k,none⟩=some u)(hp:∀k (h1:k<vals.length) (h2:k<args.length),Pt T w vals[k] args[k]):
 Lsts .u32 w (some ⟨g,0,none⟩) args.length (fun k=>slP ((vals[k]?).getD (.slice none 0 0))) (lF args) (fun k=>slCap ((vals[k]?).getD (.slice none 0 0))) (xF args):=by
 refine⟨.inr ⟨g,0,rfl,fun k hk=>?_⟩,fun k hk=>?_⟩
 ·have hk':k<vals.length:=oM;obtain⟨p,c,e⟩:=(hp k hk' hk).len;rw[Nat.zero_add,hc k vals[k] (List.getElem?_eq_getElem hk')];simp only[List.getElem?_eq_getElem hk',Option.getD_some,e,slP,slCap,lF,Znq hk]
 ·have hk':k<vals.length:=oM;have:=hp k hk' hk;obtain⟨p,c,e⟩:=this.len;rw[e]at this;have h2:=this.reads.2;simp only[List.getElem?_eq_getElem hk',Option.getD_some,e,slP,lF,xF,Znq hk];exact h2
theorem Ztp{l:Nat->Nat}{W:Nat}(hW:1<=W):∀M,(∀i,i<=M->l i=1\/l i=W)->∃n,shpV l M=some n/\(n=1\/n=W):=by
 intro M;induction M with
 |zero=>intro h;exact⟨l 0,rfl,h 0 (Nat.le_refl _)⟩
 |succ M ih=>
  intro h;obtain⟨n,h1,h2⟩:=ih fun i hi=>h i oM;rw[Zqm h1];have h3:=h (M+1) (Nat.le_refl _);by_cases e1:l (M+1)=n
  ·exact⟨n,if_pos e1,h2⟩
  ·rw[if_neg e1,if_neg oM];by_cases e2:n=1
   ·rw[if_pos e2];exact⟨_,rfl,h3⟩
   ·rw[if_neg e2];by_cases e3:l (M+1)=1
    ·rw[if_pos e3];exact⟨_,rfl,h2⟩
    ·omega
theorem Zpf(i:Ins)(h:Zjj i.op=true):Zjq i.op=(Zid i (rowP i.op)).length/\Zjq i.op≠0:=by
 unfold Zjj at h;simp only[Bool.and_eq_true,decide_eq_true_eq]at h;have:i.op=3\/i.op=4\/i.op=5\/i.op=6\/i.op=7\/i.op=8\/i.op=9\/i.op=10\/i.op=11\/i.op=12\/i.op=13\/i.op=14\/i.op=15:=oM;obtain⟨op,D,A,B,E,n,b⟩:=i;simp only at this ⊢;rcases this with rfl|rfl|rfl|rfl|rfl|rfl|rfl|rfl|rfl|rfl|rfl|rfl|rfl<;>exact⟨rfl,dE⟩
theorem Zxc{op:Int}{args:List (List Int)}{n:Nat}(h:shpV (lF args) (args.length-1)=some n):(appP op args).length=n/\∀j,j<n->atL (appP op args) j=opf op (elAt (lF args) (xF args) args.length j 0) (elAt (lF args) (xF args) args.length j 1) (elAt (lF args) (xF args) args.length j 2):=by
 unfold appP;rw[h];simp only;exact⟨sM,fun j hj=>Zxm (α:=Int) _ _ _ hj⟩
theorem hidM{p:Prop}(h:p):Hid p:=h
def avT(T:Nat->Prop)(v:Value):Nat->Prop:=fun b=>T b\/v.ownBlock=some b
theorem Pt.grown{T:Nat->Prop}{v v' u:Value}{w w':World}{l:List Int}(h:Pt (avT T v) w u l)(hg:w.grownBy w' v.ownBlock)(ha:v'.ownBlock=v.ownBlock\/v'.ownBlock=some w.heap.size):Pt (avT T v') w' u l:=by
 obtain⟨p,c,hv,h⟩:=h;refine⟨p,c,hv,h.imp id fun⟨b,o,hp,ht,hb,h⟩=>⟨b,o,hp,?_,Nat.lt_of_lt_of_le hb hg.size,fun i hi=>(h i hi).of_block (hg.block b hb fun e=>ht (.inr e.symm))⟩⟩;rintro(k|k)
 ·exact ht (.inl k)
 ·rcases ha with e|e
  ·exact ht (.inr (e▸k))
  ·rw[e]at k;simp at k;omega
def Zaks(op:Int)(ag m acap n:Nat)(args:List (List Int))(w:World):Prop:=∀v,Below w.heap.size w v->Calls prog 119 #[.int .i64 op,.slice (some ⟨ag,0,none⟩) m acap] v fun e w'=>∃g,e=.returned (.tuple #[.slice (some ⟨g,0,none⟩) n n,.int .i64 0])/\v.heap.size<=g/\w'.rowIs g 43 n (fun i=>.int .u32 (opf op (elAt (lF args) (xF args) args.length i 0) (elAt (lF args) (xF args) args.length i 1) (elAt (lF args) (xF args) args.length i 2)))/\Below v.heap.size v w'
theorem Zami{T:Nat->Prop}{E E':Nat}{a:Lay}{c:Cd}{G P:List (List Int)}{X:Nat->Value}{M:Nat}{m:Nat->Option Value}{f:Fr}(w:World)(x:FX T E E' a c G P w)(h:FV T E E' a c w X M m f)(hg:Good c)(ok:OkF c f)(hM:M<=1000000)(ib io:Nat)(i:Ins)(hi:InsT (mutT T E E') w ib io i)
 (hel:Zjj i.op=true) (d0:0<=i.d) (d1:i.d<(c.regs.length:Int)) (hk:(regT c.regs i.d).kind≠2) (hW:1<=Zhy c (regT c.regs i.d)) (hargs:∀r∈Zid i (rowP i.op),0<=r/\r<(c.regs.length:Int)/\((rdP c f r).pats.length=1\/(rdP c f r).pats.length=Zhy c (regT c.regs i.d))/\∀y∈(rdP c f r).pats,IsP y):
 Calls prog 76 #[.pointer (some ⟨a.FR,0,none⟩),.pointer (some ⟨ib,io,none⟩)] w fun e w'=>e=.returned (.tuple #[])/\Zhv T E E' a c G P M (Zll c f i) w w':=by
 have HEq:Hid (Zll c f i=stP c f i.d ⟨if(appP i.op (Zji c f i)).length<Zhy c (regT c.regs i.d)then Zkf c (regT c.regs i.d) ((appP i.op (Zji c f i)).headD 0)else appP i.op (Zji c f i),0⟩):=by
  show Zll c f i=_;unfold Zll;rw[if_neg hk]
 obtain⟨F,hF⟩:∃F,Zll c f i=F:=⟨_,rfl⟩
 rw[hF]at HEq ⊢;have HRe:Hid (∀v,Calls prog 118 #[insV i] v fun e w'=>∃u,e=.returned u/\w'.ownsRow v.heap.size 3 1 u (Zid i (rowP i.op)).length (i64s (Zid i (rowP i.op)))/\Below v.heap.size v w'):=fun v=>Zajg i v;obtain⟨ht1,ht2⟩:=Zpf i hel;have ht3:=Zqq i.op;have q0:=hi.cells.at 0 rfl;rw[Nat.add_zero]at q0;have q1:=hi.cells.at 1 rfl;have q2:=hi.cells.at 2 rfl;have q3:=hi.cells.at 3 rfl;have q4:=hi.cells.at 4 rfl;have q5:=hi.cells.at 5 rfl;have q6:=hi.cells.at 6 rfl;obtain⟨RL,hRL⟩:∃RL,Zid i (rowP i.op)=RL:=⟨_,rfl⟩
 have HArgs:Hid (Zji c f i=RL.map fun r=>(rdP c f r).pats):=by rw[←hRL];exact rfl
 rw[hRL]at HRe ht1 hargs;obtain⟨op,D,A,B,Ec,nn,bt⟩:=i;unfold insV at HRe;simp only at *;obtain⟨D,rfl⟩:∃j:Nat,D=(j:Int):=⟨D.toNat,oM⟩
 have hD:D<c.regs.length:=oM;rw[Zkb hD]at HEq hk hW hargs;have f0:=x.f0;have c1:=x.code.c1;obtain⟨b1,o1,m1,hv1,r0,r1⟩:=x.code.reg hD;rw[hv1]at c1;have hN:=hg.regsL;have HRd:Hid (∀v,Below w.heap.size w v->∀r∈RL,Calls prog 75 #[.pointer (some ⟨a.FR,0,none⟩),.int .i64 r] v fun e w'=>∃u,e=.returned (.agg #[u,.int .i64 (rdP c f r).whole])/\Pt (midT (mutT T E E') w.heap.size v.heap.size) w' u (rdP c f r).pats/\Below v.heap.size v w'):=by
  intro v hv r hr;obtain⟨g0,g1,-⟩:=hargs r hr;obtain⟨r,rfl⟩:∃j:Nat,r=(j:Int):=⟨r.toNat,oM⟩
  exact Zaov w v x h hg hv r oM
 obtain⟨⟨kk,pp⟩,htt⟩:∃t,c.regs[D]=t:=⟨_,rfl⟩
 have hpl:kk=3->isPl pp c.sign.length=true:=fun e=>by
  have:=hg.type (List.getElem_mem hD) (by rw[htt];exact e);rw[htt]at this;exact this
 rw[htt]at r0 r1 HEq hk hW hargs;simp only at r0 r1 hk;have HWd:Hid (∀v,Below w.heap.size w v->Calls prog 59 #[.pointer (some ⟨a.C,0,none⟩),.agg #[.int .i64 kk,.int .i64 pp]] v fun e w'=>e=.returned (.int .i64 (Zhy c ⟨kk,pp⟩:Nat))/\Below v.heap.size v w'):=fun v hv=>Zyg a c ⟨kk,pp⟩ v (x.code.below hv) hpl fun p hp=>by have:=(hg.len p hp).1;omega
 have HFl:Hid (∀v y,Below w.heap.size w v->IsP y->Calls prog 33 #[.pointer (some ⟨a.C,0,none⟩),.agg #[.int .i64 kk,.int .i64 pp],.int .u32 y] v fun e w'=>∃g,e=.returned (.slice (some ⟨g,0,none⟩) (Zhy c ⟨kk,pp⟩) (Zhy c ⟨kk,pp⟩))/\v.heap.size<=g/\w'.rowIs g 43 (Zhy c ⟨kk,pp⟩) (fun _=>.int .u32 (canon y))/\Below v.heap.size v w'):=fun v y hv hy=>Zwr a c hg ⟨kk,pp⟩ y hy v (x.code.below hv) hpl;have HSt:Hid (∀v q L cap l,Below w.heap.size w v->Pt (mutT T E E') v (.slice q L cap) l->l≠[]->Calls prog 74 #[.pointer (some ⟨a.FR,0,none⟩),.int .i64 (D:Int),.agg #[.slice q L cap,.int .i64 0]] v fun e w'=>e=.returned (.tuple #[])/\Zhv T E E' a c G P M (stP c f D ⟨l,0⟩) v w'):=fun v q L cap l hv hp hn=>Zaeb v (x.below hv) (h.below hv) hg D hD hM q L cap ⟨l,0⟩ hp (fun _=>hn);have HX:Hid (FX T E E' a c G P w):=x;have HAr:Hid (∀r∈RL,((rdP c f r).pats.length=1\/(rdP c f r).pats.length=Zhy c ⟨kk,pp⟩)/\∀y∈(rdP c f r).pats,IsP y):=fun r hr=>(hargs r hr).2.2;obtain⟨m',hm'⟩:∃m',RL.length=m':=⟨_,rfl⟩
 have n1:w.heap.size≠a.FR:=by have:=x.iFR;have:=x.hE';omega
 have n2:w.heap.size≠a.C:=by have:=x.code.ltC;omega
 have n3:w.heap.size≠ib:=by have:=hi.lt;omega
 have n4:w.heap.size≠b1:=by have:=Zhr r0;simp at this;omega
 obtain⟨FR,hFR⟩:∃FR,a.FR=FR:=⟨_,rfl⟩
 obtain⟨C,hC⟩:∃C,a.C=C:=⟨_,rfl⟩
 obtain⟨N,hN'⟩:∃N,c.regs.length=N:=⟨_,rfl⟩
 obtain⟨Wd,hWd⟩:∃Wd,Zhy c ⟨kk,pp⟩=Wd:=⟨_,rfl⟩
 have hWd4:=hg.width ⟨kk,pp⟩;simp only[hFR,hC,hN',hm',hWd]at HRe HRd HWd HFl HSt HAr n1 n2 f0 c1 hN hD d1 ht1 hW hWd4 ⊢;have HWD:Hid (Zhy c ⟨kk,pp⟩=Wd):=hWd;have HML:Hid (RL.length=m'):=hm';have e2:(kk==2)=false:=by simpa using hk
 clear x h hg ok hi hel hRL hargs hpl htt hv1 hFR hC hN' hWd hm' hF hk;go_enter func76,ntmps76;go_wp2;refine rG (fun v=>v.cell? ⟨FR,0,none⟩=some (.pointer (some ⟨C,0,none⟩))/\v.cell? ⟨C,1,none⟩=some (.slice (some ⟨b1,o1,none⟩) N m1)/\v.cell? ⟨ib,io+1,none⟩=some (.int .i64 (D:Int))/\v.cell? ⟨b1,o1+D*2,none⟩=some (.int .i64 kk)/\v.cell? ⟨b1,o1+D*2+1,none⟩=some (.int .i64 pp)) fun hHeld=>?_;refine Tf 0 1 2 3 4 5 ?_;refine Tf 6 7 8 9 10 11 ?_;refine tkT 12 ?_;clear hHeld;refine ry1 13 fun K hK=>?_;go_simp;refine okK hK fun hHeld=>?_;clear hK K;clear hHeld;refine ry1 14 fun K hK=>?_;go_simp;refine okK hK fun hHeld=>?_;clear hK K;refine wpAnyH_done kR ?_ _;obtain⟨W1,hW1⟩:∃W1,(w.alloc (.cells #[.int .i64 kk,.int .i64 pp] 69)).drew=W1:=⟨_,rfl⟩
 have hb1:Below w.heap.size w W1:=by rw[←hW1];exact bel (Zhq _ _) (Zht _)
 have z0:W1.cell? ⟨w.heap.size,0,none⟩=some (.int .i64 kk):=by rw[←hW1];simp[go_sem]
 have z1:W1.cell? ⟨w.heap.size,1,none⟩=some (.int .i64 pp):=by rw[←hW1];simp[go_sem]
 rw[hW1];clear hW1 hHeld;have HB1:Hid (Below w.heap.size w W1):=hb1;have g0:=kc hb1 q0;have g1:=kc hb1 q1;have g2:=kc hb1 q2;have g3:=kc hb1 q3;have g4:=kc hb1 q4;have g5:=kc hb1 q5;have g6:=kc hb1 q6;have g7:=kc hb1 f0;clear q0 q1 q2 q3 q4 q5 q6 f0 c1 r0 r1 hb1;have hf:∀ (w:World) (x y:Value),(Instr.field 78 (.agg #[x,y]) 0).run prog w=.ok x w:=fun w x y=>by simp[Instr.field,run_underlying underlying78,asAgg,part,go_sem]
 obtain⟨i0,hi0,hz0,hz1,hz3⟩:=info_parts Zaen;have hm1:0<m':=oM;go_wp2_with(go_at_call 118;refine(HRe.out _).mono ?_;rintro e w2 ⟨u,rfl,hown,hb2⟩;obtain⟨rg,rcap,rfl,hrB,hrlt,hrc,-,hrcell⟩:=Zns hown hm1;have HRC:Hid (∀ (j:Nat) (u:Value),(i64s RL)[j]? =some u->w2.cell? ⟨rg,j,none⟩=some u):=hrcell;have HB2:Hid (Below W1.heap.size W1 w2):=hb2;clear hown hrcell);have hm3:m'<=3:=oM
 go_loopw [5,50] (fun av iv wr=>∃ (j:Nat) (bv:Value) (vals:List Value),bv=av/\j<=m'/\iv=.int .i64 j/\vals.length=j/\Hid (Below w2.heap.size w2 wr/\wr.ownsRow w2.heap.size 57 1 bv j vals/\∀k (h1:k<vals.length) (h2:k<RL.length),Pt (avT (mutT T E E') bv) wr vals[k] (rdP c f RL[k]).pats)) (fun _ iv _=>m'-(intOf iv).toNat)
 case atStart=>exact⟨0,_,[],rfl,Nat.zero_le _,rfl,rfl,Below.refl _ _,World.ownsRow_nil _ _ _ 1,fun k h1 _=>absurd h1 (Nat.not_lt_zero _)⟩
 case round=>
  obtain⟨j,av,vals,rfl,hj,rfl,hvl,HR⟩:=hrel;have hsz:=HR.out.1.size;by_cases hlt:j<m'
  ·have hjR:j<RL.length:=by rw[HML.out];exact hlt
   have x1:wr.cell? ⟨rg,j,none⟩=some (.int .i64 RL[j]):=kc HR.out.1 (HRC.out j _ (by simp[i64s,hjR]));have HRJ:Hid (RL[j]∈RL):=List.getElem_mem hjR;have HRJ2:Hid (∀k (h1:k<RL.length),k=j->(rdP c f RL[k]).pats=(rdP c f RL[j]).pats):=fun k _ e=>by subst e;rfl
   obtain⟨rr,hrr⟩:∃rr,RL[j]=rr:=⟨_,rfl⟩
   rw[hrr]at x1 HRJ HRJ2;obtain⟨pat,hpat⟩:∃pat,(rdP c f rr).pats=pat:=⟨_,rfl⟩
   have HPT:Hid ((rdP c f rr).pats=pat):=hpat;obtain⟨who,hwho⟩:∃who,(rdP c f rr).whole=who:=⟨_,rfl⟩
   have KRd:=fun v hv=>HRd.out v hv rr HRJ.out;rw[hpat,hwho]at KRd;have HKRd:Hid (∀v,Below w.heap.size w v->Calls prog 75 #[.pointer (some ⟨FR,0,none⟩),.int .i64 rr] v fun e w'=>∃u,e=.returned (.agg #[u,.int .i64 who])/\Pt (midT (mutT T E E') w.heap.size v.heap.size) w' u pat/\Below v.heap.size v w'):=KRd;have HBr:Hid (Below w.heap.size w wr):=bel (bel HB1.out HB2.out) HR.out.1;clear KRd hrr hpat hwho hjR;go_wp2_with(first
    |(go_at_call 75;refine(HKRd.out _ HBr.out).mono ?_;rintro e w3 ⟨u,rfl,hup,hb3⟩;obtain⟨uq,uc,hue⟩:=hup.len;obtain⟨ul,hul⟩:∃ul,pat.length=ul:=⟨_,rfl⟩;rw[hul]at hue;subst hue;have HUP:Hid (Pt (midT (mutT T E E') w.heap.size wr.heap.size) w3 (.slice uq ul uc) pat):=hup;have HB3:Hid (Below wr.heap.size wr w3):=hb3;have hs3:=hb3.size;clear hup hul)
    |(at_builtin;refine wpList_append_own_at _ rfl _ _ 47 rfl w2.heap.size 57 i0 _ 1 24 underlying47 hi0 hz0 hz1 hz3 rfl dE _ j vals rfl (World.ownsRow.alloc (Ziu HR.out.2.1 HB3.out) _) ⟨w3.heap.size,0,none⟩ 1 1 [.slice uq ul uc] rfl rfl (World.news_of_block (cs:=#[.slice uq ul uc]) (t:=57) (fr:=(0,0)) (heap_alloc_new w3 _)) Zfz mL oM sO ?_;intro v' w4 hown4 hgrow hnil hat;have HO4:Hid (w4.ownsRow w2.heap.size 57 1 v' (j+1) (vals++[.slice uq ul uc])):=hown4;have HB4:Hid (Below w2.heap.size w3 w4):=(Below.alloc (Below.refl _ _) oM _).grown hgrow sO (fun q e=>(HR.out.2.1.lt q e).1);have HG4:Hid ((w3.alloc (.cells #[.slice uq ul uc] 57)).grownBy w4 av.ownBlock/\(v'.ownBlock=av.ownBlock\/v'.ownBlock=some (w3.alloc (.cells #[.slice uq ul uc] 57)).heap.size)):=⟨hgrow,hat⟩;clear hown4 hgrow hnil hat))
   refine⟨⟨j+1,_,vals++[.slice uq ul uc],rfl,oM,gN,by simp[hvl],(HR.out.1.trans (HB3.out.mono hsz)).trans HB4.out,HO4.out,fun k h1 h2=>?_⟩,by simp[intOf];omega⟩;refine Pt.grown (v:=av) ?_ HG4.out.1 HG4.out.2;by_cases hk:k<j
   ·rw[List.getElem_append_left oM];exact((HR.out.2.2 k oM h2).below HB3.out).below (Zhq _ _)
   ·have hkj:k=j:=by simp at h1;omega
    have hg9:(vals++[Value.slice uq ul uc])[k]'h1=.slice uq ul uc:=by
     rw[List.getElem_append_right oM];simp
    rw[hg9,HRJ2.out k h2 hkj,HPT.out];refine RowT.below ?_ (Zhq _ _);refine HUP.out.mono fun b hb2 e=>?_;rcases e with e|e
    ·exact .inl e
    ·refine .inr ⟨?_,(HR.out.2.1.lt b e).2⟩;have:=(HR.out.2.1.lt b e).1;have:=(bel HB1.out HB2.out).size;omega
  ·have hjm:j=m':=oM;subst hjm;obtain⟨ag,acap,rfl,haB,halt,hac,-,hacell⟩:=Zns HR.out.2.1 hm1;obtain⟨ARGS,hARGS⟩:∃ARGS,RL.map (fun r=>(rdP c f r).pats)=ARGS:=⟨_,rfl⟩
   have hAL:ARGS.length=j:=by rw[←hARGS,List.length_map];exact HML.out
   have hAel:∀k (h1:k<ARGS.length) (h2:k<RL.length),ARGS[k]=(rdP c f RL[k]).pats:=fun k h1 h2=>by subst hARGS;simp
   have hL:=lsts_of (T:=mutT T E E') (w:=wr) (g:=ag) (vals:=vals) (args:=ARGS) oM hacell (fun k h1 h2=>by
    have h3:k<RL.length:=by rw[HML.out];omega
    rw[hAel k h2 h3]
    exact(HR.out.2.2 k h1 h3).mono fun b _ e=>.inl e)
   have hA1:∀k,k<ARGS.length->(lF ARGS k=1\/lF ARGS k=Wd)/\∀y∈Zkt ARGS k,IsP y:=fun k hk=>by
    have h3:k<RL.length:=by rw[HML.out];omega
    have h4:=HAr.out RL[k] (List.getElem_mem h3);unfold lF;rw[Znq hk,hAel k hk h3];exact h4
   have hA2:∀k,¬k<ARGS.length->Zkt ARGS k=[]:=fun k hk=>by unfold Zkt;rw[List.getElem?_eq_none oM];rfl
   have hXP:∀i k,IsP (xF ARGS i k):=fun i k=>by
    unfold xF;refine Zke ?_ k;by_cases hik:i<ARGS.length
    ·exact(hA1 i hik).2
    ·rw[hA2 i hik];intro y hy;cases hy
   have hlP:∀i,lF ARGS i<=1048576:=fun i=>by
    by_cases hik:i<ARGS.length
    ·have:=(hA1 i hik).1;omega
    ·unfold lF;rw[hA2 i hik];simp
   obtain⟨n,hsh,hn1⟩:=Ztp (l:=lF ARGS) hW (ARGS.length-1) (fun i hi=>(hA1 i oM).1);obtain⟨hapl,hapa⟩:=Zxc (op:=op) hsh;have HAP:Hid (Zaks op ag j acap n ARGS wr):=fun v hv=>by
    have:=Zaqa op ht2 ag 0 ARGS.length acap (by rw[ht1,hAL]) n _ (lF ARGS) _ (xF ARGS) hXP hlP oM hsh v (hL.below hv);rw[hAL]at this;rw[hAL];exact this
   have HAPL:Hid ((appP op ARGS).length=n/\∀j,j<n->atL (appP op ARGS) j=opf op (elAt (lF ARGS) (xF ARGS) ARGS.length j 0) (elAt (lF ARGS) (xF ARGS) ARGS.length j 1) (elAt (lF ARGS) (xF ARGS) ARGS.length j 2)):=⟨hapl,hapa⟩
   have HIP:Hid (∀i k,IsP (xF ARGS i k)):=hXP;have hAA:=HArgs.out;rw[hARGS]at hAA;have HEQ2:Hid (F=stP c f D ⟨if(appP op ARGS).length<Wd then Zkf c ⟨kk,pp⟩ ((appP op ARGS).headD 0)else appP op ARGS,0⟩):=by
    have:=HEq.out;rw[hAA,HWD.out]at this;exact this
   have HBr:Hid (Below w.heap.size w wr/\Below W1.heap.size W1 wr):=⟨bel (bel HB1.out HB2.out) HR.out.1,bel HB2.out HR.out.1⟩
   clear hL hA1 hA2 hXP hlP hapl hapa hARGS hAel hAA hacell hsh;have t0:wr.cell? ⟨ib,io,none⟩=some (.int .i64 op):=kc HBr.out.2 g0;have t1:wr.cell? ⟨ib,io+1,none⟩=some (.int .i64 (D:Int)):=kc HBr.out.2 g1;have HAL:Hid ((appP op ARGS).length=n):=HAPL.out.1;have HZ:Hid (∀v,Below wr.heap.size wr v->v.cell? ⟨FR,0,none⟩=some (.pointer (some ⟨C,0,none⟩))/\v.cell? ⟨w.heap.size,0,none⟩=some (.int .i64 kk)/\v.cell? ⟨w.heap.size,1,none⟩=some (.int .i64 pp)):=fun v hv=>⟨kc hv (kc HBr.out.2 g7),kc hv (kc HBr.out.2 z0),kc hv (kc HBr.out.2 z1)⟩
   have hmj:=HX.out.fresh (g:=0+w.heap.size) oM;have HFR9:Hid (∀g,w.heap.size<=g->¬mutT T E E' g):=fun g hg=>HX.out.fresh hg;clear g0 g1 g2 g3 g4 g5 g6 g7 z0 z1 hmj HRd HRe HArgs HEq HAr HRC;by_cases hnW:n<Wd
   ·have en1:(n:Int)<(Wd:Int):=oM;have en2:(0:Int)<(n:Int):=oM;have hn0:0<n:=oM;obtain⟨Y,hY⟩:∃Y,opf op (elAt (lF ARGS) (xF ARGS) ARGS.length 0 0) (elAt (lF ARGS) (xF ARGS) ARGS.length 0 1) (elAt (lF ARGS) (xF ARGS) ARGS.length 0 2)=Y:=⟨_,rfl⟩
    have HYP:Hid (IsP Y):=by rw[←hY];exact Zxg _ _ _ _ (Zjr HIP.out _ _ _) (Zjr HIP.out _ _ _) (Zjr HIP.out _ _ _)
    have HYE:Hid ((appP op ARGS).headD 0=Y):=by
     have h1:=HAPL.out.2 0 hn0;rw[hY]at h1;rw[←h1];unfold atL;cases appP op ARGS<;>rfl
    have HAP2:Hid (∀v,Below wr.heap.size wr v->Calls prog 119 #[.int .i64 op,.slice (some ⟨ag,0,none⟩) j acap] v fun e w'=>∃g,e=.returned (.tuple #[.slice (some ⟨g,0,none⟩) n n,.int .i64 0])/\w'.cell? ⟨g,0,none⟩=some (.int .u32 Y)/\Below v.heap.size v w'):=fun v hv=>(HAP.out v hv).mono fun e w' ⟨g,h1,_,h2,h3⟩=>⟨g,h1,by have:=h2.cell hn0;rw[hY]at this;exact this,h3⟩
    clear hY HAP HAPL HIP;go_wp2_with(go_at_call 119;refine(HAP2.out _ (bel0 _)).mono ?_;rintro e w5 ⟨g,rfl,y0,hb5⟩;have HB5:Hid (Below wr.heap.size wr w5):=hb5;obtain⟨s0,s1,s2⟩:=HZ.out w5 hb5;clear hb5);refine rG (fun v=>v.cell? ⟨FR,0,none⟩=some (.pointer (some ⟨C,0,none⟩))/\v.cell? ⟨w.heap.size,0,none⟩=some (.int .i64 kk)/\v.cell? ⟨w.heap.size,1,none⟩=some (.int .i64 pp)) fun hHeld=>?_;refine Tf 0 1 2 3 4 5 ?_;refine tkT 6 ?_;clear hHeld;refine ry1 7 fun K hK=>?_;go_simp;(go_at_call 59;refine(HWd.out _ (bel HBr.out.1 (bel HB5.out (Zht _)))).mono ?_;rintro e w6 ⟨rfl,hb6⟩;have HB6:Hid (Below w5.heap.size w5 w6):=bel (Zht _) hb6;obtain⟨s0,s1,s2⟩:=HZ.out w6 (bel HB5.out HB6.out);have y0:=kc HB6.out y0;clear hb6);try(go_wp2_with fail)
    refine okK hK fun hHeld=>?_;clear hK K;refine tkT 8 ?_;refine wpAnyH_done kR ?_ _;go_wp2;refine rG (fun v=>v.cell? ⟨FR,0,none⟩=some (.pointer (some ⟨C,0,none⟩))/\v.cell? ⟨w.heap.size,0,none⟩=some (.int .i64 kk)/\v.cell? ⟨w.heap.size,1,none⟩=some (.int .i64 pp)/\v.cell? ⟨g,0,none⟩=some (.int .u32 Y)) fun hHeld=>?_;refine Tf 0 1 2 3 4 5 ?_;refine Tb 6 7 ?_;clear hHeld;refine ry1 8 fun K hK=>?_;go_simp;(go_at_call 33;refine(HFl.out _ Y (bel HBr.out.1 (bel HB5.out (bel HB6.out (Zht _)))) HYP.out).mono ?_;rintro e w7 ⟨g2,rfl,hg2,hr2,hb7⟩;have HB7:Hid (Below w6.heap.size w6 w7):=bel (Zht _) hb7;obtain⟨s0,s1,s2⟩:=HZ.out w7 (bel HB5.out (bel HB6.out HB7.out));have y0:=kc HB7.out y0;have HR7:Hid (w7.rowIs g2 43 Wd (fun _=>.int .u32 (canon Y))):=hr2;have HG7:Hid (w6.heap.size<=g2):=hg2;clear hb7 hr2 hg2);try(go_wp2_with fail)
    refine okK hK fun hHeld=>?_;clear hK K;refine tkT 9 ?_;refine wpAnyH_done kR ?_ _;have s9:w7.cell? ⟨ib,io+1,none⟩=some (.int .i64 (D:Int)):=kc (bel HB5.out (bel HB6.out HB7.out)) t1;have HBF:Hid (Below w.heap.size w w7):=bel HBr.out.1 (bel HB5.out (bel HB6.out HB7.out));have HPF:Hid (Pt (mutT T E E') w7 (.slice (some ⟨g2,0,none⟩) Wd Wd) (Zkf c ⟨kk,pp⟩ Y)):=by
     refine Pt.of_row HR7.out (HFR9.out g2 ?_) (by unfold Zkf;rw[List.length_replicate,HWD.out]) (fun k hk=>?_) Wd
     ·have:=(bel HBr.out.1 (bel HB5.out HB6.out)).size;have:=HG7.out;omega
     ·unfold Zkf atL;rw[HWD.out];simp[hk]
    have HNE:Hid (Zkf c ⟨kk,pp⟩ Y≠[]):=by
     intro e;have:=congrArg List.length e;unfold Zkf at this;rw[List.length_replicate,HWD.out]at this;simp at this;omega
    have HFE:Hid (F=stP c f D ⟨Zkf c ⟨kk,pp⟩ Y,0⟩):=by
     have:=HEQ2.out;rw[HAL.out,if_pos hnW,HYE.out]at this;exact this
    go_wp2_with(go_at_call 74;refine(HSt.out w7 _ _ _ _ HBF.out HPF.out HNE.out).mono ?_;rintro e w8 ⟨rfl,hst⟩;have HST:Hid (Zhv T E E' a c G P M F w w8):=(by rw[HFE.out];exact hst.pre HBF.out);clear hst)
    go_end0
    exact⟨rfl,HST.out⟩
   ·have en1:¬ ((n:Int)<(Wd:Int)):=oM;clear HFl;go_wp2_with(go_at_call 119;refine(HAP.out _ (bel0 _)).mono ?_;rintro e w5 ⟨g,rfl,hg5,hr5,hb5⟩;have HB5:Hid (Below wr.heap.size wr w5):=hb5;have HR5:=hidM hr5;have HG5:Hid (wr.heap.size<=g):=hg5;obtain⟨s0,s1,s2⟩:=HZ.out w5 hb5;clear hb5 hr5 hg5);refine rG (fun v=>v.cell? ⟨FR,0,none⟩=some (.pointer (some ⟨C,0,none⟩))/\v.cell? ⟨w.heap.size,0,none⟩=some (.int .i64 kk)/\v.cell? ⟨w.heap.size,1,none⟩=some (.int .i64 pp)) fun hHeld=>?_;refine Tf 0 1 2 3 4 5 ?_;refine tkT 6 ?_;clear hHeld;refine ry1 7 fun K hK=>?_;go_simp;(go_at_call 59;refine(HWd.out _ (bel HBr.out.1 (bel HB5.out (Zht _)))).mono ?_;rintro e w6 ⟨rfl,hb6⟩;have HB6:Hid (Below w5.heap.size w5 w6):=bel (Zht _) hb6;obtain⟨s0,s1,s2⟩:=HZ.out w6 (bel HB5.out HB6.out);clear hb6);try(go_wp2_with fail)
    refine okK hK fun hHeld=>?_;clear hK K;refine tkT 8 ?_;refine wpAnyH_done kR ?_ _;have s9:w6.cell? ⟨ib,io+1,none⟩=some (.int .i64 (D:Int)):=kc (bel HB5.out HB6.out) t1;have HBF:Hid (Below w.heap.size w w6):=bel HBr.out.1 (bel HB5.out HB6.out);have HPF:Hid (Pt (mutT T E E') w6 (.slice (some ⟨g,0,none⟩) n n) (appP op ARGS)):=by
     refine(Pt.of_row HR5.out (HFR9.out g ?_) HAPL.out.1 HAPL.out.2 n).below HB6.out;have:=HBr.out.1.size;have:=HG5.out;omega
    have HNE:Hid (appP op ARGS≠[]):=by
     intro e;have h1:=HAPL.out.1;rw[e]at h1;simp at h1;omega
    have HFE:Hid (F=stP c f D ⟨appP op ARGS,0⟩):=by
     have:=HEQ2.out;rw[HAPL.out.1,if_neg hnW]at this;exact this
    go_wp2_with(go_at_call 74;refine(HSt.out w6 _ _ _ _ HBF.out HPF.out HNE.out).mono ?_;rintro e w8 ⟨rfl,hst⟩;have HST:Hid (Zhv T E E' a c G P M F w w8):=(by rw[HFE.out];exact hst.pre HBF.out);clear hst)
    go_end0
    exact⟨rfl,HST.out⟩
theorem Zahh{T:Nat->Prop}{E E':Nat}{a:Lay}{c:Cd}{G P:List (List Int)}{X:Nat->Value}{M:Nat}{m:Nat->Option Value}{f:Fr}(w:World)(x:FX T E E' a c G P w)(h:FV T E E' a c w X M m f)(hg:Good c)(ib io:Nat)(i:Ins)(hi:InsT (mutT T E E') w ib io i)
 (d0:0<=i.d) (d1:i.d<(c.regs.length:Int)) (a0:0<=i.a) (a1:i.a<(c.regs.length:Int)) (hk:(regT c.regs i.d).kind=2):
 Calls prog 76 #[.pointer (some ⟨a.FR,0,none⟩),.pointer (some ⟨ib,io,none⟩)] w fun e w'=>e=.returned (.tuple #[])/\Zhv T E E' a c G P M (Zll c f i) w w':=by
 have HEq:Hid (Zll c f i={f with whs:=putN f.whs i.d.toNat (f.whs i.a.toNat)}):=by
  show Zll c f i=_;unfold Zll;rw[if_pos hk]
 obtain⟨F,hF⟩:∃F,Zll c f i=F:=⟨_,rfl⟩
 rw[hF]at HEq ⊢;have q1:=hi.cells.at 1 rfl;have q2:=hi.cells.at 2 rfl;obtain⟨op,D,A,B,Ec,nn,bt⟩:=i;simp only at *;obtain⟨D,rfl⟩:∃j:Nat,D=(j:Int):=⟨D.toNat,oM⟩
 obtain⟨A,rfl⟩:∃j:Nat,A=(j:Int):=⟨A.toNat,oM⟩
 rw[Int.toNat_natCast,Int.toNat_natCast]at HEq;have hD:D<c.regs.length:=oM;have hA:A<c.regs.length:=oM;rw[Zkb hD]at hk;have f0:=x.f0;have f3:=x.f3;have c1:=x.code.c1;obtain⟨b1,o1,m1,hv1,r0,r1⟩:=x.code.reg hD;rw[hv1]at c1;rw[hk]at r0;have hN:=hg.regsL;have k1:=h.whs.cell hA;have k2:=h.whs.cell hD;have k3:=h.whs.frozen D;have n1:w.heap.size≠a.FR:=by have:=x.iFR;have:=x.hE';omega
 have n2:w.heap.size≠a.C:=by have:=x.code.ltC;omega
 have n3:w.heap.size≠ib:=by have:=hi.lt;omega
 have n4:w.heap.size≠b1:=by have:=Zhr r0;simp at this;omega
 have n5:a.WB≠a.FR:=Ne.symm x.d1.2.1;have n6:a.WB≠ib:=fun e=>hi.not (by rw[←e];exact .inr x.iWB);have HX:Hid (FX T E E' a c G P w):=x;have HV:Hid (FV T E E' a c w X M m f):=h;have HD:Hid (D<c.regs.length):=hD;obtain⟨pp,r2⟩:∃pp,w.cell? ⟨b1,o1+D*2+1,none⟩=some (.int .i64 pp):=⟨_,r1⟩
 clear r1;obtain⟨FR,hFR⟩:∃FR,a.FR=FR:=⟨_,rfl⟩
 obtain⟨WB,hWB⟩:∃WB,a.WB=WB:=⟨_,rfl⟩
 obtain⟨C,hC⟩:∃C,a.C=C:=⟨_,rfl⟩
 obtain⟨N,hN'⟩:∃N,c.regs.length=N:=⟨_,rfl⟩
 obtain⟨y,hy⟩:∃y,f.whs A=y:=⟨_,rfl⟩
 obtain⟨y2,hy2⟩:∃y2,f.whs D=y2:=⟨_,rfl⟩
 rw[hy]at k1 HEq;rw[hy2]at k2;simp only[hFR,hWB,hC,hN']at f0 f3 c1 hN k1 k2 k3 n1 n2 n5 n6 hD hA d1 a1 ⊢;have HWB:Hid (a.WB=WB):=hWB;clear x h hg hi hk hv1 hFR hWB hC hN' hy hy2 hF;go_enter func76,ntmps76;go_wp2;refine rG (fun v=>v.cell? ⟨FR,0,none⟩=some (.pointer (some ⟨C,0,none⟩))/\v.cell? ⟨C,1,none⟩=some (.slice (some ⟨b1,o1,none⟩) N m1)/\v.cell? ⟨ib,io+1,none⟩=some (.int .i64 (D:Int))/\v.cell? ⟨b1,o1+D*2,none⟩=some (.int .i64 2)/\v.cell? ⟨b1,o1+D*2+1,none⟩=some (.int .i64 pp)) fun hHeld=>?_;refine Tf 0 1 2 3 4 5 ?_;refine Tf 6 7 8 9 10 11 ?_;refine tkT 12 ?_;clear hHeld;refine ry1 13 fun K hK=>?_;go_simp;refine okK hK fun hHeld=>?_;clear hK K;clear hHeld;refine ry1 14 fun K hK=>?_;go_simp;refine okK hK fun hHeld=>?_;clear hK K;refine wpAnyH_done kR ?_ _;obtain⟨W1,hW1⟩:∃W1,(w.alloc (.cells #[.int .i64 2,.int .i64 pp] 69)).drew=W1:=⟨_,rfl⟩
 have hb1:Below w.heap.size w W1:=by rw[←hW1];exact bel (Zhq _ _) (Zht _)
 have z0:W1.cell? ⟨w.heap.size,0,none⟩=some (.int .i64 2):=by rw[←hW1];simp[go_sem]
 rw[hW1];clear hW1 hHeld;have HB1:Hid (Below w.heap.size w W1):=hb1;have g1:=kc hb1 q1;have g2:=kc hb1 q2;have g3:=kc hb1 f3;have g4:=kc hb1 k1;have g5:=kc hb1 k2;have g6:=kf hb1 k2 k3;clear q1 q2 f0 f3 c1 r0 r2 hb1 k1 k2 k3;go_wp2;refine rG (fun v=>v.cell? ⟨FR,3,none⟩=some (.slice (some ⟨WB,0,none⟩) N N)/\v.cell? ⟨ib,io+1,none⟩=some (.int .i64 (D:Int))/\v.cell? ⟨ib,io+2,none⟩=some (.int .i64 (A:Int))) fun hHeld=>?_;refine Tf 0 1 2 3 4 5 ?_;refine Tf 6 7 8 9 10 11 ?_;refine Tc 12 13 14 ?_;refine Tb 15 16 ?_;clear hHeld;refine ry1 17 fun K hK=>?_;go_simp;refine okK hK fun hHeld=>?_;clear hK K;refine tkT 18 ?_;clear hHeld;refine ry1 19 fun K hK=>?_;go_simp;refine okK hK fun hHeld=>?_;clear hK K;refine wpAnyH_done kR ?_ _;go_wp2;first|go_end0|(simp only[Exit.inBlock,Exit.then];refine bodyPost_ret (results_none rfl _ _ _) rfl ?_)|refine bodyPost_ret (results_none rfl _ _ _) rfl ?_
 have hfin:=(Zhv.wh (HX.out.below HB1.out) (HV.out.below HB1.out) HD.out y).pre HB1.out;rw[HWB.out]at hfin;rw[HEq.out];exact⟨rfl,hfin.on (Zht _)⟩
theorem do_num{T:Nat->Prop}{E E':Nat}{a:Lay}{c:Cd}{G P:List (List Int)}{X:Nat->Value}{M:Nat}{m:Nat->Option Value}{f:Fr}(w:World)(x:FX T E E' a c G P w)(h:FV T E E' a c w X M m f)(hg:Good c)(ok:OkF c f)(ib io:Nat)(i:Ins)(hi:InsT (mutT T E E') w ib io i)
 (hop:Zlx i.op=true) (d0:0<=i.d) (d1:i.d<(c.regs.length:Int)) (ha:i.op≠1->0<=i.a/\i.a<(c.regs.length:Int)) (hb:i.op=16->0<=i.b/\i.b<(c.regs.length:Int)):
 Calls prog 45 #[.pointer (some ⟨a.FR,0,none⟩),.pointer (some ⟨ib,io,none⟩)] w fun e w'=>e=.returned (.tuple #[])/\Zhv T E E' a c G P M {f with nums:=putN f.nums i.d.toNat (numI f i)} w w':=by
 have HK:Hid (∀v,Below w.heap.size w v->Calls prog 70 #[.pointer (some ⟨a.FR,0,none⟩),.pointer (some ⟨ib,io,none⟩)] v fun e w'=>e=.returned (.int .u32 (numI f i))/\Below v.heap.size v w'):=fun v hv=>Zaiw v (x.below hv) (h.below hv) hg ok ib io i (hi.below hv).cells hop ha hb;obtain⟨y,hy⟩:∃y,numI f i=y:=⟨_,rfl⟩
 rw[hy]at HK ⊢;have q0:=hi.cells.at 0 rfl;rw[Nat.add_zero]at q0;have q1:=hi.cells.at 1 rfl;have hnot:=hi.not;obtain⟨op,D,A,B,Ec,nn,bt⟩:=i;simp only at *;obtain⟨D,rfl⟩:∃j:Nat,D=(j:Int):=⟨D.toNat,oM⟩
 rw[Int.toNat_natCast];have hD:D<c.regs.length:=oM;have f2:=x.f2;have hN:=hg.regsL;have k2:=h.nums.cell hD;have k3:=h.nums.frozen D;have n5:a.NB≠a.FR:=Ne.symm x.d1.1;have n6:a.NB≠ib:=fun e=>hnot (by rw[←e];exact .inr x.iNB);obtain⟨F,hF⟩:∃F:Fr,({f with nums:=putN f.nums D y}:Fr)=F:=⟨_,rfl⟩
 have HFin:Hid (∀v,Below w.heap.size w v->Zhv T E E' a c G P M F w (v.setCell ⟨a.NB,D,none⟩ (.int .u32 y))):=fun v hv=>by rw[←hF];exact(Zhv.num (x.below hv) (h.below hv) hD y).pre hv
 rw[hF];obtain⟨FR,hFR⟩:∃FR,a.FR=FR:=⟨_,rfl⟩
 obtain⟨NB,hNB⟩:∃NB,a.NB=NB:=⟨_,rfl⟩
 obtain⟨N,hN'⟩:∃N,c.regs.length=N:=⟨_,rfl⟩
 obtain⟨y2,hy2⟩:∃y2,f.nums D=y2:=⟨_,rfl⟩
 rw[hy2]at k2;simp only[hFR,hNB,hN']at f2 hN k2 k3 n5 n6 hD d1 HK HFin ⊢;clear x h hg hi ok ha hb hy hFR hNB hN' hy2 hF hnot;unfold Zlx at hop;simp only[Bool.or_eq_true,beq_iff_eq]at hop;have hop':op=1\/op=16\/op=17\/op=19\/op=20:=oM;clear hop;rcases hop' with rfl|rfl|rfl|rfl|rfl
 all_goals
  go_enter func45,ntmps45;go_wp2;refine rG (fun v=>v.cell? ⟨FR,2,none⟩=some (.slice (some ⟨NB,0,none⟩) N N)/\v.cell? ⟨ib,io+1,none⟩=some (.int .i64 (D:Int))) fun hHeld=>?_;refine Tf 0 1 2 3 4 5 ?_;refine Tc 6 7 8 ?_;refine tkT 9 ?_;clear hHeld;refine ry1 10 fun K hK=>?_;go_simp;(go_at_call 70;refine(HK.out _ (Zht _)).mono ?_;rintro e w1 ⟨rfl,hb1⟩;have HB1:=bel (Zht _) hb1;have z1:=kc HB1 f2;have z2:=kc HB1 q1;have z3:=kc HB1 k2;have z4:=kf HB1 k2 k3;clear hb1);exact Zdj
theorem Zanq{T:Nat->Prop}{E E':Nat}{a:Lay}{c:Cd}{G P:List (List Int)}{X:Nat->Value}{M:Nat}{m:Nat->Option Value}{f:Fr}(w:World)(x:FX T E E' a c G P w)(h:FV T E E' a c w X M m f)(hg:Good c)(ok:OkF c f)(ib io:Nat)(i:Ins)(hi:InsT (mutT T E E') w ib io i)
 (hop:Zjv i.op=true) (d0:0<=i.d) (d1:i.d<(c.regs.length:Int)) (ha:0<=i.a/\i.a<(c.regs.length:Int)) (hb:0<=i.b/\i.b<(c.regs.length:Int)) (hc:0<=i.c/\i.c<(c.regs.length:Int)):
 Calls prog 45 #[.pointer (some ⟨a.FR,0,none⟩),.pointer (some ⟨ib,io,none⟩)] w fun e w'=>e=.returned (.tuple #[])/\Zhv T E E' a c G P M {f with whs:=putN f.whs i.d.toNat (Zmt f i)} w w':=by
 have HK:Hid (∀v,Below w.heap.size w v->Calls prog 71 #[.pointer (some ⟨a.FR,0,none⟩),.pointer (some ⟨ib,io,none⟩)] v fun e w'=>e=.returned (.int .i64 (Zmt f i))/\Below v.heap.size v w'):=fun v hv=>Zalp v (x.below hv) (h.below hv) hg ok ib io i (hi.below hv).cells hop ha hb hc;obtain⟨y,hy⟩:∃y,Zmt f i=y:=⟨_,rfl⟩
 rw[hy]at HK ⊢;have q0:=hi.cells.at 0 rfl;rw[Nat.add_zero]at q0;have q1:=hi.cells.at 1 rfl;have hnot:=hi.not;obtain⟨op,D,A,B,Ec,nn,bt⟩:=i;simp only at *;obtain⟨D,rfl⟩:∃j:Nat,D=(j:Int):=⟨D.toNat,oM⟩
 rw[Int.toNat_natCast];have hD:D<c.regs.length:=oM;have f3:=x.f3;have hN:=hg.regsL;have k2:=h.whs.cell hD;have k3:=h.whs.frozen D;have n5:a.WB≠a.FR:=Ne.symm x.d1.2.1;have n6:a.WB≠ib:=fun e=>hnot (by rw[←e];exact .inr x.iWB);obtain⟨F,hF⟩:∃F:Fr,({f with whs:=putN f.whs D y}:Fr)=F:=⟨_,rfl⟩
 have HFin:Hid (∀v,Below w.heap.size w v->Zhv T E E' a c G P M F w (v.setCell ⟨a.WB,D,none⟩ (.int .i64 y))):=fun v hv=>by rw[←hF];exact(Zhv.wh (x.below hv) (h.below hv) hD y).pre hv
 rw[hF];obtain⟨FR,hFR⟩:∃FR,a.FR=FR:=⟨_,rfl⟩
 obtain⟨WB,hWB⟩:∃WB,a.WB=WB:=⟨_,rfl⟩
 obtain⟨N,hN'⟩:∃N,c.regs.length=N:=⟨_,rfl⟩
 obtain⟨y2,hy2⟩:∃y2,f.whs D=y2:=⟨_,rfl⟩
 rw[hy2]at k2;simp only[hFR,hWB,hN']at f3 hN k2 k3 n5 n6 hD d1 HK HFin ⊢;clear x h hg hi ok ha hb hc hy hFR hWB hN' hy2 hF hnot;unfold Zjv at hop;simp only[Bool.or_eq_true,Bool.and_eq_true,beq_iff_eq,decide_eq_true_eq]at hop;have hop':op=2\/op=18\/op=21\/op=22\/op=23\/op=24\/op=25\/op=26\/op=27\/op=28:=oM;clear hop;rcases hop' with rfl|rfl|rfl|rfl|rfl|rfl|rfl|rfl|rfl|rfl
 all_goals
  go_enter func45,ntmps45;go_wp2;refine rG (fun v=>v.cell? ⟨FR,3,none⟩=some (.slice (some ⟨WB,0,none⟩) N N)/\v.cell? ⟨ib,io+1,none⟩=some (.int .i64 (D:Int))) fun hHeld=>?_;refine Tf 0 1 2 3 4 5 ?_;refine Tc 6 7 8 ?_;refine tkT 9 ?_;clear hHeld;refine ry1 10 fun K hK=>?_;go_simp;(go_at_call 71;refine(HK.out _ (Zht _)).mono ?_;rintro e w1 ⟨rfl,hb1⟩;have HB1:=bel (Zht _) hb1;have z1:=kc HB1 f3;have z2:=kc HB1 q1;have z3:=kc HB1 k2;have z4:=kf HB1 k2 k3;clear hb1);exact Zdj
end Go.Proofs.YtbinohkcolcbfaaGreat
