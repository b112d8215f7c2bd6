import Derived.Test.YtbinohkcolcbfaaGreatClon1
import Derived.Test.YtbinohkcolcbfaaGreatClon17
import Derived.Test.YtbinohkcolcbfaaGreatClon13
import Derived.Test.YtbinohkcolcbfaaGreatClon12
import Derived.Test.YtbinohkcolcbfaaGreatClon18
import Derived.Test.YtbinohkcolcbfaaGreatClon15
namespace Go.Proofs.YtbinohkcolcbfaaGreat
open Go.RowKit Go.Proofs.Tryz
set_option linter.all false
set_option maxRecDepth 100000
set_option maxHeartbeats 16000000
def slP:Value->Option Addr
 | .slice p _ _=>p
 |_=>none
def Yt:Value->Nat
 | .slice _ _ c=>c
 |_=>0
theorem DM{L:List (List Int)}{k:Nat}(h:k<L.length):CA L k=L[k]:=by unfold CA;rw[List.getElem?_eq_getElem h];rfl
theorem Xd{T:Nat->Prop}{w:World}{g:Nat}{vals:List Value}{args:List (List Int)}(hv:vals.length=args.length)(hc:∀ (k:Nat) (u:Value),vals[k]? =some u->w.cell? ⟨g,k,none⟩=some u)(hp:∀k (h1:k<vals.length) (h2:k<args.length),Pt T w vals[k] args[k]):
 G8 .u32 w (some ⟨g,0,none⟩) args.length (fun k=>slP ((vals[k]?).getD (.slice none 0 0))) (lF args) (fun k=>Yt ((vals[k]?).getD (.slice none 0 0))) (xF args):=by
 refine⟨.inr ⟨g,0,rfl,fun k hk=>?_⟩,fun k hk=>?_⟩
 ·have hk':k<vals.length:=oM;obtain⟨p,c,e⟩:=(hp k hk' hk).len;rw[Nat.zero_add,hc k vals[k] (List.getElem?_eq_getElem hk')];simp only[List.getElem?_eq_getElem hk',Option.getD_some,e,slP,Yt,lF,DM hk]
 ·have hk':k<vals.length:=oM;have:=hp k hk' hk;obtain⟨p,c,e⟩:=this.len;rw[e]at this;have h2:=this.reads.2;simp only[List.getElem?_eq_getElem hk',Option.getD_some,e,slP,lF,xF,DM hk];exact h2
theorem GR{l:Nat->Nat}{W:Nat}(hW:1<=W):∀M,(∀i,i<=M->l i=1\/l i=W)->∃n,BZ l M=some n/\(n=1\/n=W):=by
 intro M;induction M with
 |zero=>intro h;exact⟨l 0,rfl,h 0 (Nat.le_refl _)⟩
 |succ M ih=>
  intro h;obtain⟨n,h1,h2⟩:=ih fun i hi=>h i oM;rw[Fq h1];have h3:=h (M+1) (Nat.le_refl _);by_cases e1:l (M+1)=n
  ·exact⟨n,if_pos e1,h2⟩
  ·rw[if_neg e1,if_neg oM];by_cases e2:n=1
   ·rw[if_pos e2];exact⟨_,rfl,h3⟩
   ·rw[if_neg e2];by_cases e3:l (M+1)=1
    ·rw[if_pos e3];exact⟨_,rfl,h2⟩
    ·omega
theorem E6(i:Au)(h:Bg i.op=true):BB i.op=(Al i (A6 i.op)).length/\BB i.op≠0:=by
 unfold Bg at h;simp only[Bool.and_eq_true,decide_eq_true_eq]at h;have:i.op=3\/i.op=4\/i.op=5\/i.op=6\/i.op=7\/i.op=8\/i.op=9\/i.op=10\/i.op=11\/i.op=12\/i.op=13\/i.op=14\/i.op=15:=oM;obtain⟨op,D,A,B,E,n,b⟩:=i;simp only at this ⊢;rcases this with rfl|rfl|rfl|rfl|rfl|rfl|rfl|rfl|rfl|rfl|rfl|rfl|rfl<;>exact⟨rfl,dE⟩
theorem Ku{op:Int}{args:List (List Int)}{n:Nat}(h:BZ (lF args) (args.length-1)=some n):(Bt op args).length=n/\∀j,j<n->B7 (Bt op args) j=CJ op (Bd (lF args) (xF args) args.length j 0) (Bd (lF args) (xF args) args.length j 1) (Bd (lF args) (xF args) args.length j 2):=by
 unfold Bt;rw[h];simp only;exact⟨sM,fun j hj=>Kv (α:=Int) _ _ _ hj⟩
theorem A9{p:Prop}(h:p):Hid p:=h
def avT(T:Nat->Prop)(v:Value):Nat->Prop:=fun b=>T b\/v.ownBlock=some b
theorem Pt.grown{T:Nat->Prop}{v v' u:Value}{w w':World}{l:List Int}(h:Pt (avT T v) w u l)(hg:w.grownBy w' v.ownBlock)(ha:v'.ownBlock=v.ownBlock\/v'.ownBlock=some w.heap.size):Pt (avT T v') w' u l:=by
 obtain⟨p,c,hv,h⟩:=h;refine⟨p,c,hv,h.imp id fun⟨b,o,hp,ht,hb,h⟩=>⟨b,o,hp,?_,Nat.lt_of_lt_of_le hb hg.size,fun i hi=>(h i hi).of_block (hg.block b hb fun e=>ht (.inr e.symm))⟩⟩;rintro(k|k)
 ·exact ht (.inl k)
 ·rcases ha with e|e
  ·exact ht (.inr (e▸k))
  ·rw[e]at k;simp at k;omega
def QB(op:Int)(ag m acap n:Nat)(args:List (List Int))(w:World):Prop:=∀v,Below w.heap.size w v->Calls prog 119 #[.int .i64 op,.slice (some ⟨ag,0,none⟩) m acap] v fun e w'=>∃g,e=.returned (.tuple #[.slice (some ⟨g,0,none⟩) n n,.int .i64 0])/\v.heap.size<=g/\w'.rowIs g 43 n (fun i=>.int .u32 (CJ op (Bd (lF args) (xF args) args.length i 0) (Bd (lF args) (xF args) args.length i 1) (Bd (lF args) (xF args) args.length i 2)))/\Below v.heap.size v w'
theorem QT{T:Nat->Prop}{E E':Nat}{a:BY}{c:Cd}{G P:List (List Int)}{X:Nat->Value}{M:Nat}{m:Nat->Option Value}{f:Fr}(w:World)(x:FX T E E' a c G P w)(h:FV T E E' a c w X M m f)(hg:Good c)(ok:EC c f)(hM:M<=1000000)(ib io:Nat)(i:Au)(hi:Ea (AB T E E') w ib io i)
 (hel:Bg i.op=true) (d0:0<=i.d) (d1:i.d<(c.regs.length:Int)) (hk:(A8 c.regs i.d).kind≠2) (hW:1<=Ad c (A8 c.regs i.d)) (hargs:∀r∈Al i (A6 i.op),0<=r/\r<(c.regs.length:Int)/\((BG c f r).pats.length=1\/(BG c f r).pats.length=Ad c (A8 c.regs i.d))/\∀y∈(BG c f r).pats,Ag y):
 Calls prog 76 #[.pointer (some ⟨a.FR,0,none⟩),.pointer (some ⟨ib,io,none⟩)] w fun e w'=>e=.returned (.tuple #[])/\Ab T E E' a c G P M (CO c f i) w w':=by
 have HEq:Hid (CO c f i=GG c f i.d ⟨if(Bt i.op (Bf c f i)).length<Ad c (A8 c.regs i.d)then BV c (A8 c.regs i.d) ((Bt i.op (Bf c f i)).headD 0)else Bt i.op (Bf c f i),0⟩):=by
  show CO c f i=_;unfold CO;rw[if_neg hk]
 obtain⟨F,hF⟩:∃F,CO c f i=F:=⟨_,rfl⟩
 rw[hF]at HEq ⊢;have HRe:Hid (∀v,Calls prog 118 #[Dk i] v fun e w'=>∃u,e=.returned u/\w'.ownsRow v.heap.size 3 1 u (Al i (A6 i.op)).length (BQ (Al i (A6 i.op)))/\Below v.heap.size v w'):=fun v=>RK i v;obtain⟨ht1,ht2⟩:=E6 i hel;have ht3:=Ft i.op;have q0:=hi.cells.at 0 rfl;rw[Nat.add_zero]at q0;have q1:=hi.cells.at 1 rfl;have q2:=hi.cells.at 2 rfl;have q3:=hi.cells.at 3 rfl;have q4:=hi.cells.at 4 rfl;have q5:=hi.cells.at 5 rfl;have q6:=hi.cells.at 6 rfl;obtain⟨RL,hRL⟩:∃RL,Al i (A6 i.op)=RL:=⟨_,rfl⟩
 have HArgs:Hid (Bf c f i=RL.map fun r=>(BG c f r).pats):=by rw[←hRL];exact rfl
 rw[hRL]at HRe ht1 hargs;obtain⟨op,D,A,B,Ec,nn,bt⟩:=i;unfold Dk at HRe;simp only at *;obtain⟨D,rfl⟩:∃j:Nat,D=(j:Int):=⟨D.toNat,oM⟩
 have hD:D<c.regs.length:=oM;rw[Bh hD]at HEq hk hW hargs;have f0:=x.f0;have c1:=x.code.c1;obtain⟨b1,o1,m1,hv1,r0,r1⟩:=x.code.reg hD;rw[hv1]at c1;have hN:=hg.regsL;have HRd:Hid (∀v,Below w.heap.size w v->∀r∈RL,Calls prog 75 #[.pointer (some ⟨a.FR,0,none⟩),.int .i64 r] v fun e w'=>∃u,e=.returned (.agg #[u,.int .i64 (BG c f r).whole])/\Pt (Rq (AB T E E') w.heap.size v.heap.size) w' u (BG c f r).pats/\Below v.heap.size v w'):=by
  intro v hv r hr;obtain⟨g0,g1,-⟩:=hargs r hr;obtain⟨r,rfl⟩:∃j:Nat,r=(j:Int):=⟨r.toNat,oM⟩
  exact TE w v x h hg hv r oM
 obtain⟨⟨kk,pp⟩,htt⟩:∃t,c.regs[D]=t:=⟨_,rfl⟩
 have hpl:kk=3->Ak pp c.sign.length=true:=fun e=>by
  have:=hg.type (List.getElem_mem hD) (by rw[htt];exact e);rw[htt]at this;exact this
 rw[htt]at r0 r1 HEq hk hW hargs;simp only at r0 r1 hk;have HWd:Hid (∀v,Below w.heap.size w v->Calls prog 59 #[.pointer (some ⟨a.C,0,none⟩),.agg #[.int .i64 kk,.int .i64 pp]] v fun e w'=>e=.returned (.int .i64 (Ad c ⟨kk,pp⟩:Nat))/\Below v.heap.size v w'):=fun v hv=>Kp a c ⟨kk,pp⟩ v (x.code.below hv) hpl fun p hp=>by have:=(hg.len p hp).1;omega
 have HFl:Hid (∀v y,Below w.heap.size w v->Ag y->Calls prog 33 #[.pointer (some ⟨a.C,0,none⟩),.agg #[.int .i64 kk,.int .i64 pp],.int .u32 y] v fun e w'=>∃g,e=.returned (.slice (some ⟨g,0,none⟩) (Ad c ⟨kk,pp⟩) (Ad c ⟨kk,pp⟩))/\v.heap.size<=g/\w'.rowIs g 43 (Ad c ⟨kk,pp⟩) (fun _=>.int .u32 (canon y))/\Below v.heap.size v w'):=fun v y hv hy=>Iq a c hg ⟨kk,pp⟩ y hy v (x.code.below hv) hpl;have HSt:Hid (∀v q L cap l,Below w.heap.size w v->Pt (AB T E E') v (.slice q L cap) l->l≠[]->Calls prog 74 #[.pointer (some ⟨a.FR,0,none⟩),.int .i64 (D:Int),.agg #[.slice q L cap,.int .i64 0]] v fun e w'=>e=.returned (.tuple #[])/\Ab T E E' a c G P M (GG c f D ⟨l,0⟩) v w'):=fun v q L cap l hv hp hn=>Qo v (x.below hv) (h.below hv) hg D hD hM q L cap ⟨l,0⟩ hp (fun _=>hn);have HX:Hid (FX T E E' a c G P w):=x;have HAr:Hid (∀r∈RL,((BG c f r).pats.length=1\/(BG c f r).pats.length=Ad c ⟨kk,pp⟩)/\∀y∈(BG c f r).pats,Ag y):=fun r hr=>(hargs r hr).2.2;obtain⟨m',hm'⟩:∃m',RL.length=m':=⟨_,rfl⟩
 have n1:w.heap.size≠a.FR:=by have:=x.iFR;have:=x.hE';omega
 have n2:w.heap.size≠a.C:=by have:=x.code.ltC;omega
 have n3:w.heap.size≠ib:=by have:=hi.lt;omega
 have n4:w.heap.size≠b1:=by have:=A3 r0;simp at this;omega
 obtain⟨FR,hFR⟩:∃FR,a.FR=FR:=⟨_,rfl⟩
 obtain⟨C,hC⟩:∃C,a.C=C:=⟨_,rfl⟩
 obtain⟨N,hN'⟩:∃N,c.regs.length=N:=⟨_,rfl⟩
 obtain⟨Wd,hWd⟩:∃Wd,Ad c ⟨kk,pp⟩=Wd:=⟨_,rfl⟩
 have hWd4:=hg.width ⟨kk,pp⟩;simp only[hFR,hC,hN',hm',hWd]at HRe HRd HWd HFl HSt HAr n1 n2 f0 c1 hN hD d1 ht1 hW hWd4 ⊢;have HWD:Hid (Ad c ⟨kk,pp⟩=Wd):=hWd;have HML:Hid (RL.length=m'):=hm';have e2:(kk==2)=false:=by simpa using hk
 clear x h hg ok hi hel hRL hargs hpl htt hv1 hFR hC hN' hWd hm' hF hk;go_enter func76,ntmps76;go_wp2;refine rG (fun v=>v.cell? ⟨FR,0,none⟩=some (.pointer (some ⟨C,0,none⟩))/\v.cell? ⟨C,1,none⟩=some (.slice (some ⟨b1,o1,none⟩) N m1)/\v.cell? ⟨ib,io+1,none⟩=some (.int .i64 (D:Int))/\v.cell? ⟨b1,o1+D*2,none⟩=some (.int .i64 kk)/\v.cell? ⟨b1,o1+D*2+1,none⟩=some (.int .i64 pp)) fun hHeld=>?_;refine Tf 0 1 2 3 4 5 ?_;refine Tf 6 7 8 9 10 11 ?_;refine AI 12 ?_;clear hHeld;refine Ao 13 fun K hK=>?_;go_simp;refine An hK fun hHeld=>?_;clear hK K;clear hHeld;refine Ao 14 fun K hK=>?_;go_simp;refine An hK fun hHeld=>?_;clear hK K;refine wpAnyH_done kR ?_ _;obtain⟨W1,hW1⟩:∃W1,(w.alloc (.cells #[.int .i64 kk,.int .i64 pp] 69)).drew=W1:=⟨_,rfl⟩
 have hb1:Below w.heap.size w W1:=by rw[←hW1];exact bel (A0 _ _) (A4 _)
 have z0:W1.cell? ⟨w.heap.size,0,none⟩=some (.int .i64 kk):=by rw[←hW1];simp[go_sem]
 have z1:W1.cell? ⟨w.heap.size,1,none⟩=some (.int .i64 pp):=by rw[←hW1];simp[go_sem]
 rw[hW1];clear hW1 hHeld;have HB1:Hid (Below w.heap.size w W1):=hb1;have g0:=kc hb1 q0;have g1:=kc hb1 q1;have g2:=kc hb1 q2;have g3:=kc hb1 q3;have g4:=kc hb1 q4;have g5:=kc hb1 q5;have g6:=kc hb1 q6;have g7:=kc hb1 f0;clear q0 q1 q2 q3 q4 q5 q6 f0 c1 r0 r1 hb1;have hf:∀ (w:World) (x y:Value),(Instr.field 78 (.agg #[x,y]) 0).run prog w=.ok x w:=fun w x y=>by simp[Instr.field,run_underlying underlying78,asAgg,part,go_sem]
 obtain⟨i0,hi0,hz0,hz1,hz3⟩:=info_parts Pz;have hm1:0<m':=oM;go_wp2_with(go_at_call 118;refine(HRe.out _).mono ?_;rintro e w2 ⟨u,rfl,hown,hb2⟩;obtain⟨rg,rcap,rfl,hrB,hrlt,hrc,-,hrcell⟩:=DF hown hm1;have HRC:Hid (∀ (j:Nat) (u:Value),(BQ RL)[j]? =some u->w2.cell? ⟨rg,j,none⟩=some u):=hrcell;have HB2:Hid (Below W1.heap.size W1 w2):=hb2;clear hown hrcell);have hm3:m'<=3:=oM
 go_loopw [5,50] (fun av iv wr=>∃ (j:Nat) (bv:Value) (vals:List Value),bv=av/\j<=m'/\iv=.int .i64 j/\vals.length=j/\Hid (Below w2.heap.size w2 wr/\wr.ownsRow w2.heap.size 57 1 bv j vals/\∀k (h1:k<vals.length) (h2:k<RL.length),Pt (avT (AB T E E') bv) wr vals[k] (BG c f RL[k]).pats)) (fun _ iv _=>m'-(intOf iv).toNat)
 case atStart=>exact⟨0,_,[],rfl,Nat.zero_le _,rfl,rfl,Below.refl _ _,World.ownsRow_nil _ _ _ 1,fun k h1 _=>absurd h1 (Nat.not_lt_zero _)⟩
 case round=>
  obtain⟨j,av,vals,rfl,hj,rfl,hvl,HR⟩:=hrel;have hsz:=HR.out.1.size;by_cases hlt:j<m'
  ·have hjR:j<RL.length:=by rw[HML.out];exact hlt
   have x1:wr.cell? ⟨rg,j,none⟩=some (.int .i64 RL[j]):=kc HR.out.1 (HRC.out j _ (by simp[BQ,hjR]));have HRJ:Hid (RL[j]∈RL):=List.getElem_mem hjR;have HRJ2:Hid (∀k (h1:k<RL.length),k=j->(BG c f RL[k]).pats=(BG c f RL[j]).pats):=fun k _ e=>by subst e;rfl
   obtain⟨rr,hrr⟩:∃rr,RL[j]=rr:=⟨_,rfl⟩
   rw[hrr]at x1 HRJ HRJ2;obtain⟨pat,hpat⟩:∃pat,(BG c f rr).pats=pat:=⟨_,rfl⟩
   have HPT:Hid ((BG c f rr).pats=pat):=hpat;obtain⟨who,hwho⟩:∃who,(BG c f rr).whole=who:=⟨_,rfl⟩
   have KRd:=fun v hv=>HRd.out v hv rr HRJ.out;rw[hpat,hwho]at KRd;have HKRd:Hid (∀v,Below w.heap.size w v->Calls prog 75 #[.pointer (some ⟨FR,0,none⟩),.int .i64 rr] v fun e w'=>∃u,e=.returned (.agg #[u,.int .i64 who])/\Pt (Rq (AB T E E') w.heap.size v.heap.size) w' u pat/\Below v.heap.size v w'):=KRd;have HBr:Hid (Below w.heap.size w wr):=bel (bel HB1.out HB2.out) HR.out.1;clear KRd hrr hpat hwho hjR;go_wp2_with(first
    |(go_at_call 75;refine(HKRd.out _ HBr.out).mono ?_;rintro e w3 ⟨u,rfl,hup,hb3⟩;obtain⟨uq,uc,hue⟩:=hup.len;obtain⟨ul,hul⟩:∃ul,pat.length=ul:=⟨_,rfl⟩;rw[hul]at hue;subst hue;have HUP:Hid (Pt (Rq (AB T E E') w.heap.size wr.heap.size) w3 (.slice uq ul uc) pat):=hup;have HB3:Hid (Below wr.heap.size wr w3):=hb3;have hs3:=hb3.size;clear hup hul)
    |(at_builtin;refine wpList_append_own_at _ rfl _ _ 47 rfl w2.heap.size 57 i0 _ 1 24 underlying47 hi0 hz0 hz1 hz3 rfl dE _ j vals rfl (World.ownsRow.alloc (AA HR.out.2.1 HB3.out) _) ⟨w3.heap.size,0,none⟩ 1 1 [.slice uq ul uc] rfl rfl (World.news_of_block (cs:=#[.slice uq ul uc]) (t:=57) (fr:=(0,0)) (heap_alloc_new w3 _)) SD mL oM sO ?_;intro v' w4 hown4 hgrow hnil hat;have HO4:Hid (w4.ownsRow w2.heap.size 57 1 v' (j+1) (vals++[.slice uq ul uc])):=hown4;have HB4:Hid (Below w2.heap.size w3 w4):=(Below.alloc (Below.refl _ _) oM _).grown hgrow sO (fun q e=>(HR.out.2.1.lt q e).1);have HG4:Hid ((w3.alloc (.cells #[.slice uq ul uc] 57)).grownBy w4 av.ownBlock/\(v'.ownBlock=av.ownBlock\/v'.ownBlock=some (w3.alloc (.cells #[.slice uq ul uc] 57)).heap.size)):=⟨hgrow,hat⟩;clear hown4 hgrow hnil hat))
   refine⟨⟨j+1,_,vals++[.slice uq ul uc],rfl,oM,gN,by simp[hvl],(HR.out.1.trans (HB3.out.mono hsz)).trans HB4.out,HO4.out,fun k h1 h2=>?_⟩,by simp[intOf];omega⟩;refine Pt.grown (v:=av) ?_ HG4.out.1 HG4.out.2;by_cases hk:k<j
   ·rw[List.getElem_append_left oM];exact((HR.out.2.2 k oM h2).below HB3.out).below (A0 _ _)
   ·have hkj:k=j:=by simp at h1;omega
    have hg9:(vals++[Value.slice uq ul uc])[k]'h1=.slice uq ul uc:=by
     rw[List.getElem_append_right oM];simp
    rw[hg9,HRJ2.out k h2 hkj,HPT.out];refine BH.below ?_ (A0 _ _);refine HUP.out.mono fun b hb2 e=>?_;rcases e with e|e
    ·exact .inl e
    ·refine .inr ⟨?_,(HR.out.2.1.lt b e).2⟩;have:=(HR.out.2.1.lt b e).1;have:=(bel HB1.out HB2.out).size;omega
  ·have hjm:j=m':=oM;subst hjm;obtain⟨ag,acap,rfl,haB,halt,hac,-,hacell⟩:=DF HR.out.2.1 hm1;obtain⟨ARGS,hARGS⟩:∃ARGS,RL.map (fun r=>(BG c f r).pats)=ARGS:=⟨_,rfl⟩
   have hAL:ARGS.length=j:=by rw[←hARGS,List.length_map];exact HML.out
   have hAel:∀k (h1:k<ARGS.length) (h2:k<RL.length),ARGS[k]=(BG c f RL[k]).pats:=fun k h1 h2=>by subst hARGS;simp
   have hL:=Xd (T:=AB T E E') (w:=wr) (g:=ag) (vals:=vals) (args:=ARGS) oM hacell (fun k h1 h2=>by
    have h3:k<RL.length:=by rw[HML.out];omega
    rw[hAel k h2 h3]
    exact(HR.out.2.2 k h1 h3).mono fun b _ e=>.inl e)
   have hA1:∀k,k<ARGS.length->(lF ARGS k=1\/lF ARGS k=Wd)/\∀y∈CA ARGS k,Ag y:=fun k hk=>by
    have h3:k<RL.length:=by rw[HML.out];omega
    have h4:=HAr.out RL[k] (List.getElem_mem h3);unfold lF;rw[DM hk,hAel k hk h3];exact h4
   have hA2:∀k,¬k<ARGS.length->CA ARGS k=[]:=fun k hk=>by unfold CA;rw[List.getElem?_eq_none oM];rfl
   have hXP:∀i k,Ag (xF ARGS i k):=fun i k=>by
    unfold xF;refine Bw ?_ k;by_cases hik:i<ARGS.length
    ·exact(hA1 i hik).2
    ·rw[hA2 i hik];intro y hy;cases hy
   have hlP:∀i,lF ARGS i<=1048576:=fun i=>by
    by_cases hik:i<ARGS.length
    ·have:=(hA1 i hik).1;omega
    ·unfold lF;rw[hA2 i hik];simp
   obtain⟨n,hsh,hn1⟩:=GR (l:=lF ARGS) hW (ARGS.length-1) (fun i hi=>(hA1 i oM).1);obtain⟨hapl,hapa⟩:=Ku (op:=op) hsh;have HAP:Hid (QB op ag j acap n ARGS wr):=fun v hv=>by
    have:=SJ op ht2 ag 0 ARGS.length acap (by rw[ht1,hAL]) n _ (lF ARGS) _ (xF ARGS) hXP hlP oM hsh v (hL.below hv);rw[hAL]at this;rw[hAL];exact this
   have HAPL:Hid ((Bt op ARGS).length=n/\∀j,j<n->B7 (Bt op ARGS) j=CJ op (Bd (lF ARGS) (xF ARGS) ARGS.length j 0) (Bd (lF ARGS) (xF ARGS) ARGS.length j 1) (Bd (lF ARGS) (xF ARGS) ARGS.length j 2)):=⟨hapl,hapa⟩
   have HIP:Hid (∀i k,Ag (xF ARGS i k)):=hXP;have hAA:=HArgs.out;rw[hARGS]at hAA;have HEQ2:Hid (F=GG c f D ⟨if(Bt op ARGS).length<Wd then BV c ⟨kk,pp⟩ ((Bt op ARGS).headD 0)else Bt op ARGS,0⟩):=by
    have:=HEq.out;rw[hAA,HWD.out]at this;exact this
   have HBr:Hid (Below w.heap.size w wr/\Below W1.heap.size W1 wr):=⟨bel (bel HB1.out HB2.out) HR.out.1,bel HB2.out HR.out.1⟩
   clear hL hA1 hA2 hXP hlP hapl hapa hARGS hAel hAA hacell hsh;have t0:wr.cell? ⟨ib,io,none⟩=some (.int .i64 op):=kc HBr.out.2 g0;have t1:wr.cell? ⟨ib,io+1,none⟩=some (.int .i64 (D:Int)):=kc HBr.out.2 g1;have HAL:Hid ((Bt op ARGS).length=n):=HAPL.out.1;have HZ:Hid (∀v,Below wr.heap.size wr v->v.cell? ⟨FR,0,none⟩=some (.pointer (some ⟨C,0,none⟩))/\v.cell? ⟨w.heap.size,0,none⟩=some (.int .i64 kk)/\v.cell? ⟨w.heap.size,1,none⟩=some (.int .i64 pp)):=fun v hv=>⟨kc hv (kc HBr.out.2 g7),kc hv (kc HBr.out.2 z0),kc hv (kc HBr.out.2 z1)⟩
   have hmj:=HX.out.fresh (g:=0+w.heap.size) oM;have HFR9:Hid (∀g,w.heap.size<=g->¬AB T E E' g):=fun g hg=>HX.out.fresh hg;clear g0 g1 g2 g3 g4 g5 g6 g7 z0 z1 hmj HRd HRe HArgs HEq HAr HRC;by_cases hnW:n<Wd
   ·have en1:(n:Int)<(Wd:Int):=oM;have en2:(0:Int)<(n:Int):=oM;have hn0:0<n:=oM;obtain⟨Y,hY⟩:∃Y,CJ op (Bd (lF ARGS) (xF ARGS) ARGS.length 0 0) (Bd (lF ARGS) (xF ARGS) ARGS.length 0 1) (Bd (lF ARGS) (xF ARGS) ARGS.length 0 2)=Y:=⟨_,rfl⟩
    have HYP:Hid (Ag Y):=by rw[←hY];exact L8 _ _ _ _ (B4 HIP.out _ _ _) (B4 HIP.out _ _ _) (B4 HIP.out _ _ _)
    have HYE:Hid ((Bt op ARGS).headD 0=Y):=by
     have h1:=HAPL.out.2 0 hn0;rw[hY]at h1;rw[←h1];unfold B7;cases Bt op ARGS<;>rfl
    have HAP2:Hid (∀v,Below wr.heap.size wr v->Calls prog 119 #[.int .i64 op,.slice (some ⟨ag,0,none⟩) j acap] v fun e w'=>∃g,e=.returned (.tuple #[.slice (some ⟨g,0,none⟩) n n,.int .i64 0])/\w'.cell? ⟨g,0,none⟩=some (.int .u32 Y)/\Below v.heap.size v w'):=fun v hv=>(HAP.out v hv).mono fun e w' ⟨g,h1,_,h2,h3⟩=>⟨g,h1,by have:=h2.cell hn0;rw[hY]at this;exact this,h3⟩
    clear hY HAP HAPL HIP;go_wp2_with(go_at_call 119;refine(HAP2.out _ (B8 _)).mono ?_;rintro e w5 ⟨g,rfl,y0,hb5⟩;have HB5:Hid (Below wr.heap.size wr w5):=hb5;obtain⟨s0,s1,s2⟩:=HZ.out w5 hb5;clear hb5);refine rG (fun v=>v.cell? ⟨FR,0,none⟩=some (.pointer (some ⟨C,0,none⟩))/\v.cell? ⟨w.heap.size,0,none⟩=some (.int .i64 kk)/\v.cell? ⟨w.heap.size,1,none⟩=some (.int .i64 pp)) fun hHeld=>?_;refine Tf 0 1 2 3 4 5 ?_;refine AI 6 ?_;clear hHeld;refine Ao 7 fun K hK=>?_;go_simp;(go_at_call 59;refine(HWd.out _ (bel HBr.out.1 (bel HB5.out (A4 _)))).mono ?_;rintro e w6 ⟨rfl,hb6⟩;have HB6:Hid (Below w5.heap.size w5 w6):=bel (A4 _) hb6;obtain⟨s0,s1,s2⟩:=HZ.out w6 (bel HB5.out HB6.out);have y0:=kc HB6.out y0;clear hb6);try(go_wp2_with fail)
    refine An hK fun hHeld=>?_;clear hK K;refine AI 8 ?_;refine wpAnyH_done kR ?_ _;go_wp2;refine rG (fun v=>v.cell? ⟨FR,0,none⟩=some (.pointer (some ⟨C,0,none⟩))/\v.cell? ⟨w.heap.size,0,none⟩=some (.int .i64 kk)/\v.cell? ⟨w.heap.size,1,none⟩=some (.int .i64 pp)/\v.cell? ⟨g,0,none⟩=some (.int .u32 Y)) fun hHeld=>?_;refine Tf 0 1 2 3 4 5 ?_;refine Tb 6 7 ?_;clear hHeld;refine Ao 8 fun K hK=>?_;go_simp;(go_at_call 33;refine(HFl.out _ Y (bel HBr.out.1 (bel HB5.out (bel HB6.out (A4 _)))) HYP.out).mono ?_;rintro e w7 ⟨g2,rfl,hg2,hr2,hb7⟩;have HB7:Hid (Below w6.heap.size w6 w7):=bel (A4 _) hb7;obtain⟨s0,s1,s2⟩:=HZ.out w7 (bel HB5.out (bel HB6.out HB7.out));have y0:=kc HB7.out y0;have HR7:Hid (w7.rowIs g2 43 Wd (fun _=>.int .u32 (canon Y))):=hr2;have HG7:Hid (w6.heap.size<=g2):=hg2;clear hb7 hr2 hg2);try(go_wp2_with fail)
    refine An hK fun hHeld=>?_;clear hK K;refine AI 9 ?_;refine wpAnyH_done kR ?_ _;have s9:w7.cell? ⟨ib,io+1,none⟩=some (.int .i64 (D:Int)):=kc (bel HB5.out (bel HB6.out HB7.out)) t1;have HBF:Hid (Below w.heap.size w w7):=bel HBr.out.1 (bel HB5.out (bel HB6.out HB7.out));have HPF:Hid (Pt (AB T E E') w7 (.slice (some ⟨g2,0,none⟩) Wd Wd) (BV c ⟨kk,pp⟩ Y)):=by
     refine Pt.of_row HR7.out (HFR9.out g2 ?_) (by unfold BV;rw[List.length_replicate,HWD.out]) (fun k hk=>?_) Wd
     ·have:=(bel HBr.out.1 (bel HB5.out HB6.out)).size;have:=HG7.out;omega
     ·unfold BV B7;rw[HWD.out];simp[hk]
    have HNE:Hid (BV c ⟨kk,pp⟩ Y≠[]):=by
     intro e;have:=congrArg List.length e;unfold BV at this;rw[List.length_replicate,HWD.out]at this;simp at this;omega
    have HFE:Hid (F=GG c f D ⟨BV c ⟨kk,pp⟩ Y,0⟩):=by
     have:=HEQ2.out;rw[HAL.out,if_pos hnW,HYE.out]at this;exact this
    go_wp2_with(go_at_call 74;refine(HSt.out w7 _ _ _ _ HBF.out HPF.out HNE.out).mono ?_;rintro e w8 ⟨rfl,hst⟩;have HST:Hid (Ab T E E' a c G P M F w w8):=(by rw[HFE.out];exact hst.pre HBF.out);clear hst)
    go_end0
    exact⟨rfl,HST.out⟩
   ·have en1:¬ ((n:Int)<(Wd:Int)):=oM;clear HFl;go_wp2_with(go_at_call 119;refine(HAP.out _ (B8 _)).mono ?_;rintro e w5 ⟨g,rfl,hg5,hr5,hb5⟩;have HB5:Hid (Below wr.heap.size wr w5):=hb5;have HR5:=A9 hr5;have HG5:Hid (wr.heap.size<=g):=hg5;obtain⟨s0,s1,s2⟩:=HZ.out w5 hb5;clear hb5 hr5 hg5);refine rG (fun v=>v.cell? ⟨FR,0,none⟩=some (.pointer (some ⟨C,0,none⟩))/\v.cell? ⟨w.heap.size,0,none⟩=some (.int .i64 kk)/\v.cell? ⟨w.heap.size,1,none⟩=some (.int .i64 pp)) fun hHeld=>?_;refine Tf 0 1 2 3 4 5 ?_;refine AI 6 ?_;clear hHeld;refine Ao 7 fun K hK=>?_;go_simp;(go_at_call 59;refine(HWd.out _ (bel HBr.out.1 (bel HB5.out (A4 _)))).mono ?_;rintro e w6 ⟨rfl,hb6⟩;have HB6:Hid (Below w5.heap.size w5 w6):=bel (A4 _) hb6;obtain⟨s0,s1,s2⟩:=HZ.out w6 (bel HB5.out HB6.out);clear hb6);try(go_wp2_with fail)
    refine An hK fun hHeld=>?_;clear hK K;refine AI 8 ?_;refine wpAnyH_done kR ?_ _;have s9:w6.cell? ⟨ib,io+1,none⟩=some (.int .i64 (D:Int)):=kc (bel HB5.out HB6.out) t1;have HBF:Hid (Below w.heap.size w w6):=bel HBr.out.1 (bel HB5.out HB6.out);have HPF:Hid (Pt (AB T E E') w6 (.slice (some ⟨g,0,none⟩) n n) (Bt op ARGS)):=by
     refine(Pt.of_row HR5.out (HFR9.out g ?_) HAPL.out.1 HAPL.out.2 n).below HB6.out;have:=HBr.out.1.size;have:=HG5.out;omega
    have HNE:Hid (Bt op ARGS≠[]):=by
     intro e;have h1:=HAPL.out.1;rw[e]at h1;simp at h1;omega
    have HFE:Hid (F=GG c f D ⟨Bt op ARGS,0⟩):=by
     have:=HEQ2.out;rw[HAPL.out.1,if_neg hnW]at this;exact this
    go_wp2_with(go_at_call 74;refine(HSt.out w6 _ _ _ _ HBF.out HPF.out HNE.out).mono ?_;rintro e w8 ⟨rfl,hst⟩;have HST:Hid (Ab T E E' a c G P M F w w8):=(by rw[HFE.out];exact hst.pre HBF.out);clear hst)
    go_end0
    exact⟨rfl,HST.out⟩
theorem NU{T:Nat->Prop}{E E':Nat}{a:BY}{c:Cd}{G P:List (List Int)}{X:Nat->Value}{M:Nat}{m:Nat->Option Value}{f:Fr}(w:World)(x:FX T E E' a c G P w)(h:FV T E E' a c w X M m f)(hg:Good c)(ib io:Nat)(i:Au)(hi:Ea (AB T E E') w ib io i)
 (d0:0<=i.d) (d1:i.d<(c.regs.length:Int)) (a0:0<=i.a) (a1:i.a<(c.regs.length:Int)) (hk:(A8 c.regs i.d).kind=2):
 Calls prog 76 #[.pointer (some ⟨a.FR,0,none⟩),.pointer (some ⟨ib,io,none⟩)] w fun e w'=>e=.returned (.tuple #[])/\Ab T E E' a c G P M (CO c f i) w w':=by
 have HEq:Hid (CO c f i={f with whs:=BK f.whs i.d.toNat (f.whs i.a.toNat)}):=by
  show CO c f i=_;unfold CO;rw[if_pos hk]
 obtain⟨F,hF⟩:∃F,CO c f i=F:=⟨_,rfl⟩
 rw[hF]at HEq ⊢;have q1:=hi.cells.at 1 rfl;have q2:=hi.cells.at 2 rfl;obtain⟨op,D,A,B,Ec,nn,bt⟩:=i;simp only at *;obtain⟨D,rfl⟩:∃j:Nat,D=(j:Int):=⟨D.toNat,oM⟩
 obtain⟨A,rfl⟩:∃j:Nat,A=(j:Int):=⟨A.toNat,oM⟩
 rw[Int.toNat_natCast,Int.toNat_natCast]at HEq;have hD:D<c.regs.length:=oM;have hA:A<c.regs.length:=oM;rw[Bh hD]at hk;have f0:=x.f0;have f3:=x.f3;have c1:=x.code.c1;obtain⟨b1,o1,m1,hv1,r0,r1⟩:=x.code.reg hD;rw[hv1]at c1;rw[hk]at r0;have hN:=hg.regsL;have k1:=h.whs.cell hA;have k2:=h.whs.cell hD;have k3:=h.whs.frozen D;have n1:w.heap.size≠a.FR:=by have:=x.iFR;have:=x.hE';omega
 have n2:w.heap.size≠a.C:=by have:=x.code.ltC;omega
 have n3:w.heap.size≠ib:=by have:=hi.lt;omega
 have n4:w.heap.size≠b1:=by have:=A3 r0;simp at this;omega
 have n5:a.WB≠a.FR:=Ne.symm x.d1.2.1;have n6:a.WB≠ib:=fun e=>hi.not (by rw[←e];exact .inr x.iWB);have HX:Hid (FX T E E' a c G P w):=x;have HV:Hid (FV T E E' a c w X M m f):=h;have HD:Hid (D<c.regs.length):=hD;obtain⟨pp,r2⟩:∃pp,w.cell? ⟨b1,o1+D*2+1,none⟩=some (.int .i64 pp):=⟨_,r1⟩
 clear r1;obtain⟨FR,hFR⟩:∃FR,a.FR=FR:=⟨_,rfl⟩
 obtain⟨WB,hWB⟩:∃WB,a.WB=WB:=⟨_,rfl⟩
 obtain⟨C,hC⟩:∃C,a.C=C:=⟨_,rfl⟩
 obtain⟨N,hN'⟩:∃N,c.regs.length=N:=⟨_,rfl⟩
 obtain⟨y,hy⟩:∃y,f.whs A=y:=⟨_,rfl⟩
 obtain⟨y2,hy2⟩:∃y2,f.whs D=y2:=⟨_,rfl⟩
 rw[hy]at k1 HEq;rw[hy2]at k2;simp only[hFR,hWB,hC,hN']at f0 f3 c1 hN k1 k2 k3 n1 n2 n5 n6 hD hA d1 a1 ⊢;have HWB:Hid (a.WB=WB):=hWB;clear x h hg hi hk hv1 hFR hWB hC hN' hy hy2 hF;go_enter func76,ntmps76;go_wp2;refine rG (fun v=>v.cell? ⟨FR,0,none⟩=some (.pointer (some ⟨C,0,none⟩))/\v.cell? ⟨C,1,none⟩=some (.slice (some ⟨b1,o1,none⟩) N m1)/\v.cell? ⟨ib,io+1,none⟩=some (.int .i64 (D:Int))/\v.cell? ⟨b1,o1+D*2,none⟩=some (.int .i64 2)/\v.cell? ⟨b1,o1+D*2+1,none⟩=some (.int .i64 pp)) fun hHeld=>?_;refine Tf 0 1 2 3 4 5 ?_;refine Tf 6 7 8 9 10 11 ?_;refine AI 12 ?_;clear hHeld;refine Ao 13 fun K hK=>?_;go_simp;refine An hK fun hHeld=>?_;clear hK K;clear hHeld;refine Ao 14 fun K hK=>?_;go_simp;refine An hK fun hHeld=>?_;clear hK K;refine wpAnyH_done kR ?_ _;obtain⟨W1,hW1⟩:∃W1,(w.alloc (.cells #[.int .i64 2,.int .i64 pp] 69)).drew=W1:=⟨_,rfl⟩
 have hb1:Below w.heap.size w W1:=by rw[←hW1];exact bel (A0 _ _) (A4 _)
 have z0:W1.cell? ⟨w.heap.size,0,none⟩=some (.int .i64 2):=by rw[←hW1];simp[go_sem]
 rw[hW1];clear hW1 hHeld;have HB1:Hid (Below w.heap.size w W1):=hb1;have g1:=kc hb1 q1;have g2:=kc hb1 q2;have g3:=kc hb1 f3;have g4:=kc hb1 k1;have g5:=kc hb1 k2;have g6:=kf hb1 k2 k3;clear q1 q2 f0 f3 c1 r0 r2 hb1 k1 k2 k3;go_wp2;refine rG (fun v=>v.cell? ⟨FR,3,none⟩=some (.slice (some ⟨WB,0,none⟩) N N)/\v.cell? ⟨ib,io+1,none⟩=some (.int .i64 (D:Int))/\v.cell? ⟨ib,io+2,none⟩=some (.int .i64 (A:Int))) fun hHeld=>?_;refine Tf 0 1 2 3 4 5 ?_;refine Tf 6 7 8 9 10 11 ?_;refine Tc 12 13 14 ?_;refine Tb 15 16 ?_;clear hHeld;refine Ao 17 fun K hK=>?_;go_simp;refine An hK fun hHeld=>?_;clear hK K;refine AI 18 ?_;clear hHeld;refine Ao 19 fun K hK=>?_;go_simp;refine An hK fun hHeld=>?_;clear hK K;refine wpAnyH_done kR ?_ _;go_wp2;first|go_end0|(simp only[Exit.inBlock,Exit.then];refine bodyPost_ret (results_none rfl _ _ _) rfl ?_)|refine bodyPost_ret (results_none rfl _ _ _) rfl ?_
 have hfin:=(Ab.wh (HX.out.below HB1.out) (HV.out.below HB1.out) HD.out y).pre HB1.out;rw[HWB.out]at hfin;rw[HEq.out];exact⟨rfl,hfin.on (A4 _)⟩
theorem YL{T:Nat->Prop}{E E':Nat}{a:BY}{c:Cd}{G P:List (List Int)}{X:Nat->Value}{M:Nat}{m:Nat->Option Value}{f:Fr}(w:World)(x:FX T E E' a c G P w)(h:FV T E E' a c w X M m f)(hg:Good c)(ok:EC c f)(ib io:Nat)(i:Au)(hi:Ea (AB T E E') w ib io i)
 (hop:Dl i.op=true) (d0:0<=i.d) (d1:i.d<(c.regs.length:Int)) (ha:i.op≠1->0<=i.a/\i.a<(c.regs.length:Int)) (hb:i.op=16->0<=i.b/\i.b<(c.regs.length:Int)):
 Calls prog 45 #[.pointer (some ⟨a.FR,0,none⟩),.pointer (some ⟨ib,io,none⟩)] w fun e w'=>e=.returned (.tuple #[])/\Ab T E E' a c G P M {f with nums:=BK f.nums i.d.toNat (Gm f i)} w w':=by
 have HK:Hid (∀v,Below w.heap.size w v->Calls prog 70 #[.pointer (some ⟨a.FR,0,none⟩),.pointer (some ⟨ib,io,none⟩)] v fun e w'=>e=.returned (.int .u32 (Gm f i))/\Below v.heap.size v w'):=fun v hv=>Oz v (x.below hv) (h.below hv) hg ok ib io i (hi.below hv).cells hop ha hb;obtain⟨y,hy⟩:∃y,Gm f i=y:=⟨_,rfl⟩
 rw[hy]at HK ⊢;have q0:=hi.cells.at 0 rfl;rw[Nat.add_zero]at q0;have q1:=hi.cells.at 1 rfl;have hnot:=hi.not;obtain⟨op,D,A,B,Ec,nn,bt⟩:=i;simp only at *;obtain⟨D,rfl⟩:∃j:Nat,D=(j:Int):=⟨D.toNat,oM⟩
 rw[Int.toNat_natCast];have hD:D<c.regs.length:=oM;have f2:=x.f2;have hN:=hg.regsL;have k2:=h.nums.cell hD;have k3:=h.nums.frozen D;have n5:a.NB≠a.FR:=Ne.symm x.d1.1;have n6:a.NB≠ib:=fun e=>hnot (by rw[←e];exact .inr x.iNB);obtain⟨F,hF⟩:∃F:Fr,({f with nums:=BK f.nums D y}:Fr)=F:=⟨_,rfl⟩
 have HFin:Hid (∀v,Below w.heap.size w v->Ab T E E' a c G P M F w (v.setCell ⟨a.NB,D,none⟩ (.int .u32 y))):=fun v hv=>by rw[←hF];exact(Ab.num (x.below hv) (h.below hv) hD y).pre hv
 rw[hF];obtain⟨FR,hFR⟩:∃FR,a.FR=FR:=⟨_,rfl⟩
 obtain⟨NB,hNB⟩:∃NB,a.NB=NB:=⟨_,rfl⟩
 obtain⟨N,hN'⟩:∃N,c.regs.length=N:=⟨_,rfl⟩
 obtain⟨y2,hy2⟩:∃y2,f.nums D=y2:=⟨_,rfl⟩
 rw[hy2]at k2;simp only[hFR,hNB,hN']at f2 hN k2 k3 n5 n6 hD d1 HK HFin ⊢;clear x h hg hi ok ha hb hy hFR hNB hN' hy2 hF hnot;unfold Dl at hop;simp only[Bool.or_eq_true,beq_iff_eq]at hop;have hop':op=1\/op=16\/op=17\/op=19\/op=20:=oM;clear hop;rcases hop' with rfl|rfl|rfl|rfl|rfl
 all_goals
  go_enter func45,ntmps45;go_wp2;refine rG (fun v=>v.cell? ⟨FR,2,none⟩=some (.slice (some ⟨NB,0,none⟩) N N)/\v.cell? ⟨ib,io+1,none⟩=some (.int .i64 (D:Int))) fun hHeld=>?_;refine Tf 0 1 2 3 4 5 ?_;refine Tc 6 7 8 ?_;refine AI 9 ?_;clear hHeld;refine Ao 10 fun K hK=>?_;go_simp;(go_at_call 70;refine(HK.out _ (A4 _)).mono ?_;rintro e w1 ⟨rfl,hb1⟩;have HB1:=bel (A4 _) hb1;have z1:=kc HB1 f2;have z2:=kc HB1 q1;have z3:=kc HB1 k2;have z4:=kf HB1 k2 k3;clear hb1);exact Zdj
theorem SX{T:Nat->Prop}{E E':Nat}{a:BY}{c:Cd}{G P:List (List Int)}{X:Nat->Value}{M:Nat}{m:Nat->Option Value}{f:Fr}(w:World)(x:FX T E E' a c G P w)(h:FV T E E' a c w X M m f)(hg:Good c)(ok:EC c f)(ib io:Nat)(i:Au)(hi:Ea (AB T E E') w ib io i)
 (hop:Be i.op=true) (d0:0<=i.d) (d1:i.d<(c.regs.length:Int)) (ha:0<=i.a/\i.a<(c.regs.length:Int)) (hb:0<=i.b/\i.b<(c.regs.length:Int)) (hc:0<=i.c/\i.c<(c.regs.length:Int)):
 Calls prog 45 #[.pointer (some ⟨a.FR,0,none⟩),.pointer (some ⟨ib,io,none⟩)] w fun e w'=>e=.returned (.tuple #[])/\Ab T E E' a c G P M {f with whs:=BK f.whs i.d.toNat (DN f i)} w w':=by
 have HK:Hid (∀v,Below w.heap.size w v->Calls prog 71 #[.pointer (some ⟨a.FR,0,none⟩),.pointer (some ⟨ib,io,none⟩)] v fun e w'=>e=.returned (.int .i64 (DN f i))/\Below v.heap.size v w'):=fun v hv=>Sq v (x.below hv) (h.below hv) hg ok ib io i (hi.below hv).cells hop ha hb hc;obtain⟨y,hy⟩:∃y,DN f i=y:=⟨_,rfl⟩
 rw[hy]at HK ⊢;have q0:=hi.cells.at 0 rfl;rw[Nat.add_zero]at q0;have q1:=hi.cells.at 1 rfl;have hnot:=hi.not;obtain⟨op,D,A,B,Ec,nn,bt⟩:=i;simp only at *;obtain⟨D,rfl⟩:∃j:Nat,D=(j:Int):=⟨D.toNat,oM⟩
 rw[Int.toNat_natCast];have hD:D<c.regs.length:=oM;have f3:=x.f3;have hN:=hg.regsL;have k2:=h.whs.cell hD;have k3:=h.whs.frozen D;have n5:a.WB≠a.FR:=Ne.symm x.d1.2.1;have n6:a.WB≠ib:=fun e=>hnot (by rw[←e];exact .inr x.iWB);obtain⟨F,hF⟩:∃F:Fr,({f with whs:=BK f.whs D y}:Fr)=F:=⟨_,rfl⟩
 have HFin:Hid (∀v,Below w.heap.size w v->Ab T E E' a c G P M F w (v.setCell ⟨a.WB,D,none⟩ (.int .i64 y))):=fun v hv=>by rw[←hF];exact(Ab.wh (x.below hv) (h.below hv) hD y).pre hv
 rw[hF];obtain⟨FR,hFR⟩:∃FR,a.FR=FR:=⟨_,rfl⟩
 obtain⟨WB,hWB⟩:∃WB,a.WB=WB:=⟨_,rfl⟩
 obtain⟨N,hN'⟩:∃N,c.regs.length=N:=⟨_,rfl⟩
 obtain⟨y2,hy2⟩:∃y2,f.whs D=y2:=⟨_,rfl⟩
 rw[hy2]at k2;simp only[hFR,hWB,hN']at f3 hN k2 k3 n5 n6 hD d1 HK HFin ⊢;clear x h hg hi ok ha hb hc hy hFR hWB hN' hy2 hF hnot;unfold Be at hop;simp only[Bool.or_eq_true,Bool.and_eq_true,beq_iff_eq,decide_eq_true_eq]at hop;have hop':op=2\/op=18\/op=21\/op=22\/op=23\/op=24\/op=25\/op=26\/op=27\/op=28:=oM;clear hop;rcases hop' with rfl|rfl|rfl|rfl|rfl|rfl|rfl|rfl|rfl|rfl
 all_goals
  go_enter func45,ntmps45;go_wp2;refine rG (fun v=>v.cell? ⟨FR,3,none⟩=some (.slice (some ⟨WB,0,none⟩) N N)/\v.cell? ⟨ib,io+1,none⟩=some (.int .i64 (D:Int))) fun hHeld=>?_;refine Tf 0 1 2 3 4 5 ?_;refine Tc 6 7 8 ?_;refine AI 9 ?_;clear hHeld;refine Ao 10 fun K hK=>?_;go_simp;(go_at_call 71;refine(HK.out _ (A4 _)).mono ?_;rintro e w1 ⟨rfl,hb1⟩;have HB1:=bel (A4 _) hb1;have z1:=kc HB1 f3;have z2:=kc HB1 q1;have z3:=kc HB1 k2;have z4:=kf HB1 k2 k3;clear hb1);exact Zdj
theorem Wr{T:Nat->Prop}{E E':Nat}{a:BY}{c:Cd}{G P:List (List Int)}{X:Nat->Value}{M:Nat}{m:Nat->Option Value}{f:Fr}(w:World)(x:FX T E E' a c G P w)(h:FV T E E' a c w X M m f)(hg:Good c)(ok:EC c f)(hM:M<=1000000)(ib io:Nat)(i:Au)(hi:Ea (AB T E E') w ib io i)
 (hop:i.op=29) (hL:Cg c G) (hp:F7 c i.d i.n):
 Calls prog 45 #[.pointer (some ⟨a.FR,0,none⟩),.pointer (some ⟨ib,io,none⟩)] w fun e w'=>e=.returned (.tuple #[])/\Ab T E E' a c G P M {f with vecs:=BK f.vecs i.d.toNat (AH c G i)} w w':=by
 have HK:Hid (∀v,Below w.heap.size w v->Calls prog 72 #[.pointer (some ⟨a.FR,0,none⟩),a.gv,.pointer (some ⟨ib,io,none⟩)] v fun e w'=>∃g,e=.returned (.slice (some ⟨g,0,none⟩) (AH c G i).length (AH c G i).length)/\v.heap.size<=g/\w'.rowIs g 43 (AH c G i).length (fun j=>.int .u32 (B7 (AH c G i) j))/\Below v.heap.size v w'):=fun v hv=>ME v (x.below hv) hg a.gv G (x.g.below hv) hL ib io i (hi.below hv).cells hp;obtain⟨l,hl⟩:∃l,AH c G i=l:=⟨_,rfl⟩
 rw[hl]at HK ⊢;have q0:=hi.cells.at 0 rfl;rw[Nat.add_zero]at q0;have q1:=hi.cells.at 1 rfl;have d0:=hp.r0;have d1:=hp.r1;obtain⟨op,D,A,B,Ec,nn,bt⟩:=i;simp only at *;subst hop;obtain⟨D,rfl⟩:∃j:Nat,D=(j:Int):=⟨D.toNat,oM⟩
 rw[Int.toNat_natCast];have hD:D<c.regs.length:=oM;have f4:=x.f4;have f5:=x.f5;have hN:=hg.regsL;obtain⟨F,hF⟩:∃F:Fr,({f with vecs:=BK f.vecs D l}:Fr)=F:=⟨_,rfl⟩
 have HFin:Hid (∀v g,Below w.heap.size w v->w.heap.size<=g->v.rowIs g 43 l.length (fun j=>.int .u32 (B7 l j))->∃v2,(Instr.mapUpdate 92 (.map (some a.MB)) (.int .i64 (D:Int)) (.slice (some ⟨g,0,none⟩) l.length l.length)).run prog v=.ok () v2/\Ab T E E' a c G P M F w v2/\(∀b,b<v.heap.size->b≠a.MB->v2.heap[b]? =v.heap[b]?)):=by
  exact Zch
 rw[hF];have n1:a.FR≠a.MB:=x.d1.2.2.1;have n2:ib≠a.MB:=fun e=>hi.not (by rw[e];exact .inr x.iMB);have hlt1:a.FR<w.heap.size:=by have:=x.iFR;have:=x.hE';omega
 have hlt2:=hi.lt;obtain⟨FR,hFR⟩:∃FR,a.FR=FR:=⟨_,rfl⟩
 obtain⟨MB,hMB⟩:∃MB,a.MB=MB:=⟨_,rfl⟩
 obtain⟨gv,hgv⟩:∃gv,a.gv=gv:=⟨_,rfl⟩
 obtain⟨L,hL9⟩:∃L,l.length=L:=⟨_,rfl⟩
 simp only[hFR,hMB,hgv,hL9]at f4 f5 HK HFin n1 n2 hlt1 ⊢;clear x h hg hi ok hp hl hFR hMB hgv hL9 hF hL;go_enter func45,ntmps45;go_wp2;refine rG (fun v=>v.cell? ⟨FR,4,none⟩=some (.map (some MB))/\v.cell? ⟨ib,io+1,none⟩=some (.int .i64 (D:Int))/\v.cell? ⟨FR,5,none⟩=some gv) fun hHeld=>?_;refine Tf 0 1 2 3 4 5 ?_;refine Tf 6 7 8 9 10 11 ?_;refine Tb 12 13 ?_;clear hHeld;refine Ao 14 fun K hK=>?_;go_simp;(go_at_call 72;refine(HK.out _ (A4 _)).mono ?_;rintro e w1 ⟨g,rfl,hg1,hr1,hb1⟩;have HB1:=bel (A4 _) hb1;obtain⟨w2,hrun,hst,hkeep⟩:=HFin.out w1 g HB1 (by simpa using hg1) hr1;have HST:Hid (Ab T E E' a c G P M F w w2):=hst;have z1:=kc HB1 f4;have z2:=kc HB1 q1;have z3:=kc HB1 f5;have y1:w2.cell? ⟨FR,4,none⟩=some (.map (some MB)):=(World.cell?_of_block (hkeep _ ZF n1)).trans z1;have y2:w2.cell? ⟨ib,io+1,none⟩=some (.int .i64 (D:Int)):=(World.cell?_of_block (hkeep _ ZF n2)).trans z2;have y3:w2.cell? ⟨FR,5,none⟩=some gv:=(World.cell?_of_block (hkeep _ ZF n1)).trans z3;clear hb1 hr1 hst hkeep hg1);try(go_wp2_with fail)
 refine An hK fun hHeld=>?_;clear hK K;clear hHeld;refine Ao 15 fun K hK=>?_;go_simp;exact Zcx
theorem SU{T:Nat->Prop}{E E':Nat}{a:BY}{c:Cd}{G P:List (List Int)}{X:Nat->Value}{M:Nat}{m:Nat->Option Value}{f:Fr}(w:World)(x:FX T E E' a c G P w)(h:FV T E E' a c w X M m f)(hg:Good c)(ok:EC c f)(hM:M<=1000000)(ib io:Nat)(i:Au)(hi:Ea (AB T E E') w ib io i)
 (hop:i.op=30) (hL:Cg c P) (hp:F7 c i.d i.n):
 Calls prog 45 #[.pointer (some ⟨a.FR,0,none⟩),.pointer (some ⟨ib,io,none⟩)] w fun e w'=>e=.returned (.tuple #[])/\Ab T E E' a c G P M {f with vecs:=BK f.vecs i.d.toNat (AH c P i)} w w':=by
 have HK:Hid (∀v,Below w.heap.size w v->Calls prog 72 #[.pointer (some ⟨a.FR,0,none⟩),a.pv,.pointer (some ⟨ib,io,none⟩)] v fun e w'=>∃g,e=.returned (.slice (some ⟨g,0,none⟩) (AH c P i).length (AH c P i).length)/\v.heap.size<=g/\w'.rowIs g 43 (AH c P i).length (fun j=>.int .u32 (B7 (AH c P i) j))/\Below v.heap.size v w'):=fun v hv=>ME v (x.below hv) hg a.pv P (x.p.below hv) hL ib io i (hi.below hv).cells hp;obtain⟨l,hl⟩:∃l,AH c P i=l:=⟨_,rfl⟩
 rw[hl]at HK ⊢;have q0:=hi.cells.at 0 rfl;rw[Nat.add_zero]at q0;have q1:=hi.cells.at 1 rfl;have d0:=hp.r0;have d1:=hp.r1;obtain⟨op,D,A,B,Ec,nn,bt⟩:=i;simp only at *;subst hop;obtain⟨D,rfl⟩:∃j:Nat,D=(j:Int):=⟨D.toNat,oM⟩
 rw[Int.toNat_natCast];have hD:D<c.regs.length:=oM;have f4:=x.f4;have f5:=x.f6;have hN:=hg.regsL;obtain⟨F,hF⟩:∃F:Fr,({f with vecs:=BK f.vecs D l}:Fr)=F:=⟨_,rfl⟩
 have HFin:Hid (∀v g,Below w.heap.size w v->w.heap.size<=g->v.rowIs g 43 l.length (fun j=>.int .u32 (B7 l j))->∃v2,(Instr.mapUpdate 92 (.map (some a.MB)) (.int .i64 (D:Int)) (.slice (some ⟨g,0,none⟩) l.length l.length)).run prog v=.ok () v2/\Ab T E E' a c G P M F w v2/\(∀b,b<v.heap.size->b≠a.MB->v2.heap[b]? =v.heap[b]?)):=by
  exact Zch
 rw[hF];have n1:a.FR≠a.MB:=x.d1.2.2.1;have n2:ib≠a.MB:=fun e=>hi.not (by rw[e];exact .inr x.iMB);have hlt1:a.FR<w.heap.size:=by have:=x.iFR;have:=x.hE';omega
 have hlt2:=hi.lt;obtain⟨FR,hFR⟩:∃FR,a.FR=FR:=⟨_,rfl⟩
 obtain⟨MB,hMB⟩:∃MB,a.MB=MB:=⟨_,rfl⟩
 obtain⟨gv,hgv⟩:∃gv,a.pv=gv:=⟨_,rfl⟩
 obtain⟨L,hL9⟩:∃L,l.length=L:=⟨_,rfl⟩
 simp only[hFR,hMB,hgv,hL9]at f4 f5 HK HFin n1 n2 hlt1 ⊢;clear x h hg hi ok hp hl hFR hMB hgv hL9 hF hL;go_enter func45,ntmps45;go_wp2;refine rG (fun v=>v.cell? ⟨FR,4,none⟩=some (.map (some MB))/\v.cell? ⟨ib,io+1,none⟩=some (.int .i64 (D:Int))/\v.cell? ⟨FR,6,none⟩=some gv) fun hHeld=>?_;refine Tf 0 1 2 3 4 5 ?_;refine Tf 6 7 8 9 10 11 ?_;refine Tb 12 13 ?_;clear hHeld;refine Ao 14 fun K hK=>?_;go_simp;(go_at_call 72;refine(HK.out _ (A4 _)).mono ?_;rintro e w1 ⟨g,rfl,hg1,hr1,hb1⟩;have HB1:=bel (A4 _) hb1;obtain⟨w2,hrun,hst,hkeep⟩:=HFin.out w1 g HB1 (by simpa using hg1) hr1;have HST:Hid (Ab T E E' a c G P M F w w2):=hst;have z1:=kc HB1 f4;have z2:=kc HB1 q1;have z3:=kc HB1 f5;have y1:w2.cell? ⟨FR,4,none⟩=some (.map (some MB)):=(World.cell?_of_block (hkeep _ ZF n1)).trans z1;have y2:w2.cell? ⟨ib,io+1,none⟩=some (.int .i64 (D:Int)):=(World.cell?_of_block (hkeep _ ZF n2)).trans z2;have y3:w2.cell? ⟨FR,6,none⟩=some gv:=(World.cell?_of_block (hkeep _ ZF n1)).trans z3;clear hb1 hr1 hst hkeep hg1);try(go_wp2_with fail)
 refine An hK fun hHeld=>?_;clear hK K;clear hHeld;refine Ao 15 fun K hK=>?_;go_simp;exact Zcx
theorem YM{T:Nat->Prop}{E E':Nat}{a:BY}{c:Cd}{G P:List (List Int)}{X:Nat->Value}{M:Nat}{m:Nat->Option Value}{f:Fr}(w:World)(x:FX T E E' a c G P w)(h:FV T E E' a c w X M m f)(hg:Good c)(ok:EC c f)(hM:M<=1000000)(ib io:Nat)(i:Au)(hi:Ea (AB T E E') w ib io i)
 (hop:i.op=31) (hp:F7 c i.a i.n) (hl:(f.vecs i.a.toNat).length=lenOf c (A8 c.regs i.a).par):
 Calls prog 45 #[.pointer (some ⟨a.FR,0,none⟩),.pointer (some ⟨ib,io,none⟩)] w fun e w'=>e=.returned (.tuple #[])/\Ab T E E' a c G P M {f with outs:=Lw f.outs (A8 c.regs i.a).par.toNat (Ah c (A8 c.regs i.a).par) i.n.toNat (f.vecs i.a.toNat)} w w':=by
 have HK:=A9 (Xx w x h hg ok ib io i hi hp hl);obtain⟨F,hF⟩:∃F:Fr,({f with outs:=Lw f.outs (A8 c.regs i.a).par.toNat (Ah c (A8 c.regs i.a).par) i.n.toNat (f.vecs i.a.toNat)}:Fr)=F:=⟨_,rfl⟩
 rw[hF]at HK ⊢;have q0:=hi.cells.at 0 rfl;rw[Nat.add_zero]at q0;rw[hop]at q0;obtain⟨FR,hFR⟩:∃FR,a.FR=FR:=⟨_,rfl⟩
 rw[hFR]at HK ⊢;clear x h hg hi ok hp hl hF hFR hop;go_enter func45,ntmps45;go_wp2_with(go_at_call 73;refine HK.out.mono ?_;rintro e w1 ⟨rfl,hst⟩;have HST:=A9 hst;clear hst)
 go_end0
 exact⟨rfl,HST.out⟩
theorem Ps{T:Nat->Prop}{E E':Nat}{a:BY}{c:Cd}{G P:List (List Int)}{X:Nat->Value}{M:Nat}{m:Nat->Option Value}{f:Fr}(w:World)(x:FX T E E' a c G P w)(h:FV T E E' a c w X M m f)(hg:Good c)(ok:EC c f)(hM:M<=1000000)(ib io:Nat)(i:Au)(hi:Ea (AB T E E') w ib io i)
 (hop:Bg i.op=true) (F:Fr) (HK:Hid (Calls prog 76 #[.pointer (some ⟨a.FR,0,none⟩),.pointer (some ⟨ib,io,none⟩)] w fun e w'=>e=.returned (.tuple #[])/\Ab T E E' a c G P M F w w')):
 Calls prog 45 #[.pointer (some ⟨a.FR,0,none⟩),.pointer (some ⟨ib,io,none⟩)] w fun e w'=>e=.returned (.tuple #[])/\Ab T E E' a c G P M F w w':=by
 have q0:=hi.cells.at 0 rfl;rw[Nat.add_zero]at q0;obtain⟨FR,hFR⟩:∃FR,a.FR=FR:=⟨_,rfl⟩
 rw[hFR]at HK ⊢;unfold Bg at hop;simp only[Bool.and_eq_true,decide_eq_true_eq]at hop;have hop':i.op=3\/i.op=4\/i.op=5\/i.op=6\/i.op=7\/i.op=8\/i.op=9\/i.op=10\/i.op=11\/i.op=12\/i.op=13\/i.op=14\/i.op=15:=oM;clear x h hg hi ok hFR hop;rcases hop' with e|e|e|e|e|e|e|e|e|e|e|e|e
 all_goals
  rw[e]at q0;clear e;go_enter func45,ntmps45;go_wp2_with(go_at_call 76;refine HK.out.mono ?_;rintro e w1 ⟨rfl,hst⟩;have HST:=A9 hst;clear hst)
  go_end0
  exact⟨rfl,HST.out⟩
theorem Wt{T:Nat->Prop}{E E':Nat}{a:BY}{c:Cd}{G P:List (List Int)}{X:Nat->Value}{M:Nat}{m:Nat->Option Value}{f:Fr}(w:World)(x:FX T E E' a c G P w)(h:FV T E E' a c w X M m f)(hg:Good c)(ok:EC c f)(hM:M<=1000000)(ib io:Nat)(i:Au)(hi:Ea (AB T E E') w ib io i)
 (hop:34<=i.op/\i.op<=37):
 Calls prog 45 #[.pointer (some ⟨a.FR,0,none⟩),.pointer (some ⟨ib,io,none⟩)] w fun e w'=>e=.returned (.tuple #[])/\Ab T E E' a c G P M f w w':=by
 have q0:=hi.cells.at 0 rfl;rw[Nat.add_zero]at q0;have HST:Hid (Ab T E E' a c G P M f w w):=Ab.same x h (B8 _);obtain⟨FR,hFR⟩:∃FR,a.FR=FR:=⟨_,rfl⟩
 rw[hFR];have hop':i.op=34\/i.op=35\/i.op=36\/i.op=37:=oM;clear x h hg hi ok hFR hop;rcases hop' with e|e|e|e
 all_goals
  rw[e]at q0;clear e;go_enter func45,ntmps45;go_wp2
  go_end0
  exact⟨rfl,HST.out⟩
theorem Ws{T:Nat->Prop}{E E':Nat}{a:BY}{c:Cd}{G P:List (List Int)}{X:Nat->Value}{M:Nat}{m:Nat->Option Value}{f:Fr}(w:World)(x:FX T E E' a c G P w)(h:FV T E E' a c w X M m f)(hg:Good c)(ok:EC c f)(hM:M<=1000000)(ib io:Nat)(i:Au)(hi:Ea (AB T E E') w ib io i)
 (hop:i.op=32) (d0:0<=i.d) (d1:i.d<(c.regs.length:Int)) (n0:0<=i.n) (n1:i.n<(c.slots.length:Int)) (h1:(A8 c.regs i.d).kind=1->∀hh,f.slots[i.n.toNat]? =some hh->hh.pats≠[]):
 Calls prog 45 #[.pointer (some ⟨a.FR,0,none⟩),.pointer (some ⟨ib,io,none⟩)] w fun e w'=>e=.returned (.tuple #[])/\Ab T E E' a c G P M (GG c f i.d ((f.slots[i.n.toNat]?).getD ⟨[],0⟩)) w w':=by
 have q0:=hi.cells.at 0 rfl;rw[Nat.add_zero]at q0;have q1:=hi.cells.at 1 rfl;have q5:=hi.cells.at 5 rfl;obtain⟨op,D,A,B,Ec,nn,bt⟩:=i;simp only at *;subst hop;obtain⟨D,rfl⟩:∃j:Nat,D=(j:Int):=⟨D.toNat,oM⟩
 obtain⟨n,rfl⟩:∃j:Nat,nn=(j:Int):=⟨nn.toNat,oM⟩
 rw[Int.toNat_natCast]at h1 ⊢;have hD:D<c.regs.length:=oM;have hn:n<c.slots.length:=oM;have hnf:n<f.slots.length:=by rw[h.slotsL];exact hn
 rw[List.getElem?_eq_getElem hnf,Option.getD_some];have hp:=h.slots.pats n hnf;have hw:=h.slots.whole n hnf;have s1:=h.slots.row.cell (i:=2*n) ZG;have s2:=h.slots.row.cell (i:=2*n+1) ZG;rw[hw]at s2;have h1':c.regs[D].kind=1->(f.slots[n]'hnf).pats≠[]:=fun e=>h1 (by rw[Bh hD];exact e) _ (List.getElem?_eq_getElem hnf);obtain⟨q,cap,hq⟩:=hp.len;have HK:Hid (∀v,Below w.heap.size w v->Calls prog 74 #[.pointer (some ⟨a.FR,0,none⟩),.int .i64 (D:Int),.agg #[.slice q (f.slots[n]'hnf).pats.length cap,.int .i64 (f.slots[n]'hnf).whole]] v fun e w'=>e=.returned (.tuple #[])/\Ab T E E' a c G P M (GG c f D (f.slots[n]'hnf)) v w'):=fun v hv=>Qo v (x.below hv) (h.below hv) hg D hD hM q _ cap (f.slots[n]'hnf) (by rw[←hq];exact hp.below hv) h1';rw[hq]at s1;have f1:=x.f1;have hsp:a.sp=some ⟨a.S,0,none⟩:=by
  rcases h.slots.sp with e|e
  ·rw[e]at hnf;exact absurd hnf (Nat.not_lt_zero _)
  ·exact e
 rw[hsp]at f1;rw[Nat.mul_comm 2 n]at s1 s2;have hN:=hg.slotsL;obtain⟨FR,hFR⟩:∃FR,a.FR=FR:=⟨_,rfl⟩
 obtain⟨Sb,hSb⟩:∃Sb,a.S=Sb:=⟨_,rfl⟩
 obtain⟨N,hN'⟩:∃N,c.slots.length=N:=⟨_,rfl⟩
 obtain⟨L,hL⟩:∃L,(f.slots[n]'hnf).pats.length=L:=⟨_,rfl⟩
 obtain⟨wh,hwh⟩:∃wh,(f.slots[n]'hnf).whole=wh:=⟨_,rfl⟩
 obtain⟨F,hF⟩:∃F,GG c f D (f.slots[n]'hnf)=F:=⟨_,rfl⟩
 obtain⟨sc,hsc⟩:∃sc,a.sc=sc:=⟨_,rfl⟩
 have HKP:Hid (∀v,Ab T E E' a c G P M (GG c f D (f.slots[n]'hnf)) w v->v.cell? ⟨a.FR,1,none⟩=some (.slice (some ⟨a.S,0,none⟩) c.slots.length a.sc)/\v.cell? ⟨ib,io+1,none⟩=some (.int .i64 (D:Int))/\v.cell? ⟨ib,io+5,none⟩=some (.int .i64 (n:Int))):=by
  intro v hv;have h1:=hv.1.f1;rw[hsp]at h1;have h2:=hi.un hv.2.2 (fun b _ e=>x.sub b e);exact⟨h1,h2.cells.at 1 rfl,h2.cells.at 5 rfl⟩
 simp only[hFR,hSb,hN',hL,hwh,hF,hsc]at f1 HK s1 s2 hN hn n1 HKP ⊢;clear x h hg hi ok hp hw hq hsp h1 h1' hFR hSb hN' hL hwh hF hsc;go_enter func45,ntmps45;go_wp2;refine rG (fun v=>v.cell? ⟨FR,1,none⟩=some (.slice (some ⟨Sb,0,none⟩) N sc)/\v.cell? ⟨ib,io+1,none⟩=some (.int .i64 (D:Int))/\v.cell? ⟨ib,io+5,none⟩=some (.int .i64 (n:Int))) fun hHeld=>?_;refine Tf 0 1 2 3 4 5 ?_;refine Tf 6 7 8 9 10 11 ?_;refine Tb 12 13 ?_;clear hHeld;refine Ao 14 fun K hK=>?_;go_simp;refine An hK fun hHeld=>?_;clear hK K;clear hHeld;refine Ao 15 fun K hK=>?_;go_simp;(go_at_call 74;refine(HK.out _ (A4 _)).mono ?_;rintro e w1 ⟨rfl,hst⟩;have HST:=A9 (Ab.pre (A4 _) hst);obtain⟨y1,y2,y3⟩:=HKP.out w1 HST.out;clear hst);try(go_wp2_with fail)
 exact Zcx
theorem SW{T:Nat->Prop}{E E':Nat}{a:BY}{c:Cd}{G P:List (List Int)}{X:Nat->Value}{M:Nat}{m:Nat->Option Value}{f:Fr}(w:World)(x:FX T E E' a c G P w)(h:FV T E E' a c w X M m f)(hg:Good c)(ok:EC c f)(hM:M<=1000000)(ib io:Nat)(i:Au)(hi:Ea (AB T E E') w ib io i)
 (hop:i.op=33) (a0:0<=i.a) (a1:i.a<(c.regs.length:Int)) (n0:0<=i.n) (n1:i.n<(c.slots.length:Int)):
 Calls prog 45 #[.pointer (some ⟨a.FR,0,none⟩),.pointer (some ⟨ib,io,none⟩)] w fun e w'=>e=.returned (.tuple #[])/\Ab T E E' a c G P M {f with slots:=f.slots.set i.n.toNat (BG c f i.a)} w w':=by
 have q0:=hi.cells.at 0 rfl;rw[Nat.add_zero]at q0;have q2:=hi.cells.at 2 rfl;have q5:=hi.cells.at 5 rfl;have hnot:=hi.not;obtain⟨op,D,A,B,Ec,nn,bt⟩:=i;simp only at *;subst hop;obtain⟨A,rfl⟩:∃j:Nat,A=(j:Int):=⟨A.toNat,oM⟩
 obtain⟨n,rfl⟩:∃j:Nat,nn=(j:Int):=⟨nn.toNat,oM⟩
 rw[Int.toNat_natCast];have hA:A<c.regs.length:=oM;have hn:n<c.slots.length:=oM;have hnf:n<f.slots.length:=by rw[h.slotsL];exact hn
 have HK:Hid (∀v,Below w.heap.size w v->Calls prog 75 #[.pointer (some ⟨a.FR,0,none⟩),.int .i64 (A:Int)] v fun e w'=>∃u,e=.returned (.agg #[u,.int .i64 (BG c f A).whole])/\Pt (AB T E E') w' u (BG c f A).pats/\Below v.heap.size v w'):=fun v hv=>Rg v (x.below hv) (h.below hv) hg A hA;have s1:=h.slots.row.cell (i:=n*2) ZG;have s2:=h.slots.row.cell (i:=n*2+1) ZG;have s3:=h.slots.row.frozen (n*2);have s4:=h.slots.row.frozen (n*2+1);obtain⟨F,hF⟩:∃F:Fr,({f with slots:=f.slots.set n (BG c f A)}:Fr)=F:=⟨_,rfl⟩
 have HFin:Hid (∀v u,Below w.heap.size w v->Pt (AB T E E') v u (BG c f A).pats->Ab T E E' a c G P M F w ((v.setCell ⟨a.S,n*2,none⟩ u).setCell ⟨a.S,n*2+1,none⟩ (.int .i64 (BG c f A).whole))):=fun v u hv hu=>by rw[←hF];exact(Ab.slot (x.below hv) (h.below hv) hnf hu).pre hv
 rw[hF];have f1:=x.f1;have hsp:a.sp=some ⟨a.S,0,none⟩:=by
  rcases h.slots.sp with e|e
  ·rw[e]at hnf;exact absurd hnf (Nat.not_lt_zero _)
  ·exact e
 rw[hsp]at f1;have hN:=hg.slotsL;have m1:a.S≠a.FR:=by have:=x.ltS;have:=x.iFR;omega
 have m2:a.S≠ib:=fun e=>hnot (by rw[←e];exact .inl x.hS);obtain⟨FR,hFR⟩:∃FR,a.FR=FR:=⟨_,rfl⟩
 obtain⟨Sb,hSb⟩:∃Sb,a.S=Sb:=⟨_,rfl⟩
 obtain⟨N,hN'⟩:∃N,c.slots.length=N:=⟨_,rfl⟩
 obtain⟨sc,hsc⟩:∃sc,a.sc=sc:=⟨_,rfl⟩
 obtain⟨wh,hwh⟩:∃wh,(BG c f A).whole=wh:=⟨_,rfl⟩
 obtain⟨pt,hpt⟩:∃pt,(BG c f A).pats=pt:=⟨_,rfl⟩
 obtain⟨x1,hx1⟩:∃x1,X (n*2)=x1:=⟨_,rfl⟩
 obtain⟨x2,hx2⟩:∃x2,X (n*2+1)=x2:=⟨_,rfl⟩
 rw[hx1]at s1;rw[hx2]at s2;simp only[hFR,hSb,hN',hwh,hpt,hsc]at f1 HK HFin s1 s2 s3 s4 hN hn n1 m1 m2 ⊢;clear x h hg hi ok hsp hFR hSb hN' hwh hpt hF hsc hx1 hx2 hnot;go_enter func45,ntmps45;go_wp2;refine rG (fun v=>v.cell? ⟨FR,1,none⟩=some (.slice (some ⟨Sb,0,none⟩) N sc)/\v.cell? ⟨ib,io+2,none⟩=some (.int .i64 (A:Int))/\v.cell? ⟨ib,io+5,none⟩=some (.int .i64 (n:Int))) fun hHeld=>?_;refine Tf 0 1 2 3 4 5 ?_;refine Tf 6 7 8 9 10 11 ?_;refine AI 12 ?_;clear hHeld;refine Ao 13 fun K hK=>?_;go_simp;(go_at_call 75;refine(HK.out _ (A4 _)).mono ?_;rintro e w1 ⟨u,rfl,hu,hb1⟩;obtain⟨uq,uc,hue⟩:=hu.len;obtain⟨ul,hul⟩:∃ul,pt.length=ul:=⟨_,rfl⟩;rw[hul]at hue;subst hue;have HB1:=bel (A4 _) hb1;have HST:=A9 (HFin.out w1 _ HB1 hu);have z1:=kc HB1 f1;have z2:=kc HB1 q2;have z3:=kc HB1 q5;have z4:=kc HB1 s1;have z5:=kc HB1 s2;have z6:=kf HB1 s1 s3;have z7:=kf HB1 s2 s4;clear hb1 hu hul);try(go_wp2_with fail)
 refine An hK fun hHeld=>?_;clear hK K;refine AI 14 ?_;clear hHeld;refine Ao 15 fun K hK=>?_;go_simp;exact Zcx
def okM(L:Lt):Bool:=decide (L.a=45->L.b=45->L.e=45\/L.e=113)&&(decide (L.a=45->L.b≠45->L.e=45\/L.e=112\/L.e=115)&&decide (L.a≠45->L.e=45\/L.e=105\/L.e=112\/L.e=115))
theorem Xp{p:Prop}[Decidable p]{x y:Lt}(h:okM x=true)(k:okM y=true):okM (if p then x else y)=true:=by
 split
 ·exact h
 ·exact k
theorem Xf(op:Int):okM (ltR op)=true:=by
 unfold ltR
 iterate 19 refine Xp dE ?_
 decide
theorem RT(v0 v1 v2 v3:Value)(c:Cd)(co:B0 c)(hT:Am c=true)(i:Au)(h0:0<=i.bits)(h1:i.bits<4294967296)(hk:As i.op=true)(h2:(i.op==1||i.bits==0)=true)(h3:Cj i.bits=true)(w:World)(hv:Di w v0 v1 v2 v3 c):
 Calls prog 64 #[.agg #[v0,v1,v2,v3],Dk i] w fun e w'=>e=.returned (.bool (DX c i (ltR i.op)))/\Below w.heap.size w w':=by
 have HCAN:Hid (∀w,Calls prog 63 #[.int .u32 i.bits] w fun e w'=>e=.returned (.bool true)/\Below w.heap.size w w'):=by rw[←h3];exact DH i.bits h0 h1
 obtain⟨a,b,cc,d,e,⟨ea,eb,ec,ed,ee⟩,hc⟩:=Qn i.op hk;obtain⟨oa,ob,oc,od,oe,oT⟩:=YZ i.op;have om:=Xf i.op;unfold okM at om;simp only[Bool.and_eq_true,decide_eq_true_eq]at om;obtain⟨m1,m2,m3⟩:=om;have hF:DX c i (ltR i.op)=(Aj c.regs (ltR i.op).a i.d ⟨0,0⟩&&(Aj c.regs (ltR i.op).b i.a (dR c.regs (ltR i.op).a i.d)&&(Aj c.regs (ltR i.op).c i.b (dR c.regs (ltR i.op).a i.d)&&(Aj c.regs (ltR i.op).d i.c (dR c.regs (ltR i.op).a i.d)&&CQ c (ltR i.op).e i.n (tR c.regs (ltR i.op).a (ltR i.op).b i.d i.a))))):=by
  unfold DX;rw[h2,h3,Bool.true_and,Bool.true_and]
 rw[hF];clear hF h3;have ix0:∀w,(Instr.index 9 (.string ⟨#[a,b,cc,d,e]⟩) (.int .i64 0)).run prog w=.ok (.int .u8 (ltR i.op).a) w:=fun w=>by rw[←ea];simp[Instr.index,run_underlying underlying9,asIntOf,go_sem];rfl
 have ix1:∀w,(Instr.index 9 (.string ⟨#[a,b,cc,d,e]⟩) (.int .i64 1)).run prog w=.ok (.int .u8 (ltR i.op).b) w:=fun w=>by rw[←eb];simp[Instr.index,run_underlying underlying9,asIntOf,go_sem];rfl
 have ix2:∀w,(Instr.index 9 (.string ⟨#[a,b,cc,d,e]⟩) (.int .i64 2)).run prog w=.ok (.int .u8 (ltR i.op).c) w:=fun w=>by rw[←ec];simp[Instr.index,run_underlying underlying9,asIntOf,go_sem];rfl
 have ix3:∀w,(Instr.index 9 (.string ⟨#[a,b,cc,d,e]⟩) (.int .i64 3)).run prog w=.ok (.int .u8 (ltR i.op).d) w:=fun w=>by rw[←ed];simp[Instr.index,run_underlying underlying9,asIntOf,go_sem];rfl
 have TG:∀w,(Instr.index 9 (.string ⟨#[a,b,cc,d,e]⟩) (.int .i64 4)).run prog w=.ok (.int .u8 (ltR i.op).e) w:=fun w=>by rw[←ee];simp[Instr.index,run_underlying underlying9,asIntOf,go_sem];rfl
 cases h:(i.op==1)
 ·rw[h,Bool.false_or]at h2;have o2:(i.op != 1)=true:=by simpa using h
  have o4:(i.bits != 0)=false:=by simpa using h2
  by_cases hz:(ltR i.op).a=45
  ·exact XL v0 v1 v2 v3 c co hT i.op i.d i.a i.b i.c i.n i.bits _ _ _ _ _ a b cc d e hc HCAN ix0 ix1 ix2 ix3 TG oa ob oc od oT h o2 h2 o4 hz (m1 hz) (m2 hz) w hv
  ·exact XM v0 v1 v2 v3 c co hT i.op i.d i.a i.b i.c i.n i.bits _ _ _ _ _ a b cc d e hc HCAN ix0 ix1 ix2 ix3 TG oa ob oc od oT h o2 h2 o4 hz (m3 hz) w hv
 ·have o2:(i.op != 1)=false:=by simpa using h
  have e1:i.op=1:=by simpa using h
  have ha:(ltR i.op).a≠45:=by rw[e1];decide
  have he:(ltR i.op).e=45:=by rw[e1];rfl
  exact XN v0 v1 v2 v3 c co hT i.op i.d i.a i.b i.c i.n i.bits _ _ _ _ _ a b cc d e hc HCAN ix0 ix1 ix2 ix3 TG oa ob oc od oT h o2 ha he w hv
def D9(c:Cd)(f:Fr)(r:Nat):Prop:=(A8 c.regs (r:Int)).kind=3->(f.vecs r).length=lenOf c (A8 c.regs (r:Int)).par
theorem DY{rs:List Ty}{l n:Int}{m:Ty}(h:Ac rs l n m=true)(h0:0<rs.length):0<=n/\n<(rs.length:Int):=by
 by_cases hl:l=0
 ·unfold Ac at h;rw[if_pos hl]at h;simp only[beq_iff_eq]at h;omega
 ·exact Ae h hl
theorem B9{rs:List Ty}{l n:Int}{m:Ty}(h:Ac rs l n m=true)(hl:l≠0):B5 l (A8 rs n) m=true:=by
 unfold Ac at h;rw[if_neg hl]at h;simp only[Bool.and_eq_true]at h;exact h.2
theorem Wy{c:Cd}{i:Au}{r:Rw}(h:Bu c i r=true):Bv c i r.n (Aw c.regs i r)=true:=by
 unfold Bu at h;simp only[Bool.and_eq_true]at h;exact h.2.2.2.2
theorem MI{s:Wk}{i:Au}{r:Rw}(h:G3 s i r=true){n:Int}(hn:n∈Al i r):n.toNat∈s.set:=by
 unfold G3 at h;have:=List.all_eq_true.1 h n hn;simpa using this
structure CN(c:Cd)(f:Fr)(i:Au):Prop where
 num:Dl i.op=true->0<=i.d/\i.d<(c.regs.length:Int)/\(i.op≠1->0<=i.a/\i.a<(c.regs.length:Int))/\(i.op=16->0<=i.b/\i.b<(c.regs.length:Int))/\(A8 c.regs i.d).kind=1
 whole:Be i.op=true->0<=i.d/\i.d<(c.regs.length:Int)/\(0<=i.a/\i.a<(c.regs.length:Int))/\(0<=i.b/\i.b<(c.regs.length:Int))/\(0<=i.c/\i.c<(c.regs.length:Int))/\(A8 c.regs i.d).kind=2/\(i.op=2->0<=i.n/\i.n<=2147483647)
 part:i.op=29\/i.op=30->F7 c i.d i.n
 out:i.op=31->F7 c i.a i.n/\(f.vecs i.a.toNat).length=lenOf c (A8 c.regs i.a).par
 load:i.op=32->0<=i.d/\i.d<(c.regs.length:Int)/\0<=i.n/\i.n<(c.slots.length:Int)/\slotT c.slots i.n=A8 c.regs i.d
 store:i.op=33->0<=i.a/\i.a<(c.regs.length:Int)/\0<=i.n/\i.n<(c.slots.length:Int)/\slotT c.slots i.n=A8 c.regs i.a/\D9 c f i.a.toNat
 elem:Bg i.op=true->0<=i.d/\i.d<(c.regs.length:Int)/\(0<=i.a/\i.a<(c.regs.length:Int))/\∀r∈Al i (A6 i.op),0<=r/\r<(c.regs.length:Int)/\D9 c f r.toNat/\(A8 c.regs r=A8 c.regs i.d\/((A8 c.regs r).kind=1/\(A8 c.regs i.d).kind=3))
theorem JS{i:Au}{r:Rw}(h:r.a≠0):i.a∈Al i r:=by unfold Al;simp[h]
theorem Lp{c:Cd}{f:Fr}{s:Wk}{i:Au}(t:AQ c s i=true)(hs:∀r∈s.set,D9 c f r):CN c f i:=by
 obtain⟨_,h2,_,h4⟩:=AY t;have hd:=DV h2;have ha:=D1 h2;have hb:=Fw h2;have hc:=Fx h2;have hn:=Wy h2;have hr:=fun{n:Int} (hn:n∈Al i (A6 i.op))=>hs _ (MI h4 hn);obtain⟨op,D,A,B,Ec,nn,bt⟩:=i;simp only at *;refine⟨fun h=>?_,fun h=>?_,fun h=>?_,fun h=>?_,fun h=>?_,fun h=>?_,fun h=>?_⟩
 ·unfold Dl at h;simp only[Bool.or_eq_true,beq_iff_eq]at h;have hop:op=1\/op=16\/op=17\/op=19\/op=20:=oM;clear h;rcases hop with rfl|rfl|rfl|rfl|rfl
  all_goals
   have d:=Ae hd dE;have dm:=B9 hd dE;have a1:=DY ha oM;have b1:=DY hb oM;exact⟨d.1,d.2,fun _=>a1,fun _=>b1,by simpa[B5,A6]using dm⟩
 ·unfold Be at h;simp only[Bool.or_eq_true,Bool.and_eq_true,beq_iff_eq,decide_eq_true_eq]at h;have hop:op=2\/op=18\/op=21\/op=22\/op=23\/op=24\/op=25\/op=26\/op=27\/op=28:=oM;clear h;rcases hop with rfl|rfl|rfl|rfl|rfl|rfl|rfl|rfl|rfl|rfl
  all_goals
   have d:=Ae hd dE;have dm:=B9 hd dE;have a1:=DY ha oM;have b1:=DY hb oM;have c1:=DY hc oM;refine⟨d.1,d.2,a1,b1,c1,by simpa[B5,A6]using dm,fun e=>?_⟩;simp[Bv,A6,FO,CF]at hn;show 0<=nn/\nn<=2147483647;omega
 ·rcases h with rfl|rfl
  all_goals
   have d:=Ae hd dE;have dm:=B9 hd dE;refine⟨d.1,d.2,by simpa[B5,A6]using dm,?_⟩;simp[Bv,A6,FO,Aw,EY]at hn;first|exact hn.2|(simpa using hn.2)
 ·subst h;have d:=Ae ha dE;have dm:=B9 ha dE;have k3:(A8 c.regs A).kind=3:=by simpa[B5,A6]using dm
  refine⟨⟨d.1,d.2,k3,?_⟩,?_⟩
  ·simp[Bv,A6,FO,Aw,EY]at hn;first|exact hn.2|(simpa using hn.2)
  ·have:=hr (n:=A) (JS (r:=A6 31) dE);have e:((A.toNat:Nat):Int)=A:=oM;unfold D9 at this;rw[e]at this;exact this k3
 ·subst h;have d:=Ae hd dE;simp[Bv,A6,FO,Aw,EY]at hn;have:=C1.1 hn.2.1;exact⟨d.1,d.2,this.1,this.2,hn.2.2⟩
 ·subst h;have d:=Ae ha dE;simp[Bv,A6,FO,Aw,EY]at hn;have:=C1.1 hn.2.1;exact⟨d.1,d.2,this.1,this.2,hn.2.2,hr (n:=A) (JS (r:=A6 33) dE)⟩
 ·unfold Bg at h;simp only[Bool.and_eq_true,decide_eq_true_eq]at h;have hop:op=3\/op=4\/op=5\/op=6\/op=7\/op=8\/op=9\/op=10\/op=11\/op=12\/op=13\/op=14\/op=15:=oM;clear h;rcases hop with rfl|rfl|rfl|rfl|rfl|rfl|rfl|rfl|rfl|rfl|rfl|rfl|rfl
  all_goals
   have d:=Ae hd dE;have a1:=Ae ha dE;refine⟨d.1,d.2,a1,fun r hrr=>⟨?_,?_,hr hrr,?_⟩⟩
   all_goals
    have am:=B9 ha dE;simp[Al,A6]at hrr;first
     |(
      have bm:=B9 hb dE;have b1:=Ae hb dE;have cm:=B9 hc dE;have c1:=Ae hc dE;simp[B5,A6,Aw,EY]at am bm cm
      rcases hrr with rfl|rfl|rfl<;>first|omega|(simpa using am)|(simpa using bm)|(simpa using cm))
     |(
      have bm:=B9 hb dE;have b1:=Ae hb dE;simp[B5,A6,Aw,EY]at am bm
      rcases hrr with rfl|rfl<;>first|omega|(simpa using am)|(simpa using bm))
     |(
      simp[B5,A6,Aw,EY]at am;subst hrr
      first|omega|(simpa using am))
theorem Ok(X:Nat->Int)(n:Nat)(hX:∀i,Ag (X i)):Ag (Dj X n):=Ep I7 ZI hX n
theorem Dc{c:Cd}(hg:Good c){r:Int}(h0:0<=r)(h1:r<(c.regs.length:Int))(h3:(A8 c.regs r).kind=3):1<=lenOf c (A8 c.regs r).par/\Ad c (A8 c.regs r)=lenOf c (A8 c.regs r).par:=by
 obtain⟨r,rfl⟩:∃j:Nat,r=(j:Int):=⟨r.toNat,oM⟩
 have hr:r<c.regs.length:=oM;rw[Bh hr]at h3 ⊢;have hp:=C1.1 (hg.type (List.getElem_mem hr) h3);obtain⟨pp,hpp⟩:∃pp,c.regs[r].par=pp:=⟨_,rfl⟩
 refine⟨?_,by unfold Ad;rw[if_pos h3]⟩;rw[hpp]at hp ⊢;obtain⟨p,rfl⟩:∃j:Nat,pp=(j:Int):=⟨pp.toNat,oM⟩
 obtain⟨_,e2,e3,_⟩:=Ev hg (p:=p) oM;omega
theorem Ua{c:Cd}{f:Fr}(hg:Good c)(ok:EC c f){r:Int}(h0:0<=r)(h1:r<(c.regs.length:Int))(hs:D9 c f r.toNat):Kr c (A8 c.regs r) (BG c f r):=by
 have e:((r.toNat:Nat):Int)=r:=oM;unfold D9 at hs;rw[e]at hs;have hty:(A8 c.regs r).kind=1\/(A8 c.regs r).kind=2\/(A8 c.regs r).kind=3:=by
  obtain⟨r,rfl⟩:∃j:Nat,r=(j:Int):=⟨r.toNat,oM⟩
  have hr:r<c.regs.length:=oM;rw[Bh hr];exact Zff
 unfold BG Kr;rcases hty with h|h|h
 ·rw[if_pos h];refine⟨by unfold Ad;rw[if_neg oM,if_pos h];rfl,fun y hy=>?_,Int.le_refl _,by show(0:Int)<=2147483647;decide⟩;simp at hy;rw[hy];exact ok.nums _
 ·rw[if_neg oM,if_pos h];exact⟨by unfold Ad;rw[if_neg oM,if_neg oM];rfl,fun y hy=>by simp at hy,ok.whs _⟩
 ·rw[if_neg oM,if_neg oM];refine⟨?_,ok.vecs _,Int.le_refl _,by show(0:Int)<=2147483647;decide⟩;rw[(Dc hg h0 h1 h).2];exact hs h
theorem Wc{op:Int}{args:List (List Int)}(h:∀l∈args,∀y∈l,Ag y):∀y∈Bt op args,Ag y:=by
 have hX:∀i j,Ag (xF args i j):=fun i j=>by
  exact Zed
 intro y hy;unfold Bt at hy;split at hy
 ·simp only[List.mem_map]at hy;obtain⟨k,_,rfl⟩:=hy;exact L8 _ _ _ _ (B4 hX _ _ _) (B4 hX _ _ _) (B4 hX _ _ _)
 ·cases hy
theorem Em{c:Cd}{f:Fr}{i:Au}(hg:Good c)(ok:EC c f)(he:Bg i.op=true)(nd:CN c f i)(hk:(A8 c.regs i.d).kind≠2):
 1<=Ad c (A8 c.regs i.d)/\(∀r∈Al i (A6 i.op),0<=r/\r<(c.regs.length:Int)/\((BG c f r).pats.length=1\/(BG c f r).pats.length=Ad c (A8 c.regs i.d))/\∀y∈(BG c f r).pats,Ag y)/\((A8 c.regs i.d).kind=1\/(A8 c.regs i.d).kind=3):=by
 obtain⟨d0,d1,_,hr⟩:=nd.elem he;have hty:(A8 c.regs i.d).kind=1\/(A8 c.regs i.d).kind=3:=by
  obtain⟨r,hrr⟩:∃j:Nat,i.d=(j:Int):=⟨i.d.toNat,oM⟩
  rw[hrr]at hk d1 ⊢;have hr:r<c.regs.length:=oM;rw[Bh hr]at hk ⊢;exact Zff
 refine⟨?_,fun r hm=>?_,hty⟩
 ·rcases hty with h|h
  ·unfold Ad;rw[if_neg oM,if_pos h];exact Nat.le_refl _
  ·rw[(Dc hg d0 d1 h).2];exact(Dc hg d0 d1 h).1
 ·obtain⟨r0,r1,hs,hm2⟩:=hr r hm;have hh:=Ua hg ok r0 r1 hs;refine⟨r0,r1,?_,hh.2.1⟩;rcases hm2 with e|⟨e,_⟩
  ·right;rw[←e];exact hh.1
  ·left;rw[hh.1];unfold Ad;rw[if_neg oM,if_pos e]
theorem EE{c:Cd}{f:Fr}{i:Au}(hg:Good c)(ok:EC c f)(he:Bg i.op=true)(nd:CN c f i)(hk:(A8 c.regs i.d).kind≠2):
 ((Bt i.op (Bf c f i)).length=1\/(Bt i.op (Bf c f i)).length=Ad c (A8 c.regs i.d))/\∀y∈Bt i.op (Bf c f i),Ag y:=by
 obtain⟨h1,h2,_⟩:=Em hg ok he nd hk;have hall:∀l∈Bf c f i,(l.length=1\/l.length=Ad c (A8 c.regs i.d))/\∀y∈l,Ag y:=by
  intro l hl;unfold Bf at hl;simp only[List.mem_map]at hl;obtain⟨r,hr,rfl⟩:=hl;exact(h2 r hr).2.2
 have hne:(Bf c f i).length≠0:=by
  unfold Bf;rw[List.length_map,←(E6 i he).1];exact(E6 i he).2
 obtain⟨n,hn,hn2⟩:=GR (l:=lF (Bf c f i)) h1 ((Bf c f i).length-1) (fun k hk=>by
  unfold lF;rw[DM oM]
  exact(hall _ (List.getElem_mem _)).1)
 exact⟨by rw[(Ku (op:=i.op) hn).1];exact hn2,Wc fun l hl=>(hall l hl).2⟩
theorem Iy{l:List Int}(h:∀y∈l,Ag y):Ag (l.headD 0):=by
 cases l with
 |nil=>exact Gi
 |cons y l=>exact h y sM
theorem Yu{c:Cd}{f:Fr}(ok:EC c f){r:Int}{h:Hd}(hp:∀y∈h.pats,Ag y)(hl:h.pats.length<=4096)(hw:0<=h.whole/\h.whole<=2147483647):EC c (GG c f r h):=by
 unfold GG;split
 ·exact⟨C2 ok.nums (Iy hp),ok.whs,ok.vecs,ok.vecsL,ok.slotsL,ok.slots⟩
 ·split
  ·exact⟨ok.nums,C2 (Q:=fun y:Int=>0<=y/\y<=2147483647) ok.whs hw,ok.vecs,ok.vecsL,ok.slotsL,ok.slots⟩
  ·exact⟨ok.nums,ok.whs,C2 (Q:=fun l:List Int=>∀y∈l,Ag y) ok.vecs hp,C2 (Q:=fun l:List Int=>l.length<=4096) ok.vecsL hl,ok.slotsL,ok.slots⟩
theorem Vu{c:Cd}{f:Fr}{r:Int}(hr:0<=r){h:Hd}(hl:(A8 c.regs r).kind=3->h.pats.length=lenOf c (A8 c.regs r).par){k:Nat}(hk:k≠r.toNat->D9 c f k):D9 c (GG c f r h) k:=by
 intro h3;by_cases e:k=r.toNat
 ·have e2:(k:Int)=r:=oM;rw[e2]at h3 ⊢;unfold GG;rw[if_neg oM,if_neg oM];simp only;rw[e,D3];exact hl h3
 ·have:=hk e h3;unfold GG;split
  ·exact this
  ·split
   ·exact this
   ·simp only;rw[D4 _ _ e];exact this
theorem Ew{op:Int}(h:As op=true):Dl op=true\/Be op=true\/op=29\/op=30\/op=31\/op=32\/op=33\/(34<=op/\op<=37)\/Bg op=true:=by
 unfold As at h;unfold Dl Be Bg;simp only[Bool.and_eq_true,Bool.or_eq_true,decide_eq_true_eq,beq_iff_eq]at h ⊢;omega
theorem T6{op:Int}(h:Bg op=true):Dl op=false/\Be op=false/\op≠29/\op≠30/\op≠31/\op≠32/\op≠33/\¬ (34<=op/\op<=37):=by
 unfold Bg at h;simp only[Bool.and_eq_true,decide_eq_true_eq]at h;exact Zcr
theorem Sr{op:Int}(h:Be op=true):Dl op=false/\op≠29/\op≠30/\op≠31/\op≠32/\op≠33/\¬ (34<=op/\op<=37):=by
 unfold Be at h;simp only[Bool.or_eq_true,Bool.and_eq_true,beq_iff_eq,decide_eq_true_eq]at h;have:op=2\/op=18\/op=21\/op=22\/op=23\/op=24\/op=25\/op=26\/op=27\/op=28:=oM;rcases this with rfl|rfl|rfl|rfl|rfl|rfl|rfl|rfl|rfl|rfl<;>decide
section
variable {c : Cd} {G P : List (List Int)} {f : Fr} {i : Au}
theorem Dr(h:Dl i.op=true):DQ c G P f i={f with nums:=BK f.nums i.d.toNat (Gm f i)}:=by unfold DQ;rw[if_pos h]
theorem Ct(h:Be i.op=true):DQ c G P f i={f with whs:=BK f.whs i.d.toNat (DN f i)}:=by
 unfold DQ;rw[(Sr h).1,if_neg dE,if_pos h]
theorem Eh(h:i.op=29):DQ c G P f i={f with vecs:=BK f.vecs i.d.toNat (AH c G i)}:=by
 unfold DQ;rw[h,if_neg dE,if_neg dE,if_pos rfl]
theorem Ei(h:i.op=30):DQ c G P f i={f with vecs:=BK f.vecs i.d.toNat (AH c P i)}:=by
 unfold DQ;rw[h,if_neg dE,if_neg dE,if_neg dE,if_pos rfl]
theorem Ej(h:i.op=31):DQ c G P f i={f with outs:=Lw f.outs (A8 c.regs i.a).par.toNat (Ah c (A8 c.regs i.a).par) i.n.toNat (f.vecs i.a.toNat)}:=by
 unfold DQ;rw[h,if_neg dE,if_neg dE,if_neg dE,if_neg dE,if_pos rfl]
theorem Ek(h:i.op=32):DQ c G P f i=GG c f i.d ((f.slots[i.n.toNat]?).getD ⟨[],0⟩):=by
 unfold DQ;rw[h,if_neg dE,if_neg dE,if_neg dE,if_neg dE,if_neg dE,if_pos rfl]
theorem El(h:i.op=33):DQ c G P f i={f with slots:=f.slots.set i.n.toNat (BG c f i.a)}:=by
 unfold DQ;rw[h,if_neg dE,if_neg dE,if_neg dE,if_neg dE,if_neg dE,if_neg dE,if_pos rfl]
theorem BP(h:34<=i.op/\i.op<=37):DQ c G P f i=f:=by
 have h0:Dl i.op=false/\Be i.op=false:=by
  have:i.op=34\/i.op=35\/i.op=36\/i.op=37:=oM;rcases this with e|e|e|e<;>rw[e]<;>decide
 unfold DQ;rw[h0.1,h0.2,if_neg dE,if_neg dE,if_neg oM,if_neg oM,if_neg oM,if_neg oM,if_neg oM,if_pos h]
theorem Cp(h:Bg i.op=true):DQ c G P f i=CO c f i:=by
 obtain⟨h1,h2,h3,h4,h5,h6,h7,h8⟩:=T6 h;unfold DQ;rw[h1,h2,if_neg dE,if_neg dE,if_neg h3,if_neg h4,if_neg h5,if_neg h6,if_neg h7,if_neg h8]
end
theorem Xm{f:Fr}{c:Cd}(ok:EC c f){i:Au}(hb:Ag i.bits):Ag (Gm f i):=by
 unfold Gm;refine Bx (Wz _ _ (ok.nums _).1 (ok.nums _).2) (Bx (Te _) (Bx (X6 _ _ (Bw (ok.vecs _))) (Bx (Ok _ _ (Bw (ok.vecs _))) hb)))
theorem Fj(b:Bool):0<=B6 b/\B6 b<=2147483647:=by cases b<;>decide
theorem DD{p:Prop}[Decidable p]{x y:Int}(h:p->0<=x/\x<=2147483647)(k:¬p->0<=y/\y<=2147483647):0<=(if p then x else y)/\(if p then x else y)<=2147483647:=by
 split
 ·rename_i e;exact h e
 ·rename_i e;exact k e
theorem VQ{f:Fr}{c:Cd}(ok:EC c f){i:Au}(hw:Be i.op=true)(hn:i.op=2->0<=i.n/\i.n<=2147483647):0<=DN f i/\DN f i<=2147483647:=by
 have a:=ok.whs i.a.toNat;have b:=ok.whs i.b.toNat;have d:=ok.whs i.c.toNat;unfold Be at hw;simp only[Bool.or_eq_true,Bool.and_eq_true,beq_iff_eq,decide_eq_true_eq]at hw;unfold DN;refine DD (fun _=>Fj _) fun h1=>DD (fun _=>by omega) fun h2=>DD (fun _=>Fj _) fun h3=>DD (fun _=>Fj _) fun h4=>DD (fun _=>Fj _) fun h5=>DD (fun _=>Fj _) fun h6=>DD (fun _=>DD (fun _=>d) fun _=>b) fun h7=>DD (fun _=>by omega) fun h8=>DD (fun _=>DD (fun _=>by decide) fun _=>⟨Int.ediv_nonneg a.1 b.1,?_⟩) fun h9=>hn oM;have:=Int.ediv_le_self (f.whs i.b.toNat) a.1;omega
theorem Yn{c:Cd}{G P:List (List Int)}{f:Fr}{i:Au}(hg:Good c)(ok:EC c f)(hk:As i.op=true)(hb:Ag i.bits)(nd:CN c f i)(fg:Cg c G)(fp:Cg c P):EC c (DQ c G P f i):=by
 have pl:∀L:List (List Int),Cg c L->(∀y∈AH c L i,Ag y)/\(AH c L i).length<=4096:=fun L hL=>by
  refine⟨fun y hy=>?_,by unfold AH;simp only[List.length_map,List.length_range];exact hg.lenOf _⟩;unfold AH at hy;simp only[List.mem_map]at hy;obtain⟨k,_,rfl⟩:=hy;refine CV _ (Bw ?_ _);unfold CA;cases e:L[(A8 c.regs i.d).par.toNat]? with
  |none=>intro y hy;cases hy
  |some l=>exact hL.isP l (List.mem_of_getElem? e)
 rcases Ew hk with h|h|h|h|h|h|h|h|h
 ·rw[Dr h];exact⟨C2 ok.nums (Xm ok hb),ok.whs,ok.vecs,ok.vecsL,ok.slotsL,ok.slots⟩
 ·rw[Ct h];exact⟨ok.nums,C2 (Q:=fun y:Int=>0<=y/\y<=2147483647) ok.whs (VQ ok h (nd.whole h).2.2.2.2.2.2),ok.vecs,ok.vecsL,ok.slotsL,ok.slots⟩
 ·rw[Eh h];exact⟨ok.nums,ok.whs,C2 (Q:=fun l:List Int=>∀y∈l,Ag y) ok.vecs (pl G fg).1,C2 (Q:=fun l:List Int=>l.length<=4096) ok.vecsL (pl G fg).2,ok.slotsL,ok.slots⟩
 ·rw[Ei h];exact⟨ok.nums,ok.whs,C2 (Q:=fun l:List Int=>∀y∈l,Ag y) ok.vecs (pl P fp).1,C2 (Q:=fun l:List Int=>l.length<=4096) ok.vecsL (pl P fp).2,ok.slotsL,ok.slots⟩
 ·rw[Ej h];exact⟨ok.nums,ok.whs,ok.vecs,ok.vecsL,ok.slotsL,ok.slots⟩
 ·rw[Ek h];obtain⟨d0,d1,n0,n1,ht⟩:=nd.load h;have hn:i.n.toNat<c.slots.length:=oM;have hn2:i.n.toNat<f.slots.length:=by rw[ok.slotsL];exact hn
  have hh:=ok.slots i.n.toNat hn hn2;rw[List.getElem?_eq_getElem hn2,Option.getD_some];exact Yu ok hh.2.1 (by rw[hh.1];exact hg.width _) hh.2.2
 ·rw[El h];obtain⟨a0,a1,n0,n1,ht,hs⟩:=nd.store h;have hh:=Ua hg ok a0 a1 hs;refine⟨ok.nums,ok.whs,ok.vecs,ok.vecsL,by simp[ok.slotsL],fun j h1 h2=>?_⟩;simp only[List.getElem_set];split
  ·rename_i e;subst e;have:slotT c.slots i.n=c.slots[i.n.toNat].ty:=by unfold slotT;rw[List.getElem?_eq_getElem h1];rfl
   rw[←this,ht];exact hh
  ·exact ok.slots j h1 (by simpa using h2)
 ·rw[BP h];exact ok
 ·rw[Cp h];obtain⟨d0,d1,a1,_⟩:=nd.elem h;unfold CO;by_cases h2:(A8 c.regs i.d).kind=2
  ·rw[if_pos h2];exact⟨ok.nums,C2 (Q:=fun y:Int=>0<=y/\y<=2147483647) ok.whs (ok.whs _),ok.vecs,ok.vecsL,ok.slotsL,ok.slots⟩
  ·rw[if_neg h2];obtain⟨s1,s2⟩:=EE hg ok h nd h2;have hw:=hg.width (A8 c.regs i.d);refine Yu ok ?_ ?_ ⟨Int.le_refl _,by show(0:Int)<=2147483647;decide⟩
   ·intro y hy;dsimp only at hy;split at hy
    ·unfold BV at hy;rw[List.eq_of_mem_replicate hy];exact CV _ (Iy s2)
    ·exact s2 y hy
   ·dsimp only;split
    ·unfold BV;rw[List.length_replicate];exact hw
    ·omega
theorem SV{c:Cd}{G P:List (List Int)}{f:Fr}{i:Au}(hg:Good c)(ok:EC c f)(hk:As i.op=true)(nd:CN c f i){r:Nat}(hr:((A6 i.op).d=0\/r≠i.d.toNat)->D9 c f r):D9 c (DQ c G P f i) r:=by
 have pl:∀L:List (List Int),(AH c L i).length=lenOf c (A8 c.regs i.d).par:=fun L=>by unfold AH;simp
 have other:∀ (f':Fr),f'.vecs=f.vecs->((A6 i.op).d≠0->(A8 c.regs i.d).kind≠3/\0<=i.d)->D9 c f' r:=fun f' hv hk3 h3=>by
  rw[hv];refine hr ?_ h3;by_cases e:(A6 i.op).d=0
  ·exact .inl e
  ·refine .inr fun e2=>(hk3 e).1 ?_;have:=(hk3 e).2;have e3:(r:Int)=i.d:=oM;rw[e3]at h3;exact h3
 have vec:∀L:List (List Int),0<=i.d->(A6 i.op).d≠0->D9 c {f with vecs:=BK f.vecs i.d.toNat (AH c L i)} r:=fun L h0 hd h3=>by
  by_cases e:r=i.d.toNat
  ·have e3:(r:Int)=i.d:=oM;rw[e3];show(BK f.vecs i.d.toNat (AH c L i) r).length=_;rw[e,D3,pl]
  ·show(BK f.vecs i.d.toNat (AH c L i) r).length=_;rw[D4 _ _ e];exact hr (.inr e) h3
 rcases Ew hk with h|h|h|h|h|h|h|h|h
 ·rw[Dr h];exact other _ rfl fun _=>⟨by rw[(nd.num h).2.2.2.2];decide,(nd.num h).1⟩
 ·rw[Ct h];exact other _ rfl fun _=>⟨by rw[(nd.whole h).2.2.2.2.2.1];decide,(nd.whole h).1⟩
 ·rw[Eh h];exact vec G (nd.part (.inl h)).r0 (by rw[h];decide)
 ·rw[Ei h];exact vec P (nd.part (.inr h)).r0 (by rw[h];decide)
 ·rw[Ej h];exact other _ rfl fun e=>absurd (by rw[h];decide) e
 ·rw[Ek h];obtain⟨d0,d1,n0,n1,ht⟩:=nd.load h;have hn:i.n.toNat<c.slots.length:=oM;have hn2:i.n.toNat<f.slots.length:=by rw[ok.slotsL];exact hn
  have hh:=ok.slots i.n.toNat hn hn2;rw[List.getElem?_eq_getElem hn2,Option.getD_some];refine Vu d0 (fun h3=>?_) fun e=>hr (.inr e);have:slotT c.slots i.n=c.slots[i.n.toNat].ty:=by unfold slotT;rw[List.getElem?_eq_getElem hn];rfl
  rw[hh.1,←this,ht];exact(Dc hg d0 d1 h3).2
 ·rw[El h];exact other _ rfl fun e=>absurd (by rw[h];decide) e
 ·rw[BP h];refine hr (.inl ?_);have:i.op=34\/i.op=35\/i.op=36\/i.op=37:=oM;rcases this with e|e|e|e<;>rw[e]<;>decide
 ·rw[Cp h];obtain⟨d0,d1,a1,_⟩:=nd.elem h;unfold CO;by_cases h2:(A8 c.regs i.d).kind=2
  ·rw[if_pos h2];exact other _ rfl fun _=>⟨by rw[h2];decide,d0⟩
  ·rw[if_neg h2];obtain⟨s1,s2⟩:=EE hg ok h nd h2;refine Vu d0 (fun h3=>?_) fun e=>hr (.inr e);have hw:=(Dc hg d0 d1 h3)
   dsimp only;rw[hw.2]at s1 ⊢;split
   ·unfold BV;rw[List.length_replicate];exact hw.2
   ·omega
end Go.Proofs.YtbinohkcolcbfaaGreat
