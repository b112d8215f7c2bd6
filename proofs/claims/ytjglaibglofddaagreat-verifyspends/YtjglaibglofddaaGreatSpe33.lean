import Derived.Test.YtjglaibglofddaaGreatSpe1
import Derived.Test.YtjglaibglofddaaGreatSpe31
import Derived.Deep.CutBlock
import Derived.Deep.DeepCutAuto
import Derived.Test.YtjglaibglofddaaGreatSpe21
namespace Go.Proofs.YtjglaibglofddaaGreat
open Go.RowKit Go.Proofs.Tryz
set_option linter.all false
set_option maxRecDepth 100000
set_option maxHeartbeats 16000000
theorem PC{T:Nat->Prop}{w:World}{a0 a1 a2 a3 a4:Value}{FB:Nat}{pr p5 p6:Option Addr}{n1 qr n2 q5 no q6:Nat}{gv pv:Value}{ct:Int}{X S O:List Cl}{v:World}{c:Cd}{l:List Hd}{pu:Option Addr}{n0 qu:Nat}{L:List (List Int)}{u0 u1 u2 u3 u4:Value}{d0 d1 d2 d3:Value}(h:L3 T w a0 a1 a2 a3 a4 FB pr p5 p6 n1 qr n2 q5 no q6 gv pv ct X S O v){NB:Nat}(hNB:w.heap.size+1+1<NB)(hv:Fe (fun b=>b<NB) v (.slice pu n0 qu) L)(hs:S.map (·.h)=l)(ho:J6 c l):
 ∃p5' q5' pu' qu' S',Ending.returned (.tuple #[.agg #[d0,d1,d2,d3,.slice p5 n2 q5],.slice pu n0 qu,.int .i64 0,.int .i64 ct])=.returned (.tuple #[.agg #[d0,d1,d2,d3,.slice p5' n2 q5'],.slice pu' n0 qu',.int .i64 0,.int .i64 ct])/\S'.map (·.h)=l/\AI T (((((v.setCell ⟨w.heap.size+1,0,none⟩ u0).setCell ⟨w.heap.size+1,1,none⟩ u1).setCell ⟨w.heap.size+1,2,none⟩ u2).setCell ⟨w.heap.size+1,3,none⟩ u3).setCell ⟨w.heap.size+1,4,none⟩ u4) (.slice p5' n2 q5') S'/\Fe (fun b=>b<w.heap.size) (((((v.setCell ⟨w.heap.size+1,0,none⟩ u0).setCell ⟨w.heap.size+1,1,none⟩ u1).setCell ⟨w.heap.size+1,2,none⟩ u2).setCell ⟨w.heap.size+1,3,none⟩ u3).setCell ⟨w.heap.size+1,4,none⟩ u4) (.slice pu' n0 qu') L/\J6 c l/\Below w.heap.size w (((((v.setCell ⟨w.heap.size+1,0,none⟩ u0).setCell ⟨w.heap.size+1,1,none⟩ u1).setCell ⟨w.heap.size+1,2,none⟩ u2).setCell ⟨w.heap.size+1,3,none⟩ u3).setCell ⟨w.heap.size+1,4,none⟩ u4):=by
 have hu:Un (fun b=>b=w.heap.size+1) v (((((v.setCell ⟨w.heap.size+1,0,none⟩ u0).setCell ⟨w.heap.size+1,1,none⟩ u1).setCell ⟨w.heap.size+1,2,none⟩ u2).setCell ⟨w.heap.size+1,3,none⟩ u3).setCell ⟨w.heap.size+1,4,none⟩ u4):=(((((Un.refl _ _).setCell rF _).setCell rF _).setCell rF _).setCell rF _).setCell rF _;refine⟨p5,q5,pu,qu,S,rfl,hs,(h.cs.un hu fun b _ e=>.inr (.inl ⟨oM,oM⟩)).mono fun b _ e=>.inl e,?_,ho,?_⟩
 .exact(hv.un hu fun b _ e=>by omega).mono fun b _ e=>by omega
 .exact((((h.sp.b.bel.setCell J9 _).setCell J9 _).setCell J9 _).setCell J9 _).setCell J9 _
theorem Un.step{U:Nat->Prop}{a b d:World}(h:Un U a b)(k:Below a.heap.size b d):Un U a d:=⟨k.os.trans h.os,k.tape.trans h.tape,k.output.trans h.output,gH h.size k.size,fun x hx hu=>(k.block x hx).trans (h.block x hx hu)⟩
theorem T6{T:Nat->Prop}{E:Nat}{v:World}{sv:Value}{Y:List Cl}(h:H2 E v sv Y)(hT:∀b,T b->b<E)(hl:∀x∈Y,∀b o s,x.p=some ⟨b,o,s⟩->x.h.pats≠[]->¬T b):AI T v sv Y:=by
 refine⟨FJ FA h.own hT,fun x hx=>?_⟩;exact YN
theorem Aw{v:World}{a:Addr}{x:Value}{B:Nat}(h:v.cell? a=some x)(hne:¬a.block=B):∀u0 u1 u2 u3 u4,(((((v.setCell ⟨B,0,none⟩ u0).setCell ⟨B,1,none⟩ u1).setCell ⟨B,2,none⟩ u2).setCell ⟨B,3,none⟩ u3).setCell ⟨B,4,none⟩ u4).cell? a=some x:=fun u0 u1 u2 u3 u4=>Av (Av (Av (Av (Av h hne u0) hne u1) hne u2) hne u3) hne u4
theorem Ae{v:World}{a:Addr}{x:Value}{B i:Nat}(h:v.cell? a=some x)(hne:¬a.block=B):∀u,(v.setCell ⟨B,i,none⟩ u).cell? a=some x:=fun u=>Av h hne u
theorem KQ{T:Nat->Prop}(p0 p1 p2 p3 ps pg pp:Option Addr)(q0 q1 q2 q3 qs qg qp:Nat)(c:Cd)(hc:(Ag c).1=0)(hk:AZ c)(l:List Hd)(hso:J6 c l)(S0:List Cl)(hS0:S0.map (·.h)=l)(G P:List (List Int))(kG:GJ G)(kP:GJ P)(hf:Fg c G P=true)(w:World)(hT:∀b,T b->b<w.heap.size)
 (hv:Cy w (.slice p0 c.sign.length q0) (.slice p1 c.regs.length q1) (.slice p2 c.slots.length q2) (.slice p3 c.list.length q3) c) (hss:AI T w (.slice ps c.slots.length qs) S0) (hgv:JM w (.slice pg G.length qg) G) (hpv:JM w (.slice pp P.length qp) P):
 Calls prog 8 #[.agg #[.slice p0 c.sign.length q0,.slice p1 c.regs.length q1,.slice p2 c.slots.length q2,.slice p3 c.list.length q3,.slice ps c.slots.length qs],.slice pg G.length qg,.slice pp P.length qp] w fun e w'=>∃p5 q5 pu qu S',e=.returned (.tuple #[.agg #[.slice p0 c.sign.length q0,.slice p1 c.regs.length q1,.slice p2 c.slots.length q2,.slice p3 c.list.length q3,.slice p5 c.slots.length q5],.slice pu c.sign.length qu,.int .i64 0,.int .i64 (WM c l G P)])/\S'.map (·.h)=(M1 c l G P).slots/\AI T w' (.slice p5 c.slots.length q5) S'/\Fe (fun b=>b<w.heap.size) w' (.slice pu c.sign.length qu) (MV c (M1 c l G P))/\J6 c (M1 c l G P).slots/\Below w.heap.size w w':=by
 obtain⟨hg,htk⟩:=GR hc;have HC:=B8 hc;have hfG:Bq c.sign (G.map (·.length))=true:=by unfold Fg at hf;simp only[Bool.and_eq_true]at hf;exact hf.1
 have hfP:Bq c.sign (P.map (·.length))=true:=by unfold Fg at hf;simp only[Bool.and_eq_true]at hf;exact hf.2
 have fg:DN c G:=Ni hfG kG hg;have fp:DN c P:=Ni hfP kP hg;have KF1:Hid (∀v,Below w.heap.size w v->Calls prog 17 #[.slice p0 c.sign.length q0,.slice pg G.length qg] v fun e w'=>e=.returned (.bool true)/\Below v.heap.size v w'):=fun v hb=>by have h1:=Ds (.slice p0 c.sign.length q0) c.sign hg.signL hk.names (.slice pg G.length qg) G kG.len kG.lens v (hv.sign.below hb) (hgv.below hb);rw[hfG]at h1;exact h1
 have KF2:Hid (∀v,Below w.heap.size w v->Calls prog 17 #[.slice p0 c.sign.length q0,.slice pp P.length qp] v fun e w'=>e=.returned (.bool true)/\Below v.heap.size v w'):=fun v hb=>by have h1:=Ds (.slice p0 c.sign.length q0) c.sign hg.signL hk.names (.slice pp P.length qp) P kP.len kP.lens v (hv.sign.below hb) (hpv.below hb);rw[hfP]at h1;exact h1
 have HKF:Hid (∀s∈c.slots,∀v,Below w.heap.size w v->Calls prog 16 #[.agg #[.slice p0 c.sign.length q0,.slice p1 c.regs.length q1,.slice p2 c.slots.length q2,.slice p3 c.list.length q3],.agg #[.int .i64 s.ty.kind,.int .i64 s.ty.par,.bool s.keep,.int .u32 s.bits,.int .i64 s.int_]] v fun e w'=>∃p q,e=.returned (.agg #[.slice p (AU c s).pats.length q,.int .i64 (AU c s).whole])/\Bp w' p (AU c s).pats/\Below v.heap.size v w'/\∀b o s,p=some ⟨b,o,s⟩->v.heap.size<=b):=fun s hs v hb=>I1 _ _ _ _ c hg s (hg.slots s hs) ⟨(hk.sbits s hs).1,(hk.sbits s hs).2⟩ v (hv.below hb);have HH:Hid (Good c/\Ca c ⟨[],[]⟩ c.list=true/\AZ c/\J6 c l/\S0.map (·.h)=l/\DN c G/\DN c P/\(∀b,T b->b<w.heap.size)):=⟨hg,htk,hk,hso,hS0,fg,fp,hT⟩
 have HV:Hid (Cy w (.slice p0 c.sign.length q0) (.slice p1 c.regs.length q1) (.slice p2 c.slots.length q2) (.slice p3 c.list.length q3) c/\AI T w (.slice ps c.slots.length qs) S0/\JM w (.slice pg G.length qg) G/\JM w (.slice pp P.length qp) P):=⟨hv,hss,hgv,hpv⟩
 have b0:=hg.signL;have b1:=hg.regsL;have b2:=hg.slotsL;have b3:=hg.listL;obtain⟨n0,hn0⟩:∃n,c.sign.length=n:=⟨_,rfl⟩
 obtain⟨n1,hn1⟩:∃n,c.regs.length=n:=⟨_,rfl⟩
 obtain⟨n2,hn2⟩:∃n,c.slots.length=n:=⟨_,rfl⟩
 obtain⟨n3,hn3⟩:∃n,c.list.length=n:=⟨_,rfl⟩
 obtain⟨gl,hgl⟩:∃n,G.length=n:=⟨_,rfl⟩
 obtain⟨pl,hpl⟩:∃n,P.length=n:=⟨_,rfl⟩
 have HN:Hid (c.sign.length=n0/\c.regs.length=n1/\c.slots.length=n2/\c.list.length=n3/\G.length=gl/\P.length=pl):=⟨hn0,hn1,hn2,hn3,hgl,hpl⟩
 rw[hn0,hgl]at KF1;rw[hn0,hpl]at KF2;rw[hn0,hn1,hn2,hn3]at HKF;rw[hn0]at b0;rw[hn1]at b1;rw[hn2]at b2;rw[hn3]at b3;rw[hn0,hn1,hn2,hn3,hgl,hpl];have HSB0:Hid (SB w (.slice p0 n0 q0) (.slice p1 n1 q1) (.slice p2 n2 q2) (.slice p3 n3 q3) (.slice ps n2 qs) _):=SB.start w (.slice p0 n0 q0) (.slice p1 n1 q1) (.slice p2 n2 q2) (.slice p3 n3 q3) (.slice ps n2 qs);clear hc hk hso hS0 kG kP hf hT hv hss hgv hpv hg htk hfG hfP fg fp hn0 hn1 hn2 hn3 hgl hpl;go_enter func8,ntmps8;go_upto_region 2 with fail;obtain⟨W0,hW0⟩:∃W,(((w.alloc (.cells #[.slice p0 n0 q0,.slice p1 n1 q1,.slice p2 n2 q2,.slice p3 n3 q3,.slice ps n2 qs] 36)).alloc (.cells #[.slice none 0 0,.slice none 0 0,.slice none 0 0,.slice none 0 0,.slice none 0 0] 36)).alloc (.cells #[.slice p0 n0 q0,.slice p1 n1 q1,.slice p2 n2 q2,.slice p3 n3 q3] 27))=W:=⟨_,rfl⟩
 rw[hW0]at HSB0;rw[hW0];clear hW0;have c0:W0.cell? ⟨w.heap.size+1+1,0,none⟩=some (.slice p0 n0 q0):=HSB0.c.cell (i:=0) dE;go_upto_region 4 with(first
  |(go_at_call 17;(with_reducible refine(KF1.out _ HSB0.out.bel).mono ?_);rintro e w1 ⟨rfl,hb1⟩;have HSB1:Hid (SB w (.slice p0 n0 q0) (.slice p1 n1 q1) (.slice p2 n2 q2) (.slice p3 n3 q3) (.slice ps n2 qs) w1):=HSB0.out.next hb1;clear hb1 c0;have c0:w1.cell? ⟨w.heap.size+1+1,0,none⟩=some (.slice p0 n0 q0):=HSB1.out.c.cell (i:=0) dE)
  |(go_at_call 17;(with_reducible refine(KF2.out _ HSB1.out.bel).mono ?_);rintro e w2 ⟨rfl,hb2⟩;have HSB2:Hid (SB w (.slice p0 n0 q0) (.slice p1 n1 q1) (.slice p2 n2 q2) (.slice p3 n3 q3) (.slice ps n2 qs) w2):=HSB1.out.next hb2;clear hb2 c0))
 clear HSB0 HSB1 KF1 KF2;go_cut [11] (fun fv wx=>∃FB RB,fv=.pointer (some ⟨FB,0,none⟩)/\Hid (H4 w (.slice p0 n0 q0) (.slice p1 n1 q1) (.slice p2 n2 q2) (.slice p3 n3 q3) (.slice ps n2 qs) FB (C6 (.slice p0 n0 q0) (.slice p1 n1 q1) (.slice p2 n2 q2) (.slice p3 n3 q3) (.slice (some ⟨RB,0,none⟩) n1 n1) (.slice none 0 0) (.slice none 0 0) (.slice pg gl qg) (.slice pp pl qp) (.int .i64 0)) wx)/\Hid (AI (T4 w T FB) wx (.slice (some ⟨RB,0,none⟩) n1 n1) (Og n1)))
 case first=>
  have c0:w2.cell? ⟨w.heap.size+1+1,0,none⟩=some (.slice p0 n0 q0):=HSB2.c.cell (i:=0) dE;have c1:w2.cell? ⟨w.heap.size+1+1,1,none⟩=some (.slice p1 n1 q1):=HSB2.c.cell (i:=1) dE;have c2:w2.cell? ⟨w.heap.size+1+1,2,none⟩=some (.slice p2 n2 q2):=HSB2.c.cell (i:=2) dE;have c3:w2.cell? ⟨w.heap.size+1+1,3,none⟩=some (.slice p3 n3 q3):=HSB2.c.cell (i:=3) dE;have hmk:=fun v=>OT n1 b1 v;have d0:=fun o=>kc (A0 w2 o) c0;have d1:=fun o=>kc (A0 w2 o) c1;have d2:=fun o=>kc (A0 w2 o) c2;have d3:=fun o=>kc (A0 w2 o) c3;have e0:=fun o o'=>kc (A0 (w2.alloc o) o') (d0 o);have e1:=fun o o'=>kc (A0 (w2.alloc o) o') (d1 o);have e2:=fun o o'=>kc (A0 (w2.alloc o) o') (d2 o);have e3:=fun o o'=>kc (A0 (w2.alloc o) o') (d3 o);have hz2:=HSB2.size;refine rG (fun v=>v.cell? ⟨w.heap.size+1+1,0,none⟩=some (.slice p0 n0 q0)/\v.cell? ⟨w.heap.size+1+1,1,none⟩=some (.slice p1 n1 q1)/\v.cell? ⟨w.heap.size+1+1,2,none⟩=some (.slice p2 n2 q2)/\v.cell? ⟨w.heap.size+1+1,3,none⟩=some (.slice p3 n3 q3)) fun hJ=>?_;refine Tf 0 1 2 3 5 6 ?_;clear hJ;refine wpAnyH_ready (rs:=[4,8]) kR sM ?_;refine IY 4 (fun K hK=>?_) ?_
  .go_simp;refine AB hK fun hJ=>?_;clear hK K;refine Bm 7 ?_;clear hJ;refine AC 8 fun K hK=>?_;go_simp;refine AB hK fun hJ=>?_;clear hK K;exact Yt
  refine IY 8 (fun K hK=>?_) AllReadyH.nil;go_simp;refine AB hK fun hJ=>?_;clear hK K;clear hJ;refine AC 4 fun K hK=>?_;go_simp;refine AB hK fun hJ=>?_;clear hK K;refine Bm 7 ?_;exact Yt
 case rest=>
  obtain⟨FB,RB,rfl,HSP,HCS⟩:=hcut;clear HSB2;have hFE:FB<wc.heap.size:=HSP.f.lt;have hF2:=HSP.hF;have c2:wc.cell? ⟨w.heap.size+1+1,2,none⟩=some (.slice p2 n2 q2):=HSP.b.c.cell (i:=2) dE;go_wp2
  go_loopw [12] (fun iv wr=>∃ (j:Nat) (p5:Option Addr) (q5:Nat) (Y:List Cl),j<=n2/\iv=.int .i64 (j:Int)/\Hid (L1 T w (.slice p0 n0 q0) (.slice p1 n1 q1) (.slice p2 n2 q2) (.slice p3 n3 q3) (.slice ps n2 qs) FB wc.heap.size (C6 (.slice p0 n0 q0) (.slice p1 n1 q1) (.slice p2 n2 q2) (.slice p3 n3 q3) (.slice (some ⟨RB,0,none⟩) n1 n1) (.slice p5 j q5) (.slice none 0 0) (.slice pg gl qg) (.slice pp pl qp) (.int .i64 0)) wr (.slice p5 j q5) Y)/\Hid (Un (fun b=>b=FB) wc wr)/\Hid (Y.map (·.h)=(LJ c l).take j)) (fun iv _=>n2-(intOf iv).toNat)
  case atStart=>exact⟨0,none,0,[],gI _,rfl,⟨HSP.out,gF _,H2.nil _ _,fun x hx=>by cases hx⟩,Un.refl _ _,rfl⟩
  case round=>
   clear c2;obtain⟨j,p5,q5,Y,hj,rfl,hl1,hun,hmap⟩:=hrel;have c2:wr.cell? ⟨w.heap.size+1+1,2,none⟩=some (.slice p2 n2 q2):=hl1.sp.b.c.cell (i:=2) dE;have hYl:Y.length=j:=by
    have h5:=congrArg List.length hmap.out;rw[List.length_map,List.length_take,EQ HH.2.2.2.1.len,HN.2.2.1]at h5;omega
   have HYL:Hid (Y.length=j):=hYl;clear hYl;by_cases hlt:j<n2
   .have hll:j<c.slots.length:=by rw[HN.2.2.1];exact hlt
    have hb:=hl1.sp.b.bel;have HBW:Hid (Below w.heap.size w wr):=hb;obtain⟨lb,lo,hp2,hx⟩:=HV.1.slots.at hll;have hsl:j<S0.length:=by have h5:=congrArg List.length HH.2.2.2.2.1;rw[List.length_map,HH.2.2.2.1.len]at h5;omega
    obtain⟨rb,ro,hps,hxr⟩:=HV.2.1.row.row.at hsl;have hnx:=HV.2.1.nums _ (gD hsl);have KF1:=HKF.out c.slots[j] (gD hll);have hat:=LK HH.2.2.2.1.len hll (by rw[EQ HH.2.2.2.1.len];exact hll);have hSj:(S0[j]).h=l[j]'(by rw[HH.2.2.2.1.len];exact hll):=by
     have h5:(S0.map (·.h))[j]? =some (S0[j]).h:=by rw[List.getElem?_map,gB hsl];rfl
     rw[HH.2.2.2.2.1,gB (by rw[HH.2.2.2.1.len];exact hll)]at h5;simp only[Option.some.injEq]at h5;exact h5.symm
    have HMN:Hid (∀h',h'=(if c.slots[j].keep then(S0[j]).h else AU c c.slots[j])->(Y.map (·.h))++[h']=(LJ c l).take (j+1)):=fun h' e=>by
     rw[hmap.out,List.take_succ_eq_append_getElem (by rw[EQ HH.2.2.2.1.len];exact hll),hat,e,hSj]
    obtain⟨xs,hxs⟩:∃x,S0[j]=x:=⟨_,rfl⟩
    rw[hxs]at hxr hnx HMN;obtain⟨s9,hs9⟩:∃s,c.slots[j]=s:=⟨_,rfl⟩
    rw[hs9]at hx KF1 HMN;obtain⟨H9,hH9⟩:∃h,AU c s9=h:=⟨_,rfl⟩
    rw[hH9]at KF1 HMN;obtain⟨⟨tk,tp⟩,kp,sb,si⟩:=s9;simp only at KF1 HMN;rw[hp2]at c2 KF1;have y0:wr.cell? ⟨lb,lo+j*5,none⟩=some (.int .i64 tk):=kc hb (hx.at 0 rfl);have y1:wr.cell? ⟨lb,lo+j*5+1,none⟩=some (.int .i64 tp):=kc hb (hx.at 1 rfl);have y2:wr.cell? ⟨lb,lo+j*5+2,none⟩=some (.bool kp):=kc hb (hx.at 2 rfl);have y3:wr.cell? ⟨lb,lo+j*5+3,none⟩=some (.int .u32 sb):=kc hb (hx.at 3 rfl);have y4:wr.cell? ⟨lb,lo+j*5+4,none⟩=some (.int .i64 si):=kc hb (hx.at 4 rfl);have x0:wr.cell? ⟨rb,ro+j*2,none⟩=some (.slice xs.p xs.h.pats.length xs.q):=kc hb (hxr.at 0 rfl);have x1:wr.cell? ⟨rb,ro+j*2+1,none⟩=some (.int .i64 xs.h.whole):=kc hb (hxr.at 1 rfl);have HXL:Hid (lb<w.heap.size/\rb<w.heap.size):=⟨A3 (hx.at 0 (v:=.int .i64 tk) rfl),A3 (hxr.at 0 (v:=.slice xs.p xs.h.pats.length xs.q) rfl)⟩
    have r4:wr.cell? ⟨w.heap.size,4,none⟩=some (.slice ps n2 qs):=hl1.sp.b.r.cell (i:=4) dE;rw[hps]at r4;have f5:wr.cell? ⟨FB,5,none⟩=some (.slice p5 j q5):=hl1.sp.f.cell (i:=5) dE;have HKF1:Hid _:=KF1;have HXW:Hid (AJ T w xs.p xs.h.pats):=hnx;have i1:(0:Int)<=(j:Int):=oM;have i2:(j:Int)<(n2:Int):=oM;have wi:IntKind.i64.wrap ((j:Int)+1)=((j+1:Nat):Int):=by rw[IntKind.wrap_i64];omega
    clear KF1 hx hxr hnx hs9 hxs hH9 hat hSj hmap hb;cases kp with
    |true=>
     have hFb:¬rb=FB:=by have h1:=HXL.2;omega
     have h22:=hl1.next (A4 wr);have hlen:Y.length=j:=HYL.out;have h22c:H2 wc.heap.size wr.drew (.slice p5 Y.length q5) Y:=by rw[hlen];exact h22.cs
     have hlocx:∀b o s,xs.p=some ⟨b,o,s⟩->xs.h.pats≠[]->b<w.heap.size/\¬T b:=fun b o s e h0=>by
      rcases HXW.out with e1|⟨b',o',e1,h1,-,h2⟩
      .exact absurd e1 h0
      .rw[e]at e1;simp only[Option.some.injEq,Addr.mk.injEq]at e1;have h3:=A3 (h2 0 (List.length_pos_iff.2 h0));simp only at h3;rw[e1.1];exact⟨h3,h1⟩
     have hxA:Fy wr.drew (.slice p5 Y.length q5) xs.p xs.h.pats:=by
      rcases HXW.out with e1|⟨b,o,e1,h1,h3,h2⟩
      .exact .inl e1
      .refine .inr ⟨b,o,e1,fun e5=>?_,fun k hk=>kc (bel HBW.out (A4 _)) (h2 k hk)⟩;have h6:=(h22c.own.lt b e5).1;omega
     obtain⟨g,c',w3,hrun,hb3,hcs3,-⟩:=h22c.push h22.be oM xs hxA 34;have hloc3:∀x∈Y++[xs],∀b o s,x.p=some ⟨b,o,s⟩->x.h.pats≠[]->¬T4 w T FB b:=by
      intro x hx b o s e h0;rcases List.mem_append.1 hx with h|h
      .exact hl1.loc x h b o s e h0
      .simp only[List.mem_singleton]at h;subst h;have h5:=hlocx b o s e h0;exact fun h6=>h5.2 (VP hF2 h5.1 h6)
     obtain⟨k5,z5,hl3⟩:=h22.put hFE hb3 hcs3 hloc3;rw[hlen]at hrun hl3;have HRUN:Hid ((Builtin.append_ #[34,34] 34 #[.slice p5 j q5,.slice (some ⟨wr.heap.size,0,none⟩) 1 1]).run prog (wr.alloc (.cells #[.slice xs.p xs.h.pats.length xs.q,.int .i64 xs.h.whole] 60)).drew=.ok (.slice (some ⟨g,0,none⟩) (j+1) c') w3):=hrun;have hbF:Below w.heap.size w w3:=(h22.sp.below hb3 hFE).b.bel;have s5:=(h22.sp.below hb3 hFE)
     have HL3:Hid (L1 T w (.slice p0 n0 q0) (.slice p1 n1 q1) (.slice p2 n2 q2) (.slice p3 n3 q3) (.slice ps n2 qs) FB wc.heap.size (C6 (.slice p0 n0 q0) (.slice p1 n1 q1) (.slice p2 n2 q2) (.slice p3 n3 q3) (.slice (some ⟨RB,0,none⟩) n1 n1) (.slice (some ⟨g,0,none⟩) (j+1) c') (.slice none 0 0) (.slice pg gl qg) (.slice pp pl qp) (.int .i64 0)) (w3.setCell ⟨FB,5,none⟩ (.slice (some ⟨g,0,none⟩) (j+1) c')) (.slice (some ⟨g,0,none⟩) (j+1) c') (Y++[xs])):=⟨hl3.sp.congr (CZ rfl rfl rfl rfl rfl rfl rfl rfl rfl rfl),hl3.be,hl3.cs,hl3.loc⟩
     have HUN3:Hid (Un (fun b=>b=FB) wc (w3.setCell ⟨FB,5,none⟩ (.slice (some ⟨g,0,none⟩) (j+1) c'))):=((hun.step ((A4 wr).mono hl1.be)).step hb3).setCell (p:=⟨FB,5,none⟩) rF _;have k0:=fun o=>kc (A0 wr o) f5;have k1:=fun o=>kc (A0 wr o) r4;have k2:=fun o=>kc (A0 wr o) x0;have k3:=fun o=>kc (A0 wr o) x1;have m1:w3.cell? ⟨w.heap.size,4,none⟩=some (.slice (some ⟨rb,ro,none⟩) n2 qs):=by rw[<-hps];exact s5.b.r.cell (i:=4) dE
     have m2:w3.cell? ⟨rb,ro+j*2,none⟩=some (.slice xs.p xs.h.pats.length xs.q):=(gC (hb3.block rb (by have h1:=HXL.2;omega))).trans x0;have m3:w3.cell? ⟨rb,ro+j*2+1,none⟩=some (.int .i64 xs.h.whole):=(gC (hb3.block rb (by have h1:=HXL.2;omega))).trans x1;have t1:=Ae (B:=FB) (i:=5) m1 (by show¬w.heap.size=FB;omega);have t2:=Ae (B:=FB) (i:=5) m2 (by show¬rb=FB;exact hFb);have t3:=Ae (B:=FB) (i:=5) m3 (by show¬rb=FB;exact hFb);clear h22 h22c hlocx hxA hrun hb3 hcs3 hloc3 hl3 hbF s5 hlen hp2 hps;go_upto_region 9 with fail;refine rG (fun v=>v.cell? ⟨w.heap.size,4,none⟩=some (.slice (some ⟨rb,ro,none⟩) n2 qs)/\v.cell? ⟨rb,ro+j*2,none⟩=some (.slice xs.p xs.h.pats.length xs.q)/\v.cell? ⟨rb,ro+j*2+1,none⟩=some (.int .i64 xs.h.whole)) fun hJ=>?_;refine Tf 0 2 3 4 5 6 ?_;clear hJ;refine wpAnyH_ready (rs:=[1,7]) kR sM ?_;refine IY 1 (fun K hK=>?_) ?_
     .go_simp;refine AB hK fun hJ=>?_;clear hK K;clear hJ;refine AC 7 fun K hK=>?_;exact Ys
     refine IY 7 (fun K hK=>?_) AllReadyH.nil;go_simp;refine AB hK fun hJ=>?_;clear hK K;clear hJ;refine AC 1 fun K hK=>?_;exact Ys
    |false=>
     have hFb:¬lb=FB:=by have h1:=HXL.1;omega
     have c0:wr.cell? ⟨w.heap.size+1+1,0,none⟩=some (.slice p0 n0 q0):=hl1.sp.b.c.cell (i:=0) dE;have c1:wr.cell? ⟨w.heap.size+1+1,1,none⟩=some (.slice p1 n1 q1):=hl1.sp.b.c.cell (i:=1) dE;have c3:wr.cell? ⟨w.heap.size+1+1,3,none⟩=some (.slice p3 n3 q3):=hl1.sp.b.c.cell (i:=3) dE;clear r4 x0 x1 hp2 hps;go_upto_region 10 with fail;refine rG (fun v=>v.cell? ⟨w.heap.size+1+1,0,none⟩=some (.slice p0 n0 q0)/\v.cell? ⟨w.heap.size+1+1,1,none⟩=some (.slice p1 n1 q1)/\v.cell? ⟨w.heap.size+1+1,2,none⟩=some (.slice (some ⟨lb,lo,none⟩) n2 q2)/\v.cell? ⟨w.heap.size+1+1,3,none⟩=some (.slice p3 n3 q3)/\v.cell? ⟨lb,lo+j*5,none⟩=some (.int .i64 tk)/\v.cell? ⟨lb,lo+j*5+1,none⟩=some (.int .i64 tp)/\v.cell? ⟨lb,lo+j*5+2,none⟩=some (.bool false)/\v.cell? ⟨lb,lo+j*5+3,none⟩=some (.int .u32 sb)/\v.cell? ⟨lb,lo+j*5+4,none⟩=some (.int .i64 si)) fun hJ=>?_;refine Tf 0 2 3 4 5 6 ?_;refine Bm 7 ?_;clear hJ;refine wpAnyH_ready (rs:=[1,8]) kR sM ?_;refine IY 1 (fun K hK=>?_) ?_
     .go_simp;refine AB hK fun hJ=>?_;clear hK K;clear hJ;refine AC 8 fun K hK=>?_;go_simp;(go_at_call 16;(with_reducible refine(HKF1.out _ (bel HBW.out (A4 _))).mono ?_);rintro e w2 ⟨pf,qf,rfl,hnum,hb2,hfr⟩;have hb22:Below wr.heap.size wr w2:=bel (A4 _) hb2;have h22:=hl1.out.next hb22;have h22c:H2 wc.heap.size w2 (.slice p5 Y.length q5) Y:=Y0;obtain⟨g,c',w3,hrun,hb3,hcs3,-⟩:=h22c.push h22.be (by have h5:=HYL.out;omega) ⟨pf,qf,H9⟩ (hnum.apart (fun b o s e e2=>by have h5:=hfr b o s e;have h6:wr.drew.heap.size=wr.heap.size:=rfl;have h7:b<wr.heap.size:=Zh;omega)) 34;have hloc3:∀x∈Y++[(⟨pf,qf,H9⟩:Cl)],∀b o s,x.p=some ⟨b,o,s⟩->x.h.pats≠[]->¬T4 w T FB b:=(by intro x hx b o s e h0;rcases List.mem_append.1 hx with h|h;exact hl1.out.loc x h b o s e h0;simp only[List.mem_singleton]at h;subst h;intro h6;have h5:=hfr b o s e;have h7:=J2 HH.out.2.2.2.2.2.2.2 hF2 hFE h6;have h8:=hl1.out.be;have h9:wr.drew.heap.size=wr.heap.size:=rfl;omega);obtain⟨k5,z5,hl3⟩:=h22.put hFE hb3 hcs3 hloc3;rw[HYL.out]at hrun hl3;have HRUN:Hid _:=hrun;have s5:=(h22.sp.below hb3 hFE);have HL3:Hid (L1 T w (.slice p0 n0 q0) (.slice p1 n1 q1) (.slice p2 n2 q2) (.slice p3 n3 q3) (.slice ps n2 qs) FB wc.heap.size (C6 (.slice p0 n0 q0) (.slice p1 n1 q1) (.slice p2 n2 q2) (.slice p3 n3 q3) (.slice (some ⟨RB,0,none⟩) n1 n1) (.slice (some ⟨g,0,none⟩) (j+1) c') (.slice none 0 0) (.slice pg gl qg) (.slice pp pl qp) (.int .i64 0)) (w3.setCell ⟨FB,5,none⟩ (.slice (some ⟨g,0,none⟩) (j+1) c')) (.slice (some ⟨g,0,none⟩) (j+1) c') (Y++[(⟨pf,qf,H9⟩:Cl)])):=⟨hl3.sp.congr (CZ rfl rfl rfl rfl rfl rfl rfl rfl rfl rfl),hl3.be,hl3.cs,hl3.loc⟩;have HUN3:Hid (Un (fun b=>b=FB) wc (w3.setCell ⟨FB,5,none⟩ (.slice (some ⟨g,0,none⟩) (j+1) c'))):=((hun.out.step (hb22.mono hl1.out.be)).step hb3).setCell (p:=⟨FB,5,none⟩) rF _;have hlbE:lb<wc.heap.size:=(by have h1:=HXL.out.1;omega);have gc0:=kc hb22 c0;have ac0:=(fun o=>kc (A0 w2 o) gc0);have mc0:=(gC (hb3.block _ UR)).trans gc0;have tc0:=Ae (B:=FB) (i:=5) mc0 Lu;have gc1:=kc hb22 c1;have ac1:=(fun o=>kc (A0 w2 o) gc1);have mc1:=(gC (hb3.block _ UR)).trans gc1;have tc1:=Ae (B:=FB) (i:=5) mc1 Lu;have gc2:=kc hb22 c2;have ac2:=(fun o=>kc (A0 w2 o) gc2);have mc2:=(gC (hb3.block _ UR)).trans gc2;have tc2:=Ae (B:=FB) (i:=5) mc2 Lu;have gc3:=kc hb22 c3;have ac3:=(fun o=>kc (A0 w2 o) gc3);have mc3:=(gC (hb3.block _ UR)).trans gc3;have tc3:=Ae (B:=FB) (i:=5) mc3 Lu;have gy0:=kc hb22 y0;have ay0:=(fun o=>kc (A0 w2 o) gy0);have my0:=(gC (hb3.block _ hlbE)).trans gy0;have ty0:=Ae (B:=FB) (i:=5) my0 hFb;have gy1:=kc hb22 y1;have ay1:=(fun o=>kc (A0 w2 o) gy1);have my1:=(gC (hb3.block _ hlbE)).trans gy1;have ty1:=Ae (B:=FB) (i:=5) my1 hFb;have gy2:=kc hb22 y2;have ay2:=(fun o=>kc (A0 w2 o) gy2);have my2:=(gC (hb3.block _ hlbE)).trans gy2;have ty2:=Ae (B:=FB) (i:=5) my2 hFb;have gy3:=kc hb22 y3;have ay3:=(fun o=>kc (A0 w2 o) gy3);have my3:=(gC (hb3.block _ hlbE)).trans gy3;have ty3:=Ae (B:=FB) (i:=5) my3 hFb;have gy4:=kc hb22 y4;have ay4:=(fun o=>kc (A0 w2 o) gy4);have my4:=(gC (hb3.block _ hlbE)).trans gy4;have ty4:=Ae (B:=FB) (i:=5) my4 hFb;have gf5:=kc hb22 f5;have af5:=(fun o=>kc (A0 w2 o) gf5);clear hnum hb2 hfr hb22 h22 h22c hrun hb3 hcs3 hloc3 hl3 s5);try(go_wp2_with fail)
      refine AB hK fun hJ=>?_;clear hK K;clear hJ;refine AC 9 fun K hK=>?_;exact Xx
     refine IY 8 (fun K hK=>?_) AllReadyH.nil;go_simp;(go_at_call 16;(with_reducible refine(HKF1.out _ (bel HBW.out (A4 _))).mono ?_);rintro e w2 ⟨pf,qf,rfl,hnum,hb2,hfr⟩;have hb22:Below wr.heap.size wr w2:=bel (A4 _) hb2;have h22:=hl1.out.next hb22;have h22c:H2 wc.heap.size w2 (.slice p5 Y.length q5) Y:=Y0;obtain⟨g,c',w3,hrun,hb3,hcs3,-⟩:=h22c.push h22.be (by have h5:=HYL.out;omega) ⟨pf,qf,H9⟩ (hnum.apart (fun b o s e e2=>by have h5:=hfr b o s e;have h6:wr.drew.heap.size=wr.heap.size:=rfl;have h7:b<wr.heap.size:=Zh;omega)) 34;have hloc3:∀x∈Y++[(⟨pf,qf,H9⟩:Cl)],∀b o s,x.p=some ⟨b,o,s⟩->x.h.pats≠[]->¬T4 w T FB b:=(by intro x hx b o s e h0;rcases List.mem_append.1 hx with h|h;exact hl1.out.loc x h b o s e h0;simp only[List.mem_singleton]at h;subst h;intro h6;have h5:=hfr b o s e;have h7:=J2 HH.out.2.2.2.2.2.2.2 hF2 hFE h6;have h8:=hl1.out.be;have h9:wr.drew.heap.size=wr.heap.size:=rfl;omega);obtain⟨k5,z5,hl3⟩:=h22.put hFE hb3 hcs3 hloc3;rw[HYL.out]at hrun hl3;have HRUN:Hid _:=hrun;have s5:=(h22.sp.below hb3 hFE);have HL3:Hid (L1 T w (.slice p0 n0 q0) (.slice p1 n1 q1) (.slice p2 n2 q2) (.slice p3 n3 q3) (.slice ps n2 qs) FB wc.heap.size (C6 (.slice p0 n0 q0) (.slice p1 n1 q1) (.slice p2 n2 q2) (.slice p3 n3 q3) (.slice (some ⟨RB,0,none⟩) n1 n1) (.slice (some ⟨g,0,none⟩) (j+1) c') (.slice none 0 0) (.slice pg gl qg) (.slice pp pl qp) (.int .i64 0)) (w3.setCell ⟨FB,5,none⟩ (.slice (some ⟨g,0,none⟩) (j+1) c')) (.slice (some ⟨g,0,none⟩) (j+1) c') (Y++[(⟨pf,qf,H9⟩:Cl)])):=⟨hl3.sp.congr (CZ rfl rfl rfl rfl rfl rfl rfl rfl rfl rfl),hl3.be,hl3.cs,hl3.loc⟩;have HUN3:Hid (Un (fun b=>b=FB) wc (w3.setCell ⟨FB,5,none⟩ (.slice (some ⟨g,0,none⟩) (j+1) c'))):=((hun.out.step (hb22.mono hl1.out.be)).step hb3).setCell (p:=⟨FB,5,none⟩) rF _;have hlbE:lb<wc.heap.size:=(by have h1:=HXL.out.1;omega);have gc0:=kc hb22 c0;have ac0:=(fun o=>kc (A0 w2 o) gc0);have mc0:=(gC (hb3.block _ UR)).trans gc0;have tc0:=Ae (B:=FB) (i:=5) mc0 Lu;have gc1:=kc hb22 c1;have ac1:=(fun o=>kc (A0 w2 o) gc1);have mc1:=(gC (hb3.block _ UR)).trans gc1;have tc1:=Ae (B:=FB) (i:=5) mc1 Lu;have gc2:=kc hb22 c2;have ac2:=(fun o=>kc (A0 w2 o) gc2);have mc2:=(gC (hb3.block _ UR)).trans gc2;have tc2:=Ae (B:=FB) (i:=5) mc2 Lu;have gc3:=kc hb22 c3;have ac3:=(fun o=>kc (A0 w2 o) gc3);have mc3:=(gC (hb3.block _ UR)).trans gc3;have tc3:=Ae (B:=FB) (i:=5) mc3 Lu;have gy0:=kc hb22 y0;have ay0:=(fun o=>kc (A0 w2 o) gy0);have my0:=(gC (hb3.block _ hlbE)).trans gy0;have ty0:=Ae (B:=FB) (i:=5) my0 hFb;have gy1:=kc hb22 y1;have ay1:=(fun o=>kc (A0 w2 o) gy1);have my1:=(gC (hb3.block _ hlbE)).trans gy1;have ty1:=Ae (B:=FB) (i:=5) my1 hFb;have gy2:=kc hb22 y2;have ay2:=(fun o=>kc (A0 w2 o) gy2);have my2:=(gC (hb3.block _ hlbE)).trans gy2;have ty2:=Ae (B:=FB) (i:=5) my2 hFb;have gy3:=kc hb22 y3;have ay3:=(fun o=>kc (A0 w2 o) gy3);have my3:=(gC (hb3.block _ hlbE)).trans gy3;have ty3:=Ae (B:=FB) (i:=5) my3 hFb;have gy4:=kc hb22 y4;have ay4:=(fun o=>kc (A0 w2 o) gy4);have my4:=(gC (hb3.block _ hlbE)).trans gy4;have ty4:=Ae (B:=FB) (i:=5) my4 hFb;have gf5:=kc hb22 f5;have af5:=(fun o=>kc (A0 w2 o) gf5);clear hnum hb2 hfr hb22 h22 h22c hrun hb3 hcs3 hloc3 hl3 s5);try(go_wp2_with fail)
     refine AB hK fun hJ=>?_;clear hK K;clear hJ;refine wpAnyH_ready (rs:=[1,9]) kR sM ?_;refine IY 1 (fun K hK=>?_) ?_
     .go_simp;refine AB hK fun hJ=>?_;clear hK K;clear hJ;refine AC 9 fun K hK=>?_;exact Xx
     refine IY 9 (fun K hK=>?_) AllReadyH.nil;go_simp;refine AB hK fun hJ=>?_;clear hK K;clear hJ;refine AC 1 fun K hK=>?_;exact Xx
   .have hjn:n2=j:=oM;subst hjn;have HYM:Hid (Y.map (·.h)=LJ c l):=by
     show _=_;have h5:=hmap.out;rw[List.take_of_length_le (by rw[EQ HH.2.2.2.1.len,HN.2.2.1];exact gF _)]at h5;exact h5
    have HCR:Hid (AI (T4 w T FB) wr (.slice (some ⟨RB,0,none⟩) n1 n1) (Og n1)/\AI (T4 w T FB) wr (.slice p5 n2 q5) Y):=⟨HCS.un hun.out (fun b _ e=>.inr (.inr e)),T6 hl1.cs (fun b hb=>J2 HH.2.2.2.2.2.2.2 hF2 hFE hb) hl1.loc⟩
    have HSP1:Hid (H4 w (.slice p0 n0 q0) (.slice p1 n1 q1) (.slice p2 n2 q2) (.slice p3 n3 q3) (.slice ps n2 qs) FB (C6 (.slice p0 n0 q0) (.slice p1 n1 q1) (.slice p2 n2 q2) (.slice p3 n3 q3) (.slice (some ⟨RB,0,none⟩) n1 n1) (.slice p5 n2 q5) (.slice none 0 0) (.slice pg gl qg) (.slice pp pl qp) (.int .i64 0)) wr):=hl1.sp;have hFW:FB<wr.heap.size:=hl1.sp.f.lt;have c0:wr.cell? ⟨w.heap.size+1+1,0,none⟩=some (.slice p0 n0 q0):=hl1.sp.b.c.cell (i:=0) dE;have e1:¬ (n2:Int)<(n2:Int):=oM;clear hmap hlt hl1 hun HCS HSP hFE HKF;rename World=>we;go_wp2
    go_loopw [13] (fun iv wr=>∃ (j:Nat) (p6:Option Addr) (q6:Nat) (Y6:List Cl),j<=n0/\iv=.int .i64 (j:Int)/\Hid (L2 T w (.slice p0 n0 q0) (.slice p1 n1 q1) (.slice p2 n2 q2) (.slice p3 n3 q3) (.slice ps n2 qs) FB we.heap.size (C6 (.slice p0 n0 q0) (.slice p1 n1 q1) (.slice p2 n2 q2) (.slice p3 n3 q3) (.slice (some ⟨RB,0,none⟩) n1 n1) (.slice p5 n2 q5) (.slice p6 (2*j) q6) (.slice pg gl qg) (.slice pp pl qp) (.int .i64 0)) wr (.slice p6 (2*j) q6) Y6)/\Hid (Un (fun b=>b=FB) we wr)/\Hid (Y6.map (·.h)=Jt c j)) (fun iv _=>n0-(intOf iv).toNat)
    case atStart=>exact⟨0,none,0,[],gI _,rfl,⟨HSP1.out,gF _,Oh.nil _ _,fun x hx=>by cases hx⟩,Un.refl _ _,rfl⟩
    case round=>
     clear c0;obtain⟨j,p6,q6,Y6,hj,rfl,hl2,hun,hmap⟩:=hrel;have c0:wr.cell? ⟨w.heap.size+1+1,0,none⟩=some (.slice p0 n0 q0):=hl2.sp.b.c.cell (i:=0) dE;have HYL:Hid (Y6.length=2*j):=by
      have h5:=congrArg List.length hmap.out;rw[List.length_map,Jt,List.length_map,List.length_range]at h5;exact h5
     by_cases hlt:j<n0
     .have hll:j<c.sign.length:=by rw[HN.1];exact hlt
      have hb:=hl2.sp.b.bel;obtain⟨lb,lo,hp0,hx⟩:=HV.1.sign.at hll;have hln:=Ho HH.1 hll;have hlb:=HH.1.len _ (gD hll);have HMN:Hid (∀h',h'=(⟨List.replicate (lenOf c (j:Int)) 0,0⟩:Hd)->(Y6.map (·.h))++[h',h']=Jt c (j+1)):=fun h' e=>by rw[hmap.out,OY,e]
      obtain⟨⟨nm,K,L⟩,hT9⟩:∃t:Bd,c.sign[j]=t:=⟨_,rfl⟩
      rw[hT9]at hx hln hlb;simp only at hln hlb;obtain⟨ln,hlnn⟩:∃n,lenOf c (j:Int)=n:=⟨_,rfl⟩
      rw[hlnn]at hln HMN;subst hln;have y2:wr.cell? ⟨lb,lo+j*3+2,none⟩=some (.int .i64 (ln:Int)):=kc hb (hx.at 2 rfl);rw[hp0]at c0;have f6:wr.cell? ⟨FB,6,none⟩=some (.slice p6 (2*j) q6):=hl2.sp.f.cell (i:=6) dE;have HFI:Hid (∀v,Calls prog 18 #[.int .i64 (ln:Int),.int .i64 0] v fun e w'=>∃q cap,e=.returned (.tuple #[.slice q ln cap,.int .i64 0])/\AP w' q ln (fun i=>.int .i64 (A9 0))/\Below v.heap.size v w'/\∀b o s,q=some ⟨b,o,s⟩->v.heap.size<=b):=Ge ln 0 Hl oM;have i1:(0:Int)<=(j:Int):=oM;have i2:(j:Int)<(n0:Int):=oM;have wi:IntKind.i64.wrap ((j:Int)+1)=((j+1:Nat):Int):=by rw[IntKind.wrap_i64];omega
      clear hx hT9 hlnn hlb hmap hb hp0;go_upto_region 15 with(go_at_call 18;(with_reducible refine(HFI.out _).mono ?_);rintro e w4 ⟨pf,qf,rfl,hrf,hb4,hfr⟩;have h22:=hl2.out.next hb4;have h22c:Oh we.heap.size w4 (.slice p6 Y6.length q6) Y6:=Y0;have hnum:Bp w4 pf (List.replicate ln 0):=(by show AP _ _ _ _;rw[List.length_replicate];rcases hrf with h9|⟨b,o,rfl,h8⟩;exact .inl h9;exact .inr ⟨b,o,rfl,fun k hk=>(by rw[h8 k hk];simp only;rw[GO _ _ hk];rfl)⟩);obtain⟨g,c',w5,hrun,hb5,hcs5⟩:=h22c.push h22.be (by have h5:=HYL.out;omega) ⟨pf,qf,⟨List.replicate ln 0,0⟩⟩ (hnum.apart (fun b o s e e2=>by have h5:=hfr b o s e;have h7:b<wr.heap.size:=(by have h8:=hl2.out.cs.own.lt b Zo;exact h8.2);omega)) 67;have hloc5:∀x∈Y6++[(⟨pf,qf,⟨List.replicate ln 0,0⟩⟩:Cl),⟨pf,qf,⟨List.replicate ln 0,0⟩⟩],∀b o s,x.p=some ⟨b,o,s⟩->x.h.pats≠[]->¬T4 w T FB b:=(by intro x hx b o s e h0;rcases List.mem_append.1 hx with h|h;exact hl2.out.loc x h b o s e h0;simp only[List.mem_cons,List.not_mem_nil,or_false,or_self]at h;subst h;intro h6;have h5:=hfr b o s e;have h7:=J2 HH.out.2.2.2.2.2.2.2 hF2 hFW h6;have h8:=hl2.out.be;omega);obtain⟨k6,z6,hl5⟩:=h22.put hFW hb5 hcs5 hloc5;simp only[List.length_replicate]at hrun;rw[HYL.out]at hrun hl5;have HRUN:Hid _:=hrun;have HL5:Hid (L2 T w (.slice p0 n0 q0) (.slice p1 n1 q1) (.slice p2 n2 q2) (.slice p3 n3 q3) (.slice ps n2 qs) FB we.heap.size (C6 (.slice p0 n0 q0) (.slice p1 n1 q1) (.slice p2 n2 q2) (.slice p3 n3 q3) (.slice (some ⟨RB,0,none⟩) n1 n1) (.slice p5 n2 q5) (.slice (some ⟨g,0,none⟩) (2*j+2) c') (.slice pg gl qg) (.slice pp pl qp) (.int .i64 0)) (w5.setCell ⟨FB,6,none⟩ (.slice (some ⟨g,0,none⟩) (2*j+2) c')) (.slice (some ⟨g,0,none⟩) (2*j+2) c') (Y6++[(⟨pf,qf,⟨List.replicate ln 0,0⟩⟩:Cl),⟨pf,qf,⟨List.replicate ln 0,0⟩⟩])):=⟨hl5.sp.congr (CZ rfl rfl rfl rfl rfl rfl rfl rfl rfl rfl),hl5.be,hl5.cs,hl5.loc⟩;have HUN5:Hid (Un (fun b=>b=FB) we (w5.setCell ⟨FB,6,none⟩ (.slice (some ⟨g,0,none⟩) (2*j+2) c'))):=((hun.out.step (hb4.mono hl2.out.be)).step hb5).setCell (p:=⟨FB,6,none⟩) rF _;have g6:=kc hb4 f6;have a6:=(fun o=>kc (A0 w4 o) g6);clear hrf hb4 hfr h22 h22c hnum hrun hb5 hcs5 hloc5 hl5 c0 f6 y2)
      go_wp2_with(at_builtin;refine AH rF _ _ _ rF _ _ _ rF rF HRUN.out ?_);go_roundw
      case rel=>exact⟨j+1,some ⟨g,0,none⟩,c',Y6++[(⟨pf,qf,⟨List.replicate ln 0,0⟩⟩:Cl),⟨pf,qf,⟨List.replicate ln 0,0⟩⟩],oM,gN,HL5.out,HUN5.out,by show _=_;rw[List.map_append];exact HMN.out _ rfl⟩
      case measure=>first|(simp[intOf];omega)|omega
     .have hjn:n0=j:=oM;subst hjn;have HCR2:Hid (AI (T4 w T FB) wr (.slice (some ⟨RB,0,none⟩) n1 n1) (Og n1)/\AI (T4 w T FB) wr (.slice p5 n2 q5) Y/\G5 (T4 w T FB) wr (.slice p6 (2*n0) q6) Y6):=⟨HCR.1.un hun.out (fun b _ e=>.inr (.inr e)),HCR.2.un hun.out (fun b _ e=>.inr (.inr e)),U8 hl2.cs (fun b hb=>J2 HH.2.2.2.2.2.2.2 hF2 hFW hb) hl2.loc⟩
      have HSP2:Hid (H4 w (.slice p0 n0 q0) (.slice p1 n1 q1) (.slice p2 n2 q2) (.slice p3 n3 q3) (.slice ps n2 qs) FB (C6 (.slice p0 n0 q0) (.slice p1 n1 q1) (.slice p2 n2 q2) (.slice p3 n3 q3) (.slice (some ⟨RB,0,none⟩) n1 n1) (.slice p5 n2 q5) (.slice p6 (2*n0) q6) (.slice pg gl qg) (.slice pp pl qp) (.int .i64 0)) wr):=hl2.sp;have HPL:Hid (Il c G P (Bi c l) 0 0 (Bi c l) ⟨[],[]⟩ (Og c.regs.length) Y Y6):=⟨rfl,QH HH.1 HH.2.2.1 HH.2.2.2.1,D4.start _,.inl ⟨rfl,fun r hr=>by cases hr⟩,HH.2.1,P7 HH.1 HH.2.2.2.1 HYM.out (by rw[hmap.out,HN.1]),.inl ⟨rfl,fun r hr=>by cases hr⟩⟩
      have c3:wr.cell? ⟨w.heap.size+1+1,3,none⟩=some (.slice p3 n3 q3):=hl2.sp.b.c.cell (i:=3) dE;have e2:¬ (n0:Int)<(n0:Int):=oM;have HOL:Hid (Y6.length=2*n0):=HYL.out;clear hmap hlt hl2 hun HCR HSP1 HYL HYM;rename World=>wf;go_wp2;clear c0
      go_loopw [16,17] (fun sv iv wr=>∃ (j k:Nat),j<=n3/\k<=j/\iv=.int .i64 (j:Int)/\sv=.int .i64 (k:Int)/\Hid (∃f s X S O pr qr p5 q5 p6 q6 ct,Il c G P (Bi c l) j k f s X S O/\L3 T w (.slice p0 n0 q0) (.slice p1 n1 q1) (.slice p2 n2 q2) (.slice p3 n3 q3) (.slice ps n2 qs) FB pr p5 p6 n1 qr n2 q5 (2*n0) q6 (.slice pg gl qg) (.slice pp pl qp) ct X S O wr/\ct=Lg c G P (Bi c l,0) (c.list.take j))) (fun _ iv _=>n3-(intOf iv).toNat)
      case atStart=>exact⟨0,0,gI _,gF _,rfl,rfl,_,_,_,_,_,_,_,_,_,_,_,_,HPL.out,⟨HSP2.out,by rw[HN.2.1];exact HCR2.1,HCR2.2.1,HCR2.2.2,HOL.out⟩,rfl⟩
      case round=>
       clear c3 HPL HSP2 HCR2 HOL;obtain⟨j,k,hj,hkj,rfl,rfl,HR⟩:=hrel;obtain⟨f,s,X,S,O,pr,qr,p5,q5,p6,q6,ct,hpl,h3,hct⟩:=HR.out;have HCT:=B8 hct;clear hct;have HPI:Hid (Il c G P (Bi c l) j k f s X S O):=hpl;have H3:Hid (L3 T w (.slice p0 n0 q0) (.slice p1 n1 q1) (.slice p2 n2 q2) (.slice p3 n3 q3) (.slice ps n2 qs) FB pr p5 p6 n1 qr n2 q5 (2*n0) q6 (.slice pg gl qg) (.slice pp pl qp) ct X S O wr):=h3;have hFR:FB<wr.heap.size:=h3.sp.f.lt;obtain⟨c0,c1,c2,c3⟩:=h3.code;clear HR;by_cases hlt:j<n3
       .have hll:j<c.list.length:=by rw[HN.2.2.2.1];exact hlt
        have hb:=h3.sp.b.bel;have HBW:Hid (Below w.heap.size w wr):=hb;obtain⟨lb,lo,hp3,hx⟩:=HV.1.list.at hll;obtain⟨t1,-⟩:=hpl.taken hll;have hbit:=HH.2.2.1.ibits _ (gD hll);have HPASS:Hid (∀k',AS c G P (f,k) c.list[j]=(f,k')->(k≠0\/c.list[j].op=34)->∃s',Il c G P (Bi c l) (j+1) k' f s' X S O):=fun k' h1 h2=>hpl.pass HH.1 HH.2.2.1.ibits HH.2.2.2.2.2.1 HH.2.2.2.2.2.2.1 hll h1 h2;have HNEED:Hid (k=0->Cz c f c.list[j]/\(∀r∈Ao c.list[j] (A5 c.list[j].op),N0 c f X r.toNat)):=fun e=>by subst e;exact hpl.need hll
        have HDID0:Hid (k=0->∀X' S' O',¬ (c.list[j].op=34/\f.whs c.list[j].a.toNat=0)->VV c G P f c.list[j] X S O X' S' O'->∃f' s',Il c G P (Bi c l) (j+1) 0 f' s' X' S' O'):=fun e X' S' O' h1 h2=>by subst e;exact hpl.did HH.1 HH.2.2.1.ibits HH.2.2.2.2.2.1 HH.2.2.2.2.2.2.1 hll h1 h2
        have hsn:=VM hll hpl.go;obtain⟨hw1,hw2⟩:=DK HC.out _ (gD hll);obtain⟨hs1,hs2⟩:=UD (G:=G) (P:=P) HC.out (Bi c l,0) j;rw[<-HCT.out]at hsn hs1 hs2;obtain⟨i9,hi9⟩:∃i,c.list[j]=i:=⟨_,rfl⟩
        rw[hi9]at hx t1 hbit HPASS HNEED HDID0 hsn hw1 hw2;have hjb:j<32768:=oM;obtain⟨op,D,A,B,Ec,nn,bt⟩:=i9;simp only at hbit;have y0:wr.cell? ⟨lb,lo+j*7,none⟩=some (.int .i64 op):=kc hb (hx.at 0 rfl);have y1:wr.cell? ⟨lb,lo+j*7+1,none⟩=some (.int .i64 D):=kc hb (hx.at 1 rfl);have y2:wr.cell? ⟨lb,lo+j*7+2,none⟩=some (.int .i64 A):=kc hb (hx.at 2 rfl);have y3:wr.cell? ⟨lb,lo+j*7+3,none⟩=some (.int .i64 B):=kc hb (hx.at 3 rfl);have y4:wr.cell? ⟨lb,lo+j*7+4,none⟩=some (.int .i64 Ec):=kc hb (hx.at 4 rfl);have y5:wr.cell? ⟨lb,lo+j*7+5,none⟩=some (.int .i64 nn):=kc hb (hx.at 5 rfl);have y6:wr.cell? ⟨lb,lo+j*7+6,none⟩=some (.int .u32 bt):=kc hb (hx.at 6 rfl);rw[hp3]at c3;have i1:(0:Int)<=(j:Int):=oM;have i2:(j:Int)<(n3:Int):=oM;have wi:IntKind.i64.wrap ((j:Int)+1)=((j+1:Nat):Int):=by rw[IntKind.wrap_i64];omega
        have H3N:Hid (∀o,L3 T w (.slice p0 n0 q0) (.slice p1 n1 q1) (.slice p2 n2 q2) (.slice p3 n3 q3) (.slice ps n2 qs) FB pr p5 p6 n1 qr n2 q5 (2*n0) q6 (.slice pg gl qg) (.slice pp pl qp) ct X S O (wr.alloc o)):=fun o=>h3.next (A0 _ _);have HT1:Hid (AF c s ⟨op,D,A,B,Ec,nn,bt⟩=true/\Ar bt):=⟨t1,hbit⟩
        have HWGE:=B8 (⟨_,rfl⟩:∃g,CI c ⟨op,D,A,B,Ec,nn,bt⟩=g);obtain⟨WG,hWG⟩:=HWGE.out;rw[hWG]at hsn hw1 hw2;have HWG:=B8 hWG;have wct:IntKind.i64.wrap (ct+WG)=ct+WG:=by rw[IntKind.wrap_i64];omega
        have HSN:=B8 hsn;clear hx hi9 hb hp3 t1 hbit hpl h3 hsn hw1 hw2 hs1 hs2 hWG HWGE hjb;by_cases hk0:k=0
        .subst hk0;have HCE0:Hid (ct+WG=Lg c G P (Bi c l,0) (c.list.take (j+1))):=by show _=_;rw[HSN.out,if_pos rfl]
         have HND:Hid (Cz c f ⟨op,D,A,B,Ec,nn,bt⟩/\(∀r∈Ao ⟨op,D,A,B,Ec,nn,bt⟩ (A5 op),N0 c f X r.toNat)):=HNEED.out rfl;have HDID:Hid (∀X' S' O',¬ (op=34/\f.whs A.toNat=0)->VV c G P f ⟨op,D,A,B,Ec,nn,bt⟩ X S O X' S' O'->∃f' s',Il c G P (Bi c l) (j+1) 0 f' s' X' S' O'):=HDID0.out rfl;have KWE:Hid (∀v,Below w.heap.size w v->Calls prog 19 #[.agg #[.slice p0 n0 q0,.slice p1 n1 q1,.slice p2 n2 q2,.slice p3 n3 q3],.agg #[.int .i64 op,.int .i64 D,.int .i64 A,.int .i64 B,.int .i64 Ec,.int .i64 nn,.int .u32 bt]] v fun e w'=>e=.returned (.int .i64 WG)/\Below v.heap.size v w'):=fun v hb=>by
          have h9:=MK HH.1 HT1.1 _ _ _ _ v (HV.1.below hb);rw[HN.1,HN.2.1,HN.2.2.1,HN.2.2.2.1,HWG.out]at h9;exact h9
         have KDO:Hid (∀v ct,L3 T w (.slice p0 n0 q0) (.slice p1 n1 q1) (.slice p2 n2 q2) (.slice p3 n3 q3) (.slice ps n2 qs) FB pr p5 p6 n1 qr n2 q5 (2*n0) q6 (.slice pg gl qg) (.slice pp pl qp) ct X S O v->Calls prog 20 #[.agg #[.slice p0 n0 q0,.slice p1 n1 q1,.slice p2 n2 q2,.slice p3 n3 q3,.slice pr n1 qr,.slice p5 n2 q5,.slice p6 (2*n0) q6,.slice pg gl qg,.slice pp pl qp,.int .i64 ct],.agg #[.int .i64 op,.int .i64 D,.int .i64 A,.int .i64 B,.int .i64 Ec,.int .i64 nn,.int .u32 bt]] v fun e w'=>∃pr' qr' p5' q5' p6' q6' X' S' O',e=.returned (.agg #[.slice p0 n0 q0,.slice p1 n1 q1,.slice p2 n2 q2,.slice p3 n3 q3,.slice pr' n1 qr',.slice p5' n2 q5',.slice p6' (2*n0) q6',.slice pg gl qg,.slice pp pl qp,.int .i64 ct])/\AI (T4 w T FB) w' (.slice pr' n1 qr') X'/\AI (T4 w T FB) w' (.slice p5' n2 q5') S'/\G5 (T4 w T FB) w' (.slice p6' (2*n0) q6') O'/\O'.length=2*n0/\VV c G P f ⟨op,D,A,B,Ec,nn,bt⟩ X S O X' S' O'/\Below v.heap.size v w'):=fun v ct h=>by
          have hd:=Qd (T:=T4 w T FB) HH.1 HPI.ok HT1.1 HT1.2 HH.2.2.2.2.2.1 HH.2.2.2.2.2.2.1 HND.1 HPI.rel HND.2 p0 p1 p2 p3 pr p5 p6 pg pp q0 q1 q2 q3 qr q5 q6 qg qp ct v (fun b hb=>J2 HH.2.2.2.2.2.2.2 hF2 h.sp.f.lt hb) (HV.1.below h.sp.b.bel) (by rw[HN.2.1];exact h.cr) (by rw[HN.2.2.1];exact h.cs) (by rw[h.ol];exact h.co) (HV.2.2.1.below h.sp.b.bel) (HV.2.2.2.below h.sp.b.bel);unfold Xn Dz at hd;rw[HN.1,HN.2.1,HN.2.2.1,HN.2.2.2.1,HN.2.2.2.2.1,HN.2.2.2.2.2,h.ol]at hd;exact hd
         clear HNEED HDID0;go_upto_region 27 with fail;have HX1:Hid ((wr.alloc (.cells #[.int .i64 op,.int .i64 D,.int .i64 A,.int .i64 B,.int .i64 Ec,.int .i64 nn,.int .u32 bt] 55)).rowIs wr.heap.size 55 7 (f7 (.int .i64 op) (.int .i64 D) (.int .i64 A) (.int .i64 B) (.int .i64 Ec) (.int .i64 nn) (.int .u32 bt))):=World.rowIs_alloc wr _ _ _ (UT _ _ _ _ _ _ _);have H31:Hid (L3 T w (.slice p0 n0 q0) (.slice p1 n1 q1) (.slice p2 n2 q2) (.slice p3 n3 q3) (.slice ps n2 qs) FB pr p5 p6 n1 qr n2 q5 (2*n0) q6 (.slice pg gl qg) (.slice pp pl qp) ct X S O (wr.alloc (.cells #[.int .i64 op,.int .i64 D,.int .i64 A,.int .i64 B,.int .i64 Ec,.int .i64 nn,.int .u32 bt] 55))):=H3N.out _;obtain⟨W1,hW1⟩:∃W,wr.alloc (.cells #[.int .i64 op,.int .i64 D,.int .i64 A,.int .i64 B,.int .i64 Ec,.int .i64 nn,.int .u32 bt] 55)=W:=⟨_,rfl⟩
         rw[hW1]at HX1 H31;rw[hW1];clear hW1 c0 c1 c2 c3 y0 y1 y2 y3 y4 y5 y6 H3N;go_cut [] (fun wx=>Hid (L3 T w (.slice p0 n0 q0) (.slice p1 n1 q1) (.slice p2 n2 q2) (.slice p3 n3 q3) (.slice ps n2 qs) FB pr p5 p6 n1 qr n2 q5 (2*n0) q6 (.slice pg gl qg) (.slice pp pl qp) (ct+WG) X S O wx)/\Hid (wx.rowIs wr.heap.size 55 7 (f7 (.int .i64 op) (.int .i64 D) (.int .i64 A) (.int .i64 B) (.int .i64 Ec) (.int .i64 nn) (.int .u32 bt))))
         case first=>
          obtain⟨c0,c1,c2,c3⟩:=H31.code;obtain⟨z0,z1,z2,z3,z4,z5,z6⟩:=SZ HX1.out;obtain⟨-,-,-,-,-,-,-,-,-,g9⟩:=H31.cells;have v9:=H31.frz 9;refine rG (fun v=>v.cell? ⟨w.heap.size+1+1,0,none⟩=some (.slice p0 n0 q0)/\v.cell? ⟨w.heap.size+1+1,1,none⟩=some (.slice p1 n1 q1)/\v.cell? ⟨w.heap.size+1+1,2,none⟩=some (.slice p2 n2 q2)/\v.cell? ⟨w.heap.size+1+1,3,none⟩=some (.slice p3 n3 q3)/\v.cell? ⟨wr.heap.size,0,none⟩=some (.int .i64 op)/\v.cell? ⟨wr.heap.size,1,none⟩=some (.int .i64 D)/\v.cell? ⟨wr.heap.size,2,none⟩=some (.int .i64 A)/\v.cell? ⟨wr.heap.size,3,none⟩=some (.int .i64 B)/\v.cell? ⟨wr.heap.size,4,none⟩=some (.int .i64 Ec)/\v.cell? ⟨wr.heap.size,5,none⟩=some (.int .i64 nn)/\v.cell? ⟨wr.heap.size,6,none⟩=some (.int .u32 bt)) fun hJ=>?_;refine Tc 0 2 3 ?_;clear hJ;refine wpAnyH_ready (rs:=[1,4]) kR sM ?_;refine IY 1 (fun K hK=>?_) ?_
          .go_simp;refine AB hK fun hJ=>?_;clear hK K;clear hJ;refine AC 4 fun K hK=>?_;go_simp;(go_at_call 19;(with_reducible refine(KWE.out _ (bel H31.out.sp.b.bel (A4 _))).mono ?_);rintro e w3 ⟨rfl,hb3⟩;have HB3:Hid (Below W1.heap.size W1 w3):=bel (A4 _) hb3;clear hb3 c0 c1 c2 c3 z0 z1 z2 z3 z4 z5 z6 g9 v9;obtain⟨c0,c1,c2,c3⟩:=(H31.out.next HB3.out).code;obtain⟨z0,z1,z2,z3,z4,z5,z6⟩:=SZ (HX1.out.of_block (HB3.out.block _ HX1.out.lt));obtain⟨-,-,-,-,-,-,-,-,-,g9⟩:=(H31.out.next HB3.out).cells;have v9:=(H31.out.next HB3.out).frz 9;have tc0:=Ae (B:=FB) (i:=9) c0 Lu;have tc1:=Ae (B:=FB) (i:=9) c1 Lu;have tc2:=Ae (B:=FB) (i:=9) c2 Lu;have tc3:=Ae (B:=FB) (i:=9) c3 Lu;have tz0:=Ae (B:=FB) (i:=9) z0 N6;have tz1:=Ae (B:=FB) (i:=9) z1 N6;have tz2:=Ae (B:=FB) (i:=9) z2 N6;have tz3:=Ae (B:=FB) (i:=9) z3 N6;have tz4:=Ae (B:=FB) (i:=9) z4 N6;have tz5:=Ae (B:=FB) (i:=9) z5 N6;have tz6:=Ae (B:=FB) (i:=9) z6 N6);try(go_wp2_with fail)
           exact YC
          refine IY 4 (fun K hK=>?_) AllReadyH.nil;go_simp;(go_at_call 19;(with_reducible refine(KWE.out _ (bel H31.out.sp.b.bel (A4 _))).mono ?_);rintro e w3 ⟨rfl,hb3⟩;have HB3:Hid (Below W1.heap.size W1 w3):=bel (A4 _) hb3;clear hb3 c0 c1 c2 c3 z0 z1 z2 z3 z4 z5 z6 g9 v9;obtain⟨c0,c1,c2,c3⟩:=(H31.out.next HB3.out).code;obtain⟨z0,z1,z2,z3,z4,z5,z6⟩:=SZ (HX1.out.of_block (HB3.out.block _ HX1.out.lt));obtain⟨-,-,-,-,-,-,-,-,-,g9⟩:=(H31.out.next HB3.out).cells;have v9:=(H31.out.next HB3.out).frz 9;have tc0:=Ae (B:=FB) (i:=9) c0 Lu;have tc1:=Ae (B:=FB) (i:=9) c1 Lu;have tc2:=Ae (B:=FB) (i:=9) c2 Lu;have tc3:=Ae (B:=FB) (i:=9) c3 Lu;have tz0:=Ae (B:=FB) (i:=9) z0 N6;have tz1:=Ae (B:=FB) (i:=9) z1 N6;have tz2:=Ae (B:=FB) (i:=9) z2 N6;have tz3:=Ae (B:=FB) (i:=9) z3 N6;have tz4:=Ae (B:=FB) (i:=9) z4 N6;have tz5:=Ae (B:=FB) (i:=9) z5 N6;have tz6:=Ae (B:=FB) (i:=9) z6 N6);try(go_wp2_with fail)
          refine AB hK fun hJ=>?_;clear hK K;clear hJ;refine AC 1 fun K hK=>?_;go_simp;exact YC
         case rest=>
          obtain⟨H32,HX2⟩:=hcut;obtain⟨ct',hct'⟩:∃x,ct+WG=x:=⟨_,rfl⟩
          rw[hct']at H32 HCE0;have HCE:=B8 HCE0.out;clear hct' HCE0 wct;obtain⟨z0,z1,z2,z3,z4,z5,z6⟩:=SZ HX2.out;obtain⟨g0,g1,g2,g3,g4,g5,g6,g7,g8,g9⟩:=H32.cells;clear H31 HX1;by_cases h34:op=34
          .subst h34;obtain⟨hk,h2,_,h4⟩:=AX HT1.1;have hal:=Ac (CQ h2) XY;simp only at hal;obtain⟨ka,rfl⟩:∃n:Nat,A=(n:Int):=⟨A.toNat,oM⟩
           have hkl:ka<X.length:=by rw[HPI.rel.xl];omega
           have hxa:X[ka]? =some X[ka]:=gB hkl;have hah:=TD HND.2 (r:=(ka:Int)) (IL XY) oM hxa;have hma:=AQ (CQ h2) XY;have ka2:(A7 c.regs (ka:Int)).kind=2:=by simpa[AN,A5]using hma
           rw[Mx ka2,Int.toNat_natCast]at hah;have hlX:X.length=n1:=by rw[HPI.rel.xl,HN.2.1]
           obtain⟨rb,ro,hpr,hca⟩:=H32.cr.row.row.at hkl;have x1:wc.cell? ⟨rb,ro+ka*2+1,none⟩=some (.int .i64 (f.whs ka)):=by have h9:=hca.at 1 (v:=.int .i64 X[ka].h.whole) rfl;rw[hah]at h9;exact h9
           have l1:(0:Int)<=(ka:Int):=oM;have l2:(ka:Int)<(n1:Int):=oM;subst hpr;obtain⟨wh,hwh⟩:∃x,f.whs ka=x:=⟨_,rfl⟩
           have HWH:Hid (f.whs ka=wh):=hwh;rw[hwh]at x1;by_cases hz:wh=0
           .have hz1:(wh==0)=true:=by simpa using hz
            have HPS:Hid (∃s',Il c G P (Bi c l) (j+1) 1 f s' X S O):=HPASS.out 1 (Jq c G P f 0 rfl (.inr (by rw[show(⟨34,D,(ka:Int),B,Ec,nn,bt⟩:Am).a.toNat=ka from Int.toNat_natCast ka,HWH.out,hz]))) (.inr rfl);clear hz hk h2 h4 hal hkl hxa hah hma ka2 hlX hca hwh KDO KWE HDID;go_wp2;go_roundw
            case rel=>
             obtain⟨s',hpl6⟩:=HPS.out;exact⟨j+1,1,oM,oM,gN,gN,f,s',X,S,O,some ⟨rb,ro,none⟩,qr,p5,q5,p6,q6,ct',hpl6,H32.out,HCE.out⟩
            case measure=>first|(simp[intOf];omega)|omega
           .have hz1:(wh==0)=false:=by simpa using hz
            have HNW:Hid (¬ ((34:Int)=34/\f.whs (ka:Int).toNat=0)):=fun e=>hz (by rw[<-HWH.out,<-e.2,Int.toNat_natCast]);clear hz hk h2 h4 hal hkl hxa hah hma ka2 hlX hca hwh KWE;exact Yh
          .have h34b:(op==34)=false:=by simpa using h34
           have HNW:Hid (¬ (op=34/\f.whs A.toNat=0)):=fun e=>h34 e.1;clear h34 KWE;exact Yh
        .have HCN:Hid (ct=Lg c G P (Bi c l,0) (c.list.take (j+1))):=by show _=_;rw[HSN.out,if_neg hk0];omega
         clear wct;obtain⟨K,rfl⟩:∃K,k=K+1:=⟨k-1,oM⟩
         have k1:(0:Int)<((K+1:Nat):Int):=oM;have k2:IntKind.i64.wrap (((K+1:Nat):Int)+1)=((K+2:Nat):Int):=by rw[IntKind.wrap_i64];omega
         have k3:IntKind.i64.wrap (((K+1:Nat):Int)-1)=((K:Nat):Int):=by rw[IntKind.wrap_i64];omega
         obtain⟨kz,hkz⟩:∃z:Int,((K+1:Nat):Int)=z:=⟨_,rfl⟩
         have HKZ:Hid (((K+1:Nat):Int)=kz):=hkz;rw[hkz]at k1 k2 k3;try rw[hkz]
         clear HNEED HDID0 hkz hk0;by_cases h34:op=34
         .have h34b:(op==34)=true:=by simpa using h34
          have HPS:Hid (∃s',Il c G P (Bi c l) (j+1) (K+2) f s' X S O):=HPASS.out (K+2) (Jq c G P f (K+1) h34 (.inl oM)) (.inl oM);clear h34;go_wp2;go_roundw
          case rel=>
           obtain⟨s',hpl6⟩:=HPS.out;exact⟨j+1,K+2,oM,oM,gN,gN,f,s',X,S,O,pr,qr,p5,q5,p6,q6,ct,hpl6,H3N.out _,HCN.out⟩
          case measure=>first|(simp[intOf];omega)|omega
         .have h34b:(op==34)=false:=by simpa using h34
          by_cases h35:op=35
          .have h35b:(op==35)=true:=by simpa using h35
           have HPS:Hid (∃s',Il c G P (Bi c l) (j+1) K f s' X S O):=HPASS.out K (QC c G P f K h35) (.inl oM);clear h34 h35;go_wp2;go_roundw
           case rel=>
            obtain⟨s',hpl6⟩:=HPS.out;exact⟨j+1,K,oM,oM,gN,gN,f,s',X,S,O,pr,qr,p5,q5,p6,q6,ct,hpl6,H3N.out _,HCN.out⟩
           case measure=>first|(simp[intOf];omega)|omega
          .have h35b:(op==35)=false:=by simpa using h35
           have HPS:Hid (∃s',Il c G P (Bi c l) (j+1) (K+1) f s' X S O):=HPASS.out (K+1) (QD c G P f K h34 h35) (.inl oM);clear h34 h35;go_wp2;go_roundw
           case rel=>
            obtain⟨s',hpl6⟩:=HPS.out;exact⟨j+1,K+1,oM,oM,gN,by rw[HKZ.out],f,s',X,S,O,pr,qr,p5,q5,p6,q6,ct,hpl6,H3N.out _,HCN.out⟩
           case measure=>first|(simp[intOf];omega)|omega
       .have hjn:n3=j:=oM;subst hjn;have HEJ:Hid (M1 c l G P=f):=by
         show _=_;have h5:=HPI.go;rw[List.take_of_length_le (by rw[HN.2.2.2.1];exact gF _)]at h5;unfold M1;rw[h5]
        have HEC:Hid (WM c l G P=ct):=by
         show _=_;have h5:=HCT.out;rw[List.take_of_length_le (by rw[HN.2.2.2.1];exact gF _)]at h5;unfold WM;rw[h5]
        have KUP:Hid (∀v,Below wr.heap.size wr v->Calls prog 21 #[.agg #[.slice p0 n0 q0,.slice p1 n1 q1,.slice p2 n2 q2,.slice p3 n3 q3,.slice pr n1 qr,.slice p5 n2 q5,.slice p6 (2*n0) q6,.slice pg gl qg,.slice pp pl qp,.int .i64 ct]] v fun e w'=>∃p q,e=.returned (.slice p n0 q)/\Fe (fun b=>b<v.heap.size) w' (.slice p n0 q) (MV c f)/\Below v.heap.size v w'):=fun v hb=>by
         have h9:=H3.next hb;have h8:=S2 c HH.1 _ _ _ _ (.slice pr n1 qr) (.slice p5 n2 q5) (.slice p6 (2*n0) q6) (.slice pg gl qg) (.slice pp pl qp) (.int .i64 ct) f X S O HPI.rel v (HV.1.below h9.sp.b.bel) ⟨h9.co.row.row,fun x hx=>(h9.co.nums x hx).num⟩;rw[HN.1,HN.2.1,HN.2.2.1,HN.2.2.2.1]at h8;exact h8
        have HSO:Hid (S.map (·.h)=f.slots/\J6 c f.slots):=⟨HPI.rel.sl,HPI.ok.slotsL,HPI.ok.slots,HPI.rel.sz⟩
        have e3:¬ (n3:Int)<(n3:Int):=oM;obtain⟨g0,g1,g2,g3,g4,g5,g6,g7,g8,g9⟩:=H3.out.cells;clear hlt HPI;go_upto_region 31 with fail;have a0:wr.cell? ⟨w.heap.size+1,0,none⟩=some (.slice none 0 0):=H3.out.sp.b.q.cell (i:=0) dE;refine rG (fun v=>v.cell? ⟨w.heap.size+1+1,0,none⟩=some (.slice p0 n0 q0)/\v.cell? ⟨w.heap.size+1+1,1,none⟩=some (.slice p1 n1 q1)/\v.cell? ⟨w.heap.size+1+1,2,none⟩=some (.slice p2 n2 q2)/\v.cell? ⟨w.heap.size+1+1,3,none⟩=some (.slice p3 n3 q3)/\v.cell? ⟨FB,0,none⟩=some (.slice p0 n0 q0)/\v.cell? ⟨FB,1,none⟩=some (.slice p1 n1 q1)/\v.cell? ⟨FB,2,none⟩=some (.slice p2 n2 q2)/\v.cell? ⟨FB,3,none⟩=some (.slice p3 n3 q3)/\v.cell? ⟨FB,4,none⟩=some (.slice pr n1 qr)/\v.cell? ⟨FB,5,none⟩=some (.slice p5 n2 q5)/\v.cell? ⟨FB,6,none⟩=some (.slice p6 (2*n0) q6)/\v.cell? ⟨FB,7,none⟩=some (.slice pg gl qg)/\v.cell? ⟨FB,8,none⟩=some (.slice pp pl qp)/\v.cell? ⟨FB,9,none⟩=some (.int .i64 ct)) fun hJ=>?_;refine Tf 0 1 2 3 4 6 ?_;refine Bm 7 ?_;clear hJ;refine AC 5 fun K hK=>?_;go_simp;(go_at_call 21;(with_reducible refine(KUP.out _ (A4 _)).mono ?_);rintro e w5 ⟨pu,qu,rfl,hvs,hb5⟩;have HB5:Hid (Below wr.heap.size wr w5):=bel (A4 _) hb5;have H35:Hid (L3 T w (.slice p0 n0 q0) (.slice p1 n1 q1) (.slice p2 n2 q2) (.slice p3 n3 q3) (.slice ps n2 qs) FB pr p5 p6 n1 qr n2 q5 (2*n0) q6 (.slice pg gl qg) (.slice pp pl qp) ct X S O w5/\Fe (fun b=>b<wr.heap.size) w5 (.slice pu n0 qu) (MV c f)):=⟨H3.out.next HB5.out,hvs⟩;clear hb5 hvs c0 c1 c2 c3 g0 g1 g2 g3 g4 g5 g6 g7 g8 g9 a0;obtain⟨c0,c1,c2,c3⟩:=H35.out.1.code;obtain⟨g0,g1,g2,g3,g4,g5,g6,g7,g8,g9⟩:=H35.out.1.cells;have a0:w5.cell? ⟨w.heap.size+1,0,none⟩=some (.slice none 0 0):=H35.out.1.sp.b.q.cell (i:=0) dE;have b10:=H35.out.1.sp.b.q.frozen 0;have a1:w5.cell? ⟨w.heap.size+1,1,none⟩=some (.slice none 0 0):=H35.out.1.sp.b.q.cell (i:=1) dE;have b11:=H35.out.1.sp.b.q.frozen 1;have a2:w5.cell? ⟨w.heap.size+1,2,none⟩=some (.slice none 0 0):=H35.out.1.sp.b.q.cell (i:=2) dE;have b12:=H35.out.1.sp.b.q.frozen 2;have a3:w5.cell? ⟨w.heap.size+1,3,none⟩=some (.slice none 0 0):=H35.out.1.sp.b.q.cell (i:=3) dE;have b13:=H35.out.1.sp.b.q.frozen 3;have a4:w5.cell? ⟨w.heap.size+1,4,none⟩=some (.slice none 0 0):=H35.out.1.sp.b.q.cell (i:=4) dE;have b14:=H35.out.1.sp.b.q.frozen 4;have tc0:=Aw c0 Xh;have tc1:=Aw c1 Xh;have tc2:=Aw c2 Xh;have tc3:=Aw c3 Xh;have tg0:=Aw g0 Sy;have tg1:=Aw g1 Sy;have tg2:=Aw g2 Sy;have tg3:=Aw g3 Sy;have tg4:=Aw g4 Sy;have tg5:=Aw g5 Sy;have tg6:=Aw g6 Sy;have tg7:=Aw g7 Sy;have tg8:=Aw g8 Sy;have tg9:=Aw g9 Sy);try(go_wp2_with fail)
        refine AB hK fun hJ=>?_;clear hK K;clear hJ;refine AC 8 fun K hK=>?_;go_simp;refine AB hK fun hJ=>?_;clear hK K;refine Tc 9 10 11 ?_;refine wpAnyH_done kR ?_ _;go_wp2;refine bodyPost_ret XS rfl ?_;rw[HEJ.out,HEC.out];exact PC H35.1 oM H35.2 HSO.1 HSO.2
theorem J5(v0 v1 v2 v3:Value)(c:Cd)(hk:AZ c)(w:World)(hv:Cy w v0 v1 v2 v3 c):
 Calls prog 4 #[.agg #[v0,v1,v2,v3]] w fun e w'=>e=.returned (.tuple #[.int .i64 (if(Ag c).1=0 then Ed c else 0),.int .i64 (Ag c).1])/\Below w.heap.size w w':=by
 obtain⟨CV,hCV⟩:∃v,(if(Ag c).1=0 then Ed c else 0)=v:=⟨_,rfl⟩
 rw[hCV];obtain⟨E,hE⟩:∃e,(Ag c).1=e:=⟨_,rfl⟩
 have HE:=Aa hE;rw[hE]at hCV |-;have HCV:=Aa hCV;clear hCV;obtain⟨X,hX⟩:=gA (w.heap.size)
 obtain⟨W0,hW0⟩:∃W,w.alloc (.cells #[v0,v1,v2,v3] 27)=W:=⟨_,rfl⟩
 have hb0:Below w.heap.size w W0:=by rw[<-hW0];exact A0 _ _
 have x0:W0.cell? ⟨X,0,none⟩=some v0:=by rw[<-hW0,<-hX];simp[go_sem]
 have x1:W0.cell? ⟨X,1,none⟩=some v1:=by rw[<-hW0,<-hX];simp[go_sem]
 have x2:W0.cell? ⟨X,2,none⟩=some v2:=by rw[<-hW0,<-hX];simp[go_sem]
 have x3:W0.cell? ⟨X,3,none⟩=some v3:=by rw[<-hW0,<-hX];simp[go_sem]
 have HAT:Hid (B7 W0 X v0 v1 v2 v3 c):=by
  exact X7
 have KC:=Aa (ER v0 v1 v2 v3 c hk W0 (hv.below hb0));rw[hE]at KC;have HB0:=Aa hb0;have HW0:=Aa hW0;clear hv hb0 hE hk hW0;go_enter func4,ntmps4;go_upto_region 1 with fail;try rw[HW0.out]
 try rw[hX]
 clear hX;go_upto_region 2 with(go_at_call 9;(with_reducible refine KC.out.mono ?_);rintro e9 w4 ⟨rfl,hb4⟩;have HB4:=Aa hb4;clear hb4)
 have HB:=Aa (bel HB0.out HB4.out);clear x0 x1 x2 x3 KC;by_cases h0:E=0
 .subst h0;have KO:=Aa (GH X _ _ _ _ c HE.out w4 (HAT.below HB4.out));have HV:Hid (CV=Ed c):=by show _=_;rw[<-HCV.out,if_pos rfl]
  go_wp2_with(go_at_call 10;(with_reducible refine KO.out.mono ?_);rintro e9 w5 ⟨rfl,hb5⟩;have HB5:=Aa (bel HB.out hb5);clear hb5);refine bodyPost_ret (by simp[results,results4,go_sem, *];try rfl) rfl ?_;exact⟨by rw[HV.out],HB5.out⟩
 .have q1:(E==0)=false:=beq_eq_false_iff_ne.2 h0;have q2:(E != 0)=true:=by simp[h0]
  have HV:Hid (CV=0):=by show _=_;rw[<-HCV.out,if_neg h0]
  have H0:=Aa h0;clear h0;go_wp2_with fail;refine bodyPost_ret (by simp[results,results4,go_sem, *];try rfl) rfl ?_;exact⟨by rw[HV.out],HB.out⟩
theorem PI(v0 v1 v2 v3:Value)(c:Cd)(hk:AZ c)(w:World)(hv:Cy w v0 v1 v2 v3 c):
 Calls prog 12 #[.agg #[v0,v1,v2,v3]] w fun e w'=>e=.returned (.tuple #[.int .i64 (if(Ag c).1=0 then EM c else 0),.int .i64 (Ag c).1])/\Below w.heap.size w w':=by
 obtain⟨CV,hCV⟩:∃v,(if(Ag c).1=0 then EM c else 0)=v:=⟨_,rfl⟩
 rw[hCV];obtain⟨E,hE⟩:∃e,(Ag c).1=e:=⟨_,rfl⟩
 have HE:=Aa hE;rw[hE]at hCV |-;have HCV:=Aa hCV;clear hCV;obtain⟨X,hX⟩:=gA (w.heap.size)
 obtain⟨W0,hW0⟩:∃W,w.alloc (.cells #[v0,v1,v2,v3] 27)=W:=⟨_,rfl⟩
 have hb0:Below w.heap.size w W0:=by rw[<-hW0];exact A0 _ _
 have x0:W0.cell? ⟨X,0,none⟩=some v0:=by rw[<-hW0,<-hX];simp[go_sem]
 have x1:W0.cell? ⟨X,1,none⟩=some v1:=by rw[<-hW0,<-hX];simp[go_sem]
 have x2:W0.cell? ⟨X,2,none⟩=some v2:=by rw[<-hW0,<-hX];simp[go_sem]
 have x3:W0.cell? ⟨X,3,none⟩=some v3:=by rw[<-hW0,<-hX];simp[go_sem]
 have HAT:Hid (B7 W0 X v0 v1 v2 v3 c):=by
  exact X7
 have KC:=Aa (ER v0 v1 v2 v3 c hk W0 (hv.below hb0));rw[hE]at KC;have HB0:=Aa hb0;have HW0:=Aa hW0;clear hv hb0 hE hk hW0;go_enter func12,ntmps12;go_upto_region 1 with fail;try rw[HW0.out]
 try rw[hX]
 clear hX;go_upto_region 2 with(go_at_call 9;(with_reducible refine KC.out.mono ?_);rintro e9 w4 ⟨rfl,hb4⟩;have HB4:=Aa hb4;clear hb4)
 have HB:=Aa (bel HB0.out HB4.out);clear x0 x1 x2 x3 KC;by_cases h0:E=0
 .subst h0;have KO:=Aa (GI X _ _ _ _ c HE.out w4 (HAT.below HB4.out));have HV:Hid (CV=EM c):=by show _=_;rw[<-HCV.out,if_pos rfl]
  go_wp2_with(go_at_call 25;(with_reducible refine KO.out.mono ?_);rintro e9 w5 ⟨rfl,hb5⟩;have HB5:=Aa (bel HB.out hb5);clear hb5);refine bodyPost_ret (by simp[results,results12,go_sem, *];try rfl) rfl ?_;exact⟨by rw[HV.out],HB5.out⟩
 .have q1:(E==0)=false:=beq_eq_false_iff_ne.2 h0;have q2:(E != 0)=true:=by simp[h0]
  have HV:Hid (CV=0):=by show _=_;rw[<-HCV.out,if_neg h0]
  have H0:=Aa h0;clear h0;go_wp2_with fail;refine bodyPost_ret (by simp[results,results12,go_sem, *];try rfl) rfl ?_;exact⟨by rw[HV.out],HB.out⟩
theorem Ih(v0 v1 v2 v3:Value)(c:Cd)(hk:AZ c)(w:World)(hv:Cy w v0 v1 v2 v3 c):
 Calls prog 14 #[.agg #[v0,v1,v2,v3]] w fun e w'=>e=.returned (.int .i64 (Fp c))/\Below w.heap.size w w':=by
 obtain⟨CV,hCV⟩:∃v,Fp c=v:=⟨_,rfl⟩
 rw[hCV];have HCV:=Aa hCV;clear hCV;obtain⟨E,hE⟩:∃e,(Ag c).1=e:=⟨_,rfl⟩
 have HE:=Aa hE;obtain⟨X,hX⟩:=gA (w.heap.size)
 obtain⟨W0,hW0⟩:∃W,w.alloc (.cells #[v0,v1,v2,v3] 27)=W:=⟨_,rfl⟩
 have hb0:Below w.heap.size w W0:=by rw[<-hW0];exact A0 _ _
 have x0:W0.cell? ⟨X,0,none⟩=some v0:=by rw[<-hW0,<-hX];simp[go_sem]
 have x1:W0.cell? ⟨X,1,none⟩=some v1:=by rw[<-hW0,<-hX];simp[go_sem]
 have x2:W0.cell? ⟨X,2,none⟩=some v2:=by rw[<-hW0,<-hX];simp[go_sem]
 have x3:W0.cell? ⟨X,3,none⟩=some v3:=by rw[<-hW0,<-hX];simp[go_sem]
 have HAT:Hid (B7 W0 X v0 v1 v2 v3 c):=by
  exact X7
 have KC:=Aa (ER v0 v1 v2 v3 c hk W0 (hv.below hb0));rw[hE]at KC;have HB0:=Aa hb0;have HW0:=Aa hW0;clear hv hb0 hE hk hW0;go_enter func14,ntmps14;go_upto_region 1 with fail;try rw[HW0.out]
 try rw[hX]
 clear hX;go_upto_region 2 with(go_at_call 9;(with_reducible refine KC.out.mono ?_);rintro e9 w4 ⟨rfl,hb4⟩;have HB4:=Aa hb4;clear hb4)
 have HB:=Aa (bel HB0.out HB4.out);clear x0 x1 x2 x3 KC;by_cases h0:E=0
 .subst h0;have HV:Hid (Fp c=if 16777216<EM c then 261 else if 4294967296<Ed c then 260 else 0):=by show _=_;unfold Fp;rw[if_neg Xk]
  obtain⟨RV,hRV⟩:∃r,EM c=r:=⟨_,rfl⟩
  obtain⟨CO,hCV⟩:∃r,Ed c=r:=⟨_,rfl⟩
  have KR:=Aa (GI X _ _ _ _ c HE.out w4 (HAT.below HB4.out));have KO:=Aa (fun(v:World) (h:Below w4.heap.size w4 v)=>GH X _ _ _ _ c HE.out v ((HAT.below HB4.out).below h));have KJ:=Aa (fun v=>MX RV CO v);rw[hRV]at KR HV;rw[hCV]at KO HV;obtain⟨JV,hJV⟩:∃r,(if 16777216<RV then 261 else if 4294967296<CO then 260 else 0:Int)=r:=⟨_,rfl⟩
  rw[hJV]at KJ HV;have HVV:Hid (CV=JV):=by show _=_;rw[<-HCV.out,HV.out]
  clear hRV hCV hJV HV;go_wp2_with(first|(go_at_call 25;(with_reducible refine KR.out.mono ?_);rintro e9 w5 ⟨rfl,hb5⟩;have HB5:=Aa hb5;clear hb5)|(go_at_call 10;(with_reducible refine(KO.out _ HB5.out).mono ?_);rintro e9 w6 ⟨rfl,hb6⟩;have HB6:=Aa (bel HB.out (bel HB5.out hb6));clear hb6)|(go_at_call 26;(with_reducible refine(KJ.out _).mono ?_);rintro e9 w7 ⟨rfl,hw7⟩;have hw7:=hw7.symm;subst hw7));refine bodyPost_ret (by simp[results,results14,go_sem, *];try rfl) rfl ?_;exact⟨by rw[HVV.out],HB6.out⟩
 .have q1:(E==0)=false:=beq_eq_false_iff_ne.2 h0;have q2:(E != 0)=true:=by simp[h0]
  have HV:Hid (CV=E):=by show _=_;rw[<-HCV.out];unfold Fp;rw[if_pos (by rw[HE.out];exact h0),HE.out]
  have H0:=Aa h0;clear h0;go_wp2_with fail;refine bodyPost_ret (by simp[results,results14,go_sem, *];try rfl) rfl ?_;exact⟨by rw[HV.out],HB.out⟩
theorem JK(v0 v1 v2 v3:Value)(c:Cd)(hk:AZ c)(at_:Int)(w:World)(hv:Cy w v0 v1 v2 v3 c):
 Calls prog 13 #[.agg #[v0,v1,v2,v3],.int .i64 at_] w fun e w'=>e=.returned (.tuple #[.int .i64 (Cb c at_).1,.int .i64 (Cb c at_).2])/\Below w.heap.size w w':=by
 obtain⟨X1,hX1⟩:∃v,(Cb c at_).1=v:=⟨_,rfl⟩
 obtain⟨X2,hX2⟩:∃v,(Cb c at_).2=v:=⟨_,rfl⟩
 rw[hX1,hX2];have HXV:Hid (Cb c at_=(X1,X2)):=by show _=_;rw[<-hX1,<-hX2]
 clear hX1 hX2;obtain⟨E,hE⟩:∃e,(Ag c).1=e:=⟨_,rfl⟩
 have HE:=Aa hE;obtain⟨X,hX⟩:=gA (w.heap.size)
 obtain⟨W0,hW0⟩:∃W,w.alloc (.cells #[v0,v1,v2,v3] 27)=W:=⟨_,rfl⟩
 have hb0:Below w.heap.size w W0:=by rw[<-hW0];exact A0 _ _
 have x0:W0.cell? ⟨X,0,none⟩=some v0:=by rw[<-hW0,<-hX];simp[go_sem]
 have x1:W0.cell? ⟨X,1,none⟩=some v1:=by rw[<-hW0,<-hX];simp[go_sem]
 have x2:W0.cell? ⟨X,2,none⟩=some v2:=by rw[<-hW0,<-hX];simp[go_sem]
 have x3:W0.cell? ⟨X,3,none⟩=some v3:=by rw[<-hW0,<-hX];simp[go_sem]
 have HAT:Hid (B7 W0 X v0 v1 v2 v3 c):=by
  exact X7
 have KC:=Aa (ER v0 v1 v2 v3 c hk W0 (hv.below hb0));rw[hE]at KC;have HB0:=Aa hb0;have HW0:=Aa hW0;clear hv hb0 hE hk hW0;go_enter func13,ntmps13;go_upto_region 1 with fail;try rw[HW0.out]
 try rw[hX]
 clear hX;go_upto_region 2 with(go_at_call 9;(with_reducible refine KC.out.mono ?_);rintro e9 w4 ⟨rfl,hb4⟩;have HB4:=Aa hb4;clear hb4)
 have HB:=Aa (bel HB0.out HB4.out);clear x0 x1 x2 x3 KC;by_cases h0:E=0
 .subst h0;obtain⟨p3,q3,rfl,-⟩:=id HAT.2.list;have c3:w4.cell? ⟨X,3,none⟩=some (.slice p3 c.list.length q3):=kc HB4.out (HAT.1.at 3 rfl);by_cases hn:at_<0
  .have HV:Hid (Cb c at_=(0,1)):=by show _=_;unfold Cb;rw[if_neg Xk,if_neg (by rw[AR];omega)]
   have HVV:Hid (((X1,X2):Int×Int)=(0,1)):=by show _=_;rw[<-HXV.out,HV.out]
   clear HV;exact XE
  .by_cases hm:(c.list.length:Int)<=at_
   .have HV:Hid (Cb c at_=(0,1)):=by show _=_;unfold Cb;rw[if_neg Xk,if_neg (by rw[AR];omega)]
    have HVV:Hid (((X1,X2):Int×Int)=(0,1)):=by show _=_;rw[<-HXV.out,HV.out]
    obtain⟨L,hL⟩:∃n,c.list.length=n:=⟨_,rfl⟩
    rw[hL]at c3 hm;have hm2:at_≥(L:Int):=hm;clear HV hL;exact XE
   .obtain⟨k,rfl⟩:∃k:Nat,at_=(k:Int):=⟨at_.toNat,oM⟩
    have hkl:k<c.list.length:=oM;have HV:Hid (Cb c (k:Int)=(CI c c.list[k],0)):=by
     show _=_;unfold Cb;rw[if_neg Xk,if_pos (AR.2 ⟨oM,oM⟩),Int.toNat_natCast,gB hkl];rfl
    have HVV:Hid (((X1,X2):Int×Int)=(CI c c.list[k],0)):=by show _=_;rw[<-HXV.out,HV.out]
    obtain⟨hd,ha⟩:=UY HE.out c.list[k] (gD hkl);obtain⟨bb,oo,hpp,hcl⟩:=HAT.2.list.at hkl;have KW:=Aa (Ii X bb (oo+k*7) _ _ _ _ c (Js HE.out).1 c.list[k] hd ha (Ig HE.out) w4 (HAT.below HB4.out) (hcl.below HB4.out));obtain⟨WG,hWG⟩:∃g,CI c c.list[k]=g:=⟨_,rfl⟩
    rw[hWG]at KW HVV;obtain⟨L,hL⟩:∃n,c.list.length=n:=⟨_,rfl⟩
    rw[hL]at c3 hkl hm;have e1:¬ (k:Int)<0:=oM;have e2:¬ ((k:Int)≥(L:Int)):=oM;have e3:(k:Int)<(L:Int):=oM;have i1:(0:Int)<=(k:Int):=oM;subst hpp;clear HV hL hd ha hcl hWG hn;go_wp2_with(go_at_call 24;(with_reducible refine KW.out.mono ?_);rintro e9 w5 ⟨rfl,hb5⟩;have HB5:=Aa (bel HB.out hb5);clear hb5);refine bodyPost_ret (by simp[results,results13,go_sem, *];try rfl) rfl ?_;exact⟨by rw[(Prod.mk.inj HVV.out).1,(Prod.mk.inj HVV.out).2],HB5.out⟩
 .have q1:(E==0)=false:=beq_eq_false_iff_ne.2 h0;have q2:(E != 0)=true:=by simp[h0]
  have HV:Hid (Cb c at_=(0,E)):=by show _=_;unfold Cb;rw[if_pos (by rw[HE.out];exact h0),HE.out]
  have HVV:Hid (((X1,X2):Int×Int)=(0,E)):=by show _=_;rw[<-HXV.out,HV.out]
  have H0:=Aa h0;clear h0 HV;exact XE
section
variable {c : Cd} {G P : List (List Int)} {f f' : Fr}
end
section
variable {c : Cd} {G P : List (List Int)} {f f' : Fr} {i : Am} {L R : List Am} {s : RW} {x x' : Wk} {k : Nat}
end
theorem PA{c:Cd}(hg:Good c)(hk:AZ c):J6 c (BM c):=
 ⟨(by unfold BM;simp),fun j h h'=>(by rw[J1 h' h];exact JW hg (gD h) (hk.sbits _ (gD h))),UE hg⟩
theorem MH(p0 p1 p2 p3 ps pg pp:Option Addr)(q0 q1 q2 q3 qs qg qp:Nat)(c:Cd)(hg:Good c)(hk:AZ c)(G P:List (List Int))(kG:GJ G)(kP:GJ P)(hf:Fg c G P=false)(w:World)
 (hv:Cy w (.slice p0 c.sign.length q0) (.slice p1 c.regs.length q1) (.slice p2 c.slots.length q2) (.slice p3 c.list.length q3) c) (hgv:JM w (.slice pg G.length qg) G) (hpv:JM w (.slice pp P.length qp) P):
 Calls prog 8 #[.agg #[.slice p0 c.sign.length q0,.slice p1 c.regs.length q1,.slice p2 c.slots.length q2,.slice p3 c.list.length q3,.slice ps c.slots.length qs],.slice pg G.length qg,.slice pp P.length qp] w fun e w'=>e=.returned (.tuple #[.agg #[.slice p0 c.sign.length q0,.slice p1 c.regs.length q1,.slice p2 c.slots.length q2,.slice p3 c.list.length q3,.slice ps c.slots.length qs],.slice none 0 0,.int .i64 170,.int .i64 0])/\Below w.heap.size w w':=by
 unfold Fg at hf;obtain⟨fG,hfG⟩:∃b,Bq c.sign (G.map (·.length))=b:=⟨_,rfl⟩
 obtain⟨fP,hfP⟩:∃b,Bq c.sign (P.map (·.length))=b:=⟨_,rfl⟩
 rw[hfG,hfP]at hf;have KF1:Hid (∀v,Below w.heap.size w v->Calls prog 17 #[.slice p0 c.sign.length q0,.slice pg G.length qg] v fun e w'=>e=.returned (.bool fG)/\Below v.heap.size v w'):=fun v hb=>by have h1:=Ds (.slice p0 c.sign.length q0) c.sign hg.signL hk.names (.slice pg G.length qg) G kG.len kG.lens v (hv.sign.below hb) (hgv.below hb);rw[hfG]at h1;exact h1
 have KF2:Hid (∀v,Below w.heap.size w v->Calls prog 17 #[.slice p0 c.sign.length q0,.slice pp P.length qp] v fun e w'=>e=.returned (.bool fP)/\Below v.heap.size v w'):=fun v hb=>by have h1:=Ds (.slice p0 c.sign.length q0) c.sign hg.signL hk.names (.slice pp P.length qp) P kP.len kP.lens v (hv.sign.below hb) (hpv.below hb);rw[hfP]at h1;exact h1
 obtain⟨n0,hn0⟩:∃n,c.sign.length=n:=⟨_,rfl⟩
 obtain⟨n1,hn1⟩:∃n,c.regs.length=n:=⟨_,rfl⟩
 obtain⟨n2,hn2⟩:∃n,c.slots.length=n:=⟨_,rfl⟩
 obtain⟨n3,hn3⟩:∃n,c.list.length=n:=⟨_,rfl⟩
 obtain⟨gl,hgl⟩:∃n,G.length=n:=⟨_,rfl⟩
 obtain⟨pl,hpl⟩:∃n,P.length=n:=⟨_,rfl⟩
 rw[hn0,hgl]at KF1;rw[hn0,hpl]at KF2;rw[hn0,hn1,hn2,hn3,hgl,hpl];have HSB0:Hid (SB w (.slice p0 n0 q0) (.slice p1 n1 q1) (.slice p2 n2 q2) (.slice p3 n3 q3) (.slice ps n2 qs) _):=SB.start w (.slice p0 n0 q0) (.slice p1 n1 q1) (.slice p2 n2 q2) (.slice p3 n3 q3) (.slice ps n2 qs);clear hg hk kG kP hv hgv hpv hn0 hn1 hn2 hn3 hgl hpl hfG hfP;go_enter func8,ntmps8;go_upto_region 2 with fail;obtain⟨W0,hW0⟩:∃W,(((w.alloc (.cells #[.slice p0 n0 q0,.slice p1 n1 q1,.slice p2 n2 q2,.slice p3 n3 q3,.slice ps n2 qs] 36)).alloc (.cells #[.slice none 0 0,.slice none 0 0,.slice none 0 0,.slice none 0 0,.slice none 0 0] 36)).alloc (.cells #[.slice p0 n0 q0,.slice p1 n1 q1,.slice p2 n2 q2,.slice p3 n3 q3] 27))=W:=⟨_,rfl⟩
 rw[hW0]at HSB0;rw[hW0];clear hW0;have c0:W0.cell? ⟨w.heap.size+1+1,0,none⟩=some (.slice p0 n0 q0):=HSB0.c.cell (i:=0) dE;have FIN:Hid (∀v,SB w (.slice p0 n0 q0) (.slice p1 n1 q1) (.slice p2 n2 q2) (.slice p3 n3 q3) (.slice ps n2 qs) v->∀u0 u1 u2 u3 u4,Below w.heap.size w (((((v.setCell ⟨w.heap.size+1,0,none⟩ u0).setCell ⟨w.heap.size+1,1,none⟩ u1).setCell ⟨w.heap.size+1,2,none⟩ u2).setCell ⟨w.heap.size+1,3,none⟩ u3).setCell ⟨w.heap.size+1,4,none⟩ u4)):=fun v h u0 u1 u2 u3 u4=>((((h.bel.setCell J9 _).setCell J9 _).setCell J9 _).setCell J9 _).setCell J9 _;cases fG with
 |false=>
  clear hf KF2;go_wp2_with(go_at_call 17;(with_reducible refine(KF1.out _ HSB0.out.bel).mono ?_);rintro e w1 ⟨rfl,hb1⟩;have HSB1:Hid (SB w (.slice p0 n0 q0) (.slice p1 n1 q1) (.slice p2 n2 q2) (.slice p3 n3 q3) (.slice ps n2 qs) w1):=HSB0.out.next hb1;clear hb1 c0;have r0:w1.cell? ⟨w.heap.size,0,none⟩=some (.slice p0 n0 q0):=HSB1.out.r.cell (i:=0) dE;have r1:w1.cell? ⟨w.heap.size,1,none⟩=some (.slice p1 n1 q1):=HSB1.out.r.cell (i:=1) dE;have r2:w1.cell? ⟨w.heap.size,2,none⟩=some (.slice p2 n2 q2):=HSB1.out.r.cell (i:=2) dE;have r3:w1.cell? ⟨w.heap.size,3,none⟩=some (.slice p3 n3 q3):=HSB1.out.r.cell (i:=3) dE;have r4:w1.cell? ⟨w.heap.size,4,none⟩=some (.slice ps n2 qs):=HSB1.out.r.cell (i:=4) dE;have a0:w1.cell? ⟨w.heap.size+1,0,none⟩=some (.slice none 0 0):=HSB1.out.q.cell (i:=0) dE;have a1:w1.cell? ⟨w.heap.size+1,1,none⟩=some (.slice none 0 0):=HSB1.out.q.cell (i:=1) dE;have a2:w1.cell? ⟨w.heap.size+1,2,none⟩=some (.slice none 0 0):=HSB1.out.q.cell (i:=2) dE;have a3:w1.cell? ⟨w.heap.size+1,3,none⟩=some (.slice none 0 0):=HSB1.out.q.cell (i:=3) dE;have a4:w1.cell? ⟨w.heap.size+1,4,none⟩=some (.slice none 0 0):=HSB1.out.q.cell (i:=4) dE;have b0:=HSB1.out.q.frozen 0;have b1:=HSB1.out.q.frozen 1;have b2:=HSB1.out.q.frozen 2;have b3:=HSB1.out.q.frozen 3;have b4:=HSB1.out.q.frozen 4);refine bodyPost_ret XS rfl ?_;exact⟨rfl,FIN.out _ HSB1.out _ _ _ _ _⟩
 |true=>
  have hfP:fP=false:=by simpa using hf
  subst hfP;clear hf;go_wp2_with(first
   |(go_at_call 17;(with_reducible refine(KF1.out _ HSB0.out.bel).mono ?_);rintro e w1 ⟨rfl,hb1⟩;have HSB1:Hid (SB w (.slice p0 n0 q0) (.slice p1 n1 q1) (.slice p2 n2 q2) (.slice p3 n3 q3) (.slice ps n2 qs) w1):=HSB0.out.next hb1;clear hb1 c0;have c0:w1.cell? ⟨w.heap.size+1+1,0,none⟩=some (.slice p0 n0 q0):=HSB1.out.c.cell (i:=0) dE)
   |(go_at_call 17;(with_reducible refine(KF2.out _ HSB1.out.bel).mono ?_);rintro e w2 ⟨rfl,hb2⟩;have HSB2:Hid (SB w (.slice p0 n0 q0) (.slice p1 n1 q1) (.slice p2 n2 q2) (.slice p3 n3 q3) (.slice ps n2 qs) w2):=HSB1.out.next hb2;clear hb2 c0;have r0:w2.cell? ⟨w.heap.size,0,none⟩=some (.slice p0 n0 q0):=HSB2.out.r.cell (i:=0) dE;have r1:w2.cell? ⟨w.heap.size,1,none⟩=some (.slice p1 n1 q1):=HSB2.out.r.cell (i:=1) dE;have r2:w2.cell? ⟨w.heap.size,2,none⟩=some (.slice p2 n2 q2):=HSB2.out.r.cell (i:=2) dE;have r3:w2.cell? ⟨w.heap.size,3,none⟩=some (.slice p3 n3 q3):=HSB2.out.r.cell (i:=3) dE;have r4:w2.cell? ⟨w.heap.size,4,none⟩=some (.slice ps n2 qs):=HSB2.out.r.cell (i:=4) dE;have a0:w2.cell? ⟨w.heap.size+1,0,none⟩=some (.slice none 0 0):=HSB2.out.q.cell (i:=0) dE;have a1:w2.cell? ⟨w.heap.size+1,1,none⟩=some (.slice none 0 0):=HSB2.out.q.cell (i:=1) dE;have a2:w2.cell? ⟨w.heap.size+1,2,none⟩=some (.slice none 0 0):=HSB2.out.q.cell (i:=2) dE;have a3:w2.cell? ⟨w.heap.size+1,3,none⟩=some (.slice none 0 0):=HSB2.out.q.cell (i:=3) dE;have a4:w2.cell? ⟨w.heap.size+1,4,none⟩=some (.slice none 0 0):=HSB2.out.q.cell (i:=4) dE;have b0:=HSB2.out.q.frozen 0;have b1:=HSB2.out.q.frozen 1;have b2:=HSB2.out.q.frozen 2;have b3:=HSB2.out.q.frozen 3;have b4:=HSB2.out.q.frozen 4))
  refine bodyPost_ret XS rfl ?_;exact⟨rfl,FIN.out _ HSB2.out _ _ _ _ _⟩
end Go.Proofs.YtjglaibglofddaaGreat
