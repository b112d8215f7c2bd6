import Derived.Test.YtnbccaicijcklaaGreatMns1
import Derived.Test.YtnbccaicijcklaaGreatMns18
import Derived.Deep.CutBlock
import Derived.Deep.DeepCutAuto
import Derived.Test.YtnbccaicijcklaaGreatMns12
import Derived.Test.YtnbccaicijcklaaGreatMns10
import Derived.Lib.SliceRun
import Derived.Test.YtnbccaicijcklaaGreatMns16
import Derived.Test.YtnbccaicijcklaaGreatMns17
namespace Go.Proofs.YtnbccaicijcklaaGreat
open Go.RowKit Go.Proofs.Tryz
set_option linter.all false
set_option maxRecDepth 100000
set_option maxHeartbeats 16000000
theorem Ui{T:Nat->Prop}{w:World}{a0 a1 a2 a3 a4:Value}{FB:Nat}{pr p5 p6:Option Addr}{n1 qr n2 q5 no q6:Nat}{gv pv:Value}{ct:Int}{X S O:List Cl}{v:World}{c:Cd}{l:List Hd}{pu:Option Addr}{n0 qu:Nat}{L:List (List Int)}{u0 u1 u2 u3 u4:Value}{d0 d1 d2 d3:Value}(h:L3 T w a0 a1 a2 a3 a4 FB pr p5 p6 n1 qr n2 q5 no q6 gv pv ct X S O v){NB:Nat}(hNB:w.heap.size+1+1<NB)(hv:F7 (fun b=>b<NB) v (.slice pu n0 qu) L)(hs:S.map (·.h)=l)(ho:Ib c l):
 ∃p5' q5' pu' qu' k S',Ending.returned (.tuple #[.agg #[d0,d1,d2,d3,.slice p5 n2 q5],.slice pu n0 qu,.int .i64 0,.int .i64 ct])=.returned (.tuple #[.agg #[d0,d1,d2,d3,.slice p5' n2 q5'],.slice pu' n0 qu',.int .i64 0,.int .i64 k])/\S'.map (·.h)=l/\AT T (((((v.setCell ⟨w.heap.size+1,0,none⟩ u0).setCell ⟨w.heap.size+1,1,none⟩ u1).setCell ⟨w.heap.size+1,2,none⟩ u2).setCell ⟨w.heap.size+1,3,none⟩ u3).setCell ⟨w.heap.size+1,4,none⟩ u4) (.slice p5' n2 q5') S'/\F7 (fun b=>b<w.heap.size) (((((v.setCell ⟨w.heap.size+1,0,none⟩ u0).setCell ⟨w.heap.size+1,1,none⟩ u1).setCell ⟨w.heap.size+1,2,none⟩ u2).setCell ⟨w.heap.size+1,3,none⟩ u3).setCell ⟨w.heap.size+1,4,none⟩ u4) (.slice pu' n0 qu') L/\Ib c l/\Below w.heap.size w (((((v.setCell ⟨w.heap.size+1,0,none⟩ u0).setCell ⟨w.heap.size+1,1,none⟩ u1).setCell ⟨w.heap.size+1,2,none⟩ u2).setCell ⟨w.heap.size+1,3,none⟩ u3).setCell ⟨w.heap.size+1,4,none⟩ u4):=by
 have hu:Un (fun b=>b=w.heap.size+1) v (((((v.setCell ⟨w.heap.size+1,0,none⟩ u0).setCell ⟨w.heap.size+1,1,none⟩ u1).setCell ⟨w.heap.size+1,2,none⟩ u2).setCell ⟨w.heap.size+1,3,none⟩ u3).setCell ⟨w.heap.size+1,4,none⟩ u4):=(((((Un.refl _ _).setCell rF _).setCell rF _).setCell rF _).setCell rF _).setCell rF _;refine⟨p5,q5,pu,qu,ct,S,rfl,hs,(h.cs.un hu fun b _ e=>.inr (.inl ⟨oM,oM⟩)).mono fun b _ e=>.inl e,?_,ho,?_⟩
 .exact(hv.un hu fun b _ e=>by omega).mono fun b _ e=>by omega
 .exact((((h.sp.b.bel.setCell Pd _).setCell Pd _).setCell Pd _).setCell Pd _).setCell Pd _
theorem Un.step{U:Nat->Prop}{a b d:World}(h:Un U a b)(k:Below a.heap.size b d):Un U a d:=⟨k.os.trans h.os,k.tape.trans h.tape,k.output.trans h.output,gH h.size k.size,fun x hx hu=>(k.block x hx).trans (h.block x hx hu)⟩
theorem YD{T:Nat->Prop}{E:Nat}{v:World}{sv:Value}{Y:List Cl}(h:Jt E v sv Y)(hT:∀b,T b->b<E)(hl:∀x∈Y,∀b o s,x.p=some ⟨b,o,s⟩->x.h.pats≠[]->¬T b):AT T v sv Y:=by
 refine⟨Hl H8 h.own hT,fun x hx=>?_⟩;exact Zec
theorem As{v:World}{a:Addr}{x:Value}{B:Nat}(h:v.cell? a=some x)(hne:¬a.block=B):∀u0 u1 u2 u3 u4,(((((v.setCell ⟨B,0,none⟩ u0).setCell ⟨B,1,none⟩ u1).setCell ⟨B,2,none⟩ u2).setCell ⟨B,3,none⟩ u3).setCell ⟨B,4,none⟩ u4).cell? a=some x:=fun u0 u1 u2 u3 u4=>AN (AN (AN (AN (AN h hne u0) hne u1) hne u2) hne u3) hne u4
theorem Ap{v:World}{a:Addr}{x:Value}{B i:Nat}(h:v.cell? a=some x)(hne:¬a.block=B):∀u,(v.setCell ⟨B,i,none⟩ u).cell? a=some x:=fun u=>AN h hne u
theorem Ox{T:Nat->Prop}(p0 p1 p2 p3 ps pg pp:Option Addr)(q0 q1 q2 q3 qs qg qp:Nat)(c:Cd)(hc:(Ai c).1=0)(hk:Ba c)(l:List Hd)(hso:Ib c l)(S0:List Cl)(hS0:S0.map (·.h)=l)(G P:List (List Int))(kG:FI G)(kP:FI P)(hf:Ev c G P=true)(w:World)(hT:∀b,T b->b<w.heap.size)
 (hv:CD w (.slice p0 c.sign.length q0) (.slice p1 c.regs.length q1) (.slice p2 c.slots.length q2) (.slice p3 c.list.length q3) c) (hss:AT T w (.slice ps c.slots.length qs) S0) (hgv:Jh w (.slice pg G.length qg) G) (hpv:Jh w (.slice pp P.length qp) P):
 Calls prog 25 #[.agg #[.slice p0 c.sign.length q0,.slice p1 c.regs.length q1,.slice p2 c.slots.length q2,.slice p3 c.list.length q3,.slice ps c.slots.length qs],.slice pg G.length qg,.slice pp P.length qp] w fun e w'=>∃p5 q5 pu qu k S',e=.returned (.tuple #[.agg #[.slice p0 c.sign.length q0,.slice p1 c.regs.length q1,.slice p2 c.slots.length q2,.slice p3 c.list.length q3,.slice p5 c.slots.length q5],.slice pu c.sign.length qu,.int .i64 0,.int .i64 k])/\S'.map (·.h)=(EO c l G P).slots/\AT T w' (.slice p5 c.slots.length q5) S'/\F7 (fun b=>b<w.heap.size) w' (.slice pu c.sign.length qu) (Gg c (EO c l G P))/\Ib c (EO c l G P).slots/\Below w.heap.size w w':=by
 obtain⟨hg,htk⟩:=Ez hc;have hfG:C8 c.sign (G.map (·.length))=true:=by unfold Ev at hf;simp only[Bool.and_eq_true]at hf;exact hf.1
 have hfP:C8 c.sign (P.map (·.length))=true:=by unfold Ev at hf;simp only[Bool.and_eq_true]at hf;exact hf.2
 have fg:F5 c G:=R5 hfG kG hg;have fp:F5 c P:=R5 hfP kP hg;have KF1:Hid (∀v,Below w.heap.size w v->Calls prog 41 #[.slice p0 c.sign.length q0,.slice pg G.length qg] v fun e w'=>e=.returned (.bool true)/\Below v.heap.size v w'):=fun v hb=>by have h1:=EG (.slice p0 c.sign.length q0) c.sign hg.signL hk.names (.slice pg G.length qg) G kG.len kG.lens v (hv.sign.below hb) (hgv.below hb);rw[hfG]at h1;exact h1
 have KF2:Hid (∀v,Below w.heap.size w v->Calls prog 41 #[.slice p0 c.sign.length q0,.slice pp P.length qp] v fun e w'=>e=.returned (.bool true)/\Below v.heap.size v w'):=fun v hb=>by have h1:=EG (.slice p0 c.sign.length q0) c.sign hg.signL hk.names (.slice pp P.length qp) P kP.len kP.lens v (hv.sign.below hb) (hpv.below hb);rw[hfP]at h1;exact h1
 have HKF:Hid (∀s∈c.slots,∀v,Below w.heap.size w v->Calls prog 24 #[.agg #[.slice p0 c.sign.length q0,.slice p1 c.regs.length q1,.slice p2 c.slots.length q2,.slice p3 c.list.length q3],.agg #[.int .i64 s.ty.kind,.int .i64 s.ty.par,.bool s.keep,.int .u32 s.bits,.int .i64 s.int_]] v fun e w'=>∃p q,e=.returned (.agg #[.slice p (Bf c s).pats.length q,.int .i64 (Bf c s).whole])/\C6 w' p (Bf c s).pats/\Below v.heap.size v w'/\∀b o s,p=some ⟨b,o,s⟩->v.heap.size<=b):=fun s hs v hb=>Kk _ _ _ _ c hg s (hg.slots s hs) ⟨(hk.sbits s hs).1,(hk.sbits s hs).2⟩ v (hv.below hb);have HH:Hid (Good c/\AR c ⟨[],[]⟩ c.list=true/\Ba c/\Ib c l/\S0.map (·.h)=l/\F5 c G/\F5 c P/\(∀b,T b->b<w.heap.size)):=⟨hg,htk,hk,hso,hS0,fg,fp,hT⟩
 have HV:Hid (CD w (.slice p0 c.sign.length q0) (.slice p1 c.regs.length q1) (.slice p2 c.slots.length q2) (.slice p3 c.list.length q3) c/\AT T w (.slice ps c.slots.length qs) S0/\Jh w (.slice pg G.length qg) G/\Jh w (.slice pp P.length qp) P):=⟨hv,hss,hgv,hpv⟩
 have b0:=hg.signL;have b1:=hg.regsL;have b2:=hg.slotsL;have b3:=hg.listL;obtain⟨n0,hn0⟩:∃n,c.sign.length=n:=⟨_,rfl⟩
 obtain⟨n1,hn1⟩:∃n,c.regs.length=n:=⟨_,rfl⟩
 obtain⟨n2,hn2⟩:∃n,c.slots.length=n:=⟨_,rfl⟩
 obtain⟨n3,hn3⟩:∃n,c.list.length=n:=⟨_,rfl⟩
 obtain⟨gl,hgl⟩:∃n,G.length=n:=⟨_,rfl⟩
 obtain⟨pl,hpl⟩:∃n,P.length=n:=⟨_,rfl⟩
 have HN:Hid (c.sign.length=n0/\c.regs.length=n1/\c.slots.length=n2/\c.list.length=n3/\G.length=gl/\P.length=pl):=⟨hn0,hn1,hn2,hn3,hgl,hpl⟩
 rw[hn0,hgl]at KF1;rw[hn0,hpl]at KF2;rw[hn0,hn1,hn2,hn3]at HKF;rw[hn0]at b0;rw[hn1]at b1;rw[hn2]at b2;rw[hn3]at b3;rw[hn0,hn1,hn2,hn3,hgl,hpl];have HSB0:Hid (SB w (.slice p0 n0 q0) (.slice p1 n1 q1) (.slice p2 n2 q2) (.slice p3 n3 q3) (.slice ps n2 qs) _):=SB.start w (.slice p0 n0 q0) (.slice p1 n1 q1) (.slice p2 n2 q2) (.slice p3 n3 q3) (.slice ps n2 qs);clear hc hk hso hS0 kG kP hf hT hv hss hgv hpv hg htk hfG hfP fg fp hn0 hn1 hn2 hn3 hgl hpl;go_enter func25,ntmps25;go_upto_region 2 with fail;obtain⟨W0,hW0⟩:∃W,(((w.alloc (.cells #[.slice p0 n0 q0,.slice p1 n1 q1,.slice p2 n2 q2,.slice p3 n3 q3,.slice ps n2 qs] 43)).alloc (.cells #[.slice none 0 0,.slice none 0 0,.slice none 0 0,.slice none 0 0,.slice none 0 0] 43)).alloc (.cells #[.slice p0 n0 q0,.slice p1 n1 q1,.slice p2 n2 q2,.slice p3 n3 q3] 27))=W:=⟨_,rfl⟩
 rw[hW0]at HSB0;rw[hW0];clear hW0;have c0:W0.cell? ⟨w.heap.size+1+1,0,none⟩=some (.slice p0 n0 q0):=HSB0.c.cell (i:=0) dE;go_upto_region 4 with(first
  |(go_at_call 41;(with_reducible refine(KF1.out _ HSB0.out.bel).mono ?_);rintro e w1 ⟨rfl,hb1⟩;have HSB1:Hid (SB w (.slice p0 n0 q0) (.slice p1 n1 q1) (.slice p2 n2 q2) (.slice p3 n3 q3) (.slice ps n2 qs) w1):=HSB0.out.next hb1;clear hb1 c0;have c0:w1.cell? ⟨w.heap.size+1+1,0,none⟩=some (.slice p0 n0 q0):=HSB1.out.c.cell (i:=0) dE)
  |(go_at_call 41;(with_reducible refine(KF2.out _ HSB1.out.bel).mono ?_);rintro e w2 ⟨rfl,hb2⟩;have HSB2:Hid (SB w (.slice p0 n0 q0) (.slice p1 n1 q1) (.slice p2 n2 q2) (.slice p3 n3 q3) (.slice ps n2 qs) w2):=HSB1.out.next hb2;clear hb2 c0))
 clear HSB0 HSB1 KF1 KF2;go_cut [11] (fun fv wx=>∃FB RB,fv=.pointer (some ⟨FB,0,none⟩)/\Hid (Jv w (.slice p0 n0 q0) (.slice p1 n1 q1) (.slice p2 n2 q2) (.slice p3 n3 q3) (.slice ps n2 qs) FB (D4 (.slice p0 n0 q0) (.slice p1 n1 q1) (.slice p2 n2 q2) (.slice p3 n3 q3) (.slice (some ⟨RB,0,none⟩) n1 n1) (.slice none 0 0) (.slice none 0 0) (.slice pg gl qg) (.slice pp pl qp) (.int .i64 0)) wx)/\Hid (AT (T4 w T FB) wx (.slice (some ⟨RB,0,none⟩) n1 n1) (Ss n1)))
 case first=>
  have c0:w2.cell? ⟨w.heap.size+1+1,0,none⟩=some (.slice p0 n0 q0):=HSB2.c.cell (i:=0) dE;have c1:w2.cell? ⟨w.heap.size+1+1,1,none⟩=some (.slice p1 n1 q1):=HSB2.c.cell (i:=1) dE;have c2:w2.cell? ⟨w.heap.size+1+1,2,none⟩=some (.slice p2 n2 q2):=HSB2.c.cell (i:=2) dE;have c3:w2.cell? ⟨w.heap.size+1+1,3,none⟩=some (.slice p3 n3 q3):=HSB2.c.cell (i:=3) dE;have hmk:=fun v=>Tq n1 b1 v;have d0:=fun o=>kc (A0 w2 o) c0;have d1:=fun o=>kc (A0 w2 o) c1;have d2:=fun o=>kc (A0 w2 o) c2;have d3:=fun o=>kc (A0 w2 o) c3;have e0:=fun o o'=>kc (A0 (w2.alloc o) o') (d0 o);have e1:=fun o o'=>kc (A0 (w2.alloc o) o') (d1 o);have e2:=fun o o'=>kc (A0 (w2.alloc o) o') (d2 o);have e3:=fun o o'=>kc (A0 (w2.alloc o) o') (d3 o);have hz2:=HSB2.size;refine rG (fun v=>v.cell? ⟨w.heap.size+1+1,0,none⟩=some (.slice p0 n0 q0)/\v.cell? ⟨w.heap.size+1+1,1,none⟩=some (.slice p1 n1 q1)/\v.cell? ⟨w.heap.size+1+1,2,none⟩=some (.slice p2 n2 q2)/\v.cell? ⟨w.heap.size+1+1,3,none⟩=some (.slice p3 n3 q3)) fun hJ=>?_;refine Tf 0 1 2 3 5 6 ?_;clear hJ;refine wpAnyH_ready (rs:=[4,8]) kR sM ?_;refine DP 4 (fun K hK=>?_) ?_
  .go_simp;refine Aq hK fun hJ=>?_;clear hK K;refine Bo 7 ?_;clear hJ;refine Aw 8 fun K hK=>?_;go_simp;refine Aq hK fun hJ=>?_;clear hK K;exact Zcd
  refine DP 8 (fun K hK=>?_) AllReadyH.nil;go_simp;refine Aq hK fun hJ=>?_;clear hK K;clear hJ;refine Aw 4 fun K hK=>?_;go_simp;refine Aq hK fun hJ=>?_;clear hK K;refine Bo 7 ?_;exact Zcd
 case rest=>
  obtain⟨FB,RB,rfl,HSP,HCS⟩:=hcut;clear HSB2;have hFE:FB<wc.heap.size:=HSP.f.lt;have hF2:=HSP.hF;have c2:wc.cell? ⟨w.heap.size+1+1,2,none⟩=some (.slice p2 n2 q2):=HSP.b.c.cell (i:=2) dE;go_wp2
  go_loopw [12] (fun iv wr=>∃ (j:Nat) (p5:Option Addr) (q5:Nat) (Y:List Cl),j<=n2/\iv=.int .i64 (j:Int)/\Hid (L1 T w (.slice p0 n0 q0) (.slice p1 n1 q1) (.slice p2 n2 q2) (.slice p3 n3 q3) (.slice ps n2 qs) FB wc.heap.size (D4 (.slice p0 n0 q0) (.slice p1 n1 q1) (.slice p2 n2 q2) (.slice p3 n3 q3) (.slice (some ⟨RB,0,none⟩) n1 n1) (.slice p5 j q5) (.slice none 0 0) (.slice pg gl qg) (.slice pp pl qp) (.int .i64 0)) wr (.slice p5 j q5) Y)/\Hid (Un (fun b=>b=FB) wc wr)/\Hid (Y.map (·.h)=(Nn c l).take j)) (fun iv _=>n2-(intOf iv).toNat)
  case atStart=>exact⟨0,none,0,[],gI _,rfl,⟨HSP.out,gF _,Jt.nil _ _,fun x hx=>by cases hx⟩,Un.refl _ _,rfl⟩
  case round=>
   clear c2;obtain⟨j,p5,q5,Y,hj,rfl,hl1,hun,hmap⟩:=hrel;have c2:wr.cell? ⟨w.heap.size+1+1,2,none⟩=some (.slice p2 n2 q2):=hl1.sp.b.c.cell (i:=2) dE;have hYl:Y.length=j:=by
    have h5:=congrArg List.length hmap.out;rw[List.length_map,List.length_take,Es HH.2.2.2.1.len,HN.2.2.1]at h5;omega
   have HYL:Hid (Y.length=j):=hYl;clear hYl;by_cases hlt:j<n2
   .have hll:j<c.slots.length:=by rw[HN.2.2.1];exact hlt
    have hb:=hl1.sp.b.bel;have HBW:Hid (Below w.heap.size w wr):=hb;obtain⟨lb,lo,hp2,hx⟩:=HV.1.slots.at hll;have hsl:j<S0.length:=by have h5:=congrArg List.length HH.2.2.2.2.1;rw[List.length_map,HH.2.2.2.1.len]at h5;omega
    obtain⟨rb,ro,hps,hxr⟩:=HV.2.1.row.row.at hsl;have hnx:=HV.2.1.nums _ (gD hsl);have KF1:=HKF.out c.slots[j] (gD hll);have hat:=Jw HH.2.2.2.1.len hll (by rw[Es HH.2.2.2.1.len];exact hll);have hSj:(S0[j]).h=l[j]'(by rw[HH.2.2.2.1.len];exact hll):=by
     have h5:(S0.map (·.h))[j]? =some (S0[j]).h:=by rw[List.getElem?_map,gB hsl];rfl
     rw[HH.2.2.2.2.1,gB (by rw[HH.2.2.2.1.len];exact hll)]at h5;simp only[Option.some.injEq]at h5;exact h5.symm
    have HMN:Hid (∀h',h'=(if c.slots[j].keep then(S0[j]).h else Bf c c.slots[j])->(Y.map (·.h))++[h']=(Nn c l).take (j+1)):=fun h' e=>by
     rw[hmap.out,List.take_succ_eq_append_getElem (by rw[Es HH.2.2.2.1.len];exact hll),hat,e,hSj]
    obtain⟨xs,hxs⟩:∃x,S0[j]=x:=⟨_,rfl⟩
    rw[hxs]at hxr hnx HMN;obtain⟨s9,hs9⟩:∃s,c.slots[j]=s:=⟨_,rfl⟩
    rw[hs9]at hx KF1 HMN;obtain⟨H9,hH9⟩:∃h,Bf c s9=h:=⟨_,rfl⟩
    rw[hH9]at KF1 HMN;obtain⟨⟨tk,tp⟩,kp,sb,si⟩:=s9;simp only at KF1 HMN;rw[hp2]at c2 KF1;have y0:wr.cell? ⟨lb,lo+j*5,none⟩=some (.int .i64 tk):=kc hb (hx.at 0 rfl);have y1:wr.cell? ⟨lb,lo+j*5+1,none⟩=some (.int .i64 tp):=kc hb (hx.at 1 rfl);have y2:wr.cell? ⟨lb,lo+j*5+2,none⟩=some (.bool kp):=kc hb (hx.at 2 rfl);have y3:wr.cell? ⟨lb,lo+j*5+3,none⟩=some (.int .u32 sb):=kc hb (hx.at 3 rfl);have y4:wr.cell? ⟨lb,lo+j*5+4,none⟩=some (.int .i64 si):=kc hb (hx.at 4 rfl);have x0:wr.cell? ⟨rb,ro+j*2,none⟩=some (.slice xs.p xs.h.pats.length xs.q):=kc hb (hxr.at 0 rfl);have x1:wr.cell? ⟨rb,ro+j*2+1,none⟩=some (.int .i64 xs.h.whole):=kc hb (hxr.at 1 rfl);have HXL:Hid (lb<w.heap.size/\rb<w.heap.size):=⟨A8 (hx.at 0 (v:=.int .i64 tk) rfl),A8 (hxr.at 0 (v:=.slice xs.p xs.h.pats.length xs.q) rfl)⟩
    have r4:wr.cell? ⟨w.heap.size,4,none⟩=some (.slice ps n2 qs):=hl1.sp.b.r.cell (i:=4) dE;rw[hps]at r4;have f5:wr.cell? ⟨FB,5,none⟩=some (.slice p5 j q5):=hl1.sp.f.cell (i:=5) dE;have HKF1:Hid _:=KF1;have HXW:Hid (B6 T w xs.p xs.h.pats):=hnx;have i1:(0:Int)<=(j:Int):=oM;have i2:(j:Int)<(n2:Int):=oM;have wi:IntKind.i64.wrap ((j:Int)+1)=((j+1:Nat):Int):=by rw[IntKind.wrap_i64];omega
    clear KF1 hx hxr hnx hs9 hxs hH9 hat hSj hmap hb;cases kp with
    |true=>
     have hFb:¬rb=FB:=by have h1:=HXL.2;omega
     have h22:=hl1.next (A9 wr);have hlen:Y.length=j:=HYL.out;have h22c:Jt wc.heap.size wr.drew (.slice p5 Y.length q5) Y:=by rw[hlen];exact h22.cs
     have hlocx:∀b o s,xs.p=some ⟨b,o,s⟩->xs.h.pats≠[]->b<w.heap.size/\¬T b:=fun b o s e h0=>by
      rcases HXW.out with e1|⟨b',o',e1,h1,-,h2⟩
      .exact absurd e1 h0
      .rw[e]at e1;simp only[Option.some.injEq,Addr.mk.injEq]at e1;have h3:=A8 (h2 0 (List.length_pos_iff.2 h0));simp only at h3;rw[e1.1];exact⟨h3,h1⟩
     have hxA:GY wr.drew (.slice p5 Y.length q5) xs.p xs.h.pats:=by
      rcases HXW.out with e1|⟨b,o,e1,h1,h3,h2⟩
      .exact .inl e1
      .refine .inr ⟨b,o,e1,fun e5=>?_,fun k hk=>kc (bel HBW.out (A9 _)) (h2 k hk)⟩;have h6:=(h22c.own.lt b e5).1;omega
     obtain⟨g,c',w3,hrun,hb3,hcs3,-⟩:=h22c.push h22.be oM xs hxA 41;have hloc3:∀x∈Y++[xs],∀b o s,x.p=some ⟨b,o,s⟩->x.h.pats≠[]->¬T4 w T FB b:=by
      intro x hx b o s e h0;rcases List.mem_append.1 hx with h|h
      .exact hl1.loc x h b o s e h0
      .simp only[List.mem_singleton]at h;subst h;have h5:=hlocx b o s e h0;exact fun h6=>h5.2 (t4_old hF2 h5.1 h6)
     obtain⟨k5,z5,hl3⟩:=h22.put hFE hb3 hcs3 hloc3;rw[hlen]at hrun hl3;have HRUN:Hid ((Builtin.append_ #[41,41] 41 #[.slice p5 j q5,.slice (some ⟨wr.heap.size,0,none⟩) 1 1]).run prog (wr.alloc (.cells #[.slice xs.p xs.h.pats.length xs.q,.int .i64 xs.h.whole] 74)).drew=.ok (.slice (some ⟨g,0,none⟩) (j+1) c') w3):=hrun;have hbF:Below w.heap.size w w3:=(h22.sp.below hb3 hFE).b.bel;have s5:=(h22.sp.below hb3 hFE)
     have HL3:Hid (L1 T w (.slice p0 n0 q0) (.slice p1 n1 q1) (.slice p2 n2 q2) (.slice p3 n3 q3) (.slice ps n2 qs) FB wc.heap.size (D4 (.slice p0 n0 q0) (.slice p1 n1 q1) (.slice p2 n2 q2) (.slice p3 n3 q3) (.slice (some ⟨RB,0,none⟩) n1 n1) (.slice (some ⟨g,0,none⟩) (j+1) c') (.slice none 0 0) (.slice pg gl qg) (.slice pp pl qp) (.int .i64 0)) (w3.setCell ⟨FB,5,none⟩ (.slice (some ⟨g,0,none⟩) (j+1) c')) (.slice (some ⟨g,0,none⟩) (j+1) c') (Y++[xs])):=⟨hl3.sp.congr (E4 rfl rfl rfl rfl rfl rfl rfl rfl rfl rfl),hl3.be,hl3.cs,hl3.loc⟩
     have HUN3:Hid (Un (fun b=>b=FB) wc (w3.setCell ⟨FB,5,none⟩ (.slice (some ⟨g,0,none⟩) (j+1) c'))):=((hun.step ((A9 wr).mono hl1.be)).step hb3).setCell (p:=⟨FB,5,none⟩) rF _;have k0:=fun o=>kc (A0 wr o) f5;have k1:=fun o=>kc (A0 wr o) r4;have k2:=fun o=>kc (A0 wr o) x0;have k3:=fun o=>kc (A0 wr o) x1;have m1:w3.cell? ⟨w.heap.size,4,none⟩=some (.slice (some ⟨rb,ro,none⟩) n2 qs):=by rw[<-hps];exact s5.b.r.cell (i:=4) dE
     have m2:w3.cell? ⟨rb,ro+j*2,none⟩=some (.slice xs.p xs.h.pats.length xs.q):=(gC (hb3.block rb (by have h1:=HXL.2;omega))).trans x0;have m3:w3.cell? ⟨rb,ro+j*2+1,none⟩=some (.int .i64 xs.h.whole):=(gC (hb3.block rb (by have h1:=HXL.2;omega))).trans x1;have t1:=Ap (B:=FB) (i:=5) m1 (by show¬w.heap.size=FB;omega);have t2:=Ap (B:=FB) (i:=5) m2 (by show¬rb=FB;exact hFb);have t3:=Ap (B:=FB) (i:=5) m3 (by show¬rb=FB;exact hFb);clear h22 h22c hlocx hxA hrun hb3 hcs3 hloc3 hl3 hbF s5 hlen hp2 hps;go_upto_region 9 with fail;refine rG (fun v=>v.cell? ⟨w.heap.size,4,none⟩=some (.slice (some ⟨rb,ro,none⟩) n2 qs)/\v.cell? ⟨rb,ro+j*2,none⟩=some (.slice xs.p xs.h.pats.length xs.q)/\v.cell? ⟨rb,ro+j*2+1,none⟩=some (.int .i64 xs.h.whole)) fun hJ=>?_;refine Tf 0 2 3 4 5 6 ?_;clear hJ;refine wpAnyH_ready (rs:=[1,7]) kR sM ?_;refine DP 1 (fun K hK=>?_) ?_
     .go_simp;refine Aq hK fun hJ=>?_;clear hK K;clear hJ;refine Aw 7 fun K hK=>?_;exact Zcb
     refine DP 7 (fun K hK=>?_) AllReadyH.nil;go_simp;refine Aq hK fun hJ=>?_;clear hK K;clear hJ;refine Aw 1 fun K hK=>?_;exact Zcb
    |false=>
     have hFb:¬lb=FB:=by have h1:=HXL.1;omega
     have c0:wr.cell? ⟨w.heap.size+1+1,0,none⟩=some (.slice p0 n0 q0):=hl1.sp.b.c.cell (i:=0) dE;have c1:wr.cell? ⟨w.heap.size+1+1,1,none⟩=some (.slice p1 n1 q1):=hl1.sp.b.c.cell (i:=1) dE;have c3:wr.cell? ⟨w.heap.size+1+1,3,none⟩=some (.slice p3 n3 q3):=hl1.sp.b.c.cell (i:=3) dE;clear r4 x0 x1 hp2 hps;go_upto_region 10 with fail;refine rG (fun v=>v.cell? ⟨w.heap.size+1+1,0,none⟩=some (.slice p0 n0 q0)/\v.cell? ⟨w.heap.size+1+1,1,none⟩=some (.slice p1 n1 q1)/\v.cell? ⟨w.heap.size+1+1,2,none⟩=some (.slice (some ⟨lb,lo,none⟩) n2 q2)/\v.cell? ⟨w.heap.size+1+1,3,none⟩=some (.slice p3 n3 q3)/\v.cell? ⟨lb,lo+j*5,none⟩=some (.int .i64 tk)/\v.cell? ⟨lb,lo+j*5+1,none⟩=some (.int .i64 tp)/\v.cell? ⟨lb,lo+j*5+2,none⟩=some (.bool false)/\v.cell? ⟨lb,lo+j*5+3,none⟩=some (.int .u32 sb)/\v.cell? ⟨lb,lo+j*5+4,none⟩=some (.int .i64 si)) fun hJ=>?_;refine Tf 0 2 3 4 5 6 ?_;refine Bo 7 ?_;clear hJ;refine wpAnyH_ready (rs:=[1,8]) kR sM ?_;refine DP 1 (fun K hK=>?_) ?_
     .go_simp;refine Aq hK fun hJ=>?_;clear hK K;clear hJ;refine Aw 8 fun K hK=>?_;go_simp;(go_at_call 24;(with_reducible refine(HKF1.out _ (bel HBW.out (A9 _))).mono ?_);rintro e w2 ⟨pf,qf,rfl,hnum,hb2,hfr⟩;have hb22:Below wr.heap.size wr w2:=bel (A9 _) hb2;have h22:=hl1.out.next hb22;have h22c:Jt wc.heap.size w2 (.slice p5 Y.length q5) Y:=Zhx;obtain⟨g,c',w3,hrun,hb3,hcs3,-⟩:=h22c.push h22.be (by have h5:=HYL.out;omega) ⟨pf,qf,H9⟩ (hnum.apart (fun b o s e e2=>by have h5:=hfr b o s e;have h6:wr.drew.heap.size=wr.heap.size:=rfl;have h7:b<wr.heap.size:=Zhc;omega)) 41;have hloc3:∀x∈Y++[(⟨pf,qf,H9⟩:Cl)],∀b o s,x.p=some ⟨b,o,s⟩->x.h.pats≠[]->¬T4 w T FB b:=(by intro x hx b o s e h0;rcases List.mem_append.1 hx with h|h;exact hl1.out.loc x h b o s e h0;simp only[List.mem_singleton]at h;subst h;intro h6;have h5:=hfr b o s e;have h7:=Mj HH.out.2.2.2.2.2.2.2 hF2 hFE h6;have h8:=hl1.out.be;have h9:wr.drew.heap.size=wr.heap.size:=rfl;omega);obtain⟨k5,z5,hl3⟩:=h22.put hFE hb3 hcs3 hloc3;rw[HYL.out]at hrun hl3;have HRUN:Hid _:=hrun;have s5:=(h22.sp.below hb3 hFE);have HL3:Hid (L1 T w (.slice p0 n0 q0) (.slice p1 n1 q1) (.slice p2 n2 q2) (.slice p3 n3 q3) (.slice ps n2 qs) FB wc.heap.size (D4 (.slice p0 n0 q0) (.slice p1 n1 q1) (.slice p2 n2 q2) (.slice p3 n3 q3) (.slice (some ⟨RB,0,none⟩) n1 n1) (.slice (some ⟨g,0,none⟩) (j+1) c') (.slice none 0 0) (.slice pg gl qg) (.slice pp pl qp) (.int .i64 0)) (w3.setCell ⟨FB,5,none⟩ (.slice (some ⟨g,0,none⟩) (j+1) c')) (.slice (some ⟨g,0,none⟩) (j+1) c') (Y++[(⟨pf,qf,H9⟩:Cl)])):=⟨hl3.sp.congr (E4 rfl rfl rfl rfl rfl rfl rfl rfl rfl rfl),hl3.be,hl3.cs,hl3.loc⟩;have HUN3:Hid (Un (fun b=>b=FB) wc (w3.setCell ⟨FB,5,none⟩ (.slice (some ⟨g,0,none⟩) (j+1) c'))):=((hun.out.step (hb22.mono hl1.out.be)).step hb3).setCell (p:=⟨FB,5,none⟩) rF _;have hlbE:lb<wc.heap.size:=(by have h1:=HXL.out.1;omega);have gc0:=kc hb22 c0;have ac0:=(fun o=>kc (A0 w2 o) gc0);have mc0:=(gC (hb3.block _ Zgd)).trans gc0;have tc0:=Ap (B:=FB) (i:=5) mc0 OX;have gc1:=kc hb22 c1;have ac1:=(fun o=>kc (A0 w2 o) gc1);have mc1:=(gC (hb3.block _ Zgd)).trans gc1;have tc1:=Ap (B:=FB) (i:=5) mc1 OX;have gc2:=kc hb22 c2;have ac2:=(fun o=>kc (A0 w2 o) gc2);have mc2:=(gC (hb3.block _ Zgd)).trans gc2;have tc2:=Ap (B:=FB) (i:=5) mc2 OX;have gc3:=kc hb22 c3;have ac3:=(fun o=>kc (A0 w2 o) gc3);have mc3:=(gC (hb3.block _ Zgd)).trans gc3;have tc3:=Ap (B:=FB) (i:=5) mc3 OX;have gy0:=kc hb22 y0;have ay0:=(fun o=>kc (A0 w2 o) gy0);have my0:=(gC (hb3.block _ hlbE)).trans gy0;have ty0:=Ap (B:=FB) (i:=5) my0 hFb;have gy1:=kc hb22 y1;have ay1:=(fun o=>kc (A0 w2 o) gy1);have my1:=(gC (hb3.block _ hlbE)).trans gy1;have ty1:=Ap (B:=FB) (i:=5) my1 hFb;have gy2:=kc hb22 y2;have ay2:=(fun o=>kc (A0 w2 o) gy2);have my2:=(gC (hb3.block _ hlbE)).trans gy2;have ty2:=Ap (B:=FB) (i:=5) my2 hFb;have gy3:=kc hb22 y3;have ay3:=(fun o=>kc (A0 w2 o) gy3);have my3:=(gC (hb3.block _ hlbE)).trans gy3;have ty3:=Ap (B:=FB) (i:=5) my3 hFb;have gy4:=kc hb22 y4;have ay4:=(fun o=>kc (A0 w2 o) gy4);have my4:=(gC (hb3.block _ hlbE)).trans gy4;have ty4:=Ap (B:=FB) (i:=5) my4 hFb;have gf5:=kc hb22 f5;have af5:=(fun o=>kc (A0 w2 o) gf5);clear hnum hb2 hfr hb22 h22 h22c hrun hb3 hcs3 hloc3 hl3 s5);try(go_wp2_with fail)
      refine Aq hK fun hJ=>?_;clear hK K;clear hJ;refine Aw 9 fun K hK=>?_;exact Zbi
     refine DP 8 (fun K hK=>?_) AllReadyH.nil;go_simp;(go_at_call 24;(with_reducible refine(HKF1.out _ (bel HBW.out (A9 _))).mono ?_);rintro e w2 ⟨pf,qf,rfl,hnum,hb2,hfr⟩;have hb22:Below wr.heap.size wr w2:=bel (A9 _) hb2;have h22:=hl1.out.next hb22;have h22c:Jt wc.heap.size w2 (.slice p5 Y.length q5) Y:=Zhx;obtain⟨g,c',w3,hrun,hb3,hcs3,-⟩:=h22c.push h22.be (by have h5:=HYL.out;omega) ⟨pf,qf,H9⟩ (hnum.apart (fun b o s e e2=>by have h5:=hfr b o s e;have h6:wr.drew.heap.size=wr.heap.size:=rfl;have h7:b<wr.heap.size:=Zhc;omega)) 41;have hloc3:∀x∈Y++[(⟨pf,qf,H9⟩:Cl)],∀b o s,x.p=some ⟨b,o,s⟩->x.h.pats≠[]->¬T4 w T FB b:=(by intro x hx b o s e h0;rcases List.mem_append.1 hx with h|h;exact hl1.out.loc x h b o s e h0;simp only[List.mem_singleton]at h;subst h;intro h6;have h5:=hfr b o s e;have h7:=Mj HH.out.2.2.2.2.2.2.2 hF2 hFE h6;have h8:=hl1.out.be;have h9:wr.drew.heap.size=wr.heap.size:=rfl;omega);obtain⟨k5,z5,hl3⟩:=h22.put hFE hb3 hcs3 hloc3;rw[HYL.out]at hrun hl3;have HRUN:Hid _:=hrun;have s5:=(h22.sp.below hb3 hFE);have HL3:Hid (L1 T w (.slice p0 n0 q0) (.slice p1 n1 q1) (.slice p2 n2 q2) (.slice p3 n3 q3) (.slice ps n2 qs) FB wc.heap.size (D4 (.slice p0 n0 q0) (.slice p1 n1 q1) (.slice p2 n2 q2) (.slice p3 n3 q3) (.slice (some ⟨RB,0,none⟩) n1 n1) (.slice (some ⟨g,0,none⟩) (j+1) c') (.slice none 0 0) (.slice pg gl qg) (.slice pp pl qp) (.int .i64 0)) (w3.setCell ⟨FB,5,none⟩ (.slice (some ⟨g,0,none⟩) (j+1) c')) (.slice (some ⟨g,0,none⟩) (j+1) c') (Y++[(⟨pf,qf,H9⟩:Cl)])):=⟨hl3.sp.congr (E4 rfl rfl rfl rfl rfl rfl rfl rfl rfl rfl),hl3.be,hl3.cs,hl3.loc⟩;have HUN3:Hid (Un (fun b=>b=FB) wc (w3.setCell ⟨FB,5,none⟩ (.slice (some ⟨g,0,none⟩) (j+1) c'))):=((hun.out.step (hb22.mono hl1.out.be)).step hb3).setCell (p:=⟨FB,5,none⟩) rF _;have hlbE:lb<wc.heap.size:=(by have h1:=HXL.out.1;omega);have gc0:=kc hb22 c0;have ac0:=(fun o=>kc (A0 w2 o) gc0);have mc0:=(gC (hb3.block _ Zgd)).trans gc0;have tc0:=Ap (B:=FB) (i:=5) mc0 OX;have gc1:=kc hb22 c1;have ac1:=(fun o=>kc (A0 w2 o) gc1);have mc1:=(gC (hb3.block _ Zgd)).trans gc1;have tc1:=Ap (B:=FB) (i:=5) mc1 OX;have gc2:=kc hb22 c2;have ac2:=(fun o=>kc (A0 w2 o) gc2);have mc2:=(gC (hb3.block _ Zgd)).trans gc2;have tc2:=Ap (B:=FB) (i:=5) mc2 OX;have gc3:=kc hb22 c3;have ac3:=(fun o=>kc (A0 w2 o) gc3);have mc3:=(gC (hb3.block _ Zgd)).trans gc3;have tc3:=Ap (B:=FB) (i:=5) mc3 OX;have gy0:=kc hb22 y0;have ay0:=(fun o=>kc (A0 w2 o) gy0);have my0:=(gC (hb3.block _ hlbE)).trans gy0;have ty0:=Ap (B:=FB) (i:=5) my0 hFb;have gy1:=kc hb22 y1;have ay1:=(fun o=>kc (A0 w2 o) gy1);have my1:=(gC (hb3.block _ hlbE)).trans gy1;have ty1:=Ap (B:=FB) (i:=5) my1 hFb;have gy2:=kc hb22 y2;have ay2:=(fun o=>kc (A0 w2 o) gy2);have my2:=(gC (hb3.block _ hlbE)).trans gy2;have ty2:=Ap (B:=FB) (i:=5) my2 hFb;have gy3:=kc hb22 y3;have ay3:=(fun o=>kc (A0 w2 o) gy3);have my3:=(gC (hb3.block _ hlbE)).trans gy3;have ty3:=Ap (B:=FB) (i:=5) my3 hFb;have gy4:=kc hb22 y4;have ay4:=(fun o=>kc (A0 w2 o) gy4);have my4:=(gC (hb3.block _ hlbE)).trans gy4;have ty4:=Ap (B:=FB) (i:=5) my4 hFb;have gf5:=kc hb22 f5;have af5:=(fun o=>kc (A0 w2 o) gf5);clear hnum hb2 hfr hb22 h22 h22c hrun hb3 hcs3 hloc3 hl3 s5);try(go_wp2_with fail)
     refine Aq hK fun hJ=>?_;clear hK K;clear hJ;refine wpAnyH_ready (rs:=[1,9]) kR sM ?_;refine DP 1 (fun K hK=>?_) ?_
     .go_simp;refine Aq hK fun hJ=>?_;clear hK K;clear hJ;refine Aw 9 fun K hK=>?_;exact Zbi
     refine DP 9 (fun K hK=>?_) AllReadyH.nil;go_simp;refine Aq hK fun hJ=>?_;clear hK K;clear hJ;refine Aw 1 fun K hK=>?_;exact Zbi
   .have hjn:n2=j:=oM;subst hjn;have HYM:Hid (Y.map (·.h)=Nn c l):=by
     show _=_;have h5:=hmap.out;rw[List.take_of_length_le (by rw[Es HH.2.2.2.1.len,HN.2.2.1];exact gF _)]at h5;exact h5
    have HCR:Hid (AT (T4 w T FB) wr (.slice (some ⟨RB,0,none⟩) n1 n1) (Ss n1)/\AT (T4 w T FB) wr (.slice p5 n2 q5) Y):=⟨HCS.un hun.out (fun b _ e=>.inr (.inr e)),YD hl1.cs (fun b hb=>Mj HH.2.2.2.2.2.2.2 hF2 hFE hb) hl1.loc⟩
    have HSP1:Hid (Jv w (.slice p0 n0 q0) (.slice p1 n1 q1) (.slice p2 n2 q2) (.slice p3 n3 q3) (.slice ps n2 qs) FB (D4 (.slice p0 n0 q0) (.slice p1 n1 q1) (.slice p2 n2 q2) (.slice p3 n3 q3) (.slice (some ⟨RB,0,none⟩) n1 n1) (.slice p5 n2 q5) (.slice none 0 0) (.slice pg gl qg) (.slice pp pl qp) (.int .i64 0)) wr):=hl1.sp;have hFW:FB<wr.heap.size:=hl1.sp.f.lt;have c0:wr.cell? ⟨w.heap.size+1+1,0,none⟩=some (.slice p0 n0 q0):=hl1.sp.b.c.cell (i:=0) dE;have e1:¬ (n2:Int)<(n2:Int):=oM;clear hmap hlt hl1 hun HCS HSP hFE HKF;rename World=>we;go_wp2
    go_loopw [13] (fun iv wr=>∃ (j:Nat) (p6:Option Addr) (q6:Nat) (Y6:List Cl),j<=n0/\iv=.int .i64 (j:Int)/\Hid (L2 T w (.slice p0 n0 q0) (.slice p1 n1 q1) (.slice p2 n2 q2) (.slice p3 n3 q3) (.slice ps n2 qs) FB we.heap.size (D4 (.slice p0 n0 q0) (.slice p1 n1 q1) (.slice p2 n2 q2) (.slice p3 n3 q3) (.slice (some ⟨RB,0,none⟩) n1 n1) (.slice p5 n2 q5) (.slice p6 (2*j) q6) (.slice pg gl qg) (.slice pp pl qp) (.int .i64 0)) wr (.slice p6 (2*j) q6) Y6)/\Hid (Un (fun b=>b=FB) we wr)/\Hid (Y6.map (·.h)=MQ c j)) (fun iv _=>n0-(intOf iv).toNat)
    case atStart=>exact⟨0,none,0,[],gI _,rfl,⟨HSP1.out,gF _,Su.nil _ _,fun x hx=>by cases hx⟩,Un.refl _ _,rfl⟩
    case round=>
     clear c0;obtain⟨j,p6,q6,Y6,hj,rfl,hl2,hun,hmap⟩:=hrel;have c0:wr.cell? ⟨w.heap.size+1+1,0,none⟩=some (.slice p0 n0 q0):=hl2.sp.b.c.cell (i:=0) dE;have HYL:Hid (Y6.length=2*j):=by
      have h5:=congrArg List.length hmap.out;rw[List.length_map,MQ,List.length_map,List.length_range]at h5;exact h5
     by_cases hlt:j<n0
     .have hll:j<c.sign.length:=by rw[HN.1];exact hlt
      have hb:=hl2.sp.b.bel;obtain⟨lb,lo,hp0,hx⟩:=HV.1.sign.at hll;have hln:=JR HH.1 hll;have hlb:=HH.1.len _ (gD hll);have HMN:Hid (∀h',h'=(⟨List.replicate (lenOf c (j:Int)) 0,0⟩:Hd)->(Y6.map (·.h))++[h',h']=MQ c (j+1)):=fun h' e=>by rw[hmap.out,Tv,e]
      obtain⟨⟨nm,K,L⟩,hT9⟩:∃t:BJ,c.sign[j]=t:=⟨_,rfl⟩
      rw[hT9]at hx hln hlb;simp only at hln hlb;obtain⟨ln,hlnn⟩:∃n,lenOf c (j:Int)=n:=⟨_,rfl⟩
      rw[hlnn]at hln HMN;subst hln;have y2:wr.cell? ⟨lb,lo+j*3+2,none⟩=some (.int .i64 (ln:Int)):=kc hb (hx.at 2 rfl);rw[hp0]at c0;have f6:wr.cell? ⟨FB,6,none⟩=some (.slice p6 (2*j) q6):=hl2.sp.f.cell (i:=6) dE;have HFI:Hid (∀v,Calls prog 39 #[.int .i64 (ln:Int),.int .i64 0] v fun e w'=>∃q cap,e=.returned (.tuple #[.slice q ln cap,.int .i64 0])/\Bb w' q ln (fun i=>.int .i64 (An 0))/\Below v.heap.size v w'/\∀b o s,q=some ⟨b,o,s⟩->v.heap.size<=b):=Iv ln 0 JM oM;have i1:(0:Int)<=(j:Int):=oM;have i2:(j:Int)<(n0:Int):=oM;have wi:IntKind.i64.wrap ((j:Int)+1)=((j+1:Nat):Int):=by rw[IntKind.wrap_i64];omega
      clear hx hT9 hlnn hlb hmap hb hp0;go_upto_region 15 with(go_at_call 39;(with_reducible refine(HFI.out _).mono ?_);rintro e w4 ⟨pf,qf,rfl,hrf,hb4,hfr⟩;have h22:=hl2.out.next hb4;have h22c:Su we.heap.size w4 (.slice p6 Y6.length q6) Y6:=Zhx;have hnum:C6 w4 pf (List.replicate ln 0):=(by show Bb _ _ _ _;rw[List.length_replicate];rcases hrf with h9|⟨b,o,rfl,h8⟩;exact .inl h9;exact .inr ⟨b,o,rfl,fun k hk=>(by rw[h8 k hk];simp only;rw[Ji _ _ hk];rfl)⟩);obtain⟨g,c',w5,hrun,hb5,hcs5⟩:=h22c.push h22.be (by have h5:=HYL.out;omega) ⟨pf,qf,⟨List.replicate ln 0,0⟩⟩ (hnum.apart (fun b o s e e2=>by have h5:=hfr b o s e;have h7:b<wr.heap.size:=(by have h8:=hl2.out.cs.own.lt b Zhz;exact h8.2);omega)) 88;have hloc5:∀x∈Y6++[(⟨pf,qf,⟨List.replicate ln 0,0⟩⟩:Cl),⟨pf,qf,⟨List.replicate ln 0,0⟩⟩],∀b o s,x.p=some ⟨b,o,s⟩->x.h.pats≠[]->¬T4 w T FB b:=(by intro x hx b o s e h0;rcases List.mem_append.1 hx with h|h;exact hl2.out.loc x h b o s e h0;simp only[List.mem_cons,List.not_mem_nil,or_false,or_self]at h;subst h;intro h6;have h5:=hfr b o s e;have h7:=Mj HH.out.2.2.2.2.2.2.2 hF2 hFW h6;have h8:=hl2.out.be;omega);obtain⟨k6,z6,hl5⟩:=h22.put hFW hb5 hcs5 hloc5;simp only[List.length_replicate]at hrun;rw[HYL.out]at hrun hl5;have HRUN:Hid _:=hrun;have HL5:Hid (L2 T w (.slice p0 n0 q0) (.slice p1 n1 q1) (.slice p2 n2 q2) (.slice p3 n3 q3) (.slice ps n2 qs) FB we.heap.size (D4 (.slice p0 n0 q0) (.slice p1 n1 q1) (.slice p2 n2 q2) (.slice p3 n3 q3) (.slice (some ⟨RB,0,none⟩) n1 n1) (.slice p5 n2 q5) (.slice (some ⟨g,0,none⟩) (2*j+2) c') (.slice pg gl qg) (.slice pp pl qp) (.int .i64 0)) (w5.setCell ⟨FB,6,none⟩ (.slice (some ⟨g,0,none⟩) (2*j+2) c')) (.slice (some ⟨g,0,none⟩) (2*j+2) c') (Y6++[(⟨pf,qf,⟨List.replicate ln 0,0⟩⟩:Cl),⟨pf,qf,⟨List.replicate ln 0,0⟩⟩])):=⟨hl5.sp.congr (E4 rfl rfl rfl rfl rfl rfl rfl rfl rfl rfl),hl5.be,hl5.cs,hl5.loc⟩;have HUN5:Hid (Un (fun b=>b=FB) we (w5.setCell ⟨FB,6,none⟩ (.slice (some ⟨g,0,none⟩) (2*j+2) c'))):=((hun.out.step (hb4.mono hl2.out.be)).step hb5).setCell (p:=⟨FB,6,none⟩) rF _;have g6:=kc hb4 f6;have a6:=(fun o=>kc (A0 w4 o) g6);clear hrf hb4 hfr h22 h22c hnum hrun hb5 hcs5 hloc5 hl5 c0 f6 y2)
      go_wp2_with(at_builtin;refine AO rF _ _ _ rF _ _ _ rF rF HRUN.out ?_);go_roundw
      case rel=>exact⟨j+1,some ⟨g,0,none⟩,c',Y6++[(⟨pf,qf,⟨List.replicate ln 0,0⟩⟩:Cl),⟨pf,qf,⟨List.replicate ln 0,0⟩⟩],oM,gN,HL5.out,HUN5.out,by show _=_;rw[List.map_append];exact HMN.out _ rfl⟩
      case measure=>first|(simp[intOf];omega)|omega
     .have hjn:n0=j:=oM;subst hjn;have HCR2:Hid (AT (T4 w T FB) wr (.slice (some ⟨RB,0,none⟩) n1 n1) (Ss n1)/\AT (T4 w T FB) wr (.slice p5 n2 q5) Y/\Ie (T4 w T FB) wr (.slice p6 (2*n0) q6) Y6):=⟨HCR.1.un hun.out (fun b _ e=>.inr (.inr e)),HCR.2.un hun.out (fun b _ e=>.inr (.inr e)),ZG hl2.cs (fun b hb=>Mj HH.2.2.2.2.2.2.2 hF2 hFW hb) hl2.loc⟩
      have HSP2:Hid (Jv w (.slice p0 n0 q0) (.slice p1 n1 q1) (.slice p2 n2 q2) (.slice p3 n3 q3) (.slice ps n2 qs) FB (D4 (.slice p0 n0 q0) (.slice p1 n1 q1) (.slice p2 n2 q2) (.slice p3 n3 q3) (.slice (some ⟨RB,0,none⟩) n1 n1) (.slice p5 n2 q5) (.slice p6 (2*n0) q6) (.slice pg gl qg) (.slice pp pl qp) (.int .i64 0)) wr):=hl2.sp;have HPL:Hid (KV c G P (BY c l) 0 0 (BY c l) ⟨[],[]⟩ (Ss c.regs.length) Y Y6):=⟨rfl,VS HH.1 HH.2.2.1 HH.2.2.2.1,E5.start _,.inl ⟨rfl,fun r hr=>by cases hr⟩,HH.2.1,TL HH.1 HH.2.2.2.1 HYM.out (by rw[hmap.out,HN.1]),.inl ⟨rfl,fun r hr=>by cases hr⟩⟩
      have c3:wr.cell? ⟨w.heap.size+1+1,3,none⟩=some (.slice p3 n3 q3):=hl2.sp.b.c.cell (i:=3) dE;have e2:¬ (n0:Int)<(n0:Int):=oM;have HOL:Hid (Y6.length=2*n0):=HYL.out;clear hmap hlt hl2 hun HCR HSP1 HYL HYM;rename World=>wf;go_wp2;clear c0
      go_loopw [16,17] (fun sv iv wr=>∃ (j k:Nat),j<=n3/\k<=j/\iv=.int .i64 (j:Int)/\sv=.int .i64 (k:Int)/\Hid (∃f s X S O pr qr p5 q5 p6 q6 ct,KV c G P (BY c l) j k f s X S O/\L3 T w (.slice p0 n0 q0) (.slice p1 n1 q1) (.slice p2 n2 q2) (.slice p3 n3 q3) (.slice ps n2 qs) FB pr p5 p6 n1 qr n2 q5 (2*n0) q6 (.slice pg gl qg) (.slice pp pl qp) ct X S O wr)) (fun _ iv _=>n3-(intOf iv).toNat)
      case atStart=>exact⟨0,0,gI _,gF _,rfl,rfl,_,_,_,_,_,_,_,_,_,_,_,_,HPL.out,⟨HSP2.out,by rw[HN.2.1];exact HCR2.1,HCR2.2.1,HCR2.2.2,HOL.out⟩⟩
      case round=>
       clear c3 HPL HSP2 HCR2 HOL;obtain⟨j,k,hj,hkj,rfl,rfl,HR⟩:=hrel;obtain⟨f,s,X,S,O,pr,qr,p5,q5,p6,q6,ct,hpl,h3⟩:=HR.out;have HPI:Hid (KV c G P (BY c l) j k f s X S O):=hpl;have H3:Hid (L3 T w (.slice p0 n0 q0) (.slice p1 n1 q1) (.slice p2 n2 q2) (.slice p3 n3 q3) (.slice ps n2 qs) FB pr p5 p6 n1 qr n2 q5 (2*n0) q6 (.slice pg gl qg) (.slice pp pl qp) ct X S O wr):=h3;have hFR:FB<wr.heap.size:=h3.sp.f.lt;obtain⟨c0,c1,c2,c3⟩:=h3.code;clear HR;by_cases hlt:j<n3
       .have hll:j<c.list.length:=by rw[HN.2.2.2.1];exact hlt
        have hb:=h3.sp.b.bel;have HBW:Hid (Below w.heap.size w wr):=hb;obtain⟨lb,lo,hp3,hx⟩:=HV.1.list.at hll;obtain⟨t1,-⟩:=hpl.taken hll;have hbit:=HH.2.2.1.ibits _ (gD hll);have HPASS:Hid (∀k',AK c G P (f,k) c.list[j]=(f,k')->(k≠0\/c.list[j].op=34)->∃s',KV c G P (BY c l) (j+1) k' f s' X S O):=fun k' h1 h2=>hpl.pass HH.1 HH.2.2.1.ibits HH.2.2.2.2.2.1 HH.2.2.2.2.2.2.1 hll h1 h2;have HNEED:Hid (k=0->Dx c f c.list[j]/\(∀r∈Ae c.list[j] (A4 c.list[j].op),QM c f X r.toNat)):=fun e=>by subst e;exact hpl.need hll
        have HDID0:Hid (k=0->∀X' S' O',¬ (c.list[j].op=34/\f.whs c.list[j].a.toNat=0)->Did c G P f c.list[j] X S O X' S' O'->∃f' s',KV c G P (BY c l) (j+1) 0 f' s' X' S' O'):=fun e X' S' O' h1 h2=>by subst e;exact hpl.did HH.1 HH.2.2.1.ibits HH.2.2.2.2.2.1 HH.2.2.2.2.2.2.1 hll h1 h2
        obtain⟨i9,hi9⟩:∃i,c.list[j]=i:=⟨_,rfl⟩
        rw[hi9]at hx t1 hbit HPASS HNEED HDID0;obtain⟨op,D,A,B,Ec,nn,bt⟩:=i9;simp only at hbit;have y0:wr.cell? ⟨lb,lo+j*7,none⟩=some (.int .i64 op):=kc hb (hx.at 0 rfl);have y1:wr.cell? ⟨lb,lo+j*7+1,none⟩=some (.int .i64 D):=kc hb (hx.at 1 rfl);have y2:wr.cell? ⟨lb,lo+j*7+2,none⟩=some (.int .i64 A):=kc hb (hx.at 2 rfl);have y3:wr.cell? ⟨lb,lo+j*7+3,none⟩=some (.int .i64 B):=kc hb (hx.at 3 rfl);have y4:wr.cell? ⟨lb,lo+j*7+4,none⟩=some (.int .i64 Ec):=kc hb (hx.at 4 rfl);have y5:wr.cell? ⟨lb,lo+j*7+5,none⟩=some (.int .i64 nn):=kc hb (hx.at 5 rfl);have y6:wr.cell? ⟨lb,lo+j*7+6,none⟩=some (.int .u32 bt):=kc hb (hx.at 6 rfl);rw[hp3]at c3;have i1:(0:Int)<=(j:Int):=oM;have i2:(j:Int)<(n3:Int):=oM;have wi:IntKind.i64.wrap ((j:Int)+1)=((j+1:Nat):Int):=by rw[IntKind.wrap_i64];omega
        have H3N:Hid (∀o,L3 T w (.slice p0 n0 q0) (.slice p1 n1 q1) (.slice p2 n2 q2) (.slice p3 n3 q3) (.slice ps n2 qs) FB pr p5 p6 n1 qr n2 q5 (2*n0) q6 (.slice pg gl qg) (.slice pp pl qp) ct X S O (wr.alloc o)):=fun o=>h3.next (A0 _ _);have HT1:Hid (AG c s ⟨op,D,A,B,Ec,nn,bt⟩=true/\AH bt):=⟨t1,hbit⟩
        clear hx hi9 hb hp3 t1 hbit hpl h3;by_cases hk0:k=0
        .subst hk0;have HND:Hid (Dx c f ⟨op,D,A,B,Ec,nn,bt⟩/\(∀r∈Ae ⟨op,D,A,B,Ec,nn,bt⟩ (A4 op),QM c f X r.toNat)):=HNEED.out rfl;have HDID:Hid (∀X' S' O',¬ (op=34/\f.whs A.toNat=0)->Did c G P f ⟨op,D,A,B,Ec,nn,bt⟩ X S O X' S' O'->∃f' s',KV c G P (BY c l) (j+1) 0 f' s' X' S' O'):=HDID0.out rfl;have KWE:Hid (∀v,Below w.heap.size w v->Calls prog 42 #[.agg #[.slice p0 n0 q0,.slice p1 n1 q1,.slice p2 n2 q2,.slice p3 n3 q3],.agg #[.int .i64 op,.int .i64 D,.int .i64 A,.int .i64 B,.int .i64 Ec,.int .i64 nn,.int .u32 bt]] v fun e w'=>(∃n:Nat,n<=4096/\e=.returned (.int .i64 (n:Int)))/\Below v.heap.size v w'):=fun v hb=>by
          have h9:=Qw HH.1 HT1.1 _ _ _ _ v (HV.1.below hb);rw[HN.1,HN.2.1,HN.2.2.1,HN.2.2.2.1]at h9;exact h9
         have KDO:Hid (∀v ct,L3 T w (.slice p0 n0 q0) (.slice p1 n1 q1) (.slice p2 n2 q2) (.slice p3 n3 q3) (.slice ps n2 qs) FB pr p5 p6 n1 qr n2 q5 (2*n0) q6 (.slice pg gl qg) (.slice pp pl qp) ct X S O v->Calls prog 43 #[.agg #[.slice p0 n0 q0,.slice p1 n1 q1,.slice p2 n2 q2,.slice p3 n3 q3,.slice pr n1 qr,.slice p5 n2 q5,.slice p6 (2*n0) q6,.slice pg gl qg,.slice pp pl qp,.int .i64 ct],.agg #[.int .i64 op,.int .i64 D,.int .i64 A,.int .i64 B,.int .i64 Ec,.int .i64 nn,.int .u32 bt]] v fun e w'=>∃pr' qr' p5' q5' p6' q6' X' S' O',e=.returned (.agg #[.slice p0 n0 q0,.slice p1 n1 q1,.slice p2 n2 q2,.slice p3 n3 q3,.slice pr' n1 qr',.slice p5' n2 q5',.slice p6' (2*n0) q6',.slice pg gl qg,.slice pp pl qp,.int .i64 ct])/\AT (T4 w T FB) w' (.slice pr' n1 qr') X'/\AT (T4 w T FB) w' (.slice p5' n2 q5') S'/\Ie (T4 w T FB) w' (.slice p6' (2*n0) q6') O'/\O'.length=2*n0/\Did c G P f ⟨op,D,A,B,Ec,nn,bt⟩ X S O X' S' O'/\Below v.heap.size v w'):=fun v ct h=>by
          have hd:=V5 (T:=T4 w T FB) HH.1 HPI.ok HT1.1 HT1.2 HH.2.2.2.2.2.1 HH.2.2.2.2.2.2.1 HND.1 HPI.rel HND.2 p0 p1 p2 p3 pr p5 p6 pg pp q0 q1 q2 q3 qr q5 q6 qg qp ct v (fun b hb=>Mj HH.2.2.2.2.2.2.2 hF2 h.sp.f.lt hb) (HV.1.below h.sp.b.bel) (by rw[HN.2.1];exact h.cr) (by rw[HN.2.2.1];exact h.cs) (by rw[h.ol];exact h.co) (HV.2.2.1.below h.sp.b.bel) (HV.2.2.2.below h.sp.b.bel);unfold rfV Ch at hd;rw[HN.1,HN.2.1,HN.2.2.1,HN.2.2.2.1,HN.2.2.2.2.1,HN.2.2.2.2.2,h.ol]at hd;exact hd
         clear HNEED HDID0;go_upto_region 27 with fail;have HX1:Hid ((wr.alloc (.cells #[.int .i64 op,.int .i64 D,.int .i64 A,.int .i64 B,.int .i64 Ec,.int .i64 nn,.int .u32 bt] 40)).rowIs wr.heap.size 40 7 (f7 (.int .i64 op) (.int .i64 D) (.int .i64 A) (.int .i64 B) (.int .i64 Ec) (.int .i64 nn) (.int .u32 bt))):=World.rowIs_alloc wr _ _ _ (f7_ok _ _ _ _ _ _ _);have H31:Hid (L3 T w (.slice p0 n0 q0) (.slice p1 n1 q1) (.slice p2 n2 q2) (.slice p3 n3 q3) (.slice ps n2 qs) FB pr p5 p6 n1 qr n2 q5 (2*n0) q6 (.slice pg gl qg) (.slice pp pl qp) ct X S O (wr.alloc (.cells #[.int .i64 op,.int .i64 D,.int .i64 A,.int .i64 B,.int .i64 Ec,.int .i64 nn,.int .u32 bt] 40))):=H3N.out _;obtain⟨W1,hW1⟩:∃W,wr.alloc (.cells #[.int .i64 op,.int .i64 D,.int .i64 A,.int .i64 B,.int .i64 Ec,.int .i64 nn,.int .u32 bt] 40)=W:=⟨_,rfl⟩
         rw[hW1]at HX1 H31;rw[hW1];clear hW1 c0 c1 c2 c3 y0 y1 y2 y3 y4 y5 y6 H3N;go_cut [] (fun wx=>∃ct':Int,Hid (L3 T w (.slice p0 n0 q0) (.slice p1 n1 q1) (.slice p2 n2 q2) (.slice p3 n3 q3) (.slice ps n2 qs) FB pr p5 p6 n1 qr n2 q5 (2*n0) q6 (.slice pg gl qg) (.slice pp pl qp) ct' X S O wx)/\Hid (wx.rowIs wr.heap.size 40 7 (f7 (.int .i64 op) (.int .i64 D) (.int .i64 A) (.int .i64 B) (.int .i64 Ec) (.int .i64 nn) (.int .u32 bt))))
         case first=>
          obtain⟨c0,c1,c2,c3⟩:=H31.code;obtain⟨z0,z1,z2,z3,z4,z5,z6⟩:=Yz HX1.out;obtain⟨-,-,-,-,-,-,-,-,-,g9⟩:=H31.cells;have v9:=H31.frz 9;refine rG (fun v=>v.cell? ⟨w.heap.size+1+1,0,none⟩=some (.slice p0 n0 q0)/\v.cell? ⟨w.heap.size+1+1,1,none⟩=some (.slice p1 n1 q1)/\v.cell? ⟨w.heap.size+1+1,2,none⟩=some (.slice p2 n2 q2)/\v.cell? ⟨w.heap.size+1+1,3,none⟩=some (.slice p3 n3 q3)/\v.cell? ⟨wr.heap.size,0,none⟩=some (.int .i64 op)/\v.cell? ⟨wr.heap.size,1,none⟩=some (.int .i64 D)/\v.cell? ⟨wr.heap.size,2,none⟩=some (.int .i64 A)/\v.cell? ⟨wr.heap.size,3,none⟩=some (.int .i64 B)/\v.cell? ⟨wr.heap.size,4,none⟩=some (.int .i64 Ec)/\v.cell? ⟨wr.heap.size,5,none⟩=some (.int .i64 nn)/\v.cell? ⟨wr.heap.size,6,none⟩=some (.int .u32 bt)) fun hJ=>?_;refine Tc 0 2 3 ?_;clear hJ;refine wpAnyH_ready (rs:=[1,4]) kR sM ?_;refine DP 1 (fun K hK=>?_) ?_
          .go_simp;refine Aq hK fun hJ=>?_;clear hK K;clear hJ;refine Aw 4 fun K hK=>?_;go_simp;(go_at_call 42;(with_reducible refine(KWE.out _ (bel H31.out.sp.b.bel (A9 _))).mono ?_);rintro e w3 ⟨⟨nw,hnw,rfl⟩,hb3⟩;have HB3:Hid (Below W1.heap.size W1 w3):=bel (A9 _) hb3;clear hb3 c0 c1 c2 c3 z0 z1 z2 z3 z4 z5 z6 g9 v9;obtain⟨c0,c1,c2,c3⟩:=(H31.out.next HB3.out).code;obtain⟨z0,z1,z2,z3,z4,z5,z6⟩:=Yz (HX1.out.of_block (HB3.out.block _ HX1.out.lt));obtain⟨-,-,-,-,-,-,-,-,-,g9⟩:=(H31.out.next HB3.out).cells;have v9:=(H31.out.next HB3.out).frz 9;have tc0:=Ap (B:=FB) (i:=9) c0 OX;have tc1:=Ap (B:=FB) (i:=9) c1 OX;have tc2:=Ap (B:=FB) (i:=9) c2 OX;have tc3:=Ap (B:=FB) (i:=9) c3 OX;have tz0:=Ap (B:=FB) (i:=9) z0 QO;have tz1:=Ap (B:=FB) (i:=9) z1 QO;have tz2:=Ap (B:=FB) (i:=9) z2 QO;have tz3:=Ap (B:=FB) (i:=9) z3 QO;have tz4:=Ap (B:=FB) (i:=9) z4 QO;have tz5:=Ap (B:=FB) (i:=9) z5 QO;have tz6:=Ap (B:=FB) (i:=9) z6 QO);try(go_wp2_with fail)
           exact Zcz
          refine DP 4 (fun K hK=>?_) AllReadyH.nil;go_simp;(go_at_call 42;(with_reducible refine(KWE.out _ (bel H31.out.sp.b.bel (A9 _))).mono ?_);rintro e w3 ⟨⟨nw,hnw,rfl⟩,hb3⟩;have HB3:Hid (Below W1.heap.size W1 w3):=bel (A9 _) hb3;clear hb3 c0 c1 c2 c3 z0 z1 z2 z3 z4 z5 z6 g9 v9;obtain⟨c0,c1,c2,c3⟩:=(H31.out.next HB3.out).code;obtain⟨z0,z1,z2,z3,z4,z5,z6⟩:=Yz (HX1.out.of_block (HB3.out.block _ HX1.out.lt));obtain⟨-,-,-,-,-,-,-,-,-,g9⟩:=(H31.out.next HB3.out).cells;have v9:=(H31.out.next HB3.out).frz 9;have tc0:=Ap (B:=FB) (i:=9) c0 OX;have tc1:=Ap (B:=FB) (i:=9) c1 OX;have tc2:=Ap (B:=FB) (i:=9) c2 OX;have tc3:=Ap (B:=FB) (i:=9) c3 OX;have tz0:=Ap (B:=FB) (i:=9) z0 QO;have tz1:=Ap (B:=FB) (i:=9) z1 QO;have tz2:=Ap (B:=FB) (i:=9) z2 QO;have tz3:=Ap (B:=FB) (i:=9) z3 QO;have tz4:=Ap (B:=FB) (i:=9) z4 QO;have tz5:=Ap (B:=FB) (i:=9) z5 QO;have tz6:=Ap (B:=FB) (i:=9) z6 QO);try(go_wp2_with fail)
          refine Aq hK fun hJ=>?_;clear hK K;clear hJ;refine Aw 1 fun K hK=>?_;go_simp;exact Zcz
         case rest=>
          obtain⟨ct',H32,HX2⟩:=hcut;obtain⟨z0,z1,z2,z3,z4,z5,z6⟩:=Yz HX2.out;obtain⟨g0,g1,g2,g3,g4,g5,g6,g7,g8,g9⟩:=H32.cells;clear H31 HX1;by_cases h34:op=34
          .subst h34;obtain⟨hk,h2,_,h4⟩:=Ao HT1.1;have hal:=Ag (BD h2) Zht;simp only at hal;obtain⟨ka,rfl⟩:∃n:Nat,A=(n:Int):=⟨A.toNat,oM⟩
           have hkl:ka<X.length:=by rw[HPI.rel.xl];omega
           have hxa:X[ka]? =some X[ka]:=gB hkl;have hah:=Zd HND.2 (r:=(ka:Int)) (LH Zht) oM hxa;have hma:=AP (BD h2) Zht;have ka2:(Aa c.regs (ka:Int)).kind=2:=by simpa[B7,A4]using hma
           rw[Qm ka2,Int.toNat_natCast]at hah;have hlX:X.length=n1:=by rw[HPI.rel.xl,HN.2.1]
           obtain⟨rb,ro,hpr,hca⟩:=H32.cr.row.row.at hkl;have x1:wc.cell? ⟨rb,ro+ka*2+1,none⟩=some (.int .i64 (f.whs ka)):=by have h9:=hca.at 1 (v:=.int .i64 X[ka].h.whole) rfl;rw[hah]at h9;exact h9
           have l1:(0:Int)<=(ka:Int):=oM;have l2:(ka:Int)<(n1:Int):=oM;subst hpr;obtain⟨wh,hwh⟩:∃x,f.whs ka=x:=⟨_,rfl⟩
           have HWH:Hid (f.whs ka=wh):=hwh;rw[hwh]at x1;by_cases hz:wh=0
           .have hz1:(wh==0)=true:=by simpa using hz
            have HPS:Hid (∃s',KV c G P (BY c l) (j+1) 1 f s' X S O):=HPASS.out 1 (MO c G P f 0 rfl (.inr (by rw[show(⟨34,D,(ka:Int),B,Ec,nn,bt⟩:Ad).a.toNat=ka from Int.toNat_natCast ka,HWH.out,hz]))) (.inr rfl);clear hz hk h2 h4 hal hkl hxa hah hma ka2 hlX hca hwh KDO KWE HDID;go_wp2;go_roundw
            case rel=>
             obtain⟨s',hpl6⟩:=HPS.out;exact⟨j+1,1,oM,oM,gN,gN,f,s',X,S,O,some ⟨rb,ro,none⟩,qr,p5,q5,p6,q6,ct',hpl6,H32.out⟩
            case measure=>first|(simp[intOf];omega)|omega
           .have hz1:(wh==0)=false:=by simpa using hz
            have HNW:Hid (¬ ((34:Int)=34/\f.whs (ka:Int).toNat=0)):=fun e=>hz (by rw[<-HWH.out,<-e.2,Int.toNat_natCast]);clear hz hk h2 h4 hal hkl hxa hah hma ka2 hlX hca hwh KWE;exact Zbd
          .have h34b:(op==34)=false:=by simpa using h34
           have HNW:Hid (¬ (op=34/\f.whs A.toNat=0)):=fun e=>h34 e.1;clear h34 KWE;exact Zbd
        .obtain⟨K,rfl⟩:∃K,k=K+1:=⟨k-1,oM⟩
         have k1:(0:Int)<((K+1:Nat):Int):=oM;have k2:IntKind.i64.wrap (((K+1:Nat):Int)+1)=((K+2:Nat):Int):=by rw[IntKind.wrap_i64];omega
         have k3:IntKind.i64.wrap (((K+1:Nat):Int)-1)=((K:Nat):Int):=by rw[IntKind.wrap_i64];omega
         obtain⟨kz,hkz⟩:∃z:Int,((K+1:Nat):Int)=z:=⟨_,rfl⟩
         have HKZ:Hid (((K+1:Nat):Int)=kz):=hkz;rw[hkz]at k1 k2 k3;try rw[hkz]
         clear HNEED HDID0 hkz hk0;by_cases h34:op=34
         .have h34b:(op==34)=true:=by simpa using h34
          have HPS:Hid (∃s',KV c G P (BY c l) (j+1) (K+2) f s' X S O):=HPASS.out (K+2) (MO c G P f (K+1) h34 (.inl oM)) (.inl oM);clear h34;go_wp2;go_roundw
          case rel=>
           obtain⟨s',hpl6⟩:=HPS.out;exact⟨j+1,K+2,oM,oM,gN,gN,f,s',X,S,O,pr,qr,p5,q5,p6,q6,ct,hpl6,H3N.out _⟩
          case measure=>first|(simp[intOf];omega)|omega
         .have h34b:(op==34)=false:=by simpa using h34
          by_cases h35:op=35
          .have h35b:(op==35)=true:=by simpa using h35
           have HPS:Hid (∃s',KV c G P (BY c l) (j+1) K f s' X S O):=HPASS.out K (VK c G P f K h35) (.inl oM);clear h34 h35;go_wp2;go_roundw
           case rel=>
            obtain⟨s',hpl6⟩:=HPS.out;exact⟨j+1,K,oM,oM,gN,gN,f,s',X,S,O,pr,qr,p5,q5,p6,q6,ct,hpl6,H3N.out _⟩
           case measure=>first|(simp[intOf];omega)|omega
          .have h35b:(op==35)=false:=by simpa using h35
           have HPS:Hid (∃s',KV c G P (BY c l) (j+1) (K+1) f s' X S O):=HPASS.out (K+1) (VM c G P f K h34 h35) (.inl oM);clear h34 h35;go_wp2;go_roundw
           case rel=>
            obtain⟨s',hpl6⟩:=HPS.out;exact⟨j+1,K+1,oM,oM,gN,by rw[HKZ.out],f,s',X,S,O,pr,qr,p5,q5,p6,q6,ct,hpl6,H3N.out _⟩
           case measure=>first|(simp[intOf];omega)|omega
       .have hjn:n3=j:=oM;subst hjn;have HEJ:Hid (EO c l G P=f):=by
         show _=_;have h5:=HPI.go;rw[List.take_of_length_le (by rw[HN.2.2.2.1];exact gF _)]at h5;unfold EO;rw[h5]
        have KUP:Hid (∀v,Below wr.heap.size wr v->Calls prog 44 #[.agg #[.slice p0 n0 q0,.slice p1 n1 q1,.slice p2 n2 q2,.slice p3 n3 q3,.slice pr n1 qr,.slice p5 n2 q5,.slice p6 (2*n0) q6,.slice pg gl qg,.slice pp pl qp,.int .i64 ct]] v fun e w'=>∃p q,e=.returned (.slice p n0 q)/\F7 (fun b=>b<v.heap.size) w' (.slice p n0 q) (Gg c f)/\Below v.heap.size v w'):=fun v hb=>by
         have h9:=H3.next hb;have h8:=Xz c HH.1 _ _ _ _ (.slice pr n1 qr) (.slice p5 n2 q5) (.slice p6 (2*n0) q6) (.slice pg gl qg) (.slice pp pl qp) (.int .i64 ct) f X S O HPI.rel v (HV.1.below h9.sp.b.bel) ⟨h9.co.row.row,fun x hx=>(h9.co.nums x hx).num⟩;rw[HN.1,HN.2.1,HN.2.2.1,HN.2.2.2.1]at h8;exact h8
        have HSO:Hid (S.map (·.h)=f.slots/\Ib c f.slots):=⟨HPI.rel.sl,HPI.ok.slotsL,HPI.ok.slots,HPI.rel.sz⟩
        have e3:¬ (n3:Int)<(n3:Int):=oM;obtain⟨g0,g1,g2,g3,g4,g5,g6,g7,g8,g9⟩:=H3.out.cells;clear hlt HPI;go_upto_region 31 with fail;have a0:wr.cell? ⟨w.heap.size+1,0,none⟩=some (.slice none 0 0):=H3.out.sp.b.q.cell (i:=0) dE;refine rG (fun v=>v.cell? ⟨w.heap.size+1+1,0,none⟩=some (.slice p0 n0 q0)/\v.cell? ⟨w.heap.size+1+1,1,none⟩=some (.slice p1 n1 q1)/\v.cell? ⟨w.heap.size+1+1,2,none⟩=some (.slice p2 n2 q2)/\v.cell? ⟨w.heap.size+1+1,3,none⟩=some (.slice p3 n3 q3)/\v.cell? ⟨FB,0,none⟩=some (.slice p0 n0 q0)/\v.cell? ⟨FB,1,none⟩=some (.slice p1 n1 q1)/\v.cell? ⟨FB,2,none⟩=some (.slice p2 n2 q2)/\v.cell? ⟨FB,3,none⟩=some (.slice p3 n3 q3)/\v.cell? ⟨FB,4,none⟩=some (.slice pr n1 qr)/\v.cell? ⟨FB,5,none⟩=some (.slice p5 n2 q5)/\v.cell? ⟨FB,6,none⟩=some (.slice p6 (2*n0) q6)/\v.cell? ⟨FB,7,none⟩=some (.slice pg gl qg)/\v.cell? ⟨FB,8,none⟩=some (.slice pp pl qp)/\v.cell? ⟨FB,9,none⟩=some (.int .i64 ct)) fun hJ=>?_;refine Tf 0 1 2 3 4 6 ?_;refine Bo 7 ?_;clear hJ;refine Aw 5 fun K hK=>?_;go_simp;(go_at_call 44;(with_reducible refine(KUP.out _ (A9 _)).mono ?_);rintro e w5 ⟨pu,qu,rfl,hvs,hb5⟩;have HB5:Hid (Below wr.heap.size wr w5):=bel (A9 _) hb5;have H35:Hid (L3 T w (.slice p0 n0 q0) (.slice p1 n1 q1) (.slice p2 n2 q2) (.slice p3 n3 q3) (.slice ps n2 qs) FB pr p5 p6 n1 qr n2 q5 (2*n0) q6 (.slice pg gl qg) (.slice pp pl qp) ct X S O w5/\F7 (fun b=>b<wr.heap.size) w5 (.slice pu n0 qu) (Gg c f)):=⟨H3.out.next HB5.out,hvs⟩;clear hb5 hvs c0 c1 c2 c3 g0 g1 g2 g3 g4 g5 g6 g7 g8 g9 a0;obtain⟨c0,c1,c2,c3⟩:=H35.out.1.code;obtain⟨g0,g1,g2,g3,g4,g5,g6,g7,g8,g9⟩:=H35.out.1.cells;have a0:w5.cell? ⟨w.heap.size+1,0,none⟩=some (.slice none 0 0):=H35.out.1.sp.b.q.cell (i:=0) dE;have b10:=H35.out.1.sp.b.q.frozen 0;have a1:w5.cell? ⟨w.heap.size+1,1,none⟩=some (.slice none 0 0):=H35.out.1.sp.b.q.cell (i:=1) dE;have b11:=H35.out.1.sp.b.q.frozen 1;have a2:w5.cell? ⟨w.heap.size+1,2,none⟩=some (.slice none 0 0):=H35.out.1.sp.b.q.cell (i:=2) dE;have b12:=H35.out.1.sp.b.q.frozen 2;have a3:w5.cell? ⟨w.heap.size+1,3,none⟩=some (.slice none 0 0):=H35.out.1.sp.b.q.cell (i:=3) dE;have b13:=H35.out.1.sp.b.q.frozen 3;have a4:w5.cell? ⟨w.heap.size+1,4,none⟩=some (.slice none 0 0):=H35.out.1.sp.b.q.cell (i:=4) dE;have b14:=H35.out.1.sp.b.q.frozen 4;have tc0:=As c0 Zgo;have tc1:=As c1 Zgo;have tc2:=As c2 Zgo;have tc3:=As c3 Zgo;have tg0:=As g0 Yc;have tg1:=As g1 Yc;have tg2:=As g2 Yc;have tg3:=As g3 Yc;have tg4:=As g4 Yc;have tg5:=As g5 Yc;have tg6:=As g6 Yc;have tg7:=As g7 Yc;have tg8:=As g8 Yc;have tg9:=As g9 Yc);try(go_wp2_with fail)
        refine Aq hK fun hJ=>?_;clear hK K;clear hJ;refine Aw 8 fun K hK=>?_;go_simp;refine Aq hK fun hJ=>?_;clear hK K;refine Tc 9 10 11 ?_;refine wpAnyH_done kR ?_ _;go_wp2;refine bodyPost_ret Zgz rfl ?_;rw[HEJ.out];exact Ui H35.1 oM H35.2 HSO.1 HSO.2
def Z2:Option Value->Nat
 |some (.int _ x)=>x.toNat
 |_=>0
def C4(l:List Ad)(o:Nat):Nat:=Z2 ((Au C9 l)[o]?)
theorem D5(l:List Ad){j k:Nat}(hj:j<l.length)(hk:k<7):(Au C9 l)[7*j+k]? =(C9 l[j])[k]? :=by
 have:=Gk D7 l j k hj hk;rw[Nat.mul_comm]at this;exact this
theorem G1{l:List Ad}{o:Nat}:∀k,k<=l.length->(o∈Bu l k↔∃j,∃hj:j<l.length,j<k/\((o=7*j+1/\Af l[j]=true)\/(o=7*j+2/\1<=(Ae l[j] (A4 l[j].op)).length)\/(o=7*j+3/\2<=(Ae l[j] (A4 l[j].op)).length)\/(o=7*j+4/\3<=(Ae l[j] (A4 l[j].op)).length)))
 |0,_=>⟨fun h=>Yr,fun⟨j,hj,h,_⟩=>absurd h oM⟩
 |k+1,hk=>by
  have hkl:k<l.length:=oM;rw[In hkl,List.mem_append,List.mem_append,G1 k oM];have hn:=It l[k];have new:(o∈(if Af l[k]=true then [7*k+1]else [])\/o∈[7*k+2,7*k+3,7*k+4].take (Ae l[k] (A4 l[k].op)).length)↔((o=7*k+1/\Af l[k]=true)\/(o=7*k+2/\1<=(Ae l[k] (A4 l[k].op)).length)\/(o=7*k+3/\2<=(Ae l[k] (A4 l[k].op)).length)\/(o=7*k+4/\3<=(Ae l[k] (A4 l[k].op)).length)):=by
   generalize (Ae l[k] (A4 l[k].op)).length=n at hn;generalize Af l[k]=s;have hn:n=0\/n=1\/n=2\/n=3:=oM;rcases hn with rfl|rfl|rfl|rfl<;>cases s<;>simp
  constructor
  .rintro((⟨j,hj,h1,h2⟩|h)|h)
   .exact⟨j,hj,oM,h2⟩
   .exact⟨k,hkl,oM,new.1 (.inl h)⟩
   .exact⟨k,hkl,oM,new.1 (.inr h)⟩
  .rintro⟨j,hj,h1,h2⟩;by_cases e:j=k
   .subst e;rcases new.2 h2 with h|h
    .exact .inl (.inr h)
    .exact .inr h
   .exact .inl (.inl ⟨j,hj,oM,h2⟩)
theorem G2{l:List Ad}{o:Nat}:∀k,k<=l.length->(o∈BA l k↔∃j,∃hj:j<l.length,j<k/\o=7*j+5/\(l[j].op=32\/l[j].op=33))
 |0,_=>⟨fun h=>Yr,fun⟨j,hj,h,_⟩=>absurd h oM⟩
 |k+1,hk=>by
  have hkl:k<l.length:=oM;rw[Io hkl,List.mem_append,G2 k oM];constructor
  .rintro(⟨j,hj,h1,h2⟩|h)
   .exact⟨j,hj,oM,h2⟩
   .split at h
    .rename_i h9;exact⟨k,hkl,oM,by simpa using h,h9⟩
    .cases h
  .rintro⟨j,hj,h1,h2,h3⟩;by_cases e:j=k
   .subst e;right;rw[if_pos h3,h2];simp
   .exact .inl ⟨j,hj,oM,h2,h3⟩
theorem K6(l:List Ad):∀k,k<=l.length->(Bu l k).Nodup
 |0,_=>List.nodup_nil
 |k+1,hk=>by
  have hkl:k<l.length:=oM;have ih:=K6 l k oM;have lt:∀o∈Bu l k,o<7*k:=fun o ho=>by
   obtain⟨j,hj,h1,h2⟩:=(G1 k oM).1 ho;omega
  rw[In hkl,List.append_assoc,List.nodup_append];have hn:=It l[k];generalize (Ae l[k] (A4 l[k].op)).length=n at hn;generalize Af l[k]=s;have hn:n=0\/n=1\/n=2\/n=3:=oM;refine⟨ih,?_,fun a ha b hb e=>?_⟩
  .rcases hn with rfl|rfl|rfl|rfl<;>cases s<;>simp
  .have h1:=lt a ha;have h2:7*k<=b:=by rcases hn with rfl|rfl|rfl|rfl<;>cases s<;>simp at hb<;>omega
   omega
theorem K8(l:List Ad):∀k,k<=l.length->(BA l k).Nodup
 |0,_=>List.nodup_nil
 |k+1,hk=>by
  have hkl:k<l.length:=oM;have ih:=K8 l k oM;rw[Io hkl,List.nodup_append];refine⟨ih,by split<;>simp,fun a ha b hb e=>?_⟩;obtain⟨j,hj,h1,h2,-⟩:=(G2 k oM).1 ha;split at hb
  .simp only[List.mem_singleton]at hb;omega
  .cases hb
theorem LY(i:Ad)(hk:Al i.op=true):((A4 i.op).a≠0↔1<=(Ae i (A4 i.op)).length)/\((A4 i.op).b≠0↔2<=(Ae i (A4 i.op)).length)/\((A4 i.op).c≠0↔3<=(Ae i (A4 i.op)).length):=by
 have hrow:((A4 i.op).b≠0->(A4 i.op).a≠0)/\((A4 i.op).c≠0->(A4 i.op).b≠0):=by
  obtain⟨n,e,h1,h2⟩:=EY hk;rw[e];have Bl:∀n:Nat,n<38->((A4 (n:Int)).b≠0->(A4 (n:Int)).a≠0)/\((A4 (n:Int)).c≠0->(A4 (n:Int)).b≠0):=dE;exact Bl n h2
 unfold Ae;by_cases ha:(A4 i.op).a=0<;>by_cases hb:(A4 i.op).b=0<;>by_cases hc:(A4 i.op).c=0<;>simp[ha,hb,hc]at hrow |-
section
variable {c : Cd}
noncomputable def ndL (c:Cd):List Ad:=Bc (ndK c.list) id c.list c.list.length
theorem LU(K:Nat->Bool)(f:Ad->Ad)(l:List Ad):∀j,Bc K f l j=(Bc K id l j).map f
 |0=>rfl
 |j+1=>by
  rw[Bc,Bc,LU K f l j,List.map_append];congr 1;cases l[j]? with
  |none=>rfl
  |some i=>simp only;split<;>rfl
theorem MN{i:Ad}(h:i∈ndL c):∃k,∃hk:k<c.list.length,Nd c.list k/\i=c.list[k]:=by
 obtain⟨k,hk,-,h1,h2⟩:=Ro c.list.length (gF _) h;exact⟨k,hk,BF.1 h1,h2⟩
theorem Rn{k:Nat}(hk:k<c.list.length)(n:Nd c.list k):c.list[k]∈ndL c:=RF (f:=id) hk (BF.2 n) c.list.length hk (gF _)
theorem MM(hc:(Ai c).1=0){i:Ad}(h:i∈ndL c):Al i.op=true/\AS c i (A4 i.op)=true:=by
 obtain⟨k,hk,-,rfl⟩:=MN h;obtain⟨h1,h2,h3⟩:=Bi.1 hc;obtain⟨t1,t2,t3,t4⟩:=Ao (Ck h2 hk);exact⟨t1,t2⟩
theorem val_R(hc:(Ai c).1=0){o:Nat}(ho:o∈Bu (ndL c) (ndL c).length):o<(ndL c).length*7/\(Au C9 (ndL c))[o]? =some (.int .i64 (C4 (ndL c) o:Int))/\C4 (ndL c) o<c.regs.length/\usR c.list (C4 (ndL c) o)=true:=by
 obtain⟨j,hj,-,h⟩:=(G1 _ (gF _)).1 ho;have hm:=gD hj;obtain⟨k1,k2⟩:=MM hc hm;obtain⟨ra,rb,rc⟩:=LY _ k1;obtain⟨k,hk,hn,e⟩:=MN hm;obtain⟨c1,c2,c3⟩:=Bi.1 hc;have rd:∀r∈Ae (ndL c)[j] (A4 (ndL c)[j].op),usR c.list r.toNat=true:=fun r hr=>Gx c2 hk hn (by rw[<-e];exact hr);have Bl:∀ (kk:Nat) (x:Int),kk<7->o=7*j+kk->(C9 (ndL c)[j])[kk]? =some (.int .i64 x)->0<=x->x<(c.regs.length:Int)->usR c.list x.toNat=true->o<(ndL c).length*7/\(Au C9 (ndL c))[o]? =some (.int .i64 (C4 (ndL c) o:Int))/\C4 (ndL c) o<c.regs.length/\usR c.list (C4 (ndL c) o)=true:=fun kk x hkk eo hx x0 x1 hu=>by
  have e1:(Au C9 (ndL c))[o]? =some (.int .i64 x):=by rw[eo,D5 _ hj hkk];exact hx
  have e2:C4 (ndL c) o=x.toNat:=by unfold C4;rw[e1];rfl
  refine⟨oM,?_,by rw[e2];omega,by rw[e2];exact hu⟩;rw[e1,e2];congr 2;omega
 have ia:(A4 (ndL c)[j].op).a≠0->(ndL c)[j].a∈Ae (ndL c)[j] (A4 (ndL c)[j].op):=fun h9=>by unfold Ae;simp[h9]
 have ib:(A4 (ndL c)[j].op).b≠0->(ndL c)[j].b∈Ae (ndL c)[j] (A4 (ndL c)[j].op):=fun h9=>by unfold Ae;simp[h9]
 have ic:(A4 (ndL c)[j].op).c≠0->(ndL c)[j].c∈Ae (ndL c)[j] (A4 (ndL c)[j].op):=fun h9=>by unfold Ae;simp[h9]
 rcases h with⟨e1,s⟩|⟨e1,s⟩|⟨e1,s⟩|⟨e1,s⟩
 .have hd:(A4 (ndL c)[j].op).d≠0:=by unfold Af at s;simpa using s
  obtain⟨x0,x1⟩:=Ag (Cw k2) hd;exact Bl 1 _ dE e1 rfl x0 x1 (CA.2 ⟨k,hk,hn,by rw[<-e];exact s,by rw[<-e]⟩)
 .have h9:=ra.2 s;obtain⟨x0,x1⟩:=Ag (BD k2) h9;exact Bl 2 _ dE e1 rfl x0 x1 (rd _ (ia h9))
 .have h9:=rb.2 s;obtain⟨x0,x1⟩:=Ag (CP k2) h9;exact Bl 3 _ dE e1 rfl x0 x1 (rd _ (ib h9))
 .have h9:=rc.2 s;obtain⟨x0,x1⟩:=Ag (CQ k2) h9;exact Bl 4 _ dE e1 rfl x0 x1 (rd _ (ic h9))
theorem nm_R(hc:(Ai c).1=0)(r:Nat):IZ (Bu (ndL c) (ndL c).length) (C4 (ndL c)) r=usR c.list r:=by
 rw[Bool.eq_iff_iff];constructor
 .intro h;obtain⟨o,ho,e⟩:=List.any_eq_true.1 h;have e:C4 (ndL c) o=r:=by simpa using e
  rw[<-e];exact(val_R hc ho).2.2.2
 .intro h;obtain⟨k,hk,n,s,e⟩:=CA.1 h;obtain⟨j,hj,ej⟩:=List.mem_iff_getElem.1 (Rn hk n);refine List.any_eq_true.2 ⟨7*j+1,(G1 _ (gF _)).2 ⟨j,hj,hj,.inl ⟨rfl,by rw[ej];exact s⟩⟩,?_⟩;have:C4 (ndL c) (7*j+1)=r:=by
   unfold C4;rw[D5 _ hj dE,ej,<-e];rfl
  simpa using this
end
def Iu(rho:Nat->Nat)(i:Ad):Ad:={i with d:=if Af i=true then((rho i.d.toNat:Nat):Int)else i.d,a:=if(A4 i.op).a=0 then i.a else((rho i.a.toNat:Nat):Int),b:=if(A4 i.op).b=0 then i.b else((rho i.b.toNat:Nat):Int),c:=if(A4 i.op).c=0 then i.c else((rho i.c.toNat:Nat):Int)}
def ZS(sig:Nat->Nat)(i:Ad):Ad:={i with n:=if i.op=32\/i.op=33 then((sig i.n.toNat:Nat):Int)else i.n}
theorem Ww(rho sig:Nat->Nat){i:Ad}(hk:Al i.op=true):ZS sig (Iu rho i)=CV rho sig i:=by
 have hrow:(A4 i.op).n=10↔(i.op=32\/i.op=33):=by
  obtain⟨n,e,h1,h2⟩:=EY hk;rw[e];have Bl:∀n:Nat,n<38->((A4 (n:Int)).n=10↔((n:Int)=32\/(n:Int)=33)):=dE;exact Bl n h2
 unfold ZS Iu CV Af;simp only;by_cases hd:(A4 i.op).d=0<;>by_cases hn:i.op=32\/i.op=33<;>simp[hd,hn,hrow]
section
variable {c : Cd}
theorem fld_R(hc:(Ai c).1=0)(f:Nat->Value)(hf:∀o,o<(ndL c).length*7->(Au C9 (ndL c))[o]? =some (f o))(o:Nat)(ho:o<((ndL c).map (Iu (AA (usR c.list)))).length*7):(Au C9 ((ndL c).map (Iu (AA (usR c.list)))))[o]? =some (fJ (Bu (ndL c) (ndL c).length) (C4 (ndL c)) f (Bu (ndL c) (ndL c).length).length o):=by
 rw[List.length_map]at ho;obtain⟨j,k,ek,hk⟩:∃j k,o=7*j+k/\k<7:=⟨o/7,o%7,oM,oM⟩
 have hj:j<(ndL c).length:=oM;obtain⟨k1,k2⟩:=MM hc (gD hj);obtain⟨ra,rb,rc⟩:=LY _ k1;have hfo:=hf o ho;rw[ek,D5 _ hj hk]at hfo;have hv:C4 (ndL c) (7*j+k)=Z2 ((C9 (ndL c)[j])[k]?):=by unfold C4;rw[D5 _ hj hk]
 have mem:o∈Bu (ndL c) (ndL c).length↔((k=1/\Af (ndL c)[j]=true)\/(k=2/\(A4 (ndL c)[j].op).a≠0)\/(k=3/\(A4 (ndL c)[j].op).b≠0)\/(k=4/\(A4 (ndL c)[j].op).c≠0)):=by
  rw[G1 _ (gF _),ra,rb,rc];constructor
  .rintro⟨j',hj',-,h⟩;have:j'=j:=oM;subst this;exact Zee
  .intro h;refine⟨j,hj,hj,?_⟩;exact Zee
 have enm:IZ (Bu (ndL c) (ndL c).length) (C4 (ndL c))=usR c.list:=funext (nm_R hc);have gj:(List.map (Iu (AA (usR c.list))) (ndL c))[j]' Zhr=Iu (AA (usR c.list)) (ndL c)[j]:=List.getElem_map ..;rw[ek,D5 _ Zhr hk,gj];unfold fJ;rw[List.take_length,<-ek,enm];simp only[mem];rw[ek,hv];generalize (ndL c)[j]=i at *;obtain⟨op,d,a,b,e,n,z⟩:=i;simp only at hfo |-;rcases(show k=0\/k=1\/k=2\/k=3\/k=4\/k=5\/k=6 by omega)with rfl|rfl|rfl|rfl|rfl|rfl|rfl
 .rw[if_neg oM];rw[<-hfo];rfl
 .by_cases s:Af (⟨op,d,a,b,e,n,z⟩:Ad)=true
  .rw[if_pos (.inl ⟨rfl,s⟩)];show some (Value.int .i64 (if Af _=true then _ else d))=_;rw[if_pos s];rfl
  .rw[if_neg (by simp[s]),<-hfo];show some (Value.int .i64 (if Af _=true then _ else d))=_;rw[if_neg s];rfl
 .by_cases s:(A4 op).a=0
  .rw[if_neg (by simp[s]),<-hfo];show some (Value.int .i64 (if(A4 op).a=0 then a else _))=_;rw[if_pos s];rfl
  .rw[if_pos (.inr (.inl ⟨rfl,s⟩))];show some (Value.int .i64 (if(A4 op).a=0 then a else _))=_;rw[if_neg s];rfl
 .by_cases s:(A4 op).b=0
  .rw[if_neg (by simp[s]),<-hfo];show some (Value.int .i64 (if(A4 op).b=0 then b else _))=_;rw[if_pos s];rfl
  .rw[if_pos (.inr (.inr (.inl ⟨rfl,s⟩)))];show some (Value.int .i64 (if(A4 op).b=0 then b else _))=_;rw[if_neg s];rfl
 .by_cases s:(A4 op).c=0
  .rw[if_neg (by simp[s]),<-hfo];show some (Value.int .i64 (if(A4 op).c=0 then e else _))=_;rw[if_pos s];rfl
  .rw[if_pos (.inr (.inr (.inr ⟨rfl,s⟩)))];show some (Value.int .i64 (if(A4 op).c=0 then e else _))=_;rw[if_neg s];rfl
 .rw[if_neg oM];rw[<-hfo];rfl
 .rw[if_neg oM];rw[<-hfo];rfl
theorem O6(g:Ad->Ad)(hg:∀i,(g i).op=i.op)(l:List Ad):∀k,BA (l.map g) k=BA l k
 |0=>rfl
 |k+1=>by
  rw[BA,BA,O6 g hg l k,List.getElem?_map];cases l[k]? with
  |none=>rfl
  |some i=>simp only[Option.map_some,hg]
theorem val_S(hc:(Ai c).1=0)(rho:Nat->Nat){o:Nat}(ho:o∈BA (ndL c) (ndL c).length):o<(ndL c).length*7/\(Au C9 ((ndL c).map (Iu rho)))[o]? =some (.int .i64 (C4 (ndL c) o:Int))/\C4 (ndL c) o<c.slots.length/\usS c.list (C4 (ndL c) o)=true:=by
 obtain⟨j,hj,-,e1,op⟩:=(G2 _ (gF _)).1 ho;have hm:=gD hj;obtain⟨k,hk,hn,e⟩:=MN hm;obtain⟨m,m1,m2⟩:=Gu hc hk (by rw[<-e];exact op);have e2:C4 (ndL c) o=m:=by
  unfold C4;rw[e1,D5 _ hj dE];show Z2 (some (Value.int .i64 (ndL c)[j].n))=m;rw[e,m1];rfl
 refine⟨oM,?_,by rw[e2];exact m2,?_⟩
 .rw[e2,e1,D5 _ Zhr dE,List.getElem_map];show some (Value.int .i64 (ndL c)[j].n)=_;rw[e,m1]
 .rw[e2];exact EJ.2 ⟨k,hk,hn,by rw[<-e];exact op,by rw[m1];rfl⟩
theorem nm_S(hc:(Ai c).1=0)(r:Nat):IZ (BA (ndL c) (ndL c).length) (C4 (ndL c)) r=usS c.list r:=by
 rw[Bool.eq_iff_iff];constructor
 .intro h;obtain⟨o,ho,e⟩:=List.any_eq_true.1 h;have e:C4 (ndL c) o=r:=by simpa using e
  rw[<-e];exact(val_S hc id ho).2.2.2
 .intro h;obtain⟨k,hk,n,s,e⟩:=EJ.1 h;obtain⟨j,hj,ej⟩:=List.mem_iff_getElem.1 (Rn hk n);refine List.any_eq_true.2 ⟨7*j+5,(G2 _ (gF _)).2 ⟨j,hj,hj,rfl,by rw[ej];exact s⟩,?_⟩;have:C4 (ndL c) (7*j+5)=r:=by
   unfold C4;rw[D5 _ hj dE,ej,<-e];rfl
  simpa using this
theorem fld_S(hc:(Ai c).1=0)(rho:Nat->Nat)(f:Nat->Value)(hf:∀o,o<(ndL c).length*7->(Au C9 ((ndL c).map (Iu rho)))[o]? =some (f o))(o:Nat)(ho:o<(ndL c).length*7):(Au C9 (((ndL c).map (Iu rho)).map (ZS (AA (usS c.list)))))[o]? =some (fJ (BA (ndL c) (ndL c).length) (C4 (ndL c)) f (BA (ndL c) (ndL c).length).length o):=by
 obtain⟨j,k,ek,hk⟩:∃j k,o=7*j+k/\k<7:=⟨o/7,o%7,oM,oM⟩
 have hj:j<(ndL c).length:=oM;have hj1:j<((ndL c).map (Iu rho)).length:=by rw[List.length_map];exact hj
 have hfo:=hf o ho;rw[ek,D5 _ hj1 hk,List.getElem_map]at hfo;have hv:C4 (ndL c) (7*j+k)=Z2 ((C9 (ndL c)[j])[k]?):=by unfold C4;rw[D5 _ hj hk]
 have mem:o∈BA (ndL c) (ndL c).length↔(k=5/\((ndL c)[j].op=32\/(ndL c)[j].op=33)):=by
  rw[G2 _ (gF _)];constructor
  .rintro⟨j',hj',-,h,s⟩;have:j'=j:=oM;subst this;exact⟨oM,s⟩
  .intro h;exact⟨j,hj,hj,oM,h.2⟩
 have enm:IZ (BA (ndL c) (ndL c).length) (C4 (ndL c))=usS c.list:=funext (nm_S hc);rw[ek,D5 _ (by rw[List.length_map];exact hj1) hk,List.getElem_map,List.getElem_map];unfold fJ;rw[List.take_length,<-ek,enm];simp only[mem];rw[ek,hv];generalize (ndL c)[j]=i at *;by_cases k5:k=5
 .subst k5;by_cases s:i.op=32\/i.op=33
  .rw[if_pos ⟨rfl,s⟩];show some (Value.int .i64 (if i.op=32\/i.op=33 then _ else _))=_;rw[if_pos s];rfl
  .rw[if_neg (fun q=>s q.2),<-hfo];show some (Value.int .i64 (if i.op=32\/i.op=33 then _ else _))=_;rw[if_neg s];rfl
 .rw[if_neg (fun q=>k5 q.1),<-hfo];rcases(show k=0\/k=1\/k=2\/k=3\/k=4\/k=6 by omega)with rfl|rfl|rfl|rfl|rfl|rfl<;>rfl
theorem Qh(hc:(Ai c).1=0):((ndL c).map (Iu (AA (usR c.list)))).map (ZS (AA (usS c.list)))=(pruneC c).list:=by
 show _=Bc (ndK c.list) (CV (AA (usR c.list)) (AA (usS c.list))) c.list c.list.length;rw[LU,List.map_map];refine List.map_congr_left fun i hi=>?_;exact Ww _ _ (MM hc hi).1
end
theorem VD{E:Nat}{w:World}{p:Option Addr}{n q:Nat}{xs:List Value}(h:w.ownsRow E 40 7 (.slice p n q) n xs)(hz:n=0->p=none/\q=0):
 ∃LB N0 f,E<=LB/\(LB<w.heap.size\/LB=E)/\(0<n->p=some ⟨LB,0,none⟩)/\(N0=0\/w.rowIs LB 40 N0 f)/\n*7<=N0/\(∀o,o<n*7->xs[o]? =some (f o))/\(∀ (w':World) (f':Nat->Value),(N0=0\/w'.rowIs LB 40 N0 f')->∀ys:List Value,ys.length=n*7->(∀o,o<n*7->ys[o]? =some (f' o))->w'.ownsRow E 40 7 (.slice p n q) n ys):=by
 obtain⟨hl,h⟩:=h;rcases h with⟨e,h0⟩|⟨g,cap,cur,hv,hB,hg,hc1,hc2,hsz,htk⟩
 .subst h0;simp only[Value.slice.injEq]at e;obtain⟨rfl,-,rfl⟩:=e;exact⟨E,0,fun _=>undef,gF _,.inr rfl,fun h=>absurd h oM,.inl rfl,oM,fun o h=>absurd h oM,fun w' f' _ ys hy _=>⟨hy,.inl ⟨rfl,rfl⟩⟩⟩
 .simp only[Value.slice.injEq]at hv;obtain⟨rfl,-,rfl⟩:=hv;have hn0:0<n:=Nat.pos_of_ne_zero fun e=>by cases(hz e).1
  have hle:=Nat.mul_le_mul_right 7 hc1;have hcu:∀i,i<q*7->cur[i]? =some ((cur[i]?).getD undef):=fun i hi=>by rw[Array.getElem?_eq_getElem oM];simp
  refine⟨g,q*7,fun o=>(cur[o]?).getD undef,hB,.inl (by rcases Nat.lt_or_ge g w.heap.size with c|c;exact c;rw[Array.getElem?_eq_none c]at hg;cases hg),fun _=>rfl,.inr ⟨cur,hg,hsz,hcu⟩,hle,fun o ho=>?_,fun w' f' hw ys hy hx=>⟨hy,.inr ?_⟩⟩
  .rw[<-htk,List.getElem?_take_of_lt ho,<-hcu o oM];simp
  .rcases hw with h9|⟨c2,h9,h8,h7⟩
   .exact absurd h9 oM
   .refine⟨g,q,c2,rfl,hB,h9,hc1,hc2,h8,List.ext_getElem? fun o=>?_⟩;by_cases ho:o<n*7
    .rw[List.getElem?_take_of_lt ho,hx o ho];have:=h7 o oM;simpa using this
    .rw[List.getElem?_eq_none sO,List.getElem?_eq_none oM]
theorem I0{t:TypeId}{n b:Nat}{z:Value}:∀ (m o:Nat) (w:World) (f:Nat->Value),w.rowIs b t n f->(w.setCells b o (List.replicate m z)).rowIs b t n (fun j=>if o<=j/\j<o+m then z else f j)
 |0,o,w,f,h=>h.congr fun j hj=>by rw[if_neg oM]
 |m+1,o,w,f,h=>by
  have ih:=I0 (z:=z) m (o+1) (w.setCell ⟨b,o,none⟩ z) _ (h.set o z);refine ih.congr fun j hj=>?_;by_cases e:j=o
  .rw[if_neg oM,if_pos e,if_pos oM]
  .by_cases e2:o+1<=j/\j<o+1+m
   .rw[if_pos e2,if_pos oM]
   .rw[if_neg e2,if_neg e,if_neg oM]
theorem Gb{b:Nat}{z:Value}:∀ (m o:Nat) (w:World),(∀b',b'≠b->(w.setCells b o (List.replicate m z)).heap[b']? =w.heap[b']?)/\(w.setCells b o (List.replicate m z)).heap.size=w.heap.size/\Below 0 w (w.setCells b o (List.replicate m z))
 |0,o,w=>⟨fun _ _=>rfl,rfl,Below.refl 0 w⟩
 |m+1,o,w=>by
  obtain⟨h1,h2,h3⟩:=Gb (z:=z) m (o+1) (w.setCell ⟨b,o,none⟩ z);exact⟨fun b' hb=>(h1 b' hb).trans (gE hb),h2.trans sM,((Below.refl 0 w).setCell (gI _) z).trans h3⟩
theorem UA:∀w,(zeroValue 4).run prog w=.ok (.bool false) w:=fun w=>by
 obtain⟨i0,hi0,hz0,hz1,hz2⟩:=info_parts EX;simp[zeroValue,typeInfo,hi0,hz0]
theorem SO{u:World}{IB K:Nat}{g:Nat->Value}(h:u.rowIs IB 4 K g):∃W,(∀ty,(Builtin.clear_ #[36] ty #[.slice (some ⟨IB,0,none⟩) K K]).run prog u=.ok (.tuple #[]) W)/\W.rowIs IB 4 K (fun _=>.bool false)/\(∀b,b≠IB->W.heap[b]? =u.heap[b]?)/\W.heap.size=u.heap.size/\Below 0 u W:=by
 by_cases hK:0<K
 .obtain⟨o1,o2,o3⟩:=Gb (b:=IB) (z:=.bool false) K 0 u;refine⟨u.setCells IB 0 (List.replicate K (.bool false)),fun ty=>Lib.run_clear_slice u 36 4 ty (.bool false) underlying36 UA rfl rfl IB 0 K K hK (fun j hj=>by rw[Nat.zero_add,h.cell hj];rfl) (fun j hj=>by rw[Nat.zero_add];exact h.frozen j),(I0 K 0 u g h).congr fun j hj=>if_pos ⟨gI _,oM⟩,o1,o2,o3⟩
 .have e:K=0:=oM;subst e;exact⟨u,fun ty=>by simp[Builtin.clear_,run_underlying underlying36],h.congr fun j hj=>absurd hj oM,fun _ _=>rfl,rfl,Below.refl 0 u⟩
theorem SA{E IB:Nat}{u W:World}(hI:E<=IB)(ho:∀b,b≠IB->W.heap[b]? =u.heap[b]?)(hb:Below 0 u W):Below E u W:=⟨hb.os,hb.tape,hb.output,hb.size,fun k hk=>ho k oM⟩
theorem LV(v0 v1 v2 v3:Value)(c:Cd)(hk:Ba c)(w:World)(hv:CD w v0 v1 v2 v3 c)(hc:(Ai c).1≠0):
 Calls prog 4 #[.agg #[v0,v1,v2,v3]] w fun e w'=>e=.returned (.tuple #[.agg #[.slice none 0 0,.slice none 0 0,.slice none 0 0,.slice none 0 0],.int .i64 160])/\Below w.heap.size w w':=by
 have KC:Hid (∀v,Below w.heap.size w v->Calls prog 12 #[.agg #[v0,v1,v2,v3]] v fun e w'=>e=.returned (.tuple #[.int .i64 (Ai c).1,.int .i64 (Ai c).2])/\Below v.heap.size v w'):=fun v hvv=>Lo v0 v1 v2 v3 c hk v (hv.below hvv);obtain⟨e1,he1⟩:=gA ((Ai c).1)
 obtain⟨e2,he2⟩:=gA ((Ai c).2)
 rw[he1]at hc KC;rw[he2]at KC;have n1:(e1 != 0)=true:=by simpa using hc
 have n2:(e1==0)=false:=by simpa using hc
 obtain⟨p0,q0,rfl⟩:∃p q,v0=.slice p c.sign.length q:=by obtain⟨p,q,e,_⟩:=hv.sign;exact⟨p,q,e⟩
 obtain⟨p1,q1,rfl⟩:∃p q,v1=.slice p c.regs.length q:=by obtain⟨p,q,e,_⟩:=hv.regs;exact⟨p,q,e⟩
 obtain⟨p2,q2,rfl⟩:∃p q,v2=.slice p c.slots.length q:=by obtain⟨p,q,e,_⟩:=hv.slots;exact⟨p,q,e⟩
 obtain⟨p3,q3,rfl⟩:∃p q,v3=.slice p c.list.length q:=by obtain⟨p,q,e,_⟩:=hv.list;exact⟨p,q,e⟩
 obtain⟨W0,hW0⟩:∃W,(w.alloc (.cells #[.slice p0 c.sign.length q0,.slice p1 c.regs.length q1,.slice p2 c.slots.length q2,.slice p3 c.list.length q3] 27)).alloc (.cells #[.slice none 0 0,.slice none 0 0,.slice none 0 0,.slice none 0 0] 27)=W:=⟨_,rfl⟩
 have HB0:Hid (Below w.heap.size w W0):=by rw[<-hW0];exact bel (A0 _ _) (A0 _ _)
 have b0:W0.cell? ⟨w.heap.size,0,none⟩=some (.slice p0 c.sign.length q0):=by rw[<-hW0];simp[go_sem]
 have b1:W0.cell? ⟨w.heap.size,1,none⟩=some (.slice p1 c.regs.length q1):=by rw[<-hW0];simp[go_sem]
 have b2:W0.cell? ⟨w.heap.size,2,none⟩=some (.slice p2 c.slots.length q2):=by rw[<-hW0];simp[go_sem]
 have b3:W0.cell? ⟨w.heap.size,3,none⟩=some (.slice p3 c.list.length q3):=by rw[<-hW0];simp[go_sem]
 have HR:Hid (W0.rowIs (w.heap.size+1) 27 4 (En #[.slice none 0 0,.slice none 0 0,.slice none 0 0,.slice none 0 0])):=by
  show World.rowIs _ _ _ _ _;rw[<-hW0];have h9:=BS (w.alloc (.cells #[.slice p0 c.sign.length q0,.slice p1 c.regs.length q1,.slice p2 c.slots.length q2,.slice p3 c.list.length q3] 27)) #[.slice none 0 0,.slice none 0 0,.slice none 0 0,.slice none 0 0] 27;rw[show(w.alloc (.cells #[.slice p0 c.sign.length q0,.slice p1 c.regs.length q1,.slice p2 c.slots.length q2,.slice p3 c.list.length q3] 27)).heap.size=w.heap.size+1 by simp]at h9;exact h9
 clear hv hk he1 he2;go_enter func4,ntmps4;go_upto_region 1 with fail;try rw[hW0]
 go_wp2_with(go_at_call 12;refine(KC.out _ HB0.out).mono ?_;rintro e w1 ⟨rfl,hb1⟩;have HB1:=A7 hb1;have HR1:=A7 (HR.of_block (hb1.block _ HR.lt));have r0:w1.cell? ⟨w.heap.size+1,0,none⟩=some (.slice none 0 0):=HR1.cell (i:=0) dE;have r1:w1.cell? ⟨w.heap.size+1,1,none⟩=some (.slice none 0 0):=HR1.cell (i:=1) dE;have r2:w1.cell? ⟨w.heap.size+1,2,none⟩=some (.slice none 0 0):=HR1.cell (i:=2) dE;have r3:w1.cell? ⟨w.heap.size+1,3,none⟩=some (.slice none 0 0):=HR1.cell (i:=3) dE;have f0:=HR1.frozen 0;have f1:=HR1.frozen 1;have f2:=HR1.frozen 2;have f3:=HR1.frozen 3;clear hb1);refine bodyPost_ret (by simp[results,results4,go_sem, *];try rfl) rfl ?_;have hle:w.heap.size<=w.heap.size+1:=Nat.le_succ _;exact⟨rfl,((((bel HB0.out HB1.out).setCell hle _).setCell hle _).setCell hle _).setCell hle _⟩
theorem GS(v0 v1 v2 v3:Value)(c:Cd)(hk:Ba c)(w:World)(hv:CD w v0 v1 v2 v3 c)(hc:(Ai c).1=0):
 Calls prog 4 #[.agg #[v0,v1,v2,v3]] w fun e w'=>∃u0 u1 u2 u3,e=.returned (.tuple #[.agg #[u0,u1,u2,u3],.int .i64 0])/\CD w' u0 u1 u2 u3 (pruneC c)/\Own4 w.heap.size w' u0 u1 u2 u3 (pruneC c)/\Below w.heap.size w w':=by
 obtain⟨hg,htk⟩:=Ez hc;have KC:Hid (∀v,Below w.heap.size w v->Calls prog 12 #[.agg #[v0,v1,v2,v3]] v fun e w'=>e=.returned (.tuple #[.int .i64 0,.int .i64 (Ai c).2])/\Below v.heap.size v w'):=fun v hvv=>by have:=Lo v0 v1 v2 v3 c hk v (hv.below hvv);rw[hc]at this;exact this
 obtain⟨e2,he2⟩:=gA ((Ai c).2)
 rw[he2]at KC;have K0:Hid (∀v,Below w.heap.size w v->Calls prog 18 #[v0] v fun e w'=>∃p d,e=.returned (.slice p c.sign.length d)/\w'.ownsRow v.heap.size 67 3 (.slice p c.sign.length d) c.sign.length (Au AY c.sign)/\Below v.heap.size v w'):=fun v hvv=>(SP v0 c.sign v (hv.sign.below hvv) (by have:=hg.signL;omega)).mono fun e w' ⟨p,d,h1,h2,h4,h3⟩=>⟨p,d,h1,h4,h3⟩
 have HVV:=A7 hv;obtain⟨p0,q0,rfl⟩:∃p q,v0=.slice p c.sign.length q:=by obtain⟨p,q,e,_⟩:=hv.sign;exact⟨p,q,e⟩
 obtain⟨p1,q1,rfl⟩:∃p q,v1=.slice p c.regs.length q:=by obtain⟨p,q,e,_⟩:=hv.regs;exact⟨p,q,e⟩
 obtain⟨p2,q2,rfl⟩:∃p q,v2=.slice p c.slots.length q:=by obtain⟨p,q,e,_⟩:=hv.slots;exact⟨p,q,e⟩
 obtain⟨p3,q3,rfl⟩:∃p q,v3=.slice p c.list.length q:=by obtain⟨p,q,e,_⟩:=hv.list;exact⟨p,q,e⟩
 have hL1:=hg.listL;have hR1:=hg.regsL;have hS1:=hg.slotsL;have KN:Hid (∀ (v:World),Below w.heap.size w v->∀C,v.cell? ⟨C,1,none⟩=some (.slice p1 c.regs.length q1)->v.cell? ⟨C,2,none⟩=some (.slice p2 c.slots.length q2)->v.cell? ⟨C,3,none⟩=some (.slice p3 c.list.length q3)->Calls prog 13 #[.pointer (some ⟨C,0,none⟩)] v fun e w'=>∃p q,e=.returned (.slice p (ndL c).length q)/\w'.ownsRow v.heap.size 40 7 (.slice p (ndL c).length q) (ndL c).length (Au C9 (ndL c))/\((ndL c).length=0->p=none/\q=0)/\Below v.heap.size v w'):=fun v hb C h1 h2 h3=>Q4 c hc v C p1 p2 p3 q1 q2 q3 hR1 hS1 hL1 h1 h2 h3 (hv.list.below hb);have HRA:Hid (∀v,Below w.heap.size w v->AV 2 J6 v (.slice p1 c.regs.length q1) c.regs):=fun v hb=>hv.regs.below hb;have HSA:Hid (∀v,Below w.heap.size w v->AV 5 Jf v (.slice p2 c.slots.length q2) c.slots):=fun v hb=>hv.slots.below hb;have HNL:Hid ((ndL c).length<=32768):=by have h9:(ndL c).length<=c.list.length:=G7 _ _ _ _;show _<=_;omega
 have HFIN:Hid (AU (IZ (Bu (ndL c) (ndL c).length) (C4 (ndL c))) c.regs=(pruneC c).regs/\AU (IZ (BA (ndL c) (ndL c).length) (C4 (ndL c))) c.slots=(pruneC c).slots/\(pruneC c).sign=c.sign):=⟨by rw[funext (nm_R hc)];rfl,by rw[funext (nm_S hc)];rfl,rfl⟩
 have HVR:=A7 (fun o (ho:o∈Bu (ndL c) (ndL c).length)=>val_R hc ho);have HVS:=A7 (fun o (ho:o∈BA (ndL c) (ndL c).length)=>val_S hc (AA (usR c.list)) ho);have HFR:=A7 (fun f hf o ho=>fld_R hc f hf o ho);have HFS:=A7 (fun f hf o ho=>fld_S hc (AA (usR c.list)) f hf o ho);have HPL:=A7 (Qh hc);obtain⟨l,hl⟩:=gA (ndL c)
 simp only[hl]at KN HNL HFIN HVR HVS HFR HFS HPL;obtain⟨l1,hl1⟩:=gA (l.map (Iu (AA (usR c.list))))
 simp only[hl1]at HVS HFR HFS HPL;have HL1:Hid (l1.length=l.length/\BA l1 l1.length=BA l l.length):=by
  rw[<-hl1];refine⟨List.length_map ..,?_⟩;rw[List.length_map];exact O6 (Iu (AA (usR c.list))) (fun _=>rfl) l _
 obtain⟨n,hn⟩:=gA (l.length)
 have HLN:=A7 hn;simp only[hn]at KN HNL HVR HVS HFR HFS HL1 HFIN;obtain⟨N0,hN0⟩:∃N,c.sign.length=N:=⟨_,rfl⟩
 obtain⟨N1,hN1⟩:∃N,c.regs.length=N:=⟨_,rfl⟩
 obtain⟨N2,hN2⟩:∃N,c.slots.length=N:=⟨_,rfl⟩
 obtain⟨N3,hN3⟩:∃N,c.list.length=N:=⟨_,rfl⟩
 simp only[hN0,hN1,hN2,hN3]at KC K0 KN hL1 hR1 hS1 HVV HRA HSA HVR HVS |-;have HN:Hid (c.sign.length=N0/\c.regs.length=N1/\c.slots.length=N2/\c.list.length=N3):=⟨hN0,hN1,hN2,hN3⟩
 obtain⟨W0,hW0⟩:∃W,(w.alloc (.cells #[.slice p0 N0 q0,.slice p1 N1 q1,.slice p2 N2 q2,.slice p3 N3 q3] 27)).alloc (.cells #[.slice none 0 0,.slice none 0 0,.slice none 0 0,.slice none 0 0] 27)=W:=⟨_,rfl⟩
 have HB0:Hid (Below w.heap.size w W0):=by rw[<-hW0];exact bel (A0 _ _) (A0 _ _)
 have b0:W0.cell? ⟨w.heap.size,0,none⟩=some (.slice p0 N0 q0):=by rw[<-hW0];simp[go_sem]
 have b1:W0.cell? ⟨w.heap.size,1,none⟩=some (.slice p1 N1 q1):=by rw[<-hW0];simp[go_sem]
 have b2:W0.cell? ⟨w.heap.size,2,none⟩=some (.slice p2 N2 q2):=by rw[<-hW0];simp[go_sem]
 have b3:W0.cell? ⟨w.heap.size,3,none⟩=some (.slice p3 N3 q3):=by rw[<-hW0];simp[go_sem]
 have HR:Hid (W0.rowIs (w.heap.size+1) 27 4 (En #[.slice none 0 0,.slice none 0 0,.slice none 0 0,.slice none 0 0])):=by
  show World.rowIs _ _ _ _ _;rw[<-hW0];have h9:=BS (w.alloc (.cells #[.slice p0 N0 q0,.slice p1 N1 q1,.slice p2 N2 q2,.slice p3 N3 q3] 27)) #[.slice none 0 0,.slice none 0 0,.slice none 0 0,.slice none 0 0] 27;rw[show(w.alloc (.cells #[.slice p0 N0 q0,.slice p1 N1 q1,.slice p2 N2 q2,.slice p3 N3 q3] 27)).heap.size=w.heap.size+1 by simp]at h9;exact h9
 clear hv hk he2 hg htk hc hN0 hN1 hN2 hN3 hn hl1 hl;go_enter func4,ntmps4;go_upto_region 1 with fail;try rw[hW0]
 clear hW0;go_upto_region 5 with(first
  |(go_at_call 12;(with_reducible refine(KC.out _ HB0.out).mono ?_);rintro e w1 ⟨rfl,hb1⟩;have HB1:=A7 (bel HB0.out hb1);have HR1:=A7 (HR.out.of_block (hb1.block _ HR.out.lt));have c0:=kc hb1 b0;have c1:=kc hb1 b1;have c2:=kc hb1 b2;have c3:=kc hb1 b3;clear hb1 b0 b1 b2 b3)
  |(go_at_call 13;(with_reducible refine(KN.out _ HB1.out _ c1 c2 c3).mono ?_);rintro e w2 ⟨pl,ql,rfl,hli,hz2,hb2⟩;have HLI:=A7 hli;have HZ2:=A7 hz2;have HB2:=A7 hb2;clear hb2 hli hz2))
 obtain⟨E,hE⟩:=gA (w1.heap.size)
 have HEN:Hid (w.heap.size+1<E/\w.heap.size<=E):=by rw[<-hE];have h9:=HR1.lt;exact⟨h9,oM⟩
 rw[hE]at HLI HB2;have HE2:Hid (E<=w2.heap.size):=by rw[<-hE];have:=HB2.size;exact this
 obtain⟨LB,NC,f,hEL,hLBs,hpl,hlm,hnc,hfx,hback⟩:=VD HLI.out HZ2.out;have HLOW:Hid (∀v,Below E w1 v->v.cell? ⟨w.heap.size,0,none⟩=some (.slice p0 N0 q0)/\v.cell? ⟨w.heap.size,1,none⟩=some (.slice p1 N1 q1)/\v.cell? ⟨w.heap.size,2,none⟩=some (.slice p2 N2 q2)/\v.rowIs (w.heap.size+1) 27 4 (En #[.slice none 0 0,.slice none 0 0,.slice none 0 0,.slice none 0 0])/\Below w.heap.size w v):=fun v hv=>by
  have k:∀ {a:Addr} {x:Value},a.block<E->w1.cell? a=some x->v.cell? a=some x:=fun{a x} ha hx=>(gC (hv.block a.block ha)).trans hx;have h1:=HEN.1;exact⟨k Zhw c0,k Zhw c1,k Zhw c2,HR1.of_block (hv.block _ h1),HB1.trans (hv.mono HEN.2)⟩
 obtain⟨K,hK⟩:=gA (max N1 N2)
 obtain⟨W3,hW3⟩:∃W,w2.alloc (.cells (madeCells #[.bool false] K) 4)=W:=⟨_,rfl⟩
 have m1:=fun v=>JT K oM v;obtain⟨IB,hIB⟩:∃I,w2.heap.size=I:=⟨_,rfl⟩
 have HB3:Hid (Below w2.heap.size w2 W3):=by rw[<-hW3];exact A0 _ _
 have HI3:Hid (W3.rowIs IB 4 K (fun _=>.bool false)):=by rw[<-hW3,<-hIB];exact World.rowIs_made w2 (.bool false) K 4
 have HBE3:Hid (Below E w1 W3):=HB2.trans (HB3.mono HE2.out);have HE3:Hid (E<=W3.heap.size/\E<=IB/\E<=LB):=⟨gH HE2.out HB3.size,by rw[<-hIB];exact HE2.out,hEL⟩
 have HLM:Hid (NC=0\/W3.rowIs LB 40 NC f):=hlm.imp id fun h=>h.of_block (HB3.block _ h.lt);have HLB:Hid (LB<W3.heap.size):=by
  have h9:W3.heap.size=w2.heap.size+1:=by rw[<-hW3];simp
  have h8:=HE2.out;show _<_;rcases hLBs with h7|h7<;>omega
 have HPP:=A7 hpl;have HNC:=A7 hnc;have HFX:=A7 hfx;have HBK:=A7 hback;have HLI3:=A7 (Ak HLI.out HB3.out);have d1:=(HLOW.out w2 HB2.out).2.1;have d2:=(HLOW.out w2 HB2.out).2.2.1;have HKK:Hid (N1<=K/\N2<=K):=by rw[<-hK];exact⟨Nat.le_max_left _ _,Nat.le_max_right _ _⟩
 clear hEL hLBs hpl hlm hnc hfx hback HLI HB2 HR HR1 KN KC c0 c1 c2 c3 hE;go_cut [7] (fun v wx=>v=.slice (some ⟨IB,0,none⟩) K K/\wx=W3)
 case first=>
  rcases Nat.le_total N1 N2 with h9|h9
  .have hKe:K=N2:=by rw[<-hK];omega
   have z1:(N1:Int)<=(N2:Int):=oM;have z2:max (N1:Int) (N2:Int)=(N2:Int):=oM;subst hKe;clear hK h9;go_wp2;go_meet;first|exact⟨rfl,rfl⟩|(rw[hW3,hIB];exact⟨rfl,rfl⟩)
  .have hKe:K=N1:=by rw[<-hK];omega
   have z1:(N2:Int)<=(N1:Int):=oM;have z2:max (N1:Int) (N2:Int)=(N1:Int):=oM;subst hKe;clear hK h9;go_wp2;go_meet;first|exact⟨rfl,rfl⟩|(rw[hW3,hIB];exact⟨rfl,rfl⟩)
 case rest=>
  obtain⟨rfl,rfl⟩:=hcut;clear hK hW3 hIB m1 d1 d2 HB3 HE2;have KF:Hid (∀v,Below wc.heap.size wc v->Calls prog 15 #[.slice pl n ql] v fun e w'=>∃q d,e=.returned (.slice q (Bu l n).length d)/\w'.ownsRow E 92 1 (.slice q (Bu l n).length d) (Bu l n).length (DJ LB (Bu l n))/\Below v.heap.size v w'):=fun v hv=>by
   have h9:=Wv l v pl ql LB (by rw[HLN.out];exact HPP.out) (Du D7 (by rw[HLN.out];exact Ak HLI3.out hv)) (by rw[HLN.out];exact HNL.out);rw[HLN.out]at h9;exact h9.mono fun e w' ⟨q,d,h1,h2,h3⟩=>⟨q,d,h1,CM h2 (gH HE3.1 hv.size),h3⟩
  have KT:Hid (∀u,Below wc.heap.size wc u->∀pf qf,u.ownsRow E 92 1 (.slice pf (Bu l n).length qf) (Bu l n).length (DJ LB (Bu l n))->Calls prog 14 #[.slice p1 N1 q1,.slice pf (Bu l n).length qf,.slice (some ⟨IB,0,none⟩) K K] u fun e w'=>∃pr qr,e=.returned (.slice pr (pruneC c).regs.length qr)/\w'.ownsRow u.heap.size 59 2 (.slice pr (pruneC c).regs.length qr) (pruneC c).regs.length (Au J6 (pruneC c).regs)/\RnV E IB K LB NC (Bu l n) (C4 l) f u w'):=fun u hu pf qf hF=>by
   have hbu:Below E w1 u:=HBE3.trans (hu.mono HE3.1);have h9:=ren_Ty E u c.regs p1 q1 (fun v hv=>by rw[HN.2.1];exact HRA.out v (HLOW.out v (hbu.trans hv)).2.2.2.2) (Bu l n) (C4 l) LB NC f (fun o ho=>by
    obtain⟨a1,a2,a3,-⟩:=HVR.out o ho;refine⟨Nat.lt_of_lt_of_le a1 HNC.out,?_,by rw[HN.2.1];exact a3⟩;have:=HFX.out o a1;rw[this]at a2
    simpa using a2) (HLM.imp id fun h=>h.of_block (hu.block _ h.lt)) pf qf hF IB K (HI3.of_block (hu.block _ HI3.lt)) (by rw[HN.2.1];exact HKK.1) ⟨gH HE3.1 hu.size,HE3.2⟩ (by have:=K6 l l.length (gF _);rw[HLN.out]at this;exact this) (by rw[HN.2.1];exact hR1) (by have:=JZ l n;have:=HNL.out;omega)
   rw[HN.2.1,HFIN.1]at h9;exact h9
  obtain⟨g0,g1,g2,-⟩:=HLOW.out wc HBE3.out;obtain⟨LR,hLR⟩:∃k,(Bu l n).length=k:=⟨_,rfl⟩
  simp only[hLR]at KF KT;obtain⟨NR,hNR⟩:∃k,(pruneC c).regs.length=k:=⟨_,rfl⟩
  simp only[hNR]at KT;have HNR:=A7 hNR;clear hLR hNR;go_upto_region 6 with fail;refine rG (fun v=>v.cell? ⟨w.heap.size,1,none⟩=some (.slice p1 N1 q1)) fun hJ=>?_;refine Tc 0 1 2 ?_;refine Bo 4 ?_;clear hJ;refine Aw 3 fun K hK=>?_;go_simp;(go_at_call 15;(with_reducible refine(KF.out _ (Bg _)).mono ?_);rintro e u1 ⟨pf,qf,rfl,hf1,hb1'⟩;have HF1:=A7 hf1;have HU1:Hid (Below wc.heap.size wc u1):=bel (Bg _) hb1';obtain⟨g0,g1,g2,-⟩:=HLOW.out u1 (HBE3.out.trans (HU1.out.mono HE3.out.1));clear hf1 hb1');try(go_wp2_with fail)
  refine Aq hK fun hJ=>?_;clear hK K;clear hJ;refine Aw 5 fun K hK=>?_;go_simp;(go_at_call 14;(with_reducible refine(KT.out _ HU1.out _ _ HF1.out).mono ?_);rintro e u2 ⟨pr,qr,rfl,hr2,hv2⟩;have HRG:=A7 hr2;have HV2:=A7 hv2;obtain⟨g0,g1,g2,-⟩:=HLOW.out u2 ((HBE3.out.trans (HU1.out.mono HE3.out.1)).trans hv2.bel);clear hr2 hv2);try(go_wp2_with fail)
  refine Aq hK fun hJ=>?_;clear hK K;refine Bo 6 ?_;refine wpAnyH_done kR ?_ _;have HBU2:Hid (Below E w1 u2):=(HBE3.trans (HU1.mono HE3.1)).trans HV2.bel;obtain⟨W4,hcl,hI4,hO4,hS4,hZ4⟩:=SO HV2.nm;have HB4:Hid (Below E w1 W4):=by
   have hx:Below E u2 W4:=SA HE3.2.1 hO4 hZ4;exact HBU2.trans hx
  have HL4:Hid (NC=0\/W4.rowIs LB 40 NC (fJ (Bu l n) (C4 l) f (Bu l n).length)):=HV2.li.imp id fun h=>h.of_block (hO4 _ (El h HV2.nm dE));have HRG4:Hid (W4.ownsRow u1.heap.size 59 2 (.slice pr NR qr) NR (Au J6 (pruneC c).regs)):=Ac HRG.out fun g hg=>hO4 g (fun e=>C2 HRG.out HV2.nm dE (by rw[<-e];exact hg));have HLI4:Hid (W4.ownsRow E 40 7 (.slice pl n ql) n (Au C9 l1)):=HBK.out W4 _ HL4.out (Au C9 l1) (by rw[Dy D7,HL1.1]) (fun o ho=>by
   have:=HFR.out f (by exact HFX.out) o (by rw[HL1.1];exact ho)
   exact this)
  have HI4:=A7 hI4;have HCL:=A7 hcl;have HE4:Hid (E<=W4.heap.size):=gH HE3.1 (by rw[hS4];exact gH HU1.size (Nat.le_of_lt_succ (by have:=HV2.bel.size;omega)));have HG4:Hid (u1.heap.size<=W4.heap.size):=by show _<=_;rw[hS4];exact HV2.bel.size
  have HUE:Hid (E<=u1.heap.size):=gH HE3.1 HU1.size;obtain⟨g0,g1,g2,-⟩:=HLOW.out W4 HB4.out;clear hcl hI4 hO4 hS4 hZ4 KF KT HV2 HRG HF1 HLM HI3 HLI3 HVR;have KF:Hid (∀v,Below W4.heap.size W4 v->Calls prog 17 #[.slice pl n ql] v fun e w'=>∃q d,e=.returned (.slice q (BA l n).length d)/\w'.ownsRow E 92 1 (.slice q (BA l n).length d) (BA l n).length (DJ LB (BA l n))/\Below v.heap.size v w'):=fun v hv=>by
   have h9:=XO l1 v pl ql LB (by rw[HL1.1];exact HPP.out) (Du D7 (by rw[HL1.1];exact Ak HLI4.out hv)) (by rw[HL1.1];exact HNL.out);rw[HL1.2,HL1.1]at h9;exact h9.mono fun e w' ⟨q,d,h1,h2,h3⟩=>⟨q,d,h1,CM h2 (gH HE4.out hv.size),h3⟩
  have KT:Hid (∀u,Below W4.heap.size W4 u->∀pf qf,u.ownsRow E 92 1 (.slice pf (BA l n).length qf) (BA l n).length (DJ LB (BA l n))->Calls prog 16 #[.slice p2 N2 q2,.slice pf (BA l n).length qf,.slice (some ⟨IB,0,none⟩) K K] u fun e w'=>∃pr qr,e=.returned (.slice pr (pruneC c).slots.length qr)/\w'.ownsRow u.heap.size 64 5 (.slice pr (pruneC c).slots.length qr) (pruneC c).slots.length (Au Jf (pruneC c).slots)/\RnV E IB K LB NC (BA l n) (C4 l) (fJ (Bu l n) (C4 l) f (Bu l n).length) u w'):=fun u hu pf qf hF=>by
   have hbu:Below E w1 u:=HB4.trans (hu.mono HE4.out);have h9:=ren_Sl E u c.slots p2 q2 (fun v hv=>by rw[HN.2.2.1];exact HSA.out v (HLOW.out v (hbu.trans hv)).2.2.2.2) (BA l n) (C4 l) LB NC (fJ (Bu l n) (C4 l) f (Bu l n).length) (fun o ho=>by
    obtain⟨a1,a2,a3,-⟩:=HVS.out o ho;refine⟨Nat.lt_of_lt_of_le a1 HNC.out,?_,by rw[HN.2.2.1];exact a3⟩;have:=HFR.out f HFX.out o (by rw[HL1.1];exact a1);rw[this]at a2
    simpa using a2) (HL4.imp id fun h=>h.of_block (hu.block _ h.lt)) pf qf hF IB K (HI4.of_block (hu.block _ HI4.lt)) (by rw[HN.2.2.1];exact HKK.2) ⟨gH HE4.out hu.size,HE3.2⟩ (by have:=K8 l l.length (gF _);rw[HLN.out]at this;exact this) (by rw[HN.2.2.1];omega) (by have:=K7 l n;have:=HNL.out;omega)
   rw[HN.2.2.1,HFIN.2.1]at h9;exact h9
  obtain⟨LS,hLS⟩:∃k,(BA l n).length=k:=⟨_,rfl⟩
  simp only[hLS]at KF KT;obtain⟨NS,hNS⟩:∃k,(pruneC c).slots.length=k:=⟨_,rfl⟩
  simp only[hNS]at KT;have HNS:=A7 hNS;have HLS:=A7 hLS;clear hLS hNS;have hclr:=HCL.out;go_upto_region 8 with fail;clear hclr;refine rG (fun v=>v.cell? ⟨w.heap.size,2,none⟩=some (.slice p2 N2 q2)) fun hJ=>?_;refine Tc 0 1 2 ?_;refine Bo 4 ?_;clear hJ;refine Aw 3 fun K hK=>?_;go_simp;(go_at_call 17;(with_reducible refine(KF.out _ (Bg _)).mono ?_);rintro e u3 ⟨pf',qf',rfl,hf1,hb1'⟩;have HF3:=A7 hf1;have HU3:Hid (Below W4.heap.size W4 u3):=bel (Bg _) hb1';obtain⟨g0,g1,g2,-⟩:=HLOW.out u3 (HB4.out.trans (HU3.out.mono HE4.out));clear hf1 hb1');try(go_wp2_with fail)
  refine Aq hK fun hJ=>?_;clear hK K;clear hJ;refine Aw 5 fun K hK=>?_;go_simp;(go_at_call 16;(with_reducible refine(KT.out _ HU3.out _ _ HF3.out).mono ?_);rintro e u4 ⟨ps,qs,rfl,hr2,hv2⟩;have HSG:=A7 hr2;have HV4:=A7 hv2;obtain⟨g0,g1,g2,-⟩:=HLOW.out u4 ((HB4.out.trans (HU3.out.mono HE4.out)).trans hv2.bel);clear hr2 hv2);try(go_wp2_with fail)
  refine Aq hK fun hJ=>?_;clear hK K;refine Bo 6 ?_;refine wpAnyH_done kR ?_ _;have HBU4:Hid (Below E w1 u4):=(HB4.trans (HU3.mono HE4.out)).trans HV4.bel;have HEU4:Hid (E<=u4.heap.size):=gH (gH HE4.out HU3.size) HV4.bel.size;have HRG5:Hid (u4.ownsRow u1.heap.size 59 2 (.slice pr NR qr) NR (Au J6 (pruneC c).regs)):=by
   have h8:=Ak HRG4.out HU3.out;have hI3:u3.rowIs IB 4 K (fun _=>.bool false):=HI4.of_block (HU3.block _ HI4.lt);exact Ac h8 fun g hg=>HV4.oth g (h8.lt g hg).2 (fun e=>C2 h8 hI3 dE (by rw[<-e];exact hg)) (fun e=>by have h9:=(h8.lt g hg).1;have:=HLB.out;have:=HU1.size;omega)
  have HLI6:Hid (u4.ownsRow E 40 7 (.slice pl n ql) n (Au C9 (pruneC c).list)):=by
   have h9:=HBK.out u4 _ HV4.li (Au C9 (pruneC c).list) (by rw[<-HPL.out,Dy D7,List.length_map,HL1.1]) (fun o ho=>by
    have h8:=HFS.out (fJ (Bu l n) (C4 l) f (Bu l n).length) (fun o ho=>HFR.out f HFX.out o (by rw[HL1.1];exact ho)) o ho;rw[HPL.out]at h8
    exact h8)
   exact h9
  have HLL:Hid ((pruneC c).list.length=n):=by show _=_;rw[<-HPL.out,List.length_map,HL1.1]
  obtain⟨-,-,-,hrw4,hbw4⟩:=HLOW.out u4 HBU4.out;have HRW4:=A7 hrw4;have HBW4:=A7 hbw4;clear hrw4 hbw4 KF KT HF3 HVS HFS HFR HFX HBK HCL HI4 HL4 HLI4 HRG4;go_wp2_with(go_at_call 18;(with_reducible refine(K0.out _ HBW4.out).mono ?_);rintro e u5 ⟨s0,d0,rfl,hr0,hb5⟩;have HR0:=A7 hr0;have HU5:=A7 hb5;have hrw:=HRW4.out.of_block (hb5.block _ HRW4.out.lt);have HRW:=A7 hrw;have r0:u5.cell? ⟨w.heap.size+1,0,none⟩=some (.slice none 0 0):=hrw.cell (i:=0) dE;have r1:u5.cell? ⟨w.heap.size+1,1,none⟩=some (.slice none 0 0):=hrw.cell (i:=1) dE;have r2:u5.cell? ⟨w.heap.size+1,2,none⟩=some (.slice none 0 0):=hrw.cell (i:=2) dE;have r3:u5.cell? ⟨w.heap.size+1,3,none⟩=some (.slice none 0 0):=hrw.cell (i:=3) dE;have f0:=hrw.frozen 0;have f1:=hrw.frozen 1;have f2:=hrw.frozen 2;have f3:=hrw.frozen 3;clear hr0 hb5 hrw);refine bodyPost_ret (by simp[results,results4,go_sem, *];try rfl) rfl ?_;obtain⟨rfl,rfl,rfl,rfl⟩:=HN.out;have hNS:=HNS.out;have hNR:=HNR.out;have hLL:=HLL.out;subst hNS hNR hLL;have k4:∀b,b≠w.heap.size+1->((((u5.setCell ⟨w.heap.size+1,0,none⟩ (.slice s0 c.sign.length d0)).setCell ⟨w.heap.size+1,1,none⟩ (.slice pr (pruneC c).regs.length qr)).setCell ⟨w.heap.size+1,2,none⟩ (.slice ps (pruneC c).slots.length qs)).setCell ⟨w.heap.size+1,3,none⟩ (.slice pl (pruneC c).list.length ql)).heap[b]? =u5.heap[b]? :=fun b hb=>(gE hb).trans ((gE hb).trans ((gE hb).trans (gE hb)));have hen:=HEN.out;have l1':=HUE.out;have l2:E<=u3.heap.size:=gH HE4.out HU3.out.size;have l3:=HEU4.out;have o0:=Ac HR0.out (fun g hg=>k4 g (by have h9:=(HR0.out.lt g hg).1;omega));have o1:=Ac (Ak HRG5.out HU5.out) (fun g hg=>k4 g (by have h9:=(HRG5.out.lt g hg).1;omega));have o2:=Ac (Ak HSG.out HU5.out) (fun g hg=>k4 g (by have h9:=(HSG.out.lt g hg).1;omega));have o3:=Ac (Ak HLI6.out HU5.out) (fun g hg=>k4 g (by have h9:=(HLI6.out.lt g hg).1;omega));have hO:Own4 w.heap.size _ (.slice s0 c.sign.length d0) (.slice pr (pruneC c).regs.length qr) (.slice ps (pruneC c).slots.length qs) (.slice pl (pruneC c).list.length ql) (pruneC c):=⟨CM o0 oM,CM o1 oM,CM o2 oM,CM o3 oM⟩
  have hle:w.heap.size<=w.heap.size+1:=Nat.le_succ _;exact⟨_,_,_,_,rfl,⟨Du Hm hO.sign,Du Nj hO.regs,Du Nb hO.slots,Du D7 hO.list⟩,hO,((((HBW4.trans (HU5.mono (gH hen.2 l3))).setCell hle _).setCell hle _).setCell hle _).setCell hle _⟩
theorem Ot{α:Type}{k:Nat}{f:α->List Value}(hf:∀x,(f x).length=k){l:List α}(w:World)(cs:Array Value)(t:TypeId)(h:cs.toList=Au f l)(c:Nat):AV k f (w.alloc (.cells cs t)) (.slice (some ⟨w.heap.size,0,none⟩) l.length c) l:=by
 refine⟨_,_,rfl,.inr ⟨w.heap.size,0,rfl,fun i hi j hj=>?_⟩⟩;have hj':j<k:=by rw[<-hf l[i]];exact hj
 have h1:=Gk hf l i j hi hj';rw[<-h]at h1;have h2:cs[0+i*k+j]? =some (f l[i])[j]:=by
  rw[Nat.zero_add,<-Array.getElem?_toList,h1,gB hj]
 have h3:(w.alloc (.cells cs t)).heap[w.heap.size]? =some (.cells cs t (0,0)):=heap_alloc_new w _;unfold World.cell?;simp only[h3];exact h2
theorem Hx{α:Type}{k:Nat}{f:α->List Value}(hf:∀x,(f x).length=k){l:List α}(w:World)(cs:Array Value)(t:TypeId)(h:cs.toList=Au f l)(c:Nat){n:Nat}(hn:w.heap.size=n):AV k f (w.alloc (.cells cs t)) (.slice (some ⟨n,0,none⟩) l.length c) l:=by
 subst hn;exact Ot hf w cs t h c
def MF:List BJ:=[⟨⟨#[119]⟩,1,1⟩]
theorem JS(a:Int)(h:a=0\/a=2):(Ai (Cq MF a)).1=0:=by rcases h with rfl|rfl<;>decide+kernel
theorem Rh(a:Int)(h:a=0\/a=2):Ba (Cq MF a):=by rcases h with rfl|rfl<;>exact⟨dE,dE,dE,dE,dE,dE,dE⟩
def YO:Cd:=⟨[],[],[],[⟨35,0,0,0,0,0,0⟩]⟩
theorem Pv:(Ai YO).1≠0:=by decide+kernel
theorem YP:Ba YO:=⟨dE,dE,dE,dE,dE,dE,dE⟩
theorem VE:pruneC (Cq MF 2)=Cq MF 2:=O0 MF (Bi.1 (JS 2 (.inr rfl))).2.1
def fV(xs:List Value)(o:Nat):Value:=(xs[o]?).getD undef
theorem ZY{w:World}{d:Nat}{l:List Ad}{cap:Nat}(h:w.rowIs d 40 (l.length*7) (fV (Au C9 l))):AV 7 C9 w (.slice (some ⟨d,0,none⟩) l.length cap) l:=by
 refine⟨_,_,rfl,.inr ⟨d,0,rfl,fun i hi j hj=>?_⟩⟩;have hj7:j<7:=by rw[D7]at hj;exact hj
 have hlt:0+i*7+j<l.length*7:=oM;rw[h.cell hlt];have:=Gk D7 l i j hi hj7;unfold fV;rw[Nat.zero_add,this,gB hj];rfl
theorem Xc{w:World}{cs:Array Value}{t:TypeId}{n m:Nat}{xs:List Value}(hn:w.heap.size=n)(hx:cs.toList=xs)(hm:cs.size=m):(w.alloc (.cells cs t)).rowIs n t m (fV xs):=by
 subst hn hm;refine(BS w cs t).congr fun i hi=>?_;unfold En fV;rw[<-hx,Array.getElem?_eq_getElem hi,gB (by simpa using hi)];simp
structure LpV(w w':World)(a b s d:Nat):Prop where
 cd:CD w' (.slice (some ⟨a,0,none⟩) 1 1) (.slice (some ⟨b,0,none⟩) 3 3) (.slice (some ⟨s,0,none⟩) 1 1) (.slice (some ⟨d,0,none⟩) 5 5) (Cq MF 0)
 row:w'.rowIs d 40 35 (fV (Au C9 (Bm 0)))
 ne:a≠d/\b≠d/\s≠d
 ge:w.heap.size<=d
 bel:Below w.heap.size w w'
theorem PT(w:World):Calls prog 20 #[] w fun e w'=>∃a b s d,e=.returned (.agg #[.slice (some ⟨a,0,none⟩) 1 1,.slice (some ⟨b,0,none⟩) 3 3,.slice (some ⟨s,0,none⟩) 1 1,.slice (some ⟨d,0,none⟩) 5 5])/\LpV w w' a b s d:=by
 go_enter func20,ntmps20;go_wp2;refine bodyPost_ret (by simp[results,results20,go_sem];try rfl) rfl ?_;refine⟨_,_,_,_,rfl,?_,?_,?_,?_,gG⟩
 .exact⟨(((Hx (l:=(Cq MF 0).sign) Hm _ _ _ rF 1 sM).below (A0 _ _)).below (A0 _ _)).below (A0 _ _),((Hx (l:=(Cq MF 0).regs) Nj _ _ _ rF 3 sM).below (A0 _ _)).below (A0 _ _),(Hx (l:=(Cq MF 0).slots) Nb _ _ _ rF 1 sM).below (A0 _ _),Hx (l:=(Cq MF 0).list) D7 _ _ _ rF 5 sM⟩
 .exact Xc (xs:=Au C9 (Bm 0)) sM rF rF
 .refine⟨?_,?_,?_⟩<;>(simp;try omega)
 .first|omega|(simp;omega)
theorem lp_set{w w1:World}{a b s d:Nat}(h:LpV w w1 a b s d){v:World}(hb:Below w1.heap.size w1 v):CD (v.setCell ⟨d,30,none⟩ (.int .i64 2)) (.slice (some ⟨a,0,none⟩) 1 1) (.slice (some ⟨b,0,none⟩) 3 3) (.slice (some ⟨s,0,none⟩) 1 1) (.slice (some ⟨d,0,none⟩) 5 5) (Cq MF 2):=by
 have hc:=h.cd.below hb;have hr:=h.row.of_block (hb.block _ h.row.lt);have keep:∀ {α:Type} {k:Nat} {g:α->List Value} {l:List α} {x n cp:Nat},AV k g v (.slice (some ⟨x,0,none⟩) n cp) l->x≠d->AV k g (v.setCell ⟨d,30,none⟩ (.int .i64 2)) (.slice (some ⟨x,0,none⟩) n cp) l:=fun{α k g l x n cp} h1 hx=>by
  obtain⟨p,c,e,h2⟩:=h1;refine⟨p,c,e,h2.imp id fun⟨b',o',e',h3⟩=>⟨b',o',e',fun i hi=>(h3 i hi).of_block ?_⟩⟩;simp only[Value.slice.injEq]at e;rw[<-e.1]at e';simp only[Option.some.injEq,Addr.mk.injEq]at e';rw[<-e'.1];exact gE hx
 refine⟨keep hc.sign h.ne.1,keep hc.regs h.ne.2.1,keep hc.slots h.ne.2.2,?_⟩;refine ZY (l:=Bm 2) (cap:=5) ((hr.set 30 (.int .i64 2)).congr fun o ho=>?_);have e:Au C9 (Bm 2)=(Au C9 (Bm 0)).set 30 (.int .i64 2):=rfl;unfold fV;rw[e];by_cases q:o=30
 .rw[if_pos q,q,List.getElem?_set_self dE];rfl
 .rw[if_neg q,List.getElem?_set_ne (fun w=>q w.symm)]
theorem Kw(w:World):Calls prog 6 #[] w fun e w'=>e=.returned (.bool true)/\Below w.heap.size w w':=by
 have KL:=A7 PT;obtain⟨e1,e2,e3⟩:=PR MF;have KP0:Hid (∀ (v:World) (v0 v1 v2 v3:Value),CD v v0 v1 v2 v3 (Cq MF 0)->Calls prog 4 #[.agg #[v0,v1,v2,v3]] v fun e w'=>∃x0 x1 x2 x3 m y0 y1 y2 y3,e=.returned (.tuple #[.agg #[.slice x0 m y0,.slice x1 1 y1,.slice x2 0 y2,.slice x3 2 y3],.int .i64 0])/\Below v.heap.size v w'):=fun v v0 v1 v2 v3 h=>(GS v0 v1 v2 v3 _ (Rh 0 (.inl rfl)) v h (JS 0 (.inl rfl))).mono fun e w' ⟨u0,u1,u2,u3,h1,h2,h3,h4⟩=>by
  obtain⟨x0,y0,rfl,-⟩:=h2.sign;obtain⟨x1,y1,rfl,-⟩:=h2.regs;obtain⟨x2,y2,rfl,-⟩:=h2.slots;obtain⟨x3,y3,rfl,-⟩:=h2.list;rw[e1,e2,e3]at h1;exact⟨x0,x1,x2,x3,_,y0,y1,y2,y3,h1,h4⟩
 have KP2:Hid (∀ (v:World) (v0 v1 v2 v3:Value),CD v v0 v1 v2 v3 (Cq MF 2)->Calls prog 4 #[.agg #[v0,v1,v2,v3]] v fun e w'=>∃x0 x1 x2 x3 n0 n1 n2 n3 y0 y1 y2 y3,e=.returned (.tuple #[.agg #[.slice x0 n0 y0,.slice x1 n1 y1,.slice x2 n2 y2,.slice x3 n3 y3],.int .i64 0])/\CD w' (.slice x0 n0 y0) (.slice x1 n1 y1) (.slice x2 n2 y2) (.slice x3 n3 y3) (Cq MF 2)/\Below v.heap.size v w'):=fun v v0 v1 v2 v3 h=>(GS v0 v1 v2 v3 _ (Rh 2 (.inr rfl)) v h (JS 2 (.inr rfl))).mono fun e w' ⟨u0,u1,u2,u3,h1,h2,h3,h4⟩=>by
  rw[VE]at h2;obtain⟨x0,y0,rfl,-⟩:=h2.sign;obtain⟨x1,y1,rfl,-⟩:=h2.regs;obtain⟨x2,y2,rfl,-⟩:=h2.slots;obtain⟨x3,y3,rfl,-⟩:=h2.list;exact⟨x0,x1,x2,x3,_,_,_,_,y0,y1,y2,y3,h1,h2,h4⟩
 have KB:Hid (∀ (v:World) (n:Nat),v.heap.size=n->Calls prog 4 #[.agg #[.slice none 0 0,.slice none 0 0,.slice none 0 0,.slice (some ⟨n,0,none⟩) 1 1]] (v.alloc (.cells #[.int .i64 35,.int .i64 0,.int .i64 0,.int .i64 0,.int .i64 0,.int .i64 0,.int .u32 0] 40)) fun e w'=>e=.returned (.tuple #[.agg #[.slice none 0 0,.slice none 0 0,.slice none 0 0,.slice none 0 0],.int .i64 160])/\Below v.heap.size v w'):=fun v n hn=>by
  subst hn;exact(LV (.slice none 0 0) (.slice none 0 0) (.slice none 0 0) (.slice (some ⟨v.heap.size,0,none⟩) 1 1) YO YP _ ⟨⟨none,0,rfl,.inl rfl⟩,⟨none,0,rfl,.inl rfl⟩,⟨none,0,rfl,.inl rfl⟩,Ot (l:=YO.list) D7 v _ _ rF 1⟩ Pv).mono fun e w' h=>⟨h.1,bel (A0 _ _) h.2⟩
 have KE:Hid (∀ (v:World) (x0 x1 x2 x3 y0 y1 y2 y3:Value),CD v x0 x1 x2 x3 (Cq MF 2)->CD v y0 y1 y2 y3 (Cq MF 2)->Calls prog 21 #[.agg #[x0,x1,x2,x3],.agg #[y0,y1,y2,y3]] v fun e w'=>e=.returned (.bool true)/\Below v.heap.size v w'):=fun v x0 x1 x2 x3 y0 y1 y2 y3 h1 h2=>by
  have h9:=Qj x0 x1 x2 x3 y0 y1 y2 y3 _ _ (Rh 2 (.inr rfl)) (Rh 2 (.inr rfl)) v h1 h2;rw[Vb]at h9;exact h9
 clear e1 e2 e3;go_enter func6,ntmps6;go_upto_region 2 with(first
  |(go_at_call 20;(with_reducible refine(KL.out _).mono ?_);rintro e w1 ⟨a,b,s,d,rfl,hl1⟩;have HL1:=A7 hl1;clear hl1)
  |(go_at_call 4;(with_reducible refine(KP0.out _ _ _ _ _ HL1.out.cd).mono ?_);rintro e w2 ⟨x0,x1,x2,x3,m,y0,y1,y2,y3,rfl,hb2⟩;have HB2:=A7 hb2;clear hb2))
 obtain⟨A1,hA1⟩:∃W,w2.alloc (.cells #[.slice x0 m y0,.slice x1 1 y1,.slice x2 0 y2,.slice x3 2 y3] 27)=W:=⟨_,rfl⟩
 try rw[hA1]
 obtain⟨B1,hB1⟩:∃B,w2.heap.size=B:=⟨_,rfl⟩
 have HR1:Hid (A1.rowIs B1 27 4 (En #[.slice x0 m y0,.slice x1 1 y1,.slice x2 0 y2,.slice x3 2 y3])):=by rw[<-hA1,<-hB1];exact BS w2 _ _
 have HBA1:Hid (Below w.heap.size w A1):=by rw[<-hA1];exact bel HL1.bel (bel HB2.out (A0 _ _))
 rw[hB1];clear hA1 hB1 HL1 HB2;go_upto_region 3 with(go_at_call 20;(with_reducible refine(KL.out _).mono ?_);rintro e w3 ⟨a',b',s',d',rfl,hl3⟩;have HL3:=A7 hl3;clear hl3)
 obtain⟨A3,hA3⟩:∃W,w3.alloc (.cells #[.slice (some ⟨a',0,none⟩) 1 1,.slice (some ⟨b',0,none⟩) 3 3,.slice (some ⟨s',0,none⟩) 1 1,.slice (some ⟨d',0,none⟩) 5 5] 27)=W:=⟨_,rfl⟩
 try rw[hA3]
 obtain⟨B3,hB3⟩:∃B,w3.heap.size=B:=⟨_,rfl⟩
 have HR3:Hid (A3.rowIs B3 27 4 (En #[.slice (some ⟨a',0,none⟩) 1 1,.slice (some ⟨b',0,none⟩) 3 3,.slice (some ⟨s',0,none⟩) 1 1,.slice (some ⟨d',0,none⟩) 5 5])):=by rw[<-hA3,<-hB3];exact BS w3 _ _
 have HB3A:Hid (Below w3.heap.size w3 A3):=by rw[<-hA3];exact A0 _ _
 have hrl:=HL3.row.of_block (HB3A.block _ HL3.row.lt);have c30:=hrl.cell (i:=30) dE;have f30:=hrl.frozen 30;have b33:A3.cell? ⟨B3,3,none⟩=some (.slice (some ⟨d',0,none⟩) 5 5):=HR3.cell (i:=3) dE;have HDN:Hid (d'≠B3/\d'≠B1/\w.heap.size<=d'):=by
  have h1:=HL3.row.lt;have h2:=HR1.lt;have h3:=HL3.ge;have h4:=HBA1.size;exact⟨oM,oM,oM⟩
 obtain⟨W4,hW4⟩:∃W,A3.setCell ⟨d',30,none⟩ (.int .i64 2)=W:=⟨_,rfl⟩
 have HCD4:Hid (CD W4 (.slice (some ⟨a',0,none⟩) 1 1) (.slice (some ⟨b',0,none⟩) 3 3) (.slice (some ⟨s',0,none⟩) 1 1) (.slice (some ⟨d',0,none⟩) 5 5) (Cq MF 2)):=by rw[<-hW4];exact lp_set HL3.out HB3A.out
 have HR34:Hid (W4.rowIs B3 27 4 (En #[.slice (some ⟨a',0,none⟩) 1 1,.slice (some ⟨b',0,none⟩) 3 3,.slice (some ⟨s',0,none⟩) 1 1,.slice (some ⟨d',0,none⟩) 5 5])):=by rw[<-hW4];exact HR3.setOther (a:=⟨d',30,none⟩) HDN.1.symm _
 have HR14:Hid (W4.rowIs B1 27 4 (En #[.slice x0 m y0,.slice x1 1 y1,.slice x2 0 y2,.slice x3 2 y3])):=by
  have h9:=HR1.of_block ((bel HL3.bel HB3A.out).block _ HR1.lt);rw[<-hW4];exact h9.setOther (a:=⟨d',30,none⟩) HDN.2.1.symm _
 have HB4:Hid (Below w.heap.size w W4):=by rw[<-hW4];exact(bel HBA1.out (bel HL3.bel HB3A.out)).setCell HDN.2.2 _
 rw[hB3];clear hA3 hB3 HL3 HB3A hrl HR3 HR1 HBA1 HDN;go_upto_region 4 with fail;try rw[hW4]
 clear hW4 c30 f30 b33;have i0:W4.cell? ⟨B3,0,none⟩=some (.slice (some ⟨a',0,none⟩) 1 1):=HR34.out.cell (i:=0) dE;have i1:W4.cell? ⟨B3,1,none⟩=some (.slice (some ⟨b',0,none⟩) 3 3):=HR34.out.cell (i:=1) dE;have i2:W4.cell? ⟨B3,2,none⟩=some (.slice (some ⟨s',0,none⟩) 1 1):=HR34.out.cell (i:=2) dE;have i3:W4.cell? ⟨B3,3,none⟩=some (.slice (some ⟨d',0,none⟩) 5 5):=HR34.out.cell (i:=3) dE;go_upto_region 5 with(go_at_call 4;(with_reducible refine(KP2.out _ _ _ _ _ HCD4.out).mono ?_);rintro e w5 ⟨z0,z1,z2,z3,n0,n1,n2,n3,t0,t1,t2,t3,rfl,hcd5,hb5⟩;have HCD5:=A7 hcd5;have HB5:=A7 hb5;clear hcd5 hb5)
 obtain⟨A5,hA5⟩:∃W,w5.alloc (.cells #[.slice z0 n0 t0,.slice z1 n1 t1,.slice z2 n2 t2,.slice z3 n3 t3] 27)=W:=⟨_,rfl⟩
 try rw[hA5]
 obtain⟨B5,hB5'⟩:∃B,w5.heap.size=B:=⟨_,rfl⟩
 have HR5:Hid (A5.rowIs B5 27 4 (En #[.slice z0 n0 t0,.slice z1 n1 t1,.slice z2 n2 t2,.slice z3 n3 t3])):=by rw[<-hA5,<-hB5'];exact BS w5 _ _
 have HB45:Hid (Below W4.heap.size W4 A5):=by rw[<-hA5];exact bel HB5.out (A0 _ _)
 have HCB5:Hid (CD A5 (.slice z0 n0 t0) (.slice z1 n1 t1) (.slice z2 n2 t2) (.slice z3 n3 t3) (Cq MF 2)):=by rw[<-hA5];exact HCD5.below (A0 _ _)
 rw[hB5'];clear hA5 hB5' HB5 HCD5 i0 i1 i2 i3;go_upto_region 6 with(go_at_call 4;(with_reducible refine(KB.out A5 _ rF).mono ?_);rintro e w6 ⟨rfl,hb6⟩;have HB6:=A7 hb6;clear hb6)
 obtain⟨A6,hA6⟩:∃W,w6.alloc (.cells #[.slice none 0 0,.slice none 0 0,.slice none 0 0,.slice none 0 0] 27)=W:=⟨_,rfl⟩
 try rw[hA6]
 have HB56:Hid (Below A5.heap.size A5 A6):=by rw[<-hA6];exact bel HB6.out (A0 _ _)
 have HB46:Hid (Below W4.heap.size W4 A6):=bel HB45.out HB56.out;have h1:=HR14.out.of_block (HB46.out.block _ HR14.out.lt);have h3:=HR34.out.of_block (HB46.out.block _ HR34.out.lt);have h5:=HR5.out.of_block (HB56.out.block _ HR5.out.lt);have g1:A6.cell? ⟨B1,1,none⟩=some (.slice x1 1 y1):=h1.cell (i:=1) dE;have g2:A6.cell? ⟨B1,2,none⟩=some (.slice x2 0 y2):=h1.cell (i:=2) dE;have g3:A6.cell? ⟨B1,3,none⟩=some (.slice x3 2 y3):=h1.cell (i:=3) dE;have i0:A6.cell? ⟨B3,0,none⟩=some (.slice (some ⟨a',0,none⟩) 1 1):=h3.cell (i:=0) dE;have i1:A6.cell? ⟨B3,1,none⟩=some (.slice (some ⟨b',0,none⟩) 3 3):=h3.cell (i:=1) dE;have i2:A6.cell? ⟨B3,2,none⟩=some (.slice (some ⟨s',0,none⟩) 1 1):=h3.cell (i:=2) dE;have i3:A6.cell? ⟨B3,3,none⟩=some (.slice (some ⟨d',0,none⟩) 5 5):=h3.cell (i:=3) dE;have j0:A6.cell? ⟨B5,0,none⟩=some (.slice z0 n0 t0):=h5.cell (i:=0) dE;have j1:A6.cell? ⟨B5,1,none⟩=some (.slice z1 n1 t1):=h5.cell (i:=1) dE;have j2:A6.cell? ⟨B5,2,none⟩=some (.slice z2 n2 t2):=h5.cell (i:=2) dE;have j3:A6.cell? ⟨B5,3,none⟩=some (.slice z3 n3 t3):=h5.cell (i:=3) dE;have KQ:=A7 (KE.out A6 _ _ _ _ _ _ _ _ (HCB5.out.below HB56.out) (HCD4.out.below HB46.out));have HBW:Hid (Below w.heap.size w A6):=bel HB4.out HB46.out;clear h1 h3 h5 hA6 HB6;go_wp2_with(go_at_call 21;(with_reducible refine(KQ.out).mono ?_);rintro e w7 ⟨rfl,hb7⟩;have HB7:=A7 hb7;clear hb7);go_ret;exact⟨rfl,bel HBW.out HB7.out⟩
theorem O2(w:World)(n:Nat)(h:n<=1000000):(w.alloc (.cells (madeCells #[.bool false] n) 4)).ownsRow w.heap.size 4 1 (.slice (some ⟨w.heap.size,0,none⟩) n n) n (List.replicate n (.bool false)):=by
 obtain⟨c,hc,hs,hx⟩:=World.rowIs_made w (.bool false) n 4;refine⟨sM,.inr ⟨w.heap.size,n,c,rfl,gF _,hc,gF _,mL,oM,?_⟩⟩;rw[Nat.mul_one];refine List.ext_getElem? fun o=>?_;by_cases ho:o<n
 .rw[List.getElem?_take_of_lt ho,List.getElem?_replicate,if_pos ho];have:=hx o ho;simpa using this
 .rw[List.getElem?_eq_none sO,List.getElem?_eq_none sO]
theorem GM(v0 v1 v2 v3:Value)(c:Cd)(hk:Ba c)(w:World)(hv:CD w v0 v1 v2 v3 c):
 Calls prog 5 #[.agg #[v0,v1,v2,v3]] w fun e w'=>e=.returned (.bool ((Ai c).1==0))/\Below w.heap.size w w':=by
 have KC:Hid (∀v,Below w.heap.size w v->Calls prog 19 #[.agg #[v0,v1,v2,v3]] v fun e w'=>e=.returned (.tuple #[.int .i64 (Ai c).1,.int .i64 (Ai c).2])/\Below v.heap.size v w'):=fun v hvv=>Hr v0 v1 v2 v3 c hk v (hv.below hvv);obtain⟨e1,he1⟩:=gA ((Ai c).1)
 obtain⟨e2,he2⟩:=gA ((Ai c).2)
 rw[he1,he2]at KC;rw[he1];clear hv hk he1 he2;go_enter func5,ntmps5;go_wp2_with(go_at_call 19;refine(KC.out _ (A0 _ _)).mono ?_;rintro e w1 ⟨rfl,hb1⟩);exact Zei
theorem QA{T T':Nat->Prop}(w:World)(u v:Value)(L:List (List Int))(hu:F7 T w u L)(hv:F7 T' w v L)(hL:L.length<=1048576)(hl:∀l∈L,l.length<=1048576):
 Calls prog 11 #[u,v] w fun e w'=>e=.returned (.bool true)/\Below w.heap.size w w':=by
 obtain⟨p,c,rfl,hcu⟩:=hu.cellsOf;obtain⟨p',c',rfl,hcv⟩:=hv.cellsOf;obtain⟨N,hN⟩:=gA (L.length)
 rw[hN]at hL |-;have HCU:Hid (∀i (hi:i<L.length),∃b o q d,p=some ⟨b,o,none⟩/\w.cell? ⟨b,o+i,none⟩=some (.slice q (L[i]).length d)/\Bb w q (L[i]).length (fun j=>.int .u32 (CG L[i] j))):=hcu;have HCV:Hid (∀i (hi:i<L.length),∃b o q d,p'=some ⟨b,o,none⟩/\w.cell? ⟨b,o+i,none⟩=some (.slice q (L[i]).length d)/\Bb w q (L[i]).length (fun j=>.int .u32 (CG L[i] j))):=hcv;have HN:Hid (L.length=N/\∀l∈L,l.length<=1048576):=⟨hN,hl⟩
 clear hu hv hcu hcv hN hl;go_enter func11,ntmps11;go_wp2
 go_loopw [5] (fun iv wr=>∃j:Nat,j<=N/\iv=.int .i64 j/\Hid (Below w.heap.size w wr)) (fun iv _=>N-(intOf iv).toNat)
 case atStart=>exact⟨0,gI _,rfl,BZ _⟩
 case round=>
  obtain⟨j,hj,rfl,HB⟩:=hrel;by_cases hlt:j<N
  .have hjL:j<L.length:=by rw[HN.1];exact hlt
   obtain⟨b,o,q,d,rfl,h1,h2⟩:=HCU.out j hjL;obtain⟨b',o',q',d',rfl,h1',h2'⟩:=HCV.out j hjL;have hln:=HN.2 _ (gD hjL);obtain⟨M,hM⟩:=gA ((L[j]).length)
   obtain⟨Y,hY⟩:=gA (CG L[j])
   rw[hM]at h1 h2 h1' h2' hln;simp only[hY]at h2 h2';have k1:=kc HB.out h1;have k2:=kc HB.out h1';have HRU:=A7 (h2.below HB.out);have HRV:=A7 (h2'.below HB.out);clear h1 h1' h2 h2' hM hY;go_wp2;refine wp_region_held_drew (S:=(fun x=>x.cell? ⟨b,o+j,none⟩=some (.slice q M d)/\x.cell? ⟨b',o'+j,none⟩=some (.slice q' M d'))) kR ?_ (fun hJ=>?_)
   ·((try dsimp only);go_keep)
   refine Tf 0 1 2 3 4 5 ?_;refine Tc 6 7 8 ?_;refine Tb 9 10 ?_;refine wpAnyH_done kR ?_ _;go_wp2;rename World=>W0
   go_loopw [6] (fun iv wr2=>∃k:Nat,k<=M/\iv=.int .i64 k/\Hid (Below W0.heap.size W0 wr2)) (fun iv _=>M-(intOf iv).toNat)
   case atStart=>exact⟨0,gI _,rfl,Bg _⟩
   case round=>
    obtain⟨k,hk,rfl,HB2⟩:=hrel;have m1:=kc HB2.out k1;have m2:=kc HB2.out k2;by_cases hlt2:k<M
    .rcases HRU.out with e|⟨ub,uo,hue,hur⟩
     .omega
     rcases HRV.out with e|⟨vb,vo,hve,hvr⟩
     .omega
     have n1:=kc HB2.out (hur k hlt2);have n2:=kc HB2.out (hvr k hlt2);subst hue hve;clear hur hvr HRU HRV;go_wp2;refine wp_region_held_drew (S:=(fun x=>x.cell? ⟨b,o+j,none⟩=some (.slice (some ⟨ub,uo,none⟩) M d)/\x.cell? ⟨b',o'+j,none⟩=some (.slice (some ⟨vb,vo,none⟩) M d')/\x.cell? ⟨ub,uo+k,none⟩=some (.int .u32 (Y k))/\x.cell? ⟨vb,vo+k,none⟩=some (.int .u32 (Y k)))) kR ?_ (fun hJ=>?_)
     ·((try dsimp only);go_keep)
     refine Tf 0 1 2 3 4 5 ?_;refine Tf 6 7 8 9 10 11 ?_;refine Tc 12 13 14 ?_;refine wpAnyH_done kR ?_ _;go_wp2;go_roundw
     case rel=>exact⟨k+1,oM,gN,bel HB2.out (Bg _)⟩
     case measure=>simp[intOf];omega
    .go_wp2;go_roundw
     case rel=>exact⟨j+1,oM,gN,bel HB.out HB2.out⟩
     case measure=>simp[intOf];omega
  .go_wp2;go_ret;exact⟨rfl,HB.out⟩
end Go.Proofs.YtnbccaicijcklaaGreat
