import Derived.Test.YtcdpmgldkibfiaaGreatMns1
import Derived.Test.YtcdpmgldkibfiaaGreatMns13
import Derived.Test.YtcdpmgldkibfiaaGreatMns7
import Derived.Test.YtcdpmgldkibfiaaGreatMns10
namespace Go.Proofs.YtcdpmgldkibfiaaGreat
open Go.RowKit Go.Proofs.Tryz
set_option linter.all false
set_option maxRecDepth 100000
set_option maxHeartbeats 16000000
theorem Xo(v0 v1 v2 v3:Value)(c:Cd)(co:B8 c)(hT:Ap c=true)(op D A B E n bt La Lb Lc Ld Le:Int)(a b cc d e:UInt8)
 (HROW:Hid (∀w,Calls prog 63 #[.int .i64 op] w fun x w'=>x=.returned (.tuple #[.string ⟨#[a,b,cc,d,e]⟩,.bool true])/\w'=w))
 (HCAN:Hid (∀w,Calls prog 86 #[.int .u32 bt] w fun e w'=>e=.returned (.bool true)/\Below w.heap.size w w'))
 (ix0:∀w,(Instr.index 9 (.string ⟨#[a,b,cc,d,e]⟩) (.int .i64 0)).run prog w=.ok (.int .u8 La) w)
 (ix1:∀w,(Instr.index 9 (.string ⟨#[a,b,cc,d,e]⟩) (.int .i64 1)).run prog w=.ok (.int .u8 Lb) w)
 (ix2:∀w,(Instr.index 9 (.string ⟨#[a,b,cc,d,e]⟩) (.int .i64 2)).run prog w=.ok (.int .u8 Lc) w)
 (ix3:∀w,(Instr.index 9 (.string ⟨#[a,b,cc,d,e]⟩) (.int .i64 3)).run prog w=.ok (.int .u8 Ld) w)
 (Tt:∀w,(Instr.index 9 (.string ⟨#[a,b,cc,d,e]⟩) (.int .i64 4)).run prog w=.ok (.int .u8 Le) w)
 (oa:C7 La) (ob:C7 Lb) (oc:C7 Lc) (od:C7 Ld) (oT:Le=112->La=118\/(La=45/\Lb=118)) (o1:(op==1)=false) (o2:(op != 1)=true) (o3:(bt==0)=true) (o4:(bt != 0)=false) (hz0:La=45) (oA:Lb=45->Le=45\/Le=113) (oB:Lb≠45->Le=45\/Le=112\/Le=115)
 (w:World) (hv:Cs w v0 v1 v2 v3 c):
 Calls prog 87 #[.agg #[v0,v1,v2,v3],.agg #[.int .i64 op,.int .i64 D,.int .i64 A,.int .i64 B,.int .i64 E,.int .i64 n,.int .u32 bt]] w fun e w'=>e=.returned (.bool (Am c.regs La D ⟨0,0⟩&&(Am c.regs Lb A (dR c.regs La D)&&(Am c.regs Lc B (dR c.regs La D)&&(Am c.regs Ld E (dR c.regs La D)&&D8 c Le n (tR c.regs La Lb D A))))))/\Below w.heap.size w w':=by
 have KO:∀ (l n:Int) (d:Ty),C7 l->∀v,Below w.heap.size w v->Calls prog 116 #[.agg #[v0,v1,v2,v3],.int .u8 l,.int .i64 n,.agg #[.int .i64 d.kind,.int .i64 d.par]] v fun e w'=>e=.returned (.bool (Am c.regs l n d))/\Below v.heap.size v w':=fun l n d hl v hb=>F9 v0 v1 v2 v3 c co l n d hl v (hv.below hb);have HT0:Hid (TW w v0 v1 v2 v3 (w.heap.size+1) op D A B E n bt ((w.alloc (.cells #[v0,v1,v2,v3] 27)).alloc (.cells #[.int .i64 op,.int .i64 D,.int .i64 A,.int .i64 B,.int .i64 E,.int .i64 n,.int .u32 bt] 44))):=TW.start w v0 v1 v2 v3 op D A B E n bt;obtain⟨p0,q0,rfl,-⟩:=id hv.sign;obtain⟨p1,q1,rfl,hr1⟩:=id hv.regs;obtain⟨p2,q2,rfl,-⟩:=id hv.slots;have hREG:∀x:Int,Aq x c.regs.length=true->∃ (k lb lo:Nat),x=(k:Int)/\k<c.regs.length/\p1=some ⟨lb,lo,none⟩/\w.cell? ⟨lb,lo+k*2,none⟩=some (.int .i64 (A7 c.regs x).kind)/\w.cell? ⟨lb,lo+k*2+1,none⟩=some (.int .i64 (A7 c.regs x).par):=by
  exact Zci
 have HREG:Hid (∀x:Int,Aq x c.regs.length=true->∃ (k lb lo:Nat),x=(k:Int)/\k<c.regs.length/\p1=some ⟨lb,lo,none⟩/\w.cell? ⟨lb,lo+k*2,none⟩=some (.int .i64 (A7 c.regs x).kind)/\w.cell? ⟨lb,lo+k*2+1,none⟩=some (.int .i64 (A7 c.regs x).par)):=hREG;have HCV:Hid (Cs w (.slice p0 c.sign.length q0) (.slice p1 c.regs.length q1) (.slice p2 c.slots.length q2) v3 c):=hv;have HCO:Hid (B8 c):=co;have hB0:=co.signL;have hB1:=co.regsL;have hB2:=co.slotsL;have hTy:∀x:Int,Aq x c.regs.length=true->Gb 118 (A7 c.regs x) ⟨0,0⟩=true->Aq (A7 c.regs x).par c.sign.length=true:=fun x hx hk=>by
  exact Zcy
 obtain⟨n0,hn0⟩:∃n0,c.sign.length=n0:=⟨_,rfl⟩
 obtain⟨n1,hn1⟩:∃n1,c.regs.length=n1:=⟨_,rfl⟩
 obtain⟨n2,hn2⟩:∃n2,c.slots.length=n2:=⟨_,rfl⟩
 have HN0:Hid (c.sign.length=n0):=hn0;have HN1:Hid (c.regs.length=n1):=hn1;have HN2:Hid (c.slots.length=n2):=hn2;rw[hn0]at hB0;rw[hn1]at hB1;rw[hn2]at hB2;rw[hn0,hn1,hn2]at HCV KO HT0 ⊢;clear hREG hv hr1 hn0 hn1 hn2 co;have HTY:Hid (∀x:Int,Aq x c.regs.length=true->Gb 118 (A7 c.regs x) ⟨0,0⟩=true->Aq (A7 c.regs x).par c.sign.length=true):=hTy;clear hTy hT;have hKO0:=fun d=>KO La D d oa;have hKOA:=fun d=>KO Lb A d ob;have hKOB:=fun d=>KO Lc B d oc;have hKOC:=fun d=>KO Ld E d od;clear KO;have hPP0:Le=112->La=118\/(La=45/\Lb=118):=oT;clear oT oc od;obtain⟨RES,hRES⟩:∃R,(Am c.regs La D ⟨0,0⟩&&(Am c.regs Lb A (dR c.regs La D)&&(Am c.regs Lc B (dR c.regs La D)&&(Am c.regs Ld E (dR c.regs La D)&&D8 c Le n (tR c.regs La Lb D A)))))=R:=⟨_,rfl⟩
 rw[hRES];subst hz0;by_cases hD:D=0
 ·subst hD;rw[EN,show((0:Int)==0)=true from rfl,Bool.true_and,show dR c.regs 45 0=⟨0,0⟩from rfl]at hRES;have hXT:Am c.regs Lb A ⟨0,0⟩=true->Lb≠45->Aq A c.regs.length=true:=fun h hl=>by
   rw[BG hl]at h;simp only[Bool.and_eq_true]at h;exact h.1
  have hXP:Am c.regs Lb A ⟨0,0⟩=true->Lb=118->Gb 118 (A7 c.regs A) ⟨0,0⟩=true:=fun h hl=>by
   exact Zen
  obtain⟨XA,hXA⟩:∃X,Am c.regs Lb A ⟨0,0⟩=X:=⟨_,rfl⟩
  obtain⟨XB,hXB⟩:∃X,Am c.regs Lc B ⟨0,0⟩=X:=⟨_,rfl⟩
  obtain⟨XC,hXC⟩:∃X,Am c.regs Ld E ⟨0,0⟩=X:=⟨_,rfl⟩
  rw[hXA]at hXT hXP;rw[hXA,hXB,hXC]at hRES;have HKA:Hid _:=hKOA ⟨0,0⟩;have HKB:Hid _:=hKOB ⟨0,0⟩;have HKC:Hid _:=hKOC ⟨0,0⟩;rw[hXA]at HKA;rw[hXB]at HKB;rw[hXC]at HKC;simp only at HKA HKB HKC;have HXT:Hid (XA=true->Lb≠45->Aq A c.regs.length=true):=hXT;have HXP:Hid (XA=true->Lb=118->Gb 118 (A7 c.regs A) ⟨0,0⟩=true):=hXP;have HRES:Hid ((XA&&(XB&&(XC&&D8 c Le n (tR c.regs 45 Lb 0 A))))=RES):=hRES;clear hKO0 hKOA hKOB hKOC hXA hXB hXC hXT hXP hRES;go_enter func87,ntmps87;go_wp2_with(first
   |(go_at_call 63;refine(HROW.out _).mono ?_;rintro e w1 ⟨rfl,rfl⟩)
   |(go_at_call 86;refine(HCAN.out _).mono ?_;rintro e w2 ⟨rfl,hb2⟩;have HT2:Hid (TW w (.slice p0 n0 q0) (.slice p1 n1 q1) (.slice p2 n2 q2) v3 (w.heap.size+1) op 0 A B E n bt (w2.alloc (.cells #[.int .i64 0,.int .i64 0] 46))):=(HT0.out.next hb2).next (A0 _ _);obtain⟨b1,c0,c1,c2,c3,i0,i1,i2,i3,i4,i5,i6⟩:=HT2.out;have HS2:Hid (w.heap.size+1<w2.heap.size):=A5 (HT0.out.next hb2).i0;clear hb2))
  have HD:Hid ((w2.alloc (.cells #[.int .i64 0,.int .i64 0] 46)).cell? ⟨w2.heap.size,0,none⟩=some (.int .i64 0)/\(w2.alloc (.cells #[.int .i64 0,.int .i64 0] 46)).cell? ⟨w2.heap.size,1,none⟩=some (.int .i64 0)):=⟨sG,sG⟩
  have HTD:Hid _:=HT2.out;obtain⟨Z,hZ⟩:∃Z,w2.heap.size=Z:=⟨_,rfl⟩
  obtain⟨Wd,hWd⟩:∃W,w2.alloc (.cells #[.int .i64 0,.int .i64 0] 46)=W:=⟨_,rfl⟩
  rw[hZ]at HD;rw[hWd]at HD HTD ⊢;try rw[hZ]
  clear hZ hWd HT2 b1 c0 c1 c2 c3 i0 i1 i2 i3 i4 i5 i6 HT0 HROW HCAN;have HCD:Hid (∀v,Below Wd.heap.size Wd v->v.cell? ⟨w.heap.size,0,none⟩=some (.slice p0 n0 q0)/\v.cell? ⟨w.heap.size,1,none⟩=some (.slice p1 n1 q1)/\v.cell? ⟨w.heap.size,2,none⟩=some (.slice p2 n2 q2)/\v.cell? ⟨w.heap.size,3,none⟩=some v3/\v.cell? ⟨w.heap.size+1,1,none⟩=some (.int .i64 0)/\v.cell? ⟨w.heap.size+1,2,none⟩=some (.int .i64 A)/\v.cell? ⟨w.heap.size+1,3,none⟩=some (.int .i64 B)/\v.cell? ⟨w.heap.size+1,4,none⟩=some (.int .i64 E)/\v.cell? ⟨w.heap.size+1,5,none⟩=some (.int .i64 n)/\v.cell? ⟨Z,0,none⟩=some (.int .i64 0)/\v.cell? ⟨Z,1,none⟩=some (.int .i64 0)):=fun v hb=>⟨kc hb HTD.out.c0,kc hb HTD.out.c1,kc hb HTD.out.c2,kc hb HTD.out.c3,kc hb HTD.out.i1,kc hb HTD.out.i2,kc hb HTD.out.i3,kc hb HTD.out.i4,kc hb HTD.out.i5,kc hb HD.out.1,kc hb HD.out.2⟩
  obtain⟨c0,c1,c2,c3,i1,i2,i3,i4,i5,d0,d1⟩:=HCD.out Wd (Bn _);cases XA
  ·have HQF:Hid (false=RES):=HRES.out;go_wp2;refine rG (fun v=>v.cell? ⟨w.heap.size,0,none⟩=some (.slice p0 n0 q0)/\v.cell? ⟨w.heap.size,1,none⟩=some (.slice p1 n1 q1)/\v.cell? ⟨w.heap.size,2,none⟩=some (.slice p2 n2 q2)/\v.cell? ⟨w.heap.size,3,none⟩=some v3/\v.cell? ⟨w.heap.size+1,1,none⟩=some (.int .i64 0)/\v.cell? ⟨w.heap.size+1,2,none⟩=some (.int .i64 A)/\v.cell? ⟨w.heap.size+1,3,none⟩=some (.int .i64 B)/\v.cell? ⟨w.heap.size+1,4,none⟩=some (.int .i64 E)/\v.cell? ⟨w.heap.size+1,5,none⟩=some (.int .i64 n)/\v.cell? ⟨Z,0,none⟩=some (.int .i64 0)/\v.cell? ⟨Z,1,none⟩=some (.int .i64 0)) fun hHeld=>?_;refine Tf 0 1 2 3 4 5 ?_;clear hHeld;refine Az 6 fun K hK=>?_;go_simp;(go_at_call 116;(with_reducible refine(HKA.out _ (bel HTD.out.bel (A6 _))).mono ?_);rintro e w3 ⟨rfl,hb9⟩;have HB3:Hid (Below Wd.heap.size Wd w3):=bel (A6 _) hb9;clear hb9;obtain⟨c0,c1,c2,c3,i1,i2,i3,i4,i5,d0,d1⟩:=HCD.out w3 HB3.out);try(go_wp2_with fail)
   refine Au hK fun hHeld=>?_;clear hK K;refine Tb 7 8 ?_;refine Kd 9 10 11 12 ?_;refine Kd 13 14 15 16 ?_;refine Tb 17 18 ?_;refine Kd 19 20 21 22 ?_;refine Kd 23 24 25 26 ?_;refine Bu 27 ?_;refine wpAnyH_done kR ?_ _;go_wp2;go_ret;exact⟨A8 HQF.out,bel HTD.out.bel HB3.out⟩
  cases XB
  ·have HQF:Hid (false=RES):=HRES.out;go_wp2;refine rG (fun v=>v.cell? ⟨w.heap.size,0,none⟩=some (.slice p0 n0 q0)/\v.cell? ⟨w.heap.size,1,none⟩=some (.slice p1 n1 q1)/\v.cell? ⟨w.heap.size,2,none⟩=some (.slice p2 n2 q2)/\v.cell? ⟨w.heap.size,3,none⟩=some v3/\v.cell? ⟨w.heap.size+1,1,none⟩=some (.int .i64 0)/\v.cell? ⟨w.heap.size+1,2,none⟩=some (.int .i64 A)/\v.cell? ⟨w.heap.size+1,3,none⟩=some (.int .i64 B)/\v.cell? ⟨w.heap.size+1,4,none⟩=some (.int .i64 E)/\v.cell? ⟨w.heap.size+1,5,none⟩=some (.int .i64 n)/\v.cell? ⟨Z,0,none⟩=some (.int .i64 0)/\v.cell? ⟨Z,1,none⟩=some (.int .i64 0)) fun hHeld=>?_;exact Zau
  cases XC
  ·have HQF:Hid (false=RES):=HRES.out;go_wp2;refine rG (fun v=>v.cell? ⟨w.heap.size,0,none⟩=some (.slice p0 n0 q0)/\v.cell? ⟨w.heap.size,1,none⟩=some (.slice p1 n1 q1)/\v.cell? ⟨w.heap.size,2,none⟩=some (.slice p2 n2 q2)/\v.cell? ⟨w.heap.size,3,none⟩=some v3/\v.cell? ⟨w.heap.size+1,1,none⟩=some (.int .i64 0)/\v.cell? ⟨w.heap.size+1,2,none⟩=some (.int .i64 A)/\v.cell? ⟨w.heap.size+1,3,none⟩=some (.int .i64 B)/\v.cell? ⟨w.heap.size+1,4,none⟩=some (.int .i64 E)/\v.cell? ⟨w.heap.size+1,5,none⟩=some (.int .i64 n)/\v.cell? ⟨Z,0,none⟩=some (.int .i64 0)/\v.cell? ⟨Z,1,none⟩=some (.int .i64 0)) fun hHeld=>?_;exact Zan
  go_wp2;refine rG (fun v=>v.cell? ⟨w.heap.size,0,none⟩=some (.slice p0 n0 q0)/\v.cell? ⟨w.heap.size,1,none⟩=some (.slice p1 n1 q1)/\v.cell? ⟨w.heap.size,2,none⟩=some (.slice p2 n2 q2)/\v.cell? ⟨w.heap.size,3,none⟩=some v3/\v.cell? ⟨w.heap.size+1,1,none⟩=some (.int .i64 0)/\v.cell? ⟨w.heap.size+1,2,none⟩=some (.int .i64 A)/\v.cell? ⟨w.heap.size+1,3,none⟩=some (.int .i64 B)/\v.cell? ⟨w.heap.size+1,4,none⟩=some (.int .i64 E)/\v.cell? ⟨w.heap.size+1,5,none⟩=some (.int .i64 n)/\v.cell? ⟨Z,0,none⟩=some (.int .i64 0)/\v.cell? ⟨Z,1,none⟩=some (.int .i64 0)) fun hHeld=>?_;refine Tf 0 1 2 3 4 5 ?_;clear hHeld;refine Az 6 fun K hK=>?_;go_simp;(go_at_call 116;(with_reducible refine(HKA.out _ (bel HTD.out.bel (A6 _))).mono ?_);rintro e w3 ⟨rfl,hb9⟩;have HB3:Hid (Below Wd.heap.size Wd w3):=bel (A6 _) hb9;clear hb9;obtain⟨c0,c1,c2,c3,i1,i2,i3,i4,i5,d0,d1⟩:=HCD.out w3 HB3.out);try(go_wp2_with fail)
  refine Au hK fun hHeld=>?_;clear hK K;refine Tf 7 8 9 10 11 12 ?_;refine Tb 13 14 ?_;clear hHeld;refine Az 15 fun K hK=>?_;go_simp;(go_at_call 116;(with_reducible refine(HKB.out _ (bel HTD.out.bel HB3.out)).mono ?_);rintro e w4 ⟨rfl,hb9⟩;have HB4:Hid (Below Wd.heap.size Wd w4):=bel HB3.out hb9;clear hb9;clear c0 c1 c2 c3 i1 i2 i3 i4 i5 d0 d1;obtain⟨c0,c1,c2,c3,i1,i2,i3,i4,i5,d0,d1⟩:=HCD.out w4 HB4.out);try(go_wp2_with fail)
  refine Au hK fun hHeld=>?_;clear hK K;refine Tf 16 17 18 19 20 21 ?_;refine Tc 22 23 24 ?_;clear hHeld;refine Az 25 fun K hK=>?_;go_simp;(go_at_call 116;(with_reducible refine(HKC.out _ (bel HTD.out.bel HB4.out)).mono ?_);rintro e w5 ⟨rfl,hb9⟩;have HB5:Hid (Below Wd.heap.size Wd w5):=bel HB4.out hb9;clear hb9;clear c0 c1 c2 c3 i1 i2 i3 i4 i5 d0 d1;obtain⟨c0,c1,c2,c3,i1,i2,i3,i4,i5,d0,d1⟩:=HCD.out w5 HB5.out);try(go_wp2_with fail)
  refine Au hK fun hHeld=>?_;clear hK K;refine Tb 26 27 ?_;refine wpAnyH_done kR ?_ _;clear c0 c1 c2 c3 i1 i2 i3 i4 i5 d0 d1;have HT5:Hid (TW w (.slice p0 n0 q0) (.slice p1 n1 q1) (.slice p2 n2 q2) v3 (w.heap.size+1) op 0 A B E n bt w5):=HTD.out.next HB5.out;obtain⟨hb5,c0,c1,c2,c3,i0,i1,i2,i3,i4,i5,i6⟩:=HT5.out;obtain⟨-,-,-,-,-,-,-,-,-,d0,d1⟩:=HCD.out w5 HB5.out;have hs5:w5.heap.size≠w.heap.size+1/\w.heap.size<w5.heap.size:=⟨fun e=>by have:=A5 i0;simp only at this;omega,by have:=A5 c0;simp only at this;omega⟩
  have HAL:Hid (TW w (.slice p0 n0 q0) (.slice p1 n1 q1) (.slice p2 n2 q2) v3 (w.heap.size+1) op 0 A B E n bt (w5.alloc (.cells #[.int .i64 0,.int .i64 0] 46))):=HT5.out.next (A0 _ _);by_cases hlb:Lb=45
  ·have oe:=oA hlb;subst hlb;have HRT:Hid (D8 c Le n ⟨0,0⟩=RES):=HRES.out;clear c0 c1 c2 c3 i0 i1 i2 i3 i4 i5 i6;have t0:(w5.alloc (.cells #[.int .i64 0,.int .i64 0] 46)).cell? ⟨w5.heap.size,0,none⟩=some (.int .i64 0):=sG;have t1:(w5.alloc (.cells #[.int .i64 0,.int .i64 0] 46)).cell? ⟨w5.heap.size,1,none⟩=some (.int .i64 0):=sG;obtain⟨hbx,c0,c1,c2,c3,i0,i1,i2,i3,i4,i5,i6⟩:=HAL.out;clear d0 d1 hPP0 HXT HXP HRES oA oB;have hbt:=hbx;rcases oe with rfl|rfl
   ·exact Zdh
   ·have HQ:Hid (Aq n c.sign.length=RES):=HRT.out;have hN0:=HN0.out;by_cases hn0:0<=n
    all_goals
     go_wp2;go_ret;refine⟨A8 ?_,hbt⟩;rw[←HQ.out];unfold Aq;rw[hN0];first|(simp[hn0];done)|(simp[hn0];omega)|(simp[hn0];intro h;omega)
  ·have oe:=oB hlb;have hlb1:(Lb==45)=false:=by simpa using hlb
   have hlb2:(Lb != 45)=true:=by simpa using hlb
   obtain⟨ka,lb,lo,rfl,hka,rfl,ya0,ya1⟩:=HREG.out A (HXT.out fT hlb);have HRT0:Hid (D8 c Le n (A7 c.regs (ka:Int))=RES):=by
    have h1:=HRES.out;have h2:tR c.regs 45 Lb 0 (ka:Int)=A7 c.regs (ka:Int):=if_pos ⟨rfl,hlb⟩;rw[h2]at h1;exact h1
   have HPP0:Hid (Le=112->Aq (A7 c.regs (ka:Int)).par c.sign.length=true):=fun e=>by
    rcases hPP0 e with h|⟨-,h⟩
    ·exact absurd h dE
    ·exact HTY.out _ (HXT.out fT hlb) (HXP.out fT h)
   obtain⟨⟨tk,tp⟩,htt⟩:∃t:Ty,A7 c.regs (ka:Int)=t:=⟨_,rfl⟩
   rw[htt]at HRT0 HPP0 ya0 ya1;have HRT:Hid (D8 c Le n ⟨tk,tp⟩=RES):=HRT0.out;have HPP:Hid (Le=112->Aq tp c.sign.length=true):=HPP0.out;have ka0:(0:Int)<=(ka:Int):=oM;have ka1:(ka:Int)<(n1:Int):=by have:=HN1.out;omega
   clear c0 c1 c2 c3 i0 i1 i2 i3 i4 i5 i6;have hq5:=fun o=>HT5.out.next (A0 w5 o);have c0:=fun o=>(hq5 o).c0;have c1:=fun o=>(hq5 o).c1;have c2:=fun o=>(hq5 o).c2;have c3:=fun o=>(hq5 o).c3;have i2:=fun o=>(hq5 o).i2;have i5:=fun o=>(hq5 o).i5;have xa0:=fun o=>kc (hq5 o).bel ya0;have xa1:=fun o=>kc (hq5 o).bel ya1;have hbx:=(hq5 (.cells #[.int .i64 tk,.int .i64 tp] 46)).bel;have t0:(w5.alloc (.cells #[.int .i64 tk,.int .i64 tp] 46)).cell? ⟨w5.heap.size,0,none⟩=some (.int .i64 tk):=sG;have t1:(w5.alloc (.cells #[.int .i64 tk,.int .i64 tp] 46)).cell? ⟨w5.heap.size,1,none⟩=some (.int .i64 tp):=sG;clear d0 d1 hPP0 HXT HXP HRES oA oB hq5;have hbt:=hbx;rcases oe with rfl|rfl|rfl
   ·exact Zdh
   ·have HQ:Hid ((n==0||(n==1&&Cz c.sign tp==2))=RES):=HRT.out;have HPA:Hid (∀v,Below w.heap.size w v->Calls prog 117 #[.agg #[.slice p0 n0 q0,.slice (some ⟨lb,lo,none⟩) n1 q1,.slice p2 n2 q2,v3],.int .i64 n,.int .i64 tp] v fun e w'=>e=.returned (.bool RES)/\Below v.heap.size v w'):=fun v hb=>by rw[←HQ.out];exact Lg _ _ _ _ c HCO.out n tp (fun _=>HPP.out rfl) v (HCV.out.below hb)
    exact Zea
   ·have HQ:Hid ((Aq n c.slots.length&&decide (CI c.slots n=⟨tk,tp⟩))=RES):=HRT.out;cases hpl:Aq n c.slots.length
    ·exact Zav
    ·obtain⟨k,rfl,hkl⟩:=De hpl;obtain⟨lb9,lo9,ep,hc9⟩:=Be.at (p:=p2) (n:=n2) (c:=q2) HCV.out.slots hkl;subst ep;have e9:CI c.slots (k:Int)=c.slots[k].ty:=by unfold CI;rw[Int.toNat_natCast,List.getElem?_eq_getElem hkl];rfl
     have hq9:=HQ.out;rw[hpl,Bool.true_and,e9]at hq9;obtain⟨⟨⟨sk,sp⟩,sQ,sB,sI⟩,ht9⟩:∃t:Sl,c.slots[k]=t:=⟨_,rfl⟩
     rw[ht9]at hc9 hq9;have HQ9:Hid (decide ((⟨sk,sp⟩:Ty)=⟨tk,tp⟩)=RES):=hq9;have y0:w.cell? ⟨lb9,lo9+k*5,none⟩=some (.int .i64 sk):=hc9.at 0 rfl;have y1:w.cell? ⟨lb9,lo9+k*5+1,none⟩=some (.int .i64 sp):=hc9.at 1 rfl;have x0:=kc hbt y0;have x1:=kc hbt y1;have k0:(0:Int)<=(k:Int):=oM;have k1:(k:Int)<(n2:Int):=by have:=HN2.out;omega
     clear hc9 ht9 e9 hpl hq9 HQ;by_cases hks:sk=tk
     ·obtain rfl:=hks;by_cases hps:sp=tp
      ·exact Zbr
      ·go_wp2;refine rG (fun v=>v.cell? ⟨w.heap.size,2,none⟩=some (.slice (some ⟨lb9,lo9,none⟩) n2 q2)/\v.cell? ⟨w.heap.size+1,5,none⟩=some (.int .i64 (k:Int))/\v.cell? ⟨lb9,lo9+k*5,none⟩=some (.int .i64 sk)/\v.cell? ⟨lb9,lo9+k*5+1,none⟩=some (.int .i64 sp)/\v.cell? ⟨w5.heap.size,0,none⟩=some (.int .i64 sk)/\v.cell? ⟨w5.heap.size,1,none⟩=some (.int .i64 tp)) fun hHeld=>?_;exact Zdj
     ·go_wp2;refine rG (fun v=>v.cell? ⟨w.heap.size,2,none⟩=some (.slice (some ⟨lb9,lo9,none⟩) n2 q2)/\v.cell? ⟨w.heap.size+1,5,none⟩=some (.int .i64 (k:Int))/\v.cell? ⟨lb9,lo9+k*5,none⟩=some (.int .i64 sk)/\v.cell? ⟨lb9,lo9+k*5+1,none⟩=some (.int .i64 sp)/\v.cell? ⟨w5.heap.size,0,none⟩=some (.int .i64 tk)/\v.cell? ⟨w5.heap.size,1,none⟩=some (.int .i64 tp)) fun hHeld=>?_;exact Zdk
 ·rw[EN,show(D==0)=false by simpa using hD,Bool.false_and]at hRES;have hD1:(D==0)=false:=by simpa using hD
  have hD2:(D != 0)=true:=by simpa using hD
  have HRF:Hid (false=RES):=hRES;clear hRES;go_enter func87,ntmps87;go_wp2_with(first
   |(go_at_call 63;refine(HROW.out _).mono ?_;rintro e w1 ⟨rfl,rfl⟩)
   |(go_at_call 86;refine(HCAN.out _).mono ?_;rintro e w2 ⟨rfl,hb2⟩;have HT2:Hid (TW w (.slice p0 n0 q0) (.slice p1 n1 q1) (.slice p2 n2 q2) v3 (w.heap.size+1) op D A B E n bt (w2.alloc (.cells #[.int .i64 0,.int .i64 0] 46))):=(HT0.out.next hb2).next (A0 _ _);obtain⟨b1,c0,c1,c2,c3,i0,i1,i2,i3,i4,i5,i6⟩:=HT2.out;have HS2:Hid (w.heap.size+1<w2.heap.size):=A5 (HT0.out.next hb2).i0;clear hb2))
  go_ret;exact⟨A8 HRF.out,HT2.out.bel⟩
theorem N5:∀x:Cb,∀u∈AV x,u.oneCell'=true:=fun x u hu=>by simp[AV]at hu;rcases hu with rfl|rfl|rfl<;>rfl
theorem Qy:∀x:Ty,∀u∈JK x,u.oneCell'=true:=fun x u hu=>by simp[JK]at hu;rcases hu with rfl|rfl<;>rfl
theorem Qu:∀x:Sl,∀u∈Md x,u.oneCell'=true:=fun x u hu=>by simp[Md]at hu;rcases hu with rfl|rfl|rfl|rfl|rfl<;>rfl
theorem Kq:(prog.info? 46).map (fun i=>(i.zero,i.size,i.bytes))=some (some (.agg #[.int .i64 0,.int .i64 0]),2,16):=kR
theorem Kp:(prog.info? 48).map (fun i=>(i.zero,i.size,i.bytes))=some (some (.agg #[.int .i64 0,.int .i64 0,.bool false,.int .u32 0,.int .i64 0]),5,32):=kR
theorem VW{l:List Cb}{v:Value}{w:World}(h:Be 3 AV w v l)(hl:l.length*32<=140737488355328)(ty:TypeId):
 ∃v' w',(Builtin.append_ #[22,22] ty #[.slice none 0 0,v]).run prog w=.ok v' w'/\Below w.heap.size w w'/\w'.ownsRow w.heap.size 73 3 v' l.length (AR AV l):=by
 obtain⟨i0,hi0,hz0,hz1,hz2⟩:=info_parts J4;exact EE dE EP N5 underlying22 hi0 hz0 hz1 hz2 rfl h mL hl ty
theorem Yv{l:List Ty}{v:Value}{w:World}(h:Be 2 JK w v l)(hl:l.length*16<=140737488355328)(ty:TypeId):
 ∃v' w',(Builtin.append_ #[23,23] ty #[.slice none 0 0,v]).run prog w=.ok v' w'/\Below w.heap.size w w'/\w'.ownsRow w.heap.size 46 2 v' l.length (AR JK l):=by
 obtain⟨i0,hi0,hz0,hz1,hz2⟩:=info_parts Kq;exact EE dE G5 Qy underlying23 hi0 hz0 hz1 hz2 rfl h mL hl ty
theorem Yu{l:List Sl}{v:Value}{w:World}(h:Be 5 Md w v l)(hl:l.length*32<=140737488355328)(ty:TypeId):
 ∃v' w',(Builtin.append_ #[24,24] ty #[.slice none 0 0,v]).run prog w=.ok v' w'/\Below w.heap.size w w'/\w'.ownsRow w.heap.size 48 5 v' l.length (AR Md l):=by
 obtain⟨i0,hi0,hz0,hz1,hz2⟩:=info_parts Kp;exact EE dE GW Qu underlying24 hi0 hz0 hz1 hz2 rfl h mL hl ty
def f4(a b c d:Value)(j:Nat):Value:=if j=0 then a else if j=1 then b else if j=2 then c else d
structure CW(w:World)(v0 v1 v2 v3 x0 x1 x2 x3:Value)(v:World):Prop where
 bel:Below w.heap.size w v
 c:Ah v w.heap.size 0 [v0,v1,v2,v3]
 r:v.rowIs (w.heap.size+1) 27 4 (f4 (.slice none 0 0) (.slice none 0 0) (.slice none 0 0) (.slice none 0 0))
 d:v.rowIs (w.heap.size+1+1) 27 4 (f4 x0 x1 x2 x3)
theorem CW.app{w:World}{v0 v1 v2 v3 x0 x1 x2 x3:Value}{v v':World}(h:CW w v0 v1 v2 v3 x0 x1 x2 x3 v)(k:Below v.heap.size v v'):CW w v0 v1 v2 v3 x0 x1 x2 x3 v':=
 ⟨Go.Proofs.YtcdpmgldkibfiaaGreat.bel h.bel k,h.c.below k,h.r.of_block (k.block _ h.r.lt),h.d.of_block (k.block _ h.d.lt)⟩
theorem CW.put{w:World}{v0 v1 v2 v3 x0 x1 x2 x3 y0 y1 y2 y3:Value}{v:World}(h:CW w v0 v1 v2 v3 x0 x1 x2 x3 v)(i:Nat)(x:Value)(e:∀j,j<4->(if j=i then x else f4 x0 x1 x2 x3 j)=f4 y0 y1 y2 y3 j):CW w v0 v1 v2 v3 y0 y1 y2 y3 (v.setCell ⟨w.heap.size+1+1,i,none⟩ x):=by
 have nb:∀b,b≠w.heap.size+1+1->(v.setCell ⟨w.heap.size+1+1,i,none⟩ x).heap[b]? =v.heap[b]? :=fun b hb=>Below.heap_setCell _ _ _ _ hb;exact⟨h.bel.setCell Yq _,h.c.of_block (nb _ oM),h.r.of_block (nb _ oM),(h.d.set i x).congr e⟩
theorem CW.start(w:World)(v0 v1 v2 v3:Value):CW w v0 v1 v2 v3 (.slice none 0 0) (.slice none 0 0) (.slice none 0 0) (.slice none 0 0) (((w.alloc (.cells #[v0,v1,v2,v3] 27)).alloc (.cells #[.slice none 0 0,.slice none 0 0,.slice none 0 0,.slice none 0 0] 27)).alloc (.cells #[.slice none 0 0,.slice none 0 0,.slice none 0 0,.slice none 0 0] 27)):=by
 have q:∀u:World,(u.alloc (.cells #[.slice none 0 0,.slice none 0 0,.slice none 0 0,.slice none 0 0] 27)).rowIs u.heap.size 27 4 (f4 (.slice none 0 0) (.slice none 0 0) (.slice none 0 0) (.slice none 0 0)):=fun u=>World.rowIs_alloc u #[.slice none 0 0,.slice none 0 0,.slice none 0 0,.slice none 0 0] 27 _ (fun i hi=>by
  have hi':i<4:=hi;obtain rfl|rfl|rfl|rfl:i=0\/i=1\/i=2\/i=3:=oM
  all_goals rfl)
 have h1:=q (w.alloc (.cells #[v0,v1,v2,v3] 27));have h2:=q ((w.alloc (.cells #[v0,v1,v2,v3] 27)).alloc (.cells #[.slice none 0 0,.slice none 0 0,.slice none 0 0,.slice none 0 0] 27));have s1:(w.alloc (.cells #[v0,v1,v2,v3] 27)).heap.size=w.heap.size+1:=sM;have s2:((w.alloc (.cells #[v0,v1,v2,v3] 27)).alloc (.cells #[.slice none 0 0,.slice none 0 0,.slice none 0 0,.slice none 0 0] 27)).heap.size=w.heap.size+1+1:=sM;rw[s1]at h1;rw[s2]at h2;refine⟨Go.Proofs.YtcdpmgldkibfiaaGreat.bel (Go.Proofs.YtcdpmgldkibfiaaGreat.bel (A0 _ _) (A0 _ _)) (A0 _ _),fun j hj=>?_,h1.alloc _,h2⟩;have hj':j<4:=hj;obtain rfl|rfl|rfl|rfl:j=0\/j=1\/j=2\/j=3:=oM
 all_goals simp[go_sem]
def Up(E:Nat)(v v':World):Prop:=v.heap.size<=v'.heap.size/\∀b,E<=b->b<v.heap.size->v'.heap[b]? =v.heap[b]?
theorem Up.of{E:Nat}{v v':World}(k:Below v.heap.size v v'):Up E v v':=⟨k.size,fun b _ hb=>k.block b hb⟩
theorem Up.set{E:Nat}(v:World){D:Nat}(hD:D<E)(i:Nat)(x:Value):Up E v (v.setCell ⟨D,i,none⟩ x):=⟨sM,fun b hb _=>Below.heap_setCell _ _ _ _ (by show b≠D;omega)⟩
theorem Up.trans{E:Nat}{a b c:World}(h:Up E a b)(k:Up E b c):Up E a c:=⟨Nat.le_trans h.1 k.1,fun x hx hl=>(k.2 x hx (Nat.lt_of_lt_of_le hl h.1)).trans (h.2 x hx hl)⟩
theorem Up.own{E B:Nat}{v v':World}{t:TypeId}{k n:Nat}{u:Value}{xs:List Value}(h:Up E v v')(ho:v.ownsRow B t k u n xs)(hB:E<=B):v'.ownsRow B t k u n xs:=Ab ho fun g hg=>h.2 g (Nat.le_trans hB (ho.lt g hg).1) (ho.lt g hg).2
structure VM(B:Nat)(w:World)(u0 u1 u2 u3:Value)(c:Cd):Prop where
 sign:w.ownsRow B 73 3 u0 c.sign.length (AR AV c.sign)
 regs:w.ownsRow B 46 2 u1 c.regs.length (AR JK c.regs)
 slots:w.ownsRow B 48 5 u2 c.slots.length (AR Md c.slots)
 list:w.ownsRow B 44 7 u3 c.list.length (AR DK c.list)
structure VJ(c:Cd):Prop where
 s:c.sign.length*32<=140737488351232
 r:c.regs.length*16<=140737488351232
 l:c.slots.length*32<=140737488351232
 i:c.list.length*56<=140737488351232

theorem G0{w:World}{B B':Nat}{t t':TypeId}{k k' n n':Nat}{v v':Value}{xs xs':List Value}(h:w.ownsRow B t k v n xs)(h':w.ownsRow B' t' k' v' n' xs')(ht:t≠t'):∀b,v.ownBlock=some b->v'.ownBlock≠some b:=by
 intro b hb hb';rcases h.2 with⟨rfl,_⟩|⟨g,cap,cur,rfl,_,hg,_⟩
 ·exact absurd (show(none:Option Nat)=some b from hb) sM
 rcases h'.2 with⟨rfl,_⟩|⟨g',cap',cur',rfl,_,hg',_⟩
 ·exact absurd (show(none:Option Nat)=some b from hb') sM
 have e1:g=b:=Option.some.inj hb;have e2:g'=b:=Option.some.inj hb';rw[e1]at hg;rw[e2,hg]at hg';simp only[Option.some.injEq,Obj.cells.injEq]at hg';exact ht hg'.2.1


def NA(s:Wk)(op:Int):Bool:=if op=34\/op=36 then decide (s.opens.length<64)else if op=35 then decide (0<s.opens.length)&& !An s else if op=37 then An s else true
def MR(c:Cd)(s:Wk)(i:Af):Bool:=An s&&(i.op != 37&&Gd c.regs (Fo i) != BR s)
def DP(s:Wk):Prop:=∀b∈s.opens,b.loop=true->0<=b.par
theorem DP.inner{s:Wk}(h:DP s)(hl:An s=true):0<=BR s:=by
 obtain⟨S,O⟩:=s;cases O with
 |nil=>exact Int.le_refl _
 |cons b r=>exact h b (List.mem_cons_self ..) hl
theorem Hu{i:Af}(h:Cv i.op=false):Fo i= -1:=by
 unfold Cv at h;simp only[Bool.or_eq_false_iff]at h;have h1:(i.op==29)=false/\(i.op==30)=false/\(i.op==31)=false/\(i.op==32)=false/\(i.op==33)=false:=by
  have:=h.1;simp only[Bool.and_eq_false_iff,decide_eq_false_iff_not]at this;simp only[beq_eq_false_iff_ne,ne_eq];omega
 unfold Fo;rw[h.2,h1.1,h1.2.1,h1.2.2.1,h1.2.2.2.1,h1.2.2.2.2];rfl
theorem Sh{i:Af}(h:Cv i.op=true):Fo i=Ek i (A4 i.op):=by
 unfold Cv Bg at h;simp only[Bool.or_eq_true,Bool.and_eq_true,decide_eq_true_eq]at h;obtain⟨op,D,A,B,E,n,bb⟩:=i;simp only at h ⊢;have:op=3\/op=4\/op=5\/op=6\/op=7\/op=8\/op=9\/op=10\/op=11\/op=12\/op=13\/op=14\/op=15\/op=29\/op=30\/op=31\/op=32\/op=33:=oM;rcases this with rfl|rfl|rfl|rfl|rfl|rfl|rfl|rfl|rfl|rfl|rfl|rfl|rfl|rfl|rfl|rfl|rfl|rfl<;>rfl
theorem Hv(rs:List Ty):Gd rs (-1)= -1:=by unfold Gd Aq;simp
theorem XY{rs:List Ty}{n q:Int}(hq:0<=q):(Gd rs n=q)↔A7 rs n=⟨3,q⟩:=by
 unfold Gd;cases h:Aq n rs.length
 ·have:A7 rs n=⟨0,0⟩:=by unfold A7;rw[h];rfl
  rw[this];simp;omega
 ·rw[Bool.true_and];generalize A7 rs n=t;obtain⟨K,P⟩:=t;simp only[Ty.mk.injEq];by_cases hk:K=3
  ·subst hk;simp
  ·have:(K==3)=false:=by simpa using hk
   rw[this];constructor
   ·intro e;simp at e;omega
   ·intro e;exact absurd e.1 hk
theorem S7{c:Cd}{s:Wk}{i:Af}(hO:DP s):At c s i (A4 i.op)=(!MR c s i&&NA s i.op):=by
 have hO':=hO.inner;unfold At MR NA;by_cases h1:i.op=34\/i.op=36
 ·rw[if_pos h1,if_pos h1];have hv:Gd c.regs (Fo i)= -1:=by
   rw[Hu (by rcases h1 with e|e<;>rw[e]<;>decide),Hv]
  have h37:(i.op != 37)=true:=by rcases h1 with e|e<;>rw[e]<;>decide
  rw[hv,h37];cases hl:An s
  ·rfl
  ·have:=hO' hl;have e:((-1:Int) != BR s)=true:=sO;rw[e];rfl
 ·rw[if_neg h1,if_neg h1];by_cases h2:i.op=35
  ·rw[if_pos h2,if_pos h2];have hv:Gd c.regs (Fo i)= -1:=by rw[Hu (by rw[h2];decide),Hv]
   rw[hv,h2];have hE:(!s.opens.isEmpty)=decide (0<s.opens.length):=by cases s.opens<;>simp
   rw[hE];cases hl:An s
   ·simp
   ·have:=hO' hl;have e:((-1:Int) != BR s)=true:=sO;rw[e];simp
  ·rw[if_neg h2,if_neg h2];by_cases h3:i.op=37
   ·rw[if_pos h3,if_pos h3,h3];cases An s<;>rfl
   ·rw[if_neg h3,if_neg h3];have h37:(i.op != 37)=true:=by simpa using h3
    rw[h37,Bool.true_and,Bool.and_true];cases hl:An s
    ·rfl
    ·have hq:=hO' hl;rw[Bool.not_true,Bool.false_or,Bool.true_and];cases hlp:Cv i.op
     ·rw[Hu hlp,Hv];have e:((-1:Int) != BR s)=true:=sO;rw[e];rfl
     ·rw[Sh hlp,Bool.true_and];unfold Ay;rw[Bool.eq_iff_iff,decide_eq_true_eq,←XY hq];simp
theorem Sd{c:Cd}{s:Wk}{i:Af}(hT:Ap c=true)(hO:DP s):Ar c s i=((Aj i.op&&Ef c i (Dx i.op))&&(!MR c s i&&(Dy s i (A4 i.op)&&NA s i.op))):=by
 unfold Ar;rw[MD hT,S7 hO];cases Aj i.op<;>cases AJ c i (A4 i.op)<;>cases MR c s i<;>cases NA s i.op<;>simp
structure Ob where
 op:Int
 par:Int
 set:List Nat
def YS(S:List Nat)(b:Bk):Ob:=⟨if b.loop then 36 else 34,b.par,S.take b.ahead⟩
def JV(s:Wk):List Ob:=(s.opens.map (YS s.set)).reverse
theorem IA(s:Wk):(JV s).length=s.opens.length:=by simp[JV]
theorem GD(S:List Nat)(b:Bk)(r:List Bk):JV ⟨S,b::r⟩=(r.map (YS S)).reverse++[YS S b]:=by simp[JV]
theorem TH{s:Wk}(h:0<s.opens.length):∃X,(JV s)[s.opens.length-1]? =some ⟨if An s then 36 else 34,BR s,X⟩:=by
 obtain⟨S,O⟩:=s;cases O with
 |nil=>simp at h
 |cons b r=>
  refine⟨S.take b.ahead,?_⟩;rw[GD];simp only[List.length_cons,Nat.add_sub_cancel];rw[List.getElem?_append_right sM];simp only[List.length_reverse,List.length_map,Nat.sub_self];rfl
theorem Me{s:Wk}{i:Af}(h:i.op=34\/i.op=36):Ae s i=⟨s.set,⟨i.op==36,i.n,s.set.length⟩::s.opens⟩:=by
 unfold Ae Dr;rw[JY Zgw];unfold BJ;rw[if_pos h]
theorem Mf{s:Wk}{i:Af}(h:i.op=35\/i.op=37):Ae s i=AF s:=by
 unfold Ae Dr;rw[JY Zgw];unfold BJ;rw[if_neg oM,if_pos h]
theorem G4{s:Wk}{i:Af}(h1:i.op≠34)(h2:i.op≠35)(h3:i.op≠36)(h4:i.op≠37):Ae s i=⟨Io s.set i,s.opens⟩:=by
 unfold Ae Dr BJ;rw[if_neg oM,if_neg oM];unfold CM Io;split<;>rfl
theorem TI{s:Wk}{i:Af}(h:i.op=34\/i.op=36):JV (Ae s i)=JV s++[⟨i.op,i.n,s.set⟩]:=by
 rw[Me h,GD];unfold JV YS;simp only[List.take_length];rcases h with h|h<;>rw[h]<;>rfl
theorem TJ{s:Wk}{i:Af}{n:Nat}(ho:DB n s)(h1:i.op≠34)(h2:i.op≠35)(h3:i.op≠36)(h4:i.op≠37):JV (Ae s i)=JV s:=by
 rw[G4 h1 h2 h3 h4];unfold JV;simp only;congr 1;apply List.map_congr_left;intro b hb;have:=OD ho.opens b hb;have e:(Io s.set i).take b.ahead=s.set.take b.ahead:=by
  unfold Io;split
  ·rw[List.take_append_of_le_length this]
  ·rfl
 unfold YS;rw[e]
theorem FZ{s:Wk}{n:Nat}(ho:DB n s)(h:0<s.opens.length):JV (AF s)=(JV s).take (s.opens.length-1):=by
 obtain⟨S,O⟩:=s;cases O with
 |nil=>simp at h
 |cons b r=>
  rw[GD];simp only[List.length_cons,Nat.add_sub_cancel];rw[List.take_append_of_le_length sM,List.take_of_length_le sM];unfold JV AF;simp only;cases hb:b.loop
  ·simp only[Bool.false_eq_true,if_false];congr 1;apply List.map_congr_left;intro a ha;have:=OD ho.opens.2 a ha;unfold YS;rw[List.take_take,Nat.min_eq_left this]
  ·simp only[if_true]
theorem Rc{s:Wk}(hl:An s=false){o:Ob}(h:(JV s)[s.opens.length-1]? =some o)(h0:0<s.opens.length):(AF s).set=o.set:=by
 obtain⟨S,O⟩:=s;cases O with
 |nil=>simp at h0
 |cons b r=>
  rw[GD]at h;simp only[List.length_cons,Nat.add_sub_cancel]at h;rw[List.getElem?_append_right sM]at h;simp at h;subst h;have:b.loop=false:=hl;simp[AF,this,YS]
theorem Ow{s:Wk}(hl:An s=true):(AF s).set=s.set:=by
 obtain⟨S,O⟩:=s;cases O with
 |nil=>rfl
 |cons b r=>
  have:b.loop=true:=hl;simp[AF,this]
theorem Ej(s:Wk):(AF s).opens.length=s.opens.length-1:=by
 obtain⟨S,O⟩:=s;cases O with
 |nil=>rfl
 |cons b r=>simp[AF]
theorem DP.step{c:Cd}{s:Wk}{i:Af}(h:DP s)(t:Ar c s i=true):DP (Ae s i):=by
 by_cases h1:i.op=34\/i.op=36
 ·rw[Me h1];intro b hb hl;rcases List.mem_cons.1 hb with rfl|hb
  ·have h36:i.op=36:=by simpa using hl
   obtain⟨_,h2,_,_⟩:=Ai t;rw[h36]at h2;unfold AJ Bc at h2;simp only[Bool.and_eq_true]at h2;have h3:=h2.2.2.2.2;rw[if_neg (show(A4 36).n≠7 by decide)]at h3;simp only[Bool.and_eq_true]at h3;have h4:Aq i.n c.sign.length=true:=h3.2;exact(Bo.1 h4).1
  ·exact h b hb hl
 ·by_cases h2:i.op=35\/i.op=37
  ·rw[Mf h2];intro b hb hl;refine h b ?_ hl;unfold AF at hb;split at hb
   ·rename_i e;rw[e];exact List.mem_cons_of_mem _ hb
   ·exact hb
  ·rw[G4 oM oM oM oM];exact h
theorem DP.start:DP ⟨[],[]⟩:=fun b hb=>by cases hb
def CY(M:Nat)(X:List Nat):List Value:=(List.range M).map fun j=>.bool (decide (j∈X))
theorem Jx(M:Nat)(X:List Nat):(CY M X).length=M:=by simp[CY]
theorem GR{M:Nat}{X:List Nat}{j:Nat}(h:j<M):(CY M X)[j]? =some (.bool (decide (j∈X))):=by
 unfold CY;rw[List.getElem?_map,List.getElem?_range h];rfl
theorem Nr(M:Nat):CY M []=List.replicate M (.bool false):=by
 apply List.ext_getElem?;intro j;by_cases h:j<M
 ·rw[GR h,List.getElem?_replicate,if_pos h];simp
 ·rw[List.getElem?_eq_none Zhc,List.getElem?_eq_none sO]
theorem V8{M:Nat}{X:List Nat}{i:Af}(hd:(A4 i.op).d≠0)(hl:i.d.toNat<M):(CY M X).set i.d.toNat (.bool true)=CY M (Io X i):=by
 apply List.ext_getElem?;intro j;by_cases h:j<M
 ·rw[GR h,List.getElem?_set];by_cases e:i.d.toNat=j
  ·rw[if_pos e,if_pos Zhc];have:j∈Io X i:=PD.2 (.inr ⟨hd,e.symm⟩);simp[this]
  ·rw[if_neg e,GR h];have:j∈Io X i↔j∈X:=by
    rw[PD];exact⟨fun q=>q.resolve_right fun q=>e q.2.symm,.inl⟩
   simp[this]
 ·rw[List.getElem?_eq_none (by rw[List.length_set,Jx];omega),List.getElem?_eq_none Zhc]
theorem RV{M:Nat}{X:List Nat}{i:Af}(hd:(A4 i.op).d=0):Io X i=X:=by unfold Io;rw[if_neg (fun q=>q.1 hd)]
theorem SG{B:Nat}{V:World}{p:Option Addr}{n q:Nat}{xs:List Value}(h:V.ownsRow B 4 1 (.slice p n q) n xs)(hB:B<=V.heap.size)(hn:n<=140737488351232):
 ∃g c' w',(Builtin.append_ #[52,52] 52 #[.slice p n q,.slice (some ⟨V.heap.size,0,none⟩) 1 1]).run prog (V.alloc (.cells #[.bool false] 4))=.ok (.slice (some ⟨g,0,none⟩) (n+1) c') w'/\Below B V w'/\w'.ownsRow B 4 1 (.slice (some ⟨g,0,none⟩) (n+1) c') (n+1) (xs++[.bool false]):=by
 obtain⟨i0,hi0,hz0,hz1,hz2⟩:=info_parts FU;have hb0:Below V.heap.size V (V.alloc (.cells #[.bool false] 4)):=A0 _ _;have hsz:(V.alloc (.cells #[.bool false] 4)).heap.size=V.heap.size+1:=sM;have h0:=AA h hb0;obtain⟨g,cap,w3,hr,hown,hgrow,hat,hlt⟩:=run_append_lies (P:=prog) (V.alloc (.cells #[.bool false] 4)) 52 52 B 4 i0 _ 1 1 underlying52 hi0 hz0 hz1 hz2 rfl dE (.slice p n q) n xs h0 ⟨V.heap.size,0,none⟩ 1 1 [.bool false] rfl
  (World.news_of_block (cs:=#[.bool false]) (t:=4) (fr:=(0,0)) (heap_alloc_new V _)) VH dE mL oM sO _ rfl
 exact⟨g,cap,w3,hr,(hb0.mono hB).grown hgrow oM (fun q e=>(h0.lt q e).1),hown⟩
def X5(o:Ob)(u:Value):List Value:=[.int .i64 o.op,.int .i64 o.par,u]
def Gm:List Ob->List Value->List Value
 |o::l,u::us=>X5 o u++Gm l us
 |_,_=>[]
theorem KG(o:Ob)(u:Value):∀ {l:List Ob} {us:List Value},l.length=us.length->Gm (l++[o]) (us++[u])=Gm l us++X5 o u
 |[],[],_=>by simp[Gm]
 |[],_::_,h=>by simp at h
 |_::_,[],h=>by simp at h
 |a::l,b::us,h=>by simp only[List.cons_append,Gm];rw[KG o u VI,List.append_assoc]
theorem He:∀ (m:Nat) (l:List Ob) (us:List Value),(Gm l us).take (m*3)=Gm (l.take m) (us.take m)
 |0,l,us=>by simp[Gm]
 |m+1,[],us=>by simp[Gm]
 |m+1,a::l,[]=>by simp[Gm]
 |m+1,a::l,b::us=>by
  simp only[List.take_succ_cons,Gm];rw[show(m+1)*3=(X5 a b).length+m*3 by simp[X5];omega,List.take_length_add_append,He m l us]
theorem PR(j:Nat)(hj:j<3):∀ {l:List Ob} {us:List Value} {k:Nat} {o:Ob} {u:Value},l[k]? =some o->us[k]? =some u->(Gm l us)[k*3+j]? =(X5 o u)[j]?
 |[],us,k,o,u,h,_=>by simp at h
 |a::l,[],k,o,u,_,h=>by simp at h
 |a::l,b::us,0,o,u,h,h'=>by
  simp at h h';subst h h';simp only[Gm];rw[Nat.zero_mul,Nat.zero_add,List.getElem?_append_left (by simpa[X5]using hj)]
 |a::l,b::us,k+1,o,u,h,h'=>by
  simp only[Gm];rw[List.getElem?_append_right (by simp[X5];omega)];have e:(k+1)*3+j-(X5 a b).length=k*3+j:=by simp[X5];omega
  rw[e];exact PR j hj VI (by simpa using h')
theorem R9:(prog.info? 117).map (fun i=>(i.zero,i.size,i.bytes))=some (some (.agg #[.int .i64 0,.int .i64 0,.slice none 0 0]),3,40):=kR
structure SK(B M:Nat)(v:World)(sv ov:Value)(s:Wk)(us:List Value):Prop where
 hB:B<=v.heap.size
 set:v.ownsRow B 4 1 sv M (CY M s.set)
 opn:v.ownsRow B 117 3 ov s.opens.length (Gm (JV s) us)
 len:us.length=s.opens.length
 each:∀k (h:k<us.length) o,(JV s)[k]? =some o->v.ownsRow B 4 1 us[k] M (CY M o.set)/\∀b,sv.ownBlock=some b->us[k].ownBlock≠some b
section
variable {B M : Nat} {v v' : World} {sv ov : Value} {s : Wk} {us : List Value}
theorem SK.below(h:SK B M v sv ov s us)(k:Below v.heap.size v v'):SK B M v' sv ov s us:=
 ⟨Nat.le_trans h.hB k.size,AA h.set k,AA h.opn k,h.len,fun j hj o ho=>⟨AA (h.each j hj o ho).1 k,(h.each j hj o ho).2⟩⟩
theorem GX:117≠4:=dE
theorem SK.ins{i:Af}{g q n:Nat}(h:SK B M v (.slice (some ⟨g,0,none⟩) M q) ov s us)(ok:DB n s)(h1:i.op≠34)(h2:i.op≠35)(h3:i.op≠36)(h4:i.op≠37)(hd:(A4 i.op).d≠0)(hl:i.d.toNat<M):
 SK B M (v.setCell ⟨g,i.d.toNat,none⟩ (.bool true)) (.slice (some ⟨g,0,none⟩) M q) ov (Ae s i) us:=by
 have e1:=TJ (i:=i) ok h1 h2 h3 h4;have e2:(Ae s i).set=Io s.set i/\(Ae s i).opens=s.opens:=by rw[G4 h1 h2 h3 h4];exact⟨rfl,rfl⟩
 have hne:∀b,b≠g->(v.setCell ⟨g,i.d.toNat,none⟩ (.bool true)).heap[b]? =v.heap[b]? :=fun b hb=>Below.heap_setCell _ _ _ _ hb;refine⟨by have:=h.hB;simp;omega,?_,?_,by rw[e2.2];exact h.len,fun k hk o ho=>?_⟩
 ·rw[e2.1,←V8 hd hl];exact(h.set.stored _ _).1
 ·rw[e1,e2.2];exact Ab h.opn fun b hb=>hne b fun e=>G0 h.opn h.set GX b hb (by rw[e];rfl)
 ·rw[e1]at ho;obtain⟨a1,a2⟩:=h.each k hk o ho;exact⟨Ab a1 fun b hb=>hne b fun e=>a2 g rfl (by rw[←e];exact hb),a2⟩
theorem SK.keep{i:Af}{n:Nat}(h:SK B M v sv ov s us)(ok:DB n s)(h1:i.op≠34)(h2:i.op≠35)(h3:i.op≠36)(h4:i.op≠37)(hd:(A4 i.op).d=0):SK B M v sv ov (Ae s i) us:=by
 have e:Ae s i=s:=by rw[G4 h1 h2 h3 h4,RV (M:=0) hd]
 rw[e];exact h
theorem El{B:Nat}{V:World}{e t:TypeId}{z:Value}{sz by':Nat}(ht:prog.underlying t=some (.slice e))(hi:(prog.info? e).map (fun i=>(i.zero,i.size,i.bytes))=some (some z,sz,by'))(hzs:z.cells.size=sz)(hsz:0<sz){p:Option Addr}{n q:Nat}{xs:List Value}(h:V.ownsRow B e sz (.slice p n q) n xs)(hB:B<=V.heap.size)
 (cs:Array Value) (hcs:cs.size=sz) (h1:∀u∈cs.toList,u.oneCell'=true) (hn:n+1<=maxLen) (hb:(n+1)*by'<=140737488355328) (ty:TypeId):
 ∃g c' w',(Builtin.append_ #[t,t] ty #[.slice p n q,.slice (some ⟨V.heap.size,0,none⟩) 1 1]).run prog (V.alloc (.cells cs e))=.ok (.slice (some ⟨g,0,none⟩) (n+1) c') w'/\Below B V w'/\w'.ownsRow B e sz (.slice (some ⟨g,0,none⟩) (n+1) c') (n+1) (xs++cs.toList)/\∀b,b<V.heap.size->(Value.slice p n q).ownBlock≠some b->w'.heap[b]? =V.heap[b]? :=by
 obtain⟨i0,hi0,hz0,hz1,hz2⟩:=info_parts hi;have hb0:Below V.heap.size V (V.alloc (.cells cs e)):=A0 _ _;have hs:(V.alloc (.cells cs e)).heap.size=V.heap.size+1:=sM;have h0:=AA h hb0;obtain⟨g,cap,w3,hr,hown,hgrow,hat,hlt⟩:=run_append_lies (P:=prog) (V.alloc (.cells cs e)) t ty B e i0 _ sz by' ht hi0 hz0 hz1 hz2 hzs hsz (.slice p n q) n xs h0 ⟨V.heap.size,0,none⟩ 1 1 cs.toList (by simp[hcs])
  (World.news_of_block (cs:=cs) (t:=e) (fr:=(0,0)) (heap_alloc_new V _)) h1 dE hn hb oM _ rfl
 refine⟨g,cap,w3,hr,(hb0.mono hB).grown hgrow oM (fun q e=>(h0.lt q e).1),hown,fun b hb hne=>?_⟩;rw[hgrow.block b oM (Ne.symm hne)];exact hb0.block b hb
theorem SK.push{i:Af}{p:Option Addr}{q:Nat}{u:Value}(h:SK B M v sv (.slice p s.opens.length q) s us)(k:Below v.heap.size v v')(hu:v'.ownsRow v.heap.size 4 1 u M (CY M s.set))(hi:i.op=34\/i.op=36)(hn:s.opens.length<64)(ty:TypeId):
 ∃g c' w',(Builtin.append_ #[113,113] ty #[.slice p s.opens.length q,.slice (some ⟨v'.heap.size,0,none⟩) 1 1]).run prog (v'.alloc (.cells #[.int .i64 i.op,.int .i64 i.n,u] 117))=.ok (.slice (some ⟨g,0,none⟩) (s.opens.length+1) c') w'/\Below B v w'/\SK B M w' sv (.slice (some ⟨g,0,none⟩) (s.opens.length+1) c') (Ae s i) (us++[u])/\∀b,b<v'.heap.size->(Value.slice p s.opens.length q).ownBlock≠some b->w'.heap[b]? =v'.heap[b]? :=by
 have h':=h.below k;have hone:u.oneCell'=true:=by
  obtain⟨p,c,rfl⟩:=AM hu;rfl
 obtain⟨g,c',w',hr,hb,ho,hk⟩:=El (V:=v') underlying113 R9 rfl dE h'.opn h'.hB #[.int .i64 i.op,.int .i64 i.n,u] rfl (by intro x hx;simp at hx;rcases hx with rfl|rfl|rfl<;>first|rfl|exact hone) mL oM ty;have hs:(Ae s i).set=s.set/\(Ae s i).opens.length=s.opens.length+1:=by rw[Me hi];exact⟨rfl,rfl⟩
 have eo:=TI (s:=s) hi;have hsz:=k.size;refine⟨g,c',w',hr,(k.mono h.hB).trans hb,⟨Nat.le_trans h'.hB hb.size,?_,?_,by rw[hs.2,List.length_append,h.len];rfl,fun j hj o ho'=>?_⟩,hk⟩
 ·rw[hs.1];exact Ab h'.set fun b hbb=>hk b (h'.set.lt b hbb).2 (fun e=>G0 h'.opn h'.set GX b e hbb)
 ·rw[hs.2,eo,KG _ _ (by rw[IA];exact h.len.symm)];exact ho
 ·rw[eo]at ho';by_cases hlt:j<us.length
  ·rw[List.getElem?_append_left (by rw[IA,←h.len];exact hlt)]at ho';obtain⟨a1,a2⟩:=h'.each j hlt o ho';rw[List.getElem_append_left hlt];exact⟨Ab a1 fun b hbb=>hk b (a1.lt b hbb).2 (fun e=>G0 h'.opn a1 GX b e hbb),a2⟩
  ·have hj':j=us.length:=by simp at hj;omega
   subst hj';rw[List.getElem?_append_right (by rw[IA,h.len];exact Nat.le_refl _)]at ho';have e0:us.length-(JV s).length=0:=by rw[IA,h.len];omega
   rw[e0]at ho';simp at ho';subst ho';have e1:(us++[u])[us.length]'hj=u:=sM;rw[e1];refine⟨BH (Ab hu fun b hbb=>hk b (hu.lt b hbb).2 (fun e=>?_)) h.hB,fun b hbb e=>?_⟩
   ·exact G0 h'.opn hu GX b e hbb
   ·have a1:=(hu.lt b e).1;have a2:=(h.set.lt b hbb).2;omega
theorem SK.pop{p:Option Addr}{q n:Nat}(h:SK B M v sv (.slice p s.opens.length q) s us)(ok:DB n s)(h0:0<s.opens.length)(hl:An s=true):SK B M v sv (.slice p (s.opens.length-1) q) (AF s) (us.take (s.opens.length-1)):=by
 refine⟨h.hB,by rw[Ow hl];exact h.set,?_,by rw[Ej,List.length_take,h.len];omega,fun k hk o ho=>?_⟩
 ·rw[Ej,FZ ok h0,←He];exact EO h.opn oM
 ·rw[FZ ok h0]at ho;have hk':k<us.length:=by simp at hk;omega
  rw[List.getElem?_take]at ho;split at ho
  ·obtain⟨a1,a2⟩:=h.each k hk' o ho;simp only[List.getElem_take];exact⟨a1,a2⟩
  ·simp at ho
theorem SK.back{p:Option Addr}{q n:Nat}{u:Value}{o:Ob}(h:SK B M v sv (.slice p s.opens.length q) s us)(ok:DB n s)(h0:0<s.opens.length)(hl:An s=false)(k:Below v.heap.size v v')(ho:(JV s)[s.opens.length-1]? =some o)(hu:v'.ownsRow v.heap.size 4 1 u M (CY M o.set)):
 SK B M v' u (.slice p (s.opens.length-1) q) (AF s) (us.take (s.opens.length-1)):=by
 refine⟨Nat.le_trans h.hB k.size,by rw[Rc hl ho h0];exact BH hu h.hB,?_,by rw[Ej,List.length_take,h.len];omega,fun j hj x hx=>?_⟩
 ·rw[Ej,FZ ok h0,←He];exact AA (EO h.opn oM) k
 ·rw[FZ ok h0]at hx;have hk':j<us.length:=by simp at hj;omega
  rw[List.getElem?_take]at hx;split at hx
  ·obtain⟨a1,a2⟩:=h.each j hk' x hx;simp only[List.getElem_take];refine⟨AA a1 k,fun b hb e=>?_⟩;have b1:=(hu.lt b hb).1;have b2:=(a1.lt b e).2;omega
  ·simp at hx
theorem SK.last{g q:Nat}(h:SK B M v sv (.slice (some ⟨g,0,none⟩) s.opens.length q) s us)(h0:0<s.opens.length):∃ (X:List Nat) (u:Value),(JV s)[s.opens.length-1]? =some ⟨if An s then 36 else 34,BR s,X⟩/\v.ownsRow B 4 1 u M (CY M X)/\v.cell? ⟨g,(s.opens.length-1)*3,none⟩=some (.int .i64 (if An s then 36 else 34))/\v.cell? ⟨g,(s.opens.length-1)*3+1,none⟩=some (.int .i64 (BR s))/\v.cell? ⟨g,(s.opens.length-1)*3+2,none⟩=some u:=by
 obtain⟨X,hX⟩:=TH h0;have hu:s.opens.length-1<us.length:=by rw[h.len];omega
 obtain⟨a1,a2⟩:=h.each _ hu _ hX;have cl:=fun(j:Nat) (hj:j<3)=>PR j hj hX (List.getElem?_eq_getElem hu);have ca:=fun(j:Nat) (hj:j<3)=>h.opn.cellAt ((s.opens.length-1)*3+j) oM;refine⟨X,_,hX,a1,?_,?_,?_⟩
 ·have:=ca 0 dE;rw[cl 0 dE]at this;exact this
 ·have:=ca 1 dE;rw[cl 1 dE]at this;exact this
 ·have:=ca 2 dE;rw[cl 2 dE]at this;exact this
theorem SK.start(w:World)(B:Nat)(h:B<=w.heap.size){sv:Value}(hs:w.ownsRow B 4 1 sv M (CY M [])):SK B M w sv (.slice none 0 0) ⟨[],[]⟩ []:=
 ⟨h,hs,World.ownsRow_nil _ _ _ 3,rfl,fun k hk=>by simp at hk⟩
end
theorem V9(M:Nat)(X:List Nat):∀u∈CY M X,u.oneCell'=true:=by
 intro u hu;unfold CY at hu;simp only[List.mem_map]at hu;obtain⟨j,-,rfl⟩:=hu;rfl
theorem QF{t e:TypeId}{z:Value}{sz by':Nat}(ht:prog.underlying t=some (.slice e))(hi:(prog.info? e).map (fun i=>(i.zero,i.size,i.bytes))=some (some z,sz,by'))(p:Option Addr)(n c:Nat)(x:Option Addr)(d:Nat)(hn:n<=c)(ty:TypeId)(w:World):(Builtin.append_ #[t,t] ty #[.slice p n c,.slice x 0 d]).run prog w=.ok (.slice p n c) w:=by
 obtain⟨i0,hi0,hz0,hz1,hz2⟩:=info_parts hi;have h1:¬c<n:=oM;cases x with
 |none=>cases p<;>simp[Builtin.append_,run_underlying ht,sizeOf,typeInfo,hi0,Builtin.lenOf,Builtin.firstCells,storeCells,loadCells,loadCellsFrom,hn,h1]
 |some a=>cases p<;>simp[Builtin.append_,run_underlying ht,sizeOf,typeInfo,hi0,Builtin.lenOf,Builtin.firstCells,storeCells,loadCells,loadCellsFrom,hn,h1]
theorem I7{B M:Nat}{X:List Nat}(v:Value)(hM:M<=16384)(w:World)(h:w.ownsRow B 4 1 v M (CY M X)):
 Calls prog 61 #[v] w fun e w'=>∃u,e=.returned u/\w'.ownsRow w.heap.size 4 1 u M (CY M X)/\Below w.heap.size w w':=by
 obtain⟨p,q,rfl⟩:=AM h;have key:∃u w',(Builtin.append_ #[52,52] 52 #[.slice none 0 0,.slice p M q]).run prog w=.ok u w'/\w'.ownsRow w.heap.size 4 1 u M (CY M X)/\Below w.heap.size w w':=by
  by_cases h0:M=0
  ·subst h0;refine⟨.slice none 0 0,w,QF underlying52 FU none 0 0 p q (Nat.le_refl _) _ _,?_,Bn _⟩;have:CY 0 X=[]:=by simp[CY]
   rw[this];exact World.ownsRow_nil _ _ _ 1
  ·obtain⟨g,c,e,hl,hg⟩:=h.form oM;simp only[Value.slice.injEq]at e;obtain⟨rfl,-,rfl⟩:=e;obtain⟨i0,hi0,hz0,hz1,hz2⟩:=info_parts FU;obtain⟨g',cap,w',hr,hown,hgrow,hat,hlt⟩:=run_append_lies (P:=prog) w 52 52 w.heap.size 4 i0 _ 1 1 underlying52 hi0 hz0 hz1 hz2 rfl dE (.slice none 0 0) 0 [] (World.ownsRow_nil _ _ _ 1) ⟨g,0,none⟩ M q (CY M X) Zhc
    (fun j u hu=>by
     have hj:j<M:=by have:=(List.getElem?_eq_some_iff.1 hu).1;rw[Jx]at this;exact this
     have e:=h.cellAt j oM;have e2:(⟨g,0,none⟩:Addr).add j=⟨g,j,none⟩:=by simp[Addr.add];omega
     rw[e2,e,hu]) (V9 M X) oM mL oM (Nat.le_refl _) _ rfl
   simp only[Nat.zero_add,List.nil_append]at hr hown;exact⟨_,w',hr,hown,(Below.refl _ _).grown hgrow (Nat.le_refl _) (fun k e=>by simp[Value.ownBlock]at e)⟩
 obtain⟨u,w',hr,ho,hb⟩:=key;have HR:Hid ((Builtin.append_ #[52,52] 52 #[.slice none 0 0,.slice p M q]).run prog w=.ok u w'):=hr;have HO:Hid (w'.ownsRow w.heap.size 4 1 u M (CY M X)/\Below w.heap.size w w'):=⟨ho,hb⟩
 clear h hr ho hb;go_enter func61,ntmps61;go_wp2_with(at_builtin;refine AC rF _ _ _ rF _ _ _ rF rF HR.out ?_);go_ret;exact⟨u,rfl,HO.out.1,HO.out.2⟩
theorem F4{P:Program}{w w':World}{o:Oper}{a:Act}{K:Act->World->Prop}{Q:Exit->Act->World->Prop}(s x:Operand)(t:TypeId)
 (ho:o.op=.call {callee:=.builtin .append,args:=#[s,x],argTypes:=#[t,t]}) (v v2 v':Value) (hs:a.eval s=v) (hx:a.eval x=v2) (hr:(Builtin.append_ #[t,t] o.type #[v,v2]).run P w=.ok v' w')
 (h:K (a.put o.dst v') w') (y':Bool) (hy:y'=true):if y'=true then Oper.wp P o a w K Q else K (a.put o.dst undef) w:=by
 rw[if_pos hy];exact Zeb
end Go.Proofs.YtcdpmgldkibfiaaGreat
