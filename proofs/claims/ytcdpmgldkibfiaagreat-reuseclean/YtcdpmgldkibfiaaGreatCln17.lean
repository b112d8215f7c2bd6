import Derived.Test.YtcdpmgldkibfiaaGreatCln1
import Derived.Test.YtcdpmgldkibfiaaGreatCln13
import Derived.Test.YtcdpmgldkibfiaaGreatCln7
import Derived.Test.YtcdpmgldkibfiaaGreatCln10
namespace Go.Proofs.YtcdpmgldkibfiaaGreat
open Go.RowKit Go.Proofs.Tryz
set_option linter.all false
set_option maxRecDepth 100000
set_option maxHeartbeats 16000000
theorem YC(v0 v1 v2 v3:Value)(c:Cd)(co:Ba c)(hT:As c=true)(op D A B E n bt La Lb Lc Ld Le:Int)(a b cc d e:UInt8)
 (HROW:Hid (∀w,Calls prog 63 #[.int .i64 op] w fun x w'=>x=.returned (.tuple #[.string ⟨#[a,b,cc,d,e]⟩,.bool true])/\w'=w))
 (HCAN:Hid (∀w,Calls prog 86 #[.int .u32 bt] w fun e w'=>e=.returned (.bool true)/\Below w.heap.size w w'))
 (ix0:∀w,(Instr.index 9 (.string ⟨#[a,b,cc,d,e]⟩) (.int .i64 0)).run prog w=.ok (.int .u8 La) w)
 (ix1:∀w,(Instr.index 9 (.string ⟨#[a,b,cc,d,e]⟩) (.int .i64 1)).run prog w=.ok (.int .u8 Lb) w)
 (ix2:∀w,(Instr.index 9 (.string ⟨#[a,b,cc,d,e]⟩) (.int .i64 2)).run prog w=.ok (.int .u8 Lc) w)
 (ix3:∀w,(Instr.index 9 (.string ⟨#[a,b,cc,d,e]⟩) (.int .i64 3)).run prog w=.ok (.int .u8 Ld) w)
 (UK:∀w,(Instr.index 9 (.string ⟨#[a,b,cc,d,e]⟩) (.int .i64 4)).run prog w=.ok (.int .u8 Le) w)
 (oa:Ca La) (ob:Ca Lb) (oc:Ca Lc) (od:Ca Ld) (oT:Le=112->La=118\/(La=45/\Lb=118)) (o1:(op==1)=false) (o2:(op != 1)=true) (o3:(bt==0)=true) (o4:(bt != 0)=false) (hz0:La=45) (oA:Lb=45->Le=45\/Le=113) (oB:Lb≠45->Le=45\/Le=112\/Le=115)
 (w:World) (hv:Cj w v0 v1 v2 v3 c):
 Calls prog 87 #[.agg #[v0,v1,v2,v3],.agg #[.int .i64 op,.int .i64 D,.int .i64 A,.int .i64 B,.int .i64 E,.int .i64 n,.int .u32 bt]] w fun e w'=>e=.returned (.bool (Ap c.regs La D ⟨0,0⟩&&(Ap c.regs Lb A (dR c.regs La D)&&(Ap c.regs Lc B (dR c.regs La D)&&(Ap c.regs Ld E (dR c.regs La D)&&Dk c Le n (tR c.regs La Lb D A))))))/\Below w.heap.size w w':=by
 have KO:∀ (l n:Int) (d:Ty),Ca l->∀v,Below w.heap.size w v->Calls prog 116 #[.agg #[v0,v1,v2,v3],.int .u8 l,.int .i64 n,.agg #[.int .i64 d.kind,.int .i64 d.par]] v fun e w'=>e=.returned (.bool (Ap c.regs l n d))/\Below v.heap.size v w':=fun l n d hl v hb=>Fq v0 v1 v2 v3 c co l n d hl v (hv.below hb);have HT0:Hid (TW w v0 v1 v2 v3 (w.heap.size+1) op D A B E n bt ((w.alloc (.cells #[v0,v1,v2,v3] 27)).alloc (.cells #[.int .i64 op,.int .i64 D,.int .i64 A,.int .i64 B,.int .i64 E,.int .i64 n,.int .u32 bt] 44))):=TW.start w v0 v1 v2 v3 op D A B E n bt;obtain⟨p0,q0,rfl,-⟩:=id hv.sign;obtain⟨p1,q1,rfl,hr1⟩:=id hv.regs;obtain⟨p2,q2,rfl,-⟩:=id hv.slots;have hREG:∀x:Int,Av x c.regs.length=true->∃ (k lb lo:Nat),x=(k:Int)/\k<c.regs.length/\p1=some ⟨lb,lo,none⟩/\w.cell? ⟨lb,lo+k*2,none⟩=some (.int .i64 (A7 c.regs x).kind)/\w.cell? ⟨lb,lo+k*2+1,none⟩=some (.int .i64 (A7 c.regs x).par):=by
  exact Zcm
 have HREG:Hid (∀x:Int,Av x c.regs.length=true->∃ (k lb lo:Nat),x=(k:Int)/\k<c.regs.length/\p1=some ⟨lb,lo,none⟩/\w.cell? ⟨lb,lo+k*2,none⟩=some (.int .i64 (A7 c.regs x).kind)/\w.cell? ⟨lb,lo+k*2+1,none⟩=some (.int .i64 (A7 c.regs x).par)):=hREG;have HCV:Hid (Cj w (.slice p0 c.sign.length q0) (.slice p1 c.regs.length q1) (.slice p2 c.slots.length q2) v3 c):=hv;have HCO:Hid (Ba c):=co;have hB0:=co.signL;have hB1:=co.regsL;have hB2:=co.slotsL;have hTy:∀x:Int,Av x c.regs.length=true->Gu 118 (A7 c.regs x) ⟨0,0⟩=true->Av (A7 c.regs x).par c.sign.length=true:=fun x hx hk=>by
  exact Zdd
 obtain⟨n0,hn0⟩:∃n0,c.sign.length=n0:=⟨_,rfl⟩
 obtain⟨n1,hn1⟩:∃n1,c.regs.length=n1:=⟨_,rfl⟩
 obtain⟨n2,hn2⟩:∃n2,c.slots.length=n2:=⟨_,rfl⟩
 have HN0:Hid (c.sign.length=n0):=hn0;have HN1:Hid (c.regs.length=n1):=hn1;have HN2:Hid (c.slots.length=n2):=hn2;rw[hn0]at hB0;rw[hn1]at hB1;rw[hn2]at hB2;rw[hn0,hn1,hn2]at HCV KO HT0 ⊢;clear hREG hv hr1 hn0 hn1 hn2 co;have HTY:Hid (∀x:Int,Av x c.regs.length=true->Gu 118 (A7 c.regs x) ⟨0,0⟩=true->Av (A7 c.regs x).par c.sign.length=true):=hTy;clear hTy hT;have hKO0:=fun d=>KO La D d oa;have hKOA:=fun d=>KO Lb A d ob;have hKOB:=fun d=>KO Lc B d oc;have hKOC:=fun d=>KO Ld E d od;clear KO;have hPP0:Le=112->La=118\/(La=45/\Lb=118):=oT;clear oT oc od;obtain⟨RES,hRES⟩:∃R,(Ap c.regs La D ⟨0,0⟩&&(Ap c.regs Lb A (dR c.regs La D)&&(Ap c.regs Lc B (dR c.regs La D)&&(Ap c.regs Ld E (dR c.regs La D)&&Dk c Le n (tR c.regs La Lb D A)))))=R:=⟨_,rfl⟩
 rw[hRES];subst hz0;by_cases hD:D=0
 ·subst hD;rw[EY,show((0:Int)==0)=true from rfl,Bool.true_and,show dR c.regs 45 0=⟨0,0⟩from rfl]at hRES;have hXT:Ap c.regs Lb A ⟨0,0⟩=true->Lb≠45->Av A c.regs.length=true:=fun h hl=>by
   rw[BO hl]at h;simp only[Bool.and_eq_true]at h;exact h.1
  have hXP:Ap c.regs Lb A ⟨0,0⟩=true->Lb=118->Gu 118 (A7 c.regs A) ⟨0,0⟩=true:=fun h hl=>by
   exact Zet
  obtain⟨XA,hXA⟩:∃X,Ap c.regs Lb A ⟨0,0⟩=X:=⟨_,rfl⟩
  obtain⟨XB,hXB⟩:∃X,Ap c.regs Lc B ⟨0,0⟩=X:=⟨_,rfl⟩
  obtain⟨XC,hXC⟩:∃X,Ap c.regs Ld E ⟨0,0⟩=X:=⟨_,rfl⟩
  rw[hXA]at hXT hXP;rw[hXA,hXB,hXC]at hRES;have HKA:Hid _:=hKOA ⟨0,0⟩;have HKB:Hid _:=hKOB ⟨0,0⟩;have HKC:Hid _:=hKOC ⟨0,0⟩;rw[hXA]at HKA;rw[hXB]at HKB;rw[hXC]at HKC;simp only at HKA HKB HKC;have HXT:Hid (XA=true->Lb≠45->Av A c.regs.length=true):=hXT;have HXP:Hid (XA=true->Lb=118->Gu 118 (A7 c.regs A) ⟨0,0⟩=true):=hXP;have HRES:Hid ((XA&&(XB&&(XC&&Dk c Le n (tR c.regs 45 Lb 0 A))))=RES):=hRES;clear hKO0 hKOA hKOB hKOC hXA hXB hXC hXT hXP hRES;go_enter func87,ntmps87;go_wp2_with(first
   |(go_at_call 63;refine(HROW.out _).mono ?_;rintro e w1 ⟨rfl,rfl⟩)
   |(go_at_call 86;refine(HCAN.out _).mono ?_;rintro e w2 ⟨rfl,hb2⟩;have HT2:Hid (TW w (.slice p0 n0 q0) (.slice p1 n1 q1) (.slice p2 n2 q2) v3 (w.heap.size+1) op 0 A B E n bt (w2.alloc (.cells #[.int .i64 0,.int .i64 0] 46))):=(HT0.out.next hb2).next (A0 _ _);obtain⟨b1,c0,c1,c2,c3,i0,i1,i2,i3,i4,i5,i6⟩:=HT2.out;have HS2:Hid (w.heap.size+1<w2.heap.size):=A5 (HT0.out.next hb2).i0;clear hb2))
  have HD:Hid ((w2.alloc (.cells #[.int .i64 0,.int .i64 0] 46)).cell? ⟨w2.heap.size,0,none⟩=some (.int .i64 0)/\(w2.alloc (.cells #[.int .i64 0,.int .i64 0] 46)).cell? ⟨w2.heap.size,1,none⟩=some (.int .i64 0)):=⟨sG,sG⟩
  have HTD:Hid _:=HT2.out;obtain⟨Z,hZ⟩:∃Z,w2.heap.size=Z:=⟨_,rfl⟩
  obtain⟨Wd,hWd⟩:∃W,w2.alloc (.cells #[.int .i64 0,.int .i64 0] 46)=W:=⟨_,rfl⟩
  rw[hZ]at HD;rw[hWd]at HD HTD ⊢;try rw[hZ]
  clear hZ hWd HT2 b1 c0 c1 c2 c3 i0 i1 i2 i3 i4 i5 i6 HT0 HROW HCAN;have HCD:Hid (∀v,Below Wd.heap.size Wd v->v.cell? ⟨w.heap.size,0,none⟩=some (.slice p0 n0 q0)/\v.cell? ⟨w.heap.size,1,none⟩=some (.slice p1 n1 q1)/\v.cell? ⟨w.heap.size,2,none⟩=some (.slice p2 n2 q2)/\v.cell? ⟨w.heap.size,3,none⟩=some v3/\v.cell? ⟨w.heap.size+1,1,none⟩=some (.int .i64 0)/\v.cell? ⟨w.heap.size+1,2,none⟩=some (.int .i64 A)/\v.cell? ⟨w.heap.size+1,3,none⟩=some (.int .i64 B)/\v.cell? ⟨w.heap.size+1,4,none⟩=some (.int .i64 E)/\v.cell? ⟨w.heap.size+1,5,none⟩=some (.int .i64 n)/\v.cell? ⟨Z,0,none⟩=some (.int .i64 0)/\v.cell? ⟨Z,1,none⟩=some (.int .i64 0)):=fun v hb=>⟨kc hb HTD.out.c0,kc hb HTD.out.c1,kc hb HTD.out.c2,kc hb HTD.out.c3,kc hb HTD.out.i1,kc hb HTD.out.i2,kc hb HTD.out.i3,kc hb HTD.out.i4,kc hb HTD.out.i5,kc hb HD.out.1,kc hb HD.out.2⟩
  obtain⟨c0,c1,c2,c3,i1,i2,i3,i4,i5,d0,d1⟩:=HCD.out Wd (Be _);cases XA
  ·have HQF:Hid (false=RES):=HRES.out;go_wp2;refine rG (fun v=>v.cell? ⟨w.heap.size,0,none⟩=some (.slice p0 n0 q0)/\v.cell? ⟨w.heap.size,1,none⟩=some (.slice p1 n1 q1)/\v.cell? ⟨w.heap.size,2,none⟩=some (.slice p2 n2 q2)/\v.cell? ⟨w.heap.size,3,none⟩=some v3/\v.cell? ⟨w.heap.size+1,1,none⟩=some (.int .i64 0)/\v.cell? ⟨w.heap.size+1,2,none⟩=some (.int .i64 A)/\v.cell? ⟨w.heap.size+1,3,none⟩=some (.int .i64 B)/\v.cell? ⟨w.heap.size+1,4,none⟩=some (.int .i64 E)/\v.cell? ⟨w.heap.size+1,5,none⟩=some (.int .i64 n)/\v.cell? ⟨Z,0,none⟩=some (.int .i64 0)/\v.cell? ⟨Z,1,none⟩=some (.int .i64 0)) fun hHeld=>?_;refine Tf 0 1 2 3 4 5 ?_;clear hHeld;refine AC 6 fun K hK=>?_;go_simp;(go_at_call 116;(with_reducible refine(HKA.out _ (bel HTD.out.bel (A6 _))).mono ?_);rintro e w3 ⟨rfl,hb9⟩;have HB3:Hid (Below Wd.heap.size Wd w3):=bel (A6 _) hb9;clear hb9;obtain⟨c0,c1,c2,c3,i1,i2,i3,i4,i5,d0,d1⟩:=HCD.out w3 HB3.out);try(go_wp2_with fail)
   refine Ax hK fun hHeld=>?_;clear hK K;refine Tb 7 8 ?_;refine Kd 9 10 11 12 ?_;refine Kd 13 14 15 16 ?_;refine Tb 17 18 ?_;refine Kd 19 20 21 22 ?_;refine Kd 23 24 25 26 ?_;refine Bq 27 ?_;refine wpAnyH_done kR ?_ _;go_wp2;go_ret;exact⟨A9 HQF.out,bel HTD.out.bel HB3.out⟩
  cases XB
  ·have HQF:Hid (false=RES):=HRES.out;go_wp2;refine rG (fun v=>v.cell? ⟨w.heap.size,0,none⟩=some (.slice p0 n0 q0)/\v.cell? ⟨w.heap.size,1,none⟩=some (.slice p1 n1 q1)/\v.cell? ⟨w.heap.size,2,none⟩=some (.slice p2 n2 q2)/\v.cell? ⟨w.heap.size,3,none⟩=some v3/\v.cell? ⟨w.heap.size+1,1,none⟩=some (.int .i64 0)/\v.cell? ⟨w.heap.size+1,2,none⟩=some (.int .i64 A)/\v.cell? ⟨w.heap.size+1,3,none⟩=some (.int .i64 B)/\v.cell? ⟨w.heap.size+1,4,none⟩=some (.int .i64 E)/\v.cell? ⟨w.heap.size+1,5,none⟩=some (.int .i64 n)/\v.cell? ⟨Z,0,none⟩=some (.int .i64 0)/\v.cell? ⟨Z,1,none⟩=some (.int .i64 0)) fun hHeld=>?_;exact Zau
  cases XC
  ·have HQF:Hid (false=RES):=HRES.out;go_wp2;refine rG (fun v=>v.cell? ⟨w.heap.size,0,none⟩=some (.slice p0 n0 q0)/\v.cell? ⟨w.heap.size,1,none⟩=some (.slice p1 n1 q1)/\v.cell? ⟨w.heap.size,2,none⟩=some (.slice p2 n2 q2)/\v.cell? ⟨w.heap.size,3,none⟩=some v3/\v.cell? ⟨w.heap.size+1,1,none⟩=some (.int .i64 0)/\v.cell? ⟨w.heap.size+1,2,none⟩=some (.int .i64 A)/\v.cell? ⟨w.heap.size+1,3,none⟩=some (.int .i64 B)/\v.cell? ⟨w.heap.size+1,4,none⟩=some (.int .i64 E)/\v.cell? ⟨w.heap.size+1,5,none⟩=some (.int .i64 n)/\v.cell? ⟨Z,0,none⟩=some (.int .i64 0)/\v.cell? ⟨Z,1,none⟩=some (.int .i64 0)) fun hHeld=>?_;exact Zan
  go_wp2;refine rG (fun v=>v.cell? ⟨w.heap.size,0,none⟩=some (.slice p0 n0 q0)/\v.cell? ⟨w.heap.size,1,none⟩=some (.slice p1 n1 q1)/\v.cell? ⟨w.heap.size,2,none⟩=some (.slice p2 n2 q2)/\v.cell? ⟨w.heap.size,3,none⟩=some v3/\v.cell? ⟨w.heap.size+1,1,none⟩=some (.int .i64 0)/\v.cell? ⟨w.heap.size+1,2,none⟩=some (.int .i64 A)/\v.cell? ⟨w.heap.size+1,3,none⟩=some (.int .i64 B)/\v.cell? ⟨w.heap.size+1,4,none⟩=some (.int .i64 E)/\v.cell? ⟨w.heap.size+1,5,none⟩=some (.int .i64 n)/\v.cell? ⟨Z,0,none⟩=some (.int .i64 0)/\v.cell? ⟨Z,1,none⟩=some (.int .i64 0)) fun hHeld=>?_;refine Tf 0 1 2 3 4 5 ?_;clear hHeld;refine AC 6 fun K hK=>?_;go_simp;(go_at_call 116;(with_reducible refine(HKA.out _ (bel HTD.out.bel (A6 _))).mono ?_);rintro e w3 ⟨rfl,hb9⟩;have HB3:Hid (Below Wd.heap.size Wd w3):=bel (A6 _) hb9;clear hb9;obtain⟨c0,c1,c2,c3,i1,i2,i3,i4,i5,d0,d1⟩:=HCD.out w3 HB3.out);try(go_wp2_with fail)
  refine Ax hK fun hHeld=>?_;clear hK K;refine Tf 7 8 9 10 11 12 ?_;refine Tb 13 14 ?_;clear hHeld;refine AC 15 fun K hK=>?_;go_simp;(go_at_call 116;(with_reducible refine(HKB.out _ (bel HTD.out.bel HB3.out)).mono ?_);rintro e w4 ⟨rfl,hb9⟩;have HB4:Hid (Below Wd.heap.size Wd w4):=bel HB3.out hb9;clear hb9;clear c0 c1 c2 c3 i1 i2 i3 i4 i5 d0 d1;obtain⟨c0,c1,c2,c3,i1,i2,i3,i4,i5,d0,d1⟩:=HCD.out w4 HB4.out);try(go_wp2_with fail)
  refine Ax hK fun hHeld=>?_;clear hK K;refine Tf 16 17 18 19 20 21 ?_;refine Tc 22 23 24 ?_;clear hHeld;refine AC 25 fun K hK=>?_;go_simp;(go_at_call 116;(with_reducible refine(HKC.out _ (bel HTD.out.bel HB4.out)).mono ?_);rintro e w5 ⟨rfl,hb9⟩;have HB5:Hid (Below Wd.heap.size Wd w5):=bel HB4.out hb9;clear hb9;clear c0 c1 c2 c3 i1 i2 i3 i4 i5 d0 d1;obtain⟨c0,c1,c2,c3,i1,i2,i3,i4,i5,d0,d1⟩:=HCD.out w5 HB5.out);try(go_wp2_with fail)
  refine Ax hK fun hHeld=>?_;clear hK K;refine Tb 26 27 ?_;refine wpAnyH_done kR ?_ _;clear c0 c1 c2 c3 i1 i2 i3 i4 i5 d0 d1;have HT5:Hid (TW w (.slice p0 n0 q0) (.slice p1 n1 q1) (.slice p2 n2 q2) v3 (w.heap.size+1) op 0 A B E n bt w5):=HTD.out.next HB5.out;obtain⟨hb5,c0,c1,c2,c3,i0,i1,i2,i3,i4,i5,i6⟩:=HT5.out;obtain⟨-,-,-,-,-,-,-,-,-,d0,d1⟩:=HCD.out w5 HB5.out;have hs5:w5.heap.size≠w.heap.size+1/\w.heap.size<w5.heap.size:=⟨fun e=>by have:=A5 i0;simp only at this;omega,by have:=A5 c0;simp only at this;omega⟩
  have HAL:Hid (TW w (.slice p0 n0 q0) (.slice p1 n1 q1) (.slice p2 n2 q2) v3 (w.heap.size+1) op 0 A B E n bt (w5.alloc (.cells #[.int .i64 0,.int .i64 0] 46))):=HT5.out.next (A0 _ _);by_cases hlb:Lb=45
  ·have oe:=oA hlb;subst hlb;have HRT:Hid (Dk c Le n ⟨0,0⟩=RES):=HRES.out;clear c0 c1 c2 c3 i0 i1 i2 i3 i4 i5 i6;have t0:(w5.alloc (.cells #[.int .i64 0,.int .i64 0] 46)).cell? ⟨w5.heap.size,0,none⟩=some (.int .i64 0):=sG;have t1:(w5.alloc (.cells #[.int .i64 0,.int .i64 0] 46)).cell? ⟨w5.heap.size,1,none⟩=some (.int .i64 0):=sG;obtain⟨hbx,c0,c1,c2,c3,i0,i1,i2,i3,i4,i5,i6⟩:=HAL.out;clear d0 d1 hPP0 HXT HXP HRES oA oB;have hbt:=hbx;rcases oe with rfl|rfl
   ·exact Zdn
   ·have HQ:Hid (Av n c.sign.length=RES):=HRT.out;have hN0:=HN0.out;by_cases hn0:0<=n
    all_goals
     go_wp2;go_ret;refine⟨A9 ?_,hbt⟩;rw[←HQ.out];unfold Av;rw[hN0];first|(simp[hn0];done)|(simp[hn0];omega)|(simp[hn0];intro h;omega)
  ·have oe:=oB hlb;have hlb1:(Lb==45)=false:=by simpa using hlb
   have hlb2:(Lb != 45)=true:=by simpa using hlb
   obtain⟨ka,lb,lo,rfl,hka,rfl,ya0,ya1⟩:=HREG.out A (HXT.out fT hlb);have HRT0:Hid (Dk c Le n (A7 c.regs (ka:Int))=RES):=by
    have h1:=HRES.out;have h2:tR c.regs 45 Lb 0 (ka:Int)=A7 c.regs (ka:Int):=if_pos ⟨rfl,hlb⟩;rw[h2]at h1;exact h1
   have HPP0:Hid (Le=112->Av (A7 c.regs (ka:Int)).par c.sign.length=true):=fun e=>by
    rcases hPP0 e with h|⟨-,h⟩
    ·exact absurd h dE
    ·exact HTY.out _ (HXT.out fT hlb) (HXP.out fT h)
   obtain⟨⟨tk,tp⟩,htt⟩:∃t:Ty,A7 c.regs (ka:Int)=t:=⟨_,rfl⟩
   rw[htt]at HRT0 HPP0 ya0 ya1;have HRT:Hid (Dk c Le n ⟨tk,tp⟩=RES):=HRT0.out;have HPP:Hid (Le=112->Av tp c.sign.length=true):=HPP0.out;have ka0:(0:Int)<=(ka:Int):=oM;have ka1:(ka:Int)<(n1:Int):=by have:=HN1.out;omega
   clear c0 c1 c2 c3 i0 i1 i2 i3 i4 i5 i6;have hq5:=fun o=>HT5.out.next (A0 w5 o);have c0:=fun o=>(hq5 o).c0;have c1:=fun o=>(hq5 o).c1;have c2:=fun o=>(hq5 o).c2;have c3:=fun o=>(hq5 o).c3;have i2:=fun o=>(hq5 o).i2;have i5:=fun o=>(hq5 o).i5;have xa0:=fun o=>kc (hq5 o).bel ya0;have xa1:=fun o=>kc (hq5 o).bel ya1;have hbx:=(hq5 (.cells #[.int .i64 tk,.int .i64 tp] 46)).bel;have t0:(w5.alloc (.cells #[.int .i64 tk,.int .i64 tp] 46)).cell? ⟨w5.heap.size,0,none⟩=some (.int .i64 tk):=sG;have t1:(w5.alloc (.cells #[.int .i64 tk,.int .i64 tp] 46)).cell? ⟨w5.heap.size,1,none⟩=some (.int .i64 tp):=sG;clear d0 d1 hPP0 HXT HXP HRES oA oB hq5;have hbt:=hbx;rcases oe with rfl|rfl|rfl
   ·exact Zdn
   ·have HQ:Hid ((n==0||(n==1&&CI c.sign tp==2))=RES):=HRT.out;have HPA:Hid (∀v,Below w.heap.size w v->Calls prog 117 #[.agg #[.slice p0 n0 q0,.slice (some ⟨lb,lo,none⟩) n1 q1,.slice p2 n2 q2,v3],.int .i64 n,.int .i64 tp] v fun e w'=>e=.returned (.bool RES)/\Below v.heap.size v w'):=fun v hb=>by rw[←HQ.out];exact LY _ _ _ _ c HCO.out n tp (fun _=>HPP.out rfl) v (HCV.out.below hb)
    exact Zeg
   ·have HQ:Hid ((Av n c.slots.length&&decide (CR c.slots n=⟨tk,tp⟩))=RES):=HRT.out;cases hpl:Av n c.slots.length
    ·exact Zav
    ·obtain⟨k,rfl,hkl⟩:=Dq hpl;obtain⟨lb9,lo9,ep,hc9⟩:=Bz.at (p:=p2) (n:=n2) (c:=q2) HCV.out.slots hkl;subst ep;have e9:CR c.slots (k:Int)=c.slots[k].ty:=by unfold CR;rw[Int.toNat_natCast,List.getElem?_eq_getElem hkl];rfl
     have hq9:=HQ.out;rw[hpl,Bool.true_and,e9]at hq9;obtain⟨⟨⟨sk,sp⟩,sQ,sB,sI⟩,ht9⟩:∃t:Sl,c.slots[k]=t:=⟨_,rfl⟩
     rw[ht9]at hc9 hq9;have HQ9:Hid (decide ((⟨sk,sp⟩:Ty)=⟨tk,tp⟩)=RES):=hq9;have y0:w.cell? ⟨lb9,lo9+k*5,none⟩=some (.int .i64 sk):=hc9.at 0 rfl;have y1:w.cell? ⟨lb9,lo9+k*5+1,none⟩=some (.int .i64 sp):=hc9.at 1 rfl;have x0:=kc hbt y0;have x1:=kc hbt y1;have k0:(0:Int)<=(k:Int):=oM;have k1:(k:Int)<(n2:Int):=by have:=HN2.out;omega
     clear hc9 ht9 e9 hpl hq9 HQ;by_cases hks:sk=tk
     ·obtain rfl:=hks;by_cases hps:sp=tp
      ·exact Zbu
      ·go_wp2;refine rG (fun v=>v.cell? ⟨w.heap.size,2,none⟩=some (.slice (some ⟨lb9,lo9,none⟩) n2 q2)/\v.cell? ⟨w.heap.size+1,5,none⟩=some (.int .i64 (k:Int))/\v.cell? ⟨lb9,lo9+k*5,none⟩=some (.int .i64 sk)/\v.cell? ⟨lb9,lo9+k*5+1,none⟩=some (.int .i64 sp)/\v.cell? ⟨w5.heap.size,0,none⟩=some (.int .i64 sk)/\v.cell? ⟨w5.heap.size,1,none⟩=some (.int .i64 tp)) fun hHeld=>?_;exact Zdp
     ·go_wp2;refine rG (fun v=>v.cell? ⟨w.heap.size,2,none⟩=some (.slice (some ⟨lb9,lo9,none⟩) n2 q2)/\v.cell? ⟨w.heap.size+1,5,none⟩=some (.int .i64 (k:Int))/\v.cell? ⟨lb9,lo9+k*5,none⟩=some (.int .i64 sk)/\v.cell? ⟨lb9,lo9+k*5+1,none⟩=some (.int .i64 sp)/\v.cell? ⟨w5.heap.size,0,none⟩=some (.int .i64 tk)/\v.cell? ⟨w5.heap.size,1,none⟩=some (.int .i64 tp)) fun hHeld=>?_;exact Zdq
 ·rw[EY,show(D==0)=false by simpa using hD,Bool.false_and]at hRES;have hD1:(D==0)=false:=by simpa using hD
  have hD2:(D != 0)=true:=by simpa using hD
  have HRF:Hid (false=RES):=hRES;clear hRES;go_enter func87,ntmps87;go_wp2_with(first
   |(go_at_call 63;refine(HROW.out _).mono ?_;rintro e w1 ⟨rfl,rfl⟩)
   |(go_at_call 86;refine(HCAN.out _).mono ?_;rintro e w2 ⟨rfl,hb2⟩;have HT2:Hid (TW w (.slice p0 n0 q0) (.slice p1 n1 q1) (.slice p2 n2 q2) v3 (w.heap.size+1) op D A B E n bt (w2.alloc (.cells #[.int .i64 0,.int .i64 0] 46))):=(HT0.out.next hb2).next (A0 _ _);obtain⟨b1,c0,c1,c2,c3,i0,i1,i2,i3,i4,i5,i6⟩:=HT2.out;have HS2:Hid (w.heap.size+1<w2.heap.size):=A5 (HT0.out.next hb2).i0;clear hb2))
  go_ret;exact⟨A9 HRF.out,HT2.out.bel⟩
theorem NZ:∀x:Cf,∀u∈B0 x,u.oneCell'=true:=fun x u hu=>by simp[B0]at hu;rcases hu with rfl|rfl|rfl<;>rfl
theorem RH:∀x:Ty,∀u∈Kp x,u.oneCell'=true:=fun x u hu=>by simp[Kp]at hu;rcases hu with rfl|rfl<;>rfl
theorem RD:∀x:Sl,∀u∈MU x,u.oneCell'=true:=fun x u hu=>by simp[MU]at hu;rcases hu with rfl|rfl|rfl|rfl|rfl<;>rfl
theorem Lv:(prog.info? 46).map (fun i=>(i.zero,i.size,i.bytes))=some (some (.agg #[.int .i64 0,.int .i64 0]),2,16):=kR
theorem Lu:(prog.info? 48).map (fun i=>(i.zero,i.size,i.bytes))=some (some (.agg #[.int .i64 0,.int .i64 0,.bool false,.int .u32 0,.int .i64 0]),5,32):=kR
theorem Xk{l:List Cf}{v:Value}{w:World}(h:Bz 3 B0 w v l)(hl:l.length*32<=140737488355328)(ty:TypeId):
 ∃v' w',(Builtin.append_ #[22,22] ty #[.slice none 0 0,v]).run prog w=.ok v' w'/\Below w.heap.size w w'/\w'.ownsRow w.heap.size 73 3 v' l.length (AU B0 l):=by
 obtain⟨i0,hi0,hz0,hz1,hz2⟩:=info_parts JC;exact E6 dE EZ NZ underlying22 hi0 hz0 hz1 hz2 rfl h mL hl ty
theorem ZF{l:List Ty}{v:Value}{w:World}(h:Bz 2 Kp w v l)(hl:l.length*16<=140737488355328)(ty:TypeId):
 ∃v' w',(Builtin.append_ #[23,23] ty #[.slice none 0 0,v]).run prog w=.ok v' w'/\Below w.heap.size w w'/\w'.ownsRow w.heap.size 46 2 v' l.length (AU Kp l):=by
 obtain⟨i0,hi0,hz0,hz1,hz2⟩:=info_parts Lv;exact E6 dE Gn RH underlying23 hi0 hz0 hz1 hz2 rfl h mL hl ty
theorem ZE{l:List Sl}{v:Value}{w:World}(h:Bz 5 MU w v l)(hl:l.length*32<=140737488355328)(ty:TypeId):
 ∃v' w',(Builtin.append_ #[24,24] ty #[.slice none 0 0,v]).run prog w=.ok v' w'/\Below w.heap.size w w'/\w'.ownsRow w.heap.size 48 5 v' l.length (AU MU l):=by
 obtain⟨i0,hi0,hz0,hz1,hz2⟩:=info_parts Lu;exact E6 dE Ht RD underlying24 hi0 hz0 hz1 hz2 rfl h mL hl ty
def f4(a b c d:Value)(j:Nat):Value:=if j=0 then a else if j=1 then b else if j=2 then c else d
structure CW(w:World)(v0 v1 v2 v3 x0 x1 x2 x3:Value)(v:World):Prop where
 bel:Below w.heap.size w v
 c:Ai v w.heap.size 0 [v0,v1,v2,v3]
 r:v.rowIs (w.heap.size+1) 27 4 (f4 (.slice none 0 0) (.slice none 0 0) (.slice none 0 0) (.slice none 0 0))
 d:v.rowIs (w.heap.size+1+1) 27 4 (f4 x0 x1 x2 x3)
theorem CW.app{w:World}{v0 v1 v2 v3 x0 x1 x2 x3:Value}{v v':World}(h:CW w v0 v1 v2 v3 x0 x1 x2 x3 v)(k:Below v.heap.size v v'):CW w v0 v1 v2 v3 x0 x1 x2 x3 v':=
 ⟨Go.Proofs.YtcdpmgldkibfiaaGreat.bel h.bel k,h.c.below k,h.r.of_block (k.block _ h.r.lt),h.d.of_block (k.block _ h.d.lt)⟩
theorem CW.put{w:World}{v0 v1 v2 v3 x0 x1 x2 x3 y0 y1 y2 y3:Value}{v:World}(h:CW w v0 v1 v2 v3 x0 x1 x2 x3 v)(i:Nat)(x:Value)(e:∀j,j<4->(if j=i then x else f4 x0 x1 x2 x3 j)=f4 y0 y1 y2 y3 j):CW w v0 v1 v2 v3 y0 y1 y2 y3 (v.setCell ⟨w.heap.size+1+1,i,none⟩ x):=by
 have nb:∀b,b≠w.heap.size+1+1->(v.setCell ⟨w.heap.size+1+1,i,none⟩ x).heap[b]? =v.heap[b]? :=fun b hb=>Below.heap_setCell _ _ _ _ hb;exact⟨h.bel.setCell Zz _,h.c.of_block (nb _ oM),h.r.of_block (nb _ oM),(h.d.set i x).congr e⟩
theorem CW.start(w:World)(v0 v1 v2 v3:Value):CW w v0 v1 v2 v3 (.slice none 0 0) (.slice none 0 0) (.slice none 0 0) (.slice none 0 0) (((w.alloc (.cells #[v0,v1,v2,v3] 27)).alloc (.cells #[.slice none 0 0,.slice none 0 0,.slice none 0 0,.slice none 0 0] 27)).alloc (.cells #[.slice none 0 0,.slice none 0 0,.slice none 0 0,.slice none 0 0] 27)):=by
 have q:∀u:World,(u.alloc (.cells #[.slice none 0 0,.slice none 0 0,.slice none 0 0,.slice none 0 0] 27)).rowIs u.heap.size 27 4 (f4 (.slice none 0 0) (.slice none 0 0) (.slice none 0 0) (.slice none 0 0)):=fun u=>World.rowIs_alloc u #[.slice none 0 0,.slice none 0 0,.slice none 0 0,.slice none 0 0] 27 _ (fun i hi=>by
  have hi':i<4:=hi;obtain rfl|rfl|rfl|rfl:i=0\/i=1\/i=2\/i=3:=oM
  all_goals rfl)
 have h1:=q (w.alloc (.cells #[v0,v1,v2,v3] 27));have h2:=q ((w.alloc (.cells #[v0,v1,v2,v3] 27)).alloc (.cells #[.slice none 0 0,.slice none 0 0,.slice none 0 0,.slice none 0 0] 27));have s1:(w.alloc (.cells #[v0,v1,v2,v3] 27)).heap.size=w.heap.size+1:=sM;have s2:((w.alloc (.cells #[v0,v1,v2,v3] 27)).alloc (.cells #[.slice none 0 0,.slice none 0 0,.slice none 0 0,.slice none 0 0] 27)).heap.size=w.heap.size+1+1:=sM;rw[s1]at h1;rw[s2]at h2;refine⟨Go.Proofs.YtcdpmgldkibfiaaGreat.bel (Go.Proofs.YtcdpmgldkibfiaaGreat.bel (A0 _ _) (A0 _ _)) (A0 _ _),fun j hj=>?_,h1.alloc _,h2⟩;have hj':j<4:=hj;obtain rfl|rfl|rfl|rfl:j=0\/j=1\/j=2\/j=3:=oM
 all_goals simp[go_sem]
def Up(E:Nat)(v v':World):Prop:=v.heap.size<=v'.heap.size/\∀b,E<=b->b<v.heap.size->v'.heap[b]? =v.heap[b]?
theorem Up.of{E:Nat}{v v':World}(k:Below v.heap.size v v'):Up E v v':=⟨k.size,fun b _ hb=>k.block b hb⟩
theorem Up.set{E:Nat}(v:World){D:Nat}(hD:D<E)(i:Nat)(x:Value):Up E v (v.setCell ⟨D,i,none⟩ x):=⟨sM,fun b hb _=>Below.heap_setCell _ _ _ _ (by show b≠D;omega)⟩
theorem Up.trans{E:Nat}{a b c:World}(h:Up E a b)(k:Up E b c):Up E a c:=⟨Nat.le_trans h.1 k.1,fun x hx hl=>(k.2 x hx (Nat.lt_of_lt_of_le hl h.1)).trans (h.2 x hx hl)⟩
theorem Up.own{E B:Nat}{v v':World}{t:TypeId}{k n:Nat}{u:Value}{xs:List Value}(h:Up E v v')(ho:v.ownsRow B t k u n xs)(hB:E<=B):v'.ownsRow B t k u n xs:=Ad ho fun g hg=>h.2 g (Nat.le_trans hB (ho.lt g hg).1) (ho.lt g hg).2
structure X7(B:Nat)(w:World)(u0 u1 u2 u3:Value)(c:Cd):Prop where
 sign:w.ownsRow B 73 3 u0 c.sign.length (AU B0 c.sign)
 regs:w.ownsRow B 46 2 u1 c.regs.length (AU Kp c.regs)
 slots:w.ownsRow B 48 5 u2 c.slots.length (AU MU c.slots)
 list:w.ownsRow B 44 7 u3 c.list.length (AU E0 c.list)
structure TR(c:Cd):Prop where
 s:c.sign.length*32<=140737488351232
 r:c.regs.length*16<=140737488351232
 l:c.slots.length*32<=140737488351232
 i:c.list.length*56<=140737488351232

theorem Gk{w:World}{B B':Nat}{t t':TypeId}{k k' n n':Nat}{v v':Value}{xs xs':List Value}(h:w.ownsRow B t k v n xs)(h':w.ownsRow B' t' k' v' n' xs')(ht:t≠t'):∀b,v.ownBlock=some b->v'.ownBlock≠some b:=by
 intro b hb hb';rcases h.2 with⟨rfl,_⟩|⟨g,cap,cur,rfl,_,hg,_⟩
 ·exact absurd (show(none:Option Nat)=some b from hb) sM
 rcases h'.2 with⟨rfl,_⟩|⟨g',cap',cur',rfl,_,hg',_⟩
 ·exact absurd (show(none:Option Nat)=some b from hb') sM
 have e1:g=b:=Option.some.inj hb;have e2:g'=b:=Option.some.inj hb';rw[e1]at hg;rw[e2,hg]at hg';simp only[Option.some.injEq,Obj.cells.injEq]at hg';exact ht hg'.2.1


def OD(s:Wk)(op:Int):Bool:=if op=34\/op=36 then decide (s.opens.length<64)else if op=35 then decide (0<s.opens.length)&& !Aj s else if op=37 then Aj s else true
def NO(c:Cd)(s:Wk)(i:Ac):Bool:=Aj s&&(i.op != 37&&Gw c.regs (FK i) != BV s)
def E5(s:Wk):Prop:=∀b∈s.opens,b.loop=true->0<=b.par
theorem E5.inner{s:Wk}(h:E5 s)(hl:Aj s=true):0<=BV s:=by
 obtain⟨S,O⟩:=s;cases O with
 |nil=>exact Int.le_refl _
 |cons b r=>exact h b (List.mem_cons_self ..) hl
theorem Is{i:Ac}(h:CD i.op=false):FK i= -1:=by
 unfold CD at h;simp only[Bool.or_eq_false_iff]at h;have h1:(i.op==29)=false/\(i.op==30)=false/\(i.op==31)=false/\(i.op==32)=false/\(i.op==33)=false:=by
  have:=h.1;simp only[Bool.and_eq_false_iff,decide_eq_false_iff_not]at this;simp only[beq_eq_false_iff_ne,ne_eq];omega
 unfold FK;rw[h.2,h1.1,h1.2.1,h1.2.2.1,h1.2.2.2.1,h1.2.2.2.2];rfl
theorem TG{i:Ac}(h:CD i.op=true):FK i=Ex i (A4 i.op):=by
 unfold CD Bj at h;simp only[Bool.or_eq_true,Bool.and_eq_true,decide_eq_true_eq]at h;obtain⟨op,D,A,B,E,n,bb⟩:=i;simp only at h ⊢;have:op=3\/op=4\/op=5\/op=6\/op=7\/op=8\/op=9\/op=10\/op=11\/op=12\/op=13\/op=14\/op=15\/op=29\/op=30\/op=31\/op=32\/op=33:=oM;rcases this with rfl|rfl|rfl|rfl|rfl|rfl|rfl|rfl|rfl|rfl|rfl|rfl|rfl|rfl|rfl|rfl|rfl|rfl<;>rfl
theorem It(rs:List Ty):Gw rs (-1)= -1:=by unfold Gw Av;simp
theorem Z8{rs:List Ty}{n q:Int}(hq:0<=q):(Gw rs n=q)↔A7 rs n=⟨3,q⟩:=by
 unfold Gw;cases h:Av n rs.length
 ·have:A7 rs n=⟨0,0⟩:=by unfold A7;rw[h];rfl
  rw[this];simp;omega
 ·rw[Bool.true_and];generalize A7 rs n=t;obtain⟨K,P⟩:=t;simp only[Ty.mk.injEq];by_cases hk:K=3
  ·subst hk;simp
  ·have:(K==3)=false:=by simpa using hk
   rw[this];constructor
   ·intro e;simp at e;omega
   ·intro e;exact absurd e.1 hk
theorem Tu{c:Cd}{s:Wk}{i:Ac}(hO:E5 s):At c s i (A4 i.op)=(!NO c s i&&OD s i.op):=by
 have hO':=hO.inner;unfold At NO OD;by_cases h1:i.op=34\/i.op=36
 ·rw[if_pos h1,if_pos h1];have hv:Gw c.regs (FK i)= -1:=by
   rw[Is (by rcases h1 with e|e<;>rw[e]<;>decide),It]
  have h37:(i.op != 37)=true:=by rcases h1 with e|e<;>rw[e]<;>decide
  rw[hv,h37];cases hl:Aj s
  ·rfl
  ·have:=hO' hl;have e:((-1:Int) != BV s)=true:=sO;rw[e];rfl
 ·rw[if_neg h1,if_neg h1];by_cases h2:i.op=35
  ·rw[if_pos h2,if_pos h2];have hv:Gw c.regs (FK i)= -1:=by rw[Is (by rw[h2];decide),It]
   rw[hv,h2];have hE:(!s.opens.isEmpty)=decide (0<s.opens.length):=by cases s.opens<;>simp
   rw[hE];cases hl:Aj s
   ·simp
   ·have:=hO' hl;have e:((-1:Int) != BV s)=true:=sO;rw[e];simp
  ·rw[if_neg h2,if_neg h2];by_cases h3:i.op=37
   ·rw[if_pos h3,if_pos h3,h3];cases Aj s<;>rfl
   ·rw[if_neg h3,if_neg h3];have h37:(i.op != 37)=true:=by simpa using h3
    rw[h37,Bool.true_and,Bool.and_true];cases hl:Aj s
    ·rfl
    ·have hq:=hO' hl;rw[Bool.not_true,Bool.false_or,Bool.true_and];cases hlp:CD i.op
     ·rw[Is hlp,It];have e:((-1:Int) != BV s)=true:=sO;rw[e];rfl
     ·rw[TG hlp,Bool.true_and];unfold AB;rw[Bool.eq_iff_iff,decide_eq_true_eq,←Z8 hq];simp
theorem TC{c:Cd}{s:Wk}{i:Ac}(hT:As c=true)(hO:E5 s):Aq c s i=((Ak i.op&&Et c i (DM i.op))&&(!NO c s i&&(Dr s i (A4 i.op)&&OD s i.op))):=by
 unfold Aq;rw[Nw hT,Tu hO];cases Ak i.op<;>cases AJ c i (A4 i.op)<;>cases NO c s i<;>cases OD s i.op<;>simp
structure Ob where
 op:Int
 par:Int
 set:List Nat
def obR(S:List Nat)(b:Bk):Ob:=⟨if b.loop then 36 else 34,b.par,S.take b.ahead⟩
def KG(s:Wk):List Ob:=(s.opens.map (obR s.set)).reverse
theorem Ja(s:Wk):(KG s).length=s.opens.length:=by simp[KG]
theorem Hb(S:List Nat)(b:Bk)(r:List Bk):KG ⟨S,b::r⟩=(r.map (obR S)).reverse++[obR S b]:=by simp[KG]
theorem UY{s:Wk}(h:0<s.opens.length):∃X,(KG s)[s.opens.length-1]? =some ⟨if Aj s then 36 else 34,BV s,X⟩:=by
 obtain⟨S,O⟩:=s;cases O with
 |nil=>simp at h
 |cons b r=>
  refine⟨S.take b.ahead,?_⟩;rw[Hb];simp only[List.length_cons,Nat.add_sub_cancel];rw[List.getElem?_append_right sM];simp only[List.length_reverse,List.length_map,Nat.sub_self];rfl
theorem MX{s:Wk}{i:Ac}(h:i.op=34\/i.op=36):Af s i=⟨s.set,⟨i.op==36,i.n,s.set.length⟩::s.opens⟩:=by
 unfold Af Di;rw[KV Zhf];unfold BJ;rw[if_pos h]
theorem MY{s:Wk}{i:Ac}(h:i.op=35\/i.op=37):Af s i=AG s:=by
 unfold Af Di;rw[KV Zhf];unfold BJ;rw[if_neg oM,if_pos h]
theorem Gm{s:Wk}{i:Ac}(h1:i.op≠34)(h2:i.op≠35)(h3:i.op≠36)(h4:i.op≠37):Af s i=⟨IW s.set i,s.opens⟩:=by
 unfold Af Di BJ;rw[if_neg oM,if_neg oM];unfold CG IW;split<;>rfl
theorem UZ{s:Wk}{i:Ac}(h:i.op=34\/i.op=36):KG (Af s i)=KG s++[⟨i.op,i.n,s.set⟩]:=by
 rw[MX h,Hb];unfold KG obR;simp only[List.take_length];rcases h with h|h<;>rw[h]<;>rfl
theorem V0{s:Wk}{i:Ac}{n:Nat}(ho:DQ n s)(h1:i.op≠34)(h2:i.op≠35)(h3:i.op≠36)(h4:i.op≠37):KG (Af s i)=KG s:=by
 rw[Gm h1 h2 h3 h4];unfold KG;simp only;congr 1;apply List.map_congr_left;intro b hb;have:=PH ho.opens b hb;have e:(IW s.set i).take b.ahead=s.set.take b.ahead:=by
  unfold IW;split
  ·rw[List.take_append_of_le_length this]
  ·rfl
 unfold obR;rw[e]
theorem Gi{s:Wk}{n:Nat}(ho:DQ n s)(h:0<s.opens.length):KG (AG s)=(KG s).take (s.opens.length-1):=by
 obtain⟨S,O⟩:=s;cases O with
 |nil=>simp at h
 |cons b r=>
  rw[Hb];simp only[List.length_cons,Nat.add_sub_cancel];rw[List.take_append_of_le_length sM,List.take_of_length_le sM];unfold KG AG;simp only;cases hb:b.loop
  ·simp only[Bool.false_eq_true,if_false];congr 1;apply List.map_congr_left;intro a ha;have:=PH ho.opens.2 a ha;unfold obR;rw[List.take_take,Nat.min_eq_left this]
  ·simp only[if_true]
theorem Su{s:Wk}(hl:Aj s=false){o:Ob}(h:(KG s)[s.opens.length-1]? =some o)(h0:0<s.opens.length):(AG s).set=o.set:=by
 obtain⟨S,O⟩:=s;cases O with
 |nil=>simp at h0
 |cons b r=>
  rw[Hb]at h;simp only[List.length_cons,Nat.add_sub_cancel]at h;rw[List.getElem?_append_right sM]at h;simp at h;subst h;have:b.loop=false:=hl;simp[AG,this,obR]
theorem PA{s:Wk}(hl:Aj s=true):(AG s).set=s.set:=by
 obtain⟨S,O⟩:=s;cases O with
 |nil=>rfl
 |cons b r=>
  have:b.loop=true:=hl;simp[AG,this]
theorem Ew(s:Wk):(AG s).opens.length=s.opens.length-1:=by
 obtain⟨S,O⟩:=s;cases O with
 |nil=>rfl
 |cons b r=>simp[AG]
theorem E5.step{c:Cd}{s:Wk}{i:Ac}(h:E5 s)(t:Aq c s i=true):E5 (Af s i):=by
 by_cases h1:i.op=34\/i.op=36
 ·rw[MX h1];intro b hb hl;rcases List.mem_cons.1 hb with rfl|hb
  ·have h36:i.op=36:=by simpa using hl
   obtain⟨_,h2,_,_⟩:=Ah t;rw[h36]at h2;unfold AJ Bh at h2;simp only[Bool.and_eq_true]at h2;have h3:=h2.2.2.2.2;rw[if_neg (show(A4 36).n≠7 by decide)]at h3;simp only[Bool.and_eq_true]at h3;have h4:Av i.n c.sign.length=true:=h3.2;exact(Br.1 h4).1
  ·exact h b hb hl
 ·by_cases h2:i.op=35\/i.op=37
  ·rw[MY h2];intro b hb hl;refine h b ?_ hl;unfold AG at hb;split at hb
   ·rename_i e;rw[e];exact List.mem_cons_of_mem _ hb
   ·exact hb
  ·rw[Gm oM oM oM oM];exact h
theorem E5.start:E5 ⟨[],[]⟩:=fun b hb=>by cases hb
def Dd(M:Nat)(X:List Nat):List Value:=(List.range M).map fun j=>.bool (decide (j∈X))
theorem Kb(M:Nat)(X:List Nat):(Dd M X).length=M:=by simp[Dd]
theorem Hp{M:Nat}{X:List Nat}{j:Nat}(h:j<M):(Dd M X)[j]? =some (.bool (decide (j∈X))):=by
 unfold Dd;rw[List.getElem?_map,List.getElem?_range h];rfl
theorem Oo(M:Nat):Dd M []=List.replicate M (.bool false):=by
 apply List.ext_getElem?;intro j;by_cases h:j<M
 ·rw[Hp h,List.getElem?_replicate,if_pos h];simp
 ·rw[List.getElem?_eq_none Zhm,List.getElem?_eq_none sO]
theorem Wn{M:Nat}{X:List Nat}{i:Ac}(hd:(A4 i.op).d≠0)(hl:i.d.toNat<M):(Dd M X).set i.d.toNat (.bool true)=Dd M (IW X i):=by
 apply List.ext_getElem?;intro j;by_cases h:j<M
 ·rw[Hp h,List.getElem?_set];by_cases e:i.d.toNat=j
  ·rw[if_pos e,if_pos Zhm];have:j∈IW X i:=QM.2 (.inr ⟨hd,e.symm⟩);simp[this]
  ·rw[if_neg e,Hp h];have:j∈IW X i↔j∈X:=by
    rw[QM];exact⟨fun q=>q.resolve_right fun q=>e q.2.symm,.inl⟩
   simp[this]
 ·rw[List.getElem?_eq_none (by rw[List.length_set,Kb];omega),List.getElem?_eq_none Zhm]
theorem Tj{M:Nat}{X:List Nat}{i:Ac}(hd:(A4 i.op).d=0):IW X i=X:=by unfold IW;rw[if_neg (fun q=>q.1 hd)]
theorem Nf{B:Nat}{V:World}{p:Option Addr}{n q:Nat}{xs:List Value}(h:V.ownsRow B 4 1 (.slice p n q) n xs)(hB:B<=V.heap.size)(hn:n<=140737488351232):
 ∃g c' w',(Builtin.append_ #[52,52] 52 #[.slice p n q,.slice (some ⟨V.heap.size,0,none⟩) 1 1]).run prog (V.alloc (.cells #[.bool false] 4))=.ok (.slice (some ⟨g,0,none⟩) (n+1) c') w'/\Below B V w'/\w'.ownsRow B 4 1 (.slice (some ⟨g,0,none⟩) (n+1) c') (n+1) (xs++[.bool false]):=by
 obtain⟨i0,hi0,hz0,hz1,hz2⟩:=info_parts Gf;have hb0:Below V.heap.size V (V.alloc (.cells #[.bool false] 4)):=A0 _ _;have hsz:(V.alloc (.cells #[.bool false] 4)).heap.size=V.heap.size+1:=sM;have h0:=Au h hb0;obtain⟨g,cap,w3,hr,hown,hgrow,hat,hlt⟩:=run_append_lies (P:=prog) (V.alloc (.cells #[.bool false] 4)) 52 52 B 4 i0 _ 1 1 underlying52 hi0 hz0 hz1 hz2 rfl dE (.slice p n q) n xs h0 ⟨V.heap.size,0,none⟩ 1 1 [.bool false] rfl
  (World.news_of_block (cs:=#[.bool false]) (t:=4) (fr:=(0,0)) (heap_alloc_new V _)) WZ dE mL oM sO _ rfl
 exact⟨g,cap,w3,hr,(hb0.mono hB).grown hgrow oM (fun q e=>(h0.lt q e).1),hown⟩
def Yj(o:Ob)(u:Value):List Value:=[.int .i64 o.op,.int .i64 o.par,u]
def GI:List Ob->List Value->List Value
 |o::l,u::us=>Yj o u++GI l us
 |_,_=>[]
theorem LM(o:Ob)(u:Value):∀ {l:List Ob} {us:List Value},l.length=us.length->GI (l++[o]) (us++[u])=GI l us++Yj o u
 |[],[],_=>by simp[GI]
 |[],_::_,h=>by simp at h
 |_::_,[],h=>by simp at h
 |a::l,b::us,h=>by simp only[List.cons_append,GI];rw[LM o u X4,List.append_assoc]
theorem Ib:∀ (m:Nat) (l:List Ob) (us:List Value),(GI l us).take (m*3)=GI (l.take m) (us.take m)
 |0,l,us=>by simp[GI]
 |m+1,[],us=>by simp[GI]
 |m+1,a::l,[]=>by simp[GI]
 |m+1,a::l,b::us=>by
  simp only[List.take_succ_cons,GI];rw[show(m+1)*3=(Yj a b).length+m*3 by simp[Yj];omega,List.take_length_add_append,Ib m l us]
theorem QZ(j:Nat)(hj:j<3):∀ {l:List Ob} {us:List Value} {k:Nat} {o:Ob} {u:Value},l[k]? =some o->us[k]? =some u->(GI l us)[k*3+j]? =(Yj o u)[j]?
 |[],us,k,o,u,h,_=>by simp at h
 |a::l,[],k,o,u,_,h=>by simp at h
 |a::l,b::us,0,o,u,h,h'=>by
  simp at h h';subst h h';simp only[GI];rw[Nat.zero_mul,Nat.zero_add,List.getElem?_append_left (by simpa[Yj]using hj)]
 |a::l,b::us,k+1,o,u,h,h'=>by
  simp only[GI];rw[List.getElem?_append_right (by simp[Yj];omega)];have e:(k+1)*3+j-(Yj a b).length=k*3+j:=by simp[Yj];omega
  rw[e];exact QZ j hj X4 (by simpa using h')
theorem Sq:(prog.info? 117).map (fun i=>(i.zero,i.size,i.bytes))=some (some (.agg #[.int .i64 0,.int .i64 0,.slice none 0 0]),3,40):=kR
structure SK(B M:Nat)(v:World)(sv ov:Value)(s:Wk)(us:List Value):Prop where
 hB:B<=v.heap.size
 set:v.ownsRow B 4 1 sv M (Dd M s.set)
 opn:v.ownsRow B 117 3 ov s.opens.length (GI (KG s) us)
 len:us.length=s.opens.length
 each:∀k (h:k<us.length) o,(KG s)[k]? =some o->v.ownsRow B 4 1 us[k] M (Dd M o.set)/\∀b,sv.ownBlock=some b->us[k].ownBlock≠some b
section
variable {B M : Nat} {v v' : World} {sv ov : Value} {s : Wk} {us : List Value}
theorem SK.below(h:SK B M v sv ov s us)(k:Below v.heap.size v v'):SK B M v' sv ov s us:=
 ⟨Nat.le_trans h.hB k.size,Au h.set k,Au h.opn k,h.len,fun j hj o ho=>⟨Au (h.each j hj o ho).1 k,(h.each j hj o ho).2⟩⟩
theorem Hv:117≠4:=dE
theorem SK.ins{i:Ac}{g q n:Nat}(h:SK B M v (.slice (some ⟨g,0,none⟩) M q) ov s us)(ok:DQ n s)(h1:i.op≠34)(h2:i.op≠35)(h3:i.op≠36)(h4:i.op≠37)(hd:(A4 i.op).d≠0)(hl:i.d.toNat<M):
 SK B M (v.setCell ⟨g,i.d.toNat,none⟩ (.bool true)) (.slice (some ⟨g,0,none⟩) M q) ov (Af s i) us:=by
 have e1:=V0 (i:=i) ok h1 h2 h3 h4;have e2:(Af s i).set=IW s.set i/\(Af s i).opens=s.opens:=by rw[Gm h1 h2 h3 h4];exact⟨rfl,rfl⟩
 have hne:∀b,b≠g->(v.setCell ⟨g,i.d.toNat,none⟩ (.bool true)).heap[b]? =v.heap[b]? :=fun b hb=>Below.heap_setCell _ _ _ _ hb;refine⟨by have:=h.hB;simp;omega,?_,?_,by rw[e2.2];exact h.len,fun k hk o ho=>?_⟩
 ·rw[e2.1,←Wn hd hl];exact(h.set.stored _ _).1
 ·rw[e1,e2.2];exact Ad h.opn fun b hb=>hne b fun e=>Gk h.opn h.set Hv b hb (by rw[e];rfl)
 ·rw[e1]at ho;obtain⟨a1,a2⟩:=h.each k hk o ho;exact⟨Ad a1 fun b hb=>hne b fun e=>a2 g rfl (by rw[←e];exact hb),a2⟩
theorem SK.keep{i:Ac}{n:Nat}(h:SK B M v sv ov s us)(ok:DQ n s)(h1:i.op≠34)(h2:i.op≠35)(h3:i.op≠36)(h4:i.op≠37)(hd:(A4 i.op).d=0):SK B M v sv ov (Af s i) us:=by
 have e:Af s i=s:=by rw[Gm h1 h2 h3 h4,Tj (M:=0) hd]
 rw[e];exact h
theorem DU{B:Nat}{V:World}{e t:TypeId}{z:Value}{sz by':Nat}(ht:prog.underlying t=some (.slice e))(hi:(prog.info? e).map (fun i=>(i.zero,i.size,i.bytes))=some (some z,sz,by'))(hzs:z.cells.size=sz)(hsz:0<sz){p:Option Addr}{n q:Nat}{xs:List Value}(h:V.ownsRow B e sz (.slice p n q) n xs)(hB:B<=V.heap.size)
 (cs:Array Value) (hcs:cs.size=sz) (h1:∀u∈cs.toList,u.oneCell'=true) (hn:n+1<=maxLen) (hb:(n+1)*by'<=140737488355328) (ty:TypeId):
 ∃g c' w',(Builtin.append_ #[t,t] ty #[.slice p n q,.slice (some ⟨V.heap.size,0,none⟩) 1 1]).run prog (V.alloc (.cells cs e))=.ok (.slice (some ⟨g,0,none⟩) (n+1) c') w'/\Below B V w'/\w'.ownsRow B e sz (.slice (some ⟨g,0,none⟩) (n+1) c') (n+1) (xs++cs.toList)/\∀b,b<V.heap.size->(Value.slice p n q).ownBlock≠some b->w'.heap[b]? =V.heap[b]? :=by
 obtain⟨i0,hi0,hz0,hz1,hz2⟩:=info_parts hi;have hb0:Below V.heap.size V (V.alloc (.cells cs e)):=A0 _ _;have hs:(V.alloc (.cells cs e)).heap.size=V.heap.size+1:=sM;have h0:=Au h hb0;obtain⟨g,cap,w3,hr,hown,hgrow,hat,hlt⟩:=run_append_lies (P:=prog) (V.alloc (.cells cs e)) t ty B e i0 _ sz by' ht hi0 hz0 hz1 hz2 hzs hsz (.slice p n q) n xs h0 ⟨V.heap.size,0,none⟩ 1 1 cs.toList (by simp[hcs])
  (World.news_of_block (cs:=cs) (t:=e) (fr:=(0,0)) (heap_alloc_new V _)) h1 dE hn hb oM _ rfl
 refine⟨g,cap,w3,hr,(hb0.mono hB).grown hgrow oM (fun q e=>(h0.lt q e).1),hown,fun b hb hne=>?_⟩;rw[hgrow.block b oM (Ne.symm hne)];exact hb0.block b hb
theorem SK.push{i:Ac}{p:Option Addr}{q:Nat}{u:Value}(h:SK B M v sv (.slice p s.opens.length q) s us)(k:Below v.heap.size v v')(hu:v'.ownsRow v.heap.size 4 1 u M (Dd M s.set))(hi:i.op=34\/i.op=36)(hn:s.opens.length<64)(ty:TypeId):
 ∃g c' w',(Builtin.append_ #[113,113] ty #[.slice p s.opens.length q,.slice (some ⟨v'.heap.size,0,none⟩) 1 1]).run prog (v'.alloc (.cells #[.int .i64 i.op,.int .i64 i.n,u] 117))=.ok (.slice (some ⟨g,0,none⟩) (s.opens.length+1) c') w'/\Below B v w'/\SK B M w' sv (.slice (some ⟨g,0,none⟩) (s.opens.length+1) c') (Af s i) (us++[u])/\∀b,b<v'.heap.size->(Value.slice p s.opens.length q).ownBlock≠some b->w'.heap[b]? =v'.heap[b]? :=by
 have h':=h.below k;have hone:u.oneCell'=true:=by
  obtain⟨p,c,rfl⟩:=AK hu;rfl
 obtain⟨g,c',w',hr,hb,ho,hk⟩:=DU (V:=v') underlying113 Sq rfl dE h'.opn h'.hB #[.int .i64 i.op,.int .i64 i.n,u] rfl (by intro x hx;simp at hx;rcases hx with rfl|rfl|rfl<;>first|rfl|exact hone) mL oM ty;have hs:(Af s i).set=s.set/\(Af s i).opens.length=s.opens.length+1:=by rw[MX hi];exact⟨rfl,rfl⟩
 have eo:=UZ (s:=s) hi;have hsz:=k.size;refine⟨g,c',w',hr,(k.mono h.hB).trans hb,⟨Nat.le_trans h'.hB hb.size,?_,?_,by rw[hs.2,List.length_append,h.len];rfl,fun j hj o ho'=>?_⟩,hk⟩
 ·rw[hs.1];exact Ad h'.set fun b hbb=>hk b (h'.set.lt b hbb).2 (fun e=>Gk h'.opn h'.set Hv b e hbb)
 ·rw[hs.2,eo,LM _ _ (by rw[Ja];exact h.len.symm)];exact ho
 ·rw[eo]at ho';by_cases hlt:j<us.length
  ·rw[List.getElem?_append_left (by rw[Ja,←h.len];exact hlt)]at ho';obtain⟨a1,a2⟩:=h'.each j hlt o ho';rw[List.getElem_append_left hlt];exact⟨Ad a1 fun b hbb=>hk b (a1.lt b hbb).2 (fun e=>Gk h'.opn a1 Hv b e hbb),a2⟩
  ·have hj':j=us.length:=by simp at hj;omega
   subst hj';rw[List.getElem?_append_right (by rw[Ja,h.len];exact Nat.le_refl _)]at ho';have e0:us.length-(KG s).length=0:=by rw[Ja,h.len];omega
   rw[e0]at ho';simp at ho';subst ho';have e1:(us++[u])[us.length]'hj=u:=sM;rw[e1];refine⟨Bu (Ad hu fun b hbb=>hk b (hu.lt b hbb).2 (fun e=>?_)) h.hB,fun b hbb e=>?_⟩
   ·exact Gk h'.opn hu Hv b e hbb
   ·have a1:=(hu.lt b e).1;have a2:=(h.set.lt b hbb).2;omega
theorem SK.pop{p:Option Addr}{q n:Nat}(h:SK B M v sv (.slice p s.opens.length q) s us)(ok:DQ n s)(h0:0<s.opens.length)(hl:Aj s=true):SK B M v sv (.slice p (s.opens.length-1) q) (AG s) (us.take (s.opens.length-1)):=by
 refine⟨h.hB,by rw[PA hl];exact h.set,?_,by rw[Ew,List.length_take,h.len];omega,fun k hk o ho=>?_⟩
 ·rw[Ew,Gi ok h0,←Ib];exact DF h.opn oM
 ·rw[Gi ok h0]at ho;have hk':k<us.length:=by simp at hk;omega
  rw[List.getElem?_take]at ho;split at ho
  ·obtain⟨a1,a2⟩:=h.each k hk' o ho;simp only[List.getElem_take];exact⟨a1,a2⟩
  ·simp at ho
theorem SK.back{p:Option Addr}{q n:Nat}{u:Value}{o:Ob}(h:SK B M v sv (.slice p s.opens.length q) s us)(ok:DQ n s)(h0:0<s.opens.length)(hl:Aj s=false)(k:Below v.heap.size v v')(ho:(KG s)[s.opens.length-1]? =some o)(hu:v'.ownsRow v.heap.size 4 1 u M (Dd M o.set)):
 SK B M v' u (.slice p (s.opens.length-1) q) (AG s) (us.take (s.opens.length-1)):=by
 refine⟨Nat.le_trans h.hB k.size,by rw[Su hl ho h0];exact Bu hu h.hB,?_,by rw[Ew,List.length_take,h.len];omega,fun j hj x hx=>?_⟩
 ·rw[Ew,Gi ok h0,←Ib];exact Au (DF h.opn oM) k
 ·rw[Gi ok h0]at hx;have hk':j<us.length:=by simp at hj;omega
  rw[List.getElem?_take]at hx;split at hx
  ·obtain⟨a1,a2⟩:=h.each j hk' x hx;simp only[List.getElem_take];refine⟨Au a1 k,fun b hb e=>?_⟩;have b1:=(hu.lt b hb).1;have b2:=(a1.lt b e).2;omega
  ·simp at hx
theorem SK.last{g q:Nat}(h:SK B M v sv (.slice (some ⟨g,0,none⟩) s.opens.length q) s us)(h0:0<s.opens.length):∃ (X:List Nat) (u:Value),(KG s)[s.opens.length-1]? =some ⟨if Aj s then 36 else 34,BV s,X⟩/\v.ownsRow B 4 1 u M (Dd M X)/\v.cell? ⟨g,(s.opens.length-1)*3,none⟩=some (.int .i64 (if Aj s then 36 else 34))/\v.cell? ⟨g,(s.opens.length-1)*3+1,none⟩=some (.int .i64 (BV s))/\v.cell? ⟨g,(s.opens.length-1)*3+2,none⟩=some u:=by
 obtain⟨X,hX⟩:=UY h0;have hu:s.opens.length-1<us.length:=by rw[h.len];omega
 obtain⟨a1,a2⟩:=h.each _ hu _ hX;have cl:=fun(j:Nat) (hj:j<3)=>QZ j hj hX (List.getElem?_eq_getElem hu);have ca:=fun(j:Nat) (hj:j<3)=>h.opn.cellAt ((s.opens.length-1)*3+j) oM;refine⟨X,_,hX,a1,?_,?_,?_⟩
 ·have:=ca 0 dE;rw[cl 0 dE]at this;exact this
 ·have:=ca 1 dE;rw[cl 1 dE]at this;exact this
 ·have:=ca 2 dE;rw[cl 2 dE]at this;exact this
theorem SK.start(w:World)(B:Nat)(h:B<=w.heap.size){sv:Value}(hs:w.ownsRow B 4 1 sv M (Dd M [])):SK B M w sv (.slice none 0 0) ⟨[],[]⟩ []:=
 ⟨h,hs,World.ownsRow_nil _ _ _ 3,rfl,fun k hk=>by simp at hk⟩
end
theorem Wo(M:Nat)(X:List Nat):∀u∈Dd M X,u.oneCell'=true:=by
 intro u hu;unfold Dd at hu;simp only[List.mem_map]at hu;obtain⟨j,-,rfl⟩:=hu;rfl
theorem RS{t e:TypeId}{z:Value}{sz by':Nat}(ht:prog.underlying t=some (.slice e))(hi:(prog.info? e).map (fun i=>(i.zero,i.size,i.bytes))=some (some z,sz,by'))(p:Option Addr)(n c:Nat)(x:Option Addr)(d:Nat)(hn:n<=c)(ty:TypeId)(w:World):(Builtin.append_ #[t,t] ty #[.slice p n c,.slice x 0 d]).run prog w=.ok (.slice p n c) w:=by
 obtain⟨i0,hi0,hz0,hz1,hz2⟩:=info_parts hi;have h1:¬c<n:=oM;cases x with
 |none=>cases p<;>simp[Builtin.append_,run_underlying ht,sizeOf,typeInfo,hi0,Builtin.lenOf,Builtin.firstCells,storeCells,loadCells,loadCellsFrom,hn,h1]
 |some a=>cases p<;>simp[Builtin.append_,run_underlying ht,sizeOf,typeInfo,hi0,Builtin.lenOf,Builtin.firstCells,storeCells,loadCells,loadCellsFrom,hn,h1]
theorem IG{B M:Nat}{X:List Nat}(v:Value)(hM:M<=16384)(w:World)(h:w.ownsRow B 4 1 v M (Dd M X)):
 Calls prog 61 #[v] w fun e w'=>∃u,e=.returned u/\w'.ownsRow w.heap.size 4 1 u M (Dd M X)/\Below w.heap.size w w':=by
 obtain⟨p,q,rfl⟩:=AK h;have key:∃u w',(Builtin.append_ #[52,52] 52 #[.slice none 0 0,.slice p M q]).run prog w=.ok u w'/\w'.ownsRow w.heap.size 4 1 u M (Dd M X)/\Below w.heap.size w w':=by
  by_cases h0:M=0
  ·subst h0;refine⟨.slice none 0 0,w,RS underlying52 Gf none 0 0 p q (Nat.le_refl _) _ _,?_,Be _⟩;have:Dd 0 X=[]:=by simp[Dd]
   rw[this];exact World.ownsRow_nil _ _ _ 1
  ·obtain⟨g,c,e,hl,hg⟩:=h.form oM;simp only[Value.slice.injEq]at e;obtain⟨rfl,-,rfl⟩:=e;obtain⟨i0,hi0,hz0,hz1,hz2⟩:=info_parts Gf;obtain⟨g',cap,w',hr,hown,hgrow,hat,hlt⟩:=run_append_lies (P:=prog) w 52 52 w.heap.size 4 i0 _ 1 1 underlying52 hi0 hz0 hz1 hz2 rfl dE (.slice none 0 0) 0 [] (World.ownsRow_nil _ _ _ 1) ⟨g,0,none⟩ M q (Dd M X) Zhm
    (fun j u hu=>by
     have hj:j<M:=by have:=(List.getElem?_eq_some_iff.1 hu).1;rw[Kb]at this;exact this
     have e:=h.cellAt j oM;have e2:(⟨g,0,none⟩:Addr).add j=⟨g,j,none⟩:=by simp[Addr.add];omega
     rw[e2,e,hu]) (Wo M X) oM mL oM (Nat.le_refl _) _ rfl
   simp only[Nat.zero_add,List.nil_append]at hr hown;exact⟨_,w',hr,hown,(Below.refl _ _).grown hgrow (Nat.le_refl _) (fun k e=>by simp[Value.ownBlock]at e)⟩
 obtain⟨u,w',hr,ho,hb⟩:=key;have HR:Hid ((Builtin.append_ #[52,52] 52 #[.slice none 0 0,.slice p M q]).run prog w=.ok u w'):=hr;have HO:Hid (w'.ownsRow w.heap.size 4 1 u M (Dd M X)/\Below w.heap.size w w'):=⟨ho,hb⟩
 clear h hr ho hb;go_enter func61,ntmps61;go_wp2_with(at_builtin;refine An rF _ _ _ rF _ _ _ rF rF HR.out ?_);go_ret;exact⟨u,rfl,HO.out.1,HO.out.2⟩
theorem Fk{P:Program}{w w':World}{o:Oper}{a:Act}{K:Act->World->Prop}{Q:Exit->Act->World->Prop}(s x:Operand)(t:TypeId)
 (ho:o.op=.call {callee:=.builtin .append,args:=#[s,x],argTypes:=#[t,t]}) (v v2 v':Value) (hs:a.eval s=v) (hx:a.eval x=v2) (hr:(Builtin.append_ #[t,t] o.type #[v,v2]).run P w=.ok v' w')
 (h:K (a.put o.dst v') w') (y':Bool) (hy:y'=true):if y'=true then Oper.wp P o a w K Q else K (a.put o.dst undef) w:=by
 rw[if_pos hy];exact Zeh
end Go.Proofs.YtcdpmgldkibfiaaGreat
