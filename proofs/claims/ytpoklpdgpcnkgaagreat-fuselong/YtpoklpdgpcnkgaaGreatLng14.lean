import Derived.Test.YtpoklpdgpcnkgaaGreatLng1
import Derived.Test.YtpoklpdgpcnkgaaGreatLng11
import Derived.Test.YtpoklpdgpcnkgaaGreatLng12
import Derived.Test.YtpoklpdgpcnkgaaGreatLng10
import Derived.Test.YtpoklpdgpcnkgaaGreatLng9
namespace Go.Proofs.YtpoklpdgpcnkgaaGreat
open Go.RowKit Go.Proofs.Tryz
set_option linter.all false
set_option maxRecDepth 100000
set_option maxHeartbeats 16000000
theorem ZI(v0 v1 v2 v3:Value)(c:Cd)(co:Bb c)(hT:Aj c=true)(op D A B E n bt La Lb Lc Ld Le:Int)(a b cc d e:UInt8)
 (HROW:Hid (∀w,Calls prog 53 #[.int .i64 op] w fun x w'=>x=.returned (.tuple #[.string ⟨#[a,b,cc,d,e]⟩,.bool true])/\w'=w))
 (HCAN:Hid (∀w,Calls prog 70 #[.int .u32 bt] w fun e w'=>e=.returned (.bool true)/\Below w.heap.size w w'))
 (ix0:∀w,(Instr.index 9 (.string ⟨#[a,b,cc,d,e]⟩) (.int .i64 0)).run prog w=.ok (.int .u8 La) w)
 (ix1:∀w,(Instr.index 9 (.string ⟨#[a,b,cc,d,e]⟩) (.int .i64 1)).run prog w=.ok (.int .u8 Lb) w)
 (ix2:∀w,(Instr.index 9 (.string ⟨#[a,b,cc,d,e]⟩) (.int .i64 2)).run prog w=.ok (.int .u8 Lc) w)
 (ix3:∀w,(Instr.index 9 (.string ⟨#[a,b,cc,d,e]⟩) (.int .i64 3)).run prog w=.ok (.int .u8 Ld) w)
 (VU:∀w,(Instr.index 9 (.string ⟨#[a,b,cc,d,e]⟩) (.int .i64 4)).run prog w=.ok (.int .u8 Le) w)
 (oa:CA La) (ob:CA Lb) (oc:CA Lc) (od:CA Ld) (oT:Le=112->La=118\/(La=45/\Lb=118)) (o1:(op==1)=false) (o2:(op != 1)=true) (o3:(bt==0)=true) (o4:(bt != 0)=false) (hz0:La=45) (oA:Lb=45->Le=45\/Le=113) (oB:Lb≠45->Le=45\/Le=112\/Le=115)
 (w:World) (hv:Dk w v0 v1 v2 v3 c):
 Calls prog 71 #[.agg #[v0,v1,v2,v3],.agg #[.int .i64 op,.int .i64 D,.int .i64 A,.int .i64 B,.int .i64 E,.int .i64 n,.int .u32 bt]] w fun e w'=>e=.returned (.bool (Ay c.regs La D ⟨0,0⟩&&(Ay c.regs Lb A (dR c.regs La D)&&(Ay c.regs Lc B (dR c.regs La D)&&(Ay c.regs Ld E (dR c.regs La D)&&DX c Le n (tR c.regs La Lb D A))))))/\Below w.heap.size w w':=by
 have KO:∀ (l n:Int) (d:Ty),CA l->∀v,Below w.heap.size w v->Calls prog 95 #[.agg #[v0,v1,v2,v3],.int .u8 l,.int .i64 n,.agg #[.int .i64 d.kind,.int .i64 d.par]] v fun e w'=>e=.returned (.bool (Ay c.regs l n d))/\Below v.heap.size v w':=fun l n d hl v hb=>G1 v0 v1 v2 v3 c co l n d hl v (hv.below hb);have HT0:Hid (TW w v0 v1 v2 v3 (w.heap.size+1) op D A B E n bt ((w.alloc (.cells #[v0,v1,v2,v3] 27)).alloc (.cells #[.int .i64 op,.int .i64 D,.int .i64 A,.int .i64 B,.int .i64 E,.int .i64 n,.int .u32 bt] 45))):=TW.start w v0 v1 v2 v3 op D A B E n bt;obtain⟨p0,q0,rfl,-⟩:=id hv.sign;obtain⟨p1,q1,rfl,hr1⟩:=id hv.regs;obtain⟨p2,q2,rfl,-⟩:=id hv.slots;have hREG:∀x:Int,Az x c.regs.length=true->∃ (k lb lo:Nat),x=(k:Int)/\k<c.regs.length/\p1=some ⟨lb,lo,none⟩/\w.cell? ⟨lb,lo+k*2,none⟩=some (.int .i64 (A5 c.regs x).kind)/\w.cell? ⟨lb,lo+k*2+1,none⟩=some (.int .i64 (A5 c.regs x).par):=by
  exact Zci
 have HREG:Hid (∀x:Int,Az x c.regs.length=true->∃ (k lb lo:Nat),x=(k:Int)/\k<c.regs.length/\p1=some ⟨lb,lo,none⟩/\w.cell? ⟨lb,lo+k*2,none⟩=some (.int .i64 (A5 c.regs x).kind)/\w.cell? ⟨lb,lo+k*2+1,none⟩=some (.int .i64 (A5 c.regs x).par)):=hREG;have HCV:Hid (Dk w (.slice p0 c.sign.length q0) (.slice p1 c.regs.length q1) (.slice p2 c.slots.length q2) v3 c):=hv;have HCO:Hid (Bb c):=co;have hB0:=co.signL;have hB1:=co.regsL;have hB2:=co.slotsL;have hTy:∀x:Int,Az x c.regs.length=true->He 118 (A5 c.regs x) ⟨0,0⟩=true->Az (A5 c.regs x).par c.sign.length=true:=fun x hx hk=>by
  exact Zdc
 obtain⟨n0,hn0⟩:=gA (c.sign.length)
 obtain⟨n1,hn1⟩:=gA (c.regs.length)
 obtain⟨n2,hn2⟩:=gA (c.slots.length)
 have HN0:Hid (c.sign.length=n0):=hn0;have HN1:Hid (c.regs.length=n1):=hn1;have HN2:Hid (c.slots.length=n2):=hn2;rw[hn0]at hB0;rw[hn1]at hB1;rw[hn2]at hB2;rw[hn0,hn1,hn2]at HCV KO HT0 |-;clear hREG hv hr1 hn0 hn1 hn2 co;have HTY:Hid (∀x:Int,Az x c.regs.length=true->He 118 (A5 c.regs x) ⟨0,0⟩=true->Az (A5 c.regs x).par c.sign.length=true):=hTy;clear hTy hT;have hKO0:=fun d=>KO La D d oa;have hKOA:=fun d=>KO Lb A d ob;have hKOB:=fun d=>KO Lc B d oc;have hKOC:=fun d=>KO Ld E d od;clear KO;have hPP0:Le=112->La=118\/(La=45/\Lb=118):=oT;clear oT oc od;obtain⟨RES,hRES⟩:∃R,(Ay c.regs La D ⟨0,0⟩&&(Ay c.regs Lb A (dR c.regs La D)&&(Ay c.regs Lc B (dR c.regs La D)&&(Ay c.regs Ld E (dR c.regs La D)&&DX c Le n (tR c.regs La Lb D A)))))=R:=⟨_,rfl⟩
 rw[hRES];subst hz0;by_cases hD:D=0
 .subst hD;rw[Fw,show((0:Int)==0)=true from rfl,Bool.true_and,show dR c.regs 45 0=⟨0,0⟩from rfl]at hRES;have hXT:Ay c.regs Lb A ⟨0,0⟩=true->Lb≠45->Az A c.regs.length=true:=fun h hl=>by
   rw[Cm hl]at h;simp only[Bool.and_eq_true]at h;exact h.1
  have hXP:Ay c.regs Lb A ⟨0,0⟩=true->Lb=118->He 118 (A5 c.regs A) ⟨0,0⟩=true:=fun h hl=>by
   exact Zev
  obtain⟨XA,hXA⟩:∃X,Ay c.regs Lb A ⟨0,0⟩=X:=⟨_,rfl⟩
  obtain⟨XB,hXB⟩:∃X,Ay c.regs Lc B ⟨0,0⟩=X:=⟨_,rfl⟩
  obtain⟨XC,hXC⟩:∃X,Ay c.regs Ld E ⟨0,0⟩=X:=⟨_,rfl⟩
  rw[hXA]at hXT hXP;rw[hXA,hXB,hXC]at hRES;have HKA:Hid _:=hKOA ⟨0,0⟩;have HKB:Hid _:=hKOB ⟨0,0⟩;have HKC:Hid _:=hKOC ⟨0,0⟩;rw[hXA]at HKA;rw[hXB]at HKB;rw[hXC]at HKC;simp only at HKA HKB HKC;have HXT:Hid (XA=true->Lb≠45->Az A c.regs.length=true):=hXT;have HXP:Hid (XA=true->Lb=118->He 118 (A5 c.regs A) ⟨0,0⟩=true):=hXP;have HRES:Hid ((XA&&(XB&&(XC&&DX c Le n (tR c.regs 45 Lb 0 A))))=RES):=hRES;clear hKO0 hKOA hKOB hKOC hXA hXB hXC hXT hXP hRES;go_enter func71,ntmps71;go_wp2_with(first
   |(go_at_call 53;refine(HROW.out _).mono ?_;rintro e w1 ⟨rfl,rfl⟩)
   |(go_at_call 70;refine(HCAN.out _).mono ?_;rintro e w2 ⟨rfl,hb2⟩;have HT2:Hid (TW w (.slice p0 n0 q0) (.slice p1 n1 q1) (.slice p2 n2 q2) v3 (w.heap.size+1) op 0 A B E n bt (w2.alloc (.cells #[.int .i64 0,.int .i64 0] 47))):=(HT0.next hb2).next (A0 _ _);obtain⟨b1,c0,c1,c2,c3,i0,i1,i2,i3,i4,i5,i6⟩:=HT2.out;have HS2:Hid (w.heap.size+1<w2.heap.size):=A6 (HT0.next hb2).i0;clear hb2))
  have HD:Hid ((w2.alloc (.cells #[.int .i64 0,.int .i64 0] 47)).cell? ⟨w2.heap.size,0,none⟩=some (.int .i64 0)/\(w2.alloc (.cells #[.int .i64 0,.int .i64 0] 47)).cell? ⟨w2.heap.size,1,none⟩=some (.int .i64 0)):=⟨sG,sG⟩
  have HTD:Hid _:=HT2.out;obtain⟨Z,hZ⟩:=gA (w2.heap.size)
  obtain⟨Wd,hWd⟩:∃W,w2.alloc (.cells #[.int .i64 0,.int .i64 0] 47)=W:=⟨_,rfl⟩
  rw[hZ]at HD;rw[hWd]at HD HTD |-;try rw[hZ]
  clear hZ hWd HT2 b1 c0 c1 c2 c3 i0 i1 i2 i3 i4 i5 i6 HT0 HROW HCAN;have HCD:Hid (∀v,Below Wd.heap.size Wd v->v.cell? ⟨w.heap.size,0,none⟩=some (.slice p0 n0 q0)/\v.cell? ⟨w.heap.size,1,none⟩=some (.slice p1 n1 q1)/\v.cell? ⟨w.heap.size,2,none⟩=some (.slice p2 n2 q2)/\v.cell? ⟨w.heap.size,3,none⟩=some v3/\v.cell? ⟨w.heap.size+1,1,none⟩=some (.int .i64 0)/\v.cell? ⟨w.heap.size+1,2,none⟩=some (.int .i64 A)/\v.cell? ⟨w.heap.size+1,3,none⟩=some (.int .i64 B)/\v.cell? ⟨w.heap.size+1,4,none⟩=some (.int .i64 E)/\v.cell? ⟨w.heap.size+1,5,none⟩=some (.int .i64 n)/\v.cell? ⟨Z,0,none⟩=some (.int .i64 0)/\v.cell? ⟨Z,1,none⟩=some (.int .i64 0)):=fun v hb=>⟨kc hb HTD.c0,kc hb HTD.c1,kc hb HTD.c2,kc hb HTD.c3,kc hb HTD.i1,kc hb HTD.i2,kc hb HTD.i3,kc hb HTD.i4,kc hb HTD.i5,kc hb HD.1,kc hb HD.2⟩
  obtain⟨c0,c1,c2,c3,i1,i2,i3,i4,i5,d0,d1⟩:=HCD.out Wd (BT _);cases XA
  .have HQF:Hid (false=RES):=HRES.out;go_wp2;refine rG (fun v=>v.cell? ⟨w.heap.size,0,none⟩=some (.slice p0 n0 q0)/\v.cell? ⟨w.heap.size,1,none⟩=some (.slice p1 n1 q1)/\v.cell? ⟨w.heap.size,2,none⟩=some (.slice p2 n2 q2)/\v.cell? ⟨w.heap.size,3,none⟩=some v3/\v.cell? ⟨w.heap.size+1,1,none⟩=some (.int .i64 0)/\v.cell? ⟨w.heap.size+1,2,none⟩=some (.int .i64 A)/\v.cell? ⟨w.heap.size+1,3,none⟩=some (.int .i64 B)/\v.cell? ⟨w.heap.size+1,4,none⟩=some (.int .i64 E)/\v.cell? ⟨w.heap.size+1,5,none⟩=some (.int .i64 n)/\v.cell? ⟨Z,0,none⟩=some (.int .i64 0)/\v.cell? ⟨Z,1,none⟩=some (.int .i64 0)) fun yH=>?_;refine Tf 0 1 2 3 4 5 ?_;clear yH;refine AJ 6 fun K hK=>?_;go_simp;(go_at_call 95;(with_reducible refine(HKA.out _ (bel HTD.out.bel (A7 _))).mono ?_);rintro e w3 ⟨rfl,hb9⟩;have HB3:Hid (Below Wd.heap.size Wd w3):=bel (A7 _) hb9;clear hb9;obtain⟨c0,c1,c2,c3,i1,i2,i3,i4,i5,d0,d1⟩:=HCD.out w3 HB3.out);try(go_wp2_with fail)
   refine AF hK fun yH=>?_;clear hK K;refine Tb 7 8 ?_;refine Kd 9 10 11 12 ?_;refine Kd 13 14 15 16 ?_;refine Tb 17 18 ?_;refine Kd 19 20 21 22 ?_;refine Kd 23 24 25 26 ?_;refine BU 27 ?_;refine wpAnyH_done kR ?_ _;go_wp2;go_ret;exact⟨Ab HQF.out,bel HTD.bel HB3.out⟩
  cases XB
  .have HQF:Hid (false=RES):=HRES.out;go_wp2;refine rG (fun v=>v.cell? ⟨w.heap.size,0,none⟩=some (.slice p0 n0 q0)/\v.cell? ⟨w.heap.size,1,none⟩=some (.slice p1 n1 q1)/\v.cell? ⟨w.heap.size,2,none⟩=some (.slice p2 n2 q2)/\v.cell? ⟨w.heap.size,3,none⟩=some v3/\v.cell? ⟨w.heap.size+1,1,none⟩=some (.int .i64 0)/\v.cell? ⟨w.heap.size+1,2,none⟩=some (.int .i64 A)/\v.cell? ⟨w.heap.size+1,3,none⟩=some (.int .i64 B)/\v.cell? ⟨w.heap.size+1,4,none⟩=some (.int .i64 E)/\v.cell? ⟨w.heap.size+1,5,none⟩=some (.int .i64 n)/\v.cell? ⟨Z,0,none⟩=some (.int .i64 0)/\v.cell? ⟨Z,1,none⟩=some (.int .i64 0)) fun yH=>?_;exact Zat
  cases XC
  .have HQF:Hid (false=RES):=HRES.out;go_wp2;refine rG (fun v=>v.cell? ⟨w.heap.size,0,none⟩=some (.slice p0 n0 q0)/\v.cell? ⟨w.heap.size,1,none⟩=some (.slice p1 n1 q1)/\v.cell? ⟨w.heap.size,2,none⟩=some (.slice p2 n2 q2)/\v.cell? ⟨w.heap.size,3,none⟩=some v3/\v.cell? ⟨w.heap.size+1,1,none⟩=some (.int .i64 0)/\v.cell? ⟨w.heap.size+1,2,none⟩=some (.int .i64 A)/\v.cell? ⟨w.heap.size+1,3,none⟩=some (.int .i64 B)/\v.cell? ⟨w.heap.size+1,4,none⟩=some (.int .i64 E)/\v.cell? ⟨w.heap.size+1,5,none⟩=some (.int .i64 n)/\v.cell? ⟨Z,0,none⟩=some (.int .i64 0)/\v.cell? ⟨Z,1,none⟩=some (.int .i64 0)) fun yH=>?_;exact Zam
  go_wp2;refine rG (fun v=>v.cell? ⟨w.heap.size,0,none⟩=some (.slice p0 n0 q0)/\v.cell? ⟨w.heap.size,1,none⟩=some (.slice p1 n1 q1)/\v.cell? ⟨w.heap.size,2,none⟩=some (.slice p2 n2 q2)/\v.cell? ⟨w.heap.size,3,none⟩=some v3/\v.cell? ⟨w.heap.size+1,1,none⟩=some (.int .i64 0)/\v.cell? ⟨w.heap.size+1,2,none⟩=some (.int .i64 A)/\v.cell? ⟨w.heap.size+1,3,none⟩=some (.int .i64 B)/\v.cell? ⟨w.heap.size+1,4,none⟩=some (.int .i64 E)/\v.cell? ⟨w.heap.size+1,5,none⟩=some (.int .i64 n)/\v.cell? ⟨Z,0,none⟩=some (.int .i64 0)/\v.cell? ⟨Z,1,none⟩=some (.int .i64 0)) fun yH=>?_;refine Tf 0 1 2 3 4 5 ?_;clear yH;refine AJ 6 fun K hK=>?_;go_simp;(go_at_call 95;(with_reducible refine(HKA.out _ (bel HTD.out.bel (A7 _))).mono ?_);rintro e w3 ⟨rfl,hb9⟩;have HB3:Hid (Below Wd.heap.size Wd w3):=bel (A7 _) hb9;clear hb9;obtain⟨c0,c1,c2,c3,i1,i2,i3,i4,i5,d0,d1⟩:=HCD.out w3 HB3.out);try(go_wp2_with fail)
  refine AF hK fun yH=>?_;clear hK K;refine Tf 7 8 9 10 11 12 ?_;refine Tb 13 14 ?_;clear yH;refine AJ 15 fun K hK=>?_;go_simp;(go_at_call 95;(with_reducible refine(HKB.out _ (bel HTD.out.bel HB3.out)).mono ?_);rintro e w4 ⟨rfl,hb9⟩;have HB4:Hid (Below Wd.heap.size Wd w4):=bel HB3.out hb9;clear hb9;clear c0 c1 c2 c3 i1 i2 i3 i4 i5 d0 d1;obtain⟨c0,c1,c2,c3,i1,i2,i3,i4,i5,d0,d1⟩:=HCD.out w4 HB4.out);try(go_wp2_with fail)
  refine AF hK fun yH=>?_;clear hK K;refine Tf 16 17 18 19 20 21 ?_;refine Tc 22 23 24 ?_;clear yH;refine AJ 25 fun K hK=>?_;go_simp;(go_at_call 95;(with_reducible refine(HKC.out _ (bel HTD.out.bel HB4.out)).mono ?_);rintro e w5 ⟨rfl,hb9⟩;have HB5:Hid (Below Wd.heap.size Wd w5):=bel HB4.out hb9;clear hb9;clear c0 c1 c2 c3 i1 i2 i3 i4 i5 d0 d1;obtain⟨c0,c1,c2,c3,i1,i2,i3,i4,i5,d0,d1⟩:=HCD.out w5 HB5.out);try(go_wp2_with fail)
  refine AF hK fun yH=>?_;clear hK K;refine Tb 26 27 ?_;refine wpAnyH_done kR ?_ _;clear c0 c1 c2 c3 i1 i2 i3 i4 i5 d0 d1;have HT5:Hid (TW w (.slice p0 n0 q0) (.slice p1 n1 q1) (.slice p2 n2 q2) v3 (w.heap.size+1) op 0 A B E n bt w5):=HTD.next HB5.out;obtain⟨hb5,c0,c1,c2,c3,i0,i1,i2,i3,i4,i5,i6⟩:=HT5.out;obtain⟨-,-,-,-,-,-,-,-,-,d0,d1⟩:=HCD.out w5 HB5.out;have hs5:w5.heap.size≠w.heap.size+1/\w.heap.size<w5.heap.size:=⟨fun e=>by have:=A6 i0;simp only at this;omega,by have:=A6 c0;simp only at this;omega⟩
  have HAL:Hid (TW w (.slice p0 n0 q0) (.slice p1 n1 q1) (.slice p2 n2 q2) v3 (w.heap.size+1) op 0 A B E n bt (w5.alloc (.cells #[.int .i64 0,.int .i64 0] 47))):=HT5.next (A0 _ _);by_cases hlb:Lb=45
  .have oe:=oA hlb;subst hlb;have HRT:Hid (DX c Le n ⟨0,0⟩=RES):=HRES.out;clear c0 c1 c2 c3 i0 i1 i2 i3 i4 i5 i6;have t0:(w5.alloc (.cells #[.int .i64 0,.int .i64 0] 47)).cell? ⟨w5.heap.size,0,none⟩=some (.int .i64 0):=sG;have t1:(w5.alloc (.cells #[.int .i64 0,.int .i64 0] 47)).cell? ⟨w5.heap.size,1,none⟩=some (.int .i64 0):=sG;obtain⟨hbx,c0,c1,c2,c3,i0,i1,i2,i3,i4,i5,i6⟩:=HAL.out;clear d0 d1 hPP0 HXT HXP HRES oA oB;have hbt:=hbx;rcases oe with rfl|rfl
   .exact Zdm
   .have HQ:Hid (Az n c.sign.length=RES):=HRT.out;have hN0:=HN0.out;by_cases hn0:0<=n
    all_goals
     go_wp2;go_ret;refine⟨Ab ?_,hbt⟩;rw[<-HQ.out];unfold Az;rw[hN0];first|(simp[hn0];done)|(simp[hn0];omega)|(simp[hn0];intro h;omega)
  .have oe:=oB hlb;have hlb1:(Lb==45)=false:=by simpa using hlb
   have hlb2:(Lb != 45)=true:=by simpa using hlb
   obtain⟨ka,lb,lo,rfl,hka,rfl,ya0,ya1⟩:=HREG.out A (HXT.out fT hlb);have HRT0:Hid (DX c Le n (A5 c.regs (ka:Int))=RES):=by
    have h1:=HRES.out;have h2:tR c.regs 45 Lb 0 (ka:Int)=A5 c.regs (ka:Int):=if_pos ⟨rfl,hlb⟩;rw[h2]at h1;exact h1
   have HPP0:Hid (Le=112->Az (A5 c.regs (ka:Int)).par c.sign.length=true):=fun e=>by
    rcases hPP0 e with h|⟨-,h⟩
    .exact absurd h dE
    .exact HTY.out _ (HXT.out fT hlb) (HXP.out fT h)
   obtain⟨⟨tk,tp⟩,htt⟩:∃t:Ty,A5 c.regs (ka:Int)=t:=⟨_,rfl⟩
   rw[htt]at HRT0 HPP0 ya0 ya1;have HRT:Hid (DX c Le n ⟨tk,tp⟩=RES):=HRT0.out;have HPP:Hid (Le=112->Az tp c.sign.length=true):=HPP0.out;have ka0:(0:Int)<=(ka:Int):=oM;have ka1:(ka:Int)<(n1:Int):=by have:=HN1.out;omega
   clear c0 c1 c2 c3 i0 i1 i2 i3 i4 i5 i6;have hq5:=fun o=>HT5.next (A0 w5 o);have c0:=fun o=>(hq5 o).c0;have c1:=fun o=>(hq5 o).c1;have c2:=fun o=>(hq5 o).c2;have c3:=fun o=>(hq5 o).c3;have i2:=fun o=>(hq5 o).i2;have i5:=fun o=>(hq5 o).i5;have xa0:=fun o=>kc (hq5 o).bel ya0;have xa1:=fun o=>kc (hq5 o).bel ya1;have hbx:=(hq5 (.cells #[.int .i64 tk,.int .i64 tp] 47)).bel;have t0:(w5.alloc (.cells #[.int .i64 tk,.int .i64 tp] 47)).cell? ⟨w5.heap.size,0,none⟩=some (.int .i64 tk):=sG;have t1:(w5.alloc (.cells #[.int .i64 tk,.int .i64 tp] 47)).cell? ⟨w5.heap.size,1,none⟩=some (.int .i64 tp):=sG;clear d0 d1 hPP0 HXT HXP HRES oA oB hq5;have hbt:=hbx;rcases oe with rfl|rfl|rfl
   .exact Zdm
   .have HQ:Hid ((n==0||(n==1&&Do c.sign tp==2))=RES):=HRT.out;have HPA:Hid (∀v,Below w.heap.size w v->Calls prog 96 #[.agg #[.slice p0 n0 q0,.slice (some ⟨lb,lo,none⟩) n1 q1,.slice p2 n2 q2,v3],.int .i64 n,.int .i64 tp] v fun e w'=>e=.returned (.bool RES)/\Below v.heap.size v w'):=fun v hb=>by rw[<-HQ.out];exact Mz _ _ _ _ c HCO.out n tp (fun _=>HPP.out rfl) v (HCV.below hb)
    exact Zeh
   .have HQ:Hid ((Az n c.slots.length&&decide (Df c.slots n=⟨tk,tp⟩))=RES):=HRT.out;cases hpl:Az n c.slots.length
    .exact Zau
    .obtain⟨k,rfl,hkl⟩:=E4 hpl;obtain⟨lb9,lo9,ep,hc9⟩:=AZ.at (p:=p2) (n:=n2) (c:=q2) HCV.slots hkl;subst ep;have e9:Df c.slots (k:Int)=c.slots[k].ty:=by unfold Df;rw[Int.toNat_natCast,gB hkl];rfl
     have hq9:=HQ.out;rw[hpl,Bool.true_and,e9]at hq9;obtain⟨⟨⟨sk,sp⟩,sQ,sB,sI⟩,ht9⟩:∃t:Sl,c.slots[k]=t:=⟨_,rfl⟩
     rw[ht9]at hc9 hq9;have HQ9:Hid (decide ((⟨sk,sp⟩:Ty)=⟨tk,tp⟩)=RES):=hq9;have y0:w.cell? ⟨lb9,lo9+k*5,none⟩=some (.int .i64 sk):=hc9.at 0 rfl;have y1:w.cell? ⟨lb9,lo9+k*5+1,none⟩=some (.int .i64 sp):=hc9.at 1 rfl;have x0:=kc hbt y0;have x1:=kc hbt y1;have k0:(0:Int)<=(k:Int):=oM;have k1:(k:Int)<(n2:Int):=by have:=HN2.out;omega
     clear hc9 ht9 e9 hpl hq9 HQ;by_cases hks:sk=tk
     .obtain rfl:=hks;by_cases hps:sp=tp
      .exact Zbq
      .go_wp2;refine rG (fun v=>v.cell? ⟨w.heap.size,2,none⟩=some (.slice (some ⟨lb9,lo9,none⟩) n2 q2)/\v.cell? ⟨w.heap.size+1,5,none⟩=some (.int .i64 (k:Int))/\v.cell? ⟨lb9,lo9+k*5,none⟩=some (.int .i64 sk)/\v.cell? ⟨lb9,lo9+k*5+1,none⟩=some (.int .i64 sp)/\v.cell? ⟨w5.heap.size,0,none⟩=some (.int .i64 sk)/\v.cell? ⟨w5.heap.size,1,none⟩=some (.int .i64 tp)) fun yH=>?_;exact Zdo
     .go_wp2;refine rG (fun v=>v.cell? ⟨w.heap.size,2,none⟩=some (.slice (some ⟨lb9,lo9,none⟩) n2 q2)/\v.cell? ⟨w.heap.size+1,5,none⟩=some (.int .i64 (k:Int))/\v.cell? ⟨lb9,lo9+k*5,none⟩=some (.int .i64 sk)/\v.cell? ⟨lb9,lo9+k*5+1,none⟩=some (.int .i64 sp)/\v.cell? ⟨w5.heap.size,0,none⟩=some (.int .i64 tk)/\v.cell? ⟨w5.heap.size,1,none⟩=some (.int .i64 tp)) fun yH=>?_;exact Zdp
 .rw[Fw,show(D==0)=false by simpa using hD,Bool.false_and]at hRES;have hD1:(D==0)=false:=by simpa using hD
  have hD2:(D != 0)=true:=by simpa using hD
  have HRF:Hid (false=RES):=hRES;clear hRES;go_enter func71,ntmps71;go_wp2_with(first
   |(go_at_call 53;refine(HROW.out _).mono ?_;rintro e w1 ⟨rfl,rfl⟩)
   |(go_at_call 70;refine(HCAN.out _).mono ?_;rintro e w2 ⟨rfl,hb2⟩;have HT2:Hid (TW w (.slice p0 n0 q0) (.slice p1 n1 q1) (.slice p2 n2 q2) v3 (w.heap.size+1) op D A B E n bt (w2.alloc (.cells #[.int .i64 0,.int .i64 0] 47))):=(HT0.next hb2).next (A0 _ _);obtain⟨b1,c0,c1,c2,c3,i0,i1,i2,i3,i4,i5,i6⟩:=HT2.out;have HS2:Hid (w.heap.size+1<w2.heap.size):=A6 (HT0.next hb2).i0;clear hb2))
  go_ret;exact⟨Ab HRF.out,HT2.bel⟩
def Zs(o:Ob)(u:Value):List Value:=[.int .i64 o.op,.int .i64 o.par,u]
def Ht:List Ob->List Value->List Value
 |o::l,u::us=>Zs o u++Ht l us
 |_,_=>[]
theorem Ms(o:Ob)(u:Value):∀ {l:List Ob} {us:List Value},l.length=us.length->Ht (l++[o]) (us++[u])=Ht l us++Zs o u
 |[],[],_=>by simp[Ht]
 |[],_::_,h=>by simp at h
 |_::_,[],h=>by simp at h
 |a::l,b::us,h=>by simp only[List.cons_append,Ht];rw[Ms o u Yd,List.append_assoc]
theorem IU:∀ (m:Nat) (l:List Ob) (us:List Value),(Ht l us).take (m*3)=Ht (l.take m) (us.take m)
 |0,l,us=>by simp[Ht]
 |m+1,[],us=>by simp[Ht]
 |m+1,a::l,[]=>by simp[Ht]
 |m+1,a::l,b::us=>by
  simp only[List.take_succ_cons,Ht];rw[show(m+1)*3=(Zs a b).length+m*3 by simp[Zs];omega,List.take_length_add_append,IU m l us]
theorem RX(j:Nat)(hj:j<3):∀ {l:List Ob} {us:List Value} {k:Nat} {o:Ob} {u:Value},l[k]? =some o->us[k]? =some u->(Ht l us)[k*3+j]? =(Zs o u)[j]?
 |[],us,k,o,u,h,_=>by simp at h
 |a::l,[],k,o,u,_,h=>by simp at h
 |a::l,b::us,0,o,u,h,h'=>by
  simp at h h';subst h h';simp only[Ht];rw[Nat.zero_mul,Nat.zero_add,List.getElem?_append_left (by simpa[Zs]using hj)]
 |a::l,b::us,k+1,o,u,h,h'=>by
  simp only[Ht];rw[List.getElem?_append_right (by simp[Zs];omega)];have e:(k+1)*3+j-(Zs a b).length=k*3+j:=by simp[Zs];omega
  rw[e];exact RX j hj Yd (by simpa using h')
theorem Tx:(prog.info? 107).map (fun i=>(i.zero,i.size,i.bytes))=some (some (.agg #[.int .i64 0,.int .i64 0,.slice none 0 0]),3,40):=kR
structure SK(B M:Nat)(v:World)(sv ov:Value)(s:Wk)(us:List Value):Prop where
 hB:B<=v.heap.size
 set:v.ownsRow B 4 1 sv M (DP M s.set)
 opn:v.ownsRow B 107 3 ov s.opens.length (Ht (LO s) us)
 len:us.length=s.opens.length
 each:∀k (h:k<us.length) o,(LO s)[k]? =some o->v.ownsRow B 4 1 us[k] M (DP M o.set)/\∀b,sv.ownBlock=some b->us[k].ownBlock≠some b
section
variable {B M : Nat} {v v' : World} {sv ov : Value} {s : Wk} {us : List Value}
theorem SK.below(h:SK B M v sv ov s us)(k:Below v.heap.size v v'):SK B M v' sv ov s us:=
 ⟨gH h.hB k.size,As h.set k,As h.opn k,h.len,fun j hj o ho=>⟨As (h.each j hj o ho).1 k,(h.each j hj o ho).2⟩⟩
theorem ID:107≠4:=dE
theorem SK.ins{i:Aa}{g q n:Nat}(h:SK B M v (.slice (some ⟨g,0,none⟩) M q) ov s us)(ok:Eu n s)(h1:i.op≠34)(h2:i.op≠35)(h3:i.op≠36)(h4:i.op≠37)(hd:(A3 i.op).d≠0)(hl:i.d.toNat<M):
 SK B M (v.setCell ⟨g,i.d.toNat,none⟩ (.bool true)) (.slice (some ⟨g,0,none⟩) M q) ov (Ad s i) us:=by
 have e1:=Wm (i:=i) ok h1 h2 h3 h4;have e2:(Ad s i).set=JD s.set i/\(Ad s i).opens=s.opens:=by rw[H5 h1 h2 h3 h4];exact⟨rfl,rfl⟩
 have hne:∀b,b≠g->(v.setCell ⟨g,i.d.toNat,none⟩ (.bool true)).heap[b]? =v.heap[b]? :=fun b hb=>gE hb;refine⟨by have:=h.hB;simp;omega,?_,?_,by rw[e2.2];exact h.len,fun k hk o ho=>?_⟩
 .rw[e2.1,<-XE hd hl];exact(h.set.stored _ _).1
 .rw[e1,e2.2];exact Ag h.opn fun b hb=>hne b fun e=>GY h.opn h.set ID b hb (by rw[e];rfl)
 .rw[e1]at ho;obtain⟨a1,a2⟩:=h.each k hk o ho;exact⟨Ag a1 fun b hb=>hne b fun e=>a2 g rfl (by rw[<-e];exact hb),a2⟩
theorem SK.keep{i:Aa}{n:Nat}(h:SK B M v sv ov s us)(ok:Eu n s)(h1:i.op≠34)(h2:i.op≠35)(h3:i.op≠36)(h4:i.op≠37)(hd:(A3 i.op).d=0):SK B M v sv ov (Ad s i) us:=by
 have e:Ad s i=s:=by rw[H5 h1 h2 h3 h4,Uo (M:=0) hd]
 rw[e];exact h
theorem F5{B:Nat}{V:World}{e t:TypeId}{z:Value}{sz by':Nat}(ht:prog.underlying t=some (.slice e))(hi:(prog.info? e).map (fun i=>(i.zero,i.size,i.bytes))=some (some z,sz,by'))(hzs:z.cells.size=sz)(hsz:0<sz){p:Option Addr}{n q:Nat}{xs:List Value}(h:V.ownsRow B e sz (.slice p n q) n xs)(hB:B<=V.heap.size)
 (cs:Array Value) (hcs:cs.size=sz) (h1:∀u∈cs.toList,u.oneCell'=true) (hn:n+1<=maxLen) (hb:(n+1)*by'<=140737488355328) (ty:TypeId):
 ∃g c' w',(Builtin.append_ #[t,t] ty #[.slice p n q,.slice (some ⟨V.heap.size,0,none⟩) 1 1]).run prog (V.alloc (.cells cs e))=.ok (.slice (some ⟨g,0,none⟩) (n+1) c') w'/\Below B V w'/\w'.ownsRow B e sz (.slice (some ⟨g,0,none⟩) (n+1) c') (n+1) (xs++cs.toList)/\∀b,b<V.heap.size->(Value.slice p n q).ownBlock≠some b->w'.heap[b]? =V.heap[b]? :=by
 obtain⟨i0,hi0,hz0,hz1,hz2⟩:=info_parts hi;have hb0:Below V.heap.size V (V.alloc (.cells cs e)):=A0 _ _;have hs:(V.alloc (.cells cs e)).heap.size=V.heap.size+1:=sM;have h0:=As h hb0;obtain⟨g,cap,w3,hr,hown,hgrow,hat,hlt⟩:=run_append_lies (P:=prog) (V.alloc (.cells cs e)) t ty B e i0 _ sz by' ht hi0 hz0 hz1 hz2 hzs hsz (.slice p n q) n xs h0 ⟨V.heap.size,0,none⟩ 1 1 cs.toList (by simp[hcs])
  (World.news_of_block (cs:=cs) (t:=e) (fr:=(0,0)) (heap_alloc_new V _)) h1 dE hn hb oM _ rfl
 refine⟨g,cap,w3,hr,(hb0.mono hB).grown hgrow oM (fun q e=>(h0.lt q e).1),hown,fun b hb hne=>?_⟩;rw[hgrow.block b oM (Ne.symm hne)];exact hb0.block b hb
theorem SK.push{i:Aa}{p:Option Addr}{q:Nat}{u:Value}(h:SK B M v sv (.slice p s.opens.length q) s us)(k:Below v.heap.size v v')(hu:v'.ownsRow v.heap.size 4 1 u M (DP M s.set))(hi:i.op=34\/i.op=36)(hn:s.opens.length<64)(ty:TypeId):
 ∃g c' w',(Builtin.append_ #[103,103] ty #[.slice p s.opens.length q,.slice (some ⟨v'.heap.size,0,none⟩) 1 1]).run prog (v'.alloc (.cells #[.int .i64 i.op,.int .i64 i.n,u] 107))=.ok (.slice (some ⟨g,0,none⟩) (s.opens.length+1) c') w'/\Below B v w'/\SK B M w' sv (.slice (some ⟨g,0,none⟩) (s.opens.length+1) c') (Ad s i) (us++[u])/\∀b,b<v'.heap.size->(Value.slice p s.opens.length q).ownBlock≠some b->w'.heap[b]? =v'.heap[b]? :=by
 have h':=h.below k;have hone:u.oneCell'=true:=by
  obtain⟨p,c,rfl⟩:=AD hu;rfl
 obtain⟨g,c',w',hr,hb,ho,hk⟩:=F5 (V:=v') underlying103 Tx rfl dE h'.opn h'.hB #[.int .i64 i.op,.int .i64 i.n,u] rfl (by intro x hx;simp at hx;rcases hx with rfl|rfl|rfl<;>first|rfl|exact hone) mL oM ty;have hs:(Ad s i).set=s.set/\(Ad s i).opens.length=s.opens.length+1:=by rw[NQ hi];exact⟨rfl,rfl⟩
 have eo:=Wl (s:=s) hi;have hsz:=k.size;refine⟨g,c',w',hr,(k.mono h.hB).trans hb,⟨gH h'.hB hb.size,?_,?_,by rw[hs.2,List.length_append,h.len];rfl,fun j hj o ho'=>?_⟩,hk⟩
 .rw[hs.1];exact Ag h'.set fun b hbb=>hk b (h'.set.lt b hbb).2 (fun e=>GY h'.opn h'.set ID b e hbb)
 .rw[hs.2,eo,Ms _ _ (by rw[JQ];exact h.len.symm)];exact ho
 .rw[eo]at ho';by_cases hlt:j<us.length
  .rw[List.getElem?_append_left (by rw[JQ,<-h.len];exact hlt)]at ho';obtain⟨a1,a2⟩:=h'.each j hlt o ho';rw[List.getElem_append_left hlt];exact⟨Ag a1 fun b hbb=>hk b (a1.lt b hbb).2 (fun e=>GY h'.opn a1 ID b e hbb),a2⟩
  .have hj':j=us.length:=by simp at hj;omega
   subst hj';rw[List.getElem?_append_right (by rw[JQ,h.len];exact gF _)]at ho';have e0:us.length-(LO s).length=0:=by rw[JQ,h.len];omega
   rw[e0]at ho';simp at ho';subst ho';have e1:(us++[u])[us.length]'hj=u:=sM;rw[e1];refine⟨C8 (Ag hu fun b hbb=>hk b (hu.lt b hbb).2 (fun e=>?_)) h.hB,fun b hbb e=>?_⟩
   .exact GY h'.opn hu ID b e hbb
   .have a1:=(hu.lt b e).1;have a2:=(h.set.lt b hbb).2;omega
theorem SK.pop{p:Option Addr}{q n:Nat}(h:SK B M v sv (.slice p s.opens.length q) s us)(ok:Eu n s)(h0:0<s.opens.length)(hl:Ao s=true):SK B M v sv (.slice p (s.opens.length-1) q) (AI s) (us.take (s.opens.length-1)):=by
 refine⟨h.hB,by rw[Qo hl];exact h.set,?_,by rw[F4,List.length_take,h.len];omega,fun k hk o ho=>?_⟩
 .rw[F4,GX ok h0,<-IU];exact Im h.opn oM
 .rw[GX ok h0]at ho;have hk':k<us.length:=by simp at hk;omega
  rw[List.getElem?_take]at ho;split at ho
  .obtain⟨a1,a2⟩:=h.each k hk' o ho;simp only[List.getElem_take];exact⟨a1,a2⟩
  .simp at ho
theorem SK.back{p:Option Addr}{q n:Nat}{u:Value}{o:Ob}(h:SK B M v sv (.slice p s.opens.length q) s us)(ok:Eu n s)(h0:0<s.opens.length)(hl:Ao s=false)(k:Below v.heap.size v v')(ho:(LO s)[s.opens.length-1]? =some o)(hu:v'.ownsRow v.heap.size 4 1 u M (DP M o.set)):
 SK B M v' u (.slice p (s.opens.length-1) q) (AI s) (us.take (s.opens.length-1)):=by
 refine⟨gH h.hB k.size,by rw[TC hl ho h0];exact C8 hu h.hB,?_,by rw[F4,List.length_take,h.len];omega,fun j hj x hx=>?_⟩
 .rw[F4,GX ok h0,<-IU];exact As (Im h.opn oM) k
 .rw[GX ok h0]at hx;have hk':j<us.length:=by simp at hj;omega
  rw[List.getElem?_take]at hx;split at hx
  .obtain⟨a1,a2⟩:=h.each j hk' x hx;simp only[List.getElem_take];refine⟨As a1 k,fun b hb e=>?_⟩;have b1:=(hu.lt b hb).1;have b2:=(a1.lt b e).2;omega
  .simp at hx
theorem SK.last{g q:Nat}(h:SK B M v sv (.slice (some ⟨g,0,none⟩) s.opens.length q) s us)(h0:0<s.opens.length):∃ (X:List Nat) (u:Value),(LO s)[s.opens.length-1]? =some ⟨if Ao s then 36 else 34,BN s,X⟩/\v.ownsRow B 4 1 u M (DP M X)/\v.cell? ⟨g,(s.opens.length-1)*3,none⟩=some (.int .i64 (if Ao s then 36 else 34))/\v.cell? ⟨g,(s.opens.length-1)*3+1,none⟩=some (.int .i64 (BN s))/\v.cell? ⟨g,(s.opens.length-1)*3+2,none⟩=some u:=by
 obtain⟨X,hX⟩:=Wj h0;have hu:s.opens.length-1<us.length:=by rw[h.len];omega
 obtain⟨a1,a2⟩:=h.each _ hu _ hX;have cl:=fun(j:Nat) (hj:j<3)=>RX j hj hX (gB hu);have ca:=fun(j:Nat) (hj:j<3)=>h.opn.cellAt ((s.opens.length-1)*3+j) oM;refine⟨X,_,hX,a1,?_,?_,?_⟩
 .have:=ca 0 dE;rw[cl 0 dE]at this;exact this
 .have:=ca 1 dE;rw[cl 1 dE]at this;exact this
 .have:=ca 2 dE;rw[cl 2 dE]at this;exact this
theorem SK.start(w:World)(B:Nat)(h:B<=w.heap.size){sv:Value}(hs:w.ownsRow B 4 1 sv M (DP M [])):SK B M w sv (.slice none 0 0) ⟨[],[]⟩ []:=
 ⟨h,hs,World.ownsRow_nil _ _ _ 3,rfl,fun k hk=>by simp at hk⟩
end
theorem XF(M:Nat)(X:List Nat):∀u∈DP M X,u.oneCell'=true:=by
 intro u hu;unfold DP at hu;simp only[List.mem_map]at hu;obtain⟨j,-,rfl⟩:=hu;rfl
theorem SU{t e:TypeId}{z:Value}{sz by':Nat}(ht:prog.underlying t=some (.slice e))(hi:(prog.info? e).map (fun i=>(i.zero,i.size,i.bytes))=some (some z,sz,by'))(p:Option Addr)(n c:Nat)(x:Option Addr)(d:Nat)(hn:n<=c)(ty:TypeId)(w:World):(Builtin.append_ #[t,t] ty #[.slice p n c,.slice x 0 d]).run prog w=.ok (.slice p n c) w:=by
 obtain⟨i0,hi0,hz0,hz1,hz2⟩:=info_parts hi;have h1:¬c<n:=oM;cases x with
 |none=>cases p<;>simp[Builtin.append_,run_underlying ht,sizeOf,typeInfo,hi0,Builtin.lenOf,Builtin.firstCells,storeCells,loadCells,loadCellsFrom,hn,h1]
 |some a=>cases p<;>simp[Builtin.append_,run_underlying ht,sizeOf,typeInfo,hi0,Builtin.lenOf,Builtin.firstCells,storeCells,loadCells,loadCellsFrom,hn,h1]
theorem Jp{B M:Nat}{X:List Nat}(v:Value)(hM:M<=16384)(w:World)(h:w.ownsRow B 4 1 v M (DP M X)):
 Calls prog 49 #[v] w fun e w'=>∃u,e=.returned u/\w'.ownsRow w.heap.size 4 1 u M (DP M X)/\Below w.heap.size w w':=by
 obtain⟨p,q,rfl⟩:=AD h;have Bl:∃u w',(Builtin.append_ #[74,74] 74 #[.slice none 0 0,.slice p M q]).run prog w=.ok u w'/\w'.ownsRow w.heap.size 4 1 u M (DP M X)/\Below w.heap.size w w':=by
  by_cases h0:M=0
  .subst h0;refine⟨.slice none 0 0,w,SU underlying74 GO none 0 0 p q (gF _) _ _,?_,BT _⟩;have:DP 0 X=[]:=by simp[DP]
   rw[this];exact World.ownsRow_nil _ _ _ 1
  .obtain⟨g,c,e,hl,hg⟩:=h.form oM;simp only[Value.slice.injEq]at e;obtain⟨rfl,-,rfl⟩:=e;obtain⟨i0,hi0,hz0,hz1,hz2⟩:=info_parts GO;obtain⟨g',cap,w',hr,hown,hgrow,hat,hlt⟩:=run_append_lies (P:=prog) w 74 74 w.heap.size 4 i0 _ 1 1 underlying74 hi0 hz0 hz1 hz2 rfl dE (.slice none 0 0) 0 [] (World.ownsRow_nil _ _ _ 1) ⟨g,0,none⟩ M q (DP M X) Zhr
    (fun j u hu=>by
     have hj:j<M:=by have:=(List.getElem?_eq_some_iff.1 hu).1;rw[Lk]at this;exact this
     have e:=h.cellAt j oM;have e2:(⟨g,0,none⟩:Addr).add j=⟨g,j,none⟩:=by simp[Addr.add];omega
     rw[e2,e,hu]) (XF M X) oM mL oM (gF _) _ rfl
   simp only[Nat.zero_add,List.nil_append]at hr hown;exact⟨_,w',hr,hown,(Below.refl _ _).grown hgrow (gF _) (fun k e=>by simp[Value.ownBlock]at e)⟩
 obtain⟨u,w',hr,ho,hb⟩:=Bl;have HR:Hid ((Builtin.append_ #[74,74] 74 #[.slice none 0 0,.slice p M q]).run prog w=.ok u w'):=hr;have HO:Hid (w'.ownsRow w.heap.size 4 1 u M (DP M X)/\Below w.heap.size w w'):=⟨ho,hb⟩
 clear h hr ho hb;go_enter func49,ntmps49;go_wp2_with(at_builtin;refine Au rF _ _ _ rF _ _ _ rF rF HR.out ?_);go_ret;exact⟨u,rfl,HO.1,HO.2⟩
theorem CV{P:Program}{w w':World}{o:Oper}{a:Act}{K:Act->World->Prop}{Q:Exit->Act->World->Prop}(s x:Operand)(t:TypeId)
 (ho:o.op=.call {callee:=.builtin .append,args:=#[s,x],argTypes:=#[t,t]}) (v v2 v':Value) (hs:a.eval s=v) (hx:a.eval x=v2) (hr:(Builtin.append_ #[t,t] o.type #[v,v2]).run P w=.ok v' w')
 (h:K (a.put o.dst v') w') (y':Bool) (hy:y'=true):if y'=true then Oper.wp P o a w K Q else K (a.put o.dst undef) w:=by
 rw[if_pos hy];exact Zej

theorem IG{L:List (List Int)}{k:Nat}(h:k<L.length):EU L k=L[k]:=by unfold EU;rw[gB h];rfl
theorem Mh{l:Nat->Nat}{W:Nat}(hW:1<=W):∀M,(∀i,i<=M->l i=1\/l i=W)->∃n,Es l M=some n/\(n=1\/n=W):=by
 intro M;induction M with
 |zero=>intro h;exact⟨l 0,rfl,h 0 (gF _)⟩
 |succ M ih=>
  intro h;obtain⟨n,h1,h2⟩:=ih fun i hi=>h i oM;rw[Iz h1];have h3:=h (M+1) (gF _);by_cases e1:l (M+1)=n
  .exact⟨n,if_pos e1,h2⟩
  .rw[if_neg e1,if_neg oM];by_cases e2:n=1
   .rw[if_pos e2];exact⟨_,rfl,h3⟩
   .rw[if_neg e2];by_cases e3:l (M+1)=1
    .rw[if_pos e3];exact⟨_,rfl,h2⟩
    .omega
theorem GH(i:Aa)(h:B3 i.op=true):D9 i.op=(Ac i (A3 i.op)).length/\D9 i.op≠0:=by
 unfold B3 at h;simp only[Bool.and_eq_true,decide_eq_true_eq]at h;have:i.op=3\/i.op=4\/i.op=5\/i.op=6\/i.op=7\/i.op=8\/i.op=9\/i.op=10\/i.op=11\/i.op=12\/i.op=13\/i.op=14\/i.op=15:=oM;obtain⟨op,D,A,B,E,n,b⟩:=i;simp only at this |-;rcases this with rfl|rfl|rfl|rfl|rfl|rfl|rfl|rfl|rfl|rfl|rfl|rfl|rfl<;>exact⟨rfl,dE⟩
theorem Rs{op:Int}{args:List (List Int)}{n:Nat}(h:Es (lF args) (args.length-1)=some n):(Dd op args).length=n/\∀j,j<n->Cy (Dd op args) j=Jo op (Gf (lF args) (xF args) args.length j 0) (Gf (lF args) (xF args) args.length j 1) (Gf (lF args) (xF args) args.length j 2):=by
 unfold Dd;rw[h];simp only;exact⟨sM,fun j hj=>Yw (α:=Int) _ _ _ hj⟩
theorem A8{p:Prop}(h:p):Hid p:=h


def DS(c:Cd)(f:Fr)(r:Nat):Prop:=(A5 c.regs (r:Int)).kind=3->(f.vecs r).length=lenOf c (A5 c.regs (r:Int)).par
theorem F1{rs:List Ty}{l n:Int}{m:Ty}(h:Ai rs l n m=true)(h0:0<rs.length):0<=n/\n<(rs.length:Int):=by
 by_cases hl:l=0
 .unfold Ai at h;rw[if_pos hl]at h;simp only[beq_iff_eq]at h;omega
 .exact Af h hl
theorem AR{rs:List Ty}{l n:Int}{m:Ty}(h:Ai rs l n m=true)(hl:l≠0):B5 l (A5 rs n) m=true:=by
 unfold Ai at h;rw[if_neg hl]at h;simp only[Bool.and_eq_true]at h;exact h.2
theorem YQ{c:Cd}{i:Aa}{r:Rw}(h:AN c i r=true):Bi c i r.n (Ak c.regs i r)=true:=by
 unfold AN at h;simp only[Bool.and_eq_true]at h;exact h.2.2.2.2
theorem OU{s:Wk}{i:Aa}{r:Rw}(h:Dc s i r=true){n:Int}(hn:n∈Ac i r):n.toNat∈s.set:=by
 unfold Dc at h;have:=List.all_eq_true.1 h n hn;simpa using this
structure Ee(c:Cd)(f:Fr)(i:Aa):Prop where
 num:Dw i.op=true->0<=i.d/\i.d<(c.regs.length:Int)/\(i.op≠1->0<=i.a/\i.a<(c.regs.length:Int))/\(i.op=16->0<=i.b/\i.b<(c.regs.length:Int))/\(A5 c.regs i.d).kind=1
 whole:Bq i.op=true->0<=i.d/\i.d<(c.regs.length:Int)/\(0<=i.a/\i.a<(c.regs.length:Int))/\(0<=i.b/\i.b<(c.regs.length:Int))/\(0<=i.c/\i.c<(c.regs.length:Int))/\(A5 c.regs i.d).kind=2/\(i.op=2->0<=i.n/\i.n<=2147483647)
 part:i.op=29\/i.op=30->PE c i.d i.n
 out:i.op=31->PE c i.a i.n/\(f.vecs i.a.toNat).length=lenOf c (A5 c.regs i.a).par
 load:i.op=32->0<=i.d/\i.d<(c.regs.length:Int)/\0<=i.n/\i.n<(c.slots.length:Int)/\Df c.slots i.n=A5 c.regs i.d
 store:i.op=33->0<=i.a/\i.a<(c.regs.length:Int)/\0<=i.n/\i.n<(c.slots.length:Int)/\Df c.slots i.n=A5 c.regs i.a/\DS c f i.a.toNat
 elem:B3 i.op=true->0<=i.d/\i.d<(c.regs.length:Int)/\(0<=i.a/\i.a<(c.regs.length:Int))/\∀r∈Ac i (A3 i.op),0<=r/\r<(c.regs.length:Int)/\DS c f r.toNat/\(A5 c.regs r=A5 c.regs i.d\/((A5 c.regs r).kind=1/\(A5 c.regs i.d).kind=3))
theorem Ml{i:Aa}{r:Rw}(h:r.a≠0):i.a∈Ac i r:=by unfold Ac;simp[h]
theorem RO{c:Cd}{f:Fr}{s:Wk}{i:Aa}(t:Am c s i=true)(hs:∀r∈s.set,DS c f r):Ee c f i:=by
 obtain⟨_,h2,_,h4⟩:=Ar t;have hd:=Dh h2;have ha:=BR h2;have hb:=E8 h2;have hc:=E9 h2;have hn:=YQ h2;have hr:=fun{n:Int} (hn:n∈Ac i (A3 i.op))=>hs _ (OU h4 hn);obtain⟨op,D,A,B,Ec,nn,bt⟩:=i;simp only at *;refine⟨fun h=>?_,fun h=>?_,fun h=>?_,fun h=>?_,fun h=>?_,fun h=>?_,fun h=>?_⟩
 .unfold Dw at h;simp only[Bool.or_eq_true,beq_iff_eq]at h;have hop:op=1\/op=16\/op=17\/op=19\/op=20:=oM;clear h;rcases hop with rfl|rfl|rfl|rfl|rfl
  all_goals
   have d:=Af hd dE;have dm:=AR hd dE;have a1:=F1 ha oM;have b1:=F1 hb oM;exact⟨d.1,d.2,fun _=>a1,fun _=>b1,by simpa[B5,A3]using dm⟩
 .unfold Bq at h;simp only[Bool.or_eq_true,Bool.and_eq_true,beq_iff_eq,decide_eq_true_eq]at h;have hop:op=2\/op=18\/op=21\/op=22\/op=23\/op=24\/op=25\/op=26\/op=27\/op=28:=oM;clear h;rcases hop with rfl|rfl|rfl|rfl|rfl|rfl|rfl|rfl|rfl|rfl
  all_goals
   have d:=Af hd dE;have dm:=AR hd dE;have a1:=F1 ha oM;have b1:=F1 hb oM;have c1:=F1 hc oM;refine⟨d.1,d.2,a1,b1,c1,by simpa[B5,A3]using dm,fun e=>?_⟩;simp[Bi,A3,Gd,E7]at hn;show 0<=nn/\nn<=2147483647;omega
 .rcases h with rfl|rfl
  all_goals
   have d:=Af hd dE;have dm:=AR hd dE;refine⟨d.1,d.2,by simpa[B5,A3]using dm,?_⟩;simp[Bi,A3,Gd,Ak,CC]at hn;first|exact hn.2|(simpa using hn.2)
 .subst h;have d:=Af ha dE;have dm:=AR ha dE;have k3:(A5 c.regs A).kind=3:=by simpa[B5,A3]using dm
  refine⟨⟨d.1,d.2,k3,?_⟩,?_⟩
  .simp[Bi,A3,Gd,Ak,CC]at hn;first|exact hn.2|(simpa using hn.2)
  .have:=hr (n:=A) (Ml (r:=A3 31) dE);have e:((A.toNat:Nat):Int)=A:=oM;unfold DS at this;rw[e]at this;exact this k3
 .subst h;have d:=Af hd dE;simp[Bi,A3,Gd,Ak,CC]at hn;have:=Bv.1 hn.2.1;exact⟨d.1,d.2,this.1,this.2,hn.2.2⟩
 .subst h;have d:=Af ha dE;simp[Bi,A3,Gd,Ak,CC]at hn;have:=Bv.1 hn.2.1;exact⟨d.1,d.2,this.1,this.2,hn.2.2,hr (n:=A) (Ml (r:=A3 33) dE)⟩
 .unfold B3 at h;simp only[Bool.and_eq_true,decide_eq_true_eq]at h;have hop:op=3\/op=4\/op=5\/op=6\/op=7\/op=8\/op=9\/op=10\/op=11\/op=12\/op=13\/op=14\/op=15:=oM;clear h;rcases hop with rfl|rfl|rfl|rfl|rfl|rfl|rfl|rfl|rfl|rfl|rfl|rfl|rfl
  all_goals
   have d:=Af hd dE;have a1:=Af ha dE;refine⟨d.1,d.2,a1,fun r hrr=>⟨?_,?_,hr hrr,?_⟩⟩
   all_goals
    have am:=AR ha dE;simp[Ac,A3]at hrr;first
     |(
      have bm:=AR hb dE;have b1:=Af hb dE;have cm:=AR hc dE;have c1:=Af hc dE;simp[B5,A3,Ak,CC]at am bm cm
      rcases hrr with rfl|rfl|rfl<;>first|omega|(simpa using am)|(simpa using bm)|(simpa using cm))
     |(
      have bm:=AR hb dE;have b1:=Af hb dE;simp[B5,A3,Ak,CC]at am bm
      rcases hrr with rfl|rfl<;>first|omega|(simpa using am)|(simpa using bm))
     |(
      simp[B5,A3,Ak,CC]at am;subst hrr
      first|omega|(simpa using am))
theorem Qm(X:Nat->Int)(n:Nat)(hX:∀i,AB (X i)):AB (Fe X n):=Fs JL Zht hX n
theorem Eh{c:Cd}(hg:By c){r:Int}(h0:0<=r)(h1:r<(c.regs.length:Int))(h3:(A5 c.regs r).kind=3):1<=lenOf c (A5 c.regs r).par/\B0 c (A5 c.regs r)=lenOf c (A5 c.regs r).par:=by
 obtain⟨r,rfl⟩:∃j:Nat,r=(j:Int):=⟨r.toNat,oM⟩
 have hr:r<c.regs.length:=oM;rw[EL hr]at h3 |-;have hp:=Bv.1 (hg.type (gD hr) h3);obtain⟨pp,hpp⟩:=gA (c.regs[r].par)
 refine⟨?_,by unfold B0;rw[if_pos h3]⟩;rw[hpp]at hp |-;obtain⟨p,rfl⟩:∃j:Nat,pp=(j:Int):=⟨pp.toNat,oM⟩
 obtain⟨_,e2,e3,_⟩:=Kw hg (p:=p) oM;omega
theorem Wv{c:Cd}{f:Fr}(hg:By c)(ok:Jf c f){r:Int}(h0:0<=r)(h1:r<(c.regs.length:Int))(hs:DS c f r.toNat):PC c (A5 c.regs r) (Bx c f r):=by
 have e:((r.toNat:Nat):Int)=r:=oM;unfold DS at hs;rw[e]at hs;have hty:(A5 c.regs r).kind=1\/(A5 c.regs r).kind=2\/(A5 c.regs r).kind=3:=by
  obtain⟨r,rfl⟩:∃j:Nat,r=(j:Int):=⟨r.toNat,oM⟩
  have hr:r<c.regs.length:=oM;rw[EL hr];exact Zff
 unfold Bx PC;rcases hty with h|h|h
 .rw[if_pos h];refine⟨by unfold B0;rw[if_neg oM,if_pos h];rfl,fun y hy=>?_,Int.le_refl _,by show(0:Int)<=2147483647;decide⟩;simp at hy;rw[hy];exact ok.nums _
 .rw[if_neg oM,if_pos h];exact⟨by unfold B0;rw[if_neg oM,if_neg oM];rfl,fun y hy=>by simp at hy,ok.whs _⟩
 .rw[if_neg oM,if_neg oM];refine⟨?_,ok.vecs _,Int.le_refl _,by show(0:Int)<=2147483647;decide⟩;rw[(Eh hg h0 h1 h).2];exact hs h
theorem Yt{op:Int}{args:List (List Int)}(h:∀l∈args,∀y∈l,AB y):∀y∈Dd op args,AB y:=by
 have hX:∀i j,AB (xF args i j):=fun i j=>by
  exact Zee
 intro y hy;unfold Dd at hy;split at hy
 .simp only[List.mem_map]at hy;obtain⟨k,_,rfl⟩:=hy;exact RI _ _ _ _ (CR hX _ _ _) (CR hX _ _ _) (CR hX _ _ _)
 .cases hy
theorem GL{c:Cd}{f:Fr}{i:Aa}(hg:By c)(ok:Jf c f)(he:B3 i.op=true)(nd:Ee c f i)(hk:(A5 c.regs i.d).kind≠2):
 1<=B0 c (A5 c.regs i.d)/\(∀r∈Ac i (A3 i.op),0<=r/\r<(c.regs.length:Int)/\((Bx c f r).pats.length=1\/(Bx c f r).pats.length=B0 c (A5 c.regs i.d))/\∀y∈(Bx c f r).pats,AB y)/\((A5 c.regs i.d).kind=1\/(A5 c.regs i.d).kind=3):=by
 obtain⟨d0,d1,_,hr⟩:=nd.elem he;have hty:(A5 c.regs i.d).kind=1\/(A5 c.regs i.d).kind=3:=by
  obtain⟨r,hrr⟩:∃j:Nat,i.d=(j:Int):=⟨i.d.toNat,oM⟩
  rw[hrr]at hk d1 |-;have hr:r<c.regs.length:=oM;rw[EL hr]at hk |-;exact Zff
 refine⟨?_,fun r hm=>?_,hty⟩
 .rcases hty with h|h
  .unfold B0;rw[if_neg oM,if_pos h];exact gF _
  .rw[(Eh hg d0 d1 h).2];exact(Eh hg d0 d1 h).1
 .obtain⟨r0,r1,hs,hm2⟩:=hr r hm;have hh:=Wv hg ok r0 r1 hs;refine⟨r0,r1,?_,hh.2.1⟩;rcases hm2 with e|⟨e,_⟩
  .right;rw[<-e];exact hh.1
  .left;rw[hh.1];unfold B0;rw[if_neg oM,if_pos e]
theorem FJ{c:Cd}{f:Fr}{i:Aa}(hg:By c)(ok:Jf c f)(he:B3 i.op=true)(nd:Ee c f i)(hk:(A5 c.regs i.d).kind≠2):
 ((Dd i.op (Bu c f i)).length=1\/(Dd i.op (Bu c f i)).length=B0 c (A5 c.regs i.d))/\∀y∈Dd i.op (Bu c f i),AB y:=by
 obtain⟨h1,h2,_⟩:=GL hg ok he nd hk;have hall:∀l∈Bu c f i,(l.length=1\/l.length=B0 c (A5 c.regs i.d))/\∀y∈l,AB y:=by
  intro l hl;unfold Bu at hl;simp only[List.mem_map]at hl;obtain⟨r,hr,rfl⟩:=hl;exact(h2 r hr).2.2
 have hne:(Bu c f i).length≠0:=by
  unfold Bu;rw[List.length_map,<-(GH i he).1];exact(GH i he).2
 obtain⟨n,hn,hn2⟩:=Mh (l:=lF (Bu c f i)) h1 ((Bu c f i).length-1) (fun k hk=>by
  unfold lF;rw[IG oM]
  exact(hall _ (gD _)).1)
 exact⟨by rw[(Rs (op:=i.op) hn).1];exact hn2,Yt fun l hl=>(hall l hl).2⟩
theorem Km{l:List Int}(h:∀y∈l,AB y):AB (l.headD 0):=by
 cases l with
 |nil=>exact Jj
 |cons y l=>exact h y sM
theorem st_ok{c:Cd}{f:Fr}(ok:Jf c f){r:Int}{h:Hd}(hp:∀y∈h.pats,AB y)(hl:h.pats.length<=4096)(hw:0<=h.whole/\h.whole<=2147483647):Jf c (J4 c f r h):=by
 unfold J4;split
 .exact⟨CF ok.nums (Km hp),ok.whs,ok.vecs,ok.vecsL,ok.slotsL,ok.slots⟩
 .split
  .exact⟨ok.nums,CF (Q:=fun y:Int=>0<=y/\y<=2147483647) ok.whs hw,ok.vecs,ok.vecsL,ok.slotsL,ok.slots⟩
  .exact⟨ok.nums,ok.whs,CF (Q:=fun l:List Int=>∀y∈l,AB y) ok.vecs hp,CF (Q:=fun l:List Int=>l.length<=4096) ok.vecsL hl,ok.slotsL,ok.slots⟩
theorem XQ{c:Cd}{f:Fr}{r:Int}(hr:0<=r){h:Hd}(hl:(A5 c.regs r).kind=3->h.pats.length=lenOf c (A5 c.regs r).par){k:Nat}(hk:k≠r.toNat->DS c f k):DS c (J4 c f r h) k:=by
 intro h3;by_cases e:k=r.toNat
 .have e2:(k:Int)=r:=oM;rw[e2]at h3 |-;unfold J4;rw[if_neg oM,if_neg oM];simp only;rw[e,B6];exact hl h3
 .have:=hk e h3;unfold J4;split
  .exact this
  .split
   .exact this
   .simp only;rw[BS _ _ e];exact this
end Go.Proofs.YtpoklpdgpcnkgaaGreat
