import Derived.Test.YtheanilpbnencaaGreatSpe1
import Derived.Test.YtheanilpbnencaaGreatSpe11
import Derived.Test.YtheanilpbnencaaGreatSpe7
import Derived.Test.YtheanilpbnencaaGreatSpe9
import Derived.Test.YtheanilpbnencaaGreatSpe2
import Derived.Test.YtheanilpbnencaaGreatSpe12
import Derived.Test.YtheanilpbnencaaGreatSpe13
namespace Go.Proofs.YtheanilpbnencaaGreat
open Go.RowKit Go.Proofs.Tryz
set_option linter.all false
set_option maxRecDepth 100000
set_option maxHeartbeats 16000000
theorem Ug(v0 v1 v2 v3:Value)(c:Cd)(co:AZ c)(hT:Ad c=true)(op D A B E n bt La Lb Lc Ld Le:Int)(a b cc d e:UInt8)
 (HROW:Hid (∀w,Calls prog 62 #[.int .i64 op] w fun x w'=>x=.returned (.tuple #[.string ⟨#[a,b,cc,d,e]⟩,.bool true])/\w'=w))
 (HCAN:Hid (∀w,Calls prog 58 #[.int .u32 bt] w fun e w'=>e=.returned (.bool true)/\Below w.heap.size w w'))
 (ix0:∀w,(Instr.index 9 (.string ⟨#[a,b,cc,d,e]⟩) (.int .i64 0)).run prog w=.ok (.int .u8 La) w)
 (ix1:∀w,(Instr.index 9 (.string ⟨#[a,b,cc,d,e]⟩) (.int .i64 1)).run prog w=.ok (.int .u8 Lb) w)
 (ix2:∀w,(Instr.index 9 (.string ⟨#[a,b,cc,d,e]⟩) (.int .i64 2)).run prog w=.ok (.int .u8 Lc) w)
 (ix3:∀w,(Instr.index 9 (.string ⟨#[a,b,cc,d,e]⟩) (.int .i64 3)).run prog w=.ok (.int .u8 Ld) w)
 (Qy:∀w,(Instr.index 9 (.string ⟨#[a,b,cc,d,e]⟩) (.int .i64 4)).run prog w=.ok (.int .u8 Le) w)
 (oa:Br La) (ob:Br Lb) (oc:Br Lc) (od:Br Ld) (oT:Le=112->La=118\/(La=45/\Lb=118)) (o1:(op==1)=false) (o2:(op != 1)=true) (o3:(bt==0)=true) (o4:(bt != 0)=false) (hz0:La=45) (oA:Lb=45->Le=45\/Le=113) (oB:Lb≠45->Le=45\/Le=112\/Le=115)
 (w:World) (hv:Cy w v0 v1 v2 v3 c):
 Calls prog 59 #[.agg #[v0,v1,v2,v3],.agg #[.int .i64 op,.int .i64 D,.int .i64 A,.int .i64 B,.int .i64 E,.int .i64 n,.int .u32 bt]] w fun e w'=>e=.returned (.bool (Af c.regs La D ⟨0,0⟩&&(Af c.regs Lb A (dR c.regs La D)&&(Af c.regs Lc B (dR c.regs La D)&&(Af c.regs Ld E (dR c.regs La D)&&Ci c Le n (tR c.regs La Lb D A))))))/\Below w.heap.size w w':=by
 have KO:∀ (l n:Int) (d:Ty),Br l->∀v,Below w.heap.size w v->Calls prog 86 #[.agg #[v0,v1,v2,v3],.int .u8 l,.int .i64 n,.agg #[.int .i64 d.kind,.int .i64 d.par]] v fun e w'=>e=.returned (.bool (Af c.regs l n d))/\Below v.heap.size v w':=fun l n d hl v hb=>E6 v0 v1 v2 v3 c co l n d hl v (hv.below hb);have HT0:Hid (TW w v0 v1 v2 v3 (w.heap.size+1) op D A B E n bt ((w.alloc (.cells #[v0,v1,v2,v3] 27)).alloc (.cells #[.int .i64 op,.int .i64 D,.int .i64 A,.int .i64 B,.int .i64 E,.int .i64 n,.int .u32 bt] 55))):=TW.start w v0 v1 v2 v3 op D A B E n bt;obtain⟨p0,q0,rfl,-⟩:=id hv.sign;obtain⟨p1,q1,rfl,hr1⟩:=id hv.regs;obtain⟨p2,q2,rfl,-⟩:=id hv.slots;have hREG:∀x:Int,Ab x c.regs.length=true->∃ (k lb lo:Nat),x=(k:Int)/\k<c.regs.length/\p1=some ⟨lb,lo,none⟩/\w.cell? ⟨lb,lo+k*2,none⟩=some (.int .i64 (A7 c.regs x).kind)/\w.cell? ⟨lb,lo+k*2+1,none⟩=some (.int .i64 (A7 c.regs x).par):=by
  exact Xy
 have HREG:Hid (∀x:Int,Ab x c.regs.length=true->∃ (k lb lo:Nat),x=(k:Int)/\k<c.regs.length/\p1=some ⟨lb,lo,none⟩/\w.cell? ⟨lb,lo+k*2,none⟩=some (.int .i64 (A7 c.regs x).kind)/\w.cell? ⟨lb,lo+k*2+1,none⟩=some (.int .i64 (A7 c.regs x).par)):=hREG;have HCV:Hid (Cy w (.slice p0 c.sign.length q0) (.slice p1 c.regs.length q1) (.slice p2 c.slots.length q2) v3 c):=hv;have HCO:Hid (AZ c):=co;have hB0:=co.signL;have hB1:=co.regsL;have hB2:=co.slotsL;have hTy:∀x:Int,Ab x c.regs.length=true->Fb 118 (A7 c.regs x) ⟨0,0⟩=true->Ab (A7 c.regs x).par c.sign.length=true:=fun x hx hk=>by
  exact XG
 obtain⟨n0,hn0⟩:=gA (c.sign.length)
 obtain⟨n1,hn1⟩:=gA (c.regs.length)
 obtain⟨n2,hn2⟩:=gA (c.slots.length)
 have HN0:Hid (c.sign.length=n0):=hn0;have HN1:Hid (c.regs.length=n1):=hn1;have HN2:Hid (c.slots.length=n2):=hn2;rw[hn0]at hB0;rw[hn1]at hB1;rw[hn2]at hB2;rw[hn0,hn1,hn2]at HCV KO HT0 |-;clear hREG hv hr1 hn0 hn1 hn2 co;have HTY:Hid (∀x:Int,Ab x c.regs.length=true->Fb 118 (A7 c.regs x) ⟨0,0⟩=true->Ab (A7 c.regs x).par c.sign.length=true):=hTy;clear hTy hT;have hKO0:=fun d=>KO La D d oa;have hKOA:=fun d=>KO Lb A d ob;have hKOB:=fun d=>KO Lc B d oc;have hKOC:=fun d=>KO Ld E d od;clear KO;have hPP0:Le=112->La=118\/(La=45/\Lb=118):=oT;clear oT oc od;obtain⟨RES,hRES⟩:∃R,(Af c.regs La D ⟨0,0⟩&&(Af c.regs Lb A (dR c.regs La D)&&(Af c.regs Lc B (dR c.regs La D)&&(Af c.regs Ld E (dR c.regs La D)&&Ci c Le n (tR c.regs La Lb D A)))))=R:=⟨_,rfl⟩
 rw[hRES];subst hz0;by_cases hD:D=0
 .subst hD;rw[DI,show((0:Int)==0)=true from rfl,Bool.true_and,show dR c.regs 45 0=⟨0,0⟩from rfl]at hRES;have hXT:Af c.regs Lb A ⟨0,0⟩=true->Lb≠45->Ab A c.regs.length=true:=fun h hl=>by
   rw[Bg hl]at h;simp only[Bool.and_eq_true]at h;exact h.1
  have hXP:Af c.regs Lb A ⟨0,0⟩=true->Lb=118->Fb 118 (A7 c.regs A) ⟨0,0⟩=true:=fun h hl=>by
   exact XL
  obtain⟨XA,hXA⟩:∃X,Af c.regs Lb A ⟨0,0⟩=X:=⟨_,rfl⟩
  obtain⟨XB,hXB⟩:∃X,Af c.regs Lc B ⟨0,0⟩=X:=⟨_,rfl⟩
  obtain⟨XC,hXC⟩:∃X,Af c.regs Ld E ⟨0,0⟩=X:=⟨_,rfl⟩
  rw[hXA]at hXT hXP;rw[hXA,hXB,hXC]at hRES;have HKA:Hid _:=hKOA ⟨0,0⟩;have HKB:Hid _:=hKOB ⟨0,0⟩;have HKC:Hid _:=hKOC ⟨0,0⟩;rw[hXA]at HKA;rw[hXB]at HKB;rw[hXC]at HKC;simp only at HKA HKB HKC;have HXT:Hid (XA=true->Lb≠45->Ab A c.regs.length=true):=hXT;have HXP:Hid (XA=true->Lb=118->Fb 118 (A7 c.regs A) ⟨0,0⟩=true):=hXP;have HRES:Hid ((XA&&(XB&&(XC&&Ci c Le n (tR c.regs 45 Lb 0 A))))=RES):=hRES;clear hKO0 hKOA hKOB hKOC hXA hXB hXC hXT hXP hRES;go_enter func59,ntmps59;go_wp2_with(first
   |(go_at_call 62;refine(HROW.out _).mono ?_;rintro e w1 ⟨rfl,rfl⟩)
   |(go_at_call 58;refine(HCAN.out _).mono ?_;rintro e w2 ⟨rfl,hb2⟩;have HT2:Hid (TW w (.slice p0 n0 q0) (.slice p1 n1 q1) (.slice p2 n2 q2) v3 (w.heap.size+1) op 0 A B E n bt (w2.alloc (.cells #[.int .i64 0,.int .i64 0] 63))):=(HT0.next hb2).next (A0 _ _);obtain⟨b1,c0,c1,c2,c3,i0,i1,i2,i3,i4,i5,i6⟩:=HT2.out;have HS2:Hid (w.heap.size+1<w2.heap.size):=A3 (HT0.next hb2).i0;clear hb2))
  have HD:Hid ((w2.alloc (.cells #[.int .i64 0,.int .i64 0] 63)).cell? ⟨w2.heap.size,0,none⟩=some (.int .i64 0)/\(w2.alloc (.cells #[.int .i64 0,.int .i64 0] 63)).cell? ⟨w2.heap.size,1,none⟩=some (.int .i64 0)):=⟨sG,sG⟩
  have HTD:Hid _:=HT2.out;obtain⟨Z,hZ⟩:=gA (w2.heap.size)
  obtain⟨Wd,hWd⟩:∃W,w2.alloc (.cells #[.int .i64 0,.int .i64 0] 63)=W:=⟨_,rfl⟩
  rw[hZ]at HD;rw[hWd]at HD HTD |-;try rw[hZ]
  clear hZ hWd HT2 b1 c0 c1 c2 c3 i0 i1 i2 i3 i4 i5 i6 HT0 HROW HCAN;have HCD:Hid (∀v,Below Wd.heap.size Wd v->v.cell? ⟨w.heap.size,0,none⟩=some (.slice p0 n0 q0)/\v.cell? ⟨w.heap.size,1,none⟩=some (.slice p1 n1 q1)/\v.cell? ⟨w.heap.size,2,none⟩=some (.slice p2 n2 q2)/\v.cell? ⟨w.heap.size,3,none⟩=some v3/\v.cell? ⟨w.heap.size+1,1,none⟩=some (.int .i64 0)/\v.cell? ⟨w.heap.size+1,2,none⟩=some (.int .i64 A)/\v.cell? ⟨w.heap.size+1,3,none⟩=some (.int .i64 B)/\v.cell? ⟨w.heap.size+1,4,none⟩=some (.int .i64 E)/\v.cell? ⟨w.heap.size+1,5,none⟩=some (.int .i64 n)/\v.cell? ⟨Z,0,none⟩=some (.int .i64 0)/\v.cell? ⟨Z,1,none⟩=some (.int .i64 0)):=fun v hb=>⟨kc hb HTD.c0,kc hb HTD.c1,kc hb HTD.c2,kc hb HTD.c3,kc hb HTD.i1,kc hb HTD.i2,kc hb HTD.i3,kc hb HTD.i4,kc hb HTD.i5,kc hb HD.1,kc hb HD.2⟩
  obtain⟨c0,c1,c2,c3,i1,i2,i3,i4,i5,d0,d1⟩:=HCD.out Wd (BE _);cases XA
  .have HQF:Hid (false=RES):=HRES.out;go_wp2;refine rG (fun v=>v.cell? ⟨w.heap.size,0,none⟩=some (.slice p0 n0 q0)/\v.cell? ⟨w.heap.size,1,none⟩=some (.slice p1 n1 q1)/\v.cell? ⟨w.heap.size,2,none⟩=some (.slice p2 n2 q2)/\v.cell? ⟨w.heap.size,3,none⟩=some v3/\v.cell? ⟨w.heap.size+1,1,none⟩=some (.int .i64 0)/\v.cell? ⟨w.heap.size+1,2,none⟩=some (.int .i64 A)/\v.cell? ⟨w.heap.size+1,3,none⟩=some (.int .i64 B)/\v.cell? ⟨w.heap.size+1,4,none⟩=some (.int .i64 E)/\v.cell? ⟨w.heap.size+1,5,none⟩=some (.int .i64 n)/\v.cell? ⟨Z,0,none⟩=some (.int .i64 0)/\v.cell? ⟨Z,1,none⟩=some (.int .i64 0)) fun hJ=>?_;refine Tf 0 1 2 3 4 5 ?_;clear hJ;refine AC 6 fun K hK=>?_;go_simp;(go_at_call 86;(with_reducible refine(HKA.out _ (bel HTD.out.bel (A4 _))).mono ?_);rintro e w3 ⟨rfl,hb9⟩;have HB3:Hid (Below Wd.heap.size Wd w3):=bel (A4 _) hb9;clear hb9;obtain⟨c0,c1,c2,c3,i1,i2,i3,i4,i5,d0,d1⟩:=HCD.out w3 HB3.out);try(go_wp2_with fail)
   refine AB hK fun hJ=>?_;clear hK K;refine Tb 7 8 ?_;refine Kd 9 10 11 12 ?_;refine Kd 13 14 15 16 ?_;refine Tb 17 18 ?_;refine Kd 19 20 21 22 ?_;refine Kd 23 24 25 26 ?_;refine Bm 27 ?_;refine wpAnyH_done kR ?_ _;go_wp2;go_ret;exact⟨A6 HQF.out,bel HTD.bel HB3.out⟩
  cases XB
  .have HQF:Hid (false=RES):=HRES.out;go_wp2;refine rG (fun v=>v.cell? ⟨w.heap.size,0,none⟩=some (.slice p0 n0 q0)/\v.cell? ⟨w.heap.size,1,none⟩=some (.slice p1 n1 q1)/\v.cell? ⟨w.heap.size,2,none⟩=some (.slice p2 n2 q2)/\v.cell? ⟨w.heap.size,3,none⟩=some v3/\v.cell? ⟨w.heap.size+1,1,none⟩=some (.int .i64 0)/\v.cell? ⟨w.heap.size+1,2,none⟩=some (.int .i64 A)/\v.cell? ⟨w.heap.size+1,3,none⟩=some (.int .i64 B)/\v.cell? ⟨w.heap.size+1,4,none⟩=some (.int .i64 E)/\v.cell? ⟨w.heap.size+1,5,none⟩=some (.int .i64 n)/\v.cell? ⟨Z,0,none⟩=some (.int .i64 0)/\v.cell? ⟨Z,1,none⟩=some (.int .i64 0)) fun hJ=>?_;exact Xv
  cases XC
  .have HQF:Hid (false=RES):=HRES.out;go_wp2;refine rG (fun v=>v.cell? ⟨w.heap.size,0,none⟩=some (.slice p0 n0 q0)/\v.cell? ⟨w.heap.size,1,none⟩=some (.slice p1 n1 q1)/\v.cell? ⟨w.heap.size,2,none⟩=some (.slice p2 n2 q2)/\v.cell? ⟨w.heap.size,3,none⟩=some v3/\v.cell? ⟨w.heap.size+1,1,none⟩=some (.int .i64 0)/\v.cell? ⟨w.heap.size+1,2,none⟩=some (.int .i64 A)/\v.cell? ⟨w.heap.size+1,3,none⟩=some (.int .i64 B)/\v.cell? ⟨w.heap.size+1,4,none⟩=some (.int .i64 E)/\v.cell? ⟨w.heap.size+1,5,none⟩=some (.int .i64 n)/\v.cell? ⟨Z,0,none⟩=some (.int .i64 0)/\v.cell? ⟨Z,1,none⟩=some (.int .i64 0)) fun hJ=>?_;exact Xu
  go_wp2;refine rG (fun v=>v.cell? ⟨w.heap.size,0,none⟩=some (.slice p0 n0 q0)/\v.cell? ⟨w.heap.size,1,none⟩=some (.slice p1 n1 q1)/\v.cell? ⟨w.heap.size,2,none⟩=some (.slice p2 n2 q2)/\v.cell? ⟨w.heap.size,3,none⟩=some v3/\v.cell? ⟨w.heap.size+1,1,none⟩=some (.int .i64 0)/\v.cell? ⟨w.heap.size+1,2,none⟩=some (.int .i64 A)/\v.cell? ⟨w.heap.size+1,3,none⟩=some (.int .i64 B)/\v.cell? ⟨w.heap.size+1,4,none⟩=some (.int .i64 E)/\v.cell? ⟨w.heap.size+1,5,none⟩=some (.int .i64 n)/\v.cell? ⟨Z,0,none⟩=some (.int .i64 0)/\v.cell? ⟨Z,1,none⟩=some (.int .i64 0)) fun hJ=>?_;refine Tf 0 1 2 3 4 5 ?_;clear hJ;refine AC 6 fun K hK=>?_;go_simp;(go_at_call 86;(with_reducible refine(HKA.out _ (bel HTD.out.bel (A4 _))).mono ?_);rintro e w3 ⟨rfl,hb9⟩;have HB3:Hid (Below Wd.heap.size Wd w3):=bel (A4 _) hb9;clear hb9;obtain⟨c0,c1,c2,c3,i1,i2,i3,i4,i5,d0,d1⟩:=HCD.out w3 HB3.out);try(go_wp2_with fail)
  refine AB hK fun hJ=>?_;clear hK K;refine Tf 7 8 9 10 11 12 ?_;refine Tb 13 14 ?_;clear hJ;refine AC 15 fun K hK=>?_;go_simp;(go_at_call 86;(with_reducible refine(HKB.out _ (bel HTD.out.bel HB3.out)).mono ?_);rintro e w4 ⟨rfl,hb9⟩;have HB4:Hid (Below Wd.heap.size Wd w4):=bel HB3.out hb9;clear hb9;clear c0 c1 c2 c3 i1 i2 i3 i4 i5 d0 d1;obtain⟨c0,c1,c2,c3,i1,i2,i3,i4,i5,d0,d1⟩:=HCD.out w4 HB4.out);try(go_wp2_with fail)
  refine AB hK fun hJ=>?_;clear hK K;refine Tf 16 17 18 19 20 21 ?_;refine Tc 22 23 24 ?_;clear hJ;refine AC 25 fun K hK=>?_;go_simp;(go_at_call 86;(with_reducible refine(HKC.out _ (bel HTD.out.bel HB4.out)).mono ?_);rintro e w5 ⟨rfl,hb9⟩;have HB5:Hid (Below Wd.heap.size Wd w5):=bel HB4.out hb9;clear hb9;clear c0 c1 c2 c3 i1 i2 i3 i4 i5 d0 d1;obtain⟨c0,c1,c2,c3,i1,i2,i3,i4,i5,d0,d1⟩:=HCD.out w5 HB5.out);try(go_wp2_with fail)
  refine AB hK fun hJ=>?_;clear hK K;refine Tb 26 27 ?_;refine wpAnyH_done kR ?_ _;clear c0 c1 c2 c3 i1 i2 i3 i4 i5 d0 d1;have HT5:Hid (TW w (.slice p0 n0 q0) (.slice p1 n1 q1) (.slice p2 n2 q2) v3 (w.heap.size+1) op 0 A B E n bt w5):=HTD.next HB5.out;obtain⟨hb5,c0,c1,c2,c3,i0,i1,i2,i3,i4,i5,i6⟩:=HT5.out;obtain⟨-,-,-,-,-,-,-,-,-,d0,d1⟩:=HCD.out w5 HB5.out;have hs5:w5.heap.size≠w.heap.size+1/\w.heap.size<w5.heap.size:=⟨fun e=>by have:=A3 i0;simp only at this;omega,by have:=A3 c0;simp only at this;omega⟩
  have HAL:Hid (TW w (.slice p0 n0 q0) (.slice p1 n1 q1) (.slice p2 n2 q2) v3 (w.heap.size+1) op 0 A B E n bt (w5.alloc (.cells #[.int .i64 0,.int .i64 0] 63))):=HT5.next (A0 _ _);by_cases hlb:Lb=45
  .have oe:=oA hlb;subst hlb;have HRT:Hid (Ci c Le n ⟨0,0⟩=RES):=HRES.out;clear c0 c1 c2 c3 i0 i1 i2 i3 i4 i5 i6;have t0:(w5.alloc (.cells #[.int .i64 0,.int .i64 0] 63)).cell? ⟨w5.heap.size,0,none⟩=some (.int .i64 0):=sG;have t1:(w5.alloc (.cells #[.int .i64 0,.int .i64 0] 63)).cell? ⟨w5.heap.size,1,none⟩=some (.int .i64 0):=sG;obtain⟨hbx,c0,c1,c2,c3,i0,i1,i2,i3,i4,i5,i6⟩:=HAL.out;clear d0 d1 hPP0 HXT HXP HRES oA oB;have hbt:=hbx;rcases oe with rfl|rfl
   .exact Xa
   .have HQ:Hid (Ab n c.sign.length=RES):=HRT.out;have hN0:=HN0.out;by_cases hn0:0<=n
    all_goals
     go_wp2;go_ret;refine⟨A6 ?_,hbt⟩;rw[<-HQ.out];unfold Ab;rw[hN0];first|(simp[hn0];done)|(simp[hn0];omega)|(simp[hn0];intro h;omega)
  .have oe:=oB hlb;have hlb1:(Lb==45)=false:=by simpa using hlb
   have hlb2:(Lb != 45)=true:=by simpa using hlb
   obtain⟨ka,lb,lo,rfl,hka,rfl,ya0,ya1⟩:=HREG.out A (HXT.out fT hlb);have HRT0:Hid (Ci c Le n (A7 c.regs (ka:Int))=RES):=by
    have h1:=HRES.out;have h2:tR c.regs 45 Lb 0 (ka:Int)=A7 c.regs (ka:Int):=if_pos ⟨rfl,hlb⟩;rw[h2]at h1;exact h1
   have HPP0:Hid (Le=112->Ab (A7 c.regs (ka:Int)).par c.sign.length=true):=fun e=>by
    rcases hPP0 e with h|⟨-,h⟩
    .exact absurd h dE
    .exact HTY.out _ (HXT.out fT hlb) (HXP.out fT h)
   obtain⟨⟨tk,tp⟩,htt⟩:∃t:Ty,A7 c.regs (ka:Int)=t:=⟨_,rfl⟩
   rw[htt]at HRT0 HPP0 ya0 ya1;have HRT:Hid (Ci c Le n ⟨tk,tp⟩=RES):=HRT0.out;have HPP:Hid (Le=112->Ab tp c.sign.length=true):=HPP0.out;have ka0:(0:Int)<=(ka:Int):=oM;have ka1:(ka:Int)<(n1:Int):=by have:=HN1.out;omega
   clear c0 c1 c2 c3 i0 i1 i2 i3 i4 i5 i6;have hq5:=fun o=>HT5.next (A0 w5 o);have c0:=fun o=>(hq5 o).c0;have c1:=fun o=>(hq5 o).c1;have c2:=fun o=>(hq5 o).c2;have c3:=fun o=>(hq5 o).c3;have i2:=fun o=>(hq5 o).i2;have i5:=fun o=>(hq5 o).i5;have xa0:=fun o=>kc (hq5 o).bel ya0;have xa1:=fun o=>kc (hq5 o).bel ya1;have hbx:=(hq5 (.cells #[.int .i64 tk,.int .i64 tp] 63)).bel;have t0:(w5.alloc (.cells #[.int .i64 tk,.int .i64 tp] 63)).cell? ⟨w5.heap.size,0,none⟩=some (.int .i64 tk):=sG;have t1:(w5.alloc (.cells #[.int .i64 tk,.int .i64 tp] 63)).cell? ⟨w5.heap.size,1,none⟩=some (.int .i64 tp):=sG;clear d0 d1 hPP0 HXT HXP HRES oA oB hq5;have hbt:=hbx;rcases oe with rfl|rfl|rfl
   .exact Xa
   .have HQ:Hid ((n==0||(n==1&&BU c.sign tp==2))=RES):=HRT.out;have HPA:Hid (∀v,Below w.heap.size w v->Calls prog 87 #[.agg #[.slice p0 n0 q0,.slice (some ⟨lb,lo,none⟩) n1 q1,.slice p2 n2 q2,v3],.int .i64 n,.int .i64 tp] v fun e w'=>e=.returned (.bool RES)/\Below v.heap.size v w'):=fun v hb=>by rw[<-HQ.out];exact IX _ _ _ _ c HCO.out n tp (fun _=>HPP.out rfl) v (HCV.below hb)
    exact YU
   .have HQ:Hid ((Ab n c.slots.length&&decide (BZ c.slots n=⟨tk,tp⟩))=RES):=HRT.out;cases hpl:Ab n c.slots.length
    .exact Yd
    .obtain⟨k,rfl,hkl⟩:=Cp hpl;obtain⟨lb9,lo9,ep,hc9⟩:=Bj.at (p:=p2) (n:=n2) (c:=q2) HCV.slots hkl;subst ep;have e9:BZ c.slots (k:Int)=c.slots[k].ty:=by unfold BZ;rw[Int.toNat_natCast,gB hkl];rfl
     have hq9:=HQ.out;rw[hpl,Bool.true_and,e9]at hq9;obtain⟨⟨⟨sk,sp⟩,sQ,sB,sI⟩,ht9⟩:∃t:Sl,c.slots[k]=t:=⟨_,rfl⟩
     rw[ht9]at hc9 hq9;have HQ9:Hid (decide ((⟨sk,sp⟩:Ty)=⟨tk,tp⟩)=RES):=hq9;have y0:w.cell? ⟨lb9,lo9+k*5,none⟩=some (.int .i64 sk):=hc9.at 0 rfl;have y1:w.cell? ⟨lb9,lo9+k*5+1,none⟩=some (.int .i64 sp):=hc9.at 1 rfl;have x0:=kc hbt y0;have x1:=kc hbt y1;have k0:(0:Int)<=(k:Int):=oM;have k1:(k:Int)<(n2:Int):=by have:=HN2.out;omega
     clear hc9 ht9 e9 hpl hq9 HQ;by_cases hks:sk=tk
     .obtain rfl:=hks;by_cases hps:sp=tp
      .exact Yl
      .go_wp2;refine rG (fun v=>v.cell? ⟨w.heap.size,2,none⟩=some (.slice (some ⟨lb9,lo9,none⟩) n2 q2)/\v.cell? ⟨w.heap.size+1,5,none⟩=some (.int .i64 (k:Int))/\v.cell? ⟨lb9,lo9+k*5,none⟩=some (.int .i64 sk)/\v.cell? ⟨lb9,lo9+k*5+1,none⟩=some (.int .i64 sp)/\v.cell? ⟨w5.heap.size,0,none⟩=some (.int .i64 sk)/\v.cell? ⟨w5.heap.size,1,none⟩=some (.int .i64 tp)) fun hJ=>?_;exact YI
     .go_wp2;refine rG (fun v=>v.cell? ⟨w.heap.size,2,none⟩=some (.slice (some ⟨lb9,lo9,none⟩) n2 q2)/\v.cell? ⟨w.heap.size+1,5,none⟩=some (.int .i64 (k:Int))/\v.cell? ⟨lb9,lo9+k*5,none⟩=some (.int .i64 sk)/\v.cell? ⟨lb9,lo9+k*5+1,none⟩=some (.int .i64 sp)/\v.cell? ⟨w5.heap.size,0,none⟩=some (.int .i64 tk)/\v.cell? ⟨w5.heap.size,1,none⟩=some (.int .i64 tp)) fun hJ=>?_;exact YJ
 .rw[DI,show(D==0)=false by simpa using hD,Bool.false_and]at hRES;have hD1:(D==0)=false:=by simpa using hD
  have hD2:(D != 0)=true:=by simpa using hD
  have HRF:Hid (false=RES):=hRES;clear hRES;go_enter func59,ntmps59;go_wp2_with(first
   |(go_at_call 62;refine(HROW.out _).mono ?_;rintro e w1 ⟨rfl,rfl⟩)
   |(go_at_call 58;refine(HCAN.out _).mono ?_;rintro e w2 ⟨rfl,hb2⟩;have HT2:Hid (TW w (.slice p0 n0 q0) (.slice p1 n1 q1) (.slice p2 n2 q2) v3 (w.heap.size+1) op D A B E n bt (w2.alloc (.cells #[.int .i64 0,.int .i64 0] 63))):=(HT0.next hb2).next (A0 _ _);obtain⟨b1,c0,c1,c2,c3,i0,i1,i2,i3,i4,i5,i6⟩:=HT2.out;have HS2:Hid (w.heap.size+1<w2.heap.size):=A3 (HT0.next hb2).i0;clear hb2))
  go_ret;exact⟨A6 HRF.out,HT2.bel⟩
def Lm(s:Wk)(op:Int):Bool:=if op=34\/op=36 then decide (s.opens.length<64)else if op=35 then decide (0<s.opens.length)&& !Aq s else if op=37 then Aq s else true
def Kn(c:Cd)(s:Wk)(i:Am):Bool:=Aq s&&(i.op != 37&&Fc c.regs (El i) != BT s)
def D5(s:Wk):Prop:=∀b∈s.opens,b.loop=true->0<=b.par
theorem D5.inner{s:Wk}(h:D5 s)(hl:Aq s=true):0<=BT s:=by
 obtain⟨S,O⟩:=s;cases O with
 |nil=>exact Int.le_refl _
 |cons b r=>exact h b (List.mem_cons_self ..) hl
theorem Gp{i:Am}(h:BR i.op=false):El i= -1:=by
 unfold BR at h;simp only[Bool.or_eq_false_iff]at h;have h1:(i.op==29)=false/\(i.op==30)=false/\(i.op==31)=false/\(i.op==32)=false/\(i.op==33)=false:=by
  have:=h.1;simp only[Bool.and_eq_false_iff,decide_eq_false_iff_not]at this;simp only[beq_eq_false_iff_ne,ne_eq];omega
 unfold El;rw[h.2,h1.1,h1.2.1,h1.2.2.1,h1.2.2.2.1,h1.2.2.2.2];rfl
theorem PH{i:Am}(h:BR i.op=true):El i=Eh i (A5 i.op):=by
 unfold BR As at h;simp only[Bool.or_eq_true,Bool.and_eq_true,decide_eq_true_eq]at h;obtain⟨op,D,A,B,E,n,bb⟩:=i;simp only at h |-;have:op=3\/op=4\/op=5\/op=6\/op=7\/op=8\/op=9\/op=10\/op=11\/op=12\/op=13\/op=14\/op=15\/op=29\/op=30\/op=31\/op=32\/op=33:=oM;rcases this with rfl|rfl|rfl|rfl|rfl|rfl|rfl|rfl|rfl|rfl|rfl|rfl|rfl|rfl|rfl|rfl|rfl|rfl<;>rfl
theorem Gq(rs:List Ty):Fc rs (-1)= -1:=by unfold Fc Ab;simp
theorem UL{rs:List Ty}{n q:Int}(hq:0<=q):(Fc rs n=q)↔A7 rs n=⟨3,q⟩:=by
 unfold Fc;cases h:Ab n rs.length
 .have:A7 rs n=⟨0,0⟩:=by unfold A7;rw[h];rfl
  rw[this];simp;omega
 .rw[Bool.true_and];generalize A7 rs n=t;obtain⟨K,P⟩:=t;simp only[Ty.mk.injEq];by_cases hk:K=3
  .subst hk;simp
  .have:(K==3)=false:=by simpa using hk
   rw[this];constructor
   .intro e;simp at e;omega
   .intro e;exact absurd e.1 hk
theorem PD{c:Cd}{s:Wk}{i:Am}(hO:D5 s):Au c s i (A5 i.op)=(!Kn c s i&&Lm s i.op):=by
 have hO':=hO.inner;unfold Au Kn Lm;by_cases h1:i.op=34\/i.op=36
 .rw[if_pos h1,if_pos h1];have hv:Fc c.regs (El i)= -1:=by
   rw[Gp (by rcases h1 with e|e<;>rw[e]<;>decide),Gq]
  have h37:(i.op != 37)=true:=by rcases h1 with e|e<;>rw[e]<;>decide
  rw[hv,h37];cases hl:Aq s
  .rfl
  .have:=hO' hl;have e:((-1:Int) != BT s)=true:=sO;rw[e];rfl
 .rw[if_neg h1,if_neg h1];by_cases h2:i.op=35
  .rw[if_pos h2,if_pos h2];have hv:Fc c.regs (El i)= -1:=by rw[Gp (by rw[h2];decide),Gq]
   rw[hv,h2];have hE:(!s.opens.isEmpty)=decide (0<s.opens.length):=by cases s.opens<;>simp
   rw[hE];cases hl:Aq s
   .simp
   .have:=hO' hl;have e:((-1:Int) != BT s)=true:=sO;rw[e];simp
  .rw[if_neg h2,if_neg h2];by_cases h3:i.op=37
   .rw[if_pos h3,if_pos h3,h3];cases Aq s<;>rfl
   .rw[if_neg h3,if_neg h3];have h37:(i.op != 37)=true:=by simpa using h3
    rw[h37,Bool.true_and,Bool.and_true];cases hl:Aq s
    .rfl
    .have hq:=hO' hl;rw[Bool.not_true,Bool.false_or,Bool.true_and];cases hlp:BR i.op
     .rw[Gp hlp,Gq];have e:((-1:Int) != BT s)=true:=sO;rw[e];rfl
     .rw[PH hlp,Bool.true_and];unfold Ap;rw[Bool.eq_iff_iff,decide_eq_true_eq,<-UL hq];simp
theorem PF{c:Cd}{s:Wk}{i:Am}(hT:Ad c=true)(hO:D5 s):AF c s i=((An i.op&&Dm c i (CK i.op))&&(!Kn c s i&&(EK s i (A5 i.op)&&Lm s i.op))):=by
 unfold AF;rw[Ke hT,PD hO];cases An i.op<;>cases B0 c i (A5 i.op)<;>cases Kn c s i<;>cases Lm s i.op<;>simp
structure Ob where
 op:Int
 par:Int
 set:List Nat
def Vu(S:List Nat)(b:Bk):Ob:=⟨if b.loop then 36 else 34,b.par,S.take b.ahead⟩
def Is(s:Wk):List Ob:=(s.opens.map (Vu s.set)).reverse
theorem GV(s:Wk):(Is s).length=s.opens.length:=by simp[Is]
theorem FI(S:List Nat)(b:Bk)(r:List Bk):Is ⟨S,b::r⟩=(r.map (Vu S)).reverse++[Vu S b]:=by simp[Is]
theorem QI{s:Wk}(h:0<s.opens.length):∃X,(Is s)[s.opens.length-1]? =some ⟨if Aq s then 36 else 34,BT s,X⟩:=by
 obtain⟨S,O⟩:=s;cases O with
 |nil=>simp at h
 |cons b r=>
  refine⟨S.take b.ahead,?_⟩;rw[FI];simp only[List.length_cons,Nat.add_sub_cancel];rw[List.getElem?_append_right sM];simp only[List.length_reverse,List.length_map,Nat.sub_self];rfl
theorem JH{s:Wk}{i:Am}(h:i.op=34\/i.op=36):Al s i=⟨s.set,⟨i.op==36,i.n,s.set.length⟩::s.opens⟩:=by
 unfold Al EI;rw[Iu XW];unfold Du;rw[if_pos h]
theorem JI{s:Wk}{i:Am}(h:i.op=35\/i.op=37):Al s i=AE s:=by
 unfold Al EI;rw[Iu XW];unfold Du;rw[if_neg oM,if_pos h]
theorem F4{s:Wk}{i:Am}(h1:i.op≠34)(h2:i.op≠35)(h3:i.op≠36)(h4:i.op≠37):Al s i=⟨GM s.set i,s.opens⟩:=by
 unfold Al EI Du;rw[if_neg oM,if_neg oM];unfold F7 GM;split<;>rfl
theorem QJ{s:Wk}{i:Am}(h:i.op=34\/i.op=36):Is (Al s i)=Is s++[⟨i.op,i.n,s.set⟩]:=by
 rw[JH h,FI];unfold Is Vu;simp only[List.take_length];rcases h with h|h<;>rw[h]<;>rfl
theorem QK{s:Wk}{i:Am}{n:Nat}(ho:D4 n s)(h1:i.op≠34)(h2:i.op≠35)(h3:i.op≠36)(h4:i.op≠37):Is (Al s i)=Is s:=by
 rw[F4 h1 h2 h3 h4];unfold Is;simp only;congr 1;apply List.map_congr_left;intro b hb;have:=Mp ho.opens b hb;have e:(GM s.set i).take b.ahead=s.set.take b.ahead:=by
  unfold GM;split
  .rw[List.take_append_of_le_length this]
  .rfl
 unfold Vu;rw[e]
theorem F0{s:Wk}{n:Nat}(ho:D4 n s)(h:0<s.opens.length):Is (AE s)=(Is s).take (s.opens.length-1):=by
 obtain⟨S,O⟩:=s;cases O with
 |nil=>simp at h
 |cons b r=>
  rw[FI];simp only[List.length_cons,Nat.add_sub_cancel];rw[List.take_append_of_le_length sM,List.take_of_length_le sM];unfold Is AE;simp only;cases hb:b.loop
  .simp only[Bool.false_eq_true,if_false];congr 1;apply List.map_congr_left;intro a ha;have:=Mp ho.opens.2 a ha;unfold Vu;rw[List.take_take,Nat.min_eq_left this]
  .simp only[if_true]
theorem OP{s:Wk}(hl:Aq s=false){o:Ob}(h:(Is s)[s.opens.length-1]? =some o)(h0:0<s.opens.length):(AE s).set=o.set:=by
 obtain⟨S,O⟩:=s;cases O with
 |nil=>simp at h0
 |cons b r=>
  rw[FI]at h;simp only[List.length_cons,Nat.add_sub_cancel]at h;rw[List.getElem?_append_right sM]at h;simp at h;subst h;have:b.loop=false:=hl;simp[AE,this,Vu]
theorem Mh{s:Wk}(hl:Aq s=true):(AE s).set=s.set:=by
 obtain⟨S,O⟩:=s;cases O with
 |nil=>rfl
 |cons b r=>
  have:b.loop=true:=hl;simp[AE,this]
theorem Dp(s:Wk):(AE s).opens.length=s.opens.length-1:=by
 obtain⟨S,O⟩:=s;cases O with
 |nil=>rfl
 |cons b r=>simp[AE]
theorem D5.step{c:Cd}{s:Wk}{i:Am}(h:D5 s)(t:AF c s i=true):D5 (Al s i):=by
 by_cases h1:i.op=34\/i.op=36
 .rw[JH h1];intro b hb hl;rcases List.mem_cons.1 hb with rfl|hb
  .have h36:i.op=36:=by simpa using hl
   obtain⟨_,h2,_,_⟩:=AX t;rw[h36]at h2;unfold B0 AV at h2;simp only[Bool.and_eq_true]at h2;have h3:=h2.2.2.2.2;rw[if_neg (show(A5 36).n≠7 by decide)]at h3;simp only[Bool.and_eq_true]at h3;have h4:Ab i.n c.sign.length=true:=h3.2;exact(CD.1 h4).1
  .exact h b hb hl
 .by_cases h2:i.op=35\/i.op=37
  .rw[JI h2];intro b hb hl;refine h b ?_ hl;unfold AE at hb;split at hb
   .rename_i e;rw[e];exact List.mem_cons_of_mem _ hb
   .exact hb
  .rw[F4 oM oM oM oM];exact h
theorem D5.start:D5 ⟨[],[]⟩:=fun b hb=>by cases hb
def Cf(M:Nat)(X:List Nat):List Value:=(List.range M).map fun j=>.bool (decide (j∈X))
theorem I5(M:Nat)(X:List Nat):(Cf M X).length=M:=by simp[Cf]
theorem FV{M:Nat}{X:List Nat}{j:Nat}(h:j<M):(Cf M X)[j]? =some (.bool (decide (j∈X))):=by
 unfold Cf;rw[List.getElem?_map,List.getElem?_range h];rfl
theorem L6(M:Nat):Cf M []=List.replicate M (.bool false):=by
 apply List.ext_getElem?;intro j;by_cases h:j<M
 .rw[FV h,List.getElem?_replicate,if_pos h];simp
 .rw[List.getElem?_eq_none Xj,List.getElem?_eq_none sO]
theorem S7{M:Nat}{X:List Nat}{i:Am}(hd:(A5 i.op).d≠0)(hl:i.d.toNat<M):(Cf M X).set i.d.toNat (.bool true)=Cf M (GM X i):=by
 apply List.ext_getElem?;intro j;by_cases h:j<M
 .rw[FV h,List.getElem?_set];by_cases e:i.d.toNat=j
  .rw[if_pos e,if_pos Xj];have:j∈GM X i:=Nl.2 (.inr ⟨hd,e.symm⟩);simp[this]
  .rw[if_neg e,FV h];have:j∈GM X i↔j∈X:=by
    rw[Nl];exact⟨fun q=>q.resolve_right fun q=>e q.2.symm,.inl⟩
   simp[this]
 .rw[List.getElem?_eq_none (by rw[List.length_set,I5];omega),List.getElem?_eq_none Xj]
theorem Pu{M:Nat}{X:List Nat}{i:Am}(hd:(A5 i.op).d=0):GM X i=X:=by unfold GM;rw[if_neg (fun q=>q.1 hd)]
theorem Q6{B:Nat}{V:World}{p:Option Addr}{n q:Nat}{xs:List Value}(h:V.ownsRow B 4 1 (.slice p n q) n xs)(hB:B<=V.heap.size)(hn:n<=140737488351232):
 ∃g c' w',(Builtin.append_ #[78,78] 78 #[.slice p n q,.slice (some ⟨V.heap.size,0,none⟩) 1 1]).run prog (V.alloc (.cells #[.bool false] 4))=.ok (.slice (some ⟨g,0,none⟩) (n+1) c') w'/\Below B V w'/\w'.ownsRow B 4 1 (.slice (some ⟨g,0,none⟩) (n+1) c') (n+1) (xs++[.bool false]):=by
 obtain⟨i0,hi0,hz0,hz1,hz2⟩:=info_parts EX;have hb0:Below V.heap.size V (V.alloc (.cells #[.bool false] 4)):=A0 _ _;have hsz:(V.alloc (.cells #[.bool false] 4)).heap.size=V.heap.size+1:=sM;have h0:=AA h hb0;obtain⟨g,cap,w3,hr,hown,hgrow,hat,hlt⟩:=run_append_lies (P:=prog) (V.alloc (.cells #[.bool false] 4)) 78 78 B 4 i0 _ 1 1 underlying78 hi0 hz0 hz1 hz2 rfl dE (.slice p n q) n xs h0 ⟨V.heap.size,0,none⟩ 1 1 [.bool false] rfl
  (World.news_of_block (cs:=#[.bool false]) (t:=4) (fr:=(0,0)) (heap_alloc_new V _)) Sz dE mL oM sO _ rfl
 exact⟨g,cap,w3,hr,(hb0.mono hB).grown hgrow oM (fun q e=>(h0.lt q e).1),hown⟩
def TQ(o:Ob)(u:Value):List Value:=[.int .i64 o.op,.int .i64 o.par,u]
def Ft:List Ob->List Value->List Value
 |o::l,u::us=>TQ o u++Ft l us
 |_,_=>[]
theorem IR(o:Ob)(u:Value):∀ {l:List Ob} {us:List Value},l.length=us.length->Ft (l++[o]) (us++[u])=Ft l us++TQ o u
 |[],[],_=>by simp[Ft]
 |[],_::_,h=>by simp at h
 |_::_,[],h=>by simp at h
 |a::l,b::us,h=>by simp only[List.cons_append,Ft];rw[IR o u SL,List.append_assoc]
theorem Ga:∀ (m:Nat) (l:List Ob) (us:List Value),(Ft l us).take (m*3)=Ft (l.take m) (us.take m)
 |0,l,us=>by simp[Ft]
 |m+1,[],us=>by simp[Ft]
 |m+1,a::l,[]=>by simp[Ft]
 |m+1,a::l,b::us=>by
  simp only[List.take_succ_cons,Ft];rw[show(m+1)*3=(TQ a b).length+m*3 by simp[TQ];omega,List.take_length_add_append,Ga m l us]
theorem Nx(j:Nat)(hj:j<3):∀ {l:List Ob} {us:List Value} {k:Nat} {o:Ob} {u:Value},l[k]? =some o->us[k]? =some u->(Ft l us)[k*3+j]? =(TQ o u)[j]?
 |[],us,k,o,u,h,_=>by simp at h
 |a::l,[],k,o,u,_,h=>by simp at h
 |a::l,b::us,0,o,u,h,h'=>by
  simp at h h';subst h h';simp only[Ft];rw[Nat.zero_mul,Nat.zero_add,List.getElem?_append_left (by simpa[TQ]using hj)]
 |a::l,b::us,k+1,o,u,h,h'=>by
  simp only[Ft];rw[List.getElem?_append_right (by simp[TQ];omega)];have e:(k+1)*3+j-(TQ a b).length=k*3+j:=by simp[TQ];omega
  rw[e];exact Nx j hj SL (by simpa using h')
theorem OL:(prog.info? 93).map (fun i=>(i.zero,i.size,i.bytes))=some (some (.agg #[.int .i64 0,.int .i64 0,.slice none 0 0]),3,40):=kR
structure SK(B M:Nat)(v:World)(sv ov:Value)(s:Wk)(us:List Value):Prop where
 hB:B<=v.heap.size
 set:v.ownsRow B 4 1 sv M (Cf M s.set)
 opn:v.ownsRow B 93 3 ov s.opens.length (Ft (Is s) us)
 len:us.length=s.opens.length
 each:∀k (h:k<us.length) o,(Is s)[k]? =some o->v.ownsRow B 4 1 us[k] M (Cf M o.set)/\∀b,sv.ownBlock=some b->us[k].ownBlock≠some b
section
variable {B M : Nat} {v v' : World} {sv ov : Value} {s : Wk} {us : List Value}
theorem SK.below(h:SK B M v sv ov s us)(k:Below v.heap.size v v'):SK B M v' sv ov s us:=
 ⟨gH h.hB k.size,AA h.set k,AA h.opn k,h.len,fun j hj o ho=>⟨AA (h.each j hj o ho).1 k,(h.each j hj o ho).2⟩⟩
theorem G0:93≠4:=dE
theorem SK.ins{i:Am}{g q n:Nat}(h:SK B M v (.slice (some ⟨g,0,none⟩) M q) ov s us)(ok:D4 n s)(h1:i.op≠34)(h2:i.op≠35)(h3:i.op≠36)(h4:i.op≠37)(hd:(A5 i.op).d≠0)(hl:i.d.toNat<M):
 SK B M (v.setCell ⟨g,i.d.toNat,none⟩ (.bool true)) (.slice (some ⟨g,0,none⟩) M q) ov (Al s i) us:=by
 have e1:=QK (i:=i) ok h1 h2 h3 h4;have e2:(Al s i).set=GM s.set i/\(Al s i).opens=s.opens:=by rw[F4 h1 h2 h3 h4];exact⟨rfl,rfl⟩
 have hne:∀b,b≠g->(v.setCell ⟨g,i.d.toNat,none⟩ (.bool true)).heap[b]? =v.heap[b]? :=fun b hb=>gE hb;refine⟨by have:=h.hB;simp;omega,?_,?_,by rw[e2.2];exact h.len,fun k hk o ho=>?_⟩
 .rw[e2.1,<-S7 hd hl];exact(h.set.stored _ _).1
 .rw[e1,e2.2];exact Az h.opn fun b hb=>hne b fun e=>F2 h.opn h.set G0 b hb (by rw[e];rfl)
 .rw[e1]at ho;obtain⟨a1,a2⟩:=h.each k hk o ho;exact⟨Az a1 fun b hb=>hne b fun e=>a2 g rfl (by rw[<-e];exact hb),a2⟩
theorem SK.keep{i:Am}{n:Nat}(h:SK B M v sv ov s us)(ok:D4 n s)(h1:i.op≠34)(h2:i.op≠35)(h3:i.op≠36)(h4:i.op≠37)(hd:(A5 i.op).d=0):SK B M v sv ov (Al s i) us:=by
 have e:Al s i=s:=by rw[F4 h1 h2 h3 h4,Pu (M:=0) hd]
 rw[e];exact h
theorem F1{B:Nat}{V:World}{e t:TypeId}{z:Value}{sz by':Nat}(ht:prog.underlying t=some (.slice e))(hi:(prog.info? e).map (fun i=>(i.zero,i.size,i.bytes))=some (some z,sz,by'))(hzs:z.cells.size=sz)(hsz:0<sz){p:Option Addr}{n q:Nat}{xs:List Value}(h:V.ownsRow B e sz (.slice p n q) n xs)(hB:B<=V.heap.size)
 (cs:Array Value) (hcs:cs.size=sz) (h1:∀u∈cs.toList,u.oneCell'=true) (hn:n+1<=maxLen) (hb:(n+1)*by'<=140737488355328) (ty:TypeId):
 ∃g c' w',(Builtin.append_ #[t,t] ty #[.slice p n q,.slice (some ⟨V.heap.size,0,none⟩) 1 1]).run prog (V.alloc (.cells cs e))=.ok (.slice (some ⟨g,0,none⟩) (n+1) c') w'/\Below B V w'/\w'.ownsRow B e sz (.slice (some ⟨g,0,none⟩) (n+1) c') (n+1) (xs++cs.toList)/\∀b,b<V.heap.size->(Value.slice p n q).ownBlock≠some b->w'.heap[b]? =V.heap[b]? :=by
 obtain⟨i0,hi0,hz0,hz1,hz2⟩:=info_parts hi;have hb0:Below V.heap.size V (V.alloc (.cells cs e)):=A0 _ _;have hs:(V.alloc (.cells cs e)).heap.size=V.heap.size+1:=sM;have h0:=AA h hb0;obtain⟨g,cap,w3,hr,hown,hgrow,hat,hlt⟩:=run_append_lies (P:=prog) (V.alloc (.cells cs e)) t ty B e i0 _ sz by' ht hi0 hz0 hz1 hz2 hzs hsz (.slice p n q) n xs h0 ⟨V.heap.size,0,none⟩ 1 1 cs.toList (by simp[hcs])
  (World.news_of_block (cs:=cs) (t:=e) (fr:=(0,0)) (heap_alloc_new V _)) h1 dE hn hb oM _ rfl
 refine⟨g,cap,w3,hr,(hb0.mono hB).grown hgrow oM (fun q e=>(h0.lt q e).1),hown,fun b hb hne=>?_⟩;rw[hgrow.block b oM (Ne.symm hne)];exact hb0.block b hb
theorem SK.push{i:Am}{p:Option Addr}{q:Nat}{u:Value}(h:SK B M v sv (.slice p s.opens.length q) s us)(k:Below v.heap.size v v')(hu:v'.ownsRow v.heap.size 4 1 u M (Cf M s.set))(hi:i.op=34\/i.op=36)(hn:s.opens.length<64)(ty:TypeId):
 ∃g c' w',(Builtin.append_ #[89,89] ty #[.slice p s.opens.length q,.slice (some ⟨v'.heap.size,0,none⟩) 1 1]).run prog (v'.alloc (.cells #[.int .i64 i.op,.int .i64 i.n,u] 93))=.ok (.slice (some ⟨g,0,none⟩) (s.opens.length+1) c') w'/\Below B v w'/\SK B M w' sv (.slice (some ⟨g,0,none⟩) (s.opens.length+1) c') (Al s i) (us++[u])/\∀b,b<v'.heap.size->(Value.slice p s.opens.length q).ownBlock≠some b->w'.heap[b]? =v'.heap[b]? :=by
 have h':=h.below k;have hone:u.oneCell'=true:=by
  obtain⟨p,c,rfl⟩:=At hu;rfl
 obtain⟨g,c',w',hr,hb,ho,hk⟩:=F1 (V:=v') underlying89 OL rfl dE h'.opn h'.hB #[.int .i64 i.op,.int .i64 i.n,u] rfl (by intro x hx;simp at hx;rcases hx with rfl|rfl|rfl<;>first|rfl|exact hone) mL oM ty;have hs:(Al s i).set=s.set/\(Al s i).opens.length=s.opens.length+1:=by rw[JH hi];exact⟨rfl,rfl⟩
 have eo:=QJ (s:=s) hi;have hsz:=k.size;refine⟨g,c',w',hr,(k.mono h.hB).trans hb,⟨gH h'.hB hb.size,?_,?_,by rw[hs.2,List.length_append,h.len];rfl,fun j hj o ho'=>?_⟩,hk⟩
 .rw[hs.1];exact Az h'.set fun b hbb=>hk b (h'.set.lt b hbb).2 (fun e=>F2 h'.opn h'.set G0 b e hbb)
 .rw[hs.2,eo,IR _ _ (by rw[GV];exact h.len.symm)];exact ho
 .rw[eo]at ho';by_cases hlt:j<us.length
  .rw[List.getElem?_append_left (by rw[GV,<-h.len];exact hlt)]at ho';obtain⟨a1,a2⟩:=h'.each j hlt o ho';rw[List.getElem_append_left hlt];exact⟨Az a1 fun b hbb=>hk b (a1.lt b hbb).2 (fun e=>F2 h'.opn a1 G0 b e hbb),a2⟩
  .have hj':j=us.length:=by simp at hj;omega
   subst hj';rw[List.getElem?_append_right (by rw[GV,h.len];exact gF _)]at ho';have e0:us.length-(Is s).length=0:=by rw[GV,h.len];omega
   rw[e0]at ho';simp at ho';subst ho';have e1:(us++[u])[us.length]'hj=u:=sM;rw[e1];refine⟨Da (Az hu fun b hbb=>hk b (hu.lt b hbb).2 (fun e=>?_)) h.hB,fun b hbb e=>?_⟩
   .exact F2 h'.opn hu G0 b e hbb
   .have a1:=(hu.lt b e).1;have a2:=(h.set.lt b hbb).2;omega
theorem SK.pop{p:Option Addr}{q n:Nat}(h:SK B M v sv (.slice p s.opens.length q) s us)(ok:D4 n s)(h0:0<s.opens.length)(hl:Aq s=true):SK B M v sv (.slice p (s.opens.length-1) q) (AE s) (us.take (s.opens.length-1)):=by
 refine⟨h.hB,by rw[Mh hl];exact h.set,?_,by rw[Dp,List.length_take,h.len];omega,fun k hk o ho=>?_⟩
 .rw[Dp,F0 ok h0,<-Ga];exact FK h.opn oM
 .rw[F0 ok h0]at ho;have hk':k<us.length:=by simp at hk;omega
  rw[List.getElem?_take]at ho;split at ho
  .obtain⟨a1,a2⟩:=h.each k hk' o ho;simp only[List.getElem_take];exact⟨a1,a2⟩
  .simp at ho
theorem SK.back{p:Option Addr}{q n:Nat}{u:Value}{o:Ob}(h:SK B M v sv (.slice p s.opens.length q) s us)(ok:D4 n s)(h0:0<s.opens.length)(hl:Aq s=false)(k:Below v.heap.size v v')(ho:(Is s)[s.opens.length-1]? =some o)(hu:v'.ownsRow v.heap.size 4 1 u M (Cf M o.set)):
 SK B M v' u (.slice p (s.opens.length-1) q) (AE s) (us.take (s.opens.length-1)):=by
 refine⟨gH h.hB k.size,by rw[OP hl ho h0];exact Da hu h.hB,?_,by rw[Dp,List.length_take,h.len];omega,fun j hj x hx=>?_⟩
 .rw[Dp,F0 ok h0,<-Ga];exact AA (FK h.opn oM) k
 .rw[F0 ok h0]at hx;have hk':j<us.length:=by simp at hj;omega
  rw[List.getElem?_take]at hx;split at hx
  .obtain⟨a1,a2⟩:=h.each j hk' x hx;simp only[List.getElem_take];refine⟨AA a1 k,fun b hb e=>?_⟩;have b1:=(hu.lt b hb).1;have b2:=(a1.lt b e).2;omega
  .simp at hx
theorem SK.last{g q:Nat}(h:SK B M v sv (.slice (some ⟨g,0,none⟩) s.opens.length q) s us)(h0:0<s.opens.length):∃ (X:List Nat) (u:Value),(Is s)[s.opens.length-1]? =some ⟨if Aq s then 36 else 34,BT s,X⟩/\v.ownsRow B 4 1 u M (Cf M X)/\v.cell? ⟨g,(s.opens.length-1)*3,none⟩=some (.int .i64 (if Aq s then 36 else 34))/\v.cell? ⟨g,(s.opens.length-1)*3+1,none⟩=some (.int .i64 (BT s))/\v.cell? ⟨g,(s.opens.length-1)*3+2,none⟩=some u:=by
 obtain⟨X,hX⟩:=QI h0;have hu:s.opens.length-1<us.length:=by rw[h.len];omega
 obtain⟨a1,a2⟩:=h.each _ hu _ hX;have cl:=fun(j:Nat) (hj:j<3)=>Nx j hj hX (gB hu);have ca:=fun(j:Nat) (hj:j<3)=>h.opn.cellAt ((s.opens.length-1)*3+j) oM;refine⟨X,_,hX,a1,?_,?_,?_⟩
 .have:=ca 0 dE;rw[cl 0 dE]at this;exact this
 .have:=ca 1 dE;rw[cl 1 dE]at this;exact this
 .have:=ca 2 dE;rw[cl 2 dE]at this;exact this
theorem SK.start(w:World)(B:Nat)(h:B<=w.heap.size){sv:Value}(hs:w.ownsRow B 4 1 sv M (Cf M [])):SK B M w sv (.slice none 0 0) ⟨[],[]⟩ []:=
 ⟨h,hs,World.ownsRow_nil _ _ _ 3,rfl,fun k hk=>by simp at hk⟩
end
theorem S8(M:Nat)(X:List Nat):∀u∈Cf M X,u.oneCell'=true:=by
 intro u hu;unfold Cf at hu;simp only[List.mem_map]at hu;obtain⟨j,-,rfl⟩:=hu;rfl
theorem Oj{t e:TypeId}{z:Value}{sz by':Nat}(ht:prog.underlying t=some (.slice e))(hi:(prog.info? e).map (fun i=>(i.zero,i.size,i.bytes))=some (some z,sz,by'))(p:Option Addr)(n c:Nat)(x:Option Addr)(d:Nat)(hn:n<=c)(ty:TypeId)(w:World):(Builtin.append_ #[t,t] ty #[.slice p n c,.slice x 0 d]).run prog w=.ok (.slice p n c) w:=by
 obtain⟨i0,hi0,hz0,hz1,hz2⟩:=info_parts hi;have h1:¬c<n:=oM;cases x with
 |none=>cases p<;>simp[Builtin.append_,run_underlying ht,sizeOf,typeInfo,hi0,Builtin.lenOf,Builtin.firstCells,storeCells,loadCells,loadCellsFrom,hn,h1]
 |some a=>cases p<;>simp[Builtin.append_,run_underlying ht,sizeOf,typeInfo,hi0,Builtin.lenOf,Builtin.firstCells,storeCells,loadCells,loadCellsFrom,hn,h1]
theorem GB{B M:Nat}{X:List Nat}(v:Value)(hM:M<=16384)(w:World)(h:w.ownsRow B 4 1 v M (Cf M X)):
 Calls prog 31 #[v] w fun e w'=>∃u,e=.returned u/\w'.ownsRow w.heap.size 4 1 u M (Cf M X)/\Below w.heap.size w w':=by
 obtain⟨p,q,rfl⟩:=At h;have BD:∃u w',(Builtin.append_ #[78,78] 78 #[.slice none 0 0,.slice p M q]).run prog w=.ok u w'/\w'.ownsRow w.heap.size 4 1 u M (Cf M X)/\Below w.heap.size w w':=by
  by_cases h0:M=0
  .subst h0;refine⟨.slice none 0 0,w,Oj underlying78 EX none 0 0 p q (gF _) _ _,?_,BE _⟩;have:Cf 0 X=[]:=by simp[Cf]
   rw[this];exact World.ownsRow_nil _ _ _ 1
  .obtain⟨g,c,e,hl,hg⟩:=h.form oM;simp only[Value.slice.injEq]at e;obtain⟨rfl,-,rfl⟩:=e;obtain⟨i0,hi0,hz0,hz1,hz2⟩:=info_parts EX;obtain⟨g',cap,w',hr,hown,hgrow,hat,hlt⟩:=run_append_lies (P:=prog) w 78 78 w.heap.size 4 i0 _ 1 1 underlying78 hi0 hz0 hz1 hz2 rfl dE (.slice none 0 0) 0 [] (World.ownsRow_nil _ _ _ 1) ⟨g,0,none⟩ M q (Cf M X) Xj
    (fun j u hu=>by
     have hj:j<M:=by have:=(List.getElem?_eq_some_iff.1 hu).1;rw[I5]at this;exact this
     have e:=h.cellAt j oM;have e2:(⟨g,0,none⟩:Addr).add j=⟨g,j,none⟩:=by simp[Addr.add];omega
     rw[e2,e,hu]) (S8 M X) oM mL oM (gF _) _ rfl
   simp only[Nat.zero_add,List.nil_append]at hr hown;exact⟨_,w',hr,hown,(Below.refl _ _).grown hgrow (gF _) (fun k e=>by simp[Value.ownBlock]at e)⟩
 obtain⟨u,w',hr,ho,hb⟩:=BD;have HR:Hid ((Builtin.append_ #[78,78] 78 #[.slice none 0 0,.slice p M q]).run prog w=.ok u w'):=hr;have HO:Hid (w'.ownsRow w.heap.size 4 1 u M (Cf M X)/\Below w.heap.size w w'):=⟨ho,hb⟩
 clear h hr ho hb;go_enter func31,ntmps31;go_wp2_with(at_builtin;refine AH rF _ _ _ rF _ _ _ rF rF HR.out ?_);go_ret;exact⟨u,rfl,HO.1,HO.2⟩
theorem E0{P:Program}{w w':World}{o:Oper}{a:Act}{K:Act->World->Prop}{Q:Exit->Act->World->Prop}(s x:Operand)(t:TypeId)
 (ho:o.op=.call {callee:=.builtin .append,args:=#[s,x],argTypes:=#[t,t]}) (v v2 v':Value) (hs:a.eval s=v) (hx:a.eval x=v2) (hr:(Builtin.append_ #[t,t] o.type #[v,v2]).run P w=.ok v' w')
 (h:K (a.put o.dst v') w') (y':Bool) (hy:y'=true):if y'=true then Oper.wp P o a w K Q else K (a.put o.dst undef) w:=by
 rw[if_pos hy];exact YV
structure Hd where
 pats:List Int
 whole:Int
structure Fr where
 nums:Nat->Int
 whs:Nat->Int
 vecs:Nat->List Int
 slots:List Hd
 outs:Nat->Nat->Int
def DV{α:Type}(f:Nat->α)(k:Nat)(x:α):Nat->α:=fun j=>if j=k then x else f j
theorem Ct{α:Type}(f:Nat->α)(k:Nat)(x:α):DV f k x k=x:=if_pos rfl
theorem Cv{α:Type}(f:Nat->α){k j:Nat}(x:α)(h:j≠k):DV f k x j=f j:=if_neg h
theorem BA{α:Type}{Q:α->Prop}{f:Nat->α}{k:Nat}{x:α}(h:∀j,Q (f j))(hx:Q x)(j:Nat):Q (DV f k x j):=by
 unfold DV;split
 .exact hx
 .exact h j
def lenOf(c:Cd)(p:Int):Nat:=((c.sign[p.toNat]?).map fun q=>q.len.toNat).getD 0
def Ax(c:Cd)(p:Int):Nat:=if BU c.sign p=2 then 2 else 1
def AO(c:Cd)(t:Ty):Nat:=if t.kind=3 then lenOf c t.par else if t.kind=1 then 1 else 0
def Ef(c:Cd)(t:Ty)(a:Int):List Int:=List.replicate (AO c t) (A9 a)
def AU(c:Cd)(s:Sl):Hd:=⟨Ef c s.ty s.bits,s.int_⟩
def CP(c:Cd)(f:Fr)(r:Int):Hd:=
 if(A7 c.regs r).kind=1 then⟨[f.nums r.toNat],0⟩else if(A7 c.regs r).kind=2 then⟨[],f.whs r.toNat⟩else⟨f.vecs r.toNat,0⟩
def MR(c:Cd)(f:Fr)(r:Int)(h:Hd):Fr:=
 if(A7 c.regs r).kind=1 then{f with nums:=DV f.nums r.toNat (h.pats.headD 0)}
 else if(A7 c.regs r).kind=2 then{f with whs:=DV f.whs r.toNat h.whole}
 else{f with vecs:=DV f.vecs r.toNat h.pats}
def BO(l:List Int)(j:Nat):Int:=(l[j]?).getD 0
def Dv(vs:List (List Int))(p:Nat):List Int:=(vs[p]?).getD []
def Bz(c:Cd)(vs:List (List Int))(i:Am):List Int:=
 (List.range (lenOf c (A7 c.regs i.d).par)).map fun e=>A9 (BO (Dv vs (A7 c.regs i.d).par.toNat) (Ax c (A7 c.regs i.d).par*e+i.n.toNat))
def QP(o:Nat->Nat->Int)(p k n:Nat)(l:List Int):Nat->Nat->Int:=
 fun q j=>if q=p/\j%k=n/\j/k<l.length then BO l (j/k)else o q j
def lF(args:List (List Int))(i:Nat):Nat:=(Dv args i).length
def xF(args:List (List Int))(i j:Nat):Int:=BO (Dv args i) j
def C5(op:Int)(args:List (List Int)):List Int:=
 match Dh (lF args) (args.length-1)with
 |some n=>(List.range n).map fun i=>Hu op (F8 (lF args) (xF args) args.length i 0) (F8 (lF args) (xF args) args.length i 1) (F8 (lF args) (xF args) args.length i 2)
 |none=>[]
def Bb(c:Cd)(f:Fr)(i:Am):List (List Int):=(Ao i (A5 i.op)).map fun r=>(CP c f r).pats
def Gv(c:Cd)(f:Fr)(i:Am):Fr:=
 if(A7 c.regs i.d).kind=2 then{f with whs:=DV f.whs i.d.toNat (f.whs i.a.toNat)}
 else MR c f i.d ⟨if(C5 i.op (Bb c f i)).length<AO c (A7 c.regs i.d)then Ef c (A7 c.regs i.d) ((C5 i.op (Bb c f i)).headD 0)else C5 i.op (Bb c f i),0⟩
def QF(f:Fr)(i:Am):Int:=
 if i.op=16 then Hi (f.nums i.a.toNat) (f.whs i.b.toNat)else if i.op=17 then Ff (f.whs i.a.toNat)
 else if i.op=19 then Im (BO (f.vecs i.a.toNat)) (f.vecs i.a.toNat).length else if i.op=20 then Dy (BO (f.vecs i.a.toNat)) (f.vecs i.a.toNat).length else i.bits
def B6(b:Bool):Int:=if b then 1 else 0
def Fx(f:Fr)(i:Am):Int:=
 if i.op=18 then B6 (Jj (f.nums i.a.toNat) 1065353216 0==1065353216)
 else if i.op=21 then min (f.whs i.a.toNat) 2147483646+1
 else if i.op=22 then B6 (decide (f.whs i.a.toNat<f.whs i.b.toNat))
 else if i.op=23 then B6 (f.whs i.a.toNat==f.whs i.b.toNat)
 else if i.op=24 then B6 (f.whs i.a.toNat != 0&&f.whs i.b.toNat != 0)
 else if i.op=25 then B6 (f.whs i.a.toNat==0)
 else if i.op=26 then(if f.whs i.a.toNat=0 then f.whs i.c.toNat else f.whs i.b.toNat)
 else if i.op=27 then max (f.whs i.a.toNat-f.whs i.b.toNat) 0
 else if i.op=28 then(if f.whs i.b.toNat=0 then 0 else f.whs i.a.toNat/f.whs i.b.toNat)
 else i.n
def Eg(op:Int):Bool:=op==1||op==16||op==17||op==19||op==20
def Bn(op:Int):Bool:=op==2||op==18||(decide (21<=op)&&decide (op<=28))
def DF(c:Cd)(G P:List (List Int))(f:Fr)(i:Am):Fr:=
 if Eg i.op then{f with nums:=DV f.nums i.d.toNat (QF f i)}
 else if Bn i.op then{f with whs:=DV f.whs i.d.toNat (Fx f i)}
 else if i.op=29 then{f with vecs:=DV f.vecs i.d.toNat (Bz c G i)}
 else if i.op=30 then{f with vecs:=DV f.vecs i.d.toNat (Bz c P i)}
 else if i.op=31 then{f with outs:=QP f.outs (A7 c.regs i.a).par.toNat (Ax c (A7 c.regs i.a).par) i.n.toNat (f.vecs i.a.toNat)}
 else if i.op=32 then MR c f i.d ((f.slots[i.n.toNat]?).getD ⟨[],0⟩)
 else if i.op=33 then{f with slots:=f.slots.set i.n.toNat (CP c f i.a)}
 else if 34<=i.op/\i.op<=37 then f
 else Gv c f i
def AS(c:Cd)(G P:List (List Int))(s:Fr×Nat)(i:Am):Fr×Nat:=
 if 0<s.2/\i.op=35 then(s.1,s.2-1)
 else if i.op=34/\(0<s.2\/s.1.whs i.a.toNat=0)then(s.1,s.2+1)
 else if s.2=0 then(DF c G P s.1 i,0)else s
def Tq(c:Cd)(G P:List (List Int))(s:Fr×Nat)(l:List Am):Fr×Nat:=l.foldl (AS c G P) s
def BM(c:Cd):List Hd:=c.slots.map (AU c)
def OV(p:Bd):Nat:=(Cn p).toNat
def MV(c:Cd)(f:Fr):List (List Int):=(List.range c.sign.length).map fun p=>(List.range ((c.sign[p]?).elim 0 OV)).map (f.outs p)
def Fg(c:Cd)(G P:List (List Int)):Bool:=Bq c.sign (G.map (·.length))&&Bq c.sign (P.map (·.length))
end Go.Proofs.YtheanilpbnencaaGreat
