import Derived.Test.YtjglaibglofddaaGreatSpe1
import Derived.Test.YtjglaibglofddaaGreatSpe12
import Derived.Test.YtjglaibglofddaaGreatSpe14
import Derived.Shelf.Small.Bits
import Derived.Test.YtjglaibglofddaaGreatSpe11
import Derived.Test.YtjglaibglofddaaGreatSpe2
import Derived.Test.YtjglaibglofddaaGreatSpe8
import Derived.Deep.OwnRows
namespace Go.Proofs.YtjglaibglofddaaGreat
open Go.RowKit Go.Proofs.Tryz
set_option linter.all false
set_option maxRecDepth 100000
set_option maxHeartbeats 16000000
theorem Ug(v0 v1 v2 v3:Value)(c:Cd)(co:AZ c)(hT:Ad c=true)(op D A B E n bt La Lb Lc Ld Le:Int)(a b cc d e:UInt8)
 (HROW:Hid (∀w,Calls prog 62 #[.int .i64 op] w fun x w'=>x=.returned (.tuple #[.string ⟨#[a,b,cc,d,e]⟩,.bool true])/\w'=w))
 (HCAN:Hid (∀w,Calls prog 58 #[.int .u32 bt] w fun e w'=>e=.returned (.bool true)/\Below w.heap.size w w'))
 (ix0:∀w,(Instr.index 9 (.string ⟨#[a,b,cc,d,e]⟩) (.int .i64 0)).run prog w=.ok (.int .u8 La) w)
 (ix1:∀w,(Instr.index 9 (.string ⟨#[a,b,cc,d,e]⟩) (.int .i64 1)).run prog w=.ok (.int .u8 Lb) w)
 (ix2:∀w,(Instr.index 9 (.string ⟨#[a,b,cc,d,e]⟩) (.int .i64 2)).run prog w=.ok (.int .u8 Lc) w)
 (ix3:∀w,(Instr.index 9 (.string ⟨#[a,b,cc,d,e]⟩) (.int .i64 3)).run prog w=.ok (.int .u8 Ld) w)
 (Qy:∀w,(Instr.index 9 (.string ⟨#[a,b,cc,d,e]⟩) (.int .i64 4)).run prog w=.ok (.int .u8 Le) w)
 (oa:Br La) (ob:Br Lb) (oc:Br Lc) (od:Br Ld) (oT:Le=112->La=118\/(La=45/\Lb=118)) (o1:(op==1)=false) (o2:(op != 1)=true) (o3:(bt==0)=true) (o4:(bt != 0)=false) (hz0:La=45) (oA:Lb=45->Le=45\/Le=113) (oB:Lb≠45->Le=45\/Le=112\/Le=115)
 (w:World) (hv:Cy w v0 v1 v2 v3 c):
 Calls prog 59 #[.agg #[v0,v1,v2,v3],.agg #[.int .i64 op,.int .i64 D,.int .i64 A,.int .i64 B,.int .i64 E,.int .i64 n,.int .u32 bt]] w fun e w'=>e=.returned (.bool (Af c.regs La D ⟨0,0⟩&&(Af c.regs Lb A (dR c.regs La D)&&(Af c.regs Lc B (dR c.regs La D)&&(Af c.regs Ld E (dR c.regs La D)&&Ci c Le n (tR c.regs La Lb D A))))))/\Below w.heap.size w w':=by
 have KO:∀ (l n:Int) (d:Ty),Br l->∀v,Below w.heap.size w v->Calls prog 86 #[.agg #[v0,v1,v2,v3],.int .u8 l,.int .i64 n,.agg #[.int .i64 d.kind,.int .i64 d.par]] v fun e w'=>e=.returned (.bool (Af c.regs l n d))/\Below v.heap.size v w':=fun l n d hl v hb=>E6 v0 v1 v2 v3 c co l n d hl v (hv.below hb);have HT0:Hid (TW w v0 v1 v2 v3 (w.heap.size+1) op D A B E n bt ((w.alloc (.cells #[v0,v1,v2,v3] 27)).alloc (.cells #[.int .i64 op,.int .i64 D,.int .i64 A,.int .i64 B,.int .i64 E,.int .i64 n,.int .u32 bt] 55))):=TW.start w v0 v1 v2 v3 op D A B E n bt;obtain⟨p0,q0,rfl,-⟩:=id hv.sign;obtain⟨p1,q1,rfl,hr1⟩:=id hv.regs;obtain⟨p2,q2,rfl,-⟩:=id hv.slots;have hREG:∀x:Int,Ab x c.regs.length=true->∃ (k lb lo:Nat),x=(k:Int)/\k<c.regs.length/\p1=some ⟨lb,lo,none⟩/\w.cell? ⟨lb,lo+k*2,none⟩=some (.int .i64 (A7 c.regs x).kind)/\w.cell? ⟨lb,lo+k*2+1,none⟩=some (.int .i64 (A7 c.regs x).par):=by
  exact Xy
 have HREG:Hid (∀x:Int,Ab x c.regs.length=true->∃ (k lb lo:Nat),x=(k:Int)/\k<c.regs.length/\p1=some ⟨lb,lo,none⟩/\w.cell? ⟨lb,lo+k*2,none⟩=some (.int .i64 (A7 c.regs x).kind)/\w.cell? ⟨lb,lo+k*2+1,none⟩=some (.int .i64 (A7 c.regs x).par)):=hREG;have HCV:Hid (Cy w (.slice p0 c.sign.length q0) (.slice p1 c.regs.length q1) (.slice p2 c.slots.length q2) v3 c):=hv;have HCO:Hid (AZ c):=co;have hB0:=co.signL;have hB1:=co.regsL;have hB2:=co.slotsL;have hTy:∀x:Int,Ab x c.regs.length=true->Fb 118 (A7 c.regs x) ⟨0,0⟩=true->Ab (A7 c.regs x).par c.sign.length=true:=fun x hx hk=>by
  exact XG
 obtain⟨n0,hn0⟩:=gA (c.sign.length)
 obtain⟨n1,hn1⟩:=gA (c.regs.length)
 obtain⟨n2,hn2⟩:=gA (c.slots.length)
 have HN0:Hid (c.sign.length=n0):=hn0;have HN1:Hid (c.regs.length=n1):=hn1;have HN2:Hid (c.slots.length=n2):=hn2;rw[hn0]at hB0;rw[hn1]at hB1;rw[hn2]at hB2;rw[hn0,hn1,hn2]at HCV KO HT0 |-;clear hREG hv hr1 hn0 hn1 hn2 co;have HTY:Hid (∀x:Int,Ab x c.regs.length=true->Fb 118 (A7 c.regs x) ⟨0,0⟩=true->Ab (A7 c.regs x).par c.sign.length=true):=hTy;clear hTy hT;have hKO0:=fun d=>KO La D d oa;have hKOA:=fun d=>KO Lb A d ob;have hKOB:=fun d=>KO Lc B d oc;have hKOC:=fun d=>KO Ld E d od;clear KO;have hPP0:Le=112->La=118\/(La=45/\Lb=118):=oT;clear oT oc od;obtain⟨RES,hRES⟩:∃R,(Af c.regs La D ⟨0,0⟩&&(Af c.regs Lb A (dR c.regs La D)&&(Af c.regs Lc B (dR c.regs La D)&&(Af c.regs Ld E (dR c.regs La D)&&Ci c Le n (tR c.regs La Lb D A)))))=R:=⟨_,rfl⟩
 rw[hRES];subst hz0;by_cases hD:D=0
 .subst hD;rw[DI,show((0:Int)==0)=true from rfl,Bool.true_and,show dR c.regs 45 0=⟨0,0⟩from rfl]at hRES;have hXT:Af c.regs Lb A ⟨0,0⟩=true->Lb≠45->Ab A c.regs.length=true:=fun h hl=>by
   rw[Bg hl]at h;simp only[Bool.and_eq_true]at h;exact h.1
  have hXP:Af c.regs Lb A ⟨0,0⟩=true->Lb=118->Fb 118 (A7 c.regs A) ⟨0,0⟩=true:=fun h hl=>by
   exact XL
  obtain⟨XA,hXA⟩:∃X,Af c.regs Lb A ⟨0,0⟩=X:=⟨_,rfl⟩
  obtain⟨XB,hXB⟩:∃X,Af c.regs Lc B ⟨0,0⟩=X:=⟨_,rfl⟩
  obtain⟨XC,hXC⟩:∃X,Af c.regs Ld E ⟨0,0⟩=X:=⟨_,rfl⟩
  rw[hXA]at hXT hXP;rw[hXA,hXB,hXC]at hRES;have HKA:Hid _:=hKOA ⟨0,0⟩;have HKB:Hid _:=hKOB ⟨0,0⟩;have HKC:Hid _:=hKOC ⟨0,0⟩;rw[hXA]at HKA;rw[hXB]at HKB;rw[hXC]at HKC;simp only at HKA HKB HKC;have HXT:Hid (XA=true->Lb≠45->Ab A c.regs.length=true):=hXT;have HXP:Hid (XA=true->Lb=118->Fb 118 (A7 c.regs A) ⟨0,0⟩=true):=hXP;have HRES:Hid ((XA&&(XB&&(XC&&Ci c Le n (tR c.regs 45 Lb 0 A))))=RES):=hRES;clear hKO0 hKOA hKOB hKOC hXA hXB hXC hXT hXP hRES;go_enter func59,ntmps59;go_wp2_with(first
   |(go_at_call 62;refine(HROW.out _).mono ?_;rintro e w1 ⟨rfl,rfl⟩)
   |(go_at_call 58;refine(HCAN.out _).mono ?_;rintro e w2 ⟨rfl,hb2⟩;have HT2:Hid (TW w (.slice p0 n0 q0) (.slice p1 n1 q1) (.slice p2 n2 q2) v3 (w.heap.size+1) op 0 A B E n bt (w2.alloc (.cells #[.int .i64 0,.int .i64 0] 63))):=(HT0.next hb2).next (A0 _ _);obtain⟨b1,c0,c1,c2,c3,i0,i1,i2,i3,i4,i5,i6⟩:=HT2.out;have HS2:Hid (w.heap.size+1<w2.heap.size):=A3 (HT0.next hb2).i0;clear hb2))
  have HD:Hid ((w2.alloc (.cells #[.int .i64 0,.int .i64 0] 63)).cell? ⟨w2.heap.size,0,none⟩=some (.int .i64 0)/\(w2.alloc (.cells #[.int .i64 0,.int .i64 0] 63)).cell? ⟨w2.heap.size,1,none⟩=some (.int .i64 0)):=⟨sG,sG⟩
  have HTD:Hid _:=HT2.out;obtain⟨Z,hZ⟩:=gA (w2.heap.size)
  obtain⟨Wd,hWd⟩:∃W,w2.alloc (.cells #[.int .i64 0,.int .i64 0] 63)=W:=⟨_,rfl⟩
  rw[hZ]at HD;rw[hWd]at HD HTD |-;try rw[hZ]
  clear hZ hWd HT2 b1 c0 c1 c2 c3 i0 i1 i2 i3 i4 i5 i6 HT0 HROW HCAN;have HCD:Hid (∀v,Below Wd.heap.size Wd v->v.cell? ⟨w.heap.size,0,none⟩=some (.slice p0 n0 q0)/\v.cell? ⟨w.heap.size,1,none⟩=some (.slice p1 n1 q1)/\v.cell? ⟨w.heap.size,2,none⟩=some (.slice p2 n2 q2)/\v.cell? ⟨w.heap.size,3,none⟩=some v3/\v.cell? ⟨w.heap.size+1,1,none⟩=some (.int .i64 0)/\v.cell? ⟨w.heap.size+1,2,none⟩=some (.int .i64 A)/\v.cell? ⟨w.heap.size+1,3,none⟩=some (.int .i64 B)/\v.cell? ⟨w.heap.size+1,4,none⟩=some (.int .i64 E)/\v.cell? ⟨w.heap.size+1,5,none⟩=some (.int .i64 n)/\v.cell? ⟨Z,0,none⟩=some (.int .i64 0)/\v.cell? ⟨Z,1,none⟩=some (.int .i64 0)):=fun v hb=>⟨kc hb HTD.c0,kc hb HTD.c1,kc hb HTD.c2,kc hb HTD.c3,kc hb HTD.i1,kc hb HTD.i2,kc hb HTD.i3,kc hb HTD.i4,kc hb HTD.i5,kc hb HD.1,kc hb HD.2⟩
  obtain⟨c0,c1,c2,c3,i1,i2,i3,i4,i5,d0,d1⟩:=HCD.out Wd (BE _);cases XA
  .have HQF:Hid (false=RES):=HRES.out;go_wp2;refine rG (fun v=>v.cell? ⟨w.heap.size,0,none⟩=some (.slice p0 n0 q0)/\v.cell? ⟨w.heap.size,1,none⟩=some (.slice p1 n1 q1)/\v.cell? ⟨w.heap.size,2,none⟩=some (.slice p2 n2 q2)/\v.cell? ⟨w.heap.size,3,none⟩=some v3/\v.cell? ⟨w.heap.size+1,1,none⟩=some (.int .i64 0)/\v.cell? ⟨w.heap.size+1,2,none⟩=some (.int .i64 A)/\v.cell? ⟨w.heap.size+1,3,none⟩=some (.int .i64 B)/\v.cell? ⟨w.heap.size+1,4,none⟩=some (.int .i64 E)/\v.cell? ⟨w.heap.size+1,5,none⟩=some (.int .i64 n)/\v.cell? ⟨Z,0,none⟩=some (.int .i64 0)/\v.cell? ⟨Z,1,none⟩=some (.int .i64 0)) fun hJ=>?_;refine Tf 0 1 2 3 4 5 ?_;clear hJ;refine AC 6 fun K hK=>?_;go_simp;(go_at_call 86;(with_reducible refine(HKA.out _ (bel HTD.out.bel (A4 _))).mono ?_);rintro e w3 ⟨rfl,hb9⟩;have HB3:Hid (Below Wd.heap.size Wd w3):=bel (A4 _) hb9;clear hb9;obtain⟨c0,c1,c2,c3,i1,i2,i3,i4,i5,d0,d1⟩:=HCD.out w3 HB3.out);try(go_wp2_with fail)
   refine AB hK fun hJ=>?_;clear hK K;refine Tb 7 8 ?_;refine Kd 9 10 11 12 ?_;refine Kd 13 14 15 16 ?_;refine Tb 17 18 ?_;refine Kd 19 20 21 22 ?_;refine Kd 23 24 25 26 ?_;refine Bm 27 ?_;refine wpAnyH_done kR ?_ _;go_wp2;go_ret;exact⟨A6 HQF.out,bel HTD.bel HB3.out⟩
  cases XB
  .have HQF:Hid (false=RES):=HRES.out;go_wp2;refine rG (fun v=>v.cell? ⟨w.heap.size,0,none⟩=some (.slice p0 n0 q0)/\v.cell? ⟨w.heap.size,1,none⟩=some (.slice p1 n1 q1)/\v.cell? ⟨w.heap.size,2,none⟩=some (.slice p2 n2 q2)/\v.cell? ⟨w.heap.size,3,none⟩=some v3/\v.cell? ⟨w.heap.size+1,1,none⟩=some (.int .i64 0)/\v.cell? ⟨w.heap.size+1,2,none⟩=some (.int .i64 A)/\v.cell? ⟨w.heap.size+1,3,none⟩=some (.int .i64 B)/\v.cell? ⟨w.heap.size+1,4,none⟩=some (.int .i64 E)/\v.cell? ⟨w.heap.size+1,5,none⟩=some (.int .i64 n)/\v.cell? ⟨Z,0,none⟩=some (.int .i64 0)/\v.cell? ⟨Z,1,none⟩=some (.int .i64 0)) fun hJ=>?_;exact Xv
  cases XC
  .have HQF:Hid (false=RES):=HRES.out;go_wp2;refine rG (fun v=>v.cell? ⟨w.heap.size,0,none⟩=some (.slice p0 n0 q0)/\v.cell? ⟨w.heap.size,1,none⟩=some (.slice p1 n1 q1)/\v.cell? ⟨w.heap.size,2,none⟩=some (.slice p2 n2 q2)/\v.cell? ⟨w.heap.size,3,none⟩=some v3/\v.cell? ⟨w.heap.size+1,1,none⟩=some (.int .i64 0)/\v.cell? ⟨w.heap.size+1,2,none⟩=some (.int .i64 A)/\v.cell? ⟨w.heap.size+1,3,none⟩=some (.int .i64 B)/\v.cell? ⟨w.heap.size+1,4,none⟩=some (.int .i64 E)/\v.cell? ⟨w.heap.size+1,5,none⟩=some (.int .i64 n)/\v.cell? ⟨Z,0,none⟩=some (.int .i64 0)/\v.cell? ⟨Z,1,none⟩=some (.int .i64 0)) fun hJ=>?_;exact Xu
  go_wp2;refine rG (fun v=>v.cell? ⟨w.heap.size,0,none⟩=some (.slice p0 n0 q0)/\v.cell? ⟨w.heap.size,1,none⟩=some (.slice p1 n1 q1)/\v.cell? ⟨w.heap.size,2,none⟩=some (.slice p2 n2 q2)/\v.cell? ⟨w.heap.size,3,none⟩=some v3/\v.cell? ⟨w.heap.size+1,1,none⟩=some (.int .i64 0)/\v.cell? ⟨w.heap.size+1,2,none⟩=some (.int .i64 A)/\v.cell? ⟨w.heap.size+1,3,none⟩=some (.int .i64 B)/\v.cell? ⟨w.heap.size+1,4,none⟩=some (.int .i64 E)/\v.cell? ⟨w.heap.size+1,5,none⟩=some (.int .i64 n)/\v.cell? ⟨Z,0,none⟩=some (.int .i64 0)/\v.cell? ⟨Z,1,none⟩=some (.int .i64 0)) fun hJ=>?_;refine Tf 0 1 2 3 4 5 ?_;clear hJ;refine AC 6 fun K hK=>?_;go_simp;(go_at_call 86;(with_reducible refine(HKA.out _ (bel HTD.out.bel (A4 _))).mono ?_);rintro e w3 ⟨rfl,hb9⟩;have HB3:Hid (Below Wd.heap.size Wd w3):=bel (A4 _) hb9;clear hb9;obtain⟨c0,c1,c2,c3,i1,i2,i3,i4,i5,d0,d1⟩:=HCD.out w3 HB3.out);try(go_wp2_with fail)
  refine AB hK fun hJ=>?_;clear hK K;refine Tf 7 8 9 10 11 12 ?_;refine Tb 13 14 ?_;clear hJ;refine AC 15 fun K hK=>?_;go_simp;(go_at_call 86;(with_reducible refine(HKB.out _ (bel HTD.out.bel HB3.out)).mono ?_);rintro e w4 ⟨rfl,hb9⟩;have HB4:Hid (Below Wd.heap.size Wd w4):=bel HB3.out hb9;clear hb9;clear c0 c1 c2 c3 i1 i2 i3 i4 i5 d0 d1;obtain⟨c0,c1,c2,c3,i1,i2,i3,i4,i5,d0,d1⟩:=HCD.out w4 HB4.out);try(go_wp2_with fail)
  refine AB hK fun hJ=>?_;clear hK K;refine Tf 16 17 18 19 20 21 ?_;refine Tc 22 23 24 ?_;clear hJ;refine AC 25 fun K hK=>?_;go_simp;(go_at_call 86;(with_reducible refine(HKC.out _ (bel HTD.out.bel HB4.out)).mono ?_);rintro e w5 ⟨rfl,hb9⟩;have HB5:Hid (Below Wd.heap.size Wd w5):=bel HB4.out hb9;clear hb9;clear c0 c1 c2 c3 i1 i2 i3 i4 i5 d0 d1;obtain⟨c0,c1,c2,c3,i1,i2,i3,i4,i5,d0,d1⟩:=HCD.out w5 HB5.out);try(go_wp2_with fail)
  refine AB hK fun hJ=>?_;clear hK K;refine Tb 26 27 ?_;refine wpAnyH_done kR ?_ _;clear c0 c1 c2 c3 i1 i2 i3 i4 i5 d0 d1;have HT5:Hid (TW w (.slice p0 n0 q0) (.slice p1 n1 q1) (.slice p2 n2 q2) v3 (w.heap.size+1) op 0 A B E n bt w5):=HTD.next HB5.out;obtain⟨hb5,c0,c1,c2,c3,i0,i1,i2,i3,i4,i5,i6⟩:=HT5.out;obtain⟨-,-,-,-,-,-,-,-,-,d0,d1⟩:=HCD.out w5 HB5.out;have hs5:w5.heap.size≠w.heap.size+1/\w.heap.size<w5.heap.size:=⟨fun e=>by have:=A3 i0;simp only at this;omega,by have:=A3 c0;simp only at this;omega⟩
  have HAL:Hid (TW w (.slice p0 n0 q0) (.slice p1 n1 q1) (.slice p2 n2 q2) v3 (w.heap.size+1) op 0 A B E n bt (w5.alloc (.cells #[.int .i64 0,.int .i64 0] 63))):=HT5.next (A0 _ _);by_cases hlb:Lb=45
  .have oe:=oA hlb;subst hlb;have HRT:Hid (Ci c Le n ⟨0,0⟩=RES):=HRES.out;clear c0 c1 c2 c3 i0 i1 i2 i3 i4 i5 i6;have t0:(w5.alloc (.cells #[.int .i64 0,.int .i64 0] 63)).cell? ⟨w5.heap.size,0,none⟩=some (.int .i64 0):=sG;have t1:(w5.alloc (.cells #[.int .i64 0,.int .i64 0] 63)).cell? ⟨w5.heap.size,1,none⟩=some (.int .i64 0):=sG;obtain⟨hbx,c0,c1,c2,c3,i0,i1,i2,i3,i4,i5,i6⟩:=HAL.out;clear d0 d1 hPP0 HXT HXP HRES oA oB;have hbt:=hbx;rcases oe with rfl|rfl
   .exact Xa
   .have HQ:Hid (Ab n c.sign.length=RES):=HRT.out;have hN0:=HN0.out;by_cases hn0:0<=n
    all_goals
     go_wp2;go_ret;refine⟨A6 ?_,hbt⟩;rw[<-HQ.out];unfold Ab;rw[hN0];first|(simp[hn0];done)|(simp[hn0];omega)|(simp[hn0];intro h;omega)
  .have oe:=oB hlb;have hlb1:(Lb==45)=false:=by simpa using hlb
   have hlb2:(Lb != 45)=true:=by simpa using hlb
   obtain⟨ka,lb,lo,rfl,hka,rfl,ya0,ya1⟩:=HREG.out A (HXT.out fT hlb);have HRT0:Hid (Ci c Le n (A7 c.regs (ka:Int))=RES):=by
    have h1:=HRES.out;have h2:tR c.regs 45 Lb 0 (ka:Int)=A7 c.regs (ka:Int):=if_pos ⟨rfl,hlb⟩;rw[h2]at h1;exact h1
   have HPP0:Hid (Le=112->Ab (A7 c.regs (ka:Int)).par c.sign.length=true):=fun e=>by
    rcases hPP0 e with h|⟨-,h⟩
    .exact absurd h dE
    .exact HTY.out _ (HXT.out fT hlb) (HXP.out fT h)
   obtain⟨⟨tk,tp⟩,htt⟩:∃t:Ty,A7 c.regs (ka:Int)=t:=⟨_,rfl⟩
   rw[htt]at HRT0 HPP0 ya0 ya1;have HRT:Hid (Ci c Le n ⟨tk,tp⟩=RES):=HRT0.out;have HPP:Hid (Le=112->Ab tp c.sign.length=true):=HPP0.out;have ka0:(0:Int)<=(ka:Int):=oM;have ka1:(ka:Int)<(n1:Int):=by have:=HN1.out;omega
   clear c0 c1 c2 c3 i0 i1 i2 i3 i4 i5 i6;have hq5:=fun o=>HT5.next (A0 w5 o);have c0:=fun o=>(hq5 o).c0;have c1:=fun o=>(hq5 o).c1;have c2:=fun o=>(hq5 o).c2;have c3:=fun o=>(hq5 o).c3;have i2:=fun o=>(hq5 o).i2;have i5:=fun o=>(hq5 o).i5;have xa0:=fun o=>kc (hq5 o).bel ya0;have xa1:=fun o=>kc (hq5 o).bel ya1;have hbx:=(hq5 (.cells #[.int .i64 tk,.int .i64 tp] 63)).bel;have t0:(w5.alloc (.cells #[.int .i64 tk,.int .i64 tp] 63)).cell? ⟨w5.heap.size,0,none⟩=some (.int .i64 tk):=sG;have t1:(w5.alloc (.cells #[.int .i64 tk,.int .i64 tp] 63)).cell? ⟨w5.heap.size,1,none⟩=some (.int .i64 tp):=sG;clear d0 d1 hPP0 HXT HXP HRES oA oB hq5;have hbt:=hbx;rcases oe with rfl|rfl|rfl
   .exact Xa
   .have HQ:Hid ((n==0||(n==1&&BU c.sign tp==2))=RES):=HRT.out;have HPA:Hid (∀v,Below w.heap.size w v->Calls prog 87 #[.agg #[.slice p0 n0 q0,.slice (some ⟨lb,lo,none⟩) n1 q1,.slice p2 n2 q2,v3],.int .i64 n,.int .i64 tp] v fun e w'=>e=.returned (.bool RES)/\Below v.heap.size v w'):=fun v hb=>by rw[<-HQ.out];exact IW _ _ _ _ c HCO.out n tp (fun _=>HPP.out rfl) v (HCV.below hb)
    exact YU
   .have HQ:Hid ((Ab n c.slots.length&&decide (BZ c.slots n=⟨tk,tp⟩))=RES):=HRT.out;cases hpl:Ab n c.slots.length
    .exact Yd
    .obtain⟨k,rfl,hkl⟩:=Cp hpl;obtain⟨lb9,lo9,ep,hc9⟩:=Bj.at (p:=p2) (n:=n2) (c:=q2) HCV.slots hkl;subst ep;have e9:BZ c.slots (k:Int)=c.slots[k].ty:=by unfold BZ;rw[Int.toNat_natCast,gB hkl];rfl
     have hq9:=HQ.out;rw[hpl,Bool.true_and,e9]at hq9;obtain⟨⟨⟨sk,sp⟩,sQ,sB,sI⟩,ht9⟩:∃t:Sl,c.slots[k]=t:=⟨_,rfl⟩
     rw[ht9]at hc9 hq9;have HQ9:Hid (decide ((⟨sk,sp⟩:Ty)=⟨tk,tp⟩)=RES):=hq9;have y0:w.cell? ⟨lb9,lo9+k*5,none⟩=some (.int .i64 sk):=hc9.at 0 rfl;have y1:w.cell? ⟨lb9,lo9+k*5+1,none⟩=some (.int .i64 sp):=hc9.at 1 rfl;have x0:=kc hbt y0;have x1:=kc hbt y1;have k0:(0:Int)<=(k:Int):=oM;have k1:(k:Int)<(n2:Int):=by have:=HN2.out;omega
     clear hc9 ht9 e9 hpl hq9 HQ;by_cases hks:sk=tk
     .obtain rfl:=hks;by_cases hps:sp=tp
      .exact Yl
      .go_wp2;refine rG (fun v=>v.cell? ⟨w.heap.size,2,none⟩=some (.slice (some ⟨lb9,lo9,none⟩) n2 q2)/\v.cell? ⟨w.heap.size+1,5,none⟩=some (.int .i64 (k:Int))/\v.cell? ⟨lb9,lo9+k*5,none⟩=some (.int .i64 sk)/\v.cell? ⟨lb9,lo9+k*5+1,none⟩=some (.int .i64 sp)/\v.cell? ⟨w5.heap.size,0,none⟩=some (.int .i64 sk)/\v.cell? ⟨w5.heap.size,1,none⟩=some (.int .i64 tp)) fun hJ=>?_;exact YI
     .go_wp2;refine rG (fun v=>v.cell? ⟨w.heap.size,2,none⟩=some (.slice (some ⟨lb9,lo9,none⟩) n2 q2)/\v.cell? ⟨w.heap.size+1,5,none⟩=some (.int .i64 (k:Int))/\v.cell? ⟨lb9,lo9+k*5,none⟩=some (.int .i64 sk)/\v.cell? ⟨lb9,lo9+k*5+1,none⟩=some (.int .i64 sp)/\v.cell? ⟨w5.heap.size,0,none⟩=some (.int .i64 tk)/\v.cell? ⟨w5.heap.size,1,none⟩=some (.int .i64 tp)) fun hJ=>?_;exact YJ
 .rw[DI,show(D==0)=false by simpa using hD,Bool.false_and]at hRES;have hD1:(D==0)=false:=by simpa using hD
  have hD2:(D != 0)=true:=by simpa using hD
  have HRF:Hid (false=RES):=hRES;clear hRES;go_enter func59,ntmps59;go_wp2_with(first
   |(go_at_call 62;refine(HROW.out _).mono ?_;rintro e w1 ⟨rfl,rfl⟩)
   |(go_at_call 58;refine(HCAN.out _).mono ?_;rintro e w2 ⟨rfl,hb2⟩;have HT2:Hid (TW w (.slice p0 n0 q0) (.slice p1 n1 q1) (.slice p2 n2 q2) v3 (w.heap.size+1) op D A B E n bt (w2.alloc (.cells #[.int .i64 0,.int .i64 0] 63))):=(HT0.next hb2).next (A0 _ _);obtain⟨b1,c0,c1,c2,c3,i0,i1,i2,i3,i4,i5,i6⟩:=HT2.out;have HS2:Hid (w.heap.size+1<w2.heap.size):=A3 (HT0.next hb2).i0;clear hb2))
  go_ret;exact⟨A6 HRF.out,HT2.bel⟩
section
open Go.RowKit Go.Shelf Go.Proofs.Tryz
end
def Qr(x n:Int):Nat->Int->Int
 |0,r=>r
 |k+1,r=>Qr x n k (if n/2^k%2=1 then Ek (Ek r r) x else Ek r r)
def Hi(x n:Int):Int:=if n<1 then 1065353216 else Qr x n (Ce n.toNat-1) (A9 x)
theorem Ma(x n:Int):∀ (k:Nat) (r:Int),0<=r->r<4294967296->0<=Qr x n k r/\Qr x n k r<4294967296
 |0,r,h0,h1=>⟨h0,h1⟩
 |k+1,r,h0,h1=>by
  unfold Qr;split
  .exact Ma x n k _ (DR _ _).1 (DR _ _).2
  .exact Ma x n k _ (DR _ _).1 (DR _ _).2
theorem Tn(x n:Int)(h0:0<=x)(h1:x<4294967296):0<=Hi x n/\Hi x n<4294967296:=by
 unfold Hi;split
 .decide
 .exact Ma x n _ _ (DD x h0 h1).1 (DD x h0 h1).2
theorem SO(n:Int)(h0:0<=n)(h1:n<=9223372036854775807)(i:Nat):bits .and .i64 (n/2^i) 1=n/2^i%2:=by
 have e:n/2^i=((n.toNat/2^i:Nat):Int):=by
  rw[Int.natCast_ediv,Int.natCast_pow,Int.toNat_of_nonneg h0];rfl
 have hle:n.toNat/2^i<=n.toNat:=Nat.div_le_self ..;rw[e];generalize n.toNat/2^i=q at *;have hx:q&&& 1=q%2:=Nat.and_one_is_mod q;show IntKind.i64.wrap ((BitVec.ofInt 64 (q:Int)&&& BitVec.ofInt 64 ((1:Nat):Int)).toNat:Int)=_;rw[BitVec.toNat_and,ofInt_u64 q oM,ofInt_u64 1 dE,hx,IntKind.wrap_i64];omega
theorem RE(x:Int)(h0:0<=x)(h1:x<4294967296)(n:Int)(n0: -9223372036854775808<=n)(n1:n<=9223372036854775807)(w:World):
 Calls prog 37 #[.int .i64 x,.int .i64 n] w fun e w'=>e=.returned (.int .i64 (Hi x n))/\Below w.heap.size w w':=by
 unfold Hi;by_cases c:n<1
 .rw[if_pos c];go_enter func37,ntmps37;go_wp2;go_ret;exact⟨rfl,Iv _⟩
 .rw[if_neg c];have hc:=DD x h0 h1;have hc':0<=A9 x/\A9 x<4294967296:=hc;clear hc;have hB:1<=Ce n.toNat/\Ce n.toNat<=63:=by
   unfold Ce;rw[if_neg oM];have:n.toNat.log2<63:=(Nat.log2_lt oM).2 (by have:(2:Nat)^63=9223372036854775808:=rfl;omega);omega
  generalize hBB:Ce n.toNat=B at *;generalize hP:Qr x n (B-1) (A9 x)=P at *;have HP:Hid (Qr x n (B-1) (A9 x)=P):=hP;clear hP;go_enter func37,ntmps37;go_wp2_with(first
   |(go_at_call 66;refine(EJ _ oM oM _).mono ?_;rintro e w1 ⟨rfl,hb1⟩)
   |(go_at_call 67;refine(E5 _ oM oM _).mono ?_;rintro e w' ⟨rfl,hw'⟩;obtain rfl:=hw'.symm))
  go_loopw [5,6] (fun rv pv wr=>Below w.heap.size w wr/\∃ (j:Nat) (r:Int),j<=62/\rv=.int .i64 r/\pv=.int .i64 ((j:Int)-1)/\0<=r/\r<4294967296/\Qr x n j r=P) (fun _ pv _=>(intOf pv+1).toNat)
  case atStart=>exact⟨hb1,B-1,A9 x,oM,rfl,by rw[show((B-1:Nat):Int)-1=(B:Int)-2 by omega],hc'.1,hc'.2,HP.out⟩
  case round=>
   obtain⟨hbel,j,r,hj,rfl,rfl,r0,r1,hr⟩:=hrel;have HR:Hid (Qr x n j r=P):=hr;clear hr;rcases Nat.eq_zero_or_pos j with hz|hz
   .subst hz;have hPr:r=P:=HR.out;subst hPr;clear HR HP;go_wp2;go_ret;exact⟨rfl,hbel⟩
   .obtain⟨i,rfl⟩:∃i,j=i+1:=⟨j-1,oM⟩
    rw[show((i+1:Nat):Int)-1=(i:Int) by omega];have hbit:=SO n oM n1 i;have l1:=DR r r;have l2:=DR (Ek r r) x;by_cases cb:n/2^i%2=1
    .go_wp2_with(go_at_call 68;refine(I2 _ oM oM _ oM oM _).mono ?_;rintro e w2 ⟨rfl,hb2⟩);go_roundw
     case rel=>exact⟨by repeat(first|assumption|refine H5 ?_ (by assumption)),i,_,oM,rfl,rfl,l2.1,l2.2,by have:=HR.out;rw[Qr,if_pos cb]at this;exact this⟩
     case measure=>first|(simp[intOf];done)|(simp[intOf];omega)
    .go_wp2_with(go_at_call 68;refine(I2 _ oM oM _ oM oM _).mono ?_;rintro e w2 ⟨rfl,hb2⟩);go_roundw
     case rel=>exact⟨by repeat(first|assumption|refine H5 ?_ (by assumption)),i,_,oM,rfl,rfl,l1.1,l1.2,by have:=HR.out;rw[Qr,if_neg cb]at this;exact this⟩
     case measure=>first|(simp[intOf];done)|(simp[intOf];omega)
structure Hd where
 pats:List Int
 whole:Int
structure Fr where
 nums:Nat->Int
 whs:Nat->Int
 vecs:Nat->List Int
 slots:List Hd
 outs:Nat->Nat->Int
def DV{α:Type}(f:Nat->α)(k:Nat)(x:α):Nat->α:=fun j=>if j=k then x else f j
theorem Ct{α:Type}(f:Nat->α)(k:Nat)(x:α):DV f k x k=x:=if_pos rfl
theorem Cv{α:Type}(f:Nat->α){k j:Nat}(x:α)(h:j≠k):DV f k x j=f j:=if_neg h
theorem BA{α:Type}{Q:α->Prop}{f:Nat->α}{k:Nat}{x:α}(h:∀j,Q (f j))(hx:Q x)(j:Nat):Q (DV f k x j):=by
 unfold DV;split
 .exact hx
 .exact h j
def lenOf(c:Cd)(p:Int):Nat:=((c.sign[p.toNat]?).map fun q=>q.len.toNat).getD 0
def Ax(c:Cd)(p:Int):Nat:=if BU c.sign p=2 then 2 else 1
def AO(c:Cd)(t:Ty):Nat:=if t.kind=3 then lenOf c t.par else if t.kind=1 then 1 else 0
def Ef(c:Cd)(t:Ty)(a:Int):List Int:=List.replicate (AO c t) (A9 a)
def AU(c:Cd)(s:Sl):Hd:=⟨Ef c s.ty s.bits,s.int_⟩
def CP(c:Cd)(f:Fr)(r:Int):Hd:=
 if(A7 c.regs r).kind=1 then⟨[f.nums r.toNat],0⟩else if(A7 c.regs r).kind=2 then⟨[],f.whs r.toNat⟩else⟨f.vecs r.toNat,0⟩
def MR(c:Cd)(f:Fr)(r:Int)(h:Hd):Fr:=
 if(A7 c.regs r).kind=1 then{f with nums:=DV f.nums r.toNat (h.pats.headD 0)}
 else if(A7 c.regs r).kind=2 then{f with whs:=DV f.whs r.toNat h.whole}
 else{f with vecs:=DV f.vecs r.toNat h.pats}
def BO(l:List Int)(j:Nat):Int:=(l[j]?).getD 0
def Dv(vs:List (List Int))(p:Nat):List Int:=(vs[p]?).getD []
def Bz(c:Cd)(vs:List (List Int))(i:Am):List Int:=
 (List.range (lenOf c (A7 c.regs i.d).par)).map fun e=>A9 (BO (Dv vs (A7 c.regs i.d).par.toNat) (Ax c (A7 c.regs i.d).par*e+i.n.toNat))
def QP(o:Nat->Nat->Int)(p k n:Nat)(l:List Int):Nat->Nat->Int:=
 fun q j=>if q=p/\j%k=n/\j/k<l.length then BO l (j/k)else o q j
def lF(args:List (List Int))(i:Nat):Nat:=(Dv args i).length
def xF(args:List (List Int))(i j:Nat):Int:=BO (Dv args i) j
def C5(op:Int)(args:List (List Int)):List Int:=
 match Dh (lF args) (args.length-1)with
 |some n=>(List.range n).map fun i=>Hu op (F8 (lF args) (xF args) args.length i 0) (F8 (lF args) (xF args) args.length i 1) (F8 (lF args) (xF args) args.length i 2)
 |none=>[]
def Bb(c:Cd)(f:Fr)(i:Am):List (List Int):=(Ao i (A5 i.op)).map fun r=>(CP c f r).pats
def Gv(c:Cd)(f:Fr)(i:Am):Fr:=
 if(A7 c.regs i.d).kind=2 then{f with whs:=DV f.whs i.d.toNat (f.whs i.a.toNat)}
 else MR c f i.d ⟨if(C5 i.op (Bb c f i)).length<AO c (A7 c.regs i.d)then Ef c (A7 c.regs i.d) ((C5 i.op (Bb c f i)).headD 0)else C5 i.op (Bb c f i),0⟩
def QF(f:Fr)(i:Am):Int:=
 if i.op=16 then Hi (f.nums i.a.toNat) (f.whs i.b.toNat)else if i.op=17 then Ff (f.whs i.a.toNat)
 else if i.op=19 then Im (BO (f.vecs i.a.toNat)) (f.vecs i.a.toNat).length else if i.op=20 then Dy (BO (f.vecs i.a.toNat)) (f.vecs i.a.toNat).length else i.bits
def B6(b:Bool):Int:=if b then 1 else 0
def Fx(f:Fr)(i:Am):Int:=
 if i.op=18 then B6 (Ji (f.nums i.a.toNat) 1065353216 0==1065353216)
 else if i.op=21 then min (f.whs i.a.toNat) 2147483646+1
 else if i.op=22 then B6 (decide (f.whs i.a.toNat<f.whs i.b.toNat))
 else if i.op=23 then B6 (f.whs i.a.toNat==f.whs i.b.toNat)
 else if i.op=24 then B6 (f.whs i.a.toNat != 0&&f.whs i.b.toNat != 0)
 else if i.op=25 then B6 (f.whs i.a.toNat==0)
 else if i.op=26 then(if f.whs i.a.toNat=0 then f.whs i.c.toNat else f.whs i.b.toNat)
 else if i.op=27 then max (f.whs i.a.toNat-f.whs i.b.toNat) 0
 else if i.op=28 then(if f.whs i.b.toNat=0 then 0 else f.whs i.a.toNat/f.whs i.b.toNat)
 else i.n
def Eg(op:Int):Bool:=op==1||op==16||op==17||op==19||op==20
def Bn(op:Int):Bool:=op==2||op==18||(decide (21<=op)&&decide (op<=28))
def DF(c:Cd)(G P:List (List Int))(f:Fr)(i:Am):Fr:=
 if Eg i.op then{f with nums:=DV f.nums i.d.toNat (QF f i)}
 else if Bn i.op then{f with whs:=DV f.whs i.d.toNat (Fx f i)}
 else if i.op=29 then{f with vecs:=DV f.vecs i.d.toNat (Bz c G i)}
 else if i.op=30 then{f with vecs:=DV f.vecs i.d.toNat (Bz c P i)}
 else if i.op=31 then{f with outs:=QP f.outs (A7 c.regs i.a).par.toNat (Ax c (A7 c.regs i.a).par) i.n.toNat (f.vecs i.a.toNat)}
 else if i.op=32 then MR c f i.d ((f.slots[i.n.toNat]?).getD ⟨[],0⟩)
 else if i.op=33 then{f with slots:=f.slots.set i.n.toNat (CP c f i.a)}
 else if 34<=i.op/\i.op<=37 then f
 else Gv c f i
def AS(c:Cd)(G P:List (List Int))(s:Fr×Nat)(i:Am):Fr×Nat:=
 if 0<s.2/\i.op=35 then(s.1,s.2-1)
 else if i.op=34/\(0<s.2\/s.1.whs i.a.toNat=0)then(s.1,s.2+1)
 else if s.2=0 then(DF c G P s.1 i,0)else s
def Tq(c:Cd)(G P:List (List Int))(s:Fr×Nat)(l:List Am):Fr×Nat:=l.foldl (AS c G P) s
def BM(c:Cd):List Hd:=c.slots.map (AU c)
def OV(p:Bd):Nat:=(Cn p).toNat
def MV(c:Cd)(f:Fr):List (List Int):=(List.range c.sign.length).map fun p=>(List.range ((c.sign[p]?).elim 0 OV)).map (f.outs p)
def Fg(c:Cd)(G P:List (List Int)):Bool:=Bq c.sign (G.map (·.length))&&Bq c.sign (P.map (·.length))
structure Un(U:Nat->Prop)(w w':World):Prop where
 os:w'.os=w.os
 tape:w'.tape=w.tape
 output:w'.output=w.output
 size:w.heap.size<=w'.heap.size
 block:∀b,b<w.heap.size->¬U b->w'.heap[b]? =w.heap[b]?
section
variable {U T : Nat -> Prop} {w w' w'' : World}
theorem Un.refl(U:Nat->Prop)(w:World):Un U w w:=⟨rfl,rfl,rfl,gF _,fun _ _ _=>rfl⟩
theorem Un.trans(h:Un U w w')(k:Un U w' w''):Un U w w'':=
 ⟨k.os.trans h.os,k.tape.trans h.tape,k.output.trans h.output,gH h.size k.size,fun b hb hu=>(k.block b (Nat.lt_of_lt_of_le hb h.size) hu).trans (h.block b hb hu)⟩
theorem Un.of(h:Below w.heap.size w w'):Un U w w':=⟨h.os,h.tape,h.output,h.size,fun b hb _=>h.block b hb⟩
theorem Un.mono(h:Un U w w')(k:∀b,U b->T b):Un T w w':=⟨h.os,h.tape,h.output,h.size,fun b hb hu=>h.block b hb fun q=>hu (k b q)⟩
theorem Un.on(h:Un U w w')(k:Below w'.heap.size w' w''):Un U w w'':=h.trans (Un.of k)
theorem Un.below{B:Nat}(h:Un U w w')(hB:B<=w.heap.size)(k:∀b,U b->B<=b):Below B w w':=
 ⟨h.os,h.tape,h.output,h.size,fun b hb=>h.block b oM fun q=>by have:=k b q;omega⟩
theorem Un.setCell(h:Un U w w'){p:Addr}(hp:U p.block)(x:Value):Un U w (w'.setCell p x):=
 ⟨h.os,h.tape,h.output,by simpa[World.setCell]using h.size,fun b hb hu=>by
  have hne:b≠p.block:=fun e=>hu (by rw[e];exact hp)
  rw[gE (by exact hne)];exact h.block b hb hu⟩
end
def F6{α:Type}(T:Nat->Prop)(k:Nat)(f:α->List Value)(w:World)(v:Value)(l:List α):Prop:=
 ∃p c,v=.slice p l.length c/\(l=[]\/∃b o,p=some ⟨b,o,none⟩/\¬T b/\b<w.heap.size/\∀i (h:i<l.length),Ai w b (o+i*k) (f l[i]))
section
variable {α : Type} {T U : Nat -> Prop} {k : Nat} {f : α -> List Value} {w w' : World} {v : Value} {l : List α}
theorem F6.row(h:F6 T k f w v l):Bj k f w v l:=by
 obtain⟨p,c,hv,h⟩:=h;exact⟨p,c,hv,h.imp id fun⟨b,o,hp,_,_,h⟩=>⟨b,o,hp,h⟩⟩
theorem F6.un(h:F6 T k f w v l)(q:Un U w w')(hu:∀b,b<w.heap.size->U b->T b):F6 T k f w' v l:=by
 obtain⟨p,c,hv,h⟩:=h;exact⟨p,c,hv,h.imp id fun⟨b,o,hp,ht,hb,h⟩=>⟨b,o,hp,ht,Nat.lt_of_lt_of_le hb q.size,fun i hi=>(h i hi).of_block (q.block b hb fun e=>ht (hu b hb e))⟩⟩
theorem F6.below(h:F6 T k f w v l)(q:Below w.heap.size w w'):F6 T k f w' v l:=h.un (U:=fun _=>False) (Un.of q) (fun _ _ e=>e.elim)
theorem F6.mono(h:F6 T k f w v l)(hu:∀b,b<w.heap.size->U b->T b):F6 U k f w v l:=by
 obtain⟨p,c,hv,h⟩:=h;exact⟨p,c,hv,h.imp id fun⟨b,o,hp,ht,hb,h⟩=>⟨b,o,hp,fun e=>ht (hu b hb e),hb,h⟩⟩
end
def Xm(x:Int):List Value:=[.int .u32 x]
abbrev Pt(T:Nat->Prop)(w:World)(v:Value)(l:List Int):Prop:=F6 T 1 Xm w v l
theorem Pt.reads{T:Nat->Prop}{w:World}{p:Option Addr}{n c:Nat}{l:List Int}(h:Pt T w (.slice p n c) l):n=l.length/\AP w p n (fun j=>.int .u32 (BO l j)):=by
 obtain⟨p',c',hv,h⟩:=h;simp only[Value.slice.injEq]at hv;obtain⟨rfl,rfl,rfl⟩:=hv;refine⟨rfl,?_⟩;rcases h with h|⟨b,o,hp,_,_,h⟩
 .exact .inl (by rw[h];rfl)
 .refine .inr ⟨b,o,hp,fun i hi=>?_⟩;have:=(h i hi).at 0 (v:=.int .u32 l[i]) rfl;rw[Nat.mul_one,Nat.add_zero]at this;rw[this];simp[BO,gB hi]
theorem Pt.len{T:Nat->Prop}{w:World}{v:Value}{l:List Int}(h:Pt T w v l):∃p c,v=.slice p l.length c:=by
 obtain⟨p,c,hv,_⟩:=h;exact⟨p,c,hv⟩
def Fe(T:Nat->Prop)(w:World)(v:Value)(L:List (List Int)):Prop:=
 ∃p c,v=.slice p L.length c/\(L=[]\/∃b o,p=some ⟨b,o,none⟩/\¬T b/\b<w.heap.size/\∀i (h:i<L.length),∃u,w.cell? ⟨b,o+i,none⟩=some u/\Pt T w u L[i])
theorem Fe.un{T U:Nat->Prop}{w w':World}{v:Value}{L:List (List Int)}(h:Fe T w v L)(q:Un U w w')(hu:∀b,b<w.heap.size->U b->T b):Fe T w' v L:=by
 obtain⟨p,c,hv,h⟩:=h;refine⟨p,c,hv,h.imp id fun⟨b,o,hp,ht,hb,h⟩=>⟨b,o,hp,ht,Nat.lt_of_lt_of_le hb q.size,fun i hi=>?_⟩⟩;obtain⟨u,h1,h2⟩:=h i hi;exact⟨u,(gC (q.block b hb fun e=>ht (hu b hb e))).trans h1,h2.un q hu⟩
theorem Fe.below{T:Nat->Prop}{w w':World}{v:Value}{L:List (List Int)}(h:Fe T w v L)(q:Below w.heap.size w w'):Fe T w' v L:=h.un (U:=fun _=>False) (Un.of q) (fun _ _ e=>e.elim)
theorem Fe.mono{T U:Nat->Prop}{w:World}{v:Value}{L:List (List Int)}(h:Fe T w v L)(hu:∀b,b<w.heap.size->U b->T b):Fe U w v L:=by
 obtain⟨p,c,hv,h⟩:=h;refine⟨p,c,hv,h.imp id fun⟨b,o,hp,ht,hb,h⟩=>⟨b,o,hp,fun e=>ht (hu b hb e),hb,fun i hi=>?_⟩⟩;obtain⟨u,h1,h2⟩:=h i hi;exact⟨u,h1,h2.mono hu⟩
structure Xp where
 C:Nat
 S:Nat
 FR:Nat
 NB:Nat
 WB:Nat
 MB:Nat
 UB:Nat
 K:Nat
 ub:Nat->Nat
 sp:Option Addr
 sc:Nat
 v0:Value
 v1:Value
 v2:Value
 v3:Value
 gv:Value
 pv:Value

end Go.Proofs.YtjglaibglofddaaGreat
