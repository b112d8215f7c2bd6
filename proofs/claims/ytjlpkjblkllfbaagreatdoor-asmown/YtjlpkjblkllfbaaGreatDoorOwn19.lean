import Derived.Test.YtjlpkjblkllfbaaGreatDoorOwn1
import Derived.Test.YtjlpkjblkllfbaaGreatDoorOwn17
import Derived.Deep.DeepCutAuto
namespace Go.Proofs.YtjlpkjblkllfbaaGreatDoor
open Go.RowKit Go.Proofs.Tryz
set_option linter.all false
set_option maxRecDepth 100000
set_option maxHeartbeats 16000000
theorem T3(v0 v1 v2 v3:Value)(c:Cd)(co:BE c)(hT:Ap c=true)(op D A B E n bt La Lb Lc Ld Le:Int)(a b cc d e:UInt8)
 (HROW:Hid (∀w,Calls prog 64 #[.int .i64 op] w fun x w'=>x=.returned (.tuple #[.string ⟨#[a,b,cc,d,e]⟩,.bool true])/\w'=w))
 (HCAN:Hid (∀w,Calls prog 65 #[.int .u32 bt] w fun e w'=>e=.returned (.bool true)/\Below w.heap.size w w'))
 (ix0:∀w,(Instr.index 9 (.string ⟨#[a,b,cc,d,e]⟩) (.int .i64 0)).run prog w=.ok (.int .u8 La) w)
 (ix1:∀w,(Instr.index 9 (.string ⟨#[a,b,cc,d,e]⟩) (.int .i64 1)).run prog w=.ok (.int .u8 Lb) w)
 (ix2:∀w,(Instr.index 9 (.string ⟨#[a,b,cc,d,e]⟩) (.int .i64 2)).run prog w=.ok (.int .u8 Lc) w)
 (ix3:∀w,(Instr.index 9 (.string ⟨#[a,b,cc,d,e]⟩) (.int .i64 3)).run prog w=.ok (.int .u8 Ld) w)
 (PJ:∀w,(Instr.index 9 (.string ⟨#[a,b,cc,d,e]⟩) (.int .i64 4)).run prog w=.ok (.int .u8 Le) w)
 (oa:BG La) (ob:BG Lb) (oc:BG Lc) (od:BG Ld) (oT:Le=112->La=118\/(La=45/\Lb=118)) (o1:(op==1)=false) (o2:(op != 1)=true) (o3:(bt==0)=true) (o4:(bt != 0)=false) (hz0:La=45) (oA:Lb=45->Le=45\/Le=113) (oB:Lb≠45->Le=45\/Le=112\/Le=115)
 (w:World) (hv:DO w v0 v1 v2 v3 c):
 Calls prog 66 #[.agg #[v0,v1,v2,v3],.agg #[.int .i64 op,.int .i64 D,.int .i64 A,.int .i64 B,.int .i64 E,.int .i64 n,.int .u32 bt]] w fun e w'=>e=.returned (.bool (Ak c.regs La D ⟨0,0⟩&&(Ak c.regs Lb A (dR c.regs La D)&&(Ak c.regs Lc B (dR c.regs La D)&&(Ak c.regs Ld E (dR c.regs La D)&&Cp c Le n (tR c.regs La Lb D A))))))/\Below w.heap.size w w':=by
 have KO:∀ (l n:Int) (d:Ty),BG l->∀v,Below w.heap.size w v->Calls prog 103 #[.agg #[v0,v1,v2,v3],.int .u8 l,.int .i64 n,.agg #[.int .i64 d.kind,.int .i64 d.par]] v fun e w'=>e=.returned (.bool (Ak c.regs l n d))/\Below v.heap.size v w':=fun l n d hl v hb=>DH v0 v1 v2 v3 c co l n d hl v (hv.below hb);have HT0:Hid (TW w v0 v1 v2 v3 (w.heap.size+1) op D A B E n bt ((w.alloc (.cells #[v0,v1,v2,v3] 27)).alloc (.cells #[.int .i64 op,.int .i64 D,.int .i64 A,.int .i64 B,.int .i64 E,.int .i64 n,.int .u32 bt] 39))):=TW.start w v0 v1 v2 v3 op D A B E n bt;obtain⟨p0,q0,rfl,-⟩:=id hv.sign;obtain⟨p1,q1,rfl,hr1⟩:=id hv.regs;obtain⟨p2,q2,rfl,-⟩:=id hv.slots;have hREG:∀x:Int,Am x c.regs.length=true->∃ (k lb lo:Nat),x=(k:Int)/\k<c.regs.length/\p1=some ⟨lb,lo,none⟩/\w.cell? ⟨lb,lo+k*2,none⟩=some (.int .i64 (Au c.regs x).kind)/\w.cell? ⟨lb,lo+k*2+1,none⟩=some (.int .i64 (Au c.regs x).par):=by
  exact WN
 have HREG:Hid (∀x:Int,Am x c.regs.length=true->∃ (k lb lo:Nat),x=(k:Int)/\k<c.regs.length/\p1=some ⟨lb,lo,none⟩/\w.cell? ⟨lb,lo+k*2,none⟩=some (.int .i64 (Au c.regs x).kind)/\w.cell? ⟨lb,lo+k*2+1,none⟩=some (.int .i64 (Au c.regs x).par)):=hREG;have HCV:Hid (DO w (.slice p0 c.sign.length q0) (.slice p1 c.regs.length q1) (.slice p2 c.slots.length q2) v3 c):=hv;have HCO:Hid (BE c):=co;have hB0:=co.signL;have hB1:=co.regsL;have hB2:=co.slotsL;have hTy:∀x:Int,Am x c.regs.length=true->EB 118 (Au c.regs x) ⟨0,0⟩=true->Am (Au c.regs x).par c.sign.length=true:=fun x hx hk=>by
  exact WT
 obtain⟨n0,hn0⟩:=gA (c.sign.length)
 obtain⟨n1,hn1⟩:=gA (c.regs.length)
 obtain⟨n2,hn2⟩:=gA (c.slots.length)
 have HN0:Hid (c.sign.length=n0):=hn0;have HN1:Hid (c.regs.length=n1):=hn1;have HN2:Hid (c.slots.length=n2):=hn2;rw[hn0]at hB0;rw[hn1]at hB1;rw[hn2]at hB2;rw[hn0,hn1,hn2]at HCV KO HT0 |-;clear hREG hv hr1 hn0 hn1 hn2 co;have HTY:Hid (∀x:Int,Am x c.regs.length=true->EB 118 (Au c.regs x) ⟨0,0⟩=true->Am (Au c.regs x).par c.sign.length=true):=hTy;clear hTy hT;have hKO0:=fun d=>KO La D d oa;have hKOA:=fun d=>KO Lb A d ob;have hKOB:=fun d=>KO Lc B d oc;have hKOC:=fun d=>KO Ld E d od;clear KO;have hPP0:Le=112->La=118\/(La=45/\Lb=118):=oT;clear oT oc od;obtain⟨RES,hRES⟩:∃R,(Ak c.regs La D ⟨0,0⟩&&(Ak c.regs Lb A (dR c.regs La D)&&(Ak c.regs Lc B (dR c.regs La D)&&(Ak c.regs Ld E (dR c.regs La D)&&Cp c Le n (tR c.regs La Lb D A)))))=R:=⟨_,rfl⟩
 rw[hRES];subst hz0;by_cases hD:D=0
 .subst hD;rw[Do,show((0:Int)==0)=true from rfl,Bool.true_and,show dR c.regs 45 0=⟨0,0⟩from rfl]at hRES;have hXT:Ak c.regs Lb A ⟨0,0⟩=true->Lb≠45->Am A c.regs.length=true:=fun h hl=>by
   rw[Bt hl]at h;simp only[Bool.and_eq_true]at h;exact h.1
  have hXP:Ak c.regs Lb A ⟨0,0⟩=true->Lb=118->EB 118 (Au c.regs A) ⟨0,0⟩=true:=fun h hl=>by
   exact X4
  obtain⟨XA,hXA⟩:∃X,Ak c.regs Lb A ⟨0,0⟩=X:=⟨_,rfl⟩
  obtain⟨XB,hXB⟩:∃X,Ak c.regs Lc B ⟨0,0⟩=X:=⟨_,rfl⟩
  obtain⟨XC,hXC⟩:∃X,Ak c.regs Ld E ⟨0,0⟩=X:=⟨_,rfl⟩
  rw[hXA]at hXT hXP;rw[hXA,hXB,hXC]at hRES;have HKA:Hid _:=hKOA ⟨0,0⟩;have HKB:Hid _:=hKOB ⟨0,0⟩;have HKC:Hid _:=hKOC ⟨0,0⟩;rw[hXA]at HKA;rw[hXB]at HKB;rw[hXC]at HKC;simp only at HKA HKB HKC;have HXT:Hid (XA=true->Lb≠45->Am A c.regs.length=true):=hXT;have HXP:Hid (XA=true->Lb=118->EB 118 (Au c.regs A) ⟨0,0⟩=true):=hXP;have HRES:Hid ((XA&&(XB&&(XC&&Cp c Le n (tR c.regs 45 Lb 0 A))))=RES):=hRES;clear hKO0 hKOA hKOB hKOC hXA hXB hXC hXT hXP hRES;go_enter func66,ntmps66;go_wp2_with(first
   |(go_at_call 64;refine(HROW.out _).mono ?_;rintro e w1 ⟨rfl,rfl⟩)
   |(go_at_call 65;refine(HCAN.out _).mono ?_;rintro e w2 ⟨rfl,hb2⟩;have HT2:Hid (TW w (.slice p0 n0 q0) (.slice p1 n1 q1) (.slice p2 n2 q2) v3 (w.heap.size+1) op 0 A B E n bt (w2.alloc (.cells #[.int .i64 0,.int .i64 0] 43))):=(HT0.next hb2).next (A2 _ _);obtain⟨b1,c0,c1,c2,c3,i0,i1,i2,i3,i4,i5,i6⟩:=HT2.out;have HS2:Hid (w.heap.size+1<w2.heap.size):=Ad (HT0.next hb2).i0;clear hb2))
  have HD:Hid ((w2.alloc (.cells #[.int .i64 0,.int .i64 0] 43)).cell? ⟨w2.heap.size,0,none⟩=some (.int .i64 0)/\(w2.alloc (.cells #[.int .i64 0,.int .i64 0] 43)).cell? ⟨w2.heap.size,1,none⟩=some (.int .i64 0)):=⟨sG,sG⟩
  have HTD:Hid _:=HT2.out;obtain⟨Z,hZ⟩:=gA (w2.heap.size)
  obtain⟨Wd,hWd⟩:∃W,w2.alloc (.cells #[.int .i64 0,.int .i64 0] 43)=W:=⟨_,rfl⟩
  rw[hZ]at HD;rw[hWd]at HD HTD |-;try rw[hZ]
  clear hZ hWd HT2 b1 c0 c1 c2 c3 i0 i1 i2 i3 i4 i5 i6 HT0 HROW HCAN;have HCD:Hid (∀v,Below Wd.heap.size Wd v->v.cell? ⟨w.heap.size,0,none⟩=some (.slice p0 n0 q0)/\v.cell? ⟨w.heap.size,1,none⟩=some (.slice p1 n1 q1)/\v.cell? ⟨w.heap.size,2,none⟩=some (.slice p2 n2 q2)/\v.cell? ⟨w.heap.size,3,none⟩=some v3/\v.cell? ⟨w.heap.size+1,1,none⟩=some (.int .i64 0)/\v.cell? ⟨w.heap.size+1,2,none⟩=some (.int .i64 A)/\v.cell? ⟨w.heap.size+1,3,none⟩=some (.int .i64 B)/\v.cell? ⟨w.heap.size+1,4,none⟩=some (.int .i64 E)/\v.cell? ⟨w.heap.size+1,5,none⟩=some (.int .i64 n)/\v.cell? ⟨Z,0,none⟩=some (.int .i64 0)/\v.cell? ⟨Z,1,none⟩=some (.int .i64 0)):=fun v hb=>⟨kc hb HTD.c0,kc hb HTD.c1,kc hb HTD.c2,kc hb HTD.c3,kc hb HTD.i1,kc hb HTD.i2,kc hb HTD.i3,kc hb HTD.i4,kc hb HTD.i5,kc hb HD.1,kc hb HD.2⟩
  obtain⟨c0,c1,c2,c3,i1,i2,i3,i4,i5,d0,d1⟩:=HCD.out Wd (BY _);cases XA
  .have HQF:Hid (false=RES):=HRES.out;go_wp2;refine rG (fun v=>v.cell? ⟨w.heap.size,0,none⟩=some (.slice p0 n0 q0)/\v.cell? ⟨w.heap.size,1,none⟩=some (.slice p1 n1 q1)/\v.cell? ⟨w.heap.size,2,none⟩=some (.slice p2 n2 q2)/\v.cell? ⟨w.heap.size,3,none⟩=some v3/\v.cell? ⟨w.heap.size+1,1,none⟩=some (.int .i64 0)/\v.cell? ⟨w.heap.size+1,2,none⟩=some (.int .i64 A)/\v.cell? ⟨w.heap.size+1,3,none⟩=some (.int .i64 B)/\v.cell? ⟨w.heap.size+1,4,none⟩=some (.int .i64 E)/\v.cell? ⟨w.heap.size+1,5,none⟩=some (.int .i64 n)/\v.cell? ⟨Z,0,none⟩=some (.int .i64 0)/\v.cell? ⟨Z,1,none⟩=some (.int .i64 0)) fun yH=>?_;refine Tf 0 1 2 3 4 5 ?_;clear yH;refine Aw 6 fun K hK=>?_;go_simp;(go_at_call 103;(with_reducible refine(HKA.out _ (bel HTD.out.bel (A4 _))).mono ?_);rintro e w3 ⟨rfl,hb9⟩;have HB3:Hid (Below Wd.heap.size Wd w3):=bel (A4 _) hb9;clear hb9;obtain⟨c0,c1,c2,c3,i1,i2,i3,i4,i5,d0,d1⟩:=HCD.out w3 HB3.out);try(go_wp2_with fail)
   refine AU hK fun yH=>?_;clear hK K;refine Tb 7 8 ?_;refine Kd 9 10 11 12 ?_;refine Kd 13 14 15 16 ?_;refine Tb 17 18 ?_;refine Kd 19 20 21 22 ?_;refine Kd 23 24 25 26 ?_;refine Bn 27 ?_;refine wpAnyH_done kR ?_ _;go_wp2;go_ret;exact⟨A8 HQF.out,bel HTD.bel HB3.out⟩
  cases XB
  .have HQF:Hid (false=RES):=HRES.out;go_wp2;refine rG (fun v=>v.cell? ⟨w.heap.size,0,none⟩=some (.slice p0 n0 q0)/\v.cell? ⟨w.heap.size,1,none⟩=some (.slice p1 n1 q1)/\v.cell? ⟨w.heap.size,2,none⟩=some (.slice p2 n2 q2)/\v.cell? ⟨w.heap.size,3,none⟩=some v3/\v.cell? ⟨w.heap.size+1,1,none⟩=some (.int .i64 0)/\v.cell? ⟨w.heap.size+1,2,none⟩=some (.int .i64 A)/\v.cell? ⟨w.heap.size+1,3,none⟩=some (.int .i64 B)/\v.cell? ⟨w.heap.size+1,4,none⟩=some (.int .i64 E)/\v.cell? ⟨w.heap.size+1,5,none⟩=some (.int .i64 n)/\v.cell? ⟨Z,0,none⟩=some (.int .i64 0)/\v.cell? ⟨Z,1,none⟩=some (.int .i64 0)) fun yH=>?_;exact WI
  cases XC
  .have HQF:Hid (false=RES):=HRES.out;go_wp2;refine rG (fun v=>v.cell? ⟨w.heap.size,0,none⟩=some (.slice p0 n0 q0)/\v.cell? ⟨w.heap.size,1,none⟩=some (.slice p1 n1 q1)/\v.cell? ⟨w.heap.size,2,none⟩=some (.slice p2 n2 q2)/\v.cell? ⟨w.heap.size,3,none⟩=some v3/\v.cell? ⟨w.heap.size+1,1,none⟩=some (.int .i64 0)/\v.cell? ⟨w.heap.size+1,2,none⟩=some (.int .i64 A)/\v.cell? ⟨w.heap.size+1,3,none⟩=some (.int .i64 B)/\v.cell? ⟨w.heap.size+1,4,none⟩=some (.int .i64 E)/\v.cell? ⟨w.heap.size+1,5,none⟩=some (.int .i64 n)/\v.cell? ⟨Z,0,none⟩=some (.int .i64 0)/\v.cell? ⟨Z,1,none⟩=some (.int .i64 0)) fun yH=>?_;exact WG
  go_wp2;refine rG (fun v=>v.cell? ⟨w.heap.size,0,none⟩=some (.slice p0 n0 q0)/\v.cell? ⟨w.heap.size,1,none⟩=some (.slice p1 n1 q1)/\v.cell? ⟨w.heap.size,2,none⟩=some (.slice p2 n2 q2)/\v.cell? ⟨w.heap.size,3,none⟩=some v3/\v.cell? ⟨w.heap.size+1,1,none⟩=some (.int .i64 0)/\v.cell? ⟨w.heap.size+1,2,none⟩=some (.int .i64 A)/\v.cell? ⟨w.heap.size+1,3,none⟩=some (.int .i64 B)/\v.cell? ⟨w.heap.size+1,4,none⟩=some (.int .i64 E)/\v.cell? ⟨w.heap.size+1,5,none⟩=some (.int .i64 n)/\v.cell? ⟨Z,0,none⟩=some (.int .i64 0)/\v.cell? ⟨Z,1,none⟩=some (.int .i64 0)) fun yH=>?_;refine Tf 0 1 2 3 4 5 ?_;clear yH;refine Aw 6 fun K hK=>?_;go_simp;(go_at_call 103;(with_reducible refine(HKA.out _ (bel HTD.out.bel (A4 _))).mono ?_);rintro e w3 ⟨rfl,hb9⟩;have HB3:Hid (Below Wd.heap.size Wd w3):=bel (A4 _) hb9;clear hb9;obtain⟨c0,c1,c2,c3,i1,i2,i3,i4,i5,d0,d1⟩:=HCD.out w3 HB3.out);try(go_wp2_with fail)
  refine AU hK fun yH=>?_;clear hK K;refine Tf 7 8 9 10 11 12 ?_;refine Tb 13 14 ?_;clear yH;refine Aw 15 fun K hK=>?_;go_simp;(go_at_call 103;(with_reducible refine(HKB.out _ (bel HTD.out.bel HB3.out)).mono ?_);rintro e w4 ⟨rfl,hb9⟩;have HB4:Hid (Below Wd.heap.size Wd w4):=bel HB3.out hb9;clear hb9;clear c0 c1 c2 c3 i1 i2 i3 i4 i5 d0 d1;obtain⟨c0,c1,c2,c3,i1,i2,i3,i4,i5,d0,d1⟩:=HCD.out w4 HB4.out);try(go_wp2_with fail)
  refine AU hK fun yH=>?_;clear hK K;refine Tf 16 17 18 19 20 21 ?_;refine Tc 22 23 24 ?_;clear yH;refine Aw 25 fun K hK=>?_;go_simp;(go_at_call 103;(with_reducible refine(HKC.out _ (bel HTD.out.bel HB4.out)).mono ?_);rintro e w5 ⟨rfl,hb9⟩;have HB5:Hid (Below Wd.heap.size Wd w5):=bel HB4.out hb9;clear hb9;clear c0 c1 c2 c3 i1 i2 i3 i4 i5 d0 d1;obtain⟨c0,c1,c2,c3,i1,i2,i3,i4,i5,d0,d1⟩:=HCD.out w5 HB5.out);try(go_wp2_with fail)
  refine AU hK fun yH=>?_;clear hK K;refine Tb 26 27 ?_;refine wpAnyH_done kR ?_ _;clear c0 c1 c2 c3 i1 i2 i3 i4 i5 d0 d1;have HT5:Hid (TW w (.slice p0 n0 q0) (.slice p1 n1 q1) (.slice p2 n2 q2) v3 (w.heap.size+1) op 0 A B E n bt w5):=HTD.next HB5.out;obtain⟨hb5,c0,c1,c2,c3,i0,i1,i2,i3,i4,i5,i6⟩:=HT5.out;obtain⟨-,-,-,-,-,-,-,-,-,d0,d1⟩:=HCD.out w5 HB5.out;have hs5:w5.heap.size≠w.heap.size+1/\w.heap.size<w5.heap.size:=⟨fun e=>by have:=Ad i0;simp only at this;omega,by have:=Ad c0;simp only at this;omega⟩
  have HAL:Hid (TW w (.slice p0 n0 q0) (.slice p1 n1 q1) (.slice p2 n2 q2) v3 (w.heap.size+1) op 0 A B E n bt (w5.alloc (.cells #[.int .i64 0,.int .i64 0] 43))):=HT5.next (A2 _ _);by_cases hlb:Lb=45
  .have oe:=oA hlb;subst hlb;have HRT:Hid (Cp c Le n ⟨0,0⟩=RES):=HRES.out;clear c0 c1 c2 c3 i0 i1 i2 i3 i4 i5 i6;have t0:(w5.alloc (.cells #[.int .i64 0,.int .i64 0] 43)).cell? ⟨w5.heap.size,0,none⟩=some (.int .i64 0):=sG;have t1:(w5.alloc (.cells #[.int .i64 0,.int .i64 0] 43)).cell? ⟨w5.heap.size,1,none⟩=some (.int .i64 0):=sG;obtain⟨hbx,c0,c1,c2,c3,i0,i1,i2,i3,i4,i5,i6⟩:=HAL.out;clear d0 d1 hPP0 HXT HXP HRES oA oB;have hbt:=hbx;rcases oe with rfl|rfl
   .exact Wb
   .have HQ:Hid (Am n c.sign.length=RES):=HRT.out;have hN0:=HN0.out;by_cases hn0:0<=n
    all_goals
     go_wp2;go_ret;refine⟨A8 ?_,hbt⟩;rw[<-HQ.out];unfold Am;rw[hN0];first|(simp[hn0];done)|(simp[hn0];omega)|(simp[hn0];intro h;omega)
  .have oe:=oB hlb;have hlb1:(Lb==45)=false:=by simpa using hlb
   have hlb2:(Lb != 45)=true:=by simpa using hlb
   obtain⟨ka,lb,lo,rfl,hka,rfl,ya0,ya1⟩:=HREG.out A (HXT.out fT hlb);have HRT0:Hid (Cp c Le n (Au c.regs (ka:Int))=RES):=by
    have h1:=HRES.out;have h2:tR c.regs 45 Lb 0 (ka:Int)=Au c.regs (ka:Int):=if_pos ⟨rfl,hlb⟩;rw[h2]at h1;exact h1
   have HPP0:Hid (Le=112->Am (Au c.regs (ka:Int)).par c.sign.length=true):=fun e=>by
    rcases hPP0 e with h|⟨-,h⟩
    .exact absurd h dE
    .exact HTY.out _ (HXT.out fT hlb) (HXP.out fT h)
   obtain⟨⟨tk,tp⟩,htt⟩:∃t:Ty,Au c.regs (ka:Int)=t:=⟨_,rfl⟩
   rw[htt]at HRT0 HPP0 ya0 ya1;have HRT:Hid (Cp c Le n ⟨tk,tp⟩=RES):=HRT0.out;have HPP:Hid (Le=112->Am tp c.sign.length=true):=HPP0.out;have ka0:(0:Int)<=(ka:Int):=oM;have ka1:(ka:Int)<(n1:Int):=by have:=HN1.out;omega
   clear c0 c1 c2 c3 i0 i1 i2 i3 i4 i5 i6;have hq5:=fun o=>HT5.next (A2 w5 o);have c0:=fun o=>(hq5 o).c0;have c1:=fun o=>(hq5 o).c1;have c2:=fun o=>(hq5 o).c2;have c3:=fun o=>(hq5 o).c3;have i2:=fun o=>(hq5 o).i2;have i5:=fun o=>(hq5 o).i5;have xa0:=fun o=>kc (hq5 o).bel ya0;have xa1:=fun o=>kc (hq5 o).bel ya1;have hbx:=(hq5 (.cells #[.int .i64 tk,.int .i64 tp] 43)).bel;have t0:(w5.alloc (.cells #[.int .i64 tk,.int .i64 tp] 43)).cell? ⟨w5.heap.size,0,none⟩=some (.int .i64 tk):=sG;have t1:(w5.alloc (.cells #[.int .i64 tk,.int .i64 tp] 43)).cell? ⟨w5.heap.size,1,none⟩=some (.int .i64 tp):=sG;clear d0 d1 hPP0 HXT HXP HRES oA oB hq5;have hbt:=hbx;rcases oe with rfl|rfl|rfl
   .exact Wb
   .have HQ:Hid ((n==0||(n==1&&Dh c.sign tp==2))=RES):=HRT.out;have HPA:Hid (∀v,Below w.heap.size w v->Calls prog 104 #[.agg #[.slice p0 n0 q0,.slice (some ⟨lb,lo,none⟩) n1 q1,.slice p2 n2 q2,v3],.int .i64 n,.int .i64 tp] v fun e w'=>e=.returned (.bool RES)/\Below v.heap.size v w'):=fun v hb=>by rw[<-HQ.out];exact IC _ _ _ _ c HCO.out n tp (fun _=>HPP.out rfl) v (HCV.below hb)
    exact Y6
   .have HQ:Hid ((Am n c.slots.length&&decide (El c.slots n=⟨tk,tp⟩))=RES):=HRT.out;cases hpl:Am n c.slots.length
    .exact Xp
    .obtain⟨k,rfl,hkl⟩:=CZ hpl;obtain⟨lb9,lo9,ep,hc9⟩:=Ce.at (p:=p2) (n:=n2) (c:=q2) HCV.slots hkl;subst ep;have e9:El c.slots (k:Int)=c.slots[k].ty:=by unfold El;rw[Int.toNat_natCast,gB hkl];rfl
     have hq9:=HQ.out;rw[hpl,Bool.true_and,e9]at hq9;obtain⟨⟨⟨sk,sp⟩,sQ,sB,sI⟩,ht9⟩:∃t:Sl,c.slots[k]=t:=⟨_,rfl⟩
     rw[ht9]at hc9 hq9;have HQ9:Hid (decide ((⟨sk,sp⟩:Ty)=⟨tk,tp⟩)=RES):=hq9;have y0:w.cell? ⟨lb9,lo9+k*5,none⟩=some (.int .i64 sk):=hc9.at 0 rfl;have y1:w.cell? ⟨lb9,lo9+k*5+1,none⟩=some (.int .i64 sp):=hc9.at 1 rfl;have x0:=kc hbt y0;have x1:=kc hbt y1;have k0:(0:Int)<=(k:Int):=oM;have k1:(k:Int)<(n2:Int):=by have:=HN2.out;omega
     clear hc9 ht9 e9 hpl hq9 HQ;by_cases hks:sk=tk
     .obtain rfl:=hks;by_cases hps:sp=tp
      .exact XD
      .go_wp2;refine rG (fun v=>v.cell? ⟨w.heap.size,2,none⟩=some (.slice (some ⟨lb9,lo9,none⟩) n2 q2)/\v.cell? ⟨w.heap.size+1,5,none⟩=some (.int .i64 (k:Int))/\v.cell? ⟨lb9,lo9+k*5,none⟩=some (.int .i64 sk)/\v.cell? ⟨lb9,lo9+k*5+1,none⟩=some (.int .i64 sp)/\v.cell? ⟨w5.heap.size,0,none⟩=some (.int .i64 sk)/\v.cell? ⟨w5.heap.size,1,none⟩=some (.int .i64 tp)) fun yH=>?_;exact XS
     .go_wp2;refine rG (fun v=>v.cell? ⟨w.heap.size,2,none⟩=some (.slice (some ⟨lb9,lo9,none⟩) n2 q2)/\v.cell? ⟨w.heap.size+1,5,none⟩=some (.int .i64 (k:Int))/\v.cell? ⟨lb9,lo9+k*5,none⟩=some (.int .i64 sk)/\v.cell? ⟨lb9,lo9+k*5+1,none⟩=some (.int .i64 sp)/\v.cell? ⟨w5.heap.size,0,none⟩=some (.int .i64 tk)/\v.cell? ⟨w5.heap.size,1,none⟩=some (.int .i64 tp)) fun yH=>?_;exact XT
 .rw[Do,show(D==0)=false by simpa using hD,Bool.false_and]at hRES;have hD1:(D==0)=false:=by simpa using hD
  have hD2:(D != 0)=true:=by simpa using hD
  have HRF:Hid (false=RES):=hRES;clear hRES;go_enter func66,ntmps66;go_wp2_with(first
   |(go_at_call 64;refine(HROW.out _).mono ?_;rintro e w1 ⟨rfl,rfl⟩)
   |(go_at_call 65;refine(HCAN.out _).mono ?_;rintro e w2 ⟨rfl,hb2⟩;have HT2:Hid (TW w (.slice p0 n0 q0) (.slice p1 n1 q1) (.slice p2 n2 q2) v3 (w.heap.size+1) op D A B E n bt (w2.alloc (.cells #[.int .i64 0,.int .i64 0] 43))):=(HT0.next hb2).next (A2 _ _);obtain⟨b1,c0,c1,c2,c3,i0,i1,i2,i3,i4,i5,i6⟩:=HT2.out;have HS2:Hid (w.heap.size+1<w2.heap.size):=Ad (HT0.next hb2).i0;clear hb2))
  go_ret;exact⟨A8 HRF.out,HT2.bel⟩
def Ss(ln st:Nat)(c:Cd)(x:Bs):Bool:=if ln=0 then decide (x=B5)else(AD (st,c) (Aj [] x)).isSome
def Yr(ln st:Nat)(c:Cd)(x:Bs)(st':Nat)(c':Cd):Prop:=(ln=0->c'=c/\st'=st)/\(ln≠0->AD (st,c) (Aj [] x)=some (st',c'))
theorem GG(E B m0 m1 m2 m3 m4:Nat)(c:Cd)(ln st:Nat)(u0 u1 u2 u3:Value)(T:ByteArray)(hT:T.size<=4194304)(w:World)(hL:BF E w)(h:Cq E B m0 m1 m2 m3 m4 w c (ln:Int) (st:Int) u0 u1 u2 u3)(hln:ln<=4194304)(h3:st<=3)
 (hb:c.sign.length<=4194304/\c.regs.length<=4194304/\c.slots.length<=4194304/\c.list.length<=4194304):
 Calls prog 28 #[.pointer (some ⟨B,0,none⟩),.string T] w fun e w'=>e=.returned (.bool (Ss ln st c (bs T)))/\∃ (c':Cd) (st':Int) (y0 y1 y2 y3:Value),Cq E B m0 m1 m2 m3 m4 w' c' ((ln+1:Nat):Int) st' y0 y1 y2 y3/\Below E w w'/\(Ss ln st c (bs T)=true->∃n:Nat,st'=(n:Int)/\Yr ln st c (bs T) n c'):=by
 refine(NK E B m0 m1 m2 m3 m4 c ln st u0 u1 u2 u3 T hT w hL h hln h3 hb).mono ?_;rintro e w' ⟨ok,c',st',y0,y1,y2,y3,rfl,hr,hbl,h0,h1⟩;have hok:ok=Ss ln st c (bs T):=by
  unfold Ss;by_cases q:ln=0
  .rw[if_pos q];exact(h0 q).1
  .rw[if_neg q];obtain⟨g1,g2⟩:=h1 q;cases e:AD (st,c) (Aj [] (bs T))with
   |none=>exact g2 e
   |some s'=>exact(g1 s' e).1
 refine⟨by rw[hok],c',st',y0,y1,y2,y3,hr,hbl,fun ht=>?_⟩;by_cases q:ln=0
 .obtain⟨-,g1,g2⟩:=h0 q;exact⟨st,g2,fun _=>⟨g1,rfl⟩,fun e=>absurd q e⟩
 .obtain⟨g1,g2⟩:=h1 q;unfold Ss at ht;rw[if_neg q]at ht;obtain⟨s',hs'⟩:=Option.isSome_iff_exists.1 ht;obtain⟨-,k2,k3⟩:=g1 s' hs';exact⟨s'.1,k2,fun e=>absurd e q,fun _=>by rw[hs',k3]⟩
theorem NS(s:ByteArray)(hs:s.size<=4194304)(w:World)(hL:BL w):
 Calls prog 27 #[.string s,.string ⟨#[10]⟩] w fun e w'=>e=.returned (.tuple #[.string (A6 (Lib.cut (bs s) [10]).1),.string (A6 (Lib.cut (bs s) [10]).2.1),.bool (Lib.cut (bs s) [10]).2.2])/\Below w.heap.size w w':=by
 obtain⟨m,hm⟩:=hL.mx;exact(Ei s ⟨#[10]⟩ m w oM hm).mono fun e w' ⟨he,n,hw⟩=>⟨he,by subst hw;exact L6 w n⟩
theorem F9.lens{t:Bs}{ln st:Nat}{c:Cd}{s:Bs}(h:F9 t ln st c s)(ht:t.length<=4194304):ln<=4194304/\(c.sign.length<=4194304/\c.regs.length<=4194304/\c.slots.length<=4194304/\c.list.length<=4194304):=by
 have h1:=h.size;have h2:=h.ok.len;refine⟨?_,?_,?_,?_,?_⟩<;>omega
def Sf:Value->Nat| .string s=>s.size|_=>0
theorem NI(E B m0 m1 m2 m3 m4:Nat)(u0 u1 u2 u3:Value)(T:ByteArray)(hT:T.size<=4194304)(w:World)(hL:BF E w)(h:Cq E B m0 m1 m2 m3 m4 w BD 0 0 u0 u1 u2 u3):
 Calls prog 10 #[.pointer (some ⟨B,0,none⟩),.string T] w fun e w'=>∃ (ok:Bool) (c':Cd) (ln:Nat) (st':Int) (y0 y1 y2 y3:Value),e=.returned (.bool ok)/\Cq E B m0 m1 m2 m3 m4 w' c' (ln:Int) st' y0 y1 y2 y3/\Below E w w'/\E4 (bs T) ok ln c':=by
 have HT:Hid ((bs T).length<=4194304):=by rw[A9];exact hT
 have HTS:=A3 hT;have HLL:=A3 hL;have HR:=A3 h;obtain⟨t,ht⟩:=gA (bs T)
 have HTT:=A3 ht;rw[ht]at HT |-;clear ht h hL hT;go_enter func10,ntmps10;go_wp2_with fail
 go_loopw [1] (fun tv wx=>∃ (ln st:Nat) (c:Cd) (S:ByteArray) (y0 y1 y2 y3:Value),tv=.string S/\Hid (S.size<=4194304/\F9 t ln st c (bs S)/\Cq E B m0 m1 m2 m3 m4 wx c (ln:Int) (st:Int) y0 y1 y2 y3/\Below E w wx)) (fun tv _=>Sf tv)
 case atStart=>exact⟨0,0,BD,T,u0,u1,u2,u3,rfl,HTS.out,by rw[HTT.out];exact F9.start t,HR.out,Below.refl _ _⟩
 case round=>
  obtain⟨ln,st,c,S,y0,y1,y2,y3,rfl,HJ⟩:=hrel;obtain⟨j0,j1,j2,j3⟩:=HJ.out;have hlw:=HLL.below j3;have KC:=NS S j0 wr hlw.laid;have HS:=A3 (A9 S);rcases Gs 10 (bs S)with⟨hc,hn⟩|⟨x,y,hs,hx,hc⟩
  .rw[hc]at KC;have hSS:A6 (bs S)=S:=by cases S;simp[bs,A6]
   simp only[hSS]at KC;obtain⟨Z,hZ⟩:∃Z:ByteArray,A6 ([]:Bs)=Z:=⟨_,rfl⟩
   rw[hZ]at KC;have HKC:=A3 KC;obtain⟨l1,l2⟩:=j1.lens HT.out;have HKT:Hid (∀v,Below wr.heap.size wr v->_):=fun v hv=>GG E B m0 m1 m2 m3 m4 c ln st y0 y1 y2 y3 S j0 v (HLL.below (j3.trans (hv.mono hlw.le))) (j2.below hv) l1 j1.sort l2;obtain⟨k,hk⟩:=gA (Ss ln st c (bs S))
   rw[hk]at HKT;have HO:Hid (∀c',E4 t false (ln+1) c'):=fun c'=>j1.open hn;have HJ3:Hid (∀v v',Below wr.heap.size wr v->Below E v v'->Below E w v'):=fun v v' a b=>(j3.trans (a.mono hlw.le)).trans b;clear j0 j1 j2 j3 hlw KC HS hc hn hSS hZ l1 l2 hk HJ;cases k with
   |true=>
    exact WK
   |false=>
    exact WK
  .rw[hc]at KC;obtain⟨X,hX⟩:∃Z:ByteArray,A6 x=Z:=⟨_,rfl⟩
   obtain⟨Y,hY⟩:∃Z:ByteArray,A6 y=Z:=⟨_,rfl⟩
   have hbX:bs X=x:=by rw[<-hX];exact AZ _
   have hbY:bs Y=y:=by rw[<-hY];exact AZ _
   simp only[hX,hY]at KC;have HKC:=A3 KC;obtain⟨l1,l2⟩:=j1.lens HT.out;have hlen:S.size=X.size+Y.size+1:=by rw[<-A9,hs,<-hbX,<-hbY];simp[A9];omega
   have HKT:Hid (∀v,Below wr.heap.size wr v->_):=fun v hv=>GG E B m0 m1 m2 m3 m4 c ln st y0 y1 y2 y3 X oM v (HLL.below (j3.trans (hv.mono hlw.le))) (j2.below hv) l1 j1.sort l2;rw[hbX]at HKT;obtain⟨k,hk⟩:=gA (Ss ln st c x)
   rw[hk]at HKT;rw[hs]at j1;have HJ3:Hid (∀v v',Below wr.heap.size wr v->Below E v v'->Below E w v'):=fun v v' a b=>(j3.trans (a.mono hlw.le)).trans b;have HLE:=A3 hlen;have HJ0:=A3 j0;cases k with
   |false=>
    have HO:Hid (∀c',E4 t false (ln+1) c'):=fun c'=>by
     unfold Ss at hk;by_cases q:ln=0
     .subst q;rw[if_pos rfl]at hk;exact j1.head hx (by simpa using hk)
     .rw[if_neg q]at hk;exact j1.wrong hx q (by simpa using hk)
    clear j0 j1 j2 j3 hlw KC HS hc hx hX hY l1 l2 hk HJ hs hbX hbY hlen;exact WK
   |true=>
    have HN:Hid (∀ (n:Nat) (c':Cd),Yr ln st c x n c'->(y=[]->E4 t true (ln+1) c')/\(y≠[]->F9 t (ln+1) n c' y)):=fun n c' hn=>by
     unfold Ss at hk;by_cases q:ln=0
     .subst q;rw[if_pos rfl]at hk;have hxh:x=B5:=by simpa using hk
      obtain⟨rfl,rfl⟩:=hn.1 rfl;subst hxh;exact⟨fun e=>by subst e;exact j1.firstEnd,fun e=>j1.first e⟩
     .have hst:=hn.2 q;exact⟨fun e=>by subst e;exact j1.last hx q hst,fun e=>j1.next hx q hst e⟩
    by_cases q:y=[]
    .have hYz:Y=⟨#[]⟩:=by rw[<-hY,q];rfl
     subst hYz;have HQ:=A3 q;clear j0 j1 j2 j3 hlw KC HS hc hx hX hY l1 l2 hk HJ hs hbX hbY hlen q;go_wp2_with(first
      |(go_at_call 27;(with_reducible refine HKC.out.mono ?_);rintro e w1 ⟨rfl,hb1⟩;have HB1:=A3 hb1;clear hb1)
      |(go_at_call 28;(with_reducible refine(HKT.out _ HB1.out).mono ?_);rintro e w2 ⟨rfl,c',st',x0,x1,x2,x3,h2,b2,g2⟩;have H2:=A3 (And.intro h2 (And.intro b2 g2));clear h2 b2 g2))
     go_ret;obtain⟨n,-,hn⟩:=H2.2.2 (by trivial);exact⟨true,c',ln+1,st',x0,x1,x2,x3,rfl,H2.1,HJ3.out _ _ HB1.out H2.2.1,(HN.out n c' hn).1 HQ.out⟩
    .have e1:(Y.toList==([]:List UInt8))=false:=by
      have:Y.toList=y:=by rw[ByteArray.toList_eq];exact hbY
      rw[this];cases y with
      |nil=>exact absurd rfl q
      |cons a r=>rfl
     have e2:(Y.toList==(⟨#[]⟩:ByteArray).toList)=false:=by rw[ByteArray.toList_eq (⟨#[]⟩:ByteArray)];exact e1
     have HQ:=A3 q;have HBY:=A3 hbY;clear j0 j1 j2 j3 hlw KC HS hc hx hX hY l1 l2 hk HJ hs hbX hbY hlen q;go_wp2_with(first
      |(go_at_call 27;(with_reducible refine HKC.out.mono ?_);rintro e w1 ⟨rfl,hb1⟩;have HB1:=A3 hb1;clear hb1)
      |(go_at_call 28;(with_reducible refine(HKT.out _ HB1.out).mono ?_);rintro e w2 ⟨rfl,c',st',x0,x1,x2,x3,h2,b2,g2⟩;have H2:=A3 (And.intro h2 (And.intro b2 g2));clear h2 b2 g2))
     go_roundw
     case rel=>
      obtain⟨n,hn1,hn⟩:=H2.2.2 (by trivial);refine⟨ln+1,n,c',Y,x0,x1,x2,x3,rfl,?_,?_,?_,HJ3.out _ _ HB1.out H2.2.1⟩
      .have:=HLE.out;have:=HJ0.out;omega
      .rw[HBY.out];exact(HN.out n c' hn).2 HQ.out
      .rw[<-hn1];exact H2.1
     case measure=>show Y.size<S.size;have:=HLE.out;omega
theorem JA(E B m0 m1 m2 m3 m4:Nat)(c:Cd)(ln:Nat)(st:Int)(u0 u1 u2 u3:Value)(p:Int)(w:World)(h:Cq E B m0 m1 m2 m3 m4 w c (ln:Int) st u0 u1 u2 u3)(hln:ln<=4194304)(hc:c.list.length<=ln):
 Calls prog 12 #[.pointer (some ⟨B,0,none⟩),.int .i64 p] w fun e w'=>e=.returned (.int .i64 (CV (ln:Int) c p))/\w'=w:=by
 obtain⟨p3,q3,hu3⟩:=h.lenI;unfold CV;obtain⟨N,hN⟩:=gA (c.list.length)
 rw[hN]at hu3 hc |-;have v3:w.cell? ⟨B,3,none⟩=some (.slice p3 N q3):=by rw[h.row.cell (i:=3) dE,<-hu3];rfl
 have v4:w.cell? ⟨B,4,none⟩=some (.int .i64 (ln:Int)):=h.row.cell (i:=4) dE;clear h hu3 hN;by_cases h1:p<0
 .have h2:Am p N=false:=by simp[Am];omega
  rw[h2];exact X6
 by_cases h2:p<(N:Int)
 .have h3:Am p N=true:=by simp[Am];omega
  have h4:¬ (N:Int)<=p:=oM;have w1:IntKind.i64.wrap ((ln:Int)-(N:Int))=(ln:Int)-(N:Int):=by rw[IntKind.wrap_i64];omega
  have w2:IntKind.i64.wrap ((ln:Int)-(N:Int)+p)=(ln:Int)-(N:Int)+p:=by rw[IntKind.wrap_i64];omega
  have w3:IntKind.i64.wrap ((ln:Int)-(N:Int)+p+1)=(ln:Int)-(N:Int)+p+1:=by rw[IntKind.wrap_i64];omega
  rw[h3];clear h3 hln hc;exact X6
 .have h3:Am p N=false:=by simp[Am];omega
  have h4:(N:Int)<=p:=oM;rw[h3];clear h3 hln hc;exact X6
end Go.Proofs.YtjlpkjblkllfbaaGreatDoor
