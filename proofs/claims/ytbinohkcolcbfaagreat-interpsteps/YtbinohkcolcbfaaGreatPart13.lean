import Derived.Test.YtbinohkcolcbfaaGreatPart1
import Derived.Test.YtbinohkcolcbfaaGreatPart12
import Derived.Test.YtbinohkcolcbfaaGreatPart2
import Derived.Test.YtbinohkcolcbfaaGreatPart11
import Derived.Test.YtbinohkcolcbfaaGreatPart8
import Derived.Test.YtbinohkcolcbfaaGreatPart7
namespace Go.Proofs.YtbinohkcolcbfaaGreat
open Go.RowKit Go.Proofs.Tryz
set_option linter.unusedVariables false
set_option linter.unusedSimpArgs false
set_option maxRecDepth 100000
set_option maxHeartbeats 16000000
theorem rfits_C(v0 v1 v2 v3:Value)(c:Cd)(co:CdOk c)(hT:Zif c=true)(op D A B E n bt La Lb Lc Ld Le:Int)(a b cc d e:UInt8)
 (HROW:Hid (∀w,Calls prog 67 #[.int .i64 op] w fun x w'=>x=.returned (.tuple #[.string ⟨#[a,b,cc,d,e]⟩,.bool true])/\w'=w))
 (HCAN:Hid (∀w,Calls prog 63 #[.int .u32 bt] w fun e w'=>e=.returned (.bool true)/\Below w.heap.size w w'))
 (ix0:∀w,(Instr.index 9 (.string ⟨#[a,b,cc,d,e]⟩) (.int .i64 0)).run prog w=.ok (.int .u8 La) w)
 (ix1:∀w,(Instr.index 9 (.string ⟨#[a,b,cc,d,e]⟩) (.int .i64 1)).run prog w=.ok (.int .u8 Lb) w)
 (ix2:∀w,(Instr.index 9 (.string ⟨#[a,b,cc,d,e]⟩) (.int .i64 2)).run prog w=.ok (.int .u8 Lc) w)
 (ix3:∀w,(Instr.index 9 (.string ⟨#[a,b,cc,d,e]⟩) (.int .i64 3)).run prog w=.ok (.int .u8 Ld) w)
 (ix4:∀w,(Instr.index 9 (.string ⟨#[a,b,cc,d,e]⟩) (.int .i64 4)).run prog w=.ok (.int .u8 Le) w)
 (oa:Zjz La) (ob:Zjz Lb) (oc:Zjz Lc) (od:Zjz Ld) (oT:Le=112->La=118\/(La=45/\Lb=118)) (o1:(op==1)=true) (o2:(op != 1)=false) (hz0:La≠45) (oe:Le=45)
 (w:World) (hv:CdV w v0 v1 v2 v3 c):
 Calls prog 64 #[.agg #[v0,v1,v2,v3],.agg #[.int .i64 op,.int .i64 D,.int .i64 A,.int .i64 B,.int .i64 E,.int .i64 n,.int .u32 bt]] w fun e w'=>e=.returned (.bool (Zhz c.regs La D ⟨0,0⟩&&(Zhz c.regs Lb A (dR c.regs La D)&&(Zhz c.regs Lc B (dR c.regs La D)&&(Zhz c.regs Ld E (dR c.regs La D)&&Zlm c Le n (tR c.regs La Lb D A))))))/\Below w.heap.size w w':=by
 have KO:∀ (l n:Int) (d:Ty),Zjz l->∀v,Below w.heap.size w v->Calls prog 104 #[.agg #[v0,v1,v2,v3],.int .u8 l,.int .i64 n,.agg #[.int .i64 d.kind,.int .i64 d.par]] v fun e w'=>e=.returned (.bool (Zhz c.regs l n d))/\Below v.heap.size v w':=fun l n d hl v hb=>Zql v0 v1 v2 v3 c co l n d hl v (hv.below hb);have HT0:Hid (TW w v0 v1 v2 v3 (w.heap.size+1) op D A B E n bt ((w.alloc (.cells #[v0,v1,v2,v3] 27)).alloc (.cells #[.int .i64 op,.int .i64 D,.int .i64 A,.int .i64 B,.int .i64 E,.int .i64 n,.int .u32 bt] 45))):=TW.start w v0 v1 v2 v3 op D A B E n bt;obtain⟨p0,q0,rfl,-⟩:=id hv.sign;obtain⟨p1,q1,rfl,hr1⟩:=id hv.regs;obtain⟨p2,q2,rfl,-⟩:=id hv.slots;have hREG:∀x:Int,isPl x c.regs.length=true->∃ (k lb lo:Nat),x=(k:Int)/\k<c.regs.length/\p1=some ⟨lb,lo,none⟩/\w.cell? ⟨lb,lo+k*2,none⟩=some (.int .i64 (regT c.regs x).kind)/\w.cell? ⟨lb,lo+k*2+1,none⟩=some (.int .i64 (regT c.regs x).par):=by
  exact Zck
 have HREG:Hid (∀x:Int,isPl x c.regs.length=true->∃ (k lb lo:Nat),x=(k:Int)/\k<c.regs.length/\p1=some ⟨lb,lo,none⟩/\w.cell? ⟨lb,lo+k*2,none⟩=some (.int .i64 (regT c.regs x).kind)/\w.cell? ⟨lb,lo+k*2+1,none⟩=some (.int .i64 (regT c.regs x).par)):=hREG;have HCV:Hid (CdV w (.slice p0 c.sign.length q0) (.slice p1 c.regs.length q1) (.slice p2 c.slots.length q2) v3 c):=hv;have HCO:Hid (CdOk c):=co;have hB0:=co.signL;have hB1:=co.regsL;have hB2:=co.slotsL;have hTy:∀x:Int,isPl x c.regs.length=true->letR 118 (regT c.regs x) ⟨0,0⟩=true->isPl (regT c.regs x).par c.sign.length=true:=fun x hx hk=>by
  exact Zdc
 obtain⟨n0,hn0⟩:∃n0,c.sign.length=n0:=⟨_,rfl⟩
 obtain⟨n1,hn1⟩:∃n1,c.regs.length=n1:=⟨_,rfl⟩
 obtain⟨n2,hn2⟩:∃n2,c.slots.length=n2:=⟨_,rfl⟩
 have HN0:Hid (c.sign.length=n0):=hn0;have HN1:Hid (c.regs.length=n1):=hn1;have HN2:Hid (c.slots.length=n2):=hn2;rw[hn0]at hB0;rw[hn1]at hB1;rw[hn2]at hB2;rw[hn0,hn1,hn2]at HCV KO HT0 ⊢;clear hREG hv hr1 hn0 hn1 hn2 co;have HTY:Hid (∀x:Int,isPl x c.regs.length=true->letR 118 (regT c.regs x) ⟨0,0⟩=true->isPl (regT c.regs x).par c.sign.length=true):=hTy;clear hTy hT;have hKO0:=fun d=>KO La D d oa;have hKOA:=fun d=>KO Lb A d ob;have hKOB:=fun d=>KO Lc B d oc;have hKOC:=fun d=>KO Ld E d od;clear KO;have hPP0:Le=112->La=118\/(La=45/\Lb=118):=oT;clear oT oc od;obtain⟨RES,hRES⟩:∃R,(Zhz c.regs La D ⟨0,0⟩&&(Zhz c.regs Lb A (dR c.regs La D)&&(Zhz c.regs Lc B (dR c.regs La D)&&(Zhz c.regs Ld E (dR c.regs La D)&&Zlm c Le n (tR c.regs La Lb D A)))))=R:=⟨_,rfl⟩
 rw[hRES];have hz1:(La==45)=false:=by simpa using hz0
 have hz2:(La != 45)=true:=by simpa using hz0
 have hPL:Zhz c.regs La D ⟨0,0⟩=true->isPl D c.regs.length=true:=fun h=>by
  rw[Zkr hz0]at h;simp only[Bool.and_eq_true]at h;exact h.1
 have hPV:Zhz c.regs La D ⟨0,0⟩=true->La=118->letR 118 (regT c.regs D) ⟨0,0⟩=true:=fun h hl=>by
  exact Zeu
 have hdR:dR c.regs La D=regT c.regs D:=if_neg hz0;have htR:tR c.regs La Lb D A=regT c.regs D:=by unfold tR;rw[if_neg (fun e=>hz0 e.1),hdR]
 rw[htR,hdR]at hRES;have HPP0:Hid (Zhz c.regs La D ⟨0,0⟩=true->Le=112->isPl (regT c.regs D).par c.sign.length=true):=fun h e=>by
  rcases hPP0 e with h1|⟨h1,-⟩
  ·exact HTY.out _ (hPL h) (hPV h h1)
  ·exact absurd h1 hz0
 obtain⟨X0,hX0⟩:∃X,Zhz c.regs La D ⟨0,0⟩=X:=⟨_,rfl⟩
 have HK0:Hid _:=hKO0 ⟨0,0⟩;rw[hX0]at hRES hPL HPP0 HK0;simp only at HK0;clear hX0 hPV hdR htR hKO0 hPP0 HTY;cases X0
 ·exact Zal
 obtain⟨kd,lb,lo,rfl,hkd,rfl,ya0,ya1⟩:=HREG.out D (hPL rfl);obtain⟨⟨dk,dp⟩,htt⟩:∃t:Ty,regT c.regs (kd:Int)=t:=⟨_,rfl⟩
 rw[htt]at HPP0 ya0 ya1 hRES;obtain⟨XA,hXA⟩:∃X,Zhz c.regs Lb A ⟨dk,dp⟩=X:=⟨_,rfl⟩
 obtain⟨XB,hXB⟩:∃X,Zhz c.regs Lc B ⟨dk,dp⟩=X:=⟨_,rfl⟩
 obtain⟨XC,hXC⟩:∃X,Zhz c.regs Ld E ⟨dk,dp⟩=X:=⟨_,rfl⟩
 rw[hXA,hXB,hXC]at hRES;have HKA:Hid _:=hKOA ⟨dk,dp⟩;have HKB:Hid _:=hKOB ⟨dk,dp⟩;have HKC:Hid _:=hKOC ⟨dk,dp⟩;rw[hXA]at HKA;rw[hXB]at HKB;rw[hXC]at HKC;simp only at HKA HKB HKC;have HRES:Hid ((XA&&(XB&&(XC&&Zlm c Le n ⟨dk,dp⟩)))=RES):=hRES;have HPP:Hid (Le=112->isPl dp c.sign.length=true):=HPP0.out rfl;have ka0:(0:Int)<=(kd:Int):=oM;have ka1:(kd:Int)<(n1:Int):=by have:=HN1.out;omega
 clear hKOA hKOB hKOC hXA hXB hXC hRES HPP0 hPL htt;go_enter func64,ntmps64;go_wp2_with(first
  |(go_at_call 67;refine(HROW.out _).mono ?_;rintro e w1 ⟨rfl,rfl⟩)
  |(go_at_call 63;refine(HCAN.out _).mono ?_;rintro e w2 ⟨rfl,hb2⟩;have HT2:Hid (TW w (.slice p0 n0 q0) (.slice (some ⟨lb,lo,none⟩) n1 q1) (.slice p2 n2 q2) v3 (w.heap.size+1) op (kd:Int) A B E n bt (w2.alloc (.cells #[.int .i64 0,.int .i64 0] 69))):=(HT0.out.next hb2).next (Zhq _ _);obtain⟨b1,c0,c1,c2,c3,i0,i1,i2,i3,i4,i5,i6⟩:=HT2.out;have HS2:Hid (w.heap.size+1<w2.heap.size):=Zhr (HT0.out.next hb2).i0;clear hb2))
 have HTD0:Hid _:=HT2.out;have HD0:Hid ((w2.alloc (.cells #[.int .i64 0,.int .i64 0] 69)).cell? ⟨w2.heap.size,0,none⟩=some (.int .i64 0)/\(w2.alloc (.cells #[.int .i64 0,.int .i64 0] 69)).cell? ⟨w2.heap.size,1,none⟩=some (.int .i64 0)/\(w2.alloc (.cells #[.int .i64 0,.int .i64 0] 69)).frozen? ⟨w2.heap.size,0,none⟩=false/\(w2.alloc (.cells #[.int .i64 0,.int .i64 0] 69)).frozen? ⟨w2.heap.size,1,none⟩=false):=⟨sG,sG,sG,sG⟩
 have HBZ9:Hid (lb<w.heap.size):=Zhr ya0;have HZ:Hid (w2.heap.size≠w.heap.size+1/\w.heap.size<w2.heap.size/\lb≠w2.heap.size):=by
  refine⟨?_,?_,?_⟩
  all_goals(have h3:=HS2.out;have h4:=HBZ9.out;omega)
 obtain⟨Z,hZ⟩:∃Z,w2.heap.size=Z:=⟨_,rfl⟩
 obtain⟨Wa,hWa⟩:∃W,w2.alloc (.cells #[.int .i64 0,.int .i64 0] 69)=W:=⟨_,rfl⟩
 rw[hZ]at HD0 HZ;rw[hWa]at HD0 HTD0 ⊢;try rw[hZ]
 clear hZ hWa HT2 b1 c0 c1 c2 c3 i0 i1 i2 i3 i4 i5 i6 HT0 HROW HCAN HS2;have HCD0:Hid (∀v,Below Wa.heap.size Wa v->v.cell? ⟨w.heap.size,0,none⟩=some (.slice p0 n0 q0)/\v.cell? ⟨w.heap.size,1,none⟩=some (.slice (some ⟨lb,lo,none⟩) n1 q1)/\v.cell? ⟨w.heap.size,2,none⟩=some (.slice p2 n2 q2)/\v.cell? ⟨w.heap.size,3,none⟩=some v3/\v.cell? ⟨w.heap.size+1,1,none⟩=some (.int .i64 (kd:Int))/\v.cell? ⟨w.heap.size+1,2,none⟩=some (.int .i64 A)/\v.cell? ⟨w.heap.size+1,3,none⟩=some (.int .i64 B)/\v.cell? ⟨w.heap.size+1,4,none⟩=some (.int .i64 E)/\v.cell? ⟨w.heap.size+1,5,none⟩=some (.int .i64 n)/\v.cell? ⟨Z,0,none⟩=some (.int .i64 0)/\v.cell? ⟨Z,1,none⟩=some (.int .i64 0)):=fun v hb=>⟨kc hb HTD0.out.c0,kc hb HTD0.out.c1,kc hb HTD0.out.c2,kc hb HTD0.out.c3,kc hb HTD0.out.i1,kc hb HTD0.out.i2,kc hb HTD0.out.i3,kc hb HTD0.out.i4,kc hb HTD0.out.i5,kc hb HD0.out.1,kc hb HD0.out.2.1⟩
 obtain⟨c0,c1,c2,c3,i1,i2,i3,i4,i5,d0,d1⟩:=HCD0.out Wa (bel0 _);have HYA:Hid (∀v,Below Wa.heap.size Wa v->v.cell? ⟨lb,lo+kd*2,none⟩=some (.int .i64 dk)/\v.cell? ⟨lb,lo+kd*2+1,none⟩=some (.int .i64 dp)/\v.frozen? ⟨Z,0,none⟩=false/\v.frozen? ⟨Z,1,none⟩=false):=fun v hb=>⟨kc (bel HTD0.out.bel hb) ya0,kc (bel HTD0.out.bel hb) ya1,kf hb HD0.out.1 HD0.out.2.2.1,kf hb HD0.out.2.1 HD0.out.2.2.2⟩
 refine rG (fun v=>v.cell? ⟨w.heap.size,0,none⟩=some (.slice p0 n0 q0)/\v.cell? ⟨w.heap.size,1,none⟩=some (.slice (some ⟨lb,lo,none⟩) n1 q1)/\v.cell? ⟨w.heap.size,2,none⟩=some (.slice p2 n2 q2)/\v.cell? ⟨w.heap.size,3,none⟩=some v3/\v.cell? ⟨w.heap.size+1,1,none⟩=some (.int .i64 (kd:Int))/\v.cell? ⟨w.heap.size+1,2,none⟩=some (.int .i64 A)/\v.cell? ⟨w.heap.size+1,3,none⟩=some (.int .i64 B)/\v.cell? ⟨w.heap.size+1,4,none⟩=some (.int .i64 E)/\v.cell? ⟨w.heap.size+1,5,none⟩=some (.int .i64 n)/\v.cell? ⟨Z,0,none⟩=some (.int .i64 0)/\v.cell? ⟨Z,1,none⟩=some (.int .i64 0)) fun hHeld=>?_;refine Tf 0 1 2 3 4 5 ?_;clear hHeld;refine ry1 6 fun K hK=>?_;go_simp;(go_at_call 104;(with_reducible refine(HK0.out _ (bel HTD0.out.bel (Zhs _))).mono ?_);rintro e w9 ⟨rfl,hb9⟩;have HB9:Hid (Below Wa.heap.size Wa w9):=bel (Zhs _) hb9;clear hb9;obtain⟨ya2,ya3,fz0,fz1⟩:=HYA.out w9 HB9.out;obtain⟨c0,c1,c2,c3,i1,i2,i3,i4,i5,d0,d1⟩:=HCD0.out w9 HB9.out);try(go_wp2_with fail)
 refine okK hK fun hHeld=>?_;clear hK K;refine tkT 7 ?_;refine wpAnyH_done kR ?_ _;obtain⟨hz5,hz6,hz7⟩:=HZ.out;go_wp2;have HD:Hid (((w9.setCell ⟨Z,0,none⟩ (.int .i64 dk)).setCell ⟨Z,1,none⟩ (.int .i64 dp)).cell? ⟨Z,0,none⟩=some (.int .i64 dk)/\((w9.setCell ⟨Z,0,none⟩ (.int .i64 dk)).setCell ⟨Z,1,none⟩ (.int .i64 dp)).cell? ⟨Z,1,none⟩=some (.int .i64 dp)):=⟨by simp[go_sem,d0,d1],by simp[go_sem,d0,d1]⟩
 have HTD:Hid _:=((HTD0.out.next HB9.out).keep (g:=Z) (o:=0) (.int .i64 dk) hz6 hz5).keep (g:=Z) (o:=1) (.int .i64 dp) hz6 hz5;obtain⟨Wd,hWd⟩:∃W,(w9.setCell ⟨Z,0,none⟩ (.int .i64 dk)).setCell ⟨Z,1,none⟩ (.int .i64 dp)=W:=⟨_,rfl⟩
 rw[hWd]at HD HTD ⊢;clear hWd c0 c1 c2 c3 i1 i2 i3 i4 i5 d0 d1 ya2 ya3 fz0 fz1 HCD0 HYA HD0 HTD0 HB9 HK0 hz5 hz6 hz7 HZ;have HCD:Hid (∀v,Below Wd.heap.size Wd v->v.cell? ⟨w.heap.size,0,none⟩=some (.slice p0 n0 q0)/\v.cell? ⟨w.heap.size,1,none⟩=some (.slice (some ⟨lb,lo,none⟩) n1 q1)/\v.cell? ⟨w.heap.size,2,none⟩=some (.slice p2 n2 q2)/\v.cell? ⟨w.heap.size,3,none⟩=some v3/\v.cell? ⟨w.heap.size+1,1,none⟩=some (.int .i64 (kd:Int))/\v.cell? ⟨w.heap.size+1,2,none⟩=some (.int .i64 A)/\v.cell? ⟨w.heap.size+1,3,none⟩=some (.int .i64 B)/\v.cell? ⟨w.heap.size+1,4,none⟩=some (.int .i64 E)/\v.cell? ⟨w.heap.size+1,5,none⟩=some (.int .i64 n)/\v.cell? ⟨Z,0,none⟩=some (.int .i64 dk)/\v.cell? ⟨Z,1,none⟩=some (.int .i64 dp)):=fun v hb=>⟨kc hb HTD.out.c0,kc hb HTD.out.c1,kc hb HTD.out.c2,kc hb HTD.out.c3,kc hb HTD.out.i1,kc hb HTD.out.i2,kc hb HTD.out.i3,kc hb HTD.out.i4,kc hb HTD.out.i5,kc hb HD.out.1,kc hb HD.out.2⟩
 obtain⟨c0,c1,c2,c3,i1,i2,i3,i4,i5,d0,d1⟩:=HCD.out Wd (bel0 _);cases XA
 ·exact Zba
 cases XB
 ·have HQF:Hid (false=RES):=HRES.out;go_wp2;refine rG (fun v=>v.cell? ⟨w.heap.size,0,none⟩=some (.slice p0 n0 q0)/\v.cell? ⟨w.heap.size,1,none⟩=some (.slice (some ⟨lb,lo,none⟩) n1 q1)/\v.cell? ⟨w.heap.size,2,none⟩=some (.slice p2 n2 q2)/\v.cell? ⟨w.heap.size,3,none⟩=some v3/\v.cell? ⟨w.heap.size+1,1,none⟩=some (.int .i64 (kd:Int))/\v.cell? ⟨w.heap.size+1,2,none⟩=some (.int .i64 A)/\v.cell? ⟨w.heap.size+1,3,none⟩=some (.int .i64 B)/\v.cell? ⟨w.heap.size+1,4,none⟩=some (.int .i64 E)/\v.cell? ⟨w.heap.size+1,5,none⟩=some (.int .i64 n)/\v.cell? ⟨Z,0,none⟩=some (.int .i64 dk)/\v.cell? ⟨Z,1,none⟩=some (.int .i64 dp)) fun hHeld=>?_;exact Zav
 cases XC
 ·have HQF:Hid (false=RES):=HRES.out;go_wp2;refine rG (fun v=>v.cell? ⟨w.heap.size,0,none⟩=some (.slice p0 n0 q0)/\v.cell? ⟨w.heap.size,1,none⟩=some (.slice (some ⟨lb,lo,none⟩) n1 q1)/\v.cell? ⟨w.heap.size,2,none⟩=some (.slice p2 n2 q2)/\v.cell? ⟨w.heap.size,3,none⟩=some v3/\v.cell? ⟨w.heap.size+1,1,none⟩=some (.int .i64 (kd:Int))/\v.cell? ⟨w.heap.size+1,2,none⟩=some (.int .i64 A)/\v.cell? ⟨w.heap.size+1,3,none⟩=some (.int .i64 B)/\v.cell? ⟨w.heap.size+1,4,none⟩=some (.int .i64 E)/\v.cell? ⟨w.heap.size+1,5,none⟩=some (.int .i64 n)/\v.cell? ⟨Z,0,none⟩=some (.int .i64 dk)/\v.cell? ⟨Z,1,none⟩=some (.int .i64 dp)) fun hHeld=>?_;exact Zan
 go_wp2;refine rG (fun v=>v.cell? ⟨w.heap.size,0,none⟩=some (.slice p0 n0 q0)/\v.cell? ⟨w.heap.size,1,none⟩=some (.slice (some ⟨lb,lo,none⟩) n1 q1)/\v.cell? ⟨w.heap.size,2,none⟩=some (.slice p2 n2 q2)/\v.cell? ⟨w.heap.size,3,none⟩=some v3/\v.cell? ⟨w.heap.size+1,1,none⟩=some (.int .i64 (kd:Int))/\v.cell? ⟨w.heap.size+1,2,none⟩=some (.int .i64 A)/\v.cell? ⟨w.heap.size+1,3,none⟩=some (.int .i64 B)/\v.cell? ⟨w.heap.size+1,4,none⟩=some (.int .i64 E)/\v.cell? ⟨w.heap.size+1,5,none⟩=some (.int .i64 n)/\v.cell? ⟨Z,0,none⟩=some (.int .i64 dk)/\v.cell? ⟨Z,1,none⟩=some (.int .i64 dp)) fun hHeld=>?_;refine Tf 0 1 2 3 4 5 ?_;clear hHeld;refine ry1 6 fun K hK=>?_;go_simp;(go_at_call 104;(with_reducible refine(HKA.out _ (bel HTD.out.bel (Zhs _))).mono ?_);rintro e w3 ⟨rfl,hb9⟩;have HB3:Hid (Below Wd.heap.size Wd w3):=bel (Zhs _) hb9;clear hb9;obtain⟨c0,c1,c2,c3,i1,i2,i3,i4,i5,d0,d1⟩:=HCD.out w3 HB3.out);try(go_wp2_with fail)
 refine okK hK fun hHeld=>?_;clear hK K;refine Tf 7 8 9 10 11 12 ?_;refine Tb 13 14 ?_;clear hHeld;refine ry1 15 fun K hK=>?_;go_simp;(go_at_call 104;(with_reducible refine(HKB.out _ (bel HTD.out.bel HB3.out)).mono ?_);rintro e w4 ⟨rfl,hb9⟩;have HB4:Hid (Below Wd.heap.size Wd w4):=bel HB3.out hb9;clear hb9;clear c0 c1 c2 c3 i1 i2 i3 i4 i5 d0 d1;obtain⟨c0,c1,c2,c3,i1,i2,i3,i4,i5,d0,d1⟩:=HCD.out w4 HB4.out);try(go_wp2_with fail)
 refine okK hK fun hHeld=>?_;clear hK K;refine Tf 16 17 18 19 20 21 ?_;refine Tc 22 23 24 ?_;clear hHeld;refine ry1 25 fun K hK=>?_;go_simp;(go_at_call 104;(with_reducible refine(HKC.out _ (bel HTD.out.bel HB4.out)).mono ?_);rintro e w5 ⟨rfl,hb9⟩;have HB5:Hid (Below Wd.heap.size Wd w5):=bel HB4.out hb9;clear hb9;clear c0 c1 c2 c3 i1 i2 i3 i4 i5 d0 d1;obtain⟨c0,c1,c2,c3,i1,i2,i3,i4,i5,d0,d1⟩:=HCD.out w5 HB5.out);try(go_wp2_with fail)
 refine okK hK fun hHeld=>?_;clear hK K;refine Tb 26 27 ?_;refine wpAnyH_done kR ?_ _;clear c0 c1 c2 c3 i1 i2 i3 i4 i5 d0 d1;have HT5:Hid (TW w (.slice p0 n0 q0) (.slice (some ⟨lb,lo,none⟩) n1 q1) (.slice p2 n2 q2) v3 (w.heap.size+1) op (kd:Int) A B E n bt w5):=HTD.out.next HB5.out;obtain⟨hb5,c0,c1,c2,c3,i0,i1,i2,i3,i4,i5,i6⟩:=HT5.out;obtain⟨-,-,-,-,-,-,-,-,-,d0,d1⟩:=HCD.out w5 HB5.out;have hs5:w5.heap.size≠w.heap.size+1/\w.heap.size<w5.heap.size:=⟨fun e=>by have:=Zhr i0;simp only at this;omega,by have:=Zhr c0;simp only at this;omega⟩
 have HAL:Hid (TW w (.slice p0 n0 q0) (.slice (some ⟨lb,lo,none⟩) n1 q1) (.slice p2 n2 q2) v3 (w.heap.size+1) op (kd:Int) A B E n bt (w5.alloc (.cells #[.int .i64 dk,.int .i64 dp] 69))):=HT5.out.next (Zhq _ _);have HRT:Hid (Zlm c Le n ⟨dk,dp⟩=RES):=HRES.out;clear c0 c1 c2 c3 i0 i1 i2 i3 i4 i5 i6;have t0:(w5.alloc (.cells #[.int .i64 dk,.int .i64 dp] 69)).cell? ⟨w5.heap.size,0,none⟩=some (.int .i64 dk):=sG;have t1:(w5.alloc (.cells #[.int .i64 dk,.int .i64 dp] 69)).cell? ⟨w5.heap.size,1,none⟩=some (.int .i64 dp):=sG;obtain⟨hbx,c0,c1,c2,c3,i0,i1,i2,i3,i4,i5,i6⟩:=HAL.out;clear d0 d1 HRES;have hbt:=hbx;subst oe;exact Zdk
def okM(L:Lt):Bool:=decide (L.a=45->L.b=45->L.e=45\/L.e=113)&&(decide (L.a=45->L.b≠45->L.e=45\/L.e=112\/L.e=115)&&decide (L.a≠45->L.e=45\/L.e=105\/L.e=112\/L.e=115))
theorem okM_ite{p:Prop}[Decidable p]{x y:Lt}(h:okM x=true)(k:okM y=true):okM (if p then x else y)=true:=by
 split
 ·exact h
 ·exact k
theorem ltR_okM(op:Int):okM (ltR op)=true:=by
 unfold ltR
 iterate 19 refine okM_ite dE ?_
 decide
theorem Zajx(v0 v1 v2 v3:Value)(c:Cd)(co:CdOk c)(hT:Zif c=true)(i:Ins)(h0:0<=i.bits)(h1:i.bits<4294967296)(hk:Zig i.op=true)(h2:(i.op==1||i.bits==0)=true)(h3:Zkn i.bits=true)(w:World)(hv:CdV w v0 v1 v2 v3 c):
 Calls prog 64 #[.agg #[v0,v1,v2,v3],insV i] w fun e w'=>e=.returned (.bool (Zmr c i (ltR i.op)))/\Below w.heap.size w w':=by
 have HCAN:Hid (∀w,Calls prog 63 #[.int .u32 i.bits] w fun e w'=>e=.returned (.bool true)/\Below w.heap.size w w'):=by rw[←h3];exact Zom i.bits h0 h1
 obtain⟨a,b,cc,d,e,⟨ea,eb,ec,ed,ee⟩,hc⟩:=Zagg i.op hk;obtain⟨oa,ob,oc,od,oe,oT⟩:=ltR_ok i.op;have om:=ltR_okM i.op;unfold okM at om;simp only[Bool.and_eq_true,decide_eq_true_eq]at om;obtain⟨m1,m2,m3⟩:=om;have hF:Zmr c i (ltR i.op)=(Zhz c.regs (ltR i.op).a i.d ⟨0,0⟩&&(Zhz c.regs (ltR i.op).b i.a (dR c.regs (ltR i.op).a i.d)&&(Zhz c.regs (ltR i.op).c i.b (dR c.regs (ltR i.op).a i.d)&&(Zhz c.regs (ltR i.op).d i.c (dR c.regs (ltR i.op).a i.d)&&Zlm c (ltR i.op).e i.n (tR c.regs (ltR i.op).a (ltR i.op).b i.d i.a))))):=by
  unfold Zmr;rw[h2,h3,Bool.true_and,Bool.true_and]
 rw[hF];clear hF h3;have ix0:∀w,(Instr.index 9 (.string ⟨#[a,b,cc,d,e]⟩) (.int .i64 0)).run prog w=.ok (.int .u8 (ltR i.op).a) w:=fun w=>by rw[←ea];simp[Instr.index,run_underlying underlying9,asIntOf,go_sem];rfl
 have ix1:∀w,(Instr.index 9 (.string ⟨#[a,b,cc,d,e]⟩) (.int .i64 1)).run prog w=.ok (.int .u8 (ltR i.op).b) w:=fun w=>by rw[←eb];simp[Instr.index,run_underlying underlying9,asIntOf,go_sem];rfl
 have ix2:∀w,(Instr.index 9 (.string ⟨#[a,b,cc,d,e]⟩) (.int .i64 2)).run prog w=.ok (.int .u8 (ltR i.op).c) w:=fun w=>by rw[←ec];simp[Instr.index,run_underlying underlying9,asIntOf,go_sem];rfl
 have ix3:∀w,(Instr.index 9 (.string ⟨#[a,b,cc,d,e]⟩) (.int .i64 3)).run prog w=.ok (.int .u8 (ltR i.op).d) w:=fun w=>by rw[←ed];simp[Instr.index,run_underlying underlying9,asIntOf,go_sem];rfl
 have ix4:∀w,(Instr.index 9 (.string ⟨#[a,b,cc,d,e]⟩) (.int .i64 4)).run prog w=.ok (.int .u8 (ltR i.op).e) w:=fun w=>by rw[←ee];simp[Instr.index,run_underlying underlying9,asIntOf,go_sem];rfl
 cases h:(i.op==1)
 ·rw[h,Bool.false_or]at h2;have o2:(i.op != 1)=true:=by simpa using h
  have o4:(i.bits != 0)=false:=by simpa using h2
  by_cases hz:(ltR i.op).a=45
  ·exact rfits_A v0 v1 v2 v3 c co hT i.op i.d i.a i.b i.c i.n i.bits _ _ _ _ _ a b cc d e hc HCAN ix0 ix1 ix2 ix3 ix4 oa ob oc od oT h o2 h2 o4 hz (m1 hz) (m2 hz) w hv
  ·exact rfits_B v0 v1 v2 v3 c co hT i.op i.d i.a i.b i.c i.n i.bits _ _ _ _ _ a b cc d e hc HCAN ix0 ix1 ix2 ix3 ix4 oa ob oc od oT h o2 h2 o4 hz (m3 hz) w hv
 ·have o2:(i.op != 1)=false:=by simpa using h
  have e1:i.op=1:=by simpa using h
  have ha:(ltR i.op).a≠45:=by rw[e1];decide
  have he:(ltR i.op).e=45:=by rw[e1];rfl
  exact rfits_C v0 v1 v2 v3 c co hT i.op i.d i.a i.b i.c i.n i.bits _ _ _ _ _ a b cc d e hc HCAN ix0 ix1 ix2 ix3 ix4 oa ob oc od oT h o2 ha he w hv
def runP:Wk->List Ins->Wk
 |s,[]=>s
 |s,i::r=>runP (Zib s i) r
def Zld(c:Cd):Wk->List Ins->Bool
 |_,[]=>true
 |s,i::r=>Zjb c s i&&Zld c (Zib s i) r
theorem goP_ok{c:Cd}:∀ {l:List Ins} {s:Wk} {k:Nat},(goP c s k l).1=0↔Zld c s l=true/\(runP s l).opens.isEmpty=true
 |[],s,k=>by
  simp only[goP,Zld,runP,true_and];by_cases h:s.opens.isEmpty=true
  ·simp[h]
  ·simp[h]
 |i::l,s,k=>by
  simp only[goP,Zld,runP,Bool.and_eq_true];by_cases h:Zjb c s i=true
  ·rw[if_pos h,goP_ok (k:=k+1)];simp[h]
  ·rw[if_neg h];simp[h]
theorem Zzh{c:Cd}:(Zik c).1=0↔Zkw c=0/\Zld c ⟨[],[]⟩ c.list=true/\(runP ⟨[],[]⟩ c.list).opens.isEmpty=true:=by
 unfold Zik;by_cases h:Zkw c=0
 ·rw[if_neg (by simp[h]),goP_ok];simp[h]
 ·rw[if_pos h];simp[h]
def insP(S:List Nat)(i:Ins):List Nat:=if(rowP i.op).d≠0/\i.d.toNat∉S then S++[i.d.toNat]else S
theorem Zaai:∀ {r:List Bk} {n:Nat},okO n r->∀b∈r,b.ahead<=n
 |[],_,_,b,hb=>absurd hb sM
 |a::r,n,h,b,hb=>by
  rcases List.mem_cons.1 hb with rfl|hb
  ·exact h.1
  ·exact Nat.le_trans (Zaai h.2 b hb) h.1
theorem Zyw{s:Wk}{i:Ins}(h:(rowP i.op).d=0):addP s i (rowP i.op)=s:=by unfold addP;rw[if_neg (fun e=>e.1 h)]
theorem Zaft{S:List Nat}{i:Ins}{x:Nat}:x∈insP S i↔x∈S\/((rowP i.op).d≠0/\x=i.d.toNat):=by
 unfold insP;by_cases h:(rowP i.op).d≠0/\i.d.toNat∉S
 ·rw[if_pos h,List.mem_append];simp only[List.mem_singleton];exact⟨fun q=>q.imp id fun e=>⟨h.1,e⟩,fun q=>q.imp id fun e=>e.2⟩
 ·rw[if_neg h];constructor
  ·exact .inl
  ·rintro(q|⟨q1,q2⟩)
   ·exact q
   ·rw[q2];exact Decidable.byContradiction fun e=>h ⟨q1,e⟩
def upd(f:Nat->Bool)(n:Nat)(b:Bool)(m:Nat):Bool:=if m=n then b else f m
def tailS(s:Wk)(op:Int):Bool:=if op=34\/op=36 then decide (s.opens.length<64)else if op=35 then decide (0<s.opens.length)&& !Zim s else if op=37 then Zim s else true
def loopS(c:Cd)(s:Wk)(i:Ins):Bool:=Zim s&&(i.op != 37&&vecR c.regs (vecN i) != Zli s)
def Zmf(s:Wk):Prop:=∀b∈s.opens,b.loop=true->0<=b.par
theorem Zmf.inner{s:Wk}(h:Zmf s)(hl:Zim s=true):0<=Zli s:=by
 obtain⟨S,O⟩:=s;cases O with
 |nil=>exact Int.le_refl _
 |cons b r=>exact h b (List.mem_cons_self ..) hl
theorem Ztr{i:Ins}(h:Zln i.op=false):vecN i= -1:=by
 unfold Zln at h;simp only[Bool.or_eq_false_iff]at h;have h1:(i.op==29)=false/\(i.op==30)=false/\(i.op==31)=false/\(i.op==32)=false/\(i.op==33)=false:=by
  have:=h.1;simp only[Bool.and_eq_false_iff,decide_eq_false_iff_not]at this;simp only[beq_eq_false_iff_ne,ne_eq];omega
 unfold vecN;rw[h.2,h1.1,h1.2.1,h1.2.2.1,h1.2.2.2.1,h1.2.2.2.2];rfl
theorem Zamb{i:Ins}(h:Zln i.op=true):vecN i=Znm i (rowP i.op):=by
 unfold Zln Zjj at h;simp only[Bool.or_eq_true,Bool.and_eq_true,decide_eq_true_eq]at h;obtain⟨op,D,A,B,E,n,bb⟩:=i;simp only at h ⊢;have:op=3\/op=4\/op=5\/op=6\/op=7\/op=8\/op=9\/op=10\/op=11\/op=12\/op=13\/op=14\/op=15\/op=29\/op=30\/op=31\/op=32\/op=33:=oM;rcases this with rfl|rfl|rfl|rfl|rfl|rfl|rfl|rfl|rfl|rfl|rfl|rfl|rfl|rfl|rfl|rfl|rfl|rfl<;>rfl
theorem Ztv(rs:List Ty):vecR rs (-1)= -1:=by unfold vecR isPl;simp
theorem vecR_eq{rs:List Ty}{n q:Int}(hq:0<=q):(vecR rs n=q)↔regT rs n=⟨3,q⟩:=by
 unfold vecR;cases h:isPl n rs.length
 ·have:regT rs n=⟨0,0⟩:=by unfold regT;rw[h];rfl
  rw[this];simp;omega
 ·rw[Bool.true_and];generalize regT rs n=t;obtain⟨K,P⟩:=t;simp only[Ty.mk.injEq];by_cases hk:K=3
  ·subst hk;simp
  ·have:(K==3)=false:=by simpa using hk
   rw[this];constructor
   ·intro e;simp at e;omega
   ·intro e;exact absurd e.1 hk
theorem Zama{c:Cd}{s:Wk}{i:Ins}(hO:Zmf s):Ziw c s i (rowP i.op)=(!loopS c s i&&tailS s i.op):=by
 have hO':=hO.inner;unfold Ziw loopS tailS;by_cases h1:i.op=34\/i.op=36
 ·rw[if_pos h1,if_pos h1];have hv:vecR c.regs (vecN i)= -1:=by
   rw[Ztr (by rcases h1 with e|e<;>rw[e]<;>decide),Ztv]
  have h37:(i.op != 37)=true:=by rcases h1 with e|e<;>rw[e]<;>decide
  rw[hv,h37];cases hl:Zim s
  ·rfl
  ·have:=hO' hl;have e:((-1:Int) != Zli s)=true:=sO;rw[e];rfl
 ·rw[if_neg h1,if_neg h1];by_cases h2:i.op=35
  ·rw[if_pos h2,if_pos h2];have hv:vecR c.regs (vecN i)= -1:=by rw[Ztr (by rw[h2];decide),Ztv]
   rw[hv,h2];have hE:(!s.opens.isEmpty)=decide (0<s.opens.length):=by cases s.opens<;>simp
   rw[hE];cases hl:Zim s
   ·simp
   ·have:=hO' hl;have e:((-1:Int) != Zli s)=true:=sO;rw[e];simp
  ·rw[if_neg h2,if_neg h2];by_cases h3:i.op=37
   ·rw[if_pos h3,if_pos h3,h3];cases Zim s<;>rfl
   ·rw[if_neg h3,if_neg h3];have h37:(i.op != 37)=true:=by simpa using h3
    rw[h37,Bool.true_and,Bool.and_true];cases hl:Zim s
    ·rfl
    ·have hq:=hO' hl;rw[Bool.not_true,Bool.false_or,Bool.true_and];cases hlp:Zln i.op
     ·rw[Ztr hlp,Ztv];have e:((-1:Int) != Zli s)=true:=sO;rw[e];rfl
     ·rw[Zamb hlp,Bool.true_and];unfold Zij;rw[Bool.eq_iff_iff,decide_eq_true_eq,←vecR_eq hq];simp
theorem Zakg{c:Cd}{s:Wk}{i:Ins}(hT:Zif c=true)(hO:Zmf s):Zjb c s i=((Zig i.op&&Zmr c i (ltR i.op))&&(!loopS c s i&&(Zqv s i (rowP i.op)&&tailS s i.op))):=by
 unfold Zjb;rw[Zacq hT,Zama hO];cases Zig i.op<;>cases Zjp c i (rowP i.op)<;>cases loopS c s i<;>cases tailS s i.op<;>simp
structure Ob where
 op:Int
 par:Int
 set:List Nat
def obR(S:List Nat)(b:Bk):Ob:=⟨if b.loop then 36 else 34,b.par,S.take b.ahead⟩
def opR(s:Wk):List Ob:=(s.opens.map (obR s.set)).reverse
theorem Zue(s:Wk):(opR s).length=s.opens.length:=by simp[opR]
theorem Zsf(S:List Nat)(b:Bk)(r:List Bk):opR ⟨S,b::r⟩=(r.map (obR S)).reverse++[obR S b]:=by simp[opR]
theorem Zaok{s:Wk}(h:0<s.opens.length):∃X,(opR s)[s.opens.length-1]? =some ⟨if Zim s then 36 else 34,Zli s,X⟩:=by
 obtain⟨S,O⟩:=s;cases O with
 |nil=>simp at h
 |cons b r=>
  refine⟨S.take b.ahead,?_⟩;rw[Zsf];simp only[List.length_cons,Nat.add_sub_cancel];rw[List.getElem?_append_right sM];simp only[List.length_reverse,List.length_map,Nat.sub_self];rfl
theorem Zxj{s:Wk}{i:Ins}(h:i.op=34\/i.op=36):Zib s i=⟨s.set,⟨i.op==36,i.n,s.set.length⟩::s.opens⟩:=by
 unfold Zib Zoi;rw[Zyw Zhg];unfold Zmo;rw[if_pos h]
theorem Zxn{s:Wk}{i:Ins}(h:i.op=35\/i.op=37):Zib s i=Zix s:=by
 unfold Zib Zoi;rw[Zyw Zhg];unfold Zmo;rw[if_neg oM,if_pos h]
theorem Zqx{s:Wk}{i:Ins}(h1:i.op≠34)(h2:i.op≠35)(h3:i.op≠36)(h4:i.op≠37):Zib s i=⟨insP s.set i,s.opens⟩:=by
 unfold Zib Zoi Zmo;rw[if_neg oM,if_neg oM];unfold addP insP;split<;>rfl
theorem Zang{s:Wk}{i:Ins}(h:i.op=34\/i.op=36):opR (Zib s i)=opR s++[⟨i.op,i.n,s.set⟩]:=by
 rw[Zxj h,Zsf];unfold opR obR;simp only[List.take_length];rcases h with h|h<;>rw[h]<;>rfl
theorem Zaqv{s:Wk}{i:Ins}{n:Nat}(ho:OkS n s)(h1:i.op≠34)(h2:i.op≠35)(h3:i.op≠36)(h4:i.op≠37):opR (Zib s i)=opR s:=by
 rw[Zqx h1 h2 h3 h4];unfold opR;simp only;congr 1;apply List.map_congr_left;intro b hb;have:=Zaai ho.opens b hb;have e:(insP s.set i).take b.ahead=s.set.take b.ahead:=by
  unfold insP;split
  ·rw[List.take_append_of_le_length this]
  ·rfl
 unfold obR;rw[e]
theorem Zre{s:Wk}{n:Nat}(ho:OkS n s)(h:0<s.opens.length):opR (Zix s)=(opR s).take (s.opens.length-1):=by
 obtain⟨S,O⟩:=s;cases O with
 |nil=>simp at h
 |cons b r=>
  rw[Zsf];simp only[List.length_cons,Nat.add_sub_cancel];rw[List.take_append_of_le_length sM,List.take_of_length_le sM];unfold opR Zix;simp only;cases hb:b.loop
  ·simp only[Bool.false_eq_true,if_false];congr 1;apply List.map_congr_left;intro a ha;have:=Zaai ho.opens.2 a ha;unfold obR;rw[List.take_take,Nat.min_eq_left this]
  ·simp only[if_true]
theorem Zalo{s:Wk}(hl:Zim s=false){o:Ob}(h:(opR s)[s.opens.length-1]? =some o)(h0:0<s.opens.length):(Zix s).set=o.set:=by
 obtain⟨S,O⟩:=s;cases O with
 |nil=>simp at h0
 |cons b r=>
  rw[Zsf]at h;simp only[List.length_cons,Nat.add_sub_cancel]at h;rw[List.getElem?_append_right sM]at h;simp at h;subst h;have:b.loop=false:=hl;simp[Zix,this,obR]
theorem Zaiu{s:Wk}(hl:Zim s=true):(Zix s).set=s.set:=by
 obtain⟨S,O⟩:=s;cases O with
 |nil=>rfl
 |cons b r=>
  have:b.loop=true:=hl;simp[Zix,this]
theorem Zpd(s:Wk):(Zix s).opens.length=s.opens.length-1:=by
 obtain⟨S,O⟩:=s;cases O with
 |nil=>rfl
 |cons b r=>simp[Zix]
theorem Zmf.step{c:Cd}{s:Wk}{i:Ins}(h:Zmf s)(t:Zjb c s i=true):Zmf (Zib s i):=by
 by_cases h1:i.op=34\/i.op=36
 ·rw[Zxj h1];intro b hb hl;rcases List.mem_cons.1 hb with rfl|hb
  ·have h36:i.op=36:=by simpa using hl
   obtain⟨_,h2,_,_⟩:=Zjw t;rw[h36]at h2;unfold Zjp Zkg at h2;simp only[Bool.and_eq_true]at h2;have h3:=h2.2.2.2.2;rw[if_neg (show(rowP 36).n≠7 by decide)]at h3;simp only[Bool.and_eq_true]at h3;have h4:isPl i.n c.sign.length=true:=h3.2;exact(Zlf.1 h4).1
  ·exact h b hb hl
 ·by_cases h2:i.op=35\/i.op=37
  ·rw[Zxn h2];intro b hb hl;refine h b ?_ hl;unfold Zix at hb;split at hb
   ·rename_i e;rw[e];exact List.mem_cons_of_mem _ hb
   ·exact hb
  ·rw[Zqx oM oM oM oM];exact h
theorem Zmf.start:Zmf ⟨[],[]⟩:=fun b hb=>by cases hb
instance:DecidableEq Par:=fun a b=>by
 cases a;cases b
 simp only[Par.mk.injEq];exact inferInstanceAs (Decidable (_/\_/\_))

theorem Zact:∀x:Par,∀u∈Zjc x,u.oneCell'=true:=fun x u hu=>by simp[Zjc]at hu;rcases hu with rfl|rfl|rfl<;>rfl
theorem Zafb:∀x:Ty,∀u∈tyC x,u.oneCell'=true:=fun x u hu=>by simp[tyC]at hu;rcases hu with rfl|rfl<;>rfl
theorem Zaeo:∀x:Sl,∀u∈slC x,u.oneCell'=true:=fun x u hu=>by simp[slC]at hu;rcases hu with rfl|rfl|rfl|rfl|rfl<;>rfl
theorem Zyn:(prog.info? 69).map (fun i=>(i.zero,i.size,i.bytes))=some (some (.agg #[.int .i64 0,.int .i64 0]),2,16):=kR
theorem Zyh:(prog.info? 72).map (fun i=>(i.zero,i.size,i.bytes))=some (some (.agg #[.int .i64 0,.int .i64 0,.bool false,.int .u32 0,.int .i64 0]),5,32):=kR
theorem app_Par{l:List Par}{v:Value}{w:World}(h:RowG 3 Zjc w v l)(hl:l.length*32<=140737488355328)(ty:TypeId):
 ∃v' w',(Builtin.append_ #[22,22] ty #[.slice none 0 0,v]).run prog w=.ok v' w'/\Below w.heap.size w w'/\w'.ownsRow w.heap.size 66 3 v' l.length (flat Zjc l):=by
 obtain⟨i0,hi0,hz0,hz1,hz2⟩:=info_parts Zwl;exact Zoy dE Zsx Zact underlying22 hi0 hz0 hz1 hz2 rfl h mL hl ty
theorem app_Ty{l:List Ty}{v:Value}{w:World}(h:RowG 2 tyC w v l)(hl:l.length*16<=140737488355328)(ty:TypeId):
 ∃v' w',(Builtin.append_ #[23,23] ty #[.slice none 0 0,v]).run prog w=.ok v' w'/\Below w.heap.size w w'/\w'.ownsRow w.heap.size 69 2 v' l.length (flat tyC l):=by
 obtain⟨i0,hi0,hz0,hz1,hz2⟩:=info_parts Zyn;exact Zoy dE Zsa Zafb underlying23 hi0 hz0 hz1 hz2 rfl h mL hl ty
theorem app_Sl{l:List Sl}{v:Value}{w:World}(h:RowG 5 slC w v l)(hl:l.length*32<=140737488355328)(ty:TypeId):
 ∃v' w',(Builtin.append_ #[24,24] ty #[.slice none 0 0,v]).run prog w=.ok v' w'/\Below w.heap.size w w'/\w'.ownsRow w.heap.size 72 5 v' l.length (flat slC l):=by
 obtain⟨i0,hi0,hz0,hz1,hz2⟩:=info_parts Zyh;exact Zoy dE Zuc Zaeo underlying24 hi0 hz0 hz1 hz2 rfl h mL hl ty
def f4(a b c d:Value)(j:Nat):Value:=if j=0 then a else if j=1 then b else if j=2 then c else d
structure CW(w:World)(v0 v1 v2 v3 x0 x1 x2 x3:Value)(v:World):Prop where
 bel:Below w.heap.size w v
 c:Zhw v w.heap.size 0 [v0,v1,v2,v3]
 r:v.rowIs (w.heap.size+1) 27 4 (f4 (.slice none 0 0) (.slice none 0 0) (.slice none 0 0) (.slice none 0 0))
 d:v.rowIs (w.heap.size+1+1) 27 4 (f4 x0 x1 x2 x3)
theorem CW.app{w:World}{v0 v1 v2 v3 x0 x1 x2 x3:Value}{v v':World}(h:CW w v0 v1 v2 v3 x0 x1 x2 x3 v)(k:Below v.heap.size v v'):CW w v0 v1 v2 v3 x0 x1 x2 x3 v':=
 ⟨Go.Proofs.YtbinohkcolcbfaaGreat.bel h.bel k,h.c.below k,h.r.of_block (k.block _ h.r.lt),h.d.of_block (k.block _ h.d.lt)⟩
theorem CW.put{w:World}{v0 v1 v2 v3 x0 x1 x2 x3 y0 y1 y2 y3:Value}{v:World}(h:CW w v0 v1 v2 v3 x0 x1 x2 x3 v)(i:Nat)(x:Value)(e:∀j,j<4->(if j=i then x else f4 x0 x1 x2 x3 j)=f4 y0 y1 y2 y3 j):CW w v0 v1 v2 v3 y0 y1 y2 y3 (v.setCell ⟨w.heap.size+1+1,i,none⟩ x):=by
 have nb:∀b,b≠w.heap.size+1+1->(v.setCell ⟨w.heap.size+1+1,i,none⟩ x).heap[b]? =v.heap[b]? :=fun b hb=>Below.heap_setCell _ _ _ _ hb;exact⟨h.bel.setCell Zfy _,h.c.of_block (nb _ oM),h.r.of_block (nb _ oM),(h.d.set i x).congr e⟩
theorem CW.start(w:World)(v0 v1 v2 v3:Value):CW w v0 v1 v2 v3 (.slice none 0 0) (.slice none 0 0) (.slice none 0 0) (.slice none 0 0) (((w.alloc (.cells #[v0,v1,v2,v3] 27)).alloc (.cells #[.slice none 0 0,.slice none 0 0,.slice none 0 0,.slice none 0 0] 27)).alloc (.cells #[.slice none 0 0,.slice none 0 0,.slice none 0 0,.slice none 0 0] 27)):=by
 have q:∀u:World,(u.alloc (.cells #[.slice none 0 0,.slice none 0 0,.slice none 0 0,.slice none 0 0] 27)).rowIs u.heap.size 27 4 (f4 (.slice none 0 0) (.slice none 0 0) (.slice none 0 0) (.slice none 0 0)):=fun u=>World.rowIs_alloc u #[.slice none 0 0,.slice none 0 0,.slice none 0 0,.slice none 0 0] 27 _ (fun i hi=>by
  have hi':i<4:=hi;obtain rfl|rfl|rfl|rfl:i=0\/i=1\/i=2\/i=3:=oM
  all_goals rfl)
 have h1:=q (w.alloc (.cells #[v0,v1,v2,v3] 27));have h2:=q ((w.alloc (.cells #[v0,v1,v2,v3] 27)).alloc (.cells #[.slice none 0 0,.slice none 0 0,.slice none 0 0,.slice none 0 0] 27));have s1:(w.alloc (.cells #[v0,v1,v2,v3] 27)).heap.size=w.heap.size+1:=sM;have s2:((w.alloc (.cells #[v0,v1,v2,v3] 27)).alloc (.cells #[.slice none 0 0,.slice none 0 0,.slice none 0 0,.slice none 0 0] 27)).heap.size=w.heap.size+1+1:=sM;rw[s1]at h1;rw[s2]at h2;refine⟨Go.Proofs.YtbinohkcolcbfaaGreat.bel (Go.Proofs.YtbinohkcolcbfaaGreat.bel (Zhq _ _) (Zhq _ _)) (Zhq _ _),fun j hj=>?_,h1.alloc _,h2⟩;have hj':j<4:=hj;obtain rfl|rfl|rfl|rfl:j=0\/j=1\/j=2\/j=3:=oM
 all_goals simp[go_sem]
def Up(E:Nat)(v v':World):Prop:=v.heap.size<=v'.heap.size/\∀b,E<=b->b<v.heap.size->v'.heap[b]? =v.heap[b]?
theorem Up.of{E:Nat}{v v':World}(k:Below v.heap.size v v'):Up E v v':=⟨k.size,fun b _ hb=>k.block b hb⟩
theorem Up.set{E:Nat}(v:World){D:Nat}(hD:D<E)(i:Nat)(x:Value):Up E v (v.setCell ⟨D,i,none⟩ x):=⟨sM,fun b hb _=>Below.heap_setCell _ _ _ _ (by show b≠D;omega)⟩
theorem Up.trans{E:Nat}{a b c:World}(h:Up E a b)(k:Up E b c):Up E a c:=⟨Nat.le_trans h.1 k.1,fun x hx hl=>(k.2 x hx (Nat.lt_of_lt_of_le hl h.1)).trans (h.2 x hx hl)⟩
theorem Up.own{E B:Nat}{v v':World}{t:TypeId}{k n:Nat}{u:Value}{xs:List Value}(h:Up E v v')(ho:v.ownsRow B t k u n xs)(hB:E<=B):v'.ownsRow B t k u n xs:=Ziv ho fun g hg=>h.2 g (Nat.le_trans hB (ho.lt g hg).1) (ho.lt g hg).2
structure Own4(B:Nat)(w:World)(u0 u1 u2 u3:Value)(c:Cd):Prop where
 sign:w.ownsRow B 66 3 u0 c.sign.length (flat Zjc c.sign)
 regs:w.ownsRow B 69 2 u1 c.regs.length (flat tyC c.regs)
 slots:w.ownsRow B 72 5 u2 c.slots.length (flat slC c.slots)
 list:w.ownsRow B 45 7 u3 c.list.length (flat inC c.list)
structure CdSz(c:Cd):Prop where
 s:c.sign.length*32<=140737488351232
 r:c.regs.length*16<=140737488351232
 l:c.slots.length*32<=140737488351232
 i:c.list.length*56<=140737488351232

theorem Zrd{w:World}{B B':Nat}{t t':TypeId}{k k' n n':Nat}{v v':Value}{xs xs':List Value}(h:w.ownsRow B t k v n xs)(h':w.ownsRow B' t' k' v' n' xs')(ht:t≠t'):∀b,v.ownBlock=some b->v'.ownBlock≠some b:=by
 intro b hb hb';rcases h.2 with⟨rfl,_⟩|⟨g,cap,cur,rfl,_,hg,_⟩
 ·exact absurd (show(none:Option Nat)=some b from hb) sM
 rcases h'.2 with⟨rfl,_⟩|⟨g',cap',cur',rfl,_,hg',_⟩
 ·exact absurd (show(none:Option Nat)=some b from hb') sM
 have e1:g=b:=Option.some.inj hb;have e2:g'=b:=Option.some.inj hb';rw[e1]at hg;rw[e2,hg]at hg';simp only[Option.some.injEq,Obj.cells.injEq]at hg';exact ht hg'.2.1


def setB(M:Nat)(X:List Nat):List Value:=(List.range M).map fun j=>.bool (decide (j∈X))
theorem Zuz(M:Nat)(X:List Nat):(setB M X).length=M:=by simp[setB]
theorem Zse{M:Nat}{X:List Nat}{j:Nat}(h:j<M):(setB M X)[j]? =some (.bool (decide (j∈X))):=by
 unfold setB;rw[List.getElem?_map,List.getElem?_range h];rfl
theorem Zaax(M:Nat):setB M []=List.replicate M (.bool false):=by
 apply List.ext_getElem?;intro j;by_cases h:j<M
 ·rw[Zse h,List.getElem?_replicate,if_pos h];simp
 ·rw[List.getElem?_eq_none Zhn,List.getElem?_eq_none sO]
theorem Zarr{M:Nat}{X:List Nat}{i:Ins}(hd:(rowP i.op).d≠0)(hl:i.d.toNat<M):(setB M X).set i.d.toNat (.bool true)=setB M (insP X i):=by
 apply List.ext_getElem?;intro j;by_cases h:j<M
 ·rw[Zse h,List.getElem?_set];by_cases e:i.d.toNat=j
  ·rw[if_pos e,if_pos Zhn];have:j∈insP X i:=Zaft.2 (.inr ⟨hd,e.symm⟩);simp[this]
  ·rw[if_neg e,Zse h];have:j∈insP X i↔j∈X:=by
    rw[Zaft];exact⟨fun q=>q.resolve_right fun q=>e q.2.symm,.inl⟩
   simp[this]
 ·rw[List.getElem?_eq_none (by rw[List.length_set,Zuz];omega),List.getElem?_eq_none Zhn]
theorem Zakh{M:Nat}{X:List Nat}{i:Ins}(hd:(rowP i.op).d=0):insP X i=X:=by unfold insP;rw[if_neg (fun q=>q.1 hd)]
theorem Zapg{B:Nat}{V:World}{p:Option Addr}{n q:Nat}{xs:List Value}(h:V.ownsRow B 4 1 (.slice p n q) n xs)(hB:B<=V.heap.size)(hn:n<=140737488351232):
 ∃g c' w',(Builtin.append_ #[100,100] 100 #[.slice p n q,.slice (some ⟨V.heap.size,0,none⟩) 1 1]).run prog (V.alloc (.cells #[.bool false] 4))=.ok (.slice (some ⟨g,0,none⟩) (n+1) c') w'/\Below B V w'/\w'.ownsRow B 4 1 (.slice (some ⟨g,0,none⟩) (n+1) c') (n+1) (xs++[.bool false]):=by
 obtain⟨i0,hi0,hz0,hz1,hz2⟩:=info_parts Zri;have hb0:Below V.heap.size V (V.alloc (.cells #[.bool false] 4)):=Zhq _ _;have hsz:(V.alloc (.cells #[.bool false] 4)).heap.size=V.heap.size+1:=sM;have h0:=Ziu h hb0;obtain⟨g,cap,w3,hr,hown,hgrow,hat,hlt⟩:=run_append_lies (P:=prog) (V.alloc (.cells #[.bool false] 4)) 100 100 B 4 i0 _ 1 1 underlying100 hi0 hz0 hz1 hz2 rfl dE (.slice p n q) n xs h0 ⟨V.heap.size,0,none⟩ 1 1 [.bool false] rfl
  (World.news_of_block (cs:=#[.bool false]) (t:=4) (fr:=(0,0)) (heap_alloc_new V _)) Zfz dE mL oM sO _ rfl
 exact⟨g,cap,w3,hr,(hb0.mono hB).grown hgrow oM (fun q e=>(h0.lt q e).1),hown⟩
end Go.Proofs.YtbinohkcolcbfaaGreat
