import Derived.Test.YtbinohkcolcbfaaGreatPart1
import Derived.Test.YtbinohkcolcbfaaGreatPart15
namespace Go.Proofs.YtbinohkcolcbfaaGreat
open Go.RowKit Go.Proofs.Tryz
set_option linter.unusedVariables false
set_option linter.unusedSimpArgs false
set_option maxRecDepth 100000
set_option maxHeartbeats 16000000
theorem rfits_C(v0 v1 v2 v3:Value)(c:Cd)(co:CdOk c)(hT:Zif c=true)(op D A B E n bt La Lb Lc Ld Le:Int)(a b cc d e:UInt8)
 (HROW:Hid (∀w,Calls prog 67 #[.int .i64 op] w fun x w'=>x=.returned (.tuple #[.string ⟨#[a,b,cc,d,e]⟩,.bool true])/\w'=w))
 (HCAN:Hid (∀w,Calls prog 63 #[.int .u32 bt] w fun e w'=>e=.returned (.bool true)/\Below w.heap.size w w'))
 (ix0:∀w,(Instr.index 9 (.string ⟨#[a,b,cc,d,e]⟩) (.int .i64 0)).run prog w=.ok (.int .u8 La) w)
 (ix1:∀w,(Instr.index 9 (.string ⟨#[a,b,cc,d,e]⟩) (.int .i64 1)).run prog w=.ok (.int .u8 Lb) w)
 (ix2:∀w,(Instr.index 9 (.string ⟨#[a,b,cc,d,e]⟩) (.int .i64 2)).run prog w=.ok (.int .u8 Lc) w)
 (ix3:∀w,(Instr.index 9 (.string ⟨#[a,b,cc,d,e]⟩) (.int .i64 3)).run prog w=.ok (.int .u8 Ld) w)
 (ix4:∀w,(Instr.index 9 (.string ⟨#[a,b,cc,d,e]⟩) (.int .i64 4)).run prog w=.ok (.int .u8 Le) w)
 (oa:Zjz La) (ob:Zjz Lb) (oc:Zjz Lc) (od:Zjz Ld) (oT:Le=112->La=118\/(La=45/\Lb=118)) (o1:(op==1)=true) (o2:(op != 1)=false) (hz0:La≠45) (oe:Le=45)
 (w:World) (hv:CdV w v0 v1 v2 v3 c):
 Calls prog 64 #[.agg #[v0,v1,v2,v3],.agg #[.int .i64 op,.int .i64 D,.int .i64 A,.int .i64 B,.int .i64 E,.int .i64 n,.int .u32 bt]] w fun e w'=>e=.returned (.bool (Zhz c.regs La D ⟨0,0⟩&&(Zhz c.regs Lb A (dR c.regs La D)&&(Zhz c.regs Lc B (dR c.regs La D)&&(Zhz c.regs Ld E (dR c.regs La D)&&Zll c Le n (tR c.regs La Lb D A))))))/\Below w.heap.size w w':=by
 have KO:∀ (l n:Int) (d:Ty),Zjz l->∀v,Below w.heap.size w v->Calls prog 104 #[.agg #[v0,v1,v2,v3],.int .u8 l,.int .i64 n,.agg #[.int .i64 d.kind,.int .i64 d.par]] v fun e w'=>e=.returned (.bool (Zhz c.regs l n d))/\Below v.heap.size v w':=fun l n d hl v hb=>Zqh v0 v1 v2 v3 c co l n d hl v (hv.below hb);have HT0:Hid (TW w v0 v1 v2 v3 (w.heap.size+1) op D A B E n bt ((w.alloc (.cells #[v0,v1,v2,v3] 27)).alloc (.cells #[.int .i64 op,.int .i64 D,.int .i64 A,.int .i64 B,.int .i64 E,.int .i64 n,.int .u32 bt] 45))):=TW.start w v0 v1 v2 v3 op D A B E n bt;obtain⟨p0,q0,rfl,-⟩:=id hv.sign;obtain⟨p1,q1,rfl,hr1⟩:=id hv.regs;obtain⟨p2,q2,rfl,-⟩:=id hv.slots;have hREG:∀x:Int,isPl x c.regs.length=true->∃ (k lb lo:Nat),x=(k:Int)/\k<c.regs.length/\p1=some ⟨lb,lo,none⟩/\w.cell? ⟨lb,lo+k*2,none⟩=some (.int .i64 (regT c.regs x).kind)/\w.cell? ⟨lb,lo+k*2+1,none⟩=some (.int .i64 (regT c.regs x).par):=by
  exact Zck
 have HREG:Hid (∀x:Int,isPl x c.regs.length=true->∃ (k lb lo:Nat),x=(k:Int)/\k<c.regs.length/\p1=some ⟨lb,lo,none⟩/\w.cell? ⟨lb,lo+k*2,none⟩=some (.int .i64 (regT c.regs x).kind)/\w.cell? ⟨lb,lo+k*2+1,none⟩=some (.int .i64 (regT c.regs x).par)):=hREG;have HCV:Hid (CdV w (.slice p0 c.sign.length q0) (.slice p1 c.regs.length q1) (.slice p2 c.slots.length q2) v3 c):=hv;have HCO:Hid (CdOk c):=co;have hB0:=co.signL;have hB1:=co.regsL;have hB2:=co.slotsL;have hTy:∀x:Int,isPl x c.regs.length=true->letR 118 (regT c.regs x) ⟨0,0⟩=true->isPl (regT c.regs x).par c.sign.length=true:=fun x hx hk=>by
  exact Zdc
 obtain⟨n0,hn0⟩:∃n0,c.sign.length=n0:=⟨_,rfl⟩
 obtain⟨n1,hn1⟩:∃n1,c.regs.length=n1:=⟨_,rfl⟩
 obtain⟨n2,hn2⟩:∃n2,c.slots.length=n2:=⟨_,rfl⟩
 have HN0:Hid (c.sign.length=n0):=hn0;have HN1:Hid (c.regs.length=n1):=hn1;have HN2:Hid (c.slots.length=n2):=hn2;rw[hn0]at hB0;rw[hn1]at hB1;rw[hn2]at hB2;rw[hn0,hn1,hn2]at HCV KO HT0 ⊢;clear hREG hv hr1 hn0 hn1 hn2 co;have HTY:Hid (∀x:Int,isPl x c.regs.length=true->letR 118 (regT c.regs x) ⟨0,0⟩=true->isPl (regT c.regs x).par c.sign.length=true):=hTy;clear hTy hT;have hKO0:=fun d=>KO La D d oa;have hKOA:=fun d=>KO Lb A d ob;have hKOB:=fun d=>KO Lc B d oc;have hKOC:=fun d=>KO Ld E d od;clear KO;have hPP0:Le=112->La=118\/(La=45/\Lb=118):=oT;clear oT oc od;obtain⟨RES,hRES⟩:∃R,(Zhz c.regs La D ⟨0,0⟩&&(Zhz c.regs Lb A (dR c.regs La D)&&(Zhz c.regs Lc B (dR c.regs La D)&&(Zhz c.regs Ld E (dR c.regs La D)&&Zll c Le n (tR c.regs La Lb D A)))))=R:=⟨_,rfl⟩
 rw[hRES];have hz1:(La==45)=false:=by simpa using hz0
 have hz2:(La != 45)=true:=by simpa using hz0
 have hPL:Zhz c.regs La D ⟨0,0⟩=true->isPl D c.regs.length=true:=fun h=>by
  rw[Zkq hz0]at h;simp only[Bool.and_eq_true]at h;exact h.1
 have hPV:Zhz c.regs La D ⟨0,0⟩=true->La=118->letR 118 (regT c.regs D) ⟨0,0⟩=true:=fun h hl=>by
  exact Zeu
 have hdR:dR c.regs La D=regT c.regs D:=if_neg hz0;have htR:tR c.regs La Lb D A=regT c.regs D:=by unfold tR;rw[if_neg (fun e=>hz0 e.1),hdR]
 rw[htR,hdR]at hRES;have HPP0:Hid (Zhz c.regs La D ⟨0,0⟩=true->Le=112->isPl (regT c.regs D).par c.sign.length=true):=fun h e=>by
  rcases hPP0 e with h1|⟨h1,-⟩
  ·exact HTY.out _ (hPL h) (hPV h h1)
  ·exact absurd h1 hz0
 obtain⟨X0,hX0⟩:∃X,Zhz c.regs La D ⟨0,0⟩=X:=⟨_,rfl⟩
 have HK0:Hid _:=hKO0 ⟨0,0⟩;rw[hX0]at hRES hPL HPP0 HK0;simp only at HK0;clear hX0 hPV hdR htR hKO0 hPP0 HTY;cases X0
 ·exact Zal
 obtain⟨kd,lb,lo,rfl,hkd,rfl,ya0,ya1⟩:=HREG.out D (hPL rfl);obtain⟨⟨dk,dp⟩,htt⟩:∃t:Ty,regT c.regs (kd:Int)=t:=⟨_,rfl⟩
 rw[htt]at HPP0 ya0 ya1 hRES;obtain⟨XA,hXA⟩:∃X,Zhz c.regs Lb A ⟨dk,dp⟩=X:=⟨_,rfl⟩
 obtain⟨XB,hXB⟩:∃X,Zhz c.regs Lc B ⟨dk,dp⟩=X:=⟨_,rfl⟩
 obtain⟨XC,hXC⟩:∃X,Zhz c.regs Ld E ⟨dk,dp⟩=X:=⟨_,rfl⟩
 rw[hXA,hXB,hXC]at hRES;have HKA:Hid _:=hKOA ⟨dk,dp⟩;have HKB:Hid _:=hKOB ⟨dk,dp⟩;have HKC:Hid _:=hKOC ⟨dk,dp⟩;rw[hXA]at HKA;rw[hXB]at HKB;rw[hXC]at HKC;simp only at HKA HKB HKC;have HRES:Hid ((XA&&(XB&&(XC&&Zll c Le n ⟨dk,dp⟩)))=RES):=hRES;have HPP:Hid (Le=112->isPl dp c.sign.length=true):=HPP0.out rfl;have ka0:(0:Int)<=(kd:Int):=oM;have ka1:(kd:Int)<(n1:Int):=by have:=HN1.out;omega
 clear hKOA hKOB hKOC hXA hXB hXC hRES HPP0 hPL htt;go_enter func64,ntmps64;go_wp2_with(first
  |(go_at_call 67;refine(HROW.out _).mono ?_;rintro e w1 ⟨rfl,rfl⟩)
  |(go_at_call 63;refine(HCAN.out _).mono ?_;rintro e w2 ⟨rfl,hb2⟩;have HT2:Hid (TW w (.slice p0 n0 q0) (.slice (some ⟨lb,lo,none⟩) n1 q1) (.slice p2 n2 q2) v3 (w.heap.size+1) op (kd:Int) A B E n bt (w2.alloc (.cells #[.int .i64 0,.int .i64 0] 69))):=(HT0.out.next hb2).next (Zhq _ _);obtain⟨b1,c0,c1,c2,c3,i0,i1,i2,i3,i4,i5,i6⟩:=HT2.out;have HS2:Hid (w.heap.size+1<w2.heap.size):=Zhr (HT0.out.next hb2).i0;clear hb2))
 have HTD0:Hid _:=HT2.out;have HD0:Hid ((w2.alloc (.cells #[.int .i64 0,.int .i64 0] 69)).cell? ⟨w2.heap.size,0,none⟩=some (.int .i64 0)/\(w2.alloc (.cells #[.int .i64 0,.int .i64 0] 69)).cell? ⟨w2.heap.size,1,none⟩=some (.int .i64 0)/\(w2.alloc (.cells #[.int .i64 0,.int .i64 0] 69)).frozen? ⟨w2.heap.size,0,none⟩=false/\(w2.alloc (.cells #[.int .i64 0,.int .i64 0] 69)).frozen? ⟨w2.heap.size,1,none⟩=false):=⟨sG,sG,sG,sG⟩
 have HBZ9:Hid (lb<w.heap.size):=Zhr ya0;have HZ:Hid (w2.heap.size≠w.heap.size+1/\w.heap.size<w2.heap.size/\lb≠w2.heap.size):=by
  refine⟨?_,?_,?_⟩
  all_goals(have h3:=HS2.out;have h4:=HBZ9.out;omega)
 obtain⟨Z,hZ⟩:∃Z,w2.heap.size=Z:=⟨_,rfl⟩
 obtain⟨Wa,hWa⟩:∃W,w2.alloc (.cells #[.int .i64 0,.int .i64 0] 69)=W:=⟨_,rfl⟩
 rw[hZ]at HD0 HZ;rw[hWa]at HD0 HTD0 ⊢;try rw[hZ]
 clear hZ hWa HT2 b1 c0 c1 c2 c3 i0 i1 i2 i3 i4 i5 i6 HT0 HROW HCAN HS2;have HCD0:Hid (∀v,Below Wa.heap.size Wa v->v.cell? ⟨w.heap.size,0,none⟩=some (.slice p0 n0 q0)/\v.cell? ⟨w.heap.size,1,none⟩=some (.slice (some ⟨lb,lo,none⟩) n1 q1)/\v.cell? ⟨w.heap.size,2,none⟩=some (.slice p2 n2 q2)/\v.cell? ⟨w.heap.size,3,none⟩=some v3/\v.cell? ⟨w.heap.size+1,1,none⟩=some (.int .i64 (kd:Int))/\v.cell? ⟨w.heap.size+1,2,none⟩=some (.int .i64 A)/\v.cell? ⟨w.heap.size+1,3,none⟩=some (.int .i64 B)/\v.cell? ⟨w.heap.size+1,4,none⟩=some (.int .i64 E)/\v.cell? ⟨w.heap.size+1,5,none⟩=some (.int .i64 n)/\v.cell? ⟨Z,0,none⟩=some (.int .i64 0)/\v.cell? ⟨Z,1,none⟩=some (.int .i64 0)):=fun v hb=>⟨kc hb HTD0.out.c0,kc hb HTD0.out.c1,kc hb HTD0.out.c2,kc hb HTD0.out.c3,kc hb HTD0.out.i1,kc hb HTD0.out.i2,kc hb HTD0.out.i3,kc hb HTD0.out.i4,kc hb HTD0.out.i5,kc hb HD0.out.1,kc hb HD0.out.2.1⟩
 obtain⟨c0,c1,c2,c3,i1,i2,i3,i4,i5,d0,d1⟩:=HCD0.out Wa (bel0 _);have HYA:Hid (∀v,Below Wa.heap.size Wa v->v.cell? ⟨lb,lo+kd*2,none⟩=some (.int .i64 dk)/\v.cell? ⟨lb,lo+kd*2+1,none⟩=some (.int .i64 dp)/\v.frozen? ⟨Z,0,none⟩=false/\v.frozen? ⟨Z,1,none⟩=false):=fun v hb=>⟨kc (bel HTD0.out.bel hb) ya0,kc (bel HTD0.out.bel hb) ya1,kf hb HD0.out.1 HD0.out.2.2.1,kf hb HD0.out.2.1 HD0.out.2.2.2⟩
 refine rG (fun v=>v.cell? ⟨w.heap.size,0,none⟩=some (.slice p0 n0 q0)/\v.cell? ⟨w.heap.size,1,none⟩=some (.slice (some ⟨lb,lo,none⟩) n1 q1)/\v.cell? ⟨w.heap.size,2,none⟩=some (.slice p2 n2 q2)/\v.cell? ⟨w.heap.size,3,none⟩=some v3/\v.cell? ⟨w.heap.size+1,1,none⟩=some (.int .i64 (kd:Int))/\v.cell? ⟨w.heap.size+1,2,none⟩=some (.int .i64 A)/\v.cell? ⟨w.heap.size+1,3,none⟩=some (.int .i64 B)/\v.cell? ⟨w.heap.size+1,4,none⟩=some (.int .i64 E)/\v.cell? ⟨w.heap.size+1,5,none⟩=some (.int .i64 n)/\v.cell? ⟨Z,0,none⟩=some (.int .i64 0)/\v.cell? ⟨Z,1,none⟩=some (.int .i64 0)) fun hHeld=>?_;refine Tf 0 1 2 3 4 5 ?_;clear hHeld;refine ry1 6 fun K hK=>?_;go_simp;(go_at_call 104;(with_reducible refine(HK0.out _ (bel HTD0.out.bel (Zhs _))).mono ?_);rintro e w9 ⟨rfl,hb9⟩;have HB9:Hid (Below Wa.heap.size Wa w9):=bel (Zhs _) hb9;clear hb9;obtain⟨ya2,ya3,fz0,fz1⟩:=HYA.out w9 HB9.out;obtain⟨c0,c1,c2,c3,i1,i2,i3,i4,i5,d0,d1⟩:=HCD0.out w9 HB9.out);try(go_wp2_with fail)
 refine okK hK fun hHeld=>?_;clear hK K;refine tkT 7 ?_;refine wpAnyH_done kR ?_ _;obtain⟨hz5,hz6,hz7⟩:=HZ.out;go_wp2;have HD:Hid (((w9.setCell ⟨Z,0,none⟩ (.int .i64 dk)).setCell ⟨Z,1,none⟩ (.int .i64 dp)).cell? ⟨Z,0,none⟩=some (.int .i64 dk)/\((w9.setCell ⟨Z,0,none⟩ (.int .i64 dk)).setCell ⟨Z,1,none⟩ (.int .i64 dp)).cell? ⟨Z,1,none⟩=some (.int .i64 dp)):=⟨by simp[go_sem,d0,d1],by simp[go_sem,d0,d1]⟩
 have HTD:Hid _:=((HTD0.out.next HB9.out).keep (g:=Z) (o:=0) (.int .i64 dk) hz6 hz5).keep (g:=Z) (o:=1) (.int .i64 dp) hz6 hz5;obtain⟨Wd,hWd⟩:∃W,(w9.setCell ⟨Z,0,none⟩ (.int .i64 dk)).setCell ⟨Z,1,none⟩ (.int .i64 dp)=W:=⟨_,rfl⟩
 rw[hWd]at HD HTD ⊢;clear hWd c0 c1 c2 c3 i1 i2 i3 i4 i5 d0 d1 ya2 ya3 fz0 fz1 HCD0 HYA HD0 HTD0 HB9 HK0 hz5 hz6 hz7 HZ;have HCD:Hid (∀v,Below Wd.heap.size Wd v->v.cell? ⟨w.heap.size,0,none⟩=some (.slice p0 n0 q0)/\v.cell? ⟨w.heap.size,1,none⟩=some (.slice (some ⟨lb,lo,none⟩) n1 q1)/\v.cell? ⟨w.heap.size,2,none⟩=some (.slice p2 n2 q2)/\v.cell? ⟨w.heap.size,3,none⟩=some v3/\v.cell? ⟨w.heap.size+1,1,none⟩=some (.int .i64 (kd:Int))/\v.cell? ⟨w.heap.size+1,2,none⟩=some (.int .i64 A)/\v.cell? ⟨w.heap.size+1,3,none⟩=some (.int .i64 B)/\v.cell? ⟨w.heap.size+1,4,none⟩=some (.int .i64 E)/\v.cell? ⟨w.heap.size+1,5,none⟩=some (.int .i64 n)/\v.cell? ⟨Z,0,none⟩=some (.int .i64 dk)/\v.cell? ⟨Z,1,none⟩=some (.int .i64 dp)):=fun v hb=>⟨kc hb HTD.out.c0,kc hb HTD.out.c1,kc hb HTD.out.c2,kc hb HTD.out.c3,kc hb HTD.out.i1,kc hb HTD.out.i2,kc hb HTD.out.i3,kc hb HTD.out.i4,kc hb HTD.out.i5,kc hb HD.out.1,kc hb HD.out.2⟩
 obtain⟨c0,c1,c2,c3,i1,i2,i3,i4,i5,d0,d1⟩:=HCD.out Wd (bel0 _);cases XA
 ·exact Zba
 cases XB
 ·have HQF:Hid (false=RES):=HRES.out;go_wp2;refine rG (fun v=>v.cell? ⟨w.heap.size,0,none⟩=some (.slice p0 n0 q0)/\v.cell? ⟨w.heap.size,1,none⟩=some (.slice (some ⟨lb,lo,none⟩) n1 q1)/\v.cell? ⟨w.heap.size,2,none⟩=some (.slice p2 n2 q2)/\v.cell? ⟨w.heap.size,3,none⟩=some v3/\v.cell? ⟨w.heap.size+1,1,none⟩=some (.int .i64 (kd:Int))/\v.cell? ⟨w.heap.size+1,2,none⟩=some (.int .i64 A)/\v.cell? ⟨w.heap.size+1,3,none⟩=some (.int .i64 B)/\v.cell? ⟨w.heap.size+1,4,none⟩=some (.int .i64 E)/\v.cell? ⟨w.heap.size+1,5,none⟩=some (.int .i64 n)/\v.cell? ⟨Z,0,none⟩=some (.int .i64 dk)/\v.cell? ⟨Z,1,none⟩=some (.int .i64 dp)) fun hHeld=>?_;exact Zav
 cases XC
 ·have HQF:Hid (false=RES):=HRES.out;go_wp2;refine rG (fun v=>v.cell? ⟨w.heap.size,0,none⟩=some (.slice p0 n0 q0)/\v.cell? ⟨w.heap.size,1,none⟩=some (.slice (some ⟨lb,lo,none⟩) n1 q1)/\v.cell? ⟨w.heap.size,2,none⟩=some (.slice p2 n2 q2)/\v.cell? ⟨w.heap.size,3,none⟩=some v3/\v.cell? ⟨w.heap.size+1,1,none⟩=some (.int .i64 (kd:Int))/\v.cell? ⟨w.heap.size+1,2,none⟩=some (.int .i64 A)/\v.cell? ⟨w.heap.size+1,3,none⟩=some (.int .i64 B)/\v.cell? ⟨w.heap.size+1,4,none⟩=some (.int .i64 E)/\v.cell? ⟨w.heap.size+1,5,none⟩=some (.int .i64 n)/\v.cell? ⟨Z,0,none⟩=some (.int .i64 dk)/\v.cell? ⟨Z,1,none⟩=some (.int .i64 dp)) fun hHeld=>?_;exact Zan
 go_wp2;refine rG (fun v=>v.cell? ⟨w.heap.size,0,none⟩=some (.slice p0 n0 q0)/\v.cell? ⟨w.heap.size,1,none⟩=some (.slice (some ⟨lb,lo,none⟩) n1 q1)/\v.cell? ⟨w.heap.size,2,none⟩=some (.slice p2 n2 q2)/\v.cell? ⟨w.heap.size,3,none⟩=some v3/\v.cell? ⟨w.heap.size+1,1,none⟩=some (.int .i64 (kd:Int))/\v.cell? ⟨w.heap.size+1,2,none⟩=some (.int .i64 A)/\v.cell? ⟨w.heap.size+1,3,none⟩=some (.int .i64 B)/\v.cell? ⟨w.heap.size+1,4,none⟩=some (.int .i64 E)/\v.cell? ⟨w.heap.size+1,5,none⟩=some (.int .i64 n)/\v.cell? ⟨Z,0,none⟩=some (.int .i64 dk)/\v.cell? ⟨Z,1,none⟩=some (.int .i64 dp)) fun hHeld=>?_;refine Tf 0 1 2 3 4 5 ?_;clear hHeld;refine ry1 6 fun K hK=>?_;go_simp;(go_at_call 104;(with_reducible refine(HKA.out _ (bel HTD.out.bel (Zhs _))).mono ?_);rintro e w3 ⟨rfl,hb9⟩;have HB3:Hid (Below Wd.heap.size Wd w3):=bel (Zhs _) hb9;clear hb9;obtain⟨c0,c1,c2,c3,i1,i2,i3,i4,i5,d0,d1⟩:=HCD.out w3 HB3.out);try(go_wp2_with fail)
 refine okK hK fun hHeld=>?_;clear hK K;refine Tf 7 8 9 10 11 12 ?_;refine Tb 13 14 ?_;clear hHeld;refine ry1 15 fun K hK=>?_;go_simp;(go_at_call 104;(with_reducible refine(HKB.out _ (bel HTD.out.bel HB3.out)).mono ?_);rintro e w4 ⟨rfl,hb9⟩;have HB4:Hid (Below Wd.heap.size Wd w4):=bel HB3.out hb9;clear hb9;clear c0 c1 c2 c3 i1 i2 i3 i4 i5 d0 d1;obtain⟨c0,c1,c2,c3,i1,i2,i3,i4,i5,d0,d1⟩:=HCD.out w4 HB4.out);try(go_wp2_with fail)
 refine okK hK fun hHeld=>?_;clear hK K;refine Tf 16 17 18 19 20 21 ?_;refine Tc 22 23 24 ?_;clear hHeld;refine ry1 25 fun K hK=>?_;go_simp;(go_at_call 104;(with_reducible refine(HKC.out _ (bel HTD.out.bel HB4.out)).mono ?_);rintro e w5 ⟨rfl,hb9⟩;have HB5:Hid (Below Wd.heap.size Wd w5):=bel HB4.out hb9;clear hb9;clear c0 c1 c2 c3 i1 i2 i3 i4 i5 d0 d1;obtain⟨c0,c1,c2,c3,i1,i2,i3,i4,i5,d0,d1⟩:=HCD.out w5 HB5.out);try(go_wp2_with fail)
 refine okK hK fun hHeld=>?_;clear hK K;refine Tb 26 27 ?_;refine wpAnyH_done kR ?_ _;clear c0 c1 c2 c3 i1 i2 i3 i4 i5 d0 d1;have HT5:Hid (TW w (.slice p0 n0 q0) (.slice (some ⟨lb,lo,none⟩) n1 q1) (.slice p2 n2 q2) v3 (w.heap.size+1) op (kd:Int) A B E n bt w5):=HTD.out.next HB5.out;obtain⟨hb5,c0,c1,c2,c3,i0,i1,i2,i3,i4,i5,i6⟩:=HT5.out;obtain⟨-,-,-,-,-,-,-,-,-,d0,d1⟩:=HCD.out w5 HB5.out;have hs5:w5.heap.size≠w.heap.size+1/\w.heap.size<w5.heap.size:=⟨fun e=>by have:=Zhr i0;simp only at this;omega,by have:=Zhr c0;simp only at this;omega⟩
 have HAL:Hid (TW w (.slice p0 n0 q0) (.slice (some ⟨lb,lo,none⟩) n1 q1) (.slice p2 n2 q2) v3 (w.heap.size+1) op (kd:Int) A B E n bt (w5.alloc (.cells #[.int .i64 dk,.int .i64 dp] 69))):=HT5.out.next (Zhq _ _);have HRT:Hid (Zll c Le n ⟨dk,dp⟩=RES):=HRES.out;clear c0 c1 c2 c3 i0 i1 i2 i3 i4 i5 i6;have t0:(w5.alloc (.cells #[.int .i64 dk,.int .i64 dp] 69)).cell? ⟨w5.heap.size,0,none⟩=some (.int .i64 dk):=sG;have t1:(w5.alloc (.cells #[.int .i64 dk,.int .i64 dp] 69)).cell? ⟨w5.heap.size,1,none⟩=some (.int .i64 dp):=sG;obtain⟨hbx,c0,c1,c2,c3,i0,i1,i2,i3,i4,i5,i6⟩:=HAL.out;clear d0 d1 HRES;have hbt:=hbx;subst oe;exact Zdk
theorem do_grad{T:Nat->Prop}{E E':Nat}{a:Lay}{c:Cd}{G P:List (List Int)}{X:Nat->Value}{M:Nat}{m:Nat->Option Value}{f:Fr}(w:World)(x:FX T E E' a c G P w)(h:FV T E E' a c w X M m f)(hg:Good c)(ok:OkF c f)(hM:M<=1000000)(ib io:Nat)(i:Ins)(hi:InsT (mutT T E E') w ib io i)
 (hop:i.op=29) (hL:FitV c G) (hp:Zpj c i.d i.n):
 Calls prog 45 #[.pointer (some ⟨a.FR,0,none⟩),.pointer (some ⟨ib,io,none⟩)] w fun e w'=>e=.returned (.tuple #[])/\Zhv T E E' a c G P M {f with vecs:=putN f.vecs i.d.toNat (Zir c G i)} w w':=by
 have HK:Hid (∀v,Below w.heap.size w v->Calls prog 72 #[.pointer (some ⟨a.FR,0,none⟩),a.gv,.pointer (some ⟨ib,io,none⟩)] v fun e w'=>∃g,e=.returned (.slice (some ⟨g,0,none⟩) (Zir c G i).length (Zir c G i).length)/\v.heap.size<=g/\w'.rowIs g 43 (Zir c G i).length (fun j=>.int .u32 (atL (Zir c G i) j))/\Below v.heap.size v w'):=fun v hv=>Zacg v (x.below hv) hg a.gv G (x.g.below hv) hL ib io i (hi.below hv).cells hp;obtain⟨l,hl⟩:∃l,Zir c G i=l:=⟨_,rfl⟩
 rw[hl]at HK ⊢;have q0:=hi.cells.at 0 rfl;rw[Nat.add_zero]at q0;have q1:=hi.cells.at 1 rfl;have d0:=hp.r0;have d1:=hp.r1;obtain⟨op,D,A,B,Ec,nn,bt⟩:=i;simp only at *;subst hop;obtain⟨D,rfl⟩:∃j:Nat,D=(j:Int):=⟨D.toNat,oM⟩
 rw[Int.toNat_natCast];have hD:D<c.regs.length:=oM;have f4:=x.f4;have f5:=x.f5;have hN:=hg.regsL;obtain⟨F,hF⟩:∃F:Fr,({f with vecs:=putN f.vecs D l}:Fr)=F:=⟨_,rfl⟩
 have HFin:Hid (∀v g,Below w.heap.size w v->w.heap.size<=g->v.rowIs g 43 l.length (fun j=>.int .u32 (atL l j))->∃v2,(Instr.mapUpdate 92 (.map (some a.MB)) (.int .i64 (D:Int)) (.slice (some ⟨g,0,none⟩) l.length l.length)).run prog v=.ok () v2/\Zhv T E E' a c G P M F w v2/\(∀b,b<v.heap.size->b≠a.MB->v2.heap[b]? =v.heap[b]?)):=by
  exact Zcg
 rw[hF];have n1:a.FR≠a.MB:=x.d1.2.2.1;have n2:ib≠a.MB:=fun e=>hi.not (by rw[e];exact .inr x.iMB);have hlt1:a.FR<w.heap.size:=by have:=x.iFR;have:=x.hE';omega
 have hlt2:=hi.lt;obtain⟨FR,hFR⟩:∃FR,a.FR=FR:=⟨_,rfl⟩
 obtain⟨MB,hMB⟩:∃MB,a.MB=MB:=⟨_,rfl⟩
 obtain⟨gv,hgv⟩:∃gv,a.gv=gv:=⟨_,rfl⟩
 obtain⟨L,hL9⟩:∃L,l.length=L:=⟨_,rfl⟩
 simp only[hFR,hMB,hgv,hL9]at f4 f5 HK HFin n1 n2 hlt1 ⊢;clear x h hg hi ok hp hl hFR hMB hgv hL9 hF hL;go_enter func45,ntmps45;go_wp2;refine rG (fun v=>v.cell? ⟨FR,4,none⟩=some (.map (some MB))/\v.cell? ⟨ib,io+1,none⟩=some (.int .i64 (D:Int))/\v.cell? ⟨FR,5,none⟩=some gv) fun hHeld=>?_;refine Tf 0 1 2 3 4 5 ?_;refine Tf 6 7 8 9 10 11 ?_;refine Tb 12 13 ?_;clear hHeld;refine ry1 14 fun K hK=>?_;go_simp;(go_at_call 72;refine(HK.out _ (Zht _)).mono ?_;rintro e w1 ⟨g,rfl,hg1,hr1,hb1⟩;have HB1:=bel (Zht _) hb1;obtain⟨w2,hrun,hst,hkeep⟩:=HFin.out w1 g HB1 (by simpa using hg1) hr1;have HST:Hid (Zhv T E E' a c G P M F w w2):=hst;have z1:=kc HB1 f4;have z2:=kc HB1 q1;have z3:=kc HB1 f5;have y1:w2.cell? ⟨FR,4,none⟩=some (.map (some MB)):=(World.cell?_of_block (hkeep _ Zgg n1)).trans z1;have y2:w2.cell? ⟨ib,io+1,none⟩=some (.int .i64 (D:Int)):=(World.cell?_of_block (hkeep _ Zgg n2)).trans z2;have y3:w2.cell? ⟨FR,5,none⟩=some gv:=(World.cell?_of_block (hkeep _ Zgg n1)).trans z3;clear hb1 hr1 hst hkeep hg1);try(go_wp2_with fail)
 refine okK hK fun hHeld=>?_;clear hK K;clear hHeld;refine ry1 15 fun K hK=>?_;go_simp;exact Zcx
theorem Zarm{T:Nat->Prop}{E E':Nat}{a:Lay}{c:Cd}{G P:List (List Int)}{X:Nat->Value}{M:Nat}{m:Nat->Option Value}{f:Fr}(w:World)(x:FX T E E' a c G P w)(h:FV T E E' a c w X M m f)(hg:Good c)(ok:OkF c f)(hM:M<=1000000)(ib io:Nat)(i:Ins)(hi:InsT (mutT T E E') w ib io i)
 (hop:i.op=30) (hL:FitV c P) (hp:Zpj c i.d i.n):
 Calls prog 45 #[.pointer (some ⟨a.FR,0,none⟩),.pointer (some ⟨ib,io,none⟩)] w fun e w'=>e=.returned (.tuple #[])/\Zhv T E E' a c G P M {f with vecs:=putN f.vecs i.d.toNat (Zir c P i)} w w':=by
 have HK:Hid (∀v,Below w.heap.size w v->Calls prog 72 #[.pointer (some ⟨a.FR,0,none⟩),a.pv,.pointer (some ⟨ib,io,none⟩)] v fun e w'=>∃g,e=.returned (.slice (some ⟨g,0,none⟩) (Zir c P i).length (Zir c P i).length)/\v.heap.size<=g/\w'.rowIs g 43 (Zir c P i).length (fun j=>.int .u32 (atL (Zir c P i) j))/\Below v.heap.size v w'):=fun v hv=>Zacg v (x.below hv) hg a.pv P (x.p.below hv) hL ib io i (hi.below hv).cells hp;obtain⟨l,hl⟩:∃l,Zir c P i=l:=⟨_,rfl⟩
 rw[hl]at HK ⊢;have q0:=hi.cells.at 0 rfl;rw[Nat.add_zero]at q0;have q1:=hi.cells.at 1 rfl;have d0:=hp.r0;have d1:=hp.r1;obtain⟨op,D,A,B,Ec,nn,bt⟩:=i;simp only at *;subst hop;obtain⟨D,rfl⟩:∃j:Nat,D=(j:Int):=⟨D.toNat,oM⟩
 rw[Int.toNat_natCast];have hD:D<c.regs.length:=oM;have f4:=x.f4;have f5:=x.f6;have hN:=hg.regsL;obtain⟨F,hF⟩:∃F:Fr,({f with vecs:=putN f.vecs D l}:Fr)=F:=⟨_,rfl⟩
 have HFin:Hid (∀v g,Below w.heap.size w v->w.heap.size<=g->v.rowIs g 43 l.length (fun j=>.int .u32 (atL l j))->∃v2,(Instr.mapUpdate 92 (.map (some a.MB)) (.int .i64 (D:Int)) (.slice (some ⟨g,0,none⟩) l.length l.length)).run prog v=.ok () v2/\Zhv T E E' a c G P M F w v2/\(∀b,b<v.heap.size->b≠a.MB->v2.heap[b]? =v.heap[b]?)):=by
  exact Zcg
 rw[hF];have n1:a.FR≠a.MB:=x.d1.2.2.1;have n2:ib≠a.MB:=fun e=>hi.not (by rw[e];exact .inr x.iMB);have hlt1:a.FR<w.heap.size:=by have:=x.iFR;have:=x.hE';omega
 have hlt2:=hi.lt;obtain⟨FR,hFR⟩:∃FR,a.FR=FR:=⟨_,rfl⟩
 obtain⟨MB,hMB⟩:∃MB,a.MB=MB:=⟨_,rfl⟩
 obtain⟨gv,hgv⟩:∃gv,a.pv=gv:=⟨_,rfl⟩
 obtain⟨L,hL9⟩:∃L,l.length=L:=⟨_,rfl⟩
 simp only[hFR,hMB,hgv,hL9]at f4 f5 HK HFin n1 n2 hlt1 ⊢;clear x h hg hi ok hp hl hFR hMB hgv hL9 hF hL;go_enter func45,ntmps45;go_wp2;refine rG (fun v=>v.cell? ⟨FR,4,none⟩=some (.map (some MB))/\v.cell? ⟨ib,io+1,none⟩=some (.int .i64 (D:Int))/\v.cell? ⟨FR,6,none⟩=some gv) fun hHeld=>?_;refine Tf 0 1 2 3 4 5 ?_;refine Tf 6 7 8 9 10 11 ?_;refine Tb 12 13 ?_;clear hHeld;refine ry1 14 fun K hK=>?_;go_simp;(go_at_call 72;refine(HK.out _ (Zht _)).mono ?_;rintro e w1 ⟨g,rfl,hg1,hr1,hb1⟩;have HB1:=bel (Zht _) hb1;obtain⟨w2,hrun,hst,hkeep⟩:=HFin.out w1 g HB1 (by simpa using hg1) hr1;have HST:Hid (Zhv T E E' a c G P M F w w2):=hst;have z1:=kc HB1 f4;have z2:=kc HB1 q1;have z3:=kc HB1 f5;have y1:w2.cell? ⟨FR,4,none⟩=some (.map (some MB)):=(World.cell?_of_block (hkeep _ Zgg n1)).trans z1;have y2:w2.cell? ⟨ib,io+1,none⟩=some (.int .i64 (D:Int)):=(World.cell?_of_block (hkeep _ Zgg n2)).trans z2;have y3:w2.cell? ⟨FR,6,none⟩=some gv:=(World.cell?_of_block (hkeep _ Zgg n1)).trans z3;clear hb1 hr1 hst hkeep hg1);try(go_wp2_with fail)
 refine okK hK fun hHeld=>?_;clear hK K;clear hHeld;refine ry1 15 fun K hK=>?_;go_simp;exact Zcx
theorem do_out{T:Nat->Prop}{E E':Nat}{a:Lay}{c:Cd}{G P:List (List Int)}{X:Nat->Value}{M:Nat}{m:Nat->Option Value}{f:Fr}(w:World)(x:FX T E E' a c G P w)(h:FV T E E' a c w X M m f)(hg:Good c)(ok:OkF c f)(hM:M<=1000000)(ib io:Nat)(i:Ins)(hi:InsT (mutT T E E') w ib io i)
 (hop:i.op=31) (hp:Zpj c i.a i.n) (hl:(f.vecs i.a.toNat).length=lenOf c (regT c.regs i.a).par):
 Calls prog 45 #[.pointer (some ⟨a.FR,0,none⟩),.pointer (some ⟨ib,io,none⟩)] w fun e w'=>e=.returned (.tuple #[])/\Zhv T E E' a c G P M {f with outs:=outP f.outs (regT c.regs i.a).par.toNat (Zia c (regT c.regs i.a).par) i.n.toNat (f.vecs i.a.toNat)} w w':=by
 have HK:=hidM (out_any w x h hg ok ib io i hi hp hl);obtain⟨F,hF⟩:∃F:Fr,({f with outs:=outP f.outs (regT c.regs i.a).par.toNat (Zia c (regT c.regs i.a).par) i.n.toNat (f.vecs i.a.toNat)}:Fr)=F:=⟨_,rfl⟩
 rw[hF]at HK ⊢;have q0:=hi.cells.at 0 rfl;rw[Nat.add_zero]at q0;rw[hop]at q0;obtain⟨FR,hFR⟩:∃FR,a.FR=FR:=⟨_,rfl⟩
 rw[hFR]at HK ⊢;clear x h hg hi ok hp hl hF hFR hop;go_enter func45,ntmps45;go_wp2_with(go_at_call 73;refine HK.out.mono ?_;rintro e w1 ⟨rfl,hst⟩;have HST:=hidM hst;clear hst)
 go_end0
 exact⟨rfl,HST.out⟩
theorem Zaea{T:Nat->Prop}{E E':Nat}{a:Lay}{c:Cd}{G P:List (List Int)}{X:Nat->Value}{M:Nat}{m:Nat->Option Value}{f:Fr}(w:World)(x:FX T E E' a c G P w)(h:FV T E E' a c w X M m f)(hg:Good c)(ok:OkF c f)(hM:M<=1000000)(ib io:Nat)(i:Ins)(hi:InsT (mutT T E E') w ib io i)
 (hop:Zjj i.op=true) (F:Fr) (HK:Hid (Calls prog 76 #[.pointer (some ⟨a.FR,0,none⟩),.pointer (some ⟨ib,io,none⟩)] w fun e w'=>e=.returned (.tuple #[])/\Zhv T E E' a c G P M F w w')):
 Calls prog 45 #[.pointer (some ⟨a.FR,0,none⟩),.pointer (some ⟨ib,io,none⟩)] w fun e w'=>e=.returned (.tuple #[])/\Zhv T E E' a c G P M F w w':=by
 have q0:=hi.cells.at 0 rfl;rw[Nat.add_zero]at q0;obtain⟨FR,hFR⟩:∃FR,a.FR=FR:=⟨_,rfl⟩
 rw[hFR]at HK ⊢;unfold Zjj at hop;simp only[Bool.and_eq_true,decide_eq_true_eq]at hop;have hop':i.op=3\/i.op=4\/i.op=5\/i.op=6\/i.op=7\/i.op=8\/i.op=9\/i.op=10\/i.op=11\/i.op=12\/i.op=13\/i.op=14\/i.op=15:=oM;clear x h hg hi ok hFR hop;rcases hop' with e|e|e|e|e|e|e|e|e|e|e|e|e
 all_goals
  rw[e]at q0;clear e;go_enter func45,ntmps45;go_wp2_with(go_at_call 76;refine HK.out.mono ?_;rintro e w1 ⟨rfl,hst⟩;have HST:=hidM hst;clear hst)
  go_end0
  exact⟨rfl,HST.out⟩
theorem do_mark{T:Nat->Prop}{E E':Nat}{a:Lay}{c:Cd}{G P:List (List Int)}{X:Nat->Value}{M:Nat}{m:Nat->Option Value}{f:Fr}(w:World)(x:FX T E E' a c G P w)(h:FV T E E' a c w X M m f)(hg:Good c)(ok:OkF c f)(hM:M<=1000000)(ib io:Nat)(i:Ins)(hi:InsT (mutT T E E') w ib io i)
 (hop:34<=i.op/\i.op<=37):
 Calls prog 45 #[.pointer (some ⟨a.FR,0,none⟩),.pointer (some ⟨ib,io,none⟩)] w fun e w'=>e=.returned (.tuple #[])/\Zhv T E E' a c G P M f w w':=by
 have q0:=hi.cells.at 0 rfl;rw[Nat.add_zero]at q0;have HST:Hid (Zhv T E E' a c G P M f w w):=Zhv.same x h (bel0 _);obtain⟨FR,hFR⟩:∃FR,a.FR=FR:=⟨_,rfl⟩
 rw[hFR];have hop':i.op=34\/i.op=35\/i.op=36\/i.op=37:=oM;clear x h hg hi ok hFR hop;rcases hop' with e|e|e|e
 all_goals
  rw[e]at q0;clear e;go_enter func45,ntmps45;go_wp2
  go_end0
  exact⟨rfl,HST.out⟩
theorem do_load{T:Nat->Prop}{E E':Nat}{a:Lay}{c:Cd}{G P:List (List Int)}{X:Nat->Value}{M:Nat}{m:Nat->Option Value}{f:Fr}(w:World)(x:FX T E E' a c G P w)(h:FV T E E' a c w X M m f)(hg:Good c)(ok:OkF c f)(hM:M<=1000000)(ib io:Nat)(i:Ins)(hi:InsT (mutT T E E') w ib io i)
 (hop:i.op=32) (d0:0<=i.d) (d1:i.d<(c.regs.length:Int)) (n0:0<=i.n) (n1:i.n<(c.slots.length:Int)) (h1:(regT c.regs i.d).kind=1->∀hh,f.slots[i.n.toNat]? =some hh->hh.pats≠[]):
 Calls prog 45 #[.pointer (some ⟨a.FR,0,none⟩),.pointer (some ⟨ib,io,none⟩)] w fun e w'=>e=.returned (.tuple #[])/\Zhv T E E' a c G P M (stP c f i.d ((f.slots[i.n.toNat]?).getD ⟨[],0⟩)) w w':=by
 have q0:=hi.cells.at 0 rfl;rw[Nat.add_zero]at q0;have q1:=hi.cells.at 1 rfl;have q5:=hi.cells.at 5 rfl;obtain⟨op,D,A,B,Ec,nn,bt⟩:=i;simp only at *;subst hop;obtain⟨D,rfl⟩:∃j:Nat,D=(j:Int):=⟨D.toNat,oM⟩
 obtain⟨n,rfl⟩:∃j:Nat,nn=(j:Int):=⟨nn.toNat,oM⟩
 rw[Int.toNat_natCast]at h1 ⊢;have hD:D<c.regs.length:=oM;have hn:n<c.slots.length:=oM;have hnf:n<f.slots.length:=by rw[h.slotsL];exact hn
 rw[List.getElem?_eq_getElem hnf,Option.getD_some];have hp:=h.slots.pats n hnf;have hw:=h.slots.whole n hnf;have s1:=h.slots.row.cell (i:=2*n) Zgk;have s2:=h.slots.row.cell (i:=2*n+1) Zgk;rw[hw]at s2;have h1':c.regs[D].kind=1->(f.slots[n]'hnf).pats≠[]:=fun e=>h1 (by rw[Zkb hD];exact e) _ (List.getElem?_eq_getElem hnf);obtain⟨q,cap,hq⟩:=hp.len;have HK:Hid (∀v,Below w.heap.size w v->Calls prog 74 #[.pointer (some ⟨a.FR,0,none⟩),.int .i64 (D:Int),.agg #[.slice q (f.slots[n]'hnf).pats.length cap,.int .i64 (f.slots[n]'hnf).whole]] v fun e w'=>e=.returned (.tuple #[])/\Zhv T E E' a c G P M (stP c f D (f.slots[n]'hnf)) v w'):=fun v hv=>Zagh v (x.below hv) (h.below hv) hg D hD hM q _ cap (f.slots[n]'hnf) (by rw[←hq];exact hp.below hv) h1';rw[hq]at s1;have f1:=x.f1;have hsp:a.sp=some ⟨a.S,0,none⟩:=by
  rcases h.slots.sp with e|e
  ·rw[e]at hnf;exact absurd hnf (Nat.not_lt_zero _)
  ·exact e
 rw[hsp]at f1;rw[Nat.mul_comm 2 n]at s1 s2;have hN:=hg.slotsL;obtain⟨FR,hFR⟩:∃FR,a.FR=FR:=⟨_,rfl⟩
 obtain⟨Sb,hSb⟩:∃Sb,a.S=Sb:=⟨_,rfl⟩
 obtain⟨N,hN'⟩:∃N,c.slots.length=N:=⟨_,rfl⟩
 obtain⟨L,hL⟩:∃L,(f.slots[n]'hnf).pats.length=L:=⟨_,rfl⟩
 obtain⟨wh,hwh⟩:∃wh,(f.slots[n]'hnf).whole=wh:=⟨_,rfl⟩
 obtain⟨F,hF⟩:∃F,stP c f D (f.slots[n]'hnf)=F:=⟨_,rfl⟩
 obtain⟨sc,hsc⟩:∃sc,a.sc=sc:=⟨_,rfl⟩
 have HKP:Hid (∀v,Zhv T E E' a c G P M (stP c f D (f.slots[n]'hnf)) w v->v.cell? ⟨a.FR,1,none⟩=some (.slice (some ⟨a.S,0,none⟩) c.slots.length a.sc)/\v.cell? ⟨ib,io+1,none⟩=some (.int .i64 (D:Int))/\v.cell? ⟨ib,io+5,none⟩=some (.int .i64 (n:Int))):=by
  intro v hv;have h1:=hv.1.f1;rw[hsp]at h1;have h2:=hi.un hv.2.2 (fun b _ e=>x.sub b e);exact⟨h1,h2.cells.at 1 rfl,h2.cells.at 5 rfl⟩
 simp only[hFR,hSb,hN',hL,hwh,hF,hsc]at f1 HK s1 s2 hN hn n1 HKP ⊢;clear x h hg hi ok hp hw hq hsp h1 h1' hFR hSb hN' hL hwh hF hsc;go_enter func45,ntmps45;go_wp2;refine rG (fun v=>v.cell? ⟨FR,1,none⟩=some (.slice (some ⟨Sb,0,none⟩) N sc)/\v.cell? ⟨ib,io+1,none⟩=some (.int .i64 (D:Int))/\v.cell? ⟨ib,io+5,none⟩=some (.int .i64 (n:Int))) fun hHeld=>?_;refine Tf 0 1 2 3 4 5 ?_;refine Tf 6 7 8 9 10 11 ?_;refine Tb 12 13 ?_;clear hHeld;refine ry1 14 fun K hK=>?_;go_simp;refine okK hK fun hHeld=>?_;clear hK K;clear hHeld;refine ry1 15 fun K hK=>?_;go_simp;(go_at_call 74;refine(HK.out _ (Zht _)).mono ?_;rintro e w1 ⟨rfl,hst⟩;have HST:=hidM (Zhv.pre (Zht _) hst);obtain⟨y1,y2,y3⟩:=HKP.out w1 HST.out;clear hst);try(go_wp2_with fail)
 exact Zcx
theorem Zaoi{T:Nat->Prop}{E E':Nat}{a:Lay}{c:Cd}{G P:List (List Int)}{X:Nat->Value}{M:Nat}{m:Nat->Option Value}{f:Fr}(w:World)(x:FX T E E' a c G P w)(h:FV T E E' a c w X M m f)(hg:Good c)(ok:OkF c f)(hM:M<=1000000)(ib io:Nat)(i:Ins)(hi:InsT (mutT T E E') w ib io i)
 (hop:i.op=33) (a0:0<=i.a) (a1:i.a<(c.regs.length:Int)) (n0:0<=i.n) (n1:i.n<(c.slots.length:Int)):
 Calls prog 45 #[.pointer (some ⟨a.FR,0,none⟩),.pointer (some ⟨ib,io,none⟩)] w fun e w'=>e=.returned (.tuple #[])/\Zhv T E E' a c G P M {f with slots:=f.slots.set i.n.toNat (rdP c f i.a)} w w':=by
 have q0:=hi.cells.at 0 rfl;rw[Nat.add_zero]at q0;have q2:=hi.cells.at 2 rfl;have q5:=hi.cells.at 5 rfl;have hnot:=hi.not;obtain⟨op,D,A,B,Ec,nn,bt⟩:=i;simp only at *;subst hop;obtain⟨A,rfl⟩:∃j:Nat,A=(j:Int):=⟨A.toNat,oM⟩
 obtain⟨n,rfl⟩:∃j:Nat,nn=(j:Int):=⟨nn.toNat,oM⟩
 rw[Int.toNat_natCast];have hA:A<c.regs.length:=oM;have hn:n<c.slots.length:=oM;have hnf:n<f.slots.length:=by rw[h.slotsL];exact hn
 have HK:Hid (∀v,Below w.heap.size w v->Calls prog 75 #[.pointer (some ⟨a.FR,0,none⟩),.int .i64 (A:Int)] v fun e w'=>∃u,e=.returned (.agg #[u,.int .i64 (rdP c f A).whole])/\Pt (mutT T E E') w' u (rdP c f A).pats/\Below v.heap.size v w'):=fun v hv=>Zaju v (x.below hv) (h.below hv) hg A hA;have s1:=h.slots.row.cell (i:=n*2) Zgk;have s2:=h.slots.row.cell (i:=n*2+1) Zgk;have s3:=h.slots.row.frozen (n*2);have s4:=h.slots.row.frozen (n*2+1);obtain⟨F,hF⟩:∃F:Fr,({f with slots:=f.slots.set n (rdP c f A)}:Fr)=F:=⟨_,rfl⟩
 have HFin:Hid (∀v u,Below w.heap.size w v->Pt (mutT T E E') v u (rdP c f A).pats->Zhv T E E' a c G P M F w ((v.setCell ⟨a.S,n*2,none⟩ u).setCell ⟨a.S,n*2+1,none⟩ (.int .i64 (rdP c f A).whole))):=fun v u hv hu=>by rw[←hF];exact(Zhv.slot (x.below hv) (h.below hv) hnf hu).pre hv
 rw[hF];have f1:=x.f1;have hsp:a.sp=some ⟨a.S,0,none⟩:=by
  rcases h.slots.sp with e|e
  ·rw[e]at hnf;exact absurd hnf (Nat.not_lt_zero _)
  ·exact e
 rw[hsp]at f1;have hN:=hg.slotsL;have m1:a.S≠a.FR:=by have:=x.ltS;have:=x.iFR;omega
 have m2:a.S≠ib:=fun e=>hnot (by rw[←e];exact .inl x.hS);obtain⟨FR,hFR⟩:∃FR,a.FR=FR:=⟨_,rfl⟩
 obtain⟨Sb,hSb⟩:∃Sb,a.S=Sb:=⟨_,rfl⟩
 obtain⟨N,hN'⟩:∃N,c.slots.length=N:=⟨_,rfl⟩
 obtain⟨sc,hsc⟩:∃sc,a.sc=sc:=⟨_,rfl⟩
 obtain⟨wh,hwh⟩:∃wh,(rdP c f A).whole=wh:=⟨_,rfl⟩
 obtain⟨pt,hpt⟩:∃pt,(rdP c f A).pats=pt:=⟨_,rfl⟩
 obtain⟨x1,hx1⟩:∃x1,X (n*2)=x1:=⟨_,rfl⟩
 obtain⟨x2,hx2⟩:∃x2,X (n*2+1)=x2:=⟨_,rfl⟩
 rw[hx1]at s1;rw[hx2]at s2;simp only[hFR,hSb,hN',hwh,hpt,hsc]at f1 HK HFin s1 s2 s3 s4 hN hn n1 m1 m2 ⊢;clear x h hg hi ok hsp hFR hSb hN' hwh hpt hF hsc hx1 hx2 hnot;go_enter func45,ntmps45;go_wp2;refine rG (fun v=>v.cell? ⟨FR,1,none⟩=some (.slice (some ⟨Sb,0,none⟩) N sc)/\v.cell? ⟨ib,io+2,none⟩=some (.int .i64 (A:Int))/\v.cell? ⟨ib,io+5,none⟩=some (.int .i64 (n:Int))) fun hHeld=>?_;refine Tf 0 1 2 3 4 5 ?_;refine Tf 6 7 8 9 10 11 ?_;refine tkT 12 ?_;clear hHeld;refine ry1 13 fun K hK=>?_;go_simp;(go_at_call 75;refine(HK.out _ (Zht _)).mono ?_;rintro e w1 ⟨u,rfl,hu,hb1⟩;obtain⟨uq,uc,hue⟩:=hu.len;obtain⟨ul,hul⟩:∃ul,pt.length=ul:=⟨_,rfl⟩;rw[hul]at hue;subst hue;have HB1:=bel (Zht _) hb1;have HST:=hidM (HFin.out w1 _ HB1 hu);have z1:=kc HB1 f1;have z2:=kc HB1 q2;have z3:=kc HB1 q5;have z4:=kc HB1 s1;have z5:=kc HB1 s2;have z6:=kf HB1 s1 s3;have z7:=kf HB1 s2 s4;clear hb1 hu hul);try(go_wp2_with fail)
 refine okK hK fun hHeld=>?_;clear hK K;refine tkT 14 ?_;clear hHeld;refine ry1 15 fun K hK=>?_;go_simp;exact Zcx
def Zlq(c:Cd)(f:Fr)(r:Nat):Prop:=(regT c.regs (r:Int)).kind=3->(f.vecs r).length=lenOf c (regT c.regs (r:Int)).par
theorem Znu{rs:List Ty}{l n:Int}{m:Ty}(h:Zhw rs l n m=true)(h0:0<rs.length):0<=n/\n<(rs.length:Int):=by
 by_cases hl:l=0
 ·unfold Zhw at h;rw[if_pos hl]at h;simp only[beq_iff_eq]at h;omega
 ·exact Zie h hl
theorem Zka{rs:List Ty}{l n:Int}{m:Ty}(h:Zhw rs l n m=true)(hl:l≠0):Zjk l (regT rs n) m=true:=by
 unfold Zhw at h;rw[if_neg hl]at h;simp only[Bool.and_eq_true]at h;exact h.2
theorem fitsC_n{c:Cd}{i:Ins}{r:Rw}(h:Zjp c i r=true):Zkh c i r.n (Zij c.regs i r)=true:=by
 unfold Zjp at h;simp only[Bool.and_eq_true]at h;exact h.2.2.2.2
theorem Zaaq{s:Wk}{i:Ins}{r:Rw}(h:Zqk s i r=true){n:Int}(hn:n∈Zid i r):n.toNat∈s.set:=by
 unfold Zqk at h;have:=List.all_eq_true.1 h n hn;simpa using this
structure Zlm(c:Cd)(f:Fr)(i:Ins):Prop where
 num:Zlx i.op=true->0<=i.d/\i.d<(c.regs.length:Int)/\(i.op≠1->0<=i.a/\i.a<(c.regs.length:Int))/\(i.op=16->0<=i.b/\i.b<(c.regs.length:Int))/\(regT c.regs i.d).kind=1
 whole:Zju i.op=true->0<=i.d/\i.d<(c.regs.length:Int)/\(0<=i.a/\i.a<(c.regs.length:Int))/\(0<=i.b/\i.b<(c.regs.length:Int))/\(0<=i.c/\i.c<(c.regs.length:Int))/\(regT c.regs i.d).kind=2/\(i.op=2->0<=i.n/\i.n<=2147483647)
 part:i.op=29\/i.op=30->Zpj c i.d i.n
 out:i.op=31->Zpj c i.a i.n/\(f.vecs i.a.toNat).length=lenOf c (regT c.regs i.a).par
 load:i.op=32->0<=i.d/\i.d<(c.regs.length:Int)/\0<=i.n/\i.n<(c.slots.length:Int)/\slotT c.slots i.n=regT c.regs i.d
 store:i.op=33->0<=i.a/\i.a<(c.regs.length:Int)/\0<=i.n/\i.n<(c.slots.length:Int)/\slotT c.slots i.n=regT c.regs i.a/\Zlq c f i.a.toNat
 elem:Zjj i.op=true->0<=i.d/\i.d<(c.regs.length:Int)/\(0<=i.a/\i.a<(c.regs.length:Int))/\∀r∈Zid i (rowP i.op),0<=r/\r<(c.regs.length:Int)/\Zlq c f r.toNat/\(regT c.regs r=regT c.regs i.d\/((regT c.regs r).kind=1/\(regT c.regs i.d).kind=3))
theorem mem_a{i:Ins}{r:Rw}(h:r.a≠0):i.a∈Zid i r:=by unfold Zid;simp[h]
theorem Zxx{c:Cd}{f:Fr}{s:Wk}{i:Ins}(t:Zjb c s i=true)(hs:∀r∈s.set,Zlq c f r):Zlm c f i:=by
 obtain⟨_,h2,_,h4⟩:=Zjv t;have hd:=Zoa h2;have ha:=Zmn h2;have hb:=Zqf h2;have hc:=Zqd h2;have hn:=fitsC_n h2;have hr:=fun{n:Int} (hn:n∈Zid i (rowP i.op))=>hs _ (Zaaq h4 hn);obtain⟨op,D,A,B,Ec,nn,bt⟩:=i;simp only at *;refine⟨fun h=>?_,fun h=>?_,fun h=>?_,fun h=>?_,fun h=>?_,fun h=>?_,fun h=>?_⟩
 ·unfold Zlx at h;simp only[Bool.or_eq_true,beq_iff_eq]at h;have hop:op=1\/op=16\/op=17\/op=19\/op=20:=oM;clear h;rcases hop with rfl|rfl|rfl|rfl|rfl
  all_goals
   have d:=Zie hd dE;have dm:=Zka hd dE;have a1:=Znu ha oM;have b1:=Znu hb oM;exact⟨d.1,d.2,fun _=>a1,fun _=>b1,by simpa[Zjk,rowP]using dm⟩
 ·unfold Zju at h;simp only[Bool.or_eq_true,Bool.and_eq_true,beq_iff_eq,decide_eq_true_eq]at h;have hop:op=2\/op=18\/op=21\/op=22\/op=23\/op=24\/op=25\/op=26\/op=27\/op=28:=oM;clear h;rcases hop with rfl|rfl|rfl|rfl|rfl|rfl|rfl|rfl|rfl|rfl
  all_goals
   have d:=Zie hd dE;have dm:=Zka hd dE;have a1:=Znu ha oM;have b1:=Znu hb oM;have c1:=Znu hc oM;refine⟨d.1,d.2,a1,b1,c1,by simpa[Zjk,rowP]using dm,fun e=>?_⟩;simp[Zkh,rowP,Zpe,Zls]at hn;show 0<=nn/\nn<=2147483647;omega
 ·rcases h with rfl|rfl
  all_goals
   have d:=Zie hd dE;have dm:=Zka hd dE;refine⟨d.1,d.2,by simpa[Zjk,rowP]using dm,?_⟩;simp[Zkh,rowP,Zpe,Zij,Znl]at hn;first|exact hn.2|(simpa using hn.2)
 ·subst h;have d:=Zie ha dE;have dm:=Zka ha dE;have k3:(regT c.regs A).kind=3:=by simpa[Zjk,rowP]using dm
  refine⟨⟨d.1,d.2,k3,?_⟩,?_⟩
  ·simp[Zkh,rowP,Zpe,Zij,Znl]at hn;first|exact hn.2|(simpa using hn.2)
  ·have:=hr (n:=A) (mem_a (r:=rowP 31) dE);have e:((A.toNat:Nat):Int)=A:=oM;unfold Zlq at this;rw[e]at this;exact this k3
 ·subst h;have d:=Zie hd dE;simp[Zkh,rowP,Zpe,Zij,Znl]at hn;have:=Zld.1 hn.2.1;exact⟨d.1,d.2,this.1,this.2,hn.2.2⟩
 ·subst h;have d:=Zie ha dE;simp[Zkh,rowP,Zpe,Zij,Znl]at hn;have:=Zld.1 hn.2.1;exact⟨d.1,d.2,this.1,this.2,hn.2.2,hr (n:=A) (mem_a (r:=rowP 33) dE)⟩
 ·unfold Zjj at h;simp only[Bool.and_eq_true,decide_eq_true_eq]at h;have hop:op=3\/op=4\/op=5\/op=6\/op=7\/op=8\/op=9\/op=10\/op=11\/op=12\/op=13\/op=14\/op=15:=oM;clear h;rcases hop with rfl|rfl|rfl|rfl|rfl|rfl|rfl|rfl|rfl|rfl|rfl|rfl|rfl
  all_goals
   have d:=Zie hd dE;have a1:=Zie ha dE;refine⟨d.1,d.2,a1,fun r hrr=>⟨?_,?_,hr hrr,?_⟩⟩
   all_goals
    have am:=Zka ha dE;simp[Zid,rowP]at hrr;first
     |(
      have bm:=Zka hb dE;have b1:=Zie hb dE;have cm:=Zka hc dE;have c1:=Zie hc dE;simp[Zjk,rowP,Zij,Znl]at am bm cm
      rcases hrr with rfl|rfl|rfl<;>first|omega|(simpa using am)|(simpa using bm)|(simpa using cm))
     |(
      have bm:=Zka hb dE;have b1:=Zie hb dE;simp[Zjk,rowP,Zij,Znl]at am bm
      rcases hrr with rfl|rfl<;>first|omega|(simpa using am)|(simpa using bm))
     |(
      simp[Zjk,rowP,Zij,Znl]at am;subst hrr
      first|omega|(simpa using am))
theorem Zago(X:Nat->Int)(n:Nat)(hX:∀i,IsP (X i)):IsP (Zmh X n):=Zoy Zui Zgw hX n
theorem Zng{c:Cd}(hg:Good c){r:Int}(h0:0<=r)(h1:r<(c.regs.length:Int))(h3:(regT c.regs r).kind=3):1<=lenOf c (regT c.regs r).par/\Zhy c (regT c.regs r)=lenOf c (regT c.regs r).par:=by
 obtain⟨r,rfl⟩:∃j:Nat,r=(j:Int):=⟨r.toNat,oM⟩
 have hr:r<c.regs.length:=oM;rw[Zkb hr]at h3 ⊢;have hp:=Zld.1 (hg.type (List.getElem_mem hr) h3);obtain⟨pp,hpp⟩:∃pp,c.regs[r].par=pp:=⟨_,rfl⟩
 refine⟨?_,by unfold Zhy;rw[if_pos h3]⟩;rw[hpp]at hp ⊢;obtain⟨p,rfl⟩:∃j:Nat,pp=(j:Int):=⟨pp.toNat,oM⟩
 obtain⟨_,e2,e3,_⟩:=Zow hg (p:=p) oM;omega
theorem rd_ok{c:Cd}{f:Fr}(hg:Good c)(ok:OkF c f){r:Int}(h0:0<=r)(h1:r<(c.regs.length:Int))(hs:Zlq c f r.toNat):HdOK c (regT c.regs r) (rdP c f r):=by
 have e:((r.toNat:Nat):Int)=r:=oM;unfold Zlq at hs;rw[e]at hs;have hty:(regT c.regs r).kind=1\/(regT c.regs r).kind=2\/(regT c.regs r).kind=3:=by
  obtain⟨r,rfl⟩:∃j:Nat,r=(j:Int):=⟨r.toNat,oM⟩
  have hr:r<c.regs.length:=oM;rw[Zkb hr];exact Zff
 unfold rdP HdOK;rcases hty with h|h|h
 ·rw[if_pos h];refine⟨by unfold Zhy;rw[if_neg oM,if_pos h];rfl,fun y hy=>?_,Int.le_refl _,by show(0:Int)<=2147483647;decide⟩;simp at hy;rw[hy];exact ok.nums _
 ·rw[if_neg oM,if_pos h];exact⟨by unfold Zhy;rw[if_neg oM,if_neg oM];rfl,fun y hy=>by simp at hy,ok.whs _⟩
 ·rw[if_neg oM,if_neg oM];refine⟨?_,ok.vecs _,Int.le_refl _,by show(0:Int)<=2147483647;decide⟩;rw[(Zng hg h0 h1 h).2];exact hs h
theorem app_isP{op:Int}{args:List (List Int)}(h:∀l∈args,∀y∈l,IsP y):∀y∈appP op args,IsP y:=by
 have hX:∀i j,IsP (xF args i j):=fun i j=>by
  exact Zed
 intro y hy;unfold appP at hy;split at hy
 ·simp only[List.mem_map]at hy;obtain⟨k,_,rfl⟩:=hy;exact Zxg _ _ _ _ (Zjr hX _ _ _) (Zjr hX _ _ _) (Zjr hX _ _ _)
 ·cases hy
theorem Zpp{c:Cd}{f:Fr}{i:Ins}(hg:Good c)(ok:OkF c f)(he:Zjj i.op=true)(nd:Zlm c f i)(hk:(regT c.regs i.d).kind≠2):
 1<=Zhy c (regT c.regs i.d)/\(∀r∈Zid i (rowP i.op),0<=r/\r<(c.regs.length:Int)/\((rdP c f r).pats.length=1\/(rdP c f r).pats.length=Zhy c (regT c.regs i.d))/\∀y∈(rdP c f r).pats,IsP y)/\((regT c.regs i.d).kind=1\/(regT c.regs i.d).kind=3):=by
 obtain⟨d0,d1,_,hr⟩:=nd.elem he;have hty:(regT c.regs i.d).kind=1\/(regT c.regs i.d).kind=3:=by
  obtain⟨r,hrr⟩:∃j:Nat,i.d=(j:Int):=⟨i.d.toNat,oM⟩
  rw[hrr]at hk d1 ⊢;have hr:r<c.regs.length:=oM;rw[Zkb hr]at hk ⊢;exact Zff
 refine⟨?_,fun r hm=>?_,hty⟩
 ·rcases hty with h|h
  ·unfold Zhy;rw[if_neg oM,if_pos h];exact Nat.le_refl _
  ·rw[(Zng hg d0 d1 h).2];exact(Zng hg d0 d1 h).1
 ·obtain⟨r0,r1,hs,hm2⟩:=hr r hm;have hh:=rd_ok hg ok r0 r1 hs;refine⟨r0,r1,?_,hh.2.1⟩;rcases hm2 with e|⟨e,_⟩
  ·right;rw[←e];exact hh.1
  ·left;rw[hh.1];unfold Zhy;rw[if_neg oM,if_pos e]
theorem Zpt{c:Cd}{f:Fr}{i:Ins}(hg:Good c)(ok:OkF c f)(he:Zjj i.op=true)(nd:Zlm c f i)(hk:(regT c.regs i.d).kind≠2):
 ((appP i.op (Zji c f i)).length=1\/(appP i.op (Zji c f i)).length=Zhy c (regT c.regs i.d))/\∀y∈appP i.op (Zji c f i),IsP y:=by
 obtain⟨h1,h2,_⟩:=Zpp hg ok he nd hk;have hall:∀l∈Zji c f i,(l.length=1\/l.length=Zhy c (regT c.regs i.d))/\∀y∈l,IsP y:=by
  intro l hl;unfold Zji at hl;simp only[List.mem_map]at hl;obtain⟨r,hr,rfl⟩:=hl;exact(h2 r hr).2.2
 have hne:(Zji c f i).length≠0:=by
  unfold Zji;rw[List.length_map,←(Zph i he).1];exact(Zph i he).2
 obtain⟨n,hn,hn2⟩:=Ztd (l:=lF (Zji c f i)) h1 ((Zji c f i).length-1) (fun k hk=>by
  unfold lF;rw[Znn oM]
  exact(hall _ (List.getElem_mem _)).1)
 exact⟨by rw[(Zxw (op:=i.op) hn).1];exact hn2,app_isP fun l hl=>(hall l hl).2⟩
theorem Zve{l:List Int}(h:∀y∈l,IsP y):IsP (l.headD 0):=by
 cases l with
 |nil=>exact Zqb
 |cons y l=>exact h y sM
theorem st_ok{c:Cd}{f:Fr}(ok:OkF c f){r:Int}{h:Hd}(hp:∀y∈h.pats,IsP y)(hl:h.pats.length<=4096)(hw:0<=h.whole/\h.whole<=2147483647):OkF c (stP c f r h):=by
 unfold stP;split
 ·exact⟨Zle ok.nums (Zve hp),ok.whs,ok.vecs,ok.vecsL,ok.slotsL,ok.slots⟩
 ·split
  ·exact⟨ok.nums,Zle (Q:=fun y:Int=>0<=y/\y<=2147483647) ok.whs hw,ok.vecs,ok.vecsL,ok.slotsL,ok.slots⟩
  ·exact⟨ok.nums,ok.whs,Zle (Q:=fun l:List Int=>∀y∈l,IsP y) ok.vecs hp,Zle (Q:=fun l:List Int=>l.length<=4096) ok.vecsL hl,ok.slotsL,ok.slots⟩
theorem st_set{c:Cd}{f:Fr}{r:Int}(hr:0<=r){h:Hd}(hl:(regT c.regs r).kind=3->h.pats.length=lenOf c (regT c.regs r).par){k:Nat}(hk:k≠r.toNat->Zlq c f k):Zlq c (stP c f r h) k:=by
 intro h3;by_cases e:k=r.toNat
 ·have e2:(k:Int)=r:=oM;rw[e2]at h3 ⊢;unfold stP;rw[if_neg oM,if_neg oM];simp only;rw[e,Zmi];exact hl h3
 ·have:=hk e h3;unfold stP;split
  ·exact this
  ·split
   ·exact this
   ·simp only;rw[Zmj _ _ e];exact this
end Go.Proofs.YtbinohkcolcbfaaGreat
set_option maxRecDepth 100000
set_option maxHeartbeats 16000000
namespace Go.Proofs.YtbinohkcolcbfaaGreat
open Go.RowKit Go.Proofs.Tryz
set_option linter.unusedVariables false
set_option linter.unusedSimpArgs false
theorem Zpa{op:Int}(h:Zih op=true):Zlx op=true\/Zju op=true\/op=29\/op=30\/op=31\/op=32\/op=33\/(34<=op/\op<=37)\/Zjj op=true:=by
 unfold Zih at h;unfold Zlx Zju Zjj;simp only[Bool.and_eq_true,Bool.or_eq_true,decide_eq_true_eq,beq_iff_eq]at h ⊢;omega
theorem Zaqc{op:Int}(h:Zjj op=true):Zlx op=false/\Zju op=false/\op≠29/\op≠30/\op≠31/\op≠32/\op≠33/\¬ (34<=op/\op<=37):=by
 unfold Zjj at h;simp only[Bool.and_eq_true,decide_eq_true_eq]at h;exact Zcq
theorem Zalp{op:Int}(h:Zju op=true):Zlx op=false/\op≠29/\op≠30/\op≠31/\op≠32/\op≠33/\¬ (34<=op/\op<=37):=by
 unfold Zju at h;simp only[Bool.or_eq_true,Bool.and_eq_true,beq_iff_eq,decide_eq_true_eq]at h;have:op=2\/op=18\/op=21\/op=22\/op=23\/op=24\/op=25\/op=26\/op=27\/op=28:=oM;rcases this with rfl|rfl|rfl|rfl|rfl|rfl|rfl|rfl|rfl|rfl<;>decide
section
variable {c : Cd} {G P : List (List Int)} {f : Fr} {i : Ins}
theorem Zoc(h:Zlx i.op=true):doI c G P f i={f with nums:=putN f.nums i.d.toNat (numI f i)}:=by unfold doI;rw[if_pos h]
theorem Zmm(h:Zju i.op=true):doI c G P f i={f with whs:=putN f.whs i.d.toNat (Zms f i)}:=by
 unfold doI;rw[(Zalp h).1,if_neg dE,if_pos h]
theorem Zor(h:i.op=29):doI c G P f i={f with vecs:=putN f.vecs i.d.toNat (Zir c G i)}:=by
 unfold doI;rw[h,if_neg dE,if_neg dE,if_pos rfl]
theorem Zos(h:i.op=30):doI c G P f i={f with vecs:=putN f.vecs i.d.toNat (Zir c P i)}:=by
 unfold doI;rw[h,if_neg dE,if_neg dE,if_neg dE,if_pos rfl]
theorem Zom(h:i.op=31):doI c G P f i={f with outs:=outP f.outs (regT c.regs i.a).par.toNat (Zia c (regT c.regs i.a).par) i.n.toNat (f.vecs i.a.toNat)}:=by
 unfold doI;rw[h,if_neg dE,if_neg dE,if_neg dE,if_neg dE,if_pos rfl]
theorem Zpc(h:i.op=32):doI c G P f i=stP c f i.d ((f.slots[i.n.toNat]?).getD ⟨[],0⟩):=by
 unfold doI;rw[h,if_neg dE,if_neg dE,if_neg dE,if_neg dE,if_neg dE,if_pos rfl]
theorem Zon(h:i.op=33):doI c G P f i={f with slots:=f.slots.set i.n.toNat (rdP c f i.a)}:=by
 unfold doI;rw[h,if_neg dE,if_neg dE,if_neg dE,if_neg dE,if_neg dE,if_neg dE,if_pos rfl]
theorem Zky(h:34<=i.op/\i.op<=37):doI c G P f i=f:=by
 have h0:Zlx i.op=false/\Zju i.op=false:=by
  have:i.op=34\/i.op=35\/i.op=36\/i.op=37:=oM;rcases this with e|e|e|e<;>rw[e]<;>decide
 unfold doI;rw[h0.1,h0.2,if_neg dE,if_neg dE,if_neg oM,if_neg oM,if_neg oM,if_neg oM,if_neg oM,if_pos h]
theorem Zmf(h:Zjj i.op=true):doI c G P f i=Zlj c f i:=by
 obtain⟨h1,h2,h3,h4,h5,h6,h7,h8⟩:=Zaqc h;unfold doI;rw[h1,h2,if_neg dE,if_neg dE,if_neg h3,if_neg h4,if_neg h5,if_neg h6,if_neg h7,if_neg h8]
end
theorem num_isP{f:Fr}{c:Cd}(ok:OkF c f){i:Ins}(hb:IsP i.bits):IsP (numI f i):=by
 unfold numI;refine Zkd (fpow_lo _ _ (ok.nums _).1 (ok.nums _).2) (Zkd (Zant _) (Zkd (isP_sum _ _ (Zke (ok.vecs _))) (Zkd (Zago _ _ (Zke (ok.vecs _))) hb)))
theorem Zqs(b:Bool):0<=Zja b/\Zja b<=2147483647:=by cases b<;>decide
theorem Zmt{p:Prop}[Decidable p]{x y:Int}(h:p->0<=x/\x<=2147483647)(k:¬p->0<=y/\y<=2147483647):0<=(if p then x else y)/\(if p then x else y)<=2147483647:=by
 split
 ·rename_i e;exact h e
 ·rename_i e;exact k e
theorem Zare{f:Fr}{c:Cd}(ok:OkF c f){i:Ins}(hw:Zju i.op=true)(hn:i.op=2->0<=i.n/\i.n<=2147483647):0<=Zms f i/\Zms f i<=2147483647:=by
 have a:=ok.whs i.a.toNat;have b:=ok.whs i.b.toNat;have d:=ok.whs i.c.toNat;unfold Zju at hw;simp only[Bool.or_eq_true,Bool.and_eq_true,beq_iff_eq,decide_eq_true_eq]at hw;unfold Zms;refine Zmt (fun _=>Zqs _) fun h1=>Zmt (fun _=>by omega) fun h2=>Zmt (fun _=>Zqs _) fun h3=>Zmt (fun _=>Zqs _) fun h4=>Zmt (fun _=>Zqs _) fun h5=>Zmt (fun _=>Zqs _) fun h6=>Zmt (fun _=>Zmt (fun _=>d) fun _=>b) fun h7=>Zmt (fun _=>by omega) fun h8=>Zmt (fun _=>Zmt (fun _=>by decide) fun _=>⟨Int.ediv_nonneg a.1 b.1,?_⟩) fun h9=>hn oM;have:=Int.ediv_le_self (f.whs i.b.toNat) a.1;omega
theorem do_ok{c:Cd}{G P:List (List Int)}{f:Fr}{i:Ins}(hg:Good c)(ok:OkF c f)(hk:Zih i.op=true)(hb:IsP i.bits)(nd:Zlm c f i)(fg:FitV c G)(fp:FitV c P):OkF c (doI c G P f i):=by
 have pl:∀L:List (List Int),FitV c L->(∀y∈Zir c L i,IsP y)/\(Zir c L i).length<=4096:=fun L hL=>by
  refine⟨fun y hy=>?_,by unfold Zir;simp only[List.length_map,List.length_range];exact hg.lenOf _⟩;unfold Zir at hy;simp only[List.mem_map]at hy;obtain⟨k,_,rfl⟩:=hy;refine Zmv _ (Zke ?_ _);unfold Zkt;cases e:L[(regT c.regs i.d).par.toNat]? with
  |none=>intro y hy;cases hy
  |some l=>exact hL.isP l (List.mem_of_getElem? e)
 rcases Zpa hk with h|h|h|h|h|h|h|h|h
 ·rw[Zoc h];exact⟨Zle ok.nums (num_isP ok hb),ok.whs,ok.vecs,ok.vecsL,ok.slotsL,ok.slots⟩
 ·rw[Zmm h];exact⟨ok.nums,Zle (Q:=fun y:Int=>0<=y/\y<=2147483647) ok.whs (Zare ok h (nd.whole h).2.2.2.2.2.2),ok.vecs,ok.vecsL,ok.slotsL,ok.slots⟩
 ·rw[Zor h];exact⟨ok.nums,ok.whs,Zle (Q:=fun l:List Int=>∀y∈l,IsP y) ok.vecs (pl G fg).1,Zle (Q:=fun l:List Int=>l.length<=4096) ok.vecsL (pl G fg).2,ok.slotsL,ok.slots⟩
 ·rw[Zos h];exact⟨ok.nums,ok.whs,Zle (Q:=fun l:List Int=>∀y∈l,IsP y) ok.vecs (pl P fp).1,Zle (Q:=fun l:List Int=>l.length<=4096) ok.vecsL (pl P fp).2,ok.slotsL,ok.slots⟩
 ·rw[Zom h];exact⟨ok.nums,ok.whs,ok.vecs,ok.vecsL,ok.slotsL,ok.slots⟩
 ·rw[Zpc h];obtain⟨d0,d1,n0,n1,ht⟩:=nd.load h;have hn:i.n.toNat<c.slots.length:=oM;have hn2:i.n.toNat<f.slots.length:=by rw[ok.slotsL];exact hn
  have hh:=ok.slots i.n.toNat hn hn2;rw[List.getElem?_eq_getElem hn2,Option.getD_some];exact st_ok ok hh.2.1 (by rw[hh.1];exact hg.width _) hh.2.2
 ·rw[Zon h];obtain⟨a0,a1,n0,n1,ht,hs⟩:=nd.store h;have hh:=rd_ok hg ok a0 a1 hs;refine⟨ok.nums,ok.whs,ok.vecs,ok.vecsL,by simp[ok.slotsL],fun j h1 h2=>?_⟩;simp only[List.getElem_set];split
  ·rename_i e;subst e;have:slotT c.slots i.n=c.slots[i.n.toNat].ty:=by unfold slotT;rw[List.getElem?_eq_getElem h1];rfl
   rw[←this,ht];exact hh
  ·exact ok.slots j h1 (by simpa using h2)
 ·rw[Zky h];exact ok
 ·rw[Zmf h];obtain⟨d0,d1,a1,_⟩:=nd.elem h;unfold Zlj;by_cases h2:(regT c.regs i.d).kind=2
  ·rw[if_pos h2];exact⟨ok.nums,Zle (Q:=fun y:Int=>0<=y/\y<=2147483647) ok.whs (ok.whs _),ok.vecs,ok.vecsL,ok.slotsL,ok.slots⟩
  ·rw[if_neg h2];obtain⟨s1,s2⟩:=Zpt hg ok h nd h2;have hw:=hg.width (regT c.regs i.d);refine st_ok ok ?_ ?_ ⟨Int.le_refl _,by show(0:Int)<=2147483647;decide⟩
   ·intro y hy;dsimp only at hy;split at hy
    ·unfold Zkf at hy;rw[List.eq_of_mem_replicate hy];exact Zmv _ (Zve s2)
    ·exact s2 y hy
   ·dsimp only;split
    ·unfold Zkf;rw[List.length_replicate];exact hw
    ·omega
theorem do_set{c:Cd}{G P:List (List Int)}{f:Fr}{i:Ins}(hg:Good c)(ok:OkF c f)(hk:Zih i.op=true)(nd:Zlm c f i){r:Nat}(hr:((rowP i.op).d=0\/r≠i.d.toNat)->Zlq c f r):Zlq c (doI c G P f i) r:=by
 have pl:∀L:List (List Int),(Zir c L i).length=lenOf c (regT c.regs i.d).par:=fun L=>by unfold Zir;simp
 have other:∀ (f':Fr),f'.vecs=f.vecs->((rowP i.op).d≠0->(regT c.regs i.d).kind≠3/\0<=i.d)->Zlq c f' r:=fun f' hv hk3 h3=>by
  rw[hv];refine hr ?_ h3;by_cases e:(rowP i.op).d=0
  ·exact .inl e
  ·refine .inr fun e2=>(hk3 e).1 ?_;have:=(hk3 e).2;have e3:(r:Int)=i.d:=oM;rw[e3]at h3;exact h3
 have vec:∀L:List (List Int),0<=i.d->(rowP i.op).d≠0->Zlq c {f with vecs:=putN f.vecs i.d.toNat (Zir c L i)} r:=fun L h0 hd h3=>by
  by_cases e:r=i.d.toNat
  ·have e3:(r:Int)=i.d:=oM;rw[e3];show(putN f.vecs i.d.toNat (Zir c L i) r).length=_;rw[e,Zmi,pl]
  ·show(putN f.vecs i.d.toNat (Zir c L i) r).length=_;rw[Zmj _ _ e];exact hr (.inr e) h3
 rcases Zpa hk with h|h|h|h|h|h|h|h|h
 ·rw[Zoc h];exact other _ rfl fun _=>⟨by rw[(nd.num h).2.2.2.2];decide,(nd.num h).1⟩
 ·rw[Zmm h];exact other _ rfl fun _=>⟨by rw[(nd.whole h).2.2.2.2.2.1];decide,(nd.whole h).1⟩
 ·rw[Zor h];exact vec G (nd.part (.inl h)).r0 (by rw[h];decide)
 ·rw[Zos h];exact vec P (nd.part (.inr h)).r0 (by rw[h];decide)
 ·rw[Zom h];exact other _ rfl fun e=>absurd (by rw[h];decide) e
 ·rw[Zpc h];obtain⟨d0,d1,n0,n1,ht⟩:=nd.load h;have hn:i.n.toNat<c.slots.length:=oM;have hn2:i.n.toNat<f.slots.length:=by rw[ok.slotsL];exact hn
  have hh:=ok.slots i.n.toNat hn hn2;rw[List.getElem?_eq_getElem hn2,Option.getD_some];refine st_set d0 (fun h3=>?_) fun e=>hr (.inr e);have:slotT c.slots i.n=c.slots[i.n.toNat].ty:=by unfold slotT;rw[List.getElem?_eq_getElem hn];rfl
  rw[hh.1,←this,ht];exact(Zng hg d0 d1 h3).2
 ·rw[Zon h];exact other _ rfl fun e=>absurd (by rw[h];decide) e
 ·rw[Zky h];refine hr (.inl ?_);have:i.op=34\/i.op=35\/i.op=36\/i.op=37:=oM;rcases this with e|e|e|e<;>rw[e]<;>decide
 ·rw[Zmf h];obtain⟨d0,d1,a1,_⟩:=nd.elem h;unfold Zlj;by_cases h2:(regT c.regs i.d).kind=2
  ·rw[if_pos h2];exact other _ rfl fun _=>⟨by rw[h2];decide,d0⟩
  ·rw[if_neg h2];obtain⟨s1,s2⟩:=Zpt hg ok h nd h2;refine st_set d0 (fun h3=>?_) fun e=>hr (.inr e);have hw:=(Zng hg d0 d1 h3)
   dsimp only;rw[hw.2]at s1 ⊢;split
   ·unfold Zkf;rw[List.length_replicate];exact hw.2
   ·omega
end Go.Proofs.YtbinohkcolcbfaaGreat
namespace Go.Proofs.YtbinohkcolcbfaaGreat
open Go.RowKit Go.Proofs.Tryz
set_option linter.unusedVariables false
set_option linter.unusedSimpArgs false
set_option maxRecDepth 100000
set_option maxHeartbeats 16000000
def Zwe(c:Cd)(s:Wk)(f:Fr)(k:Nat):Prop:=
 (k=0/\∀r∈s.set,Zlq c f r)\/(∃pre b rest,s.opens=pre++b::rest/\b.loop=false/\k=(pre.filter fun x=> !x.loop).length+1/\∀r∈s.set.take b.ahead,Zlq c f r)
theorem Zaai:∀ {pre:List Bk} {b:Bk} {rest:List Bk} {n:Nat},okO n (pre++b::rest)->b.ahead<=n/\∀p∈pre,b.ahead<=p.ahead
 |[],b,rest,n,h=>⟨h.1,fun p hp=>by cases hp⟩
 |q::pre,b,rest,n,h=>by
  obtain⟨h1,h2⟩:=Zaai h.2;refine⟨Nat.le_trans h1 h.1,fun p hp=>?_⟩;rcases List.mem_cons.1 hp with e|e
  ·rw[e];exact h1
  ·exact h2 p e
theorem Zso{s:Wk}{i:Ins}{r:Rw}(h:r.d=0):addP s i r=s:=by unfold addP;rw[if_neg (fun e=>e.1 h)]
theorem Zain{s:Wk}{i:Ins}(h1:i.op≠34)(h2:i.op≠35)(h3:i.op≠36)(h4:i.op≠37):Zmr s i=s:=by
 unfold Zmr;rw[if_neg oM,if_neg oM]
theorem Zafd{s:Wk}{i:Ins}{r:Rw}{x:Nat}(h:x∈(addP s i r).set):x∈s.set\/(r.d≠0/\x=i.d.toNat):=by
 unfold addP at h;split at h
 ·rename_i e;rcases List.mem_append.1 h with h|h
  ·exact .inl h
  ·simp at h;exact .inr ⟨e.1,h⟩
 ·exact .inl h
theorem Zacj{s:Wk}{i:Ins}{r:Rw}{n:Nat}(h:n<=s.set.length):(addP s i r).set.take n=s.set.take n/\(addP s i r).opens=s.opens:=by
 unfold addP;split
 ·exact⟨List.take_append_of_le_length h,rfl⟩
 ·exact⟨rfl,rfl⟩
theorem Zvo{s:Wk}{i:Ins}(h:i.op=34):Zib s i=⟨s.set,⟨false,i.n,s.set.length⟩::s.opens⟩:=by
 unfold Zib Zol;rw[Zso (by rw[h];rfl)];unfold Zmr;rw[if_pos (.inl h),h];rfl
theorem Zwn{s:Wk}{i:Ins}(h:i.op=36):Zib s i=⟨s.set,⟨true,i.n,s.set.length⟩::s.opens⟩:=by
 unfold Zib Zol;rw[Zso (by rw[h];rfl)];unfold Zmr;rw[if_pos (.inr h),h];rfl
theorem Zrp{s:Wk}{i:Ins}(h:i.op=35\/i.op=37):Zib s i=Ziy s:=by
 unfold Zib Zol;rw[Zso Zhg];unfold Zmr;rw[if_neg oM,if_pos h]
theorem Zpy{s:Wk}{i:Ins}(h1:i.op≠34)(h2:i.op≠35)(h3:i.op≠36)(h4:i.op≠37):Zib s i=addP s i (rowP i.op):=by
 unfold Zib Zol;rw[Zain h1 h2 h3 h4]
theorem Zyr{s:Wk}{r:Nat}(h:r∈(Ziy s).set):r∈s.set:=by
 unfold Ziy at h;split at h
 ·dsimp only at h;split at h
  ·exact h
  ·exact List.mem_of_mem_take h
 ·exact h
theorem Zxb{c:Cd}{G P:List (List Int)}{s:Wk}{f:Fr}{k:Nat}{i:Ins}(hg:Good c)(oks:OkS c.regs.length s)(t:Zjb c s i=true)(ok:OkF c f)(hb:IsP i.bits)(fg:FitV c G)(fp:FitV c P)(sk:Zwe c s f k):
 OkF c (Zjn c G P (f,k) i).1/\Zwe c (Zib s i) (Zjn c G P (f,k) i).1 (Zjn c G P (f,k) i).2:=by
 obtain⟨hkn,_,hst,_⟩:=Zjv t;rcases sk with⟨rfl,hs⟩|⟨pre,b,rest,ho,hbl,rfl,hs⟩
 ·have nd:=Zxx t hs;have hdo:OkF c (doI c G P f i):=do_ok hg ok hkn hb nd fg fp;by_cases h34:i.op=34
  ·rw[Zvo h34];by_cases hz:f.whs i.a.toNat=0
   ·have e:Zjn c G P (f,0) i=(f,1):=by
     unfold Zjn;rw[if_neg oM,if_pos ⟨h34,.inr hz⟩]
    rw[e];refine⟨ok,.inr ⟨[],⟨false,i.n,s.set.length⟩,s.opens,rfl,rfl,rfl,fun r hr=>hs r ?_⟩⟩;exact List.mem_of_mem_take hr
   ·have e:Zjn c G P (f,0) i=(f,0):=by
     unfold Zjn;rw[if_neg oM,if_neg (by simp[hz]),if_pos rfl,Zky oM]
    rw[e];exact⟨ok,.inl ⟨rfl,hs⟩⟩
  ·have e:Zjn c G P (f,0) i=(doI c G P f i,0):=by
    unfold Zjn;rw[if_neg oM,if_neg oM,if_pos rfl]
   rw[e];refine⟨hdo,.inl ⟨rfl,fun r hr=>?_⟩⟩;by_cases h35:i.op=35\/i.op=37
   ·rw[Zrp h35]at hr;rw[Zky oM];exact hs r (Zyr hr)
   ·by_cases h36:i.op=36
    ·rw[Zwn h36]at hr;rw[Zky oM];exact hs r hr
    ·rw[Zpy h34 oM h36 oM]at hr;refine do_set hg ok hkn nd fun hr2=>?_;rcases Zafd hr with h|⟨h,h'⟩
     ·exact hs r h
     ·rcases hr2 with q|q
      ·exact absurd q h
      ·exact absurd h' q
 ·obtain⟨hah,hpre⟩:=Zaai (by have:=oks.opens;rw[ho]at this;exact this);obtain⟨K,hK⟩:∃K,(pre.filter fun x=> !x.loop).length=K:=⟨_,rfl⟩
  rw[hK];by_cases h34:i.op=34
  ·have e:Zjn c G P (f,K+1) i=(f,K+2):=by
    unfold Zjn;rw[if_neg oM,if_pos ⟨h34,.inl (by show 0<K+1;omega)⟩]
   rw[e,Zvo h34];refine⟨ok,.inr ⟨⟨false,i.n,s.set.length⟩::pre,b,rest,by rw[ho];rfl,hbl,?_,hs⟩⟩;rw[List.filter_cons_of_pos rfl,List.length_cons,hK]
  ·by_cases h35:i.op=35
   ·have e:Zjn c G P (f,K+1) i=(f,K):=by
     unfold Zjn;rw[if_pos ⟨by show 0<K+1;omega,h35⟩];rfl
    rw[e,Zrp (.inl h35)];refine⟨ok,?_⟩;have hnl:Zim s=false:=by
     exact Zfg
    unfold Zim at hnl;unfold Ziy;rw[ho]at hnl ⊢;cases pre with
    |nil=>
     simp only[List.nil_append]at hnl ⊢;simp at hK;refine .inl ⟨hK.symm,fun r hr=>hs r ?_⟩;rw[hbl]at hr;simpa using hr
    |cons p pre=>
     simp only[List.cons_append]at hnl ⊢;have hp:=hpre p sM;refine .inr ⟨pre,b,rest,rfl,hbl,?_,fun r hr=>hs r ?_⟩
     ·rw[List.filter_cons_of_pos (by rw[hnl];rfl),List.length_cons]at hK;omega
     ·rw[hnl]at hr;simp only[Bool.false_eq_true,if_false,List.take_take]at hr;rw[Nat.min_eq_left hp]at hr;exact hr
   ·have e:Zjn c G P (f,K+1) i=(f,K+1):=by
     unfold Zjn;rw[if_neg oM,if_neg oM,if_neg (by show¬ (K+1=0);omega)]
    rw[e];refine⟨ok,?_⟩;by_cases h36:i.op=36
    ·rw[Zwn h36];refine .inr ⟨⟨true,i.n,s.set.length⟩::pre,b,rest,by rw[ho];rfl,hbl,?_,hs⟩;rw[List.filter_cons_of_neg sM,hK]
    ·by_cases h37:i.op=37
     ·rw[Zrp (.inr h37)];have hnl:Zim s=true:=by
       unfold Ziw at hst;rw[if_neg oM,if_neg oM,if_pos h37]at hst;exact hst
      unfold Zim at hnl;unfold Ziy;rw[ho]at hnl ⊢;cases pre with
      |nil=>
       simp only[List.nil_append]at hnl;rw[hbl]at hnl;cases hnl
      |cons p pre=>
       simp only[List.cons_append]at hnl ⊢;refine .inr ⟨pre,b,rest,rfl,hbl,?_,fun r hr=>hs r ?_⟩
       ·rw[List.filter_cons_of_neg (by rw[hnl];decide)]at hK;omega
       ·rw[hnl]at hr;simpa using hr
     ·rw[Zpy h34 h35 h36 h37];obtain⟨h1,h2⟩:=Zacj (i:=i) (r:=rowP i.op) hah;exact .inr ⟨pre,b,rest,by rw[h2];exact ho,hbl,by rw[hK],fun r hr=>hs r (by rw[h1]at hr;exact hr)⟩
theorem do_any{T:Nat->Prop}{E E':Nat}{a:Lay}{c:Cd}{G P:List (List Int)}{X:Nat->Value}{M:Nat}{m:Nat->Option Value}{f:Fr}(w:World)(x:FX T E E' a c G P w)(h:FV T E E' a c w X M m f)(hg:Good c)(ok:OkF c f)(hM:M<=1000000)(ib io:Nat)(i:Ins)(hi:InsT (mutT T E E') w ib io i)
 (hk:Zih i.op=true) (nd:Zlm c f i) (fg:FitV c G) (fp:FitV c P):
 Calls prog 45 #[.pointer (some ⟨a.FR,0,none⟩),.pointer (some ⟨ib,io,none⟩)] w fun e w'=>e=.returned (.tuple #[])/\Zhv T E E' a c G P M (doI c G P f i) w w':=by
 rcases Zpa hk with e|e|e|e|e|e|e|e|e
 ·obtain⟨h1,h2,h3,h4,_⟩:=nd.num e;rw[Zoc e];exact do_num w x h hg ok ib io i hi e h1 h2 h3 h4
 ·obtain⟨h1,h2,h3,h4,h5,_⟩:=nd.whole e;rw[Zmm e];exact Zapz w x h hg ok ib io i hi e h1 h2 h3 h4 h5
 ·rw[Zor e];exact do_grad w x h hg ok hM ib io i hi e fg (nd.part (.inl e))
 ·rw[Zos e];exact Zarm w x h hg ok hM ib io i hi e fp (nd.part (.inr e))
 ·rw[Zom e];exact do_out w x h hg ok hM ib io i hi e (nd.out e).1 (nd.out e).2
 ·obtain⟨h1,h2,h3,h4,h5⟩:=nd.load e;rw[Zpc e];refine do_load w x h hg ok hM ib io i hi e h1 h2 h3 h4 fun k1 hh he=>?_;have hn:i.n.toNat<c.slots.length:=oM;have hn2:i.n.toNat<f.slots.length:=by rw[ok.slotsL];exact hn
  have hq:=ok.slots i.n.toNat hn hn2;rw[List.getElem?_eq_getElem hn2]at he;have:slotT c.slots i.n=c.slots[i.n.toNat].ty:=by unfold slotT;rw[List.getElem?_eq_getElem hn];rfl
  rw[←this,h5]at hq;intro e2;have h9:=hq.1;unfold Zhy at h9;rw[if_neg oM,if_pos k1]at h9;simp only[Option.some.injEq]at he;rw[he,e2]at h9;cases h9
 ·obtain⟨h1,h2,h3,h4,h5,h6⟩:=nd.store e;rw[Zon e];exact Zaoi w x h hg ok hM ib io i hi e h1 h2 h3 h4
 ·rw[Zky e];exact do_mark w x h hg ok hM ib io i hi e
 ·rw[Zmf e];obtain⟨h1,h2,h3,_⟩:=nd.elem e;by_cases hk2:(regT c.regs i.d).kind=2
  ·exact Zaea w x h hg ok hM ib io i hi e _ (Zahq w x h hg ib io i hi h1 h2 h3.1 h3.2 hk2)
  ·obtain⟨h4,h5,_⟩:=Zpp hg ok e nd hk2;exact Zaea w x h hg ok hM ib io i hi e _ (Zakx w x h hg ok hM ib io i hi e h1 h2 hk2 h4 h5)
end Go.Proofs.YtbinohkcolcbfaaGreat
