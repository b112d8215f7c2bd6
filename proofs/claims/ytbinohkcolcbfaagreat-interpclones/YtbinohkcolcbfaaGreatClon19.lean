import Derived.Test.YtbinohkcolcbfaaGreatClon1
import Derived.Test.YtbinohkcolcbfaaGreatClon15
namespace Go.Proofs.YtbinohkcolcbfaaGreat
open Go.RowKit Go.Proofs.Tryz
set_option linter.all false
set_option maxRecDepth 100000
set_option maxHeartbeats 16000000
theorem XN(v0 v1 v2 v3:Value)(c:Cd)(co:B0 c)(hT:Am c=true)(op D A B E n bt La Lb Lc Ld Le:Int)(a b cc d e:UInt8)
 (HROW:Hid (∀w,Calls prog 67 #[.int .i64 op] w fun x w'=>x=.returned (.tuple #[.string ⟨#[a,b,cc,d,e]⟩,.bool true])/\w'=w))
 (HCAN:Hid (∀w,Calls prog 63 #[.int .u32 bt] w fun e w'=>e=.returned (.bool true)/\Below w.heap.size w w'))
 (ix0:∀w,(Instr.index 9 (.string ⟨#[a,b,cc,d,e]⟩) (.int .i64 0)).run prog w=.ok (.int .u8 La) w)
 (ix1:∀w,(Instr.index 9 (.string ⟨#[a,b,cc,d,e]⟩) (.int .i64 1)).run prog w=.ok (.int .u8 Lb) w)
 (ix2:∀w,(Instr.index 9 (.string ⟨#[a,b,cc,d,e]⟩) (.int .i64 2)).run prog w=.ok (.int .u8 Lc) w)
 (ix3:∀w,(Instr.index 9 (.string ⟨#[a,b,cc,d,e]⟩) (.int .i64 3)).run prog w=.ok (.int .u8 Ld) w)
 (TG:∀w,(Instr.index 9 (.string ⟨#[a,b,cc,d,e]⟩) (.int .i64 4)).run prog w=.ok (.int .u8 Le) w)
 (oa:BS La) (ob:BS Lb) (oc:BS Lc) (od:BS Ld) (oT:Le=112->La=118\/(La=45/\Lb=118)) (o1:(op==1)=true) (o2:(op != 1)=false) (hz0:La≠45) (oe:Le=45)
 (w:World) (hv:Di w v0 v1 v2 v3 c):
 Calls prog 64 #[.agg #[v0,v1,v2,v3],.agg #[.int .i64 op,.int .i64 D,.int .i64 A,.int .i64 B,.int .i64 E,.int .i64 n,.int .u32 bt]] w fun e w'=>e=.returned (.bool (Aj c.regs La D ⟨0,0⟩&&(Aj c.regs Lb A (dR c.regs La D)&&(Aj c.regs Lc B (dR c.regs La D)&&(Aj c.regs Ld E (dR c.regs La D)&&CQ c Le n (tR c.regs La Lb D A))))))/\Below w.heap.size w w':=by
 have KO:∀ (l n:Int) (d:Ty),BS l->∀v,Below w.heap.size w v->Calls prog 104 #[.agg #[v0,v1,v2,v3],.int .u8 l,.int .i64 n,.agg #[.int .i64 d.kind,.int .i64 d.par]] v fun e w'=>e=.returned (.bool (Aj c.regs l n d))/\Below v.heap.size v w':=fun l n d hl v hb=>ER v0 v1 v2 v3 c co l n d hl v (hv.below hb);have HT0:Hid (TW w v0 v1 v2 v3 (w.heap.size+1) op D A B E n bt ((w.alloc (.cells #[v0,v1,v2,v3] 27)).alloc (.cells #[.int .i64 op,.int .i64 D,.int .i64 A,.int .i64 B,.int .i64 E,.int .i64 n,.int .u32 bt] 45))):=TW.start w v0 v1 v2 v3 op D A B E n bt;obtain⟨p0,q0,rfl,-⟩:=id hv.sign;obtain⟨p1,q1,rfl,hr1⟩:=id hv.regs;obtain⟨p2,q2,rfl,-⟩:=id hv.slots;have hREG:∀x:Int,Ak x c.regs.length=true->∃ (k lb lo:Nat),x=(k:Int)/\k<c.regs.length/\p1=some ⟨lb,lo,none⟩/\w.cell? ⟨lb,lo+k*2,none⟩=some (.int .i64 (A8 c.regs x).kind)/\w.cell? ⟨lb,lo+k*2+1,none⟩=some (.int .i64 (A8 c.regs x).par):=by
  exact Zcl
 have HREG:Hid (∀x:Int,Ak x c.regs.length=true->∃ (k lb lo:Nat),x=(k:Int)/\k<c.regs.length/\p1=some ⟨lb,lo,none⟩/\w.cell? ⟨lb,lo+k*2,none⟩=some (.int .i64 (A8 c.regs x).kind)/\w.cell? ⟨lb,lo+k*2+1,none⟩=some (.int .i64 (A8 c.regs x).par)):=hREG;have HCV:Hid (Di w (.slice p0 c.sign.length q0) (.slice p1 c.regs.length q1) (.slice p2 c.slots.length q2) v3 c):=hv;have HCO:Hid (B0 c):=co;have hB0:=co.signL;have hB1:=co.regsL;have hB2:=co.slotsL;have hTy:∀x:Int,Ak x c.regs.length=true->FM 118 (A8 c.regs x) ⟨0,0⟩=true->Ak (A8 c.regs x).par c.sign.length=true:=fun x hx hk=>by
  exact Zdc
 obtain⟨n0,hn0⟩:∃n0,c.sign.length=n0:=⟨_,rfl⟩
 obtain⟨n1,hn1⟩:∃n1,c.regs.length=n1:=⟨_,rfl⟩
 obtain⟨n2,hn2⟩:∃n2,c.slots.length=n2:=⟨_,rfl⟩
 have HN0:Hid (c.sign.length=n0):=hn0;have HN1:Hid (c.regs.length=n1):=hn1;have HN2:Hid (c.slots.length=n2):=hn2;rw[hn0]at hB0;rw[hn1]at hB1;rw[hn2]at hB2;rw[hn0,hn1,hn2]at HCV KO HT0 ⊢;clear hREG hv hr1 hn0 hn1 hn2 co;have HTY:Hid (∀x:Int,Ak x c.regs.length=true->FM 118 (A8 c.regs x) ⟨0,0⟩=true->Ak (A8 c.regs x).par c.sign.length=true):=hTy;clear hTy hT;have hKO0:=fun d=>KO La D d oa;have hKOA:=fun d=>KO Lb A d ob;have hKOB:=fun d=>KO Lc B d oc;have hKOC:=fun d=>KO Ld E d od;clear KO;have hPP0:Le=112->La=118\/(La=45/\Lb=118):=oT;clear oT oc od;obtain⟨RES,hRES⟩:∃R,(Aj c.regs La D ⟨0,0⟩&&(Aj c.regs Lb A (dR c.regs La D)&&(Aj c.regs Lc B (dR c.regs La D)&&(Aj c.regs Ld E (dR c.regs La D)&&CQ c Le n (tR c.regs La Lb D A)))))=R:=⟨_,rfl⟩
 rw[hRES];have hz1:(La==45)=false:=by simpa using hz0
 have hz2:(La != 45)=true:=by simpa using hz0
 have hPL:Aj c.regs La D ⟨0,0⟩=true->Ak D c.regs.length=true:=fun h=>by
  rw[BF hz0]at h;simp only[Bool.and_eq_true]at h;exact h.1
 have hPV:Aj c.regs La D ⟨0,0⟩=true->La=118->FM 118 (A8 c.regs D) ⟨0,0⟩=true:=fun h hl=>by
  exact Zeu
 have hdR:dR c.regs La D=A8 c.regs D:=if_neg hz0;have htR:tR c.regs La Lb D A=A8 c.regs D:=by unfold tR;rw[if_neg (fun e=>hz0 e.1),hdR]
 rw[htR,hdR]at hRES;have HPP0:Hid (Aj c.regs La D ⟨0,0⟩=true->Le=112->Ak (A8 c.regs D).par c.sign.length=true):=fun h e=>by
  rcases hPP0 e with h1|⟨h1,-⟩
  ·exact HTY.out _ (hPL h) (hPV h h1)
  ·exact absurd h1 hz0
 obtain⟨X0,hX0⟩:∃X,Aj c.regs La D ⟨0,0⟩=X:=⟨_,rfl⟩
 have HK0:Hid _:=hKO0 ⟨0,0⟩;rw[hX0]at hRES hPL HPP0 HK0;simp only at HK0;clear hX0 hPV hdR htR hKO0 hPP0 HTY;cases X0
 ·exact Zal
 obtain⟨kd,lb,lo,rfl,hkd,rfl,ya0,ya1⟩:=HREG.out D (hPL rfl);obtain⟨⟨dk,dp⟩,htt⟩:∃t:Ty,A8 c.regs (kd:Int)=t:=⟨_,rfl⟩
 rw[htt]at HPP0 ya0 ya1 hRES;obtain⟨XA,hXA⟩:∃X,Aj c.regs Lb A ⟨dk,dp⟩=X:=⟨_,rfl⟩
 obtain⟨XB,hXB⟩:∃X,Aj c.regs Lc B ⟨dk,dp⟩=X:=⟨_,rfl⟩
 obtain⟨XC,hXC⟩:∃X,Aj c.regs Ld E ⟨dk,dp⟩=X:=⟨_,rfl⟩
 rw[hXA,hXB,hXC]at hRES;have HKA:Hid _:=hKOA ⟨dk,dp⟩;have HKB:Hid _:=hKOB ⟨dk,dp⟩;have HKC:Hid _:=hKOC ⟨dk,dp⟩;rw[hXA]at HKA;rw[hXB]at HKB;rw[hXC]at HKC;simp only at HKA HKB HKC;have HRES:Hid ((XA&&(XB&&(XC&&CQ c Le n ⟨dk,dp⟩)))=RES):=hRES;have HPP:Hid (Le=112->Ak dp c.sign.length=true):=HPP0.out rfl;have ka0:(0:Int)<=(kd:Int):=oM;have ka1:(kd:Int)<(n1:Int):=by have:=HN1.out;omega
 clear hKOA hKOB hKOC hXA hXB hXC hRES HPP0 hPL htt;go_enter func64,ntmps64;go_wp2_with(first
  |(go_at_call 67;refine(HROW.out _).mono ?_;rintro e w1 ⟨rfl,rfl⟩)
  |(go_at_call 63;refine(HCAN.out _).mono ?_;rintro e w2 ⟨rfl,hb2⟩;have HT2:Hid (TW w (.slice p0 n0 q0) (.slice (some ⟨lb,lo,none⟩) n1 q1) (.slice p2 n2 q2) v3 (w.heap.size+1) op (kd:Int) A B E n bt (w2.alloc (.cells #[.int .i64 0,.int .i64 0] 69))):=(HT0.out.next hb2).next (A0 _ _);obtain⟨b1,c0,c1,c2,c3,i0,i1,i2,i3,i4,i5,i6⟩:=HT2.out;have HS2:Hid (w.heap.size+1<w2.heap.size):=A3 (HT0.out.next hb2).i0;clear hb2))
 have HTD0:Hid _:=HT2.out;have HD0:Hid ((w2.alloc (.cells #[.int .i64 0,.int .i64 0] 69)).cell? ⟨w2.heap.size,0,none⟩=some (.int .i64 0)/\(w2.alloc (.cells #[.int .i64 0,.int .i64 0] 69)).cell? ⟨w2.heap.size,1,none⟩=some (.int .i64 0)/\(w2.alloc (.cells #[.int .i64 0,.int .i64 0] 69)).frozen? ⟨w2.heap.size,0,none⟩=false/\(w2.alloc (.cells #[.int .i64 0,.int .i64 0] 69)).frozen? ⟨w2.heap.size,1,none⟩=false):=⟨sG,sG,sG,sG⟩
 have HBZ9:Hid (lb<w.heap.size):=A3 ya0;have HZ:Hid (w2.heap.size≠w.heap.size+1/\w.heap.size<w2.heap.size/\lb≠w2.heap.size):=by
  refine⟨?_,?_,?_⟩
  all_goals(have h3:=HS2.out;have h4:=HBZ9.out;omega)
 obtain⟨Z,hZ⟩:∃Z,w2.heap.size=Z:=⟨_,rfl⟩
 obtain⟨Wa,hWa⟩:∃W,w2.alloc (.cells #[.int .i64 0,.int .i64 0] 69)=W:=⟨_,rfl⟩
 rw[hZ]at HD0 HZ;rw[hWa]at HD0 HTD0 ⊢;try rw[hZ]
 clear hZ hWa HT2 b1 c0 c1 c2 c3 i0 i1 i2 i3 i4 i5 i6 HT0 HROW HCAN HS2;have HCD0:Hid (∀v,Below Wa.heap.size Wa v->v.cell? ⟨w.heap.size,0,none⟩=some (.slice p0 n0 q0)/\v.cell? ⟨w.heap.size,1,none⟩=some (.slice (some ⟨lb,lo,none⟩) n1 q1)/\v.cell? ⟨w.heap.size,2,none⟩=some (.slice p2 n2 q2)/\v.cell? ⟨w.heap.size,3,none⟩=some v3/\v.cell? ⟨w.heap.size+1,1,none⟩=some (.int .i64 (kd:Int))/\v.cell? ⟨w.heap.size+1,2,none⟩=some (.int .i64 A)/\v.cell? ⟨w.heap.size+1,3,none⟩=some (.int .i64 B)/\v.cell? ⟨w.heap.size+1,4,none⟩=some (.int .i64 E)/\v.cell? ⟨w.heap.size+1,5,none⟩=some (.int .i64 n)/\v.cell? ⟨Z,0,none⟩=some (.int .i64 0)/\v.cell? ⟨Z,1,none⟩=some (.int .i64 0)):=fun v hb=>⟨kc hb HTD0.out.c0,kc hb HTD0.out.c1,kc hb HTD0.out.c2,kc hb HTD0.out.c3,kc hb HTD0.out.i1,kc hb HTD0.out.i2,kc hb HTD0.out.i3,kc hb HTD0.out.i4,kc hb HTD0.out.i5,kc hb HD0.out.1,kc hb HD0.out.2.1⟩
 obtain⟨c0,c1,c2,c3,i1,i2,i3,i4,i5,d0,d1⟩:=HCD0.out Wa (B8 _);have HYA:Hid (∀v,Below Wa.heap.size Wa v->v.cell? ⟨lb,lo+kd*2,none⟩=some (.int .i64 dk)/\v.cell? ⟨lb,lo+kd*2+1,none⟩=some (.int .i64 dp)/\v.frozen? ⟨Z,0,none⟩=false/\v.frozen? ⟨Z,1,none⟩=false):=fun v hb=>⟨kc (bel HTD0.out.bel hb) ya0,kc (bel HTD0.out.bel hb) ya1,kf hb HD0.out.1 HD0.out.2.2.1,kf hb HD0.out.2.1 HD0.out.2.2.2⟩
 refine rG (fun v=>v.cell? ⟨w.heap.size,0,none⟩=some (.slice p0 n0 q0)/\v.cell? ⟨w.heap.size,1,none⟩=some (.slice (some ⟨lb,lo,none⟩) n1 q1)/\v.cell? ⟨w.heap.size,2,none⟩=some (.slice p2 n2 q2)/\v.cell? ⟨w.heap.size,3,none⟩=some v3/\v.cell? ⟨w.heap.size+1,1,none⟩=some (.int .i64 (kd:Int))/\v.cell? ⟨w.heap.size+1,2,none⟩=some (.int .i64 A)/\v.cell? ⟨w.heap.size+1,3,none⟩=some (.int .i64 B)/\v.cell? ⟨w.heap.size+1,4,none⟩=some (.int .i64 E)/\v.cell? ⟨w.heap.size+1,5,none⟩=some (.int .i64 n)/\v.cell? ⟨Z,0,none⟩=some (.int .i64 0)/\v.cell? ⟨Z,1,none⟩=some (.int .i64 0)) fun hHeld=>?_;refine Tf 0 1 2 3 4 5 ?_;clear hHeld;refine Ao 6 fun K hK=>?_;go_simp;(go_at_call 104;(with_reducible refine(HK0.out _ (bel HTD0.out.bel (A5 _))).mono ?_);rintro e w9 ⟨rfl,hb9⟩;have HB9:Hid (Below Wa.heap.size Wa w9):=bel (A5 _) hb9;clear hb9;obtain⟨ya2,ya3,fz0,fz1⟩:=HYA.out w9 HB9.out;obtain⟨c0,c1,c2,c3,i1,i2,i3,i4,i5,d0,d1⟩:=HCD0.out w9 HB9.out);try(go_wp2_with fail)
 refine An hK fun hHeld=>?_;clear hK K;refine AI 7 ?_;refine wpAnyH_done kR ?_ _;obtain⟨hz5,hz6,hz7⟩:=HZ.out;go_wp2;have HD:Hid (((w9.setCell ⟨Z,0,none⟩ (.int .i64 dk)).setCell ⟨Z,1,none⟩ (.int .i64 dp)).cell? ⟨Z,0,none⟩=some (.int .i64 dk)/\((w9.setCell ⟨Z,0,none⟩ (.int .i64 dk)).setCell ⟨Z,1,none⟩ (.int .i64 dp)).cell? ⟨Z,1,none⟩=some (.int .i64 dp)):=⟨by simp[go_sem,d0,d1],by simp[go_sem,d0,d1]⟩
 have HTD:Hid _:=((HTD0.out.next HB9.out).keep (g:=Z) (o:=0) (.int .i64 dk) hz6 hz5).keep (g:=Z) (o:=1) (.int .i64 dp) hz6 hz5;obtain⟨Wd,hWd⟩:∃W,(w9.setCell ⟨Z,0,none⟩ (.int .i64 dk)).setCell ⟨Z,1,none⟩ (.int .i64 dp)=W:=⟨_,rfl⟩
 rw[hWd]at HD HTD ⊢;clear hWd c0 c1 c2 c3 i1 i2 i3 i4 i5 d0 d1 ya2 ya3 fz0 fz1 HCD0 HYA HD0 HTD0 HB9 HK0 hz5 hz6 hz7 HZ;have HCD:Hid (∀v,Below Wd.heap.size Wd v->v.cell? ⟨w.heap.size,0,none⟩=some (.slice p0 n0 q0)/\v.cell? ⟨w.heap.size,1,none⟩=some (.slice (some ⟨lb,lo,none⟩) n1 q1)/\v.cell? ⟨w.heap.size,2,none⟩=some (.slice p2 n2 q2)/\v.cell? ⟨w.heap.size,3,none⟩=some v3/\v.cell? ⟨w.heap.size+1,1,none⟩=some (.int .i64 (kd:Int))/\v.cell? ⟨w.heap.size+1,2,none⟩=some (.int .i64 A)/\v.cell? ⟨w.heap.size+1,3,none⟩=some (.int .i64 B)/\v.cell? ⟨w.heap.size+1,4,none⟩=some (.int .i64 E)/\v.cell? ⟨w.heap.size+1,5,none⟩=some (.int .i64 n)/\v.cell? ⟨Z,0,none⟩=some (.int .i64 dk)/\v.cell? ⟨Z,1,none⟩=some (.int .i64 dp)):=fun v hb=>⟨kc hb HTD.out.c0,kc hb HTD.out.c1,kc hb HTD.out.c2,kc hb HTD.out.c3,kc hb HTD.out.i1,kc hb HTD.out.i2,kc hb HTD.out.i3,kc hb HTD.out.i4,kc hb HTD.out.i5,kc hb HD.out.1,kc hb HD.out.2⟩
 obtain⟨c0,c1,c2,c3,i1,i2,i3,i4,i5,d0,d1⟩:=HCD.out Wd (B8 _);cases XA
 ·exact Zba
 cases XB
 ·have HQF:Hid (false=RES):=HRES.out;go_wp2;refine rG (fun v=>v.cell? ⟨w.heap.size,0,none⟩=some (.slice p0 n0 q0)/\v.cell? ⟨w.heap.size,1,none⟩=some (.slice (some ⟨lb,lo,none⟩) n1 q1)/\v.cell? ⟨w.heap.size,2,none⟩=some (.slice p2 n2 q2)/\v.cell? ⟨w.heap.size,3,none⟩=some v3/\v.cell? ⟨w.heap.size+1,1,none⟩=some (.int .i64 (kd:Int))/\v.cell? ⟨w.heap.size+1,2,none⟩=some (.int .i64 A)/\v.cell? ⟨w.heap.size+1,3,none⟩=some (.int .i64 B)/\v.cell? ⟨w.heap.size+1,4,none⟩=some (.int .i64 E)/\v.cell? ⟨w.heap.size+1,5,none⟩=some (.int .i64 n)/\v.cell? ⟨Z,0,none⟩=some (.int .i64 dk)/\v.cell? ⟨Z,1,none⟩=some (.int .i64 dp)) fun hHeld=>?_;exact Zav
 cases XC
 ·have HQF:Hid (false=RES):=HRES.out;go_wp2;refine rG (fun v=>v.cell? ⟨w.heap.size,0,none⟩=some (.slice p0 n0 q0)/\v.cell? ⟨w.heap.size,1,none⟩=some (.slice (some ⟨lb,lo,none⟩) n1 q1)/\v.cell? ⟨w.heap.size,2,none⟩=some (.slice p2 n2 q2)/\v.cell? ⟨w.heap.size,3,none⟩=some v3/\v.cell? ⟨w.heap.size+1,1,none⟩=some (.int .i64 (kd:Int))/\v.cell? ⟨w.heap.size+1,2,none⟩=some (.int .i64 A)/\v.cell? ⟨w.heap.size+1,3,none⟩=some (.int .i64 B)/\v.cell? ⟨w.heap.size+1,4,none⟩=some (.int .i64 E)/\v.cell? ⟨w.heap.size+1,5,none⟩=some (.int .i64 n)/\v.cell? ⟨Z,0,none⟩=some (.int .i64 dk)/\v.cell? ⟨Z,1,none⟩=some (.int .i64 dp)) fun hHeld=>?_;exact Zan
 go_wp2;refine rG (fun v=>v.cell? ⟨w.heap.size,0,none⟩=some (.slice p0 n0 q0)/\v.cell? ⟨w.heap.size,1,none⟩=some (.slice (some ⟨lb,lo,none⟩) n1 q1)/\v.cell? ⟨w.heap.size,2,none⟩=some (.slice p2 n2 q2)/\v.cell? ⟨w.heap.size,3,none⟩=some v3/\v.cell? ⟨w.heap.size+1,1,none⟩=some (.int .i64 (kd:Int))/\v.cell? ⟨w.heap.size+1,2,none⟩=some (.int .i64 A)/\v.cell? ⟨w.heap.size+1,3,none⟩=some (.int .i64 B)/\v.cell? ⟨w.heap.size+1,4,none⟩=some (.int .i64 E)/\v.cell? ⟨w.heap.size+1,5,none⟩=some (.int .i64 n)/\v.cell? ⟨Z,0,none⟩=some (.int .i64 dk)/\v.cell? ⟨Z,1,none⟩=some (.int .i64 dp)) fun hHeld=>?_;refine Tf 0 1 2 3 4 5 ?_;clear hHeld;refine Ao 6 fun K hK=>?_;go_simp;(go_at_call 104;(with_reducible refine(HKA.out _ (bel HTD.out.bel (A5 _))).mono ?_);rintro e w3 ⟨rfl,hb9⟩;have HB3:Hid (Below Wd.heap.size Wd w3):=bel (A5 _) hb9;clear hb9;obtain⟨c0,c1,c2,c3,i1,i2,i3,i4,i5,d0,d1⟩:=HCD.out w3 HB3.out);try(go_wp2_with fail)
 refine An hK fun hHeld=>?_;clear hK K;refine Tf 7 8 9 10 11 12 ?_;refine Tb 13 14 ?_;clear hHeld;refine Ao 15 fun K hK=>?_;go_simp;(go_at_call 104;(with_reducible refine(HKB.out _ (bel HTD.out.bel HB3.out)).mono ?_);rintro e w4 ⟨rfl,hb9⟩;have HB4:Hid (Below Wd.heap.size Wd w4):=bel HB3.out hb9;clear hb9;clear c0 c1 c2 c3 i1 i2 i3 i4 i5 d0 d1;obtain⟨c0,c1,c2,c3,i1,i2,i3,i4,i5,d0,d1⟩:=HCD.out w4 HB4.out);try(go_wp2_with fail)
 refine An hK fun hHeld=>?_;clear hK K;refine Tf 16 17 18 19 20 21 ?_;refine Tc 22 23 24 ?_;clear hHeld;refine Ao 25 fun K hK=>?_;go_simp;(go_at_call 104;(with_reducible refine(HKC.out _ (bel HTD.out.bel HB4.out)).mono ?_);rintro e w5 ⟨rfl,hb9⟩;have HB5:Hid (Below Wd.heap.size Wd w5):=bel HB4.out hb9;clear hb9;clear c0 c1 c2 c3 i1 i2 i3 i4 i5 d0 d1;obtain⟨c0,c1,c2,c3,i1,i2,i3,i4,i5,d0,d1⟩:=HCD.out w5 HB5.out);try(go_wp2_with fail)
 refine An hK fun hHeld=>?_;clear hK K;refine Tb 26 27 ?_;refine wpAnyH_done kR ?_ _;clear c0 c1 c2 c3 i1 i2 i3 i4 i5 d0 d1;have HT5:Hid (TW w (.slice p0 n0 q0) (.slice (some ⟨lb,lo,none⟩) n1 q1) (.slice p2 n2 q2) v3 (w.heap.size+1) op (kd:Int) A B E n bt w5):=HTD.out.next HB5.out;obtain⟨hb5,c0,c1,c2,c3,i0,i1,i2,i3,i4,i5,i6⟩:=HT5.out;obtain⟨-,-,-,-,-,-,-,-,-,d0,d1⟩:=HCD.out w5 HB5.out;have hs5:w5.heap.size≠w.heap.size+1/\w.heap.size<w5.heap.size:=⟨fun e=>by have:=A3 i0;simp only at this;omega,by have:=A3 c0;simp only at this;omega⟩
 have HAL:Hid (TW w (.slice p0 n0 q0) (.slice (some ⟨lb,lo,none⟩) n1 q1) (.slice p2 n2 q2) v3 (w.heap.size+1) op (kd:Int) A B E n bt (w5.alloc (.cells #[.int .i64 dk,.int .i64 dp] 69))):=HT5.out.next (A0 _ _);have HRT:Hid (CQ c Le n ⟨dk,dp⟩=RES):=HRES.out;clear c0 c1 c2 c3 i0 i1 i2 i3 i4 i5 i6;have t0:(w5.alloc (.cells #[.int .i64 dk,.int .i64 dp] 69)).cell? ⟨w5.heap.size,0,none⟩=some (.int .i64 dk):=sG;have t1:(w5.alloc (.cells #[.int .i64 dk,.int .i64 dp] 69)).cell? ⟨w5.heap.size,1,none⟩=some (.int .i64 dp):=sG;obtain⟨hbx,c0,c1,c2,c3,i0,i1,i2,i3,i4,i5,i6⟩:=HAL.out;clear d0 d1 HRES;have hbt:=hbx;subst oe;exact Zdk
theorem Wr{T:Nat->Prop}{E E':Nat}{a:BY}{c:Cd}{G P:List (List Int)}{X:Nat->Value}{M:Nat}{m:Nat->Option Value}{f:Fr}(w:World)(x:FX T E E' a c G P w)(h:FV T E E' a c w X M m f)(hg:Good c)(ok:EC c f)(hM:M<=1000000)(ib io:Nat)(i:Au)(hi:Ea (AB T E E') w ib io i)
 (hop:i.op=29) (hL:Cg c G) (hp:F7 c i.d i.n):
 Calls prog 45 #[.pointer (some ⟨a.FR,0,none⟩),.pointer (some ⟨ib,io,none⟩)] w fun e w'=>e=.returned (.tuple #[])/\Ab T E E' a c G P M {f with vecs:=BK f.vecs i.d.toNat (AH c G i)} w w':=by
 have HK:Hid (∀v,Below w.heap.size w v->Calls prog 72 #[.pointer (some ⟨a.FR,0,none⟩),a.gv,.pointer (some ⟨ib,io,none⟩)] v fun e w'=>∃g,e=.returned (.slice (some ⟨g,0,none⟩) (AH c G i).length (AH c G i).length)/\v.heap.size<=g/\w'.rowIs g 43 (AH c G i).length (fun j=>.int .u32 (B7 (AH c G i) j))/\Below v.heap.size v w'):=fun v hv=>ME v (x.below hv) hg a.gv G (x.g.below hv) hL ib io i (hi.below hv).cells hp;obtain⟨l,hl⟩:∃l,AH c G i=l:=⟨_,rfl⟩
 rw[hl]at HK ⊢;have q0:=hi.cells.at 0 rfl;rw[Nat.add_zero]at q0;have q1:=hi.cells.at 1 rfl;have d0:=hp.r0;have d1:=hp.r1;obtain⟨op,D,A,B,Ec,nn,bt⟩:=i;simp only at *;subst hop;obtain⟨D,rfl⟩:∃j:Nat,D=(j:Int):=⟨D.toNat,oM⟩
 rw[Int.toNat_natCast];have hD:D<c.regs.length:=oM;have f4:=x.f4;have f5:=x.f5;have hN:=hg.regsL;obtain⟨F,hF⟩:∃F:Fr,({f with vecs:=BK f.vecs D l}:Fr)=F:=⟨_,rfl⟩
 have HFin:Hid (∀v g,Below w.heap.size w v->w.heap.size<=g->v.rowIs g 43 l.length (fun j=>.int .u32 (B7 l j))->∃v2,(Instr.mapUpdate 92 (.map (some a.MB)) (.int .i64 (D:Int)) (.slice (some ⟨g,0,none⟩) l.length l.length)).run prog v=.ok () v2/\Ab T E E' a c G P M F w v2/\(∀b,b<v.heap.size->b≠a.MB->v2.heap[b]? =v.heap[b]?)):=by
  exact Zch
 rw[hF];have n1:a.FR≠a.MB:=x.d1.2.2.1;have n2:ib≠a.MB:=fun e=>hi.not (by rw[e];exact .inr x.iMB);have hlt1:a.FR<w.heap.size:=by have:=x.iFR;have:=x.hE';omega
 have hlt2:=hi.lt;obtain⟨FR,hFR⟩:∃FR,a.FR=FR:=⟨_,rfl⟩
 obtain⟨MB,hMB⟩:∃MB,a.MB=MB:=⟨_,rfl⟩
 obtain⟨gv,hgv⟩:∃gv,a.gv=gv:=⟨_,rfl⟩
 obtain⟨L,hL9⟩:∃L,l.length=L:=⟨_,rfl⟩
 simp only[hFR,hMB,hgv,hL9]at f4 f5 HK HFin n1 n2 hlt1 ⊢;clear x h hg hi ok hp hl hFR hMB hgv hL9 hF hL;go_enter func45,ntmps45;go_wp2;refine rG (fun v=>v.cell? ⟨FR,4,none⟩=some (.map (some MB))/\v.cell? ⟨ib,io+1,none⟩=some (.int .i64 (D:Int))/\v.cell? ⟨FR,5,none⟩=some gv) fun hHeld=>?_;refine Tf 0 1 2 3 4 5 ?_;refine Tf 6 7 8 9 10 11 ?_;refine Tb 12 13 ?_;clear hHeld;refine Ao 14 fun K hK=>?_;go_simp;(go_at_call 72;refine(HK.out _ (A4 _)).mono ?_;rintro e w1 ⟨g,rfl,hg1,hr1,hb1⟩;have HB1:=bel (A4 _) hb1;obtain⟨w2,hrun,hst,hkeep⟩:=HFin.out w1 g HB1 (by simpa using hg1) hr1;have HST:Hid (Ab T E E' a c G P M F w w2):=hst;have z1:=kc HB1 f4;have z2:=kc HB1 q1;have z3:=kc HB1 f5;have y1:w2.cell? ⟨FR,4,none⟩=some (.map (some MB)):=(World.cell?_of_block (hkeep _ ZF n1)).trans z1;have y2:w2.cell? ⟨ib,io+1,none⟩=some (.int .i64 (D:Int)):=(World.cell?_of_block (hkeep _ ZF n2)).trans z2;have y3:w2.cell? ⟨FR,5,none⟩=some gv:=(World.cell?_of_block (hkeep _ ZF n1)).trans z3;clear hb1 hr1 hst hkeep hg1);try(go_wp2_with fail)
 refine An hK fun hHeld=>?_;clear hK K;clear hHeld;refine Ao 15 fun K hK=>?_;go_simp;exact Zcx
theorem SU{T:Nat->Prop}{E E':Nat}{a:BY}{c:Cd}{G P:List (List Int)}{X:Nat->Value}{M:Nat}{m:Nat->Option Value}{f:Fr}(w:World)(x:FX T E E' a c G P w)(h:FV T E E' a c w X M m f)(hg:Good c)(ok:EC c f)(hM:M<=1000000)(ib io:Nat)(i:Au)(hi:Ea (AB T E E') w ib io i)
 (hop:i.op=30) (hL:Cg c P) (hp:F7 c i.d i.n):
 Calls prog 45 #[.pointer (some ⟨a.FR,0,none⟩),.pointer (some ⟨ib,io,none⟩)] w fun e w'=>e=.returned (.tuple #[])/\Ab T E E' a c G P M {f with vecs:=BK f.vecs i.d.toNat (AH c P i)} w w':=by
 have HK:Hid (∀v,Below w.heap.size w v->Calls prog 72 #[.pointer (some ⟨a.FR,0,none⟩),a.pv,.pointer (some ⟨ib,io,none⟩)] v fun e w'=>∃g,e=.returned (.slice (some ⟨g,0,none⟩) (AH c P i).length (AH c P i).length)/\v.heap.size<=g/\w'.rowIs g 43 (AH c P i).length (fun j=>.int .u32 (B7 (AH c P i) j))/\Below v.heap.size v w'):=fun v hv=>ME v (x.below hv) hg a.pv P (x.p.below hv) hL ib io i (hi.below hv).cells hp;obtain⟨l,hl⟩:∃l,AH c P i=l:=⟨_,rfl⟩
 rw[hl]at HK ⊢;have q0:=hi.cells.at 0 rfl;rw[Nat.add_zero]at q0;have q1:=hi.cells.at 1 rfl;have d0:=hp.r0;have d1:=hp.r1;obtain⟨op,D,A,B,Ec,nn,bt⟩:=i;simp only at *;subst hop;obtain⟨D,rfl⟩:∃j:Nat,D=(j:Int):=⟨D.toNat,oM⟩
 rw[Int.toNat_natCast];have hD:D<c.regs.length:=oM;have f4:=x.f4;have f5:=x.f6;have hN:=hg.regsL;obtain⟨F,hF⟩:∃F:Fr,({f with vecs:=BK f.vecs D l}:Fr)=F:=⟨_,rfl⟩
 have HFin:Hid (∀v g,Below w.heap.size w v->w.heap.size<=g->v.rowIs g 43 l.length (fun j=>.int .u32 (B7 l j))->∃v2,(Instr.mapUpdate 92 (.map (some a.MB)) (.int .i64 (D:Int)) (.slice (some ⟨g,0,none⟩) l.length l.length)).run prog v=.ok () v2/\Ab T E E' a c G P M F w v2/\(∀b,b<v.heap.size->b≠a.MB->v2.heap[b]? =v.heap[b]?)):=by
  exact Zch
 rw[hF];have n1:a.FR≠a.MB:=x.d1.2.2.1;have n2:ib≠a.MB:=fun e=>hi.not (by rw[e];exact .inr x.iMB);have hlt1:a.FR<w.heap.size:=by have:=x.iFR;have:=x.hE';omega
 have hlt2:=hi.lt;obtain⟨FR,hFR⟩:∃FR,a.FR=FR:=⟨_,rfl⟩
 obtain⟨MB,hMB⟩:∃MB,a.MB=MB:=⟨_,rfl⟩
 obtain⟨gv,hgv⟩:∃gv,a.pv=gv:=⟨_,rfl⟩
 obtain⟨L,hL9⟩:∃L,l.length=L:=⟨_,rfl⟩
 simp only[hFR,hMB,hgv,hL9]at f4 f5 HK HFin n1 n2 hlt1 ⊢;clear x h hg hi ok hp hl hFR hMB hgv hL9 hF hL;go_enter func45,ntmps45;go_wp2;refine rG (fun v=>v.cell? ⟨FR,4,none⟩=some (.map (some MB))/\v.cell? ⟨ib,io+1,none⟩=some (.int .i64 (D:Int))/\v.cell? ⟨FR,6,none⟩=some gv) fun hHeld=>?_;refine Tf 0 1 2 3 4 5 ?_;refine Tf 6 7 8 9 10 11 ?_;refine Tb 12 13 ?_;clear hHeld;refine Ao 14 fun K hK=>?_;go_simp;(go_at_call 72;refine(HK.out _ (A4 _)).mono ?_;rintro e w1 ⟨g,rfl,hg1,hr1,hb1⟩;have HB1:=bel (A4 _) hb1;obtain⟨w2,hrun,hst,hkeep⟩:=HFin.out w1 g HB1 (by simpa using hg1) hr1;have HST:Hid (Ab T E E' a c G P M F w w2):=hst;have z1:=kc HB1 f4;have z2:=kc HB1 q1;have z3:=kc HB1 f5;have y1:w2.cell? ⟨FR,4,none⟩=some (.map (some MB)):=(World.cell?_of_block (hkeep _ ZF n1)).trans z1;have y2:w2.cell? ⟨ib,io+1,none⟩=some (.int .i64 (D:Int)):=(World.cell?_of_block (hkeep _ ZF n2)).trans z2;have y3:w2.cell? ⟨FR,6,none⟩=some gv:=(World.cell?_of_block (hkeep _ ZF n1)).trans z3;clear hb1 hr1 hst hkeep hg1);try(go_wp2_with fail)
 refine An hK fun hHeld=>?_;clear hK K;clear hHeld;refine Ao 15 fun K hK=>?_;go_simp;exact Zcx
theorem YM{T:Nat->Prop}{E E':Nat}{a:BY}{c:Cd}{G P:List (List Int)}{X:Nat->Value}{M:Nat}{m:Nat->Option Value}{f:Fr}(w:World)(x:FX T E E' a c G P w)(h:FV T E E' a c w X M m f)(hg:Good c)(ok:EC c f)(hM:M<=1000000)(ib io:Nat)(i:Au)(hi:Ea (AB T E E') w ib io i)
 (hop:i.op=31) (hp:F7 c i.a i.n) (hl:(f.vecs i.a.toNat).length=lenOf c (A8 c.regs i.a).par):
 Calls prog 45 #[.pointer (some ⟨a.FR,0,none⟩),.pointer (some ⟨ib,io,none⟩)] w fun e w'=>e=.returned (.tuple #[])/\Ab T E E' a c G P M {f with outs:=Lw f.outs (A8 c.regs i.a).par.toNat (Ah c (A8 c.regs i.a).par) i.n.toNat (f.vecs i.a.toNat)} w w':=by
 have HK:=A9 (Xx w x h hg ok ib io i hi hp hl);obtain⟨F,hF⟩:∃F:Fr,({f with outs:=Lw f.outs (A8 c.regs i.a).par.toNat (Ah c (A8 c.regs i.a).par) i.n.toNat (f.vecs i.a.toNat)}:Fr)=F:=⟨_,rfl⟩
 rw[hF]at HK ⊢;have q0:=hi.cells.at 0 rfl;rw[Nat.add_zero]at q0;rw[hop]at q0;obtain⟨FR,hFR⟩:∃FR,a.FR=FR:=⟨_,rfl⟩
 rw[hFR]at HK ⊢;clear x h hg hi ok hp hl hF hFR hop;go_enter func45,ntmps45;go_wp2_with(go_at_call 73;refine HK.out.mono ?_;rintro e w1 ⟨rfl,hst⟩;have HST:=A9 hst;clear hst)
 go_end0
 exact⟨rfl,HST.out⟩
theorem Ps{T:Nat->Prop}{E E':Nat}{a:BY}{c:Cd}{G P:List (List Int)}{X:Nat->Value}{M:Nat}{m:Nat->Option Value}{f:Fr}(w:World)(x:FX T E E' a c G P w)(h:FV T E E' a c w X M m f)(hg:Good c)(ok:EC c f)(hM:M<=1000000)(ib io:Nat)(i:Au)(hi:Ea (AB T E E') w ib io i)
 (hop:Bg i.op=true) (F:Fr) (HK:Hid (Calls prog 76 #[.pointer (some ⟨a.FR,0,none⟩),.pointer (some ⟨ib,io,none⟩)] w fun e w'=>e=.returned (.tuple #[])/\Ab T E E' a c G P M F w w')):
 Calls prog 45 #[.pointer (some ⟨a.FR,0,none⟩),.pointer (some ⟨ib,io,none⟩)] w fun e w'=>e=.returned (.tuple #[])/\Ab T E E' a c G P M F w w':=by
 have q0:=hi.cells.at 0 rfl;rw[Nat.add_zero]at q0;obtain⟨FR,hFR⟩:∃FR,a.FR=FR:=⟨_,rfl⟩
 rw[hFR]at HK ⊢;unfold Bg at hop;simp only[Bool.and_eq_true,decide_eq_true_eq]at hop;have hop':i.op=3\/i.op=4\/i.op=5\/i.op=6\/i.op=7\/i.op=8\/i.op=9\/i.op=10\/i.op=11\/i.op=12\/i.op=13\/i.op=14\/i.op=15:=oM;clear x h hg hi ok hFR hop;rcases hop' with e|e|e|e|e|e|e|e|e|e|e|e|e
 all_goals
  rw[e]at q0;clear e;go_enter func45,ntmps45;go_wp2_with(go_at_call 76;refine HK.out.mono ?_;rintro e w1 ⟨rfl,hst⟩;have HST:=A9 hst;clear hst)
  go_end0
  exact⟨rfl,HST.out⟩
theorem Wt{T:Nat->Prop}{E E':Nat}{a:BY}{c:Cd}{G P:List (List Int)}{X:Nat->Value}{M:Nat}{m:Nat->Option Value}{f:Fr}(w:World)(x:FX T E E' a c G P w)(h:FV T E E' a c w X M m f)(hg:Good c)(ok:EC c f)(hM:M<=1000000)(ib io:Nat)(i:Au)(hi:Ea (AB T E E') w ib io i)
 (hop:34<=i.op/\i.op<=37):
 Calls prog 45 #[.pointer (some ⟨a.FR,0,none⟩),.pointer (some ⟨ib,io,none⟩)] w fun e w'=>e=.returned (.tuple #[])/\Ab T E E' a c G P M f w w':=by
 have q0:=hi.cells.at 0 rfl;rw[Nat.add_zero]at q0;have HST:Hid (Ab T E E' a c G P M f w w):=Ab.same x h (B8 _);obtain⟨FR,hFR⟩:∃FR,a.FR=FR:=⟨_,rfl⟩
 rw[hFR];have hop':i.op=34\/i.op=35\/i.op=36\/i.op=37:=oM;clear x h hg hi ok hFR hop;rcases hop' with e|e|e|e
 all_goals
  rw[e]at q0;clear e;go_enter func45,ntmps45;go_wp2
  go_end0
  exact⟨rfl,HST.out⟩
theorem Ws{T:Nat->Prop}{E E':Nat}{a:BY}{c:Cd}{G P:List (List Int)}{X:Nat->Value}{M:Nat}{m:Nat->Option Value}{f:Fr}(w:World)(x:FX T E E' a c G P w)(h:FV T E E' a c w X M m f)(hg:Good c)(ok:EC c f)(hM:M<=1000000)(ib io:Nat)(i:Au)(hi:Ea (AB T E E') w ib io i)
 (hop:i.op=32) (d0:0<=i.d) (d1:i.d<(c.regs.length:Int)) (n0:0<=i.n) (n1:i.n<(c.slots.length:Int)) (h1:(A8 c.regs i.d).kind=1->∀hh,f.slots[i.n.toNat]? =some hh->hh.pats≠[]):
 Calls prog 45 #[.pointer (some ⟨a.FR,0,none⟩),.pointer (some ⟨ib,io,none⟩)] w fun e w'=>e=.returned (.tuple #[])/\Ab T E E' a c G P M (GG c f i.d ((f.slots[i.n.toNat]?).getD ⟨[],0⟩)) w w':=by
 have q0:=hi.cells.at 0 rfl;rw[Nat.add_zero]at q0;have q1:=hi.cells.at 1 rfl;have q5:=hi.cells.at 5 rfl;obtain⟨op,D,A,B,Ec,nn,bt⟩:=i;simp only at *;subst hop;obtain⟨D,rfl⟩:∃j:Nat,D=(j:Int):=⟨D.toNat,oM⟩
 obtain⟨n,rfl⟩:∃j:Nat,nn=(j:Int):=⟨nn.toNat,oM⟩
 rw[Int.toNat_natCast]at h1 ⊢;have hD:D<c.regs.length:=oM;have hn:n<c.slots.length:=oM;have hnf:n<f.slots.length:=by rw[h.slotsL];exact hn
 rw[List.getElem?_eq_getElem hnf,Option.getD_some];have hp:=h.slots.pats n hnf;have hw:=h.slots.whole n hnf;have s1:=h.slots.row.cell (i:=2*n) ZG;have s2:=h.slots.row.cell (i:=2*n+1) ZG;rw[hw]at s2;have h1':c.regs[D].kind=1->(f.slots[n]'hnf).pats≠[]:=fun e=>h1 (by rw[Bh hD];exact e) _ (List.getElem?_eq_getElem hnf);obtain⟨q,cap,hq⟩:=hp.len;have HK:Hid (∀v,Below w.heap.size w v->Calls prog 74 #[.pointer (some ⟨a.FR,0,none⟩),.int .i64 (D:Int),.agg #[.slice q (f.slots[n]'hnf).pats.length cap,.int .i64 (f.slots[n]'hnf).whole]] v fun e w'=>e=.returned (.tuple #[])/\Ab T E E' a c G P M (GG c f D (f.slots[n]'hnf)) v w'):=fun v hv=>Qo v (x.below hv) (h.below hv) hg D hD hM q _ cap (f.slots[n]'hnf) (by rw[←hq];exact hp.below hv) h1';rw[hq]at s1;have f1:=x.f1;have hsp:a.sp=some ⟨a.S,0,none⟩:=by
  rcases h.slots.sp with e|e
  ·rw[e]at hnf;exact absurd hnf (Nat.not_lt_zero _)
  ·exact e
 rw[hsp]at f1;rw[Nat.mul_comm 2 n]at s1 s2;have hN:=hg.slotsL;obtain⟨FR,hFR⟩:∃FR,a.FR=FR:=⟨_,rfl⟩
 obtain⟨Sb,hSb⟩:∃Sb,a.S=Sb:=⟨_,rfl⟩
 obtain⟨N,hN'⟩:∃N,c.slots.length=N:=⟨_,rfl⟩
 obtain⟨L,hL⟩:∃L,(f.slots[n]'hnf).pats.length=L:=⟨_,rfl⟩
 obtain⟨wh,hwh⟩:∃wh,(f.slots[n]'hnf).whole=wh:=⟨_,rfl⟩
 obtain⟨F,hF⟩:∃F,GG c f D (f.slots[n]'hnf)=F:=⟨_,rfl⟩
 obtain⟨sc,hsc⟩:∃sc,a.sc=sc:=⟨_,rfl⟩
 have HKP:Hid (∀v,Ab T E E' a c G P M (GG c f D (f.slots[n]'hnf)) w v->v.cell? ⟨a.FR,1,none⟩=some (.slice (some ⟨a.S,0,none⟩) c.slots.length a.sc)/\v.cell? ⟨ib,io+1,none⟩=some (.int .i64 (D:Int))/\v.cell? ⟨ib,io+5,none⟩=some (.int .i64 (n:Int))):=by
  intro v hv;have h1:=hv.1.f1;rw[hsp]at h1;have h2:=hi.un hv.2.2 (fun b _ e=>x.sub b e);exact⟨h1,h2.cells.at 1 rfl,h2.cells.at 5 rfl⟩
 simp only[hFR,hSb,hN',hL,hwh,hF,hsc]at f1 HK s1 s2 hN hn n1 HKP ⊢;clear x h hg hi ok hp hw hq hsp h1 h1' hFR hSb hN' hL hwh hF hsc;go_enter func45,ntmps45;go_wp2;refine rG (fun v=>v.cell? ⟨FR,1,none⟩=some (.slice (some ⟨Sb,0,none⟩) N sc)/\v.cell? ⟨ib,io+1,none⟩=some (.int .i64 (D:Int))/\v.cell? ⟨ib,io+5,none⟩=some (.int .i64 (n:Int))) fun hHeld=>?_;refine Tf 0 1 2 3 4 5 ?_;refine Tf 6 7 8 9 10 11 ?_;refine Tb 12 13 ?_;clear hHeld;refine Ao 14 fun K hK=>?_;go_simp;refine An hK fun hHeld=>?_;clear hK K;clear hHeld;refine Ao 15 fun K hK=>?_;go_simp;(go_at_call 74;refine(HK.out _ (A4 _)).mono ?_;rintro e w1 ⟨rfl,hst⟩;have HST:=A9 (Ab.pre (A4 _) hst);obtain⟨y1,y2,y3⟩:=HKP.out w1 HST.out;clear hst);try(go_wp2_with fail)
 exact Zcx
theorem SW{T:Nat->Prop}{E E':Nat}{a:BY}{c:Cd}{G P:List (List Int)}{X:Nat->Value}{M:Nat}{m:Nat->Option Value}{f:Fr}(w:World)(x:FX T E E' a c G P w)(h:FV T E E' a c w X M m f)(hg:Good c)(ok:EC c f)(hM:M<=1000000)(ib io:Nat)(i:Au)(hi:Ea (AB T E E') w ib io i)
 (hop:i.op=33) (a0:0<=i.a) (a1:i.a<(c.regs.length:Int)) (n0:0<=i.n) (n1:i.n<(c.slots.length:Int)):
 Calls prog 45 #[.pointer (some ⟨a.FR,0,none⟩),.pointer (some ⟨ib,io,none⟩)] w fun e w'=>e=.returned (.tuple #[])/\Ab T E E' a c G P M {f with slots:=f.slots.set i.n.toNat (BG c f i.a)} w w':=by
 have q0:=hi.cells.at 0 rfl;rw[Nat.add_zero]at q0;have q2:=hi.cells.at 2 rfl;have q5:=hi.cells.at 5 rfl;have hnot:=hi.not;obtain⟨op,D,A,B,Ec,nn,bt⟩:=i;simp only at *;subst hop;obtain⟨A,rfl⟩:∃j:Nat,A=(j:Int):=⟨A.toNat,oM⟩
 obtain⟨n,rfl⟩:∃j:Nat,nn=(j:Int):=⟨nn.toNat,oM⟩
 rw[Int.toNat_natCast];have hA:A<c.regs.length:=oM;have hn:n<c.slots.length:=oM;have hnf:n<f.slots.length:=by rw[h.slotsL];exact hn
 have HK:Hid (∀v,Below w.heap.size w v->Calls prog 75 #[.pointer (some ⟨a.FR,0,none⟩),.int .i64 (A:Int)] v fun e w'=>∃u,e=.returned (.agg #[u,.int .i64 (BG c f A).whole])/\Pt (AB T E E') w' u (BG c f A).pats/\Below v.heap.size v w'):=fun v hv=>Rg v (x.below hv) (h.below hv) hg A hA;have s1:=h.slots.row.cell (i:=n*2) ZG;have s2:=h.slots.row.cell (i:=n*2+1) ZG;have s3:=h.slots.row.frozen (n*2);have s4:=h.slots.row.frozen (n*2+1);obtain⟨F,hF⟩:∃F:Fr,({f with slots:=f.slots.set n (BG c f A)}:Fr)=F:=⟨_,rfl⟩
 have HFin:Hid (∀v u,Below w.heap.size w v->Pt (AB T E E') v u (BG c f A).pats->Ab T E E' a c G P M F w ((v.setCell ⟨a.S,n*2,none⟩ u).setCell ⟨a.S,n*2+1,none⟩ (.int .i64 (BG c f A).whole))):=fun v u hv hu=>by rw[←hF];exact(Ab.slot (x.below hv) (h.below hv) hnf hu).pre hv
 rw[hF];have f1:=x.f1;have hsp:a.sp=some ⟨a.S,0,none⟩:=by
  rcases h.slots.sp with e|e
  ·rw[e]at hnf;exact absurd hnf (Nat.not_lt_zero _)
  ·exact e
 rw[hsp]at f1;have hN:=hg.slotsL;have m1:a.S≠a.FR:=by have:=x.ltS;have:=x.iFR;omega
 have m2:a.S≠ib:=fun e=>hnot (by rw[←e];exact .inl x.hS);obtain⟨FR,hFR⟩:∃FR,a.FR=FR:=⟨_,rfl⟩
 obtain⟨Sb,hSb⟩:∃Sb,a.S=Sb:=⟨_,rfl⟩
 obtain⟨N,hN'⟩:∃N,c.slots.length=N:=⟨_,rfl⟩
 obtain⟨sc,hsc⟩:∃sc,a.sc=sc:=⟨_,rfl⟩
 obtain⟨wh,hwh⟩:∃wh,(BG c f A).whole=wh:=⟨_,rfl⟩
 obtain⟨pt,hpt⟩:∃pt,(BG c f A).pats=pt:=⟨_,rfl⟩
 obtain⟨x1,hx1⟩:∃x1,X (n*2)=x1:=⟨_,rfl⟩
 obtain⟨x2,hx2⟩:∃x2,X (n*2+1)=x2:=⟨_,rfl⟩
 rw[hx1]at s1;rw[hx2]at s2;simp only[hFR,hSb,hN',hwh,hpt,hsc]at f1 HK HFin s1 s2 s3 s4 hN hn n1 m1 m2 ⊢;clear x h hg hi ok hsp hFR hSb hN' hwh hpt hF hsc hx1 hx2 hnot;go_enter func45,ntmps45;go_wp2;refine rG (fun v=>v.cell? ⟨FR,1,none⟩=some (.slice (some ⟨Sb,0,none⟩) N sc)/\v.cell? ⟨ib,io+2,none⟩=some (.int .i64 (A:Int))/\v.cell? ⟨ib,io+5,none⟩=some (.int .i64 (n:Int))) fun hHeld=>?_;refine Tf 0 1 2 3 4 5 ?_;refine Tf 6 7 8 9 10 11 ?_;refine AI 12 ?_;clear hHeld;refine Ao 13 fun K hK=>?_;go_simp;(go_at_call 75;refine(HK.out _ (A4 _)).mono ?_;rintro e w1 ⟨u,rfl,hu,hb1⟩;obtain⟨uq,uc,hue⟩:=hu.len;obtain⟨ul,hul⟩:∃ul,pt.length=ul:=⟨_,rfl⟩;rw[hul]at hue;subst hue;have HB1:=bel (A4 _) hb1;have HST:=A9 (HFin.out w1 _ HB1 hu);have z1:=kc HB1 f1;have z2:=kc HB1 q2;have z3:=kc HB1 q5;have z4:=kc HB1 s1;have z5:=kc HB1 s2;have z6:=kf HB1 s1 s3;have z7:=kf HB1 s2 s4;clear hb1 hu hul);try(go_wp2_with fail)
 refine An hK fun hHeld=>?_;clear hK K;refine AI 14 ?_;clear hHeld;refine Ao 15 fun K hK=>?_;go_simp;exact Zcx
def D9(c:Cd)(f:Fr)(r:Nat):Prop:=(A8 c.regs (r:Int)).kind=3->(f.vecs r).length=lenOf c (A8 c.regs (r:Int)).par
theorem DY{rs:List Ty}{l n:Int}{m:Ty}(h:Ac rs l n m=true)(h0:0<rs.length):0<=n/\n<(rs.length:Int):=by
 by_cases hl:l=0
 ·unfold Ac at h;rw[if_pos hl]at h;simp only[beq_iff_eq]at h;omega
 ·exact Ae h hl
theorem B9{rs:List Ty}{l n:Int}{m:Ty}(h:Ac rs l n m=true)(hl:l≠0):B5 l (A8 rs n) m=true:=by
 unfold Ac at h;rw[if_neg hl]at h;simp only[Bool.and_eq_true]at h;exact h.2
theorem Wy{c:Cd}{i:Au}{r:Rw}(h:Bu c i r=true):Bv c i r.n (Aw c.regs i r)=true:=by
 unfold Bu at h;simp only[Bool.and_eq_true]at h;exact h.2.2.2.2
theorem MI{s:Wk}{i:Au}{r:Rw}(h:G3 s i r=true){n:Int}(hn:n∈Al i r):n.toNat∈s.set:=by
 unfold G3 at h;have:=List.all_eq_true.1 h n hn;simpa using this
structure CN(c:Cd)(f:Fr)(i:Au):Prop where
 num:Dl i.op=true->0<=i.d/\i.d<(c.regs.length:Int)/\(i.op≠1->0<=i.a/\i.a<(c.regs.length:Int))/\(i.op=16->0<=i.b/\i.b<(c.regs.length:Int))/\(A8 c.regs i.d).kind=1
 whole:Be i.op=true->0<=i.d/\i.d<(c.regs.length:Int)/\(0<=i.a/\i.a<(c.regs.length:Int))/\(0<=i.b/\i.b<(c.regs.length:Int))/\(0<=i.c/\i.c<(c.regs.length:Int))/\(A8 c.regs i.d).kind=2/\(i.op=2->0<=i.n/\i.n<=2147483647)
 part:i.op=29\/i.op=30->F7 c i.d i.n
 out:i.op=31->F7 c i.a i.n/\(f.vecs i.a.toNat).length=lenOf c (A8 c.regs i.a).par
 load:i.op=32->0<=i.d/\i.d<(c.regs.length:Int)/\0<=i.n/\i.n<(c.slots.length:Int)/\slotT c.slots i.n=A8 c.regs i.d
 store:i.op=33->0<=i.a/\i.a<(c.regs.length:Int)/\0<=i.n/\i.n<(c.slots.length:Int)/\slotT c.slots i.n=A8 c.regs i.a/\D9 c f i.a.toNat
 elem:Bg i.op=true->0<=i.d/\i.d<(c.regs.length:Int)/\(0<=i.a/\i.a<(c.regs.length:Int))/\∀r∈Al i (A6 i.op),0<=r/\r<(c.regs.length:Int)/\D9 c f r.toNat/\(A8 c.regs r=A8 c.regs i.d\/((A8 c.regs r).kind=1/\(A8 c.regs i.d).kind=3))
theorem JS{i:Au}{r:Rw}(h:r.a≠0):i.a∈Al i r:=by unfold Al;simp[h]
theorem Lp{c:Cd}{f:Fr}{s:Wk}{i:Au}(t:AQ c s i=true)(hs:∀r∈s.set,D9 c f r):CN c f i:=by
 obtain⟨_,h2,_,h4⟩:=AY t;have hd:=DV h2;have ha:=D1 h2;have hb:=Fw h2;have hc:=Fx h2;have hn:=Wy h2;have hr:=fun{n:Int} (hn:n∈Al i (A6 i.op))=>hs _ (MI h4 hn);obtain⟨op,D,A,B,Ec,nn,bt⟩:=i;simp only at *;refine⟨fun h=>?_,fun h=>?_,fun h=>?_,fun h=>?_,fun h=>?_,fun h=>?_,fun h=>?_⟩
 ·unfold Dl at h;simp only[Bool.or_eq_true,beq_iff_eq]at h;have hop:op=1\/op=16\/op=17\/op=19\/op=20:=oM;clear h;rcases hop with rfl|rfl|rfl|rfl|rfl
  all_goals
   have d:=Ae hd dE;have dm:=B9 hd dE;have a1:=DY ha oM;have b1:=DY hb oM;exact⟨d.1,d.2,fun _=>a1,fun _=>b1,by simpa[B5,A6]using dm⟩
 ·unfold Be at h;simp only[Bool.or_eq_true,Bool.and_eq_true,beq_iff_eq,decide_eq_true_eq]at h;have hop:op=2\/op=18\/op=21\/op=22\/op=23\/op=24\/op=25\/op=26\/op=27\/op=28:=oM;clear h;rcases hop with rfl|rfl|rfl|rfl|rfl|rfl|rfl|rfl|rfl|rfl
  all_goals
   have d:=Ae hd dE;have dm:=B9 hd dE;have a1:=DY ha oM;have b1:=DY hb oM;have c1:=DY hc oM;refine⟨d.1,d.2,a1,b1,c1,by simpa[B5,A6]using dm,fun e=>?_⟩;simp[Bv,A6,FO,CF]at hn;show 0<=nn/\nn<=2147483647;omega
 ·rcases h with rfl|rfl
  all_goals
   have d:=Ae hd dE;have dm:=B9 hd dE;refine⟨d.1,d.2,by simpa[B5,A6]using dm,?_⟩;simp[Bv,A6,FO,Aw,EY]at hn;first|exact hn.2|(simpa using hn.2)
 ·subst h;have d:=Ae ha dE;have dm:=B9 ha dE;have k3:(A8 c.regs A).kind=3:=by simpa[B5,A6]using dm
  refine⟨⟨d.1,d.2,k3,?_⟩,?_⟩
  ·simp[Bv,A6,FO,Aw,EY]at hn;first|exact hn.2|(simpa using hn.2)
  ·have:=hr (n:=A) (JS (r:=A6 31) dE);have e:((A.toNat:Nat):Int)=A:=oM;unfold D9 at this;rw[e]at this;exact this k3
 ·subst h;have d:=Ae hd dE;simp[Bv,A6,FO,Aw,EY]at hn;have:=C1.1 hn.2.1;exact⟨d.1,d.2,this.1,this.2,hn.2.2⟩
 ·subst h;have d:=Ae ha dE;simp[Bv,A6,FO,Aw,EY]at hn;have:=C1.1 hn.2.1;exact⟨d.1,d.2,this.1,this.2,hn.2.2,hr (n:=A) (JS (r:=A6 33) dE)⟩
 ·unfold Bg at h;simp only[Bool.and_eq_true,decide_eq_true_eq]at h;have hop:op=3\/op=4\/op=5\/op=6\/op=7\/op=8\/op=9\/op=10\/op=11\/op=12\/op=13\/op=14\/op=15:=oM;clear h;rcases hop with rfl|rfl|rfl|rfl|rfl|rfl|rfl|rfl|rfl|rfl|rfl|rfl|rfl
  all_goals
   have d:=Ae hd dE;have a1:=Ae ha dE;refine⟨d.1,d.2,a1,fun r hrr=>⟨?_,?_,hr hrr,?_⟩⟩
   all_goals
    have am:=B9 ha dE;simp[Al,A6]at hrr;first
     |(
      have bm:=B9 hb dE;have b1:=Ae hb dE;have cm:=B9 hc dE;have c1:=Ae hc dE;simp[B5,A6,Aw,EY]at am bm cm
      rcases hrr with rfl|rfl|rfl<;>first|omega|(simpa using am)|(simpa using bm)|(simpa using cm))
     |(
      have bm:=B9 hb dE;have b1:=Ae hb dE;simp[B5,A6,Aw,EY]at am bm
      rcases hrr with rfl|rfl<;>first|omega|(simpa using am)|(simpa using bm))
     |(
      simp[B5,A6,Aw,EY]at am;subst hrr
      first|omega|(simpa using am))
theorem Ok(X:Nat->Int)(n:Nat)(hX:∀i,Ag (X i)):Ag (Dj X n):=Ep I7 ZI hX n
theorem Dc{c:Cd}(hg:Good c){r:Int}(h0:0<=r)(h1:r<(c.regs.length:Int))(h3:(A8 c.regs r).kind=3):1<=lenOf c (A8 c.regs r).par/\Ad c (A8 c.regs r)=lenOf c (A8 c.regs r).par:=by
 obtain⟨r,rfl⟩:∃j:Nat,r=(j:Int):=⟨r.toNat,oM⟩
 have hr:r<c.regs.length:=oM;rw[Bh hr]at h3 ⊢;have hp:=C1.1 (hg.type (List.getElem_mem hr) h3);obtain⟨pp,hpp⟩:∃pp,c.regs[r].par=pp:=⟨_,rfl⟩
 refine⟨?_,by unfold Ad;rw[if_pos h3]⟩;rw[hpp]at hp ⊢;obtain⟨p,rfl⟩:∃j:Nat,pp=(j:Int):=⟨pp.toNat,oM⟩
 obtain⟨_,e2,e3,_⟩:=Ev hg (p:=p) oM;omega
theorem Ua{c:Cd}{f:Fr}(hg:Good c)(ok:EC c f){r:Int}(h0:0<=r)(h1:r<(c.regs.length:Int))(hs:D9 c f r.toNat):Kr c (A8 c.regs r) (BG c f r):=by
 have e:((r.toNat:Nat):Int)=r:=oM;unfold D9 at hs;rw[e]at hs;have hty:(A8 c.regs r).kind=1\/(A8 c.regs r).kind=2\/(A8 c.regs r).kind=3:=by
  obtain⟨r,rfl⟩:∃j:Nat,r=(j:Int):=⟨r.toNat,oM⟩
  have hr:r<c.regs.length:=oM;rw[Bh hr];exact Zff
 unfold BG Kr;rcases hty with h|h|h
 ·rw[if_pos h];refine⟨by unfold Ad;rw[if_neg oM,if_pos h];rfl,fun y hy=>?_,Int.le_refl _,by show(0:Int)<=2147483647;decide⟩;simp at hy;rw[hy];exact ok.nums _
 ·rw[if_neg oM,if_pos h];exact⟨by unfold Ad;rw[if_neg oM,if_neg oM];rfl,fun y hy=>by simp at hy,ok.whs _⟩
 ·rw[if_neg oM,if_neg oM];refine⟨?_,ok.vecs _,Int.le_refl _,by show(0:Int)<=2147483647;decide⟩;rw[(Dc hg h0 h1 h).2];exact hs h
theorem Wc{op:Int}{args:List (List Int)}(h:∀l∈args,∀y∈l,Ag y):∀y∈Bt op args,Ag y:=by
 have hX:∀i j,Ag (xF args i j):=fun i j=>by
  exact Zed
 intro y hy;unfold Bt at hy;split at hy
 ·simp only[List.mem_map]at hy;obtain⟨k,_,rfl⟩:=hy;exact L8 _ _ _ _ (B4 hX _ _ _) (B4 hX _ _ _) (B4 hX _ _ _)
 ·cases hy
theorem Em{c:Cd}{f:Fr}{i:Au}(hg:Good c)(ok:EC c f)(he:Bg i.op=true)(nd:CN c f i)(hk:(A8 c.regs i.d).kind≠2):
 1<=Ad c (A8 c.regs i.d)/\(∀r∈Al i (A6 i.op),0<=r/\r<(c.regs.length:Int)/\((BG c f r).pats.length=1\/(BG c f r).pats.length=Ad c (A8 c.regs i.d))/\∀y∈(BG c f r).pats,Ag y)/\((A8 c.regs i.d).kind=1\/(A8 c.regs i.d).kind=3):=by
 obtain⟨d0,d1,_,hr⟩:=nd.elem he;have hty:(A8 c.regs i.d).kind=1\/(A8 c.regs i.d).kind=3:=by
  obtain⟨r,hrr⟩:∃j:Nat,i.d=(j:Int):=⟨i.d.toNat,oM⟩
  rw[hrr]at hk d1 ⊢;have hr:r<c.regs.length:=oM;rw[Bh hr]at hk ⊢;exact Zff
 refine⟨?_,fun r hm=>?_,hty⟩
 ·rcases hty with h|h
  ·unfold Ad;rw[if_neg oM,if_pos h];exact Nat.le_refl _
  ·rw[(Dc hg d0 d1 h).2];exact(Dc hg d0 d1 h).1
 ·obtain⟨r0,r1,hs,hm2⟩:=hr r hm;have hh:=Ua hg ok r0 r1 hs;refine⟨r0,r1,?_,hh.2.1⟩;rcases hm2 with e|⟨e,_⟩
  ·right;rw[←e];exact hh.1
  ·left;rw[hh.1];unfold Ad;rw[if_neg oM,if_pos e]
theorem EE{c:Cd}{f:Fr}{i:Au}(hg:Good c)(ok:EC c f)(he:Bg i.op=true)(nd:CN c f i)(hk:(A8 c.regs i.d).kind≠2):
 ((Bt i.op (Bf c f i)).length=1\/(Bt i.op (Bf c f i)).length=Ad c (A8 c.regs i.d))/\∀y∈Bt i.op (Bf c f i),Ag y:=by
 obtain⟨h1,h2,_⟩:=Em hg ok he nd hk;have hall:∀l∈Bf c f i,(l.length=1\/l.length=Ad c (A8 c.regs i.d))/\∀y∈l,Ag y:=by
  intro l hl;unfold Bf at hl;simp only[List.mem_map]at hl;obtain⟨r,hr,rfl⟩:=hl;exact(h2 r hr).2.2
 have hne:(Bf c f i).length≠0:=by
  unfold Bf;rw[List.length_map,←(E6 i he).1];exact(E6 i he).2
 obtain⟨n,hn,hn2⟩:=GR (l:=lF (Bf c f i)) h1 ((Bf c f i).length-1) (fun k hk=>by
  unfold lF;rw[DM oM]
  exact(hall _ (List.getElem_mem _)).1)
 exact⟨by rw[(Ku (op:=i.op) hn).1];exact hn2,Wc fun l hl=>(hall l hl).2⟩
theorem Iy{l:List Int}(h:∀y∈l,Ag y):Ag (l.headD 0):=by
 cases l with
 |nil=>exact Gi
 |cons y l=>exact h y sM
theorem Yu{c:Cd}{f:Fr}(ok:EC c f){r:Int}{h:Hd}(hp:∀y∈h.pats,Ag y)(hl:h.pats.length<=4096)(hw:0<=h.whole/\h.whole<=2147483647):EC c (GG c f r h):=by
 unfold GG;split
 ·exact⟨C2 ok.nums (Iy hp),ok.whs,ok.vecs,ok.vecsL,ok.slotsL,ok.slots⟩
 ·split
  ·exact⟨ok.nums,C2 (Q:=fun y:Int=>0<=y/\y<=2147483647) ok.whs hw,ok.vecs,ok.vecsL,ok.slotsL,ok.slots⟩
  ·exact⟨ok.nums,ok.whs,C2 (Q:=fun l:List Int=>∀y∈l,Ag y) ok.vecs hp,C2 (Q:=fun l:List Int=>l.length<=4096) ok.vecsL hl,ok.slotsL,ok.slots⟩
theorem Vu{c:Cd}{f:Fr}{r:Int}(hr:0<=r){h:Hd}(hl:(A8 c.regs r).kind=3->h.pats.length=lenOf c (A8 c.regs r).par){k:Nat}(hk:k≠r.toNat->D9 c f k):D9 c (GG c f r h) k:=by
 intro h3;by_cases e:k=r.toNat
 ·have e2:(k:Int)=r:=oM;rw[e2]at h3 ⊢;unfold GG;rw[if_neg oM,if_neg oM];simp only;rw[e,D3];exact hl h3
 ·have:=hk e h3;unfold GG;split
  ·exact this
  ·split
   ·exact this
   ·simp only;rw[D4 _ _ e];exact this
theorem Ew{op:Int}(h:As op=true):Dl op=true\/Be op=true\/op=29\/op=30\/op=31\/op=32\/op=33\/(34<=op/\op<=37)\/Bg op=true:=by
 unfold As at h;unfold Dl Be Bg;simp only[Bool.and_eq_true,Bool.or_eq_true,decide_eq_true_eq,beq_iff_eq]at h ⊢;omega
theorem T6{op:Int}(h:Bg op=true):Dl op=false/\Be op=false/\op≠29/\op≠30/\op≠31/\op≠32/\op≠33/\¬ (34<=op/\op<=37):=by
 unfold Bg at h;simp only[Bool.and_eq_true,decide_eq_true_eq]at h;exact Zcr
theorem Sr{op:Int}(h:Be op=true):Dl op=false/\op≠29/\op≠30/\op≠31/\op≠32/\op≠33/\¬ (34<=op/\op<=37):=by
 unfold Be at h;simp only[Bool.or_eq_true,Bool.and_eq_true,beq_iff_eq,decide_eq_true_eq]at h;have:op=2\/op=18\/op=21\/op=22\/op=23\/op=24\/op=25\/op=26\/op=27\/op=28:=oM;rcases this with rfl|rfl|rfl|rfl|rfl|rfl|rfl|rfl|rfl|rfl<;>decide
section
variable {c : Cd} {G P : List (List Int)} {f : Fr} {i : Au}
theorem Dr(h:Dl i.op=true):DQ c G P f i={f with nums:=BK f.nums i.d.toNat (Gm f i)}:=by unfold DQ;rw[if_pos h]
theorem Ct(h:Be i.op=true):DQ c G P f i={f with whs:=BK f.whs i.d.toNat (DN f i)}:=by
 unfold DQ;rw[(Sr h).1,if_neg dE,if_pos h]
theorem Eh(h:i.op=29):DQ c G P f i={f with vecs:=BK f.vecs i.d.toNat (AH c G i)}:=by
 unfold DQ;rw[h,if_neg dE,if_neg dE,if_pos rfl]
theorem Ei(h:i.op=30):DQ c G P f i={f with vecs:=BK f.vecs i.d.toNat (AH c P i)}:=by
 unfold DQ;rw[h,if_neg dE,if_neg dE,if_neg dE,if_pos rfl]
theorem Ej(h:i.op=31):DQ c G P f i={f with outs:=Lw f.outs (A8 c.regs i.a).par.toNat (Ah c (A8 c.regs i.a).par) i.n.toNat (f.vecs i.a.toNat)}:=by
 unfold DQ;rw[h,if_neg dE,if_neg dE,if_neg dE,if_neg dE,if_pos rfl]
theorem Ek(h:i.op=32):DQ c G P f i=GG c f i.d ((f.slots[i.n.toNat]?).getD ⟨[],0⟩):=by
 unfold DQ;rw[h,if_neg dE,if_neg dE,if_neg dE,if_neg dE,if_neg dE,if_pos rfl]
theorem El(h:i.op=33):DQ c G P f i={f with slots:=f.slots.set i.n.toNat (BG c f i.a)}:=by
 unfold DQ;rw[h,if_neg dE,if_neg dE,if_neg dE,if_neg dE,if_neg dE,if_neg dE,if_pos rfl]
theorem BP(h:34<=i.op/\i.op<=37):DQ c G P f i=f:=by
 have h0:Dl i.op=false/\Be i.op=false:=by
  have:i.op=34\/i.op=35\/i.op=36\/i.op=37:=oM;rcases this with e|e|e|e<;>rw[e]<;>decide
 unfold DQ;rw[h0.1,h0.2,if_neg dE,if_neg dE,if_neg oM,if_neg oM,if_neg oM,if_neg oM,if_neg oM,if_pos h]
theorem Cp(h:Bg i.op=true):DQ c G P f i=CO c f i:=by
 obtain⟨h1,h2,h3,h4,h5,h6,h7,h8⟩:=T6 h;unfold DQ;rw[h1,h2,if_neg dE,if_neg dE,if_neg h3,if_neg h4,if_neg h5,if_neg h6,if_neg h7,if_neg h8]
end
theorem Xm{f:Fr}{c:Cd}(ok:EC c f){i:Au}(hb:Ag i.bits):Ag (Gm f i):=by
 unfold Gm;refine Bx (Wz _ _ (ok.nums _).1 (ok.nums _).2) (Bx (Te _) (Bx (X6 _ _ (Bw (ok.vecs _))) (Bx (Ok _ _ (Bw (ok.vecs _))) hb)))
theorem Fj(b:Bool):0<=B6 b/\B6 b<=2147483647:=by cases b<;>decide
theorem DD{p:Prop}[Decidable p]{x y:Int}(h:p->0<=x/\x<=2147483647)(k:¬p->0<=y/\y<=2147483647):0<=(if p then x else y)/\(if p then x else y)<=2147483647:=by
 split
 ·rename_i e;exact h e
 ·rename_i e;exact k e
theorem VQ{f:Fr}{c:Cd}(ok:EC c f){i:Au}(hw:Be i.op=true)(hn:i.op=2->0<=i.n/\i.n<=2147483647):0<=DN f i/\DN f i<=2147483647:=by
 have a:=ok.whs i.a.toNat;have b:=ok.whs i.b.toNat;have d:=ok.whs i.c.toNat;unfold Be at hw;simp only[Bool.or_eq_true,Bool.and_eq_true,beq_iff_eq,decide_eq_true_eq]at hw;unfold DN;refine DD (fun _=>Fj _) fun h1=>DD (fun _=>by omega) fun h2=>DD (fun _=>Fj _) fun h3=>DD (fun _=>Fj _) fun h4=>DD (fun _=>Fj _) fun h5=>DD (fun _=>Fj _) fun h6=>DD (fun _=>DD (fun _=>d) fun _=>b) fun h7=>DD (fun _=>by omega) fun h8=>DD (fun _=>DD (fun _=>by decide) fun _=>⟨Int.ediv_nonneg a.1 b.1,?_⟩) fun h9=>hn oM;have:=Int.ediv_le_self (f.whs i.b.toNat) a.1;omega
theorem Yn{c:Cd}{G P:List (List Int)}{f:Fr}{i:Au}(hg:Good c)(ok:EC c f)(hk:As i.op=true)(hb:Ag i.bits)(nd:CN c f i)(fg:Cg c G)(fp:Cg c P):EC c (DQ c G P f i):=by
 have pl:∀L:List (List Int),Cg c L->(∀y∈AH c L i,Ag y)/\(AH c L i).length<=4096:=fun L hL=>by
  refine⟨fun y hy=>?_,by unfold AH;simp only[List.length_map,List.length_range];exact hg.lenOf _⟩;unfold AH at hy;simp only[List.mem_map]at hy;obtain⟨k,_,rfl⟩:=hy;refine CV _ (Bw ?_ _);unfold CA;cases e:L[(A8 c.regs i.d).par.toNat]? with
  |none=>intro y hy;cases hy
  |some l=>exact hL.isP l (List.mem_of_getElem? e)
 rcases Ew hk with h|h|h|h|h|h|h|h|h
 ·rw[Dr h];exact⟨C2 ok.nums (Xm ok hb),ok.whs,ok.vecs,ok.vecsL,ok.slotsL,ok.slots⟩
 ·rw[Ct h];exact⟨ok.nums,C2 (Q:=fun y:Int=>0<=y/\y<=2147483647) ok.whs (VQ ok h (nd.whole h).2.2.2.2.2.2),ok.vecs,ok.vecsL,ok.slotsL,ok.slots⟩
 ·rw[Eh h];exact⟨ok.nums,ok.whs,C2 (Q:=fun l:List Int=>∀y∈l,Ag y) ok.vecs (pl G fg).1,C2 (Q:=fun l:List Int=>l.length<=4096) ok.vecsL (pl G fg).2,ok.slotsL,ok.slots⟩
 ·rw[Ei h];exact⟨ok.nums,ok.whs,C2 (Q:=fun l:List Int=>∀y∈l,Ag y) ok.vecs (pl P fp).1,C2 (Q:=fun l:List Int=>l.length<=4096) ok.vecsL (pl P fp).2,ok.slotsL,ok.slots⟩
 ·rw[Ej h];exact⟨ok.nums,ok.whs,ok.vecs,ok.vecsL,ok.slotsL,ok.slots⟩
 ·rw[Ek h];obtain⟨d0,d1,n0,n1,ht⟩:=nd.load h;have hn:i.n.toNat<c.slots.length:=oM;have hn2:i.n.toNat<f.slots.length:=by rw[ok.slotsL];exact hn
  have hh:=ok.slots i.n.toNat hn hn2;rw[List.getElem?_eq_getElem hn2,Option.getD_some];exact Yu ok hh.2.1 (by rw[hh.1];exact hg.width _) hh.2.2
 ·rw[El h];obtain⟨a0,a1,n0,n1,ht,hs⟩:=nd.store h;have hh:=Ua hg ok a0 a1 hs;refine⟨ok.nums,ok.whs,ok.vecs,ok.vecsL,by simp[ok.slotsL],fun j h1 h2=>?_⟩;simp only[List.getElem_set];split
  ·rename_i e;subst e;have:slotT c.slots i.n=c.slots[i.n.toNat].ty:=by unfold slotT;rw[List.getElem?_eq_getElem h1];rfl
   rw[←this,ht];exact hh
  ·exact ok.slots j h1 (by simpa using h2)
 ·rw[BP h];exact ok
 ·rw[Cp h];obtain⟨d0,d1,a1,_⟩:=nd.elem h;unfold CO;by_cases h2:(A8 c.regs i.d).kind=2
  ·rw[if_pos h2];exact⟨ok.nums,C2 (Q:=fun y:Int=>0<=y/\y<=2147483647) ok.whs (ok.whs _),ok.vecs,ok.vecsL,ok.slotsL,ok.slots⟩
  ·rw[if_neg h2];obtain⟨s1,s2⟩:=EE hg ok h nd h2;have hw:=hg.width (A8 c.regs i.d);refine Yu ok ?_ ?_ ⟨Int.le_refl _,by show(0:Int)<=2147483647;decide⟩
   ·intro y hy;dsimp only at hy;split at hy
    ·unfold BV at hy;rw[List.eq_of_mem_replicate hy];exact CV _ (Iy s2)
    ·exact s2 y hy
   ·dsimp only;split
    ·unfold BV;rw[List.length_replicate];exact hw
    ·omega
theorem SV{c:Cd}{G P:List (List Int)}{f:Fr}{i:Au}(hg:Good c)(ok:EC c f)(hk:As i.op=true)(nd:CN c f i){r:Nat}(hr:((A6 i.op).d=0\/r≠i.d.toNat)->D9 c f r):D9 c (DQ c G P f i) r:=by
 have pl:∀L:List (List Int),(AH c L i).length=lenOf c (A8 c.regs i.d).par:=fun L=>by unfold AH;simp
 have other:∀ (f':Fr),f'.vecs=f.vecs->((A6 i.op).d≠0->(A8 c.regs i.d).kind≠3/\0<=i.d)->D9 c f' r:=fun f' hv hk3 h3=>by
  rw[hv];refine hr ?_ h3;by_cases e:(A6 i.op).d=0
  ·exact .inl e
  ·refine .inr fun e2=>(hk3 e).1 ?_;have:=(hk3 e).2;have e3:(r:Int)=i.d:=oM;rw[e3]at h3;exact h3
 have vec:∀L:List (List Int),0<=i.d->(A6 i.op).d≠0->D9 c {f with vecs:=BK f.vecs i.d.toNat (AH c L i)} r:=fun L h0 hd h3=>by
  by_cases e:r=i.d.toNat
  ·have e3:(r:Int)=i.d:=oM;rw[e3];show(BK f.vecs i.d.toNat (AH c L i) r).length=_;rw[e,D3,pl]
  ·show(BK f.vecs i.d.toNat (AH c L i) r).length=_;rw[D4 _ _ e];exact hr (.inr e) h3
 rcases Ew hk with h|h|h|h|h|h|h|h|h
 ·rw[Dr h];exact other _ rfl fun _=>⟨by rw[(nd.num h).2.2.2.2];decide,(nd.num h).1⟩
 ·rw[Ct h];exact other _ rfl fun _=>⟨by rw[(nd.whole h).2.2.2.2.2.1];decide,(nd.whole h).1⟩
 ·rw[Eh h];exact vec G (nd.part (.inl h)).r0 (by rw[h];decide)
 ·rw[Ei h];exact vec P (nd.part (.inr h)).r0 (by rw[h];decide)
 ·rw[Ej h];exact other _ rfl fun e=>absurd (by rw[h];decide) e
 ·rw[Ek h];obtain⟨d0,d1,n0,n1,ht⟩:=nd.load h;have hn:i.n.toNat<c.slots.length:=oM;have hn2:i.n.toNat<f.slots.length:=by rw[ok.slotsL];exact hn
  have hh:=ok.slots i.n.toNat hn hn2;rw[List.getElem?_eq_getElem hn2,Option.getD_some];refine Vu d0 (fun h3=>?_) fun e=>hr (.inr e);have:slotT c.slots i.n=c.slots[i.n.toNat].ty:=by unfold slotT;rw[List.getElem?_eq_getElem hn];rfl
  rw[hh.1,←this,ht];exact(Dc hg d0 d1 h3).2
 ·rw[El h];exact other _ rfl fun e=>absurd (by rw[h];decide) e
 ·rw[BP h];refine hr (.inl ?_);have:i.op=34\/i.op=35\/i.op=36\/i.op=37:=oM;rcases this with e|e|e|e<;>rw[e]<;>decide
 ·rw[Cp h];obtain⟨d0,d1,a1,_⟩:=nd.elem h;unfold CO;by_cases h2:(A8 c.regs i.d).kind=2
  ·rw[if_pos h2];exact other _ rfl fun _=>⟨by rw[h2];decide,d0⟩
  ·rw[if_neg h2];obtain⟨s1,s2⟩:=EE hg ok h nd h2;refine Vu d0 (fun h3=>?_) fun e=>hr (.inr e);have hw:=(Dc hg d0 d1 h3)
   dsimp only;rw[hw.2]at s1 ⊢;split
   ·unfold BV;rw[List.length_replicate];exact hw.2
   ·omega
def Ks(c:Cd)(s:Wk)(f:Fr)(k:Nat):Prop:=
 (k=0/\∀r∈s.set,D9 c f r)\/(∃pre b rest,s.opens=pre++b::rest/\b.loop=false/\k=(pre.filter fun x=> !x.loop).length+1/\∀r∈s.set.take b.ahead,D9 c f r)
theorem OA:∀ {pre:List Bk} {b:Bk} {rest:List Bk} {n:Nat},Za n (pre++b::rest)->b.ahead<=n/\∀p∈pre,b.ahead<=p.ahead
 |[],b,rest,n,h=>⟨h.1,fun p hp=>by cases hp⟩
 |q::pre,b,rest,n,h=>by
  obtain⟨h1,h2⟩:=OA h.2;refine⟨Nat.le_trans h1 h.1,fun p hp=>?_⟩;rcases List.mem_cons.1 hp with e|e
  ·rw[e];exact h1
  ·exact h2 p e
theorem FZ{s:Wk}{i:Au}{r:Rw}(h:r.d=0):FJ s i r=s:=by unfold FJ;rw[if_neg (fun e=>e.1 h)]
theorem Pc{s:Wk}{i:Au}(h1:i.op≠34)(h2:i.op≠35)(h3:i.op≠36)(h4:i.op≠37):E8 s i=s:=by
 unfold E8;rw[if_neg oM,if_neg oM]
theorem PE{s:Wk}{i:Au}{r:Rw}{x:Nat}(h:x∈(FJ s i r).set):x∈s.set\/(r.d≠0/\x=i.d.toNat):=by
 unfold FJ at h;split at h
 ·rename_i e;rcases List.mem_append.1 h with h|h
  ·exact .inl h
  ·simp at h;exact .inr ⟨e.1,h⟩
 ·exact .inl h
theorem LZ{s:Wk}{i:Au}{r:Rw}{n:Nat}(h:n<=s.set.length):(FJ s i r).set.take n=s.set.take n/\(FJ s i r).opens=s.opens:=by
 unfold FJ;split
 ·exact⟨List.take_append_of_le_length h,rfl⟩
 ·exact⟨rfl,rfl⟩
theorem LM{s:Wk}{i:Au}(h:i.op=34):Aq s i=⟨s.set,⟨false,i.n,s.set.length⟩::s.opens⟩:=by
 unfold Aq Fk;rw[FZ (by rw[h];rfl)];unfold E8;rw[if_pos (.inl h),h];rfl
theorem LP{s:Wk}{i:Au}(h:i.op=36):Aq s i=⟨s.set,⟨true,i.n,s.set.length⟩::s.opens⟩:=by
 unfold Aq Fk;rw[FZ (by rw[h];rfl)];unfold E8;rw[if_pos (.inr h),h];rfl
theorem H6{s:Wk}{i:Au}(h:i.op=35\/i.op=37):Aq s i=AM s:=by
 unfold Aq Fk;rw[FZ Zhf];unfold E8;rw[if_neg oM,if_pos h]
theorem EU{s:Wk}{i:Au}(h1:i.op≠34)(h2:i.op≠35)(h3:i.op≠36)(h4:i.op≠37):Aq s i=FJ s i (A6 i.op):=by
 unfold Aq Fk;rw[Pc h1 h2 h3 h4]
theorem JQ{s:Wk}{r:Nat}(h:r∈(AM s).set):r∈s.set:=by
 unfold AM at h;split at h
 ·dsimp only at h;split at h
  ·exact h
  ·exact List.mem_of_mem_take h
 ·exact h
theorem Lu{c:Cd}{G P:List (List Int)}{s:Wk}{f:Fr}{k:Nat}{i:Au}(hg:Good c)(oks:Dm c.regs.length s)(t:AQ c s i=true)(ok:EC c f)(hb:Ag i.bits)(fg:Cg c G)(fp:Cg c P)(sk:Ks c s f k):
 EC c (Bm c G P (f,k) i).1/\Ks c (Aq s i) (Bm c G P (f,k) i).1 (Bm c G P (f,k) i).2:=by
 obtain⟨hkn,_,hst,_⟩:=AY t;rcases sk with⟨rfl,hs⟩|⟨pre,b,rest,ho,hbl,rfl,hs⟩
 ·have nd:=Lp t hs;have hdo:EC c (DQ c G P f i):=Yn hg ok hkn hb nd fg fp;by_cases h34:i.op=34
  ·rw[LM h34];by_cases hz:f.whs i.a.toNat=0
   ·have e:Bm c G P (f,0) i=(f,1):=by
     unfold Bm;rw[if_neg oM,if_pos ⟨h34,.inr hz⟩]
    rw[e];refine⟨ok,.inr ⟨[],⟨false,i.n,s.set.length⟩,s.opens,rfl,rfl,rfl,fun r hr=>hs r ?_⟩⟩;exact List.mem_of_mem_take hr
   ·have e:Bm c G P (f,0) i=(f,0):=by
     unfold Bm;rw[if_neg oM,if_neg (by simp[hz]),if_pos rfl,BP oM]
    rw[e];exact⟨ok,.inl ⟨rfl,hs⟩⟩
  ·have e:Bm c G P (f,0) i=(DQ c G P f i,0):=by
    unfold Bm;rw[if_neg oM,if_neg oM,if_pos rfl]
   rw[e];refine⟨hdo,.inl ⟨rfl,fun r hr=>?_⟩⟩;by_cases h35:i.op=35\/i.op=37
   ·rw[H6 h35]at hr;rw[BP oM];exact hs r (JQ hr)
   ·by_cases h36:i.op=36
    ·rw[LP h36]at hr;rw[BP oM];exact hs r hr
    ·rw[EU h34 oM h36 oM]at hr;refine SV hg ok hkn nd fun hr2=>?_;rcases PE hr with h|⟨h,h'⟩
     ·exact hs r h
     ·rcases hr2 with q|q
      ·exact absurd q h
      ·exact absurd h' q
 ·obtain⟨hah,hpre⟩:=OA (by have:=oks.opens;rw[ho]at this;exact this);obtain⟨K,hK⟩:∃K,(pre.filter fun x=> !x.loop).length=K:=⟨_,rfl⟩
  rw[hK];by_cases h34:i.op=34
  ·have e:Bm c G P (f,K+1) i=(f,K+2):=by
    unfold Bm;rw[if_neg oM,if_pos ⟨h34,.inl (by show 0<K+1;omega)⟩]
   rw[e,LM h34];refine⟨ok,.inr ⟨⟨false,i.n,s.set.length⟩::pre,b,rest,by rw[ho];rfl,hbl,?_,hs⟩⟩;rw[List.filter_cons_of_pos rfl,List.length_cons,hK]
  ·by_cases h35:i.op=35
   ·have e:Bm c G P (f,K+1) i=(f,K):=by
     unfold Bm;rw[if_pos ⟨by show 0<K+1;omega,h35⟩];rfl
    rw[e,H6 (.inl h35)];refine⟨ok,?_⟩;have hnl:Av s=false:=by
     exact Zfg
    unfold Av at hnl;unfold AM;rw[ho]at hnl ⊢;cases pre with
    |nil=>
     simp only[List.nil_append]at hnl ⊢;simp at hK;refine .inl ⟨hK.symm,fun r hr=>hs r ?_⟩;rw[hbl]at hr;simpa using hr
    |cons p pre=>
     simp only[List.cons_append]at hnl ⊢;have hp:=hpre p sM;refine .inr ⟨pre,b,rest,rfl,hbl,?_,fun r hr=>hs r ?_⟩
     ·rw[List.filter_cons_of_pos (by rw[hnl];rfl),List.length_cons]at hK;omega
     ·rw[hnl]at hr;simp only[Bool.false_eq_true,if_false,List.take_take]at hr;rw[Nat.min_eq_left hp]at hr;exact hr
   ·have e:Bm c G P (f,K+1) i=(f,K+1):=by
     unfold Bm;rw[if_neg oM,if_neg oM,if_neg (by show¬ (K+1=0);omega)]
    rw[e];refine⟨ok,?_⟩;by_cases h36:i.op=36
    ·rw[LP h36];refine .inr ⟨⟨true,i.n,s.set.length⟩::pre,b,rest,by rw[ho];rfl,hbl,?_,hs⟩;rw[List.filter_cons_of_neg sM,hK]
    ·by_cases h37:i.op=37
     ·rw[H6 (.inr h37)];have hnl:Av s=true:=by
       unfold Az at hst;rw[if_neg oM,if_neg oM,if_pos h37]at hst;exact hst
      unfold Av at hnl;unfold AM;rw[ho]at hnl ⊢;cases pre with
      |nil=>
       simp only[List.nil_append]at hnl;rw[hbl]at hnl;cases hnl
      |cons p pre=>
       simp only[List.cons_append]at hnl ⊢;refine .inr ⟨pre,b,rest,rfl,hbl,?_,fun r hr=>hs r ?_⟩
       ·rw[List.filter_cons_of_neg (by rw[hnl];decide)]at hK;omega
       ·rw[hnl]at hr;simpa using hr
     ·rw[EU h34 h35 h36 h37];obtain⟨h1,h2⟩:=LZ (i:=i) (r:=A6 i.op) hah;exact .inr ⟨pre,b,rest,by rw[h2];exact ho,hbl,by rw[hK],fun r hr=>hs r (by rw[h1]at hr;exact hr)⟩
theorem YK{T:Nat->Prop}{E E':Nat}{a:BY}{c:Cd}{G P:List (List Int)}{X:Nat->Value}{M:Nat}{m:Nat->Option Value}{f:Fr}(w:World)(x:FX T E E' a c G P w)(h:FV T E E' a c w X M m f)(hg:Good c)(ok:EC c f)(hM:M<=1000000)(ib io:Nat)(i:Au)(hi:Ea (AB T E E') w ib io i)
 (hk:As i.op=true) (nd:CN c f i) (fg:Cg c G) (fp:Cg c P):
 Calls prog 45 #[.pointer (some ⟨a.FR,0,none⟩),.pointer (some ⟨ib,io,none⟩)] w fun e w'=>e=.returned (.tuple #[])/\Ab T E E' a c G P M (DQ c G P f i) w w':=by
 rcases Ew hk with e|e|e|e|e|e|e|e|e
 ·obtain⟨h1,h2,h3,h4,_⟩:=nd.num e;rw[Dr e];exact YL w x h hg ok ib io i hi e h1 h2 h3 h4
 ·obtain⟨h1,h2,h3,h4,h5,_⟩:=nd.whole e;rw[Ct e];exact SX w x h hg ok ib io i hi e h1 h2 h3 h4 h5
 ·rw[Eh e];exact Wr w x h hg ok hM ib io i hi e fg (nd.part (.inl e))
 ·rw[Ei e];exact SU w x h hg ok hM ib io i hi e fp (nd.part (.inr e))
 ·rw[Ej e];exact YM w x h hg ok hM ib io i hi e (nd.out e).1 (nd.out e).2
 ·obtain⟨h1,h2,h3,h4,h5⟩:=nd.load e;rw[Ek e];refine Ws w x h hg ok hM ib io i hi e h1 h2 h3 h4 fun k1 hh he=>?_;have hn:i.n.toNat<c.slots.length:=oM;have hn2:i.n.toNat<f.slots.length:=by rw[ok.slotsL];exact hn
  have hq:=ok.slots i.n.toNat hn hn2;rw[List.getElem?_eq_getElem hn2]at he;have:slotT c.slots i.n=c.slots[i.n.toNat].ty:=by unfold slotT;rw[List.getElem?_eq_getElem hn];rfl
  rw[←this,h5]at hq;intro e2;have h9:=hq.1;unfold Ad at h9;rw[if_neg oM,if_pos k1]at h9;simp only[Option.some.injEq]at he;rw[he,e2]at h9;cases h9
 ·obtain⟨h1,h2,h3,h4,h5,h6⟩:=nd.store e;rw[El e];exact SW w x h hg ok hM ib io i hi e h1 h2 h3 h4
 ·rw[BP e];exact Wt w x h hg ok hM ib io i hi e
 ·rw[Cp e];obtain⟨h1,h2,h3,_⟩:=nd.elem e;by_cases hk2:(A8 c.regs i.d).kind=2
  ·exact Ps w x h hg ok hM ib io i hi e _ (NU w x h hg ib io i hi h1 h2 h3.1 h3.2 hk2)
  ·obtain⟨h4,h5,_⟩:=Em hg ok e nd hk2;exact Ps w x h hg ok hM ib io i hi e _ (QT w x h hg ok hM ib io i hi e h1 h2 hk2 h4 h5)
end Go.Proofs.YtbinohkcolcbfaaGreat
