import Derived.Test.YtnlgkkbmbijndaaGreatEnco19
import Derived.Test.YtnlgkkbmbijndaaGreatEnco9
import Derived.Test.YtnlgkkbmbijndaaGreatEnco17
import Derived.Test.YtnlgkkbmbijndaaGreatEnco20
import Derived.Deep.DeepCutAuto
import Derived.Test.YtnlgkkbmbijndaaGreatEnco1
namespace Go.Proofs.YtnlgkkbmbijndaaGreat
open Go.RowKit Go.Proofs.Tryz
set_option linter.all false
set_option maxRecDepth 100000
set_option maxHeartbeats 16000000
theorem O7(v0 v1 v2 v3:Value)(c:Cd)(co:Bd c)(hT:Aq c=true)(op D A B E n bt La Lb Lc Ld Le:Int)(a b cc d e:UInt8)
 (HROW:Hid (∀w,Calls prog 48 #[.int .i64 op] w fun x w'=>x=.returned (.tuple #[.string ⟨#[a,b,cc,d,e]⟩,.bool true])/\w'=w))
 (HCAN:Hid (∀w,Calls prog 67 #[.int .u32 bt] w fun e w'=>e=.returned (.bool true)/\Below w.heap.size w w'))
 (ix0:∀w,(Instr.index 9 (.string ⟨#[a,b,cc,d,e]⟩) (.int .i64 0)).run prog w=.ok (.int .u8 La) w)
 (ix1:∀w,(Instr.index 9 (.string ⟨#[a,b,cc,d,e]⟩) (.int .i64 1)).run prog w=.ok (.int .u8 Lb) w)
 (ix2:∀w,(Instr.index 9 (.string ⟨#[a,b,cc,d,e]⟩) (.int .i64 2)).run prog w=.ok (.int .u8 Lc) w)
 (ix3:∀w,(Instr.index 9 (.string ⟨#[a,b,cc,d,e]⟩) (.int .i64 3)).run prog w=.ok (.int .u8 Ld) w)
 (Jh:∀w,(Instr.index 9 (.string ⟨#[a,b,cc,d,e]⟩) (.int .i64 4)).run prog w=.ok (.int .u8 Le) w)
 (oa:Bp La) (ob:Bp Lb) (oc:Bp Lc) (od:Bp Ld) (oT:Le=112->La=118\/(La=45/\Lb=118)) (o1:(op==1)=false) (o2:(op != 1)=true) (o3:(bt==0)=true) (o4:(bt != 0)=false) (hz0:La=45) (oA:Lb=45->Le=45\/Le=113) (oB:Lb≠45->Le=45\/Le=112\/Le=115)
 (w:World) (hv:CN w v0 v1 v2 v3 c):
 Calls prog 68 #[.agg #[v0,v1,v2,v3],.agg #[.int .i64 op,.int .i64 D,.int .i64 A,.int .i64 B,.int .i64 E,.int .i64 n,.int .u32 bt]] w fun e w'=>e=.returned (.bool (Am c.regs La D ⟨0,0⟩&&(Am c.regs Lb A (dR c.regs La D)&&(Am c.regs Lc B (dR c.regs La D)&&(Am c.regs Ld E (dR c.regs La D)&&BV c Le n (tR c.regs La Lb D A))))))/\Below w.heap.size w w':=by
 have KO:∀ (l n:Int) (d:Ty),Bp l->∀v,Below w.heap.size w v->Calls prog 92 #[.agg #[v0,v1,v2,v3],.int .u8 l,.int .i64 n,.agg #[.int .i64 d.kind,.int .i64 d.par]] v fun e w'=>e=.returned (.bool (Am c.regs l n d))/\Below v.heap.size v w':=fun l n d hl v hb=>De v0 v1 v2 v3 c co l n d hl v (hv.below hb);have HT0:Hid (TW w v0 v1 v2 v3 (w.heap.size+1) op D A B E n bt ((w.alloc (.cells #[v0,v1,v2,v3] 27)).alloc (.cells #[.int .i64 op,.int .i64 D,.int .i64 A,.int .i64 B,.int .i64 E,.int .i64 n,.int .u32 bt] 70))):=TW.start w v0 v1 v2 v3 op D A B E n bt;obtain⟨p0,q0,rfl,-⟩:=id hv.sign;obtain⟨p1,q1,rfl,hr1⟩:=id hv.regs;obtain⟨p2,q2,rfl,-⟩:=id hv.slots;have hREG:∀x:Int,Ao x c.regs.length=true->∃ (k lb lo:Nat),x=(k:Int)/\k<c.regs.length/\p1=some ⟨lb,lo,none⟩/\w.cell? ⟨lb,lo+k*2,none⟩=some (.int .i64 (Av c.regs x).kind)/\w.cell? ⟨lb,lo+k*2+1,none⟩=some (.int .i64 (Av c.regs x).par):=by
  exact QA
 have HREG:Hid (∀x:Int,Ao x c.regs.length=true->∃ (k lb lo:Nat),x=(k:Int)/\k<c.regs.length/\p1=some ⟨lb,lo,none⟩/\w.cell? ⟨lb,lo+k*2,none⟩=some (.int .i64 (Av c.regs x).kind)/\w.cell? ⟨lb,lo+k*2+1,none⟩=some (.int .i64 (Av c.regs x).par)):=hREG;have HCV:Hid (CN w (.slice p0 c.sign.length q0) (.slice p1 c.regs.length q1) (.slice p2 c.slots.length q2) v3 c):=hv;have HCO:Hid (Bd c):=co;have hB0:=co.signL;have hB1:=co.regsL;have hB2:=co.slotsL;have hTy:∀x:Int,Ao x c.regs.length=true->DP 118 (Av c.regs x) ⟨0,0⟩=true->Ao (Av c.regs x).par c.sign.length=true:=fun x hx hk=>by
  exact QE
 obtain⟨n0,hn0⟩:=gA (c.sign.length)
 obtain⟨n1,hn1⟩:=gA (c.regs.length)
 obtain⟨n2,hn2⟩:=gA (c.slots.length)
 have HN0:Hid (c.sign.length=n0):=hn0;have HN1:Hid (c.regs.length=n1):=hn1;have HN2:Hid (c.slots.length=n2):=hn2;rw[hn0]at hB0;rw[hn1]at hB1;rw[hn2]at hB2;rw[hn0,hn1,hn2]at HCV KO HT0 |-;clear hREG hv hr1 hn0 hn1 hn2 co;have HTY:Hid (∀x:Int,Ao x c.regs.length=true->DP 118 (Av c.regs x) ⟨0,0⟩=true->Ao (Av c.regs x).par c.sign.length=true):=hTy;clear hTy hT;have hKO0:=fun d=>KO La D d oa;have hKOA:=fun d=>KO Lb A d ob;have hKOB:=fun d=>KO Lc B d oc;have hKOC:=fun d=>KO Ld E d od;clear KO;have hPP0:Le=112->La=118\/(La=45/\Lb=118):=oT;clear oT oc od;obtain⟨RES,hRES⟩:∃R,(Am c.regs La D ⟨0,0⟩&&(Am c.regs Lb A (dR c.regs La D)&&(Am c.regs Lc B (dR c.regs La D)&&(Am c.regs Ld E (dR c.regs La D)&&BV c Le n (tR c.regs La Lb D A)))))=R:=⟨_,rfl⟩
 rw[hRES];subst hz0;by_cases hD:D=0
 .subst hD;rw[CK,show((0:Int)==0)=true from rfl,Bool.true_and,show dR c.regs 45 0=⟨0,0⟩from rfl]at hRES;have hXT:Am c.regs Lb A ⟨0,0⟩=true->Lb≠45->Ao A c.regs.length=true:=fun h hl=>by
   rw[Bg hl]at h;simp only[Bool.and_eq_true]at h;exact h.1
  have hXP:Am c.regs Lb A ⟨0,0⟩=true->Lb=118->DP 118 (Av c.regs A) ⟨0,0⟩=true:=fun h hl=>by
   exact QK
  obtain⟨XA,hXA⟩:∃X,Am c.regs Lb A ⟨0,0⟩=X:=⟨_,rfl⟩
  obtain⟨XB,hXB⟩:∃X,Am c.regs Lc B ⟨0,0⟩=X:=⟨_,rfl⟩
  obtain⟨XC,hXC⟩:∃X,Am c.regs Ld E ⟨0,0⟩=X:=⟨_,rfl⟩
  rw[hXA]at hXT hXP;rw[hXA,hXB,hXC]at hRES;have HKA:Hid _:=hKOA ⟨0,0⟩;have HKB:Hid _:=hKOB ⟨0,0⟩;have HKC:Hid _:=hKOC ⟨0,0⟩;rw[hXA]at HKA;rw[hXB]at HKB;rw[hXC]at HKC;simp only at HKA HKB HKC;have HXT:Hid (XA=true->Lb≠45->Ao A c.regs.length=true):=hXT;have HXP:Hid (XA=true->Lb=118->DP 118 (Av c.regs A) ⟨0,0⟩=true):=hXP;have HRES:Hid ((XA&&(XB&&(XC&&BV c Le n (tR c.regs 45 Lb 0 A))))=RES):=hRES;clear hKO0 hKOA hKOB hKOC hXA hXB hXC hXT hXP hRES;go_enter func68,ntmps68;go_wp2_with(first
   |(go_at_call 48;refine(HROW.out _).mono ?_;rintro e w1 ⟨rfl,rfl⟩)
   |(go_at_call 67;refine(HCAN.out _).mono ?_;rintro e w2 ⟨rfl,hb2⟩;have HT2:Hid (TW w (.slice p0 n0 q0) (.slice p1 n1 q1) (.slice p2 n2 q2) v3 (w.heap.size+1) op 0 A B E n bt (w2.alloc (.cells #[.int .i64 0,.int .i64 0] 62))):=(HT0.next hb2).next (A5 _ _);obtain⟨b1,c0,c1,c2,c3,i0,i1,i2,i3,i4,i5,i6⟩:=HT2.out;have HS2:Hid (w.heap.size+1<w2.heap.size):=Ae (HT0.next hb2).i0;clear hb2))
  have HD:Hid ((w2.alloc (.cells #[.int .i64 0,.int .i64 0] 62)).cell? ⟨w2.heap.size,0,none⟩=some (.int .i64 0)/\(w2.alloc (.cells #[.int .i64 0,.int .i64 0] 62)).cell? ⟨w2.heap.size,1,none⟩=some (.int .i64 0)):=⟨sG,sG⟩
  have HTD:Hid _:=HT2.out;obtain⟨Z,hZ⟩:=gA (w2.heap.size)
  obtain⟨Wd,hWd⟩:∃W,w2.alloc (.cells #[.int .i64 0,.int .i64 0] 62)=W:=⟨_,rfl⟩
  rw[hZ]at HD;rw[hWd]at HD HTD |-;try rw[hZ]
  clear hZ hWd HT2 b1 c0 c1 c2 c3 i0 i1 i2 i3 i4 i5 i6 HT0 HROW HCAN;have HCD:Hid (∀v,Below Wd.heap.size Wd v->v.cell? ⟨w.heap.size,0,none⟩=some (.slice p0 n0 q0)/\v.cell? ⟨w.heap.size,1,none⟩=some (.slice p1 n1 q1)/\v.cell? ⟨w.heap.size,2,none⟩=some (.slice p2 n2 q2)/\v.cell? ⟨w.heap.size,3,none⟩=some v3/\v.cell? ⟨w.heap.size+1,1,none⟩=some (.int .i64 0)/\v.cell? ⟨w.heap.size+1,2,none⟩=some (.int .i64 A)/\v.cell? ⟨w.heap.size+1,3,none⟩=some (.int .i64 B)/\v.cell? ⟨w.heap.size+1,4,none⟩=some (.int .i64 E)/\v.cell? ⟨w.heap.size+1,5,none⟩=some (.int .i64 n)/\v.cell? ⟨Z,0,none⟩=some (.int .i64 0)/\v.cell? ⟨Z,1,none⟩=some (.int .i64 0)):=fun v hb=>⟨kc hb HTD.c0,kc hb HTD.c1,kc hb HTD.c2,kc hb HTD.c3,kc hb HTD.i1,kc hb HTD.i2,kc hb HTD.i3,kc hb HTD.i4,kc hb HTD.i5,kc hb HD.1,kc hb HD.2⟩
  obtain⟨c0,c1,c2,c3,i1,i2,i3,i4,i5,d0,d1⟩:=HCD.out Wd (Ck _);cases XA
  .have HQF:Hid (false=RES):=HRES.out;go_wp2;refine rG (fun v=>v.cell? ⟨w.heap.size,0,none⟩=some (.slice p0 n0 q0)/\v.cell? ⟨w.heap.size,1,none⟩=some (.slice p1 n1 q1)/\v.cell? ⟨w.heap.size,2,none⟩=some (.slice p2 n2 q2)/\v.cell? ⟨w.heap.size,3,none⟩=some v3/\v.cell? ⟨w.heap.size+1,1,none⟩=some (.int .i64 0)/\v.cell? ⟨w.heap.size+1,2,none⟩=some (.int .i64 A)/\v.cell? ⟨w.heap.size+1,3,none⟩=some (.int .i64 B)/\v.cell? ⟨w.heap.size+1,4,none⟩=some (.int .i64 E)/\v.cell? ⟨w.heap.size+1,5,none⟩=some (.int .i64 n)/\v.cell? ⟨Z,0,none⟩=some (.int .i64 0)/\v.cell? ⟨Z,1,none⟩=some (.int .i64 0)) fun hJ=>?_;exact Qv
  cases XB
  .have HQF:Hid (false=RES):=HRES.out;go_wp2;refine rG (fun v=>v.cell? ⟨w.heap.size,0,none⟩=some (.slice p0 n0 q0)/\v.cell? ⟨w.heap.size,1,none⟩=some (.slice p1 n1 q1)/\v.cell? ⟨w.heap.size,2,none⟩=some (.slice p2 n2 q2)/\v.cell? ⟨w.heap.size,3,none⟩=some v3/\v.cell? ⟨w.heap.size+1,1,none⟩=some (.int .i64 0)/\v.cell? ⟨w.heap.size+1,2,none⟩=some (.int .i64 A)/\v.cell? ⟨w.heap.size+1,3,none⟩=some (.int .i64 B)/\v.cell? ⟨w.heap.size+1,4,none⟩=some (.int .i64 E)/\v.cell? ⟨w.heap.size+1,5,none⟩=some (.int .i64 n)/\v.cell? ⟨Z,0,none⟩=some (.int .i64 0)/\v.cell? ⟨Z,1,none⟩=some (.int .i64 0)) fun hJ=>?_;exact Qu
  cases XC
  .have HQF:Hid (false=RES):=HRES.out;go_wp2;refine rG (fun v=>v.cell? ⟨w.heap.size,0,none⟩=some (.slice p0 n0 q0)/\v.cell? ⟨w.heap.size,1,none⟩=some (.slice p1 n1 q1)/\v.cell? ⟨w.heap.size,2,none⟩=some (.slice p2 n2 q2)/\v.cell? ⟨w.heap.size,3,none⟩=some v3/\v.cell? ⟨w.heap.size+1,1,none⟩=some (.int .i64 0)/\v.cell? ⟨w.heap.size+1,2,none⟩=some (.int .i64 A)/\v.cell? ⟨w.heap.size+1,3,none⟩=some (.int .i64 B)/\v.cell? ⟨w.heap.size+1,4,none⟩=some (.int .i64 E)/\v.cell? ⟨w.heap.size+1,5,none⟩=some (.int .i64 n)/\v.cell? ⟨Z,0,none⟩=some (.int .i64 0)/\v.cell? ⟨Z,1,none⟩=some (.int .i64 0)) fun hJ=>?_;exact Qt
  go_wp2;refine rG (fun v=>v.cell? ⟨w.heap.size,0,none⟩=some (.slice p0 n0 q0)/\v.cell? ⟨w.heap.size,1,none⟩=some (.slice p1 n1 q1)/\v.cell? ⟨w.heap.size,2,none⟩=some (.slice p2 n2 q2)/\v.cell? ⟨w.heap.size,3,none⟩=some v3/\v.cell? ⟨w.heap.size+1,1,none⟩=some (.int .i64 0)/\v.cell? ⟨w.heap.size+1,2,none⟩=some (.int .i64 A)/\v.cell? ⟨w.heap.size+1,3,none⟩=some (.int .i64 B)/\v.cell? ⟨w.heap.size+1,4,none⟩=some (.int .i64 E)/\v.cell? ⟨w.heap.size+1,5,none⟩=some (.int .i64 n)/\v.cell? ⟨Z,0,none⟩=some (.int .i64 0)/\v.cell? ⟨Z,1,none⟩=some (.int .i64 0)) fun hJ=>?_;refine wpAnyH_take (i:=0) (v:=?_) A7 kR kR kR A8 (Or.inl ⟨rF,?_⟩) A9 ?_
  rotate_left 1
  ·(intro wS hSw;(try dsimp only at hSw);go_simp;try(with_reducible rfl))
  try simp only[Act.put,List.setIfInBounds_toArray,List.set_cons_zero,List.set_cons_succ]
  refine wpAnyH_take (i:=1) (v:=?_) A7 kR kR kR A8 (Or.inl ⟨rF,?_⟩) A9 ?_
  rotate_left 1
  ·(intro wS hSw;(try dsimp only at hSw);go_simp;try(with_reducible rfl))
  try simp only[Act.put,List.setIfInBounds_toArray,List.set_cons_zero,List.set_cons_succ]
  refine wpAnyH_take (i:=2) (v:=?_) A7 kR kR kR A8 (Or.inl ⟨rF,?_⟩) A9 ?_
  rotate_left 1
  ·(intro wS hSw;(try dsimp only at hSw);go_simp;try(with_reducible rfl))
  try simp only[Act.put,List.setIfInBounds_toArray,List.set_cons_zero,List.set_cons_succ]
  refine wpAnyH_take (i:=3) (v:=?_) A7 kR kR kR A8 (Or.inl ⟨rF,?_⟩) A9 ?_
  rotate_left 1
  ·(intro wS hSw;(try dsimp only at hSw);go_simp;try(with_reducible rfl))
  try simp only[Act.put,List.setIfInBounds_toArray,List.set_cons_zero,List.set_cons_succ]
  refine wpAnyH_take (i:=4) (v:=?_) A7 kR kR kR A8 (Or.inl ⟨rF,?_⟩) A9 ?_
  rotate_left 1
  ·(intro wS hSw;(try dsimp only at hSw);go_simp;try(with_reducible rfl))
  try simp only[Act.put,List.setIfInBounds_toArray,List.set_cons_zero,List.set_cons_succ]
  refine wpAnyH_take (i:=5) (v:=?_) A7 kR kR kR A8 (Or.inl ⟨rF,?_⟩) A9 ?_
  rotate_left 1
  ·(intro wS hSw;(try dsimp only at hSw);go_simp;try(with_reducible rfl))
  try simp only[Act.put,List.setIfInBounds_toArray,List.set_cons_zero,List.set_cons_succ]
  clear hJ;refine AR 6 fun K hK=>?_;go_simp;(go_at_call 92;(with_reducible refine(HKA.out _ (bel HTD.out.bel (Ag _))).mono ?_);rintro e w3 ⟨rfl,hb9⟩;have HB3:Hid (Below Wd.heap.size Wd w3):=bel (Ag _) hb9;clear hb9;obtain⟨c0,c1,c2,c3,i1,i2,i3,i4,i5,d0,d1⟩:=HCD.out w3 HB3.out);try(go_wp2_with fail)
  refine AX hK fun hJ=>?_;clear hK K;refine wpAnyH_take (i:=7) (v:=?_) A7 kR kR kR A8 (Or.inl ⟨rF,?_⟩) A9 ?_
  rotate_left 1
  ·(intro wS hSw;(try dsimp only at hSw);go_simp;try(with_reducible rfl))
  try simp only[Act.put,List.setIfInBounds_toArray,List.set_cons_zero,List.set_cons_succ]
  refine wpAnyH_take (i:=8) (v:=?_) A7 kR kR kR A8 (Or.inl ⟨rF,?_⟩) A9 ?_
  rotate_left 1
  ·(intro wS hSw;(try dsimp only at hSw);go_simp;try(with_reducible rfl))
  try simp only[Act.put,List.setIfInBounds_toArray,List.set_cons_zero,List.set_cons_succ]
  refine wpAnyH_take (i:=9) (v:=?_) A7 kR kR kR A8 (Or.inl ⟨rF,?_⟩) A9 ?_
  rotate_left 1
  ·(intro wS hSw;(try dsimp only at hSw);go_simp;try(with_reducible rfl))
  try simp only[Act.put,List.setIfInBounds_toArray,List.set_cons_zero,List.set_cons_succ]
  refine wpAnyH_take (i:=10) (v:=?_) A7 kR kR kR A8 (Or.inl ⟨rF,?_⟩) A9 ?_
  rotate_left 1
  ·(intro wS hSw;(try dsimp only at hSw);go_simp;try(with_reducible rfl))
  try simp only[Act.put,List.setIfInBounds_toArray,List.set_cons_zero,List.set_cons_succ]
  refine wpAnyH_take (i:=11) (v:=?_) A7 kR kR kR A8 (Or.inl ⟨rF,?_⟩) A9 ?_
  rotate_left 1
  ·(intro wS hSw;(try dsimp only at hSw);go_simp;try(with_reducible rfl))
  try simp only[Act.put,List.setIfInBounds_toArray,List.set_cons_zero,List.set_cons_succ]
  refine wpAnyH_take (i:=12) (v:=?_) A7 kR kR kR A8 (Or.inl ⟨rF,?_⟩) A9 ?_
  rotate_left 1
  ·(intro wS hSw;(try dsimp only at hSw);go_simp;try(with_reducible rfl))
  try simp only[Act.put,List.setIfInBounds_toArray,List.set_cons_zero,List.set_cons_succ]
  refine wpAnyH_take (i:=13) (v:=?_) A7 kR kR kR A8 (Or.inl ⟨rF,?_⟩) A9 ?_
  rotate_left 1
  ·(intro wS hSw;(try dsimp only at hSw);go_simp;try(with_reducible rfl))
  try simp only[Act.put,List.setIfInBounds_toArray,List.set_cons_zero,List.set_cons_succ]
  refine wpAnyH_take (i:=14) (v:=?_) A7 kR kR kR A8 (Or.inl ⟨rF,?_⟩) A9 ?_
  rotate_left 1
  ·(intro wS hSw;(try dsimp only at hSw);go_simp;try(with_reducible rfl))
  try simp only[Act.put,List.setIfInBounds_toArray,List.set_cons_zero,List.set_cons_succ]
  clear hJ;refine AR 15 fun K hK=>?_;go_simp;(go_at_call 92;(with_reducible refine(HKB.out _ (bel HTD.out.bel HB3.out)).mono ?_);rintro e w4 ⟨rfl,hb9⟩;have HB4:Hid (Below Wd.heap.size Wd w4):=bel HB3.out hb9;clear hb9;clear c0 c1 c2 c3 i1 i2 i3 i4 i5 d0 d1;obtain⟨c0,c1,c2,c3,i1,i2,i3,i4,i5,d0,d1⟩:=HCD.out w4 HB4.out);try(go_wp2_with fail)
  refine AX hK fun hJ=>?_;clear hK K;refine wpAnyH_take (i:=16) (v:=?_) A7 kR kR kR A8 (Or.inl ⟨rF,?_⟩) A9 ?_
  rotate_left 1
  ·(intro wS hSw;(try dsimp only at hSw);go_simp;try(with_reducible rfl))
  try simp only[Act.put,List.setIfInBounds_toArray,List.set_cons_zero,List.set_cons_succ]
  refine wpAnyH_take (i:=17) (v:=?_) A7 kR kR kR A8 (Or.inl ⟨rF,?_⟩) A9 ?_
  rotate_left 1
  ·(intro wS hSw;(try dsimp only at hSw);go_simp;try(with_reducible rfl))
  try simp only[Act.put,List.setIfInBounds_toArray,List.set_cons_zero,List.set_cons_succ]
  refine wpAnyH_take (i:=18) (v:=?_) A7 kR kR kR A8 (Or.inl ⟨rF,?_⟩) A9 ?_
  rotate_left 1
  ·(intro wS hSw;(try dsimp only at hSw);go_simp;try(with_reducible rfl))
  try simp only[Act.put,List.setIfInBounds_toArray,List.set_cons_zero,List.set_cons_succ]
  refine wpAnyH_take (i:=19) (v:=?_) A7 kR kR kR A8 (Or.inl ⟨rF,?_⟩) A9 ?_
  rotate_left 1
  ·(intro wS hSw;(try dsimp only at hSw);go_simp;try(with_reducible rfl))
  try simp only[Act.put,List.setIfInBounds_toArray,List.set_cons_zero,List.set_cons_succ]
  refine wpAnyH_take (i:=20) (v:=?_) A7 kR kR kR A8 (Or.inl ⟨rF,?_⟩) A9 ?_
  rotate_left 1
  ·(intro wS hSw;(try dsimp only at hSw);go_simp;try(with_reducible rfl))
  try simp only[Act.put,List.setIfInBounds_toArray,List.set_cons_zero,List.set_cons_succ]
  refine wpAnyH_take (i:=21) (v:=?_) A7 kR kR kR A8 (Or.inl ⟨rF,?_⟩) A9 ?_
  rotate_left 1
  ·(intro wS hSw;(try dsimp only at hSw);go_simp;try(with_reducible rfl))
  try simp only[Act.put,List.setIfInBounds_toArray,List.set_cons_zero,List.set_cons_succ]
  refine wpAnyH_take (i:=22) (v:=?_) A7 kR kR kR A8 (Or.inl ⟨rF,?_⟩) A9 ?_
  rotate_left 1
  ·(intro wS hSw;(try dsimp only at hSw);go_simp;try(with_reducible rfl))
  try simp only[Act.put,List.setIfInBounds_toArray,List.set_cons_zero,List.set_cons_succ]
  refine wpAnyH_take (i:=23) (v:=?_) A7 kR kR kR A8 (Or.inl ⟨rF,?_⟩) A9 ?_
  rotate_left 1
  ·(intro wS hSw;(try dsimp only at hSw);go_simp;try(with_reducible rfl))
  try simp only[Act.put,List.setIfInBounds_toArray,List.set_cons_zero,List.set_cons_succ]
  refine wpAnyH_take (i:=24) (v:=?_) A7 kR kR kR A8 (Or.inl ⟨rF,?_⟩) A9 ?_
  rotate_left 1
  ·(intro wS hSw;(try dsimp only at hSw);go_simp;try(with_reducible rfl))
  try simp only[Act.put,List.setIfInBounds_toArray,List.set_cons_zero,List.set_cons_succ]
  clear hJ;refine AR 25 fun K hK=>?_;go_simp;(go_at_call 92;(with_reducible refine(HKC.out _ (bel HTD.out.bel HB4.out)).mono ?_);rintro e w5 ⟨rfl,hb9⟩;have HB5:Hid (Below Wd.heap.size Wd w5):=bel HB4.out hb9;clear hb9;clear c0 c1 c2 c3 i1 i2 i3 i4 i5 d0 d1;obtain⟨c0,c1,c2,c3,i1,i2,i3,i4,i5,d0,d1⟩:=HCD.out w5 HB5.out);try(go_wp2_with fail)
  refine AX hK fun hJ=>?_;clear hK K;refine wpAnyH_take (i:=26) (v:=?_) A7 kR kR kR A8 (Or.inl ⟨rF,?_⟩) A9 ?_
  rotate_left 1
  ·(intro wS hSw;(try dsimp only at hSw);go_simp;try(with_reducible rfl))
  try simp only[Act.put,List.setIfInBounds_toArray,List.set_cons_zero,List.set_cons_succ]
  refine wpAnyH_take (i:=27) (v:=?_) A7 kR kR kR A8 (Or.inl ⟨rF,?_⟩) A9 ?_
  rotate_left 1
  ·(intro wS hSw;(try dsimp only at hSw);go_simp;try(with_reducible rfl))
  try simp only[Act.put,List.setIfInBounds_toArray,List.set_cons_zero,List.set_cons_succ]
  refine wpAnyH_done kR ?_ _;clear c0 c1 c2 c3 i1 i2 i3 i4 i5 d0 d1;have HT5:Hid (TW w (.slice p0 n0 q0) (.slice p1 n1 q1) (.slice p2 n2 q2) v3 (w.heap.size+1) op 0 A B E n bt w5):=HTD.next HB5.out;obtain⟨hb5,c0,c1,c2,c3,i0,i1,i2,i3,i4,i5,i6⟩:=HT5.out;obtain⟨-,-,-,-,-,-,-,-,-,d0,d1⟩:=HCD.out w5 HB5.out;have hs5:w5.heap.size≠w.heap.size+1/\w.heap.size<w5.heap.size:=⟨fun e=>by have:=Ae i0;simp only at this;omega,by have:=Ae c0;simp only at this;omega⟩
  have HAL:Hid (TW w (.slice p0 n0 q0) (.slice p1 n1 q1) (.slice p2 n2 q2) v3 (w.heap.size+1) op 0 A B E n bt (w5.alloc (.cells #[.int .i64 0,.int .i64 0] 62))):=HT5.next (A5 _ _);by_cases hlb:Lb=45
  .have oe:=oA hlb;subst hlb;have HRT:Hid (BV c Le n ⟨0,0⟩=RES):=HRES.out;clear c0 c1 c2 c3 i0 i1 i2 i3 i4 i5 i6;have t0:(w5.alloc (.cells #[.int .i64 0,.int .i64 0] 62)).cell? ⟨w5.heap.size,0,none⟩=some (.int .i64 0):=sG;have t1:(w5.alloc (.cells #[.int .i64 0,.int .i64 0] 62)).cell? ⟨w5.heap.size,1,none⟩=some (.int .i64 0):=sG;obtain⟨hbx,c0,c1,c2,c3,i0,i1,i2,i3,i4,i5,i6⟩:=HAL.out;clear d0 d1 hPP0 HXT HXP HRES oA oB;have hbt:=hbx;rcases oe with rfl|rfl
   .exact Q7
   .have HQ:Hid (Ao n c.sign.length=RES):=HRT.out;have hN0:=HN0.out;by_cases hn0:0<=n
    all_goals
     go_wp2;go_ret;refine⟨Ab ?_,hbt⟩;rw[<-HQ.out];unfold Ao;rw[hN0];first|(simp[hn0];done)|(simp[hn0];omega)|(simp[hn0];intro h;omega)
  .have oe:=oB hlb;have hlb1:(Lb==45)=false:=by simpa using hlb
   have hlb2:(Lb != 45)=true:=by simpa using hlb
   obtain⟨ka,lb,lo,rfl,hka,rfl,ya0,ya1⟩:=HREG.out A (HXT.out fT hlb);have HRT0:Hid (BV c Le n (Av c.regs (ka:Int))=RES):=by
    have h1:=HRES.out;have h2:tR c.regs 45 Lb 0 (ka:Int)=Av c.regs (ka:Int):=if_pos ⟨rfl,hlb⟩;rw[h2]at h1;exact h1
   have HPP0:Hid (Le=112->Ao (Av c.regs (ka:Int)).par c.sign.length=true):=fun e=>by
    rcases hPP0 e with h|⟨-,h⟩
    .exact absurd h dE
    .exact HTY.out _ (HXT.out fT hlb) (HXP.out fT h)
   obtain⟨⟨tk,tp⟩,htt⟩:∃t:Ty,Av c.regs (ka:Int)=t:=⟨_,rfl⟩
   rw[htt]at HRT0 HPP0 ya0 ya1;have HRT:Hid (BV c Le n ⟨tk,tp⟩=RES):=HRT0.out;have HPP:Hid (Le=112->Ao tp c.sign.length=true):=HPP0.out;have ka0:(0:Int)<=(ka:Int):=oM;have ka1:(ka:Int)<(n1:Int):=by have:=HN1.out;omega
   clear c0 c1 c2 c3 i0 i1 i2 i3 i4 i5 i6;have hq5:=fun o=>HT5.next (A5 w5 o);have c0:=fun o=>(hq5 o).c0;have c1:=fun o=>(hq5 o).c1;have c2:=fun o=>(hq5 o).c2;have c3:=fun o=>(hq5 o).c3;have i2:=fun o=>(hq5 o).i2;have i5:=fun o=>(hq5 o).i5;have xa0:=fun o=>kc (hq5 o).bel ya0;have xa1:=fun o=>kc (hq5 o).bel ya1;have hbx:=(hq5 (.cells #[.int .i64 tk,.int .i64 tp] 62)).bel;have t0:(w5.alloc (.cells #[.int .i64 tk,.int .i64 tp] 62)).cell? ⟨w5.heap.size,0,none⟩=some (.int .i64 tk):=sG;have t1:(w5.alloc (.cells #[.int .i64 tk,.int .i64 tp] 62)).cell? ⟨w5.heap.size,1,none⟩=some (.int .i64 tp):=sG;clear d0 d1 hPP0 HXT HXP HRES oA oB hq5;have hbt:=hbx;rcases oe with rfl|rfl|rfl
   .exact Q7
   .have HQ:Hid ((n==0||(n==1&&CA c.sign tp==2))=RES):=HRT.out;have HPA:Hid (∀v,Below w.heap.size w v->Calls prog 93 #[.agg #[.slice p0 n0 q0,.slice (some ⟨lb,lo,none⟩) n1 q1,.slice p2 n2 q2,v3],.int .i64 n,.int .i64 tp] v fun e w'=>e=.returned (.bool RES)/\Below v.heap.size v w'):=fun v hb=>by rw[<-HQ.out];exact Gh _ _ _ _ c HCO.out n tp (fun _=>HPP.out rfl) v (HCV.below hb)
    exact RC
   .have HQ:Hid ((Ao n c.slots.length&&decide (DB c.slots n=⟨tk,tp⟩))=RES):=HRT.out;cases hpl:Ao n c.slots.length
    .exact QW
    .obtain⟨k,rfl,hkl⟩:=Cq hpl;obtain⟨lb9,lo9,ep,hc9⟩:=B4.at (p:=p2) (n:=n2) (c:=q2) HCV.slots hkl;subst ep;have e9:DB c.slots (k:Int)=c.slots[k].ty:=by unfold DB;rw[Int.toNat_natCast,gB hkl];rfl
     have hq9:=HQ.out;rw[hpl,Bool.true_and,e9]at hq9;obtain⟨⟨⟨sk,sp⟩,sQ,sB,sI⟩,ht9⟩:∃t:Sl,c.slots[k]=t:=⟨_,rfl⟩
     rw[ht9]at hc9 hq9;have HQ9:Hid (decide ((⟨sk,sp⟩:Ty)=⟨tk,tp⟩)=RES):=hq9;have y0:w.cell? ⟨lb9,lo9+k*5,none⟩=some (.int .i64 sk):=hc9.at 0 rfl;have y1:w.cell? ⟨lb9,lo9+k*5+1,none⟩=some (.int .i64 sp):=hc9.at 1 rfl;have x0:=kc hbt y0;have x1:=kc hbt y1;have k0:(0:Int)<=(k:Int):=oM;have k1:(k:Int)<(n2:Int):=by have:=HN2.out;omega
     clear hc9 ht9 e9 hpl hq9 HQ;by_cases hks:sk=tk
     .obtain rfl:=hks;by_cases hps:sp=tp
      .exact QY
      .go_wp2;refine rG (fun v=>v.cell? ⟨w.heap.size,2,none⟩=some (.slice (some ⟨lb9,lo9,none⟩) n2 q2)/\v.cell? ⟨w.heap.size+1,5,none⟩=some (.int .i64 (k:Int))/\v.cell? ⟨lb9,lo9+k*5,none⟩=some (.int .i64 sk)/\v.cell? ⟨lb9,lo9+k*5+1,none⟩=some (.int .i64 sp)/\v.cell? ⟨w5.heap.size,0,none⟩=some (.int .i64 sk)/\v.cell? ⟨w5.heap.size,1,none⟩=some (.int .i64 tp)) fun hJ=>?_;exact QZ
     .go_wp2;refine rG (fun v=>v.cell? ⟨w.heap.size,2,none⟩=some (.slice (some ⟨lb9,lo9,none⟩) n2 q2)/\v.cell? ⟨w.heap.size+1,5,none⟩=some (.int .i64 (k:Int))/\v.cell? ⟨lb9,lo9+k*5,none⟩=some (.int .i64 sk)/\v.cell? ⟨lb9,lo9+k*5+1,none⟩=some (.int .i64 sp)/\v.cell? ⟨w5.heap.size,0,none⟩=some (.int .i64 tk)/\v.cell? ⟨w5.heap.size,1,none⟩=some (.int .i64 tp)) fun hJ=>?_;exact R4
 .rw[CK,show(D==0)=false by simpa using hD,Bool.false_and]at hRES;have hD1:(D==0)=false:=by simpa using hD
  have hD2:(D != 0)=true:=by simpa using hD
  have HRF:Hid (false=RES):=hRES;clear hRES;go_enter func68,ntmps68;go_wp2_with(first
   |(go_at_call 48;refine(HROW.out _).mono ?_;rintro e w1 ⟨rfl,rfl⟩)
   |(go_at_call 67;refine(HCAN.out _).mono ?_;rintro e w2 ⟨rfl,hb2⟩;have HT2:Hid (TW w (.slice p0 n0 q0) (.slice p1 n1 q1) (.slice p2 n2 q2) v3 (w.heap.size+1) op D A B E n bt (w2.alloc (.cells #[.int .i64 0,.int .i64 0] 62))):=(HT0.next hb2).next (A5 _ _);obtain⟨b1,c0,c1,c2,c3,i0,i1,i2,i3,i4,i5,i6⟩:=HT2.out;have HS2:Hid (w.heap.size+1<w2.heap.size):=Ae (HT0.next hb2).i0;clear hb2))
  go_ret;exact⟨Ab HRF.out,HT2.bel⟩
theorem Hk:∀x:Be,∀u∈Au x,u.oneCell'=true:=fun x u hu=>by simp[Au]at hu;rcases hu with rfl|rfl|rfl<;>rfl
theorem JX:∀x:Ty,∀u∈Ey x,u.oneCell'=true:=fun x u hu=>by simp[Ey]at hu;rcases hu with rfl|rfl<;>rfl
theorem JV:∀x:Sl,∀u∈F8 x,u.oneCell'=true:=fun x u hu=>by simp[F8]at hu;rcases hu with rfl|rfl|rfl|rfl|rfl<;>rfl
theorem Gb:(prog.info? 62).map (fun i=>(i.zero,i.size,i.bytes))=some (some (.agg #[.int .i64 0,.int .i64 0]),2,16):=kR
theorem Ga:(prog.info? 66).map (fun i=>(i.zero,i.size,i.bytes))=some (some (.agg #[.int .i64 0,.int .i64 0,.bool false,.int .u32 0,.int .i64 0]),5,32):=kR
theorem Np{l:List Be}{v:Value}{w:World}(h:B4 3 Au w v l)(hl:l.length*32<=140737488355328)(ty:TypeId):
 ∃v' w',(Builtin.append_ #[22,22] ty #[.slice none 0 0,v]).run prog w=.ok v' w'/\Below w.heap.size w w'/\w'.ownsRow w.heap.size 59 3 v' l.length (AU Au l):=by
 obtain⟨i0,hi0,hz0,hz1,hz2⟩:=info_parts Fq;exact E7 dE Ek Hk underlying22 hi0 hz0 hz1 hz2 rfl h mL hl ty
theorem ON{l:List Ty}{v:Value}{w:World}(h:B4 2 Ey w v l)(hl:l.length*16<=140737488355328)(ty:TypeId):
 ∃v' w',(Builtin.append_ #[23,23] ty #[.slice none 0 0,v]).run prog w=.ok v' w'/\Below w.heap.size w w'/\w'.ownsRow w.heap.size 62 2 v' l.length (AU Ey l):=by
 obtain⟨i0,hi0,hz0,hz1,hz2⟩:=info_parts Gb;exact E7 dE Fa JX underlying23 hi0 hz0 hz1 hz2 rfl h mL hl ty
theorem OM{l:List Sl}{v:Value}{w:World}(h:B4 5 F8 w v l)(hl:l.length*32<=140737488355328)(ty:TypeId):
 ∃v' w',(Builtin.append_ #[24,24] ty #[.slice none 0 0,v]).run prog w=.ok v' w'/\Below w.heap.size w w'/\w'.ownsRow w.heap.size 66 5 v' l.length (AU F8 l):=by
 obtain⟨i0,hi0,hz0,hz1,hz2⟩:=info_parts Ga;exact E7 dE F9 JV underlying24 hi0 hz0 hz1 hz2 rfl h mL hl ty
def f4(a b c d:Value)(j:Nat):Value:=if j=0 then a else if j=1 then b else if j=2 then c else d
structure CW(w:World)(v0 v1 v2 v3 x0 x1 x2 x3:Value)(v:World):Prop where
 bel:Below w.heap.size w v
 c:Aj v w.heap.size 0 [v0,v1,v2,v3]
 r:v.rowIs (w.heap.size+1) 27 4 (f4 (.slice none 0 0) (.slice none 0 0) (.slice none 0 0) (.slice none 0 0))
 d:v.rowIs (w.heap.size+1+1) 27 4 (f4 x0 x1 x2 x3)
theorem CW.app{w:World}{v0 v1 v2 v3 x0 x1 x2 x3:Value}{v v':World}(h:CW w v0 v1 v2 v3 x0 x1 x2 x3 v)(k:Below v.heap.size v v'):CW w v0 v1 v2 v3 x0 x1 x2 x3 v':=
 ⟨Go.Proofs.YtnlgkkbmbijndaaGreat.bel h.bel k,h.c.below k,h.r.of_block (k.block _ h.r.lt),h.d.of_block (k.block _ h.d.lt)⟩
theorem CW.put{w:World}{v0 v1 v2 v3 x0 x1 x2 x3 y0 y1 y2 y3:Value}{v:World}(h:CW w v0 v1 v2 v3 x0 x1 x2 x3 v)(i:Nat)(x:Value)(e:∀j,j<4->(if j=i then x else f4 x0 x1 x2 x3 j)=f4 y0 y1 y2 y3 j):CW w v0 v1 v2 v3 y0 y1 y2 y3 (v.setCell ⟨w.heap.size+1+1,i,none⟩ x):=by
 have nb:∀b,b≠w.heap.size+1+1->(v.setCell ⟨w.heap.size+1+1,i,none⟩ x).heap[b]? =v.heap[b]? :=fun b hb=>gE hb;exact⟨h.bel.setCell (by show w.heap.size<=w.heap.size+1+1;omega) _,h.c.of_block (nb _ oM),h.r.of_block (nb _ oM),(h.d.set i x).congr e⟩
theorem CW.start(w:World)(v0 v1 v2 v3:Value):CW w v0 v1 v2 v3 (.slice none 0 0) (.slice none 0 0) (.slice none 0 0) (.slice none 0 0) (((w.alloc (.cells #[v0,v1,v2,v3] 27)).alloc (.cells #[.slice none 0 0,.slice none 0 0,.slice none 0 0,.slice none 0 0] 27)).alloc (.cells #[.slice none 0 0,.slice none 0 0,.slice none 0 0,.slice none 0 0] 27)):=by
 have q:∀u:World,(u.alloc (.cells #[.slice none 0 0,.slice none 0 0,.slice none 0 0,.slice none 0 0] 27)).rowIs u.heap.size 27 4 (f4 (.slice none 0 0) (.slice none 0 0) (.slice none 0 0) (.slice none 0 0)):=fun u=>World.rowIs_alloc u #[.slice none 0 0,.slice none 0 0,.slice none 0 0,.slice none 0 0] 27 _ (fun i hi=>by
  have hi':i<4:=hi;obtain rfl|rfl|rfl|rfl:i=0\/i=1\/i=2\/i=3:=oM
  all_goals rfl)
 have h1:=q (w.alloc (.cells #[v0,v1,v2,v3] 27));have h2:=q ((w.alloc (.cells #[v0,v1,v2,v3] 27)).alloc (.cells #[.slice none 0 0,.slice none 0 0,.slice none 0 0,.slice none 0 0] 27));have s1:(w.alloc (.cells #[v0,v1,v2,v3] 27)).heap.size=w.heap.size+1:=sM;have s2:((w.alloc (.cells #[v0,v1,v2,v3] 27)).alloc (.cells #[.slice none 0 0,.slice none 0 0,.slice none 0 0,.slice none 0 0] 27)).heap.size=w.heap.size+1+1:=sM;rw[s1]at h1;rw[s2]at h2;refine⟨Go.Proofs.YtnlgkkbmbijndaaGreat.bel (Go.Proofs.YtnlgkkbmbijndaaGreat.bel (A5 _ _) (A5 _ _)) (A5 _ _),fun j hj=>?_,h1.alloc _,h2⟩;have hj':j<4:=hj;obtain rfl|rfl|rfl|rfl:j=0\/j=1\/j=2\/j=3:=oM
 all_goals simp[go_sem]
def Up(E:Nat)(v v':World):Prop:=v.heap.size<=v'.heap.size/\∀b,E<=b->b<v.heap.size->v'.heap[b]? =v.heap[b]?
theorem Up.of{E:Nat}{v v':World}(k:Below v.heap.size v v'):Up E v v':=⟨k.size,fun b _ hb=>k.block b hb⟩
theorem Up.set{E:Nat}(v:World){D:Nat}(hD:D<E)(i:Nat)(x:Value):Up E v (v.setCell ⟨D,i,none⟩ x):=⟨sM,fun b hb _=>gE (by show b≠D;omega)⟩
theorem Up.trans{E:Nat}{a b c:World}(h:Up E a b)(k:Up E b c):Up E a c:=⟨gH h.1 k.1,fun x hx hl=>(k.2 x hx (Nat.lt_of_lt_of_le hl h.1)).trans (h.2 x hx hl)⟩
theorem Up.own{E B:Nat}{v v':World}{t:TypeId}{k n:Nat}{u:Value}{xs:List Value}(h:Up E v v')(ho:v.ownsRow B t k u n xs)(hB:E<=B):v'.ownsRow B t k u n xs:=As ho fun g hg=>h.2 g (gH hB (ho.lt g hg).1) (ho.lt g hg).2
structure Fb(B:Nat)(w:World)(u0 u1 u2 u3:Value)(c:Cd):Prop where
 sign:w.ownsRow B 59 3 u0 c.sign.length (AU Au c.sign)
 regs:w.ownsRow B 62 2 u1 c.regs.length (AU Ey c.regs)
 slots:w.ownsRow B 66 5 u2 c.slots.length (AU F8 c.slots)
 list:w.ownsRow B 70 7 u3 c.list.length (AU BR c.list)
structure Pt(c:Cd):Prop where
 s:c.sign.length*32<=140737488351232
 r:c.regs.length*16<=140737488351232
 l:c.slots.length*32<=140737488351232
 i:c.list.length*56<=140737488351232

def Ew{α:Type}(E RB:Nat)(s:ByteArray)(w:World)(t:TypeId)(k:Nat)(f:α->List Value)(q:Except (Int×Nat) (List α×List Nat×Nat))(e:Ending)(w':World):Prop:=
 match q with
 | .error (er,at_)=>e=AY er at_/\Below E w w'/\AZ RB w w'
 | .ok (xs,l',A')=>∃v,e=.returned v/\w'.ownsRow w.heap.size t k v xs.length (AU f xs)/\Below E w w'/\AZ RB w w'/\Bq E RB s A' w'/\A'<=s.size/\l'=(Aa s).drop A'
theorem CM{most:Nat}{l l':List Nat}{p n p':Nat}(h:Bh most l p=.ok (n,l',p')):n<=most:=by
 unfold Bh at h;split at h
 .cases h
 .split at h
  .cases h
  .simp only[Except.ok.injEq,Prod.mk.injEq]at h;omega
theorem IM(E RB:Nat)(s:ByteArray)(A:Nat)(w:World)(h:Bq E RB s A w)(hA:A<=s.size)(hs:s.size<=140737488355328)(hE:E<=w.heap.size):
 Calls prog 52 #[.pointer (some ⟨RB,0,none⟩),.int .i64 16384,.func (.func 53) #[.pointer (some ⟨RB,0,none⟩)] #[]] w (Ew E RB s w 62 2 Ey (Bx 16384 Hj ((Aa s).drop A) A)):=by
 have KN:Calls prog 84 #[.pointer (some ⟨RB,0,none⟩),.int .i64 16384] w (AV E RB s w (fun(b:Nat)=>.int .i64 (b:Int)) (Bh 16384 ((Aa s).drop A) A)):=CH E RB s A 16384 w h hA hs hE;have hRB:RB<w.heap.size:=h.b.lt;cases hq:Bh 16384 ((Aa s).drop A) A with
 |error er=>
  obtain⟨er,at_⟩:=er;have HP:Hid (Bx 16384 Hj ((Aa s).drop A) A=.error (er,at_)):=by show Bx _ _ _ _=_;unfold Bx;exact Ah hq
  rw[HP.out];rw[hq]at KN;have KN':=A6 KN;unfold AV AY at KN';unfold Ew AY;simp only at KN' |-;clear h KN hq HP hRB;go_enter func52,ntmps52;exact Q3
 |ok r=>
  obtain⟨N,l1,A1⟩:=r;have hN:=CM hq;rw[hq]at KN;have KN':=A6 KN;unfold AV at KN';simp only at KN';have HST:Hid (l1=(Aa s).drop A1->Bx 16384 Hj ((Aa s).drop A) A=Cp Hj (N-0) [] ((Aa s).drop A1) A1):=fun e=>by
   exact Qd
  obtain⟨R,hR⟩:=gA (Bx 16384 Hj ((Aa s).drop A) A)
  rw[hR]at HST |-;have HRB:=A6 hRB;have HE:=A6 hE;have HS:=A6 hs;clear h KN hq hR hRB hA hs hE;go_enter func52,ntmps52;go_upto_block 0 with(go_at_call 84;(with_reducible refine KN'.out.mono ?_);rintro e9 w4 ⟨rfl,hb4,ho4,hm4,hl4,hd4⟩;have HJ0:=A6 (And.intro hb4 (And.intro ho4 (And.intro hm4 (And.intro hl4 hd4))));clear hb4 ho4 hm4 hl4 hd4)
  go_wp2_with fail
  go_loopw [7,11] (fun lv iv wx=>∃ (k A':Nat) (xs:List Ty) (p:Option Addr) (q:Nat),k<=N/\iv=.int .i64 (k:Int)/\lv=.slice p k q/\Hid (xs.length=k/\Below E w wx/\AZ RB w wx/\Bq E RB s A' wx/\A'<=s.size/\wx.ownsRow w.heap.size 62 2 (.slice p k q) k (AU Ey xs)/\R=Cp Hj (N-k) xs ((Aa s).drop A') A')) (fun _ iv _=>N-(intOf iv).toNat)
  case atStart=>
   obtain⟨j1,j2,j3,j4,j5⟩:=HJ0.out;exact⟨0,A1,[],none,0,gI _,rfl,rfl,rfl,j1,j2,j3,j4,World.ownsRow_nil _ _ _ 2,HST.out j5⟩
  case round=>
   clear HJ0 HST KN';obtain⟨k,A',xs,p,q,hk,rfl,rfl,HJ⟩:=hrel;by_cases hlt:k<N
   .obtain⟨j1,j2,j3,j4,j5,j6,j7⟩:=HJ.out;have e1:(k:Int)<(N:Int):=oM;have hEr:E<=wr.heap.size:=gH HE.out j3.1;have KX:=Gl E RB s A' wr j4 j5 HS.out hEr;rw[show N-k=(N-(k+1))+1 by omega,CV]at j7;cases hq2:Hj ((Aa s).drop A') A' with
    |error er=>
     obtain⟨er,at_⟩:=er;rw[Ah hq2]at j7;rw[hq2]at KX;have KX':=A6 KX;unfold AV AY at KX';simp only at KX';have HG:Hid (∀w',Below E wr w'->AZ RB wr w'->Ew E RB s w 62 2 Ey R (AY er at_) w'):=fun w' a b=>by rw[j7];exact⟨rfl,j2.trans a,j3.trans b⟩
     unfold AY at HG;clear j1 j2 j3 j4 j5 j6 j7 hq2 KX HJ hEr hlt;go_wp2_with(go_at_call 53;(with_reducible refine KX'.out.mono ?_);rintro e9 w5 ⟨rfl,hb5,ho5⟩;have HR5:=A6 (HG.out _ hb5 ho5);clear hb5 ho5);exact⟨rfl,HR5.out⟩
    |ok r=>
     obtain⟨x,l2,A2⟩:=r;rw[Ap hq2]at j7;rw[hq2]at KX;have KX':=A6 KX;unfold AV at KX';simp only[Ci]at KX';have HAP:Hid (∀w5,AZ RB wr w5->∃g c' w6,(Builtin.append_ #[23,23] 23 #[.slice p k q,.slice (some ⟨w5.heap.size,0,none⟩) 1 1]).run prog (w5.alloc (.cells #[.int .i64 (x.kind),.int .i64 (x.par)] 62))=.ok (.slice (some ⟨g,0,none⟩) (k+1) c') w6/\Below w.heap.size w5 w6/\w6.ownsRow w.heap.size 62 2 (.slice (some ⟨g,0,none⟩) (k+1) c') (k+1) (AU Ey (xs++[x]))):=fun w5 ho=>by
      have hown:w5.ownsRow w.heap.size 62 2 (.slice p k q) k (AU Ey xs):=As j6 fun b hb=>ho.2 b (j6.lt b hb).2 (fun e=>by have:=(j6.lt b hb).1;have:=HRB.out;omega);obtain⟨g,c',w6,a1,a2,a3,-⟩:=CL underlying23 Gb rfl dE hown (gH j3.1 ho.1) #[.int .i64 (x.kind),.int .i64 (x.par)] rfl (fun u hu=>JX x u hu) mL oM 23;exact Qe
     have HG:Hid (∀w5 w6,Below E wr w5->AZ RB wr w5->Bq E RB s A2 w5->Below w.heap.size w5 w6->Below E w w6/\AZ RB w w6/\Bq E RB s A2 w6):=fun w5 w6 a b c d=>
      ⟨(j2.trans a).trans (d.mono HE.out),⟨gH (j3.trans b).1 d.size,fun i hi hne=>(d.block i hi).trans ((j3.trans b).2 i hi hne)⟩,⟨c.b.of_block (d.block _ HRB.out),c.ge⟩⟩
     have HXL:Hid ((xs++[x]).length=k+1):=by show _=_;rw[List.length_append,j1];rfl
     have H7:=A6 j7;have wi:IntKind.i64.wrap ((k:Int)+1)=((k+1:Nat):Int):=by rw[IntKind.wrap_i64];omega
     clear j1 j2 j3 j4 j5 j6 j7 hq2 KX HJ hEr;go_wp2_with(first|(go_at_call 53;(with_reducible refine KX'.out.mono ?_);rintro e9 w5 ⟨rfl,hb5,ho5,hm5,hl5,hd5⟩;obtain⟨g,c',w6,hrun,hb6,ho6⟩:=HAP.out w5 ho5;have HRUN:=A6 hrun;have HO6:=A6 ho6;have HQ:=A6 (HG.out w5 w6 hb5 ho5 hm5 hb6);have HL5:=A6 hl5;have HD5:=A6 hd5;clear hb5 ho5 hm5 hl5 hd5 hrun hb6 ho6)|(at_builtin;refine AF rF _ _ _ rF _ _ _ rF rF HRUN.out ?_));exact Q2
   .obtain⟨j1,j2,j3,j4,j5,j6,j7⟩:=HJ.out;have e1:¬ (k:Int)<(N:Int):=oM;rw[show N-k=0 by omega,DJ]at j7;have HG:Hid (Ew E RB s w 62 2 Ey R (.returned (.slice p k q)) wr):=by show Ew _ _ _ _ _ _ _ _ _ _;rw[j7];exact⟨_,rfl,by rw[j1];exact j6,j2,j3,j4,j5,rfl⟩
    clear j1 j2 j3 j4 j5 j6 j7 HJ hlt;go_wp2;refine bodyPost_ret (by simp[results,results52,go_sem, *];try rfl) rfl ?_;exact HG.out
end Go.Proofs.YtnlgkkbmbijndaaGreat
