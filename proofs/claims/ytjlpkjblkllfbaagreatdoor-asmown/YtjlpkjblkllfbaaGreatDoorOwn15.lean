import Derived.Test.YtjlpkjblkllfbaaGreatDoorOwn1
import Derived.Test.YtjlpkjblkllfbaaGreatDoorOwn14
namespace Go.Proofs.YtjlpkjblkllfbaaGreatDoor
open Go.RowKit Go.Proofs.Tryz
set_option linter.all false
set_option maxRecDepth 100000
set_option maxHeartbeats 16000000
def Ww(a b:Cd):Bool:=decide (a.sign=b.sign)&&(decide (a.regs=b.regs)&&(decide (a.slots=b.slots)&&decide (a.list=b.list)))
theorem JK(a:Cd):Ww a a=true:=by simp[Ww]
theorem OW{w v:World}{a0 a1 a2 a3 b0 b1 b2 b3:Value}{t:TypeId}(k:Below ((w.alloc (.cells #[a0,a1,a2,a3] t)).alloc (.cells #[b0,b1,b2,b3] t)).heap.size ((w.alloc (.cells #[a0,a1,a2,a3] t)).alloc (.cells #[b0,b1,b2,b3] t)) v):
 (v.cell? ⟨w.heap.size,0,none⟩=some a0/\v.cell? ⟨w.heap.size,1,none⟩=some a1/\v.cell? ⟨w.heap.size,2,none⟩=some a2/\v.cell? ⟨w.heap.size,3,none⟩=some a3)/\v.cell? ⟨w.heap.size+1,0,none⟩=some b0/\v.cell? ⟨w.heap.size+1,1,none⟩=some b1/\v.cell? ⟨w.heap.size+1,2,none⟩=some b2/\v.cell? ⟨w.heap.size+1,3,none⟩=some b3:=
 ⟨⟨kc k sG,kc k sG,kc k sG,kc k sG⟩,kc k sG,kc k sG,kc k sG,kc k sG⟩
theorem GX(a0 a1 a2 a3 b0 b1 b2 b3:Value)(a b:Cd)(ha:BE a)(hb:BE b)(w:World)(hA:DO w a0 a1 a2 a3 a)(hB:DO w b0 b1 b2 b3 b):
 Calls prog 7 #[.agg #[a0,a1,a2,a3],.agg #[b0,b1,b2,b3]] w fun e w'=>e=.returned (.bool (Ww a b))/\Below w.heap.size w w':=by
 have hl0:=ha.signL;have hm0:=hb.signL;have HV0:Hid (Ce 3 AB w a0 a.sign):=hA.sign;have HU0:Hid (Ce 3 AB w b0 b.sign):=hB.sign;have hl1:=ha.regsL;have hm1:=hb.regsL;have HV1:Hid (Ce 2 IG w a1 a.regs):=hA.regs;have HU1:Hid (Ce 2 IG w b1 b.regs):=hB.regs;have hl2:=ha.slotsL;have hm2:=hb.slotsL;have HV2:Hid (Ce 5 Jp w a2 a.slots):=hA.slots;have HU2:Hid (Ce 5 Jp w b2 b.slots):=hB.slots;have hl3:=ha.listL;have hm3:=hb.listL;have HV3:Hid (Ce 7 CJ w a3 a.list):=hA.list;have HU3:Hid (Ce 7 CJ w b3 b.list):=hB.list;obtain⟨p0,c0,rfl,-⟩:=hA.sign;obtain⟨q0,d0,rfl,-⟩:=hB.sign;obtain⟨p1,c1,rfl,-⟩:=hA.regs;obtain⟨q1,d1,rfl,-⟩:=hB.regs;obtain⟨p2,c2,rfl,-⟩:=hA.slots;obtain⟨q2,d2,rfl,-⟩:=hB.slots;obtain⟨p3,c3,rfl,-⟩:=hA.list;obtain⟨q3,d3,rfl,-⟩:=hB.list;clear hA hB ha hb;unfold Ww;obtain⟨l0,hL0⟩:∃l,a.sign=l:=⟨_,rfl⟩
 obtain⟨m0,hM0⟩:∃l,b.sign=l:=⟨_,rfl⟩
 rw[hL0]at hl0 HV0 |-;rw[hM0]at hm0 HU0 |-;obtain⟨l1,hL1⟩:∃l,a.regs=l:=⟨_,rfl⟩
 obtain⟨m1,hM1⟩:∃l,b.regs=l:=⟨_,rfl⟩
 rw[hL1]at hl1 HV1 |-;rw[hM1]at hm1 HU1 |-;obtain⟨l2,hL2⟩:∃l,a.slots=l:=⟨_,rfl⟩
 obtain⟨m2,hM2⟩:∃l,b.slots=l:=⟨_,rfl⟩
 rw[hL2]at hl2 HV2 |-;rw[hM2]at hm2 HU2 |-;obtain⟨l3,hL3⟩:∃l,a.list=l:=⟨_,rfl⟩
 obtain⟨m3,hM3⟩:∃l,b.list=l:=⟨_,rfl⟩
 rw[hL3]at hl3 HV3 |-;rw[hM3]at hm3 HU3 |-;clear hL0 hL1 hL2 hL3 hM0 hM1 hM2 hM3;have HLE0:Hid (l0.length=m0.length->(l0=m0↔∀j (h1:j<l0.length) (h2:j<m0.length),l0[j]=m0[j])):=fun hne=>⟨fun e=>by subst e;exact fun j h1 h2=>rfl,fun h=>List.ext_getElem hne h⟩
 obtain⟨N0,hN0⟩:∃N,l0.length=N:=⟨_,rfl⟩
 obtain⟨M0,hM0⟩:∃N,m0.length=N:=⟨_,rfl⟩
 rw[hN0]at hl0 HV0 |-;rw[hM0]at hm0 HU0 |-;have HN0:Hid (l0.length=N0):=hN0;have HM0:Hid (m0.length=M0):=hM0;have HLE1:Hid (l1.length=m1.length->(l1=m1↔∀j (h1:j<l1.length) (h2:j<m1.length),l1[j]=m1[j])):=fun hne=>⟨fun e=>by subst e;exact fun j h1 h2=>rfl,fun h=>List.ext_getElem hne h⟩
 obtain⟨N1,hN1⟩:∃N,l1.length=N:=⟨_,rfl⟩
 obtain⟨M1,hM1⟩:∃N,m1.length=N:=⟨_,rfl⟩
 rw[hN1]at hl1 HV1 |-;rw[hM1]at hm1 HU1 |-;have HN1:Hid (l1.length=N1):=hN1;have HM1:Hid (m1.length=M1):=hM1;have HLE2:Hid (l2.length=m2.length->(l2=m2↔∀j (h1:j<l2.length) (h2:j<m2.length),l2[j]=m2[j])):=fun hne=>⟨fun e=>by subst e;exact fun j h1 h2=>rfl,fun h=>List.ext_getElem hne h⟩
 obtain⟨N2,hN2⟩:∃N,l2.length=N:=⟨_,rfl⟩
 obtain⟨M2,hM2⟩:∃N,m2.length=N:=⟨_,rfl⟩
 rw[hN2]at hl2 HV2 |-;rw[hM2]at hm2 HU2 |-;have HN2:Hid (l2.length=N2):=hN2;have HM2:Hid (m2.length=M2):=hM2;have HLE3:Hid (l3.length=m3.length->(l3=m3↔∀j (h1:j<l3.length) (h2:j<m3.length),l3[j]=m3[j])):=fun hne=>⟨fun e=>by subst e;exact fun j h1 h2=>rfl,fun h=>List.ext_getElem hne h⟩
 obtain⟨N3,hN3⟩:∃N,l3.length=N:=⟨_,rfl⟩
 obtain⟨M3,hM3⟩:∃N,m3.length=N:=⟨_,rfl⟩
 rw[hN3]at hl3 HV3 |-;rw[hM3]at hm3 HU3 |-;have HN3:Hid (l3.length=N3):=hN3;have HM3:Hid (m3.length=M3):=hM3;obtain⟨R,hR⟩:=gA ((decide (l0=m0)&&(decide (l1=m1)&&(decide (l2=m2)&&decide (l3=m3)))))
 rw[hR];have HR:Hid ((decide (l0=m0)&&(decide (l1=m1)&&(decide (l2=m2)&&decide (l3=m3))))=R):=hR;have HBX:Hid (∀v,Below ((w.alloc (.cells #[.slice p0 N0 c0,.slice p1 N1 c1,.slice p2 N2 c2,.slice p3 N3 c3] 27)).alloc (.cells #[.slice q0 M0 d0,.slice q1 M1 d1,.slice q2 M2 d2,.slice q3 M3 d3] 27)).heap.size ((w.alloc (.cells #[.slice p0 N0 c0,.slice p1 N1 c1,.slice p2 N2 c2,.slice p3 N3 c3] 27)).alloc (.cells #[.slice q0 M0 d0,.slice q1 M1 d1,.slice q2 M2 d2,.slice q3 M3 d3] 27)) v->(v.cell? ⟨w.heap.size,0,none⟩=some (.slice p0 N0 c0)/\v.cell? ⟨w.heap.size,1,none⟩=some (.slice p1 N1 c1)/\v.cell? ⟨w.heap.size,2,none⟩=some (.slice p2 N2 c2)/\v.cell? ⟨w.heap.size,3,none⟩=some (.slice p3 N3 c3))/\v.cell? ⟨w.heap.size+1,0,none⟩=some (.slice q0 M0 d0)/\v.cell? ⟨w.heap.size+1,1,none⟩=some (.slice q1 M1 d1)/\v.cell? ⟨w.heap.size+1,2,none⟩=some (.slice q2 M2 d2)/\v.cell? ⟨w.heap.size+1,3,none⟩=some (.slice q3 M3 d3)):=fun v k=>OW k;have HB0:Hid (Below w.heap.size w ((w.alloc (.cells #[.slice p0 N0 c0,.slice p1 N1 c1,.slice p2 N2 c2,.slice p3 N3 c3] 27)).alloc (.cells #[.slice q0 M0 d0,.slice q1 M1 d1,.slice q2 M2 d2,.slice q3 M3 d3] 27))):=bel (A2 _ _) (A2 _ _);clear hN0 hN1 hN2 hN3 hM0 hM1 hM2 hM3 hR;by_cases e0:N0=M0
 case neg=>
  have hf:R=false:=by
   rw[<-HR.out];have:decide (l0=m0)=false:=decide_eq_false fun e=>e0 (by rw[<-HN0.out,<-HM0.out,e]);rw[this];simp
  subst hf;have h1:((N0:Int)==(M0:Int))=false:=by have:(N0:Int)≠(M0:Int):=oM;simpa using this
  have h2:((N0:Int) != (M0:Int))=true:=by have:(N0:Int)≠(M0:Int):=oM;simpa using this
  have h3:(N0==M0)=false:=by simpa using e0
  clear HV0 HV1 HV2 HV3 HU0 HU1 HU2 HU3 HLE0 HLE1 HLE2 HLE3 e0;exact W9
 subst e0;by_cases e1:N1=M1
 case neg=>
  have hf:R=false:=by
   rw[<-HR.out];have:decide (l1=m1)=false:=decide_eq_false fun e=>e1 (by rw[<-HN1.out,<-HM1.out,e]);rw[this];simp
  subst hf;have h1:((N1:Int)==(M1:Int))=false:=by have:(N1:Int)≠(M1:Int):=oM;simpa using this
  have h2:((N1:Int) != (M1:Int))=true:=by have:(N1:Int)≠(M1:Int):=oM;simpa using this
  have h3:(N1==M1)=false:=by simpa using e1
  clear HV0 HV1 HV2 HV3 HU0 HU1 HU2 HU3 HLE0 HLE1 HLE2 HLE3 e1;exact W9
 subst e1;by_cases e2:N2=M2
 case neg=>
  have hf:R=false:=by
   rw[<-HR.out];have:decide (l2=m2)=false:=decide_eq_false fun e=>e2 (by rw[<-HN2.out,<-HM2.out,e]);rw[this];simp
  subst hf;have h1:((N2:Int)==(M2:Int))=false:=by have:(N2:Int)≠(M2:Int):=oM;simpa using this
  have h2:((N2:Int) != (M2:Int))=true:=by have:(N2:Int)≠(M2:Int):=oM;simpa using this
  have h3:(N2==M2)=false:=by simpa using e2
  clear HV0 HV1 HV2 HV3 HU0 HU1 HU2 HU3 HLE0 HLE1 HLE2 HLE3 e2;exact W9
 subst e2;by_cases e3:N3=M3
 case neg=>
  have hf:R=false:=by
   rw[<-HR.out];have:decide (l3=m3)=false:=decide_eq_false fun e=>e3 (by rw[<-HN3.out,<-HM3.out,e]);rw[this];simp
  subst hf;have h1:((N3:Int)==(M3:Int))=false:=by have:(N3:Int)≠(M3:Int):=oM;simpa using this
  have h2:((N3:Int) != (M3:Int))=true:=by have:(N3:Int)≠(M3:Int):=oM;simpa using this
  have h3:(N3==M3)=false:=by simpa using e3
  clear HV0 HV1 HV2 HV3 HU0 HU1 HU2 HU3 HLE0 HLE1 HLE2 HLE3 e3;exact W9
 subst e3;go_enter func7,ntmps7;go_wp2;obtain⟨V,hV⟩:=gA (((w.alloc (.cells #[.slice p0 N0 c0,.slice p1 N1 c1,.slice p2 N2 c2,.slice p3 N3 c3] 27)).alloc (.cells #[.slice q0 N0 d0,.slice q1 N1 d1,.slice q2 N2 d2,.slice q3 N3 d3] 27)))
 rw[hV]at HBX HB0 |-;have HBV:Hid (∀v,Below V.heap.size V v->(v.cell? ⟨w.heap.size,0,none⟩=some (.slice p0 N0 c0)/\v.cell? ⟨w.heap.size,1,none⟩=some (.slice p1 N1 c1)/\v.cell? ⟨w.heap.size,2,none⟩=some (.slice p2 N2 c2)/\v.cell? ⟨w.heap.size,3,none⟩=some (.slice p3 N3 c3))/\v.cell? ⟨w.heap.size+1,0,none⟩=some (.slice q0 N0 d0)/\v.cell? ⟨w.heap.size+1,1,none⟩=some (.slice q1 N1 d1)/\v.cell? ⟨w.heap.size+1,2,none⟩=some (.slice q2 N2 d2)/\v.cell? ⟨w.heap.size+1,3,none⟩=some (.slice q3 N3 d3)):=HBX.out;obtain⟨⟨z0,z1,z2,z3⟩,y0,y1,y2,y3⟩:=HBV.out V (BY V);clear HBX hV
 go_loopw [5] (fun iv wr=>Below V.heap.size V wr/\∃j:Nat,j<=N0/\iv=.int .i64 j/\Hid (∀i (h1:i<l0.length) (h2:i<m0.length),i<j->l0[i]=m0[i])) (fun iv _=>N0-(intOf iv).toNat)
 case atStart=>exact⟨BY V,0,gJ _,rfl,fun i _ _ hi=>absurd hi (Nat.not_lt_zero _)⟩
 case round=>
  obtain⟨hbv,j,hj,rfl,hp⟩:=hrel;obtain⟨⟨g0,g1,g2,g3⟩,g4,g5,g6,g7⟩:=HBV.out wr hbv;by_cases hlt:j<N0
  .have h1:j<l0.length:=by rw[HN0.out];exact hlt
   have h2:j<m0.length:=by rw[HM0.out];exact hlt
   obtain⟨b,o,rfl,hx⟩:=HV0.at h1;obtain⟨b',o',rfl,hy⟩:=HU0.at h2;have hx':=hx.below (bel HB0.out hbv);have hy':=hy.below (bel HB0.out hbv);have x0:=hx'.at 0 rfl;have w0:=hy'.at 0 rfl;have x1:=hx'.at 1 rfl;have w1:=hy'.at 1 rfl;have x2:=hx'.at 2 rfl;have w2:=hy'.at 2 rfl;rw[Nat.add_zero]at x0 w0;have NE:=Sp l0[j] m0[j];have NX:Hid (l0[j]=m0[j]->∀i (h1:i<l0.length) (h2:i<m0.length),i<j+1->l0[i]=m0[i]):=fun e i h1 h2 hi=>by
    exact Wf
   have NB:Hid (¬l0[j]=m0[j]->R=false):=fun e=>by
    rw[<-HR.out];have:decide (l0=m0)=false:=decide_eq_false fun e2=>e ((HLE0.out (by rw[HN0.out,HM0.out])).1 e2 j h1 h2);rw[this];simp
   obtain⟨X,hX⟩:=gA (l0[j])
   obtain⟨Y,hY⟩:=gA (m0[j])
   rw[hX]at x0 x1 x2 NX NB;rw[hY]at w0 w1 w2 NX NB;simp only[hX,hY]at NE;obtain⟨D,hD⟩:=gA (decide (X=Y))
   simp only[hD]at NE;unfold pv at NE;have HNE:Hid (∀w,(binOp .neq 41 (.agg #[.string X.name,.int .i64 X.kind,.int .i64 X.len]) (.agg #[.string Y.name,.int .i64 Y.kind,.int .i64 Y.len])).run prog w=.ok (.bool (!D)) w):=NE;have i1:(0:Int)<=(j:Int):=oM;have i2:(j:Int)<(N0:Int):=oM;clear NE hX hY hp hx hy hx' hy';cases D
   .have HB:Hid (¬X=Y):=(show¬X=Y from of_decide_eq_false hD)
    clear hD;go_wp2;refine rG (fun v=>v.cell? ⟨w.heap.size,0,none⟩=some (.slice (some ⟨b,o,none⟩) N0 c0)/\v.cell? ⟨w.heap.size+1,0,none⟩=some (.slice (some ⟨b',o',none⟩) N0 d0)/\v.cell? ⟨b,o+j*3,none⟩=some (.string X.name)/\v.cell? ⟨b,o+j*3+1,none⟩=some (.int .i64 X.kind)/\v.cell? ⟨b,o+j*3+2,none⟩=some (.int .i64 X.len)/\v.cell? ⟨b',o'+j*3,none⟩=some (.string Y.name)/\v.cell? ⟨b',o'+j*3+1,none⟩=some (.int .i64 Y.kind)/\v.cell? ⟨b',o'+j*3+2,none⟩=some (.int .i64 Y.len)) fun yH=>?_;refine Tf 0 1 2 3 4 5 ?_;refine Tc 6 7 8 ?_;refine Bn 9 ?_;clear yH;refine Aw 10 fun K hK=>?_;refine CB rF _ _ _ _ rF _ _ _ rF rF (Mz _ _ X Y _) (HNE.out _) ?_;exact W7
   .have HE:Hid (X=Y):=(show X=Y from of_decide_eq_true hD)
    clear hD;go_wp2;refine rG (fun v=>v.cell? ⟨w.heap.size,0,none⟩=some (.slice (some ⟨b,o,none⟩) N0 c0)/\v.cell? ⟨w.heap.size+1,0,none⟩=some (.slice (some ⟨b',o',none⟩) N0 d0)/\v.cell? ⟨b,o+j*3,none⟩=some (.string X.name)/\v.cell? ⟨b,o+j*3+1,none⟩=some (.int .i64 X.kind)/\v.cell? ⟨b,o+j*3+2,none⟩=some (.int .i64 X.len)/\v.cell? ⟨b',o'+j*3,none⟩=some (.string Y.name)/\v.cell? ⟨b',o'+j*3+1,none⟩=some (.int .i64 Y.kind)/\v.cell? ⟨b',o'+j*3+2,none⟩=some (.int .i64 Y.len)) fun yH=>?_;refine Tf 0 1 2 3 4 5 ?_;refine Tc 6 7 8 ?_;refine Bn 9 ?_;clear yH;refine Aw 10 fun K hK=>?_;refine CB rF _ _ _ _ rF _ _ _ rF rF (Mz _ _ X Y _) (HNE.out _) ?_;exact VX
  .have hjN:j=N0:=oM;have HF0:Hid (l0=m0):=(HLE0.out (by rw[HN0.out,HM0.out])).2 fun i h1 h2=>hp.out i h1 h2 (by rw[hjN,<-HN0.out];exact h1);have HBW0:Hid (Below V.heap.size V wr):=hbv;subst hjN;clear hp hbv;go_wp2
   go_loopw [6] (fun iv wr=>Below V.heap.size V wr/\∃j:Nat,j<=N1/\iv=.int .i64 j/\Hid (∀i (h1:i<l1.length) (h2:i<m1.length),i<j->l1[i]=m1[i])) (fun iv _=>N1-(intOf iv).toNat)
   case atStart=>exact⟨HBW0.out,0,gJ _,rfl,fun i _ _ hi=>absurd hi (Nat.not_lt_zero _)⟩
   case round=>
    obtain⟨hbv,j,hj,rfl,hp⟩:=hrel;obtain⟨⟨g0,g1,g2,g3⟩,g4,g5,g6,g7⟩:=HBV.out wr hbv;by_cases hlt:j<N1
    .have h1:j<l1.length:=by rw[HN1.out];exact hlt
     have h2:j<m1.length:=by rw[HM1.out];exact hlt
     obtain⟨b,o,rfl,hx⟩:=HV1.at h1;obtain⟨b',o',rfl,hy⟩:=HU1.at h2;have hx':=hx.below (bel HB0.out hbv);have hy':=hy.below (bel HB0.out hbv);have x0:=hx'.at 0 rfl;have w0:=hy'.at 0 rfl;have x1:=hx'.at 1 rfl;have w1:=hy'.at 1 rfl;rw[Nat.add_zero]at x0 w0;have NE:=Ux l1[j] m1[j];have NX:Hid (l1[j]=m1[j]->∀i (h1:i<l1.length) (h2:i<m1.length),i<j+1->l1[i]=m1[i]):=fun e i h1 h2 hi=>by
      exact Wf
     have NB:Hid (¬l1[j]=m1[j]->R=false):=fun e=>by
      rw[<-HR.out];have:decide (l1=m1)=false:=decide_eq_false fun e2=>e ((HLE1.out (by rw[HN1.out,HM1.out])).1 e2 j h1 h2);rw[this];simp
     obtain⟨X,hX⟩:=gA (l1[j])
     obtain⟨Y,hY⟩:=gA (m1[j])
     rw[hX]at x0 x1 NX NB;rw[hY]at w0 w1 NX NB;simp only[hX,hY]at NE;obtain⟨D,hD⟩:=gA (decide (X=Y))
     simp only[hD]at NE;unfold Dj at NE;have HNE:Hid (∀w,(binOp .neq 43 (.agg #[.int .i64 X.kind,.int .i64 X.par]) (.agg #[.int .i64 Y.kind,.int .i64 Y.par])).run prog w=.ok (.bool (!D)) w):=NE;have i1:(0:Int)<=(j:Int):=oM;have i2:(j:Int)<(N1:Int):=oM;clear NE hX hY hp hx hy hx' hy';cases D
     .have HB:Hid (¬X=Y):=(show¬X=Y from of_decide_eq_false hD)
      clear hD;go_wp2;refine rG (fun v=>v.cell? ⟨w.heap.size,1,none⟩=some (.slice (some ⟨b,o,none⟩) N1 c1)/\v.cell? ⟨w.heap.size+1,1,none⟩=some (.slice (some ⟨b',o',none⟩) N1 d1)/\v.cell? ⟨b,o+j*2,none⟩=some (.int .i64 X.kind)/\v.cell? ⟨b,o+j*2+1,none⟩=some (.int .i64 X.par)/\v.cell? ⟨b',o'+j*2,none⟩=some (.int .i64 Y.kind)/\v.cell? ⟨b',o'+j*2+1,none⟩=some (.int .i64 Y.par)) fun yH=>?_;refine Tf 0 1 2 3 4 5 ?_;refine Tc 6 7 8 ?_;refine Bn 9 ?_;clear yH;refine Aw 10 fun K hK=>?_;refine CB rF _ _ _ _ rF _ _ _ rF rF (Pz _ _ X Y _) (HNE.out _) ?_;exact W7
     .have HE:Hid (X=Y):=(show X=Y from of_decide_eq_true hD)
      clear hD;go_wp2;refine rG (fun v=>v.cell? ⟨w.heap.size,1,none⟩=some (.slice (some ⟨b,o,none⟩) N1 c1)/\v.cell? ⟨w.heap.size+1,1,none⟩=some (.slice (some ⟨b',o',none⟩) N1 d1)/\v.cell? ⟨b,o+j*2,none⟩=some (.int .i64 X.kind)/\v.cell? ⟨b,o+j*2+1,none⟩=some (.int .i64 X.par)/\v.cell? ⟨b',o'+j*2,none⟩=some (.int .i64 Y.kind)/\v.cell? ⟨b',o'+j*2+1,none⟩=some (.int .i64 Y.par)) fun yH=>?_;refine Tf 0 1 2 3 4 5 ?_;refine Tc 6 7 8 ?_;refine Bn 9 ?_;clear yH;refine Aw 10 fun K hK=>?_;refine CB rF _ _ _ _ rF _ _ _ rF rF (Pz _ _ X Y _) (HNE.out _) ?_;exact VX
    .have hjN:j=N1:=oM;have HF1:Hid (l1=m1):=(HLE1.out (by rw[HN1.out,HM1.out])).2 fun i h1 h2=>hp.out i h1 h2 (by rw[hjN,<-HN1.out];exact h1);have HBW1:Hid (Below V.heap.size V wr):=hbv;subst hjN;clear hp hbv;go_wp2
     go_loopw [7] (fun iv wr=>Below V.heap.size V wr/\∃j:Nat,j<=N2/\iv=.int .i64 j/\Hid (∀i (h1:i<l2.length) (h2:i<m2.length),i<j->l2[i]=m2[i])) (fun iv _=>N2-(intOf iv).toNat)
     case atStart=>exact⟨HBW1.out,0,gJ _,rfl,fun i _ _ hi=>absurd hi (Nat.not_lt_zero _)⟩
     case round=>
      obtain⟨hbv,j,hj,rfl,hp⟩:=hrel;obtain⟨⟨g0,g1,g2,g3⟩,g4,g5,g6,g7⟩:=HBV.out wr hbv;by_cases hlt:j<N2
      .have h1:j<l2.length:=by rw[HN2.out];exact hlt
       have h2:j<m2.length:=by rw[HM2.out];exact hlt
       obtain⟨b,o,rfl,hx⟩:=HV2.at h1;obtain⟨b',o',rfl,hy⟩:=HU2.at h2;have hx':=hx.below (bel HB0.out hbv);have hy':=hy.below (bel HB0.out hbv);have x0:=hx'.at 0 rfl;have w0:=hy'.at 0 rfl;have x1:=hx'.at 1 rfl;have w1:=hy'.at 1 rfl;have x2:=hx'.at 2 rfl;have w2:=hy'.at 2 rfl;have x3:=hx'.at 3 rfl;have w3:=hy'.at 3 rfl;have x4:=hx'.at 4 rfl;have w4:=hy'.at 4 rfl;rw[Nat.add_zero]at x0 w0;have NE:=Uw l2[j] m2[j];have NX:Hid (l2[j]=m2[j]->∀i (h1:i<l2.length) (h2:i<m2.length),i<j+1->l2[i]=m2[i]):=fun e i h1 h2 hi=>by
        exact Wf
       have NB:Hid (¬l2[j]=m2[j]->R=false):=fun e=>by
        rw[<-HR.out];have:decide (l2=m2)=false:=decide_eq_false fun e2=>e ((HLE2.out (by rw[HN2.out,HM2.out])).1 e2 j h1 h2);rw[this];simp
       obtain⟨X,hX⟩:=gA (l2[j])
       obtain⟨Y,hY⟩:=gA (m2[j])
       rw[hX]at x0 x1 x2 x3 x4 NX NB;rw[hY]at w0 w1 w2 w3 w4 NX NB;simp only[hX,hY]at NE;obtain⟨D,hD⟩:=gA (decide (X=Y))
       simp only[hD]at NE;unfold P8 at NE;have HNE:Hid (∀w,(binOp .neq 59 (.agg #[.int .i64 X.ty.kind,.int .i64 X.ty.par,.bool X.keep,.int .u32 X.bits,.int .i64 X.int_]) (.agg #[.int .i64 Y.ty.kind,.int .i64 Y.ty.par,.bool Y.keep,.int .u32 Y.bits,.int .i64 Y.int_])).run prog w=.ok (.bool (!D)) w):=NE;have i1:(0:Int)<=(j:Int):=oM;have i2:(j:Int)<(N2:Int):=oM;clear NE hX hY hp hx hy hx' hy';cases D
       .have HB:Hid (¬X=Y):=(show¬X=Y from of_decide_eq_false hD)
        clear hD;go_wp2;refine rG (fun v=>v.cell? ⟨w.heap.size,2,none⟩=some (.slice (some ⟨b,o,none⟩) N2 c2)/\v.cell? ⟨w.heap.size+1,2,none⟩=some (.slice (some ⟨b',o',none⟩) N2 d2)/\v.cell? ⟨b,o+j*5,none⟩=some (.int .i64 X.ty.kind)/\v.cell? ⟨b,o+j*5+1,none⟩=some (.int .i64 X.ty.par)/\v.cell? ⟨b,o+j*5+2,none⟩=some (.bool X.keep)/\v.cell? ⟨b,o+j*5+3,none⟩=some (.int .u32 X.bits)/\v.cell? ⟨b,o+j*5+4,none⟩=some (.int .i64 X.int_)/\v.cell? ⟨b',o'+j*5,none⟩=some (.int .i64 Y.ty.kind)/\v.cell? ⟨b',o'+j*5+1,none⟩=some (.int .i64 Y.ty.par)/\v.cell? ⟨b',o'+j*5+2,none⟩=some (.bool Y.keep)/\v.cell? ⟨b',o'+j*5+3,none⟩=some (.int .u32 Y.bits)/\v.cell? ⟨b',o'+j*5+4,none⟩=some (.int .i64 Y.int_)) fun yH=>?_;refine Tf 0 1 2 3 4 5 ?_;refine Tc 6 7 8 ?_;refine Bn 9 ?_;clear yH;refine Aw 10 fun K hK=>?_;refine CB rF _ _ _ _ rF _ _ _ rF rF (Py _ _ X Y _) (HNE.out _) ?_;exact W7
       .have HE:Hid (X=Y):=(show X=Y from of_decide_eq_true hD)
        clear hD;go_wp2;refine rG (fun v=>v.cell? ⟨w.heap.size,2,none⟩=some (.slice (some ⟨b,o,none⟩) N2 c2)/\v.cell? ⟨w.heap.size+1,2,none⟩=some (.slice (some ⟨b',o',none⟩) N2 d2)/\v.cell? ⟨b,o+j*5,none⟩=some (.int .i64 X.ty.kind)/\v.cell? ⟨b,o+j*5+1,none⟩=some (.int .i64 X.ty.par)/\v.cell? ⟨b,o+j*5+2,none⟩=some (.bool X.keep)/\v.cell? ⟨b,o+j*5+3,none⟩=some (.int .u32 X.bits)/\v.cell? ⟨b,o+j*5+4,none⟩=some (.int .i64 X.int_)/\v.cell? ⟨b',o'+j*5,none⟩=some (.int .i64 Y.ty.kind)/\v.cell? ⟨b',o'+j*5+1,none⟩=some (.int .i64 Y.ty.par)/\v.cell? ⟨b',o'+j*5+2,none⟩=some (.bool Y.keep)/\v.cell? ⟨b',o'+j*5+3,none⟩=some (.int .u32 Y.bits)/\v.cell? ⟨b',o'+j*5+4,none⟩=some (.int .i64 Y.int_)) fun yH=>?_;refine Tf 0 1 2 3 4 5 ?_;refine Tc 6 7 8 ?_;refine Bn 9 ?_;clear yH;refine Aw 10 fun K hK=>?_;refine CB rF _ _ _ _ rF _ _ _ rF rF (Py _ _ X Y _) (HNE.out _) ?_;exact VX
      .have hjN:j=N2:=oM;have HF2:Hid (l2=m2):=(HLE2.out (by rw[HN2.out,HM2.out])).2 fun i h1 h2=>hp.out i h1 h2 (by rw[hjN,<-HN2.out];exact h1);have HBW2:Hid (Below V.heap.size V wr):=hbv;subst hjN;clear hp hbv;go_wp2
       go_loopw [8] (fun iv wr=>Below V.heap.size V wr/\∃j:Nat,j<=N3/\iv=.int .i64 j/\Hid (∀i (h1:i<l3.length) (h2:i<m3.length),i<j->l3[i]=m3[i])) (fun iv _=>N3-(intOf iv).toNat)
       case atStart=>exact⟨HBW2.out,0,gJ _,rfl,fun i _ _ hi=>absurd hi (Nat.not_lt_zero _)⟩
       case round=>
        obtain⟨hbv,j,hj,rfl,hp⟩:=hrel;obtain⟨⟨g0,g1,g2,g3⟩,g4,g5,g6,g7⟩:=HBV.out wr hbv;by_cases hlt:j<N3
        .have h1:j<l3.length:=by rw[HN3.out];exact hlt
         have h2:j<m3.length:=by rw[HM3.out];exact hlt
         obtain⟨b,o,rfl,hx⟩:=HV3.at h1;obtain⟨b',o',rfl,hy⟩:=HU3.at h2;have hx':=hx.below (bel HB0.out hbv);have hy':=hy.below (bel HB0.out hbv);have x0:=hx'.at 0 rfl;have w0:=hy'.at 0 rfl;have x1:=hx'.at 1 rfl;have w1:=hy'.at 1 rfl;have x2:=hx'.at 2 rfl;have w2:=hy'.at 2 rfl;have x3:=hx'.at 3 rfl;have w3:=hy'.at 3 rfl;have x4:=hx'.at 4 rfl;have w4:=hy'.at 4 rfl;have x5:=hx'.at 5 rfl;have w5:=hy'.at 5 rfl;have x6:=hx'.at 6 rfl;have w6:=hy'.at 6 rfl;rw[Nat.add_zero]at x0 w0;have NE:=So l3[j] m3[j];have NX:Hid (l3[j]=m3[j]->∀i (h1:i<l3.length) (h2:i<m3.length),i<j+1->l3[i]=m3[i]):=fun e i h1 h2 hi=>by
          exact Wf
         have NB:Hid (¬l3[j]=m3[j]->R=false):=fun e=>by
          rw[<-HR.out];have:decide (l3=m3)=false:=decide_eq_false fun e2=>e ((HLE3.out (by rw[HN3.out,HM3.out])).1 e2 j h1 h2);rw[this];simp
         obtain⟨X,hX⟩:=gA (l3[j])
         obtain⟨Y,hY⟩:=gA (m3[j])
         rw[hX]at x0 x1 x2 x3 x4 x5 x6 NX NB;rw[hY]at w0 w1 w2 w3 w4 w5 w6 NX NB;simp only[hX,hY]at NE;obtain⟨D,hD⟩:=gA (decide (X=Y))
         simp only[hD]at NE;unfold Cg at NE;have HNE:Hid (∀w,(binOp .neq 39 (.agg #[.int .i64 X.op,.int .i64 X.d,.int .i64 X.a,.int .i64 X.b,.int .i64 X.c,.int .i64 X.n,.int .u32 X.bits]) (.agg #[.int .i64 Y.op,.int .i64 Y.d,.int .i64 Y.a,.int .i64 Y.b,.int .i64 Y.c,.int .i64 Y.n,.int .u32 Y.bits])).run prog w=.ok (.bool (!D)) w):=NE;have i1:(0:Int)<=(j:Int):=oM;have i2:(j:Int)<(N3:Int):=oM;clear NE hX hY hp hx hy hx' hy';cases D
         .have HB:Hid (¬X=Y):=(show¬X=Y from of_decide_eq_false hD)
          clear hD;go_wp2;refine rG (fun v=>v.cell? ⟨w.heap.size,3,none⟩=some (.slice (some ⟨b,o,none⟩) N3 c3)/\v.cell? ⟨w.heap.size+1,3,none⟩=some (.slice (some ⟨b',o',none⟩) N3 d3)/\v.cell? ⟨b,o+j*7,none⟩=some (.int .i64 X.op)/\v.cell? ⟨b,o+j*7+1,none⟩=some (.int .i64 X.d)/\v.cell? ⟨b,o+j*7+2,none⟩=some (.int .i64 X.a)/\v.cell? ⟨b,o+j*7+3,none⟩=some (.int .i64 X.b)/\v.cell? ⟨b,o+j*7+4,none⟩=some (.int .i64 X.c)/\v.cell? ⟨b,o+j*7+5,none⟩=some (.int .i64 X.n)/\v.cell? ⟨b,o+j*7+6,none⟩=some (.int .u32 X.bits)/\v.cell? ⟨b',o'+j*7,none⟩=some (.int .i64 Y.op)/\v.cell? ⟨b',o'+j*7+1,none⟩=some (.int .i64 Y.d)/\v.cell? ⟨b',o'+j*7+2,none⟩=some (.int .i64 Y.a)/\v.cell? ⟨b',o'+j*7+3,none⟩=some (.int .i64 Y.b)/\v.cell? ⟨b',o'+j*7+4,none⟩=some (.int .i64 Y.c)/\v.cell? ⟨b',o'+j*7+5,none⟩=some (.int .i64 Y.n)/\v.cell? ⟨b',o'+j*7+6,none⟩=some (.int .u32 Y.bits)) fun yH=>?_;refine Tf 0 1 2 3 4 5 ?_;refine Tc 6 7 8 ?_;refine Bn 9 ?_;clear yH;refine Aw 10 fun K hK=>?_;refine CB rF _ _ _ _ rF _ _ _ rF rF (My _ _ X Y _) (HNE.out _) ?_;exact W7
         .have HE:Hid (X=Y):=(show X=Y from of_decide_eq_true hD)
          clear hD;go_wp2;refine rG (fun v=>v.cell? ⟨w.heap.size,3,none⟩=some (.slice (some ⟨b,o,none⟩) N3 c3)/\v.cell? ⟨w.heap.size+1,3,none⟩=some (.slice (some ⟨b',o',none⟩) N3 d3)/\v.cell? ⟨b,o+j*7,none⟩=some (.int .i64 X.op)/\v.cell? ⟨b,o+j*7+1,none⟩=some (.int .i64 X.d)/\v.cell? ⟨b,o+j*7+2,none⟩=some (.int .i64 X.a)/\v.cell? ⟨b,o+j*7+3,none⟩=some (.int .i64 X.b)/\v.cell? ⟨b,o+j*7+4,none⟩=some (.int .i64 X.c)/\v.cell? ⟨b,o+j*7+5,none⟩=some (.int .i64 X.n)/\v.cell? ⟨b,o+j*7+6,none⟩=some (.int .u32 X.bits)/\v.cell? ⟨b',o'+j*7,none⟩=some (.int .i64 Y.op)/\v.cell? ⟨b',o'+j*7+1,none⟩=some (.int .i64 Y.d)/\v.cell? ⟨b',o'+j*7+2,none⟩=some (.int .i64 Y.a)/\v.cell? ⟨b',o'+j*7+3,none⟩=some (.int .i64 Y.b)/\v.cell? ⟨b',o'+j*7+4,none⟩=some (.int .i64 Y.c)/\v.cell? ⟨b',o'+j*7+5,none⟩=some (.int .i64 Y.n)/\v.cell? ⟨b',o'+j*7+6,none⟩=some (.int .u32 Y.bits)) fun yH=>?_;refine Tf 0 1 2 3 4 5 ?_;refine Tc 6 7 8 ?_;refine Bn 9 ?_;clear yH;refine Aw 10 fun K hK=>?_;refine CB rF _ _ _ _ rF _ _ _ rF rF (My _ _ X Y _) (HNE.out _) ?_;exact VX
        .have hjN:j=N3:=oM;have HF3:Hid (l3=m3):=(HLE3.out (by rw[HN3.out,HM3.out])).2 fun i h1 h2=>hp.out i h1 h2 (by rw[hjN,<-HN3.out];exact h1);have HBW3:Hid (Below V.heap.size V wr):=hbv;subst hjN;clear hp hbv;go_wp2;go_ret;exact⟨A8 (by rw[<-HR.out,HF0.out,HF1.out,HF2.out,HF3.out];simp),bel HB0.out HBW3.out⟩
theorem IC(v0 v1 v2 v3:Value)(c:Cd)(hk:BE c)(n p:Int)(hp:n=1->Am p c.sign.length=true)(w:World)(hv:DO w v0 v1 v2 v3 c):
 Calls prog 104 #[.agg #[v0,v1,v2,v3],.int .i64 n,.int .i64 p] w fun e w'=>e=.returned (.bool (n==0||(n==1&&Dh c.sign p==2)))/\Below w.heap.size w w':=by
 have HB:=hk.signL;by_cases h0:n=0
 .subst h0;clear hp hv;go_enter func104,ntmps104;go_wp2;go_ret;exact⟨rfl,A2 _ _⟩
 .have h0':(n==0)=false:=by simpa using h0
  by_cases h1:n=1
  .subst h1;obtain⟨k,rfl,hkl⟩:=CZ (hp rfl);have hr:=hv.sign;obtain⟨p,q,rfl,hrr⟩:=hv.sign;obtain⟨lb,lo,rfl,hc⟩:=hr.at hkl;have e:Dh c.sign (k:Int)=c.sign[k].kind:=by unfold Dh;rw[Int.toNat_natCast,gB hkl];rfl
   rw[e];obtain⟨⟨nm,K,L⟩,ht⟩:∃t:Bc,c.sign[k]=t:=⟨_,rfl⟩
   rw[ht]at hc |-;have y1:w.cell? ⟨lb,lo+k*3+1,none⟩=some (.int .i64 K):=hc.at 1 rfl;have g1:∀o,(w.alloc o).cell? ⟨lb,lo+k*3+1,none⟩=some (.int .i64 K):=fun o=>kc (A2 _ _) y1;obtain⟨N,hN⟩:=gA (c.sign.length)
   rw[hN]at hkl HB |-;clear hr hrr hc ht e hp hv hN h0 hk;simp only;go_enter func104,ntmps104;go_wp2;go_ret;exact⟨A8 sM,A2 _ _⟩
  .have h1':(n==1)=false:=by simpa using h1
   rw[h0',h1'];clear hp hv h0 h1;go_enter func104,ntmps104;go_wp2;go_ret;exact⟨rfl,A2 _ _⟩
def E0(i:Ax):Int:=if E9 i.op||(i.op==29||(i.op==30||i.op==32))then i.d else if i.op==31||i.op==33 then i.a else -1
def EF(rs:List Ty)(n:Int):Int:=if Am n rs.length&&(Au rs n).kind==3 then(Au rs n).par else -1
theorem Kh(v0 v1 v2 v3:Value)(c:Cd)(hk:BE c)(i:Ax)(w:World)(hv:DO w v0 v1 v2 v3 c):
 Calls prog 67 #[.agg #[v0,v1,v2,v3],Cg i] w fun e w'=>e=.returned (.int .i64 (EF c.regs (E0 i)))/\Below w.heap.size w w':=by
 have HB:=hk.regsL;have KE:Hid (∀v,Calls prog 105 #[.int .i64 i.op] v fun e w'=>e=.returned (.bool (E9 i.op))/\w'=v):=OC i.op;have hr:=hv.regs;obtain⟨p,q,rfl,hrr⟩:=hv.regs;clear hv hk hrr;obtain⟨op,D,A,B,E,nn,bb⟩:=i;unfold Cg;simp only at KE |-;have EW:∀n:Int,(Am n c.regs.length=false/\EF c.regs n= -1)\/∃ (k:Nat) (lb lo:Nat) (K P:Int),n=(k:Int)/\k<c.regs.length/\p=some ⟨lb,lo,none⟩/\w.cell? ⟨lb,lo+k*2,none⟩=some (.int .i64 K)/\w.cell? ⟨lb,lo+k*2+1,none⟩=some (.int .i64 P)/\EF c.regs n=if K==3 then P else -1:=by
  intro n;cases h:Am n c.regs.length
  .exact .inl ⟨rfl,by unfold EF;rw[h];rfl⟩
  .obtain⟨k,rfl,hkl⟩:=CZ h;obtain⟨lb,lo,hp,hc⟩:=hr.at hkl;refine .inr ⟨k,lb,lo,c.regs[k].kind,c.regs[k].par,rfl,hkl,hp,hc.at 0 rfl,hc.at 1 rfl,?_⟩;unfold EF;rw[h,DF rfl hkl,Bool.true_and]
 obtain⟨N,hN⟩:=gA (c.regs.length)
 rw[hN]at HB EW |-;clear hr;cases hX:E9 op
 .rw[hX]at KE;by_cases a29:op=29
  .subst a29;rw[show E0 ⟨29,D,A,B,E,nn,bb⟩=D from rfl];rcases EW D with⟨hpl,e9⟩|⟨k,lb,lo,K,P,rfl,hkl,rfl,y0,y1,e9⟩
   .rw[e9];clear EW e9;by_cases h0:D<0
    .exact Gi
    .have h1:(N:Int)<=D:=by unfold Am at hpl;simp at hpl;omega
     exact Gi
   .rw[e9];clear EW e9;have g0:∀o o',((w.alloc o).alloc o').cell? ⟨lb,lo+k*2,none⟩=some (.int .i64 K):=fun o o'=>kc (bel (A2 _ _) (A2 _ _)) y0;have g1:∀o o',((w.alloc o).alloc o').cell? ⟨lb,lo+k*2+1,none⟩=some (.int .i64 P):=fun o o'=>kc (bel (A2 _ _) (A2 _ _)) y1;by_cases h3:K=3
    .subst h3;exact Gi
    .have h3':(K==3)=false:=by simpa using h3
     have h3b:(K != 3)=true:=by simpa using h3
     rw[h3'];clear h3;exact Gi
  by_cases a30:op=30
  .subst a30;rw[show E0 ⟨30,D,A,B,E,nn,bb⟩=D from rfl];rcases EW D with⟨hpl,e9⟩|⟨k,lb,lo,K,P,rfl,hkl,rfl,y0,y1,e9⟩
   .rw[e9];clear EW e9;by_cases h0:D<0
    .exact Gi
    .have h1:(N:Int)<=D:=by unfold Am at hpl;simp at hpl;omega
     exact Gi
   .rw[e9];clear EW e9;have g0:∀o o',((w.alloc o).alloc o').cell? ⟨lb,lo+k*2,none⟩=some (.int .i64 K):=fun o o'=>kc (bel (A2 _ _) (A2 _ _)) y0;have g1:∀o o',((w.alloc o).alloc o').cell? ⟨lb,lo+k*2+1,none⟩=some (.int .i64 P):=fun o o'=>kc (bel (A2 _ _) (A2 _ _)) y1;by_cases h3:K=3
    .subst h3;exact Gi
    .have h3':(K==3)=false:=by simpa using h3
     have h3b:(K != 3)=true:=by simpa using h3
     rw[h3'];clear h3;exact Gi
  by_cases a32:op=32
  .subst a32;rw[show E0 ⟨32,D,A,B,E,nn,bb⟩=D from rfl];rcases EW D with⟨hpl,e9⟩|⟨k,lb,lo,K,P,rfl,hkl,rfl,y0,y1,e9⟩
   .rw[e9];clear EW e9;by_cases h0:D<0
    .exact Gi
    .have h1:(N:Int)<=D:=by unfold Am at hpl;simp at hpl;omega
     exact Gi
   .rw[e9];clear EW e9;have g0:∀o o',((w.alloc o).alloc o').cell? ⟨lb,lo+k*2,none⟩=some (.int .i64 K):=fun o o'=>kc (bel (A2 _ _) (A2 _ _)) y0;have g1:∀o o',((w.alloc o).alloc o').cell? ⟨lb,lo+k*2+1,none⟩=some (.int .i64 P):=fun o o'=>kc (bel (A2 _ _) (A2 _ _)) y1;by_cases h3:K=3
    .subst h3;exact Gi
    .have h3':(K==3)=false:=by simpa using h3
     have h3b:(K != 3)=true:=by simpa using h3
     rw[h3'];clear h3;exact Gi
  by_cases a31:op=31
  .subst a31;rw[show E0 ⟨31,D,A,B,E,nn,bb⟩=A from rfl];rcases EW A with⟨hpl,e9⟩|⟨k,lb,lo,K,P,rfl,hkl,rfl,y0,y1,e9⟩
   .rw[e9];clear EW e9;by_cases h0:A<0
    .exact Gi
    .have h1:(N:Int)<=A:=by unfold Am at hpl;simp at hpl;omega
     exact Gi
   .rw[e9];clear EW e9;have g0:∀o o',((w.alloc o).alloc o').cell? ⟨lb,lo+k*2,none⟩=some (.int .i64 K):=fun o o'=>kc (bel (A2 _ _) (A2 _ _)) y0;have g1:∀o o',((w.alloc o).alloc o').cell? ⟨lb,lo+k*2+1,none⟩=some (.int .i64 P):=fun o o'=>kc (bel (A2 _ _) (A2 _ _)) y1;by_cases h3:K=3
    .subst h3;exact Gi
    .have h3':(K==3)=false:=by simpa using h3
     have h3b:(K != 3)=true:=by simpa using h3
     rw[h3'];clear h3;exact Gi
  by_cases a33:op=33
  .subst a33;rw[show E0 ⟨33,D,A,B,E,nn,bb⟩=A from rfl];rcases EW A with⟨hpl,e9⟩|⟨k,lb,lo,K,P,rfl,hkl,rfl,y0,y1,e9⟩
   .rw[e9];clear EW e9;by_cases h0:A<0
    .exact Gi
    .have h1:(N:Int)<=A:=by unfold Am at hpl;simp at hpl;omega
     exact Gi
   .rw[e9];clear EW e9;have g0:∀o o',((w.alloc o).alloc o').cell? ⟨lb,lo+k*2,none⟩=some (.int .i64 K):=fun o o'=>kc (bel (A2 _ _) (A2 _ _)) y0;have g1:∀o o',((w.alloc o).alloc o').cell? ⟨lb,lo+k*2+1,none⟩=some (.int .i64 P):=fun o o'=>kc (bel (A2 _ _) (A2 _ _)) y1;by_cases h3:K=3
    .subst h3;exact Gi
    .have h3':(K==3)=false:=by simpa using h3
     have h3b:(K != 3)=true:=by simpa using h3
     rw[h3'];clear h3;exact Gi
  .have b29:(op==29)=false:=by simpa using a29
   have b30:(op==30)=false:=by simpa using a30
   have b31:(op==31)=false:=by simpa using a31
   have b32:(op==32)=false:=by simpa using a32
   have b33:(op==33)=false:=by simpa using a33
   rw[show E0 ⟨op,D,A,B,E,nn,bb⟩= -1 by unfold E0;simp[hX,b29,b30,b31,b32,b33]];rw[show EF c.regs (-1)= -1 by unfold EF Am;simp];clear EW a29 a30 a31 a32 a33;exact Gi
 .rw[hX]at KE;rw[show E0 ⟨op,D,A,B,E,nn,bb⟩=D by unfold E0;simp[hX]];rcases EW D with⟨hpl,e9⟩|⟨k,lb,lo,K,P,rfl,hkl,rfl,y0,y1,e9⟩
  .rw[e9];clear EW e9;by_cases h0:D<0
   .exact Gi
   .have h1:(N:Int)<=D:=by unfold Am at hpl;simp at hpl;omega
    exact Gi
  .rw[e9];clear EW e9;have g0:∀o o',((w.alloc o).alloc o').cell? ⟨lb,lo+k*2,none⟩=some (.int .i64 K):=fun o o'=>kc (bel (A2 _ _) (A2 _ _)) y0;have g1:∀o o',((w.alloc o).alloc o').cell? ⟨lb,lo+k*2+1,none⟩=some (.int .i64 P):=fun o o'=>kc (bel (A2 _ _) (A2 _ _)) y1;by_cases h3:K=3
   .subst h3;exact Gi
   .have h3':(K==3)=false:=by simpa using h3
    have h3b:(K != 3)=true:=by simpa using h3
    rw[h3'];clear h3;exact Gi
theorem GV:∀x:Bc,∀u∈AB x,u.oneCell'=true:=fun x u hu=>by simp[AB]at hu;rcases hu with rfl|rfl|rfl<;>rfl
theorem Ju:∀x:Ty,∀u∈IG x,u.oneCell'=true:=fun x u hu=>by simp[IG]at hu;rcases hu with rfl|rfl<;>rfl
theorem Jq:∀x:Sl,∀u∈Jp x,u.oneCell'=true:=fun x u hu=>by simp[Jp]at hu;rcases hu with rfl|rfl|rfl|rfl|rfl<;>rfl
theorem FK:(prog.info? 43).map (fun i=>(i.zero,i.size,i.bytes))=some (some (.agg #[.int .i64 0,.int .i64 0]),2,16):=kR
theorem Ig:(prog.info? 59).map (fun i=>(i.zero,i.size,i.bytes))=some (some (.agg #[.int .i64 0,.int .i64 0,.bool false,.int .u32 0,.int .i64 0]),5,32):=kR
def f4(a b c d:Value)(j:Nat):Value:=if j=0 then a else if j=1 then b else if j=2 then c else d
structure CP(B:Nat)(w:World)(u0 u1 u2 u3:Value)(c:Cd):Prop where
 sign:w.ownsRow B 41 3 u0 c.sign.length (Bx AB c.sign)
 regs:w.ownsRow B 43 2 u1 c.regs.length (Bx IG c.regs)
 slots:w.ownsRow B 59 5 u2 c.slots.length (Bx Jp c.slots)
 list:w.ownsRow B 39 7 u3 c.list.length (Bx CJ c.list)
end Go.Proofs.YtjlpkjblkllfbaaGreatDoor
