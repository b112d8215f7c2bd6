import Derived.Test.YtnbccaicijcklaaTks2
import Derived.Test.YtnbccaicijcklaaTks14
import Derived.Test.YtnbccaicijcklaaTks15
import Derived.Test.YtnbccaicijcklaaTks8
import Derived.Deep.OwnRows
import Derived.Test.YtnbccaicijcklaaTks1
namespace Go.Proofs.Ytnbccaicijcklaa
open Go.RowKit Go.Proofs.Try
set_option linter.all false
set_option maxRecDepth 100000
set_option maxHeartbeats 16000000
structure Hd where
 pats:List Int
 whole:Int
structure Fr where
 Rx:Nat->Int
 whs:Nat->Int
 vecs:Nat->List Int
 slots:List Hd
 outs:Nat->Nat->Int
def lenOf(c:Cd)(p:Int):Nat:=((c.sign[p.toNat]?).map fun q=>q.len.toNat).getD 0
def Qp(vs:List (List Int))(p:Nat):List Int:=(vs[p]?).getD []
def lF(args:List (List Int))(i:Nat):Nat:=(Qp args i).length
section
variable {U T : Nat -> Prop} {w w' w'' : World}
end
def Pn{α:Type}(T:Nat->Prop)(k:Nat)(f:α->List Value)(w:World)(v:Value)(l:List α):Prop:=
 ∃p c,v=.slice p l.length c/\(l=[]\/∃b o,p=some ⟨b,o,none⟩/\¬T b/\b<w.heap.size/\∀i (h:i<l.length),Ai w b (o+i*k) (f l[i]))
section
variable {α : Type} {T U : Nat -> Prop} {k : Nat} {f : α -> List Value} {w w' : World} {v : Value} {l : List α}
end
structure QQ where
 C:Nat
 S:Nat
 FR:Nat
 NB:Nat
 WB:Nat
 MB:Nat
 UB:Nat
 K:Nat
 ub:Nat->Nat
 sp:Option Addr
 sc:Nat
 v0:Value
 v1:Value
 v2:Value
 v3:Value
 gv:Value
 pv:Value

section
variable {T : Nat -> Prop} {E E' : Nat} {a : QQ} {c : Cd} {G P : List (List Int)} {w w' : World} {X : Nat -> Value} {M : Nat} {m : Nat -> Option Value} {f : Fr}
end
structure Good(c:Cd):Prop where
 len:∀p∈c.sign,1<=p.len/\p.len<=4096
 kind:∀p∈c.sign,Bl p=true
 regs:∀t∈c.regs,AE t c.sign.length=true
 slots:∀s∈c.slots,Bi s c.sign.length=true
 regsL:c.regs.length<=16384
 slotsL:c.slots.length<=4096
 listL:c.list.length<=32768
 signL:c.sign.length<=64
section
variable {T : Nat -> Prop} {E E' : Nat} {a : QQ} {c : Cd} {G P : List (List Int)} {w : World}
end
def QN(a b:Cd):Bool:=decide (a.sign=b.sign)&&(decide (a.regs=b.regs)&&(decide (a.slots=b.slots)&&decide (a.list=b.list)))
theorem Hz(a:Cd):QN a a=true:=by simp[QN]
theorem LL{w v:World}{a0 a1 a2 a3 b0 b1 b2 b3:Value}{t:TypeId}(k:Below ((w.alloc (.cells #[a0,a1,a2,a3] t)).alloc (.cells #[b0,b1,b2,b3] t)).heap.size ((w.alloc (.cells #[a0,a1,a2,a3] t)).alloc (.cells #[b0,b1,b2,b3] t)) v):
 (v.cell? ⟨w.heap.size,0,none⟩=some a0/\v.cell? ⟨w.heap.size,1,none⟩=some a1/\v.cell? ⟨w.heap.size,2,none⟩=some a2/\v.cell? ⟨w.heap.size,3,none⟩=some a3)/\v.cell? ⟨w.heap.size+1,0,none⟩=some b0/\v.cell? ⟨w.heap.size+1,1,none⟩=some b1/\v.cell? ⟨w.heap.size+1,2,none⟩=some b2/\v.cell? ⟨w.heap.size+1,3,none⟩=some b3:=
 ⟨⟨kc k sG,kc k sG,kc k sG,kc k sG⟩,kc k sG,kc k sG,kc k sG,kc k sG⟩
theorem G5(a0 a1 a2 a3 b0 b1 b2 b3:Value)(a b:Cd)(ha:Ba a)(hb:Ba b)(w:World)(hA:BP w a0 a1 a2 a3 a)(hB:BP w b0 b1 b2 b3 b):
 Calls prog 8 #[.agg #[a0,a1,a2,a3],.agg #[b0,b1,b2,b3]] w fun e w'=>e=.returned (.bool (QN a b))/\Below w.heap.size w w':=by
 have hl0:=ha.signL;have hm0:=hb.signL;have HV0:Hid (AR 3 AP w a0 a.sign):=hA.sign;have HU0:Hid (AR 3 AP w b0 b.sign):=hB.sign;have hl1:=ha.regsL;have hm1:=hb.regsL;have HV1:Hid (AR 2 Du w a1 a.regs):=hA.regs;have HU1:Hid (AR 2 Du w b1 b.regs):=hB.regs;have hl2:=ha.slotsL;have hm2:=hb.slotsL;have HV2:Hid (AR 5 E8 w a2 a.slots):=hA.slots;have HU2:Hid (AR 5 E8 w b2 b.slots):=hB.slots;have hl3:=ha.listL;have hm3:=hb.listL;have HV3:Hid (AR 7 Bf w a3 a.list):=hA.list;have HU3:Hid (AR 7 Bf w b3 b.list):=hB.list;obtain⟨p0,c0,rfl,-⟩:=hA.sign;obtain⟨q0,d0,rfl,-⟩:=hB.sign;obtain⟨p1,c1,rfl,-⟩:=hA.regs;obtain⟨q1,d1,rfl,-⟩:=hB.regs;obtain⟨p2,c2,rfl,-⟩:=hA.slots;obtain⟨q2,d2,rfl,-⟩:=hB.slots;obtain⟨p3,c3,rfl,-⟩:=hA.list;obtain⟨q3,d3,rfl,-⟩:=hB.list;clear hA hB ha hb;unfold QN;obtain⟨l0,hL0⟩:∃l,a.sign=l:=⟨_,rfl⟩
 obtain⟨m0,hM0⟩:∃l,b.sign=l:=⟨_,rfl⟩
 rw[hL0]at hl0 HV0 ⊢;rw[hM0]at hm0 HU0 ⊢;obtain⟨l1,hL1⟩:∃l,a.regs=l:=⟨_,rfl⟩
 obtain⟨m1,hM1⟩:∃l,b.regs=l:=⟨_,rfl⟩
 rw[hL1]at hl1 HV1 ⊢;rw[hM1]at hm1 HU1 ⊢;obtain⟨l2,hL2⟩:∃l,a.slots=l:=⟨_,rfl⟩
 obtain⟨m2,hM2⟩:∃l,b.slots=l:=⟨_,rfl⟩
 rw[hL2]at hl2 HV2 ⊢;rw[hM2]at hm2 HU2 ⊢;obtain⟨l3,hL3⟩:∃l,a.list=l:=⟨_,rfl⟩
 obtain⟨m3,hM3⟩:∃l,b.list=l:=⟨_,rfl⟩
 rw[hL3]at hl3 HV3 ⊢;rw[hM3]at hm3 HU3 ⊢;clear hL0 hL1 hL2 hL3 hM0 hM1 hM2 hM3;have HLE0:Hid (l0.length=m0.length->(l0=m0↔∀j (h1:j<l0.length) (h2:j<m0.length),l0[j]=m0[j])):=fun hne=>⟨fun e=>by subst e;exact fun j h1 h2=>rfl,fun h=>List.ext_getElem hne h⟩
 obtain⟨N0,hN0⟩:∃N,l0.length=N:=⟨_,rfl⟩
 obtain⟨M0,hM0⟩:∃N,m0.length=N:=⟨_,rfl⟩
 rw[hN0]at hl0 HV0 ⊢;rw[hM0]at hm0 HU0 ⊢;have HN0:Hid (l0.length=N0):=hN0;have HM0:Hid (m0.length=M0):=hM0;have HLE1:Hid (l1.length=m1.length->(l1=m1↔∀j (h1:j<l1.length) (h2:j<m1.length),l1[j]=m1[j])):=fun hne=>⟨fun e=>by subst e;exact fun j h1 h2=>rfl,fun h=>List.ext_getElem hne h⟩
 obtain⟨N1,hN1⟩:∃N,l1.length=N:=⟨_,rfl⟩
 obtain⟨M1,hM1⟩:∃N,m1.length=N:=⟨_,rfl⟩
 rw[hN1]at hl1 HV1 ⊢;rw[hM1]at hm1 HU1 ⊢;have HN1:Hid (l1.length=N1):=hN1;have HM1:Hid (m1.length=M1):=hM1;have HLE2:Hid (l2.length=m2.length->(l2=m2↔∀j (h1:j<l2.length) (h2:j<m2.length),l2[j]=m2[j])):=fun hne=>⟨fun e=>by subst e;exact fun j h1 h2=>rfl,fun h=>List.ext_getElem hne h⟩
 obtain⟨N2,hN2⟩:∃N,l2.length=N:=⟨_,rfl⟩
 obtain⟨M2,hM2⟩:∃N,m2.length=N:=⟨_,rfl⟩
 rw[hN2]at hl2 HV2 ⊢;rw[hM2]at hm2 HU2 ⊢;have HN2:Hid (l2.length=N2):=hN2;have HM2:Hid (m2.length=M2):=hM2;have HLE3:Hid (l3.length=m3.length->(l3=m3↔∀j (h1:j<l3.length) (h2:j<m3.length),l3[j]=m3[j])):=fun hne=>⟨fun e=>by subst e;exact fun j h1 h2=>rfl,fun h=>List.ext_getElem hne h⟩
 obtain⟨N3,hN3⟩:∃N,l3.length=N:=⟨_,rfl⟩
 obtain⟨M3,hM3⟩:∃N,m3.length=N:=⟨_,rfl⟩
 rw[hN3]at hl3 HV3 ⊢;rw[hM3]at hm3 HU3 ⊢;have HN3:Hid (l3.length=N3):=hN3;have HM3:Hid (m3.length=M3):=hM3;obtain⟨R,hR⟩:∃R,(decide (l0=m0)&&(decide (l1=m1)&&(decide (l2=m2)&&decide (l3=m3))))=R:=⟨_,rfl⟩
 rw[hR];have HR:Hid ((decide (l0=m0)&&(decide (l1=m1)&&(decide (l2=m2)&&decide (l3=m3))))=R):=hR;have HBX:Hid (∀v,Below ((w.alloc (.cells #[.slice p0 N0 c0,.slice p1 N1 c1,.slice p2 N2 c2,.slice p3 N3 c3] 27)).alloc (.cells #[.slice q0 M0 d0,.slice q1 M1 d1,.slice q2 M2 d2,.slice q3 M3 d3] 27)).heap.size ((w.alloc (.cells #[.slice p0 N0 c0,.slice p1 N1 c1,.slice p2 N2 c2,.slice p3 N3 c3] 27)).alloc (.cells #[.slice q0 M0 d0,.slice q1 M1 d1,.slice q2 M2 d2,.slice q3 M3 d3] 27)) v->(v.cell? ⟨w.heap.size,0,none⟩=some (.slice p0 N0 c0)/\v.cell? ⟨w.heap.size,1,none⟩=some (.slice p1 N1 c1)/\v.cell? ⟨w.heap.size,2,none⟩=some (.slice p2 N2 c2)/\v.cell? ⟨w.heap.size,3,none⟩=some (.slice p3 N3 c3))/\v.cell? ⟨w.heap.size+1,0,none⟩=some (.slice q0 M0 d0)/\v.cell? ⟨w.heap.size+1,1,none⟩=some (.slice q1 M1 d1)/\v.cell? ⟨w.heap.size+1,2,none⟩=some (.slice q2 M2 d2)/\v.cell? ⟨w.heap.size+1,3,none⟩=some (.slice q3 M3 d3)):=fun v k=>LL k;have HB0:Hid (Below w.heap.size w ((w.alloc (.cells #[.slice p0 N0 c0,.slice p1 N1 c1,.slice p2 N2 c2,.slice p3 N3 c3] 27)).alloc (.cells #[.slice q0 M0 d0,.slice q1 M1 d1,.slice q2 M2 d2,.slice q3 M3 d3] 27))):=bel (A0 _ _) (A0 _ _);clear hN0 hN1 hN2 hN3 hM0 hM1 hM2 hM3 hR;by_cases e0:N0=M0
 case neg=>
  have hf:R=false:=by
   rw[←HR.out];have:decide (l0=m0)=false:=decide_eq_false fun e=>e0 (by rw[←HN0.out,←HM0.out,e]);rw[this];simp
  subst hf;have h1:((N0:Int)==(M0:Int))=false:=by have:(N0:Int)≠(M0:Int):=oM;simpa using this
  have h2:((N0:Int) != (M0:Int))=true:=by have:(N0:Int)≠(M0:Int):=oM;simpa using this
  have h3:(N0==M0)=false:=by simpa using e0
  clear HV0 HV1 HV2 HV3 HU0 HU1 HU2 HU3 HLE0 HLE1 HLE2 HLE3 e0;exact QB
 subst e0;by_cases e1:N1=M1
 case neg=>
  have hf:R=false:=by
   rw[←HR.out];have:decide (l1=m1)=false:=decide_eq_false fun e=>e1 (by rw[←HN1.out,←HM1.out,e]);rw[this];simp
  subst hf;have h1:((N1:Int)==(M1:Int))=false:=by have:(N1:Int)≠(M1:Int):=oM;simpa using this
  have h2:((N1:Int) != (M1:Int))=true:=by have:(N1:Int)≠(M1:Int):=oM;simpa using this
  have h3:(N1==M1)=false:=by simpa using e1
  clear HV0 HV1 HV2 HV3 HU0 HU1 HU2 HU3 HLE0 HLE1 HLE2 HLE3 e1;exact QB
 subst e1;by_cases e2:N2=M2
 case neg=>
  have hf:R=false:=by
   rw[←HR.out];have:decide (l2=m2)=false:=decide_eq_false fun e=>e2 (by rw[←HN2.out,←HM2.out,e]);rw[this];simp
  subst hf;have h1:((N2:Int)==(M2:Int))=false:=by have:(N2:Int)≠(M2:Int):=oM;simpa using this
  have h2:((N2:Int) != (M2:Int))=true:=by have:(N2:Int)≠(M2:Int):=oM;simpa using this
  have h3:(N2==M2)=false:=by simpa using e2
  clear HV0 HV1 HV2 HV3 HU0 HU1 HU2 HU3 HLE0 HLE1 HLE2 HLE3 e2;exact QB
 subst e2;by_cases e3:N3=M3
 case neg=>
  have hf:R=false:=by
   rw[←HR.out];have:decide (l3=m3)=false:=decide_eq_false fun e=>e3 (by rw[←HN3.out,←HM3.out,e]);rw[this];simp
  subst hf;have h1:((N3:Int)==(M3:Int))=false:=by have:(N3:Int)≠(M3:Int):=oM;simpa using this
  have h2:((N3:Int) != (M3:Int))=true:=by have:(N3:Int)≠(M3:Int):=oM;simpa using this
  have h3:(N3==M3)=false:=by simpa using e3
  clear HV0 HV1 HV2 HV3 HU0 HU1 HU2 HU3 HLE0 HLE1 HLE2 HLE3 e3;exact QB
 subst e3;go_enter func8,ntmps8;go_wp2;obtain⟨V,hV⟩:∃V,((w.alloc (.cells #[.slice p0 N0 c0,.slice p1 N1 c1,.slice p2 N2 c2,.slice p3 N3 c3] 27)).alloc (.cells #[.slice q0 N0 d0,.slice q1 N1 d1,.slice q2 N2 d2,.slice q3 N3 d3] 27))=V:=⟨_,rfl⟩
 rw[hV]at HBX HB0 ⊢;have HBV:Hid (∀v,Below V.heap.size V v->(v.cell? ⟨w.heap.size,0,none⟩=some (.slice p0 N0 c0)/\v.cell? ⟨w.heap.size,1,none⟩=some (.slice p1 N1 c1)/\v.cell? ⟨w.heap.size,2,none⟩=some (.slice p2 N2 c2)/\v.cell? ⟨w.heap.size,3,none⟩=some (.slice p3 N3 c3))/\v.cell? ⟨w.heap.size+1,0,none⟩=some (.slice q0 N0 d0)/\v.cell? ⟨w.heap.size+1,1,none⟩=some (.slice q1 N1 d1)/\v.cell? ⟨w.heap.size+1,2,none⟩=some (.slice q2 N2 d2)/\v.cell? ⟨w.heap.size+1,3,none⟩=some (.slice q3 N3 d3)):=HBX.out;obtain⟨⟨z0,z1,z2,z3⟩,y0,y1,y2,y3⟩:=HBV.out V (C9 V);clear HBX hV
 go_loopw [5] (fun iv wr=>Below V.heap.size V wr/\∃j:Nat,j<=N0/\iv=.int .i64 j/\Hid (∀i (h1:i<l0.length) (h2:i<m0.length),i<j->l0[i]=m0[i])) (fun iv _=>N0-(intOf iv).toNat)
 case atStart=>exact⟨C9 V,0,Nat.zero_le _,rfl,fun i _ _ hi=>absurd hi (Nat.not_lt_zero _)⟩
 case round=>
  obtain⟨hbv,j,hj,rfl,hp⟩:=hrel;obtain⟨⟨g0,g1,g2,g3⟩,g4,g5,g6,g7⟩:=HBV.out wr hbv;by_cases hlt:j<N0
  ·have h1:j<l0.length:=by rw[HN0.out];exact hlt
   have h2:j<m0.length:=by rw[HM0.out];exact hlt
   obtain⟨b,o,rfl,hx⟩:=HV0.out.at h1;obtain⟨b',o',rfl,hy⟩:=HU0.out.at h2;have hx':=hx.below (bel HB0.out hbv);have hy':=hy.below (bel HB0.out hbv);have x0:=hx'.at 0 rfl;have w0:=hy'.at 0 rfl;have x1:=hx'.at 1 rfl;have w1:=hy'.at 1 rfl;have x2:=hx'.at 2 rfl;have w2:=hy'.at 2 rfl;rw[Nat.add_zero]at x0 w0;have NE:=OB l0[j] m0[j];have NX:Hid (l0[j]=m0[j]->∀i (h1:i<l0.length) (h2:i<m0.length),i<j+1->l0[i]=m0[i]):=fun e i h1 h2 hi=>by
    exact QE
   have NB:Hid (¬l0[j]=m0[j]->R=false):=fun e=>by
    rw[←HR.out];have:decide (l0=m0)=false:=decide_eq_false fun e2=>e ((HLE0.out (by rw[HN0.out,HM0.out])).1 e2 j h1 h2);rw[this];simp
   obtain⟨X,hX⟩:∃X,l0[j]=X:=⟨_,rfl⟩
   obtain⟨Y,hY⟩:∃Y,m0[j]=Y:=⟨_,rfl⟩
   rw[hX]at x0 x1 x2 NX NB;rw[hY]at w0 w1 w2 NX NB;simp only[hX,hY]at NE;obtain⟨D,hD⟩:∃D,decide (X=Y)=D:=⟨_,rfl⟩
   simp only[hD]at NE;unfold pv at NE;have HNE:Hid (∀w,(binOp .neq 42 (.agg #[.string X.name,.int .i64 X.kind,.int .i64 X.len]) (.agg #[.string Y.name,.int .i64 Y.kind,.int .i64 Y.len])).run prog w=.ok (.bool (!D)) w):=NE;have i1:(0:Int)<=(j:Int):=oM;have i2:(j:Int)<(N0:Int):=oM;clear NE hX hY hp hx hy hx' hy';cases D
   ·have HB:Hid (¬X=Y):=(show¬X=Y from of_decide_eq_false hD)
    clear hD;go_wp2;refine rG (fun v=>v.cell? ⟨w.heap.size,0,none⟩=some (.slice (some ⟨b,o,none⟩) N0 c0)/\v.cell? ⟨w.heap.size+1,0,none⟩=some (.slice (some ⟨b',o',none⟩) N0 d0)/\v.cell? ⟨b,o+j*3,none⟩=some (.string X.name)/\v.cell? ⟨b,o+j*3+1,none⟩=some (.int .i64 X.kind)/\v.cell? ⟨b,o+j*3+2,none⟩=some (.int .i64 X.len)/\v.cell? ⟨b',o'+j*3,none⟩=some (.string Y.name)/\v.cell? ⟨b',o'+j*3+1,none⟩=some (.int .i64 Y.kind)/\v.cell? ⟨b',o'+j*3+2,none⟩=some (.int .i64 Y.len)) fun hHeld=>?_;refine Tf 0 1 2 3 4 5 ?_;refine Tc 6 7 8 ?_;refine Bw 9 ?_;clear hHeld;refine Ax 10 fun K hK=>?_;refine Ch rF _ _ _ _ rF _ _ _ rF rF (JK _ _ X Y _) (HNE.out _) ?_;exact Qy
   ·have HE:Hid (X=Y):=(show X=Y from of_decide_eq_true hD)
    clear hD;go_wp2;refine rG (fun v=>v.cell? ⟨w.heap.size,0,none⟩=some (.slice (some ⟨b,o,none⟩) N0 c0)/\v.cell? ⟨w.heap.size+1,0,none⟩=some (.slice (some ⟨b',o',none⟩) N0 d0)/\v.cell? ⟨b,o+j*3,none⟩=some (.string X.name)/\v.cell? ⟨b,o+j*3+1,none⟩=some (.int .i64 X.kind)/\v.cell? ⟨b,o+j*3+2,none⟩=some (.int .i64 X.len)/\v.cell? ⟨b',o'+j*3,none⟩=some (.string Y.name)/\v.cell? ⟨b',o'+j*3+1,none⟩=some (.int .i64 Y.kind)/\v.cell? ⟨b',o'+j*3+2,none⟩=some (.int .i64 Y.len)) fun hHeld=>?_;refine Tf 0 1 2 3 4 5 ?_;refine Tc 6 7 8 ?_;refine Bw 9 ?_;clear hHeld;refine Ax 10 fun K hK=>?_;refine Ch rF _ _ _ _ rF _ _ _ rF rF (JK _ _ X Y _) (HNE.out _) ?_;exact Qv
  ·have hjN:j=N0:=oM;have HF0:Hid (l0=m0):=(HLE0.out (by rw[HN0.out,HM0.out])).2 fun i h1 h2=>hp.out i h1 h2 (by rw[hjN,←HN0.out];exact h1);have HBW0:Hid (Below V.heap.size V wr):=hbv;subst hjN;clear hp hbv;go_wp2
   go_loopw [6] (fun iv wr=>Below V.heap.size V wr/\∃j:Nat,j<=N1/\iv=.int .i64 j/\Hid (∀i (h1:i<l1.length) (h2:i<m1.length),i<j->l1[i]=m1[i])) (fun iv _=>N1-(intOf iv).toNat)
   case atStart=>exact⟨HBW0.out,0,Nat.zero_le _,rfl,fun i _ _ hi=>absurd hi (Nat.not_lt_zero _)⟩
   case round=>
    obtain⟨hbv,j,hj,rfl,hp⟩:=hrel;obtain⟨⟨g0,g1,g2,g3⟩,g4,g5,g6,g7⟩:=HBV.out wr hbv;by_cases hlt:j<N1
    ·have h1:j<l1.length:=by rw[HN1.out];exact hlt
     have h2:j<m1.length:=by rw[HM1.out];exact hlt
     obtain⟨b,o,rfl,hx⟩:=HV1.out.at h1;obtain⟨b',o',rfl,hy⟩:=HU1.out.at h2;have hx':=hx.below (bel HB0.out hbv);have hy':=hy.below (bel HB0.out hbv);have x0:=hx'.at 0 rfl;have w0:=hy'.at 0 rfl;have x1:=hx'.at 1 rfl;have w1:=hy'.at 1 rfl;rw[Nat.add_zero]at x0 w0;have NE:=PF l1[j] m1[j];have NX:Hid (l1[j]=m1[j]->∀i (h1:i<l1.length) (h2:i<m1.length),i<j+1->l1[i]=m1[i]):=fun e i h1 h2 hi=>by
      exact QE
     have NB:Hid (¬l1[j]=m1[j]->R=false):=fun e=>by
      rw[←HR.out];have:decide (l1=m1)=false:=decide_eq_false fun e2=>e ((HLE1.out (by rw[HN1.out,HM1.out])).1 e2 j h1 h2);rw[this];simp
     obtain⟨X,hX⟩:∃X,l1[j]=X:=⟨_,rfl⟩
     obtain⟨Y,hY⟩:∃Y,m1[j]=Y:=⟨_,rfl⟩
     rw[hX]at x0 x1 NX NB;rw[hY]at w0 w1 NX NB;simp only[hX,hY]at NE;obtain⟨D,hD⟩:∃D,decide (X=Y)=D:=⟨_,rfl⟩
     simp only[hD]at NE;unfold CP at NE;have HNE:Hid (∀w,(binOp .neq 50 (.agg #[.int .i64 X.kind,.int .i64 X.par]) (.agg #[.int .i64 Y.kind,.int .i64 Y.par])).run prog w=.ok (.bool (!D)) w):=NE;have i1:(0:Int)<=(j:Int):=oM;have i2:(j:Int)<(N1:Int):=oM;clear NE hX hY hp hx hy hx' hy';cases D
     ·have HB:Hid (¬X=Y):=(show¬X=Y from of_decide_eq_false hD)
      clear hD;go_wp2;refine rG (fun v=>v.cell? ⟨w.heap.size,1,none⟩=some (.slice (some ⟨b,o,none⟩) N1 c1)/\v.cell? ⟨w.heap.size+1,1,none⟩=some (.slice (some ⟨b',o',none⟩) N1 d1)/\v.cell? ⟨b,o+j*2,none⟩=some (.int .i64 X.kind)/\v.cell? ⟨b,o+j*2+1,none⟩=some (.int .i64 X.par)/\v.cell? ⟨b',o'+j*2,none⟩=some (.int .i64 Y.kind)/\v.cell? ⟨b',o'+j*2+1,none⟩=some (.int .i64 Y.par)) fun hHeld=>?_;refine Tf 0 1 2 3 4 5 ?_;refine Tc 6 7 8 ?_;refine Bw 9 ?_;clear hHeld;refine Ax 10 fun K hK=>?_;refine Ch rF _ _ _ _ rF _ _ _ rF rF (M9 _ _ X Y _) (HNE.out _) ?_;exact Qy
     ·have HE:Hid (X=Y):=(show X=Y from of_decide_eq_true hD)
      clear hD;go_wp2;refine rG (fun v=>v.cell? ⟨w.heap.size,1,none⟩=some (.slice (some ⟨b,o,none⟩) N1 c1)/\v.cell? ⟨w.heap.size+1,1,none⟩=some (.slice (some ⟨b',o',none⟩) N1 d1)/\v.cell? ⟨b,o+j*2,none⟩=some (.int .i64 X.kind)/\v.cell? ⟨b,o+j*2+1,none⟩=some (.int .i64 X.par)/\v.cell? ⟨b',o'+j*2,none⟩=some (.int .i64 Y.kind)/\v.cell? ⟨b',o'+j*2+1,none⟩=some (.int .i64 Y.par)) fun hHeld=>?_;refine Tf 0 1 2 3 4 5 ?_;refine Tc 6 7 8 ?_;refine Bw 9 ?_;clear hHeld;refine Ax 10 fun K hK=>?_;refine Ch rF _ _ _ _ rF _ _ _ rF rF (M9 _ _ X Y _) (HNE.out _) ?_;exact Qv
    ·have hjN:j=N1:=oM;have HF1:Hid (l1=m1):=(HLE1.out (by rw[HN1.out,HM1.out])).2 fun i h1 h2=>hp.out i h1 h2 (by rw[hjN,←HN1.out];exact h1);have HBW1:Hid (Below V.heap.size V wr):=hbv;subst hjN;clear hp hbv;go_wp2
     go_loopw [7] (fun iv wr=>Below V.heap.size V wr/\∃j:Nat,j<=N2/\iv=.int .i64 j/\Hid (∀i (h1:i<l2.length) (h2:i<m2.length),i<j->l2[i]=m2[i])) (fun iv _=>N2-(intOf iv).toNat)
     case atStart=>exact⟨HBW1.out,0,Nat.zero_le _,rfl,fun i _ _ hi=>absurd hi (Nat.not_lt_zero _)⟩
     case round=>
      obtain⟨hbv,j,hj,rfl,hp⟩:=hrel;obtain⟨⟨g0,g1,g2,g3⟩,g4,g5,g6,g7⟩:=HBV.out wr hbv;by_cases hlt:j<N2
      ·have h1:j<l2.length:=by rw[HN2.out];exact hlt
       have h2:j<m2.length:=by rw[HM2.out];exact hlt
       obtain⟨b,o,rfl,hx⟩:=HV2.out.at h1;obtain⟨b',o',rfl,hy⟩:=HU2.out.at h2;have hx':=hx.below (bel HB0.out hbv);have hy':=hy.below (bel HB0.out hbv);have x0:=hx'.at 0 rfl;have w0:=hy'.at 0 rfl;have x1:=hx'.at 1 rfl;have w1:=hy'.at 1 rfl;have x2:=hx'.at 2 rfl;have w2:=hy'.at 2 rfl;have x3:=hx'.at 3 rfl;have w3:=hy'.at 3 rfl;have x4:=hx'.at 4 rfl;have w4:=hy'.at 4 rfl;rw[Nat.add_zero]at x0 w0;have NE:=PE l2[j] m2[j];have NX:Hid (l2[j]=m2[j]->∀i (h1:i<l2.length) (h2:i<m2.length),i<j+1->l2[i]=m2[i]):=fun e i h1 h2 hi=>by
        exact QE
       have NB:Hid (¬l2[j]=m2[j]->R=false):=fun e=>by
        rw[←HR.out];have:decide (l2=m2)=false:=decide_eq_false fun e2=>e ((HLE2.out (by rw[HN2.out,HM2.out])).1 e2 j h1 h2);rw[this];simp
       obtain⟨X,hX⟩:∃X,l2[j]=X:=⟨_,rfl⟩
       obtain⟨Y,hY⟩:∃Y,m2[j]=Y:=⟨_,rfl⟩
       rw[hX]at x0 x1 x2 x3 x4 NX NB;rw[hY]at w0 w1 w2 w3 w4 NX NB;simp only[hX,hY]at NE;obtain⟨D,hD⟩:∃D,decide (X=Y)=D:=⟨_,rfl⟩
       simp only[hD]at NE;unfold LQ at NE;have HNE:Hid (∀w,(binOp .neq 55 (.agg #[.int .i64 X.ty.kind,.int .i64 X.ty.par,.bool X.keep,.int .u32 X.bits,.int .i64 X.int_]) (.agg #[.int .i64 Y.ty.kind,.int .i64 Y.ty.par,.bool Y.keep,.int .u32 Y.bits,.int .i64 Y.int_])).run prog w=.ok (.bool (!D)) w):=NE;have i1:(0:Int)<=(j:Int):=oM;have i2:(j:Int)<(N2:Int):=oM;clear NE hX hY hp hx hy hx' hy';cases D
       ·have HB:Hid (¬X=Y):=(show¬X=Y from of_decide_eq_false hD)
        clear hD;go_wp2;refine rG (fun v=>v.cell? ⟨w.heap.size,2,none⟩=some (.slice (some ⟨b,o,none⟩) N2 c2)/\v.cell? ⟨w.heap.size+1,2,none⟩=some (.slice (some ⟨b',o',none⟩) N2 d2)/\v.cell? ⟨b,o+j*5,none⟩=some (.int .i64 X.ty.kind)/\v.cell? ⟨b,o+j*5+1,none⟩=some (.int .i64 X.ty.par)/\v.cell? ⟨b,o+j*5+2,none⟩=some (.bool X.keep)/\v.cell? ⟨b,o+j*5+3,none⟩=some (.int .u32 X.bits)/\v.cell? ⟨b,o+j*5+4,none⟩=some (.int .i64 X.int_)/\v.cell? ⟨b',o'+j*5,none⟩=some (.int .i64 Y.ty.kind)/\v.cell? ⟨b',o'+j*5+1,none⟩=some (.int .i64 Y.ty.par)/\v.cell? ⟨b',o'+j*5+2,none⟩=some (.bool Y.keep)/\v.cell? ⟨b',o'+j*5+3,none⟩=some (.int .u32 Y.bits)/\v.cell? ⟨b',o'+j*5+4,none⟩=some (.int .i64 Y.int_)) fun hHeld=>?_;refine Tf 0 1 2 3 4 5 ?_;refine Tc 6 7 8 ?_;refine Bw 9 ?_;clear hHeld;refine Ax 10 fun K hK=>?_;refine Ch rF _ _ _ _ rF _ _ _ rF rF (M8 _ _ X Y _) (HNE.out _) ?_;exact Qy
       ·have HE:Hid (X=Y):=(show X=Y from of_decide_eq_true hD)
        clear hD;go_wp2;refine rG (fun v=>v.cell? ⟨w.heap.size,2,none⟩=some (.slice (some ⟨b,o,none⟩) N2 c2)/\v.cell? ⟨w.heap.size+1,2,none⟩=some (.slice (some ⟨b',o',none⟩) N2 d2)/\v.cell? ⟨b,o+j*5,none⟩=some (.int .i64 X.ty.kind)/\v.cell? ⟨b,o+j*5+1,none⟩=some (.int .i64 X.ty.par)/\v.cell? ⟨b,o+j*5+2,none⟩=some (.bool X.keep)/\v.cell? ⟨b,o+j*5+3,none⟩=some (.int .u32 X.bits)/\v.cell? ⟨b,o+j*5+4,none⟩=some (.int .i64 X.int_)/\v.cell? ⟨b',o'+j*5,none⟩=some (.int .i64 Y.ty.kind)/\v.cell? ⟨b',o'+j*5+1,none⟩=some (.int .i64 Y.ty.par)/\v.cell? ⟨b',o'+j*5+2,none⟩=some (.bool Y.keep)/\v.cell? ⟨b',o'+j*5+3,none⟩=some (.int .u32 Y.bits)/\v.cell? ⟨b',o'+j*5+4,none⟩=some (.int .i64 Y.int_)) fun hHeld=>?_;refine Tf 0 1 2 3 4 5 ?_;refine Tc 6 7 8 ?_;refine Bw 9 ?_;clear hHeld;refine Ax 10 fun K hK=>?_;refine Ch rF _ _ _ _ rF _ _ _ rF rF (M8 _ _ X Y _) (HNE.out _) ?_;exact Qv
      ·have hjN:j=N2:=oM;have HF2:Hid (l2=m2):=(HLE2.out (by rw[HN2.out,HM2.out])).2 fun i h1 h2=>hp.out i h1 h2 (by rw[hjN,←HN2.out];exact h1);have HBW2:Hid (Below V.heap.size V wr):=hbv;subst hjN;clear hp hbv;go_wp2
       go_loopw [8] (fun iv wr=>Below V.heap.size V wr/\∃j:Nat,j<=N3/\iv=.int .i64 j/\Hid (∀i (h1:i<l3.length) (h2:i<m3.length),i<j->l3[i]=m3[i])) (fun iv _=>N3-(intOf iv).toNat)
       case atStart=>exact⟨HBW2.out,0,Nat.zero_le _,rfl,fun i _ _ hi=>absurd hi (Nat.not_lt_zero _)⟩
       case round=>
        obtain⟨hbv,j,hj,rfl,hp⟩:=hrel;obtain⟨⟨g0,g1,g2,g3⟩,g4,g5,g6,g7⟩:=HBV.out wr hbv;by_cases hlt:j<N3
        ·have h1:j<l3.length:=by rw[HN3.out];exact hlt
         have h2:j<m3.length:=by rw[HM3.out];exact hlt
         obtain⟨b,o,rfl,hx⟩:=HV3.out.at h1;obtain⟨b',o',rfl,hy⟩:=HU3.out.at h2;have hx':=hx.below (bel HB0.out hbv);have hy':=hy.below (bel HB0.out hbv);have x0:=hx'.at 0 rfl;have w0:=hy'.at 0 rfl;have x1:=hx'.at 1 rfl;have w1:=hy'.at 1 rfl;have x2:=hx'.at 2 rfl;have w2:=hy'.at 2 rfl;have x3:=hx'.at 3 rfl;have w3:=hy'.at 3 rfl;have x4:=hx'.at 4 rfl;have w4:=hy'.at 4 rfl;have x5:=hx'.at 5 rfl;have w5:=hy'.at 5 rfl;have x6:=hx'.at 6 rfl;have w6:=hy'.at 6 rfl;rw[Nat.add_zero]at x0 w0;have NE:=OA l3[j] m3[j];have NX:Hid (l3[j]=m3[j]->∀i (h1:i<l3.length) (h2:i<m3.length),i<j+1->l3[i]=m3[i]):=fun e i h1 h2 hi=>by
          exact QE
         have NB:Hid (¬l3[j]=m3[j]->R=false):=fun e=>by
          rw[←HR.out];have:decide (l3=m3)=false:=decide_eq_false fun e2=>e ((HLE3.out (by rw[HN3.out,HM3.out])).1 e2 j h1 h2);rw[this];simp
         obtain⟨X,hX⟩:∃X,l3[j]=X:=⟨_,rfl⟩
         obtain⟨Y,hY⟩:∃Y,m3[j]=Y:=⟨_,rfl⟩
         rw[hX]at x0 x1 x2 x3 x4 x5 x6 NX NB;rw[hY]at w0 w1 w2 w3 w4 w5 w6 NX NB;simp only[hX,hY]at NE;obtain⟨D,hD⟩:∃D,decide (X=Y)=D:=⟨_,rfl⟩
         simp only[hD]at NE;unfold B9 at NE;have HNE:Hid (∀w,(binOp .neq 40 (.agg #[.int .i64 X.op,.int .i64 X.d,.int .i64 X.a,.int .i64 X.b,.int .i64 X.c,.int .i64 X.n,.int .u32 X.bits]) (.agg #[.int .i64 Y.op,.int .i64 Y.d,.int .i64 Y.a,.int .i64 Y.b,.int .i64 Y.c,.int .i64 Y.n,.int .u32 Y.bits])).run prog w=.ok (.bool (!D)) w):=NE;have i1:(0:Int)<=(j:Int):=oM;have i2:(j:Int)<(N3:Int):=oM;clear NE hX hY hp hx hy hx' hy';cases D
         ·have HB:Hid (¬X=Y):=(show¬X=Y from of_decide_eq_false hD)
          clear hD;go_wp2;refine rG (fun v=>v.cell? ⟨w.heap.size,3,none⟩=some (.slice (some ⟨b,o,none⟩) N3 c3)/\v.cell? ⟨w.heap.size+1,3,none⟩=some (.slice (some ⟨b',o',none⟩) N3 d3)/\v.cell? ⟨b,o+j*7,none⟩=some (.int .i64 X.op)/\v.cell? ⟨b,o+j*7+1,none⟩=some (.int .i64 X.d)/\v.cell? ⟨b,o+j*7+2,none⟩=some (.int .i64 X.a)/\v.cell? ⟨b,o+j*7+3,none⟩=some (.int .i64 X.b)/\v.cell? ⟨b,o+j*7+4,none⟩=some (.int .i64 X.c)/\v.cell? ⟨b,o+j*7+5,none⟩=some (.int .i64 X.n)/\v.cell? ⟨b,o+j*7+6,none⟩=some (.int .u32 X.bits)/\v.cell? ⟨b',o'+j*7,none⟩=some (.int .i64 Y.op)/\v.cell? ⟨b',o'+j*7+1,none⟩=some (.int .i64 Y.d)/\v.cell? ⟨b',o'+j*7+2,none⟩=some (.int .i64 Y.a)/\v.cell? ⟨b',o'+j*7+3,none⟩=some (.int .i64 Y.b)/\v.cell? ⟨b',o'+j*7+4,none⟩=some (.int .i64 Y.c)/\v.cell? ⟨b',o'+j*7+5,none⟩=some (.int .i64 Y.n)/\v.cell? ⟨b',o'+j*7+6,none⟩=some (.int .u32 Y.bits)) fun hHeld=>?_;refine Tf 0 1 2 3 4 5 ?_;refine Tc 6 7 8 ?_;refine Bw 9 ?_;clear hHeld;refine Ax 10 fun K hK=>?_;refine Ch rF _ _ _ _ rF _ _ _ rF rF (JJ _ _ X Y _) (HNE.out _) ?_;exact Qy
         ·have HE:Hid (X=Y):=(show X=Y from of_decide_eq_true hD)
          clear hD;go_wp2;refine rG (fun v=>v.cell? ⟨w.heap.size,3,none⟩=some (.slice (some ⟨b,o,none⟩) N3 c3)/\v.cell? ⟨w.heap.size+1,3,none⟩=some (.slice (some ⟨b',o',none⟩) N3 d3)/\v.cell? ⟨b,o+j*7,none⟩=some (.int .i64 X.op)/\v.cell? ⟨b,o+j*7+1,none⟩=some (.int .i64 X.d)/\v.cell? ⟨b,o+j*7+2,none⟩=some (.int .i64 X.a)/\v.cell? ⟨b,o+j*7+3,none⟩=some (.int .i64 X.b)/\v.cell? ⟨b,o+j*7+4,none⟩=some (.int .i64 X.c)/\v.cell? ⟨b,o+j*7+5,none⟩=some (.int .i64 X.n)/\v.cell? ⟨b,o+j*7+6,none⟩=some (.int .u32 X.bits)/\v.cell? ⟨b',o'+j*7,none⟩=some (.int .i64 Y.op)/\v.cell? ⟨b',o'+j*7+1,none⟩=some (.int .i64 Y.d)/\v.cell? ⟨b',o'+j*7+2,none⟩=some (.int .i64 Y.a)/\v.cell? ⟨b',o'+j*7+3,none⟩=some (.int .i64 Y.b)/\v.cell? ⟨b',o'+j*7+4,none⟩=some (.int .i64 Y.c)/\v.cell? ⟨b',o'+j*7+5,none⟩=some (.int .i64 Y.n)/\v.cell? ⟨b',o'+j*7+6,none⟩=some (.int .u32 Y.bits)) fun hHeld=>?_;refine Tf 0 1 2 3 4 5 ?_;refine Tc 6 7 8 ?_;refine Bw 9 ?_;clear hHeld;refine Ax 10 fun K hK=>?_;refine Ch rF _ _ _ _ rF _ _ _ rF rF (JJ _ _ X Y _) (HNE.out _) ?_;exact Qv
        ·have hjN:j=N3:=oM;have HF3:Hid (l3=m3):=(HLE3.out (by rw[HN3.out,HM3.out])).2 fun i h1 h2=>hp.out i h1 h2 (by rw[hjN,←HN3.out];exact h1);have HBW3:Hid (Below V.heap.size V wr):=hbv;subst hjN;clear hp hbv;go_wp2;go_ret;exact⟨A8 (by rw[←HR.out,HF0.out,HF1.out,HF2.out,HF3.out];simp),bel HB0.out HBW3.out⟩


theorem AY(w:World):Below w.heap.size w w.drew:=(Below.refl _ _).drew
section
variable {T : Nat -> Prop} {E E' : Nat} {a : QQ} {c : Cd} {G P : List (List Int)} {X : Nat -> Value} {M : Nat} {m : Nat -> Option Value} {f : Fr} {w w1 w2 : World}
end





theorem A2{p:Prop}(h:p):Hid p:=h



section
variable {c : Cd} {G P : List (List Int)} {f : Fr} {i : Aa}
end

theorem Ie:∀x:Bt,∀u∈AP x,u.oneCell'=true:=fun x u hu=>by simp[AP]at hu;rcases hu with rfl|rfl|rfl<;>rfl
theorem P6:∀x:Ty,∀u∈Du x,u.oneCell'=true:=fun x u hu=>by simp[Du]at hu;rcases hu with rfl|rfl<;>rfl
theorem P5:∀x:Sl,∀u∈E8 x,u.oneCell'=true:=fun x u hu=>by simp[E8]at hu;rcases hu with rfl|rfl|rfl|rfl|rfl<;>rfl
theorem EY:(prog.info? 50).map (fun i=>(i.zero,i.size,i.bytes))=some (some (.agg #[.int .i64 0,.int .i64 0]),2,16):=kR
theorem EX:(prog.info? 55).map (fun i=>(i.zero,i.size,i.bytes))=some (some (.agg #[.int .i64 0,.int .i64 0,.bool false,.int .u32 0,.int .i64 0]),5,32):=kR
theorem O4{l:List Bt}{v:Value}{w:World}(h:AR 3 AP w v l)(hl:l.length*32<=140737488355328)(ty:TypeId):
 ∃v' w',(Builtin.append_ #[22,22] ty #[.slice none 0 0,v]).run prog w=.ok v' w'/\Below w.heap.size w w'/\w'.ownsRow w.heap.size 42 3 v' l.length (Am AP l):=by
 obtain⟨i0,hi0,hz0,hz1,hz2⟩:=info_parts FK;exact Ew dE D4 Ie underlying22 hi0 hz0 hz1 hz2 rfl h mL hl ty
theorem Pu{l:List Ty}{v:Value}{w:World}(h:AR 2 Du w v l)(hl:l.length*16<=140737488355328)(ty:TypeId):
 ∃v' w',(Builtin.append_ #[23,23] ty #[.slice none 0 0,v]).run prog w=.ok v' w'/\Below w.heap.size w w'/\w'.ownsRow w.heap.size 50 2 v' l.length (Am Du l):=by
 obtain⟨i0,hi0,hz0,hz1,hz2⟩:=info_parts EY;exact Ew dE Ec P6 underlying23 hi0 hz0 hz1 hz2 rfl h mL hl ty
theorem Ps{l:List Sl}{v:Value}{w:World}(h:AR 5 E8 w v l)(hl:l.length*32<=140737488355328)(ty:TypeId):
 ∃v' w',(Builtin.append_ #[24,24] ty #[.slice none 0 0,v]).run prog w=.ok v' w'/\Below w.heap.size w w'/\w'.ownsRow w.heap.size 55 5 v' l.length (Am E8 l):=by
 obtain⟨i0,hi0,hz0,hz1,hz2⟩:=info_parts EX;exact Ew dE E9 P5 underlying24 hi0 hz0 hz1 hz2 rfl h mL hl ty
def f4(a b c d:Value)(j:Nat):Value:=if j=0 then a else if j=1 then b else if j=2 then c else d
structure CW(w:World)(v0 v1 v2 v3 x0 x1 x2 x3:Value)(v:World):Prop where
 bel:Below w.heap.size w v
 c:Ai v w.heap.size 0 [v0,v1,v2,v3]
 r:v.rowIs (w.heap.size+1) 27 4 (f4 (.slice none 0 0) (.slice none 0 0) (.slice none 0 0) (.slice none 0 0))
 d:v.rowIs (w.heap.size+1+1) 27 4 (f4 x0 x1 x2 x3)
theorem CW.app{w:World}{v0 v1 v2 v3 x0 x1 x2 x3:Value}{v v':World}(h:CW w v0 v1 v2 v3 x0 x1 x2 x3 v)(k:Below v.heap.size v v'):CW w v0 v1 v2 v3 x0 x1 x2 x3 v':=
 ⟨Go.Proofs.Ytnbccaicijcklaa.bel h.bel k,h.c.below k,h.r.of_block (k.block _ h.r.lt),h.d.of_block (k.block _ h.d.lt)⟩
theorem CW.put{w:World}{v0 v1 v2 v3 x0 x1 x2 x3 y0 y1 y2 y3:Value}{v:World}(h:CW w v0 v1 v2 v3 x0 x1 x2 x3 v)(i:Nat)(x:Value)(e:∀j,j<4->(if j=i then x else f4 x0 x1 x2 x3 j)=f4 y0 y1 y2 y3 j):CW w v0 v1 v2 v3 y0 y1 y2 y3 (v.setCell ⟨w.heap.size+1+1,i,none⟩ x):=by
 have nb:∀b,b≠w.heap.size+1+1->(v.setCell ⟨w.heap.size+1+1,i,none⟩ x).heap[b]? =v.heap[b]? :=fun b hb=>Below.heap_setCell _ _ _ _ hb;exact⟨h.bel.setCell (by show w.heap.size<=w.heap.size+1+1;omega) _,h.c.of_block (nb _ oM),h.r.of_block (nb _ oM),(h.d.set i x).congr e⟩
theorem CW.start(w:World)(v0 v1 v2 v3:Value):CW w v0 v1 v2 v3 (.slice none 0 0) (.slice none 0 0) (.slice none 0 0) (.slice none 0 0) (((w.alloc (.cells #[v0,v1,v2,v3] 27)).alloc (.cells #[.slice none 0 0,.slice none 0 0,.slice none 0 0,.slice none 0 0] 27)).alloc (.cells #[.slice none 0 0,.slice none 0 0,.slice none 0 0,.slice none 0 0] 27)):=by
 have q:∀u:World,(u.alloc (.cells #[.slice none 0 0,.slice none 0 0,.slice none 0 0,.slice none 0 0] 27)).rowIs u.heap.size 27 4 (f4 (.slice none 0 0) (.slice none 0 0) (.slice none 0 0) (.slice none 0 0)):=fun u=>World.rowIs_alloc u #[.slice none 0 0,.slice none 0 0,.slice none 0 0,.slice none 0 0] 27 _ (fun i hi=>by
  have hi':i<4:=hi;obtain rfl|rfl|rfl|rfl:i=0\/i=1\/i=2\/i=3:=oM
  all_goals rfl)
 have h1:=q (w.alloc (.cells #[v0,v1,v2,v3] 27));have h2:=q ((w.alloc (.cells #[v0,v1,v2,v3] 27)).alloc (.cells #[.slice none 0 0,.slice none 0 0,.slice none 0 0,.slice none 0 0] 27));have s1:(w.alloc (.cells #[v0,v1,v2,v3] 27)).heap.size=w.heap.size+1:=sM;have s2:((w.alloc (.cells #[v0,v1,v2,v3] 27)).alloc (.cells #[.slice none 0 0,.slice none 0 0,.slice none 0 0,.slice none 0 0] 27)).heap.size=w.heap.size+1+1:=sM;rw[s1]at h1;rw[s2]at h2;refine⟨Go.Proofs.Ytnbccaicijcklaa.bel (Go.Proofs.Ytnbccaicijcklaa.bel (A0 _ _) (A0 _ _)) (A0 _ _),fun j hj=>?_,h1.alloc _,h2⟩;have hj':j<4:=hj;obtain rfl|rfl|rfl|rfl:j=0\/j=1\/j=2\/j=3:=oM
 all_goals simp[go_sem]
def Up(E:Nat)(v v':World):Prop:=v.heap.size<=v'.heap.size/\∀b,E<=b->b<v.heap.size->v'.heap[b]? =v.heap[b]?
theorem Up.of{E:Nat}{v v':World}(k:Below v.heap.size v v'):Up E v v':=⟨k.size,fun b _ hb=>k.block b hb⟩
theorem Up.set{E:Nat}(v:World){D:Nat}(hD:D<E)(i:Nat)(x:Value):Up E v (v.setCell ⟨D,i,none⟩ x):=⟨sM,fun b hb _=>Below.heap_setCell _ _ _ _ (by show b≠D;omega)⟩
theorem Up.trans{E:Nat}{a b c:World}(h:Up E a b)(k:Up E b c):Up E a c:=⟨Nat.le_trans h.1 k.1,fun x hx hl=>(k.2 x hx (Nat.lt_of_lt_of_le hl h.1)).trans (h.2 x hx hl)⟩
theorem Up.own{E B:Nat}{v v':World}{t:TypeId}{k n:Nat}{u:Value}{xs:List Value}(h:Up E v v')(ho:v.ownsRow B t k u n xs)(hB:E<=B):v'.ownsRow B t k u n xs:=A7 ho fun g hg=>h.2 g (Nat.le_trans hB (ho.lt g hg).1) (ho.lt g hg).2
structure NZ(B:Nat)(w:World)(u0 u1 u2 u3:Value)(c:Cd):Prop where
 sign:w.ownsRow B 42 3 u0 c.sign.length (Am AP c.sign)
 regs:w.ownsRow B 50 2 u1 c.regs.length (Am Du c.regs)
 slots:w.ownsRow B 55 5 u2 c.slots.length (Am E8 c.slots)
 list:w.ownsRow B 40 7 u3 c.list.length (Am Bf c.list)
structure Pm(c:Cd):Prop where
 s:c.sign.length*32<=140737488351232
 r:c.regs.length*16<=140737488351232
 l:c.slots.length*32<=140737488351232
 i:c.list.length*56<=140737488351232
end Go.Proofs.Ytnbccaicijcklaa
