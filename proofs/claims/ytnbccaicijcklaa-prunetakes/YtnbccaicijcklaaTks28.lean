import Derived.Test.YtnbccaicijcklaaTks1
import Derived.Test.YtnbccaicijcklaaTks27
import Derived.Test.YtnbccaicijcklaaTks26
import Derived.Test.YtnbccaicijcklaaTks19
import Derived.Test.YtnbccaicijcklaaTks23
import Derived.Deep.DeepCutAuto
import Derived.Test.YtnbccaicijcklaaTks16
import Derived.Lib.SliceRun
namespace Go.Proofs.Ytnbccaicijcklaa
open Go.RowKit Go.Proofs.Try
set_option linter.all false
set_option maxRecDepth 100000
set_option maxHeartbeats 16000000
theorem Pv(a b c d:Value):∀j,j<4->BV #[a,b,c,d] j=f4 a b c d j:=fun j hj=>by
 exact Pb
theorem Hh(v0 v1 v2 v3:Value)(c:Cd)(hk:Ba c)(w:World)(hv:BP w v0 v1 v2 v3 c)(hc:(Ah c).1≠0):
 Calls prog 7 #[.agg #[v0,v1,v2,v3]] w fun e w'=>e=.returned (.tuple #[.agg #[.slice none 0 0,.slice none 0 0,.slice none 0 0,.slice none 0 0],.int .i64 160])/\Below w.heap.size w w':=by
 have KC:Hid (∀v,Below w.heap.size w v->Calls prog 17 #[.agg #[v0,v1,v2,v3]] v fun e w'=>e=.returned (.tuple #[.int .i64 (Ah c).1,.int .i64 (Ah c).2])/\Below v.heap.size v w'):=fun v hvv=>EF v0 v1 v2 v3 c hk v (hv.below hvv);obtain⟨e1,he1⟩:∃e1,(Ah c).1=e1:=⟨_,rfl⟩
 obtain⟨e2,he2⟩:∃e2,(Ah c).2=e2:=⟨_,rfl⟩
 rw[he1]at hc KC;rw[he2]at KC;have n1:(e1 != 0)=true:=by simpa using hc
 have n2:(e1==0)=false:=by simpa using hc
 obtain⟨p0,q0,rfl⟩:∃p q,v0=.slice p c.sign.length q:=by obtain⟨p,q,e,_⟩:=hv.sign;exact⟨p,q,e⟩
 obtain⟨p1,q1,rfl⟩:∃p q,v1=.slice p c.regs.length q:=by obtain⟨p,q,e,_⟩:=hv.regs;exact⟨p,q,e⟩
 obtain⟨p2,q2,rfl⟩:∃p q,v2=.slice p c.slots.length q:=by obtain⟨p,q,e,_⟩:=hv.slots;exact⟨p,q,e⟩
 obtain⟨p3,q3,rfl⟩:∃p q,v3=.slice p c.list.length q:=by obtain⟨p,q,e,_⟩:=hv.list;exact⟨p,q,e⟩
 obtain⟨W0,hW0⟩:∃W,(w.alloc (.cells #[.slice p0 c.sign.length q0,.slice p1 c.regs.length q1,.slice p2 c.slots.length q2,.slice p3 c.list.length q3] 27)).alloc (.cells #[.slice none 0 0,.slice none 0 0,.slice none 0 0,.slice none 0 0] 27)=W:=⟨_,rfl⟩
 have HB0:Hid (Below w.heap.size w W0):=by rw[←hW0];exact bel (A0 _ _) (A0 _ _)
 have b0:W0.cell? ⟨w.heap.size,0,none⟩=some (.slice p0 c.sign.length q0):=by rw[←hW0];simp[go_sem]
 have b1:W0.cell? ⟨w.heap.size,1,none⟩=some (.slice p1 c.regs.length q1):=by rw[←hW0];simp[go_sem]
 have b2:W0.cell? ⟨w.heap.size,2,none⟩=some (.slice p2 c.slots.length q2):=by rw[←hW0];simp[go_sem]
 have b3:W0.cell? ⟨w.heap.size,3,none⟩=some (.slice p3 c.list.length q3):=by rw[←hW0];simp[go_sem]
 have HR:Hid (W0.rowIs (w.heap.size+1) 27 4 (BV #[.slice none 0 0,.slice none 0 0,.slice none 0 0,.slice none 0 0])):=by
  exact S4
 clear hv hk he1 he2;go_enter func7,ntmps7;go_upto_region 1 with fail;try rw[hW0]
 go_wp2_with(go_at_call 17;refine(KC.out _ HB0.out).mono ?_;rintro e w1 ⟨rfl,hb1⟩;have HB1:=A2 hb1;have HR1:=A2 (HR.out.of_block (hb1.block _ HR.out.lt));have r0:w1.cell? ⟨w.heap.size+1,0,none⟩=some (.slice none 0 0):=HR1.out.cell (i:=0) dE;have r1:w1.cell? ⟨w.heap.size+1,1,none⟩=some (.slice none 0 0):=HR1.out.cell (i:=1) dE;have r2:w1.cell? ⟨w.heap.size+1,2,none⟩=some (.slice none 0 0):=HR1.out.cell (i:=2) dE;have r3:w1.cell? ⟨w.heap.size+1,3,none⟩=some (.slice none 0 0):=HR1.out.cell (i:=3) dE;have f0:=HR1.out.frozen 0;have f1:=HR1.out.frozen 1;have f2:=HR1.out.frozen 2;have f3:=HR1.out.frozen 3;clear hb1);refine bodyPost_ret (by simp[results,results7,go_sem, *];try rfl) rfl ?_;exact SF
theorem Gn(v0 v1 v2 v3:Value)(c:Cd)(hk:Ba c)(w:World)(hv:BP w v0 v1 v2 v3 c)(hc:(Ah c).1=0):
 Calls prog 7 #[.agg #[v0,v1,v2,v3]] w fun e w'=>∃u0 u1 u2 u3,e=.returned (.tuple #[.agg #[u0,u1,u2,u3],.int .i64 0])/\BP w' u0 u1 u2 u3 (pruneC c)/\Below w.heap.size w w':=by
 obtain⟨hg,htk⟩:=GU hc;have KC:Hid (∀v,Below w.heap.size w v->Calls prog 17 #[.agg #[v0,v1,v2,v3]] v fun e w'=>e=.returned (.tuple #[.int .i64 0,.int .i64 (Ah c).2])/\Below v.heap.size v w'):=fun v hvv=>by have:=EF v0 v1 v2 v3 c hk v (hv.below hvv);rw[hc]at this;exact this
 obtain⟨e2,he2⟩:∃e2,(Ah c).2=e2:=⟨_,rfl⟩
 rw[he2]at KC;have hL1:=hg.listL;have hR1:=hg.regsL;have hS1:=hg.slotsL;have KN:Hid (∀v,Below w.heap.size w v->Calls prog 18 #[.agg #[v0,v1,v2,v3]] v fun e w'=>∃IB,e=.returned (.slice (some ⟨IB,0,none⟩) c.list.length c.list.length)/\w'.rowIs IB 4 c.list.length (fun j=>.bool (ndK c.list j))/\v.heap.size<=IB/\Below v.heap.size v w'):=fun v hvv=>H9 v0 v1 v2 v3 c hc hR1 hS1 hL1 v (hv.below hvv);have HVV:=A2 hv;have HRD:=A2 (fun k (hk:k<c.list.length)=>EG hc hk);have HSD:=A2 (fun k (hk:k<c.list.length) hs=>FA hc hk hs);have HSL:=A2 (fun k (hk:k<c.list.length) o=>CK hc hk o);have HUR:=A2 (fun(f:Nat->Bool) (h:Hm c.list c.list.length f)=>Hm.all hc h);have HUS:=A2 (fun(f:Nat->Bool) (h:Hn c.list c.list.length f)=>Hn.all h);have HRN:=A2 (fun(v:World) (nv mv:Value) (h1:v.ownsRow (w.heap.size+1+1) 3 1 nv c.regs.length (B2 ((List.range c.regs.length).map (EB (usR c.list))))) (h2:v.ownsRow (w.heap.size+1+1) 3 1 mv c.slots.length (B2 ((List.range c.slots.length).map (EB (usS c.list))))) (k:Nat) (hk:k<c.list.length) (hn:ndK c.list k=true)=>Ly (usR c.list) (usS c.list) c.regs.length c.slots.length c.list[k] (FM hc _ (List.getElem_mem hk)) (fun hs=>⟨(FA hc hk hs).1,(FA hc hk hs).2,Bq.2 ⟨k,hk,B0.1 hn,hs,rfl⟩⟩) (fun r hr=>⟨(EG hc hk r hr).1,(EG hc hk r hr).2,Cq (B8.1 hc).2.1 hk (B0.1 hn) hr⟩) (fun o=>by
  obtain⟨n,e1,e2⟩:=CK hc hk o
  exact⟨by rw[e1];omega,by rw[e1];omega,Dp.2 ⟨k,hk,B0.1 hn,o,rfl⟩⟩) v _ nv mv h1 h2)
 have HPC:Hid ((pruneC c).sign=c.sign/\(pruneC c).regs=Av (usR c.list) c.regs c.regs.length/\(pruneC c).slots=Av (usS c.list) c.slots c.slots.length/\(pruneC c).list=AH (ndK c.list) (Cz (Ak (usR c.list)) (Ak (usS c.list))) c.list c.list.length):=⟨rfl,(E5 _ _).symm,(E5 _ _).symm,rfl⟩
 obtain⟨p0,q0,rfl⟩:∃p q,v0=.slice p c.sign.length q:=by obtain⟨p,q,e,_⟩:=hv.sign;exact⟨p,q,e⟩
 obtain⟨p1,q1,rfl⟩:∃p q,v1=.slice p c.regs.length q:=by obtain⟨p,q,e,_⟩:=hv.regs;exact⟨p,q,e⟩
 obtain⟨p2,q2,rfl⟩:∃p q,v2=.slice p c.slots.length q:=by obtain⟨p,q,e,_⟩:=hv.slots;exact⟨p,q,e⟩
 obtain⟨p3,q3,rfl⟩:∃p q,v3=.slice p c.list.length q:=by obtain⟨p,q,e,_⟩:=hv.list;exact⟨p,q,e⟩
 obtain⟨M0,hM0⟩:∃N,c.sign.length=N:=⟨_,rfl⟩
 obtain⟨R,hRe⟩:∃N,c.regs.length=N:=⟨_,rfl⟩
 obtain⟨S,hSe⟩:∃N,c.slots.length=N:=⟨_,rfl⟩
 obtain⟨N,hNe⟩:∃N,c.list.length=N:=⟨_,rfl⟩
 have HNN:Hid (c.sign.length=M0/\c.regs.length=R/\c.slots.length=S/\c.list.length=N):=⟨hM0,hRe,hSe,hNe⟩
 simp only[hM0,hRe,hSe,hNe]at KC KN hL1 hR1 hS1 HVV ⊢;simp only[hRe]at HRD HSD;simp only[hSe]at HSL;rw[hRe,hSe]at HRN;obtain⟨E,hE⟩:∃E,w.heap.size=E:=⟨_,rfl⟩
 have HE:=A2 hE;obtain⟨W0,hW0⟩:∃W,(w.alloc (.cells #[.slice p0 M0 q0,.slice p1 R q1,.slice p2 S q2,.slice p3 N q3] 27)).alloc (.cells #[.slice none 0 0,.slice none 0 0,.slice none 0 0,.slice none 0 0] 27)=W:=⟨_,rfl⟩
 have HB0:Hid (Below w.heap.size w W0):=by rw[←hW0];exact bel (A0 _ _) (A0 _ _)
 have b0:W0.cell? ⟨E,0,none⟩=some (.slice p0 M0 q0):=by rw[←hW0,←hE];simp[go_sem]
 have b1:W0.cell? ⟨E,1,none⟩=some (.slice p1 R q1):=by rw[←hW0,←hE];simp[go_sem]
 have b2:W0.cell? ⟨E,2,none⟩=some (.slice p2 S q2):=by rw[←hW0,←hE];simp[go_sem]
 have b3:W0.cell? ⟨E,3,none⟩=some (.slice p3 N q3):=by rw[←hW0,←hE];simp[go_sem]
 have hRR:W0.rowIs (E+1) 27 4 (BV #[.slice none 0 0,.slice none 0 0,.slice none 0 0,.slice none 0 0]):=by
  have h9:=AN (w.alloc (.cells #[.slice p0 M0 q0,.slice p1 R q1,.slice p2 S q2,.slice p3 N q3] 27)) #[.slice none 0 0,.slice none 0 0,.slice none 0 0,.slice none 0 0] 27;rw[hW0,show(w.alloc (.cells #[.slice p0 M0 q0,.slice p1 R q1,.slice p2 S q2,.slice p3 N q3] 27)).heap.size=E+1 by simp[hE]]at h9;exact h9
 obtain⟨B,hB⟩:∃B,W0.heap.size=B:=⟨_,rfl⟩
 have hBE:B=E+1+1:=by rw[←hB,←hW0];simp[hE]
 have HBE:=A2 hBE;have HBS:Hid (W0.heap.size=B):=hB;rw[hE]at HRN;simp only[←hBE]at HRN;have HLOW:Hid (∀v,Below B W0 v->v.cell? ⟨E,0,none⟩=some (.slice p0 M0 q0)/\v.cell? ⟨E,1,none⟩=some (.slice p1 R q1)/\v.cell? ⟨E,2,none⟩=some (.slice p2 S q2)/\v.cell? ⟨E,3,none⟩=some (.slice p3 N q3)/\BP v (.slice p0 M0 q0) (.slice p1 R q1) (.slice p2 S q2) (.slice p3 N q3) c/\v.rowIs (E+1) 27 4 (BV #[.slice none 0 0,.slice none 0 0,.slice none 0 0,.slice none 0 0])/\Below w.heap.size w v):=fun v hb=>by
  have hb':Below W0.heap.size W0 v:=by rw[hB];exact hb
  exact⟨kc hb' b0,kc hb' b1,kc hb' b2,kc hb' b3,HVV.out.below (bel HB0.out hb'),hRR.of_block (hb'.block _ hRR.lt),bel HB0.out hb'⟩
 have HV0:Hid (∀v,Below w.heap.size w v->AR 3 AP v (.slice p0 M0 q0) c.sign):=fun v hb=>HVV.out.sign.below hb;have m2:=fun v=>DG R oM v;have m3:=fun v=>DG S oM v;clear hv hk he2 hc hg htk hM0 hRe hSe hNe HVV hRR hBE;go_enter func7,ntmps7;go_upto_region 1 with fail;try rw[hW0]
 try rw[hE]
 clear hW0;go_upto_region 4 with(go_at_call 17;(with_reducible refine(KC.out _ HB0.out).mono ?_);rintro e9 w1 ⟨rfl,hb1⟩;have HB1:Hid (Below B W0 w1):=(by rw[←hB];exact hb1);obtain⟨b0,b1,b2,b3,-⟩:=HLOW.out w1 HB1.out;clear hb1)
 have KN1:=A2 (KN.out w1 (HLOW.out w1 HB1.out).2.2.2.2.2.2);go_upto_region 5 with(go_at_call 18;(with_reducible refine(KN1.out).mono ?_);rintro e9 w2 ⟨IB,rfl,hr2,hg2,hb2⟩;have HR2:=A2 hr2;have HG2:=A2 hg2;have HB2:=A2 hb2;clear hr2 hg2 hb2)
 have hs1:B<=w1.heap.size:=by have:=HB1.out.size;rw[hB]at this;exact this
 have HS1:=A2 hs1;have HBB2:Hid (Below B W0 w2):=HB1.out.trans (HB2.out.mono hs1);clear b0 b1 b2 b3 KN1 KN KC hB hs1;obtain⟨b0,b1,b2,b3,-⟩:=HLOW.out w2 HBB2.out;obtain⟨W3,hW3⟩:∃W,w2.alloc (.cells (madeCells #[.bool false] R) 4)=W:=⟨_,rfl⟩
 obtain⟨W4,hW4⟩:∃W,W3.alloc (.cells (madeCells #[.bool false] S) 4)=W:=⟨_,rfl⟩
 have k3:Below w2.heap.size w2 W3:=by rw[←hW3];exact A0 _ _
 have k4:Below W3.heap.size W3 W4:=by rw[←hW4];exact A0 _ _
 have d2:=kc k3 b2;have d3:=kc k4 (kc k3 b3);have s3:W3.heap.size=w2.heap.size+1:=by rw[←hW3];simp
 have HP4:Hid (Hp B W0 N R S IB w2.heap.size (w2.heap.size+1) (ndK c.list) (fun _=>false) (fun _=>false) W4):=by
  show Hp _ _ _ _ _ _ _ _ _ _ _ _;rw[←s3];have r3:W3.rowIs w2.heap.size 4 R (fun _=>.bool false):=by rw[←hW3];exact World.rowIs_made w2 _ _ _
  have r4:W4.rowIs W3.heap.size 4 S (fun _=>.bool false):=by rw[←hW4];exact World.rowIs_made W3 _ _ _
  have k34:=bel k3 k4;have l1:=HR2.out.lt;have l2:=HS1.out;have l3:=HG2.out;have l4:=HB2.out.size;have l5:=k34.size;exact⟨HBB2.out.trans (k34.mono oM),HR2.out.of_block (k34.block _ HR2.out.lt),r3.of_block (k4.block _ r3.lt),r4,⟨oM,oM,oM⟩,⟨oM,oM,oM⟩,oM⟩
 go_upto_region 6 with fail;try rw[hW3]
 go_upto_region 7 with fail;try rw[hW4]
 try rw[s3]
 obtain⟨SB,hSB⟩:∃b,w2.heap.size+1=b:=⟨_,rfl⟩
 rw[hSB]at HP4;try rw[hSB]
 obtain⟨RB,hRB⟩:∃b,w2.heap.size=b:=⟨_,rfl⟩
 rw[hRB]at HP4;try rw[hRB]
 clear hRB hSB hW3 hW4 k3 k4 d2 d3 s3 b0 b1 b2 b3 m2 m3 HB2 HG2 HR2 HBB2 HS1 HB1;go_wp2
 go_loopw [9] (fun iv wx=>∃ (k:Nat) (fr fs:Nat->Bool),k<=N/\iv=.int .i64 (k:Int)/\Hid (Hp B W0 N R S IB RB SB (ndK c.list) fr fs wx/\Hm c.list k fr/\Hn c.list k fs)) (fun iv _=>N-(intOf iv).toNat)
 case atStart=>exact⟨0,_,_,Nat.zero_le _,rfl,HP4.out,Hm.zero _,Hn.zero _⟩
 case round=>
  clear HP4;rename World=>wa;obtain⟨k,fr,fs,hk,rfl,HJ⟩:=hrel;obtain⟨b0,b1,b2,b3,hcv,-⟩:=HLOW.out wa HJ.out.1.bel;by_cases hlt:k<N
  ·have hkl:k<c.list.length:=by have:=HNN.out.2.2.2;omega
   obtain⟨lb,lo,rfl,hcl⟩:=hcv.list.at hkl;have hik:=HJ.out.1.is.cell hlt;have i1:(0:Int)<=(k:Int):=oM;have i2:(k:Int)<(N:Int):=oM;have wi:IntKind.i64.wrap ((k:Int)+1)=((k+1:Nat):Int):=by rw[IntKind.wrap_i64];omega
   cases hnd:ndK c.list k with
   |false=>
    rw[hnd]at hik;have HQ:Hid (Hp B W0 N R S IB RB SB (ndK c.list) fr fs wa/\Hm c.list (k+1) fr/\Hn c.list (k+1) fs):=⟨HJ.out.1,HJ.out.2.1.skip hnd,HJ.out.2.2.skip hnd⟩
    clear hnd hcv hcl HJ;exact Q7
   |true=>
    rw[hnd]at hik;have HUQ:Hid (Hm c.list (k+1) (Em (if Ad c.list[k]=true then CI fr c.list[k].d.toNat else fr) (Dz c.list k))/\Hn c.list (k+1) (if c.list[k].op=32\/c.list[k].op=33 then CI fs c.list[k].n.toNat else fs)):=⟨HJ.out.2.1.more hkl hnd,HJ.out.2.2.more hkl hnd⟩
    have hRDk:=HRD.out k hkl;have hSDk:=HSD.out k hkl;have hSLk:=HSL.out k hkl;have hrdN:=F3 hkl;have KS:Hid (∀v,Calls prog 19 #[B9 c.list[k]] v fun e w'=>e=.returned (.bool (Ad c.list[k]))/\Below v.heap.size v w'):=fun v=>by rw[←G8];exact E7 _ v
    have KR:Hid (∀v,Calls prog 20 #[B9 c.list[k]] v fun e w'=>∃u,e=.returned u/\w'.ownsRow v.heap.size 3 1 u (A9 c.list[k] (A4 c.list[k].op)).length (B2 (A9 c.list[k] (A4 c.list[k].op)))/\Below v.heap.size v w'):=fun v=>CA _ v;have hM:=HJ.out.1;obtain⟨⟨op,d,a,b,e,n,z⟩,hi⟩:∃i,c.list[k]=i:=⟨_,rfl⟩
    rw[hi]at hcl hRDk hSDk hSLk hrdN KS KR HUQ;simp only at hSDk hSLk hRDk hrdN HUQ;unfold B9 at KS KR;simp only at KS KR;have y0:=hcl.at 0 (v:=.int .i64 op) rfl;rw[Nat.add_zero]at y0;have y1:=hcl.at 1 (v:=.int .i64 d) rfl;have y2:=hcl.at 2 (v:=.int .i64 a) rfl;have y3:=hcl.at 3 (v:=.int .i64 b) rfl;have y4:=hcl.at 4 (v:=.int .i64 e) rfl;have y5:=hcl.at 5 (v:=.int .i64 n) rfl;have y6:=hcl.at 6 (v:=.int .u32 z) rfl;obtain⟨V2,hV2⟩:∃V,wa.alloc (.cells #[.int .i64 op,.int .i64 d,.int .i64 a,.int .i64 b,.int .i64 e,.int .i64 n,.int .u32 z] 40)=V:=⟨_,rfl⟩
    have hV2b:Below wa.heap.size wa V2:=by rw[←hV2];exact A0 _ _
    have hX2:V2.rowIs wa.heap.size 40 7 (Dy op d a b e n z):=by rw[←hV2];exact AN wa _ _
    obtain⟨X,hX⟩:∃X,wa.heap.size=X:=⟨_,rfl⟩
    obtain⟨bx,hbx⟩:∃f,Dy op d a b e n z=f:=⟨_,rfl⟩
    rw[hX]at hX2;rw[hbx]at hX2;have HBX:Hid (∀v:World,v.rowIs X 40 7 bx->v.cell? ⟨X,0,none⟩=some (.int .i64 op)/\v.cell? ⟨X,1,none⟩=some (.int .i64 d)/\v.cell? ⟨X,2,none⟩=some (.int .i64 a)/\v.cell? ⟨X,3,none⟩=some (.int .i64 b)/\v.cell? ⟨X,4,none⟩=some (.int .i64 e)/\v.cell? ⟨X,5,none⟩=some (.int .i64 n)/\v.cell? ⟨X,6,none⟩=some (.int .u32 z)):=fun v h=>by
     exact SH
    obtain⟨x0,x1,x2,x3,x4,x5,x6⟩:=HBX.out V2 hX2;have HNB:Hid (KU B W0 N R S IB RB SB (ndK c.list) fr fs X bx (.slice none 0 0) [] V2):=⟨hM.below hV2b,hX2,World.ownsRow_nil _ _ _ 1⟩
    have HRK:=A2 hRDk;have HRN':=A2 hrdN;obtain⟨SD,hSD⟩:∃s,Ad (⟨op,d,a,b,e,n,z⟩:Aa)=s:=⟨_,rfl⟩
    rw[hSD]at KS hSDk HUQ;have HSLO:Hid (op=32\/op=33->∃M:Nat,n=(M:Int)/\M<S):=hSLk;clear hX2 hcl hi hM hV2b hRDk hrdN hbx HJ hSLk hSD hcv hnd;go_upto_region 12 with fail;try rw[hV2]
    try rw[hX]
    clear y0 y1 y2 y3 y4 y5 y6 hV2 hX hik b0 b1 b2 b3;have HNB':Hid (∀v,Below V2.heap.size V2 v->KU B W0 N R S IB RB SB (ndK c.list) fr fs X bx (.slice none 0 0) [] v):=fun v hb=>HNB.out.below hb;go_upto_if 55 with(go_at_call 19;(with_reducible refine(KS.out _).mono ?_);rintro e9 w4 ⟨rfl,hb4⟩;have HN4:=A2 (HNB'.out w4 hb4);clear hb4)
    clear x0 x1 x2 x3 x4 x5 x6 HNB HNB' KS;go_cut [] (fun wx=>Hid (KU B W0 N R S IB RB SB (ndK c.list) (if SD=true then CI fr d.toNat else fr) fs X bx (.slice none 0 0) [] wx))
    case first=>
     cases SD with
     |false=>
      go_wp2;go_meet;exact HN4.out
     |true=>
      obtain⟨d0,d1⟩:=hSDk rfl;obtain⟨D,rfl⟩:=Int.eq_ofNat_of_zero_le d0;have hDR:D<R:=oM;obtain⟨x0,x1,x2,x3,x4,x5,x6⟩:=HBX.out w4 HN4.out.x;have z1:=HN4.out.m.reg.cell hDR;have z2:=HN4.out.m.reg.frozen D;have j3:(0:Int)<=(D:Int):=oM;have j4:(D:Int)<(R:Int):=oM;clear hSDk d0 d1;go_wp2;go_meet;exact HN4.out.setR D
    case rest=>
     rename World=>V4;have HN5:=hcut;clear hcut HN4 hSDk;obtain⟨f1,hf1⟩:∃f,(if SD=true then CI fr d.toNat else fr)=f:=⟨_,rfl⟩
     rw[hf1]at HN5 HUQ;clear hf1;obtain⟨x0,x1,x2,x3,x4,x5,x6⟩:=HBX.out V4 HN5.out.x;have hrl:(A9 (⟨op,d,a,b,e,n,z⟩:Aa) (A4 op)).length<=3:=D6 _ _;obtain⟨rs,hrse⟩:∃r,A9 (⟨op,d,a,b,e,n,z⟩:Aa) (A4 op)=r:=⟨_,rfl⟩
     rw[hrse]at HRK HRN' KR hrl;obtain⟨RL,hRL⟩:∃r,rs.length=r:=⟨_,rfl⟩
     have HRL:=A2 hRL;have HRB:=A2 HRK.out;rw[hRL]at hrl;clear hrse hRL HRK;go_upto_region 15 with(go_at_call 20;(with_reducible refine(KR.out _).mono ?_);rintro e9 w2 ⟨rv,rfl,ho2,hb2⟩;have HN2:Hid (KU B W0 N R S IB RB SB (ndK c.list) (Em f1 ((Dz c.list k).take 0)) fs X bx rv rs w2):=(by rw[List.take_zero];have h9:=HN5.out.below hb2;exact⟨h9.m,h9.x,AM ho2 HN5.out.m.le⟩);obtain⟨pv,qv,hpv⟩:=Ao ho2;rw[HRL.out]at hpv;subst hpv;clear ho2 hb2)
     clear x0 x1 x2 x3 x4 x5 x6 HN5 KR;go_wp2
     go_loopw [12] (fun iv wx=>∃u:Nat,u<=RL/\iv=.int .i64 (u:Int)/\Hid (KU B W0 N R S IB RB SB (ndK c.list) (Em f1 ((Dz c.list k).take u)) fs X bx (.slice pv RL qv) rs wx)) (fun iv _=>RL-(intOf iv).toNat)
     case atStart=>exact⟨0,Nat.zero_le _,rfl,by exact HN2.out⟩
     case round=>
      clear HN2;rename World=>wy;obtain⟨u,hu,rfl,HU⟩:=hrel;by_cases hul:u<RL
      ·have hur:u<rs.length:=by have:=HRL.out;omega
       obtain⟨r0,r1⟩:=HRB.out _ (List.getElem_mem hur);obtain⟨g,cap,e9,g1,g2,g3,g4,g5⟩:=Bc HU.out.rr oM;have z0:=g5 u (.int .i64 rs[u]) (by simp[B2,hur]);rw[HRL.out]at e9;obtain⟨rn,hrn⟩:=Int.eq_ofNat_of_zero_le r0;have hrd:(Dz c.list k)[u]? =some rn:=by
        have:=HRN'.out;exact Rb
       obtain⟨hu1,hu2⟩:=List.getElem?_eq_some_iff.1 hrd;have hrR:rn<R:=oM;have z1:=HU.out.m.reg.cell hrR;have z2:=HU.out.m.reg.frozen rn;have HST:=A2 (HU.out.setR rn);have HTK:Hid (Em f1 ((Dz c.list k).take (u+1))=CI (Em f1 ((Dz c.list k).take u)) rn):=by
        show _=_;rw[FY hu1,hu2]
       rw[hrn]at z0;simp only[Value.slice.injEq]at e9;obtain⟨rfl,-,rfl⟩:=e9;have j1:(0:Int)<=(u:Int):=oM;have j2:(u:Int)<(RL:Int):=oM;have j3:(0:Int)<=(rn:Int):=oM;have j4:(rn:Int)<(R:Int):=oM;have wj:IntKind.i64.wrap ((u:Int)+1)=((u+1:Nat):Int):=by rw[IntKind.wrap_i64];omega
       clear r0 r1 g1 g2 g3 g4 g5 hrn hrd hu1 hu2 hur HU hrR;go_wp2;go_roundw
       case rel=>
        refine⟨u+1,oM,gN,?_⟩;show KU _ _ _ _ _ _ _ _ _ _ _ _ _ _ _ _;rw[HTK.out];exact HST.out
       case measure=>simp[intOf];omega
      ·have j9:¬ (u:Int)<(RL:Int):=oM;have hue:u=RL:=oM;have HU2:Hid (KU B W0 N R S IB RB SB (ndK c.list) (Em f1 (Dz c.list k)) fs X bx (.slice pv RL qv) rs wy):=by
        have h9:=HU.out;rw[hue,List.take_of_length_le (by rw[HRN'.out,List.length_map,HRL.out];exact Nat.le_refl _)]at h9;exact h9
       clear hul hue HU;obtain⟨x0,x1,x2,x3,x4,x5,x6⟩:=HBX.out wy HU2.out.x;by_cases o:op=32\/op=33
       ·obtain⟨M,rfl,hM9⟩:=HSLO.out o;have z1:=HU2.out.m.slot.cell hM9;have z2:=HU2.out.m.slot.frozen M;have j3:(0:Int)<=(M:Int):=oM;have j4:(M:Int)<(S:Int):=oM;have HR9:Hid (Hp B W0 N R S IB RB SB (ndK c.list) (Em f1 (Dz c.list k)) (if op=32\/op=33 then CI fs M else fs) (wy.setCell ⟨SB,M,none⟩ (.bool true))/\Hm c.list (k+1) (Em f1 (Dz c.list k))/\Hn c.list (k+1) (if op=32\/op=33 then CI fs M else fs)):=by
         refine⟨?_,HUQ.out.1,HUQ.out.2⟩;rw[if_pos o];exact HU2.out.m.setS M
        obtain⟨g9,hg9⟩:∃g,(if op=32\/op=33 then CI fs M else fs)=g:=⟨_,rfl⟩
        rw[hg9]at HR9;clear HU2 HUQ hg9;rcases o with o|o
        all_goals
         subst o;go_wp2;go_roundw
         case rel=>exact⟨k+1,_,_,oM,gN,HR9.out⟩
         case measure=>simp[intOf];omega
       ·have o1:(op==32)=false:=sO;have o2:(op==33)=false:=sO;have HR9:Hid (Hp B W0 N R S IB RB SB (ndK c.list) (Em f1 (Dz c.list k)) fs wy/\Hm c.list (k+1) (Em f1 (Dz c.list k))/\Hn c.list (k+1) fs):=by
         have h9:=HUQ.out;rw[if_neg o]at h9;exact⟨HU2.out.m,h9.1,h9.2⟩
        clear HU2 HUQ o;go_wp2;go_roundw
        case rel=>exact⟨k+1,_,_,oM,gN,HR9.out⟩
        case measure=>simp[intOf];omega
  ·have e9:¬ (k:Int)<(N:Int):=oM;have hke:k=c.list.length:=by have:=HNN.out.2.2.2;omega
   have hfr:=HUR.out fr (by rw[←hke];exact HJ.out.2.1);have hfs:=HUS.out fs (by rw[←hke];exact HJ.out.2.2);have HM:=A2 HJ.out.1;rw[hfr,hfs]at HM;obtain⟨fr',hfr'⟩:∃f,usR c.list=f:=⟨_,rfl⟩
   obtain⟨fs',hfs'⟩:∃f,usS c.list=f:=⟨_,rfl⟩
   rw[hfr',hfs']at HM HRN;simp only[hfr',hfs']at HPC;have KM1:=A2 (FS fr' R oM wa RB HM.out.reg);have KM2:Hid (∀v:World,v.rowIs SB 4 S (fun j=>.bool (fs' j))->Calls prog 21 #[.slice (some ⟨SB,0,none⟩) S S] v fun e w'=>∃u,e=.returned u/\w'.ownsRow v.heap.size 3 1 u S (B2 ((List.range S).map (EB fs')))/\Below v.heap.size v w'):=fun v h=>FS fs' S oM v SB h;clear hlt hke hfr hfs HJ hcv hfr' hfs' HUR HUS HRD HSD HSL;go_upto_region 22 with(first
    |(go_at_call_of 21 (Value.slice (some ⟨RB,0,none⟩) R R);(with_reducible refine(KM1.out).mono ?_);rintro e9 w5 ⟨nv,rfl,ho5,hb5⟩;have HM5:=A2 (HM.out.below hb5);have HO5:=A2 (AM ho5 HM.out.le);obtain⟨b0,b1,b2,b3,-⟩:=HLOW.out w5 HM5.out.bel;clear ho5 hb5)
    |(go_at_call 21;(with_reducible refine(KM2.out _ HM5.out.slot).mono ?_);rintro e9 w6 ⟨mv,rfl,ho6,hb6⟩;have HM6:=A2 (HM5.out.below hb6);have HO6:=A2 (AM ho6 HM5.out.le);have HO56:=A2 (Ac HO5.out hb6);obtain⟨b0,b1,b2,b3,-⟩:=HLOW.out w6 HM6.out.bel;clear ho6 hb6))
   obtain⟨W7,hW7⟩:∃W,w6.alloc (.cells #[.slice p0 M0 q0,.slice none 0 0,.slice none 0 0,.slice none 0 0] 27)=W:=⟨_,rfl⟩
   have HZ7:Hid (Ed B W0 N R S IB RB SB (ndK c.list) fr' fs' nv mv w6.heap.size (.slice p0 M0 q0) (.slice none 0 0) (.slice none 0 0) (.slice none 0 0) [] [] [] W7):=by
    have k7:Below w6.heap.size w6 W7:=by rw[←hW7];exact A0 _ _
    have hb:W7.rowIs w6.heap.size 27 4 (f4 (.slice p0 M0 q0) (.slice none 0 0) (.slice none 0 0) (.slice none 0 0)):=by
     rw[←hW7];exact(AN w6 _ _).congr (Pv _ _ _ _)
    exact⟨HM6.out.below k7,hb,World.ownsRow_nil _ _ _ _,World.ownsRow_nil _ _ _ _,World.ownsRow_nil _ _ _ _,Ac HO56.out k7,Ac HO6.out k7,HM6.out.le⟩
   have HW7:=A2 hW7;clear hW7;go_upto_region 23 with fail;rw[HW7.out];obtain⟨D,hD⟩:∃D,w6.heap.size=D:=⟨_,rfl⟩
   rw[hD]at HZ7;try rw[hD]
   clear HW7 hD HM HM5 HM6 HO5 HO6 HO56 KM1 KM2 b0 b1 b2 b3;go_wp2
   go_loopw [16] (fun iv wx=>∃ (k:Nat) (p:Option Addr) (q:Nat),k<=R/\iv=.int .i64 (k:Int)/\Hid (Ed B W0 N R S IB RB SB (ndK c.list) fr' fs' nv mv D (.slice p0 M0 q0) (.slice p (Av fr' c.regs k).length q) (.slice none 0 0) (.slice none 0 0) (Av fr' c.regs k) [] [] wx)) (fun iv _=>R-(intOf iv).toNat)
   case atStart=>exact⟨0,none,0,Nat.zero_le _,rfl,HZ7.out⟩
   case round=>
    clear HZ7;rename World=>wb;obtain⟨k,pu,qu,hk,rfl,HJ⟩:=hrel;obtain⟨b0,b1,b2,b3,hcv,-⟩:=HLOW.out wb HJ.out.m.bel;by_cases hlt:k<R
    ·have hkl:k<c.regs.length:=by have:=HNN.out.2.1;omega
     obtain⟨lb,lo,rfl,hcl⟩:=hcv.regs.at hkl;have hik:=HJ.out.m.reg.cell hlt;have hpn:=C7 fr' hkl;have hpl:=Ig fr' c.regs (Nat.le_of_lt hkl);have i1:(0:Int)<=(k:Int):=oM;have i2:(k:Int)<(R:Int):=oM;have wi:IntKind.i64.wrap ((k:Int)+1)=((k+1:Nat):Int):=by rw[IntKind.wrap_i64];omega
     cases hnd:fr' k with
     |false=>
      rw[hnd]at hik hpn;simp only[Bool.false_eq_true,if_false]at hpn;have HQ:Hid (Ed B W0 N R S IB RB SB (ndK c.list) fr' fs' nv mv D (.slice p0 M0 q0) (.slice pu (Av fr' c.regs (k+1)).length qu) (.slice none 0 0) (.slice none 0 0) (Av fr' c.regs (k+1)) [] [] wb):=by
       show Ed _ _ _ _ _ _ _ _ _ _ _ _ _ _ _ _ _ _ _ _ _ _;rw[hpn];exact HJ.out
      clear hnd hcv hcl HJ hpn;exact Q7
     |true=>
      rw[hnd]at hik hpn;simp only[if_true]at hpn;obtain⟨⟨tk,tp⟩,hi⟩:∃i,c.regs[k]=i:=⟨_,rfl⟩
      rw[hi]at hcl hpn;obtain⟨g,c',w3,hrun,hd3,hf3,hlow,-,hz3⟩:=HJ.out.app1D ⟨tk,tp⟩ oM 23;rw[show(Du ⟨tk,tp⟩).toArray=#[.int .i64 tk,.int .i64 tp]from rfl]at hrun;have y0:=hcl.at 0 (v:=.int .i64 tk) rfl;rw[Nat.add_zero]at y0;have y1:=hcl.at 1 (v:=.int .i64 tp) rfl;have HZ3:Hid (Ed B W0 N R S IB RB SB (ndK c.list) fr' fs' nv mv D (.slice p0 M0 q0) (.slice (some ⟨g,0,none⟩) ((Av fr' c.regs k).length+1) c') (.slice none 0 0) (.slice none 0 0) (Av fr' c.regs (k+1)) [] [] (w3.setCell ⟨D,1,none⟩ (.slice (some ⟨g,0,none⟩) ((Av fr' c.regs k).length+1) c'))):=by
       show Ed _ _ _ _ _ _ _ _ _ _ _ _ _ _ _ _ _ _ _ _ _ _;rw[hpn];exact hz3
      have d1:wb.cell? ⟨D,1,none⟩=some (.slice pu (Av fr' c.regs k).length qu):=HJ.out.box.cell (i:=1) dE;have hpl2:(Av fr' c.regs (k+1)).length=(Av fr' c.regs k).length+1:=by rw[hpn,List.length_append];rfl
      obtain⟨L,hL⟩:∃L,(Av fr' c.regs k).length=L:=⟨_,rfl⟩
      rw[hL]at hrun hd3 d1 hpl2 HZ3;have HL2:=A2 hpl2;have hlbw:lb<B:=by
       have h9:=(HLOW.out W0 (Below.refl _ _)).2.2.2.2.1;obtain⟨lb',lo',e9,h8⟩:=h9.regs.at hkl;exact R1
      have hBE:=HBE.out;have hgD:=HJ.out.gD;have nD1:D≠E:=oM;have nD2:D≠lb:=oM;have g1:=(World.cell?_of_block (hlow E oM)).trans b1;have l0:=(World.cell?_of_block (hlow lb oM)).trans y0;have l1:=(World.cell?_of_block (hlow lb oM)).trans y1;clear hi hcl hcv HJ hnd hpn hlow hz3 hL hpl hlbw hBE hgD hpl2;go_upto_block 5 with fail;have d1b:(wb.alloc (.cells #[.int .i64 tk,.int .i64 tp] 50)).drew.cell? ⟨D,1,none⟩=some (.slice pu L qu):=kc (bel (A0 _ _) (AY _)) d1;go_cut [] (fun wx=>wx=w3.setCell ⟨D,1,none⟩ (.slice (some ⟨g,0,none⟩) (L+1) c'))
      case first=>
       clear HLOW HNN HRN HPC HE HBE HBS HB0 HZ3 HL2 wi;go_upto_region 27 with fail;refine rG (fun v=>v.cell? ⟨E,1,none⟩=some (.slice (some ⟨lb,lo,none⟩) R q1)/\v.cell? ⟨lb,lo+k*2,none⟩=some (.int .i64 tk)/\v.cell? ⟨lb,lo+k*2+1,none⟩=some (.int .i64 tp)) fun hHeld=>?_;exact RT
      case rest=>
       subst hcut;clear d1 d1b hd3 hrun hf3 y0 l0 y1 l1;exact So
    ·have e9:¬ (k:Int)<(R:Int):=oM;have hke:R=k:=oM;subst hke;clear hlt hcv;have HZ8:Hid (Ed B W0 N R S IB RB SB (ndK c.list) fr' fs' nv mv D (.slice p0 M0 q0) (.slice pu (Av fr' c.regs R).length qu) (.slice none 0 0) (.slice none 0 0) (Av fr' c.regs R) [] [] wb):=HJ.out;obtain⟨L1,hL1e⟩:∃l,Av fr' c.regs R=l:=⟨_,rfl⟩
     have HL1:=A2 hL1e;rw[hL1e]at HZ8;obtain⟨yr,hy1⟩:∃n,L1.length=n:=⟨_,rfl⟩
     have HY1:=A2 hy1;rw[hy1]at HZ8;obtain⟨xr,hx1⟩:∃p,pu=p:=⟨_,rfl⟩
     obtain⟨zr,hz1⟩:∃q,qu=q:=⟨_,rfl⟩
     rw[hx1,hz1]at HZ8;clear HJ hL1e hy1 hx1 hz1;go_wp2
     go_loopw [17] (fun iv wx=>∃ (k:Nat) (p:Option Addr) (q:Nat),k<=S/\iv=.int .i64 (k:Int)/\Hid (Ed B W0 N R S IB RB SB (ndK c.list) fr' fs' nv mv D (.slice p0 M0 q0) (.slice xr yr zr) (.slice p (Av fs' c.slots k).length q) (.slice none 0 0) L1 (Av fs' c.slots k) [] wx)) (fun iv _=>S-(intOf iv).toNat)
     case atStart=>exact⟨0,none,0,Nat.zero_le _,rfl,HZ8.out⟩
     case round=>
      clear HZ8;rename World=>wb;obtain⟨k,pu,qu,hk,rfl,HJ⟩:=hrel;obtain⟨b0,b1,b2,b3,hcv,-⟩:=HLOW.out wb HJ.out.m.bel;by_cases hlt:k<S
      ·have hkl:k<c.slots.length:=by have:=HNN.out.2.2.1;omega
       obtain⟨lb,lo,rfl,hcl⟩:=hcv.slots.at hkl;have hik:=HJ.out.m.slot.cell hlt;have hpn:=C7 fs' hkl;have hpl:=Ig fs' c.slots (Nat.le_of_lt hkl);have i1:(0:Int)<=(k:Int):=oM;have i2:(k:Int)<(S:Int):=oM;have wi:IntKind.i64.wrap ((k:Int)+1)=((k+1:Nat):Int):=by rw[IntKind.wrap_i64];omega
       cases hnd:fs' k with
       |false=>
        rw[hnd]at hik hpn;simp only[Bool.false_eq_true,if_false]at hpn;have HQ:Hid (Ed B W0 N R S IB RB SB (ndK c.list) fr' fs' nv mv D (.slice p0 M0 q0) (.slice xr yr zr) (.slice pu (Av fs' c.slots (k+1)).length qu) (.slice none 0 0) L1 (Av fs' c.slots (k+1)) [] wb):=by
         show Ed _ _ _ _ _ _ _ _ _ _ _ _ _ _ _ _ _ _ _ _ _ _;rw[hpn];exact HJ.out
        clear hnd hcv hcl HJ hpn;exact Q7
       |true=>
        rw[hnd]at hik hpn;simp only[if_true]at hpn;obtain⟨⟨⟨tk,tp⟩,tb,tz,ti⟩,hi⟩:∃i,c.slots[k]=i:=⟨_,rfl⟩
        rw[hi]at hcl hpn;obtain⟨g,c',w3,hrun,hd3,hf3,hlow,-,hz3⟩:=HJ.out.app2D ⟨⟨tk,tp⟩,tb,tz,ti⟩ oM 24;rw[show(E8 ⟨⟨tk,tp⟩,tb,tz,ti⟩).toArray=#[.int .i64 tk,.int .i64 tp,.bool tb,.int .u32 tz,.int .i64 ti]from rfl]at hrun;have y0:=hcl.at 0 (v:=.int .i64 tk) rfl;rw[Nat.add_zero]at y0;have y1:=hcl.at 1 (v:=.int .i64 tp) rfl;have y2:=hcl.at 2 (v:=.bool tb) rfl;have y3:=hcl.at 3 (v:=.int .u32 tz) rfl;have y4:=hcl.at 4 (v:=.int .i64 ti) rfl;have HZ3:Hid (Ed B W0 N R S IB RB SB (ndK c.list) fr' fs' nv mv D (.slice p0 M0 q0) (.slice xr yr zr) (.slice (some ⟨g,0,none⟩) ((Av fs' c.slots k).length+1) c') (.slice none 0 0) L1 (Av fs' c.slots (k+1)) [] (w3.setCell ⟨D,2,none⟩ (.slice (some ⟨g,0,none⟩) ((Av fs' c.slots k).length+1) c'))):=by
         show Ed _ _ _ _ _ _ _ _ _ _ _ _ _ _ _ _ _ _ _ _ _ _;rw[hpn];exact hz3
        have d1:wb.cell? ⟨D,2,none⟩=some (.slice pu (Av fs' c.slots k).length qu):=HJ.out.box.cell (i:=2) dE;have hpl2:(Av fs' c.slots (k+1)).length=(Av fs' c.slots k).length+1:=by rw[hpn,List.length_append];rfl
        obtain⟨L,hL⟩:∃L,(Av fs' c.slots k).length=L:=⟨_,rfl⟩
        rw[hL]at hrun hd3 d1 hpl2 HZ3;have HL2:=A2 hpl2;have hlbw:lb<B:=by
         have h9:=(HLOW.out W0 (Below.refl _ _)).2.2.2.2.1;obtain⟨lb',lo',e9,h8⟩:=h9.slots.at hkl;exact R1
        have hBE:=HBE.out;have hgD:=HJ.out.gD;have nD1:D≠E:=oM;have nD2:D≠lb:=oM;have g1:=(World.cell?_of_block (hlow E oM)).trans b2;have l0:=(World.cell?_of_block (hlow lb oM)).trans y0;have l1:=(World.cell?_of_block (hlow lb oM)).trans y1;have l2:=(World.cell?_of_block (hlow lb oM)).trans y2;have l3:=(World.cell?_of_block (hlow lb oM)).trans y3;have l4:=(World.cell?_of_block (hlow lb oM)).trans y4;clear hi hcl hcv HJ hnd hpn hlow hz3 hL hpl hlbw hBE hgD hpl2;go_upto_block 7 with fail;have d1b:(wb.alloc (.cells #[.int .i64 tk,.int .i64 tp,.bool tb,.int .u32 tz,.int .i64 ti] 55)).drew.cell? ⟨D,2,none⟩=some (.slice pu L qu):=kc (bel (A0 _ _) (AY _)) d1;go_cut [] (fun wx=>wx=w3.setCell ⟨D,2,none⟩ (.slice (some ⟨g,0,none⟩) (L+1) c'))
        case first=>
         clear HLOW HNN HRN HPC HE HBE HBS HB0 HZ3 HL2 wi;go_upto_region 32 with fail;refine rG (fun v=>v.cell? ⟨E,2,none⟩=some (.slice (some ⟨lb,lo,none⟩) S q2)/\v.cell? ⟨lb,lo+k*5,none⟩=some (.int .i64 tk)/\v.cell? ⟨lb,lo+k*5+1,none⟩=some (.int .i64 tp)/\v.cell? ⟨lb,lo+k*5+2,none⟩=some (.bool tb)/\v.cell? ⟨lb,lo+k*5+3,none⟩=some (.int .u32 tz)/\v.cell? ⟨lb,lo+k*5+4,none⟩=some (.int .i64 ti)) fun hHeld=>?_;exact RT
        case rest=>
         subst hcut;clear d1 d1b hd3 hrun hf3 y0 l0 y1 l1 y2 l2 y3 l3 y4 l4;exact So
      ·have e9:¬ (k:Int)<(S:Int):=oM;have hke:S=k:=oM;subst hke;clear hlt hcv;have HZ9:Hid (Ed B W0 N R S IB RB SB (ndK c.list) fr' fs' nv mv D (.slice p0 M0 q0) (.slice xr yr zr) (.slice pu (Av fs' c.slots S).length qu) (.slice none 0 0) L1 (Av fs' c.slots S) [] wb):=HJ.out;obtain⟨L2,hL2e⟩:∃l,Av fs' c.slots S=l:=⟨_,rfl⟩
       have HL2':=A2 hL2e;rw[hL2e]at HZ9;obtain⟨ys,hy2⟩:∃n,L2.length=n:=⟨_,rfl⟩
       have HY2:=A2 hy2;rw[hy2]at HZ9;obtain⟨xs,hx2⟩:∃p,pu=p:=⟨_,rfl⟩
       obtain⟨zs,hz2⟩:∃q,qu=q:=⟨_,rfl⟩
       rw[hx2,hz2]at HZ9;obtain⟨fR,hfR⟩:∃f,Cz (Ak fr') (Ak fs')=f:=⟨_,rfl⟩
       simp only[hfR]at HRN HPC;clear HJ hL2e hy2 hx2 hz2 hfR;go_wp2
       go_loopw [18] (fun iv wx=>∃ (k:Nat) (p:Option Addr) (q:Nat),k<=N/\iv=.int .i64 (k:Int)/\Hid (Ed B W0 N R S IB RB SB (ndK c.list) fr' fs' nv mv D (.slice p0 M0 q0) (.slice xr yr zr) (.slice xs ys zs) (.slice p (AH (ndK c.list) fR c.list k).length q) L1 L2 (AH (ndK c.list) fR c.list k) wx)) (fun iv _=>N-(intOf iv).toNat)
       case atStart=>exact⟨0,none,0,Nat.zero_le _,rfl,HZ9.out⟩
       case round=>
        clear HZ9;rename World=>wb;obtain⟨k,pu,qu,hk,rfl,HJ⟩:=hrel;obtain⟨b0,b1,b2,b3,hcv,-⟩:=HLOW.out wb HJ.out.m.bel;by_cases hlt:k<N
        ·have hkl:k<c.list.length:=by have:=HNN.out.2.2.2;omega
         obtain⟨lb,lo,rfl,hcl⟩:=hcv.list.at hkl;have hik:=HJ.out.m.is.cell hlt;have hpl:(AH (ndK c.list) fR c.list k).length<=k:=DO _ _ _ _;have i1:(0:Int)<=(k:Int):=oM;have i2:(k:Int)<(N:Int):=oM;have wi:IntKind.i64.wrap ((k:Int)+1)=((k+1:Nat):Int):=by rw[IntKind.wrap_i64];omega
         cases hnd:ndK c.list k with
         |false=>
          rw[hnd]at hik;have HQ:Hid (Ed B W0 N R S IB RB SB (ndK c.list) fr' fs' nv mv D (.slice p0 M0 q0) (.slice xr yr zr) (.slice xs ys zs) (.slice pu (AH (ndK c.list) fR c.list (k+1)).length qu) L1 L2 (AH (ndK c.list) fR c.list (k+1)) wb):=by
           show Ed _ _ _ _ _ _ _ _ _ _ _ _ _ _ _ _ _ _ _ _ _ _;rw[EE hnd];exact HJ.out
          clear hnd hcv hcl HJ hpl;exact Q7
         |true=>
          rw[hnd]at hik;have hpn:=Cx (f:=fR) hkl hnd;have KRN:Hid (∀v,Below wb.heap.size wb v->Calls prog 22 #[B9 c.list[k],nv,mv] v fun e w'=>e=.returned (B9 (fR c.list[k]))/\Below v.heap.size v w'):=fun v hb=>HRN.out v nv mv (HJ.out.below hb).n1 (HJ.out.below hb).n2 k hkl hnd;have HCL:=A2 hcl;have hlbw:lb<B:=by
           have h9:=(HLOW.out W0 (Below.refl _ _)).2.2.2.2.1;obtain⟨lb',lo',e9,h8⟩:=h9.list.at hkl;exact R1
          obtain⟨⟨op,d,a,b,e,n,z⟩,hi⟩:∃i,c.list[k]=i:=⟨_,rfl⟩
          rw[hi]at hcl hpn KRN HCL;obtain⟨⟨op',d',a',b',e',n',z'⟩,hi'⟩:∃i,fR ⟨op,d,a,b,e,n,z⟩=i:=⟨_,rfl⟩
          rw[hi']at hpn KRN;unfold B9 at KRN;simp only at KRN;have y0:=hcl.at 0 (v:=.int .i64 op) rfl;rw[Nat.add_zero]at y0;have y1':=hcl.at 1 (v:=.int .i64 d) rfl;have y2':=hcl.at 2 (v:=.int .i64 a) rfl;have y3:=hcl.at 3 (v:=.int .i64 b) rfl;have y4:=hcl.at 4 (v:=.int .i64 e) rfl;have y5:=hcl.at 5 (v:=.int .i64 n) rfl;have y6:=hcl.at 6 (v:=.int .u32 z) rfl;have d1:wb.cell? ⟨D,3,none⟩=some (.slice pu (AH (ndK c.list) fR c.list k).length qu):=HJ.out.box.cell (i:=3) dE;have hBE:=HBE.out;have hgD:=HJ.out.gD;have nD1:D≠E:=oM;have nD2:D≠lb:=oM;have hEB:E<B:=oM;have HW4:Hid (∀w4,Below wb.heap.size wb w4->∃g c' w3,(Builtin.append_ #[25,25] 25 #[.slice pu (AH (ndK c.list) fR c.list k).length qu,.slice (some ⟨w4.heap.size,0,none⟩) 1 1]).run prog (w4.alloc (.cells #[.int .i64 op',.int .i64 d',.int .i64 a',.int .i64 b',.int .i64 e',.int .i64 n',.int .u32 z'] 40))=.ok (.slice (some ⟨g,0,none⟩) ((AH (ndK c.list) fR c.list k).length+1) c') w3/\(w3.cell? ⟨D,3,none⟩=some (.slice pu (AH (ndK c.list) fR c.list k).length qu)/\w3.frozen? ⟨D,3,none⟩=false)/\(w4.cell? ⟨D,3,none⟩=some (.slice pu (AH (ndK c.list) fR c.list k).length qu)/\(w4.alloc (.cells #[.int .i64 op',.int .i64 d',.int .i64 a',.int .i64 b',.int .i64 e',.int .i64 n',.int .u32 z'] 40)).cell? ⟨D,3,none⟩=some (.slice pu (AH (ndK c.list) fR c.list k).length qu))/\((w4.cell? ⟨E,3,none⟩=some (.slice (some ⟨lb,lo,none⟩) N q3)/\Ai w4 lb (lo+k*7) (Bf ⟨op,d,a,b,e,n,z⟩))/\(w3.cell? ⟨E,3,none⟩=some (.slice (some ⟨lb,lo,none⟩) N q3)/\Ai w3 lb (lo+k*7) (Bf ⟨op,d,a,b,e,n,z⟩)))/\Ed B W0 N R S IB RB SB (ndK c.list) fr' fs' nv mv D (.slice p0 M0 q0) (.slice xr yr zr) (.slice xs ys zs) (.slice (some ⟨g,0,none⟩) ((AH (ndK c.list) fR c.list k).length+1) c') L1 L2 (AH (ndK c.list) fR c.list k++[⟨op',d',a',b',e',n',z'⟩]) (w3.setCell ⟨D,3,none⟩ (.slice (some ⟨g,0,none⟩) ((AH (ndK c.list) fR c.list k).length+1) c'))):=fun w4 hb=>by
           have h4:=HJ.out.below hb;obtain⟨g,c',w3,hrun,hd3,hf3,hlow,-,hz3⟩:=h4.app3N ⟨op',d',a',b',e',n',z'⟩ oM 25;have d4:w4.cell? ⟨D,3,none⟩=some (.slice pu (AH (ndK c.list) fR c.list k).length qu):=h4.box.cell (i:=3) dE;have c4:=(HLOW.out w4 h4.m.bel).2.2.2.1;exact⟨g,c',w3,hrun,⟨hd3,hf3⟩,⟨d4,kc (A0 _ _) d4⟩,⟨⟨c4,HCL.out.below hb⟩,⟨(World.cell?_of_block (hlow E hEB)).trans c4,(HCL.out.below hb).of_block (hlow lb hlbw)⟩⟩,hz3⟩
          have HPN:Hid (AH (ndK c.list) fR c.list (k+1)=AH (ndK c.list) fR c.list k++[⟨op',d',a',b',e',n',z'⟩]):=hpn;obtain⟨PK,hPK⟩:∃l,AH (ndK c.list) fR c.list k=l:=⟨_,rfl⟩
          rw[hPK]at HPN HW4 d1 hpl;obtain⟨L,hL⟩:∃L,PK.length=L:=⟨_,rfl⟩
          have HLL:=A2 hL;rw[hL]at HW4 d1;clear hi hi' hcl hcv HJ hnd hpn hPK hL hBE hgD hpl hlbw hEB HCL;go_upto_block 9 with fail;go_cut [] (fun wx=>∃ (p:Option Addr) (q:Nat),Hid (Ed B W0 N R S IB RB SB (ndK c.list) fr' fs' nv mv D (.slice p0 M0 q0) (.slice xr yr zr) (.slice xs ys zs) (.slice p (L+1) q) L1 L2 (PK++[⟨op',d',a',b',e',n',z'⟩]) wx))
          case first=>
           clear HLOW HNN HRN HPC HE HBE HBS HB0 wi;go_upto_region 37 with fail;refine rG (fun v=>v.cell? ⟨E,3,none⟩=some (.slice (some ⟨lb,lo,none⟩) N q3)/\v.cell? ⟨lb,lo+k*7,none⟩=some (.int .i64 op)/\v.cell? ⟨lb,lo+k*7+1,none⟩=some (.int .i64 d)/\v.cell? ⟨lb,lo+k*7+2,none⟩=some (.int .i64 a)/\v.cell? ⟨lb,lo+k*7+3,none⟩=some (.int .i64 b)/\v.cell? ⟨lb,lo+k*7+4,none⟩=some (.int .i64 e)/\v.cell? ⟨lb,lo+k*7+5,none⟩=some (.int .i64 n)/\v.cell? ⟨lb,lo+k*7+6,none⟩=some (.int .u32 z)) fun hHeld=>?_;refine Tf 0 2 3 4 5 6 ?_;refine Tb 7 8 ?_;clear hHeld;refine wpAnyH_ready (rs:=[1,9]) kR sM ?_;refine D8 1 (fun K hK=>?_) ?_
           ·go_simp;refine Aw hK fun hHeld=>?_;clear hK K;clear hHeld;refine Ax 9 fun K hK=>?_;go_simp;(go_at_call 22;(with_reducible refine(KRN.out _ (AY _)).mono ?_);rintro e9 w4 ⟨rfl,hb4⟩;obtain⟨g,c',w3,hrun,⟨hd3,hf3⟩,⟨d4,d4b⟩,⟨⟨e3,hk4⟩,⟨f3,hk3⟩⟩,hz3⟩:=HW4.out w4 (bel (AY _) hb4);have HZ3:=A2 hz3;have m0:=hk4.at 0 (v:=.int .i64 op) rfl;rw[Nat.add_zero]at m0;have m1:=hk4.at 1 (v:=.int .i64 d) rfl;have m2:=hk4.at 2 (v:=.int .i64 a) rfl;have m3:=hk4.at 3 (v:=.int .i64 b) rfl;have m4:=hk4.at 4 (v:=.int .i64 e) rfl;have m5:=hk4.at 5 (v:=.int .i64 n) rfl;have m6:=hk4.at 6 (v:=.int .u32 z) rfl;have l0:=hk3.at 0 (v:=.int .i64 op) rfl;rw[Nat.add_zero]at l0;have l1:=hk3.at 1 (v:=.int .i64 d) rfl;have l2:=hk3.at 2 (v:=.int .i64 a) rfl;have l3:=hk3.at 3 (v:=.int .i64 b) rfl;have l4:=hk3.at 4 (v:=.int .i64 e) rfl;have l5:=hk3.at 5 (v:=.int .i64 n) rfl;have l6:=hk3.at 6 (v:=.int .u32 z) rfl;clear hk4 hk3 hz3 hb4);try(go_wp2_with fail)
            refine Aw hK fun hHeld=>?_;clear hK K;clear hHeld;refine Ax 10 fun K hK=>?_;exact QX
           refine D8 9 (fun K hK=>?_) AllReadyH.nil;go_simp;(go_at_call 22;(with_reducible refine(KRN.out _ (AY _)).mono ?_);rintro e9 w4 ⟨rfl,hb4⟩;obtain⟨g,c',w3,hrun,⟨hd3,hf3⟩,⟨d4,d4b⟩,⟨⟨e3,hk4⟩,⟨f3,hk3⟩⟩,hz3⟩:=HW4.out w4 (bel (AY _) hb4);have HZ3:=A2 hz3;have m0:=hk4.at 0 (v:=.int .i64 op) rfl;rw[Nat.add_zero]at m0;have m1:=hk4.at 1 (v:=.int .i64 d) rfl;have m2:=hk4.at 2 (v:=.int .i64 a) rfl;have m3:=hk4.at 3 (v:=.int .i64 b) rfl;have m4:=hk4.at 4 (v:=.int .i64 e) rfl;have m5:=hk4.at 5 (v:=.int .i64 n) rfl;have m6:=hk4.at 6 (v:=.int .u32 z) rfl;have l0:=hk3.at 0 (v:=.int .i64 op) rfl;rw[Nat.add_zero]at l0;have l1:=hk3.at 1 (v:=.int .i64 d) rfl;have l2:=hk3.at 2 (v:=.int .i64 a) rfl;have l3:=hk3.at 3 (v:=.int .i64 b) rfl;have l4:=hk3.at 4 (v:=.int .i64 e) rfl;have l5:=hk3.at 5 (v:=.int .i64 n) rfl;have l6:=hk3.at 6 (v:=.int .u32 z) rfl;clear hk4 hk3 hz3 hb4);try(go_wp2_with fail)
           refine Aw hK fun hHeld=>?_;clear hK K;clear hHeld;refine wpAnyH_ready (rs:=[1,10]) kR sM ?_;refine D8 1 (fun K hK=>?_) ?_
           ·go_simp;refine Aw hK fun hHeld=>?_;clear hK K;clear hHeld;refine Ax 10 fun K hK=>?_;exact QX
           refine D8 10 (fun K hK=>?_) AllReadyH.nil;go_simp;refine Aw hK fun hHeld=>?_;clear hK K;clear hHeld;refine Ax 1 fun K hK=>?_;exact QX
          case rest=>
           obtain⟨pn,qn,HZ3⟩:=hcut;rename World=>we;have HQ:Hid (Ed B W0 N R S IB RB SB (ndK c.list) fr' fs' nv mv D (.slice p0 M0 q0) (.slice xr yr zr) (.slice xs ys zs) (.slice pn (AH (ndK c.list) fR c.list (k+1)).length qn) L1 L2 (AH (ndK c.list) fR c.list (k+1)) we):=by
            show Ed _ _ _ _ _ _ _ _ _ _ _ _ _ _ _ _ _ _ _ _ _ _;rw[HPN.out,List.length_append,HLL.out];exact HZ3.out
           clear HZ3 d1 KRN HW4 y0 y1' y2' y3 y4 y5 y6;exact Q7
        ·have e9:¬ (k:Int)<(N:Int):=oM;have hke:N=k:=oM;subst hke;have HZ9:=A2 HJ.out;obtain⟨L3,hL3e⟩:∃l,AH (ndK c.list) fR c.list N=l:=⟨_,rfl⟩
         have HL3:=A2 hL3e;rw[hL3e]at HZ9;obtain⟨y3,hy3⟩:∃n,L3.length=n:=⟨_,rfl⟩
         have HY3:=A2 hy3;rw[hy3]at HZ9;have d0:wb.cell? ⟨D,0,none⟩=some (.slice p0 M0 q0):=HZ9.out.box.cell (i:=0) dE;have d1:wb.cell? ⟨D,1,none⟩=some (.slice xr yr zr):=HZ9.out.box.cell (i:=1) dE;have d2:wb.cell? ⟨D,2,none⟩=some (.slice xs ys zs):=HZ9.out.box.cell (i:=2) dE;have d3:wb.cell? ⟨D,3,none⟩=some (.slice pu y3 qu):=HZ9.out.box.cell (i:=3) dE;obtain⟨-,-,-,-,-,hrb,hbw⟩:=HLOW.out wb HZ9.out.m.bel;have r0:wb.cell? ⟨E+1,0,none⟩=some (.slice none 0 0):=hrb.cell (i:=0) dE;have r1:wb.cell? ⟨E+1,1,none⟩=some (.slice none 0 0):=hrb.cell (i:=1) dE;have r2:wb.cell? ⟨E+1,2,none⟩=some (.slice none 0 0):=hrb.cell (i:=2) dE;have r3:wb.cell? ⟨E+1,3,none⟩=some (.slice none 0 0):=hrb.cell (i:=3) dE;have f0:=hrb.frozen 0;have f1:=hrb.frozen 1;have f2:=hrb.frozen 2;have f3:=hrb.frozen 3;have HCV:=A2 hcv;have HBW:=A2 hbw;clear hlt hcv HJ hL3e hy3 hrb hbw;go_wp2;refine bodyPost_ret (by simp[results,results7,go_sem, *];try rfl) rfl ?_;obtain⟨n0,n1,n2,n3⟩:=HNN.out;obtain⟨c0,c1,c2,c3⟩:=HPC.out;have hE:=HE.out;have hBE:=HBE.out;have hl1:L1=(pruneC c).regs:=by rw[c1,n1];exact HL1.out.symm
         have hl2:L2=(pruneC c).slots:=by rw[c2,n2];exact HL2'.out.symm
         have hl3:L3=(pruneC c).list:=by rw[c3,n3];exact HL3.out.symm
         have k4:∀b,b≠E+1->((((wb.setCell ⟨E+1,0,none⟩ (.slice p0 M0 q0)).setCell ⟨E+1,1,none⟩ (.slice xr yr zr)).setCell ⟨E+1,2,none⟩ (.slice xs ys zs)).setCell ⟨E+1,3,none⟩ (.slice pu y3 qu)).heap[b]? =wb.heap[b]? :=fun b hb=>(Below.heap_setCell _ _ _ _ hb).trans ((Below.heap_setCell _ _ _ _ hb).trans ((Below.heap_setCell _ _ _ _ hb).trans (Below.heap_setCell _ _ _ _ hb)));have hle:w.heap.size<=E+1:=oM;have hbF:Below w.heap.size w ((((wb.setCell ⟨E+1,0,none⟩ (.slice p0 M0 q0)).setCell ⟨E+1,1,none⟩ (.slice xr yr zr)).setCell ⟨E+1,2,none⟩ (.slice xs ys zs)).setCell ⟨E+1,3,none⟩ (.slice pu y3 qu)):=(((HBW.out.setCell hle _).setCell hle _).setCell hle _).setCell hle _;have o1:=A7 HZ9.out.o1 (fun g hg=>k4 g (by have h9:=(HZ9.out.o1.lt g hg).1;omega));have o2:=A7 HZ9.out.o2 (fun g hg=>k4 g (by have h9:=(HZ9.out.o2.lt g hg).1;omega));have o3:=A7 HZ9.out.o3 (fun g hg=>k4 g (by have h9:=(HZ9.out.o3.lt g hg).1;omega));have e1:=HY1.out;have e2:=HY2.out;have e3:=HY3.out;subst e1 e2 e3;have hbG:=hbF;rw[hE]at hbG;refine⟨_,_,_,_,rfl,⟨?_,?_,?_,?_⟩,hbG⟩
         ·rw[c0];exact HV0.out _ hbF
         ·rw[←hl1];exact BA Ec o1
         ·rw[←hl2];exact BA E9 o2
         ·rw[←hl3];exact BA Bz o3
theorem Mc{E:Nat}{w:World}{p:Option Addr}{n q:Nat}{xs:List Value}(h:w.ownsRow E 40 7 (.slice p n q) n xs)(hz:n=0->p=none/\q=0):
 ∃LB N0 f,E<=LB/\(LB<w.heap.size\/LB=E)/\(0<n->p=some ⟨LB,0,none⟩)/\(N0=0\/w.rowIs LB 40 N0 f)/\n*7<=N0/\(∀o,o<n*7->xs[o]? =some (f o))/\(∀ (w':World) (f':Nat->Value),(N0=0\/w'.rowIs LB 40 N0 f')->∀ys:List Value,ys.length=n*7->(∀o,o<n*7->ys[o]? =some (f' o))->w'.ownsRow E 40 7 (.slice p n q) n ys):=by
 obtain⟨hl,h⟩:=h;rcases h with⟨e,h0⟩|⟨g,cap,cur,hv,hB,hg,hc1,hc2,hsz,htk⟩
 ·subst h0;simp only[Value.slice.injEq]at e;obtain⟨rfl,-,rfl⟩:=e;exact⟨E,0,fun _=>undef,Nat.le_refl _,.inr rfl,fun h=>absurd h oM,.inl rfl,oM,fun o h=>absurd h oM,fun w' f' _ ys hy _=>⟨hy,.inl ⟨rfl,rfl⟩⟩⟩
 ·simp only[Value.slice.injEq]at hv;obtain⟨rfl,-,rfl⟩:=hv;have hn0:0<n:=Nat.pos_of_ne_zero fun e=>by cases(hz e).1
  have hle:=Nat.mul_le_mul_right 7 hc1;have hcu:∀i,i<q*7->cur[i]? =some ((cur[i]?).getD undef):=fun i hi=>by rw[Array.getElem?_eq_getElem oM];simp
  refine⟨g,q*7,fun o=>(cur[o]?).getD undef,hB,.inl (by rcases Nat.lt_or_ge g w.heap.size with c|c;exact c;rw[Array.getElem?_eq_none c]at hg;cases hg),fun _=>rfl,.inr ⟨cur,hg,hsz,hcu⟩,hle,fun o ho=>?_,fun w' f' hw ys hy hx=>⟨hy,.inr ?_⟩⟩
  ·rw[←htk,List.getElem?_take_of_lt ho,←hcu o oM];simp
  ·rcases hw with h9|⟨c2,h9,h8,h7⟩
   ·exact absurd h9 oM
   ·refine⟨g,q,c2,rfl,hB,h9,hc1,hc2,h8,List.ext_getElem? fun o=>?_⟩;by_cases ho:o<n*7
    ·rw[List.getElem?_take_of_lt ho,hx o ho];have:=h7 o oM;simpa using this
    ·rw[List.getElem?_eq_none sO,List.getElem?_eq_none oM]
theorem EM{t:TypeId}{n b:Nat}{z:Value}:∀ (m o:Nat) (w:World) (f:Nat->Value),w.rowIs b t n f->(w.setCells b o (List.replicate m z)).rowIs b t n (fun j=>if o<=j/\j<o+m then z else f j)
 |0,o,w,f,h=>h.congr fun j hj=>by rw[if_neg oM]
 |m+1,o,w,f,h=>by
  have ih:=EM (z:=z) m (o+1) (w.setCell ⟨b,o,none⟩ z) _ (h.set o z);refine ih.congr fun j hj=>?_;by_cases e:j=o
  ·rw[if_neg oM,if_pos e,if_pos oM]
  ·by_cases e2:o+1<=j/\j<o+1+m
   ·rw[if_pos e2,if_pos oM]
   ·rw[if_neg e2,if_neg e,if_neg oM]
theorem DQ{b:Nat}{z:Value}:∀ (m o:Nat) (w:World),(∀b',b'≠b->(w.setCells b o (List.replicate m z)).heap[b']? =w.heap[b']?)/\(w.setCells b o (List.replicate m z)).heap.size=w.heap.size/\Below 0 w (w.setCells b o (List.replicate m z))
 |0,o,w=>⟨fun _ _=>rfl,rfl,Below.refl 0 w⟩
 |m+1,o,w=>by
  obtain⟨h1,h2,h3⟩:=DQ (z:=z) m (o+1) (w.setCell ⟨b,o,none⟩ z);exact⟨fun b' hb=>(h1 b' hb).trans (Below.heap_setCell _ _ _ _ hb),h2.trans sM,((Below.refl 0 w).setCell (Nat.zero_le _) z).trans h3⟩
theorem LN:∀w,(zeroValue 4).run prog w=.ok (.bool false) w:=fun w=>by
 obtain⟨i0,hi0,hz0,hz1,hz2⟩:=info_parts CT;simp[zeroValue,typeInfo,hi0,hz0]
theorem L5{u:World}{IB K:Nat}{g:Nat->Value}(h:u.rowIs IB 4 K g):∃W,(∀ty,(Builtin.clear_ #[47] ty #[.slice (some ⟨IB,0,none⟩) K K]).run prog u=.ok (.tuple #[]) W)/\W.rowIs IB 4 K (fun _=>.bool false)/\(∀b,b≠IB->W.heap[b]? =u.heap[b]?)/\W.heap.size=u.heap.size/\Below 0 u W:=by
 by_cases hK:0<K
 ·obtain⟨o1,o2,o3⟩:=DQ (b:=IB) (z:=.bool false) K 0 u;refine⟨u.setCells IB 0 (List.replicate K (.bool false)),fun ty=>Lib.run_clear_slice u 47 4 ty (.bool false) underlying47 LN rfl rfl IB 0 K K hK (fun j hj=>by rw[Nat.zero_add,h.cell hj];rfl) (fun j hj=>by rw[Nat.zero_add];exact h.frozen j),(EM K 0 u g h).congr fun j hj=>if_pos ⟨Nat.zero_le _,oM⟩,o1,o2,o3⟩
 ·have e:K=0:=oM;subst e;exact⟨u,fun ty=>by simp[Builtin.clear_,run_underlying underlying47],h.congr fun j hj=>absurd hj oM,fun _ _=>rfl,rfl,Below.refl 0 u⟩
theorem KW{E IB:Nat}{u W:World}(hI:E<=IB)(ho:∀b,b≠IB->W.heap[b]? =u.heap[b]?)(hb:Below 0 u W):Below E u W:=⟨hb.os,hb.tape,hb.output,hb.size,fun k hk=>ho k oM⟩
theorem GC(v0 v1 v2 v3:Value)(c:Cd)(hk:Ba c)(w:World)(hv:BP w v0 v1 v2 v3 c)(hc:(Ah c).1≠0):
 Calls prog 6 #[.agg #[v0,v1,v2,v3]] w fun e w'=>e=.returned (.tuple #[.agg #[.slice none 0 0,.slice none 0 0,.slice none 0 0,.slice none 0 0],.int .i64 160])/\Below w.heap.size w w':=by
 have KC:Hid (∀v,Below w.heap.size w v->Calls prog 10 #[.agg #[v0,v1,v2,v3]] v fun e w'=>e=.returned (.tuple #[.int .i64 (Ah c).1,.int .i64 (Ah c).2])/\Below v.heap.size v w'):=fun v hvv=>Gs v0 v1 v2 v3 c hk v (hv.below hvv);obtain⟨e1,he1⟩:∃e1,(Ah c).1=e1:=⟨_,rfl⟩
 obtain⟨e2,he2⟩:∃e2,(Ah c).2=e2:=⟨_,rfl⟩
 rw[he1]at hc KC;rw[he2]at KC;have n1:(e1 != 0)=true:=by simpa using hc
 have n2:(e1==0)=false:=by simpa using hc
 obtain⟨p0,q0,rfl⟩:∃p q,v0=.slice p c.sign.length q:=by obtain⟨p,q,e,_⟩:=hv.sign;exact⟨p,q,e⟩
 obtain⟨p1,q1,rfl⟩:∃p q,v1=.slice p c.regs.length q:=by obtain⟨p,q,e,_⟩:=hv.regs;exact⟨p,q,e⟩
 obtain⟨p2,q2,rfl⟩:∃p q,v2=.slice p c.slots.length q:=by obtain⟨p,q,e,_⟩:=hv.slots;exact⟨p,q,e⟩
 obtain⟨p3,q3,rfl⟩:∃p q,v3=.slice p c.list.length q:=by obtain⟨p,q,e,_⟩:=hv.list;exact⟨p,q,e⟩
 obtain⟨W0,hW0⟩:∃W,(w.alloc (.cells #[.slice p0 c.sign.length q0,.slice p1 c.regs.length q1,.slice p2 c.slots.length q2,.slice p3 c.list.length q3] 27)).alloc (.cells #[.slice none 0 0,.slice none 0 0,.slice none 0 0,.slice none 0 0] 27)=W:=⟨_,rfl⟩
 have HB0:Hid (Below w.heap.size w W0):=by rw[←hW0];exact bel (A0 _ _) (A0 _ _)
 have b0:W0.cell? ⟨w.heap.size,0,none⟩=some (.slice p0 c.sign.length q0):=by rw[←hW0];simp[go_sem]
 have b1:W0.cell? ⟨w.heap.size,1,none⟩=some (.slice p1 c.regs.length q1):=by rw[←hW0];simp[go_sem]
 have b2:W0.cell? ⟨w.heap.size,2,none⟩=some (.slice p2 c.slots.length q2):=by rw[←hW0];simp[go_sem]
 have b3:W0.cell? ⟨w.heap.size,3,none⟩=some (.slice p3 c.list.length q3):=by rw[←hW0];simp[go_sem]
 have HR:Hid (W0.rowIs (w.heap.size+1) 27 4 (BV #[.slice none 0 0,.slice none 0 0,.slice none 0 0,.slice none 0 0])):=by
  exact S4
 clear hv hk he1 he2;go_enter func6,ntmps6;go_upto_region 1 with fail;try rw[hW0]
 go_wp2_with(go_at_call 10;refine(KC.out _ HB0.out).mono ?_;rintro e w1 ⟨rfl,hb1⟩;have HB1:=A2 hb1;have HR1:=A2 (HR.out.of_block (hb1.block _ HR.out.lt));have r0:w1.cell? ⟨w.heap.size+1,0,none⟩=some (.slice none 0 0):=HR1.out.cell (i:=0) dE;have r1:w1.cell? ⟨w.heap.size+1,1,none⟩=some (.slice none 0 0):=HR1.out.cell (i:=1) dE;have r2:w1.cell? ⟨w.heap.size+1,2,none⟩=some (.slice none 0 0):=HR1.out.cell (i:=2) dE;have r3:w1.cell? ⟨w.heap.size+1,3,none⟩=some (.slice none 0 0):=HR1.out.cell (i:=3) dE;have f0:=HR1.out.frozen 0;have f1:=HR1.out.frozen 1;have f2:=HR1.out.frozen 2;have f3:=HR1.out.frozen 3;clear hb1);refine bodyPost_ret (by simp[results,results6,go_sem, *];try rfl) rfl ?_;exact SF
theorem Er(v0 v1 v2 v3:Value)(c:Cd)(hk:Ba c)(w:World)(hv:BP w v0 v1 v2 v3 c)(hc:(Ah c).1=0):
 Calls prog 6 #[.agg #[v0,v1,v2,v3]] w fun e w'=>∃u0 u1 u2 u3,e=.returned (.tuple #[.agg #[u0,u1,u2,u3],.int .i64 0])/\BP w' u0 u1 u2 u3 (pruneC c)/\NZ w.heap.size w' u0 u1 u2 u3 (pruneC c)/\Below w.heap.size w w':=by
 obtain⟨hg,htk⟩:=GU hc;have KC:Hid (∀v,Below w.heap.size w v->Calls prog 10 #[.agg #[v0,v1,v2,v3]] v fun e w'=>e=.returned (.tuple #[.int .i64 0,.int .i64 (Ah c).2])/\Below v.heap.size v w'):=fun v hvv=>by have:=Gs v0 v1 v2 v3 c hk v (hv.below hvv);rw[hc]at this;exact this
 obtain⟨e2,he2⟩:∃e2,(Ah c).2=e2:=⟨_,rfl⟩
 rw[he2]at KC;have K0:Hid (∀v,Below w.heap.size w v->Calls prog 16 #[v0] v fun e w'=>∃p d,e=.returned (.slice p c.sign.length d)/\w'.ownsRow v.heap.size 42 3 (.slice p c.sign.length d) c.sign.length (Am AP c.sign)/\Below v.heap.size v w'):=fun v hvv=>(L6 v0 c.sign v (hv.sign.below hvv) (by have:=hg.signL;omega)).mono fun e w' ⟨p,d,h1,h2,h4,h3⟩=>⟨p,d,h1,h4,h3⟩
 have HVV:=A2 hv;obtain⟨p0,q0,rfl⟩:∃p q,v0=.slice p c.sign.length q:=by obtain⟨p,q,e,_⟩:=hv.sign;exact⟨p,q,e⟩
 obtain⟨p1,q1,rfl⟩:∃p q,v1=.slice p c.regs.length q:=by obtain⟨p,q,e,_⟩:=hv.regs;exact⟨p,q,e⟩
 obtain⟨p2,q2,rfl⟩:∃p q,v2=.slice p c.slots.length q:=by obtain⟨p,q,e,_⟩:=hv.slots;exact⟨p,q,e⟩
 obtain⟨p3,q3,rfl⟩:∃p q,v3=.slice p c.list.length q:=by obtain⟨p,q,e,_⟩:=hv.list;exact⟨p,q,e⟩
 have hL1:=hg.listL;have hR1:=hg.regsL;have hS1:=hg.slotsL;have KN:Hid (∀ (v:World),Below w.heap.size w v->∀C,v.cell? ⟨C,1,none⟩=some (.slice p1 c.regs.length q1)->v.cell? ⟨C,2,none⟩=some (.slice p2 c.slots.length q2)->v.cell? ⟨C,3,none⟩=some (.slice p3 c.list.length q3)->Calls prog 11 #[.pointer (some ⟨C,0,none⟩)] v fun e w'=>∃p q,e=.returned (.slice p (ndL c).length q)/\w'.ownsRow v.heap.size 40 7 (.slice p (ndL c).length q) (ndL c).length (Am Bf (ndL c))/\((ndL c).length=0->p=none/\q=0)/\Below v.heap.size v w'):=fun v hb C h1 h2 h3=>Je c hc v C p1 p2 p3 q1 q2 q3 hR1 hS1 hL1 h1 h2 h3 (hv.list.below hb);have HRA:Hid (∀v,Below w.heap.size w v->AR 2 Du v (.slice p1 c.regs.length q1) c.regs):=fun v hb=>hv.regs.below hb;have HSA:Hid (∀v,Below w.heap.size w v->AR 5 E8 v (.slice p2 c.slots.length q2) c.slots):=fun v hb=>hv.slots.below hb;have HNL:Hid ((ndL c).length<=32768):=by have h9:(ndL c).length<=c.list.length:=DO _ _ _ _;show _<=_;omega
 have HFIN:Hid (AO (Fp (Bb (ndL c) (ndL c).length) (Br (ndL c))) c.regs=(pruneC c).regs/\AO (Fp (Bh (ndL c) (ndL c).length) (Br (ndL c))) c.slots=(pruneC c).slots/\(pruneC c).sign=c.sign):=⟨by rw[funext (Qh hc)];rfl,by rw[funext (Qi hc)];rfl,rfl⟩
 have HVR:=A2 (fun o (ho:o∈Bb (ndL c) (ndL c).length)=>Ph hc ho);have HVS:=A2 (fun o (ho:o∈Bh (ndL c) (ndL c).length)=>Pj hc (Ak (usR c.list)) ho);have HFR:=A2 (fun f hf o ho=>Qb hc f hf o ho);have HFS:=A2 (fun f hf o ho=>Qc hc (Ak (usR c.list)) f hf o ho);have HPL:=A2 (Jl hc);obtain⟨l,hl⟩:∃l,ndL c=l:=⟨_,rfl⟩
 simp only[hl]at KN HNL HFIN HVR HVS HFR HFS HPL;obtain⟨l1,hl1⟩:∃l1,l.map (F6 (Ak (usR c.list)))=l1:=⟨_,rfl⟩
 simp only[hl1]at HVS HFR HFS HPL;have HL1:Hid (l1.length=l.length/\Bh l1 l1.length=Bh l l.length):=by
  rw[←hl1];refine⟨List.length_map ..,?_⟩;rw[List.length_map];exact Ia (F6 (Ak (usR c.list))) (fun _=>rfl) l _
 obtain⟨n,hn⟩:∃n,l.length=n:=⟨_,rfl⟩
 have HLN:=A2 hn;simp only[hn]at KN HNL HVR HVS HFR HFS HL1 HFIN;obtain⟨N0,hN0⟩:∃N,c.sign.length=N:=⟨_,rfl⟩
 obtain⟨N1,hN1⟩:∃N,c.regs.length=N:=⟨_,rfl⟩
 obtain⟨N2,hN2⟩:∃N,c.slots.length=N:=⟨_,rfl⟩
 obtain⟨N3,hN3⟩:∃N,c.list.length=N:=⟨_,rfl⟩
 simp only[hN0,hN1,hN2,hN3]at KC K0 KN hL1 hR1 hS1 HVV HRA HSA HVR HVS ⊢;have HN:Hid (c.sign.length=N0/\c.regs.length=N1/\c.slots.length=N2/\c.list.length=N3):=⟨hN0,hN1,hN2,hN3⟩
 obtain⟨W0,hW0⟩:∃W,(w.alloc (.cells #[.slice p0 N0 q0,.slice p1 N1 q1,.slice p2 N2 q2,.slice p3 N3 q3] 27)).alloc (.cells #[.slice none 0 0,.slice none 0 0,.slice none 0 0,.slice none 0 0] 27)=W:=⟨_,rfl⟩
 have HB0:Hid (Below w.heap.size w W0):=by rw[←hW0];exact bel (A0 _ _) (A0 _ _)
 have b0:W0.cell? ⟨w.heap.size,0,none⟩=some (.slice p0 N0 q0):=by rw[←hW0];simp[go_sem]
 have b1:W0.cell? ⟨w.heap.size,1,none⟩=some (.slice p1 N1 q1):=by rw[←hW0];simp[go_sem]
 have b2:W0.cell? ⟨w.heap.size,2,none⟩=some (.slice p2 N2 q2):=by rw[←hW0];simp[go_sem]
 have b3:W0.cell? ⟨w.heap.size,3,none⟩=some (.slice p3 N3 q3):=by rw[←hW0];simp[go_sem]
 have HR:Hid (W0.rowIs (w.heap.size+1) 27 4 (BV #[.slice none 0 0,.slice none 0 0,.slice none 0 0,.slice none 0 0])):=by
  show World.rowIs _ _ _ _ _;rw[←hW0];have h9:=AN (w.alloc (.cells #[.slice p0 N0 q0,.slice p1 N1 q1,.slice p2 N2 q2,.slice p3 N3 q3] 27)) #[.slice none 0 0,.slice none 0 0,.slice none 0 0,.slice none 0 0] 27;rw[show(w.alloc (.cells #[.slice p0 N0 q0,.slice p1 N1 q1,.slice p2 N2 q2,.slice p3 N3 q3] 27)).heap.size=w.heap.size+1 by simp]at h9;exact h9
 clear hv hk he2 hg htk hc hN0 hN1 hN2 hN3 hn hl1 hl;go_enter func6,ntmps6;go_upto_region 1 with fail;try rw[hW0]
 clear hW0;go_upto_region 5 with(first
  |(go_at_call 10;(with_reducible refine(KC.out _ HB0.out).mono ?_);rintro e w1 ⟨rfl,hb1⟩;have HB1:=A2 (bel HB0.out hb1);have HR1:=A2 (HR.out.of_block (hb1.block _ HR.out.lt));have c0:=kc hb1 b0;have c1:=kc hb1 b1;have c2:=kc hb1 b2;have c3:=kc hb1 b3;clear hb1 b0 b1 b2 b3)
  |(go_at_call 11;(with_reducible refine(KN.out _ HB1.out _ c1 c2 c3).mono ?_);rintro e w2 ⟨pl,ql,rfl,hli,hz2,hb2⟩;have HLI:=A2 hli;have HZ2:=A2 hz2;have HB2:=A2 hb2;clear hb2 hli hz2))
 obtain⟨E,hE⟩:∃E,w1.heap.size=E:=⟨_,rfl⟩
 have HEN:Hid (w.heap.size+1<E/\w.heap.size<=E):=by rw[←hE];have h9:=HR1.out.lt;exact⟨h9,oM⟩
 rw[hE]at HLI HB2;have HE2:Hid (E<=w2.heap.size):=by rw[←hE];have:=HB2.out.size;exact this
 obtain⟨LB,NC,f,hEL,hLBs,hpl,hlm,hnc,hfx,hback⟩:=Mc HLI.out HZ2.out;have HLOW:Hid (∀v,Below E w1 v->v.cell? ⟨w.heap.size,0,none⟩=some (.slice p0 N0 q0)/\v.cell? ⟨w.heap.size,1,none⟩=some (.slice p1 N1 q1)/\v.cell? ⟨w.heap.size,2,none⟩=some (.slice p2 N2 q2)/\v.rowIs (w.heap.size+1) 27 4 (BV #[.slice none 0 0,.slice none 0 0,.slice none 0 0,.slice none 0 0])/\Below w.heap.size w v):=fun v hv=>by
  have k:∀ {a:Addr} {x:Value},a.block<E->w1.cell? a=some x->v.cell? a=some x:=fun{a x} ha hx=>(World.cell?_of_block (hv.block a.block ha)).trans hx;have h1:=HEN.out.1;exact⟨k Rq c0,k Rq c1,k Rq c2,HR1.out.of_block (hv.block _ h1),HB1.out.trans (hv.mono HEN.out.2)⟩
 obtain⟨K,hK⟩:∃K,max N1 N2=K:=⟨_,rfl⟩
 obtain⟨W3,hW3⟩:∃W,w2.alloc (.cells (madeCells #[.bool false] K) 4)=W:=⟨_,rfl⟩
 have m1:=fun v=>DG K oM v;obtain⟨IB,hIB⟩:∃I,w2.heap.size=I:=⟨_,rfl⟩
 have HB3:Hid (Below w2.heap.size w2 W3):=by rw[←hW3];exact A0 _ _
 have HI3:Hid (W3.rowIs IB 4 K (fun _=>.bool false)):=by rw[←hW3,←hIB];exact World.rowIs_made w2 (.bool false) K 4
 have HBE3:Hid (Below E w1 W3):=HB2.out.trans (HB3.out.mono HE2.out);have HE3:Hid (E<=W3.heap.size/\E<=IB/\E<=LB):=⟨Nat.le_trans HE2.out HB3.out.size,by rw[←hIB];exact HE2.out,hEL⟩
 have HLM:Hid (NC=0\/W3.rowIs LB 40 NC f):=hlm.imp id fun h=>h.of_block (HB3.out.block _ h.lt);have HLB:Hid (LB<W3.heap.size):=by
  have h9:W3.heap.size=w2.heap.size+1:=by rw[←hW3];simp
  have h8:=HE2.out;show _<_;rcases hLBs with h7|h7<;>omega
 have HPP:=A2 hpl;have HNC:=A2 hnc;have HFX:=A2 hfx;have HBK:=A2 hback;have HLI3:=A2 (Ac HLI.out HB3.out);have d1:=(HLOW.out w2 HB2.out).2.1;have d2:=(HLOW.out w2 HB2.out).2.2.1;have HKK:Hid (N1<=K/\N2<=K):=by rw[←hK];exact⟨Nat.le_max_left _ _,Nat.le_max_right _ _⟩
 clear hEL hLBs hpl hlm hnc hfx hback HLI HB2 HR HR1 KN KC c0 c1 c2 c3 hE;go_cut [7] (fun v wx=>v=.slice (some ⟨IB,0,none⟩) K K/\wx=W3)
 case first=>
  rcases Nat.le_total N1 N2 with h9|h9
  ·have hKe:K=N2:=by rw[←hK];omega
   have z1:(N1:Int)<=(N2:Int):=oM;have z2:max (N1:Int) (N2:Int)=(N2:Int):=oM;subst hKe;clear hK h9;go_wp2;go_meet;first|exact⟨rfl,rfl⟩|(rw[hW3,hIB];exact⟨rfl,rfl⟩)
  ·have hKe:K=N1:=by rw[←hK];omega
   have z1:(N2:Int)<=(N1:Int):=oM;have z2:max (N1:Int) (N2:Int)=(N1:Int):=oM;subst hKe;clear hK h9;go_wp2;go_meet;first|exact⟨rfl,rfl⟩|(rw[hW3,hIB];exact⟨rfl,rfl⟩)
 case rest=>
  obtain⟨rfl,rfl⟩:=hcut;clear hK hW3 hIB m1 d1 d2 HB3 HE2;have KF:Hid (∀v,Below wc.heap.size wc v->Calls prog 13 #[.slice pl n ql] v fun e w'=>∃q d,e=.returned (.slice q (Bb l n).length d)/\w'.ownsRow E 79 1 (.slice q (Bb l n).length d) (Bb l n).length (Cf LB (Bb l n))/\Below v.heap.size v w'):=fun v hv=>by
   have h9:=MJ l v pl ql LB (by rw[HLN.out];exact HPP.out) (BA Bz (by rw[HLN.out];exact Ac HLI3.out hv)) (by rw[HLN.out];exact HNL.out);rw[HLN.out]at h9;exact h9.mono fun e w' ⟨q,d,h1,h2,h3⟩=>⟨q,d,h1,AM h2 (Nat.le_trans HE3.out.1 hv.size),h3⟩
  have KT:Hid (∀u,Below wc.heap.size wc u->∀pf qf,u.ownsRow E 79 1 (.slice pf (Bb l n).length qf) (Bb l n).length (Cf LB (Bb l n))->Calls prog 12 #[.slice p1 N1 q1,.slice pf (Bb l n).length qf,.slice (some ⟨IB,0,none⟩) K K] u fun e w'=>∃pr qr,e=.returned (.slice pr (pruneC c).regs.length qr)/\w'.ownsRow u.heap.size 50 2 (.slice pr (pruneC c).regs.length qr) (pruneC c).regs.length (Am Du (pruneC c).regs)/\PY E IB K LB NC (Bb l n) (Br l) f u w'):=fun u hu pf qf hF=>by
   have hbu:Below E w1 u:=HBE3.out.trans (hu.mono HE3.out.1);have h9:=PO E u c.regs p1 q1 (fun v hv=>by rw[HN.out.2.1];exact HRA.out v (HLOW.out v (hbu.trans hv)).2.2.2.2) (Bb l n) (Br l) LB NC f (fun o ho=>by
    obtain⟨a1,a2,a3,-⟩:=HVR.out o ho;refine⟨Nat.lt_of_lt_of_le a1 HNC.out,?_,by rw[HN.out.2.1];exact a3⟩;have:=HFX.out o a1;rw[this]at a2
    simpa using a2) (HLM.out.imp id fun h=>h.of_block (hu.block _ h.lt)) pf qf hF IB K (HI3.out.of_block (hu.block _ HI3.out.lt)) (by rw[HN.out.2.1];exact HKK.out.1) ⟨Nat.le_trans HE3.out.1 hu.size,HE3.out.2⟩ (by have:=FU l l.length (Nat.le_refl _);rw[HLN.out]at this;exact this) (by rw[HN.out.2.1];exact hR1) (by have:=FT l n;have:=HNL.out;omega)
   rw[HN.out.2.1,HFIN.out.1]at h9;exact h9
  obtain⟨g0,g1,g2,-⟩:=HLOW.out wc HBE3.out;obtain⟨LR,hLR⟩:∃k,(Bb l n).length=k:=⟨_,rfl⟩
  simp only[hLR]at KF KT;obtain⟨NR,hNR⟩:∃k,(pruneC c).regs.length=k:=⟨_,rfl⟩
  simp only[hNR]at KT;have HNR:=A2 hNR;clear hLR hNR;go_upto_region 6 with fail;refine rG (fun v=>v.cell? ⟨w.heap.size,1,none⟩=some (.slice p1 N1 q1)) fun hHeld=>?_;refine Tc 0 1 2 ?_;refine Bw 4 ?_;clear hHeld;refine Ax 3 fun K hK=>?_;go_simp;(go_at_call 13;(with_reducible refine(KF.out _ (AY _)).mono ?_);rintro e u1 ⟨pf,qf,rfl,hf1,hb1'⟩;have HF1:=A2 hf1;have HU1:Hid (Below wc.heap.size wc u1):=bel (AY _) hb1';obtain⟨g0,g1,g2,-⟩:=HLOW.out u1 (HBE3.out.trans (HU1.out.mono HE3.out.1));clear hf1 hb1');try(go_wp2_with fail)
  refine Aw hK fun hHeld=>?_;clear hK K;clear hHeld;refine Ax 5 fun K hK=>?_;go_simp;(go_at_call 12;(with_reducible refine(KT.out _ HU1.out _ _ HF1.out).mono ?_);rintro e u2 ⟨pr,qr,rfl,hr2,hv2⟩;have HRG:=A2 hr2;have HV2:=A2 hv2;obtain⟨g0,g1,g2,-⟩:=HLOW.out u2 ((HBE3.out.trans (HU1.out.mono HE3.out.1)).trans hv2.bel);clear hr2 hv2);try(go_wp2_with fail)
  refine Aw hK fun hHeld=>?_;clear hK K;refine Bw 6 ?_;refine wpAnyH_done kR ?_ _;have HBU2:Hid (Below E w1 u2):=(HBE3.out.trans (HU1.out.mono HE3.out.1)).trans HV2.out.bel;obtain⟨W4,hcl,hI4,hO4,hS4,hZ4⟩:=L5 HV2.out.nm;have HB4:Hid (Below E w1 W4):=by
   have hx:Below E u2 W4:=KW HE3.out.2.1 hO4 hZ4;exact HBU2.out.trans hx
  have HL4:Hid (NC=0\/W4.rowIs LB 40 NC (fJ (Bb l n) (Br l) f (Bb l n).length)):=HV2.out.li.imp id fun h=>h.of_block (hO4 _ (Bd h HV2.out.nm dE));have HRG4:Hid (W4.ownsRow u1.heap.size 50 2 (.slice pr NR qr) NR (Am Du (pruneC c).regs)):=A7 HRG.out fun g hg=>hO4 g (fun e=>AF HRG.out HV2.out.nm dE (by rw[←e];exact hg));have HLI4:Hid (W4.ownsRow E 40 7 (.slice pl n ql) n (Am Bf l1)):=HBK.out W4 _ HL4.out (Am Bf l1) (by rw[CS Bz,HL1.out.1]) (fun o ho=>by
   have:=HFR.out f (by exact HFX.out) o (by rw[HL1.out.1];exact ho)
   exact this)
  have HI4:=A2 hI4;have HCL:=A2 hcl;have HE4:Hid (E<=W4.heap.size):=Nat.le_trans HE3.out.1 (by rw[hS4];exact Nat.le_trans HU1.out.size (Nat.le_of_lt_succ (by have:=HV2.out.bel.size;omega)));have HG4:Hid (u1.heap.size<=W4.heap.size):=by show _<=_;rw[hS4];exact HV2.out.bel.size
  have HUE:Hid (E<=u1.heap.size):=Nat.le_trans HE3.out.1 HU1.out.size;obtain⟨g0,g1,g2,-⟩:=HLOW.out W4 HB4.out;clear hcl hI4 hO4 hS4 hZ4 KF KT HV2 HRG HF1 HLM HI3 HLI3 HVR;have KF:Hid (∀v,Below W4.heap.size W4 v->Calls prog 15 #[.slice pl n ql] v fun e w'=>∃q d,e=.returned (.slice q (Bh l n).length d)/\w'.ownsRow E 79 1 (.slice q (Bh l n).length d) (Bh l n).length (Cf LB (Bh l n))/\Below v.heap.size v w'):=fun v hv=>by
   have h9:=NL l1 v pl ql LB (by rw[HL1.out.1];exact HPP.out) (BA Bz (by rw[HL1.out.1];exact Ac HLI4.out hv)) (by rw[HL1.out.1];exact HNL.out);rw[HL1.out.2,HL1.out.1]at h9;exact h9.mono fun e w' ⟨q,d,h1,h2,h3⟩=>⟨q,d,h1,AM h2 (Nat.le_trans HE4.out hv.size),h3⟩
  have KT:Hid (∀u,Below W4.heap.size W4 u->∀pf qf,u.ownsRow E 79 1 (.slice pf (Bh l n).length qf) (Bh l n).length (Cf LB (Bh l n))->Calls prog 14 #[.slice p2 N2 q2,.slice pf (Bh l n).length qf,.slice (some ⟨IB,0,none⟩) K K] u fun e w'=>∃pr qr,e=.returned (.slice pr (pruneC c).slots.length qr)/\w'.ownsRow u.heap.size 55 5 (.slice pr (pruneC c).slots.length qr) (pruneC c).slots.length (Am E8 (pruneC c).slots)/\PY E IB K LB NC (Bh l n) (Br l) (fJ (Bb l n) (Br l) f (Bb l n).length) u w'):=fun u hu pf qf hF=>by
   have hbu:Below E w1 u:=HB4.out.trans (hu.mono HE4.out);have h9:=PM E u c.slots p2 q2 (fun v hv=>by rw[HN.out.2.2.1];exact HSA.out v (HLOW.out v (hbu.trans hv)).2.2.2.2) (Bh l n) (Br l) LB NC (fJ (Bb l n) (Br l) f (Bb l n).length) (fun o ho=>by
    obtain⟨a1,a2,a3,-⟩:=HVS.out o ho;refine⟨Nat.lt_of_lt_of_le a1 HNC.out,?_,by rw[HN.out.2.2.1];exact a3⟩;have:=HFR.out f HFX.out o (by rw[HL1.out.1];exact a1);rw[this]at a2
    simpa using a2) (HL4.out.imp id fun h=>h.of_block (hu.block _ h.lt)) pf qf hF IB K (HI4.out.of_block (hu.block _ HI4.out.lt)) (by rw[HN.out.2.2.1];exact HKK.out.2) ⟨Nat.le_trans HE4.out hu.size,HE3.out.2⟩ (by have:=FX l l.length (Nat.le_refl _);rw[HLN.out]at this;exact this) (by rw[HN.out.2.2.1];omega) (by have:=FV l n;have:=HNL.out;omega)
   rw[HN.out.2.2.1,HFIN.out.2.1]at h9;exact h9
  obtain⟨LS,hLS⟩:∃k,(Bh l n).length=k:=⟨_,rfl⟩
  simp only[hLS]at KF KT;obtain⟨NS,hNS⟩:∃k,(pruneC c).slots.length=k:=⟨_,rfl⟩
  simp only[hNS]at KT;have HNS:=A2 hNS;have HLS:=A2 hLS;clear hLS hNS;have hclr:=HCL.out;go_upto_region 8 with fail;clear hclr;refine rG (fun v=>v.cell? ⟨w.heap.size,2,none⟩=some (.slice p2 N2 q2)) fun hHeld=>?_;refine Tc 0 1 2 ?_;refine Bw 4 ?_;clear hHeld;refine Ax 3 fun K hK=>?_;go_simp;(go_at_call 15;(with_reducible refine(KF.out _ (AY _)).mono ?_);rintro e u3 ⟨pf',qf',rfl,hf1,hb1'⟩;have HF3:=A2 hf1;have HU3:Hid (Below W4.heap.size W4 u3):=bel (AY _) hb1';obtain⟨g0,g1,g2,-⟩:=HLOW.out u3 (HB4.out.trans (HU3.out.mono HE4.out));clear hf1 hb1');try(go_wp2_with fail)
  refine Aw hK fun hHeld=>?_;clear hK K;clear hHeld;refine Ax 5 fun K hK=>?_;go_simp;(go_at_call 14;(with_reducible refine(KT.out _ HU3.out _ _ HF3.out).mono ?_);rintro e u4 ⟨ps,qs,rfl,hr2,hv2⟩;have HSG:=A2 hr2;have HV4:=A2 hv2;obtain⟨g0,g1,g2,-⟩:=HLOW.out u4 ((HB4.out.trans (HU3.out.mono HE4.out)).trans hv2.bel);clear hr2 hv2);try(go_wp2_with fail)
  refine Aw hK fun hHeld=>?_;clear hK K;refine Bw 6 ?_;refine wpAnyH_done kR ?_ _;have HBU4:Hid (Below E w1 u4):=(HB4.out.trans (HU3.out.mono HE4.out)).trans HV4.out.bel;have HEU4:Hid (E<=u4.heap.size):=Nat.le_trans (Nat.le_trans HE4.out HU3.out.size) HV4.out.bel.size;have HRG5:Hid (u4.ownsRow u1.heap.size 50 2 (.slice pr NR qr) NR (Am Du (pruneC c).regs)):=by
   have h8:=Ac HRG4.out HU3.out;have hI3:u3.rowIs IB 4 K (fun _=>.bool false):=HI4.out.of_block (HU3.out.block _ HI4.out.lt);exact A7 h8 fun g hg=>HV4.out.oth g (h8.lt g hg).2 (fun e=>AF h8 hI3 dE (by rw[←e];exact hg)) (fun e=>by have h9:=(h8.lt g hg).1;have:=HLB.out;have:=HU1.out.size;omega)
  have HLI6:Hid (u4.ownsRow E 40 7 (.slice pl n ql) n (Am Bf (pruneC c).list)):=by
   have h9:=HBK.out u4 _ HV4.out.li (Am Bf (pruneC c).list) (by rw[←HPL.out,CS Bz,List.length_map,HL1.out.1]) (fun o ho=>by
    have h8:=HFS.out (fJ (Bb l n) (Br l) f (Bb l n).length) (fun o ho=>HFR.out f HFX.out o (by rw[HL1.out.1];exact ho)) o ho;rw[HPL.out]at h8
    exact h8)
   exact h9
  have HLL:Hid ((pruneC c).list.length=n):=by show _=_;rw[←HPL.out,List.length_map,HL1.out.1]
  obtain⟨-,-,-,hrw4,hbw4⟩:=HLOW.out u4 HBU4.out;have HRW4:=A2 hrw4;have HBW4:=A2 hbw4;clear hrw4 hbw4 KF KT HF3 HVS HFS HFR HFX HBK HCL HI4 HL4 HLI4 HRG4;go_wp2_with(go_at_call 16;(with_reducible refine(K0.out _ HBW4.out).mono ?_);rintro e u5 ⟨s0,d0,rfl,hr0,hb5⟩;have HR0:=A2 hr0;have HU5:=A2 hb5;have hrw:=HRW4.out.of_block (hb5.block _ HRW4.out.lt);have HRW:=A2 hrw;have r0:u5.cell? ⟨w.heap.size+1,0,none⟩=some (.slice none 0 0):=hrw.cell (i:=0) dE;have r1:u5.cell? ⟨w.heap.size+1,1,none⟩=some (.slice none 0 0):=hrw.cell (i:=1) dE;have r2:u5.cell? ⟨w.heap.size+1,2,none⟩=some (.slice none 0 0):=hrw.cell (i:=2) dE;have r3:u5.cell? ⟨w.heap.size+1,3,none⟩=some (.slice none 0 0):=hrw.cell (i:=3) dE;have f0:=hrw.frozen 0;have f1:=hrw.frozen 1;have f2:=hrw.frozen 2;have f3:=hrw.frozen 3;clear hr0 hb5 hrw);refine bodyPost_ret (by simp[results,results6,go_sem, *];try rfl) rfl ?_;obtain⟨rfl,rfl,rfl,rfl⟩:=HN.out;have hNS:=HNS.out;have hNR:=HNR.out;have hLL:=HLL.out;subst hNS hNR hLL;have k4:∀b,b≠w.heap.size+1->((((u5.setCell ⟨w.heap.size+1,0,none⟩ (.slice s0 c.sign.length d0)).setCell ⟨w.heap.size+1,1,none⟩ (.slice pr (pruneC c).regs.length qr)).setCell ⟨w.heap.size+1,2,none⟩ (.slice ps (pruneC c).slots.length qs)).setCell ⟨w.heap.size+1,3,none⟩ (.slice pl (pruneC c).list.length ql)).heap[b]? =u5.heap[b]? :=fun b hb=>(Below.heap_setCell _ _ _ _ hb).trans ((Below.heap_setCell _ _ _ _ hb).trans ((Below.heap_setCell _ _ _ _ hb).trans (Below.heap_setCell _ _ _ _ hb)));have hen:=HEN.out;have l1':=HUE.out;have l2:E<=u3.heap.size:=Nat.le_trans HE4.out HU3.out.size;have l3:=HEU4.out;have o0:=A7 HR0.out (fun g hg=>k4 g (by have h9:=(HR0.out.lt g hg).1;omega));have o1:=A7 (Ac HRG5.out HU5.out) (fun g hg=>k4 g (by have h9:=(HRG5.out.lt g hg).1;omega));have o2:=A7 (Ac HSG.out HU5.out) (fun g hg=>k4 g (by have h9:=(HSG.out.lt g hg).1;omega));have o3:=A7 (Ac HLI6.out HU5.out) (fun g hg=>k4 g (by have h9:=(HLI6.out.lt g hg).1;omega));have hO:NZ w.heap.size _ (.slice s0 c.sign.length d0) (.slice pr (pruneC c).regs.length qr) (.slice ps (pruneC c).slots.length qs) (.slice pl (pruneC c).list.length ql) (pruneC c):=⟨AM o0 oM,AM o1 oM,AM o2 oM,AM o3 oM⟩
  have hle:w.heap.size<=w.heap.size+1:=Nat.le_succ _;exact⟨_,_,_,_,rfl,⟨BA D4 hO.sign,BA Ec hO.regs,BA E9 hO.slots,BA Bz hO.list⟩,hO,((((HBW4.out.trans (HU5.out.mono (Nat.le_trans hen.2 l3))).setCell hle _).setCell hle _).setCell hle _).setCell hle _⟩
end Go.Proofs.Ytnbccaicijcklaa
