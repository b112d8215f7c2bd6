import Derived.Test.YtnlgkkbmbijndaaGreatSeal14
import Derived.Deep.DeepCutAuto
import Derived.Test.YtnlgkkbmbijndaaGreatSeal8
import Derived.Test.YtnlgkkbmbijndaaGreatSeal11
import Derived.Test.YtnlgkkbmbijndaaGreatSeal1
namespace Go.Proofs.YtnlgkkbmbijndaaGreat
open Go.RowKit Go.Proofs.Tryz
set_option linter.all false
set_option maxRecDepth 100000
set_option maxHeartbeats 16000000
def g5(a0 a1 a2 a3 a4:Value)(k:Nat):Value:=if k=0 then a0 else if k=1 then a1 else if k=2 then a2 else if k=3 then a3 else a4
theorem IB(w:World)(t:TypeId)(a0 a1 a2 a3 a4:Value):(w.alloc (.cells #[a0,a1,a2,a3,a4] t)).rowIs w.heap.size t 5 (g5 a0 a1 a2 a3 a4):=
 World.rowIs_alloc w #[a0,a1,a2,a3,a4] t _ (fun i hi=>by rcases(show i=0\/i=1\/i=2\/i=3\/i=4 by have:i<5:=hi;omega)with rfl|rfl|rfl|rfl|rfl<;>rfl)
theorem Jn{V:World}{C:Nat}{t:TypeId}{f:Nat->Value}(rc:V.rowIs C t 5 f)(a0 a1 a2 a3 a4:Value):(((((V.setCell ⟨C,0,none⟩ a0).setCell ⟨C,1,none⟩ a1).setCell ⟨C,2,none⟩ a2).setCell ⟨C,3,none⟩ a3).setCell ⟨C,4,none⟩ a4).rowIs C t 5 (g5 a0 a1 a2 a3 a4)/\AQ C V (((((V.setCell ⟨C,0,none⟩ a0).setCell ⟨C,1,none⟩ a1).setCell ⟨C,2,none⟩ a2).setCell ⟨C,3,none⟩ a3).setCell ⟨C,4,none⟩ a4):=by
 refine⟨(((((rc.set 0 a0).set 1 a1).set 2 a2).set 3 a3).set 4 a4).congr fun j hj=>?_,((((AQ.one C 0 V a0).trans (AQ.one C 1 _ a1)).trans (AQ.one C 2 _ a2)).trans (AQ.one C 3 _ a3)).trans (AQ.one C 4 _ a4)⟩;exact PX
theorem PF{V:World}{C:Nat}{t:TypeId}{a0 a1 a2 a3 a4:Value}(rc:V.rowIs C t 5 (g5 a0 a1 a2 a3 a4))(v:Value):(V.setCell ⟨C,3,none⟩ v).rowIs C t 5 (g5 a0 a1 a2 v a4)/\AQ C V (V.setCell ⟨C,3,none⟩ v):=by
 refine⟨(rc.set 3 v).congr fun j hj=>?_,AQ.one C 3 V v⟩;exact PX
theorem PG{V:World}{C:Nat}{t:TypeId}{a0 a1 a2 a3 a4:Value}(rc:V.rowIs C t 5 (g5 a0 a1 a2 a3 a4))(v:Value):(V.setCell ⟨C,4,none⟩ v).rowIs C t 5 (g5 a0 a1 a2 a3 v)/\AQ C V (V.setCell ⟨C,4,none⟩ v):=by
 refine⟨(rc.set 4 v).congr fun j hj=>?_,AQ.one C 4 V v⟩;exact PX
theorem c5{w:World}{b:Nat}{t:TypeId}{a0 a1 a2 a3 a4:Value}(h:w.rowIs b t 5 (g5 a0 a1 a2 a3 a4)):w.cell? ⟨b,0,none⟩=some a0/\w.cell? ⟨b,1,none⟩=some a1/\w.cell? ⟨b,2,none⟩=some a2/\w.cell? ⟨b,3,none⟩=some a3/\w.cell? ⟨b,4,none⟩=some a4:=⟨h.cell (i:=0) dE,h.cell (i:=1) dE,h.cell (i:=2) dE,h.cell (i:=3) dE,h.cell (i:=4) dE⟩
theorem z5{w:World}{b n:Nat}{t:TypeId}{f:Nat->Value}(h:w.rowIs b t n f):w.frozen? ⟨b,0,none⟩=false/\w.frozen? ⟨b,1,none⟩=false/\w.frozen? ⟨b,2,none⟩=false/\w.frozen? ⟨b,3,none⟩=false/\w.frozen? ⟨b,4,none⟩=false:=⟨h.frozen 0,h.frozen 1,h.frozen 2,h.frozen 3,h.frozen 4⟩
def g7(a0 a1 a2 a3 a4 a5 a6:Value)(k:Nat):Value:=if k=0 then a0 else if k=1 then a1 else if k=2 then a2 else if k=3 then a3 else if k=4 then a4 else if k=5 then a5 else a6
theorem IC(w:World)(t:TypeId)(a0 a1 a2 a3 a4 a5 a6:Value):(w.alloc (.cells #[a0,a1,a2,a3,a4,a5,a6] t)).rowIs w.heap.size t 7 (g7 a0 a1 a2 a3 a4 a5 a6):=
 World.rowIs_alloc w #[a0,a1,a2,a3,a4,a5,a6] t _ (fun i hi=>by rcases(show i=0\/i=1\/i=2\/i=3\/i=4\/i=5\/i=6 by have:i<7:=hi;omega)with rfl|rfl|rfl|rfl|rfl|rfl|rfl<;>rfl)
theorem Jo{V:World}{C:Nat}{t:TypeId}{f:Nat->Value}(rc:V.rowIs C t 7 f)(a0 a1 a2 a3 a4 a5 a6:Value):(((((((V.setCell ⟨C,0,none⟩ a0).setCell ⟨C,1,none⟩ a1).setCell ⟨C,2,none⟩ a2).setCell ⟨C,3,none⟩ a3).setCell ⟨C,4,none⟩ a4).setCell ⟨C,5,none⟩ a5).setCell ⟨C,6,none⟩ a6).rowIs C t 7 (g7 a0 a1 a2 a3 a4 a5 a6)/\AQ C V (((((((V.setCell ⟨C,0,none⟩ a0).setCell ⟨C,1,none⟩ a1).setCell ⟨C,2,none⟩ a2).setCell ⟨C,3,none⟩ a3).setCell ⟨C,4,none⟩ a4).setCell ⟨C,5,none⟩ a5).setCell ⟨C,6,none⟩ a6):=by
 refine⟨(((((((rc.set 0 a0).set 1 a1).set 2 a2).set 3 a3).set 4 a4).set 5 a5).set 6 a6).congr fun j hj=>?_,((((((AQ.one C 0 V a0).trans (AQ.one C 1 _ a1)).trans (AQ.one C 2 _ a2)).trans (AQ.one C 3 _ a3)).trans (AQ.one C 4 _ a4)).trans (AQ.one C 5 _ a5)).trans (AQ.one C 6 _ a6)⟩;exact Nu
theorem PH{V:World}{C:Nat}{t:TypeId}{a0 a1 a2 a3 a4 a5 a6:Value}(rc:V.rowIs C t 7 (g7 a0 a1 a2 a3 a4 a5 a6))(v:Value):(V.setCell ⟨C,1,none⟩ v).rowIs C t 7 (g7 a0 v a2 a3 a4 a5 a6)/\AQ C V (V.setCell ⟨C,1,none⟩ v):=by
 refine⟨(rc.set 1 v).congr fun j hj=>?_,AQ.one C 1 V v⟩;exact Nu
theorem PI{V:World}{C:Nat}{t:TypeId}{a0 a1 a2 a3 a4 a5 a6:Value}(rc:V.rowIs C t 7 (g7 a0 a1 a2 a3 a4 a5 a6))(v:Value):(V.setCell ⟨C,2,none⟩ v).rowIs C t 7 (g7 a0 a1 v a3 a4 a5 a6)/\AQ C V (V.setCell ⟨C,2,none⟩ v):=by
 refine⟨(rc.set 2 v).congr fun j hj=>?_,AQ.one C 2 V v⟩;exact Nu
theorem PJ{V:World}{C:Nat}{t:TypeId}{a0 a1 a2 a3 a4 a5 a6:Value}(rc:V.rowIs C t 7 (g7 a0 a1 a2 a3 a4 a5 a6))(v:Value):(V.setCell ⟨C,3,none⟩ v).rowIs C t 7 (g7 a0 a1 a2 v a4 a5 a6)/\AQ C V (V.setCell ⟨C,3,none⟩ v):=by
 refine⟨(rc.set 3 v).congr fun j hj=>?_,AQ.one C 3 V v⟩;exact Nu
theorem PK{V:World}{C:Nat}{t:TypeId}{a0 a1 a2 a3 a4 a5 a6:Value}(rc:V.rowIs C t 7 (g7 a0 a1 a2 a3 a4 a5 a6))(v:Value):(V.setCell ⟨C,4,none⟩ v).rowIs C t 7 (g7 a0 a1 a2 a3 v a5 a6)/\AQ C V (V.setCell ⟨C,4,none⟩ v):=by
 refine⟨(rc.set 4 v).congr fun j hj=>?_,AQ.one C 4 V v⟩;exact Nu
theorem PM{V:World}{C:Nat}{t:TypeId}{a0 a1 a2 a3 a4 a5 a6:Value}(rc:V.rowIs C t 7 (g7 a0 a1 a2 a3 a4 a5 a6))(v:Value):(V.setCell ⟨C,5,none⟩ v).rowIs C t 7 (g7 a0 a1 a2 a3 a4 v a6)/\AQ C V (V.setCell ⟨C,5,none⟩ v):=by
 refine⟨(rc.set 5 v).congr fun j hj=>?_,AQ.one C 5 V v⟩;exact Nu
theorem PN{V:World}{C:Nat}{t:TypeId}{a0 a1 a2 a3 a4 a5 a6:Value}(rc:V.rowIs C t 7 (g7 a0 a1 a2 a3 a4 a5 a6))(v:Value):(V.setCell ⟨C,6,none⟩ v).rowIs C t 7 (g7 a0 a1 a2 a3 a4 a5 v)/\AQ C V (V.setCell ⟨C,6,none⟩ v):=by
 refine⟨(rc.set 6 v).congr fun j hj=>?_,AQ.one C 6 V v⟩;exact Nu
theorem c7{w:World}{b:Nat}{t:TypeId}{a0 a1 a2 a3 a4 a5 a6:Value}(h:w.rowIs b t 7 (g7 a0 a1 a2 a3 a4 a5 a6)):w.cell? ⟨b,0,none⟩=some a0/\w.cell? ⟨b,1,none⟩=some a1/\w.cell? ⟨b,2,none⟩=some a2/\w.cell? ⟨b,3,none⟩=some a3/\w.cell? ⟨b,4,none⟩=some a4/\w.cell? ⟨b,5,none⟩=some a5/\w.cell? ⟨b,6,none⟩=some a6:=⟨h.cell (i:=0) dE,h.cell (i:=1) dE,h.cell (i:=2) dE,h.cell (i:=3) dE,h.cell (i:=4) dE,h.cell (i:=5) dE,h.cell (i:=6) dE⟩
theorem z7{w:World}{b n:Nat}{t:TypeId}{f:Nat->Value}(h:w.rowIs b t n f):w.frozen? ⟨b,0,none⟩=false/\w.frozen? ⟨b,1,none⟩=false/\w.frozen? ⟨b,2,none⟩=false/\w.frozen? ⟨b,3,none⟩=false/\w.frozen? ⟨b,4,none⟩=false/\w.frozen? ⟨b,5,none⟩=false/\w.frozen? ⟨b,6,none⟩=false:=⟨h.frozen 0,h.frozen 1,h.frozen 2,h.frozen 3,h.frozen 4,h.frozen 5,h.frozen 6⟩
theorem Ja{k A A1:Nat}{s:ByteArray}{e e1 p p1:Int}{t:ByteArray}(h:Af (CZ k) (Ab s) A e A1 e1 p p1 t):Af (C4 k) (Ab s) A e A1 e1 p p1 (Bi (Ab t)):=by
 refine⟨h.1,fun he hA=>?_⟩;have h2:=h.2 he hA;unfold CZ Ac Bg Ax at h2;unfold C4 Ac Bg Ax;by_cases q:((Ab s).drop A).length<k
 .rw[if_pos q]at h2 |-;exact h2
 .rw[if_neg q]at h2 |-;obtain⟨a,b,c,d,f⟩:=h2;refine⟨a,b,c,d,?_⟩;rw[f,CM (fun x hx=>BP s x (List.mem_of_mem_drop (List.mem_of_mem_take hx)))]
theorem S5{s:List Nat}{A A1 A2 A3:Nat}{e e1 e2 e3 p p1 p2 p3:Int}{x n:Nat}{t:Ty}(h:Af (AO 0 1) s A e A1 e1 p p1 x)(h2:Af Eg s A1 e1 A2 e2 p1 p2 t)(ht:t.kind=2)(k:Af (BJ (-1)) s A2 e2 A3 e3 p2 p3 n):Af Ff s A e A3 e3 p p3 (⟨t,x==1,0,(n:Int)⟩:Sl):=by
 unfold Ff;refine h.bind (h2.bind ?_);rw[if_pos ht];exact Af.map (g:=fun(n:Nat)=>(⟨t,x==1,0,(n:Int)⟩:Sl)) (x:=n) k
theorem S6{s:List Nat}{A A1 A2 A3:Nat}{e e1 e2 e3 p p1 p2 p3:Int}{x n:Nat}{t:Ty}(h:Af (AO 0 1) s A e A1 e1 p p1 x)(h2:Af Eg s A1 e1 A2 e2 p1 p2 t)(ht:t.kind≠2)(k:Af (C4 4) s A2 e2 A3 e3 p2 p3 n):Af Ff s A e A3 e3 p p3 (⟨t,x==1,(n:Int),0⟩:Sl):=by
 unfold Ff;refine h.bind (h2.bind ?_);rw[if_neg ht];exact Af.map (g:=fun(n:Nat)=>(⟨t,x==1,(n:Int),0⟩:Sl)) (x:=n) k
theorem Af.le{α:Type}{q:Pz α}{s:ByteArray}{A A':Nat}{e e' p p':Int}{x:α}(h:Af q (Ab s) A e A' e' p p' x)(hA:e=0->A<=s.size):e'=0->A'<=s.size:=fun h0=>by
 have:=(h.zero h0 (fun h=>by rw[Ah];exact hA h)).2;rw[Ah]at this;exact this
theorem Hu(s:ByteArray)(A:Nat)(e p:Int)(w:World)(hA:e=0->A<=s.size)(hs:s.size<=281474976710656):
 Calls prog 62 #[.agg #[.string s,.int .i64 (A:Int),.int .i64 e,.int .i64 p]] w (BZ w.heap.size w s A e p Ff ED (fun _=>True)):=by
 obtain⟨C,hS_C⟩:∃N,w.heap.size=N:=⟨_,rfl⟩
 obtain⟨W0,hA_C⟩:∃W,w.alloc (.cells #[.string s,.int .i64 (A:Int),.int .i64 e,.int .i64 p] 78)=W:=⟨_,rfl⟩
 have r9:W0.rowIs C 78 4 (f4 (.string s) (.int .i64 (A:Int)) (.int .i64 e) (.int .i64 p)):=R6;have R_C:=A6 r9;have HBW:Hid (Below C w W0):=BI hA_C (Nat.le_of_eq hS_C.symm);have HC_C:Hid (C<=C):=gF _;have HCW:=A6 hS_C;clear r9;obtain⟨D,hS_D⟩:∃N,W0.heap.size=N:=⟨_,rfl⟩
 obtain⟨W1,hA_D⟩:∃W,W0.alloc (.cells #[.string ⟨#[]⟩,.int .i64 0,.int .i64 0,.int .i64 0] 78)=W:=⟨_,rfl⟩
 have hC_D:C≠D:=F2;have hD_C:=hC_D.symm;have HC_D:Hid (C<=D):=RU;have r9:W1.rowIs D 78 4 (f4 (.string ⟨#[]⟩) (.int .i64 0) (.int .i64 0) (.int .i64 0)):=RQ;have R_D:=A6 r9
 replace HBW:=A6 (HBW.trans (BI hA_D (Nat.le_of_lt R_C.lt)))
 replace R_C:=A6 (Ai R_C.out hA_D)
 clear r9;obtain⟨F,hS_F⟩:∃N,W1.heap.size=N:=⟨_,rfl⟩
 obtain⟨W2,hA_F⟩:∃W,W1.alloc (.cells #[.int .i64 0,.int .i64 0,.bool false,.int .u32 0,.int .i64 0] 66)=W:=⟨_,rfl⟩
 have hC_F:C≠F:=F2;have hF_C:=hC_F.symm;have hD_F:D≠F:=JX;have hF_D:=hD_F.symm;have HC_F:Hid (C<=F):=RR;have r9:W2.rowIs F 66 5 (g5 (.int .i64 0) (.int .i64 0) (.bool false) (.int .u32 0) (.int .i64 0)):=(by rw[<-hA_F,<-hS_F];exact IB W1 _ _ _ _ _ _)
 have R_F:=A6 r9
 replace HBW:=A6 (HBW.trans (BI hA_F (Nat.le_of_lt R_C.lt)))
 replace R_C:=A6 (Ai R_C.out hA_F)
 replace R_D:=A6 (Ai R_D.out hA_F)
 clear r9;have HCV:Hid (C<=W2.heap.size):=Nat.le_of_lt R_C.lt;have HA:=A6 hA;have HS:=A6 hs;have KB:Hid (∀v,Calls prog 60 #[.agg #[.string s,.int .i64 (A:Int),.int .i64 e,.int .i64 p],.int .i64 0,.int .i64 1] v (BZ v.heap.size v s A e p (AO 0 1) (fun(n:Nat)=>.int .i64 (n:Int)) (fun n=>n<=1))):=fun v=>Ep s A e p 0 1 v hA hs;unfold BZ at KB;clear hA hs;obtain⟨cC0,cC1,cC2,cC3⟩:=c4 R_C.out;go_enter func62,ntmps62;go_upto_region 1 with fail;try rw[hS_C]
 try rw[hA_C]
 try rw[hS_D]
 try rw[hA_D]
 try rw[hS_F]
 try rw[hA_F]
 clear hS_C hA_C hS_D hA_D hS_F hA_F;go_upto_region 2 with(go_at_call 60;(with_reducible refine(KB.out _).mono ?_);rintro r9 w5 ⟨A1,e1,p1,x1,rfl,hx1,hR,hb⟩;replace R_C:=A6 (R_C.out.of_block (hb.block _ R_C.out.lt));replace R_D:=A6 (R_D.out.of_block (hb.block _ R_D.out.lt));replace R_F:=A6 (R_F.out.of_block (hb.block _ R_F.out.lt));replace HBW:=A6 (HBW.out.trans (hb.mono HCV.out));have HX:=A6 hx1;have HR:=A6 hR;obtain⟨mC0,mC1,mC2,mC3⟩:=c4 R_C.out;obtain⟨yC0,yC1,yC2,yC3⟩:=z4 R_C.out;clear hb hx1 hR)
 have hq:=AI R_C.out (.string s) (.int .i64 (A1:Int)) (.int .i64 e1) (.int .i64 p1);obtain⟨W3,hP_W3⟩:∃W,(((w5.setCell ⟨C,0,none⟩ (.string s)).setCell ⟨C,1,none⟩ (.int .i64 (A1:Int))).setCell ⟨C,2,none⟩ (.int .i64 e1)).setCell ⟨C,3,none⟩ (.int .i64 p1)=W:=⟨_,rfl⟩
 rw[hP_W3]at hq;try rw[hP_W3]
 replace R_D:=A6 (hq.2.row R_D.out hD_C)
 replace R_F:=A6 (hq.2.row R_F.out hF_C)
 replace R_C:=A6 hq.1
 replace HBW:=A6 (HBW.trans (hq.2.bel C HC_C.out))
 clear hq;clear hP_W3;clear cC0 cC1 cC2 cC3 mC0 mC1 mC2 mC3 yC0 yC1 yC2 yC3;clear HCV;have HCV:Hid (C<=W3.heap.size):=Nat.le_of_lt R_C.out.lt;have HA1:=A6 (HR.out.le HA.out);have KT:Hid (∀v,Calls prog 61 #[.agg #[.string s,.int .i64 (A1:Int),.int .i64 e1,.int .i64 p1]] v (BZ v.heap.size v s A1 e1 p1 Eg (fun t=>.agg #[.int .i64 t.kind,.int .i64 t.par]) (fun _=>True))):=fun v=>Hw s A1 e1 p1 v HA1.out HS.out;unfold BZ at KT;obtain⟨cC0,cC1,cC2,cC3⟩:=c4 R_C.out;go_upto_region 3 with(go_at_call 61;(with_reducible refine(KT.out _).mono ?_);rintro r9 w6 ⟨A2,e2,p2,ty,rfl,-,hR2,hb⟩;replace R_C:=A6 (R_C.out.of_block (hb.block _ R_C.out.lt));replace R_D:=A6 (R_D.out.of_block (hb.block _ R_D.out.lt));replace R_F:=A6 (R_F.out.of_block (hb.block _ R_F.out.lt));replace HBW:=A6 (HBW.out.trans (hb.mono HCV.out));have HR2:=A6 hR2;obtain⟨G,hS_G⟩:∃N,w6.heap.size=N:=⟨_,rfl⟩;obtain⟨W4,hA_G⟩:∃W,w6.alloc (.cells #[.int .i64 0,.int .i64 0] 62)=W:=⟨_,rfl⟩;have hC_G:C≠G:=F2;have hG_C:=hC_G.symm;have hD_G:D≠G:=JX;have hG_D:=hD_G.symm;have hF_G:F≠G:=Np;have hG_F:=hF_G.symm;have HC_G:Hid (C<=G):=(by show C<=G;have:=R_C.out.lt;omega);have r9:W4.rowIs G 62 2 (g2 (.int .i64 0) (.int .i64 0)):=(by rw[<-hA_G,<-hS_G];exact GF w6 _ _ _);have R_G:=A6 r9;replace HBW:=A6 (HBW.out.trans (BI hA_G (Nat.le_of_lt R_C.out.lt)));replace R_C:=A6 (Ai R_C.out hA_G);replace R_D:=A6 (Ai R_D.out hA_G);replace R_F:=A6 (Ai R_F.out hA_G);clear r9;obtain⟨mC0,mC1,mC2,mC3⟩:=c4 R_C.out;obtain⟨yC0,yC1,yC2,yC3⟩:=z4 R_C.out;obtain⟨mG0,mG1⟩:=c2 R_G.out;obtain⟨yG0,yG1⟩:=z2 R_G.out;clear hb hR2)
 obtain⟨KD,hKD⟩:∃k,ty.kind=k:=⟨_,rfl⟩
 obtain⟨PA,hPA⟩:∃k,ty.par=k:=⟨_,rfl⟩
 try rw[hKD,hPA]
 have HKD:=A6 hKD;have HPA:=A6 hPA;clear hKD hPA;try rw[hS_G]
 try rw[hA_G]
 clear hS_G hA_G;have hq:=AI R_C.out (.string s) (.int .i64 (A2:Int)) (.int .i64 e2) (.int .i64 p2);obtain⟨W5,hP_W5⟩:∃W,(((W4.setCell ⟨C,0,none⟩ (.string s)).setCell ⟨C,1,none⟩ (.int .i64 (A2:Int))).setCell ⟨C,2,none⟩ (.int .i64 e2)).setCell ⟨C,3,none⟩ (.int .i64 p2)=W:=⟨_,rfl⟩
 rw[hP_W5]at hq;try rw[hP_W5]
 replace R_D:=A6 (hq.2.row R_D.out hD_C)
 replace R_F:=A6 (hq.2.row R_F.out hF_C)
 replace R_G:=A6 (hq.2.row R_G.out hG_C)
 replace R_C:=A6 hq.1
 replace HBW:=A6 (HBW.trans (hq.2.bel C HC_C.out))
 clear hq;clear hP_W5;have hq:=Hp R_G.out (.int .i64 KD) (.int .i64 PA);obtain⟨W6,hP_W6⟩:∃W,(W5.setCell ⟨G,0,none⟩ (.int .i64 KD)).setCell ⟨G,1,none⟩ (.int .i64 PA)=W:=⟨_,rfl⟩
 rw[hP_W6]at hq;try rw[hP_W6]
 replace R_C:=A6 (hq.2.row R_C.out hC_G)
 replace R_D:=A6 (hq.2.row R_D.out hD_G)
 replace R_F:=A6 (hq.2.row R_F.out hF_G)
 replace R_G:=A6 hq.1
 replace HBW:=A6 (HBW.trans (hq.2.bel C HC_G.out))
 clear hq;clear hP_W6;clear cC0 cC1 cC2 cC3 mC0 mC1 mC2 mC3 yC0 yC1 yC2 yC3 mG0 mG1 yG0 yG1;clear HCV;have HCV:Hid (C<=W6.heap.size):=Nat.le_of_lt R_C.lt;obtain⟨KP,hKP⟩:∃b,(x1==1)=b:=⟨_,rfl⟩
 have hkp:((x1:Int)==1)=KP:=by rw[<-hKP];rcases(show x1=0\/x1=1 by have:=HX.out;omega)with h|h<;>subst h<;>rfl
 have HKP:=A6 hKP;clear hKP;obtain⟨cG0,cG1⟩:=c2 R_G.out;obtain⟨H,hS_H⟩:∃N,W6.heap.size=N:=⟨_,rfl⟩
 obtain⟨W7,hA_H⟩:∃W,W6.alloc (.cells #[.int .i64 0,.int .i64 0,.bool false,.int .u32 0,.int .i64 0] 66)=W:=⟨_,rfl⟩
 have hC_H:C≠H:=F2;have hH_C:=hC_H.symm;have hD_H:D≠H:=JX;have hH_D:=hD_H.symm;have hF_H:F≠H:=Np;have hH_F:=hF_H.symm;have hG_H:G≠H:=P3;have hH_G:=hG_H.symm;have HC_H:Hid (C<=H):=(by show C<=H;have:=R_C.lt;omega)
 have r9:W7.rowIs H 66 5 (g5 (.int .i64 0) (.int .i64 0) (.bool false) (.int .u32 0) (.int .i64 0)):=(by rw[<-hA_H,<-hS_H];exact IB W6 _ _ _ _ _ _)
 have R_H:=A6 r9
 replace HBW:=A6 (HBW.trans (BI hA_H (Nat.le_of_lt R_C.lt)))
 replace R_C:=A6 (Ai R_C.out hA_H)
 replace R_D:=A6 (Ai R_D.out hA_H)
 replace R_F:=A6 (Ai R_F.out hA_H)
 replace R_G:=A6 (Ai R_G.out hA_H)
 clear r9;obtain⟨cH0,cH1,cH2,cH3,cH4⟩:=c5 R_H.out;obtain⟨zH0,zH1,zH2,zH3,zH4⟩:=z5 R_H.out;have hq:=Jn R_H.out (.int .i64 KD) (.int .i64 PA) (.bool KP) (.int .u32 0) (.int .i64 0);obtain⟨W8,hP_W8⟩:∃W,((((W7.setCell ⟨H,0,none⟩ (.int .i64 KD)).setCell ⟨H,1,none⟩ (.int .i64 PA)).setCell ⟨H,2,none⟩ (.bool KP)).setCell ⟨H,3,none⟩ (.int .u32 0)).setCell ⟨H,4,none⟩ (.int .i64 0)=W:=⟨_,rfl⟩
 rw[hP_W8]at hq
 replace R_C:=A6 (hq.2.row R_C.out hC_H)
 replace R_D:=A6 (hq.2.row R_D.out hD_H)
 replace R_F:=A6 (hq.2.row R_F.out hF_H)
 replace R_G:=A6 (hq.2.row R_G.out hG_H)
 replace R_H:=A6 hq.1
 replace HBW:=A6 (HBW.trans (hq.2.bel C HC_H.out))
 clear hq;have HP_W8:=A6 hP_W8;clear hP_W8;go_upto_region 4 with fail;try rw[hS_H]
 try rw[hA_H]
 try rw[HP_W8.out]
 clear hS_H hA_H HP_W8;clear cG0 cG1 cH0 cH1 cH2 cH3 cH4 zH0 zH1 zH2 zH3 zH4;clear HCV hkp;have HCV:Hid (C<=W8.heap.size):=Nat.le_of_lt R_C.lt;obtain⟨cG0,cG1⟩:=c2 R_G.out;by_cases hk:KD=2
 ·--{1
  have q3:(KD==2)=true:=sO;have HK2:Hid (ty.kind=2):=HKD.out.trans hk;clear hk;have KN:Hid (∀v,Calls prog 59 #[.agg #[.string s,.int .i64 (A2:Int),.int .i64 e2,.int .i64 p2],.int .i64 (-1)] v (BZ v.heap.size v s A2 e2 p2 (BJ (-1)) (fun(n:Nat)=>.int .i64 (n:Int)) (fun n=>n<2^63))):=fun v=>Bt s A2 e2 p2 (-1) v (HR2.out.le HA1.out) HS.out;unfold BZ at KN;obtain⟨cC0,cC1,cC2,cC3⟩:=c4 R_C.out;go_step;go_step;go_step;go_upto_region 6 with(go_at_call 59;(with_reducible refine(KN.out _).mono ?_);rintro r9 w7 ⟨A3,e3,p3,n3,rfl,-,hR3,hb⟩;replace R_C:=A6 (R_C.out.of_block (hb.block _ R_C.out.lt));replace R_D:=A6 (R_D.out.of_block (hb.block _ R_D.out.lt));replace R_F:=A6 (R_F.out.of_block (hb.block _ R_F.out.lt));replace R_G:=A6 (R_G.out.of_block (hb.block _ R_G.out.lt));replace R_H:=A6 (R_H.out.of_block (hb.block _ R_H.out.lt));replace HBW:=A6 (HBW.out.trans (hb.mono HCV.out));have HR3:=A6 hR3;obtain⟨mC0,mC1,mC2,mC3⟩:=c4 R_C.out;obtain⟨yC0,yC1,yC2,yC3⟩:=z4 R_C.out;obtain⟨mH0,mH1,mH2,mH3,mH4⟩:=c5 R_H.out;obtain⟨yH0,yH1,yH2,yH3,yH4⟩:=z5 R_H.out;clear hb hR3)
  have hq:=AI R_C.out (.string s) (.int .i64 (A3:Int)) (.int .i64 e3) (.int .i64 p3);obtain⟨W9,hP_W9⟩:∃W,(((w7.setCell ⟨C,0,none⟩ (.string s)).setCell ⟨C,1,none⟩ (.int .i64 (A3:Int))).setCell ⟨C,2,none⟩ (.int .i64 e3)).setCell ⟨C,3,none⟩ (.int .i64 p3)=W:=⟨_,rfl⟩
  rw[hP_W9]at hq;try rw[hP_W9]
  replace R_D:=A6 (hq.2.row R_D.out hD_C)
  replace R_F:=A6 (hq.2.row R_F.out hF_C)
  replace R_G:=A6 (hq.2.row R_G.out hG_C)
  replace R_H:=A6 (hq.2.row R_H.out hH_C)
  replace R_C:=A6 hq.1
  replace HBW:=A6 (HBW.trans (hq.2.bel C HC_C.out))
  clear hq;clear hP_W9;have hq:=PG R_H.out (.int .i64 (n3:Int));obtain⟨W10,hP_W10⟩:∃W,W9.setCell ⟨H,4,none⟩ (.int .i64 (n3:Int))=W:=⟨_,rfl⟩
  rw[hP_W10]at hq;try rw[hP_W10]
  replace R_C:=A6 (hq.2.row R_C.out hC_H)
  replace R_D:=A6 (hq.2.row R_D.out hD_H)
  replace R_F:=A6 (hq.2.row R_F.out hF_H)
  replace R_G:=A6 (hq.2.row R_G.out hG_H)
  replace R_H:=A6 hq.1
  replace HBW:=A6 (HBW.trans (hq.2.bel C HC_H.out))
  clear hq;clear hP_W10;clear cG0 cG1 cC0 cC1 cC2 cC3 mC0 mC1 mC2 mC3 yC0 yC1 yC2 yC3 mH0 mH1 mH2 mH3 mH4 yH0 yH1 yH2 yH3 yH4;have HREL:=A6 (S5 HR.out HR2.out HK2.out HR3.out);rw[HKP.out]at HREL;obtain⟨cC0,cC1,cC2,cC3⟩:=c4 R_C.out;obtain⟨cH0,cH1,cH2,cH3,cH4⟩:=c5 R_H.out;obtain⟨cD0,cD1,cD2,cD3⟩:=c4 R_D.out;obtain⟨cF0,cF1,cF2,cF3,cF4⟩:=c5 R_F.out;obtain⟨zD0,zD1,zD2,zD3⟩:=z4 R_D.out;obtain⟨zF0,zF1,zF2,zF3,zF4⟩:=z5 R_F.out;have hq:=AI R_D.out (.string s) (.int .i64 (A3:Int)) (.int .i64 e3) (.int .i64 p3);obtain⟨W11,hP_W11⟩:∃W,(((W10.setCell ⟨D,0,none⟩ (.string s)).setCell ⟨D,1,none⟩ (.int .i64 (A3:Int))).setCell ⟨D,2,none⟩ (.int .i64 e3)).setCell ⟨D,3,none⟩ (.int .i64 p3)=W:=⟨_,rfl⟩
  rw[hP_W11]at hq
  replace R_C:=A6 (hq.2.row R_C.out hC_D)
  replace R_F:=A6 (hq.2.row R_F.out hF_D)
  replace R_G:=A6 (hq.2.row R_G.out hG_D)
  replace R_H:=A6 (hq.2.row R_H.out hH_D)
  replace R_D:=A6 hq.1
  replace HBW:=A6 (HBW.trans (hq.2.bel C HC_D.out))
  clear hq;have HP_W11:=A6 hP_W11;clear hP_W11;have hq:=Jn R_F.out (.int .i64 KD) (.int .i64 PA) (.bool KP) (.int .u32 0) (.int .i64 (n3:Int));obtain⟨W12,hP_W12⟩:∃W,((((W11.setCell ⟨F,0,none⟩ (.int .i64 KD)).setCell ⟨F,1,none⟩ (.int .i64 PA)).setCell ⟨F,2,none⟩ (.bool KP)).setCell ⟨F,3,none⟩ (.int .u32 0)).setCell ⟨F,4,none⟩ (.int .i64 (n3:Int))=W:=⟨_,rfl⟩
  rw[hP_W12]at hq
  replace R_C:=A6 (hq.2.row R_C.out hC_F)
  replace R_D:=A6 (hq.2.row R_D.out hD_F)
  replace R_G:=A6 (hq.2.row R_G.out hG_F)
  replace R_H:=A6 (hq.2.row R_H.out hH_F)
  replace R_F:=A6 hq.1
  replace HBW:=A6 (HBW.trans (hq.2.bel C HC_F.out))
  clear hq;have HP_W12:=A6 hP_W12;clear hP_W12;obtain⟨l0,l1,l2,l3⟩:=c4 R_D.out;obtain⟨o0,o1,o2,o3,o4⟩:=c5 R_F.out;have HB:Hid (Below w.heap.size w W12.drew):=by show Below _ _ _;rw[HCW.out];exact HBW.drew
  go_wp2_with fail;refine rG (fun v=>v.cell? ⟨C,0,none⟩=some (.string s)/\v.cell? ⟨C,1,none⟩=some (.int .i64 (A3:Int))/\v.cell? ⟨C,2,none⟩=some (.int .i64 e3)/\v.cell? ⟨C,3,none⟩=some (.int .i64 p3)/\v.cell? ⟨H,0,none⟩=some (.int .i64 KD)/\v.cell? ⟨H,1,none⟩=some (.int .i64 PA)/\v.cell? ⟨H,2,none⟩=some (.bool KP)/\v.cell? ⟨H,3,none⟩=some (.int .u32 0)/\v.cell? ⟨H,4,none⟩=some (.int .i64 (n3:Int))) fun hJ=>?_;refine wpAnyH_take (i:=0) (v:=?_) A8 kR kR kR A9 (Or.inl ⟨rF,?_⟩) Aa ?_
  rotate_left 1
  ·(intro wS hSw;(try dsimp only at hSw);go_simp;try(with_reducible rfl))
  try simp only[Act.put,List.setIfInBounds_toArray,List.set_cons_zero,List.set_cons_succ]
  refine wpAnyH_take (i:=1) (v:=?_) A8 kR kR kR A9 (Or.inl ⟨rF,?_⟩) Aa ?_
  rotate_left 1
  ·(intro wS hSw;(try dsimp only at hSw);go_simp;try(with_reducible rfl))
  try simp only[Act.put,List.setIfInBounds_toArray,List.set_cons_zero,List.set_cons_succ]
  clear hJ;refine AP 2 fun K hK=>?_;go_simp;refine AW hK fun hJ=>?_;clear hK K;clear hJ;refine AP 3 fun K hK=>?_;go_simp;refine AW hK fun hJ=>?_;clear hK K;refine wpAnyH_done kR ?_ _;try rw[HP_W11.out]
  try rw[HP_W12.out]
  go_wp2_with fail;try rw[HP_W11.out]
  try rw[HP_W12.out]
  clear cC0 cC1 cC2 cC3 cH0 cH1 cH2 cH3 cH4 cD0 cD1 cD2 cD3 cF0 cF1 cF2 cF3 cF4 zD0 zD1 zD2 zD3 zF0 zF1 zF2 zF3 zF4;refine bodyPost_ret (by simp[results,results62,go_sem, *];try rfl) rfl ?_;exact⟨A3,e3,p3,⟨ty,KP,0,(n3:Int)⟩,by unfold ED;simp only[HKD.out,HPA.out],trivial,HREL.out,HB.out⟩
 ·--{2
  have q3:(KD==2)=false:=sO;have HK2:Hid (ty.kind≠2):=fun h=>hk (HKD.out.symm.trans h);clear hk;have KS:Hid (∀v,Calls prog 29 #[.agg #[.string s,.int .i64 (A2:Int),.int .i64 e2,.int .i64 p2],.int .i64 4] v (BZ v.heap.size v s A2 e2 p2 (CZ 4) (fun t=>.string t) (fun t=>t.size<=4))):=fun v=>DQ s A2 e2 p2 4 v (HR2.out.le HA1.out) HS.out dE;unfold BZ at KS;obtain⟨cC0,cC1,cC2,cC3⟩:=c4 R_C.out;go_upto_region 8 with(go_at_call 29;(with_reducible refine(KS.out _).mono ?_);rintro r9 w7 ⟨A3,e3,p3,t3,rfl,ht3,hR3,hb⟩;replace R_C:=A6 (R_C.out.of_block (hb.block _ R_C.out.lt));replace R_D:=A6 (R_D.out.of_block (hb.block _ R_D.out.lt));replace R_F:=A6 (R_F.out.of_block (hb.block _ R_F.out.lt));replace R_G:=A6 (R_G.out.of_block (hb.block _ R_G.out.lt));replace R_H:=A6 (R_H.out.of_block (hb.block _ R_H.out.lt));replace HBW:=A6 (HBW.out.trans (hb.mono HCV.out));have HR3:=A6 hR3;have HT3:=A6 ht3;obtain⟨mC0,mC1,mC2,mC3⟩:=c4 R_C.out;obtain⟨yC0,yC1,yC2,yC3⟩:=z4 R_C.out;clear hb hR3 ht3)
  have hq:=AI R_C.out (.string s) (.int .i64 (A3:Int)) (.int .i64 e3) (.int .i64 p3);obtain⟨W9,hP_W9⟩:∃W,(((w7.setCell ⟨C,0,none⟩ (.string s)).setCell ⟨C,1,none⟩ (.int .i64 (A3:Int))).setCell ⟨C,2,none⟩ (.int .i64 e3)).setCell ⟨C,3,none⟩ (.int .i64 p3)=W:=⟨_,rfl⟩
  rw[hP_W9]at hq;try rw[hP_W9]
  replace R_D:=A6 (hq.2.row R_D.out hD_C)
  replace R_F:=A6 (hq.2.row R_F.out hF_C)
  replace R_G:=A6 (hq.2.row R_G.out hG_C)
  replace R_H:=A6 (hq.2.row R_H.out hH_C)
  replace R_C:=A6 hq.1
  replace HBW:=A6 (HBW.trans (hq.2.bel C HC_C.out))
  clear hq;clear hP_W9;clear cG0 cG1 cC0 cC1 cC2 cC3 mC0 mC1 mC2 mC3 yC0 yC1 yC2 yC3;have KV:=A6 (fun v=>E8 t3 (gH HT3.out dE) v);obtain⟨M,hM⟩:=gA (Bi (Ab t3))
  have hM4:M<256^4:=by
   exact SS
  have wM:IntKind.u32.wrap (M:Int)=(M:Int):=by unfold IntKind.wrap;simp[IntKind.signed,IntKind.bits];omega
  have HREL:=A6 (S6 HR.out HR2.out HK2.out (Ja HR3.out));rw[HKP.out,hM]at HREL;rw[hM]at KV;clear hM hM4;obtain⟨cH0,cH1,cH2,cH3,cH4⟩:=c5 R_H.out;obtain⟨zH0,zH1,zH2,zH3,zH4⟩:=z5 R_H.out;go_upto_region 9 with(go_at_call 30;(with_reducible refine(KV.out _).mono ?_);rintro r9 w8 ⟨rfl,hw8⟩;have hw8:=hw8.symm;subst hw8)
  have hq:=PF R_H.out (.int .u32 (M:Int));obtain⟨W10,hP_W10⟩:∃W,W9.setCell ⟨H,3,none⟩ (.int .u32 (M:Int))=W:=⟨_,rfl⟩
  rw[hP_W10]at hq;try rw[hP_W10]
  replace R_C:=A6 (hq.2.row R_C.out hC_H)
  replace R_D:=A6 (hq.2.row R_D.out hD_H)
  replace R_F:=A6 (hq.2.row R_F.out hF_H)
  replace R_G:=A6 (hq.2.row R_G.out hG_H)
  replace R_H:=A6 hq.1
  replace HBW:=A6 (HBW.trans (hq.2.bel C HC_H.out))
  clear hq;clear hP_W10;clear cH0 cH1 cH2 cH3 cH4 zH0 zH1 zH2 zH3 zH4;obtain⟨cC0,cC1,cC2,cC3⟩:=c4 R_C.out;obtain⟨cH0,cH1,cH2,cH3,cH4⟩:=c5 R_H.out;obtain⟨cD0,cD1,cD2,cD3⟩:=c4 R_D.out;obtain⟨cF0,cF1,cF2,cF3,cF4⟩:=c5 R_F.out;obtain⟨zD0,zD1,zD2,zD3⟩:=z4 R_D.out;obtain⟨zF0,zF1,zF2,zF3,zF4⟩:=z5 R_F.out;have hq:=AI R_D.out (.string s) (.int .i64 (A3:Int)) (.int .i64 e3) (.int .i64 p3);obtain⟨W11,hP_W11⟩:∃W,(((W10.setCell ⟨D,0,none⟩ (.string s)).setCell ⟨D,1,none⟩ (.int .i64 (A3:Int))).setCell ⟨D,2,none⟩ (.int .i64 e3)).setCell ⟨D,3,none⟩ (.int .i64 p3)=W:=⟨_,rfl⟩
  rw[hP_W11]at hq
  replace R_C:=A6 (hq.2.row R_C.out hC_D)
  replace R_F:=A6 (hq.2.row R_F.out hF_D)
  replace R_G:=A6 (hq.2.row R_G.out hG_D)
  replace R_H:=A6 (hq.2.row R_H.out hH_D)
  replace R_D:=A6 hq.1
  replace HBW:=A6 (HBW.trans (hq.2.bel C HC_D.out))
  clear hq;have HP_W11:=A6 hP_W11;clear hP_W11;have hq:=Jn R_F.out (.int .i64 KD) (.int .i64 PA) (.bool KP) (.int .u32 (M:Int)) (.int .i64 0);obtain⟨W12,hP_W12⟩:∃W,((((W11.setCell ⟨F,0,none⟩ (.int .i64 KD)).setCell ⟨F,1,none⟩ (.int .i64 PA)).setCell ⟨F,2,none⟩ (.bool KP)).setCell ⟨F,3,none⟩ (.int .u32 (M:Int))).setCell ⟨F,4,none⟩ (.int .i64 0)=W:=⟨_,rfl⟩
  rw[hP_W12]at hq
  replace R_C:=A6 (hq.2.row R_C.out hC_F)
  replace R_D:=A6 (hq.2.row R_D.out hD_F)
  replace R_G:=A6 (hq.2.row R_G.out hG_F)
  replace R_H:=A6 (hq.2.row R_H.out hH_F)
  replace R_F:=A6 hq.1
  replace HBW:=A6 (HBW.trans (hq.2.bel C HC_F.out))
  clear hq;have HP_W12:=A6 hP_W12;clear hP_W12;obtain⟨l0,l1,l2,l3⟩:=c4 R_D.out;obtain⟨o0,o1,o2,o3,o4⟩:=c5 R_F.out;have HB:Hid (Below w.heap.size w W12.drew):=by show Below _ _ _;rw[HCW.out];exact HBW.drew
  go_wp2_with fail;refine rG (fun v=>v.cell? ⟨C,0,none⟩=some (.string s)/\v.cell? ⟨C,1,none⟩=some (.int .i64 (A3:Int))/\v.cell? ⟨C,2,none⟩=some (.int .i64 e3)/\v.cell? ⟨C,3,none⟩=some (.int .i64 p3)/\v.cell? ⟨H,0,none⟩=some (.int .i64 KD)/\v.cell? ⟨H,1,none⟩=some (.int .i64 PA)/\v.cell? ⟨H,2,none⟩=some (.bool KP)/\v.cell? ⟨H,3,none⟩=some (.int .u32 (M:Int))/\v.cell? ⟨H,4,none⟩=some (.int .i64 0)) fun hJ=>?_;refine wpAnyH_take (i:=0) (v:=?_) A8 kR kR kR A9 (Or.inl ⟨rF,?_⟩) Aa ?_
  rotate_left 1
  ·(intro wS hSw;(try dsimp only at hSw);go_simp;try(with_reducible rfl))
  try simp only[Act.put,List.setIfInBounds_toArray,List.set_cons_zero,List.set_cons_succ]
  refine wpAnyH_take (i:=1) (v:=?_) A8 kR kR kR A9 (Or.inl ⟨rF,?_⟩) Aa ?_
  rotate_left 1
  ·(intro wS hSw;(try dsimp only at hSw);go_simp;try(with_reducible rfl))
  try simp only[Act.put,List.setIfInBounds_toArray,List.set_cons_zero,List.set_cons_succ]
  clear hJ;refine AP 2 fun K hK=>?_;go_simp;refine AW hK fun hJ=>?_;clear hK K;clear hJ;refine AP 3 fun K hK=>?_;go_simp;refine AW hK fun hJ=>?_;clear hK K;refine wpAnyH_done kR ?_ _;try rw[HP_W11.out]
  try rw[HP_W12.out]
  go_wp2_with fail;try rw[HP_W11.out]
  try rw[HP_W12.out]
  clear cC0 cC1 cC2 cC3 cH0 cH1 cH2 cH3 cH4 cD0 cD1 cD2 cD3 cF0 cF1 cF2 cF3 cF4 zD0 zD1 zD2 zD3 zF0 zF1 zF2 zF3 zF4;refine bodyPost_ret (by simp[results,results62,go_sem, *];try rfl) rfl ?_;exact⟨A3,e3,p3,⟨ty,KP,(M:Int),0⟩,by unfold ED;simp only[HKD.out,HPA.out],trivial,HREL.out,HB.out⟩
theorem Qp:∀op:Nat,op<38->1<=op->((C6 (op:Int)).a≠45↔Gg op=true)/\((C6 (op:Int)).b≠45↔FY op=true)/\((C6 (op:Int)).c≠45↔FQ op=true)/\((C6 (op:Int)).d≠45↔FZ op=true)/\((C6 (op:Int)).e≠45↔EB op=true):=by decide+kernel
theorem Om(v0 v1 v2 v3:Value)(c:Cd)(co:BF c)(hT:Av c=true)(op D A B E n bt La Lb Lc Ld Le:Int)(a b cc d e:UInt8)
 (HROW:Hid (∀w,Calls prog 48 #[.int .i64 op] w fun x w'=>x=.returned (.tuple #[.string ⟨#[a,b,cc,d,e]⟩,.bool true])/\w'=w))
 (HCAN:Hid (∀w,Calls prog 67 #[.int .u32 bt] w fun e w'=>e=.returned (.bool true)/\Below w.heap.size w w'))
 (ix0:∀w,(Instr.index 9 (.string ⟨#[a,b,cc,d,e]⟩) (.int .i64 0)).run prog w=.ok (.int .u8 La) w)
 (ix1:∀w,(Instr.index 9 (.string ⟨#[a,b,cc,d,e]⟩) (.int .i64 1)).run prog w=.ok (.int .u8 Lb) w)
 (ix2:∀w,(Instr.index 9 (.string ⟨#[a,b,cc,d,e]⟩) (.int .i64 2)).run prog w=.ok (.int .u8 Lc) w)
 (ix3:∀w,(Instr.index 9 (.string ⟨#[a,b,cc,d,e]⟩) (.int .i64 3)).run prog w=.ok (.int .u8 Ld) w)
 (LO:∀w,(Instr.index 9 (.string ⟨#[a,b,cc,d,e]⟩) (.int .i64 4)).run prog w=.ok (.int .u8 Le) w)
 (oa:BA La) (ob:BA Lb) (oc:BA Lc) (od:BA Ld) (oT:Le=112->La=118\/(La=45/\Lb=118)) (o1:(op==1)=true) (o2:(op != 1)=false) (hz0:La≠45) (oe:Le=45)
 (w:World) (hv:Ef w v0 v1 v2 v3 c):
 Calls prog 68 #[.agg #[v0,v1,v2,v3],.agg #[.int .i64 op,.int .i64 D,.int .i64 A,.int .i64 B,.int .i64 E,.int .i64 n,.int .u32 bt]] w fun e w'=>e=.returned (.bool (Ap c.regs La D ⟨0,0⟩&&(Ap c.regs Lb A (dR c.regs La D)&&(Ap c.regs Lc B (dR c.regs La D)&&(Ap c.regs Ld E (dR c.regs La D)&&C7 c Le n (tR c.regs La Lb D A))))))/\Below w.heap.size w w':=by
 have KO:∀ (l n:Int) (d:Ty),BA l->∀v,Below w.heap.size w v->Calls prog 92 #[.agg #[v0,v1,v2,v3],.int .u8 l,.int .i64 n,.agg #[.int .i64 d.kind,.int .i64 d.par]] v fun e w'=>e=.returned (.bool (Ap c.regs l n d))/\Below v.heap.size v w':=fun l n d hl v hb=>Dk v0 v1 v2 v3 c co l n d hl v (hv.below hb);have HT0:Hid (TW w v0 v1 v2 v3 (w.heap.size+1) op D A B E n bt ((w.alloc (.cells #[v0,v1,v2,v3] 27)).alloc (.cells #[.int .i64 op,.int .i64 D,.int .i64 A,.int .i64 B,.int .i64 E,.int .i64 n,.int .u32 bt] 70))):=TW.start w v0 v1 v2 v3 op D A B E n bt;obtain⟨p0,q0,rfl,-⟩:=id hv.sign;obtain⟨p1,q1,rfl,hr1⟩:=id hv.regs;obtain⟨p2,q2,rfl,-⟩:=id hv.slots;have hREG:∀x:Int,At x c.regs.length=true->∃ (k lb lo:Nat),x=(k:Int)/\k<c.regs.length/\p1=some ⟨lb,lo,none⟩/\w.cell? ⟨lb,lo+k*2,none⟩=some (.int .i64 (Ay c.regs x).kind)/\w.cell? ⟨lb,lo+k*2+1,none⟩=some (.int .i64 (Ay c.regs x).par):=by
  exact Ru
 have HREG:Hid (∀x:Int,At x c.regs.length=true->∃ (k lb lo:Nat),x=(k:Int)/\k<c.regs.length/\p1=some ⟨lb,lo,none⟩/\w.cell? ⟨lb,lo+k*2,none⟩=some (.int .i64 (Ay c.regs x).kind)/\w.cell? ⟨lb,lo+k*2+1,none⟩=some (.int .i64 (Ay c.regs x).par)):=hREG;have HCV:Hid (Ef w (.slice p0 c.sign.length q0) (.slice p1 c.regs.length q1) (.slice p2 c.slots.length q2) v3 c):=hv;have HCO:Hid (BF c):=co;have hB0:=co.signL;have hB1:=co.regsL;have hB2:=co.slotsL;have hTy:∀x:Int,At x c.regs.length=true->DX 118 (Ay c.regs x) ⟨0,0⟩=true->At (Ay c.regs x).par c.sign.length=true:=fun x hx hk=>by
  exact Rz
 obtain⟨n0,hn0⟩:=gA (c.sign.length)
 obtain⟨n1,hn1⟩:=gA (c.regs.length)
 obtain⟨n2,hn2⟩:=gA (c.slots.length)
 have HN0:Hid (c.sign.length=n0):=hn0;have HN1:Hid (c.regs.length=n1):=hn1;have HN2:Hid (c.slots.length=n2):=hn2;rw[hn0]at hB0;rw[hn1]at hB1;rw[hn2]at hB2;rw[hn0,hn1,hn2]at HCV KO HT0 |-;clear hREG hv hr1 hn0 hn1 hn2 co;have HTY:Hid (∀x:Int,At x c.regs.length=true->DX 118 (Ay c.regs x) ⟨0,0⟩=true->At (Ay c.regs x).par c.sign.length=true):=hTy;clear hTy hT;have hKO0:=fun d=>KO La D d oa;have hKOA:=fun d=>KO Lb A d ob;have hKOB:=fun d=>KO Lc B d oc;have hKOC:=fun d=>KO Ld E d od;clear KO;have hPP0:Le=112->La=118\/(La=45/\Lb=118):=oT;clear oT oc od;obtain⟨RES,hRES⟩:∃R,(Ap c.regs La D ⟨0,0⟩&&(Ap c.regs Lb A (dR c.regs La D)&&(Ap c.regs Lc B (dR c.regs La D)&&(Ap c.regs Ld E (dR c.regs La D)&&C7 c Le n (tR c.regs La Lb D A)))))=R:=⟨_,rfl⟩
 rw[hRES];have hz1:(La==45)=false:=by simpa using hz0
 have hz2:(La != 45)=true:=by simpa using hz0
 have hPL:Ap c.regs La D ⟨0,0⟩=true->At D c.regs.length=true:=fun h=>by
  rw[Bo hz0]at h;simp only[Bool.and_eq_true]at h;exact h.1
 have hPV:Ap c.regs La D ⟨0,0⟩=true->La=118->DX 118 (Ay c.regs D) ⟨0,0⟩=true:=fun h hl=>by
  exact RJ
 have hdR:dR c.regs La D=Ay c.regs D:=if_neg hz0;have htR:tR c.regs La Lb D A=Ay c.regs D:=by unfold tR;rw[if_neg (fun e=>hz0 e.1),hdR]
 rw[htR,hdR]at hRES;have HPP0:Hid (Ap c.regs La D ⟨0,0⟩=true->Le=112->At (Ay c.regs D).par c.sign.length=true):=fun h e=>by
  rcases hPP0 e with h1|⟨h1,-⟩
  .exact HTY.out _ (hPL h) (hPV h h1)
  .exact absurd h1 hz0
 obtain⟨X0,hX0⟩:∃X,Ap c.regs La D ⟨0,0⟩=X:=⟨_,rfl⟩
 have HK0:Hid _:=hKO0 ⟨0,0⟩;rw[hX0]at hRES hPL HPP0 HK0;simp only at HK0;clear hX0 hPV hdR htR hKO0 hPP0 HTY;cases X0
 .exact Sg
 obtain⟨kd,lb,lo,rfl,hkd,rfl,ya0,ya1⟩:=HREG.out D (hPL rfl);obtain⟨⟨dk,dp⟩,htt⟩:∃t:Ty,Ay c.regs (kd:Int)=t:=⟨_,rfl⟩
 rw[htt]at HPP0 ya0 ya1 hRES;obtain⟨XA,hXA⟩:∃X,Ap c.regs Lb A ⟨dk,dp⟩=X:=⟨_,rfl⟩
 obtain⟨XB,hXB⟩:∃X,Ap c.regs Lc B ⟨dk,dp⟩=X:=⟨_,rfl⟩
 obtain⟨XC,hXC⟩:∃X,Ap c.regs Ld E ⟨dk,dp⟩=X:=⟨_,rfl⟩
 rw[hXA,hXB,hXC]at hRES;have HKA:Hid _:=hKOA ⟨dk,dp⟩;have HKB:Hid _:=hKOB ⟨dk,dp⟩;have HKC:Hid _:=hKOC ⟨dk,dp⟩;rw[hXA]at HKA;rw[hXB]at HKB;rw[hXC]at HKC;simp only at HKA HKB HKC;have HRES:Hid ((XA&&(XB&&(XC&&C7 c Le n ⟨dk,dp⟩)))=RES):=hRES;have HPP:Hid (Le=112->At dp c.sign.length=true):=HPP0.out rfl;have ka0:(0:Int)<=(kd:Int):=oM;have ka1:(kd:Int)<(n1:Int):=by have:=HN1.out;omega
 clear hKOA hKOB hKOC hXA hXB hXC hRES HPP0 hPL htt;go_enter func68,ntmps68;go_wp2_with(first
  |(go_at_call 48;refine(HROW.out _).mono ?_;rintro e w1 ⟨rfl,rfl⟩)
  |(go_at_call 67;refine(HCAN.out _).mono ?_;rintro e w2 ⟨rfl,hb2⟩;have HT2:Hid (TW w (.slice p0 n0 q0) (.slice (some ⟨lb,lo,none⟩) n1 q1) (.slice p2 n2 q2) v3 (w.heap.size+1) op (kd:Int) A B E n bt (w2.alloc (.cells #[.int .i64 0,.int .i64 0] 62))):=(HT0.next hb2).next (A7 _ _);obtain⟨b1,c0,c1,c2,c3,i0,i1,i2,i3,i4,i5,i6⟩:=HT2.out;have HS2:Hid (w.heap.size+1<w2.heap.size):=Al (HT0.next hb2).i0;clear hb2))
 have HTD0:Hid _:=HT2.out;have HD0:Hid ((w2.alloc (.cells #[.int .i64 0,.int .i64 0] 62)).cell? ⟨w2.heap.size,0,none⟩=some (.int .i64 0)/\(w2.alloc (.cells #[.int .i64 0,.int .i64 0] 62)).cell? ⟨w2.heap.size,1,none⟩=some (.int .i64 0)/\(w2.alloc (.cells #[.int .i64 0,.int .i64 0] 62)).frozen? ⟨w2.heap.size,0,none⟩=false/\(w2.alloc (.cells #[.int .i64 0,.int .i64 0] 62)).frozen? ⟨w2.heap.size,1,none⟩=false):=⟨sG,sG,sG,sG⟩
 have HBZ9:Hid (lb<w.heap.size):=Al ya0;have HZ:Hid (w2.heap.size≠w.heap.size+1/\w.heap.size<w2.heap.size/\lb≠w2.heap.size):=by
  refine⟨?_,?_,?_⟩
  all_goals(have h3:=HS2.out;have h4:=HBZ9.out;omega)
 obtain⟨Z,hZ⟩:=gA (w2.heap.size)
 obtain⟨Wa,hWa⟩:∃W,w2.alloc (.cells #[.int .i64 0,.int .i64 0] 62)=W:=⟨_,rfl⟩
 rw[hZ]at HD0 HZ;rw[hWa]at HD0 HTD0 |-;try rw[hZ]
 clear hZ hWa HT2 b1 c0 c1 c2 c3 i0 i1 i2 i3 i4 i5 i6 HT0 HROW HCAN HS2;have HCD0:Hid (∀v,Below Wa.heap.size Wa v->v.cell? ⟨w.heap.size,0,none⟩=some (.slice p0 n0 q0)/\v.cell? ⟨w.heap.size,1,none⟩=some (.slice (some ⟨lb,lo,none⟩) n1 q1)/\v.cell? ⟨w.heap.size,2,none⟩=some (.slice p2 n2 q2)/\v.cell? ⟨w.heap.size,3,none⟩=some v3/\v.cell? ⟨w.heap.size+1,1,none⟩=some (.int .i64 (kd:Int))/\v.cell? ⟨w.heap.size+1,2,none⟩=some (.int .i64 A)/\v.cell? ⟨w.heap.size+1,3,none⟩=some (.int .i64 B)/\v.cell? ⟨w.heap.size+1,4,none⟩=some (.int .i64 E)/\v.cell? ⟨w.heap.size+1,5,none⟩=some (.int .i64 n)/\v.cell? ⟨Z,0,none⟩=some (.int .i64 0)/\v.cell? ⟨Z,1,none⟩=some (.int .i64 0)):=fun v hb=>⟨kc hb HTD0.c0,kc hb HTD0.c1,kc hb HTD0.c2,kc hb HTD0.c3,kc hb HTD0.i1,kc hb HTD0.i2,kc hb HTD0.i3,kc hb HTD0.i4,kc hb HTD0.i5,kc hb HD0.1,kc hb HD0.2.1⟩
 obtain⟨c0,c1,c2,c3,i1,i2,i3,i4,i5,d0,d1⟩:=HCD0.out Wa (Cq _);have HYA:Hid (∀v,Below Wa.heap.size Wa v->v.cell? ⟨lb,lo+kd*2,none⟩=some (.int .i64 dk)/\v.cell? ⟨lb,lo+kd*2+1,none⟩=some (.int .i64 dp)/\v.frozen? ⟨Z,0,none⟩=false/\v.frozen? ⟨Z,1,none⟩=false):=fun v hb=>⟨kc (bel HTD0.bel hb) ya0,kc (bel HTD0.bel hb) ya1,kf hb HD0.1 HD0.2.2.1,kf hb HD0.2.1 HD0.2.2.2⟩
 refine rG (fun v=>v.cell? ⟨w.heap.size,0,none⟩=some (.slice p0 n0 q0)/\v.cell? ⟨w.heap.size,1,none⟩=some (.slice (some ⟨lb,lo,none⟩) n1 q1)/\v.cell? ⟨w.heap.size,2,none⟩=some (.slice p2 n2 q2)/\v.cell? ⟨w.heap.size,3,none⟩=some v3/\v.cell? ⟨w.heap.size+1,1,none⟩=some (.int .i64 (kd:Int))/\v.cell? ⟨w.heap.size+1,2,none⟩=some (.int .i64 A)/\v.cell? ⟨w.heap.size+1,3,none⟩=some (.int .i64 B)/\v.cell? ⟨w.heap.size+1,4,none⟩=some (.int .i64 E)/\v.cell? ⟨w.heap.size+1,5,none⟩=some (.int .i64 n)/\v.cell? ⟨Z,0,none⟩=some (.int .i64 0)/\v.cell? ⟨Z,1,none⟩=some (.int .i64 0)) fun hJ=>?_;refine wpAnyH_take (i:=0) (v:=?_) A8 kR kR kR A9 (Or.inl ⟨rF,?_⟩) Aa ?_
 rotate_left 1
 ·(intro wS hSw;(try dsimp only at hSw);go_simp;try(with_reducible rfl))
 try simp only[Act.put,List.setIfInBounds_toArray,List.set_cons_zero,List.set_cons_succ]
 refine wpAnyH_take (i:=1) (v:=?_) A8 kR kR kR A9 (Or.inl ⟨rF,?_⟩) Aa ?_
 rotate_left 1
 ·(intro wS hSw;(try dsimp only at hSw);go_simp;try(with_reducible rfl))
 try simp only[Act.put,List.setIfInBounds_toArray,List.set_cons_zero,List.set_cons_succ]
 refine wpAnyH_take (i:=2) (v:=?_) A8 kR kR kR A9 (Or.inl ⟨rF,?_⟩) Aa ?_
 rotate_left 1
 ·(intro wS hSw;(try dsimp only at hSw);go_simp;try(with_reducible rfl))
 try simp only[Act.put,List.setIfInBounds_toArray,List.set_cons_zero,List.set_cons_succ]
 refine wpAnyH_take (i:=3) (v:=?_) A8 kR kR kR A9 (Or.inl ⟨rF,?_⟩) Aa ?_
 rotate_left 1
 ·(intro wS hSw;(try dsimp only at hSw);go_simp;try(with_reducible rfl))
 try simp only[Act.put,List.setIfInBounds_toArray,List.set_cons_zero,List.set_cons_succ]
 refine wpAnyH_take (i:=4) (v:=?_) A8 kR kR kR A9 (Or.inl ⟨rF,?_⟩) Aa ?_
 rotate_left 1
 ·(intro wS hSw;(try dsimp only at hSw);go_simp;try(with_reducible rfl))
 try simp only[Act.put,List.setIfInBounds_toArray,List.set_cons_zero,List.set_cons_succ]
 refine wpAnyH_take (i:=5) (v:=?_) A8 kR kR kR A9 (Or.inl ⟨rF,?_⟩) Aa ?_
 rotate_left 1
 ·(intro wS hSw;(try dsimp only at hSw);go_simp;try(with_reducible rfl))
 try simp only[Act.put,List.setIfInBounds_toArray,List.set_cons_zero,List.set_cons_succ]
 clear hJ;refine AP 6 fun K hK=>?_;go_simp;(go_at_call 92;(with_reducible refine(HK0.out _ (bel HTD0.out.bel (Am _))).mono ?_);rintro e w9 ⟨rfl,hb9⟩;have HB9:Hid (Below Wa.heap.size Wa w9):=bel (Am _) hb9;clear hb9;obtain⟨ya2,ya3,fz0,fz1⟩:=HYA.out w9 HB9.out;obtain⟨c0,c1,c2,c3,i1,i2,i3,i4,i5,d0,d1⟩:=HCD0.out w9 HB9.out);try(go_wp2_with fail)
 refine AW hK fun hJ=>?_;clear hK K;refine wpAnyH_take (i:=7) (v:=?_) A8 kR kR kR A9 (Or.inl ⟨rF,?_⟩) Aa ?_
 rotate_left 1
 ·(intro wS hSw;(try dsimp only at hSw);go_simp;try(with_reducible rfl))
 try simp only[Act.put,List.setIfInBounds_toArray,List.set_cons_zero,List.set_cons_succ]
 refine wpAnyH_done kR ?_ _;obtain⟨hz5,hz6,hz7⟩:=HZ.out;go_wp2;have HD:Hid (((w9.setCell ⟨Z,0,none⟩ (.int .i64 dk)).setCell ⟨Z,1,none⟩ (.int .i64 dp)).cell? ⟨Z,0,none⟩=some (.int .i64 dk)/\((w9.setCell ⟨Z,0,none⟩ (.int .i64 dk)).setCell ⟨Z,1,none⟩ (.int .i64 dp)).cell? ⟨Z,1,none⟩=some (.int .i64 dp)):=⟨by simp[go_sem,d0,d1],by simp[go_sem,d0,d1]⟩
 have HTD:Hid _:=((HTD0.next HB9.out).keep (g:=Z) (o:=0) (.int .i64 dk) hz6 hz5).keep (g:=Z) (o:=1) (.int .i64 dp) hz6 hz5;obtain⟨Wd,hWd⟩:∃W,(w9.setCell ⟨Z,0,none⟩ (.int .i64 dk)).setCell ⟨Z,1,none⟩ (.int .i64 dp)=W:=⟨_,rfl⟩
 rw[hWd]at HD HTD |-;clear hWd c0 c1 c2 c3 i1 i2 i3 i4 i5 d0 d1 ya2 ya3 fz0 fz1 HCD0 HYA HD0 HTD0 HB9 HK0 hz5 hz6 hz7 HZ;have HCD:Hid (∀v,Below Wd.heap.size Wd v->v.cell? ⟨w.heap.size,0,none⟩=some (.slice p0 n0 q0)/\v.cell? ⟨w.heap.size,1,none⟩=some (.slice (some ⟨lb,lo,none⟩) n1 q1)/\v.cell? ⟨w.heap.size,2,none⟩=some (.slice p2 n2 q2)/\v.cell? ⟨w.heap.size,3,none⟩=some v3/\v.cell? ⟨w.heap.size+1,1,none⟩=some (.int .i64 (kd:Int))/\v.cell? ⟨w.heap.size+1,2,none⟩=some (.int .i64 A)/\v.cell? ⟨w.heap.size+1,3,none⟩=some (.int .i64 B)/\v.cell? ⟨w.heap.size+1,4,none⟩=some (.int .i64 E)/\v.cell? ⟨w.heap.size+1,5,none⟩=some (.int .i64 n)/\v.cell? ⟨Z,0,none⟩=some (.int .i64 dk)/\v.cell? ⟨Z,1,none⟩=some (.int .i64 dp)):=fun v hb=>⟨kc hb HTD.c0,kc hb HTD.c1,kc hb HTD.c2,kc hb HTD.c3,kc hb HTD.i1,kc hb HTD.i2,kc hb HTD.i3,kc hb HTD.i4,kc hb HTD.i5,kc hb HD.1,kc hb HD.2⟩
 obtain⟨c0,c1,c2,c3,i1,i2,i3,i4,i5,d0,d1⟩:=HCD.out Wd (Cq _);cases XA
 .have HQF:Hid (false=RES):=HRES.out;go_wp2;refine rG (fun v=>v.cell? ⟨w.heap.size,0,none⟩=some (.slice p0 n0 q0)/\v.cell? ⟨w.heap.size,1,none⟩=some (.slice (some ⟨lb,lo,none⟩) n1 q1)/\v.cell? ⟨w.heap.size,2,none⟩=some (.slice p2 n2 q2)/\v.cell? ⟨w.heap.size,3,none⟩=some v3/\v.cell? ⟨w.heap.size+1,1,none⟩=some (.int .i64 (kd:Int))/\v.cell? ⟨w.heap.size+1,2,none⟩=some (.int .i64 A)/\v.cell? ⟨w.heap.size+1,3,none⟩=some (.int .i64 B)/\v.cell? ⟨w.heap.size+1,4,none⟩=some (.int .i64 E)/\v.cell? ⟨w.heap.size+1,5,none⟩=some (.int .i64 n)/\v.cell? ⟨Z,0,none⟩=some (.int .i64 dk)/\v.cell? ⟨Z,1,none⟩=some (.int .i64 dp)) fun hJ=>?_;exact Rp
 cases XB
 .have HQF:Hid (false=RES):=HRES.out;go_wp2;refine rG (fun v=>v.cell? ⟨w.heap.size,0,none⟩=some (.slice p0 n0 q0)/\v.cell? ⟨w.heap.size,1,none⟩=some (.slice (some ⟨lb,lo,none⟩) n1 q1)/\v.cell? ⟨w.heap.size,2,none⟩=some (.slice p2 n2 q2)/\v.cell? ⟨w.heap.size,3,none⟩=some v3/\v.cell? ⟨w.heap.size+1,1,none⟩=some (.int .i64 (kd:Int))/\v.cell? ⟨w.heap.size+1,2,none⟩=some (.int .i64 A)/\v.cell? ⟨w.heap.size+1,3,none⟩=some (.int .i64 B)/\v.cell? ⟨w.heap.size+1,4,none⟩=some (.int .i64 E)/\v.cell? ⟨w.heap.size+1,5,none⟩=some (.int .i64 n)/\v.cell? ⟨Z,0,none⟩=some (.int .i64 dk)/\v.cell? ⟨Z,1,none⟩=some (.int .i64 dp)) fun hJ=>?_;exact Ro
 cases XC
 .have HQF:Hid (false=RES):=HRES.out;go_wp2;refine rG (fun v=>v.cell? ⟨w.heap.size,0,none⟩=some (.slice p0 n0 q0)/\v.cell? ⟨w.heap.size,1,none⟩=some (.slice (some ⟨lb,lo,none⟩) n1 q1)/\v.cell? ⟨w.heap.size,2,none⟩=some (.slice p2 n2 q2)/\v.cell? ⟨w.heap.size,3,none⟩=some v3/\v.cell? ⟨w.heap.size+1,1,none⟩=some (.int .i64 (kd:Int))/\v.cell? ⟨w.heap.size+1,2,none⟩=some (.int .i64 A)/\v.cell? ⟨w.heap.size+1,3,none⟩=some (.int .i64 B)/\v.cell? ⟨w.heap.size+1,4,none⟩=some (.int .i64 E)/\v.cell? ⟨w.heap.size+1,5,none⟩=some (.int .i64 n)/\v.cell? ⟨Z,0,none⟩=some (.int .i64 dk)/\v.cell? ⟨Z,1,none⟩=some (.int .i64 dp)) fun hJ=>?_;exact Rn
 go_wp2;refine rG (fun v=>v.cell? ⟨w.heap.size,0,none⟩=some (.slice p0 n0 q0)/\v.cell? ⟨w.heap.size,1,none⟩=some (.slice (some ⟨lb,lo,none⟩) n1 q1)/\v.cell? ⟨w.heap.size,2,none⟩=some (.slice p2 n2 q2)/\v.cell? ⟨w.heap.size,3,none⟩=some v3/\v.cell? ⟨w.heap.size+1,1,none⟩=some (.int .i64 (kd:Int))/\v.cell? ⟨w.heap.size+1,2,none⟩=some (.int .i64 A)/\v.cell? ⟨w.heap.size+1,3,none⟩=some (.int .i64 B)/\v.cell? ⟨w.heap.size+1,4,none⟩=some (.int .i64 E)/\v.cell? ⟨w.heap.size+1,5,none⟩=some (.int .i64 n)/\v.cell? ⟨Z,0,none⟩=some (.int .i64 dk)/\v.cell? ⟨Z,1,none⟩=some (.int .i64 dp)) fun hJ=>?_;refine wpAnyH_take (i:=0) (v:=?_) A8 kR kR kR A9 (Or.inl ⟨rF,?_⟩) Aa ?_
 rotate_left 1
 ·(intro wS hSw;(try dsimp only at hSw);go_simp;try(with_reducible rfl))
 try simp only[Act.put,List.setIfInBounds_toArray,List.set_cons_zero,List.set_cons_succ]
 refine wpAnyH_take (i:=1) (v:=?_) A8 kR kR kR A9 (Or.inl ⟨rF,?_⟩) Aa ?_
 rotate_left 1
 ·(intro wS hSw;(try dsimp only at hSw);go_simp;try(with_reducible rfl))
 try simp only[Act.put,List.setIfInBounds_toArray,List.set_cons_zero,List.set_cons_succ]
 refine wpAnyH_take (i:=2) (v:=?_) A8 kR kR kR A9 (Or.inl ⟨rF,?_⟩) Aa ?_
 rotate_left 1
 ·(intro wS hSw;(try dsimp only at hSw);go_simp;try(with_reducible rfl))
 try simp only[Act.put,List.setIfInBounds_toArray,List.set_cons_zero,List.set_cons_succ]
 refine wpAnyH_take (i:=3) (v:=?_) A8 kR kR kR A9 (Or.inl ⟨rF,?_⟩) Aa ?_
 rotate_left 1
 ·(intro wS hSw;(try dsimp only at hSw);go_simp;try(with_reducible rfl))
 try simp only[Act.put,List.setIfInBounds_toArray,List.set_cons_zero,List.set_cons_succ]
 refine wpAnyH_take (i:=4) (v:=?_) A8 kR kR kR A9 (Or.inl ⟨rF,?_⟩) Aa ?_
 rotate_left 1
 ·(intro wS hSw;(try dsimp only at hSw);go_simp;try(with_reducible rfl))
 try simp only[Act.put,List.setIfInBounds_toArray,List.set_cons_zero,List.set_cons_succ]
 refine wpAnyH_take (i:=5) (v:=?_) A8 kR kR kR A9 (Or.inl ⟨rF,?_⟩) Aa ?_
 rotate_left 1
 ·(intro wS hSw;(try dsimp only at hSw);go_simp;try(with_reducible rfl))
 try simp only[Act.put,List.setIfInBounds_toArray,List.set_cons_zero,List.set_cons_succ]
 clear hJ;refine AP 6 fun K hK=>?_;go_simp;(go_at_call 92;(with_reducible refine(HKA.out _ (bel HTD.out.bel (Am _))).mono ?_);rintro e w3 ⟨rfl,hb9⟩;have HB3:Hid (Below Wd.heap.size Wd w3):=bel (Am _) hb9;clear hb9;obtain⟨c0,c1,c2,c3,i1,i2,i3,i4,i5,d0,d1⟩:=HCD.out w3 HB3.out);try(go_wp2_with fail)
 refine AW hK fun hJ=>?_;clear hK K;refine wpAnyH_take (i:=7) (v:=?_) A8 kR kR kR A9 (Or.inl ⟨rF,?_⟩) Aa ?_
 rotate_left 1
 ·(intro wS hSw;(try dsimp only at hSw);go_simp;try(with_reducible rfl))
 try simp only[Act.put,List.setIfInBounds_toArray,List.set_cons_zero,List.set_cons_succ]
 refine wpAnyH_take (i:=8) (v:=?_) A8 kR kR kR A9 (Or.inl ⟨rF,?_⟩) Aa ?_
 rotate_left 1
 ·(intro wS hSw;(try dsimp only at hSw);go_simp;try(with_reducible rfl))
 try simp only[Act.put,List.setIfInBounds_toArray,List.set_cons_zero,List.set_cons_succ]
 refine wpAnyH_take (i:=9) (v:=?_) A8 kR kR kR A9 (Or.inl ⟨rF,?_⟩) Aa ?_
 rotate_left 1
 ·(intro wS hSw;(try dsimp only at hSw);go_simp;try(with_reducible rfl))
 try simp only[Act.put,List.setIfInBounds_toArray,List.set_cons_zero,List.set_cons_succ]
 refine wpAnyH_take (i:=10) (v:=?_) A8 kR kR kR A9 (Or.inl ⟨rF,?_⟩) Aa ?_
 rotate_left 1
 ·(intro wS hSw;(try dsimp only at hSw);go_simp;try(with_reducible rfl))
 try simp only[Act.put,List.setIfInBounds_toArray,List.set_cons_zero,List.set_cons_succ]
 refine wpAnyH_take (i:=11) (v:=?_) A8 kR kR kR A9 (Or.inl ⟨rF,?_⟩) Aa ?_
 rotate_left 1
 ·(intro wS hSw;(try dsimp only at hSw);go_simp;try(with_reducible rfl))
 try simp only[Act.put,List.setIfInBounds_toArray,List.set_cons_zero,List.set_cons_succ]
 refine wpAnyH_take (i:=12) (v:=?_) A8 kR kR kR A9 (Or.inl ⟨rF,?_⟩) Aa ?_
 rotate_left 1
 ·(intro wS hSw;(try dsimp only at hSw);go_simp;try(with_reducible rfl))
 try simp only[Act.put,List.setIfInBounds_toArray,List.set_cons_zero,List.set_cons_succ]
 refine wpAnyH_take (i:=13) (v:=?_) A8 kR kR kR A9 (Or.inl ⟨rF,?_⟩) Aa ?_
 rotate_left 1
 ·(intro wS hSw;(try dsimp only at hSw);go_simp;try(with_reducible rfl))
 try simp only[Act.put,List.setIfInBounds_toArray,List.set_cons_zero,List.set_cons_succ]
 refine wpAnyH_take (i:=14) (v:=?_) A8 kR kR kR A9 (Or.inl ⟨rF,?_⟩) Aa ?_
 rotate_left 1
 ·(intro wS hSw;(try dsimp only at hSw);go_simp;try(with_reducible rfl))
 try simp only[Act.put,List.setIfInBounds_toArray,List.set_cons_zero,List.set_cons_succ]
 clear hJ;refine AP 15 fun K hK=>?_;go_simp;(go_at_call 92;(with_reducible refine(HKB.out _ (bel HTD.out.bel HB3.out)).mono ?_);rintro e w4 ⟨rfl,hb9⟩;have HB4:Hid (Below Wd.heap.size Wd w4):=bel HB3.out hb9;clear hb9;clear c0 c1 c2 c3 i1 i2 i3 i4 i5 d0 d1;obtain⟨c0,c1,c2,c3,i1,i2,i3,i4,i5,d0,d1⟩:=HCD.out w4 HB4.out);try(go_wp2_with fail)
 refine AW hK fun hJ=>?_;clear hK K;refine wpAnyH_take (i:=16) (v:=?_) A8 kR kR kR A9 (Or.inl ⟨rF,?_⟩) Aa ?_
 rotate_left 1
 ·(intro wS hSw;(try dsimp only at hSw);go_simp;try(with_reducible rfl))
 try simp only[Act.put,List.setIfInBounds_toArray,List.set_cons_zero,List.set_cons_succ]
 refine wpAnyH_take (i:=17) (v:=?_) A8 kR kR kR A9 (Or.inl ⟨rF,?_⟩) Aa ?_
 rotate_left 1
 ·(intro wS hSw;(try dsimp only at hSw);go_simp;try(with_reducible rfl))
 try simp only[Act.put,List.setIfInBounds_toArray,List.set_cons_zero,List.set_cons_succ]
 refine wpAnyH_take (i:=18) (v:=?_) A8 kR kR kR A9 (Or.inl ⟨rF,?_⟩) Aa ?_
 rotate_left 1
 ·(intro wS hSw;(try dsimp only at hSw);go_simp;try(with_reducible rfl))
 try simp only[Act.put,List.setIfInBounds_toArray,List.set_cons_zero,List.set_cons_succ]
 refine wpAnyH_take (i:=19) (v:=?_) A8 kR kR kR A9 (Or.inl ⟨rF,?_⟩) Aa ?_
 rotate_left 1
 ·(intro wS hSw;(try dsimp only at hSw);go_simp;try(with_reducible rfl))
 try simp only[Act.put,List.setIfInBounds_toArray,List.set_cons_zero,List.set_cons_succ]
 refine wpAnyH_take (i:=20) (v:=?_) A8 kR kR kR A9 (Or.inl ⟨rF,?_⟩) Aa ?_
 rotate_left 1
 ·(intro wS hSw;(try dsimp only at hSw);go_simp;try(with_reducible rfl))
 try simp only[Act.put,List.setIfInBounds_toArray,List.set_cons_zero,List.set_cons_succ]
 refine wpAnyH_take (i:=21) (v:=?_) A8 kR kR kR A9 (Or.inl ⟨rF,?_⟩) Aa ?_
 rotate_left 1
 ·(intro wS hSw;(try dsimp only at hSw);go_simp;try(with_reducible rfl))
 try simp only[Act.put,List.setIfInBounds_toArray,List.set_cons_zero,List.set_cons_succ]
 refine wpAnyH_take (i:=22) (v:=?_) A8 kR kR kR A9 (Or.inl ⟨rF,?_⟩) Aa ?_
 rotate_left 1
 ·(intro wS hSw;(try dsimp only at hSw);go_simp;try(with_reducible rfl))
 try simp only[Act.put,List.setIfInBounds_toArray,List.set_cons_zero,List.set_cons_succ]
 refine wpAnyH_take (i:=23) (v:=?_) A8 kR kR kR A9 (Or.inl ⟨rF,?_⟩) Aa ?_
 rotate_left 1
 ·(intro wS hSw;(try dsimp only at hSw);go_simp;try(with_reducible rfl))
 try simp only[Act.put,List.setIfInBounds_toArray,List.set_cons_zero,List.set_cons_succ]
 refine wpAnyH_take (i:=24) (v:=?_) A8 kR kR kR A9 (Or.inl ⟨rF,?_⟩) Aa ?_
 rotate_left 1
 ·(intro wS hSw;(try dsimp only at hSw);go_simp;try(with_reducible rfl))
 try simp only[Act.put,List.setIfInBounds_toArray,List.set_cons_zero,List.set_cons_succ]
 clear hJ;refine AP 25 fun K hK=>?_;go_simp;(go_at_call 92;(with_reducible refine(HKC.out _ (bel HTD.out.bel HB4.out)).mono ?_);rintro e w5 ⟨rfl,hb9⟩;have HB5:Hid (Below Wd.heap.size Wd w5):=bel HB4.out hb9;clear hb9;clear c0 c1 c2 c3 i1 i2 i3 i4 i5 d0 d1;obtain⟨c0,c1,c2,c3,i1,i2,i3,i4,i5,d0,d1⟩:=HCD.out w5 HB5.out);try(go_wp2_with fail)
 refine AW hK fun hJ=>?_;clear hK K;refine wpAnyH_take (i:=26) (v:=?_) A8 kR kR kR A9 (Or.inl ⟨rF,?_⟩) Aa ?_
 rotate_left 1
 ·(intro wS hSw;(try dsimp only at hSw);go_simp;try(with_reducible rfl))
 try simp only[Act.put,List.setIfInBounds_toArray,List.set_cons_zero,List.set_cons_succ]
 refine wpAnyH_take (i:=27) (v:=?_) A8 kR kR kR A9 (Or.inl ⟨rF,?_⟩) Aa ?_
 rotate_left 1
 ·(intro wS hSw;(try dsimp only at hSw);go_simp;try(with_reducible rfl))
 try simp only[Act.put,List.setIfInBounds_toArray,List.set_cons_zero,List.set_cons_succ]
 refine wpAnyH_done kR ?_ _;clear c0 c1 c2 c3 i1 i2 i3 i4 i5 d0 d1;have HT5:Hid (TW w (.slice p0 n0 q0) (.slice (some ⟨lb,lo,none⟩) n1 q1) (.slice p2 n2 q2) v3 (w.heap.size+1) op (kd:Int) A B E n bt w5):=HTD.next HB5.out;obtain⟨hb5,c0,c1,c2,c3,i0,i1,i2,i3,i4,i5,i6⟩:=HT5.out;obtain⟨-,-,-,-,-,-,-,-,-,d0,d1⟩:=HCD.out w5 HB5.out;have hs5:w5.heap.size≠w.heap.size+1/\w.heap.size<w5.heap.size:=⟨fun e=>by have:=Al i0;simp only at this;omega,by have:=Al c0;simp only at this;omega⟩
 have HAL:Hid (TW w (.slice p0 n0 q0) (.slice (some ⟨lb,lo,none⟩) n1 q1) (.slice p2 n2 q2) v3 (w.heap.size+1) op (kd:Int) A B E n bt (w5.alloc (.cells #[.int .i64 dk,.int .i64 dp] 62))):=HT5.next (A7 _ _);have HRT:Hid (C7 c Le n ⟨dk,dp⟩=RES):=HRES.out;clear c0 c1 c2 c3 i0 i1 i2 i3 i4 i5 i6;have t0:(w5.alloc (.cells #[.int .i64 dk,.int .i64 dp] 62)).cell? ⟨w5.heap.size,0,none⟩=some (.int .i64 dk):=sG;have t1:(w5.alloc (.cells #[.int .i64 dk,.int .i64 dp] 62)).cell? ⟨w5.heap.size,1,none⟩=some (.int .i64 dp):=sG;obtain⟨hbx,c0,c1,c2,c3,i0,i1,i2,i3,i4,i5,i6⟩:=HAL.out;clear d0 d1 HRES;have hbt:=hbx;subst oe;exact QR
def I0(s:Wk)(op:Int):Bool:=if op=34\/op=36 then decide (s.opens.length<64)else if op=35 then decide (0<s.opens.length)&& !AM s else if op=37 then AM s else true
def Hg(c:Cd)(s:Wk)(i:Ar):Bool:=AM s&&(i.op != 37&&DY c.regs (Dq i) != BT s)
def Cp(s:Wk):Prop:=∀b∈s.opens,b.loop=true->0<=b.par
theorem Cp.inner{s:Wk}(h:Cp s)(hl:AM s=true):0<=BT s:=by
 obtain⟨S,O⟩:=s;cases O with
 |nil=>exact Int.le_refl _
 |cons b r=>exact h b (List.mem_cons_self ..) hl
theorem ET{i:Ar}(h:BQ i.op=false):Dq i= -1:=by
 unfold BQ at h;simp only[Bool.or_eq_false_iff]at h;have h1:(i.op==29)=false/\(i.op==30)=false/\(i.op==31)=false/\(i.op==32)=false/\(i.op==33)=false:=by
  have:=h.1;simp only[Bool.and_eq_false_iff,decide_eq_false_iff_not]at this;simp only[beq_eq_false_iff_ne,ne_eq];omega
 unfold Dq;rw[h.2,h1.1,h1.2.1,h1.2.2.1,h1.2.2.2.1,h1.2.2.2.2];rfl
theorem Lo{i:Ar}(h:BQ i.op=true):Dq i=Hi i (Ag i.op):=by
 unfold BQ Dx at h;simp only[Bool.or_eq_true,Bool.and_eq_true,decide_eq_true_eq]at h;obtain⟨op,D,A,B,E,n,bb⟩:=i;simp only at h |-;have:op=3\/op=4\/op=5\/op=6\/op=7\/op=8\/op=9\/op=10\/op=11\/op=12\/op=13\/op=14\/op=15\/op=29\/op=30\/op=31\/op=32\/op=33:=oM;rcases this with rfl|rfl|rfl|rfl|rfl|rfl|rfl|rfl|rfl|rfl|rfl|rfl|rfl|rfl|rfl|rfl|rfl|rfl<;>rfl
theorem EU(rs:List Ty):DY rs (-1)= -1:=by unfold DY At;simp
theorem OE{rs:List Ty}{n q:Int}(hq:0<=q):(DY rs n=q)↔Ay rs n=⟨3,q⟩:=by
 unfold DY;cases h:At n rs.length
 .have:Ay rs n=⟨0,0⟩:=by unfold Ay;rw[h];rfl
  rw[this];simp;omega
 .rw[Bool.true_and];generalize Ay rs n=t;obtain⟨K,P⟩:=t;simp only[Ty.mk.injEq];by_cases hk:K=3
  .subst hk;simp
  .have:(K==3)=false:=by simpa using hk
   rw[this];constructor
   .intro e;simp at e;omega
   .intro e;exact absurd e.1 hk
theorem Ll{c:Cd}{s:Wk}{i:Ar}(hO:Cp s):AS c s i (Ag i.op)=(!Hg c s i&&I0 s i.op):=by
 have hO':=hO.inner;unfold AS Hg I0;by_cases h1:i.op=34\/i.op=36
 .rw[if_pos h1,if_pos h1];have hv:DY c.regs (Dq i)= -1:=by
   rw[ET (by rcases h1 with e|e<;>rw[e]<;>decide),EU]
  have h37:(i.op != 37)=true:=by rcases h1 with e|e<;>rw[e]<;>decide
  rw[hv,h37];cases hl:AM s
  .rfl
  .have:=hO' hl;have e:((-1:Int) != BT s)=true:=sO;rw[e];rfl
 .rw[if_neg h1,if_neg h1];by_cases h2:i.op=35
  .rw[if_pos h2,if_pos h2];have hv:DY c.regs (Dq i)= -1:=by rw[ET (by rw[h2];decide),EU]
   rw[hv,h2];have hE:(!s.opens.isEmpty)=decide (0<s.opens.length):=by cases s.opens<;>simp
   rw[hE];cases hl:AM s
   .simp
   .have:=hO' hl;have e:((-1:Int) != BT s)=true:=sO;rw[e];simp
  .rw[if_neg h2,if_neg h2];by_cases h3:i.op=37
   .rw[if_pos h3,if_pos h3,h3];cases AM s<;>rfl
   .rw[if_neg h3,if_neg h3];have h37:(i.op != 37)=true:=by simpa using h3
    rw[h37,Bool.true_and,Bool.and_true];cases hl:AM s
    .rfl
    .have hq:=hO' hl;rw[Bool.not_true,Bool.false_or,Bool.true_and];cases hlp:BQ i.op
     .rw[ET hlp,EU];have e:((-1:Int) != BT s)=true:=sO;rw[e];rfl
     .rw[Lo hlp,Bool.true_and];unfold AJ;rw[Bool.eq_iff_iff,decide_eq_true_eq,<-OE hq];simp
theorem Lm{c:Cd}{s:Wk}{i:Ar}(hT:Av c=true)(hO:Cp s):Bj c s i=((AB i.op&&CE c i (C6 i.op))&&(!Hg c s i&&(FE s i (Ag i.op)&&I0 s i.op))):=by
 unfold Bj;rw[He hT,Ll hO];cases AB i.op<;>cases Be c i (Ag i.op)<;>cases Hg c s i<;>cases I0 s i.op<;>simp
structure Ob where
 op:Int
 par:Int
 set:List Nat
def Pv(S:List Nat)(b:Bk):Ob:=⟨if b.loop then 36 else 34,b.par,S.take b.ahead⟩
def G1(s:Wk):List Ob:=(s.opens.map (Pv s.set)).reverse
theorem Fc(s:Wk):(G1 s).length=s.opens.length:=by simp[G1]
theorem Em(S:List Nat)(b:Bk)(r:List Bk):G1 ⟨S,b::r⟩=(r.map (Pv S)).reverse++[Pv S b]:=by simp[G1]
theorem LY{s:Wk}(h:0<s.opens.length):∃X,(G1 s)[s.opens.length-1]? =some ⟨if AM s then 36 else 34,BT s,X⟩:=by
 obtain⟨S,O⟩:=s;cases O with
 |nil=>simp at h
 |cons b r=>
  refine⟨S.take b.ahead,?_⟩;rw[Em];simp only[List.length_cons,Nat.add_sub_cancel];rw[List.getElem?_append_right sM];simp only[List.length_reverse,List.length_map,Nat.sub_self];rfl
theorem GM{s:Wk}{i:Ar}(h:i.op=34\/i.op=36):AG s i=⟨s.set,⟨i.op==36,i.n,s.set.length⟩::s.opens⟩:=by
 unfold AG FB;rw[G3 (by rcases h with h|h<;>rw[h]<;>rfl)];unfold Ex;rw[if_pos h]
theorem GN{s:Wk}{i:Ar}(h:i.op=35\/i.op=37):AG s i=B9 s:=by
 unfold AG FB;rw[G3 (by rcases h with h|h<;>rw[h]<;>rfl)];unfold Ex;rw[if_neg oM,if_pos h]
theorem DU{s:Wk}{i:Ar}(h1:i.op≠34)(h2:i.op≠35)(h3:i.op≠36)(h4:i.op≠37):AG s i=⟨F4 s.set i,s.opens⟩:=by
 unfold AG FB Ex;rw[if_neg oM,if_neg oM];unfold GR F4;split<;>rfl
theorem LZ{s:Wk}{i:Ar}(h:i.op=34\/i.op=36):G1 (AG s i)=G1 s++[⟨i.op,i.n,s.set⟩]:=by
 rw[GM h,Em];unfold G1 Pv;simp only[List.take_length];rcases h with h|h<;>rw[h]<;>rfl
theorem M4{s:Wk}{i:Ar}{n:Nat}(ho:CH n s)(h1:i.op≠34)(h2:i.op≠35)(h3:i.op≠36)(h4:i.op≠37):G1 (AG s i)=G1 s:=by
 rw[DU h1 h2 h3 h4];unfold G1;simp only;congr 1;apply List.map_congr_left;intro b hb;have:=Iw ho.opens b hb;have e:(F4 s.set i).take b.ahead=s.set.take b.ahead:=by
  unfold F4;split
  .rw[List.take_append_of_le_length this]
  .rfl
 unfold Pv;rw[e]
theorem DO{s:Wk}{n:Nat}(ho:CH n s)(h:0<s.opens.length):G1 (B9 s)=(G1 s).take (s.opens.length-1):=by
 obtain⟨S,O⟩:=s;cases O with
 |nil=>simp at h
 |cons b r=>
  rw[Em];simp only[List.length_cons,Nat.add_sub_cancel];rw[List.take_append_of_le_length sM,List.take_of_length_le sM];unfold G1 B9;simp only;cases hb:b.loop
  .simp only[Bool.false_eq_true,if_false];congr 1;apply List.map_congr_left;intro a ha;have:=Iw ho.opens.2 a ha;unfold Pv;rw[List.take_take,Nat.min_eq_left this]
  .simp only[if_true]
theorem Ko{s:Wk}(hl:AM s=false){o:Ob}(h:(G1 s)[s.opens.length-1]? =some o)(h0:0<s.opens.length):(B9 s).set=o.set:=by
 obtain⟨S,O⟩:=s;cases O with
 |nil=>simp at h0
 |cons b r=>
  rw[Em]at h;simp only[List.length_cons,Nat.add_sub_cancel]at h;rw[List.getElem?_append_right sM]at h;simp at h;subst h;have:b.loop=false:=hl;simp[B9,this,Pv]
theorem Ir{s:Wk}(hl:AM s=true):(B9 s).set=s.set:=by
 obtain⟨S,O⟩:=s;cases O with
 |nil=>rfl
 |cons b r=>
  have:b.loop=true:=hl;simp[B9,this]
theorem CF(s:Wk):(B9 s).opens.length=s.opens.length-1:=by
 obtain⟨S,O⟩:=s;cases O with
 |nil=>rfl
 |cons b r=>simp[B9]
theorem Cp.step{c:Cd}{s:Wk}{i:Ar}(h:Cp s)(t:Bj c s i=true):Cp (AG s i):=by
 by_cases h1:i.op=34\/i.op=36
 .rw[GM h1];intro b hb hl;rcases List.mem_cons.1 hb with rfl|hb
  .have h36:i.op=36:=by simpa using hl
   obtain⟨_,h2,_,_⟩:=Dl t;rw[h36]at h2;unfold Be BM at h2;simp only[Bool.and_eq_true]at h2;have h3:=h2.2.2.2.2;rw[if_neg (show(Ag 36).n≠7 by decide)]at h3;simp only[Bool.and_eq_true]at h3;have h4:At i.n c.sign.length=true:=h3.2;exact(Dy.1 h4).1
  .exact h b hb hl
 .by_cases h2:i.op=35\/i.op=37
  .rw[GN h2];intro b hb hl;refine h b ?_ hl;unfold B9 at hb;split at hb
   .rename_i e;rw[e];exact List.mem_cons_of_mem _ hb
   .exact hb
  .rw[DU oM oM oM oM];exact h
theorem Cp.start:Cp ⟨[],[]⟩:=fun b hb=>by cases hb
def O4(o:Ob)(u:Value):List Value:=[.int .i64 o.op,.int .i64 o.par,u]
def E6:List Ob->List Value->List Value
 |o::l,u::us=>O4 o u++E6 l us
 |_,_=>[]
theorem Gh(o:Ob)(u:Value):∀ {l:List Ob} {us:List Value},l.length=us.length->E6 (l++[o]) (us++[u])=E6 l us++O4 o u
 |[],[],_=>by simp[E6]
 |[],_::_,h=>by simp at h
 |_::_,[],h=>by simp at h
 |a::l,b::us,h=>by simp only[List.cons_append,E6];rw[Gh o u (by simpa using h),List.append_assoc]
theorem EJ:∀ (m:Nat) (l:List Ob) (us:List Value),(E6 l us).take (m*3)=E6 (l.take m) (us.take m)
 |0,l,us=>by simp[E6]
 |m+1,[],us=>by simp[E6]
 |m+1,a::l,[]=>by simp[E6]
 |m+1,a::l,b::us=>by
  simp only[List.take_succ_cons,E6];rw[show(m+1)*3=(O4 a b).length+m*3 by simp[O4];omega,List.take_length_add_append,EJ m l us]
theorem Jm(j:Nat)(hj:j<3):∀ {l:List Ob} {us:List Value} {k:Nat} {o:Ob} {u:Value},l[k]? =some o->us[k]? =some u->(E6 l us)[k*3+j]? =(O4 o u)[j]?
 |[],us,k,o,u,h,_=>by simp at h
 |a::l,[],k,o,u,_,h=>by simp at h
 |a::l,b::us,0,o,u,h,h'=>by
  simp at h h';subst h h';simp only[E6];rw[Nat.zero_mul,Nat.zero_add,List.getElem?_append_left (by simpa[O4]using hj)]
 |a::l,b::us,k+1,o,u,h,h'=>by
  simp only[E6];rw[List.getElem?_append_right (by simp[O4];omega)];have e:(k+1)*3+j-(O4 a b).length=k*3+j:=by simp[O4];omega
  rw[e];exact Jm j hj (by simpa using h) (by simpa using h')
theorem Kk:(prog.info? 93).map (fun i=>(i.zero,i.size,i.bytes))=some (some (.agg #[.int .i64 0,.int .i64 0,.slice none 0 0]),3,40):=kR
structure SK(B M:Nat)(v:World)(sv ov:Value)(s:Wk)(us:List Value):Prop where
 hB:B<=v.heap.size
 set:v.ownsRow B 4 1 sv M (C5 M s.set)
 opn:v.ownsRow B 93 3 ov s.opens.length (E6 (G1 s) us)
 len:us.length=s.opens.length
 each:∀k (h:k<us.length) o,(G1 s)[k]? =some o->v.ownsRow B 4 1 us[k] M (C5 M o.set)/\∀b,sv.ownBlock=some b->us[k].ownBlock≠some b
section
variable {B M : Nat} {v v' : World} {sv ov : Value} {s : Wk} {us : List Value}
theorem SK.below(h:SK B M v sv ov s us)(k:Below v.heap.size v v'):SK B M v' sv ov s us:=
 ⟨gH h.hB k.size,AK h.set k,AK h.opn k,h.len,fun j hj o ho=>⟨AK (h.each j hj o ho).1 k,(h.each j hj o ho).2⟩⟩
theorem Ey:93≠4:=dE
theorem SK.ins{i:Ar}{g q n:Nat}(h:SK B M v (.slice (some ⟨g,0,none⟩) M q) ov s us)(ok:CH n s)(h1:i.op≠34)(h2:i.op≠35)(h3:i.op≠36)(h4:i.op≠37)(hd:(Ag i.op).d≠0)(hl:i.d.toNat<M):
 SK B M (v.setCell ⟨g,i.d.toNat,none⟩ (.bool true)) (.slice (some ⟨g,0,none⟩) M q) ov (AG s i) us:=by
 have e1:=M4 (i:=i) ok h1 h2 h3 h4;have e2:(AG s i).set=F4 s.set i/\(AG s i).opens=s.opens:=by rw[DU h1 h2 h3 h4];exact⟨rfl,rfl⟩
 have hne:∀b,b≠g->(v.setCell ⟨g,i.d.toNat,none⟩ (.bool true)).heap[b]? =v.heap[b]? :=fun b hb=>gE hb;refine⟨by have:=h.hB;simp;omega,?_,?_,by rw[e2.2];exact h.len,fun k hk o ho=>?_⟩
 .rw[e2.1,<-N7 hd hl];exact(h.set.stored _ _).1
 .rw[e1,e2.2];exact Ae h.opn fun b hb=>hne b fun e=>DP h.opn h.set Ey b hb (by rw[e];rfl)
 .rw[e1]at ho;obtain⟨a1,a2⟩:=h.each k hk o ho;exact⟨Ae a1 fun b hb=>hne b fun e=>a2 g rfl (by rw[<-e];exact hb),a2⟩
theorem SK.keep{i:Ar}{n:Nat}(h:SK B M v sv ov s us)(ok:CH n s)(h1:i.op≠34)(h2:i.op≠35)(h3:i.op≠36)(h4:i.op≠37)(hd:(Ag i.op).d=0):SK B M v sv ov (AG s i) us:=by
 have e:AG s i=s:=by rw[DU h1 h2 h3 h4,Lg (M:=0) hd]
 rw[e];exact h
theorem Oa{B:Nat}{V:World}{e t:TypeId}{z:Value}{sz by':Nat}(ht:prog.underlying t=some (.slice e))(hi:(prog.info? e).map (fun i=>(i.zero,i.size,i.bytes))=some (some z,sz,by'))(hzs:z.cells.size=sz)(hsz:0<sz){p:Option Addr}{n q:Nat}{xs:List Value}(h:V.ownsRow B e sz (.slice p n q) n xs)(hB:B<=V.heap.size)
 (cs:Array Value) (hcs:cs.size=sz) (h1:∀u∈cs.toList,u.oneCell'=true) (hn:n+1<=maxLen) (hb:(n+1)*by'<=140737488355328) (ty:TypeId):
 ∃g c' w',(Builtin.append_ #[t,t] ty #[.slice p n q,.slice (some ⟨V.heap.size,0,none⟩) 1 1]).run prog (V.alloc (.cells cs e))=.ok (.slice (some ⟨g,0,none⟩) (n+1) c') w'/\Below B V w'/\w'.ownsRow B e sz (.slice (some ⟨g,0,none⟩) (n+1) c') (n+1) (xs++cs.toList)/\∀b,b<V.heap.size->(Value.slice p n q).ownBlock≠some b->w'.heap[b]? =V.heap[b]? :=by
 obtain⟨i0,hi0,hz0,hz1,hz2⟩:=info_parts hi;have hb0:Below V.heap.size V (V.alloc (.cells cs e)):=A7 _ _;have hs:(V.alloc (.cells cs e)).heap.size=V.heap.size+1:=sM;have h0:=AK h hb0;obtain⟨g,cap,w3,hr,hown,hgrow,hat,hlt⟩:=run_append_lies (P:=prog) (V.alloc (.cells cs e)) t ty B e i0 _ sz by' ht hi0 hz0 hz1 hz2 hzs hsz (.slice p n q) n xs h0 ⟨V.heap.size,0,none⟩ 1 1 cs.toList (by simp[hcs])
  (World.news_of_block (cs:=cs) (t:=e) (fr:=(0,0)) (heap_alloc_new V _)) h1 dE hn hb oM _ rfl
 refine⟨g,cap,w3,hr,(hb0.mono hB).grown hgrow oM (fun q e=>(h0.lt q e).1),hown,fun b hb hne=>?_⟩;rw[hgrow.block b oM (Ne.symm hne)];exact hb0.block b hb
theorem SK.push{i:Ar}{p:Option Addr}{q:Nat}{u:Value}(h:SK B M v sv (.slice p s.opens.length q) s us)(k:Below v.heap.size v v')(hu:v'.ownsRow v.heap.size 4 1 u M (C5 M s.set))(hi:i.op=34\/i.op=36)(hn:s.opens.length<64)(ty:TypeId):
 ∃g c' w',(Builtin.append_ #[89,89] ty #[.slice p s.opens.length q,.slice (some ⟨v'.heap.size,0,none⟩) 1 1]).run prog (v'.alloc (.cells #[.int .i64 i.op,.int .i64 i.n,u] 93))=.ok (.slice (some ⟨g,0,none⟩) (s.opens.length+1) c') w'/\Below B v w'/\SK B M w' sv (.slice (some ⟨g,0,none⟩) (s.opens.length+1) c') (AG s i) (us++[u])/\∀b,b<v'.heap.size->(Value.slice p s.opens.length q).ownBlock≠some b->w'.heap[b]? =v'.heap[b]? :=by
 have h':=h.below k;have hone:u.oneCell'=true:=by
  obtain⟨p,c,rfl⟩:=AF hu;rfl
 obtain⟨g,c',w',hr,hb,ho,hk⟩:=Oa (V:=v') underlying89 Kk rfl dE h'.opn h'.hB #[.int .i64 i.op,.int .i64 i.n,u] rfl (by intro x hx;simp at hx;rcases hx with rfl|rfl|rfl<;>first|rfl|exact hone) mL oM ty;have hs:(AG s i).set=s.set/\(AG s i).opens.length=s.opens.length+1:=by rw[GM hi];exact⟨rfl,rfl⟩
 have eo:=LZ (s:=s) hi;have hsz:=k.size;refine⟨g,c',w',hr,(k.mono h.hB).trans hb,⟨gH h'.hB hb.size,?_,?_,by rw[hs.2,List.length_append,h.len];rfl,fun j hj o ho'=>?_⟩,hk⟩
 .rw[hs.1];exact Ae h'.set fun b hbb=>hk b (h'.set.lt b hbb).2 (fun e=>DP h'.opn h'.set Ey b e hbb)
 .rw[hs.2,eo,Gh _ _ (by rw[Fc];exact h.len.symm)];exact ho
 .rw[eo]at ho';by_cases hlt:j<us.length
  .rw[List.getElem?_append_left (by rw[Fc,<-h.len];exact hlt)]at ho';obtain⟨a1,a2⟩:=h'.each j hlt o ho';rw[List.getElem_append_left hlt];exact⟨Ae a1 fun b hbb=>hk b (a1.lt b hbb).2 (fun e=>DP h'.opn a1 Ey b e hbb),a2⟩
  .have hj':j=us.length:=by simp at hj;omega
   subst hj';rw[List.getElem?_append_right (by rw[Fc,h.len];exact gF _)]at ho';have e0:us.length-(G1 s).length=0:=by rw[Fc,h.len];omega
   rw[e0]at ho';simp at ho';subst ho';have e1:(us++[u])[us.length]'hj=u:=sM;rw[e1];refine⟨En (Ae hu fun b hbb=>hk b (hu.lt b hbb).2 (fun e=>?_)) h.hB,fun b hbb e=>?_⟩
   .exact DP h'.opn hu Ey b e hbb
   .have a1:=(hu.lt b e).1;have a2:=(h.set.lt b hbb).2;omega
theorem SK.pop{p:Option Addr}{q n:Nat}(h:SK B M v sv (.slice p s.opens.length q) s us)(ok:CH n s)(h0:0<s.opens.length)(hl:AM s=true):SK B M v sv (.slice p (s.opens.length-1) q) (B9 s) (us.take (s.opens.length-1)):=by
 refine⟨h.hB,by rw[Ir hl];exact h.set,?_,by rw[CF,List.length_take,h.len];omega,fun k hk o ho=>?_⟩
 .rw[CF,DO ok h0,<-EJ];exact Eo h.opn oM
 .rw[DO ok h0]at ho;have hk':k<us.length:=by simp at hk;omega
  rw[List.getElem?_take]at ho;split at ho
  .obtain⟨a1,a2⟩:=h.each k hk' o ho;simp only[List.getElem_take];exact⟨a1,a2⟩
  .simp at ho
theorem SK.back{p:Option Addr}{q n:Nat}{u:Value}{o:Ob}(h:SK B M v sv (.slice p s.opens.length q) s us)(ok:CH n s)(h0:0<s.opens.length)(hl:AM s=false)(k:Below v.heap.size v v')(ho:(G1 s)[s.opens.length-1]? =some o)(hu:v'.ownsRow v.heap.size 4 1 u M (C5 M o.set)):
 SK B M v' u (.slice p (s.opens.length-1) q) (B9 s) (us.take (s.opens.length-1)):=by
 refine⟨gH h.hB k.size,by rw[Ko hl ho h0];exact En hu h.hB,?_,by rw[CF,List.length_take,h.len];omega,fun j hj x hx=>?_⟩
 .rw[CF,DO ok h0,<-EJ];exact AK (Eo h.opn oM) k
 .rw[DO ok h0]at hx;have hk':j<us.length:=by simp at hj;omega
  rw[List.getElem?_take]at hx;split at hx
  .obtain⟨a1,a2⟩:=h.each j hk' x hx;simp only[List.getElem_take];refine⟨AK a1 k,fun b hb e=>?_⟩;have b1:=(hu.lt b hb).1;have b2:=(a1.lt b e).2;omega
  .simp at hx
theorem SK.last{g q:Nat}(h:SK B M v sv (.slice (some ⟨g,0,none⟩) s.opens.length q) s us)(h0:0<s.opens.length):∃ (X:List Nat) (u:Value),(G1 s)[s.opens.length-1]? =some ⟨if AM s then 36 else 34,BT s,X⟩/\v.ownsRow B 4 1 u M (C5 M X)/\v.cell? ⟨g,(s.opens.length-1)*3,none⟩=some (.int .i64 (if AM s then 36 else 34))/\v.cell? ⟨g,(s.opens.length-1)*3+1,none⟩=some (.int .i64 (BT s))/\v.cell? ⟨g,(s.opens.length-1)*3+2,none⟩=some u:=by
 obtain⟨X,hX⟩:=LY h0;have hu:s.opens.length-1<us.length:=by rw[h.len];omega
 obtain⟨a1,a2⟩:=h.each _ hu _ hX;have cl:=fun(j:Nat) (hj:j<3)=>Jm j hj hX (gB hu);have ca:=fun(j:Nat) (hj:j<3)=>h.opn.cellAt ((s.opens.length-1)*3+j) oM;refine⟨X,_,hX,a1,?_,?_,?_⟩
 .have:=ca 0 dE;rw[cl 0 dE]at this;exact this
 .have:=ca 1 dE;rw[cl 1 dE]at this;exact this
 .have:=ca 2 dE;rw[cl 2 dE]at this;exact this
theorem SK.start(w:World)(B:Nat)(h:B<=w.heap.size){sv:Value}(hs:w.ownsRow B 4 1 sv M (C5 M [])):SK B M w sv (.slice none 0 0) ⟨[],[]⟩ []:=
 ⟨h,hs,World.ownsRow_nil _ _ _ 3,rfl,fun k hk=>by simp at hk⟩
end
theorem N8(M:Nat)(X:List Nat):∀u∈C5 M X,u.oneCell'=true:=by
 intro u hu;unfold C5 at hu;simp only[List.mem_map]at hu;obtain⟨j,-,rfl⟩:=hu;rfl
theorem JY{t e:TypeId}{z:Value}{sz by':Nat}(ht:prog.underlying t=some (.slice e))(hi:(prog.info? e).map (fun i=>(i.zero,i.size,i.bytes))=some (some z,sz,by'))(p:Option Addr)(n c:Nat)(x:Option Addr)(d:Nat)(hn:n<=c)(ty:TypeId)(w:World):(Builtin.append_ #[t,t] ty #[.slice p n c,.slice x 0 d]).run prog w=.ok (.slice p n c) w:=by
 obtain⟨i0,hi0,hz0,hz1,hz2⟩:=info_parts hi;have h1:¬c<n:=oM;cases x with
 |none=>cases p<;>simp[Builtin.append_,run_underlying ht,sizeOf,typeInfo,hi0,Builtin.lenOf,Builtin.firstCells,storeCells,loadCells,loadCellsFrom,hn,h1]
 |some a=>cases p<;>simp[Builtin.append_,run_underlying ht,sizeOf,typeInfo,hi0,Builtin.lenOf,Builtin.firstCells,storeCells,loadCells,loadCellsFrom,hn,h1]
theorem EZ{B M:Nat}{X:List Nat}(v:Value)(hM:M<=16384)(w:World)(h:w.ownsRow B 4 1 v M (C5 M X)):
 Calls prog 36 #[v] w fun e w'=>∃u,e=.returned u/\w'.ownsRow w.heap.size 4 1 u M (C5 M X)/\Below w.heap.size w w':=by
 obtain⟨p,q,rfl⟩:=AF h;have EA:∃u w',(Builtin.append_ #[88,88] 88 #[.slice none 0 0,.slice p M q]).run prog w=.ok u w'/\w'.ownsRow w.heap.size 4 1 u M (C5 M X)/\Below w.heap.size w w':=by
  by_cases h0:M=0
  .subst h0;refine⟨.slice none 0 0,w,JY underlying88 DK none 0 0 p q (gF _) _ _,?_,Cq _⟩;have:C5 0 X=[]:=by simp[C5]
   rw[this];exact World.ownsRow_nil _ _ _ 1
  .obtain⟨g,c,e,hl,hg⟩:=h.form oM;simp only[Value.slice.injEq]at e;obtain⟨rfl,-,rfl⟩:=e;obtain⟨i0,hi0,hz0,hz1,hz2⟩:=info_parts DK;obtain⟨g',cap,w',hr,hown,hgrow,hat,hlt⟩:=run_append_lies (P:=prog) w 88 88 w.heap.size 4 i0 _ 1 1 underlying88 hi0 hz0 hz1 hz2 rfl dE (.slice none 0 0) 0 [] (World.ownsRow_nil _ _ _ 1) ⟨g,0,none⟩ M q (C5 M X) Re
    (fun j u hu=>by
     have hj:j<M:=by have:=(List.getElem?_eq_some_iff.1 hu).1;rw[FJ]at this;exact this
     have e:=h.cellAt j oM;have e2:(⟨g,0,none⟩:Addr).add j=⟨g,j,none⟩:=by simp[Addr.add];omega
     rw[e2,e,hu]) (N8 M X) oM mL oM (gF _) _ rfl
   simp only[Nat.zero_add,List.nil_append]at hr hown;exact⟨_,w',hr,hown,(Below.refl _ _).grown hgrow (gF _) (fun k e=>by simp[Value.ownBlock]at e)⟩
 obtain⟨u,w',hr,ho,hb⟩:=EA;have HR:Hid ((Builtin.append_ #[88,88] 88 #[.slice none 0 0,.slice p M q]).run prog w=.ok u w'):=hr;have HO:Hid (w'.ownsRow w.heap.size 4 1 u M (C5 M X)/\Below w.heap.size w w'):=⟨ho,hb⟩
 clear h hr ho hb;go_enter func36,ntmps36;go_wp2_with(at_builtin;refine B1 rF _ _ _ rF _ _ _ rF rF HR.out ?_);go_ret;exact⟨u,rfl,HO.1,HO.2⟩
theorem IF{P:Program}{w w':World}{o:Oper}{a:Act}{K:Act->World->Prop}{Q:Exit->Act->World->Prop}(s x:Operand)(t:TypeId)
 (ho:o.op=.call {callee:=.builtin .append,args:=#[s,x],argTypes:=#[t,t]}) (v v2 v':Value) (hs:a.eval s=v) (hx:a.eval x=v2) (hr:(Builtin.append_ #[t,t] o.type #[v,v2]).run P w=.ok v' w')
 (h:K (a.put o.dst v') w') (y':Bool) (hy:y'=true):if y'=true then Oper.wp P o a w K Q else K (a.put o.dst undef) w:=by
 rw[if_pos hy];exact Ry
end Go.Proofs.YtnlgkkbmbijndaaGreat
