import Derived.Test.YtnlgkkbmbijndaaGreatSeal15
import Derived.Deep.DeepCutAuto
import Derived.Test.YtnlgkkbmbijndaaGreatSeal17
import Derived.Test.YtnlgkkbmbijndaaGreatSeal16
import Derived.Test.YtnlgkkbmbijndaaGreatSeal1
namespace Go.Proofs.YtnlgkkbmbijndaaGreat
open Go.RowKit Go.Proofs.Tryz
set_option linter.all false
set_option maxRecDepth 100000
set_option maxHeartbeats 16000000
def Te(op:Nat)(i:Ar):Pz Ar:=Ac (DE op) fun z=>Ax {i with bits:=z}
def Td(op:Nat)(i:Ar):Pz Ar:=Ac (BE (EB op)) fun v=>Te op {i with n:=v}
def Ta(op:Nat)(i:Ar):Pz Ar:=Ac (BE (FZ op)) fun v=>Td op {i with c:=v}
def T9(op:Nat)(i:Ar):Pz Ar:=Ac (BE (FQ op)) fun v=>Ta op {i with b:=v}
def T8(op:Nat)(i:Ar):Pz Ar:=Ac (BE (FY op)) fun v=>T9 op {i with a:=v}
def Ti(op:Nat)(i:Ar):Pz Ar:=Ac (BE (Gg op)) fun v=>T8 op {i with d:=v}
def pI(op k:Nat)(i:Ar):Pz Ar:=if k=0 then Ti op i else if k=1 then T8 op i else if k=2 then T9 op i else if k=3 then Ta op i else if k=4 then Td op i else Te op i
theorem M8:Cw=Ac (AO 1 37) fun op=>pI op 0 (CQ op):=rfl
theorem ND{s:ByteArray}{A A1:Nat}{e p p1:Int}{lo hi x:Nat}(h:Af (AO lo hi) (Ab s) A e A1 0 p p1 x)(hA:e=0->A<=s.size):lo<=x:=by
 obtain⟨he,-⟩:=h.zero rfl (fun h=>by rw[Ah];exact hA h);have h2:=h.2 he (by rw[Ah];exact hA he);cases hl:(Ab s).drop A with
 |nil=>
  rw[hl]at h2;exact absurd h2.2.1.symm h2.1
 |cons b l=>
  rw[hl]at h2;unfold AO at h2;simp only at h2;by_cases q:b<lo\/hi<b
  .rw[if_pos q]at h2;exact absurd h2.2.1.symm h2.1
  .rw[if_neg q]at h2;have:=h2.2.2.2.2;omega
theorem Qk{op:Nat}{s:List Nat}{A A':Nat}{e e' p p':Int}{o a b c n z:Int}{y:Ar}(hn:Gg op=false)(h:Af (pI op 1 (⟨o,0,a,b,c,n,z⟩:Ar)) s A e A' e' p p' y):Af (pI op 0 (⟨o,0,a,b,c,n,z⟩:Ar)) s A e A' e' p p' y:=by
 show Af (Ac (BE (Gg op)) _) s A e A' e' p p' y;exact Qc
theorem Pg{op m:Nat}{s:List Nat}{A A1 A':Nat}{e e1 e' p p1 p':Int}{o d a b c n z:Int}{y:Ar}(hn:Gg op=true)(h1:Af (BJ (-1)) s A e A1 e1 p p1 m)(h:Af (pI op 1 (⟨o,(m:Int),a,b,c,n,z⟩:Ar)) s A1 e1 A' e' p1 p' y):Af (pI op 0 (⟨o,d,a,b,c,n,z⟩:Ar)) s A e A' e' p p' y:=by
 show Af (Ac (BE (Gg op)) _) s A e A' e' p p' y;exact Qa
theorem Ql{op:Nat}{s:List Nat}{A A':Nat}{e e' p p':Int}{o d b c n z:Int}{y:Ar}(hn:FY op=false)(h:Af (pI op 2 (⟨o,d,0,b,c,n,z⟩:Ar)) s A e A' e' p p' y):Af (pI op 1 (⟨o,d,0,b,c,n,z⟩:Ar)) s A e A' e' p p' y:=by
 show Af (Ac (BE (FY op)) _) s A e A' e' p p' y;exact Qc
theorem Ph{op m:Nat}{s:List Nat}{A A1 A':Nat}{e e1 e' p p1 p':Int}{o d a b c n z:Int}{y:Ar}(hn:FY op=true)(h1:Af (BJ (-1)) s A e A1 e1 p p1 m)(h:Af (pI op 2 (⟨o,d,(m:Int),b,c,n,z⟩:Ar)) s A1 e1 A' e' p1 p' y):Af (pI op 1 (⟨o,d,a,b,c,n,z⟩:Ar)) s A e A' e' p p' y:=by
 show Af (Ac (BE (FY op)) _) s A e A' e' p p' y;exact Qa
theorem Qm{op:Nat}{s:List Nat}{A A':Nat}{e e' p p':Int}{o d a c n z:Int}{y:Ar}(hn:FQ op=false)(h:Af (pI op 3 (⟨o,d,a,0,c,n,z⟩:Ar)) s A e A' e' p p' y):Af (pI op 2 (⟨o,d,a,0,c,n,z⟩:Ar)) s A e A' e' p p' y:=by
 show Af (Ac (BE (FQ op)) _) s A e A' e' p p' y;exact Qc
theorem Pj{op m:Nat}{s:List Nat}{A A1 A':Nat}{e e1 e' p p1 p':Int}{o d a b c n z:Int}{y:Ar}(hn:FQ op=true)(h1:Af (BJ (-1)) s A e A1 e1 p p1 m)(h:Af (pI op 3 (⟨o,d,a,(m:Int),c,n,z⟩:Ar)) s A1 e1 A' e' p1 p' y):Af (pI op 2 (⟨o,d,a,b,c,n,z⟩:Ar)) s A e A' e' p p' y:=by
 show Af (Ac (BE (FQ op)) _) s A e A' e' p p' y;exact Qa
theorem Qn{op:Nat}{s:List Nat}{A A':Nat}{e e' p p':Int}{o d a b n z:Int}{y:Ar}(hn:FZ op=false)(h:Af (pI op 4 (⟨o,d,a,b,0,n,z⟩:Ar)) s A e A' e' p p' y):Af (pI op 3 (⟨o,d,a,b,0,n,z⟩:Ar)) s A e A' e' p p' y:=by
 show Af (Ac (BE (FZ op)) _) s A e A' e' p p' y;exact Qc
theorem Pk{op m:Nat}{s:List Nat}{A A1 A':Nat}{e e1 e' p p1 p':Int}{o d a b c n z:Int}{y:Ar}(hn:FZ op=true)(h1:Af (BJ (-1)) s A e A1 e1 p p1 m)(h:Af (pI op 4 (⟨o,d,a,b,(m:Int),n,z⟩:Ar)) s A1 e1 A' e' p1 p' y):Af (pI op 3 (⟨o,d,a,b,c,n,z⟩:Ar)) s A e A' e' p p' y:=by
 show Af (Ac (BE (FZ op)) _) s A e A' e' p p' y;exact Qa
theorem Qo{op:Nat}{s:List Nat}{A A':Nat}{e e' p p':Int}{o d a b c z:Int}{y:Ar}(hn:EB op=false)(h:Af (pI op 5 (⟨o,d,a,b,c,0,z⟩:Ar)) s A e A' e' p p' y):Af (pI op 4 (⟨o,d,a,b,c,0,z⟩:Ar)) s A e A' e' p p' y:=by
 show Af (Ac (BE (EB op)) _) s A e A' e' p p' y;exact Qc
theorem Pl{op m:Nat}{s:List Nat}{A A1 A':Nat}{e e1 e' p p1 p':Int}{o d a b c n z:Int}{y:Ar}(hn:EB op=true)(h1:Af (BJ (-1)) s A e A1 e1 p p1 m)(h:Af (pI op 5 (⟨o,d,a,b,c,(m:Int),z⟩:Ar)) s A1 e1 A' e' p1 p' y):Af (pI op 4 (⟨o,d,a,b,c,n,z⟩:Ar)) s A e A' e' p p' y:=by
 show Af (Ac (BE (EB op)) _) s A e A' e' p p' y;exact Qa
theorem P6{op:Nat}{s:List Nat}{A:Nat}{e p:Int}{o d a b c n:Int}(h:op≠1):Af (pI op 5 (⟨o,d,a,b,c,n,0⟩:Ar)) s A e A e p p (⟨o,d,a,b,c,n,0⟩:Ar):=by
 show Af (Ac (DE op) _) s A e A e p p _;unfold DE;rw[if_neg h];exact Af.bind (x:=(0:Int)) (Af.pure _) (Af.pure _)
theorem NA{op m:Nat}{s:List Nat}{A A1:Nat}{e e1 p p1:Int}{o d a b c n z:Int}(h:op=1)(h1:Af (C4 4) s A e A1 e1 p p1 m):Af (pI op 5 (⟨o,d,a,b,c,n,z⟩:Ar)) s A e A1 e1 p p1 (⟨o,d,a,b,c,n,(m:Int)⟩:Ar):=by
 show Af (Ac (DE op) _) s A e A1 e1 p p1 _;unfold DE;rw[if_pos h];exact Af.bind (x:=(m:Int)) (Af.map (g:=fun(n:Nat)=>(n:Int)) (x:=m) h1) (Af.pure _)
def Zf(k:Nat)(d a b c n:Int):Prop:=(k<=0->d=0)/\(k<=1->a=0)/\(k<=2->b=0)/\(k<=3->c=0)/\(k<=4->n=0)
def DV(s:ByteArray)(A:Nat)(e p:Int)(x1 C D F G:Nat)(w:World)(k:Nat)(wx:World):Prop:=
 ∃ (Ak:Nat) (ek pk d a b c n:Int),Hid (wx.rowIs C 78 4 (f4 (.string s) (.int .i64 (Ak:Int)) (.int .i64 ek) (.int .i64 pk)))/\Hid (wx.rowIs D 78 4 (f4 (.string ⟨#[]⟩) (.int .i64 0) (.int .i64 0) (.int .i64 0)))/\Hid (wx.rowIs F 70 7 (g7 (.int .i64 0) (.int .i64 0) (.int .i64 0) (.int .i64 0) (.int .i64 0) (.int .i64 0) (.int .u32 0)))/\Hid (wx.rowIs G 70 7 (g7 (.int .i64 (x1:Int)) (.int .i64 d) (.int .i64 a) (.int .i64 b) (.int .i64 c) (.int .i64 n) (.int .u32 0)))/\Hid (Below C w wx)/\Hid (ek=0->Ak<=s.size)/\Hid (∀ (A':Nat) (e' p':Int) (y:Ar),Af (pI x1 k (⟨(x1:Int),d,a,b,c,n,0⟩:Ar)) (Ab s) Ak ek A' e' pk p' y->Af Cw (Ab s) A e A' e' p p' y)/\Hid (Zf k d a b c n)
theorem Mj(s:ByteArray)(A:Nat)(e p:Int)(w:World)(hA:e=0->A<=s.size)(hs:s.size<=281474976710656):
 Calls prog 63 #[.agg #[.string s,.int .i64 (A:Int),.int .i64 e,.int .i64 p]] w (BZ w.heap.size w s A e p Cw Bn (fun _=>True)):=by
 obtain⟨C,hS_C⟩:∃N,w.heap.size=N:=⟨_,rfl⟩
 obtain⟨W0,hA_C⟩:∃W,w.alloc (.cells #[.string s,.int .i64 (A:Int),.int .i64 e,.int .i64 p] 78)=W:=⟨_,rfl⟩
 have r9:W0.rowIs C 78 4 (f4 (.string s) (.int .i64 (A:Int)) (.int .i64 e) (.int .i64 p)):=R6;have R_C:=A6 r9;have HBW:Hid (Below C w W0):=BI hA_C (Nat.le_of_eq hS_C.symm);have HC_C:Hid (C<=C):=gF _;have HCW:=A6 hS_C;clear r9;obtain⟨D,hS_D⟩:∃N,W0.heap.size=N:=⟨_,rfl⟩
 obtain⟨W1,hA_D⟩:∃W,W0.alloc (.cells #[.string ⟨#[]⟩,.int .i64 0,.int .i64 0,.int .i64 0] 78)=W:=⟨_,rfl⟩
 have hC_D:C≠D:=F2;have hD_C:=hC_D.symm;have HC_D:Hid (C<=D):=RU;have r9:W1.rowIs D 78 4 (f4 (.string ⟨#[]⟩) (.int .i64 0) (.int .i64 0) (.int .i64 0)):=RQ;have R_D:=A6 r9
 replace HBW:=A6 (HBW.trans (BI hA_D (Nat.le_of_lt R_C.lt)))
 replace R_C:=A6 (Ai R_C.out hA_D)
 clear r9;obtain⟨F,hS_F⟩:∃N,W1.heap.size=N:=⟨_,rfl⟩
 obtain⟨W2,hA_F⟩:∃W,W1.alloc (.cells #[.int .i64 0,.int .i64 0,.int .i64 0,.int .i64 0,.int .i64 0,.int .i64 0,.int .u32 0] 70)=W:=⟨_,rfl⟩
 have hC_F:C≠F:=F2;have hF_C:=hC_F.symm;have hD_F:D≠F:=JX;have hF_D:=hD_F.symm;have HC_F:Hid (C<=F):=RR;have r9:W2.rowIs F 70 7 (g7 (.int .i64 0) (.int .i64 0) (.int .i64 0) (.int .i64 0) (.int .i64 0) (.int .i64 0) (.int .u32 0)):=(by rw[<-hA_F,<-hS_F];exact IC W1 _ _ _ _ _ _ _ _)
 have R_F:=A6 r9
 replace HBW:=A6 (HBW.trans (BI hA_F (Nat.le_of_lt R_C.lt)))
 replace R_C:=A6 (Ai R_C.out hA_F)
 replace R_D:=A6 (Ai R_D.out hA_F)
 clear r9;have HCV:Hid (C<=W2.heap.size):=Nat.le_of_lt R_C.lt;have HA:=A6 hA;have HS:=A6 hs;have KB:Hid (∀v,Calls prog 60 #[.agg #[.string s,.int .i64 (A:Int),.int .i64 e,.int .i64 p],.int .i64 1,.int .i64 37] v (BZ v.heap.size v s A e p (AO 1 37) (fun(n:Nat)=>.int .i64 (n:Int)) (fun n=>n<=37))):=fun v=>Ep s A e p 1 37 v hA hs;unfold BZ at KB;clear hA hs;obtain⟨cC0,cC1,cC2,cC3⟩:=c4 R_C.out;go_enter func63,ntmps63;go_upto_region 1 with fail;try rw[hS_C]
 try rw[hA_C]
 try rw[hS_D]
 try rw[hA_D]
 try rw[hS_F]
 try rw[hA_F]
 clear hS_C hA_C hS_D hA_D hS_F hA_F;go_upto_region 2 with(go_at_call 60;(with_reducible refine(KB.out _).mono ?_);rintro r9 w5 ⟨A1,e1,p1,x1,rfl,hx1,hR,hb⟩;replace R_C:=A6 (R_C.out.of_block (hb.block _ R_C.out.lt));replace R_D:=A6 (R_D.out.of_block (hb.block _ R_D.out.lt));replace R_F:=A6 (R_F.out.of_block (hb.block _ R_F.out.lt));replace HBW:=A6 (HBW.out.trans (hb.mono HCV.out));have HX:=A6 hx1;have HR:=A6 hR;obtain⟨mC0,mC1,mC2,mC3⟩:=c4 R_C.out;obtain⟨yC0,yC1,yC2,yC3⟩:=z4 R_C.out;clear hb hx1 hR)
 have hq:=AI R_C.out (.string s) (.int .i64 (A1:Int)) (.int .i64 e1) (.int .i64 p1);obtain⟨W3,hP_W3⟩:∃W,(((w5.setCell ⟨C,0,none⟩ (.string s)).setCell ⟨C,1,none⟩ (.int .i64 (A1:Int))).setCell ⟨C,2,none⟩ (.int .i64 e1)).setCell ⟨C,3,none⟩ (.int .i64 p1)=W:=⟨_,rfl⟩
 rw[hP_W3]at hq;try rw[hP_W3]
 replace R_D:=A6 (hq.2.row R_D.out hD_C)
 replace R_F:=A6 (hq.2.row R_F.out hF_C)
 replace R_C:=A6 hq.1
 replace HBW:=A6 (HBW.trans (hq.2.bel C HC_C.out))
 clear hq;clear hP_W3;clear cC0 cC1 cC2 cC3 mC0 mC1 mC2 mC3 yC0 yC1 yC2 yC3;clear HCV;have HCV:Hid (C<=W3.heap.size):=Nat.le_of_lt R_C.lt;have HA1:=A6 (HR.le HA.out);obtain⟨G,hS_G⟩:∃N,W3.heap.size=N:=⟨_,rfl⟩
 obtain⟨W4,hA_G⟩:∃W,W3.alloc (.cells #[.int .i64 0,.int .i64 0,.int .i64 0,.int .i64 0,.int .i64 0,.int .i64 0,.int .u32 0] 70)=W:=⟨_,rfl⟩
 have hC_G:C≠G:=F2;have hG_C:=hC_G.symm;have hD_G:D≠G:=JX;have hG_D:=hD_G.symm;have hF_G:F≠G:=Np;have hG_F:=hF_G.symm;have HC_G:Hid (C<=G):=(by show C<=G;have:=R_C.lt;omega)
 have r9:W4.rowIs G 70 7 (g7 (.int .i64 0) (.int .i64 0) (.int .i64 0) (.int .i64 0) (.int .i64 0) (.int .i64 0) (.int .u32 0)):=(by rw[<-hA_G,<-hS_G];exact IC W3 _ _ _ _ _ _ _ _)
 have R_G:=A6 r9
 replace HBW:=A6 (HBW.trans (BI hA_G (Nat.le_of_lt R_C.lt)))
 replace R_C:=A6 (Ai R_C.out hA_G)
 replace R_D:=A6 (Ai R_D.out hA_G)
 replace R_F:=A6 (Ai R_F.out hA_G)
 clear r9;obtain⟨cG0,cG1,cG2,cG3,cG4,cG5,cG6⟩:=c7 R_G.out;obtain⟨zG0,zG1,zG2,zG3,zG4,zG5,zG6⟩:=z7 R_G.out;have hq:=Jo R_G.out (.int .i64 (x1:Int)) (.int .i64 0) (.int .i64 0) (.int .i64 0) (.int .i64 0) (.int .i64 0) (.int .u32 0);obtain⟨W5,hP_W5⟩:∃W,((((((W4.setCell ⟨G,0,none⟩ (.int .i64 (x1:Int))).setCell ⟨G,1,none⟩ (.int .i64 0)).setCell ⟨G,2,none⟩ (.int .i64 0)).setCell ⟨G,3,none⟩ (.int .i64 0)).setCell ⟨G,4,none⟩ (.int .i64 0)).setCell ⟨G,5,none⟩ (.int .i64 0)).setCell ⟨G,6,none⟩ (.int .u32 0)=W:=⟨_,rfl⟩
 rw[hP_W5]at hq
 replace R_C:=A6 (hq.2.row R_C.out hC_G)
 replace R_D:=A6 (hq.2.row R_D.out hD_G)
 replace R_F:=A6 (hq.2.row R_F.out hF_G)
 replace R_G:=A6 hq.1
 replace HBW:=A6 (HBW.trans (hq.2.bel C HC_G.out))
 clear hq;have HP_W5:=A6 hP_W5;clear hP_W5;go_upto_region 3 with fail;try rw[hS_G]
 try rw[hA_G]
 try rw[HP_W5.out]
 clear hS_G hA_G HP_W5;clear cG0 cG1 cG2 cG3 cG4 cG5 cG6 zG0 zG1 zG2 zG3 zG4 zG5 zG6;have HRS:∃ (RS:ByteArray) (okb:Bool),(∀v,Calls prog 48 #[.int .i64 (x1:Int)] v fun x w'=>x=.returned (.tuple #[.string RS,.bool okb])/\w'=v)/\((x1=0/\RS.size=0)\/(1<=x1/\RS.size=5/\∃n0 n1 n2 n3 n4:Nat,(∀v,(Instr.index 9 (.string RS) (.int .i64 0)).run prog v=.ok (.int .u8 (n0:Int)) v)/\((n0:Int)≠45↔Gg x1=true)/\(∀v,(Instr.index 9 (.string RS) (.int .i64 1)).run prog v=.ok (.int .u8 (n1:Int)) v)/\((n1:Int)≠45↔FY x1=true)/\(∀v,(Instr.index 9 (.string RS) (.int .i64 2)).run prog v=.ok (.int .u8 (n2:Int)) v)/\((n2:Int)≠45↔FQ x1=true)/\(∀v,(Instr.index 9 (.string RS) (.int .i64 3)).run prog v=.ok (.int .u8 (n3:Int)) v)/\((n3:Int)≠45↔FZ x1=true)/\(∀v,(Instr.index 9 (.string RS) (.int .i64 4)).run prog v=.ok (.int .u8 (n4:Int)) v)/\((n4:Int)≠45↔EB x1=true))):=by
  by_cases h0:x1=0
  .subst h0;refine⟨⟨#[]⟩,false,fun v=>?_,.inl ⟨rfl,rfl⟩⟩;rcases FH ((0:Nat):Int) v with⟨-,hc⟩|⟨hk,-⟩
   .exact hc
   .exact absurd hk dE
  .have h1:1<=x1/\x1<=37:=by have:=HX.out;omega
   obtain⟨la,lb,lc,ld,le,⟨ea,eb,ec,ed,ee⟩,hrow⟩:=GJ (x1:Int) (by unfold AB;simp;omega);obtain⟨m0,m1,m2,m3,m4⟩:=Qp x1 oM oM;rw[<-ea]at m0;rw[<-eb]at m1;rw[<-ec]at m2;rw[<-ed]at m3;rw[<-ee]at m4;refine⟨⟨#[la,lb,lc,ld,le]⟩,true,hrow,.inr ⟨h1.1,rfl,la.toNat,lb.toNat,lc.toNat,ld.toNat,le.toNat,fun v=>Qd,m0,fun v=>Qd,m1,fun v=>Qd,m2,fun v=>Qd,m3,fun v=>Qd,m4⟩⟩
 obtain⟨RS,okb,hKR,hor⟩:=HRS;have KR:=A6 hKR;have HOR:=A6 hor;clear hKR hor;go_upto_region 4 with(go_at_call 48;(with_reducible refine(KR.out _).mono ?_);rintro r9 w6 ⟨rfl,hw6⟩;have hw6:=hw6.symm;subst hw6)
 have HONE:Hid (DV s A e p x1 C D F G w 0 W5):=⟨A1,e1,p1,0,0,0,0,0,R_C,R_D,R_F,R_G,HBW,HA1,fun A' e' p' y h=>by rw[M8];exact HR.bind h,fun _=>rfl,fun _=>rfl,fun _=>rfl,fun _=>rfl,fun _=>rfl⟩
 have HX0:Hid (x1=0->e1≠0):=fun h0 he=>by
  subst he;have:=ND HR.out HA.out;omega
 go_upto_block 0 with fail;go_cut [8] (fun kv wx=>Hid (DV s A e p x1 C D F G w 5 wx))
 case first=>
  rcases HOR.out with⟨hx0,hsz⟩|⟨hx1,hsz,n0,n1,n2,n3,n4,i0,m0,i1,m1,i2,m2,i3,m3,i4,m4⟩
  .have HE1:=A6 (HX0.out hx0);clear hx0;have HFIN:Hid (DV s A e p x1 C D F G w 5 W5):=by
    obtain⟨Ak,ek,pk,d,a,b,c,n,g1,g2,g3,g4,g5,g6,g7,g8⟩:=HONE.out;refine⟨A1,e1,p1,0,0,0,0,0,R_C,R_D,R_F,R_G,HBW,HA1,fun A' e' p' y h=>?_,fun _=>rfl,fun _=>rfl,fun _=>rfl,fun _=>rfl,fun _=>rfl⟩;rw[M8];have h2:=h.1 HE1.out;refine HR.bind ⟨fun _=>h2,fun h0=>absurd h0 HE1.out⟩
   clear HONE R_C R_D R_F R_G HBW;go_wp2_with fail
   go_loopw [8] (fun kv wx=>kv=.int .i64 0/\wx=W5) (fun _ _=>0)
   case atStart=>exact⟨rfl,rfl⟩
   case round=>
    obtain⟨rfl,rfl⟩:=hrel;go_wp2_with fail;go_meet;exact HFIN
  .have HM0:=A6 m0;have HM1:=A6 m1;have HM2:=A6 m2;have HM3:=A6 m3;have HM4:=A6 m4;clear m0 m1 m2 m3 m4 hx1;clear R_C R_D R_F R_G HBW;go_wp2_with fail
   go_loopw [8] (fun kv wx=>∃k:Nat,k<=5/\kv=.int .i64 (k:Int)/\Hid (DV s A e p x1 C D F G w k wx)) (fun kv _=>5-(intOf kv).toNat)
   case atStart=>exact⟨0,dE,rfl,HONE⟩
   case round=>
    obtain⟨k,hk,rfl,HJ⟩:=hrel;rcases(show k=0\/k=1\/k=2\/k=3\/k=4\/k=5 by omega)with rfl|rfl|rfl|rfl|rfl|rfl
    .obtain⟨Ak,ek,pk,d,a,b,c,n,R_C,R_D,R_F,R_G,HBW,HAK,HCT,HZ⟩:=HJ.out;clear HJ;clear HCV;have HCV:Hid (C<=wr.heap.size):=Nat.le_of_lt R_C.lt;obtain⟨cC0,cC1,cC2,cC3⟩:=c4 R_C.out;by_cases he:ek=0
     .subst he;by_cases hq:(n0:Int)=45
      .have q2:((n0:Int)==45)=true:=by simpa using hq
       have HNO:Hid (Gg x1=false):=by
        show Gg x1=false;cases hnm:Gg x1 with
        |false=>rfl
        |true=>exact absurd hq (HM0.2 hnm)
       obtain⟨hz0,hz1,hz2,hz3,hz4⟩:=HZ.out;have hzk:d=0:=hz0 oM;subst hzk;have HNX:Hid (DV s A e p x1 C D F G w 1 wr):=⟨Ak,0,pk,0,a,b,c,n,R_C,R_D,R_F,R_G,HBW,HAK,fun A' e' p' y h=>HCT.out A' e' p' y (Qk HNO.out h),fun h=>rfl,fun h=>hz1 oM,fun h=>hz2 oM,fun h=>hz3 oM,fun h=>hz4 oM⟩
       clear hq hz0 hz1 hz2 hz3 hz4;go_wp2_with fail;go_roundw
       case rel=>exact⟨1,dE,rfl,HNX⟩
       case measure=>simp[intOf]
      .have q2:((n0:Int)==45)=false:=by simpa using hq
       have HYES:=A6 (HM0.out.1 hq);clear hq;have KN:Hid (∀v,Calls prog 59 #[.agg #[.string s,.int .i64 (Ak:Int),.int .i64 0,.int .i64 pk],.int .i64 (-1)] v (BZ v.heap.size v s Ak 0 pk (BJ (-1)) (fun(n:Nat)=>.int .i64 (n:Int)) (fun n=>n<2^63))):=fun v=>Bt s Ak 0 pk (-1) v HAK.out HS.out;unfold BZ at KN;have HAK0:Hid (Ak<=s.size):=HAK.out rfl;go_wp2_with(go_at_call 59;(with_reducible refine(KN.out _).mono ?_);rintro r9 w7 ⟨A2,e2,p2,n2,rfl,-,hR2,hb⟩;replace R_C:=A6 (R_C.out.of_block (hb.block _ R_C.out.lt));replace R_D:=A6 (R_D.out.of_block (hb.block _ R_D.out.lt));replace R_F:=A6 (R_F.out.of_block (hb.block _ R_F.out.lt));replace R_G:=A6 (R_G.out.of_block (hb.block _ R_G.out.lt));replace HBW:=A6 (HBW.out.trans (hb.mono HCV.out));have HR2:=A6 hR2;obtain⟨J,hS_J⟩:∃N,w7.heap.size=N:=⟨_,rfl⟩;obtain⟨W6,hA_J⟩:∃W,w7.alloc (.cells #[.string ⟨#[]⟩,.int .i64 0,.int .i64 0,.int .i64 0] 78)=W:=⟨_,rfl⟩;have hC_J:C≠J:=F2;have hJ_C:=hC_J.symm;have hD_J:D≠J:=JX;have hJ_D:=hD_J.symm;have hF_J:F≠J:=Np;have hJ_F:=hF_J.symm;have hG_J:G≠J:=P3;have hJ_G:=hG_J.symm;have HC_J:Hid (C<=J):=No;have r9:W6.rowIs J 78 4 (f4 (.string ⟨#[]⟩) (.int .i64 0) (.int .i64 0) (.int .i64 0)):=Nw;have R_J:=A6 r9;replace HBW:=A6 (HBW.out.trans (BI hA_J (Nat.le_of_lt R_C.out.lt)));replace R_C:=A6 (Ai R_C.out hA_J);replace R_D:=A6 (Ai R_D.out hA_J);replace R_F:=A6 (Ai R_F.out hA_J);replace R_G:=A6 (Ai R_G.out hA_J);clear r9;obtain⟨mJ0,mJ1,mJ2,mJ3⟩:=c4 R_J.out;obtain⟨yJ0,yJ1,yJ2,yJ3⟩:=z4 R_J.out;obtain⟨mC0,mC1,mC2,mC3⟩:=c4 R_C.out;obtain⟨yC0,yC1,yC2,yC3⟩:=z4 R_C.out;obtain⟨mG0,mG1,mG2,mG3,mG4,mG5,mG6⟩:=c7 R_G.out;obtain⟨yG0,yG1,yG2,yG3,yG4,yG5,yG6⟩:=z7 R_G.out;clear hb hR2);have hq:=AI R_J.out (.string s) (.int .i64 (A2:Int)) (.int .i64 e2) (.int .i64 p2);obtain⟨W7,hP_W7⟩:∃W,(((W6.setCell ⟨J,0,none⟩ (.string s)).setCell ⟨J,1,none⟩ (.int .i64 (A2:Int))).setCell ⟨J,2,none⟩ (.int .i64 e2)).setCell ⟨J,3,none⟩ (.int .i64 p2)=W:=⟨_,rfl⟩
       rw[hP_W7]at hq;try rw[hP_W7]
       replace R_C:=A6 (hq.2.row R_C.out hC_J)
       replace R_D:=A6 (hq.2.row R_D.out hD_J)
       replace R_F:=A6 (hq.2.row R_F.out hF_J)
       replace R_G:=A6 (hq.2.row R_G.out hG_J)
       replace R_J:=A6 hq.1
       replace HBW:=A6 (HBW.trans (hq.2.bel C HC_J.out))
       clear hq;clear hP_W7;have hq:=AI R_C.out (.string s) (.int .i64 (A2:Int)) (.int .i64 e2) (.int .i64 p2);obtain⟨W8,hP_W8⟩:∃W,(((W7.setCell ⟨C,0,none⟩ (.string s)).setCell ⟨C,1,none⟩ (.int .i64 (A2:Int))).setCell ⟨C,2,none⟩ (.int .i64 e2)).setCell ⟨C,3,none⟩ (.int .i64 p2)=W:=⟨_,rfl⟩
       rw[hP_W8]at hq;try rw[hP_W8]
       replace R_D:=A6 (hq.2.row R_D.out hD_C)
       replace R_F:=A6 (hq.2.row R_F.out hF_C)
       replace R_G:=A6 (hq.2.row R_G.out hG_C)
       replace R_J:=A6 (hq.2.row R_J.out hJ_C)
       replace R_C:=A6 hq.1
       replace HBW:=A6 (HBW.trans (hq.2.bel C HC_C.out))
       clear hq;clear hP_W8;have hq:=PH R_G.out (.int .i64 (n2:Int));obtain⟨W9,hP_W9⟩:∃W,W8.setCell ⟨G,1,none⟩ (.int .i64 (n2:Int))=W:=⟨_,rfl⟩
       rw[hP_W9]at hq;try rw[hP_W9]
       replace R_C:=A6 (hq.2.row R_C.out hC_G)
       replace R_D:=A6 (hq.2.row R_D.out hD_G)
       replace R_F:=A6 (hq.2.row R_F.out hF_G)
       replace R_J:=A6 (hq.2.row R_J.out hJ_G)
       replace R_G:=A6 hq.1
       replace HBW:=A6 (HBW.trans (hq.2.bel C HC_G.out))
       clear hq;clear hP_W9;obtain⟨hz0,hz1,hz2,hz3,hz4⟩:=HZ.out;have HNX:Hid (DV s A e p x1 C D F G w 1 W9):=⟨A2,e2,p2,(n2:Int),a,b,c,n,R_C,R_D,R_F,R_G,HBW,A6 (HR2.le fun _=>HAK0.out),fun A' e' p' y h=>HCT.out A' e' p' y (Pg HYES.out HR2.out h),fun h=>absurd h dE,fun h=>hz1 oM,fun h=>hz2 oM,fun h=>hz3 oM,fun h=>hz4 oM⟩
       clear cC0 cC1 cC2 cC3 mJ0 mJ1 mJ2 mJ3 yJ0 yJ1 yJ2 yJ3 mC0 mC1 mC2 mC3 yC0 yC1 yC2 yC3 mG0 mG1 mG2 mG3 mG4 mG5 mG6 yG0 yG1 yG2 yG3 yG4 yG5 yG6;clear hz0 hz1 hz2 hz3 hz4;go_roundw
       case rel=>exact⟨1,dE,rfl,HNX⟩
       case measure=>simp[intOf]
     .exact Q6
    .obtain⟨Ak,ek,pk,d,a,b,c,n,R_C,R_D,R_F,R_G,HBW,HAK,HCT,HZ⟩:=HJ.out;clear HJ;clear HCV;have HCV:Hid (C<=wr.heap.size):=Nat.le_of_lt R_C.lt;obtain⟨cC0,cC1,cC2,cC3⟩:=c4 R_C.out;by_cases he:ek=0
     .subst he;by_cases hq:(n1:Int)=45
      .have q2:((n1:Int)==45)=true:=by simpa using hq
       have HNO:Hid (FY x1=false):=by
        show FY x1=false;cases hnm:FY x1 with
        |false=>rfl
        |true=>exact absurd hq (HM1.2 hnm)
       obtain⟨hz0,hz1,hz2,hz3,hz4⟩:=HZ.out;have hzk:a=0:=hz1 oM;subst hzk;have HNX:Hid (DV s A e p x1 C D F G w 2 wr):=⟨Ak,0,pk,d,0,b,c,n,R_C,R_D,R_F,R_G,HBW,HAK,fun A' e' p' y h=>HCT.out A' e' p' y (Ql HNO.out h),fun h=>hz0 oM,fun h=>rfl,fun h=>hz2 oM,fun h=>hz3 oM,fun h=>hz4 oM⟩
       clear hq hz0 hz1 hz2 hz3 hz4;go_wp2_with fail;go_roundw
       case rel=>exact⟨2,dE,rfl,HNX⟩
       case measure=>simp[intOf]
      .have q2:((n1:Int)==45)=false:=by simpa using hq
       have HYES:=A6 (HM1.out.1 hq);clear hq;have KN:Hid (∀v,Calls prog 59 #[.agg #[.string s,.int .i64 (Ak:Int),.int .i64 0,.int .i64 pk],.int .i64 (-1)] v (BZ v.heap.size v s Ak 0 pk (BJ (-1)) (fun(n:Nat)=>.int .i64 (n:Int)) (fun n=>n<2^63))):=fun v=>Bt s Ak 0 pk (-1) v HAK.out HS.out;unfold BZ at KN;have HAK0:Hid (Ak<=s.size):=HAK.out rfl;go_wp2_with(go_at_call 59;(with_reducible refine(KN.out _).mono ?_);rintro r9 w7 ⟨A2,e2,p2,n2,rfl,-,hR2,hb⟩;replace R_C:=A6 (R_C.out.of_block (hb.block _ R_C.out.lt));replace R_D:=A6 (R_D.out.of_block (hb.block _ R_D.out.lt));replace R_F:=A6 (R_F.out.of_block (hb.block _ R_F.out.lt));replace R_G:=A6 (R_G.out.of_block (hb.block _ R_G.out.lt));replace HBW:=A6 (HBW.out.trans (hb.mono HCV.out));have HR2:=A6 hR2;obtain⟨J,hS_J⟩:∃N,w7.heap.size=N:=⟨_,rfl⟩;obtain⟨W6,hA_J⟩:∃W,w7.alloc (.cells #[.string ⟨#[]⟩,.int .i64 0,.int .i64 0,.int .i64 0] 78)=W:=⟨_,rfl⟩;have hC_J:C≠J:=F2;have hJ_C:=hC_J.symm;have hD_J:D≠J:=JX;have hJ_D:=hD_J.symm;have hF_J:F≠J:=Np;have hJ_F:=hF_J.symm;have hG_J:G≠J:=P3;have hJ_G:=hG_J.symm;have HC_J:Hid (C<=J):=No;have r9:W6.rowIs J 78 4 (f4 (.string ⟨#[]⟩) (.int .i64 0) (.int .i64 0) (.int .i64 0)):=Nw;have R_J:=A6 r9;replace HBW:=A6 (HBW.out.trans (BI hA_J (Nat.le_of_lt R_C.out.lt)));replace R_C:=A6 (Ai R_C.out hA_J);replace R_D:=A6 (Ai R_D.out hA_J);replace R_F:=A6 (Ai R_F.out hA_J);replace R_G:=A6 (Ai R_G.out hA_J);clear r9;obtain⟨mJ0,mJ1,mJ2,mJ3⟩:=c4 R_J.out;obtain⟨yJ0,yJ1,yJ2,yJ3⟩:=z4 R_J.out;obtain⟨mC0,mC1,mC2,mC3⟩:=c4 R_C.out;obtain⟨yC0,yC1,yC2,yC3⟩:=z4 R_C.out;obtain⟨mG0,mG1,mG2,mG3,mG4,mG5,mG6⟩:=c7 R_G.out;obtain⟨yG0,yG1,yG2,yG3,yG4,yG5,yG6⟩:=z7 R_G.out;clear hb hR2);have hq:=AI R_J.out (.string s) (.int .i64 (A2:Int)) (.int .i64 e2) (.int .i64 p2);obtain⟨W7,hP_W7⟩:∃W,(((W6.setCell ⟨J,0,none⟩ (.string s)).setCell ⟨J,1,none⟩ (.int .i64 (A2:Int))).setCell ⟨J,2,none⟩ (.int .i64 e2)).setCell ⟨J,3,none⟩ (.int .i64 p2)=W:=⟨_,rfl⟩
       rw[hP_W7]at hq;try rw[hP_W7]
       replace R_C:=A6 (hq.2.row R_C.out hC_J)
       replace R_D:=A6 (hq.2.row R_D.out hD_J)
       replace R_F:=A6 (hq.2.row R_F.out hF_J)
       replace R_G:=A6 (hq.2.row R_G.out hG_J)
       replace R_J:=A6 hq.1
       replace HBW:=A6 (HBW.trans (hq.2.bel C HC_J.out))
       clear hq;clear hP_W7;have hq:=AI R_C.out (.string s) (.int .i64 (A2:Int)) (.int .i64 e2) (.int .i64 p2);obtain⟨W8,hP_W8⟩:∃W,(((W7.setCell ⟨C,0,none⟩ (.string s)).setCell ⟨C,1,none⟩ (.int .i64 (A2:Int))).setCell ⟨C,2,none⟩ (.int .i64 e2)).setCell ⟨C,3,none⟩ (.int .i64 p2)=W:=⟨_,rfl⟩
       rw[hP_W8]at hq;try rw[hP_W8]
       replace R_D:=A6 (hq.2.row R_D.out hD_C)
       replace R_F:=A6 (hq.2.row R_F.out hF_C)
       replace R_G:=A6 (hq.2.row R_G.out hG_C)
       replace R_J:=A6 (hq.2.row R_J.out hJ_C)
       replace R_C:=A6 hq.1
       replace HBW:=A6 (HBW.trans (hq.2.bel C HC_C.out))
       clear hq;clear hP_W8;have hq:=PI R_G.out (.int .i64 (n2:Int));obtain⟨W9,hP_W9⟩:∃W,W8.setCell ⟨G,2,none⟩ (.int .i64 (n2:Int))=W:=⟨_,rfl⟩
       rw[hP_W9]at hq;try rw[hP_W9]
       replace R_C:=A6 (hq.2.row R_C.out hC_G)
       replace R_D:=A6 (hq.2.row R_D.out hD_G)
       replace R_F:=A6 (hq.2.row R_F.out hF_G)
       replace R_J:=A6 (hq.2.row R_J.out hJ_G)
       replace R_G:=A6 hq.1
       replace HBW:=A6 (HBW.trans (hq.2.bel C HC_G.out))
       clear hq;clear hP_W9;obtain⟨hz0,hz1,hz2,hz3,hz4⟩:=HZ.out;have HNX:Hid (DV s A e p x1 C D F G w 2 W9):=⟨A2,e2,p2,d,(n2:Int),b,c,n,R_C,R_D,R_F,R_G,HBW,A6 (HR2.le fun _=>HAK0.out),fun A' e' p' y h=>HCT.out A' e' p' y (Ph HYES.out HR2.out h),fun h=>absurd h dE,fun h=>absurd h dE,fun h=>hz2 oM,fun h=>hz3 oM,fun h=>hz4 oM⟩
       clear cC0 cC1 cC2 cC3 mJ0 mJ1 mJ2 mJ3 yJ0 yJ1 yJ2 yJ3 mC0 mC1 mC2 mC3 yC0 yC1 yC2 yC3 mG0 mG1 mG2 mG3 mG4 mG5 mG6 yG0 yG1 yG2 yG3 yG4 yG5 yG6;clear hz0 hz1 hz2 hz3 hz4;go_roundw
       case rel=>exact⟨2,dE,rfl,HNX⟩
       case measure=>simp[intOf]
     .exact Q6
    .obtain⟨Ak,ek,pk,d,a,b,c,n,R_C,R_D,R_F,R_G,HBW,HAK,HCT,HZ⟩:=HJ.out;clear HJ;clear HCV;have HCV:Hid (C<=wr.heap.size):=Nat.le_of_lt R_C.lt;obtain⟨cC0,cC1,cC2,cC3⟩:=c4 R_C.out;by_cases he:ek=0
     .subst he;by_cases hq:(n2:Int)=45
      .have q2:((n2:Int)==45)=true:=by simpa using hq
       have HNO:Hid (FQ x1=false):=by
        show FQ x1=false;cases hnm:FQ x1 with
        |false=>rfl
        |true=>exact absurd hq (HM2.2 hnm)
       obtain⟨hz0,hz1,hz2,hz3,hz4⟩:=HZ.out;have hzk:b=0:=hz2 oM;subst hzk;have HNX:Hid (DV s A e p x1 C D F G w 3 wr):=⟨Ak,0,pk,d,a,0,c,n,R_C,R_D,R_F,R_G,HBW,HAK,fun A' e' p' y h=>HCT.out A' e' p' y (Qm HNO.out h),fun h=>hz0 oM,fun h=>hz1 oM,fun h=>rfl,fun h=>hz3 oM,fun h=>hz4 oM⟩
       clear hq hz0 hz1 hz2 hz3 hz4;go_wp2_with fail;go_roundw
       case rel=>exact⟨3,dE,rfl,HNX⟩
       case measure=>simp[intOf]
      .have q2:((n2:Int)==45)=false:=by simpa using hq
       have HYES:=A6 (HM2.out.1 hq);clear hq;have KN:Hid (∀v,Calls prog 59 #[.agg #[.string s,.int .i64 (Ak:Int),.int .i64 0,.int .i64 pk],.int .i64 (-1)] v (BZ v.heap.size v s Ak 0 pk (BJ (-1)) (fun(n:Nat)=>.int .i64 (n:Int)) (fun n=>n<2^63))):=fun v=>Bt s Ak 0 pk (-1) v HAK.out HS.out;unfold BZ at KN;have HAK0:Hid (Ak<=s.size):=HAK.out rfl;go_wp2_with(go_at_call 59;(with_reducible refine(KN.out _).mono ?_);rintro r9 w7 ⟨A2,e2,p2,n2,rfl,-,hR2,hb⟩;replace R_C:=A6 (R_C.out.of_block (hb.block _ R_C.out.lt));replace R_D:=A6 (R_D.out.of_block (hb.block _ R_D.out.lt));replace R_F:=A6 (R_F.out.of_block (hb.block _ R_F.out.lt));replace R_G:=A6 (R_G.out.of_block (hb.block _ R_G.out.lt));replace HBW:=A6 (HBW.out.trans (hb.mono HCV.out));have HR2:=A6 hR2;obtain⟨J,hS_J⟩:∃N,w7.heap.size=N:=⟨_,rfl⟩;obtain⟨W6,hA_J⟩:∃W,w7.alloc (.cells #[.string ⟨#[]⟩,.int .i64 0,.int .i64 0,.int .i64 0] 78)=W:=⟨_,rfl⟩;have hC_J:C≠J:=F2;have hJ_C:=hC_J.symm;have hD_J:D≠J:=JX;have hJ_D:=hD_J.symm;have hF_J:F≠J:=Np;have hJ_F:=hF_J.symm;have hG_J:G≠J:=P3;have hJ_G:=hG_J.symm;have HC_J:Hid (C<=J):=No;have r9:W6.rowIs J 78 4 (f4 (.string ⟨#[]⟩) (.int .i64 0) (.int .i64 0) (.int .i64 0)):=Nw;have R_J:=A6 r9;replace HBW:=A6 (HBW.out.trans (BI hA_J (Nat.le_of_lt R_C.out.lt)));replace R_C:=A6 (Ai R_C.out hA_J);replace R_D:=A6 (Ai R_D.out hA_J);replace R_F:=A6 (Ai R_F.out hA_J);replace R_G:=A6 (Ai R_G.out hA_J);clear r9;obtain⟨mJ0,mJ1,mJ2,mJ3⟩:=c4 R_J.out;obtain⟨yJ0,yJ1,yJ2,yJ3⟩:=z4 R_J.out;obtain⟨mC0,mC1,mC2,mC3⟩:=c4 R_C.out;obtain⟨yC0,yC1,yC2,yC3⟩:=z4 R_C.out;obtain⟨mG0,mG1,mG2,mG3,mG4,mG5,mG6⟩:=c7 R_G.out;obtain⟨yG0,yG1,yG2,yG3,yG4,yG5,yG6⟩:=z7 R_G.out;clear hb hR2);have hq:=AI R_J.out (.string s) (.int .i64 (A2:Int)) (.int .i64 e2) (.int .i64 p2);obtain⟨W7,hP_W7⟩:∃W,(((W6.setCell ⟨J,0,none⟩ (.string s)).setCell ⟨J,1,none⟩ (.int .i64 (A2:Int))).setCell ⟨J,2,none⟩ (.int .i64 e2)).setCell ⟨J,3,none⟩ (.int .i64 p2)=W:=⟨_,rfl⟩
       rw[hP_W7]at hq;try rw[hP_W7]
       replace R_C:=A6 (hq.2.row R_C.out hC_J)
       replace R_D:=A6 (hq.2.row R_D.out hD_J)
       replace R_F:=A6 (hq.2.row R_F.out hF_J)
       replace R_G:=A6 (hq.2.row R_G.out hG_J)
       replace R_J:=A6 hq.1
       replace HBW:=A6 (HBW.trans (hq.2.bel C HC_J.out))
       clear hq;clear hP_W7;have hq:=AI R_C.out (.string s) (.int .i64 (A2:Int)) (.int .i64 e2) (.int .i64 p2);obtain⟨W8,hP_W8⟩:∃W,(((W7.setCell ⟨C,0,none⟩ (.string s)).setCell ⟨C,1,none⟩ (.int .i64 (A2:Int))).setCell ⟨C,2,none⟩ (.int .i64 e2)).setCell ⟨C,3,none⟩ (.int .i64 p2)=W:=⟨_,rfl⟩
       rw[hP_W8]at hq;try rw[hP_W8]
       replace R_D:=A6 (hq.2.row R_D.out hD_C)
       replace R_F:=A6 (hq.2.row R_F.out hF_C)
       replace R_G:=A6 (hq.2.row R_G.out hG_C)
       replace R_J:=A6 (hq.2.row R_J.out hJ_C)
       replace R_C:=A6 hq.1
       replace HBW:=A6 (HBW.trans (hq.2.bel C HC_C.out))
       clear hq;clear hP_W8;have hq:=PJ R_G.out (.int .i64 (n2:Int));obtain⟨W9,hP_W9⟩:∃W,W8.setCell ⟨G,3,none⟩ (.int .i64 (n2:Int))=W:=⟨_,rfl⟩
       rw[hP_W9]at hq;try rw[hP_W9]
       replace R_C:=A6 (hq.2.row R_C.out hC_G)
       replace R_D:=A6 (hq.2.row R_D.out hD_G)
       replace R_F:=A6 (hq.2.row R_F.out hF_G)
       replace R_J:=A6 (hq.2.row R_J.out hJ_G)
       replace R_G:=A6 hq.1
       replace HBW:=A6 (HBW.trans (hq.2.bel C HC_G.out))
       clear hq;clear hP_W9;obtain⟨hz0,hz1,hz2,hz3,hz4⟩:=HZ.out;have HNX:Hid (DV s A e p x1 C D F G w 3 W9):=⟨A2,e2,p2,d,a,(n2:Int),c,n,R_C,R_D,R_F,R_G,HBW,A6 (HR2.le fun _=>HAK0.out),fun A' e' p' y h=>HCT.out A' e' p' y (Pj HYES.out HR2.out h),fun h=>absurd h dE,fun h=>absurd h dE,fun h=>absurd h dE,fun h=>hz3 oM,fun h=>hz4 oM⟩
       clear cC0 cC1 cC2 cC3 mJ0 mJ1 mJ2 mJ3 yJ0 yJ1 yJ2 yJ3 mC0 mC1 mC2 mC3 yC0 yC1 yC2 yC3 mG0 mG1 mG2 mG3 mG4 mG5 mG6 yG0 yG1 yG2 yG3 yG4 yG5 yG6;clear hz0 hz1 hz2 hz3 hz4;go_roundw
       case rel=>exact⟨3,dE,rfl,HNX⟩
       case measure=>simp[intOf]
     .exact Q6
    .obtain⟨Ak,ek,pk,d,a,b,c,n,R_C,R_D,R_F,R_G,HBW,HAK,HCT,HZ⟩:=HJ.out;clear HJ;clear HCV;have HCV:Hid (C<=wr.heap.size):=Nat.le_of_lt R_C.lt;obtain⟨cC0,cC1,cC2,cC3⟩:=c4 R_C.out;by_cases he:ek=0
     .subst he;by_cases hq:(n3:Int)=45
      .have q2:((n3:Int)==45)=true:=by simpa using hq
       have HNO:Hid (FZ x1=false):=by
        show FZ x1=false;cases hnm:FZ x1 with
        |false=>rfl
        |true=>exact absurd hq (HM3.2 hnm)
       obtain⟨hz0,hz1,hz2,hz3,hz4⟩:=HZ.out;have hzk:c=0:=hz3 oM;subst hzk;have HNX:Hid (DV s A e p x1 C D F G w 4 wr):=⟨Ak,0,pk,d,a,b,0,n,R_C,R_D,R_F,R_G,HBW,HAK,fun A' e' p' y h=>HCT.out A' e' p' y (Qn HNO.out h),fun h=>hz0 oM,fun h=>hz1 oM,fun h=>hz2 oM,fun h=>rfl,fun h=>hz4 oM⟩
       clear hq hz0 hz1 hz2 hz3 hz4;go_wp2_with fail;go_roundw
       case rel=>exact⟨4,dE,rfl,HNX⟩
       case measure=>simp[intOf]
      .have q2:((n3:Int)==45)=false:=by simpa using hq
       have HYES:=A6 (HM3.out.1 hq);clear hq;have KN:Hid (∀v,Calls prog 59 #[.agg #[.string s,.int .i64 (Ak:Int),.int .i64 0,.int .i64 pk],.int .i64 (-1)] v (BZ v.heap.size v s Ak 0 pk (BJ (-1)) (fun(n:Nat)=>.int .i64 (n:Int)) (fun n=>n<2^63))):=fun v=>Bt s Ak 0 pk (-1) v HAK.out HS.out;unfold BZ at KN;have HAK0:Hid (Ak<=s.size):=HAK.out rfl;go_wp2_with(go_at_call 59;(with_reducible refine(KN.out _).mono ?_);rintro r9 w7 ⟨A2,e2,p2,n2,rfl,-,hR2,hb⟩;replace R_C:=A6 (R_C.out.of_block (hb.block _ R_C.out.lt));replace R_D:=A6 (R_D.out.of_block (hb.block _ R_D.out.lt));replace R_F:=A6 (R_F.out.of_block (hb.block _ R_F.out.lt));replace R_G:=A6 (R_G.out.of_block (hb.block _ R_G.out.lt));replace HBW:=A6 (HBW.out.trans (hb.mono HCV.out));have HR2:=A6 hR2;obtain⟨J,hS_J⟩:∃N,w7.heap.size=N:=⟨_,rfl⟩;obtain⟨W6,hA_J⟩:∃W,w7.alloc (.cells #[.string ⟨#[]⟩,.int .i64 0,.int .i64 0,.int .i64 0] 78)=W:=⟨_,rfl⟩;have hC_J:C≠J:=F2;have hJ_C:=hC_J.symm;have hD_J:D≠J:=JX;have hJ_D:=hD_J.symm;have hF_J:F≠J:=Np;have hJ_F:=hF_J.symm;have hG_J:G≠J:=P3;have hJ_G:=hG_J.symm;have HC_J:Hid (C<=J):=No;have r9:W6.rowIs J 78 4 (f4 (.string ⟨#[]⟩) (.int .i64 0) (.int .i64 0) (.int .i64 0)):=Nw;have R_J:=A6 r9;replace HBW:=A6 (HBW.out.trans (BI hA_J (Nat.le_of_lt R_C.out.lt)));replace R_C:=A6 (Ai R_C.out hA_J);replace R_D:=A6 (Ai R_D.out hA_J);replace R_F:=A6 (Ai R_F.out hA_J);replace R_G:=A6 (Ai R_G.out hA_J);clear r9;obtain⟨mJ0,mJ1,mJ2,mJ3⟩:=c4 R_J.out;obtain⟨yJ0,yJ1,yJ2,yJ3⟩:=z4 R_J.out;obtain⟨mC0,mC1,mC2,mC3⟩:=c4 R_C.out;obtain⟨yC0,yC1,yC2,yC3⟩:=z4 R_C.out;obtain⟨mG0,mG1,mG2,mG3,mG4,mG5,mG6⟩:=c7 R_G.out;obtain⟨yG0,yG1,yG2,yG3,yG4,yG5,yG6⟩:=z7 R_G.out;clear hb hR2);have hq:=AI R_J.out (.string s) (.int .i64 (A2:Int)) (.int .i64 e2) (.int .i64 p2);obtain⟨W7,hP_W7⟩:∃W,(((W6.setCell ⟨J,0,none⟩ (.string s)).setCell ⟨J,1,none⟩ (.int .i64 (A2:Int))).setCell ⟨J,2,none⟩ (.int .i64 e2)).setCell ⟨J,3,none⟩ (.int .i64 p2)=W:=⟨_,rfl⟩
       rw[hP_W7]at hq;try rw[hP_W7]
       replace R_C:=A6 (hq.2.row R_C.out hC_J)
       replace R_D:=A6 (hq.2.row R_D.out hD_J)
       replace R_F:=A6 (hq.2.row R_F.out hF_J)
       replace R_G:=A6 (hq.2.row R_G.out hG_J)
       replace R_J:=A6 hq.1
       replace HBW:=A6 (HBW.trans (hq.2.bel C HC_J.out))
       clear hq;clear hP_W7;have hq:=AI R_C.out (.string s) (.int .i64 (A2:Int)) (.int .i64 e2) (.int .i64 p2);obtain⟨W8,hP_W8⟩:∃W,(((W7.setCell ⟨C,0,none⟩ (.string s)).setCell ⟨C,1,none⟩ (.int .i64 (A2:Int))).setCell ⟨C,2,none⟩ (.int .i64 e2)).setCell ⟨C,3,none⟩ (.int .i64 p2)=W:=⟨_,rfl⟩
       rw[hP_W8]at hq;try rw[hP_W8]
       replace R_D:=A6 (hq.2.row R_D.out hD_C)
       replace R_F:=A6 (hq.2.row R_F.out hF_C)
       replace R_G:=A6 (hq.2.row R_G.out hG_C)
       replace R_J:=A6 (hq.2.row R_J.out hJ_C)
       replace R_C:=A6 hq.1
       replace HBW:=A6 (HBW.trans (hq.2.bel C HC_C.out))
       clear hq;clear hP_W8;have hq:=PK R_G.out (.int .i64 (n2:Int));obtain⟨W9,hP_W9⟩:∃W,W8.setCell ⟨G,4,none⟩ (.int .i64 (n2:Int))=W:=⟨_,rfl⟩
       rw[hP_W9]at hq;try rw[hP_W9]
       replace R_C:=A6 (hq.2.row R_C.out hC_G)
       replace R_D:=A6 (hq.2.row R_D.out hD_G)
       replace R_F:=A6 (hq.2.row R_F.out hF_G)
       replace R_J:=A6 (hq.2.row R_J.out hJ_G)
       replace R_G:=A6 hq.1
       replace HBW:=A6 (HBW.trans (hq.2.bel C HC_G.out))
       clear hq;clear hP_W9;obtain⟨hz0,hz1,hz2,hz3,hz4⟩:=HZ.out;have HNX:Hid (DV s A e p x1 C D F G w 4 W9):=⟨A2,e2,p2,d,a,b,(n2:Int),n,R_C,R_D,R_F,R_G,HBW,A6 (HR2.le fun _=>HAK0.out),fun A' e' p' y h=>HCT.out A' e' p' y (Pk HYES.out HR2.out h),fun h=>absurd h dE,fun h=>absurd h dE,fun h=>absurd h dE,fun h=>absurd h dE,fun h=>hz4 oM⟩
       clear cC0 cC1 cC2 cC3 mJ0 mJ1 mJ2 mJ3 yJ0 yJ1 yJ2 yJ3 mC0 mC1 mC2 mC3 yC0 yC1 yC2 yC3 mG0 mG1 mG2 mG3 mG4 mG5 mG6 yG0 yG1 yG2 yG3 yG4 yG5 yG6;clear hz0 hz1 hz2 hz3 hz4;go_roundw
       case rel=>exact⟨4,dE,rfl,HNX⟩
       case measure=>simp[intOf]
     .exact Q6
    .obtain⟨Ak,ek,pk,d,a,b,c,n,R_C,R_D,R_F,R_G,HBW,HAK,HCT,HZ⟩:=HJ.out;clear HJ;clear HCV;have HCV:Hid (C<=wr.heap.size):=Nat.le_of_lt R_C.lt;obtain⟨cC0,cC1,cC2,cC3⟩:=c4 R_C.out;by_cases he:ek=0
     .subst he;by_cases hq:(n4:Int)=45
      .have q2:((n4:Int)==45)=true:=by simpa using hq
       have HNO:Hid (EB x1=false):=by
        show EB x1=false;cases hnm:EB x1 with
        |false=>rfl
        |true=>exact absurd hq (HM4.2 hnm)
       obtain⟨hz0,hz1,hz2,hz3,hz4⟩:=HZ.out;have hzk:n=0:=hz4 oM;subst hzk;have HNX:Hid (DV s A e p x1 C D F G w 5 wr):=⟨Ak,0,pk,d,a,b,c,0,R_C,R_D,R_F,R_G,HBW,HAK,fun A' e' p' y h=>HCT.out A' e' p' y (Qo HNO.out h),fun h=>hz0 oM,fun h=>hz1 oM,fun h=>hz2 oM,fun h=>hz3 oM,fun h=>rfl⟩
       clear hq hz0 hz1 hz2 hz3 hz4;go_wp2_with fail;go_roundw
       case rel=>exact⟨5,dE,rfl,HNX⟩
       case measure=>simp[intOf]
      .have q2:((n4:Int)==45)=false:=by simpa using hq
       have HYES:=A6 (HM4.out.1 hq);clear hq;have KN:Hid (∀v,Calls prog 59 #[.agg #[.string s,.int .i64 (Ak:Int),.int .i64 0,.int .i64 pk],.int .i64 (-1)] v (BZ v.heap.size v s Ak 0 pk (BJ (-1)) (fun(n:Nat)=>.int .i64 (n:Int)) (fun n=>n<2^63))):=fun v=>Bt s Ak 0 pk (-1) v HAK.out HS.out;unfold BZ at KN;have HAK0:Hid (Ak<=s.size):=HAK.out rfl;go_wp2_with(go_at_call 59;(with_reducible refine(KN.out _).mono ?_);rintro r9 w7 ⟨A2,e2,p2,n2,rfl,-,hR2,hb⟩;replace R_C:=A6 (R_C.out.of_block (hb.block _ R_C.out.lt));replace R_D:=A6 (R_D.out.of_block (hb.block _ R_D.out.lt));replace R_F:=A6 (R_F.out.of_block (hb.block _ R_F.out.lt));replace R_G:=A6 (R_G.out.of_block (hb.block _ R_G.out.lt));replace HBW:=A6 (HBW.out.trans (hb.mono HCV.out));have HR2:=A6 hR2;obtain⟨J,hS_J⟩:∃N,w7.heap.size=N:=⟨_,rfl⟩;obtain⟨W6,hA_J⟩:∃W,w7.alloc (.cells #[.string ⟨#[]⟩,.int .i64 0,.int .i64 0,.int .i64 0] 78)=W:=⟨_,rfl⟩;have hC_J:C≠J:=F2;have hJ_C:=hC_J.symm;have hD_J:D≠J:=JX;have hJ_D:=hD_J.symm;have hF_J:F≠J:=Np;have hJ_F:=hF_J.symm;have hG_J:G≠J:=P3;have hJ_G:=hG_J.symm;have HC_J:Hid (C<=J):=No;have r9:W6.rowIs J 78 4 (f4 (.string ⟨#[]⟩) (.int .i64 0) (.int .i64 0) (.int .i64 0)):=Nw;have R_J:=A6 r9;replace HBW:=A6 (HBW.out.trans (BI hA_J (Nat.le_of_lt R_C.out.lt)));replace R_C:=A6 (Ai R_C.out hA_J);replace R_D:=A6 (Ai R_D.out hA_J);replace R_F:=A6 (Ai R_F.out hA_J);replace R_G:=A6 (Ai R_G.out hA_J);clear r9;obtain⟨mJ0,mJ1,mJ2,mJ3⟩:=c4 R_J.out;obtain⟨yJ0,yJ1,yJ2,yJ3⟩:=z4 R_J.out;obtain⟨mC0,mC1,mC2,mC3⟩:=c4 R_C.out;obtain⟨yC0,yC1,yC2,yC3⟩:=z4 R_C.out;obtain⟨mG0,mG1,mG2,mG3,mG4,mG5,mG6⟩:=c7 R_G.out;obtain⟨yG0,yG1,yG2,yG3,yG4,yG5,yG6⟩:=z7 R_G.out;clear hb hR2);have hq:=AI R_J.out (.string s) (.int .i64 (A2:Int)) (.int .i64 e2) (.int .i64 p2);obtain⟨W7,hP_W7⟩:∃W,(((W6.setCell ⟨J,0,none⟩ (.string s)).setCell ⟨J,1,none⟩ (.int .i64 (A2:Int))).setCell ⟨J,2,none⟩ (.int .i64 e2)).setCell ⟨J,3,none⟩ (.int .i64 p2)=W:=⟨_,rfl⟩
       rw[hP_W7]at hq;try rw[hP_W7]
       replace R_C:=A6 (hq.2.row R_C.out hC_J)
       replace R_D:=A6 (hq.2.row R_D.out hD_J)
       replace R_F:=A6 (hq.2.row R_F.out hF_J)
       replace R_G:=A6 (hq.2.row R_G.out hG_J)
       replace R_J:=A6 hq.1
       replace HBW:=A6 (HBW.trans (hq.2.bel C HC_J.out))
       clear hq;clear hP_W7;have hq:=AI R_C.out (.string s) (.int .i64 (A2:Int)) (.int .i64 e2) (.int .i64 p2);obtain⟨W8,hP_W8⟩:∃W,(((W7.setCell ⟨C,0,none⟩ (.string s)).setCell ⟨C,1,none⟩ (.int .i64 (A2:Int))).setCell ⟨C,2,none⟩ (.int .i64 e2)).setCell ⟨C,3,none⟩ (.int .i64 p2)=W:=⟨_,rfl⟩
       rw[hP_W8]at hq;try rw[hP_W8]
       replace R_D:=A6 (hq.2.row R_D.out hD_C)
       replace R_F:=A6 (hq.2.row R_F.out hF_C)
       replace R_G:=A6 (hq.2.row R_G.out hG_C)
       replace R_J:=A6 (hq.2.row R_J.out hJ_C)
       replace R_C:=A6 hq.1
       replace HBW:=A6 (HBW.trans (hq.2.bel C HC_C.out))
       clear hq;clear hP_W8;have hq:=PM R_G.out (.int .i64 (n2:Int));obtain⟨W9,hP_W9⟩:∃W,W8.setCell ⟨G,5,none⟩ (.int .i64 (n2:Int))=W:=⟨_,rfl⟩
       rw[hP_W9]at hq;try rw[hP_W9]
       replace R_C:=A6 (hq.2.row R_C.out hC_G)
       replace R_D:=A6 (hq.2.row R_D.out hD_G)
       replace R_F:=A6 (hq.2.row R_F.out hF_G)
       replace R_J:=A6 (hq.2.row R_J.out hJ_G)
       replace R_G:=A6 hq.1
       replace HBW:=A6 (HBW.trans (hq.2.bel C HC_G.out))
       clear hq;clear hP_W9;obtain⟨hz0,hz1,hz2,hz3,hz4⟩:=HZ.out;have HNX:Hid (DV s A e p x1 C D F G w 5 W9):=⟨A2,e2,p2,d,a,b,c,(n2:Int),R_C,R_D,R_F,R_G,HBW,A6 (HR2.le fun _=>HAK0.out),fun A' e' p' y h=>HCT.out A' e' p' y (Pl HYES.out HR2.out h),fun h=>absurd h dE,fun h=>absurd h dE,fun h=>absurd h dE,fun h=>absurd h dE,fun h=>absurd h dE⟩
       clear cC0 cC1 cC2 cC3 mJ0 mJ1 mJ2 mJ3 yJ0 yJ1 yJ2 yJ3 mC0 mC1 mC2 mC3 yC0 yC1 yC2 yC3 mG0 mG1 mG2 mG3 mG4 mG5 mG6 yG0 yG1 yG2 yG3 yG4 yG5 yG6;clear hz0 hz1 hz2 hz3 hz4;go_roundw
       case rel=>exact⟨5,dE,rfl,HNX⟩
       case measure=>simp[intOf]
     .exact Q6
    .obtain⟨Ak,ek,pk,d,a,b,c,n,R_C,R_D,R_F,R_G,HBW,HAK,HCT,HZ⟩:=HJ.out;clear HJ;clear HCV;have HCV:Hid (C<=wr.heap.size):=Nat.le_of_lt R_C.lt;have HFIN:Hid (DV s A e p x1 C D F G w 5 wr):=⟨Ak,ek,pk,d,a,b,c,n,R_C,R_D,R_F,R_G,HBW,HAK,HCT,HZ⟩
     go_wp2_with fail;go_meet;exact HFIN
 case rest=>
  clear R_C R_D R_F R_G HBW HCV;obtain⟨Ak,ek,pk,d,a,b,c,n,R_C,R_D,R_F,R_G,HBW,HAK,HCT,HZ⟩:=hcut.out;clear hcut;have HCV:Hid (C<=wc.heap.size):=Nat.le_of_lt R_C.lt;by_cases ho:x1=1
  ·--{18
   have q3:((x1:Int)==1)=true:=by rw[ho];rfl
   have HO:=A6 ho;clear ho;have KS:Hid (∀v,Calls prog 29 #[.agg #[.string s,.int .i64 (Ak:Int),.int .i64 ek,.int .i64 pk],.int .i64 4] v (BZ v.heap.size v s Ak ek pk (CZ 4) (fun t=>.string t) (fun t=>t.size<=4))):=fun v=>DQ s Ak ek pk 4 v HAK.out HS.out dE;unfold BZ at KS;obtain⟨cC0,cC1,cC2,cC3⟩:=c4 R_C.out;go_upto_region 22 with(go_at_call 29;(with_reducible refine(KS.out _).mono ?_);rintro r9 w7 ⟨A3,e3,p3,t3,rfl,ht3,hR3,hb⟩;replace R_C:=A6 (R_C.out.of_block (hb.block _ R_C.out.lt));replace R_D:=A6 (R_D.out.of_block (hb.block _ R_D.out.lt));replace R_F:=A6 (R_F.out.of_block (hb.block _ R_F.out.lt));replace R_G:=A6 (R_G.out.of_block (hb.block _ R_G.out.lt));replace HBW:=A6 (HBW.out.trans (hb.mono HCV.out));have HR3:=A6 hR3;have HT3:=A6 ht3;obtain⟨L,hS_L⟩:∃N,w7.heap.size=N:=⟨_,rfl⟩;obtain⟨W6,hA_L⟩:∃W,w7.alloc (.cells #[.string ⟨#[]⟩,.int .i64 0,.int .i64 0,.int .i64 0] 78)=W:=⟨_,rfl⟩;have hC_L:C≠L:=F2;have hL_C:=hC_L.symm;have hD_L:D≠L:=JX;have hL_D:=hD_L.symm;have hF_L:F≠L:=Np;have hL_F:=hF_L.symm;have hG_L:G≠L:=P3;have hL_G:=hG_L.symm;have HC_L:Hid (C<=L):=(by show C<=L;have:=R_C.out.lt;omega);have r9:W6.rowIs L 78 4 (f4 (.string ⟨#[]⟩) (.int .i64 0) (.int .i64 0) (.int .i64 0)):=(by rw[<-hA_L,<-hS_L];exact Br w7 _ _ _ _ _);have R_L:=A6 r9;replace HBW:=A6 (HBW.out.trans (BI hA_L (Nat.le_of_lt R_C.out.lt)));replace R_C:=A6 (Ai R_C.out hA_L);replace R_D:=A6 (Ai R_D.out hA_L);replace R_F:=A6 (Ai R_F.out hA_L);replace R_G:=A6 (Ai R_G.out hA_L);clear r9;obtain⟨mL0,mL1,mL2,mL3⟩:=c4 R_L.out;obtain⟨yL0,yL1,yL2,yL3⟩:=z4 R_L.out;clear hb hR3 ht3)
   have hq:=AI R_L.out (.string s) (.int .i64 (A3:Int)) (.int .i64 e3) (.int .i64 p3);obtain⟨W7,hP_W7⟩:∃W,(((W6.setCell ⟨L,0,none⟩ (.string s)).setCell ⟨L,1,none⟩ (.int .i64 (A3:Int))).setCell ⟨L,2,none⟩ (.int .i64 e3)).setCell ⟨L,3,none⟩ (.int .i64 p3)=W:=⟨_,rfl⟩
   rw[hP_W7]at hq;try rw[hP_W7]
   replace R_C:=A6 (hq.2.row R_C.out hC_L)
   replace R_D:=A6 (hq.2.row R_D.out hD_L)
   replace R_F:=A6 (hq.2.row R_F.out hF_L)
   replace R_G:=A6 (hq.2.row R_G.out hG_L)
   replace R_L:=A6 hq.1
   replace HBW:=A6 (HBW.trans (hq.2.bel C HC_L.out))
   clear hq;clear hP_W7;clear cC0 cC1 cC2 cC3 mL0 mL1 mL2 mL3 yL0 yL1 yL2 yL3;try clear hS_L hA_L
   obtain⟨cL0,cL1,cL2,cL3⟩:=c4 R_L.out;obtain⟨cC0,cC1,cC2,cC3⟩:=c4 R_C.out;obtain⟨zC0,zC1,zC2,zC3⟩:=z4 R_C.out;have hq:=AI R_C.out (.string s) (.int .i64 (A3:Int)) (.int .i64 e3) (.int .i64 p3);obtain⟨W8,hP_W8⟩:∃W,(((W7.setCell ⟨C,0,none⟩ (.string s)).setCell ⟨C,1,none⟩ (.int .i64 (A3:Int))).setCell ⟨C,2,none⟩ (.int .i64 e3)).setCell ⟨C,3,none⟩ (.int .i64 p3)=W:=⟨_,rfl⟩
   rw[hP_W8]at hq
   replace R_D:=A6 (hq.2.row R_D.out hD_C)
   replace R_F:=A6 (hq.2.row R_F.out hF_C)
   replace R_G:=A6 (hq.2.row R_G.out hG_C)
   replace R_L:=A6 (hq.2.row R_L.out hL_C)
   replace R_C:=A6 hq.1
   replace HBW:=A6 (HBW.trans (hq.2.bel C HC_C.out))
   clear hq;have HP_W8:=A6 hP_W8;clear hP_W8;go_upto_region 23 with fail;try rw[HP_W8.out]
   clear HP_W8;clear cL0 cL1 cL2 cL3 cC0 cC1 cC2 cC3 zC0 zC1 zC2 zC3;have KV:=A6 (fun v=>E8 t3 (gH HT3.out dE) v);obtain⟨M,hM⟩:=gA (Bi (Ab t3))
   have hM4:M<256^4:=by
    exact SS
   have wM:IntKind.u32.wrap (M:Int)=(M:Int):=by unfold IntKind.wrap;simp[IntKind.signed,IntKind.bits];omega
   have hfx:=Ja HR3.out;rw[hM]at hfx;have HREL:=A6 (HCT.out _ _ _ _ (NA HO.out hfx));rw[hM]at KV;clear hM hM4 hfx;obtain⟨cG0,cG1,cG2,cG3,cG4,cG5,cG6⟩:=c7 R_G.out;obtain⟨zG0,zG1,zG2,zG3,zG4,zG5,zG6⟩:=z7 R_G.out;go_upto_region 24 with(go_at_call 30;(with_reducible refine(KV.out _).mono ?_);rintro r9 w8 ⟨rfl,hw8⟩;have hw8:=hw8.symm;subst hw8)
   have hq:=PN R_G.out (.int .u32 (M:Int));obtain⟨W9,hP_W9⟩:∃W,W8.setCell ⟨G,6,none⟩ (.int .u32 (M:Int))=W:=⟨_,rfl⟩
   rw[hP_W9]at hq;try rw[hP_W9]
   replace R_C:=A6 (hq.2.row R_C.out hC_G)
   replace R_D:=A6 (hq.2.row R_D.out hD_G)
   replace R_F:=A6 (hq.2.row R_F.out hF_G)
   replace R_L:=A6 (hq.2.row R_L.out hL_G)
   replace R_G:=A6 hq.1
   replace HBW:=A6 (HBW.trans (hq.2.bel C HC_G.out))
   clear hq;clear hP_W9;clear cG0 cG1 cG2 cG3 cG4 cG5 cG6 zG0 zG1 zG2 zG3 zG4 zG5 zG6;obtain⟨cC0,cC1,cC2,cC3⟩:=c4 R_C.out;obtain⟨cG0,cG1,cG2,cG3,cG4,cG5,cG6⟩:=c7 R_G.out;obtain⟨cD0,cD1,cD2,cD3⟩:=c4 R_D.out;obtain⟨cF0,cF1,cF2,cF3,cF4,cF5,cF6⟩:=c7 R_F.out;obtain⟨zD0,zD1,zD2,zD3⟩:=z4 R_D.out;obtain⟨zF0,zF1,zF2,zF3,zF4,zF5,zF6⟩:=z7 R_F.out;have hq:=AI R_D.out (.string s) (.int .i64 (A3:Int)) (.int .i64 e3) (.int .i64 p3);obtain⟨W10,hP_W10⟩:∃W,(((W9.setCell ⟨D,0,none⟩ (.string s)).setCell ⟨D,1,none⟩ (.int .i64 (A3:Int))).setCell ⟨D,2,none⟩ (.int .i64 e3)).setCell ⟨D,3,none⟩ (.int .i64 p3)=W:=⟨_,rfl⟩
   rw[hP_W10]at hq
   replace R_C:=A6 (hq.2.row R_C.out hC_D)
   replace R_F:=A6 (hq.2.row R_F.out hF_D)
   replace R_G:=A6 (hq.2.row R_G.out hG_D)
   replace R_L:=A6 (hq.2.row R_L.out hL_D)
   replace R_D:=A6 hq.1
   replace HBW:=A6 (HBW.trans (hq.2.bel C HC_D.out))
   clear hq;have HP_W10:=A6 hP_W10;clear hP_W10;have hq:=Jo R_F.out (.int .i64 (x1:Int)) (.int .i64 d) (.int .i64 a) (.int .i64 b) (.int .i64 c) (.int .i64 n) (.int .u32 (M:Int));obtain⟨W11,hP_W11⟩:∃W,((((((W10.setCell ⟨F,0,none⟩ (.int .i64 (x1:Int))).setCell ⟨F,1,none⟩ (.int .i64 d)).setCell ⟨F,2,none⟩ (.int .i64 a)).setCell ⟨F,3,none⟩ (.int .i64 b)).setCell ⟨F,4,none⟩ (.int .i64 c)).setCell ⟨F,5,none⟩ (.int .i64 n)).setCell ⟨F,6,none⟩ (.int .u32 (M:Int))=W:=⟨_,rfl⟩
   rw[hP_W11]at hq
   replace R_C:=A6 (hq.2.row R_C.out hC_F)
   replace R_D:=A6 (hq.2.row R_D.out hD_F)
   replace R_G:=A6 (hq.2.row R_G.out hG_F)
   replace R_L:=A6 (hq.2.row R_L.out hL_F)
   replace R_F:=A6 hq.1
   replace HBW:=A6 (HBW.trans (hq.2.bel C HC_F.out))
   clear hq;have HP_W11:=A6 hP_W11;clear hP_W11;obtain⟨l0,l1,l2,l3⟩:=c4 R_D.out;obtain⟨o0,o1,o2,o3,o4,o5,o6⟩:=c7 R_F.out;have HB:Hid (Below w.heap.size w W11.drew):=by show Below _ _ _;rw[HCW.out];exact HBW.drew
   go_wp2_with fail;refine rG (fun v=>v.cell? ⟨C,0,none⟩=some (.string s)/\v.cell? ⟨C,1,none⟩=some (.int .i64 (A3:Int))/\v.cell? ⟨C,2,none⟩=some (.int .i64 e3)/\v.cell? ⟨C,3,none⟩=some (.int .i64 p3)/\v.cell? ⟨G,0,none⟩=some (.int .i64 (x1:Int))/\v.cell? ⟨G,1,none⟩=some (.int .i64 d)/\v.cell? ⟨G,2,none⟩=some (.int .i64 a)/\v.cell? ⟨G,3,none⟩=some (.int .i64 b)/\v.cell? ⟨G,4,none⟩=some (.int .i64 c)/\v.cell? ⟨G,5,none⟩=some (.int .i64 n)/\v.cell? ⟨G,6,none⟩=some (.int .u32 (M:Int))) fun hJ=>?_;refine wpAnyH_take (i:=0) (v:=?_) A8 kR kR kR A9 (Or.inl ⟨rF,?_⟩) Aa ?_
   rotate_left 1
   ·(intro wS hSw;(try dsimp only at hSw);go_simp;try(with_reducible rfl))
   try simp only[Act.put,List.setIfInBounds_toArray,List.set_cons_zero,List.set_cons_succ]
   refine wpAnyH_take (i:=1) (v:=?_) A8 kR kR kR A9 (Or.inl ⟨rF,?_⟩) Aa ?_
   rotate_left 1
   ·(intro wS hSw;(try dsimp only at hSw);go_simp;try(with_reducible rfl))
   try simp only[Act.put,List.setIfInBounds_toArray,List.set_cons_zero,List.set_cons_succ]
   clear hJ;refine AP 2 fun K hK=>?_;go_simp;refine AW hK fun hJ=>?_;clear hK K;clear hJ;refine AP 3 fun K hK=>?_;go_simp;refine AW hK fun hJ=>?_;clear hK K;refine wpAnyH_done kR ?_ _;try rw[HP_W10.out]
   try rw[HP_W11.out]
   go_wp2_with fail;try rw[HP_W10.out]
   try rw[HP_W11.out]
   clear cC0 cC1 cC2 cC3 cG0 cG1 cG2 cG3 cG4 cG5 cG6 cD0 cD1 cD2 cD3 cF0 cF1 cF2 cF3 cF4 cF5 cF6 zD0 zD1 zD2 zD3 zF0 zF1 zF2 zF3 zF4 zF5 zF6;refine bodyPost_ret (by simp[results,results63,go_sem, *];try rfl) rfl ?_;exact⟨A3,e3,p3,⟨(x1:Int),d,a,b,c,n,(M:Int)⟩,rfl,trivial,HREL.out,HB.out⟩
  ·--{19
   have q3:((x1:Int)==1)=false:=beq_eq_false_iff_ne.2 oM;have HREL:=A6 (HCT.out _ _ _ _ (P6 ho));clear ho;obtain⟨cC0,cC1,cC2,cC3⟩:=c4 R_C.out;obtain⟨cG0,cG1,cG2,cG3,cG4,cG5,cG6⟩:=c7 R_G.out;obtain⟨cD0,cD1,cD2,cD3⟩:=c4 R_D.out;obtain⟨cF0,cF1,cF2,cF3,cF4,cF5,cF6⟩:=c7 R_F.out;obtain⟨zD0,zD1,zD2,zD3⟩:=z4 R_D.out;obtain⟨zF0,zF1,zF2,zF3,zF4,zF5,zF6⟩:=z7 R_F.out;have hq:=AI R_D.out (.string s) (.int .i64 (Ak:Int)) (.int .i64 ek) (.int .i64 pk);obtain⟨W6,hP_W6⟩:∃W,(((wc.setCell ⟨D,0,none⟩ (.string s)).setCell ⟨D,1,none⟩ (.int .i64 (Ak:Int))).setCell ⟨D,2,none⟩ (.int .i64 ek)).setCell ⟨D,3,none⟩ (.int .i64 pk)=W:=⟨_,rfl⟩
   rw[hP_W6]at hq
   replace R_C:=A6 (hq.2.row R_C.out hC_D)
   replace R_F:=A6 (hq.2.row R_F.out hF_D)
   replace R_G:=A6 (hq.2.row R_G.out hG_D)
   replace R_D:=A6 hq.1
   replace HBW:=A6 (HBW.trans (hq.2.bel C HC_D.out))
   clear hq;have HP_W6:=A6 hP_W6;clear hP_W6;have hq:=Jo R_F.out (.int .i64 (x1:Int)) (.int .i64 d) (.int .i64 a) (.int .i64 b) (.int .i64 c) (.int .i64 n) (.int .u32 0);obtain⟨W7,hP_W7⟩:∃W,((((((W6.setCell ⟨F,0,none⟩ (.int .i64 (x1:Int))).setCell ⟨F,1,none⟩ (.int .i64 d)).setCell ⟨F,2,none⟩ (.int .i64 a)).setCell ⟨F,3,none⟩ (.int .i64 b)).setCell ⟨F,4,none⟩ (.int .i64 c)).setCell ⟨F,5,none⟩ (.int .i64 n)).setCell ⟨F,6,none⟩ (.int .u32 0)=W:=⟨_,rfl⟩
   rw[hP_W7]at hq
   replace R_C:=A6 (hq.2.row R_C.out hC_F)
   replace R_D:=A6 (hq.2.row R_D.out hD_F)
   replace R_G:=A6 (hq.2.row R_G.out hG_F)
   replace R_F:=A6 hq.1
   replace HBW:=A6 (HBW.trans (hq.2.bel C HC_F.out))
   clear hq;have HP_W7:=A6 hP_W7;clear hP_W7;obtain⟨l0,l1,l2,l3⟩:=c4 R_D.out;obtain⟨o0,o1,o2,o3,o4,o5,o6⟩:=c7 R_F.out;have HB:Hid (Below w.heap.size w W7.drew):=by show Below _ _ _;rw[HCW.out];exact HBW.drew
   go_wp2_with fail;refine rG (fun v=>v.cell? ⟨C,0,none⟩=some (.string s)/\v.cell? ⟨C,1,none⟩=some (.int .i64 (Ak:Int))/\v.cell? ⟨C,2,none⟩=some (.int .i64 ek)/\v.cell? ⟨C,3,none⟩=some (.int .i64 pk)/\v.cell? ⟨G,0,none⟩=some (.int .i64 (x1:Int))/\v.cell? ⟨G,1,none⟩=some (.int .i64 d)/\v.cell? ⟨G,2,none⟩=some (.int .i64 a)/\v.cell? ⟨G,3,none⟩=some (.int .i64 b)/\v.cell? ⟨G,4,none⟩=some (.int .i64 c)/\v.cell? ⟨G,5,none⟩=some (.int .i64 n)/\v.cell? ⟨G,6,none⟩=some (.int .u32 0)) fun hJ=>?_;refine wpAnyH_take (i:=0) (v:=?_) A8 kR kR kR A9 (Or.inl ⟨rF,?_⟩) Aa ?_
   rotate_left 1
   ·(intro wS hSw;(try dsimp only at hSw);go_simp;try(with_reducible rfl))
   try simp only[Act.put,List.setIfInBounds_toArray,List.set_cons_zero,List.set_cons_succ]
   refine wpAnyH_take (i:=1) (v:=?_) A8 kR kR kR A9 (Or.inl ⟨rF,?_⟩) Aa ?_
   rotate_left 1
   ·(intro wS hSw;(try dsimp only at hSw);go_simp;try(with_reducible rfl))
   try simp only[Act.put,List.setIfInBounds_toArray,List.set_cons_zero,List.set_cons_succ]
   clear hJ;refine AP 2 fun K hK=>?_;go_simp;refine AW hK fun hJ=>?_;clear hK K;clear hJ;refine AP 3 fun K hK=>?_;go_simp;refine AW hK fun hJ=>?_;clear hK K;refine wpAnyH_done kR ?_ _;try rw[HP_W6.out]
   try rw[HP_W7.out]
   go_wp2_with fail;try rw[HP_W6.out]
   try rw[HP_W7.out]
   clear cC0 cC1 cC2 cC3 cG0 cG1 cG2 cG3 cG4 cG5 cG6 cD0 cD1 cD2 cD3 cF0 cF1 cF2 cF3 cF4 cF5 cF6 zD0 zD1 zD2 zD3 zF0 zF1 zF2 zF3 zF4 zF5 zF6;refine bodyPost_ret (by simp[results,results63,go_sem, *];try rfl) rfl ?_;exact⟨Ak,ek,pk,⟨(x1:Int),d,a,b,c,n,0⟩,rfl,trivial,HREL.out,HB.out⟩
def Qu(L:Lt):Bool:=decide (L.a=45->L.b=45->L.e=45\/L.e=113)&&(decide (L.a=45->L.b≠45->L.e=45\/L.e=112\/L.e=115)&&decide (L.a≠45->L.e=45\/L.e=105\/L.e=112\/L.e=115))
theorem O6{p:Prop}[Decidable p]{x y:Lt}(h:Qu x=true)(k:Qu y=true):Qu (if p then x else y)=true:=by
 split
 .exact h
 .exact k
theorem NW(op:Int):Qu (C6 op)=true:=by
 unfold C6
 iterate 19 refine O6 dE ?_
 decide
theorem L7(v0 v1 v2 v3:Value)(c:Cd)(co:BF c)(hT:Av c=true)(i:Ar)(h0:0<=i.bits)(h1:i.bits<4294967296)(hk:AB i.op=true)(h2:(i.op==1||i.bits==0)=true)(h3:BO i.bits=true)(w:World)(hv:Ef w v0 v1 v2 v3 c):
 Calls prog 68 #[.agg #[v0,v1,v2,v3],Bn i] w fun e w'=>e=.returned (.bool (CE c i (C6 i.op)))/\Below w.heap.size w w':=by
 have HCAN:Hid (∀w,Calls prog 67 #[.int .u32 i.bits] w fun e w'=>e=.returned (.bool true)/\Below w.heap.size w w'):=by rw[<-h3];exact Cz i.bits h0 h1
 obtain⟨a,b,cc,d,e,⟨ea,eb,ec,ed,ee⟩,hc⟩:=GJ i.op hk;obtain⟨oa,ob,oc,od,oe,oT⟩:=Po i.op;have om:=NW i.op;unfold Qu at om;simp only[Bool.and_eq_true,decide_eq_true_eq]at om;obtain⟨m1,m2,m3⟩:=om;have hF:CE c i (C6 i.op)=(Ap c.regs (C6 i.op).a i.d ⟨0,0⟩&&(Ap c.regs (C6 i.op).b i.a (dR c.regs (C6 i.op).a i.d)&&(Ap c.regs (C6 i.op).c i.b (dR c.regs (C6 i.op).a i.d)&&(Ap c.regs (C6 i.op).d i.c (dR c.regs (C6 i.op).a i.d)&&C7 c (C6 i.op).e i.n (tR c.regs (C6 i.op).a (C6 i.op).b i.d i.a))))):=by
  unfold CE;rw[h2,h3,Bool.true_and,Bool.true_and]
 rw[hF];clear hF h3;have ix0:∀w,(Instr.index 9 (.string ⟨#[a,b,cc,d,e]⟩) (.int .i64 0)).run prog w=.ok (.int .u8 (C6 i.op).a) w:=fun w=>by rw[<-ea];simp[Instr.index,run_underlying underlying9,asIntOf,go_sem];rfl
 have ix1:∀w,(Instr.index 9 (.string ⟨#[a,b,cc,d,e]⟩) (.int .i64 1)).run prog w=.ok (.int .u8 (C6 i.op).b) w:=fun w=>by rw[<-eb];simp[Instr.index,run_underlying underlying9,asIntOf,go_sem];rfl
 have ix2:∀w,(Instr.index 9 (.string ⟨#[a,b,cc,d,e]⟩) (.int .i64 2)).run prog w=.ok (.int .u8 (C6 i.op).c) w:=fun w=>by rw[<-ec];simp[Instr.index,run_underlying underlying9,asIntOf,go_sem];rfl
 have ix3:∀w,(Instr.index 9 (.string ⟨#[a,b,cc,d,e]⟩) (.int .i64 3)).run prog w=.ok (.int .u8 (C6 i.op).d) w:=fun w=>by rw[<-ed];simp[Instr.index,run_underlying underlying9,asIntOf,go_sem];rfl
 have LO:∀w,(Instr.index 9 (.string ⟨#[a,b,cc,d,e]⟩) (.int .i64 4)).run prog w=.ok (.int .u8 (C6 i.op).e) w:=fun w=>by rw[<-ee];simp[Instr.index,run_underlying underlying9,asIntOf,go_sem];rfl
 cases h:(i.op==1)
 .rw[h,Bool.false_or]at h2;have o2:(i.op != 1)=true:=by simpa using h
  have o4:(i.bits != 0)=false:=by simpa using h2
  by_cases hz:(C6 i.op).a=45
  .exact Ok v0 v1 v2 v3 c co hT i.op i.d i.a i.b i.c i.n i.bits _ _ _ _ _ a b cc d e hc HCAN ix0 ix1 ix2 ix3 LO oa ob oc od oT h o2 h2 o4 hz (m1 hz) (m2 hz) w hv
  .exact Ol v0 v1 v2 v3 c co hT i.op i.d i.a i.b i.c i.n i.bits _ _ _ _ _ a b cc d e hc HCAN ix0 ix1 ix2 ix3 LO oa ob oc od oT h o2 h2 o4 hz (m3 hz) w hv
 .have o2:(i.op != 1)=false:=by simpa using h
  have e1:i.op=1:=by simpa using h
  have ha:(C6 i.op).a≠45:=by rw[e1];decide
  have he:(C6 i.op).e=45:=by rw[e1];rfl
  exact Om v0 v1 v2 v3 c co hT i.op i.d i.a i.b i.c i.n i.bits _ _ _ _ _ a b cc d e hc HCAN ix0 ix1 ix2 ix3 LO oa ob oc od oT h o2 ha he w hv
end Go.Proofs.YtnlgkkbmbijndaaGreat
