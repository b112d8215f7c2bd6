import Derived.Test.YtnlgkkbmbijndaaGreatSeal18
import Derived.Deep.DeepCutAuto
import Derived.Test.YtnlgkkbmbijndaaGreatSeal1
namespace Go.Proofs.YtnlgkkbmbijndaaGreat
open Go.RowKit Go.Proofs.Tryz
set_option linter.all false
set_option maxRecDepth 100000
set_option maxHeartbeats 16000000
def Qz(s:List Bd)(r:List Ty)(t:List Sl)(l:List Ar):Pz Cd:=Ax (⟨s,r,t,l⟩:Cd)
def Qy(s:List Bd)(r:List Ty)(t:List Sl):Pz Cd:=Ac (Bq 32768 Cw) fun l=>Qz s r t l
def Qx(s:List Bd)(r:List Ty):Pz Cd:=Ac (Bq 4096 Ff) fun t=>Qy s r t
def Qw(s:List Bd):Pz Cd:=Ac (Bq 16384 Eg) fun r=>Qx s r
def Th:Pz Cd:=Ac (Bq 64 CY) fun s=>Qw s
theorem Fu(m:Nat):BJ (m:Int)=B4 m:=by
 unfold BJ;rw[if_neg oM];rfl
theorem DM{α β:Type}{q:Pz α}{f:List α->Pz β}{most n:Nat}{s:List Nat}{A A1 A':Nat}{e e1 e' p p1 p':Int}{y:β}(h:Af (BJ (most:Int)) s A e A1 e1 p p1 n)(k:Af (Ac (Bb q (n-0) []) f) s A1 e1 A' e' p1 p' y):Af (Ac (Bq most q) f) s A e A' e' p p' y:=by
 rw[Fu]at h;unfold Bq;rw[AV];refine h.bind ?_;rw[Nat.sub_zero,EX]at k;exact k
theorem DN{α β:Type}{q:Pz α}{f:List α->Pz β}{n k:Nat}{xs:List α}{x:α}{s:List Nat}{A A1 A':Nat}{e e1 e' p p1 p':Int}{y:β}(hk:k<n)(h:Af q s A e A1 e1 p p1 x)(h2:Af (Ac (Bb q (n-(k+1)) (xs++[x])) f) s A1 e1 A' e' p1 p' y):Af (Ac (Bb q (n-k) xs) f) s A e A' e' p p' y:=by
 rw[show n-k=(n-(k+1))+1 by omega,Cx,AV];exact h.bind h2
theorem LQ{α β:Type}{q:Pz α}{f:List α->Pz β}{n:Nat}{xs:List α}{s:List Nat}{A A':Nat}{e e' p p':Int}{y:β}(h:Af (f xs) s A e A' e' p p' y):Af (Ac (Bb q (n-n) xs) f) s A e A' e' p p' y:=by
 rw[Nat.sub_self,CV,Bz];exact h
theorem Fj{most n:Nat}{s:ByteArray}{A A1:Nat}{e p p1:Int}(h:Af (BJ (most:Int)) (Ab s) A e A1 0 p p1 n)(hA:e=0->A<=s.size):n<=most:=by
 rw[Fu]at h;obtain⟨he,-⟩:=h.zero rfl (fun h=>by rw[Ah];exact hA h);have h2:=h.2 he (by rw[Ah];exact hA he);unfold B4 at h2;split at h2
 .rename_i hq;split at hq
  .cases hq
  .split at hq
   .cases hq
   .simp only[Except.ok.injEq,Prod.mk.injEq]at hq;have:=h2.2.2.2.2;omega
 .exact absurd h2.2.1.symm h2.1
theorem Og{s:ByteArray}{A A1 A2 A3 A4:Nat}{e e1 e2 e3 e4 p p1 p2 p3 p4:Int}{k n m:Nat}{t:ByteArray}(h1:Af (AO 1 2) (Ab s) A e A1 e1 p p1 k)(h2:Af (BJ ((64:Nat):Int)) (Ab s) A1 e1 A2 e2 p1 p2 n)(h3:Af (CZ n) (Ab s) A2 e2 A3 e3 p2 p3 t)(h4:Af (BJ (-1)) (Ab s) A3 e3 A4 e4 p3 p4 m):Af CY (Ab s) A e A4 e4 p p4 (⟨t,(k:Int),(m:Int)⟩:Bd):=by
 rw[Fu]at h2;unfold CY;refine Af.map (g:=fun(z:Nat×ByteArray×Int)=>(⟨z.2.1,(z.1:Int),z.2.2⟩:Bd)) (x:=(k,t,(m:Int))) (h1.bind ?_);refine Af.map (g:=fun(z:ByteArray×Int)=>(k,z)) (x:=(t,(m:Int))) ?_;refine Af.bind (x:=t) (p1:=p3) (e1:=e3) (A1:=A3) ?_ ?_
 .unfold Hn;exact h2.bind h3
 .refine Af.map (g:=fun(v:Int)=>(t,v)) (x:=(m:Int)) ?_;unfold BE;rw[if_pos rfl];exact Af.map (g:=fun(n:Nat)=>(n:Int)) (x:=m) h4
structure Cb(X C K:Nat)(V W:World):Prop where
 size:X<=W.heap.size
 blk:∀b,b<X->b≠C->b≠K->W.heap[b]? =V.heap[b]?
theorem Cb.refl(C K:Nat)(V:World):Cb V.heap.size C K V V:=⟨gF _,fun _ _ _ _=>rfl⟩
theorem Cb.below{X C K:Nat}{V W W':World}(h:Cb X C K V W)(k:Below W.heap.size W W'):Cb X C K V W':=⟨gH h.size k.size,fun b hb h1 h2=>(k.block b (Nat.lt_of_lt_of_le hb h.size)).trans (h.blk b hb h1 h2)⟩
theorem Cb.alloc{X C K:Nat}{V W W':World}{o:Obj}(h:Cb X C K V W)(k:W.alloc o=W'):Cb X C K V W':=by subst k;exact h.below (A7 _ _)
theorem Cb.put{X C K Y:Nat}{V W W':World}(h:Cb X C K V W)(k:AQ Y W W')(hY:Y=C\/Y=K\/X<=Y):Cb X C K V W':=⟨gH h.size (k.bel 0 (gI _)).size,fun b hb h1 h2=>(k.oth b oM).trans (h.blk b hb h1 h2)⟩
theorem Cb.belowX{X C K:Nat}{V W W':World}(h:Cb X C K V W)(k:Below X W W'):Cb X C K V W':=⟨gH h.size k.size,fun b hb h1 h2=>(k.block b hb).trans (h.blk b hb h1 h2)⟩
theorem Cb.trans{X Y C K:Nat}{U V W:World}(h:Cb X C K U V)(k:Cb Y C K V W)(hXY:X<=Y):Cb X C K U W:=⟨gH hXY k.size,fun b hb h1 h2=>(k.blk b (Nat.lt_of_lt_of_le hb hXY) h1 h2).trans (h.blk b hb h1 h2)⟩
theorem Cb.row{X C K D n:Nat}{V W:World}{t:TypeId}{f:Nat->Value}(h:Cb X C K V W)(r:V.rowIs D t n f)(hX:D<X)(h1:D≠C)(h2:D≠K):W.rowIs D t n f:=r.of_block (h.blk D hX h1 h2)
theorem Cb.own{X C K B k n:Nat}{V W:World}{t:TypeId}{v:Value}{xs:List Value}(h:Cb X C K V W)(r:V.ownsRow B t k v n xs)(hX:V.heap.size<=X)(h1:C<B)(h2:K<B):W.ownsRow B t k v n xs:=Ae r fun b hb=>h.blk b (Nat.lt_of_lt_of_le (r.lt b hb).2 hX) (by have:=(r.lt b hb).1;omega) (by have:=(r.lt b hb).1;omega)
def OX(B:Nat)(w:World)(s:ByteArray)(A:Nat)(e p:Int)(r:Ending)(w':World):Prop:=
 ∃ (A':Nat) (e' p':Int) (l0:List Bd) (p0:Option Addr) (q0:Nat) (l1:List Ty) (p1:Option Addr) (q1:Nat) (l2:List Sl) (p2:Option Addr) (q2:Nat) (l3:List Ar) (p3:Option Addr) (q3:Nat),r=.returned (.tuple #[.agg #[.string s,.int .i64 (A':Int),.int .i64 e',.int .i64 p'],.agg #[.slice p0 l0.length q0,.slice p1 l1.length q1,.slice p2 l2.length q2,.slice p3 l3.length q3]])/\EE B w' (.slice p0 l0.length q0) (.slice p1 l1.length q1) (.slice p2 l2.length q2) (.slice p3 l3.length q3) (⟨l0,l1,l2,l3⟩:Cd)/\Af Bp (Ab s) A e A' e' p p' (⟨l0,l1,l2,l3⟩:Cd)/\Below B w w'
def Tg(s:ByteArray)(A:Nat)(e p:Int)(C D F K:Nat)(w wx:World):Prop:=
 ∃ (Aj:Nat) (ej pj:Int),Hid (wx.rowIs C 78 4 (f4 (.string s) (.int .i64 (Aj:Int)) (.int .i64 ej) (.int .i64 pj)))/\Hid (wx.rowIs D 78 4 (f4 (.string ⟨#[]⟩) (.int .i64 0) (.int .i64 0) (.int .i64 0)))/\Hid (wx.rowIs F 27 4 (f4 (.slice none 0 0) (.slice none 0 0) (.slice none 0 0) (.slice none 0 0)))/\Hid (wx.rowIs K 27 4 (f4 (.slice none 0 0) (.slice none 0 0) (.slice none 0 0) (.slice none 0 0)))/\Hid (Below C w wx)/\Hid (ej=0->Aj<=s.size)/\Hid (∀ (A':Nat) (e' p':Int) (y:Cd),Af (Th) (Ab s) Aj ej A' e' pj p' y->Af Bp (Ab s) A e A' e' p p' y)
def Rj(s:ByteArray)(A:Nat)(e p:Int)(C D F K:Nat)(w wx:World):Prop:=
 ∃ (Aj:Nat) (ej pj:Int) (l0:List Bd) (pp0:Option Addr) (q0:Nat),Hid (wx.rowIs C 78 4 (f4 (.string s) (.int .i64 (Aj:Int)) (.int .i64 ej) (.int .i64 pj)))/\Hid (wx.rowIs D 78 4 (f4 (.string ⟨#[]⟩) (.int .i64 0) (.int .i64 0) (.int .i64 0)))/\Hid (wx.rowIs F 27 4 (f4 (.slice none 0 0) (.slice none 0 0) (.slice none 0 0) (.slice none 0 0)))/\Hid (wx.rowIs K 27 4 (f4 (.slice pp0 l0.length q0) (.slice none 0 0) (.slice none 0 0) (.slice none 0 0)))/\Hid (Below C w wx)/\Hid (ej=0->Aj<=s.size)/\Hid (∀ (A':Nat) (e' p':Int) (y:Cd),Af (Qw l0) (Ab s) Aj ej A' e' pj p' y->Af Bp (Ab s) A e A' e' p p' y)/\Hid (wx.ownsRow (K+1) 59 3 (.slice pp0 l0.length q0) l0.length (AH As l0))
def Rk(s:ByteArray)(A:Nat)(e p:Int)(C D F K:Nat)(w wx:World):Prop:=
 ∃ (Aj:Nat) (ej pj:Int) (l0:List Bd) (pp0:Option Addr) (q0:Nat) (l1:List Ty) (pp1:Option Addr) (q1:Nat),Hid (wx.rowIs C 78 4 (f4 (.string s) (.int .i64 (Aj:Int)) (.int .i64 ej) (.int .i64 pj)))/\Hid (wx.rowIs D 78 4 (f4 (.string ⟨#[]⟩) (.int .i64 0) (.int .i64 0) (.int .i64 0)))/\Hid (wx.rowIs F 27 4 (f4 (.slice none 0 0) (.slice none 0 0) (.slice none 0 0) (.slice none 0 0)))/\Hid (wx.rowIs K 27 4 (f4 (.slice pp0 l0.length q0) (.slice pp1 l1.length q1) (.slice none 0 0) (.slice none 0 0)))/\Hid (Below C w wx)/\Hid (ej=0->Aj<=s.size)/\Hid (∀ (A':Nat) (e' p':Int) (y:Cd),Af (Qx l0 l1) (Ab s) Aj ej A' e' pj p' y->Af Bp (Ab s) A e A' e' p p' y)/\Hid (wx.ownsRow (K+1) 59 3 (.slice pp0 l0.length q0) l0.length (AH As l0))/\Hid (wx.ownsRow (K+1) 62 2 (.slice pp1 l1.length q1) l1.length (AH Ed l1))
def Rl(s:ByteArray)(A:Nat)(e p:Int)(C D F K:Nat)(w wx:World):Prop:=
 ∃ (Aj:Nat) (ej pj:Int) (l0:List Bd) (pp0:Option Addr) (q0:Nat) (l1:List Ty) (pp1:Option Addr) (q1:Nat) (l2:List Sl) (pp2:Option Addr) (q2:Nat),Hid (wx.rowIs C 78 4 (f4 (.string s) (.int .i64 (Aj:Int)) (.int .i64 ej) (.int .i64 pj)))/\Hid (wx.rowIs D 78 4 (f4 (.string ⟨#[]⟩) (.int .i64 0) (.int .i64 0) (.int .i64 0)))/\Hid (wx.rowIs F 27 4 (f4 (.slice none 0 0) (.slice none 0 0) (.slice none 0 0) (.slice none 0 0)))/\Hid (wx.rowIs K 27 4 (f4 (.slice pp0 l0.length q0) (.slice pp1 l1.length q1) (.slice pp2 l2.length q2) (.slice none 0 0)))/\Hid (Below C w wx)/\Hid (ej=0->Aj<=s.size)/\Hid (∀ (A':Nat) (e' p':Int) (y:Cd),Af (Qy l0 l1 l2) (Ab s) Aj ej A' e' pj p' y->Af Bp (Ab s) A e A' e' p p' y)/\Hid (wx.ownsRow (K+1) 59 3 (.slice pp0 l0.length q0) l0.length (AH As l0))/\Hid (wx.ownsRow (K+1) 62 2 (.slice pp1 l1.length q1) l1.length (AH Ed l1))/\Hid (wx.ownsRow (K+1) 66 5 (.slice pp2 l2.length q2) l2.length (AH EP l2))
def Rm(s:ByteArray)(A:Nat)(e p:Int)(C D F K:Nat)(w wx:World):Prop:=
 ∃ (Aj:Nat) (ej pj:Int) (l0:List Bd) (pp0:Option Addr) (q0:Nat) (l1:List Ty) (pp1:Option Addr) (q1:Nat) (l2:List Sl) (pp2:Option Addr) (q2:Nat) (l3:List Ar) (pp3:Option Addr) (q3:Nat),Hid (wx.rowIs C 78 4 (f4 (.string s) (.int .i64 (Aj:Int)) (.int .i64 ej) (.int .i64 pj)))/\Hid (wx.rowIs D 78 4 (f4 (.string ⟨#[]⟩) (.int .i64 0) (.int .i64 0) (.int .i64 0)))/\Hid (wx.rowIs F 27 4 (f4 (.slice none 0 0) (.slice none 0 0) (.slice none 0 0) (.slice none 0 0)))/\Hid (wx.rowIs K 27 4 (f4 (.slice pp0 l0.length q0) (.slice pp1 l1.length q1) (.slice pp2 l2.length q2) (.slice pp3 l3.length q3)))/\Hid (Below C w wx)/\Hid (ej=0->Aj<=s.size)/\Hid (∀ (A':Nat) (e' p':Int) (y:Cd),Af (Qz l0 l1 l2 l3) (Ab s) Aj ej A' e' pj p' y->Af Bp (Ab s) A e A' e' p p' y)/\Hid (wx.ownsRow (K+1) 59 3 (.slice pp0 l0.length q0) l0.length (AH As l0))/\Hid (wx.ownsRow (K+1) 62 2 (.slice pp1 l1.length q1) l1.length (AH Ed l1))/\Hid (wx.ownsRow (K+1) 66 5 (.slice pp2 l2.length q2) l2.length (AH EP l2))/\Hid (wx.ownsRow (K+1) 70 7 (.slice pp3 l3.length q3) l3.length (AH C2 l3))
def g3(a0 a1 a2:Value)(k:Nat):Value:=if k=0 then a0 else if k=1 then a1 else a2
theorem c3{w:World}{b:Nat}{t:TypeId}{a0 a1 a2:Value}(h:w.rowIs b t 3 (g3 a0 a1 a2)):w.cell? ⟨b,0,none⟩=some a0/\w.cell? ⟨b,1,none⟩=some a1/\w.cell? ⟨b,2,none⟩=some a2:=⟨h.cell (i:=0) dE,h.cell (i:=1) dE,h.cell (i:=2) dE⟩
theorem z3{w:World}{b n:Nat}{t:TypeId}{f:Nat->Value}(h:w.rowIs b t n f):w.frozen? ⟨b,0,none⟩=false/\w.frozen? ⟨b,1,none⟩=false/\w.frozen? ⟨b,2,none⟩=false:=⟨h.frozen 0,h.frozen 1,h.frozen 2⟩
theorem KA(s:ByteArray)(A:Nat)(e p:Int)(w:World)(hA:e=0->A<=s.size)(hs:s.size<=281474976710656):
 Calls prog 28 #[.agg #[.string s,.int .i64 (A:Int),.int .i64 e,.int .i64 p]] w (OX w.heap.size w s A e p):=by
 obtain⟨C,hS_C⟩:∃N,w.heap.size=N:=⟨_,rfl⟩
 obtain⟨W0,hA_C⟩:∃W,w.alloc (.cells #[.string s,.int .i64 (A:Int),.int .i64 e,.int .i64 p] 78)=W:=⟨_,rfl⟩
 have r9:W0.rowIs C 78 4 (f4 (.string s) (.int .i64 (A:Int)) (.int .i64 e) (.int .i64 p)):=R6;have R_C:=A6 r9;have HBW:Hid (Below C w W0):=BI hA_C (Nat.le_of_eq hS_C.symm);have HC_C:Hid (C<=C):=gF _;have HCW:=A6 hS_C;clear r9;obtain⟨D,hS_D⟩:∃N,W0.heap.size=N:=⟨_,rfl⟩
 obtain⟨W1,hA_D⟩:∃W,W0.alloc (.cells #[.string ⟨#[]⟩,.int .i64 0,.int .i64 0,.int .i64 0] 78)=W:=⟨_,rfl⟩
 have hC_D:C≠D:=F2;have hD_C:=hC_D.symm;have HC_D:Hid (C<=D):=RU;have r9:W1.rowIs D 78 4 (f4 (.string ⟨#[]⟩) (.int .i64 0) (.int .i64 0) (.int .i64 0)):=RQ;have R_D:=A6 r9
 replace HBW:=A6 (HBW.trans (BI hA_D (Nat.le_of_lt R_C.lt)))
 replace R_C:=A6 (Ai R_C.out hA_D)
 clear r9;obtain⟨F,hS_F⟩:∃N,W1.heap.size=N:=⟨_,rfl⟩
 obtain⟨W2,hA_F⟩:∃W,W1.alloc (.cells #[.slice none 0 0,.slice none 0 0,.slice none 0 0,.slice none 0 0] 27)=W:=⟨_,rfl⟩
 have hC_F:C≠F:=F2;have hF_C:=hC_F.symm;have hD_F:D≠F:=JX;have hF_D:=hD_F.symm;have HC_F:Hid (C<=F):=RR;have r9:W2.rowIs F 27 4 (f4 (.slice none 0 0) (.slice none 0 0) (.slice none 0 0) (.slice none 0 0)):=(by rw[<-hA_F,<-hS_F];exact Br W1 _ _ _ _ _)
 have R_F:=A6 r9
 replace HBW:=A6 (HBW.trans (BI hA_F (Nat.le_of_lt R_C.lt)))
 replace R_C:=A6 (Ai R_C.out hA_F)
 replace R_D:=A6 (Ai R_D.out hA_F)
 clear r9;have HA:=A6 hA;have HS:=A6 hs;clear hA hs;have hc9:=R_C.lt;have hd9:=R_D.lt;have hf9:=R_F.lt;obtain⟨K,hS_K⟩:∃N,W2.heap.size=N:=⟨_,rfl⟩
 obtain⟨W3,hA_K⟩:∃W,W2.alloc (.cells #[.slice none 0 0,.slice none 0 0,.slice none 0 0,.slice none 0 0] 27)=W:=⟨_,rfl⟩
 have hC_K:C≠K:=F2;have hK_C:=hC_K.symm;have hD_K:D≠K:=JX;have hK_D:=hD_K.symm;have hF_K:F≠K:=Np;have hK_F:=hF_K.symm;have HC_K:Hid (C<=K):=(by show C<=K;have:=R_C.lt;omega)
 have r9:W3.rowIs K 27 4 (f4 (.slice none 0 0) (.slice none 0 0) (.slice none 0 0) (.slice none 0 0)):=(by rw[<-hA_K,<-hS_K];exact Br W2 _ _ _ _ _)
 have R_K:=A6 r9
 replace HBW:=A6 (HBW.trans (BI hA_K (Nat.le_of_lt R_C.lt)))
 replace R_C:=A6 (Ai R_C.out hA_K)
 replace R_D:=A6 (Ai R_D.out hA_K)
 replace R_F:=A6 (Ai R_F.out hA_K)
 clear r9;obtain⟨cK0,cK1,cK2,cK3⟩:=c4 R_K.out;obtain⟨zK0,zK1,zK2,zK3⟩:=z4 R_K.out;have HKL:Hid (C<K+1/\D<K+1/\F<K+1):=⟨oM,oM,oM⟩
 clear hc9 hd9 hf9;have hq:=AI R_K.out (.slice none 0 0) (.slice none 0 0) (.slice none 0 0) (.slice none 0 0);obtain⟨W4,hP_W4⟩:∃W,(((W3.setCell ⟨K,0,none⟩ (.slice none 0 0)).setCell ⟨K,1,none⟩ (.slice none 0 0)).setCell ⟨K,2,none⟩ (.slice none 0 0)).setCell ⟨K,3,none⟩ (.slice none 0 0)=W:=⟨_,rfl⟩
 rw[hP_W4]at hq
 replace R_C:=A6 (hq.2.row R_C.out hC_K)
 replace R_D:=A6 (hq.2.row R_D.out hD_K)
 replace R_F:=A6 (hq.2.row R_F.out hF_K)
 replace R_K:=A6 hq.1
 replace HBW:=A6 (HBW.trans (hq.2.bel C HC_K.out))
 clear hq;have HP_W4:=A6 hP_W4;clear hP_W4;go_enter func28,ntmps28;go_upto_region 1 with fail;try rw[hS_C]
 try rw[hA_C]
 try rw[hS_D]
 try rw[hA_D]
 try rw[hS_F]
 try rw[hA_F]
 clear hS_C hA_C hS_D hA_D hS_F hA_F;go_upto_region 2 with fail;try rw[hS_K]
 try rw[hA_K]
 try rw[HP_W4.out]
 clear hS_K hA_K HP_W4;clear cK0 cK1 cK2 cK3 zK0 zK1 zK2 zK3;have HBR:Hid (Tg s A e p C D F K w W4):=⟨A,e,p,R_C,R_D,R_F,R_K,HBW,HA,fun A' e' p' y h=>h⟩
 clear R_C R_D R_F R_K HBW;obtain⟨Aj,ej,pj,R_C,R_D,R_F,R_K,HBW,HAJ,HCT⟩:=HBR.out;clear HBR;have HCV:Hid (C<=W4.heap.size):=Nat.le_of_lt R_C.out.lt;have KN:Hid (∀v,Calls prog 59 #[.agg #[.string s,.int .i64 (Aj:Int),.int .i64 ej,.int .i64 pj],.int .i64 64] v (BZ v.heap.size v s Aj ej pj (BJ ((64:Nat):Int)) (fun(n:Nat)=>.int .i64 (n:Int)) (fun n=>n<2^63))):=fun v=>Bt s Aj ej pj ((64:Nat):Int) v HAJ.out HS.out;unfold BZ at KN;obtain⟨cC0,cC1,cC2,cC3⟩:=c4 R_C.out;go_upto_region 3 with(go_at_call 59;(with_reducible refine(KN.out _).mono ?_);rintro r9 u0 ⟨A1,e1,p1,n,rfl,hn,hR,hb⟩;replace R_C:=A6 (R_C.out.of_block (hb.block _ R_C.out.lt));replace R_D:=A6 (R_D.out.of_block (hb.block _ R_D.out.lt));replace R_F:=A6 (R_F.out.of_block (hb.block _ R_F.out.lt));replace R_K:=A6 (R_K.out.of_block (hb.block _ R_K.out.lt));replace HBW:=A6 (HBW.out.trans (hb.mono HCV.out));have HR:=A6 hR;have HN:=A6 hn;obtain⟨mC0,mC1,mC2,mC3⟩:=c4 R_C.out;obtain⟨yC0,yC1,yC2,yC3⟩:=z4 R_C.out;clear hb hR hn)
 have hKB:C<K+1/\D<K+1/\F<K+1:=HKL.out;have hq:=AI R_C.out (.string s) (.int .i64 (A1:Int)) (.int .i64 e1) (.int .i64 p1);obtain⟨W5,hP_W5⟩:∃W,(((u0.setCell ⟨C,0,none⟩ (.string s)).setCell ⟨C,1,none⟩ (.int .i64 (A1:Int))).setCell ⟨C,2,none⟩ (.int .i64 e1)).setCell ⟨C,3,none⟩ (.int .i64 p1)=W:=⟨_,rfl⟩
 rw[hP_W5]at hq;try rw[hP_W5]
 replace R_D:=A6 (hq.2.row R_D.out hD_C)
 replace R_F:=A6 (hq.2.row R_F.out hF_C)
 replace R_K:=A6 (hq.2.row R_K.out hK_C)
 replace R_C:=A6 hq.1
 replace HBW:=A6 (HBW.trans (hq.2.bel C HC_C.out))
 clear hq;clear hP_W5;clear cC0 cC1 cC2 cC3 mC0 mC1 mC2 mC3 yC0 yC1 yC2 yC3;clear HCV hKB KN;have HA1:=A6 (HR.le HAJ.out);have HCN:Hid (e1=0->n<=64):=fun h0=>by
  subst h0;exact Fj HR.out HAJ.out
 obtain⟨X,hX⟩:=gA (W5.heap.size)
 have HKX:Hid (C<X/\D<X/\F<X/\K<X):=⟨by rw[<-hX];exact R_C.lt,by rw[<-hX];exact R_D.lt,by rw[<-hX];exact R_F.lt,by rw[<-hX];exact R_K.lt⟩
 have HCT0:Hid (∀ (A':Nat) (e' p':Int) (y:Cd),Af (Ac (Bb CY (n-0) []) fun l0=>Qw l0) (Ab s) A1 e1 A' e' p1 p' y->Af Bp (Ab s) A e A' e' p p' y):=fun A' e' p' y h=>HCT.out A' e' p' y (DM HR.out h);have HFX:Hid (Cb X C K W5 W5):=by show Cb X C K _ _;rw[<-hX];exact Cb.refl C K _
 have HXE:=A6 hX;clear hX;go_upto_block 0 with fail;go_cut [6] (fun iv wx=>Hid (Rj s A e p C D F K w wx))
 case first=>
  go_wp2_with fail
  go_loopw [6] (fun iv wx=>∃ (k Ak:Nat) (ek pk:Int) (xs:List Bd) (px:Option Addr) (qx:Nat),k<=n/\iv=.int .i64 (k:Int)/\Hid (xs.length=k)/\Hid (wx.rowIs C 78 4 (f4 (.string s) (.int .i64 (Ak:Int)) (.int .i64 ek) (.int .i64 pk)))/\Hid (wx.rowIs K 27 4 (f4 (.slice px k qx) (.slice none 0 0) (.slice none 0 0) (.slice none 0 0)))/\Hid (Below C w wx)/\Hid (Cb X C K W5 wx)/\Hid (wx.ownsRow X 59 3 (.slice px k qx) k (AH As xs))/\Hid (ek=0->Ak<=s.size)/\Hid (ek=0->n<=64)/\Hid (∀ (A':Nat) (e' p':Int) (y:Cd),Af (Ac (Bb CY (n-k) xs) fun l0=>Qw l0) (Ab s) Ak ek A' e' pk p' y->Af Bp (Ab s) A e A' e' p p' y)) (fun iv _=>n-(intOf iv).toNat)
  case atStart=>exact⟨0,A1,e1,p1,[],none,0,gI _,rfl,rfl,R_C,R_K,HBW,HFX,World.ownsRow_nil _ _ _ 3,HA1,HCN,HCT0⟩
  case round=>
   obtain⟨k,Ak,ek,pk,xs,px,qx,hk,rfl,HLN,Q_C,Q_K,QBW,HFW,HOW,HAK,HNK,HCK⟩:=hrel;by_cases hlt:k<n
   .have e9:(k:Int)<(n:Int):=oM;by_cases he:ek=0
    ·--{1
     subst he;have HAK0:Hid (Ak<=s.size):=HAK.out rfl;have HNK0:Hid (n<=64):=HNK.out rfl;have R_C:=Q_C;have R_K:=Q_K;have HBW:=QBW;have HFR:Hid (Cb wr.heap.size C K wr wr):=Cb.refl C K wr;have HCV:Hid (C<=wr.heap.size):=Nat.le_of_lt R_C.out.lt;have KB:Hid (∀v,Calls prog 60 #[.agg #[.string s,.int .i64 (Ak:Int),.int .i64 0,.int .i64 pk],.int .i64 1,.int .i64 2] v (BZ v.heap.size v s Ak 0 pk (AO 1 2) (fun(n:Nat)=>.int .i64 (n:Int)) (fun n=>n<=2))):=fun v=>Ep s Ak 0 pk 1 2 v (fun _=>HAK0.out) HS.out;unfold BZ at KB;obtain⟨cC0,cC1,cC2,cC3⟩:=c4 R_C.out;go_upto_region 7 with(go_at_call 60;(with_reducible refine(KB.out _).mono ?_);rintro r9 w7 ⟨A3,e3,p3,x1,rfl,-,hR3,hb⟩;replace R_C:=A6 (R_C.out.of_block (hb.block _ R_C.out.lt));replace R_K:=A6 (R_K.out.of_block (hb.block _ R_K.out.lt));replace HBW:=A6 (HBW.out.trans (hb.mono HCV.out));replace HFR:=A6 (HFR.out.below hb);have HR3:=A6 hR3;obtain⟨J,hS_J⟩:∃N,w7.heap.size=N:=⟨_,rfl⟩;obtain⟨W6,hA_J⟩:∃W,w7.alloc (.cells #[.string ⟨#[]⟩,.int .i64 0,.int .i64 0,.int .i64 0] 78)=W:=⟨_,rfl⟩;have hC_J:C≠J:=F2;have hJ_C:=hC_J.symm;have hK_J:K≠J:=P0;have hJ_K:=hK_J.symm;have HC_J:Hid (C<=J):=No;have r9:W6.rowIs J 78 4 (f4 (.string ⟨#[]⟩) (.int .i64 0) (.int .i64 0) (.int .i64 0)):=Nw;have R_J:=A6 r9;replace HBW:=A6 (HBW.out.trans (BI hA_J (Nat.le_of_lt R_C.out.lt)));replace R_C:=A6 (Ai R_C.out hA_J);replace R_K:=A6 (Ai R_K.out hA_J);have HX_J:Hid (wr.heap.size<=J):=Qf;replace HFR:=A6 (HFR.out.alloc hA_J);clear r9;obtain⟨mJ0,mJ1,mJ2,mJ3⟩:=c4 R_J.out;obtain⟨yJ0,yJ1,yJ2,yJ3⟩:=z4 R_J.out;clear hb hR3)
     have hq:=AI R_J.out (.string s) (.int .i64 (A3:Int)) (.int .i64 e3) (.int .i64 p3);obtain⟨W7,hP_W7⟩:∃W,(((W6.setCell ⟨J,0,none⟩ (.string s)).setCell ⟨J,1,none⟩ (.int .i64 (A3:Int))).setCell ⟨J,2,none⟩ (.int .i64 e3)).setCell ⟨J,3,none⟩ (.int .i64 p3)=W:=⟨_,rfl⟩
     rw[hP_W7]at hq;try rw[hP_W7]
     replace R_C:=A6 (hq.2.row R_C.out hC_J)
     replace R_K:=A6 (hq.2.row R_K.out hK_J)
     replace HFR:=A6 (HFR.put hq.2 (.inr (.inr HX_J.out)))
     replace R_J:=A6 hq.1
     replace HBW:=A6 (HBW.trans (hq.2.bel C HC_J.out))
     clear hq;clear hP_W7;clear cC0 cC1 cC2 cC3 mJ0 mJ1 mJ2 mJ3 yJ0 yJ1 yJ2 yJ3;clear HCV KB;have HCV:Hid (C<=W7.heap.size):=Nat.le_of_lt R_C.out.lt;have HA3:=A6 (HR3.out.le fun _=>HAK0.out);have KM:Hid (∀v,Calls prog 59 #[.agg #[.string s,.int .i64 (A3:Int),.int .i64 e3,.int .i64 p3],.int .i64 64] v (BZ v.heap.size v s A3 e3 p3 (BJ ((64:Nat):Int)) (fun(n:Nat)=>.int .i64 (n:Int)) (fun n=>n<2^63))):=fun v=>Bt s A3 e3 p3 ((64:Nat):Int) v HA3.out HS.out;unfold BZ at KM;obtain⟨cJ0,cJ1,cJ2,cJ3⟩:=c4 R_J.out;go_upto_region 8 with(go_at_call 59;(with_reducible refine(KM.out _).mono ?_);rintro r9 w8 ⟨A4,e4,p4,x2,rfl,-,hR4,hb⟩;replace R_C:=A6 (R_C.out.of_block (hb.block _ R_C.out.lt));replace R_K:=A6 (R_K.out.of_block (hb.block _ R_K.out.lt));replace R_J:=A6 (R_J.out.of_block (hb.block _ R_J.out.lt));replace HBW:=A6 (HBW.out.trans (hb.mono HCV.out));replace HFR:=A6 (HFR.out.below hb);have HR4:=A6 hR4;obtain⟨mJ0,mJ1,mJ2,mJ3⟩:=c4 R_J.out;obtain⟨yJ0,yJ1,yJ2,yJ3⟩:=z4 R_J.out;clear hb hR4)
     have hq:=AI R_J.out (.string s) (.int .i64 (A4:Int)) (.int .i64 e4) (.int .i64 p4);obtain⟨W8,hP_W8⟩:∃W,(((w8.setCell ⟨J,0,none⟩ (.string s)).setCell ⟨J,1,none⟩ (.int .i64 (A4:Int))).setCell ⟨J,2,none⟩ (.int .i64 e4)).setCell ⟨J,3,none⟩ (.int .i64 p4)=W:=⟨_,rfl⟩
     rw[hP_W8]at hq;try rw[hP_W8]
     replace R_C:=A6 (hq.2.row R_C.out hC_J)
     replace R_K:=A6 (hq.2.row R_K.out hK_J)
     replace HFR:=A6 (HFR.put hq.2 (.inr (.inr HX_J.out)))
     replace R_J:=A6 hq.1
     replace HBW:=A6 (HBW.trans (hq.2.bel C HC_J.out))
     clear hq;clear hP_W8;clear cJ0 cJ1 cJ2 cJ3 mJ0 mJ1 mJ2 mJ3 yJ0 yJ1 yJ2 yJ3;clear HCV KM;have HCV:Hid (C<=W8.heap.size):=Nat.le_of_lt R_C.lt;have HA4:=A6 (HR4.le HA3.out);have KO:Hid (∀v,Calls prog 29 #[.agg #[.string s,.int .i64 (A4:Int),.int .i64 e4,.int .i64 p4],.int .i64 (x2:Int)] v (BZ v.heap.size v s A4 e4 p4 (CZ x2) (fun t=>.string t) (fun t=>t.size<=x2))):=fun v=>Gl s A4 e4 p4 x2 v HA4.out HS.out fun h0=>by
      subst h0;exact gH (Fj HR4.out HA3.out) dE
     unfold BZ at KO;obtain⟨cJ0,cJ1,cJ2,cJ3⟩:=c4 R_J.out;go_upto_region 9 with(go_at_call 29;(with_reducible refine(KO.out _).mono ?_);rintro r9 w9 ⟨A5,e5,p5,x3,rfl,-,hR5,hb⟩;replace R_C:=A6 (R_C.out.of_block (hb.block _ R_C.out.lt));replace R_K:=A6 (R_K.out.of_block (hb.block _ R_K.out.lt));replace R_J:=A6 (R_J.out.of_block (hb.block _ R_J.out.lt));replace HBW:=A6 (HBW.out.trans (hb.mono HCV.out));replace HFR:=A6 (HFR.out.below hb);have HR5:=A6 hR5;obtain⟨mJ0,mJ1,mJ2,mJ3⟩:=c4 R_J.out;obtain⟨yJ0,yJ1,yJ2,yJ3⟩:=z4 R_J.out;clear hb hR5)
     have hq:=AI R_J.out (.string s) (.int .i64 (A5:Int)) (.int .i64 e5) (.int .i64 p5);obtain⟨W9,hP_W9⟩:∃W,(((w9.setCell ⟨J,0,none⟩ (.string s)).setCell ⟨J,1,none⟩ (.int .i64 (A5:Int))).setCell ⟨J,2,none⟩ (.int .i64 e5)).setCell ⟨J,3,none⟩ (.int .i64 p5)=W:=⟨_,rfl⟩
     rw[hP_W9]at hq;try rw[hP_W9]
     replace R_C:=A6 (hq.2.row R_C.out hC_J)
     replace R_K:=A6 (hq.2.row R_K.out hK_J)
     replace HFR:=A6 (HFR.put hq.2 (.inr (.inr HX_J.out)))
     replace R_J:=A6 hq.1
     replace HBW:=A6 (HBW.trans (hq.2.bel C HC_J.out))
     clear hq;clear hP_W9;clear cJ0 cJ1 cJ2 cJ3 mJ0 mJ1 mJ2 mJ3 yJ0 yJ1 yJ2 yJ3;clear HCV KO;have HCV:Hid (C<=W9.heap.size):=Nat.le_of_lt R_C.out.lt;have HA5:=A6 (HR5.out.le HA4.out);have KQ:Hid (∀v,Calls prog 59 #[.agg #[.string s,.int .i64 (A5:Int),.int .i64 e5,.int .i64 p5],.int .i64 (-1)] v (BZ v.heap.size v s A5 e5 p5 (BJ (-1)) (fun(n:Nat)=>.int .i64 (n:Int)) (fun n=>n<2^63))):=fun v=>Bt s A5 e5 p5 (-1) v HA5.out HS.out;unfold BZ at KQ;obtain⟨cJ0,cJ1,cJ2,cJ3⟩:=c4 R_J.out;go_upto_region 10 with(go_at_call 59;(with_reducible refine(KQ.out _).mono ?_);rintro r9 v9 ⟨A2,e2,p2,x4,rfl,-,hR6,hb⟩;replace R_C:=A6 (R_C.out.of_block (hb.block _ R_C.out.lt));replace R_K:=A6 (R_K.out.of_block (hb.block _ R_K.out.lt));replace R_J:=A6 (R_J.out.of_block (hb.block _ R_J.out.lt));replace HBW:=A6 (HBW.out.trans (hb.mono HCV.out));replace HFR:=A6 (HFR.out.below hb);have HR6:=A6 hR6;obtain⟨mJ0,mJ1,mJ2,mJ3⟩:=c4 R_J.out;obtain⟨yJ0,yJ1,yJ2,yJ3⟩:=z4 R_J.out;clear hb hR6)
     have hq:=AI R_J.out (.string s) (.int .i64 (A2:Int)) (.int .i64 e2) (.int .i64 p2);obtain⟨W10,hP_W10⟩:∃W,(((v9.setCell ⟨J,0,none⟩ (.string s)).setCell ⟨J,1,none⟩ (.int .i64 (A2:Int))).setCell ⟨J,2,none⟩ (.int .i64 e2)).setCell ⟨J,3,none⟩ (.int .i64 p2)=W:=⟨_,rfl⟩
     rw[hP_W10]at hq;try rw[hP_W10]
     replace R_C:=A6 (hq.2.row R_C.out hC_J)
     replace R_K:=A6 (hq.2.row R_K.out hK_J)
     replace HFR:=A6 (HFR.put hq.2 (.inr (.inr HX_J.out)))
     replace R_J:=A6 hq.1
     replace HBW:=A6 (HBW.trans (hq.2.bel C HC_J.out))
     clear hq;clear hP_W10;clear cJ0 cJ1 cJ2 cJ3 mJ0 mJ1 mJ2 mJ3 yJ0 yJ1 yJ2 yJ3;clear HCV KQ;obtain⟨x,hx⟩:∃x:Bd,(⟨x3,(x1:Int),(x4:Int)⟩:Bd)=x:=⟨_,rfl⟩
     have hR2:=Og HR3.out HR4.out HR5.out HR6.out;rw[hx]at hR2;have HR2:=A6 hR2;have HXX:=A6 hx;clear hx hR2;obtain⟨cJ0,cJ1,cJ2,cJ3⟩:=c4 R_J.out;obtain⟨cC0,cC1,cC2,cC3⟩:=c4 R_C.out;obtain⟨zC0,zC1,zC2,zC3⟩:=z4 R_C.out;have hq:=AI R_C.out (.string s) (.int .i64 (A2:Int)) (.int .i64 e2) (.int .i64 p2);obtain⟨W11,hP_W11⟩:∃W,(((W10.setCell ⟨C,0,none⟩ (.string s)).setCell ⟨C,1,none⟩ (.int .i64 (A2:Int))).setCell ⟨C,2,none⟩ (.int .i64 e2)).setCell ⟨C,3,none⟩ (.int .i64 p2)=W:=⟨_,rfl⟩
     rw[hP_W11]at hq
     replace R_K:=A6 (hq.2.row R_K.out hK_C)
     replace R_J:=A6 (hq.2.row R_J.out hJ_C)
     replace HFR:=A6 (HFR.put hq.2 (.inl rfl))
     replace R_C:=A6 hq.1
     replace HBW:=A6 (HBW.trans (hq.2.bel C HC_C.out))
     clear hq;have HP_W11:=A6 hP_W11;clear hP_W11;go_upto_region 11 with fail;try rw[HP_W11.out]
     clear HP_W11;clear cJ0 cJ1 cJ2 cJ3 cC0 cC1 cC2 cC3 zC0 zC1 zC2 zC3;obtain⟨cK0,cK1,cK2,cK3⟩:=c4 R_K.out;have hown:W11.ownsRow X 59 3 (.slice px k qx) k (AH As xs):=Ae HOW.out fun b hb=>HFR.blk b (HOW.lt b hb).2 R5 R3;obtain⟨g,c',w6,a1,a2,a3,a4,-⟩:=BN underlying22 Fr rfl dE hown (gH HFW.size HFR.size) #[.string x3,.int .i64 (x1:Int),.int .i64 (x4:Int)] rfl (fun u hu=>Ho (⟨x3,(x1:Int),(x4:Int)⟩:Bd) u hu) R8 Rc 22;have HRUN:=A6 a1;have HO6:Hid (w6.ownsRow X 59 3 (.slice (some ⟨g,0,none⟩) (k+1) c') (k+1) (AH As (xs++[x]))):=by
      show w6.ownsRow X 59 3 (.slice (some ⟨g,0,none⟩) (k+1) c') (k+1) (AH As (xs++[x]));rw[CP,<-HXX.out];exact a3
     have rC6:=A6 (R_C.of_block (a4 C R_C.lt fun h=>absurd (HOW.lt C h).1 OG));have rK6:=A6 (R_K.of_block (a4 K R_K.lt fun h=>absurd (HOW.lt K h).1 Ra));have HB6:=A6 (HBW.trans (a2.mono OG));have HF6:=A6 ((HFW.trans HFR.out HFW.size).belowX a2);clear R_C R_K HBW hown a1 a2 a3 a4;obtain⟨s0,s1,s2,s3⟩:=c4 rK6.out;obtain⟨z0,z1,z2,z3⟩:=z4 rK6.out;obtain⟨W9,hW9⟩:∃W,w6.setCell ⟨K,0,none⟩ (.slice (some ⟨g,0,none⟩) (k+1) c')=W:=⟨_,rfl⟩
     have hpt:AQ K w6 W9:=by rw[<-hW9];exact AQ.one K 0 w6 _
     have rK9:Hid (W9.rowIs K 27 4 (f4 (.slice (some ⟨g,0,none⟩) (k+1) c') (.slice none 0 0) (.slice none 0 0) (.slice none 0 0))):=by
      show W9.rowIs K _ 4 _;rw[<-hW9];exact(rK6.set 0 _).congr fun j hj=>by
       exact IZ
     have rC9:=A6 (hpt.row rC6.out hC_K);have HB9:=A6 (HB6.trans (hpt.bel C HC_K.out));have HF9:=A6 (HF6.put hpt (.inr (.inl rfl)));have HO9:=A6 (Ae HO6.out fun b hb=>hpt.oth b R4);have HA9:=A6 (HR2.le fun _=>HAK0.out);have HN9:Hid (e2=0->n<=64):=fun _=>HNK0.out;have HL9:Hid ((xs++[x]).length=k+1):=by show _=_;rw[List.length_append,HLN.out];rfl
     have HC9:Hid (∀ (A':Nat) (e' p':Int) (y:Cd),Af (Ac (Bb CY (n-(k+1)) (xs++[x])) fun l0=>Qw l0) (Ab s) A2 e2 A' e' p2 p' y->Af Bp (Ab s) A e A' e' p p' y):=fun A' e' p' y h=>HCK.out A' e' p' y (DN hlt HR2.out h);exact QG
    ·--{2
     have eq9:(ek==0)=false:=beq_eq_false_iff_ne.2 he;have HEK:=A6 he;clear he;have HFIN:Hid (Rj s A e p C D F K w wr):=by
      have hl:xs.length=k:=HLN.out;obtain⟨x1,x2,x3,x4⟩:=HKX.out;obtain⟨y1,y2,y3⟩:=HKL.out;have hC1:C≠K:=hC_K;subst hl;exact⟨Ak,ek,pk,xs,px,qx,Q_C,A6 (HFW.row R_D.out x2 hD_C hD_K),A6 (HFW.row R_F.out x3 hF_C hF_K),Q_K,QBW,HAK,fun A' e' p' y h=>HCK.out A' e' p' y ⟨fun _=>h.1 HEK.out,fun h0=>absurd h0 HEK.out⟩,A6 (B3 HOW.out oM)⟩
     exact QP
   ·--{3
    have e9:¬ (k:Int)<(n:Int):=oM;have hkn:k=n:=oM;have HKN:=A6 hkn;clear hkn;have HFIN:Hid (Rj s A e p C D F K w wr):=by
     have hl:xs.length=k:=HLN.out;obtain⟨x1,x2,x3,x4⟩:=HKX.out;obtain⟨y1,y2,y3⟩:=HKL.out;have hC1:C≠K:=hC_K;subst hl;exact⟨Ak,ek,pk,xs,px,qx,Q_C,A6 (HFW.row R_D.out x2 hD_C hD_K),A6 (HFW.row R_F.out x3 hF_C hF_K),Q_K,QBW,HAK,fun A' e' p' y h=>HCK.out A' e' p' y R9,A6 (B3 HOW.out oM)⟩
    go_wp2_with fail;go_meet;exact HFIN
 case rest=>
 have HBR:=hcut;clear hcut R_C R_D R_F R_K HBW HCT HAJ HR HN HA1 HCN HKX HCT0 HFX HXE;obtain⟨Aj,ej,pj,l0,pp0,q0,R_C,R_D,R_F,R_K,HBW,HAJ,HCT,HO0⟩:=HBR.out;clear HBR;have HCV:Hid (C<=wc.heap.size):=Nat.le_of_lt R_C.out.lt;have KN:Hid (∀v,Calls prog 59 #[.agg #[.string s,.int .i64 (Aj:Int),.int .i64 ej,.int .i64 pj],.int .i64 16384] v (BZ v.heap.size v s Aj ej pj (BJ ((16384:Nat):Int)) (fun(n:Nat)=>.int .i64 (n:Int)) (fun n=>n<2^63))):=fun v=>Bt s Aj ej pj ((16384:Nat):Int) v HAJ.out HS.out;unfold BZ at KN;obtain⟨cC0,cC1,cC2,cC3⟩:=c4 R_C.out;go_upto_region 13 with(go_at_call 59;(with_reducible refine(KN.out _).mono ?_);rintro r9 u1 ⟨A1,e1,p1,n,rfl,hn,hR,hb⟩;replace R_C:=A6 (R_C.out.of_block (hb.block _ R_C.out.lt));replace R_D:=A6 (R_D.out.of_block (hb.block _ R_D.out.lt));replace R_F:=A6 (R_F.out.of_block (hb.block _ R_F.out.lt));replace R_K:=A6 (R_K.out.of_block (hb.block _ R_K.out.lt));replace HBW:=A6 (HBW.out.trans (hb.mono HCV.out));have HR:=A6 hR;have HN:=A6 hn;obtain⟨mC0,mC1,mC2,mC3⟩:=c4 R_C.out;obtain⟨yC0,yC1,yC2,yC3⟩:=z4 R_C.out;replace HO0:=A6 (Ae HO0.out fun b hb2=>hb.block b (HO0.out.lt b hb2).2);clear hb hR hn)
 have hKB:C<K+1/\D<K+1/\F<K+1:=HKL.out;have hq:=AI R_C.out (.string s) (.int .i64 (A1:Int)) (.int .i64 e1) (.int .i64 p1);obtain⟨W5,hP_W5⟩:∃W,(((u1.setCell ⟨C,0,none⟩ (.string s)).setCell ⟨C,1,none⟩ (.int .i64 (A1:Int))).setCell ⟨C,2,none⟩ (.int .i64 e1)).setCell ⟨C,3,none⟩ (.int .i64 p1)=W:=⟨_,rfl⟩
 rw[hP_W5]at hq;try rw[hP_W5]
 replace R_D:=A6 (hq.2.row R_D.out hD_C)
 replace R_F:=A6 (hq.2.row R_F.out hF_C)
 replace R_K:=A6 (hq.2.row R_K.out hK_C)
 replace R_C:=A6 hq.1
 replace HBW:=A6 (HBW.trans (hq.2.bel C HC_C.out))
 replace HO0:=A6 (Ae HO0.out fun b hb2=>hq.2.oth b RV)
 clear hq;clear hP_W5;clear cC0 cC1 cC2 cC3 mC0 mC1 mC2 mC3 yC0 yC1 yC2 yC3;clear HCV hKB KN;have HA1:=A6 (HR.le HAJ.out);have HCN:Hid (e1=0->n<=16384):=fun h0=>by
  subst h0;exact Fj HR.out HAJ.out
 obtain⟨X,hX⟩:=gA (W5.heap.size)
 have HKX:Hid (C<X/\D<X/\F<X/\K<X):=⟨by rw[<-hX];exact R_C.lt,by rw[<-hX];exact R_D.lt,by rw[<-hX];exact R_F.lt,by rw[<-hX];exact R_K.lt⟩
 have HCT0:Hid (∀ (A':Nat) (e' p':Int) (y:Cd),Af (Ac (Bb Eg (n-0) []) fun l1=>Qx l0 l1) (Ab s) A1 e1 A' e' p1 p' y->Af Bp (Ab s) A e A' e' p p' y):=fun A' e' p' y h=>HCT.out A' e' p' y (DM HR.out h);have HFX:Hid (Cb X C K W5 W5):=by show Cb X C K _ _;rw[<-hX];exact Cb.refl C K _
 have HXE:=A6 hX;clear hX;go_upto_block 2 with fail;go_cut [12] (fun iv wx=>Hid (Rk s A e p C D F K w wx))
 case first=>
  go_wp2_with fail
  go_loopw [12] (fun iv wx=>∃ (k Ak:Nat) (ek pk:Int) (xs:List Ty) (px:Option Addr) (qx:Nat),k<=n/\iv=.int .i64 (k:Int)/\Hid (xs.length=k)/\Hid (wx.rowIs C 78 4 (f4 (.string s) (.int .i64 (Ak:Int)) (.int .i64 ek) (.int .i64 pk)))/\Hid (wx.rowIs K 27 4 (f4 (.slice pp0 l0.length q0) (.slice px k qx) (.slice none 0 0) (.slice none 0 0)))/\Hid (Below C w wx)/\Hid (Cb X C K W5 wx)/\Hid (wx.ownsRow X 62 2 (.slice px k qx) k (AH Ed xs))/\Hid (ek=0->Ak<=s.size)/\Hid (ek=0->n<=16384)/\Hid (∀ (A':Nat) (e' p':Int) (y:Cd),Af (Ac (Bb Eg (n-k) xs) fun l1=>Qx l0 l1) (Ab s) Ak ek A' e' pk p' y->Af Bp (Ab s) A e A' e' p p' y)) (fun iv _=>n-(intOf iv).toNat)
  case atStart=>exact⟨0,A1,e1,p1,[],none,0,gI _,rfl,rfl,R_C,R_K,HBW,HFX,World.ownsRow_nil _ _ _ 2,HA1,HCN,HCT0⟩
  case round=>
   obtain⟨k,Ak,ek,pk,xs,px,qx,hk,rfl,HLN,Q_C,Q_K,QBW,HFW,HOW,HAK,HNK,HCK⟩:=hrel;by_cases hlt:k<n
   .have e9:(k:Int)<(n:Int):=oM;by_cases he:ek=0
    ·--{4
     subst he;have HAK0:Hid (Ak<=s.size):=HAK.out rfl;have HNK0:Hid (n<=16384):=HNK.out rfl;have R_C:=Q_C;have R_K:=Q_K;have HBW:=QBW;have HFR:Hid (Cb wr.heap.size C K wr wr):=Cb.refl C K wr;have HCV:Hid (C<=wr.heap.size):=Nat.le_of_lt R_C.out.lt;have KX:Hid (∀v,Calls prog 61 #[.agg #[.string s,.int .i64 (Ak:Int),.int .i64 0,.int .i64 pk]] v (BZ v.heap.size v s Ak 0 pk Eg (fun t=>.agg #[.int .i64 t.kind,.int .i64 t.par]) (fun _=>True))):=fun v=>Hw s Ak 0 pk v (fun _=>HAK0.out) HS.out;unfold BZ at KX;obtain⟨cC0,cC1,cC2,cC3⟩:=c4 R_C.out;go_upto_region 17 with(go_at_call 61;(with_reducible refine(KX.out _).mono ?_);rintro r9 w7 ⟨A2,e2,p2,x,rfl,-,hR2,hb⟩;replace R_C:=A6 (R_C.out.of_block (hb.block _ R_C.out.lt));replace R_K:=A6 (R_K.out.of_block (hb.block _ R_K.out.lt));replace HBW:=A6 (HBW.out.trans (hb.mono HCV.out));replace HFR:=A6 (HFR.out.below hb);have HR2:=A6 hR2;obtain⟨J,hS_J⟩:∃N,w7.heap.size=N:=⟨_,rfl⟩;obtain⟨W6,hA_J⟩:∃W,w7.alloc (.cells #[.string ⟨#[]⟩,.int .i64 0,.int .i64 0,.int .i64 0] 78)=W:=⟨_,rfl⟩;have hC_J:C≠J:=F2;have hJ_C:=hC_J.symm;have hK_J:K≠J:=P0;have hJ_K:=hK_J.symm;have HC_J:Hid (C<=J):=No;have r9:W6.rowIs J 78 4 (f4 (.string ⟨#[]⟩) (.int .i64 0) (.int .i64 0) (.int .i64 0)):=Nw;have R_J:=A6 r9;replace HBW:=A6 (HBW.out.trans (BI hA_J (Nat.le_of_lt R_C.out.lt)));replace R_C:=A6 (Ai R_C.out hA_J);replace R_K:=A6 (Ai R_K.out hA_J);have HX_J:Hid (wr.heap.size<=J):=Qf;replace HFR:=A6 (HFR.out.alloc hA_J);clear r9;obtain⟨E,hS_E⟩:∃N,W6.heap.size=N:=⟨_,rfl⟩;obtain⟨W7,hA_E⟩:∃W,W6.alloc (.cells #[.int .i64 0,.int .i64 0] 62)=W:=⟨_,rfl⟩;have hC_E:C≠E:=F2;have hE_C:=hC_E.symm;have hK_E:K≠E:=P0;have hE_K:=hK_E.symm;have hJ_E:J≠E:=Rb;have hE_J:=hJ_E.symm;have HC_E:Hid (C<=E):=RT;have r9:W7.rowIs E 62 2 (g2 (.int .i64 0) (.int .i64 0)):=(by rw[<-hA_E,<-hS_E];exact GF W6 _ _ _);have R_E:=A6 r9;replace HBW:=A6 (HBW.out.trans (BI hA_E (Nat.le_of_lt R_C.out.lt)));replace R_C:=A6 (Ai R_C.out hA_E);replace R_K:=A6 (Ai R_K.out hA_E);replace R_J:=A6 (Ai R_J.out hA_E);have HX_E:Hid (wr.heap.size<=E):=RW;replace HFR:=A6 (HFR.out.alloc hA_E);clear r9;obtain⟨mJ0,mJ1,mJ2,mJ3⟩:=c4 R_J.out;obtain⟨yJ0,yJ1,yJ2,yJ3⟩:=z4 R_J.out;obtain⟨mE0,mE1⟩:=c2 R_E.out;obtain⟨yE0,yE1⟩:=z2 R_E.out;clear hb hR2)
     have hq:=AI R_J.out (.string s) (.int .i64 (A2:Int)) (.int .i64 e2) (.int .i64 p2);obtain⟨W8,hP_W8⟩:∃W,(((W7.setCell ⟨J,0,none⟩ (.string s)).setCell ⟨J,1,none⟩ (.int .i64 (A2:Int))).setCell ⟨J,2,none⟩ (.int .i64 e2)).setCell ⟨J,3,none⟩ (.int .i64 p2)=W:=⟨_,rfl⟩
     rw[hP_W8]at hq;try rw[hP_W8]
     replace R_C:=A6 (hq.2.row R_C.out hC_J)
     replace R_K:=A6 (hq.2.row R_K.out hK_J)
     replace R_E:=A6 (hq.2.row R_E.out hE_J)
     replace HFR:=A6 (HFR.put hq.2 (.inr (.inr HX_J.out)))
     replace R_J:=A6 hq.1
     replace HBW:=A6 (HBW.trans (hq.2.bel C HC_J.out))
     clear hq;clear hP_W8;have hq:=Hp R_E.out (.int .i64 x.kind) (.int .i64 x.par);obtain⟨W9,hP_W9⟩:∃W,(W8.setCell ⟨E,0,none⟩ (.int .i64 x.kind)).setCell ⟨E,1,none⟩ (.int .i64 x.par)=W:=⟨_,rfl⟩
     rw[hP_W9]at hq;try rw[hP_W9]
     replace R_C:=A6 (hq.2.row R_C.out hC_E)
     replace R_K:=A6 (hq.2.row R_K.out hK_E)
     replace R_J:=A6 (hq.2.row R_J.out hJ_E)
     replace HFR:=A6 (HFR.put hq.2 (.inr (.inr HX_E.out)))
     replace R_E:=A6 hq.1
     replace HBW:=A6 (HBW.trans (hq.2.bel C HC_E.out))
     clear hq;clear hP_W9;clear cC0 cC1 cC2 cC3 mJ0 mJ1 mJ2 mJ3 yJ0 yJ1 yJ2 yJ3 mE0 mE1 yE0 yE1;clear HCV KX;obtain⟨cJ0,cJ1,cJ2,cJ3⟩:=c4 R_J.out;obtain⟨cC0,cC1,cC2,cC3⟩:=c4 R_C.out;obtain⟨zC0,zC1,zC2,zC3⟩:=z4 R_C.out;have hq:=AI R_C.out (.string s) (.int .i64 (A2:Int)) (.int .i64 e2) (.int .i64 p2);obtain⟨W10,hP_W10⟩:∃W,(((W9.setCell ⟨C,0,none⟩ (.string s)).setCell ⟨C,1,none⟩ (.int .i64 (A2:Int))).setCell ⟨C,2,none⟩ (.int .i64 e2)).setCell ⟨C,3,none⟩ (.int .i64 p2)=W:=⟨_,rfl⟩
     rw[hP_W10]at hq
     replace R_K:=A6 (hq.2.row R_K.out hK_C)
     replace R_J:=A6 (hq.2.row R_J.out hJ_C)
     replace R_E:=A6 (hq.2.row R_E.out hE_C)
     replace HFR:=A6 (HFR.put hq.2 (.inl rfl))
     replace R_C:=A6 hq.1
     replace HBW:=A6 (HBW.trans (hq.2.bel C HC_C.out))
     clear hq;have HP_W10:=A6 hP_W10;clear hP_W10;go_upto_region 18 with fail;try rw[HP_W10.out]
     clear HP_W10;clear cJ0 cJ1 cJ2 cJ3 cC0 cC1 cC2 cC3 zC0 zC1 zC2 zC3;obtain⟨cE0,cE1⟩:=c2 R_E.out;obtain⟨cK0,cK1,cK2,cK3⟩:=c4 R_K.out;have hown:W10.ownsRow X 62 2 (.slice px k qx) k (AH Ed xs):=Ae HOW.out fun b hb=>HFR.blk b (HOW.lt b hb).2 R5 R3;obtain⟨g,c',w6,a1,a2,a3,a4,-⟩:=BN underlying23 Ge rfl dE hown (gH HFW.size HFR.size) #[.int .i64 x.kind,.int .i64 x.par] rfl (fun u hu=>JV x u hu) R8 Rc 23;have HRUN:=A6 a1;have HO6:Hid (w6.ownsRow X 62 2 (.slice (some ⟨g,0,none⟩) (k+1) c') (k+1) (AH Ed (xs++[x]))):=by
      show w6.ownsRow X 62 2 (.slice (some ⟨g,0,none⟩) (k+1) c') (k+1) (AH Ed (xs++[x]));rw[CP];exact a3
     have rC6:=A6 (R_C.of_block (a4 C R_C.lt fun h=>absurd (HOW.lt C h).1 OG));have rK6:=A6 (R_K.of_block (a4 K R_K.lt fun h=>absurd (HOW.lt K h).1 Ra));have HB6:=A6 (HBW.trans (a2.mono OG));have HF6:=A6 ((HFW.trans HFR.out HFW.size).belowX a2);clear R_C R_K HBW hown a1 a2 a3 a4;obtain⟨s0,s1,s2,s3⟩:=c4 rK6.out;obtain⟨z0,z1,z2,z3⟩:=z4 rK6.out;obtain⟨W9,hW9⟩:∃W,w6.setCell ⟨K,1,none⟩ (.slice (some ⟨g,0,none⟩) (k+1) c')=W:=⟨_,rfl⟩
     have hpt:AQ K w6 W9:=by rw[<-hW9];exact AQ.one K 1 w6 _
     have rK9:Hid (W9.rowIs K 27 4 (f4 (.slice pp0 l0.length q0) (.slice (some ⟨g,0,none⟩) (k+1) c') (.slice none 0 0) (.slice none 0 0))):=by
      show W9.rowIs K _ 4 _;rw[<-hW9];exact(rK6.set 1 _).congr fun j hj=>by
       exact IZ
     have rC9:=A6 (hpt.row rC6.out hC_K);have HB9:=A6 (HB6.trans (hpt.bel C HC_K.out));have HF9:=A6 (HF6.put hpt (.inr (.inl rfl)));have HO9:=A6 (Ae HO6.out fun b hb=>hpt.oth b R4);have HA9:=A6 (HR2.le fun _=>HAK0.out);have HN9:Hid (e2=0->n<=16384):=fun _=>HNK0.out;have HL9:Hid ((xs++[x]).length=k+1):=by show _=_;rw[List.length_append,HLN.out];rfl
     have HC9:Hid (∀ (A':Nat) (e' p':Int) (y:Cd),Af (Ac (Bb Eg (n-(k+1)) (xs++[x])) fun l1=>Qx l0 l1) (Ab s) A2 e2 A' e' p2 p' y->Af Bp (Ab s) A e A' e' p p' y):=fun A' e' p' y h=>HCK.out A' e' p' y (DN hlt HR2.out h);exact QG
    ·--{5
     have eq9:(ek==0)=false:=beq_eq_false_iff_ne.2 he;have HEK:=A6 he;clear he;have HFIN:Hid (Rk s A e p C D F K w wr):=by
      have hl:xs.length=k:=HLN.out;obtain⟨x1,x2,x3,x4⟩:=HKX.out;obtain⟨y1,y2,y3⟩:=HKL.out;have hC1:C≠K:=hC_K;subst hl;exact⟨Ak,ek,pk,l0,pp0,q0,xs,px,qx,Q_C,A6 (HFW.row R_D.out x2 hD_C hD_K),A6 (HFW.row R_F.out x3 hF_C hF_K),Q_K,QBW,HAK,fun A' e' p' y h=>HCK.out A' e' p' y ⟨fun _=>h.1 HEK.out,fun h0=>absurd h0 HEK.out⟩,A6 (HFW.own HO0.out (Nat.le_of_eq HXE.out) y1 oM),A6 (B3 HOW.out oM)⟩
     exact QP
   ·--{6
    have e9:¬ (k:Int)<(n:Int):=oM;have hkn:k=n:=oM;have HKN:=A6 hkn;clear hkn;have HFIN:Hid (Rk s A e p C D F K w wr):=by
     have hl:xs.length=k:=HLN.out;obtain⟨x1,x2,x3,x4⟩:=HKX.out;obtain⟨y1,y2,y3⟩:=HKL.out;have hC1:C≠K:=hC_K;subst hl;exact⟨Ak,ek,pk,l0,pp0,q0,xs,px,qx,Q_C,A6 (HFW.row R_D.out x2 hD_C hD_K),A6 (HFW.row R_F.out x3 hF_C hF_K),Q_K,QBW,HAK,fun A' e' p' y h=>HCK.out A' e' p' y R9,A6 (HFW.own HO0.out (Nat.le_of_eq HXE.out) y1 oM),A6 (B3 HOW.out oM)⟩
    go_wp2_with fail;go_meet;exact HFIN
 case rest=>
 have HBR:=hcut;clear hcut R_C R_D R_F R_K HBW HCT HAJ HR HN HA1 HCN HKX HCT0 HFX HXE HO0;obtain⟨Aj,ej,pj,l0,pp0,q0,l1,pp1,q1,R_C,R_D,R_F,R_K,HBW,HAJ,HCT,HO0,HO1⟩:=HBR.out;clear HBR;have HCV:Hid (C<=wc.heap.size):=Nat.le_of_lt R_C.out.lt;have KN:Hid (∀v,Calls prog 59 #[.agg #[.string s,.int .i64 (Aj:Int),.int .i64 ej,.int .i64 pj],.int .i64 4096] v (BZ v.heap.size v s Aj ej pj (BJ ((4096:Nat):Int)) (fun(n:Nat)=>.int .i64 (n:Int)) (fun n=>n<2^63))):=fun v=>Bt s Aj ej pj ((4096:Nat):Int) v HAJ.out HS.out;unfold BZ at KN;obtain⟨cC0,cC1,cC2,cC3⟩:=c4 R_C.out;go_upto_region 20 with(go_at_call 59;(with_reducible refine(KN.out _).mono ?_);rintro r9 u2 ⟨A1,e1,p1,n,rfl,hn,hR,hb⟩;replace R_C:=A6 (R_C.out.of_block (hb.block _ R_C.out.lt));replace R_D:=A6 (R_D.out.of_block (hb.block _ R_D.out.lt));replace R_F:=A6 (R_F.out.of_block (hb.block _ R_F.out.lt));replace R_K:=A6 (R_K.out.of_block (hb.block _ R_K.out.lt));replace HBW:=A6 (HBW.out.trans (hb.mono HCV.out));have HR:=A6 hR;have HN:=A6 hn;obtain⟨mC0,mC1,mC2,mC3⟩:=c4 R_C.out;obtain⟨yC0,yC1,yC2,yC3⟩:=z4 R_C.out;replace HO0:=A6 (Ae HO0.out fun b hb2=>hb.block b (HO0.out.lt b hb2).2);replace HO1:=A6 (Ae HO1.out fun b hb2=>hb.block b (HO1.out.lt b hb2).2);clear hb hR hn)
 have hKB:C<K+1/\D<K+1/\F<K+1:=HKL.out;have hq:=AI R_C.out (.string s) (.int .i64 (A1:Int)) (.int .i64 e1) (.int .i64 p1);obtain⟨W5,hP_W5⟩:∃W,(((u2.setCell ⟨C,0,none⟩ (.string s)).setCell ⟨C,1,none⟩ (.int .i64 (A1:Int))).setCell ⟨C,2,none⟩ (.int .i64 e1)).setCell ⟨C,3,none⟩ (.int .i64 p1)=W:=⟨_,rfl⟩
 rw[hP_W5]at hq;try rw[hP_W5]
 replace R_D:=A6 (hq.2.row R_D.out hD_C)
 replace R_F:=A6 (hq.2.row R_F.out hF_C)
 replace R_K:=A6 (hq.2.row R_K.out hK_C)
 replace R_C:=A6 hq.1
 replace HBW:=A6 (HBW.trans (hq.2.bel C HC_C.out))
 replace HO0:=A6 (Ae HO0.out fun b hb2=>hq.2.oth b RV)
 replace HO1:=A6 (Ae HO1.out fun b hb2=>hq.2.oth b (by have:=(HO1.lt b hb2).1;omega))
 clear hq;clear hP_W5;clear cC0 cC1 cC2 cC3 mC0 mC1 mC2 mC3 yC0 yC1 yC2 yC3;clear HCV hKB KN;have HA1:=A6 (HR.le HAJ.out);have HCN:Hid (e1=0->n<=4096):=fun h0=>by
  subst h0;exact Fj HR.out HAJ.out
 obtain⟨X,hX⟩:=gA (W5.heap.size)
 have HKX:Hid (C<X/\D<X/\F<X/\K<X):=⟨by rw[<-hX];exact R_C.lt,by rw[<-hX];exact R_D.lt,by rw[<-hX];exact R_F.lt,by rw[<-hX];exact R_K.lt⟩
 have HCT0:Hid (∀ (A':Nat) (e' p':Int) (y:Cd),Af (Ac (Bb Ff (n-0) []) fun l2=>Qy l0 l1 l2) (Ab s) A1 e1 A' e' p1 p' y->Af Bp (Ab s) A e A' e' p p' y):=fun A' e' p' y h=>HCT.out A' e' p' y (DM HR.out h);have HFX:Hid (Cb X C K W5 W5):=by show Cb X C K _ _;rw[<-hX];exact Cb.refl C K _
 have HXE:=A6 hX;clear hX;go_upto_block 4 with fail;go_cut [15] (fun iv wx=>Hid (Rl s A e p C D F K w wx))
 case first=>
  go_wp2_with fail
  go_loopw [15] (fun iv wx=>∃ (k Ak:Nat) (ek pk:Int) (xs:List Sl) (px:Option Addr) (qx:Nat),k<=n/\iv=.int .i64 (k:Int)/\Hid (xs.length=k)/\Hid (wx.rowIs C 78 4 (f4 (.string s) (.int .i64 (Ak:Int)) (.int .i64 ek) (.int .i64 pk)))/\Hid (wx.rowIs K 27 4 (f4 (.slice pp0 l0.length q0) (.slice pp1 l1.length q1) (.slice px k qx) (.slice none 0 0)))/\Hid (Below C w wx)/\Hid (Cb X C K W5 wx)/\Hid (wx.ownsRow X 66 5 (.slice px k qx) k (AH EP xs))/\Hid (ek=0->Ak<=s.size)/\Hid (ek=0->n<=4096)/\Hid (∀ (A':Nat) (e' p':Int) (y:Cd),Af (Ac (Bb Ff (n-k) xs) fun l2=>Qy l0 l1 l2) (Ab s) Ak ek A' e' pk p' y->Af Bp (Ab s) A e A' e' p p' y)) (fun iv _=>n-(intOf iv).toNat)
  case atStart=>exact⟨0,A1,e1,p1,[],none,0,gI _,rfl,rfl,R_C,R_K,HBW,HFX,World.ownsRow_nil _ _ _ 5,HA1,HCN,HCT0⟩
  case round=>
   obtain⟨k,Ak,ek,pk,xs,px,qx,hk,rfl,HLN,Q_C,Q_K,QBW,HFW,HOW,HAK,HNK,HCK⟩:=hrel;by_cases hlt:k<n
   .have e9:(k:Int)<(n:Int):=oM;by_cases he:ek=0
    ·--{7
     subst he;have HAK0:Hid (Ak<=s.size):=HAK.out rfl;have HNK0:Hid (n<=4096):=HNK.out rfl;have R_C:=Q_C;have R_K:=Q_K;have HBW:=QBW;have HFR:Hid (Cb wr.heap.size C K wr wr):=Cb.refl C K wr;have HCV:Hid (C<=wr.heap.size):=Nat.le_of_lt R_C.out.lt;have KX:Hid (∀v,Calls prog 62 #[.agg #[.string s,.int .i64 (Ak:Int),.int .i64 0,.int .i64 pk]] v (BZ v.heap.size v s Ak 0 pk Ff ED (fun _=>True))):=fun v=>Hu s Ak 0 pk v (fun _=>HAK0.out) HS.out;unfold BZ at KX;simp only[ED,Bn]at KX;obtain⟨cC0,cC1,cC2,cC3⟩:=c4 R_C.out;go_upto_region 24 with(go_at_call 62;(with_reducible refine(KX.out _).mono ?_);rintro r9 w7 ⟨A2,e2,p2,x,rfl,-,hR2,hb⟩;replace R_C:=A6 (R_C.out.of_block (hb.block _ R_C.out.lt));replace R_K:=A6 (R_K.out.of_block (hb.block _ R_K.out.lt));replace HBW:=A6 (HBW.out.trans (hb.mono HCV.out));replace HFR:=A6 (HFR.out.below hb);have HR2:=A6 hR2;obtain⟨J,hS_J⟩:∃N,w7.heap.size=N:=⟨_,rfl⟩;obtain⟨W6,hA_J⟩:∃W,w7.alloc (.cells #[.string ⟨#[]⟩,.int .i64 0,.int .i64 0,.int .i64 0] 78)=W:=⟨_,rfl⟩;have hC_J:C≠J:=F2;have hJ_C:=hC_J.symm;have hK_J:K≠J:=P0;have hJ_K:=hK_J.symm;have HC_J:Hid (C<=J):=No;have r9:W6.rowIs J 78 4 (f4 (.string ⟨#[]⟩) (.int .i64 0) (.int .i64 0) (.int .i64 0)):=Nw;have R_J:=A6 r9;replace HBW:=A6 (HBW.out.trans (BI hA_J (Nat.le_of_lt R_C.out.lt)));replace R_C:=A6 (Ai R_C.out hA_J);replace R_K:=A6 (Ai R_K.out hA_J);have HX_J:Hid (wr.heap.size<=J):=Qf;replace HFR:=A6 (HFR.out.alloc hA_J);clear r9;obtain⟨E,hS_E⟩:∃N,W6.heap.size=N:=⟨_,rfl⟩;obtain⟨W7,hA_E⟩:∃W,W6.alloc (.cells #[.int .i64 0,.int .i64 0,.bool false,.int .u32 0,.int .i64 0] 66)=W:=⟨_,rfl⟩;have hC_E:C≠E:=F2;have hE_C:=hC_E.symm;have hK_E:K≠E:=P0;have hE_K:=hK_E.symm;have hJ_E:J≠E:=Rb;have hE_J:=hJ_E.symm;have HC_E:Hid (C<=E):=RT;have r9:W7.rowIs E 66 5 (g5 (.int .i64 0) (.int .i64 0) (.bool false) (.int .u32 0) (.int .i64 0)):=(by rw[<-hA_E,<-hS_E];exact IB W6 _ _ _ _ _ _);have R_E:=A6 r9;replace HBW:=A6 (HBW.out.trans (BI hA_E (Nat.le_of_lt R_C.out.lt)));replace R_C:=A6 (Ai R_C.out hA_E);replace R_K:=A6 (Ai R_K.out hA_E);replace R_J:=A6 (Ai R_J.out hA_E);have HX_E:Hid (wr.heap.size<=E):=RW;replace HFR:=A6 (HFR.out.alloc hA_E);clear r9;obtain⟨mJ0,mJ1,mJ2,mJ3⟩:=c4 R_J.out;obtain⟨yJ0,yJ1,yJ2,yJ3⟩:=z4 R_J.out;obtain⟨mE0,mE1,mE2,mE3,mE4⟩:=c5 R_E.out;obtain⟨yE0,yE1,yE2,yE3,yE4⟩:=z5 R_E.out;clear hb hR2)
     have hq:=AI R_J.out (.string s) (.int .i64 (A2:Int)) (.int .i64 e2) (.int .i64 p2);obtain⟨W8,hP_W8⟩:∃W,(((W7.setCell ⟨J,0,none⟩ (.string s)).setCell ⟨J,1,none⟩ (.int .i64 (A2:Int))).setCell ⟨J,2,none⟩ (.int .i64 e2)).setCell ⟨J,3,none⟩ (.int .i64 p2)=W:=⟨_,rfl⟩
     rw[hP_W8]at hq;try rw[hP_W8]
     replace R_C:=A6 (hq.2.row R_C.out hC_J)
     replace R_K:=A6 (hq.2.row R_K.out hK_J)
     replace R_E:=A6 (hq.2.row R_E.out hE_J)
     replace HFR:=A6 (HFR.put hq.2 (.inr (.inr HX_J.out)))
     replace R_J:=A6 hq.1
     replace HBW:=A6 (HBW.trans (hq.2.bel C HC_J.out))
     clear hq;clear hP_W8;have hq:=Jn R_E.out (.int .i64 x.ty.kind) (.int .i64 x.ty.par) (.bool x.keep) (.int .u32 x.bits) (.int .i64 x.int_);obtain⟨W9,hP_W9⟩:∃W,((((W8.setCell ⟨E,0,none⟩ (.int .i64 x.ty.kind)).setCell ⟨E,1,none⟩ (.int .i64 x.ty.par)).setCell ⟨E,2,none⟩ (.bool x.keep)).setCell ⟨E,3,none⟩ (.int .u32 x.bits)).setCell ⟨E,4,none⟩ (.int .i64 x.int_)=W:=⟨_,rfl⟩
     rw[hP_W9]at hq;try rw[hP_W9]
     replace R_C:=A6 (hq.2.row R_C.out hC_E)
     replace R_K:=A6 (hq.2.row R_K.out hK_E)
     replace R_J:=A6 (hq.2.row R_J.out hJ_E)
     replace HFR:=A6 (HFR.put hq.2 (.inr (.inr HX_E.out)))
     replace R_E:=A6 hq.1
     replace HBW:=A6 (HBW.trans (hq.2.bel C HC_E.out))
     clear hq;clear hP_W9;clear cC0 cC1 cC2 cC3 mJ0 mJ1 mJ2 mJ3 yJ0 yJ1 yJ2 yJ3 mE0 mE1 mE2 mE3 mE4 yE0 yE1 yE2 yE3 yE4;clear HCV KX;obtain⟨cJ0,cJ1,cJ2,cJ3⟩:=c4 R_J.out;obtain⟨cC0,cC1,cC2,cC3⟩:=c4 R_C.out;obtain⟨zC0,zC1,zC2,zC3⟩:=z4 R_C.out;have hq:=AI R_C.out (.string s) (.int .i64 (A2:Int)) (.int .i64 e2) (.int .i64 p2);obtain⟨W10,hP_W10⟩:∃W,(((W9.setCell ⟨C,0,none⟩ (.string s)).setCell ⟨C,1,none⟩ (.int .i64 (A2:Int))).setCell ⟨C,2,none⟩ (.int .i64 e2)).setCell ⟨C,3,none⟩ (.int .i64 p2)=W:=⟨_,rfl⟩
     rw[hP_W10]at hq
     replace R_K:=A6 (hq.2.row R_K.out hK_C)
     replace R_J:=A6 (hq.2.row R_J.out hJ_C)
     replace R_E:=A6 (hq.2.row R_E.out hE_C)
     replace HFR:=A6 (HFR.put hq.2 (.inl rfl))
     replace R_C:=A6 hq.1
     replace HBW:=A6 (HBW.trans (hq.2.bel C HC_C.out))
     clear hq;have HP_W10:=A6 hP_W10;clear hP_W10;go_upto_region 25 with fail;try rw[HP_W10.out]
     clear HP_W10;clear cJ0 cJ1 cJ2 cJ3 cC0 cC1 cC2 cC3 zC0 zC1 zC2 zC3;obtain⟨cE0,cE1,cE2,cE3,cE4⟩:=c5 R_E.out;obtain⟨cK0,cK1,cK2,cK3⟩:=c4 R_K.out;have hown:W10.ownsRow X 66 5 (.slice px k qx) k (AH EP xs):=Ae HOW.out fun b hb=>HFR.blk b (HOW.lt b hb).2 R5 R3;obtain⟨g,c',w6,a1,a2,a3,a4,-⟩:=BN underlying24 Gd rfl dE hown (gH HFW.size HFR.size) #[.int .i64 x.ty.kind,.int .i64 x.ty.par,.bool x.keep,.int .u32 x.bits,.int .i64 x.int_] rfl (fun u hu=>JT x u hu) R8 Rc 24;have HRUN:=A6 a1;have HO6:Hid (w6.ownsRow X 66 5 (.slice (some ⟨g,0,none⟩) (k+1) c') (k+1) (AH EP (xs++[x]))):=by
      show w6.ownsRow X 66 5 (.slice (some ⟨g,0,none⟩) (k+1) c') (k+1) (AH EP (xs++[x]));rw[CP];exact a3
     have rC6:=A6 (R_C.of_block (a4 C R_C.lt fun h=>absurd (HOW.lt C h).1 OG));have rK6:=A6 (R_K.of_block (a4 K R_K.lt fun h=>absurd (HOW.lt K h).1 Ra));have HB6:=A6 (HBW.trans (a2.mono OG));have HF6:=A6 ((HFW.trans HFR.out HFW.size).belowX a2);clear R_C R_K HBW hown a1 a2 a3 a4;obtain⟨s0,s1,s2,s3⟩:=c4 rK6.out;obtain⟨z0,z1,z2,z3⟩:=z4 rK6.out;obtain⟨W9,hW9⟩:∃W,w6.setCell ⟨K,2,none⟩ (.slice (some ⟨g,0,none⟩) (k+1) c')=W:=⟨_,rfl⟩
     have hpt:AQ K w6 W9:=by rw[<-hW9];exact AQ.one K 2 w6 _
     have rK9:Hid (W9.rowIs K 27 4 (f4 (.slice pp0 l0.length q0) (.slice pp1 l1.length q1) (.slice (some ⟨g,0,none⟩) (k+1) c') (.slice none 0 0))):=by
      show W9.rowIs K _ 4 _;rw[<-hW9];exact(rK6.set 2 _).congr fun j hj=>by
       exact IZ
     have rC9:=A6 (hpt.row rC6.out hC_K);have HB9:=A6 (HB6.trans (hpt.bel C HC_K.out));have HF9:=A6 (HF6.put hpt (.inr (.inl rfl)));have HO9:=A6 (Ae HO6.out fun b hb=>hpt.oth b R4);have HA9:=A6 (HR2.le fun _=>HAK0.out);have HN9:Hid (e2=0->n<=4096):=fun _=>HNK0.out;have HL9:Hid ((xs++[x]).length=k+1):=by show _=_;rw[List.length_append,HLN.out];rfl
     have HC9:Hid (∀ (A':Nat) (e' p':Int) (y:Cd),Af (Ac (Bb Ff (n-(k+1)) (xs++[x])) fun l2=>Qy l0 l1 l2) (Ab s) A2 e2 A' e' p2 p' y->Af Bp (Ab s) A e A' e' p p' y):=fun A' e' p' y h=>HCK.out A' e' p' y (DN hlt HR2.out h);exact QG
    ·--{8
     have eq9:(ek==0)=false:=beq_eq_false_iff_ne.2 he;have HEK:=A6 he;clear he;have HFIN:Hid (Rl s A e p C D F K w wr):=by
      have hl:xs.length=k:=HLN.out;obtain⟨x1,x2,x3,x4⟩:=HKX.out;obtain⟨y1,y2,y3⟩:=HKL.out;have hC1:C≠K:=hC_K;subst hl;exact⟨Ak,ek,pk,l0,pp0,q0,l1,pp1,q1,xs,px,qx,Q_C,A6 (HFW.row R_D.out x2 hD_C hD_K),A6 (HFW.row R_F.out x3 hF_C hF_K),Q_K,QBW,HAK,fun A' e' p' y h=>HCK.out A' e' p' y ⟨fun _=>h.1 HEK.out,fun h0=>absurd h0 HEK.out⟩,A6 (HFW.own HO0.out (Nat.le_of_eq HXE.out) y1 oM),A6 (HFW.own HO1.out (Nat.le_of_eq HXE.out) y1 oM),A6 (B3 HOW.out oM)⟩
     exact QP
   ·--{9
    have e9:¬ (k:Int)<(n:Int):=oM;have hkn:k=n:=oM;have HKN:=A6 hkn;clear hkn;have HFIN:Hid (Rl s A e p C D F K w wr):=by
     have hl:xs.length=k:=HLN.out;obtain⟨x1,x2,x3,x4⟩:=HKX.out;obtain⟨y1,y2,y3⟩:=HKL.out;have hC1:C≠K:=hC_K;subst hl;exact⟨Ak,ek,pk,l0,pp0,q0,l1,pp1,q1,xs,px,qx,Q_C,A6 (HFW.row R_D.out x2 hD_C hD_K),A6 (HFW.row R_F.out x3 hF_C hF_K),Q_K,QBW,HAK,fun A' e' p' y h=>HCK.out A' e' p' y R9,A6 (HFW.own HO0.out (Nat.le_of_eq HXE.out) y1 oM),A6 (HFW.own HO1.out (Nat.le_of_eq HXE.out) y1 oM),A6 (B3 HOW.out oM)⟩
    go_wp2_with fail;go_meet;exact HFIN
 case rest=>
 have HBR:=hcut;clear hcut R_C R_D R_F R_K HBW HCT HAJ HR HN HA1 HCN HKX HCT0 HFX HXE HO0 HO1;obtain⟨Aj,ej,pj,l0,pp0,q0,l1,pp1,q1,l2,pp2,q2,R_C,R_D,R_F,R_K,HBW,HAJ,HCT,HO0,HO1,HO2⟩:=HBR.out;clear HBR;have HCV:Hid (C<=wc.heap.size):=Nat.le_of_lt R_C.out.lt;have KN:Hid (∀v,Calls prog 59 #[.agg #[.string s,.int .i64 (Aj:Int),.int .i64 ej,.int .i64 pj],.int .i64 32768] v (BZ v.heap.size v s Aj ej pj (BJ ((32768:Nat):Int)) (fun(n:Nat)=>.int .i64 (n:Int)) (fun n=>n<2^63))):=fun v=>Bt s Aj ej pj ((32768:Nat):Int) v HAJ.out HS.out;unfold BZ at KN;obtain⟨cC0,cC1,cC2,cC3⟩:=c4 R_C.out;go_upto_region 27 with(go_at_call 59;(with_reducible refine(KN.out _).mono ?_);rintro r9 u3 ⟨A1,e1,p1,n,rfl,hn,hR,hb⟩;replace R_C:=A6 (R_C.out.of_block (hb.block _ R_C.out.lt));replace R_D:=A6 (R_D.out.of_block (hb.block _ R_D.out.lt));replace R_F:=A6 (R_F.out.of_block (hb.block _ R_F.out.lt));replace R_K:=A6 (R_K.out.of_block (hb.block _ R_K.out.lt));replace HBW:=A6 (HBW.out.trans (hb.mono HCV.out));have HR:=A6 hR;have HN:=A6 hn;obtain⟨mC0,mC1,mC2,mC3⟩:=c4 R_C.out;obtain⟨yC0,yC1,yC2,yC3⟩:=z4 R_C.out;replace HO0:=A6 (Ae HO0.out fun b hb2=>hb.block b (HO0.out.lt b hb2).2);replace HO1:=A6 (Ae HO1.out fun b hb2=>hb.block b (HO1.out.lt b hb2).2);replace HO2:=A6 (Ae HO2.out fun b hb2=>hb.block b (HO2.out.lt b hb2).2);clear hb hR hn)
 have hKB:C<K+1/\D<K+1/\F<K+1:=HKL.out;have hq:=AI R_C.out (.string s) (.int .i64 (A1:Int)) (.int .i64 e1) (.int .i64 p1);obtain⟨W5,hP_W5⟩:∃W,(((u3.setCell ⟨C,0,none⟩ (.string s)).setCell ⟨C,1,none⟩ (.int .i64 (A1:Int))).setCell ⟨C,2,none⟩ (.int .i64 e1)).setCell ⟨C,3,none⟩ (.int .i64 p1)=W:=⟨_,rfl⟩
 rw[hP_W5]at hq;try rw[hP_W5]
 replace R_D:=A6 (hq.2.row R_D.out hD_C)
 replace R_F:=A6 (hq.2.row R_F.out hF_C)
 replace R_K:=A6 (hq.2.row R_K.out hK_C)
 replace R_C:=A6 hq.1
 replace HBW:=A6 (HBW.trans (hq.2.bel C HC_C.out))
 replace HO0:=A6 (Ae HO0.out fun b hb2=>hq.2.oth b RV)
 replace HO1:=A6 (Ae HO1.out fun b hb2=>hq.2.oth b (by have:=(HO1.lt b hb2).1;omega))
 replace HO2:=A6 (Ae HO2.out fun b hb2=>hq.2.oth b (by have:=(HO2.lt b hb2).1;omega))
 clear hq;clear hP_W5;clear cC0 cC1 cC2 cC3 mC0 mC1 mC2 mC3 yC0 yC1 yC2 yC3;clear HCV hKB KN;have HA1:=A6 (HR.le HAJ.out);have HCN:Hid (e1=0->n<=32768):=fun h0=>by
  subst h0;exact Fj HR.out HAJ.out
 obtain⟨X,hX⟩:=gA (W5.heap.size)
 have HKX:Hid (C<X/\D<X/\F<X/\K<X):=⟨by rw[<-hX];exact R_C.lt,by rw[<-hX];exact R_D.lt,by rw[<-hX];exact R_F.lt,by rw[<-hX];exact R_K.lt⟩
 have HCT0:Hid (∀ (A':Nat) (e' p':Int) (y:Cd),Af (Ac (Bb Cw (n-0) []) fun l3=>Qz l0 l1 l2 l3) (Ab s) A1 e1 A' e' p1 p' y->Af Bp (Ab s) A e A' e' p p' y):=fun A' e' p' y h=>HCT.out A' e' p' y (DM HR.out h);have HFX:Hid (Cb X C K W5 W5):=by show Cb X C K _ _;rw[<-hX];exact Cb.refl C K _
 have HXE:=A6 hX;clear hX;go_upto_block 6 with fail;go_cut [18] (fun iv wx=>Hid (Rm s A e p C D F K w wx))
 case first=>
  go_wp2_with fail
  go_loopw [18] (fun iv wx=>∃ (k Ak:Nat) (ek pk:Int) (xs:List Ar) (px:Option Addr) (qx:Nat),k<=n/\iv=.int .i64 (k:Int)/\Hid (xs.length=k)/\Hid (wx.rowIs C 78 4 (f4 (.string s) (.int .i64 (Ak:Int)) (.int .i64 ek) (.int .i64 pk)))/\Hid (wx.rowIs K 27 4 (f4 (.slice pp0 l0.length q0) (.slice pp1 l1.length q1) (.slice pp2 l2.length q2) (.slice px k qx)))/\Hid (Below C w wx)/\Hid (Cb X C K W5 wx)/\Hid (wx.ownsRow X 70 7 (.slice px k qx) k (AH C2 xs))/\Hid (ek=0->Ak<=s.size)/\Hid (ek=0->n<=32768)/\Hid (∀ (A':Nat) (e' p':Int) (y:Cd),Af (Ac (Bb Cw (n-k) xs) fun l3=>Qz l0 l1 l2 l3) (Ab s) Ak ek A' e' pk p' y->Af Bp (Ab s) A e A' e' p p' y)) (fun iv _=>n-(intOf iv).toNat)
  case atStart=>exact⟨0,A1,e1,p1,[],none,0,gI _,rfl,rfl,R_C,R_K,HBW,HFX,World.ownsRow_nil _ _ _ 7,HA1,HCN,HCT0⟩
  case round=>
   obtain⟨k,Ak,ek,pk,xs,px,qx,hk,rfl,HLN,Q_C,Q_K,QBW,HFW,HOW,HAK,HNK,HCK⟩:=hrel;by_cases hlt:k<n
   .have e9:(k:Int)<(n:Int):=oM;by_cases he:ek=0
    ·--{10
     subst he;have HAK0:Hid (Ak<=s.size):=HAK.out rfl;have HNK0:Hid (n<=32768):=HNK.out rfl;have R_C:=Q_C;have R_K:=Q_K;have HBW:=QBW;have HFR:Hid (Cb wr.heap.size C K wr wr):=Cb.refl C K wr;have HCV:Hid (C<=wr.heap.size):=Nat.le_of_lt R_C.out.lt;have KX:Hid (∀v,Calls prog 63 #[.agg #[.string s,.int .i64 (Ak:Int),.int .i64 0,.int .i64 pk]] v (BZ v.heap.size v s Ak 0 pk Cw Bn (fun _=>True))):=fun v=>Mj s Ak 0 pk v (fun _=>HAK0.out) HS.out;unfold BZ at KX;simp only[ED,Bn]at KX;obtain⟨cC0,cC1,cC2,cC3⟩:=c4 R_C.out;go_upto_region 31 with(go_at_call 63;(with_reducible refine(KX.out _).mono ?_);rintro r9 w7 ⟨A2,e2,p2,x,rfl,-,hR2,hb⟩;replace R_C:=A6 (R_C.out.of_block (hb.block _ R_C.out.lt));replace R_K:=A6 (R_K.out.of_block (hb.block _ R_K.out.lt));replace HBW:=A6 (HBW.out.trans (hb.mono HCV.out));replace HFR:=A6 (HFR.out.below hb);have HR2:=A6 hR2;obtain⟨J,hS_J⟩:∃N,w7.heap.size=N:=⟨_,rfl⟩;obtain⟨W6,hA_J⟩:∃W,w7.alloc (.cells #[.string ⟨#[]⟩,.int .i64 0,.int .i64 0,.int .i64 0] 78)=W:=⟨_,rfl⟩;have hC_J:C≠J:=F2;have hJ_C:=hC_J.symm;have hK_J:K≠J:=P0;have hJ_K:=hK_J.symm;have HC_J:Hid (C<=J):=No;have r9:W6.rowIs J 78 4 (f4 (.string ⟨#[]⟩) (.int .i64 0) (.int .i64 0) (.int .i64 0)):=Nw;have R_J:=A6 r9;replace HBW:=A6 (HBW.out.trans (BI hA_J (Nat.le_of_lt R_C.out.lt)));replace R_C:=A6 (Ai R_C.out hA_J);replace R_K:=A6 (Ai R_K.out hA_J);have HX_J:Hid (wr.heap.size<=J):=Qf;replace HFR:=A6 (HFR.out.alloc hA_J);clear r9;obtain⟨E,hS_E⟩:∃N,W6.heap.size=N:=⟨_,rfl⟩;obtain⟨W7,hA_E⟩:∃W,W6.alloc (.cells #[.int .i64 0,.int .i64 0,.int .i64 0,.int .i64 0,.int .i64 0,.int .i64 0,.int .u32 0] 70)=W:=⟨_,rfl⟩;have hC_E:C≠E:=F2;have hE_C:=hC_E.symm;have hK_E:K≠E:=P0;have hE_K:=hK_E.symm;have hJ_E:J≠E:=Rb;have hE_J:=hJ_E.symm;have HC_E:Hid (C<=E):=RT;have r9:W7.rowIs E 70 7 (g7 (.int .i64 0) (.int .i64 0) (.int .i64 0) (.int .i64 0) (.int .i64 0) (.int .i64 0) (.int .u32 0)):=(by rw[<-hA_E,<-hS_E];exact IC W6 _ _ _ _ _ _ _ _);have R_E:=A6 r9;replace HBW:=A6 (HBW.out.trans (BI hA_E (Nat.le_of_lt R_C.out.lt)));replace R_C:=A6 (Ai R_C.out hA_E);replace R_K:=A6 (Ai R_K.out hA_E);replace R_J:=A6 (Ai R_J.out hA_E);have HX_E:Hid (wr.heap.size<=E):=RW;replace HFR:=A6 (HFR.out.alloc hA_E);clear r9;obtain⟨mJ0,mJ1,mJ2,mJ3⟩:=c4 R_J.out;obtain⟨yJ0,yJ1,yJ2,yJ3⟩:=z4 R_J.out;obtain⟨mE0,mE1,mE2,mE3,mE4,mE5,mE6⟩:=c7 R_E.out;obtain⟨yE0,yE1,yE2,yE3,yE4,yE5,yE6⟩:=z7 R_E.out;clear hb hR2)
     have hq:=AI R_J.out (.string s) (.int .i64 (A2:Int)) (.int .i64 e2) (.int .i64 p2);obtain⟨W8,hP_W8⟩:∃W,(((W7.setCell ⟨J,0,none⟩ (.string s)).setCell ⟨J,1,none⟩ (.int .i64 (A2:Int))).setCell ⟨J,2,none⟩ (.int .i64 e2)).setCell ⟨J,3,none⟩ (.int .i64 p2)=W:=⟨_,rfl⟩
     rw[hP_W8]at hq;try rw[hP_W8]
     replace R_C:=A6 (hq.2.row R_C.out hC_J)
     replace R_K:=A6 (hq.2.row R_K.out hK_J)
     replace R_E:=A6 (hq.2.row R_E.out hE_J)
     replace HFR:=A6 (HFR.put hq.2 (.inr (.inr HX_J.out)))
     replace R_J:=A6 hq.1
     replace HBW:=A6 (HBW.trans (hq.2.bel C HC_J.out))
     clear hq;clear hP_W8;have hq:=Jo R_E.out (.int .i64 x.op) (.int .i64 x.d) (.int .i64 x.a) (.int .i64 x.b) (.int .i64 x.c) (.int .i64 x.n) (.int .u32 x.bits);obtain⟨W9,hP_W9⟩:∃W,((((((W8.setCell ⟨E,0,none⟩ (.int .i64 x.op)).setCell ⟨E,1,none⟩ (.int .i64 x.d)).setCell ⟨E,2,none⟩ (.int .i64 x.a)).setCell ⟨E,3,none⟩ (.int .i64 x.b)).setCell ⟨E,4,none⟩ (.int .i64 x.c)).setCell ⟨E,5,none⟩ (.int .i64 x.n)).setCell ⟨E,6,none⟩ (.int .u32 x.bits)=W:=⟨_,rfl⟩
     rw[hP_W9]at hq;try rw[hP_W9]
     replace R_C:=A6 (hq.2.row R_C.out hC_E)
     replace R_K:=A6 (hq.2.row R_K.out hK_E)
     replace R_J:=A6 (hq.2.row R_J.out hJ_E)
     replace HFR:=A6 (HFR.put hq.2 (.inr (.inr HX_E.out)))
     replace R_E:=A6 hq.1
     replace HBW:=A6 (HBW.trans (hq.2.bel C HC_E.out))
     clear hq;clear hP_W9;clear cC0 cC1 cC2 cC3 mJ0 mJ1 mJ2 mJ3 yJ0 yJ1 yJ2 yJ3 mE0 mE1 mE2 mE3 mE4 mE5 mE6 yE0 yE1 yE2 yE3 yE4 yE5 yE6;clear HCV KX;obtain⟨cJ0,cJ1,cJ2,cJ3⟩:=c4 R_J.out;obtain⟨cC0,cC1,cC2,cC3⟩:=c4 R_C.out;obtain⟨zC0,zC1,zC2,zC3⟩:=z4 R_C.out;have hq:=AI R_C.out (.string s) (.int .i64 (A2:Int)) (.int .i64 e2) (.int .i64 p2);obtain⟨W10,hP_W10⟩:∃W,(((W9.setCell ⟨C,0,none⟩ (.string s)).setCell ⟨C,1,none⟩ (.int .i64 (A2:Int))).setCell ⟨C,2,none⟩ (.int .i64 e2)).setCell ⟨C,3,none⟩ (.int .i64 p2)=W:=⟨_,rfl⟩
     rw[hP_W10]at hq
     replace R_K:=A6 (hq.2.row R_K.out hK_C)
     replace R_J:=A6 (hq.2.row R_J.out hJ_C)
     replace R_E:=A6 (hq.2.row R_E.out hE_C)
     replace HFR:=A6 (HFR.put hq.2 (.inl rfl))
     replace R_C:=A6 hq.1
     replace HBW:=A6 (HBW.trans (hq.2.bel C HC_C.out))
     clear hq;have HP_W10:=A6 hP_W10;clear hP_W10;go_upto_region 32 with fail;try rw[HP_W10.out]
     clear HP_W10;clear cJ0 cJ1 cJ2 cJ3 cC0 cC1 cC2 cC3 zC0 zC1 zC2 zC3;obtain⟨cE0,cE1,cE2,cE3,cE4,cE5,cE6⟩:=c7 R_E.out;obtain⟨cK0,cK1,cK2,cK3⟩:=c4 R_K.out;have hown:W10.ownsRow X 70 7 (.slice px k qx) k (AH C2 xs):=Ae HOW.out fun b hb=>HFR.blk b (HOW.lt b hb).2 R5 R3;obtain⟨g,c',w6,a1,a2,a3,a4,-⟩:=BN underlying25 Gc rfl dE hown (gH HFW.size HFR.size) #[.int .i64 x.op,.int .i64 x.d,.int .i64 x.a,.int .i64 x.b,.int .i64 x.c,.int .i64 x.n,.int .u32 x.bits] rfl (fun u hu=>Jf x u hu) R8 Rc 25;have HRUN:=A6 a1;have HO6:Hid (w6.ownsRow X 70 7 (.slice (some ⟨g,0,none⟩) (k+1) c') (k+1) (AH C2 (xs++[x]))):=by
      show w6.ownsRow X 70 7 (.slice (some ⟨g,0,none⟩) (k+1) c') (k+1) (AH C2 (xs++[x]));rw[CP];exact a3
     have rC6:=A6 (R_C.of_block (a4 C R_C.lt fun h=>absurd (HOW.lt C h).1 OG));have rK6:=A6 (R_K.of_block (a4 K R_K.lt fun h=>absurd (HOW.lt K h).1 Ra));have HB6:=A6 (HBW.trans (a2.mono OG));have HF6:=A6 ((HFW.trans HFR.out HFW.size).belowX a2);clear R_C R_K HBW hown a1 a2 a3 a4;obtain⟨s0,s1,s2,s3⟩:=c4 rK6.out;obtain⟨z0,z1,z2,z3⟩:=z4 rK6.out;obtain⟨W9,hW9⟩:∃W,w6.setCell ⟨K,3,none⟩ (.slice (some ⟨g,0,none⟩) (k+1) c')=W:=⟨_,rfl⟩
     have hpt:AQ K w6 W9:=by rw[<-hW9];exact AQ.one K 3 w6 _
     have rK9:Hid (W9.rowIs K 27 4 (f4 (.slice pp0 l0.length q0) (.slice pp1 l1.length q1) (.slice pp2 l2.length q2) (.slice (some ⟨g,0,none⟩) (k+1) c'))):=by
      show W9.rowIs K _ 4 _;rw[<-hW9];exact(rK6.set 3 _).congr fun j hj=>by
       exact IZ
     have rC9:=A6 (hpt.row rC6.out hC_K);have HB9:=A6 (HB6.trans (hpt.bel C HC_K.out));have HF9:=A6 (HF6.put hpt (.inr (.inl rfl)));have HO9:=A6 (Ae HO6.out fun b hb=>hpt.oth b R4);have HA9:=A6 (HR2.le fun _=>HAK0.out);have HN9:Hid (e2=0->n<=32768):=fun _=>HNK0.out;have HL9:Hid ((xs++[x]).length=k+1):=by show _=_;rw[List.length_append,HLN.out];rfl
     have HC9:Hid (∀ (A':Nat) (e' p':Int) (y:Cd),Af (Ac (Bb Cw (n-(k+1)) (xs++[x])) fun l3=>Qz l0 l1 l2 l3) (Ab s) A2 e2 A' e' p2 p' y->Af Bp (Ab s) A e A' e' p p' y):=fun A' e' p' y h=>HCK.out A' e' p' y (DN hlt HR2.out h);exact QG
    ·--{11
     have eq9:(ek==0)=false:=beq_eq_false_iff_ne.2 he;have HEK:=A6 he;clear he;have HFIN:Hid (Rm s A e p C D F K w wr):=by
      have hl:xs.length=k:=HLN.out;obtain⟨x1,x2,x3,x4⟩:=HKX.out;obtain⟨y1,y2,y3⟩:=HKL.out;have hC1:C≠K:=hC_K;subst hl;exact⟨Ak,ek,pk,l0,pp0,q0,l1,pp1,q1,l2,pp2,q2,xs,px,qx,Q_C,A6 (HFW.row R_D.out x2 hD_C hD_K),A6 (HFW.row R_F.out x3 hF_C hF_K),Q_K,QBW,HAK,fun A' e' p' y h=>HCK.out A' e' p' y ⟨fun _=>h.1 HEK.out,fun h0=>absurd h0 HEK.out⟩,A6 (HFW.own HO0.out (Nat.le_of_eq HXE.out) y1 oM),A6 (HFW.own HO1.out (Nat.le_of_eq HXE.out) y1 oM),A6 (HFW.own HO2.out (Nat.le_of_eq HXE.out) y1 oM),A6 (B3 HOW.out oM)⟩
     exact QP
   ·--{12
    have e9:¬ (k:Int)<(n:Int):=oM;have hkn:k=n:=oM;have HKN:=A6 hkn;clear hkn;have HFIN:Hid (Rm s A e p C D F K w wr):=by
     have hl:xs.length=k:=HLN.out;obtain⟨x1,x2,x3,x4⟩:=HKX.out;obtain⟨y1,y2,y3⟩:=HKL.out;have hC1:C≠K:=hC_K;subst hl;exact⟨Ak,ek,pk,l0,pp0,q0,l1,pp1,q1,l2,pp2,q2,xs,px,qx,Q_C,A6 (HFW.row R_D.out x2 hD_C hD_K),A6 (HFW.row R_F.out x3 hF_C hF_K),Q_K,QBW,HAK,fun A' e' p' y h=>HCK.out A' e' p' y R9,A6 (HFW.own HO0.out (Nat.le_of_eq HXE.out) y1 oM),A6 (HFW.own HO1.out (Nat.le_of_eq HXE.out) y1 oM),A6 (HFW.own HO2.out (Nat.le_of_eq HXE.out) y1 oM),A6 (B3 HOW.out oM)⟩
    go_wp2_with fail;go_meet;exact HFIN
 case rest=>
 have HBR:=hcut;clear hcut R_C R_D R_F R_K HBW HCT HAJ HR HN HA1 HCN HKX HCT0 HFX HXE HO0 HO1 HO2;obtain⟨Aj,ej,pj,l0,pp0,q0,l1,pp1,q1,l2,pp2,q2,l3,pp3,q3,R_C,R_D,R_F,R_K,HBW,HAJ,HCT,HO0,HO1,HO2,HO3⟩:=HBR.out;clear HBR;have HREL:=A6 (HCT.out _ _ _ _ (Af.pure (⟨l0,l1,l2,l3⟩:Cd)));have HKL2:Hid (C<K+1/\D<K+1/\F<K+1):=HKL;have HCX:Hid (C<=K+1):=by show C<=K+1;have:=HKL.1;omega
 obtain⟨cC0,cC1,cC2,cC3⟩:=c4 R_C.out;obtain⟨cK0,cK1,cK2,cK3⟩:=c4 R_K.out;obtain⟨cD0,cD1,cD2,cD3⟩:=c4 R_D.out;obtain⟨cF0,cF1,cF2,cF3⟩:=c4 R_F.out;obtain⟨zD0,zD1,zD2,zD3⟩:=z4 R_D.out;obtain⟨zF0,zF1,zF2,zF3⟩:=z4 R_F.out;have hq:=AI R_D.out (.string s) (.int .i64 (Aj:Int)) (.int .i64 ej) (.int .i64 pj);obtain⟨W5,hP_W5⟩:∃W,(((wc.setCell ⟨D,0,none⟩ (.string s)).setCell ⟨D,1,none⟩ (.int .i64 (Aj:Int))).setCell ⟨D,2,none⟩ (.int .i64 ej)).setCell ⟨D,3,none⟩ (.int .i64 pj)=W:=⟨_,rfl⟩
 rw[hP_W5]at hq
 replace R_C:=A6 (hq.2.row R_C.out hC_D)
 replace R_F:=A6 (hq.2.row R_F.out hF_D)
 replace R_K:=A6 (hq.2.row R_K.out hK_D)
 replace R_D:=A6 hq.1
 replace HBW:=A6 (HBW.trans (hq.2.bel C HC_D.out))
 replace HO0:=A6 (Ae HO0.out fun b hb2=>hq.2.oth b (by have:=(HO0.lt b hb2).1;have:=HKL.out;omega))
 replace HO1:=A6 (Ae HO1.out fun b hb2=>hq.2.oth b (by have:=(HO1.lt b hb2).1;have:=HKL.out;omega))
 replace HO2:=A6 (Ae HO2.out fun b hb2=>hq.2.oth b (by have:=(HO2.lt b hb2).1;have:=HKL.out;omega))
 replace HO3:=A6 (Ae HO3.out fun b hb2=>hq.2.oth b (by have:=(HO3.lt b hb2).1;have:=HKL.out;omega))
 clear hq;have HP_W5:=A6 hP_W5;clear hP_W5;have hq:=AI R_F.out (.slice pp0 l0.length q0) (.slice pp1 l1.length q1) (.slice pp2 l2.length q2) (.slice pp3 l3.length q3);obtain⟨W6,hP_W6⟩:∃W,(((W5.setCell ⟨F,0,none⟩ (.slice pp0 l0.length q0)).setCell ⟨F,1,none⟩ (.slice pp1 l1.length q1)).setCell ⟨F,2,none⟩ (.slice pp2 l2.length q2)).setCell ⟨F,3,none⟩ (.slice pp3 l3.length q3)=W:=⟨_,rfl⟩
 rw[hP_W6]at hq
 replace R_C:=A6 (hq.2.row R_C.out hC_F)
 replace R_D:=A6 (hq.2.row R_D.out hD_F)
 replace R_K:=A6 (hq.2.row R_K.out hK_F)
 replace R_F:=A6 hq.1
 replace HBW:=A6 (HBW.trans (hq.2.bel C HC_F.out))
 replace HO0:=A6 (Ae HO0.out fun b hb2=>hq.2.oth b (by have:=(HO0.lt b hb2).1;have:=HKL.out;omega))
 replace HO1:=A6 (Ae HO1.out fun b hb2=>hq.2.oth b (by have:=(HO1.lt b hb2).1;have:=HKL.out;omega))
 replace HO2:=A6 (Ae HO2.out fun b hb2=>hq.2.oth b (by have:=(HO2.lt b hb2).1;have:=HKL.out;omega))
 replace HO3:=A6 (Ae HO3.out fun b hb2=>hq.2.oth b (by have:=(HO3.lt b hb2).1;have:=HKL.out;omega))
 clear hq;have HP_W6:=A6 hP_W6;clear hP_W6;obtain⟨m0,m1,m2,m3⟩:=c4 R_D.out;obtain⟨o0,o1,o2,o3⟩:=c4 R_F.out;have HB:Hid (Below w.heap.size w W6.drew):=by show Below _ _ _;rw[HCW.out];exact HBW.drew
 have HOW:Hid (EE w.heap.size W6.drew (.slice pp0 l0.length q0) (.slice pp1 l1.length q1) (.slice pp2 l2.length q2) (.slice pp3 l3.length q3) (⟨l0,l1,l2,l3⟩:Cd)):=by
  show EE _ _ _ _ _ _ _;rw[HCW.out];exact⟨B3 (Ae HO0.out fun _ _=>rfl) HCX.out,B3 (Ae HO1.out fun _ _=>rfl) HCX.out,B3 (Ae HO2.out fun _ _=>rfl) HCX.out,B3 (Ae HO3.out fun _ _=>rfl) HCX.out⟩
 go_wp2_with fail;refine rG (fun v=>v.cell? ⟨C,0,none⟩=some (.string s)/\v.cell? ⟨C,1,none⟩=some (.int .i64 (Aj:Int))/\v.cell? ⟨C,2,none⟩=some (.int .i64 ej)/\v.cell? ⟨C,3,none⟩=some (.int .i64 pj)/\v.cell? ⟨K,0,none⟩=some (.slice pp0 l0.length q0)/\v.cell? ⟨K,1,none⟩=some (.slice pp1 l1.length q1)/\v.cell? ⟨K,2,none⟩=some (.slice pp2 l2.length q2)/\v.cell? ⟨K,3,none⟩=some (.slice pp3 l3.length q3)) fun hJ=>?_;refine wpAnyH_take (i:=0) (v:=?_) A8 kR kR kR A9 (Or.inl ⟨rF,?_⟩) Aa ?_
 rotate_left 1
 ·(intro wS hSw;(try dsimp only at hSw);go_simp;try(with_reducible rfl))
 try simp only[Act.put,List.setIfInBounds_toArray,List.set_cons_zero,List.set_cons_succ]
 refine wpAnyH_take (i:=1) (v:=?_) A8 kR kR kR A9 (Or.inl ⟨rF,?_⟩) Aa ?_
 rotate_left 1
 ·(intro wS hSw;(try dsimp only at hSw);go_simp;try(with_reducible rfl))
 try simp only[Act.put,List.setIfInBounds_toArray,List.set_cons_zero,List.set_cons_succ]
 clear hJ;refine AP 2 fun K hK=>?_;go_simp;refine AW hK fun hJ=>?_;clear hK K;clear hJ;refine AP 3 fun K hK=>?_;go_simp;refine AW hK fun hJ=>?_;clear hK K;refine wpAnyH_done kR ?_ _;try rw[HP_W5.out]
 try rw[HP_W6.out]
 go_wp2_with fail;try rw[HP_W5.out]
 try rw[HP_W6.out]
 clear cC0 cC1 cC2 cC3 cK0 cK1 cK2 cK3 cD0 cD1 cD2 cD3 cF0 cF1 cF2 cF3 zD0 zD1 zD2 zD3 zF0 zF1 zF2 zF3;refine bodyPost_ret (by simp[results,results28,go_sem, *];try rfl) rfl ?_;exact⟨Aj,ej,pj,l0,pp0,q0,l1,pp1,q1,l2,pp2,q2,l3,pp3,q3,rfl,HOW.out,HREL.out,HB.out⟩
end Go.Proofs.YtnlgkkbmbijndaaGreat
