import Derived.Test.YtchbjcldkcfffaaAgain1
import Derived.Test.YtchbjcldkcfffaaAgain5
import Derived.Deep.DeepCutAuto
import Derived.Test.YtchbjcldkcfffaaAgain4
namespace Go.Proofs.Ytchbjcldkcfffaa
open Go.RowKit Go.Proofs.Try
set_option linter.all false
set_option maxRecDepth 100000
set_option maxHeartbeats 16000000
theorem H9:(prog.info? 61).map (fun i=>(i.zero,i.size,i.bytes))=some (some (.slice none 0 0),1,24):=kR
theorem GH(m:Nat)(h:m<=5000000000000)(w:World):(Instr.makeSlice 75 (.int .i64 m) (.int .i64 m)).run prog w=.ok (.slice (some ⟨w.heap.size,0,none⟩) m m) (w.alloc (.cells (madeCells #[.slice none 0 0] m) 61)):=
 run_make_row' (P:=prog) 75 61 (.slice none 0 0) 24 underlying75 H9 rfl .i64 .i64 m oM oM w
structure Mo(w:World)(R S C B GB TB:Nat)(v:World):Prop where
 bel:Below w.heap.size w v
 b:v.rowIs B 77 7 (BH #[.pointer (some ⟨C,0,none⟩),.slice (some ⟨GB,0,none⟩) R R,.slice (some ⟨TB,0,none⟩) S S,.slice none 0 0,.slice none 0 0,.slice none 0 0,.slice none 0 0])
 g:v.rowIs GB 61 R (fun _=>.slice none 0 0)
 t:v.rowIs TB 61 S (fun _=>.slice none 0 0)
 hB:w.heap.size<=B
 hG:w.heap.size<=GB
 hT:w.heap.size<=TB
 n1:B≠GB
 n2:B≠TB
 n3:GB≠TB
theorem Il{w V:World}{R S C GB TB BB:Nat}(hb:Below w.heap.size w V)(hg:V.rowIs GB 61 R (fun _=>.slice none 0 0))(ht:V.rowIs TB 61 S (fun _=>.slice none 0 0))(hB:V.heap.size=BB)(h1:GB≠TB)(g1:w.heap.size<=GB)(g2:w.heap.size<=TB):
 Mo w R S C BB GB TB (V.alloc (.cells #[.pointer (some ⟨C,0,none⟩),.slice (some ⟨GB,0,none⟩) R R,.slice (some ⟨TB,0,none⟩) S S,.slice none 0 0,.slice none 0 0,.slice none 0 0,.slice none 0 0] 77)).drew:=by
 subst hB;have l1:=hg.lt;have l2:=ht.lt;exact⟨bel (bel hb (A0 _ _)) (Ah _),World.rowIs.drew (AH V _ _),World.rowIs.drew (hg.alloc _),World.rowIs.drew (ht.alloc _),hb.size,g1,g2,oM,oM,h1⟩
theorem J8(w:World)(z:Value)(N:Nat)(t:TypeId)(o2:Obj):((w.alloc (.cells (madeCells #[z] N) t)).alloc o2).rowIs w.heap.size t N (fun _=>z):=(World.rowIs_made w z N t).alloc _
theorem J9(w:World)(z:Value)(N:Nat)(t:TypeId)(o1:Obj):((w.alloc o1).alloc (.cells (madeCells #[z] N) t)).rowIs (w.heap.size+1) t N (fun _=>z):=by
 have h:=World.rowIs_made (w.alloc o1) z N t;rw[show(w.alloc o1).heap.size=w.heap.size+1 by simp]at h;exact h
def Mk:CF:=⟨fun _=>[],fun _=>[],fun _=>0,fun _=>0,fun _=>false,[]⟩
def FK(B GB TB AB NB DB:Nat)(b:Nat):Nat:=if b=B then 1 else if b=GB then 2 else if b=TB then 3 else if b=AB then 4 else if b=NB then 5 else if b=DB then 6 else 0
theorem Iu{E R S L C B GB TB AB NB DB:Nat}{V:World}(hb:V.rowIs B 77 7 (BH #[.pointer (some ⟨C,0,none⟩),.slice (some ⟨GB,0,none⟩) R R,.slice (some ⟨TB,0,none⟩) S S,.slice (some ⟨AB,0,none⟩) L L,.slice (some ⟨NB,0,none⟩) L L,.slice (some ⟨DB,0,none⟩) L L,.slice none 0 0]))(hg:V.rowIs GB 61 R (fun _=>.slice none 0 0))(ht:V.rowIs TB 61 S (fun _=>.slice none 0 0))(ha:V.rowIs AB 3 L (fun _=>.int .i64 0))(hn:V.rowIs NB 3 L (fun _=>.int .i64 0))(hd:V.rowIs DB 4 L (fun _=>.bool false))
 (e:E<=B/\E<=GB/\E<=TB/\E<=AB/\E<=NB/\E<=DB) (n:B≠GB/\B≠TB/\GB≠TB) (m:B<AB/\GB<AB/\TB<AB/\B<NB/\GB<NB/\TB<NB/\B<DB/\GB<DB/\TB<DB) (k:AB≠NB/\AB≠DB/\NB≠DB):
 AE E R S L Mk V B C GB TB AB NB DB (fun _=>.slice none 0 0) (fun _=>.slice none 0 0) (.slice none 0 0) (FK B GB TB AB NB DB):=by
 obtain⟨e1,e2,e3,e4,e5,e6⟩:=e;obtain⟨n1,n2,n3⟩:=n;obtain⟨m1,m2,m3,m4,m5,m6,m7,m8,m9⟩:=m;obtain⟨k1,k2,k3⟩:=k;refine⟨hb,hg,ht,ha,hn,hd,fun _ _=>World.ownsRow_nil _ _ _ 1,fun _ _=>World.ownsRow_nil _ _ _ 1,World.ownsRow_nil _ _ _ 1,e1,e2,e3,e4,e5,e6,?_,?_,?_,?_,?_,?_,fun r _ q hq=>(by cases hq),fun r _ q hq=>(by cases hq),fun q hq=>(by cases hq)⟩
 ·unfold FK;rw[if_pos rfl]
 ·unfold FK;rw[if_neg (fun q=>n1 q.symm),if_pos rfl]
 ·unfold FK;rw[if_neg (fun q=>n2 q.symm),if_neg (fun q=>n3 q.symm),if_pos rfl]
 ·unfold FK;rw[if_neg oM,if_neg oM,if_neg oM,if_pos rfl]
 ·unfold FK;rw[if_neg oM,if_neg oM,if_neg oM,if_neg (fun q=>k1 q.symm),if_pos rfl]
 ·unfold FK;rw[if_neg oM,if_neg oM,if_neg oM,if_neg (fun q=>k2 q.symm),if_neg (fun q=>k3 q.symm),if_pos rfl]
structure EN(l:List Ab)(j:Nat)(s:CF):Prop where
 nd:s.nd=fun _=>false
 todo:s.todo=[]
 sl:∀r,s.sl r=Jc l j r
 tl:∀r,s.tl r=Jn l j r
 ar:∀p,p<j->s.ar p=Dx l p
 en:∀b e,e<j->B7 l b e->s.en b=(e:Int)
theorem EN.zero(l:List Ab):EN l 0 Mk:=⟨rfl,rfl,fun _=>rfl,fun _=>rfl,fun p h=>by omega,fun b e h=>by omega⟩
theorem EN.all{l:List Ab}{s:CF}(h:EN l l.length s):BT l s LM:=by
 refine⟨h.nd,h.todo,fun r=>?_,fun r=>?_,h.ar,fun b e hm=>?_⟩
 ·rw[h.sl r];rfl
 ·rw[h.tl r];rfl
 ·rw[FY hm];exact h.en b e hm.1 hm
theorem Ke{op d a b e n z:Int}(hsb:Aa (⟨op,d,a,b,e,n,z⟩:Ab)=true)(hk:Au op=true)(hS:((A4 op).d != 0)=true):op<33:=by
 have h9:op<34:=FH hsb hk;by_cases e9:op=33
 ·rw[e9]at hS;exact absurd hS dE
 ·omega
theorem CT{w:World}{B:Nat}{t t':TypeId}{k n n' b:Nat}{v:Value}{xs:List Value}{f:Nat->Value}(h:w.ownsRow B t k v n xs)(h':w.rowIs b t' n' f)(ht:t≠t'):v.ownBlock≠some b:=by
 exact MK
theorem EF{w:World}{B X n:Nat}{v:Value}{xs:List Value}{f:Nat->Value}(hx:w.rowIs X 40 7 f)(ho:w.ownsRow B 3 1 v n xs)(q:v.ownBlock=some X):False:=CT ho hx dE q
section
variable {l : List Ab} {j : Nat} {s : CF}
theorem EN.oth(h:EN l j s)(hj:j<l.length)(h1:Aa l[j]=false)(h2:l[j].op≠33)(h3:¬ (l[j].op=35\/l[j].op=37)){a:Int}(ha:a=Dx l j):EN l (j+1) {s with ar:=fun k=>if k=j then a else s.ar k}:=by
 refine⟨h.nd,h.todo,fun r=>?_,fun r=>?_,fun p hp=>?_,fun b e he hm=>?_⟩
 ·exact LX
 ·exact LZ
 ·exact LC
 ·have:e≠j:=fun w=>by subst w;exact h3 hm.2.1
  exact h.en b e oM hm
theorem EN.set_(h:EN l j s)(hj:j<l.length)(h1:Aa l[j]=true)(h2:l[j].op≠33)(h3:¬ (l[j].op=35\/l[j].op=37)){D:Nat}(hD:l[j].d.toNat=D){a:Int}(ha:a=Dx l j):EN l (j+1) {s with sl:=fun k=>if k=D then s.sl D++[j]else s.sl k,ar:=fun k=>if k=j then a else s.ar k}:=by
 refine⟨h.nd,h.todo,fun r=>?_,fun r=>?_,fun p hp=>?_,fun b e he hm=>?_⟩
 ·show(if r=D then s.sl D++[j]else s.sl r)=_;rw[EH hj];by_cases e:r=D
  ·rw[if_pos e,if_pos ⟨h1,by rw[e];exact hD⟩,h.sl D,e]
  ·rw[if_neg e,if_neg (fun q=>e (by rw[←q.2];exact hD)),List.append_nil];exact h.sl r
 ·exact LZ
 ·exact LC
 ·have:e≠j:=fun w=>by subst w;exact h3 hm.2.1
  exact h.en b e oM hm
theorem EN.sto(h:EN l j s)(hj:j<l.length)(h1:Aa l[j]=false)(h2:l[j].op=33){D:Nat}(hD:l[j].n.toNat=D){a:Int}(ha:a=Dx l j):EN l (j+1) {s with tl:=fun k=>if k=D then s.tl D++[j]else s.tl k,ar:=fun k=>if k=j then a else s.ar k}:=by
 refine⟨h.nd,h.todo,fun r=>?_,fun r=>?_,fun p hp=>?_,fun b e he hm=>?_⟩
 ·exact LX
 ·show(if r=D then s.tl D++[j]else s.tl r)=_;rw[EL hj];by_cases e:r=D
  ·rw[if_pos e,if_pos ⟨h2,by rw[e];exact hD⟩,h.tl D,e]
  ·rw[if_neg e,if_neg (fun q=>e (by rw[←q.2];exact hD)),List.append_nil];exact h.tl r
 ·exact LC
 ·have:e≠j:=fun w=>by subst w;have h9:=hm.2.1;omega
  exact h.en b e oM hm
theorem EN.fin(h:EN l j s)(hj:j<l.length)(h1:Aa l[j]=false)(h2:l[j].op≠33){b:Nat}(hm:B7 l b j){a:Int}(ha:a=Dx l j):EN l (j+1) {s with en:=fun k=>if k=b then(j:Int)else s.en k,ar:=fun k=>if k=j then a else s.ar k}:=by
 refine⟨h.nd,h.todo,fun r=>?_,fun r=>?_,fun p hp=>?_,fun b' e he hm'=>?_⟩
 ·exact LX
 ·exact LZ
 ·exact LC
 ·show(if b'=b then(j:Int)else s.en b')=_;by_cases q:b'=b
  ·subst q;rw[if_pos rfl,Dk hm' hm]
  ·rw[if_neg q];have:e≠j:=fun w=>by
    subst w;obtain⟨_,_,x1⟩:=hm;obtain⟨_,_,x2⟩:=hm';rw[x1]at x2;exact q (by simpa using x2.symm)
   exact h.en b' e oM hm'
theorem Jd(l:List Ab)(j r:Nat):(Jc l j r).length<=j:=Nat.le_trans (List.length_filter_le _ _) sM
theorem Jo(l:List Ab)(j r:Nat):(Jn l j r).length<=j:=Nat.le_trans (List.length_filter_le _ _) sM
end
def N9(E R S L:Nat)(l:List Ab)(C:Nat)(w w':World)(v:Value):Prop:=∃B GB TB AB NB DB vg vt vd tag s,v=.pointer (some ⟨B,0,none⟩)/\AE E R S L s w' B C GB TB AB NB DB vg vt vd tag/\BT l s LM/\Below E w w'
theorem Ih(c:Cd)(hc:(Aj c).1=0)(w:World)(C:Nat)(p1 p2 p3:Option Addr)(q1 q2 q3:Nat)(hR:c.regs.length<=16384)(hS:c.slots.length<=4096)(hL:c.list.length<=32768)(hC1:w.cell? ⟨C,1,none⟩=some (.slice p1 c.regs.length q1))(hC2:w.cell? ⟨C,2,none⟩=some (.slice p2 c.slots.length q2))(hC3:w.cell? ⟨C,3,none⟩=some (.slice p3 c.list.length q3))(hl:AI 7 AS w (.slice p3 c.list.length q3) c.list):
 Calls prog 26 #[.pointer (some ⟨C,0,none⟩)] w fun e w'=>∃v,e=.returned v/\N9 w.heap.size c.regs.length c.slots.length c.list.length c.list C w w' v:=by
 have HL:=A2 hl;have HCC:=A2 hc;have HD:Hid (∀i∈c.list,Aa i=true->0<=i.d/\i.d<(c.regs.length:Int)):=fun i hi hs=>by
  obtain⟨hg,htk⟩:=DJ hc;obtain⟨L,R,e,t⟩:=Jp htk hi;exact Gt t hs
 have HKN:Hid (∀i∈c.list,Au i.op=true):=Fh hc;obtain⟨R,hRe⟩:∃N,c.regs.length=N:=⟨_,rfl⟩
 obtain⟨S,hSe⟩:∃N,c.slots.length=N:=⟨_,rfl⟩
 obtain⟨M,hMe⟩:∃M,c.list.length=M:=⟨_,rfl⟩
 simp only[hRe]at hC1 hR HD ⊢;simp only[hSe]at hC2 hS ⊢;simp only[hMe]at hC3 hL HL ⊢;have HM:=A2 hMe;have HSE:=A2 hSe;have m1:=fun v=>GH R oM v;have m2:=fun v=>GH S oM v;have m3:=fun v=>Gg M oM v;have m4:=fun v=>Gf M oM v;have lC:C<w.heap.size:=Ac hC1;have n0:¬C=w.heap.size:=oM;have n1:¬C=w.heap.size+1:=oM;have n2:¬C=w.heap.size+1+1:=oM;have kC1:∀o1 o2,((w.alloc o1).alloc o2).cell? ⟨C,1,none⟩=some (.slice p1 R q1):=fun o1 o2=>kc (bel (A0 _ _) (A0 _ _)) hC1;have kC2:∀o1 o2,((w.alloc o1).alloc o2).cell? ⟨C,2,none⟩=some (.slice p2 S q2):=fun o1 o2=>kc (bel (A0 _ _) (A0 _ _)) hC2;have kC3:∀o1 o2 o3,(((w.alloc o1).alloc o2).alloc o3).cell? ⟨C,1,none⟩=some (.slice p1 R q1):=fun o1 o2 o3=>kc (bel (bel (A0 _ _) (A0 _ _)) (A0 _ _)) hC1;have kC4:∀o1 o2 o3,(((w.alloc o1).alloc o2).alloc o3).cell? ⟨C,2,none⟩=some (.slice p2 S q2):=fun o1 o2 o3=>kc (bel (bel (A0 _ _) (A0 _ _)) (A0 _ _)) hC2;clear hl hRe hSe hMe hc;go_enter func26,ntmps26;go_upto_region 2 with fail;go_cut [4] (fun bv wx=>∃B GB TB,bv=.pointer (some ⟨B,0,none⟩)/\Mo w R S C B GB TB wx)
 case first=>
  refine rG (fun v=>v.cell? ⟨C,1,none⟩=some (.slice p1 R q1)/\v.cell? ⟨C,2,none⟩=some (.slice p2 S q2)) fun hHeld=>?_;refine Tf 0 1 2 3 4 5 ?_;refine Tc 7 8 9 ?_;refine Tb 10 11 ?_;clear hHeld;refine wpAnyH_ready (rs:=[6,12]) kR sM ?_;refine CM 6 (fun K hK=>?_) ?_
  ·go_simp;refine As hK fun hHeld=>?_;clear hK K;clear hHeld;refine Aw 12 fun K hK=>?_;exact MC
  refine CM 12 (fun K hK=>?_) AllReadyH.nil;go_simp;refine As hK fun hHeld=>?_;clear hK K;clear hHeld;refine Aw 6 fun K hK=>?_;exact MC
 case rest=>
  obtain⟨B,GB,TB,rfl,hns⟩:=hcut;have HNS:=A2 hns;have d3:=kc hns.bel hC3;have lB:B<wc.heap.size:=hns.b.lt;have lG:GB<wc.heap.size:=hns.g.lt;have lT:TB<wc.heap.size:=hns.t.lt;have lC3:C<wc.heap.size:=Ac d3;have b0:wc.cell? ⟨B,3,none⟩=some (.slice none 0 0):=hns.b.cell (i:=3) dE;have b1:wc.cell? ⟨B,4,none⟩=some (.slice none 0 0):=hns.b.cell (i:=4) dE;have b2:wc.cell? ⟨B,5,none⟩=some (.slice none 0 0):=hns.b.cell (i:=5) dE;have fb:∀k,wc.frozen? ⟨B,k,none⟩=false:=hns.b.frozen;have y0:¬B=wc.heap.size:=oM;have y1:¬B=wc.heap.size+1:=oM;have y2:¬B=wc.heap.size+1+1:=oM;clear hns n0 n1 n2 kC1 kC2 kC3 kC4;go_upto_region 3 with fail;go_cut [4] (fun bv wx=>bv=.pointer (some ⟨B,0,none⟩)/\∃AB NB DB,AE w.heap.size R S M Mk wx B C GB TB AB NB DB (fun _=>.slice none 0 0) (fun _=>.slice none 0 0) (.slice none 0 0) (FK B GB TB AB NB DB)/\Below w.heap.size w wx)
  case first=>as_aux_lemma=>
   have nCB:C≠B:=by have:=HNS.out.hB;omega
   refine rG (fun v=>v.cell? ⟨C,3,none⟩=some (.slice p3 M q3)) fun hHeld=>?_;refine Tf 0 1 2 3 5 7 ?_;clear hHeld;refine wpAnyH_ready (rs:=[4,6,8]) kR sM ?_;refine CM 4 (fun K hK=>?_) ?_
   ·go_simp;obtain⟨U1,hU⟩:∃W,(wc.alloc (.cells (madeCells #[.int .i64 0] M) 3)).drew=W:=⟨_,rfl⟩
    rw[hU];have hb1:=World.rowIs.drew (HNS.out.b.alloc (.cells (madeCells #[.int .i64 0] M) 3));have hg1:=World.rowIs.drew (HNS.out.g.alloc (.cells (madeCells #[.int .i64 0] M) 3));have ht1:=World.rowIs.drew (HNS.out.t.alloc (.cells (madeCells #[.int .i64 0] M) 3));have rA1:=World.rowIs.drew (World.rowIs_made wc (.int .i64 0) M 3);have hc1:=kc (bel (A0 wc (.cells (madeCells #[.int .i64 0] M) 3)) (Ah _)) d3;have be1:=HNS.out.bel.trans ((bel (A0 wc (.cells (madeCells #[.int .i64 0] M) 3)) (Ah _)).mono HNS.out.bel.size);have hs1:Hid (U1.heap.size=wc.heap.size+1):=by show _=_;rw[←hU];simp
    rw[hU]at hb1 hg1 ht1 rA1 hc1 be1;have lB1:=hb1.lt;clear hU;refine As hK fun hHeld=>?_;clear hK K;refine Tb 9 10 ?_;clear hHeld;refine wpAnyH_ready (rs:=[6,8,11]) kR sM ?_;refine CM 6 (fun K hK=>?_) ?_
    ·go_simp;obtain⟨U2,hU⟩:∃W,(U1.alloc (.cells (madeCells #[.int .i64 0] M) 3))=W:=⟨_,rfl⟩
     rw[hU];have hb2:=hb1.alloc (.cells (madeCells #[.int .i64 0] M) 3);have hg2:=hg1.alloc (.cells (madeCells #[.int .i64 0] M) 3);have ht2:=ht1.alloc (.cells (madeCells #[.int .i64 0] M) 3);have rA2:=rA1.alloc (.cells (madeCells #[.int .i64 0] M) 3);have rN2:=World.rowIs_made U1 (.int .i64 0) M 3;have hc2:=kc (A0 U1 (.cells (madeCells #[.int .i64 0] M) 3)) hc1;have be2:=be1.trans ((A0 U1 (.cells (madeCells #[.int .i64 0] M) 3)).mono be1.size);have hs2:Hid (U2.heap.size=U1.heap.size+1):=by show _=_;rw[←hU];simp
     rw[hU]at hb2 hg2 ht2 rA2 rN2 hc2 be2;have lB2:=hb2.lt;clear hU;refine As hK fun hHeld=>?_;clear hK K;clear hHeld;refine wpAnyH_ready (rs:=[8,11]) kR sM ?_;refine CM 8 (fun K hK=>?_) ?_
     ·go_simp;obtain⟨U3,hU⟩:∃W,(U2.alloc (.cells (madeCells #[.bool false] M) 4))=W:=⟨_,rfl⟩
      rw[hU];have hb3:=hb2.alloc (.cells (madeCells #[.bool false] M) 4);have hg3:=hg2.alloc (.cells (madeCells #[.bool false] M) 4);have ht3:=ht2.alloc (.cells (madeCells #[.bool false] M) 4);have rA3:=rA2.alloc (.cells (madeCells #[.bool false] M) 4);have rN3:=rN2.alloc (.cells (madeCells #[.bool false] M) 4);have rD3:=World.rowIs_made U2 (.bool false) M 4;have hc3:=kc (A0 U2 (.cells (madeCells #[.bool false] M) 4)) hc2;have be3:=be2.trans ((A0 U2 (.cells (madeCells #[.bool false] M) 4)).mono be2.size);have hs3:Hid (U3.heap.size=U2.heap.size+1):=by show _=_;rw[←hU];simp
      rw[hU]at hb3 hg3 ht3 rA3 rN3 rD3 hc3 be3;have lB3:=hb3.lt;clear hU;refine As hK fun hHeld=>?_;clear hK K;clear hHeld;refine Aw 11 fun K hK=>?_;have q1:=hb3.cell (i:=3) dE;have q2:=hb3.frozen 3;go_simp;clear q1 q2;obtain⟨U4,hU⟩:∃W,U3.setCell ⟨B,3,none⟩ (.slice (some ⟨wc.heap.size,0,none⟩) M M)=W:=⟨_,rfl⟩
      rw[hU];have hb4:=hb3.set 3 (.slice (some ⟨wc.heap.size,0,none⟩) M M);have hg4:=hg3.setOther (a:=⟨B,3,none⟩) HNS.out.n1.symm (.slice (some ⟨wc.heap.size,0,none⟩) M M);have ht4:=ht3.setOther (a:=⟨B,3,none⟩) HNS.out.n2.symm (.slice (some ⟨wc.heap.size,0,none⟩) M M);have rA4:=rA3.setOther (a:=⟨B,3,none⟩) Av (.slice (some ⟨wc.heap.size,0,none⟩) M M);have rN4:=rN3.setOther (a:=⟨B,3,none⟩) Av (.slice (some ⟨wc.heap.size,0,none⟩) M M);have rD4:=rD3.setOther (a:=⟨B,3,none⟩) Av (.slice (some ⟨wc.heap.size,0,none⟩) M M);have hc4:=(World.cell?_of_block (a:=⟨C,3,none⟩) (Below.heap_setCell U3 ⟨B,3,none⟩ (.slice (some ⟨wc.heap.size,0,none⟩) M M) _ nCB)).trans hc3;have be4:=(be3.setCell HNS.out.hB _:Below w.heap.size w (U3.setCell ⟨B,3,none⟩ (.slice (some ⟨wc.heap.size,0,none⟩) M M)))
      have hs4:Hid (U4.heap.size=U3.heap.size):=by show _=_;rw[←hU];simp
      rw[hU]at hb4 hg4 ht4 rA4 rN4 rD4 hc4 be4;have lB4:=hb4.lt;clear hU;refine As hK fun hHeld=>?_;clear hK K;refine Tb 12 13 ?_;clear hHeld;refine Aw 14 fun K hK=>?_;have q1:=hb4.cell (i:=4) dE;have q2:=hb4.frozen 4;go_simp;clear q1 q2;obtain⟨U5,hU⟩:∃W,U4.setCell ⟨B,4,none⟩ (.slice (some ⟨U1.heap.size,0,none⟩) M M)=W:=⟨_,rfl⟩
      rw[hU];have hb5:=hb4.set 4 (.slice (some ⟨U1.heap.size,0,none⟩) M M);have hg5:=hg4.setOther (a:=⟨B,4,none⟩) HNS.out.n1.symm (.slice (some ⟨U1.heap.size,0,none⟩) M M);have ht5:=ht4.setOther (a:=⟨B,4,none⟩) HNS.out.n2.symm (.slice (some ⟨U1.heap.size,0,none⟩) M M);have rA5:=rA4.setOther (a:=⟨B,4,none⟩) Av (.slice (some ⟨U1.heap.size,0,none⟩) M M);have rN5:=rN4.setOther (a:=⟨B,4,none⟩) Av (.slice (some ⟨U1.heap.size,0,none⟩) M M);have rD5:=rD4.setOther (a:=⟨B,4,none⟩) Av (.slice (some ⟨U1.heap.size,0,none⟩) M M);have hc5:=(World.cell?_of_block (a:=⟨C,3,none⟩) (Below.heap_setCell U4 ⟨B,4,none⟩ (.slice (some ⟨U1.heap.size,0,none⟩) M M) _ nCB)).trans hc4;have be5:=(be4.setCell HNS.out.hB _:Below w.heap.size w (U4.setCell ⟨B,4,none⟩ (.slice (some ⟨U1.heap.size,0,none⟩) M M)))
      have hs5:Hid (U5.heap.size=U4.heap.size):=by show _=_;rw[←hU];simp
      rw[hU]at hb5 hg5 ht5 rA5 rN5 rD5 hc5 be5;have lB5:=hb5.lt;clear hU;refine As hK fun hHeld=>?_;clear hK K;refine Tb 15 16 ?_;clear hHeld;refine Aw 17 fun K hK=>?_;have q1:=hb5.cell (i:=5) dE;have q2:=hb5.frozen 5;go_simp;clear q1 q2;obtain⟨U6,hU⟩:∃W,U5.setCell ⟨B,5,none⟩ (.slice (some ⟨U2.heap.size,0,none⟩) M M)=W:=⟨_,rfl⟩
      rw[hU];have hb6:=hb5.set 5 (.slice (some ⟨U2.heap.size,0,none⟩) M M);have hg6:=hg5.setOther (a:=⟨B,5,none⟩) HNS.out.n1.symm (.slice (some ⟨U2.heap.size,0,none⟩) M M);have ht6:=ht5.setOther (a:=⟨B,5,none⟩) HNS.out.n2.symm (.slice (some ⟨U2.heap.size,0,none⟩) M M);have rA6:=rA5.setOther (a:=⟨B,5,none⟩) Av (.slice (some ⟨U2.heap.size,0,none⟩) M M);have rN6:=rN5.setOther (a:=⟨B,5,none⟩) Av (.slice (some ⟨U2.heap.size,0,none⟩) M M);have rD6:=rD5.setOther (a:=⟨B,5,none⟩) Av (.slice (some ⟨U2.heap.size,0,none⟩) M M);have hc6:=(World.cell?_of_block (a:=⟨C,3,none⟩) (Below.heap_setCell U5 ⟨B,5,none⟩ (.slice (some ⟨U2.heap.size,0,none⟩) M M) _ nCB)).trans hc5;have be6:=(be5.setCell HNS.out.hB _:Below w.heap.size w (U5.setCell ⟨B,5,none⟩ (.slice (some ⟨U2.heap.size,0,none⟩) M M)))
      have hs6:Hid (U6.heap.size=U5.heap.size):=by show _=_;rw[←hU];simp
      rw[hU]at hb6 hg6 ht6 rA6 rN6 rD6 hc6 be6;exact FQ
     refine CM 11 (fun K hK=>?_) AllReadyH.nil;have q1:=hb2.cell (i:=3) dE;have q2:=hb2.frozen 3;go_simp;clear q1 q2;obtain⟨U3,hU⟩:∃W,U2.setCell ⟨B,3,none⟩ (.slice (some ⟨wc.heap.size,0,none⟩) M M)=W:=⟨_,rfl⟩
     rw[hU];have hb3:=hb2.set 3 (.slice (some ⟨wc.heap.size,0,none⟩) M M);have hg3:=hg2.setOther (a:=⟨B,3,none⟩) HNS.out.n1.symm (.slice (some ⟨wc.heap.size,0,none⟩) M M);have ht3:=ht2.setOther (a:=⟨B,3,none⟩) HNS.out.n2.symm (.slice (some ⟨wc.heap.size,0,none⟩) M M);have rA3:=rA2.setOther (a:=⟨B,3,none⟩) Av (.slice (some ⟨wc.heap.size,0,none⟩) M M);have rN3:=rN2.setOther (a:=⟨B,3,none⟩) Av (.slice (some ⟨wc.heap.size,0,none⟩) M M);have hc3:=(World.cell?_of_block (a:=⟨C,3,none⟩) (Below.heap_setCell U2 ⟨B,3,none⟩ (.slice (some ⟨wc.heap.size,0,none⟩) M M) _ nCB)).trans hc2;have be3:=(be2.setCell HNS.out.hB _:Below w.heap.size w (U2.setCell ⟨B,3,none⟩ (.slice (some ⟨wc.heap.size,0,none⟩) M M)))
     have hs3:Hid (U3.heap.size=U2.heap.size):=by show _=_;rw[←hU];simp
     rw[hU]at hb3 hg3 ht3 rA3 rN3 hc3 be3;have lB3:=hb3.lt;clear hU;refine As hK fun hHeld=>?_;clear hK K;refine Tb 12 13 ?_;clear hHeld;refine wpAnyH_ready (rs:=[8,14]) kR sM ?_;refine CM 8 (fun K hK=>?_) ?_
     ·go_simp;obtain⟨U4,hU⟩:∃W,(U3.alloc (.cells (madeCells #[.bool false] M) 4))=W:=⟨_,rfl⟩
      rw[hU];have hb4:=hb3.alloc (.cells (madeCells #[.bool false] M) 4);have hg4:=hg3.alloc (.cells (madeCells #[.bool false] M) 4);have ht4:=ht3.alloc (.cells (madeCells #[.bool false] M) 4);have rA4:=rA3.alloc (.cells (madeCells #[.bool false] M) 4);have rN4:=rN3.alloc (.cells (madeCells #[.bool false] M) 4);have rD4:=World.rowIs_made U3 (.bool false) M 4;have hc4:=kc (A0 U3 (.cells (madeCells #[.bool false] M) 4)) hc3;have be4:=be3.trans ((A0 U3 (.cells (madeCells #[.bool false] M) 4)).mono be3.size);have hs4:Hid (U4.heap.size=U3.heap.size+1):=by show _=_;rw[←hU];simp
      rw[hU]at hb4 hg4 ht4 rA4 rN4 rD4 hc4 be4;have lB4:=hb4.lt;clear hU;refine As hK fun hHeld=>?_;clear hK K;clear hHeld;refine Aw 14 fun K hK=>?_;have q1:=hb4.cell (i:=4) dE;have q2:=hb4.frozen 4;go_simp;clear q1 q2;obtain⟨U5,hU⟩:∃W,U4.setCell ⟨B,4,none⟩ (.slice (some ⟨U1.heap.size,0,none⟩) M M)=W:=⟨_,rfl⟩
      rw[hU];have hb5:=hb4.set 4 (.slice (some ⟨U1.heap.size,0,none⟩) M M);have hg5:=hg4.setOther (a:=⟨B,4,none⟩) HNS.out.n1.symm (.slice (some ⟨U1.heap.size,0,none⟩) M M);have ht5:=ht4.setOther (a:=⟨B,4,none⟩) HNS.out.n2.symm (.slice (some ⟨U1.heap.size,0,none⟩) M M);have rA5:=rA4.setOther (a:=⟨B,4,none⟩) Av (.slice (some ⟨U1.heap.size,0,none⟩) M M);have rN5:=rN4.setOther (a:=⟨B,4,none⟩) Av (.slice (some ⟨U1.heap.size,0,none⟩) M M);have rD5:=rD4.setOther (a:=⟨B,4,none⟩) Av (.slice (some ⟨U1.heap.size,0,none⟩) M M);have hc5:=(World.cell?_of_block (a:=⟨C,3,none⟩) (Below.heap_setCell U4 ⟨B,4,none⟩ (.slice (some ⟨U1.heap.size,0,none⟩) M M) _ nCB)).trans hc4;have be5:=(be4.setCell HNS.out.hB _:Below w.heap.size w (U4.setCell ⟨B,4,none⟩ (.slice (some ⟨U1.heap.size,0,none⟩) M M)))
      have hs5:Hid (U5.heap.size=U4.heap.size):=by show _=_;rw[←hU];simp
      rw[hU]at hb5 hg5 ht5 rA5 rN5 rD5 hc5 be5;have lB5:=hb5.lt;clear hU;refine As hK fun hHeld=>?_;clear hK K;refine Tb 15 16 ?_;clear hHeld;refine Aw 17 fun K hK=>?_;have q1:=hb5.cell (i:=5) dE;have q2:=hb5.frozen 5;go_simp;clear q1 q2;obtain⟨U6,hU⟩:∃W,U5.setCell ⟨B,5,none⟩ (.slice (some ⟨U3.heap.size,0,none⟩) M M)=W:=⟨_,rfl⟩
      rw[hU];have hb6:=hb5.set 5 (.slice (some ⟨U3.heap.size,0,none⟩) M M);have hg6:=hg5.setOther (a:=⟨B,5,none⟩) HNS.out.n1.symm (.slice (some ⟨U3.heap.size,0,none⟩) M M);have ht6:=ht5.setOther (a:=⟨B,5,none⟩) HNS.out.n2.symm (.slice (some ⟨U3.heap.size,0,none⟩) M M);have rA6:=rA5.setOther (a:=⟨B,5,none⟩) Av (.slice (some ⟨U3.heap.size,0,none⟩) M M);have rN6:=rN5.setOther (a:=⟨B,5,none⟩) Av (.slice (some ⟨U3.heap.size,0,none⟩) M M);have rD6:=rD5.setOther (a:=⟨B,5,none⟩) Av (.slice (some ⟨U3.heap.size,0,none⟩) M M);have hc6:=(World.cell?_of_block (a:=⟨C,3,none⟩) (Below.heap_setCell U5 ⟨B,5,none⟩ (.slice (some ⟨U3.heap.size,0,none⟩) M M) _ nCB)).trans hc5;have be6:=(be5.setCell HNS.out.hB _:Below w.heap.size w (U5.setCell ⟨B,5,none⟩ (.slice (some ⟨U3.heap.size,0,none⟩) M M)))
      have hs6:Hid (U6.heap.size=U5.heap.size):=by show _=_;rw[←hU];simp
      rw[hU]at hb6 hg6 ht6 rA6 rN6 rD6 hc6 be6;exact FQ
     refine CM 14 (fun K hK=>?_) AllReadyH.nil;have q1:=hb3.cell (i:=4) dE;have q2:=hb3.frozen 4;go_simp;clear q1 q2;obtain⟨U4,hU⟩:∃W,U3.setCell ⟨B,4,none⟩ (.slice (some ⟨U1.heap.size,0,none⟩) M M)=W:=⟨_,rfl⟩
     rw[hU];have hb4:=hb3.set 4 (.slice (some ⟨U1.heap.size,0,none⟩) M M);have hg4:=hg3.setOther (a:=⟨B,4,none⟩) HNS.out.n1.symm (.slice (some ⟨U1.heap.size,0,none⟩) M M);have ht4:=ht3.setOther (a:=⟨B,4,none⟩) HNS.out.n2.symm (.slice (some ⟨U1.heap.size,0,none⟩) M M);have rA4:=rA3.setOther (a:=⟨B,4,none⟩) Av (.slice (some ⟨U1.heap.size,0,none⟩) M M);have rN4:=rN3.setOther (a:=⟨B,4,none⟩) Av (.slice (some ⟨U1.heap.size,0,none⟩) M M);have hc4:=(World.cell?_of_block (a:=⟨C,3,none⟩) (Below.heap_setCell U3 ⟨B,4,none⟩ (.slice (some ⟨U1.heap.size,0,none⟩) M M) _ nCB)).trans hc3;have be4:=(be3.setCell HNS.out.hB _:Below w.heap.size w (U3.setCell ⟨B,4,none⟩ (.slice (some ⟨U1.heap.size,0,none⟩) M M)))
     have hs4:Hid (U4.heap.size=U3.heap.size):=by show _=_;rw[←hU];simp
     rw[hU]at hb4 hg4 ht4 rA4 rN4 hc4 be4;have lB4:=hb4.lt;clear hU;refine As hK fun hHeld=>?_;clear hK K;clear hHeld;refine Aw 8 fun K hK=>?_;go_simp;obtain⟨U5,hU⟩:∃W,(U4.alloc (.cells (madeCells #[.bool false] M) 4))=W:=⟨_,rfl⟩
     rw[hU];have hb5:=hb4.alloc (.cells (madeCells #[.bool false] M) 4);have hg5:=hg4.alloc (.cells (madeCells #[.bool false] M) 4);have ht5:=ht4.alloc (.cells (madeCells #[.bool false] M) 4);have rA5:=rA4.alloc (.cells (madeCells #[.bool false] M) 4);have rN5:=rN4.alloc (.cells (madeCells #[.bool false] M) 4);have rD5:=World.rowIs_made U4 (.bool false) M 4;have hc5:=kc (A0 U4 (.cells (madeCells #[.bool false] M) 4)) hc4;have be5:=be4.trans ((A0 U4 (.cells (madeCells #[.bool false] M) 4)).mono be4.size);have hs5:Hid (U5.heap.size=U4.heap.size+1):=by show _=_;rw[←hU];simp
     rw[hU]at hb5 hg5 ht5 rA5 rN5 rD5 hc5 be5;have lB5:=hb5.lt;clear hU;refine As hK fun hHeld=>?_;clear hK K;refine Tb 15 16 ?_;clear hHeld;refine Aw 17 fun K hK=>?_;have q1:=hb5.cell (i:=5) dE;have q2:=hb5.frozen 5;go_simp;clear q1 q2;obtain⟨U6,hU⟩:∃W,U5.setCell ⟨B,5,none⟩ (.slice (some ⟨U4.heap.size,0,none⟩) M M)=W:=⟨_,rfl⟩
     rw[hU];have hb6:=hb5.set 5 (.slice (some ⟨U4.heap.size,0,none⟩) M M);have hg6:=hg5.setOther (a:=⟨B,5,none⟩) HNS.out.n1.symm (.slice (some ⟨U4.heap.size,0,none⟩) M M);have ht6:=ht5.setOther (a:=⟨B,5,none⟩) HNS.out.n2.symm (.slice (some ⟨U4.heap.size,0,none⟩) M M);have rA6:=rA5.setOther (a:=⟨B,5,none⟩) Av (.slice (some ⟨U4.heap.size,0,none⟩) M M);have rN6:=rN5.setOther (a:=⟨B,5,none⟩) Av (.slice (some ⟨U4.heap.size,0,none⟩) M M);have rD6:=rD5.setOther (a:=⟨B,5,none⟩) Av (.slice (some ⟨U4.heap.size,0,none⟩) M M);have hc6:=(World.cell?_of_block (a:=⟨C,3,none⟩) (Below.heap_setCell U5 ⟨B,5,none⟩ (.slice (some ⟨U4.heap.size,0,none⟩) M M) _ nCB)).trans hc5;have be6:=(be5.setCell HNS.out.hB _:Below w.heap.size w (U5.setCell ⟨B,5,none⟩ (.slice (some ⟨U4.heap.size,0,none⟩) M M)))
     have hs6:Hid (U6.heap.size=U5.heap.size):=by show _=_;rw[←hU];simp
     rw[hU]at hb6 hg6 ht6 rA6 rN6 rD6 hc6 be6;exact FQ
    refine CM 8 (fun K hK=>?_) ?_
    ·go_simp;obtain⟨U2,hU⟩:∃W,(U1.alloc (.cells (madeCells #[.bool false] M) 4))=W:=⟨_,rfl⟩
     rw[hU];have hb2:=hb1.alloc (.cells (madeCells #[.bool false] M) 4);have hg2:=hg1.alloc (.cells (madeCells #[.bool false] M) 4);have ht2:=ht1.alloc (.cells (madeCells #[.bool false] M) 4);have rA2:=rA1.alloc (.cells (madeCells #[.bool false] M) 4);have rD2:=World.rowIs_made U1 (.bool false) M 4;have hc2:=kc (A0 U1 (.cells (madeCells #[.bool false] M) 4)) hc1;have be2:=be1.trans ((A0 U1 (.cells (madeCells #[.bool false] M) 4)).mono be1.size);have hs2:Hid (U2.heap.size=U1.heap.size+1):=by show _=_;rw[←hU];simp
     rw[hU]at hb2 hg2 ht2 rA2 rD2 hc2 be2;have lB2:=hb2.lt;clear hU;refine As hK fun hHeld=>?_;clear hK K;clear hHeld;refine wpAnyH_ready (rs:=[6,11]) kR sM ?_;refine CM 6 (fun K hK=>?_) ?_
     ·go_simp;obtain⟨U3,hU⟩:∃W,(U2.alloc (.cells (madeCells #[.int .i64 0] M) 3))=W:=⟨_,rfl⟩
      rw[hU];have hb3:=hb2.alloc (.cells (madeCells #[.int .i64 0] M) 3);have hg3:=hg2.alloc (.cells (madeCells #[.int .i64 0] M) 3);have ht3:=ht2.alloc (.cells (madeCells #[.int .i64 0] M) 3);have rA3:=rA2.alloc (.cells (madeCells #[.int .i64 0] M) 3);have rD3:=rD2.alloc (.cells (madeCells #[.int .i64 0] M) 3);have rN3:=World.rowIs_made U2 (.int .i64 0) M 3;have hc3:=kc (A0 U2 (.cells (madeCells #[.int .i64 0] M) 3)) hc2;have be3:=be2.trans ((A0 U2 (.cells (madeCells #[.int .i64 0] M) 3)).mono be2.size);have hs3:Hid (U3.heap.size=U2.heap.size+1):=by show _=_;rw[←hU];simp
      rw[hU]at hb3 hg3 ht3 rA3 rD3 rN3 hc3 be3;have lB3:=hb3.lt;clear hU;refine As hK fun hHeld=>?_;clear hK K;clear hHeld;refine Aw 11 fun K hK=>?_;have q1:=hb3.cell (i:=3) dE;have q2:=hb3.frozen 3;go_simp;clear q1 q2;obtain⟨U4,hU⟩:∃W,U3.setCell ⟨B,3,none⟩ (.slice (some ⟨wc.heap.size,0,none⟩) M M)=W:=⟨_,rfl⟩
      rw[hU];have hb4:=hb3.set 3 (.slice (some ⟨wc.heap.size,0,none⟩) M M);have hg4:=hg3.setOther (a:=⟨B,3,none⟩) HNS.out.n1.symm (.slice (some ⟨wc.heap.size,0,none⟩) M M);have ht4:=ht3.setOther (a:=⟨B,3,none⟩) HNS.out.n2.symm (.slice (some ⟨wc.heap.size,0,none⟩) M M);have rA4:=rA3.setOther (a:=⟨B,3,none⟩) Av (.slice (some ⟨wc.heap.size,0,none⟩) M M);have rD4:=rD3.setOther (a:=⟨B,3,none⟩) Av (.slice (some ⟨wc.heap.size,0,none⟩) M M);have rN4:=rN3.setOther (a:=⟨B,3,none⟩) Av (.slice (some ⟨wc.heap.size,0,none⟩) M M);have hc4:=(World.cell?_of_block (a:=⟨C,3,none⟩) (Below.heap_setCell U3 ⟨B,3,none⟩ (.slice (some ⟨wc.heap.size,0,none⟩) M M) _ nCB)).trans hc3;have be4:=(be3.setCell HNS.out.hB _:Below w.heap.size w (U3.setCell ⟨B,3,none⟩ (.slice (some ⟨wc.heap.size,0,none⟩) M M)))
      have hs4:Hid (U4.heap.size=U3.heap.size):=by show _=_;rw[←hU];simp
      rw[hU]at hb4 hg4 ht4 rA4 rD4 rN4 hc4 be4;have lB4:=hb4.lt;clear hU;refine As hK fun hHeld=>?_;clear hK K;refine Tb 12 13 ?_;clear hHeld;refine Aw 14 fun K hK=>?_;have q1:=hb4.cell (i:=4) dE;have q2:=hb4.frozen 4;go_simp;clear q1 q2;obtain⟨U5,hU⟩:∃W,U4.setCell ⟨B,4,none⟩ (.slice (some ⟨U2.heap.size,0,none⟩) M M)=W:=⟨_,rfl⟩
      rw[hU];have hb5:=hb4.set 4 (.slice (some ⟨U2.heap.size,0,none⟩) M M);have hg5:=hg4.setOther (a:=⟨B,4,none⟩) HNS.out.n1.symm (.slice (some ⟨U2.heap.size,0,none⟩) M M);have ht5:=ht4.setOther (a:=⟨B,4,none⟩) HNS.out.n2.symm (.slice (some ⟨U2.heap.size,0,none⟩) M M);have rA5:=rA4.setOther (a:=⟨B,4,none⟩) Av (.slice (some ⟨U2.heap.size,0,none⟩) M M);have rD5:=rD4.setOther (a:=⟨B,4,none⟩) Av (.slice (some ⟨U2.heap.size,0,none⟩) M M);have rN5:=rN4.setOther (a:=⟨B,4,none⟩) Av (.slice (some ⟨U2.heap.size,0,none⟩) M M);have hc5:=(World.cell?_of_block (a:=⟨C,3,none⟩) (Below.heap_setCell U4 ⟨B,4,none⟩ (.slice (some ⟨U2.heap.size,0,none⟩) M M) _ nCB)).trans hc4;have be5:=(be4.setCell HNS.out.hB _:Below w.heap.size w (U4.setCell ⟨B,4,none⟩ (.slice (some ⟨U2.heap.size,0,none⟩) M M)))
      have hs5:Hid (U5.heap.size=U4.heap.size):=by show _=_;rw[←hU];simp
      rw[hU]at hb5 hg5 ht5 rA5 rD5 rN5 hc5 be5;have lB5:=hb5.lt;clear hU;refine As hK fun hHeld=>?_;clear hK K;refine Tb 15 16 ?_;clear hHeld;refine Aw 17 fun K hK=>?_;have q1:=hb5.cell (i:=5) dE;have q2:=hb5.frozen 5;go_simp;clear q1 q2;obtain⟨U6,hU⟩:∃W,U5.setCell ⟨B,5,none⟩ (.slice (some ⟨U1.heap.size,0,none⟩) M M)=W:=⟨_,rfl⟩
      rw[hU];have hb6:=hb5.set 5 (.slice (some ⟨U1.heap.size,0,none⟩) M M);have hg6:=hg5.setOther (a:=⟨B,5,none⟩) HNS.out.n1.symm (.slice (some ⟨U1.heap.size,0,none⟩) M M);have ht6:=ht5.setOther (a:=⟨B,5,none⟩) HNS.out.n2.symm (.slice (some ⟨U1.heap.size,0,none⟩) M M);have rA6:=rA5.setOther (a:=⟨B,5,none⟩) Av (.slice (some ⟨U1.heap.size,0,none⟩) M M);have rD6:=rD5.setOther (a:=⟨B,5,none⟩) Av (.slice (some ⟨U1.heap.size,0,none⟩) M M);have rN6:=rN5.setOther (a:=⟨B,5,none⟩) Av (.slice (some ⟨U1.heap.size,0,none⟩) M M);have hc6:=(World.cell?_of_block (a:=⟨C,3,none⟩) (Below.heap_setCell U5 ⟨B,5,none⟩ (.slice (some ⟨U1.heap.size,0,none⟩) M M) _ nCB)).trans hc5;have be6:=(be5.setCell HNS.out.hB _:Below w.heap.size w (U5.setCell ⟨B,5,none⟩ (.slice (some ⟨U1.heap.size,0,none⟩) M M)))
      have hs6:Hid (U6.heap.size=U5.heap.size):=by show _=_;rw[←hU];simp
      rw[hU]at hb6 hg6 ht6 rA6 rD6 rN6 hc6 be6;exact FQ
     refine CM 11 (fun K hK=>?_) AllReadyH.nil;have q1:=hb2.cell (i:=3) dE;have q2:=hb2.frozen 3;go_simp;clear q1 q2;obtain⟨U3,hU⟩:∃W,U2.setCell ⟨B,3,none⟩ (.slice (some ⟨wc.heap.size,0,none⟩) M M)=W:=⟨_,rfl⟩
     rw[hU];have hb3:=hb2.set 3 (.slice (some ⟨wc.heap.size,0,none⟩) M M);have hg3:=hg2.setOther (a:=⟨B,3,none⟩) HNS.out.n1.symm (.slice (some ⟨wc.heap.size,0,none⟩) M M);have ht3:=ht2.setOther (a:=⟨B,3,none⟩) HNS.out.n2.symm (.slice (some ⟨wc.heap.size,0,none⟩) M M);have rA3:=rA2.setOther (a:=⟨B,3,none⟩) Av (.slice (some ⟨wc.heap.size,0,none⟩) M M);have rD3:=rD2.setOther (a:=⟨B,3,none⟩) Av (.slice (some ⟨wc.heap.size,0,none⟩) M M);have hc3:=(World.cell?_of_block (a:=⟨C,3,none⟩) (Below.heap_setCell U2 ⟨B,3,none⟩ (.slice (some ⟨wc.heap.size,0,none⟩) M M) _ nCB)).trans hc2;have be3:=(be2.setCell HNS.out.hB _:Below w.heap.size w (U2.setCell ⟨B,3,none⟩ (.slice (some ⟨wc.heap.size,0,none⟩) M M)))
     have hs3:Hid (U3.heap.size=U2.heap.size):=by show _=_;rw[←hU];simp
     rw[hU]at hb3 hg3 ht3 rA3 rD3 hc3 be3;have lB3:=hb3.lt;clear hU;refine As hK fun hHeld=>?_;clear hK K;clear hHeld;refine Aw 6 fun K hK=>?_;go_simp;obtain⟨U4,hU⟩:∃W,(U3.alloc (.cells (madeCells #[.int .i64 0] M) 3))=W:=⟨_,rfl⟩
     rw[hU];have hb4:=hb3.alloc (.cells (madeCells #[.int .i64 0] M) 3);have hg4:=hg3.alloc (.cells (madeCells #[.int .i64 0] M) 3);have ht4:=ht3.alloc (.cells (madeCells #[.int .i64 0] M) 3);have rA4:=rA3.alloc (.cells (madeCells #[.int .i64 0] M) 3);have rD4:=rD3.alloc (.cells (madeCells #[.int .i64 0] M) 3);have rN4:=World.rowIs_made U3 (.int .i64 0) M 3;have hc4:=kc (A0 U3 (.cells (madeCells #[.int .i64 0] M) 3)) hc3;have be4:=be3.trans ((A0 U3 (.cells (madeCells #[.int .i64 0] M) 3)).mono be3.size);have hs4:Hid (U4.heap.size=U3.heap.size+1):=by show _=_;rw[←hU];simp
     rw[hU]at hb4 hg4 ht4 rA4 rD4 rN4 hc4 be4;have lB4:=hb4.lt;clear hU;refine As hK fun hHeld=>?_;clear hK K;refine Tb 12 13 ?_;clear hHeld;refine Aw 14 fun K hK=>?_;have q1:=hb4.cell (i:=4) dE;have q2:=hb4.frozen 4;go_simp;clear q1 q2;obtain⟨U5,hU⟩:∃W,U4.setCell ⟨B,4,none⟩ (.slice (some ⟨U3.heap.size,0,none⟩) M M)=W:=⟨_,rfl⟩
     rw[hU];have hb5:=hb4.set 4 (.slice (some ⟨U3.heap.size,0,none⟩) M M);have hg5:=hg4.setOther (a:=⟨B,4,none⟩) HNS.out.n1.symm (.slice (some ⟨U3.heap.size,0,none⟩) M M);have ht5:=ht4.setOther (a:=⟨B,4,none⟩) HNS.out.n2.symm (.slice (some ⟨U3.heap.size,0,none⟩) M M);have rA5:=rA4.setOther (a:=⟨B,4,none⟩) Av (.slice (some ⟨U3.heap.size,0,none⟩) M M);have rD5:=rD4.setOther (a:=⟨B,4,none⟩) Av (.slice (some ⟨U3.heap.size,0,none⟩) M M);have rN5:=rN4.setOther (a:=⟨B,4,none⟩) Av (.slice (some ⟨U3.heap.size,0,none⟩) M M);have hc5:=(World.cell?_of_block (a:=⟨C,3,none⟩) (Below.heap_setCell U4 ⟨B,4,none⟩ (.slice (some ⟨U3.heap.size,0,none⟩) M M) _ nCB)).trans hc4;have be5:=(be4.setCell HNS.out.hB _:Below w.heap.size w (U4.setCell ⟨B,4,none⟩ (.slice (some ⟨U3.heap.size,0,none⟩) M M)))
     have hs5:Hid (U5.heap.size=U4.heap.size):=by show _=_;rw[←hU];simp
     rw[hU]at hb5 hg5 ht5 rA5 rD5 rN5 hc5 be5;have lB5:=hb5.lt;clear hU;refine As hK fun hHeld=>?_;clear hK K;refine Tb 15 16 ?_;clear hHeld;refine Aw 17 fun K hK=>?_;have q1:=hb5.cell (i:=5) dE;have q2:=hb5.frozen 5;go_simp;clear q1 q2;obtain⟨U6,hU⟩:∃W,U5.setCell ⟨B,5,none⟩ (.slice (some ⟨U1.heap.size,0,none⟩) M M)=W:=⟨_,rfl⟩
     rw[hU];have hb6:=hb5.set 5 (.slice (some ⟨U1.heap.size,0,none⟩) M M);have hg6:=hg5.setOther (a:=⟨B,5,none⟩) HNS.out.n1.symm (.slice (some ⟨U1.heap.size,0,none⟩) M M);have ht6:=ht5.setOther (a:=⟨B,5,none⟩) HNS.out.n2.symm (.slice (some ⟨U1.heap.size,0,none⟩) M M);have rA6:=rA5.setOther (a:=⟨B,5,none⟩) Av (.slice (some ⟨U1.heap.size,0,none⟩) M M);have rD6:=rD5.setOther (a:=⟨B,5,none⟩) Av (.slice (some ⟨U1.heap.size,0,none⟩) M M);have rN6:=rN5.setOther (a:=⟨B,5,none⟩) Av (.slice (some ⟨U1.heap.size,0,none⟩) M M);have hc6:=(World.cell?_of_block (a:=⟨C,3,none⟩) (Below.heap_setCell U5 ⟨B,5,none⟩ (.slice (some ⟨U1.heap.size,0,none⟩) M M) _ nCB)).trans hc5;have be6:=(be5.setCell HNS.out.hB _:Below w.heap.size w (U5.setCell ⟨B,5,none⟩ (.slice (some ⟨U1.heap.size,0,none⟩) M M)))
     have hs6:Hid (U6.heap.size=U5.heap.size):=by show _=_;rw[←hU];simp
     rw[hU]at hb6 hg6 ht6 rA6 rD6 rN6 hc6 be6;exact FQ
    refine CM 11 (fun K hK=>?_) AllReadyH.nil;have q1:=hb1.cell (i:=3) dE;have q2:=hb1.frozen 3;go_simp;clear q1 q2;obtain⟨U2,hU⟩:∃W,U1.setCell ⟨B,3,none⟩ (.slice (some ⟨wc.heap.size,0,none⟩) M M)=W:=⟨_,rfl⟩
    rw[hU];have hb2:=hb1.set 3 (.slice (some ⟨wc.heap.size,0,none⟩) M M);have hg2:=hg1.setOther (a:=⟨B,3,none⟩) HNS.out.n1.symm (.slice (some ⟨wc.heap.size,0,none⟩) M M);have ht2:=ht1.setOther (a:=⟨B,3,none⟩) HNS.out.n2.symm (.slice (some ⟨wc.heap.size,0,none⟩) M M);have rA2:=rA1.setOther (a:=⟨B,3,none⟩) Av (.slice (some ⟨wc.heap.size,0,none⟩) M M);have hc2:=(World.cell?_of_block (a:=⟨C,3,none⟩) (Below.heap_setCell U1 ⟨B,3,none⟩ (.slice (some ⟨wc.heap.size,0,none⟩) M M) _ nCB)).trans hc1;have be2:=(be1.setCell HNS.out.hB _:Below w.heap.size w (U1.setCell ⟨B,3,none⟩ (.slice (some ⟨wc.heap.size,0,none⟩) M M)))
    have hs2:Hid (U2.heap.size=U1.heap.size):=by show _=_;rw[←hU];simp
    rw[hU]at hb2 hg2 ht2 rA2 hc2 be2;have lB2:=hb2.lt;clear hU;refine As hK fun hHeld=>?_;clear hK K;clear hHeld;refine wpAnyH_ready (rs:=[6,8]) kR sM ?_;refine CM 6 (fun K hK=>?_) ?_
    ·go_simp;obtain⟨U3,hU⟩:∃W,(U2.alloc (.cells (madeCells #[.int .i64 0] M) 3))=W:=⟨_,rfl⟩
     rw[hU];have hb3:=hb2.alloc (.cells (madeCells #[.int .i64 0] M) 3);have hg3:=hg2.alloc (.cells (madeCells #[.int .i64 0] M) 3);have ht3:=ht2.alloc (.cells (madeCells #[.int .i64 0] M) 3);have rA3:=rA2.alloc (.cells (madeCells #[.int .i64 0] M) 3);have rN3:=World.rowIs_made U2 (.int .i64 0) M 3;have hc3:=kc (A0 U2 (.cells (madeCells #[.int .i64 0] M) 3)) hc2;have be3:=be2.trans ((A0 U2 (.cells (madeCells #[.int .i64 0] M) 3)).mono be2.size);have hs3:Hid (U3.heap.size=U2.heap.size+1):=by show _=_;rw[←hU];simp
     rw[hU]at hb3 hg3 ht3 rA3 rN3 hc3 be3;have lB3:=hb3.lt;clear hU;refine As hK fun hHeld=>?_;clear hK K;refine Tb 12 13 ?_;clear hHeld;refine wpAnyH_ready (rs:=[8,14]) kR sM ?_;refine CM 8 (fun K hK=>?_) ?_
     ·go_simp;obtain⟨U4,hU⟩:∃W,(U3.alloc (.cells (madeCells #[.bool false] M) 4))=W:=⟨_,rfl⟩
      rw[hU];have hb4:=hb3.alloc (.cells (madeCells #[.bool false] M) 4);have hg4:=hg3.alloc (.cells (madeCells #[.bool false] M) 4);have ht4:=ht3.alloc (.cells (madeCells #[.bool false] M) 4);have rA4:=rA3.alloc (.cells (madeCells #[.bool false] M) 4);have rN4:=rN3.alloc (.cells (madeCells #[.bool false] M) 4);have rD4:=World.rowIs_made U3 (.bool false) M 4;have hc4:=kc (A0 U3 (.cells (madeCells #[.bool false] M) 4)) hc3;have be4:=be3.trans ((A0 U3 (.cells (madeCells #[.bool false] M) 4)).mono be3.size);have hs4:Hid (U4.heap.size=U3.heap.size+1):=by show _=_;rw[←hU];simp
      rw[hU]at hb4 hg4 ht4 rA4 rN4 rD4 hc4 be4;have lB4:=hb4.lt;clear hU;refine As hK fun hHeld=>?_;clear hK K;clear hHeld;refine Aw 14 fun K hK=>?_;have q1:=hb4.cell (i:=4) dE;have q2:=hb4.frozen 4;go_simp;clear q1 q2;obtain⟨U5,hU⟩:∃W,U4.setCell ⟨B,4,none⟩ (.slice (some ⟨U2.heap.size,0,none⟩) M M)=W:=⟨_,rfl⟩
      rw[hU];have hb5:=hb4.set 4 (.slice (some ⟨U2.heap.size,0,none⟩) M M);have hg5:=hg4.setOther (a:=⟨B,4,none⟩) HNS.out.n1.symm (.slice (some ⟨U2.heap.size,0,none⟩) M M);have ht5:=ht4.setOther (a:=⟨B,4,none⟩) HNS.out.n2.symm (.slice (some ⟨U2.heap.size,0,none⟩) M M);have rA5:=rA4.setOther (a:=⟨B,4,none⟩) Av (.slice (some ⟨U2.heap.size,0,none⟩) M M);have rN5:=rN4.setOther (a:=⟨B,4,none⟩) Av (.slice (some ⟨U2.heap.size,0,none⟩) M M);have rD5:=rD4.setOther (a:=⟨B,4,none⟩) Av (.slice (some ⟨U2.heap.size,0,none⟩) M M);have hc5:=(World.cell?_of_block (a:=⟨C,3,none⟩) (Below.heap_setCell U4 ⟨B,4,none⟩ (.slice (some ⟨U2.heap.size,0,none⟩) M M) _ nCB)).trans hc4;have be5:=(be4.setCell HNS.out.hB _:Below w.heap.size w (U4.setCell ⟨B,4,none⟩ (.slice (some ⟨U2.heap.size,0,none⟩) M M)))
      have hs5:Hid (U5.heap.size=U4.heap.size):=by show _=_;rw[←hU];simp
      rw[hU]at hb5 hg5 ht5 rA5 rN5 rD5 hc5 be5;have lB5:=hb5.lt;clear hU;refine As hK fun hHeld=>?_;clear hK K;refine Tb 15 16 ?_;clear hHeld;refine Aw 17 fun K hK=>?_;have q1:=hb5.cell (i:=5) dE;have q2:=hb5.frozen 5;go_simp;clear q1 q2;obtain⟨U6,hU⟩:∃W,U5.setCell ⟨B,5,none⟩ (.slice (some ⟨U3.heap.size,0,none⟩) M M)=W:=⟨_,rfl⟩
      rw[hU];have hb6:=hb5.set 5 (.slice (some ⟨U3.heap.size,0,none⟩) M M);have hg6:=hg5.setOther (a:=⟨B,5,none⟩) HNS.out.n1.symm (.slice (some ⟨U3.heap.size,0,none⟩) M M);have ht6:=ht5.setOther (a:=⟨B,5,none⟩) HNS.out.n2.symm (.slice (some ⟨U3.heap.size,0,none⟩) M M);have rA6:=rA5.setOther (a:=⟨B,5,none⟩) Av (.slice (some ⟨U3.heap.size,0,none⟩) M M);have rN6:=rN5.setOther (a:=⟨B,5,none⟩) Av (.slice (some ⟨U3.heap.size,0,none⟩) M M);have rD6:=rD5.setOther (a:=⟨B,5,none⟩) Av (.slice (some ⟨U3.heap.size,0,none⟩) M M);have hc6:=(World.cell?_of_block (a:=⟨C,3,none⟩) (Below.heap_setCell U5 ⟨B,5,none⟩ (.slice (some ⟨U3.heap.size,0,none⟩) M M) _ nCB)).trans hc5;have be6:=(be5.setCell HNS.out.hB _:Below w.heap.size w (U5.setCell ⟨B,5,none⟩ (.slice (some ⟨U3.heap.size,0,none⟩) M M)))
      have hs6:Hid (U6.heap.size=U5.heap.size):=by show _=_;rw[←hU];simp
      rw[hU]at hb6 hg6 ht6 rA6 rN6 rD6 hc6 be6;exact FQ
     refine CM 14 (fun K hK=>?_) AllReadyH.nil;have q1:=hb3.cell (i:=4) dE;have q2:=hb3.frozen 4;go_simp;clear q1 q2;obtain⟨U4,hU⟩:∃W,U3.setCell ⟨B,4,none⟩ (.slice (some ⟨U2.heap.size,0,none⟩) M M)=W:=⟨_,rfl⟩
     rw[hU];have hb4:=hb3.set 4 (.slice (some ⟨U2.heap.size,0,none⟩) M M);have hg4:=hg3.setOther (a:=⟨B,4,none⟩) HNS.out.n1.symm (.slice (some ⟨U2.heap.size,0,none⟩) M M);have ht4:=ht3.setOther (a:=⟨B,4,none⟩) HNS.out.n2.symm (.slice (some ⟨U2.heap.size,0,none⟩) M M);have rA4:=rA3.setOther (a:=⟨B,4,none⟩) Av (.slice (some ⟨U2.heap.size,0,none⟩) M M);have rN4:=rN3.setOther (a:=⟨B,4,none⟩) Av (.slice (some ⟨U2.heap.size,0,none⟩) M M);have hc4:=(World.cell?_of_block (a:=⟨C,3,none⟩) (Below.heap_setCell U3 ⟨B,4,none⟩ (.slice (some ⟨U2.heap.size,0,none⟩) M M) _ nCB)).trans hc3;have be4:=(be3.setCell HNS.out.hB _:Below w.heap.size w (U3.setCell ⟨B,4,none⟩ (.slice (some ⟨U2.heap.size,0,none⟩) M M)))
     have hs4:Hid (U4.heap.size=U3.heap.size):=by show _=_;rw[←hU];simp
     rw[hU]at hb4 hg4 ht4 rA4 rN4 hc4 be4;have lB4:=hb4.lt;clear hU;refine As hK fun hHeld=>?_;clear hK K;clear hHeld;refine Aw 8 fun K hK=>?_;go_simp;obtain⟨U5,hU⟩:∃W,(U4.alloc (.cells (madeCells #[.bool false] M) 4))=W:=⟨_,rfl⟩
     rw[hU];have hb5:=hb4.alloc (.cells (madeCells #[.bool false] M) 4);have hg5:=hg4.alloc (.cells (madeCells #[.bool false] M) 4);have ht5:=ht4.alloc (.cells (madeCells #[.bool false] M) 4);have rA5:=rA4.alloc (.cells (madeCells #[.bool false] M) 4);have rN5:=rN4.alloc (.cells (madeCells #[.bool false] M) 4);have rD5:=World.rowIs_made U4 (.bool false) M 4;have hc5:=kc (A0 U4 (.cells (madeCells #[.bool false] M) 4)) hc4;have be5:=be4.trans ((A0 U4 (.cells (madeCells #[.bool false] M) 4)).mono be4.size);have hs5:Hid (U5.heap.size=U4.heap.size+1):=by show _=_;rw[←hU];simp
     rw[hU]at hb5 hg5 ht5 rA5 rN5 rD5 hc5 be5;have lB5:=hb5.lt;clear hU;refine As hK fun hHeld=>?_;clear hK K;refine Tb 15 16 ?_;clear hHeld;refine Aw 17 fun K hK=>?_;have q1:=hb5.cell (i:=5) dE;have q2:=hb5.frozen 5;go_simp;clear q1 q2;obtain⟨U6,hU⟩:∃W,U5.setCell ⟨B,5,none⟩ (.slice (some ⟨U4.heap.size,0,none⟩) M M)=W:=⟨_,rfl⟩
     rw[hU];have hb6:=hb5.set 5 (.slice (some ⟨U4.heap.size,0,none⟩) M M);have hg6:=hg5.setOther (a:=⟨B,5,none⟩) HNS.out.n1.symm (.slice (some ⟨U4.heap.size,0,none⟩) M M);have ht6:=ht5.setOther (a:=⟨B,5,none⟩) HNS.out.n2.symm (.slice (some ⟨U4.heap.size,0,none⟩) M M);have rA6:=rA5.setOther (a:=⟨B,5,none⟩) Av (.slice (some ⟨U4.heap.size,0,none⟩) M M);have rN6:=rN5.setOther (a:=⟨B,5,none⟩) Av (.slice (some ⟨U4.heap.size,0,none⟩) M M);have rD6:=rD5.setOther (a:=⟨B,5,none⟩) Av (.slice (some ⟨U4.heap.size,0,none⟩) M M);have hc6:=(World.cell?_of_block (a:=⟨C,3,none⟩) (Below.heap_setCell U5 ⟨B,5,none⟩ (.slice (some ⟨U4.heap.size,0,none⟩) M M) _ nCB)).trans hc5;have be6:=(be5.setCell HNS.out.hB _:Below w.heap.size w (U5.setCell ⟨B,5,none⟩ (.slice (some ⟨U4.heap.size,0,none⟩) M M)))
     have hs6:Hid (U6.heap.size=U5.heap.size):=by show _=_;rw[←hU];simp
     rw[hU]at hb6 hg6 ht6 rA6 rN6 rD6 hc6 be6;exact FQ
    refine CM 8 (fun K hK=>?_) AllReadyH.nil;go_simp;obtain⟨U3,hU⟩:∃W,(U2.alloc (.cells (madeCells #[.bool false] M) 4))=W:=⟨_,rfl⟩
    rw[hU];have hb3:=hb2.alloc (.cells (madeCells #[.bool false] M) 4);have hg3:=hg2.alloc (.cells (madeCells #[.bool false] M) 4);have ht3:=ht2.alloc (.cells (madeCells #[.bool false] M) 4);have rA3:=rA2.alloc (.cells (madeCells #[.bool false] M) 4);have rD3:=World.rowIs_made U2 (.bool false) M 4;have hc3:=kc (A0 U2 (.cells (madeCells #[.bool false] M) 4)) hc2;have be3:=be2.trans ((A0 U2 (.cells (madeCells #[.bool false] M) 4)).mono be2.size);have hs3:Hid (U3.heap.size=U2.heap.size+1):=by show _=_;rw[←hU];simp
    rw[hU]at hb3 hg3 ht3 rA3 rD3 hc3 be3;have lB3:=hb3.lt;clear hU;refine As hK fun hHeld=>?_;clear hK K;clear hHeld;refine Aw 6 fun K hK=>?_;go_simp;obtain⟨U4,hU⟩:∃W,(U3.alloc (.cells (madeCells #[.int .i64 0] M) 3))=W:=⟨_,rfl⟩
    rw[hU];have hb4:=hb3.alloc (.cells (madeCells #[.int .i64 0] M) 3);have hg4:=hg3.alloc (.cells (madeCells #[.int .i64 0] M) 3);have ht4:=ht3.alloc (.cells (madeCells #[.int .i64 0] M) 3);have rA4:=rA3.alloc (.cells (madeCells #[.int .i64 0] M) 3);have rD4:=rD3.alloc (.cells (madeCells #[.int .i64 0] M) 3);have rN4:=World.rowIs_made U3 (.int .i64 0) M 3;have hc4:=kc (A0 U3 (.cells (madeCells #[.int .i64 0] M) 3)) hc3;have be4:=be3.trans ((A0 U3 (.cells (madeCells #[.int .i64 0] M) 3)).mono be3.size);have hs4:Hid (U4.heap.size=U3.heap.size+1):=by show _=_;rw[←hU];simp
    rw[hU]at hb4 hg4 ht4 rA4 rD4 rN4 hc4 be4;have lB4:=hb4.lt;clear hU;refine As hK fun hHeld=>?_;clear hK K;refine Tb 12 13 ?_;clear hHeld;refine Aw 14 fun K hK=>?_;have q1:=hb4.cell (i:=4) dE;have q2:=hb4.frozen 4;go_simp;clear q1 q2;obtain⟨U5,hU⟩:∃W,U4.setCell ⟨B,4,none⟩ (.slice (some ⟨U3.heap.size,0,none⟩) M M)=W:=⟨_,rfl⟩
    rw[hU];have hb5:=hb4.set 4 (.slice (some ⟨U3.heap.size,0,none⟩) M M);have hg5:=hg4.setOther (a:=⟨B,4,none⟩) HNS.out.n1.symm (.slice (some ⟨U3.heap.size,0,none⟩) M M);have ht5:=ht4.setOther (a:=⟨B,4,none⟩) HNS.out.n2.symm (.slice (some ⟨U3.heap.size,0,none⟩) M M);have rA5:=rA4.setOther (a:=⟨B,4,none⟩) Av (.slice (some ⟨U3.heap.size,0,none⟩) M M);have rD5:=rD4.setOther (a:=⟨B,4,none⟩) Av (.slice (some ⟨U3.heap.size,0,none⟩) M M);have rN5:=rN4.setOther (a:=⟨B,4,none⟩) Av (.slice (some ⟨U3.heap.size,0,none⟩) M M);have hc5:=(World.cell?_of_block (a:=⟨C,3,none⟩) (Below.heap_setCell U4 ⟨B,4,none⟩ (.slice (some ⟨U3.heap.size,0,none⟩) M M) _ nCB)).trans hc4;have be5:=(be4.setCell HNS.out.hB _:Below w.heap.size w (U4.setCell ⟨B,4,none⟩ (.slice (some ⟨U3.heap.size,0,none⟩) M M)))
    have hs5:Hid (U5.heap.size=U4.heap.size):=by show _=_;rw[←hU];simp
    rw[hU]at hb5 hg5 ht5 rA5 rD5 rN5 hc5 be5;have lB5:=hb5.lt;clear hU;refine As hK fun hHeld=>?_;clear hK K;refine Tb 15 16 ?_;clear hHeld;refine Aw 17 fun K hK=>?_;have q1:=hb5.cell (i:=5) dE;have q2:=hb5.frozen 5;go_simp;clear q1 q2;obtain⟨U6,hU⟩:∃W,U5.setCell ⟨B,5,none⟩ (.slice (some ⟨U2.heap.size,0,none⟩) M M)=W:=⟨_,rfl⟩
    rw[hU];have hb6:=hb5.set 5 (.slice (some ⟨U2.heap.size,0,none⟩) M M);have hg6:=hg5.setOther (a:=⟨B,5,none⟩) HNS.out.n1.symm (.slice (some ⟨U2.heap.size,0,none⟩) M M);have ht6:=ht5.setOther (a:=⟨B,5,none⟩) HNS.out.n2.symm (.slice (some ⟨U2.heap.size,0,none⟩) M M);have rA6:=rA5.setOther (a:=⟨B,5,none⟩) Av (.slice (some ⟨U2.heap.size,0,none⟩) M M);have rD6:=rD5.setOther (a:=⟨B,5,none⟩) Av (.slice (some ⟨U2.heap.size,0,none⟩) M M);have rN6:=rN5.setOther (a:=⟨B,5,none⟩) Av (.slice (some ⟨U2.heap.size,0,none⟩) M M);have hc6:=(World.cell?_of_block (a:=⟨C,3,none⟩) (Below.heap_setCell U5 ⟨B,5,none⟩ (.slice (some ⟨U2.heap.size,0,none⟩) M M) _ nCB)).trans hc5;have be6:=(be5.setCell HNS.out.hB _:Below w.heap.size w (U5.setCell ⟨B,5,none⟩ (.slice (some ⟨U2.heap.size,0,none⟩) M M)))
    have hs6:Hid (U6.heap.size=U5.heap.size):=by show _=_;rw[←hU];simp
    rw[hU]at hb6 hg6 ht6 rA6 rD6 rN6 hc6 be6;exact FQ
   refine CM 6 (fun K hK=>?_) ?_
   ·go_simp;obtain⟨U1,hU⟩:∃W,(wc.alloc (.cells (madeCells #[.int .i64 0] M) 3)).drew=W:=⟨_,rfl⟩
    rw[hU];have hb1:=World.rowIs.drew (HNS.out.b.alloc (.cells (madeCells #[.int .i64 0] M) 3));have hg1:=World.rowIs.drew (HNS.out.g.alloc (.cells (madeCells #[.int .i64 0] M) 3));have ht1:=World.rowIs.drew (HNS.out.t.alloc (.cells (madeCells #[.int .i64 0] M) 3));have rN1:=World.rowIs.drew (World.rowIs_made wc (.int .i64 0) M 3);have hc1:=kc (bel (A0 wc (.cells (madeCells #[.int .i64 0] M) 3)) (Ah _)) d3;have be1:=HNS.out.bel.trans ((bel (A0 wc (.cells (madeCells #[.int .i64 0] M) 3)) (Ah _)).mono HNS.out.bel.size);have hs1:Hid (U1.heap.size=wc.heap.size+1):=by show _=_;rw[←hU];simp
    rw[hU]at hb1 hg1 ht1 rN1 hc1 be1;have lB1:=hb1.lt;clear hU;refine As hK fun hHeld=>?_;clear hK K;clear hHeld;refine wpAnyH_ready (rs:=[4,8]) kR sM ?_;refine CM 4 (fun K hK=>?_) ?_
    ·go_simp;obtain⟨U2,hU⟩:∃W,(U1.alloc (.cells (madeCells #[.int .i64 0] M) 3))=W:=⟨_,rfl⟩
     rw[hU];have hb2:=hb1.alloc (.cells (madeCells #[.int .i64 0] M) 3);have hg2:=hg1.alloc (.cells (madeCells #[.int .i64 0] M) 3);have ht2:=ht1.alloc (.cells (madeCells #[.int .i64 0] M) 3);have rN2:=rN1.alloc (.cells (madeCells #[.int .i64 0] M) 3);have rA2:=World.rowIs_made U1 (.int .i64 0) M 3;have hc2:=kc (A0 U1 (.cells (madeCells #[.int .i64 0] M) 3)) hc1;have be2:=be1.trans ((A0 U1 (.cells (madeCells #[.int .i64 0] M) 3)).mono be1.size);have hs2:Hid (U2.heap.size=U1.heap.size+1):=by show _=_;rw[←hU];simp
     rw[hU]at hb2 hg2 ht2 rN2 rA2 hc2 be2;have lB2:=hb2.lt;clear hU;refine As hK fun hHeld=>?_;clear hK K;refine Tb 9 10 ?_;clear hHeld;refine wpAnyH_ready (rs:=[8,11]) kR sM ?_;refine CM 8 (fun K hK=>?_) ?_
     ·go_simp;obtain⟨U3,hU⟩:∃W,(U2.alloc (.cells (madeCells #[.bool false] M) 4))=W:=⟨_,rfl⟩
      rw[hU];have hb3:=hb2.alloc (.cells (madeCells #[.bool false] M) 4);have hg3:=hg2.alloc (.cells (madeCells #[.bool false] M) 4);have ht3:=ht2.alloc (.cells (madeCells #[.bool false] M) 4);have rN3:=rN2.alloc (.cells (madeCells #[.bool false] M) 4);have rA3:=rA2.alloc (.cells (madeCells #[.bool false] M) 4);have rD3:=World.rowIs_made U2 (.bool false) M 4;have hc3:=kc (A0 U2 (.cells (madeCells #[.bool false] M) 4)) hc2;have be3:=be2.trans ((A0 U2 (.cells (madeCells #[.bool false] M) 4)).mono be2.size);have hs3:Hid (U3.heap.size=U2.heap.size+1):=by show _=_;rw[←hU];simp
      rw[hU]at hb3 hg3 ht3 rN3 rA3 rD3 hc3 be3;have lB3:=hb3.lt;clear hU;refine As hK fun hHeld=>?_;clear hK K;clear hHeld;refine Aw 11 fun K hK=>?_;have q1:=hb3.cell (i:=3) dE;have q2:=hb3.frozen 3;go_simp;clear q1 q2;obtain⟨U4,hU⟩:∃W,U3.setCell ⟨B,3,none⟩ (.slice (some ⟨U1.heap.size,0,none⟩) M M)=W:=⟨_,rfl⟩
      rw[hU];have hb4:=hb3.set 3 (.slice (some ⟨U1.heap.size,0,none⟩) M M);have hg4:=hg3.setOther (a:=⟨B,3,none⟩) HNS.out.n1.symm (.slice (some ⟨U1.heap.size,0,none⟩) M M);have ht4:=ht3.setOther (a:=⟨B,3,none⟩) HNS.out.n2.symm (.slice (some ⟨U1.heap.size,0,none⟩) M M);have rN4:=rN3.setOther (a:=⟨B,3,none⟩) Av (.slice (some ⟨U1.heap.size,0,none⟩) M M);have rA4:=rA3.setOther (a:=⟨B,3,none⟩) Av (.slice (some ⟨U1.heap.size,0,none⟩) M M);have rD4:=rD3.setOther (a:=⟨B,3,none⟩) Av (.slice (some ⟨U1.heap.size,0,none⟩) M M);have hc4:=(World.cell?_of_block (a:=⟨C,3,none⟩) (Below.heap_setCell U3 ⟨B,3,none⟩ (.slice (some ⟨U1.heap.size,0,none⟩) M M) _ nCB)).trans hc3;have be4:=(be3.setCell HNS.out.hB _:Below w.heap.size w (U3.setCell ⟨B,3,none⟩ (.slice (some ⟨U1.heap.size,0,none⟩) M M)))
      have hs4:Hid (U4.heap.size=U3.heap.size):=by show _=_;rw[←hU];simp
      rw[hU]at hb4 hg4 ht4 rN4 rA4 rD4 hc4 be4;have lB4:=hb4.lt;clear hU;refine As hK fun hHeld=>?_;clear hK K;refine Tb 12 13 ?_;clear hHeld;refine Aw 14 fun K hK=>?_;have q1:=hb4.cell (i:=4) dE;have q2:=hb4.frozen 4;go_simp;clear q1 q2;obtain⟨U5,hU⟩:∃W,U4.setCell ⟨B,4,none⟩ (.slice (some ⟨wc.heap.size,0,none⟩) M M)=W:=⟨_,rfl⟩
      rw[hU];have hb5:=hb4.set 4 (.slice (some ⟨wc.heap.size,0,none⟩) M M);have hg5:=hg4.setOther (a:=⟨B,4,none⟩) HNS.out.n1.symm (.slice (some ⟨wc.heap.size,0,none⟩) M M);have ht5:=ht4.setOther (a:=⟨B,4,none⟩) HNS.out.n2.symm (.slice (some ⟨wc.heap.size,0,none⟩) M M);have rN5:=rN4.setOther (a:=⟨B,4,none⟩) Av (.slice (some ⟨wc.heap.size,0,none⟩) M M);have rA5:=rA4.setOther (a:=⟨B,4,none⟩) Av (.slice (some ⟨wc.heap.size,0,none⟩) M M);have rD5:=rD4.setOther (a:=⟨B,4,none⟩) Av (.slice (some ⟨wc.heap.size,0,none⟩) M M);have hc5:=(World.cell?_of_block (a:=⟨C,3,none⟩) (Below.heap_setCell U4 ⟨B,4,none⟩ (.slice (some ⟨wc.heap.size,0,none⟩) M M) _ nCB)).trans hc4;have be5:=(be4.setCell HNS.out.hB _:Below w.heap.size w (U4.setCell ⟨B,4,none⟩ (.slice (some ⟨wc.heap.size,0,none⟩) M M)))
      have hs5:Hid (U5.heap.size=U4.heap.size):=by show _=_;rw[←hU];simp
      rw[hU]at hb5 hg5 ht5 rN5 rA5 rD5 hc5 be5;have lB5:=hb5.lt;clear hU;refine As hK fun hHeld=>?_;clear hK K;refine Tb 15 16 ?_;clear hHeld;refine Aw 17 fun K hK=>?_;have q1:=hb5.cell (i:=5) dE;have q2:=hb5.frozen 5;go_simp;clear q1 q2;obtain⟨U6,hU⟩:∃W,U5.setCell ⟨B,5,none⟩ (.slice (some ⟨U2.heap.size,0,none⟩) M M)=W:=⟨_,rfl⟩
      rw[hU];have hb6:=hb5.set 5 (.slice (some ⟨U2.heap.size,0,none⟩) M M);have hg6:=hg5.setOther (a:=⟨B,5,none⟩) HNS.out.n1.symm (.slice (some ⟨U2.heap.size,0,none⟩) M M);have ht6:=ht5.setOther (a:=⟨B,5,none⟩) HNS.out.n2.symm (.slice (some ⟨U2.heap.size,0,none⟩) M M);have rN6:=rN5.setOther (a:=⟨B,5,none⟩) Av (.slice (some ⟨U2.heap.size,0,none⟩) M M);have rA6:=rA5.setOther (a:=⟨B,5,none⟩) Av (.slice (some ⟨U2.heap.size,0,none⟩) M M);have rD6:=rD5.setOther (a:=⟨B,5,none⟩) Av (.slice (some ⟨U2.heap.size,0,none⟩) M M);have hc6:=(World.cell?_of_block (a:=⟨C,3,none⟩) (Below.heap_setCell U5 ⟨B,5,none⟩ (.slice (some ⟨U2.heap.size,0,none⟩) M M) _ nCB)).trans hc5;have be6:=(be5.setCell HNS.out.hB _:Below w.heap.size w (U5.setCell ⟨B,5,none⟩ (.slice (some ⟨U2.heap.size,0,none⟩) M M)))
      have hs6:Hid (U6.heap.size=U5.heap.size):=by show _=_;rw[←hU];simp
      rw[hU]at hb6 hg6 ht6 rN6 rA6 rD6 hc6 be6;exact FQ
     refine CM 11 (fun K hK=>?_) AllReadyH.nil;have q1:=hb2.cell (i:=3) dE;have q2:=hb2.frozen 3;go_simp;clear q1 q2;obtain⟨U3,hU⟩:∃W,U2.setCell ⟨B,3,none⟩ (.slice (some ⟨U1.heap.size,0,none⟩) M M)=W:=⟨_,rfl⟩
     rw[hU];have hb3:=hb2.set 3 (.slice (some ⟨U1.heap.size,0,none⟩) M M);have hg3:=hg2.setOther (a:=⟨B,3,none⟩) HNS.out.n1.symm (.slice (some ⟨U1.heap.size,0,none⟩) M M);have ht3:=ht2.setOther (a:=⟨B,3,none⟩) HNS.out.n2.symm (.slice (some ⟨U1.heap.size,0,none⟩) M M);have rN3:=rN2.setOther (a:=⟨B,3,none⟩) Av (.slice (some ⟨U1.heap.size,0,none⟩) M M);have rA3:=rA2.setOther (a:=⟨B,3,none⟩) Av (.slice (some ⟨U1.heap.size,0,none⟩) M M);have hc3:=(World.cell?_of_block (a:=⟨C,3,none⟩) (Below.heap_setCell U2 ⟨B,3,none⟩ (.slice (some ⟨U1.heap.size,0,none⟩) M M) _ nCB)).trans hc2;have be3:=(be2.setCell HNS.out.hB _:Below w.heap.size w (U2.setCell ⟨B,3,none⟩ (.slice (some ⟨U1.heap.size,0,none⟩) M M)))
     have hs3:Hid (U3.heap.size=U2.heap.size):=by show _=_;rw[←hU];simp
     rw[hU]at hb3 hg3 ht3 rN3 rA3 hc3 be3;have lB3:=hb3.lt;clear hU;refine As hK fun hHeld=>?_;clear hK K;refine Tb 12 13 ?_;clear hHeld;refine wpAnyH_ready (rs:=[8,14]) kR sM ?_;refine CM 8 (fun K hK=>?_) ?_
     ·go_simp;obtain⟨U4,hU⟩:∃W,(U3.alloc (.cells (madeCells #[.bool false] M) 4))=W:=⟨_,rfl⟩
      rw[hU];have hb4:=hb3.alloc (.cells (madeCells #[.bool false] M) 4);have hg4:=hg3.alloc (.cells (madeCells #[.bool false] M) 4);have ht4:=ht3.alloc (.cells (madeCells #[.bool false] M) 4);have rN4:=rN3.alloc (.cells (madeCells #[.bool false] M) 4);have rA4:=rA3.alloc (.cells (madeCells #[.bool false] M) 4);have rD4:=World.rowIs_made U3 (.bool false) M 4;have hc4:=kc (A0 U3 (.cells (madeCells #[.bool false] M) 4)) hc3;have be4:=be3.trans ((A0 U3 (.cells (madeCells #[.bool false] M) 4)).mono be3.size);have hs4:Hid (U4.heap.size=U3.heap.size+1):=by show _=_;rw[←hU];simp
      rw[hU]at hb4 hg4 ht4 rN4 rA4 rD4 hc4 be4;have lB4:=hb4.lt;clear hU;refine As hK fun hHeld=>?_;clear hK K;clear hHeld;refine Aw 14 fun K hK=>?_;have q1:=hb4.cell (i:=4) dE;have q2:=hb4.frozen 4;go_simp;clear q1 q2;obtain⟨U5,hU⟩:∃W,U4.setCell ⟨B,4,none⟩ (.slice (some ⟨wc.heap.size,0,none⟩) M M)=W:=⟨_,rfl⟩
      rw[hU];have hb5:=hb4.set 4 (.slice (some ⟨wc.heap.size,0,none⟩) M M);have hg5:=hg4.setOther (a:=⟨B,4,none⟩) HNS.out.n1.symm (.slice (some ⟨wc.heap.size,0,none⟩) M M);have ht5:=ht4.setOther (a:=⟨B,4,none⟩) HNS.out.n2.symm (.slice (some ⟨wc.heap.size,0,none⟩) M M);have rN5:=rN4.setOther (a:=⟨B,4,none⟩) Av (.slice (some ⟨wc.heap.size,0,none⟩) M M);have rA5:=rA4.setOther (a:=⟨B,4,none⟩) Av (.slice (some ⟨wc.heap.size,0,none⟩) M M);have rD5:=rD4.setOther (a:=⟨B,4,none⟩) Av (.slice (some ⟨wc.heap.size,0,none⟩) M M);have hc5:=(World.cell?_of_block (a:=⟨C,3,none⟩) (Below.heap_setCell U4 ⟨B,4,none⟩ (.slice (some ⟨wc.heap.size,0,none⟩) M M) _ nCB)).trans hc4;have be5:=(be4.setCell HNS.out.hB _:Below w.heap.size w (U4.setCell ⟨B,4,none⟩ (.slice (some ⟨wc.heap.size,0,none⟩) M M)))
      have hs5:Hid (U5.heap.size=U4.heap.size):=by show _=_;rw[←hU];simp
      rw[hU]at hb5 hg5 ht5 rN5 rA5 rD5 hc5 be5;have lB5:=hb5.lt;clear hU;refine As hK fun hHeld=>?_;clear hK K;refine Tb 15 16 ?_;clear hHeld;refine Aw 17 fun K hK=>?_;have q1:=hb5.cell (i:=5) dE;have q2:=hb5.frozen 5;go_simp;clear q1 q2;obtain⟨U6,hU⟩:∃W,U5.setCell ⟨B,5,none⟩ (.slice (some ⟨U3.heap.size,0,none⟩) M M)=W:=⟨_,rfl⟩
      rw[hU];have hb6:=hb5.set 5 (.slice (some ⟨U3.heap.size,0,none⟩) M M);have hg6:=hg5.setOther (a:=⟨B,5,none⟩) HNS.out.n1.symm (.slice (some ⟨U3.heap.size,0,none⟩) M M);have ht6:=ht5.setOther (a:=⟨B,5,none⟩) HNS.out.n2.symm (.slice (some ⟨U3.heap.size,0,none⟩) M M);have rN6:=rN5.setOther (a:=⟨B,5,none⟩) Av (.slice (some ⟨U3.heap.size,0,none⟩) M M);have rA6:=rA5.setOther (a:=⟨B,5,none⟩) Av (.slice (some ⟨U3.heap.size,0,none⟩) M M);have rD6:=rD5.setOther (a:=⟨B,5,none⟩) Av (.slice (some ⟨U3.heap.size,0,none⟩) M M);have hc6:=(World.cell?_of_block (a:=⟨C,3,none⟩) (Below.heap_setCell U5 ⟨B,5,none⟩ (.slice (some ⟨U3.heap.size,0,none⟩) M M) _ nCB)).trans hc5;have be6:=(be5.setCell HNS.out.hB _:Below w.heap.size w (U5.setCell ⟨B,5,none⟩ (.slice (some ⟨U3.heap.size,0,none⟩) M M)))
      have hs6:Hid (U6.heap.size=U5.heap.size):=by show _=_;rw[←hU];simp
      rw[hU]at hb6 hg6 ht6 rN6 rA6 rD6 hc6 be6;exact FQ
     refine CM 14 (fun K hK=>?_) AllReadyH.nil;have q1:=hb3.cell (i:=4) dE;have q2:=hb3.frozen 4;go_simp;clear q1 q2;obtain⟨U4,hU⟩:∃W,U3.setCell ⟨B,4,none⟩ (.slice (some ⟨wc.heap.size,0,none⟩) M M)=W:=⟨_,rfl⟩
     rw[hU];have hb4:=hb3.set 4 (.slice (some ⟨wc.heap.size,0,none⟩) M M);have hg4:=hg3.setOther (a:=⟨B,4,none⟩) HNS.out.n1.symm (.slice (some ⟨wc.heap.size,0,none⟩) M M);have ht4:=ht3.setOther (a:=⟨B,4,none⟩) HNS.out.n2.symm (.slice (some ⟨wc.heap.size,0,none⟩) M M);have rN4:=rN3.setOther (a:=⟨B,4,none⟩) Av (.slice (some ⟨wc.heap.size,0,none⟩) M M);have rA4:=rA3.setOther (a:=⟨B,4,none⟩) Av (.slice (some ⟨wc.heap.size,0,none⟩) M M);have hc4:=(World.cell?_of_block (a:=⟨C,3,none⟩) (Below.heap_setCell U3 ⟨B,4,none⟩ (.slice (some ⟨wc.heap.size,0,none⟩) M M) _ nCB)).trans hc3;have be4:=(be3.setCell HNS.out.hB _:Below w.heap.size w (U3.setCell ⟨B,4,none⟩ (.slice (some ⟨wc.heap.size,0,none⟩) M M)))
     have hs4:Hid (U4.heap.size=U3.heap.size):=by show _=_;rw[←hU];simp
     rw[hU]at hb4 hg4 ht4 rN4 rA4 hc4 be4;have lB4:=hb4.lt;clear hU;refine As hK fun hHeld=>?_;clear hK K;clear hHeld;refine Aw 8 fun K hK=>?_;go_simp;obtain⟨U5,hU⟩:∃W,(U4.alloc (.cells (madeCells #[.bool false] M) 4))=W:=⟨_,rfl⟩
     rw[hU];have hb5:=hb4.alloc (.cells (madeCells #[.bool false] M) 4);have hg5:=hg4.alloc (.cells (madeCells #[.bool false] M) 4);have ht5:=ht4.alloc (.cells (madeCells #[.bool false] M) 4);have rN5:=rN4.alloc (.cells (madeCells #[.bool false] M) 4);have rA5:=rA4.alloc (.cells (madeCells #[.bool false] M) 4);have rD5:=World.rowIs_made U4 (.bool false) M 4;have hc5:=kc (A0 U4 (.cells (madeCells #[.bool false] M) 4)) hc4;have be5:=be4.trans ((A0 U4 (.cells (madeCells #[.bool false] M) 4)).mono be4.size);have hs5:Hid (U5.heap.size=U4.heap.size+1):=by show _=_;rw[←hU];simp
     rw[hU]at hb5 hg5 ht5 rN5 rA5 rD5 hc5 be5;have lB5:=hb5.lt;clear hU;refine As hK fun hHeld=>?_;clear hK K;refine Tb 15 16 ?_;clear hHeld;refine Aw 17 fun K hK=>?_;have q1:=hb5.cell (i:=5) dE;have q2:=hb5.frozen 5;go_simp;clear q1 q2;obtain⟨U6,hU⟩:∃W,U5.setCell ⟨B,5,none⟩ (.slice (some ⟨U4.heap.size,0,none⟩) M M)=W:=⟨_,rfl⟩
     rw[hU];have hb6:=hb5.set 5 (.slice (some ⟨U4.heap.size,0,none⟩) M M);have hg6:=hg5.setOther (a:=⟨B,5,none⟩) HNS.out.n1.symm (.slice (some ⟨U4.heap.size,0,none⟩) M M);have ht6:=ht5.setOther (a:=⟨B,5,none⟩) HNS.out.n2.symm (.slice (some ⟨U4.heap.size,0,none⟩) M M);have rN6:=rN5.setOther (a:=⟨B,5,none⟩) Av (.slice (some ⟨U4.heap.size,0,none⟩) M M);have rA6:=rA5.setOther (a:=⟨B,5,none⟩) Av (.slice (some ⟨U4.heap.size,0,none⟩) M M);have rD6:=rD5.setOther (a:=⟨B,5,none⟩) Av (.slice (some ⟨U4.heap.size,0,none⟩) M M);have hc6:=(World.cell?_of_block (a:=⟨C,3,none⟩) (Below.heap_setCell U5 ⟨B,5,none⟩ (.slice (some ⟨U4.heap.size,0,none⟩) M M) _ nCB)).trans hc5;have be6:=(be5.setCell HNS.out.hB _:Below w.heap.size w (U5.setCell ⟨B,5,none⟩ (.slice (some ⟨U4.heap.size,0,none⟩) M M)))
     have hs6:Hid (U6.heap.size=U5.heap.size):=by show _=_;rw[←hU];simp
     rw[hU]at hb6 hg6 ht6 rN6 rA6 rD6 hc6 be6;exact FQ
    refine CM 8 (fun K hK=>?_) AllReadyH.nil;go_simp;obtain⟨U2,hU⟩:∃W,(U1.alloc (.cells (madeCells #[.bool false] M) 4))=W:=⟨_,rfl⟩
    rw[hU];have hb2:=hb1.alloc (.cells (madeCells #[.bool false] M) 4);have hg2:=hg1.alloc (.cells (madeCells #[.bool false] M) 4);have ht2:=ht1.alloc (.cells (madeCells #[.bool false] M) 4);have rN2:=rN1.alloc (.cells (madeCells #[.bool false] M) 4);have rD2:=World.rowIs_made U1 (.bool false) M 4;have hc2:=kc (A0 U1 (.cells (madeCells #[.bool false] M) 4)) hc1;have be2:=be1.trans ((A0 U1 (.cells (madeCells #[.bool false] M) 4)).mono be1.size);have hs2:Hid (U2.heap.size=U1.heap.size+1):=by show _=_;rw[←hU];simp
    rw[hU]at hb2 hg2 ht2 rN2 rD2 hc2 be2;have lB2:=hb2.lt;clear hU;refine As hK fun hHeld=>?_;clear hK K;clear hHeld;refine Aw 4 fun K hK=>?_;go_simp;obtain⟨U3,hU⟩:∃W,(U2.alloc (.cells (madeCells #[.int .i64 0] M) 3))=W:=⟨_,rfl⟩
    rw[hU];have hb3:=hb2.alloc (.cells (madeCells #[.int .i64 0] M) 3);have hg3:=hg2.alloc (.cells (madeCells #[.int .i64 0] M) 3);have ht3:=ht2.alloc (.cells (madeCells #[.int .i64 0] M) 3);have rN3:=rN2.alloc (.cells (madeCells #[.int .i64 0] M) 3);have rD3:=rD2.alloc (.cells (madeCells #[.int .i64 0] M) 3);have rA3:=World.rowIs_made U2 (.int .i64 0) M 3;have hc3:=kc (A0 U2 (.cells (madeCells #[.int .i64 0] M) 3)) hc2;have be3:=be2.trans ((A0 U2 (.cells (madeCells #[.int .i64 0] M) 3)).mono be2.size);have hs3:Hid (U3.heap.size=U2.heap.size+1):=by show _=_;rw[←hU];simp
    rw[hU]at hb3 hg3 ht3 rN3 rD3 rA3 hc3 be3;have lB3:=hb3.lt;clear hU;refine As hK fun hHeld=>?_;clear hK K;refine Tb 9 10 ?_;clear hHeld;refine Aw 11 fun K hK=>?_;have q1:=hb3.cell (i:=3) dE;have q2:=hb3.frozen 3;go_simp;clear q1 q2;obtain⟨U4,hU⟩:∃W,U3.setCell ⟨B,3,none⟩ (.slice (some ⟨U2.heap.size,0,none⟩) M M)=W:=⟨_,rfl⟩
    rw[hU];have hb4:=hb3.set 3 (.slice (some ⟨U2.heap.size,0,none⟩) M M);have hg4:=hg3.setOther (a:=⟨B,3,none⟩) HNS.out.n1.symm (.slice (some ⟨U2.heap.size,0,none⟩) M M);have ht4:=ht3.setOther (a:=⟨B,3,none⟩) HNS.out.n2.symm (.slice (some ⟨U2.heap.size,0,none⟩) M M);have rN4:=rN3.setOther (a:=⟨B,3,none⟩) Av (.slice (some ⟨U2.heap.size,0,none⟩) M M);have rD4:=rD3.setOther (a:=⟨B,3,none⟩) Av (.slice (some ⟨U2.heap.size,0,none⟩) M M);have rA4:=rA3.setOther (a:=⟨B,3,none⟩) Av (.slice (some ⟨U2.heap.size,0,none⟩) M M);have hc4:=(World.cell?_of_block (a:=⟨C,3,none⟩) (Below.heap_setCell U3 ⟨B,3,none⟩ (.slice (some ⟨U2.heap.size,0,none⟩) M M) _ nCB)).trans hc3;have be4:=(be3.setCell HNS.out.hB _:Below w.heap.size w (U3.setCell ⟨B,3,none⟩ (.slice (some ⟨U2.heap.size,0,none⟩) M M)))
    have hs4:Hid (U4.heap.size=U3.heap.size):=by show _=_;rw[←hU];simp
    rw[hU]at hb4 hg4 ht4 rN4 rD4 rA4 hc4 be4;have lB4:=hb4.lt;clear hU;refine As hK fun hHeld=>?_;clear hK K;refine Tb 12 13 ?_;clear hHeld;refine Aw 14 fun K hK=>?_;have q1:=hb4.cell (i:=4) dE;have q2:=hb4.frozen 4;go_simp;clear q1 q2;obtain⟨U5,hU⟩:∃W,U4.setCell ⟨B,4,none⟩ (.slice (some ⟨wc.heap.size,0,none⟩) M M)=W:=⟨_,rfl⟩
    rw[hU];have hb5:=hb4.set 4 (.slice (some ⟨wc.heap.size,0,none⟩) M M);have hg5:=hg4.setOther (a:=⟨B,4,none⟩) HNS.out.n1.symm (.slice (some ⟨wc.heap.size,0,none⟩) M M);have ht5:=ht4.setOther (a:=⟨B,4,none⟩) HNS.out.n2.symm (.slice (some ⟨wc.heap.size,0,none⟩) M M);have rN5:=rN4.setOther (a:=⟨B,4,none⟩) Av (.slice (some ⟨wc.heap.size,0,none⟩) M M);have rD5:=rD4.setOther (a:=⟨B,4,none⟩) Av (.slice (some ⟨wc.heap.size,0,none⟩) M M);have rA5:=rA4.setOther (a:=⟨B,4,none⟩) Av (.slice (some ⟨wc.heap.size,0,none⟩) M M);have hc5:=(World.cell?_of_block (a:=⟨C,3,none⟩) (Below.heap_setCell U4 ⟨B,4,none⟩ (.slice (some ⟨wc.heap.size,0,none⟩) M M) _ nCB)).trans hc4;have be5:=(be4.setCell HNS.out.hB _:Below w.heap.size w (U4.setCell ⟨B,4,none⟩ (.slice (some ⟨wc.heap.size,0,none⟩) M M)))
    have hs5:Hid (U5.heap.size=U4.heap.size):=by show _=_;rw[←hU];simp
    rw[hU]at hb5 hg5 ht5 rN5 rD5 rA5 hc5 be5;have lB5:=hb5.lt;clear hU;refine As hK fun hHeld=>?_;clear hK K;refine Tb 15 16 ?_;clear hHeld;refine Aw 17 fun K hK=>?_;have q1:=hb5.cell (i:=5) dE;have q2:=hb5.frozen 5;go_simp;clear q1 q2;obtain⟨U6,hU⟩:∃W,U5.setCell ⟨B,5,none⟩ (.slice (some ⟨U1.heap.size,0,none⟩) M M)=W:=⟨_,rfl⟩
    rw[hU];have hb6:=hb5.set 5 (.slice (some ⟨U1.heap.size,0,none⟩) M M);have hg6:=hg5.setOther (a:=⟨B,5,none⟩) HNS.out.n1.symm (.slice (some ⟨U1.heap.size,0,none⟩) M M);have ht6:=ht5.setOther (a:=⟨B,5,none⟩) HNS.out.n2.symm (.slice (some ⟨U1.heap.size,0,none⟩) M M);have rN6:=rN5.setOther (a:=⟨B,5,none⟩) Av (.slice (some ⟨U1.heap.size,0,none⟩) M M);have rD6:=rD5.setOther (a:=⟨B,5,none⟩) Av (.slice (some ⟨U1.heap.size,0,none⟩) M M);have rA6:=rA5.setOther (a:=⟨B,5,none⟩) Av (.slice (some ⟨U1.heap.size,0,none⟩) M M);have hc6:=(World.cell?_of_block (a:=⟨C,3,none⟩) (Below.heap_setCell U5 ⟨B,5,none⟩ (.slice (some ⟨U1.heap.size,0,none⟩) M M) _ nCB)).trans hc5;have be6:=(be5.setCell HNS.out.hB _:Below w.heap.size w (U5.setCell ⟨B,5,none⟩ (.slice (some ⟨U1.heap.size,0,none⟩) M M)))
    have hs6:Hid (U6.heap.size=U5.heap.size):=by show _=_;rw[←hU];simp
    rw[hU]at hb6 hg6 ht6 rN6 rD6 rA6 hc6 be6;exact FQ
   refine CM 8 (fun K hK=>?_) AllReadyH.nil;go_simp;obtain⟨U1,hU⟩:∃W,(wc.alloc (.cells (madeCells #[.bool false] M) 4)).drew=W:=⟨_,rfl⟩
   rw[hU];have hb1:=World.rowIs.drew (HNS.out.b.alloc (.cells (madeCells #[.bool false] M) 4));have hg1:=World.rowIs.drew (HNS.out.g.alloc (.cells (madeCells #[.bool false] M) 4));have ht1:=World.rowIs.drew (HNS.out.t.alloc (.cells (madeCells #[.bool false] M) 4));have rD1:=World.rowIs.drew (World.rowIs_made wc (.bool false) M 4);have hc1:=kc (bel (A0 wc (.cells (madeCells #[.bool false] M) 4)) (Ah _)) d3;have be1:=HNS.out.bel.trans ((bel (A0 wc (.cells (madeCells #[.bool false] M) 4)) (Ah _)).mono HNS.out.bel.size);have hs1:Hid (U1.heap.size=wc.heap.size+1):=by show _=_;rw[←hU];simp
   rw[hU]at hb1 hg1 ht1 rD1 hc1 be1;have lB1:=hb1.lt;clear hU;refine As hK fun hHeld=>?_;clear hK K;clear hHeld;refine wpAnyH_ready (rs:=[4,6]) kR sM ?_;refine CM 4 (fun K hK=>?_) ?_
   ·go_simp;obtain⟨U2,hU⟩:∃W,(U1.alloc (.cells (madeCells #[.int .i64 0] M) 3))=W:=⟨_,rfl⟩
    rw[hU];have hb2:=hb1.alloc (.cells (madeCells #[.int .i64 0] M) 3);have hg2:=hg1.alloc (.cells (madeCells #[.int .i64 0] M) 3);have ht2:=ht1.alloc (.cells (madeCells #[.int .i64 0] M) 3);have rD2:=rD1.alloc (.cells (madeCells #[.int .i64 0] M) 3);have rA2:=World.rowIs_made U1 (.int .i64 0) M 3;have hc2:=kc (A0 U1 (.cells (madeCells #[.int .i64 0] M) 3)) hc1;have be2:=be1.trans ((A0 U1 (.cells (madeCells #[.int .i64 0] M) 3)).mono be1.size);have hs2:Hid (U2.heap.size=U1.heap.size+1):=by show _=_;rw[←hU];simp
    rw[hU]at hb2 hg2 ht2 rD2 rA2 hc2 be2;have lB2:=hb2.lt;clear hU;refine As hK fun hHeld=>?_;clear hK K;refine Tb 9 10 ?_;clear hHeld;refine wpAnyH_ready (rs:=[6,11]) kR sM ?_;refine CM 6 (fun K hK=>?_) ?_
    ·go_simp;obtain⟨U3,hU⟩:∃W,(U2.alloc (.cells (madeCells #[.int .i64 0] M) 3))=W:=⟨_,rfl⟩
     rw[hU];have hb3:=hb2.alloc (.cells (madeCells #[.int .i64 0] M) 3);have hg3:=hg2.alloc (.cells (madeCells #[.int .i64 0] M) 3);have ht3:=ht2.alloc (.cells (madeCells #[.int .i64 0] M) 3);have rD3:=rD2.alloc (.cells (madeCells #[.int .i64 0] M) 3);have rA3:=rA2.alloc (.cells (madeCells #[.int .i64 0] M) 3);have rN3:=World.rowIs_made U2 (.int .i64 0) M 3;have hc3:=kc (A0 U2 (.cells (madeCells #[.int .i64 0] M) 3)) hc2;have be3:=be2.trans ((A0 U2 (.cells (madeCells #[.int .i64 0] M) 3)).mono be2.size);have hs3:Hid (U3.heap.size=U2.heap.size+1):=by show _=_;rw[←hU];simp
     rw[hU]at hb3 hg3 ht3 rD3 rA3 rN3 hc3 be3;have lB3:=hb3.lt;clear hU;refine As hK fun hHeld=>?_;clear hK K;clear hHeld;refine Aw 11 fun K hK=>?_;have q1:=hb3.cell (i:=3) dE;have q2:=hb3.frozen 3;go_simp;clear q1 q2;obtain⟨U4,hU⟩:∃W,U3.setCell ⟨B,3,none⟩ (.slice (some ⟨U1.heap.size,0,none⟩) M M)=W:=⟨_,rfl⟩
     rw[hU];have hb4:=hb3.set 3 (.slice (some ⟨U1.heap.size,0,none⟩) M M);have hg4:=hg3.setOther (a:=⟨B,3,none⟩) HNS.out.n1.symm (.slice (some ⟨U1.heap.size,0,none⟩) M M);have ht4:=ht3.setOther (a:=⟨B,3,none⟩) HNS.out.n2.symm (.slice (some ⟨U1.heap.size,0,none⟩) M M);have rD4:=rD3.setOther (a:=⟨B,3,none⟩) Av (.slice (some ⟨U1.heap.size,0,none⟩) M M);have rA4:=rA3.setOther (a:=⟨B,3,none⟩) Av (.slice (some ⟨U1.heap.size,0,none⟩) M M);have rN4:=rN3.setOther (a:=⟨B,3,none⟩) Av (.slice (some ⟨U1.heap.size,0,none⟩) M M);have hc4:=(World.cell?_of_block (a:=⟨C,3,none⟩) (Below.heap_setCell U3 ⟨B,3,none⟩ (.slice (some ⟨U1.heap.size,0,none⟩) M M) _ nCB)).trans hc3;have be4:=(be3.setCell HNS.out.hB _:Below w.heap.size w (U3.setCell ⟨B,3,none⟩ (.slice (some ⟨U1.heap.size,0,none⟩) M M)))
     have hs4:Hid (U4.heap.size=U3.heap.size):=by show _=_;rw[←hU];simp
     rw[hU]at hb4 hg4 ht4 rD4 rA4 rN4 hc4 be4;have lB4:=hb4.lt;clear hU;refine As hK fun hHeld=>?_;clear hK K;refine Tb 12 13 ?_;clear hHeld;refine Aw 14 fun K hK=>?_;have q1:=hb4.cell (i:=4) dE;have q2:=hb4.frozen 4;go_simp;clear q1 q2;obtain⟨U5,hU⟩:∃W,U4.setCell ⟨B,4,none⟩ (.slice (some ⟨U2.heap.size,0,none⟩) M M)=W:=⟨_,rfl⟩
     rw[hU];have hb5:=hb4.set 4 (.slice (some ⟨U2.heap.size,0,none⟩) M M);have hg5:=hg4.setOther (a:=⟨B,4,none⟩) HNS.out.n1.symm (.slice (some ⟨U2.heap.size,0,none⟩) M M);have ht5:=ht4.setOther (a:=⟨B,4,none⟩) HNS.out.n2.symm (.slice (some ⟨U2.heap.size,0,none⟩) M M);have rD5:=rD4.setOther (a:=⟨B,4,none⟩) Av (.slice (some ⟨U2.heap.size,0,none⟩) M M);have rA5:=rA4.setOther (a:=⟨B,4,none⟩) Av (.slice (some ⟨U2.heap.size,0,none⟩) M M);have rN5:=rN4.setOther (a:=⟨B,4,none⟩) Av (.slice (some ⟨U2.heap.size,0,none⟩) M M);have hc5:=(World.cell?_of_block (a:=⟨C,3,none⟩) (Below.heap_setCell U4 ⟨B,4,none⟩ (.slice (some ⟨U2.heap.size,0,none⟩) M M) _ nCB)).trans hc4;have be5:=(be4.setCell HNS.out.hB _:Below w.heap.size w (U4.setCell ⟨B,4,none⟩ (.slice (some ⟨U2.heap.size,0,none⟩) M M)))
     have hs5:Hid (U5.heap.size=U4.heap.size):=by show _=_;rw[←hU];simp
     rw[hU]at hb5 hg5 ht5 rD5 rA5 rN5 hc5 be5;have lB5:=hb5.lt;clear hU;refine As hK fun hHeld=>?_;clear hK K;refine Tb 15 16 ?_;clear hHeld;refine Aw 17 fun K hK=>?_;have q1:=hb5.cell (i:=5) dE;have q2:=hb5.frozen 5;go_simp;clear q1 q2;obtain⟨U6,hU⟩:∃W,U5.setCell ⟨B,5,none⟩ (.slice (some ⟨wc.heap.size,0,none⟩) M M)=W:=⟨_,rfl⟩
     rw[hU];have hb6:=hb5.set 5 (.slice (some ⟨wc.heap.size,0,none⟩) M M);have hg6:=hg5.setOther (a:=⟨B,5,none⟩) HNS.out.n1.symm (.slice (some ⟨wc.heap.size,0,none⟩) M M);have ht6:=ht5.setOther (a:=⟨B,5,none⟩) HNS.out.n2.symm (.slice (some ⟨wc.heap.size,0,none⟩) M M);have rD6:=rD5.setOther (a:=⟨B,5,none⟩) Av (.slice (some ⟨wc.heap.size,0,none⟩) M M);have rA6:=rA5.setOther (a:=⟨B,5,none⟩) Av (.slice (some ⟨wc.heap.size,0,none⟩) M M);have rN6:=rN5.setOther (a:=⟨B,5,none⟩) Av (.slice (some ⟨wc.heap.size,0,none⟩) M M);have hc6:=(World.cell?_of_block (a:=⟨C,3,none⟩) (Below.heap_setCell U5 ⟨B,5,none⟩ (.slice (some ⟨wc.heap.size,0,none⟩) M M) _ nCB)).trans hc5;have be6:=(be5.setCell HNS.out.hB _:Below w.heap.size w (U5.setCell ⟨B,5,none⟩ (.slice (some ⟨wc.heap.size,0,none⟩) M M)))
     have hs6:Hid (U6.heap.size=U5.heap.size):=by show _=_;rw[←hU];simp
     rw[hU]at hb6 hg6 ht6 rD6 rA6 rN6 hc6 be6;exact FQ
    refine CM 11 (fun K hK=>?_) AllReadyH.nil;have q1:=hb2.cell (i:=3) dE;have q2:=hb2.frozen 3;go_simp;clear q1 q2;obtain⟨U3,hU⟩:∃W,U2.setCell ⟨B,3,none⟩ (.slice (some ⟨U1.heap.size,0,none⟩) M M)=W:=⟨_,rfl⟩
    rw[hU];have hb3:=hb2.set 3 (.slice (some ⟨U1.heap.size,0,none⟩) M M);have hg3:=hg2.setOther (a:=⟨B,3,none⟩) HNS.out.n1.symm (.slice (some ⟨U1.heap.size,0,none⟩) M M);have ht3:=ht2.setOther (a:=⟨B,3,none⟩) HNS.out.n2.symm (.slice (some ⟨U1.heap.size,0,none⟩) M M);have rD3:=rD2.setOther (a:=⟨B,3,none⟩) Av (.slice (some ⟨U1.heap.size,0,none⟩) M M);have rA3:=rA2.setOther (a:=⟨B,3,none⟩) Av (.slice (some ⟨U1.heap.size,0,none⟩) M M);have hc3:=(World.cell?_of_block (a:=⟨C,3,none⟩) (Below.heap_setCell U2 ⟨B,3,none⟩ (.slice (some ⟨U1.heap.size,0,none⟩) M M) _ nCB)).trans hc2;have be3:=(be2.setCell HNS.out.hB _:Below w.heap.size w (U2.setCell ⟨B,3,none⟩ (.slice (some ⟨U1.heap.size,0,none⟩) M M)))
    have hs3:Hid (U3.heap.size=U2.heap.size):=by show _=_;rw[←hU];simp
    rw[hU]at hb3 hg3 ht3 rD3 rA3 hc3 be3;have lB3:=hb3.lt;clear hU;refine As hK fun hHeld=>?_;clear hK K;clear hHeld;refine Aw 6 fun K hK=>?_;go_simp;obtain⟨U4,hU⟩:∃W,(U3.alloc (.cells (madeCells #[.int .i64 0] M) 3))=W:=⟨_,rfl⟩
    rw[hU];have hb4:=hb3.alloc (.cells (madeCells #[.int .i64 0] M) 3);have hg4:=hg3.alloc (.cells (madeCells #[.int .i64 0] M) 3);have ht4:=ht3.alloc (.cells (madeCells #[.int .i64 0] M) 3);have rD4:=rD3.alloc (.cells (madeCells #[.int .i64 0] M) 3);have rA4:=rA3.alloc (.cells (madeCells #[.int .i64 0] M) 3);have rN4:=World.rowIs_made U3 (.int .i64 0) M 3;have hc4:=kc (A0 U3 (.cells (madeCells #[.int .i64 0] M) 3)) hc3;have be4:=be3.trans ((A0 U3 (.cells (madeCells #[.int .i64 0] M) 3)).mono be3.size);have hs4:Hid (U4.heap.size=U3.heap.size+1):=by show _=_;rw[←hU];simp
    rw[hU]at hb4 hg4 ht4 rD4 rA4 rN4 hc4 be4;have lB4:=hb4.lt;clear hU;refine As hK fun hHeld=>?_;clear hK K;refine Tb 12 13 ?_;clear hHeld;refine Aw 14 fun K hK=>?_;have q1:=hb4.cell (i:=4) dE;have q2:=hb4.frozen 4;go_simp;clear q1 q2;obtain⟨U5,hU⟩:∃W,U4.setCell ⟨B,4,none⟩ (.slice (some ⟨U3.heap.size,0,none⟩) M M)=W:=⟨_,rfl⟩
    rw[hU];have hb5:=hb4.set 4 (.slice (some ⟨U3.heap.size,0,none⟩) M M);have hg5:=hg4.setOther (a:=⟨B,4,none⟩) HNS.out.n1.symm (.slice (some ⟨U3.heap.size,0,none⟩) M M);have ht5:=ht4.setOther (a:=⟨B,4,none⟩) HNS.out.n2.symm (.slice (some ⟨U3.heap.size,0,none⟩) M M);have rD5:=rD4.setOther (a:=⟨B,4,none⟩) Av (.slice (some ⟨U3.heap.size,0,none⟩) M M);have rA5:=rA4.setOther (a:=⟨B,4,none⟩) Av (.slice (some ⟨U3.heap.size,0,none⟩) M M);have rN5:=rN4.setOther (a:=⟨B,4,none⟩) Av (.slice (some ⟨U3.heap.size,0,none⟩) M M);have hc5:=(World.cell?_of_block (a:=⟨C,3,none⟩) (Below.heap_setCell U4 ⟨B,4,none⟩ (.slice (some ⟨U3.heap.size,0,none⟩) M M) _ nCB)).trans hc4;have be5:=(be4.setCell HNS.out.hB _:Below w.heap.size w (U4.setCell ⟨B,4,none⟩ (.slice (some ⟨U3.heap.size,0,none⟩) M M)))
    have hs5:Hid (U5.heap.size=U4.heap.size):=by show _=_;rw[←hU];simp
    rw[hU]at hb5 hg5 ht5 rD5 rA5 rN5 hc5 be5;have lB5:=hb5.lt;clear hU;refine As hK fun hHeld=>?_;clear hK K;refine Tb 15 16 ?_;clear hHeld;refine Aw 17 fun K hK=>?_;have q1:=hb5.cell (i:=5) dE;have q2:=hb5.frozen 5;go_simp;clear q1 q2;obtain⟨U6,hU⟩:∃W,U5.setCell ⟨B,5,none⟩ (.slice (some ⟨wc.heap.size,0,none⟩) M M)=W:=⟨_,rfl⟩
    rw[hU];have hb6:=hb5.set 5 (.slice (some ⟨wc.heap.size,0,none⟩) M M);have hg6:=hg5.setOther (a:=⟨B,5,none⟩) HNS.out.n1.symm (.slice (some ⟨wc.heap.size,0,none⟩) M M);have ht6:=ht5.setOther (a:=⟨B,5,none⟩) HNS.out.n2.symm (.slice (some ⟨wc.heap.size,0,none⟩) M M);have rD6:=rD5.setOther (a:=⟨B,5,none⟩) Av (.slice (some ⟨wc.heap.size,0,none⟩) M M);have rA6:=rA5.setOther (a:=⟨B,5,none⟩) Av (.slice (some ⟨wc.heap.size,0,none⟩) M M);have rN6:=rN5.setOther (a:=⟨B,5,none⟩) Av (.slice (some ⟨wc.heap.size,0,none⟩) M M);have hc6:=(World.cell?_of_block (a:=⟨C,3,none⟩) (Below.heap_setCell U5 ⟨B,5,none⟩ (.slice (some ⟨wc.heap.size,0,none⟩) M M) _ nCB)).trans hc5;have be6:=(be5.setCell HNS.out.hB _:Below w.heap.size w (U5.setCell ⟨B,5,none⟩ (.slice (some ⟨wc.heap.size,0,none⟩) M M)))
    have hs6:Hid (U6.heap.size=U5.heap.size):=by show _=_;rw[←hU];simp
    rw[hU]at hb6 hg6 ht6 rD6 rA6 rN6 hc6 be6;exact FQ
   refine CM 6 (fun K hK=>?_) AllReadyH.nil;go_simp;obtain⟨U2,hU⟩:∃W,(U1.alloc (.cells (madeCells #[.int .i64 0] M) 3))=W:=⟨_,rfl⟩
   rw[hU];have hb2:=hb1.alloc (.cells (madeCells #[.int .i64 0] M) 3);have hg2:=hg1.alloc (.cells (madeCells #[.int .i64 0] M) 3);have ht2:=ht1.alloc (.cells (madeCells #[.int .i64 0] M) 3);have rD2:=rD1.alloc (.cells (madeCells #[.int .i64 0] M) 3);have rN2:=World.rowIs_made U1 (.int .i64 0) M 3;have hc2:=kc (A0 U1 (.cells (madeCells #[.int .i64 0] M) 3)) hc1;have be2:=be1.trans ((A0 U1 (.cells (madeCells #[.int .i64 0] M) 3)).mono be1.size);have hs2:Hid (U2.heap.size=U1.heap.size+1):=by show _=_;rw[←hU];simp
   rw[hU]at hb2 hg2 ht2 rD2 rN2 hc2 be2;have lB2:=hb2.lt;clear hU;refine As hK fun hHeld=>?_;clear hK K;clear hHeld;refine Aw 4 fun K hK=>?_;go_simp;obtain⟨U3,hU⟩:∃W,(U2.alloc (.cells (madeCells #[.int .i64 0] M) 3))=W:=⟨_,rfl⟩
   rw[hU];have hb3:=hb2.alloc (.cells (madeCells #[.int .i64 0] M) 3);have hg3:=hg2.alloc (.cells (madeCells #[.int .i64 0] M) 3);have ht3:=ht2.alloc (.cells (madeCells #[.int .i64 0] M) 3);have rD3:=rD2.alloc (.cells (madeCells #[.int .i64 0] M) 3);have rN3:=rN2.alloc (.cells (madeCells #[.int .i64 0] M) 3);have rA3:=World.rowIs_made U2 (.int .i64 0) M 3;have hc3:=kc (A0 U2 (.cells (madeCells #[.int .i64 0] M) 3)) hc2;have be3:=be2.trans ((A0 U2 (.cells (madeCells #[.int .i64 0] M) 3)).mono be2.size);have hs3:Hid (U3.heap.size=U2.heap.size+1):=by show _=_;rw[←hU];simp
   rw[hU]at hb3 hg3 ht3 rD3 rN3 rA3 hc3 be3;have lB3:=hb3.lt;clear hU;refine As hK fun hHeld=>?_;clear hK K;refine Tb 9 10 ?_;clear hHeld;refine Aw 11 fun K hK=>?_;have q1:=hb3.cell (i:=3) dE;have q2:=hb3.frozen 3;go_simp;clear q1 q2;obtain⟨U4,hU⟩:∃W,U3.setCell ⟨B,3,none⟩ (.slice (some ⟨U2.heap.size,0,none⟩) M M)=W:=⟨_,rfl⟩
   rw[hU];have hb4:=hb3.set 3 (.slice (some ⟨U2.heap.size,0,none⟩) M M);have hg4:=hg3.setOther (a:=⟨B,3,none⟩) HNS.out.n1.symm (.slice (some ⟨U2.heap.size,0,none⟩) M M);have ht4:=ht3.setOther (a:=⟨B,3,none⟩) HNS.out.n2.symm (.slice (some ⟨U2.heap.size,0,none⟩) M M);have rD4:=rD3.setOther (a:=⟨B,3,none⟩) Av (.slice (some ⟨U2.heap.size,0,none⟩) M M);have rN4:=rN3.setOther (a:=⟨B,3,none⟩) Av (.slice (some ⟨U2.heap.size,0,none⟩) M M);have rA4:=rA3.setOther (a:=⟨B,3,none⟩) Av (.slice (some ⟨U2.heap.size,0,none⟩) M M);have hc4:=(World.cell?_of_block (a:=⟨C,3,none⟩) (Below.heap_setCell U3 ⟨B,3,none⟩ (.slice (some ⟨U2.heap.size,0,none⟩) M M) _ nCB)).trans hc3;have be4:=(be3.setCell HNS.out.hB _:Below w.heap.size w (U3.setCell ⟨B,3,none⟩ (.slice (some ⟨U2.heap.size,0,none⟩) M M)))
   have hs4:Hid (U4.heap.size=U3.heap.size):=by show _=_;rw[←hU];simp
   rw[hU]at hb4 hg4 ht4 rD4 rN4 rA4 hc4 be4;have lB4:=hb4.lt;clear hU;refine As hK fun hHeld=>?_;clear hK K;refine Tb 12 13 ?_;clear hHeld;refine Aw 14 fun K hK=>?_;have q1:=hb4.cell (i:=4) dE;have q2:=hb4.frozen 4;go_simp;clear q1 q2;obtain⟨U5,hU⟩:∃W,U4.setCell ⟨B,4,none⟩ (.slice (some ⟨U1.heap.size,0,none⟩) M M)=W:=⟨_,rfl⟩
   rw[hU];have hb5:=hb4.set 4 (.slice (some ⟨U1.heap.size,0,none⟩) M M);have hg5:=hg4.setOther (a:=⟨B,4,none⟩) HNS.out.n1.symm (.slice (some ⟨U1.heap.size,0,none⟩) M M);have ht5:=ht4.setOther (a:=⟨B,4,none⟩) HNS.out.n2.symm (.slice (some ⟨U1.heap.size,0,none⟩) M M);have rD5:=rD4.setOther (a:=⟨B,4,none⟩) Av (.slice (some ⟨U1.heap.size,0,none⟩) M M);have rN5:=rN4.setOther (a:=⟨B,4,none⟩) Av (.slice (some ⟨U1.heap.size,0,none⟩) M M);have rA5:=rA4.setOther (a:=⟨B,4,none⟩) Av (.slice (some ⟨U1.heap.size,0,none⟩) M M);have hc5:=(World.cell?_of_block (a:=⟨C,3,none⟩) (Below.heap_setCell U4 ⟨B,4,none⟩ (.slice (some ⟨U1.heap.size,0,none⟩) M M) _ nCB)).trans hc4;have be5:=(be4.setCell HNS.out.hB _:Below w.heap.size w (U4.setCell ⟨B,4,none⟩ (.slice (some ⟨U1.heap.size,0,none⟩) M M)))
   have hs5:Hid (U5.heap.size=U4.heap.size):=by show _=_;rw[←hU];simp
   rw[hU]at hb5 hg5 ht5 rD5 rN5 rA5 hc5 be5;have lB5:=hb5.lt;clear hU;refine As hK fun hHeld=>?_;clear hK K;refine Tb 15 16 ?_;clear hHeld;refine Aw 17 fun K hK=>?_;have q1:=hb5.cell (i:=5) dE;have q2:=hb5.frozen 5;go_simp;clear q1 q2;obtain⟨U6,hU⟩:∃W,U5.setCell ⟨B,5,none⟩ (.slice (some ⟨wc.heap.size,0,none⟩) M M)=W:=⟨_,rfl⟩
   rw[hU];have hb6:=hb5.set 5 (.slice (some ⟨wc.heap.size,0,none⟩) M M);have hg6:=hg5.setOther (a:=⟨B,5,none⟩) HNS.out.n1.symm (.slice (some ⟨wc.heap.size,0,none⟩) M M);have ht6:=ht5.setOther (a:=⟨B,5,none⟩) HNS.out.n2.symm (.slice (some ⟨wc.heap.size,0,none⟩) M M);have rD6:=rD5.setOther (a:=⟨B,5,none⟩) Av (.slice (some ⟨wc.heap.size,0,none⟩) M M);have rN6:=rN5.setOther (a:=⟨B,5,none⟩) Av (.slice (some ⟨wc.heap.size,0,none⟩) M M);have rA6:=rA5.setOther (a:=⟨B,5,none⟩) Av (.slice (some ⟨wc.heap.size,0,none⟩) M M);have hc6:=(World.cell?_of_block (a:=⟨C,3,none⟩) (Below.heap_setCell U5 ⟨B,5,none⟩ (.slice (some ⟨wc.heap.size,0,none⟩) M M) _ nCB)).trans hc5;have be6:=(be5.setCell HNS.out.hB _:Below w.heap.size w (U5.setCell ⟨B,5,none⟩ (.slice (some ⟨wc.heap.size,0,none⟩) M M)))
   have hs6:Hid (U6.heap.size=U5.heap.size):=by show _=_;rw[←hU];simp
   rw[hU]at hb6 hg6 ht6 rD6 rN6 rA6 hc6 be6;exact FQ
  case rest=>
   obtain⟨rfl,AB,NB,DB,hk0,hb0⟩:=hcut;have HK0:Hid (Below w.heap.size w wc/\∃s vg vt tag,AE w.heap.size R S M s wc B C GB TB AB NB DB vg vt (.slice none 0 0) tag/\EN c.list 0 s):=⟨hb0,_,_,_,_,hk0,EN.zero _⟩
   have e3:=kc hb0 hC3;clear hk0 hb0 lB lG lT lC3 b0 b1 b2 fb y0 y1 y2 HNS d3;go_wp2;clear e3
   go_loopw [48,5] (fun iv bv wr=>∃j:Nat,j<=M/\iv=.int .i64 (j:Int)/\bv=.int .i64 (Ci (Ai (c.list.take j)))/\Hid (Below w.heap.size w wr/\∃s vg vt tag,AE w.heap.size R S M s wr B C GB TB AB NB DB vg vt (.slice none 0 0) tag/\EN c.list j s)) (fun iv _ _=>M-(intOf iv).toNat)
   case atStart=>exact⟨0,Nat.zero_le _,rfl,rfl,HK0.out⟩
   case round=>
    clear HK0;obtain⟨j,hj,rfl,rfl,HJ⟩:=hrel;by_cases hlt:j<M
    ·have hjl:j<c.list.length:=by have:=HM.out;omega
     obtain⟨hbj,s,vg,vt,tag,hK,hP⟩:=HJ.out;obtain⟨lb,lo,rfl,hcl⟩:=(HL.out.below hbj).at hjl;have hknown:=HKN.out _ (List.getElem_mem hjl);have HDI:=A2 (HD.out _ (List.getElem_mem hjl));have HFIN:=A2 (fun o=>JM HCC.out hjl o);have HBEG:=A2 (fun o=>JL hjl o);have HOTH:=A2 (fun o o'=>JN hjl o o');have HSLO:=A2 (fun o=>Df HCC.out hjl o);have HPA:=A2 hP.ar;have HPO:=A2 (fun h1 h2 h3 (a:Int) ha=>hP.oth hjl h1 h2 h3 (a:=a) ha);have HPS:=A2 (fun h1 h2 h3 (D:Nat) hD (a:Int) ha=>hP.set_ hjl h1 h2 h3 (D:=D) hD (a:=a) ha);have HPT:=A2 (fun h1 h2 (D:Nat) hD (a:Int) ha=>hP.sto hjl h1 h2 (D:=D) hD (a:=a) ha);have HPF:=A2 (fun h1 h2 (b:Nat) hm (a:Int) ha=>hP.fin hjl h1 h2 (b:=b) hm (a:=a) ha);have hsl:=hP.sl;have htl:=hP.tl;have HSN:Hid (∀r,(s.sl r).length<=1000000):=fun r=>by rw[hsl r];have:=Jd c.list j r;omega
     have HTN:Hid (∀r,(s.tl r).length<=1000000):=fun r=>by rw[htl r];have:=Jo c.list j r;omega
     obtain⟨⟨op,d,a,b,e,n,z⟩,hi⟩:∃i,c.list[j]=i:=⟨_,rfl⟩
     rw[hi]at hcl HDI hknown HFIN HBEG HOTH HSLO HPO HPS HPT HPF;simp only at hknown HFIN HBEG HOTH HSLO HPO HPS HPT HPF;have y0:=hcl.at 0 (v:=.int .i64 op) rfl;rw[Nat.add_zero]at y0;have y1:=hcl.at 1 (v:=.int .i64 d) rfl;have y2:=hcl.at 2 (v:=.int .i64 a) rfl;have y3:=hcl.at 3 (v:=.int .i64 b) rfl;have y4:=hcl.at 4 (v:=.int .i64 e) rfl;have y5:=hcl.at 5 (v:=.int .i64 n) rfl;have y6:=hcl.at 6 (v:=.int .u32 z) rfl;have llb:lb<wr.heap.size:=Ac y0;have n9:¬lb=wr.heap.size:=oM;have i1:(0:Int)<=(j:Int):=oM;have i2:(j:Int)<(M:Int):=oM;have wi:IntKind.i64.wrap ((j:Int)+1)=((j+1:Nat):Int):=by rw[IntKind.wrap_i64];omega
     obtain⟨V2,hV2⟩:∃V,wr.alloc (.cells #[.int .i64 op,.int .i64 d,.int .i64 a,.int .i64 b,.int .i64 e,.int .i64 n,.int .u32 z] 40)=V:=⟨_,rfl⟩
     have HB2:Hid (Below wr.heap.size wr V2):=by rw[←hV2];exact A0 _ _
     have hX2:V2.rowIs wr.heap.size 40 7 (Jt op d a b e n z):=by rw[←hV2];exact AH wr _ _
     have HX2:=A2 hX2;have x0:V2.cell? ⟨wr.heap.size,0,none⟩=some (.int .i64 op):=hX2.cell (i:=0) dE;have x1:V2.cell? ⟨wr.heap.size,1,none⟩=some (.int .i64 d):=hX2.cell (i:=1) dE;have x2:V2.cell? ⟨wr.heap.size,2,none⟩=some (.int .i64 a):=hX2.cell (i:=2) dE;have x3:V2.cell? ⟨wr.heap.size,3,none⟩=some (.int .i64 b):=hX2.cell (i:=3) dE;have x4:V2.cell? ⟨wr.heap.size,4,none⟩=some (.int .i64 e):=hX2.cell (i:=4) dE;have x5:V2.cell? ⟨wr.heap.size,5,none⟩=some (.int .i64 n):=hX2.cell (i:=5) dE;have x6:V2.cell? ⟨wr.heap.size,6,none⟩=some (.int .u32 z):=hX2.cell (i:=6) dE;have KS:=A2 (fun v=>FG ⟨op,d,a,b,e,n,z⟩ v);unfold D2 at KS;simp only at KS;have HK:=A2 hK;have HBJ:=A2 hbj;obtain⟨X,hX⟩:∃X,wr.heap.size=X:=⟨_,rfl⟩
     have HKV:Hid (∀v,Below V2.heap.size V2 v->AE w.heap.size R S M s v B C GB TB AB NB DB vg vt (.slice none 0 0) tag/\v.rowIs X 40 7 (Jt op d a b e n z)/\Below w.heap.size w v/\B≠X/\GB≠X/\TB≠X/\AB≠X/\NB≠X/\V2.heap.size<=v.heap.size):=fun v hv=>by
      have h9:=bel HB2.out hv;have l1:=HK.out.b.lt;have l2:=HK.out.g.lt;have l3:=HK.out.t.lt;have l4:=HK.out.a.lt;have l5:=HK.out.n.lt;refine⟨HK.out.below h9,by rw[←hX];exact HX2.out.of_block (hv.block _ HX2.out.lt),HBJ.out.trans (h9.mono HK.out.lt),oM,oM,oM,oM,oM,hv.size⟩
     simp only[hX]at x0 x1 x2 x3 x4 x5 x6 n9;obtain⟨AX,hAX⟩:∃x:Int,Ci (Ai (c.list.take j))=x:=⟨_,rfl⟩
     obtain⟨NX,hNX⟩:∃x:Int,Ci (Ai (c.list.take (j+1)))=x:=⟨_,rfl⟩
     rw[hAX];have HAX:=A2 hAX;have HNX:=A2 hNX;clear hX2 hcl hi llb hK hP hbj hsl htl hAX hNX HX2 HJ;cases hS:((A4 op).d != 0)with
     |true=>as_aux_lemma=>
      simp only[hS]at KS;have hsb:Aa (⟨op,d,a,b,e,n,z⟩:Ab)=true:=by simp only[Aa];simpa using hS
      obtain⟨g0,g1⟩:=HDI.out hsb;simp only at g0 g1;obtain⟨D,rfl⟩:=Int.eq_ofNat_of_zero_le g0;have hop:op<33:=Ke hsb hknown hS;have o33:(op==33)=false:=sO;have o34:(op==34)=false:=sO;have o35:(op==35)=false:=sO;have o36:(op==36)=false:=sO;have o37:(op==37)=false:=sO;have hDR:D<R:=oM;have HFI:Hid (AX=Dx c.list j/\NX=AX):=by
       obtain⟨h1,h2⟩:=HOTH.out oM oM;exact LH
      have HPN:=A2 (HPS.out hsb oM oM D sM AX HFI.out.1);clear hS hsb HDI hknown HFIN HBEG HOTH HSLO HPO HPS HPT HPF;go_upto_region 9 with(go_at_call 29;(with_reducible refine(KS.out _).mono ?_);rintro e9 w4 ⟨rfl,hb4⟩;obtain⟨hk4,hx4,hbw,nB,nG,nT,nA,nN,hsz⟩:=HKV.out _ hb4;have HK4:=A2 hk4;have HX4:=A2 hx4;have HBW:=A2 hbw;have x0:w4.cell? ⟨X,0,none⟩=some (.int .i64 op):=hx4.cell (i:=0) dE;have x1:w4.cell? ⟨X,1,none⟩=some (.int .i64 (D:Int)):=hx4.cell (i:=1) dE;have x5:w4.cell? ⟨X,5,none⟩=some (.int .i64 n):=hx4.cell (i:=5) dE;have c1:=hk4.b1;have c2:=hk4.b2;have c3:=hk4.b3;have c4:=hk4.b4;have ca:=hk4.a.cell hlt;have fa:=hk4.a.frozen j;clear hb4 hk4 hx4 hbw)
      obtain⟨g,cap,w5,hr,hk5,k2,k3,hb5,hoth,hne⟩:=HK4.out.appSlD hDR (HSN.out D) j;have cg:=HK4.out.g.cell hDR;have lX:X<w4.heap.size:=HX4.out.lt;have lB:B<w4.heap.size:=HK4.out.b.lt;have lG:GB<w4.heap.size:=HK4.out.g.lt;have nBw:¬B=w4.heap.size:=oM;have nXw:¬X=w4.heap.size:=oM;have nGw:¬GB=w4.heap.size:=oM;have cg':(w4.alloc (.cells #[.int .i64 (j:Int)] 3)).cell? ⟨GB,D,none⟩=some (vg D):=kc (A0 _ _) cg;have oB:(vg D).ownBlock≠some B:=fun q=>absurd (HK4.out.tgs D hDR B q) (by rw[HK4.out.tB];omega);have oX:(vg D).ownBlock≠some X:=fun q=>EF HX4.out (HK4.out.gs D hDR) q;have v1:w5.cell? ⟨B,1,none⟩=some (.slice (some ⟨GB,0,none⟩) R R):=(World.cell?_of_block (a:=⟨B,1,none⟩) (hoth B lB oB)).trans c1;have v2:w5.cell? ⟨X,1,none⟩=some (.int .i64 (D:Int)):=(World.cell?_of_block (a:=⟨X,1,none⟩) (hoth X lX oX)).trans x1;have nBG:¬B=GB:=A9 HK4.out.tB HK4.out.tG dE;have v3:(w5.setCell ⟨GB,D,none⟩ (.slice (some ⟨g,0,none⟩) ((s.sl D).length+1) cap)).cell? ⟨B,1,none⟩=some (.slice (some ⟨GB,0,none⟩) R R):=(World.cell?_of_block (a:=⟨B,1,none⟩) (Below.heap_setCell _ _ _ _ nBG)).trans v1;have v4:(w5.setCell ⟨GB,D,none⟩ (.slice (some ⟨g,0,none⟩) ((s.sl D).length+1) cap)).cell? ⟨X,1,none⟩=some (.int .i64 (D:Int)):=(World.cell?_of_block (a:=⟨X,1,none⟩) (Below.heap_setCell _ _ _ _ (fun q=>nG q.symm))).trans v2;have HX6:Hid ((w5.setCell ⟨GB,D,none⟩ (.slice (some ⟨g,0,none⟩) ((s.sl D).length+1) cap)).rowIs X 40 7 (Jt op D a b e n z)):=(HX4.out.of_block (hoth X lX oX)).of_block (Below.heap_setCell _ _ _ _ (fun q=>nG q.symm));have HB6:Hid (Below w.heap.size w (w5.setCell ⟨GB,D,none⟩ (.slice (some ⟨g,0,none⟩) ((s.sl D).length+1) cap))):=(HBW.out.trans hb5).setCell HK4.out.hG _;obtain⟨Mn,hMn⟩:∃k,(s.sl D).length+1=k:=⟨_,rfl⟩
      simp only[hMn]at hr hk5 v3 v4 HX6 HB6;have HR:=A2 hr;have HK6:=A2 hk5;clear hr hk5 hb5 hoth hne hMn lX lB lG;go_cut [7] (fun bv wx=>bv=.pointer (some ⟨X,0,none⟩)/\∃vg' tag',AE w.heap.size R S M {s with sl:=fun k=>if k=D then s.sl D++[j]else s.sl k} wx B C GB TB AB NB DB vg' vt (.slice none 0 0) tag'/\wx.rowIs X 40 7 (Jt op D a b e n z)/\Below w.heap.size w wx)
      case first=>
       refine rG (fun v=>v.cell? ⟨B,1,none⟩=some (.slice (some ⟨GB,0,none⟩) R R)/\v.cell? ⟨X,1,none⟩=some (.int .i64 (D:Int))) fun hHeld=>?_;exact Mw
      case rest=>
       obtain⟨rfl,vg',tag',hk,hx,hb⟩:=hcut;exact MF
     |false=>
      simp only[hS]at KS;have hsb:Aa (⟨op,d,a,b,e,n,z⟩:Ab)=false:=by simp only[Aa];simpa using hS
      clear hS HDI HPS;by_cases hop:op=33
      ·as_aux_lemma=>
       obtain⟨D,hnD,hDS⟩:=HSLO.out (.inr hop);have hDS:D<S:=by have:=HSE.out;omega
       subst hnD;have o33:(op==33)=true:=by simpa using hop
       have o34:(op==34)=false:=sO;have o35:(op==35)=false:=sO;have o36:(op==36)=false:=sO;have o37:(op==37)=false:=sO;have HFI:Hid (AX=Dx c.list j/\NX=AX):=by
        obtain⟨h1,h2⟩:=HOTH.out oM oM;exact LH
       have HPN:=A2 (HPT.out hsb hop D sM AX HFI.out.1);have i6:(D:Int)<(S:Int):=oM;clear hsb hknown HFIN HBEG HOTH HSLO HPO HPT HPF hop;go_upto_region 11 with(go_at_call 29;(with_reducible refine(KS.out _).mono ?_);rintro e9 w4 ⟨rfl,hb4⟩;obtain⟨hk4,hx4,hbw,nB,nG,nT,nA,nN,hsz⟩:=HKV.out _ hb4;have HK4:=A2 hk4;have HX4:=A2 hx4;have HBW:=A2 hbw;have x0:w4.cell? ⟨X,0,none⟩=some (.int .i64 op):=hx4.cell (i:=0) dE;have x1:w4.cell? ⟨X,1,none⟩=some (.int .i64 d):=hx4.cell (i:=1) dE;have x5:w4.cell? ⟨X,5,none⟩=some (.int .i64 (D:Int)):=hx4.cell (i:=5) dE;have c1:=hk4.b1;have c2:=hk4.b2;have c3:=hk4.b3;have c4:=hk4.b4;have ca:=hk4.a.cell hlt;have fa:=hk4.a.frozen j;clear hb4 hk4 hx4 hbw)
       obtain⟨g,cap,w5,hr,hk5,k2,k3,hb5,hoth,hne⟩:=HK4.out.appTlD hDS (HTN.out D) j;have cg:=HK4.out.t.cell hDS;have lX:X<w4.heap.size:=HX4.out.lt;have lB:B<w4.heap.size:=HK4.out.b.lt;have lG:TB<w4.heap.size:=HK4.out.t.lt;have nBw:¬B=w4.heap.size:=oM;have nXw:¬X=w4.heap.size:=oM;have nGw:¬TB=w4.heap.size:=oM;have cg':(w4.alloc (.cells #[.int .i64 (j:Int)] 3)).cell? ⟨TB,D,none⟩=some (vt D):=kc (A0 _ _) cg;have oB:(vt D).ownBlock≠some B:=fun q=>absurd (HK4.out.tts D hDS B q) (by rw[HK4.out.tB];omega);have oX:(vt D).ownBlock≠some X:=fun q=>EF HX4.out (HK4.out.ts D hDS) q;have v1:w5.cell? ⟨B,2,none⟩=some (.slice (some ⟨TB,0,none⟩) S S):=(World.cell?_of_block (a:=⟨B,2,none⟩) (hoth B lB oB)).trans c2;have v2:w5.cell? ⟨X,5,none⟩=some (.int .i64 (D:Int)):=(World.cell?_of_block (a:=⟨X,5,none⟩) (hoth X lX oX)).trans x5;have nBG:¬B=TB:=A9 HK4.out.tB HK4.out.tT dE;have v3:(w5.setCell ⟨TB,D,none⟩ (.slice (some ⟨g,0,none⟩) ((s.tl D).length+1) cap)).cell? ⟨B,2,none⟩=some (.slice (some ⟨TB,0,none⟩) S S):=(World.cell?_of_block (a:=⟨B,2,none⟩) (Below.heap_setCell _ _ _ _ nBG)).trans v1;have v4:(w5.setCell ⟨TB,D,none⟩ (.slice (some ⟨g,0,none⟩) ((s.tl D).length+1) cap)).cell? ⟨X,5,none⟩=some (.int .i64 (D:Int)):=(World.cell?_of_block (a:=⟨X,5,none⟩) (Below.heap_setCell _ _ _ _ (fun q=>nT q.symm))).trans v2;have HX6:Hid ((w5.setCell ⟨TB,D,none⟩ (.slice (some ⟨g,0,none⟩) ((s.tl D).length+1) cap)).rowIs X 40 7 (Jt op d a b e D z)):=(HX4.out.of_block (hoth X lX oX)).of_block (Below.heap_setCell _ _ _ _ (fun q=>nT q.symm));have HB6:Hid (Below w.heap.size w (w5.setCell ⟨TB,D,none⟩ (.slice (some ⟨g,0,none⟩) ((s.tl D).length+1) cap))):=(HBW.out.trans hb5).setCell HK4.out.hT _;obtain⟨Mn,hMn⟩:∃k,(s.tl D).length+1=k:=⟨_,rfl⟩
       simp only[hMn]at hr hk5 v3 v4 HX6 HB6;have HR:=A2 hr;have HK6:=A2 hk5;clear hr hk5 hb5 hoth hne hMn lX lB lG;go_cut [7] (fun bv wx=>bv=.pointer (some ⟨X,0,none⟩)/\∃vt' tag',AE w.heap.size R S M {s with tl:=fun k=>if k=D then s.tl D++[j]else s.tl k} wx B C GB TB AB NB DB vg vt' (.slice none 0 0) tag'/\wx.rowIs X 40 7 (Jt op d a b e D z)/\Below w.heap.size w wx)
       case first=>
        refine rG (fun v=>v.cell? ⟨B,2,none⟩=some (.slice (some ⟨TB,0,none⟩) S S)/\v.cell? ⟨X,5,none⟩=some (.int .i64 (D:Int))) fun hHeld=>?_;exact Mw
       case rest=>
        obtain⟨rfl,vt',tag',hk,hx,hb⟩:=hcut;exact MF
      ·by_cases hop35:op=35
       ·have hop:=hop35;have o33:(op==33)=false:=sO;have o34:(op==34)=false:=sO;have o35:(op==35)=true:=by simpa using hop
        have o36:(op==36)=false:=sO;have o37:(op==37)=false:=sO;exact Mt
       ·by_cases hop37:op=37
        ·have hop:=hop37;have o33:(op==33)=false:=sO;have o34:(op==34)=false:=sO;have o35:(op==35)=false:=sO;have o36:(op==36)=false:=sO;have o37:(op==37)=true:=by simpa using hop
         exact Mt
        ·skip
         clear HFIN HPF HPT HSLO HPA;by_cases hop34:op=34\/op=36
         ·have HFI:Hid (AX=Dx c.list j/\NX=(j:Int)):=by
           obtain⟨h1,h2⟩:=HBEG.out hop34;exact LH
          have HPN:=A2 (HPO.out hsb oM oM AX HFI.out.1);have o33:(op==33)=false:=sO;have o35:(op==35)=false:=sO;have o37:(op==37)=false:=sO;clear hsb hknown HBEG HOTH HPO;rcases hop34 with hop|hop
          ·have o34:(op==34)=true:=by simpa using hop
           clear hop hop35 hop37;exact LQ
          ·have o34:(op==34)=false:=sO;have o36:(op==36)=true:=by simpa using hop
           clear hop hop35 hop37;exact LQ
         ·have HFI:Hid (AX=Dx c.list j/\NX=AX):=by
           obtain⟨h1,h2⟩:=HOTH.out hop34 oM;exact LH
          have HPN:=A2 (HPO.out hsb oM oM AX HFI.out.1);have o33:(op==33)=false:=sO;have o34:(op==34)=false:=sO;have o35:(op==35)=false:=sO;have o36:(op==36)=false:=sO;have o37:(op==37)=false:=sO;clear hsb hknown HBEG HOTH HPO hop34 hop35 hop37;exact LQ
    ·have e9:¬ (j:Int)<(M:Int):=oM;have hjn:j=c.list.length:=by have:=HM.out;omega
     obtain⟨hbj,s,vg,vt,tag,hK,hP⟩:=HJ.out;rw[hjn]at hP;have HE:=A2 (And.intro hK (And.intro hP.all hbj));clear hlt hjn hbj hK hP;go_wp2;refine bodyPost_ret (by simp[results,results26,go_sem, *];try rfl) rfl ?_;first|exact⟨_,rfl,_,_,_,_,_,_,_,_,_,_,_,rfl,HE.out.1,HE.out.2.1,HE.out.2.2⟩|exact⟨_,_,_,_,_,_,_,_,_,_,_,rfl,HE.out.1,HE.out.2.1,HE.out.2.2⟩
def N7:Option Value->Bool
 |some (.bool true)=>true
 |_=>false
def Mh:Option Value->Nat
 |some (.slice _ n _)=>n
 |_=>0
def Li(L B DB:Nat)(w:World):Nat:=((List.range L).filter fun p=> !(N7 (w.cell? ⟨DB,p,none⟩))).length+Mh (w.cell? ⟨B,6,none⟩)
theorem If{l:List Ab}{E R S:Nat}{s:CF}{q:Sr}{w:World}{B C GB TB AB NB DB:Nat}{vg vt:Nat->Value}{vd:Value}{tag:Nat->Nat}(h:AE E R S l.length s w B C GB TB AB NB DB vg vt vd tag)(hq:BT l s q):Li l.length B DB w=B6 l q:=by
 unfold Li B6;have e1:(List.range l.length).filter (fun p=> !(N7 (w.cell? ⟨DB,p,none⟩)))=(List.range l.length).filter (fun k=> !(q.nd k)):=List.filter_congr fun p hp=>by
  rw[h.d.cell (List.mem_range.1 hp),hq.nd];cases q.nd p<;>rfl
 obtain⟨po,cap,ev⟩:=AU h.td;rw[e1,h.b6,ev];show _+s.todo.length=_;rw[hq.todo]
theorem GX(l:List Ab)(q:Sr):q.todo.length<=B6 l q:=Nat.le_add_left _ _
theorem BT.pop{l:List Ab}{s:CF}{q:Sr}(h:BT l s q)(t:List Nat):BT l {s with todo:=t} {q with todo:=t}:=⟨h.nd,rfl,h.sl,h.tl,h.ar,h.en⟩
theorem Gb{α:Type}{l:List α}(h:0<l.length):∃t p,l=t++[p]/\t=l.take (l.length-1)/\l[l.length-1]? =some p/\t.length=l.length-1:=by
 have hne:l≠[]:=fun e=>by rw[e]at h;cases h
 refine⟨l.dropLast,l.getLast hne,(List.dropLast_concat_getLast hne).symm,List.dropLast_eq_take ..,?_,sM⟩;rw[List.getLast_eq_getElem,List.getElem?_eq_getElem]
theorem KA(K:Nat->Bool)(l:List Ab){j:Nat}(h:j<l.length):Ap K id l (j+1)=if K j=true then Ap K id l j++[l[j]]else Ap K id l j:=by
 split
 ·rename_i hk;exact BA h hk
 ·rename_i hk;exact D9 (by simpa using hk)
theorem Gi(c:Cd)(hc:(Aj c).1=0)(w:World)(C:Nat)(p1 p2 p3:Option Addr)(q1 q2 q3:Nat)(hR:c.regs.length<=16384)(hS:c.slots.length<=4096)(hL:c.list.length<=32768)(hC1:w.cell? ⟨C,1,none⟩=some (.slice p1 c.regs.length q1))(hC2:w.cell? ⟨C,2,none⟩=some (.slice p2 c.slots.length q2))(hC3:w.cell? ⟨C,3,none⟩=some (.slice p3 c.list.length q3))(hl:AI 7 AS w (.slice p3 c.list.length q3) c.list):
 Calls prog 11 #[.pointer (some ⟨C,0,none⟩)] w fun e w'=>∃p q,e=.returned (.slice p (Ap (ndK c.list) id c.list c.list.length).length q)/\w'.ownsRow w.heap.size 40 7 (.slice p (Ap (ndK c.list) id c.list c.list.length).length q) (Ap (ndK c.list) id c.list c.list.length).length (Al AS (Ap (ndK c.list) id c.list c.list.length))/\((Ap (ndK c.list) id c.list c.list.length).length=0->p=none/\q=0)/\Below w.heap.size w w':=by
 have HL:=A2 hl;have KN:=A2 (Ih c hc w C p1 p2 p3 q1 q2 q3 hR hS hL hC1 hC2 hC3 hl);have HGO:Hid (∀ (p:Nat) (hp:p<c.list.length),(∀r∈A8 c.list[p] (A4 c.list[p].op),0<=r/\r<(c.regs.length:Int))/\(c.list[p].op=32->0<=c.list[p].n/\c.list[p].n<(c.slots.length:Int))):=fun p hp=>by
  obtain⟨h1,h2,h3⟩:=Ax.1 hc;obtain⟨t1,t2,t3,t4⟩:=Ar (AV h2 hp);refine⟨fun r hr=>?_,fun o=>?_⟩
  ·unfold A8 at hr;simp only[List.mem_append]at hr;rcases hr with hr|hr|hr
   ·split at hr
    ·cases hr
    ·rename_i hl;simp only[List.mem_singleton]at hr;subst hr;exact Ag (C3 t2) hl
   ·split at hr
    ·cases hr
    ·rename_i hl;simp only[List.mem_singleton]at hr;subst hr;exact Ag (CG t2) hl
   ·split at hr
    ·cases hr
    ·rename_i hl;simp only[List.mem_singleton]at hr;subst hr;exact Ag (CH t2) hl
  ·obtain⟨n,e1,e2⟩:=Df hc hp (.inl o);rw[e1];omega
 have HST:=A2 (GW hc);have HNX:=A2 (fun(q:Sr) (h:HV c.list q) (t:List Nat) (p:Nat) (ht:q.todo=t++[p])=>HV.next hc h ht);obtain⟨R,hRe⟩:∃N,c.regs.length=N:=⟨_,rfl⟩
 obtain⟨S,hSe⟩:∃N,c.slots.length=N:=⟨_,rfl⟩
 simp only[hRe]at KN HGO;simp only[hSe]at KN HGO;obtain⟨M,hMe⟩:∃M,c.list.length=M:=⟨_,rfl⟩
 have HM:=A2 hMe;simp only[hMe]at KN HL hC3 hL ⊢;clear hl hRe hSe hc hC1 hC2 hR hS hMe;go_enter func11,ntmps11;go_upto_region 2 with(go_at_call 26;(with_reducible refine(KN.out).mono ?_);rintro e9 w1 ⟨v1,rfl,B,GB,TB,AB,NB,DB,vg,vt,vd,tag,s,rfl,hk1,hs1,hb1⟩;have HK1:=A2 hk1;have HS1:=A2 hs1;have HB1:=A2 hb1;have d3:=kc hb1 hC3;clear hk1 hs1 hb1)
 obtain⟨E,hE⟩:∃E,w.heap.size=E:=⟨_,rfl⟩
 simp only[hE]at HK1 HB1 ⊢;have HE:=A2 hE;have HCE:Hid (C<E):=by rw[←hE];exact Ac hC3
 have HC3:Hid (∀v,Below E w v->v.cell? ⟨C,3,none⟩=some (.slice p3 M q3)/\AI 7 AS v (.slice p3 M q3) c.list):=fun v hv=>by
  have hv':Below w.heap.size w v:=by rw[HE.out];exact hv
  exact⟨kc hv' hC3,HL.out.below hv'⟩
 have HK0:Hid (Below E w w1/\∃s vg vt vd tag,AE E R S M s w1 B C GB TB AB NB DB vg vt vd tag/\BT c.list s (Cn c.list 0)):=⟨HB1.out,s,vg,vt,vd,tag,HK1.out,HS1.out⟩
 clear hE HK1 HS1 HB1 KN hC3 HL;go_wp2;clear d3
 go_loopw [18] (fun iv wr=>∃j:Nat,j<=M/\iv=.int .i64 (j:Int)/\Hid (Below E w wr/\∃s vg vt vd tag,AE E R S M s wr B C GB TB AB NB DB vg vt vd tag/\BT c.list s (Cn c.list j))) (fun iv _=>M-(intOf iv).toNat)
 case atStart=>exact⟨0,Nat.zero_le _,rfl,HK0.out⟩
 case round=>
  clear HK0;obtain⟨j,hj,rfl,HJ⟩:=hrel;by_cases hlt:j<M
  ·have hjl:j<c.list.length:=by have:=HM.out;omega
   obtain⟨hbj,s,vg,vt,vd,tag,hK,hP⟩:=HJ.out;obtain⟨-,hrow⟩:=HC3.out wr hbj;obtain⟨lb,lo,rfl,hcl⟩:=hrow.at hjl;have HON:=A2 (fun o=>GN hjl o);have HOY:=A2 (fun o=>Fo hjl o);have htd:s.todo.length<=M:=by
    have h9:=(EX (l:=c.list) j oM).2.2.2;have h8:=GX c.list (Cn c.list j);have h7:=HM.out;rw[hP.todo];omega
   obtain⟨⟨op,d,a,b,e,n,z⟩,hi⟩:∃i,c.list[j]=i:=⟨_,rfl⟩
   rw[hi]at hcl HON HOY;simp only at HON HOY;have y0:=hcl.at 0 (v:=.int .i64 op) rfl;rw[Nat.add_zero]at y0;have y1:=hcl.at 1 (v:=.int .i64 d) rfl;have y2:=hcl.at 2 (v:=.int .i64 a) rfl;have y3:=hcl.at 3 (v:=.int .i64 b) rfl;have y4:=hcl.at 4 (v:=.int .i64 e) rfl;have y5:=hcl.at 5 (v:=.int .i64 n) rfl;have y6:=hcl.at 6 (v:=.int .u32 z) rfl;have llb:lb<wr.heap.size:=Ac y0;have n9:¬lb=wr.heap.size:=oM;have i1:(0:Int)<=(j:Int):=oM;have i2:(j:Int)<(M:Int):=oM;have wi:IntKind.i64.wrap ((j:Int)+1)=((j+1:Nat):Int):=by rw[IntKind.wrap_i64];omega
   obtain⟨V2,hV2⟩:∃V,wr.alloc (.cells #[.int .i64 op,.int .i64 d,.int .i64 a,.int .i64 b,.int .i64 e,.int .i64 n,.int .u32 z] 40)=V:=⟨_,rfl⟩
   have HB2:Hid (Below wr.heap.size wr V2):=by rw[←hV2];exact A0 _ _
   have hX2:V2.rowIs wr.heap.size 40 7 (Jt op d a b e n z):=by rw[←hV2];exact AH wr _ _
   have x0:V2.cell? ⟨wr.heap.size,0,none⟩=some (.int .i64 op):=hX2.cell (i:=0) dE;have HBV:Hid (Below E w V2):=hbj.trans (HB2.out.mono hK.lt);have HKV:=A2 (hK.below HB2.out);have HP:=A2 hP;have HTD:=A2 htd;clear hX2 hcl hi llb hbj hK hP htd hrow HJ;by_cases o:op=31
   ·have o1:(op==31)=true:=by simpa using o
    have HOJ:=A2 (HOY.out o);obtain⟨W6,hW6⟩:∃W,V2.alloc (.cells #[.int .i64 (j:Int)] 3)=W:=⟨_,rfl⟩
    have HB6:Hid (Below V2.heap.size V2 W6):=by rw[←hW6];exact A0 _ _
    have HK6:Hid (AE E R S M s W6 B C GB TB AB NB DB vg vt vd (fun x=>if x<V2.heap.size then tag x else 0)):=(HKV.out.retag (fun x hx=>if_pos hx)).below HB6.out;have KE0:=Cu E R S M s W6 B C GB TB AB NB DB vg vt vd (fun x=>if x<V2.heap.size then tag x else 0) HK6.out V2.heap.size 1 0 (some ⟨V2.heap.size,0,none⟩) [j] (fun _=>rfl) (fun k hk=>by
     have hk2:k=0:=by simp only[List.length_cons,List.length_nil]at hk;omega
     rw[←hW6];subst hk2
     simp[go_sem]) (fun _=>⟨if_neg oM,dE,dE,dE⟩) (fun x hx=>by
     simp only[List.mem_singleton]at hx
     rw[hx];exact hlt) M6 oM
    rw[show [j].length=1 from rfl]at KE0;have KE:=A2 KE0;clear KE0;clear o HON HOY;go_upto_region 5 with fail;try rw[hV2]
    go_upto_region 6 with fail;go_wp2_with(go_at_call 27;(try rw[hW6]);(with_reducible refine(KE.out).mono ?_);rintro e9 w7 ⟨rfl,hb7,vd7,tag7,hk7,hs7⟩;have HB7:=A2 hb7;have HK7:=A2 hk7;clear hb7 hk7 hs7);go_roundw
    case rel=>
     refine⟨j+1,oM,gN,(HBV.out.trans (HB6.out.mono HKV.out.lt)).trans HB7.out,_,_,_,_,_,HK7.out,?_⟩;rw[HOJ.out];exact HP.out.need1 j
    case measure=>simp[intOf];omega
   ·have o1:(op==31)=false:=by simpa using o
    have HOJ:=A2 (HON.out o);clear o HON HOY;go_upto_region 5 with fail;try rw[hV2]
    go_wp2;go_roundw
    case rel=>
     refine⟨j+1,oM,gN,HBV.out,_,_,_,_,_,HKV.out,?_⟩;rw[HOJ.out];exact HP.out
    case measure=>simp[intOf];omega
  ·have e9:¬ (j:Int)<(M:Int):=oM;have hjn:j=c.list.length:=by have:=HM.out;omega
   have HK0:Hid (Below E w wr/\∃s vg vt vd tag q,AE E R S M s wr B C GB TB AB NB DB vg vt vd tag/\BT c.list s q/\HV c.list q/\B6 c.list q<=M):=by
    obtain⟨hbj,s,vg,vt,vd,tag,hK,hP⟩:=HJ.out;rw[hjn]at hP;refine⟨hbj,s,vg,vt,vd,tag,_,hK,hP,HV.begun c.list,?_⟩;have h9:=(EX (l:=c.list) c.list.length (Nat.le_refl _)).2.2.2;have:=HM.out;omega
   clear hlt hjn HJ hj;go_wp2
   go_loopw [6] (fun _ wr=>Hid (Below E w wr/\∃s vg vt vd tag q,AE E R S M s wr B C GB TB AB NB DB vg vt vd tag/\BT c.list s q/\HV c.list q/\B6 c.list q<=M)) (fun _ wr=>Li M B DB wr)
   case atStart=>exact HK0.out
   case round=>
    clear HK0;have HJ:=hrel;clear hrel;obtain⟨hbj,s,vg,vt,vd,tag,q,hK,hP,hI,hD⟩:=HJ.out;have b6:=hK.b6;have hML:=HM.out;have HMS:Hid (Li M B DB wr=B6 c.list q):=by show _=_;rw[←hML]at hK ⊢;exact If hK hP
    by_cases hlt:0<s.todo.length
    ·obtain⟨t,p,t1,t2,t3,t4⟩:=Gb hlt;obtain⟨g,cap,rfl,g1,g2,g3,g4,g5⟩:=Bj hK.td hlt;have hcp:=g5 (s.todo.length-1) (.int .i64 (p:Int)) (by simp[AG,t3]);obtain⟨hp,hI',hD'⟩:=HNX.out q hI t p (by rw[←hP.todo];exact t1);have hown:wr.ownsRow E 3 1 (.slice (some ⟨g,0,none⟩) t.length cap) t.length (AG t):=by
      have h9:=E7 hK.td (m:=s.todo.length-1) oM;rw[Nat.mul_one,EG,←t2,←t4]at h9;exact h9
     have hK5:=hK.setTodo hown (fun x hx=>hK.ttd x (by rw[←hx];rfl));obtain⟨W5,hW5⟩:∃W,wr.setCell ⟨B,6,none⟩ (.slice (some ⟨g,0,none⟩) t.length cap)=W:=⟨_,rfl⟩
     rw[hW5]at hK5;have hB5:Below E w W5:=by rw[←hW5];exact hbj.setCell hK.hB _
     obtain⟨c3,hrow⟩:=HC3.out W5 hB5;have htl:=GX c.list q;have f6:=hK.b.frozen 6;have KG:=A2 (I6 c.list E R S _ _ W5 B C GB TB AB NB DB vg vt _ tag (by rw[hML];exact hK5) (hP.pop t) p3 q3 (by rw[hML];exact c3) (by rw[hML];exact hrow) p hp (HGO.out p hp).1 (HGO.out p hp).2 HST.out (by show t.length<=40000;have:=hP.todo;rw[this]at t4;omega) oM);simp only[hML]at KG;have HI':=A2 hI';have HD':Hid (B6 c.list (goQ c.list {q with todo:=t} p c.list[p])+1=B6 c.list q/\B6 c.list q<=M):=⟨hD',hD⟩
     have HB5:=A2 hB5;obtain⟨N,hN⟩:∃N,s.todo.length=N:=⟨_,rfl⟩
     obtain⟨N1,hN1⟩:∃N,t.length=N:=⟨_,rfl⟩
     rw[hN,hN1]at t4;simp only[hN]at b6 hlt hcp g3;rw[hN1]at hW5;rw[show N-1=N1 by omega]at hcp;have hNN:N=N1+1:=oM;subst hNN;have i1:(0:Int)<((N1+1:Nat):Int):=oM;have hmx:N1+1<=maxLen:=oM;unfold maxLen at hmx;have i3:IntKind.i64.wrap (N1:Int)=(N1:Int):=by rw[IntKind.wrap_i64];omega
     have i4:(0:Int)<=(N1:Int):=oM;have i5:(N1:Int)<((N1+1:Nat):Int):=oM;have i6:(N1:Int)<=(cap:Int):=oM;have i7:N1<=cap:=oM;clear hbj hK hP hI hD hI' hD' hK5 hB5 c3 hrow htl hown t1 t2 t3 t4 hN hN1 g1 g2 g4 g5 HJ hML;go_upto_region 12 with fail;try rw[hW5]
     clear hW5;go_wp2_with(go_at_call 28;(with_reducible refine(KG.out).mono ?_);rintro e9 w7 ⟨rfl,hb7,s7,vg7,vt7,vd7,tag7,hk7,hs7⟩;have HB7:=A2 hb7;have HK7:=A2 hk7;have HS7:=A2 hs7;clear hb7 hk7 hs7);go_roundw
     case rel=>
      refine⟨HB5.out.trans HB7.out,s7,vg7,vt7,vd7,tag7,_,HK7.out,HS7.out,HI'.out,?_⟩;have:=HD'.out;omega
     case measure=>
      have h9:Li M B DB w7=B6 c.list (goQ c.list {q with todo:=t} p c.list[p]):=by
       have hML:=HM.out;have h8:=HK7.out;rw[←hML]at h8 ⊢;exact If h8 HS7.out
      have h7:=HD'.out;have h6:=HMS.out;omega
    ·have e8:s.todo.length=0:=oM;have HFI:Hid (Below E w wr/\wr.rowIs DB 4 M (fun p=>.bool (ndK c.list p))/\wr.cell? ⟨B,5,none⟩=some (.slice (some ⟨DB,0,none⟩) M M)/\wr.rowIs B 77 7 (BH #[.pointer (some ⟨C,0,none⟩),.slice (some ⟨GB,0,none⟩) R R,.slice (some ⟨TB,0,none⟩) S S,.slice (some ⟨AB,0,none⟩) M M,.slice (some ⟨NB,0,none⟩) M M,.slice (some ⟨DB,0,none⟩) M M,vd])/\E<=wr.heap.size):=by
      refine⟨hbj,hK.d.congr fun k hk=>?_,hK.b5,hK.b,hK.lt⟩;rw[hP.nd,hI.done (by rw[←hP.todo];exact List.eq_nil_of_length_eq_zero e8)]
     obtain⟨po,cap,rfl⟩:=AU hK.td;rw[e8]at b6;have c3:=(HC3.out wr hbj).1;clear hlt hK hP hI hD HJ hbj HMS e8 hML HGO HST HNX;go_wp2;obtain⟨hbf,hDf,c5,hBf,hle⟩:=HFI.out;have HL0:Hid (Below E w wr/\wr.rowIs DB 4 M (fun p=>.bool (ndK c.list p))/\(∃f,wr.rowIs B 77 7 f/\f 5=.slice (some ⟨DB,0,none⟩) M M)/\E<=wr.heap.size/\wr.ownsRow E 40 7 (.slice none 0 0) (Ap (ndK c.list) id c.list 0).length (Al AS (Ap (ndK c.list) id c.list 0))/\((Ap (ndK c.list) id c.list 0).length=0->(none:Option Addr)=none/\(0:Nat)=0)):=⟨hbf,hDf,⟨_,hBf,rfl⟩,hle,World.ownsRow_nil _ _ _ 7,fun _=>⟨rfl,rfl⟩⟩
     clear hbf hDf c5 hBf hle HFI c3 b6
     go_loopw [67,8] (fun iv lv wr=>∃ (j:Nat) (pl:Option Addr) (ql:Nat),j<=M/\iv=.int .i64 (j:Int)/\lv=.slice pl (Ap (ndK c.list) id c.list j).length ql/\Hid (Below E w wr/\wr.rowIs DB 4 M (fun p=>.bool (ndK c.list p))/\(∃f,wr.rowIs B 77 7 f/\f 5=.slice (some ⟨DB,0,none⟩) M M)/\E<=wr.heap.size/\wr.ownsRow E 40 7 (.slice pl (Ap (ndK c.list) id c.list j).length ql) (Ap (ndK c.list) id c.list j).length (Al AS (Ap (ndK c.list) id c.list j))/\((Ap (ndK c.list) id c.list j).length=0->pl=none/\ql=0))) (fun iv _ _=>M-(intOf iv).toNat)
     case atStart=>exact⟨0,none,0,Nat.zero_le _,rfl,rfl,HL0.out⟩
     case round=>
      clear HL0;obtain⟨j,pl,ql,hj,rfl,rfl,HJ⟩:=hrel;by_cases hlt:j<M
      ·have hjl:j<c.list.length:=by have:=HM.out;omega
       obtain⟨hbj,hD,⟨f,hF,hF5⟩,hEw,hO,hZ0⟩:=HJ.out;have HZ0:=A2 hZ0;clear hZ0;obtain⟨-,hrow⟩:=HC3.out wr hbj;obtain⟨lb,lo,rfl,hcl⟩:=hrow.at hjl;have HID:=A2 (KA (ndK c.list) c.list hjl);obtain⟨⟨op,d,a,b,e,n,z⟩,hi⟩:∃i,c.list[j]=i:=⟨_,rfl⟩
       rw[hi]at hcl HID;have y0:=hcl.at 0 (v:=.int .i64 op) rfl;rw[Nat.add_zero]at y0;have y1:=hcl.at 1 (v:=.int .i64 d) rfl;have y2:=hcl.at 2 (v:=.int .i64 a) rfl;have y3:=hcl.at 3 (v:=.int .i64 b) rfl;have y4:=hcl.at 4 (v:=.int .i64 e) rfl;have y5:=hcl.at 5 (v:=.int .i64 n) rfl;have y6:=hcl.at 6 (v:=.int .u32 z) rfl;have llb:lb<wr.heap.size:=Ac y0;have n9:¬lb=wr.heap.size:=oM;have i1:(0:Int)<=(j:Int):=oM;have i2:(j:Int)<(M:Int):=oM;have wi:IntKind.i64.wrap ((j:Int)+1)=((j+1:Nat):Int):=by rw[IntKind.wrap_i64];omega
       obtain⟨V2,hV2⟩:∃V,wr.alloc (.cells #[.int .i64 op,.int .i64 d,.int .i64 a,.int .i64 b,.int .i64 e,.int .i64 n,.int .u32 z] 40)=V:=⟨_,rfl⟩
       have HB2:Hid (Below wr.heap.size wr V2):=by rw[←hV2];exact A0 _ _
       have hX2:V2.rowIs wr.heap.size 40 7 (Jt op d a b e n z):=by rw[←hV2];exact AH wr _ _
       have x0:V2.cell? ⟨wr.heap.size,0,none⟩=some (.int .i64 op):=hX2.cell (i:=0) dE;have x1:V2.cell? ⟨wr.heap.size,1,none⟩=some (.int .i64 d):=hX2.cell (i:=1) dE;have x2:V2.cell? ⟨wr.heap.size,2,none⟩=some (.int .i64 a):=hX2.cell (i:=2) dE;have x3:V2.cell? ⟨wr.heap.size,3,none⟩=some (.int .i64 b):=hX2.cell (i:=3) dE;have x4:V2.cell? ⟨wr.heap.size,4,none⟩=some (.int .i64 e):=hX2.cell (i:=4) dE;have x5:V2.cell? ⟨wr.heap.size,5,none⟩=some (.int .i64 n):=hX2.cell (i:=5) dE;have x6:V2.cell? ⟨wr.heap.size,6,none⟩=some (.int .u32 z):=hX2.cell (i:=6) dE;have HBV:Hid (Below E w V2):=hbj.trans (HB2.out.mono hEw);have HDV:=A2 (hD.of_block (HB2.out.block _ hD.lt));have HFV:=A2 (hF.of_block (HB2.out.block _ hF.lt));have HOV:=A2 (Ak hO HB2.out);have HEV:Hid (E<=V2.heap.size):=Nat.le_trans hEw HB2.out.size;have d5:V2.cell? ⟨B,5,none⟩=some (.slice (some ⟨DB,0,none⟩) M M):=by rw[←hF5];exact HFV.out.cell (i:=5) dE
       have dd:=HDV.out.cell hlt;have hln:(Ap (ndK c.list) id c.list j).length<=32768:=by have:=Cz (ndK c.list) id c.list j;omega
       have HF5:=A2 hF5;obtain⟨P0,hP0⟩:∃P,Ap (ndK c.list) id c.list j=P:=⟨_,rfl⟩
       rw[hP0]at HOV hln HID HZ0;rw[hP0];clear hX2 hcl hi llb hbj hD hF hF5 hEw hO hrow HJ hP0;cases hn:ndK c.list j with
       |true=>
        rw[hn]at dd HID;simp only[if_true]at HID;obtain⟨g,cq,w6,hr,hb6,ho6,hoth,hat⟩:=E5 (t:=25) (e:=40) underlying25 H8 rF dE HOV.out HEV.out #[.int .i64 op,.int .i64 d,.int .i64 a,.int .i64 b,.int .i64 e,.int .i64 n,.int .u32 z] rfl Kt mL oM 25;have HR:=A2 hr;have HB6:=A2 hb6;have HO6:Hid (w6.ownsRow E 40 7 (.slice (some ⟨g,0,none⟩) (P0.length+1) cq) (P0.length+1) (Al AS (P0++[⟨op,d,a,b,e,n,z⟩]))):=by
         have e9:Al AS (P0++[⟨op,d,a,b,e,n,z⟩])=Al AS P0++[.int .i64 op,.int .i64 d,.int .i64 a,.int .i64 b,.int .i64 e,.int .i64 n,.int .u32 z]:=by simp[Al,AS,Ml]
         show World.ownsRow _ _ _ _ _ _ _;rw[e9];exact ho6
        have HD6:=A2 (HDV.out.of_block (hoth _ HDV.out.lt (CT HOV.out HDV.out dE)));have HF6:=A2 (HFV.out.of_block (hoth _ HFV.out.lt (CT HOV.out HFV.out dE)));obtain⟨PL,hPL⟩:∃k,P0.length+1=k:=⟨_,rfl⟩
        have HPL:Hid (P0.length+1=PL):=hPL;rw[hPL]at HR HO6;clear hr hb6 ho6 hoth hat hn hPL;go_upto_region 17 with fail;try rw[hV2]
        go_wp2_with(at_builtin;refine B2 rF _ _ _ rF _ _ _ rF rF HR.out ?_);go_roundw
        case rel=>
         have hPL:=HPL.out;refine⟨j+1,some ⟨g,0,none⟩,cq,oM,gN,?_,HBV.out.trans HB6.out,HD6.out,⟨f,HF6.out,HF5.out⟩,Nat.le_trans HEV.out HB6.out.size,?_,fun h9=>?_⟩
         ·rw[HID.out,List.length_append];exact congrArg (fun k=>Value.slice _ k _) hPL.symm
         ·rw[HID.out,List.length_append,show P0.length+[(⟨op,d,a,b,e,n,z⟩:Ab)].length=PL from hPL];exact HO6.out
         ·rw[HID.out,List.length_append]at h9;simp at h9
        case measure=>simp[intOf];omega
       |false=>
        rw[hn]at dd HID;simp only[Bool.false_eq_true,if_false]at HID;clear hn;go_upto_region 17 with fail;try rw[hV2]
        go_wp2;go_roundw
        case rel=>
         refine⟨j+1,pl,ql,oM,gN,by rw[HID.out],HBV.out,HDV.out,⟨f,HFV.out,HF5.out⟩,HEV.out,?_,?_⟩
         ·rw[HID.out];exact HOV.out
         ·rw[HID.out];exact HZ0.out
        case measure=>simp[intOf];omega
      ·have e9:¬ (j:Int)<(M:Int):=oM;have hjn:j=M:=oM;subst hjn;have HE2:Hid (wr.ownsRow E 40 7 (.slice pl (Ap (ndK c.list) id c.list j).length ql) (Ap (ndK c.list) id c.list j).length (Al AS (Ap (ndK c.list) id c.list j))/\((Ap (ndK c.list) id c.list j).length=0->pl=none/\ql=0)/\Below E w wr):=⟨HJ.out.2.2.2.2.1,HJ.out.2.2.2.2.2,HJ.out.1⟩
       clear hlt HJ;go_wp2;refine bodyPost_ret (by simp[results,results11,go_sem, *];try rfl) rfl ?_;rw[HE.out];exact⟨_,_,rfl,HE2.out.1,fun h9=>HE2.out.2.1 (by rw[h9];rfl),HE2.out.2.2⟩
def JH:Option Value->Nat
 |some (.int _ x)=>x.toNat
 |_=>0
def AQ(l:List Ab)(o:Nat):Nat:=JH ((Al AS l)[o]?)
theorem Bf(l:List Ab){j k:Nat}(hj:j<l.length)(hk:k<7):(Al AS l)[7*j+k]? =(AS l[j])[k]? :=by
 have:=CI Bg l j k hj hk;rw[Nat.mul_comm]at this;exact this
theorem Cv{l:List Ab}{o:Nat}:∀k,k<=l.length->(o∈AD l k↔∃j,∃hj:j<l.length,j<k/\((o=7*j+1/\Aa l[j]=true)\/(o=7*j+2/\1<=(A8 l[j] (A4 l[j].op)).length)\/(o=7*j+3/\2<=(A8 l[j] (A4 l[j].op)).length)\/(o=7*j+4/\3<=(A8 l[j] (A4 l[j].op)).length)))
 |0,_=>⟨fun h=>Ku,fun⟨j,hj,h,_⟩=>absurd h oM⟩
 |k+1,hk=>by
  have hkl:k<l.length:=oM;rw[Dl hkl,List.mem_append,List.mem_append,Cv k oM];have hn:=Dq l[k];have new:(o∈(if Aa l[k]=true then [7*k+1]else [])\/o∈[7*k+2,7*k+3,7*k+4].take (A8 l[k] (A4 l[k].op)).length)↔((o=7*k+1/\Aa l[k]=true)\/(o=7*k+2/\1<=(A8 l[k] (A4 l[k].op)).length)\/(o=7*k+3/\2<=(A8 l[k] (A4 l[k].op)).length)\/(o=7*k+4/\3<=(A8 l[k] (A4 l[k].op)).length)):=by
   generalize (A8 l[k] (A4 l[k].op)).length=n at hn;generalize Aa l[k]=s;have hn:n=0\/n=1\/n=2\/n=3:=oM;rcases hn with rfl|rfl|rfl|rfl<;>cases s<;>simp
  constructor
  ·rintro((⟨j,hj,h1,h2⟩|h)|h)
   ·exact⟨j,hj,oM,h2⟩
   ·exact⟨k,hkl,oM,new.1 (.inl h)⟩
   ·exact⟨k,hkl,oM,new.1 (.inr h)⟩
  ·rintro⟨j,hj,h1,h2⟩;by_cases e:j=k
   ·subst e;rcases new.2 h2 with h|h
    ·exact .inl (.inr h)
    ·exact .inr h
   ·exact .inl (.inl ⟨j,hj,oM,h2⟩)
theorem Cw{l:List Ab}{o:Nat}:∀k,k<=l.length->(o∈AF l k↔∃j,∃hj:j<l.length,j<k/\o=7*j+5/\(l[j].op=32\/l[j].op=33))
 |0,_=>⟨fun h=>Ku,fun⟨j,hj,h,_⟩=>absurd h oM⟩
 |k+1,hk=>by
  have hkl:k<l.length:=oM;rw[Dm hkl,List.mem_append,Cw k oM];constructor
  ·rintro(⟨j,hj,h1,h2⟩|h)
   ·exact⟨j,hj,oM,h2⟩
   ·split at h
    ·rename_i h9;exact⟨k,hkl,oM,by simpa using h,h9⟩
    ·cases h
  ·rintro⟨j,hj,h1,h2,h3⟩;by_cases e:j=k
   ·subst e;right;rw[if_pos h3,h2];simp
   ·exact .inl ⟨j,hj,oM,h2,h3⟩
theorem E2(l:List Ab):∀k,k<=l.length->(AD l k).Nodup
 |0,_=>List.nodup_nil
 |k+1,hk=>by
  have hkl:k<l.length:=oM;have ih:=E2 l k oM;have lt:∀o∈AD l k,o<7*k:=fun o ho=>by
   obtain⟨j,hj,h1,h2⟩:=(Cv k oM).1 ho;omega
  rw[Dl hkl,List.append_assoc,List.nodup_append];have hn:=Dq l[k];generalize (A8 l[k] (A4 l[k].op)).length=n at hn;generalize Aa l[k]=s;have hn:n=0\/n=1\/n=2\/n=3:=oM;refine⟨ih,?_,fun a ha b hb e=>?_⟩
  ·rcases hn with rfl|rfl|rfl|rfl<;>cases s<;>simp
  ·have h1:=lt a ha;have h2:7*k<=b:=by rcases hn with rfl|rfl|rfl|rfl<;>cases s<;>simp at hb<;>omega
   omega
theorem E4(l:List Ab):∀k,k<=l.length->(AF l k).Nodup
 |0,_=>List.nodup_nil
 |k+1,hk=>by
  have hkl:k<l.length:=oM;have ih:=E4 l k oM;rw[Dm hkl,List.nodup_append];refine⟨ih,by split<;>simp,fun a ha b hb e=>?_⟩;obtain⟨j,hj,h1,h2,-⟩:=(Cw k oM).1 ha;split at hb
  ·simp only[List.mem_singleton]at hb;omega
  ·cases hb
theorem ED(i:Ab)(hk:Au i.op=true):((A4 i.op).a≠0↔1<=(A8 i (A4 i.op)).length)/\((A4 i.op).b≠0↔2<=(A8 i (A4 i.op)).length)/\((A4 i.op).c≠0↔3<=(A8 i (A4 i.op)).length):=by
 have hrow:((A4 i.op).b≠0->(A4 i.op).a≠0)/\((A4 i.op).c≠0->(A4 i.op).b≠0):=by
  obtain⟨n,e,h1,h2⟩:=BZ hk;rw[e];have Cj:∀n:Nat,n<38->((A4 (n:Int)).b≠0->(A4 (n:Int)).a≠0)/\((A4 (n:Int)).c≠0->(A4 (n:Int)).b≠0):=dE;exact Cj n h2
 unfold A8;by_cases ha:(A4 i.op).a=0<;>by_cases hb:(A4 i.op).b=0<;>by_cases hc:(A4 i.op).c=0<;>simp[ha,hb,hc]at hrow ⊢
section
variable {c : Cd}
noncomputable def ndL (c:Cd):List Ab:=Ap (ndK c.list) id c.list c.list.length
theorem EC(K:Nat->Bool)(f:Ab->Ab)(l:List Ab):∀j,Ap K f l j=(Ap K id l j).map f
 |0=>rfl
 |j+1=>by
  rw[Ap,Ap,EC K f l j,List.map_append];congr 1;cases l[j]? with
  |none=>rfl
  |some i=>simp only;split<;>rfl
theorem EW{i:Ab}(h:i∈ndL c):∃k,∃hk:k<c.list.length,Nd c.list k/\i=c.list[k]:=by
 obtain⟨k,hk,-,h1,h2⟩:=GJ c.list.length (Nat.le_refl _) h;exact⟨k,hk,Ao.1 h1,h2⟩
theorem GI{k:Nat}(hk:k<c.list.length)(n:Nd c.list k):c.list[k]∈ndL c:=GP (f:=id) hk (Ao.2 n) c.list.length hk (Nat.le_refl _)
theorem EU(hc:(Aj c).1=0){i:Ab}(h:i∈ndL c):Au i.op=true/\AR c i (A4 i.op)=true:=by
 obtain⟨k,hk,-,rfl⟩:=EW h;obtain⟨h1,h2,h3⟩:=Ax.1 hc;obtain⟨t1,t2,t3,t4⟩:=Ar (AV h2 hk);exact⟨t1,t2⟩
theorem Kn(hc:(Aj c).1=0){o:Nat}(ho:o∈AD (ndL c) (ndL c).length):o<(ndL c).length*7/\(Al AS (ndL c))[o]? =some (.int .i64 (AQ (ndL c) o:Int))/\AQ (ndL c) o<c.regs.length/\usR c.list (AQ (ndL c) o)=true:=by
 obtain⟨j,hj,-,h⟩:=(Cv _ (Nat.le_refl _)).1 ho;have hm:=List.getElem_mem hj;obtain⟨k1,k2⟩:=EU hc hm;obtain⟨ra,rb,rc⟩:=ED _ k1;obtain⟨k,hk,hn,e⟩:=EW hm;obtain⟨c1,c2,c3⟩:=Ax.1 hc;have rd:∀r∈A8 (ndL c)[j] (A4 (ndL c)[j].op),usR c.list r.toNat=true:=fun r hr=>CO c2 hk hn (by rw[←e];exact hr);have Cj:∀ (kk:Nat) (x:Int),kk<7->o=7*j+kk->(AS (ndL c)[j])[kk]? =some (.int .i64 x)->0<=x->x<(c.regs.length:Int)->usR c.list x.toNat=true->o<(ndL c).length*7/\(Al AS (ndL c))[o]? =some (.int .i64 (AQ (ndL c) o:Int))/\AQ (ndL c) o<c.regs.length/\usR c.list (AQ (ndL c) o)=true:=fun kk x hkk eo hx x0 x1 hu=>by
  have e1:(Al AS (ndL c))[o]? =some (.int .i64 x):=by rw[eo,Bf _ hj hkk];exact hx
  have e2:AQ (ndL c) o=x.toNat:=by unfold AQ;rw[e1];rfl
  refine⟨oM,?_,by rw[e2];omega,by rw[e2];exact hu⟩;rw[e1,e2];congr 2;omega
 have ia:(A4 (ndL c)[j].op).a≠0->(ndL c)[j].a∈A8 (ndL c)[j] (A4 (ndL c)[j].op):=fun h9=>by unfold A8;simp[h9]
 have ib:(A4 (ndL c)[j].op).b≠0->(ndL c)[j].b∈A8 (ndL c)[j] (A4 (ndL c)[j].op):=fun h9=>by unfold A8;simp[h9]
 have ic:(A4 (ndL c)[j].op).c≠0->(ndL c)[j].c∈A8 (ndL c)[j] (A4 (ndL c)[j].op):=fun h9=>by unfold A8;simp[h9]
 rcases h with⟨e1,s⟩|⟨e1,s⟩|⟨e1,s⟩|⟨e1,s⟩
 ·have hd:(A4 (ndL c)[j].op).d≠0:=by unfold Aa at s;simpa using s
  obtain⟨x0,x1⟩:=Ag (C4 k2) hd;exact Cj 1 _ dE e1 rfl x0 x1 (AW.2 ⟨k,hk,hn,by rw[←e];exact s,by rw[←e]⟩)
 ·have h9:=ra.2 s;obtain⟨x0,x1⟩:=Ag (C3 k2) h9;exact Cj 2 _ dE e1 rfl x0 x1 (rd _ (ia h9))
 ·have h9:=rb.2 s;obtain⟨x0,x1⟩:=Ag (CG k2) h9;exact Cj 3 _ dE e1 rfl x0 x1 (rd _ (ib h9))
 ·have h9:=rc.2 s;obtain⟨x0,x1⟩:=Ag (CH k2) h9;exact Cj 4 _ dE e1 rfl x0 x1 (rd _ (ic h9))
theorem Lk(hc:(Aj c).1=0)(r:Nat):DD (AD (ndL c) (ndL c).length) (AQ (ndL c)) r=usR c.list r:=by
 rw[Bool.eq_iff_iff];constructor
 ·intro h;obtain⟨o,ho,e⟩:=List.any_eq_true.1 h;have e:AQ (ndL c) o=r:=by simpa using e
  rw[←e];exact(Kn hc ho).2.2.2
 ·intro h;obtain⟨k,hk,n,s,e⟩:=AW.1 h;obtain⟨j,hj,ej⟩:=List.mem_iff_getElem.1 (GI hk n);refine List.any_eq_true.2 ⟨7*j+1,(Cv _ (Nat.le_refl _)).2 ⟨j,hj,hj,.inl ⟨rfl,by rw[ej];exact s⟩⟩,?_⟩;have:AQ (ndL c) (7*j+1)=r:=by
   unfold AQ;rw[Bf _ hj dE,ej,←e];rfl
  simpa using this
end
def Ds(rho:Nat->Nat)(i:Ab):Ab:={i with d:=if Aa i=true then((rho i.d.toNat:Nat):Int)else i.d,a:=if(A4 i.op).a=0 then i.a else((rho i.a.toNat:Nat):Int),b:=if(A4 i.op).b=0 then i.b else((rho i.b.toNat:Nat):Int),c:=if(A4 i.op).c=0 then i.c else((rho i.c.toNat:Nat):Int)}
def JW(sig:Nat->Nat)(i:Ab):Ab:={i with n:=if i.op=32\/i.op=33 then((sig i.n.toNat:Nat):Int)else i.n}
theorem IC(rho sig:Nat->Nat){i:Ab}(hk:Au i.op=true):JW sig (Ds rho i)=B8 rho sig i:=by
 have hrow:(A4 i.op).n=10↔(i.op=32\/i.op=33):=by
  obtain⟨n,e,h1,h2⟩:=BZ hk;rw[e];have Cj:∀n:Nat,n<38->((A4 (n:Int)).n=10↔((n:Int)=32\/(n:Int)=33)):=dE;exact Cj n h2
 unfold JW Ds B8 Aa;simp only;by_cases hd:(A4 i.op).d=0<;>by_cases hn:i.op=32\/i.op=33<;>simp[hd,hn,hrow]
section
variable {c : Cd}
theorem Lf(hc:(Aj c).1=0)(f:Nat->Value)(hf:∀o,o<(ndL c).length*7->(Al AS (ndL c))[o]? =some (f o))(o:Nat)(ho:o<((ndL c).map (Ds (Ad (usR c.list)))).length*7):(Al AS ((ndL c).map (Ds (Ad (usR c.list)))))[o]? =some (fJ (AD (ndL c) (ndL c).length) (AQ (ndL c)) f (AD (ndL c) (ndL c).length).length o):=by
 rw[List.length_map]at ho;obtain⟨j,k,ek,hk⟩:∃j k,o=7*j+k/\k<7:=⟨o/7,o%7,oM,oM⟩
 have hj:j<(ndL c).length:=oM;obtain⟨k1,k2⟩:=EU hc (List.getElem_mem hj);obtain⟨ra,rb,rc⟩:=ED _ k1;have hfo:=hf o ho;rw[ek,Bf _ hj hk]at hfo;have hv:AQ (ndL c) (7*j+k)=JH ((AS (ndL c)[j])[k]?):=by unfold AQ;rw[Bf _ hj hk]
 have mem:o∈AD (ndL c) (ndL c).length↔((k=1/\Aa (ndL c)[j]=true)\/(k=2/\(A4 (ndL c)[j].op).a≠0)\/(k=3/\(A4 (ndL c)[j].op).b≠0)\/(k=4/\(A4 (ndL c)[j].op).c≠0)):=by
  rw[Cv _ (Nat.le_refl _),ra,rb,rc];constructor
  ·rintro⟨j',hj',-,h⟩;have:j'=j:=oM;subst this;exact MQ
  ·intro h;refine⟨j,hj,hj,?_⟩;exact MQ
 have enm:DD (AD (ndL c) (ndL c).length) (AQ (ndL c))=usR c.list:=funext (Lk hc);have gj:(List.map (Ds (Ad (usR c.list))) (ndL c))[j]' Mc=Ds (Ad (usR c.list)) (ndL c)[j]:=List.getElem_map ..;rw[ek,Bf _ Mc hk,gj];unfold fJ;rw[List.take_length,←ek,enm];simp only[mem];rw[ek,hv];generalize (ndL c)[j]=i at *;obtain⟨op,d,a,b,e,n,z⟩:=i;simp only at hfo ⊢;rcases(show k=0\/k=1\/k=2\/k=3\/k=4\/k=5\/k=6 by omega)with rfl|rfl|rfl|rfl|rfl|rfl|rfl
 ·rw[if_neg oM];rw[←hfo];rfl
 ·by_cases s:Aa (⟨op,d,a,b,e,n,z⟩:Ab)=true
  ·rw[if_pos (.inl ⟨rfl,s⟩)];show some (Value.int .i64 (if Aa _=true then _ else d))=_;rw[if_pos s];rfl
  ·rw[if_neg (by simp[s]),←hfo];show some (Value.int .i64 (if Aa _=true then _ else d))=_;rw[if_neg s];rfl
 ·by_cases s:(A4 op).a=0
  ·rw[if_neg (by simp[s]),←hfo];show some (Value.int .i64 (if(A4 op).a=0 then a else _))=_;rw[if_pos s];rfl
  ·rw[if_pos (.inr (.inl ⟨rfl,s⟩))];show some (Value.int .i64 (if(A4 op).a=0 then a else _))=_;rw[if_neg s];rfl
 ·by_cases s:(A4 op).b=0
  ·rw[if_neg (by simp[s]),←hfo];show some (Value.int .i64 (if(A4 op).b=0 then b else _))=_;rw[if_pos s];rfl
  ·rw[if_pos (.inr (.inr (.inl ⟨rfl,s⟩)))];show some (Value.int .i64 (if(A4 op).b=0 then b else _))=_;rw[if_neg s];rfl
 ·by_cases s:(A4 op).c=0
  ·rw[if_neg (by simp[s]),←hfo];show some (Value.int .i64 (if(A4 op).c=0 then e else _))=_;rw[if_pos s];rfl
  ·rw[if_pos (.inr (.inr (.inr ⟨rfl,s⟩)))];show some (Value.int .i64 (if(A4 op).c=0 then e else _))=_;rw[if_neg s];rfl
 ·rw[if_neg oM];rw[←hfo];rfl
 ·rw[if_neg oM];rw[←hfo];rfl
theorem Fm(g:Ab->Ab)(hg:∀i,(g i).op=i.op)(l:List Ab):∀k,AF (l.map g) k=AF l k
 |0=>rfl
 |k+1=>by
  rw[AF,AF,Fm g hg l k,List.getElem?_map];cases l[k]? with
  |none=>rfl
  |some i=>simp only[Option.map_some,hg]
theorem Ko(hc:(Aj c).1=0)(rho:Nat->Nat){o:Nat}(ho:o∈AF (ndL c) (ndL c).length):o<(ndL c).length*7/\(Al AS ((ndL c).map (Ds rho)))[o]? =some (.int .i64 (AQ (ndL c) o:Int))/\AQ (ndL c) o<c.slots.length/\usS c.list (AQ (ndL c) o)=true:=by
 obtain⟨j,hj,-,e1,op⟩:=(Cw _ (Nat.le_refl _)).1 ho;have hm:=List.getElem_mem hj;obtain⟨k,hk,hn,e⟩:=EW hm;obtain⟨m,m1,m2⟩:=Df hc hk (by rw[←e];exact op);have e2:AQ (ndL c) o=m:=by
  unfold AQ;rw[e1,Bf _ hj dE];show JH (some (Value.int .i64 (ndL c)[j].n))=m;rw[e,m1];rfl
 refine⟨oM,?_,by rw[e2];exact m2,?_⟩
 ·rw[e2,e1,Bf _ Mc dE,List.getElem_map];show some (Value.int .i64 (ndL c)[j].n)=_;rw[e,m1]
 ·rw[e2];exact BJ.2 ⟨k,hk,hn,by rw[←e];exact op,by rw[m1];rfl⟩
theorem Ll(hc:(Aj c).1=0)(r:Nat):DD (AF (ndL c) (ndL c).length) (AQ (ndL c)) r=usS c.list r:=by
 rw[Bool.eq_iff_iff];constructor
 ·intro h;obtain⟨o,ho,e⟩:=List.any_eq_true.1 h;have e:AQ (ndL c) o=r:=by simpa using e
  rw[←e];exact(Ko hc id ho).2.2.2
 ·intro h;obtain⟨k,hk,n,s,e⟩:=BJ.1 h;obtain⟨j,hj,ej⟩:=List.mem_iff_getElem.1 (GI hk n);refine List.any_eq_true.2 ⟨7*j+5,(Cw _ (Nat.le_refl _)).2 ⟨j,hj,hj,rfl,by rw[ej];exact s⟩,?_⟩;have:AQ (ndL c) (7*j+5)=r:=by
   unfold AQ;rw[Bf _ hj dE,ej,←e];rfl
  simpa using this
theorem Lg(hc:(Aj c).1=0)(rho:Nat->Nat)(f:Nat->Value)(hf:∀o,o<(ndL c).length*7->(Al AS ((ndL c).map (Ds rho)))[o]? =some (f o))(o:Nat)(ho:o<(ndL c).length*7):(Al AS (((ndL c).map (Ds rho)).map (JW (Ad (usS c.list)))))[o]? =some (fJ (AF (ndL c) (ndL c).length) (AQ (ndL c)) f (AF (ndL c) (ndL c).length).length o):=by
 obtain⟨j,k,ek,hk⟩:∃j k,o=7*j+k/\k<7:=⟨o/7,o%7,oM,oM⟩
 have hj:j<(ndL c).length:=oM;have hj1:j<((ndL c).map (Ds rho)).length:=by rw[List.length_map];exact hj
 have hfo:=hf o ho;rw[ek,Bf _ hj1 hk,List.getElem_map]at hfo;have hv:AQ (ndL c) (7*j+k)=JH ((AS (ndL c)[j])[k]?):=by unfold AQ;rw[Bf _ hj hk]
 have mem:o∈AF (ndL c) (ndL c).length↔(k=5/\((ndL c)[j].op=32\/(ndL c)[j].op=33)):=by
  rw[Cw _ (Nat.le_refl _)];constructor
  ·rintro⟨j',hj',-,h,s⟩;have:j'=j:=oM;subst this;exact⟨oM,s⟩
  ·intro h;exact⟨j,hj,hj,oM,h.2⟩
 have enm:DD (AF (ndL c) (ndL c).length) (AQ (ndL c))=usS c.list:=funext (Ll hc);rw[ek,Bf _ (by rw[List.length_map];exact hj1) hk,List.getElem_map,List.getElem_map];unfold fJ;rw[List.take_length,←ek,enm];simp only[mem];rw[ek,hv];generalize (ndL c)[j]=i at *;by_cases k5:k=5
 ·subst k5;by_cases s:i.op=32\/i.op=33
  ·rw[if_pos ⟨rfl,s⟩];show some (Value.int .i64 (if i.op=32\/i.op=33 then _ else _))=_;rw[if_pos s];rfl
  ·rw[if_neg (fun q=>s q.2),←hfo];show some (Value.int .i64 (if i.op=32\/i.op=33 then _ else _))=_;rw[if_neg s];rfl
 ·rw[if_neg (fun q=>k5 q.1),←hfo];rcases(show k=0\/k=1\/k=2\/k=3\/k=4\/k=6 by omega)with rfl|rfl|rfl|rfl|rfl|rfl<;>rfl
theorem Gl(hc:(Aj c).1=0):((ndL c).map (Ds (Ad (usR c.list)))).map (JW (Ad (usS c.list)))=(pruneC c).list:=by
 show _=Ap (ndK c.list) (B8 (Ad (usR c.list)) (Ad (usS c.list))) c.list c.list.length;rw[EC,List.map_map];refine List.map_congr_left fun i hi=>?_;exact IC _ _ (EU hc hi).1
end
end Go.Proofs.Ytchbjcldkcfffaa
