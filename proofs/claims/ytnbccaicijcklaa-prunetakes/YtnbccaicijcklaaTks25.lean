import Derived.Test.YtnbccaicijcklaaTks1
import Derived.Test.YtnbccaicijcklaaTks23
import Derived.Deep.DeepCutAuto
import Derived.Test.YtnbccaicijcklaaTks24
import Derived.Test.YtnbccaicijcklaaTks17
import Derived.Test.YtnbccaicijcklaaTks19
namespace Go.Proofs.Ytnbccaicijcklaa
open Go.RowKit Go.Proofs.Try
set_option linter.all false
set_option maxRecDepth 100000
set_option maxHeartbeats 16000000
theorem Lg:(prog.info? 61).map (fun i=>(i.zero,i.size,i.bytes))=some (some (.slice none 0 0),1,24):=kR
theorem GX(m:Nat)(h:m<=5000000000000)(w:World):(Instr.makeSlice 75 (.int .i64 m) (.int .i64 m)).run prog w=.ok (.slice (some ⟨w.heap.size,0,none⟩) m m) (w.alloc (.cells (madeCells #[.slice none 0 0] m) 61)):=
 run_make_row' (P:=prog) 75 61 (.slice none 0 0) 24 underlying75 Lg rfl .i64 .i64 m oM oM w
structure RF(w:World)(R S C B GB TB:Nat)(v:World):Prop where
 bel:Below w.heap.size w v
 b:v.rowIs B 77 7 (BV #[.pointer (some ⟨C,0,none⟩),.slice (some ⟨GB,0,none⟩) R R,.slice (some ⟨TB,0,none⟩) S S,.slice none 0 0,.slice none 0 0,.slice none 0 0,.slice none 0 0])
 g:v.rowIs GB 61 R (fun _=>.slice none 0 0)
 t:v.rowIs TB 61 S (fun _=>.slice none 0 0)
 hB:w.heap.size<=B
 hG:w.heap.size<=GB
 hT:w.heap.size<=TB
 n1:B≠GB
 n2:B≠TB
 n3:GB≠TB
theorem Mo{w V:World}{R S C GB TB BB:Nat}(hb:Below w.heap.size w V)(hg:V.rowIs GB 61 R (fun _=>.slice none 0 0))(ht:V.rowIs TB 61 S (fun _=>.slice none 0 0))(hB:V.heap.size=BB)(h1:GB≠TB)(g1:w.heap.size<=GB)(g2:w.heap.size<=TB):
 RF w R S C BB GB TB (V.alloc (.cells #[.pointer (some ⟨C,0,none⟩),.slice (some ⟨GB,0,none⟩) R R,.slice (some ⟨TB,0,none⟩) S S,.slice none 0 0,.slice none 0 0,.slice none 0 0,.slice none 0 0] 77)).drew:=by
 subst hB;have l1:=hg.lt;have l2:=ht.lt;exact⟨bel (bel hb (A0 _ _)) (Ae _),World.rowIs.drew (AN V _ _),World.rowIs.drew (hg.alloc _),World.rowIs.drew (ht.alloc _),hb.size,g1,g2,oM,oM,h1⟩
structure Q6(w V:World)(R S C B GB TB:Nat)(cv:Value)(f:Nat->Value):Prop where
 b:V.rowIs B 77 7 f
 g:V.rowIs GB 61 R (fun _=>.slice none 0 0)
 t:V.rowIs TB 61 S (fun _=>.slice none 0 0)
 hc:V.cell? ⟨C,3,none⟩=some cv
 be:Below w.heap.size w V
 n:GB≠B/\TB≠B/\C≠B/\w.heap.size<=B
theorem Q6.st{w V:World}{R S C B GB TB:Nat}{cv:Value}{f:Nat->Value}(h:Q6 w V R S C B GB TB cv f)(i:Nat)(x:Value):∃U,V.setCell ⟨B,i,none⟩ x=U/\Q6 w U R S C B GB TB cv (fun j=>if j=i then x else f j)/\Hid (U.heap.size=V.heap.size)/\∀ {b t n g},V.rowIs b t n g->b≠B->U.rowIs b t n g:=
 ⟨_,rfl,⟨h.b.set i x,h.g.setOther (a:=⟨B,i,none⟩) h.n.1 x,h.t.setOther (a:=⟨B,i,none⟩) h.n.2.1 x,(World.cell?_of_block (a:=⟨C,3,none⟩) (Below.heap_setCell V ⟨B,i,none⟩ x _ h.n.2.2.1)).trans h.hc,h.be.setCell h.n.2.2.2 x,h.n⟩,by show _=_;simp,fun{b t n g} q hb=>q.setOther (a:=⟨B,i,none⟩) hb x⟩
theorem Q6.al{w V:World}{R S C B GB TB:Nat}{cv:Value}{f:Nat->Value}(h:Q6 w V R S C B GB TB cv f)(z:Value)(M:Nat)(t:TypeId):∃U,V.alloc (.cells (madeCells #[z] M) t)=U/\Q6 w U R S C B GB TB cv f/\Hid (U.heap.size=V.heap.size+1)/\U.rowIs V.heap.size t M (fun _=>z)/\∀ {b t n g},V.rowIs b t n g->U.rowIs b t n g:=
 ⟨_,rfl,⟨h.b.alloc _,h.g.alloc _,h.t.alloc _,kc (A0 _ _) h.hc,h.be.trans ((A0 _ _).mono h.be.size),h.n⟩,by show _=_;simp,World.rowIs_made V z M t,fun{b t n g} q=>q.alloc _⟩
theorem Q6.al0{w V:World}{R S C B GB TB:Nat}{cv:Value}{f:Nat->Value}(h:Q6 w V R S C B GB TB cv f)(z:Value)(M:Nat)(t:TypeId):∃U,(V.alloc (.cells (madeCells #[z] M) t)).drew=U/\Q6 w U R S C B GB TB cv f/\Hid (U.heap.size=V.heap.size+1)/\U.rowIs V.heap.size t M (fun _=>z)/\∀ {b t n g},V.rowIs b t n g->U.rowIs b t n g:=
 ⟨_,rfl,⟨World.rowIs.drew (h.b.alloc _),World.rowIs.drew (h.g.alloc _),World.rowIs.drew (h.t.alloc _),kc (bel (A0 _ _) (Ae _)) h.hc,h.be.trans ((bel (A0 _ _) (Ae _)).mono h.be.size),h.n⟩,by show _=_;simp,World.rowIs.drew (World.rowIs_made V z M t),fun{b t n g} q=>World.rowIs.drew (q.alloc _)⟩
theorem No(w:World)(z:Value)(N:Nat)(t:TypeId)(o2:Obj):((w.alloc (.cells (madeCells #[z] N) t)).alloc o2).rowIs w.heap.size t N (fun _=>z):=(World.rowIs_made w z N t).alloc _
theorem Np(w:World)(z:Value)(N:Nat)(t:TypeId)(o1:Obj):((w.alloc o1).alloc (.cells (madeCells #[z] N) t)).rowIs (w.heap.size+1) t N (fun _=>z):=by
 have h:=World.rowIs_made (w.alloc o1) z N t;rw[show(w.alloc o1).heap.size=w.heap.size+1 by simp]at h;exact h
def Rz:DT:=⟨fun _=>[],fun _=>[],fun _=>0,fun _=>0,fun _=>false,[]⟩
def Iz(B GB TB AB NB DB:Nat)(b:Nat):Nat:=if b=B then 1 else if b=GB then 2 else if b=TB then 3 else if b=AB then 4 else if b=NB then 5 else if b=DB then 6 else 0
theorem MC{E R S L C B GB TB AB NB DB:Nat}{V:World}(hb:V.rowIs B 77 7 (BV #[.pointer (some ⟨C,0,none⟩),.slice (some ⟨GB,0,none⟩) R R,.slice (some ⟨TB,0,none⟩) S S,.slice (some ⟨AB,0,none⟩) L L,.slice (some ⟨NB,0,none⟩) L L,.slice (some ⟨DB,0,none⟩) L L,.slice none 0 0]))(hg:V.rowIs GB 61 R (fun _=>.slice none 0 0))(ht:V.rowIs TB 61 S (fun _=>.slice none 0 0))(ha:V.rowIs AB 3 L (fun _=>.int .i64 0))(hn:V.rowIs NB 3 L (fun _=>.int .i64 0))(hd:V.rowIs DB 4 L (fun _=>.bool false))
 (e:E<=B/\E<=GB/\E<=TB/\E<=AB/\E<=NB/\E<=DB) (n:B≠GB/\B≠TB/\GB≠TB) (m:B<AB/\GB<AB/\TB<AB/\B<NB/\GB<NB/\TB<NB/\B<DB/\GB<DB/\TB<DB) (k:AB≠NB/\AB≠DB/\NB≠DB):
 Bj E R S L Rz V B C GB TB AB NB DB (fun _=>.slice none 0 0) (fun _=>.slice none 0 0) (.slice none 0 0) (Iz B GB TB AB NB DB):=by
 obtain⟨e1,e2,e3,e4,e5,e6⟩:=e;obtain⟨n1,n2,n3⟩:=n;obtain⟨m1,m2,m3,m4,m5,m6,m7,m8,m9⟩:=m;obtain⟨k1,k2,k3⟩:=k;refine⟨hb,hg,ht,ha,hn,hd,fun _ _=>World.ownsRow_nil _ _ _ 1,fun _ _=>World.ownsRow_nil _ _ _ 1,World.ownsRow_nil _ _ _ 1,e1,e2,e3,e4,e5,e6,?_,?_,?_,?_,?_,?_,fun r _ q hq=>(by cases hq),fun r _ q hq=>(by cases hq),fun q hq=>(by cases hq)⟩
 ·unfold Iz;rw[if_pos rfl]
 ·unfold Iz;rw[if_neg (fun q=>n1 q.symm),if_pos rfl]
 ·unfold Iz;rw[if_neg (fun q=>n2 q.symm),if_neg (fun q=>n3 q.symm),if_pos rfl]
 ·unfold Iz;rw[if_neg oM,if_neg oM,if_neg oM,if_pos rfl]
 ·unfold Iz;rw[if_neg oM,if_neg oM,if_neg oM,if_neg (fun q=>k1 q.symm),if_pos rfl]
 ·unfold Iz;rw[if_neg oM,if_neg oM,if_neg oM,if_neg (fun q=>k2 q.symm),if_neg (fun q=>k3 q.symm),if_pos rfl]
structure GP(l:List Aa)(j:Nat)(s:DT):Prop where
 nd:s.nd=fun _=>false
 todo:s.todo=[]
 sl:∀r,s.sl r=NG l j r
 tl:∀r,s.tl r=NQ l j r
 ar:∀p,p<j->s.ar p=Fh l p
 en:∀b e,e<j->AI l b e->s.en b=(e:Int)
theorem GP.zero(l:List Aa):GP l 0 Rz:=⟨rfl,rfl,fun _=>rfl,fun _=>rfl,fun p h=>by omega,fun b e h=>by omega⟩
theorem GP.all{l:List Aa}{s:DT}(h:GP l l.length s):CE l s QP:=by
 refine⟨h.nd,h.todo,fun r=>?_,fun r=>?_,h.ar,fun b e hm=>?_⟩
 ·rw[h.sl r];rfl
 ·rw[h.tl r];rfl
 ·rw[IP hm];exact h.en b e hm.1 hm
theorem P4{op d a b e n z:Int}(hsb:Ad (⟨op,d,a,b,e,n,z⟩:Aa)=true)(hk:An op=true)(hS:((A4 op).d != 0)=true):op<33:=by
 have h9:op<34:=Iw hsb hk;by_cases e9:op=33
 ·rw[e9]at hS;exact absurd hS dE
 ·omega
theorem Eo{w:World}{B:Nat}{t t':TypeId}{k n n' b:Nat}{v:Value}{xs:List Value}{f:Nat->Value}(h:w.ownsRow B t k v n xs)(h':w.rowIs b t' n' f)(ht:t≠t'):v.ownBlock≠some b:=by
 exact Se
theorem GF{w:World}{B X n:Nat}{v:Value}{xs:List Value}{f:Nat->Value}(hx:w.rowIs X 40 7 f)(ho:w.ownsRow B 3 1 v n xs)(q:v.ownBlock=some X):False:=Eo ho hx dE q
section
variable {l : List Aa} {j : Nat} {s : DT}
theorem GP.oth(h:GP l j s)(hj:j<l.length)(h1:Ad l[j]=false)(h2:l[j].op≠33)(h3:¬ (l[j].op=35\/l[j].op=37)){a:Int}(ha:a=Fh l j):GP l (j+1) {s with ar:=fun k=>if k=j then a else s.ar k}:=by
 refine⟨h.nd,h.todo,fun r=>?_,fun r=>?_,fun p hp=>?_,fun b e he hm=>?_⟩
 ·exact R5
 ·exact Ra
 ·exact Qz
 ·have:e≠j:=fun w=>by subst w;exact h3 hm.2.1
  exact h.en b e oM hm
theorem GP.set_(h:GP l j s)(hj:j<l.length)(h1:Ad l[j]=true)(h2:l[j].op≠33)(h3:¬ (l[j].op=35\/l[j].op=37)){D:Nat}(hD:l[j].d.toNat=D){a:Int}(ha:a=Fh l j):GP l (j+1) {s with sl:=fun k=>if k=D then s.sl D++[j]else s.sl k,ar:=fun k=>if k=j then a else s.ar k}:=by
 refine⟨h.nd,h.todo,fun r=>?_,fun r=>?_,fun p hp=>?_,fun b e he hm=>?_⟩
 ·show(if r=D then s.sl D++[j]else s.sl r)=_;rw[GK hj];by_cases e:r=D
  ·rw[if_pos e,if_pos ⟨h1,by rw[e];exact hD⟩,h.sl D,e]
  ·rw[if_neg e,if_neg (fun q=>e (by rw[←q.2];exact hD)),List.append_nil];exact h.sl r
 ·exact Ra
 ·exact Qz
 ·have:e≠j:=fun w=>by subst w;exact h3 hm.2.1
  exact h.en b e oM hm
theorem GP.sto(h:GP l j s)(hj:j<l.length)(h1:Ad l[j]=false)(h2:l[j].op=33){D:Nat}(hD:l[j].n.toNat=D){a:Int}(ha:a=Fh l j):GP l (j+1) {s with tl:=fun k=>if k=D then s.tl D++[j]else s.tl k,ar:=fun k=>if k=j then a else s.ar k}:=by
 refine⟨h.nd,h.todo,fun r=>?_,fun r=>?_,fun p hp=>?_,fun b e he hm=>?_⟩
 ·exact R5
 ·show(if r=D then s.tl D++[j]else s.tl r)=_;rw[GN hj];by_cases e:r=D
  ·rw[if_pos e,if_pos ⟨h2,by rw[e];exact hD⟩,h.tl D,e]
  ·rw[if_neg e,if_neg (fun q=>e (by rw[←q.2];exact hD)),List.append_nil];exact h.tl r
 ·exact Qz
 ·have:e≠j:=fun w=>by subst w;have h9:=hm.2.1;omega
  exact h.en b e oM hm
theorem GP.fin(h:GP l j s)(hj:j<l.length)(h1:Ad l[j]=false)(h2:l[j].op≠33){b:Nat}(hm:AI l b j){a:Int}(ha:a=Fh l j):GP l (j+1) {s with en:=fun k=>if k=b then(j:Int)else s.en k,ar:=fun k=>if k=j then a else s.ar k}:=by
 refine⟨h.nd,h.todo,fun r=>?_,fun r=>?_,fun p hp=>?_,fun b' e he hm'=>?_⟩
 ·exact R5
 ·exact Ra
 ·exact Qz
 ·show(if b'=b then(j:Int)else s.en b')=_;by_cases q:b'=b
  ·subst q;rw[if_pos rfl,CV hm' hm]
  ·rw[if_neg q];have:e≠j:=fun w=>by
    subst w;obtain⟨_,_,x1⟩:=hm;obtain⟨_,_,x2⟩:=hm';rw[x1]at x2;exact q (by simpa using x2.symm)
   exact h.en b' e oM hm'
theorem NH(l:List Aa)(j r:Nat):(NG l j r).length<=j:=Nat.le_trans (List.length_filter_le _ _) sM
theorem NT(l:List Aa)(j r:Nat):(NQ l j r).length<=j:=Nat.le_trans (List.length_filter_le _ _) sM
end
def T6(E R S L:Nat)(l:List Aa)(C:Nat)(w w':World)(v:Value):Prop:=∃B GB TB AB NB DB vg vt vd tag s,v=.pointer (some ⟨B,0,none⟩)/\Bj E R S L s w' B C GB TB AB NB DB vg vt vd tag/\CE l s QP/\Below E w w'
theorem Mj(c:Cd)(hc:(Ah c).1=0)(w:World)(C:Nat)(p1 p2 p3:Option Addr)(q1 q2 q3:Nat)(hR:c.regs.length<=16384)(hS:c.slots.length<=4096)(hL:c.list.length<=32768)(hC1:w.cell? ⟨C,1,none⟩=some (.slice p1 c.regs.length q1))(hC2:w.cell? ⟨C,2,none⟩=some (.slice p2 c.slots.length q2))(hC3:w.cell? ⟨C,3,none⟩=some (.slice p3 c.list.length q3))(hl:AR 7 Bf w (.slice p3 c.list.length q3) c.list):
 Calls prog 26 #[.pointer (some ⟨C,0,none⟩)] w fun e w'=>∃v,e=.returned v/\T6 w.heap.size c.regs.length c.slots.length c.list.length c.list C w w' v:=by
 have HL:=A2 hl;have HCC:=A2 hc;have HD:Hid (∀i∈c.list,Ad i=true->0<=i.d/\i.d<(c.regs.length:Int)):=fun i hi hs=>by
  obtain⟨hg,htk⟩:=GU hc;obtain⟨L,R,e,t⟩:=NU htk hi;exact Ju t hs
 have HKN:Hid (∀i∈c.list,An i.op=true):=FM hc;obtain⟨R,hRe⟩:∃N,c.regs.length=N:=⟨_,rfl⟩
 obtain⟨S,hSe⟩:∃N,c.slots.length=N:=⟨_,rfl⟩
 obtain⟨M,hMe⟩:∃M,c.list.length=M:=⟨_,rfl⟩
 simp only[hRe]at hC1 hR HD ⊢;simp only[hSe]at hC2 hS ⊢;simp only[hMe]at hC3 hL HL ⊢;have HM:=A2 hMe;have HSE:=A2 hSe;have m1:=fun v=>GX R oM v;have m2:=fun v=>GX S oM v;have m3:=fun v=>J9 M oM v;have m4:=fun v=>DG M oM v;have lC:C<w.heap.size:=Ab hC1;have n0:¬C=w.heap.size:=oM;have n1:¬C=w.heap.size+1:=oM;have n2:¬C=w.heap.size+1+1:=oM;have kC1:∀o1 o2,((w.alloc o1).alloc o2).cell? ⟨C,1,none⟩=some (.slice p1 R q1):=fun o1 o2=>kc (bel (A0 _ _) (A0 _ _)) hC1;have kC2:∀o1 o2,((w.alloc o1).alloc o2).cell? ⟨C,2,none⟩=some (.slice p2 S q2):=fun o1 o2=>kc (bel (A0 _ _) (A0 _ _)) hC2;have kC3:∀o1 o2 o3,(((w.alloc o1).alloc o2).alloc o3).cell? ⟨C,1,none⟩=some (.slice p1 R q1):=fun o1 o2 o3=>kc (bel (bel (A0 _ _) (A0 _ _)) (A0 _ _)) hC1;have kC4:∀o1 o2 o3,(((w.alloc o1).alloc o2).alloc o3).cell? ⟨C,2,none⟩=some (.slice p2 S q2):=fun o1 o2 o3=>kc (bel (bel (A0 _ _) (A0 _ _)) (A0 _ _)) hC2;clear hl hRe hSe hMe hc;go_enter func26,ntmps26;go_upto_region 2 with fail;go_cut [4] (fun bv wx=>∃B GB TB,bv=.pointer (some ⟨B,0,none⟩)/\RF w R S C B GB TB wx)
 case first=>
  refine rG (fun v=>v.cell? ⟨C,1,none⟩=some (.slice p1 R q1)/\v.cell? ⟨C,2,none⟩=some (.slice p2 S q2)) fun hHeld=>?_;refine Tf 0 1 2 3 4 5 ?_;refine Tc 7 8 9 ?_;refine Tb 10 11 ?_;clear hHeld;refine wpAnyH_ready (rs:=[6,12]) kR sM ?_;refine D8 6 (fun K hK=>?_) ?_
  ·go_simp;refine Aw hK fun hHeld=>?_;clear hK K;clear hHeld;refine Ax 12 fun K hK=>?_;exact S5
  refine D8 12 (fun K hK=>?_) AllReadyH.nil;go_simp;refine Aw hK fun hHeld=>?_;clear hK K;clear hHeld;refine Ax 6 fun K hK=>?_;exact S5
 case rest=>
  obtain⟨B,GB,TB,rfl,hns⟩:=hcut;have HNS:=A2 hns;have d3:=kc hns.bel hC3;have lB:B<wc.heap.size:=hns.b.lt;have lG:GB<wc.heap.size:=hns.g.lt;have lT:TB<wc.heap.size:=hns.t.lt;have lC3:C<wc.heap.size:=Ab d3;have b0:wc.cell? ⟨B,3,none⟩=some (.slice none 0 0):=hns.b.cell (i:=3) dE;have b1:wc.cell? ⟨B,4,none⟩=some (.slice none 0 0):=hns.b.cell (i:=4) dE;have b2:wc.cell? ⟨B,5,none⟩=some (.slice none 0 0):=hns.b.cell (i:=5) dE;have fb:∀k,wc.frozen? ⟨B,k,none⟩=false:=hns.b.frozen;have y0:¬B=wc.heap.size:=oM;have y1:¬B=wc.heap.size+1:=oM;have y2:¬B=wc.heap.size+1+1:=oM;clear hns n0 n1 n2 kC1 kC2 kC3 kC4;go_upto_region 3 with fail;go_cut [4] (fun bv wx=>bv=.pointer (some ⟨B,0,none⟩)/\∃AB NB DB,Bj w.heap.size R S M Rz wx B C GB TB AB NB DB (fun _=>.slice none 0 0) (fun _=>.slice none 0 0) (.slice none 0 0) (Iz B GB TB AB NB DB)/\Below w.heap.size w wx)
  case first=>as_aux_lemma=>
   have nCB:C≠B:=by have:=HNS.out.hB;omega
   have H0:Q6 w wc R S C B GB TB (.slice p3 M q3) _:=⟨HNS.out.b,HNS.out.g,HNS.out.t,d3,HNS.out.bel,⟨HNS.out.n1.symm,HNS.out.n2.symm,nCB,HNS.out.hB⟩⟩
   refine rG (fun v=>v.cell? ⟨C,3,none⟩=some (.slice p3 M q3)) fun hHeld=>?_;refine Tf 0 1 2 3 5 7 ?_;clear hHeld;refine wpAnyH_ready (rs:=[4,6,8]) kR sM ?_;refine D8 4 (fun K hK=>?_) ?_
   ·go_simp;obtain⟨U1,hU,H1,hs1,rA1,K⟩:=H0.al0 (.int .i64 0) M 3;rw[hU];have hc1:=H1.hc;have lB1:=H1.b.lt;clear hU K;refine Aw hK fun hHeld=>?_;clear hK K;refine Tb 9 10 ?_;clear hHeld;refine wpAnyH_ready (rs:=[6,8,11]) kR sM ?_;refine D8 6 (fun K hK=>?_) ?_
    ·go_simp;obtain⟨U2,hU,H2,hs2,rN2,K⟩:=H1.al (.int .i64 0) M 3;rw[hU];have rA2:=K rA1;have hc2:=H2.hc;have lB2:=H2.b.lt;clear hU K;refine Aw hK fun hHeld=>?_;clear hK K;clear hHeld;refine wpAnyH_ready (rs:=[8,11]) kR sM ?_;refine D8 8 (fun K hK=>?_) ?_
     ·go_simp;obtain⟨U3,hU,H3,hs3,rD3,K⟩:=H2.al (.bool false) M 4;rw[hU];have rA3:=K rA2;have rN3:=K rN2;have hc3:=H3.hc;have lB3:=H3.b.lt;clear hU K;refine Aw hK fun hHeld=>?_;clear hK K;clear hHeld;refine Ax 11 fun K hK=>?_;have q1:=H3.b.cell (i:=3) dE;have q2:=H3.b.frozen 3;go_simp;clear q1 q2;obtain⟨U4,hU,H4,hs4,K⟩:=H3.st 3 (.slice (some ⟨wc.heap.size,0,none⟩) M M);rw[hU];have rA4:=K rA3 oM;have rN4:=K rN3 oM;have rD4:=K rD3 oM;have hc4:=H4.hc;have lB4:=H4.b.lt;clear hU K;refine Aw hK fun hHeld=>?_;clear hK K;refine Tb 12 13 ?_;clear hHeld;refine Ax 14 fun K hK=>?_;have q1:=H4.b.cell (i:=4) dE;have q2:=H4.b.frozen 4;go_simp;clear q1 q2;obtain⟨U5,hU,H5,hs5,K⟩:=H4.st 4 (.slice (some ⟨U1.heap.size,0,none⟩) M M);rw[hU];have rA5:=K rA4 oM;have rN5:=K rN4 oM;have rD5:=K rD4 oM;have hc5:=H5.hc;have lB5:=H5.b.lt;clear hU K;refine Aw hK fun hHeld=>?_;clear hK K;refine Tb 15 16 ?_;clear hHeld;refine Ax 17 fun K hK=>?_;have q1:=H5.b.cell (i:=5) dE;have q2:=H5.b.frozen 5;go_simp;clear q1 q2;obtain⟨U6,hU,H6,hs6,K⟩:=H5.st 5 (.slice (some ⟨U2.heap.size,0,none⟩) M M);rw[hU];have rA6:=K rA5 oM;have rN6:=K rN5 oM;have rD6:=K rD5 oM;exact II
     refine D8 11 (fun K hK=>?_) AllReadyH.nil;have q1:=H2.b.cell (i:=3) dE;have q2:=H2.b.frozen 3;go_simp;clear q1 q2;obtain⟨U3,hU,H3,hs3,K⟩:=H2.st 3 (.slice (some ⟨wc.heap.size,0,none⟩) M M);rw[hU];have rA3:=K rA2 oM;have rN3:=K rN2 oM;have hc3:=H3.hc;have lB3:=H3.b.lt;clear hU K;refine Aw hK fun hHeld=>?_;clear hK K;refine Tb 12 13 ?_;clear hHeld;refine wpAnyH_ready (rs:=[8,14]) kR sM ?_;refine D8 8 (fun K hK=>?_) ?_
     ·go_simp;obtain⟨U4,hU,H4,hs4,rD4,K⟩:=H3.al (.bool false) M 4;rw[hU];have rA4:=K rA3;have rN4:=K rN3;have hc4:=H4.hc;have lB4:=H4.b.lt;clear hU K;refine Aw hK fun hHeld=>?_;clear hK K;clear hHeld;refine Ax 14 fun K hK=>?_;have q1:=H4.b.cell (i:=4) dE;have q2:=H4.b.frozen 4;go_simp;clear q1 q2;obtain⟨U5,hU,H5,hs5,K⟩:=H4.st 4 (.slice (some ⟨U1.heap.size,0,none⟩) M M);rw[hU];have rA5:=K rA4 oM;have rN5:=K rN4 oM;have rD5:=K rD4 oM;have hc5:=H5.hc;have lB5:=H5.b.lt;clear hU K;refine Aw hK fun hHeld=>?_;clear hK K;refine Tb 15 16 ?_;clear hHeld;refine Ax 17 fun K hK=>?_;have q1:=H5.b.cell (i:=5) dE;have q2:=H5.b.frozen 5;go_simp;clear q1 q2;obtain⟨U6,hU,H6,hs6,K⟩:=H5.st 5 (.slice (some ⟨U3.heap.size,0,none⟩) M M);rw[hU];have rA6:=K rA5 oM;have rN6:=K rN5 oM;have rD6:=K rD5 oM;exact II
     refine D8 14 (fun K hK=>?_) AllReadyH.nil;have q1:=H3.b.cell (i:=4) dE;have q2:=H3.b.frozen 4;go_simp;clear q1 q2;obtain⟨U4,hU,H4,hs4,K⟩:=H3.st 4 (.slice (some ⟨U1.heap.size,0,none⟩) M M);rw[hU];have rA4:=K rA3 oM;have rN4:=K rN3 oM;have hc4:=H4.hc;have lB4:=H4.b.lt;clear hU K;refine Aw hK fun hHeld=>?_;clear hK K;clear hHeld;refine Ax 8 fun K hK=>?_;go_simp;obtain⟨U5,hU,H5,hs5,rD5,K⟩:=H4.al (.bool false) M 4;rw[hU];have rA5:=K rA4;have rN5:=K rN4;have hc5:=H5.hc;have lB5:=H5.b.lt;clear hU K;refine Aw hK fun hHeld=>?_;clear hK K;refine Tb 15 16 ?_;clear hHeld;refine Ax 17 fun K hK=>?_;have q1:=H5.b.cell (i:=5) dE;have q2:=H5.b.frozen 5;go_simp;clear q1 q2;obtain⟨U6,hU,H6,hs6,K⟩:=H5.st 5 (.slice (some ⟨U4.heap.size,0,none⟩) M M);rw[hU];have rA6:=K rA5 oM;have rN6:=K rN5 oM;have rD6:=K rD5 oM;exact II
    refine D8 8 (fun K hK=>?_) ?_
    ·go_simp;obtain⟨U2,hU,H2,hs2,rD2,K⟩:=H1.al (.bool false) M 4;rw[hU];have rA2:=K rA1;have hc2:=H2.hc;have lB2:=H2.b.lt;clear hU K;refine Aw hK fun hHeld=>?_;clear hK K;clear hHeld;refine wpAnyH_ready (rs:=[6,11]) kR sM ?_;refine D8 6 (fun K hK=>?_) ?_
     ·go_simp;obtain⟨U3,hU,H3,hs3,rN3,K⟩:=H2.al (.int .i64 0) M 3;rw[hU];have rA3:=K rA2;have rD3:=K rD2;have hc3:=H3.hc;have lB3:=H3.b.lt;clear hU K;refine Aw hK fun hHeld=>?_;clear hK K;clear hHeld;refine Ax 11 fun K hK=>?_;have q1:=H3.b.cell (i:=3) dE;have q2:=H3.b.frozen 3;go_simp;clear q1 q2;obtain⟨U4,hU,H4,hs4,K⟩:=H3.st 3 (.slice (some ⟨wc.heap.size,0,none⟩) M M);rw[hU];have rA4:=K rA3 oM;have rD4:=K rD3 oM;have rN4:=K rN3 oM;have hc4:=H4.hc;have lB4:=H4.b.lt;clear hU K;refine Aw hK fun hHeld=>?_;clear hK K;refine Tb 12 13 ?_;clear hHeld;refine Ax 14 fun K hK=>?_;have q1:=H4.b.cell (i:=4) dE;have q2:=H4.b.frozen 4;go_simp;clear q1 q2;obtain⟨U5,hU,H5,hs5,K⟩:=H4.st 4 (.slice (some ⟨U2.heap.size,0,none⟩) M M);rw[hU];have rA5:=K rA4 oM;have rD5:=K rD4 oM;have rN5:=K rN4 oM;have hc5:=H5.hc;have lB5:=H5.b.lt;clear hU K;refine Aw hK fun hHeld=>?_;clear hK K;refine Tb 15 16 ?_;clear hHeld;refine Ax 17 fun K hK=>?_;have q1:=H5.b.cell (i:=5) dE;have q2:=H5.b.frozen 5;go_simp;clear q1 q2;obtain⟨U6,hU,H6,hs6,K⟩:=H5.st 5 (.slice (some ⟨U1.heap.size,0,none⟩) M M);rw[hU];have rA6:=K rA5 oM;have rD6:=K rD5 oM;have rN6:=K rN5 oM;exact II
     refine D8 11 (fun K hK=>?_) AllReadyH.nil;have q1:=H2.b.cell (i:=3) dE;have q2:=H2.b.frozen 3;go_simp;clear q1 q2;obtain⟨U3,hU,H3,hs3,K⟩:=H2.st 3 (.slice (some ⟨wc.heap.size,0,none⟩) M M);rw[hU];have rA3:=K rA2 oM;have rD3:=K rD2 oM;have hc3:=H3.hc;have lB3:=H3.b.lt;clear hU K;refine Aw hK fun hHeld=>?_;clear hK K;clear hHeld;refine Ax 6 fun K hK=>?_;go_simp;obtain⟨U4,hU,H4,hs4,rN4,K⟩:=H3.al (.int .i64 0) M 3;rw[hU];have rA4:=K rA3;have rD4:=K rD3;have hc4:=H4.hc;have lB4:=H4.b.lt;clear hU K;refine Aw hK fun hHeld=>?_;clear hK K;refine Tb 12 13 ?_;clear hHeld;refine Ax 14 fun K hK=>?_;have q1:=H4.b.cell (i:=4) dE;have q2:=H4.b.frozen 4;go_simp;clear q1 q2;obtain⟨U5,hU,H5,hs5,K⟩:=H4.st 4 (.slice (some ⟨U3.heap.size,0,none⟩) M M);rw[hU];have rA5:=K rA4 oM;have rD5:=K rD4 oM;have rN5:=K rN4 oM;have hc5:=H5.hc;have lB5:=H5.b.lt;clear hU K;refine Aw hK fun hHeld=>?_;clear hK K;refine Tb 15 16 ?_;clear hHeld;refine Ax 17 fun K hK=>?_;have q1:=H5.b.cell (i:=5) dE;have q2:=H5.b.frozen 5;go_simp;clear q1 q2;obtain⟨U6,hU,H6,hs6,K⟩:=H5.st 5 (.slice (some ⟨U1.heap.size,0,none⟩) M M);rw[hU];have rA6:=K rA5 oM;have rD6:=K rD5 oM;have rN6:=K rN5 oM;exact II
    refine D8 11 (fun K hK=>?_) AllReadyH.nil;have q1:=H1.b.cell (i:=3) dE;have q2:=H1.b.frozen 3;go_simp;clear q1 q2;obtain⟨U2,hU,H2,hs2,K⟩:=H1.st 3 (.slice (some ⟨wc.heap.size,0,none⟩) M M);rw[hU];have rA2:=K rA1 oM;have hc2:=H2.hc;have lB2:=H2.b.lt;clear hU K;refine Aw hK fun hHeld=>?_;clear hK K;clear hHeld;refine wpAnyH_ready (rs:=[6,8]) kR sM ?_;refine D8 6 (fun K hK=>?_) ?_
    ·go_simp;obtain⟨U3,hU,H3,hs3,rN3,K⟩:=H2.al (.int .i64 0) M 3;rw[hU];have rA3:=K rA2;have hc3:=H3.hc;have lB3:=H3.b.lt;clear hU K;refine Aw hK fun hHeld=>?_;clear hK K;refine Tb 12 13 ?_;clear hHeld;refine wpAnyH_ready (rs:=[8,14]) kR sM ?_;refine D8 8 (fun K hK=>?_) ?_
     ·go_simp;obtain⟨U4,hU,H4,hs4,rD4,K⟩:=H3.al (.bool false) M 4;rw[hU];have rA4:=K rA3;have rN4:=K rN3;have hc4:=H4.hc;have lB4:=H4.b.lt;clear hU K;refine Aw hK fun hHeld=>?_;clear hK K;clear hHeld;refine Ax 14 fun K hK=>?_;have q1:=H4.b.cell (i:=4) dE;have q2:=H4.b.frozen 4;go_simp;clear q1 q2;obtain⟨U5,hU,H5,hs5,K⟩:=H4.st 4 (.slice (some ⟨U2.heap.size,0,none⟩) M M);rw[hU];have rA5:=K rA4 oM;have rN5:=K rN4 oM;have rD5:=K rD4 oM;have hc5:=H5.hc;have lB5:=H5.b.lt;clear hU K;refine Aw hK fun hHeld=>?_;clear hK K;refine Tb 15 16 ?_;clear hHeld;refine Ax 17 fun K hK=>?_;have q1:=H5.b.cell (i:=5) dE;have q2:=H5.b.frozen 5;go_simp;clear q1 q2;obtain⟨U6,hU,H6,hs6,K⟩:=H5.st 5 (.slice (some ⟨U3.heap.size,0,none⟩) M M);rw[hU];have rA6:=K rA5 oM;have rN6:=K rN5 oM;have rD6:=K rD5 oM;exact II
     refine D8 14 (fun K hK=>?_) AllReadyH.nil;have q1:=H3.b.cell (i:=4) dE;have q2:=H3.b.frozen 4;go_simp;clear q1 q2;obtain⟨U4,hU,H4,hs4,K⟩:=H3.st 4 (.slice (some ⟨U2.heap.size,0,none⟩) M M);rw[hU];have rA4:=K rA3 oM;have rN4:=K rN3 oM;have hc4:=H4.hc;have lB4:=H4.b.lt;clear hU K;refine Aw hK fun hHeld=>?_;clear hK K;clear hHeld;refine Ax 8 fun K hK=>?_;go_simp;obtain⟨U5,hU,H5,hs5,rD5,K⟩:=H4.al (.bool false) M 4;rw[hU];have rA5:=K rA4;have rN5:=K rN4;have hc5:=H5.hc;have lB5:=H5.b.lt;clear hU K;refine Aw hK fun hHeld=>?_;clear hK K;refine Tb 15 16 ?_;clear hHeld;refine Ax 17 fun K hK=>?_;have q1:=H5.b.cell (i:=5) dE;have q2:=H5.b.frozen 5;go_simp;clear q1 q2;obtain⟨U6,hU,H6,hs6,K⟩:=H5.st 5 (.slice (some ⟨U4.heap.size,0,none⟩) M M);rw[hU];have rA6:=K rA5 oM;have rN6:=K rN5 oM;have rD6:=K rD5 oM;exact II
    refine D8 8 (fun K hK=>?_) AllReadyH.nil;go_simp;obtain⟨U3,hU,H3,hs3,rD3,K⟩:=H2.al (.bool false) M 4;rw[hU];have rA3:=K rA2;have hc3:=H3.hc;have lB3:=H3.b.lt;clear hU K;refine Aw hK fun hHeld=>?_;clear hK K;clear hHeld;refine Ax 6 fun K hK=>?_;go_simp;obtain⟨U4,hU,H4,hs4,rN4,K⟩:=H3.al (.int .i64 0) M 3;rw[hU];have rA4:=K rA3;have rD4:=K rD3;have hc4:=H4.hc;have lB4:=H4.b.lt;clear hU K;refine Aw hK fun hHeld=>?_;clear hK K;refine Tb 12 13 ?_;clear hHeld;refine Ax 14 fun K hK=>?_;have q1:=H4.b.cell (i:=4) dE;have q2:=H4.b.frozen 4;go_simp;clear q1 q2;obtain⟨U5,hU,H5,hs5,K⟩:=H4.st 4 (.slice (some ⟨U3.heap.size,0,none⟩) M M);rw[hU];have rA5:=K rA4 oM;have rD5:=K rD4 oM;have rN5:=K rN4 oM;have hc5:=H5.hc;have lB5:=H5.b.lt;clear hU K;refine Aw hK fun hHeld=>?_;clear hK K;refine Tb 15 16 ?_;clear hHeld;refine Ax 17 fun K hK=>?_;have q1:=H5.b.cell (i:=5) dE;have q2:=H5.b.frozen 5;go_simp;clear q1 q2;obtain⟨U6,hU,H6,hs6,K⟩:=H5.st 5 (.slice (some ⟨U2.heap.size,0,none⟩) M M);rw[hU];have rA6:=K rA5 oM;have rD6:=K rD5 oM;have rN6:=K rN5 oM;exact II
   refine D8 6 (fun K hK=>?_) ?_
   ·go_simp;obtain⟨U1,hU,H1,hs1,rN1,K⟩:=H0.al0 (.int .i64 0) M 3;rw[hU];have hc1:=H1.hc;have lB1:=H1.b.lt;clear hU K;refine Aw hK fun hHeld=>?_;clear hK K;clear hHeld;refine wpAnyH_ready (rs:=[4,8]) kR sM ?_;refine D8 4 (fun K hK=>?_) ?_
    ·go_simp;obtain⟨U2,hU,H2,hs2,rA2,K⟩:=H1.al (.int .i64 0) M 3;rw[hU];have rN2:=K rN1;have hc2:=H2.hc;have lB2:=H2.b.lt;clear hU K;refine Aw hK fun hHeld=>?_;clear hK K;refine Tb 9 10 ?_;clear hHeld;refine wpAnyH_ready (rs:=[8,11]) kR sM ?_;refine D8 8 (fun K hK=>?_) ?_
     ·go_simp;obtain⟨U3,hU,H3,hs3,rD3,K⟩:=H2.al (.bool false) M 4;rw[hU];have rN3:=K rN2;have rA3:=K rA2;have hc3:=H3.hc;have lB3:=H3.b.lt;clear hU K;refine Aw hK fun hHeld=>?_;clear hK K;clear hHeld;refine Ax 11 fun K hK=>?_;have q1:=H3.b.cell (i:=3) dE;have q2:=H3.b.frozen 3;go_simp;clear q1 q2;obtain⟨U4,hU,H4,hs4,K⟩:=H3.st 3 (.slice (some ⟨U1.heap.size,0,none⟩) M M);rw[hU];have rN4:=K rN3 oM;have rA4:=K rA3 oM;have rD4:=K rD3 oM;have hc4:=H4.hc;have lB4:=H4.b.lt;clear hU K;refine Aw hK fun hHeld=>?_;clear hK K;refine Tb 12 13 ?_;clear hHeld;refine Ax 14 fun K hK=>?_;have q1:=H4.b.cell (i:=4) dE;have q2:=H4.b.frozen 4;go_simp;clear q1 q2;obtain⟨U5,hU,H5,hs5,K⟩:=H4.st 4 (.slice (some ⟨wc.heap.size,0,none⟩) M M);rw[hU];have rN5:=K rN4 oM;have rA5:=K rA4 oM;have rD5:=K rD4 oM;have hc5:=H5.hc;have lB5:=H5.b.lt;clear hU K;refine Aw hK fun hHeld=>?_;clear hK K;refine Tb 15 16 ?_;clear hHeld;refine Ax 17 fun K hK=>?_;have q1:=H5.b.cell (i:=5) dE;have q2:=H5.b.frozen 5;go_simp;clear q1 q2;obtain⟨U6,hU,H6,hs6,K⟩:=H5.st 5 (.slice (some ⟨U2.heap.size,0,none⟩) M M);rw[hU];have rN6:=K rN5 oM;have rA6:=K rA5 oM;have rD6:=K rD5 oM;exact II
     refine D8 11 (fun K hK=>?_) AllReadyH.nil;have q1:=H2.b.cell (i:=3) dE;have q2:=H2.b.frozen 3;go_simp;clear q1 q2;obtain⟨U3,hU,H3,hs3,K⟩:=H2.st 3 (.slice (some ⟨U1.heap.size,0,none⟩) M M);rw[hU];have rN3:=K rN2 oM;have rA3:=K rA2 oM;have hc3:=H3.hc;have lB3:=H3.b.lt;clear hU K;refine Aw hK fun hHeld=>?_;clear hK K;refine Tb 12 13 ?_;clear hHeld;refine wpAnyH_ready (rs:=[8,14]) kR sM ?_;refine D8 8 (fun K hK=>?_) ?_
     ·go_simp;obtain⟨U4,hU,H4,hs4,rD4,K⟩:=H3.al (.bool false) M 4;rw[hU];have rN4:=K rN3;have rA4:=K rA3;have hc4:=H4.hc;have lB4:=H4.b.lt;clear hU K;refine Aw hK fun hHeld=>?_;clear hK K;clear hHeld;refine Ax 14 fun K hK=>?_;have q1:=H4.b.cell (i:=4) dE;have q2:=H4.b.frozen 4;go_simp;clear q1 q2;obtain⟨U5,hU,H5,hs5,K⟩:=H4.st 4 (.slice (some ⟨wc.heap.size,0,none⟩) M M);rw[hU];have rN5:=K rN4 oM;have rA5:=K rA4 oM;have rD5:=K rD4 oM;have hc5:=H5.hc;have lB5:=H5.b.lt;clear hU K;refine Aw hK fun hHeld=>?_;clear hK K;refine Tb 15 16 ?_;clear hHeld;refine Ax 17 fun K hK=>?_;have q1:=H5.b.cell (i:=5) dE;have q2:=H5.b.frozen 5;go_simp;clear q1 q2;obtain⟨U6,hU,H6,hs6,K⟩:=H5.st 5 (.slice (some ⟨U3.heap.size,0,none⟩) M M);rw[hU];have rN6:=K rN5 oM;have rA6:=K rA5 oM;have rD6:=K rD5 oM;exact II
     refine D8 14 (fun K hK=>?_) AllReadyH.nil;have q1:=H3.b.cell (i:=4) dE;have q2:=H3.b.frozen 4;go_simp;clear q1 q2;obtain⟨U4,hU,H4,hs4,K⟩:=H3.st 4 (.slice (some ⟨wc.heap.size,0,none⟩) M M);rw[hU];have rN4:=K rN3 oM;have rA4:=K rA3 oM;have hc4:=H4.hc;have lB4:=H4.b.lt;clear hU K;refine Aw hK fun hHeld=>?_;clear hK K;clear hHeld;refine Ax 8 fun K hK=>?_;go_simp;obtain⟨U5,hU,H5,hs5,rD5,K⟩:=H4.al (.bool false) M 4;rw[hU];have rN5:=K rN4;have rA5:=K rA4;have hc5:=H5.hc;have lB5:=H5.b.lt;clear hU K;refine Aw hK fun hHeld=>?_;clear hK K;refine Tb 15 16 ?_;clear hHeld;refine Ax 17 fun K hK=>?_;have q1:=H5.b.cell (i:=5) dE;have q2:=H5.b.frozen 5;go_simp;clear q1 q2;obtain⟨U6,hU,H6,hs6,K⟩:=H5.st 5 (.slice (some ⟨U4.heap.size,0,none⟩) M M);rw[hU];have rN6:=K rN5 oM;have rA6:=K rA5 oM;have rD6:=K rD5 oM;exact II
    refine D8 8 (fun K hK=>?_) AllReadyH.nil;go_simp;obtain⟨U2,hU,H2,hs2,rD2,K⟩:=H1.al (.bool false) M 4;rw[hU];have rN2:=K rN1;have hc2:=H2.hc;have lB2:=H2.b.lt;clear hU K;refine Aw hK fun hHeld=>?_;clear hK K;clear hHeld;refine Ax 4 fun K hK=>?_;go_simp;obtain⟨U3,hU,H3,hs3,rA3,K⟩:=H2.al (.int .i64 0) M 3;rw[hU];have rN3:=K rN2;have rD3:=K rD2;have hc3:=H3.hc;have lB3:=H3.b.lt;clear hU K;refine Aw hK fun hHeld=>?_;clear hK K;refine Tb 9 10 ?_;clear hHeld;refine Ax 11 fun K hK=>?_;have q1:=H3.b.cell (i:=3) dE;have q2:=H3.b.frozen 3;go_simp;clear q1 q2;obtain⟨U4,hU,H4,hs4,K⟩:=H3.st 3 (.slice (some ⟨U2.heap.size,0,none⟩) M M);rw[hU];have rN4:=K rN3 oM;have rD4:=K rD3 oM;have rA4:=K rA3 oM;have hc4:=H4.hc;have lB4:=H4.b.lt;clear hU K;refine Aw hK fun hHeld=>?_;clear hK K;refine Tb 12 13 ?_;clear hHeld;refine Ax 14 fun K hK=>?_;have q1:=H4.b.cell (i:=4) dE;have q2:=H4.b.frozen 4;go_simp;clear q1 q2;obtain⟨U5,hU,H5,hs5,K⟩:=H4.st 4 (.slice (some ⟨wc.heap.size,0,none⟩) M M);rw[hU];have rN5:=K rN4 oM;have rD5:=K rD4 oM;have rA5:=K rA4 oM;have hc5:=H5.hc;have lB5:=H5.b.lt;clear hU K;refine Aw hK fun hHeld=>?_;clear hK K;refine Tb 15 16 ?_;clear hHeld;refine Ax 17 fun K hK=>?_;have q1:=H5.b.cell (i:=5) dE;have q2:=H5.b.frozen 5;go_simp;clear q1 q2;obtain⟨U6,hU,H6,hs6,K⟩:=H5.st 5 (.slice (some ⟨U1.heap.size,0,none⟩) M M);rw[hU];have rN6:=K rN5 oM;have rD6:=K rD5 oM;have rA6:=K rA5 oM;exact II
   refine D8 8 (fun K hK=>?_) AllReadyH.nil;go_simp;obtain⟨U1,hU,H1,hs1,rD1,K⟩:=H0.al0 (.bool false) M 4;rw[hU];have hc1:=H1.hc;have lB1:=H1.b.lt;clear hU K;refine Aw hK fun hHeld=>?_;clear hK K;clear hHeld;refine wpAnyH_ready (rs:=[4,6]) kR sM ?_;refine D8 4 (fun K hK=>?_) ?_
   ·go_simp;obtain⟨U2,hU,H2,hs2,rA2,K⟩:=H1.al (.int .i64 0) M 3;rw[hU];have rD2:=K rD1;have hc2:=H2.hc;have lB2:=H2.b.lt;clear hU K;refine Aw hK fun hHeld=>?_;clear hK K;refine Tb 9 10 ?_;clear hHeld;refine wpAnyH_ready (rs:=[6,11]) kR sM ?_;refine D8 6 (fun K hK=>?_) ?_
    ·go_simp;obtain⟨U3,hU,H3,hs3,rN3,K⟩:=H2.al (.int .i64 0) M 3;rw[hU];have rD3:=K rD2;have rA3:=K rA2;have hc3:=H3.hc;have lB3:=H3.b.lt;clear hU K;refine Aw hK fun hHeld=>?_;clear hK K;clear hHeld;refine Ax 11 fun K hK=>?_;have q1:=H3.b.cell (i:=3) dE;have q2:=H3.b.frozen 3;go_simp;clear q1 q2;obtain⟨U4,hU,H4,hs4,K⟩:=H3.st 3 (.slice (some ⟨U1.heap.size,0,none⟩) M M);rw[hU];have rD4:=K rD3 oM;have rA4:=K rA3 oM;have rN4:=K rN3 oM;have hc4:=H4.hc;have lB4:=H4.b.lt;clear hU K;refine Aw hK fun hHeld=>?_;clear hK K;refine Tb 12 13 ?_;clear hHeld;refine Ax 14 fun K hK=>?_;have q1:=H4.b.cell (i:=4) dE;have q2:=H4.b.frozen 4;go_simp;clear q1 q2;obtain⟨U5,hU,H5,hs5,K⟩:=H4.st 4 (.slice (some ⟨U2.heap.size,0,none⟩) M M);rw[hU];have rD5:=K rD4 oM;have rA5:=K rA4 oM;have rN5:=K rN4 oM;have hc5:=H5.hc;have lB5:=H5.b.lt;clear hU K;refine Aw hK fun hHeld=>?_;clear hK K;refine Tb 15 16 ?_;clear hHeld;refine Ax 17 fun K hK=>?_;have q1:=H5.b.cell (i:=5) dE;have q2:=H5.b.frozen 5;go_simp;clear q1 q2;obtain⟨U6,hU,H6,hs6,K⟩:=H5.st 5 (.slice (some ⟨wc.heap.size,0,none⟩) M M);rw[hU];have rD6:=K rD5 oM;have rA6:=K rA5 oM;have rN6:=K rN5 oM;exact II
    refine D8 11 (fun K hK=>?_) AllReadyH.nil;have q1:=H2.b.cell (i:=3) dE;have q2:=H2.b.frozen 3;go_simp;clear q1 q2;obtain⟨U3,hU,H3,hs3,K⟩:=H2.st 3 (.slice (some ⟨U1.heap.size,0,none⟩) M M);rw[hU];have rD3:=K rD2 oM;have rA3:=K rA2 oM;have hc3:=H3.hc;have lB3:=H3.b.lt;clear hU K;refine Aw hK fun hHeld=>?_;clear hK K;clear hHeld;refine Ax 6 fun K hK=>?_;go_simp;obtain⟨U4,hU,H4,hs4,rN4,K⟩:=H3.al (.int .i64 0) M 3;rw[hU];have rD4:=K rD3;have rA4:=K rA3;have hc4:=H4.hc;have lB4:=H4.b.lt;clear hU K;refine Aw hK fun hHeld=>?_;clear hK K;refine Tb 12 13 ?_;clear hHeld;refine Ax 14 fun K hK=>?_;have q1:=H4.b.cell (i:=4) dE;have q2:=H4.b.frozen 4;go_simp;clear q1 q2;obtain⟨U5,hU,H5,hs5,K⟩:=H4.st 4 (.slice (some ⟨U3.heap.size,0,none⟩) M M);rw[hU];have rD5:=K rD4 oM;have rA5:=K rA4 oM;have rN5:=K rN4 oM;have hc5:=H5.hc;have lB5:=H5.b.lt;clear hU K;refine Aw hK fun hHeld=>?_;clear hK K;refine Tb 15 16 ?_;clear hHeld;refine Ax 17 fun K hK=>?_;have q1:=H5.b.cell (i:=5) dE;have q2:=H5.b.frozen 5;go_simp;clear q1 q2;obtain⟨U6,hU,H6,hs6,K⟩:=H5.st 5 (.slice (some ⟨wc.heap.size,0,none⟩) M M);rw[hU];have rD6:=K rD5 oM;have rA6:=K rA5 oM;have rN6:=K rN5 oM;exact II
   refine D8 6 (fun K hK=>?_) AllReadyH.nil;go_simp;obtain⟨U2,hU,H2,hs2,rN2,K⟩:=H1.al (.int .i64 0) M 3;rw[hU];have rD2:=K rD1;have hc2:=H2.hc;have lB2:=H2.b.lt;clear hU K;refine Aw hK fun hHeld=>?_;clear hK K;clear hHeld;refine Ax 4 fun K hK=>?_;go_simp;obtain⟨U3,hU,H3,hs3,rA3,K⟩:=H2.al (.int .i64 0) M 3;rw[hU];have rD3:=K rD2;have rN3:=K rN2;have hc3:=H3.hc;have lB3:=H3.b.lt;clear hU K;refine Aw hK fun hHeld=>?_;clear hK K;refine Tb 9 10 ?_;clear hHeld;refine Ax 11 fun K hK=>?_;have q1:=H3.b.cell (i:=3) dE;have q2:=H3.b.frozen 3;go_simp;clear q1 q2;obtain⟨U4,hU,H4,hs4,K⟩:=H3.st 3 (.slice (some ⟨U2.heap.size,0,none⟩) M M);rw[hU];have rD4:=K rD3 oM;have rN4:=K rN3 oM;have rA4:=K rA3 oM;have hc4:=H4.hc;have lB4:=H4.b.lt;clear hU K;refine Aw hK fun hHeld=>?_;clear hK K;refine Tb 12 13 ?_;clear hHeld;refine Ax 14 fun K hK=>?_;have q1:=H4.b.cell (i:=4) dE;have q2:=H4.b.frozen 4;go_simp;clear q1 q2;obtain⟨U5,hU,H5,hs5,K⟩:=H4.st 4 (.slice (some ⟨U1.heap.size,0,none⟩) M M);rw[hU];have rD5:=K rD4 oM;have rN5:=K rN4 oM;have rA5:=K rA4 oM;have hc5:=H5.hc;have lB5:=H5.b.lt;clear hU K;refine Aw hK fun hHeld=>?_;clear hK K;refine Tb 15 16 ?_;clear hHeld;refine Ax 17 fun K hK=>?_;have q1:=H5.b.cell (i:=5) dE;have q2:=H5.b.frozen 5;go_simp;clear q1 q2;obtain⟨U6,hU,H6,hs6,K⟩:=H5.st 5 (.slice (some ⟨wc.heap.size,0,none⟩) M M);rw[hU];have rD6:=K rD5 oM;have rN6:=K rN5 oM;have rA6:=K rA5 oM;exact II
  case rest=>
   obtain⟨rfl,AB,NB,DB,hk0,hb0⟩:=hcut;have HK0:Hid (Below w.heap.size w wc/\∃s vg vt tag,Bj w.heap.size R S M s wc B C GB TB AB NB DB vg vt (.slice none 0 0) tag/\GP c.list 0 s):=⟨hb0,_,_,_,_,hk0,GP.zero _⟩
   have e3:=kc hb0 hC3;clear hk0 hb0 lB lG lT lC3 b0 b1 b2 fb y0 y1 y2 HNS d3;go_wp2;clear e3
   go_loopw [48,5] (fun iv bv wr=>∃j:Nat,j<=M/\iv=.int .i64 (j:Int)/\bv=.int .i64 (Ds (At (c.list.take j)))/\Hid (Below w.heap.size w wr/\∃s vg vt tag,Bj w.heap.size R S M s wr B C GB TB AB NB DB vg vt (.slice none 0 0) tag/\GP c.list j s)) (fun iv _ _=>M-(intOf iv).toNat)
   case atStart=>exact⟨0,Nat.zero_le _,rfl,rfl,HK0.out⟩
   case round=>
    clear HK0;obtain⟨j,hj,rfl,rfl,HJ⟩:=hrel;by_cases hlt:j<M
    ·have hjl:j<c.list.length:=by have:=HM.out;omega
     obtain⟨hbj,s,vg,vt,tag,hK,hP⟩:=HJ.out;obtain⟨lb,lo,rfl,hcl⟩:=(HL.out.below hbj).at hjl;have hknown:=HKN.out _ (List.getElem_mem hjl);have HDI:=A2 (HD.out _ (List.getElem_mem hjl));have HFIN:=A2 (fun o=>Oq HCC.out hjl o);have HBEG:=A2 (fun o=>Oo hjl o);have HOTH:=A2 (fun o o'=>Ot hjl o o');have HSLO:=A2 (fun o=>CK HCC.out hjl o);have HPA:=A2 hP.ar;have HPO:=A2 (fun h1 h2 h3 (a:Int) ha=>hP.oth hjl h1 h2 h3 (a:=a) ha);have HPS:=A2 (fun h1 h2 h3 (D:Nat) hD (a:Int) ha=>hP.set_ hjl h1 h2 h3 (D:=D) hD (a:=a) ha);have HPT:=A2 (fun h1 h2 (D:Nat) hD (a:Int) ha=>hP.sto hjl h1 h2 (D:=D) hD (a:=a) ha);have HPF:=A2 (fun h1 h2 (b:Nat) hm (a:Int) ha=>hP.fin hjl h1 h2 (b:=b) hm (a:=a) ha);have hsl:=hP.sl;have htl:=hP.tl;have HSN:Hid (∀r,(s.sl r).length<=1000000):=fun r=>by rw[hsl r];have:=NH c.list j r;omega
     have HTN:Hid (∀r,(s.tl r).length<=1000000):=fun r=>by rw[htl r];have:=NT c.list j r;omega
     obtain⟨⟨op,d,a,b,e,n,z⟩,hi⟩:∃i,c.list[j]=i:=⟨_,rfl⟩
     rw[hi]at hcl HDI hknown HFIN HBEG HOTH HSLO HPO HPS HPT HPF;simp only at hknown HFIN HBEG HOTH HSLO HPO HPS HPT HPF;have y0:=hcl.at 0 (v:=.int .i64 op) rfl;rw[Nat.add_zero]at y0;have y1:=hcl.at 1 (v:=.int .i64 d) rfl;have y2:=hcl.at 2 (v:=.int .i64 a) rfl;have y3:=hcl.at 3 (v:=.int .i64 b) rfl;have y4:=hcl.at 4 (v:=.int .i64 e) rfl;have y5:=hcl.at 5 (v:=.int .i64 n) rfl;have y6:=hcl.at 6 (v:=.int .u32 z) rfl;have llb:lb<wr.heap.size:=Ab y0;have n9:¬lb=wr.heap.size:=oM;have i1:(0:Int)<=(j:Int):=oM;have i2:(j:Int)<(M:Int):=oM;have wi:IntKind.i64.wrap ((j:Int)+1)=((j+1:Nat):Int):=by rw[IntKind.wrap_i64];omega
     obtain⟨V2,hV2⟩:∃V,wr.alloc (.cells #[.int .i64 op,.int .i64 d,.int .i64 a,.int .i64 b,.int .i64 e,.int .i64 n,.int .u32 z] 40)=V:=⟨_,rfl⟩
     have HB2:Hid (Below wr.heap.size wr V2):=by rw[←hV2];exact A0 _ _
     have hX2:V2.rowIs wr.heap.size 40 7 (Dy op d a b e n z):=by rw[←hV2];exact AN wr _ _
     have HX2:=A2 hX2;have x0:V2.cell? ⟨wr.heap.size,0,none⟩=some (.int .i64 op):=hX2.cell (i:=0) dE;have x1:V2.cell? ⟨wr.heap.size,1,none⟩=some (.int .i64 d):=hX2.cell (i:=1) dE;have x2:V2.cell? ⟨wr.heap.size,2,none⟩=some (.int .i64 a):=hX2.cell (i:=2) dE;have x3:V2.cell? ⟨wr.heap.size,3,none⟩=some (.int .i64 b):=hX2.cell (i:=3) dE;have x4:V2.cell? ⟨wr.heap.size,4,none⟩=some (.int .i64 e):=hX2.cell (i:=4) dE;have x5:V2.cell? ⟨wr.heap.size,5,none⟩=some (.int .i64 n):=hX2.cell (i:=5) dE;have x6:V2.cell? ⟨wr.heap.size,6,none⟩=some (.int .u32 z):=hX2.cell (i:=6) dE;have KS:=A2 (fun v=>Iv ⟨op,d,a,b,e,n,z⟩ v);unfold B9 at KS;simp only at KS;have HK:=A2 hK;have HBJ:=A2 hbj;obtain⟨X,hX⟩:∃X,wr.heap.size=X:=⟨_,rfl⟩
     have HKV:Hid (∀v,Below V2.heap.size V2 v->Bj w.heap.size R S M s v B C GB TB AB NB DB vg vt (.slice none 0 0) tag/\v.rowIs X 40 7 (Dy op d a b e n z)/\Below w.heap.size w v/\B≠X/\GB≠X/\TB≠X/\AB≠X/\NB≠X/\V2.heap.size<=v.heap.size):=fun v hv=>by
      have h9:=bel HB2.out hv;have l1:=HK.out.b.lt;have l2:=HK.out.g.lt;have l3:=HK.out.t.lt;have l4:=HK.out.a.lt;have l5:=HK.out.n.lt;refine⟨HK.out.below h9,by rw[←hX];exact HX2.out.of_block (hv.block _ HX2.out.lt),HBJ.out.trans (h9.mono HK.out.lt),oM,oM,oM,oM,oM,hv.size⟩
     simp only[hX]at x0 x1 x2 x3 x4 x5 x6 n9;obtain⟨AX,hAX⟩:∃x:Int,Ds (At (c.list.take j))=x:=⟨_,rfl⟩
     obtain⟨NX,hNX⟩:∃x:Int,Ds (At (c.list.take (j+1)))=x:=⟨_,rfl⟩
     rw[hAX];have HAX:=A2 hAX;have HNX:=A2 hNX;clear hX2 hcl hi llb hK hP hbj hsl htl hAX hNX HX2 HJ;cases hS:((A4 op).d != 0)with
     |true=>as_aux_lemma=>
      simp only[hS]at KS;have hsb:Ad (⟨op,d,a,b,e,n,z⟩:Aa)=true:=by simp only[Ad];simpa using hS
      obtain⟨g0,g1⟩:=HDI.out hsb;simp only at g0 g1;obtain⟨D,rfl⟩:=Int.eq_ofNat_of_zero_le g0;have hop:op<33:=P4 hsb hknown hS;have o33:(op==33)=false:=sO;have o34:(op==34)=false:=sO;have o35:(op==35)=false:=sO;have o36:(op==36)=false:=sO;have o37:(op==37)=false:=sO;have hDR:D<R:=oM;have HFI:Hid (AX=Fh c.list j/\NX=AX):=by
       obtain⟨h1,h2⟩:=HOTH.out oM oM;exact QF
      have HPN:=A2 (HPS.out hsb oM oM D sM AX HFI.out.1);clear hS hsb HDI hknown HFIN HBEG HOTH HSLO HPO HPS HPT HPF;go_upto_region 9 with(go_at_call 29;(with_reducible refine(KS.out _).mono ?_);rintro e9 w4 ⟨rfl,hb4⟩;obtain⟨hk4,hx4,hbw,nB,nG,nT,nA,nN,hsz⟩:=HKV.out _ hb4;have HK4:=A2 hk4;have HX4:=A2 hx4;have HBW:=A2 hbw;have x0:w4.cell? ⟨X,0,none⟩=some (.int .i64 op):=hx4.cell (i:=0) dE;have x1:w4.cell? ⟨X,1,none⟩=some (.int .i64 (D:Int)):=hx4.cell (i:=1) dE;have x5:w4.cell? ⟨X,5,none⟩=some (.int .i64 n):=hx4.cell (i:=5) dE;have c1:=hk4.b1;have c2:=hk4.b2;have c3:=hk4.b3;have c4:=hk4.b4;have ca:=hk4.a.cell hlt;have fa:=hk4.a.frozen j;clear hb4 hk4 hx4 hbw)
      obtain⟨g,cap,w5,hr,hk5,k2,k3,hb5,hoth,hne⟩:=HK4.out.appSlD hDR (HSN.out D) j;have cg:=HK4.out.g.cell hDR;have lX:X<w4.heap.size:=HX4.out.lt;have lB:B<w4.heap.size:=HK4.out.b.lt;have lG:GB<w4.heap.size:=HK4.out.g.lt;have nBw:¬B=w4.heap.size:=oM;have nXw:¬X=w4.heap.size:=oM;have nGw:¬GB=w4.heap.size:=oM;have cg':(w4.alloc (.cells #[.int .i64 (j:Int)] 3)).cell? ⟨GB,D,none⟩=some (vg D):=kc (A0 _ _) cg;have oB:(vg D).ownBlock≠some B:=fun q=>absurd (HK4.out.tgs D hDR B q) (by rw[HK4.out.tB];omega);have oX:(vg D).ownBlock≠some X:=fun q=>GF HX4.out (HK4.out.gs D hDR) q;have v1:w5.cell? ⟨B,1,none⟩=some (.slice (some ⟨GB,0,none⟩) R R):=(World.cell?_of_block (a:=⟨B,1,none⟩) (hoth B lB oB)).trans c1;have v2:w5.cell? ⟨X,1,none⟩=some (.int .i64 (D:Int)):=(World.cell?_of_block (a:=⟨X,1,none⟩) (hoth X lX oX)).trans x1;have nBG:¬B=GB:=Ag HK4.out.tB HK4.out.tG dE;have v3:(w5.setCell ⟨GB,D,none⟩ (.slice (some ⟨g,0,none⟩) ((s.sl D).length+1) cap)).cell? ⟨B,1,none⟩=some (.slice (some ⟨GB,0,none⟩) R R):=(World.cell?_of_block (a:=⟨B,1,none⟩) (Below.heap_setCell _ _ _ _ nBG)).trans v1;have v4:(w5.setCell ⟨GB,D,none⟩ (.slice (some ⟨g,0,none⟩) ((s.sl D).length+1) cap)).cell? ⟨X,1,none⟩=some (.int .i64 (D:Int)):=(World.cell?_of_block (a:=⟨X,1,none⟩) (Below.heap_setCell _ _ _ _ (fun q=>nG q.symm))).trans v2;have HX6:Hid ((w5.setCell ⟨GB,D,none⟩ (.slice (some ⟨g,0,none⟩) ((s.sl D).length+1) cap)).rowIs X 40 7 (Dy op D a b e n z)):=(HX4.out.of_block (hoth X lX oX)).of_block (Below.heap_setCell _ _ _ _ (fun q=>nG q.symm));have HB6:Hid (Below w.heap.size w (w5.setCell ⟨GB,D,none⟩ (.slice (some ⟨g,0,none⟩) ((s.sl D).length+1) cap))):=(HBW.out.trans hb5).setCell HK4.out.hG _;obtain⟨Mn,hMn⟩:∃k,(s.sl D).length+1=k:=⟨_,rfl⟩
      simp only[hMn]at hr hk5 v3 v4 HX6 HB6;have HR:=A2 hr;have HK6:=A2 hk5;clear hr hk5 hb5 hoth hne hMn lX lB lG;go_cut [7] (fun bv wx=>bv=.pointer (some ⟨X,0,none⟩)/\∃vg' tag',Bj w.heap.size R S M {s with sl:=fun k=>if k=D then s.sl D++[j]else s.sl k} wx B C GB TB AB NB DB vg' vt (.slice none 0 0) tag'/\wx.rowIs X 40 7 (Dy op D a b e n z)/\Below w.heap.size w wx)
      case first=>
       refine rG (fun v=>v.cell? ⟨B,1,none⟩=some (.slice (some ⟨GB,0,none⟩) R R)/\v.cell? ⟨X,1,none⟩=some (.int .i64 (D:Int))) fun hHeld=>?_;exact RS
      case rest=>
       obtain⟨rfl,vg',tag',hk,hx,hb⟩:=hcut;exact S8
     |false=>
      simp only[hS]at KS;have hsb:Ad (⟨op,d,a,b,e,n,z⟩:Aa)=false:=by simp only[Ad];simpa using hS
      clear hS HDI HPS;by_cases hop:op=33
      ·as_aux_lemma=>
       obtain⟨D,hnD,hDS⟩:=HSLO.out (.inr hop);have hDS:D<S:=by have:=HSE.out;omega
       subst hnD;have o33:(op==33)=true:=by simpa using hop
       have o34:(op==34)=false:=sO;have o35:(op==35)=false:=sO;have o36:(op==36)=false:=sO;have o37:(op==37)=false:=sO;have HFI:Hid (AX=Fh c.list j/\NX=AX):=by
        obtain⟨h1,h2⟩:=HOTH.out oM oM;exact QF
       have HPN:=A2 (HPT.out hsb hop D sM AX HFI.out.1);have i6:(D:Int)<(S:Int):=oM;clear hsb hknown HFIN HBEG HOTH HSLO HPO HPT HPF hop;go_upto_region 11 with(go_at_call 29;(with_reducible refine(KS.out _).mono ?_);rintro e9 w4 ⟨rfl,hb4⟩;obtain⟨hk4,hx4,hbw,nB,nG,nT,nA,nN,hsz⟩:=HKV.out _ hb4;have HK4:=A2 hk4;have HX4:=A2 hx4;have HBW:=A2 hbw;have x0:w4.cell? ⟨X,0,none⟩=some (.int .i64 op):=hx4.cell (i:=0) dE;have x1:w4.cell? ⟨X,1,none⟩=some (.int .i64 d):=hx4.cell (i:=1) dE;have x5:w4.cell? ⟨X,5,none⟩=some (.int .i64 (D:Int)):=hx4.cell (i:=5) dE;have c1:=hk4.b1;have c2:=hk4.b2;have c3:=hk4.b3;have c4:=hk4.b4;have ca:=hk4.a.cell hlt;have fa:=hk4.a.frozen j;clear hb4 hk4 hx4 hbw)
       obtain⟨g,cap,w5,hr,hk5,k2,k3,hb5,hoth,hne⟩:=HK4.out.appTlD hDS (HTN.out D) j;have cg:=HK4.out.t.cell hDS;have lX:X<w4.heap.size:=HX4.out.lt;have lB:B<w4.heap.size:=HK4.out.b.lt;have lG:TB<w4.heap.size:=HK4.out.t.lt;have nBw:¬B=w4.heap.size:=oM;have nXw:¬X=w4.heap.size:=oM;have nGw:¬TB=w4.heap.size:=oM;have cg':(w4.alloc (.cells #[.int .i64 (j:Int)] 3)).cell? ⟨TB,D,none⟩=some (vt D):=kc (A0 _ _) cg;have oB:(vt D).ownBlock≠some B:=fun q=>absurd (HK4.out.tts D hDS B q) (by rw[HK4.out.tB];omega);have oX:(vt D).ownBlock≠some X:=fun q=>GF HX4.out (HK4.out.ts D hDS) q;have v1:w5.cell? ⟨B,2,none⟩=some (.slice (some ⟨TB,0,none⟩) S S):=(World.cell?_of_block (a:=⟨B,2,none⟩) (hoth B lB oB)).trans c2;have v2:w5.cell? ⟨X,5,none⟩=some (.int .i64 (D:Int)):=(World.cell?_of_block (a:=⟨X,5,none⟩) (hoth X lX oX)).trans x5;have nBG:¬B=TB:=Ag HK4.out.tB HK4.out.tT dE;have v3:(w5.setCell ⟨TB,D,none⟩ (.slice (some ⟨g,0,none⟩) ((s.tl D).length+1) cap)).cell? ⟨B,2,none⟩=some (.slice (some ⟨TB,0,none⟩) S S):=(World.cell?_of_block (a:=⟨B,2,none⟩) (Below.heap_setCell _ _ _ _ nBG)).trans v1;have v4:(w5.setCell ⟨TB,D,none⟩ (.slice (some ⟨g,0,none⟩) ((s.tl D).length+1) cap)).cell? ⟨X,5,none⟩=some (.int .i64 (D:Int)):=(World.cell?_of_block (a:=⟨X,5,none⟩) (Below.heap_setCell _ _ _ _ (fun q=>nT q.symm))).trans v2;have HX6:Hid ((w5.setCell ⟨TB,D,none⟩ (.slice (some ⟨g,0,none⟩) ((s.tl D).length+1) cap)).rowIs X 40 7 (Dy op d a b e D z)):=(HX4.out.of_block (hoth X lX oX)).of_block (Below.heap_setCell _ _ _ _ (fun q=>nT q.symm));have HB6:Hid (Below w.heap.size w (w5.setCell ⟨TB,D,none⟩ (.slice (some ⟨g,0,none⟩) ((s.tl D).length+1) cap))):=(HBW.out.trans hb5).setCell HK4.out.hT _;obtain⟨Mn,hMn⟩:∃k,(s.tl D).length+1=k:=⟨_,rfl⟩
       simp only[hMn]at hr hk5 v3 v4 HX6 HB6;have HR:=A2 hr;have HK6:=A2 hk5;clear hr hk5 hb5 hoth hne hMn lX lB lG;go_cut [7] (fun bv wx=>bv=.pointer (some ⟨X,0,none⟩)/\∃vt' tag',Bj w.heap.size R S M {s with tl:=fun k=>if k=D then s.tl D++[j]else s.tl k} wx B C GB TB AB NB DB vg vt' (.slice none 0 0) tag'/\wx.rowIs X 40 7 (Dy op d a b e D z)/\Below w.heap.size w wx)
       case first=>
        refine rG (fun v=>v.cell? ⟨B,2,none⟩=some (.slice (some ⟨TB,0,none⟩) S S)/\v.cell? ⟨X,5,none⟩=some (.int .i64 (D:Int))) fun hHeld=>?_;exact RS
       case rest=>
        obtain⟨rfl,vt',tag',hk,hx,hb⟩:=hcut;exact S8
      ·by_cases hop35:op=35
       ·have hop:=hop35;have o33:(op==33)=false:=sO;have o34:(op==34)=false:=sO;have o35:(op==35)=true:=by simpa using hop
        have o36:(op==36)=false:=sO;have o37:(op==37)=false:=sO;exact RN
       ·by_cases hop37:op=37
        ·have hop:=hop37;have o33:(op==33)=false:=sO;have o34:(op==34)=false:=sO;have o35:(op==35)=false:=sO;have o36:(op==36)=false:=sO;have o37:(op==37)=true:=by simpa using hop
         exact RN
        ·skip
         clear HFIN HPF HPT HSLO HPA;by_cases hop34:op=34\/op=36
         ·have HFI:Hid (AX=Fh c.list j/\NX=(j:Int)):=by
           obtain⟨h1,h2⟩:=HBEG.out hop34;exact QF
          have HPN:=A2 (HPO.out hsb oM oM AX HFI.out.1);have o33:(op==33)=false:=sO;have o35:(op==35)=false:=sO;have o37:(op==37)=false:=sO;clear hsb hknown HBEG HOTH HPO;rcases hop34 with hop|hop
          ·have o34:(op==34)=true:=by simpa using hop
           clear hop hop35 hop37;exact QW
          ·have o34:(op==34)=false:=sO;have o36:(op==36)=true:=by simpa using hop
           clear hop hop35 hop37;exact QW
         ·have HFI:Hid (AX=Fh c.list j/\NX=AX):=by
           obtain⟨h1,h2⟩:=HOTH.out hop34 oM;exact QF
          have HPN:=A2 (HPO.out hsb oM oM AX HFI.out.1);have o33:(op==33)=false:=sO;have o34:(op==34)=false:=sO;have o35:(op==35)=false:=sO;have o36:(op==36)=false:=sO;have o37:(op==37)=false:=sO;clear hsb hknown HBEG HOTH HPO hop34 hop35 hop37;exact QW
    ·have e9:¬ (j:Int)<(M:Int):=oM;have hjn:j=c.list.length:=by have:=HM.out;omega
     obtain⟨hbj,s,vg,vt,tag,hK,hP⟩:=HJ.out;rw[hjn]at hP;have HE:=A2 (And.intro hK (And.intro hP.all hbj));clear hlt hjn hbj hK hP;go_wp2;refine bodyPost_ret (by simp[results,results26,go_sem, *];try rfl) rfl ?_;first|exact⟨_,rfl,_,_,_,_,_,_,_,_,_,_,_,rfl,HE.out.1,HE.out.2.1,HE.out.2.2⟩|exact⟨_,_,_,_,_,_,_,_,_,_,_,rfl,HE.out.1,HE.out.2.1,HE.out.2.2⟩
theorem G0{B:Nat}{V:World}{e t:TypeId}{z:Value}{sz by':Nat}(ht:prog.underlying t=some (.slice e))(hi:(prog.info? e).map (fun i=>(i.zero,i.size,i.bytes))=some (some z,sz,by'))(hzs:z.cells.size=sz)(hsz:0<sz){p:Option Addr}{n q:Nat}{xs:List Value}(h:V.ownsRow B e sz (.slice p n q) n xs)(hB:B<=V.heap.size)
 (m:Nat) (hm:0<m) (cs:Array Value) (hcs:cs.size=m*sz) (h1:∀u∈cs.toList,u.oneCell'=true) (hn:n+m<=maxLen) (hb:(n+m)*by'<=140737488355328) (ty:TypeId):
 ∃g c' w',(Builtin.append_ #[t,t] ty #[.slice p n q,.slice (some ⟨V.heap.size,0,none⟩) m m]).run prog (V.alloc (.cells cs e))=.ok (.slice (some ⟨g,0,none⟩) (n+m) c') w'/\Below B V w'/\w'.ownsRow B e sz (.slice (some ⟨g,0,none⟩) (n+m) c') (n+m) (xs++cs.toList)/\(∀b,b<V.heap.size->(Value.slice p n q).ownBlock≠some b->w'.heap[b]? =V.heap[b]?)/\((Value.slice p n q).ownBlock=some g\/V.heap.size<g):=by
 obtain⟨i0,hi0,hz0,hz1,hz2⟩:=info_parts hi;have hb0:Below V.heap.size V (V.alloc (.cells cs e)):=A0 _ _;have hs:(V.alloc (.cells cs e)).heap.size=V.heap.size+1:=sM;have h0:=Ac h hb0;obtain⟨g,cap,w3,hr,hown,hgrow,hat,hlt⟩:=run_append_lies (P:=prog) (V.alloc (.cells cs e)) t ty B e i0 _ sz by' ht hi0 hz0 hz1 hz2 hzs hsz (.slice p n q) n xs h0 ⟨V.heap.size,0,none⟩ m m cs.toList (by simp[hcs])
  (World.news_of_block (cs:=cs) (t:=e) (fr:=(0,0)) (heap_alloc_new V _)) h1 hm hn hb oM _ rfl
 exact QY
structure GO(E:Nat)(w:World)(A S:List Nat)(ov pv:Value)(wr:World):Prop where
 bel:Below E w wr
 le:E<=wr.heap.size
 o:wr.ownsRow E 3 1 ov A.length (AV A)
 s:wr.ownsRow E 3 1 pv S.length (AV S.reverse)
 ne:∀g,ov.ownBlock=some g->pv.ownBlock≠some g
theorem GO.push{E:Nat}{w:World}{A S:List Nat}{ov pv:Value}{wr:World}(h:GO E w A S ov pv wr)(k:Nat)(hS:S.length<=1000000)(ty:TypeId):
 ∃pv' w',(Builtin.append_ #[61,61] ty #[pv,.slice (some ⟨wr.heap.size,0,none⟩) 1 1]).run prog (wr.alloc (.cells #[.int .i64 (k:Int)] 3))=.ok pv' w'/\GO E w A (k::S) ov pv' w':=by
 obtain⟨p,q,rfl⟩:=Ao h.s;obtain⟨g,c',w',h1,h2,h3,h4,h5⟩:=G0 (t:=61) (e:=3) underlying61 BJ rF dE h.s h.le 1 dE #[.int .i64 (k:Int)] rfl Jz mL oM ty;refine⟨_,w',h1,h.bel.trans h2,Nat.le_trans h.le h2.size,A7 h.o fun b hb=>h4 b (h.o.lt b hb).2 (h.ne b hb),?_,fun b hb e=>?_⟩
 ·rw[List.reverse_cons,GJ];exact h3
 ·have e2:g=b:=by simpa[Value.ownBlock]using e
  subst e2;rcases h5 with q|q
  ·exact h.ne _ hb q
  ·have:=(h.o.lt _ hb).2;omega
theorem GO.two{E:Nat}{w:World}{A S:List Nat}{ov pv:Value}{wr:World}(h:GO E w A S ov pv wr)(b k:Nat)(hS:A.length<=1000000)(ty:TypeId):
 ∃ov' w',(Builtin.append_ #[61,61] ty #[ov,.slice (some ⟨wr.heap.size,0,none⟩) 2 2]).run prog (wr.alloc (.cells #[.int .i64 (b:Int),.int .i64 (k:Int)] 3))=.ok ov' w'/\GO E w (A++[b,k]) S ov' pv w':=by
 obtain⟨p,q,rfl⟩:=Ao h.o;obtain⟨g,c',w',h1,h2,h3,h4,h5⟩:=G0 (t:=61) (e:=3) underlying61 BJ rF dE h.o h.le 2 dE #[.int .i64 (b:Int),.int .i64 (k:Int)] rfl Jz mL oM ty;refine⟨_,w',h1,h.bel.trans h2,Nat.le_trans h.le h2.size,?_,A7 h.s fun b hb=>h4 b (h.s.lt b hb).2 (fun e=>h.ne b e hb),fun b hb e=>?_⟩
 ·rw[List.length_append,show AV (A++[b,k])=AV A++[.int .i64 (b:Int),.int .i64 (k:Int)] by simp[AV]];exact h3
 ·have e2:g=b:=by simpa[Value.ownBlock]using hb
  subst e2;rcases h5 with q|q
  ·exact h.ne _ q e
  ·have:=(h.s.lt _ e).2;omega
theorem IR(c:Cd)(hc:(Ah c).1=0)(p:Nat)(w:World)(p3:Option Addr)(q3:Nat)(hL:c.list.length<=32768)(hl:AR 7 Bf w (.slice p3 c.list.length q3) c.list):
 Calls prog 36 #[.slice p3 c.list.length q3,.int .i64 (p:Int)] w fun e w'=>∃v,e=.returned v/\w'.ownsRow w.heap.size 3 1 v (AC c.list p c.list.length).length (AV (AC c.list p c.list.length))/\Below w.heap.size w w':=by
 have HL:=A2 hl;have HFO:=A2 (fun k (hk:k<c.list.length) (o:c.list[k].op=35\/c.list[k].op=37)=>HY hc hk o);obtain⟨M,hMe⟩:∃M,c.list.length=M:=⟨_,rfl⟩
 have HM:=A2 hMe;simp only[hMe]at HL hL ⊢;obtain⟨E,hE⟩:∃E,w.heap.size=E:=⟨_,rfl⟩
 have HE:=A2 hE;rw[hE];clear hl hc hMe hE;go_enter func36,ntmps36;go_wp2
 go_loopw [5,6,7] (fun ov pv iv wr=>∃k:Nat,k<=M/\iv=.int .i64 (k:Int)/\Hid (GO E w (AC c.list p k) (At (c.list.take k)) ov pv wr)) (fun _ _ iv _=>M-(intOf iv).toNat)
 case atStart=>exact⟨0,Nat.zero_le _,rfl,⟨by rw[←HE.out];exact C9 _,by have:=HE.out;omega,World.ownsRow_nil _ _ _ 1,World.ownsRow_nil _ _ _ 1,fun g h=>Ho⟩⟩
 case round=>
  obtain⟨k,hk,rfl,HJ⟩:=hrel;by_cases hlt:k<M
  ·have hkl:k<c.list.length:=by have:=HM.out;omega
   have hbw:Below w.heap.size w wr:=by rw[HE.out];exact HJ.out.bel
   obtain⟨lb,lo,rfl,hcl⟩:=(HL.out.below hbw).at hkl;have HFK:=A2 (HFO.out k hkl);have HST:=A2 (CO hkl);have HEF:=A2 (fun o b S hs=>Hx (p:=p) (b:=b) (S:=S) hkl o hs);have HEO:=A2 (fun o=>Hy (p:=p) hkl o);have hSL:(At (c.list.take k)).length<=100000:=by
    have:=KJ (l:=c.list) k oM;omega
   have hAL:(AC c.list p k).length<=100000:=by have:=FI (l:=c.list) p k;omega
   obtain⟨⟨op,d,a,b,e,n,z⟩,hi⟩:∃i,c.list[k]=i:=⟨_,rfl⟩
   rw[hi]at hcl HFK HST HEF HEO;simp only at HFK HST HEF HEO;have y0:=hcl.at 0 (v:=.int .i64 op) rfl;rw[Nat.add_zero]at y0;have i1:(0:Int)<=(k:Int):=oM;have i2:(k:Int)<(M:Int):=oM;have wi:IntKind.i64.wrap ((k:Int)+1)=((k+1:Nat):Int):=by rw[IntKind.wrap_i64];omega
   clear hcl hi hbw;by_cases o:op=34\/op=36
   ·obtain⟨pv',w6,hr,hO⟩:=HJ.out.push k oM 61;have HR:=A2 hr;have HO:Hid (GO E w (AC c.list p (k+1)) (At (c.list.take (k+1))) u5 pv' w6):=by
     show GO _ _ _ _ _ _ _;rw[HEO.out oM,HST.out,if_pos o];exact hO
    clear hr hO HST HEF HEO HFK HFO hSL hAL;rcases o with o|o
    all_goals
     subst o;go_wp2_with(at_builtin;refine Ay rF _ _ _ rF _ _ _ rF rF HR.out ?_);go_roundw
     case rel=>exact⟨k+1,oM,gN,HO.out⟩
     case measure=>simp[intOf];omega
   ·by_cases o':op=35\/op=37
    ·obtain⟨b0,S,hs⟩:=HFK.out o';have hst:=HST.out;have hen:=HEF.out o' b0 S hs;rw[if_neg o,if_pos o',hs,List.tail_cons]at hst;have hJ:=HJ.out;rw[hs]at hJ hSL;obtain⟨g,cap,rfl,g1,g2,g3,g4,g5⟩:=Bc hJ.s sM;have hcp:=g5 S.length (.int .i64 (b0:Int)) (by simp[AV]);have hown:wr.ownsRow E 3 1 (.slice (some ⟨g,0,none⟩) S.length cap) S.length (AV S.reverse):=by
      have h9:=CZ hJ.s (m:=S.length) sM;rw[Nat.mul_one,F8,List.reverse_cons,List.take_append_of_le_length sM,List.take_of_length_le sM]at h9;exact h9
     have hK:GO E w (AC c.list p k) S u5 (.slice (some ⟨g,0,none⟩) S.length cap) wr:=⟨hJ.bel,hJ.le,hJ.o,hown,fun b hb e=>hJ.ne b hb (by simpa[Value.ownBlock]using e)⟩
     obtain⟨ov',w6,hr,hO⟩:=hK.two b0 k oM 61;simp only[List.length_cons]at g3 hSL hcp;obtain⟨N1,hN1⟩:∃N,S.length=N:=⟨_,rfl⟩
     have HK:=A2 hK;have HR:=A2 hr;have HO:=A2 hO;have HSN:=A2 hst;have HEN:=A2 hen;simp only[List.length_cons,hN1]at HK g3 hSL hcp HO;have i3:IntKind.i64.wrap (N1:Int)=(N1:Int):=by rw[IntKind.wrap_i64];omega
     have i3':IntKind.i64.wrap (((N1+1:Nat):Int)-1)=(N1:Int):=by rw[IntKind.wrap_i64];omega
     have i4:(0:Int)<=(N1:Int):=oM;have i5:(N1:Int)<((N1+1:Nat):Int):=oM;have i6:(N1:Int)<=(cap:Int):=oM;have i7:N1<=cap:=oM;have hlen:(b0::S).length=N1+1:=by simp[hN1]
     simp only[hlen];clear hJ hs hst hen g1 g2 g4 g5 hown hK hr hO HST HEF HEO HFK HFO HJ hN1 hlen hSL hAL;by_cases c1:b0<=p
     ·have d1:(b0:Int)<=(p:Int):=oM;by_cases c2:p<=k
      ·have d2:(p:Int)<=(k:Int):=oM;have HQ:Hid (GO E w (AC c.list p (k+1)) (At (c.list.take (k+1))) ov' (.slice (some ⟨g,0,none⟩) N1 cap) w6):=by
        show GO _ _ _ _ _ _ _;rw[HEN.out,if_pos ⟨c1,c2⟩,HSN.out];exact HO.out
       clear HO HEN HSN c1 c2;rcases o' with o'|o'
       all_goals
        subst o';go_wp2_with(at_builtin;refine Ay rF _ _ _ rF _ _ _ rF rF HR.out ?_);exact R6
      ·have d2:¬ (p:Int)<=(k:Int):=oM;have HQ:Hid (GO E w (AC c.list p (k+1)) (At (c.list.take (k+1))) u5 (.slice (some ⟨g,0,none⟩) N1 cap) wr):=by
        show GO _ _ _ _ _ _ _;rw[HEN.out,if_neg (fun h=>c2 h.2),HSN.out];exact HK.out
       clear HO HEN HSN c1 c2 HR;rcases o' with o'|o'
       all_goals
        subst o';go_wp2;exact R6
     ·have d1:¬ (b0:Int)<=(p:Int):=oM;have HQ:Hid (GO E w (AC c.list p (k+1)) (At (c.list.take (k+1))) u5 (.slice (some ⟨g,0,none⟩) N1 cap) wr):=by
       show GO _ _ _ _ _ _ _;rw[HEN.out,if_neg (fun h=>c1 h.1),HSN.out];exact HK.out
      clear HO HEN HSN c1 HR;rcases o' with o'|o'
      all_goals
       subst o';go_wp2;exact R6
    ·have o1:(op==34)=false:=sO;have o2:(op==36)=false:=sO;have o3:(op==35)=false:=sO;have o4:(op==37)=false:=sO;have HO:Hid (GO E w (AC c.list p (k+1)) (At (c.list.take (k+1))) u5 u6 wr):=by
      show GO _ _ _ _ _ _ _;rw[HEO.out o',HST.out,if_neg o,if_neg o'];exact HJ.out
     clear HST HEF HEO HFK HFO hSL hAL o o';go_wp2;go_roundw
     case rel=>exact⟨k+1,oM,gN,HO.out⟩
     case measure=>simp[intOf];omega
  ·have e9:¬ (k:Int)<(M:Int):=oM;have hke:k=M:=oM;have HQ:Hid (GO E w (AC c.list p M) (At (c.list.take k)) u5 u6 wr):=by rw[←hke];exact HJ.out
   clear hlt hke HJ;go_wp2;go_ret;exact⟨_,rfl,HQ.out.o,HQ.out.bel⟩
theorem FS(f:Nat->Bool)(N:Nat)(hN:N<=100000)(w:World)(IB:Nat)(hr:w.rowIs IB 4 N (fun j=>.bool (f j))):
 Calls prog 21 #[.slice (some ⟨IB,0,none⟩) N N] w fun e w'=>∃v,e=.returned v/\w'.ownsRow w.heap.size 3 1 v N (B2 ((List.range N).map (EB f)))/\Below w.heap.size w w':=by
 have HR:=A2 hr;obtain⟨E,hE⟩:∃E,w.heap.size=E:=⟨_,rfl⟩
 have HE:=A2 hE;rw[hE];clear hr hE;go_enter func21,ntmps21;go_wp2
 go_loopw [3,4,5] (fun ov nv iv wr=>∃k:Nat,k<=N/\iv=.int .i64 (k:Int)/\nv=.int .i64 ((Ak f k:Nat):Int)/\Hid (Below E w wr/\E<=wr.heap.size/\wr.ownsRow E 3 1 ov k (B2 ((List.range k).map (EB f))))) (fun _ _ iv _=>N-(intOf iv).toNat)
 case atStart=>exact⟨0,Nat.zero_le _,rfl,rfl,⟨by rw[←HE.out];exact C9 _,by have:=HE.out;omega,World.ownsRow_nil _ _ _ 1⟩⟩
 case round=>
  obtain⟨k,hk,rfl,rfl,HJ⟩:=hrel;have hck:Ak f k<=k:=by unfold Ak;exact Nat.le_trans (List.length_filter_le ..) sM
  by_cases hlt:k<N
  ·obtain⟨hb,hle,hown⟩:=HJ.out;have hbw:Below w.heap.size w wr:=by rw[HE.out];exact hb
   have y0:wr.cell? ⟨IB,k,none⟩=some (.bool (f k)):=kc hbw (HR.out.cell hlt);obtain⟨po,qo,rfl⟩:=Ao hown;obtain⟨g,c',w6,h1,h2,h3,h4,h5⟩:=G0 (t:=61) (e:=3) underlying61 BJ rF dE hown hle 1 dE #[.int .i64 (EB f k)] rfl Jz mL oM 61;have HO:Hid (Below E w w6/\E<=w6.heap.size/\w6.ownsRow E 3 1 (.slice (some ⟨g,0,none⟩) (k+1) c') (k+1) (B2 ((List.range (k+1)).map (EB f)))):=by
    refine⟨hb.trans h2,Nat.le_trans hle h2.size,?_⟩;rw[List.range_succ,List.map_append,List.map_cons,List.map_nil,C6];exact h3
   have hnx:=L7 f k;have HA:=A2 h1;have i1:(0:Int)<=(k:Int):=oM;have i2:(k:Int)<(N:Int):=oM;have wi:IntKind.i64.wrap ((k:Int)+1)=((k+1:Nat):Int):=by rw[IntKind.wrap_i64];omega
   obtain⟨C,hC⟩:∃C,Ak f k=C:=⟨_,rfl⟩
   have wc:IntKind.i64.wrap ((C:Int)+1)=((C+1:Nat):Int):=by rw[IntKind.wrap_i64];omega
   unfold EB at HA;rw[hC]at HA hnx ⊢;clear hb hle hown h1 h2 h3 h4 h5 hbw hck hC HJ;cases hf:f k with
   |true=>
    rw[hf]at y0 HA hnx;simp only[if_true]at HA hnx;have HNX:=A2 hnx;clear hf hnx;go_wp2_with(at_builtin;refine Ay rF _ _ _ rF _ _ _ rF rF HA.out ?_);go_roundw
    case rel=>exact⟨k+1,oM,gN,by rw[HNX.out];go_num,HO.out⟩
    case measure=>simp[intOf];omega
   |false=>
    rw[hf]at y0 HA hnx;simp only[Bool.false_eq_true,if_false]at HA hnx;have HNX:=A2 hnx;clear hf hnx;go_wp2_with(at_builtin;refine Ay rF _ _ _ rF _ _ _ rF rF HA.out ?_);go_roundw
    case rel=>exact⟨k+1,oM,gN,by rw[HNX.out],HO.out⟩
    case measure=>simp[intOf];omega
  ·have e9:¬ (k:Int)<(N:Int):=oM;have hke:k=N:=oM;subst hke;clear hlt;go_wp2;go_ret;exact⟨_,rfl,HJ.out.2.2,HJ.out.1⟩
theorem MF{d:Cd}(d2:AQ d ⟨[],[]⟩ d.list=true)(hn:∀k,k<d.list.length->Nd d.list k)(hr:∀r,r<d.regs.length->usR d.list r=true)(hsl:∀r,r<d.slots.length->usS d.list r=true):pruneC d=d:=by
 have hi:∀i∈d.list,Cz (Ak (usR d.list)) (Ak (usS d.list)) i=i:=fun i hi=>by
  obtain⟨p,hp,rfl⟩:=List.mem_iff_getElem.1 hi;have t:=BH d2 hp;obtain⟨t1,t2,-,-⟩:=AG t;have Cc:∀x:Int,0<=x->x<(d.regs.length:Int)->((Ak (usR d.list) x.toNat:Nat):Int)=x:=fun x x0 x1=>by
   rw[Ex x.toNat (fun s hs=>hr s oM),Int.toNat_of_nonneg x0]
  unfold Cz;have e1:(if(A4 d.list[p].op).d=0 then d.list[p].d else((Ak (usR d.list) d.list[p].d.toNat:Nat):Int))=d.list[p].d:=by
   by_cases q:(A4 d.list[p].op).d=0
   ·rw[if_pos q]
   ·rw[if_neg q];obtain⟨x0,x1⟩:=Al (CF t2) q;exact Cc _ x0 x1
  have e2:(if(A4 d.list[p].op).a=0 then d.list[p].a else((Ak (usR d.list) d.list[p].a.toNat:Nat):Int))=d.list[p].a:=by
   by_cases q:(A4 d.list[p].op).a=0
   ·rw[if_pos q]
   ·rw[if_neg q];obtain⟨x0,x1⟩:=Al (Da t2) q;exact Cc _ x0 x1
  have e3:(if(A4 d.list[p].op).b=0 then d.list[p].b else((Ak (usR d.list) d.list[p].b.toNat:Nat):Int))=d.list[p].b:=by
   by_cases q:(A4 d.list[p].op).b=0
   ·rw[if_pos q]
   ·rw[if_neg q];obtain⟨x0,x1⟩:=Al (DU t2) q;exact Cc _ x0 x1
  have e4:(if(A4 d.list[p].op).c=0 then d.list[p].c else((Ak (usR d.list) d.list[p].c.toNat:Nat):Int))=d.list[p].c:=by
   by_cases q:(A4 d.list[p].op).c=0
   ·rw[if_pos q]
   ·rw[if_neg q];obtain⟨x0,x1⟩:=Al (DV t2) q;exact Cc _ x0 x1
  have e5:(if d.list[p].op=32\/d.list[p].op=33 then((Ak (usS d.list) d.list[p].n.toNat:Nat):Int)else d.list[p].n)=d.list[p].n:=by
   by_cases q:d.list[p].op=32\/d.list[p].op=33
   ·rw[if_pos q];obtain⟨x0,x1⟩:=KH t q;rw[Ex _ (fun s hs=>hsl s oM),Int.toNat_of_nonneg x0]
   ·rw[if_neg q]
  rw[e1,e2,e3,e4,e5]
 have hK:∀k,k<d.list.length->ndK d.list k=true:=fun k hk=>B0.2 (hn k hk);have e1:(pruneC d).regs=d.regs:=JW hr;have e2:(pruneC d).slots=d.slots:=JW hsl;have e3:(pruneC d).list=d.list:=by
  show AH _ _ d.list d.list.length=_;rw[OK _ (Nat.le_refl _) hK hi,List.take_length]
 have Cc:∀a b:Cd,a.sign=b.sign->a.regs=b.regs->a.slots=b.slots->a.list=b.list->a=b:=fun a b=>by
  obtain⟨a1,a2,a3,a4⟩:=a;obtain⟨b1,b2,b3,b4⟩:=b;simp only;rintro rfl rfl rfl rfl;rfl
 exact Cc _ _ rfl e1 e2 e3
theorem Qg{l:List Aa}{S:Nat->Bool}(hb:∀k (hk:k<l.length),l[k].op<34)(h1:∀k (hk:k<l.length),l[k].op=31->S k=true)(h2:∀k (hk:k<l.length),S k=true->∀r∈A9 l[k] (A4 l[k].op),∀j (hj:j<l.length),Ad l[j]=true->l[j].d.toNat=r.toNat->S j=true)(h3:∀k (hk:k<l.length),S k=true->l[k].op=32->∀j (hj:j<l.length),l[j].op=33->l[j].n=l[k].n->S j=true){k:Nat}(n:Nd l k):S k=true:=by
 induction n with
 |out hk o=>exact h1 _ hk o
 |set hk hj n r hr hs e ih=>exact h2 _ hk ih r hr _ hj hs e
 |store hk hj n o1 o2 e ih=>exact h3 _ hk ih o1 _ hj o2 e
 |beg hk n hbb ih=>
  obtain⟨g1,-,g3⟩:=Dm l _ (Nat.le_of_lt hk) _ (Dd hk hbb);have:=hb _ g1;omega
 |fin hk n hf hbb ih=>have:=hb _ hk;omega
 |begE hk n hf hbb ih=>have:=hb _ hk;omega
def B4(a:Int):List Aa:=[⟨32,1,0,0,0,0,0⟩,⟨29,0,0,0,0,0,0⟩,⟨4,2,0,1,0,0,0⟩,⟨33,0,2,0,0,0,0⟩,⟨31,0,a,0,0,0,0⟩]
def BF(s:List Bt)(a:Int):Cd:=⟨s,[⟨3,0⟩,⟨3,0⟩,⟨3,0⟩],[⟨⟨3,0⟩,true,0,0⟩],B4 a⟩
theorem Ey(k:Nat):Nd (B4 0) k↔k=1\/k=4:=by
 constructor
 ·intro n;have h:=Qg (l:=B4 0) (S:=fun k=>decide (k=1\/k=4)) dE dE dE dE n;simpa using h
 ·have n4:Nd (B4 0) 4:=.out dE dE;rintro(rfl|rfl)
  ·exact .set (k:=4) (j:=1) dE dE n4 0 dE dE dE
  ·exact n4
theorem DF:∀k,k<5->Nd (B4 2) k:=by
 have n4:Nd (B4 2) 4:=.out dE dE;have n2:Nd (B4 2) 2:=.set (k:=4) (j:=2) dE dE n4 2 dE dE dE;have n1:Nd (B4 2) 1:=.set (k:=2) (j:=1) dE dE n2 0 dE dE dE;have n0:Nd (B4 2) 0:=.set (k:=2) (j:=0) dE dE n2 1 dE dE dE;have n3:Nd (B4 2) 3:=.store (k:=0) (j:=3) dE dE n0 dE dE dE;intro k hk
 match k,hk with
 |0,_=>exact n0
 |1,_=>exact n1
 |2,_=>exact n2
 |3,_=>exact n3
 |4,_=>exact n4
theorem I5(s:List Bt)(ht:AQ (BF s 2) ⟨[],[]⟩ (B4 2)=true):pruneC (BF s 2)=BF s 2:=by
 refine MF ht (fun k hk=>DF k hk) (fun r hr=>?_) (fun r hr=>?_)
 ·have hr:r<3:=hr
  match r,hr with
  |0,_=>exact(Bq (l:=B4 2)).2 ⟨1,dE,DF 1 dE,dE,dE⟩
  |1,_=>exact(Bq (l:=B4 2)).2 ⟨0,dE,DF 0 dE,dE,dE⟩
  |2,_=>exact(Bq (l:=B4 2)).2 ⟨2,dE,DF 2 dE,dE,dE⟩
 ·have hr:r<1:=hr
  match r,hr with
  |0,_=>exact(Dp (l:=B4 2)).2 ⟨0,dE,DF 0 dE,dE,dE⟩
theorem J6(s:List Bt):(pruneC (BF s 0)).list.length=2/\(pruneC (BF s 0)).regs.length=1/\(pruneC (BF s 0)).slots.length=0:=by
 have hK:∀k,ndK (B4 0) k=decide (k=1\/k=4):=fun k=>by rw[Bool.eq_iff_iff,B0,Ey];simp
 have hR:∀r,usR (B4 0) r=decide (r=0):=fun r=>by
  rw[Bool.eq_iff_iff,Bq];simp only[decide_eq_true_eq];constructor
  ·rintro⟨k,hk,n,h1,h2⟩;rcases(Ey k).1 n with e|e<;>subst e
   ·exact h2.symm.trans (show(B4 0)[1].d.toNat=0 from rfl)
   ·exact absurd (show Ad ⟨31,0,0,0,0,0,0⟩=true from h1) dE
  ·rintro rfl;exact⟨1,dE,(Ey 1).2 (.inl rfl),dE,dE⟩
 have hS:∀r,usS (B4 0) r=false:=fun r=>by
  cases h:usS (B4 0) r with
  |false=>rfl
  |true=>
   obtain⟨k,hk,n,h1,h2⟩:=Dp.1 h;rcases(Ey k).1 n with e|e<;>subst e
   ·exact absurd (show(29:Int)=32\/(29:Int)=33 from h1) dE
   ·exact absurd (show(31:Int)=32\/(31:Int)=33 from h1) dE
 refine⟨?_,?_,?_⟩
 ·show(AH (ndK (B4 0)) _ (B4 0) (B4 0).length).length=2;rw[Jk _ (Nat.le_refl _),show ndK (B4 0)=fun k=>decide (k=1\/k=4)from funext hK];decide
 ·show(AO (usR (B4 0)) _).length=1;rw[G1,show usR (B4 0)=fun r=>decide (r=0)from funext hR];show((List.range 3).filter fun r=>decide (r=0)).length=1;decide
 ·show(AO (usS (B4 0)) _).length=0;rw[G1,show usS (B4 0)=fun r=>false from funext hS];show((List.range 1).filter fun r=>false).length=0;decide
end Go.Proofs.Ytnbccaicijcklaa
