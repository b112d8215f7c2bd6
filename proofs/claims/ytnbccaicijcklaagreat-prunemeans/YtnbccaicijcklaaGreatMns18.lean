import Derived.Test.YtnbccaicijcklaaGreatMns1
import Derived.Test.YtnbccaicijcklaaGreatMns15
import Derived.Deep.DeepCutAuto
import Derived.Test.YtnbccaicijcklaaGreatMns16
import Derived.Test.YtnbccaicijcklaaGreatMns13
import Derived.Test.YtnbccaicijcklaaGreatMns17
import Derived.Test.YtnbccaicijcklaaGreatMns11
import Derived.Test.YtnbccaicijcklaaGreatMns12
import Derived.Test.YtnbccaicijcklaaGreatMns14
import Derived.Test.YtnbccaicijcklaaGreatMns10
namespace Go.Proofs.YtnbccaicijcklaaGreat
open Go.RowKit Go.Proofs.Tryz
set_option linter.all false
set_option maxRecDepth 100000
set_option maxHeartbeats 16000000
theorem Tg:(prog.info? 72).map (fun i=>(i.zero,i.size,i.bytes))=some (some (.slice none 0 0),1,24):=kR
theorem Ri(m:Nat)(h:m<=5000000000000)(w:World):(Instr.makeSlice 88 (.int .i64 m) (.int .i64 m)).run prog w=.ok (.slice (some ⟨w.heap.size,0,none⟩) m m) (w.alloc (.cells (madeCells #[.slice none 0 0] m) 72)):=
 run_make_row' (P:=prog) 88 72 (.slice none 0 0) 24 underlying88 Tg rfl .i64 .i64 m oM oM w
structure NS2(w:World)(R S C B GB TB:Nat)(v:World):Prop where
 bel:Below w.heap.size w v
 b:v.rowIs B 90 7 (En #[.pointer (some ⟨C,0,none⟩),.slice (some ⟨GB,0,none⟩) R R,.slice (some ⟨TB,0,none⟩) S S,.slice none 0 0,.slice none 0 0,.slice none 0 0,.slice none 0 0])
 g:v.rowIs GB 72 R (fun _=>.slice none 0 0)
 t:v.rowIs TB 72 S (fun _=>.slice none 0 0)
 hB:w.heap.size<=B
 hG:w.heap.size<=GB
 hT:w.heap.size<=TB
 n1:B≠GB
 n2:B≠TB
 n3:GB≠TB
theorem VP{w V:World}{R S C GB TB BB:Nat}(hb:Below w.heap.size w V)(hg:V.rowIs GB 72 R (fun _=>.slice none 0 0))(ht:V.rowIs TB 72 S (fun _=>.slice none 0 0))(hB:V.heap.size=BB)(h1:GB≠TB)(g1:w.heap.size<=GB)(g2:w.heap.size<=TB):
 NS2 w R S C BB GB TB (V.alloc (.cells #[.pointer (some ⟨C,0,none⟩),.slice (some ⟨GB,0,none⟩) R R,.slice (some ⟨TB,0,none⟩) S S,.slice none 0 0,.slice none 0 0,.slice none 0 0,.slice none 0 0] 90)).drew:=by
 subst hB;have l1:=hg.lt;have l2:=ht.lt;exact⟨bel (bel hb (A0 _ _)) (A9 _),World.rowIs.drew (BS V _ _),World.rowIs.drew (hg.alloc _),World.rowIs.drew (ht.alloc _),hb.size,g1,g2,oM,oM,h1⟩
structure Q6(w V:World)(R S C B GB TB:Nat)(cv:Value)(f:Nat->Value):Prop where
 b:V.rowIs B 90 7 f
 g:V.rowIs GB 72 R (fun _=>.slice none 0 0)
 t:V.rowIs TB 72 S (fun _=>.slice none 0 0)
 hc:V.cell? ⟨C,3,none⟩=some cv
 be:Below w.heap.size w V
 n:GB≠B/\TB≠B/\C≠B/\w.heap.size<=B
theorem Q6.st{w V:World}{R S C B GB TB:Nat}{cv:Value}{f:Nat->Value}(h:Q6 w V R S C B GB TB cv f)(i:Nat)(x:Value):∃U,V.setCell ⟨B,i,none⟩ x=U/\Q6 w U R S C B GB TB cv (fun j=>if j=i then x else f j)/\Hid (U.heap.size=V.heap.size)/\∀ {b t n g},V.rowIs b t n g->b≠B->U.rowIs b t n g:=
 ⟨_,rfl,⟨h.b.set i x,h.g.setOther (a:=⟨B,i,none⟩) h.n.1 x,h.t.setOther (a:=⟨B,i,none⟩) h.n.2.1 x,(gC (a:=⟨C,3,none⟩) (Below.heap_setCell V ⟨B,i,none⟩ x _ h.n.2.2.1)).trans h.hc,h.be.setCell h.n.2.2.2 x,h.n⟩,by show _=_;simp,fun{b t n g} q hb=>q.setOther (a:=⟨B,i,none⟩) hb x⟩
theorem Q6.al{w V:World}{R S C B GB TB:Nat}{cv:Value}{f:Nat->Value}(h:Q6 w V R S C B GB TB cv f)(z:Value)(M:Nat)(t:TypeId):∃U,V.alloc (.cells (madeCells #[z] M) t)=U/\Q6 w U R S C B GB TB cv f/\Hid (U.heap.size=V.heap.size+1)/\U.rowIs V.heap.size t M (fun _=>z)/\∀ {b t n g},V.rowIs b t n g->U.rowIs b t n g:=
 ⟨_,rfl,⟨h.b.alloc _,h.g.alloc _,h.t.alloc _,kc (A0 _ _) h.hc,h.be.trans ((A0 _ _).mono h.be.size),h.n⟩,by show _=_;simp,World.rowIs_made V z M t,fun{b t n g} q=>q.alloc _⟩
theorem Q6.al0{w V:World}{R S C B GB TB:Nat}{cv:Value}{f:Nat->Value}(h:Q6 w V R S C B GB TB cv f)(z:Value)(M:Nat)(t:TypeId):∃U,(V.alloc (.cells (madeCells #[z] M) t)).drew=U/\Q6 w U R S C B GB TB cv f/\Hid (U.heap.size=V.heap.size+1)/\U.rowIs V.heap.size t M (fun _=>z)/\∀ {b t n g},V.rowIs b t n g->U.rowIs b t n g:=
 ⟨_,rfl,⟨World.rowIs.drew (h.b.alloc _),World.rowIs.drew (h.g.alloc _),World.rowIs.drew (h.t.alloc _),kc (bel (A0 _ _) (A9 _)) h.hc,h.be.trans ((bel (A0 _ _) (A9 _)).mono h.be.size),h.n⟩,by show _=_;simp,World.rowIs.drew (World.rowIs_made V z M t),fun{b t n g} q=>World.rowIs.drew (q.alloc _)⟩
theorem Xd(w:World)(z:Value)(N:Nat)(t:TypeId)(o2:Obj):((w.alloc (.cells (madeCells #[z] N) t)).alloc o2).rowIs w.heap.size t N (fun _=>z):=(World.rowIs_made w z N t).alloc _
theorem Xe(w:World)(z:Value)(N:Nat)(t:TypeId)(o1:Obj):((w.alloc o1).alloc (.cells (madeCells #[z] N) t)).rowIs (w.heap.size+1) t N (fun _=>z):=by
 have h:=World.rowIs_made (w.alloc o1) z N t;rw[show(w.alloc o1).heap.size=w.heap.size+1 by simp]at h;exact h
def ps0:Gh:=⟨fun _=>[],fun _=>[],fun _=>0,fun _=>0,fun _=>false,[]⟩
def OP(B GB TB AB NB DB:Nat)(b:Nat):Nat:=if b=B then 1 else if b=GB then 2 else if b=TB then 3 else if b=AB then 4 else if b=NB then 5 else if b=DB then 6 else 0
theorem Wi{E R S L C B GB TB AB NB DB:Nat}{V:World}(hb:V.rowIs B 90 7 (En #[.pointer (some ⟨C,0,none⟩),.slice (some ⟨GB,0,none⟩) R R,.slice (some ⟨TB,0,none⟩) S S,.slice (some ⟨AB,0,none⟩) L L,.slice (some ⟨NB,0,none⟩) L L,.slice (some ⟨DB,0,none⟩) L L,.slice none 0 0]))(hg:V.rowIs GB 72 R (fun _=>.slice none 0 0))(ht:V.rowIs TB 72 S (fun _=>.slice none 0 0))(ha:V.rowIs AB 3 L (fun _=>.int .i64 0))(hn:V.rowIs NB 3 L (fun _=>.int .i64 0))(hd:V.rowIs DB 4 L (fun _=>.bool false))
 (e:E<=B/\E<=GB/\E<=TB/\E<=AB/\E<=NB/\E<=DB) (n:B≠GB/\B≠TB/\GB≠TB) (m:B<AB/\GB<AB/\TB<AB/\B<NB/\GB<NB/\TB<NB/\B<DB/\GB<DB/\TB<DB) (k:AB≠NB/\AB≠DB/\NB≠DB):
 BO E R S L ps0 V B C GB TB AB NB DB (fun _=>.slice none 0 0) (fun _=>.slice none 0 0) (.slice none 0 0) (OP B GB TB AB NB DB):=by
 obtain⟨e1,e2,e3,e4,e5,e6⟩:=e;obtain⟨n1,n2,n3⟩:=n;obtain⟨m1,m2,m3,m4,m5,m6,m7,m8,m9⟩:=m;obtain⟨k1,k2,k3⟩:=k;refine⟨hb,hg,ht,ha,hn,hd,fun _ _=>World.ownsRow_nil _ _ _ 1,fun _ _=>World.ownsRow_nil _ _ _ 1,World.ownsRow_nil _ _ _ 1,e1,e2,e3,e4,e5,e6,?_,?_,?_,?_,?_,?_,fun r _ q hq=>(by cases hq),fun r _ q hq=>(by cases hq),fun q hq=>(by cases hq)⟩
 .unfold OP;rw[if_pos rfl]
 .unfold OP;rw[if_neg (fun q=>n1 q.symm),if_pos rfl]
 .unfold OP;rw[if_neg (fun q=>n2 q.symm),if_neg (fun q=>n3 q.symm),if_pos rfl]
 .unfold OP;rw[if_neg oM,if_neg oM,if_neg oM,if_pos rfl]
 .unfold OP;rw[if_neg oM,if_neg oM,if_neg oM,if_neg (fun q=>k1 q.symm),if_pos rfl]
 .unfold OP;rw[if_neg oM,if_neg oM,if_neg oM,if_neg (fun q=>k2 q.symm),if_neg (fun q=>k3 q.symm),if_pos rfl]
structure Ml(l:List Ad)(j:Nat)(s:Gh):Prop where
 nd:s.nd=fun _=>false
 todo:s.todo=[]
 sl:∀r,s.sl r=XI l j r
 tl:∀r,s.tl r=XW l j r
 ar:∀p,p<j->s.ar p=IQ l p
 en:∀b e,e<j->CE l b e->s.en b=(e:Int)
theorem Ml.zero(l:List Ad):Ml l 0 ps0:=⟨rfl,rfl,fun _=>rfl,fun _=>rfl,fun p h=>by omega,fun b e h=>by omega⟩
theorem Ml.all{l:List Ad}{s:Gh}(h:Ml l l.length s):Er l s sr0:=by
 refine⟨h.nd,h.todo,fun r=>?_,fun r=>?_,h.ar,fun b e hm=>?_⟩
 .rw[h.sl r];rfl
 .rw[h.tl r];rfl
 .rw[Pu hm];exact h.en b e hm.1 hm
theorem sets_33{op d a b e n z:Int}(hsb:Af (⟨op,d,a,b,e,n,z⟩:Ad)=true)(hk:Al op=true)(hS:((A4 op).d != 0)=true):op<33:=by
 have h9:op<34:=OH hsb hk;by_cases e9:op=33
 .rw[e9]at hS;exact absurd hS dE
 .omega
theorem GQ{w:World}{B:Nat}{t t':TypeId}{k n n' b:Nat}{v:Value}{xs:List Value}{f:Nat->Value}(h:w.ownsRow B t k v n xs)(h':w.rowIs b t' n' f)(ht:t≠t'):v.ownBlock≠some b:=by
 exact Zdh
theorem M6{w:World}{B X n:Nat}{v:Value}{xs:List Value}{f:Nat->Value}(hx:w.rowIs X 40 7 f)(ho:w.ownsRow B 3 1 v n xs)(q:v.ownBlock=some X):False:=GQ ho hx dE q
section
variable {l : List Ad} {j : Nat} {s : Gh}
theorem Ml.oth(h:Ml l j s)(hj:j<l.length)(h1:Af l[j]=false)(h2:l[j].op≠33)(h3:¬ (l[j].op=35\/l[j].op=37)){a:Int}(ha:a=IQ l j):Ml l (j+1) {s with ar:=fun k=>if k=j then a else s.ar k}:=by
 refine⟨h.nd,h.todo,fun r=>?_,fun r=>?_,fun p hp=>?_,fun b e he hm=>?_⟩
 .exact Zeo
 .exact Zfh
 .exact Zdb
 .have:e≠j:=fun w=>by subst w;exact h3 hm.2.1
  exact h.en b e oM hm
theorem Ml.set_(h:Ml l j s)(hj:j<l.length)(h1:Af l[j]=true)(h2:l[j].op≠33)(h3:¬ (l[j].op=35\/l[j].op=37)){D:Nat}(hD:l[j].d.toNat=D){a:Int}(ha:a=IQ l j):Ml l (j+1) {s with sl:=fun k=>if k=D then s.sl D++[j]else s.sl k,ar:=fun k=>if k=j then a else s.ar k}:=by
 refine⟨h.nd,h.todo,fun r=>?_,fun r=>?_,fun p hp=>?_,fun b e he hm=>?_⟩
 .show(if r=D then s.sl D++[j]else s.sl r)=_;rw[Mc hj];by_cases e:r=D
  .rw[if_pos e,if_pos ⟨h1,by rw[e];exact hD⟩,h.sl D,e]
  .rw[if_neg e,if_neg (fun q=>e (by rw[<-q.2];exact hD)),List.append_nil];exact h.sl r
 .exact Zfh
 .exact Zdb
 .have:e≠j:=fun w=>by subst w;exact h3 hm.2.1
  exact h.en b e oM hm
theorem Ml.sto(h:Ml l j s)(hj:j<l.length)(h1:Af l[j]=false)(h2:l[j].op=33){D:Nat}(hD:l[j].n.toNat=D){a:Int}(ha:a=IQ l j):Ml l (j+1) {s with tl:=fun k=>if k=D then s.tl D++[j]else s.tl k,ar:=fun k=>if k=j then a else s.ar k}:=by
 refine⟨h.nd,h.todo,fun r=>?_,fun r=>?_,fun p hp=>?_,fun b e he hm=>?_⟩
 .exact Zeo
 .show(if r=D then s.tl D++[j]else s.tl r)=_;rw[Mi hj];by_cases e:r=D
  .rw[if_pos e,if_pos ⟨h2,by rw[e];exact hD⟩,h.tl D,e]
  .rw[if_neg e,if_neg (fun q=>e (by rw[<-q.2];exact hD)),List.append_nil];exact h.tl r
 .exact Zdb
 .have:e≠j:=fun w=>by subst w;have h9:=hm.2.1;omega
  exact h.en b e oM hm
theorem Ml.fin(h:Ml l j s)(hj:j<l.length)(h1:Af l[j]=false)(h2:l[j].op≠33){b:Nat}(hm:CE l b j){a:Int}(ha:a=IQ l j):Ml l (j+1) {s with en:=fun k=>if k=b then(j:Int)else s.en k,ar:=fun k=>if k=j then a else s.ar k}:=by
 refine⟨h.nd,h.todo,fun r=>?_,fun r=>?_,fun p hp=>?_,fun b' e he hm'=>?_⟩
 .exact Zeo
 .exact Zfh
 .exact Zdb
 .show(if b'=b then(j:Int)else s.en b')=_;by_cases q:b'=b
  .subst q;rw[if_pos rfl,Ij hm' hm]
  .rw[if_neg q];have:e≠j:=fun w=>by
    subst w;obtain⟨_,_,x1⟩:=hm;obtain⟨_,_,x2⟩:=hm';rw[x1]at x2;exact q (by simpa using x2.symm)
   exact h.en b' e oM hm'
theorem XJ(l:List Ad)(j r:Nat):(XI l j r).length<=j:=gH (List.length_filter_le _ _) sM
theorem XX(l:List Ad)(j r:Nat):(XW l j r).length<=j:=gH (List.length_filter_le _ _) sM
end
def NSv(E R S L:Nat)(l:List Ad)(C:Nat)(w w':World)(v:Value):Prop:=∃B GB TB AB NB DB vg vt vd tag s,v=.pointer (some ⟨B,0,none⟩)/\BO E R S L s w' B C GB TB AB NB DB vg vt vd tag/\Er l s sr0/\Below E w w'
theorem VJ(c:Cd)(hc:(Ai c).1=0)(w:World)(C:Nat)(p1 p2 p3:Option Addr)(q1 q2 q3:Nat)(hR:c.regs.length<=16384)(hS:c.slots.length<=4096)(hL:c.list.length<=32768)(hC1:w.cell? ⟨C,1,none⟩=some (.slice p1 c.regs.length q1))(hC2:w.cell? ⟨C,2,none⟩=some (.slice p2 c.slots.length q2))(hC3:w.cell? ⟨C,3,none⟩=some (.slice p3 c.list.length q3))(hl:AV 7 C9 w (.slice p3 c.list.length q3) c.list):
 Calls prog 28 #[.pointer (some ⟨C,0,none⟩)] w fun e w'=>∃v,e=.returned v/\NSv w.heap.size c.regs.length c.slots.length c.list.length c.list C w w' v:=by
 have HL:=A7 hl;have HCC:=A7 hc;have HD:Hid (∀i∈c.list,Af i=true->0<=i.d/\i.d<(c.regs.length:Int)):=fun i hi hs=>by
  obtain⟨hg,htk⟩:=Ez hc;obtain⟨L,R,e,t⟩:=Kx htk hi;exact GV t hs
 have HKN:Hid (∀i∈c.list,Al i.op=true):=NZ hc;obtain⟨R,hRe⟩:∃N,c.regs.length=N:=⟨_,rfl⟩
 obtain⟨S,hSe⟩:∃N,c.slots.length=N:=⟨_,rfl⟩
 obtain⟨M,hMe⟩:=gA (c.list.length)
 simp only[hRe]at hC1 hR HD |-;simp only[hSe]at hC2 hS |-;simp only[hMe]at hC3 hL HL |-;have HM:=A7 hMe;have HSE:=A7 hSe;have m1:=fun v=>Ri R oM v;have m2:=fun v=>Ri S oM v;have m3:=fun v=>PV M oM v;have m4:=fun v=>JT M oM v;have lC:C<w.heap.size:=A8 hC1;have n0:¬C=w.heap.size:=oM;have n1:¬C=w.heap.size+1:=oM;have n2:¬C=w.heap.size+1+1:=oM;have kC1:∀o1 o2,((w.alloc o1).alloc o2).cell? ⟨C,1,none⟩=some (.slice p1 R q1):=fun o1 o2=>kc (bel (A0 _ _) (A0 _ _)) hC1;have kC2:∀o1 o2,((w.alloc o1).alloc o2).cell? ⟨C,2,none⟩=some (.slice p2 S q2):=fun o1 o2=>kc (bel (A0 _ _) (A0 _ _)) hC2;have kC3:∀o1 o2 o3,(((w.alloc o1).alloc o2).alloc o3).cell? ⟨C,1,none⟩=some (.slice p1 R q1):=fun o1 o2 o3=>kc (bel (bel (A0 _ _) (A0 _ _)) (A0 _ _)) hC1;have kC4:∀o1 o2 o3,(((w.alloc o1).alloc o2).alloc o3).cell? ⟨C,2,none⟩=some (.slice p2 S q2):=fun o1 o2 o3=>kc (bel (bel (A0 _ _) (A0 _ _)) (A0 _ _)) hC2;clear hl hRe hSe hMe hc;go_enter func28,ntmps28;go_upto_region 2 with fail;go_cut [4] (fun bv wx=>∃B GB TB,bv=.pointer (some ⟨B,0,none⟩)/\NS2 w R S C B GB TB wx)
 case first=>
  refine rG (fun v=>v.cell? ⟨C,1,none⟩=some (.slice p1 R q1)/\v.cell? ⟨C,2,none⟩=some (.slice p2 S q2)) fun hJ=>?_;refine Tf 0 1 2 3 4 5 ?_;refine Tc 7 8 9 ?_;refine Tb 10 11 ?_;clear hJ;refine wpAnyH_ready (rs:=[6,12]) kR sM ?_;refine DP 6 (fun K hK=>?_) ?_
  .go_simp;refine Aq hK fun hJ=>?_;clear hK K;clear hJ;refine Aw 12 fun K hK=>?_;exact Zch
  refine DP 12 (fun K hK=>?_) AllReadyH.nil;go_simp;refine Aq hK fun hJ=>?_;clear hK K;clear hJ;refine Aw 6 fun K hK=>?_;exact Zch
 case rest=>
  obtain⟨B,GB,TB,rfl,hns⟩:=hcut;have HNS:=A7 hns;have d3:=kc hns.bel hC3;have lB:B<wc.heap.size:=hns.b.lt;have lG:GB<wc.heap.size:=hns.g.lt;have lT:TB<wc.heap.size:=hns.t.lt;have lC3:C<wc.heap.size:=A8 d3;have b0:wc.cell? ⟨B,3,none⟩=some (.slice none 0 0):=hns.b.cell (i:=3) dE;have b1:wc.cell? ⟨B,4,none⟩=some (.slice none 0 0):=hns.b.cell (i:=4) dE;have b2:wc.cell? ⟨B,5,none⟩=some (.slice none 0 0):=hns.b.cell (i:=5) dE;have fb:∀k,wc.frozen? ⟨B,k,none⟩=false:=hns.b.frozen;have y0:¬B=wc.heap.size:=oM;have y1:¬B=wc.heap.size+1:=oM;have y2:¬B=wc.heap.size+1+1:=oM;clear hns n0 n1 n2 kC1 kC2 kC3 kC4;go_upto_region 3 with fail;go_cut [4] (fun bv wx=>bv=.pointer (some ⟨B,0,none⟩)/\∃AB NB DB,BO w.heap.size R S M ps0 wx B C GB TB AB NB DB (fun _=>.slice none 0 0) (fun _=>.slice none 0 0) (.slice none 0 0) (OP B GB TB AB NB DB)/\Below w.heap.size w wx)
  case first=>as_aux_lemma=>
   have nCB:C≠B:=by have:=HNS.hB;omega
   have H0:Q6 w wc R S C B GB TB (.slice p3 M q3) _:=⟨HNS.b,HNS.g,HNS.t,d3,HNS.bel,⟨HNS.n1.symm,HNS.n2.symm,nCB,HNS.hB⟩⟩
   refine rG (fun v=>v.cell? ⟨C,3,none⟩=some (.slice p3 M q3)) fun hJ=>?_;refine Tf 0 1 2 3 5 7 ?_;clear hJ;refine wpAnyH_ready (rs:=[4,6,8]) kR sM ?_;refine DP 4 (fun K hK=>?_) ?_
   .go_simp;obtain⟨U1,hU,H1,hs1,rA1,K⟩:=H0.al0 (.int .i64 0) M 3;rw[hU];have hc1:=H1.hc;have lB1:=H1.b.lt;clear hU K;refine Aq hK fun hJ=>?_;clear hK K;refine Tb 9 10 ?_;clear hJ;refine wpAnyH_ready (rs:=[6,8,11]) kR sM ?_;refine DP 6 (fun K hK=>?_) ?_
    .go_simp;obtain⟨U2,hU,H2,hs2,rN2,K⟩:=H1.al (.int .i64 0) M 3;rw[hU];have rA2:=K rA1;have hc2:=H2.hc;have lB2:=H2.b.lt;clear hU K;refine Aq hK fun hJ=>?_;clear hK K;clear hJ;refine wpAnyH_ready (rs:=[8,11]) kR sM ?_;refine DP 8 (fun K hK=>?_) ?_
     .go_simp;obtain⟨U3,hU,H3,hs3,rD3,K⟩:=H2.al (.bool false) M 4;rw[hU];have rA3:=K rA2;have rN3:=K rN2;have hc3:=H3.hc;have lB3:=H3.b.lt;clear hU K;refine Aq hK fun hJ=>?_;clear hK K;clear hJ;refine Aw 11 fun K hK=>?_;have q1:=H3.b.cell (i:=3) dE;have q2:=H3.b.frozen 3;go_simp;clear q1 q2;obtain⟨U4,hU,H4,hs4,K⟩:=H3.st 3 (.slice (some ⟨wc.heap.size,0,none⟩) M M);rw[hU];have rA4:=K rA3 oM;have rN4:=K rN3 oM;have rD4:=K rD3 oM;have hc4:=H4.hc;have lB4:=H4.b.lt;clear hU K;refine Aq hK fun hJ=>?_;clear hK K;refine Tb 12 13 ?_;clear hJ;refine Aw 14 fun K hK=>?_;have q1:=H4.b.cell (i:=4) dE;have q2:=H4.b.frozen 4;go_simp;clear q1 q2;obtain⟨U5,hU,H5,hs5,K⟩:=H4.st 4 (.slice (some ⟨U1.heap.size,0,none⟩) M M);rw[hU];have rA5:=K rA4 oM;have rN5:=K rN4 oM;have rD5:=K rD4 oM;have hc5:=H5.hc;have lB5:=H5.b.lt;clear hU K;refine Aq hK fun hJ=>?_;clear hK K;refine Tb 15 16 ?_;clear hJ;refine Aw 17 fun K hK=>?_;have q1:=H5.b.cell (i:=5) dE;have q2:=H5.b.frozen 5;go_simp;clear q1 q2;obtain⟨U6,hU,H6,hs6,K⟩:=H5.st 5 (.slice (some ⟨U2.heap.size,0,none⟩) M M);rw[hU];have rA6:=K rA5 oM;have rN6:=K rN5 oM;have rD6:=K rD5 oM;exact Pc
     refine DP 11 (fun K hK=>?_) AllReadyH.nil;have q1:=H2.b.cell (i:=3) dE;have q2:=H2.b.frozen 3;go_simp;clear q1 q2;obtain⟨U3,hU,H3,hs3,K⟩:=H2.st 3 (.slice (some ⟨wc.heap.size,0,none⟩) M M);rw[hU];have rA3:=K rA2 oM;have rN3:=K rN2 oM;have hc3:=H3.hc;have lB3:=H3.b.lt;clear hU K;refine Aq hK fun hJ=>?_;clear hK K;refine Tb 12 13 ?_;clear hJ;refine wpAnyH_ready (rs:=[8,14]) kR sM ?_;refine DP 8 (fun K hK=>?_) ?_
     .go_simp;obtain⟨U4,hU,H4,hs4,rD4,K⟩:=H3.al (.bool false) M 4;rw[hU];have rA4:=K rA3;have rN4:=K rN3;have hc4:=H4.hc;have lB4:=H4.b.lt;clear hU K;refine Aq hK fun hJ=>?_;clear hK K;clear hJ;refine Aw 14 fun K hK=>?_;have q1:=H4.b.cell (i:=4) dE;have q2:=H4.b.frozen 4;go_simp;clear q1 q2;obtain⟨U5,hU,H5,hs5,K⟩:=H4.st 4 (.slice (some ⟨U1.heap.size,0,none⟩) M M);rw[hU];have rA5:=K rA4 oM;have rN5:=K rN4 oM;have rD5:=K rD4 oM;have hc5:=H5.hc;have lB5:=H5.b.lt;clear hU K;refine Aq hK fun hJ=>?_;clear hK K;refine Tb 15 16 ?_;clear hJ;refine Aw 17 fun K hK=>?_;have q1:=H5.b.cell (i:=5) dE;have q2:=H5.b.frozen 5;go_simp;clear q1 q2;obtain⟨U6,hU,H6,hs6,K⟩:=H5.st 5 (.slice (some ⟨U3.heap.size,0,none⟩) M M);rw[hU];have rA6:=K rA5 oM;have rN6:=K rN5 oM;have rD6:=K rD5 oM;exact Pc
     refine DP 14 (fun K hK=>?_) AllReadyH.nil;have q1:=H3.b.cell (i:=4) dE;have q2:=H3.b.frozen 4;go_simp;clear q1 q2;obtain⟨U4,hU,H4,hs4,K⟩:=H3.st 4 (.slice (some ⟨U1.heap.size,0,none⟩) M M);rw[hU];have rA4:=K rA3 oM;have rN4:=K rN3 oM;have hc4:=H4.hc;have lB4:=H4.b.lt;clear hU K;refine Aq hK fun hJ=>?_;clear hK K;clear hJ;refine Aw 8 fun K hK=>?_;go_simp;obtain⟨U5,hU,H5,hs5,rD5,K⟩:=H4.al (.bool false) M 4;rw[hU];have rA5:=K rA4;have rN5:=K rN4;have hc5:=H5.hc;have lB5:=H5.b.lt;clear hU K;refine Aq hK fun hJ=>?_;clear hK K;refine Tb 15 16 ?_;clear hJ;refine Aw 17 fun K hK=>?_;have q1:=H5.b.cell (i:=5) dE;have q2:=H5.b.frozen 5;go_simp;clear q1 q2;obtain⟨U6,hU,H6,hs6,K⟩:=H5.st 5 (.slice (some ⟨U4.heap.size,0,none⟩) M M);rw[hU];have rA6:=K rA5 oM;have rN6:=K rN5 oM;have rD6:=K rD5 oM;exact Pc
    refine DP 8 (fun K hK=>?_) ?_
    .go_simp;obtain⟨U2,hU,H2,hs2,rD2,K⟩:=H1.al (.bool false) M 4;rw[hU];have rA2:=K rA1;have hc2:=H2.hc;have lB2:=H2.b.lt;clear hU K;refine Aq hK fun hJ=>?_;clear hK K;clear hJ;refine wpAnyH_ready (rs:=[6,11]) kR sM ?_;refine DP 6 (fun K hK=>?_) ?_
     .go_simp;obtain⟨U3,hU,H3,hs3,rN3,K⟩:=H2.al (.int .i64 0) M 3;rw[hU];have rA3:=K rA2;have rD3:=K rD2;have hc3:=H3.hc;have lB3:=H3.b.lt;clear hU K;refine Aq hK fun hJ=>?_;clear hK K;clear hJ;refine Aw 11 fun K hK=>?_;have q1:=H3.b.cell (i:=3) dE;have q2:=H3.b.frozen 3;go_simp;clear q1 q2;obtain⟨U4,hU,H4,hs4,K⟩:=H3.st 3 (.slice (some ⟨wc.heap.size,0,none⟩) M M);rw[hU];have rA4:=K rA3 oM;have rD4:=K rD3 oM;have rN4:=K rN3 oM;have hc4:=H4.hc;have lB4:=H4.b.lt;clear hU K;refine Aq hK fun hJ=>?_;clear hK K;refine Tb 12 13 ?_;clear hJ;refine Aw 14 fun K hK=>?_;have q1:=H4.b.cell (i:=4) dE;have q2:=H4.b.frozen 4;go_simp;clear q1 q2;obtain⟨U5,hU,H5,hs5,K⟩:=H4.st 4 (.slice (some ⟨U2.heap.size,0,none⟩) M M);rw[hU];have rA5:=K rA4 oM;have rD5:=K rD4 oM;have rN5:=K rN4 oM;have hc5:=H5.hc;have lB5:=H5.b.lt;clear hU K;refine Aq hK fun hJ=>?_;clear hK K;refine Tb 15 16 ?_;clear hJ;refine Aw 17 fun K hK=>?_;have q1:=H5.b.cell (i:=5) dE;have q2:=H5.b.frozen 5;go_simp;clear q1 q2;obtain⟨U6,hU,H6,hs6,K⟩:=H5.st 5 (.slice (some ⟨U1.heap.size,0,none⟩) M M);rw[hU];have rA6:=K rA5 oM;have rD6:=K rD5 oM;have rN6:=K rN5 oM;exact Pc
     refine DP 11 (fun K hK=>?_) AllReadyH.nil;have q1:=H2.b.cell (i:=3) dE;have q2:=H2.b.frozen 3;go_simp;clear q1 q2;obtain⟨U3,hU,H3,hs3,K⟩:=H2.st 3 (.slice (some ⟨wc.heap.size,0,none⟩) M M);rw[hU];have rA3:=K rA2 oM;have rD3:=K rD2 oM;have hc3:=H3.hc;have lB3:=H3.b.lt;clear hU K;refine Aq hK fun hJ=>?_;clear hK K;clear hJ;refine Aw 6 fun K hK=>?_;go_simp;obtain⟨U4,hU,H4,hs4,rN4,K⟩:=H3.al (.int .i64 0) M 3;rw[hU];have rA4:=K rA3;have rD4:=K rD3;have hc4:=H4.hc;have lB4:=H4.b.lt;clear hU K;refine Aq hK fun hJ=>?_;clear hK K;refine Tb 12 13 ?_;clear hJ;refine Aw 14 fun K hK=>?_;have q1:=H4.b.cell (i:=4) dE;have q2:=H4.b.frozen 4;go_simp;clear q1 q2;obtain⟨U5,hU,H5,hs5,K⟩:=H4.st 4 (.slice (some ⟨U3.heap.size,0,none⟩) M M);rw[hU];have rA5:=K rA4 oM;have rD5:=K rD4 oM;have rN5:=K rN4 oM;have hc5:=H5.hc;have lB5:=H5.b.lt;clear hU K;refine Aq hK fun hJ=>?_;clear hK K;refine Tb 15 16 ?_;clear hJ;refine Aw 17 fun K hK=>?_;have q1:=H5.b.cell (i:=5) dE;have q2:=H5.b.frozen 5;go_simp;clear q1 q2;obtain⟨U6,hU,H6,hs6,K⟩:=H5.st 5 (.slice (some ⟨U1.heap.size,0,none⟩) M M);rw[hU];have rA6:=K rA5 oM;have rD6:=K rD5 oM;have rN6:=K rN5 oM;exact Pc
    refine DP 11 (fun K hK=>?_) AllReadyH.nil;have q1:=H1.b.cell (i:=3) dE;have q2:=H1.b.frozen 3;go_simp;clear q1 q2;obtain⟨U2,hU,H2,hs2,K⟩:=H1.st 3 (.slice (some ⟨wc.heap.size,0,none⟩) M M);rw[hU];have rA2:=K rA1 oM;have hc2:=H2.hc;have lB2:=H2.b.lt;clear hU K;refine Aq hK fun hJ=>?_;clear hK K;clear hJ;refine wpAnyH_ready (rs:=[6,8]) kR sM ?_;refine DP 6 (fun K hK=>?_) ?_
    .go_simp;obtain⟨U3,hU,H3,hs3,rN3,K⟩:=H2.al (.int .i64 0) M 3;rw[hU];have rA3:=K rA2;have hc3:=H3.hc;have lB3:=H3.b.lt;clear hU K;refine Aq hK fun hJ=>?_;clear hK K;refine Tb 12 13 ?_;clear hJ;refine wpAnyH_ready (rs:=[8,14]) kR sM ?_;refine DP 8 (fun K hK=>?_) ?_
     .go_simp;obtain⟨U4,hU,H4,hs4,rD4,K⟩:=H3.al (.bool false) M 4;rw[hU];have rA4:=K rA3;have rN4:=K rN3;have hc4:=H4.hc;have lB4:=H4.b.lt;clear hU K;refine Aq hK fun hJ=>?_;clear hK K;clear hJ;refine Aw 14 fun K hK=>?_;have q1:=H4.b.cell (i:=4) dE;have q2:=H4.b.frozen 4;go_simp;clear q1 q2;obtain⟨U5,hU,H5,hs5,K⟩:=H4.st 4 (.slice (some ⟨U2.heap.size,0,none⟩) M M);rw[hU];have rA5:=K rA4 oM;have rN5:=K rN4 oM;have rD5:=K rD4 oM;have hc5:=H5.hc;have lB5:=H5.b.lt;clear hU K;refine Aq hK fun hJ=>?_;clear hK K;refine Tb 15 16 ?_;clear hJ;refine Aw 17 fun K hK=>?_;have q1:=H5.b.cell (i:=5) dE;have q2:=H5.b.frozen 5;go_simp;clear q1 q2;obtain⟨U6,hU,H6,hs6,K⟩:=H5.st 5 (.slice (some ⟨U3.heap.size,0,none⟩) M M);rw[hU];have rA6:=K rA5 oM;have rN6:=K rN5 oM;have rD6:=K rD5 oM;exact Pc
     refine DP 14 (fun K hK=>?_) AllReadyH.nil;have q1:=H3.b.cell (i:=4) dE;have q2:=H3.b.frozen 4;go_simp;clear q1 q2;obtain⟨U4,hU,H4,hs4,K⟩:=H3.st 4 (.slice (some ⟨U2.heap.size,0,none⟩) M M);rw[hU];have rA4:=K rA3 oM;have rN4:=K rN3 oM;have hc4:=H4.hc;have lB4:=H4.b.lt;clear hU K;refine Aq hK fun hJ=>?_;clear hK K;clear hJ;refine Aw 8 fun K hK=>?_;go_simp;obtain⟨U5,hU,H5,hs5,rD5,K⟩:=H4.al (.bool false) M 4;rw[hU];have rA5:=K rA4;have rN5:=K rN4;have hc5:=H5.hc;have lB5:=H5.b.lt;clear hU K;refine Aq hK fun hJ=>?_;clear hK K;refine Tb 15 16 ?_;clear hJ;refine Aw 17 fun K hK=>?_;have q1:=H5.b.cell (i:=5) dE;have q2:=H5.b.frozen 5;go_simp;clear q1 q2;obtain⟨U6,hU,H6,hs6,K⟩:=H5.st 5 (.slice (some ⟨U4.heap.size,0,none⟩) M M);rw[hU];have rA6:=K rA5 oM;have rN6:=K rN5 oM;have rD6:=K rD5 oM;exact Pc
    refine DP 8 (fun K hK=>?_) AllReadyH.nil;go_simp;obtain⟨U3,hU,H3,hs3,rD3,K⟩:=H2.al (.bool false) M 4;rw[hU];have rA3:=K rA2;have hc3:=H3.hc;have lB3:=H3.b.lt;clear hU K;refine Aq hK fun hJ=>?_;clear hK K;clear hJ;refine Aw 6 fun K hK=>?_;go_simp;obtain⟨U4,hU,H4,hs4,rN4,K⟩:=H3.al (.int .i64 0) M 3;rw[hU];have rA4:=K rA3;have rD4:=K rD3;have hc4:=H4.hc;have lB4:=H4.b.lt;clear hU K;refine Aq hK fun hJ=>?_;clear hK K;refine Tb 12 13 ?_;clear hJ;refine Aw 14 fun K hK=>?_;have q1:=H4.b.cell (i:=4) dE;have q2:=H4.b.frozen 4;go_simp;clear q1 q2;obtain⟨U5,hU,H5,hs5,K⟩:=H4.st 4 (.slice (some ⟨U3.heap.size,0,none⟩) M M);rw[hU];have rA5:=K rA4 oM;have rD5:=K rD4 oM;have rN5:=K rN4 oM;have hc5:=H5.hc;have lB5:=H5.b.lt;clear hU K;refine Aq hK fun hJ=>?_;clear hK K;refine Tb 15 16 ?_;clear hJ;refine Aw 17 fun K hK=>?_;have q1:=H5.b.cell (i:=5) dE;have q2:=H5.b.frozen 5;go_simp;clear q1 q2;obtain⟨U6,hU,H6,hs6,K⟩:=H5.st 5 (.slice (some ⟨U2.heap.size,0,none⟩) M M);rw[hU];have rA6:=K rA5 oM;have rD6:=K rD5 oM;have rN6:=K rN5 oM;exact Pc
   refine DP 6 (fun K hK=>?_) ?_
   .go_simp;obtain⟨U1,hU,H1,hs1,rN1,K⟩:=H0.al0 (.int .i64 0) M 3;rw[hU];have hc1:=H1.hc;have lB1:=H1.b.lt;clear hU K;refine Aq hK fun hJ=>?_;clear hK K;clear hJ;refine wpAnyH_ready (rs:=[4,8]) kR sM ?_;refine DP 4 (fun K hK=>?_) ?_
    .go_simp;obtain⟨U2,hU,H2,hs2,rA2,K⟩:=H1.al (.int .i64 0) M 3;rw[hU];have rN2:=K rN1;have hc2:=H2.hc;have lB2:=H2.b.lt;clear hU K;refine Aq hK fun hJ=>?_;clear hK K;refine Tb 9 10 ?_;clear hJ;refine wpAnyH_ready (rs:=[8,11]) kR sM ?_;refine DP 8 (fun K hK=>?_) ?_
     .go_simp;obtain⟨U3,hU,H3,hs3,rD3,K⟩:=H2.al (.bool false) M 4;rw[hU];have rN3:=K rN2;have rA3:=K rA2;have hc3:=H3.hc;have lB3:=H3.b.lt;clear hU K;refine Aq hK fun hJ=>?_;clear hK K;clear hJ;refine Aw 11 fun K hK=>?_;have q1:=H3.b.cell (i:=3) dE;have q2:=H3.b.frozen 3;go_simp;clear q1 q2;obtain⟨U4,hU,H4,hs4,K⟩:=H3.st 3 (.slice (some ⟨U1.heap.size,0,none⟩) M M);rw[hU];have rN4:=K rN3 oM;have rA4:=K rA3 oM;have rD4:=K rD3 oM;have hc4:=H4.hc;have lB4:=H4.b.lt;clear hU K;refine Aq hK fun hJ=>?_;clear hK K;refine Tb 12 13 ?_;clear hJ;refine Aw 14 fun K hK=>?_;have q1:=H4.b.cell (i:=4) dE;have q2:=H4.b.frozen 4;go_simp;clear q1 q2;obtain⟨U5,hU,H5,hs5,K⟩:=H4.st 4 (.slice (some ⟨wc.heap.size,0,none⟩) M M);rw[hU];have rN5:=K rN4 oM;have rA5:=K rA4 oM;have rD5:=K rD4 oM;have hc5:=H5.hc;have lB5:=H5.b.lt;clear hU K;refine Aq hK fun hJ=>?_;clear hK K;refine Tb 15 16 ?_;clear hJ;refine Aw 17 fun K hK=>?_;have q1:=H5.b.cell (i:=5) dE;have q2:=H5.b.frozen 5;go_simp;clear q1 q2;obtain⟨U6,hU,H6,hs6,K⟩:=H5.st 5 (.slice (some ⟨U2.heap.size,0,none⟩) M M);rw[hU];have rN6:=K rN5 oM;have rA6:=K rA5 oM;have rD6:=K rD5 oM;exact Pc
     refine DP 11 (fun K hK=>?_) AllReadyH.nil;have q1:=H2.b.cell (i:=3) dE;have q2:=H2.b.frozen 3;go_simp;clear q1 q2;obtain⟨U3,hU,H3,hs3,K⟩:=H2.st 3 (.slice (some ⟨U1.heap.size,0,none⟩) M M);rw[hU];have rN3:=K rN2 oM;have rA3:=K rA2 oM;have hc3:=H3.hc;have lB3:=H3.b.lt;clear hU K;refine Aq hK fun hJ=>?_;clear hK K;refine Tb 12 13 ?_;clear hJ;refine wpAnyH_ready (rs:=[8,14]) kR sM ?_;refine DP 8 (fun K hK=>?_) ?_
     .go_simp;obtain⟨U4,hU,H4,hs4,rD4,K⟩:=H3.al (.bool false) M 4;rw[hU];have rN4:=K rN3;have rA4:=K rA3;have hc4:=H4.hc;have lB4:=H4.b.lt;clear hU K;refine Aq hK fun hJ=>?_;clear hK K;clear hJ;refine Aw 14 fun K hK=>?_;have q1:=H4.b.cell (i:=4) dE;have q2:=H4.b.frozen 4;go_simp;clear q1 q2;obtain⟨U5,hU,H5,hs5,K⟩:=H4.st 4 (.slice (some ⟨wc.heap.size,0,none⟩) M M);rw[hU];have rN5:=K rN4 oM;have rA5:=K rA4 oM;have rD5:=K rD4 oM;have hc5:=H5.hc;have lB5:=H5.b.lt;clear hU K;refine Aq hK fun hJ=>?_;clear hK K;refine Tb 15 16 ?_;clear hJ;refine Aw 17 fun K hK=>?_;have q1:=H5.b.cell (i:=5) dE;have q2:=H5.b.frozen 5;go_simp;clear q1 q2;obtain⟨U6,hU,H6,hs6,K⟩:=H5.st 5 (.slice (some ⟨U3.heap.size,0,none⟩) M M);rw[hU];have rN6:=K rN5 oM;have rA6:=K rA5 oM;have rD6:=K rD5 oM;exact Pc
     refine DP 14 (fun K hK=>?_) AllReadyH.nil;have q1:=H3.b.cell (i:=4) dE;have q2:=H3.b.frozen 4;go_simp;clear q1 q2;obtain⟨U4,hU,H4,hs4,K⟩:=H3.st 4 (.slice (some ⟨wc.heap.size,0,none⟩) M M);rw[hU];have rN4:=K rN3 oM;have rA4:=K rA3 oM;have hc4:=H4.hc;have lB4:=H4.b.lt;clear hU K;refine Aq hK fun hJ=>?_;clear hK K;clear hJ;refine Aw 8 fun K hK=>?_;go_simp;obtain⟨U5,hU,H5,hs5,rD5,K⟩:=H4.al (.bool false) M 4;rw[hU];have rN5:=K rN4;have rA5:=K rA4;have hc5:=H5.hc;have lB5:=H5.b.lt;clear hU K;refine Aq hK fun hJ=>?_;clear hK K;refine Tb 15 16 ?_;clear hJ;refine Aw 17 fun K hK=>?_;have q1:=H5.b.cell (i:=5) dE;have q2:=H5.b.frozen 5;go_simp;clear q1 q2;obtain⟨U6,hU,H6,hs6,K⟩:=H5.st 5 (.slice (some ⟨U4.heap.size,0,none⟩) M M);rw[hU];have rN6:=K rN5 oM;have rA6:=K rA5 oM;have rD6:=K rD5 oM;exact Pc
    refine DP 8 (fun K hK=>?_) AllReadyH.nil;go_simp;obtain⟨U2,hU,H2,hs2,rD2,K⟩:=H1.al (.bool false) M 4;rw[hU];have rN2:=K rN1;have hc2:=H2.hc;have lB2:=H2.b.lt;clear hU K;refine Aq hK fun hJ=>?_;clear hK K;clear hJ;refine Aw 4 fun K hK=>?_;go_simp;obtain⟨U3,hU,H3,hs3,rA3,K⟩:=H2.al (.int .i64 0) M 3;rw[hU];have rN3:=K rN2;have rD3:=K rD2;have hc3:=H3.hc;have lB3:=H3.b.lt;clear hU K;refine Aq hK fun hJ=>?_;clear hK K;refine Tb 9 10 ?_;clear hJ;refine Aw 11 fun K hK=>?_;have q1:=H3.b.cell (i:=3) dE;have q2:=H3.b.frozen 3;go_simp;clear q1 q2;obtain⟨U4,hU,H4,hs4,K⟩:=H3.st 3 (.slice (some ⟨U2.heap.size,0,none⟩) M M);rw[hU];have rN4:=K rN3 oM;have rD4:=K rD3 oM;have rA4:=K rA3 oM;have hc4:=H4.hc;have lB4:=H4.b.lt;clear hU K;refine Aq hK fun hJ=>?_;clear hK K;refine Tb 12 13 ?_;clear hJ;refine Aw 14 fun K hK=>?_;have q1:=H4.b.cell (i:=4) dE;have q2:=H4.b.frozen 4;go_simp;clear q1 q2;obtain⟨U5,hU,H5,hs5,K⟩:=H4.st 4 (.slice (some ⟨wc.heap.size,0,none⟩) M M);rw[hU];have rN5:=K rN4 oM;have rD5:=K rD4 oM;have rA5:=K rA4 oM;have hc5:=H5.hc;have lB5:=H5.b.lt;clear hU K;refine Aq hK fun hJ=>?_;clear hK K;refine Tb 15 16 ?_;clear hJ;refine Aw 17 fun K hK=>?_;have q1:=H5.b.cell (i:=5) dE;have q2:=H5.b.frozen 5;go_simp;clear q1 q2;obtain⟨U6,hU,H6,hs6,K⟩:=H5.st 5 (.slice (some ⟨U1.heap.size,0,none⟩) M M);rw[hU];have rN6:=K rN5 oM;have rD6:=K rD5 oM;have rA6:=K rA5 oM;exact Pc
   refine DP 8 (fun K hK=>?_) AllReadyH.nil;go_simp;obtain⟨U1,hU,H1,hs1,rD1,K⟩:=H0.al0 (.bool false) M 4;rw[hU];have hc1:=H1.hc;have lB1:=H1.b.lt;clear hU K;refine Aq hK fun hJ=>?_;clear hK K;clear hJ;refine wpAnyH_ready (rs:=[4,6]) kR sM ?_;refine DP 4 (fun K hK=>?_) ?_
   .go_simp;obtain⟨U2,hU,H2,hs2,rA2,K⟩:=H1.al (.int .i64 0) M 3;rw[hU];have rD2:=K rD1;have hc2:=H2.hc;have lB2:=H2.b.lt;clear hU K;refine Aq hK fun hJ=>?_;clear hK K;refine Tb 9 10 ?_;clear hJ;refine wpAnyH_ready (rs:=[6,11]) kR sM ?_;refine DP 6 (fun K hK=>?_) ?_
    .go_simp;obtain⟨U3,hU,H3,hs3,rN3,K⟩:=H2.al (.int .i64 0) M 3;rw[hU];have rD3:=K rD2;have rA3:=K rA2;have hc3:=H3.hc;have lB3:=H3.b.lt;clear hU K;refine Aq hK fun hJ=>?_;clear hK K;clear hJ;refine Aw 11 fun K hK=>?_;have q1:=H3.b.cell (i:=3) dE;have q2:=H3.b.frozen 3;go_simp;clear q1 q2;obtain⟨U4,hU,H4,hs4,K⟩:=H3.st 3 (.slice (some ⟨U1.heap.size,0,none⟩) M M);rw[hU];have rD4:=K rD3 oM;have rA4:=K rA3 oM;have rN4:=K rN3 oM;have hc4:=H4.hc;have lB4:=H4.b.lt;clear hU K;refine Aq hK fun hJ=>?_;clear hK K;refine Tb 12 13 ?_;clear hJ;refine Aw 14 fun K hK=>?_;have q1:=H4.b.cell (i:=4) dE;have q2:=H4.b.frozen 4;go_simp;clear q1 q2;obtain⟨U5,hU,H5,hs5,K⟩:=H4.st 4 (.slice (some ⟨U2.heap.size,0,none⟩) M M);rw[hU];have rD5:=K rD4 oM;have rA5:=K rA4 oM;have rN5:=K rN4 oM;have hc5:=H5.hc;have lB5:=H5.b.lt;clear hU K;refine Aq hK fun hJ=>?_;clear hK K;refine Tb 15 16 ?_;clear hJ;refine Aw 17 fun K hK=>?_;have q1:=H5.b.cell (i:=5) dE;have q2:=H5.b.frozen 5;go_simp;clear q1 q2;obtain⟨U6,hU,H6,hs6,K⟩:=H5.st 5 (.slice (some ⟨wc.heap.size,0,none⟩) M M);rw[hU];have rD6:=K rD5 oM;have rA6:=K rA5 oM;have rN6:=K rN5 oM;exact Pc
    refine DP 11 (fun K hK=>?_) AllReadyH.nil;have q1:=H2.b.cell (i:=3) dE;have q2:=H2.b.frozen 3;go_simp;clear q1 q2;obtain⟨U3,hU,H3,hs3,K⟩:=H2.st 3 (.slice (some ⟨U1.heap.size,0,none⟩) M M);rw[hU];have rD3:=K rD2 oM;have rA3:=K rA2 oM;have hc3:=H3.hc;have lB3:=H3.b.lt;clear hU K;refine Aq hK fun hJ=>?_;clear hK K;clear hJ;refine Aw 6 fun K hK=>?_;go_simp;obtain⟨U4,hU,H4,hs4,rN4,K⟩:=H3.al (.int .i64 0) M 3;rw[hU];have rD4:=K rD3;have rA4:=K rA3;have hc4:=H4.hc;have lB4:=H4.b.lt;clear hU K;refine Aq hK fun hJ=>?_;clear hK K;refine Tb 12 13 ?_;clear hJ;refine Aw 14 fun K hK=>?_;have q1:=H4.b.cell (i:=4) dE;have q2:=H4.b.frozen 4;go_simp;clear q1 q2;obtain⟨U5,hU,H5,hs5,K⟩:=H4.st 4 (.slice (some ⟨U3.heap.size,0,none⟩) M M);rw[hU];have rD5:=K rD4 oM;have rA5:=K rA4 oM;have rN5:=K rN4 oM;have hc5:=H5.hc;have lB5:=H5.b.lt;clear hU K;refine Aq hK fun hJ=>?_;clear hK K;refine Tb 15 16 ?_;clear hJ;refine Aw 17 fun K hK=>?_;have q1:=H5.b.cell (i:=5) dE;have q2:=H5.b.frozen 5;go_simp;clear q1 q2;obtain⟨U6,hU,H6,hs6,K⟩:=H5.st 5 (.slice (some ⟨wc.heap.size,0,none⟩) M M);rw[hU];have rD6:=K rD5 oM;have rA6:=K rA5 oM;have rN6:=K rN5 oM;exact Pc
   refine DP 6 (fun K hK=>?_) AllReadyH.nil;go_simp;obtain⟨U2,hU,H2,hs2,rN2,K⟩:=H1.al (.int .i64 0) M 3;rw[hU];have rD2:=K rD1;have hc2:=H2.hc;have lB2:=H2.b.lt;clear hU K;refine Aq hK fun hJ=>?_;clear hK K;clear hJ;refine Aw 4 fun K hK=>?_;go_simp;obtain⟨U3,hU,H3,hs3,rA3,K⟩:=H2.al (.int .i64 0) M 3;rw[hU];have rD3:=K rD2;have rN3:=K rN2;have hc3:=H3.hc;have lB3:=H3.b.lt;clear hU K;refine Aq hK fun hJ=>?_;clear hK K;refine Tb 9 10 ?_;clear hJ;refine Aw 11 fun K hK=>?_;have q1:=H3.b.cell (i:=3) dE;have q2:=H3.b.frozen 3;go_simp;clear q1 q2;obtain⟨U4,hU,H4,hs4,K⟩:=H3.st 3 (.slice (some ⟨U2.heap.size,0,none⟩) M M);rw[hU];have rD4:=K rD3 oM;have rN4:=K rN3 oM;have rA4:=K rA3 oM;have hc4:=H4.hc;have lB4:=H4.b.lt;clear hU K;refine Aq hK fun hJ=>?_;clear hK K;refine Tb 12 13 ?_;clear hJ;refine Aw 14 fun K hK=>?_;have q1:=H4.b.cell (i:=4) dE;have q2:=H4.b.frozen 4;go_simp;clear q1 q2;obtain⟨U5,hU,H5,hs5,K⟩:=H4.st 4 (.slice (some ⟨U1.heap.size,0,none⟩) M M);rw[hU];have rD5:=K rD4 oM;have rN5:=K rN4 oM;have rA5:=K rA4 oM;have hc5:=H5.hc;have lB5:=H5.b.lt;clear hU K;refine Aq hK fun hJ=>?_;clear hK K;refine Tb 15 16 ?_;clear hJ;refine Aw 17 fun K hK=>?_;have q1:=H5.b.cell (i:=5) dE;have q2:=H5.b.frozen 5;go_simp;clear q1 q2;obtain⟨U6,hU,H6,hs6,K⟩:=H5.st 5 (.slice (some ⟨wc.heap.size,0,none⟩) M M);rw[hU];have rD6:=K rD5 oM;have rN6:=K rN5 oM;have rA6:=K rA5 oM;exact Pc
  case rest=>
   obtain⟨rfl,AB,NB,DB,hk0,hb0⟩:=hcut;have HK0:Hid (Below w.heap.size w wc/\∃s vg vt tag,BO w.heap.size R S M s wc B C GB TB AB NB DB vg vt (.slice none 0 0) tag/\Ml c.list 0 s):=⟨hb0,_,_,_,_,hk0,Ml.zero _⟩
   have e3:=kc hb0 hC3;clear hk0 hb0 lB lG lT lC3 b0 b1 b2 fb y0 y1 y2 HNS d3;go_wp2;clear e3
   go_loopw [48,5] (fun iv bv wr=>∃j:Nat,j<=M/\iv=.int .i64 (j:Int)/\bv=.int .i64 (FF (AE (c.list.take j)))/\Hid (Below w.heap.size w wr/\∃s vg vt tag,BO w.heap.size R S M s wr B C GB TB AB NB DB vg vt (.slice none 0 0) tag/\Ml c.list j s)) (fun iv _ _=>M-(intOf iv).toNat)
   case atStart=>exact⟨0,gI _,rfl,rfl,HK0.out⟩
   case round=>
    clear HK0;obtain⟨j,hj,rfl,rfl,HJ⟩:=hrel;by_cases hlt:j<M
    .have hjl:j<c.list.length:=by have:=HM.out;omega
     obtain⟨hbj,s,vg,vt,tag,hK,hP⟩:=HJ.out;obtain⟨lb,lo,rfl,hcl⟩:=(HL.below hbj).at hjl;have hknown:=HKN.out _ (gD hjl);have HDI:=A7 (HD.out _ (gD hjl));have HFIN:=A7 (fun o=>Zg HCC.out hjl o);have HBEG:=A7 (fun o=>Zf hjl o);have HOTH:=A7 (fun o o'=>Zh hjl o o');have HSLO:=A7 (fun o=>Gu HCC.out hjl o);have HPA:=A7 hP.ar;have HPO:=A7 (fun h1 h2 h3 (a:Int) ha=>hP.oth hjl h1 h2 h3 (a:=a) ha);have HPS:=A7 (fun h1 h2 h3 (D:Nat) hD (a:Int) ha=>hP.set_ hjl h1 h2 h3 (D:=D) hD (a:=a) ha);have HPT:=A7 (fun h1 h2 (D:Nat) hD (a:Int) ha=>hP.sto hjl h1 h2 (D:=D) hD (a:=a) ha);have HPF:=A7 (fun h1 h2 (b:Nat) hm (a:Int) ha=>hP.fin hjl h1 h2 (b:=b) hm (a:=a) ha);have hsl:=hP.sl;have htl:=hP.tl;have HSN:Hid (∀r,(s.sl r).length<=1000000):=fun r=>by rw[hsl r];have:=XJ c.list j r;omega
     have HTN:Hid (∀r,(s.tl r).length<=1000000):=fun r=>by rw[htl r];have:=XX c.list j r;omega
     obtain⟨⟨op,d,a,b,e,n,z⟩,hi⟩:∃i,c.list[j]=i:=⟨_,rfl⟩
     rw[hi]at hcl HDI hknown HFIN HBEG HOTH HSLO HPO HPS HPT HPF;simp only at hknown HFIN HBEG HOTH HSLO HPO HPS HPT HPF;have y0:=hcl.at 0 (v:=.int .i64 op) rfl;rw[Nat.add_zero]at y0;have y1:=hcl.at 1 (v:=.int .i64 d) rfl;have y2:=hcl.at 2 (v:=.int .i64 a) rfl;have y3:=hcl.at 3 (v:=.int .i64 b) rfl;have y4:=hcl.at 4 (v:=.int .i64 e) rfl;have y5:=hcl.at 5 (v:=.int .i64 n) rfl;have y6:=hcl.at 6 (v:=.int .u32 z) rfl;have llb:lb<wr.heap.size:=A8 y0;have n9:¬lb=wr.heap.size:=oM;have i1:(0:Int)<=(j:Int):=oM;have i2:(j:Int)<(M:Int):=oM;have wi:IntKind.i64.wrap ((j:Int)+1)=((j+1:Nat):Int):=by rw[IntKind.wrap_i64];omega
     obtain⟨V2,hV2⟩:∃V,wr.alloc (.cells #[.int .i64 op,.int .i64 d,.int .i64 a,.int .i64 b,.int .i64 e,.int .i64 n,.int .u32 z] 40)=V:=⟨_,rfl⟩
     have HB2:Hid (Below wr.heap.size wr V2):=by rw[<-hV2];exact A0 _ _
     have hX2:V2.rowIs wr.heap.size 40 7 (UX op d a b e n z):=by rw[<-hV2];exact BS wr _ _
     have HX2:=A7 hX2;have x0:V2.cell? ⟨wr.heap.size,0,none⟩=some (.int .i64 op):=hX2.cell (i:=0) dE;have x1:V2.cell? ⟨wr.heap.size,1,none⟩=some (.int .i64 d):=hX2.cell (i:=1) dE;have x2:V2.cell? ⟨wr.heap.size,2,none⟩=some (.int .i64 a):=hX2.cell (i:=2) dE;have x3:V2.cell? ⟨wr.heap.size,3,none⟩=some (.int .i64 b):=hX2.cell (i:=3) dE;have x4:V2.cell? ⟨wr.heap.size,4,none⟩=some (.int .i64 e):=hX2.cell (i:=4) dE;have x5:V2.cell? ⟨wr.heap.size,5,none⟩=some (.int .i64 n):=hX2.cell (i:=5) dE;have x6:V2.cell? ⟨wr.heap.size,6,none⟩=some (.int .u32 z):=hX2.cell (i:=6) dE;have KS:=A7 (fun v=>OG ⟨op,d,a,b,e,n,z⟩ v);unfold Ch at KS;simp only at KS;have HK:=A7 hK;have HBJ:=A7 hbj;obtain⟨X,hX⟩:=gA (wr.heap.size)
     have HKV:Hid (∀v,Below V2.heap.size V2 v->BO w.heap.size R S M s v B C GB TB AB NB DB vg vt (.slice none 0 0) tag/\v.rowIs X 40 7 (UX op d a b e n z)/\Below w.heap.size w v/\B≠X/\GB≠X/\TB≠X/\AB≠X/\NB≠X/\V2.heap.size<=v.heap.size):=fun v hv=>by
      have h9:=bel HB2.out hv;have l1:=HK.b.lt;have l2:=HK.g.lt;have l3:=HK.t.lt;have l4:=HK.a.lt;have l5:=HK.n.lt;refine⟨HK.below h9,by rw[<-hX];exact HX2.of_block (hv.block _ HX2.lt),HBJ.trans (h9.mono HK.lt),oM,oM,oM,oM,oM,hv.size⟩
     simp only[hX]at x0 x1 x2 x3 x4 x5 x6 n9;obtain⟨AX,hAX⟩:∃x:Int,FF (AE (c.list.take j))=x:=⟨_,rfl⟩
     obtain⟨NX,hNX⟩:∃x:Int,FF (AE (c.list.take (j+1)))=x:=⟨_,rfl⟩
     rw[hAX];have HAX:=A7 hAX;have HNX:=A7 hNX;clear hX2 hcl hi llb hK hP hbj hsl htl hAX hNX HX2 HJ;cases hS:((A4 op).d != 0)with
     |true=>as_aux_lemma=>
      simp only[hS]at KS;have hsb:Af (⟨op,d,a,b,e,n,z⟩:Ad)=true:=by simp only[Af];simpa using hS
      obtain⟨g0,g1⟩:=HDI.out hsb;simp only at g0 g1;obtain⟨D,rfl⟩:=Int.eq_ofNat_of_zero_le g0;have hop:op<33:=sets_33 hsb hknown hS;have o33:(op==33)=false:=sO;have o34:(op==34)=false:=sO;have o35:(op==35)=false:=sO;have o36:(op==36)=false:=sO;have o37:(op==37)=false:=sO;have hDR:D<R:=oM;have HFI:Hid (AX=IQ c.list j/\NX=AX):=by
       obtain⟨h1,h2⟩:=HOTH.out oM oM;exact Zey
      have HPN:=A7 (HPS.out hsb oM oM D sM AX HFI.out.1);clear hS hsb HDI hknown HFIN HBEG HOTH HSLO HPO HPS HPT HPF;go_upto_region 9 with(go_at_call 31;(with_reducible refine(KS.out _).mono ?_);rintro e9 w4 ⟨rfl,hb4⟩;obtain⟨hk4,hx4,hbw,nB,nG,nT,nA,nN,hsz⟩:=HKV.out _ hb4;have HK4:=A7 hk4;have HX4:=A7 hx4;have HBW:=A7 hbw;have x0:w4.cell? ⟨X,0,none⟩=some (.int .i64 op):=hx4.cell (i:=0) dE;have x1:w4.cell? ⟨X,1,none⟩=some (.int .i64 (D:Int)):=hx4.cell (i:=1) dE;have x5:w4.cell? ⟨X,5,none⟩=some (.int .i64 n):=hx4.cell (i:=5) dE;have c1:=hk4.b1;have c2:=hk4.b2;have c3:=hk4.b3;have c4:=hk4.b4;have ca:=hk4.a.cell hlt;have fa:=hk4.a.frozen j;clear hb4 hk4 hx4 hbw)
      obtain⟨g,cap,w5,hr,hk5,k2,k3,hb5,hoth,hne⟩:=HK4.appSlD hDR (HSN.out D) j;have cg:=HK4.g.cell hDR;have lX:X<w4.heap.size:=HX4.lt;have lB:B<w4.heap.size:=HK4.b.lt;have lG:GB<w4.heap.size:=HK4.g.lt;have nBw:¬B=w4.heap.size:=oM;have nXw:¬X=w4.heap.size:=oM;have nGw:¬GB=w4.heap.size:=oM;have cg':(w4.alloc (.cells #[.int .i64 (j:Int)] 3)).cell? ⟨GB,D,none⟩=some (vg D):=kc (A0 _ _) cg;have oB:(vg D).ownBlock≠some B:=fun q=>absurd (HK4.tgs D hDR B q) (by rw[HK4.tB];omega);have oX:(vg D).ownBlock≠some X:=fun q=>M6 HX4.out (HK4.gs D hDR) q;have v1:w5.cell? ⟨B,1,none⟩=some (.slice (some ⟨GB,0,none⟩) R R):=(gC (a:=⟨B,1,none⟩) (hoth B lB oB)).trans c1;have v2:w5.cell? ⟨X,1,none⟩=some (.int .i64 (D:Int)):=(gC (a:=⟨X,1,none⟩) (hoth X lX oX)).trans x1;have nBG:¬B=GB:=Am HK4.tB HK4.tG dE;have v3:(w5.setCell ⟨GB,D,none⟩ (.slice (some ⟨g,0,none⟩) ((s.sl D).length+1) cap)).cell? ⟨B,1,none⟩=some (.slice (some ⟨GB,0,none⟩) R R):=(gC (a:=⟨B,1,none⟩) (gE nBG)).trans v1;have v4:(w5.setCell ⟨GB,D,none⟩ (.slice (some ⟨g,0,none⟩) ((s.sl D).length+1) cap)).cell? ⟨X,1,none⟩=some (.int .i64 (D:Int)):=(gC (a:=⟨X,1,none⟩) (gE (fun q=>nG q.symm))).trans v2;have HX6:Hid ((w5.setCell ⟨GB,D,none⟩ (.slice (some ⟨g,0,none⟩) ((s.sl D).length+1) cap)).rowIs X 40 7 (UX op D a b e n z)):=(HX4.of_block (hoth X lX oX)).of_block (gE (fun q=>nG q.symm));have HB6:Hid (Below w.heap.size w (w5.setCell ⟨GB,D,none⟩ (.slice (some ⟨g,0,none⟩) ((s.sl D).length+1) cap))):=(HBW.trans hb5).setCell HK4.hG _;obtain⟨Mn,hMn⟩:∃k,(s.sl D).length+1=k:=⟨_,rfl⟩
      simp only[hMn]at hr hk5 v3 v4 HX6 HB6;have HR:=A7 hr;have HK6:=A7 hk5;clear hr hk5 hb5 hoth hne hMn lX lB lG;go_cut [7] (fun bv wx=>bv=.pointer (some ⟨X,0,none⟩)/\∃vg' tag',BO w.heap.size R S M {s with sl:=fun k=>if k=D then s.sl D++[j]else s.sl k} wx B C GB TB AB NB DB vg' vt (.slice none 0 0) tag'/\wx.rowIs X 40 7 (UX op D a b e n z)/\Below w.heap.size w wx)
      case first=>
       refine rG (fun v=>v.cell? ⟨B,1,none⟩=some (.slice (some ⟨GB,0,none⟩) R R)/\v.cell? ⟨X,1,none⟩=some (.int .i64 (D:Int))) fun hJ=>?_;exact Zbg
      case rest=>
       obtain⟨rfl,vg',tag',hk,hx,hb⟩:=hcut;exact Zcm
     |false=>
      simp only[hS]at KS;have hsb:Af (⟨op,d,a,b,e,n,z⟩:Ad)=false:=by simp only[Af];simpa using hS
      clear hS HDI HPS;by_cases hop:op=33
      .as_aux_lemma=>
       obtain⟨D,hnD,hDS⟩:=HSLO.out (.inr hop);have hDS:D<S:=by have:=HSE.out;omega
       subst hnD;have o33:(op==33)=true:=by simpa using hop
       have o34:(op==34)=false:=sO;have o35:(op==35)=false:=sO;have o36:(op==36)=false:=sO;have o37:(op==37)=false:=sO;have HFI:Hid (AX=IQ c.list j/\NX=AX):=by
        obtain⟨h1,h2⟩:=HOTH.out oM oM;exact Zey
       have HPN:=A7 (HPT.out hsb hop D sM AX HFI.out.1);have i6:(D:Int)<(S:Int):=oM;clear hsb hknown HFIN HBEG HOTH HSLO HPO HPT HPF hop;go_upto_region 11 with(go_at_call 31;(with_reducible refine(KS.out _).mono ?_);rintro e9 w4 ⟨rfl,hb4⟩;obtain⟨hk4,hx4,hbw,nB,nG,nT,nA,nN,hsz⟩:=HKV.out _ hb4;have HK4:=A7 hk4;have HX4:=A7 hx4;have HBW:=A7 hbw;have x0:w4.cell? ⟨X,0,none⟩=some (.int .i64 op):=hx4.cell (i:=0) dE;have x1:w4.cell? ⟨X,1,none⟩=some (.int .i64 d):=hx4.cell (i:=1) dE;have x5:w4.cell? ⟨X,5,none⟩=some (.int .i64 (D:Int)):=hx4.cell (i:=5) dE;have c1:=hk4.b1;have c2:=hk4.b2;have c3:=hk4.b3;have c4:=hk4.b4;have ca:=hk4.a.cell hlt;have fa:=hk4.a.frozen j;clear hb4 hk4 hx4 hbw)
       obtain⟨g,cap,w5,hr,hk5,k2,k3,hb5,hoth,hne⟩:=HK4.appTlD hDS (HTN.out D) j;have cg:=HK4.t.cell hDS;have lX:X<w4.heap.size:=HX4.lt;have lB:B<w4.heap.size:=HK4.b.lt;have lG:TB<w4.heap.size:=HK4.t.lt;have nBw:¬B=w4.heap.size:=oM;have nXw:¬X=w4.heap.size:=oM;have nGw:¬TB=w4.heap.size:=oM;have cg':(w4.alloc (.cells #[.int .i64 (j:Int)] 3)).cell? ⟨TB,D,none⟩=some (vt D):=kc (A0 _ _) cg;have oB:(vt D).ownBlock≠some B:=fun q=>absurd (HK4.tts D hDS B q) (by rw[HK4.tB];omega);have oX:(vt D).ownBlock≠some X:=fun q=>M6 HX4.out (HK4.ts D hDS) q;have v1:w5.cell? ⟨B,2,none⟩=some (.slice (some ⟨TB,0,none⟩) S S):=(gC (a:=⟨B,2,none⟩) (hoth B lB oB)).trans c2;have v2:w5.cell? ⟨X,5,none⟩=some (.int .i64 (D:Int)):=(gC (a:=⟨X,5,none⟩) (hoth X lX oX)).trans x5;have nBG:¬B=TB:=Am HK4.tB HK4.tT dE;have v3:(w5.setCell ⟨TB,D,none⟩ (.slice (some ⟨g,0,none⟩) ((s.tl D).length+1) cap)).cell? ⟨B,2,none⟩=some (.slice (some ⟨TB,0,none⟩) S S):=(gC (a:=⟨B,2,none⟩) (gE nBG)).trans v1;have v4:(w5.setCell ⟨TB,D,none⟩ (.slice (some ⟨g,0,none⟩) ((s.tl D).length+1) cap)).cell? ⟨X,5,none⟩=some (.int .i64 (D:Int)):=(gC (a:=⟨X,5,none⟩) (gE (fun q=>nT q.symm))).trans v2;have HX6:Hid ((w5.setCell ⟨TB,D,none⟩ (.slice (some ⟨g,0,none⟩) ((s.tl D).length+1) cap)).rowIs X 40 7 (UX op d a b e D z)):=(HX4.of_block (hoth X lX oX)).of_block (gE (fun q=>nT q.symm));have HB6:Hid (Below w.heap.size w (w5.setCell ⟨TB,D,none⟩ (.slice (some ⟨g,0,none⟩) ((s.tl D).length+1) cap))):=(HBW.trans hb5).setCell HK4.hT _;obtain⟨Mn,hMn⟩:∃k,(s.tl D).length+1=k:=⟨_,rfl⟩
       simp only[hMn]at hr hk5 v3 v4 HX6 HB6;have HR:=A7 hr;have HK6:=A7 hk5;clear hr hk5 hb5 hoth hne hMn lX lB lG;go_cut [7] (fun bv wx=>bv=.pointer (some ⟨X,0,none⟩)/\∃vt' tag',BO w.heap.size R S M {s with tl:=fun k=>if k=D then s.tl D++[j]else s.tl k} wx B C GB TB AB NB DB vg vt' (.slice none 0 0) tag'/\wx.rowIs X 40 7 (UX op d a b e D z)/\Below w.heap.size w wx)
       case first=>
        refine rG (fun v=>v.cell? ⟨B,2,none⟩=some (.slice (some ⟨TB,0,none⟩) S S)/\v.cell? ⟨X,5,none⟩=some (.int .i64 (D:Int))) fun hJ=>?_;exact Zbg
       case rest=>
        obtain⟨rfl,vt',tag',hk,hx,hb⟩:=hcut;exact Zcm
      .by_cases hop35:op=35
       .have hop:=hop35;have o33:(op==33)=false:=sO;have o34:(op==34)=false:=sO;have o35:(op==35)=true:=by simpa using hop
        have o36:(op==36)=false:=sO;have o37:(op==37)=false:=sO;exact Zau
       .by_cases hop37:op=37
        .have hop:=hop37;have o33:(op==33)=false:=sO;have o34:(op==34)=false:=sO;have o35:(op==35)=false:=sO;have o36:(op==36)=false:=sO;have o37:(op==37)=true:=by simpa using hop
         exact Zau
        .skip
         clear HFIN HPF HPT HSLO HPA;by_cases hop34:op=34\/op=36
         .have HFI:Hid (AX=IQ c.list j/\NX=(j:Int)):=by
           obtain⟨h1,h2⟩:=HBEG.out hop34;exact Zey
          have HPN:=A7 (HPO.out hsb oM oM AX HFI.1);have o33:(op==33)=false:=sO;have o35:(op==35)=false:=sO;have o37:(op==37)=false:=sO;clear hsb hknown HBEG HOTH HPO;rcases hop34 with hop|hop
          .have o34:(op==34)=true:=by simpa using hop
           clear hop hop35 hop37;exact Zaz
          .have o34:(op==34)=false:=sO;have o36:(op==36)=true:=by simpa using hop
           clear hop hop35 hop37;exact Zaz
         .have HFI:Hid (AX=IQ c.list j/\NX=AX):=by
           obtain⟨h1,h2⟩:=HOTH.out hop34 oM;exact Zey
          have HPN:=A7 (HPO.out hsb oM oM AX HFI.1);have o33:(op==33)=false:=sO;have o34:(op==34)=false:=sO;have o35:(op==35)=false:=sO;have o36:(op==36)=false:=sO;have o37:(op==37)=false:=sO;clear hsb hknown HBEG HOTH HPO hop34 hop35 hop37;exact Zaz
    .have e9:¬ (j:Int)<(M:Int):=oM;have hjn:j=c.list.length:=by have:=HM.out;omega
     obtain⟨hbj,s,vg,vt,tag,hK,hP⟩:=HJ.out;rw[hjn]at hP;have HE:=A7 (And.intro hK (And.intro hP.all hbj));clear hlt hjn hbj hK hP;go_wp2;refine bodyPost_ret (by simp[results,results28,go_sem, *];try rfl) rfl ?_;first|exact⟨_,rfl,_,_,_,_,_,_,_,_,_,_,_,rfl,HE.1,HE.2.1,HE.2.2⟩|exact⟨_,_,_,_,_,_,_,_,_,_,_,rfl,HE.1,HE.2.1,HE.2.2⟩
abbrev rfV(p0 p1 p2 p3 pr p5 p6 p7 p8:Option Addr)(n0 q0 n1 q1 n2 q2 n3 q3 N qr n5 q5 n6 q6 n7 q7 n8 q8:Nat)(ct:Int):Value:=.agg #[.slice p0 n0 q0,.slice p1 n1 q1,.slice p2 n2 q2,.slice p3 n3 q3,.slice pr N qr,.slice p5 n5 q5,.slice p6 n6 q6,.slice p7 n7 q7,.slice p8 n8 q8,.int .i64 ct]
theorem Lq{T:Nat->Prop}{c:Cd}{f:Fr}{i:Ad}(hg:Good c)(L:List (List Int))(hL:F5 c L)(hp:P8 c i.d i.n)(p0 p1 p7:Option Addr)(q0 q1 n7 q7:Nat)(v2 v3:Value)(w:World)(hv:CD w (.slice p0 c.sign.length q0) (.slice p1 c.regs.length q1) v2 v3 c)(hvc:Jh w (.slice p7 n7 q7) L):
 ∃ (par sb so:Nat) (nm:ByteArray) (K:Int) (len lb lo:Nat) (tk:Int) (vb vo:Nat) (px:Option Addr) (M qx:Nat),p0=some ⟨sb,so,none⟩/\p1=some ⟨lb,lo,none⟩/\par<c.sign.length/\p7=some ⟨vb,vo,none⟩/\par<n7/\n7<=64/\w.cell? ⟨sb,so+par*3,none⟩=some (.string nm)/\w.cell? ⟨sb,so+par*3+1,none⟩=some (.int .i64 K)/\w.cell? ⟨sb,so+par*3+2,none⟩=some (.int .i64 (len:Int))/\w.cell? ⟨lb,lo+i.d.toNat*2,none⟩=some (.int .i64 tk)/\w.cell? ⟨lb,lo+i.d.toNat*2+1,none⟩=some (.int .i64 (par:Int))/\w.cell? ⟨vb,vo+par,none⟩=some (.slice px M qx)/\
  ∀v,Below w.heap.size w v->Calls prog 69 #[.agg #[.string nm,.int .i64 K,.int .i64 (len:Int)],.slice px M qx,.int .i64 i.n] v fun e w'=>∃p' q',e=.returned (.slice p' (BH c L i).length q')/\C6 w' p' (BH c L i)/\Below v.heap.size v w'/\∀b o s,p'=some ⟨b,o,s⟩->v.heap.size<=b:=by
 obtain⟨par,hpar,hpl⟩:=MU hg hp.r0 hp.r1 hp.kind;have hdl:i.d.toNat<c.regs.length:=by have:=hp.r0;have:=hp.r1;omega
 obtain⟨sb,so,rfl,hs⟩:=hv.sign.at hpl;obtain⟨lb,lo,rfl,hl⟩:=hv.regs.at hdl;obtain⟨p7',c7,e7,hvv⟩:=hvc;simp only[Value.slice.injEq]at e7;obtain⟨rfl,rfl,rfl⟩:=e7;have hpL:par<L.length:=by rw[hL.len];exact hpl
 obtain⟨vb,vo,px,qx,rfl,hcell,hrd⟩:=hvv par hpL;have hln:=JR hg hpl;obtain⟨hnum,hlen2,hl1,hl2,hap⟩:=JX hg hpl;have hk2:AI c (par:Int)=if c.sign[par].kind=2 then 2 else 1:=by unfold AI CU;simp[hpl]
 have hreg:c.regs[i.d.toNat].par=(par:Int):=by
  have h1:=Ea hdl;rw[show((i.d.toNat:Nat):Int)=i.d by have:=hp.r0;omega]at h1;rw[<-h1];exact hpar
 have hn0:=hp.n0;rw[hpar]at hn0;have hlv:=hL.each par hpL;obtain⟨nn,hnn⟩:∃n:Nat,i.n=(n:Int):=⟨i.n.toNat,oM⟩
 have hnk:nn<AI c (par:Int):=by
  unfold AI;rcases hn0 with e|⟨e,e2⟩
  .have:nn=0:=oM;subst this;split<;>decide
  .have:nn=1:=oM;subst this;rw[if_pos e2];decide
 refine⟨par,sb,so,c.sign[par].name,c.sign[par].kind,lenOf c (par:Int),lb,lo,c.regs[i.d.toNat].kind,vb,vo,px,L[par].length,qx,rfl,rfl,hpl,rfl,hpL,by rw[hL.len];exact hg.signL,hs.at 0 rfl,hs.at 1 rfl,by rw[hln];exact hs.at 2 rfl,hl.at 0 rfl,by rw[<-hreg];exact hl.at 1 rfl,hcell,fun v hb=>?_⟩;have hpp:BH c L i=EF L[par] (AI c (par:Int)) nn (lenOf c (par:Int)):=by
  unfold BH EF;rw[hpar,hnn];simp only[Int.toNat_natCast];rw[Ia hpL]
 rw[hpp,LP,hnn];refine(Ou c.sign[par].name c.sign[par].kind (lenOf c (par:Int)) oM (AI c (par:Int)) hk2 L[par] (hL.isP _ (gD hpL)) px qx nn hnk (by rw[hlv,hnum];exact gF _) (by rw[hlv,hnum];rcases hap with e|e<;>rw[e]<;>omega) v (hrd.below hb)).mono ?_;exact fun e w' h=>h
theorem V5{T:Nat->Prop}{c:Cd}{G P:List (List Int)}{f:Fr}{i:Ad}{s:Wk}{X S O:List Cl}(hg:Good c)(ok:KK c f)(t:AG c s i=true)(hb:AH i.bits)(fg:F5 c G)(fp:F5 c P)(nd:Dx c f i)(rel:P9 c f X S O)(kn:∀r∈Ae i (A4 i.op),QM c f X r.toNat)
 (p0 p1 p2 p3 pr p5 p6 p7 p8:Option Addr) (q0 q1 q2 q3 qr q5 q6 q7 q8:Nat) (ct:Int) (w:World) (hT:∀b,T b->b<w.heap.size) (hv:CD w (.slice p0 c.sign.length q0) (.slice p1 c.regs.length q1) (.slice p2 c.slots.length q2) (.slice p3 c.list.length q3) c) (hcs:AT T w (.slice pr c.regs.length qr) X) (hss:AT T w (.slice p5 c.slots.length q5) S) (hoo:Ie T w (.slice p6 O.length q6) O) (hgu:Jh w (.slice p7 G.length q7) G) (hpu:Jh w (.slice p8 P.length q8) P):
 Calls prog 43 #[rfV p0 p1 p2 p3 pr p5 p6 p7 p8 c.sign.length q0 c.regs.length q1 c.slots.length q2 c.list.length q3 c.regs.length qr c.slots.length q5 O.length q6 G.length q7 P.length q8 ct,Ch i] w fun e w'=>∃pr' qr' p5' q5' p6' q6' X' S' O',e=.returned (rfV p0 p1 p2 p3 pr' p5' p6' p7 p8 c.sign.length q0 c.regs.length q1 c.slots.length q2 c.list.length q3 c.regs.length qr' c.slots.length q5' O.length q6' G.length q7 P.length q8 ct)/\AT T w' (.slice pr' c.regs.length qr') X'/\AT T w' (.slice p5' c.slots.length q5') S'/\Ie T w' (.slice p6' O.length q6') O'/\O'.length=O.length/\Did c G P f i X S O X' S' O'/\Below w.heap.size w w':=by
 obtain⟨hk,h2,_,h4⟩:=Ao t;have hX:=rel.xl;have hXl:=hg.regsL;have hSl:S.length=c.slots.length:=by have h1:=congrArg List.length rel.sl;rw[List.length_map,ok.slotsL]at h1;exact h1
 have nD:=Mu (Cw h2);have nA:=Mu (BD h2);have nB:=Mu (CP h2);have nC:=Mu (CQ h2);obtain⟨op,D,A,B,Ec,nn,bt⟩:=i;unfold rfV Ch;simp only at hb hk nD nA nB nC;obtain⟨kd,rfl⟩:∃n:Nat,D=(n:Int):=⟨D.toNat,oM⟩
 obtain⟨ka,rfl⟩:∃n:Nat,A=(n:Int):=⟨A.toNat,oM⟩
 obtain⟨kb,rfl⟩:∃n:Nat,B=(n:Int):=⟨B.toNat,oM⟩
 obtain⟨kk,rfl⟩:∃n:Nat,Ec=(n:Int):=⟨Ec.toNat,oM⟩
 have AL:0<c.regs.length->ka<c.regs.length:=fun h=>by have:=(Ex (BD h2) h).2;simp only at this;omega
 have BL:0<c.regs.length->kb<c.regs.length:=fun h=>by have:=(Ex (CP h2) h).2;simp only at this;omega
 have CL:0<c.regs.length->kk<c.regs.length:=fun h=>by have:=(Ex (CQ h2) h).2;simp only at this;omega
 have KA:∀x,(A4 op).a≠0->X[ka]? =some x->x.h=C5 c f (ka:Int):=fun x h hx=>Zd kn (r:=(ka:Int)) (LH h) oM hx;have KB:∀x,(A4 op).b≠0->X[kb]? =some x->x.h=C5 c f (kb:Int):=fun x h hx=>Zd kn (r:=(kb:Int)) (mem_b h) oM hx;have KC:∀x,(A4 op).c≠0->X[kk]? =some x->x.h=C5 c f (kk:Int):=fun x h hx=>Zd kn (r:=(kk:Int)) (mem_c h) oM hx;have MA:=fun(h:(A4 op).a≠0)=>AP (BD h2) h;have MB:=fun(h:(A4 op).b≠0)=>AP (CP h2) h;have MC:=fun(h:(A4 op).c≠0)=>AP (CQ h2) h;have DL:(A4 op).d≠0->kd<c.regs.length:=fun h=>by have:=(Ag (Cw h2) h).2;simp only at this;omega
 simp only at MA MB MC;rcases Da hk with e|e|e|e|e|e|e|e|e
 .have hop:op=1\/op=16\/op=17\/op=19\/op=20:=by unfold DC at e;simp only[Bool.or_eq_true,beq_iff_eq]at e;omega
  rcases hop with rfl|rfl|rfl|rfl|rfl
  .have hd:(A4 1).d≠0:=dE;have dl:=DL hd;have hval:(⟨[bt],0⟩:Hd)=Dj c G P f ⟨1,(kd:Int),(ka:Int),(kb:Int),(kk:Int),nn,bt⟩:=by rw[I9 nd rF];rfl
   refine(V6 p0 p1 p2 p3 p5 p6 p7 p8 c.sign.length q0 c.regs.length q1 c.slots.length q2 c.list.length q3 c.slots.length q5 O.length q6 G.length q7 P.length q8 ct pr qr X c.regs.length hX hXl nn bt kd ka kb kk dl w hT hcs hb).mono ?_;exact Sw
  .have hd:(A4 16).d≠0:=dE;have dl:=DL hd;have al:=AL oM;have hxa:X[ka]? =some (X[ka]'oM):=gB oM;have hah:=KA _ dE hxa;have hma:=MA dE;have bl:=BL oM;have hxb:X[kb]? =some (X[kb]'oM):=gB oM;have hbh:=KB _ dE hxb;have hmb:=MB dE;have ka1:(Aa c.regs (ka:Int)).kind=1:=by simpa[B7,A4]using hma
   have kb2:(Aa c.regs (kb:Int)).kind=2:=by simpa[B7,A4]using hmb
   rw[rd_1 ka1,Int.toNat_natCast]at hah;rw[Qm kb2,Int.toNat_natCast]at hbh;have hval:(⟨[JJ (f.nums ka) (X[kb]'oM).h.whole],0⟩:Hd)=Dj c G P f ⟨16,(kd:Int),(ka:Int),(kb:Int),(kk:Int),nn,bt⟩:=by rw[I9 nd rF,hbh];rfl
   refine(Pp p0 p1 p2 p3 p5 p6 p7 p8 c.sign.length q0 c.regs.length q1 c.slots.length q2 c.list.length q3 c.slots.length q5 O.length q6 G.length q7 P.length q8 ct pr qr X c.regs.length hX hXl nn bt kd ka kb kk dl w hT hcs _ hxa _ hxb (f.nums ka) (by rw[hah]) (ok.nums ka) (by rw[hbh];exact ok.whs kb)).mono ?_;exact Sw
  .have hd:(A4 17).d≠0:=dE;have dl:=DL hd;have al:=AL oM;have hxa:X[ka]? =some (X[ka]'oM):=gB oM;have hah:=KA _ dE hxa;have hma:=MA dE;have ka2:(Aa c.regs (ka:Int)).kind=2:=by simpa[B7,A4]using hma
   rw[Qm ka2,Int.toNat_natCast]at hah;have hval:(⟨[GG (X[ka]'oM).h.whole],0⟩:Hd)=Dj c G P f ⟨17,(kd:Int),(ka:Int),(kb:Int),(kk:Int),nn,bt⟩:=by rw[I9 nd rF,hah];rfl
   refine(SV p0 p1 p2 p3 p5 p6 p7 p8 c.sign.length q0 c.regs.length q1 c.slots.length q2 c.list.length q3 c.slots.length q5 O.length q6 G.length q7 P.length q8 ct pr qr X c.regs.length hX hXl nn bt kd ka kb kk dl w hT hcs _ hxa (by rw[hah];exact ok.whs ka)).mono ?_;exact Sw
  .have hd:(A4 19).d≠0:=dE;have dl:=DL hd;have al:=AL oM;have hxa:X[ka]? =some (X[ka]'oM):=gB oM;have hah:=KA _ dE hxa;have hma:=MA dE;have ka3:(Aa c.regs (ka:Int)).kind=3:=by simpa[B7,A4]using hma
   rw[rd_3 ka3,Int.toNat_natCast]at hah;have hval:(⟨[L5 (CG (X[ka]'oM).h.pats) (X[ka]'oM).h.pats.length],0⟩:Hd)=Dj c G P f ⟨19,(kd:Int),(ka:Int),(kb:Int),(kk:Int),nn,bt⟩:=by rw[I9 nd rF,hah];rfl
   refine(V8 p0 p1 p2 p3 p5 p6 p7 p8 c.sign.length q0 c.regs.length q1 c.slots.length q2 c.list.length q3 c.slots.length q5 O.length q6 G.length q7 P.length q8 ct pr qr X c.regs.length hX hXl nn bt kd ka kb kk dl w hT hcs _ hxa (by rw[hah];exact ok.vecs ka) (by rw[hah];exact ok.vecsL ka)).mono ?_;exact Sw
  .have hd:(A4 20).d≠0:=dE;have dl:=DL hd;have al:=AL oM;have hxa:X[ka]? =some (X[ka]'oM):=gB oM;have hah:=KA _ dE hxa;have hma:=MA dE;have ka3:(Aa c.regs (ka:Int)).kind=3:=by simpa[B7,A4]using hma
   rw[rd_3 ka3,Int.toNat_natCast]at hah;have hval:(⟨[EP (CG (X[ka]'oM).h.pats) (X[ka]'oM).h.pats.length],0⟩:Hd)=Dj c G P f ⟨20,(kd:Int),(ka:Int),(kb:Int),(kk:Int),nn,bt⟩:=by rw[I9 nd rF,hah];rfl
   refine(Pn p0 p1 p2 p3 p5 p6 p7 p8 c.sign.length q0 c.regs.length q1 c.slots.length q2 c.list.length q3 c.slots.length q5 O.length q6 G.length q7 P.length q8 ct pr qr X c.regs.length hX hXl nn bt kd ka kb kk dl w hT hcs _ hxa (by rw[hah];exact ok.vecs ka) (by rw[hah];exact ok.vecsL ka)).mono ?_;exact Sw
 .have hop:op=2\/op=18\/(21<=op/\op<=28):=by unfold Bj at e;simp only[Bool.or_eq_true,Bool.and_eq_true,beq_iff_eq,decide_eq_true_eq]at e;omega
  rcases hop with rfl|rfl|⟨o1,o2⟩
  .have hd:(A4 2).d≠0:=dE;have dl:=DL hd;have hval:(⟨[],nn⟩:Hd)=Dj c G P f ⟨2,(kd:Int),(ka:Int),(kb:Int),(kk:Int),nn,bt⟩:=by rw[IJ nd rF];rfl
   refine(V9 p0 p1 p2 p3 p5 p6 p7 p8 c.sign.length q0 c.regs.length q1 c.slots.length q2 c.list.length q3 c.slots.length q5 O.length q6 G.length q7 P.length q8 ct pr qr X c.regs.length hX hXl nn bt kd ka kb kk dl w hT hcs).mono ?_;exact Sw
  .have hd:(A4 18).d≠0:=dE;have dl:=DL hd;have al:=AL oM;have hxa:X[ka]? =some (X[ka]'oM):=gB oM;have hah:=KA _ dE hxa;have hma:=MA dE;have ka1:(Aa c.regs (ka:Int)).kind=1:=by simpa[B7,A4]using hma
   rw[rd_1 ka1,Int.toNat_natCast]at hah;have hval:(⟨[],BG (f.nums ka%2147483648 != 0&&decide (f.nums ka%2147483648<=2139095040))⟩:Hd)=Dj c G P f ⟨18,(kd:Int),(ka:Int),(kb:Int),(kk:Int),nn,bt⟩:=by rw[IJ nd rF,test_eq];rfl
   refine(T3 p0 p1 p2 p3 p5 p6 p7 p8 c.sign.length q0 c.regs.length q1 c.slots.length q2 c.list.length q3 c.slots.length q5 O.length q6 G.length q7 P.length q8 ct pr qr X c.regs.length hX hXl nn bt kd ka kb kk dl w hT hcs _ hxa (f.nums ka) (by rw[hah]) (ok.nums ka)).mono ?_;exact Sw
  .have hrow:(A4 op).d=2/\(A4 op).a=2/\((A4 op).b=0\/(A4 op).b=2)/\((A4 op).c=0\/(A4 op).c=2):=by
    have:op=21\/op=22\/op=23\/op=24\/op=25\/op=26\/op=27\/op=28:=oM;rcases this with rfl|rfl|rfl|rfl|rfl|rfl|rfl|rfl<;>decide
   have hd:(A4 op).d≠0:=by rw[hrow.1];decide
   have dl:=DL hd;have ha0:(A4 op).a≠0:=by rw[hrow.2.1];decide
   have al:=AL oM;have hxa:X[ka]? =some (X[ka]'oM):=gB oM;have hah:=KA _ ha0 hxa;have hma:=MA ha0;rw[hrow.2.1]at hma;have ka2:(Aa c.regs (ka:Int)).kind=2:=by simpa[B7]using hma
   rw[Qm ka2,Int.toNat_natCast]at hah;have bl:=BL oM;have hxb:X[kb]? =some (X[kb]'oM):=gB oM;have cl:=CL oM;have hxc:X[kk]? =some (X[kk]'oM):=gB oM;have hbw:(A4 op).b≠0->(X[kb]'oM).h.whole=f.whs kb:=fun h=>by
    have h1:=MB h;rw[hrow.2.2.1.resolve_left h]at h1;rw[KB _ h hxb,Qm (by simpa[B7]using h1),Int.toNat_natCast]
   have hcw:(A4 op).c≠0->(X[kk]'oM).h.whole=f.whs kk:=fun h=>by
    have h1:=MC h;rw[hrow.2.2.2.resolve_left h]at h1;rw[KC _ h hxc,Qm (by simpa[B7]using h1),Int.toNat_natCast]
   have hwa:=(rel.xok _ (List.mem_of_getElem? hxa)).2.2;have hwb:=(rel.xok _ (List.mem_of_getElem? hxb)).2.2;have hval:(⟨[],Df op (X[ka]'oM).h.whole (X[kb]'oM).h.whole (X[kk]'oM).h.whole⟩:Hd)=Dj c G P f ⟨op,(kd:Int),(ka:Int),(kb:Int),(kk:Int),nn,bt⟩:=by rw[IJ nd e,Y4 (i:=⟨op,(kd:Int),(ka:Int),(kb:Int),(kk:Int),nn,bt⟩) (f:=f) ⟨o1,o2⟩ (by rw[hah];rfl) hbw hcw]
   refine(Ps p0 p1 p2 p3 p5 p6 p7 p8 c.sign.length q0 c.regs.length q1 c.slots.length q2 c.list.length q3 c.slots.length q5 O.length q6 G.length q7 P.length q8 ct pr qr X c.regs.length hX hXl op o1 o2 nn bt kd ka kb kk dl w hT hcs _ hxa _ hxb _ hxc hwa hwb).mono ?_;exact Sw
 .subst e;have hd:(A4 29).d≠0:=dE;have dl:=DL hd;obtain⟨par,sb,so,nm,K,len,lb,lo,tk,vb,vo,px,M,qx,e0,e1,e2,e3,e4,e5,s0,s1,s2,t0,t1,u0,hkp⟩:=Lq (T:=T) (f:=f) (i:=⟨29,(kd:Int),(ka:Int),(kb:Int),(kk:Int),nn,bt⟩) hg G fg (nd.part (.inl rfl)) _ _ _ _ _ _ _ _ _ w hv hgu;simp only[Int.toNat_natCast]at t0 t1 hkp;have hval:(⟨BH c G ⟨29,(kd:Int),(ka:Int),(kb:Int),(kk:Int),nn,bt⟩,0⟩:Hd)=Dj c G P f ⟨29,(kd:Int),(ka:Int),(kb:Int),(kk:Int),nn,bt⟩:=by rw[val_29 nd rfl]
  refine(SW p0 p1 p2 p3 p5 p6 p7 p8 c.sign.length q0 c.regs.length q1 c.slots.length q2 c.list.length q3 c.slots.length q5 O.length q6 G.length q7 P.length q8 ct pr qr X c.regs.length hX hXl nn bt kd ka kb kk dl w hT hcs par sb so nm K len lb lo tk vb vo px M qx (BH c G ⟨29,(kd:Int),(ka:Int),(kb:Int),(kk:Int),nn,bt⟩) e0 e1 e2 dl e3 e4 s0 s1 s2 t0 t1 u0 hXl hg.signL e5 hkp).mono ?_;exact Sw
 .subst e;have hd:(A4 30).d≠0:=dE;have dl:=DL hd;obtain⟨par,sb,so,nm,K,len,lb,lo,tk,vb,vo,px,M,qx,e0,e1,e2,e3,e4,e5,s0,s1,s2,t0,t1,u0,hkp⟩:=Lq (T:=T) (f:=f) (i:=⟨30,(kd:Int),(ka:Int),(kb:Int),(kk:Int),nn,bt⟩) hg P fp (nd.part (.inr rfl)) _ _ _ _ _ _ _ _ _ w hv hpu;simp only[Int.toNat_natCast]at t0 t1 hkp;have hval:(⟨BH c P ⟨30,(kd:Int),(ka:Int),(kb:Int),(kk:Int),nn,bt⟩,0⟩:Hd)=Dj c G P f ⟨30,(kd:Int),(ka:Int),(kb:Int),(kk:Int),nn,bt⟩:=by rw[val_30 nd rfl]
  refine(Po p0 p1 p2 p3 p5 p6 p7 p8 c.sign.length q0 c.regs.length q1 c.slots.length q2 c.list.length q3 c.slots.length q5 O.length q6 G.length q7 P.length q8 ct pr qr X c.regs.length hX hXl nn bt kd ka kb kk dl w hT hcs par sb so nm K len lb lo tk vb vo px M qx (BH c P ⟨30,(kd:Int),(ka:Int),(kb:Int),(kk:Int),nn,bt⟩) e0 e1 e2 dl e3 e4 s0 s1 s2 t0 t1 u0 hXl hg.signL e5 hkp).mono ?_;exact Sw
 .subst e;obtain⟨hp,hlen⟩:=nd.out rfl;obtain⟨par,hpar,hpl⟩:=MU hg hp.r0 hp.r1 hp.kind;simp only at hp hpar;have al:ka<c.regs.length:=by have:=hp.r1;omega
  have hxa:X[ka]? =some (X[ka]'oM):=gB oM;have hn0:=hp.n0;obtain⟨kq,rfl⟩:∃n:Nat,nn=(n:Int):=⟨nn.toNat,oM⟩
  obtain⟨lb,lo,e1,hl⟩:=hv.regs.at al;have hreg:c.regs[ka].par=(par:Int):=by rw[<-Ea al];exact hpar
  refine(V7 p0 p1 p2 p3 p5 p6 p7 p8 c.sign.length q0 c.regs.length q1 c.slots.length q2 c.list.length q3 c.slots.length q5 O.length q6 G.length q7 P.length q8 ct pr qr X c.regs.length hX hXl (kq:Int) bt kd ka kb kk w hT hcs _ hxa kq rfl oM par lb lo (c.regs[ka].kind) e1 al (by rw[<-hreg];exact hl.at 1 rfl) O rfl (by rw[rel.ol];have:=hg.signL;omega) (by rw[rel.ol];omega) hoo).mono ?_;rintro e w' ⟨p9,q9,rfl,hc,hbl⟩;exact⟨pr,qr,p5,q5,p9,q9,X,S,_,rfl,hcs.below hbl,hss.below hbl,hc,by rw[List.length_set],.inr (.inr (.inl ⟨rfl,rfl,rfl,_,hxa,by simp only[hpar,Int.toNat_natCast]⟩)),hbl⟩
 .subst e;have hd:(A4 32).d≠0:=dE;have dl:=DL hd;obtain⟨d0,d1,m0,m1,ht⟩:=nd.load rfl;simp only at m0 m1;obtain⟨ks,hks⟩:∃n:Nat,nn=(n:Int):=⟨nn.toNat,oM⟩
  have hksl:ks<S.length:=oM;have hxs:S[ks]? =some (S[ks]'hksl):=gB hksl;have hval:(S[ks]'hksl).h=Dj c G P f ⟨32,(kd:Int),(ka:Int),(kb:Int),(kk:Int),nn,bt⟩:=by
   rw[val_32 ok nd rfl rel.sz,<-rel.sl];simp only[hks,Int.toNat_natCast,List.getElem?_map,hxs,Option.map_some,Option.getD_some]
  refine(SZ p0 p1 p2 p3 p5 p6 p7 p8 c.sign.length q0 c.regs.length q1 c.slots.length q2 c.list.length q3 c.slots.length q5 O.length q6 G.length q7 P.length q8 ct pr qr X c.regs.length hX hXl nn bt kd ka kb kk dl w hT hcs ks hks _ S hSl hg.slotsL hss hxs).mono ?_;exact Sw
 .subst e;obtain⟨a0,a1,m0,m1,ht,hs⟩:=nd.store rfl;simp only at a0 a1 m0 m1;have al:ka<c.regs.length:=oM;have hxa:X[ka]? =some (X[ka]'oM):=gB oM;obtain⟨ks,hks⟩:∃n:Nat,nn=(n:Int):=⟨nn.toNat,oM⟩
  refine(Pq p0 p1 p2 p3 p5 p6 p7 p8 c.sign.length q0 c.regs.length q1 c.slots.length q2 c.list.length q3 c.slots.length q5 O.length q6 G.length q7 P.length q8 ct pr qr X c.regs.length hX hXl nn bt kd ka kb kk w hT hcs _ hxa ks hks S hSl hg.slotsL oM hss).mono ?_;rintro e w' ⟨p9,q9,rfl,hc,hbl⟩;exact⟨pr,qr,p9,q9,p6,q6,X,_,O,rfl,hcs.below hbl,hc,hoo.below hbl,rfl,.inr (.inl ⟨rfl,rfl,⟨_,hxa,by simp only[hks,Int.toNat_natCast]⟩,rfl⟩),hbl⟩
 .refine(T0 p0 p1 p2 p3 p5 p6 p7 p8 c.sign.length q0 c.regs.length q1 c.slots.length q2 c.list.length q3 c.slots.length q5 O.length q6 G.length q7 P.length q8 ct pr qr X c.regs.length hX hXl op e.1 e.2 nn bt kd ka kb kk w hT hcs).mono ?_;rintro e' w' ⟨rfl,hbl⟩;exact⟨pr,qr,p5,q5,p6,q6,X,S,O,rfl,hcs.below hbl,hss.below hbl,hoo.below hbl,rfl,.inr (.inr (.inr ⟨e,rfl,rfl,rfl⟩)),hbl⟩
 .have hop:3<=op/\op<=15:=by unfold Bq at e;simpa using e
  obtain⟨o1,o2⟩:=hop;have hd:(A4 op).d≠0:=by
   exact Zct
  have ha0:(A4 op).a≠0:=by
   exact Zct
  have dl:=DL hd;have al:=AL oM;have bl:=BL oM;have cl:=CL oM;have hxa:X[ka]? =some (X[ka]'oM):=gB oM;have hxb:X[kb]? =some (X[kb]'oM):=gB oM;have hxc:X[kk]? =some (X[kk]'oM):=gB oM;have hah:=KA _ ha0 hxa;have hty:Aa c.regs (kd:Int)=c.regs[kd]:=Ea dl;by_cases hk2:(Aa c.regs (kd:Int)).kind=2
  .have hra:(Aa c.regs (ka:Int)).kind=2:=by
    obtain⟨_,_,_,hr⟩:=nd.elem e;obtain⟨_,_,_,h⟩:=hr (ka:Int) (LH ha0);rcases h with h|⟨_,h⟩
    .rw[h];exact hk2
    .simp only at h;omega
   have hval:(X[ka]'oM).h=Dj c G P f ⟨op,(kd:Int),(ka:Int),(kb:Int),(kk:Int),nn,bt⟩:=by
    rw[Uv e hk2,hah,Qm hra]
   refine(QZ p0 p1 p2 p3 p5 p6 p7 p8 c.sign.length q0 c.regs.length q1 c.slots.length q2 c.list.length q3 c.slots.length q5 O.length q6 G.length q7 P.length q8 ct pr qr X c.regs.length hX hXl op o1 o2 nn bt kd ka kb kk dl w hT hcs (X[ka]'oM).h (fun v hbv hsv=>?_)).mono ?_
   .refine(Je c hg _ _ _ _ _ _ _ _ _ _ X hX op nn bt _ _ kd ka dl oM (by rw[<-hty];exact hk2) v (hv.below hbv) (hcs.cs.below hbv)).mono ?_;rintro e' w' ⟨rfl,-,hbl⟩;exact⟨X[ka]'oM,rfl,rfl,(Ni (hcs.nums _ (List.mem_of_getElem? hxa)) hbv).below hbl,hbl⟩
   .exact Sw
  .obtain⟨w1,w2,w3⟩:=Gi hg ok e nd hk2;have hargs:=Yx (i:=⟨op,(kd:Int),(ka:Int),(kb:Int),(kk:Int),nn,bt⟩) (c:=c) (f:=f) e hah (fun h=>KB _ h hxb) (fun h=>KC _ h hxc);have htr:=Gf ⟨op,(kd:Int),(ka:Int),(kb:Int),(kk:Int),nn,bt⟩ e;have hal:(Br c f ⟨op,(kd:Int),(ka:Int),(kb:Int),(kk:Int),nn,bt⟩).length=CC op:=by unfold Br;rw[List.length_map];exact htr.1.symm
   obtain⟨n,hn,hn2⟩:=LD (l:=lF (Br c f ⟨op,(kd:Int),(ka:Int),(kb:Int),(kk:Int),nn,bt⟩)) w1 ((Br c f ⟨op,(kd:Int),(ka:Int),(kb:Int),(kk:Int),nn,bt⟩).length-1) (fun k hk=>by
    have htn:=htr.2;simp only at htn;unfold lF;rw[Ia oM];unfold Br;rw[List.getElem_map]
    exact(w2 _ (gD _)).2.2.1)
   have hwd:=hg.width (Aa c.regs (kd:Int));simp only at w1 hn2;have hval:(⟨UF (if(Aa c.regs (kd:Int)).kind=3 then lenOf c (Aa c.regs (kd:Int)).par else 1) (D3 op (Br c f ⟨op,(kd:Int),(ka:Int),(kb:Int),(kk:Int),nn,bt⟩)),0⟩:Hd)=Dj c G P f ⟨op,(kd:Int),(ka:Int),(kb:Int),(kk:Int),nn,bt⟩:=by
    rw[Y3 hg ok nd e hk2]
   refine(QZ p0 p1 p2 p3 p5 p6 p7 p8 c.sign.length q0 c.regs.length q1 c.slots.length q2 c.list.length q3 c.slots.length q5 O.length q6 G.length q7 P.length q8 ct pr qr X c.regs.length hX hXl op o1 o2 nn bt kd ka kb kk dl w hT hcs ⟨UF (if(Aa c.regs (kd:Int)).kind=3 then lenOf c (Aa c.regs (kd:Int)).par else 1) (D3 op (Br c f ⟨op,(kd:Int),(ka:Int),(kb:Int),(kk:Int),nn,bt⟩)),0⟩ (fun v hbv hsv=>?_)).mono ?_
   .rw[hal,<-hargs]at hn;have K:=Li c hg (.slice p0 c.sign.length q0) (.slice p1 c.regs.length q1) (.slice p2 c.slots.length q2) (.slice p3 c.list.length q3) (.slice pr c.regs.length qr) (.slice p5 c.slots.length q5) (.slice p6 O.length q6) (.slice p7 G.length q7) (.slice p8 P.length q8) (.int .i64 ct) X hX op nn bt kd ka kb kk dl oM oM oM (by rw[<-hty];exact hk2) (fun h=>hg.type (gD dl) h) (CC op) rfl htr.2 n hn oM oM (fun x hx=>(rel.xok x hx).1) (fun x hx=>(rel.xok x hx).2.1) v (hv.below hbv) (hcs.cs.below hbv);simp only at hargs;rw[hargs,<-hty]at K;refine K.mono ?_;rintro e' w' ⟨pe,qe,rfl,hne,hbl,hle⟩;exact⟨⟨pe,qe,⟨_,0⟩⟩,rfl,rfl,C6.free (B:=v.heap.size) hne hle (fun b hb=>Dk hT hb hsv),hbl⟩
   .exact Sw
theorem Qw{c:Cd}(hg:Good c){i:Ad}{s:Wk}(t:AG c s i=true)(v0 v1 v2 v3:Value)(w:World)(hv:CD w v0 v1 v2 v3 c):
 Calls prog 42 #[.agg #[v0,v1,v2,v3],.agg #[.int .i64 i.op,.int .i64 i.d,.int .i64 i.a,.int .i64 i.b,.int .i64 i.c,.int .i64 i.n,.int .u32 i.bits]] w fun e w'=>(∃n:Nat,n<=4096/\e=.returned (.int .i64 (n:Int)))/\Below w.heap.size w w':=by
 obtain⟨hk,h2,_,_⟩:=Ao t;obtain⟨op,D,A,B,Ec,nn,bt⟩:=i;simp only at hk |-;have hk':=hk;unfold Al at hk';simp only[Bool.and_eq_true,decide_eq_true_eq]at hk';by_cases h1:(3<=op/\op<=15)\/op=29\/op=30\/op=32
 .have hd:(A4 op).d≠0:=(Qq hk).2 oM;have:=Ag (Cw h2) hd;simp only at this;obtain⟨kd,rfl⟩:∃n:Nat,D=(n:Int):=⟨D.toNat,oM⟩
  exact XF c hg v0 v1 v2 v3 op A B Ec nn bt h1 kd oM w hv
 .by_cases h3:op=31\/op=33\/op=19\/op=20
  .have ha:(A4 op).a≠0:=by rcases h3 with rfl|rfl|rfl|rfl<;>decide
   have:=Ag (BD h2) ha;simp only at this;obtain⟨ka,rfl⟩:∃n:Nat,A=(n:Int):=⟨A.toNat,oM⟩
   exact XE c hg v0 v1 v2 v3 op D B Ec nn bt h3 ka oM w hv
  .exact XD v0 v1 v2 v3 op D A B Ec nn bt oM w
structure L3(T:Nat->Prop)(w:World)(a0 a1 a2 a3 a4:Value)(FB:Nat)(pr p5 p6:Option Addr)(n1 qr n2 q5 no q6:Nat)(gv pv:Value)(ct:Int)(X S O:List Cl)(v:World):Prop where
 sp:Jv w a0 a1 a2 a3 a4 FB (D4 a0 a1 a2 a3 (.slice pr n1 qr) (.slice p5 n2 q5) (.slice p6 no q6) gv pv (.int .i64 ct)) v
 cr:AT (T4 w T FB) v (.slice pr n1 qr) X
 cs:AT (T4 w T FB) v (.slice p5 n2 q5) S
 co:Ie (T4 w T FB) v (.slice p6 no q6) O
 ol:O.length=no
section
variable {T : Nat -> Prop} {w : World} {a0 a1 a2 a3 a4 : Value} {FB : Nat} {pr p5 p6 : Option Addr} {n1 qr n2 q5 no q6 : Nat} {gv pv : Value} {ct : Int} {X S O : List Cl} {v v' : World}
theorem L3.next(h:L3 T w a0 a1 a2 a3 a4 FB pr p5 p6 n1 qr n2 q5 no q6 gv pv ct X S O v)(k:Below v.heap.size v v'):L3 T w a0 a1 a2 a3 a4 FB pr p5 p6 n1 qr n2 q5 no q6 gv pv ct X S O v':=⟨h.sp.next k,h.cr.below k,h.cs.below k,h.co.below k,h.ol⟩
theorem L3.cost(h:L3 T w a0 a1 a2 a3 a4 FB pr p5 p6 n1 qr n2 q5 no q6 gv pv ct X S O v)(ct':Int):L3 T w a0 a1 a2 a3 a4 FB pr p5 p6 n1 qr n2 q5 no q6 gv pv ct' X S O (v.setCell ⟨FB,9,none⟩ (.int .i64 ct')):=by
 have hu:Un (fun b=>b=FB) v (v.setCell ⟨FB,9,none⟩ (.int .i64 ct')):=(Un.refl _ _).setCell rF _;exact⟨(h.sp.put 9 _).congr (E4 rfl rfl rfl rfl rfl rfl rfl rfl rfl rfl),h.cr.un hu (fun b _ e=>.inr (.inr e)),h.cs.un hu (fun b _ e=>.inr (.inr e)),h.co.un hu (fun b _ e=>.inr (.inr e)),h.ol⟩
theorem L3.put(h:L3 T w a0 a1 a2 a3 a4 FB pr p5 p6 n1 qr n2 q5 no q6 gv pv ct X S O v)(k:Below v.heap.size v v'){pr' p5' p6':Option Addr}{qr' q5' q6':Nat}{X' S' O':List Cl}(h1:AT (T4 w T FB) v' (.slice pr' n1 qr') X')(h2:AT (T4 w T FB) v' (.slice p5' n2 q5') S')(h3:Ie (T4 w T FB) v' (.slice p6' no q6') O')(hl:O'.length=O.length):
 L3 T w a0 a1 a2 a3 a4 FB pr' p5' p6' n1 qr' n2 q5' no q6' gv pv ct X' S' O' (N9 v' FB a0 a1 a2 a3 (.slice pr' n1 qr') (.slice p5' n2 q5') (.slice p6' no q6') gv pv (.int .i64 ct)):=by
 have hu:=Jr v' FB a0 a1 a2 a3 (.slice pr' n1 qr') (.slice p5' n2 q5') (.slice p6' no q6') gv pv (.int .i64 ct);exact⟨(h.sp.next k).putT _ _ _ _ _ _ _ _ _ _,h1.un hu (fun b _ e=>.inr (.inr e)),h2.un hu (fun b _ e=>.inr (.inr e)),h3.un hu (fun b _ e=>.inr (.inr e)),hl.trans h.ol⟩
theorem L3.cells(h:L3 T w a0 a1 a2 a3 a4 FB pr p5 p6 n1 qr n2 q5 no q6 gv pv ct X S O v):v.cell? ⟨FB,0,none⟩=some a0/\v.cell? ⟨FB,1,none⟩=some a1/\v.cell? ⟨FB,2,none⟩=some a2/\v.cell? ⟨FB,3,none⟩=some a3/\v.cell? ⟨FB,4,none⟩=some (.slice pr n1 qr)/\v.cell? ⟨FB,5,none⟩=some (.slice p5 n2 q5)/\v.cell? ⟨FB,6,none⟩=some (.slice p6 no q6)/\v.cell? ⟨FB,7,none⟩=some gv/\v.cell? ⟨FB,8,none⟩=some pv/\v.cell? ⟨FB,9,none⟩=some (.int .i64 ct):=
 ⟨h.sp.f.cell (i:=0) dE,h.sp.f.cell (i:=1) dE,h.sp.f.cell (i:=2) dE,h.sp.f.cell (i:=3) dE,h.sp.f.cell (i:=4) dE,h.sp.f.cell (i:=5) dE,h.sp.f.cell (i:=6) dE,h.sp.f.cell (i:=7) dE,h.sp.f.cell (i:=8) dE,h.sp.f.cell (i:=9) dE⟩
theorem L3.frz(h:L3 T w a0 a1 a2 a3 a4 FB pr p5 p6 n1 qr n2 q5 no q6 gv pv ct X S O v):∀i,v.frozen? ⟨FB,i,none⟩=false:=fun i=>h.sp.f.frozen i
theorem L3.code(h:L3 T w a0 a1 a2 a3 a4 FB pr p5 p6 n1 qr n2 q5 no q6 gv pv ct X S O v):v.cell? ⟨w.heap.size+1+1,0,none⟩=some a0/\v.cell? ⟨w.heap.size+1+1,1,none⟩=some a1/\v.cell? ⟨w.heap.size+1+1,2,none⟩=some a2/\v.cell? ⟨w.heap.size+1+1,3,none⟩=some a3:=
 ⟨h.sp.b.c.cell (i:=0) dE,h.sp.b.c.cell (i:=1) dE,h.sp.b.c.cell (i:=2) dE,h.sp.b.c.cell (i:=3) dE⟩
end
theorem Yz{v:World}{XB:Nat}{b0 b1 b2 b3 b4 b5 b6:Value}(h:v.rowIs XB 40 7 (f7 b0 b1 b2 b3 b4 b5 b6)):v.cell? ⟨XB,0,none⟩=some b0/\v.cell? ⟨XB,1,none⟩=some b1/\v.cell? ⟨XB,2,none⟩=some b2/\v.cell? ⟨XB,3,none⟩=some b3/\v.cell? ⟨XB,4,none⟩=some b4/\v.cell? ⟨XB,5,none⟩=some b5/\v.cell? ⟨XB,6,none⟩=some b6:=
 ⟨h.cell (i:=0) dE,h.cell (i:=1) dE,h.cell (i:=2) dE,h.cell (i:=3) dE,h.cell (i:=4) dE,h.cell (i:=5) dE,h.cell (i:=6) dE⟩
def DJ(LB:Nat)(os:List Nat):List Value:=os.map fun o=>.pointer (some ⟨LB,o,none⟩)
theorem Wo(LB:Nat)(a b:List Nat):DJ LB (a++b)=DJ LB a++DJ LB b:=by simp[DJ]
theorem Vw:(prog.info? 92).map (fun i=>(i.zero,i.size,i.bytes))=some (some (.pointer none),1,8):=kR
theorem QS{E LB:Nat}{V:World}{p:Option Addr}{q:Nat}{os:List Nat}(h:V.ownsRow E 92 1 (.slice p os.length q) os.length (DJ LB os))(hE:E<=V.heap.size){RB d:Nat}(ns:List Nat)(hn:∀j (hj:j<ns.length),V.cell? ⟨RB,j,none⟩=some (.pointer (some ⟨LB,ns[j],none⟩)))(hl:os.length+ns.length<=1000000)(ty:TypeId):
 ∃p' q' w',(Builtin.append_ #[60,60] ty #[.slice p os.length q,.slice (some ⟨RB,0,none⟩) ns.length d]).run prog V=.ok (.slice p' (os.length+ns.length) q') w'/\w'.ownsRow E 92 1 (.slice p' (os++ns).length q') (os++ns).length (DJ LB (os++ns))/\Below E V w'/\∀b,b<V.heap.size->(Value.slice p os.length q).ownBlock≠some b->w'.heap[b]? =V.heap[b]? :=by
 obtain⟨i0,hi0,hz0,hz1,hz2⟩:=info_parts Vw;obtain⟨v',w',hr,h2,h3,-,-⟩:=run_append_own_at (P:=prog) V E 60 ty 92 i0 _ 1 8 underlying60 hi0 hz0 hz1 hz2 rfl dE (.slice p os.length q) os.length (DJ LB os) h ⟨RB,0,none⟩ ns.length d (DJ LB ns) (by simp[DJ]) (fun j u hu=>by
  have hj:j<ns.length:=by have:=(List.getElem?_eq_some_iff.1 hu).1;simpa[DJ]using this
  have hadd:(⟨RB,0,none⟩:Addr).add j=⟨RB,j,none⟩:=by unfold Addr.add;split<;>simp_all
  rw[hadd,hn j hj]
  simpa[DJ,hj]using hu) (by simp[DJ,Value.oneCell']) mL oM hE
 obtain⟨p',q',rfl⟩:=AZ h2;refine⟨p',q',w',hr,?_,(Below.refl E V).grown h3 hE (fun b e=>(h.lt b e).1),fun b hb hne=>h3.block b hb (fun e=>hne e.symm)⟩;rw[List.length_append,Wo];exact h2
theorem Ns{E LB:Nat}{V:World}{p:Option Addr}{q:Nat}{os:List Nat}(h:V.ownsRow E 92 1 (.slice p os.length q) os.length (DJ LB os))(hE:E<=V.heap.size)(o:Nat)(hl:os.length+1<=1000000)(ty:TypeId):
 ∃p' q' w',(Builtin.append_ #[60,60] ty #[.slice p os.length q,.slice (some ⟨V.heap.size,0,none⟩) 1 1]).run prog (V.alloc (.cells #[.pointer (some ⟨LB,o,none⟩)] 92))=.ok (.slice p' (os.length+1) q') w'/\w'.ownsRow E 92 1 (.slice p' (os++[o]).length q') (os++[o]).length (DJ LB (os++[o]))/\Below E V w'/\∀b,b<V.heap.size->(Value.slice p os.length q).ownBlock≠some b->w'.heap[b]? =V.heap[b]? :=by
 have hb0:Below V.heap.size V (V.alloc (.cells #[.pointer (some ⟨LB,o,none⟩)] 92)):=A0 _ _;obtain⟨p',q',w',h1,h2,h3,h4⟩:=QS (LB:=LB) (Ak h hb0) (gH hE hb0.size) (RB:=V.heap.size) (d:=1) [o] (fun j hj=>by
  have:j=0:=by simp only[List.length_cons,List.length_nil]at hj;omega
  subst this
  simp[go_sem]) hl ty
 exact⟨p',q',w',h1,h2,(hb0.mono hE).trans h3,fun b hb hne=>(h4 b (Nat.lt_of_lt_of_le hb hb0.size) hne).trans (hb0.block b hb)⟩
def Bu(l:List Ad):Nat->List Nat
 |0=>[]
 |j+1=>match l[j]? with
  |some i=>(Bu l j++(if Af i=true then [7*j+1]else []))++[7*j+2,7*j+3,7*j+4].take (Ae i (A4 i.op)).length
  |none=>Bu l j
def BA(l:List Ad):Nat->List Nat
 |0=>[]
 |j+1=>match l[j]? with
  |some i=>BA l j++(if i.op=32\/i.op=33 then [7*j+5]else [])
  |none=>BA l j
theorem In{l:List Ad}{j:Nat}(hj:j<l.length):Bu l (j+1)=(Bu l j++(if Af l[j]=true then [7*j+1]else []))++[7*j+2,7*j+3,7*j+4].take (Ae l[j] (A4 l[j].op)).length:=by
 rw[Bu,gB hj]
theorem Io{l:List Ad}{j:Nat}(hj:j<l.length):BA l (j+1)=BA l j++(if l[j].op=32\/l[j].op=33 then [7*j+5]else []):=by
 rw[BA,gB hj]
theorem It(i:Ad):(Ae i (A4 i.op)).length<=3:=by
 rw[F2];have h1:=DS (A4 i.op).a i.a;have h2:=DS (A4 i.op).b i.b;have h3:=DS (A4 i.op).c i.c;simp only[List.length_append];omega
theorem JZ(l:List Ad):∀j,(Bu l j).length<=4*j
 |0=>gF _
 |j+1=>by
  have ih:=JZ l j;rw[Bu];split
  .rename_i i _;simp only[List.length_append,List.length_take,List.length_cons,List.length_nil];have:(if Af i=true then [7*j+1]else []).length<=1:=by split<;>simp
   omega
  .omega
theorem K7(l:List Ad):∀j,(BA l j).length<=j
 |0=>gF _
 |j+1=>by
  have ih:=K7 l j;rw[BA];split
  .rename_i i _;simp only[List.length_append];have:(if i.op=32\/i.op=33 then [7*j+5]else []).length<=1:=by split<;>simp
   omega
  .omega
theorem Wv(l:List Ad)(w:World)(p:Option Addr)(cap LB:Nat)(hp:0<l.length->p=some ⟨LB,0,none⟩)(hr:AV 7 C9 w (.slice p l.length cap) l)(hl:l.length<=32768):
 Calls prog 15 #[.slice p l.length cap] w fun e w'=>∃q d,e=.returned (.slice q (Bu l l.length).length d)/\w'.ownsRow w.heap.size 92 1 (.slice q (Bu l l.length).length d) (Bu l l.length).length (DJ LB (Bu l l.length))/\Below w.heap.size w w':=by
 have HR:=A7 hr;obtain⟨M,hM⟩:=gA (l.length)
 have HM:=A7 hM;simp only[hM]at HR hp hl |-;obtain⟨E,hE⟩:=gA (w.heap.size)
 have HE:=A7 hE;simp only[hE];have HP:=A7 hp;clear hr hM hE hp;go_enter func15,ntmps15;go_wp2
 go_loopw [9,3] (fun iv lv wr=>∃ (j:Nat) (q:Option Addr) (d:Nat),j<=M/\iv=.int .i64 (j:Int)/\lv=.slice q (Bu l j).length d/\Hid (Below E w wr/\E<=wr.heap.size/\wr.ownsRow E 92 1 (.slice q (Bu l j).length d) (Bu l j).length (DJ LB (Bu l j)))) (fun iv _ _=>M-(intOf iv).toNat)
 case atStart=>exact⟨0,none,0,gI _,rfl,rfl,Below.refl E w,by rw[HE.out];exact gF _,World.ownsRow_nil _ _ _ 1⟩
 case round=>
  obtain⟨j,q,d',hj,rfl,rfl,HJ⟩:=hrel;by_cases hlt:j<M
  .have hjl:j<l.length:=by have:=HM.out;omega
   have hpe:=HP.out oM;subst hpe;obtain⟨hbj,hEw,hO⟩:=HJ.out;have HRV:Hid (∀v,Below E w v->AV 7 C9 v (.slice (some ⟨LB,0,none⟩) M cap) l):=fun v hv=>HR.below (by rw[HE.out];exact hv);have HCV:Hid (∀v,Below E w v->Ar v LB (7*j) (C9 l[j])):=fun v hv=>by
    obtain⟨b,o,e,h9⟩:=(HRV.out v hv).at hjl;simp only[Option.some.injEq,Addr.mk.injEq]at e;obtain⟨rfl,rfl,-⟩:=e;rw[Nat.zero_add,Nat.mul_comm]at h9;exact h9
   have HNX:=A7 (In hjl);have HLE:Hid ((Bu l j).length<=200000):=by have:=JZ l j;show _<=_;omega
   have HRL:=A7 (It l[j]);obtain⟨⟨op,d,a,b,e,n,z⟩,hi⟩:∃i,l[j]=i:=⟨_,rfl⟩
   rw[hi]at HCV HNX HRL;have HYY:Hid (∀v,Below E w v->v.cell? ⟨LB,7*j,none⟩=some (.int .i64 op)/\v.cell? ⟨LB,7*j+1,none⟩=some (.int .i64 d)/\v.cell? ⟨LB,7*j+2,none⟩=some (.int .i64 a)/\v.cell? ⟨LB,7*j+3,none⟩=some (.int .i64 b)/\v.cell? ⟨LB,7*j+4,none⟩=some (.int .i64 e)/\v.cell? ⟨LB,7*j+5,none⟩=some (.int .i64 n)/\v.cell? ⟨LB,7*j+6,none⟩=some (.int .u32 z)):=fun v hv=>by
    have hcl:=HCV.out v hv;exact⟨by have h9:=hcl.at 0 (v:=.int .i64 op) rfl;rw[Nat.add_zero]at h9;exact h9,hcl.at 1 rfl,hcl.at 2 rfl,hcl.at 3 rfl,hcl.at 4 rfl,hcl.at 5 rfl,hcl.at 6 rfl⟩
   obtain⟨y0,y1,y2,y3,y4,y5,y6⟩:=HYY.out wr hbj;have i1:(0:Int)<=(j:Int):=oM;have i2:(j:Int)<(M:Int):=oM;have wi:IntKind.i64.wrap ((j:Int)+1)=((j+1:Nat):Int):=by rw[IntKind.wrap_i64];omega
   have j7:j*7=7*j:=Nat.mul_comm _ _;have KS:=A7 (fun v=>OG ⟨op,d,a,b,e,n,z⟩ v);have KR:=A7 (fun v=>LZ ⟨op,d,a,b,e,n,z⟩ v);unfold Ch at KS KR;simp only at KS KR;obtain⟨P0,hP0⟩:∃P,Bu l j=P:=⟨_,rfl⟩
   rw[hP0]at hO HNX HLE;rw[hP0];have HBJ:=A7 hbj;have HEW:=A7 hEw;have HO:=A7 hO;obtain⟨rs,hrs⟩:=gA (Ae (⟨op,d,a,b,e,n,z⟩:Ad) (A4 op))
   simp only[hrs]at KR HNX HRL;clear hi hbj hEw hO HJ hP0 hrs HCV;obtain⟨P1,hP1⟩:∃P,P0++(if Af (⟨op,d,a,b,e,n,z⟩:Ad)=true then [7*j+1]else [])=P:=⟨_,rfl⟩
   rw[hP1]at HNX;have HP1L:Hid (P1.length<=200001):=by
    rw[<-hP1,List.length_append];have h9:(if Af (⟨op,d,a,b,e,n,z⟩:Ad)=true then [7*j+1]else []).length<=1:=by split<;>simp
    have:=HLE.out;show _<=_;omega
   have HP1:=A7 hP1;clear hP1;obtain⟨sb,hsb⟩:=gA (((A4 op).d != 0))
   have hsB:Af (⟨op,d,a,b,e,n,z⟩:Ad)=sb:=by rw[<-hsb];simp only[Af];by_cases h9:(A4 op).d=0<;>simp[h9]
   rw[hsB]at HP1;simp only[hsb]at KS;clear hsb hsB;go_upto_if 18 with(go_at_call 31;(with_reducible refine(KS.out _).mono ?_);rintro e9 w4 ⟨rfl,hb4⟩;have HB4:=A7 hb4;clear hb4)
   go_cut [3] (fun lv wx=>∃ (q:Option Addr) (d':Nat),lv=.slice q P1.length d'/\Hid (Below E w wx/\E<=wx.heap.size/\wx.ownsRow E 92 1 (.slice q P1.length d') P1.length (DJ LB P1)))
   case first=>
    cases sb with
    |false=>
     have HP2:Hid (P1=P0):=by show _=_;rw[<-HP1.out];simp
     go_wp2;go_meet;rw[HP2.out];exact⟨q,d',rfl,HBJ.trans (HB4.mono HEW.out),gH HEW.out HB4.size,Ak HO.out HB4.out⟩
    |true=>
     have HP2:Hid (P1=P0++[7*j+1]):=by show _=_;rw[<-HP1.out];simp
     obtain⟨p',q',w5,r1,r2,r3,-⟩:=Ns (LB:=LB) (Ak HO.out HB4.out) (gH HEW.out HB4.size) (7*j+1) (by have:=HLE.out;omega) 60;rw[<-HP2.out]at r2;have HR1:=A7 r1;have HR2:=A7 r2;have HR3:=A7 r3;have HLN:Hid (P1.length=P0.length+1):=by show _=_;rw[HP2.out];simp
     clear r1 r2 r3;go_wp2_with(at_builtin;refine AO rF _ _ _ rF _ _ _ rF rF HR1.out ?_);go_meet;refine⟨p',q',by rw[HLN.out],(HBJ.trans (HB4.mono HEW.out)).trans HR3.out,gH (gH HEW.out HB4.size) HR3.size,HR2.out⟩
   case rest=>
    obtain⟨q5,d5,rfl,HC5⟩:=hcut;obtain⟨hb5,hE5,ho5⟩:=HC5.out;have HB5:=A7 hb5;have HE5:=A7 hE5;have HO5:=A7 ho5;obtain⟨u0,-⟩:=HYY.out wc hb5;have lLB:LB<wc.heap.size:=A8 u0;have nLB:¬LB=wc.heap.size:=oM;have k0:∀o,(wc.alloc o).cell? ⟨LB,7*j,none⟩=some (.int .i64 op):=fun o=>kc (A0 _ _) u0;clear HC5 hb5 hE5 ho5 HO y0 y1 y2 y3 y4 y5 y6 HBJ HEW KS HB4;go_upto_region 8 with fail;refine rG (fun v=>v.cell? ⟨LB,7*j,none⟩=some (.int .i64 op)) fun hJ=>?_;refine Tf 0 1 2 3 4 5 ?_;refine Tc 6 7 8 ?_;refine Bo 9 ?_;clear hJ;refine Aw 10 fun K hK=>?_;go_simp;refine Aq hK fun hJ=>?_;clear hK K;clear hJ;refine Aw 11 fun K hK=>?_;go_simp;refine Aq hK fun hJ=>?_;clear hK K;refine wpAnyH_done kR ?_ _;obtain⟨W6,hW6⟩:∃W,(wc.alloc (.cells #[.pointer (some ⟨LB,7*j+2,none⟩),.pointer (some ⟨LB,7*j+3,none⟩),.pointer (some ⟨LB,7*j+4,none⟩)] 93)).drew=W:=⟨_,rfl⟩
    rw[hW6];have HB6:Hid (Below wc.heap.size wc W6):=by rw[<-hW6];exact bel (A0 _ _) (A9 _)
    have HX6:Hid (∀k (hk:k<3),W6.cell? ⟨wc.heap.size,k,none⟩=some (.pointer (some ⟨LB,[7*j+2,7*j+3,7*j+4][k],none⟩))):=fun k hk=>by
     rw[<-hW6];rcases(show k=0\/k=1\/k=2 by omega)with rfl|rfl|rfl<;>simp[go_sem]
    have HBW:Hid (Below E w W6):=HB5.trans (HB6.mono HE5.out);obtain⟨y0,y1,y2,y3,y4,y5,y6⟩:=HYY.out W6 HBW.out;obtain⟨m,hm⟩:=gA (rs.length)
    have HNS:Hid (([7*j+2,7*j+3,7*j+4].take rs.length).length=m):=by show _=_;have:=HRL.out;rw[List.length_take];simp only[List.length_cons,List.length_nil];omega
    have HMM:Hid (m<=3):=by rw[<-hm];exact HRL.out
    have m3:(m:Int)<=3:=by have:=HMM.out;omega
    have m4:m<=3:=HMM.out;have m5:(0:Int)<=(m:Int):=oM;simp only[hm]at KR;clear hW6 hm u0 k0;go_upto_region 9 with fail;go_wp2_with(first
     |(go_at_call 32;(with_reducible refine(KR.out _).mono ?_);rintro e9 w7 ⟨v7,rfl,ho7,hb7⟩;obtain⟨p7,q7,rfl⟩:=AZ ho7;have HB7:=A7 hb7;obtain⟨p',q',w8,r1,r2,r3,-⟩:=QS (LB:=LB) (RB:=wc.heap.size) (d:=3) (Ak HO5.out (bel HB6.out HB7.out)) (gH HE5.out (bel HB6.out HB7.out).size) ([7*j+2,7*j+3,7*j+4].take rs.length) (fun k hk=>by
      have h9:k<3:=by have:=HNS.out;have:=HMM.out;omega
      rw[List.getElem_take]
      exact kc HB7.out (HX6.out k h9)) (by have:=HNS.out;have:=HMM.out;have:=HP1L.out;omega) 60;rw[<-HNX.out]at r2;rw[HNS.out]at r1;have HR1:=A7 r1;have HR2:=A7 r2;have HR3:=A7 r3;clear r1 r2 r3 ho7 hb7)
     |(at_builtin;refine AO rF _ _ _ rF _ _ _ rF rF HR1.out ?_))
    go_roundw
    case rel=>
     refine⟨j+1,p',q',oM,gN,?_,(HBW.trans (HB7.mono (gH HE5.out HB6.size))).trans HR3.out,gH (gH HE5.out (bel HB6.out HB7.out).size) HR3.size,HR2.out⟩;rw[HNX.out,List.length_append,HNS.out]
    case measure=>simp[intOf];omega
  .have e9:¬ (j:Int)<(M:Int):=oM;have hjn:j=M:=oM;subst hjn;have HE2:=A7 (And.intro HJ.2.2 HJ.1);clear hlt HJ;go_wp2;refine bodyPost_ret (by simp[results,results15,go_sem, *];try rfl) rfl ?_;exact⟨_,_,rfl,HE2.1,HE2.2⟩
theorem XO(l:List Ad)(w:World)(p:Option Addr)(cap LB:Nat)(hp:0<l.length->p=some ⟨LB,0,none⟩)(hr:AV 7 C9 w (.slice p l.length cap) l)(hl:l.length<=32768):
 Calls prog 17 #[.slice p l.length cap] w fun e w'=>∃q d,e=.returned (.slice q (BA l l.length).length d)/\w'.ownsRow w.heap.size 92 1 (.slice q (BA l l.length).length d) (BA l l.length).length (DJ LB (BA l l.length))/\Below w.heap.size w w':=by
 have HR:=A7 hr;obtain⟨M,hM⟩:=gA (l.length)
 have HM:=A7 hM;simp only[hM]at HR hp hl |-;obtain⟨E,hE⟩:=gA (w.heap.size)
 have HE:=A7 hE;simp only[hE];have HP:=A7 hp;clear hr hM hE hp;go_enter func17,ntmps17;go_wp2
 go_loopw [8,3] (fun iv lv wr=>∃ (j:Nat) (q:Option Addr) (d:Nat),j<=M/\iv=.int .i64 (j:Int)/\lv=.slice q (BA l j).length d/\Hid (Below E w wr/\E<=wr.heap.size/\wr.ownsRow E 92 1 (.slice q (BA l j).length d) (BA l j).length (DJ LB (BA l j)))) (fun iv _ _=>M-(intOf iv).toNat)
 case atStart=>exact⟨0,none,0,gI _,rfl,rfl,Below.refl E w,by rw[HE.out];exact gF _,World.ownsRow_nil _ _ _ 1⟩
 case round=>
  obtain⟨j,q,d',hj,rfl,rfl,HJ⟩:=hrel;by_cases hlt:j<M
  .have hjl:j<l.length:=by have:=HM.out;omega
   have hpe:=HP.out oM;subst hpe;obtain⟨hbj,hEw,hO⟩:=HJ.out;have HNX:=A7 (Io hjl);have HLE:Hid ((BA l j).length<=200000):=by have:=K7 l j;show _<=_;omega
   obtain⟨b0,o0,e0,hcl⟩:=(HR.below (by rw[HE.out];exact hbj)).at hjl;simp only[Option.some.injEq,Addr.mk.injEq]at e0;obtain⟨rfl,rfl,-⟩:=e0;rw[Nat.zero_add,Nat.mul_comm]at hcl;obtain⟨⟨op,d,a,b,e,n,z⟩,hi⟩:∃i,l[j]=i:=⟨_,rfl⟩
   rw[hi]at hcl HNX;have y0:=hcl.at 0 (v:=.int .i64 op) rfl;rw[Nat.add_zero]at y0;have i1:(0:Int)<=(j:Int):=oM;have i2:(j:Int)<(M:Int):=oM;have wi:IntKind.i64.wrap ((j:Int)+1)=((j+1:Nat):Int):=by rw[IntKind.wrap_i64];omega
   have j7:j*7=7*j:=Nat.mul_comm _ _;obtain⟨P0,hP0⟩:∃P,BA l j=P:=⟨_,rfl⟩
   rw[hP0]at hO HNX HLE;rw[hP0];simp only at HNX;have HBJ:=A7 hbj;have HEW:=A7 hEw;have HO:=A7 hO;clear hi hbj hEw hO HJ hP0 hcl;by_cases ho:op=32\/op=33
   .rw[if_pos ho]at HNX;obtain⟨p',q',w5,r1,r2,r3,-⟩:=Ns (LB:=LB) HO.out HEW.out (7*j+5) (by have:=HLE.out;omega) 60;rw[<-HNX.out]at r2;have HR1:=A7 r1;have HR2:=A7 r2;have HR3:=A7 r3;have HLN:Hid ((BA l (j+1)).length=P0.length+1):=by show _=_;rw[HNX.out];simp
    clear r1 r2 r3 HNX;rcases ho with ho|ho
    .have o1:(op==32)=true:=by simpa using ho
     exact Zdn
    .have o1:(op==32)=false:=sO;have o2:(op==33)=true:=by simpa using ho
     exact Zdn
   .rw[if_neg ho,List.append_nil]at HNX;have o1:(op==32)=false:=sO;have o2:(op==33)=false:=sO;clear ho;go_wp2;go_roundw
    case rel=>
     refine⟨j+1,q,d',oM,gN,by rw[HNX.out],HBJ.out,HEW.out,?_⟩;rw[HNX.out];exact HO.out
    case measure=>simp[intOf];omega
  .have e9:¬ (j:Int)<(M:Int):=oM;have hjn:j=M:=oM;subst hjn;have HE2:=A7 (And.intro HJ.2.2 HJ.1);clear hlt HJ;go_wp2;refine bodyPost_ret (by simp[results,results17,go_sem, *];try rfl) rfl ?_;exact⟨_,_,rfl,HE2.1,HE2.2⟩
def isT:Option Value->Bool
 |some (.bool true)=>true
 |_=>false
def lenT:Option Value->Nat
 |some (.slice _ n _)=>n
 |_=>0
def msr(L B DB:Nat)(w:World):Nat:=((List.range L).filter fun p=> !(isT (w.cell? ⟨DB,p,none⟩))).length+lenT (w.cell? ⟨B,6,none⟩)
theorem VG{l:List Ad}{E R S:Nat}{s:Gh}{q:Sr}{w:World}{B C GB TB AB NB DB:Nat}{vg vt:Nat->Value}{vd:Value}{tag:Nat->Nat}(h:BO E R S l.length s w B C GB TB AB NB DB vg vt vd tag)(hq:Er l s q):msr l.length B DB w=Cz l q:=by
 unfold msr Cz;have e1:(List.range l.length).filter (fun p=> !(isT (w.cell? ⟨DB,p,none⟩)))=(List.range l.length).filter (fun k=> !(q.nd k)):=List.filter_congr fun p hp=>by
  rw[h.d.cell (List.mem_range.1 hp),hq.nd];cases q.nd p<;>rfl
 obtain⟨po,cap,ev⟩:=AZ h.td;rw[e1,h.b6,ev];show _+s.todo.length=_;rw[hq.todo]
theorem Sq(l:List Ad)(q:Sr):q.todo.length<=Cz l q:=Nat.le_add_left _ _
theorem Er.pop{l:List Ad}{s:Gh}{q:Sr}(h:Er l s q)(t:List Nat):Er l {s with todo:=t} {q with todo:=t}:=⟨h.nd,rfl,h.sl,h.tl,h.ar,h.en⟩
theorem PP{α:Type}{l:List α}(h:0<l.length):∃t p,l=t++[p]/\t=l.take (l.length-1)/\l[l.length-1]? =some p/\t.length=l.length-1:=by
 have hne:l≠[]:=fun e=>by rw[e]at h;cases h
 refine⟨l.dropLast,l.getLast hne,(List.dropLast_concat_getLast hne).symm,List.dropLast_eq_take ..,?_,sM⟩;rw[List.getLast_eq_getElem,gB]
theorem id_prn(K:Nat->Bool)(l:List Ad){j:Nat}(h:j<l.length):Bc K id l (j+1)=if K j=true then Bc K id l j++[l[j]]else Bc K id l j:=by
 split
 .rename_i hk;exact DI h hk
 .rename_i hk;exact Gs (by simpa using hk)
theorem Q4(c:Cd)(hc:(Ai c).1=0)(w:World)(C:Nat)(p1 p2 p3:Option Addr)(q1 q2 q3:Nat)(hR:c.regs.length<=16384)(hS:c.slots.length<=4096)(hL:c.list.length<=32768)(hC1:w.cell? ⟨C,1,none⟩=some (.slice p1 c.regs.length q1))(hC2:w.cell? ⟨C,2,none⟩=some (.slice p2 c.slots.length q2))(hC3:w.cell? ⟨C,3,none⟩=some (.slice p3 c.list.length q3))(hl:AV 7 C9 w (.slice p3 c.list.length q3) c.list):
 Calls prog 13 #[.pointer (some ⟨C,0,none⟩)] w fun e w'=>∃p q,e=.returned (.slice p (Bc (ndK c.list) id c.list c.list.length).length q)/\w'.ownsRow w.heap.size 40 7 (.slice p (Bc (ndK c.list) id c.list c.list.length).length q) (Bc (ndK c.list) id c.list c.list.length).length (Au C9 (Bc (ndK c.list) id c.list c.list.length))/\((Bc (ndK c.list) id c.list c.list.length).length=0->p=none/\q=0)/\Below w.heap.size w w':=by
 have HL:=A7 hl;have KN:=A7 (VJ c hc w C p1 p2 p3 q1 q2 q3 hR hS hL hC1 hC2 hC3 hl);have HGO:Hid (∀ (p:Nat) (hp:p<c.list.length),(∀r∈Ae c.list[p] (A4 c.list[p].op),0<=r/\r<(c.regs.length:Int))/\(c.list[p].op=32->0<=c.list[p].n/\c.list[p].n<(c.slots.length:Int))):=fun p hp=>by
  obtain⟨h1,h2,h3⟩:=Bi.1 hc;obtain⟨t1,t2,t3,t4⟩:=Ao (Ck h2 hp);refine⟨fun r hr=>?_,fun o=>?_⟩
  .unfold Ae at hr;simp only[List.mem_append]at hr;rcases hr with hr|hr|hr
   .split at hr
    .cases hr
    .rename_i hl;simp only[List.mem_singleton]at hr;subst hr;exact Ag (BD t2) hl
   .split at hr
    .cases hr
    .rename_i hl;simp only[List.mem_singleton]at hr;subst hr;exact Ag (CP t2) hl
   .split at hr
    .cases hr
    .rename_i hl;simp only[List.mem_singleton]at hr;subst hr;exact Ag (CQ t2) hl
  .obtain⟨n,e1,e2⟩:=Gu hc hp (.inl o);rw[e1];omega
 have HST:=A7 (Sn hc);have HNX:=A7 (fun(q:Sr) (h:UD c.list q) (t:List Nat) (p:Nat) (ht:q.todo=t++[p])=>UD.next hc h ht);obtain⟨R,hRe⟩:∃N,c.regs.length=N:=⟨_,rfl⟩
 obtain⟨S,hSe⟩:∃N,c.slots.length=N:=⟨_,rfl⟩
 simp only[hRe]at KN HGO;simp only[hSe]at KN HGO;obtain⟨M,hMe⟩:=gA (c.list.length)
 have HM:=A7 hMe;simp only[hMe]at KN HL hC3 hL |-;clear hl hRe hSe hc hC1 hC2 hR hS hMe;go_enter func13,ntmps13;go_upto_region 2 with(go_at_call 28;(with_reducible refine(KN.out).mono ?_);rintro e9 w1 ⟨v1,rfl,B,GB,TB,AB,NB,DB,vg,vt,vd,tag,s,rfl,hk1,hs1,hb1⟩;have HK1:=A7 hk1;have HS1:=A7 hs1;have HB1:=A7 hb1;have d3:=kc hb1 hC3;clear hk1 hs1 hb1)
 obtain⟨E,hE⟩:=gA (w.heap.size)
 simp only[hE]at HK1 HB1 |-;have HE:=A7 hE;have HCE:Hid (C<E):=by rw[<-hE];exact A8 hC3
 have HC3:Hid (∀v,Below E w v->v.cell? ⟨C,3,none⟩=some (.slice p3 M q3)/\AV 7 C9 v (.slice p3 M q3) c.list):=fun v hv=>by
  have hv':Below w.heap.size w v:=by rw[HE.out];exact hv
  exact⟨kc hv' hC3,HL.below hv'⟩
 have HK0:Hid (Below E w w1/\∃s vg vt vd tag,BO E R S M s w1 B C GB TB AB NB DB vg vt vd tag/\Er c.list s (FK c.list 0)):=⟨HB1.out,s,vg,vt,vd,tag,HK1.out,HS1.out⟩
 clear hE HK1 HS1 HB1 KN hC3 HL;go_wp2;clear d3
 go_loopw [18] (fun iv wr=>∃j:Nat,j<=M/\iv=.int .i64 (j:Int)/\Hid (Below E w wr/\∃s vg vt vd tag,BO E R S M s wr B C GB TB AB NB DB vg vt vd tag/\Er c.list s (FK c.list j))) (fun iv _=>M-(intOf iv).toNat)
 case atStart=>exact⟨0,gI _,rfl,HK0.out⟩
 case round=>
  clear HK0;obtain⟨j,hj,rfl,HJ⟩:=hrel;by_cases hlt:j<M
  .have hjl:j<c.list.length:=by have:=HM.out;omega
   obtain⟨hbj,s,vg,vt,vd,tag,hK,hP⟩:=HJ.out;obtain⟨-,hrow⟩:=HC3.out wr hbj;obtain⟨lb,lo,rfl,hcl⟩:=hrow.at hjl;have HON:=A7 (fun o=>RC hjl o);have HOY:=A7 (fun o=>Oa hjl o);have htd:s.todo.length<=M:=by
    have h9:=(MR (l:=c.list) j oM).2.2.2;have h8:=Sq c.list (FK c.list j);have h7:=HM.out;rw[hP.todo];omega
   obtain⟨⟨op,d,a,b,e,n,z⟩,hi⟩:∃i,c.list[j]=i:=⟨_,rfl⟩
   rw[hi]at hcl HON HOY;simp only at HON HOY;have y0:=hcl.at 0 (v:=.int .i64 op) rfl;rw[Nat.add_zero]at y0;have y1:=hcl.at 1 (v:=.int .i64 d) rfl;have y2:=hcl.at 2 (v:=.int .i64 a) rfl;have y3:=hcl.at 3 (v:=.int .i64 b) rfl;have y4:=hcl.at 4 (v:=.int .i64 e) rfl;have y5:=hcl.at 5 (v:=.int .i64 n) rfl;have y6:=hcl.at 6 (v:=.int .u32 z) rfl;have llb:lb<wr.heap.size:=A8 y0;have n9:¬lb=wr.heap.size:=oM;have i1:(0:Int)<=(j:Int):=oM;have i2:(j:Int)<(M:Int):=oM;have wi:IntKind.i64.wrap ((j:Int)+1)=((j+1:Nat):Int):=by rw[IntKind.wrap_i64];omega
   obtain⟨V2,hV2⟩:∃V,wr.alloc (.cells #[.int .i64 op,.int .i64 d,.int .i64 a,.int .i64 b,.int .i64 e,.int .i64 n,.int .u32 z] 40)=V:=⟨_,rfl⟩
   have HB2:Hid (Below wr.heap.size wr V2):=by rw[<-hV2];exact A0 _ _
   have hX2:V2.rowIs wr.heap.size 40 7 (UX op d a b e n z):=by rw[<-hV2];exact BS wr _ _
   have x0:V2.cell? ⟨wr.heap.size,0,none⟩=some (.int .i64 op):=hX2.cell (i:=0) dE;have HBV:Hid (Below E w V2):=hbj.trans (HB2.mono hK.lt);have HKV:=A7 (hK.below HB2.out);have HP:=A7 hP;have HTD:=A7 htd;clear hX2 hcl hi llb hbj hK hP htd hrow HJ;by_cases o:op=31
   .have o1:(op==31)=true:=by simpa using o
    have HOJ:=A7 (HOY.out o);obtain⟨W6,hW6⟩:∃W,V2.alloc (.cells #[.int .i64 (j:Int)] 3)=W:=⟨_,rfl⟩
    have HB6:Hid (Below V2.heap.size V2 W6):=by rw[<-hW6];exact A0 _ _
    have HK6:Hid (BO E R S M s W6 B C GB TB AB NB DB vg vt vd (fun x=>if x<V2.heap.size then tag x else 0)):=(HKV.retag (fun x hx=>if_pos hx)).below HB6.out;have KE0:=FZ E R S M s W6 B C GB TB AB NB DB vg vt vd (fun x=>if x<V2.heap.size then tag x else 0) HK6.out V2.heap.size 1 0 (some ⟨V2.heap.size,0,none⟩) [j] (fun _=>rfl) (fun k hk=>by
     have hk2:k=0:=by simp only[List.length_cons,List.length_nil]at hk;omega
     rw[<-hW6];subst hk2
     simp[go_sem]) (fun _=>⟨if_neg oM,dE,dE,dE⟩) (fun x hx=>by
     simp only[List.mem_singleton]at hx
     rw[hx];exact hlt) Zgl oM
    rw[show [j].length=1 from rfl]at KE0;have KE:=A7 KE0;clear KE0;clear o HON HOY;go_upto_region 5 with fail;try rw[hV2]
    go_upto_region 6 with fail;go_wp2_with(go_at_call 29;(try rw[hW6]);(with_reducible refine(KE.out).mono ?_);rintro e9 w7 ⟨rfl,hb7,vd7,tag7,hk7,hs7⟩;have HB7:=A7 hb7;have HK7:=A7 hk7;clear hb7 hk7 hs7);go_roundw
    case rel=>
     refine⟨j+1,oM,gN,(HBV.trans (HB6.mono HKV.lt)).trans HB7.out,_,_,_,_,_,HK7.out,?_⟩;rw[HOJ.out];exact HP.need1 j
    case measure=>simp[intOf];omega
   .have o1:(op==31)=false:=by simpa using o
    have HOJ:=A7 (HON.out o);clear o HON HOY;go_upto_region 5 with fail;try rw[hV2]
    go_wp2;go_roundw
    case rel=>
     refine⟨j+1,oM,gN,HBV.out,_,_,_,_,_,HKV.out,?_⟩;rw[HOJ.out];exact HP.out
    case measure=>simp[intOf];omega
  .have e9:¬ (j:Int)<(M:Int):=oM;have hjn:j=c.list.length:=by have:=HM.out;omega
   have HK0:Hid (Below E w wr/\∃s vg vt vd tag q,BO E R S M s wr B C GB TB AB NB DB vg vt vd tag/\Er c.list s q/\UD c.list q/\Cz c.list q<=M):=by
    obtain⟨hbj,s,vg,vt,vd,tag,hK,hP⟩:=HJ.out;rw[hjn]at hP;refine⟨hbj,s,vg,vt,vd,tag,_,hK,hP,UD.begun c.list,?_⟩;have h9:=(MR (l:=c.list) c.list.length (gF _)).2.2.2;have:=HM.out;omega
   clear hlt hjn HJ hj;go_wp2
   go_loopw [6] (fun _ wr=>Hid (Below E w wr/\∃s vg vt vd tag q,BO E R S M s wr B C GB TB AB NB DB vg vt vd tag/\Er c.list s q/\UD c.list q/\Cz c.list q<=M)) (fun _ wr=>msr M B DB wr)
   case atStart=>exact HK0.out
   case round=>
    clear HK0;have HJ:=hrel;clear hrel;obtain⟨hbj,s,vg,vt,vd,tag,q,hK,hP,hI,hD⟩:=HJ.out;have b6:=hK.b6;have hML:=HM.out;have HMS:Hid (msr M B DB wr=Cz c.list q):=by show _=_;rw[<-hML]at hK |-;exact VG hK hP
    by_cases hlt:0<s.todo.length
    .obtain⟨t,p,t1,t2,t3,t4⟩:=PP hlt;obtain⟨g,cap,rfl,g1,g2,g3,g4,g5⟩:=Dc hK.td hlt;have hcp:=g5 (s.todo.length-1) (.int .i64 (p:Int)) (by simp[BN,t3]);obtain⟨hp,hI',hD'⟩:=HNX.out q hI t p (by rw[<-hP.todo];exact t1);have hown:wr.ownsRow E 3 1 (.slice (some ⟨g,0,none⟩) t.length cap) t.length (BN t):=by
      have h9:=G5 hK.td (m:=s.todo.length-1) oM;rw[Nat.mul_one,Mb,<-t2,<-t4]at h9;exact h9
     have hK5:=hK.setTodo hown (fun x hx=>hK.ttd x (by rw[<-hx];rfl));obtain⟨W5,hW5⟩:∃W,wr.setCell ⟨B,6,none⟩ (.slice (some ⟨g,0,none⟩) t.length cap)=W:=⟨_,rfl⟩
     rw[hW5]at hK5;have hB5:Below E w W5:=by rw[<-hW5];exact hbj.setCell hK.hB _
     obtain⟨c3,hrow⟩:=HC3.out W5 hB5;have htl:=Sq c.list q;have f6:=hK.b.frozen 6;have KG:=A7 (Vo c.list E R S _ _ W5 B C GB TB AB NB DB vg vt _ tag (by rw[hML];exact hK5) (hP.pop t) p3 q3 (by rw[hML];exact c3) (by rw[hML];exact hrow) p hp (HGO.out p hp).1 (HGO.out p hp).2 HST.out (by show t.length<=40000;have:=hP.todo;rw[this]at t4;omega) oM);simp only[hML]at KG;have HI':=A7 hI';have HD':Hid (Cz c.list (goQ c.list {q with todo:=t} p c.list[p])+1=Cz c.list q/\Cz c.list q<=M):=⟨hD',hD⟩
     have HB5:=A7 hB5;obtain⟨N,hN⟩:=gA (s.todo.length)
     obtain⟨N1,hN1⟩:∃N,t.length=N:=⟨_,rfl⟩
     rw[hN,hN1]at t4;simp only[hN]at b6 hlt hcp g3;rw[hN1]at hW5;rw[show N-1=N1 by omega]at hcp;have hNN:N=N1+1:=oM;subst hNN;have i1:(0:Int)<((N1+1:Nat):Int):=oM;have hmx:N1+1<=maxLen:=oM;unfold maxLen at hmx;have i3:IntKind.i64.wrap (N1:Int)=(N1:Int):=by rw[IntKind.wrap_i64];omega
     have i4:(0:Int)<=(N1:Int):=oM;have i5:(N1:Int)<((N1+1:Nat):Int):=oM;have i6:(N1:Int)<=(cap:Int):=oM;have i7:N1<=cap:=oM;clear hbj hK hP hI hD hI' hD' hK5 hB5 c3 hrow htl hown t1 t2 t3 t4 hN hN1 g1 g2 g4 g5 HJ hML;go_upto_region 12 with fail;try rw[hW5]
     clear hW5;go_wp2_with(go_at_call 30;(with_reducible refine(KG.out).mono ?_);rintro e9 w7 ⟨rfl,hb7,s7,vg7,vt7,vd7,tag7,hk7,hs7⟩;have HB7:=A7 hb7;have HK7:=A7 hk7;have HS7:=A7 hs7;clear hb7 hk7 hs7);go_roundw
     case rel=>
      refine⟨HB5.trans HB7.out,s7,vg7,vt7,vd7,tag7,_,HK7.out,HS7.out,HI'.out,?_⟩;have:=HD'.out;omega
     case measure=>
      have h9:msr M B DB w7=Cz c.list (goQ c.list {q with todo:=t} p c.list[p]):=by
       have hML:=HM.out;have h8:=HK7.out;rw[<-hML]at h8 |-;exact VG h8 HS7.out
      have h7:=HD'.out;have h6:=HMS.out;omega
    .have e8:s.todo.length=0:=oM;have HFI:Hid (Below E w wr/\wr.rowIs DB 4 M (fun p=>.bool (ndK c.list p))/\wr.cell? ⟨B,5,none⟩=some (.slice (some ⟨DB,0,none⟩) M M)/\wr.rowIs B 90 7 (En #[.pointer (some ⟨C,0,none⟩),.slice (some ⟨GB,0,none⟩) R R,.slice (some ⟨TB,0,none⟩) S S,.slice (some ⟨AB,0,none⟩) M M,.slice (some ⟨NB,0,none⟩) M M,.slice (some ⟨DB,0,none⟩) M M,vd])/\E<=wr.heap.size):=by
      refine⟨hbj,hK.d.congr fun k hk=>?_,hK.b5,hK.b,hK.lt⟩;rw[hP.nd,hI.done (by rw[<-hP.todo];exact List.eq_nil_of_length_eq_zero e8)]
     obtain⟨po,cap,rfl⟩:=AZ hK.td;rw[e8]at b6;have c3:=(HC3.out wr hbj).1;clear hlt hK hP hI hD HJ hbj HMS e8 hML HGO HST HNX;go_wp2;obtain⟨hbf,hDf,c5,hBf,hle⟩:=HFI.out;have HL0:Hid (Below E w wr/\wr.rowIs DB 4 M (fun p=>.bool (ndK c.list p))/\(∃f,wr.rowIs B 90 7 f/\f 5=.slice (some ⟨DB,0,none⟩) M M)/\E<=wr.heap.size/\wr.ownsRow E 40 7 (.slice none 0 0) (Bc (ndK c.list) id c.list 0).length (Au C9 (Bc (ndK c.list) id c.list 0))/\((Bc (ndK c.list) id c.list 0).length=0->(none:Option Addr)=none/\(0:Nat)=0)):=⟨hbf,hDf,⟨_,hBf,rfl⟩,hle,World.ownsRow_nil _ _ _ 7,fun _=>⟨rfl,rfl⟩⟩
     clear hbf hDf c5 hBf hle HFI c3 b6
     go_loopw [67,8] (fun iv lv wr=>∃ (j:Nat) (pl:Option Addr) (ql:Nat),j<=M/\iv=.int .i64 (j:Int)/\lv=.slice pl (Bc (ndK c.list) id c.list j).length ql/\Hid (Below E w wr/\wr.rowIs DB 4 M (fun p=>.bool (ndK c.list p))/\(∃f,wr.rowIs B 90 7 f/\f 5=.slice (some ⟨DB,0,none⟩) M M)/\E<=wr.heap.size/\wr.ownsRow E 40 7 (.slice pl (Bc (ndK c.list) id c.list j).length ql) (Bc (ndK c.list) id c.list j).length (Au C9 (Bc (ndK c.list) id c.list j))/\((Bc (ndK c.list) id c.list j).length=0->pl=none/\ql=0))) (fun iv _ _=>M-(intOf iv).toNat)
     case atStart=>exact⟨0,none,0,gI _,rfl,rfl,HL0.out⟩
     case round=>
      clear HL0;obtain⟨j,pl,ql,hj,rfl,rfl,HJ⟩:=hrel;by_cases hlt:j<M
      .have hjl:j<c.list.length:=by have:=HM.out;omega
       obtain⟨hbj,hD,⟨f,hF,hF5⟩,hEw,hO,hZ0⟩:=HJ.out;have HZ0:=A7 hZ0;clear hZ0;obtain⟨-,hrow⟩:=HC3.out wr hbj;obtain⟨lb,lo,rfl,hcl⟩:=hrow.at hjl;have HID:=A7 (id_prn (ndK c.list) c.list hjl);obtain⟨⟨op,d,a,b,e,n,z⟩,hi⟩:∃i,c.list[j]=i:=⟨_,rfl⟩
       rw[hi]at hcl HID;have y0:=hcl.at 0 (v:=.int .i64 op) rfl;rw[Nat.add_zero]at y0;have y1:=hcl.at 1 (v:=.int .i64 d) rfl;have y2:=hcl.at 2 (v:=.int .i64 a) rfl;have y3:=hcl.at 3 (v:=.int .i64 b) rfl;have y4:=hcl.at 4 (v:=.int .i64 e) rfl;have y5:=hcl.at 5 (v:=.int .i64 n) rfl;have y6:=hcl.at 6 (v:=.int .u32 z) rfl;have llb:lb<wr.heap.size:=A8 y0;have n9:¬lb=wr.heap.size:=oM;have i1:(0:Int)<=(j:Int):=oM;have i2:(j:Int)<(M:Int):=oM;have wi:IntKind.i64.wrap ((j:Int)+1)=((j+1:Nat):Int):=by rw[IntKind.wrap_i64];omega
       obtain⟨V2,hV2⟩:∃V,wr.alloc (.cells #[.int .i64 op,.int .i64 d,.int .i64 a,.int .i64 b,.int .i64 e,.int .i64 n,.int .u32 z] 40)=V:=⟨_,rfl⟩
       have HB2:Hid (Below wr.heap.size wr V2):=by rw[<-hV2];exact A0 _ _
       have hX2:V2.rowIs wr.heap.size 40 7 (UX op d a b e n z):=by rw[<-hV2];exact BS wr _ _
       have x0:V2.cell? ⟨wr.heap.size,0,none⟩=some (.int .i64 op):=hX2.cell (i:=0) dE;have x1:V2.cell? ⟨wr.heap.size,1,none⟩=some (.int .i64 d):=hX2.cell (i:=1) dE;have x2:V2.cell? ⟨wr.heap.size,2,none⟩=some (.int .i64 a):=hX2.cell (i:=2) dE;have x3:V2.cell? ⟨wr.heap.size,3,none⟩=some (.int .i64 b):=hX2.cell (i:=3) dE;have x4:V2.cell? ⟨wr.heap.size,4,none⟩=some (.int .i64 e):=hX2.cell (i:=4) dE;have x5:V2.cell? ⟨wr.heap.size,5,none⟩=some (.int .i64 n):=hX2.cell (i:=5) dE;have x6:V2.cell? ⟨wr.heap.size,6,none⟩=some (.int .u32 z):=hX2.cell (i:=6) dE;have HBV:Hid (Below E w V2):=hbj.trans (HB2.mono hEw);have HDV:=A7 (hD.of_block (HB2.block _ hD.lt));have HFV:=A7 (hF.of_block (HB2.block _ hF.lt));have HOV:=A7 (Ak hO HB2.out);have HEV:Hid (E<=V2.heap.size):=gH hEw HB2.size;have d5:V2.cell? ⟨B,5,none⟩=some (.slice (some ⟨DB,0,none⟩) M M):=by rw[<-hF5];exact HFV.cell (i:=5) dE
       have dd:=HDV.cell hlt;have hln:(Bc (ndK c.list) id c.list j).length<=32768:=by have:=G7 (ndK c.list) id c.list j;omega
       have HF5:=A7 hF5;obtain⟨P0,hP0⟩:∃P,Bc (ndK c.list) id c.list j=P:=⟨_,rfl⟩
       rw[hP0]at HOV hln HID HZ0;rw[hP0];clear hX2 hcl hi llb hbj hD hF hF5 hEw hO hrow HJ hP0;cases hn:ndK c.list j with
       |true=>
        rw[hn]at dd HID;simp only[if_true]at HID;obtain⟨g,cq,w6,hr,hb6,ho6,hoth,hat⟩:=G4 (t:=25) (e:=40) underlying25 Te rF dE HOV.out HEV.out #[.int .i64 op,.int .i64 d,.int .i64 a,.int .i64 b,.int .i64 e,.int .i64 n,.int .u32 z] rfl Sx mL oM 25;have HR:=A7 hr;have HB6:=A7 hb6;have HO6:Hid (w6.ownsRow E 40 7 (.slice (some ⟨g,0,none⟩) (P0.length+1) cq) (P0.length+1) (Au C9 (P0++[⟨op,d,a,b,e,n,z⟩]))):=by
         have e9:Au C9 (P0++[⟨op,d,a,b,e,n,z⟩])=Au C9 P0++[.int .i64 op,.int .i64 d,.int .i64 a,.int .i64 b,.int .i64 e,.int .i64 n,.int .u32 z]:=by simp[Au,C9,rkC]
         show World.ownsRow _ _ _ _ _ _ _;rw[e9];exact ho6
        have HD6:=A7 (HDV.of_block (hoth _ HDV.lt (GQ HOV.out HDV.out dE)));have HF6:=A7 (HFV.of_block (hoth _ HFV.lt (GQ HOV.out HFV.out dE)));obtain⟨PL,hPL⟩:∃k,P0.length+1=k:=⟨_,rfl⟩
        have HPL:Hid (P0.length+1=PL):=hPL;rw[hPL]at HR HO6;clear hr hb6 ho6 hoth hat hn hPL;go_upto_region 17 with fail;try rw[hV2]
        go_wp2_with(at_builtin;refine AO rF _ _ _ rF _ _ _ rF rF HR.out ?_);go_roundw
        case rel=>
         have hPL:=HPL.out;refine⟨j+1,some ⟨g,0,none⟩,cq,oM,gN,?_,HBV.trans HB6.out,HD6.out,⟨f,HF6.out,HF5.out⟩,gH HEV.out HB6.size,?_,fun h9=>?_⟩
         .rw[HID.out,List.length_append];exact congrArg (fun k=>Value.slice _ k _) hPL.symm
         .rw[HID.out,List.length_append,show P0.length+[(⟨op,d,a,b,e,n,z⟩:Ad)].length=PL from hPL];exact HO6.out
         .rw[HID.out,List.length_append]at h9;simp at h9
        case measure=>simp[intOf];omega
       |false=>
        rw[hn]at dd HID;simp only[Bool.false_eq_true,if_false]at HID;clear hn;go_upto_region 17 with fail;try rw[hV2]
        go_wp2;go_roundw
        case rel=>
         refine⟨j+1,pl,ql,oM,gN,by rw[HID.out],HBV.out,HDV.out,⟨f,HFV.out,HF5.out⟩,HEV.out,?_,?_⟩
         .rw[HID.out];exact HOV.out
         .rw[HID.out];exact HZ0.out
        case measure=>simp[intOf];omega
      .have e9:¬ (j:Int)<(M:Int):=oM;have hjn:j=M:=oM;subst hjn;have HE2:Hid (wr.ownsRow E 40 7 (.slice pl (Bc (ndK c.list) id c.list j).length ql) (Bc (ndK c.list) id c.list j).length (Au C9 (Bc (ndK c.list) id c.list j))/\((Bc (ndK c.list) id c.list j).length=0->pl=none/\ql=0)/\Below E w wr):=⟨HJ.2.2.2.2.1,HJ.2.2.2.2.2,HJ.1⟩
       clear hlt HJ;go_wp2;refine bodyPost_ret (by simp[results,results13,go_sem, *];try rfl) rfl ?_;rw[HE.out];exact⟨_,_,rfl,HE2.1,fun h9=>HE2.2.1 (by rw[h9];rfl),HE2.2.2⟩
theorem El{w:World}{b b' n n':Nat}{t t':TypeId}{f f':Nat->Value}(h:w.rowIs b t n f)(h':w.rowIs b' t' n' f')(ht:t≠t'):b≠b':=fun e=>by
 subst e;obtain⟨c,hc,-⟩:=h;obtain⟨c',hc',-⟩:=h';rw[hc]at hc';simp only[Option.some.injEq,Obj.cells.injEq]at hc';exact ht hc'.2.1
theorem C2{w:World}{B:Nat}{t t':TypeId}{k n n' b:Nat}{v:Value}{xs:List Value}{f:Nat->Value}(h:w.ownsRow B t k v n xs)(h':w.rowIs b t' n' f)(ht:t≠t'):v.ownBlock≠some b:=by
 exact Zdh
def IZ(offs:List Nat)(val:Nat->Nat)(r:Nat):Bool:=offs.any fun o=>val o==r
theorem VN{offs:List Nat}{j:Nat}(hj:j<offs.length)(val:Nat->Nat)(r:Nat):IZ (offs.take (j+1)) val r=if r=val offs[j]then true else IZ (offs.take j) val r:=by
 unfold IZ;rw[List.take_succ_eq_append_getElem hj,List.any_append];by_cases e:r=val offs[j]
 .rw[if_pos e,e];simp
 .rw[if_neg e];have:(val offs[j]==r)=false:=by simpa using fun q=>e q.symm
  simp[this]
theorem Rt{offs:List Nat}{val:Nat->Nat}{o:Nat}(h:o∈offs):IZ offs val (val o)=true:=List.any_eq_true.2 ⟨o,h,sM⟩
def C1{α:Type}(p:Nat->Bool)(l:List α):Nat->List α
 |0=>[]
 |j+1=>C1 p l j++(match l[j]? with |some x=>if p j then [x]else [] |none=>[])
theorem Fj{α:Type}(p:Nat->Bool){l:List α}{j:Nat}(hj:j<l.length):C1 p l (j+1)=if p j=true then C1 p l j++[l[j]]else C1 p l j:=by
 rw[C1,gB hj];by_cases hp:p j=true
 .simp[hp]
 .simp[hp]
theorem Oc{α:Type}(p:Nat->Bool)(l:List α):∀n,n<=l.length->((List.range n).filter p).filterMap (fun r=>l[r]?)=C1 p l n
 |0,_=>rfl
 |n+1,h=>by
  rw[List.range_succ,List.filter_append,List.filterMap_append,Oc p l n oM,Fj p oM];by_cases hp:p n=true
  .simp[hp,show n<l.length by omega]
  .simp[hp]
theorem LQ{α:Type}(p:Nat->Bool)(l:List α):C1 p l l.length=AU p l:=(Oc p l l.length (gF _)).symm
theorem Ir{α:Type}(p:Nat->Bool)(l:List α):∀n,n<=l.length->(C1 p l n).length=AA p n
 |0,_=>rfl
 |n+1,h=>by
  rw[Fj p oM,Ih,<-Ir p l n oM];split<;>simp
def DH(p:Nat->Bool)(j r:Nat):Int:=if r<j/\p r=true then(AA p r:Int)else 0
theorem Ts{p:Nat->Bool}{j:Nat}(hp:p j=true)(r:Nat):DH p (j+1) r=if r=j then(AA p j:Int)else DH p j r:=by
 unfold DH;by_cases e:r=j
 .rw[if_pos e,if_pos ⟨oM,by rw[e];exact hp⟩,e]
 .rw[if_neg e];by_cases h:r<j/\p r=true
  .rw[if_pos h,if_pos ⟨oM,h.2⟩]
  .rw[if_neg h,if_neg (fun q=>h ⟨oM,q.2⟩)]
theorem Zu{p:Nat->Bool}{j:Nat}(hp:p j=false)(r:Nat):DH p (j+1) r=DH p j r:=by
 unfold DH;by_cases h:r<j/\p r=true
 .rw[if_pos h,if_pos ⟨oM,h.2⟩]
 .have h2:¬ (r<j+1/\p r=true):=fun q=>by
   by_cases e:r=j
   .rw[e,hp]at q;cases q.2
   .exact h ⟨oM,q.2⟩
  rw[if_neg h,if_neg h2]
def fJ(offs:List Nat)(val:Nat->Nat)(f:Nat->Value)(j o:Nat):Value:=if o∈offs.take j then .int .i64 (AA (IZ offs val) (val o):Int)else f o
theorem R0{offs:List Nat}{j:Nat}(hj:j<offs.length)(val:Nat->Nat)(f:Nat->Value)(o:Nat):fJ offs val f (j+1) o=if o=offs[j]then .int .i64 (AA (IZ offs val) (val offs[j]):Int)else fJ offs val f j o:=by
 unfold fJ;rw[List.take_succ_eq_append_getElem hj];by_cases e:o=offs[j]
 .rw[if_pos e,if_pos (List.mem_append.2 (.inr (by rw[e];exact List.mem_singleton.2 rfl))),e]
 .rw[if_neg e];by_cases h:o∈offs.take j
  .rw[if_pos h,if_pos (List.mem_append.2 (.inl h))]
  .rw[if_neg h,if_neg (fun q=>(List.mem_append.1 q).elim h (fun q=>e (List.mem_singleton.1 q)))]
theorem fJ_at{offs:List Nat}(hn:offs.Nodup){j:Nat}(hj:j<offs.length)(val:Nat->Nat)(f:Nat->Value):fJ offs val f j offs[j]=f offs[j]:=by
 unfold fJ;rw[if_neg];intro hm;obtain⟨k,hk,e⟩:=List.mem_iff_getElem.1 hm;rw[List.length_take]at hk;rw[List.getElem_take]at e;have:=(List.getElem_inj hn).1 e;omega
structure RnV(E IB K LB N0:Nat)(offs:List Nat)(val:Nat->Nat)(f:Nat->Value)(w w':World):Prop where
 bel:Below E w w'
 nm:w'.rowIs IB 4 K (fun r=>.bool (IZ offs val r))
 li:N0=0\/w'.rowIs LB 40 N0 (fJ offs val f offs.length)
 oth:∀b,b<w.heap.size->b≠IB->b≠LB->w'.heap[b]? =w.heap[b]?
theorem ren_Sl(E:Nat)(w:World)(all:List Sl)(p1:Option Addr)(q1:Nat)(HA:∀v,Below E w v->AV 5 Jf v (.slice p1 all.length q1) all)(offs:List Nat)(val:Nat->Nat)(LB N0:Nat)(f:Nat->Value)(hL:∀o∈offs,o<N0/\f o=.int .i64 (val o:Int)/\val o<all.length)(hLM:N0=0\/w.rowIs LB 40 N0 f)(pf:Option Addr)(qf:Nat)(hF:w.ownsRow E 92 1 (.slice pf offs.length qf) offs.length (DJ LB offs))(IB K:Nat)(hI:w.rowIs IB 4 K (fun _=>.bool false))(hK:all.length<=K)(hE:E<=w.heap.size/\E<=IB/\E<=LB)(hnd:offs.Nodup)(ha:all.length<=16384)(ho:offs.length<=200000):
 Calls prog 16 #[.slice p1 all.length q1,.slice pf offs.length qf,.slice (some ⟨IB,0,none⟩) K K] w fun e w'=>∃pr qr,e=.returned (.slice pr (AU (IZ offs val) all).length qr)/\w'.ownsRow w.heap.size 64 5 (.slice pr (AU (IZ offs val) all).length qr) (AU (IZ offs val) all).length (Au Jf (AU (IZ offs val) all))/\RnV E IB K LB N0 offs val f w w':=by
 have HAA:=A7 HA;have HL:=A7 hL;have HLM:=A7 hLM;have HF:=A7 hF;have HI:=A7 hI;have HEE:=A7 hE;have HND:=A7 hnd;have HO1:Hid (∀j (hj:j<offs.length),∃FB,pf=some ⟨FB,0,none⟩/\(∃c,w.heap[FB]? =some (.cells c 92 (0,0)))/\FB<w.heap.size/\w.cell? ⟨FB,j,none⟩=some (.pointer (some ⟨LB,offs[j],none⟩))):=fun j hj=>by
  exact Zcw
 obtain⟨A,hA⟩:=gA (all.length)
 obtain⟨n,hn⟩:=gA (offs.length)
 have HAL:=A7 hA;have HNL:=A7 hn;simp only[hA]at HAA HL hK ha |-;simp only[hn]at HF ho |-;have m1:=fun v=>PV A oM v;obtain⟨nm,hnm⟩:=gA (IZ offs val)
 have HNM:=A7 hnm;simp only[hnm];obtain⟨H0,hH0⟩:∃H,w.heap.size=H:=⟨_,rfl⟩
 have HH0:=A7 hH0;simp only[hH0]at HEE;rw[hH0];clear HA hL hLM hF hI hE hnd hA hn hH0 hnm;go_enter func16,ntmps16;go_wp2
 go_loopw [17] (fun iv wr=>∃j:Nat,j<=n/\iv=.int .i64 (j:Int)/\Hid (Below E w wr/\wr.rowIs IB 4 K (fun r=>.bool (IZ (offs.take j) val r))/\(∀b,b<H0->b≠IB->wr.heap[b]? =w.heap[b]?)/\H0<=wr.heap.size)) (fun iv _=>n-(intOf iv).toNat)
 case atStart=>
  refine⟨0,gI _,rfl,Below.refl E w,HI.out,fun _ _ _=>rfl,by rw[HH0.out];exact gF _⟩
 case round=>
  obtain⟨j,hj,rfl,HJ⟩:=hrel;by_cases hlt:j<n
  .exact Zaw
  .have e9:¬ (j:Int)<(n:Int):=oM;have hjn:j=offs.length:=by have:=HNL.out;omega
   obtain⟨hbj,hIj,hoth,hsz⟩:=HJ.out;rw[hjn,List.take_length]at hIj;have i0:(0:Int)<=(A:Int):=oM;obtain⟨V,hV⟩:=gA (wr.alloc (.cells (madeCells #[.int .i64 0] A) 3))
   have HBV:Hid (Below wr.heap.size wr V):=by rw[<-hV];exact A0 _ _
   obtain⟨XB,hXB⟩:∃X,wr.heap.size=X:=⟨_,rfl⟩
   have hXr:V.rowIs XB 3 A (fun _=>.int .i64 0):=by rw[<-hV,<-hXB];exact World.rowIs_made wr (.int .i64 0) A 3
   rw[HNM.out]at hIj;have HK0:Hid (Below E w V/\V.rowIs IB 4 K (fun r=>.bool (nm r))/\(∀b,b<H0->b≠IB->V.heap[b]? =w.heap[b]?)/\H0<=XB/\H0<=V.heap.size/\V.rowIs XB 3 A (fun r=>.int .i64 (DH nm 0 r))/\V.ownsRow H0 64 5 (.slice none 0 0) (C1 nm all 0).length (Au Jf (C1 nm all 0))):=by
    have hE:=HEE.1;refine⟨hbj.trans (HBV.mono (gH hE hsz)),hIj.of_block (HBV.block _ hIj.lt),fun b hb hne=>(HBV.block b (Nat.lt_of_lt_of_le hb hsz)).trans (hoth b hb hne),by rw[<-hXB];exact hsz,gH hsz HBV.size,hXr.congr fun r hr=>?_,World.ownsRow_nil _ _ _ 5⟩;unfold DH;rw[if_neg oM]
   clear hlt hjn hbj hIj hoth hsz hXr HJ HBV;go_wp2;try rw[hV]
   try rw[hXB]
   clear hV hXB
   go_loopw [32,9] (fun iv lv wr=>∃ (j:Nat) (pl:Option Addr) (ql:Nat),j<=A/\iv=.int .i64 (j:Int)/\lv=.slice pl (C1 nm all j).length ql/\Hid (Below E w wr/\wr.rowIs IB 4 K (fun r=>.bool (nm r))/\(∀b,b<H0->b≠IB->wr.heap[b]? =w.heap[b]?)/\H0<=XB/\H0<=wr.heap.size/\wr.rowIs XB 3 A (fun r=>.int .i64 (DH nm j r))/\wr.ownsRow H0 64 5 (.slice pl (C1 nm all j).length ql) (C1 nm all j).length (Au Jf (C1 nm all j)))) (fun iv _ _=>A-(intOf iv).toNat)
   case atStart=>exact⟨0,none,0,gI _,rfl,rfl,HK0.out⟩
   case round=>
    clear HK0;obtain⟨j,pl,ql,hj,rfl,rfl,HJ⟩:=hrel;by_cases hlt:j<A
    .have hjl:j<all.length:=by have:=HAL.out;omega
     obtain⟨hbj,hIj,hoth,hX0,hsz,hXj,hO⟩:=HJ.out;obtain⟨lb,lo,rfl,hcl⟩:=(HAA.out wr hbj).at hjl;have HPN:=A7 (Fj nm hjl);have hpl:(C1 nm all j).length=AA nm j:=Ir nm all j oM;have hcu:AA nm j<=16384:=by have h9:AA nm j<=j:=gH (List.length_filter_le _ _) sM;omega
     obtain⟨⟨⟨kd,pr⟩,kp,bt,it⟩,hi⟩:∃i,all[j]=i:=⟨_,rfl⟩
     rw[hi]at hcl HPN;have y0:=hcl.at 0 (v:=.int .i64 kd) rfl;rw[Nat.add_zero]at y0;have y1:=hcl.at 1 (v:=.int .i64 pr) rfl;have y2:=hcl.at 2 (v:=.bool kp) rfl;have y3:=hcl.at 3 (v:=.int .u32 bt) rfl;have y4:=hcl.at 4 (v:=.int .i64 it) rfl;have llb:lb<wr.heap.size:=A8 y0;have n9:¬lb=wr.heap.size:=oM;have i1:(0:Int)<=(j:Int):=oM;have i2:(j:Int)<(A:Int):=oM;have i3:(j:Int)<(K:Int):=oM;have wi:IntKind.i64.wrap ((j:Int)+1)=((j+1:Nat):Int):=by rw[IntKind.wrap_i64];omega
     obtain⟨V2,hV2⟩:∃V,wr.alloc (.cells #[.int .i64 kd,.int .i64 pr,.bool kp,.int .u32 bt,.int .i64 it] 64)=V:=⟨_,rfl⟩
     have HB2:Hid (Below wr.heap.size wr V2):=by rw[<-hV2];exact A0 _ _
     have hX2:V2.rowIs wr.heap.size 64 5 (En #[.int .i64 kd,.int .i64 pr,.bool kp,.int .u32 bt,.int .i64 it]):=by rw[<-hV2];exact BS wr _ _
     have x0:V2.cell? ⟨wr.heap.size,0,none⟩=some (.int .i64 kd):=hX2.cell (i:=0) dE;have x1:V2.cell? ⟨wr.heap.size,1,none⟩=some (.int .i64 pr):=hX2.cell (i:=1) dE;have x2:V2.cell? ⟨wr.heap.size,2,none⟩=some (.bool kp):=hX2.cell (i:=2) dE;have x3:V2.cell? ⟨wr.heap.size,3,none⟩=some (.int .u32 bt):=hX2.cell (i:=3) dE;have x4:V2.cell? ⟨wr.heap.size,4,none⟩=some (.int .i64 it):=hX2.cell (i:=4) dE;have HXB2:=A7 hX2;have hI2:=hIj.of_block (HB2.block _ hIj.lt);have hXJ2:=hXj.of_block (HB2.block _ hXj.lt);have hO2:=Ak hO HB2.out;have hd:=hI2.cell (show j<K by omega);have hn2:=hXJ2.cell hlt;have hf2:=hXJ2.frozen j;have HBV:Hid (Below E w V2):=hbj.trans (HB2.mono (gH HEE.1 hsz));have HOT:Hid (∀b,b<H0->b≠IB->V2.heap[b]? =w.heap[b]?):=fun b hb hne=>(HB2.block b (Nat.lt_of_lt_of_le hb hsz)).trans (hoth b hb hne);have HS2:Hid (H0<=XB/\H0<=V2.heap.size):=⟨hX0,gH hsz HB2.size⟩
     have HI2:=A7 hI2;have HX2:=A7 hXJ2;have HO2:=A7 hO2;obtain⟨P0,hP0⟩:∃P,C1 nm all j=P:=⟨_,rfl⟩
     rw[hP0]at HO2 HPN hpl;rw[hP0];have HPL:=A7 hpl;have HCU:=A7 hcu;clear hbj hIj hoth hX0 hsz hXj hO hcl hi llb hX2 hI2 hXJ2 hO2 HJ hP0 hpl hcu;cases hb:nm j with
     |true=>
      rw[hb]at hd HPN;simp only[if_true]at HPN;obtain⟨W3,hW3⟩:∃W,V2.setCell ⟨XB,j,none⟩ (.int .i64 (P0.length:Int))=W:=⟨_,rfl⟩
      have nXB:XB≠V2.heap.size:=by have:=HX2.lt;omega
      have hOX:=C2 HO2.out HX2.out dE;have hO3:=Ac HO2.out (w':=W3) (fun g hg=>by rw[<-hW3];exact gE (fun(q:g=XB)=>hOX (by rw[<-q];exact hg)));have hX3:W3.rowIs XB 3 A (fun r=>.int .i64 (DH nm (j+1) r)):=by
       exact Zfe
      have hI3:W3.rowIs IB 4 K (fun r=>.bool (nm r)):=by rw[<-hW3];exact HI2.setOther (a:=⟨XB,j,none⟩) (El HI2.out HX2.out dE) _
      have hB3:W3.rowIs wr.heap.size 64 5 (En #[.int .i64 kd,.int .i64 pr,.bool kp,.int .u32 bt,.int .i64 it]):=by rw[<-hW3];exact HXB2.setOther (a:=⟨XB,j,none⟩) (El HXB2.out HX2.out dE) _
      have hBW:Below E w W3:=by rw[<-hW3];exact HBV.setCell (gH HEE.1 HS2.1) _
      have hOT3:∀b,b<H0->b≠IB->W3.heap[b]? =w.heap[b]? :=fun b hb' hne=>by rw[<-hW3];exact(gE (fun(q:b=XB)=>by have:=HS2.1;omega)).trans (HOT.out b hb' hne)
      have hS3:H0<=W3.heap.size:=by rw[<-hW3];simpa using HS2.2
      obtain⟨g,cq,w6,hr,hb6,ho6,hoth6,hat⟩:=G4 (t:=24) (e:=64) underlying24 Ti rF dE hO3 hS3 #[.int .i64 kd,.int .i64 pr,.bool kp,.int .u32 bt,.int .i64 it] rfl Sx Zhn (by have:=HPL.out;have:=HCU.out;omega) 24;have z0:W3.cell? ⟨wr.heap.size,0,none⟩=some (.int .i64 kd):=hB3.cell (i:=0) dE;have z1:W3.cell? ⟨wr.heap.size,1,none⟩=some (.int .i64 pr):=hB3.cell (i:=1) dE;have z2:W3.cell? ⟨wr.heap.size,2,none⟩=some (.bool kp):=hB3.cell (i:=2) dE;have z3:W3.cell? ⟨wr.heap.size,3,none⟩=some (.int .u32 bt):=hB3.cell (i:=3) dE;have z4:W3.cell? ⟨wr.heap.size,4,none⟩=some (.int .i64 it):=hB3.cell (i:=4) dE;have HR:=A7 hr;have HN6:Hid (Below E w w6/\w6.rowIs IB 4 K (fun r=>.bool (nm r))/\(∀b,b<H0->b≠IB->w6.heap[b]? =w.heap[b]?)/\H0<=XB/\H0<=w6.heap.size/\w6.rowIs XB 3 A (fun r=>.int .i64 (DH nm (j+1) r))/\w6.ownsRow H0 64 5 (.slice (some ⟨g,0,none⟩) (P0.length+1) cq) (P0.length+1) (Au Jf (P0++[(⟨⟨kd,pr⟩,kp,bt,it⟩:Sl)]))):=by
       refine⟨hBW.trans (hb6.mono HEE.1),hI3.of_block (hoth6 _ hI3.lt (C2 hO3 hI3 dE)),fun b hb' hne=>(hb6.block b hb').trans (hOT3 b hb' hne),HS2.1,gH hS3 hb6.size,hX3.of_block (hoth6 _ hX3.lt (C2 hO3 hX3 dE)),?_⟩;have e9:Au Jf (P0++[(⟨⟨kd,pr⟩,kp,bt,it⟩:Sl)])=Au Jf P0++[.int .i64 kd,.int .i64 pr,.bool kp,.int .u32 bt,.int .i64 it]:=by simp[Au,Jf]
       rw[e9];exact ho6
      obtain⟨PL,hPL⟩:∃k,P0.length+1=k:=⟨_,rfl⟩
      have HPL1:=A7 hPL;rw[hPL]at HR HN6;clear hr hb6 ho6 hoth6 hat hb hPL hO3 hX3 hI3 hB3 hBW hOT3 hS3 hOX nXB;go_upto_region 11 with fail;try rw[hV2]
      go_upto_region 13 with fail;try rw[hW3]
      go_wp2_with(at_builtin;refine AO rF _ _ _ rF _ _ _ rF rF HR.out ?_);go_roundw
      case rel=>
       refine⟨j+1,some ⟨g,0,none⟩,cq,oM,gN,?_,?_⟩
       .rw[HPN.out,List.length_append];exact congrArg (fun k=>Value.slice _ k _) HPL1.symm
       .rw[HPN.out,List.length_append,show P0.length+[(⟨⟨kd,pr⟩,kp,bt,it⟩:Sl)].length=PL from HPL1.out];exact HN6.out
      case measure=>simp[intOf];omega
     |false=>
      exact Zcq
    .have e8:¬ (j:Int)<(A:Int):=oM;have hjn:j=A:=oM;subst hjn;obtain⟨hbj,hIj,hoth,hX0,hsz,hXj,hO⟩:=HJ.out;have HPU:Hid (C1 nm all j=AU nm all):=by show _=_;rw[<-LQ,HAL.out]
     rw[HPU.out]at hO;rw[HPU.out];obtain⟨PN,hPN⟩:∃k,(AU nm all).length=k:=⟨_,rfl⟩
     have HPNL:=A7 hPN;rw[hPN]at hO;rw[hPN];have HK0:Hid (Below E w wr/\wr.rowIs IB 4 K (fun r=>.bool (nm r))/\(∀b,b<H0->b≠IB->b≠LB->wr.heap[b]? =w.heap[b]?)/\H0<=XB/\wr.rowIs XB 3 j (fun r=>.int .i64 (DH nm j r))/\wr.ownsRow H0 64 5 (.slice pl PN ql) PN (Au Jf (AU nm all))/\(N0=0\/wr.rowIs LB 40 N0 (fJ offs val f 0))):=by
      exact Zdl
     clear hlt hbj hIj hoth hX0 hsz hXj hO HJ hPN HPU m1;go_wp2
     go_loopw [53] (fun iv wr=>∃m:Nat,m<=n/\iv=.int .i64 (m:Int)/\Hid (Below E w wr/\wr.rowIs IB 4 K (fun r=>.bool (nm r))/\(∀b,b<H0->b≠IB->b≠LB->wr.heap[b]? =w.heap[b]?)/\H0<=XB/\wr.rowIs XB 3 j (fun r=>.int .i64 (DH nm j r))/\wr.ownsRow H0 64 5 (.slice pl PN ql) PN (Au Jf (AU nm all))/\(N0=0\/wr.rowIs LB 40 N0 (fJ offs val f m)))) (fun iv _=>n-(intOf iv).toNat)
     case atStart=>exact⟨0,gI _,rfl,HK0.out⟩
     case round=>
      clear HK0;obtain⟨m,hm,rfl,HJ⟩:=hrel;by_cases hlt:m<n
      .have hml:m<offs.length:=by have:=HNL.out;omega
       obtain⟨hbj,hIj,hoth,hX0,hXj,hO,hLj⟩:=HJ.out;obtain⟨FB,rfl,⟨cF,hcF⟩,lF,hc⟩:=HO1.out m hml;obtain⟨l1,l2,l3⟩:=HL.out _ (gD hml);have hLr:wr.rowIs LB 40 N0 (fJ offs val f m):=hLj.resolve_left oM;have hLw:w.rowIs LB 40 N0 f:=HLM.resolve_left oM;have nFI:FB≠IB:=fun e=>by
        obtain⟨c,hc',-⟩:=HI.out;exact Zcf
       have nFL:FB≠LB:=fun e=>by
        obtain⟨c,hc',-⟩:=hLw;exact Zcf
       have h0:=HH0.out;have x0:wr.cell? ⟨FB,m,none⟩=some (.pointer (some ⟨LB,offs[m],none⟩)):=(gC (a:=⟨FB,m,none⟩) (hoth FB oM nFI nFL)).trans hc;have x1:wr.cell? ⟨LB,offs[m],none⟩=some (.int .i64 (val offs[m]:Int)):=by
        rw[<-l2,<-fJ_at HND.out hml val f];exact hLr.cell l1
       have x2:=hLr.frozen offs[m];have hnv:DH nm j (val offs[m])=(AA nm (val offs[m]):Int):=by
        unfold DH;rw[if_pos ⟨l3,by rw[<-HNM.out];exact Rt (gD hml)⟩]
       have x3:=hXj.cell l3;rw[hnv]at x3;have HFN:=A7 (fun o=>R0 hml val f o);have HLX:Hid (LB≠XB/\LB≠IB/\E<=LB):=⟨El hLr hXj dE,El hLr hIj dE,HEE.2.2⟩
       obtain⟨o,ho'⟩:=gA (offs[m])
       rw[ho']at x0 x1 x2 x3 l3 HFN;obtain⟨r,hr⟩:=gA (val o)
       rw[hr]at x1 x3 l3;simp only[hr,HNM.out]at HFN;obtain⟨cr,hcr⟩:∃c,AA nm r=c:=⟨_,rfl⟩
       rw[hcr]at x3;simp only[hcr]at HFN;have i1:(0:Int)<=(m:Int):=oM;have i2:(m:Int)<(n:Int):=oM;have i3:(0:Int)<=(r:Int):=oM;have i4:(r:Int)<(j:Int):=oM;have wi:IntKind.i64.wrap ((m:Int)+1)=((m+1:Nat):Int):=by rw[IntKind.wrap_i64];omega
       have HNX:Hid (Below E w (wr.setCell ⟨LB,o,none⟩ (.int .i64 (cr:Int)))/\(wr.setCell ⟨LB,o,none⟩ (.int .i64 (cr:Int))).rowIs IB 4 K (fun r=>.bool (nm r))/\(∀b,b<H0->b≠IB->b≠LB->(wr.setCell ⟨LB,o,none⟩ (.int .i64 (cr:Int))).heap[b]? =w.heap[b]?)/\H0<=XB/\(wr.setCell ⟨LB,o,none⟩ (.int .i64 (cr:Int))).rowIs XB 3 j (fun r=>.int .i64 (DH nm j r))/\(wr.setCell ⟨LB,o,none⟩ (.int .i64 (cr:Int))).ownsRow H0 64 5 (.slice pl PN ql) PN (Au Jf (AU nm all))/\(N0=0\/(wr.setCell ⟨LB,o,none⟩ (.int .i64 (cr:Int))).rowIs LB 40 N0 (fJ offs val f (m+1)))):=by
        exact Zcn
       exact Zeg
      .have e7:¬ (m:Int)<(n:Int):=oM;have hmn:m=offs.length:=by have:=HNL.out;omega
       have HFI:Hid (wr.ownsRow H0 64 5 (.slice pl PN ql) PN (Au Jf (AU nm all))/\RnV E IB K LB N0 offs val f w wr):=by
        exact Zes
       have HPNL':=HPNL;clear hlt HJ hmn;go_wp2;refine bodyPost_ret (by simp[results,results16,go_sem, *];try rfl) rfl ?_;exact Zfk
theorem ren_Ty(E:Nat)(w:World)(all:List Ty)(p1:Option Addr)(q1:Nat)(HA:∀v,Below E w v->AV 2 J6 v (.slice p1 all.length q1) all)(offs:List Nat)(val:Nat->Nat)(LB N0:Nat)(f:Nat->Value)(hL:∀o∈offs,o<N0/\f o=.int .i64 (val o:Int)/\val o<all.length)(hLM:N0=0\/w.rowIs LB 40 N0 f)(pf:Option Addr)(qf:Nat)(hF:w.ownsRow E 92 1 (.slice pf offs.length qf) offs.length (DJ LB offs))(IB K:Nat)(hI:w.rowIs IB 4 K (fun _=>.bool false))(hK:all.length<=K)(hE:E<=w.heap.size/\E<=IB/\E<=LB)(hnd:offs.Nodup)(ha:all.length<=16384)(ho:offs.length<=200000):
 Calls prog 14 #[.slice p1 all.length q1,.slice pf offs.length qf,.slice (some ⟨IB,0,none⟩) K K] w fun e w'=>∃pr qr,e=.returned (.slice pr (AU (IZ offs val) all).length qr)/\w'.ownsRow w.heap.size 59 2 (.slice pr (AU (IZ offs val) all).length qr) (AU (IZ offs val) all).length (Au J6 (AU (IZ offs val) all))/\RnV E IB K LB N0 offs val f w w':=by
 have HAA:=A7 HA;have HL:=A7 hL;have HLM:=A7 hLM;have HF:=A7 hF;have HI:=A7 hI;have HEE:=A7 hE;have HND:=A7 hnd;have HO1:Hid (∀j (hj:j<offs.length),∃FB,pf=some ⟨FB,0,none⟩/\(∃c,w.heap[FB]? =some (.cells c 92 (0,0)))/\FB<w.heap.size/\w.cell? ⟨FB,j,none⟩=some (.pointer (some ⟨LB,offs[j],none⟩))):=fun j hj=>by
  exact Zcw
 obtain⟨A,hA⟩:=gA (all.length)
 obtain⟨n,hn⟩:=gA (offs.length)
 have HAL:=A7 hA;have HNL:=A7 hn;simp only[hA]at HAA HL hK ha |-;simp only[hn]at HF ho |-;have m1:=fun v=>PV A oM v;obtain⟨nm,hnm⟩:=gA (IZ offs val)
 have HNM:=A7 hnm;simp only[hnm];obtain⟨H0,hH0⟩:∃H,w.heap.size=H:=⟨_,rfl⟩
 have HH0:=A7 hH0;simp only[hH0]at HEE;rw[hH0];clear HA hL hLM hF hI hE hnd hA hn hH0 hnm;go_enter func14,ntmps14;go_wp2
 go_loopw [17] (fun iv wr=>∃j:Nat,j<=n/\iv=.int .i64 (j:Int)/\Hid (Below E w wr/\wr.rowIs IB 4 K (fun r=>.bool (IZ (offs.take j) val r))/\(∀b,b<H0->b≠IB->wr.heap[b]? =w.heap[b]?)/\H0<=wr.heap.size)) (fun iv _=>n-(intOf iv).toNat)
 case atStart=>
  refine⟨0,gI _,rfl,Below.refl E w,HI.out,fun _ _ _=>rfl,by rw[HH0.out];exact gF _⟩
 case round=>
  obtain⟨j,hj,rfl,HJ⟩:=hrel;by_cases hlt:j<n
  .exact Zaw
  .have e9:¬ (j:Int)<(n:Int):=oM;have hjn:j=offs.length:=by have:=HNL.out;omega
   obtain⟨hbj,hIj,hoth,hsz⟩:=HJ.out;rw[hjn,List.take_length]at hIj;have i0:(0:Int)<=(A:Int):=oM;obtain⟨V,hV⟩:=gA (wr.alloc (.cells (madeCells #[.int .i64 0] A) 3))
   have HBV:Hid (Below wr.heap.size wr V):=by rw[<-hV];exact A0 _ _
   obtain⟨XB,hXB⟩:∃X,wr.heap.size=X:=⟨_,rfl⟩
   have hXr:V.rowIs XB 3 A (fun _=>.int .i64 0):=by rw[<-hV,<-hXB];exact World.rowIs_made wr (.int .i64 0) A 3
   rw[HNM.out]at hIj;have HK0:Hid (Below E w V/\V.rowIs IB 4 K (fun r=>.bool (nm r))/\(∀b,b<H0->b≠IB->V.heap[b]? =w.heap[b]?)/\H0<=XB/\H0<=V.heap.size/\V.rowIs XB 3 A (fun r=>.int .i64 (DH nm 0 r))/\V.ownsRow H0 59 2 (.slice none 0 0) (C1 nm all 0).length (Au J6 (C1 nm all 0))):=by
    have hE:=HEE.1;refine⟨hbj.trans (HBV.mono (gH hE hsz)),hIj.of_block (HBV.block _ hIj.lt),fun b hb hne=>(HBV.block b (Nat.lt_of_lt_of_le hb hsz)).trans (hoth b hb hne),by rw[<-hXB];exact hsz,gH hsz HBV.size,hXr.congr fun r hr=>?_,World.ownsRow_nil _ _ _ 2⟩;unfold DH;rw[if_neg oM]
   clear hlt hjn hbj hIj hoth hsz hXr HJ HBV;go_wp2;try rw[hV]
   try rw[hXB]
   clear hV hXB
   go_loopw [32,9] (fun iv lv wr=>∃ (j:Nat) (pl:Option Addr) (ql:Nat),j<=A/\iv=.int .i64 (j:Int)/\lv=.slice pl (C1 nm all j).length ql/\Hid (Below E w wr/\wr.rowIs IB 4 K (fun r=>.bool (nm r))/\(∀b,b<H0->b≠IB->wr.heap[b]? =w.heap[b]?)/\H0<=XB/\H0<=wr.heap.size/\wr.rowIs XB 3 A (fun r=>.int .i64 (DH nm j r))/\wr.ownsRow H0 59 2 (.slice pl (C1 nm all j).length ql) (C1 nm all j).length (Au J6 (C1 nm all j)))) (fun iv _ _=>A-(intOf iv).toNat)
   case atStart=>exact⟨0,none,0,gI _,rfl,rfl,HK0.out⟩
   case round=>
    clear HK0;obtain⟨j,pl,ql,hj,rfl,rfl,HJ⟩:=hrel;by_cases hlt:j<A
    .have hjl:j<all.length:=by have:=HAL.out;omega
     obtain⟨hbj,hIj,hoth,hX0,hsz,hXj,hO⟩:=HJ.out;obtain⟨lb,lo,rfl,hcl⟩:=(HAA.out wr hbj).at hjl;have HPN:=A7 (Fj nm hjl);have hpl:(C1 nm all j).length=AA nm j:=Ir nm all j oM;have hcu:AA nm j<=16384:=by have h9:AA nm j<=j:=gH (List.length_filter_le _ _) sM;omega
     obtain⟨⟨kd,pr⟩,hi⟩:∃i,all[j]=i:=⟨_,rfl⟩
     rw[hi]at hcl HPN;have y0:=hcl.at 0 (v:=.int .i64 kd) rfl;rw[Nat.add_zero]at y0;have y1:=hcl.at 1 (v:=.int .i64 pr) rfl;have llb:lb<wr.heap.size:=A8 y0;have n9:¬lb=wr.heap.size:=oM;have i1:(0:Int)<=(j:Int):=oM;have i2:(j:Int)<(A:Int):=oM;have i3:(j:Int)<(K:Int):=oM;have wi:IntKind.i64.wrap ((j:Int)+1)=((j+1:Nat):Int):=by rw[IntKind.wrap_i64];omega
     obtain⟨V2,hV2⟩:∃V,wr.alloc (.cells #[.int .i64 kd,.int .i64 pr] 59)=V:=⟨_,rfl⟩
     have HB2:Hid (Below wr.heap.size wr V2):=by rw[<-hV2];exact A0 _ _
     have hX2:V2.rowIs wr.heap.size 59 2 (En #[.int .i64 kd,.int .i64 pr]):=by rw[<-hV2];exact BS wr _ _
     have x0:V2.cell? ⟨wr.heap.size,0,none⟩=some (.int .i64 kd):=hX2.cell (i:=0) dE;have x1:V2.cell? ⟨wr.heap.size,1,none⟩=some (.int .i64 pr):=hX2.cell (i:=1) dE;have HXB2:=A7 hX2;have hI2:=hIj.of_block (HB2.block _ hIj.lt);have hXJ2:=hXj.of_block (HB2.block _ hXj.lt);have hO2:=Ak hO HB2.out;have hd:=hI2.cell (show j<K by omega);have hn2:=hXJ2.cell hlt;have hf2:=hXJ2.frozen j;have HBV:Hid (Below E w V2):=hbj.trans (HB2.mono (gH HEE.1 hsz));have HOT:Hid (∀b,b<H0->b≠IB->V2.heap[b]? =w.heap[b]?):=fun b hb hne=>(HB2.block b (Nat.lt_of_lt_of_le hb hsz)).trans (hoth b hb hne);have HS2:Hid (H0<=XB/\H0<=V2.heap.size):=⟨hX0,gH hsz HB2.size⟩
     have HI2:=A7 hI2;have HX2:=A7 hXJ2;have HO2:=A7 hO2;obtain⟨P0,hP0⟩:∃P,C1 nm all j=P:=⟨_,rfl⟩
     rw[hP0]at HO2 HPN hpl;rw[hP0];have HPL:=A7 hpl;have HCU:=A7 hcu;clear hbj hIj hoth hX0 hsz hXj hO hcl hi llb hX2 hI2 hXJ2 hO2 HJ hP0 hpl hcu;cases hb:nm j with
     |true=>
      rw[hb]at hd HPN;simp only[if_true]at HPN;obtain⟨W3,hW3⟩:∃W,V2.setCell ⟨XB,j,none⟩ (.int .i64 (P0.length:Int))=W:=⟨_,rfl⟩
      have nXB:XB≠V2.heap.size:=by have:=HX2.lt;omega
      have hOX:=C2 HO2.out HX2.out dE;have hO3:=Ac HO2.out (w':=W3) (fun g hg=>by rw[<-hW3];exact gE (fun(q:g=XB)=>hOX (by rw[<-q];exact hg)));have hX3:W3.rowIs XB 3 A (fun r=>.int .i64 (DH nm (j+1) r)):=by
       exact Zfe
      have hI3:W3.rowIs IB 4 K (fun r=>.bool (nm r)):=by rw[<-hW3];exact HI2.setOther (a:=⟨XB,j,none⟩) (El HI2.out HX2.out dE) _
      have hB3:W3.rowIs wr.heap.size 59 2 (En #[.int .i64 kd,.int .i64 pr]):=by rw[<-hW3];exact HXB2.setOther (a:=⟨XB,j,none⟩) (El HXB2.out HX2.out dE) _
      have hBW:Below E w W3:=by rw[<-hW3];exact HBV.setCell (gH HEE.1 HS2.1) _
      have hOT3:∀b,b<H0->b≠IB->W3.heap[b]? =w.heap[b]? :=fun b hb' hne=>by rw[<-hW3];exact(gE (fun(q:b=XB)=>by have:=HS2.1;omega)).trans (HOT.out b hb' hne)
      have hS3:H0<=W3.heap.size:=by rw[<-hW3];simpa using HS2.2
      obtain⟨g,cq,w6,hr,hb6,ho6,hoth6,hat⟩:=G4 (t:=23) (e:=59) underlying23 Tj rF dE hO3 hS3 #[.int .i64 kd,.int .i64 pr] rfl Sx Zhn (by have:=HPL.out;have:=HCU.out;omega) 23;have z0:W3.cell? ⟨wr.heap.size,0,none⟩=some (.int .i64 kd):=hB3.cell (i:=0) dE;have z1:W3.cell? ⟨wr.heap.size,1,none⟩=some (.int .i64 pr):=hB3.cell (i:=1) dE;have HR:=A7 hr;have HN6:Hid (Below E w w6/\w6.rowIs IB 4 K (fun r=>.bool (nm r))/\(∀b,b<H0->b≠IB->w6.heap[b]? =w.heap[b]?)/\H0<=XB/\H0<=w6.heap.size/\w6.rowIs XB 3 A (fun r=>.int .i64 (DH nm (j+1) r))/\w6.ownsRow H0 59 2 (.slice (some ⟨g,0,none⟩) (P0.length+1) cq) (P0.length+1) (Au J6 (P0++[(⟨kd,pr⟩:Ty)]))):=by
       refine⟨hBW.trans (hb6.mono HEE.1),hI3.of_block (hoth6 _ hI3.lt (C2 hO3 hI3 dE)),fun b hb' hne=>(hb6.block b hb').trans (hOT3 b hb' hne),HS2.1,gH hS3 hb6.size,hX3.of_block (hoth6 _ hX3.lt (C2 hO3 hX3 dE)),?_⟩;have e9:Au J6 (P0++[(⟨kd,pr⟩:Ty)])=Au J6 P0++[.int .i64 kd,.int .i64 pr]:=by simp[Au,J6]
       rw[e9];exact ho6
      obtain⟨PL,hPL⟩:∃k,P0.length+1=k:=⟨_,rfl⟩
      have HPL1:=A7 hPL;rw[hPL]at HR HN6;clear hr hb6 ho6 hoth6 hat hb hPL hO3 hX3 hI3 hB3 hBW hOT3 hS3 hOX nXB;go_upto_region 11 with fail;try rw[hV2]
      go_upto_region 13 with fail;try rw[hW3]
      go_wp2_with(at_builtin;refine AO rF _ _ _ rF _ _ _ rF rF HR.out ?_);go_roundw
      case rel=>
       refine⟨j+1,some ⟨g,0,none⟩,cq,oM,gN,?_,?_⟩
       .rw[HPN.out,List.length_append];exact congrArg (fun k=>Value.slice _ k _) HPL1.symm
       .rw[HPN.out,List.length_append,show P0.length+[(⟨kd,pr⟩:Ty)].length=PL from HPL1.out];exact HN6.out
      case measure=>simp[intOf];omega
     |false=>
      exact Zcq
    .have e8:¬ (j:Int)<(A:Int):=oM;have hjn:j=A:=oM;subst hjn;obtain⟨hbj,hIj,hoth,hX0,hsz,hXj,hO⟩:=HJ.out;have HPU:Hid (C1 nm all j=AU nm all):=by show _=_;rw[<-LQ,HAL.out]
     rw[HPU.out]at hO;rw[HPU.out];obtain⟨PN,hPN⟩:∃k,(AU nm all).length=k:=⟨_,rfl⟩
     have HPNL:=A7 hPN;rw[hPN]at hO;rw[hPN];have HK0:Hid (Below E w wr/\wr.rowIs IB 4 K (fun r=>.bool (nm r))/\(∀b,b<H0->b≠IB->b≠LB->wr.heap[b]? =w.heap[b]?)/\H0<=XB/\wr.rowIs XB 3 j (fun r=>.int .i64 (DH nm j r))/\wr.ownsRow H0 59 2 (.slice pl PN ql) PN (Au J6 (AU nm all))/\(N0=0\/wr.rowIs LB 40 N0 (fJ offs val f 0))):=by
      exact Zdl
     clear hlt hbj hIj hoth hX0 hsz hXj hO HJ hPN HPU m1;go_wp2
     go_loopw [53] (fun iv wr=>∃m:Nat,m<=n/\iv=.int .i64 (m:Int)/\Hid (Below E w wr/\wr.rowIs IB 4 K (fun r=>.bool (nm r))/\(∀b,b<H0->b≠IB->b≠LB->wr.heap[b]? =w.heap[b]?)/\H0<=XB/\wr.rowIs XB 3 j (fun r=>.int .i64 (DH nm j r))/\wr.ownsRow H0 59 2 (.slice pl PN ql) PN (Au J6 (AU nm all))/\(N0=0\/wr.rowIs LB 40 N0 (fJ offs val f m)))) (fun iv _=>n-(intOf iv).toNat)
     case atStart=>exact⟨0,gI _,rfl,HK0.out⟩
     case round=>
      clear HK0;obtain⟨m,hm,rfl,HJ⟩:=hrel;by_cases hlt:m<n
      .have hml:m<offs.length:=by have:=HNL.out;omega
       obtain⟨hbj,hIj,hoth,hX0,hXj,hO,hLj⟩:=HJ.out;obtain⟨FB,rfl,⟨cF,hcF⟩,lF,hc⟩:=HO1.out m hml;obtain⟨l1,l2,l3⟩:=HL.out _ (gD hml);have hLr:wr.rowIs LB 40 N0 (fJ offs val f m):=hLj.resolve_left oM;have hLw:w.rowIs LB 40 N0 f:=HLM.resolve_left oM;have nFI:FB≠IB:=fun e=>by
        obtain⟨c,hc',-⟩:=HI.out;exact Zcf
       have nFL:FB≠LB:=fun e=>by
        obtain⟨c,hc',-⟩:=hLw;exact Zcf
       have h0:=HH0.out;have x0:wr.cell? ⟨FB,m,none⟩=some (.pointer (some ⟨LB,offs[m],none⟩)):=(gC (a:=⟨FB,m,none⟩) (hoth FB oM nFI nFL)).trans hc;have x1:wr.cell? ⟨LB,offs[m],none⟩=some (.int .i64 (val offs[m]:Int)):=by
        rw[<-l2,<-fJ_at HND.out hml val f];exact hLr.cell l1
       have x2:=hLr.frozen offs[m];have hnv:DH nm j (val offs[m])=(AA nm (val offs[m]):Int):=by
        unfold DH;rw[if_pos ⟨l3,by rw[<-HNM.out];exact Rt (gD hml)⟩]
       have x3:=hXj.cell l3;rw[hnv]at x3;have HFN:=A7 (fun o=>R0 hml val f o);have HLX:Hid (LB≠XB/\LB≠IB/\E<=LB):=⟨El hLr hXj dE,El hLr hIj dE,HEE.2.2⟩
       obtain⟨o,ho'⟩:=gA (offs[m])
       rw[ho']at x0 x1 x2 x3 l3 HFN;obtain⟨r,hr⟩:=gA (val o)
       rw[hr]at x1 x3 l3;simp only[hr,HNM.out]at HFN;obtain⟨cr,hcr⟩:∃c,AA nm r=c:=⟨_,rfl⟩
       rw[hcr]at x3;simp only[hcr]at HFN;have i1:(0:Int)<=(m:Int):=oM;have i2:(m:Int)<(n:Int):=oM;have i3:(0:Int)<=(r:Int):=oM;have i4:(r:Int)<(j:Int):=oM;have wi:IntKind.i64.wrap ((m:Int)+1)=((m+1:Nat):Int):=by rw[IntKind.wrap_i64];omega
       have HNX:Hid (Below E w (wr.setCell ⟨LB,o,none⟩ (.int .i64 (cr:Int)))/\(wr.setCell ⟨LB,o,none⟩ (.int .i64 (cr:Int))).rowIs IB 4 K (fun r=>.bool (nm r))/\(∀b,b<H0->b≠IB->b≠LB->(wr.setCell ⟨LB,o,none⟩ (.int .i64 (cr:Int))).heap[b]? =w.heap[b]?)/\H0<=XB/\(wr.setCell ⟨LB,o,none⟩ (.int .i64 (cr:Int))).rowIs XB 3 j (fun r=>.int .i64 (DH nm j r))/\(wr.setCell ⟨LB,o,none⟩ (.int .i64 (cr:Int))).ownsRow H0 59 2 (.slice pl PN ql) PN (Au J6 (AU nm all))/\(N0=0\/(wr.setCell ⟨LB,o,none⟩ (.int .i64 (cr:Int))).rowIs LB 40 N0 (fJ offs val f (m+1)))):=by
        exact Zcn
       exact Zeg
      .have e7:¬ (m:Int)<(n:Int):=oM;have hmn:m=offs.length:=by have:=HNL.out;omega
       have HFI:Hid (wr.ownsRow H0 59 2 (.slice pl PN ql) PN (Au J6 (AU nm all))/\RnV E IB K LB N0 offs val f w wr):=by
        exact Zes
       have HPNL':=HPNL;clear hlt HJ hmn;go_wp2;refine bodyPost_ret (by simp[results,results14,go_sem, *];try rfl) rfl ?_;exact Zfk
theorem setsP_B(i:Ad):OF i=Af i:=by
 unfold OF Af;cases h:((A4 i.op).d != 0)with
 |false=>
  have:(A4 i.op).d=0:=by simpa using h
  simp[this]
 |true=>
  have:(A4 i.op).d≠0:=by simpa using h
  simp[this]
def Iz(n:Nat)(l:List Ad):List Value:=(List.range n).map fun r=>.bool (decide (r∈KJ l))
theorem I3(n:Nat)(l:List Ad):(Iz n l).length=n:=by unfold Iz;simp
theorem Jq{n:Nat}(l:List Ad){r:Nat}(h:r<n):(Iz n l)[r]? =some (.bool (decide (r∈KJ l))):=by unfold Iz;simp[h]
theorem XK(n:Nat):Iz n []=List.replicate n (.bool false):=by
 apply List.ext_getElem?;intro k;by_cases hk:k<n
 .rw[Jq _ hk,List.getElem?_replicate,if_pos hk];simp[KJ]
 .rw[List.getElem?_eq_none (by rw[I3];omega),List.getElem?_eq_none sO]
theorem Hb(i:Ad):KJ [i]=if Af i=true then [i.d.toNat]else []:=by
 unfold KJ;by_cases h:Af i=true
 .simp[h]
 .simp[h]
theorem Ue{n:Nat}{l:List Ad}{i:Ad}(h:Af i=false):Iz n (l++[i])=Iz n l:=by
 unfold Iz;rw[Cn,Hb,if_neg (by rw[h];simp),List.append_nil]
theorem Ud{n:Nat}{l:List Ad}{i:Ad}(h:Af i=true){D:Nat}(hD:D<n)(e:i.d.toNat=D):(Iz n l).set D (.bool true)=Iz n (l++[i]):=by
 apply List.ext_getElem?;intro k;by_cases hk:k<n
 .rw[Jq _ hk,Cn,Hb,if_pos h,List.getElem?_set];by_cases h2:D=k
  .subst h2;rw[if_pos rfl,if_pos (by rw[I3];exact hD)];simp[e]
  .rw[if_neg h2,Jq _ hk];simp only[List.mem_append,List.mem_singleton,e];congr 2;simp[Ne.symm h2]
 .rw[List.getElem?_eq_none (by rw[List.length_set,I3];omega),List.getElem?_eq_none (by rw[I3];omega)]
theorem OK{l:List Ad}{i:Ad}(h:Af i=false)(hl:Bd l):Bd (l++[i]):=by
 unfold Bd at *;rw[Cn,Hb,if_neg (by rw[h];simp),List.append_nil];exact hl
theorem OJ{l:List Ad}{i:Ad}(h:Af i=true)(hl:Bd l)(hn:i.d.toNat∉KJ l):Bd (l++[i]):=by
 unfold Bd at *;rw[Cn,Hb,if_pos h];rw[List.nodup_append];exact⟨hl,sM,fun a ha b hb e=>by simp at hb;subst hb;subst e;exact hn ha⟩
theorem QE{l:List Ad}{j:Nat}(hj:j<l.length)(h:Af l[j]=true)(hm:l[j].d.toNat∈KJ (l.take j)):¬Bd l:=fun hs=>by
 have e:l=l.take j++l[j]::l.drop (j+1):=by rw[<-List.drop_eq_getElem_cons hj,List.take_append_drop]
 unfold Bd at hs;rw[e,show l.take j++l[j]::l.drop (j+1)=(l.take j++[l[j]])++l.drop (j+1) by simp,Cn,Cn,Hb,if_pos h]at hs;have h2:=(List.nodup_append.1 hs).1;exact(List.nodup_append.1 h2).2.2 _ hm _ sM rfl
end Go.Proofs.YtnbccaicijcklaaGreat
