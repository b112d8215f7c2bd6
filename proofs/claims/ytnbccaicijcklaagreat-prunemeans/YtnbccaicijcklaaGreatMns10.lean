import Derived.Test.YtnbccaicijcklaaGreatMns8
import Derived.Test.YtnbccaicijcklaaGreatMns5
import Derived.Test.YtnbccaicijcklaaGreatMns1
import Derived.Deep.CutBlock
import Derived.Deep.DeepCutAuto
namespace Go.Proofs.YtnbccaicijcklaaGreat
open Go.RowKit Go.Proofs.Tryz
set_option linter.all false
set_option maxRecDepth 100000
set_option maxHeartbeats 16000000
theorem Gn{tag:Nat->Nat}{v:Value}{m g b k H:Nat}(tv:∀g,v.ownBlock=some g->tag g=m)(hat:v.ownBlock=some g\/g=H)(hb:tag b=k)(hk:k≠m)(hlt:b<H):b≠g:=by
 rcases hat with hat|hat
 .exact Am hb (tv g hat) hk
 .omega
section
variable {E : Nat} {c : Cd} {s : RW} {V : World} {B C SB IB MB nm rb ro q1 : Nat} {vk vo vl : Value} {tag : Nat -> Nat}
end
structure Gh where
 sl:Nat->List Nat
 tl:Nat->List Nat
 ar:Nat->Int
 en:Nat->Int
 nd:Nat->Bool
 todo:List Nat
structure Bz(E R S L:Nat)(s:Gh)(w:World)(B C GB TB AB NB DB:Nat)(vg vt:Nat->Value)(vd:Value)(tag:Nat->Nat):Prop where
 b:w.rowIs B 90 7 (En #[.pointer (some ⟨C,0,none⟩),.slice (some ⟨GB,0,none⟩) R R,.slice (some ⟨TB,0,none⟩) S S,.slice (some ⟨AB,0,none⟩) L L,.slice (some ⟨NB,0,none⟩) L L,.slice (some ⟨DB,0,none⟩) L L,vd])
 g:w.rowIs GB 72 R vg
 t:w.rowIs TB 72 S vt
 a:w.rowIs AB 3 L (fun p=>.int .i64 (s.ar p))
 n:w.rowIs NB 3 L (fun p=>.int .i64 (s.en p))
 d:w.rowIs DB 4 L (fun p=>.bool (s.nd p))
 gs:∀r,r<R->w.ownsRow E 3 1 (vg r) (s.sl r).length (BD (s.sl r))
 ts:∀r,r<S->w.ownsRow E 3 1 (vt r) (s.tl r).length (BD (s.tl r))
 td:w.ownsRow E 3 1 vd s.todo.length (BD s.todo)
 hB:E<=B
 hG:E<=GB
 hT:E<=TB
 hA:E<=AB
 hN:E<=NB
 hD:E<=DB
 tB:tag B=1
 tG:tag GB=2
 tT:tag TB=3
 tA:tag AB=4
 tN:tag NB=5
 tD:tag DB=6
 tgs:∀r,r<R->∀q,(vg r).ownBlock=some q->tag q=8+2*r
 tts:∀r,r<S->∀q,(vt r).ownBlock=some q->tag q=9+2*r
 ttd:∀q,vd.ownBlock=some q->tag q=7
section
variable {E R S L : Nat} {s : Gh} {V w w' : World} {B C GB TB AB NB DB : Nat} {vg vt : Nat -> Value} {vd : Value} {tag : Nat -> Nat}
theorem Bz.lt(h:Bz E R S L s w B C GB TB AB NB DB vg vt vd tag):E<=w.heap.size:=gH h.hB (Nat.le_of_lt h.b.lt)
theorem Bz.keep(h:Bz E R S L s w B C GB TB AB NB DB vg vt vd tag)(k:∀b,b<w.heap.size->w'.heap[b]? =w.heap[b]?):Bz E R S L s w' B C GB TB AB NB DB vg vt vd tag:=
 {h with
  b:=h.b.of_block (k _ h.b.lt)
  g:=h.g.of_block (k _ h.g.lt)
  t:=h.t.of_block (k _ h.t.lt)
  a:=h.a.of_block (k _ h.a.lt)
  n:=h.n.of_block (k _ h.n.lt)
  d:=h.d.of_block (k _ h.d.lt)
  gs:=fun r hr=>Ac (h.gs r hr) fun q hq=>k q ((h.gs r hr).lt q hq).2
  ts:=fun r hr=>Ac (h.ts r hr) fun q hq=>k q ((h.ts r hr).lt q hq).2
  td:=Ac h.td fun q hq=>k q (h.td.lt q hq).2}
theorem Bz.below(h:Bz E R S L s w B C GB TB AB NB DB vg vt vd tag)(k:Below w.heap.size w w'):Bz E R S L s w' B C GB TB AB NB DB vg vt vd tag:=h.keep k.block
theorem Bz.b0(h:Bz E R S L s w B C GB TB AB NB DB vg vt vd tag):w.cell? ⟨B,0,none⟩=some (.pointer (some ⟨C,0,none⟩)):=h.b.cell (i:=0) dE
theorem Bz.b1(h:Bz E R S L s w B C GB TB AB NB DB vg vt vd tag):w.cell? ⟨B,1,none⟩=some (.slice (some ⟨GB,0,none⟩) R R):=h.b.cell (i:=1) dE
theorem Bz.b2(h:Bz E R S L s w B C GB TB AB NB DB vg vt vd tag):w.cell? ⟨B,2,none⟩=some (.slice (some ⟨TB,0,none⟩) S S):=h.b.cell (i:=2) dE
theorem Bz.b3(h:Bz E R S L s w B C GB TB AB NB DB vg vt vd tag):w.cell? ⟨B,3,none⟩=some (.slice (some ⟨AB,0,none⟩) L L):=h.b.cell (i:=3) dE
theorem Bz.b4(h:Bz E R S L s w B C GB TB AB NB DB vg vt vd tag):w.cell? ⟨B,4,none⟩=some (.slice (some ⟨NB,0,none⟩) L L):=h.b.cell (i:=4) dE
theorem Bz.b5(h:Bz E R S L s w B C GB TB AB NB DB vg vt vd tag):w.cell? ⟨B,5,none⟩=some (.slice (some ⟨DB,0,none⟩) L L):=h.b.cell (i:=5) dE
theorem Bz.b6(h:Bz E R S L s w B C GB TB AB NB DB vg vt vd tag):w.cell? ⟨B,6,none⟩=some (vd):=h.b.cell (i:=6) dE
theorem Bz.setNd(h:Bz E R S L s V B C GB TB AB NB DB vg vt vd tag)(p:Nat)(x:Bool):
 Bz E R S L {s with nd:=fun k=>if k=p then x else s.nd k} (V.setCell ⟨DB,p,none⟩ (.bool x)) B C GB TB AB NB DB vg vt vd tag:=by
 have kk:∀b,b≠DB->(V.setCell ⟨DB,p,none⟩ (.bool x)).heap[b]? =V.heap[b]? :=fun b hb=>gE hb;exact{h with
  b:=h.b.of_block (kk _ (Am h.tB h.tD dE))
  g:=h.g.of_block (kk _ (Am h.tG h.tD dE))
  t:=h.t.of_block (kk _ (Am h.tT h.tD dE))
  a:=h.a.of_block (kk _ (Am h.tA h.tD dE))
  n:=h.n.of_block (kk _ (Am h.tN h.tD dE))
  d:=(h.d.set p _).congr fun j hj=>by
   show _=(Value.bool (if j=p then x else s.nd j));exact Zfo
  gs:=fun r hr=>Ac (h.gs r hr) fun q hq=>kk q (Am (h.tgs r hr q hq) h.tD oM)
  ts:=fun r hr=>Ac (h.ts r hr) fun q hq=>kk q (Am (h.tts r hr q hq) h.tD oM)
  td:=Ac h.td fun q hq=>kk q (Am (h.ttd q hq) h.tD dE)}
theorem Bz.setAr(h:Bz E R S L s V B C GB TB AB NB DB vg vt vd tag)(p:Nat)(x:Int):
 Bz E R S L {s with ar:=fun k=>if k=p then x else s.ar k} (V.setCell ⟨AB,p,none⟩ (.int .i64 x)) B C GB TB AB NB DB vg vt vd tag:=by
 have kk:∀b,b≠AB->(V.setCell ⟨AB,p,none⟩ (.int .i64 x)).heap[b]? =V.heap[b]? :=fun b hb=>gE hb;exact{h with
  b:=h.b.of_block (kk _ (Am h.tB h.tA dE))
  g:=h.g.of_block (kk _ (Am h.tG h.tA dE))
  t:=h.t.of_block (kk _ (Am h.tT h.tA dE))
  n:=h.n.of_block (kk _ (Am h.tN h.tA dE))
  d:=h.d.of_block (kk _ (Am h.tD h.tA dE))
  a:=(h.a.set p _).congr fun j hj=>by
   show _=(Value.int .i64 (if j=p then x else s.ar j));exact Zfo
  gs:=fun r hr=>Ac (h.gs r hr) fun q hq=>kk q (Am (h.tgs r hr q hq) h.tA oM)
  ts:=fun r hr=>Ac (h.ts r hr) fun q hq=>kk q (Am (h.tts r hr q hq) h.tA oM)
  td:=Ac h.td fun q hq=>kk q (Am (h.ttd q hq) h.tA dE)}
theorem Bz.setEn(h:Bz E R S L s V B C GB TB AB NB DB vg vt vd tag)(p:Nat)(x:Int):
 Bz E R S L {s with en:=fun k=>if k=p then x else s.en k} (V.setCell ⟨NB,p,none⟩ (.int .i64 x)) B C GB TB AB NB DB vg vt vd tag:=by
 have kk:∀b,b≠NB->(V.setCell ⟨NB,p,none⟩ (.int .i64 x)).heap[b]? =V.heap[b]? :=fun b hb=>gE hb;exact{h with
  b:=h.b.of_block (kk _ (Am h.tB h.tN dE))
  g:=h.g.of_block (kk _ (Am h.tG h.tN dE))
  t:=h.t.of_block (kk _ (Am h.tT h.tN dE))
  a:=h.a.of_block (kk _ (Am h.tA h.tN dE))
  d:=h.d.of_block (kk _ (Am h.tD h.tN dE))
  n:=(h.n.set p _).congr fun j hj=>by
   show _=(Value.int .i64 (if j=p then x else s.en j));exact Zfo
  gs:=fun r hr=>Ac (h.gs r hr) fun q hq=>kk q (Am (h.tgs r hr q hq) h.tN oM)
  ts:=fun r hr=>Ac (h.ts r hr) fun q hq=>kk q (Am (h.tts r hr q hq) h.tN oM)
  td:=Ac h.td fun q hq=>kk q (Am (h.ttd q hq) h.tN dE)}
theorem Bz.setTodo(h:Bz E R S L s V B C GB TB AB NB DB vg vt vd tag){vd':Value}{O:List Nat}(ho:V.ownsRow E 3 1 vd' O.length (BD O))(ht:∀g,vd'.ownBlock=some g->tag g=7):
 Bz E R S L {s with todo:=O} (V.setCell ⟨B,6,none⟩ vd') B C GB TB AB NB DB vg vt vd' tag:=by
 have kk:∀b,b≠B->(V.setCell ⟨B,6,none⟩ vd').heap[b]? =V.heap[b]? :=fun b hb=>gE hb;exact{h with
  b:=(h.b.set 6 vd').congr fun j hj=>by
   have hj7:j=0\/j=1\/j=2\/j=3\/j=4\/j=5\/j=6:=oM;rcases hj7 with rfl|rfl|rfl|rfl|rfl|rfl|rfl<;>rfl
  g:=h.g.of_block (kk _ (Am h.tG h.tB dE))
  t:=h.t.of_block (kk _ (Am h.tT h.tB dE))
  a:=h.a.of_block (kk _ (Am h.tA h.tB dE))
  n:=h.n.of_block (kk _ (Am h.tN h.tB dE))
  d:=h.d.of_block (kk _ (Am h.tD h.tB dE))
  gs:=fun r hr=>Ac (h.gs r hr) fun q hq=>kk q (Am (h.tgs r hr q hq) h.tB oM)
  ts:=fun r hr=>Ac (h.ts r hr) fun q hq=>kk q (Am (h.tts r hr q hq) h.tB oM)
  td:=Ac ho fun q hq=>kk q (Am (ht q hq) h.tB dE)
  ttd:=ht}
theorem Bz.growTodo(h:Bz E R S L s V B C GB TB AB NB DB vg vt vd tag){w3:World}{g cap:Nat}{O:List Nat}(hg:V.grownBy w3 vd.ownBlock)(hat:vd.ownBlock=some g\/g=V.heap.size)(hown:w3.ownsRow E 3 1 (.slice (some ⟨g,0,none⟩) O.length cap) O.length (BD O)):
 Bz E R S L {s with todo:=O} (w3.setCell ⟨B,6,none⟩ (.slice (some ⟨g,0,none⟩) O.length cap)) B C GB TB AB NB DB vg vt (.slice (some ⟨g,0,none⟩) O.length cap) (fun b=>if b=g then 7 else tag b)/\w3.cell? ⟨B,6,none⟩=some vd/\w3.frozen? ⟨B,6,none⟩=false/\Below E V w3:=by
 have hne:∀b k,b<V.heap.size->tag b=k->k≠7->b≠g:=fun b k hb hk hm=>Gn h.ttd hat hk hm hb;have k3:∀b k,b<V.heap.size->tag b=k->k≠7->w3.heap[b]? =V.heap[b]? :=fun b k hb hk hm=>hg.block b hb fun e=>hm (by rw[<-hk];exact h.ttd b e.symm);have kk:∀b k,b<V.heap.size->tag b=k->k≠7->k≠1->(w3.setCell ⟨B,6,none⟩ (.slice (some ⟨g,0,none⟩) O.length cap)).heap[b]? =V.heap[b]? :=fun b k hb hk hm h1=>(gE (Am hk h.tB h1)).trans (k3 b k hb hk hm);have hB3:=h.b.of_block (k3 B 1 h.b.lt h.tB dE);refine⟨?_,hB3.cell (i:=6) dE,hB3.frozen 6,(Below.refl E V).grown hg h.lt (fun q e=>(h.td.lt q e).1)⟩;exact{h with
  b:=(hB3.set 6 _).congr fun j hj=>by
   have hj7:j=0\/j=1\/j=2\/j=3\/j=4\/j=5\/j=6:=oM;rcases hj7 with rfl|rfl|rfl|rfl|rfl|rfl|rfl<;>rfl
  g:=h.g.of_block (kk _ 2 h.g.lt h.tG dE dE)
  t:=h.t.of_block (kk _ 3 h.t.lt h.tT dE dE)
  a:=h.a.of_block (kk _ 4 h.a.lt h.tA dE dE)
  n:=h.n.of_block (kk _ 5 h.n.lt h.tN dE dE)
  d:=h.d.of_block (kk _ 6 h.d.lt h.tD dE dE)
  gs:=fun r hr=>Ac (h.gs r hr) fun q hq=>kk q (8+2*r) ((h.gs r hr).lt q hq).2 (h.tgs r hr q hq) oM oM
  ts:=fun r hr=>Ac (h.ts r hr) fun q hq=>kk q (9+2*r) ((h.ts r hr).lt q hq).2 (h.tts r hr q hq) oM oM
  td:=Ac hown fun q hq=>gE (by have e:g=q:=Option.some.inj hq;show q≠B;rw[<-e];exact(hne B 1 h.b.lt h.tB dE).symm)
  tB:=by show(if B=g then _ else _)=_;rw[if_neg (hne _ 1 h.b.lt h.tB dE)];exact h.tB
  tG:=by show(if GB=g then _ else _)=_;rw[if_neg (hne _ 2 h.g.lt h.tG dE)];exact h.tG
  tT:=by show(if TB=g then _ else _)=_;rw[if_neg (hne _ 3 h.t.lt h.tT dE)];exact h.tT
  tA:=by show(if AB=g then _ else _)=_;rw[if_neg (hne _ 4 h.a.lt h.tA dE)];exact h.tA
  tN:=by show(if NB=g then _ else _)=_;rw[if_neg (hne _ 5 h.n.lt h.tN dE)];exact h.tN
  tD:=by show(if DB=g then _ else _)=_;rw[if_neg (hne _ 6 h.d.lt h.tD dE)];exact h.tD
  tgs:=fun r hr q hq=>by show(if q=g then _ else _)=_;rw[if_neg (hne _ (8+2*r) ((h.gs r hr).lt q hq).2 (h.tgs r hr q hq) oM)];exact h.tgs r hr q hq
  tts:=fun r hr q hq=>by show(if q=g then _ else _)=_;rw[if_neg (hne _ (9+2*r) ((h.ts r hr).lt q hq).2 (h.tts r hr q hq) oM)];exact h.tts r hr q hq
  ttd:=fun q hq=>by show(if q=g then _ else _)=_;rw[if_pos (Option.some.inj hq).symm]}
theorem Bz.setSl(h:Bz E R S L s V B C GB TB AB NB DB vg vt vd tag){v':Value}{O:List Nat}{r:Nat}(hr:r<R)(ho:V.ownsRow E 3 1 v' O.length (BD O))(ht:∀g,v'.ownBlock=some g->tag g=8+2*r):
 Bz E R S L {s with sl:=fun k=>if k=r then O else s.sl k} (V.setCell ⟨GB,r,none⟩ v') B C GB TB AB NB DB (fun k=>if k=r then v' else vg k) vt vd tag:=by
 have kk:∀b,b≠GB->(V.setCell ⟨GB,r,none⟩ v').heap[b]? =V.heap[b]? :=fun b hb=>gE hb;exact{h with
  b:=h.b.of_block (kk _ (Am h.tB h.tG dE))
  t:=h.t.of_block (kk _ (Am h.tT h.tG dE))
  a:=h.a.of_block (kk _ (Am h.tA h.tG dE))
  n:=h.n.of_block (kk _ (Am h.tN h.tG dE))
  d:=h.d.of_block (kk _ (Am h.tD h.tG dE))
  g:=(h.g.set r v').congr fun j hj=>rfl
  gs:=fun k hk=>by
   by_cases e:k=r
   .simp only[if_pos e];exact Ac ho fun q hq=>kk q (Am (ht q hq) h.tG oM)
   .simp only[if_neg e];exact Ac (h.gs k hk) fun q hq=>kk q (Am (h.tgs k hk q hq) h.tG oM)
  ts:=fun k hk=>Ac (h.ts k hk) fun q hq=>kk q (Am (h.tts k hk q hq) h.tG oM)
  td:=Ac h.td fun q hq=>kk q (Am (h.ttd q hq) h.tG dE)
  tgs:=fun k hk q hq=>by
   by_cases e:k=r
   .simp only[if_pos e]at hq;rw[e];exact ht q hq
   .simp only[if_neg e]at hq
    exact h.tgs k hk q hq}
theorem Bz.growSl(h:Bz E R S L s V B C GB TB AB NB DB vg vt vd tag){w3:World}{g cap:Nat}{O:List Nat}{r:Nat}(hr:r<R)(hg:V.grownBy w3 (vg r).ownBlock)(hat:(vg r).ownBlock=some g\/g=V.heap.size)(hown:w3.ownsRow E 3 1 (.slice (some ⟨g,0,none⟩) O.length cap) O.length (BD O)):
 Bz E R S L {s with sl:=fun k=>if k=r then O else s.sl k} (w3.setCell ⟨GB,r,none⟩ (.slice (some ⟨g,0,none⟩) O.length cap)) B C GB TB AB NB DB (fun k=>if k=r then(.slice (some ⟨g,0,none⟩) O.length cap)else vg k) vt vd (fun b=>if b=g then 8+2*r else tag b)/\w3.cell? ⟨GB,r,none⟩=some (vg r)/\w3.frozen? ⟨GB,r,none⟩=false/\Below E V w3:=by
 have hne:∀b k,b<V.heap.size->tag b=k->k≠8+2*r->b≠g:=fun b k hb hk hm=>Gn (h.tgs r hr) hat hk hm hb;have k3:∀b k,b<V.heap.size->tag b=k->k≠8+2*r->w3.heap[b]? =V.heap[b]? :=fun b k hb hk hm=>hg.block b hb fun e=>hm (by rw[<-hk];exact h.tgs r hr b e.symm);have kk:∀b k,b<V.heap.size->tag b=k->k≠8+2*r->k≠2->(w3.setCell ⟨GB,r,none⟩ (.slice (some ⟨g,0,none⟩) O.length cap)).heap[b]? =V.heap[b]? :=fun b k hb hk hm h1=>(gE (Am hk h.tG h1)).trans (k3 b k hb hk hm);have hB3:=h.g.of_block (k3 GB 2 h.g.lt h.tG oM);refine⟨?_,hB3.cell hr,hB3.frozen r,(Below.refl E V).grown hg h.lt (fun q e=>((h.gs r hr).lt q e).1)⟩;exact{h with
  b:=h.b.of_block (kk _ 1 h.b.lt h.tB oM dE)
  t:=h.t.of_block (kk _ 3 h.t.lt h.tT oM dE)
  a:=h.a.of_block (kk _ 4 h.a.lt h.tA oM dE)
  n:=h.n.of_block (kk _ 5 h.n.lt h.tN oM dE)
  d:=h.d.of_block (kk _ 6 h.d.lt h.tD oM dE)
  g:=(hB3.set r _).congr fun j hj=>rfl
  gs:=fun k hk=>by
   by_cases e:k=r
   .simp only[if_pos e];exact Ac hown fun q hq=>gE (by have e:g=q:=Option.some.inj hq;show q≠GB;rw[<-e];exact(hne GB 2 h.g.lt h.tG oM).symm)
   .simp only[if_neg e];exact Ac (h.gs k hk) fun q hq=>kk q (8+2*k) ((h.gs k hk).lt q hq).2 (h.tgs k hk q hq) oM oM
  ts:=fun k hk=>Ac (h.ts k hk) fun q hq=>kk q (9+2*k) ((h.ts k hk).lt q hq).2 (h.tts k hk q hq) oM oM
  td:=Ac h.td fun q hq=>kk q 7 (h.td.lt q hq).2 (h.ttd q hq) oM dE
  tB:=by show(if B=g then _ else _)=_;rw[if_neg (hne _ 1 h.b.lt h.tB oM)];exact h.tB
  tG:=by show(if GB=g then _ else _)=_;rw[if_neg (hne _ 2 h.g.lt h.tG oM)];exact h.tG
  tT:=by show(if TB=g then _ else _)=_;rw[if_neg (hne _ 3 h.t.lt h.tT oM)];exact h.tT
  tA:=by show(if AB=g then _ else _)=_;rw[if_neg (hne _ 4 h.a.lt h.tA oM)];exact h.tA
  tN:=by show(if NB=g then _ else _)=_;rw[if_neg (hne _ 5 h.n.lt h.tN oM)];exact h.tN
  tD:=by show(if DB=g then _ else _)=_;rw[if_neg (hne _ 6 h.d.lt h.tD oM)];exact h.tD
  tgs:=fun k hk q hq=>by
   show(if q=g then _ else _)=_;by_cases e:k=r
   .simp only[if_pos e]at hq;rw[if_pos (Option.some.inj hq).symm,e]
   .simp only[if_neg e]at hq;rw[if_neg (hne _ (8+2*k) ((h.gs k hk).lt q hq).2 (h.tgs k hk q hq) oM)];exact h.tgs k hk q hq
  tts:=fun k hk q hq=>by show(if q=g then _ else _)=_;rw[if_neg (hne _ (9+2*k) ((h.ts k hk).lt q hq).2 (h.tts k hk q hq) oM)];exact h.tts k hk q hq
  ttd:=fun q hq=>by show(if q=g then _ else _)=_;rw[if_neg (hne _ 7 (h.td.lt q hq).2 (h.ttd q hq) oM)];exact h.ttd q hq}
theorem Bz.setTl(h:Bz E R S L s V B C GB TB AB NB DB vg vt vd tag){v':Value}{O:List Nat}{r:Nat}(hr:r<S)(ho:V.ownsRow E 3 1 v' O.length (BD O))(ht:∀g,v'.ownBlock=some g->tag g=9+2*r):
 Bz E R S L {s with tl:=fun k=>if k=r then O else s.tl k} (V.setCell ⟨TB,r,none⟩ v') B C GB TB AB NB DB vg (fun k=>if k=r then v' else vt k) vd tag:=by
 have kk:∀b,b≠TB->(V.setCell ⟨TB,r,none⟩ v').heap[b]? =V.heap[b]? :=fun b hb=>gE hb;exact{h with
  b:=h.b.of_block (kk _ (Am h.tB h.tT dE))
  g:=h.g.of_block (kk _ (Am h.tG h.tT dE))
  a:=h.a.of_block (kk _ (Am h.tA h.tT dE))
  n:=h.n.of_block (kk _ (Am h.tN h.tT dE))
  d:=h.d.of_block (kk _ (Am h.tD h.tT dE))
  t:=(h.t.set r v').congr fun j hj=>rfl
  ts:=fun k hk=>by
   by_cases e:k=r
   .simp only[if_pos e];exact Ac ho fun q hq=>kk q (Am (ht q hq) h.tT oM)
   .simp only[if_neg e];exact Ac (h.ts k hk) fun q hq=>kk q (Am (h.tts k hk q hq) h.tT oM)
  gs:=fun k hk=>Ac (h.gs k hk) fun q hq=>kk q (Am (h.tgs k hk q hq) h.tT oM)
  td:=Ac h.td fun q hq=>kk q (Am (h.ttd q hq) h.tT dE)
  tts:=fun k hk q hq=>by
   by_cases e:k=r
   .simp only[if_pos e]at hq;rw[e];exact ht q hq
   .simp only[if_neg e]at hq
    exact h.tts k hk q hq}
theorem Bz.growTl(h:Bz E R S L s V B C GB TB AB NB DB vg vt vd tag){w3:World}{g cap:Nat}{O:List Nat}{r:Nat}(hr:r<S)(hg:V.grownBy w3 (vt r).ownBlock)(hat:(vt r).ownBlock=some g\/g=V.heap.size)(hown:w3.ownsRow E 3 1 (.slice (some ⟨g,0,none⟩) O.length cap) O.length (BD O)):
 Bz E R S L {s with tl:=fun k=>if k=r then O else s.tl k} (w3.setCell ⟨TB,r,none⟩ (.slice (some ⟨g,0,none⟩) O.length cap)) B C GB TB AB NB DB vg (fun k=>if k=r then(.slice (some ⟨g,0,none⟩) O.length cap)else vt k) vd (fun b=>if b=g then 9+2*r else tag b)/\w3.cell? ⟨TB,r,none⟩=some (vt r)/\w3.frozen? ⟨TB,r,none⟩=false/\Below E V w3:=by
 have hne:∀b k,b<V.heap.size->tag b=k->k≠9+2*r->b≠g:=fun b k hb hk hm=>Gn (h.tts r hr) hat hk hm hb;have k3:∀b k,b<V.heap.size->tag b=k->k≠9+2*r->w3.heap[b]? =V.heap[b]? :=fun b k hb hk hm=>hg.block b hb fun e=>hm (by rw[<-hk];exact h.tts r hr b e.symm);have kk:∀b k,b<V.heap.size->tag b=k->k≠9+2*r->k≠3->(w3.setCell ⟨TB,r,none⟩ (.slice (some ⟨g,0,none⟩) O.length cap)).heap[b]? =V.heap[b]? :=fun b k hb hk hm h1=>(gE (Am hk h.tT h1)).trans (k3 b k hb hk hm);have hB3:=h.t.of_block (k3 TB 3 h.t.lt h.tT oM);refine⟨?_,hB3.cell hr,hB3.frozen r,(Below.refl E V).grown hg h.lt (fun q e=>((h.ts r hr).lt q e).1)⟩;exact{h with
  b:=h.b.of_block (kk _ 1 h.b.lt h.tB oM dE)
  g:=h.g.of_block (kk _ 2 h.g.lt h.tG oM dE)
  a:=h.a.of_block (kk _ 4 h.a.lt h.tA oM dE)
  n:=h.n.of_block (kk _ 5 h.n.lt h.tN oM dE)
  d:=h.d.of_block (kk _ 6 h.d.lt h.tD oM dE)
  t:=(hB3.set r _).congr fun j hj=>rfl
  ts:=fun k hk=>by
   by_cases e:k=r
   .simp only[if_pos e];exact Ac hown fun q hq=>gE (by have e:g=q:=Option.some.inj hq;show q≠TB;rw[<-e];exact(hne TB 3 h.t.lt h.tT oM).symm)
   .simp only[if_neg e];exact Ac (h.ts k hk) fun q hq=>kk q (9+2*k) ((h.ts k hk).lt q hq).2 (h.tts k hk q hq) oM oM
  gs:=fun k hk=>Ac (h.gs k hk) fun q hq=>kk q (8+2*k) ((h.gs k hk).lt q hq).2 (h.tgs k hk q hq) oM oM
  td:=Ac h.td fun q hq=>kk q 7 (h.td.lt q hq).2 (h.ttd q hq) oM dE
  tB:=by show(if B=g then _ else _)=_;rw[if_neg (hne _ 1 h.b.lt h.tB oM)];exact h.tB
  tG:=by show(if GB=g then _ else _)=_;rw[if_neg (hne _ 2 h.g.lt h.tG oM)];exact h.tG
  tT:=by show(if TB=g then _ else _)=_;rw[if_neg (hne _ 3 h.t.lt h.tT oM)];exact h.tT
  tA:=by show(if AB=g then _ else _)=_;rw[if_neg (hne _ 4 h.a.lt h.tA oM)];exact h.tA
  tN:=by show(if NB=g then _ else _)=_;rw[if_neg (hne _ 5 h.n.lt h.tN oM)];exact h.tN
  tD:=by show(if DB=g then _ else _)=_;rw[if_neg (hne _ 6 h.d.lt h.tD oM)];exact h.tD
  tts:=fun k hk q hq=>by
   show(if q=g then _ else _)=_;by_cases e:k=r
   .simp only[if_pos e]at hq;rw[if_pos (Option.some.inj hq).symm,e]
   .simp only[if_neg e]at hq;rw[if_neg (hne _ (9+2*k) ((h.ts k hk).lt q hq).2 (h.tts k hk q hq) oM)];exact h.tts k hk q hq
  tgs:=fun k hk q hq=>by show(if q=g then _ else _)=_;rw[if_neg (hne _ (8+2*k) ((h.gs k hk).lt q hq).2 (h.tgs k hk q hq) oM)];exact h.tgs k hk q hq
  ttd:=fun q hq=>by show(if q=g then _ else _)=_;rw[if_neg (hne _ 7 (h.td.lt q hq).2 (h.ttd q hq) oM)];exact h.ttd q hq}
end
theorem Pp{T:Nat->Prop}(p0 p1 p2 p3 p5 p6 p7 p8:Option Addr)(n0 q0 n1 q1 n2 q2 n3 q3 n5 q5 n6 q6 n7 q7 n8 q8:Nat)(ct:Int)(pr:Option Addr)(qr:Nat)(X:List Cl)(N:Nat)(hN:X.length=N)(hX:N<=16384)(nn bt:Int)(kd ka kb kk:Nat)(hd:kd<N)(w:World)(hT:∀b,T b->b<w.heap.size)(hcs:AT T w (.slice pr N qr) X)(xa:Cl)(hxa:X[ka]? =some xa)(xb:Cl)(hxb:X[kb]? =some xb)(a0:Int)(hpa:xa.h.pats=[a0])(hP:AH a0)(hw:0<=xb.h.whole/\xb.h.whole<=2147483647):
 Calls prog 43 #[.agg #[(.slice p0 n0 q0),(.slice p1 n1 q1),(.slice p2 n2 q2),(.slice p3 n3 q3),.slice pr N qr,(.slice p5 n5 q5),(.slice p6 n6 q6),(.slice p7 n7 q7),(.slice p8 n8 q8),(.int .i64 ct)],.agg #[.int .i64 16,.int .i64 (kd:Int),.int .i64 (ka:Int),.int .i64 (kb:Int),.int .i64 (kk:Int),.int .i64 nn,.int .u32 bt]] w fun e w'=>∃p9 q9 x,e=.returned (.agg #[(.slice p0 n0 q0),(.slice p1 n1 q1),(.slice p2 n2 q2),(.slice p3 n3 q3),.slice p9 N q9,(.slice p5 n5 q5),(.slice p6 n6 q6),(.slice p7 n7 q7),(.slice p8 n8 q8),(.int .i64 ct)])/\x.h=⟨[JJ a0 xb.h.whole],0⟩/\AT T w' (.slice p9 N q9) (X.set kd x)/\Below w.heap.size w w':=by
 have HPUT:Hid (∀v F I D (x:Cl),DW w F I D v->B6 (T2 w T) v x.p x.h.pats->Calls prog 70 #[.slice pr N qr,.int .i64 (kd:Int),.agg #[.slice x.p x.h.pats.length x.q,.int .i64 x.h.whole]] v fun e w'=>∃p q,e=.returned (.slice p N q)/\AT (T2 w T) w' (.slice p N q) (X.set kd x)/\Below v.heap.size v w'):=BT (.slice pr N qr) X hN hX kd hd w hT hcs;have HT2:Hid (∀v:World,w.heap.size+1+1+1<v.heap.size->∀b,T2 w T b->b<v.heap.size):=fun v hv b hb=>Dl hT hb hv;have HXA:Hid (X[ka]? =some xa):=hxa;obtain⟨hal,hax⟩:=List.getElem?_eq_some_iff.1 hxa;obtain⟨rb,ro,rfl,hca⟩:=hcs.row.row.at hal;rw[hax]at hca;have x0:w.cell? ⟨rb,ro+ka*2,none⟩=some (.slice xa.p xa.h.pats.length xa.q):=hca.at 0 rfl;have x1:w.cell? ⟨rb,ro+ka*2+1,none⟩=some (.int .i64 xa.h.whole):=hca.at 1 rfl;have ha0:(0:Int)<=(ka:Int):=oM;have ha1:(ka:Int)<(N:Int):=oM;have hrb1:¬rb=w.heap.size:=by have:=A8 x0;intro e;simp only at this;omega
 have hrb2:¬rb=w.heap.size+1+1+1:=by have:=A8 x0;intro e;simp only at this;omega
 obtain⟨nb,no,hpe,-,-,hnc⟩:∃b o,xa.p=some ⟨b,o,none⟩/\¬T b/\b<w.heap.size/\∀j,j<xa.h.pats.length->w.cell? ⟨b,o+j,none⟩=some (.int .i64 (CH xa.h.pats j)):=by
  rcases hcs.nums xa (List.mem_of_getElem? hxa)with e|h
  .rw[hpa]at e;cases e
  .exact h
 have nz0:w.cell? ⟨nb,no,none⟩=some (.int .i64 a0):=by have:=hnc 0 (by rw[hpa];exact Nat.one_pos);rw[hpa]at this;exact this
 have hnb2:¬nb=w.heap.size+1+1+1:=by have:=A8 nz0;intro e;simp only at this;omega
 rw[hpa,hpe]at x0;have x4:w.cell? ⟨rb,ro+ka*2,none⟩=some (.slice (some ⟨nb,no,none⟩) 1 xa.q):=x0;obtain⟨hbl,hbx⟩:=List.getElem?_eq_some_iff.1 hxb;obtain⟨rbb,rob,eb,hcb⟩:=hcs.row.row.at hbl;simp only[Option.some.injEq,Addr.mk.injEq,and_true]at eb;obtain⟨rfl,rfl⟩:=eb;rw[hbx]at hcb;have yb:w.cell? ⟨rb,ro+kb*2+1,none⟩=some (.int .i64 xb.h.whole):=hcb.at 1 rfl;have hb1:(kb:Int)<(N:Int):=oM;have HKF:Hid (∀v,Calls prog 63 #[.int .i64 a0,.int .i64 xb.h.whole] v fun e w'=>e=.returned (.int .i64 (JJ a0 xb.h.whole))/\Below v.heap.size v w'):=fun v=>Xh a0 hP.1 hP.2 _ oM oM v;have hb0:(0:Int)<=(kb:Int):=oM;have HD0:Hid (DW w (D5 (.slice p0 n0 q0) (.slice p1 n1 q1) (.slice p2 n2 q2) (.slice p3 n3 q3) (.slice (some ⟨rb,ro,none⟩) N qr) (.slice p5 n5 q5) (.slice p6 n6 q6) (.slice p7 n7 q7) (.slice p8 n8 q8) (.int .i64 ct)) (f7 (.int .i64 16) (.int .i64 (kd:Int)) (.int .i64 (ka:Int)) (.int .i64 (kb:Int)) (.int .i64 (kk:Int)) (.int .i64 nn) (.int .u32 bt)) (f2 (.slice none 0 0) (.int .i64 0)) _):=DW.start w (.slice p0 n0 q0) (.slice p1 n1 q1) (.slice p2 n2 q2) (.slice p3 n3 q3) (.slice (some ⟨rb,ro,none⟩) N qr) (.slice p5 n5 q5) (.slice p6 n6 q6) (.slice p7 n7 q7) (.slice p8 n8 q8) (.int .i64 ct) (.int .i64 16) (.int .i64 (kd:Int)) (.int .i64 (ka:Int)) (.int .i64 (kb:Int)) (.int .i64 (kk:Int)) (.int .i64 nn) (.int .u32 bt);clear hT hcs hN hxa hca hal hax hxb hcb hbl hbx hpa hpe hnc x0 x1;go_enter func43,ntmps43;go_upto_block 0 with fail;go_cut [] (fun wx=>∃x:Cl,Hid (x.h=⟨[JJ a0 xb.h.whole],0⟩)/\Hid (DW w (D5 (.slice p0 n0 q0) (.slice p1 n1 q1) (.slice p2 n2 q2) (.slice p3 n3 q3) (.slice (some ⟨rb,ro,none⟩) N qr) (.slice p5 n5 q5) (.slice p6 n6 q6) (.slice p7 n7 q7) (.slice p8 n8 q8) (.int .i64 ct)) (f7 (.int .i64 16) (.int .i64 (kd:Int)) (.int .i64 (ka:Int)) (.int .i64 (kb:Int)) (.int .i64 (kk:Int)) (.int .i64 nn) (.int .u32 bt)) (f2 (.slice x.p x.h.pats.length x.q) (.int .i64 x.h.whole)) wx)/\Hid (B6 (T2 w T) wx x.p x.h.pats))
 case first=>
  obtain⟨W,hW⟩:=gA (((((w.alloc (.cells #[(.slice p0 n0 q0),(.slice p1 n1 q1),(.slice p2 n2 q2),(.slice p3 n3 q3),.slice (some ⟨rb,ro,none⟩) N qr,(.slice p5 n5 q5),(.slice p6 n6 q6),(.slice p7 n7 q7),(.slice p8 n8 q8),(.int .i64 ct)] 110)).alloc (.cells #[.int .i64 16,.int .i64 (kd:Int),.int .i64 (ka:Int),.int .i64 (kb:Int),.int .i64 (kk:Int),.int .i64 nn,.int .u32 bt] 40)).alloc (.cells #[.slice none 0 0,.slice none 0 0,.slice none 0 0,.slice none 0 0,.slice none 0 0,.slice none 0 0,.slice none 0 0,.slice none 0 0,.slice none 0 0,.int .i64 0] 110)).alloc (.cells #[.slice none 0 0,.int .i64 0] 74)))
  rw[hW]at HD0;rw[hW];clear hW;have hsz:=HD0.out.size;have f0:W.cell? ⟨w.heap.size,4,none⟩=some (.slice (some ⟨rb,ro,none⟩) N qr):=HD0.out.f.cell (i:=4) dE;have i0:W.cell? ⟨w.heap.size+1,0,none⟩=some (.int .i64 16):=HD0.out.i.cell (i:=0) dE;have i1:W.cell? ⟨w.heap.size+1,1,none⟩=some (.int .i64 (kd:Int)):=HD0.out.i.cell (i:=1) dE;have i2:W.cell? ⟨w.heap.size+1,2,none⟩=some (.int .i64 (ka:Int)):=HD0.out.i.cell (i:=2) dE;have i3:W.cell? ⟨w.heap.size+1,3,none⟩=some (.int .i64 (kb:Int)):=HD0.out.i.cell (i:=3) dE;have i4:W.cell? ⟨w.heap.size+1,4,none⟩=some (.int .i64 (kk:Int)):=HD0.out.i.cell (i:=4) dE;have i5:W.cell? ⟨w.heap.size+1,5,none⟩=some (.int .i64 nn):=HD0.out.i.cell (i:=5) dE;have i6:W.cell? ⟨w.heap.size+1,6,none⟩=some (.int .u32 bt):=HD0.out.i.cell (i:=6) dE;have d0:W.cell? ⟨w.heap.size+1+1+1,0,none⟩=some (.slice none 0 0):=HD0.out.d.cell (i:=0) dE;have d1:W.cell? ⟨w.heap.size+1+1+1,1,none⟩=some (.int .i64 0):=HD0.out.d.cell (i:=1) dE;have z0:=HD0.out.d.frozen 0;have z1:=HD0.out.d.frozen 1;have x5:=kc HD0.out.bel x4;have nz1:=kc HD0.out.bel nz0;have y1:=kc HD0.out.bel yb;clear x4 nz0 yb i1 i4 i5 i6;go_upto_region 10 with fail;refine rG (fun v=>v.cell? ⟨w.heap.size,4,none⟩=some (.slice (some ⟨rb,ro,none⟩) N qr)/\v.cell? ⟨w.heap.size+1,2,none⟩=some (.int .i64 (ka:Int))/\v.cell? ⟨w.heap.size+1,3,none⟩=some (.int .i64 (kb:Int))/\v.cell? ⟨rb,ro+ka*2,none⟩=some (.slice (some ⟨nb,no,none⟩) 1 xa.q)/\v.cell? ⟨nb,no,none⟩=some (.int .i64 a0)/\v.cell? ⟨rb,ro+kb*2+1,none⟩=some (.int .i64 xb.h.whole)) fun hJ=>?_;refine Tf 0 1 2 3 4 5 ?_;refine Tf 6 7 8 9 10 11 ?_;refine Tc 12 13 14 ?_;refine Bo 15 ?_;clear hJ;refine Aw 16 fun K hK=>?_;go_simp;(go_at_call 63;(with_reducible refine(HKF.out _).mono ?_);rintro e w3 ⟨rfl,hb3⟩;have HB3:Hid (Below W.heap.size W w3):=bel (A9 _) hb3;have HD3:Hid (DW w (D5 (.slice p0 n0 q0) (.slice p1 n1 q1) (.slice p2 n2 q2) (.slice p3 n3 q3) (.slice (some ⟨rb,ro,none⟩) N qr) (.slice p5 n5 q5) (.slice p6 n6 q6) (.slice p7 n7 q7) (.slice p8 n8 q8) (.int .i64 ct)) _ _ w3):=HD0.out.next HB3.out;clear hb3;have f0:=kc HB3.out f0;have i2:=kc HB3.out i2;have i3:=kc HB3.out i3;have x5:=kc HB3.out x5;have nz1:=kc HB3.out nz1;have y1:=kc HB3.out y1;clear d0 d1 z0 z1;have d0:w3.cell? ⟨w.heap.size+1+1+1,0,none⟩=some (.slice none 0 0):=HD3.out.d.cell (i:=0) dE;have d1:w3.cell? ⟨w.heap.size+1+1+1,1,none⟩=some (.int .i64 0):=HD3.out.d.cell (i:=1) dE;have z0:=HD3.out.d.frozen 0;have z1:=HD3.out.d.frozen 1;have d2:=(fun o=>kc (A0 w3 o) d0);have z2:=(fun o=>kf (A0 w3 o) d0 z0);have k0:=(fun o=>kc (A0 w3 o) f0);have k1:=(fun o=>kc (A0 w3 o) i2);have k2:=(fun o=>kc (A0 w3 o) i3);have k3:=(fun o=>kc (A0 w3 o) x5);have k4:=(fun o=>kc (A0 w3 o) nz1);have k5:=(fun o=>kc (A0 w3 o) y1);have sf0:=(fun o u=>AN (b:=⟨w.heap.size+1+1+1,0,none⟩) (kc (A0 w3 o) f0) iE u);have si2:=(fun o u=>AN (b:=⟨w.heap.size+1+1+1,0,none⟩) (kc (A0 w3 o) i2) iE u);have si3:=(fun o u=>AN (b:=⟨w.heap.size+1+1+1,0,none⟩) (kc (A0 w3 o) i3) iE u);have sx5:=(fun o u=>AN (b:=⟨w.heap.size+1+1+1,0,none⟩) (kc (A0 w3 o) x5) iE u);have snz1:=(fun o u=>AN (b:=⟨w.heap.size+1+1+1,0,none⟩) (kc (A0 w3 o) nz1) iE u);have sy1:=(fun o u=>AN (b:=⟨w.heap.size+1+1+1,0,none⟩) (kc (A0 w3 o) y1) iE u));try(go_wp2_with fail)
  refine Aq hK fun hJ=>?_;clear hK K;clear hJ;refine Aw 17 fun K hK=>?_;go_simp;refine Aq hK fun hJ=>?_;clear hK K;refine Bo 18 ?_;clear hJ;refine Aw 19 fun K hK=>?_;go_simp;refine Aq hK fun hJ=>?_;clear hK K;refine wpAnyH_done kR ?_ _;go_wp2;go_meet;exact⟨⟨some ⟨w3.heap.size,0,none⟩,1,⟨[JJ a0 xb.h.whole],0⟩⟩,rfl,((HD3.next (A0 _ _)).put 0 _).congr (fun j hj=>by obtain rfl|rfl:j=0\/j=1:=oM;all_goals rfl),JY HT2.out (HD3.size) _⟩
 case rest=>
  exact Zaa
theorem T3{T:Nat->Prop}(p0 p1 p2 p3 p5 p6 p7 p8:Option Addr)(n0 q0 n1 q1 n2 q2 n3 q3 n5 q5 n6 q6 n7 q7 n8 q8:Nat)(ct:Int)(pr:Option Addr)(qr:Nat)(X:List Cl)(N:Nat)(hN:X.length=N)(hX:N<=16384)(nn bt:Int)(kd ka kb kk:Nat)(hd:kd<N)(w:World)(hT:∀b,T b->b<w.heap.size)(hcs:AT T w (.slice pr N qr) X)(xa:Cl)(hxa:X[ka]? =some xa)(a0:Int)(hpa:xa.h.pats=[a0])(hP:AH a0):
 Calls prog 43 #[.agg #[(.slice p0 n0 q0),(.slice p1 n1 q1),(.slice p2 n2 q2),(.slice p3 n3 q3),.slice pr N qr,(.slice p5 n5 q5),(.slice p6 n6 q6),(.slice p7 n7 q7),(.slice p8 n8 q8),(.int .i64 ct)],.agg #[.int .i64 18,.int .i64 (kd:Int),.int .i64 (ka:Int),.int .i64 (kb:Int),.int .i64 (kk:Int),.int .i64 nn,.int .u32 bt]] w fun e w'=>∃p9 q9 x,e=.returned (.agg #[(.slice p0 n0 q0),(.slice p1 n1 q1),(.slice p2 n2 q2),(.slice p3 n3 q3),.slice p9 N q9,(.slice p5 n5 q5),(.slice p6 n6 q6),(.slice p7 n7 q7),(.slice p8 n8 q8),(.int .i64 ct)])/\x.h=⟨[],BI (a0%2147483648 != 0&&decide (a0%2147483648<=2139095040))⟩/\AT T w' (.slice p9 N q9) (X.set kd x)/\Below w.heap.size w w':=by
 have HPUT:Hid (∀v F I D (x:Cl),DW w F I D v->B6 (T2 w T) v x.p x.h.pats->Calls prog 70 #[.slice pr N qr,.int .i64 (kd:Int),.agg #[.slice x.p x.h.pats.length x.q,.int .i64 x.h.whole]] v fun e w'=>∃p q,e=.returned (.slice p N q)/\AT (T2 w T) w' (.slice p N q) (X.set kd x)/\Below v.heap.size v w'):=BT (.slice pr N qr) X hN hX kd hd w hT hcs;have HT2:Hid (∀v:World,w.heap.size+1+1+1<v.heap.size->∀b,T2 w T b->b<v.heap.size):=fun v hv b hb=>Dl hT hb hv;have HXA:Hid (X[ka]? =some xa):=hxa;obtain⟨hal,hax⟩:=List.getElem?_eq_some_iff.1 hxa;obtain⟨rb,ro,rfl,hca⟩:=hcs.row.row.at hal;rw[hax]at hca;have x0:w.cell? ⟨rb,ro+ka*2,none⟩=some (.slice xa.p xa.h.pats.length xa.q):=hca.at 0 rfl;have x1:w.cell? ⟨rb,ro+ka*2+1,none⟩=some (.int .i64 xa.h.whole):=hca.at 1 rfl;have ha0:(0:Int)<=(ka:Int):=oM;have ha1:(ka:Int)<(N:Int):=oM;have hrb1:¬rb=w.heap.size:=by have:=A8 x0;intro e;simp only at this;omega
 have hrb2:¬rb=w.heap.size+1+1+1:=by have:=A8 x0;intro e;simp only at this;omega
 obtain⟨nb,no,hpe,-,-,hnc⟩:∃b o,xa.p=some ⟨b,o,none⟩/\¬T b/\b<w.heap.size/\∀j,j<xa.h.pats.length->w.cell? ⟨b,o+j,none⟩=some (.int .i64 (CH xa.h.pats j)):=by
  rcases hcs.nums xa (List.mem_of_getElem? hxa)with e|h
  .rw[hpa]at e;cases e
  .exact h
 have nz0:w.cell? ⟨nb,no,none⟩=some (.int .i64 a0):=by have:=hnc 0 (by rw[hpa];exact Nat.one_pos);rw[hpa]at this;exact this
 have hnb2:¬nb=w.heap.size+1+1+1:=by have:=A8 nz0;intro e;simp only at this;omega
 rw[hpa,hpe]at x0;have x4:w.cell? ⟨rb,ro+ka*2,none⟩=some (.slice (some ⟨nb,no,none⟩) 1 xa.q):=x0;have HKF:Hid (∀b v,Calls prog 65 #[.bool b] v fun e w'=>e=.returned (.int .i64 (BI b))/\w'=v):=J1;have ht:a0.tmod 2147483648=a0%2147483648:=Int.tmod_eq_emod_of_nonneg hP.1;have hm0:0<=a0%2147483648:=Int.emod_nonneg _ dE;obtain⟨mm,hmm⟩:∃m,a0%2147483648=m:=⟨_,rfl⟩
 rw[hmm]at ht hm0 |-;have hP0:=hP.1;have hP1:=hP.2;have HD0:Hid (DW w (D5 (.slice p0 n0 q0) (.slice p1 n1 q1) (.slice p2 n2 q2) (.slice p3 n3 q3) (.slice (some ⟨rb,ro,none⟩) N qr) (.slice p5 n5 q5) (.slice p6 n6 q6) (.slice p7 n7 q7) (.slice p8 n8 q8) (.int .i64 ct)) (f7 (.int .i64 18) (.int .i64 (kd:Int)) (.int .i64 (ka:Int)) (.int .i64 (kb:Int)) (.int .i64 (kk:Int)) (.int .i64 nn) (.int .u32 bt)) (f2 (.slice none 0 0) (.int .i64 0)) _):=DW.start w (.slice p0 n0 q0) (.slice p1 n1 q1) (.slice p2 n2 q2) (.slice p3 n3 q3) (.slice (some ⟨rb,ro,none⟩) N qr) (.slice p5 n5 q5) (.slice p6 n6 q6) (.slice p7 n7 q7) (.slice p8 n8 q8) (.int .i64 ct) (.int .i64 18) (.int .i64 (kd:Int)) (.int .i64 (ka:Int)) (.int .i64 (kb:Int)) (.int .i64 (kk:Int)) (.int .i64 nn) (.int .u32 bt);clear hT hcs hN hxa hca hal hax hpa hpe hnc x0 x1 hP hmm;go_enter func43,ntmps43;go_upto_block 0 with fail;go_cut [] (fun wx=>∃x:Cl,Hid (x.h=⟨[],BI (mm != 0&&decide (mm<=2139095040))⟩)/\Hid (DW w (D5 (.slice p0 n0 q0) (.slice p1 n1 q1) (.slice p2 n2 q2) (.slice p3 n3 q3) (.slice (some ⟨rb,ro,none⟩) N qr) (.slice p5 n5 q5) (.slice p6 n6 q6) (.slice p7 n7 q7) (.slice p8 n8 q8) (.int .i64 ct)) (f7 (.int .i64 18) (.int .i64 (kd:Int)) (.int .i64 (ka:Int)) (.int .i64 (kb:Int)) (.int .i64 (kk:Int)) (.int .i64 nn) (.int .u32 bt)) (f2 (.slice x.p x.h.pats.length x.q) (.int .i64 x.h.whole)) wx)/\Hid (B6 (T2 w T) wx x.p x.h.pats))
 case first=>
  obtain⟨W,hW⟩:=gA (((((w.alloc (.cells #[(.slice p0 n0 q0),(.slice p1 n1 q1),(.slice p2 n2 q2),(.slice p3 n3 q3),.slice (some ⟨rb,ro,none⟩) N qr,(.slice p5 n5 q5),(.slice p6 n6 q6),(.slice p7 n7 q7),(.slice p8 n8 q8),(.int .i64 ct)] 110)).alloc (.cells #[.int .i64 18,.int .i64 (kd:Int),.int .i64 (ka:Int),.int .i64 (kb:Int),.int .i64 (kk:Int),.int .i64 nn,.int .u32 bt] 40)).alloc (.cells #[.slice none 0 0,.slice none 0 0,.slice none 0 0,.slice none 0 0,.slice none 0 0,.slice none 0 0,.slice none 0 0,.slice none 0 0,.slice none 0 0,.int .i64 0] 110)).alloc (.cells #[.slice none 0 0,.int .i64 0] 74)))
  rw[hW]at HD0;rw[hW];clear hW;have hsz:=HD0.size;have f0:W.cell? ⟨w.heap.size,4,none⟩=some (.slice (some ⟨rb,ro,none⟩) N qr):=HD0.f.cell (i:=4) dE;have i0:W.cell? ⟨w.heap.size+1,0,none⟩=some (.int .i64 18):=HD0.i.cell (i:=0) dE;have i1:W.cell? ⟨w.heap.size+1,1,none⟩=some (.int .i64 (kd:Int)):=HD0.i.cell (i:=1) dE;have i2:W.cell? ⟨w.heap.size+1,2,none⟩=some (.int .i64 (ka:Int)):=HD0.i.cell (i:=2) dE;have i3:W.cell? ⟨w.heap.size+1,3,none⟩=some (.int .i64 (kb:Int)):=HD0.i.cell (i:=3) dE;have i4:W.cell? ⟨w.heap.size+1,4,none⟩=some (.int .i64 (kk:Int)):=HD0.i.cell (i:=4) dE;have i5:W.cell? ⟨w.heap.size+1,5,none⟩=some (.int .i64 nn):=HD0.i.cell (i:=5) dE;have i6:W.cell? ⟨w.heap.size+1,6,none⟩=some (.int .u32 bt):=HD0.i.cell (i:=6) dE;have d0:W.cell? ⟨w.heap.size+1+1+1,0,none⟩=some (.slice none 0 0):=HD0.d.cell (i:=0) dE;have d1:W.cell? ⟨w.heap.size+1+1+1,1,none⟩=some (.int .i64 0):=HD0.d.cell (i:=1) dE;have z0:=HD0.d.frozen 0;have z1:=HD0.d.frozen 1;have x5:=kc HD0.bel x4;have nz1:=kc HD0.bel nz0;clear x4 nz0 i1 i3 i4 i5 i6;cases hz:(mm != 0)
  .have hz':(mm==0)=true:=by simpa using hz
   go_wp2_with(go_at_call 65;(with_reducible refine(HKF.out _ _).mono ?_);rintro e w3 ⟨rfl,rfl⟩)
   all_goals
    go_meet;exact⟨⟨none,0,⟨[],BI false⟩⟩,(by show(⟨[],BI false⟩:Hd)=⟨[],BI (mm != 0&&decide (mm<=2139095040))⟩;rw[hz];rfl),(HD0.put 1 _).congr (fun j hj=>by obtain rfl|rfl:j=0\/j=1:=oM;all_goals rfl),.inl rfl⟩
  .have hz':(mm==0)=false:=by simpa using hz
   go_wp2_with(go_at_call 65;(with_reducible refine(HKF.out _ _).mono ?_);rintro e w3 ⟨rfl,rfl⟩)
   all_goals
    go_meet;exact⟨⟨none,0,⟨[],BI (decide (mm<=2139095040))⟩⟩,(by show(⟨[],BI (decide (mm<=2139095040))⟩:Hd)=⟨[],BI (mm != 0&&decide (mm<=2139095040))⟩;rw[hz];rfl),(HD0.put 1 _).congr (fun j hj=>by obtain rfl|rfl:j=0\/j=1:=oM;all_goals rfl),.inl rfl⟩
 case rest=>
  exact Zaa
section
variable {E R S L : Nat} {s : Gh} {V w w' : World} {B C GB TB AB NB DB : Nat} {vg vt : Nat -> Value} {vd : Value} {tag : Nat -> Nat}
theorem Bz.appTodo(h:Bz E R S L s V B C GB TB AB NB DB vg vt vd tag)(hl:s.todo.length<=1000000)(x:Nat):
 ∃g cap w3,(Builtin.append_ #[72,72] 72 #[vd,.slice (some ⟨V.heap.size,0,none⟩) 1 1]).run prog (V.alloc (.cells #[.int .i64 (x:Int)] 3))=.ok (.slice (some ⟨g,0,none⟩) (s.todo.length+1) cap) w3/\Bz E R S L {s with todo:=s.todo++[x]} (w3.setCell ⟨B,6,none⟩ (.slice (some ⟨g,0,none⟩) (s.todo.length+1) cap)) B C GB TB AB NB DB vg vt (.slice (some ⟨g,0,none⟩) (s.todo.length+1) cap) (fun b=>if b=g then 7 else tag b)/\w3.cell? ⟨B,6,none⟩=some vd/\w3.frozen? ⟨B,6,none⟩=false/\Below E V w3/\(∀b,b<V.heap.size->vd.ownBlock≠some b->w3.heap[b]? =V.heap[b]?)/\∀b,b<V.heap.size->tag b≠7->b≠g:=by
 obtain⟨i0,hi0,hz0,hz1,hz2⟩:=info_parts Co;have hb0:Below V.heap.size V (V.alloc (.cells #[.int .i64 (x:Int)] 3)):=A0 _ _;have h0:=h.below hb0;have hsz:(V.alloc (.cells #[.int .i64 (x:Int)] 3)).heap.size=V.heap.size+1:=by show(V.alloc (.cells #[.int .i64 (x:Int)] 3)).heap.size=_;simp
 obtain⟨g,cap,w3,hr',hown,hgrow,hat,hlt⟩:=run_append_lies (P:=prog) (V.alloc (.cells #[.int .i64 (x:Int)] 3)) 72 72 E 3 i0 _ 1 8 underlying72 hi0 hz0 hz1 hz2 rfl dE vd s.todo.length (BD s.todo) h0.td ⟨V.heap.size,0,none⟩ 1 1 ([Value.int .i64 (x:Int)]) rfl
  (World.news_of_block (cs:=#[.int .i64 (x:Int)]) (t:=3) (fr:=(0,0)) (heap_alloc_new V _)) Zgv dE mL oM h0.lt _ rfl
 have hn:(s.todo++[x]).length=s.todo.length+1:=sM;have ho:w3.ownsRow E 3 1 (.slice (some ⟨g,0,none⟩) (s.todo++[x]).length cap) (s.todo++[x]).length (BD (s.todo++[x])):=by
  rw[hn];have e9:BD (s.todo++[x])=(BD s.todo)++([Value.int .i64 (x:Int)]):=by simp[BD,rkCs]
  rw[e9];exact hown
 obtain⟨k1,k2,k3,k4⟩:=h0.growTodo hgrow hat ho;rw[hn]at k1;exact⟨g,cap,w3,hr',k1,k2,k3,(hb0.mono h.lt).trans k4,fun b hb hne=>(hgrow.block b oM (fun e=>hne e.symm)).trans (hb0.block b hb),fun b hb hk=>Gn h0.ttd hat rfl hk oM⟩
theorem Bz.appSl(h:Bz E R S L s V B C GB TB AB NB DB vg vt vd tag){r:Nat}(hr:r<R)(hl:(s.sl r).length<=1000000)(x:Nat):
 ∃g cap w3,(Builtin.append_ #[72,72] 72 #[(vg r),.slice (some ⟨V.heap.size,0,none⟩) 1 1]).run prog (V.alloc (.cells #[.int .i64 (x:Int)] 3))=.ok (.slice (some ⟨g,0,none⟩) ((s.sl r).length+1) cap) w3/\Bz E R S L {s with sl:=fun k=>if k=r then s.sl r++[x]else s.sl k} (w3.setCell ⟨GB,r,none⟩ (.slice (some ⟨g,0,none⟩) ((s.sl r).length+1) cap)) B C GB TB AB NB DB (fun k=>if k=r then(.slice (some ⟨g,0,none⟩) ((s.sl r).length+1) cap)else vg k) vt vd (fun b=>if b=g then 8+2*r else tag b)/\w3.cell? ⟨GB,r,none⟩=some (vg r)/\w3.frozen? ⟨GB,r,none⟩=false/\Below E V w3/\(∀b,b<V.heap.size->(vg r).ownBlock≠some b->w3.heap[b]? =V.heap[b]?)/\∀b,b<V.heap.size->tag b≠8+2*r->b≠g:=by
 obtain⟨i0,hi0,hz0,hz1,hz2⟩:=info_parts Co;have hb0:Below V.heap.size V (V.alloc (.cells #[.int .i64 (x:Int)] 3)):=A0 _ _;have h0:=h.below hb0;have hsz:(V.alloc (.cells #[.int .i64 (x:Int)] 3)).heap.size=V.heap.size+1:=by show(V.alloc (.cells #[.int .i64 (x:Int)] 3)).heap.size=_;simp
 obtain⟨g,cap,w3,hr',hown,hgrow,hat,hlt⟩:=run_append_lies (P:=prog) (V.alloc (.cells #[.int .i64 (x:Int)] 3)) 72 72 E 3 i0 _ 1 8 underlying72 hi0 hz0 hz1 hz2 rfl dE (vg r) (s.sl r).length (BD (s.sl r)) (h0.gs r hr) ⟨V.heap.size,0,none⟩ 1 1 ([Value.int .i64 (x:Int)]) rfl
  (World.news_of_block (cs:=#[.int .i64 (x:Int)]) (t:=3) (fr:=(0,0)) (heap_alloc_new V _)) Zgv dE mL oM h0.lt _ rfl
 exact Zbx
theorem Bz.appSlD(h:Bz E R S L s V B C GB TB AB NB DB vg vt vd tag){r:Nat}(hr:r<R)(hl:(s.sl r).length<=1000000)(x:Nat):
 ∃g cap w3,(Builtin.append_ #[72,72] 72 #[(vg r),.slice (some ⟨V.heap.size,0,none⟩) 1 1]).run prog (V.alloc (.cells #[.int .i64 (x:Int)] 3)).drew=.ok (.slice (some ⟨g,0,none⟩) ((s.sl r).length+1) cap) w3/\Bz E R S L {s with sl:=fun k=>if k=r then s.sl r++[x]else s.sl k} (w3.setCell ⟨GB,r,none⟩ (.slice (some ⟨g,0,none⟩) ((s.sl r).length+1) cap)) B C GB TB AB NB DB (fun k=>if k=r then(.slice (some ⟨g,0,none⟩) ((s.sl r).length+1) cap)else vg k) vt vd (fun b=>if b=g then 8+2*r else tag b)/\w3.cell? ⟨GB,r,none⟩=some (vg r)/\w3.frozen? ⟨GB,r,none⟩=false/\Below E V w3/\(∀b,b<V.heap.size->(vg r).ownBlock≠some b->w3.heap[b]? =V.heap[b]?)/\∀b,b<V.heap.size->tag b≠8+2*r->b≠g:=by
 obtain⟨i0,hi0,hz0,hz1,hz2⟩:=info_parts Co;have hb0:Below V.heap.size V (V.alloc (.cells #[.int .i64 (x:Int)] 3)).drew:=bel (A0 _ _) (Bg _);have h0:=h.below hb0;have hsz:(V.alloc (.cells #[.int .i64 (x:Int)] 3)).drew.heap.size=V.heap.size+1:=by show(V.alloc (.cells #[.int .i64 (x:Int)] 3)).heap.size=_;simp
 obtain⟨g,cap,w3,hr',hown,hgrow,hat,hlt⟩:=run_append_lies (P:=prog) (V.alloc (.cells #[.int .i64 (x:Int)] 3)).drew 72 72 E 3 i0 _ 1 8 underlying72 hi0 hz0 hz1 hz2 rfl dE (vg r) (s.sl r).length (BD (s.sl r)) (h0.gs r hr) ⟨V.heap.size,0,none⟩ 1 1 ([Value.int .i64 (x:Int)]) rfl
  (World.news_of_block (cs:=#[.int .i64 (x:Int)]) (t:=3) (fr:=(0,0)) (heap_alloc_new V _)) Zgv dE mL oM h0.lt _ rfl
 exact Zbx
theorem Bz.appTl(h:Bz E R S L s V B C GB TB AB NB DB vg vt vd tag){r:Nat}(hr:r<S)(hl:(s.tl r).length<=1000000)(x:Nat):
 ∃g cap w3,(Builtin.append_ #[72,72] 72 #[(vt r),.slice (some ⟨V.heap.size,0,none⟩) 1 1]).run prog (V.alloc (.cells #[.int .i64 (x:Int)] 3))=.ok (.slice (some ⟨g,0,none⟩) ((s.tl r).length+1) cap) w3/\Bz E R S L {s with tl:=fun k=>if k=r then s.tl r++[x]else s.tl k} (w3.setCell ⟨TB,r,none⟩ (.slice (some ⟨g,0,none⟩) ((s.tl r).length+1) cap)) B C GB TB AB NB DB vg (fun k=>if k=r then(.slice (some ⟨g,0,none⟩) ((s.tl r).length+1) cap)else vt k) vd (fun b=>if b=g then 9+2*r else tag b)/\w3.cell? ⟨TB,r,none⟩=some (vt r)/\w3.frozen? ⟨TB,r,none⟩=false/\Below E V w3/\(∀b,b<V.heap.size->(vt r).ownBlock≠some b->w3.heap[b]? =V.heap[b]?)/\∀b,b<V.heap.size->tag b≠9+2*r->b≠g:=by
 obtain⟨i0,hi0,hz0,hz1,hz2⟩:=info_parts Co;have hb0:Below V.heap.size V (V.alloc (.cells #[.int .i64 (x:Int)] 3)):=A0 _ _;have h0:=h.below hb0;have hsz:(V.alloc (.cells #[.int .i64 (x:Int)] 3)).heap.size=V.heap.size+1:=by show(V.alloc (.cells #[.int .i64 (x:Int)] 3)).heap.size=_;simp
 obtain⟨g,cap,w3,hr',hown,hgrow,hat,hlt⟩:=run_append_lies (P:=prog) (V.alloc (.cells #[.int .i64 (x:Int)] 3)) 72 72 E 3 i0 _ 1 8 underlying72 hi0 hz0 hz1 hz2 rfl dE (vt r) (s.tl r).length (BD (s.tl r)) (h0.ts r hr) ⟨V.heap.size,0,none⟩ 1 1 ([Value.int .i64 (x:Int)]) rfl
  (World.news_of_block (cs:=#[.int .i64 (x:Int)]) (t:=3) (fr:=(0,0)) (heap_alloc_new V _)) Zgv dE mL oM h0.lt _ rfl
 exact Zby
theorem Bz.appTlD(h:Bz E R S L s V B C GB TB AB NB DB vg vt vd tag){r:Nat}(hr:r<S)(hl:(s.tl r).length<=1000000)(x:Nat):
 ∃g cap w3,(Builtin.append_ #[72,72] 72 #[(vt r),.slice (some ⟨V.heap.size,0,none⟩) 1 1]).run prog (V.alloc (.cells #[.int .i64 (x:Int)] 3)).drew=.ok (.slice (some ⟨g,0,none⟩) ((s.tl r).length+1) cap) w3/\Bz E R S L {s with tl:=fun k=>if k=r then s.tl r++[x]else s.tl k} (w3.setCell ⟨TB,r,none⟩ (.slice (some ⟨g,0,none⟩) ((s.tl r).length+1) cap)) B C GB TB AB NB DB vg (fun k=>if k=r then(.slice (some ⟨g,0,none⟩) ((s.tl r).length+1) cap)else vt k) vd (fun b=>if b=g then 9+2*r else tag b)/\w3.cell? ⟨TB,r,none⟩=some (vt r)/\w3.frozen? ⟨TB,r,none⟩=false/\Below E V w3/\(∀b,b<V.heap.size->(vt r).ownBlock≠some b->w3.heap[b]? =V.heap[b]?)/\∀b,b<V.heap.size->tag b≠9+2*r->b≠g:=by
 obtain⟨i0,hi0,hz0,hz1,hz2⟩:=info_parts Co;have hb0:Below V.heap.size V (V.alloc (.cells #[.int .i64 (x:Int)] 3)).drew:=bel (A0 _ _) (Bg _);have h0:=h.below hb0;have hsz:(V.alloc (.cells #[.int .i64 (x:Int)] 3)).drew.heap.size=V.heap.size+1:=by show(V.alloc (.cells #[.int .i64 (x:Int)] 3)).heap.size=_;simp
 obtain⟨g,cap,w3,hr',hown,hgrow,hat,hlt⟩:=run_append_lies (P:=prog) (V.alloc (.cells #[.int .i64 (x:Int)] 3)).drew 72 72 E 3 i0 _ 1 8 underlying72 hi0 hz0 hz1 hz2 rfl dE (vt r) (s.tl r).length (BD (s.tl r)) (h0.ts r hr) ⟨V.heap.size,0,none⟩ 1 1 ([Value.int .i64 (x:Int)]) rfl
  (World.news_of_block (cs:=#[.int .i64 (x:Int)]) (t:=3) (fr:=(0,0)) (heap_alloc_new V _)) Zgv dE mL oM h0.lt _ rfl
 exact Zby
end

def Ci(s:Gh)(p:Nat):Gh:=if s.nd p=true then s else{s with nd:=fun x=>if x=p then true else s.nd x,todo:=s.todo++[p]}
def Bn(s:Gh)(ps:List Nat):Gh:=ps.foldl Ci s
theorem Og(s:Gh){ps:List Nat}{j:Nat}(hj:j<ps.length):Bn s (ps.take (j+1))=Ci (Bn s (ps.take j)) ps[j]:=by
 unfold Bn;exact Zfq
theorem Qe(s:Gh)(p:Nat):(Ci s p).todo.length<=s.todo.length+1:=by unfold Ci;split<;>simp
theorem Fk:∀ (ps:List Nat) (s:Gh),(Bn s ps).todo.length<=s.todo.length+ps.length
 |[],s=>gF _
 |p::ps,s=>by
  have h1:=Fk ps (Ci s p);have h2:=Qe s p;show(Bn (Ci s p) ps).todo.length<=_;simp only[List.length_cons];omega
def Ll(w w':World)(tag tag':Nat->Nat):Prop:=∀b,b<w.heap.size->tag b≠1->tag b≠6->tag b≠7->w'.heap[b]? =w.heap[b]?/\tag' b=tag b
theorem Ll.lt{w w':World}{tag tag':Nat->Nat}(h:Ll w w' tag tag'){b:Nat}(hb:b<w.heap.size)(h1:tag b≠1)(h6:tag b≠6)(h7:tag b≠7):b<w'.heap.size:=by
 have h9:=(h b hb h1 h6 h7).1;rw[Array.getElem?_eq_getElem hb]at h9;exact(Array.getElem?_eq_some_iff.1 h9).1
theorem FZ(E R S L:Nat)(s:Gh)(w:World)(B C GB TB AB NB DB:Nat)(vg vt:Nat->Value)(vd:Value)(tag:Nat->Nat)(h:Bz E R S L s w B C GB TB AB NB DB vg vt vd tag)(pb cap m:Nat)(po:Option Addr)(ps:List Nat)(hpo:0<ps.length->po=some ⟨pb,0,none⟩)(hps:∀j (hj:j<ps.length),w.cell? ⟨pb,j,none⟩=some (.int .i64 (ps[j]:Int)))(hm:0<ps.length->tag pb=m/\m≠1/\m≠6/\m≠7)(hL:∀p∈ps,p<L)(hl:s.todo.length+ps.length<=1000000)(hLL:L<=1000000):
 Calls prog 29 #[.pointer (some ⟨B,0,none⟩),.slice po ps.length cap] w fun e w'=>e=.returned (.tuple #[])/\Below E w w'/\∃vd' tag',Bz E R S L (Bn s ps) w' B C GB TB AB NB DB vg vt vd' tag'/\Ll w w' tag tag':=by
 have HH:=A7 h;have HP:=A7 (And.intro hps (And.intro hm hL));obtain⟨n,hn⟩:=gA (ps.length)
 rw[hn]at hpo hl |-;have HN:=A7 hn;clear h hps hm hL hn;go_enter func29,ntmps29;go_wp2
 go_loopw [8] (fun iv wr=>∃j:Nat,j<=n/\iv=.int .i64 (j:Int)/\Hid (Below E w wr/\∃vd' tag',Bz E R S L (Bn s (ps.take j)) wr B C GB TB AB NB DB vg vt vd' tag'/\(∀k (hk:k<ps.length),wr.cell? ⟨pb,k,none⟩=some (.int .i64 (ps[k]:Int)))/\(0<ps.length->tag' pb=m/\m≠1/\m≠6/\m≠7)/\Ll w wr tag tag')) (fun iv _=>n-(intOf iv).toNat)
 case atStart=>exact⟨0,gI _,rfl,Below.refl E w,vd,tag,HH.out,HP.1,HP.2.1,fun b _ _ _ _=>⟨rfl,rfl⟩⟩
 case round=>
  obtain⟨j,hj,rfl,HJ⟩:=hrel;by_cases hlt:j<n
  .have hpe:=hpo oM;subst hpe;have hjl:j<ps.length:=by have:=HN.out;omega
   obtain⟨hB0,vd',tag',hK,hC,hT,hS⟩:=HJ.out;have HS:=A7 hS;have x0:=hC j hjl;have HCT:=A7 (And.intro hC (hT oM));have HB0:=A7 hB0;have HK:=A7 hK;have hpl:ps[j]<L:=HP.2.2 _ (gD hjl);have HX:Hid (Bn s (ps.take (j+1))=Ci (Bn s (ps.take j)) ps[j]):=Og s hjl;have hlen:(Bn s (ps.take j)).todo.length<=1000000:=by
    have h9:=Fk (ps.take j) s;have h8:(ps.take j).length<=n:=by rw[List.length_take];have:=HN.out;omega
    omega
   obtain⟨p,hp⟩:=gA (ps[j])
   rw[hp]at x0 hpl HX;obtain⟨T,hTT⟩:=gA (Bn s (ps.take j))
   simp only[hTT]at HK HX hlen;have d5:=HK.b5;have d6:=HK.b6;have dd:=HK.d.cell hpl;have fd:=HK.d.frozen p;have i1:(0:Int)<=(j:Int):=oM;have i2:(j:Int)<(n:Int):=oM;have i3:(0:Int)<=(p:Int):=oM;have i4:(p:Int)<(L:Int):=oM;have wi:IntKind.i64.wrap ((j:Int)+1)=((j+1:Nat):Int):=by rw[IntKind.wrap_i64];omega
   clear hB0 hK hC hT hTT hp hS;obtain⟨b,hb⟩:=gA (T.nd p)
   rw[hb]at dd;have HBB:=A7 hb;clear hb;cases b with
   |true=>
    go_wp2;go_roundw
    case rel=>
     refine⟨j+1,oM,gN,HB0.out,vd',tag',?_,HCT.1,fun _=>HCT.2,HS.out⟩;rw[HX.out];unfold Ci;rw[if_pos HBB.out];exact HK.out
    case measure=>simp[intOf];omega
   |false=>
    obtain⟨W1,hW1⟩:∃W,wr.setCell ⟨DB,p,none⟩ (.bool true)=W:=⟨_,rfl⟩
    have HK1:=A7 (HK.setNd p true);rw[hW1]at HK1;obtain⟨g,cap',w3,hr,hk3,k2,k3,hb3,hoth,hne⟩:=HK1.appTodo hlen p;have d6':=HK1.b6;have HR:=A7 hr;have lB:B<W1.heap.size:=HK1.b.lt;have n1:¬B=W1.heap.size:=oM;have hpw:pb<wr.heap.size:=A8 x0;have hsz:W1.heap.size=wr.heap.size:=by rw[<-hW1];simp
    have HT1:Hid ((∀k (hk:k<ps.length),(w3.setCell ⟨B,6,none⟩ (.slice (some ⟨g,0,none⟩) (T.todo.length+1) cap')).cell? ⟨pb,k,none⟩=some (.int .i64 (ps[k]:Int)))/\(if pb=g then 7 else tag' pb)=m):=by
     obtain⟨c1,c2,c3,c4,c5⟩:=HCT.out;refine⟨fun k hk=>?_,?_⟩
     .rw[gC (a:=⟨pb,k,none⟩) (w:=wr)]
      .exact c1 k hk
      .refine(gE (Am c2 HK.tB c3)).trans ((hoth pb oM (fun e=>(Am c2 (HK.ttd pb e) c5) rfl)).trans ?_);rw[<-hW1];exact gE (Am c2 HK.tD c4)
     .rw[if_neg (hne pb oM (by rw[c2];exact c5))];exact c2
    have HS3:Hid (Ll w (w3.setCell ⟨B,6,none⟩ (.slice (some ⟨g,0,none⟩) (T.todo.length+1) cap')) tag (fun b=>if b=g then 7 else tag' b)):=fun b hb t1 t6 t7=>by
     have hlt:=HS.lt hb t1 t6 t7;obtain⟨e1,e2⟩:=HS.out b hb t1 t6 t7;have h6:b≠DB:=fun e=>t6 (by rw[<-e2,e];exact HK.tD);have h1:b≠B:=fun e=>t1 (by rw[<-e2,e];exact HK.tB);refine⟨((gE h1).trans ((hoth b oM (fun e=>t7 (by rw[<-e2];exact HK.ttd b e))).trans ?_)).trans e1,?_⟩
     .rw[<-hW1];exact gE h6
     .show(if b=g then 7 else tag' b)=tag b;rw[if_neg (hne b oM (by rw[e2];exact t7)),e2]
    have HK3:Hid (Bz E R S L (Ci T p) (w3.setCell ⟨B,6,none⟩ (.slice (some ⟨g,0,none⟩) (T.todo.length+1) cap')) B C GB TB AB NB DB vg vt (.slice (some ⟨g,0,none⟩) (T.todo.length+1) cap') (fun b=>if b=g then 7 else tag' b)):=by
     unfold Ci;rw[if_neg (by rw[HBB.out];decide)];exact hk3
    have HB3:Hid (Below E w (w3.setCell ⟨B,6,none⟩ (.slice (some ⟨g,0,none⟩) (T.todo.length+1) cap'))):=by
     have h9:Below E wr W1:=by rw[<-hW1];exact(Below.refl E wr).setCell HK.hD _
     exact((HB0.trans h9).trans hb3).setCell HK.hB _
    have p6:(W1.alloc (.cells #[.int .i64 (p:Int)] 3)).cell? ⟨B,6,none⟩=some vd':=kc (A0 _ _) d6';obtain⟨M,hM⟩:=gA (T.todo.length+1)
    simp only[hM]at HR HT1 HK3 HB3 HS3;clear hr hk3 hb3 hoth hne hM hsz hpw lB;go_upto_region 5 with fail;try rw[hW1]
    go_wp2_with(at_builtin;refine AO rF _ _ _ rF _ _ _ rF rF HR.out ?_);go_roundw
    case rel=>
     refine⟨j+1,oM,gN,HB3.out,(.slice (some ⟨g,0,none⟩) M cap'),(fun b=>if b=g then 7 else tag' b),?_,HT1.1,fun _=>⟨HT1.2,HCT.2.2⟩,HS3.out⟩;rw[HX.out];exact HK3.out
    case measure=>simp[intOf];omega
  .have e9:¬ (j:Int)<(n:Int):=oM;have hjn:j=ps.length:=by have:=HN.out;omega
   obtain⟨hB0,vd',tag',hK,-,-,hS⟩:=HJ.out;rw[hjn,List.take_length]at hK;have HE:=A7 (And.intro hB0 (And.intro hK hS));clear hlt hjn hB0 hK hS;go_wp2;first|go_end0|(simp only[Exit.inBlock,Exit.then];refine bodyPost_ret (results_none rfl _ _ _) rfl ?_)|refine bodyPost_ret (results_none rfl _ _ _) rfl ?_
   exact⟨rfl,HE.1,vd',tag',HE.2.1,HE.2.2⟩
theorem Je(c:Cd)(hg:Good c)(v0 v1 v2 v3 ru su ou gu pu ct:Value)(X:List Cl)(hX:X.length=c.regs.length)(op nn bt:Int)(B C:Value)(kd ka:Nat)(hd:kd<c.regs.length)(ha:ka<X.length)(h2:c.regs[kd].kind=2)(w:World)(hv:CE w v0 v1 v2 v3 c)(hcs:Yg w ru X):
 Calls prog 62 #[.agg #[v0,v1,v2,v3,ru,su,ou,gu,pu,ct],.agg #[.int .i64 op,.int .i64 (kd:Int),.int .i64 (ka:Int),B,C,.int .i64 nn,.int .u32 bt]] w fun e w'=>
  e=.returned (.agg #[.slice X[ka].p X[ka].h.pats.length X[ka].q,.int .i64 X[ka].h.whole])/\C6 w' X[ka].p X[ka].h.pats/\Below w.heap.size w w':=by
 obtain⟨p1,q1,rfl,-⟩:=id hv.regs;obtain⟨lb,lo,rfl,hreg⟩:=hv.regs.at hd;obtain⟨pr,qr,rfl,-⟩:=id hcs.row;obtain⟨rb,ro,rfl,hca⟩:=hcs.row.at ha;have na:=hcs.nums _ (gD ha);obtain⟨xa,hxa⟩:∃x,X[ka]=x:=⟨_,rfl⟩
 rw[hxa]at hca na |-;obtain⟨⟨tk,tp⟩,hT⟩:∃t:Ty,c.regs[kd]=t:=⟨_,rfl⟩
 rw[hT]at hreg h2;simp only at h2;obtain⟨n1,hn1'⟩:∃n,c.regs.length=n:=⟨_,rfl⟩
 rw[hX]at ha |-;rw[hn1']at hd ha |-;have hregsL:=hg.regsL;rw[hn1']at hregsL;obtain⟨LA,hLA⟩:∃l,xa.h.pats.length=l:=⟨_,rfl⟩
 have y0:w.cell? ⟨rb,ro+ka*2,none⟩=some (.slice xa.p LA xa.q):=by rw[<-hLA];exact hca.at 0 rfl
 have y1:w.cell? ⟨rb,ro+ka*2+1,none⟩=some (.int .i64 xa.h.whole):=hca.at 1 rfl;rw[hLA];have z0:w.cell? ⟨lb,lo+kd*2,none⟩=some (.int .i64 tk):=hreg.at 0 rfl;have z1:w.cell? ⟨lb,lo+kd*2+1,none⟩=some (.int .i64 tp):=hreg.at 1 rfl;have hba:Below w.heap.size w (((w.alloc (.cells #[v0,.slice (some ⟨lb,lo,none⟩) n1 q1,v2,v3,.slice (some ⟨rb,ro,none⟩) n1 qr,su,ou,gu,pu,ct] 110)).alloc (.cells #[.int .i64 op,.int .i64 (kd:Int),.int .i64 (ka:Int),B,C,.int .i64 nn,.int .u32 bt] 40)).alloc (.cells #[.slice none 0 0,.int .i64 0] 74)):=bel (A0 _ _) (bel (A0 _ _) (A0 _ _));have b1:(((w.alloc (.cells #[v0,.slice (some ⟨lb,lo,none⟩) n1 q1,v2,v3,.slice (some ⟨rb,ro,none⟩) n1 qr,su,ou,gu,pu,ct] 110)).alloc (.cells #[.int .i64 op,.int .i64 (kd:Int),.int .i64 (ka:Int),B,C,.int .i64 nn,.int .u32 bt] 40)).alloc (.cells #[.slice none 0 0,.int .i64 0] 74)).cell? ⟨w.heap.size,1,none⟩=some (.slice (some ⟨lb,lo,none⟩) n1 q1):=kc (A0 _ _) (kc (A0 _ _) sG);have b2:(((w.alloc (.cells #[v0,.slice (some ⟨lb,lo,none⟩) n1 q1,v2,v3,.slice (some ⟨rb,ro,none⟩) n1 qr,su,ou,gu,pu,ct] 110)).alloc (.cells #[.int .i64 op,.int .i64 (kd:Int),.int .i64 (ka:Int),B,C,.int .i64 nn,.int .u32 bt] 40)).alloc (.cells #[.slice none 0 0,.int .i64 0] 74)).cell? ⟨w.heap.size+1,1,none⟩=some (.int .i64 (kd:Int)):=kc (A0 _ _) sG;have b3:=kc hba z0;have b4:=kc hba z1;have c1:∀o,((((w.alloc (.cells #[v0,.slice (some ⟨lb,lo,none⟩) n1 q1,v2,v3,.slice (some ⟨rb,ro,none⟩) n1 qr,su,ou,gu,pu,ct] 110)).alloc (.cells #[.int .i64 op,.int .i64 (kd:Int),.int .i64 (ka:Int),B,C,.int .i64 nn,.int .u32 bt] 40)).alloc (.cells #[.slice none 0 0,.int .i64 0] 74)).alloc o).cell? ⟨w.heap.size,4,none⟩=some (.slice (some ⟨rb,ro,none⟩) n1 qr):=fun o=>kc (A0 _ _) (kc (A0 _ _) (kc (A0 _ _) sG));have c2:∀o,((((w.alloc (.cells #[v0,.slice (some ⟨lb,lo,none⟩) n1 q1,v2,v3,.slice (some ⟨rb,ro,none⟩) n1 qr,su,ou,gu,pu,ct] 110)).alloc (.cells #[.int .i64 op,.int .i64 (kd:Int),.int .i64 (ka:Int),B,C,.int .i64 nn,.int .u32 bt] 40)).alloc (.cells #[.slice none 0 0,.int .i64 0] 74)).alloc o).cell? ⟨w.heap.size+1,2,none⟩=some (.int .i64 (ka:Int)):=fun o=>kc (A0 _ _) (kc (A0 _ _) sG);have c3:=fun o=>kc (bel hba (A0 _ o)) y0;have c4:=fun o=>kc (bel hba (A0 _ o)) y1;have c5:∀o,((((w.alloc (.cells #[v0,.slice (some ⟨lb,lo,none⟩) n1 q1,v2,v3,.slice (some ⟨rb,ro,none⟩) n1 qr,su,ou,gu,pu,ct] 110)).alloc (.cells #[.int .i64 op,.int .i64 (kd:Int),.int .i64 (ka:Int),B,C,.int .i64 nn,.int .u32 bt] 40)).alloc (.cells #[.slice none 0 0,.int .i64 0] 74)).alloc o).cell? ⟨w.heap.size+1+1,0,none⟩=some (.slice none 0 0):=fun o=>kc (A0 _ _) sG;have c6:∀o,((((w.alloc (.cells #[v0,.slice (some ⟨lb,lo,none⟩) n1 q1,v2,v3,.slice (some ⟨rb,ro,none⟩) n1 qr,su,ou,gu,pu,ct] 110)).alloc (.cells #[.int .i64 op,.int .i64 (kd:Int),.int .i64 (ka:Int),B,C,.int .i64 nn,.int .u32 bt] 40)).alloc (.cells #[.slice none 0 0,.int .i64 0] 74)).alloc o).cell? ⟨w.heap.size+1+1,1,none⟩=some (.int .i64 0):=fun o=>kc (A0 _ _) sG;have c7:∀o,((((w.alloc (.cells #[v0,.slice (some ⟨lb,lo,none⟩) n1 q1,v2,v3,.slice (some ⟨rb,ro,none⟩) n1 qr,su,ou,gu,pu,ct] 110)).alloc (.cells #[.int .i64 op,.int .i64 (kd:Int),.int .i64 (ka:Int),B,C,.int .i64 nn,.int .u32 bt] 40)).alloc (.cells #[.slice none 0 0,.int .i64 0] 74)).alloc o).frozen? ⟨w.heap.size+1+1,0,none⟩=false:=fun o=>kf (A0 _ _) (by simp[go_sem]:(((w.alloc (.cells #[v0,.slice (some ⟨lb,lo,none⟩) n1 q1,v2,v3,.slice (some ⟨rb,ro,none⟩) n1 qr,su,ou,gu,pu,ct] 110)).alloc (.cells #[.int .i64 op,.int .i64 (kd:Int),.int .i64 (ka:Int),B,C,.int .i64 nn,.int .u32 bt] 40)).alloc (.cells #[.slice none 0 0,.int .i64 0] 74)).cell? ⟨w.heap.size+1+1,0,none⟩=some (.slice none 0 0)) sG;have c8:∀o,((((w.alloc (.cells #[v0,.slice (some ⟨lb,lo,none⟩) n1 q1,v2,v3,.slice (some ⟨rb,ro,none⟩) n1 qr,su,ou,gu,pu,ct] 110)).alloc (.cells #[.int .i64 op,.int .i64 (kd:Int),.int .i64 (ka:Int),B,C,.int .i64 nn,.int .u32 bt] 40)).alloc (.cells #[.slice none 0 0,.int .i64 0] 74)).alloc o).frozen? ⟨w.heap.size+1+1,1,none⟩=false:=fun o=>kf (A0 _ _) (by simp[go_sem]:(((w.alloc (.cells #[v0,.slice (some ⟨lb,lo,none⟩) n1 q1,v2,v3,.slice (some ⟨rb,ro,none⟩) n1 qr,su,ou,gu,pu,ct] 110)).alloc (.cells #[.int .i64 op,.int .i64 (kd:Int),.int .i64 (ka:Int),B,C,.int .i64 nn,.int .u32 bt] 40)).alloc (.cells #[.slice none 0 0,.int .i64 0] 74)).cell? ⟨w.heap.size+1+1,1,none⟩=some (.int .i64 0)) sG;have d1:(0:Int)<=(kd:Int):=oM;have d2:(kd:Int)<(n1:Int):=oM;have d3:(ka:Int)<(n1:Int):=oM;have h2b:(tk==2)=true:=by simpa using h2
 have HNA:Hid (C6 w xa.p xa.h.pats):=na;have HBA:Hid (∀o,Below w.heap.size w ((((w.alloc (.cells #[v0,.slice (some ⟨lb,lo,none⟩) n1 q1,v2,v3,.slice (some ⟨rb,ro,none⟩) n1 qr,su,ou,gu,pu,ct] 110)).alloc (.cells #[.int .i64 op,.int .i64 (kd:Int),.int .i64 (ka:Int),B,C,.int .i64 nn,.int .u32 bt] 40)).alloc (.cells #[.slice none 0 0,.int .i64 0] 74)).alloc o)):=fun o=>bel hba (A0 _ _);clear hreg hca hcs hv hg hT hX h2 hxa na hLA hn1' y0 y1 z0 z1 hba;go_enter func62,ntmps62;go_wp2;refine bodyPost_ret Zhb rfl ?_;have hbF:∀a b d e,Below w.heap.size w ((((w.alloc a).alloc b).alloc d).alloc e):=fun a b d e=>bel (A0 _ _) (bel (A0 _ _) (bel (A0 _ _) (A0 _ _)));exact⟨rfl,HNA.below (hbF _ _ _ _),hbF _ _ _ _⟩

structure Er(l:List Ad)(s:Gh)(q:Sr):Prop where
 nd:s.nd=q.nd
 todo:s.todo=q.todo
 sl:∀r,s.sl r=if q.sr r=true then [] else I1 l r
 tl:∀r,s.tl r=if q.ss r=true then [] else IG l r
 ar:∀p,p<l.length->s.ar p=IQ l p
 en:∀b e,CF l b e->s.en b=(enP l b:Int)
section
variable {l : List Ad} {s : Gh} {q : Sr}
theorem Er.need1(h:Er l s q)(p:Nat):Er l (Ci s p) (need1 q p):=by
 unfold Ci Go.Proofs.YtnbccaicijcklaaGreat.need1;rw[h.nd];split
 .exact h
 .exact⟨by simp only,by simp only[h.todo],h.sl,h.tl,h.ar,h.en⟩
theorem Er.needL:∀ (ps:List Nat) {s:Gh} {q:Sr},Er l s q->Er l (Bn s ps) (needL q ps)
 |[],_,_,h=>h
 |p::ps,_,_,h=>Er.needL ps (h.need1 p)
theorem Of(s:Gh)(p:Nat):(Ci s p).sl=s.sl/\(Ci s p).tl=s.tl/\(Ci s p).ar=s.ar/\(Ci s p).en=s.en:=by unfold Ci;split<;>exact⟨rfl,rfl,rfl,rfl⟩
theorem G6:∀ (ps:List Nat) (s:Gh),(Bn s ps).sl=s.sl/\(Bn s ps).tl=s.tl/\(Bn s ps).ar=s.ar/\(Bn s ps).en=s.en
 |[],s=>⟨rfl,rfl,rfl,rfl⟩
 |p::ps,s=>by
  obtain⟨h1,h2,h3,h4⟩:=G6 ps (Ci s p);obtain⟨g1,g2,g3,g4⟩:=Of s p;exact⟨h1.trans g1,h2.trans g2,h3.trans g3,h4.trans g4⟩
def ZK(s:Gh)(r:Nat):Gh:={Bn s (s.sl r)with sl:=fun k=>if k=r then [] else(Bn s (s.sl r)).sl k}
def Wf(s:Gh)(r:Nat):Gh:={Bn s (s.tl r)with tl:=fun k=>if k=r then [] else(Bn s (s.tl r)).tl k}
theorem Er.goR(h:Er l s q)(r:Nat):Er l (ZK s r) (goR l q r):=by
 have h1:=h.needL (s.sl r);obtain⟨g1,g2⟩:=D3 (s.sl r) q;obtain⟨e1,e2,e3,e4⟩:=G6 (s.sl r) s;unfold ZK Go.Proofs.YtnbccaicijcklaaGreat.goR;rw[<-h.sl r];refine⟨h1.nd,h1.todo,fun k=>?_,h1.tl,h1.ar,h1.en⟩;show(if k=r then [] else(Bn s (s.sl r)).sl k)=if(if k=r then true else q.sr k)=true then [] else I1 l k;by_cases e:k=r
 .simp[e]
 .rw[if_neg e,if_neg e,e1];exact h.sl k
theorem Er.goS(h:Er l s q)(r:Nat):Er l (Wf s r) (goS l q r):=by
 have h1:=h.needL (s.tl r);obtain⟨g1,g2⟩:=D3 (s.tl r) q;obtain⟨e1,e2,e3,e4⟩:=G6 (s.tl r) s;unfold Wf Go.Proofs.YtnbccaicijcklaaGreat.goS;rw[<-h.tl r];refine⟨h1.nd,h1.todo,h1.sl,fun k=>?_,h1.ar,h1.en⟩;show(if k=r then [] else(Bn s (s.tl r)).tl k)=if(if k=r then true else q.ss k)=true then [] else IG l k;by_cases e:k=r
 .simp[e]
 .rw[if_neg e,if_neg e,e2];exact h.tl k
end
section
variable {E R S L : Nat} {s : Gh} {w : World} {B C GB TB AB NB DB : Nat} {vg vt : Nat -> Value} {vd : Value} {tag tag' : Nat -> Nat}
theorem Bz.retag(h:Bz E R S L s w B C GB TB AB NB DB vg vt vd tag)(k:∀b,b<w.heap.size->tag' b=tag b):Bz E R S L s w B C GB TB AB NB DB vg vt vd tag':=
 {h with
  tB:=(k _ h.b.lt).trans h.tB
  tG:=(k _ h.g.lt).trans h.tG
  tT:=(k _ h.t.lt).trans h.tT
  tA:=(k _ h.a.lt).trans h.tA
  tN:=(k _ h.n.lt).trans h.tN
  tD:=(k _ h.d.lt).trans h.tD
  tgs:=fun r hr q hq=>(k q ((h.gs r hr).lt q hq).2).trans (h.tgs r hr q hq)
  tts:=fun r hr q hq=>(k q ((h.ts r hr).lt q hq).2).trans (h.tts r hr q hq)
  ttd:=fun q hq=>(k q (h.td.lt q hq).2).trans (h.ttd q hq)}
end
theorem PV(m:Nat)(h:m<=17592186044416)(w:World):(Instr.makeSlice 72 (.int .i64 m) (.int .i64 m)).run prog w=.ok (.slice (some ⟨w.heap.size,0,none⟩) m m) (w.alloc (.cells (madeCells #[.int .i64 0] m) 3)):=
 run_make_row' (P:=prog) 72 3 (.int .i64 0) 8 underlying72 Co rfl .i64 .i64 m oM oM w
theorem Ps{T:Nat->Prop}(p0 p1 p2 p3 p5 p6 p7 p8:Option Addr)(n0 q0 n1 q1 n2 q2 n3 q3 n5 q5 n6 q6 n7 q7 n8 q8:Nat)(ct:Int)(pr:Option Addr)(qr:Nat)(X:List Cl)(N:Nat)(hN:X.length=N)(hX:N<=16384)(op:Int)(o1:21<=op)(o2:op<=28)(nn bt:Int)(kd ka kb kk:Nat)(hd:kd<N)(w:World)(hT:∀b,T b->b<w.heap.size)(hcs:AT T w (.slice pr N qr) X)(xa:Cl)(hxa:X[ka]? =some xa)(xb:Cl)(hxb:X[kb]? =some xb)(xc:Cl)(hxc:X[kk]? =some xc)(hwa:0<=xa.h.whole/\xa.h.whole<=2147483647)(hwb:0<=xb.h.whole/\xb.h.whole<=2147483647):
 Calls prog 43 #[.agg #[(.slice p0 n0 q0),(.slice p1 n1 q1),(.slice p2 n2 q2),(.slice p3 n3 q3),.slice pr N qr,(.slice p5 n5 q5),(.slice p6 n6 q6),(.slice p7 n7 q7),(.slice p8 n8 q8),(.int .i64 ct)],.agg #[.int .i64 op,.int .i64 (kd:Int),.int .i64 (ka:Int),.int .i64 (kb:Int),.int .i64 (kk:Int),.int .i64 nn,.int .u32 bt]] w fun e w'=>∃p9 q9 x,e=.returned (.agg #[(.slice p0 n0 q0),(.slice p1 n1 q1),(.slice p2 n2 q2),(.slice p3 n3 q3),.slice p9 N q9,(.slice p5 n5 q5),(.slice p6 n6 q6),(.slice p7 n7 q7),(.slice p8 n8 q8),(.int .i64 ct)])/\x.h=⟨[],Df op xa.h.whole xb.h.whole xc.h.whole⟩/\AT T w' (.slice p9 N q9) (X.set kd x)/\Below w.heap.size w w':=by
 have HPUT:Hid (∀v F I D (x:Cl),DW w F I D v->B6 (T2 w T) v x.p x.h.pats->Calls prog 70 #[.slice pr N qr,.int .i64 (kd:Int),.agg #[.slice x.p x.h.pats.length x.q,.int .i64 x.h.whole]] v fun e w'=>∃p q,e=.returned (.slice p N q)/\AT (T2 w T) w' (.slice p N q) (X.set kd x)/\Below v.heap.size v w'):=BT (.slice pr N qr) X hN hX kd hd w hT hcs;have HT2:Hid (∀v:World,w.heap.size+1+1+1<v.heap.size->∀b,T2 w T b->b<v.heap.size):=fun v hv b hb=>Dl hT hb hv;have HXA:Hid (X[ka]? =some xa):=hxa;obtain⟨hal,hax⟩:=List.getElem?_eq_some_iff.1 hxa;obtain⟨rb,ro,rfl,hca⟩:=hcs.row.row.at hal;rw[hax]at hca;have x0:w.cell? ⟨rb,ro+ka*2,none⟩=some (.slice xa.p xa.h.pats.length xa.q):=hca.at 0 rfl;have x1:w.cell? ⟨rb,ro+ka*2+1,none⟩=some (.int .i64 xa.h.whole):=hca.at 1 rfl;have ha0:(0:Int)<=(ka:Int):=oM;have ha1:(ka:Int)<(N:Int):=oM;have hrb1:¬rb=w.heap.size:=by have:=A8 x0;intro e;simp only at this;omega
 have hrb2:¬rb=w.heap.size+1+1+1:=by have:=A8 x0;intro e;simp only at this;omega
 obtain⟨hbl,hbx⟩:=List.getElem?_eq_some_iff.1 hxb;obtain⟨rbb,rob,eb,hcb⟩:=hcs.row.row.at hbl;simp only[Option.some.injEq,Addr.mk.injEq,and_true]at eb;obtain⟨rfl,rfl⟩:=eb;rw[hbx]at hcb;have yb:w.cell? ⟨rb,ro+kb*2+1,none⟩=some (.int .i64 xb.h.whole):=hcb.at 1 rfl;have hb1:(kb:Int)<(N:Int):=oM;obtain⟨hcl,hcx⟩:=List.getElem?_eq_some_iff.1 hxc;obtain⟨rbc,roc,ec,hcc⟩:=hcs.row.row.at hcl;simp only[Option.some.injEq,Addr.mk.injEq,and_true]at ec;obtain⟨rfl,rfl⟩:=ec;rw[hcx]at hcc;have yc:w.cell? ⟨rb,ro+kk*2+1,none⟩=some (.int .i64 xc.h.whole):=hcc.at 1 rfl;have hc1:(kk:Int)<(N:Int):=oM;have HKF:Hid (∀v,Calls prog 68 #[.int .i64 op,.int .i64 xa.h.whole,.int .i64 xb.h.whole,.int .i64 xc.h.whole] v fun e w'=>e=.returned (.int .i64 (Df op xa.h.whole xb.h.whole xc.h.whole))/\w'=v):=fun v=>Qx op _ _ _ ⟨o1,o2⟩ hwa hwb v;have hb0:(0:Int)<=(kb:Int):=oM;have hc0:(0:Int)<=(kk:Int):=oM;have on1:(op==1)=false:=by have:op≠1:=oM;simpa using this
 have on2:(op==2)=false:=by have:op≠2:=oM;simpa using this
 have on16:(op==16)=false:=by have:op≠16:=oM;simpa using this
 have on17:(op==17)=false:=by have:op≠17:=oM;simpa using this
 have on18:(op==18)=false:=by have:op≠18:=oM;simpa using this
 have on19:(op==19)=false:=by have:op≠19:=oM;simpa using this
 have on20:(op==20)=false:=by have:op≠20:=oM;simpa using this
 have on3:¬op<=15:=oM;have HD0:Hid (DW w (D5 (.slice p0 n0 q0) (.slice p1 n1 q1) (.slice p2 n2 q2) (.slice p3 n3 q3) (.slice (some ⟨rb,ro,none⟩) N qr) (.slice p5 n5 q5) (.slice p6 n6 q6) (.slice p7 n7 q7) (.slice p8 n8 q8) (.int .i64 ct)) (f7 (.int .i64 op) (.int .i64 (kd:Int)) (.int .i64 (ka:Int)) (.int .i64 (kb:Int)) (.int .i64 (kk:Int)) (.int .i64 nn) (.int .u32 bt)) (f2 (.slice none 0 0) (.int .i64 0)) _):=DW.start w (.slice p0 n0 q0) (.slice p1 n1 q1) (.slice p2 n2 q2) (.slice p3 n3 q3) (.slice (some ⟨rb,ro,none⟩) N qr) (.slice p5 n5 q5) (.slice p6 n6 q6) (.slice p7 n7 q7) (.slice p8 n8 q8) (.int .i64 ct) (.int .i64 op) (.int .i64 (kd:Int)) (.int .i64 (ka:Int)) (.int .i64 (kb:Int)) (.int .i64 (kk:Int)) (.int .i64 nn) (.int .u32 bt);clear hT hcs hN hxa hca hal hax hxb hcb hbl hbx hxc hcc hcl hcx x0;go_enter func43,ntmps43;go_upto_block 0 with fail;go_cut [] (fun wx=>∃x:Cl,Hid (x.h=⟨[],Df op xa.h.whole xb.h.whole xc.h.whole⟩)/\Hid (DW w (D5 (.slice p0 n0 q0) (.slice p1 n1 q1) (.slice p2 n2 q2) (.slice p3 n3 q3) (.slice (some ⟨rb,ro,none⟩) N qr) (.slice p5 n5 q5) (.slice p6 n6 q6) (.slice p7 n7 q7) (.slice p8 n8 q8) (.int .i64 ct)) (f7 (.int .i64 op) (.int .i64 (kd:Int)) (.int .i64 (ka:Int)) (.int .i64 (kb:Int)) (.int .i64 (kk:Int)) (.int .i64 nn) (.int .u32 bt)) (f2 (.slice x.p x.h.pats.length x.q) (.int .i64 x.h.whole)) wx)/\Hid (B6 (T2 w T) wx x.p x.h.pats))
 case first=>
  obtain⟨W,hW⟩:=gA (((((w.alloc (.cells #[(.slice p0 n0 q0),(.slice p1 n1 q1),(.slice p2 n2 q2),(.slice p3 n3 q3),.slice (some ⟨rb,ro,none⟩) N qr,(.slice p5 n5 q5),(.slice p6 n6 q6),(.slice p7 n7 q7),(.slice p8 n8 q8),(.int .i64 ct)] 110)).alloc (.cells #[.int .i64 op,.int .i64 (kd:Int),.int .i64 (ka:Int),.int .i64 (kb:Int),.int .i64 (kk:Int),.int .i64 nn,.int .u32 bt] 40)).alloc (.cells #[.slice none 0 0,.slice none 0 0,.slice none 0 0,.slice none 0 0,.slice none 0 0,.slice none 0 0,.slice none 0 0,.slice none 0 0,.slice none 0 0,.int .i64 0] 110)).alloc (.cells #[.slice none 0 0,.int .i64 0] 74)))
  rw[hW]at HD0;rw[hW];clear hW;have hsz:=HD0.size;have f0:W.cell? ⟨w.heap.size,4,none⟩=some (.slice (some ⟨rb,ro,none⟩) N qr):=HD0.f.cell (i:=4) dE;have i0:W.cell? ⟨w.heap.size+1,0,none⟩=some (.int .i64 op):=HD0.i.cell (i:=0) dE;have i1:W.cell? ⟨w.heap.size+1,1,none⟩=some (.int .i64 (kd:Int)):=HD0.i.cell (i:=1) dE;have i2:W.cell? ⟨w.heap.size+1,2,none⟩=some (.int .i64 (ka:Int)):=HD0.i.cell (i:=2) dE;have i3:W.cell? ⟨w.heap.size+1,3,none⟩=some (.int .i64 (kb:Int)):=HD0.i.cell (i:=3) dE;have i4:W.cell? ⟨w.heap.size+1,4,none⟩=some (.int .i64 (kk:Int)):=HD0.i.cell (i:=4) dE;have i5:W.cell? ⟨w.heap.size+1,5,none⟩=some (.int .i64 nn):=HD0.i.cell (i:=5) dE;have i6:W.cell? ⟨w.heap.size+1,6,none⟩=some (.int .u32 bt):=HD0.i.cell (i:=6) dE;have d0:W.cell? ⟨w.heap.size+1+1+1,0,none⟩=some (.slice none 0 0):=HD0.d.cell (i:=0) dE;have d1:W.cell? ⟨w.heap.size+1+1+1,1,none⟩=some (.int .i64 0):=HD0.d.cell (i:=1) dE;have z0:=HD0.d.frozen 0;have z1:=HD0.d.frozen 1;have x5:=kc HD0.bel x1;have y1:=kc HD0.bel yb;have y2:=kc HD0.bel yc;clear x1 yb yc i1 i5 i6;have sf0:=(fun u=>AN (b:=⟨w.heap.size+1+1+1,1,none⟩) (f0) iE u)
  have si0:=(fun u=>AN (b:=⟨w.heap.size+1+1+1,1,none⟩) (i0) iE u)
  have si2:=(fun u=>AN (b:=⟨w.heap.size+1+1+1,1,none⟩) (i2) iE u)
  have si3:=(fun u=>AN (b:=⟨w.heap.size+1+1+1,1,none⟩) (i3) iE u)
  have si4:=(fun u=>AN (b:=⟨w.heap.size+1+1+1,1,none⟩) (i4) iE u)
  have sx5:=(fun u=>AN (b:=⟨w.heap.size+1+1+1,1,none⟩) (x5) iE u)
  have sy1:=(fun u=>AN (b:=⟨w.heap.size+1+1+1,1,none⟩) (y1) iE u)
  have sy2:=(fun u=>AN (b:=⟨w.heap.size+1+1+1,1,none⟩) (y2) iE u)
  go_upto_region 21 with fail;refine rG (fun v=>v.cell? ⟨w.heap.size,4,none⟩=some (.slice (some ⟨rb,ro,none⟩) N qr)/\v.cell? ⟨w.heap.size+1,0,none⟩=some (.int .i64 op)/\v.cell? ⟨w.heap.size+1,2,none⟩=some (.int .i64 (ka:Int))/\v.cell? ⟨w.heap.size+1,3,none⟩=some (.int .i64 (kb:Int))/\v.cell? ⟨w.heap.size+1,4,none⟩=some (.int .i64 (kk:Int))/\v.cell? ⟨rb,ro+ka*2+1,none⟩=some (.int .i64 xa.h.whole)/\v.cell? ⟨rb,ro+kb*2+1,none⟩=some (.int .i64 xb.h.whole)/\v.cell? ⟨rb,ro+kk*2+1,none⟩=some (.int .i64 xc.h.whole)) fun hJ=>?_;refine Tf 0 1 2 3 4 5 ?_;refine Tf 6 7 8 9 10 11 ?_;refine Tf 12 13 14 15 16 17 ?_;refine Tc 18 19 20 ?_;refine Tb 21 22 ?_;clear hJ;refine Aw 23 fun K hK=>?_;go_simp;(go_at_call 68;(with_reducible refine(HKF.out _).mono ?_);rintro e w3 ⟨rfl,rfl⟩);try(go_wp2_with fail)
  refine Aq hK fun hJ=>?_;clear hK K;refine Bo 24 ?_;clear hJ;refine Aw 25 fun K hK=>?_;go_simp;refine Aq hK fun hJ=>?_;clear hK K;refine wpAnyH_done kR ?_ _;go_wp2;go_meet;exact⟨⟨none,0,⟨[],_⟩⟩,rfl,((HD0.next (A9 _)).put 1 _).congr (fun j hj=>by obtain rfl|rfl:j=0\/j=1:=oM;all_goals rfl),.inl rfl⟩
 case rest=>
  exact Zaa
theorem XF(c:Cd)(hg:Good c)(v0 v1 v2 v3:Value)(op A B C nn bt:Int)(ho:(3<=op/\op<=15)\/op=29\/op=30\/op=32)(k:Nat)(hk:k<c.regs.length)(w:World)(hv:CE w v0 v1 v2 v3 c):
 Calls prog 42 #[.agg #[v0,v1,v2,v3],.agg #[.int .i64 op,.int .i64 (k:Int),.int .i64 A,.int .i64 B,.int .i64 C,.int .i64 nn,.int .u32 bt]] w fun e w'=>(∃n:Nat,n<=4096/\e=.returned (.int .i64 (n:Int)))/\Below w.heap.size w w':=by
 have KW:=Fm v0 v1 v2 v3 c hg c.regs[k] (fun h=>hg.type (gD hk) h);have hwid:(if c.regs[k].kind=3 then lenOf c c.regs[k].par else 1)<=4096:=by split;exact hg.lenOf _;omega
 obtain⟨p1,q1,rfl,-⟩:=id hv.regs;obtain⟨lb,lo,rfl,hreg⟩:=hv.regs.at hk;obtain⟨⟨tk,tp⟩,hT⟩:∃t:Ty,c.regs[k]=t:=⟨_,rfl⟩
 rw[hT]at hreg KW hwid;unfold DY at KW;simp only at KW hwid;obtain⟨Wd,hWd⟩:∃W,(if tk=3 then lenOf c tp else 1)=W:=⟨_,rfl⟩
 have hWi:(if tk=3 then(lenOf c tp:Int)else 1)=(Wd:Int):=by rw[<-hWd];split<;>rfl
 rw[hWi]at KW;rw[hWd]at hwid;obtain⟨n1,hn1⟩:∃n,c.regs.length=n:=⟨_,rfl⟩
 rw[hn1]at hk KW |-;obtain⟨D,hD⟩:∃d:Int,(k:Int)=d:=⟨_,rfl⟩
 rw[hD];have z0:w.cell? ⟨lb,lo+k*2,none⟩=some (.int .i64 tk):=hreg.at 0 rfl;have z1:w.cell? ⟨lb,lo+k*2+1,none⟩=some (.int .i64 tp):=hreg.at 1 rfl;have HKW:Hid (∀v,Below w.heap.size w v->Calls prog 40 #[.agg #[v0,.slice (some ⟨lb,lo,none⟩) n1 q1,v2,v3],.agg #[.int .i64 tk,.int .i64 tp]] v fun e w'=>e=.returned (.int .i64 (Wd:Int))/\Below v.heap.size v w'):=fun v hb=>KW v (by have h9:=hv.below hb;rw[hn1]at h9;exact h9);subst hD;have HT:Hid (TW w v0 (.slice (some ⟨lb,lo,none⟩) n1 q1) v2 v3 (w.heap.size+1) op (k:Int) A B C nn bt _):=TW.start w v0 _ v2 v3 op (k:Int) A B C nn bt;obtain⟨hb00,c0,c1,c2,c3,i0,i1,i2,i3,i4,i5,i6⟩:=HT.out;have x0:=kc hb00 z0;have x1:=kc hb00 z1;have d1:(0:Int)<=(k:Int):=oM;have d2:(k:Int)<(n1:Int):=oM;have hrl:=hg.regsL;rw[hn1]at hrl;clear KW hreg hT hWd hWi hn1 hv hg;rcases ho with⟨o1,o2⟩|rfl|rfl|rfl
 all_goals
  go_enter func42,ntmps42;go_wp2;refine rG (fun v=>v.cell? ⟨w.heap.size,0,none⟩=some v0/\v.cell? ⟨w.heap.size,1,none⟩=some (.slice (some ⟨lb,lo,none⟩) n1 q1)/\v.cell? ⟨w.heap.size,2,none⟩=some v2/\v.cell? ⟨w.heap.size,3,none⟩=some v3/\v.cell? ⟨w.heap.size+1,1,none⟩=some (.int .i64 (k:Int))/\v.cell? ⟨lb,lo+k*2,none⟩=some (.int .i64 tk)/\v.cell? ⟨lb,lo+k*2+1,none⟩=some (.int .i64 tp)) fun hJ=>?_;refine Tf 0 1 2 3 4 5 ?_;refine Bo 6 ?_;clear hJ;refine Aw 7 fun K hK=>?_;go_simp;(go_at_call 40;(with_reducible refine(HKW.out _ (bel HT.out.bel (A9 _))).mono ?_);rintro e w2 ⟨rfl,hb2⟩;have HT2:Hid (TW w v0 (.slice (some ⟨lb,lo,none⟩) n1 q1) v2 v3 (w.heap.size+1) _ (k:Int) A B C nn bt w2):=HT.out.next (bel (A9 _) hb2);clear hb2 c0 c1 c2 c3 i0 i1 i2 i3 i4 i5 i6 x0 x1;obtain⟨hb02,c0,c1,c2,c3,i0,i1,i2,i3,i4,i5,i6⟩:=HT2.out;have x0:=kc hb02 z0;have x1:=kc hb02 z1);exact Zey
theorem XE(c:Cd)(hg:Good c)(v0 v1 v2 v3:Value)(op A B C nn bt:Int)(ho:op=31\/op=33\/op=19\/op=20)(k:Nat)(hk:k<c.regs.length)(w:World)(hv:CE w v0 v1 v2 v3 c):
 Calls prog 42 #[.agg #[v0,v1,v2,v3],.agg #[.int .i64 op,.int .i64 A,.int .i64 (k:Int),.int .i64 B,.int .i64 C,.int .i64 nn,.int .u32 bt]] w fun e w'=>(∃n:Nat,n<=4096/\e=.returned (.int .i64 (n:Int)))/\Below w.heap.size w w':=by
 have KW:=Fm v0 v1 v2 v3 c hg c.regs[k] (fun h=>hg.type (gD hk) h);have hwid:(if c.regs[k].kind=3 then lenOf c c.regs[k].par else 1)<=4096:=by split;exact hg.lenOf _;omega
 obtain⟨p1,q1,rfl,-⟩:=id hv.regs;obtain⟨lb,lo,rfl,hreg⟩:=hv.regs.at hk;obtain⟨⟨tk,tp⟩,hT⟩:∃t:Ty,c.regs[k]=t:=⟨_,rfl⟩
 rw[hT]at hreg KW hwid;unfold DY at KW;simp only at KW hwid;obtain⟨Wd,hWd⟩:∃W,(if tk=3 then lenOf c tp else 1)=W:=⟨_,rfl⟩
 have hWi:(if tk=3 then(lenOf c tp:Int)else 1)=(Wd:Int):=by rw[<-hWd];split<;>rfl
 rw[hWi]at KW;rw[hWd]at hwid;obtain⟨n1,hn1⟩:∃n,c.regs.length=n:=⟨_,rfl⟩
 rw[hn1]at hk KW |-;obtain⟨D,hD⟩:∃d:Int,(k:Int)=d:=⟨_,rfl⟩
 rw[hD];have z0:w.cell? ⟨lb,lo+k*2,none⟩=some (.int .i64 tk):=hreg.at 0 rfl;have z1:w.cell? ⟨lb,lo+k*2+1,none⟩=some (.int .i64 tp):=hreg.at 1 rfl;have HKW:Hid (∀v,Below w.heap.size w v->Calls prog 40 #[.agg #[v0,.slice (some ⟨lb,lo,none⟩) n1 q1,v2,v3],.agg #[.int .i64 tk,.int .i64 tp]] v fun e w'=>e=.returned (.int .i64 (Wd:Int))/\Below v.heap.size v w'):=fun v hb=>KW v (by have h9:=hv.below hb;rw[hn1]at h9;exact h9);subst hD;have HT:Hid (TW w v0 (.slice (some ⟨lb,lo,none⟩) n1 q1) v2 v3 (w.heap.size+1) op A (k:Int) B C nn bt _):=TW.start w v0 _ v2 v3 op A (k:Int) B C nn bt;obtain⟨hb00,c0,c1,c2,c3,i0,i1,i2,i3,i4,i5,i6⟩:=HT.out;have x0:=kc hb00 z0;have x1:=kc hb00 z1;have d1:(0:Int)<=(k:Int):=oM;have d2:(k:Int)<(n1:Int):=oM;have hrl:=hg.regsL;rw[hn1]at hrl;clear KW hreg hT hWd hWi hn1 hv hg;rcases ho with rfl|rfl|rfl|rfl
 all_goals
  go_enter func42,ntmps42;go_wp2;refine rG (fun v=>v.cell? ⟨w.heap.size,0,none⟩=some v0/\v.cell? ⟨w.heap.size,1,none⟩=some (.slice (some ⟨lb,lo,none⟩) n1 q1)/\v.cell? ⟨w.heap.size,2,none⟩=some v2/\v.cell? ⟨w.heap.size,3,none⟩=some v3/\v.cell? ⟨w.heap.size+1,2,none⟩=some (.int .i64 (k:Int))/\v.cell? ⟨lb,lo+k*2,none⟩=some (.int .i64 tk)/\v.cell? ⟨lb,lo+k*2+1,none⟩=some (.int .i64 tp)) fun hJ=>?_;refine Tf 0 1 2 3 4 5 ?_;refine Bo 6 ?_;clear hJ;refine Aw 7 fun K hK=>?_;go_simp;(go_at_call 40;(with_reducible refine(HKW.out _ (bel HT.out.bel (A9 _))).mono ?_);rintro e w2 ⟨rfl,hb2⟩;have HT2:Hid (TW w v0 (.slice (some ⟨lb,lo,none⟩) n1 q1) v2 v3 (w.heap.size+1) _ A (k:Int) B C nn bt w2):=HT.out.next (bel (A9 _) hb2);clear hb2 c0 c1 c2 c3 i0 i1 i2 i3 i4 i5 i6 x0 x1;obtain⟨hb02,c0,c1,c2,c3,i0,i1,i2,i3,i4,i5,i6⟩:=HT2.out;have x0:=kc hb02 z0;have x1:=kc hb02 z1);exact Zey
theorem XD(v0 v1 v2 v3:Value)(op D A B C nn bt:Int)(ho:op=1\/op=2\/op=16\/op=17\/op=18\/op=21\/op=22\/op=23\/op=24\/op=25\/op=26\/op=27\/op=28\/op=34\/op=35\/op=36\/op=37)(w:World):
 Calls prog 42 #[.agg #[v0,v1,v2,v3],.agg #[.int .i64 op,.int .i64 D,.int .i64 A,.int .i64 B,.int .i64 C,.int .i64 nn,.int .u32 bt]] w fun e w'=>(∃n:Nat,n<=4096/\e=.returned (.int .i64 (n:Int)))/\Below w.heap.size w w':=by
 rcases ho with rfl|rfl|rfl|rfl|rfl|rfl|rfl|rfl|rfl|rfl|rfl|rfl|rfl|rfl|rfl|rfl|rfl
 all_goals
  go_enter func42,ntmps42;go_wp2;go_ret;first
   |exact⟨⟨1,dE,rfl⟩,bel (A0 _ _) (A0 _ _)⟩
   |exact⟨⟨62,dE,rfl⟩,bel (A0 _ _) (A0 _ _)⟩
theorem rowsP{E:Nat}{w:World}{v:Value}{ps:List Nat}{tag:Nat->Nat}{m:Nat}(ho:w.ownsRow E 3 1 v ps.length (BD ps))(ht:∀q,v.ownBlock=some q->tag q=m):
 ∃pb po cap,v=.slice po ps.length cap/\(0<ps.length->po=some ⟨pb,0,none⟩)/\(∀j (hj:j<ps.length),w.cell? ⟨pb,j,none⟩=some (.int .i64 (ps[j]:Int)))/\(0<ps.length->tag pb=m):=by
 by_cases hn:0<ps.length
 .obtain⟨g,cap,rfl,-,-,-,-,h⟩:=Dc ho hn;exact⟨g,_,cap,rfl,fun _=>rfl,fun j hj=>h j _ (by simp[BD,hj]),fun _=>ht g rfl⟩
 .obtain⟨po,cap,rfl⟩:=AZ ho;exact⟨0,po,cap,rfl,fun h=>absurd h hn,fun j hj=>absurd hj oM,fun h=>absurd h hn⟩
theorem Rs{m:Nat}{tag:Nat->Nat}:∀g,(Value.slice none 0 0).ownBlock=some g->tag g=m:=fun g h=>by cases h
theorem Er.slLen{l:List Ad}{s:Gh}{q:Sr}(h:Er l s q)(r:Nat):(s.sl r).length<=l.length:=by
 rw[h.sl r];split
 .exact gI _
 .unfold I1;exact gH (List.length_filter_le _ _) sM
theorem Er.tlLen{l:List Ad}{s:Gh}{q:Sr}(h:Er l s q)(r:Nat):(s.tl r).length<=l.length:=by
 rw[h.tl r];split
 .exact gI _
 .unfold IG;exact gH (List.length_filter_le _ _) sM
theorem Er.slLt{l:List Ad}{s:Gh}{q:Sr}(h:Er l s q)(r:Nat):∀p∈s.sl r,p<l.length:=fun p hp=>by
 rw[h.sl r]at hp;split at hp
 .cases hp
 .exact(I2.1 hp).1
theorem Er.tlLt{l:List Ad}{s:Gh}{q:Sr}(h:Er l s q)(r:Nat):∀p∈s.tl r,p<l.length:=fun p hp=>by
 rw[h.tl r]at hp;split at hp
 .cases hp
 .exact(I7.1 hp).1
theorem We(s:Gh)(r:Nat):(ZK s r).todo.length<=s.todo.length+(s.sl r).length:=Fk _ _
theorem Wg(s:Gh)(r:Nat):(Wf s r).todo.length<=s.todo.length+(s.tl r).length:=Fk _ _
theorem T9(l:List Ad)(q:Sr){rs:List Int}{j:Nat}(hj:j<rs.length):E9 l q (rs.take (j+1))=goR l (E9 l q (rs.take j)) rs[j].toNat:=by
 unfold E9;exact Zfq
def Zb(a b:Nat)(w0 w:World)(tag:Nat->Nat):Prop:=∀x,a<=x->x<b->w.heap[x]? =w0.heap[x]?/\tag x=0/\x<w.heap.size
theorem Zb.same{a b:Nat}{w0 w w':World}{tag tag':Nat->Nat}(h:Zb a b w0 w tag)(k:Ll w w' tag tag'):Zb a b w0 w' tag':=fun x h1 h2=>by
 obtain⟨e1,e2,e3⟩:=h x h1 h2;obtain⟨g1,g2⟩:=k x e3 oM oM oM;exact⟨g1.trans e1,g2.trans e2,k.lt e3 oM oM oM⟩
theorem Zb.set{a b:Nat}{w0 w:World}{tag:Nat->Nat}(h:Zb a b w0 w tag){g j m:Nat}(v:Value)(hg:tag g=m)(hm:m≠0):Zb a b w0 (w.setCell ⟨g,j,none⟩ v) tag:=fun x h1 h2=>by
 obtain⟨e1,e2,e3⟩:=h x h1 h2;exact⟨(gE (fun(q:x=g)=>hm (by rw[<-hg,<-q];exact e2))).trans e1,e2,by simpa using e3⟩
theorem Zb.cell{a b:Nat}{w0 w:World}{tag:Nat->Nat}(h:Zb a b w0 w tag){x j:Nat}{v:Value}(h1:a<=x)(h2:x<b)(hc:w0.cell? ⟨x,j,none⟩=some v):w.cell? ⟨x,j,none⟩=some v:=(gC (a:=⟨x,j,none⟩) (h x h1 h2).1).trans hc
theorem Vo(l:List Ad)(E R S:Nat)(s:Gh)(q:Sr)(w:World)(B C GB TB AB NB DB:Nat)(vg vt:Nat->Value)(vd:Value)(tag:Nat->Nat)(h:Bz E R S l.length s w B C GB TB AB NB DB vg vt vd tag)(hq:Er l s q)(p3:Option Addr)(q3:Nat)(hC:w.cell? ⟨C,3,none⟩=some (.slice p3 l.length q3))(hli:AV 7 C9 w (.slice p3 l.length q3) l)(p:Nat)(hp:p<l.length)(hr:∀r∈Ae l[p] (A4 l[p].op),0<=r/\r<(R:Int))(hn:l[p].op=32->0<=l[p].n/\l[p].n<(S:Int))(hst:AE l=[])(hl:s.todo.length<=40000)(hLL:l.length<=40000):
 Calls prog 30 #[.pointer (some ⟨B,0,none⟩),.int .i64 (p:Int)] w fun e w'=>e=.returned (.tuple #[])/\Below E w w'/\∃s' vg' vt' vd' tag',Bz E R S l.length s' w' B C GB TB AB NB DB vg' vt' vd' tag'/\Er l s' (goQ l q p l[p]):=by
 have KR:=A7 (fun v=>M4 l[p] v);obtain⟨lb,lo,rfl,hcl⟩:=hli.at hp;have HAR:Hid (∀b,(OY l p).head?=some b->b<l.length/\enP l b<l.length/\CF l b (enP l b)):=fun b hb=>by
  obtain⟨e,hm⟩:=O4 hst (l.length-p) p rfl (Nat.le_of_lt hp) (QT hp hb);obtain⟨g1,g2,-,-⟩:=DF hm;rw[Pu hm];exact⟨g1,g2,hm⟩
 have HGQ:Hid (goQ l q p l[p]=goA l (if l[p].op=32 then goS l (E9 l q (Ae l[p] (A4 l[p].op))) l[p].n.toNat else E9 l q (Ae l[p] (A4 l[p].op))) p):=rfl;have HARI:=A7 (PF (OY l p));have HAQ:Hid (IQ l p=FF (OY l p)):=rfl;obtain⟨rs,hrs⟩:=gA (Ae l[p] (A4 l[p].op))
 simp only[hrs]at KR hr HGQ;have HRR:=A7 hr;have hrl:rs.length<=3:=by rw[<-hrs,F2];have h1:=DS (A4 l[p].op).a l[p].a;have h2:=DS (A4 l[p].op).b l[p].b;have h3:=DS (A4 l[p].op).c l[p].c;simp only[List.length_append];omega
 obtain⟨⟨op,d,a,b,e,n,z⟩,hi⟩:∃i,l[p]=i:=⟨_,rfl⟩
 rw[hi]at hcl KR HGQ hn |-;simp only at hn HGQ;have y0:=hcl.at 0 (v:=.int .i64 op) rfl;rw[Nat.add_zero]at y0;have y1:=hcl.at 1 (v:=.int .i64 d) rfl;have y2:=hcl.at 2 (v:=.int .i64 a) rfl;have y3:=hcl.at 3 (v:=.int .i64 b) rfl;have y4:=hcl.at 4 (v:=.int .i64 e) rfl;have y5:=hcl.at 5 (v:=.int .i64 n) rfl;have y6:=hcl.at 6 (v:=.int .u32 z) rfl;have llb:lb<w.heap.size:=A8 y0;have n9:¬lb=w.heap.size:=oM;have c0:=h.b0;have HH:=A7 h;have HQ:=A7 hq;obtain⟨L,hL⟩:=gA (l.length)
 simp only[hL]at HH hC hp hLL HAR |-;have HLL:=A7 hL;have i1:(0:Int)<=(p:Int):=oM;have i2:(p:Int)<(L:Int):=oM;obtain⟨V2,hV2⟩:∃V,w.alloc (.cells #[.int .i64 op,.int .i64 d,.int .i64 a,.int .i64 b,.int .i64 e,.int .i64 n,.int .u32 z] 40)=V:=⟨_,rfl⟩
 have HV2:Hid (Below w.heap.size w V2):=by rw[<-hV2];exact A0 _ _
 have hX2:V2.rowIs w.heap.size 40 7 (UX op d a b e n z):=by rw[<-hV2];exact BS w _ _
 have HX2:=A7 hX2;have x0:V2.cell? ⟨w.heap.size,0,none⟩=some (.int .i64 op):=hX2.cell (i:=0) dE;have x1:V2.cell? ⟨w.heap.size,1,none⟩=some (.int .i64 d):=hX2.cell (i:=1) dE;have x2:V2.cell? ⟨w.heap.size,2,none⟩=some (.int .i64 a):=hX2.cell (i:=2) dE;have x3:V2.cell? ⟨w.heap.size,3,none⟩=some (.int .i64 b):=hX2.cell (i:=3) dE;have x4:V2.cell? ⟨w.heap.size,4,none⟩=some (.int .i64 e):=hX2.cell (i:=4) dE;have x5:V2.cell? ⟨w.heap.size,5,none⟩=some (.int .i64 n):=hX2.cell (i:=5) dE;have x6:V2.cell? ⟨w.heap.size,6,none⟩=some (.int .u32 z):=hX2.cell (i:=6) dE;unfold Ch at KR;simp only at KR;clear h hq hcl hi hr hrs hX2 hL hst hli llb;go_enter func30,ntmps30;go_upto_region 1 with fail;try rw[hV2]
 clear hV2 y0 y1 y2 y3 y4 y5 y6 hC c0 n9;go_wp2_with(go_at_call 32;(with_reducible refine(KR.out _).mono ?_);rintro e9 w3 ⟨v3,rfl,ho3,hb3⟩;obtain⟨p4,q4,rfl⟩:=AZ ho3;have HO3:=A7 ho3;have HB3:=A7 hb3;clear ho3 hb3);clear KR x0 x1 x2 x3 x4 x5 x6;obtain⟨nr,hnr⟩:=gA (rs.length)
 have HNR:=A7 hnr;obtain⟨H0,hH0⟩:=gA (w.heap.size)
 have HWE:Hid (E<=H0):=by rw[<-hH0];exact HH.lt
 have HBW:Hid (Below H0 w w3):=by rw[<-hH0];exact bel HV2.out HB3.out
 have HX3:Hid (w3.rowIs H0 40 7 (UX op d a b e n z)):=by rw[<-hH0];exact HX2.of_block (HB3.block _ HX2.lt)
 have HRD:Hid (∀k (hk:k<rs.length),∃pb,p4=some ⟨pb,0,none⟩/\H0<=pb/\pb<w3.heap.size/\w3.cell? ⟨pb,k,none⟩=some (.int .i64 rs[k])):=fun k hk=>by
  obtain⟨g,cap,ev,g1,g2,-,-,g3⟩:=Dc HO3.out oM;simp only[Value.slice.injEq]at ev;refine⟨g,ev.1,?_,g2,g3 k _ (by simp[Cg,hk])⟩;rw[<-hH0];exact gH HV2.size g1
 have HK0:Hid (Below E w w3/\∃s' vg' vd' tag',Bz E R S L s' w3 B C GB TB AB NB DB vg' vt vd' tag'/\Er l s' (E9 l q (rs.take 0))/\s'.todo.length<=40000+40000*0/\Zb H0 w3.heap.size w3 w3 tag'):=by
  refine⟨HBW.mono HWE.out,s,vg,vd,fun b=>if b<w.heap.size then tag b else 0,(HH.retag (fun b hb=>if_pos hb)).below (by rw[hH0];exact HBW.out),HQ.out,oM,fun x h1 h2=>⟨rfl,if_neg oM,h2⟩⟩
 rw[hnr];rw[hnr]at hrl;rw[hH0];clear hH0;have hnp:∀j,j<nr->(0:Int)<=(j:Int):=fun j _=>by omega
 clear HH HQ hnr HO3 HV2 HB3 HX2;go_wp2
 go_loopw [21] (fun iv wr=>∃j:Nat,j<=nr/\iv=.int .i64 (j:Int)/\Hid (Below E w wr/\∃s' vg' vd' tag',Bz E R S L s' wr B C GB TB AB NB DB vg' vt vd' tag'/\Er l s' (E9 l q (rs.take j))/\s'.todo.length<=40000+40000*j/\Zb H0 w3.heap.size w3 wr tag')) (fun iv _=>nr-(intOf iv).toNat)
 case atStart=>exact⟨0,gI _,rfl,HK0.out⟩
 case round=>
  clear HK0;obtain⟨j,hj,rfl,HJ⟩:=hrel;by_cases hlt:j<nr
  .have hjl:j<rs.length:=by have:=HNR.out;omega
   obtain⟨hB0,T,vg',vd',tag',hK,hS,hT,hZ⟩:=HJ.out;obtain⟨pb,rfl,pb1,pb2,pb3⟩:=HRD.out j hjl;have x0:=hZ.cell pb1 pb2 pb3;obtain⟨hr1,hr2⟩:=HRR.out _ (gD hjl);have HGN:=A7 (T9 l q hjl);obtain⟨r,hrn⟩:∃r:Nat,rs[j]=(r:Int):=⟨rs[j].toNat,oM⟩
   rw[hrn]at x0 hr2 HGN;rw[Int.toNat_natCast]at HGN;have hrR:r<R:=oM;have d1:=hK.b1;have dg:=hK.g.cell hrR;obtain⟨pb',po,cap,ev,r1,r2,r3⟩:=rowsP (hK.gs r hrR) (hK.tgs r hrR);have hpl:=hS.slLen r;have KN:=A7 (FZ E R S L T wr B C GB TB AB NB DB vg' vt vd' tag' hK pb' cap (8+2*r) po (T.sl r) r1 r2 (fun hh=>⟨r3 hh,oM,oM,oM⟩) (fun x hx=>by have:=hS.slLt r x hx;have h9:=HLL.out;omega) (by have h9:=HLL.out;omega) oM);rw[ev]at dg;have HT:=A7 hT;have HPL:=A7 hpl;have HS:=A7 hS;have HZ:=A7 hZ;have HB0:=A7 hB0;have i3:(0:Int)<=(j:Int):=oM;have i4:(j:Int)<(nr:Int):=oM;have i5:(0:Int)<=(r:Int):=oM;have wi:IntKind.i64.wrap ((j:Int)+1)=((j+1:Nat):Int):=by rw[IntKind.wrap_i64];omega
   obtain⟨m,hm⟩:=gA ((T.sl r).length)
   rw[hm]at dg KN;clear hB0 hK hS hT hZ hrn r1 r2 r3 hpl ev hm pb1 pb2 pb3 hr1;go_upto_region 5 with(go_at_call 29;(with_reducible refine(KN.out).mono ?_);rintro e9 w4 ⟨rfl,hb4,vd4,tag4,hk4,hs4⟩;have HB4:=A7 hb4;have HK4:=A7 hk4;have HS4:=A7 hs4;have d1:=hk4.b1;have dg:=hk4.g.cell hrR;have fg:=hk4.g.frozen r;clear hb4 hk4 hs4)
   go_wp2;go_roundw
   case rel=>
    refine⟨j+1,oM,gN,(HB0.trans HB4.out).setCell HK4.hG _,ZK T r,_,vd4,tag4,HK4.setSl (O:=[]) hrR (World.ownsRow_nil _ _ _ 1) Rs,?_,?_,(HZ.same HS4.out).set _ HK4.tG dE⟩
    .rw[HGN.out];exact HS.goR r
    .have h9:=We T r;have h8:=HT.out;have h7:=HPL.out;have h6:=HLL.out;omega
   case measure=>simp[intOf];omega
  .have e9:¬ (j:Int)<(nr:Int):=oM;have hjn:j=rs.length:=by have:=HNR.out;omega
   obtain⟨hB0,T,vg',vd',tag',hK,hS,hT,hZ⟩:=HJ.out;rw[hjn,List.take_length]at hS;have x0:wr.cell? ⟨H0,0,none⟩=some (.int .i64 op):=hZ.cell (gF _) HX3.lt (HX3.cell (i:=0) dE);have x5:wr.cell? ⟨H0,5,none⟩=some (.int .i64 n):=hZ.cell (gF _) HX3.lt (HX3.cell (i:=5) dE);by_cases o:op=32
   .obtain⟨n1,n2⟩:=hn o;obtain⟨m,hm⟩:∃m:Nat,n=(m:Int):=⟨n.toNat,oM⟩
    have hmS:m<S:=oM;have o1:(op==32)=true:=by simpa using o
    have HGO:Hid ((if op=32 then goS l (E9 l q rs) n.toNat else E9 l q rs)=goS l (E9 l q rs) m):=by show _=_;rw[if_pos o,hm,Int.toNat_natCast]
    rw[hm]at x5;have d2:=hK.b2;have dt:=hK.t.cell hmS;obtain⟨pb',po,cap,ev,r1,r2,r3⟩:=rowsP (hK.ts m hmS) (hK.tts m hmS);have hpl:=hS.tlLen m;have KN:=A7 (fun(v:World) (hv:Below wr.heap.size wr v)=>FZ E R S L T v B C GB TB AB NB DB vg' vt vd' tag' (hK.below hv) pb' cap (9+2*m) po (T.tl m) r1 (fun k hk=>kc hv (r2 k hk)) (fun hh=>⟨r3 hh,oM,oM,oM⟩) (fun x hx=>by have:=hS.tlLt m x hx;have h9:=HLL.out;omega) (by have h9:=HLL.out;omega) oM);rw[ev]at dt;have EV:=A7 ev;have HLW:=A7 hK.lt;have HS1:=A7 (hS.goS m);have HT1:Hid ((Wf T m).todo.length<=240000):=by have h9:=Wg T m;have h6:=HLL.out;show _<=_;omega
    have HZ:=A7 hZ;have HB0:=A7 hB0;have i5:(0:Int)<=(m:Int):=oM;have i6:(m:Int)<(S:Int):=oM;have lX:H0<wr.heap.size:=(hZ H0 (gF _) HX3.lt).2.2;have HXS:Hid (∀v tagv,Zb H0 w3.heap.size w3 v tagv->v.cell? ⟨H0,5,none⟩=some (.int .i64 (m:Int))):=fun v tagv hz=>by
     have h9:=hz.cell (gF _) HX3.lt (HX3.cell (i:=5) dE);rw[<-hm];exact h9
    rw[HGO.out]at HGQ;obtain⟨mm,hmm⟩:=gA ((T.tl m).length)
    rw[hmm]at dt KN EV;clear hB0 hK hS hT hZ r1 r2 r3 hpl ev hmm hm o n1 n2 hn hjn hlt HJ HGO lX HRR HNR HRD;go_upto_region 8 with fail;refine rG (fun v=>v.cell? ⟨B,2,none⟩=some (.slice (some ⟨TB,0,none⟩) S S)/\v.cell? ⟨H0,5,none⟩=some (.int .i64 (m:Int))/\v.cell? ⟨TB,m,none⟩=some (.slice po mm cap)) fun hJ=>?_;refine Tf 0 1 2 3 4 5 ?_;refine Tc 6 7 8 ?_;clear hJ;refine Aw 9 fun K hK=>?_;go_simp;(go_at_call 29;(with_reducible refine(KN.out _ (Bg _)).mono ?_);rintro e9 w4 ⟨rfl,hb4,vd4,tag4,hk4,hs4⟩;have HB4:=A7 hb4;have HK4:=A7 hk4;have HZ4:=A7 ((HZ.out:Zb H0 w3.heap.size w3 wr.drew tag').same hs4);have d2:=hk4.b2;have dt:=hk4.t.cell hmS;rw[EV.out]at dt;have nBT:¬B=TB:=Am hk4.tB hk4.tT dE;have nHT:¬H0=TB:=Am (HZ4.out H0 (gF _) HX3.out.lt).2.1 hk4.tT dE;have ft:=hk4.t.frozen m;have x5:=HXS.out _ _ HZ4.out;have v3:(w4.setCell ⟨TB,m,none⟩ (.slice none 0 0)).cell? ⟨B,2,none⟩=some (.slice (some ⟨TB,0,none⟩) S S):=(gC (a:=⟨B,2,none⟩) (gE nBT)).trans d2;have v4:(w4.setCell ⟨TB,m,none⟩ (.slice none 0 0)).cell? ⟨H0,5,none⟩=some (.int .i64 (m:Int)):=(gC (a:=⟨H0,5,none⟩) (gE nHT)).trans x5;clear hb4 hk4 hs4);try(go_wp2_with fail)
    refine Aq hK fun hJ=>?_;clear hK K;refine wpAnyH_done kR ?_ _;go_upto_region 9 with fail;refine rG (fun v=>v.cell? ⟨B,2,none⟩=some (.slice (some ⟨TB,0,none⟩) S S)/\v.cell? ⟨H0,5,none⟩=some (.int .i64 (m:Int))) fun hJ=>?_;refine Tf 0 1 2 3 4 5 ?_;refine Bo 6 ?_;clear hJ;refine Aw 7 fun K hK=>?_;go_simp;refine Aq hK fun hJ=>?_;clear hK K;refine wpAnyH_done kR ?_ _;obtain⟨WW,hWW⟩:∃W,(w4.setCell ⟨TB,m,none⟩ (.slice none 0 0)).drew=W:=⟨_,rfl⟩
    try rw[hWW]
    have HKK0:=HK4.setTl (O:=[]) hmS (World.ownsRow_nil _ _ _ 1) Rs;have HKK1:=HKK0.below (Bg _);rw[hWW]at HKK1;obtain⟨TT,hTT⟩:∃T',Wf T m=T':=⟨_,rfl⟩
    obtain⟨vgT,hvgT⟩:∃v,vg'=v:=⟨_,rfl⟩
    obtain⟨vtT,hvtT⟩:∃v,(fun k=>if k=m then(Value.slice none 0 0)else vt k)=v:=⟨_,rfl⟩
    obtain⟨vdT,hvdT⟩:∃v,vd4=v:=⟨_,rfl⟩
    obtain⟨tagT,htagT⟩:∃v,tag4=v:=⟨_,rfl⟩
    have HKK:Hid (Bz E R S L TT WW B C GB TB AB NB DB vgT vtT vdT tagT):=by rw[<-hTT,<-hvgT,<-hvtT,<-hvdT,<-htagT];exact HKK1
    have HSS:Hid (Er l TT (goS l (E9 l q rs) m)):=by rw[<-hTT];exact HS1.out
    have HTD:Hid (TT.todo.length<=240000):=by rw[<-hTT];exact HT1.out
    have HBB:Hid (Below E w WW):=by rw[<-hWW];exact((HB0.trans (((Bg wr).mono HLW.out).trans HB4.out)).setCell HK4.hT _).trans ((Bg _).mono HKK0.lt)
    clear HKK0 HKK1 hTT hvgT hvtT hvdT htagT HS1 HT1 HK4 HB4 HZ4 HZ HB0 d2 dt ft x5 v3 v4 nBT nHT KN hWW HXS;rcases HARI.out with⟨q1,q2⟩|⟨bg,q1,q2⟩
    .have dA:=HKK.a.cell hp;rw[HSS.ar p Zhv,HAQ.out,q2]at dA;have d3:=HKK.b3;have HFIN:Hid (Er l TT (goQ l q p ⟨op,d,a,b,e,n,z⟩)):=by
      show Er _ _ _;rw[HGQ.out];unfold goA;rw[q1];exact HSS.out
     clear q1 q2;go_wp2;first|go_end0|(simp only[Exit.inBlock,Exit.then];refine bodyPost_ret (results_none rfl _ _ _) rfl ?_)|refine bodyPost_ret (results_none rfl _ _ _) rfl ?_
     first|exact⟨rfl,HBB.out,TT,⟨vgT,vtT,vdT,tagT,HKK.out⟩,HFIN.out⟩|exact⟨rfl,HBB.out,TT,vgT,vtT,vdT,tagT,HKK.out,HFIN.out⟩
    .obtain⟨b1,b2,b3⟩:=HAR.out bg q1;have dA:=HKK.a.cell hp;rw[HSS.ar p Zhv,HAQ.out,q2]at dA;have dN:=HKK.n.cell b1;rw[HSS.en bg _ b3]at dN;have d3:=HKK.b3;have d4:=HKK.b4;have HFIN:Hid (Er l (Bn TT [bg,enP l bg]) (goQ l q p ⟨op,d,a,b,e,n,z⟩)):=by
      show Er _ _ _;rw[HGQ.out];unfold goA;rw[q1];exact HSS.needL _
     have j1:(0:Int)<=(bg:Int):=oM;have j2:(bg:Int)<(L:Int):=oM;obtain⟨eb,heb⟩:=gA (enP l bg)
     rw[heb]at dN b2 HFIN;obtain⟨W6,hW6⟩:∃W,WW.alloc (.cells #[.int .i64 (bg:Int),.int .i64 (eb:Int)] 3)=W:=⟨_,rfl⟩
     have HB6:Hid (Below WW.heap.size WW W6):=by rw[<-hW6];exact A0 _ _
     have HK6:Hid (Bz E R S L TT W6 B C GB TB AB NB DB vgT vtT vdT (fun x=>if x<WW.heap.size then tagT x else 0)):=(HKK.retag (fun x hx=>if_pos hx)).below HB6.out;have KN0:=FZ E R S L TT W6 B C GB TB AB NB DB vgT vtT vdT (fun x=>if x<WW.heap.size then tagT x else 0) HK6.out WW.heap.size 2 0 (some ⟨WW.heap.size,0,none⟩) [bg,eb] (fun _=>rfl) (fun k hk=>by
      have hk2:k=0\/k=1:=by simp only[List.length_cons,List.length_nil]at hk;omega
      rw[<-hW6]
      rcases hk2 with rfl|rfl<;>simp[go_sem]) (fun _=>⟨if_neg oM,dE,dE,dE⟩) (fun x hx=>by
      simp only[List.mem_cons,List.not_mem_nil,or_false]at hx
      rcases hx with e1|e1<;>rw[e1]<;>assumption) Zgo oM
     rw[show [bg,eb].length=2 from rfl]at KN0;have KN:=A7 KN0;clear KN0;clear q1 q2 b1 b2 b3 heb;go_wp2_with(go_at_call 29;(try rw[hW6]);(with_reducible refine(KN.out).mono ?_);rintro e9 w7 ⟨rfl,hb7,vd7,tag7,hk7,hs7⟩;have HB7:=A7 hb7;have HK7:=A7 hk7;clear hb7 hk7 hs7);first|go_end0|(simp only[Exit.inBlock,Exit.then];refine bodyPost_ret (results_none rfl _ _ _) rfl ?_)|refine bodyPost_ret (results_none rfl _ _ _) rfl ?_
     first|exact⟨rfl,(HBB.trans (HB6.mono HKK.lt)).trans HB7.out,_,⟨vgT,vtT,vd7,tag7,HK7.out⟩,HFIN.out⟩|exact⟨rfl,(HBB.trans (HB6.mono HKK.lt)).trans HB7.out,_,vgT,vtT,vd7,tag7,HK7.out,HFIN.out⟩
   .have o1:(op==32)=false:=by simpa using o
    have HGO:Hid ((if op=32 then goS l (E9 l q rs) n.toNat else E9 l q rs)=E9 l q rs):=if_neg o;rw[HGO.out]at HGQ;obtain⟨WW,hWW⟩:∃W,wr=W:=⟨_,rfl⟩
    obtain⟨TT,hTT⟩:∃T',T=T':=⟨_,rfl⟩
    obtain⟨vgT,hvgT⟩:∃v,vg'=v:=⟨_,rfl⟩
    obtain⟨vtT,hvtT⟩:∃v,vt=v:=⟨_,rfl⟩
    obtain⟨vdT,hvdT⟩:∃v,vd'=v:=⟨_,rfl⟩
    obtain⟨tagT,htagT⟩:∃v,tag'=v:=⟨_,rfl⟩
    subst hWW hTT hvgT hvtT hvdT htagT;have HKK:=A7 hK;have HSS:=A7 hS;have HTD:Hid (T.todo.length<=240000):=by show _<=_;omega
    have HBB:=A7 hB0;clear hB0 hK hS hT hZ hn hjn hlt HJ HGO o x5 HRR HNR HRD;rcases HARI.out with⟨q1,q2⟩|⟨bg,q1,q2⟩
    .have dA:=HKK.a.cell hp;rw[HSS.ar p Zhv,HAQ.out,q2]at dA;have d3:=HKK.b3;have HFIN:Hid (Er l T (goQ l q p ⟨op,d,a,b,e,n,z⟩)):=by
      show Er _ _ _;rw[HGQ.out];unfold goA;rw[q1];exact HSS.out
     clear q1 q2;go_wp2;first|go_end0|(simp only[Exit.inBlock,Exit.then];refine bodyPost_ret (results_none rfl _ _ _) rfl ?_)|refine bodyPost_ret (results_none rfl _ _ _) rfl ?_
     first|exact⟨rfl,HBB.out,T,⟨vg',vt,vd',tag',HKK.out⟩,HFIN.out⟩|exact⟨rfl,HBB.out,T,vg',vt,vd',tag',HKK.out,HFIN.out⟩
    .obtain⟨b1,b2,b3⟩:=HAR.out bg q1;have dA:=HKK.a.cell hp;rw[HSS.ar p Zhv,HAQ.out,q2]at dA;have dN:=HKK.n.cell b1;rw[HSS.en bg _ b3]at dN;have d3:=HKK.b3;have d4:=HKK.b4;have HFIN:Hid (Er l (Bn T [bg,enP l bg]) (goQ l q p ⟨op,d,a,b,e,n,z⟩)):=by
      show Er _ _ _;rw[HGQ.out];unfold goA;rw[q1];exact HSS.needL _
     have j1:(0:Int)<=(bg:Int):=oM;have j2:(bg:Int)<(L:Int):=oM;obtain⟨eb,heb⟩:=gA (enP l bg)
     rw[heb]at dN b2 HFIN;obtain⟨W6,hW6⟩:∃W,wr.alloc (.cells #[.int .i64 (bg:Int),.int .i64 (eb:Int)] 3)=W:=⟨_,rfl⟩
     have HB6:Hid (Below wr.heap.size wr W6):=by rw[<-hW6];exact A0 _ _
     have HK6:Hid (Bz E R S L T W6 B C GB TB AB NB DB vg' vt vd' (fun x=>if x<wr.heap.size then tag' x else 0)):=(HKK.retag (fun x hx=>if_pos hx)).below HB6.out;have KN0:=FZ E R S L T W6 B C GB TB AB NB DB vg' vt vd' (fun x=>if x<wr.heap.size then tag' x else 0) HK6.out wr.heap.size 2 0 (some ⟨wr.heap.size,0,none⟩) [bg,eb] (fun _=>rfl) (fun k hk=>by
      have hk2:k=0\/k=1:=by simp only[List.length_cons,List.length_nil]at hk;omega
      rw[<-hW6]
      rcases hk2 with rfl|rfl<;>simp[go_sem]) (fun _=>⟨if_neg oM,dE,dE,dE⟩) (fun x hx=>by
      simp only[List.mem_cons,List.not_mem_nil,or_false]at hx
      rcases hx with e1|e1<;>rw[e1]<;>assumption) Zgo oM
     rw[show [bg,eb].length=2 from rfl]at KN0;have KN:=A7 KN0;clear KN0;clear q1 q2 b1 b2 b3 heb;go_wp2_with(go_at_call 29;(try rw[hW6]);(with_reducible refine(KN.out).mono ?_);rintro e9 w7 ⟨rfl,hb7,vd7,tag7,hk7,hs7⟩;have HB7:=A7 hb7;have HK7:=A7 hk7;clear hb7 hk7 hs7);first|go_end0|(simp only[Exit.inBlock,Exit.then];refine bodyPost_ret (results_none rfl _ _ _) rfl ?_)|refine bodyPost_ret (results_none rfl _ _ _) rfl ?_
     first|exact⟨rfl,(HBB.trans (HB6.mono HKK.lt)).trans HB7.out,_,⟨vg',vt,vd7,tag7,HK7.out⟩,HFIN.out⟩|exact⟨rfl,(HBB.trans (HB6.mono HKK.lt)).trans HB7.out,_,vg',vt,vd7,tag7,HK7.out,HFIN.out⟩
theorem Po{T:Nat->Prop}(p0 p1 p2 p3 p5 p6 p7 p8:Option Addr)(n0 q0 n1 q1 n2 q2 n3 q3 n5 q5 n6 q6 n7 q7 n8 q8:Nat)(ct:Int)(pr:Option Addr)(qr:Nat)(X:List Cl)(N:Nat)(hN:X.length=N)(hX:N<=16384)(nn bt:Int)(kd ka kb kk:Nat)(hd:kd<N)(w:World)(hT:∀b,T b->b<w.heap.size)(hcs:AT T w (.slice pr N qr) X)(par sb so:Nat)(nm:ByteArray)(K:Int)(len lb lo:Nat)(tk:Int)(vb vo:Nat)(px:Option Addr)(M qx:Nat)(L:List Int)(h0:p0=some ⟨sb,so,none⟩)(h1:p1=some ⟨lb,lo,none⟩)(hpar:par<n0)(hkd:kd<n1)(hgu:p8=some ⟨vb,vo,none⟩)(hpv:par<n8)(s0:w.cell? ⟨sb,so+par*3,none⟩=some (.string nm))(s1:w.cell? ⟨sb,so+par*3+1,none⟩=some (.int .i64 K))(s2:w.cell? ⟨sb,so+par*3+2,none⟩=some (.int .i64 (len:Int)))(t0:w.cell? ⟨lb,lo+kd*2,none⟩=some (.int .i64 tk))(t1:w.cell? ⟨lb,lo+kd*2+1,none⟩=some (.int .i64 (par:Int)))(u0:w.cell? ⟨vb,vo+par,none⟩=some (.slice px M qx))(hll:n1<=16384)(hsl:n0<=64)(hvl:n8<=64)
 (hkp:∀v,Below w.heap.size w v->Calls prog 69 #[.agg #[.string nm,.int .i64 K,.int .i64 (len:Int)],.slice px M qx,.int .i64 nn] v fun e w'=>∃p' q',e=.returned (.slice p' L.length q')/\C6 w' p' L/\Below v.heap.size v w'/\∀b o s,p'=some ⟨b,o,s⟩->v.heap.size<=b):
 Calls prog 43 #[.agg #[(.slice p0 n0 q0),(.slice p1 n1 q1),(.slice p2 n2 q2),(.slice p3 n3 q3),.slice pr N qr,(.slice p5 n5 q5),(.slice p6 n6 q6),(.slice p7 n7 q7),(.slice p8 n8 q8),(.int .i64 ct)],.agg #[.int .i64 30,.int .i64 (kd:Int),.int .i64 (ka:Int),.int .i64 (kb:Int),.int .i64 (kk:Int),.int .i64 nn,.int .u32 bt]] w fun e w'=>∃p9 q9 x,e=.returned (.agg #[(.slice p0 n0 q0),(.slice p1 n1 q1),(.slice p2 n2 q2),(.slice p3 n3 q3),.slice p9 N q9,(.slice p5 n5 q5),(.slice p6 n6 q6),(.slice p7 n7 q7),(.slice p8 n8 q8),(.int .i64 ct)])/\x.h=⟨L,0⟩/\AT T w' (.slice p9 N q9) (X.set kd x)/\Below w.heap.size w w':=by
 have HPUT:Hid (∀v F I D (x:Cl),DW w F I D v->B6 (T2 w T) v x.p x.h.pats->Calls prog 70 #[.slice pr N qr,.int .i64 (kd:Int),.agg #[.slice x.p x.h.pats.length x.q,.int .i64 x.h.whole]] v fun e w'=>∃p q,e=.returned (.slice p N q)/\AT (T2 w T) w' (.slice p N q) (X.set kd x)/\Below v.heap.size v w'):=BT (.slice pr N qr) X hN hX kd hd w hT hcs;have HT2:Hid (∀v:World,w.heap.size+1+1+1<v.heap.size->∀b,T2 w T b->b<v.heap.size):=fun v hv b hb=>Dl hT hb hv;subst h0 h1 hgu;have HKP:Hid _:=hkp;have e1:(0:Int)<=(kd:Int):=oM;have e2:(kd:Int)<(n1:Int):=oM;have e3:(0:Int)<=(par:Int):=oM;have e4:(par:Int)<(n0:Int):=oM;have e5:(par:Int)<(n8:Int):=oM;have e6:¬sb=w.heap.size+1+1+1:=by have:=A8 s0;intro e;simp only at this;omega
 have e7:¬vb=w.heap.size+1+1+1:=by have:=A8 u0;intro e;simp only at this;omega
 have HD0:Hid (DW w (D5 (.slice (some ⟨sb,so,none⟩) n0 q0) (.slice (some ⟨lb,lo,none⟩) n1 q1) (.slice p2 n2 q2) (.slice p3 n3 q3) (.slice pr N qr) (.slice p5 n5 q5) (.slice p6 n6 q6) (.slice p7 n7 q7) (.slice (some ⟨vb,vo,none⟩) n8 q8) (.int .i64 ct)) (f7 (.int .i64 30) (.int .i64 (kd:Int)) (.int .i64 (ka:Int)) (.int .i64 (kb:Int)) (.int .i64 (kk:Int)) (.int .i64 nn) (.int .u32 bt)) (f2 (.slice none 0 0) (.int .i64 0)) _):=DW.start w (.slice (some ⟨sb,so,none⟩) n0 q0) (.slice (some ⟨lb,lo,none⟩) n1 q1) (.slice p2 n2 q2) (.slice p3 n3 q3) (.slice pr N qr) (.slice p5 n5 q5) (.slice p6 n6 q6) (.slice p7 n7 q7) (.slice (some ⟨vb,vo,none⟩) n8 q8) (.int .i64 ct) (.int .i64 30) (.int .i64 (kd:Int)) (.int .i64 (ka:Int)) (.int .i64 (kb:Int)) (.int .i64 (kk:Int)) (.int .i64 nn) (.int .u32 bt);clear hT hcs hN;go_enter func43,ntmps43;go_upto_block 0 with fail;go_cut [] (fun wx=>∃x:Cl,Hid (x.h=⟨L,0⟩)/\Hid (DW w (D5 (.slice (some ⟨sb,so,none⟩) n0 q0) (.slice (some ⟨lb,lo,none⟩) n1 q1) (.slice p2 n2 q2) (.slice p3 n3 q3) (.slice pr N qr) (.slice p5 n5 q5) (.slice p6 n6 q6) (.slice p7 n7 q7) (.slice (some ⟨vb,vo,none⟩) n8 q8) (.int .i64 ct)) (f7 (.int .i64 30) (.int .i64 (kd:Int)) (.int .i64 (ka:Int)) (.int .i64 (kb:Int)) (.int .i64 (kk:Int)) (.int .i64 nn) (.int .u32 bt)) (f2 (.slice x.p x.h.pats.length x.q) (.int .i64 x.h.whole)) wx)/\Hid (B6 (T2 w T) wx x.p x.h.pats))
 case first=>
  obtain⟨W,hW⟩:=gA (((((w.alloc (.cells #[(.slice (some ⟨sb,so,none⟩) n0 q0),(.slice (some ⟨lb,lo,none⟩) n1 q1),(.slice p2 n2 q2),(.slice p3 n3 q3),.slice pr N qr,(.slice p5 n5 q5),(.slice p6 n6 q6),(.slice p7 n7 q7),(.slice (some ⟨vb,vo,none⟩) n8 q8),(.int .i64 ct)] 110)).alloc (.cells #[.int .i64 30,.int .i64 (kd:Int),.int .i64 (ka:Int),.int .i64 (kb:Int),.int .i64 (kk:Int),.int .i64 nn,.int .u32 bt] 40)).alloc (.cells #[.slice none 0 0,.slice none 0 0,.slice none 0 0,.slice none 0 0,.slice none 0 0,.slice none 0 0,.slice none 0 0,.slice none 0 0,.slice none 0 0,.int .i64 0] 110)).alloc (.cells #[.slice none 0 0,.int .i64 0] 74)))
  rw[hW]at HD0;rw[hW];clear hW;have hsz:=HD0.size;have f0:W.cell? ⟨w.heap.size,4,none⟩=some (.slice pr N qr):=HD0.f.cell (i:=4) dE;have i0:W.cell? ⟨w.heap.size+1,0,none⟩=some (.int .i64 30):=HD0.i.cell (i:=0) dE;have i1:W.cell? ⟨w.heap.size+1,1,none⟩=some (.int .i64 (kd:Int)):=HD0.i.cell (i:=1) dE;have i2:W.cell? ⟨w.heap.size+1,2,none⟩=some (.int .i64 (ka:Int)):=HD0.i.cell (i:=2) dE;have i3:W.cell? ⟨w.heap.size+1,3,none⟩=some (.int .i64 (kb:Int)):=HD0.i.cell (i:=3) dE;have i4:W.cell? ⟨w.heap.size+1,4,none⟩=some (.int .i64 (kk:Int)):=HD0.i.cell (i:=4) dE;have i5:W.cell? ⟨w.heap.size+1,5,none⟩=some (.int .i64 nn):=HD0.i.cell (i:=5) dE;have i6:W.cell? ⟨w.heap.size+1,6,none⟩=some (.int .u32 bt):=HD0.i.cell (i:=6) dE;have d0:W.cell? ⟨w.heap.size+1+1+1,0,none⟩=some (.slice none 0 0):=HD0.d.cell (i:=0) dE;have d1:W.cell? ⟨w.heap.size+1+1+1,1,none⟩=some (.int .i64 0):=HD0.d.cell (i:=1) dE;have z0:=HD0.d.frozen 0;have z1:=HD0.d.frozen 1;have m0:=kc HD0.bel s0;have m1:=kc HD0.bel s1;have m2:=kc HD0.bel s2;have m3:=kc HD0.bel t0;have m4:=kc HD0.bel t1;have m5:=kc HD0.bel u0;have f1:W.cell? ⟨w.heap.size,0,none⟩=some (.slice (some ⟨sb,so,none⟩) n0 q0):=HD0.f.cell (i:=0) dE;have f2:W.cell? ⟨w.heap.size,1,none⟩=some (.slice (some ⟨lb,lo,none⟩) n1 q1):=HD0.f.cell (i:=1) dE;have f3:W.cell? ⟨w.heap.size,8,none⟩=some (.slice (some ⟨vb,vo,none⟩) n8 q8):=HD0.f.cell (i:=8) dE;clear s0 s1 s2 t0 t1 u0 i2 i3 i4 i6 f0;go_upto_region 27 with fail;refine rG (fun v=>v.cell? ⟨w.heap.size,0,none⟩=some (.slice (some ⟨sb,so,none⟩) n0 q0)/\v.cell? ⟨w.heap.size,8,none⟩=some (.slice (some ⟨vb,vo,none⟩) n8 q8)/\v.cell? ⟨w.heap.size+1,5,none⟩=some (.int .i64 nn)/\v.cell? ⟨sb,so+par*3,none⟩=some (.string nm)/\v.cell? ⟨sb,so+par*3+1,none⟩=some (.int .i64 K)/\v.cell? ⟨sb,so+par*3+2,none⟩=some (.int .i64 (len:Int))/\v.cell? ⟨vb,vo+par,none⟩=some (.slice px M qx)) fun hJ=>?_;exact Zay
 case rest=>
  obtain⟨x,HX,HD,HNM⟩:=hcut;have g0:wc.cell? ⟨w.heap.size,4,none⟩=some (.slice pr N qr):=HD.out.f.cell (i:=4) dE;have g1:wc.cell? ⟨w.heap.size+1,1,none⟩=some (.int .i64 (kd:Int)):=HD.out.i.cell (i:=1) dE;have g2:wc.cell? ⟨w.heap.size+1+1+1,0,none⟩=some (.slice x.p x.h.pats.length x.q):=HD.out.d.cell (i:=0) dE;have g3:wc.cell? ⟨w.heap.size+1+1+1,1,none⟩=some (.int .i64 x.h.whole):=HD.out.d.cell (i:=1) dE;go_upto_region 40 with(go_at_call 70;(with_reducible refine(HPUT.out _ _ _ _ _ HD.out HNM.out).mono ?_);rintro e w5 ⟨pu5,qu5,rfl,hcu,hb5⟩;have HC5:Hid (DW w (D5 (.slice (some ⟨sb,so,none⟩) n0 q0) (.slice (some ⟨lb,lo,none⟩) n1 q1) (.slice p2 n2 q2) (.slice p3 n3 q3) (.slice pr N qr) (.slice p5 n5 q5) (.slice p6 n6 q6) (.slice p7 n7 q7) (.slice (some ⟨vb,vo,none⟩) n8 q8) (.int .i64 ct)) _ _ w5/\AT (T2 w T) w5 (.slice pu5 N qu5) (X.set kd x)):=⟨HD.out.next hb5,hcu⟩;clear hb5 hcu g0 g1 g2 g3;have g4:w5.cell? ⟨w.heap.size,4,none⟩=some (.slice pr N qr):=HC5.out.1.f.cell (i:=4) dE;have z4:=HC5.out.1.f.frozen 4)
  have HE:Hid (DE w (.slice (some ⟨sb,so,none⟩) n0 q0) (.slice (some ⟨lb,lo,none⟩) n1 q1) (.slice p2 n2 q2) (.slice p3 n3 q3) (.slice pu5 N qu5) (.slice p5 n5 q5) (.slice p6 n6 q6) (.slice p7 n7 q7) (.slice (some ⟨vb,vo,none⟩) n8 q8) (.int .i64 ct) (w5.setCell ⟨w.heap.size,4,none⟩ (.slice pu5 N qu5))/\AT (T2 w T) (w5.setCell ⟨w.heap.size,4,none⟩ (.slice pu5 N qu5)) (.slice pu5 N qu5) (X.set kd x)):=FQ HC5.1 HC5.2;exact Zai
theorem SW{T:Nat->Prop}(p0 p1 p2 p3 p5 p6 p7 p8:Option Addr)(n0 q0 n1 q1 n2 q2 n3 q3 n5 q5 n6 q6 n7 q7 n8 q8:Nat)(ct:Int)(pr:Option Addr)(qr:Nat)(X:List Cl)(N:Nat)(hN:X.length=N)(hX:N<=16384)(nn bt:Int)(kd ka kb kk:Nat)(hd:kd<N)(w:World)(hT:∀b,T b->b<w.heap.size)(hcs:AT T w (.slice pr N qr) X)(par sb so:Nat)(nm:ByteArray)(K:Int)(len lb lo:Nat)(tk:Int)(vb vo:Nat)(px:Option Addr)(M qx:Nat)(L:List Int)(h0:p0=some ⟨sb,so,none⟩)(h1:p1=some ⟨lb,lo,none⟩)(hpar:par<n0)(hkd:kd<n1)(hgu:p7=some ⟨vb,vo,none⟩)(hpv:par<n7)(s0:w.cell? ⟨sb,so+par*3,none⟩=some (.string nm))(s1:w.cell? ⟨sb,so+par*3+1,none⟩=some (.int .i64 K))(s2:w.cell? ⟨sb,so+par*3+2,none⟩=some (.int .i64 (len:Int)))(t0:w.cell? ⟨lb,lo+kd*2,none⟩=some (.int .i64 tk))(t1:w.cell? ⟨lb,lo+kd*2+1,none⟩=some (.int .i64 (par:Int)))(u0:w.cell? ⟨vb,vo+par,none⟩=some (.slice px M qx))(hll:n1<=16384)(hsl:n0<=64)(hvl:n7<=64)
 (hkp:∀v,Below w.heap.size w v->Calls prog 69 #[.agg #[.string nm,.int .i64 K,.int .i64 (len:Int)],.slice px M qx,.int .i64 nn] v fun e w'=>∃p' q',e=.returned (.slice p' L.length q')/\C6 w' p' L/\Below v.heap.size v w'/\∀b o s,p'=some ⟨b,o,s⟩->v.heap.size<=b):
 Calls prog 43 #[.agg #[(.slice p0 n0 q0),(.slice p1 n1 q1),(.slice p2 n2 q2),(.slice p3 n3 q3),.slice pr N qr,(.slice p5 n5 q5),(.slice p6 n6 q6),(.slice p7 n7 q7),(.slice p8 n8 q8),(.int .i64 ct)],.agg #[.int .i64 29,.int .i64 (kd:Int),.int .i64 (ka:Int),.int .i64 (kb:Int),.int .i64 (kk:Int),.int .i64 nn,.int .u32 bt]] w fun e w'=>∃p9 q9 x,e=.returned (.agg #[(.slice p0 n0 q0),(.slice p1 n1 q1),(.slice p2 n2 q2),(.slice p3 n3 q3),.slice p9 N q9,(.slice p5 n5 q5),(.slice p6 n6 q6),(.slice p7 n7 q7),(.slice p8 n8 q8),(.int .i64 ct)])/\x.h=⟨L,0⟩/\AT T w' (.slice p9 N q9) (X.set kd x)/\Below w.heap.size w w':=by
 have HPUT:Hid (∀v F I D (x:Cl),DW w F I D v->B6 (T2 w T) v x.p x.h.pats->Calls prog 70 #[.slice pr N qr,.int .i64 (kd:Int),.agg #[.slice x.p x.h.pats.length x.q,.int .i64 x.h.whole]] v fun e w'=>∃p q,e=.returned (.slice p N q)/\AT (T2 w T) w' (.slice p N q) (X.set kd x)/\Below v.heap.size v w'):=BT (.slice pr N qr) X hN hX kd hd w hT hcs;have HT2:Hid (∀v:World,w.heap.size+1+1+1<v.heap.size->∀b,T2 w T b->b<v.heap.size):=fun v hv b hb=>Dl hT hb hv;subst h0 h1 hgu;have HKP:Hid _:=hkp;have e1:(0:Int)<=(kd:Int):=oM;have e2:(kd:Int)<(n1:Int):=oM;have e3:(0:Int)<=(par:Int):=oM;have e4:(par:Int)<(n0:Int):=oM;have e5:(par:Int)<(n7:Int):=oM;have e6:¬sb=w.heap.size+1+1+1:=by have:=A8 s0;intro e;simp only at this;omega
 have e7:¬vb=w.heap.size+1+1+1:=by have:=A8 u0;intro e;simp only at this;omega
 have HD0:Hid (DW w (D5 (.slice (some ⟨sb,so,none⟩) n0 q0) (.slice (some ⟨lb,lo,none⟩) n1 q1) (.slice p2 n2 q2) (.slice p3 n3 q3) (.slice pr N qr) (.slice p5 n5 q5) (.slice p6 n6 q6) (.slice (some ⟨vb,vo,none⟩) n7 q7) (.slice p8 n8 q8) (.int .i64 ct)) (f7 (.int .i64 29) (.int .i64 (kd:Int)) (.int .i64 (ka:Int)) (.int .i64 (kb:Int)) (.int .i64 (kk:Int)) (.int .i64 nn) (.int .u32 bt)) (f2 (.slice none 0 0) (.int .i64 0)) _):=DW.start w (.slice (some ⟨sb,so,none⟩) n0 q0) (.slice (some ⟨lb,lo,none⟩) n1 q1) (.slice p2 n2 q2) (.slice p3 n3 q3) (.slice pr N qr) (.slice p5 n5 q5) (.slice p6 n6 q6) (.slice (some ⟨vb,vo,none⟩) n7 q7) (.slice p8 n8 q8) (.int .i64 ct) (.int .i64 29) (.int .i64 (kd:Int)) (.int .i64 (ka:Int)) (.int .i64 (kb:Int)) (.int .i64 (kk:Int)) (.int .i64 nn) (.int .u32 bt);clear hT hcs hN;go_enter func43,ntmps43;go_upto_block 0 with fail;go_cut [] (fun wx=>∃x:Cl,Hid (x.h=⟨L,0⟩)/\Hid (DW w (D5 (.slice (some ⟨sb,so,none⟩) n0 q0) (.slice (some ⟨lb,lo,none⟩) n1 q1) (.slice p2 n2 q2) (.slice p3 n3 q3) (.slice pr N qr) (.slice p5 n5 q5) (.slice p6 n6 q6) (.slice (some ⟨vb,vo,none⟩) n7 q7) (.slice p8 n8 q8) (.int .i64 ct)) (f7 (.int .i64 29) (.int .i64 (kd:Int)) (.int .i64 (ka:Int)) (.int .i64 (kb:Int)) (.int .i64 (kk:Int)) (.int .i64 nn) (.int .u32 bt)) (f2 (.slice x.p x.h.pats.length x.q) (.int .i64 x.h.whole)) wx)/\Hid (B6 (T2 w T) wx x.p x.h.pats))
 case first=>
  obtain⟨W,hW⟩:=gA (((((w.alloc (.cells #[(.slice (some ⟨sb,so,none⟩) n0 q0),(.slice (some ⟨lb,lo,none⟩) n1 q1),(.slice p2 n2 q2),(.slice p3 n3 q3),.slice pr N qr,(.slice p5 n5 q5),(.slice p6 n6 q6),(.slice (some ⟨vb,vo,none⟩) n7 q7),(.slice p8 n8 q8),(.int .i64 ct)] 110)).alloc (.cells #[.int .i64 29,.int .i64 (kd:Int),.int .i64 (ka:Int),.int .i64 (kb:Int),.int .i64 (kk:Int),.int .i64 nn,.int .u32 bt] 40)).alloc (.cells #[.slice none 0 0,.slice none 0 0,.slice none 0 0,.slice none 0 0,.slice none 0 0,.slice none 0 0,.slice none 0 0,.slice none 0 0,.slice none 0 0,.int .i64 0] 110)).alloc (.cells #[.slice none 0 0,.int .i64 0] 74)))
  rw[hW]at HD0;rw[hW];clear hW;have hsz:=HD0.size;have f0:W.cell? ⟨w.heap.size,4,none⟩=some (.slice pr N qr):=HD0.f.cell (i:=4) dE;have i0:W.cell? ⟨w.heap.size+1,0,none⟩=some (.int .i64 29):=HD0.i.cell (i:=0) dE;have i1:W.cell? ⟨w.heap.size+1,1,none⟩=some (.int .i64 (kd:Int)):=HD0.i.cell (i:=1) dE;have i2:W.cell? ⟨w.heap.size+1,2,none⟩=some (.int .i64 (ka:Int)):=HD0.i.cell (i:=2) dE;have i3:W.cell? ⟨w.heap.size+1,3,none⟩=some (.int .i64 (kb:Int)):=HD0.i.cell (i:=3) dE;have i4:W.cell? ⟨w.heap.size+1,4,none⟩=some (.int .i64 (kk:Int)):=HD0.i.cell (i:=4) dE;have i5:W.cell? ⟨w.heap.size+1,5,none⟩=some (.int .i64 nn):=HD0.i.cell (i:=5) dE;have i6:W.cell? ⟨w.heap.size+1,6,none⟩=some (.int .u32 bt):=HD0.i.cell (i:=6) dE;have d0:W.cell? ⟨w.heap.size+1+1+1,0,none⟩=some (.slice none 0 0):=HD0.d.cell (i:=0) dE;have d1:W.cell? ⟨w.heap.size+1+1+1,1,none⟩=some (.int .i64 0):=HD0.d.cell (i:=1) dE;have z0:=HD0.d.frozen 0;have z1:=HD0.d.frozen 1;have m0:=kc HD0.bel s0;have m1:=kc HD0.bel s1;have m2:=kc HD0.bel s2;have m3:=kc HD0.bel t0;have m4:=kc HD0.bel t1;have m5:=kc HD0.bel u0;have f1:W.cell? ⟨w.heap.size,0,none⟩=some (.slice (some ⟨sb,so,none⟩) n0 q0):=HD0.f.cell (i:=0) dE;have f2:W.cell? ⟨w.heap.size,1,none⟩=some (.slice (some ⟨lb,lo,none⟩) n1 q1):=HD0.f.cell (i:=1) dE;have f3:W.cell? ⟨w.heap.size,7,none⟩=some (.slice (some ⟨vb,vo,none⟩) n7 q7):=HD0.f.cell (i:=7) dE;clear s0 s1 s2 t0 t1 u0 i2 i3 i4 i6 f0;go_upto_region 24 with fail;refine rG (fun v=>v.cell? ⟨w.heap.size,0,none⟩=some (.slice (some ⟨sb,so,none⟩) n0 q0)/\v.cell? ⟨w.heap.size,7,none⟩=some (.slice (some ⟨vb,vo,none⟩) n7 q7)/\v.cell? ⟨w.heap.size+1,5,none⟩=some (.int .i64 nn)/\v.cell? ⟨sb,so+par*3,none⟩=some (.string nm)/\v.cell? ⟨sb,so+par*3+1,none⟩=some (.int .i64 K)/\v.cell? ⟨sb,so+par*3+2,none⟩=some (.int .i64 (len:Int))/\v.cell? ⟨vb,vo+par,none⟩=some (.slice px M qx)) fun hJ=>?_;exact Zay
 case rest=>
  obtain⟨x,HX,HD,HNM⟩:=hcut;have g0:wc.cell? ⟨w.heap.size,4,none⟩=some (.slice pr N qr):=HD.out.f.cell (i:=4) dE;have g1:wc.cell? ⟨w.heap.size+1,1,none⟩=some (.int .i64 (kd:Int)):=HD.out.i.cell (i:=1) dE;have g2:wc.cell? ⟨w.heap.size+1+1+1,0,none⟩=some (.slice x.p x.h.pats.length x.q):=HD.out.d.cell (i:=0) dE;have g3:wc.cell? ⟨w.heap.size+1+1+1,1,none⟩=some (.int .i64 x.h.whole):=HD.out.d.cell (i:=1) dE;go_upto_region 40 with(go_at_call 70;(with_reducible refine(HPUT.out _ _ _ _ _ HD.out HNM.out).mono ?_);rintro e w5 ⟨pu5,qu5,rfl,hcu,hb5⟩;have HC5:Hid (DW w (D5 (.slice (some ⟨sb,so,none⟩) n0 q0) (.slice (some ⟨lb,lo,none⟩) n1 q1) (.slice p2 n2 q2) (.slice p3 n3 q3) (.slice pr N qr) (.slice p5 n5 q5) (.slice p6 n6 q6) (.slice (some ⟨vb,vo,none⟩) n7 q7) (.slice p8 n8 q8) (.int .i64 ct)) _ _ w5/\AT (T2 w T) w5 (.slice pu5 N qu5) (X.set kd x)):=⟨HD.out.next hb5,hcu⟩;clear hb5 hcu g0 g1 g2 g3;have g4:w5.cell? ⟨w.heap.size,4,none⟩=some (.slice pr N qr):=HC5.out.1.f.cell (i:=4) dE;have z4:=HC5.out.1.f.frozen 4)
  have HE:Hid (DE w (.slice (some ⟨sb,so,none⟩) n0 q0) (.slice (some ⟨lb,lo,none⟩) n1 q1) (.slice p2 n2 q2) (.slice p3 n3 q3) (.slice pu5 N qu5) (.slice p5 n5 q5) (.slice p6 n6 q6) (.slice (some ⟨vb,vo,none⟩) n7 q7) (.slice p8 n8 q8) (.int .i64 ct) (w5.setCell ⟨w.heap.size,4,none⟩ (.slice pu5 N qu5))/\AT (T2 w T) (w5.setCell ⟨w.heap.size,4,none⟩ (.slice pu5 N qu5)) (.slice pu5 N qu5) (X.set kd x)):=FQ HC5.1 HC5.2;exact Zai
theorem V6{T:Nat->Prop}(p0 p1 p2 p3 p5 p6 p7 p8:Option Addr)(n0 q0 n1 q1 n2 q2 n3 q3 n5 q5 n6 q6 n7 q7 n8 q8:Nat)(ct:Int)(pr:Option Addr)(qr:Nat)(X:List Cl)(N:Nat)(hN:X.length=N)(hX:N<=16384)(nn bt:Int)(kd ka kb kk:Nat)(hd:kd<N)(w:World)(hT:∀b,T b->b<w.heap.size)(hcs:AT T w (.slice pr N qr) X)(hb:AH bt):
 Calls prog 43 #[.agg #[(.slice p0 n0 q0),(.slice p1 n1 q1),(.slice p2 n2 q2),(.slice p3 n3 q3),.slice pr N qr,(.slice p5 n5 q5),(.slice p6 n6 q6),(.slice p7 n7 q7),(.slice p8 n8 q8),(.int .i64 ct)],.agg #[.int .i64 1,.int .i64 (kd:Int),.int .i64 (ka:Int),.int .i64 (kb:Int),.int .i64 (kk:Int),.int .i64 nn,.int .u32 bt]] w fun e w'=>∃p9 q9 x,e=.returned (.agg #[(.slice p0 n0 q0),(.slice p1 n1 q1),(.slice p2 n2 q2),(.slice p3 n3 q3),.slice p9 N q9,(.slice p5 n5 q5),(.slice p6 n6 q6),(.slice p7 n7 q7),(.slice p8 n8 q8),(.int .i64 ct)])/\x.h=⟨[bt],0⟩/\AT T w' (.slice p9 N q9) (X.set kd x)/\Below w.heap.size w w':=by
 have HPUT:Hid (∀v F I D (x:Cl),DW w F I D v->B6 (T2 w T) v x.p x.h.pats->Calls prog 70 #[.slice pr N qr,.int .i64 (kd:Int),.agg #[.slice x.p x.h.pats.length x.q,.int .i64 x.h.whole]] v fun e w'=>∃p q,e=.returned (.slice p N q)/\AT (T2 w T) w' (.slice p N q) (X.set kd x)/\Below v.heap.size v w'):=BT (.slice pr N qr) X hN hX kd hd w hT hcs;have HT2:Hid (∀v:World,w.heap.size+1+1+1<v.heap.size->∀b,T2 w T b->b<v.heap.size):=fun v hv b hb=>Dl hT hb hv;have hbw:IntKind.i64.wrap bt=bt:=by rw[IntKind.wrap_i64];have:=hb.1;have:=hb.2;omega
 have HD0:Hid (DW w (D5 (.slice p0 n0 q0) (.slice p1 n1 q1) (.slice p2 n2 q2) (.slice p3 n3 q3) (.slice pr N qr) (.slice p5 n5 q5) (.slice p6 n6 q6) (.slice p7 n7 q7) (.slice p8 n8 q8) (.int .i64 ct)) (f7 (.int .i64 1) (.int .i64 (kd:Int)) (.int .i64 (ka:Int)) (.int .i64 (kb:Int)) (.int .i64 (kk:Int)) (.int .i64 nn) (.int .u32 bt)) (f2 (.slice none 0 0) (.int .i64 0)) _):=DW.start w (.slice p0 n0 q0) (.slice p1 n1 q1) (.slice p2 n2 q2) (.slice p3 n3 q3) (.slice pr N qr) (.slice p5 n5 q5) (.slice p6 n6 q6) (.slice p7 n7 q7) (.slice p8 n8 q8) (.int .i64 ct) (.int .i64 1) (.int .i64 (kd:Int)) (.int .i64 (ka:Int)) (.int .i64 (kb:Int)) (.int .i64 (kk:Int)) (.int .i64 nn) (.int .u32 bt);clear hT hcs hN;go_enter func43,ntmps43;go_upto_block 0 with fail;go_cut [] (fun wx=>∃x:Cl,Hid (x.h=⟨[bt],0⟩)/\Hid (DW w (D5 (.slice p0 n0 q0) (.slice p1 n1 q1) (.slice p2 n2 q2) (.slice p3 n3 q3) (.slice pr N qr) (.slice p5 n5 q5) (.slice p6 n6 q6) (.slice p7 n7 q7) (.slice p8 n8 q8) (.int .i64 ct)) (f7 (.int .i64 1) (.int .i64 (kd:Int)) (.int .i64 (ka:Int)) (.int .i64 (kb:Int)) (.int .i64 (kk:Int)) (.int .i64 nn) (.int .u32 bt)) (f2 (.slice x.p x.h.pats.length x.q) (.int .i64 x.h.whole)) wx)/\Hid (B6 (T2 w T) wx x.p x.h.pats))
 case first=>
  obtain⟨W,hW⟩:=gA (((((w.alloc (.cells #[(.slice p0 n0 q0),(.slice p1 n1 q1),(.slice p2 n2 q2),(.slice p3 n3 q3),.slice pr N qr,(.slice p5 n5 q5),(.slice p6 n6 q6),(.slice p7 n7 q7),(.slice p8 n8 q8),(.int .i64 ct)] 110)).alloc (.cells #[.int .i64 1,.int .i64 (kd:Int),.int .i64 (ka:Int),.int .i64 (kb:Int),.int .i64 (kk:Int),.int .i64 nn,.int .u32 bt] 40)).alloc (.cells #[.slice none 0 0,.slice none 0 0,.slice none 0 0,.slice none 0 0,.slice none 0 0,.slice none 0 0,.slice none 0 0,.slice none 0 0,.slice none 0 0,.int .i64 0] 110)).alloc (.cells #[.slice none 0 0,.int .i64 0] 74)))
  rw[hW]at HD0;rw[hW];clear hW;have hsz:=HD0.size;have f0:W.cell? ⟨w.heap.size,4,none⟩=some (.slice pr N qr):=HD0.f.cell (i:=4) dE;have i0:W.cell? ⟨w.heap.size+1,0,none⟩=some (.int .i64 1):=HD0.i.cell (i:=0) dE;have i1:W.cell? ⟨w.heap.size+1,1,none⟩=some (.int .i64 (kd:Int)):=HD0.i.cell (i:=1) dE;have i2:W.cell? ⟨w.heap.size+1,2,none⟩=some (.int .i64 (ka:Int)):=HD0.i.cell (i:=2) dE;have i3:W.cell? ⟨w.heap.size+1,3,none⟩=some (.int .i64 (kb:Int)):=HD0.i.cell (i:=3) dE;have i4:W.cell? ⟨w.heap.size+1,4,none⟩=some (.int .i64 (kk:Int)):=HD0.i.cell (i:=4) dE;have i5:W.cell? ⟨w.heap.size+1,5,none⟩=some (.int .i64 nn):=HD0.i.cell (i:=5) dE;have i6:W.cell? ⟨w.heap.size+1,6,none⟩=some (.int .u32 bt):=HD0.i.cell (i:=6) dE;have d0:W.cell? ⟨w.heap.size+1+1+1,0,none⟩=some (.slice none 0 0):=HD0.d.cell (i:=0) dE;have d1:W.cell? ⟨w.heap.size+1+1+1,1,none⟩=some (.int .i64 0):=HD0.d.cell (i:=1) dE;have z0:=HD0.d.frozen 0;have z1:=HD0.d.frozen 1;have d2:=fun o=>kc (A0 W o) d0;have z2:=fun o=>kf (A0 W o) d0 z0;go_wp2;go_meet;exact⟨⟨some ⟨W.heap.size,0,none⟩,1,⟨[bt],0⟩⟩,rfl,((HD0.put 0 _).next (A0 _ _)).congr (fun j hj=>by obtain rfl|rfl:j=0\/j=1:=oM;all_goals rfl),Rv HT2.out (HD0.size) _⟩
 case rest=>
  obtain⟨x,HX,HD,HNM⟩:=hcut;have g0:wc.cell? ⟨w.heap.size,4,none⟩=some (.slice pr N qr):=HD.out.f.cell (i:=4) dE;have g1:wc.cell? ⟨w.heap.size+1,1,none⟩=some (.int .i64 (kd:Int)):=HD.out.i.cell (i:=1) dE;have g2:wc.cell? ⟨w.heap.size+1+1+1,0,none⟩=some (.slice x.p x.h.pats.length x.q):=HD.out.d.cell (i:=0) dE;have g3:wc.cell? ⟨w.heap.size+1+1+1,1,none⟩=some (.int .i64 x.h.whole):=HD.out.d.cell (i:=1) dE;go_upto_region 40 with(go_at_call 70;(with_reducible refine(HPUT.out _ _ _ _ _ HD.out HNM.out).mono ?_);rintro e w5 ⟨pu5,qu5,rfl,hcu,hb5⟩;have HC5:Hid (DW w (D5 (.slice p0 n0 q0) (.slice p1 n1 q1) (.slice p2 n2 q2) (.slice p3 n3 q3) (.slice pr N qr) (.slice p5 n5 q5) (.slice p6 n6 q6) (.slice p7 n7 q7) (.slice p8 n8 q8) (.int .i64 ct)) _ _ w5/\AT (T2 w T) w5 (.slice pu5 N qu5) (X.set kd x)):=⟨HD.out.next hb5,hcu⟩;clear hb5 hcu g0 g1 g2 g3;have g4:w5.cell? ⟨w.heap.size,4,none⟩=some (.slice pr N qr):=HC5.out.1.f.cell (i:=4) dE;have z4:=HC5.out.1.f.frozen 4)
  exact Zae
theorem V9{T:Nat->Prop}(p0 p1 p2 p3 p5 p6 p7 p8:Option Addr)(n0 q0 n1 q1 n2 q2 n3 q3 n5 q5 n6 q6 n7 q7 n8 q8:Nat)(ct:Int)(pr:Option Addr)(qr:Nat)(X:List Cl)(N:Nat)(hN:X.length=N)(hX:N<=16384)(nn bt:Int)(kd ka kb kk:Nat)(hd:kd<N)(w:World)(hT:∀b,T b->b<w.heap.size)(hcs:AT T w (.slice pr N qr) X):
 Calls prog 43 #[.agg #[(.slice p0 n0 q0),(.slice p1 n1 q1),(.slice p2 n2 q2),(.slice p3 n3 q3),.slice pr N qr,(.slice p5 n5 q5),(.slice p6 n6 q6),(.slice p7 n7 q7),(.slice p8 n8 q8),(.int .i64 ct)],.agg #[.int .i64 2,.int .i64 (kd:Int),.int .i64 (ka:Int),.int .i64 (kb:Int),.int .i64 (kk:Int),.int .i64 nn,.int .u32 bt]] w fun e w'=>∃p9 q9 x,e=.returned (.agg #[(.slice p0 n0 q0),(.slice p1 n1 q1),(.slice p2 n2 q2),(.slice p3 n3 q3),.slice p9 N q9,(.slice p5 n5 q5),(.slice p6 n6 q6),(.slice p7 n7 q7),(.slice p8 n8 q8),(.int .i64 ct)])/\x.h=⟨[],nn⟩/\AT T w' (.slice p9 N q9) (X.set kd x)/\Below w.heap.size w w':=by
 have HPUT:Hid (∀v F I D (x:Cl),DW w F I D v->B6 (T2 w T) v x.p x.h.pats->Calls prog 70 #[.slice pr N qr,.int .i64 (kd:Int),.agg #[.slice x.p x.h.pats.length x.q,.int .i64 x.h.whole]] v fun e w'=>∃p q,e=.returned (.slice p N q)/\AT (T2 w T) w' (.slice p N q) (X.set kd x)/\Below v.heap.size v w'):=BT (.slice pr N qr) X hN hX kd hd w hT hcs;have HT2:Hid (∀v:World,w.heap.size+1+1+1<v.heap.size->∀b,T2 w T b->b<v.heap.size):=fun v hv b hb=>Dl hT hb hv;have HD0:Hid (DW w (D5 (.slice p0 n0 q0) (.slice p1 n1 q1) (.slice p2 n2 q2) (.slice p3 n3 q3) (.slice pr N qr) (.slice p5 n5 q5) (.slice p6 n6 q6) (.slice p7 n7 q7) (.slice p8 n8 q8) (.int .i64 ct)) (f7 (.int .i64 2) (.int .i64 (kd:Int)) (.int .i64 (ka:Int)) (.int .i64 (kb:Int)) (.int .i64 (kk:Int)) (.int .i64 nn) (.int .u32 bt)) (f2 (.slice none 0 0) (.int .i64 0)) _):=DW.start w (.slice p0 n0 q0) (.slice p1 n1 q1) (.slice p2 n2 q2) (.slice p3 n3 q3) (.slice pr N qr) (.slice p5 n5 q5) (.slice p6 n6 q6) (.slice p7 n7 q7) (.slice p8 n8 q8) (.int .i64 ct) (.int .i64 2) (.int .i64 (kd:Int)) (.int .i64 (ka:Int)) (.int .i64 (kb:Int)) (.int .i64 (kk:Int)) (.int .i64 nn) (.int .u32 bt);clear hT hcs hN;go_enter func43,ntmps43;go_upto_block 0 with fail;go_cut [] (fun wx=>∃x:Cl,Hid (x.h=⟨[],nn⟩)/\Hid (DW w (D5 (.slice p0 n0 q0) (.slice p1 n1 q1) (.slice p2 n2 q2) (.slice p3 n3 q3) (.slice pr N qr) (.slice p5 n5 q5) (.slice p6 n6 q6) (.slice p7 n7 q7) (.slice p8 n8 q8) (.int .i64 ct)) (f7 (.int .i64 2) (.int .i64 (kd:Int)) (.int .i64 (ka:Int)) (.int .i64 (kb:Int)) (.int .i64 (kk:Int)) (.int .i64 nn) (.int .u32 bt)) (f2 (.slice x.p x.h.pats.length x.q) (.int .i64 x.h.whole)) wx)/\Hid (B6 (T2 w T) wx x.p x.h.pats))
 case first=>
  obtain⟨W,hW⟩:=gA (((((w.alloc (.cells #[(.slice p0 n0 q0),(.slice p1 n1 q1),(.slice p2 n2 q2),(.slice p3 n3 q3),.slice pr N qr,(.slice p5 n5 q5),(.slice p6 n6 q6),(.slice p7 n7 q7),(.slice p8 n8 q8),(.int .i64 ct)] 110)).alloc (.cells #[.int .i64 2,.int .i64 (kd:Int),.int .i64 (ka:Int),.int .i64 (kb:Int),.int .i64 (kk:Int),.int .i64 nn,.int .u32 bt] 40)).alloc (.cells #[.slice none 0 0,.slice none 0 0,.slice none 0 0,.slice none 0 0,.slice none 0 0,.slice none 0 0,.slice none 0 0,.slice none 0 0,.slice none 0 0,.int .i64 0] 110)).alloc (.cells #[.slice none 0 0,.int .i64 0] 74)))
  rw[hW]at HD0;rw[hW];clear hW;have hsz:=HD0.size;have f0:W.cell? ⟨w.heap.size,4,none⟩=some (.slice pr N qr):=HD0.f.cell (i:=4) dE;have i0:W.cell? ⟨w.heap.size+1,0,none⟩=some (.int .i64 2):=HD0.i.cell (i:=0) dE;have i1:W.cell? ⟨w.heap.size+1,1,none⟩=some (.int .i64 (kd:Int)):=HD0.i.cell (i:=1) dE;have i2:W.cell? ⟨w.heap.size+1,2,none⟩=some (.int .i64 (ka:Int)):=HD0.i.cell (i:=2) dE;have i3:W.cell? ⟨w.heap.size+1,3,none⟩=some (.int .i64 (kb:Int)):=HD0.i.cell (i:=3) dE;have i4:W.cell? ⟨w.heap.size+1,4,none⟩=some (.int .i64 (kk:Int)):=HD0.i.cell (i:=4) dE;have i5:W.cell? ⟨w.heap.size+1,5,none⟩=some (.int .i64 nn):=HD0.i.cell (i:=5) dE;have i6:W.cell? ⟨w.heap.size+1,6,none⟩=some (.int .u32 bt):=HD0.i.cell (i:=6) dE;have d0:W.cell? ⟨w.heap.size+1+1+1,0,none⟩=some (.slice none 0 0):=HD0.d.cell (i:=0) dE;have d1:W.cell? ⟨w.heap.size+1+1+1,1,none⟩=some (.int .i64 0):=HD0.d.cell (i:=1) dE;have z0:=HD0.d.frozen 0;have z1:=HD0.d.frozen 1;go_wp2;go_meet;exact⟨⟨none,0,⟨[],nn⟩⟩,rfl,(HD0.put 1 _).congr (fun j hj=>by obtain rfl|rfl:j=0\/j=1:=oM;all_goals rfl),.inl rfl⟩
 case rest=>
  obtain⟨x,HX,HD,HNM⟩:=hcut;have g0:wc.cell? ⟨w.heap.size,4,none⟩=some (.slice pr N qr):=HD.out.f.cell (i:=4) dE;have g1:wc.cell? ⟨w.heap.size+1,1,none⟩=some (.int .i64 (kd:Int)):=HD.out.i.cell (i:=1) dE;have g2:wc.cell? ⟨w.heap.size+1+1+1,0,none⟩=some (.slice x.p x.h.pats.length x.q):=HD.out.d.cell (i:=0) dE;have g3:wc.cell? ⟨w.heap.size+1+1+1,1,none⟩=some (.int .i64 x.h.whole):=HD.out.d.cell (i:=1) dE;go_upto_region 40 with(go_at_call 70;(with_reducible refine(HPUT.out _ _ _ _ _ HD.out HNM.out).mono ?_);rintro e w5 ⟨pu5,qu5,rfl,hcu,hb5⟩;have HC5:Hid (DW w (D5 (.slice p0 n0 q0) (.slice p1 n1 q1) (.slice p2 n2 q2) (.slice p3 n3 q3) (.slice pr N qr) (.slice p5 n5 q5) (.slice p6 n6 q6) (.slice p7 n7 q7) (.slice p8 n8 q8) (.int .i64 ct)) _ _ w5/\AT (T2 w T) w5 (.slice pu5 N qu5) (X.set kd x)):=⟨HD.out.next hb5,hcu⟩;clear hb5 hcu g0 g1 g2 g3;have g4:w5.cell? ⟨w.heap.size,4,none⟩=some (.slice pr N qr):=HC5.out.1.f.cell (i:=4) dE;have z4:=HC5.out.1.f.frozen 4)
  exact Zae
theorem Tg:(prog.info? 72).map (fun i=>(i.zero,i.size,i.bytes))=some (some (.slice none 0 0),1,24):=kR
theorem Ri(m:Nat)(h:m<=5000000000000)(w:World):(Instr.makeSlice 88 (.int .i64 m) (.int .i64 m)).run prog w=.ok (.slice (some ⟨w.heap.size,0,none⟩) m m) (w.alloc (.cells (madeCells #[.slice none 0 0] m) 72)):=
 run_make_row' (P:=prog) 88 72 (.slice none 0 0) 24 underlying88 Tg rfl .i64 .i64 m oM oM w
structure NS2(w:World)(R S C B GB TB:Nat)(v:World):Prop where
 bel:Below w.heap.size w v
 b:v.rowIs B 90 7 (En #[.pointer (some ⟨C,0,none⟩),.slice (some ⟨GB,0,none⟩) R R,.slice (some ⟨TB,0,none⟩) S S,.slice none 0 0,.slice none 0 0,.slice none 0 0,.slice none 0 0])
 g:v.rowIs GB 72 R (fun _=>.slice none 0 0)
 t:v.rowIs TB 72 S (fun _=>.slice none 0 0)
 hB:w.heap.size<=B
 hG:w.heap.size<=GB
 hT:w.heap.size<=TB
 n1:B≠GB
 n2:B≠TB
 n3:GB≠TB
theorem VP{w V:World}{R S C GB TB BB:Nat}(hb:Below w.heap.size w V)(hg:V.rowIs GB 72 R (fun _=>.slice none 0 0))(ht:V.rowIs TB 72 S (fun _=>.slice none 0 0))(hB:V.heap.size=BB)(h1:GB≠TB)(g1:w.heap.size<=GB)(g2:w.heap.size<=TB):
 NS2 w R S C BB GB TB (V.alloc (.cells #[.pointer (some ⟨C,0,none⟩),.slice (some ⟨GB,0,none⟩) R R,.slice (some ⟨TB,0,none⟩) S S,.slice none 0 0,.slice none 0 0,.slice none 0 0,.slice none 0 0] 90)).drew:=by
 subst hB;have l1:=hg.lt;have l2:=ht.lt;exact⟨bel (bel hb (A0 _ _)) (A9 _),World.rowIs.drew (BS V _ _),World.rowIs.drew (hg.alloc _),World.rowIs.drew (ht.alloc _),hb.size,g1,g2,oM,oM,h1⟩
structure Q6(w V:World)(R S C B GB TB:Nat)(cv:Value)(f:Nat->Value):Prop where
 b:V.rowIs B 90 7 f
 g:V.rowIs GB 72 R (fun _=>.slice none 0 0)
 t:V.rowIs TB 72 S (fun _=>.slice none 0 0)
 hc:V.cell? ⟨C,3,none⟩=some cv
 be:Below w.heap.size w V
 n:GB≠B/\TB≠B/\C≠B/\w.heap.size<=B
theorem Q6.st{w V:World}{R S C B GB TB:Nat}{cv:Value}{f:Nat->Value}(h:Q6 w V R S C B GB TB cv f)(i:Nat)(x:Value):∃U,V.setCell ⟨B,i,none⟩ x=U/\Q6 w U R S C B GB TB cv (fun j=>if j=i then x else f j)/\Hid (U.heap.size=V.heap.size)/\∀ {b t n g},V.rowIs b t n g->b≠B->U.rowIs b t n g:=
 ⟨_,rfl,⟨h.b.set i x,h.g.setOther (a:=⟨B,i,none⟩) h.n.1 x,h.t.setOther (a:=⟨B,i,none⟩) h.n.2.1 x,(gC (a:=⟨C,3,none⟩) (Below.heap_setCell V ⟨B,i,none⟩ x _ h.n.2.2.1)).trans h.hc,h.be.setCell h.n.2.2.2 x,h.n⟩,by show _=_;simp,fun{b t n g} q hb=>q.setOther (a:=⟨B,i,none⟩) hb x⟩
theorem Q6.al{w V:World}{R S C B GB TB:Nat}{cv:Value}{f:Nat->Value}(h:Q6 w V R S C B GB TB cv f)(z:Value)(M:Nat)(t:TypeId):∃U,V.alloc (.cells (madeCells #[z] M) t)=U/\Q6 w U R S C B GB TB cv f/\Hid (U.heap.size=V.heap.size+1)/\U.rowIs V.heap.size t M (fun _=>z)/\∀ {b t n g},V.rowIs b t n g->U.rowIs b t n g:=
 ⟨_,rfl,⟨h.b.alloc _,h.g.alloc _,h.t.alloc _,kc (A0 _ _) h.hc,h.be.trans ((A0 _ _).mono h.be.size),h.n⟩,by show _=_;simp,World.rowIs_made V z M t,fun{b t n g} q=>q.alloc _⟩
theorem Q6.al0{w V:World}{R S C B GB TB:Nat}{cv:Value}{f:Nat->Value}(h:Q6 w V R S C B GB TB cv f)(z:Value)(M:Nat)(t:TypeId):∃U,(V.alloc (.cells (madeCells #[z] M) t)).drew=U/\Q6 w U R S C B GB TB cv f/\Hid (U.heap.size=V.heap.size+1)/\U.rowIs V.heap.size t M (fun _=>z)/\∀ {b t n g},V.rowIs b t n g->U.rowIs b t n g:=
 ⟨_,rfl,⟨World.rowIs.drew (h.b.alloc _),World.rowIs.drew (h.g.alloc _),World.rowIs.drew (h.t.alloc _),kc (bel (A0 _ _) (A9 _)) h.hc,h.be.trans ((bel (A0 _ _) (A9 _)).mono h.be.size),h.n⟩,by show _=_;simp,World.rowIs.drew (World.rowIs_made V z M t),fun{b t n g} q=>World.rowIs.drew (q.alloc _)⟩
theorem Xd(w:World)(z:Value)(N:Nat)(t:TypeId)(o2:Obj):((w.alloc (.cells (madeCells #[z] N) t)).alloc o2).rowIs w.heap.size t N (fun _=>z):=(World.rowIs_made w z N t).alloc _
theorem Xe(w:World)(z:Value)(N:Nat)(t:TypeId)(o1:Obj):((w.alloc o1).alloc (.cells (madeCells #[z] N) t)).rowIs (w.heap.size+1) t N (fun _=>z):=by
 have h:=World.rowIs_made (w.alloc o1) z N t;rw[show(w.alloc o1).heap.size=w.heap.size+1 by simp]at h;exact h
def ps0:Gh:=⟨fun _=>[],fun _=>[],fun _=>0,fun _=>0,fun _=>false,[]⟩
def OP(B GB TB AB NB DB:Nat)(b:Nat):Nat:=if b=B then 1 else if b=GB then 2 else if b=TB then 3 else if b=AB then 4 else if b=NB then 5 else if b=DB then 6 else 0
theorem Wi{E R S L C B GB TB AB NB DB:Nat}{V:World}(hb:V.rowIs B 90 7 (En #[.pointer (some ⟨C,0,none⟩),.slice (some ⟨GB,0,none⟩) R R,.slice (some ⟨TB,0,none⟩) S S,.slice (some ⟨AB,0,none⟩) L L,.slice (some ⟨NB,0,none⟩) L L,.slice (some ⟨DB,0,none⟩) L L,.slice none 0 0]))(hg:V.rowIs GB 72 R (fun _=>.slice none 0 0))(ht:V.rowIs TB 72 S (fun _=>.slice none 0 0))(ha:V.rowIs AB 3 L (fun _=>.int .i64 0))(hn:V.rowIs NB 3 L (fun _=>.int .i64 0))(hd:V.rowIs DB 4 L (fun _=>.bool false))
 (e:E<=B/\E<=GB/\E<=TB/\E<=AB/\E<=NB/\E<=DB) (n:B≠GB/\B≠TB/\GB≠TB) (m:B<AB/\GB<AB/\TB<AB/\B<NB/\GB<NB/\TB<NB/\B<DB/\GB<DB/\TB<DB) (k:AB≠NB/\AB≠DB/\NB≠DB):
 Bz E R S L ps0 V B C GB TB AB NB DB (fun _=>.slice none 0 0) (fun _=>.slice none 0 0) (.slice none 0 0) (OP B GB TB AB NB DB):=by
 obtain⟨e1,e2,e3,e4,e5,e6⟩:=e;obtain⟨n1,n2,n3⟩:=n;obtain⟨m1,m2,m3,m4,m5,m6,m7,m8,m9⟩:=m;obtain⟨k1,k2,k3⟩:=k;refine⟨hb,hg,ht,ha,hn,hd,fun _ _=>World.ownsRow_nil _ _ _ 1,fun _ _=>World.ownsRow_nil _ _ _ 1,World.ownsRow_nil _ _ _ 1,e1,e2,e3,e4,e5,e6,?_,?_,?_,?_,?_,?_,fun r _ q hq=>(by cases hq),fun r _ q hq=>(by cases hq),fun q hq=>(by cases hq)⟩
 .unfold OP;rw[if_pos rfl]
 .unfold OP;rw[if_neg (fun q=>n1 q.symm),if_pos rfl]
 .unfold OP;rw[if_neg (fun q=>n2 q.symm),if_neg (fun q=>n3 q.symm),if_pos rfl]
 .unfold OP;rw[if_neg oM,if_neg oM,if_neg oM,if_pos rfl]
 .unfold OP;rw[if_neg oM,if_neg oM,if_neg oM,if_neg (fun q=>k1 q.symm),if_pos rfl]
 .unfold OP;rw[if_neg oM,if_neg oM,if_neg oM,if_neg (fun q=>k2 q.symm),if_neg (fun q=>k3 q.symm),if_pos rfl]
structure Mm(l:List Ad)(j:Nat)(s:Gh):Prop where
 nd:s.nd=fun _=>false
 todo:s.todo=[]
 sl:∀r,s.sl r=XI l j r
 tl:∀r,s.tl r=XW l j r
 ar:∀p,p<j->s.ar p=IQ l p
 en:∀b e,e<j->CF l b e->s.en b=(e:Int)
theorem Mm.zero(l:List Ad):Mm l 0 ps0:=⟨rfl,rfl,fun _=>rfl,fun _=>rfl,fun p h=>by omega,fun b e h=>by omega⟩
theorem Mm.all{l:List Ad}{s:Gh}(h:Mm l l.length s):Er l s sr0:=by
 refine⟨h.nd,h.todo,fun r=>?_,fun r=>?_,h.ar,fun b e hm=>?_⟩
 .rw[h.sl r];rfl
 .rw[h.tl r];rfl
 .rw[Pu hm];exact h.en b e hm.1 hm
theorem sets_33{op d a b e n z:Int}(hsb:Af (⟨op,d,a,b,e,n,z⟩:Ad)=true)(hk:Al op=true)(hS:((A4 op).d != 0)=true):op<33:=by
 have h9:op<34:=OH hsb hk;by_cases e9:op=33
 .rw[e9]at hS;exact absurd hS dE
 .omega
theorem GQ{w:World}{B:Nat}{t t':TypeId}{k n n' b:Nat}{v:Value}{xs:List Value}{f:Nat->Value}(h:w.ownsRow B t k v n xs)(h':w.rowIs b t' n' f)(ht:t≠t'):v.ownBlock≠some b:=by
 exact Zdk
theorem M7{w:World}{B X n:Nat}{v:Value}{xs:List Value}{f:Nat->Value}(hx:w.rowIs X 40 7 f)(ho:w.ownsRow B 3 1 v n xs)(q:v.ownBlock=some X):False:=GQ ho hx dE q
section
variable {l : List Ad} {j : Nat} {s : Gh}
theorem Mm.oth(h:Mm l j s)(hj:j<l.length)(h1:Af l[j]=false)(h2:l[j].op≠33)(h3:¬ (l[j].op=35\/l[j].op=37)){a:Int}(ha:a=IQ l j):Mm l (j+1) {s with ar:=fun k=>if k=j then a else s.ar k}:=by
 refine⟨h.nd,h.todo,fun r=>?_,fun r=>?_,fun p hp=>?_,fun b e he hm=>?_⟩
 .exact Zer
 .exact Zfk
 .exact Zde
 .have:e≠j:=fun w=>by subst w;exact h3 hm.2.1
  exact h.en b e oM hm
theorem Mm.set_(h:Mm l j s)(hj:j<l.length)(h1:Af l[j]=true)(h2:l[j].op≠33)(h3:¬ (l[j].op=35\/l[j].op=37)){D:Nat}(hD:l[j].d.toNat=D){a:Int}(ha:a=IQ l j):Mm l (j+1) {s with sl:=fun k=>if k=D then s.sl D++[j]else s.sl k,ar:=fun k=>if k=j then a else s.ar k}:=by
 refine⟨h.nd,h.todo,fun r=>?_,fun r=>?_,fun p hp=>?_,fun b e he hm=>?_⟩
 .show(if r=D then s.sl D++[j]else s.sl r)=_;rw[Md hj];by_cases e:r=D
  .rw[if_pos e,if_pos ⟨h1,by rw[e];exact hD⟩,h.sl D,e]
  .rw[if_neg e,if_neg (fun q=>e (by rw[<-q.2];exact hD)),List.append_nil];exact h.sl r
 .exact Zfk
 .exact Zde
 .have:e≠j:=fun w=>by subst w;exact h3 hm.2.1
  exact h.en b e oM hm
theorem Mm.sto(h:Mm l j s)(hj:j<l.length)(h1:Af l[j]=false)(h2:l[j].op=33){D:Nat}(hD:l[j].n.toNat=D){a:Int}(ha:a=IQ l j):Mm l (j+1) {s with tl:=fun k=>if k=D then s.tl D++[j]else s.tl k,ar:=fun k=>if k=j then a else s.ar k}:=by
 refine⟨h.nd,h.todo,fun r=>?_,fun r=>?_,fun p hp=>?_,fun b e he hm=>?_⟩
 .exact Zer
 .show(if r=D then s.tl D++[j]else s.tl r)=_;rw[Mj hj];by_cases e:r=D
  .rw[if_pos e,if_pos ⟨h2,by rw[e];exact hD⟩,h.tl D,e]
  .rw[if_neg e,if_neg (fun q=>e (by rw[<-q.2];exact hD)),List.append_nil];exact h.tl r
 .exact Zde
 .have:e≠j:=fun w=>by subst w;have h9:=hm.2.1;omega
  exact h.en b e oM hm
theorem Mm.fin(h:Mm l j s)(hj:j<l.length)(h1:Af l[j]=false)(h2:l[j].op≠33){b:Nat}(hm:CF l b j){a:Int}(ha:a=IQ l j):Mm l (j+1) {s with en:=fun k=>if k=b then(j:Int)else s.en k,ar:=fun k=>if k=j then a else s.ar k}:=by
 refine⟨h.nd,h.todo,fun r=>?_,fun r=>?_,fun p hp=>?_,fun b' e he hm'=>?_⟩
 .exact Zer
 .exact Zfk
 .exact Zde
 .show(if b'=b then(j:Int)else s.en b')=_;by_cases q:b'=b
  .subst q;rw[if_pos rfl,Ij hm' hm]
  .rw[if_neg q];have:e≠j:=fun w=>by
    subst w;obtain⟨_,_,x1⟩:=hm;obtain⟨_,_,x2⟩:=hm';rw[x1]at x2;exact q (by simpa using x2.symm)
   exact h.en b' e oM hm'
theorem XJ(l:List Ad)(j r:Nat):(XI l j r).length<=j:=gH (List.length_filter_le _ _) sM
theorem XX(l:List Ad)(j r:Nat):(XW l j r).length<=j:=gH (List.length_filter_le _ _) sM
end
def NSv(E R S L:Nat)(l:List Ad)(C:Nat)(w w':World)(v:Value):Prop:=∃B GB TB AB NB DB vg vt vd tag s,v=.pointer (some ⟨B,0,none⟩)/\Bz E R S L s w' B C GB TB AB NB DB vg vt vd tag/\Er l s sr0/\Below E w w'
theorem VJ(c:Cd)(hc:(Ai c).1=0)(w:World)(C:Nat)(p1 p2 p3:Option Addr)(q1 q2 q3:Nat)(hR:c.regs.length<=16384)(hS:c.slots.length<=4096)(hL:c.list.length<=32768)(hC1:w.cell? ⟨C,1,none⟩=some (.slice p1 c.regs.length q1))(hC2:w.cell? ⟨C,2,none⟩=some (.slice p2 c.slots.length q2))(hC3:w.cell? ⟨C,3,none⟩=some (.slice p3 c.list.length q3))(hl:AV 7 C9 w (.slice p3 c.list.length q3) c.list):
 Calls prog 28 #[.pointer (some ⟨C,0,none⟩)] w fun e w'=>∃v,e=.returned v/\NSv w.heap.size c.regs.length c.slots.length c.list.length c.list C w w' v:=by
 have HL:=A7 hl;have HCC:=A7 hc;have HD:Hid (∀i∈c.list,Af i=true->0<=i.d/\i.d<(c.regs.length:Int)):=fun i hi hs=>by
  obtain⟨hg,htk⟩:=Ez hc;obtain⟨L,R,e,t⟩:=Kx htk hi;exact GV t hs
 have HKN:Hid (∀i∈c.list,Al i.op=true):=O0 hc;obtain⟨R,hRe⟩:∃N,c.regs.length=N:=⟨_,rfl⟩
 obtain⟨S,hSe⟩:∃N,c.slots.length=N:=⟨_,rfl⟩
 obtain⟨M,hMe⟩:=gA (c.list.length)
 simp only[hRe]at hC1 hR HD |-;simp only[hSe]at hC2 hS |-;simp only[hMe]at hC3 hL HL |-;have HM:=A7 hMe;have HSE:=A7 hSe;have m1:=fun v=>Ri R oM v;have m2:=fun v=>Ri S oM v;have m3:=fun v=>PV M oM v;have m4:=fun v=>JT M oM v;have lC:C<w.heap.size:=A8 hC1;have n0:¬C=w.heap.size:=oM;have n1:¬C=w.heap.size+1:=oM;have n2:¬C=w.heap.size+1+1:=oM;have kC1:∀o1 o2,((w.alloc o1).alloc o2).cell? ⟨C,1,none⟩=some (.slice p1 R q1):=fun o1 o2=>kc (bel (A0 _ _) (A0 _ _)) hC1;have kC2:∀o1 o2,((w.alloc o1).alloc o2).cell? ⟨C,2,none⟩=some (.slice p2 S q2):=fun o1 o2=>kc (bel (A0 _ _) (A0 _ _)) hC2;have kC3:∀o1 o2 o3,(((w.alloc o1).alloc o2).alloc o3).cell? ⟨C,1,none⟩=some (.slice p1 R q1):=fun o1 o2 o3=>kc (bel (bel (A0 _ _) (A0 _ _)) (A0 _ _)) hC1;have kC4:∀o1 o2 o3,(((w.alloc o1).alloc o2).alloc o3).cell? ⟨C,2,none⟩=some (.slice p2 S q2):=fun o1 o2 o3=>kc (bel (bel (A0 _ _) (A0 _ _)) (A0 _ _)) hC2;clear hl hRe hSe hMe hc;go_enter func28,ntmps28;go_upto_region 2 with fail;go_cut [4] (fun bv wx=>∃B GB TB,bv=.pointer (some ⟨B,0,none⟩)/\NS2 w R S C B GB TB wx)
 case first=>
  refine rG (fun v=>v.cell? ⟨C,1,none⟩=some (.slice p1 R q1)/\v.cell? ⟨C,2,none⟩=some (.slice p2 S q2)) fun hJ=>?_;refine Tf 0 1 2 3 4 5 ?_;refine Tc 7 8 9 ?_;refine Tb 10 11 ?_;clear hJ;refine wpAnyH_ready (rs:=[6,12]) kR sM ?_;refine DP 6 (fun K hK=>?_) ?_
  .go_simp;refine Aq hK fun hJ=>?_;clear hK K;clear hJ;refine Aw 12 fun K hK=>?_;exact Zck
  refine DP 12 (fun K hK=>?_) AllReadyH.nil;go_simp;refine Aq hK fun hJ=>?_;clear hK K;clear hJ;refine Aw 6 fun K hK=>?_;exact Zck
 case rest=>
  obtain⟨B,GB,TB,rfl,hns⟩:=hcut;have HNS:=A7 hns;have d3:=kc hns.bel hC3;have lB:B<wc.heap.size:=hns.b.lt;have lG:GB<wc.heap.size:=hns.g.lt;have lT:TB<wc.heap.size:=hns.t.lt;have lC3:C<wc.heap.size:=A8 d3;have b0:wc.cell? ⟨B,3,none⟩=some (.slice none 0 0):=hns.b.cell (i:=3) dE;have b1:wc.cell? ⟨B,4,none⟩=some (.slice none 0 0):=hns.b.cell (i:=4) dE;have b2:wc.cell? ⟨B,5,none⟩=some (.slice none 0 0):=hns.b.cell (i:=5) dE;have fb:∀k,wc.frozen? ⟨B,k,none⟩=false:=hns.b.frozen;have y0:¬B=wc.heap.size:=oM;have y1:¬B=wc.heap.size+1:=oM;have y2:¬B=wc.heap.size+1+1:=oM;clear hns n0 n1 n2 kC1 kC2 kC3 kC4;go_upto_region 3 with fail;go_cut [4] (fun bv wx=>bv=.pointer (some ⟨B,0,none⟩)/\∃AB NB DB,Bz w.heap.size R S M ps0 wx B C GB TB AB NB DB (fun _=>.slice none 0 0) (fun _=>.slice none 0 0) (.slice none 0 0) (OP B GB TB AB NB DB)/\Below w.heap.size w wx)
  case first=>as_aux_lemma=>
   have nCB:C≠B:=by have:=HNS.hB;omega
   have H0:Q6 w wc R S C B GB TB (.slice p3 M q3) _:=⟨HNS.b,HNS.g,HNS.t,d3,HNS.bel,⟨HNS.n1.symm,HNS.n2.symm,nCB,HNS.hB⟩⟩
   refine rG (fun v=>v.cell? ⟨C,3,none⟩=some (.slice p3 M q3)) fun hJ=>?_;refine Tf 0 1 2 3 5 7 ?_;clear hJ;refine wpAnyH_ready (rs:=[4,6,8]) kR sM ?_;refine DP 4 (fun K hK=>?_) ?_
   .go_simp;obtain⟨U1,hU,H1,hs1,rA1,K⟩:=H0.al0 (.int .i64 0) M 3;rw[hU];have hc1:=H1.hc;have lB1:=H1.b.lt;clear hU K;refine Aq hK fun hJ=>?_;clear hK K;refine Tb 9 10 ?_;clear hJ;refine wpAnyH_ready (rs:=[6,8,11]) kR sM ?_;refine DP 6 (fun K hK=>?_) ?_
    .go_simp;obtain⟨U2,hU,H2,hs2,rN2,K⟩:=H1.al (.int .i64 0) M 3;rw[hU];have rA2:=K rA1;have hc2:=H2.hc;have lB2:=H2.b.lt;clear hU K;refine Aq hK fun hJ=>?_;clear hK K;clear hJ;refine wpAnyH_ready (rs:=[8,11]) kR sM ?_;refine DP 8 (fun K hK=>?_) ?_
     .go_simp;obtain⟨U3,hU,H3,hs3,rD3,K⟩:=H2.al (.bool false) M 4;rw[hU];have rA3:=K rA2;have rN3:=K rN2;have hc3:=H3.hc;have lB3:=H3.b.lt;clear hU K;refine Aq hK fun hJ=>?_;clear hK K;clear hJ;refine Aw 11 fun K hK=>?_;have q1:=H3.b.cell (i:=3) dE;have q2:=H3.b.frozen 3;go_simp;clear q1 q2;obtain⟨U4,hU,H4,hs4,K⟩:=H3.st 3 (.slice (some ⟨wc.heap.size,0,none⟩) M M);rw[hU];have rA4:=K rA3 oM;have rN4:=K rN3 oM;have rD4:=K rD3 oM;have hc4:=H4.hc;have lB4:=H4.b.lt;clear hU K;refine Aq hK fun hJ=>?_;clear hK K;refine Tb 12 13 ?_;clear hJ;refine Aw 14 fun K hK=>?_;have q1:=H4.b.cell (i:=4) dE;have q2:=H4.b.frozen 4;go_simp;clear q1 q2;obtain⟨U5,hU,H5,hs5,K⟩:=H4.st 4 (.slice (some ⟨U1.heap.size,0,none⟩) M M);rw[hU];have rA5:=K rA4 oM;have rN5:=K rN4 oM;have rD5:=K rD4 oM;have hc5:=H5.hc;have lB5:=H5.b.lt;clear hU K;refine Aq hK fun hJ=>?_;clear hK K;refine Tb 15 16 ?_;clear hJ;refine Aw 17 fun K hK=>?_;have q1:=H5.b.cell (i:=5) dE;have q2:=H5.b.frozen 5;go_simp;clear q1 q2;obtain⟨U6,hU,H6,hs6,K⟩:=H5.st 5 (.slice (some ⟨U2.heap.size,0,none⟩) M M);rw[hU];have rA6:=K rA5 oM;have rN6:=K rN5 oM;have rD6:=K rD5 oM;exact Pc
     refine DP 11 (fun K hK=>?_) AllReadyH.nil;have q1:=H2.b.cell (i:=3) dE;have q2:=H2.b.frozen 3;go_simp;clear q1 q2;obtain⟨U3,hU,H3,hs3,K⟩:=H2.st 3 (.slice (some ⟨wc.heap.size,0,none⟩) M M);rw[hU];have rA3:=K rA2 oM;have rN3:=K rN2 oM;have hc3:=H3.hc;have lB3:=H3.b.lt;clear hU K;refine Aq hK fun hJ=>?_;clear hK K;refine Tb 12 13 ?_;clear hJ;refine wpAnyH_ready (rs:=[8,14]) kR sM ?_;refine DP 8 (fun K hK=>?_) ?_
     .go_simp;obtain⟨U4,hU,H4,hs4,rD4,K⟩:=H3.al (.bool false) M 4;rw[hU];have rA4:=K rA3;have rN4:=K rN3;have hc4:=H4.hc;have lB4:=H4.b.lt;clear hU K;refine Aq hK fun hJ=>?_;clear hK K;clear hJ;refine Aw 14 fun K hK=>?_;have q1:=H4.b.cell (i:=4) dE;have q2:=H4.b.frozen 4;go_simp;clear q1 q2;obtain⟨U5,hU,H5,hs5,K⟩:=H4.st 4 (.slice (some ⟨U1.heap.size,0,none⟩) M M);rw[hU];have rA5:=K rA4 oM;have rN5:=K rN4 oM;have rD5:=K rD4 oM;have hc5:=H5.hc;have lB5:=H5.b.lt;clear hU K;refine Aq hK fun hJ=>?_;clear hK K;refine Tb 15 16 ?_;clear hJ;refine Aw 17 fun K hK=>?_;have q1:=H5.b.cell (i:=5) dE;have q2:=H5.b.frozen 5;go_simp;clear q1 q2;obtain⟨U6,hU,H6,hs6,K⟩:=H5.st 5 (.slice (some ⟨U3.heap.size,0,none⟩) M M);rw[hU];have rA6:=K rA5 oM;have rN6:=K rN5 oM;have rD6:=K rD5 oM;exact Pc
     refine DP 14 (fun K hK=>?_) AllReadyH.nil;have q1:=H3.b.cell (i:=4) dE;have q2:=H3.b.frozen 4;go_simp;clear q1 q2;obtain⟨U4,hU,H4,hs4,K⟩:=H3.st 4 (.slice (some ⟨U1.heap.size,0,none⟩) M M);rw[hU];have rA4:=K rA3 oM;have rN4:=K rN3 oM;have hc4:=H4.hc;have lB4:=H4.b.lt;clear hU K;refine Aq hK fun hJ=>?_;clear hK K;clear hJ;refine Aw 8 fun K hK=>?_;go_simp;obtain⟨U5,hU,H5,hs5,rD5,K⟩:=H4.al (.bool false) M 4;rw[hU];have rA5:=K rA4;have rN5:=K rN4;have hc5:=H5.hc;have lB5:=H5.b.lt;clear hU K;refine Aq hK fun hJ=>?_;clear hK K;refine Tb 15 16 ?_;clear hJ;refine Aw 17 fun K hK=>?_;have q1:=H5.b.cell (i:=5) dE;have q2:=H5.b.frozen 5;go_simp;clear q1 q2;obtain⟨U6,hU,H6,hs6,K⟩:=H5.st 5 (.slice (some ⟨U4.heap.size,0,none⟩) M M);rw[hU];have rA6:=K rA5 oM;have rN6:=K rN5 oM;have rD6:=K rD5 oM;exact Pc
    refine DP 8 (fun K hK=>?_) ?_
    .go_simp;obtain⟨U2,hU,H2,hs2,rD2,K⟩:=H1.al (.bool false) M 4;rw[hU];have rA2:=K rA1;have hc2:=H2.hc;have lB2:=H2.b.lt;clear hU K;refine Aq hK fun hJ=>?_;clear hK K;clear hJ;refine wpAnyH_ready (rs:=[6,11]) kR sM ?_;refine DP 6 (fun K hK=>?_) ?_
     .go_simp;obtain⟨U3,hU,H3,hs3,rN3,K⟩:=H2.al (.int .i64 0) M 3;rw[hU];have rA3:=K rA2;have rD3:=K rD2;have hc3:=H3.hc;have lB3:=H3.b.lt;clear hU K;refine Aq hK fun hJ=>?_;clear hK K;clear hJ;refine Aw 11 fun K hK=>?_;have q1:=H3.b.cell (i:=3) dE;have q2:=H3.b.frozen 3;go_simp;clear q1 q2;obtain⟨U4,hU,H4,hs4,K⟩:=H3.st 3 (.slice (some ⟨wc.heap.size,0,none⟩) M M);rw[hU];have rA4:=K rA3 oM;have rD4:=K rD3 oM;have rN4:=K rN3 oM;have hc4:=H4.hc;have lB4:=H4.b.lt;clear hU K;refine Aq hK fun hJ=>?_;clear hK K;refine Tb 12 13 ?_;clear hJ;refine Aw 14 fun K hK=>?_;have q1:=H4.b.cell (i:=4) dE;have q2:=H4.b.frozen 4;go_simp;clear q1 q2;obtain⟨U5,hU,H5,hs5,K⟩:=H4.st 4 (.slice (some ⟨U2.heap.size,0,none⟩) M M);rw[hU];have rA5:=K rA4 oM;have rD5:=K rD4 oM;have rN5:=K rN4 oM;have hc5:=H5.hc;have lB5:=H5.b.lt;clear hU K;refine Aq hK fun hJ=>?_;clear hK K;refine Tb 15 16 ?_;clear hJ;refine Aw 17 fun K hK=>?_;have q1:=H5.b.cell (i:=5) dE;have q2:=H5.b.frozen 5;go_simp;clear q1 q2;obtain⟨U6,hU,H6,hs6,K⟩:=H5.st 5 (.slice (some ⟨U1.heap.size,0,none⟩) M M);rw[hU];have rA6:=K rA5 oM;have rD6:=K rD5 oM;have rN6:=K rN5 oM;exact Pc
     refine DP 11 (fun K hK=>?_) AllReadyH.nil;have q1:=H2.b.cell (i:=3) dE;have q2:=H2.b.frozen 3;go_simp;clear q1 q2;obtain⟨U3,hU,H3,hs3,K⟩:=H2.st 3 (.slice (some ⟨wc.heap.size,0,none⟩) M M);rw[hU];have rA3:=K rA2 oM;have rD3:=K rD2 oM;have hc3:=H3.hc;have lB3:=H3.b.lt;clear hU K;refine Aq hK fun hJ=>?_;clear hK K;clear hJ;refine Aw 6 fun K hK=>?_;go_simp;obtain⟨U4,hU,H4,hs4,rN4,K⟩:=H3.al (.int .i64 0) M 3;rw[hU];have rA4:=K rA3;have rD4:=K rD3;have hc4:=H4.hc;have lB4:=H4.b.lt;clear hU K;refine Aq hK fun hJ=>?_;clear hK K;refine Tb 12 13 ?_;clear hJ;refine Aw 14 fun K hK=>?_;have q1:=H4.b.cell (i:=4) dE;have q2:=H4.b.frozen 4;go_simp;clear q1 q2;obtain⟨U5,hU,H5,hs5,K⟩:=H4.st 4 (.slice (some ⟨U3.heap.size,0,none⟩) M M);rw[hU];have rA5:=K rA4 oM;have rD5:=K rD4 oM;have rN5:=K rN4 oM;have hc5:=H5.hc;have lB5:=H5.b.lt;clear hU K;refine Aq hK fun hJ=>?_;clear hK K;refine Tb 15 16 ?_;clear hJ;refine Aw 17 fun K hK=>?_;have q1:=H5.b.cell (i:=5) dE;have q2:=H5.b.frozen 5;go_simp;clear q1 q2;obtain⟨U6,hU,H6,hs6,K⟩:=H5.st 5 (.slice (some ⟨U1.heap.size,0,none⟩) M M);rw[hU];have rA6:=K rA5 oM;have rD6:=K rD5 oM;have rN6:=K rN5 oM;exact Pc
    refine DP 11 (fun K hK=>?_) AllReadyH.nil;have q1:=H1.b.cell (i:=3) dE;have q2:=H1.b.frozen 3;go_simp;clear q1 q2;obtain⟨U2,hU,H2,hs2,K⟩:=H1.st 3 (.slice (some ⟨wc.heap.size,0,none⟩) M M);rw[hU];have rA2:=K rA1 oM;have hc2:=H2.hc;have lB2:=H2.b.lt;clear hU K;refine Aq hK fun hJ=>?_;clear hK K;clear hJ;refine wpAnyH_ready (rs:=[6,8]) kR sM ?_;refine DP 6 (fun K hK=>?_) ?_
    .go_simp;obtain⟨U3,hU,H3,hs3,rN3,K⟩:=H2.al (.int .i64 0) M 3;rw[hU];have rA3:=K rA2;have hc3:=H3.hc;have lB3:=H3.b.lt;clear hU K;refine Aq hK fun hJ=>?_;clear hK K;refine Tb 12 13 ?_;clear hJ;refine wpAnyH_ready (rs:=[8,14]) kR sM ?_;refine DP 8 (fun K hK=>?_) ?_
     .go_simp;obtain⟨U4,hU,H4,hs4,rD4,K⟩:=H3.al (.bool false) M 4;rw[hU];have rA4:=K rA3;have rN4:=K rN3;have hc4:=H4.hc;have lB4:=H4.b.lt;clear hU K;refine Aq hK fun hJ=>?_;clear hK K;clear hJ;refine Aw 14 fun K hK=>?_;have q1:=H4.b.cell (i:=4) dE;have q2:=H4.b.frozen 4;go_simp;clear q1 q2;obtain⟨U5,hU,H5,hs5,K⟩:=H4.st 4 (.slice (some ⟨U2.heap.size,0,none⟩) M M);rw[hU];have rA5:=K rA4 oM;have rN5:=K rN4 oM;have rD5:=K rD4 oM;have hc5:=H5.hc;have lB5:=H5.b.lt;clear hU K;refine Aq hK fun hJ=>?_;clear hK K;refine Tb 15 16 ?_;clear hJ;refine Aw 17 fun K hK=>?_;have q1:=H5.b.cell (i:=5) dE;have q2:=H5.b.frozen 5;go_simp;clear q1 q2;obtain⟨U6,hU,H6,hs6,K⟩:=H5.st 5 (.slice (some ⟨U3.heap.size,0,none⟩) M M);rw[hU];have rA6:=K rA5 oM;have rN6:=K rN5 oM;have rD6:=K rD5 oM;exact Pc
     refine DP 14 (fun K hK=>?_) AllReadyH.nil;have q1:=H3.b.cell (i:=4) dE;have q2:=H3.b.frozen 4;go_simp;clear q1 q2;obtain⟨U4,hU,H4,hs4,K⟩:=H3.st 4 (.slice (some ⟨U2.heap.size,0,none⟩) M M);rw[hU];have rA4:=K rA3 oM;have rN4:=K rN3 oM;have hc4:=H4.hc;have lB4:=H4.b.lt;clear hU K;refine Aq hK fun hJ=>?_;clear hK K;clear hJ;refine Aw 8 fun K hK=>?_;go_simp;obtain⟨U5,hU,H5,hs5,rD5,K⟩:=H4.al (.bool false) M 4;rw[hU];have rA5:=K rA4;have rN5:=K rN4;have hc5:=H5.hc;have lB5:=H5.b.lt;clear hU K;refine Aq hK fun hJ=>?_;clear hK K;refine Tb 15 16 ?_;clear hJ;refine Aw 17 fun K hK=>?_;have q1:=H5.b.cell (i:=5) dE;have q2:=H5.b.frozen 5;go_simp;clear q1 q2;obtain⟨U6,hU,H6,hs6,K⟩:=H5.st 5 (.slice (some ⟨U4.heap.size,0,none⟩) M M);rw[hU];have rA6:=K rA5 oM;have rN6:=K rN5 oM;have rD6:=K rD5 oM;exact Pc
    refine DP 8 (fun K hK=>?_) AllReadyH.nil;go_simp;obtain⟨U3,hU,H3,hs3,rD3,K⟩:=H2.al (.bool false) M 4;rw[hU];have rA3:=K rA2;have hc3:=H3.hc;have lB3:=H3.b.lt;clear hU K;refine Aq hK fun hJ=>?_;clear hK K;clear hJ;refine Aw 6 fun K hK=>?_;go_simp;obtain⟨U4,hU,H4,hs4,rN4,K⟩:=H3.al (.int .i64 0) M 3;rw[hU];have rA4:=K rA3;have rD4:=K rD3;have hc4:=H4.hc;have lB4:=H4.b.lt;clear hU K;refine Aq hK fun hJ=>?_;clear hK K;refine Tb 12 13 ?_;clear hJ;refine Aw 14 fun K hK=>?_;have q1:=H4.b.cell (i:=4) dE;have q2:=H4.b.frozen 4;go_simp;clear q1 q2;obtain⟨U5,hU,H5,hs5,K⟩:=H4.st 4 (.slice (some ⟨U3.heap.size,0,none⟩) M M);rw[hU];have rA5:=K rA4 oM;have rD5:=K rD4 oM;have rN5:=K rN4 oM;have hc5:=H5.hc;have lB5:=H5.b.lt;clear hU K;refine Aq hK fun hJ=>?_;clear hK K;refine Tb 15 16 ?_;clear hJ;refine Aw 17 fun K hK=>?_;have q1:=H5.b.cell (i:=5) dE;have q2:=H5.b.frozen 5;go_simp;clear q1 q2;obtain⟨U6,hU,H6,hs6,K⟩:=H5.st 5 (.slice (some ⟨U2.heap.size,0,none⟩) M M);rw[hU];have rA6:=K rA5 oM;have rD6:=K rD5 oM;have rN6:=K rN5 oM;exact Pc
   refine DP 6 (fun K hK=>?_) ?_
   .go_simp;obtain⟨U1,hU,H1,hs1,rN1,K⟩:=H0.al0 (.int .i64 0) M 3;rw[hU];have hc1:=H1.hc;have lB1:=H1.b.lt;clear hU K;refine Aq hK fun hJ=>?_;clear hK K;clear hJ;refine wpAnyH_ready (rs:=[4,8]) kR sM ?_;refine DP 4 (fun K hK=>?_) ?_
    .go_simp;obtain⟨U2,hU,H2,hs2,rA2,K⟩:=H1.al (.int .i64 0) M 3;rw[hU];have rN2:=K rN1;have hc2:=H2.hc;have lB2:=H2.b.lt;clear hU K;refine Aq hK fun hJ=>?_;clear hK K;refine Tb 9 10 ?_;clear hJ;refine wpAnyH_ready (rs:=[8,11]) kR sM ?_;refine DP 8 (fun K hK=>?_) ?_
     .go_simp;obtain⟨U3,hU,H3,hs3,rD3,K⟩:=H2.al (.bool false) M 4;rw[hU];have rN3:=K rN2;have rA3:=K rA2;have hc3:=H3.hc;have lB3:=H3.b.lt;clear hU K;refine Aq hK fun hJ=>?_;clear hK K;clear hJ;refine Aw 11 fun K hK=>?_;have q1:=H3.b.cell (i:=3) dE;have q2:=H3.b.frozen 3;go_simp;clear q1 q2;obtain⟨U4,hU,H4,hs4,K⟩:=H3.st 3 (.slice (some ⟨U1.heap.size,0,none⟩) M M);rw[hU];have rN4:=K rN3 oM;have rA4:=K rA3 oM;have rD4:=K rD3 oM;have hc4:=H4.hc;have lB4:=H4.b.lt;clear hU K;refine Aq hK fun hJ=>?_;clear hK K;refine Tb 12 13 ?_;clear hJ;refine Aw 14 fun K hK=>?_;have q1:=H4.b.cell (i:=4) dE;have q2:=H4.b.frozen 4;go_simp;clear q1 q2;obtain⟨U5,hU,H5,hs5,K⟩:=H4.st 4 (.slice (some ⟨wc.heap.size,0,none⟩) M M);rw[hU];have rN5:=K rN4 oM;have rA5:=K rA4 oM;have rD5:=K rD4 oM;have hc5:=H5.hc;have lB5:=H5.b.lt;clear hU K;refine Aq hK fun hJ=>?_;clear hK K;refine Tb 15 16 ?_;clear hJ;refine Aw 17 fun K hK=>?_;have q1:=H5.b.cell (i:=5) dE;have q2:=H5.b.frozen 5;go_simp;clear q1 q2;obtain⟨U6,hU,H6,hs6,K⟩:=H5.st 5 (.slice (some ⟨U2.heap.size,0,none⟩) M M);rw[hU];have rN6:=K rN5 oM;have rA6:=K rA5 oM;have rD6:=K rD5 oM;exact Pc
     refine DP 11 (fun K hK=>?_) AllReadyH.nil;have q1:=H2.b.cell (i:=3) dE;have q2:=H2.b.frozen 3;go_simp;clear q1 q2;obtain⟨U3,hU,H3,hs3,K⟩:=H2.st 3 (.slice (some ⟨U1.heap.size,0,none⟩) M M);rw[hU];have rN3:=K rN2 oM;have rA3:=K rA2 oM;have hc3:=H3.hc;have lB3:=H3.b.lt;clear hU K;refine Aq hK fun hJ=>?_;clear hK K;refine Tb 12 13 ?_;clear hJ;refine wpAnyH_ready (rs:=[8,14]) kR sM ?_;refine DP 8 (fun K hK=>?_) ?_
     .go_simp;obtain⟨U4,hU,H4,hs4,rD4,K⟩:=H3.al (.bool false) M 4;rw[hU];have rN4:=K rN3;have rA4:=K rA3;have hc4:=H4.hc;have lB4:=H4.b.lt;clear hU K;refine Aq hK fun hJ=>?_;clear hK K;clear hJ;refine Aw 14 fun K hK=>?_;have q1:=H4.b.cell (i:=4) dE;have q2:=H4.b.frozen 4;go_simp;clear q1 q2;obtain⟨U5,hU,H5,hs5,K⟩:=H4.st 4 (.slice (some ⟨wc.heap.size,0,none⟩) M M);rw[hU];have rN5:=K rN4 oM;have rA5:=K rA4 oM;have rD5:=K rD4 oM;have hc5:=H5.hc;have lB5:=H5.b.lt;clear hU K;refine Aq hK fun hJ=>?_;clear hK K;refine Tb 15 16 ?_;clear hJ;refine Aw 17 fun K hK=>?_;have q1:=H5.b.cell (i:=5) dE;have q2:=H5.b.frozen 5;go_simp;clear q1 q2;obtain⟨U6,hU,H6,hs6,K⟩:=H5.st 5 (.slice (some ⟨U3.heap.size,0,none⟩) M M);rw[hU];have rN6:=K rN5 oM;have rA6:=K rA5 oM;have rD6:=K rD5 oM;exact Pc
     refine DP 14 (fun K hK=>?_) AllReadyH.nil;have q1:=H3.b.cell (i:=4) dE;have q2:=H3.b.frozen 4;go_simp;clear q1 q2;obtain⟨U4,hU,H4,hs4,K⟩:=H3.st 4 (.slice (some ⟨wc.heap.size,0,none⟩) M M);rw[hU];have rN4:=K rN3 oM;have rA4:=K rA3 oM;have hc4:=H4.hc;have lB4:=H4.b.lt;clear hU K;refine Aq hK fun hJ=>?_;clear hK K;clear hJ;refine Aw 8 fun K hK=>?_;go_simp;obtain⟨U5,hU,H5,hs5,rD5,K⟩:=H4.al (.bool false) M 4;rw[hU];have rN5:=K rN4;have rA5:=K rA4;have hc5:=H5.hc;have lB5:=H5.b.lt;clear hU K;refine Aq hK fun hJ=>?_;clear hK K;refine Tb 15 16 ?_;clear hJ;refine Aw 17 fun K hK=>?_;have q1:=H5.b.cell (i:=5) dE;have q2:=H5.b.frozen 5;go_simp;clear q1 q2;obtain⟨U6,hU,H6,hs6,K⟩:=H5.st 5 (.slice (some ⟨U4.heap.size,0,none⟩) M M);rw[hU];have rN6:=K rN5 oM;have rA6:=K rA5 oM;have rD6:=K rD5 oM;exact Pc
    refine DP 8 (fun K hK=>?_) AllReadyH.nil;go_simp;obtain⟨U2,hU,H2,hs2,rD2,K⟩:=H1.al (.bool false) M 4;rw[hU];have rN2:=K rN1;have hc2:=H2.hc;have lB2:=H2.b.lt;clear hU K;refine Aq hK fun hJ=>?_;clear hK K;clear hJ;refine Aw 4 fun K hK=>?_;go_simp;obtain⟨U3,hU,H3,hs3,rA3,K⟩:=H2.al (.int .i64 0) M 3;rw[hU];have rN3:=K rN2;have rD3:=K rD2;have hc3:=H3.hc;have lB3:=H3.b.lt;clear hU K;refine Aq hK fun hJ=>?_;clear hK K;refine Tb 9 10 ?_;clear hJ;refine Aw 11 fun K hK=>?_;have q1:=H3.b.cell (i:=3) dE;have q2:=H3.b.frozen 3;go_simp;clear q1 q2;obtain⟨U4,hU,H4,hs4,K⟩:=H3.st 3 (.slice (some ⟨U2.heap.size,0,none⟩) M M);rw[hU];have rN4:=K rN3 oM;have rD4:=K rD3 oM;have rA4:=K rA3 oM;have hc4:=H4.hc;have lB4:=H4.b.lt;clear hU K;refine Aq hK fun hJ=>?_;clear hK K;refine Tb 12 13 ?_;clear hJ;refine Aw 14 fun K hK=>?_;have q1:=H4.b.cell (i:=4) dE;have q2:=H4.b.frozen 4;go_simp;clear q1 q2;obtain⟨U5,hU,H5,hs5,K⟩:=H4.st 4 (.slice (some ⟨wc.heap.size,0,none⟩) M M);rw[hU];have rN5:=K rN4 oM;have rD5:=K rD4 oM;have rA5:=K rA4 oM;have hc5:=H5.hc;have lB5:=H5.b.lt;clear hU K;refine Aq hK fun hJ=>?_;clear hK K;refine Tb 15 16 ?_;clear hJ;refine Aw 17 fun K hK=>?_;have q1:=H5.b.cell (i:=5) dE;have q2:=H5.b.frozen 5;go_simp;clear q1 q2;obtain⟨U6,hU,H6,hs6,K⟩:=H5.st 5 (.slice (some ⟨U1.heap.size,0,none⟩) M M);rw[hU];have rN6:=K rN5 oM;have rD6:=K rD5 oM;have rA6:=K rA5 oM;exact Pc
   refine DP 8 (fun K hK=>?_) AllReadyH.nil;go_simp;obtain⟨U1,hU,H1,hs1,rD1,K⟩:=H0.al0 (.bool false) M 4;rw[hU];have hc1:=H1.hc;have lB1:=H1.b.lt;clear hU K;refine Aq hK fun hJ=>?_;clear hK K;clear hJ;refine wpAnyH_ready (rs:=[4,6]) kR sM ?_;refine DP 4 (fun K hK=>?_) ?_
   .go_simp;obtain⟨U2,hU,H2,hs2,rA2,K⟩:=H1.al (.int .i64 0) M 3;rw[hU];have rD2:=K rD1;have hc2:=H2.hc;have lB2:=H2.b.lt;clear hU K;refine Aq hK fun hJ=>?_;clear hK K;refine Tb 9 10 ?_;clear hJ;refine wpAnyH_ready (rs:=[6,11]) kR sM ?_;refine DP 6 (fun K hK=>?_) ?_
    .go_simp;obtain⟨U3,hU,H3,hs3,rN3,K⟩:=H2.al (.int .i64 0) M 3;rw[hU];have rD3:=K rD2;have rA3:=K rA2;have hc3:=H3.hc;have lB3:=H3.b.lt;clear hU K;refine Aq hK fun hJ=>?_;clear hK K;clear hJ;refine Aw 11 fun K hK=>?_;have q1:=H3.b.cell (i:=3) dE;have q2:=H3.b.frozen 3;go_simp;clear q1 q2;obtain⟨U4,hU,H4,hs4,K⟩:=H3.st 3 (.slice (some ⟨U1.heap.size,0,none⟩) M M);rw[hU];have rD4:=K rD3 oM;have rA4:=K rA3 oM;have rN4:=K rN3 oM;have hc4:=H4.hc;have lB4:=H4.b.lt;clear hU K;refine Aq hK fun hJ=>?_;clear hK K;refine Tb 12 13 ?_;clear hJ;refine Aw 14 fun K hK=>?_;have q1:=H4.b.cell (i:=4) dE;have q2:=H4.b.frozen 4;go_simp;clear q1 q2;obtain⟨U5,hU,H5,hs5,K⟩:=H4.st 4 (.slice (some ⟨U2.heap.size,0,none⟩) M M);rw[hU];have rD5:=K rD4 oM;have rA5:=K rA4 oM;have rN5:=K rN4 oM;have hc5:=H5.hc;have lB5:=H5.b.lt;clear hU K;refine Aq hK fun hJ=>?_;clear hK K;refine Tb 15 16 ?_;clear hJ;refine Aw 17 fun K hK=>?_;have q1:=H5.b.cell (i:=5) dE;have q2:=H5.b.frozen 5;go_simp;clear q1 q2;obtain⟨U6,hU,H6,hs6,K⟩:=H5.st 5 (.slice (some ⟨wc.heap.size,0,none⟩) M M);rw[hU];have rD6:=K rD5 oM;have rA6:=K rA5 oM;have rN6:=K rN5 oM;exact Pc
    refine DP 11 (fun K hK=>?_) AllReadyH.nil;have q1:=H2.b.cell (i:=3) dE;have q2:=H2.b.frozen 3;go_simp;clear q1 q2;obtain⟨U3,hU,H3,hs3,K⟩:=H2.st 3 (.slice (some ⟨U1.heap.size,0,none⟩) M M);rw[hU];have rD3:=K rD2 oM;have rA3:=K rA2 oM;have hc3:=H3.hc;have lB3:=H3.b.lt;clear hU K;refine Aq hK fun hJ=>?_;clear hK K;clear hJ;refine Aw 6 fun K hK=>?_;go_simp;obtain⟨U4,hU,H4,hs4,rN4,K⟩:=H3.al (.int .i64 0) M 3;rw[hU];have rD4:=K rD3;have rA4:=K rA3;have hc4:=H4.hc;have lB4:=H4.b.lt;clear hU K;refine Aq hK fun hJ=>?_;clear hK K;refine Tb 12 13 ?_;clear hJ;refine Aw 14 fun K hK=>?_;have q1:=H4.b.cell (i:=4) dE;have q2:=H4.b.frozen 4;go_simp;clear q1 q2;obtain⟨U5,hU,H5,hs5,K⟩:=H4.st 4 (.slice (some ⟨U3.heap.size,0,none⟩) M M);rw[hU];have rD5:=K rD4 oM;have rA5:=K rA4 oM;have rN5:=K rN4 oM;have hc5:=H5.hc;have lB5:=H5.b.lt;clear hU K;refine Aq hK fun hJ=>?_;clear hK K;refine Tb 15 16 ?_;clear hJ;refine Aw 17 fun K hK=>?_;have q1:=H5.b.cell (i:=5) dE;have q2:=H5.b.frozen 5;go_simp;clear q1 q2;obtain⟨U6,hU,H6,hs6,K⟩:=H5.st 5 (.slice (some ⟨wc.heap.size,0,none⟩) M M);rw[hU];have rD6:=K rD5 oM;have rA6:=K rA5 oM;have rN6:=K rN5 oM;exact Pc
   refine DP 6 (fun K hK=>?_) AllReadyH.nil;go_simp;obtain⟨U2,hU,H2,hs2,rN2,K⟩:=H1.al (.int .i64 0) M 3;rw[hU];have rD2:=K rD1;have hc2:=H2.hc;have lB2:=H2.b.lt;clear hU K;refine Aq hK fun hJ=>?_;clear hK K;clear hJ;refine Aw 4 fun K hK=>?_;go_simp;obtain⟨U3,hU,H3,hs3,rA3,K⟩:=H2.al (.int .i64 0) M 3;rw[hU];have rD3:=K rD2;have rN3:=K rN2;have hc3:=H3.hc;have lB3:=H3.b.lt;clear hU K;refine Aq hK fun hJ=>?_;clear hK K;refine Tb 9 10 ?_;clear hJ;refine Aw 11 fun K hK=>?_;have q1:=H3.b.cell (i:=3) dE;have q2:=H3.b.frozen 3;go_simp;clear q1 q2;obtain⟨U4,hU,H4,hs4,K⟩:=H3.st 3 (.slice (some ⟨U2.heap.size,0,none⟩) M M);rw[hU];have rD4:=K rD3 oM;have rN4:=K rN3 oM;have rA4:=K rA3 oM;have hc4:=H4.hc;have lB4:=H4.b.lt;clear hU K;refine Aq hK fun hJ=>?_;clear hK K;refine Tb 12 13 ?_;clear hJ;refine Aw 14 fun K hK=>?_;have q1:=H4.b.cell (i:=4) dE;have q2:=H4.b.frozen 4;go_simp;clear q1 q2;obtain⟨U5,hU,H5,hs5,K⟩:=H4.st 4 (.slice (some ⟨U1.heap.size,0,none⟩) M M);rw[hU];have rD5:=K rD4 oM;have rN5:=K rN4 oM;have rA5:=K rA4 oM;have hc5:=H5.hc;have lB5:=H5.b.lt;clear hU K;refine Aq hK fun hJ=>?_;clear hK K;refine Tb 15 16 ?_;clear hJ;refine Aw 17 fun K hK=>?_;have q1:=H5.b.cell (i:=5) dE;have q2:=H5.b.frozen 5;go_simp;clear q1 q2;obtain⟨U6,hU,H6,hs6,K⟩:=H5.st 5 (.slice (some ⟨wc.heap.size,0,none⟩) M M);rw[hU];have rD6:=K rD5 oM;have rN6:=K rN5 oM;have rA6:=K rA5 oM;exact Pc
  case rest=>
   obtain⟨rfl,AB,NB,DB,hk0,hb0⟩:=hcut;have HK0:Hid (Below w.heap.size w wc/\∃s vg vt tag,Bz w.heap.size R S M s wc B C GB TB AB NB DB vg vt (.slice none 0 0) tag/\Mm c.list 0 s):=⟨hb0,_,_,_,_,hk0,Mm.zero _⟩
   have e3:=kc hb0 hC3;clear hk0 hb0 lB lG lT lC3 b0 b1 b2 fb y0 y1 y2 HNS d3;go_wp2;clear e3
   go_loopw [48,5] (fun iv bv wr=>∃j:Nat,j<=M/\iv=.int .i64 (j:Int)/\bv=.int .i64 (FF (AE (c.list.take j)))/\Hid (Below w.heap.size w wr/\∃s vg vt tag,Bz w.heap.size R S M s wr B C GB TB AB NB DB vg vt (.slice none 0 0) tag/\Mm c.list j s)) (fun iv _ _=>M-(intOf iv).toNat)
   case atStart=>exact⟨0,gI _,rfl,rfl,HK0.out⟩
   case round=>
    clear HK0;obtain⟨j,hj,rfl,rfl,HJ⟩:=hrel;by_cases hlt:j<M
    .have hjl:j<c.list.length:=by have:=HM.out;omega
     obtain⟨hbj,s,vg,vt,tag,hK,hP⟩:=HJ.out;obtain⟨lb,lo,rfl,hcl⟩:=(HL.below hbj).at hjl;have hknown:=HKN.out _ (gD hjl);have HDI:=A7 (HD.out _ (gD hjl));have HFIN:=A7 (fun o=>Zg HCC.out hjl o);have HBEG:=A7 (fun o=>Zf hjl o);have HOTH:=A7 (fun o o'=>Zh hjl o o');have HSLO:=A7 (fun o=>Gu HCC.out hjl o);have HPA:=A7 hP.ar;have HPO:=A7 (fun h1 h2 h3 (a:Int) ha=>hP.oth hjl h1 h2 h3 (a:=a) ha);have HPS:=A7 (fun h1 h2 h3 (D:Nat) hD (a:Int) ha=>hP.set_ hjl h1 h2 h3 (D:=D) hD (a:=a) ha);have HPT:=A7 (fun h1 h2 (D:Nat) hD (a:Int) ha=>hP.sto hjl h1 h2 (D:=D) hD (a:=a) ha);have HPF:=A7 (fun h1 h2 (b:Nat) hm (a:Int) ha=>hP.fin hjl h1 h2 (b:=b) hm (a:=a) ha);have hsl:=hP.sl;have htl:=hP.tl;have HSN:Hid (∀r,(s.sl r).length<=1000000):=fun r=>by rw[hsl r];have:=XJ c.list j r;omega
     have HTN:Hid (∀r,(s.tl r).length<=1000000):=fun r=>by rw[htl r];have:=XX c.list j r;omega
     obtain⟨⟨op,d,a,b,e,n,z⟩,hi⟩:∃i,c.list[j]=i:=⟨_,rfl⟩
     rw[hi]at hcl HDI hknown HFIN HBEG HOTH HSLO HPO HPS HPT HPF;simp only at hknown HFIN HBEG HOTH HSLO HPO HPS HPT HPF;have y0:=hcl.at 0 (v:=.int .i64 op) rfl;rw[Nat.add_zero]at y0;have y1:=hcl.at 1 (v:=.int .i64 d) rfl;have y2:=hcl.at 2 (v:=.int .i64 a) rfl;have y3:=hcl.at 3 (v:=.int .i64 b) rfl;have y4:=hcl.at 4 (v:=.int .i64 e) rfl;have y5:=hcl.at 5 (v:=.int .i64 n) rfl;have y6:=hcl.at 6 (v:=.int .u32 z) rfl;have llb:lb<wr.heap.size:=A8 y0;have n9:¬lb=wr.heap.size:=oM;have i1:(0:Int)<=(j:Int):=oM;have i2:(j:Int)<(M:Int):=oM;have wi:IntKind.i64.wrap ((j:Int)+1)=((j+1:Nat):Int):=by rw[IntKind.wrap_i64];omega
     obtain⟨V2,hV2⟩:∃V,wr.alloc (.cells #[.int .i64 op,.int .i64 d,.int .i64 a,.int .i64 b,.int .i64 e,.int .i64 n,.int .u32 z] 40)=V:=⟨_,rfl⟩
     have HB2:Hid (Below wr.heap.size wr V2):=by rw[<-hV2];exact A0 _ _
     have hX2:V2.rowIs wr.heap.size 40 7 (UX op d a b e n z):=by rw[<-hV2];exact BS wr _ _
     have HX2:=A7 hX2;have x0:V2.cell? ⟨wr.heap.size,0,none⟩=some (.int .i64 op):=hX2.cell (i:=0) dE;have x1:V2.cell? ⟨wr.heap.size,1,none⟩=some (.int .i64 d):=hX2.cell (i:=1) dE;have x2:V2.cell? ⟨wr.heap.size,2,none⟩=some (.int .i64 a):=hX2.cell (i:=2) dE;have x3:V2.cell? ⟨wr.heap.size,3,none⟩=some (.int .i64 b):=hX2.cell (i:=3) dE;have x4:V2.cell? ⟨wr.heap.size,4,none⟩=some (.int .i64 e):=hX2.cell (i:=4) dE;have x5:V2.cell? ⟨wr.heap.size,5,none⟩=some (.int .i64 n):=hX2.cell (i:=5) dE;have x6:V2.cell? ⟨wr.heap.size,6,none⟩=some (.int .u32 z):=hX2.cell (i:=6) dE;have KS:=A7 (fun v=>OG ⟨op,d,a,b,e,n,z⟩ v);unfold Ch at KS;simp only at KS;have HK:=A7 hK;have HBJ:=A7 hbj;obtain⟨X,hX⟩:=gA (wr.heap.size)
     have HKV:Hid (∀v,Below V2.heap.size V2 v->Bz w.heap.size R S M s v B C GB TB AB NB DB vg vt (.slice none 0 0) tag/\v.rowIs X 40 7 (UX op d a b e n z)/\Below w.heap.size w v/\B≠X/\GB≠X/\TB≠X/\AB≠X/\NB≠X/\V2.heap.size<=v.heap.size):=fun v hv=>by
      have h9:=bel HB2.out hv;have l1:=HK.b.lt;have l2:=HK.g.lt;have l3:=HK.t.lt;have l4:=HK.a.lt;have l5:=HK.n.lt;refine⟨HK.below h9,by rw[<-hX];exact HX2.of_block (hv.block _ HX2.lt),HBJ.trans (h9.mono HK.lt),oM,oM,oM,oM,oM,hv.size⟩
     simp only[hX]at x0 x1 x2 x3 x4 x5 x6 n9;obtain⟨AX,hAX⟩:∃x:Int,FF (AE (c.list.take j))=x:=⟨_,rfl⟩
     obtain⟨NX,hNX⟩:∃x:Int,FF (AE (c.list.take (j+1)))=x:=⟨_,rfl⟩
     rw[hAX];have HAX:=A7 hAX;have HNX:=A7 hNX;clear hX2 hcl hi llb hK hP hbj hsl htl hAX hNX HX2 HJ;cases hS:((A4 op).d != 0)with
     |true=>as_aux_lemma=>
      simp only[hS]at KS;have hsb:Af (⟨op,d,a,b,e,n,z⟩:Ad)=true:=by simp only[Af];simpa using hS
      obtain⟨g0,g1⟩:=HDI.out hsb;simp only at g0 g1;obtain⟨D,rfl⟩:=Int.eq_ofNat_of_zero_le g0;have hop:op<33:=sets_33 hsb hknown hS;have o33:(op==33)=false:=sO;have o34:(op==34)=false:=sO;have o35:(op==35)=false:=sO;have o36:(op==36)=false:=sO;have o37:(op==37)=false:=sO;have hDR:D<R:=oM;have HFI:Hid (AX=IQ c.list j/\NX=AX):=by
       obtain⟨h1,h2⟩:=HOTH.out oM oM;exact Zfb
      have HPN:=A7 (HPS.out hsb oM oM D sM AX HFI.out.1);clear hS hsb HDI hknown HFIN HBEG HOTH HSLO HPO HPS HPT HPF;go_upto_region 9 with(go_at_call 31;(with_reducible refine(KS.out _).mono ?_);rintro e9 w4 ⟨rfl,hb4⟩;obtain⟨hk4,hx4,hbw,nB,nG,nT,nA,nN,hsz⟩:=HKV.out _ hb4;have HK4:=A7 hk4;have HX4:=A7 hx4;have HBW:=A7 hbw;have x0:w4.cell? ⟨X,0,none⟩=some (.int .i64 op):=hx4.cell (i:=0) dE;have x1:w4.cell? ⟨X,1,none⟩=some (.int .i64 (D:Int)):=hx4.cell (i:=1) dE;have x5:w4.cell? ⟨X,5,none⟩=some (.int .i64 n):=hx4.cell (i:=5) dE;have c1:=hk4.b1;have c2:=hk4.b2;have c3:=hk4.b3;have c4:=hk4.b4;have ca:=hk4.a.cell hlt;have fa:=hk4.a.frozen j;clear hb4 hk4 hx4 hbw)
      obtain⟨g,cap,w5,hr,hk5,k2,k3,hb5,hoth,hne⟩:=HK4.appSlD hDR (HSN.out D) j;have cg:=HK4.g.cell hDR;have lX:X<w4.heap.size:=HX4.lt;have lB:B<w4.heap.size:=HK4.b.lt;have lG:GB<w4.heap.size:=HK4.g.lt;have nBw:¬B=w4.heap.size:=oM;have nXw:¬X=w4.heap.size:=oM;have nGw:¬GB=w4.heap.size:=oM;have cg':(w4.alloc (.cells #[.int .i64 (j:Int)] 3)).cell? ⟨GB,D,none⟩=some (vg D):=kc (A0 _ _) cg;have oB:(vg D).ownBlock≠some B:=fun q=>absurd (HK4.tgs D hDR B q) (by rw[HK4.tB];omega);have oX:(vg D).ownBlock≠some X:=fun q=>M7 HX4.out (HK4.gs D hDR) q;have v1:w5.cell? ⟨B,1,none⟩=some (.slice (some ⟨GB,0,none⟩) R R):=(gC (a:=⟨B,1,none⟩) (hoth B lB oB)).trans c1;have v2:w5.cell? ⟨X,1,none⟩=some (.int .i64 (D:Int)):=(gC (a:=⟨X,1,none⟩) (hoth X lX oX)).trans x1;have nBG:¬B=GB:=Am HK4.tB HK4.tG dE;have v3:(w5.setCell ⟨GB,D,none⟩ (.slice (some ⟨g,0,none⟩) ((s.sl D).length+1) cap)).cell? ⟨B,1,none⟩=some (.slice (some ⟨GB,0,none⟩) R R):=(gC (a:=⟨B,1,none⟩) (gE nBG)).trans v1;have v4:(w5.setCell ⟨GB,D,none⟩ (.slice (some ⟨g,0,none⟩) ((s.sl D).length+1) cap)).cell? ⟨X,1,none⟩=some (.int .i64 (D:Int)):=(gC (a:=⟨X,1,none⟩) (gE (fun q=>nG q.symm))).trans v2;have HX6:Hid ((w5.setCell ⟨GB,D,none⟩ (.slice (some ⟨g,0,none⟩) ((s.sl D).length+1) cap)).rowIs X 40 7 (UX op D a b e n z)):=(HX4.of_block (hoth X lX oX)).of_block (gE (fun q=>nG q.symm));have HB6:Hid (Below w.heap.size w (w5.setCell ⟨GB,D,none⟩ (.slice (some ⟨g,0,none⟩) ((s.sl D).length+1) cap))):=(HBW.trans hb5).setCell HK4.hG _;obtain⟨Mn,hMn⟩:∃k,(s.sl D).length+1=k:=⟨_,rfl⟩
      simp only[hMn]at hr hk5 v3 v4 HX6 HB6;have HR:=A7 hr;have HK6:=A7 hk5;clear hr hk5 hb5 hoth hne hMn lX lB lG;go_cut [7] (fun bv wx=>bv=.pointer (some ⟨X,0,none⟩)/\∃vg' tag',Bz w.heap.size R S M {s with sl:=fun k=>if k=D then s.sl D++[j]else s.sl k} wx B C GB TB AB NB DB vg' vt (.slice none 0 0) tag'/\wx.rowIs X 40 7 (UX op D a b e n z)/\Below w.heap.size w wx)
      case first=>
       refine rG (fun v=>v.cell? ⟨B,1,none⟩=some (.slice (some ⟨GB,0,none⟩) R R)/\v.cell? ⟨X,1,none⟩=some (.int .i64 (D:Int))) fun hJ=>?_;exact Zbg
      case rest=>
       obtain⟨rfl,vg',tag',hk,hx,hb⟩:=hcut;exact Zcp
     |false=>
      simp only[hS]at KS;have hsb:Af (⟨op,d,a,b,e,n,z⟩:Ad)=false:=by simp only[Af];simpa using hS
      clear hS HDI HPS;by_cases hop:op=33
      .as_aux_lemma=>
       obtain⟨D,hnD,hDS⟩:=HSLO.out (.inr hop);have hDS:D<S:=by have:=HSE.out;omega
       subst hnD;have o33:(op==33)=true:=by simpa using hop
       have o34:(op==34)=false:=sO;have o35:(op==35)=false:=sO;have o36:(op==36)=false:=sO;have o37:(op==37)=false:=sO;have HFI:Hid (AX=IQ c.list j/\NX=AX):=by
        obtain⟨h1,h2⟩:=HOTH.out oM oM;exact Zfb
       have HPN:=A7 (HPT.out hsb hop D sM AX HFI.out.1);have i6:(D:Int)<(S:Int):=oM;clear hsb hknown HFIN HBEG HOTH HSLO HPO HPT HPF hop;go_upto_region 11 with(go_at_call 31;(with_reducible refine(KS.out _).mono ?_);rintro e9 w4 ⟨rfl,hb4⟩;obtain⟨hk4,hx4,hbw,nB,nG,nT,nA,nN,hsz⟩:=HKV.out _ hb4;have HK4:=A7 hk4;have HX4:=A7 hx4;have HBW:=A7 hbw;have x0:w4.cell? ⟨X,0,none⟩=some (.int .i64 op):=hx4.cell (i:=0) dE;have x1:w4.cell? ⟨X,1,none⟩=some (.int .i64 d):=hx4.cell (i:=1) dE;have x5:w4.cell? ⟨X,5,none⟩=some (.int .i64 (D:Int)):=hx4.cell (i:=5) dE;have c1:=hk4.b1;have c2:=hk4.b2;have c3:=hk4.b3;have c4:=hk4.b4;have ca:=hk4.a.cell hlt;have fa:=hk4.a.frozen j;clear hb4 hk4 hx4 hbw)
       obtain⟨g,cap,w5,hr,hk5,k2,k3,hb5,hoth,hne⟩:=HK4.appTlD hDS (HTN.out D) j;have cg:=HK4.t.cell hDS;have lX:X<w4.heap.size:=HX4.lt;have lB:B<w4.heap.size:=HK4.b.lt;have lG:TB<w4.heap.size:=HK4.t.lt;have nBw:¬B=w4.heap.size:=oM;have nXw:¬X=w4.heap.size:=oM;have nGw:¬TB=w4.heap.size:=oM;have cg':(w4.alloc (.cells #[.int .i64 (j:Int)] 3)).cell? ⟨TB,D,none⟩=some (vt D):=kc (A0 _ _) cg;have oB:(vt D).ownBlock≠some B:=fun q=>absurd (HK4.tts D hDS B q) (by rw[HK4.tB];omega);have oX:(vt D).ownBlock≠some X:=fun q=>M7 HX4.out (HK4.ts D hDS) q;have v1:w5.cell? ⟨B,2,none⟩=some (.slice (some ⟨TB,0,none⟩) S S):=(gC (a:=⟨B,2,none⟩) (hoth B lB oB)).trans c2;have v2:w5.cell? ⟨X,5,none⟩=some (.int .i64 (D:Int)):=(gC (a:=⟨X,5,none⟩) (hoth X lX oX)).trans x5;have nBG:¬B=TB:=Am HK4.tB HK4.tT dE;have v3:(w5.setCell ⟨TB,D,none⟩ (.slice (some ⟨g,0,none⟩) ((s.tl D).length+1) cap)).cell? ⟨B,2,none⟩=some (.slice (some ⟨TB,0,none⟩) S S):=(gC (a:=⟨B,2,none⟩) (gE nBG)).trans v1;have v4:(w5.setCell ⟨TB,D,none⟩ (.slice (some ⟨g,0,none⟩) ((s.tl D).length+1) cap)).cell? ⟨X,5,none⟩=some (.int .i64 (D:Int)):=(gC (a:=⟨X,5,none⟩) (gE (fun q=>nT q.symm))).trans v2;have HX6:Hid ((w5.setCell ⟨TB,D,none⟩ (.slice (some ⟨g,0,none⟩) ((s.tl D).length+1) cap)).rowIs X 40 7 (UX op d a b e D z)):=(HX4.of_block (hoth X lX oX)).of_block (gE (fun q=>nT q.symm));have HB6:Hid (Below w.heap.size w (w5.setCell ⟨TB,D,none⟩ (.slice (some ⟨g,0,none⟩) ((s.tl D).length+1) cap))):=(HBW.trans hb5).setCell HK4.hT _;obtain⟨Mn,hMn⟩:∃k,(s.tl D).length+1=k:=⟨_,rfl⟩
       simp only[hMn]at hr hk5 v3 v4 HX6 HB6;have HR:=A7 hr;have HK6:=A7 hk5;clear hr hk5 hb5 hoth hne hMn lX lB lG;go_cut [7] (fun bv wx=>bv=.pointer (some ⟨X,0,none⟩)/\∃vt' tag',Bz w.heap.size R S M {s with tl:=fun k=>if k=D then s.tl D++[j]else s.tl k} wx B C GB TB AB NB DB vg vt' (.slice none 0 0) tag'/\wx.rowIs X 40 7 (UX op d a b e D z)/\Below w.heap.size w wx)
       case first=>
        refine rG (fun v=>v.cell? ⟨B,2,none⟩=some (.slice (some ⟨TB,0,none⟩) S S)/\v.cell? ⟨X,5,none⟩=some (.int .i64 (D:Int))) fun hJ=>?_;exact Zbg
       case rest=>
        obtain⟨rfl,vt',tag',hk,hx,hb⟩:=hcut;exact Zcp
      .by_cases hop35:op=35
       .have hop:=hop35;have o33:(op==33)=false:=sO;have o34:(op==34)=false:=sO;have o35:(op==35)=true:=by simpa using hop
        have o36:(op==36)=false:=sO;have o37:(op==37)=false:=sO;exact Zau
       .by_cases hop37:op=37
        .have hop:=hop37;have o33:(op==33)=false:=sO;have o34:(op==34)=false:=sO;have o35:(op==35)=false:=sO;have o36:(op==36)=false:=sO;have o37:(op==37)=true:=by simpa using hop
         exact Zau
        .skip
         clear HFIN HPF HPT HSLO HPA;by_cases hop34:op=34\/op=36
         .have HFI:Hid (AX=IQ c.list j/\NX=(j:Int)):=by
           obtain⟨h1,h2⟩:=HBEG.out hop34;exact Zfb
          have HPN:=A7 (HPO.out hsb oM oM AX HFI.1);have o33:(op==33)=false:=sO;have o35:(op==35)=false:=sO;have o37:(op==37)=false:=sO;clear hsb hknown HBEG HOTH HPO;rcases hop34 with hop|hop
          .have o34:(op==34)=true:=by simpa using hop
           clear hop hop35 hop37;exact Zaz
          .have o34:(op==34)=false:=sO;have o36:(op==36)=true:=by simpa using hop
           clear hop hop35 hop37;exact Zaz
         .have HFI:Hid (AX=IQ c.list j/\NX=AX):=by
           obtain⟨h1,h2⟩:=HOTH.out hop34 oM;exact Zfb
          have HPN:=A7 (HPO.out hsb oM oM AX HFI.1);have o33:(op==33)=false:=sO;have o34:(op==34)=false:=sO;have o35:(op==35)=false:=sO;have o36:(op==36)=false:=sO;have o37:(op==37)=false:=sO;clear hsb hknown HBEG HOTH HPO hop34 hop35 hop37;exact Zaz
    .have e9:¬ (j:Int)<(M:Int):=oM;have hjn:j=c.list.length:=by have:=HM.out;omega
     obtain⟨hbj,s,vg,vt,tag,hK,hP⟩:=HJ.out;rw[hjn]at hP;have HE:=A7 (And.intro hK (And.intro hP.all hbj));clear hlt hjn hbj hK hP;go_wp2;refine bodyPost_ret (by simp[results,results28,go_sem, *];try rfl) rfl ?_;first|exact⟨_,rfl,_,_,_,_,_,_,_,_,_,_,_,rfl,HE.1,HE.2.1,HE.2.2⟩|exact⟨_,_,_,_,_,_,_,_,_,_,_,rfl,HE.1,HE.2.1,HE.2.2⟩
theorem kn_a{c:Cd}{f:Fr}{X:List Cl}{i:Ad}(kn:∀r∈Ae i (A4 i.op),QM c f X r.toNat)(h:(A4 i.op).a≠0){x:Cl}(hx:X[i.a.toNat]? =some x)(h0:0<=i.a):x.h=C2 c f i.a:=by
 obtain⟨y,hy,e⟩:=kn i.a (LI h);rw[hx]at hy;cases hy
 rw[e,show((i.a.toNat:Nat):Int)=i.a by omega]
theorem TF{c:Cd}{f:Fr}{r:Int}(h:(Aa c.regs r).kind≠2):(C2 c f r).whole=0:=by
 unfold C2;split
 .rfl
 .rfl
theorem MV{c:Cd}(hg:Good c){r:Int}(h0:0<=r)(h1:r<(c.regs.length:Int))(h3:(Aa c.regs r).kind=3):∃p:Nat,(Aa c.regs r).par=(p:Int)/\p<c.sign.length:=by
 obtain⟨j,rfl⟩:∃j:Nat,r=(j:Int):=⟨r.toNat,oM⟩
 have hr:j<c.regs.length:=oM;rw[Ea hr]at h3 |-;exact Dr (hg.type (gD hr) h3)
theorem YI{c:Cd}{G P:List (List Int)}{f:Fr}{i:Ad}{s:Wk}{X S O X' S' O':List Cl}(hg:Good c)(ok:KK c f)(t:AG c s i=true)(hb:AH i.bits)(fg:F5 c G)(fp:F5 c P)(nd:Dy c f i)(rel:P9 c f X S O)(kn:∀r∈Ae i (A4 i.op),QM c f X r.toNat)(did:Did c G P f i X S O X' S' O'):
 P9 c (D1 c G P f i) X' S' O'/\∀r,(((A4 i.op).d≠0->r≠i.d.toNat)->QM c f X r)->r<c.regs.length->QM c (D1 c G P f i) X' r:=by
 obtain⟨hk,h2,_,_⟩:=Ao t;have hok:KK c (D1 c G P f i):=do_ok hg ok hk hb nd fg fp;rcases did with⟨hd,⟨x,rfl,hx⟩,rfl,rfl⟩|⟨h33,rfl,⟨x,hxa,rfl⟩,rfl⟩|⟨h31,rfl,rfl,x,hxa,rfl⟩|⟨hm,rfl,rfl,rfl⟩
 .have hop:=(Qq hk).1 hd;obtain⟨d0,d1⟩:=Ag (Cx h2) hd;have hso:DT c (D1 c G P f i) i.d.toNat:=V4 hg ok hk nd fun h=>by
   rcases h with h|h
   .exact absurd h hd
   .exact absurd rfl h
  have hh:=Ws hg hok d0 d1 hso;have hsl:(D1 c G P f i).slots=f.slots:=(Fx hk).1 hop.2.1;have hou:(D1 c G P f i).outs=f.outs:=(Fx hk).2 hop.1;refine⟨⟨by rw[List.length_set];exact rel.xl,fun y hy=>?_,by rw[hsl];exact rel.sl,by rw[hsl];exact rel.sz,rel.ol,by rw[hou];exact rel.oo⟩,fun r hr hrl=>?_⟩
  .rcases List.mem_or_eq_of_mem_set hy with e|rfl
   .exact rel.xok y e
   .rw[hx];refine⟨hh.2.1,?_,hh.2.2⟩;show(C2 c (D1 c G P f i) i.d).pats.length<=4096;rw[hh.1];exact hg.width _
  .by_cases e:r=i.d.toNat
   .subst e;have hl:i.d.toNat<X.length:=by rw[rel.xl];omega
    refine⟨x,by rw[List.getElem?_set_self hl],?_⟩;rw[hx,show((i.d.toNat:Nat):Int)=i.d by omega];rfl
   .obtain⟨y,hy,hye⟩:=hr fun _=>e;exact⟨y,by rw[List.getElem?_set_ne (fun q=>e q.symm)];exact hy,by rw[hye,N5 hk r fun _=>e]⟩
 .have hd:¬ (A4 i.op).d≠0:=by rw[h33];decide
  obtain⟨a0,a1,n0,n1,ht,hs⟩:=nd.store h33;have hxh:x.h=C2 c f i.a:=kn_a kn (by rw[h33];decide) hxa a0;have hou:(D1 c G P f i).outs=f.outs:=(Fx hk).2 oM;have hsl:(D1 c G P f i).slots=f.slots.set i.n.toNat (C2 c f i.a):=by rw[CM h33]
  refine⟨⟨rel.xl,rel.xok,by rw[hsl,List.map_set,rel.sl,hxh],fun j hj hkd=>?_,rel.ol,by rw[hou];exact rel.oo⟩,fun r hr _=>?_⟩
  .rw[hsl];by_cases e:j=i.n.toNat
   .subst e;have hl:i.n.toNat<f.slots.length:=by rw[ok.slotsL];exact hj
    rw[List.getElem?_set_self hl,Option.getD_some];refine TF ?_;rw[<-ht];unfold Cw;rw[gB hj];exact hkd
   .rw[List.getElem?_set_ne (fun q=>e q.symm)];exact rel.sz j hj hkd
  .obtain⟨y,hy,hye⟩:=hr fun q=>absurd q hd;exact⟨y,hy,by rw[hye,N5 hk r fun q=>absurd q hd]⟩
 .have hd:¬ (A4 i.op).d≠0:=by rw[h31];decide
  obtain⟨hp,hlen⟩:=nd.out h31;have hxh:x.h=C2 c f i.a:=kn_a kn (by rw[h31];decide) hxa hp.r0;have hxv:x.h=⟨f.vecs i.a.toNat,0⟩:=by
   rw[hxh];unfold C2;rw[if_neg (by rw[hp.kind];decide),if_neg (by rw[hp.kind];decide)]
  have hsl:(D1 c G P f i).slots=f.slots:=(Fx hk).1 oM;obtain⟨p,hpp,hpl⟩:=MV hg hp.r0 hp.r1 hp.kind;have hn0:=hp.n0;have hou:(D1 c G P f i).outs=W7 f.outs p (AI c (p:Int)) i.n.toNat (f.vecs i.a.toNat):=by rw[D7 h31,hpp,Int.toNat_natCast]
  rw[hpp]at hlen hn0;rw[hpp,Int.toNat_natCast];have hnk:i.n.toNat<AI c (p:Int):=by
   unfold AI;rcases hn0 with e|⟨e,e2⟩
   .rw[e];split<;>decide
   .rw[e,if_pos e2];decide
  have hap:AI c (p:Int)<=2:=by unfold AI;split<;>decide
  refine⟨⟨rel.xl,rel.xok,by rw[hsl];exact rel.sl,by rw[hsl];exact rel.sz,by rw[List.length_set];exact rel.ol,fun q n hq hn=>?_⟩,fun r hr _=>?_⟩
  .obtain⟨o,h1,h3,h4,h5⟩:=rel.oo q n hq hn;have hq2:AI c (q:Int)<=2:=by unfold AI;split<;>decide
   rw[hou];by_cases e:2*q+n=2*p+i.n.toNat
   .have eq:q=p:=oM;have en:n=i.n.toNat:=oM;subst eq;have hol:2*q+i.n.toNat<O.length:=by rw[rel.ol];omega
    refine⟨x,by rw[e,List.getElem?_set_self hol],by rw[hxv];exact hlen,by rw[hxv];exact ok.vecs _,fun j hj=>?_⟩;rw[hxv];unfold W7;have hK:0<AI c (q:Int):=oM;have e1:(AI c (q:Int)*j+n)%AI c (q:Int)=n:=by rw[Nat.mul_add_mod,Nat.mod_eq_of_lt hn]
    have e2:(AI c (q:Int)*j+n)/AI c (q:Int)=j:=by rw[Nat.mul_add_div hK,Nat.div_eq_of_lt hn,Nat.add_zero]
    rw[if_pos ⟨rfl,by rw[e1,en],by rw[e2,hlen];exact hj⟩,e2]
   .refine⟨o,by rw[List.getElem?_set_ne (fun q=>e q.symm)];exact h1,h3,h4,fun j hj=>?_⟩;rw[h5 j hj];unfold W7;rw[if_neg];rintro⟨e1,e2,-⟩;subst e1;have e3:(AI c (q:Int)*j+n)%AI c (q:Int)=n:=by rw[Nat.mul_add_mod,Nat.mod_eq_of_lt hn]
    rw[e3]at e2;exact e (by rw[e2])
  .obtain⟨y,hy,hye⟩:=hr fun q=>absurd q hd;exact⟨y,hy,by rw[hye,N5 hk r fun q=>absurd q hd]⟩
 .rw[AM hm];exact⟨rel,fun r hr _=>hr fun q=>absurd hm ((Qq hk).1 q).2.2⟩
def UL(Q:Nat->Prop)(s:Wk)(k:Nat):Prop:=
 (k=0/\∀r∈s.set,Q r)\/(∃pre b rest,s.opens=pre++b::rest/\b.loop=false/\k=(pre.filter fun x=> !x.loop).length+1/\∀r∈s.set.take b.ahead,Q r)
theorem Me{c:Cd}{G P:List (List Int)}{s:Wk}{f:Fr}{k:Nat}{i:Ad}{Q Q':Nat->Prop}(oks:E5 c.regs.length s)(t:AG c s i=true)(sk:UL Q s k)(hdo:k=0->i.op≠34->∀r∈(Aj s i).set,Q' r)(hno:k≠0\/i.op=34->∀r,Q r->Q' r):UL Q' (Aj s i) (AK c G P (f,k) i).2:=by
 obtain⟨hkn,_,hst,_⟩:=Ao t;rcases sk with⟨rfl,hs⟩|⟨pre,b,rest,ho,hbl,rfl,hs⟩
 .by_cases h34:i.op=34
  .rw[Nf h34];by_cases hz:f.whs i.a.toNat=0
   .rw[MP c G P f 0 h34 (.inr hz)];exact .inr ⟨[],⟨false,i.n,s.set.length⟩,s.opens,rfl,rfl,rfl,fun r hr=>hno (.inr h34) r (hs r (List.mem_of_mem_take hr))⟩
   .rw[MQ c G P f (fun e=>hz e.2)];exact .inl ⟨rfl,fun r hr=>hno (.inr h34) r (hs r hr)⟩
  .rw[MQ c G P f (fun e=>h34 e.1)];exact .inl ⟨rfl,hdo rfl h34⟩
 .obtain⟨hah,hpre⟩:=Q7 (by have:=oks.opens;rw[ho]at this;exact this);have hs':∀r∈s.set.take b.ahead,Q' r:=fun r hr=>hno (.inl oM) r (hs r hr);obtain⟨K,hK⟩:=gA ((pre.filter fun x=> !x.loop).length)
  rw[hK];by_cases h34:i.op=34
  .rw[MP c G P f (K+1) h34 (.inl oM),Nf h34];refine .inr ⟨⟨false,i.n,s.set.length⟩::pre,b,rest,by rw[ho];rfl,hbl,?_,hs'⟩;rw[List.filter_cons_of_pos rfl,List.length_cons,hK]
  .by_cases h35:i.op=35
   .rw[VK c G P f K h35,ID (.inl h35)];have hnl:AD s=false:=by
     exact Zft
    unfold AD at hnl;unfold AQ;rw[ho]at hnl |-;cases pre with
    |nil=>
     simp only[List.nil_append]at hnl |-;simp at hK;refine .inl ⟨hK.symm,fun r hr=>hs' r ?_⟩;rw[hbl]at hr;simpa using hr
    |cons p pre=>
     simp only[List.cons_append]at hnl |-;have hp:=hpre p sM;refine .inr ⟨pre,b,rest,rfl,hbl,?_,fun r hr=>hs' r ?_⟩
     .rw[List.filter_cons_of_pos (by rw[hnl];rfl),List.length_cons]at hK;omega
     .rw[hnl]at hr;simp only[Bool.false_eq_true,if_false,List.take_take]at hr;rw[Nat.min_eq_left hp]at hr;exact hr
   .rw[VM c G P f K h34 h35];by_cases h36:i.op=36
    .rw[Ni h36];refine .inr ⟨⟨true,i.n,s.set.length⟩::pre,b,rest,by rw[ho];rfl,hbl,?_,hs'⟩;rw[List.filter_cons_of_neg sM,hK]
    .by_cases h37:i.op=37
     .rw[ID (.inr h37)];have hnl:AD s=true:=by
       unfold Az at hst;rw[if_neg oM,if_neg oM,if_pos h37]at hst;exact hst
      unfold AD at hnl;unfold AQ;rw[ho]at hnl |-;cases pre with
      |nil=>
       simp only[List.nil_append]at hnl;rw[hbl]at hnl;cases hnl
      |cons p pre=>
       simp only[List.cons_append]at hnl |-;refine .inr ⟨pre,b,rest,rfl,hbl,?_,fun r hr=>hs' r ?_⟩
       .rw[List.filter_cons_of_neg (by rw[hnl];decide)]at hK;omega
       .rw[hnl]at hr;simpa using hr
     .rw[Fy h34 h35 h36 h37];obtain⟨h1,h2⟩:=Nn (i:=i) (r:=A4 i.op) hah;exact .inr ⟨pre,b,rest,by rw[h2];exact ho,hbl,by rw[hK],fun r hr=>hs' r (by rw[h1]at hr;exact hr)⟩
structure KV(c:Cd)(G P:List (List Int))(f0:Fr)(j k:Nat)(f:Fr)(s:Wk)(X S O:List Cl):Prop where
 go:UG c G P (f0,0) (c.list.take j)=(f,k)
 ok:KK c f
 oks:E5 c.regs.length s
 sk:Pa c s f k
 tk:AR c s (c.list.drop j)=true
 rel:P9 c f X S O
 kn:UL (QM c f X) s k
theorem KV.taken{c:Cd}{G P:List (List Int)}{f0:Fr}{j k:Nat}{f:Fr}{s:Wk}{X S O:List Cl}(g:KV c G P f0 j k f s X S O)(hj:j<c.list.length):AG c s c.list[j]=true/\AR c (Aj s c.list[j]) (c.list.drop (j+1))=true:=by
 have:=g.tk;rw[List.drop_eq_getElem_cons hj]at this;unfold AR at this;simpa using this
theorem KV.pass{c:Cd}{G P:List (List Int)}{f0:Fr}{j k:Nat}{f:Fr}{s:Wk}{X S O:List Cl}(g:KV c G P f0 j k f s X S O)(hg:Good c)(hbits:∀i∈c.list,AH i.bits)(fg:F5 c G)(fp:F5 c P)(hj:j<c.list.length){k':Nat}(hn:AK c G P (f,k) c.list[j]=(f,k'))(hno:k≠0\/c.list[j].op=34):∃s',KV c G P f0 (j+1) k' f s' X S O:=by
 obtain⟨t1,t2⟩:=g.taken hj;obtain⟨o1,o2⟩:=Rr hg g.oks t1 g.ok (hbits _ (gD hj)) fg fp g.sk;have o3:=Me (G:=G) (P:=P) (f:=f) (Q':=QM c f X) g.oks t1 g.kn (fun e1 e2=>by rcases hno with h|h;exact absurd e1 h;exact absurd h e2) (fun _ _ h=>h);rw[hn]at o1 o2 o3;exact⟨Aj s c.list[j],by rw[NQ c G P _ _ hj,g.go];exact hn,o1,g.oks.step t1,o2,t2,g.rel,o3⟩
theorem KV.need{c:Cd}{G P:List (List Int)}{f0:Fr}{j:Nat}{f:Fr}{s:Wk}{X S O:List Cl}(g:KV c G P f0 j 0 f s X S O)(hj:j<c.list.length):Dy c f c.list[j]/\(∀r∈Ae c.list[j] (A4 c.list[j].op),QM c f X r.toNat):=by
 obtain⟨t1,t2⟩:=g.taken hj;have h1:∀r∈s.set,DT c f r:=by
  rcases g.sk with⟨_,h⟩|⟨pre,b,rest,_,_,h,_⟩
  .exact h
  .omega
 have h2:∀r∈s.set,QM c f X r:=by
  rcases g.kn with⟨_,h⟩|⟨pre,b,rest,_,_,h,_⟩
  .exact h
  .omega
 exact⟨Rq t1 h1,fun r hr=>h2 _ (Ok (Ao t1).2.2.2 hr)⟩
theorem KV.did{c:Cd}{G P:List (List Int)}{f0:Fr}{j:Nat}{f:Fr}{s:Wk}{X S O X' S' O':List Cl}(g:KV c G P f0 j 0 f s X S O)(hg:Good c)(hbits:∀i∈c.list,AH i.bits)(fg:F5 c G)(fp:F5 c P)(hj:j<c.list.length)(hn:¬ (c.list[j].op=34/\f.whs c.list[j].a.toNat=0))(did:Did c G P f c.list[j] X S O X' S' O'):∃f' s',KV c G P f0 (j+1) 0 f' s' X' S' O':=by
 obtain⟨t1,t2⟩:=g.taken hj;have hbi:=hbits _ (gD hj);obtain⟨o1,o2⟩:=Rr hg g.oks t1 g.ok hbi fg fp g.sk;obtain⟨nd,hr⟩:=g.need hj;obtain⟨r1,r2⟩:=YI hg g.ok t1 hbi fg fp nd g.rel hr did;have hk:∀r∈s.set,QM c f X r:=by
  rcases g.kn with⟨_,h⟩|⟨pre,b,rest,_,_,h,_⟩
  .exact h
  .omega
 have hoks:=g.oks.step t1;have o3:=Me (G:=G) (P:=P) (f:=f) (Q':=QM c (D1 c G P f c.list[j]) X') g.oks t1 g.kn (fun _ h34 r hr=>?_) (fun h r hr=>?_)
 .rw[MQ c G P f hn]at o1 o2 o3;exact⟨D1 c G P f c.list[j],Aj s c.list[j],by rw[NQ c G P _ _ hj,g.go];exact MQ c G P f hn,o1,hoks,o2,t2,r1,o3⟩
 .refine r2 r (fun hne=>hk r ?_) (hoks.lt r hr);by_cases h35:c.list[j].op=35\/c.list[j].op=37
  .rw[ID h35]at hr;exact LH hr
  .by_cases h36:c.list[j].op=36
   .rw[Ni h36]at hr;exact hr
   .rw[Fy h34 oM h36 oM]at hr;rcases Rm hr with h|⟨h,h'⟩
    .exact h
    .exact absurd h' (hne h)
 .rcases h with h|h
  .exact absurd rfl h
  .obtain⟨y,hy,_⟩:=id hr;exact r2 r (fun _=>hr) (by have:=(List.getElem?_eq_some_iff.1 hy).1;rw[g.rel.xl]at this;exact this)
def KU(v:World)(sv:Value)(p:Option Addr)(l:List Int):Prop:=l=[]\/∃b o,p=some ⟨b,o,none⟩/\sv.ownBlock≠some b/\∀j,j<l.length->v.cell? ⟨b,o+j,none⟩=some (.int .u32 (CH l j))
theorem KU.below{v v':World}{sv:Value}{p:Option Addr}{l:List Int}(h:KU v sv p l)(k:Below v.heap.size v v'):KU v' sv p l:=by
 rcases h with rfl|⟨b,o,e,hn,h⟩
 .exact .inl rfl
 .exact .inr ⟨b,o,e,hn,fun j hj=>kc k (h j hj)⟩
theorem KU.grow{V w':World}{p:Option Addr}{n q g c' m:Nat}{pp:Option Addr}{l:List Int}(h:KU V (.slice p n q) pp l)(hk:∀b,b<V.heap.size->(Value.slice p n q).ownBlock≠some b->w'.heap[b]? =V.heap[b]?)(hg:(Value.slice p n q).ownBlock=some g\/V.heap.size<g):KU w' (.slice (some ⟨g,0,none⟩) m c') pp l:=by
 exact Zcs
structure Cu where
 p:Option Addr
 q:Nat
 l:List Int
def cuC(x:Cu):List Value:=[.slice x.p x.l.length x.q]
theorem YE(x:Cu):(cuC x).length=1:=rfl
theorem YF:∀x:Cu,∀u∈cuC x,u.oneCell'=true:=fun x u hu=>by simp[cuC]at hu;subst hu;rfl
theorem Z1:(prog.info? 78).map (fun i=>(i.zero,i.size,i.bytes))=some (some (.slice none 0 0),1,24):=kR
structure OW(B:Nat)(v:World)(sv:Value)(X:List Cu):Prop where
 own:v.ownsRow B 78 1 sv X.length (Au cuC X)
 pats:∀x∈X,KU v sv x.p x.l
 loc:∀x∈X,∀b o s,x.p=some ⟨b,o,s⟩->B<=b
theorem OW.below{B:Nat}{v v':World}{sv:Value}{X:List Cu}(h:OW B v sv X)(k:Below v.heap.size v v'):OW B v' sv X:=⟨Ak h.own k,fun x hx=>(h.pats x hx).below k,h.loc⟩
theorem OW.nil(B:Nat)(v:World):OW B v (.slice none 0 0) []:=⟨World.ownsRow_nil _ _ _ 1,fun x hx=>(by cases hx),fun x hx=>(by cases hx)⟩
theorem OW.push{B:Nat}{V:World}{p:Option Addr}{q:Nat}{X:List Cu}(h:OW B V (.slice p X.length q) X)(hB:B<=V.heap.size)(hX:X.length<=16384)(x:Cu)(hx:KU V (.slice p X.length q) x.p x.l)(hlo:∀b o s,x.p=some ⟨b,o,s⟩->B<=b)(ty:TypeId):
 ∃g c' w',(Builtin.append_ #[46,46] ty #[.slice p X.length q,.slice (some ⟨V.heap.size,0,none⟩) 1 1]).run prog (V.alloc (.cells #[.slice x.p x.l.length x.q] 78))=.ok (.slice (some ⟨g,0,none⟩) (X.length+1) c') w'/\Below B V w'/\OW B w' (.slice (some ⟨g,0,none⟩) (X.length+1) c') (X++[x]):=by
 obtain⟨g,c',w',hr,hb,ho,hk,hg⟩:=G4 (V:=V) underlying46 Z1 rfl dE h.own hB #[.slice x.p x.l.length x.q] rfl (fun u hu=>YF x u hu) mL oM ty;refine⟨g,c',w',hr,hb,⟨?_,fun y hy=>?_,fun y hy=>?_⟩⟩
 .rw[List.length_append,FS];exact ho
 .rcases List.mem_append.1 hy with e|e
  .exact(h.pats y e).grow hk hg
  .simp only[List.mem_singleton]at e;subst e;exact hx.grow hk hg
 .rcases List.mem_append.1 hy with e|e
  .exact h.loc y e
  .simp only[List.mem_singleton]at e;subst e;exact hlo
theorem OW.vs{B:Nat}{v:World}{sv:Value}{X:List Cu}(h:OW B v sv X):F7 (fun b=>b<B) v sv (X.map (·.l)):=by
 obtain⟨p,q,rfl,hr⟩:=Dv YE h.own;have hlo:=EE h.own;refine⟨p,q,by rw[List.length_map],?_⟩;by_cases h0:X=[]
 .exact .inl (by rw[h0];rfl)
 .rcases hr with e|⟨b,o,e,hc⟩
  .exact absurd e h0
  .have hl:=List.length_pos_iff.2 h0;have hb:b<v.heap.size:=by
    have:=(hc 0 hl).at 0 (v:=.slice (X[0]).p (X[0]).l.length (X[0]).q) rfl;exact A8 this
   refine .inr ⟨b,o,e,fun k=>by have:=hlo b o none e;omega,hb,fun i hi=>?_⟩;rw[List.length_map]at hi;have hci:=(hc i hi).at 0 (v:=.slice (X[i]).p (X[i]).l.length (X[i]).q) rfl;rw[Nat.mul_one,Nat.add_zero]at hci;refine⟨_,hci,(X[i]).p,(X[i]).q,sM,?_⟩;rw[List.getElem_map];rcases h.pats _ (gD hi)with e2|⟨b2,o2,e2,-,h2⟩
   .exact .inl e2
   .by_cases h3:(X[i]).l=[]
    .exact .inl h3
    .refine .inr ⟨b2,o2,e2,fun k=>by have:=h.loc _ (gD hi) b2 o2 none e2;omega,A8 (h2 0 (List.length_pos_iff.2 h3)),fun k hk j hj=>?_⟩;have hj0:j=0:=by have:j<1:=hj;omega
     subst hj0;rw[Nat.mul_one,Nat.add_zero,h2 k hk];simp[ptC,CH,gB hk]
def OT(c:Cd)(f:Fr)(p:Nat):List Int:=(List.range (Ru c p)).map (f.outs p)
theorem updP_eq(c:Cd)(f:Fr):Gg c f=(List.range c.sign.length).map (OT c f):=rfl
theorem Ek{α:Type}(g:Nat->α)(n:Nat):(List.range (n+1)).map g=(List.range n).map g++[g n]:=by simp[List.range_succ]
theorem Mv{rs:List Ty}{l n:Int}{m:Ty}(h:Ah rs l n m=true):0<=n:=by
 by_cases hl:l=0
 .unfold Ah at h;rw[if_pos hl]at h;simp only[beq_iff_eq]at h;omega
 .exact(Ag h hl).1
theorem Y4{f:Fr}{i:Ad}{a b d:Int}(ho:21<=i.op/\i.op<=28)(ha:a=f.whs i.a.toNat)(hb:(A4 i.op).b≠0->b=f.whs i.b.toNat)(hc:(A4 i.op).c≠0->d=f.whs i.c.toNat):Df i.op a b d=ER f i:=by
 obtain⟨op,D,A,B,Ec,nn,bt⟩:=i;simp only at ho ha hb hc |-;subst ha;have:op=21\/op=22\/op=23\/op=24\/op=25\/op=26\/op=27\/op=28:=oM;rcases this with rfl|rfl|rfl|rfl|rfl|rfl|rfl|rfl
 .show min (f.whs A.toNat+1) 2147483647=min (f.whs A.toNat) 2147483646+1;omega
 .rw[hb dE];rfl
 .rw[hb dE];rfl
 .rw[hb dE];rfl
 .rfl
 .rw[hb dE,hc dE];rfl
 .rw[hb dE];rfl
 .rw[hb dE];rfl
theorem test_eq(x:Int):BI (x%2147483648 != 0&&decide (x%2147483648<=2139095040))=BI (My x 1065353216 0==1065353216):=by
 congr 1;unfold My;by_cases hn:nan x=true
 .rw[hn];have:2139095040<x%2147483648:=by unfold nan at hn;simpa using hn
  have e:decide (x%2147483648<=2139095040)=false:=sO;rw[e,Bool.and_false,Bool.true_or];decide
 .have hn':nan x=false:=by simpa using hn
  have:¬2139095040<x%2147483648:=by intro h;exact hn (by unfold nan;simpa using h)
  have e:decide (x%2147483648<=2139095040)=true:=sO;rw[hn',e,Bool.and_true];by_cases h0:x%2147483648=0
  .rw[h0];decide
  .have h1:(x%2147483648 != 0)=true:=by simpa using h0
   have h2:(x%2147483648==0)=false:=by simpa using h0
   rw[h1,h2];decide
theorem Yx{c:Cd}{f:Fr}{i:Ad}{xa xb xc:Cl}(he:Bq i.op=true)(ha:xa.h=C2 c f i.a)(hb:(A4 i.op).b≠0->xb.h=C2 c f i.b)(hc:(A4 i.op).c≠0->xc.h=C2 c f i.c):Dn xa.h.pats xb.h.pats xc.h.pats (CD i.op)=Br c f i:=by
 obtain⟨op,D,A,B,Ec,nn,bt⟩:=i;unfold Bq at he;simp only[Bool.and_eq_true,decide_eq_true_eq]at he ha hb hc |-;have:op=3\/op=4\/op=5\/op=6\/op=7\/op=8\/op=9\/op=10\/op=11\/op=12\/op=13\/op=14\/op=15:=oM;rcases this with rfl|rfl|rfl|rfl|rfl|rfl|rfl|rfl|rfl|rfl|rfl|rfl|rfl
 all_goals
  first
   |(rw[ha,hb dE,hc dE];rfl)
   |(rw[ha,hb dE];rfl)
   |(rw[ha];rfl)
theorem Zd{c:Cd}{f:Fr}{X:List Cl}{i:Ad}(kn:∀r∈Ae i (A4 i.op),QM c f X r.toNat){r:Int}(hr:r∈Ae i (A4 i.op))(h0:0<=r){x:Cl}(hx:X[r.toNat]? =some x):x.h=C2 c f r:=by
 obtain⟨y,hy,e⟩:=kn r hr;rw[hx]at hy;cases hy
 rw[e,show((r.toNat:Nat):Int)=r by omega]
theorem mem_b{i:Ad}{r:Rw}(h:r.b≠0):i.b∈Ae i r:=by unfold Ae;simp[h]
theorem mem_c{i:Ad}{r:Rw}(h:r.c≠0):i.c∈Ae i r:=by unfold Ae;simp[h]
theorem rd_1{c:Cd}{f:Fr}{r:Int}(h:(Aa c.regs r).kind=1):C2 c f r=⟨[f.nums r.toNat],0⟩:=by unfold C2;rw[if_pos h]
theorem Qm{c:Cd}{f:Fr}{r:Int}(h:(Aa c.regs r).kind=2):C2 c f r=⟨[],f.whs r.toNat⟩:=by unfold C2;rw[if_neg oM,if_pos h]
theorem rd_3{c:Cd}{f:Fr}{r:Int}(h:(Aa c.regs r).kind=3):C2 c f r=⟨f.vecs r.toNat,0⟩:=by unfold C2;rw[if_neg oM,if_neg oM]
section
variable {c : Cd} {G P : List (List Int)}
theorem GH:(pruneC c).list.length<=c.list.length:=G7 _ _ _ _
theorem RF{K:Nat->Bool}{f:Ad->Ad}{l:List Ad}{k:Nat}(hk:k<l.length)(hK:K k=true):∀j,k<j->j<=l.length->f l[k]∈Bc K f l j:=by
 intro j;induction j with
 |zero=>intro h;omega
 |succ j ih=>
  intro h1 h2;by_cases e:k=j
  .subst e;rw[DI hk hK];simp
  .have:=ih oM oM;show _∈Bc K f l j++_;exact List.mem_append.2 (.inl this)
theorem Ro{K:Nat->Bool}{f:Ad->Ad}{l:List Ad}{i:Ad}:∀j,j<=l.length->i∈Bc K f l j->∃k,∃hk:k<l.length,k<j/\K k=true/\i=f l[k]:=by
 intro j;induction j with
 |zero=>intro _ h;cases h
 |succ j ih=>
  intro hj h;have hjl:j<l.length:=oM;cases hK:K j with
  |true=>
   rw[DI hjl hK]at h;rcases List.mem_append.1 h with e|e
   .obtain⟨k,hk,h1,h2,h3⟩:=ih oM e;exact⟨k,hk,oM,h2,h3⟩
   .simp only[List.mem_singleton]at e;exact⟨j,hjl,oM,hK,e⟩
  |false=>
   rw[Gs hK]at h;obtain⟨k,hk,h1,h2,h3⟩:=ih oM h;exact⟨k,hk,oM,h2,h3⟩
theorem Tx{p:Nat->Bool}:∀N n,n<((List.range N).filter p).length->∃r,r<N/\p r=true/\AA p r=n:=by
 intro N;induction N with
 |zero=>intro n h;simp at h
 |succ N ih=>
  intro n h;rw[List.range_succ,List.filter_append,List.length_append]at h;by_cases q:n<((List.range N).filter p).length
  .obtain⟨r,h1,h2,h3⟩:=ih n q;exact⟨r,oM,h2,h3⟩
  .cases hp:p N with
   |false=>simp[hp]at h;omega
   |true=>
    simp[hp]at h;exact⟨N,oM,hp,by unfold AA;omega⟩
theorem Oh(hc:(Ai c).1=0){n:Nat}(hn:n<(pruneC c).slots.length):∃i∈(pruneC c).list,i.op=32/\i.n=(n:Int):=by
 obtain⟨h1,h2,h3⟩:=Bi.1 hc;have hn':n<((List.range c.slots.length).filter (usS c.list)).length:=by rw[<-Ho];exact hn
 obtain⟨m,m1,m2,m3⟩:=Tx _ _ hn';obtain⟨k,hk,hN,o,e⟩:=EJ.1 m2;have Bl:∀k (hk:k<c.list.length),Nd c.list k->c.list[k].op=32->c.list[k].n.toNat=m->∃i∈(pruneC c).list,i.op=32/\i.n=(n:Int):=fun k hk hN o e=>by
  refine⟨_,RF (f:=CY (AA (usR c.list)) (AA (usS c.list))) hk (BH.2 hN) c.list.length hk (gF _),o,?_⟩;show(CY (AA (usR c.list)) (AA (usS c.list)) c.list[k]).n=_;unfold CY;simp only;rw[if_pos (.inl o),e,m3]
 rcases o with o|o
 .exact Bl k hk hN o e
 .obtain⟨j,hj,n1,o1,e1⟩:=hN.stored hk o;exact Bl j hj n1 o1 (by rw[<-e1];exact e)
theorem MZ(hc:(Ai c).1=0)(hs:Bd c.list):Bd (pruneC c).list:=by
 obtain⟨h1,h2,h3⟩:=Bi.1 hc;have Bl:∀j,j<=c.list.length->∃Y:List Nat,Y.Sublist (KJ (c.list.take j))/\KJ (Bc (ndK c.list) (CY (AA (usR c.list)) (AA (usS c.list))) c.list j)=Y.map (AA (usR c.list))/\∀y∈Y,usR c.list y=true:=by
  intro j;induction j with
  |zero=>intro _;exact⟨[],List.Sublist.refl _,rfl,fun y h=>Yr⟩
  |succ j ih=>
   intro hj;have hjl:j<c.list.length:=oM;obtain⟨Y,y1,y2,y3⟩:=ih oM;rw[List.take_succ_eq_append_getElem hjl,Cn];cases hK:ndK c.list j with
   |false=>
    rw[Gs hK];exact⟨Y,y1.trans (List.sublist_append_left _ _),y2,y3⟩
   |true=>
    rw[DI hjl hK,Cn,y2];have hop:Af (CY (AA (usR c.list)) (AA (usS c.list)) c.list[j])=Af c.list[j]:=rfl;by_cases q:Af c.list[j]=true
    .refine⟨Y++[c.list[j].d.toNat],?_,?_,?_⟩
     .have e:KJ [c.list[j]]=[c.list[j].d.toNat]:=by unfold KJ;simp[q]
      rw[e];exact List.Sublist.append y1 (List.Sublist.refl _)
     .rw[List.map_append];congr 1;unfold KJ;simp only[List.filter_cons,hop,q,if_true,List.filter_nil,List.map_cons,List.map_nil];congr 1;have hd:(A4 c.list[j].op).d≠0:=by unfold Af at q;simpa using q
      show(if _ then _ else _:Int).toNat=_;rw[if_neg hd,Int.toNat_natCast]
     .intro y hy;rcases List.mem_append.1 hy with e|e
      .exact y3 y e
      .simp only[List.mem_singleton]at e;rw[e];exact CC.2 ⟨j,hjl,BH.1 hK,q,rfl⟩
    .have q':Af c.list[j]=false:=by simpa using q
     refine⟨Y,y1.trans (List.sublist_append_left _ _),?_,y3⟩;have e:KJ [CY (AA (usR c.list)) (AA (usS c.list)) c.list[j]]=[]:=by unfold KJ;simp[hop,q']
     rw[e,List.append_nil]
 obtain⟨Y,y1,y2,y3⟩:=Bl c.list.length (gF _);rw[List.take_length]at y1;unfold Bd at hs |-;show(KJ (Bc _ _ c.list c.list.length)).Nodup;rw[y2];have hY:Y.Nodup:=List.Nodup.sublist y1 hs;have inj:∀ (Z:List Nat),Z.Nodup->(∀y∈Z,usR c.list y=true)->(Z.map (AA (usR c.list))).Nodup:=by
  intro Z;induction Z with
  |nil=>intro _ _;simp
  |cons a Z ih=>
   intro hn hu;rw[List.map_cons,List.nodup_cons];rw[List.nodup_cons]at hn;refine⟨fun hm=>?_,ih hn.2 (fun y hy=>hu y (by simp[hy]))⟩;obtain⟨b,hb,e⟩:=List.mem_map.1 hm;have:=Mq (hu b Zhs) (hu a sM) e;exact hn.1 (this▸hb)
 exact inj Y hY y3
end
end Go.Proofs.YtnbccaicijcklaaGreat
