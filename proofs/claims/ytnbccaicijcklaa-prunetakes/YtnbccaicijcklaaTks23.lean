import Derived.Test.YtnbccaicijcklaaTks19
import Derived.Deep.DeepCutAuto
import Derived.Test.YtnbccaicijcklaaTks15
import Derived.Test.YtnbccaicijcklaaTks1
import Derived.Test.YtnbccaicijcklaaTks17
import Derived.Test.YtnbccaicijcklaaTks21
import Derived.Test.YtnbccaicijcklaaTks20
import Derived.Test.YtnbccaicijcklaaTks22
namespace Go.Proofs.Ytnbccaicijcklaa
open Go.RowKit Go.Proofs.Try
set_option linter.all false
set_option maxRecDepth 100000
set_option maxHeartbeats 16000000
structure DT where
 sl:Nat->List Nat
 tl:Nat->List Nat
 ar:Nat->Int
 en:Nat->Int
 nd:Nat->Bool
 todo:List Nat
structure Bj(E R S L:Nat)(s:DT)(w:World)(B C GB TB AB NB DB:Nat)(vg vt:Nat->Value)(vd:Value)(tag:Nat->Nat):Prop where
 b:w.rowIs B 77 7 (BV #[.pointer (some ⟨C,0,none⟩),.slice (some ⟨GB,0,none⟩) R R,.slice (some ⟨TB,0,none⟩) S S,.slice (some ⟨AB,0,none⟩) L L,.slice (some ⟨NB,0,none⟩) L L,.slice (some ⟨DB,0,none⟩) L L,vd])
 g:w.rowIs GB 61 R vg
 t:w.rowIs TB 61 S vt
 a:w.rowIs AB 3 L (fun p=>.int .i64 (s.ar p))
 n:w.rowIs NB 3 L (fun p=>.int .i64 (s.en p))
 d:w.rowIs DB 4 L (fun p=>.bool (s.nd p))
 gs:∀r,r<R->w.ownsRow E 3 1 (vg r) (s.sl r).length (AV (s.sl r))
 ts:∀r,r<S->w.ownsRow E 3 1 (vt r) (s.tl r).length (AV (s.tl r))
 td:w.ownsRow E 3 1 vd s.todo.length (AV s.todo)
 hB:E<=B
 hG:E<=GB
 hT:E<=TB
 hA:E<=AB
 hN:E<=NB
 hD:E<=DB
 tB:tag B=1
 tG:tag GB=2
 tT:tag TB=3
 tA:tag AB=4
 tN:tag NB=5
 tD:tag DB=6
 tgs:∀r,r<R->∀q,(vg r).ownBlock=some q->tag q=8+2*r
 tts:∀r,r<S->∀q,(vt r).ownBlock=some q->tag q=9+2*r
 ttd:∀q,vd.ownBlock=some q->tag q=7
section
variable {E R S L : Nat} {s : DT} {V w w' : World} {B C GB TB AB NB DB : Nat} {vg vt : Nat -> Value} {vd : Value} {tag : Nat -> Nat}
theorem Bj.lt(h:Bj E R S L s w B C GB TB AB NB DB vg vt vd tag):E<=w.heap.size:=Nat.le_trans h.hB (Nat.le_of_lt h.b.lt)
theorem Bj.keep(h:Bj E R S L s w B C GB TB AB NB DB vg vt vd tag)(k:∀b,b<w.heap.size->w'.heap[b]? =w.heap[b]?):Bj E R S L s w' B C GB TB AB NB DB vg vt vd tag:=
 {h with
  b:=h.b.of_block (k _ h.b.lt)
  g:=h.g.of_block (k _ h.g.lt)
  t:=h.t.of_block (k _ h.t.lt)
  a:=h.a.of_block (k _ h.a.lt)
  n:=h.n.of_block (k _ h.n.lt)
  d:=h.d.of_block (k _ h.d.lt)
  gs:=fun r hr=>A7 (h.gs r hr) fun q hq=>k q ((h.gs r hr).lt q hq).2
  ts:=fun r hr=>A7 (h.ts r hr) fun q hq=>k q ((h.ts r hr).lt q hq).2
  td:=A7 h.td fun q hq=>k q (h.td.lt q hq).2}
theorem Bj.below(h:Bj E R S L s w B C GB TB AB NB DB vg vt vd tag)(k:Below w.heap.size w w'):Bj E R S L s w' B C GB TB AB NB DB vg vt vd tag:=h.keep k.block
theorem Bj.b0(h:Bj E R S L s w B C GB TB AB NB DB vg vt vd tag):w.cell? ⟨B,0,none⟩=some (.pointer (some ⟨C,0,none⟩)):=h.b.cell (i:=0) dE
theorem Bj.b1(h:Bj E R S L s w B C GB TB AB NB DB vg vt vd tag):w.cell? ⟨B,1,none⟩=some (.slice (some ⟨GB,0,none⟩) R R):=h.b.cell (i:=1) dE
theorem Bj.b2(h:Bj E R S L s w B C GB TB AB NB DB vg vt vd tag):w.cell? ⟨B,2,none⟩=some (.slice (some ⟨TB,0,none⟩) S S):=h.b.cell (i:=2) dE
theorem Bj.b3(h:Bj E R S L s w B C GB TB AB NB DB vg vt vd tag):w.cell? ⟨B,3,none⟩=some (.slice (some ⟨AB,0,none⟩) L L):=h.b.cell (i:=3) dE
theorem Bj.b4(h:Bj E R S L s w B C GB TB AB NB DB vg vt vd tag):w.cell? ⟨B,4,none⟩=some (.slice (some ⟨NB,0,none⟩) L L):=h.b.cell (i:=4) dE
theorem Bj.b5(h:Bj E R S L s w B C GB TB AB NB DB vg vt vd tag):w.cell? ⟨B,5,none⟩=some (.slice (some ⟨DB,0,none⟩) L L):=h.b.cell (i:=5) dE
theorem Bj.b6(h:Bj E R S L s w B C GB TB AB NB DB vg vt vd tag):w.cell? ⟨B,6,none⟩=some (vd):=h.b.cell (i:=6) dE
theorem Bj.setNd(h:Bj E R S L s V B C GB TB AB NB DB vg vt vd tag)(p:Nat)(x:Bool):
 Bj E R S L {s with nd:=fun k=>if k=p then x else s.nd k} (V.setCell ⟨DB,p,none⟩ (.bool x)) B C GB TB AB NB DB vg vt vd tag:=by
 have kk:∀b,b≠DB->(V.setCell ⟨DB,p,none⟩ (.bool x)).heap[b]? =V.heap[b]? :=fun b hb=>Below.heap_setCell _ _ _ _ hb;exact{h with
  b:=h.b.of_block (kk _ (Ag h.tB h.tD dE))
  g:=h.g.of_block (kk _ (Ag h.tG h.tD dE))
  t:=h.t.of_block (kk _ (Ag h.tT h.tD dE))
  a:=h.a.of_block (kk _ (Ag h.tA h.tD dE))
  n:=h.n.of_block (kk _ (Ag h.tN h.tD dE))
  d:=(h.d.set p _).congr fun j hj=>by
   show _=(Value.bool (if j=p then x else s.nd j));exact Rc
  gs:=fun r hr=>A7 (h.gs r hr) fun q hq=>kk q (Ag (h.tgs r hr q hq) h.tD oM)
  ts:=fun r hr=>A7 (h.ts r hr) fun q hq=>kk q (Ag (h.tts r hr q hq) h.tD oM)
  td:=A7 h.td fun q hq=>kk q (Ag (h.ttd q hq) h.tD dE)}
theorem Bj.setAr(h:Bj E R S L s V B C GB TB AB NB DB vg vt vd tag)(p:Nat)(x:Int):
 Bj E R S L {s with ar:=fun k=>if k=p then x else s.ar k} (V.setCell ⟨AB,p,none⟩ (.int .i64 x)) B C GB TB AB NB DB vg vt vd tag:=by
 have kk:∀b,b≠AB->(V.setCell ⟨AB,p,none⟩ (.int .i64 x)).heap[b]? =V.heap[b]? :=fun b hb=>Below.heap_setCell _ _ _ _ hb;exact{h with
  b:=h.b.of_block (kk _ (Ag h.tB h.tA dE))
  g:=h.g.of_block (kk _ (Ag h.tG h.tA dE))
  t:=h.t.of_block (kk _ (Ag h.tT h.tA dE))
  n:=h.n.of_block (kk _ (Ag h.tN h.tA dE))
  d:=h.d.of_block (kk _ (Ag h.tD h.tA dE))
  a:=(h.a.set p _).congr fun j hj=>by
   show _=(Value.int .i64 (if j=p then x else s.ar j));exact Rc
  gs:=fun r hr=>A7 (h.gs r hr) fun q hq=>kk q (Ag (h.tgs r hr q hq) h.tA oM)
  ts:=fun r hr=>A7 (h.ts r hr) fun q hq=>kk q (Ag (h.tts r hr q hq) h.tA oM)
  td:=A7 h.td fun q hq=>kk q (Ag (h.ttd q hq) h.tA dE)}
theorem Bj.setEn(h:Bj E R S L s V B C GB TB AB NB DB vg vt vd tag)(p:Nat)(x:Int):
 Bj E R S L {s with en:=fun k=>if k=p then x else s.en k} (V.setCell ⟨NB,p,none⟩ (.int .i64 x)) B C GB TB AB NB DB vg vt vd tag:=by
 have kk:∀b,b≠NB->(V.setCell ⟨NB,p,none⟩ (.int .i64 x)).heap[b]? =V.heap[b]? :=fun b hb=>Below.heap_setCell _ _ _ _ hb;exact{h with
  b:=h.b.of_block (kk _ (Ag h.tB h.tN dE))
  g:=h.g.of_block (kk _ (Ag h.tG h.tN dE))
  t:=h.t.of_block (kk _ (Ag h.tT h.tN dE))
  a:=h.a.of_block (kk _ (Ag h.tA h.tN dE))
  d:=h.d.of_block (kk _ (Ag h.tD h.tN dE))
  n:=(h.n.set p _).congr fun j hj=>by
   show _=(Value.int .i64 (if j=p then x else s.en j));exact Rc
  gs:=fun r hr=>A7 (h.gs r hr) fun q hq=>kk q (Ag (h.tgs r hr q hq) h.tN oM)
  ts:=fun r hr=>A7 (h.ts r hr) fun q hq=>kk q (Ag (h.tts r hr q hq) h.tN oM)
  td:=A7 h.td fun q hq=>kk q (Ag (h.ttd q hq) h.tN dE)}
theorem Bj.setTodo(h:Bj E R S L s V B C GB TB AB NB DB vg vt vd tag){vd':Value}{O:List Nat}(ho:V.ownsRow E 3 1 vd' O.length (AV O))(ht:∀g,vd'.ownBlock=some g->tag g=7):
 Bj E R S L {s with todo:=O} (V.setCell ⟨B,6,none⟩ vd') B C GB TB AB NB DB vg vt vd' tag:=by
 have kk:∀b,b≠B->(V.setCell ⟨B,6,none⟩ vd').heap[b]? =V.heap[b]? :=fun b hb=>Below.heap_setCell _ _ _ _ hb;exact{h with
  b:=(h.b.set 6 vd').congr fun j hj=>by
   have hj7:j=0\/j=1\/j=2\/j=3\/j=4\/j=5\/j=6:=oM;rcases hj7 with rfl|rfl|rfl|rfl|rfl|rfl|rfl<;>rfl
  g:=h.g.of_block (kk _ (Ag h.tG h.tB dE))
  t:=h.t.of_block (kk _ (Ag h.tT h.tB dE))
  a:=h.a.of_block (kk _ (Ag h.tA h.tB dE))
  n:=h.n.of_block (kk _ (Ag h.tN h.tB dE))
  d:=h.d.of_block (kk _ (Ag h.tD h.tB dE))
  gs:=fun r hr=>A7 (h.gs r hr) fun q hq=>kk q (Ag (h.tgs r hr q hq) h.tB oM)
  ts:=fun r hr=>A7 (h.ts r hr) fun q hq=>kk q (Ag (h.tts r hr q hq) h.tB oM)
  td:=A7 ho fun q hq=>kk q (Ag (ht q hq) h.tB dE)
  ttd:=ht}
theorem Bj.growTodo(h:Bj E R S L s V B C GB TB AB NB DB vg vt vd tag){w3:World}{g cap:Nat}{O:List Nat}(hg:V.grownBy w3 vd.ownBlock)(hat:vd.ownBlock=some g\/g=V.heap.size)(hown:w3.ownsRow E 3 1 (.slice (some ⟨g,0,none⟩) O.length cap) O.length (AV O)):
 Bj E R S L {s with todo:=O} (w3.setCell ⟨B,6,none⟩ (.slice (some ⟨g,0,none⟩) O.length cap)) B C GB TB AB NB DB vg vt (.slice (some ⟨g,0,none⟩) O.length cap) (fun b=>if b=g then 7 else tag b)/\w3.cell? ⟨B,6,none⟩=some vd/\w3.frozen? ⟨B,6,none⟩=false/\Below E V w3:=by
 have hne:∀b k,b<V.heap.size->tag b=k->k≠7->b≠g:=fun b k hb hk hm=>DY h.ttd hat hk hm hb;have k3:∀b k,b<V.heap.size->tag b=k->k≠7->w3.heap[b]? =V.heap[b]? :=fun b k hb hk hm=>hg.block b hb fun e=>hm (by rw[←hk];exact h.ttd b e.symm);have kk:∀b k,b<V.heap.size->tag b=k->k≠7->k≠1->(w3.setCell ⟨B,6,none⟩ (.slice (some ⟨g,0,none⟩) O.length cap)).heap[b]? =V.heap[b]? :=fun b k hb hk hm h1=>(Below.heap_setCell _ _ _ _ (Ag hk h.tB h1)).trans (k3 b k hb hk hm);have hB3:=h.b.of_block (k3 B 1 h.b.lt h.tB dE);refine⟨?_,hB3.cell (i:=6) dE,hB3.frozen 6,(Below.refl E V).grown hg h.lt (fun q e=>(h.td.lt q e).1)⟩;exact{h with
  b:=(hB3.set 6 _).congr fun j hj=>by
   have hj7:j=0\/j=1\/j=2\/j=3\/j=4\/j=5\/j=6:=oM;rcases hj7 with rfl|rfl|rfl|rfl|rfl|rfl|rfl<;>rfl
  g:=h.g.of_block (kk _ 2 h.g.lt h.tG dE dE)
  t:=h.t.of_block (kk _ 3 h.t.lt h.tT dE dE)
  a:=h.a.of_block (kk _ 4 h.a.lt h.tA dE dE)
  n:=h.n.of_block (kk _ 5 h.n.lt h.tN dE dE)
  d:=h.d.of_block (kk _ 6 h.d.lt h.tD dE dE)
  gs:=fun r hr=>A7 (h.gs r hr) fun q hq=>kk q (8+2*r) ((h.gs r hr).lt q hq).2 (h.tgs r hr q hq) oM oM
  ts:=fun r hr=>A7 (h.ts r hr) fun q hq=>kk q (9+2*r) ((h.ts r hr).lt q hq).2 (h.tts r hr q hq) oM oM
  td:=A7 hown fun q hq=>Below.heap_setCell _ _ _ _ (by have e:g=q:=Option.some.inj hq;show q≠B;rw[←e];exact(hne B 1 h.b.lt h.tB dE).symm)
  tB:=by show(if B=g then _ else _)=_;rw[if_neg (hne _ 1 h.b.lt h.tB dE)];exact h.tB
  tG:=by show(if GB=g then _ else _)=_;rw[if_neg (hne _ 2 h.g.lt h.tG dE)];exact h.tG
  tT:=by show(if TB=g then _ else _)=_;rw[if_neg (hne _ 3 h.t.lt h.tT dE)];exact h.tT
  tA:=by show(if AB=g then _ else _)=_;rw[if_neg (hne _ 4 h.a.lt h.tA dE)];exact h.tA
  tN:=by show(if NB=g then _ else _)=_;rw[if_neg (hne _ 5 h.n.lt h.tN dE)];exact h.tN
  tD:=by show(if DB=g then _ else _)=_;rw[if_neg (hne _ 6 h.d.lt h.tD dE)];exact h.tD
  tgs:=fun r hr q hq=>by show(if q=g then _ else _)=_;rw[if_neg (hne _ (8+2*r) ((h.gs r hr).lt q hq).2 (h.tgs r hr q hq) oM)];exact h.tgs r hr q hq
  tts:=fun r hr q hq=>by show(if q=g then _ else _)=_;rw[if_neg (hne _ (9+2*r) ((h.ts r hr).lt q hq).2 (h.tts r hr q hq) oM)];exact h.tts r hr q hq
  ttd:=fun q hq=>by show(if q=g then _ else _)=_;rw[if_pos (Option.some.inj hq).symm]}
theorem Bj.setSl(h:Bj E R S L s V B C GB TB AB NB DB vg vt vd tag){v':Value}{O:List Nat}{r:Nat}(hr:r<R)(ho:V.ownsRow E 3 1 v' O.length (AV O))(ht:∀g,v'.ownBlock=some g->tag g=8+2*r):
 Bj E R S L {s with sl:=fun k=>if k=r then O else s.sl k} (V.setCell ⟨GB,r,none⟩ v') B C GB TB AB NB DB (fun k=>if k=r then v' else vg k) vt vd tag:=by
 have kk:∀b,b≠GB->(V.setCell ⟨GB,r,none⟩ v').heap[b]? =V.heap[b]? :=fun b hb=>Below.heap_setCell _ _ _ _ hb;exact{h with
  b:=h.b.of_block (kk _ (Ag h.tB h.tG dE))
  t:=h.t.of_block (kk _ (Ag h.tT h.tG dE))
  a:=h.a.of_block (kk _ (Ag h.tA h.tG dE))
  n:=h.n.of_block (kk _ (Ag h.tN h.tG dE))
  d:=h.d.of_block (kk _ (Ag h.tD h.tG dE))
  g:=(h.g.set r v').congr fun j hj=>rfl
  gs:=fun k hk=>by
   by_cases e:k=r
   ·simp only[if_pos e];exact A7 ho fun q hq=>kk q (Ag (ht q hq) h.tG oM)
   ·simp only[if_neg e];exact A7 (h.gs k hk) fun q hq=>kk q (Ag (h.tgs k hk q hq) h.tG oM)
  ts:=fun k hk=>A7 (h.ts k hk) fun q hq=>kk q (Ag (h.tts k hk q hq) h.tG oM)
  td:=A7 h.td fun q hq=>kk q (Ag (h.ttd q hq) h.tG dE)
  tgs:=fun k hk q hq=>by
   by_cases e:k=r
   ·simp only[if_pos e]at hq;rw[e];exact ht q hq
   ·simp only[if_neg e]at hq
    exact h.tgs k hk q hq}
theorem Bj.growSl(h:Bj E R S L s V B C GB TB AB NB DB vg vt vd tag){w3:World}{g cap:Nat}{O:List Nat}{r:Nat}(hr:r<R)(hg:V.grownBy w3 (vg r).ownBlock)(hat:(vg r).ownBlock=some g\/g=V.heap.size)(hown:w3.ownsRow E 3 1 (.slice (some ⟨g,0,none⟩) O.length cap) O.length (AV O)):
 Bj E R S L {s with sl:=fun k=>if k=r then O else s.sl k} (w3.setCell ⟨GB,r,none⟩ (.slice (some ⟨g,0,none⟩) O.length cap)) B C GB TB AB NB DB (fun k=>if k=r then(.slice (some ⟨g,0,none⟩) O.length cap)else vg k) vt vd (fun b=>if b=g then 8+2*r else tag b)/\w3.cell? ⟨GB,r,none⟩=some (vg r)/\w3.frozen? ⟨GB,r,none⟩=false/\Below E V w3:=by
 have hne:∀b k,b<V.heap.size->tag b=k->k≠8+2*r->b≠g:=fun b k hb hk hm=>DY (h.tgs r hr) hat hk hm hb;have k3:∀b k,b<V.heap.size->tag b=k->k≠8+2*r->w3.heap[b]? =V.heap[b]? :=fun b k hb hk hm=>hg.block b hb fun e=>hm (by rw[←hk];exact h.tgs r hr b e.symm);have kk:∀b k,b<V.heap.size->tag b=k->k≠8+2*r->k≠2->(w3.setCell ⟨GB,r,none⟩ (.slice (some ⟨g,0,none⟩) O.length cap)).heap[b]? =V.heap[b]? :=fun b k hb hk hm h1=>(Below.heap_setCell _ _ _ _ (Ag hk h.tG h1)).trans (k3 b k hb hk hm);have hB3:=h.g.of_block (k3 GB 2 h.g.lt h.tG oM);refine⟨?_,hB3.cell hr,hB3.frozen r,(Below.refl E V).grown hg h.lt (fun q e=>((h.gs r hr).lt q e).1)⟩;exact{h with
  b:=h.b.of_block (kk _ 1 h.b.lt h.tB oM dE)
  t:=h.t.of_block (kk _ 3 h.t.lt h.tT oM dE)
  a:=h.a.of_block (kk _ 4 h.a.lt h.tA oM dE)
  n:=h.n.of_block (kk _ 5 h.n.lt h.tN oM dE)
  d:=h.d.of_block (kk _ 6 h.d.lt h.tD oM dE)
  g:=(hB3.set r _).congr fun j hj=>rfl
  gs:=fun k hk=>by
   by_cases e:k=r
   ·simp only[if_pos e];exact A7 hown fun q hq=>Below.heap_setCell _ _ _ _ (by have e:g=q:=Option.some.inj hq;show q≠GB;rw[←e];exact(hne GB 2 h.g.lt h.tG oM).symm)
   ·simp only[if_neg e];exact A7 (h.gs k hk) fun q hq=>kk q (8+2*k) ((h.gs k hk).lt q hq).2 (h.tgs k hk q hq) oM oM
  ts:=fun k hk=>A7 (h.ts k hk) fun q hq=>kk q (9+2*k) ((h.ts k hk).lt q hq).2 (h.tts k hk q hq) oM oM
  td:=A7 h.td fun q hq=>kk q 7 (h.td.lt q hq).2 (h.ttd q hq) oM dE
  tB:=by show(if B=g then _ else _)=_;rw[if_neg (hne _ 1 h.b.lt h.tB oM)];exact h.tB
  tG:=by show(if GB=g then _ else _)=_;rw[if_neg (hne _ 2 h.g.lt h.tG oM)];exact h.tG
  tT:=by show(if TB=g then _ else _)=_;rw[if_neg (hne _ 3 h.t.lt h.tT oM)];exact h.tT
  tA:=by show(if AB=g then _ else _)=_;rw[if_neg (hne _ 4 h.a.lt h.tA oM)];exact h.tA
  tN:=by show(if NB=g then _ else _)=_;rw[if_neg (hne _ 5 h.n.lt h.tN oM)];exact h.tN
  tD:=by show(if DB=g then _ else _)=_;rw[if_neg (hne _ 6 h.d.lt h.tD oM)];exact h.tD
  tgs:=fun k hk q hq=>by
   show(if q=g then _ else _)=_;by_cases e:k=r
   ·simp only[if_pos e]at hq;rw[if_pos (Option.some.inj hq).symm,e]
   ·simp only[if_neg e]at hq;rw[if_neg (hne _ (8+2*k) ((h.gs k hk).lt q hq).2 (h.tgs k hk q hq) oM)];exact h.tgs k hk q hq
  tts:=fun k hk q hq=>by show(if q=g then _ else _)=_;rw[if_neg (hne _ (9+2*k) ((h.ts k hk).lt q hq).2 (h.tts k hk q hq) oM)];exact h.tts k hk q hq
  ttd:=fun q hq=>by show(if q=g then _ else _)=_;rw[if_neg (hne _ 7 (h.td.lt q hq).2 (h.ttd q hq) oM)];exact h.ttd q hq}
theorem Bj.setTl(h:Bj E R S L s V B C GB TB AB NB DB vg vt vd tag){v':Value}{O:List Nat}{r:Nat}(hr:r<S)(ho:V.ownsRow E 3 1 v' O.length (AV O))(ht:∀g,v'.ownBlock=some g->tag g=9+2*r):
 Bj E R S L {s with tl:=fun k=>if k=r then O else s.tl k} (V.setCell ⟨TB,r,none⟩ v') B C GB TB AB NB DB vg (fun k=>if k=r then v' else vt k) vd tag:=by
 have kk:∀b,b≠TB->(V.setCell ⟨TB,r,none⟩ v').heap[b]? =V.heap[b]? :=fun b hb=>Below.heap_setCell _ _ _ _ hb;exact{h with
  b:=h.b.of_block (kk _ (Ag h.tB h.tT dE))
  g:=h.g.of_block (kk _ (Ag h.tG h.tT dE))
  a:=h.a.of_block (kk _ (Ag h.tA h.tT dE))
  n:=h.n.of_block (kk _ (Ag h.tN h.tT dE))
  d:=h.d.of_block (kk _ (Ag h.tD h.tT dE))
  t:=(h.t.set r v').congr fun j hj=>rfl
  ts:=fun k hk=>by
   by_cases e:k=r
   ·simp only[if_pos e];exact A7 ho fun q hq=>kk q (Ag (ht q hq) h.tT oM)
   ·simp only[if_neg e];exact A7 (h.ts k hk) fun q hq=>kk q (Ag (h.tts k hk q hq) h.tT oM)
  gs:=fun k hk=>A7 (h.gs k hk) fun q hq=>kk q (Ag (h.tgs k hk q hq) h.tT oM)
  td:=A7 h.td fun q hq=>kk q (Ag (h.ttd q hq) h.tT dE)
  tts:=fun k hk q hq=>by
   by_cases e:k=r
   ·simp only[if_pos e]at hq;rw[e];exact ht q hq
   ·simp only[if_neg e]at hq
    exact h.tts k hk q hq}
theorem Bj.growTl(h:Bj E R S L s V B C GB TB AB NB DB vg vt vd tag){w3:World}{g cap:Nat}{O:List Nat}{r:Nat}(hr:r<S)(hg:V.grownBy w3 (vt r).ownBlock)(hat:(vt r).ownBlock=some g\/g=V.heap.size)(hown:w3.ownsRow E 3 1 (.slice (some ⟨g,0,none⟩) O.length cap) O.length (AV O)):
 Bj E R S L {s with tl:=fun k=>if k=r then O else s.tl k} (w3.setCell ⟨TB,r,none⟩ (.slice (some ⟨g,0,none⟩) O.length cap)) B C GB TB AB NB DB vg (fun k=>if k=r then(.slice (some ⟨g,0,none⟩) O.length cap)else vt k) vd (fun b=>if b=g then 9+2*r else tag b)/\w3.cell? ⟨TB,r,none⟩=some (vt r)/\w3.frozen? ⟨TB,r,none⟩=false/\Below E V w3:=by
 have hne:∀b k,b<V.heap.size->tag b=k->k≠9+2*r->b≠g:=fun b k hb hk hm=>DY (h.tts r hr) hat hk hm hb;have k3:∀b k,b<V.heap.size->tag b=k->k≠9+2*r->w3.heap[b]? =V.heap[b]? :=fun b k hb hk hm=>hg.block b hb fun e=>hm (by rw[←hk];exact h.tts r hr b e.symm);have kk:∀b k,b<V.heap.size->tag b=k->k≠9+2*r->k≠3->(w3.setCell ⟨TB,r,none⟩ (.slice (some ⟨g,0,none⟩) O.length cap)).heap[b]? =V.heap[b]? :=fun b k hb hk hm h1=>(Below.heap_setCell _ _ _ _ (Ag hk h.tT h1)).trans (k3 b k hb hk hm);have hB3:=h.t.of_block (k3 TB 3 h.t.lt h.tT oM);refine⟨?_,hB3.cell hr,hB3.frozen r,(Below.refl E V).grown hg h.lt (fun q e=>((h.ts r hr).lt q e).1)⟩;exact{h with
  b:=h.b.of_block (kk _ 1 h.b.lt h.tB oM dE)
  g:=h.g.of_block (kk _ 2 h.g.lt h.tG oM dE)
  a:=h.a.of_block (kk _ 4 h.a.lt h.tA oM dE)
  n:=h.n.of_block (kk _ 5 h.n.lt h.tN oM dE)
  d:=h.d.of_block (kk _ 6 h.d.lt h.tD oM dE)
  t:=(hB3.set r _).congr fun j hj=>rfl
  ts:=fun k hk=>by
   by_cases e:k=r
   ·simp only[if_pos e];exact A7 hown fun q hq=>Below.heap_setCell _ _ _ _ (by have e:g=q:=Option.some.inj hq;show q≠TB;rw[←e];exact(hne TB 3 h.t.lt h.tT oM).symm)
   ·simp only[if_neg e];exact A7 (h.ts k hk) fun q hq=>kk q (9+2*k) ((h.ts k hk).lt q hq).2 (h.tts k hk q hq) oM oM
  gs:=fun k hk=>A7 (h.gs k hk) fun q hq=>kk q (8+2*k) ((h.gs k hk).lt q hq).2 (h.tgs k hk q hq) oM oM
  td:=A7 h.td fun q hq=>kk q 7 (h.td.lt q hq).2 (h.ttd q hq) oM dE
  tB:=by show(if B=g then _ else _)=_;rw[if_neg (hne _ 1 h.b.lt h.tB oM)];exact h.tB
  tG:=by show(if GB=g then _ else _)=_;rw[if_neg (hne _ 2 h.g.lt h.tG oM)];exact h.tG
  tT:=by show(if TB=g then _ else _)=_;rw[if_neg (hne _ 3 h.t.lt h.tT oM)];exact h.tT
  tA:=by show(if AB=g then _ else _)=_;rw[if_neg (hne _ 4 h.a.lt h.tA oM)];exact h.tA
  tN:=by show(if NB=g then _ else _)=_;rw[if_neg (hne _ 5 h.n.lt h.tN oM)];exact h.tN
  tD:=by show(if DB=g then _ else _)=_;rw[if_neg (hne _ 6 h.d.lt h.tD oM)];exact h.tD
  tts:=fun k hk q hq=>by
   show(if q=g then _ else _)=_;by_cases e:k=r
   ·simp only[if_pos e]at hq;rw[if_pos (Option.some.inj hq).symm,e]
   ·simp only[if_neg e]at hq;rw[if_neg (hne _ (9+2*k) ((h.ts k hk).lt q hq).2 (h.tts k hk q hq) oM)];exact h.tts k hk q hq
  tgs:=fun k hk q hq=>by show(if q=g then _ else _)=_;rw[if_neg (hne _ (8+2*k) ((h.gs k hk).lt q hq).2 (h.tgs k hk q hq) oM)];exact h.tgs k hk q hq
  ttd:=fun q hq=>by show(if q=g then _ else _)=_;rw[if_neg (hne _ 7 (h.td.lt q hq).2 (h.ttd q hq) oM)];exact h.ttd q hq}
end
section
variable {E R S L : Nat} {s : DT} {V w w' : World} {B C GB TB AB NB DB : Nat} {vg vt : Nat -> Value} {vd : Value} {tag : Nat -> Nat}
theorem Bj.appTodo(h:Bj E R S L s V B C GB TB AB NB DB vg vt vd tag)(hl:s.todo.length<=1000000)(x:Nat):
 ∃g cap w3,(Builtin.append_ #[61,61] 61 #[vd,.slice (some ⟨V.heap.size,0,none⟩) 1 1]).run prog (V.alloc (.cells #[.int .i64 (x:Int)] 3))=.ok (.slice (some ⟨g,0,none⟩) (s.todo.length+1) cap) w3/\Bj E R S L {s with todo:=s.todo++[x]} (w3.setCell ⟨B,6,none⟩ (.slice (some ⟨g,0,none⟩) (s.todo.length+1) cap)) B C GB TB AB NB DB vg vt (.slice (some ⟨g,0,none⟩) (s.todo.length+1) cap) (fun b=>if b=g then 7 else tag b)/\w3.cell? ⟨B,6,none⟩=some vd/\w3.frozen? ⟨B,6,none⟩=false/\Below E V w3/\(∀b,b<V.heap.size->vd.ownBlock≠some b->w3.heap[b]? =V.heap[b]?)/\∀b,b<V.heap.size->tag b≠7->b≠g:=by
 obtain⟨i0,hi0,hz0,hz1,hz2⟩:=info_parts BJ;have hb0:Below V.heap.size V (V.alloc (.cells #[.int .i64 (x:Int)] 3)):=A0 _ _;have h0:=h.below hb0;have hsz:(V.alloc (.cells #[.int .i64 (x:Int)] 3)).heap.size=V.heap.size+1:=by show(V.alloc (.cells #[.int .i64 (x:Int)] 3)).heap.size=_;simp
 obtain⟨g,cap,w3,hr',hown,hgrow,hat,hlt⟩:=run_append_lies (P:=prog) (V.alloc (.cells #[.int .i64 (x:Int)] 3)) 61 61 E 3 i0 _ 1 8 underlying61 hi0 hz0 hz1 hz2 rfl dE vd s.todo.length (AV s.todo) h0.td ⟨V.heap.size,0,none⟩ 1 1 ([Value.int .i64 (x:Int)]) rfl
  (World.news_of_block (cs:=#[.int .i64 (x:Int)]) (t:=3) (fr:=(0,0)) (heap_alloc_new V _)) Ro dE mL oM h0.lt _ rfl
 have hn:(s.todo++[x]).length=s.todo.length+1:=sM;have ho:w3.ownsRow E 3 1 (.slice (some ⟨g,0,none⟩) (s.todo++[x]).length cap) (s.todo++[x]).length (AV (s.todo++[x])):=by
  rw[hn];have e9:AV (s.todo++[x])=(AV s.todo)++([Value.int .i64 (x:Int)]):=by simp[AV,PP]
  rw[e9];exact hown
 obtain⟨k1,k2,k3,k4⟩:=h0.growTodo hgrow hat ho;rw[hn]at k1;exact⟨g,cap,w3,hr',k1,k2,k3,(hb0.mono h.lt).trans k4,fun b hb hne=>(hgrow.block b oM (fun e=>hne e.symm)).trans (hb0.block b hb),fun b hb hk=>DY h0.ttd hat rfl hk oM⟩
theorem Bj.appSlD(h:Bj E R S L s V B C GB TB AB NB DB vg vt vd tag){r:Nat}(hr:r<R)(hl:(s.sl r).length<=1000000)(x:Nat):
 ∃g cap w3,(Builtin.append_ #[61,61] 61 #[(vg r),.slice (some ⟨V.heap.size,0,none⟩) 1 1]).run prog (V.alloc (.cells #[.int .i64 (x:Int)] 3)).drew=.ok (.slice (some ⟨g,0,none⟩) ((s.sl r).length+1) cap) w3/\Bj E R S L {s with sl:=fun k=>if k=r then s.sl r++[x]else s.sl k} (w3.setCell ⟨GB,r,none⟩ (.slice (some ⟨g,0,none⟩) ((s.sl r).length+1) cap)) B C GB TB AB NB DB (fun k=>if k=r then(.slice (some ⟨g,0,none⟩) ((s.sl r).length+1) cap)else vg k) vt vd (fun b=>if b=g then 8+2*r else tag b)/\w3.cell? ⟨GB,r,none⟩=some (vg r)/\w3.frozen? ⟨GB,r,none⟩=false/\Below E V w3/\(∀b,b<V.heap.size->(vg r).ownBlock≠some b->w3.heap[b]? =V.heap[b]?)/\∀b,b<V.heap.size->tag b≠8+2*r->b≠g:=by
 obtain⟨i0,hi0,hz0,hz1,hz2⟩:=info_parts BJ;have hb0:Below V.heap.size V (V.alloc (.cells #[.int .i64 (x:Int)] 3)).drew:=bel (A0 _ _) (AY _);have h0:=h.below hb0;have hsz:(V.alloc (.cells #[.int .i64 (x:Int)] 3)).drew.heap.size=V.heap.size+1:=by show(V.alloc (.cells #[.int .i64 (x:Int)] 3)).heap.size=_;simp
 obtain⟨g,cap,w3,hr',hown,hgrow,hat,hlt⟩:=run_append_lies (P:=prog) (V.alloc (.cells #[.int .i64 (x:Int)] 3)).drew 61 61 E 3 i0 _ 1 8 underlying61 hi0 hz0 hz1 hz2 rfl dE (vg r) (s.sl r).length (AV (s.sl r)) (h0.gs r hr) ⟨V.heap.size,0,none⟩ 1 1 ([Value.int .i64 (x:Int)]) rfl
  (World.news_of_block (cs:=#[.int .i64 (x:Int)]) (t:=3) (fr:=(0,0)) (heap_alloc_new V _)) Ro dE mL oM h0.lt _ rfl
 have hn:((s.sl r)++[x]).length=(s.sl r).length+1:=sM;have ho:w3.ownsRow E 3 1 (.slice (some ⟨g,0,none⟩) ((s.sl r)++[x]).length cap) ((s.sl r)++[x]).length (AV ((s.sl r)++[x])):=by
  rw[hn];have e9:AV ((s.sl r)++[x])=(AV (s.sl r))++([Value.int .i64 (x:Int)]):=by simp[AV,PP]
  rw[e9];exact hown
 obtain⟨k1,k2,k3,k4⟩:=h0.growSl hr hgrow hat ho;rw[hn]at k1;exact⟨g,cap,w3,hr',k1,k2,k3,(hb0.mono h.lt).trans k4,fun b hb hne=>(hgrow.block b oM (fun e=>hne e.symm)).trans (hb0.block b hb),fun b hb hk=>DY (h0.tgs r hr) hat rfl hk oM⟩
theorem Bj.appTlD(h:Bj E R S L s V B C GB TB AB NB DB vg vt vd tag){r:Nat}(hr:r<S)(hl:(s.tl r).length<=1000000)(x:Nat):
 ∃g cap w3,(Builtin.append_ #[61,61] 61 #[(vt r),.slice (some ⟨V.heap.size,0,none⟩) 1 1]).run prog (V.alloc (.cells #[.int .i64 (x:Int)] 3)).drew=.ok (.slice (some ⟨g,0,none⟩) ((s.tl r).length+1) cap) w3/\Bj E R S L {s with tl:=fun k=>if k=r then s.tl r++[x]else s.tl k} (w3.setCell ⟨TB,r,none⟩ (.slice (some ⟨g,0,none⟩) ((s.tl r).length+1) cap)) B C GB TB AB NB DB vg (fun k=>if k=r then(.slice (some ⟨g,0,none⟩) ((s.tl r).length+1) cap)else vt k) vd (fun b=>if b=g then 9+2*r else tag b)/\w3.cell? ⟨TB,r,none⟩=some (vt r)/\w3.frozen? ⟨TB,r,none⟩=false/\Below E V w3/\(∀b,b<V.heap.size->(vt r).ownBlock≠some b->w3.heap[b]? =V.heap[b]?)/\∀b,b<V.heap.size->tag b≠9+2*r->b≠g:=by
 obtain⟨i0,hi0,hz0,hz1,hz2⟩:=info_parts BJ;have hb0:Below V.heap.size V (V.alloc (.cells #[.int .i64 (x:Int)] 3)).drew:=bel (A0 _ _) (AY _);have h0:=h.below hb0;have hsz:(V.alloc (.cells #[.int .i64 (x:Int)] 3)).drew.heap.size=V.heap.size+1:=by show(V.alloc (.cells #[.int .i64 (x:Int)] 3)).heap.size=_;simp
 obtain⟨g,cap,w3,hr',hown,hgrow,hat,hlt⟩:=run_append_lies (P:=prog) (V.alloc (.cells #[.int .i64 (x:Int)] 3)).drew 61 61 E 3 i0 _ 1 8 underlying61 hi0 hz0 hz1 hz2 rfl dE (vt r) (s.tl r).length (AV (s.tl r)) (h0.ts r hr) ⟨V.heap.size,0,none⟩ 1 1 ([Value.int .i64 (x:Int)]) rfl
  (World.news_of_block (cs:=#[.int .i64 (x:Int)]) (t:=3) (fr:=(0,0)) (heap_alloc_new V _)) Ro dE mL oM h0.lt _ rfl
 have hn:((s.tl r)++[x]).length=(s.tl r).length+1:=sM;have ho:w3.ownsRow E 3 1 (.slice (some ⟨g,0,none⟩) ((s.tl r)++[x]).length cap) ((s.tl r)++[x]).length (AV ((s.tl r)++[x])):=by
  rw[hn];have e9:AV ((s.tl r)++[x])=(AV (s.tl r))++([Value.int .i64 (x:Int)]):=by simp[AV,PP]
  rw[e9];exact hown
 obtain⟨k1,k2,k3,k4⟩:=h0.growTl hr hgrow hat ho;rw[hn]at k1;exact⟨g,cap,w3,hr',k1,k2,k3,(hb0.mono h.lt).trans k4,fun b hb hne=>(hgrow.block b oM (fun e=>hne e.symm)).trans (hb0.block b hb),fun b hb hk=>DY (h0.tts r hr) hat rfl hk oM⟩
end
def By(s:DT)(p:Nat):DT:=if s.nd p=true then s else{s with nd:=fun x=>if x=p then true else s.nd x,todo:=s.todo++[p]}
def B6(s:DT)(ps:List Nat):DT:=ps.foldl By s
theorem Ij(s:DT){ps:List Nat}{j:Nat}(hj:j<ps.length):B6 s (ps.take (j+1))=By (B6 s (ps.take j)) ps[j]:=by
 unfold B6;exact QC
theorem Jj(s:DT)(p:Nat):(By s p).todo.length<=s.todo.length+1:=by unfold By;split<;>simp
theorem Dg:∀ (ps:List Nat) (s:DT),(B6 s ps).todo.length<=s.todo.length+ps.length
 |[],s=>Nat.le_refl _
 |p::ps,s=>by
  have h1:=Dg ps (By s p);have h2:=Jj s p;show(B6 (By s p) ps).todo.length<=_;simp only[List.length_cons];omega
def Gq(w w':World)(tag tag':Nat->Nat):Prop:=∀b,b<w.heap.size->tag b≠1->tag b≠6->tag b≠7->w'.heap[b]? =w.heap[b]?/\tag' b=tag b
theorem Gq.lt{w w':World}{tag tag':Nat->Nat}(h:Gq w w' tag tag'){b:Nat}(hb:b<w.heap.size)(h1:tag b≠1)(h6:tag b≠6)(h7:tag b≠7):b<w'.heap.size:=by
 have h9:=(h b hb h1 h6 h7).1;rw[Array.getElem?_eq_getElem hb]at h9;exact(Array.getElem?_eq_some_iff.1 h9).1
theorem DI(E R S L:Nat)(s:DT)(w:World)(B C GB TB AB NB DB:Nat)(vg vt:Nat->Value)(vd:Value)(tag:Nat->Nat)(h:Bj E R S L s w B C GB TB AB NB DB vg vt vd tag)(pb cap m:Nat)(po:Option Addr)(ps:List Nat)(hpo:0<ps.length->po=some ⟨pb,0,none⟩)(hps:∀j (hj:j<ps.length),w.cell? ⟨pb,j,none⟩=some (.int .i64 (ps[j]:Int)))(hm:0<ps.length->tag pb=m/\m≠1/\m≠6/\m≠7)(hL:∀p∈ps,p<L)(hl:s.todo.length+ps.length<=1000000)(hLL:L<=1000000):
 Calls prog 27 #[.pointer (some ⟨B,0,none⟩),.slice po ps.length cap] w fun e w'=>e=.returned (.tuple #[])/\Below E w w'/\∃vd' tag',Bj E R S L (B6 s ps) w' B C GB TB AB NB DB vg vt vd' tag'/\Gq w w' tag tag':=by
 have HH:=A2 h;have HP:=A2 (And.intro hps (And.intro hm hL));obtain⟨n,hn⟩:∃n,ps.length=n:=⟨_,rfl⟩
 rw[hn]at hpo hl ⊢;have HN:=A2 hn;clear h hps hm hL hn;go_enter func27,ntmps27;go_wp2
 go_loopw [8] (fun iv wr=>∃j:Nat,j<=n/\iv=.int .i64 (j:Int)/\Hid (Below E w wr/\∃vd' tag',Bj E R S L (B6 s (ps.take j)) wr B C GB TB AB NB DB vg vt vd' tag'/\(∀k (hk:k<ps.length),wr.cell? ⟨pb,k,none⟩=some (.int .i64 (ps[k]:Int)))/\(0<ps.length->tag' pb=m/\m≠1/\m≠6/\m≠7)/\Gq w wr tag tag')) (fun iv _=>n-(intOf iv).toNat)
 case atStart=>exact⟨0,Nat.zero_le _,rfl,Below.refl E w,vd,tag,HH.out,HP.out.1,HP.out.2.1,fun b _ _ _ _=>⟨rfl,rfl⟩⟩
 case round=>
  obtain⟨j,hj,rfl,HJ⟩:=hrel;by_cases hlt:j<n
  ·have hpe:=hpo oM;subst hpe;have hjl:j<ps.length:=by have:=HN.out;omega
   obtain⟨hB0,vd',tag',hK,hC,hT,hS⟩:=HJ.out;have HS:=A2 hS;have x0:=hC j hjl;have HCT:=A2 (And.intro hC (hT oM));have HB0:=A2 hB0;have HK:=A2 hK;have hpl:ps[j]<L:=HP.out.2.2 _ (List.getElem_mem hjl);have HX:Hid (B6 s (ps.take (j+1))=By (B6 s (ps.take j)) ps[j]):=Ij s hjl;have hlen:(B6 s (ps.take j)).todo.length<=1000000:=by
    have h9:=Dg (ps.take j) s;have h8:(ps.take j).length<=n:=by rw[List.length_take];have:=HN.out;omega
    omega
   obtain⟨p,hp⟩:∃p,ps[j]=p:=⟨_,rfl⟩
   rw[hp]at x0 hpl HX;obtain⟨T,hTT⟩:∃T,B6 s (ps.take j)=T:=⟨_,rfl⟩
   simp only[hTT]at HK HX hlen;have d5:=HK.out.b5;have d6:=HK.out.b6;have dd:=HK.out.d.cell hpl;have fd:=HK.out.d.frozen p;have i1:(0:Int)<=(j:Int):=oM;have i2:(j:Int)<(n:Int):=oM;have i3:(0:Int)<=(p:Int):=oM;have i4:(p:Int)<(L:Int):=oM;have wi:IntKind.i64.wrap ((j:Int)+1)=((j+1:Nat):Int):=by rw[IntKind.wrap_i64];omega
   clear hB0 hK hC hT hTT hp hS;obtain⟨b,hb⟩:∃b,T.nd p=b:=⟨_,rfl⟩
   rw[hb]at dd;have HBB:=A2 hb;clear hb;cases b with
   |true=>
    go_wp2;go_roundw
    case rel=>
     refine⟨j+1,oM,gN,HB0.out,vd',tag',?_,HCT.out.1,fun _=>HCT.out.2,HS.out⟩;rw[HX.out];unfold By;rw[if_pos HBB.out];exact HK.out
    case measure=>simp[intOf];omega
   |false=>
    obtain⟨W1,hW1⟩:∃W,wr.setCell ⟨DB,p,none⟩ (.bool true)=W:=⟨_,rfl⟩
    have HK1:=A2 (HK.out.setNd p true);rw[hW1]at HK1;obtain⟨g,cap',w3,hr,hk3,k2,k3,hb3,hoth,hne⟩:=HK1.out.appTodo hlen p;have d6':=HK1.out.b6;have HR:=A2 hr;have lB:B<W1.heap.size:=HK1.out.b.lt;have n1:¬B=W1.heap.size:=oM;have hpw:pb<wr.heap.size:=Ab x0;have hsz:W1.heap.size=wr.heap.size:=by rw[←hW1];simp
    have HT1:Hid ((∀k (hk:k<ps.length),(w3.setCell ⟨B,6,none⟩ (.slice (some ⟨g,0,none⟩) (T.todo.length+1) cap')).cell? ⟨pb,k,none⟩=some (.int .i64 (ps[k]:Int)))/\(if pb=g then 7 else tag' pb)=m):=by
     obtain⟨c1,c2,c3,c4,c5⟩:=HCT.out;refine⟨fun k hk=>?_,?_⟩
     ·rw[World.cell?_of_block (a:=⟨pb,k,none⟩) (w:=wr)]
      ·exact c1 k hk
      ·refine(Below.heap_setCell _ _ _ _ (Ag c2 HK.out.tB c3)).trans ((hoth pb oM (fun e=>(Ag c2 (HK.out.ttd pb e) c5) rfl)).trans ?_);rw[←hW1];exact Below.heap_setCell _ _ _ _ (Ag c2 HK.out.tD c4)
     ·rw[if_neg (hne pb oM (by rw[c2];exact c5))];exact c2
    have HS3:Hid (Gq w (w3.setCell ⟨B,6,none⟩ (.slice (some ⟨g,0,none⟩) (T.todo.length+1) cap')) tag (fun b=>if b=g then 7 else tag' b)):=fun b hb t1 t6 t7=>by
     have hlt:=HS.out.lt hb t1 t6 t7;obtain⟨e1,e2⟩:=HS.out b hb t1 t6 t7;have h6:b≠DB:=fun e=>t6 (by rw[←e2,e];exact HK.out.tD);have h1:b≠B:=fun e=>t1 (by rw[←e2,e];exact HK.out.tB);refine⟨((Below.heap_setCell _ _ _ _ h1).trans ((hoth b oM (fun e=>t7 (by rw[←e2];exact HK.out.ttd b e))).trans ?_)).trans e1,?_⟩
     ·rw[←hW1];exact Below.heap_setCell _ _ _ _ h6
     ·show(if b=g then 7 else tag' b)=tag b;rw[if_neg (hne b oM (by rw[e2];exact t7)),e2]
    have HK3:Hid (Bj E R S L (By T p) (w3.setCell ⟨B,6,none⟩ (.slice (some ⟨g,0,none⟩) (T.todo.length+1) cap')) B C GB TB AB NB DB vg vt (.slice (some ⟨g,0,none⟩) (T.todo.length+1) cap') (fun b=>if b=g then 7 else tag' b)):=by
     unfold By;rw[if_neg (by rw[HBB.out];decide)];exact hk3
    have HB3:Hid (Below E w (w3.setCell ⟨B,6,none⟩ (.slice (some ⟨g,0,none⟩) (T.todo.length+1) cap'))):=by
     have h9:Below E wr W1:=by rw[←hW1];exact(Below.refl E wr).setCell HK.out.hD _
     exact((HB0.out.trans h9).trans hb3).setCell HK.out.hB _
    have p6:(W1.alloc (.cells #[.int .i64 (p:Int)] 3)).cell? ⟨B,6,none⟩=some vd':=kc (A0 _ _) d6';obtain⟨M,hM⟩:∃M,T.todo.length+1=M:=⟨_,rfl⟩
    simp only[hM]at HR HT1 HK3 HB3 HS3;clear hr hk3 hb3 hoth hne hM hsz hpw lB;go_upto_region 5 with fail;try rw[hW1]
    go_wp2_with(at_builtin;refine Ay rF _ _ _ rF _ _ _ rF rF HR.out ?_);go_roundw
    case rel=>
     refine⟨j+1,oM,gN,HB3.out,(.slice (some ⟨g,0,none⟩) M cap'),(fun b=>if b=g then 7 else tag' b),?_,HT1.out.1,fun _=>⟨HT1.out.2,HCT.out.2.2⟩,HS3.out⟩;rw[HX.out];exact HK3.out
    case measure=>simp[intOf];omega
  ·have e9:¬ (j:Int)<(n:Int):=oM;have hjn:j=ps.length:=by have:=HN.out;omega
   obtain⟨hB0,vd',tag',hK,-,-,hS⟩:=HJ.out;rw[hjn,List.take_length]at hK;have HE:=A2 (And.intro hB0 (And.intro hK hS));clear hlt hjn hB0 hK hS;go_wp2;first|go_end0|(simp only[Exit.inBlock,Exit.then];refine bodyPost_ret (results_none rfl _ _ _) rfl ?_)|refine bodyPost_ret (results_none rfl _ _ _) rfl ?_
   exact⟨rfl,HE.out.1,vd',tag',HE.out.2.1,HE.out.2.2⟩

structure CE(l:List Aa)(s:DT)(q:Sr):Prop where
 nd:s.nd=q.nd
 todo:s.todo=q.todo
 sl:∀r,s.sl r=if q.sr r=true then [] else EN l r
 tl:∀r,s.tl r=if q.ss r=true then [] else Fb l r
 ar:∀p,p<l.length->s.ar p=Fh l p
 en:∀b e,AI l b e->s.en b=(enP l b:Int)
section
variable {l : List Aa} {s : DT} {q : Sr}
theorem CE.need1(h:CE l s q)(p:Nat):CE l (By s p) (need1 q p):=by
 unfold By Go.Proofs.Ytnbccaicijcklaa.need1;rw[h.nd];split
 ·exact h
 ·exact⟨by simp only,by simp only[h.todo],h.sl,h.tl,h.ar,h.en⟩
theorem CE.needL:∀ (ps:List Nat) {s:DT} {q:Sr},CE l s q->CE l (B6 s ps) (needL q ps)
 |[],_,_,h=>h
 |p::ps,_,_,h=>CE.needL ps (h.need1 p)
theorem Ii(s:DT)(p:Nat):(By s p).sl=s.sl/\(By s p).tl=s.tl/\(By s p).ar=s.ar/\(By s p).en=s.en:=by unfold By;split<;>exact⟨rfl,rfl,rfl,rfl⟩
theorem DN:∀ (ps:List Nat) (s:DT),(B6 s ps).sl=s.sl/\(B6 s ps).tl=s.tl/\(B6 s ps).ar=s.ar/\(B6 s ps).en=s.en
 |[],s=>⟨rfl,rfl,rfl,rfl⟩
 |p::ps,s=>by
  obtain⟨h1,h2,h3,h4⟩:=DN ps (By s p);obtain⟨g1,g2,g3,g4⟩:=Ii s p;exact⟨h1.trans g1,h2.trans g2,h3.trans g3,h4.trans g4⟩
def OJ(s:DT)(r:Nat):DT:={B6 s (s.sl r)with sl:=fun k=>if k=r then [] else(B6 s (s.sl r)).sl k}
def My(s:DT)(r:Nat):DT:={B6 s (s.tl r)with tl:=fun k=>if k=r then [] else(B6 s (s.tl r)).tl k}
theorem CE.goR(h:CE l s q)(r:Nat):CE l (OJ s r) (goR l q r):=by
 have h1:=h.needL (s.sl r);obtain⟨g1,g2⟩:=BQ (s.sl r) q;obtain⟨e1,e2,e3,e4⟩:=DN (s.sl r) s;unfold OJ Go.Proofs.Ytnbccaicijcklaa.goR;rw[←h.sl r];refine⟨h1.nd,h1.todo,fun k=>?_,h1.tl,h1.ar,h1.en⟩;show(if k=r then [] else(B6 s (s.sl r)).sl k)=if(if k=r then true else q.sr k)=true then [] else EN l k;by_cases e:k=r
 ·simp[e]
 ·rw[if_neg e,if_neg e,e1];exact h.sl k
theorem CE.goS(h:CE l s q)(r:Nat):CE l (My s r) (goS l q r):=by
 have h1:=h.needL (s.tl r);obtain⟨g1,g2⟩:=BQ (s.tl r) q;obtain⟨e1,e2,e3,e4⟩:=DN (s.tl r) s;unfold My Go.Proofs.Ytnbccaicijcklaa.goS;rw[←h.tl r];refine⟨h1.nd,h1.todo,h1.sl,fun k=>?_,h1.ar,h1.en⟩;show(if k=r then [] else(B6 s (s.tl r)).tl k)=if(if k=r then true else q.ss k)=true then [] else Fb l k;by_cases e:k=r
 ·simp[e]
 ·rw[if_neg e,if_neg e,e2];exact h.tl k
end
section
variable {E R S L : Nat} {s : DT} {w : World} {B C GB TB AB NB DB : Nat} {vg vt : Nat -> Value} {vd : Value} {tag tag' : Nat -> Nat}
theorem Bj.retag(h:Bj E R S L s w B C GB TB AB NB DB vg vt vd tag)(k:∀b,b<w.heap.size->tag' b=tag b):Bj E R S L s w B C GB TB AB NB DB vg vt vd tag':=
 {h with
  tB:=(k _ h.b.lt).trans h.tB
  tG:=(k _ h.g.lt).trans h.tG
  tT:=(k _ h.t.lt).trans h.tT
  tA:=(k _ h.a.lt).trans h.tA
  tN:=(k _ h.n.lt).trans h.tN
  tD:=(k _ h.d.lt).trans h.tD
  tgs:=fun r hr q hq=>(k q ((h.gs r hr).lt q hq).2).trans (h.tgs r hr q hq)
  tts:=fun r hr q hq=>(k q ((h.ts r hr).lt q hq).2).trans (h.tts r hr q hq)
  ttd:=fun q hq=>(k q (h.td.lt q hq).2).trans (h.ttd q hq)}
end
theorem J9(m:Nat)(h:m<=17592186044416)(w:World):(Instr.makeSlice 61 (.int .i64 m) (.int .i64 m)).run prog w=.ok (.slice (some ⟨w.heap.size,0,none⟩) m m) (w.alloc (.cells (madeCells #[.int .i64 0] m) 3)):=
 run_make_row' (P:=prog) 61 3 (.int .i64 0) 8 underlying61 BJ rfl .i64 .i64 m oM oM w
theorem Pe{E:Nat}{w:World}{v:Value}{ps:List Nat}{tag:Nat->Nat}{m:Nat}(ho:w.ownsRow E 3 1 v ps.length (AV ps))(ht:∀q,v.ownBlock=some q->tag q=m):
 ∃pb po cap,v=.slice po ps.length cap/\(0<ps.length->po=some ⟨pb,0,none⟩)/\(∀j (hj:j<ps.length),w.cell? ⟨pb,j,none⟩=some (.int .i64 (ps[j]:Int)))/\(0<ps.length->tag pb=m):=by
 by_cases hn:0<ps.length
 ·obtain⟨g,cap,rfl,-,-,-,-,h⟩:=Bc ho hn;exact⟨g,_,cap,rfl,fun _=>rfl,fun j hj=>h j _ (by simp[AV,hj]),fun _=>ht g rfl⟩
 ·obtain⟨po,cap,rfl⟩:=Ao ho;exact⟨0,po,cap,rfl,fun h=>absurd h hn,fun j hj=>absurd hj oM,fun h=>absurd h hn⟩
theorem JR{m:Nat}{tag:Nat->Nat}:∀g,(Value.slice none 0 0).ownBlock=some g->tag g=m:=fun g h=>by cases h
theorem CE.slLen{l:List Aa}{s:DT}{q:Sr}(h:CE l s q)(r:Nat):(s.sl r).length<=l.length:=by
 rw[h.sl r];split
 ·exact Nat.zero_le _
 ·unfold EN;exact Nat.le_trans (List.length_filter_le _ _) sM
theorem CE.tlLen{l:List Aa}{s:DT}{q:Sr}(h:CE l s q)(r:Nat):(s.tl r).length<=l.length:=by
 rw[h.tl r];split
 ·exact Nat.zero_le _
 ·unfold Fb;exact Nat.le_trans (List.length_filter_le _ _) sM
theorem CE.slLt{l:List Aa}{s:DT}{q:Sr}(h:CE l s q)(r:Nat):∀p∈s.sl r,p<l.length:=fun p hp=>by
 rw[h.sl r]at hp;split at hp
 ·cases hp
 ·exact(EO.1 hp).1
theorem CE.tlLt{l:List Aa}{s:DT}{q:Sr}(h:CE l s q)(r:Nat):∀p∈s.tl r,p<l.length:=fun p hp=>by
 rw[h.tl r]at hp;split at hp
 ·cases hp
 ·exact(EP.1 hp).1
theorem Mx(s:DT)(r:Nat):(OJ s r).todo.length<=s.todo.length+(s.sl r).length:=Dg _ _
theorem Mz(s:DT)(r:Nat):(My s r).todo.length<=s.todo.length+(s.tl r).length:=Dg _ _
theorem Lf(l:List Aa)(q:Sr){rs:List Int}{j:Nat}(hj:j<rs.length):Cu l q (rs.take (j+1))=goR l (Cu l q (rs.take j)) rs[j].toNat:=by
 unfold Cu;exact QC
def Zb(a b:Nat)(w0 w:World)(tag:Nat->Nat):Prop:=∀x,a<=x->x<b->w.heap[x]? =w0.heap[x]?/\tag x=0/\x<w.heap.size
theorem Zb.same{a b:Nat}{w0 w w':World}{tag tag':Nat->Nat}(h:Zb a b w0 w tag)(k:Gq w w' tag tag'):Zb a b w0 w' tag':=fun x h1 h2=>by
 obtain⟨e1,e2,e3⟩:=h x h1 h2;obtain⟨g1,g2⟩:=k x e3 oM oM oM;exact⟨g1.trans e1,g2.trans e2,k.lt e3 oM oM oM⟩
theorem Zb.set{a b:Nat}{w0 w:World}{tag:Nat->Nat}(h:Zb a b w0 w tag){g j m:Nat}(v:Value)(hg:tag g=m)(hm:m≠0):Zb a b w0 (w.setCell ⟨g,j,none⟩ v) tag:=fun x h1 h2=>by
 obtain⟨e1,e2,e3⟩:=h x h1 h2;exact⟨(Below.heap_setCell _ _ _ _ (fun(q:x=g)=>hm (by rw[←hg,←q];exact e2))).trans e1,e2,by simpa using e3⟩
theorem Zb.cell{a b:Nat}{w0 w:World}{tag:Nat->Nat}(h:Zb a b w0 w tag){x j:Nat}{v:Value}(h1:a<=x)(h2:x<b)(hc:w0.cell? ⟨x,j,none⟩=some v):w.cell? ⟨x,j,none⟩=some v:=(World.cell?_of_block (a:=⟨x,j,none⟩) (h x h1 h2).1).trans hc
theorem M6(l:List Aa)(E R S:Nat)(s:DT)(q:Sr)(w:World)(B C GB TB AB NB DB:Nat)(vg vt:Nat->Value)(vd:Value)(tag:Nat->Nat)(h:Bj E R S l.length s w B C GB TB AB NB DB vg vt vd tag)(hq:CE l s q)(p3:Option Addr)(q3:Nat)(hC:w.cell? ⟨C,3,none⟩=some (.slice p3 l.length q3))(hli:AR 7 Bf w (.slice p3 l.length q3) l)(p:Nat)(hp:p<l.length)(hr:∀r∈A9 l[p] (A4 l[p].op),0<=r/\r<(R:Int))(hn:l[p].op=32->0<=l[p].n/\l[p].n<(S:Int))(hst:At l=[])(hl:s.todo.length<=40000)(hLL:l.length<=40000):
 Calls prog 28 #[.pointer (some ⟨B,0,none⟩),.int .i64 (p:Int)] w fun e w'=>e=.returned (.tuple #[])/\Below E w w'/\∃s' vg' vt' vd' tag',Bj E R S l.length s' w' B C GB TB AB NB DB vg' vt' vd' tag'/\CE l s' (goQ l q p l[p]):=by
 have KR:=A2 (fun v=>GD l[p] v);obtain⟨lb,lo,rfl,hcl⟩:=hli.at hp;have HAR:Hid (∀b,(IE l p).head?=some b->b<l.length/\enP l b<l.length/\AI l b (enP l b)):=fun b hb=>by
  obtain⟨e,hm⟩:=FO hst (l.length-p) p rfl (Nat.le_of_lt hp) (JC hp hb);obtain⟨g1,g2,-,-⟩:=Bp hm;rw[IP hm];exact⟨g1,g2,hm⟩
 have HGQ:Hid (goQ l q p l[p]=goA l (if l[p].op=32 then goS l (Cu l q (A9 l[p] (A4 l[p].op))) l[p].n.toNat else Cu l q (A9 l[p] (A4 l[p].op))) p):=rfl;have HARI:=A2 (J0 (IE l p));have HAQ:Hid (Fh l p=Ds (IE l p)):=rfl;obtain⟨rs,hrs⟩:∃rs,A9 l[p] (A4 l[p].op)=rs:=⟨_,rfl⟩
 simp only[hrs]at KR hr HGQ;have HRR:=A2 hr;have hrl:rs.length<=3:=by rw[←hrs,D5];have h1:=Ck (A4 l[p].op).a l[p].a;have h2:=Ck (A4 l[p].op).b l[p].b;have h3:=Ck (A4 l[p].op).c l[p].c;simp only[List.length_append];omega
 obtain⟨⟨op,d,a,b,e,n,z⟩,hi⟩:∃i,l[p]=i:=⟨_,rfl⟩
 rw[hi]at hcl KR HGQ hn ⊢;simp only at hn HGQ;have y0:=hcl.at 0 (v:=.int .i64 op) rfl;rw[Nat.add_zero]at y0;have y1:=hcl.at 1 (v:=.int .i64 d) rfl;have y2:=hcl.at 2 (v:=.int .i64 a) rfl;have y3:=hcl.at 3 (v:=.int .i64 b) rfl;have y4:=hcl.at 4 (v:=.int .i64 e) rfl;have y5:=hcl.at 5 (v:=.int .i64 n) rfl;have y6:=hcl.at 6 (v:=.int .u32 z) rfl;have llb:lb<w.heap.size:=Ab y0;have n9:¬lb=w.heap.size:=oM;have c0:=h.b0;have HH:=A2 h;have HQ:=A2 hq;obtain⟨L,hL⟩:∃L,l.length=L:=⟨_,rfl⟩
 simp only[hL]at HH hC hp hLL HAR ⊢;have HLL:=A2 hL;have i1:(0:Int)<=(p:Int):=oM;have i2:(p:Int)<(L:Int):=oM;obtain⟨V2,hV2⟩:∃V,w.alloc (.cells #[.int .i64 op,.int .i64 d,.int .i64 a,.int .i64 b,.int .i64 e,.int .i64 n,.int .u32 z] 40)=V:=⟨_,rfl⟩
 have HV2:Hid (Below w.heap.size w V2):=by rw[←hV2];exact A0 _ _
 have hX2:V2.rowIs w.heap.size 40 7 (Dy op d a b e n z):=by rw[←hV2];exact AN w _ _
 have HX2:=A2 hX2;have x0:V2.cell? ⟨w.heap.size,0,none⟩=some (.int .i64 op):=hX2.cell (i:=0) dE;have x1:V2.cell? ⟨w.heap.size,1,none⟩=some (.int .i64 d):=hX2.cell (i:=1) dE;have x2:V2.cell? ⟨w.heap.size,2,none⟩=some (.int .i64 a):=hX2.cell (i:=2) dE;have x3:V2.cell? ⟨w.heap.size,3,none⟩=some (.int .i64 b):=hX2.cell (i:=3) dE;have x4:V2.cell? ⟨w.heap.size,4,none⟩=some (.int .i64 e):=hX2.cell (i:=4) dE;have x5:V2.cell? ⟨w.heap.size,5,none⟩=some (.int .i64 n):=hX2.cell (i:=5) dE;have x6:V2.cell? ⟨w.heap.size,6,none⟩=some (.int .u32 z):=hX2.cell (i:=6) dE;unfold B9 at KR;simp only at KR;clear h hq hcl hi hr hrs hX2 hL hst hli llb;go_enter func28,ntmps28;go_upto_region 1 with fail;try rw[hV2]
 clear hV2 y0 y1 y2 y3 y4 y5 y6 hC c0 n9;go_wp2_with(go_at_call 30;(with_reducible refine(KR.out _).mono ?_);rintro e9 w3 ⟨v3,rfl,ho3,hb3⟩;obtain⟨p4,q4,rfl⟩:=Ao ho3;have HO3:=A2 ho3;have HB3:=A2 hb3;clear ho3 hb3);clear KR x0 x1 x2 x3 x4 x5 x6;obtain⟨nr,hnr⟩:∃nr,rs.length=nr:=⟨_,rfl⟩
 have HNR:=A2 hnr;obtain⟨H0,hH0⟩:∃H0,w.heap.size=H0:=⟨_,rfl⟩
 have HWE:Hid (E<=H0):=by rw[←hH0];exact HH.out.lt
 have HBW:Hid (Below H0 w w3):=by rw[←hH0];exact bel HV2.out HB3.out
 have HX3:Hid (w3.rowIs H0 40 7 (Dy op d a b e n z)):=by rw[←hH0];exact HX2.out.of_block (HB3.out.block _ HX2.out.lt)
 have HRD:Hid (∀k (hk:k<rs.length),∃pb,p4=some ⟨pb,0,none⟩/\H0<=pb/\pb<w3.heap.size/\w3.cell? ⟨pb,k,none⟩=some (.int .i64 rs[k])):=fun k hk=>by
  obtain⟨g,cap,ev,g1,g2,-,-,g3⟩:=Bc HO3.out oM;simp only[Value.slice.injEq]at ev;refine⟨g,ev.1,?_,g2,g3 k _ (by simp[B2,hk])⟩;rw[←hH0];exact Nat.le_trans HV2.out.size g1
 have HK0:Hid (Below E w w3/\∃s' vg' vd' tag',Bj E R S L s' w3 B C GB TB AB NB DB vg' vt vd' tag'/\CE l s' (Cu l q (rs.take 0))/\s'.todo.length<=40000+40000*0/\Zb H0 w3.heap.size w3 w3 tag'):=by
  refine⟨HBW.out.mono HWE.out,s,vg,vd,fun b=>if b<w.heap.size then tag b else 0,(HH.out.retag (fun b hb=>if_pos hb)).below (by rw[hH0];exact HBW.out),HQ.out,oM,fun x h1 h2=>⟨rfl,if_neg oM,h2⟩⟩
 rw[hnr];rw[hnr]at hrl;rw[hH0];clear hH0;have hnp:∀j,j<nr->(0:Int)<=(j:Int):=fun j _=>by omega
 clear HH HQ hnr HO3 HV2 HB3 HX2;go_wp2
 go_loopw [21] (fun iv wr=>∃j:Nat,j<=nr/\iv=.int .i64 (j:Int)/\Hid (Below E w wr/\∃s' vg' vd' tag',Bj E R S L s' wr B C GB TB AB NB DB vg' vt vd' tag'/\CE l s' (Cu l q (rs.take j))/\s'.todo.length<=40000+40000*j/\Zb H0 w3.heap.size w3 wr tag')) (fun iv _=>nr-(intOf iv).toNat)
 case atStart=>exact⟨0,Nat.zero_le _,rfl,HK0.out⟩
 case round=>
  clear HK0;obtain⟨j,hj,rfl,HJ⟩:=hrel;by_cases hlt:j<nr
  ·have hjl:j<rs.length:=by have:=HNR.out;omega
   obtain⟨hB0,T,vg',vd',tag',hK,hS,hT,hZ⟩:=HJ.out;obtain⟨pb,rfl,pb1,pb2,pb3⟩:=HRD.out j hjl;have x0:=hZ.cell pb1 pb2 pb3;obtain⟨hr1,hr2⟩:=HRR.out _ (List.getElem_mem hjl);have HGN:=A2 (Lf l q hjl);obtain⟨r,hrn⟩:∃r:Nat,rs[j]=(r:Int):=⟨rs[j].toNat,oM⟩
   rw[hrn]at x0 hr2 HGN;rw[Int.toNat_natCast]at HGN;have hrR:r<R:=oM;have d1:=hK.b1;have dg:=hK.g.cell hrR;obtain⟨pb',po,cap,ev,r1,r2,r3⟩:=Pe (hK.gs r hrR) (hK.tgs r hrR);have hpl:=hS.slLen r;have KN:=A2 (DI E R S L T wr B C GB TB AB NB DB vg' vt vd' tag' hK pb' cap (8+2*r) po (T.sl r) r1 r2 (fun hh=>⟨r3 hh,oM,oM,oM⟩) (fun x hx=>by have:=hS.slLt r x hx;have h9:=HLL.out;omega) (by have h9:=HLL.out;omega) oM);rw[ev]at dg;have HT:=A2 hT;have HPL:=A2 hpl;have HS:=A2 hS;have HZ:=A2 hZ;have HB0:=A2 hB0;have i3:(0:Int)<=(j:Int):=oM;have i4:(j:Int)<(nr:Int):=oM;have i5:(0:Int)<=(r:Int):=oM;have wi:IntKind.i64.wrap ((j:Int)+1)=((j+1:Nat):Int):=by rw[IntKind.wrap_i64];omega
   obtain⟨m,hm⟩:∃m,(T.sl r).length=m:=⟨_,rfl⟩
   rw[hm]at dg KN;clear hB0 hK hS hT hZ hrn r1 r2 r3 hpl ev hm pb1 pb2 pb3 hr1;go_upto_region 5 with(go_at_call 27;(with_reducible refine(KN.out).mono ?_);rintro e9 w4 ⟨rfl,hb4,vd4,tag4,hk4,hs4⟩;have HB4:=A2 hb4;have HK4:=A2 hk4;have HS4:=A2 hs4;have d1:=hk4.b1;have dg:=hk4.g.cell hrR;have fg:=hk4.g.frozen r;clear hb4 hk4 hs4)
   go_wp2;go_roundw
   case rel=>
    refine⟨j+1,oM,gN,(HB0.out.trans HB4.out).setCell HK4.out.hG _,OJ T r,_,vd4,tag4,HK4.out.setSl (O:=[]) hrR (World.ownsRow_nil _ _ _ 1) JR,?_,?_,(HZ.out.same HS4.out).set _ HK4.out.tG dE⟩
    ·rw[HGN.out];exact HS.out.goR r
    ·have h9:=Mx T r;have h8:=HT.out;have h7:=HPL.out;have h6:=HLL.out;omega
   case measure=>simp[intOf];omega
  ·have e9:¬ (j:Int)<(nr:Int):=oM;have hjn:j=rs.length:=by have:=HNR.out;omega
   obtain⟨hB0,T,vg',vd',tag',hK,hS,hT,hZ⟩:=HJ.out;rw[hjn,List.take_length]at hS;have x0:wr.cell? ⟨H0,0,none⟩=some (.int .i64 op):=hZ.cell (Nat.le_refl _) HX3.out.lt (HX3.out.cell (i:=0) dE);have x5:wr.cell? ⟨H0,5,none⟩=some (.int .i64 n):=hZ.cell (Nat.le_refl _) HX3.out.lt (HX3.out.cell (i:=5) dE);by_cases o:op=32
   ·obtain⟨n1,n2⟩:=hn o;obtain⟨m,hm⟩:∃m:Nat,n=(m:Int):=⟨n.toNat,oM⟩
    have hmS:m<S:=oM;have o1:(op==32)=true:=by simpa using o
    have HGO:Hid ((if op=32 then goS l (Cu l q rs) n.toNat else Cu l q rs)=goS l (Cu l q rs) m):=by show _=_;rw[if_pos o,hm,Int.toNat_natCast]
    rw[hm]at x5;have d2:=hK.b2;have dt:=hK.t.cell hmS;obtain⟨pb',po,cap,ev,r1,r2,r3⟩:=Pe (hK.ts m hmS) (hK.tts m hmS);have hpl:=hS.tlLen m;have KN:=A2 (fun(v:World) (hv:Below wr.heap.size wr v)=>DI E R S L T v B C GB TB AB NB DB vg' vt vd' tag' (hK.below hv) pb' cap (9+2*m) po (T.tl m) r1 (fun k hk=>kc hv (r2 k hk)) (fun hh=>⟨r3 hh,oM,oM,oM⟩) (fun x hx=>by have:=hS.tlLt m x hx;have h9:=HLL.out;omega) (by have h9:=HLL.out;omega) oM);rw[ev]at dt;have EV:=A2 ev;have HLW:=A2 hK.lt;have HS1:=A2 (hS.goS m);have HT1:Hid ((My T m).todo.length<=240000):=by have h9:=Mz T m;have h6:=HLL.out;show _<=_;omega
    have HZ:=A2 hZ;have HB0:=A2 hB0;have i5:(0:Int)<=(m:Int):=oM;have i6:(m:Int)<(S:Int):=oM;have lX:H0<wr.heap.size:=(hZ H0 (Nat.le_refl _) HX3.out.lt).2.2;have HXS:Hid (∀v tagv,Zb H0 w3.heap.size w3 v tagv->v.cell? ⟨H0,5,none⟩=some (.int .i64 (m:Int))):=fun v tagv hz=>by
     have h9:=hz.cell (Nat.le_refl _) HX3.out.lt (HX3.out.cell (i:=5) dE);rw[←hm];exact h9
    rw[HGO.out]at HGQ;obtain⟨mm,hmm⟩:∃mm,(T.tl m).length=mm:=⟨_,rfl⟩
    rw[hmm]at dt KN EV;clear hB0 hK hS hT hZ r1 r2 r3 hpl ev hmm hm o n1 n2 hn hjn hlt HJ HGO lX HRR HNR HRD;go_upto_region 8 with fail;refine rG (fun v=>v.cell? ⟨B,2,none⟩=some (.slice (some ⟨TB,0,none⟩) S S)/\v.cell? ⟨H0,5,none⟩=some (.int .i64 (m:Int))/\v.cell? ⟨TB,m,none⟩=some (.slice po mm cap)) fun hHeld=>?_;refine Tf 0 1 2 3 4 5 ?_;refine Tc 6 7 8 ?_;clear hHeld;refine Ax 9 fun K hK=>?_;go_simp;(go_at_call 27;(with_reducible refine(KN.out _ (AY _)).mono ?_);rintro e9 w4 ⟨rfl,hb4,vd4,tag4,hk4,hs4⟩;have HB4:=A2 hb4;have HK4:=A2 hk4;have HZ4:=A2 ((HZ.out:Zb H0 w3.heap.size w3 wr.drew tag').same hs4);have d2:=hk4.b2;have dt:=hk4.t.cell hmS;rw[EV.out]at dt;have nBT:¬B=TB:=Ag hk4.tB hk4.tT dE;have nHT:¬H0=TB:=Ag (HZ4.out H0 (Nat.le_refl _) HX3.out.lt).2.1 hk4.tT dE;have ft:=hk4.t.frozen m;have x5:=HXS.out _ _ HZ4.out;have v3:(w4.setCell ⟨TB,m,none⟩ (.slice none 0 0)).cell? ⟨B,2,none⟩=some (.slice (some ⟨TB,0,none⟩) S S):=(World.cell?_of_block (a:=⟨B,2,none⟩) (Below.heap_setCell _ _ _ _ nBT)).trans d2;have v4:(w4.setCell ⟨TB,m,none⟩ (.slice none 0 0)).cell? ⟨H0,5,none⟩=some (.int .i64 (m:Int)):=(World.cell?_of_block (a:=⟨H0,5,none⟩) (Below.heap_setCell _ _ _ _ nHT)).trans x5;clear hb4 hk4 hs4);try(go_wp2_with fail)
    refine Aw hK fun hHeld=>?_;clear hK K;refine wpAnyH_done kR ?_ _;go_upto_region 9 with fail;refine rG (fun v=>v.cell? ⟨B,2,none⟩=some (.slice (some ⟨TB,0,none⟩) S S)/\v.cell? ⟨H0,5,none⟩=some (.int .i64 (m:Int))) fun hHeld=>?_;refine Tf 0 1 2 3 4 5 ?_;refine Bw 6 ?_;clear hHeld;refine Ax 7 fun K hK=>?_;go_simp;refine Aw hK fun hHeld=>?_;clear hK K;refine wpAnyH_done kR ?_ _;obtain⟨WW,hWW⟩:∃W,(w4.setCell ⟨TB,m,none⟩ (.slice none 0 0)).drew=W:=⟨_,rfl⟩
    try rw[hWW]
    have HKK0:=HK4.out.setTl (O:=[]) hmS (World.ownsRow_nil _ _ _ 1) JR;have HKK1:=HKK0.below (AY _);rw[hWW]at HKK1;obtain⟨TT,hTT⟩:∃T',My T m=T':=⟨_,rfl⟩
    obtain⟨vgT,hvgT⟩:∃v,vg'=v:=⟨_,rfl⟩
    obtain⟨vtT,hvtT⟩:∃v,(fun k=>if k=m then(Value.slice none 0 0)else vt k)=v:=⟨_,rfl⟩
    obtain⟨vdT,hvdT⟩:∃v,vd4=v:=⟨_,rfl⟩
    obtain⟨tagT,htagT⟩:∃v,tag4=v:=⟨_,rfl⟩
    have HKK:Hid (Bj E R S L TT WW B C GB TB AB NB DB vgT vtT vdT tagT):=by rw[←hTT,←hvgT,←hvtT,←hvdT,←htagT];exact HKK1
    have HSS:Hid (CE l TT (goS l (Cu l q rs) m)):=by rw[←hTT];exact HS1.out
    have HTD:Hid (TT.todo.length<=240000):=by rw[←hTT];exact HT1.out
    have HBB:Hid (Below E w WW):=by rw[←hWW];exact((HB0.out.trans (((AY wr).mono HLW.out).trans HB4.out)).setCell HK4.out.hT _).trans ((AY _).mono HKK0.lt)
    clear HKK0 HKK1 hTT hvgT hvtT hvdT htagT HS1 HT1 HK4 HB4 HZ4 HZ HB0 d2 dt ft x5 v3 v4 nBT nHT KN hWW HXS;rcases HARI.out with⟨q1,q2⟩|⟨bg,q1,q2⟩
    ·have dA:=HKK.out.a.cell hp;rw[HSS.out.ar p QL,HAQ.out,q2]at dA;have d3:=HKK.out.b3;have HFIN:Hid (CE l TT (goQ l q p ⟨op,d,a,b,e,n,z⟩)):=by
      show CE _ _ _;rw[HGQ.out];unfold goA;rw[q1];exact HSS.out
     clear q1 q2;go_wp2;first|go_end0|(simp only[Exit.inBlock,Exit.then];refine bodyPost_ret (results_none rfl _ _ _) rfl ?_)|refine bodyPost_ret (results_none rfl _ _ _) rfl ?_
     first|exact⟨rfl,HBB.out,TT,⟨vgT,vtT,vdT,tagT,HKK.out⟩,HFIN.out⟩|exact⟨rfl,HBB.out,TT,vgT,vtT,vdT,tagT,HKK.out,HFIN.out⟩
    ·obtain⟨b1,b2,b3⟩:=HAR.out bg q1;have dA:=HKK.out.a.cell hp;rw[HSS.out.ar p QL,HAQ.out,q2]at dA;have dN:=HKK.out.n.cell b1;rw[HSS.out.en bg _ b3]at dN;have d3:=HKK.out.b3;have d4:=HKK.out.b4;have HFIN:Hid (CE l (B6 TT [bg,enP l bg]) (goQ l q p ⟨op,d,a,b,e,n,z⟩)):=by
      show CE _ _ _;rw[HGQ.out];unfold goA;rw[q1];exact HSS.out.needL _
     have j1:(0:Int)<=(bg:Int):=oM;have j2:(bg:Int)<(L:Int):=oM;obtain⟨eb,heb⟩:∃eb,enP l bg=eb:=⟨_,rfl⟩
     rw[heb]at dN b2 HFIN;obtain⟨W6,hW6⟩:∃W,WW.alloc (.cells #[.int .i64 (bg:Int),.int .i64 (eb:Int)] 3)=W:=⟨_,rfl⟩
     have HB6:Hid (Below WW.heap.size WW W6):=by rw[←hW6];exact A0 _ _
     have HK6:Hid (Bj E R S L TT W6 B C GB TB AB NB DB vgT vtT vdT (fun x=>if x<WW.heap.size then tagT x else 0)):=(HKK.out.retag (fun x hx=>if_pos hx)).below HB6.out;have KN0:=DI E R S L TT W6 B C GB TB AB NB DB vgT vtT vdT (fun x=>if x<WW.heap.size then tagT x else 0) HK6.out WW.heap.size 2 0 (some ⟨WW.heap.size,0,none⟩) [bg,eb] (fun _=>rfl) (fun k hk=>by
      have hk2:k=0\/k=1:=by simp only[List.length_cons,List.length_nil]at hk;omega
      rw[←hW6]
      rcases hk2 with rfl|rfl<;>simp[go_sem]) (fun _=>⟨if_neg oM,dE,dE,dE⟩) (fun x hx=>by
      simp only[List.mem_cons,List.not_mem_nil,or_false]at hx
      rcases hx with e1|e1<;>rw[e1]<;>assumption) Rg oM
     rw[show [bg,eb].length=2 from rfl]at KN0;have KN:=A2 KN0;clear KN0;clear q1 q2 b1 b2 b3 heb;go_wp2_with(go_at_call 27;(try rw[hW6]);(with_reducible refine(KN.out).mono ?_);rintro e9 w7 ⟨rfl,hb7,vd7,tag7,hk7,hs7⟩;have HB7:=A2 hb7;have HK7:=A2 hk7;clear hb7 hk7 hs7);first|go_end0|(simp only[Exit.inBlock,Exit.then];refine bodyPost_ret (results_none rfl _ _ _) rfl ?_)|refine bodyPost_ret (results_none rfl _ _ _) rfl ?_
     first|exact⟨rfl,(HBB.out.trans (HB6.out.mono HKK.out.lt)).trans HB7.out,_,⟨vgT,vtT,vd7,tag7,HK7.out⟩,HFIN.out⟩|exact⟨rfl,(HBB.out.trans (HB6.out.mono HKK.out.lt)).trans HB7.out,_,vgT,vtT,vd7,tag7,HK7.out,HFIN.out⟩
   ·have o1:(op==32)=false:=by simpa using o
    have HGO:Hid ((if op=32 then goS l (Cu l q rs) n.toNat else Cu l q rs)=Cu l q rs):=if_neg o;rw[HGO.out]at HGQ;obtain⟨WW,hWW⟩:∃W,wr=W:=⟨_,rfl⟩
    obtain⟨TT,hTT⟩:∃T',T=T':=⟨_,rfl⟩
    obtain⟨vgT,hvgT⟩:∃v,vg'=v:=⟨_,rfl⟩
    obtain⟨vtT,hvtT⟩:∃v,vt=v:=⟨_,rfl⟩
    obtain⟨vdT,hvdT⟩:∃v,vd'=v:=⟨_,rfl⟩
    obtain⟨tagT,htagT⟩:∃v,tag'=v:=⟨_,rfl⟩
    subst hWW hTT hvgT hvtT hvdT htagT;have HKK:=A2 hK;have HSS:=A2 hS;have HTD:Hid (T.todo.length<=240000):=by show _<=_;omega
    have HBB:=A2 hB0;clear hB0 hK hS hT hZ hn hjn hlt HJ HGO o x5 HRR HNR HRD;rcases HARI.out with⟨q1,q2⟩|⟨bg,q1,q2⟩
    ·have dA:=HKK.out.a.cell hp;rw[HSS.out.ar p QL,HAQ.out,q2]at dA;have d3:=HKK.out.b3;have HFIN:Hid (CE l T (goQ l q p ⟨op,d,a,b,e,n,z⟩)):=by
      show CE _ _ _;rw[HGQ.out];unfold goA;rw[q1];exact HSS.out
     clear q1 q2;go_wp2;first|go_end0|(simp only[Exit.inBlock,Exit.then];refine bodyPost_ret (results_none rfl _ _ _) rfl ?_)|refine bodyPost_ret (results_none rfl _ _ _) rfl ?_
     first|exact⟨rfl,HBB.out,T,⟨vg',vt,vd',tag',HKK.out⟩,HFIN.out⟩|exact⟨rfl,HBB.out,T,vg',vt,vd',tag',HKK.out,HFIN.out⟩
    ·obtain⟨b1,b2,b3⟩:=HAR.out bg q1;have dA:=HKK.out.a.cell hp;rw[HSS.out.ar p QL,HAQ.out,q2]at dA;have dN:=HKK.out.n.cell b1;rw[HSS.out.en bg _ b3]at dN;have d3:=HKK.out.b3;have d4:=HKK.out.b4;have HFIN:Hid (CE l (B6 T [bg,enP l bg]) (goQ l q p ⟨op,d,a,b,e,n,z⟩)):=by
      show CE _ _ _;rw[HGQ.out];unfold goA;rw[q1];exact HSS.out.needL _
     have j1:(0:Int)<=(bg:Int):=oM;have j2:(bg:Int)<(L:Int):=oM;obtain⟨eb,heb⟩:∃eb,enP l bg=eb:=⟨_,rfl⟩
     rw[heb]at dN b2 HFIN;obtain⟨W6,hW6⟩:∃W,wr.alloc (.cells #[.int .i64 (bg:Int),.int .i64 (eb:Int)] 3)=W:=⟨_,rfl⟩
     have HB6:Hid (Below wr.heap.size wr W6):=by rw[←hW6];exact A0 _ _
     have HK6:Hid (Bj E R S L T W6 B C GB TB AB NB DB vg' vt vd' (fun x=>if x<wr.heap.size then tag' x else 0)):=(HKK.out.retag (fun x hx=>if_pos hx)).below HB6.out;have KN0:=DI E R S L T W6 B C GB TB AB NB DB vg' vt vd' (fun x=>if x<wr.heap.size then tag' x else 0) HK6.out wr.heap.size 2 0 (some ⟨wr.heap.size,0,none⟩) [bg,eb] (fun _=>rfl) (fun k hk=>by
      have hk2:k=0\/k=1:=by simp only[List.length_cons,List.length_nil]at hk;omega
      rw[←hW6]
      rcases hk2 with rfl|rfl<;>simp[go_sem]) (fun _=>⟨if_neg oM,dE,dE,dE⟩) (fun x hx=>by
      simp only[List.mem_cons,List.not_mem_nil,or_false]at hx
      rcases hx with e1|e1<;>rw[e1]<;>assumption) Rg oM
     rw[show [bg,eb].length=2 from rfl]at KN0;have KN:=A2 KN0;clear KN0;clear q1 q2 b1 b2 b3 heb;go_wp2_with(go_at_call 27;(try rw[hW6]);(with_reducible refine(KN.out).mono ?_);rintro e9 w7 ⟨rfl,hb7,vd7,tag7,hk7,hs7⟩;have HB7:=A2 hb7;have HK7:=A2 hk7;clear hb7 hk7 hs7);first|go_end0|(simp only[Exit.inBlock,Exit.then];refine bodyPost_ret (results_none rfl _ _ _) rfl ?_)|refine bodyPost_ret (results_none rfl _ _ _) rfl ?_
     first|exact⟨rfl,(HBB.out.trans (HB6.out.mono HKK.out.lt)).trans HB7.out,_,⟨vg',vt,vd7,tag7,HK7.out⟩,HFIN.out⟩|exact⟨rfl,(HBB.out.trans (HB6.out.mono HKK.out.lt)).trans HB7.out,_,vg',vt,vd7,tag7,HK7.out,HFIN.out⟩

def BY(M:Nat)(X:List Nat):List Value:=(List.range M).map fun j=>.bool (decide (j∈X))
theorem G7(M:Nat)(X:List Nat):(BY M X).length=M:=by simp[BY]
theorem EL{M:Nat}{X:List Nat}{j:Nat}(h:j<M):(BY M X)[j]? =some (.bool (decide (j∈X))):=by
 unfold BY;rw[List.getElem?_map,List.getElem?_range h];rfl
theorem It(M:Nat):BY M []=List.replicate M (.bool false):=by
 apply List.ext_getElem?;intro j;by_cases h:j<M
 ·rw[EL h,List.getElem?_replicate,if_pos h];simp
 ·rw[List.getElem?_eq_none QM,List.getElem?_eq_none sO]
theorem ND{M:Nat}{X:List Nat}{i:Aa}(hd:(A4 i.op).d≠0)(hl:i.d.toNat<M):(BY M X).set i.d.toNat (.bool true)=BY M (Fv X i):=by
 apply List.ext_getElem?;intro j;by_cases h:j<M
 ·rw[EL h,List.getElem?_set];by_cases e:i.d.toNat=j
  ·rw[if_pos e,if_pos QM];have:j∈Fv X i:=JL.2 (.inr ⟨hd,e.symm⟩);simp[this]
  ·rw[if_neg e,EL h];have:j∈Fv X i↔j∈X:=by
    rw[JL];exact⟨fun q=>q.resolve_right fun q=>e q.2.symm,.inl⟩
   simp[this]
 ·rw[List.getElem?_eq_none (by rw[List.length_set,G7];omega),List.getElem?_eq_none QM]
theorem LD{M:Nat}{X:List Nat}{i:Aa}(hd:(A4 i.op).d=0):Fv X i=X:=by unfold Fv;rw[if_neg (fun q=>q.1 hd)]
theorem LX{B:Nat}{V:World}{p:Option Addr}{n q:Nat}{xs:List Value}(h:V.ownsRow B 4 1 (.slice p n q) n xs)(hB:B<=V.heap.size)(hn:n<=140737488351232):
 ∃g c' w',(Builtin.append_ #[47,47] 47 #[.slice p n q,.slice (some ⟨V.heap.size,0,none⟩) 1 1]).run prog (V.alloc (.cells #[.bool false] 4))=.ok (.slice (some ⟨g,0,none⟩) (n+1) c') w'/\Below B V w'/\w'.ownsRow B 4 1 (.slice (some ⟨g,0,none⟩) (n+1) c') (n+1) (xs++[.bool false]):=by
 obtain⟨i0,hi0,hz0,hz1,hz2⟩:=info_parts CT;have hb0:Below V.heap.size V (V.alloc (.cells #[.bool false] 4)):=A0 _ _;have hsz:(V.alloc (.cells #[.bool false] 4)).heap.size=V.heap.size+1:=sM;have h0:=Ac h hb0;obtain⟨g,cap,w3,hr,hown,hgrow,hat,hlt⟩:=run_append_lies (P:=prog) (V.alloc (.cells #[.bool false] 4)) 47 47 B 4 i0 _ 1 1 underlying47 hi0 hz0 hz1 hz2 rfl dE (.slice p n q) n xs h0 ⟨V.heap.size,0,none⟩ 1 1 [.bool false] rfl
  (World.news_of_block (cs:=#[.bool false]) (t:=4) (fr:=(0,0)) (heap_alloc_new V _)) Jz dE mL oM sO _ rfl
 exact⟨g,cap,w3,hr,(hb0.mono hB).grown hgrow oM (fun q e=>(h0.lt q e).1),hown⟩
def OD(o:Ob)(u:Value):List Value:=[.int .i64 o.op,.int .i64 o.par,u]
def El:List Ob->List Value->List Value
 |o::l,u::us=>OD o u++El l us
 |_,_=>[]
theorem Gy(o:Ob)(u:Value):∀ {l:List Ob} {us:List Value},l.length=us.length->El (l++[o]) (us++[u])=El l us++OD o u
 |[],[],_=>by simp[El]
 |[],_::_,h=>by simp at h
 |_::_,[],h=>by simp at h
 |a::l,b::us,h=>by simp only[List.cons_append,El];rw[Gy o u Q9,List.append_assoc]
theorem EZ:∀ (m:Nat) (l:List Ob) (us:List Value),(El l us).take (m*3)=El (l.take m) (us.take m)
 |0,l,us=>by simp[El]
 |m+1,[],us=>by simp[El]
 |m+1,a::l,[]=>by simp[El]
 |m+1,a::l,b::us=>by
  simp only[List.take_succ_cons,El];rw[show(m+1)*3=(OD a b).length+m*3 by simp[OD];omega,List.take_length_add_append,EZ m l us]
theorem JT(j:Nat)(hj:j<3):∀ {l:List Ob} {us:List Value} {k:Nat} {o:Ob} {u:Value},l[k]? =some o->us[k]? =some u->(El l us)[k*3+j]? =(OD o u)[j]?
 |[],us,k,o,u,h,_=>by simp at h
 |a::l,[],k,o,u,_,h=>by simp at h
 |a::l,b::us,0,o,u,h,h'=>by
  simp at h h';subst h h';simp only[El];rw[Nat.zero_mul,Nat.zero_add,List.getElem?_append_left (by simpa[OD]using hj)]
 |a::l,b::us,k+1,o,u,h,h'=>by
  simp only[El];rw[List.getElem?_append_right (by simp[OD];omega)];have e:(k+1)*3+j-(OD a b).length=k*3+j:=by simp[OD];omega
  rw[e];exact JT j hj Q9 (by simpa using h')
theorem Lh:(prog.info? 88).map (fun i=>(i.zero,i.size,i.bytes))=some (some (.agg #[.int .i64 0,.int .i64 0,.slice none 0 0]),3,40):=kR
structure SK(B M:Nat)(v:World)(sv ov:Value)(s:Wk)(us:List Value):Prop where
 hB:B<=v.heap.size
 set:v.ownsRow B 4 1 sv M (BY M s.set)
 opn:v.ownsRow B 88 3 ov s.opens.length (El (Gl s) us)
 len:us.length=s.opens.length
 each:∀k (h:k<us.length) o,(Gl s)[k]? =some o->v.ownsRow B 4 1 us[k] M (BY M o.set)/\∀b,sv.ownBlock=some b->us[k].ownBlock≠some b
section
variable {B M : Nat} {v v' : World} {sv ov : Value} {s : Wk} {us : List Value}
theorem SK.below(h:SK B M v sv ov s us)(k:Below v.heap.size v v'):SK B M v' sv ov s us:=
 ⟨Nat.le_trans h.hB k.size,Ac h.set k,Ac h.opn k,h.len,fun j hj o ho=>⟨Ac (h.each j hj o ho).1 k,(h.each j hj o ho).2⟩⟩
theorem EQ:88≠4:=dE
theorem SK.ins{i:Aa}{g q n:Nat}(h:SK B M v (.slice (some ⟨g,0,none⟩) M q) ov s us)(ok:CM n s)(h1:i.op≠34)(h2:i.op≠35)(h3:i.op≠36)(h4:i.op≠37)(hd:(A4 i.op).d≠0)(hl:i.d.toNat<M):
 SK B M (v.setCell ⟨g,i.d.toNat,none⟩ (.bool true)) (.slice (some ⟨g,0,none⟩) M q) ov (As s i) us:=by
 have e1:=Mt (i:=i) ok h1 h2 h3 h4;have e2:(As s i).set=Fv s.set i/\(As s i).opens=s.opens:=by rw[Eb h1 h2 h3 h4];exact⟨rfl,rfl⟩
 have hne:∀b,b≠g->(v.setCell ⟨g,i.d.toNat,none⟩ (.bool true)).heap[b]? =v.heap[b]? :=fun b hb=>Below.heap_setCell _ _ _ _ hb;refine⟨by have:=h.hB;simp;omega,?_,?_,by rw[e2.2];exact h.len,fun k hk o ho=>?_⟩
 ·rw[e2.1,←ND hd hl];exact(h.set.stored _ _).1
 ·rw[e1,e2.2];exact A7 h.opn fun b hb=>hne b fun e=>E4 h.opn h.set EQ b hb (by rw[e];rfl)
 ·rw[e1]at ho;obtain⟨a1,a2⟩:=h.each k hk o ho;exact⟨A7 a1 fun b hb=>hne b fun e=>a2 g rfl (by rw[←e];exact hb),a2⟩
theorem SK.keep{i:Aa}{n:Nat}(h:SK B M v sv ov s us)(ok:CM n s)(h1:i.op≠34)(h2:i.op≠35)(h3:i.op≠36)(h4:i.op≠37)(hd:(A4 i.op).d=0):SK B M v sv ov (As s i) us:=by
 have e:As s i=s:=by rw[Eb h1 h2 h3 h4,LD (M:=0) hd]
 rw[e];exact h
theorem OI{B:Nat}{V:World}{e t:TypeId}{z:Value}{sz by':Nat}(ht:prog.underlying t=some (.slice e))(hi:(prog.info? e).map (fun i=>(i.zero,i.size,i.bytes))=some (some z,sz,by'))(hzs:z.cells.size=sz)(hsz:0<sz){p:Option Addr}{n q:Nat}{xs:List Value}(h:V.ownsRow B e sz (.slice p n q) n xs)(hB:B<=V.heap.size)
 (cs:Array Value) (hcs:cs.size=sz) (h1:∀u∈cs.toList,u.oneCell'=true) (hn:n+1<=maxLen) (hb:(n+1)*by'<=140737488355328) (ty:TypeId):
 ∃g c' w',(Builtin.append_ #[t,t] ty #[.slice p n q,.slice (some ⟨V.heap.size,0,none⟩) 1 1]).run prog (V.alloc (.cells cs e))=.ok (.slice (some ⟨g,0,none⟩) (n+1) c') w'/\Below B V w'/\w'.ownsRow B e sz (.slice (some ⟨g,0,none⟩) (n+1) c') (n+1) (xs++cs.toList)/\∀b,b<V.heap.size->(Value.slice p n q).ownBlock≠some b->w'.heap[b]? =V.heap[b]? :=by
 obtain⟨i0,hi0,hz0,hz1,hz2⟩:=info_parts hi;have hb0:Below V.heap.size V (V.alloc (.cells cs e)):=A0 _ _;have hs:(V.alloc (.cells cs e)).heap.size=V.heap.size+1:=sM;have h0:=Ac h hb0;obtain⟨g,cap,w3,hr,hown,hgrow,hat,hlt⟩:=run_append_lies (P:=prog) (V.alloc (.cells cs e)) t ty B e i0 _ sz by' ht hi0 hz0 hz1 hz2 hzs hsz (.slice p n q) n xs h0 ⟨V.heap.size,0,none⟩ 1 1 cs.toList (by simp[hcs])
  (World.news_of_block (cs:=cs) (t:=e) (fr:=(0,0)) (heap_alloc_new V _)) h1 dE hn hb oM _ rfl
 refine⟨g,cap,w3,hr,(hb0.mono hB).grown hgrow oM (fun q e=>(h0.lt q e).1),hown,fun b hb hne=>?_⟩;rw[hgrow.block b oM (Ne.symm hne)];exact hb0.block b hb
theorem SK.push{i:Aa}{p:Option Addr}{q:Nat}{u:Value}(h:SK B M v sv (.slice p s.opens.length q) s us)(k:Below v.heap.size v v')(hu:v'.ownsRow v.heap.size 4 1 u M (BY M s.set))(hi:i.op=34\/i.op=36)(hn:s.opens.length<64)(ty:TypeId):
 ∃g c' w',(Builtin.append_ #[84,84] ty #[.slice p s.opens.length q,.slice (some ⟨v'.heap.size,0,none⟩) 1 1]).run prog (v'.alloc (.cells #[.int .i64 i.op,.int .i64 i.n,u] 88))=.ok (.slice (some ⟨g,0,none⟩) (s.opens.length+1) c') w'/\Below B v w'/\SK B M w' sv (.slice (some ⟨g,0,none⟩) (s.opens.length+1) c') (As s i) (us++[u])/\∀b,b<v'.heap.size->(Value.slice p s.opens.length q).ownBlock≠some b->w'.heap[b]? =v'.heap[b]? :=by
 have h':=h.below k;have hone:u.oneCell'=true:=by
  obtain⟨p,c,rfl⟩:=Ao hu;rfl
 obtain⟨g,c',w',hr,hb,ho,hk⟩:=OI (V:=v') underlying84 Lh rfl dE h'.opn h'.hB #[.int .i64 i.op,.int .i64 i.n,u] rfl (by intro x hx;simp at hx;rcases hx with rfl|rfl|rfl<;>first|rfl|exact hone) mL oM ty;have hs:(As s i).set=s.set/\(As s i).opens.length=s.opens.length+1:=by rw[Hj hi];exact⟨rfl,rfl⟩
 have eo:=Ms (s:=s) hi;have hsz:=k.size;refine⟨g,c',w',hr,(k.mono h.hB).trans hb,⟨Nat.le_trans h'.hB hb.size,?_,?_,by rw[hs.2,List.length_append,h.len];rfl,fun j hj o ho'=>?_⟩,hk⟩
 ·rw[hs.1];exact A7 h'.set fun b hbb=>hk b (h'.set.lt b hbb).2 (fun e=>E4 h'.opn h'.set EQ b e hbb)
 ·rw[hs.2,eo,Gy _ _ (by rw[Fz];exact h.len.symm)];exact ho
 ·rw[eo]at ho';by_cases hlt:j<us.length
  ·rw[List.getElem?_append_left (by rw[Fz,←h.len];exact hlt)]at ho';obtain⟨a1,a2⟩:=h'.each j hlt o ho';rw[List.getElem_append_left hlt];exact⟨A7 a1 fun b hbb=>hk b (a1.lt b hbb).2 (fun e=>E4 h'.opn a1 EQ b e hbb),a2⟩
  ·have hj':j=us.length:=by simp at hj;omega
   subst hj';rw[List.getElem?_append_right (by rw[Fz,h.len];exact Nat.le_refl _)]at ho';have e0:us.length-(Gl s).length=0:=by rw[Fz,h.len];omega
   rw[e0]at ho';simp at ho';subst ho';have e1:(us++[u])[us.length]'hj=u:=sM;rw[e1];refine⟨AM (A7 hu fun b hbb=>hk b (hu.lt b hbb).2 (fun e=>?_)) h.hB,fun b hbb e=>?_⟩
   ·exact E4 h'.opn hu EQ b e hbb
   ·have a1:=(hu.lt b e).1;have a2:=(h.set.lt b hbb).2;omega
theorem SK.pop{p:Option Addr}{q n:Nat}(h:SK B M v sv (.slice p s.opens.length q) s us)(ok:CM n s)(h0:0<s.opens.length)(hl:AA s=true):SK B M v sv (.slice p (s.opens.length-1) q) (AZ s) (us.take (s.opens.length-1)):=by
 refine⟨h.hB,by rw[J5 hl];exact h.set,?_,by rw[CH,List.length_take,h.len];omega,fun k hk o ho=>?_⟩
 ·rw[CH,E1 ok h0,←EZ];exact CZ h.opn oM
 ·rw[E1 ok h0]at ho;have hk':k<us.length:=by simp at hk;omega
  rw[List.getElem?_take]at ho;split at ho
  ·obtain⟨a1,a2⟩:=h.each k hk' o ho;simp only[List.getElem_take];exact⟨a1,a2⟩
  ·simp at ho
theorem SK.back{p:Option Addr}{q n:Nat}{u:Value}{o:Ob}(h:SK B M v sv (.slice p s.opens.length q) s us)(ok:CM n s)(h0:0<s.opens.length)(hl:AA s=false)(k:Below v.heap.size v v')(ho:(Gl s)[s.opens.length-1]? =some o)(hu:v'.ownsRow v.heap.size 4 1 u M (BY M o.set)):
 SK B M v' u (.slice p (s.opens.length-1) q) (AZ s) (us.take (s.opens.length-1)):=by
 refine⟨Nat.le_trans h.hB k.size,by rw[Lk hl ho h0];exact AM hu h.hB,?_,by rw[CH,List.length_take,h.len];omega,fun j hj x hx=>?_⟩
 ·rw[CH,E1 ok h0,←EZ];exact Ac (CZ h.opn oM) k
 ·rw[E1 ok h0]at hx;have hk':j<us.length:=by simp at hj;omega
  rw[List.getElem?_take]at hx;split at hx
  ·obtain⟨a1,a2⟩:=h.each j hk' x hx;simp only[List.getElem_take];refine⟨Ac a1 k,fun b hb e=>?_⟩;have b1:=(hu.lt b hb).1;have b2:=(a1.lt b e).2;omega
  ·simp at hx
theorem SK.last{g q:Nat}(h:SK B M v sv (.slice (some ⟨g,0,none⟩) s.opens.length q) s us)(h0:0<s.opens.length):∃ (X:List Nat) (u:Value),(Gl s)[s.opens.length-1]? =some ⟨if AA s then 36 else 34,BE s,X⟩/\v.ownsRow B 4 1 u M (BY M X)/\v.cell? ⟨g,(s.opens.length-1)*3,none⟩=some (.int .i64 (if AA s then 36 else 34))/\v.cell? ⟨g,(s.opens.length-1)*3+1,none⟩=some (.int .i64 (BE s))/\v.cell? ⟨g,(s.opens.length-1)*3+2,none⟩=some u:=by
 obtain⟨X,hX⟩:=Mr h0;have hu:s.opens.length-1<us.length:=by rw[h.len];omega
 obtain⟨a1,a2⟩:=h.each _ hu _ hX;have cl:=fun(j:Nat) (hj:j<3)=>JT j hj hX (List.getElem?_eq_getElem hu);have ca:=fun(j:Nat) (hj:j<3)=>h.opn.cellAt ((s.opens.length-1)*3+j) oM;refine⟨X,_,hX,a1,?_,?_,?_⟩
 ·have:=ca 0 dE;rw[cl 0 dE]at this;exact this
 ·have:=ca 1 dE;rw[cl 1 dE]at this;exact this
 ·have:=ca 2 dE;rw[cl 2 dE]at this;exact this
theorem SK.start(w:World)(B:Nat)(h:B<=w.heap.size){sv:Value}(hs:w.ownsRow B 4 1 sv M (BY M [])):SK B M w sv (.slice none 0 0) ⟨[],[]⟩ []:=
 ⟨h,hs,World.ownsRow_nil _ _ _ 3,rfl,fun k hk=>by simp at hk⟩
end
theorem NF(M:Nat)(X:List Nat):∀u∈BY M X,u.oneCell'=true:=by
 intro u hu;unfold BY at hu;simp only[List.mem_map]at hu;obtain⟨j,-,rfl⟩:=hu;rfl
theorem KV{t e:TypeId}{z:Value}{sz by':Nat}(ht:prog.underlying t=some (.slice e))(hi:(prog.info? e).map (fun i=>(i.zero,i.size,i.bytes))=some (some z,sz,by'))(p:Option Addr)(n c:Nat)(x:Option Addr)(d:Nat)(hn:n<=c)(ty:TypeId)(w:World):(Builtin.append_ #[t,t] ty #[.slice p n c,.slice x 0 d]).run prog w=.ok (.slice p n c) w:=by
 obtain⟨i0,hi0,hz0,hz1,hz2⟩:=info_parts hi;have h1:¬c<n:=oM;cases x with
 |none=>cases p<;>simp[Builtin.append_,run_underlying ht,sizeOf,typeInfo,hi0,Builtin.lenOf,Builtin.firstCells,storeCells,loadCells,loadCellsFrom,hn,h1]
 |some a=>cases p<;>simp[Builtin.append_,run_underlying ht,sizeOf,typeInfo,hi0,Builtin.lenOf,Builtin.firstCells,storeCells,loadCells,loadCellsFrom,hn,h1]
theorem Fq{B M:Nat}{X:List Nat}(v:Value)(hM:M<=16384)(w:World)(h:w.ownsRow B 4 1 v M (BY M X)):
 Calls prog 35 #[v] w fun e w'=>∃u,e=.returned u/\w'.ownsRow w.heap.size 4 1 u M (BY M X)/\Below w.heap.size w w':=by
 obtain⟨p,q,rfl⟩:=Ao h;have Cc:∃u w',(Builtin.append_ #[47,47] 47 #[.slice none 0 0,.slice p M q]).run prog w=.ok u w'/\w'.ownsRow w.heap.size 4 1 u M (BY M X)/\Below w.heap.size w w':=by
  by_cases h0:M=0
  ·subst h0;refine⟨.slice none 0 0,w,KV underlying47 CT none 0 0 p q (Nat.le_refl _) _ _,?_,C9 _⟩;have:BY 0 X=[]:=by simp[BY]
   rw[this];exact World.ownsRow_nil _ _ _ 1
  ·obtain⟨g,c,e,hl,hg⟩:=h.form oM;simp only[Value.slice.injEq]at e;obtain⟨rfl,-,rfl⟩:=e;obtain⟨i0,hi0,hz0,hz1,hz2⟩:=info_parts CT;obtain⟨g',cap,w',hr,hown,hgrow,hat,hlt⟩:=run_append_lies (P:=prog) w 47 47 w.heap.size 4 i0 _ 1 1 underlying47 hi0 hz0 hz1 hz2 rfl dE (.slice none 0 0) 0 [] (World.ownsRow_nil _ _ _ 1) ⟨g,0,none⟩ M q (BY M X) QM
    (fun j u hu=>by
     have hj:j<M:=by have:=(List.getElem?_eq_some_iff.1 hu).1;rw[G7]at this;exact this
     have e:=h.cellAt j oM;have e2:(⟨g,0,none⟩:Addr).add j=⟨g,j,none⟩:=by simp[Addr.add];omega
     rw[e2,e,hu]) (NF M X) oM mL oM (Nat.le_refl _) _ rfl
   simp only[Nat.zero_add,List.nil_append]at hr hown;exact⟨_,w',hr,hown,(Below.refl _ _).grown hgrow (Nat.le_refl _) (fun k e=>by simp[Value.ownBlock]at e)⟩
 obtain⟨u,w',hr,ho,hb⟩:=Cc;have HR:Hid ((Builtin.append_ #[47,47] 47 #[.slice none 0 0,.slice p M q]).run prog w=.ok u w'):=hr;have HO:Hid (w'.ownsRow w.heap.size 4 1 u M (BY M X)/\Below w.heap.size w w'):=⟨ho,hb⟩
 clear h hr ho hb;go_enter func35,ntmps35;go_wp2_with(at_builtin;refine Ay rF _ _ _ rF _ _ _ rF rF HR.out ?_);go_ret;exact⟨u,rfl,HO.out.1,HO.out.2⟩
theorem Di{P:Program}{w w':World}{o:Oper}{a:Act}{K:Act->World->Prop}{Q:Exit->Act->World->Prop}(s x:Operand)(t:TypeId)
 (ho:o.op=.call {callee:=.builtin .append,args:=#[s,x],argTypes:=#[t,t]}) (v v2 v':Value) (hs:a.eval s=v) (hx:a.eval x=v2) (hr:(Builtin.append_ #[t,t] o.type #[v,v2]).run P w=.ok v' w')
 (h:K (a.put o.dst v') w') (y':Bool) (hy:y'=true):if y'=true then Oper.wp P o a w K Q else K (a.put o.dst undef) w:=by
 rw[if_pos hy];exact Sz
def Ql(L:Lt):Bool:=decide (L.a=45->L.b=45->L.e=45\/L.e=113)&&(decide (L.a=45->L.b≠45->L.e=45\/L.e=112\/L.e=115)&&decide (L.a≠45->L.e=45\/L.e=105\/L.e=112\/L.e=115))
theorem OF{p:Prop}[Decidable p]{x y:Lt}(h:Ql x=true)(k:Ql y=true):Ql (if p then x else y)=true:=by
 split
 ·exact h
 ·exact k
theorem Ox(op:Int):Ql (Cj op)=true:=by
 unfold Cj
 iterate 19 refine OF dE ?_
 decide
theorem LA(v0 v1 v2 v3:Value)(c:Cd)(co:Ba c)(hT:Ap c=true)(i:Aa)(h0:0<=i.bits)(h1:i.bits<4294967296)(hk:An i.op=true)(h2:(i.op==1||i.bits==0)=true)(h3:BL i.bits=true)(w:World)(hv:BP w v0 v1 v2 v3 c):
 Calls prog 50 #[.agg #[v0,v1,v2,v3],B9 i] w fun e w'=>e=.returned (.bool (CG c i (Cj i.op)))/\Below w.heap.size w w':=by
 have HCAN:Hid (∀w,Calls prog 49 #[.int .u32 i.bits] w fun e w'=>e=.returned (.bool true)/\Below w.heap.size w w'):=by rw[←h3];exact Cy i.bits h0 h1
 obtain⟨a,b,cc,d,e,⟨ea,eb,ec,ed,ee⟩,hc⟩:=Ky i.op hk;obtain⟨oa,ob,oc,od,oe,oT⟩:=PD i.op;have om:=Ox i.op;unfold Ql at om;simp only[Bool.and_eq_true,decide_eq_true_eq]at om;obtain⟨m1,m2,m3⟩:=om;have hF:CG c i (Cj i.op)=(Aj c.regs (Cj i.op).a i.d ⟨0,0⟩&&(Aj c.regs (Cj i.op).b i.a (dR c.regs (Cj i.op).a i.d)&&(Aj c.regs (Cj i.op).c i.b (dR c.regs (Cj i.op).a i.d)&&(Aj c.regs (Cj i.op).d i.c (dR c.regs (Cj i.op).a i.d)&&BZ c (Cj i.op).e i.n (tR c.regs (Cj i.op).a (Cj i.op).b i.d i.a))))):=by
  unfold CG;rw[h2,h3,Bool.true_and,Bool.true_and]
 rw[hF];clear hF h3;have ix0:∀w,(Instr.index 9 (.string ⟨#[a,b,cc,d,e]⟩) (.int .i64 0)).run prog w=.ok (.int .u8 (Cj i.op).a) w:=fun w=>by rw[←ea];simp[Instr.index,run_underlying underlying9,asIntOf,go_sem];rfl
 have ix1:∀w,(Instr.index 9 (.string ⟨#[a,b,cc,d,e]⟩) (.int .i64 1)).run prog w=.ok (.int .u8 (Cj i.op).b) w:=fun w=>by rw[←eb];simp[Instr.index,run_underlying underlying9,asIntOf,go_sem];rfl
 have ix2:∀w,(Instr.index 9 (.string ⟨#[a,b,cc,d,e]⟩) (.int .i64 2)).run prog w=.ok (.int .u8 (Cj i.op).c) w:=fun w=>by rw[←ec];simp[Instr.index,run_underlying underlying9,asIntOf,go_sem];rfl
 have ix3:∀w,(Instr.index 9 (.string ⟨#[a,b,cc,d,e]⟩) (.int .i64 3)).run prog w=.ok (.int .u8 (Cj i.op).d) w:=fun w=>by rw[←ed];simp[Instr.index,run_underlying underlying9,asIntOf,go_sem];rfl
 have Mb:∀w,(Instr.index 9 (.string ⟨#[a,b,cc,d,e]⟩) (.int .i64 4)).run prog w=.ok (.int .u8 (Cj i.op).e) w:=fun w=>by rw[←ee];simp[Instr.index,run_underlying underlying9,asIntOf,go_sem];rfl
 cases h:(i.op==1)
 ·rw[h,Bool.false_or]at h2;have o2:(i.op != 1)=true:=by simpa using h
  have o4:(i.bits != 0)=false:=by simpa using h2
  by_cases hz:(Cj i.op).a=45
  ·exact OO v0 v1 v2 v3 c co hT i.op i.d i.a i.b i.c i.n i.bits _ _ _ _ _ a b cc d e hc HCAN ix0 ix1 ix2 ix3 Mb oa ob oc od oT h o2 h2 o4 hz (m1 hz) (m2 hz) w hv
  ·exact OP v0 v1 v2 v3 c co hT i.op i.d i.a i.b i.c i.n i.bits _ _ _ _ _ a b cc d e hc HCAN ix0 ix1 ix2 ix3 Mb oa ob oc od oT h o2 h2 o4 hz (m3 hz) w hv
 ·have o2:(i.op != 1)=false:=by simpa using h
  have e1:i.op=1:=by simpa using h
  have ha:(Cj i.op).a≠45:=by rw[e1];decide
  have he:(Cj i.op).e=45:=by rw[e1];rfl
  exact OQ v0 v1 v2 v3 c co hT i.op i.d i.a i.b i.c i.n i.bits _ _ _ _ _ a b cc d e hc HCAN ix0 ix1 ix2 ix3 Mb oa ob oc od oT h o2 ha he w hv
def Cf(LB:Nat)(os:List Nat):List Value:=os.map fun o=>.pointer (some ⟨LB,o,none⟩)
theorem MG(LB:Nat)(a b:List Nat):Cf LB (a++b)=Cf LB a++Cf LB b:=by simp[Cf]
theorem Ma:(prog.info? 79).map (fun i=>(i.zero,i.size,i.bytes))=some (some (.pointer none),1,8):=kR
theorem JB{E LB:Nat}{V:World}{p:Option Addr}{q:Nat}{os:List Nat}(h:V.ownsRow E 79 1 (.slice p os.length q) os.length (Cf LB os))(hE:E<=V.heap.size){RB d:Nat}(ns:List Nat)(hn:∀j (hj:j<ns.length),V.cell? ⟨RB,j,none⟩=some (.pointer (some ⟨LB,ns[j],none⟩)))(hl:os.length+ns.length<=1000000)(ty:TypeId):
 ∃p' q' w',(Builtin.append_ #[51,51] ty #[.slice p os.length q,.slice (some ⟨RB,0,none⟩) ns.length d]).run prog V=.ok (.slice p' (os.length+ns.length) q') w'/\w'.ownsRow E 79 1 (.slice p' (os++ns).length q') (os++ns).length (Cf LB (os++ns))/\Below E V w'/\∀b,b<V.heap.size->(Value.slice p os.length q).ownBlock≠some b->w'.heap[b]? =V.heap[b]? :=by
 obtain⟨i0,hi0,hz0,hz1,hz2⟩:=info_parts Ma;obtain⟨v',w',hr,h2,h3,-,-⟩:=run_append_own_at (P:=prog) V E 51 ty 79 i0 _ 1 8 underlying51 hi0 hz0 hz1 hz2 rfl dE (.slice p os.length q) os.length (Cf LB os) h ⟨RB,0,none⟩ ns.length d (Cf LB ns) (by simp[Cf]) (fun j u hu=>by
  have hj:j<ns.length:=by have:=(List.getElem?_eq_some_iff.1 hu).1;simpa[Cf]using this
  have hadd:(⟨RB,0,none⟩:Addr).add j=⟨RB,j,none⟩:=by unfold Addr.add;split<;>simp_all
  rw[hadd,hn j hj]
  simpa[Cf,hj]using hu) (by simp[Cf,Value.oneCell']) mL oM hE
 obtain⟨p',q',rfl⟩:=Ao h2;refine⟨p',q',w',hr,?_,(Below.refl E V).grown h3 hE (fun b e=>(h.lt b e).1),fun b hb hne=>h3.block b hb (fun e=>hne e.symm)⟩;rw[List.length_append,MG];exact h2
theorem Hv{E LB:Nat}{V:World}{p:Option Addr}{q:Nat}{os:List Nat}(h:V.ownsRow E 79 1 (.slice p os.length q) os.length (Cf LB os))(hE:E<=V.heap.size)(o:Nat)(hl:os.length+1<=1000000)(ty:TypeId):
 ∃p' q' w',(Builtin.append_ #[51,51] ty #[.slice p os.length q,.slice (some ⟨V.heap.size,0,none⟩) 1 1]).run prog (V.alloc (.cells #[.pointer (some ⟨LB,o,none⟩)] 79))=.ok (.slice p' (os.length+1) q') w'/\w'.ownsRow E 79 1 (.slice p' (os++[o]).length q') (os++[o]).length (Cf LB (os++[o]))/\Below E V w'/\∀b,b<V.heap.size->(Value.slice p os.length q).ownBlock≠some b->w'.heap[b]? =V.heap[b]? :=by
 have hb0:Below V.heap.size V (V.alloc (.cells #[.pointer (some ⟨LB,o,none⟩)] 79)):=A0 _ _;obtain⟨p',q',w',h1,h2,h3,h4⟩:=JB (LB:=LB) (Ac h hb0) (Nat.le_trans hE hb0.size) (RB:=V.heap.size) (d:=1) [o] (fun j hj=>by
  have:j=0:=by simp only[List.length_cons,List.length_nil]at hj;omega
  subst this
  simp[go_sem]) hl ty
 exact⟨p',q',w',h1,h2,(hb0.mono hE).trans h3,fun b hb hne=>(h4 b (Nat.lt_of_lt_of_le hb hb0.size) hne).trans (hb0.block b hb)⟩
def Bb(l:List Aa):Nat->List Nat
 |0=>[]
 |j+1=>match l[j]? with
  |some i=>(Bb l j++(if Ad i=true then [7*j+1]else []))++[7*j+2,7*j+3,7*j+4].take (A9 i (A4 i.op)).length
  |none=>Bb l j
def Bh(l:List Aa):Nat->List Nat
 |0=>[]
 |j+1=>match l[j]? with
  |some i=>Bh l j++(if i.op=32\/i.op=33 then [7*j+5]else [])
  |none=>Bh l j
theorem F0{l:List Aa}{j:Nat}(hj:j<l.length):Bb l (j+1)=(Bb l j++(if Ad l[j]=true then [7*j+1]else []))++[7*j+2,7*j+3,7*j+4].take (A9 l[j] (A4 l[j].op)).length:=by
 rw[Bb,List.getElem?_eq_getElem hj]
theorem F1{l:List Aa}{j:Nat}(hj:j<l.length):Bh l (j+1)=Bh l j++(if l[j].op=32\/l[j].op=33 then [7*j+5]else []):=by
 rw[Bh,List.getElem?_eq_getElem hj]
theorem F5(i:Aa):(A9 i (A4 i.op)).length<=3:=by
 rw[D5];have h1:=Ck (A4 i.op).a i.a;have h2:=Ck (A4 i.op).b i.b;have h3:=Ck (A4 i.op).c i.c;simp only[List.length_append];omega
theorem FT(l:List Aa):∀j,(Bb l j).length<=4*j
 |0=>Nat.le_refl _
 |j+1=>by
  have ih:=FT l j;rw[Bb];split
  ·rename_i i _;simp only[List.length_append,List.length_take,List.length_cons,List.length_nil];have:(if Ad i=true then [7*j+1]else []).length<=1:=by split<;>simp
   omega
  ·omega
theorem FV(l:List Aa):∀j,(Bh l j).length<=j
 |0=>Nat.le_refl _
 |j+1=>by
  have ih:=FV l j;rw[Bh];split
  ·rename_i i _;simp only[List.length_append];have:(if i.op=32\/i.op=33 then [7*j+5]else []).length<=1:=by split<;>simp
   omega
  ·omega
theorem MJ(l:List Aa)(w:World)(p:Option Addr)(cap LB:Nat)(hp:0<l.length->p=some ⟨LB,0,none⟩)(hr:AR 7 Bf w (.slice p l.length cap) l)(hl:l.length<=32768):
 Calls prog 13 #[.slice p l.length cap] w fun e w'=>∃q d,e=.returned (.slice q (Bb l l.length).length d)/\w'.ownsRow w.heap.size 79 1 (.slice q (Bb l l.length).length d) (Bb l l.length).length (Cf LB (Bb l l.length))/\Below w.heap.size w w':=by
 have HR:=A2 hr;obtain⟨M,hM⟩:∃M,l.length=M:=⟨_,rfl⟩
 have HM:=A2 hM;simp only[hM]at HR hp hl ⊢;obtain⟨E,hE⟩:∃E,w.heap.size=E:=⟨_,rfl⟩
 have HE:=A2 hE;simp only[hE];have HP:=A2 hp;clear hr hM hE hp;go_enter func13,ntmps13;go_wp2
 go_loopw [9,3] (fun iv lv wr=>∃ (j:Nat) (q:Option Addr) (d:Nat),j<=M/\iv=.int .i64 (j:Int)/\lv=.slice q (Bb l j).length d/\Hid (Below E w wr/\E<=wr.heap.size/\wr.ownsRow E 79 1 (.slice q (Bb l j).length d) (Bb l j).length (Cf LB (Bb l j)))) (fun iv _ _=>M-(intOf iv).toNat)
 case atStart=>exact⟨0,none,0,Nat.zero_le _,rfl,rfl,Below.refl E w,by rw[HE.out];exact Nat.le_refl _,World.ownsRow_nil _ _ _ 1⟩
 case round=>
  obtain⟨j,q,d',hj,rfl,rfl,HJ⟩:=hrel;by_cases hlt:j<M
  ·have hjl:j<l.length:=by have:=HM.out;omega
   have hpe:=HP.out oM;subst hpe;obtain⟨hbj,hEw,hO⟩:=HJ.out;have HRV:Hid (∀v,Below E w v->AR 7 Bf v (.slice (some ⟨LB,0,none⟩) M cap) l):=fun v hv=>HR.out.below (by rw[HE.out];exact hv);have HCV:Hid (∀v,Below E w v->Ai v LB (7*j) (Bf l[j])):=fun v hv=>by
    obtain⟨b,o,e,h9⟩:=(HRV.out v hv).at hjl;simp only[Option.some.injEq,Addr.mk.injEq]at e;obtain⟨rfl,rfl,-⟩:=e;rw[Nat.zero_add,Nat.mul_comm]at h9;exact h9
   have HNX:=A2 (F0 hjl);have HLE:Hid ((Bb l j).length<=200000):=by have:=FT l j;show _<=_;omega
   have HRL:=A2 (F5 l[j]);obtain⟨⟨op,d,a,b,e,n,z⟩,hi⟩:∃i,l[j]=i:=⟨_,rfl⟩
   rw[hi]at HCV HNX HRL;have HYY:Hid (∀v,Below E w v->v.cell? ⟨LB,7*j,none⟩=some (.int .i64 op)/\v.cell? ⟨LB,7*j+1,none⟩=some (.int .i64 d)/\v.cell? ⟨LB,7*j+2,none⟩=some (.int .i64 a)/\v.cell? ⟨LB,7*j+3,none⟩=some (.int .i64 b)/\v.cell? ⟨LB,7*j+4,none⟩=some (.int .i64 e)/\v.cell? ⟨LB,7*j+5,none⟩=some (.int .i64 n)/\v.cell? ⟨LB,7*j+6,none⟩=some (.int .u32 z)):=fun v hv=>by
    have hcl:=HCV.out v hv;exact⟨by have h9:=hcl.at 0 (v:=.int .i64 op) rfl;rw[Nat.add_zero]at h9;exact h9,hcl.at 1 rfl,hcl.at 2 rfl,hcl.at 3 rfl,hcl.at 4 rfl,hcl.at 5 rfl,hcl.at 6 rfl⟩
   obtain⟨y0,y1,y2,y3,y4,y5,y6⟩:=HYY.out wr hbj;have i1:(0:Int)<=(j:Int):=oM;have i2:(j:Int)<(M:Int):=oM;have wi:IntKind.i64.wrap ((j:Int)+1)=((j+1:Nat):Int):=by rw[IntKind.wrap_i64];omega
   have j7:j*7=7*j:=Nat.mul_comm _ _;have KS:=A2 (fun v=>Iv ⟨op,d,a,b,e,n,z⟩ v);have KR:=A2 (fun v=>GD ⟨op,d,a,b,e,n,z⟩ v);unfold B9 at KS KR;simp only at KS KR;obtain⟨P0,hP0⟩:∃P,Bb l j=P:=⟨_,rfl⟩
   rw[hP0]at hO HNX HLE;rw[hP0];have HBJ:=A2 hbj;have HEW:=A2 hEw;have HO:=A2 hO;obtain⟨rs,hrs⟩:∃rs,A9 (⟨op,d,a,b,e,n,z⟩:Aa) (A4 op)=rs:=⟨_,rfl⟩
   simp only[hrs]at KR HNX HRL;clear hi hbj hEw hO HJ hP0 hrs HCV;obtain⟨P1,hP1⟩:∃P,P0++(if Ad (⟨op,d,a,b,e,n,z⟩:Aa)=true then [7*j+1]else [])=P:=⟨_,rfl⟩
   rw[hP1]at HNX;have HP1L:Hid (P1.length<=200001):=by
    rw[←hP1,List.length_append];have h9:(if Ad (⟨op,d,a,b,e,n,z⟩:Aa)=true then [7*j+1]else []).length<=1:=by split<;>simp
    have:=HLE.out;show _<=_;omega
   have HP1:=A2 hP1;clear hP1;obtain⟨sb,hsb⟩:∃sb,((A4 op).d != 0)=sb:=⟨_,rfl⟩
   have hsB:Ad (⟨op,d,a,b,e,n,z⟩:Aa)=sb:=by rw[←hsb];simp only[Ad];by_cases h9:(A4 op).d=0<;>simp[h9]
   rw[hsB]at HP1;simp only[hsb]at KS;clear hsb hsB;go_upto_if 18 with(go_at_call 29;(with_reducible refine(KS.out _).mono ?_);rintro e9 w4 ⟨rfl,hb4⟩;have HB4:=A2 hb4;clear hb4)
   go_cut [3] (fun lv wx=>∃ (q:Option Addr) (d':Nat),lv=.slice q P1.length d'/\Hid (Below E w wx/\E<=wx.heap.size/\wx.ownsRow E 79 1 (.slice q P1.length d') P1.length (Cf LB P1)))
   case first=>
    cases sb with
    |false=>
     have HP2:Hid (P1=P0):=by show _=_;rw[←HP1.out];simp
     go_wp2;go_meet;rw[HP2.out];exact⟨q,d',rfl,HBJ.out.trans (HB4.out.mono HEW.out),Nat.le_trans HEW.out HB4.out.size,Ac HO.out HB4.out⟩
    |true=>
     have HP2:Hid (P1=P0++[7*j+1]):=by show _=_;rw[←HP1.out];simp
     obtain⟨p',q',w5,r1,r2,r3,-⟩:=Hv (LB:=LB) (Ac HO.out HB4.out) (Nat.le_trans HEW.out HB4.out.size) (7*j+1) (by have:=HLE.out;omega) 51;rw[←HP2.out]at r2;have HR1:=A2 r1;have HR2:=A2 r2;have HR3:=A2 r3;have HLN:Hid (P1.length=P0.length+1):=by show _=_;rw[HP2.out];simp
     clear r1 r2 r3;go_wp2_with(at_builtin;refine Ay rF _ _ _ rF _ _ _ rF rF HR1.out ?_);go_meet;refine⟨p',q',by rw[HLN.out],(HBJ.out.trans (HB4.out.mono HEW.out)).trans HR3.out,Nat.le_trans (Nat.le_trans HEW.out HB4.out.size) HR3.out.size,HR2.out⟩
   case rest=>
    obtain⟨q5,d5,rfl,HC5⟩:=hcut;obtain⟨hb5,hE5,ho5⟩:=HC5.out;have HB5:=A2 hb5;have HE5:=A2 hE5;have HO5:=A2 ho5;obtain⟨u0,-⟩:=HYY.out wc hb5;have lLB:LB<wc.heap.size:=Ab u0;have nLB:¬LB=wc.heap.size:=oM;have k0:∀o,(wc.alloc o).cell? ⟨LB,7*j,none⟩=some (.int .i64 op):=fun o=>kc (A0 _ _) u0;clear HC5 hb5 hE5 ho5 HO y0 y1 y2 y3 y4 y5 y6 HBJ HEW KS HB4;go_upto_region 8 with fail;refine rG (fun v=>v.cell? ⟨LB,7*j,none⟩=some (.int .i64 op)) fun hHeld=>?_;refine Tf 0 1 2 3 4 5 ?_;refine Tc 6 7 8 ?_;refine Bw 9 ?_;clear hHeld;refine Ax 10 fun K hK=>?_;go_simp;refine Aw hK fun hHeld=>?_;clear hK K;clear hHeld;refine Ax 11 fun K hK=>?_;go_simp;refine Aw hK fun hHeld=>?_;clear hK K;refine wpAnyH_done kR ?_ _;obtain⟨W6,hW6⟩:∃W,(wc.alloc (.cells #[.pointer (some ⟨LB,7*j+2,none⟩),.pointer (some ⟨LB,7*j+3,none⟩),.pointer (some ⟨LB,7*j+4,none⟩)] 80)).drew=W:=⟨_,rfl⟩
    rw[hW6];have HB6:Hid (Below wc.heap.size wc W6):=by rw[←hW6];exact bel (A0 _ _) (Ae _)
    have HX6:Hid (∀k (hk:k<3),W6.cell? ⟨wc.heap.size,k,none⟩=some (.pointer (some ⟨LB,[7*j+2,7*j+3,7*j+4][k],none⟩))):=fun k hk=>by
     rw[←hW6];rcases(show k=0\/k=1\/k=2 by omega)with rfl|rfl|rfl<;>simp[go_sem]
    have HBW:Hid (Below E w W6):=HB5.out.trans (HB6.out.mono HE5.out);obtain⟨y0,y1,y2,y3,y4,y5,y6⟩:=HYY.out W6 HBW.out;obtain⟨m,hm⟩:∃m,rs.length=m:=⟨_,rfl⟩
    have HNS:Hid (([7*j+2,7*j+3,7*j+4].take rs.length).length=m):=by show _=_;have:=HRL.out;rw[List.length_take];simp only[List.length_cons,List.length_nil];omega
    have HMM:Hid (m<=3):=by rw[←hm];exact HRL.out
    have m3:(m:Int)<=3:=by have:=HMM.out;omega
    have m4:m<=3:=HMM.out;have m5:(0:Int)<=(m:Int):=oM;simp only[hm]at KR;clear hW6 hm u0 k0;go_upto_region 9 with fail;go_wp2_with(first
     |(go_at_call 30;(with_reducible refine(KR.out _).mono ?_);rintro e9 w7 ⟨v7,rfl,ho7,hb7⟩;obtain⟨p7,q7,rfl⟩:=Ao ho7;have HB7:=A2 hb7;obtain⟨p',q',w8,r1,r2,r3,-⟩:=JB (LB:=LB) (RB:=wc.heap.size) (d:=3) (Ac HO5.out (bel HB6.out HB7.out)) (Nat.le_trans HE5.out (bel HB6.out HB7.out).size) ([7*j+2,7*j+3,7*j+4].take rs.length) (fun k hk=>by
      have h9:k<3:=by have:=HNS.out;have:=HMM.out;omega
      rw[List.getElem_take]
      exact kc HB7.out (HX6.out k h9)) (by have:=HNS.out;have:=HMM.out;have:=HP1L.out;omega) 51;rw[←HNX.out]at r2;rw[HNS.out]at r1;have HR1:=A2 r1;have HR2:=A2 r2;have HR3:=A2 r3;clear r1 r2 r3 ho7 hb7)
     |(at_builtin;refine Ay rF _ _ _ rF _ _ _ rF rF HR1.out ?_))
    go_roundw
    case rel=>
     refine⟨j+1,p',q',oM,gN,?_,(HBW.out.trans (HB7.out.mono (Nat.le_trans HE5.out HB6.out.size))).trans HR3.out,Nat.le_trans (Nat.le_trans HE5.out (bel HB6.out HB7.out).size) HR3.out.size,HR2.out⟩;rw[HNX.out,List.length_append,HNS.out]
    case measure=>simp[intOf];omega
  ·have e9:¬ (j:Int)<(M:Int):=oM;have hjn:j=M:=oM;subst hjn;have HE2:=A2 (And.intro HJ.out.2.2 HJ.out.1);clear hlt HJ;go_wp2;refine bodyPost_ret (by simp[results,results13,go_sem, *];try rfl) rfl ?_;exact⟨_,_,rfl,HE2.out.1,HE2.out.2⟩
theorem NL(l:List Aa)(w:World)(p:Option Addr)(cap LB:Nat)(hp:0<l.length->p=some ⟨LB,0,none⟩)(hr:AR 7 Bf w (.slice p l.length cap) l)(hl:l.length<=32768):
 Calls prog 15 #[.slice p l.length cap] w fun e w'=>∃q d,e=.returned (.slice q (Bh l l.length).length d)/\w'.ownsRow w.heap.size 79 1 (.slice q (Bh l l.length).length d) (Bh l l.length).length (Cf LB (Bh l l.length))/\Below w.heap.size w w':=by
 have HR:=A2 hr;obtain⟨M,hM⟩:∃M,l.length=M:=⟨_,rfl⟩
 have HM:=A2 hM;simp only[hM]at HR hp hl ⊢;obtain⟨E,hE⟩:∃E,w.heap.size=E:=⟨_,rfl⟩
 have HE:=A2 hE;simp only[hE];have HP:=A2 hp;clear hr hM hE hp;go_enter func15,ntmps15;go_wp2
 go_loopw [8,3] (fun iv lv wr=>∃ (j:Nat) (q:Option Addr) (d:Nat),j<=M/\iv=.int .i64 (j:Int)/\lv=.slice q (Bh l j).length d/\Hid (Below E w wr/\E<=wr.heap.size/\wr.ownsRow E 79 1 (.slice q (Bh l j).length d) (Bh l j).length (Cf LB (Bh l j)))) (fun iv _ _=>M-(intOf iv).toNat)
 case atStart=>exact⟨0,none,0,Nat.zero_le _,rfl,rfl,Below.refl E w,by rw[HE.out];exact Nat.le_refl _,World.ownsRow_nil _ _ _ 1⟩
 case round=>
  obtain⟨j,q,d',hj,rfl,rfl,HJ⟩:=hrel;by_cases hlt:j<M
  ·have hjl:j<l.length:=by have:=HM.out;omega
   have hpe:=HP.out oM;subst hpe;obtain⟨hbj,hEw,hO⟩:=HJ.out;have HNX:=A2 (F1 hjl);have HLE:Hid ((Bh l j).length<=200000):=by have:=FV l j;show _<=_;omega
   obtain⟨b0,o0,e0,hcl⟩:=(HR.out.below (by rw[HE.out];exact hbj)).at hjl;simp only[Option.some.injEq,Addr.mk.injEq]at e0;obtain⟨rfl,rfl,-⟩:=e0;rw[Nat.zero_add,Nat.mul_comm]at hcl;obtain⟨⟨op,d,a,b,e,n,z⟩,hi⟩:∃i,l[j]=i:=⟨_,rfl⟩
   rw[hi]at hcl HNX;have y0:=hcl.at 0 (v:=.int .i64 op) rfl;rw[Nat.add_zero]at y0;have i1:(0:Int)<=(j:Int):=oM;have i2:(j:Int)<(M:Int):=oM;have wi:IntKind.i64.wrap ((j:Int)+1)=((j+1:Nat):Int):=by rw[IntKind.wrap_i64];omega
   have j7:j*7=7*j:=Nat.mul_comm _ _;obtain⟨P0,hP0⟩:∃P,Bh l j=P:=⟨_,rfl⟩
   rw[hP0]at hO HNX HLE;rw[hP0];simp only at HNX;have HBJ:=A2 hbj;have HEW:=A2 hEw;have HO:=A2 hO;clear hi hbj hEw hO HJ hP0 hcl;by_cases ho:op=32\/op=33
   ·rw[if_pos ho]at HNX;obtain⟨p',q',w5,r1,r2,r3,-⟩:=Hv (LB:=LB) HO.out HEW.out (7*j+5) (by have:=HLE.out;omega) 51;rw[←HNX.out]at r2;have HR1:=A2 r1;have HR2:=A2 r2;have HR3:=A2 r3;have HLN:Hid ((Bh l (j+1)).length=P0.length+1):=by show _=_;rw[HNX.out];simp
    clear r1 r2 r3 HNX;rcases ho with ho|ho
    ·have o1:(op==32)=true:=by simpa using ho
     exact Sh
    ·have o1:(op==32)=false:=sO;have o2:(op==33)=true:=by simpa using ho
     exact Sh
   ·rw[if_neg ho,List.append_nil]at HNX;have o1:(op==32)=false:=sO;have o2:(op==33)=false:=sO;clear ho;go_wp2;go_roundw
    case rel=>
     refine⟨j+1,q,d',oM,gN,by rw[HNX.out],HBJ.out,HEW.out,?_⟩;rw[HNX.out];exact HO.out
    case measure=>simp[intOf];omega
  ·have e9:¬ (j:Int)<(M:Int):=oM;have hjn:j=M:=oM;subst hjn;have HE2:=A2 (And.intro HJ.out.2.2 HJ.out.1);clear hlt HJ;go_wp2;refine bodyPost_ret (by simp[results,results15,go_sem, *];try rfl) rfl ?_;exact⟨_,_,rfl,HE2.out.1,HE2.out.2⟩
section
variable {c : Cd} {G P : List (List Int)}
theorem Gm:(pruneC c).list.length<=c.list.length:=DO _ _ _ _
theorem OL{K:Nat->Bool}{f:Aa->Aa}{l:List Aa}{k:Nat}(hk:k<l.length)(hK:K k=true):∀j,k<j->j<=l.length->f l[k]∈AH K f l j:=by
 intro j;induction j with
 |zero=>intro h;omega
 |succ j ih=>
  intro h1 h2;by_cases e:k=j
  ·subst e;rw[Cx hk hK];simp
  ·have:=ih oM oM;show _∈AH K f l j++_;exact List.mem_append.2 (.inl this)
theorem JQ{K:Nat->Bool}{f:Aa->Aa}{l:List Aa}{i:Aa}:∀j,j<=l.length->i∈AH K f l j->∃k,∃hk:k<l.length,k<j/\K k=true/\i=f l[k]:=by
 intro j;induction j with
 |zero=>intro _ h;cases h
 |succ j ih=>
  intro hj h;have hjl:j<l.length:=oM;cases hK:K j with
  |true=>
   rw[Cx hjl hK]at h;rcases List.mem_append.1 h with e|e
   ·obtain⟨k,hk,h1,h2,h3⟩:=ih oM e;exact⟨k,hk,oM,h2,h3⟩
   ·simp only[List.mem_singleton]at e;exact⟨j,hjl,oM,hK,e⟩
  |false=>
   rw[EE hK]at h;obtain⟨k,hk,h1,h2,h3⟩:=ih oM h;exact⟨k,hk,oM,h2,h3⟩
end
theorem EU(p:Nat->Bool)(k:Nat):Ak p (k+1)=Ak p k+(if p k=true then 1 else 0):=by
 unfold Ak;rw[List.range_succ,List.filter_append,List.length_append];congr 1;by_cases h:p k=true
 ·simp[h]
 ·simp[h]
theorem Ex{p:Nat->Bool}:∀r,(∀s,s<r->p s=true)->Ak p r=r
 |0,_=>rfl
 |r+1,h=>by rw[EU,Ex r (fun s hs=>h s oM),if_pos (h r oM)]
section
variable {K : Nat -> Bool} {f : Aa -> Aa} {l : List Aa}
theorem Jk:∀j,j<=l.length->(AH K f l j).length=Ak K j:=by
 intro j;induction j with
 |zero=>intro _;rfl
 |succ j ih=>
  intro hj;have h:=ih oM;rw[EU];cases hK:K j with
  |true=>rw[Cx oM hK,List.length_append,h];simp
  |false=>rw[EE hK,h];simp
theorem OK:∀j,j<=l.length->(∀k,k<l.length->K k=true)->(∀i∈l,f i=i)->AH K f l j=l.take j:=by
 intro j;induction j with
 |zero=>intro _ _ _;rfl
 |succ j ih=>
  intro hj hK hf;rw[Cx oM (hK j oM),ih oM hK hf,hf _ (List.getElem_mem oM),List.take_succ_eq_append_getElem oM]
end
section
variable {c c' : Cd} {K U : Nat -> Bool} {F : Aa -> Aa} {rho : Nat -> Nat}
end
section
variable {c : Cd}
theorem JW{α:Type}{p:Nat->Bool}{l:List α}(h:∀r,r<l.length->p r=true):AO p l=l:=by
 apply List.ext_getElem?;intro t;by_cases ht:t<l.length
 ·have h9:=Hc (p:=p) ht (h t ht);rw[Ex t (fun s hs=>h s oM)]at h9;exact h9
 ·rw[List.getElem?_eq_none (by have:=He p l;omega),List.getElem?_eq_none oM]
end
theorem Bd{w:World}{b b' n n':Nat}{t t':TypeId}{f f':Nat->Value}(h:w.rowIs b t n f)(h':w.rowIs b' t' n' f')(ht:t≠t'):b≠b':=fun e=>by
 subst e;obtain⟨c,hc,-⟩:=h;obtain⟨c',hc',-⟩:=h';rw[hc]at hc';simp only[Option.some.injEq,Obj.cells.injEq]at hc';exact ht hc'.2.1
theorem AF{w:World}{B:Nat}{t t':TypeId}{k n n' b:Nat}{v:Value}{xs:List Value}{f:Nat->Value}(h:w.ownsRow B t k v n xs)(h':w.rowIs b t' n' f)(ht:t≠t'):v.ownBlock≠some b:=by
 exact Se
def Fp(offs:List Nat)(val:Nat->Nat)(r:Nat):Bool:=offs.any fun o=>val o==r
theorem Mk{offs:List Nat}{j:Nat}(hj:j<offs.length)(val:Nat->Nat)(r:Nat):Fp (offs.take (j+1)) val r=if r=val offs[j]then true else Fp (offs.take j) val r:=by
 unfold Fp;rw[List.take_succ_eq_append_getElem hj,List.any_append];by_cases e:r=val offs[j]
 ·rw[if_pos e,e];simp
 ·rw[if_neg e];have:(val offs[j]==r)=false:=by simpa using fun q=>e q.symm
  simp[this]
theorem JS{offs:List Nat}{val:Nat->Nat}{o:Nat}(h:o∈offs):Fp offs val (val o)=true:=List.any_eq_true.2 ⟨o,h,sM⟩
def Av{α:Type}(p:Nat->Bool)(l:List α):Nat->List α
 |0=>[]
 |j+1=>Av p l j++(match l[j]? with |some x=>if p j then [x]else [] |none=>[])
theorem C7{α:Type}(p:Nat->Bool){l:List α}{j:Nat}(hj:j<l.length):Av p l (j+1)=if p j=true then Av p l j++[l[j]]else Av p l j:=by
 rw[Av,List.getElem?_eq_getElem hj];by_cases hp:p j=true
 ·simp[hp]
 ·simp[hp]
theorem If{α:Type}(p:Nat->Bool)(l:List α):∀n,n<=l.length->((List.range n).filter p).filterMap (fun r=>l[r]?)=Av p l n
 |0,_=>rfl
 |n+1,h=>by
  rw[List.range_succ,List.filter_append,List.filterMap_append,If p l n oM,C7 p oM];by_cases hp:p n=true
  ·simp[hp,show n<l.length by omega]
  ·simp[hp]
theorem E5{α:Type}(p:Nat->Bool)(l:List α):Av p l l.length=AO p l:=(If p l l.length (Nat.le_refl _)).symm
theorem E6{α:Type}(p:Nat->Bool)(l:List α):∀n,n<=l.length->(Av p l n).length=Ak p n
 |0,_=>rfl
 |n+1,h=>by
  rw[C7 p oM,EU,←E6 p l n oM];split<;>simp
def Ce(p:Nat->Bool)(j r:Nat):Int:=if r<j/\p r=true then(Ak p r:Int)else 0
theorem Ln{p:Nat->Bool}{j:Nat}(hp:p j=true)(r:Nat):Ce p (j+1) r=if r=j then(Ak p j:Int)else Ce p j r:=by
 unfold Ce;by_cases e:r=j
 ·rw[if_pos e,if_pos ⟨oM,by rw[e];exact hp⟩,e]
 ·rw[if_neg e];by_cases h:r<j/\p r=true
  ·rw[if_pos h,if_pos ⟨oM,h.2⟩]
  ·rw[if_neg h,if_neg (fun q=>h ⟨oM,q.2⟩)]
theorem OC{p:Nat->Bool}{j:Nat}(hp:p j=false)(r:Nat):Ce p (j+1) r=Ce p j r:=by
 unfold Ce;by_cases h:r<j/\p r=true
 ·rw[if_pos h,if_pos ⟨oM,h.2⟩]
 ·have h2:¬ (r<j+1/\p r=true):=fun q=>by
   by_cases e:r=j
   ·rw[e,hp]at q;cases q.2
   ·exact h ⟨oM,q.2⟩
  rw[if_neg h,if_neg h2]
def fJ(offs:List Nat)(val:Nat->Nat)(f:Nat->Value)(j o:Nat):Value:=if o∈offs.take j then .int .i64 (Ak (Fp offs val) (val o):Int)else f o
theorem JF{offs:List Nat}{j:Nat}(hj:j<offs.length)(val:Nat->Nat)(f:Nat->Value)(o:Nat):fJ offs val f (j+1) o=if o=offs[j]then .int .i64 (Ak (Fp offs val) (val offs[j]):Int)else fJ offs val f j o:=by
 unfold fJ;rw[List.take_succ_eq_append_getElem hj];by_cases e:o=offs[j]
 ·rw[if_pos e,if_pos (List.mem_append.2 (.inr (by rw[e];exact List.mem_singleton.2 rfl))),e]
 ·rw[if_neg e];by_cases h:o∈offs.take j
  ·rw[if_pos h,if_pos (List.mem_append.2 (.inl h))]
  ·rw[if_neg h,if_neg (fun q=>(List.mem_append.1 q).elim h (fun q=>e (List.mem_singleton.1 q)))]
theorem Pc{offs:List Nat}(hn:offs.Nodup){j:Nat}(hj:j<offs.length)(val:Nat->Nat)(f:Nat->Value):fJ offs val f j offs[j]=f offs[j]:=by
 unfold fJ;rw[if_neg];intro hm;obtain⟨k,hk,e⟩:=List.mem_iff_getElem.1 hm;rw[List.length_take]at hk;rw[List.getElem_take]at e;have:=(List.getElem_inj hn).1 e;omega
structure PY(E IB K LB N0:Nat)(offs:List Nat)(val:Nat->Nat)(f:Nat->Value)(w w':World):Prop where
 bel:Below E w w'
 nm:w'.rowIs IB 4 K (fun r=>.bool (Fp offs val r))
 li:N0=0\/w'.rowIs LB 40 N0 (fJ offs val f offs.length)
 oth:∀b,b<w.heap.size->b≠IB->b≠LB->w'.heap[b]? =w.heap[b]?
end Go.Proofs.Ytnbccaicijcklaa
