import Derived.Test.YtheanilpbnencaaGre11
import Derived.Test.YtheanilpbnencaaGre12
import Derived.Deep.DeepCutAuto
import Derived.Deep.AppendLies
import Derived.Test.YtheanilpbnencaaGre1
namespace Go.Proofs.Ytheanilpbnencaa
open Go.RowKit Go.Proofs.Try
set_option linter.all false
set_option maxRecDepth 100000
set_option maxHeartbeats 16000000
theorem CB{w:World}{B:Nat}{t t':TypeId}{k n n' b:Nat}{v:Value}{xs:List Value}{f:Nat->Value}(h:w.ownsRow B t k v n xs)(h':w.rowIs b t' n' f)(ht:t≠t'):v.ownBlock≠some b:=by
 intro hb;rcases h.2 with⟨rfl,_⟩|⟨g,cap,cur,rfl,_,hg,_⟩
 .exact absurd (show(none:Option Nat)=some b from hb) sM
 obtain⟨c,hc,-⟩:=h';have e1:g=b:=Option.some.inj hb;rw[e1,hc]at hg;simp only[Option.some.injEq,Obj.cells.injEq]at hg;exact ht hg.2.1.symm
theorem L6{V:World}{C:Nat}{t:TypeId}{v0 v1 v2 v3:Value}(rc:V.rowIs C t 4 (f4 v0 v1 v2 v3))(v:Value):(V.setCell ⟨C,2,none⟩ v).rowIs C t 4 (f4 v0 v1 v v3)/\Bi C V (V.setCell ⟨C,2,none⟩ v):=by
 refine⟨(rc.set 2 v).congr fun j hj=>?_,Bi.one C 2 V v⟩;exact Kh
theorem L7{V:World}{C:Nat}{t:TypeId}{v0 v1 v2 v3:Value}(rc:V.rowIs C t 4 (f4 v0 v1 v2 v3))(v:Value):(V.setCell ⟨C,3,none⟩ v).rowIs C t 4 (f4 v0 v1 v2 v)/\Bi C V (V.setCell ⟨C,3,none⟩ v):=by
 refine⟨(rc.set 3 v).congr fun j hj=>?_,Bi.one C 3 V v⟩;exact Kh
structure ES(E DB:Nat)(w:World)(c:Cd)(u0 u1 u2 u3:Value):Prop where
 le:E<=DB
 row:w.rowIs DB 27 4 (f4 u0 u1 u2 u3)
 own:Kr E w u0 u1 u2 u3 c
theorem ES.sz{E DB:Nat}{w:World}{c:Cd}{u0 u1 u2 u3:Value}(h:ES E DB w c u0 u1 u2 u3):E<=w.heap.size:=by have:=h.le;have:=h.row.lt;omega
theorem ES.below{E DB:Nat}{w w':World}{c:Cd}{u0 u1 u2 u3:Value}(h:ES E DB w c u0 u1 u2 u3)(k:Below w.heap.size w w'):ES E DB w' c u0 u1 u2 u3:=
 ⟨h.le,h.row.of_block (k.block _ h.row.lt),Aq h.own.sign k,Aq h.own.regs k,Aq h.own.slots k,Aq h.own.list k⟩
theorem AI{w w':World}{B C:Nat}{t t':TypeId}{k n n':Nat}{v:Value}{xs:List Value}{f:Nat->Value}(h:w.ownsRow B t k v n xs)(h':w.rowIs C t' n' f)(ht:t≠t')(p:Bi C w w'):w'.ownsRow B t k v n xs:=
 Al h fun g hg=>p.oth g fun e=>CB h h' ht (e▸hg)
theorem Dn{B:Nat}{V:World}{e t:TypeId}{z:Value}{sz by':Nat}(ht:prog.underlying t=some (.slice e))(hi:(prog.info? e).map (fun i=>(i.zero,i.size,i.bytes))=some (some z,sz,by'))(hzs:z.cells.size=sz)(hsz:0<sz){p:Option Addr}{n q:Nat}{xs:List Value}(h:V.ownsRow B e sz (.slice p n q) n xs)(hB:B<=V.heap.size)
 (m:Nat) (hm:0<m) (cs:Array Value) (hcs:cs.size=m*sz) (h1:∀u∈cs.toList,u.oneCell'=true) (hn:n+m<=maxLen) (hb:(n+m)*by'<=140737488355328) (ty:TypeId):
 ∃g c' w',(Builtin.append_ #[t,t] ty #[.slice p n q,.slice (some ⟨V.heap.size,0,none⟩) m m]).run prog (V.alloc (.cells cs e))=.ok (.slice (some ⟨g,0,none⟩) (n+m) c') w'/\Below B V w'/\w'.ownsRow B e sz (.slice (some ⟨g,0,none⟩) (n+m) c') (n+m) (xs++cs.toList)/\(∀b,b<V.heap.size->(Value.slice p n q).ownBlock≠some b->w'.heap[b]? =V.heap[b]?)/\((Value.slice p n q).ownBlock=some g\/V.heap.size<g):=by
 obtain⟨i0,hi0,hz0,hz1,hz2⟩:=info_parts hi;have hb0:Below V.heap.size V (V.alloc (.cells cs e)):=A0 _ _;have hs:(V.alloc (.cells cs e)).heap.size=V.heap.size+1:=sM;have h0:=Aq h hb0;obtain⟨g,cap,w3,hr,hown,hgrow,hat,hlt⟩:=run_append_lies (P:=prog) (V.alloc (.cells cs e)) t ty B e i0 _ sz by' ht hi0 hz0 hz1 hz2 hzs hsz (.slice p n q) n xs h0 ⟨V.heap.size,0,none⟩ m m cs.toList (by simp[hcs])
  (World.news_of_block (cs:=cs) (t:=e) (fr:=(0,0)) (heap_alloc_new V _)) h1 hm hn hb oM _ rfl
 refine⟨g,cap,w3,hr,(hb0.mono hB).grown hgrow oM (fun q e=>(h0.lt q e).1),hown,fun b hb hne=>?_,?_⟩
 .rw[hgrow.block b oM (Ne.symm hne)];exact hb0.block b hb
 .rcases hat with e|e
  .exact .inl e
  .exact .inr oM
theorem ES.regsM{E DB:Nat}{w:World}{c:Cd}{u0 u1 u2 u3:Value}(h:ES E DB w c u0 u1 u2 u3)(l:List Ty)(h0:0<l.length)(hl:(c.regs.length+l.length)*16<=140737488351232)(ty:TypeId):
 ∃g q w',(Builtin.append_ #[23,23] ty #[u1,.slice (some ⟨w.heap.size,0,none⟩) l.length l.length]).run prog (w.alloc (.cells (AR Gd l).toArray 47))=.ok (.slice (some ⟨g,0,none⟩) (c.regs.length+l.length) q) w'/\w'.rowIs DB 27 4 (f4 u0 u1 u2 u3)/\ES E DB (w'.setCell ⟨DB,1,none⟩ (.slice (some ⟨g,0,none⟩) (c.regs.length+l.length) q)) ⟨c.sign,c.regs++l,c.slots,c.list⟩ u0 (.slice (some ⟨g,0,none⟩) (c.regs.length+l.length) q) u2 u3/\Below E w (w'.setCell ⟨DB,1,none⟩ (.slice (some ⟨g,0,none⟩) (c.regs.length+l.length) q))/\(∀b,b<w.heap.size->b≠DB->u1.ownBlock≠some b->(w'.setCell ⟨DB,1,none⟩ (.slice (some ⟨g,0,none⟩) (c.regs.length+l.length) q)).heap[b]? =w.heap[b]?)/\(u1.ownBlock=some g\/w.heap.size<g):=by
 obtain⟨p,q,rfl⟩:=Ax h.own.regs;have hfl:(AR Gd l).length=l.length*2:=by
  rw[AR,List.length_flatMap,List.map_congr_left (g:=fun _=>2) (fun x _=>Eb x),List.map_const',List.sum_replicate_nat]
 obtain⟨g,c',w',h1,h2,h3,h4,h5⟩:=Dn (t:=23) (e:=47) underlying23 Gq rF dE h.own.regs h.sz l.length h0 (AR Gd l).toArray (by simpa using hfl) (by intro u hu;obtain⟨x,_,hx⟩:=List.mem_flatMap.1 (show u∈List.flatMap Gd l by simpa[AR]using hu);exact Jb x u hx) mL oM ty;have hr:=h.row.of_block (h4 _ h.row.lt (CB h.own.regs h.row dE));have k0:=Al h.own.sign fun b hb=>h4 b (h.own.sign.lt b hb).2 fun e=>AB h.own.sign h.own.regs dE b hb e;have k2:=Al h.own.slots fun b hb=>h4 b (h.own.slots.lt b hb).2 fun e=>AB h.own.slots h.own.regs dE b hb e;have k3:=Al h.own.list fun b hb=>h4 b (h.own.list.lt b hb).2 fun e=>AB h.own.list h.own.regs dE b hb e;have hp:=Jz hr (.slice (some ⟨g,0,none⟩) (c.regs.length+l.length) c');refine⟨g,c',w',h1,hr,⟨h.le,hp.1,AI k0 hr dE hp.2,?_,AI k2 hr dE hp.2,AI k3 hr dE hp.2⟩,h2.trans (hp.2.bel E h.le),fun b hb hd hn=>(hp.2.oth b hd).trans (h4 b hb hn),h5⟩;show World.ownsRow _ _ _ _ _ (c.regs++l).length (AR Gd (c.regs++l));exact KP
theorem ES.slotsM{E DB:Nat}{w:World}{c:Cd}{u0 u1 u2 u3:Value}(h:ES E DB w c u0 u1 u2 u3)(l:List Sl)(h0:0<l.length)(hl:(c.slots.length+l.length)*32<=140737488351232)(ty:TypeId):
 ∃g q w',(Builtin.append_ #[24,24] ty #[u2,.slice (some ⟨w.heap.size,0,none⟩) l.length l.length]).run prog (w.alloc (.cells (AR GJ l).toArray 51))=.ok (.slice (some ⟨g,0,none⟩) (c.slots.length+l.length) q) w'/\w'.rowIs DB 27 4 (f4 u0 u1 u2 u3)/\ES E DB (w'.setCell ⟨DB,2,none⟩ (.slice (some ⟨g,0,none⟩) (c.slots.length+l.length) q)) ⟨c.sign,c.regs,c.slots++l,c.list⟩ u0 u1 (.slice (some ⟨g,0,none⟩) (c.slots.length+l.length) q) u3/\Below E w (w'.setCell ⟨DB,2,none⟩ (.slice (some ⟨g,0,none⟩) (c.slots.length+l.length) q))/\(∀b,b<w.heap.size->b≠DB->u2.ownBlock≠some b->(w'.setCell ⟨DB,2,none⟩ (.slice (some ⟨g,0,none⟩) (c.slots.length+l.length) q)).heap[b]? =w.heap[b]?)/\(u2.ownBlock=some g\/w.heap.size<g):=by
 obtain⟨p,q,rfl⟩:=Ax h.own.slots;have hfl:(AR GJ l).length=l.length*5:=by
  rw[AR,List.length_flatMap,List.map_congr_left (g:=fun _=>5) (fun x _=>G8 x),List.map_const',List.sum_replicate_nat]
 obtain⟨g,c',w',h1,h2,h3,h4,h5⟩:=Dn (t:=24) (e:=51) underlying24 Gp rF dE h.own.slots h.sz l.length h0 (AR GJ l).toArray (by simpa using hfl) (by intro u hu;obtain⟨x,_,hx⟩:=List.mem_flatMap.1 (show u∈List.flatMap GJ l by simpa[AR]using hu);exact J8 x u hx) mL oM ty;have hr:=h.row.of_block (h4 _ h.row.lt (CB h.own.slots h.row dE));have k0:=Al h.own.sign fun b hb=>h4 b (h.own.sign.lt b hb).2 fun e=>AB h.own.sign h.own.slots dE b hb e;have k1:=Al h.own.regs fun b hb=>h4 b (h.own.regs.lt b hb).2 fun e=>AB h.own.regs h.own.slots dE b hb e;have k3:=Al h.own.list fun b hb=>h4 b (h.own.list.lt b hb).2 fun e=>AB h.own.list h.own.slots dE b hb e;have hp:=L6 hr (.slice (some ⟨g,0,none⟩) (c.slots.length+l.length) c');refine⟨g,c',w',h1,hr,⟨h.le,hp.1,AI k0 hr dE hp.2,AI k1 hr dE hp.2,?_,AI k3 hr dE hp.2⟩,h2.trans (hp.2.bel E h.le),fun b hb hd hn=>(hp.2.oth b hd).trans (h4 b hb hn),h5⟩;show World.ownsRow _ _ _ _ _ (c.slots++l).length (AR GJ (c.slots++l));exact KP
theorem ES.listM{E DB:Nat}{w:World}{c:Cd}{u0 u1 u2 u3:Value}(h:ES E DB w c u0 u1 u2 u3)(l:List Ay)(h0:0<l.length)(hl:(c.list.length+l.length)*56<=140737488351232)(ty:TypeId):
 ∃g q w',(Builtin.append_ #[25,25] ty #[u3,.slice (some ⟨w.heap.size,0,none⟩) l.length l.length]).run prog (w.alloc (.cells (AR C1 l).toArray 53))=.ok (.slice (some ⟨g,0,none⟩) (c.list.length+l.length) q) w'/\w'.rowIs DB 27 4 (f4 u0 u1 u2 u3)/\ES E DB (w'.setCell ⟨DB,3,none⟩ (.slice (some ⟨g,0,none⟩) (c.list.length+l.length) q)) ⟨c.sign,c.regs,c.slots,c.list++l⟩ u0 u1 u2 (.slice (some ⟨g,0,none⟩) (c.list.length+l.length) q)/\Below E w (w'.setCell ⟨DB,3,none⟩ (.slice (some ⟨g,0,none⟩) (c.list.length+l.length) q))/\(∀b,b<w.heap.size->b≠DB->u3.ownBlock≠some b->(w'.setCell ⟨DB,3,none⟩ (.slice (some ⟨g,0,none⟩) (c.list.length+l.length) q)).heap[b]? =w.heap[b]?)/\(u3.ownBlock=some g\/w.heap.size<g):=by
 obtain⟨p,q,rfl⟩:=Ax h.own.list;have hfl:(AR C1 l).length=l.length*7:=by
  rw[AR,List.length_flatMap,List.map_congr_left (g:=fun _=>7) (fun x _=>De x),List.map_const',List.sum_replicate_nat]
 obtain⟨g,c',w',h1,h2,h3,h4,h5⟩:=Dn (t:=25) (e:=53) underlying25 Gm rF dE h.own.list h.sz l.length h0 (AR C1 l).toArray (by simpa using hfl) (by intro u hu;obtain⟨x,_,hx⟩:=List.mem_flatMap.1 (show u∈List.flatMap C1 l by simpa[AR]using hu);exact IC x u hx) mL oM ty;have hr:=h.row.of_block (h4 _ h.row.lt (CB h.own.list h.row dE));have k0:=Al h.own.sign fun b hb=>h4 b (h.own.sign.lt b hb).2 fun e=>AB h.own.sign h.own.list dE b hb e;have k1:=Al h.own.regs fun b hb=>h4 b (h.own.regs.lt b hb).2 fun e=>AB h.own.regs h.own.list dE b hb e;have k2:=Al h.own.slots fun b hb=>h4 b (h.own.slots.lt b hb).2 fun e=>AB h.own.slots h.own.list dE b hb e;have hp:=L7 hr (.slice (some ⟨g,0,none⟩) (c.list.length+l.length) c');refine⟨g,c',w',h1,hr,⟨h.le,hp.1,AI k0 hr dE hp.2,AI k1 hr dE hp.2,AI k2 hr dE hp.2,?_⟩,h2.trans (hp.2.bel E h.le),fun b hb hd hn=>(hp.2.oth b hd).trans (h4 b hb hn),h5⟩;show World.ownsRow _ _ _ _ _ (c.list++l).length (AR C1 (c.list++l));exact KP
structure D5(E DB:Nat)(D:Nat->Prop)(V w:World)(c:Cd)(u0 u1 u2 u3:Value):Prop where
 cd:ES E DB w c u0 u1 u2 u3
 kp:∀b,D b->w.heap[b]? =V.heap[b]?
 lt:∀b,D b->b<V.heap.size/\b≠DB
 sz:V.heap.size<=w.heap.size
 n1:∀b,D b->u1.ownBlock≠some b
 n2:∀b,D b->u2.ownBlock≠some b
 n3:∀b,D b->u3.ownBlock≠some b
 bel:Below E V w
theorem F9{D:Nat->Prop}{V w:World}{DB g n q:Nat}{u:Value}(hn:∀b,D b->u.ownBlock≠some b)(hl:∀b,D b->b<V.heap.size/\b≠DB)(hs:V.heap.size<=w.heap.size)(hg:u.ownBlock=some g\/w.heap.size<g):∀b,D b->(Value.slice (some ⟨g,0,none⟩) n q).ownBlock≠some b:=fun b hb e=>by
 have e2:g=b:=by simpa[Value.ownBlock]using e
 subst e2;rcases hg with h|h
 .exact hn _ hb h
 .have:=(hl _ hb).1;omega
theorem D5.rebase{E DB XB:Nat}{D:Nat->Prop}{V w w':World}{c:Cd}{u0 u1 u2 u3:Value}(h:D5 E DB D V w c u0 u1 u2 u3)(k:Below w.heap.size w w')(hX:XB=w.heap.size)(hl:XB<w'.heap.size):D5 E DB (fun b=>D b\/b=XB) w' w' c u0 u1 u2 u3:=by
 have hr:=h.cd.row.lt;refine⟨h.cd.below k,fun b _=>rfl,fun b hb=>?_,gF _,fun b hb e=>?_,fun b hb e=>?_,fun b hb e=>?_,Below.refl _ _⟩
 .rcases hb with hb|rfl
  .have:=h.lt b hb;have:=h.sz;have:=k.size;exact⟨oM,oM⟩
  .exact⟨hl,oM⟩
 .rcases hb with hb|rfl
  .exact h.n1 b hb e
  .have:=(h.cd.own.regs.lt _ e).2;omega
 .rcases hb with hb|rfl
  .exact h.n2 b hb e
  .have:=(h.cd.own.slots.lt _ e).2;omega
 .rcases hb with hb|rfl
  .exact h.n3 b hb e
  .have:=(h.cd.own.list.lt _ e).2;omega
theorem D5.regs{E DB:Nat}{D:Nat->Prop}{V w:World}{c:Cd}{u0 u1 u2 u3:Value}(h:D5 E DB D V w c u0 u1 u2 u3)(l:List Ty)(h0:0<l.length)(hl:(c.regs.length+l.length)*16<=140737488351232)(ty:TypeId):
 ∃g q w',(Builtin.append_ #[23,23] ty #[u1,.slice (some ⟨w.heap.size,0,none⟩) l.length l.length]).run prog (w.alloc (.cells (AR Gd l).toArray 47))=.ok (.slice (some ⟨g,0,none⟩) (c.regs.length+l.length) q) w'/\w'.rowIs DB 27 4 (f4 u0 u1 u2 u3)/\D5 E DB D V (w'.setCell ⟨DB,1,none⟩ (.slice (some ⟨g,0,none⟩) (c.regs.length+l.length) q)) ⟨c.sign,c.regs++l,c.slots,c.list⟩ u0 (.slice (some ⟨g,0,none⟩) (c.regs.length+l.length) q) u2 u3:=by
 obtain⟨g,q,w',h1,h2,h3,h4,h5,h6⟩:=h.cd.regsM l h0 hl ty;exact⟨g,q,w',h1,h2,h3,fun b hb=>(h5 b (Nat.lt_of_lt_of_le (h.lt b hb).1 h.sz) (h.lt b hb).2 (h.n1 b hb)).trans (h.kp b hb),h.lt,gH h.sz (h4.size),F9 (q:=q) h.n1 h.lt h.sz h6,h.n2,h.n3,h.bel.trans h4⟩
theorem D5.slots{E DB:Nat}{D:Nat->Prop}{V w:World}{c:Cd}{u0 u1 u2 u3:Value}(h:D5 E DB D V w c u0 u1 u2 u3)(l:List Sl)(h0:0<l.length)(hl:(c.slots.length+l.length)*32<=140737488351232)(ty:TypeId):
 ∃g q w',(Builtin.append_ #[24,24] ty #[u2,.slice (some ⟨w.heap.size,0,none⟩) l.length l.length]).run prog (w.alloc (.cells (AR GJ l).toArray 51))=.ok (.slice (some ⟨g,0,none⟩) (c.slots.length+l.length) q) w'/\w'.rowIs DB 27 4 (f4 u0 u1 u2 u3)/\D5 E DB D V (w'.setCell ⟨DB,2,none⟩ (.slice (some ⟨g,0,none⟩) (c.slots.length+l.length) q)) ⟨c.sign,c.regs,c.slots++l,c.list⟩ u0 u1 (.slice (some ⟨g,0,none⟩) (c.slots.length+l.length) q) u3:=by
 obtain⟨g,q,w',h1,h2,h3,h4,h5,h6⟩:=h.cd.slotsM l h0 hl ty;exact⟨g,q,w',h1,h2,h3,fun b hb=>(h5 b (Nat.lt_of_lt_of_le (h.lt b hb).1 h.sz) (h.lt b hb).2 (h.n2 b hb)).trans (h.kp b hb),h.lt,gH h.sz (h4.size),h.n1,F9 (q:=q) h.n2 h.lt h.sz h6,h.n3,h.bel.trans h4⟩
theorem D5.list{E DB:Nat}{D:Nat->Prop}{V w:World}{c:Cd}{u0 u1 u2 u3:Value}(h:D5 E DB D V w c u0 u1 u2 u3)(l:List Ay)(h0:0<l.length)(hl:(c.list.length+l.length)*56<=140737488351232)(ty:TypeId):
 ∃g q w',(Builtin.append_ #[25,25] ty #[u3,.slice (some ⟨w.heap.size,0,none⟩) l.length l.length]).run prog (w.alloc (.cells (AR C1 l).toArray 53))=.ok (.slice (some ⟨g,0,none⟩) (c.list.length+l.length) q) w'/\w'.rowIs DB 27 4 (f4 u0 u1 u2 u3)/\D5 E DB D V (w'.setCell ⟨DB,3,none⟩ (.slice (some ⟨g,0,none⟩) (c.list.length+l.length) q)) ⟨c.sign,c.regs,c.slots,c.list++l⟩ u0 u1 u2 (.slice (some ⟨g,0,none⟩) (c.list.length+l.length) q):=by
 obtain⟨g,q,w',h1,h2,h3,h4,h5,h6⟩:=h.cd.listM l h0 hl ty;exact⟨g,q,w',h1,h2,h3,fun b hb=>(h5 b (Nat.lt_of_lt_of_le (h.lt b hb).1 h.sz) (h.lt b hb).2 (h.n3 b hb)).trans (h.kp b hb),h.lt,gH h.sz (h4.size),h.n1,h.n2,F9 (q:=q) h.n3 h.lt h.sz h6,h.bel.trans h4⟩
def GQ(L:Int)(c:Cd):Prop:=c.sign=[⟨⟨#[119]⟩,1,L⟩]/\(∀s∈c.slots,s.bits=0)/\(∀i∈c.list,i.bits=0)/\c.regs.length<=20000/\c.slots.length<=20000/\c.list.length<=40000
theorem GQ.ok{L:Int}{c:Cd}(h:GQ L c):AN c:=by
 obtain⟨h1,h2,h3,h4,h5,h6⟩:=h;refine⟨by rw[h1];show 1<=_;omega,?_,oM,oM,oM,?_,?_⟩
 .intro p hp;rw[h1]at hp;rw[List.mem_singleton.1 hp];show(⟨#[119]⟩:ByteArray).size<=_;decide
 .intro s hs;rw[h2 s hs];decide
 .intro i hi;rw[h3 i hi];decide
theorem Gl(L R S N K:Int)(w:World):
 Calls prog 18 #[.agg #[.int .i64 L,.int .i64 R,.int .i64 S,.int .i64 N,.int .i64 K]] w fun e w'=>∃u0 u1 u2 u3 c,e=.returned (.agg #[u0,u1,u2,u3])/\BU w' u0 u1 u2 u3 c/\AN c/\Below w.heap.size w w':=by
 obtain⟨M1,hM1⟩:∃m:Int,min R 17000=m:=⟨_,rfl⟩
 obtain⟨M2,hM2⟩:∃m:Int,min S 5000=m:=⟨_,rfl⟩
 obtain⟨M3,hM3⟩:∃m:Int,min N 33000=m:=⟨_,rfl⟩
 have bM1:M1<=17000:=oM;have bM2:M2<=5000:=oM;have bM3:M3<=33000:=oM;obtain⟨E,hE⟩:=gA (w.heap.size)
 obtain⟨A1,hA1⟩:∃W,w.alloc (.cells #[.int .i64 L,.int .i64 R,.int .i64 S,.int .i64 N,.int .i64 K] 43)=W:=⟨_,rfl⟩
 have v1:A1.rowIs E 43 5 (g5 (.int .i64 L) (.int .i64 R) (.int .i64 S) (.int .i64 N) (.int .i64 K)):=by rw[<-hA1,<-hE];exact JB w _ _ _ _ _ _
 have s1:A1.heap.size=E+1:=by rw[<-hA1,<-hE];simp
 have b1:Below E w A1:=by rw[<-hA1,<-hE];exact A0 _ _
 obtain⟨A2,hA2⟩:∃W,A1.alloc (.cells #[.slice none 0 0,.slice none 0 0,.slice none 0 0,.slice none 0 0] 27)=W:=⟨_,rfl⟩
 have r2:A2.rowIs (E+1) 27 4 (f4 (.slice none 0 0) (.slice none 0 0) (.slice none 0 0) (.slice none 0 0)):=by rw[<-hA2,<-s1];exact Ff A1 _ _ _ _ _
 have s2:A2.heap.size=E+1+1:=by rw[<-hA2];simp[s1]
 have b2:Below A1.heap.size A1 A2:=by rw[<-hA2];exact A0 _ _
 obtain⟨A3,hA3⟩:∃W,A2.alloc (.cells #[.string ⟨#[119]⟩,.int .i64 1,.int .i64 L] 63)=W:=⟨_,rfl⟩
 have o3:A3.ownsRow E 63 3 (.slice (some ⟨E+1+1,0,none⟩) 1 1) 1 (AR Bz [⟨⟨#[119]⟩,1,L⟩]):=by rw[<-hA3,<-s2];exact World.ownsRow_lit (base:=E) (e:=63) (size:=3) A2 #[.string ⟨#[119]⟩,.int .i64 1,.int .i64 L] 1 oM dE rfl
 have s3:A3.heap.size=E+1+1+1:=by rw[<-hA3];simp[s2]
 have b3:Below A2.heap.size A2 A3:=by rw[<-hA3];exact A0 _ _
 obtain⟨DB,hDB⟩:∃D,E+1+1+1=D:=⟨_,rfl⟩
 obtain⟨A4,hA4⟩:∃W,A3.alloc (.cells #[.slice (some ⟨E+1+1,0,none⟩) 1 1,.slice none 0 0,.slice none 0 0,.slice none 0 0] 27)=W:=⟨_,rfl⟩
 have r4:A4.rowIs DB 27 4 (f4 (.slice (some ⟨E+1+1,0,none⟩) 1 1) (.slice none 0 0) (.slice none 0 0) (.slice none 0 0)):=by rw[<-hA4,<-hDB,<-s3];exact Ff A3 _ _ _ _ _
 have s4:A4.heap.size=DB+1:=by rw[<-hA4,<-hDB];simp[s3]
 have b4:Below A3.heap.size A3 A4:=by rw[<-hA4];exact A0 _ _
 obtain⟨V,hA5⟩:∃W,A4.alloc (.cells #[.int .i64 3,.int .i64 0] 47)=W:=⟨_,rfl⟩
 have t5:V.rowIs (DB+1) 47 2 (g2 (.int .i64 3) (.int .i64 0)):=by rw[<-hA5,<-s4];exact JA A4 _ _ _
 have s5:V.heap.size=DB+1+1:=by rw[<-hA5];simp[s4]
 have b5:Below A4.heap.size A4 V:=by rw[<-hA5];exact A0 _ _
 have b35:=bel b4 b5;have b25:=bel b3 b35;have b15:=bel b2 b25;have HBV:Hid (Below E w V):=by show Below E w V;rw[<-hE];exact bel (by rw[hE];exact b1) b15
 have HVB:=A8 (v1.of_block (b15.block _ v1.lt));have HRB:=A8 (r2.of_block (b25.block _ r2.lt));have HT:=A8 t5;have HG0:Hid (D5 E DB (fun b=>b=E\/b=E+1\/b=DB+1) V V ⟨[⟨⟨#[119]⟩,1,L⟩],[],[],[]⟩ (.slice (some ⟨E+1+1,0,none⟩) 1 1) (.slice none 0 0) (.slice none 0 0) (.slice none 0 0)):=
  ⟨⟨oM,r4.of_block (b5.block _ r4.lt),⟨Aq o3 b35,⟨rfl,.inl ⟨rfl,rfl⟩⟩,⟨rfl,.inl ⟨rfl,rfl⟩⟩,⟨rfl,.inl ⟨rfl,rfl⟩⟩⟩⟩,fun b _=>rfl,fun b hb=>by rcases hb with rfl|rfl|rfl<;>omega,gF _,fun b _ e=>by simp[Value.ownBlock]at e,fun b _ e=>by simp[Value.ownBlock]at e,fun b _ e=>by simp[Value.ownBlock]at e,Below.refl _ _⟩
 have HNM:Hid (E+1<DB/\V.heap.size=DB+1+1):=⟨oM,s5⟩
 have hvE:E≠DB:=oM;obtain⟨y0,y1,y2,y3,y4⟩:=c5 v1;have x0:=kc b2 y0;have HE:=A8 hE;have HA1:=A8 hA1;have HA2:=A8 hA2;have HA3:=A8 hA3;have HA4:=A8 hA4;have HA5:=A8 hA5;have HS1:=A8 s1;have HS2:=A8 s2;have HS3:=A8 s3;have HS4:=A8 s4;have HDB:=A8 hDB;clear hE hA1 hA2 hA3 hA4 hA5 v1 r2 o3 r4 t5 s1 s2 s3 s4 s5 b1 b2 b3 b4 b5 b35 b25 b15 hDB y0 y1 y2 y3 y4;go_enter func18,ntmps18;go_upto_region 1 with fail;try rw[HE.out]
 try rw[HA1.out]
 try rw[HS1.out]
 try rw[HA2.out]
 go_upto_region 2 with fail;try rw[HS2.out]
 try rw[HA3.out]
 try rw[HS3.out]
 try rw[HDB.out]
 try rw[HA4.out]
 go_upto_region 3 with fail;try rw[HS4.out]
 try rw[HA5.out]
 clear x0;have HC0:Hid (GQ L ⟨[⟨⟨#[119]⟩,1,L⟩],[],[],[]⟩):=⟨rfl,fun s h=>(by cases h),fun s h=>(by cases h),gI _,gI _,gI _⟩
 obtain⟨g,q,w',hrun,hrw,hgm⟩:=HG0.regs [⟨3,0⟩,⟨1,0⟩,⟨2,0⟩] (Nat.succ_pos _) (by show(0+3)*16<=_;omega) 23;have HRUN:Hid ((Builtin.append_ #[23,23] 23 #[.slice none 0 0,.slice (some ⟨V.heap.size,0,none⟩) 3 3]).run prog (V.alloc (.cells #[.int .i64 3,.int .i64 0,.int .i64 1,.int .i64 0,.int .i64 2,.int .i64 0] 47))=.ok (.slice (some ⟨g,0,none⟩) 3 q) w'):=hrun;obtain⟨t0,t1⟩:=c2 HT.out;obtain⟨z0,z1,z2,z3⟩:=c4 HG0.cd.row;obtain⟨a0,a1,a2,a3⟩:=c4 hrw;obtain⟨f0,f1,f2,f3⟩:=z4 hrw;obtain⟨V1,hWn⟩:∃W,w'.setCell ⟨DB,1,none⟩ (.slice (some ⟨g,0,none⟩) 3 q)=W:=⟨_,rfl⟩
 have hgm2:D5 _ DB _ _ (w'.setCell ⟨DB,1,none⟩ (.slice (some ⟨g,0,none⟩) 3 q)) _ _ _ _ _:=hgm;rw[hWn]at hgm2;have HG1:=A8 hgm2;clear hrun hrw hgm hgm2;go_upto_region 4 with(at_builtin;refine B7 rF _ _ _ rF _ _ _ rF rF HRUN.out ?_)
 try rw[hWn]
 clear hWn HRUN z0 z1 z2 z3 a0 a1 a2 a3 f0 f1 f2 f3 t0 t1;have HR1:Hid (∃c u1 u2 u3,D5 E DB (fun b=>b=E\/b=E+1\/b=DB+1) V V1 c (.slice (some ⟨E+1+1,0,none⟩) 1 1) u1 u2 u3/\GQ L c/\c.regs.length=3/\c.slots=[]/\c.list=[]):=⟨_,_,_,_,HG1.out,⟨rfl,fun s h=>(by cases h),fun s h=>(by cases h),by show 3<=20000;omega,gI _,gI _⟩,rfl,rfl,rfl⟩
 clear HG0 HG1 HC0;go_upto_block 0 with fail;go_cut [] (fun wx=>Hid (∃c u1 u2 u3,D5 E DB (fun b=>b=E\/b=E+1\/b=DB+1) V wx c (.slice (some ⟨E+1+1,0,none⟩) 1 1) u1 u2 u3/\GQ L c/\c.regs.length<=17000/\c.slots=[]/\c.list=[]))
 case first=>
  go_wp2_with fail
  go_loopw [5] (fun iv wr=>∃i:Nat,3<=i/\i<=17000/\iv=.int .i64 (i:Int)/\Hid (∃c u1 u2 u3,D5 E DB (fun b=>b=E\/b=E+1\/b=DB+1) V wr c (.slice (some ⟨E+1+1,0,none⟩) 1 1) u1 u2 u3/\GQ L c/\c.regs.length=i/\c.slots=[]/\c.list=[])) (fun iv _=>17000-(intOf iv).toNat)
  case atStart=>exact⟨3,dE,dE,rfl,HR1.out⟩
  case round=>
   obtain⟨i,h3,h17,rfl,HR⟩:=hrel;obtain⟨c,u1,u2,u3,hgm,hgc,hcl,hcs,hci⟩:=HR.out;have HG:=A8 hgm;have HC:=A8 (And.intro hgc (And.intro hcl (And.intro hcs hci)));clear hgm hgc hcs hci HR;obtain⟨y0,y1,y2,y3,y4⟩:=c5 (HVB.of_block (HG.kp _ (.inl rfl)));by_cases hlt:(i:Int)<M1
   .have wk:IntKind.i64.wrap ((i:Int)+1)=((i+1:Nat):Int):=by rw[IntKind.wrap_i64];omega
    have hi1:i+1<=17000:=oM;obtain⟨g,q,w',hrun,hrw,hgm⟩:=HG.regs [⟨3,0⟩] (Nat.succ_pos _) (by show(c.regs.length+1)*16<=_;omega) 23;have HRUN:Hid ((Builtin.append_ #[23,23] 23 #[u1,.slice (some ⟨wr.heap.size,0,none⟩) 1 1]).run prog (wr.alloc (.cells #[.int .i64 3,.int .i64 0] 47))=.ok (.slice (some ⟨g,0,none⟩) (c.regs.length+1) q) w'):=hrun;obtain⟨t0,t1⟩:=c2 (HT.of_block (HG.kp _ (.inr (.inr rfl))));obtain⟨z0,z1,z2,z3⟩:=c4 HG.cd.row;obtain⟨a0,a1,a2,a3⟩:=c4 hrw;obtain⟨f0,f1,f2,f3⟩:=z4 hrw;obtain⟨Wn,hWn⟩:∃W,w'.setCell ⟨DB,1,none⟩ (.slice (some ⟨g,0,none⟩) (c.regs.length+1) q)=W:=⟨_,rfl⟩
    have hgm2:D5 _ DB _ _ (w'.setCell ⟨DB,1,none⟩ (.slice (some ⟨g,0,none⟩) (c.regs.length+1) q)) _ _ _ _ _:=hgm;rw[hWn]at hgm2;have HN:=A8 hgm2;clear hrun hrw hgm hgm2 hcl;go_wp2_with(at_builtin;refine B7 rF _ _ _ rF _ _ _ rF rF HRUN.out ?_);try rw[hWn]
    clear hWn HRUN z0 z1 z2 z3 a0 a1 a2 a3 f0 f1 f2 f3 t0 t1 y0 y1 y2 y3 y4;go_roundw
    case rel=>
     obtain⟨⟨k1,k2,k3,k4,k5,k6⟩,l1,l2,l3⟩:=HC.out;have e9:(c.regs++[(⟨3,0⟩:Ty)]).length=i+1:=by rw[List.length_append,List.length_singleton,l1]
     exact⟨i+1,oM,hi1,gN,⟨c.sign,c.regs++[⟨3,0⟩],c.slots,c.list⟩,_,_,_,HN.out,⟨k1,k2,k3,by show(c.regs++[(⟨3,0⟩:Ty)]).length<=20000;omega,k5,k6⟩,e9,l2,l3⟩
    case measure=>simp[intOf];omega
   .clear hcl;go_wp2_with fail;go_meet;obtain⟨k0,l1,l2,l3⟩:=HC.out;exact⟨_,_,_,_,HG.out,k0,oM,l2,l3⟩
 case rest=>
  clear HR1;have HR:=hcut;clear hcut;go_upto_block 2 with fail;go_cut [] (fun wx=>Hid (∃c u1 u2 u3,D5 E DB (fun b=>b=E\/b=E+1\/b=DB+1) V wx c (.slice (some ⟨E+1+1,0,none⟩) 1 1) u1 u2 u3/\GQ L c/\c.list=[]))
  case first=>
   go_wp2_with fail
   go_loopw [6] (fun iv wr=>∃i:Nat,i<=5000/\iv=.int .i64 (i:Int)/\Hid (∃c u1 u2 u3,D5 E DB (fun b=>b=E\/b=E+1\/b=DB+1) V wr c (.slice (some ⟨E+1+1,0,none⟩) 1 1) u1 u2 u3/\GQ L c/\c.slots.length=i/\c.list=[])) (fun iv _=>5000-(intOf iv).toNat)
   case atStart=>
    obtain⟨c,u1,u2,u3,h1,h2,h3,h4,h5⟩:=HR.out;exact⟨0,dE,rfl,c,u1,u2,u3,h1,h2,by rw[h4];rfl,h5⟩
   case round=>
    clear HR;obtain⟨i,h17,rfl,HR⟩:=hrel;obtain⟨c,u1,u2,u3,hgm,hgc,hcl,hci⟩:=HR.out;have HG:=A8 hgm;have HC:=A8 (And.intro hgc (And.intro hcl hci));clear hgm hgc hci HR;obtain⟨y0,y1,y2,y3,y4⟩:=c5 (HVB.of_block (HG.kp _ (.inl rfl)));by_cases hlt:(i:Int)<M2
    .have wk:IntKind.i64.wrap ((i:Int)+1)=((i+1:Nat):Int):=by rw[IntKind.wrap_i64];omega
     have hi1:i+1<=5000:=oM;obtain⟨g,q,w',hrun,hrw,hgm⟩:=HG.slots [⟨⟨3,0⟩,false,0,0⟩] (Nat.succ_pos _) (by show(c.slots.length+1)*32<=_;omega) 24;have HRUN:Hid ((Builtin.append_ #[24,24] 24 #[u2,.slice (some ⟨wr.heap.size,0,none⟩) 1 1]).run prog (wr.alloc (.cells #[.int .i64 3,.int .i64 0,.bool false,.int .u32 0,.int .i64 0] 51))=.ok (.slice (some ⟨g,0,none⟩) (c.slots.length+1) q) w'):=hrun;obtain⟨t0,t1⟩:=c2 (HT.of_block (HG.kp _ (.inr (.inr rfl))));obtain⟨z0,z1,z2,z3⟩:=c4 HG.cd.row;obtain⟨a0,a1,a2,a3⟩:=c4 hrw;obtain⟨f0,f1,f2,f3⟩:=z4 hrw;obtain⟨Wn,hWn⟩:∃W,w'.setCell ⟨DB,2,none⟩ (.slice (some ⟨g,0,none⟩) (c.slots.length+1) q)=W:=⟨_,rfl⟩
     have hgm2:D5 _ DB _ _ (w'.setCell ⟨DB,2,none⟩ (.slice (some ⟨g,0,none⟩) (c.slots.length+1) q)) _ _ _ _ _:=hgm;rw[hWn]at hgm2;have HN:=A8 hgm2;clear hrun hrw hgm hgm2 hcl;go_wp2_with(at_builtin;refine B7 rF _ _ _ rF _ _ _ rF rF HRUN.out ?_);try rw[hWn]
     clear hWn HRUN z0 z1 z2 z3 a0 a1 a2 a3 f0 f1 f2 f3 t0 t1 y0 y1 y2 y3 y4;go_roundw
     case rel=>
      obtain⟨⟨k1,k2,k3,k4,k5,k6⟩,l1,l3⟩:=HC.out;have e9:(c.slots++[(⟨⟨3,0⟩,false,0,0⟩:Sl)]).length=i+1:=by rw[List.length_append,List.length_singleton,l1]
      have e8:∀s∈c.slots++[(⟨⟨3,0⟩,false,0,0⟩:Sl)],s.bits=0:=fun s hs=>by
       rcases List.mem_append.1 hs with h|h
       .exact k2 s h
       .rw[List.mem_singleton.1 h]
      exact⟨i+1,hi1,gN,⟨c.sign,c.regs,c.slots++[⟨⟨3,0⟩,false,0,0⟩],c.list⟩,_,_,_,HN.out,⟨k1,e8,k3,k4,by show(c.slots++[(⟨⟨3,0⟩,false,0,0⟩:Sl)]).length<=20000;omega,k6⟩,e9,l3⟩
     case measure=>simp[intOf];omega
    .clear hcl;go_wp2_with fail;go_meet;obtain⟨k0,l1,l3⟩:=HC.out;exact⟨_,_,_,_,HG.out,k0,l3⟩
  case rest=>
   clear HR;obtain⟨c,u1,u2,u3,hgm,hgc,hci⟩:=hcut.out;have HG:=A8 hgm;have HC:=A8 (And.intro hgc hci);clear hcut hgm hgc;obtain⟨WC,hWC⟩:∃W:World,wc=W:=⟨_,rfl⟩
   subst hWC;obtain⟨g,q,w',hrun,hrw,hgm⟩:=HG.list [⟨29,0,0,0,0,0,0⟩,⟨1,1,0,0,0,0,0⟩,⟨2,2,0,0,0,0,0⟩] (Nat.succ_pos _) (by rw[hci];decide) 25;have HRUN:Hid ((Builtin.append_ #[25,25] 25 #[u3,.slice (some ⟨wc.heap.size,0,none⟩) 3 3]).run prog (wc.alloc (.cells #[.int .i64 29,.int .i64 0,.int .i64 0,.int .i64 0,.int .i64 0,.int .i64 0,.int .u32 0,.int .i64 1,.int .i64 1,.int .i64 0,.int .i64 0,.int .i64 0,.int .i64 0,.int .u32 0,.int .i64 2,.int .i64 2,.int .i64 0,.int .i64 0,.int .i64 0,.int .i64 0,.int .u32 0] 53))=.ok (.slice (some ⟨g,0,none⟩) (c.list.length+3) q) w'):=hrun
   skip
   obtain⟨z0,z1,z2,z3⟩:=c4 HG.cd.row;obtain⟨a0,a1,a2,a3⟩:=c4 hrw;obtain⟨f0,f1,f2,f3⟩:=z4 hrw;obtain⟨Wl,hWn⟩:∃W,w'.setCell ⟨DB,3,none⟩ (.slice (some ⟨g,0,none⟩) (c.list.length+3) q)=W:=⟨_,rfl⟩
   have hgm2:D5 _ DB _ _ (w'.setCell ⟨DB,3,none⟩ (.slice (some ⟨g,0,none⟩) (c.list.length+3) q)) _ _ _ _ _:=hgm;rw[hWn]at hgm2;have HL:=A8 hgm2;clear hrun hrw hgm hgm2 hci;go_upto_region 13 with(at_builtin;refine B7 rF _ _ _ rF _ _ _ rF rF HRUN.out ?_)
   try rw[hWn]
   clear hWn HRUN z0 z1 z2 z3 a0 a1 a2 a3 f0 f1 f2 f3;obtain⟨XB,hXB⟩:∃X,Wl.heap.size=X:=⟨_,rfl⟩
   obtain⟨V2,hV2⟩:∃W,Wl.alloc (.cells #[.int .i64 12,.int .i64 0,.int .i64 0,.int .i64 0,.int .i64 0,.int .i64 0,.int .u32 0] 53)=W:=⟨_,rfl⟩
   have hx:V2.rowIs XB 53 7 (g7 (.int .i64 12) (.int .i64 0) (.int .i64 0) (.int .i64 0) (.int .i64 0) (.int .i64 0) (.int .u32 0)):=by rw[<-hV2,<-hXB];exact Ha Wl _ _ _ _ _ _ _ _
   have hb2:Below Wl.heap.size Wl V2:=by rw[<-hV2];exact A0 _ _
   have sV2:V2.heap.size=XB+1:=by rw[<-hV2,<-hXB];simp
   have HCL:Hid (GQ L ⟨c.sign,c.regs,c.slots,c.list++[⟨29,0,0,0,0,0,0⟩,⟨1,1,0,0,0,0,0⟩,⟨2,2,0,0,0,0,0⟩]⟩/\(c.list++[⟨29,0,0,0,0,0,0⟩,⟨1,1,0,0,0,0,0⟩,⟨2,2,0,0,0,0,0⟩]:List Ay).length=3):=by
    obtain⟨⟨k1,k2,k3,k4,k5,k6⟩,l3⟩:=HC.out;refine⟨⟨k1,k2,fun i hi=>?_,k4,k5,by show(c.list++_).length<=_;rw[l3];decide⟩,by rw[l3];rfl⟩;have hi:i∈c.list++_:=hi;rw[l3,List.nil_append]at hi;simp only[List.mem_cons,List.not_mem_nil,or_false]at hi;rcases hi with rfl|rfl|rfl<;>rfl
   have HXR:=A8 hx;have HB2:=A8 hb2;have HXS:Hid (XB=Wl.heap.size):=hXB.symm;have HV2:=A8 hV2;clear hV2 hXB hx hb2 sV2;go_upto_region 14 with fail;try rw[<-HXS.out]
   try rw[HV2.out]
   obtain⟨y0,y1,y2,y3,y4⟩:=c5 (HVB.of_block ((HB2.block _ (Nat.lt_of_lt_of_le (HL.lt _ (.inl rfl)).1 HL.sz)).trans (HL.kp _ (.inl rfl))));go_upto_block 4 with fail;clear y0 y1 y2 y3 y4;go_cut [] (fun wx=>Hid (∃x:Ay,x.bits=0/\wx.rowIs XB 53 7 (g7 (.int .i64 x.op) (.int .i64 x.d) (.int .i64 x.a) (.int .i64 x.b) (.int .i64 x.c) (.int .i64 x.n) (.int .u32 x.bits))/\Below Wl.heap.size Wl wx))
   case first=>
    obtain⟨d0,d1,d2,d3,d4,d5,d6⟩:=c7 HXR.out;obtain⟨e0,e1,e2,e3,e4,e5,e6⟩:=z7 HXR.out;by_cases k1:K=1
    .have q1:(K==1)=true:=by simp[k1]
     have hp:=Jh HXR.out (.int .i64 16) (.int .i64 1) (.int .i64 1) (.int .i64 2) (.int .i64 0) (.int .i64 0) (.int .u32 0);have HP:=A8 hp;clear hp k1;go_upto_region 16 with fail;clear hM1 hM2 hM3 bM1 bM2 bM3 q1;go_wp2_with fail;go_meet;exact⟨⟨16,1,1,2,0,0,0⟩,rfl,HP.1,HB2.trans (HP.2.bel _ (by rw[HXS.out];exact gF _))⟩
    .have q1:(K==1)=false:=by simp[k1]
     by_cases k2:K=2
     .have q2:(K==2)=true:=by simp[k2]
      have hp:=Jh HXR.out (.int .i64 21) (.int .i64 2) (.int .i64 2) (.int .i64 0) (.int .i64 0) (.int .i64 0) (.int .u32 0);have HP:=A8 hp;clear hp k2 k1;go_upto_region 18 with fail;clear hM1 hM2 hM3 bM1 bM2 bM3 q1 q2;go_wp2_with fail;go_meet;exact⟨⟨21,2,2,0,0,0,0⟩,rfl,HP.1,HB2.trans (HP.2.bel _ (by rw[HXS.out];exact gF _))⟩
     .have q2:(K==2)=false:=by simp[k2]
      clear k1 k2;go_wp2_with fail;go_meet;exact⟨⟨12,0,0,0,0,0,0⟩,rfl,HXR.out,HB2.out⟩
   case rest=>
    obtain⟨x,hx0,hxr,hxb⟩:=hcut.out;clear hcut;obtain⟨op,d,a,b,e9,n9,bt⟩:=x;simp only at hx0 hxr;subst hx0;have hGX:=HL.rebase hxb (by rw[HXS.out]) hxr.lt;have HG2:=A8 hGX;have HVB2:=A8 (HVB.of_block ((hxb.block _ (Nat.lt_of_lt_of_le (HL.lt _ (.inl rfl)).1 HL.sz)).trans (HL.kp _ (.inl rfl))));have HRB2:=A8 (HRB.of_block ((hxb.block _ (Nat.lt_of_lt_of_le (HL.lt _ (.inr (.inl rfl))).1 HL.sz)).trans (HL.kp _ (.inr (.inl rfl)))));have HXR2:=A8 hxr;have hEl:E<=Wl.heap.size:=HL.cd.sz;have HBL:Hid (Below w.heap.size w wc):=by show Below _ _ _;rw[HE.out];exact HBV.trans (HL.bel.trans (hxb.mono hEl))
    clear hGX hxr hxb hEl HG HL HXR HB2;have HR:Hid (∃c' u3',D5 E DB (fun x=>(x=E\/x=E+1\/x=DB+1)\/x=XB) wc wc c' (.slice (some ⟨E+1+1,0,none⟩) 1 1) u1 u2 u3'/\GQ L c'/\c'.list.length=3):=⟨_,_,HG2.out,HCL.1,HCL.2⟩
    clear HG2 HCL HC;rename World=>wb;go_upto_block 5 with fail;go_cut [] (fun wx=>Hid (∃c' u3',D5 E DB (fun x=>(x=E\/x=E+1\/x=DB+1)\/x=XB) wb wx c' (.slice (some ⟨E+1+1,0,none⟩) 1 1) u1 u2 u3'/\GQ L c'))
    case first=>
     go_wp2_with fail
     go_loopw [8] (fun iv wr=>∃i:Nat,3<=i/\i<=33000/\iv=.int .i64 (i:Int)/\Hid (∃c u3,D5 E DB (fun x=>(x=E\/x=E+1\/x=DB+1)\/x=XB) wb wr c (.slice (some ⟨E+1+1,0,none⟩) 1 1) u1 u2 u3/\GQ L c/\c.list.length=i)) (fun iv _=>33000-(intOf iv).toNat)
     case atStart=>exact⟨3,dE,dE,rfl,HR.out⟩
     case round=>
      clear HR;obtain⟨i,h3,h17,rfl,HR⟩:=hrel;obtain⟨c,u3,hgm,hgc,hcl⟩:=HR.out;have HG:=A8 hgm;have HC:=A8 (And.intro hgc hcl);clear hgm hgc HR;obtain⟨y0,y1,y2,y3,y4⟩:=c5 (HVB2.of_block (HG.kp _ (.inl (.inl rfl))));by_cases hlt:(i:Int)<M3
      .have wk:IntKind.i64.wrap ((i:Int)+1)=((i+1:Nat):Int):=by rw[IntKind.wrap_i64];omega
       have hi1:i+1<=33000:=oM;obtain⟨g,q,w',hrun,hrw,hgm⟩:=HG.list [⟨op,d,a,b,e9,n9,0⟩] (Nat.succ_pos _) (by show(c.list.length+1)*56<=_;omega) 25;have HRUN:Hid ((Builtin.append_ #[25,25] 25 #[u3,.slice (some ⟨wr.heap.size,0,none⟩) 1 1]).run prog (wr.alloc (.cells #[.int .i64 op,.int .i64 d,.int .i64 a,.int .i64 b,.int .i64 e9,.int .i64 n9,.int .u32 0] 53))=.ok (.slice (some ⟨g,0,none⟩) (c.list.length+1) q) w'):=hrun;obtain⟨t0,t1,t2,t3,t4,t5,t6⟩:=c7 (HXR2.of_block (HG.kp _ (.inr rfl)));obtain⟨z0,z1,z2,z3⟩:=c4 HG.cd.row;obtain⟨a0,a1,a2,a3⟩:=c4 hrw;obtain⟨f0,f1,f2,f3⟩:=z4 hrw;obtain⟨Wn,hWn⟩:∃W,w'.setCell ⟨DB,3,none⟩ (.slice (some ⟨g,0,none⟩) (c.list.length+1) q)=W:=⟨_,rfl⟩
       have hgm2:D5 _ DB _ _ (w'.setCell ⟨DB,3,none⟩ (.slice (some ⟨g,0,none⟩) (c.list.length+1) q)) _ _ _ _ _:=hgm;rw[hWn]at hgm2;have HN:=A8 hgm2;clear hrun hrw hgm hgm2 hcl;go_wp2_with(at_builtin;refine B7 rF _ _ _ rF _ _ _ rF rF HRUN.out ?_);try rw[hWn]
       clear hWn HRUN z0 z1 z2 z3 a0 a1 a2 a3 f0 f1 f2 f3 t0 t1 t2 t3 t4 t5 t6 y0 y1 y2 y3 y4;go_roundw
       case rel=>
        obtain⟨⟨k1,k2,k3,k4,k5,k6⟩,l1⟩:=HC.out;have e9':(c.list++[(⟨op,d,a,b,e9,n9,0⟩:Ay)]).length=i+1:=by rw[List.length_append,List.length_singleton,l1]
        have e8:∀s∈c.list++[(⟨op,d,a,b,e9,n9,0⟩:Ay)],s.bits=0:=fun s hs=>by
         rcases List.mem_append.1 hs with h|h
         .exact k3 s h
         .rw[List.mem_singleton.1 h]
        exact⟨i+1,oM,hi1,gN,⟨c.sign,c.regs,c.slots,c.list++[⟨op,d,a,b,e9,n9,0⟩]⟩,_,HN.out,⟨k1,k2,e8,k4,k5,by show(c.list++[(⟨op,d,a,b,e9,n9,0⟩:Ay)]).length<=40000;omega⟩,e9'⟩
       case measure=>simp[intOf];omega
      .clear hcl;go_wp2_with fail;go_meet;obtain⟨k0,l1⟩:=HC.out;exact⟨_,_,HG.out,k0⟩
    case rest=>
     clear HR;obtain⟨c',u3',hgm,hgc⟩:=hcut.out;clear hcut;obtain⟨x1,n1,rfl⟩:=Ax hgm.cd.own.regs;obtain⟨x2,n2,rfl⟩:=Ax hgm.cd.own.slots;obtain⟨x3,n3,rfl⟩:=Ax hgm.cd.own.list;have HG:=A8 hgm;have HC:=A8 hgc;have hrb:=HRB2.of_block (HG.kp _ (.inl (.inr (.inl rfl))));obtain⟨z0,z1,z2,z3⟩:=c4 hgm.cd.row;obtain⟨d0,d1,d2,d3⟩:=c4 hrb;obtain⟨f0,f1,f2,f3⟩:=z4 hrb;have hq:=L8 hrb (.slice (some ⟨E+1+1,0,none⟩) 1 1) (.slice x1 c'.regs.length n1) (.slice x2 c'.slots.length n2) (.slice x3 c'.list.length n3);obtain⟨WF,hWF⟩:∃W,(((wc.setCell ⟨E+1,0,none⟩ (.slice (some ⟨E+1+1,0,none⟩) 1 1)).setCell ⟨E+1,1,none⟩ (.slice x1 c'.regs.length n1)).setCell ⟨E+1,2,none⟩ (.slice x2 c'.slots.length n2)).setCell ⟨E+1,3,none⟩ (.slice x3 c'.list.length n3)=W:=⟨_,rfl⟩
     rw[hWF]at hq;have HF:Hid (BU WF (.slice (some ⟨E+1+1,0,none⟩) 1 1) (.slice x1 c'.regs.length n1) (.slice x2 c'.slots.length n2) (.slice x3 c'.list.length n3) c'):=⟨Dg Eu (AI hgm.cd.own.sign hrb dE hq.2),Dg Eb (AI hgm.cd.own.regs hrb dE hq.2),Dg G8 (AI hgm.cd.own.slots hrb dE hq.2),Dg De (AI hgm.cd.own.list hrb dE hq.2)⟩
     obtain⟨g0,g1,g2,g3⟩:=c4 hq.1;have HBF:Hid (Below w.heap.size w WF):=HBL.trans ((hgm.bel.trans (hq.2.bel E oM)).mono (by rw[HE.out];exact gF _));clear hgm hgc hrb hq;go_upto_region 23 with fail;go_wp2_with fail;try rw[hWF]
     refine bodyPost_ret (by simp[results,results18,go_sem, *];try rfl) rfl ?_;exact⟨_,_,_,_,c',rfl,HF.out,HC.ok,HBF.out⟩
end Go.Proofs.Ytheanilpbnencaa
