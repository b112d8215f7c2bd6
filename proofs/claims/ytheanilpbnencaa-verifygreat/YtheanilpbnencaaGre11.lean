import Derived.Test.YtheanilpbnencaaGre9
import Derived.Test.YtheanilpbnencaaGre7
import Derived.Deep.DeepCutAuto
import Derived.Test.YtheanilpbnencaaGre1
namespace Go.Proofs.Ytheanilpbnencaa
open Go.RowKit Go.Proofs.Try
set_option linter.all false
set_option maxRecDepth 100000
set_option maxHeartbeats 16000000

theorem Jb:∀x:Ty,∀u∈Gd x,u.oneCell'=true:=fun x u hu=>by simp[Gd]at hu;rcases hu with rfl|rfl<;>rfl
theorem J8:∀x:Sl,∀u∈GJ x,u.oneCell'=true:=fun x u hu=>by simp[GJ]at hu;rcases hu with rfl|rfl|rfl|rfl|rfl<;>rfl
theorem Gq:(prog.info? 47).map (fun i=>(i.zero,i.size,i.bytes))=some (some (.agg #[.int .i64 0,.int .i64 0]),2,16):=kR
theorem Gp:(prog.info? 51).map (fun i=>(i.zero,i.size,i.bytes))=some (some (.agg #[.int .i64 0,.int .i64 0,.bool false,.int .u32 0,.int .i64 0]),5,32):=kR
def f4(a b c d:Value)(j:Nat):Value:=if j=0 then a else if j=1 then b else if j=2 then c else d
structure Kr(B:Nat)(w:World)(u0 u1 u2 u3:Value)(c:Cd):Prop where
 sign:w.ownsRow B 63 3 u0 c.sign.length (AR Bz c.sign)
 regs:w.ownsRow B 47 2 u1 c.regs.length (AR Gd c.regs)
 slots:w.ownsRow B 51 5 u2 c.slots.length (AR GJ c.slots)
 list:w.ownsRow B 53 7 u3 c.list.length (AR C1 c.list)

theorem AB{w:World}{B B':Nat}{t t':TypeId}{k k' n n':Nat}{v v':Value}{xs xs':List Value}(h:w.ownsRow B t k v n xs)(h':w.ownsRow B' t' k' v' n' xs')(ht:t≠t'):∀b,v.ownBlock=some b->v'.ownBlock≠some b:=by
 intro b hb hb';rcases h.2 with⟨rfl,_⟩|⟨g,cap,cur,rfl,_,hg,_⟩
 .exact absurd (show(none:Option Nat)=some b from hb) sM
 rcases h'.2 with⟨rfl,_⟩|⟨g',cap',cur',rfl,_,hg',_⟩
 .exact absurd (show(none:Option Nat)=some b from hb') sM
 have e1:g=b:=Option.some.inj hb;have e2:g'=b:=Option.some.inj hb';rw[e1]at hg;rw[e2,hg]at hg';simp only[Option.some.injEq,Obj.cells.injEq]at hg';exact ht hg'.2.1


def Bc(M:Nat)(X:List Nat):List Value:=(List.range M).map fun j=>.bool (decide (j∈X))
theorem Ds(M:Nat)(X:List Nat):(Bc M X).length=M:=by simp[Bc]
theorem CJ{M:Nat}{X:List Nat}{j:Nat}(h:j<M):(Bc M X)[j]? =some (.bool (decide (j∈X))):=by
 unfold Bc;rw[List.getElem?_map,List.getElem?_range h];rfl
theorem EE(M:Nat):Bc M []=List.replicate M (.bool false):=by
 apply List.ext_getElem?;intro j;by_cases h:j<M
 .rw[CJ h,List.getElem?_replicate,if_pos h];simp
 .rw[List.getElem?_eq_none Kn,List.getElem?_eq_none sO]
theorem Ih{M:Nat}{X:List Nat}{i:Ay}(hd:(Ad i.op).d≠0)(hl:i.d.toNat<M):(Bc M X).set i.d.toNat (.bool true)=Bc M (Dc X i):=by
 apply List.ext_getElem?;intro j;by_cases h:j<M
 .rw[CJ h,List.getElem?_set];by_cases e:i.d.toNat=j
  .rw[if_pos e,if_pos Kn];have:j∈Dc X i:=FA.2 (.inr ⟨hd,e.symm⟩);simp[this]
  .rw[if_neg e,CJ h];have:j∈Dc X i↔j∈X:=by
    rw[FA];exact⟨fun q=>q.resolve_right fun q=>e q.2.symm,.inl⟩
   simp[this]
 .rw[List.getElem?_eq_none (by rw[List.length_set,Ds];omega),List.getElem?_eq_none Kn]
theorem GG{M:Nat}{X:List Nat}{i:Ay}(hd:(Ad i.op).d=0):Dc X i=X:=by unfold Dc;rw[if_neg (fun q=>q.1 hd)]
theorem GV{B:Nat}{V:World}{p:Option Addr}{n q:Nat}{xs:List Value}(h:V.ownsRow B 4 1 (.slice p n q) n xs)(hB:B<=V.heap.size)(hn:n<=140737488351232):
 ∃g c' w',(Builtin.append_ #[67,67] 67 #[.slice p n q,.slice (some ⟨V.heap.size,0,none⟩) 1 1]).run prog (V.alloc (.cells #[.bool false] 4))=.ok (.slice (some ⟨g,0,none⟩) (n+1) c') w'/\Below B V w'/\w'.ownsRow B 4 1 (.slice (some ⟨g,0,none⟩) (n+1) c') (n+1) (xs++[.bool false]):=by
 obtain⟨i0,hi0,hz0,hz1,hz2⟩:=info_parts Ci;have hb0:Below V.heap.size V (V.alloc (.cells #[.bool false] 4)):=A0 _ _;have hsz:(V.alloc (.cells #[.bool false] 4)).heap.size=V.heap.size+1:=sM;have h0:=Aq h hb0;obtain⟨g,cap,w3,hr,hown,hgrow,hat,hlt⟩:=run_append_lies (P:=prog) (V.alloc (.cells #[.bool false] 4)) 67 67 B 4 i0 _ 1 1 underlying67 hi0 hz0 hz1 hz2 rfl dE (.slice p n q) n xs h0 ⟨V.heap.size,0,none⟩ 1 1 [.bool false] rfl
  (World.news_of_block (cs:=#[.bool false]) (t:=4) (fr:=(0,0)) (heap_alloc_new V _)) Jf dE mL oM sO _ rfl
 exact⟨g,cap,w3,hr,(hb0.mono hB).grown hgrow oM (fun q e=>(h0.lt q e).1),hown⟩
theorem A8{p:Prop}(h:p):Hid p:=h
theorem Ff(w:World)(t:TypeId)(v0 v1 v2 v3:Value):(w.alloc (.cells #[v0,v1,v2,v3] t)).rowIs w.heap.size t 4 (f4 v0 v1 v2 v3):=
 World.rowIs_alloc w #[v0,v1,v2,v3] t _ (fun i hi=>by rcases(show i=0\/i=1\/i=2\/i=3 by have:i<4:=hi;omega)with rfl|rfl|rfl|rfl<;>rfl)
structure Bi(C:Nat)(V V':World):Prop where
 oth:∀b,b≠C->V'.heap[b]? =V.heap[b]?
 bel:∀B,B<=C->Below B V V'
theorem Bi.one(C o:Nat)(V:World)(v:Value):Bi C V (V.setCell ⟨C,o,none⟩ v):=⟨fun b h=>gE h,fun B h=>(Below.refl _ _).setCell h _⟩
theorem Bi.trans{C:Nat}{V V' V'':World}(h:Bi C V V')(k:Bi C V' V''):Bi C V V'':=⟨fun b hb=>(k.oth b hb).trans (h.oth b hb),fun B hB=>(h.bel B hB).trans (k.bel B hB)⟩
theorem L8{V:World}{C:Nat}{t:TypeId}{f:Nat->Value}(rc:V.rowIs C t 4 f)(v0 v1 v2 v3:Value):((((V.setCell ⟨C,0,none⟩ v0).setCell ⟨C,1,none⟩ v1).setCell ⟨C,2,none⟩ v2).setCell ⟨C,3,none⟩ v3).rowIs C t 4 (f4 v0 v1 v2 v3)/\Bi C V ((((V.setCell ⟨C,0,none⟩ v0).setCell ⟨C,1,none⟩ v1).setCell ⟨C,2,none⟩ v2).setCell ⟨C,3,none⟩ v3):=by
 refine⟨((((rc.set 0 v0).set 1 v1).set 2 v2).set 3 v3).congr fun j hj=>?_,(((Bi.one C 0 V v0).trans (Bi.one C 1 _ v1)).trans (Bi.one C 2 _ v2)).trans (Bi.one C 3 _ v3)⟩;exact Kh
theorem Jz{V:World}{C:Nat}{t:TypeId}{v0 v1 v2 v3:Value}(rc:V.rowIs C t 4 (f4 v0 v1 v2 v3))(v:Value):(V.setCell ⟨C,1,none⟩ v).rowIs C t 4 (f4 v0 v v2 v3)/\Bi C V (V.setCell ⟨C,1,none⟩ v):=by
 refine⟨(rc.set 1 v).congr fun j hj=>?_,Bi.one C 1 V v⟩;exact Kh
theorem c4{w:World}{b:Nat}{t:TypeId}{v0 v1 v2 v3:Value}(h:w.rowIs b t 4 (f4 v0 v1 v2 v3)):w.cell? ⟨b,0,none⟩=some v0/\w.cell? ⟨b,1,none⟩=some v1/\w.cell? ⟨b,2,none⟩=some v2/\w.cell? ⟨b,3,none⟩=some v3:=⟨h.cell (i:=0) dE,h.cell (i:=1) dE,h.cell (i:=2) dE,h.cell (i:=3) dE⟩
theorem z4{w:World}{b n:Nat}{t:TypeId}{f:Nat->Value}(h:w.rowIs b t n f):w.frozen? ⟨b,0,none⟩=false/\w.frozen? ⟨b,1,none⟩=false/\w.frozen? ⟨b,2,none⟩=false/\w.frozen? ⟨b,3,none⟩=false:=⟨h.frozen 0,h.frozen 1,h.frozen 2,h.frozen 3⟩
theorem Jp{w w':World}{b n:Nat}{t:TypeId}{f:Nat->Value}{o:Obj}(h:w.rowIs b t n f)(hw:w.alloc o=w'):w'.rowIs b t n f:=by subst hw;exact h.alloc _
theorem GW{w w':World}{C:Nat}{o:Obj}(hw:w.alloc o=w')(hC:C<=w.heap.size):Below C w w':=by subst hw;exact(A0 _ _).mono hC
def g2(a0 a1:Value)(k:Nat):Value:=if k=0 then a0 else a1
theorem JA(w:World)(t:TypeId)(a0 a1:Value):(w.alloc (.cells #[a0,a1] t)).rowIs w.heap.size t 2 (g2 a0 a1):=
 World.rowIs_alloc w #[a0,a1] t _ (fun i hi=>by rcases(show i=0\/i=1 by have:i<2:=hi;omega)with rfl|rfl<;>rfl)
theorem c2{w:World}{b:Nat}{t:TypeId}{a0 a1:Value}(h:w.rowIs b t 2 (g2 a0 a1)):w.cell? ⟨b,0,none⟩=some a0/\w.cell? ⟨b,1,none⟩=some a1:=⟨h.cell (i:=0) dE,h.cell (i:=1) dE⟩
theorem z2{w:World}{b n:Nat}{t:TypeId}{f:Nat->Value}(h:w.rowIs b t n f):w.frozen? ⟨b,0,none⟩=false/\w.frozen? ⟨b,1,none⟩=false:=⟨h.frozen 0,h.frozen 1⟩
def g3(a0 a1 a2:Value)(k:Nat):Value:=if k=0 then a0 else if k=1 then a1 else a2
theorem c3{w:World}{b:Nat}{t:TypeId}{a0 a1 a2:Value}(h:w.rowIs b t 3 (g3 a0 a1 a2)):w.cell? ⟨b,0,none⟩=some a0/\w.cell? ⟨b,1,none⟩=some a1/\w.cell? ⟨b,2,none⟩=some a2:=⟨h.cell (i:=0) dE,h.cell (i:=1) dE,h.cell (i:=2) dE⟩
theorem z3{w:World}{b n:Nat}{t:TypeId}{f:Nat->Value}(h:w.rowIs b t n f):w.frozen? ⟨b,0,none⟩=false/\w.frozen? ⟨b,1,none⟩=false/\w.frozen? ⟨b,2,none⟩=false:=⟨h.frozen 0,h.frozen 1,h.frozen 2⟩
def g5(a0 a1 a2 a3 a4:Value)(k:Nat):Value:=if k=0 then a0 else if k=1 then a1 else if k=2 then a2 else if k=3 then a3 else a4
theorem JB(w:World)(t:TypeId)(a0 a1 a2 a3 a4:Value):(w.alloc (.cells #[a0,a1,a2,a3,a4] t)).rowIs w.heap.size t 5 (g5 a0 a1 a2 a3 a4):=
 World.rowIs_alloc w #[a0,a1,a2,a3,a4] t _ (fun i hi=>by rcases(show i=0\/i=1\/i=2\/i=3\/i=4 by have:i<5:=hi;omega)with rfl|rfl|rfl|rfl|rfl<;>rfl)
theorem c5{w:World}{b:Nat}{t:TypeId}{a0 a1 a2 a3 a4:Value}(h:w.rowIs b t 5 (g5 a0 a1 a2 a3 a4)):w.cell? ⟨b,0,none⟩=some a0/\w.cell? ⟨b,1,none⟩=some a1/\w.cell? ⟨b,2,none⟩=some a2/\w.cell? ⟨b,3,none⟩=some a3/\w.cell? ⟨b,4,none⟩=some a4:=⟨h.cell (i:=0) dE,h.cell (i:=1) dE,h.cell (i:=2) dE,h.cell (i:=3) dE,h.cell (i:=4) dE⟩
theorem z5{w:World}{b n:Nat}{t:TypeId}{f:Nat->Value}(h:w.rowIs b t n f):w.frozen? ⟨b,0,none⟩=false/\w.frozen? ⟨b,1,none⟩=false/\w.frozen? ⟨b,2,none⟩=false/\w.frozen? ⟨b,3,none⟩=false/\w.frozen? ⟨b,4,none⟩=false:=⟨h.frozen 0,h.frozen 1,h.frozen 2,h.frozen 3,h.frozen 4⟩
def g7(a0 a1 a2 a3 a4 a5 a6:Value)(k:Nat):Value:=if k=0 then a0 else if k=1 then a1 else if k=2 then a2 else if k=3 then a3 else if k=4 then a4 else if k=5 then a5 else a6
theorem Ha(w:World)(t:TypeId)(a0 a1 a2 a3 a4 a5 a6:Value):(w.alloc (.cells #[a0,a1,a2,a3,a4,a5,a6] t)).rowIs w.heap.size t 7 (g7 a0 a1 a2 a3 a4 a5 a6):=
 World.rowIs_alloc w #[a0,a1,a2,a3,a4,a5,a6] t _ (fun i hi=>by rcases(show i=0\/i=1\/i=2\/i=3\/i=4\/i=5\/i=6 by have:i<7:=hi;omega)with rfl|rfl|rfl|rfl|rfl|rfl|rfl<;>rfl)
theorem Jh{V:World}{C:Nat}{t:TypeId}{f:Nat->Value}(rc:V.rowIs C t 7 f)(a0 a1 a2 a3 a4 a5 a6:Value):(((((((V.setCell ⟨C,0,none⟩ a0).setCell ⟨C,1,none⟩ a1).setCell ⟨C,2,none⟩ a2).setCell ⟨C,3,none⟩ a3).setCell ⟨C,4,none⟩ a4).setCell ⟨C,5,none⟩ a5).setCell ⟨C,6,none⟩ a6).rowIs C t 7 (g7 a0 a1 a2 a3 a4 a5 a6)/\Bi C V (((((((V.setCell ⟨C,0,none⟩ a0).setCell ⟨C,1,none⟩ a1).setCell ⟨C,2,none⟩ a2).setCell ⟨C,3,none⟩ a3).setCell ⟨C,4,none⟩ a4).setCell ⟨C,5,none⟩ a5).setCell ⟨C,6,none⟩ a6):=by
 refine⟨(((((((rc.set 0 a0).set 1 a1).set 2 a2).set 3 a3).set 4 a4).set 5 a5).set 6 a6).congr fun j hj=>?_,((((((Bi.one C 0 V a0).trans (Bi.one C 1 _ a1)).trans (Bi.one C 2 _ a2)).trans (Bi.one C 3 _ a3)).trans (Bi.one C 4 _ a4)).trans (Bi.one C 5 _ a5)).trans (Bi.one C 6 _ a6)⟩;rcases(show j=0\/j=1\/j=2\/j=3\/j=4\/j=5\/j=6 by omega)with rfl|rfl|rfl|rfl|rfl|rfl|rfl<;>rfl
theorem c7{w:World}{b:Nat}{t:TypeId}{a0 a1 a2 a3 a4 a5 a6:Value}(h:w.rowIs b t 7 (g7 a0 a1 a2 a3 a4 a5 a6)):w.cell? ⟨b,0,none⟩=some a0/\w.cell? ⟨b,1,none⟩=some a1/\w.cell? ⟨b,2,none⟩=some a2/\w.cell? ⟨b,3,none⟩=some a3/\w.cell? ⟨b,4,none⟩=some a4/\w.cell? ⟨b,5,none⟩=some a5/\w.cell? ⟨b,6,none⟩=some a6:=⟨h.cell (i:=0) dE,h.cell (i:=1) dE,h.cell (i:=2) dE,h.cell (i:=3) dE,h.cell (i:=4) dE,h.cell (i:=5) dE,h.cell (i:=6) dE⟩
theorem z7{w:World}{b n:Nat}{t:TypeId}{f:Nat->Value}(h:w.rowIs b t n f):w.frozen? ⟨b,0,none⟩=false/\w.frozen? ⟨b,1,none⟩=false/\w.frozen? ⟨b,2,none⟩=false/\w.frozen? ⟨b,3,none⟩=false/\w.frozen? ⟨b,4,none⟩=false/\w.frozen? ⟨b,5,none⟩=false/\w.frozen? ⟨b,6,none⟩=false:=⟨h.frozen 0,h.frozen 1,h.frozen 2,h.frozen 3,h.frozen 4,h.frozen 5,h.frozen 6⟩
end Go.Proofs.Ytheanilpbnencaa
