import Derived.Test.YtnlgkkbmbijndaaGreatSeal9
import Derived.Test.YtnlgkkbmbijndaaGreatSeal6
import Derived.Test.YtnlgkkbmbijndaaGreatSeal8
import Derived.Test.YtnlgkkbmbijndaaGreatSeal1
namespace Go.Proofs.YtnlgkkbmbijndaaGreat
open Go.RowKit Go.Proofs.Tryz
set_option linter.all false
set_option maxRecDepth 100000
set_option maxHeartbeats 16000000


theorem DP{w:World}{B B':Nat}{t t':TypeId}{k k' n n':Nat}{v v':Value}{xs xs':List Value}(h:w.ownsRow B t k v n xs)(h':w.ownsRow B' t' k' v' n' xs')(ht:t≠t'):∀b,v.ownBlock=some b->v'.ownBlock≠some b:=by
 intro b hb hb';rcases h.2 with⟨rfl,_⟩|⟨g,cap,cur,rfl,_,hg,_⟩
 .exact absurd (show(none:Option Nat)=some b from hb) sM
 rcases h'.2 with⟨rfl,_⟩|⟨g',cap',cur',rfl,_,hg',_⟩
 .exact absurd (show(none:Option Nat)=some b from hb') sM
 have e1:g=b:=Option.some.inj hb;have e2:g'=b:=Option.some.inj hb';rw[e1]at hg;rw[e2,hg]at hg';simp only[Option.some.injEq,Obj.cells.injEq]at hg';exact ht hg'.2.1


def C5(M:Nat)(X:List Nat):List Value:=(List.range M).map fun j=>.bool (decide (j∈X))
theorem FJ(M:Nat)(X:List Nat):(C5 M X).length=M:=by simp[C5]
theorem Ew{M:Nat}{X:List Nat}{j:Nat}(h:j<M):(C5 M X)[j]? =some (.bool (decide (j∈X))):=by
 unfold C5;rw[List.getElem?_map,List.getElem?_range h];rfl
theorem Hz(M:Nat):C5 M []=List.replicate M (.bool false):=by
 apply List.ext_getElem?;intro j;by_cases h:j<M
 .rw[Ew h,List.getElem?_replicate,if_pos h];simp
 .rw[List.getElem?_eq_none Re,List.getElem?_eq_none sO]
theorem N7{M:Nat}{X:List Nat}{i:Ar}(hd:(Ag i.op).d≠0)(hl:i.d.toNat<M):(C5 M X).set i.d.toNat (.bool true)=C5 M (F4 X i):=by
 apply List.ext_getElem?;intro j;by_cases h:j<M
 .rw[Ew h,List.getElem?_set];by_cases e:i.d.toNat=j
  .rw[if_pos e,if_pos Re];have:j∈F4 X i:=Jg.2 (.inr ⟨hd,e.symm⟩);simp[this]
  .rw[if_neg e,Ew h];have:j∈F4 X i↔j∈X:=by
    rw[Jg];exact⟨fun q=>q.resolve_right fun q=>e q.2.symm,.inl⟩
   simp[this]
 .rw[List.getElem?_eq_none (by rw[List.length_set,FJ];omega),List.getElem?_eq_none Re]
theorem Lg{M:Nat}{X:List Nat}{i:Ar}(hd:(Ag i.op).d=0):F4 X i=X:=by unfold F4;rw[if_neg (fun q=>q.1 hd)]
theorem Lx{B:Nat}{V:World}{p:Option Addr}{n q:Nat}{xs:List Value}(h:V.ownsRow B 4 1 (.slice p n q) n xs)(hB:B<=V.heap.size)(hn:n<=140737488351232):
 ∃g c' w',(Builtin.append_ #[88,88] 88 #[.slice p n q,.slice (some ⟨V.heap.size,0,none⟩) 1 1]).run prog (V.alloc (.cells #[.bool false] 4))=.ok (.slice (some ⟨g,0,none⟩) (n+1) c') w'/\Below B V w'/\w'.ownsRow B 4 1 (.slice (some ⟨g,0,none⟩) (n+1) c') (n+1) (xs++[.bool false]):=by
 obtain⟨i0,hi0,hz0,hz1,hz2⟩:=info_parts DK;have hb0:Below V.heap.size V (V.alloc (.cells #[.bool false] 4)):=A7 _ _;have hsz:(V.alloc (.cells #[.bool false] 4)).heap.size=V.heap.size+1:=sM;have h0:=AK h hb0;obtain⟨g,cap,w3,hr,hown,hgrow,hat,hlt⟩:=run_append_lies (P:=prog) (V.alloc (.cells #[.bool false] 4)) 88 88 B 4 i0 _ 1 1 underlying88 hi0 hz0 hz1 hz2 rfl dE (.slice p n q) n xs h0 ⟨V.heap.size,0,none⟩ 1 1 [.bool false] rfl
  (World.news_of_block (cs:=#[.bool false]) (t:=4) (fr:=(0,0)) (heap_alloc_new V _)) Nx dE mL oM sO _ rfl
 exact⟨g,cap,w3,hr,(hb0.mono hB).grown hgrow oM (fun q e=>(h0.lt q e).1),hown⟩
end Go.Proofs.YtnlgkkbmbijndaaGreat
