import Derived.Test.YtheanilpbnencaaSum10
import Derived.Test.YtheanilpbnencaaSum11
import Derived.Test.YtheanilpbnencaaSum1
namespace Go.Proofs.Ytheanilpbnencaa
open Go.RowKit Go.Proofs.Try
set_option linter.all false
set_option maxRecDepth 100000
set_option maxHeartbeats 16000000


section
variable {B M : Nat} {v v' : World} {sv ov : Value} {s : Wk} {us : List Value}
theorem Dr{B:Nat}{V:World}{e t:TypeId}{z:Value}{sz by':Nat}(ht:prog.underlying t=some (.slice e))(hi:(prog.info? e).map (fun i=>(i.zero,i.size,i.bytes))=some (some z,sz,by'))(hzs:z.cells.size=sz)(hsz:0<sz){p:Option Addr}{n q:Nat}{xs:List Value}(h:V.ownsRow B e sz (.slice p n q) n xs)(hB:B<=V.heap.size)
 (cs:Array Value) (hcs:cs.size=sz) (h1:∀u∈cs.toList,u.oneCell'=true) (hn:n+1<=maxLen) (hb:(n+1)*by'<=140737488355328) (ty:TypeId):
 ∃g c' w',(Builtin.append_ #[t,t] ty #[.slice p n q,.slice (some ⟨V.heap.size,0,none⟩) 1 1]).run prog (V.alloc (.cells cs e))=.ok (.slice (some ⟨g,0,none⟩) (n+1) c') w'/\Below B V w'/\w'.ownsRow B e sz (.slice (some ⟨g,0,none⟩) (n+1) c') (n+1) (xs++cs.toList)/\∀b,b<V.heap.size->(Value.slice p n q).ownBlock≠some b->w'.heap[b]? =V.heap[b]? :=by
 obtain⟨i0,hi0,hz0,hz1,hz2⟩:=info_parts hi;have hb0:Below V.heap.size V (V.alloc (.cells cs e)):=A0 _ _;have hs:(V.alloc (.cells cs e)).heap.size=V.heap.size+1:=sM;have h0:=An h hb0;obtain⟨g,cap,w3,hr,hown,hgrow,hat,hlt⟩:=run_append_lies (P:=prog) (V.alloc (.cells cs e)) t ty B e i0 _ sz by' ht hi0 hz0 hz1 hz2 hzs hsz (.slice p n q) n xs h0 ⟨V.heap.size,0,none⟩ 1 1 cs.toList (by simp[hcs])
  (World.news_of_block (cs:=cs) (t:=e) (fr:=(0,0)) (heap_alloc_new V _)) h1 dE hn hb oM _ rfl
 refine⟨g,cap,w3,hr,(hb0.mono hB).grown hgrow oM (fun q e=>(h0.lt q e).1),hown,fun b hb hne=>?_⟩;rw[hgrow.block b oM (Ne.symm hne)];exact hb0.block b hb
end

end Go.Proofs.Ytheanilpbnencaa
