import Derived.Test.YtjlpkjblkllfbaaGreatDoorPrs2
import Derived.Maps.OwnSet
import Derived.Maps.OwnOps
import Derived.Maps.RangeWalk
import Derived.Maps.Ext
import Derived.Test.YtjlpkjblkllfbaaGreatDoorPrs1
namespace Go.Proofs.YtjlpkjblkllfbaaGreatDoor
open Go.RowKit Go.Proofs.Tryz
set_option linter.all false
set_option maxRecDepth 100000
set_option maxHeartbeats 16000000
section
open Go.Maps (Keyed)
def hR:Value->Option (DataW Value×List MemPlace):=fun v=>some (.held v,[])
def IZ(k:ByteArray):Lit:=.string k.data.toList
theorem PJ{a b:ByteArray}(h:IZ a=IZ b):a=b:=by
 unfold IZ at h;cases a;cases b
 simpa using h
def D5(w:World)(b n:Nat)(f:ByteArray->Option Value):Prop:=
 ∃D:DataW Value,w.ownsMap prog 9 hR b n D/\∀k zd,D.atKey (IZ k) zd=match f k with |some v=>.held v|none=>zd
def Tq(f:ByteArray->Option Value)(k:ByteArray)(v:Value):ByteArray->Option Value:=fun j=>if j=k then some v else f j
theorem UR:Keyed prog 9:=Maps.string_keyed underlying9
theorem D5.has{f:ByteArray->Option Value}{D:DataW Value}(h:∀k zd,D.atKey (IZ k) zd=match f k with |some v=>.held v|none=>zd)(k:ByteArray):Maps.has D (IZ k)=(f k).isSome:=by
 cases hk:f k with
 |none=>exact Maps.has_false_of_atKey fun z=>by rw[h,hk]
 |some v=>exact Maps.has_true_of_atKey (y:=.held v) fun z=>by rw[h,hk]
theorem MD{k:ByteArray}(h:k.size<=maxLen):keyOf prog 9 (.string k)=some (IZ k):=WideMaps.keyOf_string_mk underlying9 h
theorem D5.new(w:World):D5 (w.alloc (.map #[] 0)) w.heap.size 0 (fun _=>none):=
 ⟨_,World.ownsMap_made _ _ _ _,fun k zd=>rfl⟩
theorem D5.block{w w':World}{b n:Nat}{f:ByteArray->Option Value}(h:D5 w b n f)(hb:w'.heap[b]? =w.heap[b]?):D5 w' b n f:=by
 obtain⟨D,⟨es,clock,h0,h1⟩,h2⟩:=h;exact⟨D,⟨es,clock,hb.trans h0,h1⟩,h2⟩
theorem D5.lt{w:World}{b n:Nat}{f:ByteArray->Option Value}(h:D5 w b n f):b<w.heap.size:=by
 obtain⟨D,h1,_⟩:=h;exact h1.lt
theorem D5.obj{w:World}{b n:Nat}{f:ByteArray->Option Value}(h:D5 w b n f):∃es clock,w.heap[b]? =some (.map es clock):=by
 obtain⟨D,⟨es,clock,h0,h1⟩,h2⟩:=h;exact⟨es,clock,h0⟩
theorem D5.cell{w:World}{b n:Nat}{f:ByteArray->Option Value}(h:D5 w b n f){a:Addr}{v:Value}(hc:w.cell? a=some v):a.block≠b:=by
 obtain⟨es,clock,h0⟩:=h.obj;rintro rfl;simp[World.cell?,h0]at hc
theorem D5.look2{w:World}{b n:Nat}{f:ByteArray->Option Value}(h:D5 w b n f){t e:TypeId}(ht:prog.underlying t=some (.map 9 e)){z:Value}(hz:(zeroValue e).run prog w=.ok z w){k:ByteArray}(hk:k.size<=maxLen):
 (Instr.lookup t (.map (some b)) (.string k) true).run prog w=.ok (.tuple #[(f k).getD z,.bool (f k).isSome]) w:=by
 obtain⟨D,h1,h2⟩:=h;obtain⟨v,ps,hrun,hv⟩:=h1.look_ok UR ht hz (zd:=.held z) (zp:=[]) rfl (MD hk);rw[hrun,D5.has h2];simp only[hR,Option.some.injEq,Prod.mk.injEq,h2]at hv;obtain⟨hv,-⟩:=hv;cases hf:f k with
 |none=>rw[hf]at hv;simp only[DataW.held.injEq]at hv;rw[hv];rfl
 |some u=>rw[hf]at hv;simp only[DataW.held.injEq]at hv;rw[hv];rfl
theorem Ul(k:ByteArray):WideAt.IsKeyLit (IZ k):=by unfold IZ;simp[WideAt.IsKeyLit]
theorem D5.put{w:World}{b n:Nat}{f:ByteArray->Option Value}(h:D5 w b n f)(hn:n<maxLen){t e:TypeId}(ht:prog.underlying t=some (.map 9 e)){k:ByteArray}(hk:k.size<=maxLen)(v:Value):
 ∃w',(Instr.mapUpdate t (.map (some b)) (.string k) v).run prog w=.ok () w'/\D5 w' b (n+1) (Tq f k v)/\w.grownBy w' (some b):=by
 obtain⟨D,h1,h2⟩:=h;obtain⟨w',hrun,r1,r2⟩:=h1.update UR ht hn (MD hk) (d:=.held v) (ps:=[]) (val:=v) rfl;refine⟨w',hrun,⟨_,r1,fun j zd=>?_⟩,r2⟩;unfold Tq;by_cases e:j=k
 .subst e;rw[Maps.atKey_put_same (h1.canon UR |>.elim fun es hes=>⟨es,hes.1⟩) (Ul j)];simp
 .rw[Maps.atKey_put_other (fun he=>e (PJ he)),h2,if_neg e]
end
end Go.Proofs.YtjlpkjblkllfbaaGreatDoor
