import Derived.Test.YtjlpkjblkllfbaaGreatDoorOwn2
import Derived.Maps.OwnSet
import Derived.Maps.OwnOps
import Derived.Maps.RangeWalk
import Derived.Maps.Ext
import Derived.Test.YtjlpkjblkllfbaaGreatDoorOwn1
namespace Go.Proofs.YtjlpkjblkllfbaaGreatDoor
open Go.RowKit Go.Proofs.Tryz
set_option linter.all false
set_option maxRecDepth 100000
set_option maxHeartbeats 16000000
section
open Go.Maps (Keyed)
def hR:Value->Option (DataW Value×List MemPlace):=fun v=>some (.held v,[])
def J1(k:ByteArray):Lit:=.string k.data.toList
theorem PO{a b:ByteArray}(h:J1 a=J1 b):a=b:=by
 unfold J1 at h;cases a;cases b
 simpa using h
def D6(w:World)(b n:Nat)(f:ByteArray->Option Value):Prop:=
 ∃D:DataW Value,w.ownsMap prog 9 hR b n D/\∀k zd,D.atKey (J1 k) zd=match f k with |some v=>.held v|none=>zd
def Tv(f:ByteArray->Option Value)(k:ByteArray)(v:Value):ByteArray->Option Value:=fun j=>if j=k then some v else f j
theorem UV:Keyed prog 9:=Maps.string_keyed underlying9
theorem D6.has{f:ByteArray->Option Value}{D:DataW Value}(h:∀k zd,D.atKey (J1 k) zd=match f k with |some v=>.held v|none=>zd)(k:ByteArray):Maps.has D (J1 k)=(f k).isSome:=by
 cases hk:f k with
 |none=>exact Maps.has_false_of_atKey fun z=>by rw[h,hk]
 |some v=>exact Maps.has_true_of_atKey (y:=.held v) fun z=>by rw[h,hk]
theorem MG{k:ByteArray}(h:k.size<=maxLen):keyOf prog 9 (.string k)=some (J1 k):=WideMaps.keyOf_string_mk underlying9 h
theorem D6.new(w:World):D6 (w.alloc (.map #[] 0)) w.heap.size 0 (fun _=>none):=
 ⟨_,World.ownsMap_made _ _ _ _,fun k zd=>rfl⟩
theorem D6.block{w w':World}{b n:Nat}{f:ByteArray->Option Value}(h:D6 w b n f)(hb:w'.heap[b]? =w.heap[b]?):D6 w' b n f:=by
 obtain⟨D,⟨es,clock,h0,h1⟩,h2⟩:=h;exact⟨D,⟨es,clock,hb.trans h0,h1⟩,h2⟩
theorem D6.lt{w:World}{b n:Nat}{f:ByteArray->Option Value}(h:D6 w b n f):b<w.heap.size:=by
 obtain⟨D,h1,_⟩:=h;exact h1.lt
theorem D6.obj{w:World}{b n:Nat}{f:ByteArray->Option Value}(h:D6 w b n f):∃es clock,w.heap[b]? =some (.map es clock):=by
 obtain⟨D,⟨es,clock,h0,h1⟩,h2⟩:=h;exact⟨es,clock,h0⟩
theorem D6.cell{w:World}{b n:Nat}{f:ByteArray->Option Value}(h:D6 w b n f){a:Addr}{v:Value}(hc:w.cell? a=some v):a.block≠b:=by
 obtain⟨es,clock,h0⟩:=h.obj;rintro rfl;simp[World.cell?,h0]at hc
theorem D6.look2{w:World}{b n:Nat}{f:ByteArray->Option Value}(h:D6 w b n f){t e:TypeId}(ht:prog.underlying t=some (.map 9 e)){z:Value}(hz:(zeroValue e).run prog w=.ok z w){k:ByteArray}(hk:k.size<=maxLen):
 (Instr.lookup t (.map (some b)) (.string k) true).run prog w=.ok (.tuple #[(f k).getD z,.bool (f k).isSome]) w:=by
 obtain⟨D,h1,h2⟩:=h;obtain⟨v,ps,hrun,hv⟩:=h1.look_ok UV ht hz (zd:=.held z) (zp:=[]) rfl (MG hk);rw[hrun,D6.has h2];simp only[hR,Option.some.injEq,Prod.mk.injEq,h2]at hv;obtain⟨hv,-⟩:=hv;cases hf:f k with
 |none=>rw[hf]at hv;simp only[DataW.held.injEq]at hv;rw[hv];rfl
 |some u=>rw[hf]at hv;simp only[DataW.held.injEq]at hv;rw[hv];rfl
theorem Ur(k:ByteArray):WideAt.IsKeyLit (J1 k):=by unfold J1;simp[WideAt.IsKeyLit]
theorem D6.put{w:World}{b n:Nat}{f:ByteArray->Option Value}(h:D6 w b n f)(hn:n<maxLen){t e:TypeId}(ht:prog.underlying t=some (.map 9 e)){k:ByteArray}(hk:k.size<=maxLen)(v:Value):
 ∃w',(Instr.mapUpdate t (.map (some b)) (.string k) v).run prog w=.ok () w'/\D6 w' b (n+1) (Tv f k v)/\w.grownBy w' (some b):=by
 obtain⟨D,h1,h2⟩:=h;obtain⟨w',hrun,r1,r2⟩:=h1.update UV ht hn (MG hk) (d:=.held v) (ps:=[]) (val:=v) rfl;refine⟨w',hrun,⟨_,r1,fun j zd=>?_⟩,r2⟩;unfold Tv;by_cases e:j=k
 .subst e;rw[Maps.atKey_put_same (h1.canon UV |>.elim fun es hes=>⟨es,hes.1⟩) (Ur j)];simp
 .rw[Maps.atKey_put_other (fun he=>e (PO he)),h2,if_neg e]
end
end Go.Proofs.YtjlpkjblkllfbaaGreatDoor
