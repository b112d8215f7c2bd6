import Derived.RowKit3
import Derived.Test.YtheanilpbnencaaRows
import Derived.WalkKit
import Derived.WalkSpells
import Derived.WalkLawsBesides
import Derived.LoopN
import Derived.Below
import Derived.OwnWalk
import Derived.Shelf.Abstract
import Derived.Deep.AppendLies
import Derived.Maps.AppendAt
import Derived.Laws.AppendOwnNone
import Derived.Deep.OwnRows
import Derived.Deep.DeepCutAuto
import Derived.Deep.QuietTactic
import Derived.Deep.RegionHeld3
import Derived.BigQuiet
import Derived.Handy
import Derived.OrdersHeld
namespace Go.Proofs.Ytheanilpbnencaa
open Go.RowKit Go.Proofs.Try
set_option linter.all false
set_option maxRecDepth 100000
set_option maxHeartbeats 16000000
abbrev Bs:=List UInt8
def bs(s:ByteArray):Bs:=s.data.toList
def nb(b:UInt8):Int:=(b.toNat:Int)
def hd:Bs→Int
 |[]=>0
 |b::_=>nb b
theorem EF(s:ByteArray):(bs s).length=s.size:=by simp[bs]
theorem GA(s:ByteArray):(⟨(bs s).toArray⟩:ByteArray)=s:=by simp[bs]
theorem GP{s t:ByteArray}(h:bs s=bs t):s=t:=by rw[←GA s,←GA t,h]
structure AF where
 name:ByteArray
 kind:Int
 len:Int
def ET(c:Int):Bool:=
 (decide (97≤c)&&decide (c≤122))||(decide (65≤c)&&decide (c≤90))||(decide (48≤c)&&decide (c≤57))||c==95||c==46||c==47||c==45
def AI(s:ByteArray):Bool:=(s.size != 0&&decide (s.size≤64))&&(bs s).all fun b=>ET (nb b)
def AZ(p:AF):Bool:=(AI p.name&&(p.kind==1||p.kind==2))&&(decide (1≤p.len)&&decide (p.len≤4096))
def D5(p:AF):Int:=if AZ p then(if p.kind==2 then 2*p.len else p.len)else 0
def Bl:List AF→Int
 |[]=>0
 |p::r=>D5 p+Bl r
def AE(s:ByteArray):List AF→Option Nat
 |[]=>none
 |p::r=>if p.name=s then some 0 else(AE s r).map (· +1)
def AO:List AF→Bool
 |[]=>false
 |p::r=>(r.any fun q=>decide (q.name=p.name))||AO r
def AN(l:List AF):Int:=
 if l.length>64 then 2 else if l.all AZ=false then 100 else if AO l then 101 else if Bl l>65536 then 102 else 0
theorem CD(p:AF):0≤D5 p∧D5 p≤8192:=by
 unfold D5
 split
 ·rename_i h
  unfold AZ at h
  simp at h
  split<;>omega
 ·decide
theorem G1(l:List AF)(p:AF):Bl (l++[p])=Bl l+D5 p:=by
 induction l with
 |nil=>simp[Bl]
 |cons q r ih=>simp only[List.cons_append,Bl,ih];omega
theorem CN(l:List AF):0≤Bl l∧Bl l≤8192*(l.length:Int):=by
 induction l with
 |nil=>simp[Bl]
 |cons q r ih=>have:=CD q;simp only[Bl,List.length_cons];omega
theorem Df{α:Type}{l:List α}{i:Nat}(h:i<l.length):l.take (i+1)=l.take i++[l[i]]:=by simp
theorem bel{a b c:World}(h:Below a.heap.size a b)(k:Below b.heap.size b c):Below a.heap.size a c:=h.trans (k.mono h.size)
theorem Cq(w:World):Below w.heap.size w w:=Below.refl _ _
theorem A0(w:World)(o:Obj):Below w.heap.size w (w.alloc o):=(Below.refl _ _).alloc (Nat.le_refl _) o
theorem A5(w:World):Below w.heap.size w w.drew:=(Below.refl _ _).drew
theorem Ad{w:World}{a:Addr}{v:Value}(h:w.cell? a=some v):a.block<w.heap.size:=by
 rcases Nat.lt_or_ge a.block w.heap.size with c|c
 ·exact c
 ·have:w.heap[a.block]? =none:=Array.getElem?_eq_none c
  simp[World.cell?,this]at h
theorem Aa{a b:Bool}(h:a=b):Ending.returned (.bool a)=.returned (.bool b):=by rw[h]
theorem Ew{k:IntKind}{a b:Int}(h:a=b):Ending.returned (.int k a)=.returned (.int k b):=by rw[h]
def pv(p:AF):Value:=.agg #[.string p.name,.int .i64 p.kind,.int .i64 p.len]
def Az(p:AF):List Value:=[.string p.name,.int .i64 p.kind,.int .i64 p.len]
def H7(w:World)(b o:Nat)(p:AF):Prop:=
 w.cell? ⟨b,o,none⟩=some (.string p.name)∧w.cell? ⟨b,o+1,none⟩=some (.int .i64 p.kind)∧w.cell? ⟨b,o+2,none⟩=some (.int .i64 p.len)
theorem H7.below{w w':World}{b o:Nat}{p:AF}(h:H7 w b o p)(k:Below w.heap.size w w'):H7 w' b o p:=
 ⟨(k.cell (Ad h.1)).trans h.1,(k.cell (Ad h.2.1)).trans h.2.1,(k.cell (Ad h.2.2)).trans h.2.2⟩
def G3(w:World)(p:Option Addr)(l:List AF):Prop:=l=[]∨∃b o,p=some ⟨b,o,none⟩∧∀i (h:i<l.length),H7 w b (o+i*3) l[i]
def Rd(w:World)(v:Value)(l:List AF):Prop:=∃p c,v=.slice p l.length c∧G3 w p l
theorem G3.below{w w':World}{p:Option Addr}{l:List AF}(h:G3 w p l)(k:Below w.heap.size w w'):G3 w' p l:=
 h.imp id fun⟨b,o,hp,h⟩=>⟨b,o,hp,fun i hi=>(h i hi).below k⟩
theorem Rd.below{w w':World}{v:Value}{l:List AF}(h:Rd w v l)(k:Below w.heap.size w w'):Rd w' v l:=by
 obtain⟨p,c,hv,h⟩:=h
 exact⟨p,c,hv,h.below k⟩
theorem G3.at{w:World}{p:Option Addr}{l:List AF}(h:G3 w p l){i:Nat}(hi:i<l.length):∃b o,p=some ⟨b,o,none⟩∧H7 w b (o+i*3) l[i]:=by
 rcases h with h|⟨b,o,hp,h⟩
 ·rw[h]at hi;exact absurd hi (Nat.not_lt_zero _)
 ·exact⟨b,o,hp,h i hi⟩
def cellsOf(l:List AF):List Value:=l.flatMap Az

theorem G0{P:Program}{md:Region.Mode}{ops:Array Oper}{Q:Exit→Act→World→Prop}{S:World→Prop}(i:Nat){oi:Oper}{v:Value}{fuel:Nat}{listed l':Array Bool}{a a':Act}{w:World}
 (h:wpAnyH P md ops Q S fuel l' a' w)
 (hi:ops[i]? =some oi:=by simp only[List.getElem?_toArray,List.getElem?_cons_succ,List.getElem?_cons_zero];rfl)
 (hw:Region.wanted oi (yielded ops a.tmps)=true:=by rfl)
 (hv:∀w,S w→(execOp a.eval oi).run P w=.ok (.value v) w:=by(intro wS hSw;(try dsimp only at hSw);go_simp;try(with_reducible rfl)))
 (hl:listed.setIfInBounds i true=l':=by(try simp only[List.setIfInBounds_toArray,List.set_cons_zero,List.set_cons_succ]);rfl)
 (ha:a.put oi.dst v=a':=by(try simp only[Act.put,List.setIfInBounds_toArray,List.set_cons_zero,List.set_cons_succ]);rfl)
 (hs:Region.noSelect ops=true:=by kernel_rfl) (hf:Region.free md ops listed i=true:=by kernel_rfl) (hr:(Region.ready md ops listed).contains i=true:=by kernel_rfl)
 (hQ:∀c a w,Q (.panic c) (a.put oi.dst v) w→Q (.panic c) a w:=by exact fun _ _ _ h=>h) (hS:S w:=by assumption):wpAnyH P md ops Q S (fuel+1) listed a w:=
 wpAnyH_take hi hs hf hr hQ (.inl ⟨hw,hv⟩) hS (by rw[hl,ha];exact h)
theorem Hx{P:Program}{md:Region.Mode}{ops:Array Oper}{Q:Exit→Act→World→Prop}{S:World→Prop}(i:Nat){oi:Oper}{fuel:Nat}{listed l':Array Bool}{a a':Act}{w:World}
 (h:wpAnyH P md ops Q S fuel l' a' w)
 (hi:ops[i]? =some oi:=by simp only[List.getElem?_toArray,List.getElem?_cons_succ,List.getElem?_cons_zero];rfl)
 (hw:Region.wanted oi (yielded ops a.tmps)=false:=by rfl)
 (hl:listed.setIfInBounds i true=l':=by(try simp only[List.setIfInBounds_toArray,List.set_cons_zero,List.set_cons_succ]);rfl)
 (ha:a.put oi.dst undef=a':=by(try simp only[Act.put,List.setIfInBounds_toArray,List.set_cons_zero,List.set_cons_succ]);rfl)
 (hs:Region.noSelect ops=true:=by kernel_rfl) (hf:Region.free md ops listed i=true:=by kernel_rfl) (hr:(Region.ready md ops listed).contains i=true:=by kernel_rfl)
 (hQ:∀c a w,Q (.panic c) (a.put oi.dst undef) w→Q (.panic c) a w:=by exact fun _ _ _ h=>h) (hS:S w:=by assumption):wpAnyH P md ops Q S (fuel+1) listed a w:=
 wpAnyH_take hi hs hf hr hQ (.inr ⟨hw,rfl⟩) hS (by rw[hl,ha];exact h)
theorem B5{P:Program}{md:Region.Mode}{ops:Array Oper}{Q:Exit→Act→World→Prop}{S:World→Prop}(i:Nat){o:Oper}{fuel:Nat}{listed:Array Bool}{a:Act}{w:World}
 (h:∀K':Act→World→Prop,Shut (∀a w,S w→(S w→wpAnyH P md ops Q S fuel (listed.setIfInBounds i true) a w)→K' a w)→if Region.wanted o (yielded ops a.tmps)=true then Oper.wp P o a w K' Q else K' (a.put o.dst undef) w)
 (ho:ops[i]? =some o:=by simp only[List.getElem?_toArray,List.getElem?_cons_succ,List.getElem?_cons_zero];rfl)
 (hr:Region.ready md ops listed=[i]:=by kernel_rfl):wpAnyH P md ops Q S (fuel+1) listed a w:=
 wpAnyH_ready hr (by simp) (AllReadyH.cons ho h AllReadyH.nil)
theorem Hw{P:Program}{md:Region.Mode}{ops:Array Oper}{Q:Exit→Act→World→Prop}{S:World→Prop}(i:Nat){o:Oper}{fuel:Nat}{listed:Array Bool}{a:Act}{w:World}{rs:List Nat}
 (h:∀K':Act→World→Prop,Shut (∀a w,S w→(S w→wpAnyH P md ops Q S fuel (listed.setIfInBounds i true) a w)→K' a w)→if Region.wanted o (yielded ops a.tmps)=true then Oper.wp P o a w K' Q else K' (a.put o.dst undef) w)
 (hs:AllReadyH P md ops Q S fuel listed a w rs)
 (ho:ops[i]? =some o:=by simp only[List.getElem?_toArray,List.getElem?_cons_succ,List.getElem?_cons_zero];rfl):AllReadyH P md ops Q S fuel listed a w (i::rs):=
 AllReadyH.cons ho h hs
theorem Ef{p:Prop}(h:p:=by simp only[List.getElem?_toArray,List.getElem?_cons_succ,List.getElem?_cons_zero];rfl):p:=h
theorem Fm{p:Prop}(h:p:=by(intro wS hSw;(try dsimp only at hSw);go_simp;try(with_reducible rfl))):p:=h
theorem DU{p:Prop}(h:p:=by(try simp only[List.setIfInBounds_toArray,List.set_cons_zero,List.set_cons_succ]);rfl):p:=h
theorem DT{p:Prop}(h:p:=by(try simp only[Act.put,List.setIfInBounds_toArray,List.set_cons_zero,List.set_cons_succ]);rfl):p:=h
theorem B3{P:Program}{md:Region.Mode}{ops:Array Oper}{Q:Exit→Act→World→Prop}{S:World→Prop}{fuel:Nat}{l l':Array Bool}{a a':Act}{w:World}{K:Act→World→Prop}
 (hK:Shut (∀a w,S w→(S w→wpAnyH P md ops Q S fuel l a w)→K a w)) (h:S w→wpAnyH P md ops Q S fuel l' a' w)
 (hS:S w:=by(try dsimp only);go_keep) (hl:l=l':=by exact DU) (ha:a=a':=by exact DT):K a w:=
 hK.out a w hS (by rw[hl,ha];exact h)
theorem rG{P:Program}{ops:Array Oper}{Q:Exit→Act→World→Prop}(S:World→Prop){id:Nat}{a:Act}{w:World}(h:S w.drew→wpAnyH P .any ops Q S ops.size (Array.replicate ops.size false) a w.drew)
 (hm:P.follows .mixedOrders=true:=by kernel_rfl) (hS:S w.drew:=by(try dsimp only);go_keep):(Code.region id ops true).wp P Q a w:=
 wp_region_held_drew hm hS h
theorem Tb{P:Program}{md:Region.Mode}{ops:Array Oper}{Q:Exit→Act→World→Prop}{S:World→Prop}{fuel:Nat}{w:World}
 (i0 i1:Nat)
 {o0 o1:Oper}
 {v0 v1:Value}
 {l0 l1 l2:Array Bool} {a0 a1 a2:Act}
 (h:wpAnyH P md ops Q S fuel l2 a2 w)
 (hi0:ops[i0]? =some o0:=by exact Ef)
 (hw0:Region.wanted o0 (yielded ops a0.tmps)=true:=by rfl)
 (hv0:∀w,S w→(execOp a0.eval o0).run P w=.ok (.value v0) w:=by exact Fm)
 (hl0:l0.setIfInBounds i0 true=l1:=by exact DU)
 (ha0:a0.put o0.dst v0=a1:=by exact DT)
 (hf0:Region.free md ops l0 i0=true:=by kernel_rfl) (hr0:(Region.ready md ops l0).contains i0=true:=by kernel_rfl)
 (hQ0:∀c a w,Q (.panic c) (a.put o0.dst v0) w→Q (.panic c) a w:=by exact fun _ _ _ h=>h)
 (hi1:ops[i1]? =some o1:=by exact Ef)
 (hw1:Region.wanted o1 (yielded ops a1.tmps)=true:=by rfl)
 (hv1:∀w,S w→(execOp a1.eval o1).run P w=.ok (.value v1) w:=by exact Fm)
 (hl1:l1.setIfInBounds i1 true=l2:=by exact DU)
 (ha1:a1.put o1.dst v1=a2:=by exact DT)
 (hf1:Region.free md ops l1 i1=true:=by kernel_rfl) (hr1:(Region.ready md ops l1).contains i1=true:=by kernel_rfl)
 (hQ1:∀c a w,Q (.panic c) (a.put o1.dst v1) w→Q (.panic c) a w:=by exact fun _ _ _ h=>h)
 (hs:Region.noSelect ops=true:=by kernel_rfl) (hS:S w:=by assumption):wpAnyH P md ops Q S (fuel+2) l0 a0 w:=
 G0 i0 (G0 i1 h hi1 hw1 hv1 hl1 ha1 hs hf1 hr1 hQ1 hS) hi0 hw0 hv0 hl0 ha0 hs hf0 hr0 hQ0 hS
theorem Tc{P:Program}{md:Region.Mode}{ops:Array Oper}{Q:Exit→Act→World→Prop}{S:World→Prop}{fuel:Nat}{w:World}
 (i0 i1 i2:Nat)
 {o0 o1 o2:Oper}
 {v0 v1 v2:Value}
 {l0 l1 l2 l3:Array Bool} {a0 a1 a2 a3:Act}
 (h:wpAnyH P md ops Q S fuel l3 a3 w)
 (hi0:ops[i0]? =some o0:=by exact Ef)
 (hw0:Region.wanted o0 (yielded ops a0.tmps)=true:=by rfl)
 (hv0:∀w,S w→(execOp a0.eval o0).run P w=.ok (.value v0) w:=by exact Fm)
 (hl0:l0.setIfInBounds i0 true=l1:=by exact DU)
 (ha0:a0.put o0.dst v0=a1:=by exact DT)
 (hf0:Region.free md ops l0 i0=true:=by kernel_rfl) (hr0:(Region.ready md ops l0).contains i0=true:=by kernel_rfl)
 (hQ0:∀c a w,Q (.panic c) (a.put o0.dst v0) w→Q (.panic c) a w:=by exact fun _ _ _ h=>h)
 (hi1:ops[i1]? =some o1:=by exact Ef)
 (hw1:Region.wanted o1 (yielded ops a1.tmps)=true:=by rfl)
 (hv1:∀w,S w→(execOp a1.eval o1).run P w=.ok (.value v1) w:=by exact Fm)
 (hl1:l1.setIfInBounds i1 true=l2:=by exact DU)
 (ha1:a1.put o1.dst v1=a2:=by exact DT)
 (hf1:Region.free md ops l1 i1=true:=by kernel_rfl) (hr1:(Region.ready md ops l1).contains i1=true:=by kernel_rfl)
 (hQ1:∀c a w,Q (.panic c) (a.put o1.dst v1) w→Q (.panic c) a w:=by exact fun _ _ _ h=>h)
 (hi2:ops[i2]? =some o2:=by exact Ef)
 (hw2:Region.wanted o2 (yielded ops a2.tmps)=true:=by rfl)
 (hv2:∀w,S w→(execOp a2.eval o2).run P w=.ok (.value v2) w:=by exact Fm)
 (hl2:l2.setIfInBounds i2 true=l3:=by exact DU)
 (ha2:a2.put o2.dst v2=a3:=by exact DT)
 (hf2:Region.free md ops l2 i2=true:=by kernel_rfl) (hr2:(Region.ready md ops l2).contains i2=true:=by kernel_rfl)
 (hQ2:∀c a w,Q (.panic c) (a.put o2.dst v2) w→Q (.panic c) a w:=by exact fun _ _ _ h=>h)
 (hs:Region.noSelect ops=true:=by kernel_rfl) (hS:S w:=by assumption):wpAnyH P md ops Q S (fuel+3) l0 a0 w:=
 G0 i0 (G0 i1 (G0 i2 h hi2 hw2 hv2 hl2 ha2 hs hf2 hr2 hQ2 hS) hi1 hw1 hv1 hl1 ha1 hs hf1 hr1 hQ1 hS) hi0 hw0 hv0 hl0 ha0 hs hf0 hr0 hQ0 hS
theorem Tf{P:Program}{md:Region.Mode}{ops:Array Oper}{Q:Exit→Act→World→Prop}{S:World→Prop}{fuel:Nat}{w:World}
 (i0 i1 i2 i3 i4 i5:Nat)
 {o0 o1 o2 o3 o4 o5:Oper}
 {v0 v1 v2 v3 v4 v5:Value}
 {l0 l1 l2 l3 l4 l5 l6:Array Bool} {a0 a1 a2 a3 a4 a5 a6:Act}
 (h:wpAnyH P md ops Q S fuel l6 a6 w)
 (hi0:ops[i0]? =some o0:=by exact Ef)
 (hw0:Region.wanted o0 (yielded ops a0.tmps)=true:=by rfl)
 (hv0:∀w,S w→(execOp a0.eval o0).run P w=.ok (.value v0) w:=by exact Fm)
 (hl0:l0.setIfInBounds i0 true=l1:=by exact DU)
 (ha0:a0.put o0.dst v0=a1:=by exact DT)
 (hf0:Region.free md ops l0 i0=true:=by kernel_rfl) (hr0:(Region.ready md ops l0).contains i0=true:=by kernel_rfl)
 (hQ0:∀c a w,Q (.panic c) (a.put o0.dst v0) w→Q (.panic c) a w:=by exact fun _ _ _ h=>h)
 (hi1:ops[i1]? =some o1:=by exact Ef)
 (hw1:Region.wanted o1 (yielded ops a1.tmps)=true:=by rfl)
 (hv1:∀w,S w→(execOp a1.eval o1).run P w=.ok (.value v1) w:=by exact Fm)
 (hl1:l1.setIfInBounds i1 true=l2:=by exact DU)
 (ha1:a1.put o1.dst v1=a2:=by exact DT)
 (hf1:Region.free md ops l1 i1=true:=by kernel_rfl) (hr1:(Region.ready md ops l1).contains i1=true:=by kernel_rfl)
 (hQ1:∀c a w,Q (.panic c) (a.put o1.dst v1) w→Q (.panic c) a w:=by exact fun _ _ _ h=>h)
 (hi2:ops[i2]? =some o2:=by exact Ef)
 (hw2:Region.wanted o2 (yielded ops a2.tmps)=true:=by rfl)
 (hv2:∀w,S w→(execOp a2.eval o2).run P w=.ok (.value v2) w:=by exact Fm)
 (hl2:l2.setIfInBounds i2 true=l3:=by exact DU)
 (ha2:a2.put o2.dst v2=a3:=by exact DT)
 (hf2:Region.free md ops l2 i2=true:=by kernel_rfl) (hr2:(Region.ready md ops l2).contains i2=true:=by kernel_rfl)
 (hQ2:∀c a w,Q (.panic c) (a.put o2.dst v2) w→Q (.panic c) a w:=by exact fun _ _ _ h=>h)
 (hi3:ops[i3]? =some o3:=by exact Ef)
 (hw3:Region.wanted o3 (yielded ops a3.tmps)=true:=by rfl)
 (hv3:∀w,S w→(execOp a3.eval o3).run P w=.ok (.value v3) w:=by exact Fm)
 (hl3:l3.setIfInBounds i3 true=l4:=by exact DU)
 (ha3:a3.put o3.dst v3=a4:=by exact DT)
 (hf3:Region.free md ops l3 i3=true:=by kernel_rfl) (hr3:(Region.ready md ops l3).contains i3=true:=by kernel_rfl)
 (hQ3:∀c a w,Q (.panic c) (a.put o3.dst v3) w→Q (.panic c) a w:=by exact fun _ _ _ h=>h)
 (hi4:ops[i4]? =some o4:=by exact Ef)
 (hw4:Region.wanted o4 (yielded ops a4.tmps)=true:=by rfl)
 (hv4:∀w,S w→(execOp a4.eval o4).run P w=.ok (.value v4) w:=by exact Fm)
 (hl4:l4.setIfInBounds i4 true=l5:=by exact DU)
 (ha4:a4.put o4.dst v4=a5:=by exact DT)
 (hf4:Region.free md ops l4 i4=true:=by kernel_rfl) (hr4:(Region.ready md ops l4).contains i4=true:=by kernel_rfl)
 (hQ4:∀c a w,Q (.panic c) (a.put o4.dst v4) w→Q (.panic c) a w:=by exact fun _ _ _ h=>h)
 (hi5:ops[i5]? =some o5:=by exact Ef)
 (hw5:Region.wanted o5 (yielded ops a5.tmps)=true:=by rfl)
 (hv5:∀w,S w→(execOp a5.eval o5).run P w=.ok (.value v5) w:=by exact Fm)
 (hl5:l5.setIfInBounds i5 true=l6:=by exact DU)
 (ha5:a5.put o5.dst v5=a6:=by exact DT)
 (hf5:Region.free md ops l5 i5=true:=by kernel_rfl) (hr5:(Region.ready md ops l5).contains i5=true:=by kernel_rfl)
 (hQ5:∀c a w,Q (.panic c) (a.put o5.dst v5) w→Q (.panic c) a w:=by exact fun _ _ _ h=>h)
 (hs:Region.noSelect ops=true:=by kernel_rfl) (hS:S w:=by assumption):wpAnyH P md ops Q S (fuel+6) l0 a0 w:=
 G0 i0 (G0 i1 (G0 i2 (G0 i3 (G0 i4 (G0 i5 h hi5 hw5 hv5 hl5 ha5 hs hf5 hr5 hQ5 hS) hi4 hw4 hv4 hl4 ha4 hs hf4 hr4 hQ4 hS) hi3 hw3 hv3 hl3 ha3 hs hf3 hr3 hQ3 hS) hi2 hw2 hv2 hl2 ha2 hs hf2 hr2 hQ2 hS) hi1 hw1 hv1 hl1 ha1 hs hf1 hr1 hQ1 hS) hi0 hw0 hv0 hl0 ha0 hs hf0 hr0 hQ0 hS
theorem Kd{P:Program}{md:Region.Mode}{ops:Array Oper}{Q:Exit→Act→World→Prop}{S:World→Prop}{fuel:Nat}{w:World}
 (i0 i1 i2 i3:Nat)
 {o0 o1 o2 o3:Oper}
 {l0 l1 l2 l3 l4:Array Bool} {a0 a1 a2 a3 a4:Act}
 (h:wpAnyH P md ops Q S fuel l4 a4 w)
 (hi0:ops[i0]? =some o0:=by exact Ef)
 (hw0:Region.wanted o0 (yielded ops a0.tmps)=false:=by rfl)
 (hl0:l0.setIfInBounds i0 true=l1:=by exact DU)
 (ha0:a0.put o0.dst undef=a1:=by exact DT)
 (hf0:Region.free md ops l0 i0=true:=by kernel_rfl) (hr0:(Region.ready md ops l0).contains i0=true:=by kernel_rfl)
 (hQ0:∀c a w,Q (.panic c) (a.put o0.dst undef) w→Q (.panic c) a w:=by exact fun _ _ _ h=>h)
 (hi1:ops[i1]? =some o1:=by exact Ef)
 (hw1:Region.wanted o1 (yielded ops a1.tmps)=false:=by rfl)
 (hl1:l1.setIfInBounds i1 true=l2:=by exact DU)
 (ha1:a1.put o1.dst undef=a2:=by exact DT)
 (hf1:Region.free md ops l1 i1=true:=by kernel_rfl) (hr1:(Region.ready md ops l1).contains i1=true:=by kernel_rfl)
 (hQ1:∀c a w,Q (.panic c) (a.put o1.dst undef) w→Q (.panic c) a w:=by exact fun _ _ _ h=>h)
 (hi2:ops[i2]? =some o2:=by exact Ef)
 (hw2:Region.wanted o2 (yielded ops a2.tmps)=false:=by rfl)
 (hl2:l2.setIfInBounds i2 true=l3:=by exact DU)
 (ha2:a2.put o2.dst undef=a3:=by exact DT)
 (hf2:Region.free md ops l2 i2=true:=by kernel_rfl) (hr2:(Region.ready md ops l2).contains i2=true:=by kernel_rfl)
 (hQ2:∀c a w,Q (.panic c) (a.put o2.dst undef) w→Q (.panic c) a w:=by exact fun _ _ _ h=>h)
 (hi3:ops[i3]? =some o3:=by exact Ef)
 (hw3:Region.wanted o3 (yielded ops a3.tmps)=false:=by rfl)
 (hl3:l3.setIfInBounds i3 true=l4:=by exact DU)
 (ha3:a3.put o3.dst undef=a4:=by exact DT)
 (hf3:Region.free md ops l3 i3=true:=by kernel_rfl) (hr3:(Region.ready md ops l3).contains i3=true:=by kernel_rfl)
 (hQ3:∀c a w,Q (.panic c) (a.put o3.dst undef) w→Q (.panic c) a w:=by exact fun _ _ _ h=>h)
 (hs:Region.noSelect ops=true:=by kernel_rfl) (hS:S w:=by assumption):wpAnyH P md ops Q S (fuel+4) l0 a0 w:=
 Hx i0 (Hx i1 (Hx i2 (Hx i3 h hi3 hw3 hl3 ha3 hs hf3 hr3 hQ3 hS) hi2 hw2 hl2 ha2 hs hf2 hr2 hQ2 hS) hi1 hw1 hl1 ha1 hs hf1 hr1 hQ1 hS) hi0 hw0 hl0 ha0 hs hf0 hr0 hQ0 hS
theorem oM{p:Prop}(h:p:=by omega):p:=h
theorem dE{p:Prop}(h:p:=by decide):p:=h
theorem kR{p:Prop}(h:p:=by kernel_rfl):p:=h
theorem sG{p:Prop}(h:p:=by simp[go_sem]):p:=h
theorem sM{p:Prop}(h:p:=by simp):p:=h
theorem rF{p:Prop}(h:p:=by rfl):p:=h
theorem sO{p:Prop}(h:p:=by simp;omega):p:=h
theorem gG{p:Prop}(h:p:=by go_grown):p:=h
theorem gN{p:Prop}(h:p:=by go_num):p:=h
theorem mL{p:Prop}(h:p:=by unfold maxLen;omega):p:=h
theorem iE{p:Prop}(h:p:=by intro e;simp only at e;omega):p:=h
theorem fT{p:Prop}(h:p:=by first|rfl|trivial):p:=h
theorem gA.{u}{α:Sort u}(a:α):∃x,a=x:=⟨a,rfl⟩
theorem gB{α:Type}{l:List α}{i:Nat}(h:i<l.length):l[i]?=some l[i]:=List.getElem?_eq_getElem h
theorem gC{w w':World}{a:Addr}(h:w'.heap[a.block]?=w.heap[a.block]?):w'.cell? a=w.cell? a:=World.cell?_of_block h
theorem gD{α:Type}{l:List α}{n:Nat}(h:n<l.length):l[n]∈l:=List.getElem_mem h
theorem gE{w:World}{a:Addr}{u:Value}{k:Nat}(h:k≠a.block):(w.setCell a u).heap[k]?=w.heap[k]?:=Below.heap_setCell w a u k h
theorem gF(n:Nat):n<=n:=Nat.le_refl n
theorem gH{a b c:Nat}(h:a<=b)(g:b<=c):a<=c:=Nat.le_trans h g
theorem gI(n:Nat):0<=n:=Nat.zero_le n
theorem Hi{p:Prop}(h:p:=by
 go_enter func22,ntmps22
 go_upto_region 14 with(go_at_call 31;(with_reducible refine(KE.out _).mono ?_);rintro r9 w8 ⟨rfl,hw8⟩;have hw8:=hw8.symm;subst hw8)
 refine rG (fun v=>v.cell? ⟨C,1,none⟩=some (.slice (some ⟨bb,oo,none⟩) RL q1)/\v.cell? ⟨B,O+2,none⟩=some (.int .i64 (R:Int))/\v.cell? ⟨bb,oo+R*2,none⟩=some (.int .i64 TY.kind)/\v.cell? ⟨bb,oo+R*2+1,none⟩=some (.int .i64 TY.par)) fun hJ=>?_
 refine wpAnyH_take (i:=0) (v:=?_) (by simp only[List.getElem?_toArray,List.getElem?_cons_succ,List.getElem?_cons_zero];rfl) kR kR kR (by exact fun _ _ _ h=>h) (Or.inl ⟨rF,?_⟩) (by assumption) ?_
 rotate_left 1
 ·(intro wS hSw;(try dsimp only at hSw);go_simp;try(with_reducible rfl))
 try simp only[Act.put,List.setIfInBounds_toArray,List.set_cons_zero,List.set_cons_succ]
 refine wpAnyH_take (i:=1) (v:=?_) (by simp only[List.getElem?_toArray,List.getElem?_cons_succ,List.getElem?_cons_zero];rfl) kR kR kR (by exact fun _ _ _ h=>h) (Or.inl ⟨rF,?_⟩) (by assumption) ?_
 rotate_left 1
 ·(intro wS hSw;(try dsimp only at hSw);go_simp;try(with_reducible rfl))
 try simp only[Act.put,List.setIfInBounds_toArray,List.set_cons_zero,List.set_cons_succ]
 refine wpAnyH_take (i:=2) (v:=?_) (by simp only[List.getElem?_toArray,List.getElem?_cons_succ,List.getElem?_cons_zero];rfl) kR kR kR (by exact fun _ _ _ h=>h) (Or.inl ⟨rF,?_⟩) (by assumption) ?_
 rotate_left 1
 ·(intro wS hSw;(try dsimp only at hSw);go_simp;try(with_reducible rfl))
 try simp only[Act.put,List.setIfInBounds_toArray,List.set_cons_zero,List.set_cons_succ]
 refine wpAnyH_take (i:=3) (v:=?_) (by simp only[List.getElem?_toArray,List.getElem?_cons_succ,List.getElem?_cons_zero];rfl) kR kR kR (by exact fun _ _ _ h=>h) (Or.inl ⟨rF,?_⟩) (by assumption) ?_
 rotate_left 1
 ·(intro wS hSw;(try dsimp only at hSw);go_simp;try(with_reducible rfl))
 try simp only[Act.put,List.setIfInBounds_toArray,List.set_cons_zero,List.set_cons_succ]
 refine wpAnyH_take (i:=4) (v:=?_) (by simp only[List.getElem?_toArray,List.getElem?_cons_succ,List.getElem?_cons_zero];rfl) kR kR kR (by exact fun _ _ _ h=>h) (Or.inl ⟨rF,?_⟩) (by assumption) ?_
 rotate_left 1
 ·(intro wS hSw;(try dsimp only at hSw);go_simp;try(with_reducible rfl))
 try simp only[Act.put,List.setIfInBounds_toArray,List.set_cons_zero,List.set_cons_succ]
 refine wpAnyH_take (i:=5) (v:=?_) (by simp only[List.getElem?_toArray,List.getElem?_cons_succ,List.getElem?_cons_zero];rfl) kR kR kR (by exact fun _ _ _ h=>h) (Or.inl ⟨rF,?_⟩) (by assumption) ?_
 rotate_left 1
 ·(intro wS hSw;(try dsimp only at hSw);go_simp;try(with_reducible rfl))
 try simp only[Act.put,List.setIfInBounds_toArray,List.set_cons_zero,List.set_cons_succ]
 refine wpAnyH_take (i:=6) (v:=?_) (by simp only[List.getElem?_toArray,List.getElem?_cons_succ,List.getElem?_cons_zero];rfl) kR kR kR (by exact fun _ _ _ h=>h) (Or.inl ⟨rF,?_⟩) (by assumption) ?_
 rotate_left 1
 ·(intro wS hSw;(try dsimp only at hSw);go_simp;try(with_reducible rfl))
 try simp only[Act.put,List.setIfInBounds_toArray,List.set_cons_zero,List.set_cons_succ]
 refine wpAnyH_take (i:=7) (v:=?_) (by simp only[List.getElem?_toArray,List.getElem?_cons_succ,List.getElem?_cons_zero];rfl) kR kR kR (by exact fun _ _ _ h=>h) (Or.inl ⟨rF,?_⟩) (by assumption) ?_
 rotate_left 1
 ·(intro wS hSw;(try dsimp only at hSw);go_simp;try(with_reducible rfl))
 try simp only[Act.put,List.setIfInBounds_toArray,List.set_cons_zero,List.set_cons_succ]
 refine wpAnyH_take (i:=8) (v:=?_) (by simp only[List.getElem?_toArray,List.getElem?_cons_succ,List.getElem?_cons_zero];rfl) kR kR kR (by exact fun _ _ _ h=>h) (Or.inl ⟨rF,?_⟩) (by assumption) ?_
 rotate_left 1
 ·(intro wS hSw;(try dsimp only at hSw);go_simp;try(with_reducible rfl))
 try simp only[Act.put,List.setIfInBounds_toArray,List.set_cons_zero,List.set_cons_succ]
 refine wpAnyH_take (i:=9) (v:=?_) (by simp only[List.getElem?_toArray,List.getElem?_cons_succ,List.getElem?_cons_zero];rfl) kR kR kR (by exact fun _ _ _ h=>h) (Or.inl ⟨rF,?_⟩) (by assumption) ?_
 rotate_left 1
 ·(intro wS hSw;(try dsimp only at hSw);go_simp;try(with_reducible rfl))
 try simp only[Act.put,List.setIfInBounds_toArray,List.set_cons_zero,List.set_cons_succ]
 refine wpAnyH_take (i:=10) (v:=?_) (by simp only[List.getElem?_toArray,List.getElem?_cons_succ,List.getElem?_cons_zero];rfl) kR kR kR (by exact fun _ _ _ h=>h) (Or.inl ⟨rF,?_⟩) (by assumption) ?_
 rotate_left 1
 ·(intro wS hSw;(try dsimp only at hSw);go_simp;try(with_reducible rfl))
 try simp only[Act.put,List.setIfInBounds_toArray,List.set_cons_zero,List.set_cons_succ]
 clear hJ
 refine B5 11 fun K hK=>?_
 go_simp
 (go_at_call 30;(with_reducible refine KWW.out.mono ?_);rintro r9 w8 ⟨rfl,hb8⟩;have c81:=kc hb8 c1;have x8:=kc hb8 x2;have t80:=kc hb8 t0;have t81:=kc hb8 t1;have HB8:=A4 (HBWW.out.trans (hb8.mono HBWW.out.size));clear hb8)
 try(go_wp2_with fail)
 refine B3 hK fun hJ=>?_
 clear hK K
 refine wpAnyH_take (i:=12) (v:=?_) (by simp only[List.getElem?_toArray,List.getElem?_cons_succ,List.getElem?_cons_zero];rfl) kR kR kR (by exact fun _ _ _ h=>h) (Or.inl ⟨rF,?_⟩) (by assumption) ?_
 rotate_left 1
 ·(intro wS hSw;(try dsimp only at hSw);go_simp;try(with_reducible rfl))
 try simp only[Act.put,List.setIfInBounds_toArray,List.set_cons_zero,List.set_cons_succ]
 refine wpAnyH_done kR ?_ _
 go_wp2_with fail
 refine bodyPost_ret (by simp[results,results22,go_sem, *];try rfl) rfl ?_
 exact⟨rfl,HB8.out⟩):p:=h
theorem Hj{p:Prop}(h:p:=by
 refine rG (fun v=>v.cell? ⟨C,1,none⟩=some (.slice (some ⟨bb,oo,none⟩) RL q1)/\v.cell? ⟨B,O+1,none⟩=some (.int .i64 (R:Int))/\v.cell? ⟨bb,oo+R*2,none⟩=some (.int .i64 TY.kind)/\v.cell? ⟨bb,oo+R*2+1,none⟩=some (.int .i64 TY.par)) fun hJ=>?_
 refine wpAnyH_take (i:=0) (v:=?_) (by simp only[List.getElem?_toArray,List.getElem?_cons_succ,List.getElem?_cons_zero];rfl) kR kR kR (by exact fun _ _ _ h=>h) (Or.inl ⟨rF,?_⟩) (by assumption) ?_
 rotate_left 1
 ·(intro wS hSw;(try dsimp only at hSw);go_simp;try(with_reducible rfl))
 try simp only[Act.put,List.setIfInBounds_toArray,List.set_cons_zero,List.set_cons_succ]
 refine wpAnyH_take (i:=1) (v:=?_) (by simp only[List.getElem?_toArray,List.getElem?_cons_succ,List.getElem?_cons_zero];rfl) kR kR kR (by exact fun _ _ _ h=>h) (Or.inl ⟨rF,?_⟩) (by assumption) ?_
 rotate_left 1
 ·(intro wS hSw;(try dsimp only at hSw);go_simp;try(with_reducible rfl))
 try simp only[Act.put,List.setIfInBounds_toArray,List.set_cons_zero,List.set_cons_succ]
 refine wpAnyH_take (i:=2) (v:=?_) (by simp only[List.getElem?_toArray,List.getElem?_cons_succ,List.getElem?_cons_zero];rfl) kR kR kR (by exact fun _ _ _ h=>h) (Or.inl ⟨rF,?_⟩) (by assumption) ?_
 rotate_left 1
 ·(intro wS hSw;(try dsimp only at hSw);go_simp;try(with_reducible rfl))
 try simp only[Act.put,List.setIfInBounds_toArray,List.set_cons_zero,List.set_cons_succ]
 refine wpAnyH_take (i:=3) (v:=?_) (by simp only[List.getElem?_toArray,List.getElem?_cons_succ,List.getElem?_cons_zero];rfl) kR kR kR (by exact fun _ _ _ h=>h) (Or.inl ⟨rF,?_⟩) (by assumption) ?_
 rotate_left 1
 ·(intro wS hSw;(try dsimp only at hSw);go_simp;try(with_reducible rfl))
 try simp only[Act.put,List.setIfInBounds_toArray,List.set_cons_zero,List.set_cons_succ]
 refine wpAnyH_take (i:=4) (v:=?_) (by simp only[List.getElem?_toArray,List.getElem?_cons_succ,List.getElem?_cons_zero];rfl) kR kR kR (by exact fun _ _ _ h=>h) (Or.inl ⟨rF,?_⟩) (by assumption) ?_
 rotate_left 1
 ·(intro wS hSw;(try dsimp only at hSw);go_simp;try(with_reducible rfl))
 try simp only[Act.put,List.setIfInBounds_toArray,List.set_cons_zero,List.set_cons_succ]
 refine wpAnyH_take (i:=5) (v:=?_) (by simp only[List.getElem?_toArray,List.getElem?_cons_succ,List.getElem?_cons_zero];rfl) kR kR kR (by exact fun _ _ _ h=>h) (Or.inl ⟨rF,?_⟩) (by assumption) ?_
 rotate_left 1
 ·(intro wS hSw;(try dsimp only at hSw);go_simp;try(with_reducible rfl))
 try simp only[Act.put,List.setIfInBounds_toArray,List.set_cons_zero,List.set_cons_succ]
 refine wpAnyH_take (i:=6) (v:=?_) (by simp only[List.getElem?_toArray,List.getElem?_cons_succ,List.getElem?_cons_zero];rfl) kR kR kR (by exact fun _ _ _ h=>h) (Or.inl ⟨rF,?_⟩) (by assumption) ?_
 rotate_left 1
 ·(intro wS hSw;(try dsimp only at hSw);go_simp;try(with_reducible rfl))
 try simp only[Act.put,List.setIfInBounds_toArray,List.set_cons_zero,List.set_cons_succ]
 refine wpAnyH_take (i:=7) (v:=?_) (by simp only[List.getElem?_toArray,List.getElem?_cons_succ,List.getElem?_cons_zero];rfl) kR kR kR (by exact fun _ _ _ h=>h) (Or.inl ⟨rF,?_⟩) (by assumption) ?_
 rotate_left 1
 ·(intro wS hSw;(try dsimp only at hSw);go_simp;try(with_reducible rfl))
 try simp only[Act.put,List.setIfInBounds_toArray,List.set_cons_zero,List.set_cons_succ]
 refine wpAnyH_take (i:=8) (v:=?_) (by simp only[List.getElem?_toArray,List.getElem?_cons_succ,List.getElem?_cons_zero];rfl) kR kR kR (by exact fun _ _ _ h=>h) (Or.inl ⟨rF,?_⟩) (by assumption) ?_
 rotate_left 1
 ·(intro wS hSw;(try dsimp only at hSw);go_simp;try(with_reducible rfl))
 try simp only[Act.put,List.setIfInBounds_toArray,List.set_cons_zero,List.set_cons_succ]
 refine wpAnyH_take (i:=9) (v:=?_) (by simp only[List.getElem?_toArray,List.getElem?_cons_succ,List.getElem?_cons_zero];rfl) kR kR kR (by exact fun _ _ _ h=>h) (Or.inl ⟨rF,?_⟩) (by assumption) ?_
 rotate_left 1
 ·(intro wS hSw;(try dsimp only at hSw);go_simp;try(with_reducible rfl))
 try simp only[Act.put,List.setIfInBounds_toArray,List.set_cons_zero,List.set_cons_succ]
 refine wpAnyH_take (i:=10) (v:=?_) (by simp only[List.getElem?_toArray,List.getElem?_cons_succ,List.getElem?_cons_zero];rfl) kR kR kR (by exact fun _ _ _ h=>h) (Or.inl ⟨rF,?_⟩) (by assumption) ?_
 rotate_left 1
 ·(intro wS hSw;(try dsimp only at hSw);go_simp;try(with_reducible rfl))
 try simp only[Act.put,List.setIfInBounds_toArray,List.set_cons_zero,List.set_cons_succ]
 clear hJ
 refine B5 11 fun K hK=>?_
 go_simp
 (go_at_call 30;(with_reducible refine KWW.out.mono ?_);rintro r9 w8 ⟨rfl,hb8⟩;have c81:=kc hb8 c1;have x8:=kc hb8 x1;have t80:=kc hb8 t0;have t81:=kc hb8 t1;have HB8:=A4 (HBWW.out.trans (hb8.mono HBWW.out.size));clear hb8)
 try(go_wp2_with fail)
 refine B3 hK fun hJ=>?_
 clear hK K
 refine wpAnyH_take (i:=12) (v:=?_) (by simp only[List.getElem?_toArray,List.getElem?_cons_succ,List.getElem?_cons_zero];rfl) kR kR kR (by exact fun _ _ _ h=>h) (Or.inl ⟨rF,?_⟩) (by assumption) ?_
 rotate_left 1
 ·(intro wS hSw;(try dsimp only at hSw);go_simp;try(with_reducible rfl))
 try simp only[Act.put,List.setIfInBounds_toArray,List.set_cons_zero,List.set_cons_succ]
 refine wpAnyH_done kR ?_ _
 go_wp2_with fail
 refine bodyPost_ret (by simp[results,results22,go_sem, *];try rfl) rfl ?_
 exact⟨rfl,HB8.out⟩):p:=h
theorem I5{p:Prop}(h:p:=by
 go_wp2
 refine rG (fun v=>v.cell? ⟨b,o,none⟩=some (.int .i64 io)/\v.cell? ⟨b,o+5,none⟩=some (.int .i64 N)/\v.cell? ⟨G,2,none⟩=some (.slice pS s.set.length cS)) fun hJ=>?_
 refine wpAnyH_take (i:=0) (v:=?_) (by simp only[List.getElem?_toArray,List.getElem?_cons_succ,List.getElem?_cons_zero];rfl) kR kR kR (by exact fun _ _ _ h=>h) (Or.inl ⟨rF,?_⟩) (by assumption) ?_
 rotate_left 1
 ·(intro wS hSw;(try dsimp only at hSw);go_simp;try(with_reducible rfl))
 try simp only[Act.put,List.setIfInBounds_toArray,List.set_cons_zero,List.set_cons_succ]
 refine wpAnyH_take (i:=1) (v:=?_) (by simp only[List.getElem?_toArray,List.getElem?_cons_succ,List.getElem?_cons_zero];rfl) kR kR kR (by exact fun _ _ _ h=>h) (Or.inl ⟨rF,?_⟩) (by assumption) ?_
 rotate_left 1
 ·(intro wS hSw;(try dsimp only at hSw);go_simp;try(with_reducible rfl))
 try simp only[Act.put,List.setIfInBounds_toArray,List.set_cons_zero,List.set_cons_succ]
 refine wpAnyH_take (i:=2) (v:=?_) (by simp only[List.getElem?_toArray,List.getElem?_cons_succ,List.getElem?_cons_zero];rfl) kR kR kR (by exact fun _ _ _ h=>h) (Or.inl ⟨rF,?_⟩) (by assumption) ?_
 rotate_left 1
 ·(intro wS hSw;(try dsimp only at hSw);go_simp;try(with_reducible rfl))
 try simp only[Act.put,List.setIfInBounds_toArray,List.set_cons_zero,List.set_cons_succ]
 refine wpAnyH_take (i:=3) (v:=?_) (by simp only[List.getElem?_toArray,List.getElem?_cons_succ,List.getElem?_cons_zero];rfl) kR kR kR (by exact fun _ _ _ h=>h) (Or.inl ⟨rF,?_⟩) (by assumption) ?_
 rotate_left 1
 ·(intro wS hSw;(try dsimp only at hSw);go_simp;try(with_reducible rfl))
 try simp only[Act.put,List.setIfInBounds_toArray,List.set_cons_zero,List.set_cons_succ]
 refine wpAnyH_take (i:=5) (v:=?_) (by simp only[List.getElem?_toArray,List.getElem?_cons_succ,List.getElem?_cons_zero];rfl) kR kR kR (by exact fun _ _ _ h=>h) (Or.inl ⟨rF,?_⟩) (by assumption) ?_
 rotate_left 1
 ·(intro wS hSw;(try dsimp only at hSw);go_simp;try(with_reducible rfl))
 try simp only[Act.put,List.setIfInBounds_toArray,List.set_cons_zero,List.set_cons_succ]
 refine wpAnyH_take (i:=6) (v:=?_) (by simp only[List.getElem?_toArray,List.getElem?_cons_succ,List.getElem?_cons_zero];rfl) kR kR kR (by exact fun _ _ _ h=>h) (Or.inl ⟨rF,?_⟩) (by assumption) ?_
 rotate_left 1
 ·(intro wS hSw;(try dsimp only at hSw);go_simp;try(with_reducible rfl))
 try simp only[Act.put,List.setIfInBounds_toArray,List.set_cons_zero,List.set_cons_succ]
 refine wpAnyH_take (i:=7) (v:=?_) (by simp only[List.getElem?_toArray,List.getElem?_cons_succ,List.getElem?_cons_zero];rfl) kR kR kR (by exact fun _ _ _ h=>h) (Or.inl ⟨rF,?_⟩) (by assumption) ?_
 rotate_left 1
 ·(intro wS hSw;(try dsimp only at hSw);go_simp;try(with_reducible rfl))
 try simp only[Act.put,List.setIfInBounds_toArray,List.set_cons_zero,List.set_cons_succ]
 refine wpAnyH_take (i:=8) (v:=?_) (by simp only[List.getElem?_toArray,List.getElem?_cons_succ,List.getElem?_cons_zero];rfl) kR kR kR (by exact fun _ _ _ h=>h) (Or.inl ⟨rF,?_⟩) (by assumption) ?_
 rotate_left 1
 ·(intro wS hSw;(try dsimp only at hSw);go_simp;try(with_reducible rfl))
 try simp only[Act.put,List.setIfInBounds_toArray,List.set_cons_zero,List.set_cons_succ]
 refine wpAnyH_take (i:=9) (v:=?_) (by simp only[List.getElem?_toArray,List.getElem?_cons_succ,List.getElem?_cons_zero];rfl) kR kR kR (by exact fun _ _ _ h=>h) (Or.inl ⟨rF,?_⟩) (by assumption) ?_
 rotate_left 1
 ·(intro wS hSw;(try dsimp only at hSw);go_simp;try(with_reducible rfl))
 try simp only[Act.put,List.setIfInBounds_toArray,List.set_cons_zero,List.set_cons_succ]
 refine wpAnyH_take (i:=10) (v:=?_) (by simp only[List.getElem?_toArray,List.getElem?_cons_succ,List.getElem?_cons_zero];rfl) kR kR kR (by exact fun _ _ _ h=>h) (Or.inl ⟨rF,?_⟩) (by assumption) ?_
 rotate_left 1
 ·(intro wS hSw;(try dsimp only at hSw);go_simp;try(with_reducible rfl))
 try simp only[Act.put,List.setIfInBounds_toArray,List.set_cons_zero,List.set_cons_succ]
 refine wpAnyH_take (i:=11) (v:=?_) (by simp only[List.getElem?_toArray,List.getElem?_cons_succ,List.getElem?_cons_zero];rfl) kR kR kR (by exact fun _ _ _ h=>h) (Or.inl ⟨rF,?_⟩) (by assumption) ?_
 rotate_left 1
 ·(intro wS hSw;(try dsimp only at hSw);go_simp;try(with_reducible rfl))
 try simp only[Act.put,List.setIfInBounds_toArray,List.set_cons_zero,List.set_cons_succ]
 refine wpAnyH_take (i:=12) (v:=?_) (by simp only[List.getElem?_toArray,List.getElem?_cons_succ,List.getElem?_cons_zero];rfl) kR kR kR (by exact fun _ _ _ h=>h) (Or.inl ⟨rF,?_⟩) (by assumption) ?_
 rotate_left 1
 ·(intro wS hSw;(try dsimp only at hSw);go_simp;try(with_reducible rfl))
 try simp only[Act.put,List.setIfInBounds_toArray,List.set_cons_zero,List.set_cons_succ]
 refine wpAnyH_take (i:=13) (v:=?_) (by simp only[List.getElem?_toArray,List.getElem?_cons_succ,List.getElem?_cons_zero];rfl) kR kR kR (by exact fun _ _ _ h=>h) (Or.inl ⟨rF,?_⟩) (by assumption) ?_
 rotate_left 1
 ·(intro wS hSw;(try dsimp only at hSw);go_simp;try(with_reducible rfl))
 try simp only[Act.put,List.setIfInBounds_toArray,List.set_cons_zero,List.set_cons_succ]
 refine wpAnyH_take (i:=14) (v:=?_) (by simp only[List.getElem?_toArray,List.getElem?_cons_succ,List.getElem?_cons_zero];rfl) kR kR kR (by exact fun _ _ _ h=>h) (Or.inl ⟨rF,?_⟩) (by assumption) ?_
 rotate_left 1
 ·(intro wS hSw;(try dsimp only at hSw);go_simp;try(with_reducible rfl))
 try simp only[Act.put,List.setIfInBounds_toArray,List.set_cons_zero,List.set_cons_succ]
 refine wpAnyH_take (i:=15) (v:=?_) (by simp only[List.getElem?_toArray,List.getElem?_cons_succ,List.getElem?_cons_zero];rfl) kR kR kR (by exact fun _ _ _ h=>h) (Or.inl ⟨rF,?_⟩) (by assumption) ?_
 rotate_left 1
 ·(intro wS hSw;(try dsimp only at hSw);go_simp;try(with_reducible rfl))
 try simp only[Act.put,List.setIfInBounds_toArray,List.set_cons_zero,List.set_cons_succ]
 refine wpAnyH_take (i:=16) (v:=?_) (by simp only[List.getElem?_toArray,List.getElem?_cons_succ,List.getElem?_cons_zero];rfl) kR kR kR (by exact fun _ _ _ h=>h) (Or.inl ⟨rF,?_⟩) (by assumption) ?_
 rotate_left 1
 ·(intro wS hSw;(try dsimp only at hSw);go_simp;try(with_reducible rfl))
 try simp only[Act.put,List.setIfInBounds_toArray,List.set_cons_zero,List.set_cons_succ]
 refine wpAnyH_take (i:=17) (v:=?_) (by simp only[List.getElem?_toArray,List.getElem?_cons_succ,List.getElem?_cons_zero];rfl) kR kR kR (by exact fun _ _ _ h=>h) (Or.inl ⟨rF,?_⟩) (by assumption) ?_
 rotate_left 1
 ·(intro wS hSw;(try dsimp only at hSw);go_simp;try(with_reducible rfl))
 try simp only[Act.put,List.setIfInBounds_toArray,List.set_cons_zero,List.set_cons_succ]
 refine wpAnyH_take (i:=18) (v:=?_) (by simp only[List.getElem?_toArray,List.getElem?_cons_succ,List.getElem?_cons_zero];rfl) kR kR kR (by exact fun _ _ _ h=>h) (Or.inl ⟨rF,?_⟩) (by assumption) ?_
 rotate_left 1
 ·(intro wS hSw;(try dsimp only at hSw);go_simp;try(with_reducible rfl))
 try simp only[Act.put,List.setIfInBounds_toArray,List.set_cons_zero,List.set_cons_succ]
 refine wpAnyH_take (i:=19) (v:=?_) (by simp only[List.getElem?_toArray,List.getElem?_cons_succ,List.getElem?_cons_zero];rfl) kR kR kR (by exact fun _ _ _ h=>h) (Or.inl ⟨rF,?_⟩) (by assumption) ?_
 rotate_left 1
 ·(intro wS hSw;(try dsimp only at hSw);go_simp;try(with_reducible rfl))
 try simp only[Act.put,List.setIfInBounds_toArray,List.set_cons_zero,List.set_cons_succ]
 clear hJ
 refine wpAnyH_ready (rs:=[4,20]) kR sM ?_
 refine Hw 4 (fun K hK=>?_) ?_
 .go_simp
  refine B3 hK fun hJ=>?_
  clear hK K
  clear hJ
  refine B5 20 fun K hK=>?_
  go_simp
  refine B3 hK fun hJ=>?_
  clear hK K
  clear hJ
  refine B5 21 fun K hK=>?_
  refine CL rF _ _ _ rF _ _ _ rF rF HR3.out ?_
  refine B3 hK fun hJ=>?_
  clear hK K
  refine wpAnyH_take (i:=22) (v:=?_) (by simp only[List.getElem?_toArray,List.getElem?_cons_succ,List.getElem?_cons_zero];rfl) kR kR kR (by exact fun _ _ _ h=>h) (Or.inl ⟨rF,?_⟩) (by assumption) ?_
  rotate_left 1
  ·(intro wS hSw;(try dsimp only at hSw);go_simp;try(with_reducible rfl))
  try simp only[Act.put,List.setIfInBounds_toArray,List.set_cons_zero,List.set_cons_succ]
  refine wpAnyH_take (i:=23) (v:=?_) (by simp only[List.getElem?_toArray,List.getElem?_cons_succ,List.getElem?_cons_zero];rfl) kR kR kR (by exact fun _ _ _ h=>h) (Or.inl ⟨rF,?_⟩) (by assumption) ?_
  rotate_left 1
  ·(intro wS hSw;(try dsimp only at hSw);go_simp;try(with_reducible rfl))
  try simp only[Act.put,List.setIfInBounds_toArray,List.set_cons_zero,List.set_cons_succ]
  clear hJ
  refine B5 24 fun K hK=>?_
  go_simp
  refine B3 hK fun hJ=>?_
  clear hK K
  refine wpAnyH_done kR ?_ _
  go_wp2
  go_meet
  exact⟨_,_,HP.out⟩
 refine Hw 20 (fun K hK=>?_) AllReadyH.nil
 go_simp
 refine B3 hK fun hJ=>?_
 clear hK K
 clear hJ
 refine B5 4 fun K hK=>?_
 go_simp
 refine B3 hK fun hJ=>?_
 clear hK K
 clear hJ
 refine B5 21 fun K hK=>?_
 refine CL rF _ _ _ rF _ _ _ rF rF HR3.out ?_
 refine B3 hK fun hJ=>?_
 clear hK K
 refine wpAnyH_take (i:=22) (v:=?_) (by simp only[List.getElem?_toArray,List.getElem?_cons_succ,List.getElem?_cons_zero];rfl) kR kR kR (by exact fun _ _ _ h=>h) (Or.inl ⟨rF,?_⟩) (by assumption) ?_
 rotate_left 1
 ·(intro wS hSw;(try dsimp only at hSw);go_simp;try(with_reducible rfl))
 try simp only[Act.put,List.setIfInBounds_toArray,List.set_cons_zero,List.set_cons_succ]
 refine wpAnyH_take (i:=23) (v:=?_) (by simp only[List.getElem?_toArray,List.getElem?_cons_succ,List.getElem?_cons_zero];rfl) kR kR kR (by exact fun _ _ _ h=>h) (Or.inl ⟨rF,?_⟩) (by assumption) ?_
 rotate_left 1
 ·(intro wS hSw;(try dsimp only at hSw);go_simp;try(with_reducible rfl))
 try simp only[Act.put,List.setIfInBounds_toArray,List.set_cons_zero,List.set_cons_succ]
 clear hJ
 refine B5 24 fun K hK=>?_
 go_simp
 refine B3 hK fun hJ=>?_
 clear hK K
 refine wpAnyH_done kR ?_ _
 go_wp2
 go_meet
 exact⟨_,_,HP.out⟩):p:=h
theorem I6{p:Prop}(h:p:=by
 refine wpAnyH_take (i:=0) (v:=?_) (by simp only[List.getElem?_toArray,List.getElem?_cons_succ,List.getElem?_cons_zero];rfl) kR kR kR (by exact fun _ _ _ h=>h) (Or.inl ⟨rF,?_⟩) (by assumption) ?_
 rotate_left 1
 ·(intro wS hSw;(try dsimp only at hSw);go_simp;try(with_reducible rfl))
 try simp only[Act.put,List.setIfInBounds_toArray,List.set_cons_zero,List.set_cons_succ]
 refine wpAnyH_take (i:=1) (v:=?_) (by simp only[List.getElem?_toArray,List.getElem?_cons_succ,List.getElem?_cons_zero];rfl) kR kR kR (by exact fun _ _ _ h=>h) (Or.inl ⟨rF,?_⟩) (by assumption) ?_
 rotate_left 1
 ·(intro wS hSw;(try dsimp only at hSw);go_simp;try(with_reducible rfl))
 try simp only[Act.put,List.setIfInBounds_toArray,List.set_cons_zero,List.set_cons_succ]
 refine wpAnyH_take (i:=2) (v:=?_) (by simp only[List.getElem?_toArray,List.getElem?_cons_succ,List.getElem?_cons_zero];rfl) kR kR kR (by exact fun _ _ _ h=>h) (Or.inl ⟨rF,?_⟩) (by assumption) ?_
 rotate_left 1
 ·(intro wS hSw;(try dsimp only at hSw);go_simp;try(with_reducible rfl))
 try simp only[Act.put,List.setIfInBounds_toArray,List.set_cons_zero,List.set_cons_succ]
 refine wpAnyH_take (i:=3) (v:=?_) (by simp only[List.getElem?_toArray,List.getElem?_cons_succ,List.getElem?_cons_zero];rfl) kR kR kR (by exact fun _ _ _ h=>h) (Or.inl ⟨rF,?_⟩) (by assumption) ?_
 rotate_left 1
 ·(intro wS hSw;(try dsimp only at hSw);go_simp;try(with_reducible rfl))
 try simp only[Act.put,List.setIfInBounds_toArray,List.set_cons_zero,List.set_cons_succ]
 refine wpAnyH_take (i:=4) (v:=?_) (by simp only[List.getElem?_toArray,List.getElem?_cons_succ,List.getElem?_cons_zero];rfl) kR kR kR (by exact fun _ _ _ h=>h) (Or.inl ⟨rF,?_⟩) (by assumption) ?_
 rotate_left 1
 ·(intro wS hSw;(try dsimp only at hSw);go_simp;try(with_reducible rfl))
 try simp only[Act.put,List.setIfInBounds_toArray,List.set_cons_zero,List.set_cons_succ]
 refine wpAnyH_take (i:=5) (v:=?_) (by simp only[List.getElem?_toArray,List.getElem?_cons_succ,List.getElem?_cons_zero];rfl) kR kR kR (by exact fun _ _ _ h=>h) (Or.inl ⟨rF,?_⟩) (by assumption) ?_
 rotate_left 1
 ·(intro wS hSw;(try dsimp only at hSw);go_simp;try(with_reducible rfl))
 try simp only[Act.put,List.setIfInBounds_toArray,List.set_cons_zero,List.set_cons_succ]
 clear hJ
 refine B5 6 fun K hK=>?_
 go_simp
 (go_at_call 76;refine(HK.out _).mono ?_;rintro e w1 ⟨rfl,rfl⟩)
 try(go_wp2_with fail)
 refine B3 hK fun hJ=>?_
 clear hK K
 refine wpAnyH_take (i:=7) (v:=?_) (by simp only[List.getElem?_toArray,List.getElem?_cons_succ,List.getElem?_cons_zero];rfl) kR kR kR (by exact fun _ _ _ h=>h) (Or.inl ⟨rF,?_⟩) (by assumption) ?_
 rotate_left 1
 ·(intro wS hSw;(try dsimp only at hSw);go_simp;try(with_reducible rfl))
 try simp only[Act.put,List.setIfInBounds_toArray,List.set_cons_zero,List.set_cons_succ]
 refine wpAnyH_take (i:=8) (v:=undef) (by simp only[List.getElem?_toArray,List.getElem?_cons_succ,List.getElem?_cons_zero];rfl) kR kR kR (by exact fun _ _ _ h=>h) (Or.inr ⟨rF,rfl⟩) (by assumption) ?_
 try simp only[Act.put,List.setIfInBounds_toArray,List.set_cons_zero,List.set_cons_succ]
 refine wpAnyH_take (i:=9) (v:=undef) (by simp only[List.getElem?_toArray,List.getElem?_cons_succ,List.getElem?_cons_zero];rfl) kR kR kR (by exact fun _ _ _ h=>h) (Or.inr ⟨rF,rfl⟩) (by assumption) ?_
 try simp only[Act.put,List.setIfInBounds_toArray,List.set_cons_zero,List.set_cons_succ]
 refine wpAnyH_take (i:=10) (v:=undef) (by simp only[List.getElem?_toArray,List.getElem?_cons_succ,List.getElem?_cons_zero];rfl) kR kR kR (by exact fun _ _ _ h=>h) (Or.inr ⟨rF,rfl⟩) (by assumption) ?_
 try simp only[Act.put,List.setIfInBounds_toArray,List.set_cons_zero,List.set_cons_succ]
 refine wpAnyH_take (i:=11) (v:=undef) (by simp only[List.getElem?_toArray,List.getElem?_cons_succ,List.getElem?_cons_zero];rfl) kR kR kR (by exact fun _ _ _ h=>h) (Or.inr ⟨rF,rfl⟩) (by assumption) ?_
 try simp only[Act.put,List.setIfInBounds_toArray,List.set_cons_zero,List.set_cons_succ]
 refine wpAnyH_take (i:=12) (v:=undef) (by simp only[List.getElem?_toArray,List.getElem?_cons_succ,List.getElem?_cons_zero];rfl) kR kR kR (by exact fun _ _ _ h=>h) (Or.inr ⟨rF,rfl⟩) (by assumption) ?_
 try simp only[Act.put,List.setIfInBounds_toArray,List.set_cons_zero,List.set_cons_succ]
 refine wpAnyH_take (i:=13) (v:=undef) (by simp only[List.getElem?_toArray,List.getElem?_cons_succ,List.getElem?_cons_zero];rfl) kR kR kR (by exact fun _ _ _ h=>h) (Or.inr ⟨rF,rfl⟩) (by assumption) ?_
 try simp only[Act.put,List.setIfInBounds_toArray,List.set_cons_zero,List.set_cons_succ]
 refine wpAnyH_take (i:=14) (v:=undef) (by simp only[List.getElem?_toArray,List.getElem?_cons_succ,List.getElem?_cons_zero];rfl) kR kR kR (by exact fun _ _ _ h=>h) (Or.inr ⟨rF,rfl⟩) (by assumption) ?_
 try simp only[Act.put,List.setIfInBounds_toArray,List.set_cons_zero,List.set_cons_succ]
 refine wpAnyH_take (i:=15) (v:=undef) (by simp only[List.getElem?_toArray,List.getElem?_cons_succ,List.getElem?_cons_zero];rfl) kR kR kR (by exact fun _ _ _ h=>h) (Or.inr ⟨rF,rfl⟩) (by assumption) ?_
 try simp only[Act.put,List.setIfInBounds_toArray,List.set_cons_zero,List.set_cons_succ]
 refine wpAnyH_take (i:=16) (v:=undef) (by simp only[List.getElem?_toArray,List.getElem?_cons_succ,List.getElem?_cons_zero];rfl) kR kR kR (by exact fun _ _ _ h=>h) (Or.inr ⟨rF,rfl⟩) (by assumption) ?_
 try simp only[Act.put,List.setIfInBounds_toArray,List.set_cons_zero,List.set_cons_succ]
 refine wpAnyH_take (i:=17) (v:=undef) (by simp only[List.getElem?_toArray,List.getElem?_cons_succ,List.getElem?_cons_zero];rfl) kR kR kR (by exact fun _ _ _ h=>h) (Or.inr ⟨rF,rfl⟩) (by assumption) ?_
 try simp only[Act.put,List.setIfInBounds_toArray,List.set_cons_zero,List.set_cons_succ]
 refine wpAnyH_take (i:=18) (v:=?_) (by simp only[List.getElem?_toArray,List.getElem?_cons_succ,List.getElem?_cons_zero];rfl) kR kR kR (by exact fun _ _ _ h=>h) (Or.inl ⟨rF,?_⟩) (by assumption) ?_
 rotate_left 1
 ·(intro wS hSw;(try dsimp only at hSw);go_simp;try(with_reducible rfl))
 try simp only[Act.put,List.setIfInBounds_toArray,List.set_cons_zero,List.set_cons_succ]
 refine wpAnyH_take (i:=19) (v:=?_) (by simp only[List.getElem?_toArray,List.getElem?_cons_succ,List.getElem?_cons_zero];rfl) kR kR kR (by exact fun _ _ _ h=>h) (Or.inl ⟨rF,?_⟩) (by assumption) ?_
 rotate_left 1
 ·(intro wS hSw;(try dsimp only at hSw);go_simp;try(with_reducible rfl))
 try simp only[Act.put,List.setIfInBounds_toArray,List.set_cons_zero,List.set_cons_succ]
 refine wpAnyH_done kR ?_ _
 go_wp2
 go_ret
 exact⟨rfl,bel (A0 _ _) (A5 _)⟩):p:=h
theorem Bn{p:Prop}(h:p:=by
 go_enter func42,ntmps42
 go_wp2
 refine bodyPost_ret (by simp[results,results42,go_sem];try rfl) rfl ?_
 exact⟨rfl,gG⟩):p:=h
theorem Hk{p:Prop}(h:p:=by
 go_enter func44,ntmps44
 go_wp2_with(go_at_call 65;refine(HKI.out _ (HS0.below (A0 _ _))).mono ?_;rintro e w1 ⟨⟨A,rfl⟩,hb1⟩;have HF:Hid (MW w w1.heap.size G C b o (.slice p N q) L0 L1 L2 L3 L4 op false P A (w1.alloc (.cells #[.bool false,.int .i64 P,.int .i64 A] 114))):=(by have hq:=bel (A0 _ _) hb1;exact⟨bel hq (A0 _ _),kc (A0 _ _) (kc hb1 sG),kc (A0 _ _) (kc hb1 sG),kc (A0 _ _) (kc hb1 sG),kc (A0 _ _) (kc hb1 sG),kc (A0 _ _) (kc hb1 sG),sG,sG,kc (A0 _ _) (kc hq HS0.c0),kc (A0 _ _) (kc hq HS0.c3),kc (A0 _ _) (kc hq HE0.out)⟩);have f0:=HF.m0;have f1:=HF.g3;have f2:=HF.e0;have f3:=HF.m1;have f4:=HF.g0)
 all_goals(go_ret;exact⟨Aa (by simp;try omega),HF.bel⟩)):p:=h
theorem Hl{p:Prop}(h:p:=by
 go_enter func44,ntmps44
 go_wp2_with(go_at_call 65;refine(HKI.out _ (HS0.below (A0 _ _))).mono ?_;rintro e w1 ⟨⟨A,rfl⟩,hb1⟩;have HF:Hid (MW w w1.heap.size G C b o (.slice p N q) L0 L1 L2 L3 L4 op true P A (w1.alloc (.cells #[.bool true,.int .i64 P,.int .i64 A] 114))):=(by have hq:=bel (A0 _ _) hb1;exact⟨bel hq (A0 _ _),kc (A0 _ _) (kc hb1 sG),kc (A0 _ _) (kc hb1 sG),kc (A0 _ _) (kc hb1 sG),kc (A0 _ _) (kc hb1 sG),kc (A0 _ _) (kc hb1 sG),sG,sG,kc (A0 _ _) (kc hq HS0.c0),kc (A0 _ _) (kc hq HS0.c3),kc (A0 _ _) (kc hq HE0.out)⟩);have f0:=HF.m0;have f1:=HF.g3;have f2:=HF.e0;have f3:=HF.m1;have f4:=HF.g0)
 all_goals(go_ret;exact⟨Aa (by simp;try omega),HF.bel⟩)):p:=h
theorem Hm{p:Prop}(h:p:=by
 try(go_wp2_with fail)
 refine B3 hK fun hJ=>?_
 clear hK K
 refine wpAnyH_take (i:=7) (v:=?_) (by simp only[List.getElem?_toArray,List.getElem?_cons_succ,List.getElem?_cons_zero];rfl) kR kR kR (by exact fun _ _ _ h=>h) (Or.inl ⟨rF,?_⟩) (by assumption) ?_
 rotate_left 1
 ·(intro wS hSw;(try dsimp only at hSw);go_simp;try(with_reducible rfl))
 try simp only[Act.put,List.setIfInBounds_toArray,List.set_cons_zero,List.set_cons_succ]
 refine wpAnyH_done kR ?_ _
 go_wp2
 go_ret
 exact⟨Aa sM,(HC.out w3 HB3).bel⟩):p:=h
theorem I7{p:Prop}(h:p:=by
 go_simp
 refine B3 hK fun hJ=>?_
 clear hK K
 clear hJ
 refine B5 10 fun K hK=>?_
 refine CL rF _ _ _ rF _ _ _ rF rF HR3.out ?_
 refine B3 hK fun hJ=>?_
 clear hK K
 refine wpAnyH_take (i:=11) (v:=?_) (by simp only[List.getElem?_toArray,List.getElem?_cons_succ,List.getElem?_cons_zero];rfl) kR kR kR (by exact fun _ _ _ h=>h) (Or.inl ⟨rF,?_⟩) (by assumption) ?_
 rotate_left 1
 ·(intro wS hSw;(try dsimp only at hSw);go_simp;try(with_reducible rfl))
 try simp only[Act.put,List.setIfInBounds_toArray,List.set_cons_zero,List.set_cons_succ]
 refine wpAnyH_take (i:=12) (v:=?_) (by simp only[List.getElem?_toArray,List.getElem?_cons_succ,List.getElem?_cons_zero];rfl) kR kR kR (by exact fun _ _ _ h=>h) (Or.inl ⟨rF,?_⟩) (by assumption) ?_
 rotate_left 1
 ·(intro wS hSw;(try dsimp only at hSw);go_simp;try(with_reducible rfl))
 try simp only[Act.put,List.setIfInBounds_toArray,List.set_cons_zero,List.set_cons_succ]
 clear hJ
 refine B5 13 fun K hK=>?_
 go_simp
 refine B3 hK fun hJ=>?_
 clear hK K
 refine wpAnyH_done kR ?_ _
 go_wp2
 first|go_end0|(simp only[Exit.inBlock,Exit.then];refine bodyPost_ret (results_none rfl _ _ _) rfl ?_)|refine bodyPost_ret (results_none rfl _ _ _) rfl ?_
 exact⟨rfl,HF.1,_,_,HF.2⟩):p:=h
theorem I8{p:Prop}(h:p:=by
 try simp only[Act.put,List.setIfInBounds_toArray,List.set_cons_zero,List.set_cons_succ]
 refine wpAnyH_take (i:=21) (v:=?_) (by simp only[List.getElem?_toArray,List.getElem?_cons_succ,List.getElem?_cons_zero];rfl) kR kR kR (by exact fun _ _ _ h=>h) (Or.inl ⟨rF,?_⟩) (by assumption) ?_
 rotate_left 1
 ·(intro wS hSw;(try dsimp only at hSw);go_simp;try(with_reducible rfl))
 try simp only[Act.put,List.setIfInBounds_toArray,List.set_cons_zero,List.set_cons_succ]
 refine wpAnyH_take (i:=22) (v:=?_) (by simp only[List.getElem?_toArray,List.getElem?_cons_succ,List.getElem?_cons_zero];rfl) kR kR kR (by exact fun _ _ _ h=>h) (Or.inl ⟨rF,?_⟩) (by assumption) ?_
 rotate_left 1
 ·(intro wS hSw;(try dsimp only at hSw);go_simp;try(with_reducible rfl))
 try simp only[Act.put,List.setIfInBounds_toArray,List.set_cons_zero,List.set_cons_succ]
 refine wpAnyH_done kR ?_ _
 go_wp2
 go_ret
 exact⟨Aa sM,bel HF.bel (A5 _)⟩):p:=h
theorem GH{p:Prop}(h:p:=by
 go_enter func83,ntmps83
 go_wp2_with(go_at_call 85;refine(HK.out _).mono ?_;rintro e w1 ⟨rfl,rfl⟩)
 go_ret
 exact⟨Aa (HP.out _ sO),rfl⟩):p:=h
theorem Gy{p:Prop}(h:p:=by
 show Br c.sign (B4 c.regs (R:Int))=_
 unfold B4
 rw[if_pos hin,Int.toNat_natCast,gB hR]
 rfl):p:=h
theorem I9{p:Prop}(h:p:=by
 go_enter func39,ntmps39
 go_wp2_with(first
  |(go_at_call 55;refine HK1.mono ?_;rintro e w1 ⟨rfl,hb1⟩)
  |(go_at_call 57;refine(HK2.out _ (HR.below hb1)).mono ?_;rintro e w2 ⟨D,rfl,hm,hf,hb2⟩;have HM1:Hid (Bt w2 w1.heap.size n D):=hm;have hs:Maps.size D=n:=(by rw[hf.no HW.out,HN.out]);have hs2:¬ ((Maps.size D:Int)<(n:Int)):=oM;have HS:Hid (¬ ((Maps.size D:Int)<(n:Int))):=hs2;clear hm hf hs)
  |(have _t:=HM1;at_len;refine wpList_len_own _ rfl _ 105 rfl 9 3 underlying105 _ w1.heap.size n D rfl HM1.out ?_;clear HM1)
  |(go_at_call 58;refine(HK3.out _ (HR.below (bel hb1 hb2))).mono ?_;rintro e w3 ⟨rfl,hb3⟩))
 all_goals(go_ret;exact⟨rfl,bel (bel hb1 hb2) hb3⟩)):p:=h
theorem Hn{p:Prop}(h:p:=by
 go_enter func61,ntmps61
 go_wp2_with(go_at_call 76;refine(HK.out _).mono ?_;rintro e w1 ⟨rfl,rfl⟩)
 refine bodyPost_ret (by simp[results,results61,go_sem, *];try rfl) rfl ?_
 exact⟨by rw[HT.out];rfl,gG⟩):p:=h
theorem H9{p:Prop}(h:p:=by
 rw[hc];clear hc
 go_enter func86,ntmps86
 go_wp2_with(go_at_call 88;refine(EU _ h0 h1 _).mono ?_;rintro e w' ⟨rfl,rfl⟩)
 go_ret
 exact⟨rfl,rfl⟩):p:=h
theorem Hy{p:Prop}(h:p:=by
 go_wp2_with(go_at_call 15;(with_reducible refine(KW.out _).mono ?_);rintro e9 wz ⟨rfl,hbz⟩;have HBz:=A4 (bel HBD.out hbz);clear hbz)
 refine bodyPost_ret (by simp[results,results6,go_sem, *];try rfl) rfl ?_
 exact⟨by first|rfl|simp,HBz.out⟩):p:=h
theorem Ho{p:Prop}(h:p:=by
 refine⟨fun j hj=>?_,hv.below hb0⟩
 have hj':j<4:=hj
 obtain rfl|rfl|rfl|rfl:j=0\/j=1\/j=2\/j=3:=oM
 .exact x0
 .exact x1
 .exact x2
 .exact x3):p:=h
theorem Ia{p:Prop}(h:p:=by
 go_enter func28,ntmps28
 go_wp2_with(first
  |(go_at_call 39;refine HK1.mono ?_;rintro e w1 ⟨rfl,hb1⟩;obtain⟨d1,d2,d3⟩:=HC.out w1 hb1)
  |(go_at_call 40;refine(HK2.out _ (HC0.below hb1)).mono ?_;rintro e w2 ⟨rfl,hb2⟩;have HB2:=bel hb1 hb2)
  |(go_at_call 41;refine(HK3.out _ (HC0.below HB2)).mono ?_;rintro e w3 ⟨rfl,hb3⟩;have HB3:=bel HB2 hb3))
 all_goals(go_ret;exact⟨rfl,HB3⟩)):p:=h
theorem Ib{p:Prop}(h:p:=by
 clear h h34 h36 hno
 go_wp2_with(go_at_call 67;refine HK.mono ?_;rintro e w1 ⟨rfl,hb1,hoff,vs',vo',hws⟩;have HP:Hid (PS E G C n gi w.heap.size L0 w T vs' vo' w1):=(by refine⟨HB1.trans hb1,by rw[HT1.out];exact hws,?_,oM,oM⟩;rw[gC (hoff w.heap.size (by have:=HVS.out;omega) oM oM)];exact HVB.out);clear hb1 hoff hws)
 go_meet
 exact⟨_,_,HP.out⟩):p:=h
theorem Hz{p:Prop}(h:p:=by
 go_enter func28,ntmps28
 go_wp2_with(go_at_call 39;refine HK1.mono ?_;rintro e w1 ⟨rfl,hb1⟩;obtain⟨d1,d2,d3⟩:=HC.out w1 hb1)
 all_goals(go_ret;exact⟨rfl,hb1⟩)):p:=h
theorem HG{p:Prop}(h:p:=by
 go_wp2_with fail
 refine bodyPost_ret (by simp[results,results10,go_sem, *];try rfl) rfl ?_
 exact⟨by rw[(Prod.mk.inj HVV.out).1,(Prod.mk.inj HVV.out).2],HB.out⟩):p:=h
theorem Ic{p:Prop}(h:p:=by
 go_enter func22,ntmps22
 go_wp2_with(go_at_call 31;(with_reducible refine(KE.out _).mono ?_);rintro r9 w8 ⟨rfl,hw8⟩;have hw8:=hw8.symm;subst hw8)
 refine bodyPost_ret (by simp[results,results22,go_sem, *];try rfl) rfl ?_
 exact⟨rfl,HB0.out⟩):p:=h
theorem Ie{p:Prop}(h:p:=by
 rw[gC (gE (by show w.heap.size≠G;omega)),hfar ⟨w.heap.size,0,none⟩ (by have:=HVS.out;show w.heap.size<_;omega) (fun e=>by have:=(HS.opn.lt _ e).2;simp at this)]
 exact HVB.out):p:=h
theorem Ha{p:Prop}(h:p:=by
 by_cases e:i=j
 .subst e;exact hq
 .exact hp.out i h oM):p:=h
theorem Hp{p:Prop}(h:p:=by
 unfold Hh
 obtain rfl|rfl|rfl|rfl:j=0\/j=1\/j=2\/j=3:=oM
 all_goals rfl):p:=h
theorem If{p:Prop}(h:p:=by
 try simp only[Act.put,List.setIfInBounds_toArray,List.set_cons_zero,List.set_cons_succ]
 refine wpAnyH_done kR ?_ _
 go_wp2
 go_ret
 exact⟨Aa (NB.out sM).symm,bel hb (bel (A0 _ _) HB1)⟩):p:=h
theorem HH{p:Prop}(h:p:=by
 go_enter func79,ntmps79
 go_wp2
 go_ret
 exact⟨rfl,bel (A0 _ _) (A0 _ _)⟩):p:=h
theorem HI{p:Prop}(h:p:=by
 go_roundw
 case rel=>exact⟨k+1,hk1,gN,by rw[HS1.out],HB8⟩
 case measure=>simp[intOf];omega):p:=h
theorem HJ{p:Prop}(h:p:=by
 go_enter func59,ntmps59
 go_wp2
 go_ret
 exact⟨rfl,A0 _ _⟩):p:=h
theorem HY{p:Prop}(h:p:=by
 rcases(show j=0\/j=1\/j=2\/j=3 by omega)with rfl|rfl|rfl|rfl<;>rfl):p:=h
theorem I0{p:Prop}(h:p:=by
 go_enter func27,ntmps27
 go_wp2
 go_ret
 exact⟨rfl,rfl⟩):p:=h
theorem Ig{p:Prop}(h:p:=by
 go_wp2_with(go_at_call 76;refine(HK.out _).mono ?_;rintro e w1 ⟨rfl,rfl⟩)
 go_ret
 exact⟨rfl,A0 _ _⟩):p:=h
theorem A1{p:Prop}(h:p:=by simp only[List.getElem?_toArray,List.getElem?_cons_succ,List.getElem?_cons_zero];rfl):p:=h
theorem A2{p:Prop}(h:p:=by exact fun _ _ _ h=>h):p:=h
theorem A3{p:Prop}(h:p:=by assumption):p:=h
theorem I1{p:Prop}(h:p:=by have hq:=bel (A0 _ _) hb1;exact⟨bel hq (A0 _ _),kc (A0 _ _) (kc hb1 sG),kc (A0 _ _) (kc hb1 sG),kc (A0 _ _) (kc hb1 sG),kc (A0 _ _) (kc hb1 sG),kc (A0 _ _) (kc hb1 sG),sG,sG,kc (A0 _ _) (kc hq HS0.c0),kc (A0 _ _) (kc hq HS0.c3),kc (A0 _ _) (kc hq HE0.out)⟩):p:=h
theorem Hq{p:Prop}(h:p:=by intro j hj;rcases(show j=0\/j=1\/j=2\/j=3 by omega)with rfl|rfl|rfl|rfl<;>rfl):p:=h
theorem Hr{p:Prop}(h:p:=by exact⟨bel hw1 (A0 _ _),sG,sG,sG,sG,sG,kc (A0 _ _) (kc hw1 g0)⟩):p:=h
theorem Hs{p:Prop}(h:p:=by show w.heap.size<=w.heap.size+1;omega):p:=h
theorem Ih{p:Prop}(h:p:=by have:=Bu r.reverse ⟨L,P,A⟩ 2 (u:=.int .i64 A) rfl;rwa[hl]at this):p:=h
theorem Ii{p:Prop}(h:p:=by have:=Bu r.reverse ⟨L,P,A⟩ 1 (u:=.int .i64 P) rfl;rwa[hl]at this):p:=h
theorem Ij{p:Prop}(h:p:=by have:=Bu r.reverse ⟨L,P,A⟩ 0 (u:=.bool L) rfl;rwa[hl]at this):p:=h
theorem Ht{p:Prop}(h:p:=by simp[Value.oneCell']):p:=h
theorem GI{p:Prop}(h:p:=by simp[jV]):p:=h
theorem Hu{p:Prop}(h:p:=by rw[HE.out];simp):p:=h
end Go.Proofs.Ytheanilpbnencaa
