import Derived.RowKit3
import Derived.Test.YtheanilpbnencaaGreatRows
import Derived.WalkKit
import Derived.WalkSpells
import Derived.WalkLawsBesides
import Derived.LoopN
import Derived.Below
import Derived.OwnWalk
import Derived.Shelf.Abstract
import Derived.Deep.AppendLies
import Derived.Maps.AppendAt
import Derived.Laws.AppendOwnNone
import Derived.Deep.OwnRows
import Derived.Deep.DeepCutAuto
import Derived.Deep.QuietTactic
import Derived.Deep.RegionHeld3
import Derived.BigQuiet
import Derived.Handy
import Derived.OrdersHeld
namespace Go.Proofs.YtheanilpbnencaaGreat
open Go.RowKit Go.Proofs.Tryz
set_option linter.all false
set_option maxRecDepth 100000
set_option maxHeartbeats 16000000
abbrev Bs:=List UInt8
def bs(s:ByteArray):Bs:=s.data.toList
def nb(b:UInt8):Int:=(b.toNat:Int)
def hd:Bs→Int
 |[]=>0
 |b::_=>nb b
theorem Oo(s:ByteArray):(bs s).length=s.size:=by simp[bs]
theorem UU(s:ByteArray):(⟨(bs s).toArray⟩:ByteArray)=s:=by simp[bs]
theorem Q8{s t:ByteArray}(h:bs s=bs t):s=t:=by rw[←UU s,←UU t,h]
structure Bd where
 name:ByteArray
 kind:Int
 len:Int
def G4(c:Int):Bool:=
 (decide (97≤c)&&decide (c≤122))||(decide (65≤c)&&decide (c≤90))||(decide (48≤c)&&decide (c≤57))||c==95||c==46||c==47||c==45
def B3(s:ByteArray):Bool:=(s.size != 0&&decide (s.size≤64))&&(bs s).all fun b=>G4 (nb b)
def B5(p:Bd):Bool:=(B3 p.name&&(p.kind==1||p.kind==2))&&(decide (1≤p.len)&&decide (p.len≤4096))
def Cn(p:Bd):Int:=if B5 p then(if p.kind==2 then 2*p.len else p.len)else 0
def BV:List Bd→Int
 |[]=>0
 |p::r=>Cn p+BV r
def AD(s:ByteArray):List Bd→Option Nat
 |[]=>none
 |p::r=>if p.name=s then some 0 else(AD s r).map (· +1)
def AY:List Bd→Bool
 |[]=>false
 |p::r=>(r.any fun q=>decide (q.name=p.name))||AY r
def Ay(l:List Bd):Int:=
 if l.length>64 then 2 else if l.all B5=false then 100 else if AY l then 101 else if BV l>65536 then 102 else 0
def Bq:List Bd→List Nat→Bool
 |[],[]=>true
 |p::r,n::m=>decide ((n:Int)=Cn p)&&Bq r m
 |_,_=>false
theorem Fs(p:Bd):0≤Cn p∧Cn p≤8192:=by
 unfold Cn
 split
 ·rename_i h
  unfold B5 at h
  simp at h
  split<;>omega
 ·decide
theorem Lo(l:List Bd)(p:Bd):BV (l++[p])=BV l+Cn p:=by
 induction l with
 |nil=>simp[BV]
 |cons q r ih=>simp only[List.cons_append,BV,ih];omega
theorem Fw(l:List Bd):0≤BV l∧BV l≤8192*(l.length:Int):=by
 induction l with
 |nil=>simp[BV]
 |cons q r ih=>have:=Fs q;simp only[BV,List.length_cons];omega
theorem Gk{α:Type}{l:List α}{i:Nat}(h:i<l.length):l.take (i+1)=l.take i++[l[i]]:=by simp
theorem IE{s:ByteArray}:∀ {l:List Bd} {i:Nat},(h:i<l.length)→l[i].name=s→(∀j (h:j<l.length),j<i→l[j].name≠s)→AD s l=some i
 |[],i,h,_,_=>absurd h (Nat.not_lt_zero _)
 |p::r,0,_,e,_=>by simp only[AD];rw[if_pos (show p.name=s from e)]
 |p::r,i+1,h,e,hn=>by
  have h0:=hn 0 (by simp) (by omega)
  simp only[List.getElem_cons_zero]at h0
  simp only[AD]
  rw[if_neg h0,IE (l:=r) (i:=i) (by simpa using h) (by simpa using e) (fun j hj hji=>by have:=hn (j+1) (by simpa using hj) (by omega);simpa using this)]
  rfl
theorem ID{s:ByteArray}:∀ {l:List Bd},(∀j (h:j<l.length),l[j].name≠s)→AD s l=none
 |[],_=>rfl
 |p::r,hn=>by
  have h0:=hn 0 (by simp)
  simp only[List.getElem_cons_zero]at h0
  simp only[AD]
  rw[if_neg h0,ID (l:=r) (fun j hj=>by have:=hn (j+1) (by simpa using hj);simpa using this)]
  rfl
theorem Gl:∀ {l:List Bd},AY l=true↔∃i j,∃ (hi:i<l.length) (hj:j<l.length),j<i∧l[j].name=l[i].name
 |[]=>by simp[AY]
 |p::r=>by
  simp only[AY,Bool.or_eq_true,List.any_eq_true,decide_eq_true_eq]
  rw[Gl (l:=r)]
  constructor
  ·rintro(⟨q,hq,e⟩|⟨i,j,hi,hj,hji,e⟩)
   ·obtain⟨k,hk,rfl⟩:=List.mem_iff_getElem.1 hq
    exact⟨k+1,0,by simpa using hk,by simp,by omega,by simpa using e.symm⟩
   ·exact⟨i+1,j+1,by simpa using hi,by simpa using hj,by omega,by simpa using e⟩
  ·rintro⟨i,j,hi,hj,hji,e⟩
   cases i with
   |zero=>omega
   |succ i=>
    cases j with
    |zero=>
     simp only[List.getElem_cons_zero,List.getElem_cons_succ]at e
     exact .inl ⟨r[i]'(by simpa using hi),List.getElem_mem _,e.symm⟩
    |succ j=>
     simp only[List.getElem_cons_succ]at e
     exact .inr ⟨i,j,by simpa using hi,by simpa using hj,by omega,e⟩
theorem bel{a b c:World}(h:Below a.heap.size a b)(k:Below b.heap.size b c):Below a.heap.size a c:=h.trans (k.mono h.size)
theorem BE(w:World):Below w.heap.size w w:=Below.refl _ _
theorem A0(w:World)(o:Obj):Below w.heap.size w (w.alloc o):=(Below.refl _ _).alloc (Nat.le_refl _) o
theorem A4(w:World):Below w.heap.size w w.drew:=(Below.refl _ _).drew
theorem A3{w:World}{a:Addr}{v:Value}(h:w.cell? a=some v):a.block<w.heap.size:=by
 rcases Nat.lt_or_ge a.block w.heap.size with c|c
 ·exact c
 ·have:w.heap[a.block]? =none:=Array.getElem?_eq_none c
  simp[World.cell?,this]at h
theorem A6{a b:Bool}(h:a=b):Ending.returned (.bool a)=.returned (.bool b):=by rw[h]
theorem E4{k:IntKind}{a b:Int}(h:a=b):Ending.returned (.int k a)=.returned (.int k b):=by rw[h]
def pv(p:Bd):Value:=.agg #[.string p.name,.int .i64 p.kind,.int .i64 p.len]
def Bh(p:Bd):List Value:=[.string p.name,.int .i64 p.kind,.int .i64 p.len]
def W8(w:World)(b o:Nat)(p:Bd):Prop:=
 w.cell? ⟨b,o,none⟩=some (.string p.name)∧w.cell? ⟨b,o+1,none⟩=some (.int .i64 p.kind)∧w.cell? ⟨b,o+2,none⟩=some (.int .i64 p.len)
theorem W8.below{w w':World}{b o:Nat}{p:Bd}(h:W8 w b o p)(k:Below w.heap.size w w'):W8 w' b o p:=
 ⟨(k.cell (A3 h.1)).trans h.1,(k.cell (A3 h.2.1)).trans h.2.1,(k.cell (A3 h.2.2)).trans h.2.2⟩
def PN(w:World)(p:Option Addr)(l:List Bd):Prop:=l=[]∨∃b o,p=some ⟨b,o,none⟩∧∀i (h:i<l.length),W8 w b (o+i*3) l[i]
def Rd(w:World)(v:Value)(l:List Bd):Prop:=∃p c,v=.slice p l.length c∧PN w p l
theorem PN.below{w w':World}{p:Option Addr}{l:List Bd}(h:PN w p l)(k:Below w.heap.size w w'):PN w' p l:=
 h.imp id fun⟨b,o,hp,h⟩=>⟨b,o,hp,fun i hi=>(h i hi).below k⟩
theorem Rd.below{w w':World}{v:Value}{l:List Bd}(h:Rd w v l)(k:Below w.heap.size w w'):Rd w' v l:=by
 obtain⟨p,c,hv,h⟩:=h
 exact⟨p,c,hv,h.below k⟩
theorem PN.at{w:World}{p:Option Addr}{l:List Bd}(h:PN w p l){i:Nat}(hi:i<l.length):∃b o,p=some ⟨b,o,none⟩∧W8 w b (o+i*3) l[i]:=by
 rcases h with h|⟨b,o,hp,h⟩
 ·rw[h]at hi;exact absurd hi (Nat.not_lt_zero _)
 ·exact⟨b,o,hp,h i hi⟩
def cellsOf(l:List Bd):List Value:=l.flatMap Bh

theorem Bm{P:Program}{md:Region.Mode}{ops:Array Oper}{Q:Exit→Act→World→Prop}{S:World→Prop}(i:Nat){oi:Oper}{v:Value}{fuel:Nat}{listed l':Array Bool}{a a':Act}{w:World}
 (h:wpAnyH P md ops Q S fuel l' a' w)
 (hi:ops[i]? =some oi:=by simp only[List.getElem?_toArray,List.getElem?_cons_succ,List.getElem?_cons_zero];rfl)
 (hw:Region.wanted oi (yielded ops a.tmps)=true:=by rfl)
 (hv:∀w,S w→(execOp a.eval oi).run P w=.ok (.value v) w:=by(intro wS hSw;(try dsimp only at hSw);go_simp;try(with_reducible rfl)))
 (hl:listed.setIfInBounds i true=l':=by(try simp only[List.setIfInBounds_toArray,List.set_cons_zero,List.set_cons_succ]);rfl)
 (ha:a.put oi.dst v=a':=by(try simp only[Act.put,List.setIfInBounds_toArray,List.set_cons_zero,List.set_cons_succ]);rfl)
 (hs:Region.noSelect ops=true:=by kernel_rfl) (hf:Region.free md ops listed i=true:=by kernel_rfl) (hr:(Region.ready md ops listed).contains i=true:=by kernel_rfl)
 (hQ:∀c a w,Q (.panic c) (a.put oi.dst v) w→Q (.panic c) a w:=by exact fun _ _ _ h=>h) (hS:S w:=by assumption):wpAnyH P md ops Q S (fuel+1) listed a w:=
 wpAnyH_take hi hs hf hr hQ (.inl ⟨hw,hv⟩) hS (by rw[hl,ha];exact h)
theorem Di{P:Program}{md:Region.Mode}{ops:Array Oper}{Q:Exit→Act→World→Prop}{S:World→Prop}(i:Nat){oi:Oper}{fuel:Nat}{listed l':Array Bool}{a a':Act}{w:World}
 (h:wpAnyH P md ops Q S fuel l' a' w)
 (hi:ops[i]? =some oi:=by simp only[List.getElem?_toArray,List.getElem?_cons_succ,List.getElem?_cons_zero];rfl)
 (hw:Region.wanted oi (yielded ops a.tmps)=false:=by rfl)
 (hl:listed.setIfInBounds i true=l':=by(try simp only[List.setIfInBounds_toArray,List.set_cons_zero,List.set_cons_succ]);rfl)
 (ha:a.put oi.dst undef=a':=by(try simp only[Act.put,List.setIfInBounds_toArray,List.set_cons_zero,List.set_cons_succ]);rfl)
 (hs:Region.noSelect ops=true:=by kernel_rfl) (hf:Region.free md ops listed i=true:=by kernel_rfl) (hr:(Region.ready md ops listed).contains i=true:=by kernel_rfl)
 (hQ:∀c a w,Q (.panic c) (a.put oi.dst undef) w→Q (.panic c) a w:=by exact fun _ _ _ h=>h) (hS:S w:=by assumption):wpAnyH P md ops Q S (fuel+1) listed a w:=
 wpAnyH_take hi hs hf hr hQ (.inr ⟨hw,rfl⟩) hS (by rw[hl,ha];exact h)
theorem AC{P:Program}{md:Region.Mode}{ops:Array Oper}{Q:Exit→Act→World→Prop}{S:World→Prop}(i:Nat){o:Oper}{fuel:Nat}{listed:Array Bool}{a:Act}{w:World}
 (h:∀K':Act→World→Prop,Shut (∀a w,S w→(S w→wpAnyH P md ops Q S fuel (listed.setIfInBounds i true) a w)→K' a w)→if Region.wanted o (yielded ops a.tmps)=true then Oper.wp P o a w K' Q else K' (a.put o.dst undef) w)
 (ho:ops[i]? =some o:=by simp only[List.getElem?_toArray,List.getElem?_cons_succ,List.getElem?_cons_zero];rfl)
 (hr:Region.ready md ops listed=[i]:=by kernel_rfl):wpAnyH P md ops Q S (fuel+1) listed a w:=
 wpAnyH_ready hr (by simp) (AllReadyH.cons ho h AllReadyH.nil)
theorem IZ{P:Program}{md:Region.Mode}{ops:Array Oper}{Q:Exit→Act→World→Prop}{S:World→Prop}(i:Nat){o:Oper}{fuel:Nat}{listed:Array Bool}{a:Act}{w:World}{rs:List Nat}
 (h:∀K':Act→World→Prop,Shut (∀a w,S w→(S w→wpAnyH P md ops Q S fuel (listed.setIfInBounds i true) a w)→K' a w)→if Region.wanted o (yielded ops a.tmps)=true then Oper.wp P o a w K' Q else K' (a.put o.dst undef) w)
 (hs:AllReadyH P md ops Q S fuel listed a w rs)
 (ho:ops[i]? =some o:=by simp only[List.getElem?_toArray,List.getElem?_cons_succ,List.getElem?_cons_zero];rfl):AllReadyH P md ops Q S fuel listed a w (i::rs):=
 AllReadyH.cons ho h hs
theorem Mw{p:Prop}(h:p:=by simp only[List.getElem?_toArray,List.getElem?_cons_succ,List.getElem?_cons_zero];rfl):p:=h
theorem QW{p:Prop}(h:p:=by(intro wS hSw;(try dsimp only at hSw);go_simp;try(with_reducible rfl))):p:=h
theorem Lx{p:Prop}(h:p:=by(try simp only[List.setIfInBounds_toArray,List.set_cons_zero,List.set_cons_succ]);rfl):p:=h
theorem Lw{p:Prop}(h:p:=by(try simp only[Act.put,List.setIfInBounds_toArray,List.set_cons_zero,List.set_cons_succ]);rfl):p:=h
theorem AB{P:Program}{md:Region.Mode}{ops:Array Oper}{Q:Exit→Act→World→Prop}{S:World→Prop}{fuel:Nat}{l l':Array Bool}{a a':Act}{w:World}{K:Act→World→Prop}
 (hK:Shut (∀a w,S w→(S w→wpAnyH P md ops Q S fuel l a w)→K a w)) (h:S w→wpAnyH P md ops Q S fuel l' a' w)
 (hS:S w:=by(try dsimp only);go_keep) (hl:l=l':=by exact Lx) (ha:a=a':=by exact Lw):K a w:=
 hK.out a w hS (by rw[hl,ha];exact h)
theorem rG{P:Program}{ops:Array Oper}{Q:Exit→Act→World→Prop}(S:World→Prop){id:Nat}{a:Act}{w:World}(h:S w.drew→wpAnyH P .any ops Q S ops.size (Array.replicate ops.size false) a w.drew)
 (hm:P.follows .mixedOrders=true:=by kernel_rfl) (hS:S w.drew:=by(try dsimp only);go_keep):(Code.region id ops true).wp P Q a w:=
 wp_region_held_drew hm hS h
theorem Tb{P:Program}{md:Region.Mode}{ops:Array Oper}{Q:Exit→Act→World→Prop}{S:World→Prop}{fuel:Nat}{w:World}
 (i0 i1:Nat)
 {o0 o1:Oper}
 {v0 v1:Value}
 {l0 l1 l2:Array Bool} {a0 a1 a2:Act}
 (h:wpAnyH P md ops Q S fuel l2 a2 w)
 (hi0:ops[i0]? =some o0:=by exact Mw)
 (hw0:Region.wanted o0 (yielded ops a0.tmps)=true:=by rfl)
 (hv0:∀w,S w→(execOp a0.eval o0).run P w=.ok (.value v0) w:=by exact QW)
 (hl0:l0.setIfInBounds i0 true=l1:=by exact Lx)
 (ha0:a0.put o0.dst v0=a1:=by exact Lw)
 (hf0:Region.free md ops l0 i0=true:=by kernel_rfl) (hr0:(Region.ready md ops l0).contains i0=true:=by kernel_rfl)
 (hQ0:∀c a w,Q (.panic c) (a.put o0.dst v0) w→Q (.panic c) a w:=by exact fun _ _ _ h=>h)
 (hi1:ops[i1]? =some o1:=by exact Mw)
 (hw1:Region.wanted o1 (yielded ops a1.tmps)=true:=by rfl)
 (hv1:∀w,S w→(execOp a1.eval o1).run P w=.ok (.value v1) w:=by exact QW)
 (hl1:l1.setIfInBounds i1 true=l2:=by exact Lx)
 (ha1:a1.put o1.dst v1=a2:=by exact Lw)
 (hf1:Region.free md ops l1 i1=true:=by kernel_rfl) (hr1:(Region.ready md ops l1).contains i1=true:=by kernel_rfl)
 (hQ1:∀c a w,Q (.panic c) (a.put o1.dst v1) w→Q (.panic c) a w:=by exact fun _ _ _ h=>h)
 (hs:Region.noSelect ops=true:=by kernel_rfl) (hS:S w:=by assumption):wpAnyH P md ops Q S (fuel+2) l0 a0 w:=
 Bm i0 (Bm i1 h hi1 hw1 hv1 hl1 ha1 hs hf1 hr1 hQ1 hS) hi0 hw0 hv0 hl0 ha0 hs hf0 hr0 hQ0 hS
theorem Tc{P:Program}{md:Region.Mode}{ops:Array Oper}{Q:Exit→Act→World→Prop}{S:World→Prop}{fuel:Nat}{w:World}
 (i0 i1 i2:Nat)
 {o0 o1 o2:Oper}
 {v0 v1 v2:Value}
 {l0 l1 l2 l3:Array Bool} {a0 a1 a2 a3:Act}
 (h:wpAnyH P md ops Q S fuel l3 a3 w)
 (hi0:ops[i0]? =some o0:=by exact Mw)
 (hw0:Region.wanted o0 (yielded ops a0.tmps)=true:=by rfl)
 (hv0:∀w,S w→(execOp a0.eval o0).run P w=.ok (.value v0) w:=by exact QW)
 (hl0:l0.setIfInBounds i0 true=l1:=by exact Lx)
 (ha0:a0.put o0.dst v0=a1:=by exact Lw)
 (hf0:Region.free md ops l0 i0=true:=by kernel_rfl) (hr0:(Region.ready md ops l0).contains i0=true:=by kernel_rfl)
 (hQ0:∀c a w,Q (.panic c) (a.put o0.dst v0) w→Q (.panic c) a w:=by exact fun _ _ _ h=>h)
 (hi1:ops[i1]? =some o1:=by exact Mw)
 (hw1:Region.wanted o1 (yielded ops a1.tmps)=true:=by rfl)
 (hv1:∀w,S w→(execOp a1.eval o1).run P w=.ok (.value v1) w:=by exact QW)
 (hl1:l1.setIfInBounds i1 true=l2:=by exact Lx)
 (ha1:a1.put o1.dst v1=a2:=by exact Lw)
 (hf1:Region.free md ops l1 i1=true:=by kernel_rfl) (hr1:(Region.ready md ops l1).contains i1=true:=by kernel_rfl)
 (hQ1:∀c a w,Q (.panic c) (a.put o1.dst v1) w→Q (.panic c) a w:=by exact fun _ _ _ h=>h)
 (hi2:ops[i2]? =some o2:=by exact Mw)
 (hw2:Region.wanted o2 (yielded ops a2.tmps)=true:=by rfl)
 (hv2:∀w,S w→(execOp a2.eval o2).run P w=.ok (.value v2) w:=by exact QW)
 (hl2:l2.setIfInBounds i2 true=l3:=by exact Lx)
 (ha2:a2.put o2.dst v2=a3:=by exact Lw)
 (hf2:Region.free md ops l2 i2=true:=by kernel_rfl) (hr2:(Region.ready md ops l2).contains i2=true:=by kernel_rfl)
 (hQ2:∀c a w,Q (.panic c) (a.put o2.dst v2) w→Q (.panic c) a w:=by exact fun _ _ _ h=>h)
 (hs:Region.noSelect ops=true:=by kernel_rfl) (hS:S w:=by assumption):wpAnyH P md ops Q S (fuel+3) l0 a0 w:=
 Bm i0 (Bm i1 (Bm i2 h hi2 hw2 hv2 hl2 ha2 hs hf2 hr2 hQ2 hS) hi1 hw1 hv1 hl1 ha1 hs hf1 hr1 hQ1 hS) hi0 hw0 hv0 hl0 ha0 hs hf0 hr0 hQ0 hS
theorem Tf{P:Program}{md:Region.Mode}{ops:Array Oper}{Q:Exit→Act→World→Prop}{S:World→Prop}{fuel:Nat}{w:World}
 (i0 i1 i2 i3 i4 i5:Nat)
 {o0 o1 o2 o3 o4 o5:Oper}
 {v0 v1 v2 v3 v4 v5:Value}
 {l0 l1 l2 l3 l4 l5 l6:Array Bool} {a0 a1 a2 a3 a4 a5 a6:Act}
 (h:wpAnyH P md ops Q S fuel l6 a6 w)
 (hi0:ops[i0]? =some o0:=by exact Mw)
 (hw0:Region.wanted o0 (yielded ops a0.tmps)=true:=by rfl)
 (hv0:∀w,S w→(execOp a0.eval o0).run P w=.ok (.value v0) w:=by exact QW)
 (hl0:l0.setIfInBounds i0 true=l1:=by exact Lx)
 (ha0:a0.put o0.dst v0=a1:=by exact Lw)
 (hf0:Region.free md ops l0 i0=true:=by kernel_rfl) (hr0:(Region.ready md ops l0).contains i0=true:=by kernel_rfl)
 (hQ0:∀c a w,Q (.panic c) (a.put o0.dst v0) w→Q (.panic c) a w:=by exact fun _ _ _ h=>h)
 (hi1:ops[i1]? =some o1:=by exact Mw)
 (hw1:Region.wanted o1 (yielded ops a1.tmps)=true:=by rfl)
 (hv1:∀w,S w→(execOp a1.eval o1).run P w=.ok (.value v1) w:=by exact QW)
 (hl1:l1.setIfInBounds i1 true=l2:=by exact Lx)
 (ha1:a1.put o1.dst v1=a2:=by exact Lw)
 (hf1:Region.free md ops l1 i1=true:=by kernel_rfl) (hr1:(Region.ready md ops l1).contains i1=true:=by kernel_rfl)
 (hQ1:∀c a w,Q (.panic c) (a.put o1.dst v1) w→Q (.panic c) a w:=by exact fun _ _ _ h=>h)
 (hi2:ops[i2]? =some o2:=by exact Mw)
 (hw2:Region.wanted o2 (yielded ops a2.tmps)=true:=by rfl)
 (hv2:∀w,S w→(execOp a2.eval o2).run P w=.ok (.value v2) w:=by exact QW)
 (hl2:l2.setIfInBounds i2 true=l3:=by exact Lx)
 (ha2:a2.put o2.dst v2=a3:=by exact Lw)
 (hf2:Region.free md ops l2 i2=true:=by kernel_rfl) (hr2:(Region.ready md ops l2).contains i2=true:=by kernel_rfl)
 (hQ2:∀c a w,Q (.panic c) (a.put o2.dst v2) w→Q (.panic c) a w:=by exact fun _ _ _ h=>h)
 (hi3:ops[i3]? =some o3:=by exact Mw)
 (hw3:Region.wanted o3 (yielded ops a3.tmps)=true:=by rfl)
 (hv3:∀w,S w→(execOp a3.eval o3).run P w=.ok (.value v3) w:=by exact QW)
 (hl3:l3.setIfInBounds i3 true=l4:=by exact Lx)
 (ha3:a3.put o3.dst v3=a4:=by exact Lw)
 (hf3:Region.free md ops l3 i3=true:=by kernel_rfl) (hr3:(Region.ready md ops l3).contains i3=true:=by kernel_rfl)
 (hQ3:∀c a w,Q (.panic c) (a.put o3.dst v3) w→Q (.panic c) a w:=by exact fun _ _ _ h=>h)
 (hi4:ops[i4]? =some o4:=by exact Mw)
 (hw4:Region.wanted o4 (yielded ops a4.tmps)=true:=by rfl)
 (hv4:∀w,S w→(execOp a4.eval o4).run P w=.ok (.value v4) w:=by exact QW)
 (hl4:l4.setIfInBounds i4 true=l5:=by exact Lx)
 (ha4:a4.put o4.dst v4=a5:=by exact Lw)
 (hf4:Region.free md ops l4 i4=true:=by kernel_rfl) (hr4:(Region.ready md ops l4).contains i4=true:=by kernel_rfl)
 (hQ4:∀c a w,Q (.panic c) (a.put o4.dst v4) w→Q (.panic c) a w:=by exact fun _ _ _ h=>h)
 (hi5:ops[i5]? =some o5:=by exact Mw)
 (hw5:Region.wanted o5 (yielded ops a5.tmps)=true:=by rfl)
 (hv5:∀w,S w→(execOp a5.eval o5).run P w=.ok (.value v5) w:=by exact QW)
 (hl5:l5.setIfInBounds i5 true=l6:=by exact Lx)
 (ha5:a5.put o5.dst v5=a6:=by exact Lw)
 (hf5:Region.free md ops l5 i5=true:=by kernel_rfl) (hr5:(Region.ready md ops l5).contains i5=true:=by kernel_rfl)
 (hQ5:∀c a w,Q (.panic c) (a.put o5.dst v5) w→Q (.panic c) a w:=by exact fun _ _ _ h=>h)
 (hs:Region.noSelect ops=true:=by kernel_rfl) (hS:S w:=by assumption):wpAnyH P md ops Q S (fuel+6) l0 a0 w:=
 Bm i0 (Bm i1 (Bm i2 (Bm i3 (Bm i4 (Bm i5 h hi5 hw5 hv5 hl5 ha5 hs hf5 hr5 hQ5 hS) hi4 hw4 hv4 hl4 ha4 hs hf4 hr4 hQ4 hS) hi3 hw3 hv3 hl3 ha3 hs hf3 hr3 hQ3 hS) hi2 hw2 hv2 hl2 ha2 hs hf2 hr2 hQ2 hS) hi1 hw1 hv1 hl1 ha1 hs hf1 hr1 hQ1 hS) hi0 hw0 hv0 hl0 ha0 hs hf0 hr0 hQ0 hS
theorem Kd{P:Program}{md:Region.Mode}{ops:Array Oper}{Q:Exit→Act→World→Prop}{S:World→Prop}{fuel:Nat}{w:World}
 (i0 i1 i2 i3:Nat)
 {o0 o1 o2 o3:Oper}
 {l0 l1 l2 l3 l4:Array Bool} {a0 a1 a2 a3 a4:Act}
 (h:wpAnyH P md ops Q S fuel l4 a4 w)
 (hi0:ops[i0]? =some o0:=by exact Mw)
 (hw0:Region.wanted o0 (yielded ops a0.tmps)=false:=by rfl)
 (hl0:l0.setIfInBounds i0 true=l1:=by exact Lx)
 (ha0:a0.put o0.dst undef=a1:=by exact Lw)
 (hf0:Region.free md ops l0 i0=true:=by kernel_rfl) (hr0:(Region.ready md ops l0).contains i0=true:=by kernel_rfl)
 (hQ0:∀c a w,Q (.panic c) (a.put o0.dst undef) w→Q (.panic c) a w:=by exact fun _ _ _ h=>h)
 (hi1:ops[i1]? =some o1:=by exact Mw)
 (hw1:Region.wanted o1 (yielded ops a1.tmps)=false:=by rfl)
 (hl1:l1.setIfInBounds i1 true=l2:=by exact Lx)
 (ha1:a1.put o1.dst undef=a2:=by exact Lw)
 (hf1:Region.free md ops l1 i1=true:=by kernel_rfl) (hr1:(Region.ready md ops l1).contains i1=true:=by kernel_rfl)
 (hQ1:∀c a w,Q (.panic c) (a.put o1.dst undef) w→Q (.panic c) a w:=by exact fun _ _ _ h=>h)
 (hi2:ops[i2]? =some o2:=by exact Mw)
 (hw2:Region.wanted o2 (yielded ops a2.tmps)=false:=by rfl)
 (hl2:l2.setIfInBounds i2 true=l3:=by exact Lx)
 (ha2:a2.put o2.dst undef=a3:=by exact Lw)
 (hf2:Region.free md ops l2 i2=true:=by kernel_rfl) (hr2:(Region.ready md ops l2).contains i2=true:=by kernel_rfl)
 (hQ2:∀c a w,Q (.panic c) (a.put o2.dst undef) w→Q (.panic c) a w:=by exact fun _ _ _ h=>h)
 (hi3:ops[i3]? =some o3:=by exact Mw)
 (hw3:Region.wanted o3 (yielded ops a3.tmps)=false:=by rfl)
 (hl3:l3.setIfInBounds i3 true=l4:=by exact Lx)
 (ha3:a3.put o3.dst undef=a4:=by exact Lw)
 (hf3:Region.free md ops l3 i3=true:=by kernel_rfl) (hr3:(Region.ready md ops l3).contains i3=true:=by kernel_rfl)
 (hQ3:∀c a w,Q (.panic c) (a.put o3.dst undef) w→Q (.panic c) a w:=by exact fun _ _ _ h=>h)
 (hs:Region.noSelect ops=true:=by kernel_rfl) (hS:S w:=by assumption):wpAnyH P md ops Q S (fuel+4) l0 a0 w:=
 Di i0 (Di i1 (Di i2 (Di i3 h hi3 hw3 hl3 ha3 hs hf3 hr3 hQ3 hS) hi2 hw2 hl2 ha2 hs hf2 hr2 hQ2 hS) hi1 hw1 hl1 ha1 hs hf1 hr1 hQ1 hS) hi0 hw0 hl0 ha0 hs hf0 hr0 hQ0 hS
theorem oM{p:Prop}(h:p:=by omega):p:=h
theorem dE{p:Prop}(h:p:=by decide):p:=h
theorem kR{p:Prop}(h:p:=by kernel_rfl):p:=h
theorem sG{p:Prop}(h:p:=by simp[go_sem]):p:=h
theorem sM{p:Prop}(h:p:=by simp):p:=h
theorem rF{p:Prop}(h:p:=by rfl):p:=h
theorem sO{p:Prop}(h:p:=by simp;omega):p:=h
theorem gG{p:Prop}(h:p:=by go_grown):p:=h
theorem gN{p:Prop}(h:p:=by go_num):p:=h
theorem mL{p:Prop}(h:p:=by unfold maxLen;omega):p:=h
theorem iE{p:Prop}(h:p:=by intro e;simp only at e;omega):p:=h
theorem fT{p:Prop}(h:p:=by first|rfl|trivial):p:=h
theorem gA.{u}{α:Sort u}(a:α):∃x,a=x:=⟨a,rfl⟩
theorem gB{α:Type}{l:List α}{i:Nat}(h:i<l.length):l[i]?=some l[i]:=List.getElem?_eq_getElem h
theorem gC{w w':World}{a:Addr}(h:w'.heap[a.block]?=w.heap[a.block]?):w'.cell? a=w.cell? a:=World.cell?_of_block h
theorem gD{α:Type}{l:List α}{n:Nat}(h:n<l.length):l[n]∈l:=List.getElem_mem h
theorem gE{w:World}{a:Addr}{u:Value}{k:Nat}(h:k≠a.block):(w.setCell a u).heap[k]?=w.heap[k]?:=Below.heap_setCell w a u k h
theorem gF(n:Nat):n<=n:=Nat.le_refl n
theorem gH{a b c:Nat}(h:a<=b)(g:b<=c):a<=c:=Nat.le_trans h g
theorem gI(n:Nat):0<=n:=Nat.zero_le n
theorem VY{p:Prop}(h:p:=by
 obtain⟨x,HX,HD,HNM⟩:=hcut
 have g0:wc.cell? ⟨w.heap.size,4,none⟩=some (.slice (some ⟨rb,ro,none⟩) N qr):=HD.f.cell (i:=4) dE
 have g1:wc.cell? ⟨w.heap.size+1,1,none⟩=some (.int .i64 (kd:Int)):=HD.i.cell (i:=1) dE
 have g2:wc.cell? ⟨w.heap.size+1+1+1,0,none⟩=some (.slice x.p x.h.pats.length x.q):=HD.d.cell (i:=0) dE
 have g3:wc.cell? ⟨w.heap.size+1+1+1,1,none⟩=some (.int .i64 x.h.whole):=HD.d.cell (i:=1) dE
 go_upto_region 40 with(go_at_call 44;(with_reducible refine(HPUT.out _ _ _ _ _ HD.out HNM.out).mono ?_);rintro e w5 ⟨pu5,qu5,rfl,hcu,hb5⟩;have HC5:Hid (DW w (C6 (.slice p0 n0 q0) (.slice p1 n1 q1) (.slice p2 n2 q2) (.slice p3 n3 q3) (.slice (some ⟨rb,ro,none⟩) N qr) (.slice p5 n5 q5) (.slice p6 n6 q6) (.slice p7 n7 q7) (.slice p8 n8 q8) (.int .i64 ct)) _ _ w5/\AI (T2 w T) w5 (.slice pu5 N qu5) (X.set kd x)):=⟨HD.out.next hb5,hcu⟩;clear hb5 hcu g0 g1 g2 g3;have g4:w5.cell? ⟨w.heap.size,4,none⟩=some (.slice (some ⟨rb,ro,none⟩) N qr):=HC5.out.1.f.cell (i:=4) dE;have z4:=HC5.out.1.f.frozen 4)
 have HE:Hid (DE w (.slice p0 n0 q0) (.slice p1 n1 q1) (.slice p2 n2 q2) (.slice p3 n3 q3) (.slice pu5 N qu5) (.slice p5 n5 q5) (.slice p6 n6 q6) (.slice p7 n7 q7) (.slice p8 n8 q8) (.int .i64 ct) (w5.setCell ⟨w.heap.size,4,none⟩ (.slice pu5 N qu5))/\AI (T2 w T) (w5.setCell ⟨w.heap.size,4,none⟩ (.slice pu5 N qu5)) (.slice pu5 N qu5) (X.set kd x)):=Ev HC5.1 HC5.2
 obtain⟨V,hV⟩:=gA (w5.setCell ⟨w.heap.size,4,none⟩ (.slice pu5 N qu5))
 rw[hV]at HE
 rw[hV]
 obtain⟨⟨-,c0,c1,c2,c3,c4,c5,c6,c7,c8,c9,r0,r1,r2,r3,r4,r5,r6,r7,r8,r9,y0,y1,y2,y3,y4,y5,y6,y7,y8,y9⟩,-⟩:=HE.out
 clear hV g4 z4
 go_wp2
 refine bodyPost_ret (by simp[results,results20,go_sem, *];try rfl) rfl ?_
 exact⟨pu5,qu5,x,rfl,HX.out,Jd HE.1 HE.2⟩):p:=h
theorem Xq{p:Prop}(h:p:=by
 have HTZ:Hid (TW w v0 v1 v2 v3 (w.heap.size+1) op D A Q E nn bt wz):=HT0.next HBZ.out
 go_wp2_with(go_at_call 61;(with_reducible refine(HRD.out _).mono ?_);rintro e w5 ⟨u,rfl,hou,hb5⟩;obtain⟨pu,qu,rfl⟩:=At hou;have HOU:Hid (w5.ownsRow wz.heap.size 3 1 (.slice pu R.length qu) R.length (BK R)):=hou;have HB5:Hid (Below wz.heap.size wz w5):=hb5;clear hou hb5)
 go_loopw [11] (fun kv wr=>∃k:Nat,k<=R.length/\kv=.int .i64 (k:Int)/\wr=w5/\∀x∈R.take k,x.toNat∈S) (fun kv _=>R.length-(intOf kv).toNat)
 case atStart=>exact⟨0,gI _,rfl,rfl,fun x hx=>by simp at hx⟩
 case round=>
  obtain⟨k,hk,rfl,rfl,hin⟩:=hrel
  clear c0 c1 c2 c3 i0 i1 i2 i3 i4 i5 i6
  obtain⟨hbq,c0,c1,c2,c3,i0,i1,i2,i3,i4,i5,i6⟩:=HTZ.next HB5.out
  by_cases hlt:k<R.length
  .have hx:=HRP1.out R[k] (gD hlt)
   obtain⟨d,hd⟩:∃d:Nat,R[k]=(d:Int):=⟨R[k].toNat,oM⟩
   obtain⟨gs,rfl,hcs⟩:=HSET.out d oM
   have hcs':=kc hbq hcs
   obtain⟨gu,cu,eu,-⟩:=HOU.form oM
   simp only[Value.slice.injEq]at eu
   obtain⟨rfl,-,rfl⟩:=eu
   have hcu:wr.cell? ⟨gu,k,none⟩=some (.int .i64 (d:Int)):=by rw[HOU.cellAt k oM];simp[BK,hlt,hd]
   have HMEM:Hid (R[k]=(d:Int)):=hd
   have HIN:Hid (∀x∈R.take k,x.toNat∈S):=hin
   have t0:(0:Int)<=(k:Int):=oM
   have t1:(k:Int)<(R.length:Int):=oM
   have t2:(0:Int)<=(d:Int):=oM
   have t3:(d:Int)<(M:Int):=oM
   have wk:IntKind.i64.wrap ((k:Int)+1)=((k+1:Nat):Int):=by rw[IntKind.wrap_i64];omega
   clear hx hd hin hcs hk
   cases hX:decide (d∈S)
   .rw[hX]at hcs'
    have hall:(R.all fun n=>decide (n.toNat∈S))=false:=by
     rw[List.all_eq_false]
     exact⟨R[k],gD hlt,by rw[HMEM.out,Int.toNat_natCast,hX];decide⟩
    have HQF:Hid (false=RES):=by show _=_;have:=HR2.out;rw[hall,Bool.false_and]at this;exact this
    clear hX hall
    go_wp2
    go_ret
    exact⟨A6 HQF.out,hbq⟩
   .rw[hX]at hcs'
    have HX:Hid (d∈S):=by show d∈S;exact of_decide_eq_true hX
    clear hX
    go_wp2
    go_roundw
    case rel=>
     refine⟨k+1,oM,gN,fT,fun x hx=>?_⟩
     rw[List.take_succ_eq_append_getElem hlt,List.mem_append]at hx
     rcases hx with hx|hx
     .exact HIN.out x hx
     .simp only[List.mem_singleton]at hx
      rw[hx,HMEM.out,Int.toNat_natCast]
      exact HX.out
    case measure=>simp[intOf];omega
  .have hkk:k=R.length:=oM
   have hall:(R.all fun n=>decide (n.toNat∈S))=true:=by
    rw[List.all_eq_true]
    intro x hx
    rw[hkk,List.take_length]at hin
    simpa using hin x hx
   have h9:=HR2.out;rw[hall,Bool.true_and]at h9;have HTS:Hid _:=h9;clear h9
   have t1:¬ (k:Int)<(R.length:Int):=oM
   clear hall hin hk hlt
   by_cases h34:op=34
   .subst h34
    have h9:=HTS.out;rw[if_pos (Or.inl rfl)]at h9;have HQ:Hid _:=h9;clear h9
    go_wp2
    go_ret
    exact⟨A6 (by rw[<-HQ.out];first|(simp;done)|(simp;omega)|(simp[hn0];done)|(simp[hn0];omega)),hbq⟩
   .by_cases h36:op=36
    .subst h36
     have h9:=HTS.out;rw[if_pos (Or.inr rfl)]at h9;have HQ:Hid _:=h9;clear h9
     go_wp2
     go_ret
     exact⟨A6 (by rw[<-HQ.out];first|(simp;done)|(simp;omega)|(simp[hn0];done)|(simp[hn0];omega)),hbq⟩
    .have h9:=HTS.out;rw[if_neg (fun e=>e.elim h34 h36)]at h9;have HT2:Hid _:=h9;clear h9
     have q34:(op==34)=false:=by simpa using h34
     have q36:(op==36)=false:=by simpa using h36
     by_cases h35:op=35
     .subst h35
      have h9:=HT2.out;rw[if_pos rfl]at h9;have HQ:Hid _:=h9;clear h9
      clear q34 q36 h34 h36
      by_cases hn0:(0:Int)<(n:Int)
      .first
        |(exfalso;omega)
        |(go_wp2;go_ret;exact⟨A6 (by rw[<-HQ.out];first|(simp;done)|(simp;omega)|(simp[hn0];done)|(simp[hn0];omega)),hbq⟩)
      .first
        |(exfalso;omega)
        |(go_wp2;go_ret;exact⟨A6 (by rw[<-HQ.out];first|(simp;done)|(simp;omega)|(simp[hn0];done)|(simp[hn0];omega)),hbq⟩)
     .have h9:=HT2.out;rw[if_neg h35]at h9;have HT3:Hid _:=h9;clear h9
      have q35:(op==35)=false:=by simpa using h35
      by_cases h37:op=37
      .subst h37
       have h9:=HT3.out;rw[if_pos rfl]at h9;have HQ:Hid _:=h9;clear h9
       clear q34 q35 q36 h34 h35 h36
       first
        |(exfalso;omega)
        |(go_wp2;go_ret;exact⟨A6 HQ.out,hbq⟩)
      .have h9:=HT3.out;rw[if_neg h37]at h9;have HQ:Hid _:=h9;clear h9
       have q37:(op==37)=false:=by simpa using h37
       clear h34 h35 h36 h37
       go_wp2
       go_ret
       exact⟨A6 HQ.out,hbq⟩):p:=h
theorem PO{p:Prop}(h:p:=by
 go_enter func70,ntmps70
 go_wp2_with(first
  |(go_at_call 91;refine(C8 _ oM oM _).mono ?_;rintro e w' ⟨rfl,o,rfl⟩)
  |(go_at_call 92;refine(CH _ _ _ _ _ _ _ _ _ _ _).mono ?_;rintro e w' ⟨rfl,o,p,rfl⟩)
  |(go_at_call 93;refine(Df _ _).mono ?_;rintro e w' ⟨rfl,rfl⟩)
  |(go_at_call 94;refine(Cq _ _).mono ?_;rintro e w' ⟨rfl,rfl⟩)
  |(go_at_call 69;refine(Ba _ _ oM oM _ oM oM _).mono ?_;rintro e w' ⟨rfl,rfl⟩)
  |(go_at_call 97;refine(KV _ _ _ _ _ _ _ _ _ _ oM oM oM oM oM oM oM _).mono ?_;rintro e w' ⟨rfl,hbS⟩))
 go_ret
 exact⟨rfl,gG⟩):p:=h
theorem Xr{p:Prop}(h:p:=by
 have HE:Hid (DE w (.slice p0 n0 q0) (.slice p1 n1 q1) (.slice p2 n2 q2) (.slice p3 n3 q3) (.slice pu5 N qu5) (.slice p5 n5 q5) (.slice p6 n6 q6) (.slice p7 n7 q7) (.slice p8 n8 q8) (.int .i64 ct) (w5.setCell ⟨w.heap.size,4,none⟩ (.slice pu5 N qu5))/\AI (T2 w T) (w5.setCell ⟨w.heap.size,4,none⟩ (.slice pu5 N qu5)) (.slice pu5 N qu5) (X.set kd x)):=Ev HC5.1 HC5.2
 obtain⟨V,hV⟩:=gA (w5.setCell ⟨w.heap.size,4,none⟩ (.slice pu5 N qu5))
 rw[hV]at HE
 rw[hV]
 obtain⟨⟨-,c0,c1,c2,c3,c4,c5,c6,c7,c8,c9,r0,r1,r2,r3,r4,r5,r6,r7,r8,r9,y0,y1,y2,y3,y4,y5,y6,y7,y8,y9⟩,-⟩:=HE.out
 clear hV g4 z4
 go_wp2
 refine bodyPost_ret (by simp[results,results20,go_sem, *];try rfl) rfl ?_
 exact⟨pu5,qu5,x,rfl,HX.out,Jd HE.1 HE.2⟩):p:=h
theorem Ea{p:Prop}(h:p:=by
 go_enter func48,ntmps48
 go_wp2
 refine bodyPost_ret (by simp[results,results48,go_sem];try rfl) rfl ?_
 exact⟨rfl,gG⟩):p:=h
theorem GK{p:Prop}(h:p:=by
 go_enter func60,ntmps60
 go_wp2_with(go_at_call 88;(with_reducible refine(KE.out _).mono ?_);rintro e w1 ⟨rfl,rfl⟩)
 go_ret
 refine⟨?_,bel (A0 _ _) (A0 _ _)⟩
 first|rfl|simp[*]):p:=h
theorem SJ{p:Prop}(h:p:=by
 go_enter func114,ntmps114
 go_wp2_with(first
  |(go_at_call 91;refine(C8 _ oM oM _).mono ?_;rintro e w' ⟨rfl,o,rfl⟩)
  |(go_at_call 92;refine(CH _ _ _ _ _ _ _ _ _ _ _).mono ?_;rintro e w' ⟨rfl,o,p,rfl⟩)
  |(go_at_call 93;refine(Df _ _).mono ?_;rintro e w' ⟨rfl,rfl⟩)
  |(go_at_call 94;refine(Cq _ _).mono ?_;rintro e w' ⟨rfl,rfl⟩)
  |(go_at_call 69;refine(Ba _ _ oM oM _ oM oM _).mono ?_;rintro e w' ⟨rfl,rfl⟩)
  |(go_at_call 120;refine(MJ _ _ _ _ _ oM oM oM oM _).mono ?_;rintro e w' ⟨rfl,o,p,rfl⟩))
 go_ret
 exact⟨rfl,gG⟩):p:=h
theorem Xs{p:Prop}(h:p:=by
 obtain⟨V,hV⟩:=gA (w5.setCell ⟨w.heap.size,4,none⟩ (.slice pu5 N qu5))
 rw[hV]at HE
 rw[hV]
 obtain⟨⟨-,c0,c1,c2,c3,c4,c5,c6,c7,c8,c9,r0,r1,r2,r3,r4,r5,r6,r7,r8,r9,y0,y1,y2,y3,y4,y5,y6,y7,y8,y9⟩,-⟩:=HE.out
 clear hV g4 z4
 go_wp2
 refine bodyPost_ret (by simp[results,results20,go_sem, *];try rfl) rfl ?_
 exact⟨pu5,qu5,x,rfl,HX.out,Jd HE.1 HE.2⟩):p:=h
theorem Yb{p:Prop}(h:p:=by
 have HV2:Hid (∀root:Nat,root*root<=n->n<(root+1)*(root+1)->F=(Ieee.single.nearest false (2*root+(if root*root<n then 1 else 0)) (E2-1):Nat)):=hv2
 have HN:Hid ((n:Int)=N):=hn
 have hE2b: -200<=E2/\E2<=60:=oM
 clear hv2 hn hE2 HV
 go_enter func108,ntmps108
 go_wp2_with(first
  |(go_at_call 91;refine(C8 _ oM oM _).mono ?_;rintro e w' ⟨rfl,o,rfl⟩)
  |(go_at_call 120;refine(MJ _ _ _ _ _ oM oM oM oM _).mono ?_;rintro e w' ⟨rfl,o,p,rfl⟩))
 go_loop [6,7] (fun rv bv=>∃ (k root:Nat),k<=32/\rv=.int .u64 root/\bv=.int .u64 (Ok k)/\WL n k root) (fun _ bv=>(intOf bv).toNat)
 case atStart=>
  have hnn:=HN.out
  exact⟨32,0,oM,rfl,rfl,by unfold WL;have:(2:Nat)^32=4294967296:=rfl;rw[this];omega⟩
 case round=>
  obtain⟨k,root,hk,rfl,rfl,q1,q2,q3⟩:=hrel
  have Q1:Hid (root*root<=n):=q1
  have Q2:Hid (n<(root+2^k)*(root+2^k)):=q2
  have Q3:Hid (root+2^k<=4294967296):=q3
  have hroot:(root:Int)<4294967296:=by have:=Nat.two_pow_pos k;omega
  rcases Nat.eq_zero_or_pos k with hz|hz
  .subst hz
   have hb:Ok 0=0:=rfl
   rw[hb]
   obtain⟨R2,hR2⟩:∃R2:Int,(root:Int)*root=R2:=⟨_,rfl⟩
   have hR2n:R2=((root*root:Nat):Int):=by rw[<-hR2,Int.natCast_mul]
   have hnn:=HN.out
   have hw:IntKind.u64.wrap ((root:Int)*root)=R2:=by rw[hR2,IntKind.wrap_u64];omega
   have hF:=HV2.out root q1 (by rw[Nat.pow_zero]at q2;exact q2)
   have HR:Hid (R2=((root*root:Nat):Int)):=hR2n
   clear q1 q2 q3 hR2 hR2n hnn
   by_cases c2:R2<N
   .rw[if_pos (by have:=HR.out;have:=HN.out;omega)]at hF
    have HF:Hid (F=(Ieee.single.nearest false _ (E2-1):Nat)):=hF
    clear hF HV2
    go_wp2_with(go_at_call 69;refine(Ba _ _ oM oM _ oM oM _).mono ?_;rintro e w' ⟨rfl,rfl⟩)
    go_ret
    refine⟨?_,gG⟩
    rw[HF.out]
    exact FP oM rfl
   .rw[if_neg (by have:=HR.out;have:=HN.out;omega)]at hF
    have HF:Hid (F=(Ieee.single.nearest false _ (E2-1):Nat)):=hF
    clear hF HV2
    go_wp2_with(go_at_call 69;refine(Ba _ _ oM oM _ oM oM _).mono ?_;rintro e w' ⟨rfl,rfl⟩)
    go_ret
    refine⟨?_,gG⟩
    rw[HF.out]
    exact FP oM rfl
  .obtain⟨j,rfl⟩:∃j,k=j+1:=⟨k-1,oM⟩
   rw[Om]
   have hh:=Ol j
   obtain⟨b,hb⟩:∃b:Int,(2:Int)^j=b:=⟨_,rfl⟩
   have hbn:b=((2^j:Nat):Int):=by rw[Db];exact hb.symm
   have hb1:1<=b:=by have:=Nat.two_pow_pos j;omega
   have hp2:2^(j+1)=2*2^j:=by rw[Nat.pow_succ,Nat.mul_comm]
   have hsum:(root:Int)+b<4294967296:=by rw[hp2]at q3;have:=Nat.two_pow_pos j;omega
   obtain⟨y,hy⟩:∃y:Nat,y=root+2^j:=⟨_,rfl⟩
   obtain⟨R,hR⟩:∃R:Int,(root:Int)=R:=⟨_,rfl⟩
   obtain⟨S,hS⟩:∃S:Int,(R+b)*(R+b)=S:=⟨_,rfl⟩
   have hSn:S=((y*y:Nat):Int):=by rw[<-hS,Int.natCast_mul,hy,Int.natCast_add,hbn,hR]
   have hSb:0<=S/\S<18446744073709551616:=by
    have:=Nat.mul_self_le_mul_self (show y<=4294967295 by omega)
    omega
   have hw:IntKind.u64.wrap ((R+b)*(R+b))=S:=by rw[hS,IntKind.wrap_u64];omega
   have hR0:0<=R:=oM
   have HR:Hid ((root:Int)=R):=hR
   rw[hR]at hsum hroot |-
   clear hR
   rw[hb]at hh |-
   have HB:Hid (b=((2^j:Nat):Int)):=hbn
   have HS:Hid (S=((y*y:Nat):Int)):=hSn
   have HY:Hid (y=root+2^j):=hy
   clear q1 q2 q3 hS hSn hbn hb hy hp2
   by_cases c2:S<=N
   .go_wp2
    go_round
    case rel=>
     have e1:=HB.out
     have e2:=HS.out
     have e3:=HY.out
     have e4:=HN.out
     have e5:=Q2.out
     have e6:=Q3.out
     have hp2:2^(j+1)=2*2^j:=by rw[Nat.pow_succ,Nat.mul_comm]
     refine⟨j,root+2^j,oM,by rw[Int.natCast_add,<-e1,HR.out],by first|rfl|rw[hh],?_,?_,oM⟩
     .rw[<-e3];omega
     .rw[show root+2^j+2^j=root+2^(j+1) by omega];exact e5
    case measure=>simp[intOf];omega
   .go_wp2
    go_round
    case rel=>
     have e1:=HB.out
     have e2:=HS.out
     have e3:=HY.out
     have e4:=HN.out
     have e5:=Q2.out
     have e6:=Q3.out
     have hp2:2^(j+1)=2*2^j:=by rw[Nat.pow_succ,Nat.mul_comm]
     refine⟨j,root,oM,by rw[HR.out],by first|rfl|rw[hh],Q1.out,?_,oM⟩
     rw[<-e3];omega
    case measure=>simp[intOf];omega):p:=h
theorem Xt{p:Prop}(h:p:=by
 go_enter func30,ntmps30
 go_wp2
 refine rG (fun v=>v.cell? ⟨w.heap.size,0,none⟩=some v0/\v.cell? ⟨w.heap.size,1,none⟩=some v1/\v.cell? ⟨w.heap.size,2,none⟩=some v2/\v.cell? ⟨w.heap.size,3,none⟩=some v3/\v.cell? ⟨w.heap.size+1,0,none⟩=some (.int .i64 op)/\v.cell? ⟨w.heap.size+1,1,none⟩=some (.int .i64 D)/\v.cell? ⟨w.heap.size+1,2,none⟩=some (.int .i64 A)/\v.cell? ⟨w.heap.size+1,3,none⟩=some (.int .i64 Q)/\v.cell? ⟨w.heap.size+1,4,none⟩=some (.int .i64 E)/\v.cell? ⟨w.heap.size+1,5,none⟩=some (.int .i64 nn)/\v.cell? ⟨w.heap.size+1,6,none⟩=some (.int .u32 bt)) fun hJ=>?_
 refine Tb 0 1 ?_
 clear hJ
 refine AC 2 fun K hK=>?_
 go_simp
 (go_at_call 59;(with_reducible refine(HFIT.out _ (bel HT0.out.bel (A4 _))).mono ?_);rintro e wz ⟨rfl,hbz⟩;have HBZ:Hid (Below ((w.alloc (.cells #[v0,v1,v2,v3] 27)).alloc (.cells #[.int .i64 op,.int .i64 D,.int .i64 A,.int .i64 Q,.int .i64 E,.int .i64 nn,.int .u32 bt] 55)).heap.size ((w.alloc (.cells #[v0,v1,v2,v3] 27)).alloc (.cells #[.int .i64 op,.int .i64 D,.int .i64 A,.int .i64 Q,.int .i64 E,.int .i64 nn,.int .u32 bt] 55)) wz):=bel (A4 _) hbz;clear hbz;obtain⟨-,c0,c1,c2,c3,i0,i1,i2,i3,i4,i5,i6⟩:=HT0.out.next HBZ.out)
 try(go_wp2_with fail)
 refine AB hK fun hJ=>?_
 clear hK K
 refine Tb 3 4 ?_
 refine Kd 5 6 7 8 ?_
 refine Kd 9 10 11 12 ?_
 refine Kd 13 14 15 16 ?_
 refine Kd 17 18 19 20 ?_
 refine Di 21 ?_
 refine Di 22 ?_
 refine Di 23 ?_
 refine Bm 24 ?_
 refine wpAnyH_done kR ?_ _
 go_wp2
 go_ret
 exact⟨A6 HQF.out,bel hb00 HBZ.out⟩):p:=h
theorem Yc{p:Prop}(h:p:=by
 have HRF:Hid (false=RES):=hRES
 clear hRES hKOA hKOB hKOC hPL HPP0
 go_enter func59,ntmps59
 go_wp2_with(first
  |(go_at_call 62;refine(HROW.out _).mono ?_;rintro e w1 ⟨rfl,rfl⟩)
  |(go_at_call 58;refine(HCAN.out _).mono ?_;rintro e w2 ⟨rfl,hb2⟩;have HT2:Hid (TW w (.slice p0 n0 q0) (.slice p1 n1 q1) (.slice p2 n2 q2) v3 (w.heap.size+1) op D A B E n bt (w2.alloc (.cells #[.int .i64 0,.int .i64 0] 63))):=(HT0.next hb2).next (A0 _ _);obtain⟨b1,c0,c1,c2,c3,i0,i1,i2,i3,i4,i5,i6⟩:=HT2.out;have HS2:Hid (w.heap.size+1<w2.heap.size):=A3 (HT0.next hb2).i0;clear hb2))
 have HTD:Hid _:=HT2.out
 have HD:Hid ((w2.alloc (.cells #[.int .i64 0,.int .i64 0] 63)).cell? ⟨w2.heap.size,0,none⟩=some (.int .i64 0)/\(w2.alloc (.cells #[.int .i64 0,.int .i64 0] 63)).cell? ⟨w2.heap.size,1,none⟩=some (.int .i64 0)):=⟨sG,sG⟩
 obtain⟨Z,hZ⟩:=gA (w2.heap.size)
 obtain⟨Wd,hWd⟩:∃W,w2.alloc (.cells #[.int .i64 0,.int .i64 0] 63)=W:=⟨_,rfl⟩
 rw[hZ]at HD
 rw[hWd]at HD HTD |-
 try rw[hZ]
 clear hZ hWd HT2 b1 c0 c1 c2 c3 i0 i1 i2 i3 i4 i5 i6 HT0 HROW HCAN
 have HCD:Hid (∀v,Below Wd.heap.size Wd v->v.cell? ⟨w.heap.size,0,none⟩=some (.slice p0 n0 q0)/\v.cell? ⟨w.heap.size,1,none⟩=some (.slice p1 n1 q1)/\v.cell? ⟨w.heap.size,2,none⟩=some (.slice p2 n2 q2)/\v.cell? ⟨w.heap.size,3,none⟩=some v3/\v.cell? ⟨w.heap.size+1,1,none⟩=some (.int .i64 D)/\v.cell? ⟨w.heap.size+1,2,none⟩=some (.int .i64 A)/\v.cell? ⟨w.heap.size+1,3,none⟩=some (.int .i64 B)/\v.cell? ⟨w.heap.size+1,4,none⟩=some (.int .i64 E)/\v.cell? ⟨w.heap.size+1,5,none⟩=some (.int .i64 n)/\v.cell? ⟨Z,0,none⟩=some (.int .i64 0)/\v.cell? ⟨Z,1,none⟩=some (.int .i64 0)):=fun v hb=>⟨kc hb HTD.c0,kc hb HTD.c1,kc hb HTD.c2,kc hb HTD.c3,kc hb HTD.i1,kc hb HTD.i2,kc hb HTD.i3,kc hb HTD.i4,kc hb HTD.i5,kc hb HD.1,kc hb HD.2⟩
 obtain⟨c0,c1,c2,c3,i1,i2,i3,i4,i5,d0,d1⟩:=HCD.out Wd (BE _)
 refine rG (fun v=>v.cell? ⟨w.heap.size,0,none⟩=some (.slice p0 n0 q0)/\v.cell? ⟨w.heap.size,1,none⟩=some (.slice p1 n1 q1)/\v.cell? ⟨w.heap.size,2,none⟩=some (.slice p2 n2 q2)/\v.cell? ⟨w.heap.size,3,none⟩=some v3/\v.cell? ⟨w.heap.size+1,1,none⟩=some (.int .i64 D)/\v.cell? ⟨w.heap.size+1,2,none⟩=some (.int .i64 A)/\v.cell? ⟨w.heap.size+1,3,none⟩=some (.int .i64 B)/\v.cell? ⟨w.heap.size+1,4,none⟩=some (.int .i64 E)/\v.cell? ⟨w.heap.size+1,5,none⟩=some (.int .i64 n)/\v.cell? ⟨Z,0,none⟩=some (.int .i64 0)/\v.cell? ⟨Z,1,none⟩=some (.int .i64 0)) fun hJ=>?_
 refine Tf 0 1 2 3 4 5 ?_
 clear hJ
 refine AC 6 fun K hK=>?_
 go_simp
 (go_at_call 86;(with_reducible refine(HK0.out _ (bel HTD.out.bel (A4 _))).mono ?_);rintro e w3 ⟨rfl,hb9⟩;have HB3:Hid (Below Wd.heap.size Wd w3):=bel (A4 _) hb9;clear hb9;obtain⟨c0,c1,c2,c3,i1,i2,i3,i4,i5,d0,d1⟩:=HCD.out w3 HB3.out)
 try(go_wp2_with fail)
 refine AB hK fun hJ=>?_
 clear hK K
 refine Bm 7 ?_
 refine wpAnyH_done kR ?_ _
 go_wp2
 go_ret
 exact⟨A6 HRF.out,bel HTD.bel HB3.out⟩):p:=h
theorem WV{p:Prop}(h:p:=by
 go_enter func24,ntmps24
 go_upto_region 14 with(go_at_call 53;(with_reducible refine(KE.out _).mono ?_);rintro r9 w8 ⟨rfl,hw8⟩;have hw8:=hw8.symm;subst hw8)
 refine rG (fun v=>v.cell? ⟨C,1,none⟩=some (.slice (some ⟨bb,oo,none⟩) RL q1)/\v.cell? ⟨B,O+2,none⟩=some (.int .i64 (R:Int))/\v.cell? ⟨bb,oo+R*2,none⟩=some (.int .i64 TY.kind)/\v.cell? ⟨bb,oo+R*2+1,none⟩=some (.int .i64 TY.par)) fun hJ=>?_
 refine Tf 0 1 2 3 4 5 ?_
 refine Tc 6 7 8 ?_
 refine Tb 9 10 ?_
 clear hJ
 refine AC 11 fun K hK=>?_
 go_simp
 (go_at_call 54;(with_reducible refine KWW.out.mono ?_);rintro r9 w8 ⟨rfl,hb8⟩;have c81:=kc hb8 c1;have x8:=kc hb8 x2;have t80:=kc hb8 t0;have t81:=kc hb8 t1;have HB8:=Aa (HBWW.out.trans (hb8.mono HBWW.out.size));clear hb8)
 try(go_wp2_with fail)
 refine AB hK fun hJ=>?_
 clear hK K
 refine Bm 12 ?_
 refine wpAnyH_done kR ?_ _
 go_wp2_with fail
 refine bodyPost_ret (by simp[results,results24,go_sem, *];try rfl) rfl ?_
 exact⟨rfl,HB8.out⟩):p:=h
theorem UN{p:Prop}(h:p:=by
 go_enter func68,ntmps68
 go_wp2_with(first
  |(go_at_call 91;refine(C8 _ oM oM _).mono ?_;rintro e w' ⟨rfl,o,rfl⟩)
  |(go_at_call 92;refine(CH _ _ _ _ _ _ _ _ _ _ _).mono ?_;rintro e w' ⟨rfl,o,p,rfl⟩)
  |(go_at_call 93;refine(Df _ _).mono ?_;rintro e w' ⟨rfl,rfl⟩)
  |(go_at_call 69;refine(Ba _ _ oM oM _ oM oM _).mono ?_;rintro e w' ⟨rfl,rfl⟩))
 go_ret
 exact⟨rfl,gG⟩):p:=h
theorem Xu{p:Prop}(h:p:=by
 refine Tf 0 1 2 3 4 5 ?_
 clear hJ
 refine AC 6 fun K hK=>?_
 go_simp
 (go_at_call 86;(with_reducible refine(HKA.out _ (bel HTD.out.bel (A4 _))).mono ?_);rintro e w3 ⟨rfl,hb9⟩;have HB3:Hid (Below Wd.heap.size Wd w3):=bel (A4 _) hb9;clear hb9;obtain⟨c0,c1,c2,c3,i1,i2,i3,i4,i5,d0,d1⟩:=HCD.out w3 HB3.out)
 try(go_wp2_with fail)
 refine AB hK fun hJ=>?_
 clear hK K
 refine Tf 7 8 9 10 11 12 ?_
 refine Tb 13 14 ?_
 clear hJ
 refine AC 15 fun K hK=>?_
 go_simp
 (go_at_call 86;(with_reducible refine(HKB.out _ (bel HTD.out.bel HB3.out)).mono ?_);rintro e w4 ⟨rfl,hb9⟩;have HB4:Hid (Below Wd.heap.size Wd w4):=bel HB3.out hb9;clear hb9;clear c0 c1 c2 c3 i1 i2 i3 i4 i5 d0 d1;obtain⟨c0,c1,c2,c3,i1,i2,i3,i4,i5,d0,d1⟩:=HCD.out w4 HB4.out)
 try(go_wp2_with fail)
 refine AB hK fun hJ=>?_
 clear hK K
 refine Tf 16 17 18 19 20 21 ?_
 refine Tc 22 23 24 ?_
 clear hJ
 refine AC 25 fun K hK=>?_
 go_simp
 (go_at_call 86;(with_reducible refine(HKC.out _ (bel HTD.out.bel HB4.out)).mono ?_);rintro e w5 ⟨rfl,hb9⟩;have HB5:Hid (Below Wd.heap.size Wd w5):=bel HB4.out hb9;clear hb9;clear c0 c1 c2 c3 i1 i2 i3 i4 i5 d0 d1;obtain⟨c0,c1,c2,c3,i1,i2,i3,i4,i5,d0,d1⟩:=HCD.out w5 HB5.out)
 try(go_wp2_with fail)
 refine AB hK fun hJ=>?_
 clear hK K
 refine Tb 26 27 ?_
 refine wpAnyH_done kR ?_ _
 go_wp2
 go_ret
 exact⟨A6 HQF.out,bel HTD.bel HB5.out⟩):p:=h
theorem Eb{p:Prop}(h:p:=by
 go_enter func62,ntmps62
 go_wp2
 go_ret2
 exact⟨rfl,rfl⟩):p:=h
theorem WW{p:Prop}(h:p:=by
 refine rG (fun v=>v.cell? ⟨C,1,none⟩=some (.slice (some ⟨bb,oo,none⟩) RL q1)/\v.cell? ⟨B,O+1,none⟩=some (.int .i64 (R:Int))/\v.cell? ⟨bb,oo+R*2,none⟩=some (.int .i64 TY.kind)/\v.cell? ⟨bb,oo+R*2+1,none⟩=some (.int .i64 TY.par)) fun hJ=>?_
 refine Tf 0 1 2 3 4 5 ?_
 refine Tc 6 7 8 ?_
 refine Tb 9 10 ?_
 clear hJ
 refine AC 11 fun K hK=>?_
 go_simp
 (go_at_call 54;(with_reducible refine KWW.out.mono ?_);rintro r9 w8 ⟨rfl,hb8⟩;have c81:=kc hb8 c1;have x8:=kc hb8 x1;have t80:=kc hb8 t0;have t81:=kc hb8 t1;have HB8:=Aa (HBWW.out.trans (hb8.mono HBWW.out.size));clear hb8)
 try(go_wp2_with fail)
 refine AB hK fun hJ=>?_
 clear hK K
 refine Bm 12 ?_
 refine wpAnyH_done kR ?_ _
 go_wp2_with fail
 refine bodyPost_ret (by simp[results,results24,go_sem, *];try rfl) rfl ?_
 exact⟨rfl,HB8.out⟩):p:=h
theorem WY{p:Prop}(h:p:=by
 go_enter func50,ntmps50
 go_wp2_with(go_at_call 82;refine(HKI.out _ (HS0.below (A0 _ _))).mono ?_;rintro e w1 ⟨⟨A,rfl⟩,hb1⟩;have HF:Hid (MW w w1.heap.size G C b o (.slice p N q) L0 L1 L2 L3 L4 op false P A (w1.alloc (.cells #[.bool false,.int .i64 P,.int .i64 A] 143))):=(by have hq:=bel (A0 _ _) hb1;exact⟨bel hq (A0 _ _),kc (A0 _ _) (kc hb1 sG),kc (A0 _ _) (kc hb1 sG),kc (A0 _ _) (kc hb1 sG),kc (A0 _ _) (kc hb1 sG),kc (A0 _ _) (kc hb1 sG),sG,sG,kc (A0 _ _) (kc hq HS0.c0),kc (A0 _ _) (kc hq HS0.c3),kc (A0 _ _) (kc hq HE0.out)⟩);have f0:=HF.m0;have f1:=HF.g3;have f2:=HF.e0;have f3:=HF.m1;have f4:=HF.g0)
 all_goals(go_ret;exact⟨A6 (by simp;try omega),HF.bel⟩)):p:=h
theorem WZ{p:Prop}(h:p:=by
 go_enter func50,ntmps50
 go_wp2_with(go_at_call 82;refine(HKI.out _ (HS0.below (A0 _ _))).mono ?_;rintro e w1 ⟨⟨A,rfl⟩,hb1⟩;have HF:Hid (MW w w1.heap.size G C b o (.slice p N q) L0 L1 L2 L3 L4 op true P A (w1.alloc (.cells #[.bool true,.int .i64 P,.int .i64 A] 143))):=(by have hq:=bel (A0 _ _) hb1;exact⟨bel hq (A0 _ _),kc (A0 _ _) (kc hb1 sG),kc (A0 _ _) (kc hb1 sG),kc (A0 _ _) (kc hb1 sG),kc (A0 _ _) (kc hb1 sG),kc (A0 _ _) (kc hb1 sG),sG,sG,kc (A0 _ _) (kc hq HS0.c0),kc (A0 _ _) (kc hq HS0.c3),kc (A0 _ _) (kc hq HE0.out)⟩);have f0:=HF.m0;have f1:=HF.g3;have f2:=HF.e0;have f3:=HF.m1;have f4:=HF.g0)
 all_goals(go_ret;exact⟨A6 (by simp;try omega),HF.bel⟩)):p:=h
theorem Oi{p:Prop}(h:p:=by
 rintro e w' ⟨p9,q9,x,rfl,hx,hc,hbl⟩;exact⟨p9,q9,p5,q5,p6,q6,X.set kd x,S,O,rfl,hc,hss.below hbl,hoo.below hbl,rfl,.inl ⟨hd,⟨x,by rw[Int.toNat_natCast],hx.trans hval⟩,rfl,rfl⟩,hbl⟩):p:=h
theorem Sw{p:Prop}(h:p:=by
 go_enter func97,ntmps97
 go_wp2_with(first
  |(go_at_call 94;refine(Cq _ _).mono ?_;rintro e w' ⟨rfl,rfl⟩)
  |(go_at_call 69;refine(Ba _ _ oM oM _ oM oM _).mono ?_;rintro e w' ⟨rfl,rfl⟩))
 go_ret
 exact⟨FP oM rfl,gG⟩):p:=h
theorem UO{p:Prop}(h:p:=by
 go_wp2_with(first
  |(go_at_call 91;refine(C8 _ oM oM _).mono ?_;rintro e w' ⟨rfl,o,rfl⟩)
  |(go_at_call 92;refine(CH _ _ _ _ _ _ _ _ _ _ _).mono ?_;rintro e w' ⟨rfl,o,p,rfl⟩)
  |(go_at_call 98;refine(Gf _ oM oM _).mono ?_;rintro e w' ⟨rfl,rfl⟩))
 go_ret
 exact⟨rfl,gG⟩):p:=h
theorem Xv{p:Prop}(h:p:=by
 refine Tf 0 1 2 3 4 5 ?_
 clear hJ
 refine AC 6 fun K hK=>?_
 go_simp
 (go_at_call 86;(with_reducible refine(HKA.out _ (bel HTD.out.bel (A4 _))).mono ?_);rintro e w3 ⟨rfl,hb9⟩;have HB3:Hid (Below Wd.heap.size Wd w3):=bel (A4 _) hb9;clear hb9;obtain⟨c0,c1,c2,c3,i1,i2,i3,i4,i5,d0,d1⟩:=HCD.out w3 HB3.out)
 try(go_wp2_with fail)
 refine AB hK fun hJ=>?_
 clear hK K
 refine Tf 7 8 9 10 11 12 ?_
 refine Tb 13 14 ?_
 clear hJ
 refine AC 15 fun K hK=>?_
 go_simp
 (go_at_call 86;(with_reducible refine(HKB.out _ (bel HTD.out.bel HB3.out)).mono ?_);rintro e w4 ⟨rfl,hb9⟩;have HB4:Hid (Below Wd.heap.size Wd w4):=bel HB3.out hb9;clear hb9;clear c0 c1 c2 c3 i1 i2 i3 i4 i5 d0 d1;obtain⟨c0,c1,c2,c3,i1,i2,i3,i4,i5,d0,d1⟩:=HCD.out w4 HB4.out)
 try(go_wp2_with fail)
 refine AB hK fun hJ=>?_
 clear hK K
 refine Tc 16 17 18 ?_
 refine Kd 19 20 21 22 ?_
 refine Kd 23 24 25 26 ?_
 refine Bm 27 ?_
 refine wpAnyH_done kR ?_ _
 go_wp2
 go_ret
 exact⟨A6 HQF.out,bel HTD.bel HB4.out⟩):p:=h
theorem Yd{p:Prop}(h:p:=by
 have HQF:Hid (false=RES):=by show _=_;have:=HQ.out;rw[hpl]at this;exact this
 have hpl':=hpl
 unfold Ab at hpl'
 rw[HN2.out]at hpl'
 by_cases hn0:0<=n
 .have HLT:Hid (¬n<(n2:Int)):=by show¬_;simp[hn0]at hpl';omega
  clear hpl hpl'
  go_wp2
  refine rG (fun v=>v.cell? ⟨w.heap.size,2,none⟩=some (.slice p2 n2 q2)/\v.cell? ⟨w.heap.size+1,5,none⟩=some (.int .i64 n)) fun hJ=>?_
  refine Tf 0 1 2 3 4 5 ?_
  refine Tc 6 7 8 ?_
  refine wpAnyH_take (i:=9) (v:=.bool false) (by simp only[List.getElem?_toArray,List.getElem?_cons_succ,List.getElem?_cons_zero];rfl) kR kR kR (by exact fun _ _ _ h=>h) (Or.inl ⟨rF,?_⟩) (by assumption) ?_
  ·(intro wS hSw;(try dsimp only at hSw);have hltF:=HLT.out;go_simp;first|done|rfl|omega|(simp;omega)|simp[hltF])
  try simp only[Act.put,List.setIfInBounds_toArray,List.set_cons_zero,List.set_cons_succ]
  refine Tb 10 11 ?_
  refine Kd 12 13 14 15 ?_
  refine Kd 16 17 18 19 ?_
  refine Di 20 ?_
  refine Tb 21 22 ?_
  refine wpAnyH_done kR ?_ _
  go_wp2
  go_ret
  exact⟨A6 HQF.out,CT hbt⟩
 .have HLT:Hid (¬0<=n):=hn0
  clear hpl hpl' hn0
  go_wp2
  refine rG (fun v=>v.cell? ⟨w.heap.size,2,none⟩=some (.slice p2 n2 q2)/\v.cell? ⟨w.heap.size+1,5,none⟩=some (.int .i64 n)) fun hJ=>?_
  refine Tb 0 1 ?_
  refine wpAnyH_take (i:=2) (v:=.bool false) (by simp only[List.getElem?_toArray,List.getElem?_cons_succ,List.getElem?_cons_zero];rfl) kR kR kR (by exact fun _ _ _ h=>h) (Or.inl ⟨rF,?_⟩) (by assumption) ?_
  ·(intro wS hSw;(try dsimp only at hSw);have hltF:=HLT.out;go_simp;first|done|rfl|omega|(simp;omega)|simp[hltF])
  try simp only[Act.put,List.setIfInBounds_toArray,List.set_cons_zero,List.set_cons_succ]
  refine Bm 3 ?_
  refine Kd 4 5 6 7 ?_
  refine Di 8 ?_
  refine Di 9 ?_
  refine Tb 10 11 ?_
  refine Kd 12 13 14 15 ?_
  refine Kd 16 17 18 19 ?_
  refine Di 20 ?_
  refine Tb 21 22 ?_
  refine wpAnyH_done kR ?_ _
  go_wp2
  go_ret
  exact⟨A6 HQF.out,CT hbt⟩):p:=h
theorem Ye{p:Prop}(h:p:=by
 refine Tf 0 1 2 3 4 5 ?_
 refine Tf 6 7 8 9 10 11 ?_
 refine Bm 12 ?_
 clear hJ
 refine AC 13 fun K hK=>?_
 go_simp
 (go_at_call 43;(with_reducible refine(HKP.out _ (bel HD0.out.bel (A4 _))).mono ?_);rintro e w3 ⟨p3',q3',rfl,hn3,hb3,hlo3⟩;have HB3:Hid (Below W.heap.size W w3):=bel (A4 _) hb3;have HD3:Hid (DW w _ _ _ w3):=HD0.out.next HB3.out;have HN3:Hid (AJ (T2 w T) w3 p3' L):=(Bp.free (B:=W.heap.size) hn3 hlo3 (HT2.out W hsz));clear hb3 hn3 hlo3;have f1:=kc HB3.out f1;have f3:=kc HB3.out f3;have i5:=kc HB3.out i5;have m0:=kc HB3.out m0;have m1:=kc HB3.out m1;have m2:=kc HB3.out m2;have m5:=kc HB3.out m5;clear d0 d1 z0 z1;have d0:w3.cell? ⟨w.heap.size+1+1+1,0,none⟩=some (.slice none 0 0):=HD3.out.d.cell (i:=0) dE;have d1:w3.cell? ⟨w.heap.size+1+1+1,1,none⟩=some (.int .i64 0):=HD3.out.d.cell (i:=1) dE;have z0:=HD3.out.d.frozen 0;have z1:=HD3.out.d.frozen 1;have sf1:=(fun u=>Av (b:=⟨w.heap.size+1+1+1,0,none⟩) (f1) iE u);have sf3:=(fun u=>Av (b:=⟨w.heap.size+1+1+1,0,none⟩) (f3) iE u);have si5:=(fun u=>Av (b:=⟨w.heap.size+1+1+1,0,none⟩) (i5) iE u);have sm0:=(fun u=>Av (b:=⟨w.heap.size+1+1+1,0,none⟩) (m0) iE u);have sm1:=(fun u=>Av (b:=⟨w.heap.size+1+1+1,0,none⟩) (m1) iE u);have sm2:=(fun u=>Av (b:=⟨w.heap.size+1+1+1,0,none⟩) (m2) iE u);have sm5:=(fun u=>Av (b:=⟨w.heap.size+1+1+1,0,none⟩) (m5) iE u))
 try(go_wp2_with fail)
 refine AB hK fun hJ=>?_
 clear hK K
 refine Bm 14 ?_
 clear hJ
 refine AC 15 fun K hK=>?_
 go_simp
 refine AB hK fun hJ=>?_
 clear hK K
 refine wpAnyH_done kR ?_ _
 go_wp2
 go_meet
 exact⟨⟨p3',q3',⟨L,0⟩⟩,rfl,(HD3.put 0 _).congr (fun j hj=>by obtain rfl|rfl:j=0\/j=1:=oM;all_goals rfl),FG HN3.out 0 _⟩):p:=h
theorem Wf{p:Prop}(h:p:=by
 have e95:(c==(95:Int))=false:=by rw[beq_eq_false_iff_ne];omega
 have e46:(c==(46:Int))=false:=by rw[beq_eq_false_iff_ne];omega
 have e47:(c==(47:Int))=false:=by rw[beq_eq_false_iff_ne];omega
 have e45:(c==(45:Int))=false:=by rw[beq_eq_false_iff_ne];omega
 have hp2:G4 c=false:=by unfold G4;simp[*]
 clear h hp NX NB
 go_wp2
 go_meet
 exact⟨by rw[hp2];rfl,rfl⟩):p:=h
theorem Yf{p:Prop}(h:p:=by
 have HQF:Hid (false=RES):=HRES.out
 go_wp2
 refine rG (fun v=>v.cell? ⟨w.heap.size,0,none⟩=some (.slice p0 n0 q0)/\v.cell? ⟨w.heap.size,1,none⟩=some (.slice (some ⟨lb,lo,none⟩) n1 q1)/\v.cell? ⟨w.heap.size,2,none⟩=some (.slice p2 n2 q2)/\v.cell? ⟨w.heap.size,3,none⟩=some v3/\v.cell? ⟨w.heap.size+1,1,none⟩=some (.int .i64 (kd:Int))/\v.cell? ⟨w.heap.size+1,2,none⟩=some (.int .i64 A)/\v.cell? ⟨w.heap.size+1,3,none⟩=some (.int .i64 B)/\v.cell? ⟨w.heap.size+1,4,none⟩=some (.int .i64 E)/\v.cell? ⟨w.heap.size+1,5,none⟩=some (.int .i64 n)/\v.cell? ⟨Z,0,none⟩=some (.int .i64 dk)/\v.cell? ⟨Z,1,none⟩=some (.int .i64 dp)) fun hJ=>?_
 refine Tf 0 1 2 3 4 5 ?_
 clear hJ
 refine AC 6 fun K hK=>?_
 go_simp
 (go_at_call 86;(with_reducible refine(HKA.out _ (bel HTD.out.bel (A4 _))).mono ?_);rintro e w3 ⟨rfl,hb9⟩;have HB3:Hid (Below Wd.heap.size Wd w3):=bel (A4 _) hb9;clear hb9;obtain⟨c0,c1,c2,c3,i1,i2,i3,i4,i5,d0,d1⟩:=HCD.out w3 HB3.out)
 try(go_wp2_with fail)
 refine AB hK fun hJ=>?_
 clear hK K
 refine Tb 7 8 ?_
 refine Kd 9 10 11 12 ?_
 refine Kd 13 14 15 16 ?_
 refine Tb 17 18 ?_
 refine Kd 19 20 21 22 ?_
 refine Kd 23 24 25 26 ?_
 refine Bm 27 ?_
 refine wpAnyH_done kR ?_ _
 go_wp2
 go_ret
 exact⟨A6 HQF.out,bel HTD.bel HB3.out⟩):p:=h
theorem Yg{p:Prop}(h:p:=by
 go_wp2
 refine rG (fun v=>v.cell? ⟨b,o,none⟩=some (.int .i64 io)/\v.cell? ⟨b,o+5,none⟩=some (.int .i64 N)/\v.cell? ⟨G,2,none⟩=some (.slice pS s.set.length cS)) fun hJ=>?_
 refine Tf 0 1 2 3 5 6 ?_
 refine Tf 7 8 9 10 11 12 ?_
 refine Tf 13 14 15 16 17 18 ?_
 refine Bm 19 ?_
 clear hJ
 refine wpAnyH_ready (rs:=[4,20]) kR sM ?_
 refine IZ 4 (fun K hK=>?_) ?_
 .go_simp
  refine AB hK fun hJ=>?_
  clear hK K
  clear hJ
  refine AC 20 fun K hK=>?_
  go_simp
  refine AB hK fun hJ=>?_
  clear hK K
  clear hJ
  refine AC 21 fun K hK=>?_
  refine Ia rF _ _ _ rF _ _ _ rF rF HR3.out ?_
  refine AB hK fun hJ=>?_
  clear hK K
  refine Tb 22 23 ?_
  clear hJ
  refine AC 24 fun K hK=>?_
  go_simp
  refine AB hK fun hJ=>?_
  clear hK K
  refine wpAnyH_done kR ?_ _
  go_wp2
  go_meet
  exact⟨_,_,HP.out⟩
 refine IZ 20 (fun K hK=>?_) AllReadyH.nil
 go_simp
 refine AB hK fun hJ=>?_
 clear hK K
 clear hJ
 refine AC 4 fun K hK=>?_
 go_simp
 refine AB hK fun hJ=>?_
 clear hK K
 clear hJ
 refine AC 21 fun K hK=>?_
 refine Ia rF _ _ _ rF _ _ _ rF rF HR3.out ?_
 refine AB hK fun hJ=>?_
 clear hK K
 refine Tb 22 23 ?_
 clear hJ
 refine AC 24 fun K hK=>?_
 go_simp
 refine AB hK fun hJ=>?_
 clear hK K
 refine wpAnyH_done kR ?_ _
 go_wp2
 go_meet
 exact⟨_,_,HP.out⟩):p:=h
theorem Yh{p:Prop}(h:p:=by
 go_wp2_with(go_at_call 20;(with_reducible refine(KDO.out _ _ H32.out).mono ?_);rintro e w6 ⟨pr',qr',p5',q5',p6',q6',X',S',O',rfl,hc1,hc2,hc3,hol,hdid,hb6⟩;have HPL6:Hid (∃f' s',Il c G P (Bi c l) (j+1) 0 f' s' X' S' O'):=HDID.out X' S' O' HNW.out hdid;have H36:Hid (L3 T w (.slice p0 n0 q0) (.slice p1 n1 q1) (.slice p2 n2 q2) (.slice p3 n3 q3) (.slice ps n2 qs) FB pr' p5' p6' n1 qr' n2 q5' (2*n0) q6' (.slice pg gl qg) (.slice pp pl qp) ct' X' S' O' (JD w6 FB (.slice p0 n0 q0) (.slice p1 n1 q1) (.slice p2 n2 q2) (.slice p3 n3 q3) (.slice pr' n1 qr') (.slice p5' n2 q5') (.slice p6' (2*n0) q6') (.slice pg gl qg) (.slice pp pl qp) (.int .i64 ct'))):=H32.out.put hb6 hc1 hc2 hc3 (by rw[hol,H32.out.ol]);have h66:=H32.out.next hb6;clear g0 g1 g2 g3 g4 g5 g6 g7 g8 g9;obtain⟨g0,g1,g2,g3,g4,g5,g6,g7,g8,g9⟩:=h66.cells;have v0:=h66.frz 0;have v1:=h66.frz 1;have v2:=h66.frz 2;have v3:=h66.frz 3;have v4:=h66.frz 4;have v5:=h66.frz 5;have v6:=h66.frz 6;have v7:=h66.frz 7;have v8:=h66.frz 8;have v9:=h66.frz 9;clear h66 hc1 hc2 hc3 hol hdid hb6)
 go_roundw
 case rel=>
  obtain⟨f',s',hpl6⟩:=HPL6.out
  exact⟨j+1,0,oM,oM,gN,rfl,f',s',X',S',O',pr',qr',p5',q5',p6',q6',ct',hpl6,H36.out,HCE.out⟩
 case measure=>first|(simp[intOf];omega)|omega):p:=h
theorem PZ{p:Prop}(h:p:=by
 go_wp2_with(go_at_call 91;refine(C8 _ oM oM _).mono ?_;rintro e w' ⟨rfl,o,rfl⟩)
 go_ret
 exact⟨rfl,gG⟩):p:=h
theorem X4{p:Prop}(h:p:=by
 go_enter func15,ntmps15
 go_wp2_with(go_at_call 27;(with_reducible refine(HSG.out _ (A0 _ _)).mono ?_);rintro e w1 ⟨rfl,hb1⟩;have HX1:Hid (CX w (.slice p0 n0 q0) (.slice p1 n1 q1) (.slice p2 n2 q2) (.slice p3 n3 q3) w1):=(CX.start w _ _ _ _).next hb1;obtain⟨b1,b2,c0,c1,c2,c3⟩:=HX1.out;clear hb1)
 all_goals go_ret2
 all_goals exact⟨rfl,HX1.bel⟩):p:=h
theorem Xw{p:Prop}(h:p:=by
 go_simp
 refine AB hK fun hJ=>?_
 clear hK K
 clear hJ
 refine AC 10 fun K hK=>?_
 refine E0 _ _ _ rF _ _ _ rF rF HRUN.out ?_ _ rF
 refine AB hK fun hJ=>?_
 clear hK K
 refine Bm 11 ?_
 clear hJ
 refine AC 12 fun K hK=>?_
 go_simp
 refine AB hK fun hJ=>?_
 clear hK K
 refine wpAnyH_done kR ?_ _
 go_wp2
 go_roundw
 case rel=>exact⟨j+1,_,_,X++[(⟨pf,qf,H9⟩:Cl)],oM,gN,by show NW _ _ _ _ _ _ _ _ _;rw[List.length_append,HNX.out];exact HNW3.out,by show _=_;rw[List.map_append];exact HMN.out H9 rfl⟩
 case measure=>first|(simp[intOf];omega)|omega):p:=h
theorem Xx{p:Prop}(h:p:=by
 go_simp
 refine AB hK fun hJ=>?_
 clear hK K
 clear hJ
 refine AC 10 fun K hK=>?_
 refine E0 _ _ _ rF _ _ _ rF rF HRUN.out ?_ _ rF
 refine AB hK fun hJ=>?_
 clear hK K
 refine Bm 11 ?_
 clear hJ
 refine AC 12 fun K hK=>?_
 go_simp
 refine AB hK fun hJ=>?_
 clear hK K
 refine wpAnyH_done kR ?_ _
 go_wp2
 go_roundw
 case rel=>exact⟨j+1,_,_,Y++[(⟨pf,qf,H9⟩:Cl)],oM,gN,HL3.out,HUN3.out,by show _=_;rw[List.map_append];exact HMN.out H9 rF⟩
 case measure=>first|(simp[intOf];omega)|omega):p:=h
theorem V7{p:Prop}(h:p:=by
 go_enter func118,ntmps118
 go_wp2_with(go_at_call 122;refine(HK.out _).mono ?_;rintro e w1 ⟨rfl,rfl⟩)
 go_ret
 exact⟨A6 (HP.out _ sO),rfl⟩):p:=h
theorem Wg{p:Prop}(h:p:=by
 have e47:(c==(47:Int))=false:=by rw[beq_eq_false_iff_ne];omega
 have e45:(c==(45:Int))=false:=by rw[beq_eq_false_iff_ne];omega
 have hp2:G4 c=true:=by unfold G4;simp[*]
 clear h hp NX NB
 go_wp2
 go_meet
 exact⟨by rw[hp2];rfl,rfl⟩):p:=h
theorem N5{p:Prop}(h:p:=by
 go_enter func65,ntmps65
 go_wp2
 go_ret
 exact⟨rfl,rfl⟩):p:=h
theorem UP{p:Prop}(h:p:=by
 show DM c.sign (A7 c.regs (R:Int))=_
 unfold A7
 rw[if_pos hin,Int.toNat_natCast,gB hR]
 rfl):p:=h
theorem Yi{p:Prop}(h:p:=by
 go_enter func45,ntmps45
 go_wp2_with(first
  |(go_at_call 72;refine HK1.mono ?_;rintro e w1 ⟨rfl,hb1⟩)
  |(go_at_call 74;refine(HK2.out _ (HR.below hb1)).mono ?_;rintro e w2 ⟨D,rfl,hm,hf,hb2⟩;have HM1:Hid (Em w2 w1.heap.size n D):=hm;have hs:Maps.size D=n:=(by rw[hf.no HW.out,HN.out]);have hs2:¬ ((Maps.size D:Int)<(n:Int)):=oM;have HS:Hid (¬ ((Maps.size D:Int)<(n:Int))):=hs2;clear hm hf hs)
  |(have _t:=HM1;at_len;refine wpList_len_own _ rfl _ 134 rfl 9 3 underlying134 _ w1.heap.size n D rfl HM1.out ?_;clear HM1)
  |(go_at_call 75;refine(HK3.out _ (HR.below (bel hb1 hb2))).mono ?_;rintro e w3 ⟨rfl,hb3⟩))
 all_goals(go_ret;exact⟨rfl,bel (bel hb1 hb2) hb3⟩)):p:=h
theorem X5{p:Prop}(h:p:=by
 go_enter func78,ntmps78
 go_wp2_with(go_at_call 102;refine(HK.out _).mono ?_;rintro e w1 ⟨rfl,rfl⟩)
 refine bodyPost_ret (by simp[results,results78,go_sem, *];try rfl) rfl ?_
 exact⟨by rw[HT.out];rfl,gG⟩):p:=h
theorem Wh{p:Prop}(h:p:=by
 rw[hc];clear hc
 go_enter func123,ntmps123
 go_wp2_with(go_at_call 125;refine(OZ _ h0 h1 _).mono ?_;rintro e w' ⟨rfl,rfl⟩)
 go_ret
 exact⟨rfl,rfl⟩):p:=h
theorem Yj{p:Prop}(h:p:=by
 go_enter func29,ntmps29
 go_wp2_with(first
  |(go_at_call 28;refine(HT.out _).mono ?_;rintro e w1 ⟨rfl,hb1⟩;have f0:w1.cell? ⟨w.heap.size,0,none⟩=some (.int .i64 K):=kc hb1 sG;have f3:w1.cell? ⟨w.heap.size,3,none⟩=some (.int .u32 B):=kc hb1 sG;have f4:w1.cell? ⟨w.heap.size,4,none⟩=some (.int .i64 I):=kc hb1 sG;have HB1:Hid _:=hb1;clear hb1)
  |(go_at_call 58;refine(HK.out _).mono ?_;rintro e w2 ⟨rfl,hb2⟩;have HB2:Hid _:=hb2;clear hb2))
 go_ret
 first
  |refine⟨A6 ?_,bel (A0 _ _) (bel HB1.out HB2.out)⟩
  |refine⟨A6 ?_,bel (A0 _ _) HB1.out⟩
 first
  |(simp[*];done)
  |(simp[*];omega)
  |(simp[*];intro h;omega)):p:=h
theorem Yk{p:Prop}(h:p:=by
 go_enter func29,ntmps29
 go_wp2_with(first
  |(go_at_call 28;refine(HT.out _).mono ?_;rintro e w1 ⟨rfl,hb1⟩;have f0:w1.cell? ⟨w.heap.size,0,none⟩=some (.int .i64 2):=kc hb1 sG;have f3:w1.cell? ⟨w.heap.size,3,none⟩=some (.int .u32 B):=kc hb1 sG;have f4:w1.cell? ⟨w.heap.size,4,none⟩=some (.int .i64 I):=kc hb1 sG;have HB1:Hid _:=hb1;clear hb1)
  |(go_at_call 58;refine(HK.out _).mono ?_;rintro e w2 ⟨rfl,hb2⟩;have HB2:Hid _:=hb2;clear hb2))
 go_ret
 first
  |refine⟨A6 ?_,bel (A0 _ _) (bel HB1.out HB2.out)⟩
  |refine⟨A6 ?_,bel (A0 _ _) HB1.out⟩
 first
  |(simp[*];done)
  |(simp[*];omega)
  |(simp[*];intro h;omega)):p:=h
theorem Yl{p:Prop}(h:p:=by
 obtain rfl:=hps
 go_wp2
 refine rG (fun v=>v.cell? ⟨w.heap.size,2,none⟩=some (.slice (some ⟨lb9,lo9,none⟩) n2 q2)/\v.cell? ⟨w.heap.size+1,5,none⟩=some (.int .i64 (k:Int))/\v.cell? ⟨lb9,lo9+k*5,none⟩=some (.int .i64 sk)/\v.cell? ⟨lb9,lo9+k*5+1,none⟩=some (.int .i64 sp)/\v.cell? ⟨w5.heap.size,0,none⟩=some (.int .i64 sk)/\v.cell? ⟨w5.heap.size,1,none⟩=some (.int .i64 sp)) fun hJ=>?_
 refine Tf 0 1 2 3 4 5 ?_
 refine Tf 6 7 8 9 10 11 ?_
 refine Tf 12 13 14 15 16 17 ?_
 refine Tc 18 19 20 ?_
 refine Tb 21 22 ?_
 refine wpAnyH_done kR ?_ _
 go_wp2
 go_ret
 refine⟨A6 ?_,CT hbt⟩
 rw[<-HQ9.out]
 simp):p:=h
theorem Ym{p:Prop}(h:p:=by
 rw[hv];clear hv ra rb
 go_enter func70,ntmps70
 go_wp2_with(first
  |(go_at_call 91;refine(C8 _ oM oM _).mono ?_;rintro e w' ⟨rfl,o,rfl⟩)
  |(go_at_call 92;refine(CH _ _ _ _ _ _ _ _ _ _ _).mono ?_;rintro e w' ⟨rfl,o,p,rfl⟩)
  |(go_at_call 93;refine(Df _ _).mono ?_;rintro e w' ⟨rfl,rfl⟩)
  |(go_at_call 94;refine(Cq _ _).mono ?_;rintro e w' ⟨rfl,rfl⟩)
  |(go_at_call 69;refine(Ba _ _ oM oM _ oM oM _).mono ?_;rintro e w' ⟨rfl,rfl⟩)
  |(go_at_call 97;refine(KV _ _ _ _ _ _ _ _ _ _ oM oM oM oM oM oM oM _).mono ?_;rintro e w' ⟨rfl,hbS⟩))
 go_ret
 exact⟨rfl,H5 gG hbS⟩):p:=h
theorem Wi{p:Prop}(h:p:=by
 go_enter func42,ntmps42
 go_wp2_with(go_at_call 39;(with_reducible refine(KF.out _ _).mono ?_);rintro e w1 ⟨rfl,rfl⟩)
 go_ret
 exact⟨rfl,rfl⟩):p:=h
theorem Yn{p:Prop}(h:p:=by
 go_enter func114,ntmps114
 go_wp2_with(first
  |(go_at_call 91;refine(C8 _ oM oM _).mono ?_;rintro e w' ⟨rfl,o,rfl⟩)
  |(go_at_call 92;refine(CH _ _ _ _ _ _ _ _ _ _ _).mono ?_;rintro e w' ⟨rfl,o,p,rfl⟩)
  |(go_at_call 93;refine(Df _ _).mono ?_;rintro e w' ⟨rfl,rfl⟩)
  |(go_at_call 94;refine(Cq _ _).mono ?_;rintro e w' ⟨rfl,rfl⟩)
  |(go_at_call 69;refine(Ba _ _ oM oM _ oM oM _).mono ?_;rintro e w' ⟨rfl,rfl⟩)
  |(go_at_call 120;refine(MJ _ _ _ _ _ oM oM oM oM _).mono ?_;rintro e w' ⟨rfl,o,p,rfl⟩))
 go_ret
 exact⟨FP oM rfl,gG⟩):p:=h
theorem Yo{p:Prop}(h:p:=by
 clear hJ
 refine AC 18 fun K hK=>?_
 go_simp
 refine AB hK fun hJ=>?_
 clear hK K
 refine Tc 19 20 21 ?_
 refine wpAnyH_done kR ?_ _
 go_wp2
 go_meet
 first
  |(obtain⟨NB,p5',q5',pu',nu',qu',S'',h1,h2,h3,h4⟩:=QA (c:=c) (E:=E) HB6.out HK6.out.1 HK6.out.2.1 HK6.out.2.2.1 HK6.out.2.2.2;with_reducible exact⟨NB,p5',q5',pu',nu',qu',S'',h1,h2,h3,rfl,h4⟩)
  |(obtain⟨NB,p5',q5',pu',nu',qu',S'',h1,h2,h3,h4⟩:=Vq (c:=c) (E:=E) HNB.out HB6.out HK6.1 HK6.2.1 HK6.2.2.1 HK6.2.2.2 sM;exact⟨NB,p5',q5',pu',nu',qu',S'',h1,h2,h3,rfl,h4⟩)):p:=h
theorem PP{p:Prop}(h:p:=by
 exact⟨rfl,bel (A0 _ _) (A0 _ _)⟩):p:=h
theorem Yp{p:Prop}(h:p:=by
 clear fq fh
 rcases cases with⟨c1,c2,rfl⟩|⟨c1,c2,rfl⟩|⟨rfl,c2,rfl⟩|⟨c1,c2,c3,rfl⟩|⟨c1,c2,c3,rfl⟩
 all_goals(
 go_enter func69,ntmps69
 go_wp2_with(first
  |(go_at_call 67;refine(E5 _ h0 h1 _).mono ?_;rintro e w' ⟨rfl,rfl⟩)
  |(go_at_call 95;refine(GD _ h0 h1 _ oM oM _).mono ?_;rintro e w' ⟨rfl,rfl⟩)
  |(go_at_call 96;refine(F3 _ _).mono ?_;rintro e w' ⟨rfl,rfl⟩)
  |(go_at_call 93;refine(Df _ _).mono ?_;rintro e w' ⟨rfl,rfl⟩))
 all_goals(go_ret;exact⟨FO oM,rfl⟩))):p:=h
theorem Yq{p:Prop}(h:p:=by
 clear fq fh
 rcases cases with⟨c1,c2,rfl⟩|⟨c1,c2,rfl⟩|⟨c1,c2,rfl⟩|⟨c1,c2,c3,rfl⟩|⟨c1,c2,c3,rfl⟩
 all_goals(
 go_enter func69,ntmps69
 go_wp2_with(first
  |(go_at_call 67;refine(E5 _ h0 h1 _).mono ?_;rintro e w' ⟨rfl,rfl⟩)
  |(go_at_call 95;refine(GD _ h0 h1 _ oM oM _).mono ?_;rintro e w' ⟨rfl,rfl⟩)
  |(go_at_call 96;refine(F3 _ _).mono ?_;rintro e w' ⟨rfl,rfl⟩)
  |(go_at_call 93;refine(Df _ _).mono ?_;rintro e w' ⟨rfl,rfl⟩))
 all_goals(go_ret;exact⟨FO oM,rfl⟩))):p:=h
theorem Yr{p:Prop}(h:p:=by
 go_simp
 refine AB hK fun hJ=>?_
 clear hK K
 clear hJ
 refine AC 10 fun K hK=>?_
 refine Ia rF _ _ _ rF _ _ _ rF rF HR3.out ?_
 refine AB hK fun hJ=>?_
 clear hK K
 refine Tb 11 12 ?_
 clear hJ
 refine AC 13 fun K hK=>?_
 go_simp
 refine AB hK fun hJ=>?_
 clear hK K
 refine wpAnyH_done kR ?_ _
 go_wp2
 first|go_end0|(simp only[Exit.inBlock,Exit.then];refine bodyPost_ret (results_none rfl _ _ _) rfl ?_)|refine bodyPost_ret (results_none rfl _ _ _) rfl ?_
 exact⟨rfl,HF.1,_,_,HF.2⟩):p:=h
theorem Ys{p:Prop}(h:p:=by
 go_simp
 refine AB hK fun hJ=>?_
 clear hK K
 clear hJ
 refine AC 8 fun K hK=>?_
 refine E0 _ _ _ rF _ _ _ rF rF HRUN.out ?_ _ rF
 refine AB hK fun hJ=>?_
 clear hK K
 refine Bm 9 ?_
 clear hJ
 refine AC 10 fun K hK=>?_
 go_simp
 refine AB hK fun hJ=>?_
 clear hK K
 refine wpAnyH_done kR ?_ _
 go_wp2
 go_roundw
 case rel=>exact⟨j+1,_,_,Y++[xs],oM,gN,HL3.out,HUN3.out,by show _=_;rw[List.map_append];exact HMN.out xs.h rF⟩
 case measure=>first|(simp[intOf];omega)|omega):p:=h
theorem X6{p:Prop}(h:p:=by
 try(go_wp2_with fail)
 refine AB hK fun hJ=>?_
 clear hK K
 refine Bm 7 ?_
 refine wpAnyH_done kR ?_ _
 go_wp2
 go_ret
 exact⟨A6 sM,(HC.out w3 HB3).bel⟩):p:=h
theorem Yt{p:Prop}(h:p:=by
 clear hJ
 refine AC 9 fun K hK=>?_
 go_simp
 refine AB hK fun hJ=>?_
 clear hK K
 refine wpAnyH_done kR ?_ _
 go_wp2
 go_meet
 first
  |exact⟨_,_,rfl,(WN (T:=T) HSB2.out HH.2.2.2.2.2.2.2 _ _ _ _ _ _ _ _ _).1.next (A4 _),(WN HSB2.out HH.2.2.2.2.2.2.2 _ _ _ _ _ _ _ _ _).2.below (A4 _)⟩
  |exact⟨_,_,rfl,(WO (T:=T) HSB2.out HH.2.2.2.2.2.2.2 _ _ _ _ _ _ _ _ _).1.next (A4 _),(WO HSB2.out HH.2.2.2.2.2.2.2 _ _ _ _ _ _ _ _ _).2.below (A4 _)⟩):p:=h
theorem UQ{p:Prop}(h:p:=by
 go_enter func95,ntmps95
 go_wp2
 go_ret
 exact⟨rfl,rfl⟩):p:=h
theorem X7{p:Prop}(h:p:=by
 refine⟨fun j hj=>?_,hv.below hb0⟩
 have hj':j<4:=hj
 obtain rfl|rfl|rfl|rfl:j=0\/j=1\/j=2\/j=3:=oM
 .exact x0
 .exact x1
 .exact x2
 .exact x3):p:=h
theorem Yu{p:Prop}(h:p:=by
 clear ea eb
 go_enter func116,ntmps116
 go_wp2_with(first
  |(go_at_call 91;refine(C8 _ oM oM _).mono ?_;rintro e w' ⟨rfl,o,rfl⟩)
  |(go_at_call 92;refine(CH _ _ _ _ _ _ _ _ _ _ _).mono ?_;rintro e w' ⟨rfl,o,p,rfl⟩)
  |(go_at_call 98;refine(Gf _ oM oM _).mono ?_;rintro e w' ⟨rfl,rfl⟩)
  |(go_at_call 121;refine(EL _ oM oM _).mono ?_;rintro e w' ⟨rfl,rfl⟩))
 go_ret
 exact⟨rfl,gG⟩):p:=h
theorem Yv{p:Prop}(h:p:=by
 go_enter func22,ntmps22
 go_wp2_with(first
  |(go_at_call 45;refine HK1.mono ?_;rintro e w1 ⟨rfl,hb1⟩;obtain⟨d1,d2,d3⟩:=HC.out w1 hb1)
  |(go_at_call 46;refine(HK2.out _ (HC0.below hb1)).mono ?_;rintro e w2 ⟨rfl,hb2⟩;have HB2:=bel hb1 hb2)
  |(go_at_call 47;refine(HK3.out _ (HC0.below HB2)).mono ?_;rintro e w3 ⟨rfl,hb3⟩;have HB3:=bel HB2 hb3))
 all_goals(go_ret;exact⟨rfl,HB3⟩)):p:=h
theorem Yw{p:Prop}(h:p:=by
 refine Tf 0 1 2 3 4 5 ?_
 clear hJ
 refine AC 6 fun K hK=>?_
 go_simp
 (go_at_call 102;refine(HK.out _).mono ?_;rintro e w1 ⟨rfl,rfl⟩)
 try(go_wp2_with fail)
 refine AB hK fun hJ=>?_
 clear hK K
 refine Bm 7 ?_
 refine Kd 8 9 10 11 ?_
 refine Kd 12 13 14 15 ?_
 refine Di 16 ?_
 refine Di 17 ?_
 refine Tb 18 19 ?_
 refine wpAnyH_done kR ?_ _
 go_wp2
 go_ret
 exact⟨rfl,bel (A0 _ _) (A4 _)⟩):p:=h
theorem Xy{p:Prop}(h:p:=by
 intro x hx
 obtain⟨k,rfl,hkl⟩:=Cp hx
 obtain⟨lb,lo,hp,hc⟩:=Bj.at (p:=p1) (n:=c.regs.length) (c:=q1) hv.regs hkl
 rw[E3 rfl hkl]
 exact⟨k,lb,lo,rfl,hkl,hp,hc.at 0 rfl,hc.at 1 rfl⟩):p:=h
theorem Yx{p:Prop}(h:p:=by
 clear h h34 h36 hno
 go_wp2_with(go_at_call 84;refine HK.mono ?_;rintro e w1 ⟨rfl,hb1,hoff,vs',vo',hws⟩;have HP:Hid (PS E G C n gi w.heap.size L0 w T vs' vo' w1):=(by refine⟨HB1.trans hb1,by rw[HT1.out];exact hws,?_,oM,oM⟩;rw[gC (hoff w.heap.size (by have:=HVS.out;omega) oM oM)];exact HVB.out);clear hb1 hoff hws)
 go_meet
 exact⟨_,_,HP.out⟩):p:=h
theorem Yy{p:Prop}(h:p:=by
 rcases h with rfl|⟨b,o,e,hn,h⟩
 .exact .inl rfl
 .by_cases h0:l.length=0
  .exact .inl (List.length_eq_zero_iff.1 h0)
  .have hbl:b<V.heap.size:=A3 (h 0 oM)
   refine .inr ⟨b,o,e,fun e2=>?_,fun j hj=>?_⟩
   .have e3:g=b:=Option.some.inj e2
    rcases hg with h1|h1
    .exact hn (by rw[h1,e3])
    .omega
   .rw[gC (hk b hbl hn)]
    exact h j hj):p:=h
theorem Yz{p:Prop}(h:p:=by
 have HLO:Hid (∀b o s,pp=some ⟨b,o,s⟩->w.heap.size<=b):=fun b o s e=>by
  have h9:=Dq how.out b o s e
  have h8:(w.alloc (.cells #[.string nm,.int .i64 K,.int .i64 (len:Int)] 73)).heap.size=w.heap.size+1:=sM
  omega
 have HJ:Hid (j=len):=hjn
 clear how hlt hjn
 go_wp2
 go_ret
 exact⟨pp,⟨qq,by rw[<-HJ.out];rfl⟩,HF.out,bel (A0 _ _) HB.out,HLO.out⟩):p:=h
theorem Xz{p:Prop}(h:p:=by
 go_enter func22,ntmps22
 go_wp2_with(go_at_call 45;refine HK1.mono ?_;rintro e w1 ⟨rfl,hb1⟩;obtain⟨d1,d2,d3⟩:=HC.out w1 hb1)
 all_goals(go_ret;exact⟨rfl,hb1⟩)):p:=h
theorem XD{p:Prop}(h:p:=by
 have:op=3\/op=4\/op=5\/op=6\/op=7\/op=8\/op=9\/op=10\/op=11\/op=12\/op=13\/op=14\/op=15:=oM
 rcases this with rfl|rfl|rfl|rfl|rfl|rfl|rfl|rfl|rfl|rfl|rfl|rfl|rfl<;>decide):p:=h
theorem YA{p:Prop}(h:p:=by
 have wi:IntKind.i64.wrap ((j:Int)+1)=((j+1:Nat):Int):=by rw[IntKind.wrap_i64];omega
 clear hrun hvs7 hb7 hvx hvx' hlt2 hme hml how hPA hbx hbw hlY
 go_upto_region 13 with fail
 go_wp2_with(at_builtin;refine AH rF _ _ _ rF _ _ _ rF rF HRUN.out ?_)
 go_roundw
 case rel=>exact⟨HB7'.out,j+1,_,_,_,oM,gN,rfl,HV7.out,HM7.out⟩
 case measure=>simp[intOf];omega):p:=h
theorem YB{p:Prop}(h:p:=by
 rw[hix]at y t2 t3 t4
 clear hap hb8 ho8 KA KC hc hcell hz hix hb how hi
 go_wp2_with(first
  |(go_at_call 35;(with_reducible refine(HKC.out _).mono ?_);rintro e w7 ⟨rfl,rfl⟩)
  |(at_builtin;refine AH rF _ _ _ rF _ _ _ rF rF HAP.out ?_))
 go_roundw
 case rel=>exact⟨HB.trans HB8.out,j+1,_,_,oM,gN,rfl,HNX.out⟩
 case measure=>simp[intOf];omega):p:=h
theorem XE{p:Prop}(h:p:=by
 go_wp2_with fail
 refine bodyPost_ret (by simp[results,results13,go_sem, *];try rfl) rfl ?_
 exact⟨by rw[(Prod.mk.inj HVV.out).1,(Prod.mk.inj HVV.out).2],HB.out⟩):p:=h
theorem V8{p:Prop}(h:p:=by
 by_cases e:i=j
 .subst e;exact hq
 .exact hp.out i h oM):p:=h
theorem YC{p:Prop}(h:p:=by
 refine AB hK fun hJ=>?_
 clear hK K
 refine Tb 5 6 ?_
 clear hJ
 refine AC 7 fun K hK=>?_
 go_simp
 refine AB hK fun hJ=>?_
 clear hK K
 refine wpAnyH_done kR ?_ _
 go_wp2
 go_meet
 exact⟨(H31.next HB3.out).cost _,(HX1.of_block (HB3.block _ HX1.lt)).setOther (by show wr.heap.size≠FB;omega) _⟩):p:=h
theorem YD{p:Prop}(h:p:=by
 clear h
 go_enter func59,ntmps59
 go_wp2_with(first
  |(go_at_call 62;refine(HROW.out _).mono ?_;rintro e w1 ⟨rfl,rfl⟩)
  |(go_at_call 58;refine(HCAN.out _).mono ?_;rintro e w2 ⟨rfl,hb2⟩;have HB2:Hid _:=hb2;clear hb2))
 go_ret
 exact⟨rfl,bel (bel (A0 _ _) (A0 _ _)) HB2.out⟩):p:=h
theorem YE{p:Prop}(h:p:=by
 subst hj'
 clear hcx hmx hsl hbx hun hbW HR
 go_wp2_with(go_at_call 6;(with_reducible refine(KW.out _).mono ?_);rintro e9 wz ⟨rfl,hbz⟩;have HBz:=B8 (bel HEND.out hbz);clear hbz)
 refine bodyPost_ret (by simp[results,results3,go_sem, *];try rfl) rfl ?_
 exact⟨by first|rfl|simp,HBz.out⟩):p:=h
theorem X8{p:Prop}(h:p:=by
 simp only[Nat.pow_zero,Nat.one_mul,Nat.mul_one]at *
 have:2*((j+1)*d)=(j+(j+1))*d+d:=by grind
 omega):p:=h
theorem XF{p:Prop}(h:p:=by
 have hj':j<10:=hj
 obtain rfl|rfl|rfl|rfl|rfl|rfl|rfl|rfl|rfl|rfl:j=0\/j=1\/j=2\/j=3\/j=4\/j=5\/j=6\/j=7\/j=8\/j=9:=oM
 all_goals rfl):p:=h
theorem XG{p:Prop}(h:p:=by
 have h1:=Np hT hx
 have h2:(A7 c.regs x).kind=3:=by simpa[Fb]using hk
 unfold Ak at h1
 rw[if_neg oM,if_pos h2]at h1
 exact h1):p:=h
theorem YF{p:Prop}(h:p:=by
 rcases hc.nums x hx with e|⟨b,o,e,hn,h1⟩
 .exact .inl e
 .by_cases h0:x.h.pats=[]
  .exact .inl h0
  .refine .inr ⟨b,o,e,hn,fun j hj=>?_⟩
   have hne:b≠FB:=fun e2=>hloc x hx b o none e h0 (.inr (.inr e2))
   rw[gC (ho b hne)]
   exact h1 j hj):p:=h
theorem Wj{p:Prop}(h:p:=by
 go_enter func42,ntmps42
 go_wp2
 go_ret
 exact⟨rfl,rfl⟩):p:=h
theorem YG{p:Prop}(h:p:=by
 go_enter func24,ntmps24
 go_wp2_with(go_at_call 53;(with_reducible refine(KE.out _).mono ?_);rintro r9 w8 ⟨rfl,hw8⟩;have hw8:=hw8.symm;subst hw8)
 refine bodyPost_ret (by simp[results,results24,go_sem, *];try rfl) rfl ?_
 exact⟨rfl,HB0.out⟩):p:=h
theorem YH{p:Prop}(h:p:=by
 rw[if_pos c2]
 go_enter func97,ntmps97
 go_wp2_with(first
  |(go_at_call 94;refine(Cq _ _).mono ?_;rintro e w' ⟨rfl,rfl⟩)
  |(go_at_call 69;refine(Ba _ _ oM oM _ oM oM _).mono ?_;rintro e w' ⟨rfl,rfl⟩))
 go_ret
 exact⟨rfl,gG⟩):p:=h
theorem X9{p:Prop}(h:p:=by
 cases s1<;>cases s2<;>simp only[Fj,if_true,if_false,Bool.false_eq_true]<;>omega):p:=h
theorem XH{p:Prop}(h:p:=by
 rw[f1,f2,f3,f4];unfold AK;clear f1 f2 f3 f4
 go_enter func91,ntmps91
 go_wp2
 go_returns
 exact⟨rfl,_,rfl⟩):p:=h
theorem Xa{p:Prop}(h:p:=by
 have HQ:Hid ((n==0)=RES):=HRT.out
 go_wp2
 go_ret
 exact⟨A6 HQ.out,hbt⟩):p:=h
theorem XI{p:Prop}(h:p:=by
 go_ret
 refine⟨A6 ?_,bel (bel (A0 _ _) (A0 _ _)) (bel HB1.out (A0 _ _))⟩
 simp[Fb, *]):p:=h
theorem YI{p:Prop}(h:p:=by
 refine Tf 0 1 2 3 4 5 ?_
 refine Tf 6 7 8 9 10 11 ?_
 refine Tf 12 13 14 15 16 17 ?_
 refine Tc 18 19 20 ?_
 refine Tb 21 22 ?_
 refine wpAnyH_done kR ?_ _
 go_wp2
 go_ret
 refine⟨A6 ?_,CT hbt⟩
 rw[<-HQ9.out]
 simp[hps]):p:=h
theorem YJ{p:Prop}(h:p:=by
 refine Tf 0 1 2 3 4 5 ?_
 refine Tf 6 7 8 9 10 11 ?_
 refine Tf 12 13 14 15 16 17 ?_
 refine Tc 18 19 20 ?_
 refine Tb 21 22 ?_
 refine wpAnyH_done kR ?_ _
 go_wp2
 go_ret
 refine⟨A6 ?_,CT hbt⟩
 rw[<-HQ9.out]
 simp[hks]):p:=h
theorem YK{p:Prop}(h:p:=by
 rw[gC (gE (by show w.heap.size≠G;omega)),hfar ⟨w.heap.size,0,none⟩ (by have:=HVS.out;show w.heap.size<_;omega) (fun e=>by have:=(HS.opn.lt _ e).2;simp at this)]
 exact HVB.out):p:=h
theorem Xb{p:Prop}(h:p:=by
 unfold WU
 obtain rfl|rfl|rfl|rfl:j=0\/j=1\/j=2\/j=3:=oM
 all_goals rfl):p:=h
theorem YL{p:Prop}(h:p:=by
 refine⟨g,cap,w3,hr,(hb0.mono hB).grown hgrow oM (fun q e=>(h0.lt q e).1),hown,fun b hb hne=>?_,?_⟩
 .rw[hgrow.block b oM (Ne.symm hne)]
  exact hb0.block b hb
 .rcases hat with e|e
  .exact .inl e
  .exact .inr oM):p:=h
theorem YM{p:Prop}(h:p:=by
 try(go_wp2_with fail)
 refine AB hK fun hJ=>?_
 clear hK K
 refine Bm 8 ?_
 refine wpAnyH_done kR ?_ _
 go_wp2
 go_roundw
 case rel=>exact⟨HCX.next HB2.out,j+1,oM,gN,NX.out fT⟩
 case measure=>simp[intOf];omega):p:=h
theorem YN{p:Prop}(h:p:=by
 rcases h.nums x hx with e|⟨b,o,e,-,h1⟩
 .exact .inl e
 .by_cases h0:x.h.pats=[]
  .exact .inl h0
  .exact .inr ⟨b,o,e,hl x hx b o none e h0,A3 (h1 0 (List.length_pos_iff.2 h0)),h1⟩):p:=h
theorem YO{p:Prop}(h:p:=by
 show Bp _ _ _
 refine Ua (B:=(w.alloc (.cells #[.string nm,.int .i64 K,.int .i64 (len:Int)] 73)).heap.size) (q:=qq) ?_
 rw[IU]
 have how':=how.out
 rw[hjn]at how'
 exact how'):p:=h
theorem Xc{p:Prop}(h:p:=by
 go_wp2
 go_ret
 exact⟨A6 (by simp[h];try omega),rfl⟩):p:=h
theorem YP{p:Prop}(h:p:=by
 have:j=n:=oM
 subst this
 have HF:Hid (BV (l.take j)=BV l):=by show _=_;rw[List.take_of_length_le (by rw[HN.out];exact gF _)]
 go_wp2
 go_ret
 exact⟨E4 HF.out,hb⟩):p:=h
theorem YQ{p:Prop}(h:p:=by
 have HE0:=B8 hE0
 clear hE0
 go_wp2_with fail
 go_roundw
 case rel=>exact⟨j+1,oM,oM,gN,hs2,SN,pn,qn,HCX.1,HCX.2,HSL.out,HRX.out,HUV.out⟩
 case measure=>simp[intOf];omega):p:=h
theorem YR{p:Prop}(h:p:=by
 try(go_wp2_with fail)
 refine AB hK fun hJ=>?_
 clear hK K
 refine Bm 8 ?_
 refine wpAnyH_done kR ?_ _
 go_wp2
 go_ret2
 exact⟨FQ (NB.out fT),bel HCX.bel HB2.out⟩):p:=h
theorem YS{p:Prop}(h:p:=by
 unfold xF
 refine BQ ?_ j
 by_cases hik:i<args.length
 .rw[G2 hik];exact h _ (gD hik)
 .unfold Dv;rw[List.getElem?_eq_none oM];intro y hy;cases hy):p:=h
theorem YT{p:Prop}(h:p:=by
 by_cases a:K=1
 .subst a;exact .inl ⟨rfl,rfl⟩
 .by_cases b:K=2
  .subst b;exact .inr (.inl ⟨rfl,rfl⟩)
  .exact .inr (.inr ⟨by simpa using a,by simpa using b⟩)):p:=h
theorem YU{p:Prop}(h:p:=by
 go_wp2_with(go_at_call 87;(with_reducible refine(HPA.out _ hbt).mono ?_);rintro e w7 ⟨rfl,hb7⟩;have HB7:Hid _:=hb7;clear hb7)
 go_ret
 exact⟨rfl,bel hbt HB7.out⟩):p:=h
theorem YV{p:Prop}(h:p:=by
 unfold Oper.wp execOp
 simp only[ho,resolve,invoke,builtin,Sem.run_bind,Sem.run_pure,Result.andThen_ok,List.map_toArray,List.map_cons,List.map_nil,hs,hx,hr]
 exact h):p:=h
theorem YW{p:Prop}(h:p:=by
 rw[hc];clear hc
 go_enter func35,ntmps35
 go_wp2_with(go_at_call 63;refine(Uj _ h0 h1 _).mono ?_;rintro e w' ⟨rfl,rfl⟩)
 go_ret
 exact⟨rfl,rfl⟩):p:=h
theorem YX{p:Prop}(h:p:=by
 go_enter func38,ntmps38
 go_wp2_with(go_at_call 69;refine(Ba _ _ oM oM _ oM oM _).mono ?_;rintro e w' ⟨rfl,rfl⟩)
 go_ret
 exact⟨rfl,rfl⟩):p:=h
theorem YY{p:Prop}(h:p:=by
 rw[hk];rintro(k|⟨k1,k2,k3,k4⟩)
 .omega
 .have:=(GU a b h0 h1 g0 g1).2 (Or.inr ⟨by have:=BC a h0;omega,by have:=BC b g0;omega⟩);omega):p:=h
theorem YZ{p:Prop}(h:p:=by
 have:j=s.size:=oM
 subst this
 have HF:Hid (B3 s=true):=Mk h0 h64 fun i h=>hp.out i h h
 clear hp
 go_wp2
 go_ret
 exact⟨A6 HF.symm,rfl⟩):p:=h
theorem XJ{p:Prop}(h:p:=by
 go_enter func76,ntmps76
 go_wp2
 go_ret
 exact⟨rfl,A0 _ _⟩):p:=h
theorem XK{p:Prop}(h:p:=by
 go_enter func28,ntmps28
 go_wp2
 go_ret
 exact⟨rfl,A0 _ _⟩):p:=h
theorem Z0{p:Prop}(h:p:=by
 have hl0:=HL.2.2.2 rfl
 clear hF
 go_wp2
 go_ret
 refine⟨_,rfl,?_,HF.bel⟩
 rw[<-HR.out,<-hl0]
 exact Da HO.out (by have:=HF.hC;omega)):p:=h
theorem Z1{p:Prop}(h:p:=by
 apply Nat.pow_le_pow_right oM
 rcases kge with c|c
 .omega
 .have:t+1<=(t*2^p+k)/2^p:=(Nat.le_div_iff_mul_le hB).2 (by rw[Nat.add_mul];omega)
  omega):p:=h
theorem Z2{p:Prop}(h:p:=by
 try(go_wp2_with fail)
 refine AB hK fun hJ=>?_
 clear hK K
 refine Bm 8 ?_
 refine wpAnyH_done kR ?_ _
 go_wp2
 go_ret
 exact⟨rfl,HT2.bel⟩):p:=h
theorem XL{p:Prop}(h:p:=by
 subst hl
 rw[Bg dE]at h
 simp only[Bool.and_eq_true]at h
 exact h.2):p:=h
theorem Xd{p:Prop}(h:p:=by
 go_ret
 exact⟨rfl,bel (A0 _ _) hb1⟩):p:=h
theorem Xe{p:Prop}(h:p:=by
 exact hp.out i hi (by rw[<-HN.out];exact hi)):p:=h
theorem Z3{p:Prop}(h:p:=by
 clear HC4
 go_wp2_with(go_at_call 57;refine HK.mono ?_;rintro e w1 ⟨rfl,hb1⟩)
 go_ret
 exact⟨E4 HC5.symm,bel hb' hb1⟩):p:=h
theorem Z4{p:Prop}(h:p:=by
 show DM c.sign (A7 c.regs (k:Int))=_
 unfold A7
 rw[if_pos (AR.2 ⟨oM,oM⟩),Int.toNat_natCast,gB hk]
 rfl):p:=h
theorem XM{p:Prop}(h:p:=by
 go_enter func26,ntmps26
 go_wp2
 go_ret
 exact⟨rfl,rfl⟩):p:=h
theorem Z5{p:Prop}(h:p:=by
 rw[hn',Nat.mul_assoc,Nat.mul_assoc,Nat.mul_assoc,<-Nat.pow_add,<-Nat.pow_add,<-Nat.pow_add,<-Nat.pow_add]
 congr 2;omega):p:=h
theorem Z6{p:Prop}(h:p:=by
 have:=hg.regs _ (gD hr)
 unfold Ak at this
 split at this
 .omega
 .split at this
  .omega
  .cases this):p:=h
theorem Z7{p:Prop}(h:p:=by
 unfold Au at hst
 rw[if_neg oM,if_pos h35]at hst
 simp only[Bool.and_eq_true,Bool.not_eq_true']at hst
 exact hst.2):p:=h
theorem Z8{p:Prop}(h:p:=by
 exact AM h1 dE (Aj _ _ _ _) (fun _=>Aj _ _ _ _) (fun _=>Aj _ _ _ _) (fun _=>Aj _ _ _ _) rfl):p:=h
theorem Z9{p:Prop}(h:p:=by
 go_wp2_with(go_at_call 102;refine(HK.out _).mono ?_;rintro e w1 ⟨rfl,rfl⟩)
 go_ret
 exact⟨rfl,A0 _ _⟩):p:=h
theorem Za{p:Prop}(h:p:=by
 have:2*((j+1)*(2^t*d))=(j*2^t+(j+1)*2^t)*d+2^t*d:=by
  simp only[Nat.add_mul,Nat.mul_assoc,Nat.one_mul];omega
 omega):p:=h
theorem Zb{p:Prop}(h:p:=by
 go_wp2
 go_roundw
 case rel=>unfold SF;exact⟨rfl,j+1,_,oM,gN,rfl,HR1.symm⟩
 case measure=>simp[intOf];omega):p:=h
theorem Zc{p:Prop}(h:p:=by
 rw[show Ieee.single.nearest s 0 e=wd s 0 from by unfold Ieee.Format.nearest;rw[if_pos rfl];rfl,Lq];omega):p:=h
theorem XN{p:Prop}(h:p:=by have hq:=bel (A0 _ _) hb1;exact⟨bel hq (A0 _ _),kc (A0 _ _) (kc hb1 sG),kc (A0 _ _) (kc hb1 sG),kc (A0 _ _) (kc hb1 sG),kc (A0 _ _) (kc hb1 sG),kc (A0 _ _) (kc hb1 sG),sG,sG,kc (A0 _ _) (kc hq HS0.c0),kc (A0 _ _) (kc hq HS0.c3),kc (A0 _ _) (kc hq HE0.out)⟩):p:=h
theorem Ja{p:Prop}(h:p:=by show w.heap.size<=w.heap.size+1;omega):p:=h
theorem Lu{p:Prop}(h:p:=by show¬w.heap.size+1+1=FB;omega):p:=h
theorem Sx{p:Prop}(h:p:=by show¬XB=wr.heap.size;have:=HLT.out;omega):p:=h
theorem N6{p:Prop}(h:p:=by show¬wr.heap.size=FB;omega):p:=h
theorem UR{p:Prop}(h:p:=by show w.heap.size+1+1<wc.heap.size;omega):p:=h
theorem Xf{p:Prop}(h:p:=by intro j hj;rcases(show j=0\/j=1\/j=2\/j=3 by omega)with rfl|rfl|rfl|rfl<;>rfl):p:=h
theorem Xg{p:Prop}(h:p:=by exact⟨bel hw1 (A0 _ _),sG,sG,sG,sG,sG,kc (A0 _ _) (kc hw1 g0)⟩):p:=h
theorem Sy{p:Prop}(h:p:=by show¬FB=w.heap.size+1;omega):p:=h
theorem V9{p:Prop}(h:p:=by show w.heap.size<=w.heap.size+1+1;omega):p:=h
theorem Sz{p:Prop}(h:p:=by simp[Value.oneCell']):p:=h
theorem Wl{p:Prop}(h:p:=by intro u hu;simp at hu;subst hu;rfl):p:=h
theorem Xh{p:Prop}(h:p:=by show¬w.heap.size+1+1=w.heap.size+1;omega):p:=h
theorem Xi{p:Prop}(h:p:=by show¬lb=wr.heap.size;have:=HLT.out;omega):p:=h
theorem XO{p:Prop}(h:p:=by simp only[sg,if_true,if_false,Bool.false_eq_true];omega):p:=h
theorem Zd{p:Prop}(h:p:=by have:=En r.reverse ⟨L,P,A⟩ 2 (u:=.int .i64 A) rfl;rwa[hl]at this):p:=h
theorem Ze{p:Prop}(h:p:=by have:=En r.reverse ⟨L,P,A⟩ 1 (u:=.int .i64 P) rfl;rwa[hl]at this):p:=h
theorem SL{p:Prop}(h:p:=by simpa using h):p:=h
theorem XP{p:Prop}(h:p:=by simp[results,results107,go_sem, *];try rfl):p:=h
theorem Zf{p:Prop}(h:p:=by have:=En r.reverse ⟨L,P,A⟩ 0 (u:=.bool L) rfl;rwa[hl]at this):p:=h
theorem Zg{p:Prop}(h:p:=by first|exact bel (A4 _) k5|exact bel (bel (A0 _ _) (A4 _)) k5):p:=h
theorem XQ{p:Prop}(h:p:=by simp[results,results36,go_sem, *];try rfl):p:=h
theorem XR{p:Prop}(h:p:=by simp[results,results20,go_sem, *];try rfl):p:=h
theorem VZ{p:Prop}(h:p:=by unfold sg;simp;omega):p:=h
theorem XS{p:Prop}(h:p:=by simp[results,results8,go_sem, *];try rfl):p:=h
theorem Zh{p:Prop}(h:p:=by have h8:=hl1.cs.own.lt b (by rw[<-HYL.out];exact e2);exact h8.2):p:=h
theorem XT{p:Prop}(h:p:=by show w.heap.size+1+1≠w.heap.size;omega):p:=h
theorem XU{p:Prop}(h:p:=by show w.heap.size<=w.heap.size;omega):p:=h
theorem Zi{p:Prop}(h:p:=by have h5:=h22.rr.cell (i:=4) dE;rw[HNX.out]at h5;exact h5):p:=h
theorem Zj{p:Prop}(h:p:=by rw[List.length_map,List.length_range];exact how.out):p:=h
theorem XV{p:Prop}(h:p:=by show w.heap.size=w.heap.size;rfl):p:=h
theorem W4{p:Prop}(h:p:=by rw[<-eb,hnb]):p:=h
theorem W5{p:Prop}(h:p:=by rw[<-ea,hna]):p:=h
theorem XW{p:Prop}(h:p:=by rcases h with h|h<;>rw[h]<;>rfl):p:=h
theorem XX{p:Prop}(h:p:=by have:=(hc.own.lt b hbb).1;omega):p:=h
theorem XY{p:Prop}(h:p:=by show(A5 34).a≠0;decide):p:=h
theorem XZ{p:Prop}(h:p:=by show w.heap.size<=g;omega):p:=h
theorem Xj{p:Prop}(h:p:=by rw[I5];omega):p:=h
theorem Y0{p:Prop}(h:p:=by rw[HYL.out];exact h22.cs):p:=h
theorem Zo{p:Prop}(h:p:=by rw[<-HYL.out];exact e2):p:=h
theorem Xk{p:Prop}(h:p:=by rw[HE.out];simp):p:=h
end Go.Proofs.YtheanilpbnencaaGreat
