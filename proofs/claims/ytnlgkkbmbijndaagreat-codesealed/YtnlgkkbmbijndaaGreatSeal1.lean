import Derived.RowKit3
import Derived.Test.YtnlgkkbmbijndaaGreatRows
import Derived.WalkKit
import Derived.WalkSpells
import Derived.WalkLawsBesides
import Derived.LoopN
import Derived.Below
import Derived.OwnWalk
import Derived.Shelf.Abstract
import Derived.Deep.AppendLies
import Derived.Maps.AppendAt
import Derived.Laws.AppendOwnNone
import Derived.Deep.OwnRows
import Derived.Deep.DeepCutAuto
import Derived.Deep.QuietTactic
import Derived.Deep.RegionHeld3
import Derived.BigQuiet
import Derived.Handy
import Derived.OrdersHeld
namespace Go.Proofs.YtnlgkkbmbijndaaGreat
open Go.RowKit Go.Proofs.Tryz
set_option linter.all false
set_option maxRecDepth 100000
set_option maxHeartbeats 16000000
abbrev Bs:=List UInt8
def bs(s:ByteArray):Bs:=s.data.toList
def nb(b:UInt8):Int:=(b.toNat:Int)
def hd:Bs→Int
 |[]=>0
 |b::_=>nb b
theorem JZ(s:ByteArray):(bs s).length=s.size:=by simp[bs]
theorem ON(s:ByteArray):(⟨(bs s).toArray⟩:ByteArray)=s:=by simp[bs]
theorem Ly{s t:ByteArray}(h:bs s=bs t):s=t:=by rw[←ON s,←ON t,h]
structure Bd where
 name:ByteArray
 kind:Int
 len:Int
def EC(c:Int):Bool:=
 (decide (97≤c)&&decide (c≤122))||(decide (65≤c)&&decide (c≤90))||(decide (48≤c)&&decide (c≤57))||c==95||c==46||c==47||c==45
def Ba(s:ByteArray):Bool:=(s.size != 0&&decide (s.size≤64))&&(bs s).all fun b=>EC (nb b)
def BC(p:Bd):Bool:=(Ba p.name&&(p.kind==1||p.kind==2))&&(decide (1≤p.len)&&decide (p.len≤4096))
def E4(p:Bd):Int:=if BC p then(if p.kind==2 then 2*p.len else p.len)else 0
def BU:List Bd→Int
 |[]=>0
 |p::r=>E4 p+BU r
def AR(s:ByteArray):List Bd→Option Nat
 |[]=>none
 |p::r=>if p.name=s then some 0 else(AR s r).map (· +1)
def Bc:List Bd→Bool
 |[]=>false
 |p::r=>(r.any fun q=>decide (q.name=p.name))||Bc r
def AT(l:List Bd):Int:=
 if l.length>64 then 2 else if l.all BC=false then 100 else if Bc l then 101 else if BU l>65536 then 102 else 0
theorem E5(p:Bd):0≤E4 p∧E4 p≤8192:=by
 unfold E4
 split
 ·rename_i h
  unfold BC at h
  simp at h
  split<;>omega
 ·decide
theorem I2(l:List Bd)(p:Bd):BU (l++[p])=BU l+E4 p:=by
 induction l with
 |nil=>simp[BU]
 |cons q r ih=>simp only[List.cons_append,BU,ih];omega
theorem Ec(l:List Bd):0≤BU l∧BU l≤8192*(l.length:Int):=by
 induction l with
 |nil=>simp[BU]
 |cons q r ih=>have:=E5 q;simp only[BU,List.length_cons];omega
theorem EQ{α:Type}{l:List α}{i:Nat}(h:i<l.length):l.take (i+1)=l.take i++[l[i]]:=by simp
theorem G9{s:ByteArray}:∀ {l:List Bd} {i:Nat},(h:i<l.length)→l[i].name=s→(∀j (h:j<l.length),j<i→l[j].name≠s)→AR s l=some i
 |[],i,h,_,_=>absurd h (Nat.not_lt_zero _)
 |p::r,0,_,e,_=>by simp only[AR];rw[if_pos (show p.name=s from e)]
 |p::r,i+1,h,e,hn=>by
  have h0:=hn 0 (by simp) (by omega)
  simp only[List.getElem_cons_zero]at h0
  simp only[AR]
  rw[if_neg h0,G9 (l:=r) (i:=i) (by simpa using h) (by simpa using e) (fun j hj hji=>by have:=hn (j+1) (by simpa using hj) (by omega);simpa using this)]
  rfl
theorem G8{s:ByteArray}:∀ {l:List Bd},(∀j (h:j<l.length),l[j].name≠s)→AR s l=none
 |[],_=>rfl
 |p::r,hn=>by
  have h0:=hn 0 (by simp)
  simp only[List.getElem_cons_zero]at h0
  simp only[AR]
  rw[if_neg h0,G8 (l:=r) (fun j hj=>by have:=hn (j+1) (by simpa using hj);simpa using this)]
  rfl
theorem ES:∀ {l:List Bd},Bc l=true↔∃i j,∃ (hi:i<l.length) (hj:j<l.length),j<i∧l[j].name=l[i].name
 |[]=>by simp[Bc]
 |p::r=>by
  simp only[Bc,Bool.or_eq_true,List.any_eq_true,decide_eq_true_eq]
  rw[ES (l:=r)]
  constructor
  ·rintro(⟨q,hq,e⟩|⟨i,j,hi,hj,hji,e⟩)
   ·obtain⟨k,hk,rfl⟩:=List.mem_iff_getElem.1 hq
    exact⟨k+1,0,by simpa using hk,by simp,by omega,by simpa using e.symm⟩
   ·exact⟨i+1,j+1,by simpa using hi,by simpa using hj,by omega,by simpa using e⟩
  ·rintro⟨i,j,hi,hj,hji,e⟩
   cases i with
   |zero=>omega
   |succ i=>
    cases j with
    |zero=>
     simp only[List.getElem_cons_zero,List.getElem_cons_succ]at e
     exact .inl ⟨r[i]'(by simpa using hi),List.getElem_mem _,e.symm⟩
    |succ j=>
     simp only[List.getElem_cons_succ]at e
     exact .inr ⟨i,j,by simpa using hi,by simpa using hj,by omega,e⟩
theorem Ke{l:List Bd}(h:AT l=0):l.length≤64:=by
 unfold AT at h
 split at h
 ·omega
 ·omega
theorem Kf{l:List Bd}(h:AT l=0):∀p∈l,BC p=true:=by
 unfold AT at h
 split at h
 ·omega
 ·split at h
  ·omega
  ·rename_i h2
   rw[Bool.not_eq_false,List.all_eq_true]at h2
   exact h2
theorem bel{a b c:World}(h:Below a.heap.size a b)(k:Below b.heap.size b c):Below a.heap.size a c:=h.trans (k.mono h.size)
theorem Cq(w:World):Below w.heap.size w w:=Below.refl _ _
theorem A7(w:World)(o:Obj):Below w.heap.size w (w.alloc o):=(Below.refl _ _).alloc (Nat.le_refl _) o
theorem Am(w:World):Below w.heap.size w w.drew:=(Below.refl _ _).drew
theorem Al{w:World}{a:Addr}{v:Value}(h:w.cell? a=some v):a.block<w.heap.size:=by
 rcases Nat.lt_or_ge a.block w.heap.size with c|c
 ·exact c
 ·have:w.heap[a.block]? =none:=Array.getElem?_eq_none c
  simp[World.cell?,this]at h
theorem Ad{a b:Bool}(h:a=b):Ending.returned (.bool a)=.returned (.bool b):=by rw[h]
theorem Dj{k:IntKind}{a b:Int}(h:a=b):Ending.returned (.int k a)=.returned (.int k b):=by rw[h]
def pv(p:Bd):Value:=.agg #[.string p.name,.int .i64 p.kind,.int .i64 p.len]
def As(p:Bd):List Value:=[.string p.name,.int .i64 p.kind,.int .i64 p.len]
def Q5(w:World)(b o:Nat)(p:Bd):Prop:=
 w.cell? ⟨b,o,none⟩=some (.string p.name)∧w.cell? ⟨b,o+1,none⟩=some (.int .i64 p.kind)∧w.cell? ⟨b,o+2,none⟩=some (.int .i64 p.len)
theorem Q5.below{w w':World}{b o:Nat}{p:Bd}(h:Q5 w b o p)(k:Below w.heap.size w w'):Q5 w' b o p:=
 ⟨(k.cell (Al h.1)).trans h.1,(k.cell (Al h.2.1)).trans h.2.1,(k.cell (Al h.2.2)).trans h.2.2⟩
def Lr(w:World)(p:Option Addr)(l:List Bd):Prop:=l=[]∨∃b o,p=some ⟨b,o,none⟩∧∀i (h:i<l.length),Q5 w b (o+i*3) l[i]
def Rd(w:World)(v:Value)(l:List Bd):Prop:=∃p c,v=.slice p l.length c∧Lr w p l
theorem Lr.below{w w':World}{p:Option Addr}{l:List Bd}(h:Lr w p l)(k:Below w.heap.size w w'):Lr w' p l:=
 h.imp id fun⟨b,o,hp,h⟩=>⟨b,o,hp,fun i hi=>(h i hi).below k⟩
theorem Rd.below{w w':World}{v:Value}{l:List Bd}(h:Rd w v l)(k:Below w.heap.size w w'):Rd w' v l:=by
 obtain⟨p,c,hv,h⟩:=h
 exact⟨p,c,hv,h.below k⟩
theorem Lr.at{w:World}{p:Option Addr}{l:List Bd}(h:Lr w p l){i:Nat}(hi:i<l.length):∃b o,p=some ⟨b,o,none⟩∧Q5 w b (o+i*3) l[i]:=by
 rcases h with h|⟨b,o,hp,h⟩
 ·rw[h]at hi;exact absurd hi (Nat.not_lt_zero _)
 ·exact⟨b,o,hp,h i hi⟩

theorem Ni{P:Program}{md:Region.Mode}{ops:Array Oper}{Q:Exit→Act→World→Prop}{S:World→Prop}(i:Nat){oi:Oper}{v:Value}{fuel:Nat}{listed l':Array Bool}{a a':Act}{w:World}
 (h:wpAnyH P md ops Q S fuel l' a' w)
 (hi:ops[i]? =some oi:=by simp only[List.getElem?_toArray,List.getElem?_cons_succ,List.getElem?_cons_zero];rfl)
 (hw:Region.wanted oi (yielded ops a.tmps)=true:=by rfl)
 (hv:∀w,S w→(execOp a.eval oi).run P w=.ok (.value v) w:=by(intro wS hSw;(try dsimp only at hSw);go_simp;try(with_reducible rfl)))
 (hl:listed.setIfInBounds i true=l':=by(try simp only[List.setIfInBounds_toArray,List.set_cons_zero,List.set_cons_succ]);rfl)
 (ha:a.put oi.dst v=a':=by(try simp only[Act.put,List.setIfInBounds_toArray,List.set_cons_zero,List.set_cons_succ]);rfl)
 (hs:Region.noSelect ops=true:=by kernel_rfl) (hf:Region.free md ops listed i=true:=by kernel_rfl) (hr:(Region.ready md ops listed).contains i=true:=by kernel_rfl)
 (hQ:∀c a w,Q (.panic c) (a.put oi.dst v) w→Q (.panic c) a w:=by exact fun _ _ _ h=>h) (hS:S w:=by assumption):wpAnyH P md ops Q S (fuel+1) listed a w:=
 wpAnyH_take hi hs hf hr hQ (.inl ⟨hw,hv⟩) hS (by rw[hl,ha];exact h)
theorem Ri{P:Program}{md:Region.Mode}{ops:Array Oper}{Q:Exit→Act→World→Prop}{S:World→Prop}(i:Nat){oi:Oper}{fuel:Nat}{listed l':Array Bool}{a a':Act}{w:World}
 (h:wpAnyH P md ops Q S fuel l' a' w)
 (hi:ops[i]? =some oi:=by simp only[List.getElem?_toArray,List.getElem?_cons_succ,List.getElem?_cons_zero];rfl)
 (hw:Region.wanted oi (yielded ops a.tmps)=false:=by rfl)
 (hl:listed.setIfInBounds i true=l':=by(try simp only[List.setIfInBounds_toArray,List.set_cons_zero,List.set_cons_succ]);rfl)
 (ha:a.put oi.dst undef=a':=by(try simp only[Act.put,List.setIfInBounds_toArray,List.set_cons_zero,List.set_cons_succ]);rfl)
 (hs:Region.noSelect ops=true:=by kernel_rfl) (hf:Region.free md ops listed i=true:=by kernel_rfl) (hr:(Region.ready md ops listed).contains i=true:=by kernel_rfl)
 (hQ:∀c a w,Q (.panic c) (a.put oi.dst undef) w→Q (.panic c) a w:=by exact fun _ _ _ h=>h) (hS:S w:=by assumption):wpAnyH P md ops Q S (fuel+1) listed a w:=
 wpAnyH_take hi hs hf hr hQ (.inr ⟨hw,rfl⟩) hS (by rw[hl,ha];exact h)
theorem AP{P:Program}{md:Region.Mode}{ops:Array Oper}{Q:Exit→Act→World→Prop}{S:World→Prop}(i:Nat){o:Oper}{fuel:Nat}{listed:Array Bool}{a:Act}{w:World}
 (h:∀K':Act→World→Prop,Shut (∀a w,S w→(S w→wpAnyH P md ops Q S fuel (listed.setIfInBounds i true) a w)→K' a w)→if Region.wanted o (yielded ops a.tmps)=true then Oper.wp P o a w K' Q else K' (a.put o.dst undef) w)
 (ho:ops[i]? =some o:=by simp only[List.getElem?_toArray,List.getElem?_cons_succ,List.getElem?_cons_zero];rfl)
 (hr:Region.ready md ops listed=[i]:=by kernel_rfl):wpAnyH P md ops Q S (fuel+1) listed a w:=
 wpAnyH_ready hr (by simp) (AllReadyH.cons ho h AllReadyH.nil)
theorem Q4{P:Program}{md:Region.Mode}{ops:Array Oper}{Q:Exit→Act→World→Prop}{S:World→Prop}(i:Nat){o:Oper}{fuel:Nat}{listed:Array Bool}{a:Act}{w:World}{rs:List Nat}
 (h:∀K':Act→World→Prop,Shut (∀a w,S w→(S w→wpAnyH P md ops Q S fuel (listed.setIfInBounds i true) a w)→K' a w)→if Region.wanted o (yielded ops a.tmps)=true then Oper.wp P o a w K' Q else K' (a.put o.dst undef) w)
 (hs:AllReadyH P md ops Q S fuel listed a w rs)
 (ho:ops[i]? =some o:=by simp only[List.getElem?_toArray,List.getElem?_cons_succ,List.getElem?_cons_zero];rfl):AllReadyH P md ops Q S fuel listed a w (i::rs):=
 AllReadyH.cons ho h hs
theorem IE{p:Prop}(h:p:=by simp only[List.getElem?_toArray,List.getElem?_cons_succ,List.getElem?_cons_zero];rfl):p:=h
theorem Me{p:Prop}(h:p:=by(intro wS hSw;(try dsimp only at hSw);go_simp;try(with_reducible rfl))):p:=h
theorem I7{p:Prop}(h:p:=by(try simp only[List.setIfInBounds_toArray,List.set_cons_zero,List.set_cons_succ]);rfl):p:=h
theorem I6{p:Prop}(h:p:=by(try simp only[Act.put,List.setIfInBounds_toArray,List.set_cons_zero,List.set_cons_succ]);rfl):p:=h
theorem AW{P:Program}{md:Region.Mode}{ops:Array Oper}{Q:Exit→Act→World→Prop}{S:World→Prop}{fuel:Nat}{l l':Array Bool}{a a':Act}{w:World}{K:Act→World→Prop}
 (hK:Shut (∀a w,S w→(S w→wpAnyH P md ops Q S fuel l a w)→K a w)) (h:S w→wpAnyH P md ops Q S fuel l' a' w)
 (hS:S w:=by(try dsimp only);go_keep) (hl:l=l':=by exact I7) (ha:a=a':=by exact I6):K a w:=
 hK.out a w hS (by rw[hl,ha];exact h)
theorem rG{P:Program}{ops:Array Oper}{Q:Exit→Act→World→Prop}(S:World→Prop){id:Nat}{a:Act}{w:World}(h:S w.drew→wpAnyH P .any ops Q S ops.size (Array.replicate ops.size false) a w.drew)
 (hm:P.follows .mixedOrders=true:=by kernel_rfl) (hS:S w.drew:=by(try dsimp only);go_keep):(Code.region id ops true).wp P Q a w:=
 wp_region_held_drew hm hS h
theorem Tb{P:Program}{md:Region.Mode}{ops:Array Oper}{Q:Exit→Act→World→Prop}{S:World→Prop}{fuel:Nat}{w:World}
 (i0 i1:Nat)
 {o0 o1:Oper}
 {v0 v1:Value}
 {l0 l1 l2:Array Bool} {a0 a1 a2:Act}
 (h:wpAnyH P md ops Q S fuel l2 a2 w)
 (hi0:ops[i0]? =some o0:=by exact IE)
 (hw0:Region.wanted o0 (yielded ops a0.tmps)=true:=by rfl)
 (hv0:∀w,S w→(execOp a0.eval o0).run P w=.ok (.value v0) w:=by exact Me)
 (hl0:l0.setIfInBounds i0 true=l1:=by exact I7)
 (ha0:a0.put o0.dst v0=a1:=by exact I6)
 (hf0:Region.free md ops l0 i0=true:=by kernel_rfl) (hr0:(Region.ready md ops l0).contains i0=true:=by kernel_rfl)
 (hQ0:∀c a w,Q (.panic c) (a.put o0.dst v0) w→Q (.panic c) a w:=by exact fun _ _ _ h=>h)
 (hi1:ops[i1]? =some o1:=by exact IE)
 (hw1:Region.wanted o1 (yielded ops a1.tmps)=true:=by rfl)
 (hv1:∀w,S w→(execOp a1.eval o1).run P w=.ok (.value v1) w:=by exact Me)
 (hl1:l1.setIfInBounds i1 true=l2:=by exact I7)
 (ha1:a1.put o1.dst v1=a2:=by exact I6)
 (hf1:Region.free md ops l1 i1=true:=by kernel_rfl) (hr1:(Region.ready md ops l1).contains i1=true:=by kernel_rfl)
 (hQ1:∀c a w,Q (.panic c) (a.put o1.dst v1) w→Q (.panic c) a w:=by exact fun _ _ _ h=>h)
 (hs:Region.noSelect ops=true:=by kernel_rfl) (hS:S w:=by assumption):wpAnyH P md ops Q S (fuel+2) l0 a0 w:=
 Ni i0 (Ni i1 h hi1 hw1 hv1 hl1 ha1 hs hf1 hr1 hQ1 hS) hi0 hw0 hv0 hl0 ha0 hs hf0 hr0 hQ0 hS
theorem Tc{P:Program}{md:Region.Mode}{ops:Array Oper}{Q:Exit→Act→World→Prop}{S:World→Prop}{fuel:Nat}{w:World}
 (i0 i1 i2:Nat)
 {o0 o1 o2:Oper}
 {v0 v1 v2:Value}
 {l0 l1 l2 l3:Array Bool} {a0 a1 a2 a3:Act}
 (h:wpAnyH P md ops Q S fuel l3 a3 w)
 (hi0:ops[i0]? =some o0:=by exact IE)
 (hw0:Region.wanted o0 (yielded ops a0.tmps)=true:=by rfl)
 (hv0:∀w,S w→(execOp a0.eval o0).run P w=.ok (.value v0) w:=by exact Me)
 (hl0:l0.setIfInBounds i0 true=l1:=by exact I7)
 (ha0:a0.put o0.dst v0=a1:=by exact I6)
 (hf0:Region.free md ops l0 i0=true:=by kernel_rfl) (hr0:(Region.ready md ops l0).contains i0=true:=by kernel_rfl)
 (hQ0:∀c a w,Q (.panic c) (a.put o0.dst v0) w→Q (.panic c) a w:=by exact fun _ _ _ h=>h)
 (hi1:ops[i1]? =some o1:=by exact IE)
 (hw1:Region.wanted o1 (yielded ops a1.tmps)=true:=by rfl)
 (hv1:∀w,S w→(execOp a1.eval o1).run P w=.ok (.value v1) w:=by exact Me)
 (hl1:l1.setIfInBounds i1 true=l2:=by exact I7)
 (ha1:a1.put o1.dst v1=a2:=by exact I6)
 (hf1:Region.free md ops l1 i1=true:=by kernel_rfl) (hr1:(Region.ready md ops l1).contains i1=true:=by kernel_rfl)
 (hQ1:∀c a w,Q (.panic c) (a.put o1.dst v1) w→Q (.panic c) a w:=by exact fun _ _ _ h=>h)
 (hi2:ops[i2]? =some o2:=by exact IE)
 (hw2:Region.wanted o2 (yielded ops a2.tmps)=true:=by rfl)
 (hv2:∀w,S w→(execOp a2.eval o2).run P w=.ok (.value v2) w:=by exact Me)
 (hl2:l2.setIfInBounds i2 true=l3:=by exact I7)
 (ha2:a2.put o2.dst v2=a3:=by exact I6)
 (hf2:Region.free md ops l2 i2=true:=by kernel_rfl) (hr2:(Region.ready md ops l2).contains i2=true:=by kernel_rfl)
 (hQ2:∀c a w,Q (.panic c) (a.put o2.dst v2) w→Q (.panic c) a w:=by exact fun _ _ _ h=>h)
 (hs:Region.noSelect ops=true:=by kernel_rfl) (hS:S w:=by assumption):wpAnyH P md ops Q S (fuel+3) l0 a0 w:=
 Ni i0 (Ni i1 (Ni i2 h hi2 hw2 hv2 hl2 ha2 hs hf2 hr2 hQ2 hS) hi1 hw1 hv1 hl1 ha1 hs hf1 hr1 hQ1 hS) hi0 hw0 hv0 hl0 ha0 hs hf0 hr0 hQ0 hS
theorem Tf{P:Program}{md:Region.Mode}{ops:Array Oper}{Q:Exit→Act→World→Prop}{S:World→Prop}{fuel:Nat}{w:World}
 (i0 i1 i2 i3 i4 i5:Nat)
 {o0 o1 o2 o3 o4 o5:Oper}
 {v0 v1 v2 v3 v4 v5:Value}
 {l0 l1 l2 l3 l4 l5 l6:Array Bool} {a0 a1 a2 a3 a4 a5 a6:Act}
 (h:wpAnyH P md ops Q S fuel l6 a6 w)
 (hi0:ops[i0]? =some o0:=by exact IE)
 (hw0:Region.wanted o0 (yielded ops a0.tmps)=true:=by rfl)
 (hv0:∀w,S w→(execOp a0.eval o0).run P w=.ok (.value v0) w:=by exact Me)
 (hl0:l0.setIfInBounds i0 true=l1:=by exact I7)
 (ha0:a0.put o0.dst v0=a1:=by exact I6)
 (hf0:Region.free md ops l0 i0=true:=by kernel_rfl) (hr0:(Region.ready md ops l0).contains i0=true:=by kernel_rfl)
 (hQ0:∀c a w,Q (.panic c) (a.put o0.dst v0) w→Q (.panic c) a w:=by exact fun _ _ _ h=>h)
 (hi1:ops[i1]? =some o1:=by exact IE)
 (hw1:Region.wanted o1 (yielded ops a1.tmps)=true:=by rfl)
 (hv1:∀w,S w→(execOp a1.eval o1).run P w=.ok (.value v1) w:=by exact Me)
 (hl1:l1.setIfInBounds i1 true=l2:=by exact I7)
 (ha1:a1.put o1.dst v1=a2:=by exact I6)
 (hf1:Region.free md ops l1 i1=true:=by kernel_rfl) (hr1:(Region.ready md ops l1).contains i1=true:=by kernel_rfl)
 (hQ1:∀c a w,Q (.panic c) (a.put o1.dst v1) w→Q (.panic c) a w:=by exact fun _ _ _ h=>h)
 (hi2:ops[i2]? =some o2:=by exact IE)
 (hw2:Region.wanted o2 (yielded ops a2.tmps)=true:=by rfl)
 (hv2:∀w,S w→(execOp a2.eval o2).run P w=.ok (.value v2) w:=by exact Me)
 (hl2:l2.setIfInBounds i2 true=l3:=by exact I7)
 (ha2:a2.put o2.dst v2=a3:=by exact I6)
 (hf2:Region.free md ops l2 i2=true:=by kernel_rfl) (hr2:(Region.ready md ops l2).contains i2=true:=by kernel_rfl)
 (hQ2:∀c a w,Q (.panic c) (a.put o2.dst v2) w→Q (.panic c) a w:=by exact fun _ _ _ h=>h)
 (hi3:ops[i3]? =some o3:=by exact IE)
 (hw3:Region.wanted o3 (yielded ops a3.tmps)=true:=by rfl)
 (hv3:∀w,S w→(execOp a3.eval o3).run P w=.ok (.value v3) w:=by exact Me)
 (hl3:l3.setIfInBounds i3 true=l4:=by exact I7)
 (ha3:a3.put o3.dst v3=a4:=by exact I6)
 (hf3:Region.free md ops l3 i3=true:=by kernel_rfl) (hr3:(Region.ready md ops l3).contains i3=true:=by kernel_rfl)
 (hQ3:∀c a w,Q (.panic c) (a.put o3.dst v3) w→Q (.panic c) a w:=by exact fun _ _ _ h=>h)
 (hi4:ops[i4]? =some o4:=by exact IE)
 (hw4:Region.wanted o4 (yielded ops a4.tmps)=true:=by rfl)
 (hv4:∀w,S w→(execOp a4.eval o4).run P w=.ok (.value v4) w:=by exact Me)
 (hl4:l4.setIfInBounds i4 true=l5:=by exact I7)
 (ha4:a4.put o4.dst v4=a5:=by exact I6)
 (hf4:Region.free md ops l4 i4=true:=by kernel_rfl) (hr4:(Region.ready md ops l4).contains i4=true:=by kernel_rfl)
 (hQ4:∀c a w,Q (.panic c) (a.put o4.dst v4) w→Q (.panic c) a w:=by exact fun _ _ _ h=>h)
 (hi5:ops[i5]? =some o5:=by exact IE)
 (hw5:Region.wanted o5 (yielded ops a5.tmps)=true:=by rfl)
 (hv5:∀w,S w→(execOp a5.eval o5).run P w=.ok (.value v5) w:=by exact Me)
 (hl5:l5.setIfInBounds i5 true=l6:=by exact I7)
 (ha5:a5.put o5.dst v5=a6:=by exact I6)
 (hf5:Region.free md ops l5 i5=true:=by kernel_rfl) (hr5:(Region.ready md ops l5).contains i5=true:=by kernel_rfl)
 (hQ5:∀c a w,Q (.panic c) (a.put o5.dst v5) w→Q (.panic c) a w:=by exact fun _ _ _ h=>h)
 (hs:Region.noSelect ops=true:=by kernel_rfl) (hS:S w:=by assumption):wpAnyH P md ops Q S (fuel+6) l0 a0 w:=
 Ni i0 (Ni i1 (Ni i2 (Ni i3 (Ni i4 (Ni i5 h hi5 hw5 hv5 hl5 ha5 hs hf5 hr5 hQ5 hS) hi4 hw4 hv4 hl4 ha4 hs hf4 hr4 hQ4 hS) hi3 hw3 hv3 hl3 ha3 hs hf3 hr3 hQ3 hS) hi2 hw2 hv2 hl2 ha2 hs hf2 hr2 hQ2 hS) hi1 hw1 hv1 hl1 ha1 hs hf1 hr1 hQ1 hS) hi0 hw0 hv0 hl0 ha0 hs hf0 hr0 hQ0 hS
theorem Kd{P:Program}{md:Region.Mode}{ops:Array Oper}{Q:Exit→Act→World→Prop}{S:World→Prop}{fuel:Nat}{w:World}
 (i0 i1 i2 i3:Nat)
 {o0 o1 o2 o3:Oper}
 {l0 l1 l2 l3 l4:Array Bool} {a0 a1 a2 a3 a4:Act}
 (h:wpAnyH P md ops Q S fuel l4 a4 w)
 (hi0:ops[i0]? =some o0:=by exact IE)
 (hw0:Region.wanted o0 (yielded ops a0.tmps)=false:=by rfl)
 (hl0:l0.setIfInBounds i0 true=l1:=by exact I7)
 (ha0:a0.put o0.dst undef=a1:=by exact I6)
 (hf0:Region.free md ops l0 i0=true:=by kernel_rfl) (hr0:(Region.ready md ops l0).contains i0=true:=by kernel_rfl)
 (hQ0:∀c a w,Q (.panic c) (a.put o0.dst undef) w→Q (.panic c) a w:=by exact fun _ _ _ h=>h)
 (hi1:ops[i1]? =some o1:=by exact IE)
 (hw1:Region.wanted o1 (yielded ops a1.tmps)=false:=by rfl)
 (hl1:l1.setIfInBounds i1 true=l2:=by exact I7)
 (ha1:a1.put o1.dst undef=a2:=by exact I6)
 (hf1:Region.free md ops l1 i1=true:=by kernel_rfl) (hr1:(Region.ready md ops l1).contains i1=true:=by kernel_rfl)
 (hQ1:∀c a w,Q (.panic c) (a.put o1.dst undef) w→Q (.panic c) a w:=by exact fun _ _ _ h=>h)
 (hi2:ops[i2]? =some o2:=by exact IE)
 (hw2:Region.wanted o2 (yielded ops a2.tmps)=false:=by rfl)
 (hl2:l2.setIfInBounds i2 true=l3:=by exact I7)
 (ha2:a2.put o2.dst undef=a3:=by exact I6)
 (hf2:Region.free md ops l2 i2=true:=by kernel_rfl) (hr2:(Region.ready md ops l2).contains i2=true:=by kernel_rfl)
 (hQ2:∀c a w,Q (.panic c) (a.put o2.dst undef) w→Q (.panic c) a w:=by exact fun _ _ _ h=>h)
 (hi3:ops[i3]? =some o3:=by exact IE)
 (hw3:Region.wanted o3 (yielded ops a3.tmps)=false:=by rfl)
 (hl3:l3.setIfInBounds i3 true=l4:=by exact I7)
 (ha3:a3.put o3.dst undef=a4:=by exact I6)
 (hf3:Region.free md ops l3 i3=true:=by kernel_rfl) (hr3:(Region.ready md ops l3).contains i3=true:=by kernel_rfl)
 (hQ3:∀c a w,Q (.panic c) (a.put o3.dst undef) w→Q (.panic c) a w:=by exact fun _ _ _ h=>h)
 (hs:Region.noSelect ops=true:=by kernel_rfl) (hS:S w:=by assumption):wpAnyH P md ops Q S (fuel+4) l0 a0 w:=
 Ri i0 (Ri i1 (Ri i2 (Ri i3 h hi3 hw3 hl3 ha3 hs hf3 hr3 hQ3 hS) hi2 hw2 hl2 ha2 hs hf2 hr2 hQ2 hS) hi1 hw1 hl1 ha1 hs hf1 hr1 hQ1 hS) hi0 hw0 hl0 ha0 hs hf0 hr0 hQ0 hS
theorem oM{p:Prop}(h:p:=by omega):p:=h
theorem dE{p:Prop}(h:p:=by decide):p:=h
theorem kR{p:Prop}(h:p:=by kernel_rfl):p:=h
theorem sG{p:Prop}(h:p:=by simp[go_sem]):p:=h
theorem sM{p:Prop}(h:p:=by simp):p:=h
theorem rF{p:Prop}(h:p:=by rfl):p:=h
theorem sO{p:Prop}(h:p:=by simp;omega):p:=h
theorem gG{p:Prop}(h:p:=by go_grown):p:=h
theorem gN{p:Prop}(h:p:=by go_num):p:=h
theorem mL{p:Prop}(h:p:=by unfold maxLen;omega):p:=h
theorem iE{p:Prop}(h:p:=by intro e;simp only at e;omega):p:=h
theorem fT{p:Prop}(h:p:=by first|rfl|trivial):p:=h
theorem gA.{u}{α:Sort u}(a:α):∃x,a=x:=⟨a,rfl⟩
theorem gB{α:Type}{l:List α}{i:Nat}(h:i<l.length):l[i]?=some l[i]:=List.getElem?_eq_getElem h
theorem gC{w w':World}{a:Addr}(h:w'.heap[a.block]?=w.heap[a.block]?):w'.cell? a=w.cell? a:=World.cell?_of_block h
theorem gD{α:Type}{l:List α}{n:Nat}(h:n<l.length):l[n]∈l:=List.getElem_mem h
theorem gE{w:World}{a:Addr}{u:Value}{k:Nat}(h:k≠a.block):(w.setCell a u).heap[k]?=w.heap[k]?:=Below.heap_setCell w a u k h
theorem gF(n:Nat):n<=n:=Nat.le_refl n
theorem gH{a b c:Nat}(h:a<=b)(g:b<=c):a<=c:=Nat.le_trans h g
theorem gI(n:Nat):0<=n:=Nat.zero_le n
theorem Rn{p:Prop}(h:p:=by
 refine wpAnyH_take (i:=0) (v:=?_) (by simp only[List.getElem?_toArray,List.getElem?_cons_succ,List.getElem?_cons_zero];rfl) kR kR kR (by exact fun _ _ _ h=>h) (Or.inl ⟨rF,?_⟩) (by assumption) ?_
 rotate_left 1
 ·(intro wS hSw;(try dsimp only at hSw);go_simp;try(with_reducible rfl))
 try simp only[Act.put,List.setIfInBounds_toArray,List.set_cons_zero,List.set_cons_succ]
 refine wpAnyH_take (i:=1) (v:=?_) (by simp only[List.getElem?_toArray,List.getElem?_cons_succ,List.getElem?_cons_zero];rfl) kR kR kR (by exact fun _ _ _ h=>h) (Or.inl ⟨rF,?_⟩) (by assumption) ?_
 rotate_left 1
 ·(intro wS hSw;(try dsimp only at hSw);go_simp;try(with_reducible rfl))
 try simp only[Act.put,List.setIfInBounds_toArray,List.set_cons_zero,List.set_cons_succ]
 refine wpAnyH_take (i:=2) (v:=?_) (by simp only[List.getElem?_toArray,List.getElem?_cons_succ,List.getElem?_cons_zero];rfl) kR kR kR (by exact fun _ _ _ h=>h) (Or.inl ⟨rF,?_⟩) (by assumption) ?_
 rotate_left 1
 ·(intro wS hSw;(try dsimp only at hSw);go_simp;try(with_reducible rfl))
 try simp only[Act.put,List.setIfInBounds_toArray,List.set_cons_zero,List.set_cons_succ]
 refine wpAnyH_take (i:=3) (v:=?_) (by simp only[List.getElem?_toArray,List.getElem?_cons_succ,List.getElem?_cons_zero];rfl) kR kR kR (by exact fun _ _ _ h=>h) (Or.inl ⟨rF,?_⟩) (by assumption) ?_
 rotate_left 1
 ·(intro wS hSw;(try dsimp only at hSw);go_simp;try(with_reducible rfl))
 try simp only[Act.put,List.setIfInBounds_toArray,List.set_cons_zero,List.set_cons_succ]
 refine wpAnyH_take (i:=4) (v:=?_) (by simp only[List.getElem?_toArray,List.getElem?_cons_succ,List.getElem?_cons_zero];rfl) kR kR kR (by exact fun _ _ _ h=>h) (Or.inl ⟨rF,?_⟩) (by assumption) ?_
 rotate_left 1
 ·(intro wS hSw;(try dsimp only at hSw);go_simp;try(with_reducible rfl))
 try simp only[Act.put,List.setIfInBounds_toArray,List.set_cons_zero,List.set_cons_succ]
 refine wpAnyH_take (i:=5) (v:=?_) (by simp only[List.getElem?_toArray,List.getElem?_cons_succ,List.getElem?_cons_zero];rfl) kR kR kR (by exact fun _ _ _ h=>h) (Or.inl ⟨rF,?_⟩) (by assumption) ?_
 rotate_left 1
 ·(intro wS hSw;(try dsimp only at hSw);go_simp;try(with_reducible rfl))
 try simp only[Act.put,List.setIfInBounds_toArray,List.set_cons_zero,List.set_cons_succ]
 clear hJ
 refine AP 6 fun K hK=>?_
 go_simp
 (go_at_call 92;(with_reducible refine(HKA.out _ (bel HTD.out.bel (Am _))).mono ?_);rintro e w3 ⟨rfl,hb9⟩;have HB3:Hid (Below Wd.heap.size Wd w3):=bel (Am _) hb9;clear hb9;obtain⟨c0,c1,c2,c3,i1,i2,i3,i4,i5,d0,d1⟩:=HCD.out w3 HB3.out)
 try(go_wp2_with fail)
 refine AW hK fun hJ=>?_
 clear hK K
 refine wpAnyH_take (i:=7) (v:=?_) (by simp only[List.getElem?_toArray,List.getElem?_cons_succ,List.getElem?_cons_zero];rfl) kR kR kR (by exact fun _ _ _ h=>h) (Or.inl ⟨rF,?_⟩) (by assumption) ?_
 rotate_left 1
 ·(intro wS hSw;(try dsimp only at hSw);go_simp;try(with_reducible rfl))
 try simp only[Act.put,List.setIfInBounds_toArray,List.set_cons_zero,List.set_cons_succ]
 refine wpAnyH_take (i:=8) (v:=?_) (by simp only[List.getElem?_toArray,List.getElem?_cons_succ,List.getElem?_cons_zero];rfl) kR kR kR (by exact fun _ _ _ h=>h) (Or.inl ⟨rF,?_⟩) (by assumption) ?_
 rotate_left 1
 ·(intro wS hSw;(try dsimp only at hSw);go_simp;try(with_reducible rfl))
 try simp only[Act.put,List.setIfInBounds_toArray,List.set_cons_zero,List.set_cons_succ]
 refine wpAnyH_take (i:=9) (v:=?_) (by simp only[List.getElem?_toArray,List.getElem?_cons_succ,List.getElem?_cons_zero];rfl) kR kR kR (by exact fun _ _ _ h=>h) (Or.inl ⟨rF,?_⟩) (by assumption) ?_
 rotate_left 1
 ·(intro wS hSw;(try dsimp only at hSw);go_simp;try(with_reducible rfl))
 try simp only[Act.put,List.setIfInBounds_toArray,List.set_cons_zero,List.set_cons_succ]
 refine wpAnyH_take (i:=10) (v:=?_) (by simp only[List.getElem?_toArray,List.getElem?_cons_succ,List.getElem?_cons_zero];rfl) kR kR kR (by exact fun _ _ _ h=>h) (Or.inl ⟨rF,?_⟩) (by assumption) ?_
 rotate_left 1
 ·(intro wS hSw;(try dsimp only at hSw);go_simp;try(with_reducible rfl))
 try simp only[Act.put,List.setIfInBounds_toArray,List.set_cons_zero,List.set_cons_succ]
 refine wpAnyH_take (i:=11) (v:=?_) (by simp only[List.getElem?_toArray,List.getElem?_cons_succ,List.getElem?_cons_zero];rfl) kR kR kR (by exact fun _ _ _ h=>h) (Or.inl ⟨rF,?_⟩) (by assumption) ?_
 rotate_left 1
 ·(intro wS hSw;(try dsimp only at hSw);go_simp;try(with_reducible rfl))
 try simp only[Act.put,List.setIfInBounds_toArray,List.set_cons_zero,List.set_cons_succ]
 refine wpAnyH_take (i:=12) (v:=?_) (by simp only[List.getElem?_toArray,List.getElem?_cons_succ,List.getElem?_cons_zero];rfl) kR kR kR (by exact fun _ _ _ h=>h) (Or.inl ⟨rF,?_⟩) (by assumption) ?_
 rotate_left 1
 ·(intro wS hSw;(try dsimp only at hSw);go_simp;try(with_reducible rfl))
 try simp only[Act.put,List.setIfInBounds_toArray,List.set_cons_zero,List.set_cons_succ]
 refine wpAnyH_take (i:=13) (v:=?_) (by simp only[List.getElem?_toArray,List.getElem?_cons_succ,List.getElem?_cons_zero];rfl) kR kR kR (by exact fun _ _ _ h=>h) (Or.inl ⟨rF,?_⟩) (by assumption) ?_
 rotate_left 1
 ·(intro wS hSw;(try dsimp only at hSw);go_simp;try(with_reducible rfl))
 try simp only[Act.put,List.setIfInBounds_toArray,List.set_cons_zero,List.set_cons_succ]
 refine wpAnyH_take (i:=14) (v:=?_) (by simp only[List.getElem?_toArray,List.getElem?_cons_succ,List.getElem?_cons_zero];rfl) kR kR kR (by exact fun _ _ _ h=>h) (Or.inl ⟨rF,?_⟩) (by assumption) ?_
 rotate_left 1
 ·(intro wS hSw;(try dsimp only at hSw);go_simp;try(with_reducible rfl))
 try simp only[Act.put,List.setIfInBounds_toArray,List.set_cons_zero,List.set_cons_succ]
 clear hJ
 refine AP 15 fun K hK=>?_
 go_simp
 (go_at_call 92;(with_reducible refine(HKB.out _ (bel HTD.out.bel HB3.out)).mono ?_);rintro e w4 ⟨rfl,hb9⟩;have HB4:Hid (Below Wd.heap.size Wd w4):=bel HB3.out hb9;clear hb9;clear c0 c1 c2 c3 i1 i2 i3 i4 i5 d0 d1;obtain⟨c0,c1,c2,c3,i1,i2,i3,i4,i5,d0,d1⟩:=HCD.out w4 HB4.out)
 try(go_wp2_with fail)
 refine AW hK fun hJ=>?_
 clear hK K
 refine wpAnyH_take (i:=16) (v:=?_) (by simp only[List.getElem?_toArray,List.getElem?_cons_succ,List.getElem?_cons_zero];rfl) kR kR kR (by exact fun _ _ _ h=>h) (Or.inl ⟨rF,?_⟩) (by assumption) ?_
 rotate_left 1
 ·(intro wS hSw;(try dsimp only at hSw);go_simp;try(with_reducible rfl))
 try simp only[Act.put,List.setIfInBounds_toArray,List.set_cons_zero,List.set_cons_succ]
 refine wpAnyH_take (i:=17) (v:=?_) (by simp only[List.getElem?_toArray,List.getElem?_cons_succ,List.getElem?_cons_zero];rfl) kR kR kR (by exact fun _ _ _ h=>h) (Or.inl ⟨rF,?_⟩) (by assumption) ?_
 rotate_left 1
 ·(intro wS hSw;(try dsimp only at hSw);go_simp;try(with_reducible rfl))
 try simp only[Act.put,List.setIfInBounds_toArray,List.set_cons_zero,List.set_cons_succ]
 refine wpAnyH_take (i:=18) (v:=?_) (by simp only[List.getElem?_toArray,List.getElem?_cons_succ,List.getElem?_cons_zero];rfl) kR kR kR (by exact fun _ _ _ h=>h) (Or.inl ⟨rF,?_⟩) (by assumption) ?_
 rotate_left 1
 ·(intro wS hSw;(try dsimp only at hSw);go_simp;try(with_reducible rfl))
 try simp only[Act.put,List.setIfInBounds_toArray,List.set_cons_zero,List.set_cons_succ]
 refine wpAnyH_take (i:=19) (v:=?_) (by simp only[List.getElem?_toArray,List.getElem?_cons_succ,List.getElem?_cons_zero];rfl) kR kR kR (by exact fun _ _ _ h=>h) (Or.inl ⟨rF,?_⟩) (by assumption) ?_
 rotate_left 1
 ·(intro wS hSw;(try dsimp only at hSw);go_simp;try(with_reducible rfl))
 try simp only[Act.put,List.setIfInBounds_toArray,List.set_cons_zero,List.set_cons_succ]
 refine wpAnyH_take (i:=20) (v:=?_) (by simp only[List.getElem?_toArray,List.getElem?_cons_succ,List.getElem?_cons_zero];rfl) kR kR kR (by exact fun _ _ _ h=>h) (Or.inl ⟨rF,?_⟩) (by assumption) ?_
 rotate_left 1
 ·(intro wS hSw;(try dsimp only at hSw);go_simp;try(with_reducible rfl))
 try simp only[Act.put,List.setIfInBounds_toArray,List.set_cons_zero,List.set_cons_succ]
 refine wpAnyH_take (i:=21) (v:=?_) (by simp only[List.getElem?_toArray,List.getElem?_cons_succ,List.getElem?_cons_zero];rfl) kR kR kR (by exact fun _ _ _ h=>h) (Or.inl ⟨rF,?_⟩) (by assumption) ?_
 rotate_left 1
 ·(intro wS hSw;(try dsimp only at hSw);go_simp;try(with_reducible rfl))
 try simp only[Act.put,List.setIfInBounds_toArray,List.set_cons_zero,List.set_cons_succ]
 refine wpAnyH_take (i:=22) (v:=?_) (by simp only[List.getElem?_toArray,List.getElem?_cons_succ,List.getElem?_cons_zero];rfl) kR kR kR (by exact fun _ _ _ h=>h) (Or.inl ⟨rF,?_⟩) (by assumption) ?_
 rotate_left 1
 ·(intro wS hSw;(try dsimp only at hSw);go_simp;try(with_reducible rfl))
 try simp only[Act.put,List.setIfInBounds_toArray,List.set_cons_zero,List.set_cons_succ]
 refine wpAnyH_take (i:=23) (v:=?_) (by simp only[List.getElem?_toArray,List.getElem?_cons_succ,List.getElem?_cons_zero];rfl) kR kR kR (by exact fun _ _ _ h=>h) (Or.inl ⟨rF,?_⟩) (by assumption) ?_
 rotate_left 1
 ·(intro wS hSw;(try dsimp only at hSw);go_simp;try(with_reducible rfl))
 try simp only[Act.put,List.setIfInBounds_toArray,List.set_cons_zero,List.set_cons_succ]
 refine wpAnyH_take (i:=24) (v:=?_) (by simp only[List.getElem?_toArray,List.getElem?_cons_succ,List.getElem?_cons_zero];rfl) kR kR kR (by exact fun _ _ _ h=>h) (Or.inl ⟨rF,?_⟩) (by assumption) ?_
 rotate_left 1
 ·(intro wS hSw;(try dsimp only at hSw);go_simp;try(with_reducible rfl))
 try simp only[Act.put,List.setIfInBounds_toArray,List.set_cons_zero,List.set_cons_succ]
 clear hJ
 refine AP 25 fun K hK=>?_
 go_simp
 (go_at_call 92;(with_reducible refine(HKC.out _ (bel HTD.out.bel HB4.out)).mono ?_);rintro e w5 ⟨rfl,hb9⟩;have HB5:Hid (Below Wd.heap.size Wd w5):=bel HB4.out hb9;clear hb9;clear c0 c1 c2 c3 i1 i2 i3 i4 i5 d0 d1;obtain⟨c0,c1,c2,c3,i1,i2,i3,i4,i5,d0,d1⟩:=HCD.out w5 HB5.out)
 try(go_wp2_with fail)
 refine AW hK fun hJ=>?_
 clear hK K
 refine wpAnyH_take (i:=26) (v:=?_) (by simp only[List.getElem?_toArray,List.getElem?_cons_succ,List.getElem?_cons_zero];rfl) kR kR kR (by exact fun _ _ _ h=>h) (Or.inl ⟨rF,?_⟩) (by assumption) ?_
 rotate_left 1
 ·(intro wS hSw;(try dsimp only at hSw);go_simp;try(with_reducible rfl))
 try simp only[Act.put,List.setIfInBounds_toArray,List.set_cons_zero,List.set_cons_succ]
 refine wpAnyH_take (i:=27) (v:=?_) (by simp only[List.getElem?_toArray,List.getElem?_cons_succ,List.getElem?_cons_zero];rfl) kR kR kR (by exact fun _ _ _ h=>h) (Or.inl ⟨rF,?_⟩) (by assumption) ?_
 rotate_left 1
 ·(intro wS hSw;(try dsimp only at hSw);go_simp;try(with_reducible rfl))
 try simp only[Act.put,List.setIfInBounds_toArray,List.set_cons_zero,List.set_cons_succ]
 refine wpAnyH_done kR ?_ _
 go_wp2
 go_ret
 exact⟨Ad HQF.out,bel HTD.bel HB5.out⟩):p:=h
theorem Ro{p:Prop}(h:p:=by
 refine wpAnyH_take (i:=0) (v:=?_) (by simp only[List.getElem?_toArray,List.getElem?_cons_succ,List.getElem?_cons_zero];rfl) kR kR kR (by exact fun _ _ _ h=>h) (Or.inl ⟨rF,?_⟩) (by assumption) ?_
 rotate_left 1
 ·(intro wS hSw;(try dsimp only at hSw);go_simp;try(with_reducible rfl))
 try simp only[Act.put,List.setIfInBounds_toArray,List.set_cons_zero,List.set_cons_succ]
 refine wpAnyH_take (i:=1) (v:=?_) (by simp only[List.getElem?_toArray,List.getElem?_cons_succ,List.getElem?_cons_zero];rfl) kR kR kR (by exact fun _ _ _ h=>h) (Or.inl ⟨rF,?_⟩) (by assumption) ?_
 rotate_left 1
 ·(intro wS hSw;(try dsimp only at hSw);go_simp;try(with_reducible rfl))
 try simp only[Act.put,List.setIfInBounds_toArray,List.set_cons_zero,List.set_cons_succ]
 refine wpAnyH_take (i:=2) (v:=?_) (by simp only[List.getElem?_toArray,List.getElem?_cons_succ,List.getElem?_cons_zero];rfl) kR kR kR (by exact fun _ _ _ h=>h) (Or.inl ⟨rF,?_⟩) (by assumption) ?_
 rotate_left 1
 ·(intro wS hSw;(try dsimp only at hSw);go_simp;try(with_reducible rfl))
 try simp only[Act.put,List.setIfInBounds_toArray,List.set_cons_zero,List.set_cons_succ]
 refine wpAnyH_take (i:=3) (v:=?_) (by simp only[List.getElem?_toArray,List.getElem?_cons_succ,List.getElem?_cons_zero];rfl) kR kR kR (by exact fun _ _ _ h=>h) (Or.inl ⟨rF,?_⟩) (by assumption) ?_
 rotate_left 1
 ·(intro wS hSw;(try dsimp only at hSw);go_simp;try(with_reducible rfl))
 try simp only[Act.put,List.setIfInBounds_toArray,List.set_cons_zero,List.set_cons_succ]
 refine wpAnyH_take (i:=4) (v:=?_) (by simp only[List.getElem?_toArray,List.getElem?_cons_succ,List.getElem?_cons_zero];rfl) kR kR kR (by exact fun _ _ _ h=>h) (Or.inl ⟨rF,?_⟩) (by assumption) ?_
 rotate_left 1
 ·(intro wS hSw;(try dsimp only at hSw);go_simp;try(with_reducible rfl))
 try simp only[Act.put,List.setIfInBounds_toArray,List.set_cons_zero,List.set_cons_succ]
 refine wpAnyH_take (i:=5) (v:=?_) (by simp only[List.getElem?_toArray,List.getElem?_cons_succ,List.getElem?_cons_zero];rfl) kR kR kR (by exact fun _ _ _ h=>h) (Or.inl ⟨rF,?_⟩) (by assumption) ?_
 rotate_left 1
 ·(intro wS hSw;(try dsimp only at hSw);go_simp;try(with_reducible rfl))
 try simp only[Act.put,List.setIfInBounds_toArray,List.set_cons_zero,List.set_cons_succ]
 clear hJ
 refine AP 6 fun K hK=>?_
 go_simp
 (go_at_call 92;(with_reducible refine(HKA.out _ (bel HTD.out.bel (Am _))).mono ?_);rintro e w3 ⟨rfl,hb9⟩;have HB3:Hid (Below Wd.heap.size Wd w3):=bel (Am _) hb9;clear hb9;obtain⟨c0,c1,c2,c3,i1,i2,i3,i4,i5,d0,d1⟩:=HCD.out w3 HB3.out)
 try(go_wp2_with fail)
 refine AW hK fun hJ=>?_
 clear hK K
 refine wpAnyH_take (i:=7) (v:=?_) (by simp only[List.getElem?_toArray,List.getElem?_cons_succ,List.getElem?_cons_zero];rfl) kR kR kR (by exact fun _ _ _ h=>h) (Or.inl ⟨rF,?_⟩) (by assumption) ?_
 rotate_left 1
 ·(intro wS hSw;(try dsimp only at hSw);go_simp;try(with_reducible rfl))
 try simp only[Act.put,List.setIfInBounds_toArray,List.set_cons_zero,List.set_cons_succ]
 refine wpAnyH_take (i:=8) (v:=?_) (by simp only[List.getElem?_toArray,List.getElem?_cons_succ,List.getElem?_cons_zero];rfl) kR kR kR (by exact fun _ _ _ h=>h) (Or.inl ⟨rF,?_⟩) (by assumption) ?_
 rotate_left 1
 ·(intro wS hSw;(try dsimp only at hSw);go_simp;try(with_reducible rfl))
 try simp only[Act.put,List.setIfInBounds_toArray,List.set_cons_zero,List.set_cons_succ]
 refine wpAnyH_take (i:=9) (v:=?_) (by simp only[List.getElem?_toArray,List.getElem?_cons_succ,List.getElem?_cons_zero];rfl) kR kR kR (by exact fun _ _ _ h=>h) (Or.inl ⟨rF,?_⟩) (by assumption) ?_
 rotate_left 1
 ·(intro wS hSw;(try dsimp only at hSw);go_simp;try(with_reducible rfl))
 try simp only[Act.put,List.setIfInBounds_toArray,List.set_cons_zero,List.set_cons_succ]
 refine wpAnyH_take (i:=10) (v:=?_) (by simp only[List.getElem?_toArray,List.getElem?_cons_succ,List.getElem?_cons_zero];rfl) kR kR kR (by exact fun _ _ _ h=>h) (Or.inl ⟨rF,?_⟩) (by assumption) ?_
 rotate_left 1
 ·(intro wS hSw;(try dsimp only at hSw);go_simp;try(with_reducible rfl))
 try simp only[Act.put,List.setIfInBounds_toArray,List.set_cons_zero,List.set_cons_succ]
 refine wpAnyH_take (i:=11) (v:=?_) (by simp only[List.getElem?_toArray,List.getElem?_cons_succ,List.getElem?_cons_zero];rfl) kR kR kR (by exact fun _ _ _ h=>h) (Or.inl ⟨rF,?_⟩) (by assumption) ?_
 rotate_left 1
 ·(intro wS hSw;(try dsimp only at hSw);go_simp;try(with_reducible rfl))
 try simp only[Act.put,List.setIfInBounds_toArray,List.set_cons_zero,List.set_cons_succ]
 refine wpAnyH_take (i:=12) (v:=?_) (by simp only[List.getElem?_toArray,List.getElem?_cons_succ,List.getElem?_cons_zero];rfl) kR kR kR (by exact fun _ _ _ h=>h) (Or.inl ⟨rF,?_⟩) (by assumption) ?_
 rotate_left 1
 ·(intro wS hSw;(try dsimp only at hSw);go_simp;try(with_reducible rfl))
 try simp only[Act.put,List.setIfInBounds_toArray,List.set_cons_zero,List.set_cons_succ]
 refine wpAnyH_take (i:=13) (v:=?_) (by simp only[List.getElem?_toArray,List.getElem?_cons_succ,List.getElem?_cons_zero];rfl) kR kR kR (by exact fun _ _ _ h=>h) (Or.inl ⟨rF,?_⟩) (by assumption) ?_
 rotate_left 1
 ·(intro wS hSw;(try dsimp only at hSw);go_simp;try(with_reducible rfl))
 try simp only[Act.put,List.setIfInBounds_toArray,List.set_cons_zero,List.set_cons_succ]
 refine wpAnyH_take (i:=14) (v:=?_) (by simp only[List.getElem?_toArray,List.getElem?_cons_succ,List.getElem?_cons_zero];rfl) kR kR kR (by exact fun _ _ _ h=>h) (Or.inl ⟨rF,?_⟩) (by assumption) ?_
 rotate_left 1
 ·(intro wS hSw;(try dsimp only at hSw);go_simp;try(with_reducible rfl))
 try simp only[Act.put,List.setIfInBounds_toArray,List.set_cons_zero,List.set_cons_succ]
 clear hJ
 refine AP 15 fun K hK=>?_
 go_simp
 (go_at_call 92;(with_reducible refine(HKB.out _ (bel HTD.out.bel HB3.out)).mono ?_);rintro e w4 ⟨rfl,hb9⟩;have HB4:Hid (Below Wd.heap.size Wd w4):=bel HB3.out hb9;clear hb9;clear c0 c1 c2 c3 i1 i2 i3 i4 i5 d0 d1;obtain⟨c0,c1,c2,c3,i1,i2,i3,i4,i5,d0,d1⟩:=HCD.out w4 HB4.out)
 try(go_wp2_with fail)
 refine AW hK fun hJ=>?_
 clear hK K
 refine wpAnyH_take (i:=16) (v:=?_) (by simp only[List.getElem?_toArray,List.getElem?_cons_succ,List.getElem?_cons_zero];rfl) kR kR kR (by exact fun _ _ _ h=>h) (Or.inl ⟨rF,?_⟩) (by assumption) ?_
 rotate_left 1
 ·(intro wS hSw;(try dsimp only at hSw);go_simp;try(with_reducible rfl))
 try simp only[Act.put,List.setIfInBounds_toArray,List.set_cons_zero,List.set_cons_succ]
 refine wpAnyH_take (i:=17) (v:=?_) (by simp only[List.getElem?_toArray,List.getElem?_cons_succ,List.getElem?_cons_zero];rfl) kR kR kR (by exact fun _ _ _ h=>h) (Or.inl ⟨rF,?_⟩) (by assumption) ?_
 rotate_left 1
 ·(intro wS hSw;(try dsimp only at hSw);go_simp;try(with_reducible rfl))
 try simp only[Act.put,List.setIfInBounds_toArray,List.set_cons_zero,List.set_cons_succ]
 refine wpAnyH_take (i:=18) (v:=?_) (by simp only[List.getElem?_toArray,List.getElem?_cons_succ,List.getElem?_cons_zero];rfl) kR kR kR (by exact fun _ _ _ h=>h) (Or.inl ⟨rF,?_⟩) (by assumption) ?_
 rotate_left 1
 ·(intro wS hSw;(try dsimp only at hSw);go_simp;try(with_reducible rfl))
 try simp only[Act.put,List.setIfInBounds_toArray,List.set_cons_zero,List.set_cons_succ]
 refine wpAnyH_take (i:=19) (v:=undef) (by simp only[List.getElem?_toArray,List.getElem?_cons_succ,List.getElem?_cons_zero];rfl) kR kR kR (by exact fun _ _ _ h=>h) (Or.inr ⟨rF,rfl⟩) (by assumption) ?_
 try simp only[Act.put,List.setIfInBounds_toArray,List.set_cons_zero,List.set_cons_succ]
 refine wpAnyH_take (i:=20) (v:=undef) (by simp only[List.getElem?_toArray,List.getElem?_cons_succ,List.getElem?_cons_zero];rfl) kR kR kR (by exact fun _ _ _ h=>h) (Or.inr ⟨rF,rfl⟩) (by assumption) ?_
 try simp only[Act.put,List.setIfInBounds_toArray,List.set_cons_zero,List.set_cons_succ]
 refine wpAnyH_take (i:=21) (v:=undef) (by simp only[List.getElem?_toArray,List.getElem?_cons_succ,List.getElem?_cons_zero];rfl) kR kR kR (by exact fun _ _ _ h=>h) (Or.inr ⟨rF,rfl⟩) (by assumption) ?_
 try simp only[Act.put,List.setIfInBounds_toArray,List.set_cons_zero,List.set_cons_succ]
 refine wpAnyH_take (i:=22) (v:=undef) (by simp only[List.getElem?_toArray,List.getElem?_cons_succ,List.getElem?_cons_zero];rfl) kR kR kR (by exact fun _ _ _ h=>h) (Or.inr ⟨rF,rfl⟩) (by assumption) ?_
 try simp only[Act.put,List.setIfInBounds_toArray,List.set_cons_zero,List.set_cons_succ]
 refine wpAnyH_take (i:=23) (v:=undef) (by simp only[List.getElem?_toArray,List.getElem?_cons_succ,List.getElem?_cons_zero];rfl) kR kR kR (by exact fun _ _ _ h=>h) (Or.inr ⟨rF,rfl⟩) (by assumption) ?_
 try simp only[Act.put,List.setIfInBounds_toArray,List.set_cons_zero,List.set_cons_succ]
 refine wpAnyH_take (i:=24) (v:=undef) (by simp only[List.getElem?_toArray,List.getElem?_cons_succ,List.getElem?_cons_zero];rfl) kR kR kR (by exact fun _ _ _ h=>h) (Or.inr ⟨rF,rfl⟩) (by assumption) ?_
 try simp only[Act.put,List.setIfInBounds_toArray,List.set_cons_zero,List.set_cons_succ]
 refine wpAnyH_take (i:=25) (v:=undef) (by simp only[List.getElem?_toArray,List.getElem?_cons_succ,List.getElem?_cons_zero];rfl) kR kR kR (by exact fun _ _ _ h=>h) (Or.inr ⟨rF,rfl⟩) (by assumption) ?_
 try simp only[Act.put,List.setIfInBounds_toArray,List.set_cons_zero,List.set_cons_succ]
 refine wpAnyH_take (i:=26) (v:=undef) (by simp only[List.getElem?_toArray,List.getElem?_cons_succ,List.getElem?_cons_zero];rfl) kR kR kR (by exact fun _ _ _ h=>h) (Or.inr ⟨rF,rfl⟩) (by assumption) ?_
 try simp only[Act.put,List.setIfInBounds_toArray,List.set_cons_zero,List.set_cons_succ]
 refine wpAnyH_take (i:=27) (v:=?_) (by simp only[List.getElem?_toArray,List.getElem?_cons_succ,List.getElem?_cons_zero];rfl) kR kR kR (by exact fun _ _ _ h=>h) (Or.inl ⟨rF,?_⟩) (by assumption) ?_
 rotate_left 1
 ·(intro wS hSw;(try dsimp only at hSw);go_simp;try(with_reducible rfl))
 try simp only[Act.put,List.setIfInBounds_toArray,List.set_cons_zero,List.set_cons_succ]
 refine wpAnyH_done kR ?_ _
 go_wp2
 go_ret
 exact⟨Ad HQF.out,bel HTD.bel HB4.out⟩):p:=h
theorem Rp{p:Prop}(h:p:=by
 refine wpAnyH_take (i:=0) (v:=?_) (by simp only[List.getElem?_toArray,List.getElem?_cons_succ,List.getElem?_cons_zero];rfl) kR kR kR (by exact fun _ _ _ h=>h) (Or.inl ⟨rF,?_⟩) (by assumption) ?_
 rotate_left 1
 ·(intro wS hSw;(try dsimp only at hSw);go_simp;try(with_reducible rfl))
 try simp only[Act.put,List.setIfInBounds_toArray,List.set_cons_zero,List.set_cons_succ]
 refine wpAnyH_take (i:=1) (v:=?_) (by simp only[List.getElem?_toArray,List.getElem?_cons_succ,List.getElem?_cons_zero];rfl) kR kR kR (by exact fun _ _ _ h=>h) (Or.inl ⟨rF,?_⟩) (by assumption) ?_
 rotate_left 1
 ·(intro wS hSw;(try dsimp only at hSw);go_simp;try(with_reducible rfl))
 try simp only[Act.put,List.setIfInBounds_toArray,List.set_cons_zero,List.set_cons_succ]
 refine wpAnyH_take (i:=2) (v:=?_) (by simp only[List.getElem?_toArray,List.getElem?_cons_succ,List.getElem?_cons_zero];rfl) kR kR kR (by exact fun _ _ _ h=>h) (Or.inl ⟨rF,?_⟩) (by assumption) ?_
 rotate_left 1
 ·(intro wS hSw;(try dsimp only at hSw);go_simp;try(with_reducible rfl))
 try simp only[Act.put,List.setIfInBounds_toArray,List.set_cons_zero,List.set_cons_succ]
 refine wpAnyH_take (i:=3) (v:=?_) (by simp only[List.getElem?_toArray,List.getElem?_cons_succ,List.getElem?_cons_zero];rfl) kR kR kR (by exact fun _ _ _ h=>h) (Or.inl ⟨rF,?_⟩) (by assumption) ?_
 rotate_left 1
 ·(intro wS hSw;(try dsimp only at hSw);go_simp;try(with_reducible rfl))
 try simp only[Act.put,List.setIfInBounds_toArray,List.set_cons_zero,List.set_cons_succ]
 refine wpAnyH_take (i:=4) (v:=?_) (by simp only[List.getElem?_toArray,List.getElem?_cons_succ,List.getElem?_cons_zero];rfl) kR kR kR (by exact fun _ _ _ h=>h) (Or.inl ⟨rF,?_⟩) (by assumption) ?_
 rotate_left 1
 ·(intro wS hSw;(try dsimp only at hSw);go_simp;try(with_reducible rfl))
 try simp only[Act.put,List.setIfInBounds_toArray,List.set_cons_zero,List.set_cons_succ]
 refine wpAnyH_take (i:=5) (v:=?_) (by simp only[List.getElem?_toArray,List.getElem?_cons_succ,List.getElem?_cons_zero];rfl) kR kR kR (by exact fun _ _ _ h=>h) (Or.inl ⟨rF,?_⟩) (by assumption) ?_
 rotate_left 1
 ·(intro wS hSw;(try dsimp only at hSw);go_simp;try(with_reducible rfl))
 try simp only[Act.put,List.setIfInBounds_toArray,List.set_cons_zero,List.set_cons_succ]
 clear hJ
 refine AP 6 fun K hK=>?_
 go_simp
 (go_at_call 92;(with_reducible refine(HKA.out _ (bel HTD.out.bel (Am _))).mono ?_);rintro e w3 ⟨rfl,hb9⟩;have HB3:Hid (Below Wd.heap.size Wd w3):=bel (Am _) hb9;clear hb9;obtain⟨c0,c1,c2,c3,i1,i2,i3,i4,i5,d0,d1⟩:=HCD.out w3 HB3.out)
 try(go_wp2_with fail)
 refine AW hK fun hJ=>?_
 clear hK K
 refine wpAnyH_take (i:=7) (v:=?_) (by simp only[List.getElem?_toArray,List.getElem?_cons_succ,List.getElem?_cons_zero];rfl) kR kR kR (by exact fun _ _ _ h=>h) (Or.inl ⟨rF,?_⟩) (by assumption) ?_
 rotate_left 1
 ·(intro wS hSw;(try dsimp only at hSw);go_simp;try(with_reducible rfl))
 try simp only[Act.put,List.setIfInBounds_toArray,List.set_cons_zero,List.set_cons_succ]
 refine wpAnyH_take (i:=8) (v:=?_) (by simp only[List.getElem?_toArray,List.getElem?_cons_succ,List.getElem?_cons_zero];rfl) kR kR kR (by exact fun _ _ _ h=>h) (Or.inl ⟨rF,?_⟩) (by assumption) ?_
 rotate_left 1
 ·(intro wS hSw;(try dsimp only at hSw);go_simp;try(with_reducible rfl))
 try simp only[Act.put,List.setIfInBounds_toArray,List.set_cons_zero,List.set_cons_succ]
 refine wpAnyH_take (i:=9) (v:=undef) (by simp only[List.getElem?_toArray,List.getElem?_cons_succ,List.getElem?_cons_zero];rfl) kR kR kR (by exact fun _ _ _ h=>h) (Or.inr ⟨rF,rfl⟩) (by assumption) ?_
 try simp only[Act.put,List.setIfInBounds_toArray,List.set_cons_zero,List.set_cons_succ]
 refine wpAnyH_take (i:=10) (v:=undef) (by simp only[List.getElem?_toArray,List.getElem?_cons_succ,List.getElem?_cons_zero];rfl) kR kR kR (by exact fun _ _ _ h=>h) (Or.inr ⟨rF,rfl⟩) (by assumption) ?_
 try simp only[Act.put,List.setIfInBounds_toArray,List.set_cons_zero,List.set_cons_succ]
 refine wpAnyH_take (i:=11) (v:=undef) (by simp only[List.getElem?_toArray,List.getElem?_cons_succ,List.getElem?_cons_zero];rfl) kR kR kR (by exact fun _ _ _ h=>h) (Or.inr ⟨rF,rfl⟩) (by assumption) ?_
 try simp only[Act.put,List.setIfInBounds_toArray,List.set_cons_zero,List.set_cons_succ]
 refine wpAnyH_take (i:=12) (v:=undef) (by simp only[List.getElem?_toArray,List.getElem?_cons_succ,List.getElem?_cons_zero];rfl) kR kR kR (by exact fun _ _ _ h=>h) (Or.inr ⟨rF,rfl⟩) (by assumption) ?_
 try simp only[Act.put,List.setIfInBounds_toArray,List.set_cons_zero,List.set_cons_succ]
 refine wpAnyH_take (i:=13) (v:=undef) (by simp only[List.getElem?_toArray,List.getElem?_cons_succ,List.getElem?_cons_zero];rfl) kR kR kR (by exact fun _ _ _ h=>h) (Or.inr ⟨rF,rfl⟩) (by assumption) ?_
 try simp only[Act.put,List.setIfInBounds_toArray,List.set_cons_zero,List.set_cons_succ]
 refine wpAnyH_take (i:=14) (v:=undef) (by simp only[List.getElem?_toArray,List.getElem?_cons_succ,List.getElem?_cons_zero];rfl) kR kR kR (by exact fun _ _ _ h=>h) (Or.inr ⟨rF,rfl⟩) (by assumption) ?_
 try simp only[Act.put,List.setIfInBounds_toArray,List.set_cons_zero,List.set_cons_succ]
 refine wpAnyH_take (i:=15) (v:=undef) (by simp only[List.getElem?_toArray,List.getElem?_cons_succ,List.getElem?_cons_zero];rfl) kR kR kR (by exact fun _ _ _ h=>h) (Or.inr ⟨rF,rfl⟩) (by assumption) ?_
 try simp only[Act.put,List.setIfInBounds_toArray,List.set_cons_zero,List.set_cons_succ]
 refine wpAnyH_take (i:=16) (v:=undef) (by simp only[List.getElem?_toArray,List.getElem?_cons_succ,List.getElem?_cons_zero];rfl) kR kR kR (by exact fun _ _ _ h=>h) (Or.inr ⟨rF,rfl⟩) (by assumption) ?_
 try simp only[Act.put,List.setIfInBounds_toArray,List.set_cons_zero,List.set_cons_succ]
 refine wpAnyH_take (i:=17) (v:=?_) (by simp only[List.getElem?_toArray,List.getElem?_cons_succ,List.getElem?_cons_zero];rfl) kR kR kR (by exact fun _ _ _ h=>h) (Or.inl ⟨rF,?_⟩) (by assumption) ?_
 rotate_left 1
 ·(intro wS hSw;(try dsimp only at hSw);go_simp;try(with_reducible rfl))
 try simp only[Act.put,List.setIfInBounds_toArray,List.set_cons_zero,List.set_cons_succ]
 refine wpAnyH_take (i:=18) (v:=?_) (by simp only[List.getElem?_toArray,List.getElem?_cons_succ,List.getElem?_cons_zero];rfl) kR kR kR (by exact fun _ _ _ h=>h) (Or.inl ⟨rF,?_⟩) (by assumption) ?_
 rotate_left 1
 ·(intro wS hSw;(try dsimp only at hSw);go_simp;try(with_reducible rfl))
 try simp only[Act.put,List.setIfInBounds_toArray,List.set_cons_zero,List.set_cons_succ]
 refine wpAnyH_take (i:=19) (v:=undef) (by simp only[List.getElem?_toArray,List.getElem?_cons_succ,List.getElem?_cons_zero];rfl) kR kR kR (by exact fun _ _ _ h=>h) (Or.inr ⟨rF,rfl⟩) (by assumption) ?_
 try simp only[Act.put,List.setIfInBounds_toArray,List.set_cons_zero,List.set_cons_succ]
 refine wpAnyH_take (i:=20) (v:=undef) (by simp only[List.getElem?_toArray,List.getElem?_cons_succ,List.getElem?_cons_zero];rfl) kR kR kR (by exact fun _ _ _ h=>h) (Or.inr ⟨rF,rfl⟩) (by assumption) ?_
 try simp only[Act.put,List.setIfInBounds_toArray,List.set_cons_zero,List.set_cons_succ]
 refine wpAnyH_take (i:=21) (v:=undef) (by simp only[List.getElem?_toArray,List.getElem?_cons_succ,List.getElem?_cons_zero];rfl) kR kR kR (by exact fun _ _ _ h=>h) (Or.inr ⟨rF,rfl⟩) (by assumption) ?_
 try simp only[Act.put,List.setIfInBounds_toArray,List.set_cons_zero,List.set_cons_succ]
 refine wpAnyH_take (i:=22) (v:=undef) (by simp only[List.getElem?_toArray,List.getElem?_cons_succ,List.getElem?_cons_zero];rfl) kR kR kR (by exact fun _ _ _ h=>h) (Or.inr ⟨rF,rfl⟩) (by assumption) ?_
 try simp only[Act.put,List.setIfInBounds_toArray,List.set_cons_zero,List.set_cons_succ]
 refine wpAnyH_take (i:=23) (v:=undef) (by simp only[List.getElem?_toArray,List.getElem?_cons_succ,List.getElem?_cons_zero];rfl) kR kR kR (by exact fun _ _ _ h=>h) (Or.inr ⟨rF,rfl⟩) (by assumption) ?_
 try simp only[Act.put,List.setIfInBounds_toArray,List.set_cons_zero,List.set_cons_succ]
 refine wpAnyH_take (i:=24) (v:=undef) (by simp only[List.getElem?_toArray,List.getElem?_cons_succ,List.getElem?_cons_zero];rfl) kR kR kR (by exact fun _ _ _ h=>h) (Or.inr ⟨rF,rfl⟩) (by assumption) ?_
 try simp only[Act.put,List.setIfInBounds_toArray,List.set_cons_zero,List.set_cons_succ]
 refine wpAnyH_take (i:=25) (v:=undef) (by simp only[List.getElem?_toArray,List.getElem?_cons_succ,List.getElem?_cons_zero];rfl) kR kR kR (by exact fun _ _ _ h=>h) (Or.inr ⟨rF,rfl⟩) (by assumption) ?_
 try simp only[Act.put,List.setIfInBounds_toArray,List.set_cons_zero,List.set_cons_succ]
 refine wpAnyH_take (i:=26) (v:=undef) (by simp only[List.getElem?_toArray,List.getElem?_cons_succ,List.getElem?_cons_zero];rfl) kR kR kR (by exact fun _ _ _ h=>h) (Or.inr ⟨rF,rfl⟩) (by assumption) ?_
 try simp only[Act.put,List.setIfInBounds_toArray,List.set_cons_zero,List.set_cons_succ]
 refine wpAnyH_take (i:=27) (v:=?_) (by simp only[List.getElem?_toArray,List.getElem?_cons_succ,List.getElem?_cons_zero];rfl) kR kR kR (by exact fun _ _ _ h=>h) (Or.inl ⟨rF,?_⟩) (by assumption) ?_
 rotate_left 1
 ·(intro wS hSw;(try dsimp only at hSw);go_simp;try(with_reducible rfl))
 try simp only[Act.put,List.setIfInBounds_toArray,List.set_cons_zero,List.set_cons_succ]
 refine wpAnyH_done kR ?_ _
 go_wp2
 go_ret
 exact⟨Ad HQF.out,bel HTD.bel HB3.out⟩):p:=h
theorem Rq{p:Prop}(h:p:=by
 go_enter func35,ntmps35
 go_wp2
 refine rG (fun v=>v.cell? ⟨w.heap.size,0,none⟩=some v0/\v.cell? ⟨w.heap.size,1,none⟩=some v1/\v.cell? ⟨w.heap.size,2,none⟩=some v2/\v.cell? ⟨w.heap.size,3,none⟩=some v3/\v.cell? ⟨w.heap.size+1,0,none⟩=some (.int .i64 op)/\v.cell? ⟨w.heap.size+1,1,none⟩=some (.int .i64 D)/\v.cell? ⟨w.heap.size+1,2,none⟩=some (.int .i64 A)/\v.cell? ⟨w.heap.size+1,3,none⟩=some (.int .i64 Q)/\v.cell? ⟨w.heap.size+1,4,none⟩=some (.int .i64 E)/\v.cell? ⟨w.heap.size+1,5,none⟩=some (.int .i64 nn)/\v.cell? ⟨w.heap.size+1,6,none⟩=some (.int .u32 bt)) fun hJ=>?_
 refine wpAnyH_take (i:=0) (v:=?_) (by simp only[List.getElem?_toArray,List.getElem?_cons_succ,List.getElem?_cons_zero];rfl) kR kR kR (by exact fun _ _ _ h=>h) (Or.inl ⟨rF,?_⟩) (by assumption) ?_
 rotate_left 1
 ·(intro wS hSw;(try dsimp only at hSw);go_simp;try(with_reducible rfl))
 try simp only[Act.put,List.setIfInBounds_toArray,List.set_cons_zero,List.set_cons_succ]
 refine wpAnyH_take (i:=1) (v:=?_) (by simp only[List.getElem?_toArray,List.getElem?_cons_succ,List.getElem?_cons_zero];rfl) kR kR kR (by exact fun _ _ _ h=>h) (Or.inl ⟨rF,?_⟩) (by assumption) ?_
 rotate_left 1
 ·(intro wS hSw;(try dsimp only at hSw);go_simp;try(with_reducible rfl))
 try simp only[Act.put,List.setIfInBounds_toArray,List.set_cons_zero,List.set_cons_succ]
 clear hJ
 refine AP 2 fun K hK=>?_
 go_simp
 (go_at_call 68;(with_reducible refine(HFIT.out _ (bel HT0.out.bel (Am _))).mono ?_);rintro e wz ⟨rfl,hbz⟩;have HBZ:Hid (Below ((w.alloc (.cells #[v0,v1,v2,v3] 27)).alloc (.cells #[.int .i64 op,.int .i64 D,.int .i64 A,.int .i64 Q,.int .i64 E,.int .i64 nn,.int .u32 bt] 70)).heap.size ((w.alloc (.cells #[v0,v1,v2,v3] 27)).alloc (.cells #[.int .i64 op,.int .i64 D,.int .i64 A,.int .i64 Q,.int .i64 E,.int .i64 nn,.int .u32 bt] 70)) wz):=bel (Am _) hbz;clear hbz;obtain⟨-,c0,c1,c2,c3,i0,i1,i2,i3,i4,i5,i6⟩:=HT0.out.next HBZ.out)
 try(go_wp2_with fail)
 refine AW hK fun hJ=>?_
 clear hK K
 refine wpAnyH_take (i:=3) (v:=?_) (by simp only[List.getElem?_toArray,List.getElem?_cons_succ,List.getElem?_cons_zero];rfl) kR kR kR (by exact fun _ _ _ h=>h) (Or.inl ⟨rF,?_⟩) (by assumption) ?_
 rotate_left 1
 ·(intro wS hSw;(try dsimp only at hSw);go_simp;try(with_reducible rfl))
 try simp only[Act.put,List.setIfInBounds_toArray,List.set_cons_zero,List.set_cons_succ]
 refine wpAnyH_take (i:=4) (v:=?_) (by simp only[List.getElem?_toArray,List.getElem?_cons_succ,List.getElem?_cons_zero];rfl) kR kR kR (by exact fun _ _ _ h=>h) (Or.inl ⟨rF,?_⟩) (by assumption) ?_
 rotate_left 1
 ·(intro wS hSw;(try dsimp only at hSw);go_simp;try(with_reducible rfl))
 try simp only[Act.put,List.setIfInBounds_toArray,List.set_cons_zero,List.set_cons_succ]
 refine wpAnyH_take (i:=5) (v:=undef) (by simp only[List.getElem?_toArray,List.getElem?_cons_succ,List.getElem?_cons_zero];rfl) kR kR kR (by exact fun _ _ _ h=>h) (Or.inr ⟨rF,rfl⟩) (by assumption) ?_
 try simp only[Act.put,List.setIfInBounds_toArray,List.set_cons_zero,List.set_cons_succ]
 refine wpAnyH_take (i:=6) (v:=undef) (by simp only[List.getElem?_toArray,List.getElem?_cons_succ,List.getElem?_cons_zero];rfl) kR kR kR (by exact fun _ _ _ h=>h) (Or.inr ⟨rF,rfl⟩) (by assumption) ?_
 try simp only[Act.put,List.setIfInBounds_toArray,List.set_cons_zero,List.set_cons_succ]
 refine wpAnyH_take (i:=7) (v:=undef) (by simp only[List.getElem?_toArray,List.getElem?_cons_succ,List.getElem?_cons_zero];rfl) kR kR kR (by exact fun _ _ _ h=>h) (Or.inr ⟨rF,rfl⟩) (by assumption) ?_
 try simp only[Act.put,List.setIfInBounds_toArray,List.set_cons_zero,List.set_cons_succ]
 refine wpAnyH_take (i:=8) (v:=undef) (by simp only[List.getElem?_toArray,List.getElem?_cons_succ,List.getElem?_cons_zero];rfl) kR kR kR (by exact fun _ _ _ h=>h) (Or.inr ⟨rF,rfl⟩) (by assumption) ?_
 try simp only[Act.put,List.setIfInBounds_toArray,List.set_cons_zero,List.set_cons_succ]
 refine wpAnyH_take (i:=9) (v:=undef) (by simp only[List.getElem?_toArray,List.getElem?_cons_succ,List.getElem?_cons_zero];rfl) kR kR kR (by exact fun _ _ _ h=>h) (Or.inr ⟨rF,rfl⟩) (by assumption) ?_
 try simp only[Act.put,List.setIfInBounds_toArray,List.set_cons_zero,List.set_cons_succ]
 refine wpAnyH_take (i:=10) (v:=undef) (by simp only[List.getElem?_toArray,List.getElem?_cons_succ,List.getElem?_cons_zero];rfl) kR kR kR (by exact fun _ _ _ h=>h) (Or.inr ⟨rF,rfl⟩) (by assumption) ?_
 try simp only[Act.put,List.setIfInBounds_toArray,List.set_cons_zero,List.set_cons_succ]
 refine wpAnyH_take (i:=11) (v:=undef) (by simp only[List.getElem?_toArray,List.getElem?_cons_succ,List.getElem?_cons_zero];rfl) kR kR kR (by exact fun _ _ _ h=>h) (Or.inr ⟨rF,rfl⟩) (by assumption) ?_
 try simp only[Act.put,List.setIfInBounds_toArray,List.set_cons_zero,List.set_cons_succ]
 refine wpAnyH_take (i:=12) (v:=undef) (by simp only[List.getElem?_toArray,List.getElem?_cons_succ,List.getElem?_cons_zero];rfl) kR kR kR (by exact fun _ _ _ h=>h) (Or.inr ⟨rF,rfl⟩) (by assumption) ?_
 try simp only[Act.put,List.setIfInBounds_toArray,List.set_cons_zero,List.set_cons_succ]
 refine wpAnyH_take (i:=13) (v:=undef) (by simp only[List.getElem?_toArray,List.getElem?_cons_succ,List.getElem?_cons_zero];rfl) kR kR kR (by exact fun _ _ _ h=>h) (Or.inr ⟨rF,rfl⟩) (by assumption) ?_
 try simp only[Act.put,List.setIfInBounds_toArray,List.set_cons_zero,List.set_cons_succ]
 refine wpAnyH_take (i:=14) (v:=undef) (by simp only[List.getElem?_toArray,List.getElem?_cons_succ,List.getElem?_cons_zero];rfl) kR kR kR (by exact fun _ _ _ h=>h) (Or.inr ⟨rF,rfl⟩) (by assumption) ?_
 try simp only[Act.put,List.setIfInBounds_toArray,List.set_cons_zero,List.set_cons_succ]
 refine wpAnyH_take (i:=15) (v:=undef) (by simp only[List.getElem?_toArray,List.getElem?_cons_succ,List.getElem?_cons_zero];rfl) kR kR kR (by exact fun _ _ _ h=>h) (Or.inr ⟨rF,rfl⟩) (by assumption) ?_
 try simp only[Act.put,List.setIfInBounds_toArray,List.set_cons_zero,List.set_cons_succ]
 refine wpAnyH_take (i:=16) (v:=undef) (by simp only[List.getElem?_toArray,List.getElem?_cons_succ,List.getElem?_cons_zero];rfl) kR kR kR (by exact fun _ _ _ h=>h) (Or.inr ⟨rF,rfl⟩) (by assumption) ?_
 try simp only[Act.put,List.setIfInBounds_toArray,List.set_cons_zero,List.set_cons_succ]
 refine wpAnyH_take (i:=17) (v:=undef) (by simp only[List.getElem?_toArray,List.getElem?_cons_succ,List.getElem?_cons_zero];rfl) kR kR kR (by exact fun _ _ _ h=>h) (Or.inr ⟨rF,rfl⟩) (by assumption) ?_
 try simp only[Act.put,List.setIfInBounds_toArray,List.set_cons_zero,List.set_cons_succ]
 refine wpAnyH_take (i:=18) (v:=undef) (by simp only[List.getElem?_toArray,List.getElem?_cons_succ,List.getElem?_cons_zero];rfl) kR kR kR (by exact fun _ _ _ h=>h) (Or.inr ⟨rF,rfl⟩) (by assumption) ?_
 try simp only[Act.put,List.setIfInBounds_toArray,List.set_cons_zero,List.set_cons_succ]
 refine wpAnyH_take (i:=19) (v:=undef) (by simp only[List.getElem?_toArray,List.getElem?_cons_succ,List.getElem?_cons_zero];rfl) kR kR kR (by exact fun _ _ _ h=>h) (Or.inr ⟨rF,rfl⟩) (by assumption) ?_
 try simp only[Act.put,List.setIfInBounds_toArray,List.set_cons_zero,List.set_cons_succ]
 refine wpAnyH_take (i:=20) (v:=undef) (by simp only[List.getElem?_toArray,List.getElem?_cons_succ,List.getElem?_cons_zero];rfl) kR kR kR (by exact fun _ _ _ h=>h) (Or.inr ⟨rF,rfl⟩) (by assumption) ?_
 try simp only[Act.put,List.setIfInBounds_toArray,List.set_cons_zero,List.set_cons_succ]
 refine wpAnyH_take (i:=21) (v:=undef) (by simp only[List.getElem?_toArray,List.getElem?_cons_succ,List.getElem?_cons_zero];rfl) kR kR kR (by exact fun _ _ _ h=>h) (Or.inr ⟨rF,rfl⟩) (by assumption) ?_
 try simp only[Act.put,List.setIfInBounds_toArray,List.set_cons_zero,List.set_cons_succ]
 refine wpAnyH_take (i:=22) (v:=undef) (by simp only[List.getElem?_toArray,List.getElem?_cons_succ,List.getElem?_cons_zero];rfl) kR kR kR (by exact fun _ _ _ h=>h) (Or.inr ⟨rF,rfl⟩) (by assumption) ?_
 try simp only[Act.put,List.setIfInBounds_toArray,List.set_cons_zero,List.set_cons_succ]
 refine wpAnyH_take (i:=23) (v:=undef) (by simp only[List.getElem?_toArray,List.getElem?_cons_succ,List.getElem?_cons_zero];rfl) kR kR kR (by exact fun _ _ _ h=>h) (Or.inr ⟨rF,rfl⟩) (by assumption) ?_
 try simp only[Act.put,List.setIfInBounds_toArray,List.set_cons_zero,List.set_cons_succ]
 refine wpAnyH_take (i:=24) (v:=?_) (by simp only[List.getElem?_toArray,List.getElem?_cons_succ,List.getElem?_cons_zero];rfl) kR kR kR (by exact fun _ _ _ h=>h) (Or.inl ⟨rF,?_⟩) (by assumption) ?_
 rotate_left 1
 ·(intro wS hSw;(try dsimp only at hSw);go_simp;try(with_reducible rfl))
 try simp only[Act.put,List.setIfInBounds_toArray,List.set_cons_zero,List.set_cons_succ]
 refine wpAnyH_done kR ?_ _
 go_wp2
 go_ret
 exact⟨Ad HQF.out,bel hb00 HBZ.out⟩):p:=h
theorem Sa{p:Prop}(h:p:=by
 have HQF:Hid (false=RES):=by show _=_;have:=HQ.out;rw[hpl]at this;exact this
 have hpl':=hpl
 unfold At at hpl'
 rw[HN2.out]at hpl'
 by_cases hn0:0<=n
 .have HLT:Hid (¬n<(n2:Int)):=by show¬_;simp[hn0]at hpl';omega
  clear hpl hpl'
  go_wp2
  refine rG (fun v=>v.cell? ⟨w.heap.size,2,none⟩=some (.slice p2 n2 q2)/\v.cell? ⟨w.heap.size+1,5,none⟩=some (.int .i64 n)) fun hJ=>?_
  refine wpAnyH_take (i:=0) (v:=?_) (by simp only[List.getElem?_toArray,List.getElem?_cons_succ,List.getElem?_cons_zero];rfl) kR kR kR (by exact fun _ _ _ h=>h) (Or.inl ⟨rF,?_⟩) (by assumption) ?_
  rotate_left 1
  ·(intro wS hSw;(try dsimp only at hSw);go_simp;try(with_reducible rfl))
  try simp only[Act.put,List.setIfInBounds_toArray,List.set_cons_zero,List.set_cons_succ]
  refine wpAnyH_take (i:=1) (v:=?_) (by simp only[List.getElem?_toArray,List.getElem?_cons_succ,List.getElem?_cons_zero];rfl) kR kR kR (by exact fun _ _ _ h=>h) (Or.inl ⟨rF,?_⟩) (by assumption) ?_
  rotate_left 1
  ·(intro wS hSw;(try dsimp only at hSw);go_simp;try(with_reducible rfl))
  try simp only[Act.put,List.setIfInBounds_toArray,List.set_cons_zero,List.set_cons_succ]
  refine wpAnyH_take (i:=2) (v:=?_) (by simp only[List.getElem?_toArray,List.getElem?_cons_succ,List.getElem?_cons_zero];rfl) kR kR kR (by exact fun _ _ _ h=>h) (Or.inl ⟨rF,?_⟩) (by assumption) ?_
  rotate_left 1
  ·(intro wS hSw;(try dsimp only at hSw);go_simp;try(with_reducible rfl))
  try simp only[Act.put,List.setIfInBounds_toArray,List.set_cons_zero,List.set_cons_succ]
  refine wpAnyH_take (i:=3) (v:=?_) (by simp only[List.getElem?_toArray,List.getElem?_cons_succ,List.getElem?_cons_zero];rfl) kR kR kR (by exact fun _ _ _ h=>h) (Or.inl ⟨rF,?_⟩) (by assumption) ?_
  rotate_left 1
  ·(intro wS hSw;(try dsimp only at hSw);go_simp;try(with_reducible rfl))
  try simp only[Act.put,List.setIfInBounds_toArray,List.set_cons_zero,List.set_cons_succ]
  refine wpAnyH_take (i:=4) (v:=?_) (by simp only[List.getElem?_toArray,List.getElem?_cons_succ,List.getElem?_cons_zero];rfl) kR kR kR (by exact fun _ _ _ h=>h) (Or.inl ⟨rF,?_⟩) (by assumption) ?_
  rotate_left 1
  ·(intro wS hSw;(try dsimp only at hSw);go_simp;try(with_reducible rfl))
  try simp only[Act.put,List.setIfInBounds_toArray,List.set_cons_zero,List.set_cons_succ]
  refine wpAnyH_take (i:=5) (v:=?_) (by simp only[List.getElem?_toArray,List.getElem?_cons_succ,List.getElem?_cons_zero];rfl) kR kR kR (by exact fun _ _ _ h=>h) (Or.inl ⟨rF,?_⟩) (by assumption) ?_
  rotate_left 1
  ·(intro wS hSw;(try dsimp only at hSw);go_simp;try(with_reducible rfl))
  try simp only[Act.put,List.setIfInBounds_toArray,List.set_cons_zero,List.set_cons_succ]
  refine wpAnyH_take (i:=6) (v:=?_) (by simp only[List.getElem?_toArray,List.getElem?_cons_succ,List.getElem?_cons_zero];rfl) kR kR kR (by exact fun _ _ _ h=>h) (Or.inl ⟨rF,?_⟩) (by assumption) ?_
  rotate_left 1
  ·(intro wS hSw;(try dsimp only at hSw);go_simp;try(with_reducible rfl))
  try simp only[Act.put,List.setIfInBounds_toArray,List.set_cons_zero,List.set_cons_succ]
  refine wpAnyH_take (i:=7) (v:=?_) (by simp only[List.getElem?_toArray,List.getElem?_cons_succ,List.getElem?_cons_zero];rfl) kR kR kR (by exact fun _ _ _ h=>h) (Or.inl ⟨rF,?_⟩) (by assumption) ?_
  rotate_left 1
  ·(intro wS hSw;(try dsimp only at hSw);go_simp;try(with_reducible rfl))
  try simp only[Act.put,List.setIfInBounds_toArray,List.set_cons_zero,List.set_cons_succ]
  refine wpAnyH_take (i:=8) (v:=?_) (by simp only[List.getElem?_toArray,List.getElem?_cons_succ,List.getElem?_cons_zero];rfl) kR kR kR (by exact fun _ _ _ h=>h) (Or.inl ⟨rF,?_⟩) (by assumption) ?_
  rotate_left 1
  ·(intro wS hSw;(try dsimp only at hSw);go_simp;try(with_reducible rfl))
  try simp only[Act.put,List.setIfInBounds_toArray,List.set_cons_zero,List.set_cons_succ]
  refine wpAnyH_take (i:=9) (v:=.bool false) (by simp only[List.getElem?_toArray,List.getElem?_cons_succ,List.getElem?_cons_zero];rfl) kR kR kR (by exact fun _ _ _ h=>h) (Or.inl ⟨rF,?_⟩) (by assumption) ?_
  ·(intro wS hSw;(try dsimp only at hSw);have hltF:=HLT.out;go_simp;first|done|rfl|omega|(simp;omega)|simp[hltF])
  try simp only[Act.put,List.setIfInBounds_toArray,List.set_cons_zero,List.set_cons_succ]
  refine wpAnyH_take (i:=10) (v:=?_) (by simp only[List.getElem?_toArray,List.getElem?_cons_succ,List.getElem?_cons_zero];rfl) kR kR kR (by exact fun _ _ _ h=>h) (Or.inl ⟨rF,?_⟩) (by assumption) ?_
  rotate_left 1
  ·(intro wS hSw;(try dsimp only at hSw);go_simp;try(with_reducible rfl))
  try simp only[Act.put,List.setIfInBounds_toArray,List.set_cons_zero,List.set_cons_succ]
  refine wpAnyH_take (i:=11) (v:=?_) (by simp only[List.getElem?_toArray,List.getElem?_cons_succ,List.getElem?_cons_zero];rfl) kR kR kR (by exact fun _ _ _ h=>h) (Or.inl ⟨rF,?_⟩) (by assumption) ?_
  rotate_left 1
  ·(intro wS hSw;(try dsimp only at hSw);go_simp;try(with_reducible rfl))
  try simp only[Act.put,List.setIfInBounds_toArray,List.set_cons_zero,List.set_cons_succ]
  refine wpAnyH_take (i:=12) (v:=undef) (by simp only[List.getElem?_toArray,List.getElem?_cons_succ,List.getElem?_cons_zero];rfl) kR kR kR (by exact fun _ _ _ h=>h) (Or.inr ⟨rF,rfl⟩) (by assumption) ?_
  try simp only[Act.put,List.setIfInBounds_toArray,List.set_cons_zero,List.set_cons_succ]
  refine wpAnyH_take (i:=13) (v:=undef) (by simp only[List.getElem?_toArray,List.getElem?_cons_succ,List.getElem?_cons_zero];rfl) kR kR kR (by exact fun _ _ _ h=>h) (Or.inr ⟨rF,rfl⟩) (by assumption) ?_
  try simp only[Act.put,List.setIfInBounds_toArray,List.set_cons_zero,List.set_cons_succ]
  refine wpAnyH_take (i:=14) (v:=undef) (by simp only[List.getElem?_toArray,List.getElem?_cons_succ,List.getElem?_cons_zero];rfl) kR kR kR (by exact fun _ _ _ h=>h) (Or.inr ⟨rF,rfl⟩) (by assumption) ?_
  try simp only[Act.put,List.setIfInBounds_toArray,List.set_cons_zero,List.set_cons_succ]
  refine wpAnyH_take (i:=15) (v:=undef) (by simp only[List.getElem?_toArray,List.getElem?_cons_succ,List.getElem?_cons_zero];rfl) kR kR kR (by exact fun _ _ _ h=>h) (Or.inr ⟨rF,rfl⟩) (by assumption) ?_
  try simp only[Act.put,List.setIfInBounds_toArray,List.set_cons_zero,List.set_cons_succ]
  refine wpAnyH_take (i:=16) (v:=undef) (by simp only[List.getElem?_toArray,List.getElem?_cons_succ,List.getElem?_cons_zero];rfl) kR kR kR (by exact fun _ _ _ h=>h) (Or.inr ⟨rF,rfl⟩) (by assumption) ?_
  try simp only[Act.put,List.setIfInBounds_toArray,List.set_cons_zero,List.set_cons_succ]
  refine wpAnyH_take (i:=17) (v:=undef) (by simp only[List.getElem?_toArray,List.getElem?_cons_succ,List.getElem?_cons_zero];rfl) kR kR kR (by exact fun _ _ _ h=>h) (Or.inr ⟨rF,rfl⟩) (by assumption) ?_
  try simp only[Act.put,List.setIfInBounds_toArray,List.set_cons_zero,List.set_cons_succ]
  refine wpAnyH_take (i:=18) (v:=undef) (by simp only[List.getElem?_toArray,List.getElem?_cons_succ,List.getElem?_cons_zero];rfl) kR kR kR (by exact fun _ _ _ h=>h) (Or.inr ⟨rF,rfl⟩) (by assumption) ?_
  try simp only[Act.put,List.setIfInBounds_toArray,List.set_cons_zero,List.set_cons_succ]
  refine wpAnyH_take (i:=19) (v:=undef) (by simp only[List.getElem?_toArray,List.getElem?_cons_succ,List.getElem?_cons_zero];rfl) kR kR kR (by exact fun _ _ _ h=>h) (Or.inr ⟨rF,rfl⟩) (by assumption) ?_
  try simp only[Act.put,List.setIfInBounds_toArray,List.set_cons_zero,List.set_cons_succ]
  refine wpAnyH_take (i:=20) (v:=undef) (by simp only[List.getElem?_toArray,List.getElem?_cons_succ,List.getElem?_cons_zero];rfl) kR kR kR (by exact fun _ _ _ h=>h) (Or.inr ⟨rF,rfl⟩) (by assumption) ?_
  try simp only[Act.put,List.setIfInBounds_toArray,List.set_cons_zero,List.set_cons_succ]
  refine wpAnyH_take (i:=21) (v:=?_) (by simp only[List.getElem?_toArray,List.getElem?_cons_succ,List.getElem?_cons_zero];rfl) kR kR kR (by exact fun _ _ _ h=>h) (Or.inl ⟨rF,?_⟩) (by assumption) ?_
  rotate_left 1
  ·(intro wS hSw;(try dsimp only at hSw);go_simp;try(with_reducible rfl))
  try simp only[Act.put,List.setIfInBounds_toArray,List.set_cons_zero,List.set_cons_succ]
  refine wpAnyH_take (i:=22) (v:=?_) (by simp only[List.getElem?_toArray,List.getElem?_cons_succ,List.getElem?_cons_zero];rfl) kR kR kR (by exact fun _ _ _ h=>h) (Or.inl ⟨rF,?_⟩) (by assumption) ?_
  rotate_left 1
  ·(intro wS hSw;(try dsimp only at hSw);go_simp;try(with_reducible rfl))
  try simp only[Act.put,List.setIfInBounds_toArray,List.set_cons_zero,List.set_cons_succ]
  refine wpAnyH_done kR ?_ _
  go_wp2
  go_ret
  exact⟨Ad HQF.out,Cl hbt⟩
 .have HLT:Hid (¬0<=n):=hn0
  clear hpl hpl' hn0
  go_wp2
  refine rG (fun v=>v.cell? ⟨w.heap.size,2,none⟩=some (.slice p2 n2 q2)/\v.cell? ⟨w.heap.size+1,5,none⟩=some (.int .i64 n)) fun hJ=>?_
  refine wpAnyH_take (i:=0) (v:=?_) (by simp only[List.getElem?_toArray,List.getElem?_cons_succ,List.getElem?_cons_zero];rfl) kR kR kR (by exact fun _ _ _ h=>h) (Or.inl ⟨rF,?_⟩) (by assumption) ?_
  rotate_left 1
  ·(intro wS hSw;(try dsimp only at hSw);go_simp;try(with_reducible rfl))
  try simp only[Act.put,List.setIfInBounds_toArray,List.set_cons_zero,List.set_cons_succ]
  refine wpAnyH_take (i:=1) (v:=?_) (by simp only[List.getElem?_toArray,List.getElem?_cons_succ,List.getElem?_cons_zero];rfl) kR kR kR (by exact fun _ _ _ h=>h) (Or.inl ⟨rF,?_⟩) (by assumption) ?_
  rotate_left 1
  ·(intro wS hSw;(try dsimp only at hSw);go_simp;try(with_reducible rfl))
  try simp only[Act.put,List.setIfInBounds_toArray,List.set_cons_zero,List.set_cons_succ]
  refine wpAnyH_take (i:=2) (v:=.bool false) (by simp only[List.getElem?_toArray,List.getElem?_cons_succ,List.getElem?_cons_zero];rfl) kR kR kR (by exact fun _ _ _ h=>h) (Or.inl ⟨rF,?_⟩) (by assumption) ?_
  ·(intro wS hSw;(try dsimp only at hSw);have hltF:=HLT.out;go_simp;first|done|rfl|omega|(simp;omega)|simp[hltF])
  try simp only[Act.put,List.setIfInBounds_toArray,List.set_cons_zero,List.set_cons_succ]
  refine wpAnyH_take (i:=3) (v:=?_) (by simp only[List.getElem?_toArray,List.getElem?_cons_succ,List.getElem?_cons_zero];rfl) kR kR kR (by exact fun _ _ _ h=>h) (Or.inl ⟨rF,?_⟩) (by assumption) ?_
  rotate_left 1
  ·(intro wS hSw;(try dsimp only at hSw);go_simp;try(with_reducible rfl))
  try simp only[Act.put,List.setIfInBounds_toArray,List.set_cons_zero,List.set_cons_succ]
  refine wpAnyH_take (i:=4) (v:=undef) (by simp only[List.getElem?_toArray,List.getElem?_cons_succ,List.getElem?_cons_zero];rfl) kR kR kR (by exact fun _ _ _ h=>h) (Or.inr ⟨rF,rfl⟩) (by assumption) ?_
  try simp only[Act.put,List.setIfInBounds_toArray,List.set_cons_zero,List.set_cons_succ]
  refine wpAnyH_take (i:=5) (v:=undef) (by simp only[List.getElem?_toArray,List.getElem?_cons_succ,List.getElem?_cons_zero];rfl) kR kR kR (by exact fun _ _ _ h=>h) (Or.inr ⟨rF,rfl⟩) (by assumption) ?_
  try simp only[Act.put,List.setIfInBounds_toArray,List.set_cons_zero,List.set_cons_succ]
  refine wpAnyH_take (i:=6) (v:=undef) (by simp only[List.getElem?_toArray,List.getElem?_cons_succ,List.getElem?_cons_zero];rfl) kR kR kR (by exact fun _ _ _ h=>h) (Or.inr ⟨rF,rfl⟩) (by assumption) ?_
  try simp only[Act.put,List.setIfInBounds_toArray,List.set_cons_zero,List.set_cons_succ]
  refine wpAnyH_take (i:=7) (v:=undef) (by simp only[List.getElem?_toArray,List.getElem?_cons_succ,List.getElem?_cons_zero];rfl) kR kR kR (by exact fun _ _ _ h=>h) (Or.inr ⟨rF,rfl⟩) (by assumption) ?_
  try simp only[Act.put,List.setIfInBounds_toArray,List.set_cons_zero,List.set_cons_succ]
  refine wpAnyH_take (i:=8) (v:=undef) (by simp only[List.getElem?_toArray,List.getElem?_cons_succ,List.getElem?_cons_zero];rfl) kR kR kR (by exact fun _ _ _ h=>h) (Or.inr ⟨rF,rfl⟩) (by assumption) ?_
  try simp only[Act.put,List.setIfInBounds_toArray,List.set_cons_zero,List.set_cons_succ]
  refine wpAnyH_take (i:=9) (v:=undef) (by simp only[List.getElem?_toArray,List.getElem?_cons_succ,List.getElem?_cons_zero];rfl) kR kR kR (by exact fun _ _ _ h=>h) (Or.inr ⟨rF,rfl⟩) (by assumption) ?_
  try simp only[Act.put,List.setIfInBounds_toArray,List.set_cons_zero,List.set_cons_succ]
  refine wpAnyH_take (i:=10) (v:=?_) (by simp only[List.getElem?_toArray,List.getElem?_cons_succ,List.getElem?_cons_zero];rfl) kR kR kR (by exact fun _ _ _ h=>h) (Or.inl ⟨rF,?_⟩) (by assumption) ?_
  rotate_left 1
  ·(intro wS hSw;(try dsimp only at hSw);go_simp;try(with_reducible rfl))
  try simp only[Act.put,List.setIfInBounds_toArray,List.set_cons_zero,List.set_cons_succ]
  refine wpAnyH_take (i:=11) (v:=?_) (by simp only[List.getElem?_toArray,List.getElem?_cons_succ,List.getElem?_cons_zero];rfl) kR kR kR (by exact fun _ _ _ h=>h) (Or.inl ⟨rF,?_⟩) (by assumption) ?_
  rotate_left 1
  ·(intro wS hSw;(try dsimp only at hSw);go_simp;try(with_reducible rfl))
  try simp only[Act.put,List.setIfInBounds_toArray,List.set_cons_zero,List.set_cons_succ]
  refine wpAnyH_take (i:=12) (v:=undef) (by simp only[List.getElem?_toArray,List.getElem?_cons_succ,List.getElem?_cons_zero];rfl) kR kR kR (by exact fun _ _ _ h=>h) (Or.inr ⟨rF,rfl⟩) (by assumption) ?_
  try simp only[Act.put,List.setIfInBounds_toArray,List.set_cons_zero,List.set_cons_succ]
  refine wpAnyH_take (i:=13) (v:=undef) (by simp only[List.getElem?_toArray,List.getElem?_cons_succ,List.getElem?_cons_zero];rfl) kR kR kR (by exact fun _ _ _ h=>h) (Or.inr ⟨rF,rfl⟩) (by assumption) ?_
  try simp only[Act.put,List.setIfInBounds_toArray,List.set_cons_zero,List.set_cons_succ]
  refine wpAnyH_take (i:=14) (v:=undef) (by simp only[List.getElem?_toArray,List.getElem?_cons_succ,List.getElem?_cons_zero];rfl) kR kR kR (by exact fun _ _ _ h=>h) (Or.inr ⟨rF,rfl⟩) (by assumption) ?_
  try simp only[Act.put,List.setIfInBounds_toArray,List.set_cons_zero,List.set_cons_succ]
  refine wpAnyH_take (i:=15) (v:=undef) (by simp only[List.getElem?_toArray,List.getElem?_cons_succ,List.getElem?_cons_zero];rfl) kR kR kR (by exact fun _ _ _ h=>h) (Or.inr ⟨rF,rfl⟩) (by assumption) ?_
  try simp only[Act.put,List.setIfInBounds_toArray,List.set_cons_zero,List.set_cons_succ]
  refine wpAnyH_take (i:=16) (v:=undef) (by simp only[List.getElem?_toArray,List.getElem?_cons_succ,List.getElem?_cons_zero];rfl) kR kR kR (by exact fun _ _ _ h=>h) (Or.inr ⟨rF,rfl⟩) (by assumption) ?_
  try simp only[Act.put,List.setIfInBounds_toArray,List.set_cons_zero,List.set_cons_succ]
  refine wpAnyH_take (i:=17) (v:=undef) (by simp only[List.getElem?_toArray,List.getElem?_cons_succ,List.getElem?_cons_zero];rfl) kR kR kR (by exact fun _ _ _ h=>h) (Or.inr ⟨rF,rfl⟩) (by assumption) ?_
  try simp only[Act.put,List.setIfInBounds_toArray,List.set_cons_zero,List.set_cons_succ]
  refine wpAnyH_take (i:=18) (v:=undef) (by simp only[List.getElem?_toArray,List.getElem?_cons_succ,List.getElem?_cons_zero];rfl) kR kR kR (by exact fun _ _ _ h=>h) (Or.inr ⟨rF,rfl⟩) (by assumption) ?_
  try simp only[Act.put,List.setIfInBounds_toArray,List.set_cons_zero,List.set_cons_succ]
  refine wpAnyH_take (i:=19) (v:=undef) (by simp only[List.getElem?_toArray,List.getElem?_cons_succ,List.getElem?_cons_zero];rfl) kR kR kR (by exact fun _ _ _ h=>h) (Or.inr ⟨rF,rfl⟩) (by assumption) ?_
  try simp only[Act.put,List.setIfInBounds_toArray,List.set_cons_zero,List.set_cons_succ]
  refine wpAnyH_take (i:=20) (v:=undef) (by simp only[List.getElem?_toArray,List.getElem?_cons_succ,List.getElem?_cons_zero];rfl) kR kR kR (by exact fun _ _ _ h=>h) (Or.inr ⟨rF,rfl⟩) (by assumption) ?_
  try simp only[Act.put,List.setIfInBounds_toArray,List.set_cons_zero,List.set_cons_succ]
  refine wpAnyH_take (i:=21) (v:=?_) (by simp only[List.getElem?_toArray,List.getElem?_cons_succ,List.getElem?_cons_zero];rfl) kR kR kR (by exact fun _ _ _ h=>h) (Or.inl ⟨rF,?_⟩) (by assumption) ?_
  rotate_left 1
  ·(intro wS hSw;(try dsimp only at hSw);go_simp;try(with_reducible rfl))
  try simp only[Act.put,List.setIfInBounds_toArray,List.set_cons_zero,List.set_cons_succ]
  refine wpAnyH_take (i:=22) (v:=?_) (by simp only[List.getElem?_toArray,List.getElem?_cons_succ,List.getElem?_cons_zero];rfl) kR kR kR (by exact fun _ _ _ h=>h) (Or.inl ⟨rF,?_⟩) (by assumption) ?_
  rotate_left 1
  ·(intro wS hSw;(try dsimp only at hSw);go_simp;try(with_reducible rfl))
  try simp only[Act.put,List.setIfInBounds_toArray,List.set_cons_zero,List.set_cons_succ]
  refine wpAnyH_done kR ?_ _
  go_wp2
  go_ret
  exact⟨Ad HQF.out,Cl hbt⟩):p:=h
theorem Sb{p:Prop}(h:p:=by
 go_wp2
 refine rG (fun v=>v.cell? ⟨b,o,none⟩=some (.int .i64 io)/\v.cell? ⟨b,o+5,none⟩=some (.int .i64 N)/\v.cell? ⟨G,2,none⟩=some (.slice pS s.set.length cS)) fun hJ=>?_
 refine wpAnyH_take (i:=0) (v:=?_) (by simp only[List.getElem?_toArray,List.getElem?_cons_succ,List.getElem?_cons_zero];rfl) kR kR kR (by exact fun _ _ _ h=>h) (Or.inl ⟨rF,?_⟩) (by assumption) ?_
 rotate_left 1
 ·(intro wS hSw;(try dsimp only at hSw);go_simp;try(with_reducible rfl))
 try simp only[Act.put,List.setIfInBounds_toArray,List.set_cons_zero,List.set_cons_succ]
 refine wpAnyH_take (i:=1) (v:=?_) (by simp only[List.getElem?_toArray,List.getElem?_cons_succ,List.getElem?_cons_zero];rfl) kR kR kR (by exact fun _ _ _ h=>h) (Or.inl ⟨rF,?_⟩) (by assumption) ?_
 rotate_left 1
 ·(intro wS hSw;(try dsimp only at hSw);go_simp;try(with_reducible rfl))
 try simp only[Act.put,List.setIfInBounds_toArray,List.set_cons_zero,List.set_cons_succ]
 refine wpAnyH_take (i:=2) (v:=?_) (by simp only[List.getElem?_toArray,List.getElem?_cons_succ,List.getElem?_cons_zero];rfl) kR kR kR (by exact fun _ _ _ h=>h) (Or.inl ⟨rF,?_⟩) (by assumption) ?_
 rotate_left 1
 ·(intro wS hSw;(try dsimp only at hSw);go_simp;try(with_reducible rfl))
 try simp only[Act.put,List.setIfInBounds_toArray,List.set_cons_zero,List.set_cons_succ]
 refine wpAnyH_take (i:=3) (v:=?_) (by simp only[List.getElem?_toArray,List.getElem?_cons_succ,List.getElem?_cons_zero];rfl) kR kR kR (by exact fun _ _ _ h=>h) (Or.inl ⟨rF,?_⟩) (by assumption) ?_
 rotate_left 1
 ·(intro wS hSw;(try dsimp only at hSw);go_simp;try(with_reducible rfl))
 try simp only[Act.put,List.setIfInBounds_toArray,List.set_cons_zero,List.set_cons_succ]
 refine wpAnyH_take (i:=5) (v:=?_) (by simp only[List.getElem?_toArray,List.getElem?_cons_succ,List.getElem?_cons_zero];rfl) kR kR kR (by exact fun _ _ _ h=>h) (Or.inl ⟨rF,?_⟩) (by assumption) ?_
 rotate_left 1
 ·(intro wS hSw;(try dsimp only at hSw);go_simp;try(with_reducible rfl))
 try simp only[Act.put,List.setIfInBounds_toArray,List.set_cons_zero,List.set_cons_succ]
 refine wpAnyH_take (i:=6) (v:=?_) (by simp only[List.getElem?_toArray,List.getElem?_cons_succ,List.getElem?_cons_zero];rfl) kR kR kR (by exact fun _ _ _ h=>h) (Or.inl ⟨rF,?_⟩) (by assumption) ?_
 rotate_left 1
 ·(intro wS hSw;(try dsimp only at hSw);go_simp;try(with_reducible rfl))
 try simp only[Act.put,List.setIfInBounds_toArray,List.set_cons_zero,List.set_cons_succ]
 refine wpAnyH_take (i:=7) (v:=?_) (by simp only[List.getElem?_toArray,List.getElem?_cons_succ,List.getElem?_cons_zero];rfl) kR kR kR (by exact fun _ _ _ h=>h) (Or.inl ⟨rF,?_⟩) (by assumption) ?_
 rotate_left 1
 ·(intro wS hSw;(try dsimp only at hSw);go_simp;try(with_reducible rfl))
 try simp only[Act.put,List.setIfInBounds_toArray,List.set_cons_zero,List.set_cons_succ]
 refine wpAnyH_take (i:=8) (v:=?_) (by simp only[List.getElem?_toArray,List.getElem?_cons_succ,List.getElem?_cons_zero];rfl) kR kR kR (by exact fun _ _ _ h=>h) (Or.inl ⟨rF,?_⟩) (by assumption) ?_
 rotate_left 1
 ·(intro wS hSw;(try dsimp only at hSw);go_simp;try(with_reducible rfl))
 try simp only[Act.put,List.setIfInBounds_toArray,List.set_cons_zero,List.set_cons_succ]
 refine wpAnyH_take (i:=9) (v:=?_) (by simp only[List.getElem?_toArray,List.getElem?_cons_succ,List.getElem?_cons_zero];rfl) kR kR kR (by exact fun _ _ _ h=>h) (Or.inl ⟨rF,?_⟩) (by assumption) ?_
 rotate_left 1
 ·(intro wS hSw;(try dsimp only at hSw);go_simp;try(with_reducible rfl))
 try simp only[Act.put,List.setIfInBounds_toArray,List.set_cons_zero,List.set_cons_succ]
 refine wpAnyH_take (i:=10) (v:=?_) (by simp only[List.getElem?_toArray,List.getElem?_cons_succ,List.getElem?_cons_zero];rfl) kR kR kR (by exact fun _ _ _ h=>h) (Or.inl ⟨rF,?_⟩) (by assumption) ?_
 rotate_left 1
 ·(intro wS hSw;(try dsimp only at hSw);go_simp;try(with_reducible rfl))
 try simp only[Act.put,List.setIfInBounds_toArray,List.set_cons_zero,List.set_cons_succ]
 refine wpAnyH_take (i:=11) (v:=?_) (by simp only[List.getElem?_toArray,List.getElem?_cons_succ,List.getElem?_cons_zero];rfl) kR kR kR (by exact fun _ _ _ h=>h) (Or.inl ⟨rF,?_⟩) (by assumption) ?_
 rotate_left 1
 ·(intro wS hSw;(try dsimp only at hSw);go_simp;try(with_reducible rfl))
 try simp only[Act.put,List.setIfInBounds_toArray,List.set_cons_zero,List.set_cons_succ]
 refine wpAnyH_take (i:=12) (v:=?_) (by simp only[List.getElem?_toArray,List.getElem?_cons_succ,List.getElem?_cons_zero];rfl) kR kR kR (by exact fun _ _ _ h=>h) (Or.inl ⟨rF,?_⟩) (by assumption) ?_
 rotate_left 1
 ·(intro wS hSw;(try dsimp only at hSw);go_simp;try(with_reducible rfl))
 try simp only[Act.put,List.setIfInBounds_toArray,List.set_cons_zero,List.set_cons_succ]
 refine wpAnyH_take (i:=13) (v:=?_) (by simp only[List.getElem?_toArray,List.getElem?_cons_succ,List.getElem?_cons_zero];rfl) kR kR kR (by exact fun _ _ _ h=>h) (Or.inl ⟨rF,?_⟩) (by assumption) ?_
 rotate_left 1
 ·(intro wS hSw;(try dsimp only at hSw);go_simp;try(with_reducible rfl))
 try simp only[Act.put,List.setIfInBounds_toArray,List.set_cons_zero,List.set_cons_succ]
 refine wpAnyH_take (i:=14) (v:=?_) (by simp only[List.getElem?_toArray,List.getElem?_cons_succ,List.getElem?_cons_zero];rfl) kR kR kR (by exact fun _ _ _ h=>h) (Or.inl ⟨rF,?_⟩) (by assumption) ?_
 rotate_left 1
 ·(intro wS hSw;(try dsimp only at hSw);go_simp;try(with_reducible rfl))
 try simp only[Act.put,List.setIfInBounds_toArray,List.set_cons_zero,List.set_cons_succ]
 refine wpAnyH_take (i:=15) (v:=?_) (by simp only[List.getElem?_toArray,List.getElem?_cons_succ,List.getElem?_cons_zero];rfl) kR kR kR (by exact fun _ _ _ h=>h) (Or.inl ⟨rF,?_⟩) (by assumption) ?_
 rotate_left 1
 ·(intro wS hSw;(try dsimp only at hSw);go_simp;try(with_reducible rfl))
 try simp only[Act.put,List.setIfInBounds_toArray,List.set_cons_zero,List.set_cons_succ]
 refine wpAnyH_take (i:=16) (v:=?_) (by simp only[List.getElem?_toArray,List.getElem?_cons_succ,List.getElem?_cons_zero];rfl) kR kR kR (by exact fun _ _ _ h=>h) (Or.inl ⟨rF,?_⟩) (by assumption) ?_
 rotate_left 1
 ·(intro wS hSw;(try dsimp only at hSw);go_simp;try(with_reducible rfl))
 try simp only[Act.put,List.setIfInBounds_toArray,List.set_cons_zero,List.set_cons_succ]
 refine wpAnyH_take (i:=17) (v:=?_) (by simp only[List.getElem?_toArray,List.getElem?_cons_succ,List.getElem?_cons_zero];rfl) kR kR kR (by exact fun _ _ _ h=>h) (Or.inl ⟨rF,?_⟩) (by assumption) ?_
 rotate_left 1
 ·(intro wS hSw;(try dsimp only at hSw);go_simp;try(with_reducible rfl))
 try simp only[Act.put,List.setIfInBounds_toArray,List.set_cons_zero,List.set_cons_succ]
 refine wpAnyH_take (i:=18) (v:=?_) (by simp only[List.getElem?_toArray,List.getElem?_cons_succ,List.getElem?_cons_zero];rfl) kR kR kR (by exact fun _ _ _ h=>h) (Or.inl ⟨rF,?_⟩) (by assumption) ?_
 rotate_left 1
 ·(intro wS hSw;(try dsimp only at hSw);go_simp;try(with_reducible rfl))
 try simp only[Act.put,List.setIfInBounds_toArray,List.set_cons_zero,List.set_cons_succ]
 refine wpAnyH_take (i:=19) (v:=?_) (by simp only[List.getElem?_toArray,List.getElem?_cons_succ,List.getElem?_cons_zero];rfl) kR kR kR (by exact fun _ _ _ h=>h) (Or.inl ⟨rF,?_⟩) (by assumption) ?_
 rotate_left 1
 ·(intro wS hSw;(try dsimp only at hSw);go_simp;try(with_reducible rfl))
 try simp only[Act.put,List.setIfInBounds_toArray,List.set_cons_zero,List.set_cons_succ]
 clear hJ
 refine wpAnyH_ready (rs:=[4,20]) kR sM ?_
 refine Q4 4 (fun K hK=>?_) ?_
 .go_simp
  refine AW hK fun hJ=>?_
  clear hK K
  clear hJ
  refine AP 20 fun K hK=>?_
  go_simp
  refine AW hK fun hJ=>?_
  clear hK K
  clear hJ
  refine AP 21 fun K hK=>?_
  refine FM rF _ _ _ rF _ _ _ rF rF HR3.out ?_
  refine AW hK fun hJ=>?_
  clear hK K
  refine wpAnyH_take (i:=22) (v:=?_) (by simp only[List.getElem?_toArray,List.getElem?_cons_succ,List.getElem?_cons_zero];rfl) kR kR kR (by exact fun _ _ _ h=>h) (Or.inl ⟨rF,?_⟩) (by assumption) ?_
  rotate_left 1
  ·(intro wS hSw;(try dsimp only at hSw);go_simp;try(with_reducible rfl))
  try simp only[Act.put,List.setIfInBounds_toArray,List.set_cons_zero,List.set_cons_succ]
  refine wpAnyH_take (i:=23) (v:=?_) (by simp only[List.getElem?_toArray,List.getElem?_cons_succ,List.getElem?_cons_zero];rfl) kR kR kR (by exact fun _ _ _ h=>h) (Or.inl ⟨rF,?_⟩) (by assumption) ?_
  rotate_left 1
  ·(intro wS hSw;(try dsimp only at hSw);go_simp;try(with_reducible rfl))
  try simp only[Act.put,List.setIfInBounds_toArray,List.set_cons_zero,List.set_cons_succ]
  clear hJ
  refine AP 24 fun K hK=>?_
  go_simp
  refine AW hK fun hJ=>?_
  clear hK K
  refine wpAnyH_done kR ?_ _
  go_wp2
  go_meet
  exact⟨_,_,HP.out⟩
 refine Q4 20 (fun K hK=>?_) AllReadyH.nil
 go_simp
 refine AW hK fun hJ=>?_
 clear hK K
 clear hJ
 refine AP 4 fun K hK=>?_
 go_simp
 refine AW hK fun hJ=>?_
 clear hK K
 clear hJ
 refine AP 21 fun K hK=>?_
 refine FM rF _ _ _ rF _ _ _ rF rF HR3.out ?_
 refine AW hK fun hJ=>?_
 clear hK K
 refine wpAnyH_take (i:=22) (v:=?_) (by simp only[List.getElem?_toArray,List.getElem?_cons_succ,List.getElem?_cons_zero];rfl) kR kR kR (by exact fun _ _ _ h=>h) (Or.inl ⟨rF,?_⟩) (by assumption) ?_
 rotate_left 1
 ·(intro wS hSw;(try dsimp only at hSw);go_simp;try(with_reducible rfl))
 try simp only[Act.put,List.setIfInBounds_toArray,List.set_cons_zero,List.set_cons_succ]
 refine wpAnyH_take (i:=23) (v:=?_) (by simp only[List.getElem?_toArray,List.getElem?_cons_succ,List.getElem?_cons_zero];rfl) kR kR kR (by exact fun _ _ _ h=>h) (Or.inl ⟨rF,?_⟩) (by assumption) ?_
 rotate_left 1
 ·(intro wS hSw;(try dsimp only at hSw);go_simp;try(with_reducible rfl))
 try simp only[Act.put,List.setIfInBounds_toArray,List.set_cons_zero,List.set_cons_succ]
 clear hJ
 refine AP 24 fun K hK=>?_
 go_simp
 refine AW hK fun hJ=>?_
 clear hK K
 refine wpAnyH_done kR ?_ _
 go_wp2
 go_meet
 exact⟨_,_,HP.out⟩):p:=h
theorem Sc{p:Prop}(h:p:=by
 obtain rfl:=hps
 go_wp2
 refine rG (fun v=>v.cell? ⟨w.heap.size,2,none⟩=some (.slice (some ⟨lb9,lo9,none⟩) n2 q2)/\v.cell? ⟨w.heap.size+1,5,none⟩=some (.int .i64 (k:Int))/\v.cell? ⟨lb9,lo9+k*5,none⟩=some (.int .i64 sk)/\v.cell? ⟨lb9,lo9+k*5+1,none⟩=some (.int .i64 sp)/\v.cell? ⟨w5.heap.size,0,none⟩=some (.int .i64 sk)/\v.cell? ⟨w5.heap.size,1,none⟩=some (.int .i64 sp)) fun hJ=>?_
 refine wpAnyH_take (i:=0) (v:=?_) (by simp only[List.getElem?_toArray,List.getElem?_cons_succ,List.getElem?_cons_zero];rfl) kR kR kR (by exact fun _ _ _ h=>h) (Or.inl ⟨rF,?_⟩) (by assumption) ?_
 rotate_left 1
 ·(intro wS hSw;(try dsimp only at hSw);go_simp;try(with_reducible rfl))
 try simp only[Act.put,List.setIfInBounds_toArray,List.set_cons_zero,List.set_cons_succ]
 refine wpAnyH_take (i:=1) (v:=?_) (by simp only[List.getElem?_toArray,List.getElem?_cons_succ,List.getElem?_cons_zero];rfl) kR kR kR (by exact fun _ _ _ h=>h) (Or.inl ⟨rF,?_⟩) (by assumption) ?_
 rotate_left 1
 ·(intro wS hSw;(try dsimp only at hSw);go_simp;try(with_reducible rfl))
 try simp only[Act.put,List.setIfInBounds_toArray,List.set_cons_zero,List.set_cons_succ]
 refine wpAnyH_take (i:=2) (v:=?_) (by simp only[List.getElem?_toArray,List.getElem?_cons_succ,List.getElem?_cons_zero];rfl) kR kR kR (by exact fun _ _ _ h=>h) (Or.inl ⟨rF,?_⟩) (by assumption) ?_
 rotate_left 1
 ·(intro wS hSw;(try dsimp only at hSw);go_simp;try(with_reducible rfl))
 try simp only[Act.put,List.setIfInBounds_toArray,List.set_cons_zero,List.set_cons_succ]
 refine wpAnyH_take (i:=3) (v:=?_) (by simp only[List.getElem?_toArray,List.getElem?_cons_succ,List.getElem?_cons_zero];rfl) kR kR kR (by exact fun _ _ _ h=>h) (Or.inl ⟨rF,?_⟩) (by assumption) ?_
 rotate_left 1
 ·(intro wS hSw;(try dsimp only at hSw);go_simp;try(with_reducible rfl))
 try simp only[Act.put,List.setIfInBounds_toArray,List.set_cons_zero,List.set_cons_succ]
 refine wpAnyH_take (i:=4) (v:=?_) (by simp only[List.getElem?_toArray,List.getElem?_cons_succ,List.getElem?_cons_zero];rfl) kR kR kR (by exact fun _ _ _ h=>h) (Or.inl ⟨rF,?_⟩) (by assumption) ?_
 rotate_left 1
 ·(intro wS hSw;(try dsimp only at hSw);go_simp;try(with_reducible rfl))
 try simp only[Act.put,List.setIfInBounds_toArray,List.set_cons_zero,List.set_cons_succ]
 refine wpAnyH_take (i:=5) (v:=?_) (by simp only[List.getElem?_toArray,List.getElem?_cons_succ,List.getElem?_cons_zero];rfl) kR kR kR (by exact fun _ _ _ h=>h) (Or.inl ⟨rF,?_⟩) (by assumption) ?_
 rotate_left 1
 ·(intro wS hSw;(try dsimp only at hSw);go_simp;try(with_reducible rfl))
 try simp only[Act.put,List.setIfInBounds_toArray,List.set_cons_zero,List.set_cons_succ]
 refine wpAnyH_take (i:=6) (v:=?_) (by simp only[List.getElem?_toArray,List.getElem?_cons_succ,List.getElem?_cons_zero];rfl) kR kR kR (by exact fun _ _ _ h=>h) (Or.inl ⟨rF,?_⟩) (by assumption) ?_
 rotate_left 1
 ·(intro wS hSw;(try dsimp only at hSw);go_simp;try(with_reducible rfl))
 try simp only[Act.put,List.setIfInBounds_toArray,List.set_cons_zero,List.set_cons_succ]
 refine wpAnyH_take (i:=7) (v:=?_) (by simp only[List.getElem?_toArray,List.getElem?_cons_succ,List.getElem?_cons_zero];rfl) kR kR kR (by exact fun _ _ _ h=>h) (Or.inl ⟨rF,?_⟩) (by assumption) ?_
 rotate_left 1
 ·(intro wS hSw;(try dsimp only at hSw);go_simp;try(with_reducible rfl))
 try simp only[Act.put,List.setIfInBounds_toArray,List.set_cons_zero,List.set_cons_succ]
 refine wpAnyH_take (i:=8) (v:=?_) (by simp only[List.getElem?_toArray,List.getElem?_cons_succ,List.getElem?_cons_zero];rfl) kR kR kR (by exact fun _ _ _ h=>h) (Or.inl ⟨rF,?_⟩) (by assumption) ?_
 rotate_left 1
 ·(intro wS hSw;(try dsimp only at hSw);go_simp;try(with_reducible rfl))
 try simp only[Act.put,List.setIfInBounds_toArray,List.set_cons_zero,List.set_cons_succ]
 refine wpAnyH_take (i:=9) (v:=?_) (by simp only[List.getElem?_toArray,List.getElem?_cons_succ,List.getElem?_cons_zero];rfl) kR kR kR (by exact fun _ _ _ h=>h) (Or.inl ⟨rF,?_⟩) (by assumption) ?_
 rotate_left 1
 ·(intro wS hSw;(try dsimp only at hSw);go_simp;try(with_reducible rfl))
 try simp only[Act.put,List.setIfInBounds_toArray,List.set_cons_zero,List.set_cons_succ]
 refine wpAnyH_take (i:=10) (v:=?_) (by simp only[List.getElem?_toArray,List.getElem?_cons_succ,List.getElem?_cons_zero];rfl) kR kR kR (by exact fun _ _ _ h=>h) (Or.inl ⟨rF,?_⟩) (by assumption) ?_
 rotate_left 1
 ·(intro wS hSw;(try dsimp only at hSw);go_simp;try(with_reducible rfl))
 try simp only[Act.put,List.setIfInBounds_toArray,List.set_cons_zero,List.set_cons_succ]
 refine wpAnyH_take (i:=11) (v:=?_) (by simp only[List.getElem?_toArray,List.getElem?_cons_succ,List.getElem?_cons_zero];rfl) kR kR kR (by exact fun _ _ _ h=>h) (Or.inl ⟨rF,?_⟩) (by assumption) ?_
 rotate_left 1
 ·(intro wS hSw;(try dsimp only at hSw);go_simp;try(with_reducible rfl))
 try simp only[Act.put,List.setIfInBounds_toArray,List.set_cons_zero,List.set_cons_succ]
 refine wpAnyH_take (i:=12) (v:=?_) (by simp only[List.getElem?_toArray,List.getElem?_cons_succ,List.getElem?_cons_zero];rfl) kR kR kR (by exact fun _ _ _ h=>h) (Or.inl ⟨rF,?_⟩) (by assumption) ?_
 rotate_left 1
 ·(intro wS hSw;(try dsimp only at hSw);go_simp;try(with_reducible rfl))
 try simp only[Act.put,List.setIfInBounds_toArray,List.set_cons_zero,List.set_cons_succ]
 refine wpAnyH_take (i:=13) (v:=?_) (by simp only[List.getElem?_toArray,List.getElem?_cons_succ,List.getElem?_cons_zero];rfl) kR kR kR (by exact fun _ _ _ h=>h) (Or.inl ⟨rF,?_⟩) (by assumption) ?_
 rotate_left 1
 ·(intro wS hSw;(try dsimp only at hSw);go_simp;try(with_reducible rfl))
 try simp only[Act.put,List.setIfInBounds_toArray,List.set_cons_zero,List.set_cons_succ]
 refine wpAnyH_take (i:=14) (v:=?_) (by simp only[List.getElem?_toArray,List.getElem?_cons_succ,List.getElem?_cons_zero];rfl) kR kR kR (by exact fun _ _ _ h=>h) (Or.inl ⟨rF,?_⟩) (by assumption) ?_
 rotate_left 1
 ·(intro wS hSw;(try dsimp only at hSw);go_simp;try(with_reducible rfl))
 try simp only[Act.put,List.setIfInBounds_toArray,List.set_cons_zero,List.set_cons_succ]
 refine wpAnyH_take (i:=15) (v:=?_) (by simp only[List.getElem?_toArray,List.getElem?_cons_succ,List.getElem?_cons_zero];rfl) kR kR kR (by exact fun _ _ _ h=>h) (Or.inl ⟨rF,?_⟩) (by assumption) ?_
 rotate_left 1
 ·(intro wS hSw;(try dsimp only at hSw);go_simp;try(with_reducible rfl))
 try simp only[Act.put,List.setIfInBounds_toArray,List.set_cons_zero,List.set_cons_succ]
 refine wpAnyH_take (i:=16) (v:=?_) (by simp only[List.getElem?_toArray,List.getElem?_cons_succ,List.getElem?_cons_zero];rfl) kR kR kR (by exact fun _ _ _ h=>h) (Or.inl ⟨rF,?_⟩) (by assumption) ?_
 rotate_left 1
 ·(intro wS hSw;(try dsimp only at hSw);go_simp;try(with_reducible rfl))
 try simp only[Act.put,List.setIfInBounds_toArray,List.set_cons_zero,List.set_cons_succ]
 refine wpAnyH_take (i:=17) (v:=?_) (by simp only[List.getElem?_toArray,List.getElem?_cons_succ,List.getElem?_cons_zero];rfl) kR kR kR (by exact fun _ _ _ h=>h) (Or.inl ⟨rF,?_⟩) (by assumption) ?_
 rotate_left 1
 ·(intro wS hSw;(try dsimp only at hSw);go_simp;try(with_reducible rfl))
 try simp only[Act.put,List.setIfInBounds_toArray,List.set_cons_zero,List.set_cons_succ]
 refine wpAnyH_take (i:=18) (v:=?_) (by simp only[List.getElem?_toArray,List.getElem?_cons_succ,List.getElem?_cons_zero];rfl) kR kR kR (by exact fun _ _ _ h=>h) (Or.inl ⟨rF,?_⟩) (by assumption) ?_
 rotate_left 1
 ·(intro wS hSw;(try dsimp only at hSw);go_simp;try(with_reducible rfl))
 try simp only[Act.put,List.setIfInBounds_toArray,List.set_cons_zero,List.set_cons_succ]
 refine wpAnyH_take (i:=19) (v:=?_) (by simp only[List.getElem?_toArray,List.getElem?_cons_succ,List.getElem?_cons_zero];rfl) kR kR kR (by exact fun _ _ _ h=>h) (Or.inl ⟨rF,?_⟩) (by assumption) ?_
 rotate_left 1
 ·(intro wS hSw;(try dsimp only at hSw);go_simp;try(with_reducible rfl))
 try simp only[Act.put,List.setIfInBounds_toArray,List.set_cons_zero,List.set_cons_succ]
 refine wpAnyH_take (i:=20) (v:=?_) (by simp only[List.getElem?_toArray,List.getElem?_cons_succ,List.getElem?_cons_zero];rfl) kR kR kR (by exact fun _ _ _ h=>h) (Or.inl ⟨rF,?_⟩) (by assumption) ?_
 rotate_left 1
 ·(intro wS hSw;(try dsimp only at hSw);go_simp;try(with_reducible rfl))
 try simp only[Act.put,List.setIfInBounds_toArray,List.set_cons_zero,List.set_cons_succ]
 refine wpAnyH_take (i:=21) (v:=?_) (by simp only[List.getElem?_toArray,List.getElem?_cons_succ,List.getElem?_cons_zero];rfl) kR kR kR (by exact fun _ _ _ h=>h) (Or.inl ⟨rF,?_⟩) (by assumption) ?_
 rotate_left 1
 ·(intro wS hSw;(try dsimp only at hSw);go_simp;try(with_reducible rfl))
 try simp only[Act.put,List.setIfInBounds_toArray,List.set_cons_zero,List.set_cons_succ]
 refine wpAnyH_take (i:=22) (v:=?_) (by simp only[List.getElem?_toArray,List.getElem?_cons_succ,List.getElem?_cons_zero];rfl) kR kR kR (by exact fun _ _ _ h=>h) (Or.inl ⟨rF,?_⟩) (by assumption) ?_
 rotate_left 1
 ·(intro wS hSw;(try dsimp only at hSw);go_simp;try(with_reducible rfl))
 try simp only[Act.put,List.setIfInBounds_toArray,List.set_cons_zero,List.set_cons_succ]
 refine wpAnyH_done kR ?_ _
 go_wp2
 go_ret
 refine⟨Ad ?_,Cl hbt⟩
 rw[<-HQ9.out]
 simp):p:=h
theorem Rr{p:Prop}(h:p:=by
 have HTZ:Hid (TW w v0 v1 v2 v3 (w.heap.size+1) op D A Q E nn bt wz):=HT0.next HBZ.out
 go_wp2_with(go_at_call 70;(with_reducible refine(HRD.out _).mono ?_);rintro e w5 ⟨u,rfl,hou,hb5⟩;obtain⟨pu,qu,rfl⟩:=AF hou;have HOU:Hid (w5.ownsRow wz.heap.size 3 1 (.slice pu R.length qu) R.length (BV R)):=hou;have HB5:Hid (Below wz.heap.size wz w5):=hb5;clear hou hb5)
 go_loopw [11] (fun kv wr=>∃k:Nat,k<=R.length/\kv=.int .i64 (k:Int)/\wr=w5/\∀x∈R.take k,x.toNat∈S) (fun kv _=>R.length-(intOf kv).toNat)
 case atStart=>exact⟨0,gI _,rfl,rfl,fun x hx=>by simp at hx⟩
 case round=>
  obtain⟨k,hk,rfl,rfl,hin⟩:=hrel
  clear c0 c1 c2 c3 i0 i1 i2 i3 i4 i5 i6
  obtain⟨hbq,c0,c1,c2,c3,i0,i1,i2,i3,i4,i5,i6⟩:=HTZ.next HB5.out
  by_cases hlt:k<R.length
  .have hx:=HRP1.out R[k] (gD hlt)
   obtain⟨d,hd⟩:∃d:Nat,R[k]=(d:Int):=⟨R[k].toNat,oM⟩
   obtain⟨gs,rfl,hcs⟩:=HSET.out d oM
   have hcs':=kc hbq hcs
   obtain⟨gu,cu,eu,-⟩:=HOU.form oM
   simp only[Value.slice.injEq]at eu
   obtain⟨rfl,-,rfl⟩:=eu
   have hcu:wr.cell? ⟨gu,k,none⟩=some (.int .i64 (d:Int)):=by rw[HOU.cellAt k oM];simp[BV,hlt,hd]
   have HMEM:Hid (R[k]=(d:Int)):=hd
   have HIN:Hid (∀x∈R.take k,x.toNat∈S):=hin
   have t0:(0:Int)<=(k:Int):=oM
   have t1:(k:Int)<(R.length:Int):=oM
   have t2:(0:Int)<=(d:Int):=oM
   have t3:(d:Int)<(M:Int):=oM
   have wk:IntKind.i64.wrap ((k:Int)+1)=((k+1:Nat):Int):=by rw[IntKind.wrap_i64];omega
   clear hx hd hin hcs hk
   cases hX:decide (d∈S)
   .rw[hX]at hcs'
    have hall:(R.all fun n=>decide (n.toNat∈S))=false:=by
     rw[List.all_eq_false]
     exact⟨R[k],gD hlt,by rw[HMEM.out,Int.toNat_natCast,hX];decide⟩
    have HQF:Hid (false=RES):=by show _=_;have:=HR2.out;rw[hall,Bool.false_and]at this;exact this
    clear hX hall
    go_wp2
    go_ret
    exact⟨Ad HQF.out,hbq⟩
   .rw[hX]at hcs'
    have HX:Hid (d∈S):=by show d∈S;exact of_decide_eq_true hX
    clear hX
    go_wp2
    go_roundw
    case rel=>
     refine⟨k+1,oM,gN,fT,fun x hx=>?_⟩
     rw[List.take_succ_eq_append_getElem hlt,List.mem_append]at hx
     rcases hx with hx|hx
     .exact HIN.out x hx
     .simp only[List.mem_singleton]at hx
      rw[hx,HMEM.out,Int.toNat_natCast]
      exact HX.out
    case measure=>simp[intOf];omega
  .have hkk:k=R.length:=oM
   have hall:(R.all fun n=>decide (n.toNat∈S))=true:=by
    rw[List.all_eq_true]
    intro x hx
    rw[hkk,List.take_length]at hin
    simpa using hin x hx
   have h9:=HR2.out;rw[hall,Bool.true_and]at h9;have HTS:Hid _:=h9;clear h9
   have t1:¬ (k:Int)<(R.length:Int):=oM
   clear hall hin hk hlt
   by_cases h34:op=34
   .subst h34
    have h9:=HTS.out;rw[if_pos (Or.inl rfl)]at h9;have HQ:Hid _:=h9;clear h9
    go_wp2
    go_ret
    exact⟨Ad (by rw[<-HQ.out];first|(simp;done)|(simp;omega)|(simp[hn0];done)|(simp[hn0];omega)),hbq⟩
   .by_cases h36:op=36
    .subst h36
     have h9:=HTS.out;rw[if_pos (Or.inr rfl)]at h9;have HQ:Hid _:=h9;clear h9
     go_wp2
     go_ret
     exact⟨Ad (by rw[<-HQ.out];first|(simp;done)|(simp;omega)|(simp[hn0];done)|(simp[hn0];omega)),hbq⟩
    .have h9:=HTS.out;rw[if_neg (fun e=>e.elim h34 h36)]at h9;have HT2:Hid _:=h9;clear h9
     have q34:(op==34)=false:=by simpa using h34
     have q36:(op==36)=false:=by simpa using h36
     by_cases h35:op=35
     .subst h35
      have h9:=HT2.out;rw[if_pos rfl]at h9;have HQ:Hid _:=h9;clear h9
      clear q34 q36 h34 h36
      by_cases hn0:(0:Int)<(n:Int)
      .first
        |(exfalso;omega)
        |(go_wp2;go_ret;exact⟨Ad (by rw[<-HQ.out];first|(simp;done)|(simp;omega)|(simp[hn0];done)|(simp[hn0];omega)),hbq⟩)
      .first
        |(exfalso;omega)
        |(go_wp2;go_ret;exact⟨Ad (by rw[<-HQ.out];first|(simp;done)|(simp;omega)|(simp[hn0];done)|(simp[hn0];omega)),hbq⟩)
     .have h9:=HT2.out;rw[if_neg h35]at h9;have HT3:Hid _:=h9;clear h9
      have q35:(op==35)=false:=by simpa using h35
      by_cases h37:op=37
      .subst h37
       have h9:=HT3.out;rw[if_pos rfl]at h9;have HQ:Hid _:=h9;clear h9
       clear q34 q35 q36 h34 h35 h36
       first
        |(exfalso;omega)
        |(go_wp2;go_ret;exact⟨Ad HQ.out,hbq⟩)
      .have h9:=HT3.out;rw[if_neg h37]at h9;have HQ:Hid _:=h9;clear h9
       have q37:(op==37)=false:=by simpa using h37
       clear h34 h35 h36 h37
       go_wp2
       go_ret
       exact⟨Ad HQ.out,hbq⟩):p:=h
theorem Sd{p:Prop}(h:p:=by
 refine wpAnyH_take (i:=0) (v:=?_) (by simp only[List.getElem?_toArray,List.getElem?_cons_succ,List.getElem?_cons_zero];rfl) kR kR kR (by exact fun _ _ _ h=>h) (Or.inl ⟨rF,?_⟩) (by assumption) ?_
 rotate_left 1
 ·(intro wS hSw;(try dsimp only at hSw);go_simp;try(with_reducible rfl))
 try simp only[Act.put,List.setIfInBounds_toArray,List.set_cons_zero,List.set_cons_succ]
 refine wpAnyH_take (i:=1) (v:=?_) (by simp only[List.getElem?_toArray,List.getElem?_cons_succ,List.getElem?_cons_zero];rfl) kR kR kR (by exact fun _ _ _ h=>h) (Or.inl ⟨rF,?_⟩) (by assumption) ?_
 rotate_left 1
 ·(intro wS hSw;(try dsimp only at hSw);go_simp;try(with_reducible rfl))
 try simp only[Act.put,List.setIfInBounds_toArray,List.set_cons_zero,List.set_cons_succ]
 refine wpAnyH_take (i:=2) (v:=?_) (by simp only[List.getElem?_toArray,List.getElem?_cons_succ,List.getElem?_cons_zero];rfl) kR kR kR (by exact fun _ _ _ h=>h) (Or.inl ⟨rF,?_⟩) (by assumption) ?_
 rotate_left 1
 ·(intro wS hSw;(try dsimp only at hSw);go_simp;try(with_reducible rfl))
 try simp only[Act.put,List.setIfInBounds_toArray,List.set_cons_zero,List.set_cons_succ]
 refine wpAnyH_take (i:=3) (v:=?_) (by simp only[List.getElem?_toArray,List.getElem?_cons_succ,List.getElem?_cons_zero];rfl) kR kR kR (by exact fun _ _ _ h=>h) (Or.inl ⟨rF,?_⟩) (by assumption) ?_
 rotate_left 1
 ·(intro wS hSw;(try dsimp only at hSw);go_simp;try(with_reducible rfl))
 try simp only[Act.put,List.setIfInBounds_toArray,List.set_cons_zero,List.set_cons_succ]
 refine wpAnyH_take (i:=4) (v:=?_) (by simp only[List.getElem?_toArray,List.getElem?_cons_succ,List.getElem?_cons_zero];rfl) kR kR kR (by exact fun _ _ _ h=>h) (Or.inl ⟨rF,?_⟩) (by assumption) ?_
 rotate_left 1
 ·(intro wS hSw;(try dsimp only at hSw);go_simp;try(with_reducible rfl))
 try simp only[Act.put,List.setIfInBounds_toArray,List.set_cons_zero,List.set_cons_succ]
 refine wpAnyH_take (i:=5) (v:=?_) (by simp only[List.getElem?_toArray,List.getElem?_cons_succ,List.getElem?_cons_zero];rfl) kR kR kR (by exact fun _ _ _ h=>h) (Or.inl ⟨rF,?_⟩) (by assumption) ?_
 rotate_left 1
 ·(intro wS hSw;(try dsimp only at hSw);go_simp;try(with_reducible rfl))
 try simp only[Act.put,List.setIfInBounds_toArray,List.set_cons_zero,List.set_cons_succ]
 refine wpAnyH_take (i:=6) (v:=?_) (by simp only[List.getElem?_toArray,List.getElem?_cons_succ,List.getElem?_cons_zero];rfl) kR kR kR (by exact fun _ _ _ h=>h) (Or.inl ⟨rF,?_⟩) (by assumption) ?_
 rotate_left 1
 ·(intro wS hSw;(try dsimp only at hSw);go_simp;try(with_reducible rfl))
 try simp only[Act.put,List.setIfInBounds_toArray,List.set_cons_zero,List.set_cons_succ]
 refine wpAnyH_take (i:=7) (v:=?_) (by simp only[List.getElem?_toArray,List.getElem?_cons_succ,List.getElem?_cons_zero];rfl) kR kR kR (by exact fun _ _ _ h=>h) (Or.inl ⟨rF,?_⟩) (by assumption) ?_
 rotate_left 1
 ·(intro wS hSw;(try dsimp only at hSw);go_simp;try(with_reducible rfl))
 try simp only[Act.put,List.setIfInBounds_toArray,List.set_cons_zero,List.set_cons_succ]
 refine wpAnyH_take (i:=8) (v:=?_) (by simp only[List.getElem?_toArray,List.getElem?_cons_succ,List.getElem?_cons_zero];rfl) kR kR kR (by exact fun _ _ _ h=>h) (Or.inl ⟨rF,?_⟩) (by assumption) ?_
 rotate_left 1
 ·(intro wS hSw;(try dsimp only at hSw);go_simp;try(with_reducible rfl))
 try simp only[Act.put,List.setIfInBounds_toArray,List.set_cons_zero,List.set_cons_succ]
 refine wpAnyH_take (i:=9) (v:=?_) (by simp only[List.getElem?_toArray,List.getElem?_cons_succ,List.getElem?_cons_zero];rfl) kR kR kR (by exact fun _ _ _ h=>h) (Or.inl ⟨rF,?_⟩) (by assumption) ?_
 rotate_left 1
 ·(intro wS hSw;(try dsimp only at hSw);go_simp;try(with_reducible rfl))
 try simp only[Act.put,List.setIfInBounds_toArray,List.set_cons_zero,List.set_cons_succ]
 refine wpAnyH_take (i:=10) (v:=?_) (by simp only[List.getElem?_toArray,List.getElem?_cons_succ,List.getElem?_cons_zero];rfl) kR kR kR (by exact fun _ _ _ h=>h) (Or.inl ⟨rF,?_⟩) (by assumption) ?_
 rotate_left 1
 ·(intro wS hSw;(try dsimp only at hSw);go_simp;try(with_reducible rfl))
 try simp only[Act.put,List.setIfInBounds_toArray,List.set_cons_zero,List.set_cons_succ]
 refine wpAnyH_take (i:=11) (v:=?_) (by simp only[List.getElem?_toArray,List.getElem?_cons_succ,List.getElem?_cons_zero];rfl) kR kR kR (by exact fun _ _ _ h=>h) (Or.inl ⟨rF,?_⟩) (by assumption) ?_
 rotate_left 1
 ·(intro wS hSw;(try dsimp only at hSw);go_simp;try(with_reducible rfl))
 try simp only[Act.put,List.setIfInBounds_toArray,List.set_cons_zero,List.set_cons_succ]
 refine wpAnyH_take (i:=12) (v:=?_) (by simp only[List.getElem?_toArray,List.getElem?_cons_succ,List.getElem?_cons_zero];rfl) kR kR kR (by exact fun _ _ _ h=>h) (Or.inl ⟨rF,?_⟩) (by assumption) ?_
 rotate_left 1
 ·(intro wS hSw;(try dsimp only at hSw);go_simp;try(with_reducible rfl))
 try simp only[Act.put,List.setIfInBounds_toArray,List.set_cons_zero,List.set_cons_succ]
 refine wpAnyH_take (i:=13) (v:=?_) (by simp only[List.getElem?_toArray,List.getElem?_cons_succ,List.getElem?_cons_zero];rfl) kR kR kR (by exact fun _ _ _ h=>h) (Or.inl ⟨rF,?_⟩) (by assumption) ?_
 rotate_left 1
 ·(intro wS hSw;(try dsimp only at hSw);go_simp;try(with_reducible rfl))
 try simp only[Act.put,List.setIfInBounds_toArray,List.set_cons_zero,List.set_cons_succ]
 refine wpAnyH_take (i:=14) (v:=?_) (by simp only[List.getElem?_toArray,List.getElem?_cons_succ,List.getElem?_cons_zero];rfl) kR kR kR (by exact fun _ _ _ h=>h) (Or.inl ⟨rF,?_⟩) (by assumption) ?_
 rotate_left 1
 ·(intro wS hSw;(try dsimp only at hSw);go_simp;try(with_reducible rfl))
 try simp only[Act.put,List.setIfInBounds_toArray,List.set_cons_zero,List.set_cons_succ]
 refine wpAnyH_take (i:=15) (v:=?_) (by simp only[List.getElem?_toArray,List.getElem?_cons_succ,List.getElem?_cons_zero];rfl) kR kR kR (by exact fun _ _ _ h=>h) (Or.inl ⟨rF,?_⟩) (by assumption) ?_
 rotate_left 1
 ·(intro wS hSw;(try dsimp only at hSw);go_simp;try(with_reducible rfl))
 try simp only[Act.put,List.setIfInBounds_toArray,List.set_cons_zero,List.set_cons_succ]
 refine wpAnyH_take (i:=16) (v:=?_) (by simp only[List.getElem?_toArray,List.getElem?_cons_succ,List.getElem?_cons_zero];rfl) kR kR kR (by exact fun _ _ _ h=>h) (Or.inl ⟨rF,?_⟩) (by assumption) ?_
 rotate_left 1
 ·(intro wS hSw;(try dsimp only at hSw);go_simp;try(with_reducible rfl))
 try simp only[Act.put,List.setIfInBounds_toArray,List.set_cons_zero,List.set_cons_succ]
 refine wpAnyH_take (i:=17) (v:=?_) (by simp only[List.getElem?_toArray,List.getElem?_cons_succ,List.getElem?_cons_zero];rfl) kR kR kR (by exact fun _ _ _ h=>h) (Or.inl ⟨rF,?_⟩) (by assumption) ?_
 rotate_left 1
 ·(intro wS hSw;(try dsimp only at hSw);go_simp;try(with_reducible rfl))
 try simp only[Act.put,List.setIfInBounds_toArray,List.set_cons_zero,List.set_cons_succ]
 refine wpAnyH_take (i:=18) (v:=?_) (by simp only[List.getElem?_toArray,List.getElem?_cons_succ,List.getElem?_cons_zero];rfl) kR kR kR (by exact fun _ _ _ h=>h) (Or.inl ⟨rF,?_⟩) (by assumption) ?_
 rotate_left 1
 ·(intro wS hSw;(try dsimp only at hSw);go_simp;try(with_reducible rfl))
 try simp only[Act.put,List.setIfInBounds_toArray,List.set_cons_zero,List.set_cons_succ]
 refine wpAnyH_take (i:=19) (v:=?_) (by simp only[List.getElem?_toArray,List.getElem?_cons_succ,List.getElem?_cons_zero];rfl) kR kR kR (by exact fun _ _ _ h=>h) (Or.inl ⟨rF,?_⟩) (by assumption) ?_
 rotate_left 1
 ·(intro wS hSw;(try dsimp only at hSw);go_simp;try(with_reducible rfl))
 try simp only[Act.put,List.setIfInBounds_toArray,List.set_cons_zero,List.set_cons_succ]
 refine wpAnyH_take (i:=20) (v:=?_) (by simp only[List.getElem?_toArray,List.getElem?_cons_succ,List.getElem?_cons_zero];rfl) kR kR kR (by exact fun _ _ _ h=>h) (Or.inl ⟨rF,?_⟩) (by assumption) ?_
 rotate_left 1
 ·(intro wS hSw;(try dsimp only at hSw);go_simp;try(with_reducible rfl))
 try simp only[Act.put,List.setIfInBounds_toArray,List.set_cons_zero,List.set_cons_succ]
 refine wpAnyH_take (i:=21) (v:=?_) (by simp only[List.getElem?_toArray,List.getElem?_cons_succ,List.getElem?_cons_zero];rfl) kR kR kR (by exact fun _ _ _ h=>h) (Or.inl ⟨rF,?_⟩) (by assumption) ?_
 rotate_left 1
 ·(intro wS hSw;(try dsimp only at hSw);go_simp;try(with_reducible rfl))
 try simp only[Act.put,List.setIfInBounds_toArray,List.set_cons_zero,List.set_cons_succ]
 refine wpAnyH_take (i:=22) (v:=?_) (by simp only[List.getElem?_toArray,List.getElem?_cons_succ,List.getElem?_cons_zero];rfl) kR kR kR (by exact fun _ _ _ h=>h) (Or.inl ⟨rF,?_⟩) (by assumption) ?_
 rotate_left 1
 ·(intro wS hSw;(try dsimp only at hSw);go_simp;try(with_reducible rfl))
 try simp only[Act.put,List.setIfInBounds_toArray,List.set_cons_zero,List.set_cons_succ]
 refine wpAnyH_done kR ?_ _
 go_wp2
 go_ret
 refine⟨Ad ?_,Cl hbt⟩
 rw[<-HQ9.out]
 simp[hps]):p:=h
theorem Se{p:Prop}(h:p:=by
 refine wpAnyH_take (i:=0) (v:=?_) (by simp only[List.getElem?_toArray,List.getElem?_cons_succ,List.getElem?_cons_zero];rfl) kR kR kR (by exact fun _ _ _ h=>h) (Or.inl ⟨rF,?_⟩) (by assumption) ?_
 rotate_left 1
 ·(intro wS hSw;(try dsimp only at hSw);go_simp;try(with_reducible rfl))
 try simp only[Act.put,List.setIfInBounds_toArray,List.set_cons_zero,List.set_cons_succ]
 refine wpAnyH_take (i:=1) (v:=?_) (by simp only[List.getElem?_toArray,List.getElem?_cons_succ,List.getElem?_cons_zero];rfl) kR kR kR (by exact fun _ _ _ h=>h) (Or.inl ⟨rF,?_⟩) (by assumption) ?_
 rotate_left 1
 ·(intro wS hSw;(try dsimp only at hSw);go_simp;try(with_reducible rfl))
 try simp only[Act.put,List.setIfInBounds_toArray,List.set_cons_zero,List.set_cons_succ]
 refine wpAnyH_take (i:=2) (v:=?_) (by simp only[List.getElem?_toArray,List.getElem?_cons_succ,List.getElem?_cons_zero];rfl) kR kR kR (by exact fun _ _ _ h=>h) (Or.inl ⟨rF,?_⟩) (by assumption) ?_
 rotate_left 1
 ·(intro wS hSw;(try dsimp only at hSw);go_simp;try(with_reducible rfl))
 try simp only[Act.put,List.setIfInBounds_toArray,List.set_cons_zero,List.set_cons_succ]
 refine wpAnyH_take (i:=3) (v:=?_) (by simp only[List.getElem?_toArray,List.getElem?_cons_succ,List.getElem?_cons_zero];rfl) kR kR kR (by exact fun _ _ _ h=>h) (Or.inl ⟨rF,?_⟩) (by assumption) ?_
 rotate_left 1
 ·(intro wS hSw;(try dsimp only at hSw);go_simp;try(with_reducible rfl))
 try simp only[Act.put,List.setIfInBounds_toArray,List.set_cons_zero,List.set_cons_succ]
 refine wpAnyH_take (i:=4) (v:=?_) (by simp only[List.getElem?_toArray,List.getElem?_cons_succ,List.getElem?_cons_zero];rfl) kR kR kR (by exact fun _ _ _ h=>h) (Or.inl ⟨rF,?_⟩) (by assumption) ?_
 rotate_left 1
 ·(intro wS hSw;(try dsimp only at hSw);go_simp;try(with_reducible rfl))
 try simp only[Act.put,List.setIfInBounds_toArray,List.set_cons_zero,List.set_cons_succ]
 refine wpAnyH_take (i:=5) (v:=?_) (by simp only[List.getElem?_toArray,List.getElem?_cons_succ,List.getElem?_cons_zero];rfl) kR kR kR (by exact fun _ _ _ h=>h) (Or.inl ⟨rF,?_⟩) (by assumption) ?_
 rotate_left 1
 ·(intro wS hSw;(try dsimp only at hSw);go_simp;try(with_reducible rfl))
 try simp only[Act.put,List.setIfInBounds_toArray,List.set_cons_zero,List.set_cons_succ]
 refine wpAnyH_take (i:=6) (v:=?_) (by simp only[List.getElem?_toArray,List.getElem?_cons_succ,List.getElem?_cons_zero];rfl) kR kR kR (by exact fun _ _ _ h=>h) (Or.inl ⟨rF,?_⟩) (by assumption) ?_
 rotate_left 1
 ·(intro wS hSw;(try dsimp only at hSw);go_simp;try(with_reducible rfl))
 try simp only[Act.put,List.setIfInBounds_toArray,List.set_cons_zero,List.set_cons_succ]
 refine wpAnyH_take (i:=7) (v:=?_) (by simp only[List.getElem?_toArray,List.getElem?_cons_succ,List.getElem?_cons_zero];rfl) kR kR kR (by exact fun _ _ _ h=>h) (Or.inl ⟨rF,?_⟩) (by assumption) ?_
 rotate_left 1
 ·(intro wS hSw;(try dsimp only at hSw);go_simp;try(with_reducible rfl))
 try simp only[Act.put,List.setIfInBounds_toArray,List.set_cons_zero,List.set_cons_succ]
 refine wpAnyH_take (i:=8) (v:=?_) (by simp only[List.getElem?_toArray,List.getElem?_cons_succ,List.getElem?_cons_zero];rfl) kR kR kR (by exact fun _ _ _ h=>h) (Or.inl ⟨rF,?_⟩) (by assumption) ?_
 rotate_left 1
 ·(intro wS hSw;(try dsimp only at hSw);go_simp;try(with_reducible rfl))
 try simp only[Act.put,List.setIfInBounds_toArray,List.set_cons_zero,List.set_cons_succ]
 refine wpAnyH_take (i:=9) (v:=?_) (by simp only[List.getElem?_toArray,List.getElem?_cons_succ,List.getElem?_cons_zero];rfl) kR kR kR (by exact fun _ _ _ h=>h) (Or.inl ⟨rF,?_⟩) (by assumption) ?_
 rotate_left 1
 ·(intro wS hSw;(try dsimp only at hSw);go_simp;try(with_reducible rfl))
 try simp only[Act.put,List.setIfInBounds_toArray,List.set_cons_zero,List.set_cons_succ]
 refine wpAnyH_take (i:=10) (v:=?_) (by simp only[List.getElem?_toArray,List.getElem?_cons_succ,List.getElem?_cons_zero];rfl) kR kR kR (by exact fun _ _ _ h=>h) (Or.inl ⟨rF,?_⟩) (by assumption) ?_
 rotate_left 1
 ·(intro wS hSw;(try dsimp only at hSw);go_simp;try(with_reducible rfl))
 try simp only[Act.put,List.setIfInBounds_toArray,List.set_cons_zero,List.set_cons_succ]
 refine wpAnyH_take (i:=11) (v:=?_) (by simp only[List.getElem?_toArray,List.getElem?_cons_succ,List.getElem?_cons_zero];rfl) kR kR kR (by exact fun _ _ _ h=>h) (Or.inl ⟨rF,?_⟩) (by assumption) ?_
 rotate_left 1
 ·(intro wS hSw;(try dsimp only at hSw);go_simp;try(with_reducible rfl))
 try simp only[Act.put,List.setIfInBounds_toArray,List.set_cons_zero,List.set_cons_succ]
 refine wpAnyH_take (i:=12) (v:=?_) (by simp only[List.getElem?_toArray,List.getElem?_cons_succ,List.getElem?_cons_zero];rfl) kR kR kR (by exact fun _ _ _ h=>h) (Or.inl ⟨rF,?_⟩) (by assumption) ?_
 rotate_left 1
 ·(intro wS hSw;(try dsimp only at hSw);go_simp;try(with_reducible rfl))
 try simp only[Act.put,List.setIfInBounds_toArray,List.set_cons_zero,List.set_cons_succ]
 refine wpAnyH_take (i:=13) (v:=?_) (by simp only[List.getElem?_toArray,List.getElem?_cons_succ,List.getElem?_cons_zero];rfl) kR kR kR (by exact fun _ _ _ h=>h) (Or.inl ⟨rF,?_⟩) (by assumption) ?_
 rotate_left 1
 ·(intro wS hSw;(try dsimp only at hSw);go_simp;try(with_reducible rfl))
 try simp only[Act.put,List.setIfInBounds_toArray,List.set_cons_zero,List.set_cons_succ]
 refine wpAnyH_take (i:=14) (v:=?_) (by simp only[List.getElem?_toArray,List.getElem?_cons_succ,List.getElem?_cons_zero];rfl) kR kR kR (by exact fun _ _ _ h=>h) (Or.inl ⟨rF,?_⟩) (by assumption) ?_
 rotate_left 1
 ·(intro wS hSw;(try dsimp only at hSw);go_simp;try(with_reducible rfl))
 try simp only[Act.put,List.setIfInBounds_toArray,List.set_cons_zero,List.set_cons_succ]
 refine wpAnyH_take (i:=15) (v:=?_) (by simp only[List.getElem?_toArray,List.getElem?_cons_succ,List.getElem?_cons_zero];rfl) kR kR kR (by exact fun _ _ _ h=>h) (Or.inl ⟨rF,?_⟩) (by assumption) ?_
 rotate_left 1
 ·(intro wS hSw;(try dsimp only at hSw);go_simp;try(with_reducible rfl))
 try simp only[Act.put,List.setIfInBounds_toArray,List.set_cons_zero,List.set_cons_succ]
 refine wpAnyH_take (i:=16) (v:=?_) (by simp only[List.getElem?_toArray,List.getElem?_cons_succ,List.getElem?_cons_zero];rfl) kR kR kR (by exact fun _ _ _ h=>h) (Or.inl ⟨rF,?_⟩) (by assumption) ?_
 rotate_left 1
 ·(intro wS hSw;(try dsimp only at hSw);go_simp;try(with_reducible rfl))
 try simp only[Act.put,List.setIfInBounds_toArray,List.set_cons_zero,List.set_cons_succ]
 refine wpAnyH_take (i:=17) (v:=?_) (by simp only[List.getElem?_toArray,List.getElem?_cons_succ,List.getElem?_cons_zero];rfl) kR kR kR (by exact fun _ _ _ h=>h) (Or.inl ⟨rF,?_⟩) (by assumption) ?_
 rotate_left 1
 ·(intro wS hSw;(try dsimp only at hSw);go_simp;try(with_reducible rfl))
 try simp only[Act.put,List.setIfInBounds_toArray,List.set_cons_zero,List.set_cons_succ]
 refine wpAnyH_take (i:=18) (v:=?_) (by simp only[List.getElem?_toArray,List.getElem?_cons_succ,List.getElem?_cons_zero];rfl) kR kR kR (by exact fun _ _ _ h=>h) (Or.inl ⟨rF,?_⟩) (by assumption) ?_
 rotate_left 1
 ·(intro wS hSw;(try dsimp only at hSw);go_simp;try(with_reducible rfl))
 try simp only[Act.put,List.setIfInBounds_toArray,List.set_cons_zero,List.set_cons_succ]
 refine wpAnyH_take (i:=19) (v:=?_) (by simp only[List.getElem?_toArray,List.getElem?_cons_succ,List.getElem?_cons_zero];rfl) kR kR kR (by exact fun _ _ _ h=>h) (Or.inl ⟨rF,?_⟩) (by assumption) ?_
 rotate_left 1
 ·(intro wS hSw;(try dsimp only at hSw);go_simp;try(with_reducible rfl))
 try simp only[Act.put,List.setIfInBounds_toArray,List.set_cons_zero,List.set_cons_succ]
 refine wpAnyH_take (i:=20) (v:=?_) (by simp only[List.getElem?_toArray,List.getElem?_cons_succ,List.getElem?_cons_zero];rfl) kR kR kR (by exact fun _ _ _ h=>h) (Or.inl ⟨rF,?_⟩) (by assumption) ?_
 rotate_left 1
 ·(intro wS hSw;(try dsimp only at hSw);go_simp;try(with_reducible rfl))
 try simp only[Act.put,List.setIfInBounds_toArray,List.set_cons_zero,List.set_cons_succ]
 refine wpAnyH_take (i:=21) (v:=?_) (by simp only[List.getElem?_toArray,List.getElem?_cons_succ,List.getElem?_cons_zero];rfl) kR kR kR (by exact fun _ _ _ h=>h) (Or.inl ⟨rF,?_⟩) (by assumption) ?_
 rotate_left 1
 ·(intro wS hSw;(try dsimp only at hSw);go_simp;try(with_reducible rfl))
 try simp only[Act.put,List.setIfInBounds_toArray,List.set_cons_zero,List.set_cons_succ]
 refine wpAnyH_take (i:=22) (v:=?_) (by simp only[List.getElem?_toArray,List.getElem?_cons_succ,List.getElem?_cons_zero];rfl) kR kR kR (by exact fun _ _ _ h=>h) (Or.inl ⟨rF,?_⟩) (by assumption) ?_
 rotate_left 1
 ·(intro wS hSw;(try dsimp only at hSw);go_simp;try(with_reducible rfl))
 try simp only[Act.put,List.setIfInBounds_toArray,List.set_cons_zero,List.set_cons_succ]
 refine wpAnyH_done kR ?_ _
 go_wp2
 go_ret
 refine⟨Ad ?_,Cl hbt⟩
 rw[<-HQ9.out]
 simp[hks]):p:=h
theorem Sf{p:Prop}(h:p:=by
 refine wpAnyH_take (i:=0) (v:=?_) (by simp only[List.getElem?_toArray,List.getElem?_cons_succ,List.getElem?_cons_zero];rfl) kR kR kR (by exact fun _ _ _ h=>h) (Or.inl ⟨rF,?_⟩) (by assumption) ?_
 rotate_left 1
 ·(intro wS hSw;(try dsimp only at hSw);go_simp;try(with_reducible rfl))
 try simp only[Act.put,List.setIfInBounds_toArray,List.set_cons_zero,List.set_cons_succ]
 refine wpAnyH_take (i:=1) (v:=?_) (by simp only[List.getElem?_toArray,List.getElem?_cons_succ,List.getElem?_cons_zero];rfl) kR kR kR (by exact fun _ _ _ h=>h) (Or.inl ⟨rF,?_⟩) (by assumption) ?_
 rotate_left 1
 ·(intro wS hSw;(try dsimp only at hSw);go_simp;try(with_reducible rfl))
 try simp only[Act.put,List.setIfInBounds_toArray,List.set_cons_zero,List.set_cons_succ]
 refine wpAnyH_take (i:=2) (v:=?_) (by simp only[List.getElem?_toArray,List.getElem?_cons_succ,List.getElem?_cons_zero];rfl) kR kR kR (by exact fun _ _ _ h=>h) (Or.inl ⟨rF,?_⟩) (by assumption) ?_
 rotate_left 1
 ·(intro wS hSw;(try dsimp only at hSw);go_simp;try(with_reducible rfl))
 try simp only[Act.put,List.setIfInBounds_toArray,List.set_cons_zero,List.set_cons_succ]
 refine wpAnyH_take (i:=3) (v:=?_) (by simp only[List.getElem?_toArray,List.getElem?_cons_succ,List.getElem?_cons_zero];rfl) kR kR kR (by exact fun _ _ _ h=>h) (Or.inl ⟨rF,?_⟩) (by assumption) ?_
 rotate_left 1
 ·(intro wS hSw;(try dsimp only at hSw);go_simp;try(with_reducible rfl))
 try simp only[Act.put,List.setIfInBounds_toArray,List.set_cons_zero,List.set_cons_succ]
 refine wpAnyH_take (i:=4) (v:=?_) (by simp only[List.getElem?_toArray,List.getElem?_cons_succ,List.getElem?_cons_zero];rfl) kR kR kR (by exact fun _ _ _ h=>h) (Or.inl ⟨rF,?_⟩) (by assumption) ?_
 rotate_left 1
 ·(intro wS hSw;(try dsimp only at hSw);go_simp;try(with_reducible rfl))
 try simp only[Act.put,List.setIfInBounds_toArray,List.set_cons_zero,List.set_cons_succ]
 refine wpAnyH_take (i:=5) (v:=?_) (by simp only[List.getElem?_toArray,List.getElem?_cons_succ,List.getElem?_cons_zero];rfl) kR kR kR (by exact fun _ _ _ h=>h) (Or.inl ⟨rF,?_⟩) (by assumption) ?_
 rotate_left 1
 ·(intro wS hSw;(try dsimp only at hSw);go_simp;try(with_reducible rfl))
 try simp only[Act.put,List.setIfInBounds_toArray,List.set_cons_zero,List.set_cons_succ]
 clear hJ
 refine AP 6 fun K hK=>?_
 go_simp
 (go_at_call 118;refine(HK.out _).mono ?_;rintro e w1 ⟨rfl,rfl⟩)
 try(go_wp2_with fail)
 refine AW hK fun hJ=>?_
 clear hK K
 refine wpAnyH_take (i:=7) (v:=?_) (by simp only[List.getElem?_toArray,List.getElem?_cons_succ,List.getElem?_cons_zero];rfl) kR kR kR (by exact fun _ _ _ h=>h) (Or.inl ⟨rF,?_⟩) (by assumption) ?_
 rotate_left 1
 ·(intro wS hSw;(try dsimp only at hSw);go_simp;try(with_reducible rfl))
 try simp only[Act.put,List.setIfInBounds_toArray,List.set_cons_zero,List.set_cons_succ]
 refine wpAnyH_take (i:=8) (v:=undef) (by simp only[List.getElem?_toArray,List.getElem?_cons_succ,List.getElem?_cons_zero];rfl) kR kR kR (by exact fun _ _ _ h=>h) (Or.inr ⟨rF,rfl⟩) (by assumption) ?_
 try simp only[Act.put,List.setIfInBounds_toArray,List.set_cons_zero,List.set_cons_succ]
 refine wpAnyH_take (i:=9) (v:=undef) (by simp only[List.getElem?_toArray,List.getElem?_cons_succ,List.getElem?_cons_zero];rfl) kR kR kR (by exact fun _ _ _ h=>h) (Or.inr ⟨rF,rfl⟩) (by assumption) ?_
 try simp only[Act.put,List.setIfInBounds_toArray,List.set_cons_zero,List.set_cons_succ]
 refine wpAnyH_take (i:=10) (v:=undef) (by simp only[List.getElem?_toArray,List.getElem?_cons_succ,List.getElem?_cons_zero];rfl) kR kR kR (by exact fun _ _ _ h=>h) (Or.inr ⟨rF,rfl⟩) (by assumption) ?_
 try simp only[Act.put,List.setIfInBounds_toArray,List.set_cons_zero,List.set_cons_succ]
 refine wpAnyH_take (i:=11) (v:=undef) (by simp only[List.getElem?_toArray,List.getElem?_cons_succ,List.getElem?_cons_zero];rfl) kR kR kR (by exact fun _ _ _ h=>h) (Or.inr ⟨rF,rfl⟩) (by assumption) ?_
 try simp only[Act.put,List.setIfInBounds_toArray,List.set_cons_zero,List.set_cons_succ]
 refine wpAnyH_take (i:=12) (v:=undef) (by simp only[List.getElem?_toArray,List.getElem?_cons_succ,List.getElem?_cons_zero];rfl) kR kR kR (by exact fun _ _ _ h=>h) (Or.inr ⟨rF,rfl⟩) (by assumption) ?_
 try simp only[Act.put,List.setIfInBounds_toArray,List.set_cons_zero,List.set_cons_succ]
 refine wpAnyH_take (i:=13) (v:=undef) (by simp only[List.getElem?_toArray,List.getElem?_cons_succ,List.getElem?_cons_zero];rfl) kR kR kR (by exact fun _ _ _ h=>h) (Or.inr ⟨rF,rfl⟩) (by assumption) ?_
 try simp only[Act.put,List.setIfInBounds_toArray,List.set_cons_zero,List.set_cons_succ]
 refine wpAnyH_take (i:=14) (v:=undef) (by simp only[List.getElem?_toArray,List.getElem?_cons_succ,List.getElem?_cons_zero];rfl) kR kR kR (by exact fun _ _ _ h=>h) (Or.inr ⟨rF,rfl⟩) (by assumption) ?_
 try simp only[Act.put,List.setIfInBounds_toArray,List.set_cons_zero,List.set_cons_succ]
 refine wpAnyH_take (i:=15) (v:=undef) (by simp only[List.getElem?_toArray,List.getElem?_cons_succ,List.getElem?_cons_zero];rfl) kR kR kR (by exact fun _ _ _ h=>h) (Or.inr ⟨rF,rfl⟩) (by assumption) ?_
 try simp only[Act.put,List.setIfInBounds_toArray,List.set_cons_zero,List.set_cons_succ]
 refine wpAnyH_take (i:=16) (v:=undef) (by simp only[List.getElem?_toArray,List.getElem?_cons_succ,List.getElem?_cons_zero];rfl) kR kR kR (by exact fun _ _ _ h=>h) (Or.inr ⟨rF,rfl⟩) (by assumption) ?_
 try simp only[Act.put,List.setIfInBounds_toArray,List.set_cons_zero,List.set_cons_succ]
 refine wpAnyH_take (i:=17) (v:=undef) (by simp only[List.getElem?_toArray,List.getElem?_cons_succ,List.getElem?_cons_zero];rfl) kR kR kR (by exact fun _ _ _ h=>h) (Or.inr ⟨rF,rfl⟩) (by assumption) ?_
 try simp only[Act.put,List.setIfInBounds_toArray,List.set_cons_zero,List.set_cons_succ]
 refine wpAnyH_take (i:=18) (v:=?_) (by simp only[List.getElem?_toArray,List.getElem?_cons_succ,List.getElem?_cons_zero];rfl) kR kR kR (by exact fun _ _ _ h=>h) (Or.inl ⟨rF,?_⟩) (by assumption) ?_
 rotate_left 1
 ·(intro wS hSw;(try dsimp only at hSw);go_simp;try(with_reducible rfl))
 try simp only[Act.put,List.setIfInBounds_toArray,List.set_cons_zero,List.set_cons_succ]
 refine wpAnyH_take (i:=19) (v:=?_) (by simp only[List.getElem?_toArray,List.getElem?_cons_succ,List.getElem?_cons_zero];rfl) kR kR kR (by exact fun _ _ _ h=>h) (Or.inl ⟨rF,?_⟩) (by assumption) ?_
 rotate_left 1
 ·(intro wS hSw;(try dsimp only at hSw);go_simp;try(with_reducible rfl))
 try simp only[Act.put,List.setIfInBounds_toArray,List.set_cons_zero,List.set_cons_succ]
 refine wpAnyH_done kR ?_ _
 go_wp2
 go_ret
 exact⟨rfl,bel (A7 _ _) (Am _)⟩):p:=h
theorem Sg{p:Prop}(h:p:=by
 have HRF:Hid (false=RES):=hRES
 clear hRES hKOA hKOB hKOC hPL HPP0
 go_enter func68,ntmps68
 go_wp2_with(first
  |(go_at_call 48;refine(HROW.out _).mono ?_;rintro e w1 ⟨rfl,rfl⟩)
  |(go_at_call 67;refine(HCAN.out _).mono ?_;rintro e w2 ⟨rfl,hb2⟩;have HT2:Hid (TW w (.slice p0 n0 q0) (.slice p1 n1 q1) (.slice p2 n2 q2) v3 (w.heap.size+1) op D A B E n bt (w2.alloc (.cells #[.int .i64 0,.int .i64 0] 62))):=(HT0.next hb2).next (A7 _ _);obtain⟨b1,c0,c1,c2,c3,i0,i1,i2,i3,i4,i5,i6⟩:=HT2.out;have HS2:Hid (w.heap.size+1<w2.heap.size):=Al (HT0.next hb2).i0;clear hb2))
 have HTD:Hid _:=HT2.out
 have HD:Hid ((w2.alloc (.cells #[.int .i64 0,.int .i64 0] 62)).cell? ⟨w2.heap.size,0,none⟩=some (.int .i64 0)/\(w2.alloc (.cells #[.int .i64 0,.int .i64 0] 62)).cell? ⟨w2.heap.size,1,none⟩=some (.int .i64 0)):=⟨sG,sG⟩
 obtain⟨Z,hZ⟩:=gA (w2.heap.size)
 obtain⟨Wd,hWd⟩:∃W,w2.alloc (.cells #[.int .i64 0,.int .i64 0] 62)=W:=⟨_,rfl⟩
 rw[hZ]at HD
 rw[hWd]at HD HTD |-
 try rw[hZ]
 clear hZ hWd HT2 b1 c0 c1 c2 c3 i0 i1 i2 i3 i4 i5 i6 HT0 HROW HCAN
 have HCD:Hid (∀v,Below Wd.heap.size Wd v->v.cell? ⟨w.heap.size,0,none⟩=some (.slice p0 n0 q0)/\v.cell? ⟨w.heap.size,1,none⟩=some (.slice p1 n1 q1)/\v.cell? ⟨w.heap.size,2,none⟩=some (.slice p2 n2 q2)/\v.cell? ⟨w.heap.size,3,none⟩=some v3/\v.cell? ⟨w.heap.size+1,1,none⟩=some (.int .i64 D)/\v.cell? ⟨w.heap.size+1,2,none⟩=some (.int .i64 A)/\v.cell? ⟨w.heap.size+1,3,none⟩=some (.int .i64 B)/\v.cell? ⟨w.heap.size+1,4,none⟩=some (.int .i64 E)/\v.cell? ⟨w.heap.size+1,5,none⟩=some (.int .i64 n)/\v.cell? ⟨Z,0,none⟩=some (.int .i64 0)/\v.cell? ⟨Z,1,none⟩=some (.int .i64 0)):=fun v hb=>⟨kc hb HTD.c0,kc hb HTD.c1,kc hb HTD.c2,kc hb HTD.c3,kc hb HTD.i1,kc hb HTD.i2,kc hb HTD.i3,kc hb HTD.i4,kc hb HTD.i5,kc hb HD.1,kc hb HD.2⟩
 obtain⟨c0,c1,c2,c3,i1,i2,i3,i4,i5,d0,d1⟩:=HCD.out Wd (Cq _)
 refine rG (fun v=>v.cell? ⟨w.heap.size,0,none⟩=some (.slice p0 n0 q0)/\v.cell? ⟨w.heap.size,1,none⟩=some (.slice p1 n1 q1)/\v.cell? ⟨w.heap.size,2,none⟩=some (.slice p2 n2 q2)/\v.cell? ⟨w.heap.size,3,none⟩=some v3/\v.cell? ⟨w.heap.size+1,1,none⟩=some (.int .i64 D)/\v.cell? ⟨w.heap.size+1,2,none⟩=some (.int .i64 A)/\v.cell? ⟨w.heap.size+1,3,none⟩=some (.int .i64 B)/\v.cell? ⟨w.heap.size+1,4,none⟩=some (.int .i64 E)/\v.cell? ⟨w.heap.size+1,5,none⟩=some (.int .i64 n)/\v.cell? ⟨Z,0,none⟩=some (.int .i64 0)/\v.cell? ⟨Z,1,none⟩=some (.int .i64 0)) fun hJ=>?_
 refine wpAnyH_take (i:=0) (v:=?_) (by simp only[List.getElem?_toArray,List.getElem?_cons_succ,List.getElem?_cons_zero];rfl) kR kR kR (by exact fun _ _ _ h=>h) (Or.inl ⟨rF,?_⟩) (by assumption) ?_
 rotate_left 1
 ·(intro wS hSw;(try dsimp only at hSw);go_simp;try(with_reducible rfl))
 try simp only[Act.put,List.setIfInBounds_toArray,List.set_cons_zero,List.set_cons_succ]
 refine wpAnyH_take (i:=1) (v:=?_) (by simp only[List.getElem?_toArray,List.getElem?_cons_succ,List.getElem?_cons_zero];rfl) kR kR kR (by exact fun _ _ _ h=>h) (Or.inl ⟨rF,?_⟩) (by assumption) ?_
 rotate_left 1
 ·(intro wS hSw;(try dsimp only at hSw);go_simp;try(with_reducible rfl))
 try simp only[Act.put,List.setIfInBounds_toArray,List.set_cons_zero,List.set_cons_succ]
 refine wpAnyH_take (i:=2) (v:=?_) (by simp only[List.getElem?_toArray,List.getElem?_cons_succ,List.getElem?_cons_zero];rfl) kR kR kR (by exact fun _ _ _ h=>h) (Or.inl ⟨rF,?_⟩) (by assumption) ?_
 rotate_left 1
 ·(intro wS hSw;(try dsimp only at hSw);go_simp;try(with_reducible rfl))
 try simp only[Act.put,List.setIfInBounds_toArray,List.set_cons_zero,List.set_cons_succ]
 refine wpAnyH_take (i:=3) (v:=?_) (by simp only[List.getElem?_toArray,List.getElem?_cons_succ,List.getElem?_cons_zero];rfl) kR kR kR (by exact fun _ _ _ h=>h) (Or.inl ⟨rF,?_⟩) (by assumption) ?_
 rotate_left 1
 ·(intro wS hSw;(try dsimp only at hSw);go_simp;try(with_reducible rfl))
 try simp only[Act.put,List.setIfInBounds_toArray,List.set_cons_zero,List.set_cons_succ]
 refine wpAnyH_take (i:=4) (v:=?_) (by simp only[List.getElem?_toArray,List.getElem?_cons_succ,List.getElem?_cons_zero];rfl) kR kR kR (by exact fun _ _ _ h=>h) (Or.inl ⟨rF,?_⟩) (by assumption) ?_
 rotate_left 1
 ·(intro wS hSw;(try dsimp only at hSw);go_simp;try(with_reducible rfl))
 try simp only[Act.put,List.setIfInBounds_toArray,List.set_cons_zero,List.set_cons_succ]
 refine wpAnyH_take (i:=5) (v:=?_) (by simp only[List.getElem?_toArray,List.getElem?_cons_succ,List.getElem?_cons_zero];rfl) kR kR kR (by exact fun _ _ _ h=>h) (Or.inl ⟨rF,?_⟩) (by assumption) ?_
 rotate_left 1
 ·(intro wS hSw;(try dsimp only at hSw);go_simp;try(with_reducible rfl))
 try simp only[Act.put,List.setIfInBounds_toArray,List.set_cons_zero,List.set_cons_succ]
 clear hJ
 refine AP 6 fun K hK=>?_
 go_simp
 (go_at_call 92;(with_reducible refine(HK0.out _ (bel HTD.out.bel (Am _))).mono ?_);rintro e w3 ⟨rfl,hb9⟩;have HB3:Hid (Below Wd.heap.size Wd w3):=bel (Am _) hb9;clear hb9;obtain⟨c0,c1,c2,c3,i1,i2,i3,i4,i5,d0,d1⟩:=HCD.out w3 HB3.out)
 try(go_wp2_with fail)
 refine AW hK fun hJ=>?_
 clear hK K
 refine wpAnyH_take (i:=7) (v:=?_) (by simp only[List.getElem?_toArray,List.getElem?_cons_succ,List.getElem?_cons_zero];rfl) kR kR kR (by exact fun _ _ _ h=>h) (Or.inl ⟨rF,?_⟩) (by assumption) ?_
 rotate_left 1
 ·(intro wS hSw;(try dsimp only at hSw);go_simp;try(with_reducible rfl))
 try simp only[Act.put,List.setIfInBounds_toArray,List.set_cons_zero,List.set_cons_succ]
 refine wpAnyH_done kR ?_ _
 go_wp2
 go_ret
 exact⟨Ad HRF.out,bel HTD.bel HB3.out⟩):p:=h
theorem Dn{p:Prop}(h:p:=by
 go_enter func74,ntmps74
 go_wp2
 refine bodyPost_ret (by simp[results,results74,go_sem];try rfl) rfl ?_
 exact⟨rfl,gG⟩):p:=h
theorem F1{p:Prop}(h:p:=by
 go_enter func69,ntmps69
 go_wp2_with(go_at_call 94;(with_reducible refine(KE.out _).mono ?_);rintro e w1 ⟨rfl,rfl⟩)
 go_ret
 refine⟨?_,bel (A7 _ _) (A7 _ _)⟩
 first|rfl|simp[*]):p:=h
theorem Sh{p:Prop}(h:p:=by
 refine rG (fun v=>v.cell? ⟨C,0,none⟩=some (.slice none 0 0)) fun hJ=>?_
 refine wpAnyH_take (i:=0) (v:=?_) (by simp only[List.getElem?_toArray,List.getElem?_cons_succ,List.getElem?_cons_zero];rfl) kR kR kR (by exact fun _ _ _ h=>h) (Or.inl ⟨rF,?_⟩) (by assumption) ?_
 rotate_left 1
 ·(intro wS hSw;(try dsimp only at hSw);go_simp;try(with_reducible rfl))
 try simp only[Act.put,List.setIfInBounds_toArray,List.set_cons_zero,List.set_cons_succ]
 refine wpAnyH_take (i:=1) (v:=?_) (by simp only[List.getElem?_toArray,List.getElem?_cons_succ,List.getElem?_cons_zero];rfl) kR kR kR (by exact fun _ _ _ h=>h) (Or.inl ⟨rF,?_⟩) (by assumption) ?_
 rotate_left 1
 ·(intro wS hSw;(try dsimp only at hSw);go_simp;try(with_reducible rfl))
 try simp only[Act.put,List.setIfInBounds_toArray,List.set_cons_zero,List.set_cons_succ]
 refine wpAnyH_take (i:=2) (v:=?_) (by simp only[List.getElem?_toArray,List.getElem?_cons_succ,List.getElem?_cons_zero];rfl) kR kR kR (by exact fun _ _ _ h=>h) (Or.inl ⟨rF,?_⟩) (by assumption) ?_
 rotate_left 1
 ·(intro wS hSw;(try dsimp only at hSw);go_simp;try(with_reducible rfl))
 try simp only[Act.put,List.setIfInBounds_toArray,List.set_cons_zero,List.set_cons_succ]
 refine wpAnyH_take (i:=3) (v:=?_) (by simp only[List.getElem?_toArray,List.getElem?_cons_succ,List.getElem?_cons_zero];rfl) kR kR kR (by exact fun _ _ _ h=>h) (Or.inl ⟨rF,?_⟩) (by assumption) ?_
 rotate_left 1
 ·(intro wS hSw;(try dsimp only at hSw);go_simp;try(with_reducible rfl))
 try simp only[Act.put,List.setIfInBounds_toArray,List.set_cons_zero,List.set_cons_succ]
 refine wpAnyH_take (i:=4) (v:=?_) (by simp only[List.getElem?_toArray,List.getElem?_cons_succ,List.getElem?_cons_zero];rfl) kR kR kR (by exact fun _ _ _ h=>h) (Or.inl ⟨rF,?_⟩) (by assumption) ?_
 rotate_left 1
 ·(intro wS hSw;(try dsimp only at hSw);go_simp;try(with_reducible rfl))
 try simp only[Act.put,List.setIfInBounds_toArray,List.set_cons_zero,List.set_cons_succ]
 refine wpAnyH_take (i:=5) (v:=?_) (by simp only[List.getElem?_toArray,List.getElem?_cons_succ,List.getElem?_cons_zero];rfl) kR kR kR (by exact fun _ _ _ h=>h) (Or.inl ⟨rF,?_⟩) (by assumption) ?_
 rotate_left 1
 ·(intro wS hSw;(try dsimp only at hSw);go_simp;try(with_reducible rfl))
 try simp only[Act.put,List.setIfInBounds_toArray,List.set_cons_zero,List.set_cons_succ]
 refine wpAnyH_done kR ?_ _
 obtain⟨V0,hD_V0⟩:∃W,W0.drew=W:=⟨_,rfl⟩
 replace R_C:=A6 (show V0.rowIs C _ _ _ from hD_V0▸R_C.drew)
 replace HBW:=A6 (show Below C w V0 from hD_V0▸HBW.drew)
 try rw[hD_V0]
 clear hD_V0
 clear cC0 cC1 cC2 cC3
 clear HCV
 obtain⟨cC0,cC1,cC2,cC3⟩:=c4 R_C.out
 obtain⟨zC0,zC1,zC2,zC3⟩:=z4 R_C.out
 have hq:=AI R_C.out (.slice none 0 0) (.slice none 0 0) (.slice none 0 0) (.slice none 0 0)
 obtain⟨W1,hP_W1⟩:∃W,(((V0.setCell ⟨C,0,none⟩ (.slice none 0 0)).setCell ⟨C,1,none⟩ (.slice none 0 0)).setCell ⟨C,2,none⟩ (.slice none 0 0)).setCell ⟨C,3,none⟩ (.slice none 0 0)=W:=⟨_,rfl⟩
 rw[hP_W1]at hq
 replace R_C:=A6 hq.1
 replace HBW:=A6 (HBW.trans (hq.2.bel C HC_C.out))
 clear hq
 have HP_W1:=A6 hP_W1
 clear hP_W1
 obtain⟨l0,l1,l2,l3⟩:=c4 R_C.out
 go_wp2_with fail
 try rw[HP_W1.out]
 have HB:Hid (Below w.heap.size w W1):=by show Below _ _ _;rw[HCW.out];exact HBW.out
 clear cC0 cC1 cC2 cC3 zC0 zC1 zC2 zC3
 refine bodyPost_ret (by simp[results,results13,go_sem, *];try rfl) rfl ?_
 rw[HD.out]
 exact⟨rfl,HB.out⟩):p:=h
theorem Si{p:Prop}(h:p:=by
 refine wpAnyH_take (i:=0) (v:=?_) (by simp only[List.getElem?_toArray,List.getElem?_cons_succ,List.getElem?_cons_zero];rfl) kR kR kR (by exact fun _ _ _ h=>h) (Or.inl ⟨rF,?_⟩) (by assumption) ?_
 rotate_left 1
 ·(intro wS hSw;(try dsimp only at hSw);go_simp;try(with_reducible rfl))
 try simp only[Act.put,List.setIfInBounds_toArray,List.set_cons_zero,List.set_cons_succ]
 refine wpAnyH_take (i:=1) (v:=?_) (by simp only[List.getElem?_toArray,List.getElem?_cons_succ,List.getElem?_cons_zero];rfl) kR kR kR (by exact fun _ _ _ h=>h) (Or.inl ⟨rF,?_⟩) (by assumption) ?_
 rotate_left 1
 ·(intro wS hSw;(try dsimp only at hSw);go_simp;try(with_reducible rfl))
 try simp only[Act.put,List.setIfInBounds_toArray,List.set_cons_zero,List.set_cons_succ]
 refine wpAnyH_take (i:=2) (v:=?_) (by simp only[List.getElem?_toArray,List.getElem?_cons_succ,List.getElem?_cons_zero];rfl) kR kR kR (by exact fun _ _ _ h=>h) (Or.inl ⟨rF,?_⟩) (by assumption) ?_
 rotate_left 1
 ·(intro wS hSw;(try dsimp only at hSw);go_simp;try(with_reducible rfl))
 try simp only[Act.put,List.setIfInBounds_toArray,List.set_cons_zero,List.set_cons_succ]
 refine wpAnyH_take (i:=3) (v:=?_) (by simp only[List.getElem?_toArray,List.getElem?_cons_succ,List.getElem?_cons_zero];rfl) kR kR kR (by exact fun _ _ _ h=>h) (Or.inl ⟨rF,?_⟩) (by assumption) ?_
 rotate_left 1
 ·(intro wS hSw;(try dsimp only at hSw);go_simp;try(with_reducible rfl))
 try simp only[Act.put,List.setIfInBounds_toArray,List.set_cons_zero,List.set_cons_succ]
 refine wpAnyH_take (i:=4) (v:=?_) (by simp only[List.getElem?_toArray,List.getElem?_cons_succ,List.getElem?_cons_zero];rfl) kR kR kR (by exact fun _ _ _ h=>h) (Or.inl ⟨rF,?_⟩) (by assumption) ?_
 rotate_left 1
 ·(intro wS hSw;(try dsimp only at hSw);go_simp;try(with_reducible rfl))
 try simp only[Act.put,List.setIfInBounds_toArray,List.set_cons_zero,List.set_cons_succ]
 clear hJ
 refine AP 5 fun K hK=>?_
 go_simp
 refine AW hK fun hJ=>?_
 clear hK K
 refine wpAnyH_take (i:=6) (v:=?_) (by simp only[List.getElem?_toArray,List.getElem?_cons_succ,List.getElem?_cons_zero];rfl) kR kR kR (by exact fun _ _ _ h=>h) (Or.inl ⟨rF,?_⟩) (by assumption) ?_
 rotate_left 1
 ·(intro wS hSw;(try dsimp only at hSw);go_simp;try(with_reducible rfl))
 try simp only[Act.put,List.setIfInBounds_toArray,List.set_cons_zero,List.set_cons_succ]
 refine wpAnyH_take (i:=7) (v:=?_) (by simp only[List.getElem?_toArray,List.getElem?_cons_succ,List.getElem?_cons_zero];rfl) kR kR kR (by exact fun _ _ _ h=>h) (Or.inl ⟨rF,?_⟩) (by assumption) ?_
 rotate_left 1
 ·(intro wS hSw;(try dsimp only at hSw);go_simp;try(with_reducible rfl))
 try simp only[Act.put,List.setIfInBounds_toArray,List.set_cons_zero,List.set_cons_succ]
 refine wpAnyH_done kR ?_ _
 try rw[HP_W7.out]
 go_wp2_with fail
 try rw[HP_W7.out]
 clear cJ0 cJ1 cJ2 cJ3 cC0 cC1 cC2 cC3 zC0 zC1 zC2 zC3
 refine bodyPost_ret (by simp[results,results13,go_sem, *];try rfl) rfl ?_
 rw[HD.out]
 exact⟨rfl,HB.out⟩):p:=h
theorem Do{p:Prop}(h:p:=by
 go_enter func48,ntmps48
 go_wp2
 go_ret2
 exact⟨rfl,rfl⟩):p:=h
theorem QD{p:Prop}(h:p:=by
 go_enter func76,ntmps76
 go_wp2_with(go_at_call 105;refine(HKI.out _ (HS0.below (A7 _ _))).mono ?_;rintro e w1 ⟨⟨A,rfl⟩,hb1⟩;have HF:Hid (MW w w1.heap.size G C b o (.slice p N q) L0 L1 L2 L3 L4 op false P A (w1.alloc (.cells #[.bool false,.int .i64 P,.int .i64 A] 173))):=(by have hq:=bel (A7 _ _) hb1;exact⟨bel hq (A7 _ _),kc (A7 _ _) (kc hb1 sG),kc (A7 _ _) (kc hb1 sG),kc (A7 _ _) (kc hb1 sG),kc (A7 _ _) (kc hb1 sG),kc (A7 _ _) (kc hb1 sG),sG,sG,kc (A7 _ _) (kc hq HS0.c0),kc (A7 _ _) (kc hq HS0.c3),kc (A7 _ _) (kc hq HE0.out)⟩);have f0:=HF.m0;have f1:=HF.g3;have f2:=HF.e0;have f3:=HF.m1;have f4:=HF.g0)
 all_goals(go_ret;exact⟨Ad (by simp;try omega),HF.bel⟩)):p:=h
theorem QE{p:Prop}(h:p:=by
 go_enter func76,ntmps76
 go_wp2_with(go_at_call 105;refine(HKI.out _ (HS0.below (A7 _ _))).mono ?_;rintro e w1 ⟨⟨A,rfl⟩,hb1⟩;have HF:Hid (MW w w1.heap.size G C b o (.slice p N q) L0 L1 L2 L3 L4 op true P A (w1.alloc (.cells #[.bool true,.int .i64 P,.int .i64 A] 173))):=(by have hq:=bel (A7 _ _) hb1;exact⟨bel hq (A7 _ _),kc (A7 _ _) (kc hb1 sG),kc (A7 _ _) (kc hb1 sG),kc (A7 _ _) (kc hb1 sG),kc (A7 _ _) (kc hb1 sG),kc (A7 _ _) (kc hb1 sG),sG,sG,kc (A7 _ _) (kc hq HS0.c0),kc (A7 _ _) (kc hq HS0.c3),kc (A7 _ _) (kc hq HE0.out)⟩);have f0:=HF.m0;have f1:=HF.g3;have f2:=HF.e0;have f3:=HF.m1;have f4:=HF.g0)
 all_goals(go_ret;exact⟨Ad (by simp;try omega),HF.bel⟩)):p:=h
theorem Q6{p:Prop}(h:p:=by
 have q1:(ek==0)=false:=beq_eq_false_iff_ne.2 he
 have HEK:=A6 he
 clear he
 have HFIN:Hid (DV s A e p x1 C D F G w 5 wr):=⟨Ak,ek,pk,d,a,b,c,n,R_C,R_D,R_F,R_G,HBW,HAK,fun A' e' p' y h=>HCT.out A' e' p' y ⟨fun _=>h.1 HEK.out,fun h0=>absurd h0 HEK.out⟩,fun h=>absurd h dE,fun h=>absurd h dE,fun h=>absurd h dE,fun h=>absurd h dE,fun h=>absurd h dE⟩
 go_wp2_with fail
 go_meet
 exact HFIN):p:=h
theorem QF{p:Prop}(h:p:=by
 try(go_wp2_with fail)
 refine AW hK fun hJ=>?_
 clear hK K
 refine wpAnyH_take (i:=7) (v:=?_) (by simp only[List.getElem?_toArray,List.getElem?_cons_succ,List.getElem?_cons_zero];rfl) kR kR kR (by exact fun _ _ _ h=>h) (Or.inl ⟨rF,?_⟩) (by assumption) ?_
 rotate_left 1
 ·(intro wS hSw;(try dsimp only at hSw);go_simp;try(with_reducible rfl))
 try simp only[Act.put,List.setIfInBounds_toArray,List.set_cons_zero,List.set_cons_succ]
 refine wpAnyH_done kR ?_ _
 go_wp2
 go_ret
 exact⟨Ad sM,(HC.out w3 HB3).bel⟩):p:=h
theorem Q7{p:Prop}(h:p:=by
 have e95:(c==(95:Int))=false:=by rw[beq_eq_false_iff_ne];omega
 have e46:(c==(46:Int))=false:=by rw[beq_eq_false_iff_ne];omega
 have e47:(c==(47:Int))=false:=by rw[beq_eq_false_iff_ne];omega
 have e45:(c==(45:Int))=false:=by rw[beq_eq_false_iff_ne];omega
 have hp2:EC c=false:=by unfold EC;simp[*]
 clear h hp NX NB
 go_wp2
 go_meet
 exact⟨by rw[hp2];rfl,rfl⟩):p:=h
theorem Sj{p:Prop}(h:p:=by
 go_simp
 refine AW hK fun hJ=>?_
 clear hK K
 clear hJ
 refine AP 10 fun K hK=>?_
 refine FM rF _ _ _ rF _ _ _ rF rF HR3.out ?_
 refine AW hK fun hJ=>?_
 clear hK K
 refine wpAnyH_take (i:=11) (v:=?_) (by simp only[List.getElem?_toArray,List.getElem?_cons_succ,List.getElem?_cons_zero];rfl) kR kR kR (by exact fun _ _ _ h=>h) (Or.inl ⟨rF,?_⟩) (by assumption) ?_
 rotate_left 1
 ·(intro wS hSw;(try dsimp only at hSw);go_simp;try(with_reducible rfl))
 try simp only[Act.put,List.setIfInBounds_toArray,List.set_cons_zero,List.set_cons_succ]
 refine wpAnyH_take (i:=12) (v:=?_) (by simp only[List.getElem?_toArray,List.getElem?_cons_succ,List.getElem?_cons_zero];rfl) kR kR kR (by exact fun _ _ _ h=>h) (Or.inl ⟨rF,?_⟩) (by assumption) ?_
 rotate_left 1
 ·(intro wS hSw;(try dsimp only at hSw);go_simp;try(with_reducible rfl))
 try simp only[Act.put,List.setIfInBounds_toArray,List.set_cons_zero,List.set_cons_succ]
 clear hJ
 refine AP 13 fun K hK=>?_
 go_simp
 refine AW hK fun hJ=>?_
 clear hK K
 refine wpAnyH_done kR ?_ _
 go_wp2
 first|go_end0|(simp only[Exit.inBlock,Exit.then];refine bodyPost_ret (results_none rfl _ _ _) rfl ?_)|refine bodyPost_ret (results_none rfl _ _ _) rfl ?_
 exact⟨rfl,HF.1,_,_,HF.2⟩):p:=h
theorem QG{p:Prop}(h:p:=by
 have wi:IntKind.i64.wrap ((k:Int)+1)=((k+1:Nat):Int):=by have:=HNK0.out;rw[IntKind.wrap_i64];omega
 have hk1:k+1<=n:=hlt
 have HW9:=A6 hW9
 clear hpt hW9 hlt
 go_wp2_with(at_builtin;refine B1 rF _ _ _ rF _ _ _ rF rF HRUN.out ?_)
 try rw[HW9.out]
 go_roundw
 case rel=>exact⟨k+1,A2,e2,p2,xs++[x],some ⟨g,0,none⟩,c',hk1,gN,HL9,rC9,rK9,HB9,HF9,HO9,HA9,HN9,HC9⟩
 case measure=>simp[intOf];omega):p:=h
theorem QH{p:Prop}(h:p:=by
 go_enter func15,ntmps15
 go_wp2_with(go_at_call 32;(with_reducible refine(HSG.out _ (A7 _ _)).mono ?_);rintro e w1 ⟨rfl,hb1⟩;have HX1:Hid (CX w (.slice p0 n0 q0) (.slice p1 n1 q1) (.slice p2 n2 q2) (.slice p3 n3 q3) w1):=(CX.start w _ _ _ _).next hb1;obtain⟨b1,b2,c0,c1,c2,c3⟩:=HX1.out;clear hb1)
 all_goals go_ret2
 all_goals exact⟨rfl,HX1.bel⟩):p:=h
theorem Sk{p:Prop}(h:p:=by
 go_simp
 refine AW hK fun hJ=>?_
 clear hK K
 clear hJ
 refine AP 7 fun K hK=>?_
 refine IG _ _ _ _ rF _ _ _ rF rF HRUN.out ?_ _ rF
 refine AW hK fun hJ=>?_
 clear hK K
 refine wpAnyH_take (i:=8) (v:=?_) (by simp only[List.getElem?_toArray,List.getElem?_cons_succ,List.getElem?_cons_zero];rfl) kR kR kR (by exact fun _ _ _ h=>h) (Or.inl ⟨rF,?_⟩) (by assumption) ?_
 rotate_left 1
 ·(intro wS hSw;(try dsimp only at hSw);go_simp;try(with_reducible rfl))
 try simp only[Act.put,List.setIfInBounds_toArray,List.set_cons_zero,List.set_cons_succ]
 refine wpAnyH_take (i:=9) (v:=?_) (by simp only[List.getElem?_toArray,List.getElem?_cons_succ,List.getElem?_cons_zero];rfl) kR kR kR (by exact fun _ _ _ h=>h) (Or.inl ⟨rF,?_⟩) (by assumption) ?_
 rotate_left 1
 ·(intro wS hSw;(try dsimp only at hSw);go_simp;try(with_reducible rfl))
 try simp only[Act.put,List.setIfInBounds_toArray,List.set_cons_zero,List.set_cons_succ]
 clear hJ
 refine AP 10 fun K hK=>?_
 go_simp
 refine AW hK fun hJ=>?_
 clear hK K
 refine wpAnyH_done kR ?_ _
 go_wp2
 go_meet
 exact HW6.out):p:=h
theorem Sm{p:Prop}(h:p:=by
 clear q hR HJ hn hp rd3 hb3 hCW3 hCW rc rd hbw HW hA hAk hP hlt
 go_wp2_with(go_at_call 31;(with_reducible refine(KF.out _ _ _).mono ?_);rintro e9 w5 ⟨rfl,hb5⟩;have rd5:=RD.out.of_block (hb5.block _ RD.out.lt);obtain⟨m0,m1,m2,m3⟩:=c4 rd5;obtain⟨g0,g1,g2,g3⟩:=z4 rd5;have HB5:=A6 (HBW.out.trans (hb5.mono HCW.out));have RD5:=A6 rd5;clear hb5 rd5)
 have hq:=AI RD5.out (.string s) (.int .i64 (Q:Int)) (.int .i64 243) (.int .i64 (A:Int))
 obtain⟨W6,hPW6⟩:∃W,(((w5.setCell ⟨D,0,none⟩ (.string s)).setCell ⟨D,1,none⟩ (.int .i64 (Q:Int))).setCell ⟨D,2,none⟩ (.int .i64 243)).setCell ⟨D,3,none⟩ (.int .i64 (A:Int))=W:=⟨_,rfl⟩
 rw[hPW6]at hq
 try rw[hPW6]
 obtain⟨l0,l1,l2,l3⟩:=c4 hq.1
 have HB:Hid (Below w.heap.size w W6):=by show Below _ _ _;rw[HC.out];exact HB5.trans (hq.2.bel C HDC.out)
 clear hq hPW6 c0 c1 c2 c3 d0 d1 d2 d3 fc0 fc1 fc2 fc3 fd0 fd1 fd2 fd3
 refine bodyPost_ret (by simp[results,results59,go_sem, *];try rfl) rfl ?_
 exact⟨_,243,A,0,rfl,dE,Af.err _ (Hk HP.out) dE,HB.out⟩):p:=h
theorem Sn{p:Prop}(h:p:=by
 go_wp2_with(go_at_call 31;(with_reducible refine(KF.out _ _ _).mono ?_);rintro e9 w7 ⟨rfl,hb7⟩;have rd7:=RDW.out.of_block (hb7.block _ RDW.out.lt);obtain⟨n0,n1,n2,n3⟩:=c4 rd7;obtain⟨y0,y1,y2,y3⟩:=z4 rd7;have HB7:=A6 (HBW.out.trans (hb7.mono HCW6.out));have RD7:=A6 rd7;clear hb7 rd7)
 have hq:=AI RD7.out (.string s) (.int .i64 (A1:Int)) (.int .i64 243) (.int .i64 (A:Int))
 obtain⟨W8,hPW8⟩:∃W,(((w7.setCell ⟨D,0,none⟩ (.string s)).setCell ⟨D,1,none⟩ (.int .i64 (A1:Int))).setCell ⟨D,2,none⟩ (.int .i64 243)).setCell ⟨D,3,none⟩ (.int .i64 (A:Int))=W:=⟨_,rfl⟩
 rw[hPW8]at hq
 try rw[hPW8]
 obtain⟨l0,l1,l2,l3⟩:=c4 hq.1
 have HB:Hid (Below w.heap.size w W8):=by show Below _ _ _;rw[HC.out];exact HB7.trans (hq.2.bel C HDC.out)
 clear hq hPW8 k0 k1 k2 k3 j0 j1 j2 j3 fj0 fj1 fj2 fj3 n0 n1 n2 n3 y0 y1 y2 y3
 refine bodyPost_ret (by simp[results,results60,go_sem, *];try rfl) rfl ?_
 exact⟨A1,243,A,0,rfl,gI _,HBAD.out A1 0,HB.out⟩):p:=h
theorem OY{p:Prop}(h:p:=by
 go_enter func124,ntmps124
 go_wp2_with(go_at_call 126;refine(HK.out _).mono ?_;rintro e w1 ⟨rfl,rfl⟩)
 go_ret
 exact⟨Ad (HP.out _ sO),rfl⟩):p:=h
theorem So{p:Prop}(h:p:=by
 try simp only[Act.put,List.setIfInBounds_toArray,List.set_cons_zero,List.set_cons_succ]
 refine wpAnyH_take (i:=21) (v:=?_) (by simp only[List.getElem?_toArray,List.getElem?_cons_succ,List.getElem?_cons_zero];rfl) kR kR kR (by exact fun _ _ _ h=>h) (Or.inl ⟨rF,?_⟩) (by assumption) ?_
 rotate_left 1
 ·(intro wS hSw;(try dsimp only at hSw);go_simp;try(with_reducible rfl))
 try simp only[Act.put,List.setIfInBounds_toArray,List.set_cons_zero,List.set_cons_succ]
 refine wpAnyH_take (i:=22) (v:=?_) (by simp only[List.getElem?_toArray,List.getElem?_cons_succ,List.getElem?_cons_zero];rfl) kR kR kR (by exact fun _ _ _ h=>h) (Or.inl ⟨rF,?_⟩) (by assumption) ?_
 rotate_left 1
 ·(intro wS hSw;(try dsimp only at hSw);go_simp;try(with_reducible rfl))
 try simp only[Act.put,List.setIfInBounds_toArray,List.set_cons_zero,List.set_cons_succ]
 refine wpAnyH_done kR ?_ _
 go_wp2
 go_ret
 exact⟨Ad sM,bel HF.bel (Am _)⟩):p:=h
theorem Q8{p:Prop}(h:p:=by
 have e47:(c==(47:Int))=false:=by rw[beq_eq_false_iff_ne];omega
 have e45:(c==(45:Int))=false:=by rw[beq_eq_false_iff_ne];omega
 have hp2:EC c=true:=by unfold EC;simp[*]
 clear h hp NX NB
 go_wp2
 go_meet
 exact⟨by rw[hp2];rfl,rfl⟩):p:=h
theorem IZ{p:Prop}(h:p:=by
 rcases(show j=0\/j=1\/j=2\/j=3 by omega)with rfl|rfl|rfl|rfl<;>rfl):p:=h
theorem Nu{p:Prop}(h:p:=by
 rcases(show j=0\/j=1\/j=2\/j=3\/j=4\/j=5\/j=6 by omega)with rfl|rfl|rfl|rfl|rfl|rfl|rfl<;>rfl):p:=h
theorem Sp{p:Prop}(h:p:=by
 go_enter func71,ntmps71
 go_wp2_with(first
  |(go_at_call 95;refine HK1.mono ?_;rintro e w1 ⟨rfl,hb1⟩)
  |(go_at_call 97;refine(HK2.out _ (HR.below hb1)).mono ?_;rintro e w2 ⟨D,rfl,hm,hf,hb2⟩;have HM1:Hid (Ds w2 w1.heap.size n D):=hm;have hs:Maps.size D=n:=(by rw[hf.no HW.out,HN.out]);have hs2:¬ ((Maps.size D:Int)<(n:Int)):=oM;have HS:Hid (¬ ((Maps.size D:Int)<(n:Int))):=hs2;clear hm hf hs)
  |(have _t:=HM1;at_len;refine wpList_len_own _ rfl _ 164 rfl 9 3 underlying164 _ w1.heap.size n D rfl HM1.out ?_;clear HM1)
  |(go_at_call 98;refine(HK3.out _ (HR.below (bel hb1 hb2))).mono ?_;rintro e w3 ⟨rfl,hb3⟩))
 all_goals(go_ret;exact⟨rfl,bel (bel hb1 hb2) hb3⟩)):p:=h
theorem QI{p:Prop}(h:p:=by
 go_enter func101,ntmps101
 go_wp2_with(go_at_call 118;refine(HK.out _).mono ?_;rintro e w1 ⟨rfl,rfl⟩)
 refine bodyPost_ret (by simp[results,results101,go_sem, *];try rfl) rfl ?_
 exact⟨by rw[HT.out];rfl,gG⟩):p:=h
theorem Q9{p:Prop}(h:p:=by
 rw[hc];clear hc
 go_enter func127,ntmps127
 go_wp2_with(go_at_call 129;refine(Ky _ h0 h1 _).mono ?_;rintro e w' ⟨rfl,rfl⟩)
 go_ret
 exact⟨rfl,rfl⟩):p:=h
theorem Sq{p:Prop}(h:p:=by
 go_enter func34,ntmps34
 go_wp2_with(first
  |(go_at_call 33;refine(HT.out _).mono ?_;rintro e w1 ⟨rfl,hb1⟩;have f0:w1.cell? ⟨w.heap.size,0,none⟩=some (.int .i64 K):=kc hb1 sG;have f3:w1.cell? ⟨w.heap.size,3,none⟩=some (.int .u32 B):=kc hb1 sG;have f4:w1.cell? ⟨w.heap.size,4,none⟩=some (.int .i64 I):=kc hb1 sG;have HB1:Hid _:=hb1;clear hb1)
  |(go_at_call 67;refine(HK.out _).mono ?_;rintro e w2 ⟨rfl,hb2⟩;have HB2:Hid _:=hb2;clear hb2))
 go_ret
 first
  |refine⟨Ad ?_,bel (A7 _ _) (bel HB1.out HB2.out)⟩
  |refine⟨Ad ?_,bel (A7 _ _) HB1.out⟩
 first
  |(simp[*];done)
  |(simp[*];omega)
  |(simp[*];intro h;omega)):p:=h
theorem Sr{p:Prop}(h:p:=by
 go_enter func34,ntmps34
 go_wp2_with(first
  |(go_at_call 33;refine(HT.out _).mono ?_;rintro e w1 ⟨rfl,hb1⟩;have f0:w1.cell? ⟨w.heap.size,0,none⟩=some (.int .i64 2):=kc hb1 sG;have f3:w1.cell? ⟨w.heap.size,3,none⟩=some (.int .u32 B):=kc hb1 sG;have f4:w1.cell? ⟨w.heap.size,4,none⟩=some (.int .i64 I):=kc hb1 sG;have HB1:Hid _:=hb1;clear hb1)
  |(go_at_call 67;refine(HK.out _).mono ?_;rintro e w2 ⟨rfl,hb2⟩;have HB2:Hid _:=hb2;clear hb2))
 go_ret
 first
  |refine⟨Ad ?_,bel (A7 _ _) (bel HB1.out HB2.out)⟩
  |refine⟨Ad ?_,bel (A7 _ _) HB1.out⟩
 first
  |(simp[*];done)
  |(simp[*];omega)
  |(simp[*];intro h;omega)):p:=h
theorem QJ{p:Prop}(h:p:=by
 clear hlt hall HJ
 go_wp2
 first|go_end0|refine bodyPost_ret (results_none rfl _ _ _) rfl ?_|(simp only[Exit.inBlock,Exit.then];refine bodyPost_ret (results_none rfl _ _ _) rfl ?_)
 exact⟨rfl,HQ.1,HQ.2⟩):p:=h
theorem QK{p:Prop}(h:p:=by
 go_roundw
 case rel=>exact⟨k+1,A2,xs++[x],some ⟨g,0,none⟩,c',oM,gN,rfl,HXL.out,HQ.1,HQ.2.1,HQ.2.2,HL5.out,HO6.out,by rw[<-HD5.out];exact H7.out⟩
 case measure=>simp[intOf];omega):p:=h
theorem Ss{p:Prop}(h:p:=by
 try(go_wp2_with fail)
 refine AW hK fun hJ=>?_
 clear hK K
 refine wpAnyH_take (i:=8) (v:=?_) (by simp only[List.getElem?_toArray,List.getElem?_cons_succ,List.getElem?_cons_zero];rfl) kR kR kR (by exact fun _ _ _ h=>h) (Or.inl ⟨rF,?_⟩) (by assumption) ?_
 rotate_left 1
 ·(intro wS hSw;(try dsimp only at hSw);go_simp;try(with_reducible rfl))
 try simp only[Act.put,List.setIfInBounds_toArray,List.set_cons_zero,List.set_cons_succ]
 refine wpAnyH_done kR ?_ _
 go_wp2
 go_roundw
 case rel=>exact⟨HCX.next HB2.out,j+1,oM,gN,NX.out fT⟩
 case measure=>simp[intOf];omega):p:=h
theorem St{p:Prop}(h:p:=by
 refine bodyPost_ret (by simp[results,results13,go_sem, *];try rfl) rfl ?_
 rw[HD.out]
 exact⟨rfl,HB.out⟩):p:=h
theorem QL{p:Prop}(h:p:=by
 go_wp2_with(go_at_call 84;(with_reducible refine KN'.out.mono ?_);rintro e9 w4 ⟨rfl,hb4,ho4⟩;have HB4:=A6 hb4;have HO4:=A6 ho4;clear hb4 ho4)
 exact⟨rfl,rfl,HB4.out,HO4.out⟩):p:=h
theorem QM{p:Prop}(h:p:=by
 go_wp2_with fail
 try rw[hW3]
 try rw[hPW4]
 refine bodyPost_ret (by simp[results,results59,go_sem, *];try rfl) rfl ?_
 exact⟨Q,0,p,_,rfl,HM.out,Af.ok HQK.out HQL.out,HB.out⟩):p:=h
theorem Su{p:Prop}(h:p:=by
 try(go_wp2_with fail)
 refine AW hK fun hJ=>?_
 clear hK K
 refine wpAnyH_take (i:=8) (v:=?_) (by simp only[List.getElem?_toArray,List.getElem?_cons_succ,List.getElem?_cons_zero];rfl) kR kR kR (by exact fun _ _ _ h=>h) (Or.inl ⟨rF,?_⟩) (by assumption) ?_
 rotate_left 1
 ·(intro wS hSw;(try dsimp only at hSw);go_simp;try(with_reducible rfl))
 try simp only[Act.put,List.setIfInBounds_toArray,List.set_cons_zero,List.set_cons_succ]
 refine wpAnyH_done kR ?_ _
 go_wp2
 go_ret2
 exact⟨Es (NB.out fT),bel HCX.bel HB2.out⟩):p:=h
theorem QN{p:Prop}(h:p:=by
 refine AW hK fun hJ=>?_
 clear hK K
 refine wpAnyH_done kR ?_ _
 go_wp2
 go_roundw
 case rel=>exact⟨hbv.drew,j+1,oM,gN,NX.out HE.out⟩
 case measure=>simp[intOf];omega):p:=h
theorem Rs{p:Prop}(h:p:=by
 go_upto_region 1 with fail
 try rw[hW0]
 clear hW0
 go_wp2_with(go_at_call 85;(with_reducible refine KS'.out.mono ?_);rintro e9 w4 ⟨rfl,hb4,ho4⟩;have HR5:=A6 (HG.out _ hb4 ho4);clear hb4 ho4)
 exact⟨rfl,HR5.out⟩):p:=h
theorem QO{p:Prop}(h:p:=by
 refine AW hK fun hJ=>?_
 clear hK K
 refine wpAnyH_done kR ?_ _
 go_wp2
 go_ret
 exact⟨Ad (NB.out HB.out).symm,(bel HB0.out hbv).drew⟩):p:=h
theorem Sv{p:Prop}(h:p:=by
 go_enter func38,ntmps38
 go_wp2_with(first
  |(go_at_call 71;refine HK1.mono ?_;rintro e w1 ⟨rfl,hb1⟩;obtain⟨d1,d2,d3⟩:=HC.out w1 hb1)
  |(go_at_call 72;refine(HK2.out _ (HC0.below hb1)).mono ?_;rintro e w2 ⟨rfl,hb2⟩;have HB2:=bel hb1 hb2)
  |(go_at_call 73;refine(HK3.out _ (HC0.below HB2)).mono ?_;rintro e w3 ⟨rfl,hb3⟩;have HB3:=bel HB2 hb3))
 all_goals(go_ret;exact⟨rfl,HB3⟩)):p:=h
theorem Nv{p:Prop}(h:p:=by
 exact⟨rfl,bel (A7 _ _) (A7 _ _)⟩):p:=h
theorem PX{p:Prop}(h:p:=by
 rcases(show j=0\/j=1\/j=2\/j=3\/j=4 by omega)with rfl|rfl|rfl|rfl|rfl<;>rfl):p:=h
theorem Ru{p:Prop}(h:p:=by
 intro x hx
 obtain⟨k,rfl,hkl⟩:=Cy hx
 obtain⟨lb,lo,hp,hc⟩:=Bl.at (p:=p1) (n:=c.regs.length) (c:=q1) hv.regs hkl
 rw[Di rfl hkl]
 exact⟨k,lb,lo,rfl,hkl,hp,hc.at 0 rfl,hc.at 1 rfl⟩):p:=h
theorem Sw{p:Prop}(h:p:=by
 clear h h34 h36 hno
 go_wp2_with(go_at_call 107;refine HK.mono ?_;rintro e w1 ⟨rfl,hb1,hoff,vs',vo',hws⟩;have HP:Hid (PS E G C n gi w.heap.size L0 w T vs' vo' w1):=(by refine⟨HB1.trans hb1,by rw[HT1.out];exact hws,?_,oM,oM⟩;rw[gC (hoff w.heap.size (by have:=HVS.out;omega) oM oM)];exact HVB.out);clear hb1 hoff hws)
 go_meet
 exact⟨_,_,HP.out⟩):p:=h
theorem Rv{p:Prop}(h:p:=by
 go_enter func38,ntmps38
 go_wp2_with(go_at_call 71;refine HK1.mono ?_;rintro e w1 ⟨rfl,hb1⟩;obtain⟨d1,d2,d3⟩:=HC.out w1 hb1)
 all_goals(go_ret;exact⟨rfl,hb1⟩)):p:=h
theorem Rx{p:Prop}(h:p:=by
 go_wp2_with(go_at_call 87;(with_reducible refine KN'.out.mono ?_);rintro e9 w7 ⟨rfl,hb7,ho7⟩;have HR7:=A6 (HG.out _ hb7 ho7);clear hb7 ho7)
 exact⟨rfl,HR7.out⟩):p:=h
theorem Qa{p:Prop}(h:p:=by
 rw[hn]
 exact Af.bind (x:=(m:Int)) (Af.map (g:=fun(n:Nat)=>(n:Int)) (x:=m) h1) h):p:=h
theorem OZ{p:Prop}(h:p:=by
 by_cases e:i=j
 .subst e;exact hq
 .exact hp.out i h oM):p:=h
theorem Ry{p:Prop}(h:p:=by
 unfold Oper.wp execOp
 simp only[ho,resolve,invoke,builtin,Sem.run_bind,Sem.run_pure,Result.andThen_ok,List.map_toArray,List.map_cons,List.map_nil,hs,hx,hr]
 exact h):p:=h
theorem Qb{p:Prop}(h:p:=by
 go_roundw
 case rel=>exact⟨k+1,oM,gN,HQ.out⟩
 case measure=>simp[intOf];omega):p:=h
theorem Sx{p:Prop}(h:p:=by
 clear h
 go_enter func68,ntmps68
 go_wp2_with(first
  |(go_at_call 48;refine(HROW.out _).mono ?_;rintro e w1 ⟨rfl,rfl⟩)
  |(go_at_call 67;refine(HCAN.out _).mono ?_;rintro e w2 ⟨rfl,hb2⟩;have HB2:Hid _:=hb2;clear hb2))
 go_ret
 exact⟨rfl,bel (bel (A7 _ _) (A7 _ _)) HB2.out⟩):p:=h
theorem Rz{p:Prop}(h:p:=by
 have h1:=Jj hT hx
 have h2:(Ay c.regs x).kind=3:=by simpa[DX]using hk
 unfold AC at h1
 rw[if_neg oM,if_pos h2]at h1
 exact h1):p:=h
theorem QP{p:Prop}(h:p:=by
 have R_C:=Q_C
 obtain⟨v0,v1,v2,v3⟩:=c4 R_C.out
 go_wp2_with fail
 go_meet
 exact HFIN):p:=h
theorem QQ{p:Prop}(h:p:=by
 go_enter func10,ntmps10
 go_wp2
 all_goals(go_ret;exact⟨rfl,HB0.out⟩)):p:=h
theorem RE{p:Prop}(h:p:=by
 rw[f1,f2,f3,f4];unfold Qr;clear f1 f2 f3 f4
 go_enter func113,ntmps113
 go_wp2
 go_returns
 exact⟨rfl,_,rfl⟩):p:=h
theorem Sy{p:Prop}(h:p:=by
 clear q
 go_enter func85,ntmps85
 go_wp2_with(go_at_call 83;(with_reducible refine KT'.out.mono ?_);rintro e9 w4 ⟨rfl,hb4,hm4,ho4⟩;have HB4:=A6 hb4;have HO4:=A6 ho4;clear hb4 hm4 ho4)
 exact⟨rfl,rfl,HB4.out,HO4.out⟩):p:=h
theorem QR{p:Prop}(h:p:=by
 have HQ:Hid ((n==0)=RES):=HRT.out
 go_wp2
 go_ret
 exact⟨Ad HQ.out,hbt⟩):p:=h
theorem RG{p:Prop}(h:p:=by
 go_ret
 refine⟨Ad ?_,bel (bel (A7 _ _) (A7 _ _)) (bel HB1.out (A7 _ _))⟩
 simp[DX, *]):p:=h
theorem Sz{p:Prop}(h:p:=by
 have e1:¬ (k:Int)<(N:Int):=oM
 have hall:(Ab s).take k=Ab s:=List.take_of_length_le (by rw[Ah];omega)
 rw[hall]at hc
 have HC:Hid (I5 J2 (Ab s)<2^64):=hc
 clear hlt hc
 go_wp2
 go_ret
 exact⟨Oj (Qq HC.out),rfl⟩):p:=h
theorem SA{p:Prop}(h:p:=by
 rw[gC (gE (by show w.heap.size≠G;omega)),hfar ⟨w.heap.size,0,none⟩ (by have:=HVS.out;show w.heap.size<_;omega) (fun e=>by have:=(HS.opn.lt _ e).2;simp at this)]
 exact HVB.out):p:=h
theorem QS{p:Prop}(h:p:=by
 unfold QC
 obtain rfl|rfl|rfl|rfl:j=0\/j=1\/j=2\/j=3:=oM
 all_goals rfl):p:=h
theorem SB{p:Prop}(h:p:=by
 first|go_end0|refine bodyPost_ret (results_none rfl _ _ _) rfl ?_
 refine⟨rfl,((HBE.trans HB4.out).trans HB5.out).trans HB6.out,v6,?_,HOV.out _ _ ((HO4.trans HO5.out).trans HO6.out)⟩
 rw[HT.out]
 exact HM6.out):p:=h
theorem Qc{p:Prop}(h:p:=by
 rw[hn]
 exact Af.bind (x:=(0:Int)) (Af.pure _) h):p:=h
theorem SC{p:Prop}(h:p:=by
 rcases List.mem_append.1 ho with ho|ho
 .rcases List.mem_append.1 ho with ho|ho
  .split at ho<;>simp at ho;omega
  .have:=List.mem_of_mem_take ho
   simp at this
   omega
 .split at ho<;>simp at ho;omega):p:=h
theorem QT{p:Prop}(h:p:=by
 have h9:=HJ.out
 rw[hall,List.append_assoc,<-HEL.out]at h9
 exact h9):p:=h
theorem SD{p:Prop}(h:p:=by
 try simp only[Act.put,List.setIfInBounds_toArray,List.set_cons_zero,List.set_cons_succ]
 refine wpAnyH_done kR ?_ _
 go_wp2
 go_ret
 exact⟨Ad (NB.out sM).symm,bel hb (bel (A7 _ _) HB1)⟩):p:=h
theorem SE{p:Prop}(h:p:=by
 exact World.rowIs_alloc w #[.slice none 0 0,.slice none 0 0,.slice none 0 0,.slice none 0 0] 27 _ (fun i hi=>by
  rcases(show i=0\/i=1\/i=2\/i=3 by have:i<4:=hi;omega)with rfl|rfl|rfl|rfl<;>rfl)):p:=h
theorem SF{p:Prop}(h:p:=by
 try rw[hV3]
 clear hV3 D7 D8 x7 z7 x8 z8 y7 f7 KN' HG
 go_wp2
 refine bodyPost_ret (by simp[results,results55,go_sem, *];try rfl) rfl ?_
 rw[HRR.out]
 exact HD.fin HL7.out HD7.out):p:=h
theorem QU{p:Prop}(h:p:=by
 go_wp2
 go_ret
 exact⟨Ad (by simp[h];try omega),rfl⟩):p:=h
theorem QV{p:Prop}(h:p:=by
 by_cases e':i=j
 .subst e';exact e
 .exact hp.out i h1 h2 oM):p:=h
theorem SG{p:Prop}(h:p:=by
 have:j=n:=oM
 subst this
 have HF:Hid (BU (l.take j)=BU l):=by show _=_;rw[List.take_of_length_le (by rw[HN.out];exact gF _)]
 go_wp2
 go_ret
 exact⟨Dj HF.out,hb⟩):p:=h
theorem SH{p:Prop}(h:p:=by
 go_wp2_with(go_at_call 83;(with_reducible refine KT.out.mono ?_);rintro e9 w4 ⟨rfl,hb4⟩;have HB4:=A6 hb4;clear hb4)
 exact⟨rfl,rfl,HB4.mono HEW.out,B5.of HB4.out⟩):p:=h
theorem SI{p:Prop}(h:p:=by
 by_cases a:K=1
 .subst a;exact .inl ⟨rfl,rfl⟩
 .by_cases b:K=2
  .subst b;exact .inr (.inl ⟨rfl,rfl⟩)
  .exact .inr (.inr ⟨by simpa using a,by simpa using b⟩)):p:=h
theorem SJ{p:Prop}(h:p:=by
 unfold Oper.wp execOp
 simp only[ho,resolve,invoke,builtin,Sem.run_bind,Sem.run_pure,Result.andThen_ok,List.map_toArray,List.map_cons,List.map_nil,hs,hx,hr]
 exact hK _ _ h):p:=h
theorem SL{p:Prop}(h:p:=by
 go_wp2_with(go_at_call 88;(with_reducible refine KN'.out.mono ?_);rintro e9 w7 ⟨rfl,hb7,ho7⟩;have HR7:=A6 (HG.out _ hb7 ho7);clear hb7 ho7)
 exact⟨rfl,HR7.out⟩):p:=h
theorem SM{p:Prop}(h:p:=by
 go_wp2_with(go_at_call 93;(with_reducible refine(HPA.out _ hbt).mono ?_);rintro e w7 ⟨rfl,hb7⟩;have HB7:Hid _:=hb7;clear hb7)
 go_ret
 exact⟨rfl,bel hbt HB7.out⟩):p:=h
theorem QW{p:Prop}(h:p:=by
 unfold Bq
 rw[Au hq,Nat.sub_zero,EX,e]):p:=h
theorem SN{p:Prop}(h:p:=by
 have:j=s.size:=oM
 subst this
 have HF:Hid (Ba s=true):=Iu h0 h64 fun i h=>hp.out i h h
 clear hp
 go_wp2
 go_ret
 exact⟨Ad HF.symm,rfl⟩):p:=h
theorem QX{p:Prop}(h:p:=by
 refine⟨g,c',w6,a1,a2,?_⟩
 rw[CP]
 exact a3):p:=h
theorem RH{p:Prop}(h:p:=by
 go_enter func99,ntmps99
 go_wp2
 go_ret
 exact⟨rfl,A7 _ _⟩):p:=h
theorem RI{p:Prop}(h:p:=by
 go_enter func33,ntmps33
 go_wp2
 go_ret
 exact⟨rfl,A7 _ _⟩):p:=h
theorem SO{p:Prop}(h:p:=by
 have hl0:=HL.2.2.2 rfl
 clear hF
 go_wp2
 go_ret
 refine⟨_,rfl,?_,HF.bel⟩
 rw[<-HR.out,<-hl0]
 exact En HO.out (by have:=HF.hC;omega)):p:=h
theorem SP{p:Prop}(h:p:=by
 go_enter func91,ntmps91
 go_wp2_with(go_at_call 113;refine(On _ oM oM _).mono ?_;rintro e w' ⟨rfl,o,rfl⟩)
 go_ret
 exact⟨rfl,gG⟩):p:=h
theorem RJ{p:Prop}(h:p:=by
 subst hl
 rw[Bo dE]at h
 simp only[Bool.and_eq_true]at h
 exact h.2):p:=h
theorem SQ{p:Prop}(h:p:=by
 go_enter func110,ntmps110
 go_wp2
 refine bodyPost_ret (by simp[results,results110,go_sem, *];try rfl) rfl ?_
 exact⟨rfl,rfl⟩):p:=h
theorem QY{p:Prop}(h:p:=by
 go_ret
 exact⟨rfl,bel (A7 _ _) hb1⟩):p:=h
theorem QZ{p:Prop}(h:p:=by
 exact hp.out i hi (by rw[<-HN.out];exact hi)):p:=h
theorem SR{p:Prop}(h:p:=by
 clear HC4
 go_wp2_with(go_at_call 66;refine HK.mono ?_;rintro e w1 ⟨rfl,hb1⟩)
 go_ret
 exact⟨Dj HC5.symm,bel hb' hb1⟩):p:=h
theorem RK{p:Prop}(h:p:=by
 rw[h]
 unfold IntKind.wrap
 simp[IntKind.signed,IntKind.bits]
 omega):p:=h
theorem SS{p:Prop}(h:p:=by
 have h9:=Ej (Ab t3) (BP t3)
 rw[hM,Ah]at h9
 exact Nat.lt_of_lt_of_le h9 (Nat.pow_le_pow_right dE HT3.out)):p:=h
theorem SU{p:Prop}(h:p:=by
 have h9:(G+1)*128^k<=128*128^k:=Nat.mul_le_mul_right _ oM
 rw[Nat.add_mul,hT]at h9
 have h8:0<128^k:=Nat.pow_pos dE
 omega):p:=h
theorem SV{p:Prop}(h:p:=by
 exact AY h1 dE (Aw _ _ _ _) (fun _=>Aw _ _ _ _) (fun _=>Aw _ _ _ _) (fun _=>Aw _ _ _ _) rfl):p:=h
theorem SW{p:Prop}(h:p:=by
 go_wp2
 go_roundw
 case rel=>exact⟨by trivial,j+1,oM,gN,by rw[HM.out,<-HT.out]⟩
 case measure=>simp[intOf];omega):p:=h
theorem SX{p:Prop}(h:p:=by
 go_wp2_with(go_at_call 118;refine(HK.out _).mono ?_;rintro e w1 ⟨rfl,rfl⟩)
 go_ret
 exact⟨rfl,A7 _ _⟩):p:=h
theorem SY{p:Prop}(h:p:=by
 exact Ae h3 fun k hk=>gE (fun e=>Fw h3 hb' dE (hk.trans (congrArg some e)))):p:=h
theorem A8{p:Prop}(h:p:=by simp only[List.getElem?_toArray,List.getElem?_cons_succ,List.getElem?_cons_zero];rfl):p:=h
theorem A9{p:Prop}(h:p:=by exact fun _ _ _ h=>h):p:=h
theorem Aa{p:Prop}(h:p:=by assumption):p:=h
theorem RM{p:Prop}(h:p:=by have hq:=bel (A7 _ _) hb1;exact⟨bel hq (A7 _ _),kc (A7 _ _) (kc hb1 sG),kc (A7 _ _) (kc hb1 sG),kc (A7 _ _) (kc hb1 sG),kc (A7 _ _) (kc hb1 sG),kc (A7 _ _) (kc hb1 sG),sG,sG,kc (A7 _ _) (kc hq HS0.c0),kc (A7 _ _) (kc hq HS0.c3),kc (A7 _ _) (kc hq HE0.out)⟩):p:=h
theorem F2{p:Prop}(h:p:=by have:=R_C.lt;omega):p:=h
theorem Nw{p:Prop}(h:p:=by rw[<-hA_J,<-hS_J];exact Br w7 _ _ _ _ _):p:=h
theorem OF{p:Prop}(h:p:=by rw[<-hV3];exact gE hXY):p:=h
theorem No{p:Prop}(h:p:=by show C<=J;have:=R_C.lt;omega):p:=h
theorem Qd{p:Prop}(h:p:=by simp[Instr.index,run_underlying underlying9,asIntOf,go_sem];rfl):p:=h
theorem JX{p:Prop}(h:p:=by have:=R_D.lt;omega):p:=h
theorem R0{p:Prop}(h:p:=by exact⟨bel hw1 (A7 _ _),sG,sG,sG,sG,sG,kc (A7 _ _) (kc hw1 g0)⟩):p:=h
theorem Qe{p:Prop}(h:p:=by rw[<-hW2];exact(A7 _ _).mono (by have:=r1.lt;omega)):p:=h
theorem Np{p:Prop}(h:p:=by have:=R_F.lt;omega):p:=h
theorem R1{p:Prop}(h:p:=by rw[List.take_zero,List.flatMap_nil,List.append_nil];exact hm4):p:=h
theorem R2{p:Prop}(h:p:=by unfold B6;rw[List.length_append];exact gF _):p:=h
theorem PY{p:Prop}(h:p:=by rw[List.length_drop,Ah];omega):p:=h
theorem Nx{p:Prop}(h:p:=by simp[Value.oneCell']):p:=h
theorem R3{p:Prop}(h:p:=by have:=(HOW.lt b hb).1;have:=HKX.2.2.2;omega):p:=h
theorem R4{p:Prop}(h:p:=by have:=(HO6.lt b hb).1;have:=HKX.2.2.2;omega):p:=h
theorem PZ{p:Prop}(h:p:=by rw[AZ];exact gF _):p:=h
theorem OG{p:Prop}(h:p:=by have:=HKX.1;omega):p:=h
theorem R5{p:Prop}(h:p:=by have:=(HOW.lt b hb).1;have:=HKX.1;omega):p:=h
theorem R6{p:Prop}(h:p:=by rw[<-hA_C,<-hS_C];exact Br w _ _ _ _ _):p:=h
theorem R7{p:Prop}(h:p:=by rw[HFM'.out,<-List.append_assoc];exact hm5):p:=h
theorem P0{p:Prop}(h:p:=by have:=R_K.lt;omega):p:=h
theorem P3{p:Prop}(h:p:=by have:=R_G.lt;omega):p:=h
theorem OH{p:Prop}(h:p:=by show C+2≠C;omega):p:=h
theorem OI{p:Prop}(h:p:=by show C+1≠C;omega):p:=h
theorem Qf{p:Prop}(h:p:=by rw[<-hS_J];exact HFR.size):p:=h
theorem OJ{p:Prop}(h:p:=by show C<=C;omega):p:=h
theorem SZ{p:Prop}(h:p:=by have:=Dt r.reverse ⟨L,P,A⟩ 2 (u:=.int .i64 A) rfl;rwa[hl]at this):p:=h
theorem T0{p:Prop}(h:p:=by have:=Dt r.reverse ⟨L,P,A⟩ 1 (u:=.int .i64 P) rfl;rwa[hl]at this):p:=h
theorem RN{p:Prop}(h:p:=by simp[results,results114,go_sem, *];try rfl):p:=h
theorem T2{p:Prop}(h:p:=by have:=Dt r.reverse ⟨L,P,A⟩ 0 (u:=.bool L) rfl;rwa[hl]at this):p:=h
theorem R8{p:Prop}(h:p:=by have:=HNK0.out;unfold maxLen;omega):p:=h
theorem RO{p:Prop}(h:p:=by simp[results,results59,go_sem, *];try rfl):p:=h
theorem RP{p:Prop}(h:p:=by simp[results,results29,go_sem, *];try rfl):p:=h
theorem RQ{p:Prop}(h:p:=by rw[<-hA_D,<-hS_D];exact Br W0 _ _ _ _ _):p:=h
theorem T3{p:Prop}(h:p:=by rw[<-h5];exact gE (by show C+1≠C+2;omega)):p:=h
theorem T4{p:Prop}(h:p:=by rw[<-h4];exact gE (by show C+2≠C+1;omega)):p:=h
theorem R9{p:Prop}(h:p:=by rw[<-HKN.out];exact LQ h):p:=h
theorem T5{p:Prop}(h:p:=by rw[<-h5];exact gE (by show C≠C+2;omega)):p:=h
theorem T6{p:Prop}(h:p:=by rw[<-h4];exact gE (by show C≠C+1;omega)):p:=h
theorem Zfr{p:Prop}(h:p:=by rw[<-h3];exact gE (by show C+2≠C;omega)):p:=h
theorem Zfs{p:Prop}(h:p:=by rw[<-h3];exact gE (by show C+1≠C;omega)):p:=h
theorem Zft{p:Prop}(h:p:=by rw[<-h2];exact gE (by show C+2≠C;omega)):p:=h
theorem Zfu{p:Prop}(h:p:=by rw[<-h2];exact gE (by show C+1≠C;omega)):p:=h
theorem Zfv{p:Prop}(h:p:=by rw[<-h1];exact gE (by show C+2≠C;omega)):p:=h
theorem Zfw{p:Prop}(h:p:=by rw[<-h1];exact gE (by show C+1≠C;omega)):p:=h
theorem Zfx{p:Prop}(h:p:=by rw[<-h0];exact gE (by show C+2≠C;omega)):p:=h
theorem Zfy{p:Prop}(h:p:=by rw[<-h0];exact gE (by show C+1≠C;omega)):p:=h
theorem Q0{p:Prop}(h:p:=by have:=HN.out;omega):p:=h
theorem Ra{p:Prop}(h:p:=by have:=HKX.2.2.2;omega):p:=h
theorem RR{p:Prop}(h:p:=by show C<=F;have:=R_C.lt;omega):p:=h
theorem RT{p:Prop}(h:p:=by show C<=E;have:=R_C.lt;omega):p:=h
theorem RU{p:Prop}(h:p:=by show C<=D;have:=R_C.lt;omega):p:=h
theorem RV{p:Prop}(h:p:=by have:=(HO0.lt b hb2).1;omega):p:=h
theorem Zgf{p:Prop}(h:p:=by have:=r1.lt;omega):p:=h
theorem Rb{p:Prop}(h:p:=by have:=R_J.lt;omega):p:=h
theorem RW{p:Prop}(h:p:=by rw[<-hS_E];exact HFR.size):p:=h
theorem Rc{p:Prop}(h:p:=by have:=HNK0.out;omega):p:=h
theorem Re{p:Prop}(h:p:=by rw[FJ];omega):p:=h
theorem RZ{p:Prop}(h:p:=by have:=(h.lt b hb).1;omega):p:=h
theorem Rf{p:Prop}(h:p:=by unfold J2;decide):p:=h
theorem Rg{p:Prop}(h:p:=by show b≠C;omega):p:=h
end Go.Proofs.YtnlgkkbmbijndaaGreat
