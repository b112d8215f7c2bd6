import Derived.RowKit3
import Derived.Test.YtheanilpbnencaaRows
import Derived.WalkKit
import Derived.WalkSpells
import Derived.WalkLawsBesides
import Derived.LoopN
import Derived.Below
import Derived.OwnWalk
import Derived.Shelf.Abstract
import Derived.Deep.AppendLies
import Derived.Maps.AppendAt
import Derived.Laws.AppendOwnNone
import Derived.Deep.OwnRows
import Derived.Deep.DeepCutAuto
import Derived.Deep.QuietTactic
import Derived.Deep.RegionHeld3
import Derived.BigQuiet
import Derived.Handy
import Derived.OrdersHeld
namespace Go.Proofs.Ytheanilpbnencaa
open Go.RowKit Go.Proofs.Try
set_option linter.all false
set_option maxRecDepth 100000
set_option maxHeartbeats 16000000
abbrev Bs:=List UInt8
def bs(s:ByteArray):Bs:=s.data.toList
def nb(b:UInt8):Int:=(b.toNat:Int)
def hd:Bs→Int
 |[]=>0
 |b::_=>nb b
theorem Gf(s:ByteArray):(bs s).length=s.size:=by simp[bs]
theorem Jg(s:ByteArray):(⟨(bs s).toArray⟩:ByteArray)=s:=by simp[bs]
theorem GX{s t:ByteArray}(h:bs s=bs t):s=t:=by rw[←Jg s,←Jg t,h]
structure AX where
 name:ByteArray
 kind:Int
 len:Int
def CN(c:Int):Bool:=
 (decide (97≤c)&&decide (c≤122))||(decide (65≤c)&&decide (c≤90))||(decide (48≤c)&&decide (c≤57))||c==95||c==46||c==47||c==45
def AF(s:ByteArray):Bool:=(s.size != 0&&decide (s.size≤64))&&(bs s).all fun b=>CN (nb b)
def AW(p:AX):Bool:=(AF p.name&&(p.kind==1||p.kind==2))&&(decide (1≤p.len)&&decide (p.len≤4096))
def Cq(p:AX):Int:=if AW p then(if p.kind==2 then 2*p.len else p.len)else 0
def B6:List AX→Int
 |[]=>0
 |p::r=>Cq p+B6 r
def Aw(s:ByteArray):List AX→Option Nat
 |[]=>none
 |p::r=>if p.name=s then some 0 else(Aw s r).map (· +1)
def AD:List AX→Bool
 |[]=>false
 |p::r=>(r.any fun q=>decide (q.name=p.name))||AD r
def At(l:List AX):Int:=
 if l.length>64 then 2 else if l.all AW=false then 100 else if AD l then 101 else if B6 l>65536 then 102 else 0
theorem Cr(p:AX):0≤Cq p∧Cq p≤8192:=by
 unfold Cq
 split
 ·rename_i h
  unfold AW at h
  simp at h
  split<;>omega
 ·decide
theorem EL(l:List AX)(p:AX):B6 (l++[p])=B6 l+Cq p:=by
 induction l with
 |nil=>simp[B6]
 |cons q r ih=>simp only[List.cons_append,B6,ih];omega
theorem Cx(l:List AX):0≤B6 l∧B6 l≤8192*(l.length:Int):=by
 induction l with
 |nil=>simp[B6]
 |cons q r ih=>have:=Cr q;simp only[B6,List.length_cons];omega
theorem D0{α:Type}{l:List α}{i:Nat}(h:i<l.length):l.take (i+1)=l.take i++[l[i]]:=by simp
theorem DN{s:ByteArray}:∀ {l:List AX} {i:Nat},(h:i<l.length)→l[i].name=s→(∀j (h:j<l.length),j<i→l[j].name≠s)→Aw s l=some i
 |[],i,h,_,_=>absurd h (Nat.not_lt_zero _)
 |p::r,0,_,e,_=>by simp only[Aw];rw[if_pos (show p.name=s from e)]
 |p::r,i+1,h,e,hn=>by
  have h0:=hn 0 (by simp) (by omega)
  simp only[List.getElem_cons_zero]at h0
  simp only[Aw]
  rw[if_neg h0,DN (l:=r) (i:=i) (by simpa using h) (by simpa using e) (fun j hj hji=>by have:=hn (j+1) (by simpa using hj) (by omega);simpa using this)]
  rfl
theorem DM{s:ByteArray}:∀ {l:List AX},(∀j (h:j<l.length),l[j].name≠s)→Aw s l=none
 |[],_=>rfl
 |p::r,hn=>by
  have h0:=hn 0 (by simp)
  simp only[List.getElem_cons_zero]at h0
  simp only[Aw]
  rw[if_neg h0,DM (l:=r) (fun j hj=>by have:=hn (j+1) (by simpa using hj);simpa using this)]
  rfl
theorem D1:∀ {l:List AX},AD l=true↔∃i j,∃ (hi:i<l.length) (hj:j<l.length),j<i∧l[j].name=l[i].name
 |[]=>by simp[AD]
 |p::r=>by
  simp only[AD,Bool.or_eq_true,List.any_eq_true,decide_eq_true_eq]
  rw[D1 (l:=r)]
  constructor
  ·rintro(⟨q,hq,e⟩|⟨i,j,hi,hj,hji,e⟩)
   ·obtain⟨k,hk,rfl⟩:=List.mem_iff_getElem.1 hq
    exact⟨k+1,0,by simpa using hk,by simp,by omega,by simpa using e.symm⟩
   ·exact⟨i+1,j+1,by simpa using hi,by simpa using hj,by omega,by simpa using e⟩
  ·rintro⟨i,j,hi,hj,hji,e⟩
   cases i with
   |zero=>omega
   |succ i=>
    cases j with
    |zero=>
     simp only[List.getElem_cons_zero,List.getElem_cons_succ]at e
     exact .inl ⟨r[i]'(by simpa using hi),List.getElem_mem _,e.symm⟩
    |succ j=>
     simp only[List.getElem_cons_succ]at e
     exact .inr ⟨i,j,by simpa using hi,by simpa using hj,by omega,e⟩
theorem bel{a b c:World}(h:Below a.heap.size a b)(k:Below b.heap.size b c):Below a.heap.size a c:=h.trans (k.mono h.size)
theorem BH(w:World):Below w.heap.size w w:=Below.refl _ _
theorem A0(w:World)(o:Obj):Below w.heap.size w (w.alloc o):=(Below.refl _ _).alloc (Nat.le_refl _) o
theorem Aa(w:World):Below w.heap.size w w.drew:=(Below.refl _ _).drew
theorem Ac{w:World}{a:Addr}{v:Value}(h:w.cell? a=some v):a.block<w.heap.size:=by
 rcases Nat.lt_or_ge a.block w.heap.size with c|c
 ·exact c
 ·have:w.heap[a.block]? =none:=Array.getElem?_eq_none c
  simp[World.cell?,this]at h
theorem A9{a b:Bool}(h:a=b):Ending.returned (.bool a)=.returned (.bool b):=by rw[h]
theorem BQ{k:IntKind}{a b:Int}(h:a=b):Ending.returned (.int k a)=.returned (.int k b):=by rw[h]
def pv(p:AX):Value:=.agg #[.string p.name,.int .i64 p.kind,.int .i64 p.len]
def Bz(p:AX):List Value:=[.string p.name,.int .i64 p.kind,.int .i64 p.len]
def JI(w:World)(b o:Nat)(p:AX):Prop:=
 w.cell? ⟨b,o,none⟩=some (.string p.name)∧w.cell? ⟨b,o+1,none⟩=some (.int .i64 p.kind)∧w.cell? ⟨b,o+2,none⟩=some (.int .i64 p.len)
theorem JI.below{w w':World}{b o:Nat}{p:AX}(h:JI w b o p)(k:Below w.heap.size w w'):JI w' b o p:=
 ⟨(k.cell (Ac h.1)).trans h.1,(k.cell (Ac h.2.1)).trans h.2.1,(k.cell (Ac h.2.2)).trans h.2.2⟩
def GR(w:World)(p:Option Addr)(l:List AX):Prop:=l=[]∨∃b o,p=some ⟨b,o,none⟩∧∀i (h:i<l.length),JI w b (o+i*3) l[i]
def Rd(w:World)(v:Value)(l:List AX):Prop:=∃p c,v=.slice p l.length c∧GR w p l
theorem GR.below{w w':World}{p:Option Addr}{l:List AX}(h:GR w p l)(k:Below w.heap.size w w'):GR w' p l:=
 h.imp id fun⟨b,o,hp,h⟩=>⟨b,o,hp,fun i hi=>(h i hi).below k⟩
theorem Rd.below{w w':World}{v:Value}{l:List AX}(h:Rd w v l)(k:Below w.heap.size w w'):Rd w' v l:=by
 obtain⟨p,c,hv,h⟩:=h
 exact⟨p,c,hv,h.below k⟩
theorem GR.at{w:World}{p:Option Addr}{l:List AX}(h:GR w p l){i:Nat}(hi:i<l.length):∃b o,p=some ⟨b,o,none⟩∧JI w b (o+i*3) l[i]:=by
 rcases h with h|⟨b,o,hp,h⟩
 ·rw[h]at hi;exact absurd hi (Nat.not_lt_zero _)
 ·exact⟨b,o,hp,h i hi⟩
def cellsOf(l:List AX):List Value:=l.flatMap Bz

theorem Ir{P:Program}{md:Region.Mode}{ops:Array Oper}{Q:Exit→Act→World→Prop}{S:World→Prop}(i:Nat){oi:Oper}{v:Value}{fuel:Nat}{listed l':Array Bool}{a a':Act}{w:World}
 (h:wpAnyH P md ops Q S fuel l' a' w)
 (hi:ops[i]? =some oi:=by simp only[List.getElem?_toArray,List.getElem?_cons_succ,List.getElem?_cons_zero];rfl)
 (hw:Region.wanted oi (yielded ops a.tmps)=true:=by rfl)
 (hv:∀w,S w→(execOp a.eval oi).run P w=.ok (.value v) w:=by(intro wS hSw;(try dsimp only at hSw);go_simp;try(with_reducible rfl)))
 (hl:listed.setIfInBounds i true=l':=by(try simp only[List.setIfInBounds_toArray,List.set_cons_zero,List.set_cons_succ]);rfl)
 (ha:a.put oi.dst v=a':=by(try simp only[Act.put,List.setIfInBounds_toArray,List.set_cons_zero,List.set_cons_succ]);rfl)
 (hs:Region.noSelect ops=true:=by kernel_rfl) (hf:Region.free md ops listed i=true:=by kernel_rfl) (hr:(Region.ready md ops listed).contains i=true:=by kernel_rfl)
 (hQ:∀c a w,Q (.panic c) (a.put oi.dst v) w→Q (.panic c) a w:=by exact fun _ _ _ h=>h) (hS:S w:=by assumption):wpAnyH P md ops Q S (fuel+1) listed a w:=
 wpAnyH_take hi hs hf hr hQ (.inl ⟨hw,hv⟩) hS (by rw[hl,ha];exact h)
theorem Kq{P:Program}{md:Region.Mode}{ops:Array Oper}{Q:Exit→Act→World→Prop}{S:World→Prop}(i:Nat){oi:Oper}{fuel:Nat}{listed l':Array Bool}{a a':Act}{w:World}
 (h:wpAnyH P md ops Q S fuel l' a' w)
 (hi:ops[i]? =some oi:=by simp only[List.getElem?_toArray,List.getElem?_cons_succ,List.getElem?_cons_zero];rfl)
 (hw:Region.wanted oi (yielded ops a.tmps)=false:=by rfl)
 (hl:listed.setIfInBounds i true=l':=by(try simp only[List.setIfInBounds_toArray,List.set_cons_zero,List.set_cons_succ]);rfl)
 (ha:a.put oi.dst undef=a':=by(try simp only[Act.put,List.setIfInBounds_toArray,List.set_cons_zero,List.set_cons_succ]);rfl)
 (hs:Region.noSelect ops=true:=by kernel_rfl) (hf:Region.free md ops listed i=true:=by kernel_rfl) (hr:(Region.ready md ops listed).contains i=true:=by kernel_rfl)
 (hQ:∀c a w,Q (.panic c) (a.put oi.dst undef) w→Q (.panic c) a w:=by exact fun _ _ _ h=>h) (hS:S w:=by assumption):wpAnyH P md ops Q S (fuel+1) listed a w:=
 wpAnyH_take hi hs hf hr hQ (.inr ⟨hw,rfl⟩) hS (by rw[hl,ha];exact h)
theorem AO{P:Program}{md:Region.Mode}{ops:Array Oper}{Q:Exit→Act→World→Prop}{S:World→Prop}(i:Nat){o:Oper}{fuel:Nat}{listed:Array Bool}{a:Act}{w:World}
 (h:∀K':Act→World→Prop,Shut (∀a w,S w→(S w→wpAnyH P md ops Q S fuel (listed.setIfInBounds i true) a w)→K' a w)→if Region.wanted o (yielded ops a.tmps)=true then Oper.wp P o a w K' Q else K' (a.put o.dst undef) w)
 (ho:ops[i]? =some o:=by simp only[List.getElem?_toArray,List.getElem?_cons_succ,List.getElem?_cons_zero];rfl)
 (hr:Region.ready md ops listed=[i]:=by kernel_rfl):wpAnyH P md ops Q S (fuel+1) listed a w:=
 wpAnyH_ready hr (by simp) (AllReadyH.cons ho h AllReadyH.nil)
theorem Kp{P:Program}{md:Region.Mode}{ops:Array Oper}{Q:Exit→Act→World→Prop}{S:World→Prop}(i:Nat){o:Oper}{fuel:Nat}{listed:Array Bool}{a:Act}{w:World}{rs:List Nat}
 (h:∀K':Act→World→Prop,Shut (∀a w,S w→(S w→wpAnyH P md ops Q S fuel (listed.setIfInBounds i true) a w)→K' a w)→if Region.wanted o (yielded ops a.tmps)=true then Oper.wp P o a w K' Q else K' (a.put o.dst undef) w)
 (hs:AllReadyH P md ops Q S fuel listed a w rs)
 (ho:ops[i]? =some o:=by simp only[List.getElem?_toArray,List.getElem?_cons_succ,List.getElem?_cons_zero];rfl):AllReadyH P md ops Q S fuel listed a w (i::rs):=
 AllReadyH.cons ho h hs
theorem Fj{p:Prop}(h:p:=by simp only[List.getElem?_toArray,List.getElem?_cons_succ,List.getElem?_cons_zero];rfl):p:=h
theorem Hb{p:Prop}(h:p:=by(intro wS hSw;(try dsimp only at hSw);go_simp;try(with_reducible rfl))):p:=h
theorem ER{p:Prop}(h:p:=by(try simp only[List.setIfInBounds_toArray,List.set_cons_zero,List.set_cons_succ]);rfl):p:=h
theorem EQ{p:Prop}(h:p:=by(try simp only[Act.put,List.setIfInBounds_toArray,List.set_cons_zero,List.set_cons_succ]);rfl):p:=h
theorem AP{P:Program}{md:Region.Mode}{ops:Array Oper}{Q:Exit→Act→World→Prop}{S:World→Prop}{fuel:Nat}{l l':Array Bool}{a a':Act}{w:World}{K:Act→World→Prop}
 (hK:Shut (∀a w,S w→(S w→wpAnyH P md ops Q S fuel l a w)→K a w)) (h:S w→wpAnyH P md ops Q S fuel l' a' w)
 (hS:S w:=by(try dsimp only);go_keep) (hl:l=l':=by exact ER) (ha:a=a':=by exact EQ):K a w:=
 hK.out a w hS (by rw[hl,ha];exact h)
theorem rG{P:Program}{ops:Array Oper}{Q:Exit→Act→World→Prop}(S:World→Prop){id:Nat}{a:Act}{w:World}(h:S w.drew→wpAnyH P .any ops Q S ops.size (Array.replicate ops.size false) a w.drew)
 (hm:P.follows .mixedOrders=true:=by kernel_rfl) (hS:S w.drew:=by(try dsimp only);go_keep):(Code.region id ops true).wp P Q a w:=
 wp_region_held_drew hm hS h
theorem Tb{P:Program}{md:Region.Mode}{ops:Array Oper}{Q:Exit→Act→World→Prop}{S:World→Prop}{fuel:Nat}{w:World}
 (i0 i1:Nat)
 {o0 o1:Oper}
 {v0 v1:Value}
 {l0 l1 l2:Array Bool} {a0 a1 a2:Act}
 (h:wpAnyH P md ops Q S fuel l2 a2 w)
 (hi0:ops[i0]? =some o0:=by exact Fj)
 (hw0:Region.wanted o0 (yielded ops a0.tmps)=true:=by rfl)
 (hv0:∀w,S w→(execOp a0.eval o0).run P w=.ok (.value v0) w:=by exact Hb)
 (hl0:l0.setIfInBounds i0 true=l1:=by exact ER)
 (ha0:a0.put o0.dst v0=a1:=by exact EQ)
 (hf0:Region.free md ops l0 i0=true:=by kernel_rfl) (hr0:(Region.ready md ops l0).contains i0=true:=by kernel_rfl)
 (hQ0:∀c a w,Q (.panic c) (a.put o0.dst v0) w→Q (.panic c) a w:=by exact fun _ _ _ h=>h)
 (hi1:ops[i1]? =some o1:=by exact Fj)
 (hw1:Region.wanted o1 (yielded ops a1.tmps)=true:=by rfl)
 (hv1:∀w,S w→(execOp a1.eval o1).run P w=.ok (.value v1) w:=by exact Hb)
 (hl1:l1.setIfInBounds i1 true=l2:=by exact ER)
 (ha1:a1.put o1.dst v1=a2:=by exact EQ)
 (hf1:Region.free md ops l1 i1=true:=by kernel_rfl) (hr1:(Region.ready md ops l1).contains i1=true:=by kernel_rfl)
 (hQ1:∀c a w,Q (.panic c) (a.put o1.dst v1) w→Q (.panic c) a w:=by exact fun _ _ _ h=>h)
 (hs:Region.noSelect ops=true:=by kernel_rfl) (hS:S w:=by assumption):wpAnyH P md ops Q S (fuel+2) l0 a0 w:=
 Ir i0 (Ir i1 h hi1 hw1 hv1 hl1 ha1 hs hf1 hr1 hQ1 hS) hi0 hw0 hv0 hl0 ha0 hs hf0 hr0 hQ0 hS
theorem Tc{P:Program}{md:Region.Mode}{ops:Array Oper}{Q:Exit→Act→World→Prop}{S:World→Prop}{fuel:Nat}{w:World}
 (i0 i1 i2:Nat)
 {o0 o1 o2:Oper}
 {v0 v1 v2:Value}
 {l0 l1 l2 l3:Array Bool} {a0 a1 a2 a3:Act}
 (h:wpAnyH P md ops Q S fuel l3 a3 w)
 (hi0:ops[i0]? =some o0:=by exact Fj)
 (hw0:Region.wanted o0 (yielded ops a0.tmps)=true:=by rfl)
 (hv0:∀w,S w→(execOp a0.eval o0).run P w=.ok (.value v0) w:=by exact Hb)
 (hl0:l0.setIfInBounds i0 true=l1:=by exact ER)
 (ha0:a0.put o0.dst v0=a1:=by exact EQ)
 (hf0:Region.free md ops l0 i0=true:=by kernel_rfl) (hr0:(Region.ready md ops l0).contains i0=true:=by kernel_rfl)
 (hQ0:∀c a w,Q (.panic c) (a.put o0.dst v0) w→Q (.panic c) a w:=by exact fun _ _ _ h=>h)
 (hi1:ops[i1]? =some o1:=by exact Fj)
 (hw1:Region.wanted o1 (yielded ops a1.tmps)=true:=by rfl)
 (hv1:∀w,S w→(execOp a1.eval o1).run P w=.ok (.value v1) w:=by exact Hb)
 (hl1:l1.setIfInBounds i1 true=l2:=by exact ER)
 (ha1:a1.put o1.dst v1=a2:=by exact EQ)
 (hf1:Region.free md ops l1 i1=true:=by kernel_rfl) (hr1:(Region.ready md ops l1).contains i1=true:=by kernel_rfl)
 (hQ1:∀c a w,Q (.panic c) (a.put o1.dst v1) w→Q (.panic c) a w:=by exact fun _ _ _ h=>h)
 (hi2:ops[i2]? =some o2:=by exact Fj)
 (hw2:Region.wanted o2 (yielded ops a2.tmps)=true:=by rfl)
 (hv2:∀w,S w→(execOp a2.eval o2).run P w=.ok (.value v2) w:=by exact Hb)
 (hl2:l2.setIfInBounds i2 true=l3:=by exact ER)
 (ha2:a2.put o2.dst v2=a3:=by exact EQ)
 (hf2:Region.free md ops l2 i2=true:=by kernel_rfl) (hr2:(Region.ready md ops l2).contains i2=true:=by kernel_rfl)
 (hQ2:∀c a w,Q (.panic c) (a.put o2.dst v2) w→Q (.panic c) a w:=by exact fun _ _ _ h=>h)
 (hs:Region.noSelect ops=true:=by kernel_rfl) (hS:S w:=by assumption):wpAnyH P md ops Q S (fuel+3) l0 a0 w:=
 Ir i0 (Ir i1 (Ir i2 h hi2 hw2 hv2 hl2 ha2 hs hf2 hr2 hQ2 hS) hi1 hw1 hv1 hl1 ha1 hs hf1 hr1 hQ1 hS) hi0 hw0 hv0 hl0 ha0 hs hf0 hr0 hQ0 hS
theorem Tf{P:Program}{md:Region.Mode}{ops:Array Oper}{Q:Exit→Act→World→Prop}{S:World→Prop}{fuel:Nat}{w:World}
 (i0 i1 i2 i3 i4 i5:Nat)
 {o0 o1 o2 o3 o4 o5:Oper}
 {v0 v1 v2 v3 v4 v5:Value}
 {l0 l1 l2 l3 l4 l5 l6:Array Bool} {a0 a1 a2 a3 a4 a5 a6:Act}
 (h:wpAnyH P md ops Q S fuel l6 a6 w)
 (hi0:ops[i0]? =some o0:=by exact Fj)
 (hw0:Region.wanted o0 (yielded ops a0.tmps)=true:=by rfl)
 (hv0:∀w,S w→(execOp a0.eval o0).run P w=.ok (.value v0) w:=by exact Hb)
 (hl0:l0.setIfInBounds i0 true=l1:=by exact ER)
 (ha0:a0.put o0.dst v0=a1:=by exact EQ)
 (hf0:Region.free md ops l0 i0=true:=by kernel_rfl) (hr0:(Region.ready md ops l0).contains i0=true:=by kernel_rfl)
 (hQ0:∀c a w,Q (.panic c) (a.put o0.dst v0) w→Q (.panic c) a w:=by exact fun _ _ _ h=>h)
 (hi1:ops[i1]? =some o1:=by exact Fj)
 (hw1:Region.wanted o1 (yielded ops a1.tmps)=true:=by rfl)
 (hv1:∀w,S w→(execOp a1.eval o1).run P w=.ok (.value v1) w:=by exact Hb)
 (hl1:l1.setIfInBounds i1 true=l2:=by exact ER)
 (ha1:a1.put o1.dst v1=a2:=by exact EQ)
 (hf1:Region.free md ops l1 i1=true:=by kernel_rfl) (hr1:(Region.ready md ops l1).contains i1=true:=by kernel_rfl)
 (hQ1:∀c a w,Q (.panic c) (a.put o1.dst v1) w→Q (.panic c) a w:=by exact fun _ _ _ h=>h)
 (hi2:ops[i2]? =some o2:=by exact Fj)
 (hw2:Region.wanted o2 (yielded ops a2.tmps)=true:=by rfl)
 (hv2:∀w,S w→(execOp a2.eval o2).run P w=.ok (.value v2) w:=by exact Hb)
 (hl2:l2.setIfInBounds i2 true=l3:=by exact ER)
 (ha2:a2.put o2.dst v2=a3:=by exact EQ)
 (hf2:Region.free md ops l2 i2=true:=by kernel_rfl) (hr2:(Region.ready md ops l2).contains i2=true:=by kernel_rfl)
 (hQ2:∀c a w,Q (.panic c) (a.put o2.dst v2) w→Q (.panic c) a w:=by exact fun _ _ _ h=>h)
 (hi3:ops[i3]? =some o3:=by exact Fj)
 (hw3:Region.wanted o3 (yielded ops a3.tmps)=true:=by rfl)
 (hv3:∀w,S w→(execOp a3.eval o3).run P w=.ok (.value v3) w:=by exact Hb)
 (hl3:l3.setIfInBounds i3 true=l4:=by exact ER)
 (ha3:a3.put o3.dst v3=a4:=by exact EQ)
 (hf3:Region.free md ops l3 i3=true:=by kernel_rfl) (hr3:(Region.ready md ops l3).contains i3=true:=by kernel_rfl)
 (hQ3:∀c a w,Q (.panic c) (a.put o3.dst v3) w→Q (.panic c) a w:=by exact fun _ _ _ h=>h)
 (hi4:ops[i4]? =some o4:=by exact Fj)
 (hw4:Region.wanted o4 (yielded ops a4.tmps)=true:=by rfl)
 (hv4:∀w,S w→(execOp a4.eval o4).run P w=.ok (.value v4) w:=by exact Hb)
 (hl4:l4.setIfInBounds i4 true=l5:=by exact ER)
 (ha4:a4.put o4.dst v4=a5:=by exact EQ)
 (hf4:Region.free md ops l4 i4=true:=by kernel_rfl) (hr4:(Region.ready md ops l4).contains i4=true:=by kernel_rfl)
 (hQ4:∀c a w,Q (.panic c) (a.put o4.dst v4) w→Q (.panic c) a w:=by exact fun _ _ _ h=>h)
 (hi5:ops[i5]? =some o5:=by exact Fj)
 (hw5:Region.wanted o5 (yielded ops a5.tmps)=true:=by rfl)
 (hv5:∀w,S w→(execOp a5.eval o5).run P w=.ok (.value v5) w:=by exact Hb)
 (hl5:l5.setIfInBounds i5 true=l6:=by exact ER)
 (ha5:a5.put o5.dst v5=a6:=by exact EQ)
 (hf5:Region.free md ops l5 i5=true:=by kernel_rfl) (hr5:(Region.ready md ops l5).contains i5=true:=by kernel_rfl)
 (hQ5:∀c a w,Q (.panic c) (a.put o5.dst v5) w→Q (.panic c) a w:=by exact fun _ _ _ h=>h)
 (hs:Region.noSelect ops=true:=by kernel_rfl) (hS:S w:=by assumption):wpAnyH P md ops Q S (fuel+6) l0 a0 w:=
 Ir i0 (Ir i1 (Ir i2 (Ir i3 (Ir i4 (Ir i5 h hi5 hw5 hv5 hl5 ha5 hs hf5 hr5 hQ5 hS) hi4 hw4 hv4 hl4 ha4 hs hf4 hr4 hQ4 hS) hi3 hw3 hv3 hl3 ha3 hs hf3 hr3 hQ3 hS) hi2 hw2 hv2 hl2 ha2 hs hf2 hr2 hQ2 hS) hi1 hw1 hv1 hl1 ha1 hs hf1 hr1 hQ1 hS) hi0 hw0 hv0 hl0 ha0 hs hf0 hr0 hQ0 hS
theorem Kd{P:Program}{md:Region.Mode}{ops:Array Oper}{Q:Exit→Act→World→Prop}{S:World→Prop}{fuel:Nat}{w:World}
 (i0 i1 i2 i3:Nat)
 {o0 o1 o2 o3:Oper}
 {l0 l1 l2 l3 l4:Array Bool} {a0 a1 a2 a3 a4:Act}
 (h:wpAnyH P md ops Q S fuel l4 a4 w)
 (hi0:ops[i0]? =some o0:=by exact Fj)
 (hw0:Region.wanted o0 (yielded ops a0.tmps)=false:=by rfl)
 (hl0:l0.setIfInBounds i0 true=l1:=by exact ER)
 (ha0:a0.put o0.dst undef=a1:=by exact EQ)
 (hf0:Region.free md ops l0 i0=true:=by kernel_rfl) (hr0:(Region.ready md ops l0).contains i0=true:=by kernel_rfl)
 (hQ0:∀c a w,Q (.panic c) (a.put o0.dst undef) w→Q (.panic c) a w:=by exact fun _ _ _ h=>h)
 (hi1:ops[i1]? =some o1:=by exact Fj)
 (hw1:Region.wanted o1 (yielded ops a1.tmps)=false:=by rfl)
 (hl1:l1.setIfInBounds i1 true=l2:=by exact ER)
 (ha1:a1.put o1.dst undef=a2:=by exact EQ)
 (hf1:Region.free md ops l1 i1=true:=by kernel_rfl) (hr1:(Region.ready md ops l1).contains i1=true:=by kernel_rfl)
 (hQ1:∀c a w,Q (.panic c) (a.put o1.dst undef) w→Q (.panic c) a w:=by exact fun _ _ _ h=>h)
 (hi2:ops[i2]? =some o2:=by exact Fj)
 (hw2:Region.wanted o2 (yielded ops a2.tmps)=false:=by rfl)
 (hl2:l2.setIfInBounds i2 true=l3:=by exact ER)
 (ha2:a2.put o2.dst undef=a3:=by exact EQ)
 (hf2:Region.free md ops l2 i2=true:=by kernel_rfl) (hr2:(Region.ready md ops l2).contains i2=true:=by kernel_rfl)
 (hQ2:∀c a w,Q (.panic c) (a.put o2.dst undef) w→Q (.panic c) a w:=by exact fun _ _ _ h=>h)
 (hi3:ops[i3]? =some o3:=by exact Fj)
 (hw3:Region.wanted o3 (yielded ops a3.tmps)=false:=by rfl)
 (hl3:l3.setIfInBounds i3 true=l4:=by exact ER)
 (ha3:a3.put o3.dst undef=a4:=by exact EQ)
 (hf3:Region.free md ops l3 i3=true:=by kernel_rfl) (hr3:(Region.ready md ops l3).contains i3=true:=by kernel_rfl)
 (hQ3:∀c a w,Q (.panic c) (a.put o3.dst undef) w→Q (.panic c) a w:=by exact fun _ _ _ h=>h)
 (hs:Region.noSelect ops=true:=by kernel_rfl) (hS:S w:=by assumption):wpAnyH P md ops Q S (fuel+4) l0 a0 w:=
 Kq i0 (Kq i1 (Kq i2 (Kq i3 h hi3 hw3 hl3 ha3 hs hf3 hr3 hQ3 hS) hi2 hw2 hl2 ha2 hs hf2 hr2 hQ2 hS) hi1 hw1 hl1 ha1 hs hf1 hr1 hQ1 hS) hi0 hw0 hl0 ha0 hs hf0 hr0 hQ0 hS
theorem oM{p:Prop}(h:p:=by omega):p:=h
theorem dE{p:Prop}(h:p:=by decide):p:=h
theorem kR{p:Prop}(h:p:=by kernel_rfl):p:=h
theorem sG{p:Prop}(h:p:=by simp[go_sem]):p:=h
theorem sM{p:Prop}(h:p:=by simp):p:=h
theorem rF{p:Prop}(h:p:=by rfl):p:=h
theorem sO{p:Prop}(h:p:=by simp;omega):p:=h
theorem gG{p:Prop}(h:p:=by go_grown):p:=h
theorem gN{p:Prop}(h:p:=by go_num):p:=h
theorem mL{p:Prop}(h:p:=by unfold maxLen;omega):p:=h
theorem iE{p:Prop}(h:p:=by intro e;simp only at e;omega):p:=h
theorem fT{p:Prop}(h:p:=by first|rfl|trivial):p:=h
theorem gA.{u}{α:Sort u}(a:α):∃x,a=x:=⟨a,rfl⟩
theorem gB{α:Type}{l:List α}{i:Nat}(h:i<l.length):l[i]?=some l[i]:=List.getElem?_eq_getElem h
theorem gC{w w':World}{a:Addr}(h:w'.heap[a.block]?=w.heap[a.block]?):w'.cell? a=w.cell? a:=World.cell?_of_block h
theorem gD{α:Type}{l:List α}{n:Nat}(h:n<l.length):l[n]∈l:=List.getElem_mem h
theorem gE{w:World}{a:Addr}{u:Value}{k:Nat}(h:k≠a.block):(w.setCell a u).heap[k]?=w.heap[k]?:=Below.heap_setCell w a u k h
theorem gF(n:Nat):n<=n:=Nat.le_refl n
theorem gH{a b c:Nat}(h:a<=b)(g:b<=c):a<=c:=Nat.le_trans h g
theorem gI(n:Nat):0<=n:=Nat.zero_le n
theorem Je{p:Prop}(h:p:=by
 refine wpAnyH_take (i:=0) (v:=?_) (by simp only[List.getElem?_toArray,List.getElem?_cons_succ,List.getElem?_cons_zero];rfl) kR kR kR (by exact fun _ _ _ h=>h) (Or.inl ⟨rF,?_⟩) (by assumption) ?_
 rotate_left 1
 ·(intro wS hSw;(try dsimp only at hSw);go_simp;try(with_reducible rfl))
 try simp only[Act.put,List.setIfInBounds_toArray,List.set_cons_zero,List.set_cons_succ]
 refine wpAnyH_take (i:=1) (v:=?_) (by simp only[List.getElem?_toArray,List.getElem?_cons_succ,List.getElem?_cons_zero];rfl) kR kR kR (by exact fun _ _ _ h=>h) (Or.inl ⟨rF,?_⟩) (by assumption) ?_
 rotate_left 1
 ·(intro wS hSw;(try dsimp only at hSw);go_simp;try(with_reducible rfl))
 try simp only[Act.put,List.setIfInBounds_toArray,List.set_cons_zero,List.set_cons_succ]
 refine wpAnyH_take (i:=2) (v:=?_) (by simp only[List.getElem?_toArray,List.getElem?_cons_succ,List.getElem?_cons_zero];rfl) kR kR kR (by exact fun _ _ _ h=>h) (Or.inl ⟨rF,?_⟩) (by assumption) ?_
 rotate_left 1
 ·(intro wS hSw;(try dsimp only at hSw);go_simp;try(with_reducible rfl))
 try simp only[Act.put,List.setIfInBounds_toArray,List.set_cons_zero,List.set_cons_succ]
 refine wpAnyH_take (i:=3) (v:=?_) (by simp only[List.getElem?_toArray,List.getElem?_cons_succ,List.getElem?_cons_zero];rfl) kR kR kR (by exact fun _ _ _ h=>h) (Or.inl ⟨rF,?_⟩) (by assumption) ?_
 rotate_left 1
 ·(intro wS hSw;(try dsimp only at hSw);go_simp;try(with_reducible rfl))
 try simp only[Act.put,List.setIfInBounds_toArray,List.set_cons_zero,List.set_cons_succ]
 refine wpAnyH_take (i:=4) (v:=?_) (by simp only[List.getElem?_toArray,List.getElem?_cons_succ,List.getElem?_cons_zero];rfl) kR kR kR (by exact fun _ _ _ h=>h) (Or.inl ⟨rF,?_⟩) (by assumption) ?_
 rotate_left 1
 ·(intro wS hSw;(try dsimp only at hSw);go_simp;try(with_reducible rfl))
 try simp only[Act.put,List.setIfInBounds_toArray,List.set_cons_zero,List.set_cons_succ]
 refine wpAnyH_take (i:=5) (v:=?_) (by simp only[List.getElem?_toArray,List.getElem?_cons_succ,List.getElem?_cons_zero];rfl) kR kR kR (by exact fun _ _ _ h=>h) (Or.inl ⟨rF,?_⟩) (by assumption) ?_
 rotate_left 1
 ·(intro wS hSw;(try dsimp only at hSw);go_simp;try(with_reducible rfl))
 try simp only[Act.put,List.setIfInBounds_toArray,List.set_cons_zero,List.set_cons_succ]
 refine wpAnyH_take (i:=6) (v:=?_) (by simp only[List.getElem?_toArray,List.getElem?_cons_succ,List.getElem?_cons_zero];rfl) kR kR kR (by exact fun _ _ _ h=>h) (Or.inl ⟨rF,?_⟩) (by assumption) ?_
 rotate_left 1
 ·(intro wS hSw;(try dsimp only at hSw);go_simp;try(with_reducible rfl))
 try simp only[Act.put,List.setIfInBounds_toArray,List.set_cons_zero,List.set_cons_succ]
 refine wpAnyH_take (i:=7) (v:=?_) (by simp only[List.getElem?_toArray,List.getElem?_cons_succ,List.getElem?_cons_zero];rfl) kR kR kR (by exact fun _ _ _ h=>h) (Or.inl ⟨rF,?_⟩) (by assumption) ?_
 rotate_left 1
 ·(intro wS hSw;(try dsimp only at hSw);go_simp;try(with_reducible rfl))
 try simp only[Act.put,List.setIfInBounds_toArray,List.set_cons_zero,List.set_cons_succ]
 clear hJ
 refine AO 8 fun K hK=>?_
 go_simp
 (go_at_call 25;(with_reducible refine KWW.out.mono ?_);rintro r9 w8 ⟨rfl,hb8⟩;have cC8:=R_C.out.drew.of_block (hb8.block _ R_C.out.drew.lt);have cI8:=R_I.out.drew.of_block (hb8.block _ R_I.out.drew.lt);obtain⟨x0,x1,x2,x3⟩:=c4 cC8;obtain⟨y0,y1,y2,y3,y4,y5,y6⟩:=c7 cI8;have t80:=kc hb8 t0;have t81:=kc hb8 t1;have HB8:=A8 (HBWW.out.trans (hb8.mono HBWW.out.size));clear hb8 cC8 cI8)
 try(go_wp2_with fail)
 refine AP hK fun hJ=>?_
 clear hK K
 refine wpAnyH_take (i:=9) (v:=?_) (by simp only[List.getElem?_toArray,List.getElem?_cons_succ,List.getElem?_cons_zero];rfl) kR kR kR (by exact fun _ _ _ h=>h) (Or.inl ⟨rF,?_⟩) (by assumption) ?_
 rotate_left 1
 ·(intro wS hSw;(try dsimp only at hSw);go_simp;try(with_reducible rfl))
 try simp only[Act.put,List.setIfInBounds_toArray,List.set_cons_zero,List.set_cons_succ]
 refine wpAnyH_done kR ?_ _
 go_wp2_with fail
 refine bodyPost_ret (by simp[results,results24,go_sem, *];try rfl) rfl ?_
 exact⟨rfl,HB8.out⟩):p:=h
theorem Ks{p:Prop}(h:p:=by
 refine wpAnyH_take (i:=0) (v:=?_) (by simp only[List.getElem?_toArray,List.getElem?_cons_succ,List.getElem?_cons_zero];rfl) kR kR kR (by exact fun _ _ _ h=>h) (Or.inl ⟨rF,?_⟩) (by assumption) ?_
 rotate_left 1
 ·(intro wS hSw;(try dsimp only at hSw);go_simp;try(with_reducible rfl))
 try simp only[Act.put,List.setIfInBounds_toArray,List.set_cons_zero,List.set_cons_succ]
 refine wpAnyH_take (i:=1) (v:=?_) (by simp only[List.getElem?_toArray,List.getElem?_cons_succ,List.getElem?_cons_zero];rfl) kR kR kR (by exact fun _ _ _ h=>h) (Or.inl ⟨rF,?_⟩) (by assumption) ?_
 rotate_left 1
 ·(intro wS hSw;(try dsimp only at hSw);go_simp;try(with_reducible rfl))
 try simp only[Act.put,List.setIfInBounds_toArray,List.set_cons_zero,List.set_cons_succ]
 refine wpAnyH_take (i:=2) (v:=?_) (by simp only[List.getElem?_toArray,List.getElem?_cons_succ,List.getElem?_cons_zero];rfl) kR kR kR (by exact fun _ _ _ h=>h) (Or.inl ⟨rF,?_⟩) (by assumption) ?_
 rotate_left 1
 ·(intro wS hSw;(try dsimp only at hSw);go_simp;try(with_reducible rfl))
 try simp only[Act.put,List.setIfInBounds_toArray,List.set_cons_zero,List.set_cons_succ]
 refine wpAnyH_take (i:=3) (v:=?_) (by simp only[List.getElem?_toArray,List.getElem?_cons_succ,List.getElem?_cons_zero];rfl) kR kR kR (by exact fun _ _ _ h=>h) (Or.inl ⟨rF,?_⟩) (by assumption) ?_
 rotate_left 1
 ·(intro wS hSw;(try dsimp only at hSw);go_simp;try(with_reducible rfl))
 try simp only[Act.put,List.setIfInBounds_toArray,List.set_cons_zero,List.set_cons_succ]
 refine wpAnyH_take (i:=4) (v:=?_) (by simp only[List.getElem?_toArray,List.getElem?_cons_succ,List.getElem?_cons_zero];rfl) kR kR kR (by exact fun _ _ _ h=>h) (Or.inl ⟨rF,?_⟩) (by assumption) ?_
 rotate_left 1
 ·(intro wS hSw;(try dsimp only at hSw);go_simp;try(with_reducible rfl))
 try simp only[Act.put,List.setIfInBounds_toArray,List.set_cons_zero,List.set_cons_succ]
 refine wpAnyH_take (i:=5) (v:=?_) (by simp only[List.getElem?_toArray,List.getElem?_cons_succ,List.getElem?_cons_zero];rfl) kR kR kR (by exact fun _ _ _ h=>h) (Or.inl ⟨rF,?_⟩) (by assumption) ?_
 rotate_left 1
 ·(intro wS hSw;(try dsimp only at hSw);go_simp;try(with_reducible rfl))
 try simp only[Act.put,List.setIfInBounds_toArray,List.set_cons_zero,List.set_cons_succ]
 clear hJ
 refine AO 6 fun K hK=>?_
 go_simp
 (go_at_call 71;(with_reducible refine(HKA.out _ (bel HTD.out.bel (Aa _))).mono ?_);rintro e w3 ⟨rfl,hb9⟩;have HB3:Hid (Below Wd.heap.size Wd w3):=bel (Aa _) hb9;clear hb9;obtain⟨c0,c1,c2,c3,i1,i2,i3,i4,i5,d0,d1⟩:=HCD.out w3 HB3.out)
 try(go_wp2_with fail)
 refine AP hK fun hJ=>?_
 clear hK K
 refine wpAnyH_take (i:=7) (v:=?_) (by simp only[List.getElem?_toArray,List.getElem?_cons_succ,List.getElem?_cons_zero];rfl) kR kR kR (by exact fun _ _ _ h=>h) (Or.inl ⟨rF,?_⟩) (by assumption) ?_
 rotate_left 1
 ·(intro wS hSw;(try dsimp only at hSw);go_simp;try(with_reducible rfl))
 try simp only[Act.put,List.setIfInBounds_toArray,List.set_cons_zero,List.set_cons_succ]
 refine wpAnyH_take (i:=8) (v:=?_) (by simp only[List.getElem?_toArray,List.getElem?_cons_succ,List.getElem?_cons_zero];rfl) kR kR kR (by exact fun _ _ _ h=>h) (Or.inl ⟨rF,?_⟩) (by assumption) ?_
 rotate_left 1
 ·(intro wS hSw;(try dsimp only at hSw);go_simp;try(with_reducible rfl))
 try simp only[Act.put,List.setIfInBounds_toArray,List.set_cons_zero,List.set_cons_succ]
 refine wpAnyH_take (i:=9) (v:=?_) (by simp only[List.getElem?_toArray,List.getElem?_cons_succ,List.getElem?_cons_zero];rfl) kR kR kR (by exact fun _ _ _ h=>h) (Or.inl ⟨rF,?_⟩) (by assumption) ?_
 rotate_left 1
 ·(intro wS hSw;(try dsimp only at hSw);go_simp;try(with_reducible rfl))
 try simp only[Act.put,List.setIfInBounds_toArray,List.set_cons_zero,List.set_cons_succ]
 refine wpAnyH_take (i:=10) (v:=?_) (by simp only[List.getElem?_toArray,List.getElem?_cons_succ,List.getElem?_cons_zero];rfl) kR kR kR (by exact fun _ _ _ h=>h) (Or.inl ⟨rF,?_⟩) (by assumption) ?_
 rotate_left 1
 ·(intro wS hSw;(try dsimp only at hSw);go_simp;try(with_reducible rfl))
 try simp only[Act.put,List.setIfInBounds_toArray,List.set_cons_zero,List.set_cons_succ]
 refine wpAnyH_take (i:=11) (v:=?_) (by simp only[List.getElem?_toArray,List.getElem?_cons_succ,List.getElem?_cons_zero];rfl) kR kR kR (by exact fun _ _ _ h=>h) (Or.inl ⟨rF,?_⟩) (by assumption) ?_
 rotate_left 1
 ·(intro wS hSw;(try dsimp only at hSw);go_simp;try(with_reducible rfl))
 try simp only[Act.put,List.setIfInBounds_toArray,List.set_cons_zero,List.set_cons_succ]
 refine wpAnyH_take (i:=12) (v:=?_) (by simp only[List.getElem?_toArray,List.getElem?_cons_succ,List.getElem?_cons_zero];rfl) kR kR kR (by exact fun _ _ _ h=>h) (Or.inl ⟨rF,?_⟩) (by assumption) ?_
 rotate_left 1
 ·(intro wS hSw;(try dsimp only at hSw);go_simp;try(with_reducible rfl))
 try simp only[Act.put,List.setIfInBounds_toArray,List.set_cons_zero,List.set_cons_succ]
 refine wpAnyH_take (i:=13) (v:=?_) (by simp only[List.getElem?_toArray,List.getElem?_cons_succ,List.getElem?_cons_zero];rfl) kR kR kR (by exact fun _ _ _ h=>h) (Or.inl ⟨rF,?_⟩) (by assumption) ?_
 rotate_left 1
 ·(intro wS hSw;(try dsimp only at hSw);go_simp;try(with_reducible rfl))
 try simp only[Act.put,List.setIfInBounds_toArray,List.set_cons_zero,List.set_cons_succ]
 refine wpAnyH_take (i:=14) (v:=?_) (by simp only[List.getElem?_toArray,List.getElem?_cons_succ,List.getElem?_cons_zero];rfl) kR kR kR (by exact fun _ _ _ h=>h) (Or.inl ⟨rF,?_⟩) (by assumption) ?_
 rotate_left 1
 ·(intro wS hSw;(try dsimp only at hSw);go_simp;try(with_reducible rfl))
 try simp only[Act.put,List.setIfInBounds_toArray,List.set_cons_zero,List.set_cons_succ]
 clear hJ
 refine AO 15 fun K hK=>?_
 go_simp
 (go_at_call 71;(with_reducible refine(HKB.out _ (bel HTD.out.bel HB3.out)).mono ?_);rintro e w4 ⟨rfl,hb9⟩;have HB4:Hid (Below Wd.heap.size Wd w4):=bel HB3.out hb9;clear hb9;clear c0 c1 c2 c3 i1 i2 i3 i4 i5 d0 d1;obtain⟨c0,c1,c2,c3,i1,i2,i3,i4,i5,d0,d1⟩:=HCD.out w4 HB4.out)
 try(go_wp2_with fail)
 refine AP hK fun hJ=>?_
 clear hK K
 refine wpAnyH_take (i:=16) (v:=?_) (by simp only[List.getElem?_toArray,List.getElem?_cons_succ,List.getElem?_cons_zero];rfl) kR kR kR (by exact fun _ _ _ h=>h) (Or.inl ⟨rF,?_⟩) (by assumption) ?_
 rotate_left 1
 ·(intro wS hSw;(try dsimp only at hSw);go_simp;try(with_reducible rfl))
 try simp only[Act.put,List.setIfInBounds_toArray,List.set_cons_zero,List.set_cons_succ]
 refine wpAnyH_take (i:=17) (v:=?_) (by simp only[List.getElem?_toArray,List.getElem?_cons_succ,List.getElem?_cons_zero];rfl) kR kR kR (by exact fun _ _ _ h=>h) (Or.inl ⟨rF,?_⟩) (by assumption) ?_
 rotate_left 1
 ·(intro wS hSw;(try dsimp only at hSw);go_simp;try(with_reducible rfl))
 try simp only[Act.put,List.setIfInBounds_toArray,List.set_cons_zero,List.set_cons_succ]
 refine wpAnyH_take (i:=18) (v:=?_) (by simp only[List.getElem?_toArray,List.getElem?_cons_succ,List.getElem?_cons_zero];rfl) kR kR kR (by exact fun _ _ _ h=>h) (Or.inl ⟨rF,?_⟩) (by assumption) ?_
 rotate_left 1
 ·(intro wS hSw;(try dsimp only at hSw);go_simp;try(with_reducible rfl))
 try simp only[Act.put,List.setIfInBounds_toArray,List.set_cons_zero,List.set_cons_succ]
 refine wpAnyH_take (i:=19) (v:=?_) (by simp only[List.getElem?_toArray,List.getElem?_cons_succ,List.getElem?_cons_zero];rfl) kR kR kR (by exact fun _ _ _ h=>h) (Or.inl ⟨rF,?_⟩) (by assumption) ?_
 rotate_left 1
 ·(intro wS hSw;(try dsimp only at hSw);go_simp;try(with_reducible rfl))
 try simp only[Act.put,List.setIfInBounds_toArray,List.set_cons_zero,List.set_cons_succ]
 refine wpAnyH_take (i:=20) (v:=?_) (by simp only[List.getElem?_toArray,List.getElem?_cons_succ,List.getElem?_cons_zero];rfl) kR kR kR (by exact fun _ _ _ h=>h) (Or.inl ⟨rF,?_⟩) (by assumption) ?_
 rotate_left 1
 ·(intro wS hSw;(try dsimp only at hSw);go_simp;try(with_reducible rfl))
 try simp only[Act.put,List.setIfInBounds_toArray,List.set_cons_zero,List.set_cons_succ]
 refine wpAnyH_take (i:=21) (v:=?_) (by simp only[List.getElem?_toArray,List.getElem?_cons_succ,List.getElem?_cons_zero];rfl) kR kR kR (by exact fun _ _ _ h=>h) (Or.inl ⟨rF,?_⟩) (by assumption) ?_
 rotate_left 1
 ·(intro wS hSw;(try dsimp only at hSw);go_simp;try(with_reducible rfl))
 try simp only[Act.put,List.setIfInBounds_toArray,List.set_cons_zero,List.set_cons_succ]
 refine wpAnyH_take (i:=22) (v:=?_) (by simp only[List.getElem?_toArray,List.getElem?_cons_succ,List.getElem?_cons_zero];rfl) kR kR kR (by exact fun _ _ _ h=>h) (Or.inl ⟨rF,?_⟩) (by assumption) ?_
 rotate_left 1
 ·(intro wS hSw;(try dsimp only at hSw);go_simp;try(with_reducible rfl))
 try simp only[Act.put,List.setIfInBounds_toArray,List.set_cons_zero,List.set_cons_succ]
 refine wpAnyH_take (i:=23) (v:=?_) (by simp only[List.getElem?_toArray,List.getElem?_cons_succ,List.getElem?_cons_zero];rfl) kR kR kR (by exact fun _ _ _ h=>h) (Or.inl ⟨rF,?_⟩) (by assumption) ?_
 rotate_left 1
 ·(intro wS hSw;(try dsimp only at hSw);go_simp;try(with_reducible rfl))
 try simp only[Act.put,List.setIfInBounds_toArray,List.set_cons_zero,List.set_cons_succ]
 refine wpAnyH_take (i:=24) (v:=?_) (by simp only[List.getElem?_toArray,List.getElem?_cons_succ,List.getElem?_cons_zero];rfl) kR kR kR (by exact fun _ _ _ h=>h) (Or.inl ⟨rF,?_⟩) (by assumption) ?_
 rotate_left 1
 ·(intro wS hSw;(try dsimp only at hSw);go_simp;try(with_reducible rfl))
 try simp only[Act.put,List.setIfInBounds_toArray,List.set_cons_zero,List.set_cons_succ]
 clear hJ
 refine AO 25 fun K hK=>?_
 go_simp
 (go_at_call 71;(with_reducible refine(HKC.out _ (bel HTD.out.bel HB4.out)).mono ?_);rintro e w5 ⟨rfl,hb9⟩;have HB5:Hid (Below Wd.heap.size Wd w5):=bel HB4.out hb9;clear hb9;clear c0 c1 c2 c3 i1 i2 i3 i4 i5 d0 d1;obtain⟨c0,c1,c2,c3,i1,i2,i3,i4,i5,d0,d1⟩:=HCD.out w5 HB5.out)
 try(go_wp2_with fail)
 refine AP hK fun hJ=>?_
 clear hK K
 refine wpAnyH_take (i:=26) (v:=?_) (by simp only[List.getElem?_toArray,List.getElem?_cons_succ,List.getElem?_cons_zero];rfl) kR kR kR (by exact fun _ _ _ h=>h) (Or.inl ⟨rF,?_⟩) (by assumption) ?_
 rotate_left 1
 ·(intro wS hSw;(try dsimp only at hSw);go_simp;try(with_reducible rfl))
 try simp only[Act.put,List.setIfInBounds_toArray,List.set_cons_zero,List.set_cons_succ]
 refine wpAnyH_take (i:=27) (v:=?_) (by simp only[List.getElem?_toArray,List.getElem?_cons_succ,List.getElem?_cons_zero];rfl) kR kR kR (by exact fun _ _ _ h=>h) (Or.inl ⟨rF,?_⟩) (by assumption) ?_
 rotate_left 1
 ·(intro wS hSw;(try dsimp only at hSw);go_simp;try(with_reducible rfl))
 try simp only[Act.put,List.setIfInBounds_toArray,List.set_cons_zero,List.set_cons_succ]
 refine wpAnyH_done kR ?_ _
 go_wp2
 go_ret
 exact⟨A9 HQF.out,bel HTD.bel HB5.out⟩):p:=h
theorem Kt{p:Prop}(h:p:=by
 refine wpAnyH_take (i:=0) (v:=?_) (by simp only[List.getElem?_toArray,List.getElem?_cons_succ,List.getElem?_cons_zero];rfl) kR kR kR (by exact fun _ _ _ h=>h) (Or.inl ⟨rF,?_⟩) (by assumption) ?_
 rotate_left 1
 ·(intro wS hSw;(try dsimp only at hSw);go_simp;try(with_reducible rfl))
 try simp only[Act.put,List.setIfInBounds_toArray,List.set_cons_zero,List.set_cons_succ]
 refine wpAnyH_take (i:=1) (v:=?_) (by simp only[List.getElem?_toArray,List.getElem?_cons_succ,List.getElem?_cons_zero];rfl) kR kR kR (by exact fun _ _ _ h=>h) (Or.inl ⟨rF,?_⟩) (by assumption) ?_
 rotate_left 1
 ·(intro wS hSw;(try dsimp only at hSw);go_simp;try(with_reducible rfl))
 try simp only[Act.put,List.setIfInBounds_toArray,List.set_cons_zero,List.set_cons_succ]
 refine wpAnyH_take (i:=2) (v:=?_) (by simp only[List.getElem?_toArray,List.getElem?_cons_succ,List.getElem?_cons_zero];rfl) kR kR kR (by exact fun _ _ _ h=>h) (Or.inl ⟨rF,?_⟩) (by assumption) ?_
 rotate_left 1
 ·(intro wS hSw;(try dsimp only at hSw);go_simp;try(with_reducible rfl))
 try simp only[Act.put,List.setIfInBounds_toArray,List.set_cons_zero,List.set_cons_succ]
 refine wpAnyH_take (i:=3) (v:=?_) (by simp only[List.getElem?_toArray,List.getElem?_cons_succ,List.getElem?_cons_zero];rfl) kR kR kR (by exact fun _ _ _ h=>h) (Or.inl ⟨rF,?_⟩) (by assumption) ?_
 rotate_left 1
 ·(intro wS hSw;(try dsimp only at hSw);go_simp;try(with_reducible rfl))
 try simp only[Act.put,List.setIfInBounds_toArray,List.set_cons_zero,List.set_cons_succ]
 refine wpAnyH_take (i:=4) (v:=?_) (by simp only[List.getElem?_toArray,List.getElem?_cons_succ,List.getElem?_cons_zero];rfl) kR kR kR (by exact fun _ _ _ h=>h) (Or.inl ⟨rF,?_⟩) (by assumption) ?_
 rotate_left 1
 ·(intro wS hSw;(try dsimp only at hSw);go_simp;try(with_reducible rfl))
 try simp only[Act.put,List.setIfInBounds_toArray,List.set_cons_zero,List.set_cons_succ]
 refine wpAnyH_take (i:=5) (v:=?_) (by simp only[List.getElem?_toArray,List.getElem?_cons_succ,List.getElem?_cons_zero];rfl) kR kR kR (by exact fun _ _ _ h=>h) (Or.inl ⟨rF,?_⟩) (by assumption) ?_
 rotate_left 1
 ·(intro wS hSw;(try dsimp only at hSw);go_simp;try(with_reducible rfl))
 try simp only[Act.put,List.setIfInBounds_toArray,List.set_cons_zero,List.set_cons_succ]
 clear hJ
 refine AO 6 fun K hK=>?_
 go_simp
 (go_at_call 71;(with_reducible refine(HKA.out _ (bel HTD.out.bel (Aa _))).mono ?_);rintro e w3 ⟨rfl,hb9⟩;have HB3:Hid (Below Wd.heap.size Wd w3):=bel (Aa _) hb9;clear hb9;obtain⟨c0,c1,c2,c3,i1,i2,i3,i4,i5,d0,d1⟩:=HCD.out w3 HB3.out)
 try(go_wp2_with fail)
 refine AP hK fun hJ=>?_
 clear hK K
 refine wpAnyH_take (i:=7) (v:=?_) (by simp only[List.getElem?_toArray,List.getElem?_cons_succ,List.getElem?_cons_zero];rfl) kR kR kR (by exact fun _ _ _ h=>h) (Or.inl ⟨rF,?_⟩) (by assumption) ?_
 rotate_left 1
 ·(intro wS hSw;(try dsimp only at hSw);go_simp;try(with_reducible rfl))
 try simp only[Act.put,List.setIfInBounds_toArray,List.set_cons_zero,List.set_cons_succ]
 refine wpAnyH_take (i:=8) (v:=?_) (by simp only[List.getElem?_toArray,List.getElem?_cons_succ,List.getElem?_cons_zero];rfl) kR kR kR (by exact fun _ _ _ h=>h) (Or.inl ⟨rF,?_⟩) (by assumption) ?_
 rotate_left 1
 ·(intro wS hSw;(try dsimp only at hSw);go_simp;try(with_reducible rfl))
 try simp only[Act.put,List.setIfInBounds_toArray,List.set_cons_zero,List.set_cons_succ]
 refine wpAnyH_take (i:=9) (v:=?_) (by simp only[List.getElem?_toArray,List.getElem?_cons_succ,List.getElem?_cons_zero];rfl) kR kR kR (by exact fun _ _ _ h=>h) (Or.inl ⟨rF,?_⟩) (by assumption) ?_
 rotate_left 1
 ·(intro wS hSw;(try dsimp only at hSw);go_simp;try(with_reducible rfl))
 try simp only[Act.put,List.setIfInBounds_toArray,List.set_cons_zero,List.set_cons_succ]
 refine wpAnyH_take (i:=10) (v:=?_) (by simp only[List.getElem?_toArray,List.getElem?_cons_succ,List.getElem?_cons_zero];rfl) kR kR kR (by exact fun _ _ _ h=>h) (Or.inl ⟨rF,?_⟩) (by assumption) ?_
 rotate_left 1
 ·(intro wS hSw;(try dsimp only at hSw);go_simp;try(with_reducible rfl))
 try simp only[Act.put,List.setIfInBounds_toArray,List.set_cons_zero,List.set_cons_succ]
 refine wpAnyH_take (i:=11) (v:=?_) (by simp only[List.getElem?_toArray,List.getElem?_cons_succ,List.getElem?_cons_zero];rfl) kR kR kR (by exact fun _ _ _ h=>h) (Or.inl ⟨rF,?_⟩) (by assumption) ?_
 rotate_left 1
 ·(intro wS hSw;(try dsimp only at hSw);go_simp;try(with_reducible rfl))
 try simp only[Act.put,List.setIfInBounds_toArray,List.set_cons_zero,List.set_cons_succ]
 refine wpAnyH_take (i:=12) (v:=?_) (by simp only[List.getElem?_toArray,List.getElem?_cons_succ,List.getElem?_cons_zero];rfl) kR kR kR (by exact fun _ _ _ h=>h) (Or.inl ⟨rF,?_⟩) (by assumption) ?_
 rotate_left 1
 ·(intro wS hSw;(try dsimp only at hSw);go_simp;try(with_reducible rfl))
 try simp only[Act.put,List.setIfInBounds_toArray,List.set_cons_zero,List.set_cons_succ]
 refine wpAnyH_take (i:=13) (v:=?_) (by simp only[List.getElem?_toArray,List.getElem?_cons_succ,List.getElem?_cons_zero];rfl) kR kR kR (by exact fun _ _ _ h=>h) (Or.inl ⟨rF,?_⟩) (by assumption) ?_
 rotate_left 1
 ·(intro wS hSw;(try dsimp only at hSw);go_simp;try(with_reducible rfl))
 try simp only[Act.put,List.setIfInBounds_toArray,List.set_cons_zero,List.set_cons_succ]
 refine wpAnyH_take (i:=14) (v:=?_) (by simp only[List.getElem?_toArray,List.getElem?_cons_succ,List.getElem?_cons_zero];rfl) kR kR kR (by exact fun _ _ _ h=>h) (Or.inl ⟨rF,?_⟩) (by assumption) ?_
 rotate_left 1
 ·(intro wS hSw;(try dsimp only at hSw);go_simp;try(with_reducible rfl))
 try simp only[Act.put,List.setIfInBounds_toArray,List.set_cons_zero,List.set_cons_succ]
 clear hJ
 refine AO 15 fun K hK=>?_
 go_simp
 (go_at_call 71;(with_reducible refine(HKB.out _ (bel HTD.out.bel HB3.out)).mono ?_);rintro e w4 ⟨rfl,hb9⟩;have HB4:Hid (Below Wd.heap.size Wd w4):=bel HB3.out hb9;clear hb9;clear c0 c1 c2 c3 i1 i2 i3 i4 i5 d0 d1;obtain⟨c0,c1,c2,c3,i1,i2,i3,i4,i5,d0,d1⟩:=HCD.out w4 HB4.out)
 try(go_wp2_with fail)
 refine AP hK fun hJ=>?_
 clear hK K
 refine wpAnyH_take (i:=16) (v:=?_) (by simp only[List.getElem?_toArray,List.getElem?_cons_succ,List.getElem?_cons_zero];rfl) kR kR kR (by exact fun _ _ _ h=>h) (Or.inl ⟨rF,?_⟩) (by assumption) ?_
 rotate_left 1
 ·(intro wS hSw;(try dsimp only at hSw);go_simp;try(with_reducible rfl))
 try simp only[Act.put,List.setIfInBounds_toArray,List.set_cons_zero,List.set_cons_succ]
 refine wpAnyH_take (i:=17) (v:=?_) (by simp only[List.getElem?_toArray,List.getElem?_cons_succ,List.getElem?_cons_zero];rfl) kR kR kR (by exact fun _ _ _ h=>h) (Or.inl ⟨rF,?_⟩) (by assumption) ?_
 rotate_left 1
 ·(intro wS hSw;(try dsimp only at hSw);go_simp;try(with_reducible rfl))
 try simp only[Act.put,List.setIfInBounds_toArray,List.set_cons_zero,List.set_cons_succ]
 refine wpAnyH_take (i:=18) (v:=?_) (by simp only[List.getElem?_toArray,List.getElem?_cons_succ,List.getElem?_cons_zero];rfl) kR kR kR (by exact fun _ _ _ h=>h) (Or.inl ⟨rF,?_⟩) (by assumption) ?_
 rotate_left 1
 ·(intro wS hSw;(try dsimp only at hSw);go_simp;try(with_reducible rfl))
 try simp only[Act.put,List.setIfInBounds_toArray,List.set_cons_zero,List.set_cons_succ]
 refine wpAnyH_take (i:=19) (v:=undef) (by simp only[List.getElem?_toArray,List.getElem?_cons_succ,List.getElem?_cons_zero];rfl) kR kR kR (by exact fun _ _ _ h=>h) (Or.inr ⟨rF,rfl⟩) (by assumption) ?_
 try simp only[Act.put,List.setIfInBounds_toArray,List.set_cons_zero,List.set_cons_succ]
 refine wpAnyH_take (i:=20) (v:=undef) (by simp only[List.getElem?_toArray,List.getElem?_cons_succ,List.getElem?_cons_zero];rfl) kR kR kR (by exact fun _ _ _ h=>h) (Or.inr ⟨rF,rfl⟩) (by assumption) ?_
 try simp only[Act.put,List.setIfInBounds_toArray,List.set_cons_zero,List.set_cons_succ]
 refine wpAnyH_take (i:=21) (v:=undef) (by simp only[List.getElem?_toArray,List.getElem?_cons_succ,List.getElem?_cons_zero];rfl) kR kR kR (by exact fun _ _ _ h=>h) (Or.inr ⟨rF,rfl⟩) (by assumption) ?_
 try simp only[Act.put,List.setIfInBounds_toArray,List.set_cons_zero,List.set_cons_succ]
 refine wpAnyH_take (i:=22) (v:=undef) (by simp only[List.getElem?_toArray,List.getElem?_cons_succ,List.getElem?_cons_zero];rfl) kR kR kR (by exact fun _ _ _ h=>h) (Or.inr ⟨rF,rfl⟩) (by assumption) ?_
 try simp only[Act.put,List.setIfInBounds_toArray,List.set_cons_zero,List.set_cons_succ]
 refine wpAnyH_take (i:=23) (v:=undef) (by simp only[List.getElem?_toArray,List.getElem?_cons_succ,List.getElem?_cons_zero];rfl) kR kR kR (by exact fun _ _ _ h=>h) (Or.inr ⟨rF,rfl⟩) (by assumption) ?_
 try simp only[Act.put,List.setIfInBounds_toArray,List.set_cons_zero,List.set_cons_succ]
 refine wpAnyH_take (i:=24) (v:=undef) (by simp only[List.getElem?_toArray,List.getElem?_cons_succ,List.getElem?_cons_zero];rfl) kR kR kR (by exact fun _ _ _ h=>h) (Or.inr ⟨rF,rfl⟩) (by assumption) ?_
 try simp only[Act.put,List.setIfInBounds_toArray,List.set_cons_zero,List.set_cons_succ]
 refine wpAnyH_take (i:=25) (v:=undef) (by simp only[List.getElem?_toArray,List.getElem?_cons_succ,List.getElem?_cons_zero];rfl) kR kR kR (by exact fun _ _ _ h=>h) (Or.inr ⟨rF,rfl⟩) (by assumption) ?_
 try simp only[Act.put,List.setIfInBounds_toArray,List.set_cons_zero,List.set_cons_succ]
 refine wpAnyH_take (i:=26) (v:=undef) (by simp only[List.getElem?_toArray,List.getElem?_cons_succ,List.getElem?_cons_zero];rfl) kR kR kR (by exact fun _ _ _ h=>h) (Or.inr ⟨rF,rfl⟩) (by assumption) ?_
 try simp only[Act.put,List.setIfInBounds_toArray,List.set_cons_zero,List.set_cons_succ]
 refine wpAnyH_take (i:=27) (v:=?_) (by simp only[List.getElem?_toArray,List.getElem?_cons_succ,List.getElem?_cons_zero];rfl) kR kR kR (by exact fun _ _ _ h=>h) (Or.inl ⟨rF,?_⟩) (by assumption) ?_
 rotate_left 1
 ·(intro wS hSw;(try dsimp only at hSw);go_simp;try(with_reducible rfl))
 try simp only[Act.put,List.setIfInBounds_toArray,List.set_cons_zero,List.set_cons_succ]
 refine wpAnyH_done kR ?_ _
 go_wp2
 go_ret
 exact⟨A9 HQF.out,bel HTD.bel HB4.out⟩):p:=h
theorem Ku{p:Prop}(h:p:=by
 refine wpAnyH_take (i:=0) (v:=?_) (by simp only[List.getElem?_toArray,List.getElem?_cons_succ,List.getElem?_cons_zero];rfl) kR kR kR (by exact fun _ _ _ h=>h) (Or.inl ⟨rF,?_⟩) (by assumption) ?_
 rotate_left 1
 ·(intro wS hSw;(try dsimp only at hSw);go_simp;try(with_reducible rfl))
 try simp only[Act.put,List.setIfInBounds_toArray,List.set_cons_zero,List.set_cons_succ]
 refine wpAnyH_take (i:=1) (v:=?_) (by simp only[List.getElem?_toArray,List.getElem?_cons_succ,List.getElem?_cons_zero];rfl) kR kR kR (by exact fun _ _ _ h=>h) (Or.inl ⟨rF,?_⟩) (by assumption) ?_
 rotate_left 1
 ·(intro wS hSw;(try dsimp only at hSw);go_simp;try(with_reducible rfl))
 try simp only[Act.put,List.setIfInBounds_toArray,List.set_cons_zero,List.set_cons_succ]
 refine wpAnyH_take (i:=2) (v:=?_) (by simp only[List.getElem?_toArray,List.getElem?_cons_succ,List.getElem?_cons_zero];rfl) kR kR kR (by exact fun _ _ _ h=>h) (Or.inl ⟨rF,?_⟩) (by assumption) ?_
 rotate_left 1
 ·(intro wS hSw;(try dsimp only at hSw);go_simp;try(with_reducible rfl))
 try simp only[Act.put,List.setIfInBounds_toArray,List.set_cons_zero,List.set_cons_succ]
 refine wpAnyH_take (i:=3) (v:=?_) (by simp only[List.getElem?_toArray,List.getElem?_cons_succ,List.getElem?_cons_zero];rfl) kR kR kR (by exact fun _ _ _ h=>h) (Or.inl ⟨rF,?_⟩) (by assumption) ?_
 rotate_left 1
 ·(intro wS hSw;(try dsimp only at hSw);go_simp;try(with_reducible rfl))
 try simp only[Act.put,List.setIfInBounds_toArray,List.set_cons_zero,List.set_cons_succ]
 refine wpAnyH_take (i:=4) (v:=?_) (by simp only[List.getElem?_toArray,List.getElem?_cons_succ,List.getElem?_cons_zero];rfl) kR kR kR (by exact fun _ _ _ h=>h) (Or.inl ⟨rF,?_⟩) (by assumption) ?_
 rotate_left 1
 ·(intro wS hSw;(try dsimp only at hSw);go_simp;try(with_reducible rfl))
 try simp only[Act.put,List.setIfInBounds_toArray,List.set_cons_zero,List.set_cons_succ]
 refine wpAnyH_take (i:=5) (v:=?_) (by simp only[List.getElem?_toArray,List.getElem?_cons_succ,List.getElem?_cons_zero];rfl) kR kR kR (by exact fun _ _ _ h=>h) (Or.inl ⟨rF,?_⟩) (by assumption) ?_
 rotate_left 1
 ·(intro wS hSw;(try dsimp only at hSw);go_simp;try(with_reducible rfl))
 try simp only[Act.put,List.setIfInBounds_toArray,List.set_cons_zero,List.set_cons_succ]
 clear hJ
 refine AO 6 fun K hK=>?_
 go_simp
 (go_at_call 71;(with_reducible refine(HKA.out _ (bel HTD.out.bel (Aa _))).mono ?_);rintro e w3 ⟨rfl,hb9⟩;have HB3:Hid (Below Wd.heap.size Wd w3):=bel (Aa _) hb9;clear hb9;obtain⟨c0,c1,c2,c3,i1,i2,i3,i4,i5,d0,d1⟩:=HCD.out w3 HB3.out)
 try(go_wp2_with fail)
 refine AP hK fun hJ=>?_
 clear hK K
 refine wpAnyH_take (i:=7) (v:=?_) (by simp only[List.getElem?_toArray,List.getElem?_cons_succ,List.getElem?_cons_zero];rfl) kR kR kR (by exact fun _ _ _ h=>h) (Or.inl ⟨rF,?_⟩) (by assumption) ?_
 rotate_left 1
 ·(intro wS hSw;(try dsimp only at hSw);go_simp;try(with_reducible rfl))
 try simp only[Act.put,List.setIfInBounds_toArray,List.set_cons_zero,List.set_cons_succ]
 refine wpAnyH_take (i:=8) (v:=?_) (by simp only[List.getElem?_toArray,List.getElem?_cons_succ,List.getElem?_cons_zero];rfl) kR kR kR (by exact fun _ _ _ h=>h) (Or.inl ⟨rF,?_⟩) (by assumption) ?_
 rotate_left 1
 ·(intro wS hSw;(try dsimp only at hSw);go_simp;try(with_reducible rfl))
 try simp only[Act.put,List.setIfInBounds_toArray,List.set_cons_zero,List.set_cons_succ]
 refine wpAnyH_take (i:=9) (v:=undef) (by simp only[List.getElem?_toArray,List.getElem?_cons_succ,List.getElem?_cons_zero];rfl) kR kR kR (by exact fun _ _ _ h=>h) (Or.inr ⟨rF,rfl⟩) (by assumption) ?_
 try simp only[Act.put,List.setIfInBounds_toArray,List.set_cons_zero,List.set_cons_succ]
 refine wpAnyH_take (i:=10) (v:=undef) (by simp only[List.getElem?_toArray,List.getElem?_cons_succ,List.getElem?_cons_zero];rfl) kR kR kR (by exact fun _ _ _ h=>h) (Or.inr ⟨rF,rfl⟩) (by assumption) ?_
 try simp only[Act.put,List.setIfInBounds_toArray,List.set_cons_zero,List.set_cons_succ]
 refine wpAnyH_take (i:=11) (v:=undef) (by simp only[List.getElem?_toArray,List.getElem?_cons_succ,List.getElem?_cons_zero];rfl) kR kR kR (by exact fun _ _ _ h=>h) (Or.inr ⟨rF,rfl⟩) (by assumption) ?_
 try simp only[Act.put,List.setIfInBounds_toArray,List.set_cons_zero,List.set_cons_succ]
 refine wpAnyH_take (i:=12) (v:=undef) (by simp only[List.getElem?_toArray,List.getElem?_cons_succ,List.getElem?_cons_zero];rfl) kR kR kR (by exact fun _ _ _ h=>h) (Or.inr ⟨rF,rfl⟩) (by assumption) ?_
 try simp only[Act.put,List.setIfInBounds_toArray,List.set_cons_zero,List.set_cons_succ]
 refine wpAnyH_take (i:=13) (v:=undef) (by simp only[List.getElem?_toArray,List.getElem?_cons_succ,List.getElem?_cons_zero];rfl) kR kR kR (by exact fun _ _ _ h=>h) (Or.inr ⟨rF,rfl⟩) (by assumption) ?_
 try simp only[Act.put,List.setIfInBounds_toArray,List.set_cons_zero,List.set_cons_succ]
 refine wpAnyH_take (i:=14) (v:=undef) (by simp only[List.getElem?_toArray,List.getElem?_cons_succ,List.getElem?_cons_zero];rfl) kR kR kR (by exact fun _ _ _ h=>h) (Or.inr ⟨rF,rfl⟩) (by assumption) ?_
 try simp only[Act.put,List.setIfInBounds_toArray,List.set_cons_zero,List.set_cons_succ]
 refine wpAnyH_take (i:=15) (v:=undef) (by simp only[List.getElem?_toArray,List.getElem?_cons_succ,List.getElem?_cons_zero];rfl) kR kR kR (by exact fun _ _ _ h=>h) (Or.inr ⟨rF,rfl⟩) (by assumption) ?_
 try simp only[Act.put,List.setIfInBounds_toArray,List.set_cons_zero,List.set_cons_succ]
 refine wpAnyH_take (i:=16) (v:=undef) (by simp only[List.getElem?_toArray,List.getElem?_cons_succ,List.getElem?_cons_zero];rfl) kR kR kR (by exact fun _ _ _ h=>h) (Or.inr ⟨rF,rfl⟩) (by assumption) ?_
 try simp only[Act.put,List.setIfInBounds_toArray,List.set_cons_zero,List.set_cons_succ]
 refine wpAnyH_take (i:=17) (v:=?_) (by simp only[List.getElem?_toArray,List.getElem?_cons_succ,List.getElem?_cons_zero];rfl) kR kR kR (by exact fun _ _ _ h=>h) (Or.inl ⟨rF,?_⟩) (by assumption) ?_
 rotate_left 1
 ·(intro wS hSw;(try dsimp only at hSw);go_simp;try(with_reducible rfl))
 try simp only[Act.put,List.setIfInBounds_toArray,List.set_cons_zero,List.set_cons_succ]
 refine wpAnyH_take (i:=18) (v:=?_) (by simp only[List.getElem?_toArray,List.getElem?_cons_succ,List.getElem?_cons_zero];rfl) kR kR kR (by exact fun _ _ _ h=>h) (Or.inl ⟨rF,?_⟩) (by assumption) ?_
 rotate_left 1
 ·(intro wS hSw;(try dsimp only at hSw);go_simp;try(with_reducible rfl))
 try simp only[Act.put,List.setIfInBounds_toArray,List.set_cons_zero,List.set_cons_succ]
 refine wpAnyH_take (i:=19) (v:=undef) (by simp only[List.getElem?_toArray,List.getElem?_cons_succ,List.getElem?_cons_zero];rfl) kR kR kR (by exact fun _ _ _ h=>h) (Or.inr ⟨rF,rfl⟩) (by assumption) ?_
 try simp only[Act.put,List.setIfInBounds_toArray,List.set_cons_zero,List.set_cons_succ]
 refine wpAnyH_take (i:=20) (v:=undef) (by simp only[List.getElem?_toArray,List.getElem?_cons_succ,List.getElem?_cons_zero];rfl) kR kR kR (by exact fun _ _ _ h=>h) (Or.inr ⟨rF,rfl⟩) (by assumption) ?_
 try simp only[Act.put,List.setIfInBounds_toArray,List.set_cons_zero,List.set_cons_succ]
 refine wpAnyH_take (i:=21) (v:=undef) (by simp only[List.getElem?_toArray,List.getElem?_cons_succ,List.getElem?_cons_zero];rfl) kR kR kR (by exact fun _ _ _ h=>h) (Or.inr ⟨rF,rfl⟩) (by assumption) ?_
 try simp only[Act.put,List.setIfInBounds_toArray,List.set_cons_zero,List.set_cons_succ]
 refine wpAnyH_take (i:=22) (v:=undef) (by simp only[List.getElem?_toArray,List.getElem?_cons_succ,List.getElem?_cons_zero];rfl) kR kR kR (by exact fun _ _ _ h=>h) (Or.inr ⟨rF,rfl⟩) (by assumption) ?_
 try simp only[Act.put,List.setIfInBounds_toArray,List.set_cons_zero,List.set_cons_succ]
 refine wpAnyH_take (i:=23) (v:=undef) (by simp only[List.getElem?_toArray,List.getElem?_cons_succ,List.getElem?_cons_zero];rfl) kR kR kR (by exact fun _ _ _ h=>h) (Or.inr ⟨rF,rfl⟩) (by assumption) ?_
 try simp only[Act.put,List.setIfInBounds_toArray,List.set_cons_zero,List.set_cons_succ]
 refine wpAnyH_take (i:=24) (v:=undef) (by simp only[List.getElem?_toArray,List.getElem?_cons_succ,List.getElem?_cons_zero];rfl) kR kR kR (by exact fun _ _ _ h=>h) (Or.inr ⟨rF,rfl⟩) (by assumption) ?_
 try simp only[Act.put,List.setIfInBounds_toArray,List.set_cons_zero,List.set_cons_succ]
 refine wpAnyH_take (i:=25) (v:=undef) (by simp only[List.getElem?_toArray,List.getElem?_cons_succ,List.getElem?_cons_zero];rfl) kR kR kR (by exact fun _ _ _ h=>h) (Or.inr ⟨rF,rfl⟩) (by assumption) ?_
 try simp only[Act.put,List.setIfInBounds_toArray,List.set_cons_zero,List.set_cons_succ]
 refine wpAnyH_take (i:=26) (v:=undef) (by simp only[List.getElem?_toArray,List.getElem?_cons_succ,List.getElem?_cons_zero];rfl) kR kR kR (by exact fun _ _ _ h=>h) (Or.inr ⟨rF,rfl⟩) (by assumption) ?_
 try simp only[Act.put,List.setIfInBounds_toArray,List.set_cons_zero,List.set_cons_succ]
 refine wpAnyH_take (i:=27) (v:=?_) (by simp only[List.getElem?_toArray,List.getElem?_cons_succ,List.getElem?_cons_zero];rfl) kR kR kR (by exact fun _ _ _ h=>h) (Or.inl ⟨rF,?_⟩) (by assumption) ?_
 rotate_left 1
 ·(intro wS hSw;(try dsimp only at hSw);go_simp;try(with_reducible rfl))
 try simp only[Act.put,List.setIfInBounds_toArray,List.set_cons_zero,List.set_cons_succ]
 refine wpAnyH_done kR ?_ _
 go_wp2
 go_ret
 exact⟨A9 HQF.out,bel HTD.bel HB3.out⟩):p:=h
theorem Kv{p:Prop}(h:p:=by
 go_enter func35,ntmps35
 go_wp2
 refine rG (fun v=>v.cell? ⟨w.heap.size,0,none⟩=some v0/\v.cell? ⟨w.heap.size,1,none⟩=some v1/\v.cell? ⟨w.heap.size,2,none⟩=some v2/\v.cell? ⟨w.heap.size,3,none⟩=some v3/\v.cell? ⟨w.heap.size+1,0,none⟩=some (.int .i64 op)/\v.cell? ⟨w.heap.size+1,1,none⟩=some (.int .i64 D)/\v.cell? ⟨w.heap.size+1,2,none⟩=some (.int .i64 A)/\v.cell? ⟨w.heap.size+1,3,none⟩=some (.int .i64 Q)/\v.cell? ⟨w.heap.size+1,4,none⟩=some (.int .i64 E)/\v.cell? ⟨w.heap.size+1,5,none⟩=some (.int .i64 nn)/\v.cell? ⟨w.heap.size+1,6,none⟩=some (.int .u32 bt)) fun hJ=>?_
 refine wpAnyH_take (i:=0) (v:=?_) (by simp only[List.getElem?_toArray,List.getElem?_cons_succ,List.getElem?_cons_zero];rfl) kR kR kR (by exact fun _ _ _ h=>h) (Or.inl ⟨rF,?_⟩) (by assumption) ?_
 rotate_left 1
 ·(intro wS hSw;(try dsimp only at hSw);go_simp;try(with_reducible rfl))
 try simp only[Act.put,List.setIfInBounds_toArray,List.set_cons_zero,List.set_cons_succ]
 refine wpAnyH_take (i:=1) (v:=?_) (by simp only[List.getElem?_toArray,List.getElem?_cons_succ,List.getElem?_cons_zero];rfl) kR kR kR (by exact fun _ _ _ h=>h) (Or.inl ⟨rF,?_⟩) (by assumption) ?_
 rotate_left 1
 ·(intro wS hSw;(try dsimp only at hSw);go_simp;try(with_reducible rfl))
 try simp only[Act.put,List.setIfInBounds_toArray,List.set_cons_zero,List.set_cons_succ]
 clear hJ
 refine AO 2 fun K hK=>?_
 go_simp
 (go_at_call 51;(with_reducible refine(HFIT.out _ (bel HT0.out.bel (Aa _))).mono ?_);rintro e wz ⟨rfl,hbz⟩;have HBZ:Hid (Below ((w.alloc (.cells #[v0,v1,v2,v3] 27)).alloc (.cells #[.int .i64 op,.int .i64 D,.int .i64 A,.int .i64 Q,.int .i64 E,.int .i64 nn,.int .u32 bt] 53)).heap.size ((w.alloc (.cells #[v0,v1,v2,v3] 27)).alloc (.cells #[.int .i64 op,.int .i64 D,.int .i64 A,.int .i64 Q,.int .i64 E,.int .i64 nn,.int .u32 bt] 53)) wz):=bel (Aa _) hbz;clear hbz;obtain⟨-,c0,c1,c2,c3,i0,i1,i2,i3,i4,i5,i6⟩:=HT0.out.next HBZ.out)
 try(go_wp2_with fail)
 refine AP hK fun hJ=>?_
 clear hK K
 refine wpAnyH_take (i:=3) (v:=?_) (by simp only[List.getElem?_toArray,List.getElem?_cons_succ,List.getElem?_cons_zero];rfl) kR kR kR (by exact fun _ _ _ h=>h) (Or.inl ⟨rF,?_⟩) (by assumption) ?_
 rotate_left 1
 ·(intro wS hSw;(try dsimp only at hSw);go_simp;try(with_reducible rfl))
 try simp only[Act.put,List.setIfInBounds_toArray,List.set_cons_zero,List.set_cons_succ]
 refine wpAnyH_take (i:=4) (v:=?_) (by simp only[List.getElem?_toArray,List.getElem?_cons_succ,List.getElem?_cons_zero];rfl) kR kR kR (by exact fun _ _ _ h=>h) (Or.inl ⟨rF,?_⟩) (by assumption) ?_
 rotate_left 1
 ·(intro wS hSw;(try dsimp only at hSw);go_simp;try(with_reducible rfl))
 try simp only[Act.put,List.setIfInBounds_toArray,List.set_cons_zero,List.set_cons_succ]
 refine wpAnyH_take (i:=5) (v:=undef) (by simp only[List.getElem?_toArray,List.getElem?_cons_succ,List.getElem?_cons_zero];rfl) kR kR kR (by exact fun _ _ _ h=>h) (Or.inr ⟨rF,rfl⟩) (by assumption) ?_
 try simp only[Act.put,List.setIfInBounds_toArray,List.set_cons_zero,List.set_cons_succ]
 refine wpAnyH_take (i:=6) (v:=undef) (by simp only[List.getElem?_toArray,List.getElem?_cons_succ,List.getElem?_cons_zero];rfl) kR kR kR (by exact fun _ _ _ h=>h) (Or.inr ⟨rF,rfl⟩) (by assumption) ?_
 try simp only[Act.put,List.setIfInBounds_toArray,List.set_cons_zero,List.set_cons_succ]
 refine wpAnyH_take (i:=7) (v:=undef) (by simp only[List.getElem?_toArray,List.getElem?_cons_succ,List.getElem?_cons_zero];rfl) kR kR kR (by exact fun _ _ _ h=>h) (Or.inr ⟨rF,rfl⟩) (by assumption) ?_
 try simp only[Act.put,List.setIfInBounds_toArray,List.set_cons_zero,List.set_cons_succ]
 refine wpAnyH_take (i:=8) (v:=undef) (by simp only[List.getElem?_toArray,List.getElem?_cons_succ,List.getElem?_cons_zero];rfl) kR kR kR (by exact fun _ _ _ h=>h) (Or.inr ⟨rF,rfl⟩) (by assumption) ?_
 try simp only[Act.put,List.setIfInBounds_toArray,List.set_cons_zero,List.set_cons_succ]
 refine wpAnyH_take (i:=9) (v:=undef) (by simp only[List.getElem?_toArray,List.getElem?_cons_succ,List.getElem?_cons_zero];rfl) kR kR kR (by exact fun _ _ _ h=>h) (Or.inr ⟨rF,rfl⟩) (by assumption) ?_
 try simp only[Act.put,List.setIfInBounds_toArray,List.set_cons_zero,List.set_cons_succ]
 refine wpAnyH_take (i:=10) (v:=undef) (by simp only[List.getElem?_toArray,List.getElem?_cons_succ,List.getElem?_cons_zero];rfl) kR kR kR (by exact fun _ _ _ h=>h) (Or.inr ⟨rF,rfl⟩) (by assumption) ?_
 try simp only[Act.put,List.setIfInBounds_toArray,List.set_cons_zero,List.set_cons_succ]
 refine wpAnyH_take (i:=11) (v:=undef) (by simp only[List.getElem?_toArray,List.getElem?_cons_succ,List.getElem?_cons_zero];rfl) kR kR kR (by exact fun _ _ _ h=>h) (Or.inr ⟨rF,rfl⟩) (by assumption) ?_
 try simp only[Act.put,List.setIfInBounds_toArray,List.set_cons_zero,List.set_cons_succ]
 refine wpAnyH_take (i:=12) (v:=undef) (by simp only[List.getElem?_toArray,List.getElem?_cons_succ,List.getElem?_cons_zero];rfl) kR kR kR (by exact fun _ _ _ h=>h) (Or.inr ⟨rF,rfl⟩) (by assumption) ?_
 try simp only[Act.put,List.setIfInBounds_toArray,List.set_cons_zero,List.set_cons_succ]
 refine wpAnyH_take (i:=13) (v:=undef) (by simp only[List.getElem?_toArray,List.getElem?_cons_succ,List.getElem?_cons_zero];rfl) kR kR kR (by exact fun _ _ _ h=>h) (Or.inr ⟨rF,rfl⟩) (by assumption) ?_
 try simp only[Act.put,List.setIfInBounds_toArray,List.set_cons_zero,List.set_cons_succ]
 refine wpAnyH_take (i:=14) (v:=undef) (by simp only[List.getElem?_toArray,List.getElem?_cons_succ,List.getElem?_cons_zero];rfl) kR kR kR (by exact fun _ _ _ h=>h) (Or.inr ⟨rF,rfl⟩) (by assumption) ?_
 try simp only[Act.put,List.setIfInBounds_toArray,List.set_cons_zero,List.set_cons_succ]
 refine wpAnyH_take (i:=15) (v:=undef) (by simp only[List.getElem?_toArray,List.getElem?_cons_succ,List.getElem?_cons_zero];rfl) kR kR kR (by exact fun _ _ _ h=>h) (Or.inr ⟨rF,rfl⟩) (by assumption) ?_
 try simp only[Act.put,List.setIfInBounds_toArray,List.set_cons_zero,List.set_cons_succ]
 refine wpAnyH_take (i:=16) (v:=undef) (by simp only[List.getElem?_toArray,List.getElem?_cons_succ,List.getElem?_cons_zero];rfl) kR kR kR (by exact fun _ _ _ h=>h) (Or.inr ⟨rF,rfl⟩) (by assumption) ?_
 try simp only[Act.put,List.setIfInBounds_toArray,List.set_cons_zero,List.set_cons_succ]
 refine wpAnyH_take (i:=17) (v:=undef) (by simp only[List.getElem?_toArray,List.getElem?_cons_succ,List.getElem?_cons_zero];rfl) kR kR kR (by exact fun _ _ _ h=>h) (Or.inr ⟨rF,rfl⟩) (by assumption) ?_
 try simp only[Act.put,List.setIfInBounds_toArray,List.set_cons_zero,List.set_cons_succ]
 refine wpAnyH_take (i:=18) (v:=undef) (by simp only[List.getElem?_toArray,List.getElem?_cons_succ,List.getElem?_cons_zero];rfl) kR kR kR (by exact fun _ _ _ h=>h) (Or.inr ⟨rF,rfl⟩) (by assumption) ?_
 try simp only[Act.put,List.setIfInBounds_toArray,List.set_cons_zero,List.set_cons_succ]
 refine wpAnyH_take (i:=19) (v:=undef) (by simp only[List.getElem?_toArray,List.getElem?_cons_succ,List.getElem?_cons_zero];rfl) kR kR kR (by exact fun _ _ _ h=>h) (Or.inr ⟨rF,rfl⟩) (by assumption) ?_
 try simp only[Act.put,List.setIfInBounds_toArray,List.set_cons_zero,List.set_cons_succ]
 refine wpAnyH_take (i:=20) (v:=undef) (by simp only[List.getElem?_toArray,List.getElem?_cons_succ,List.getElem?_cons_zero];rfl) kR kR kR (by exact fun _ _ _ h=>h) (Or.inr ⟨rF,rfl⟩) (by assumption) ?_
 try simp only[Act.put,List.setIfInBounds_toArray,List.set_cons_zero,List.set_cons_succ]
 refine wpAnyH_take (i:=21) (v:=undef) (by simp only[List.getElem?_toArray,List.getElem?_cons_succ,List.getElem?_cons_zero];rfl) kR kR kR (by exact fun _ _ _ h=>h) (Or.inr ⟨rF,rfl⟩) (by assumption) ?_
 try simp only[Act.put,List.setIfInBounds_toArray,List.set_cons_zero,List.set_cons_succ]
 refine wpAnyH_take (i:=22) (v:=undef) (by simp only[List.getElem?_toArray,List.getElem?_cons_succ,List.getElem?_cons_zero];rfl) kR kR kR (by exact fun _ _ _ h=>h) (Or.inr ⟨rF,rfl⟩) (by assumption) ?_
 try simp only[Act.put,List.setIfInBounds_toArray,List.set_cons_zero,List.set_cons_succ]
 refine wpAnyH_take (i:=23) (v:=undef) (by simp only[List.getElem?_toArray,List.getElem?_cons_succ,List.getElem?_cons_zero];rfl) kR kR kR (by exact fun _ _ _ h=>h) (Or.inr ⟨rF,rfl⟩) (by assumption) ?_
 try simp only[Act.put,List.setIfInBounds_toArray,List.set_cons_zero,List.set_cons_succ]
 refine wpAnyH_take (i:=24) (v:=?_) (by simp only[List.getElem?_toArray,List.getElem?_cons_succ,List.getElem?_cons_zero];rfl) kR kR kR (by exact fun _ _ _ h=>h) (Or.inl ⟨rF,?_⟩) (by assumption) ?_
 rotate_left 1
 ·(intro wS hSw;(try dsimp only at hSw);go_simp;try(with_reducible rfl))
 try simp only[Act.put,List.setIfInBounds_toArray,List.set_cons_zero,List.set_cons_succ]
 refine wpAnyH_done kR ?_ _
 go_wp2
 go_ret
 exact⟨A9 HQF.out,bel hb00 HBZ.out⟩):p:=h
theorem JY{p:Prop}(h:p:=by
 go_enter func22,ntmps22
 go_upto_region 14 with(go_at_call 31;(with_reducible refine(KE.out _).mono ?_);rintro r9 w8 ⟨rfl,hw8⟩;have hw8:=hw8.symm;subst hw8)
 refine rG (fun v=>v.cell? ⟨C,1,none⟩=some (.slice (some ⟨bb,oo,none⟩) RL q1)/\v.cell? ⟨B,O+2,none⟩=some (.int .i64 (R:Int))/\v.cell? ⟨bb,oo+R*2,none⟩=some (.int .i64 TY.kind)/\v.cell? ⟨bb,oo+R*2+1,none⟩=some (.int .i64 TY.par)) fun hJ=>?_
 refine wpAnyH_take (i:=0) (v:=?_) (by simp only[List.getElem?_toArray,List.getElem?_cons_succ,List.getElem?_cons_zero];rfl) kR kR kR (by exact fun _ _ _ h=>h) (Or.inl ⟨rF,?_⟩) (by assumption) ?_
 rotate_left 1
 ·(intro wS hSw;(try dsimp only at hSw);go_simp;try(with_reducible rfl))
 try simp only[Act.put,List.setIfInBounds_toArray,List.set_cons_zero,List.set_cons_succ]
 refine wpAnyH_take (i:=1) (v:=?_) (by simp only[List.getElem?_toArray,List.getElem?_cons_succ,List.getElem?_cons_zero];rfl) kR kR kR (by exact fun _ _ _ h=>h) (Or.inl ⟨rF,?_⟩) (by assumption) ?_
 rotate_left 1
 ·(intro wS hSw;(try dsimp only at hSw);go_simp;try(with_reducible rfl))
 try simp only[Act.put,List.setIfInBounds_toArray,List.set_cons_zero,List.set_cons_succ]
 refine wpAnyH_take (i:=2) (v:=?_) (by simp only[List.getElem?_toArray,List.getElem?_cons_succ,List.getElem?_cons_zero];rfl) kR kR kR (by exact fun _ _ _ h=>h) (Or.inl ⟨rF,?_⟩) (by assumption) ?_
 rotate_left 1
 ·(intro wS hSw;(try dsimp only at hSw);go_simp;try(with_reducible rfl))
 try simp only[Act.put,List.setIfInBounds_toArray,List.set_cons_zero,List.set_cons_succ]
 refine wpAnyH_take (i:=3) (v:=?_) (by simp only[List.getElem?_toArray,List.getElem?_cons_succ,List.getElem?_cons_zero];rfl) kR kR kR (by exact fun _ _ _ h=>h) (Or.inl ⟨rF,?_⟩) (by assumption) ?_
 rotate_left 1
 ·(intro wS hSw;(try dsimp only at hSw);go_simp;try(with_reducible rfl))
 try simp only[Act.put,List.setIfInBounds_toArray,List.set_cons_zero,List.set_cons_succ]
 refine wpAnyH_take (i:=4) (v:=?_) (by simp only[List.getElem?_toArray,List.getElem?_cons_succ,List.getElem?_cons_zero];rfl) kR kR kR (by exact fun _ _ _ h=>h) (Or.inl ⟨rF,?_⟩) (by assumption) ?_
 rotate_left 1
 ·(intro wS hSw;(try dsimp only at hSw);go_simp;try(with_reducible rfl))
 try simp only[Act.put,List.setIfInBounds_toArray,List.set_cons_zero,List.set_cons_succ]
 refine wpAnyH_take (i:=5) (v:=?_) (by simp only[List.getElem?_toArray,List.getElem?_cons_succ,List.getElem?_cons_zero];rfl) kR kR kR (by exact fun _ _ _ h=>h) (Or.inl ⟨rF,?_⟩) (by assumption) ?_
 rotate_left 1
 ·(intro wS hSw;(try dsimp only at hSw);go_simp;try(with_reducible rfl))
 try simp only[Act.put,List.setIfInBounds_toArray,List.set_cons_zero,List.set_cons_succ]
 refine wpAnyH_take (i:=6) (v:=?_) (by simp only[List.getElem?_toArray,List.getElem?_cons_succ,List.getElem?_cons_zero];rfl) kR kR kR (by exact fun _ _ _ h=>h) (Or.inl ⟨rF,?_⟩) (by assumption) ?_
 rotate_left 1
 ·(intro wS hSw;(try dsimp only at hSw);go_simp;try(with_reducible rfl))
 try simp only[Act.put,List.setIfInBounds_toArray,List.set_cons_zero,List.set_cons_succ]
 refine wpAnyH_take (i:=7) (v:=?_) (by simp only[List.getElem?_toArray,List.getElem?_cons_succ,List.getElem?_cons_zero];rfl) kR kR kR (by exact fun _ _ _ h=>h) (Or.inl ⟨rF,?_⟩) (by assumption) ?_
 rotate_left 1
 ·(intro wS hSw;(try dsimp only at hSw);go_simp;try(with_reducible rfl))
 try simp only[Act.put,List.setIfInBounds_toArray,List.set_cons_zero,List.set_cons_succ]
 refine wpAnyH_take (i:=8) (v:=?_) (by simp only[List.getElem?_toArray,List.getElem?_cons_succ,List.getElem?_cons_zero];rfl) kR kR kR (by exact fun _ _ _ h=>h) (Or.inl ⟨rF,?_⟩) (by assumption) ?_
 rotate_left 1
 ·(intro wS hSw;(try dsimp only at hSw);go_simp;try(with_reducible rfl))
 try simp only[Act.put,List.setIfInBounds_toArray,List.set_cons_zero,List.set_cons_succ]
 refine wpAnyH_take (i:=9) (v:=?_) (by simp only[List.getElem?_toArray,List.getElem?_cons_succ,List.getElem?_cons_zero];rfl) kR kR kR (by exact fun _ _ _ h=>h) (Or.inl ⟨rF,?_⟩) (by assumption) ?_
 rotate_left 1
 ·(intro wS hSw;(try dsimp only at hSw);go_simp;try(with_reducible rfl))
 try simp only[Act.put,List.setIfInBounds_toArray,List.set_cons_zero,List.set_cons_succ]
 refine wpAnyH_take (i:=10) (v:=?_) (by simp only[List.getElem?_toArray,List.getElem?_cons_succ,List.getElem?_cons_zero];rfl) kR kR kR (by exact fun _ _ _ h=>h) (Or.inl ⟨rF,?_⟩) (by assumption) ?_
 rotate_left 1
 ·(intro wS hSw;(try dsimp only at hSw);go_simp;try(with_reducible rfl))
 try simp only[Act.put,List.setIfInBounds_toArray,List.set_cons_zero,List.set_cons_succ]
 clear hJ
 refine AO 11 fun K hK=>?_
 go_simp
 (go_at_call 30;(with_reducible refine KWW.out.mono ?_);rintro r9 w8 ⟨rfl,hb8⟩;have c81:=kc hb8 c1;have x8:=kc hb8 x2;have t80:=kc hb8 t0;have t81:=kc hb8 t1;have HB8:=A8 (HBWW.out.trans (hb8.mono HBWW.out.size));clear hb8)
 try(go_wp2_with fail)
 refine AP hK fun hJ=>?_
 clear hK K
 refine wpAnyH_take (i:=12) (v:=?_) (by simp only[List.getElem?_toArray,List.getElem?_cons_succ,List.getElem?_cons_zero];rfl) kR kR kR (by exact fun _ _ _ h=>h) (Or.inl ⟨rF,?_⟩) (by assumption) ?_
 rotate_left 1
 ·(intro wS hSw;(try dsimp only at hSw);go_simp;try(with_reducible rfl))
 try simp only[Act.put,List.setIfInBounds_toArray,List.set_cons_zero,List.set_cons_succ]
 refine wpAnyH_done kR ?_ _
 go_wp2_with fail
 refine bodyPost_ret (by simp[results,results22,go_sem, *];try rfl) rfl ?_
 exact⟨rfl,HB8.out⟩):p:=h
theorem Lf{p:Prop}(h:p:=by
 have HQF:Hid (false=RES):=by show _=_;have:=HQ.out;rw[hpl]at this;exact this
 have hpl':=hpl
 unfold Ae at hpl'
 rw[HN2.out]at hpl'
 by_cases hn0:0<=n
 .have HLT:Hid (¬n<(n2:Int)):=by show¬_;simp[hn0]at hpl';omega
  clear hpl hpl'
  go_wp2
  refine rG (fun v=>v.cell? ⟨w.heap.size,2,none⟩=some (.slice p2 n2 q2)/\v.cell? ⟨w.heap.size+1,5,none⟩=some (.int .i64 n)) fun hJ=>?_
  refine wpAnyH_take (i:=0) (v:=?_) (by simp only[List.getElem?_toArray,List.getElem?_cons_succ,List.getElem?_cons_zero];rfl) kR kR kR (by exact fun _ _ _ h=>h) (Or.inl ⟨rF,?_⟩) (by assumption) ?_
  rotate_left 1
  ·(intro wS hSw;(try dsimp only at hSw);go_simp;try(with_reducible rfl))
  try simp only[Act.put,List.setIfInBounds_toArray,List.set_cons_zero,List.set_cons_succ]
  refine wpAnyH_take (i:=1) (v:=?_) (by simp only[List.getElem?_toArray,List.getElem?_cons_succ,List.getElem?_cons_zero];rfl) kR kR kR (by exact fun _ _ _ h=>h) (Or.inl ⟨rF,?_⟩) (by assumption) ?_
  rotate_left 1
  ·(intro wS hSw;(try dsimp only at hSw);go_simp;try(with_reducible rfl))
  try simp only[Act.put,List.setIfInBounds_toArray,List.set_cons_zero,List.set_cons_succ]
  refine wpAnyH_take (i:=2) (v:=?_) (by simp only[List.getElem?_toArray,List.getElem?_cons_succ,List.getElem?_cons_zero];rfl) kR kR kR (by exact fun _ _ _ h=>h) (Or.inl ⟨rF,?_⟩) (by assumption) ?_
  rotate_left 1
  ·(intro wS hSw;(try dsimp only at hSw);go_simp;try(with_reducible rfl))
  try simp only[Act.put,List.setIfInBounds_toArray,List.set_cons_zero,List.set_cons_succ]
  refine wpAnyH_take (i:=3) (v:=?_) (by simp only[List.getElem?_toArray,List.getElem?_cons_succ,List.getElem?_cons_zero];rfl) kR kR kR (by exact fun _ _ _ h=>h) (Or.inl ⟨rF,?_⟩) (by assumption) ?_
  rotate_left 1
  ·(intro wS hSw;(try dsimp only at hSw);go_simp;try(with_reducible rfl))
  try simp only[Act.put,List.setIfInBounds_toArray,List.set_cons_zero,List.set_cons_succ]
  refine wpAnyH_take (i:=4) (v:=?_) (by simp only[List.getElem?_toArray,List.getElem?_cons_succ,List.getElem?_cons_zero];rfl) kR kR kR (by exact fun _ _ _ h=>h) (Or.inl ⟨rF,?_⟩) (by assumption) ?_
  rotate_left 1
  ·(intro wS hSw;(try dsimp only at hSw);go_simp;try(with_reducible rfl))
  try simp only[Act.put,List.setIfInBounds_toArray,List.set_cons_zero,List.set_cons_succ]
  refine wpAnyH_take (i:=5) (v:=?_) (by simp only[List.getElem?_toArray,List.getElem?_cons_succ,List.getElem?_cons_zero];rfl) kR kR kR (by exact fun _ _ _ h=>h) (Or.inl ⟨rF,?_⟩) (by assumption) ?_
  rotate_left 1
  ·(intro wS hSw;(try dsimp only at hSw);go_simp;try(with_reducible rfl))
  try simp only[Act.put,List.setIfInBounds_toArray,List.set_cons_zero,List.set_cons_succ]
  refine wpAnyH_take (i:=6) (v:=?_) (by simp only[List.getElem?_toArray,List.getElem?_cons_succ,List.getElem?_cons_zero];rfl) kR kR kR (by exact fun _ _ _ h=>h) (Or.inl ⟨rF,?_⟩) (by assumption) ?_
  rotate_left 1
  ·(intro wS hSw;(try dsimp only at hSw);go_simp;try(with_reducible rfl))
  try simp only[Act.put,List.setIfInBounds_toArray,List.set_cons_zero,List.set_cons_succ]
  refine wpAnyH_take (i:=7) (v:=?_) (by simp only[List.getElem?_toArray,List.getElem?_cons_succ,List.getElem?_cons_zero];rfl) kR kR kR (by exact fun _ _ _ h=>h) (Or.inl ⟨rF,?_⟩) (by assumption) ?_
  rotate_left 1
  ·(intro wS hSw;(try dsimp only at hSw);go_simp;try(with_reducible rfl))
  try simp only[Act.put,List.setIfInBounds_toArray,List.set_cons_zero,List.set_cons_succ]
  refine wpAnyH_take (i:=8) (v:=?_) (by simp only[List.getElem?_toArray,List.getElem?_cons_succ,List.getElem?_cons_zero];rfl) kR kR kR (by exact fun _ _ _ h=>h) (Or.inl ⟨rF,?_⟩) (by assumption) ?_
  rotate_left 1
  ·(intro wS hSw;(try dsimp only at hSw);go_simp;try(with_reducible rfl))
  try simp only[Act.put,List.setIfInBounds_toArray,List.set_cons_zero,List.set_cons_succ]
  refine wpAnyH_take (i:=9) (v:=.bool false) (by simp only[List.getElem?_toArray,List.getElem?_cons_succ,List.getElem?_cons_zero];rfl) kR kR kR (by exact fun _ _ _ h=>h) (Or.inl ⟨rF,?_⟩) (by assumption) ?_
  ·(intro wS hSw;(try dsimp only at hSw);have hltF:=HLT.out;go_simp;first|done|rfl|omega|(simp;omega)|simp[hltF])
  try simp only[Act.put,List.setIfInBounds_toArray,List.set_cons_zero,List.set_cons_succ]
  refine wpAnyH_take (i:=10) (v:=?_) (by simp only[List.getElem?_toArray,List.getElem?_cons_succ,List.getElem?_cons_zero];rfl) kR kR kR (by exact fun _ _ _ h=>h) (Or.inl ⟨rF,?_⟩) (by assumption) ?_
  rotate_left 1
  ·(intro wS hSw;(try dsimp only at hSw);go_simp;try(with_reducible rfl))
  try simp only[Act.put,List.setIfInBounds_toArray,List.set_cons_zero,List.set_cons_succ]
  refine wpAnyH_take (i:=11) (v:=?_) (by simp only[List.getElem?_toArray,List.getElem?_cons_succ,List.getElem?_cons_zero];rfl) kR kR kR (by exact fun _ _ _ h=>h) (Or.inl ⟨rF,?_⟩) (by assumption) ?_
  rotate_left 1
  ·(intro wS hSw;(try dsimp only at hSw);go_simp;try(with_reducible rfl))
  try simp only[Act.put,List.setIfInBounds_toArray,List.set_cons_zero,List.set_cons_succ]
  refine wpAnyH_take (i:=12) (v:=undef) (by simp only[List.getElem?_toArray,List.getElem?_cons_succ,List.getElem?_cons_zero];rfl) kR kR kR (by exact fun _ _ _ h=>h) (Or.inr ⟨rF,rfl⟩) (by assumption) ?_
  try simp only[Act.put,List.setIfInBounds_toArray,List.set_cons_zero,List.set_cons_succ]
  refine wpAnyH_take (i:=13) (v:=undef) (by simp only[List.getElem?_toArray,List.getElem?_cons_succ,List.getElem?_cons_zero];rfl) kR kR kR (by exact fun _ _ _ h=>h) (Or.inr ⟨rF,rfl⟩) (by assumption) ?_
  try simp only[Act.put,List.setIfInBounds_toArray,List.set_cons_zero,List.set_cons_succ]
  refine wpAnyH_take (i:=14) (v:=undef) (by simp only[List.getElem?_toArray,List.getElem?_cons_succ,List.getElem?_cons_zero];rfl) kR kR kR (by exact fun _ _ _ h=>h) (Or.inr ⟨rF,rfl⟩) (by assumption) ?_
  try simp only[Act.put,List.setIfInBounds_toArray,List.set_cons_zero,List.set_cons_succ]
  refine wpAnyH_take (i:=15) (v:=undef) (by simp only[List.getElem?_toArray,List.getElem?_cons_succ,List.getElem?_cons_zero];rfl) kR kR kR (by exact fun _ _ _ h=>h) (Or.inr ⟨rF,rfl⟩) (by assumption) ?_
  try simp only[Act.put,List.setIfInBounds_toArray,List.set_cons_zero,List.set_cons_succ]
  refine wpAnyH_take (i:=16) (v:=undef) (by simp only[List.getElem?_toArray,List.getElem?_cons_succ,List.getElem?_cons_zero];rfl) kR kR kR (by exact fun _ _ _ h=>h) (Or.inr ⟨rF,rfl⟩) (by assumption) ?_
  try simp only[Act.put,List.setIfInBounds_toArray,List.set_cons_zero,List.set_cons_succ]
  refine wpAnyH_take (i:=17) (v:=undef) (by simp only[List.getElem?_toArray,List.getElem?_cons_succ,List.getElem?_cons_zero];rfl) kR kR kR (by exact fun _ _ _ h=>h) (Or.inr ⟨rF,rfl⟩) (by assumption) ?_
  try simp only[Act.put,List.setIfInBounds_toArray,List.set_cons_zero,List.set_cons_succ]
  refine wpAnyH_take (i:=18) (v:=undef) (by simp only[List.getElem?_toArray,List.getElem?_cons_succ,List.getElem?_cons_zero];rfl) kR kR kR (by exact fun _ _ _ h=>h) (Or.inr ⟨rF,rfl⟩) (by assumption) ?_
  try simp only[Act.put,List.setIfInBounds_toArray,List.set_cons_zero,List.set_cons_succ]
  refine wpAnyH_take (i:=19) (v:=undef) (by simp only[List.getElem?_toArray,List.getElem?_cons_succ,List.getElem?_cons_zero];rfl) kR kR kR (by exact fun _ _ _ h=>h) (Or.inr ⟨rF,rfl⟩) (by assumption) ?_
  try simp only[Act.put,List.setIfInBounds_toArray,List.set_cons_zero,List.set_cons_succ]
  refine wpAnyH_take (i:=20) (v:=undef) (by simp only[List.getElem?_toArray,List.getElem?_cons_succ,List.getElem?_cons_zero];rfl) kR kR kR (by exact fun _ _ _ h=>h) (Or.inr ⟨rF,rfl⟩) (by assumption) ?_
  try simp only[Act.put,List.setIfInBounds_toArray,List.set_cons_zero,List.set_cons_succ]
  refine wpAnyH_take (i:=21) (v:=?_) (by simp only[List.getElem?_toArray,List.getElem?_cons_succ,List.getElem?_cons_zero];rfl) kR kR kR (by exact fun _ _ _ h=>h) (Or.inl ⟨rF,?_⟩) (by assumption) ?_
  rotate_left 1
  ·(intro wS hSw;(try dsimp only at hSw);go_simp;try(with_reducible rfl))
  try simp only[Act.put,List.setIfInBounds_toArray,List.set_cons_zero,List.set_cons_succ]
  refine wpAnyH_take (i:=22) (v:=?_) (by simp only[List.getElem?_toArray,List.getElem?_cons_succ,List.getElem?_cons_zero];rfl) kR kR kR (by exact fun _ _ _ h=>h) (Or.inl ⟨rF,?_⟩) (by assumption) ?_
  rotate_left 1
  ·(intro wS hSw;(try dsimp only at hSw);go_simp;try(with_reducible rfl))
  try simp only[Act.put,List.setIfInBounds_toArray,List.set_cons_zero,List.set_cons_succ]
  refine wpAnyH_done kR ?_ _
  go_wp2
  go_ret
  exact⟨A9 HQF.out,Br hbt⟩
 .have HLT:Hid (¬0<=n):=hn0
  clear hpl hpl' hn0
  go_wp2
  refine rG (fun v=>v.cell? ⟨w.heap.size,2,none⟩=some (.slice p2 n2 q2)/\v.cell? ⟨w.heap.size+1,5,none⟩=some (.int .i64 n)) fun hJ=>?_
  refine wpAnyH_take (i:=0) (v:=?_) (by simp only[List.getElem?_toArray,List.getElem?_cons_succ,List.getElem?_cons_zero];rfl) kR kR kR (by exact fun _ _ _ h=>h) (Or.inl ⟨rF,?_⟩) (by assumption) ?_
  rotate_left 1
  ·(intro wS hSw;(try dsimp only at hSw);go_simp;try(with_reducible rfl))
  try simp only[Act.put,List.setIfInBounds_toArray,List.set_cons_zero,List.set_cons_succ]
  refine wpAnyH_take (i:=1) (v:=?_) (by simp only[List.getElem?_toArray,List.getElem?_cons_succ,List.getElem?_cons_zero];rfl) kR kR kR (by exact fun _ _ _ h=>h) (Or.inl ⟨rF,?_⟩) (by assumption) ?_
  rotate_left 1
  ·(intro wS hSw;(try dsimp only at hSw);go_simp;try(with_reducible rfl))
  try simp only[Act.put,List.setIfInBounds_toArray,List.set_cons_zero,List.set_cons_succ]
  refine wpAnyH_take (i:=2) (v:=.bool false) (by simp only[List.getElem?_toArray,List.getElem?_cons_succ,List.getElem?_cons_zero];rfl) kR kR kR (by exact fun _ _ _ h=>h) (Or.inl ⟨rF,?_⟩) (by assumption) ?_
  ·(intro wS hSw;(try dsimp only at hSw);have hltF:=HLT.out;go_simp;first|done|rfl|omega|(simp;omega)|simp[hltF])
  try simp only[Act.put,List.setIfInBounds_toArray,List.set_cons_zero,List.set_cons_succ]
  refine wpAnyH_take (i:=3) (v:=?_) (by simp only[List.getElem?_toArray,List.getElem?_cons_succ,List.getElem?_cons_zero];rfl) kR kR kR (by exact fun _ _ _ h=>h) (Or.inl ⟨rF,?_⟩) (by assumption) ?_
  rotate_left 1
  ·(intro wS hSw;(try dsimp only at hSw);go_simp;try(with_reducible rfl))
  try simp only[Act.put,List.setIfInBounds_toArray,List.set_cons_zero,List.set_cons_succ]
  refine wpAnyH_take (i:=4) (v:=undef) (by simp only[List.getElem?_toArray,List.getElem?_cons_succ,List.getElem?_cons_zero];rfl) kR kR kR (by exact fun _ _ _ h=>h) (Or.inr ⟨rF,rfl⟩) (by assumption) ?_
  try simp only[Act.put,List.setIfInBounds_toArray,List.set_cons_zero,List.set_cons_succ]
  refine wpAnyH_take (i:=5) (v:=undef) (by simp only[List.getElem?_toArray,List.getElem?_cons_succ,List.getElem?_cons_zero];rfl) kR kR kR (by exact fun _ _ _ h=>h) (Or.inr ⟨rF,rfl⟩) (by assumption) ?_
  try simp only[Act.put,List.setIfInBounds_toArray,List.set_cons_zero,List.set_cons_succ]
  refine wpAnyH_take (i:=6) (v:=undef) (by simp only[List.getElem?_toArray,List.getElem?_cons_succ,List.getElem?_cons_zero];rfl) kR kR kR (by exact fun _ _ _ h=>h) (Or.inr ⟨rF,rfl⟩) (by assumption) ?_
  try simp only[Act.put,List.setIfInBounds_toArray,List.set_cons_zero,List.set_cons_succ]
  refine wpAnyH_take (i:=7) (v:=undef) (by simp only[List.getElem?_toArray,List.getElem?_cons_succ,List.getElem?_cons_zero];rfl) kR kR kR (by exact fun _ _ _ h=>h) (Or.inr ⟨rF,rfl⟩) (by assumption) ?_
  try simp only[Act.put,List.setIfInBounds_toArray,List.set_cons_zero,List.set_cons_succ]
  refine wpAnyH_take (i:=8) (v:=undef) (by simp only[List.getElem?_toArray,List.getElem?_cons_succ,List.getElem?_cons_zero];rfl) kR kR kR (by exact fun _ _ _ h=>h) (Or.inr ⟨rF,rfl⟩) (by assumption) ?_
  try simp only[Act.put,List.setIfInBounds_toArray,List.set_cons_zero,List.set_cons_succ]
  refine wpAnyH_take (i:=9) (v:=undef) (by simp only[List.getElem?_toArray,List.getElem?_cons_succ,List.getElem?_cons_zero];rfl) kR kR kR (by exact fun _ _ _ h=>h) (Or.inr ⟨rF,rfl⟩) (by assumption) ?_
  try simp only[Act.put,List.setIfInBounds_toArray,List.set_cons_zero,List.set_cons_succ]
  refine wpAnyH_take (i:=10) (v:=?_) (by simp only[List.getElem?_toArray,List.getElem?_cons_succ,List.getElem?_cons_zero];rfl) kR kR kR (by exact fun _ _ _ h=>h) (Or.inl ⟨rF,?_⟩) (by assumption) ?_
  rotate_left 1
  ·(intro wS hSw;(try dsimp only at hSw);go_simp;try(with_reducible rfl))
  try simp only[Act.put,List.setIfInBounds_toArray,List.set_cons_zero,List.set_cons_succ]
  refine wpAnyH_take (i:=11) (v:=?_) (by simp only[List.getElem?_toArray,List.getElem?_cons_succ,List.getElem?_cons_zero];rfl) kR kR kR (by exact fun _ _ _ h=>h) (Or.inl ⟨rF,?_⟩) (by assumption) ?_
  rotate_left 1
  ·(intro wS hSw;(try dsimp only at hSw);go_simp;try(with_reducible rfl))
  try simp only[Act.put,List.setIfInBounds_toArray,List.set_cons_zero,List.set_cons_succ]
  refine wpAnyH_take (i:=12) (v:=undef) (by simp only[List.getElem?_toArray,List.getElem?_cons_succ,List.getElem?_cons_zero];rfl) kR kR kR (by exact fun _ _ _ h=>h) (Or.inr ⟨rF,rfl⟩) (by assumption) ?_
  try simp only[Act.put,List.setIfInBounds_toArray,List.set_cons_zero,List.set_cons_succ]
  refine wpAnyH_take (i:=13) (v:=undef) (by simp only[List.getElem?_toArray,List.getElem?_cons_succ,List.getElem?_cons_zero];rfl) kR kR kR (by exact fun _ _ _ h=>h) (Or.inr ⟨rF,rfl⟩) (by assumption) ?_
  try simp only[Act.put,List.setIfInBounds_toArray,List.set_cons_zero,List.set_cons_succ]
  refine wpAnyH_take (i:=14) (v:=undef) (by simp only[List.getElem?_toArray,List.getElem?_cons_succ,List.getElem?_cons_zero];rfl) kR kR kR (by exact fun _ _ _ h=>h) (Or.inr ⟨rF,rfl⟩) (by assumption) ?_
  try simp only[Act.put,List.setIfInBounds_toArray,List.set_cons_zero,List.set_cons_succ]
  refine wpAnyH_take (i:=15) (v:=undef) (by simp only[List.getElem?_toArray,List.getElem?_cons_succ,List.getElem?_cons_zero];rfl) kR kR kR (by exact fun _ _ _ h=>h) (Or.inr ⟨rF,rfl⟩) (by assumption) ?_
  try simp only[Act.put,List.setIfInBounds_toArray,List.set_cons_zero,List.set_cons_succ]
  refine wpAnyH_take (i:=16) (v:=undef) (by simp only[List.getElem?_toArray,List.getElem?_cons_succ,List.getElem?_cons_zero];rfl) kR kR kR (by exact fun _ _ _ h=>h) (Or.inr ⟨rF,rfl⟩) (by assumption) ?_
  try simp only[Act.put,List.setIfInBounds_toArray,List.set_cons_zero,List.set_cons_succ]
  refine wpAnyH_take (i:=17) (v:=undef) (by simp only[List.getElem?_toArray,List.getElem?_cons_succ,List.getElem?_cons_zero];rfl) kR kR kR (by exact fun _ _ _ h=>h) (Or.inr ⟨rF,rfl⟩) (by assumption) ?_
  try simp only[Act.put,List.setIfInBounds_toArray,List.set_cons_zero,List.set_cons_succ]
  refine wpAnyH_take (i:=18) (v:=undef) (by simp only[List.getElem?_toArray,List.getElem?_cons_succ,List.getElem?_cons_zero];rfl) kR kR kR (by exact fun _ _ _ h=>h) (Or.inr ⟨rF,rfl⟩) (by assumption) ?_
  try simp only[Act.put,List.setIfInBounds_toArray,List.set_cons_zero,List.set_cons_succ]
  refine wpAnyH_take (i:=19) (v:=undef) (by simp only[List.getElem?_toArray,List.getElem?_cons_succ,List.getElem?_cons_zero];rfl) kR kR kR (by exact fun _ _ _ h=>h) (Or.inr ⟨rF,rfl⟩) (by assumption) ?_
  try simp only[Act.put,List.setIfInBounds_toArray,List.set_cons_zero,List.set_cons_succ]
  refine wpAnyH_take (i:=20) (v:=undef) (by simp only[List.getElem?_toArray,List.getElem?_cons_succ,List.getElem?_cons_zero];rfl) kR kR kR (by exact fun _ _ _ h=>h) (Or.inr ⟨rF,rfl⟩) (by assumption) ?_
  try simp only[Act.put,List.setIfInBounds_toArray,List.set_cons_zero,List.set_cons_succ]
  refine wpAnyH_take (i:=21) (v:=?_) (by simp only[List.getElem?_toArray,List.getElem?_cons_succ,List.getElem?_cons_zero];rfl) kR kR kR (by exact fun _ _ _ h=>h) (Or.inl ⟨rF,?_⟩) (by assumption) ?_
  rotate_left 1
  ·(intro wS hSw;(try dsimp only at hSw);go_simp;try(with_reducible rfl))
  try simp only[Act.put,List.setIfInBounds_toArray,List.set_cons_zero,List.set_cons_succ]
  refine wpAnyH_take (i:=22) (v:=?_) (by simp only[List.getElem?_toArray,List.getElem?_cons_succ,List.getElem?_cons_zero];rfl) kR kR kR (by exact fun _ _ _ h=>h) (Or.inl ⟨rF,?_⟩) (by assumption) ?_
  rotate_left 1
  ·(intro wS hSw;(try dsimp only at hSw);go_simp;try(with_reducible rfl))
  try simp only[Act.put,List.setIfInBounds_toArray,List.set_cons_zero,List.set_cons_succ]
  refine wpAnyH_done kR ?_ _
  go_wp2
  go_ret
  exact⟨A9 HQF.out,Br hbt⟩):p:=h
theorem JZ{p:Prop}(h:p:=by
 refine rG (fun v=>v.cell? ⟨C,1,none⟩=some (.slice (some ⟨bb,oo,none⟩) RL q1)/\v.cell? ⟨B,O+1,none⟩=some (.int .i64 (R:Int))/\v.cell? ⟨bb,oo+R*2,none⟩=some (.int .i64 TY.kind)/\v.cell? ⟨bb,oo+R*2+1,none⟩=some (.int .i64 TY.par)) fun hJ=>?_
 refine wpAnyH_take (i:=0) (v:=?_) (by simp only[List.getElem?_toArray,List.getElem?_cons_succ,List.getElem?_cons_zero];rfl) kR kR kR (by exact fun _ _ _ h=>h) (Or.inl ⟨rF,?_⟩) (by assumption) ?_
 rotate_left 1
 ·(intro wS hSw;(try dsimp only at hSw);go_simp;try(with_reducible rfl))
 try simp only[Act.put,List.setIfInBounds_toArray,List.set_cons_zero,List.set_cons_succ]
 refine wpAnyH_take (i:=1) (v:=?_) (by simp only[List.getElem?_toArray,List.getElem?_cons_succ,List.getElem?_cons_zero];rfl) kR kR kR (by exact fun _ _ _ h=>h) (Or.inl ⟨rF,?_⟩) (by assumption) ?_
 rotate_left 1
 ·(intro wS hSw;(try dsimp only at hSw);go_simp;try(with_reducible rfl))
 try simp only[Act.put,List.setIfInBounds_toArray,List.set_cons_zero,List.set_cons_succ]
 refine wpAnyH_take (i:=2) (v:=?_) (by simp only[List.getElem?_toArray,List.getElem?_cons_succ,List.getElem?_cons_zero];rfl) kR kR kR (by exact fun _ _ _ h=>h) (Or.inl ⟨rF,?_⟩) (by assumption) ?_
 rotate_left 1
 ·(intro wS hSw;(try dsimp only at hSw);go_simp;try(with_reducible rfl))
 try simp only[Act.put,List.setIfInBounds_toArray,List.set_cons_zero,List.set_cons_succ]
 refine wpAnyH_take (i:=3) (v:=?_) (by simp only[List.getElem?_toArray,List.getElem?_cons_succ,List.getElem?_cons_zero];rfl) kR kR kR (by exact fun _ _ _ h=>h) (Or.inl ⟨rF,?_⟩) (by assumption) ?_
 rotate_left 1
 ·(intro wS hSw;(try dsimp only at hSw);go_simp;try(with_reducible rfl))
 try simp only[Act.put,List.setIfInBounds_toArray,List.set_cons_zero,List.set_cons_succ]
 refine wpAnyH_take (i:=4) (v:=?_) (by simp only[List.getElem?_toArray,List.getElem?_cons_succ,List.getElem?_cons_zero];rfl) kR kR kR (by exact fun _ _ _ h=>h) (Or.inl ⟨rF,?_⟩) (by assumption) ?_
 rotate_left 1
 ·(intro wS hSw;(try dsimp only at hSw);go_simp;try(with_reducible rfl))
 try simp only[Act.put,List.setIfInBounds_toArray,List.set_cons_zero,List.set_cons_succ]
 refine wpAnyH_take (i:=5) (v:=?_) (by simp only[List.getElem?_toArray,List.getElem?_cons_succ,List.getElem?_cons_zero];rfl) kR kR kR (by exact fun _ _ _ h=>h) (Or.inl ⟨rF,?_⟩) (by assumption) ?_
 rotate_left 1
 ·(intro wS hSw;(try dsimp only at hSw);go_simp;try(with_reducible rfl))
 try simp only[Act.put,List.setIfInBounds_toArray,List.set_cons_zero,List.set_cons_succ]
 refine wpAnyH_take (i:=6) (v:=?_) (by simp only[List.getElem?_toArray,List.getElem?_cons_succ,List.getElem?_cons_zero];rfl) kR kR kR (by exact fun _ _ _ h=>h) (Or.inl ⟨rF,?_⟩) (by assumption) ?_
 rotate_left 1
 ·(intro wS hSw;(try dsimp only at hSw);go_simp;try(with_reducible rfl))
 try simp only[Act.put,List.setIfInBounds_toArray,List.set_cons_zero,List.set_cons_succ]
 refine wpAnyH_take (i:=7) (v:=?_) (by simp only[List.getElem?_toArray,List.getElem?_cons_succ,List.getElem?_cons_zero];rfl) kR kR kR (by exact fun _ _ _ h=>h) (Or.inl ⟨rF,?_⟩) (by assumption) ?_
 rotate_left 1
 ·(intro wS hSw;(try dsimp only at hSw);go_simp;try(with_reducible rfl))
 try simp only[Act.put,List.setIfInBounds_toArray,List.set_cons_zero,List.set_cons_succ]
 refine wpAnyH_take (i:=8) (v:=?_) (by simp only[List.getElem?_toArray,List.getElem?_cons_succ,List.getElem?_cons_zero];rfl) kR kR kR (by exact fun _ _ _ h=>h) (Or.inl ⟨rF,?_⟩) (by assumption) ?_
 rotate_left 1
 ·(intro wS hSw;(try dsimp only at hSw);go_simp;try(with_reducible rfl))
 try simp only[Act.put,List.setIfInBounds_toArray,List.set_cons_zero,List.set_cons_succ]
 refine wpAnyH_take (i:=9) (v:=?_) (by simp only[List.getElem?_toArray,List.getElem?_cons_succ,List.getElem?_cons_zero];rfl) kR kR kR (by exact fun _ _ _ h=>h) (Or.inl ⟨rF,?_⟩) (by assumption) ?_
 rotate_left 1
 ·(intro wS hSw;(try dsimp only at hSw);go_simp;try(with_reducible rfl))
 try simp only[Act.put,List.setIfInBounds_toArray,List.set_cons_zero,List.set_cons_succ]
 refine wpAnyH_take (i:=10) (v:=?_) (by simp only[List.getElem?_toArray,List.getElem?_cons_succ,List.getElem?_cons_zero];rfl) kR kR kR (by exact fun _ _ _ h=>h) (Or.inl ⟨rF,?_⟩) (by assumption) ?_
 rotate_left 1
 ·(intro wS hSw;(try dsimp only at hSw);go_simp;try(with_reducible rfl))
 try simp only[Act.put,List.setIfInBounds_toArray,List.set_cons_zero,List.set_cons_succ]
 clear hJ
 refine AO 11 fun K hK=>?_
 go_simp
 (go_at_call 30;(with_reducible refine KWW.out.mono ?_);rintro r9 w8 ⟨rfl,hb8⟩;have c81:=kc hb8 c1;have x8:=kc hb8 x1;have t80:=kc hb8 t0;have t81:=kc hb8 t1;have HB8:=A8 (HBWW.out.trans (hb8.mono HBWW.out.size));clear hb8)
 try(go_wp2_with fail)
 refine AP hK fun hJ=>?_
 clear hK K
 refine wpAnyH_take (i:=12) (v:=?_) (by simp only[List.getElem?_toArray,List.getElem?_cons_succ,List.getElem?_cons_zero];rfl) kR kR kR (by exact fun _ _ _ h=>h) (Or.inl ⟨rF,?_⟩) (by assumption) ?_
 rotate_left 1
 ·(intro wS hSw;(try dsimp only at hSw);go_simp;try(with_reducible rfl))
 try simp only[Act.put,List.setIfInBounds_toArray,List.set_cons_zero,List.set_cons_succ]
 refine wpAnyH_done kR ?_ _
 go_wp2_with fail
 refine bodyPost_ret (by simp[results,results22,go_sem, *];try rfl) rfl ?_
 exact⟨rfl,HB8.out⟩):p:=h
theorem Lg{p:Prop}(h:p:=by
 go_wp2
 refine rG (fun v=>v.cell? ⟨b,o,none⟩=some (.int .i64 io)/\v.cell? ⟨b,o+5,none⟩=some (.int .i64 N)/\v.cell? ⟨G,2,none⟩=some (.slice pS s.set.length cS)) fun hJ=>?_
 refine wpAnyH_take (i:=0) (v:=?_) (by simp only[List.getElem?_toArray,List.getElem?_cons_succ,List.getElem?_cons_zero];rfl) kR kR kR (by exact fun _ _ _ h=>h) (Or.inl ⟨rF,?_⟩) (by assumption) ?_
 rotate_left 1
 ·(intro wS hSw;(try dsimp only at hSw);go_simp;try(with_reducible rfl))
 try simp only[Act.put,List.setIfInBounds_toArray,List.set_cons_zero,List.set_cons_succ]
 refine wpAnyH_take (i:=1) (v:=?_) (by simp only[List.getElem?_toArray,List.getElem?_cons_succ,List.getElem?_cons_zero];rfl) kR kR kR (by exact fun _ _ _ h=>h) (Or.inl ⟨rF,?_⟩) (by assumption) ?_
 rotate_left 1
 ·(intro wS hSw;(try dsimp only at hSw);go_simp;try(with_reducible rfl))
 try simp only[Act.put,List.setIfInBounds_toArray,List.set_cons_zero,List.set_cons_succ]
 refine wpAnyH_take (i:=2) (v:=?_) (by simp only[List.getElem?_toArray,List.getElem?_cons_succ,List.getElem?_cons_zero];rfl) kR kR kR (by exact fun _ _ _ h=>h) (Or.inl ⟨rF,?_⟩) (by assumption) ?_
 rotate_left 1
 ·(intro wS hSw;(try dsimp only at hSw);go_simp;try(with_reducible rfl))
 try simp only[Act.put,List.setIfInBounds_toArray,List.set_cons_zero,List.set_cons_succ]
 refine wpAnyH_take (i:=3) (v:=?_) (by simp only[List.getElem?_toArray,List.getElem?_cons_succ,List.getElem?_cons_zero];rfl) kR kR kR (by exact fun _ _ _ h=>h) (Or.inl ⟨rF,?_⟩) (by assumption) ?_
 rotate_left 1
 ·(intro wS hSw;(try dsimp only at hSw);go_simp;try(with_reducible rfl))
 try simp only[Act.put,List.setIfInBounds_toArray,List.set_cons_zero,List.set_cons_succ]
 refine wpAnyH_take (i:=5) (v:=?_) (by simp only[List.getElem?_toArray,List.getElem?_cons_succ,List.getElem?_cons_zero];rfl) kR kR kR (by exact fun _ _ _ h=>h) (Or.inl ⟨rF,?_⟩) (by assumption) ?_
 rotate_left 1
 ·(intro wS hSw;(try dsimp only at hSw);go_simp;try(with_reducible rfl))
 try simp only[Act.put,List.setIfInBounds_toArray,List.set_cons_zero,List.set_cons_succ]
 refine wpAnyH_take (i:=6) (v:=?_) (by simp only[List.getElem?_toArray,List.getElem?_cons_succ,List.getElem?_cons_zero];rfl) kR kR kR (by exact fun _ _ _ h=>h) (Or.inl ⟨rF,?_⟩) (by assumption) ?_
 rotate_left 1
 ·(intro wS hSw;(try dsimp only at hSw);go_simp;try(with_reducible rfl))
 try simp only[Act.put,List.setIfInBounds_toArray,List.set_cons_zero,List.set_cons_succ]
 refine wpAnyH_take (i:=7) (v:=?_) (by simp only[List.getElem?_toArray,List.getElem?_cons_succ,List.getElem?_cons_zero];rfl) kR kR kR (by exact fun _ _ _ h=>h) (Or.inl ⟨rF,?_⟩) (by assumption) ?_
 rotate_left 1
 ·(intro wS hSw;(try dsimp only at hSw);go_simp;try(with_reducible rfl))
 try simp only[Act.put,List.setIfInBounds_toArray,List.set_cons_zero,List.set_cons_succ]
 refine wpAnyH_take (i:=8) (v:=?_) (by simp only[List.getElem?_toArray,List.getElem?_cons_succ,List.getElem?_cons_zero];rfl) kR kR kR (by exact fun _ _ _ h=>h) (Or.inl ⟨rF,?_⟩) (by assumption) ?_
 rotate_left 1
 ·(intro wS hSw;(try dsimp only at hSw);go_simp;try(with_reducible rfl))
 try simp only[Act.put,List.setIfInBounds_toArray,List.set_cons_zero,List.set_cons_succ]
 refine wpAnyH_take (i:=9) (v:=?_) (by simp only[List.getElem?_toArray,List.getElem?_cons_succ,List.getElem?_cons_zero];rfl) kR kR kR (by exact fun _ _ _ h=>h) (Or.inl ⟨rF,?_⟩) (by assumption) ?_
 rotate_left 1
 ·(intro wS hSw;(try dsimp only at hSw);go_simp;try(with_reducible rfl))
 try simp only[Act.put,List.setIfInBounds_toArray,List.set_cons_zero,List.set_cons_succ]
 refine wpAnyH_take (i:=10) (v:=?_) (by simp only[List.getElem?_toArray,List.getElem?_cons_succ,List.getElem?_cons_zero];rfl) kR kR kR (by exact fun _ _ _ h=>h) (Or.inl ⟨rF,?_⟩) (by assumption) ?_
 rotate_left 1
 ·(intro wS hSw;(try dsimp only at hSw);go_simp;try(with_reducible rfl))
 try simp only[Act.put,List.setIfInBounds_toArray,List.set_cons_zero,List.set_cons_succ]
 refine wpAnyH_take (i:=11) (v:=?_) (by simp only[List.getElem?_toArray,List.getElem?_cons_succ,List.getElem?_cons_zero];rfl) kR kR kR (by exact fun _ _ _ h=>h) (Or.inl ⟨rF,?_⟩) (by assumption) ?_
 rotate_left 1
 ·(intro wS hSw;(try dsimp only at hSw);go_simp;try(with_reducible rfl))
 try simp only[Act.put,List.setIfInBounds_toArray,List.set_cons_zero,List.set_cons_succ]
 refine wpAnyH_take (i:=12) (v:=?_) (by simp only[List.getElem?_toArray,List.getElem?_cons_succ,List.getElem?_cons_zero];rfl) kR kR kR (by exact fun _ _ _ h=>h) (Or.inl ⟨rF,?_⟩) (by assumption) ?_
 rotate_left 1
 ·(intro wS hSw;(try dsimp only at hSw);go_simp;try(with_reducible rfl))
 try simp only[Act.put,List.setIfInBounds_toArray,List.set_cons_zero,List.set_cons_succ]
 refine wpAnyH_take (i:=13) (v:=?_) (by simp only[List.getElem?_toArray,List.getElem?_cons_succ,List.getElem?_cons_zero];rfl) kR kR kR (by exact fun _ _ _ h=>h) (Or.inl ⟨rF,?_⟩) (by assumption) ?_
 rotate_left 1
 ·(intro wS hSw;(try dsimp only at hSw);go_simp;try(with_reducible rfl))
 try simp only[Act.put,List.setIfInBounds_toArray,List.set_cons_zero,List.set_cons_succ]
 refine wpAnyH_take (i:=14) (v:=?_) (by simp only[List.getElem?_toArray,List.getElem?_cons_succ,List.getElem?_cons_zero];rfl) kR kR kR (by exact fun _ _ _ h=>h) (Or.inl ⟨rF,?_⟩) (by assumption) ?_
 rotate_left 1
 ·(intro wS hSw;(try dsimp only at hSw);go_simp;try(with_reducible rfl))
 try simp only[Act.put,List.setIfInBounds_toArray,List.set_cons_zero,List.set_cons_succ]
 refine wpAnyH_take (i:=15) (v:=?_) (by simp only[List.getElem?_toArray,List.getElem?_cons_succ,List.getElem?_cons_zero];rfl) kR kR kR (by exact fun _ _ _ h=>h) (Or.inl ⟨rF,?_⟩) (by assumption) ?_
 rotate_left 1
 ·(intro wS hSw;(try dsimp only at hSw);go_simp;try(with_reducible rfl))
 try simp only[Act.put,List.setIfInBounds_toArray,List.set_cons_zero,List.set_cons_succ]
 refine wpAnyH_take (i:=16) (v:=?_) (by simp only[List.getElem?_toArray,List.getElem?_cons_succ,List.getElem?_cons_zero];rfl) kR kR kR (by exact fun _ _ _ h=>h) (Or.inl ⟨rF,?_⟩) (by assumption) ?_
 rotate_left 1
 ·(intro wS hSw;(try dsimp only at hSw);go_simp;try(with_reducible rfl))
 try simp only[Act.put,List.setIfInBounds_toArray,List.set_cons_zero,List.set_cons_succ]
 refine wpAnyH_take (i:=17) (v:=?_) (by simp only[List.getElem?_toArray,List.getElem?_cons_succ,List.getElem?_cons_zero];rfl) kR kR kR (by exact fun _ _ _ h=>h) (Or.inl ⟨rF,?_⟩) (by assumption) ?_
 rotate_left 1
 ·(intro wS hSw;(try dsimp only at hSw);go_simp;try(with_reducible rfl))
 try simp only[Act.put,List.setIfInBounds_toArray,List.set_cons_zero,List.set_cons_succ]
 refine wpAnyH_take (i:=18) (v:=?_) (by simp only[List.getElem?_toArray,List.getElem?_cons_succ,List.getElem?_cons_zero];rfl) kR kR kR (by exact fun _ _ _ h=>h) (Or.inl ⟨rF,?_⟩) (by assumption) ?_
 rotate_left 1
 ·(intro wS hSw;(try dsimp only at hSw);go_simp;try(with_reducible rfl))
 try simp only[Act.put,List.setIfInBounds_toArray,List.set_cons_zero,List.set_cons_succ]
 refine wpAnyH_take (i:=19) (v:=?_) (by simp only[List.getElem?_toArray,List.getElem?_cons_succ,List.getElem?_cons_zero];rfl) kR kR kR (by exact fun _ _ _ h=>h) (Or.inl ⟨rF,?_⟩) (by assumption) ?_
 rotate_left 1
 ·(intro wS hSw;(try dsimp only at hSw);go_simp;try(with_reducible rfl))
 try simp only[Act.put,List.setIfInBounds_toArray,List.set_cons_zero,List.set_cons_succ]
 clear hJ
 refine wpAnyH_ready (rs:=[4,20]) kR sM ?_
 refine Kp 4 (fun K hK=>?_) ?_
 .go_simp
  refine AP hK fun hJ=>?_
  clear hK K
  clear hJ
  refine AO 20 fun K hK=>?_
  go_simp
  refine AP hK fun hJ=>?_
  clear hK K
  clear hJ
  refine AO 21 fun K hK=>?_
  refine Dv rF _ _ _ rF _ _ _ rF rF HR3.out ?_
  refine AP hK fun hJ=>?_
  clear hK K
  refine wpAnyH_take (i:=22) (v:=?_) (by simp only[List.getElem?_toArray,List.getElem?_cons_succ,List.getElem?_cons_zero];rfl) kR kR kR (by exact fun _ _ _ h=>h) (Or.inl ⟨rF,?_⟩) (by assumption) ?_
  rotate_left 1
  ·(intro wS hSw;(try dsimp only at hSw);go_simp;try(with_reducible rfl))
  try simp only[Act.put,List.setIfInBounds_toArray,List.set_cons_zero,List.set_cons_succ]
  refine wpAnyH_take (i:=23) (v:=?_) (by simp only[List.getElem?_toArray,List.getElem?_cons_succ,List.getElem?_cons_zero];rfl) kR kR kR (by exact fun _ _ _ h=>h) (Or.inl ⟨rF,?_⟩) (by assumption) ?_
  rotate_left 1
  ·(intro wS hSw;(try dsimp only at hSw);go_simp;try(with_reducible rfl))
  try simp only[Act.put,List.setIfInBounds_toArray,List.set_cons_zero,List.set_cons_succ]
  clear hJ
  refine AO 24 fun K hK=>?_
  go_simp
  refine AP hK fun hJ=>?_
  clear hK K
  refine wpAnyH_done kR ?_ _
  go_wp2
  go_meet
  exact⟨_,_,HP.out⟩
 refine Kp 20 (fun K hK=>?_) AllReadyH.nil
 go_simp
 refine AP hK fun hJ=>?_
 clear hK K
 clear hJ
 refine AO 4 fun K hK=>?_
 go_simp
 refine AP hK fun hJ=>?_
 clear hK K
 clear hJ
 refine AO 21 fun K hK=>?_
 refine Dv rF _ _ _ rF _ _ _ rF rF HR3.out ?_
 refine AP hK fun hJ=>?_
 clear hK K
 refine wpAnyH_take (i:=22) (v:=?_) (by simp only[List.getElem?_toArray,List.getElem?_cons_succ,List.getElem?_cons_zero];rfl) kR kR kR (by exact fun _ _ _ h=>h) (Or.inl ⟨rF,?_⟩) (by assumption) ?_
 rotate_left 1
 ·(intro wS hSw;(try dsimp only at hSw);go_simp;try(with_reducible rfl))
 try simp only[Act.put,List.setIfInBounds_toArray,List.set_cons_zero,List.set_cons_succ]
 refine wpAnyH_take (i:=23) (v:=?_) (by simp only[List.getElem?_toArray,List.getElem?_cons_succ,List.getElem?_cons_zero];rfl) kR kR kR (by exact fun _ _ _ h=>h) (Or.inl ⟨rF,?_⟩) (by assumption) ?_
 rotate_left 1
 ·(intro wS hSw;(try dsimp only at hSw);go_simp;try(with_reducible rfl))
 try simp only[Act.put,List.setIfInBounds_toArray,List.set_cons_zero,List.set_cons_succ]
 clear hJ
 refine AO 24 fun K hK=>?_
 go_simp
 refine AP hK fun hJ=>?_
 clear hK K
 refine wpAnyH_done kR ?_ _
 go_wp2
 go_meet
 exact⟨_,_,HP.out⟩):p:=h
theorem Lh{p:Prop}(h:p:=by
 obtain rfl:=hps
 go_wp2
 refine rG (fun v=>v.cell? ⟨w.heap.size,2,none⟩=some (.slice (some ⟨lb9,lo9,none⟩) n2 q2)/\v.cell? ⟨w.heap.size+1,5,none⟩=some (.int .i64 (k:Int))/\v.cell? ⟨lb9,lo9+k*5,none⟩=some (.int .i64 sk)/\v.cell? ⟨lb9,lo9+k*5+1,none⟩=some (.int .i64 sp)/\v.cell? ⟨w5.heap.size,0,none⟩=some (.int .i64 sk)/\v.cell? ⟨w5.heap.size,1,none⟩=some (.int .i64 sp)) fun hJ=>?_
 refine wpAnyH_take (i:=0) (v:=?_) (by simp only[List.getElem?_toArray,List.getElem?_cons_succ,List.getElem?_cons_zero];rfl) kR kR kR (by exact fun _ _ _ h=>h) (Or.inl ⟨rF,?_⟩) (by assumption) ?_
 rotate_left 1
 ·(intro wS hSw;(try dsimp only at hSw);go_simp;try(with_reducible rfl))
 try simp only[Act.put,List.setIfInBounds_toArray,List.set_cons_zero,List.set_cons_succ]
 refine wpAnyH_take (i:=1) (v:=?_) (by simp only[List.getElem?_toArray,List.getElem?_cons_succ,List.getElem?_cons_zero];rfl) kR kR kR (by exact fun _ _ _ h=>h) (Or.inl ⟨rF,?_⟩) (by assumption) ?_
 rotate_left 1
 ·(intro wS hSw;(try dsimp only at hSw);go_simp;try(with_reducible rfl))
 try simp only[Act.put,List.setIfInBounds_toArray,List.set_cons_zero,List.set_cons_succ]
 refine wpAnyH_take (i:=2) (v:=?_) (by simp only[List.getElem?_toArray,List.getElem?_cons_succ,List.getElem?_cons_zero];rfl) kR kR kR (by exact fun _ _ _ h=>h) (Or.inl ⟨rF,?_⟩) (by assumption) ?_
 rotate_left 1
 ·(intro wS hSw;(try dsimp only at hSw);go_simp;try(with_reducible rfl))
 try simp only[Act.put,List.setIfInBounds_toArray,List.set_cons_zero,List.set_cons_succ]
 refine wpAnyH_take (i:=3) (v:=?_) (by simp only[List.getElem?_toArray,List.getElem?_cons_succ,List.getElem?_cons_zero];rfl) kR kR kR (by exact fun _ _ _ h=>h) (Or.inl ⟨rF,?_⟩) (by assumption) ?_
 rotate_left 1
 ·(intro wS hSw;(try dsimp only at hSw);go_simp;try(with_reducible rfl))
 try simp only[Act.put,List.setIfInBounds_toArray,List.set_cons_zero,List.set_cons_succ]
 refine wpAnyH_take (i:=4) (v:=?_) (by simp only[List.getElem?_toArray,List.getElem?_cons_succ,List.getElem?_cons_zero];rfl) kR kR kR (by exact fun _ _ _ h=>h) (Or.inl ⟨rF,?_⟩) (by assumption) ?_
 rotate_left 1
 ·(intro wS hSw;(try dsimp only at hSw);go_simp;try(with_reducible rfl))
 try simp only[Act.put,List.setIfInBounds_toArray,List.set_cons_zero,List.set_cons_succ]
 refine wpAnyH_take (i:=5) (v:=?_) (by simp only[List.getElem?_toArray,List.getElem?_cons_succ,List.getElem?_cons_zero];rfl) kR kR kR (by exact fun _ _ _ h=>h) (Or.inl ⟨rF,?_⟩) (by assumption) ?_
 rotate_left 1
 ·(intro wS hSw;(try dsimp only at hSw);go_simp;try(with_reducible rfl))
 try simp only[Act.put,List.setIfInBounds_toArray,List.set_cons_zero,List.set_cons_succ]
 refine wpAnyH_take (i:=6) (v:=?_) (by simp only[List.getElem?_toArray,List.getElem?_cons_succ,List.getElem?_cons_zero];rfl) kR kR kR (by exact fun _ _ _ h=>h) (Or.inl ⟨rF,?_⟩) (by assumption) ?_
 rotate_left 1
 ·(intro wS hSw;(try dsimp only at hSw);go_simp;try(with_reducible rfl))
 try simp only[Act.put,List.setIfInBounds_toArray,List.set_cons_zero,List.set_cons_succ]
 refine wpAnyH_take (i:=7) (v:=?_) (by simp only[List.getElem?_toArray,List.getElem?_cons_succ,List.getElem?_cons_zero];rfl) kR kR kR (by exact fun _ _ _ h=>h) (Or.inl ⟨rF,?_⟩) (by assumption) ?_
 rotate_left 1
 ·(intro wS hSw;(try dsimp only at hSw);go_simp;try(with_reducible rfl))
 try simp only[Act.put,List.setIfInBounds_toArray,List.set_cons_zero,List.set_cons_succ]
 refine wpAnyH_take (i:=8) (v:=?_) (by simp only[List.getElem?_toArray,List.getElem?_cons_succ,List.getElem?_cons_zero];rfl) kR kR kR (by exact fun _ _ _ h=>h) (Or.inl ⟨rF,?_⟩) (by assumption) ?_
 rotate_left 1
 ·(intro wS hSw;(try dsimp only at hSw);go_simp;try(with_reducible rfl))
 try simp only[Act.put,List.setIfInBounds_toArray,List.set_cons_zero,List.set_cons_succ]
 refine wpAnyH_take (i:=9) (v:=?_) (by simp only[List.getElem?_toArray,List.getElem?_cons_succ,List.getElem?_cons_zero];rfl) kR kR kR (by exact fun _ _ _ h=>h) (Or.inl ⟨rF,?_⟩) (by assumption) ?_
 rotate_left 1
 ·(intro wS hSw;(try dsimp only at hSw);go_simp;try(with_reducible rfl))
 try simp only[Act.put,List.setIfInBounds_toArray,List.set_cons_zero,List.set_cons_succ]
 refine wpAnyH_take (i:=10) (v:=?_) (by simp only[List.getElem?_toArray,List.getElem?_cons_succ,List.getElem?_cons_zero];rfl) kR kR kR (by exact fun _ _ _ h=>h) (Or.inl ⟨rF,?_⟩) (by assumption) ?_
 rotate_left 1
 ·(intro wS hSw;(try dsimp only at hSw);go_simp;try(with_reducible rfl))
 try simp only[Act.put,List.setIfInBounds_toArray,List.set_cons_zero,List.set_cons_succ]
 refine wpAnyH_take (i:=11) (v:=?_) (by simp only[List.getElem?_toArray,List.getElem?_cons_succ,List.getElem?_cons_zero];rfl) kR kR kR (by exact fun _ _ _ h=>h) (Or.inl ⟨rF,?_⟩) (by assumption) ?_
 rotate_left 1
 ·(intro wS hSw;(try dsimp only at hSw);go_simp;try(with_reducible rfl))
 try simp only[Act.put,List.setIfInBounds_toArray,List.set_cons_zero,List.set_cons_succ]
 refine wpAnyH_take (i:=12) (v:=?_) (by simp only[List.getElem?_toArray,List.getElem?_cons_succ,List.getElem?_cons_zero];rfl) kR kR kR (by exact fun _ _ _ h=>h) (Or.inl ⟨rF,?_⟩) (by assumption) ?_
 rotate_left 1
 ·(intro wS hSw;(try dsimp only at hSw);go_simp;try(with_reducible rfl))
 try simp only[Act.put,List.setIfInBounds_toArray,List.set_cons_zero,List.set_cons_succ]
 refine wpAnyH_take (i:=13) (v:=?_) (by simp only[List.getElem?_toArray,List.getElem?_cons_succ,List.getElem?_cons_zero];rfl) kR kR kR (by exact fun _ _ _ h=>h) (Or.inl ⟨rF,?_⟩) (by assumption) ?_
 rotate_left 1
 ·(intro wS hSw;(try dsimp only at hSw);go_simp;try(with_reducible rfl))
 try simp only[Act.put,List.setIfInBounds_toArray,List.set_cons_zero,List.set_cons_succ]
 refine wpAnyH_take (i:=14) (v:=?_) (by simp only[List.getElem?_toArray,List.getElem?_cons_succ,List.getElem?_cons_zero];rfl) kR kR kR (by exact fun _ _ _ h=>h) (Or.inl ⟨rF,?_⟩) (by assumption) ?_
 rotate_left 1
 ·(intro wS hSw;(try dsimp only at hSw);go_simp;try(with_reducible rfl))
 try simp only[Act.put,List.setIfInBounds_toArray,List.set_cons_zero,List.set_cons_succ]
 refine wpAnyH_take (i:=15) (v:=?_) (by simp only[List.getElem?_toArray,List.getElem?_cons_succ,List.getElem?_cons_zero];rfl) kR kR kR (by exact fun _ _ _ h=>h) (Or.inl ⟨rF,?_⟩) (by assumption) ?_
 rotate_left 1
 ·(intro wS hSw;(try dsimp only at hSw);go_simp;try(with_reducible rfl))
 try simp only[Act.put,List.setIfInBounds_toArray,List.set_cons_zero,List.set_cons_succ]
 refine wpAnyH_take (i:=16) (v:=?_) (by simp only[List.getElem?_toArray,List.getElem?_cons_succ,List.getElem?_cons_zero];rfl) kR kR kR (by exact fun _ _ _ h=>h) (Or.inl ⟨rF,?_⟩) (by assumption) ?_
 rotate_left 1
 ·(intro wS hSw;(try dsimp only at hSw);go_simp;try(with_reducible rfl))
 try simp only[Act.put,List.setIfInBounds_toArray,List.set_cons_zero,List.set_cons_succ]
 refine wpAnyH_take (i:=17) (v:=?_) (by simp only[List.getElem?_toArray,List.getElem?_cons_succ,List.getElem?_cons_zero];rfl) kR kR kR (by exact fun _ _ _ h=>h) (Or.inl ⟨rF,?_⟩) (by assumption) ?_
 rotate_left 1
 ·(intro wS hSw;(try dsimp only at hSw);go_simp;try(with_reducible rfl))
 try simp only[Act.put,List.setIfInBounds_toArray,List.set_cons_zero,List.set_cons_succ]
 refine wpAnyH_take (i:=18) (v:=?_) (by simp only[List.getElem?_toArray,List.getElem?_cons_succ,List.getElem?_cons_zero];rfl) kR kR kR (by exact fun _ _ _ h=>h) (Or.inl ⟨rF,?_⟩) (by assumption) ?_
 rotate_left 1
 ·(intro wS hSw;(try dsimp only at hSw);go_simp;try(with_reducible rfl))
 try simp only[Act.put,List.setIfInBounds_toArray,List.set_cons_zero,List.set_cons_succ]
 refine wpAnyH_take (i:=19) (v:=?_) (by simp only[List.getElem?_toArray,List.getElem?_cons_succ,List.getElem?_cons_zero];rfl) kR kR kR (by exact fun _ _ _ h=>h) (Or.inl ⟨rF,?_⟩) (by assumption) ?_
 rotate_left 1
 ·(intro wS hSw;(try dsimp only at hSw);go_simp;try(with_reducible rfl))
 try simp only[Act.put,List.setIfInBounds_toArray,List.set_cons_zero,List.set_cons_succ]
 refine wpAnyH_take (i:=20) (v:=?_) (by simp only[List.getElem?_toArray,List.getElem?_cons_succ,List.getElem?_cons_zero];rfl) kR kR kR (by exact fun _ _ _ h=>h) (Or.inl ⟨rF,?_⟩) (by assumption) ?_
 rotate_left 1
 ·(intro wS hSw;(try dsimp only at hSw);go_simp;try(with_reducible rfl))
 try simp only[Act.put,List.setIfInBounds_toArray,List.set_cons_zero,List.set_cons_succ]
 refine wpAnyH_take (i:=21) (v:=?_) (by simp only[List.getElem?_toArray,List.getElem?_cons_succ,List.getElem?_cons_zero];rfl) kR kR kR (by exact fun _ _ _ h=>h) (Or.inl ⟨rF,?_⟩) (by assumption) ?_
 rotate_left 1
 ·(intro wS hSw;(try dsimp only at hSw);go_simp;try(with_reducible rfl))
 try simp only[Act.put,List.setIfInBounds_toArray,List.set_cons_zero,List.set_cons_succ]
 refine wpAnyH_take (i:=22) (v:=?_) (by simp only[List.getElem?_toArray,List.getElem?_cons_succ,List.getElem?_cons_zero];rfl) kR kR kR (by exact fun _ _ _ h=>h) (Or.inl ⟨rF,?_⟩) (by assumption) ?_
 rotate_left 1
 ·(intro wS hSw;(try dsimp only at hSw);go_simp;try(with_reducible rfl))
 try simp only[Act.put,List.setIfInBounds_toArray,List.set_cons_zero,List.set_cons_succ]
 refine wpAnyH_done kR ?_ _
 go_wp2
 go_ret
 refine⟨A9 ?_,Br hbt⟩
 rw[<-HQ9.out]
 simp):p:=h
theorem Kw{p:Prop}(h:p:=by
 have HTZ:Hid (TW w v0 v1 v2 v3 (w.heap.size+1) op D A Q E nn bt wz):=HT0.next HBZ.out
 go_wp2_with(go_at_call 53;(with_reducible refine(HRD.out _).mono ?_);rintro e w5 ⟨u,rfl,hou,hb5⟩;obtain⟨pu,qu,rfl⟩:=Ax hou;have HOU:Hid (w5.ownsRow wz.heap.size 3 1 (.slice pu R.length qu) R.length (Bf R)):=hou;have HB5:Hid (Below wz.heap.size wz w5):=hb5;clear hou hb5)
 go_loopw [11] (fun kv wr=>∃k:Nat,k<=R.length/\kv=.int .i64 (k:Int)/\wr=w5/\∀x∈R.take k,x.toNat∈S) (fun kv _=>R.length-(intOf kv).toNat)
 case atStart=>exact⟨0,gI _,rfl,rfl,fun x hx=>by simp at hx⟩
 case round=>
  obtain⟨k,hk,rfl,rfl,hin⟩:=hrel
  clear c0 c1 c2 c3 i0 i1 i2 i3 i4 i5 i6
  obtain⟨hbq,c0,c1,c2,c3,i0,i1,i2,i3,i4,i5,i6⟩:=HTZ.next HB5.out
  by_cases hlt:k<R.length
  .have hx:=HRP1.out R[k] (gD hlt)
   obtain⟨d,hd⟩:∃d:Nat,R[k]=(d:Int):=⟨R[k].toNat,oM⟩
   obtain⟨gs,rfl,hcs⟩:=HSET.out d oM
   have hcs':=kc hbq hcs
   obtain⟨gu,cu,eu,-⟩:=HOU.form oM
   simp only[Value.slice.injEq]at eu
   obtain⟨rfl,-,rfl⟩:=eu
   have hcu:wr.cell? ⟨gu,k,none⟩=some (.int .i64 (d:Int)):=by rw[HOU.cellAt k oM];simp[Bf,hlt,hd]
   have HMEM:Hid (R[k]=(d:Int)):=hd
   have HIN:Hid (∀x∈R.take k,x.toNat∈S):=hin
   have t0:(0:Int)<=(k:Int):=oM
   have t1:(k:Int)<(R.length:Int):=oM
   have t2:(0:Int)<=(d:Int):=oM
   have t3:(d:Int)<(M:Int):=oM
   have wk:IntKind.i64.wrap ((k:Int)+1)=((k+1:Nat):Int):=by rw[IntKind.wrap_i64];omega
   clear hx hd hin hcs hk
   cases hX:decide (d∈S)
   .rw[hX]at hcs'
    have hall:(R.all fun n=>decide (n.toNat∈S))=false:=by
     rw[List.all_eq_false]
     exact⟨R[k],gD hlt,by rw[HMEM.out,Int.toNat_natCast,hX];decide⟩
    have HQF:Hid (false=RES):=by show _=_;have:=HR2.out;rw[hall,Bool.false_and]at this;exact this
    clear hX hall
    go_wp2
    go_ret
    exact⟨A9 HQF.out,hbq⟩
   .rw[hX]at hcs'
    have HX:Hid (d∈S):=by show d∈S;exact of_decide_eq_true hX
    clear hX
    go_wp2
    go_roundw
    case rel=>
     refine⟨k+1,oM,gN,fT,fun x hx=>?_⟩
     rw[List.take_succ_eq_append_getElem hlt,List.mem_append]at hx
     rcases hx with hx|hx
     .exact HIN.out x hx
     .simp only[List.mem_singleton]at hx
      rw[hx,HMEM.out,Int.toNat_natCast]
      exact HX.out
    case measure=>simp[intOf];omega
  .have hkk:k=R.length:=oM
   have hall:(R.all fun n=>decide (n.toNat∈S))=true:=by
    rw[List.all_eq_true]
    intro x hx
    rw[hkk,List.take_length]at hin
    simpa using hin x hx
   have h9:=HR2.out;rw[hall,Bool.true_and]at h9;have HTS:Hid _:=h9;clear h9
   have t1:¬ (k:Int)<(R.length:Int):=oM
   clear hall hin hk hlt
   by_cases h34:op=34
   .subst h34
    have h9:=HTS.out;rw[if_pos (Or.inl rfl)]at h9;have HQ:Hid _:=h9;clear h9
    go_wp2
    go_ret
    exact⟨A9 (by rw[<-HQ.out];first|(simp;done)|(simp;omega)|(simp[hn0];done)|(simp[hn0];omega)),hbq⟩
   .by_cases h36:op=36
    .subst h36
     have h9:=HTS.out;rw[if_pos (Or.inr rfl)]at h9;have HQ:Hid _:=h9;clear h9
     go_wp2
     go_ret
     exact⟨A9 (by rw[<-HQ.out];first|(simp;done)|(simp;omega)|(simp[hn0];done)|(simp[hn0];omega)),hbq⟩
    .have h9:=HTS.out;rw[if_neg (fun e=>e.elim h34 h36)]at h9;have HT2:Hid _:=h9;clear h9
     have q34:(op==34)=false:=by simpa using h34
     have q36:(op==36)=false:=by simpa using h36
     by_cases h35:op=35
     .subst h35
      have h9:=HT2.out;rw[if_pos rfl]at h9;have HQ:Hid _:=h9;clear h9
      clear q34 q36 h34 h36
      by_cases hn0:(0:Int)<(n:Int)
      .first
        |(exfalso;omega)
        |(go_wp2;go_ret;exact⟨A9 (by rw[<-HQ.out];first|(simp;done)|(simp;omega)|(simp[hn0];done)|(simp[hn0];omega)),hbq⟩)
      .first
        |(exfalso;omega)
        |(go_wp2;go_ret;exact⟨A9 (by rw[<-HQ.out];first|(simp;done)|(simp;omega)|(simp[hn0];done)|(simp[hn0];omega)),hbq⟩)
     .have h9:=HT2.out;rw[if_neg h35]at h9;have HT3:Hid _:=h9;clear h9
      have q35:(op==35)=false:=by simpa using h35
      by_cases h37:op=37
      .subst h37
       have h9:=HT3.out;rw[if_pos rfl]at h9;have HQ:Hid _:=h9;clear h9
       clear q34 q35 q36 h34 h35 h36
       first
        |(exfalso;omega)
        |(go_wp2;go_ret;exact⟨A9 HQ.out,hbq⟩)
      .have h9:=HT3.out;rw[if_neg h37]at h9;have HQ:Hid _:=h9;clear h9
       have q37:(op==37)=false:=by simpa using h37
       clear h34 h35 h36 h37
       go_wp2
       go_ret
       exact⟨A9 HQ.out,hbq⟩):p:=h
theorem Li{p:Prop}(h:p:=by
 refine wpAnyH_take (i:=0) (v:=?_) (by simp only[List.getElem?_toArray,List.getElem?_cons_succ,List.getElem?_cons_zero];rfl) kR kR kR (by exact fun _ _ _ h=>h) (Or.inl ⟨rF,?_⟩) (by assumption) ?_
 rotate_left 1
 ·(intro wS hSw;(try dsimp only at hSw);go_simp;try(with_reducible rfl))
 try simp only[Act.put,List.setIfInBounds_toArray,List.set_cons_zero,List.set_cons_succ]
 refine wpAnyH_take (i:=1) (v:=?_) (by simp only[List.getElem?_toArray,List.getElem?_cons_succ,List.getElem?_cons_zero];rfl) kR kR kR (by exact fun _ _ _ h=>h) (Or.inl ⟨rF,?_⟩) (by assumption) ?_
 rotate_left 1
 ·(intro wS hSw;(try dsimp only at hSw);go_simp;try(with_reducible rfl))
 try simp only[Act.put,List.setIfInBounds_toArray,List.set_cons_zero,List.set_cons_succ]
 refine wpAnyH_take (i:=2) (v:=?_) (by simp only[List.getElem?_toArray,List.getElem?_cons_succ,List.getElem?_cons_zero];rfl) kR kR kR (by exact fun _ _ _ h=>h) (Or.inl ⟨rF,?_⟩) (by assumption) ?_
 rotate_left 1
 ·(intro wS hSw;(try dsimp only at hSw);go_simp;try(with_reducible rfl))
 try simp only[Act.put,List.setIfInBounds_toArray,List.set_cons_zero,List.set_cons_succ]
 refine wpAnyH_take (i:=3) (v:=?_) (by simp only[List.getElem?_toArray,List.getElem?_cons_succ,List.getElem?_cons_zero];rfl) kR kR kR (by exact fun _ _ _ h=>h) (Or.inl ⟨rF,?_⟩) (by assumption) ?_
 rotate_left 1
 ·(intro wS hSw;(try dsimp only at hSw);go_simp;try(with_reducible rfl))
 try simp only[Act.put,List.setIfInBounds_toArray,List.set_cons_zero,List.set_cons_succ]
 refine wpAnyH_take (i:=4) (v:=?_) (by simp only[List.getElem?_toArray,List.getElem?_cons_succ,List.getElem?_cons_zero];rfl) kR kR kR (by exact fun _ _ _ h=>h) (Or.inl ⟨rF,?_⟩) (by assumption) ?_
 rotate_left 1
 ·(intro wS hSw;(try dsimp only at hSw);go_simp;try(with_reducible rfl))
 try simp only[Act.put,List.setIfInBounds_toArray,List.set_cons_zero,List.set_cons_succ]
 refine wpAnyH_take (i:=5) (v:=?_) (by simp only[List.getElem?_toArray,List.getElem?_cons_succ,List.getElem?_cons_zero];rfl) kR kR kR (by exact fun _ _ _ h=>h) (Or.inl ⟨rF,?_⟩) (by assumption) ?_
 rotate_left 1
 ·(intro wS hSw;(try dsimp only at hSw);go_simp;try(with_reducible rfl))
 try simp only[Act.put,List.setIfInBounds_toArray,List.set_cons_zero,List.set_cons_succ]
 refine wpAnyH_take (i:=6) (v:=?_) (by simp only[List.getElem?_toArray,List.getElem?_cons_succ,List.getElem?_cons_zero];rfl) kR kR kR (by exact fun _ _ _ h=>h) (Or.inl ⟨rF,?_⟩) (by assumption) ?_
 rotate_left 1
 ·(intro wS hSw;(try dsimp only at hSw);go_simp;try(with_reducible rfl))
 try simp only[Act.put,List.setIfInBounds_toArray,List.set_cons_zero,List.set_cons_succ]
 refine wpAnyH_take (i:=7) (v:=?_) (by simp only[List.getElem?_toArray,List.getElem?_cons_succ,List.getElem?_cons_zero];rfl) kR kR kR (by exact fun _ _ _ h=>h) (Or.inl ⟨rF,?_⟩) (by assumption) ?_
 rotate_left 1
 ·(intro wS hSw;(try dsimp only at hSw);go_simp;try(with_reducible rfl))
 try simp only[Act.put,List.setIfInBounds_toArray,List.set_cons_zero,List.set_cons_succ]
 refine wpAnyH_take (i:=8) (v:=?_) (by simp only[List.getElem?_toArray,List.getElem?_cons_succ,List.getElem?_cons_zero];rfl) kR kR kR (by exact fun _ _ _ h=>h) (Or.inl ⟨rF,?_⟩) (by assumption) ?_
 rotate_left 1
 ·(intro wS hSw;(try dsimp only at hSw);go_simp;try(with_reducible rfl))
 try simp only[Act.put,List.setIfInBounds_toArray,List.set_cons_zero,List.set_cons_succ]
 refine wpAnyH_take (i:=9) (v:=?_) (by simp only[List.getElem?_toArray,List.getElem?_cons_succ,List.getElem?_cons_zero];rfl) kR kR kR (by exact fun _ _ _ h=>h) (Or.inl ⟨rF,?_⟩) (by assumption) ?_
 rotate_left 1
 ·(intro wS hSw;(try dsimp only at hSw);go_simp;try(with_reducible rfl))
 try simp only[Act.put,List.setIfInBounds_toArray,List.set_cons_zero,List.set_cons_succ]
 refine wpAnyH_take (i:=10) (v:=?_) (by simp only[List.getElem?_toArray,List.getElem?_cons_succ,List.getElem?_cons_zero];rfl) kR kR kR (by exact fun _ _ _ h=>h) (Or.inl ⟨rF,?_⟩) (by assumption) ?_
 rotate_left 1
 ·(intro wS hSw;(try dsimp only at hSw);go_simp;try(with_reducible rfl))
 try simp only[Act.put,List.setIfInBounds_toArray,List.set_cons_zero,List.set_cons_succ]
 refine wpAnyH_take (i:=11) (v:=?_) (by simp only[List.getElem?_toArray,List.getElem?_cons_succ,List.getElem?_cons_zero];rfl) kR kR kR (by exact fun _ _ _ h=>h) (Or.inl ⟨rF,?_⟩) (by assumption) ?_
 rotate_left 1
 ·(intro wS hSw;(try dsimp only at hSw);go_simp;try(with_reducible rfl))
 try simp only[Act.put,List.setIfInBounds_toArray,List.set_cons_zero,List.set_cons_succ]
 refine wpAnyH_take (i:=12) (v:=?_) (by simp only[List.getElem?_toArray,List.getElem?_cons_succ,List.getElem?_cons_zero];rfl) kR kR kR (by exact fun _ _ _ h=>h) (Or.inl ⟨rF,?_⟩) (by assumption) ?_
 rotate_left 1
 ·(intro wS hSw;(try dsimp only at hSw);go_simp;try(with_reducible rfl))
 try simp only[Act.put,List.setIfInBounds_toArray,List.set_cons_zero,List.set_cons_succ]
 refine wpAnyH_take (i:=13) (v:=?_) (by simp only[List.getElem?_toArray,List.getElem?_cons_succ,List.getElem?_cons_zero];rfl) kR kR kR (by exact fun _ _ _ h=>h) (Or.inl ⟨rF,?_⟩) (by assumption) ?_
 rotate_left 1
 ·(intro wS hSw;(try dsimp only at hSw);go_simp;try(with_reducible rfl))
 try simp only[Act.put,List.setIfInBounds_toArray,List.set_cons_zero,List.set_cons_succ]
 refine wpAnyH_take (i:=14) (v:=?_) (by simp only[List.getElem?_toArray,List.getElem?_cons_succ,List.getElem?_cons_zero];rfl) kR kR kR (by exact fun _ _ _ h=>h) (Or.inl ⟨rF,?_⟩) (by assumption) ?_
 rotate_left 1
 ·(intro wS hSw;(try dsimp only at hSw);go_simp;try(with_reducible rfl))
 try simp only[Act.put,List.setIfInBounds_toArray,List.set_cons_zero,List.set_cons_succ]
 refine wpAnyH_take (i:=15) (v:=?_) (by simp only[List.getElem?_toArray,List.getElem?_cons_succ,List.getElem?_cons_zero];rfl) kR kR kR (by exact fun _ _ _ h=>h) (Or.inl ⟨rF,?_⟩) (by assumption) ?_
 rotate_left 1
 ·(intro wS hSw;(try dsimp only at hSw);go_simp;try(with_reducible rfl))
 try simp only[Act.put,List.setIfInBounds_toArray,List.set_cons_zero,List.set_cons_succ]
 refine wpAnyH_take (i:=16) (v:=?_) (by simp only[List.getElem?_toArray,List.getElem?_cons_succ,List.getElem?_cons_zero];rfl) kR kR kR (by exact fun _ _ _ h=>h) (Or.inl ⟨rF,?_⟩) (by assumption) ?_
 rotate_left 1
 ·(intro wS hSw;(try dsimp only at hSw);go_simp;try(with_reducible rfl))
 try simp only[Act.put,List.setIfInBounds_toArray,List.set_cons_zero,List.set_cons_succ]
 refine wpAnyH_take (i:=17) (v:=?_) (by simp only[List.getElem?_toArray,List.getElem?_cons_succ,List.getElem?_cons_zero];rfl) kR kR kR (by exact fun _ _ _ h=>h) (Or.inl ⟨rF,?_⟩) (by assumption) ?_
 rotate_left 1
 ·(intro wS hSw;(try dsimp only at hSw);go_simp;try(with_reducible rfl))
 try simp only[Act.put,List.setIfInBounds_toArray,List.set_cons_zero,List.set_cons_succ]
 refine wpAnyH_take (i:=18) (v:=?_) (by simp only[List.getElem?_toArray,List.getElem?_cons_succ,List.getElem?_cons_zero];rfl) kR kR kR (by exact fun _ _ _ h=>h) (Or.inl ⟨rF,?_⟩) (by assumption) ?_
 rotate_left 1
 ·(intro wS hSw;(try dsimp only at hSw);go_simp;try(with_reducible rfl))
 try simp only[Act.put,List.setIfInBounds_toArray,List.set_cons_zero,List.set_cons_succ]
 refine wpAnyH_take (i:=19) (v:=?_) (by simp only[List.getElem?_toArray,List.getElem?_cons_succ,List.getElem?_cons_zero];rfl) kR kR kR (by exact fun _ _ _ h=>h) (Or.inl ⟨rF,?_⟩) (by assumption) ?_
 rotate_left 1
 ·(intro wS hSw;(try dsimp only at hSw);go_simp;try(with_reducible rfl))
 try simp only[Act.put,List.setIfInBounds_toArray,List.set_cons_zero,List.set_cons_succ]
 refine wpAnyH_take (i:=20) (v:=?_) (by simp only[List.getElem?_toArray,List.getElem?_cons_succ,List.getElem?_cons_zero];rfl) kR kR kR (by exact fun _ _ _ h=>h) (Or.inl ⟨rF,?_⟩) (by assumption) ?_
 rotate_left 1
 ·(intro wS hSw;(try dsimp only at hSw);go_simp;try(with_reducible rfl))
 try simp only[Act.put,List.setIfInBounds_toArray,List.set_cons_zero,List.set_cons_succ]
 refine wpAnyH_take (i:=21) (v:=?_) (by simp only[List.getElem?_toArray,List.getElem?_cons_succ,List.getElem?_cons_zero];rfl) kR kR kR (by exact fun _ _ _ h=>h) (Or.inl ⟨rF,?_⟩) (by assumption) ?_
 rotate_left 1
 ·(intro wS hSw;(try dsimp only at hSw);go_simp;try(with_reducible rfl))
 try simp only[Act.put,List.setIfInBounds_toArray,List.set_cons_zero,List.set_cons_succ]
 refine wpAnyH_take (i:=22) (v:=?_) (by simp only[List.getElem?_toArray,List.getElem?_cons_succ,List.getElem?_cons_zero];rfl) kR kR kR (by exact fun _ _ _ h=>h) (Or.inl ⟨rF,?_⟩) (by assumption) ?_
 rotate_left 1
 ·(intro wS hSw;(try dsimp only at hSw);go_simp;try(with_reducible rfl))
 try simp only[Act.put,List.setIfInBounds_toArray,List.set_cons_zero,List.set_cons_succ]
 refine wpAnyH_done kR ?_ _
 go_wp2
 go_ret
 refine⟨A9 ?_,Br hbt⟩
 rw[<-HQ9.out]
 simp[hps]):p:=h
theorem Lj{p:Prop}(h:p:=by
 refine wpAnyH_take (i:=0) (v:=?_) (by simp only[List.getElem?_toArray,List.getElem?_cons_succ,List.getElem?_cons_zero];rfl) kR kR kR (by exact fun _ _ _ h=>h) (Or.inl ⟨rF,?_⟩) (by assumption) ?_
 rotate_left 1
 ·(intro wS hSw;(try dsimp only at hSw);go_simp;try(with_reducible rfl))
 try simp only[Act.put,List.setIfInBounds_toArray,List.set_cons_zero,List.set_cons_succ]
 refine wpAnyH_take (i:=1) (v:=?_) (by simp only[List.getElem?_toArray,List.getElem?_cons_succ,List.getElem?_cons_zero];rfl) kR kR kR (by exact fun _ _ _ h=>h) (Or.inl ⟨rF,?_⟩) (by assumption) ?_
 rotate_left 1
 ·(intro wS hSw;(try dsimp only at hSw);go_simp;try(with_reducible rfl))
 try simp only[Act.put,List.setIfInBounds_toArray,List.set_cons_zero,List.set_cons_succ]
 refine wpAnyH_take (i:=2) (v:=?_) (by simp only[List.getElem?_toArray,List.getElem?_cons_succ,List.getElem?_cons_zero];rfl) kR kR kR (by exact fun _ _ _ h=>h) (Or.inl ⟨rF,?_⟩) (by assumption) ?_
 rotate_left 1
 ·(intro wS hSw;(try dsimp only at hSw);go_simp;try(with_reducible rfl))
 try simp only[Act.put,List.setIfInBounds_toArray,List.set_cons_zero,List.set_cons_succ]
 refine wpAnyH_take (i:=3) (v:=?_) (by simp only[List.getElem?_toArray,List.getElem?_cons_succ,List.getElem?_cons_zero];rfl) kR kR kR (by exact fun _ _ _ h=>h) (Or.inl ⟨rF,?_⟩) (by assumption) ?_
 rotate_left 1
 ·(intro wS hSw;(try dsimp only at hSw);go_simp;try(with_reducible rfl))
 try simp only[Act.put,List.setIfInBounds_toArray,List.set_cons_zero,List.set_cons_succ]
 refine wpAnyH_take (i:=4) (v:=?_) (by simp only[List.getElem?_toArray,List.getElem?_cons_succ,List.getElem?_cons_zero];rfl) kR kR kR (by exact fun _ _ _ h=>h) (Or.inl ⟨rF,?_⟩) (by assumption) ?_
 rotate_left 1
 ·(intro wS hSw;(try dsimp only at hSw);go_simp;try(with_reducible rfl))
 try simp only[Act.put,List.setIfInBounds_toArray,List.set_cons_zero,List.set_cons_succ]
 refine wpAnyH_take (i:=5) (v:=?_) (by simp only[List.getElem?_toArray,List.getElem?_cons_succ,List.getElem?_cons_zero];rfl) kR kR kR (by exact fun _ _ _ h=>h) (Or.inl ⟨rF,?_⟩) (by assumption) ?_
 rotate_left 1
 ·(intro wS hSw;(try dsimp only at hSw);go_simp;try(with_reducible rfl))
 try simp only[Act.put,List.setIfInBounds_toArray,List.set_cons_zero,List.set_cons_succ]
 refine wpAnyH_take (i:=6) (v:=?_) (by simp only[List.getElem?_toArray,List.getElem?_cons_succ,List.getElem?_cons_zero];rfl) kR kR kR (by exact fun _ _ _ h=>h) (Or.inl ⟨rF,?_⟩) (by assumption) ?_
 rotate_left 1
 ·(intro wS hSw;(try dsimp only at hSw);go_simp;try(with_reducible rfl))
 try simp only[Act.put,List.setIfInBounds_toArray,List.set_cons_zero,List.set_cons_succ]
 refine wpAnyH_take (i:=7) (v:=?_) (by simp only[List.getElem?_toArray,List.getElem?_cons_succ,List.getElem?_cons_zero];rfl) kR kR kR (by exact fun _ _ _ h=>h) (Or.inl ⟨rF,?_⟩) (by assumption) ?_
 rotate_left 1
 ·(intro wS hSw;(try dsimp only at hSw);go_simp;try(with_reducible rfl))
 try simp only[Act.put,List.setIfInBounds_toArray,List.set_cons_zero,List.set_cons_succ]
 refine wpAnyH_take (i:=8) (v:=?_) (by simp only[List.getElem?_toArray,List.getElem?_cons_succ,List.getElem?_cons_zero];rfl) kR kR kR (by exact fun _ _ _ h=>h) (Or.inl ⟨rF,?_⟩) (by assumption) ?_
 rotate_left 1
 ·(intro wS hSw;(try dsimp only at hSw);go_simp;try(with_reducible rfl))
 try simp only[Act.put,List.setIfInBounds_toArray,List.set_cons_zero,List.set_cons_succ]
 refine wpAnyH_take (i:=9) (v:=?_) (by simp only[List.getElem?_toArray,List.getElem?_cons_succ,List.getElem?_cons_zero];rfl) kR kR kR (by exact fun _ _ _ h=>h) (Or.inl ⟨rF,?_⟩) (by assumption) ?_
 rotate_left 1
 ·(intro wS hSw;(try dsimp only at hSw);go_simp;try(with_reducible rfl))
 try simp only[Act.put,List.setIfInBounds_toArray,List.set_cons_zero,List.set_cons_succ]
 refine wpAnyH_take (i:=10) (v:=?_) (by simp only[List.getElem?_toArray,List.getElem?_cons_succ,List.getElem?_cons_zero];rfl) kR kR kR (by exact fun _ _ _ h=>h) (Or.inl ⟨rF,?_⟩) (by assumption) ?_
 rotate_left 1
 ·(intro wS hSw;(try dsimp only at hSw);go_simp;try(with_reducible rfl))
 try simp only[Act.put,List.setIfInBounds_toArray,List.set_cons_zero,List.set_cons_succ]
 refine wpAnyH_take (i:=11) (v:=?_) (by simp only[List.getElem?_toArray,List.getElem?_cons_succ,List.getElem?_cons_zero];rfl) kR kR kR (by exact fun _ _ _ h=>h) (Or.inl ⟨rF,?_⟩) (by assumption) ?_
 rotate_left 1
 ·(intro wS hSw;(try dsimp only at hSw);go_simp;try(with_reducible rfl))
 try simp only[Act.put,List.setIfInBounds_toArray,List.set_cons_zero,List.set_cons_succ]
 refine wpAnyH_take (i:=12) (v:=?_) (by simp only[List.getElem?_toArray,List.getElem?_cons_succ,List.getElem?_cons_zero];rfl) kR kR kR (by exact fun _ _ _ h=>h) (Or.inl ⟨rF,?_⟩) (by assumption) ?_
 rotate_left 1
 ·(intro wS hSw;(try dsimp only at hSw);go_simp;try(with_reducible rfl))
 try simp only[Act.put,List.setIfInBounds_toArray,List.set_cons_zero,List.set_cons_succ]
 refine wpAnyH_take (i:=13) (v:=?_) (by simp only[List.getElem?_toArray,List.getElem?_cons_succ,List.getElem?_cons_zero];rfl) kR kR kR (by exact fun _ _ _ h=>h) (Or.inl ⟨rF,?_⟩) (by assumption) ?_
 rotate_left 1
 ·(intro wS hSw;(try dsimp only at hSw);go_simp;try(with_reducible rfl))
 try simp only[Act.put,List.setIfInBounds_toArray,List.set_cons_zero,List.set_cons_succ]
 refine wpAnyH_take (i:=14) (v:=?_) (by simp only[List.getElem?_toArray,List.getElem?_cons_succ,List.getElem?_cons_zero];rfl) kR kR kR (by exact fun _ _ _ h=>h) (Or.inl ⟨rF,?_⟩) (by assumption) ?_
 rotate_left 1
 ·(intro wS hSw;(try dsimp only at hSw);go_simp;try(with_reducible rfl))
 try simp only[Act.put,List.setIfInBounds_toArray,List.set_cons_zero,List.set_cons_succ]
 refine wpAnyH_take (i:=15) (v:=?_) (by simp only[List.getElem?_toArray,List.getElem?_cons_succ,List.getElem?_cons_zero];rfl) kR kR kR (by exact fun _ _ _ h=>h) (Or.inl ⟨rF,?_⟩) (by assumption) ?_
 rotate_left 1
 ·(intro wS hSw;(try dsimp only at hSw);go_simp;try(with_reducible rfl))
 try simp only[Act.put,List.setIfInBounds_toArray,List.set_cons_zero,List.set_cons_succ]
 refine wpAnyH_take (i:=16) (v:=?_) (by simp only[List.getElem?_toArray,List.getElem?_cons_succ,List.getElem?_cons_zero];rfl) kR kR kR (by exact fun _ _ _ h=>h) (Or.inl ⟨rF,?_⟩) (by assumption) ?_
 rotate_left 1
 ·(intro wS hSw;(try dsimp only at hSw);go_simp;try(with_reducible rfl))
 try simp only[Act.put,List.setIfInBounds_toArray,List.set_cons_zero,List.set_cons_succ]
 refine wpAnyH_take (i:=17) (v:=?_) (by simp only[List.getElem?_toArray,List.getElem?_cons_succ,List.getElem?_cons_zero];rfl) kR kR kR (by exact fun _ _ _ h=>h) (Or.inl ⟨rF,?_⟩) (by assumption) ?_
 rotate_left 1
 ·(intro wS hSw;(try dsimp only at hSw);go_simp;try(with_reducible rfl))
 try simp only[Act.put,List.setIfInBounds_toArray,List.set_cons_zero,List.set_cons_succ]
 refine wpAnyH_take (i:=18) (v:=?_) (by simp only[List.getElem?_toArray,List.getElem?_cons_succ,List.getElem?_cons_zero];rfl) kR kR kR (by exact fun _ _ _ h=>h) (Or.inl ⟨rF,?_⟩) (by assumption) ?_
 rotate_left 1
 ·(intro wS hSw;(try dsimp only at hSw);go_simp;try(with_reducible rfl))
 try simp only[Act.put,List.setIfInBounds_toArray,List.set_cons_zero,List.set_cons_succ]
 refine wpAnyH_take (i:=19) (v:=?_) (by simp only[List.getElem?_toArray,List.getElem?_cons_succ,List.getElem?_cons_zero];rfl) kR kR kR (by exact fun _ _ _ h=>h) (Or.inl ⟨rF,?_⟩) (by assumption) ?_
 rotate_left 1
 ·(intro wS hSw;(try dsimp only at hSw);go_simp;try(with_reducible rfl))
 try simp only[Act.put,List.setIfInBounds_toArray,List.set_cons_zero,List.set_cons_succ]
 refine wpAnyH_take (i:=20) (v:=?_) (by simp only[List.getElem?_toArray,List.getElem?_cons_succ,List.getElem?_cons_zero];rfl) kR kR kR (by exact fun _ _ _ h=>h) (Or.inl ⟨rF,?_⟩) (by assumption) ?_
 rotate_left 1
 ·(intro wS hSw;(try dsimp only at hSw);go_simp;try(with_reducible rfl))
 try simp only[Act.put,List.setIfInBounds_toArray,List.set_cons_zero,List.set_cons_succ]
 refine wpAnyH_take (i:=21) (v:=?_) (by simp only[List.getElem?_toArray,List.getElem?_cons_succ,List.getElem?_cons_zero];rfl) kR kR kR (by exact fun _ _ _ h=>h) (Or.inl ⟨rF,?_⟩) (by assumption) ?_
 rotate_left 1
 ·(intro wS hSw;(try dsimp only at hSw);go_simp;try(with_reducible rfl))
 try simp only[Act.put,List.setIfInBounds_toArray,List.set_cons_zero,List.set_cons_succ]
 refine wpAnyH_take (i:=22) (v:=?_) (by simp only[List.getElem?_toArray,List.getElem?_cons_succ,List.getElem?_cons_zero];rfl) kR kR kR (by exact fun _ _ _ h=>h) (Or.inl ⟨rF,?_⟩) (by assumption) ?_
 rotate_left 1
 ·(intro wS hSw;(try dsimp only at hSw);go_simp;try(with_reducible rfl))
 try simp only[Act.put,List.setIfInBounds_toArray,List.set_cons_zero,List.set_cons_succ]
 refine wpAnyH_done kR ?_ _
 go_wp2
 go_ret
 refine⟨A9 ?_,Br hbt⟩
 rw[<-HQ9.out]
 simp[hks]):p:=h
theorem Lk{p:Prop}(h:p:=by
 refine wpAnyH_take (i:=0) (v:=?_) (by simp only[List.getElem?_toArray,List.getElem?_cons_succ,List.getElem?_cons_zero];rfl) kR kR kR (by exact fun _ _ _ h=>h) (Or.inl ⟨rF,?_⟩) (by assumption) ?_
 rotate_left 1
 ·(intro wS hSw;(try dsimp only at hSw);go_simp;try(with_reducible rfl))
 try simp only[Act.put,List.setIfInBounds_toArray,List.set_cons_zero,List.set_cons_succ]
 refine wpAnyH_take (i:=1) (v:=?_) (by simp only[List.getElem?_toArray,List.getElem?_cons_succ,List.getElem?_cons_zero];rfl) kR kR kR (by exact fun _ _ _ h=>h) (Or.inl ⟨rF,?_⟩) (by assumption) ?_
 rotate_left 1
 ·(intro wS hSw;(try dsimp only at hSw);go_simp;try(with_reducible rfl))
 try simp only[Act.put,List.setIfInBounds_toArray,List.set_cons_zero,List.set_cons_succ]
 refine wpAnyH_take (i:=2) (v:=?_) (by simp only[List.getElem?_toArray,List.getElem?_cons_succ,List.getElem?_cons_zero];rfl) kR kR kR (by exact fun _ _ _ h=>h) (Or.inl ⟨rF,?_⟩) (by assumption) ?_
 rotate_left 1
 ·(intro wS hSw;(try dsimp only at hSw);go_simp;try(with_reducible rfl))
 try simp only[Act.put,List.setIfInBounds_toArray,List.set_cons_zero,List.set_cons_succ]
 refine wpAnyH_take (i:=3) (v:=?_) (by simp only[List.getElem?_toArray,List.getElem?_cons_succ,List.getElem?_cons_zero];rfl) kR kR kR (by exact fun _ _ _ h=>h) (Or.inl ⟨rF,?_⟩) (by assumption) ?_
 rotate_left 1
 ·(intro wS hSw;(try dsimp only at hSw);go_simp;try(with_reducible rfl))
 try simp only[Act.put,List.setIfInBounds_toArray,List.set_cons_zero,List.set_cons_succ]
 refine wpAnyH_take (i:=4) (v:=?_) (by simp only[List.getElem?_toArray,List.getElem?_cons_succ,List.getElem?_cons_zero];rfl) kR kR kR (by exact fun _ _ _ h=>h) (Or.inl ⟨rF,?_⟩) (by assumption) ?_
 rotate_left 1
 ·(intro wS hSw;(try dsimp only at hSw);go_simp;try(with_reducible rfl))
 try simp only[Act.put,List.setIfInBounds_toArray,List.set_cons_zero,List.set_cons_succ]
 refine wpAnyH_take (i:=5) (v:=?_) (by simp only[List.getElem?_toArray,List.getElem?_cons_succ,List.getElem?_cons_zero];rfl) kR kR kR (by exact fun _ _ _ h=>h) (Or.inl ⟨rF,?_⟩) (by assumption) ?_
 rotate_left 1
 ·(intro wS hSw;(try dsimp only at hSw);go_simp;try(with_reducible rfl))
 try simp only[Act.put,List.setIfInBounds_toArray,List.set_cons_zero,List.set_cons_succ]
 clear hJ
 refine AO 6 fun K hK=>?_
 go_simp
 (go_at_call 76;refine(HK.out _).mono ?_;rintro e w1 ⟨rfl,rfl⟩)
 try(go_wp2_with fail)
 refine AP hK fun hJ=>?_
 clear hK K
 refine wpAnyH_take (i:=7) (v:=?_) (by simp only[List.getElem?_toArray,List.getElem?_cons_succ,List.getElem?_cons_zero];rfl) kR kR kR (by exact fun _ _ _ h=>h) (Or.inl ⟨rF,?_⟩) (by assumption) ?_
 rotate_left 1
 ·(intro wS hSw;(try dsimp only at hSw);go_simp;try(with_reducible rfl))
 try simp only[Act.put,List.setIfInBounds_toArray,List.set_cons_zero,List.set_cons_succ]
 refine wpAnyH_take (i:=8) (v:=undef) (by simp only[List.getElem?_toArray,List.getElem?_cons_succ,List.getElem?_cons_zero];rfl) kR kR kR (by exact fun _ _ _ h=>h) (Or.inr ⟨rF,rfl⟩) (by assumption) ?_
 try simp only[Act.put,List.setIfInBounds_toArray,List.set_cons_zero,List.set_cons_succ]
 refine wpAnyH_take (i:=9) (v:=undef) (by simp only[List.getElem?_toArray,List.getElem?_cons_succ,List.getElem?_cons_zero];rfl) kR kR kR (by exact fun _ _ _ h=>h) (Or.inr ⟨rF,rfl⟩) (by assumption) ?_
 try simp only[Act.put,List.setIfInBounds_toArray,List.set_cons_zero,List.set_cons_succ]
 refine wpAnyH_take (i:=10) (v:=undef) (by simp only[List.getElem?_toArray,List.getElem?_cons_succ,List.getElem?_cons_zero];rfl) kR kR kR (by exact fun _ _ _ h=>h) (Or.inr ⟨rF,rfl⟩) (by assumption) ?_
 try simp only[Act.put,List.setIfInBounds_toArray,List.set_cons_zero,List.set_cons_succ]
 refine wpAnyH_take (i:=11) (v:=undef) (by simp only[List.getElem?_toArray,List.getElem?_cons_succ,List.getElem?_cons_zero];rfl) kR kR kR (by exact fun _ _ _ h=>h) (Or.inr ⟨rF,rfl⟩) (by assumption) ?_
 try simp only[Act.put,List.setIfInBounds_toArray,List.set_cons_zero,List.set_cons_succ]
 refine wpAnyH_take (i:=12) (v:=undef) (by simp only[List.getElem?_toArray,List.getElem?_cons_succ,List.getElem?_cons_zero];rfl) kR kR kR (by exact fun _ _ _ h=>h) (Or.inr ⟨rF,rfl⟩) (by assumption) ?_
 try simp only[Act.put,List.setIfInBounds_toArray,List.set_cons_zero,List.set_cons_succ]
 refine wpAnyH_take (i:=13) (v:=undef) (by simp only[List.getElem?_toArray,List.getElem?_cons_succ,List.getElem?_cons_zero];rfl) kR kR kR (by exact fun _ _ _ h=>h) (Or.inr ⟨rF,rfl⟩) (by assumption) ?_
 try simp only[Act.put,List.setIfInBounds_toArray,List.set_cons_zero,List.set_cons_succ]
 refine wpAnyH_take (i:=14) (v:=undef) (by simp only[List.getElem?_toArray,List.getElem?_cons_succ,List.getElem?_cons_zero];rfl) kR kR kR (by exact fun _ _ _ h=>h) (Or.inr ⟨rF,rfl⟩) (by assumption) ?_
 try simp only[Act.put,List.setIfInBounds_toArray,List.set_cons_zero,List.set_cons_succ]
 refine wpAnyH_take (i:=15) (v:=undef) (by simp only[List.getElem?_toArray,List.getElem?_cons_succ,List.getElem?_cons_zero];rfl) kR kR kR (by exact fun _ _ _ h=>h) (Or.inr ⟨rF,rfl⟩) (by assumption) ?_
 try simp only[Act.put,List.setIfInBounds_toArray,List.set_cons_zero,List.set_cons_succ]
 refine wpAnyH_take (i:=16) (v:=undef) (by simp only[List.getElem?_toArray,List.getElem?_cons_succ,List.getElem?_cons_zero];rfl) kR kR kR (by exact fun _ _ _ h=>h) (Or.inr ⟨rF,rfl⟩) (by assumption) ?_
 try simp only[Act.put,List.setIfInBounds_toArray,List.set_cons_zero,List.set_cons_succ]
 refine wpAnyH_take (i:=17) (v:=undef) (by simp only[List.getElem?_toArray,List.getElem?_cons_succ,List.getElem?_cons_zero];rfl) kR kR kR (by exact fun _ _ _ h=>h) (Or.inr ⟨rF,rfl⟩) (by assumption) ?_
 try simp only[Act.put,List.setIfInBounds_toArray,List.set_cons_zero,List.set_cons_succ]
 refine wpAnyH_take (i:=18) (v:=?_) (by simp only[List.getElem?_toArray,List.getElem?_cons_succ,List.getElem?_cons_zero];rfl) kR kR kR (by exact fun _ _ _ h=>h) (Or.inl ⟨rF,?_⟩) (by assumption) ?_
 rotate_left 1
 ·(intro wS hSw;(try dsimp only at hSw);go_simp;try(with_reducible rfl))
 try simp only[Act.put,List.setIfInBounds_toArray,List.set_cons_zero,List.set_cons_succ]
 refine wpAnyH_take (i:=19) (v:=?_) (by simp only[List.getElem?_toArray,List.getElem?_cons_succ,List.getElem?_cons_zero];rfl) kR kR kR (by exact fun _ _ _ h=>h) (Or.inl ⟨rF,?_⟩) (by assumption) ?_
 rotate_left 1
 ·(intro wS hSw;(try dsimp only at hSw);go_simp;try(with_reducible rfl))
 try simp only[Act.put,List.setIfInBounds_toArray,List.set_cons_zero,List.set_cons_succ]
 refine wpAnyH_done kR ?_ _
 go_wp2
 go_ret
 exact⟨rfl,bel (A0 _ _) (Aa _)⟩):p:=h
theorem Ll{p:Prop}(h:p:=by
 have HRF:Hid (false=RES):=hRES
 clear hRES hKOA hKOB hKOC hPL HPP0
 go_enter func51,ntmps51
 go_wp2_with(first
  |(go_at_call 54;refine(HROW.out _).mono ?_;rintro e w1 ⟨rfl,rfl⟩)
  |(go_at_call 50;refine(HCAN.out _).mono ?_;rintro e w2 ⟨rfl,hb2⟩;have HT2:Hid (TW w (.slice p0 n0 q0) (.slice p1 n1 q1) (.slice p2 n2 q2) v3 (w.heap.size+1) op D A B E n bt (w2.alloc (.cells #[.int .i64 0,.int .i64 0] 47))):=(HT0.next hb2).next (A0 _ _);obtain⟨b1,c0,c1,c2,c3,i0,i1,i2,i3,i4,i5,i6⟩:=HT2.out;have HS2:Hid (w.heap.size+1<w2.heap.size):=Ac (HT0.next hb2).i0;clear hb2))
 have HTD:Hid _:=HT2.out
 have HD:Hid ((w2.alloc (.cells #[.int .i64 0,.int .i64 0] 47)).cell? ⟨w2.heap.size,0,none⟩=some (.int .i64 0)/\(w2.alloc (.cells #[.int .i64 0,.int .i64 0] 47)).cell? ⟨w2.heap.size,1,none⟩=some (.int .i64 0)):=⟨sG,sG⟩
 obtain⟨Z,hZ⟩:=gA (w2.heap.size)
 obtain⟨Wd,hWd⟩:∃W,w2.alloc (.cells #[.int .i64 0,.int .i64 0] 47)=W:=⟨_,rfl⟩
 rw[hZ]at HD
 rw[hWd]at HD HTD |-
 try rw[hZ]
 clear hZ hWd HT2 b1 c0 c1 c2 c3 i0 i1 i2 i3 i4 i5 i6 HT0 HROW HCAN
 have HCD:Hid (∀v,Below Wd.heap.size Wd v->v.cell? ⟨w.heap.size,0,none⟩=some (.slice p0 n0 q0)/\v.cell? ⟨w.heap.size,1,none⟩=some (.slice p1 n1 q1)/\v.cell? ⟨w.heap.size,2,none⟩=some (.slice p2 n2 q2)/\v.cell? ⟨w.heap.size,3,none⟩=some v3/\v.cell? ⟨w.heap.size+1,1,none⟩=some (.int .i64 D)/\v.cell? ⟨w.heap.size+1,2,none⟩=some (.int .i64 A)/\v.cell? ⟨w.heap.size+1,3,none⟩=some (.int .i64 B)/\v.cell? ⟨w.heap.size+1,4,none⟩=some (.int .i64 E)/\v.cell? ⟨w.heap.size+1,5,none⟩=some (.int .i64 n)/\v.cell? ⟨Z,0,none⟩=some (.int .i64 0)/\v.cell? ⟨Z,1,none⟩=some (.int .i64 0)):=fun v hb=>⟨kc hb HTD.c0,kc hb HTD.c1,kc hb HTD.c2,kc hb HTD.c3,kc hb HTD.i1,kc hb HTD.i2,kc hb HTD.i3,kc hb HTD.i4,kc hb HTD.i5,kc hb HD.1,kc hb HD.2⟩
 obtain⟨c0,c1,c2,c3,i1,i2,i3,i4,i5,d0,d1⟩:=HCD.out Wd (BH _)
 refine rG (fun v=>v.cell? ⟨w.heap.size,0,none⟩=some (.slice p0 n0 q0)/\v.cell? ⟨w.heap.size,1,none⟩=some (.slice p1 n1 q1)/\v.cell? ⟨w.heap.size,2,none⟩=some (.slice p2 n2 q2)/\v.cell? ⟨w.heap.size,3,none⟩=some v3/\v.cell? ⟨w.heap.size+1,1,none⟩=some (.int .i64 D)/\v.cell? ⟨w.heap.size+1,2,none⟩=some (.int .i64 A)/\v.cell? ⟨w.heap.size+1,3,none⟩=some (.int .i64 B)/\v.cell? ⟨w.heap.size+1,4,none⟩=some (.int .i64 E)/\v.cell? ⟨w.heap.size+1,5,none⟩=some (.int .i64 n)/\v.cell? ⟨Z,0,none⟩=some (.int .i64 0)/\v.cell? ⟨Z,1,none⟩=some (.int .i64 0)) fun hJ=>?_
 refine wpAnyH_take (i:=0) (v:=?_) (by simp only[List.getElem?_toArray,List.getElem?_cons_succ,List.getElem?_cons_zero];rfl) kR kR kR (by exact fun _ _ _ h=>h) (Or.inl ⟨rF,?_⟩) (by assumption) ?_
 rotate_left 1
 ·(intro wS hSw;(try dsimp only at hSw);go_simp;try(with_reducible rfl))
 try simp only[Act.put,List.setIfInBounds_toArray,List.set_cons_zero,List.set_cons_succ]
 refine wpAnyH_take (i:=1) (v:=?_) (by simp only[List.getElem?_toArray,List.getElem?_cons_succ,List.getElem?_cons_zero];rfl) kR kR kR (by exact fun _ _ _ h=>h) (Or.inl ⟨rF,?_⟩) (by assumption) ?_
 rotate_left 1
 ·(intro wS hSw;(try dsimp only at hSw);go_simp;try(with_reducible rfl))
 try simp only[Act.put,List.setIfInBounds_toArray,List.set_cons_zero,List.set_cons_succ]
 refine wpAnyH_take (i:=2) (v:=?_) (by simp only[List.getElem?_toArray,List.getElem?_cons_succ,List.getElem?_cons_zero];rfl) kR kR kR (by exact fun _ _ _ h=>h) (Or.inl ⟨rF,?_⟩) (by assumption) ?_
 rotate_left 1
 ·(intro wS hSw;(try dsimp only at hSw);go_simp;try(with_reducible rfl))
 try simp only[Act.put,List.setIfInBounds_toArray,List.set_cons_zero,List.set_cons_succ]
 refine wpAnyH_take (i:=3) (v:=?_) (by simp only[List.getElem?_toArray,List.getElem?_cons_succ,List.getElem?_cons_zero];rfl) kR kR kR (by exact fun _ _ _ h=>h) (Or.inl ⟨rF,?_⟩) (by assumption) ?_
 rotate_left 1
 ·(intro wS hSw;(try dsimp only at hSw);go_simp;try(with_reducible rfl))
 try simp only[Act.put,List.setIfInBounds_toArray,List.set_cons_zero,List.set_cons_succ]
 refine wpAnyH_take (i:=4) (v:=?_) (by simp only[List.getElem?_toArray,List.getElem?_cons_succ,List.getElem?_cons_zero];rfl) kR kR kR (by exact fun _ _ _ h=>h) (Or.inl ⟨rF,?_⟩) (by assumption) ?_
 rotate_left 1
 ·(intro wS hSw;(try dsimp only at hSw);go_simp;try(with_reducible rfl))
 try simp only[Act.put,List.setIfInBounds_toArray,List.set_cons_zero,List.set_cons_succ]
 refine wpAnyH_take (i:=5) (v:=?_) (by simp only[List.getElem?_toArray,List.getElem?_cons_succ,List.getElem?_cons_zero];rfl) kR kR kR (by exact fun _ _ _ h=>h) (Or.inl ⟨rF,?_⟩) (by assumption) ?_
 rotate_left 1
 ·(intro wS hSw;(try dsimp only at hSw);go_simp;try(with_reducible rfl))
 try simp only[Act.put,List.setIfInBounds_toArray,List.set_cons_zero,List.set_cons_succ]
 clear hJ
 refine AO 6 fun K hK=>?_
 go_simp
 (go_at_call 71;(with_reducible refine(HK0.out _ (bel HTD.out.bel (Aa _))).mono ?_);rintro e w3 ⟨rfl,hb9⟩;have HB3:Hid (Below Wd.heap.size Wd w3):=bel (Aa _) hb9;clear hb9;obtain⟨c0,c1,c2,c3,i1,i2,i3,i4,i5,d0,d1⟩:=HCD.out w3 HB3.out)
 try(go_wp2_with fail)
 refine AP hK fun hJ=>?_
 clear hK K
 refine wpAnyH_take (i:=7) (v:=?_) (by simp only[List.getElem?_toArray,List.getElem?_cons_succ,List.getElem?_cons_zero];rfl) kR kR kR (by exact fun _ _ _ h=>h) (Or.inl ⟨rF,?_⟩) (by assumption) ?_
 rotate_left 1
 ·(intro wS hSw;(try dsimp only at hSw);go_simp;try(with_reducible rfl))
 try simp only[Act.put,List.setIfInBounds_toArray,List.set_cons_zero,List.set_cons_succ]
 refine wpAnyH_done kR ?_ _
 go_wp2
 go_ret
 exact⟨A9 HRF.out,bel HTD.bel HB3.out⟩):p:=h
theorem Db{p:Prop}(h:p:=by
 go_enter func52,ntmps52
 go_wp2_with(go_at_call 38;(with_reducible refine(KE.out _).mono ?_);rintro e w1 ⟨rfl,rfl⟩)
 go_ret
 refine⟨?_,bel (A0 _ _) (A0 _ _)⟩
 first|rfl|simp[*]):p:=h
theorem BV{p:Prop}(h:p:=by
 go_enter func42,ntmps42
 go_wp2
 refine bodyPost_ret (by simp[results,results42,go_sem];try rfl) rfl ?_
 exact⟨rfl,gG⟩):p:=h
theorem K7{p:Prop}(h:p:=by
 go_enter func44,ntmps44
 go_wp2_with(go_at_call 65;refine(HKI.out _ (HS0.below (A0 _ _))).mono ?_;rintro e w1 ⟨⟨A,rfl⟩,hb1⟩;have HF:Hid (MW w w1.heap.size G C b o (.slice p N q) L0 L1 L2 L3 L4 op false P A (w1.alloc (.cells #[.bool false,.int .i64 P,.int .i64 A] 114))):=(by have hq:=bel (A0 _ _) hb1;exact⟨bel hq (A0 _ _),kc (A0 _ _) (kc hb1 sG),kc (A0 _ _) (kc hb1 sG),kc (A0 _ _) (kc hb1 sG),kc (A0 _ _) (kc hb1 sG),kc (A0 _ _) (kc hb1 sG),sG,sG,kc (A0 _ _) (kc hq HS0.c0),kc (A0 _ _) (kc hq HS0.c3),kc (A0 _ _) (kc hq HE0.out)⟩);have f0:=HF.m0;have f1:=HF.g3;have f2:=HF.e0;have f3:=HF.m1;have f4:=HF.g0)
 all_goals(go_ret;exact⟨A9 (by simp;try omega),HF.bel⟩)):p:=h
theorem K8{p:Prop}(h:p:=by
 go_enter func44,ntmps44
 go_wp2_with(go_at_call 65;refine(HKI.out _ (HS0.below (A0 _ _))).mono ?_;rintro e w1 ⟨⟨A,rfl⟩,hb1⟩;have HF:Hid (MW w w1.heap.size G C b o (.slice p N q) L0 L1 L2 L3 L4 op true P A (w1.alloc (.cells #[.bool true,.int .i64 P,.int .i64 A] 114))):=(by have hq:=bel (A0 _ _) hb1;exact⟨bel hq (A0 _ _),kc (A0 _ _) (kc hb1 sG),kc (A0 _ _) (kc hb1 sG),kc (A0 _ _) (kc hb1 sG),kc (A0 _ _) (kc hb1 sG),kc (A0 _ _) (kc hb1 sG),sG,sG,kc (A0 _ _) (kc hq HS0.c0),kc (A0 _ _) (kc hq HS0.c3),kc (A0 _ _) (kc hq HE0.out)⟩);have f0:=HF.m0;have f1:=HF.g3;have f2:=HF.e0;have f3:=HF.m1;have f4:=HF.g0)
 all_goals(go_ret;exact⟨A9 (by simp;try omega),HF.bel⟩)):p:=h
theorem BY{p:Prop}(h:p:=by
 go_enter func54,ntmps54
 go_wp2
 go_ret2
 exact⟨rfl,rfl⟩):p:=h
theorem EN{p:Prop}(h:p:=by
 show Bd c.sign (Ak c.regs (R:Int))=_
 unfold Ak
 rw[if_pos hin,Int.toNat_natCast,gB hR]
 rfl):p:=h
theorem K9{p:Prop}(h:p:=by
 try(go_wp2_with fail)
 refine AP hK fun hJ=>?_
 clear hK K
 refine wpAnyH_take (i:=7) (v:=?_) (by simp only[List.getElem?_toArray,List.getElem?_cons_succ,List.getElem?_cons_zero];rfl) kR kR kR (by exact fun _ _ _ h=>h) (Or.inl ⟨rF,?_⟩) (by assumption) ?_
 rotate_left 1
 ·(intro wS hSw;(try dsimp only at hSw);go_simp;try(with_reducible rfl))
 try simp only[Act.put,List.setIfInBounds_toArray,List.set_cons_zero,List.set_cons_succ]
 refine wpAnyH_done kR ?_ _
 go_wp2
 go_ret
 exact⟨A9 sM,(HC.out w3 HB3).bel⟩):p:=h
theorem JJ{p:Prop}(h:p:=by
 have e95:(c==(95:Int))=false:=by rw[beq_eq_false_iff_ne];omega
 have e46:(c==(46:Int))=false:=by rw[beq_eq_false_iff_ne];omega
 have e47:(c==(47:Int))=false:=by rw[beq_eq_false_iff_ne];omega
 have e45:(c==(45:Int))=false:=by rw[beq_eq_false_iff_ne];omega
 have hp2:CN c=false:=by unfold CN;simp[*]
 clear h hp NX NB
 go_wp2
 go_meet
 exact⟨by rw[hp2];rfl,rfl⟩):p:=h
theorem Lm{p:Prop}(h:p:=by
 go_simp
 refine AP hK fun hJ=>?_
 clear hK K
 clear hJ
 refine AO 10 fun K hK=>?_
 refine Dv rF _ _ _ rF _ _ _ rF rF HR3.out ?_
 refine AP hK fun hJ=>?_
 clear hK K
 refine wpAnyH_take (i:=11) (v:=?_) (by simp only[List.getElem?_toArray,List.getElem?_cons_succ,List.getElem?_cons_zero];rfl) kR kR kR (by exact fun _ _ _ h=>h) (Or.inl ⟨rF,?_⟩) (by assumption) ?_
 rotate_left 1
 ·(intro wS hSw;(try dsimp only at hSw);go_simp;try(with_reducible rfl))
 try simp only[Act.put,List.setIfInBounds_toArray,List.set_cons_zero,List.set_cons_succ]
 refine wpAnyH_take (i:=12) (v:=?_) (by simp only[List.getElem?_toArray,List.getElem?_cons_succ,List.getElem?_cons_zero];rfl) kR kR kR (by exact fun _ _ _ h=>h) (Or.inl ⟨rF,?_⟩) (by assumption) ?_
 rotate_left 1
 ·(intro wS hSw;(try dsimp only at hSw);go_simp;try(with_reducible rfl))
 try simp only[Act.put,List.setIfInBounds_toArray,List.set_cons_zero,List.set_cons_succ]
 clear hJ
 refine AO 13 fun K hK=>?_
 go_simp
 refine AP hK fun hJ=>?_
 clear hK K
 refine wpAnyH_done kR ?_ _
 go_wp2
 first|go_end0|(simp only[Exit.inBlock,Exit.then];refine bodyPost_ret (results_none rfl _ _ _) rfl ?_)|refine bodyPost_ret (results_none rfl _ _ _) rfl ?_
 exact⟨rfl,HF.1,_,_,HF.2⟩):p:=h
theorem Ka{p:Prop}(h:p:=by
 go_enter func23,ntmps23
 go_wp2_with(go_at_call 32;(with_reducible refine(HSG.out _ (A0 _ _)).mono ?_);rintro e w1 ⟨rfl,hb1⟩;have HX1:Hid (CX w (.slice p0 n0 q0) (.slice p1 n1 q1) (.slice p2 n2 q2) (.slice p3 n3 q3) w1):=(CX.start w _ _ _ _).next hb1;obtain⟨b1,b2,c0,c1,c2,c3⟩:=HX1.out;clear hb1)
 all_goals go_ret2
 all_goals exact⟨rfl,HX1.bel⟩):p:=h
theorem Ln{p:Prop}(h:p:=by
 try simp only[Act.put,List.setIfInBounds_toArray,List.set_cons_zero,List.set_cons_succ]
 refine wpAnyH_take (i:=21) (v:=?_) (by simp only[List.getElem?_toArray,List.getElem?_cons_succ,List.getElem?_cons_zero];rfl) kR kR kR (by exact fun _ _ _ h=>h) (Or.inl ⟨rF,?_⟩) (by assumption) ?_
 rotate_left 1
 ·(intro wS hSw;(try dsimp only at hSw);go_simp;try(with_reducible rfl))
 try simp only[Act.put,List.setIfInBounds_toArray,List.set_cons_zero,List.set_cons_succ]
 refine wpAnyH_take (i:=22) (v:=?_) (by simp only[List.getElem?_toArray,List.getElem?_cons_succ,List.getElem?_cons_zero];rfl) kR kR kR (by exact fun _ _ _ h=>h) (Or.inl ⟨rF,?_⟩) (by assumption) ?_
 rotate_left 1
 ·(intro wS hSw;(try dsimp only at hSw);go_simp;try(with_reducible rfl))
 try simp only[Act.put,List.setIfInBounds_toArray,List.set_cons_zero,List.set_cons_succ]
 refine wpAnyH_done kR ?_ _
 go_wp2
 go_ret
 exact⟨A9 sM,bel HF.bel (Aa _)⟩):p:=h
theorem Jl{p:Prop}(h:p:=by
 go_enter func83,ntmps83
 go_wp2_with(go_at_call 85;refine(HK.out _).mono ?_;rintro e w1 ⟨rfl,rfl⟩)
 go_ret
 exact⟨A9 (HP.out _ sO),rfl⟩):p:=h
theorem JK{p:Prop}(h:p:=by
 have e47:(c==(47:Int))=false:=by rw[beq_eq_false_iff_ne];omega
 have e45:(c==(45:Int))=false:=by rw[beq_eq_false_iff_ne];omega
 have hp2:CN c=true:=by unfold CN;simp[*]
 clear h hp NX NB
 go_wp2
 go_meet
 exact⟨by rw[hp2];rfl,rfl⟩):p:=h
theorem Lo{p:Prop}(h:p:=by
 go_enter func39,ntmps39
 go_wp2_with(first
  |(go_at_call 55;refine HK1.mono ?_;rintro e w1 ⟨rfl,hb1⟩)
  |(go_at_call 57;refine(HK2.out _ (HR.below hb1)).mono ?_;rintro e w2 ⟨D,rfl,hm,hf,hb2⟩;have HM1:Hid (C5 w2 w1.heap.size n D):=hm;have hs:Maps.size D=n:=(by rw[hf.no HW.out,HN.out]);have hs2:¬ ((Maps.size D:Int)<(n:Int)):=oM;have HS:Hid (¬ ((Maps.size D:Int)<(n:Int))):=hs2;clear hm hf hs)
  |(have _t:=HM1;at_len;refine wpList_len_own _ rfl _ 105 rfl 9 3 underlying105 _ w1.heap.size n D rfl HM1.out ?_;clear HM1)
  |(go_at_call 58;refine(HK3.out _ (HR.below (bel hb1 hb2))).mono ?_;rintro e w3 ⟨rfl,hb3⟩))
 all_goals(go_ret;exact⟨rfl,bel (bel hb1 hb2) hb3⟩)):p:=h
theorem Lp{p:Prop}(h:p:=by
 go_enter func34,ntmps34
 go_wp2_with(first
  |(go_at_call 33;refine(HT.out _).mono ?_;rintro e w1 ⟨rfl,hb1⟩;have f0:w1.cell? ⟨w.heap.size,0,none⟩=some (.int .i64 K):=kc hb1 sG;have f3:w1.cell? ⟨w.heap.size,3,none⟩=some (.int .u32 B):=kc hb1 sG;have f4:w1.cell? ⟨w.heap.size,4,none⟩=some (.int .i64 I):=kc hb1 sG;have HB1:Hid _:=hb1;clear hb1)
  |(go_at_call 50;refine(HK.out _).mono ?_;rintro e w2 ⟨rfl,hb2⟩;have HB2:Hid _:=hb2;clear hb2))
 go_ret
 first
  |refine⟨A9 ?_,bel (A0 _ _) (bel HB1.out HB2.out)⟩
  |refine⟨A9 ?_,bel (A0 _ _) HB1.out⟩
 first
  |(simp[*];done)
  |(simp[*];omega)
  |(simp[*];intro h;omega)):p:=h
theorem Lq{p:Prop}(h:p:=by
 go_enter func34,ntmps34
 go_wp2_with(first
  |(go_at_call 33;refine(HT.out _).mono ?_;rintro e w1 ⟨rfl,hb1⟩;have f0:w1.cell? ⟨w.heap.size,0,none⟩=some (.int .i64 2):=kc hb1 sG;have f3:w1.cell? ⟨w.heap.size,3,none⟩=some (.int .u32 B):=kc hb1 sG;have f4:w1.cell? ⟨w.heap.size,4,none⟩=some (.int .i64 I):=kc hb1 sG;have HB1:Hid _:=hb1;clear hb1)
  |(go_at_call 50;refine(HK.out _).mono ?_;rintro e w2 ⟨rfl,hb2⟩;have HB2:Hid _:=hb2;clear hb2))
 go_ret
 first
  |refine⟨A9 ?_,bel (A0 _ _) (bel HB1.out HB2.out)⟩
  |refine⟨A9 ?_,bel (A0 _ _) HB1.out⟩
 first
  |(simp[*];done)
  |(simp[*];omega)
  |(simp[*];intro h;omega)):p:=h
theorem Kb{p:Prop}(h:p:=by
 go_enter func61,ntmps61
 go_wp2_with(go_at_call 76;refine(HK.out _).mono ?_;rintro e w1 ⟨rfl,rfl⟩)
 refine bodyPost_ret (by simp[results,results61,go_sem, *];try rfl) rfl ?_
 exact⟨by rw[HT.out];rfl,gG⟩):p:=h
theorem JL{p:Prop}(h:p:=by
 rw[hc];clear hc
 go_enter func86,ntmps86
 go_wp2_with(go_at_call 88;refine(Gx _ h0 h1 _).mono ?_;rintro e w' ⟨rfl,rfl⟩)
 go_ret
 exact⟨rfl,rfl⟩):p:=h
theorem Lr{p:Prop}(h:p:=by
 try(go_wp2_with fail)
 refine AP hK fun hJ=>?_
 clear hK K
 refine wpAnyH_take (i:=8) (v:=?_) (by simp only[List.getElem?_toArray,List.getElem?_cons_succ,List.getElem?_cons_zero];rfl) kR kR kR (by exact fun _ _ _ h=>h) (Or.inl ⟨rF,?_⟩) (by assumption) ?_
 rotate_left 1
 ·(intro wS hSw;(try dsimp only at hSw);go_simp;try(with_reducible rfl))
 try simp only[Act.put,List.setIfInBounds_toArray,List.set_cons_zero,List.set_cons_succ]
 refine wpAnyH_done kR ?_ _
 go_wp2
 go_roundw
 case rel=>exact⟨HCX.next HB2.out,j+1,oM,gN,NX.out fT⟩
 case measure=>simp[intOf];omega):p:=h
theorem Ls{p:Prop}(h:p:=by
 try(go_wp2_with fail)
 refine AP hK fun hJ=>?_
 clear hK K
 refine wpAnyH_take (i:=8) (v:=?_) (by simp only[List.getElem?_toArray,List.getElem?_cons_succ,List.getElem?_cons_zero];rfl) kR kR kR (by exact fun _ _ _ h=>h) (Or.inl ⟨rF,?_⟩) (by assumption) ?_
 rotate_left 1
 ·(intro wS hSw;(try dsimp only at hSw);go_simp;try(with_reducible rfl))
 try simp only[Act.put,List.setIfInBounds_toArray,List.set_cons_zero,List.set_cons_succ]
 refine wpAnyH_done kR ?_ _
 go_wp2
 go_ret2
 exact⟨CF (NB.out fT),bel HCX.bel HB2.out⟩):p:=h
theorem Kc{p:Prop}(h:p:=by
 refine⟨fun j hj=>?_,hv.below hb0⟩
 have hj':j<4:=hj
 obtain rfl|rfl|rfl|rfl:j=0\/j=1\/j=2\/j=3:=oM
 .exact x0
 .exact x1
 .exact x2
 .exact x3):p:=h
theorem Lu{p:Prop}(h:p:=by
 go_enter func28,ntmps28
 go_wp2_with(first
  |(go_at_call 39;refine HK1.mono ?_;rintro e w1 ⟨rfl,hb1⟩;obtain⟨d1,d2,d3⟩:=HC.out w1 hb1)
  |(go_at_call 40;refine(HK2.out _ (HC0.below hb1)).mono ?_;rintro e w2 ⟨rfl,hb2⟩;have HB2:=bel hb1 hb2)
  |(go_at_call 41;refine(HK3.out _ (HC0.below HB2)).mono ?_;rintro e w3 ⟨rfl,hb3⟩;have HB3:=bel HB2 hb3))
 all_goals(go_ret;exact⟨rfl,HB3⟩)):p:=h
theorem Ix{p:Prop}(h:p:=by
 exact⟨rfl,bel (A0 _ _) (A0 _ _)⟩):p:=h
theorem Kx{p:Prop}(h:p:=by
 intro x hx
 obtain⟨k,rfl,hkl⟩:=BA hx
 obtain⟨lb,lo,hp,hc⟩:=Bl.at (p:=p1) (n:=c.regs.length) (c:=q1) hv.regs hkl
 rw[BP rfl hkl]
 exact⟨k,lb,lo,rfl,hkl,hp,hc.at 0 rfl,hc.at 1 rfl⟩):p:=h
theorem Lv{p:Prop}(h:p:=by
 clear h h34 h36 hno
 go_wp2_with(go_at_call 67;refine HK.mono ?_;rintro e w1 ⟨rfl,hb1,hoff,vs',vo',hws⟩;have HP:Hid (PS E G C n gi w.heap.size L0 w T vs' vo' w1):=(by refine⟨HB1.trans hb1,by rw[HT1.out];exact hws,?_,oM,oM⟩;rw[gC (hoff w.heap.size (by have:=HVS.out;omega) oM oM)];exact HVB.out);clear hb1 hoff hws)
 go_meet
 exact⟨_,_,HP.out⟩):p:=h
theorem Ky{p:Prop}(h:p:=by
 go_enter func28,ntmps28
 go_wp2_with(go_at_call 39;refine HK1.mono ?_;rintro e w1 ⟨rfl,hb1⟩;obtain⟨d1,d2,d3⟩:=HC.out w1 hb1)
 all_goals(go_ret;exact⟨rfl,hb1⟩)):p:=h
theorem Kz{p:Prop}(h:p:=by
 go_wp2_with fail
 refine bodyPost_ret (by simp[results,results10,go_sem, *];try rfl) rfl ?_
 exact⟨by rw[(Prod.mk.inj HVV.out).1,(Prod.mk.inj HVV.out).2],HB.out⟩):p:=h
theorem Jm{p:Prop}(h:p:=by
 by_cases e:i=j
 .subst e;exact hq
 .exact hp.out i h oM):p:=h
theorem Lw{p:Prop}(h:p:=by
 clear h
 go_enter func51,ntmps51
 go_wp2_with(first
  |(go_at_call 54;refine(HROW.out _).mono ?_;rintro e w1 ⟨rfl,rfl⟩)
  |(go_at_call 50;refine(HCAN.out _).mono ?_;rintro e w2 ⟨rfl,hb2⟩;have HB2:Hid _:=hb2;clear hb2))
 go_ret
 exact⟨rfl,bel (bel (A0 _ _) (A0 _ _)) HB2.out⟩):p:=h
theorem Lx{p:Prop}(h:p:=by
 go_enter func24,ntmps24
 go_wp2_with(go_at_call 38;(with_reducible refine(KE.out _).mono ?_);rintro r9 w8 ⟨rfl,hw8⟩;have hw8:=hw8.symm;subst hw8)
 try rw[hA_C]
 try rw[hA_I]
 refine bodyPost_ret (by simp[results,results24,go_sem, *];try rfl) rfl ?_
 exact⟨rfl,HB.out⟩):p:=h
theorem KA{p:Prop}(h:p:=by
 have h1:=FB hT hx
 have h2:(Ak c.regs x).kind=3:=by simpa[Cn]using hk
 unfold Am at h1
 rw[if_neg oM,if_pos h2]at h1
 exact h1):p:=h
theorem Ly{p:Prop}(h:p:=by
 go_enter func22,ntmps22
 go_wp2_with(go_at_call 31;(with_reducible refine(KE.out _).mono ?_);rintro r9 w8 ⟨rfl,hw8⟩;have hw8:=hw8.symm;subst hw8)
 refine bodyPost_ret (by simp[results,results22,go_sem, *];try rfl) rfl ?_
 exact⟨rfl,HB0.out⟩):p:=h
theorem KD{p:Prop}(h:p:=by
 subst hx
 go_wp2_with fail
 refine bodyPost_ret (by simp[results,results17,go_sem, *];try rfl) rfl ?_
 exact⟨rfl,HB5.out⟩):p:=h
theorem Ke{p:Prop}(h:p:=by
 have HQ:Hid ((n==0)=RES):=HRT.out
 go_wp2
 go_ret
 exact⟨A9 HQ.out,hbt⟩):p:=h
theorem KH{p:Prop}(h:p:=by
 go_ret
 refine⟨A9 ?_,bel (bel (A0 _ _) (A0 _ _)) (bel HB1.out (A0 _ _))⟩
 simp[Cn, *]):p:=h
theorem KK{p:Prop}(h:p:=by
 rw[f1,f2,f3,f4];unfold JP;clear f1 f2 f3 f4
 go_enter func81,ntmps81
 go_wp2
 go_returns
 exact⟨rfl,_,rfl⟩):p:=h
theorem Lz{p:Prop}(h:p:=by
 try simp only[Act.put,List.setIfInBounds_toArray,List.set_cons_zero,List.set_cons_succ]
 refine wpAnyH_done kR ?_ _
 go_wp2_with fail
 go_roundw
 case rel=>exact⟨k+1,hk1,gN,by rw[HS1.out],RC8,HB8⟩
 case measure=>simp[intOf];omega):p:=h
theorem LA{p:Prop}(h:p:=by
 rw[gC (gE (by show w.heap.size≠G;omega)),hfar ⟨w.heap.size,0,none⟩ (by have:=HVS.out;show w.heap.size<_;omega) (fun e=>by have:=(HS.opn.lt _ e).2;simp at this)]
 exact HVB.out):p:=h
theorem Kf{p:Prop}(h:p:=by
 go_enter func25,ntmps25
 go_wp2
 go_ret
 exact⟨rfl,A0 _ _⟩):p:=h
theorem Kg{p:Prop}(h:p:=by
 unfold JX
 obtain rfl|rfl|rfl|rfl:j=0\/j=1\/j=2\/j=3:=oM
 all_goals rfl):p:=h
theorem Kh{p:Prop}(h:p:=by
 rcases(show j=0\/j=1\/j=2\/j=3 by omega)with rfl|rfl|rfl|rfl<;>rfl):p:=h
theorem LB{p:Prop}(h:p:=by
 try simp only[Act.put,List.setIfInBounds_toArray,List.set_cons_zero,List.set_cons_succ]
 refine wpAnyH_done kR ?_ _
 go_wp2
 go_ret
 exact⟨A9 (NB.out sM).symm,bel hb (bel (A0 _ _) HB1)⟩):p:=h
theorem Ki{p:Prop}(h:p:=by
 go_wp2
 go_ret
 exact⟨A9 (by simp[h];try omega),rfl⟩):p:=h
theorem LC{p:Prop}(h:p:=by
 have:j=n:=oM
 subst this
 have HF:Hid (B6 (l.take j)=B6 l):=by show _=_;rw[List.take_of_length_le (by rw[HN.out];exact gF _)]
 go_wp2
 go_ret
 exact⟨BQ HF.out,hb⟩):p:=h
theorem LD{p:Prop}(h:p:=by
 by_cases a:K=1
 .subst a;exact .inl ⟨rfl,rfl⟩
 .by_cases b:K=2
  .subst b;exact .inr (.inl ⟨rfl,rfl⟩)
  .exact .inr (.inr ⟨by simpa using a,by simpa using b⟩)):p:=h
theorem LF{p:Prop}(h:p:=by
 go_wp2_with(go_at_call 72;(with_reducible refine(HPA.out _ hbt).mono ?_);rintro e w7 ⟨rfl,hb7⟩;have HB7:Hid _:=hb7;clear hb7)
 go_ret
 exact⟨rfl,bel hbt HB7.out⟩):p:=h
theorem LG{p:Prop}(h:p:=by
 unfold Oper.wp execOp
 simp only[ho,resolve,invoke,builtin,Sem.run_bind,Sem.run_pure,Result.andThen_ok,List.map_toArray,List.map_cons,List.map_nil,hs,hx,hr]
 exact h):p:=h
theorem KP{p:Prop}(h:p:=by
 rw[List.length_append,Ep]
 exact AI (by simpa using h3) hr dE hp.2):p:=h
theorem LH{p:Prop}(h:p:=by
 have:j=s.size:=oM
 subst this
 have HF:Hid (AF s=true):=F7 h0 h64 fun i h=>hp.out i h h
 clear hp
 go_wp2
 go_ret
 exact⟨A9 HF.symm,rfl⟩):p:=h
theorem LI{p:Prop}(h:p:=by
 have hl0:=HL.2.2.2 rfl
 clear hF
 go_wp2
 go_ret
 refine⟨_,rfl,?_,HF.bel⟩
 rw[<-HR.out,<-hl0]
 exact Do HO.out (by have:=HF.hC;omega)):p:=h
theorem KQ{p:Prop}(h:p:=by
 go_enter func59,ntmps59
 go_wp2
 go_ret
 exact⟨rfl,A0 _ _⟩):p:=h
theorem KU{p:Prop}(h:p:=by
 go_enter func33,ntmps33
 go_wp2
 go_ret
 exact⟨rfl,A0 _ _⟩):p:=h
theorem LJ{p:Prop}(h:p:=by
 go_enter func70,ntmps70
 go_wp2_with(go_at_call 81;refine(IX _ oM oM _).mono ?_;rintro e w' ⟨rfl,o,rfl⟩)
 go_ret
 exact⟨rfl,gG⟩):p:=h
theorem KV{p:Prop}(h:p:=by
 subst hl
 rw[AQ dE]at h
 simp only[Bool.and_eq_true]at h
 exact h.2):p:=h
theorem Kj{p:Prop}(h:p:=by
 go_ret
 exact⟨rfl,bel (A0 _ _) hb1⟩):p:=h
theorem Kk{p:Prop}(h:p:=by
 exact hp.out i hi (by rw[<-HN.out];exact hi)):p:=h
theorem LK{p:Prop}(h:p:=by
 clear HC4
 go_wp2_with(go_at_call 49;refine HK.mono ?_;rintro e w1 ⟨rfl,hb1⟩)
 go_ret
 exact⟨BQ HC5.symm,bel hb' hb1⟩):p:=h
theorem KX{p:Prop}(h:p:=by
 go_enter func27,ntmps27
 go_wp2
 go_ret
 exact⟨rfl,rfl⟩):p:=h
theorem LL{p:Prop}(h:p:=by
 exact AA h1 dE (Aj _ _ _ _) (fun _=>Aj _ _ _ _) (fun _=>Aj _ _ _ _) (fun _=>Aj _ _ _ _) rfl):p:=h
theorem LM{p:Prop}(h:p:=by
 go_wp2_with(go_at_call 76;refine(HK.out _).mono ?_;rintro e w1 ⟨rfl,rfl⟩)
 go_ret
 exact⟨rfl,A0 _ _⟩):p:=h
theorem A5{p:Prop}(h:p:=by simp only[List.getElem?_toArray,List.getElem?_cons_succ,List.getElem?_cons_zero];rfl):p:=h
theorem A6{p:Prop}(h:p:=by exact fun _ _ _ h=>h):p:=h
theorem A7{p:Prop}(h:p:=by assumption):p:=h
theorem KY{p:Prop}(h:p:=by have hq:=bel (A0 _ _) hb1;exact⟨bel hq (A0 _ _),kc (A0 _ _) (kc hb1 sG),kc (A0 _ _) (kc hb1 sG),kc (A0 _ _) (kc hb1 sG),kc (A0 _ _) (kc hb1 sG),kc (A0 _ _) (kc hb1 sG),sG,sG,kc (A0 _ _) (kc hq HS0.c0),kc (A0 _ _) (kc hq HS0.c3),kc (A0 _ _) (kc hq HE0.out)⟩):p:=h
theorem Kl{p:Prop}(h:p:=by exact⟨bel hw1 (A0 _ _),sG,sG,sG,sG,sG,kc (A0 _ _) (kc hw1 g0)⟩):p:=h
theorem Jf{p:Prop}(h:p:=by simp[Value.oneCell']):p:=h
theorem Km{p:Prop}(h:p:=by rw[<-hA_C,<-hS_C];exact Ff w _ _ _ _ _):p:=h
theorem LO{p:Prop}(h:p:=by have:=C7 r.reverse ⟨L,P,A⟩ 2 (u:=.int .i64 A) rfl;rwa[hl]at this):p:=h
theorem LP{p:Prop}(h:p:=by have:=C7 r.reverse ⟨L,P,A⟩ 1 (u:=.int .i64 P) rfl;rwa[hl]at this):p:=h
theorem LQ{p:Prop}(h:p:=by have:=C7 r.reverse ⟨L,P,A⟩ 0 (u:=.bool L) rfl;rwa[hl]at this):p:=h
theorem KZ{p:Prop}(h:p:=by simp[results,results82,go_sem, *];try rfl):p:=h
theorem Kn{p:Prop}(h:p:=by rw[Ds];omega):p:=h
theorem Ko{p:Prop}(h:p:=by rw[HE.out];simp):p:=h
end Go.Proofs.Ytheanilpbnencaa
