import Derived.RowKit3
import Derived.Test.YtchbjcldkcfffaaRows
import Derived.WalkKit
import Derived.WalkSpells
import Derived.WalkLawsBesides
import Derived.LoopN
import Derived.Below
import Derived.OwnWalk
import Derived.Shelf.Abstract
import Derived.Deep.AppendLies
import Derived.Maps.AppendAt
import Derived.Laws.AppendOwnNone
import Derived.Deep.OwnRows
import Derived.Deep.DeepCutAuto
import Derived.Deep.QuietTactic
import Derived.Deep.RegionHeld3
import Derived.BigQuiet
import Derived.Handy
import Derived.OrdersHeld
namespace Go.Proofs.Ytchbjcldkcfffaa
open Go.RowKit Go.Proofs.Try
set_option linter.all false
set_option maxRecDepth 100000
set_option maxHeartbeats 16000000
abbrev Bs:=List UInt8
def bs(s:ByteArray):Bs:=s.data.toList
def nb(b:UInt8):Int:=(b.toNat:Int)
def hd:Bs→Int
 |[]=>0
 |b::_=>nb b
theorem GZ(s:ByteArray):(bs s).length=s.size:=by simp[bs]
theorem Kk(s:ByteArray):(⟨(bs s).toArray⟩:ByteArray)=s:=by simp[bs]
theorem Kx{s t:ByteArray}(h:bs s=bs t):s=t:=by rw[←Kk s,←Kk t,h]
structure Ba where
 name:ByteArray
 kind:Int
 len:Int
def Hl(c:Int):Bool:=
 (decide (97≤c)&&decide (c≤122))||(decide (65≤c)&&decide (c≤90))||(decide (48≤c)&&decide (c≤57))||c==95||c==46||c==47||c==45
def Bh(s:ByteArray):Bool:=(s.size != 0&&decide (s.size≤64))&&(bs s).all fun b=>Hl (nb b)
def Bm(p:Ba):Bool:=(Bh p.name&&(p.kind==1||p.kind==2))&&(decide (1≤p.len)&&decide (p.len≤4096))
def Es(p:Ba):Int:=if Bm p then(if p.kind==2 then 2*p.len else p.len)else 0
def Cf:List Ba→Int
 |[]=>0
 |p::r=>Es p+Cf r
def Bd(s:ByteArray):List Ba→Option Nat
 |[]=>none
 |p::r=>if p.name=s then some 0 else(Bd s r).map (· +1)
def Bp:List Ba→Bool
 |[]=>false
 |p::r=>(r.any fun q=>decide (q.name=p.name))||Bp r
def BV(l:List Ba):Int:=
 if l.length>64 then 2 else if l.all Bm=false then 100 else if Bp l then 101 else if Cf l>65536 then 102 else 0
theorem E0(p:Ba):0≤Es p∧Es p≤8192:=by
 unfold Es
 split
 ·rename_i h
  unfold Bm at h
  simp at h
  split<;>omega
 ·decide
theorem Jq(l:List Ba)(p:Ba):Cf (l++[p])=Cf l+Es p:=by
 induction l with
 |nil=>simp[Cf]
 |cons q r ih=>simp only[List.cons_append,Cf,ih];omega
theorem Em(l:List Ba):0≤Cf l∧Cf l≤8192*(l.length:Int):=by
 induction l with
 |nil=>simp[Cf]
 |cons q r ih=>have:=E0 q;simp only[Cf,List.length_cons];omega
theorem EM{α:Type}{l:List α}{i:Nat}(h:i<l.length):l.take (i+1)=l.take i++[l[i]]:=by simp
def ER:Bs→Bs→List Bs
 |cur,[]=>if cur.isEmpty then [] else [cur]
 |cur,b::t=>if nb b==10 then cur::ER [] t else ER (cur++[b]) t
def Gw:Bs→Bs→List Bs
 |cur,[]=>[cur]
 |cur,b::t=>if nb b==32 then cur::Gw [] t else Gw (cur++[b]) t
def KP(c:Int):Bool:=decide (48≤c)&&decide (c≤57)
def L5:Int→Bs→Int
 |n,[]=>n
 |n,b::t=>L5 (n*10+(nb b-48)) t
def Mg(s:Bs):Option Int:=
 if s.isEmpty||decide (4<s.length)||hd s==48 then none
 else if(s.all fun b=>KP (nb b))then(if L5 0 s≤4096 then some (L5 0 s)else none)else none
def Lo:Bs:=[114,101,97,108]
def DS:Bs:=[99,111,109,112,108,101,120]
def Mj(a k n:Bs):Option Ba:=
 if k==Lo||k==DS then
  (match Mg n with
   |some m=>if Bm ⟨⟨a.toArray⟩,if k==DS then 2 else 1,m⟩then some ⟨⟨a.toArray⟩,if k==DS then 2 else 1,m⟩else none
   |none=>none)
 else none
def Lh(s:Bs):Option Ba:=
 match Gw [] s with
 |[a,k,n]=>Mj a k n
 |_=>none
structure Mq where
 list:List Ba
 err:Int
 line:Nat
def GR:List Ba→Nat→List Bs→Mq
 |acc,n,[]=>⟨acc,0,0⟩
 |acc,n,x::r=>if x.isEmpty||hd x==35 then GR acc (n+1) r else
  match Lh x with
  |none=>⟨[],250,n+1⟩
  |some p=>GR (acc++[p]) (n+1) r
theorem bel{a b c:World}(h:Below a.heap.size a b)(k:Below b.heap.size b c):Below a.heap.size a c:=h.trans (k.mono h.size)
theorem D0(w:World):Below w.heap.size w w:=Below.refl _ _
theorem A0(w:World)(o:Obj):Below w.heap.size w (w.alloc o):=(Below.refl _ _).alloc (Nat.le_refl _) o
theorem Ah(w:World):Below w.heap.size w w.drew:=(Below.refl _ _).drew
theorem Ac{w:World}{a:Addr}{v:Value}(h:w.cell? a=some v):a.block<w.heap.size:=by
 rcases Nat.lt_or_ge a.block w.heap.size with c|c
 ·exact c
 ·have:w.heap[a.block]? =none:=Array.getElem?_eq_none c
  simp[World.cell?,this]at h
theorem Af{a b:Bool}(h:a=b):Ending.returned (.bool a)=.returned (.bool b):=by rw[h]
theorem GS{k:IntKind}{a b:Int}(h:a=b):Ending.returned (.int k a)=.returned (.int k b):=by rw[h]
def pv(p:Ba):Value:=.agg #[.string p.name,.int .i64 p.kind,.int .i64 p.len]
def Az(p:Ba):List Value:=[.string p.name,.int .i64 p.kind,.int .i64 p.len]
def L9(w:World)(b o:Nat)(p:Ba):Prop:=
 w.cell? ⟨b,o,none⟩=some (.string p.name)∧w.cell? ⟨b,o+1,none⟩=some (.int .i64 p.kind)∧w.cell? ⟨b,o+2,none⟩=some (.int .i64 p.len)
theorem L9.below{w w':World}{b o:Nat}{p:Ba}(h:L9 w b o p)(k:Below w.heap.size w w'):L9 w' b o p:=
 ⟨(k.cell (Ac h.1)).trans h.1,(k.cell (Ac h.2.1)).trans h.2.1,(k.cell (Ac h.2.2)).trans h.2.2⟩
def Jw(w:World)(p:Option Addr)(l:List Ba):Prop:=l=[]∨∃b o,p=some ⟨b,o,none⟩∧∀i (h:i<l.length),L9 w b (o+i*3) l[i]
def Rd(w:World)(v:Value)(l:List Ba):Prop:=∃p c,v=.slice p l.length c∧Jw w p l
theorem Jw.below{w w':World}{p:Option Addr}{l:List Ba}(h:Jw w p l)(k:Below w.heap.size w w'):Jw w' p l:=
 h.imp id fun⟨b,o,hp,h⟩=>⟨b,o,hp,fun i hi=>(h i hi).below k⟩
theorem Rd.below{w w':World}{v:Value}{l:List Ba}(h:Rd w v l)(k:Below w.heap.size w w'):Rd w' v l:=by
 obtain⟨p,c,hv,h⟩:=h
 exact⟨p,c,hv,h.below k⟩
theorem Jw.at{w:World}{p:Option Addr}{l:List Ba}(h:Jw w p l){i:Nat}(hi:i<l.length):∃b o,p=some ⟨b,o,none⟩∧L9 w b (o+i*3) l[i]:=by
 rcases h with h|⟨b,o,hp,h⟩
 ·rw[h]at hi;exact absurd hi (Nat.not_lt_zero _)
 ·exact⟨b,o,hp,h i hi⟩
def cellsOf(l:List Ba):List Value:=l.flatMap Az
def Na(w:World)(B:Nat)(v:Value)(l:List Ba):Prop:=w.ownsRow B 42 3 v l.length (cellsOf l)

theorem Bo{P:Program}{md:Region.Mode}{ops:Array Oper}{Q:Exit→Act→World→Prop}{S:World→Prop}(i:Nat){oi:Oper}{v:Value}{fuel:Nat}{listed l':Array Bool}{a a':Act}{w:World}
 (h:wpAnyH P md ops Q S fuel l' a' w)
 (hi:ops[i]? =some oi:=by simp only[List.getElem?_toArray,List.getElem?_cons_succ,List.getElem?_cons_zero];rfl)
 (hw:Region.wanted oi (yielded ops a.tmps)=true:=by rfl)
 (hv:∀w,S w→(execOp a.eval oi).run P w=.ok (.value v) w:=by(intro wS hSw;(try dsimp only at hSw);go_simp;try(with_reducible rfl)))
 (hl:listed.setIfInBounds i true=l':=by(try simp only[List.setIfInBounds_toArray,List.set_cons_zero,List.set_cons_succ]);rfl)
 (ha:a.put oi.dst v=a':=by(try simp only[Act.put,List.setIfInBounds_toArray,List.set_cons_zero,List.set_cons_succ]);rfl)
 (hs:Region.noSelect ops=true:=by kernel_rfl) (hf:Region.free md ops listed i=true:=by kernel_rfl) (hr:(Region.ready md ops listed).contains i=true:=by kernel_rfl)
 (hQ:∀c a w,Q (.panic c) (a.put oi.dst v) w→Q (.panic c) a w:=by exact fun _ _ _ h=>h) (hS:S w:=by assumption):wpAnyH P md ops Q S (fuel+1) listed a w:=
 wpAnyH_take hi hs hf hr hQ (.inl ⟨hw,hv⟩) hS (by rw[hl,ha];exact h)
theorem Ek{P:Program}{md:Region.Mode}{ops:Array Oper}{Q:Exit→Act→World→Prop}{S:World→Prop}(i:Nat){oi:Oper}{fuel:Nat}{listed l':Array Bool}{a a':Act}{w:World}
 (h:wpAnyH P md ops Q S fuel l' a' w)
 (hi:ops[i]? =some oi:=by simp only[List.getElem?_toArray,List.getElem?_cons_succ,List.getElem?_cons_zero];rfl)
 (hw:Region.wanted oi (yielded ops a.tmps)=false:=by rfl)
 (hl:listed.setIfInBounds i true=l':=by(try simp only[List.setIfInBounds_toArray,List.set_cons_zero,List.set_cons_succ]);rfl)
 (ha:a.put oi.dst undef=a':=by(try simp only[Act.put,List.setIfInBounds_toArray,List.set_cons_zero,List.set_cons_succ]);rfl)
 (hs:Region.noSelect ops=true:=by kernel_rfl) (hf:Region.free md ops listed i=true:=by kernel_rfl) (hr:(Region.ready md ops listed).contains i=true:=by kernel_rfl)
 (hQ:∀c a w,Q (.panic c) (a.put oi.dst undef) w→Q (.panic c) a w:=by exact fun _ _ _ h=>h) (hS:S w:=by assumption):wpAnyH P md ops Q S (fuel+1) listed a w:=
 wpAnyH_take hi hs hf hr hQ (.inr ⟨hw,rfl⟩) hS (by rw[hl,ha];exact h)
theorem Aw{P:Program}{md:Region.Mode}{ops:Array Oper}{Q:Exit→Act→World→Prop}{S:World→Prop}(i:Nat){o:Oper}{fuel:Nat}{listed:Array Bool}{a:Act}{w:World}
 (h:∀K':Act→World→Prop,Shut (∀a w,S w→(S w→wpAnyH P md ops Q S fuel (listed.setIfInBounds i true) a w)→K' a w)→if Region.wanted o (yielded ops a.tmps)=true then Oper.wp P o a w K' Q else K' (a.put o.dst undef) w)
 (ho:ops[i]? =some o:=by simp only[List.getElem?_toArray,List.getElem?_cons_succ,List.getElem?_cons_zero];rfl)
 (hr:Region.ready md ops listed=[i]:=by kernel_rfl):wpAnyH P md ops Q S (fuel+1) listed a w:=
 wpAnyH_ready hr (by simp) (AllReadyH.cons ho h AllReadyH.nil)
theorem CM{P:Program}{md:Region.Mode}{ops:Array Oper}{Q:Exit→Act→World→Prop}{S:World→Prop}(i:Nat){o:Oper}{fuel:Nat}{listed:Array Bool}{a:Act}{w:World}{rs:List Nat}
 (h:∀K':Act→World→Prop,Shut (∀a w,S w→(S w→wpAnyH P md ops Q S fuel (listed.setIfInBounds i true) a w)→K' a w)→if Region.wanted o (yielded ops a.tmps)=true then Oper.wp P o a w K' Q else K' (a.put o.dst undef) w)
 (hs:AllReadyH P md ops Q S fuel listed a w rs)
 (ho:ops[i]? =some o:=by simp only[List.getElem?_toArray,List.getElem?_cons_succ,List.getElem?_cons_zero];rfl):AllReadyH P md ops Q S fuel listed a w (i::rs):=
 AllReadyH.cons ho h hs
theorem Gn{p:Prop}(h:p:=by simp only[List.getElem?_toArray,List.getElem?_cons_succ,List.getElem?_cons_zero];rfl):p:=h
theorem Iy{p:Prop}(h:p:=by(intro wS hSw;(try dsimp only at hSw);go_simp;try(with_reducible rfl))):p:=h
theorem FP{p:Prop}(h:p:=by(try simp only[List.setIfInBounds_toArray,List.set_cons_zero,List.set_cons_succ]);rfl):p:=h
theorem FO{p:Prop}(h:p:=by(try simp only[Act.put,List.setIfInBounds_toArray,List.set_cons_zero,List.set_cons_succ]);rfl):p:=h
theorem As{P:Program}{md:Region.Mode}{ops:Array Oper}{Q:Exit→Act→World→Prop}{S:World→Prop}{fuel:Nat}{l l':Array Bool}{a a':Act}{w:World}{K:Act→World→Prop}
 (hK:Shut (∀a w,S w→(S w→wpAnyH P md ops Q S fuel l a w)→K a w)) (h:S w→wpAnyH P md ops Q S fuel l' a' w)
 (hS:S w:=by(try dsimp only);go_keep) (hl:l=l':=by exact FP) (ha:a=a':=by exact FO):K a w:=
 hK.out a w hS (by rw[hl,ha];exact h)
theorem rG{P:Program}{ops:Array Oper}{Q:Exit→Act→World→Prop}(S:World→Prop){id:Nat}{a:Act}{w:World}(h:S w.drew→wpAnyH P .any ops Q S ops.size (Array.replicate ops.size false) a w.drew)
 (hm:P.follows .mixedOrders=true:=by kernel_rfl) (hS:S w.drew:=by(try dsimp only);go_keep):(Code.region id ops true).wp P Q a w:=
 wp_region_held_drew hm hS h
theorem Tb{P:Program}{md:Region.Mode}{ops:Array Oper}{Q:Exit→Act→World→Prop}{S:World→Prop}{fuel:Nat}{w:World}
 (i0 i1:Nat)
 {o0 o1:Oper}
 {v0 v1:Value}
 {l0 l1 l2:Array Bool} {a0 a1 a2:Act}
 (h:wpAnyH P md ops Q S fuel l2 a2 w)
 (hi0:ops[i0]? =some o0:=by exact Gn)
 (hw0:Region.wanted o0 (yielded ops a0.tmps)=true:=by rfl)
 (hv0:∀w,S w→(execOp a0.eval o0).run P w=.ok (.value v0) w:=by exact Iy)
 (hl0:l0.setIfInBounds i0 true=l1:=by exact FP)
 (ha0:a0.put o0.dst v0=a1:=by exact FO)
 (hf0:Region.free md ops l0 i0=true:=by kernel_rfl) (hr0:(Region.ready md ops l0).contains i0=true:=by kernel_rfl)
 (hQ0:∀c a w,Q (.panic c) (a.put o0.dst v0) w→Q (.panic c) a w:=by exact fun _ _ _ h=>h)
 (hi1:ops[i1]? =some o1:=by exact Gn)
 (hw1:Region.wanted o1 (yielded ops a1.tmps)=true:=by rfl)
 (hv1:∀w,S w→(execOp a1.eval o1).run P w=.ok (.value v1) w:=by exact Iy)
 (hl1:l1.setIfInBounds i1 true=l2:=by exact FP)
 (ha1:a1.put o1.dst v1=a2:=by exact FO)
 (hf1:Region.free md ops l1 i1=true:=by kernel_rfl) (hr1:(Region.ready md ops l1).contains i1=true:=by kernel_rfl)
 (hQ1:∀c a w,Q (.panic c) (a.put o1.dst v1) w→Q (.panic c) a w:=by exact fun _ _ _ h=>h)
 (hs:Region.noSelect ops=true:=by kernel_rfl) (hS:S w:=by assumption):wpAnyH P md ops Q S (fuel+2) l0 a0 w:=
 Bo i0 (Bo i1 h hi1 hw1 hv1 hl1 ha1 hs hf1 hr1 hQ1 hS) hi0 hw0 hv0 hl0 ha0 hs hf0 hr0 hQ0 hS
theorem Tc{P:Program}{md:Region.Mode}{ops:Array Oper}{Q:Exit→Act→World→Prop}{S:World→Prop}{fuel:Nat}{w:World}
 (i0 i1 i2:Nat)
 {o0 o1 o2:Oper}
 {v0 v1 v2:Value}
 {l0 l1 l2 l3:Array Bool} {a0 a1 a2 a3:Act}
 (h:wpAnyH P md ops Q S fuel l3 a3 w)
 (hi0:ops[i0]? =some o0:=by exact Gn)
 (hw0:Region.wanted o0 (yielded ops a0.tmps)=true:=by rfl)
 (hv0:∀w,S w→(execOp a0.eval o0).run P w=.ok (.value v0) w:=by exact Iy)
 (hl0:l0.setIfInBounds i0 true=l1:=by exact FP)
 (ha0:a0.put o0.dst v0=a1:=by exact FO)
 (hf0:Region.free md ops l0 i0=true:=by kernel_rfl) (hr0:(Region.ready md ops l0).contains i0=true:=by kernel_rfl)
 (hQ0:∀c a w,Q (.panic c) (a.put o0.dst v0) w→Q (.panic c) a w:=by exact fun _ _ _ h=>h)
 (hi1:ops[i1]? =some o1:=by exact Gn)
 (hw1:Region.wanted o1 (yielded ops a1.tmps)=true:=by rfl)
 (hv1:∀w,S w→(execOp a1.eval o1).run P w=.ok (.value v1) w:=by exact Iy)
 (hl1:l1.setIfInBounds i1 true=l2:=by exact FP)
 (ha1:a1.put o1.dst v1=a2:=by exact FO)
 (hf1:Region.free md ops l1 i1=true:=by kernel_rfl) (hr1:(Region.ready md ops l1).contains i1=true:=by kernel_rfl)
 (hQ1:∀c a w,Q (.panic c) (a.put o1.dst v1) w→Q (.panic c) a w:=by exact fun _ _ _ h=>h)
 (hi2:ops[i2]? =some o2:=by exact Gn)
 (hw2:Region.wanted o2 (yielded ops a2.tmps)=true:=by rfl)
 (hv2:∀w,S w→(execOp a2.eval o2).run P w=.ok (.value v2) w:=by exact Iy)
 (hl2:l2.setIfInBounds i2 true=l3:=by exact FP)
 (ha2:a2.put o2.dst v2=a3:=by exact FO)
 (hf2:Region.free md ops l2 i2=true:=by kernel_rfl) (hr2:(Region.ready md ops l2).contains i2=true:=by kernel_rfl)
 (hQ2:∀c a w,Q (.panic c) (a.put o2.dst v2) w→Q (.panic c) a w:=by exact fun _ _ _ h=>h)
 (hs:Region.noSelect ops=true:=by kernel_rfl) (hS:S w:=by assumption):wpAnyH P md ops Q S (fuel+3) l0 a0 w:=
 Bo i0 (Bo i1 (Bo i2 h hi2 hw2 hv2 hl2 ha2 hs hf2 hr2 hQ2 hS) hi1 hw1 hv1 hl1 ha1 hs hf1 hr1 hQ1 hS) hi0 hw0 hv0 hl0 ha0 hs hf0 hr0 hQ0 hS
theorem Tf{P:Program}{md:Region.Mode}{ops:Array Oper}{Q:Exit→Act→World→Prop}{S:World→Prop}{fuel:Nat}{w:World}
 (i0 i1 i2 i3 i4 i5:Nat)
 {o0 o1 o2 o3 o4 o5:Oper}
 {v0 v1 v2 v3 v4 v5:Value}
 {l0 l1 l2 l3 l4 l5 l6:Array Bool} {a0 a1 a2 a3 a4 a5 a6:Act}
 (h:wpAnyH P md ops Q S fuel l6 a6 w)
 (hi0:ops[i0]? =some o0:=by exact Gn)
 (hw0:Region.wanted o0 (yielded ops a0.tmps)=true:=by rfl)
 (hv0:∀w,S w→(execOp a0.eval o0).run P w=.ok (.value v0) w:=by exact Iy)
 (hl0:l0.setIfInBounds i0 true=l1:=by exact FP)
 (ha0:a0.put o0.dst v0=a1:=by exact FO)
 (hf0:Region.free md ops l0 i0=true:=by kernel_rfl) (hr0:(Region.ready md ops l0).contains i0=true:=by kernel_rfl)
 (hQ0:∀c a w,Q (.panic c) (a.put o0.dst v0) w→Q (.panic c) a w:=by exact fun _ _ _ h=>h)
 (hi1:ops[i1]? =some o1:=by exact Gn)
 (hw1:Region.wanted o1 (yielded ops a1.tmps)=true:=by rfl)
 (hv1:∀w,S w→(execOp a1.eval o1).run P w=.ok (.value v1) w:=by exact Iy)
 (hl1:l1.setIfInBounds i1 true=l2:=by exact FP)
 (ha1:a1.put o1.dst v1=a2:=by exact FO)
 (hf1:Region.free md ops l1 i1=true:=by kernel_rfl) (hr1:(Region.ready md ops l1).contains i1=true:=by kernel_rfl)
 (hQ1:∀c a w,Q (.panic c) (a.put o1.dst v1) w→Q (.panic c) a w:=by exact fun _ _ _ h=>h)
 (hi2:ops[i2]? =some o2:=by exact Gn)
 (hw2:Region.wanted o2 (yielded ops a2.tmps)=true:=by rfl)
 (hv2:∀w,S w→(execOp a2.eval o2).run P w=.ok (.value v2) w:=by exact Iy)
 (hl2:l2.setIfInBounds i2 true=l3:=by exact FP)
 (ha2:a2.put o2.dst v2=a3:=by exact FO)
 (hf2:Region.free md ops l2 i2=true:=by kernel_rfl) (hr2:(Region.ready md ops l2).contains i2=true:=by kernel_rfl)
 (hQ2:∀c a w,Q (.panic c) (a.put o2.dst v2) w→Q (.panic c) a w:=by exact fun _ _ _ h=>h)
 (hi3:ops[i3]? =some o3:=by exact Gn)
 (hw3:Region.wanted o3 (yielded ops a3.tmps)=true:=by rfl)
 (hv3:∀w,S w→(execOp a3.eval o3).run P w=.ok (.value v3) w:=by exact Iy)
 (hl3:l3.setIfInBounds i3 true=l4:=by exact FP)
 (ha3:a3.put o3.dst v3=a4:=by exact FO)
 (hf3:Region.free md ops l3 i3=true:=by kernel_rfl) (hr3:(Region.ready md ops l3).contains i3=true:=by kernel_rfl)
 (hQ3:∀c a w,Q (.panic c) (a.put o3.dst v3) w→Q (.panic c) a w:=by exact fun _ _ _ h=>h)
 (hi4:ops[i4]? =some o4:=by exact Gn)
 (hw4:Region.wanted o4 (yielded ops a4.tmps)=true:=by rfl)
 (hv4:∀w,S w→(execOp a4.eval o4).run P w=.ok (.value v4) w:=by exact Iy)
 (hl4:l4.setIfInBounds i4 true=l5:=by exact FP)
 (ha4:a4.put o4.dst v4=a5:=by exact FO)
 (hf4:Region.free md ops l4 i4=true:=by kernel_rfl) (hr4:(Region.ready md ops l4).contains i4=true:=by kernel_rfl)
 (hQ4:∀c a w,Q (.panic c) (a.put o4.dst v4) w→Q (.panic c) a w:=by exact fun _ _ _ h=>h)
 (hi5:ops[i5]? =some o5:=by exact Gn)
 (hw5:Region.wanted o5 (yielded ops a5.tmps)=true:=by rfl)
 (hv5:∀w,S w→(execOp a5.eval o5).run P w=.ok (.value v5) w:=by exact Iy)
 (hl5:l5.setIfInBounds i5 true=l6:=by exact FP)
 (ha5:a5.put o5.dst v5=a6:=by exact FO)
 (hf5:Region.free md ops l5 i5=true:=by kernel_rfl) (hr5:(Region.ready md ops l5).contains i5=true:=by kernel_rfl)
 (hQ5:∀c a w,Q (.panic c) (a.put o5.dst v5) w→Q (.panic c) a w:=by exact fun _ _ _ h=>h)
 (hs:Region.noSelect ops=true:=by kernel_rfl) (hS:S w:=by assumption):wpAnyH P md ops Q S (fuel+6) l0 a0 w:=
 Bo i0 (Bo i1 (Bo i2 (Bo i3 (Bo i4 (Bo i5 h hi5 hw5 hv5 hl5 ha5 hs hf5 hr5 hQ5 hS) hi4 hw4 hv4 hl4 ha4 hs hf4 hr4 hQ4 hS) hi3 hw3 hv3 hl3 ha3 hs hf3 hr3 hQ3 hS) hi2 hw2 hv2 hl2 ha2 hs hf2 hr2 hQ2 hS) hi1 hw1 hv1 hl1 ha1 hs hf1 hr1 hQ1 hS) hi0 hw0 hv0 hl0 ha0 hs hf0 hr0 hQ0 hS
theorem Kd{P:Program}{md:Region.Mode}{ops:Array Oper}{Q:Exit→Act→World→Prop}{S:World→Prop}{fuel:Nat}{w:World}
 (i0 i1 i2 i3:Nat)
 {o0 o1 o2 o3:Oper}
 {l0 l1 l2 l3 l4:Array Bool} {a0 a1 a2 a3 a4:Act}
 (h:wpAnyH P md ops Q S fuel l4 a4 w)
 (hi0:ops[i0]? =some o0:=by exact Gn)
 (hw0:Region.wanted o0 (yielded ops a0.tmps)=false:=by rfl)
 (hl0:l0.setIfInBounds i0 true=l1:=by exact FP)
 (ha0:a0.put o0.dst undef=a1:=by exact FO)
 (hf0:Region.free md ops l0 i0=true:=by kernel_rfl) (hr0:(Region.ready md ops l0).contains i0=true:=by kernel_rfl)
 (hQ0:∀c a w,Q (.panic c) (a.put o0.dst undef) w→Q (.panic c) a w:=by exact fun _ _ _ h=>h)
 (hi1:ops[i1]? =some o1:=by exact Gn)
 (hw1:Region.wanted o1 (yielded ops a1.tmps)=false:=by rfl)
 (hl1:l1.setIfInBounds i1 true=l2:=by exact FP)
 (ha1:a1.put o1.dst undef=a2:=by exact FO)
 (hf1:Region.free md ops l1 i1=true:=by kernel_rfl) (hr1:(Region.ready md ops l1).contains i1=true:=by kernel_rfl)
 (hQ1:∀c a w,Q (.panic c) (a.put o1.dst undef) w→Q (.panic c) a w:=by exact fun _ _ _ h=>h)
 (hi2:ops[i2]? =some o2:=by exact Gn)
 (hw2:Region.wanted o2 (yielded ops a2.tmps)=false:=by rfl)
 (hl2:l2.setIfInBounds i2 true=l3:=by exact FP)
 (ha2:a2.put o2.dst undef=a3:=by exact FO)
 (hf2:Region.free md ops l2 i2=true:=by kernel_rfl) (hr2:(Region.ready md ops l2).contains i2=true:=by kernel_rfl)
 (hQ2:∀c a w,Q (.panic c) (a.put o2.dst undef) w→Q (.panic c) a w:=by exact fun _ _ _ h=>h)
 (hi3:ops[i3]? =some o3:=by exact Gn)
 (hw3:Region.wanted o3 (yielded ops a3.tmps)=false:=by rfl)
 (hl3:l3.setIfInBounds i3 true=l4:=by exact FP)
 (ha3:a3.put o3.dst undef=a4:=by exact FO)
 (hf3:Region.free md ops l3 i3=true:=by kernel_rfl) (hr3:(Region.ready md ops l3).contains i3=true:=by kernel_rfl)
 (hQ3:∀c a w,Q (.panic c) (a.put o3.dst undef) w→Q (.panic c) a w:=by exact fun _ _ _ h=>h)
 (hs:Region.noSelect ops=true:=by kernel_rfl) (hS:S w:=by assumption):wpAnyH P md ops Q S (fuel+4) l0 a0 w:=
 Ek i0 (Ek i1 (Ek i2 (Ek i3 h hi3 hw3 hl3 ha3 hs hf3 hr3 hQ3 hS) hi2 hw2 hl2 ha2 hs hf2 hr2 hQ2 hS) hi1 hw1 hl1 ha1 hs hf1 hr1 hQ1 hS) hi0 hw0 hl0 ha0 hs hf0 hr0 hQ0 hS
theorem oM{p:Prop}(h:p:=by omega):p:=h
theorem dE{p:Prop}(h:p:=by decide):p:=h
theorem kR{p:Prop}(h:p:=by kernel_rfl):p:=h
theorem sG{p:Prop}(h:p:=by simp[go_sem]):p:=h
theorem sM{p:Prop}(h:p:=by simp):p:=h
theorem rF{p:Prop}(h:p:=by rfl):p:=h
theorem sO{p:Prop}(h:p:=by simp;omega):p:=h
theorem gG{p:Prop}(h:p:=by go_grown):p:=h
theorem gN{p:Prop}(h:p:=by go_num):p:=h
theorem mL{p:Prop}(h:p:=by unfold maxLen;omega):p:=h
theorem iE{p:Prop}(h:p:=by intro e;simp only at e;omega):p:=h
theorem fT{p:Prop}(h:p:=by first|rfl|trivial):p:=h
theorem FQ{p:Prop}(h:p:=by
 have lB6:=hb6.lt
 clear hU
 refine As hK fun hHeld=>?_
 clear hK K
 refine wpAnyH_done kR ?_ _
 go_wp2
 go_meet
 have s1:=hs1.out
 have s2:=hs2.out
 have s3:=hs3.out
 have s4:=hs4.out
 have s5:=hs5.out
 have s6:=hs6.out
 have g0:=HNS.out.g.lt
 have t0:=HNS.out.t.lt
 have b0':=HNS.out.b.lt
 have e0:=HNS.out.bel.size
 exact⟨rfl,_,_,_,Iu (hb6.congr fun i hi=>by rcases(show i=0\/i=1\/i=2\/i=3\/i=4\/i=5\/i=6 by omega)with rfl|rfl|rfl|rfl|rfl|rfl|rfl<;>rfl) hg6 ht6 rA6 rN6 rD6 ⟨HNS.out.hB,HNS.out.hG,HNS.out.hT,oM,oM,oM⟩ ⟨HNS.out.n1,HNS.out.n2,HNS.out.n3⟩ oM oM,be6⟩):p:=h
theorem Ch{p:Prop}(h:p:=by
 go_enter func41,ntmps41
 go_wp2
 refine bodyPost_ret (by simp[results,results41,go_sem];try rfl) rfl ?_
 exact⟨rfl,gG⟩):p:=h
theorem Lu{p:Prop}(h:p:=by
 go_enter func43,ntmps43
 go_wp2_with(go_at_call 62;refine(HKI.out _ (HS0.out.below (A0 _ _))).mono ?_;rintro e w1 ⟨⟨A,rfl⟩,hb1⟩;have HF:Hid (MW w w1.heap.size G C b o (.slice p N q) L0 L1 L2 L3 L4 op false P A (w1.alloc (.cells #[.bool false,.int .i64 P,.int .i64 A] 120))):=(by have hq:=bel (A0 _ _) hb1;exact⟨bel hq (A0 _ _),kc (A0 _ _) (kc hb1 sG),kc (A0 _ _) (kc hb1 sG),kc (A0 _ _) (kc hb1 sG),kc (A0 _ _) (kc hb1 sG),kc (A0 _ _) (kc hb1 sG),sG,sG,kc (A0 _ _) (kc hq HS0.out.c0),kc (A0 _ _) (kc hq HS0.out.c3),kc (A0 _ _) (kc hq HE0.out)⟩);have f0:=HF.out.m0;have f1:=HF.out.g3;have f2:=HF.out.e0;have f3:=HF.out.m1;have f4:=HF.out.g0)
 all_goals(go_ret;exact⟨Af (by simp;try omega),HF.out.bel⟩)):p:=h
theorem Lv{p:Prop}(h:p:=by
 go_enter func43,ntmps43
 go_wp2_with(go_at_call 62;refine(HKI.out _ (HS0.out.below (A0 _ _))).mono ?_;rintro e w1 ⟨⟨A,rfl⟩,hb1⟩;have HF:Hid (MW w w1.heap.size G C b o (.slice p N q) L0 L1 L2 L3 L4 op true P A (w1.alloc (.cells #[.bool true,.int .i64 P,.int .i64 A] 120))):=(by have hq:=bel (A0 _ _) hb1;exact⟨bel hq (A0 _ _),kc (A0 _ _) (kc hb1 sG),kc (A0 _ _) (kc hb1 sG),kc (A0 _ _) (kc hb1 sG),kc (A0 _ _) (kc hb1 sG),kc (A0 _ _) (kc hb1 sG),sG,sG,kc (A0 _ _) (kc hq HS0.out.c0),kc (A0 _ _) (kc hq HS0.out.c3),kc (A0 _ _) (kc hq HE0.out)⟩);have f0:=HF.out.m0;have f1:=HF.out.g3;have f2:=HF.out.e0;have f3:=HF.out.m1;have f4:=HF.out.g0)
 all_goals(go_ret;exact⟨Af (by simp;try omega),HF.out.bel⟩)):p:=h
theorem Mt{p:Prop}(h:p:=by
 obtain⟨bg,SS,q1,q2,q3,q4,q5,q6⟩:=HFIN.out oM
 have HFI:Hid (Dx c.list bg=Dx c.list j/\NX=Dx c.list j):=by
  rw[←HNX.out,q6,q3,q4]
  exact⟨rfl,rfl⟩
 have HPN:=A2 (HPF.out hsb oM bg q5 (Dx c.list j) rfl)
 have hA:AX=(bg:Int):=by rw[←HAX.out,q1];rfl
 subst hA
 have hbM:bg<M:=oM
 have HAB:Hid (s.ar bg=Dx c.list j):=by rw[HPA.out bg q2];exact HFI.out.1
 have i5:(0:Int)<=(bg:Int):=oM
 have i6:(bg:Int)<(M:Int):=oM
 clear hsb hknown HFIN HBEG HOTH HSLO HPO HPT HPF hop hop35 q1 q2 q3 q4 q5 q6
 (try clear hop37)
 go_upto_region 13 with(go_at_call 29;(with_reducible refine(KS.out _).mono ?_);rintro e9 w4 ⟨rfl,hb4⟩;obtain⟨hk4,hx4,hbw,nB,nG,nT,nA,nN,hsz⟩:=HKV.out _ hb4;have HK4:=A2 hk4;have HX4:=A2 hx4;have HBW:=A2 hbw;have x0:w4.cell? ⟨X,0,none⟩=some (.int .i64 op):=hx4.cell (i:=0) dE;have x1:w4.cell? ⟨X,1,none⟩=some (.int .i64 d):=hx4.cell (i:=1) dE;have x5:w4.cell? ⟨X,5,none⟩=some (.int .i64 n):=hx4.cell (i:=5) dE;have c1:=hk4.b1;have c2:=hk4.b2;have c3:=hk4.b3;have c4:=hk4.b4;have ca:=hk4.a.cell hlt;have fa:=hk4.a.frozen j;clear hb4 hk4 hx4 hbw;have cn:=HK4.out.n.cell hbM;have fn:=HK4.out.n.frozen bg)
 obtain⟨W5,hW5⟩:∃W,w4.setCell ⟨NB,bg,none⟩ (.int .i64 (j:Int))=W:=⟨_,rfl⟩
 have HK5:=A2 (HK4.out.setEn bg (j:Int))
 have HB5:Hid (Below w.heap.size w (w4.setCell ⟨NB,bg,none⟩ (.int .i64 (j:Int)))):=HBW.out.setCell HK4.out.hN _
 have hX5:=HX4.out.setOther (a:=⟨NB,bg,none⟩) (fun q=>nN q.symm) (.int .i64 (j:Int))
 rw[hW5]at HK5 HB5 hX5
 have x0:W5.cell? ⟨X,0,none⟩=some (.int .i64 op):=hX5.cell (i:=0) dE
 have c3:=HK5.out.b3
 have ca:=HK5.out.a.cell hlt
 have fa:=HK5.out.a.frozen j
 have cb:W5.cell? ⟨AB,bg,none⟩=some (.int .i64 (Dx c.list j)):=by rw[←HAB.out];exact HK5.out.a.cell hbM
 clear HK4 HX4 HBW hX5
 go_upto_region 14 with fail
 try rw[hW5]
 clear hW5
 obtain⟨AJ,hAJ⟩:∃x:Int,Dx c.list j=x:=⟨_,rfl⟩
 simp only[hAJ]at cb HPN HFI
 go_wp2
 go_roundw
 case rel=>
  refine⟨j+1,oM,gN,by rw[HNX.out,HFI.out.2],HB5.out.setCell HK5.out.hA _,_,_,_,_,HK5.out.setAr j AJ,HPN.out⟩
 case measure=>simp[intOf];omega):p:=h
theorem Mu{p:Prop}(h:p:=by
 have hjl:j<offs.length:=by have:=HNL.out;omega
 obtain⟨hbj,hIj,hoth,hsz⟩:=HJ.out
 obtain⟨FB,rfl,⟨cF,hcF⟩,lF,hc⟩:=HO1.out j hjl
 obtain⟨l1,l2,l3⟩:=HL.out _ (List.getElem_mem hjl)
 have nFI:FB≠IB:=fun e=>by
  obtain⟨c,hc',-⟩:=HI.out
  rw[e,hc']at hcF
  simp only[Option.some.injEq,Obj.cells.injEq]at hcF
  exact absurd hcF.2.1 dE
 have hLr:w.rowIs LB 40 N0 f:=HLM.out.resolve_left oM
 have nLI:LB≠IB:=BR hLr HI.out dE
 have h0:=HH0.out
 have x0:wr.cell? ⟨FB,j,none⟩=some (.pointer (some ⟨LB,offs[j],none⟩)):=(World.cell?_of_block (a:=⟨FB,j,none⟩) (hoth FB oM nFI)).trans hc
 have x1:wr.cell? ⟨LB,offs[j],none⟩=some (.int .i64 (val offs[j]:Int)):=by
  rw[←l2]
  exact(World.cell?_of_block (a:=⟨LB,offs[j],none⟩) (hoth LB (by have:=hLr.lt;omega) nLI)).trans (hLr.cell l1)
 have HNB:=A2 (fun r=>Ii hjl val r)
 obtain⟨o,ho'⟩:∃o,offs[j]=o:=⟨_,rfl⟩
 rw[ho']at x0 x1 l3 HNB
 obtain⟨r,hr⟩:∃r,val o=r:=⟨_,rfl⟩
 rw[hr]at x1 l3
 simp only[hr]at HNB
 have hrK:r<K:=oM
 have x2:=hIj.cell hrK
 have x3:=hIj.frozen r
 have i1:(0:Int)<=(j:Int):=oM
 have i2:(j:Int)<(n:Int):=oM
 have i3:(0:Int)<=(r:Int):=oM
 have i4:(r:Int)<(K:Int):=oM
 have wi:IntKind.i64.wrap ((j:Int)+1)=((j+1:Nat):Int):=by rw[IntKind.wrap_i64];omega
 have HNX:Hid (Below E w (wr.setCell ⟨IB,r,none⟩ (.bool true))/\(wr.setCell ⟨IB,r,none⟩ (.bool true)).rowIs IB 4 K (fun r=>.bool (DD (offs.take (j+1)) val r))/\(∀b,b<H0->b≠IB->(wr.setCell ⟨IB,r,none⟩ (.bool true)).heap[b]? =w.heap[b]?)/\H0<=(wr.setCell ⟨IB,r,none⟩ (.bool true)).heap.size):=by
  refine⟨hbj.setCell HEE.out.2.1 _,(hIj.set r _).congr fun k hk=>?_,fun b hb hne=>(Below.heap_setCell _ _ _ _ hne).trans (hoth b hb hne),by simpa using hsz⟩
  rw[HNB.out]
  by_cases e:k=r
  ·rw[if_pos e,if_pos e]
  ·rw[if_neg e,if_neg e]
 clear hbj hIj hoth hsz hcF lF hc l1 l2 l3 nFI hLr nLI h0 ho' hr HJ HNB
 go_wp2
 go_roundw
 case rel=>exact⟨j+1,oM,gN,HNX.out⟩
 case measure=>simp[intOf];omega):p:=h
theorem LQ{p:Prop}(h:p:=by
 go_wp2_with(go_at_call 29;(with_reducible refine(KS.out _).mono ?_);rintro e9 w4 ⟨rfl,hb4⟩;obtain⟨hk4,hx4,hbw,nB,nG,nT,nA,nN,hsz⟩:=HKV.out _ hb4;have HK4:=A2 hk4;have HX4:=A2 hx4;have HBW:=A2 hbw;have x0:w4.cell? ⟨X,0,none⟩=some (.int .i64 op):=hx4.cell (i:=0) dE;have x1:w4.cell? ⟨X,1,none⟩=some (.int .i64 d):=hx4.cell (i:=1) dE;have x5:w4.cell? ⟨X,5,none⟩=some (.int .i64 n):=hx4.cell (i:=5) dE;have c1:=hk4.b1;have c2:=hk4.b2;have c3:=hk4.b3;have c4:=hk4.b4;have ca:=hk4.a.cell hlt;have fa:=hk4.a.frozen j;clear hb4 hk4 hx4 hbw)
 go_roundw
 case rel=>
  refine⟨j+1,oM,gN,by rw[HNX.out,HFI.out.2],HBW.out.setCell HK4.out.hA _,_,_,_,_,HK4.out.setAr j AX,HPN.out⟩
 case measure=>simp[intOf];omega):p:=h
theorem Mv{p:Prop}(h:p:=by
 go_wp2
 refine rG (fun v=>v.cell? ⟨b,o,none⟩=some (.int .i64 io)/\v.cell? ⟨b,o+5,none⟩=some (.int .i64 N)/\v.cell? ⟨G,2,none⟩=some (.slice pS s.set.length cS)) fun hHeld=>?_
 refine Tf 0 1 2 3 5 6 ?_
 refine Tf 7 8 9 10 11 12 ?_
 refine Tf 13 14 15 16 17 18 ?_
 refine Bo 19 ?_
 clear hHeld
 refine wpAnyH_ready (rs:=[4,20]) kR sM ?_
 refine CM 4 (fun K hK=>?_) ?_
 ·go_simp
  refine As hK fun hHeld=>?_
  clear hK K
  clear hHeld
  refine Aw 20 fun K hK=>?_
  go_simp
  refine As hK fun hHeld=>?_
  clear hK K
  clear hHeld
  refine Aw 21 fun K hK=>?_
  refine CD rF _ _ _ rF _ _ _ rF rF HR3.out ?_
  refine As hK fun hHeld=>?_
  clear hK K
  refine Tb 22 23 ?_
  clear hHeld
  refine Aw 24 fun K hK=>?_
  go_simp
  refine As hK fun hHeld=>?_
  clear hK K
  refine wpAnyH_done kR ?_ _
  go_wp2
  go_meet
  exact⟨_,_,HP.out⟩
 refine CM 20 (fun K hK=>?_) AllReadyH.nil
 go_simp
 refine As hK fun hHeld=>?_
 clear hK K
 clear hHeld
 refine Aw 4 fun K hK=>?_
 go_simp
 refine As hK fun hHeld=>?_
 clear hK K
 clear hHeld
 refine Aw 21 fun K hK=>?_
 refine CD rF _ _ _ rF _ _ _ rF rF HR3.out ?_
 refine As hK fun hHeld=>?_
 clear hK K
 refine Tb 22 23 ?_
 clear hHeld
 refine Aw 24 fun K hK=>?_
 go_simp
 refine As hK fun hHeld=>?_
 clear hK K
 refine wpAnyH_done kR ?_ _
 go_wp2
 go_meet
 exact⟨_,_,HP.out⟩):p:=h
theorem Mw{p:Prop}(h:p:=by
 refine Tf 0 1 2 3 4 5 ?_
 refine Tf 6 7 8 9 10 11 ?_
 refine Tb 12 14 ?_
 clear hHeld
 refine wpAnyH_ready (rs:=[13,15]) kR sM ?_
 refine CM 13 (fun K hK=>?_) ?_
 ·go_simp
  refine As hK fun hHeld=>?_
  clear hK K
  clear hHeld
  refine Aw 15 fun K hK=>?_
  go_simp
  refine As hK fun hHeld=>?_
  clear hK K
  clear hHeld
  refine Aw 16 fun K hK=>?_
  refine CD rF _ _ _ rF _ _ _ rF rF HR.out ?_
  refine As hK fun hHeld=>?_
  clear hK K
  refine Bo 17 ?_
  clear hHeld
  refine Aw 18 fun K hK=>?_
  go_simp
  refine As hK fun hHeld=>?_
  clear hK K
  refine wpAnyH_done kR ?_ _
  go_wp2
  go_meet
  exact⟨rfl,_,_,HK6.out,HX6.out,HB6.out⟩
 refine CM 15 (fun K hK=>?_) AllReadyH.nil
 go_simp
 refine As hK fun hHeld=>?_
 clear hK K
 clear hHeld
 refine Aw 13 fun K hK=>?_
 go_simp
 refine As hK fun hHeld=>?_
 clear hK K
 clear hHeld
 refine Aw 16 fun K hK=>?_
 refine CD rF _ _ _ rF _ _ _ rF rF HR.out ?_
 refine As hK fun hHeld=>?_
 clear hK K
 refine Bo 17 ?_
 clear hHeld
 refine Aw 18 fun K hK=>?_
 go_simp
 refine As hK fun hHeld=>?_
 clear hK K
 refine wpAnyH_done kR ?_ _
 go_wp2
 go_meet
 exact⟨rfl,_,_,HK6.out,HX6.out,HB6.out⟩):p:=h
theorem Ks{p:Prop}(h:p:=by
 go_enter func82,ntmps82
 go_wp2_with(go_at_call 84;refine(HK.out _).mono ?_;rintro e w1 ⟨rfl,rfl⟩)
 go_ret
 exact⟨Af (HP.out _ sO),rfl⟩):p:=h
theorem Mx{p:Prop}(h:p:=by
 go_enter func38,ntmps38
 go_wp2_with(first
  |(go_at_call 52;refine HK1.out.mono ?_;rintro e w1 ⟨rfl,hb1⟩)
  |(go_at_call 54;refine(HK2.out _ (HR.out.below hb1)).mono ?_;rintro e w2 ⟨D,rfl,hm,hf,hb2⟩;have HM1:Hid (Co w2 w1.heap.size n D):=hm;have hs:Maps.size D=n:=(by rw[hf.no HW.out,HN.out]);have hs2:¬ ((Maps.size D:Int)<(n:Int)):=oM;have HS:Hid (¬ ((Maps.size D:Int)<(n:Int))):=hs2;clear hm hf hs)
  |(have _t:=HM1;at_len;refine wpList_len_own _ rfl _ 111 rfl 9 3 underlying111 _ w1.heap.size n D rfl HM1.out ?_;clear HM1)
  |(go_at_call 55;refine(HK3.out _ (HR.out.below (bel hb1 hb2))).mono ?_;rintro e w3 ⟨rfl,hb3⟩))
 all_goals(go_ret;exact⟨rfl,bel (bel hb1 hb2) hb3⟩)):p:=h
theorem Lw{p:Prop}(h:p:=by
 go_enter func58,ntmps58
 go_wp2_with(go_at_call 74;refine(HK.out _).mono ?_;rintro e w1 ⟨rfl,rfl⟩)
 refine bodyPost_ret (by simp[results,results58,go_sem, *];try rfl) rfl ?_
 exact⟨by rw[HT.out];rfl,gG⟩):p:=h
theorem Lb{p:Prop}(h:p:=by
 rw[hc];clear hc
 go_enter func85,ntmps85
 go_wp2_with(go_at_call 87;refine(Hm _ h0 h1 _).mono ?_;rintro e w' ⟨rfl,rfl⟩)
 go_ret
 exact⟨rfl,rfl⟩):p:=h
theorem My{p:Prop}(h:p:=by
 have hn:((s.sl r)++[x]).length=(s.sl r).length+1:=sM
 have ho:w3.ownsRow E 3 1 (.slice (some ⟨g,0,none⟩) ((s.sl r)++[x]).length cap) ((s.sl r)++[x]).length (AG ((s.sl r)++[x])):=by
  rw[hn]
  have e9:AG ((s.sl r)++[x])=(AG (s.sl r))++([Value.int .i64 (x:Int)]):=by simp[AG,KW]
  rw[e9]
  exact hown
 obtain⟨k1,k2,k3,k4⟩:=h0.growSl hr hgrow hat ho
 rw[hn]at k1
 exact⟨g,cap,w3,hr',k1,k2,k3,(hb0.mono h.lt).trans k4,fun b hb hne=>(hgrow.block b oM (fun e=>hne e.symm)).trans (hb0.block b hb),fun b hb hk=>CJ (h0.tgs r hr) hat rfl hk oM⟩):p:=h
theorem Mz{p:Prop}(h:p:=by
 have hn:((s.tl r)++[x]).length=(s.tl r).length+1:=sM
 have ho:w3.ownsRow E 3 1 (.slice (some ⟨g,0,none⟩) ((s.tl r)++[x]).length cap) ((s.tl r)++[x]).length (AG ((s.tl r)++[x])):=by
  rw[hn]
  have e9:AG ((s.tl r)++[x])=(AG (s.tl r))++([Value.int .i64 (x:Int)]):=by simp[AG,KW]
  rw[e9]
  exact hown
 obtain⟨k1,k2,k3,k4⟩:=h0.growTl hr hgrow hat ho
 rw[hn]at k1
 exact⟨g,cap,w3,hr',k1,k2,k3,(hb0.mono h.lt).trans k4,fun b hb hne=>(hgrow.block b oM (fun e=>hne e.symm)).trans (hb0.block b hb),fun b hb hk=>CJ (h0.tts r hr) hat rfl hk oM⟩):p:=h
theorem MA{p:Prop}(h:p:=by
 go_simp
 refine As hK fun hHeld=>?_
 clear hK K
 clear hHeld
 refine Aw 10 fun K hK=>?_
 refine CD rF _ _ _ rF _ _ _ rF rF HR3.out ?_
 refine As hK fun hHeld=>?_
 clear hK K
 refine Tb 11 12 ?_
 clear hHeld
 refine Aw 13 fun K hK=>?_
 go_simp
 refine As hK fun hHeld=>?_
 clear hK K
 refine wpAnyH_done kR ?_ _
 go_wp2
 first|go_end0|(simp only[Exit.inBlock,Exit.then];refine bodyPost_ret (results_none rfl _ _ _) rfl ?_)|refine bodyPost_ret (results_none rfl _ _ _) rfl ?_
 exact⟨rfl,HF.out.1,_,_,HF.out.2⟩):p:=h
theorem Lx{p:Prop}(h:p:=by
 refine As hK fun hHeld=>?_
 clear hK K
 refine wpAnyH_done kR ?_ _
 go_wp2
 go_roundw
 case rel=>exact⟨hbv.drew,j+1,oM,gN,NX.out HE.out⟩
 case measure=>simp[intOf];omega):p:=h
theorem Ly{p:Prop}(h:p:=by
 try(go_wp2_with fail)
 refine As hK fun hHeld=>?_
 clear hK K
 refine Bo 7 ?_
 refine wpAnyH_done kR ?_ _
 go_wp2
 go_ret
 exact⟨Af sM,(HC.out w3 HB3).bel⟩):p:=h
theorem Lz{p:Prop}(h:p:=by
 rw[e,hc']at hcF
 simp only[Option.some.injEq,Obj.cells.injEq]at hcF
 exact absurd hcF.2.1 dE):p:=h
theorem MC{p:Prop}(h:p:=by
 go_simp
 refine As hK fun hHeld=>?_
 clear hK K
 refine Bo 13 ?_
 clear hHeld
 refine Aw 14 fun K hK=>?_
 go_simp
 refine As hK fun hHeld=>?_
 clear hK K
 refine Bo 15 ?_
 refine wpAnyH_done kR ?_ _
 go_wp2
 go_meet
 refine⟨_,_,_,rfl,Il (bel (A0 _ _) (A0 _ _)) ?_ ?_ ?_ ?_ ?_ ?_⟩
 ·first|exact J8 _ _ _ _ _|exact J9 _ _ _ _ _
 ·first|exact J8 _ _ _ _ _|exact J9 _ _ _ _ _
 all_goals first|omega|simp):p:=h
theorem LA{p:Prop}(h:p:=by
 refine As hK fun hHeld=>?_
 clear hK K
 refine wpAnyH_done kR ?_ _
 go_wp2
 go_ret
 exact⟨Af (NB.out HB.out).symm,(bel HB0.out hbv).drew⟩):p:=h
theorem MD{p:Prop}(h:p:=by
 go_enter func24,ntmps24
 go_wp2_with(first
  |(go_at_call 38;refine HK1.out.mono ?_;rintro e w1 ⟨rfl,hb1⟩;obtain⟨d1,d2,d3⟩:=HC.out w1 hb1)
  |(go_at_call 39;refine(HK2.out _ (HC0.out.below hb1)).mono ?_;rintro e w2 ⟨rfl,hb2⟩;have HB2:=bel hb1 hb2)
  |(go_at_call 40;refine(HK3.out _ (HC0.out.below HB2)).mono ?_;rintro e w3 ⟨rfl,hb3⟩;have HB3:=bel HB2 hb3))
 all_goals(go_ret;exact⟨rfl,HB3⟩)):p:=h
theorem ME{p:Prop}(h:p:=by
 refine Tf 0 1 2 3 4 5 ?_
 clear hHeld
 refine Aw 6 fun K hK=>?_
 go_simp
 (go_at_call 74;refine(HK.out _).mono ?_;rintro e w1 ⟨rfl,rfl⟩)
 try(go_wp2_with fail)
 refine As hK fun hHeld=>?_
 clear hK K
 refine Bo 7 ?_
 refine Kd 8 9 10 11 ?_
 refine Kd 12 13 14 15 ?_
 refine Ek 16 ?_
 refine Ek 17 ?_
 refine Tb 18 19 ?_
 refine wpAnyH_done kR ?_ _
 go_wp2
 go_ret
 exact⟨rfl,bel (A0 _ _) (Ah _)⟩):p:=h
theorem MF{p:Prop}(h:p:=by
 have HK5:=A2 hk
 have HB5:=A2 hb
 have x0:wc.cell? ⟨X,0,none⟩=some (.int .i64 op):=hx.cell (i:=0) dE
 have c3:=hk.b3
 have ca:=hk.a.cell hlt
 have fa:=hk.a.frozen j
 clear hk hx hb HR HK6 HX6 HB6 HK4 HX4 HBW
 go_wp2
 go_roundw
 case rel=>
  refine⟨j+1,oM,gN,by rw[HNX.out,HFI.out.2],HB5.out.setCell HK5.out.hA _,_,_,_,_,HK5.out.setAr j AX,HPN.out⟩
 case measure=>simp[intOf];omega):p:=h
theorem MG{p:Prop}(h:p:=by
 refine⟨hbj.setCell HLX.out.2.2 _,hIj.setOther (a:=⟨LB,o,none⟩) HLX.out.2.1.symm _,fun b hb h1 h2=>(Below.heap_setCell _ _ _ _ h2).trans (hoth b hb h1 h2),hX0,hXj.setOther (a:=⟨LB,o,none⟩) HLX.out.1.symm _,A7 hO (fun g hg=>Below.heap_setCell _ _ _ _ (fun(q:g=LB)=>AO hO hLr dE (by rw[←q];exact hg))),.inr ((hLr.set o _).congr fun k hk=>?_)⟩
 rw[HFN.out]):p:=h
theorem MH{p:Prop}(h:p:=by
 clear h h34 h36 hno
 go_wp2_with(go_at_call 64;refine HK.out.mono ?_;rintro e w1 ⟨rfl,hb1,hoff,vs',vo',hws⟩;have HP:Hid (PS E G C n gi w.heap.size L0 w T vs' vo' w1):=(by refine⟨HB1.out.trans hb1,by rw[HT1.out];exact hws,?_,oM,oM⟩;rw[World.cell?_of_block (hoff w.heap.size (by have:=HVS.out;omega) oM oM)];exact HVB.out);clear hb1 hoff hws)
 go_meet
 exact⟨_,_,HP.out⟩):p:=h
theorem MI{p:Prop}(h:p:=by
 rw[hb]at hd HPN
 simp only[Bool.false_eq_true,if_false]at HPN
 have HNJ:=A2 (fun r=>JS hb r)
 clear hb
 go_upto_region 11 with fail
 try rw[hV2]
 go_wp2
 go_roundw
 case rel=>
  refine⟨j+1,pl,ql,oM,gN,by rw[HPN.out],HBV.out,HI2.out,HOT.out,HS2.out.1,HS2.out.2,HX2.out.congr fun r hr=>?_,?_⟩
  ·rw[HNJ.out]
  ·rw[HPN.out];exact HO2.out
 case measure=>simp[intOf];omega):p:=h
theorem LU{p:Prop}(h:p:=by
 go_enter func24,ntmps24
 go_wp2_with(go_at_call 38;refine HK1.out.mono ?_;rintro e w1 ⟨rfl,hb1⟩;obtain⟨d1,d2,d3⟩:=HC.out w1 hb1)
 all_goals(go_ret;exact⟨rfl,hb1⟩)):p:=h
theorem MJ{p:Prop}(h:p:=by
 obtain⟨g,cap,ev,g1,g2,-,-,g3⟩:=Bj hF oM
 simp only[Value.slice.injEq]at ev
 refine⟨g,ev.1,?_,g2,g3 j _ (by simp[BC,hj])⟩
 rcases hF.2 with⟨h9,-⟩|⟨g',cap',cur,hv,-,hg,-⟩
 ·rw[ev.1]at h9;simp at h9
 ·rw[ev.1]at hv
  simp only[Value.slice.injEq,Option.some.injEq,Addr.mk.injEq]at hv
  exact⟨cur,by rw[hv.1.1];exact hg⟩):p:=h
theorem LC{p:Prop}(h:p:=by
 show(if p=j then a else s.ar p)=_
 by_cases e:p=j
 ·rw[if_pos e,ha,e]
 ·rw[if_neg e];exact h.ar p oM):p:=h
theorem MK{p:Prop}(h:p:=by
 intro hb
 rcases h.2 with⟨rfl,_⟩|⟨g,cap,cur,rfl,_,hg,_⟩
 ·exact absurd (show(none:Option Nat)=some b from hb) sM
 obtain⟨c,hc,-⟩:=h'
 have e1:g=b:=Option.some.inj hb
 rw[e1,hc]at hg
 simp only[Option.some.injEq,Obj.cells.injEq]at hg
 exact ht hg.2.1.symm):p:=h
theorem ML{p:Prop}(h:p:=by
 refine⟨hbj,hIj,fun b hb hne _=>hoth b hb hne,hX0,hXj,hO,?_⟩
 rcases HLM.out with h9|h9
 ·exact .inl h9
 ·right
  refine(h9.of_block (hoth LB (by have:=h9.lt;have:=HH0.out;omega) (BR h9 HI.out dE))).congr fun k hk=>?_
  unfold fJ
  rw[if_neg sM]):p:=h
theorem MM{p:Prop}(h:p:=by
 clear ho
 go_wp2_with(at_builtin;refine B2 rF _ _ _ rF _ _ _ rF rF HR1.out ?_)
 go_roundw
 case rel=>exact⟨j+1,p',q',oM,gN,by rw[HLN.out],HBJ.out.trans HR3.out,Nat.le_trans HEW.out HR3.out.size,HR2.out⟩
 case measure=>simp[intOf];omega):p:=h
theorem LD{p:Prop}(h:p:=by
 go_enter func8,ntmps8
 go_wp2
 all_goals(go_ret;exact⟨rfl,HB0.out⟩)):p:=h
theorem MN{p:Prop}(h:p:=by
 rw[World.cell?_of_block (Below.heap_setCell _ _ _ _ (by show w.heap.size≠G;omega)),hfar ⟨w.heap.size,0,none⟩ (by have:=HVS.out;show w.heap.size<_;omega) (fun e=>by have:=(HS.out.opn.lt _ e).2;simp at this)]
 exact HVB.out):p:=h
theorem MO{p:Prop}(h:p:=by
 have Cj:∀a b:Cd,a.sign=b.sign->a.regs=b.regs->a.slots=b.slots->a.list=b.list->a=b:=fun a b=>by
  obtain⟨a1,a2,a3,a4⟩:=a
  obtain⟨b1,b2,b3,b4⟩:=b
  simp only
  rintro rfl rfl rfl rfl
  rfl
 exact Cj _ _ rfl e1 e2 e3):p:=h
theorem Lc{p:Prop}(h:p:=by
 by_cases e:i=j
 ·subst e;exact hq
 ·exact hp.out i h oM):p:=h
theorem LF{p:Prop}(h:p:=by
 unfold Lr
 obtain rfl|rfl|rfl|rfl:j=0\/j=1\/j=2\/j=3:=oM
 all_goals rfl):p:=h
theorem MP{p:Prop}(h:p:=by
 rw[List.mem_filter,List.mem_range]
 constructor
 ·rintro⟨h,e⟩
  rw[List.getElem?_eq_getElem h]at e
  exact⟨h,by simpa using e⟩
 ·rintro⟨h,e⟩
  rw[List.getElem?_eq_getElem h]
  exact⟨h,by simpa using e⟩):p:=h
theorem LV{p:Prop}(h:p:=by
 go_enter func77,ntmps77
 go_wp2
 go_ret
 exact⟨rfl,bel (A0 _ _) (A0 _ _)⟩):p:=h
theorem MQ{p:Prop}(h:p:=by
 rcases h with⟨e,s⟩|⟨e,s⟩|⟨e,s⟩|⟨e,s⟩
 ·exact .inl ⟨oM,s⟩
 ·exact .inr (.inl ⟨oM,s⟩)
 ·exact .inr (.inr (.inl ⟨oM,s⟩))
 ·exact .inr (.inr (.inr ⟨oM,s⟩))):p:=h
theorem MR{p:Prop}(h:p:=by
 clear hbj hIj hoth hX0 hXj hO hLj hcF lF hc l1 l2 l3 nFI nFL hLr hLw h0 ho' hr HJ HFN hnv hcr
 go_wp2
 go_roundw
 case rel=>exact⟨m+1,oM,gN,HNX.out⟩
 case measure=>simp[intOf];omega):p:=h
theorem LG{p:Prop}(h:p:=by
 by_cases e':i=j
 ·subst e';exact e
 ·exact hp.out i h1 h2 oM):p:=h
theorem LX{p:Prop}(h:p:=by
 rw[EH hj,if_neg (fun q=>by rw[h1]at q;cases q.1),List.append_nil];exact h.sl r):p:=h
theorem MS{p:Prop}(h:p:=by
 obtain⟨hbj,hIj,hoth,hX0,hXj,hO,hLj⟩:=HJ.out
 refine⟨hO,hbj,by rw[HNM.out];exact hIj,by rw[hmn]at hLj;exact hLj,fun b hb=>hoth b (by have:=HH0.out;omega)⟩):p:=h
theorem LH{p:Prop}(h:p:=by
 rw[←HAX.out,←HNX.out,h2]
 exact⟨h1.symm,rfl⟩):p:=h
theorem LY{p:Prop}(h:p:=by
 go_enter func56,ntmps56
 go_wp2
 go_ret
 exact⟨rfl,A0 _ _⟩):p:=h
theorem MT{p:Prop}(h:p:=by
 rw[←hW3]
 refine(HX2.out.set j _).congr fun r hr=>?_
 rw[Hi hb r]
 by_cases e:r=j
 ·rw[if_pos e,if_pos e,HPL.out]
 ·rw[if_neg e,if_neg e]):p:=h
theorem LZ{p:Prop}(h:p:=by
 rw[EL hj,if_neg (fun q=>h2 q.1),List.append_nil];exact h.tl r):p:=h
theorem MU{p:Prop}(h:p:=by
 have e5:=HPNL.out
 first|exact⟨pl,ql,by rw[e5],by rw[e5];exact HFI.out.1,HFI.out.2⟩|exact⟨pl,ql,rfl,HFI.out.1,HFI.out.2⟩):p:=h
theorem M4{p:Prop}(h:p:=by
 by_cases e:j=p
 ·rw[if_pos e,if_pos e]
 ·rw[if_neg e,if_neg e]):p:=h
theorem MV{p:Prop}(h:p:=by
 refine .keepW hK sO ?_ ?_
 ·rw[List.take_append_of_le_length ha];exact e
 ·rw[List.take_append_of_le_length ha];exact h):p:=h
theorem MX{p:Prop}(h:p:=by
 go_wp2_with(go_at_call 74;refine(HK.out _).mono ?_;rintro e w1 ⟨rfl,rfl⟩)
 go_ret
 exact⟨rfl,A0 _ _⟩):p:=h
theorem MY{p:Prop}(h:p:=by
 rw[List.take_succ_eq_append_getElem hj,CN,show(c.list.take j).length=j by rw[List.length_take];omega]):p:=h
theorem Av{p:Prop}(h:p:=by show _≠B;omega):p:=h
theorem M5{p:Prop}(h:p:=by have hq:=bel (A0 _ _) hb1;exact⟨bel hq (A0 _ _),kc (A0 _ _) (kc hb1 sG),kc (A0 _ _) (kc hb1 sG),kc (A0 _ _) (kc hb1 sG),kc (A0 _ _) (kc hb1 sG),kc (A0 _ _) (kc hb1 sG),sG,sG,kc (A0 _ _) (kc hq HS0.out.c0),kc (A0 _ _) (kc hq HS0.out.c3),kc (A0 _ _) (kc hq HE0.out)⟩):p:=h
theorem LI{p:Prop}(h:p:=by exact⟨bel hw1 (A0 _ _),sG,sG,sG,sG,sG,kc (A0 _ _) (kc hw1 g0)⟩):p:=h
theorem M6{p:Prop}(h:p:=by have:=HTD.out;simp only[List.length_cons,List.length_nil];omega):p:=h
theorem Kt{p:Prop}(h:p:=by simp[Value.oneCell']):p:=h
theorem Ld{p:Prop}(h:p:=by simp[Value.oneCell',AS,Ml]):p:=h
theorem MZ{p:Prop}(h:p:=by have:=Cq r.reverse ⟨L,P,A⟩ 2 (u:=.int .i64 A) rfl;rwa[hl]at this):p:=h
theorem N4{p:Prop}(h:p:=by have:=Cq r.reverse ⟨L,P,A⟩ 1 (u:=.int .i64 P) rfl;rwa[hl]at this):p:=h
theorem M7{p:Prop}(h:p:=by obtain⟨p,q,e,_⟩:=hcd.slots;exact⟨p,q,e⟩):p:=h
theorem N5{p:Prop}(h:p:=by have:=Cq r.reverse ⟨L,P,A⟩ 0 (u:=.bool L) rfl;rwa[hl]at this):p:=h
theorem M8{p:Prop}(h:p:=by obtain⟨p,q,e,_⟩:=hcd.sign;exact⟨p,q,e⟩):p:=h
theorem M9{p:Prop}(h:p:=by obtain⟨p,q,e,_⟩:=hcd.regs;exact⟨p,q,e⟩):p:=h
theorem Ma{p:Prop}(h:p:=by obtain⟨p,q,e,_⟩:=hcd.list;exact⟨p,q,e⟩):p:=h
theorem Ki{p:Prop}(h:p:=by exact HT.out):p:=h
theorem Mb{p:Prop}(h:p:=by unfold A8;rw[if_neg q];simp):p:=h
theorem N6{p:Prop}(h:p:=by unfold maxLen;have:=HPL.out;have:=HCU.out;omega):p:=h
theorem Mc{p:Prop}(h:p:=by rw[List.length_map];exact hj):p:=h
theorem LJ{p:Prop}(h:p:=by have:=HLL.out;omega):p:=h
theorem L8{p:Prop}(h:p:=by rw[hs];rfl):p:=h
theorem Md{p:Prop}(h:p:=by show w.heap.size<E;omega):p:=h
theorem Ku{p:Prop}(h:p:=by cases h):p:=h
end Go.Proofs.Ytchbjcldkcfffaa
