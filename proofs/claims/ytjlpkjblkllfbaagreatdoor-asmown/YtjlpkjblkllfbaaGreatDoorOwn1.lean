import Derived.RowKit3
import Derived.Test.YtjlpkjblkllfbaaGreatDoorRows
import Derived.WalkKit
import Derived.WalkSpells
import Derived.WalkLawsBesides
import Derived.LoopN
import Derived.Below
import Derived.OwnWalk
import Derived.Shelf.Abstract
import Derived.Deep.AppendLies
import Derived.Maps.AppendAt
import Derived.Laws.AppendOwnNone
import Derived.Deep.OwnRows
import Derived.Deep.DeepCutAuto
import Derived.Deep.QuietTactic
import Derived.Deep.RegionHeld3
import Derived.BigQuiet
import Derived.Handy
import Derived.OrdersHeld
namespace Go.Proofs.YtjlpkjblkllfbaaGreatDoor
open Go.RowKit Go.Proofs.Tryz
set_option linter.all false
set_option maxRecDepth 100000
set_option maxHeartbeats 16000000
abbrev Bs:=List UInt8
def bs(s:ByteArray):Bs:=s.data.toList
def nb(b:UInt8):Int:=(b.toNat:Int)
def hd:Bs→Int
 |[]=>0
 |b::_=>nb b
theorem A9(s:ByteArray):(bs s).length=s.size:=by simp[bs]
theorem MM(s:ByteArray):(⟨(bs s).toArray⟩:ByteArray)=s:=by simp[bs]
theorem AZ(x:Bs):bs ⟨x.toArray⟩=x:=by simp[bs]
theorem Pn{s t:ByteArray}(h:bs s=bs t):s=t:=by rw[←MM s,←MM t,h]
theorem Mn(s:ByteArray)(k:Nat)(h:k<s.size):(bs s).drop k=s[k]::(bs s).drop (k+1):=by
 have hk:k<(bs s).length:=by rw[A9];exact h
 rw[List.drop_eq_getElem_cons hk]
 congr 1
theorem Pq(s:ByteArray)(k:Nat)(h:s.size≤k):(bs s).drop k=[]:=List.drop_of_length_le (by rw[A9];exact h)
structure Bc where
 name:ByteArray
 kind:Int
 len:Int
def EJ(c:Int):Bool:=
 (decide (97≤c)&&decide (c≤122))||(decide (65≤c)&&decide (c≤90))||(decide (48≤c)&&decide (c≤57))||c==95||c==46||c==47||c==45
def B1(s:ByteArray):Bool:=(s.size != 0&&decide (s.size≤64))&&(bs s).all fun b=>EJ (nb b)
def AK(p:Bc):Bool:=(B1 p.name&&(p.kind==1||p.kind==2))&&(decide (1≤p.len)&&decide (p.len≤4096))
def EC(p:Bc):Int:=if AK p then(if p.kind==2 then 2*p.len else p.len)else 0
def C4:List Bc→Int
 |[]=>0
 |p::r=>EC p+C4 r
def AR(s:ByteArray):List Bc→Option Nat
 |[]=>none
 |p::r=>if p.name=s then some 0 else(AR s r).map (· +1)
def B6:List Bc→Bool
 |[]=>false
 |p::r=>(r.any fun q=>decide (q.name=p.name))||B6 r
def AC(l:List Bc):Int:=
 if l.length>64 then 2 else if l.all AK=false then 100 else if B6 l then 101 else if C4 l>65536 then 102 else 0
theorem Dw(p:Bc):0≤EC p∧EC p≤8192:=by
 unfold EC
 split
 ·rename_i h
  unfold AK at h
  simp at h
  split<;>omega
 ·decide
theorem Ku(l:List Bc)(p:Bc):C4 (l++[p])=C4 l+EC p:=by
 induction l with
 |nil=>simp[C4]
 |cons q r ih=>simp only[List.cons_append,C4,ih];omega
theorem F8(l:List Bc):0≤C4 l∧C4 l≤8192*(l.length:Int):=by
 induction l with
 |nil=>simp[C4]
 |cons q r ih=>have:=Dw q;simp only[C4,List.length_cons];omega
theorem Ex{α:Type}{l:List α}{i:Nat}(h:i<l.length):l.take (i+1)=l.take i++[l[i]]:=by simp
theorem I8{s:ByteArray}:∀ {l:List Bc} {i:Nat},(h:i<l.length)→l[i].name=s→(∀j (h:j<l.length),j<i→l[j].name≠s)→AR s l=some i
 |[],i,h,_,_=>absurd h (Nat.not_lt_zero _)
 |p::r,0,_,e,_=>by simp only[AR];rw[if_pos (show p.name=s from e)]
 |p::r,i+1,h,e,hn=>by
  have h0:=hn 0 (by simp) (by omega)
  simp only[List.getElem_cons_zero]at h0
  simp only[AR]
  rw[if_neg h0,I8 (l:=r) (i:=i) (by simpa using h) (by simpa using e) (fun j hj hji=>by have:=hn (j+1) (by simpa using hj) (by omega);simpa using this)]
  rfl
theorem I7{s:ByteArray}:∀ {l:List Bc},(∀j (h:j<l.length),l[j].name≠s)→AR s l=none
 |[],_=>rfl
 |p::r,hn=>by
  have h0:=hn 0 (by simp)
  simp only[List.getElem_cons_zero]at h0
  simp only[AR]
  rw[if_neg h0,I7 (l:=r) (fun j hj=>by have:=hn (j+1) (by simpa using hj);simpa using this)]
  rfl
theorem G1:∀ {l:List Bc},B6 l=true↔∃i j,∃ (hi:i<l.length) (hj:j<l.length),j<i∧l[j].name=l[i].name
 |[]=>by simp[B6]
 |p::r=>by
  simp only[B6,Bool.or_eq_true,List.any_eq_true,decide_eq_true_eq]
  rw[G1 (l:=r)]
  constructor
  ·rintro(⟨q,hq,e⟩|⟨i,j,hi,hj,hji,e⟩)
   ·obtain⟨k,hk,rfl⟩:=List.mem_iff_getElem.1 hq
    exact⟨k+1,0,by simpa using hk,by simp,by omega,by simpa using e.symm⟩
   ·exact⟨i+1,j+1,by simpa using hi,by simpa using hj,by omega,by simpa using e⟩
  ·rintro⟨i,j,hi,hj,hji,e⟩
   cases i with
   |zero=>omega
   |succ i=>
    cases j with
    |zero=>
     simp only[List.getElem_cons_zero,List.getElem_cons_succ]at e
     exact .inl ⟨r[i]'(by simpa using hi),List.getElem_mem _,e.symm⟩
    |succ j=>
     simp only[List.getElem_cons_succ]at e
     exact .inr ⟨i,j,by simpa using hi,by simpa using hj,by omega,e⟩
def PN:Bs→Bs→List Bs
 |cur,[]=>if cur.isEmpty then [] else [cur]
 |cur,b::t=>if nb b==10 then cur::PN [] t else PN (cur++[b]) t
def Aj:Bs→Bs→List Bs
 |cur,[]=>[cur]
 |cur,b::t=>if nb b==32 then cur::Aj [] t else Aj (cur++[b]) t
def FS(c:Int):Bool:=decide (48≤c)&&decide (c≤57)
def Ba:Int→Bs→Int
 |n,[]=>n
 |n,b::t=>Ba (n*10+(nb b-48)) t
def lenP(s:Bs):Option Int:=
 if s.isEmpty||decide (4<s.length)||hd s==48 then none
 else if(s.all fun b=>FS (nb b))then(if Ba 0 s≤4096 then some (Ba 0 s)else none)else none
def Cb:Bs:=[114,101,97,108]
def AE:Bs:=[99,111,109,112,108,101,120]
theorem NP{l:List Bc}(h:AC l=0):l.length≤64:=by
 unfold AC at h
 split at h
 ·omega
 ·omega
theorem bel{a b c:World}(h:Below a.heap.size a b)(k:Below b.heap.size b c):Below a.heap.size a c:=h.trans (k.mono h.size)
theorem BY(w:World):Below w.heap.size w w:=Below.refl _ _
theorem A2(w:World)(o:Obj):Below w.heap.size w (w.alloc o):=(Below.refl _ _).alloc (Nat.le_refl _) o
theorem L6(w:World)(n:Nat):Below w.heap.size w (w.drewN n):=⟨rfl,rfl,rfl,Nat.le_refl _,fun _ _=>rfl⟩
theorem A4(w:World):Below w.heap.size w w.drew:=(Below.refl _ _).drew
theorem Ad{w:World}{a:Addr}{v:Value}(h:w.cell? a=some v):a.block<w.heap.size:=by
 rcases Nat.lt_or_ge a.block w.heap.size with c|c
 ·exact c
 ·have:w.heap[a.block]? =none:=Array.getElem?_eq_none c
  simp[World.cell?,this]at h
theorem A8{a b:Bool}(h:a=b):Ending.returned (.bool a)=.returned (.bool b):=by rw[h]
theorem DG{k:IntKind}{a b:Int}(h:a=b):Ending.returned (.int k a)=.returned (.int k b):=by rw[h]
def pv(p:Bc):Value:=.agg #[.string p.name,.int .i64 p.kind,.int .i64 p.len]
def AB(p:Bc):List Value:=[.string p.name,.int .i64 p.kind,.int .i64 p.len]
def Vd(w:World)(b o:Nat)(p:Bc):Prop:=
 w.cell? ⟨b,o,none⟩=some (.string p.name)∧w.cell? ⟨b,o+1,none⟩=some (.int .i64 p.kind)∧w.cell? ⟨b,o+2,none⟩=some (.int .i64 p.len)
theorem Vd.below{w w':World}{b o:Nat}{p:Bc}(h:Vd w b o p)(k:Below w.heap.size w w'):Vd w' b o p:=
 ⟨(k.cell (Ad h.1)).trans h.1,(k.cell (Ad h.2.1)).trans h.2.1,(k.cell (Ad h.2.2)).trans h.2.2⟩
def P6(w:World)(p:Option Addr)(l:List Bc):Prop:=l=[]∨∃b o,p=some ⟨b,o,none⟩∧∀i (h:i<l.length),Vd w b (o+i*3) l[i]
def Rd(w:World)(v:Value)(l:List Bc):Prop:=∃p c,v=.slice p l.length c∧P6 w p l
theorem P6.below{w w':World}{p:Option Addr}{l:List Bc}(h:P6 w p l)(k:Below w.heap.size w w'):P6 w' p l:=
 h.imp id fun⟨b,o,hp,h⟩=>⟨b,o,hp,fun i hi=>(h i hi).below k⟩
theorem Rd.below{w w':World}{v:Value}{l:List Bc}(h:Rd w v l)(k:Below w.heap.size w w'):Rd w' v l:=by
 obtain⟨p,c,hv,h⟩:=h
 exact⟨p,c,hv,h.below k⟩
theorem P6.at{w:World}{p:Option Addr}{l:List Bc}(h:P6 w p l){i:Nat}(hi:i<l.length):∃b o,p=some ⟨b,o,none⟩∧Vd w b (o+i*3) l[i]:=by
 rcases h with h|⟨b,o,hp,h⟩
 ·rw[h]at hi;exact absurd hi (Nat.not_lt_zero _)
 ·exact⟨b,o,hp,h i hi⟩
def cellsOf(l:List Bc):List Value:=l.flatMap AB

theorem Bn{P:Program}{md:Region.Mode}{ops:Array Oper}{Q:Exit→Act→World→Prop}{S:World→Prop}(i:Nat){oi:Oper}{v:Value}{fuel:Nat}{listed l':Array Bool}{a a':Act}{w:World}
 (h:wpAnyH P md ops Q S fuel l' a' w)
 (hi:ops[i]? =some oi:=by simp only[List.getElem?_toArray,List.getElem?_cons_succ,List.getElem?_cons_zero];rfl)
 (hw:Region.wanted oi (yielded ops a.tmps)=true:=by rfl)
 (hv:∀w,S w→(execOp a.eval oi).run P w=.ok (.value v) w:=by(intro wS hSw;(try dsimp only at hSw);go_simp;try(with_reducible rfl)))
 (hl:listed.setIfInBounds i true=l':=by(try simp only[List.setIfInBounds_toArray,List.set_cons_zero,List.set_cons_succ]);rfl)
 (ha:a.put oi.dst v=a':=by(try simp only[Act.put,List.setIfInBounds_toArray,List.set_cons_zero,List.set_cons_succ]);rfl)
 (hs:Region.noSelect ops=true:=by kernel_rfl) (hf:Region.free md ops listed i=true:=by kernel_rfl) (hr:(Region.ready md ops listed).contains i=true:=by kernel_rfl)
 (hQ:∀c a w,Q (.panic c) (a.put oi.dst v) w→Q (.panic c) a w:=by exact fun _ _ _ h=>h) (hS:S w:=by assumption):wpAnyH P md ops Q S (fuel+1) listed a w:=
 wpAnyH_take hi hs hf hr hQ (.inl ⟨hw,hv⟩) hS (by rw[hl,ha];exact h)
theorem Cu{P:Program}{md:Region.Mode}{ops:Array Oper}{Q:Exit→Act→World→Prop}{S:World→Prop}(i:Nat){oi:Oper}{fuel:Nat}{listed l':Array Bool}{a a':Act}{w:World}
 (h:wpAnyH P md ops Q S fuel l' a' w)
 (hi:ops[i]? =some oi:=by simp only[List.getElem?_toArray,List.getElem?_cons_succ,List.getElem?_cons_zero];rfl)
 (hw:Region.wanted oi (yielded ops a.tmps)=false:=by rfl)
 (hl:listed.setIfInBounds i true=l':=by(try simp only[List.setIfInBounds_toArray,List.set_cons_zero,List.set_cons_succ]);rfl)
 (ha:a.put oi.dst undef=a':=by(try simp only[Act.put,List.setIfInBounds_toArray,List.set_cons_zero,List.set_cons_succ]);rfl)
 (hs:Region.noSelect ops=true:=by kernel_rfl) (hf:Region.free md ops listed i=true:=by kernel_rfl) (hr:(Region.ready md ops listed).contains i=true:=by kernel_rfl)
 (hQ:∀c a w,Q (.panic c) (a.put oi.dst undef) w→Q (.panic c) a w:=by exact fun _ _ _ h=>h) (hS:S w:=by assumption):wpAnyH P md ops Q S (fuel+1) listed a w:=
 wpAnyH_take hi hs hf hr hQ (.inr ⟨hw,rfl⟩) hS (by rw[hl,ha];exact h)
theorem Aw{P:Program}{md:Region.Mode}{ops:Array Oper}{Q:Exit→Act→World→Prop}{S:World→Prop}(i:Nat){o:Oper}{fuel:Nat}{listed:Array Bool}{a:Act}{w:World}
 (h:∀K':Act→World→Prop,Shut (∀a w,S w→(S w→wpAnyH P md ops Q S fuel (listed.setIfInBounds i true) a w)→K' a w)→if Region.wanted o (yielded ops a.tmps)=true then Oper.wp P o a w K' Q else K' (a.put o.dst undef) w)
 (ho:ops[i]? =some o:=by simp only[List.getElem?_toArray,List.getElem?_cons_succ,List.getElem?_cons_zero];rfl)
 (hr:Region.ready md ops listed=[i]:=by kernel_rfl):wpAnyH P md ops Q S (fuel+1) listed a w:=
 wpAnyH_ready hr (by simp) (AllReadyH.cons ho h AllReadyH.nil)
theorem GB{P:Program}{md:Region.Mode}{ops:Array Oper}{Q:Exit→Act→World→Prop}{S:World→Prop}(i:Nat){o:Oper}{fuel:Nat}{listed:Array Bool}{a:Act}{w:World}{rs:List Nat}
 (h:∀K':Act→World→Prop,Shut (∀a w,S w→(S w→wpAnyH P md ops Q S fuel (listed.setIfInBounds i true) a w)→K' a w)→if Region.wanted o (yielded ops a.tmps)=true then Oper.wp P o a w K' Q else K' (a.put o.dst undef) w)
 (hs:AllReadyH P md ops Q S fuel listed a w rs)
 (ho:ops[i]? =some o:=by simp only[List.getElem?_toArray,List.getElem?_cons_succ,List.getElem?_cons_zero];rfl):AllReadyH P md ops Q S fuel listed a w (i::rs):=
 AllReadyH.cons ho h hs
theorem LO{p:Prop}(h:p:=by simp only[List.getElem?_toArray,List.getElem?_cons_succ,List.getElem?_cons_zero];rfl):p:=h
theorem Qq{p:Prop}(h:p:=by(intro wS hSw;(try dsimp only at hSw);go_simp;try(with_reducible rfl))):p:=h
theorem KP{p:Prop}(h:p:=by(try simp only[List.setIfInBounds_toArray,List.set_cons_zero,List.set_cons_succ]);rfl):p:=h
theorem KK{p:Prop}(h:p:=by(try simp only[Act.put,List.setIfInBounds_toArray,List.set_cons_zero,List.set_cons_succ]);rfl):p:=h
theorem AU{P:Program}{md:Region.Mode}{ops:Array Oper}{Q:Exit→Act→World→Prop}{S:World→Prop}{fuel:Nat}{l l':Array Bool}{a a':Act}{w:World}{K:Act→World→Prop}
 (hK:Shut (∀a w,S w→(S w→wpAnyH P md ops Q S fuel l a w)→K a w)) (h:S w→wpAnyH P md ops Q S fuel l' a' w)
 (hS:S w:=by(try dsimp only);go_keep) (hl:l=l':=by exact KP) (ha:a=a':=by exact KK):K a w:=
 hK.out a w hS (by rw[hl,ha];exact h)
theorem rG{P:Program}{ops:Array Oper}{Q:Exit→Act→World→Prop}(S:World→Prop){id:Nat}{a:Act}{w:World}(h:S w.drew→wpAnyH P .any ops Q S ops.size (Array.replicate ops.size false) a w.drew)
 (hm:P.follows .mixedOrders=true:=by kernel_rfl) (hS:S w.drew:=by(try dsimp only);go_keep):(Code.region id ops true).wp P Q a w:=
 wp_region_held_drew hm hS h
theorem Tb{P:Program}{md:Region.Mode}{ops:Array Oper}{Q:Exit→Act→World→Prop}{S:World→Prop}{fuel:Nat}{w:World}
 (i0 i1:Nat)
 {o0 o1:Oper}
 {v0 v1:Value}
 {l0 l1 l2:Array Bool} {a0 a1 a2:Act}
 (h:wpAnyH P md ops Q S fuel l2 a2 w)
 (hi0:ops[i0]? =some o0:=by exact LO)
 (hw0:Region.wanted o0 (yielded ops a0.tmps)=true:=by rfl)
 (hv0:∀w,S w→(execOp a0.eval o0).run P w=.ok (.value v0) w:=by exact Qq)
 (hl0:l0.setIfInBounds i0 true=l1:=by exact KP)
 (ha0:a0.put o0.dst v0=a1:=by exact KK)
 (hf0:Region.free md ops l0 i0=true:=by kernel_rfl) (hr0:(Region.ready md ops l0).contains i0=true:=by kernel_rfl)
 (hQ0:∀c a w,Q (.panic c) (a.put o0.dst v0) w→Q (.panic c) a w:=by exact fun _ _ _ h=>h)
 (hi1:ops[i1]? =some o1:=by exact LO)
 (hw1:Region.wanted o1 (yielded ops a1.tmps)=true:=by rfl)
 (hv1:∀w,S w→(execOp a1.eval o1).run P w=.ok (.value v1) w:=by exact Qq)
 (hl1:l1.setIfInBounds i1 true=l2:=by exact KP)
 (ha1:a1.put o1.dst v1=a2:=by exact KK)
 (hf1:Region.free md ops l1 i1=true:=by kernel_rfl) (hr1:(Region.ready md ops l1).contains i1=true:=by kernel_rfl)
 (hQ1:∀c a w,Q (.panic c) (a.put o1.dst v1) w→Q (.panic c) a w:=by exact fun _ _ _ h=>h)
 (hs:Region.noSelect ops=true:=by kernel_rfl) (hS:S w:=by assumption):wpAnyH P md ops Q S (fuel+2) l0 a0 w:=
 Bn i0 (Bn i1 h hi1 hw1 hv1 hl1 ha1 hs hf1 hr1 hQ1 hS) hi0 hw0 hv0 hl0 ha0 hs hf0 hr0 hQ0 hS
theorem Tc{P:Program}{md:Region.Mode}{ops:Array Oper}{Q:Exit→Act→World→Prop}{S:World→Prop}{fuel:Nat}{w:World}
 (i0 i1 i2:Nat)
 {o0 o1 o2:Oper}
 {v0 v1 v2:Value}
 {l0 l1 l2 l3:Array Bool} {a0 a1 a2 a3:Act}
 (h:wpAnyH P md ops Q S fuel l3 a3 w)
 (hi0:ops[i0]? =some o0:=by exact LO)
 (hw0:Region.wanted o0 (yielded ops a0.tmps)=true:=by rfl)
 (hv0:∀w,S w→(execOp a0.eval o0).run P w=.ok (.value v0) w:=by exact Qq)
 (hl0:l0.setIfInBounds i0 true=l1:=by exact KP)
 (ha0:a0.put o0.dst v0=a1:=by exact KK)
 (hf0:Region.free md ops l0 i0=true:=by kernel_rfl) (hr0:(Region.ready md ops l0).contains i0=true:=by kernel_rfl)
 (hQ0:∀c a w,Q (.panic c) (a.put o0.dst v0) w→Q (.panic c) a w:=by exact fun _ _ _ h=>h)
 (hi1:ops[i1]? =some o1:=by exact LO)
 (hw1:Region.wanted o1 (yielded ops a1.tmps)=true:=by rfl)
 (hv1:∀w,S w→(execOp a1.eval o1).run P w=.ok (.value v1) w:=by exact Qq)
 (hl1:l1.setIfInBounds i1 true=l2:=by exact KP)
 (ha1:a1.put o1.dst v1=a2:=by exact KK)
 (hf1:Region.free md ops l1 i1=true:=by kernel_rfl) (hr1:(Region.ready md ops l1).contains i1=true:=by kernel_rfl)
 (hQ1:∀c a w,Q (.panic c) (a.put o1.dst v1) w→Q (.panic c) a w:=by exact fun _ _ _ h=>h)
 (hi2:ops[i2]? =some o2:=by exact LO)
 (hw2:Region.wanted o2 (yielded ops a2.tmps)=true:=by rfl)
 (hv2:∀w,S w→(execOp a2.eval o2).run P w=.ok (.value v2) w:=by exact Qq)
 (hl2:l2.setIfInBounds i2 true=l3:=by exact KP)
 (ha2:a2.put o2.dst v2=a3:=by exact KK)
 (hf2:Region.free md ops l2 i2=true:=by kernel_rfl) (hr2:(Region.ready md ops l2).contains i2=true:=by kernel_rfl)
 (hQ2:∀c a w,Q (.panic c) (a.put o2.dst v2) w→Q (.panic c) a w:=by exact fun _ _ _ h=>h)
 (hs:Region.noSelect ops=true:=by kernel_rfl) (hS:S w:=by assumption):wpAnyH P md ops Q S (fuel+3) l0 a0 w:=
 Bn i0 (Bn i1 (Bn i2 h hi2 hw2 hv2 hl2 ha2 hs hf2 hr2 hQ2 hS) hi1 hw1 hv1 hl1 ha1 hs hf1 hr1 hQ1 hS) hi0 hw0 hv0 hl0 ha0 hs hf0 hr0 hQ0 hS
theorem Tf{P:Program}{md:Region.Mode}{ops:Array Oper}{Q:Exit→Act→World→Prop}{S:World→Prop}{fuel:Nat}{w:World}
 (i0 i1 i2 i3 i4 i5:Nat)
 {o0 o1 o2 o3 o4 o5:Oper}
 {v0 v1 v2 v3 v4 v5:Value}
 {l0 l1 l2 l3 l4 l5 l6:Array Bool} {a0 a1 a2 a3 a4 a5 a6:Act}
 (h:wpAnyH P md ops Q S fuel l6 a6 w)
 (hi0:ops[i0]? =some o0:=by exact LO)
 (hw0:Region.wanted o0 (yielded ops a0.tmps)=true:=by rfl)
 (hv0:∀w,S w→(execOp a0.eval o0).run P w=.ok (.value v0) w:=by exact Qq)
 (hl0:l0.setIfInBounds i0 true=l1:=by exact KP)
 (ha0:a0.put o0.dst v0=a1:=by exact KK)
 (hf0:Region.free md ops l0 i0=true:=by kernel_rfl) (hr0:(Region.ready md ops l0).contains i0=true:=by kernel_rfl)
 (hQ0:∀c a w,Q (.panic c) (a.put o0.dst v0) w→Q (.panic c) a w:=by exact fun _ _ _ h=>h)
 (hi1:ops[i1]? =some o1:=by exact LO)
 (hw1:Region.wanted o1 (yielded ops a1.tmps)=true:=by rfl)
 (hv1:∀w,S w→(execOp a1.eval o1).run P w=.ok (.value v1) w:=by exact Qq)
 (hl1:l1.setIfInBounds i1 true=l2:=by exact KP)
 (ha1:a1.put o1.dst v1=a2:=by exact KK)
 (hf1:Region.free md ops l1 i1=true:=by kernel_rfl) (hr1:(Region.ready md ops l1).contains i1=true:=by kernel_rfl)
 (hQ1:∀c a w,Q (.panic c) (a.put o1.dst v1) w→Q (.panic c) a w:=by exact fun _ _ _ h=>h)
 (hi2:ops[i2]? =some o2:=by exact LO)
 (hw2:Region.wanted o2 (yielded ops a2.tmps)=true:=by rfl)
 (hv2:∀w,S w→(execOp a2.eval o2).run P w=.ok (.value v2) w:=by exact Qq)
 (hl2:l2.setIfInBounds i2 true=l3:=by exact KP)
 (ha2:a2.put o2.dst v2=a3:=by exact KK)
 (hf2:Region.free md ops l2 i2=true:=by kernel_rfl) (hr2:(Region.ready md ops l2).contains i2=true:=by kernel_rfl)
 (hQ2:∀c a w,Q (.panic c) (a.put o2.dst v2) w→Q (.panic c) a w:=by exact fun _ _ _ h=>h)
 (hi3:ops[i3]? =some o3:=by exact LO)
 (hw3:Region.wanted o3 (yielded ops a3.tmps)=true:=by rfl)
 (hv3:∀w,S w→(execOp a3.eval o3).run P w=.ok (.value v3) w:=by exact Qq)
 (hl3:l3.setIfInBounds i3 true=l4:=by exact KP)
 (ha3:a3.put o3.dst v3=a4:=by exact KK)
 (hf3:Region.free md ops l3 i3=true:=by kernel_rfl) (hr3:(Region.ready md ops l3).contains i3=true:=by kernel_rfl)
 (hQ3:∀c a w,Q (.panic c) (a.put o3.dst v3) w→Q (.panic c) a w:=by exact fun _ _ _ h=>h)
 (hi4:ops[i4]? =some o4:=by exact LO)
 (hw4:Region.wanted o4 (yielded ops a4.tmps)=true:=by rfl)
 (hv4:∀w,S w→(execOp a4.eval o4).run P w=.ok (.value v4) w:=by exact Qq)
 (hl4:l4.setIfInBounds i4 true=l5:=by exact KP)
 (ha4:a4.put o4.dst v4=a5:=by exact KK)
 (hf4:Region.free md ops l4 i4=true:=by kernel_rfl) (hr4:(Region.ready md ops l4).contains i4=true:=by kernel_rfl)
 (hQ4:∀c a w,Q (.panic c) (a.put o4.dst v4) w→Q (.panic c) a w:=by exact fun _ _ _ h=>h)
 (hi5:ops[i5]? =some o5:=by exact LO)
 (hw5:Region.wanted o5 (yielded ops a5.tmps)=true:=by rfl)
 (hv5:∀w,S w→(execOp a5.eval o5).run P w=.ok (.value v5) w:=by exact Qq)
 (hl5:l5.setIfInBounds i5 true=l6:=by exact KP)
 (ha5:a5.put o5.dst v5=a6:=by exact KK)
 (hf5:Region.free md ops l5 i5=true:=by kernel_rfl) (hr5:(Region.ready md ops l5).contains i5=true:=by kernel_rfl)
 (hQ5:∀c a w,Q (.panic c) (a.put o5.dst v5) w→Q (.panic c) a w:=by exact fun _ _ _ h=>h)
 (hs:Region.noSelect ops=true:=by kernel_rfl) (hS:S w:=by assumption):wpAnyH P md ops Q S (fuel+6) l0 a0 w:=
 Bn i0 (Bn i1 (Bn i2 (Bn i3 (Bn i4 (Bn i5 h hi5 hw5 hv5 hl5 ha5 hs hf5 hr5 hQ5 hS) hi4 hw4 hv4 hl4 ha4 hs hf4 hr4 hQ4 hS) hi3 hw3 hv3 hl3 ha3 hs hf3 hr3 hQ3 hS) hi2 hw2 hv2 hl2 ha2 hs hf2 hr2 hQ2 hS) hi1 hw1 hv1 hl1 ha1 hs hf1 hr1 hQ1 hS) hi0 hw0 hv0 hl0 ha0 hs hf0 hr0 hQ0 hS
theorem Kd{P:Program}{md:Region.Mode}{ops:Array Oper}{Q:Exit→Act→World→Prop}{S:World→Prop}{fuel:Nat}{w:World}
 (i0 i1 i2 i3:Nat)
 {o0 o1 o2 o3:Oper}
 {l0 l1 l2 l3 l4:Array Bool} {a0 a1 a2 a3 a4:Act}
 (h:wpAnyH P md ops Q S fuel l4 a4 w)
 (hi0:ops[i0]? =some o0:=by exact LO)
 (hw0:Region.wanted o0 (yielded ops a0.tmps)=false:=by rfl)
 (hl0:l0.setIfInBounds i0 true=l1:=by exact KP)
 (ha0:a0.put o0.dst undef=a1:=by exact KK)
 (hf0:Region.free md ops l0 i0=true:=by kernel_rfl) (hr0:(Region.ready md ops l0).contains i0=true:=by kernel_rfl)
 (hQ0:∀c a w,Q (.panic c) (a.put o0.dst undef) w→Q (.panic c) a w:=by exact fun _ _ _ h=>h)
 (hi1:ops[i1]? =some o1:=by exact LO)
 (hw1:Region.wanted o1 (yielded ops a1.tmps)=false:=by rfl)
 (hl1:l1.setIfInBounds i1 true=l2:=by exact KP)
 (ha1:a1.put o1.dst undef=a2:=by exact KK)
 (hf1:Region.free md ops l1 i1=true:=by kernel_rfl) (hr1:(Region.ready md ops l1).contains i1=true:=by kernel_rfl)
 (hQ1:∀c a w,Q (.panic c) (a.put o1.dst undef) w→Q (.panic c) a w:=by exact fun _ _ _ h=>h)
 (hi2:ops[i2]? =some o2:=by exact LO)
 (hw2:Region.wanted o2 (yielded ops a2.tmps)=false:=by rfl)
 (hl2:l2.setIfInBounds i2 true=l3:=by exact KP)
 (ha2:a2.put o2.dst undef=a3:=by exact KK)
 (hf2:Region.free md ops l2 i2=true:=by kernel_rfl) (hr2:(Region.ready md ops l2).contains i2=true:=by kernel_rfl)
 (hQ2:∀c a w,Q (.panic c) (a.put o2.dst undef) w→Q (.panic c) a w:=by exact fun _ _ _ h=>h)
 (hi3:ops[i3]? =some o3:=by exact LO)
 (hw3:Region.wanted o3 (yielded ops a3.tmps)=false:=by rfl)
 (hl3:l3.setIfInBounds i3 true=l4:=by exact KP)
 (ha3:a3.put o3.dst undef=a4:=by exact KK)
 (hf3:Region.free md ops l3 i3=true:=by kernel_rfl) (hr3:(Region.ready md ops l3).contains i3=true:=by kernel_rfl)
 (hQ3:∀c a w,Q (.panic c) (a.put o3.dst undef) w→Q (.panic c) a w:=by exact fun _ _ _ h=>h)
 (hs:Region.noSelect ops=true:=by kernel_rfl) (hS:S w:=by assumption):wpAnyH P md ops Q S (fuel+4) l0 a0 w:=
 Cu i0 (Cu i1 (Cu i2 (Cu i3 h hi3 hw3 hl3 ha3 hs hf3 hr3 hQ3 hS) hi2 hw2 hl2 ha2 hs hf2 hr2 hQ2 hS) hi1 hw1 hl1 ha1 hs hf1 hr1 hQ1 hS) hi0 hw0 hl0 ha0 hs hf0 hr0 hQ0 hS
theorem oM{p:Prop}(h:p:=by omega):p:=h
theorem dE{p:Prop}(h:p:=by decide):p:=h
theorem kR{p:Prop}(h:p:=by kernel_rfl):p:=h
theorem sG{p:Prop}(h:p:=by simp[go_sem]):p:=h
theorem sM{p:Prop}(h:p:=by simp):p:=h
theorem rF{p:Prop}(h:p:=by rfl):p:=h
theorem sO{p:Prop}(h:p:=by simp;omega):p:=h
theorem gG{p:Prop}(h:p:=by go_grown):p:=h
theorem gN{p:Prop}(h:p:=by go_num):p:=h
theorem mL{p:Prop}(h:p:=by unfold maxLen;omega):p:=h
theorem iE{p:Prop}(h:p:=by intro e;simp only at e;omega):p:=h
theorem fT{p:Prop}(h:p:=by first|rfl|trivial):p:=h
theorem gA.{u}{α:Sort u}(a:α):∃x,a=x:=⟨a,rfl⟩
theorem gB{α:Type}{l:List α}{i:Nat}(h:i<l.length):l[i]?=some l[i]:=List.getElem?_eq_getElem h
theorem gC{w w':World}{a:Addr}(h:w'.heap[a.block]?=w.heap[a.block]?):w'.cell? a=w.cell? a:=World.cell?_of_block h
theorem gD{α:Type}{l:List α}{n:Nat}(h:n<l.length):l[n]∈l:=List.getElem_mem h
theorem gE{w:World}{a:Addr}{u:Value}{k:Nat}(h:k≠a.block):(w.setCell a u).heap[k]?=w.heap[k]?:=Below.heap_setCell w a u k h
theorem gF(n:Nat):n<=n:=Nat.le_refl n
theorem gH{a b c:Nat}(h:a<=b)(g:b<=c):a<=c:=Nat.le_trans h g
theorem gJ(n:Nat):0<=n:=Nat.zero_le n
theorem Xm{p:Prop}(h:p:=by
 have l1:¬ ((i:Int)<(NF:Int)):=oM
 have hiN:i=NF:=oM
 subst hiN
 have HDN:Hid (B3 (a::r)=(BZ (A5 (o:Int)).n (r.drop i)).bind fun e=>some ⟨(o:Int),I.d,I.a,I.b,I.c,e.1,e.2⟩):=by
  show _=_
  have h8:i=(Dl (Ai o)).length:=by have:=HNF.out;have:=HLF.out;omega
  have h9:=HI.1
  rw[h8]at h9 |-
  rw[HYES.out]
  exact h9.done
 obtain⟨P2,hP2⟩:=gA (D3 P (cap-1) i 1)
 have HP2:Hid (i<M->P2=some ⟨g,1+i,none⟩):=fun h9=>by
  rw[<-hP2,HP.out (by have:=HM.out;omega)]
  unfold D3
  rw[if_neg (by have:=HM.out;have:=HCP.out;have:=HNR.out;omega)]
  by_cases z:i=0
  .subst z;simp[Addr.add]
  .simp[Addr.add,z]
 have HSL2:∀v,(Instr.sliceAt 52 (.slice P M (cap-1)) (some (.int .i64 (i:Int))) none none).run prog v=.ok (.slice P2 (M-i) (cap-1-i)) v:=fun v=>by rw[Ge P M (cap-1) i (by have:=HM.out;omega) v,hP2]
 obtain⟨L,hL⟩:=gA (M-i)
 have HLL:Hid (r.length=i+L):=by show _=_;have:=HM.out;omega
 rw[hL]at HSL2
 have HHN:Hid (∀v,Calls prog 40 #[.int .i64 (o:Int)] v fun e w'=>e=.returned (.bool (EY o))/\w'=v):=fun v=>OF o v
 obtain⟨rn,hrn⟩:=gA ((A5 (o:Int)).n)
 have hend:=Jk o HO2.out HO1.out
 rw[hrn]at hend
 rw[hrn]at HDN
 obtain⟨x0,x1,x2,x3,x4,x5,x6⟩:=c7 hx
 obtain⟨f0,f1,f2,f3,f4,f5,f6⟩:=z7 hx
 obtain⟨s0,s1,s2,s3,s4,s5,s6⟩:=c7 hy
 obtain⟨t0,t1,t2,t3,t4,t5,t6⟩:=z7 hy
 have HXZ:=A3 hx
 have HYZ:=A3 hy
 clear hx hy hP2 hrn l1
 cases hnb:EY o with
 |true=>
  have HN1:=A3 (hend.1 hnb)
  rw[hnb]at HHN
  have o1:((o:Int)==1)=false:=by
   rw[beq_eq_false_iff_ne]
   intro e9
   have e8:o=1:=oM
   rw[e8]at hnb
   exact absurd hnb dE
  clear hend hnb
  by_cases hL1:L=1
  .have q1:((L:Int) != 1)=false:=by rw[bne_eq_false_iff_eq];omega
   obtain⟨x,hx⟩:∃x,r.drop i=[x]:=List.length_eq_one_iff.1 (by rw[List.length_drop];have:=HLL.out;omega)
   have hxm:x∈r:=List.mem_of_mem_drop (i:=i) (by rw[hx];simp)
   have HXX:Hid (∀ (y:World),Below w.heap.size w y->y.cell? ⟨g,1+i,none⟩=some (.string (A6 x))):=fun y k9=>by
    have hl2:i<r.length:=by have:=HLL.out;omega
    have h8:r[i]=x:=by
     have h9:=List.drop_eq_getElem_cons hl2
     rw[hx]at h9
     exact((List.cons.injEq _ _ _ _▸h9).1).symm
    rw[<-h8]
    exact HWR.out y k9 i hl2
   have HXS:Hid (x.length<=100000000):=HS.out x (List.mem_cons_of_mem _ hxm)
   have HN:Hid (∀v,Calls prog 31 #[.string (A6 x)] v fun e w'=>KQ (A6 x) v e w'):=fun v=>Ct _ (by rw[BQ];have:=HXS.out;omega) v
   have HDX:Hid (B3 (a::r)=(Af x).bind fun n=>some ⟨(o:Int),I.d,I.a,I.b,I.c,n,0⟩):=by
    show _=_
    rw[HDN.out,hx,S1 HN1.1 HN1.2]
    cases Af x<;>rfl
   have cP2:P2=some ⟨g,1+i,none⟩:=HP2.out (by have:=HLL.out;have:=HM.out;omega)
   subst cP2
   subst hL1
   have c1:=HXX.out wr HI.2.2.2
   clear hx hxm hL
   go_upto_region 42 with(first|(go_at_call 40;(with_reducible refine(HHN.out _).mono ?_);rintro e w7 ⟨rfl,rfl⟩)|(go_at_call 31;(with_reducible refine(HN.out _).mono ?_);rintro e w8 ⟨n,b,rfl,m1,m2,b8⟩;have HM8:=A3 (And.intro m1 m2);have HC8:=A3 b8;clear m1 m2 b8))
   clear x0 x1 x2 x3 x4 x5 x6 f0 f1 f2 f3 f4 f5 f6 s0 s1 s2 s3 s4 s5 s6 t0 t1 t2 t3 t4 t5 t6 c1
   have hx8:=HXZ.of_block (HC8.block _ HXZ.lt)
   have hy8:=HYZ.of_block (HC8.block _ HYZ.lt)
   have HB8:Hid (Below w.heap.size w w8):=HI.2.2.2.trans (HC8.mono HI.2.2.2.size)
   have HX8:=A3 hx8
   have HY8:=A3 hy8
   obtain⟨s0,s1,s2,s3,s4,s5,s6⟩:=c7 hy8
   obtain⟨t0,t1,t2,t3,t4,t5,t6⟩:=z7 hy8
   clear hx8 hy8
   go_upto_region 43 with fail
   obtain⟨V9,hV9⟩:∃W,w8.setCell ⟨Q,5,none⟩ (.int .i64 n)=W:=⟨_,rfl⟩
   have hq:=UM HY8.out (.int .i64 n)
   rw[hV9]at hq
   try rw[hV9]
   have HB9:Hid (Below w.heap.size w V9):=HB8.trans (hq.2.bel _ HQW.out)
   have hx9:=hq.2.row HX8.out HXQ.out
   clear s0 s1 s2 s3 s4 s5 s6 t0 t1 t2 t3 t4 t5 t6 hV9
   obtain⟨x0,x1,x2,x3,x4,x5,x6⟩:=c7 hx9
   obtain⟨f0,f1,f2,f3,f4,f5,f6⟩:=z7 hx9
   obtain⟨s0,s1,s2,s3,s4,s5,s6⟩:=c7 hq.1
   obtain⟨t0,t1,t2,t3,t4,t5,t6⟩:=z7 hq.1
   clear hx9 hq
   go_wp2
   refine bodyPost_ret (by simp[results,results17,go_sem, *];try rfl) rfl ?_
   cases b with
   |true=>
    have h9:=HM8.1 rfl
    rw[show bs (A6 x)=x from AZ x]at h9
    refine⟨⟨(o:Int),I.d,I.a,I.b,I.c,n,0⟩,true,?_,fun _=>by rw[HDX.out,h9];rfl,fun h=>absurd h dE,((((((((((((((HB9.out).setCell HXW.out _)).setCell HXW.out _)).setCell HXW.out _)).setCell HXW.out _)).setCell HXW.out _)).setCell HXW.out _)).setCell HXW.out _)⟩
    rw[HI.1.op,HI.1.bits]
   |false=>
    have h9:=HM8.2 rfl
    rw[show bs (A6 x)=x from AZ x]at h9
    refine⟨⟨(o:Int),I.d,I.a,I.b,I.c,n,0⟩,false,?_,fun h=>absurd h dE,fun _=>by rw[HDX.out,h9];rfl,((((((((((((((HB9.out).setCell HXW.out _)).setCell HXW.out _)).setCell HXW.out _)).setCell HXW.out _)).setCell HXW.out _)).setCell HXW.out _)).setCell HXW.out _)⟩
    rw[HI.1.op,HI.1.bits]
  .have q1:((L:Int) != 1)=true:=by rw[bne_iff_ne];omega
   have HT2:Hid (B3 (a::r)=none):=by
    show _=_
    rw[HDN.out,I6 HN1.1 (by rw[List.length_drop];have:=HLL.out;omega)];rfl
   clear hL
   go_wp2_with(go_at_call 40;(with_reducible refine(HHN.out _).mono ?_);rintro e w7 ⟨rfl,rfl⟩)
   refine bodyPost_ret (by simp[results,results17,go_sem, *];try rfl) rfl ?_
   exact⟨I,false,rfl,fun h=>absurd h dE,fun _=>HT2.out,((((((((((((((HI.2.2.2).setCell HXW.out _)).setCell HXW.out _)).setCell HXW.out _)).setCell HXW.out _)).setCell HXW.out _)).setCell HXW.out _)).setCell HXW.out _)⟩
 |false=>
  rw[hnb]at HHN
  by_cases ho1:o=1
  .have o1:((o:Int)==1)=true:=by rw[ho1];rfl
   have HN7:=A3 (hend.2.1 ho1).1
   clear hend hnb ho1
   by_cases hL1:L=1
   .have q1:((L:Int) != 1)=false:=by rw[bne_eq_false_iff_eq];omega
    obtain⟨x,hx⟩:∃x,r.drop i=[x]:=List.length_eq_one_iff.1 (by rw[List.length_drop];have:=HLL.out;omega)
    have hxm:x∈r:=List.mem_of_mem_drop (i:=i) (by rw[hx];simp)
    have HXX:Hid (∀ (y:World),Below w.heap.size w y->y.cell? ⟨g,1+i,none⟩=some (.string (A6 x))):=fun y k9=>by
     have hl2:i<r.length:=by have:=HLL.out;omega
     have h8:r[i]=x:=by
      have h9:=List.drop_eq_getElem_cons hl2
      rw[hx]at h9
      exact((List.cons.injEq _ _ _ _▸h9).1).symm
     rw[<-h8]
     exact HWR.out y k9 i hl2
    have HXS:Hid (x.length<=100000000):=HS.out x (List.mem_cons_of_mem _ hxm)
    have HRD:Hid (∀v,Calls prog 35 #[.string (A6 x)] v fun e w'=>e=.returned (.tuple #[.int .i64 (Ka (A6 x).data.toList),.bool (B8 (A6 x).data.toList)])/\Below v.heap.size v w'):=fun v=>FY _ (by rw[BQ];have:=HXS.out;unfold maxLen;omega) v
    obtain⟨rv,hrv⟩:=gA (Ka (A6 x).data.toList)
    obtain⟨rb,hrb⟩:=gA (B8 (A6 x).data.toList)
    have hr0:=Je (A6 x).data.toList
    have HDX:Hid (B3 (a::r)=if rb=true then some ⟨(o:Int),I.d,I.a,I.b,I.c,0,rv⟩else none):=by
     show _=_
     rw[HDN.out,hx,HN7.out,RZ]
     have h9:BI x=if rb=true then some rv else none:=by rw[<-hrv,<-hrb];rfl
     rw[h9]
     cases rb<;>rfl
    rw[hrv]at hr0
    rw[hrv,hrb]at HRD
    have w32:IntKind.u32.wrap rv=rv:=by rw[IntKind.wrap_u32];omega
    have cP2:P2=some ⟨g,1+i,none⟩:=HP2.out (by have:=HLL.out;have:=HM.out;omega)
    subst cP2
    subst hL1
    have c1:=HXX.out wr HI.2.2.2
    clear hx hxm hL hrv hrb
    go_upto_region 39 with(first|(go_at_call 40;(with_reducible refine(HHN.out _).mono ?_);rintro e w7 ⟨rfl,rfl⟩)|(go_at_call 35;(with_reducible refine(HRD.out _).mono ?_);rintro e w8 ⟨rfl,b8⟩;have HC8:=A3 b8;clear b8))
    clear x0 x1 x2 x3 x4 x5 x6 f0 f1 f2 f3 f4 f5 f6 s0 s1 s2 s3 s4 s5 s6 t0 t1 t2 t3 t4 t5 t6 c1
    have hx8:=HXZ.of_block (HC8.block _ HXZ.lt)
    have hy8:=HYZ.of_block (HC8.block _ HYZ.lt)
    have HB8:Hid (Below w.heap.size w w8):=HI.2.2.2.trans (HC8.mono HI.2.2.2.size)
    have HX8:=A3 hx8
    have HY8:=A3 hy8
    obtain⟨s0,s1,s2,s3,s4,s5,s6⟩:=c7 hy8
    obtain⟨t0,t1,t2,t3,t4,t5,t6⟩:=z7 hy8
    clear hx8 hy8
    go_upto_region 40 with fail
    obtain⟨V9,hV9⟩:∃W,w8.setCell ⟨Q,6,none⟩ (.int .u32 rv)=W:=⟨_,rfl⟩
    have hq:=UN HY8.out (.int .u32 rv)
    rw[hV9]at hq
    try rw[hV9]
    have HB9:Hid (Below w.heap.size w V9):=HB8.trans (hq.2.bel _ HQW.out)
    have hx9:=hq.2.row HX8.out HXQ.out
    clear s0 s1 s2 s3 s4 s5 s6 t0 t1 t2 t3 t4 t5 t6 hV9
    obtain⟨x0,x1,x2,x3,x4,x5,x6⟩:=c7 hx9
    obtain⟨f0,f1,f2,f3,f4,f5,f6⟩:=z7 hx9
    obtain⟨s0,s1,s2,s3,s4,s5,s6⟩:=c7 hq.1
    obtain⟨t0,t1,t2,t3,t4,t5,t6⟩:=z7 hq.1
    clear hx9 hq
    go_wp2
    refine bodyPost_ret (by simp[results,results17,go_sem, *];try rfl) rfl ?_
    refine⟨⟨(o:Int),I.d,I.a,I.b,I.c,0,rv⟩,rb,?_,fun h9=>by rw[HDX.out,if_pos h9],fun h9=>by rw[HDX.out,if_neg (by rw[h9];decide)],((((((((((((((HB9.out).setCell HXW.out _)).setCell HXW.out _)).setCell HXW.out _)).setCell HXW.out _)).setCell HXW.out _)).setCell HXW.out _)).setCell HXW.out _)⟩
    rw[HI.1.op,HI.1.n]
   .have q1:((L:Int) != 1)=true:=by rw[bne_iff_ne];omega
    have HT2:Hid (B3 (a::r)=none):=by
     show _=_
     rw[HDN.out,HN7.out,I6 dE (by rw[List.length_drop];have:=HLL.out;omega)];rfl
    clear hL
    go_wp2_with(go_at_call 40;(with_reducible refine(HHN.out _).mono ?_);rintro e w7 ⟨rfl,rfl⟩)
    refine bodyPost_ret (by simp[results,results17,go_sem, *];try rfl) rfl ?_
    exact⟨I,false,rfl,fun h=>absurd h dE,fun _=>HT2.out,((((((((((((((HI.2.2.2).setCell HXW.out _)).setCell HXW.out _)).setCell HXW.out _)).setCell HXW.out _)).setCell HXW.out _)).setCell HXW.out _)).setCell HXW.out _)⟩
  .have o1:((o:Int)==1)=false:=by rw[beq_eq_false_iff_ne];omega
   have HN0:=A3 (hend.2.2 hnb ho1)
   clear hend hnb
   have HDX:Hid (B3 (a::r)=if L=0 then some ⟨(o:Int),I.d,I.a,I.b,I.c,0,0⟩else none):=by
    show _=_
    rw[HDN.out,HN0.out,Pt,List.length_drop,show r.length-i=L by have:=HLL.out;omega]
    split<;>rfl
   clear hL
   go_wp2_with(go_at_call 40;(with_reducible refine(HHN.out _).mono ?_);rintro e w7 ⟨rfl,rfl⟩)
   refine bodyPost_ret (by simp[results,results17,go_sem, *];try rfl) rfl ?_
   by_cases z:L=0
   .refine⟨⟨(o:Int),I.d,I.a,I.b,I.c,0,0⟩,true,?_,fun _=>by rw[HDX.out,if_pos z],fun h=>absurd h dE,((((((((((((((HI.2.2.2).setCell HXW.out _)).setCell HXW.out _)).setCell HXW.out _)).setCell HXW.out _)).setCell HXW.out _)).setCell HXW.out _)).setCell HXW.out _)⟩
    rw[HI.1.op,HI.1.n,HI.1.bits,z];rfl
   .refine⟨⟨(o:Int),I.d,I.a,I.b,I.c,0,0⟩,false,?_,fun h=>absurd h dE,fun _=>by rw[HDX.out,if_neg z],((((((((((((((HI.2.2.2).setCell HXW.out _)).setCell HXW.out _)).setCell HXW.out _)).setCell HXW.out _)).setCell HXW.out _)).setCell HXW.out _)).setCell HXW.out _)⟩
    rw[HI.1.op,HI.1.n,HI.1.bits,show((L:Int)==0)=false from by rw[beq_eq_false_iff_ne];omega]):p:=h
theorem WA{p:Prop}(h:p:=by
 have HTZ:Hid (TW w v0 v1 v2 v3 (w.heap.size+1) op D A Q E nn bt wz):=HT0.next HBZ.out
 go_wp2_with(go_at_call 37;(with_reducible refine(HRD.out _).mono ?_);rintro e w5 ⟨u,rfl,hou,hb5⟩;obtain⟨pu,qu,rfl⟩:=Ac hou;have HOU:Hid (w5.ownsRow wz.heap.size 3 1 (.slice pu R.length qu) R.length (Cf R)):=hou;have HB5:Hid (Below wz.heap.size wz w5):=hb5;clear hou hb5)
 go_loopw [11] (fun kv wr=>∃k:Nat,k<=R.length/\kv=.int .i64 (k:Int)/\wr=w5/\∀x∈R.take k,x.toNat∈S) (fun kv _=>R.length-(intOf kv).toNat)
 case atStart=>exact⟨0,gJ _,rfl,rfl,fun x hx=>by simp at hx⟩
 case round=>
  obtain⟨k,hk,rfl,rfl,hin⟩:=hrel
  clear c0 c1 c2 c3 i0 i1 i2 i3 i4 i5 i6
  obtain⟨hbq,c0,c1,c2,c3,i0,i1,i2,i3,i4,i5,i6⟩:=HTZ.next HB5.out
  by_cases hlt:k<R.length
  .have hx:=HRP1.out R[k] (gD hlt)
   obtain⟨d,hd⟩:∃d:Nat,R[k]=(d:Int):=⟨R[k].toNat,oM⟩
   obtain⟨gs,rfl,hcs⟩:=HSET.out d oM
   have hcs':=kc hbq hcs
   obtain⟨gu,cu,eu,-⟩:=HOU.form oM
   simp only[Value.slice.injEq]at eu
   obtain⟨rfl,-,rfl⟩:=eu
   have hcu:wr.cell? ⟨gu,k,none⟩=some (.int .i64 (d:Int)):=by rw[HOU.cellAt k oM];simp[Cf,hlt,hd]
   have HMEM:Hid (R[k]=(d:Int)):=hd
   have HIN:Hid (∀x∈R.take k,x.toNat∈S):=hin
   have t0:(0:Int)<=(k:Int):=oM
   have t1:(k:Int)<(R.length:Int):=oM
   have t2:(0:Int)<=(d:Int):=oM
   have t3:(d:Int)<(M:Int):=oM
   have wk:IntKind.i64.wrap ((k:Int)+1)=((k+1:Nat):Int):=by rw[IntKind.wrap_i64];omega
   clear hx hd hin hcs hk
   cases hX:decide (d∈S)
   .rw[hX]at hcs'
    have hall:(R.all fun n=>decide (n.toNat∈S))=false:=by
     rw[List.all_eq_false]
     exact⟨R[k],gD hlt,by rw[HMEM.out,Int.toNat_natCast,hX];decide⟩
    have HQF:Hid (false=RES):=by show _=_;have:=HR2.out;rw[hall,Bool.false_and]at this;exact this
    clear hX hall
    go_wp2
    go_ret
    exact⟨A8 HQF.out,hbq⟩
   .rw[hX]at hcs'
    have HX:Hid (d∈S):=by show d∈S;exact of_decide_eq_true hX
    clear hX
    go_wp2
    go_roundw
    case rel=>
     refine⟨k+1,oM,gN,fT,fun x hx=>?_⟩
     rw[List.take_succ_eq_append_getElem hlt,List.mem_append]at hx
     rcases hx with hx|hx
     .exact HIN.out x hx
     .simp only[List.mem_singleton]at hx
      rw[hx,HMEM.out,Int.toNat_natCast]
      exact HX.out
    case measure=>simp[intOf];omega
  .have hkk:k=R.length:=oM
   have hall:(R.all fun n=>decide (n.toNat∈S))=true:=by
    rw[List.all_eq_true]
    intro x hx
    rw[hkk,List.take_length]at hin
    simpa using hin x hx
   have h9:=HR2.out;rw[hall,Bool.true_and]at h9;have HTS:Hid _:=h9;clear h9
   have t1:¬ (k:Int)<(R.length:Int):=oM
   clear hall hin hk hlt
   by_cases h34:op=34
   .subst h34
    have h9:=HTS.out;rw[if_pos (Or.inl rfl)]at h9;have HQ:Hid _:=h9;clear h9
    go_wp2
    go_ret
    exact⟨A8 (by rw[<-HQ.out];first|(simp;done)|(simp;omega)|(simp[hn0];done)|(simp[hn0];omega)),hbq⟩
   .by_cases h36:op=36
    .subst h36
     have h9:=HTS.out;rw[if_pos (Or.inr rfl)]at h9;have HQ:Hid _:=h9;clear h9
     go_wp2
     go_ret
     exact⟨A8 (by rw[<-HQ.out];first|(simp;done)|(simp;omega)|(simp[hn0];done)|(simp[hn0];omega)),hbq⟩
    .have h9:=HTS.out;rw[if_neg (fun e=>e.elim h34 h36)]at h9;have HT2:Hid _:=h9;clear h9
     have q34:(op==34)=false:=by simpa using h34
     have q36:(op==36)=false:=by simpa using h36
     by_cases h35:op=35
     .subst h35
      have h9:=HT2.out;rw[if_pos rfl]at h9;have HQ:Hid _:=h9;clear h9
      clear q34 q36 h34 h36
      by_cases hn0:(0:Int)<(n:Int)
      .first
        |(exfalso;omega)
        |(go_wp2;go_ret;exact⟨A8 (by rw[<-HQ.out];first|(simp;done)|(simp;omega)|(simp[hn0];done)|(simp[hn0];omega)),hbq⟩)
      .first
        |(exfalso;omega)
        |(go_wp2;go_ret;exact⟨A8 (by rw[<-HQ.out];first|(simp;done)|(simp;omega)|(simp[hn0];done)|(simp[hn0];omega)),hbq⟩)
     .have h9:=HT2.out;rw[if_neg h35]at h9;have HT3:Hid _:=h9;clear h9
      have q35:(op==35)=false:=by simpa using h35
      by_cases h37:op=37
      .subst h37
       have h9:=HT3.out;rw[if_pos rfl]at h9;have HQ:Hid _:=h9;clear h9
       clear q34 q35 q36 h34 h35 h36
       first
        |(exfalso;omega)
        |(go_wp2;go_ret;exact⟨A8 HQ.out,hbq⟩)
      .have h9:=HT3.out;rw[if_neg h37]at h9;have HQ:Hid _:=h9;clear h9
       have q37:(op==37)=false:=by simpa using h37
       clear h34 h35 h36 h37
       go_wp2
       go_ret
       exact⟨A8 HQ.out,hbq⟩):p:=h
theorem WC{p:Prop}(h:p:=by
 refine wp_region_held_drew (S:=(fun _=>True)) kR ?_ (fun yH=>?_)
 .trivial
 refine Tc 0 1 2 ?_
 refine Tb 3 4 ?_
 clear yH
 refine wpAnyH_ready (rs:=[5,6]) kR sM ?_
 refine GB 5 (fun K hK=>?_) ?_
 .go_simp
  refine hK.out _ _ ?_ (fun yH=>?_)
  .trivial
  clear hK K
  try simp only[Act.put,List.setIfInBounds_toArray,List.set_cons_zero,List.set_cons_succ]
  clear yH
  refine Aw 6 fun K hK=>?_
  go_simp
  refine hK.out _ _ ?_ (fun yH=>?_)
  .trivial
  clear hK K
  try simp only[Act.put,List.setIfInBounds_toArray,List.set_cons_zero,List.set_cons_succ]
  clear yH
  refine Aw 7 fun K hK=>?_
  go_simp
  refine hK.out _ _ ?_ (fun yH=>?_)
  .trivial
  clear hK K
  try simp only[Act.put,List.setIfInBounds_toArray,List.set_cons_zero,List.set_cons_succ]
  clear yH
  refine Aw 8 fun K hK=>?_
  refine BP _ _ _ _ rF _ _ _ rF rF HRUN.out ?_ _ rF
  refine hK.out _ _ ?_ (fun yH=>?_)
  .trivial
  clear hK K
  try simp only[Act.put,List.setIfInBounds_toArray,List.set_cons_zero,List.set_cons_succ]
  refine Tc 9 10 11 ?_
  clear yH
  refine Aw 12 fun K hK=>?_
  go_simp
  refine hK.out _ _ ?_ (fun yH=>?_)
  .trivial
  clear hK K
  try simp only[Act.put,List.setIfInBounds_toArray,List.set_cons_zero,List.set_cons_succ]
  refine wpAnyH_done kR ?_ _
  refine bodyPost_end (by simp[results,results51,go_sem, *];try rfl) rfl ?_
  have r8:=H8.1
  have d8:=H8.2.1
  have e8:=H8.2.2
  rw[HN.1]at r8 d8 e8
  exact⟨rfl,_,_,_,_,_,_,_,r8,d8,(HOD.bel E HX.1 HX.2.1.le).trans e8,HEND.out⟩
 refine GB 6 (fun K hK=>?_) AllReadyH.nil
 go_simp
 refine hK.out _ _ ?_ (fun yH=>?_)
 .trivial
 clear hK K
 try simp only[Act.put,List.setIfInBounds_toArray,List.set_cons_zero,List.set_cons_succ]
 clear yH
 refine wpAnyH_ready (rs:=[5,7]) kR sM ?_
 refine GB 5 (fun K hK=>?_) ?_
 .go_simp
  refine hK.out _ _ ?_ (fun yH=>?_)
  .trivial
  clear hK K
  try simp only[Act.put,List.setIfInBounds_toArray,List.set_cons_zero,List.set_cons_succ]
  clear yH
  refine Aw 7 fun K hK=>?_
  go_simp
  refine hK.out _ _ ?_ (fun yH=>?_)
  .trivial
  clear hK K
  try simp only[Act.put,List.setIfInBounds_toArray,List.set_cons_zero,List.set_cons_succ]
  clear yH
  refine Aw 8 fun K hK=>?_
  refine BP _ _ _ _ rF _ _ _ rF rF HRUN.out ?_ _ rF
  refine hK.out _ _ ?_ (fun yH=>?_)
  .trivial
  clear hK K
  try simp only[Act.put,List.setIfInBounds_toArray,List.set_cons_zero,List.set_cons_succ]
  refine Tc 9 10 11 ?_
  clear yH
  refine Aw 12 fun K hK=>?_
  go_simp
  refine hK.out _ _ ?_ (fun yH=>?_)
  .trivial
  clear hK K
  try simp only[Act.put,List.setIfInBounds_toArray,List.set_cons_zero,List.set_cons_succ]
  refine wpAnyH_done kR ?_ _
  refine bodyPost_end (by simp[results,results51,go_sem, *];try rfl) rfl ?_
  have r8:=H8.1
  have d8:=H8.2.1
  have e8:=H8.2.2
  rw[HN.1]at r8 d8 e8
  exact⟨rfl,_,_,_,_,_,_,_,r8,d8,(HOD.bel E HX.1 HX.2.1.le).trans e8,HEND.out⟩
 refine GB 7 (fun K hK=>?_) AllReadyH.nil
 go_simp
 refine hK.out _ _ ?_ (fun yH=>?_)
 .trivial
 clear hK K
 try simp only[Act.put,List.setIfInBounds_toArray,List.set_cons_zero,List.set_cons_succ]
 clear yH
 refine Aw 5 fun K hK=>?_
 go_simp
 refine hK.out _ _ ?_ (fun yH=>?_)
 .trivial
 clear hK K
 try simp only[Act.put,List.setIfInBounds_toArray,List.set_cons_zero,List.set_cons_succ]
 clear yH
 refine Aw 8 fun K hK=>?_
 refine BP _ _ _ _ rF _ _ _ rF rF HRUN.out ?_ _ rF
 refine hK.out _ _ ?_ (fun yH=>?_)
 .trivial
 clear hK K
 try simp only[Act.put,List.setIfInBounds_toArray,List.set_cons_zero,List.set_cons_succ]
 refine Tc 9 10 11 ?_
 clear yH
 refine Aw 12 fun K hK=>?_
 go_simp
 refine hK.out _ _ ?_ (fun yH=>?_)
 .trivial
 clear hK K
 try simp only[Act.put,List.setIfInBounds_toArray,List.set_cons_zero,List.set_cons_succ]
 refine wpAnyH_done kR ?_ _
 refine bodyPost_end (by simp[results,results51,go_sem, *];try rfl) rfl ?_
 have r8:=H8.1
 have d8:=H8.2.1
 have e8:=H8.2.2
 rw[HN.1]at r8 d8 e8
 exact⟨rfl,_,_,_,_,_,_,_,r8,d8,(HOD.bel E HX.1 HX.2.1.le).trans e8,HEND.out⟩):p:=h
theorem DP{p:Prop}(h:p:=by
 go_enter func56,ntmps56
 go_wp2
 refine bodyPost_ret (by simp[results,results56,go_sem];try rfl) rfl ?_
 exact⟨rfl,gG⟩):p:=h
theorem Gi{p:Prop}(h:p:=by
 go_enter func67,ntmps67
 go_wp2_with(go_at_call 105;(with_reducible refine(KE.out _).mono ?_);rintro e w1 ⟨rfl,rfl⟩)
 go_ret
 refine⟨?_,bel (A2 _ _) (A2 _ _)⟩
 first|rfl|simp[*]):p:=h
theorem V8{p:Prop}(h:p:=by
 go_simp
 refine hK.out _ _ ?_ (fun yH=>?_)
 .trivial
 clear hK K
 try simp only[Act.put,List.setIfInBounds_toArray,List.set_cons_zero,List.set_cons_succ]
 clear yH
 refine Aw 8 fun K hK=>?_
 refine BP _ _ _ _ rF _ _ _ rF rF HRUN.out ?_ _ rF
 refine hK.out _ _ ?_ (fun yH=>?_)
 .trivial
 clear hK K
 try simp only[Act.put,List.setIfInBounds_toArray,List.set_cons_zero,List.set_cons_succ]
 refine Tc 9 10 11 ?_
 clear yH
 refine Aw 12 fun K hK=>?_
 go_simp
 refine hK.out _ _ ?_ (fun yH=>?_)
 .trivial
 clear hK K
 try simp only[Act.put,List.setIfInBounds_toArray,List.set_cons_zero,List.set_cons_succ]
 refine wpAnyH_done kR ?_ _
 refine bodyPost_end (by simp[results,results50,go_sem, *];try rfl) rfl ?_
 have r8:=H8.1
 have d8:=H8.2.1
 have e8:=H8.2.2
 rw[HN.1]at r8 d8 e8
 exact⟨rfl,_,_,_,_,_,_,_,r8,d8,(HOD.bel E HX.1 HX.2.1.le).trans e8,HEND.out⟩):p:=h
theorem Xn{p:Prop}(h:p:=by
 clear c0 c1 c2 c3
 go_enter func31,ntmps31
 go_wp2
 go_loopw [4,5] (fun nv iv wr=>∃k:Nat,k<=s.size/\iv=.int .i64 (k:Int)/\nv=.int .i64 (Ba 0 ((bs s).take k))/\Hid ((∀b∈(bs s).take k,Gj b)/\Below w.heap.size w wr)) (fun _ iv _=>s.size-(intOf iv).toNat)
 case atStart=>exact⟨0,oM,rfl,by rw[List.take_zero];rfl,⟨sM,BY _⟩⟩
 case round=>
  obtain⟨k,hk,rfl,rfl,HJ⟩:=hrel
  have hv1:=Tw ((bs s).take k) (by rw[List.length_take];omega) HJ.1
  have hv0:=Jv ((bs s).take k) 0 dE HJ.1
  have HV:Hid (∃v,Ba 0 ((bs s).take k)=v):=⟨_,rfl⟩
  obtain⟨v,hv⟩:=HV.out
  rw[hv]at hv0 hv1 |-
  have HVV:=A3 hv
  by_cases hlt:k<s.size
  .have e1:(k:Int)<(s.size:Int):=oM
   have hts:=A3 (D4 s k hlt)
   have hu:s[k].toNat<256:=s[k].toNat_lt
   by_cases hd:Gj s[k]
   .have HD:=A3 hd
    unfold Gj at hd
    have f1:¬ ((s[k].toNat:Int)<48):=oM
    have f2:¬ ((57:Int)<(s[k].toNat:Int)):=oM
    have w1:IntKind.u8.wrap ((s[k].toNat:Int)-48)=(s[k].toNat:Int)-48:=by rw[IntKind.wrap_u8];omega
    have w2:IntKind.i64.wrap ((s[k].toNat:Int)-48)=(s[k].toNat:Int)-48:=by rw[IntKind.wrap_i64];omega
    have w3:IntKind.i64.wrap (v*10)=v*10:=by rw[IntKind.wrap_i64];omega
    have w4:IntKind.i64.wrap (v*10+((s[k].toNat:Int)-48))=v*10+((s[k].toNat:Int)-48):=by rw[IntKind.wrap_i64];omega
    have wi:IntKind.i64.wrap ((k:Int)+1)=((k+1:Nat):Int):=by rw[IntKind.wrap_i64];omega
    clear hd hv hv0 hv1
    go_wp2
    go_roundw
    case rel=>exact⟨k+1,oM,gN,by rw[hts.out,OX,HVV.out];rfl,⟨fun b hb=>by rw[hts.out]at hb;rcases List.mem_append.1 hb with hb|hb;exact HJ.1 b hb;rw[List.mem_singleton.1 hb];exact HD.out,HJ.2⟩⟩
    case measure=>simp[intOf];omega
   .have HT:Hid (Af (bs s)=none):=by
     show _=_
     rw[HQ.out,if_neg]
     intro h
     refine hd (SG.1 (List.all_eq_true.1 h s[k] ?_))
     refine List.mem_of_mem_take (i:=k+1) ?_
     rw[hts.out]
     simp
    by_cases f1:(s[k].toNat:Int)<48
    .clear hd hv hv0 hv1
     go_wp2
     refine bodyPost_ret (by simp[results,results31,go_sem, *];try rfl) rfl ?_
     exact⟨0,false,rfl,fun h=>absurd h dE,fun _=>HT.out,HJ.2⟩
    .have f2:(57:Int)<(s[k].toNat:Int):=by unfold Gj at hd;omega
     clear hd hv hv0 hv1
     go_wp2
     refine bodyPost_ret (by simp[results,results31,go_sem, *];try rfl) rfl ?_
     exact⟨0,false,rfl,fun h=>absurd h dE,fun _=>HT.out,HJ.2⟩
  .have e1:¬ (k:Int)<(s.size:Int):=oM
   have hke:k=s.size:=oM
   have hall:((bs s).all fun b=>FS (nb b))=true:=List.all_eq_true.2 fun b hb=>SG.2 (HJ.1 b (by rw[hke,EN];exact hb))
   have hvv:Ba 0 (bs s)=v:=by rw[<-hv,hke,EN]
   have HT:Hid (Af (bs s)=if v<=2147483647 then some v else none):=by show _=_;rw[HQ.out,if_pos hall,hvv]
   clear hv hv0 hall hvv hlt
   by_cases g:v<=2147483647
   .rw[if_pos g]at HT
    go_wp2
    refine bodyPost_ret (by simp[results,results31,go_sem, *];try rfl) rfl ?_
    exact⟨v,true,rfl,fun _=>HT.out,fun h=>absurd h dE,HJ.2⟩
   .rw[if_neg g]at HT
    go_wp2
    refine bodyPost_ret (by simp[results,results31,go_sem, *];try rfl) rfl ?_
    exact⟨v,false,rfl,fun h=>absurd h dE,fun _=>HT.out,HJ.2⟩):p:=h
theorem WD{p:Prop}(h:p:=by
 go_enter func43,ntmps43
 go_wp2
 refine rG (fun v=>v.cell? ⟨w.heap.size,0,none⟩=some v0/\v.cell? ⟨w.heap.size,1,none⟩=some v1/\v.cell? ⟨w.heap.size,2,none⟩=some v2/\v.cell? ⟨w.heap.size,3,none⟩=some v3/\v.cell? ⟨w.heap.size+1,0,none⟩=some (.int .i64 op)/\v.cell? ⟨w.heap.size+1,1,none⟩=some (.int .i64 D)/\v.cell? ⟨w.heap.size+1,2,none⟩=some (.int .i64 A)/\v.cell? ⟨w.heap.size+1,3,none⟩=some (.int .i64 Q)/\v.cell? ⟨w.heap.size+1,4,none⟩=some (.int .i64 E)/\v.cell? ⟨w.heap.size+1,5,none⟩=some (.int .i64 nn)/\v.cell? ⟨w.heap.size+1,6,none⟩=some (.int .u32 bt)) fun yH=>?_
 refine Tb 0 1 ?_
 clear yH
 refine Aw 2 fun K hK=>?_
 go_simp
 (go_at_call 66;(with_reducible refine(HFIT.out _ (bel HT0.out.bel (A4 _))).mono ?_);rintro e wz ⟨rfl,hbz⟩;have HBZ:Hid (Below ((w.alloc (.cells #[v0,v1,v2,v3] 27)).alloc (.cells #[.int .i64 op,.int .i64 D,.int .i64 A,.int .i64 Q,.int .i64 E,.int .i64 nn,.int .u32 bt] 39)).heap.size ((w.alloc (.cells #[v0,v1,v2,v3] 27)).alloc (.cells #[.int .i64 op,.int .i64 D,.int .i64 A,.int .i64 Q,.int .i64 E,.int .i64 nn,.int .u32 bt] 39)) wz):=bel (A4 _) hbz;clear hbz;obtain⟨-,c0,c1,c2,c3,i0,i1,i2,i3,i4,i5,i6⟩:=HT0.out.next HBZ.out)
 try(go_wp2_with fail)
 refine AU hK fun yH=>?_
 clear hK K
 refine Tb 3 4 ?_
 refine Kd 5 6 7 8 ?_
 refine Kd 9 10 11 12 ?_
 refine Kd 13 14 15 16 ?_
 refine Kd 17 18 19 20 ?_
 refine Cu 21 ?_
 refine Cu 22 ?_
 refine Cu 23 ?_
 refine Bn 24 ?_
 refine wpAnyH_done kR ?_ _
 go_wp2
 go_ret
 exact⟨A8 HQF.out,bel hb00 HBZ.out⟩):p:=h
theorem Xo{p:Prop}(h:p:=by
 have HRF:Hid (false=RES):=hRES
 clear hRES hKOA hKOB hKOC hPL HPP0
 go_enter func66,ntmps66
 go_wp2_with(first
  |(go_at_call 64;refine(HROW.out _).mono ?_;rintro e w1 ⟨rfl,rfl⟩)
  |(go_at_call 65;refine(HCAN.out _).mono ?_;rintro e w2 ⟨rfl,hb2⟩;have HT2:Hid (TW w (.slice p0 n0 q0) (.slice p1 n1 q1) (.slice p2 n2 q2) v3 (w.heap.size+1) op D A B E n bt (w2.alloc (.cells #[.int .i64 0,.int .i64 0] 43))):=(HT0.next hb2).next (A2 _ _);obtain⟨b1,c0,c1,c2,c3,i0,i1,i2,i3,i4,i5,i6⟩:=HT2.out;have HS2:Hid (w.heap.size+1<w2.heap.size):=Ad (HT0.next hb2).i0;clear hb2))
 have HTD:Hid _:=HT2.out
 have HD:Hid ((w2.alloc (.cells #[.int .i64 0,.int .i64 0] 43)).cell? ⟨w2.heap.size,0,none⟩=some (.int .i64 0)/\(w2.alloc (.cells #[.int .i64 0,.int .i64 0] 43)).cell? ⟨w2.heap.size,1,none⟩=some (.int .i64 0)):=⟨sG,sG⟩
 obtain⟨Z,hZ⟩:=gA (w2.heap.size)
 obtain⟨Wd,hWd⟩:∃W,w2.alloc (.cells #[.int .i64 0,.int .i64 0] 43)=W:=⟨_,rfl⟩
 rw[hZ]at HD
 rw[hWd]at HD HTD |-
 try rw[hZ]
 clear hZ hWd HT2 b1 c0 c1 c2 c3 i0 i1 i2 i3 i4 i5 i6 HT0 HROW HCAN
 have HCD:Hid (∀v,Below Wd.heap.size Wd v->v.cell? ⟨w.heap.size,0,none⟩=some (.slice p0 n0 q0)/\v.cell? ⟨w.heap.size,1,none⟩=some (.slice p1 n1 q1)/\v.cell? ⟨w.heap.size,2,none⟩=some (.slice p2 n2 q2)/\v.cell? ⟨w.heap.size,3,none⟩=some v3/\v.cell? ⟨w.heap.size+1,1,none⟩=some (.int .i64 D)/\v.cell? ⟨w.heap.size+1,2,none⟩=some (.int .i64 A)/\v.cell? ⟨w.heap.size+1,3,none⟩=some (.int .i64 B)/\v.cell? ⟨w.heap.size+1,4,none⟩=some (.int .i64 E)/\v.cell? ⟨w.heap.size+1,5,none⟩=some (.int .i64 n)/\v.cell? ⟨Z,0,none⟩=some (.int .i64 0)/\v.cell? ⟨Z,1,none⟩=some (.int .i64 0)):=fun v hb=>⟨kc hb HTD.c0,kc hb HTD.c1,kc hb HTD.c2,kc hb HTD.c3,kc hb HTD.i1,kc hb HTD.i2,kc hb HTD.i3,kc hb HTD.i4,kc hb HTD.i5,kc hb HD.1,kc hb HD.2⟩
 obtain⟨c0,c1,c2,c3,i1,i2,i3,i4,i5,d0,d1⟩:=HCD.out Wd (BY _)
 refine rG (fun v=>v.cell? ⟨w.heap.size,0,none⟩=some (.slice p0 n0 q0)/\v.cell? ⟨w.heap.size,1,none⟩=some (.slice p1 n1 q1)/\v.cell? ⟨w.heap.size,2,none⟩=some (.slice p2 n2 q2)/\v.cell? ⟨w.heap.size,3,none⟩=some v3/\v.cell? ⟨w.heap.size+1,1,none⟩=some (.int .i64 D)/\v.cell? ⟨w.heap.size+1,2,none⟩=some (.int .i64 A)/\v.cell? ⟨w.heap.size+1,3,none⟩=some (.int .i64 B)/\v.cell? ⟨w.heap.size+1,4,none⟩=some (.int .i64 E)/\v.cell? ⟨w.heap.size+1,5,none⟩=some (.int .i64 n)/\v.cell? ⟨Z,0,none⟩=some (.int .i64 0)/\v.cell? ⟨Z,1,none⟩=some (.int .i64 0)) fun yH=>?_
 refine Tf 0 1 2 3 4 5 ?_
 clear yH
 refine Aw 6 fun K hK=>?_
 go_simp
 (go_at_call 103;(with_reducible refine(HK0.out _ (bel HTD.out.bel (A4 _))).mono ?_);rintro e w3 ⟨rfl,hb9⟩;have HB3:Hid (Below Wd.heap.size Wd w3):=bel (A4 _) hb9;clear hb9;obtain⟨c0,c1,c2,c3,i1,i2,i3,i4,i5,d0,d1⟩:=HCD.out w3 HB3.out)
 try(go_wp2_with fail)
 refine AU hK fun yH=>?_
 clear hK K
 refine Bn 7 ?_
 refine wpAnyH_done kR ?_ _
 go_wp2
 go_ret
 exact⟨A8 HRF.out,bel HTD.bel HB3.out⟩):p:=h
theorem WE{p:Prop}(h:p:=by
 have r8:=H8.1
 have d8:=H8.2.1
 have e8:=H8.2.2
 rw[HN.1]at r8 d8 e8
 exact⟨rfl,_,_,_,_,_,_,_,r8,d8,(HOD.bel E HX.1 HX.2.1.le).trans e8,HEND.out⟩):p:=h
theorem WF{p:Prop}(h:p:=by
 go_simp
 refine hK.out _ _ ?_ (fun yH=>?_)
 .trivial
 clear hK K
 try simp only[Act.put,List.setIfInBounds_toArray,List.set_cons_zero,List.set_cons_succ]
 clear yH
 refine Aw 10 fun K hK=>?_
 refine BP _ _ _ _ rF _ _ _ rF rF HRUN.out ?_ _ rF
 refine hK.out _ _ ?_ (fun yH=>?_)
 .trivial
 clear hK K
 try simp only[Act.put,List.setIfInBounds_toArray,List.set_cons_zero,List.set_cons_succ]
 refine Tc 11 12 13 ?_
 clear yH
 refine Aw 14 fun K hK=>?_
 go_simp
 refine hK.out _ _ ?_ (fun yH=>?_)
 .trivial
 clear hK K
 try simp only[Act.put,List.setIfInBounds_toArray,List.set_cons_zero,List.set_cons_succ]
 refine wpAnyH_done kR ?_ _
 refine bodyPost_end (by simp[results,results49,go_sem, *];try rfl) rfl ?_
 have hE:=HX.1
 have l0:=HX.2.1.le
 have s1:=H1.2.size
 have s1d:=(A4 w1).size
 have s2:=H2.2.1.size
 have s3:=H3.2.size
 have s3d:=(A4 w3).size
 have s4:=H4.2.1.size
 have b1:=H1.2.bel E hE l0
 have b1d:Below E w1 w1.drew:=(A4 w1).mono oM
 have b2:=H2.2.1.bel E hE oM
 have b3:=H3.2.bel E hE oM
 have b3d:Below E w3 w3.drew:=(A4 w3).mono oM
 have b4:=H4.2.1.bel E hE oM
 have r5:=H5.1
 have d5:=H5.2.1
 have e5:=H5.2.2
 rw[HN.1]at r5 d5 e5
 have hreg:=SX (n:=(c.regs.length:Int)) (c:=c) HA.out H2.2.2 (by rw[HN.1];exact H4.2.2)
 exact⟨rfl,_,_,_,_,_,_,_,r5,d5,(((((b1.trans b1d).trans b2).trans b3).trans b3d).trans b4).trans e5,T2 hreg⟩):p:=h
theorem WG{p:Prop}(h:p:=by
 refine Tf 0 1 2 3 4 5 ?_
 clear yH
 refine Aw 6 fun K hK=>?_
 go_simp
 (go_at_call 103;(with_reducible refine(HKA.out _ (bel HTD.out.bel (A4 _))).mono ?_);rintro e w3 ⟨rfl,hb9⟩;have HB3:Hid (Below Wd.heap.size Wd w3):=bel (A4 _) hb9;clear hb9;obtain⟨c0,c1,c2,c3,i1,i2,i3,i4,i5,d0,d1⟩:=HCD.out w3 HB3.out)
 try(go_wp2_with fail)
 refine AU hK fun yH=>?_
 clear hK K
 refine Tf 7 8 9 10 11 12 ?_
 refine Tb 13 14 ?_
 clear yH
 refine Aw 15 fun K hK=>?_
 go_simp
 (go_at_call 103;(with_reducible refine(HKB.out _ (bel HTD.out.bel HB3.out)).mono ?_);rintro e w4 ⟨rfl,hb9⟩;have HB4:Hid (Below Wd.heap.size Wd w4):=bel HB3.out hb9;clear hb9;clear c0 c1 c2 c3 i1 i2 i3 i4 i5 d0 d1;obtain⟨c0,c1,c2,c3,i1,i2,i3,i4,i5,d0,d1⟩:=HCD.out w4 HB4.out)
 try(go_wp2_with fail)
 refine AU hK fun yH=>?_
 clear hK K
 refine Tf 16 17 18 19 20 21 ?_
 refine Tc 22 23 24 ?_
 clear yH
 refine Aw 25 fun K hK=>?_
 go_simp
 (go_at_call 103;(with_reducible refine(HKC.out _ (bel HTD.out.bel HB4.out)).mono ?_);rintro e w5 ⟨rfl,hb9⟩;have HB5:Hid (Below Wd.heap.size Wd w5):=bel HB4.out hb9;clear hb9;clear c0 c1 c2 c3 i1 i2 i3 i4 i5 d0 d1;obtain⟨c0,c1,c2,c3,i1,i2,i3,i4,i5,d0,d1⟩:=HCD.out w5 HB5.out)
 try(go_wp2_with fail)
 refine AU hK fun yH=>?_
 clear hK K
 refine Tb 26 27 ?_
 refine wpAnyH_done kR ?_ _
 go_wp2
 go_ret
 exact⟨A8 HQF.out,bel HTD.bel HB5.out⟩):p:=h
theorem DQ{p:Prop}(h:p:=by
 go_enter func64,ntmps64
 go_wp2
 go_ret2
 exact⟨rfl,rfl⟩):p:=h
theorem VP{p:Prop}(h:p:=by
 go_enter func58,ntmps58
 go_wp2_with(go_at_call 97;refine(HKI.out _ (HS0.below (A2 _ _))).mono ?_;rintro e w1 ⟨⟨A,rfl⟩,hb1⟩;have HF:Hid (MW w w1.heap.size G C b o (.slice p N q) L0 L1 L2 L3 L4 op false P A (w1.alloc (.cells #[.bool false,.int .i64 P,.int .i64 A] 153))):=(by have hq:=bel (A2 _ _) hb1;exact⟨bel hq (A2 _ _),kc (A2 _ _) (kc hb1 sG),kc (A2 _ _) (kc hb1 sG),kc (A2 _ _) (kc hb1 sG),kc (A2 _ _) (kc hb1 sG),kc (A2 _ _) (kc hb1 sG),sG,sG,kc (A2 _ _) (kc hq HS0.c0),kc (A2 _ _) (kc hq HS0.c3),kc (A2 _ _) (kc hq HE0.out)⟩);have f0:=HF.m0;have f1:=HF.g3;have f2:=HF.e0;have f3:=HF.m1;have f4:=HF.g0)
 all_goals(go_ret;exact⟨A8 (by simp;try omega),HF.bel⟩)):p:=h
theorem VQ{p:Prop}(h:p:=by
 go_enter func58,ntmps58
 go_wp2_with(go_at_call 97;refine(HKI.out _ (HS0.below (A2 _ _))).mono ?_;rintro e w1 ⟨⟨A,rfl⟩,hb1⟩;have HF:Hid (MW w w1.heap.size G C b o (.slice p N q) L0 L1 L2 L3 L4 op true P A (w1.alloc (.cells #[.bool true,.int .i64 P,.int .i64 A] 153))):=(by have hq:=bel (A2 _ _) hb1;exact⟨bel hq (A2 _ _),kc (A2 _ _) (kc hb1 sG),kc (A2 _ _) (kc hb1 sG),kc (A2 _ _) (kc hb1 sG),kc (A2 _ _) (kc hb1 sG),kc (A2 _ _) (kc hb1 sG),sG,sG,kc (A2 _ _) (kc hq HS0.c0),kc (A2 _ _) (kc hq HS0.c3),kc (A2 _ _) (kc hq HE0.out)⟩);have f0:=HF.m0;have f1:=HF.g3;have f2:=HF.e0;have f3:=HF.m1;have f4:=HF.g0)
 all_goals(go_ret;exact⟨A8 (by simp;try omega),HF.bel⟩)):p:=h
theorem WH{p:Prop}(h:p:=by
 have HRELN:Hid (TS (bs T) (ln+1) 3 ⟨c.sign,c.regs,c.slots,c.list++[i]⟩ (bs YB)/\TA (ln+1) 3 ln ⟨c.sign,c.regs,c.slots,c.list++[i]⟩):=(by
  refine⟨?_,⟨dE,fun e=>absurd e dE,fun _=>by simp only[List.length_append,List.length_singleton,HHD.2.1 dE,List.length_nil],by have:=HLN.out;omega⟩⟩
  have hg:=HGO.out
  rw[HYB.2.2.2] 
  by_cases hy:y=[]
  .subst hy
   exact .inr ⟨rfl,oM,hg.last HX10.out HLN0.out (by rw[HWS.out];exact HSTEP.out)⟩
  .exact .inl (hg.next HX10.out HLN0.out (by rw[HWS.out];exact HSTEP.out) hy))
 clear hrun hrow hcd hbl hcd9 hbl9 hbox
 go_wp2_with(at_builtin;refine Bl rF _ _ _ rF _ _ _ rF rF HRUN.out ?_)
 go_roundw
 case rel=>exact⟨ln+1,3,ln,⟨c.sign,c.regs,c.slots,c.list++[i]⟩,YB,(.slice r0 c.sign.length s0),(.slice r1 c.regs.length s1),(.slice r2 c.slots.length s2),(.slice (some ⟨g9,0,none⟩) (c.list.length+1) q9),rfl,rfl,HL1.out,gN,HYB.1,HRELN.1,HRELN.2,HCD9.out,(HJ.2.2.2.2.trans (HB6.mono HEW.out)).trans HBL9.out⟩
 case measure=>exact HYB.2.1):p:=h
theorem WI{p:Prop}(h:p:=by
 refine Tf 0 1 2 3 4 5 ?_
 clear yH
 refine Aw 6 fun K hK=>?_
 go_simp
 (go_at_call 103;(with_reducible refine(HKA.out _ (bel HTD.out.bel (A4 _))).mono ?_);rintro e w3 ⟨rfl,hb9⟩;have HB3:Hid (Below Wd.heap.size Wd w3):=bel (A4 _) hb9;clear hb9;obtain⟨c0,c1,c2,c3,i1,i2,i3,i4,i5,d0,d1⟩:=HCD.out w3 HB3.out)
 try(go_wp2_with fail)
 refine AU hK fun yH=>?_
 clear hK K
 refine Tf 7 8 9 10 11 12 ?_
 refine Tb 13 14 ?_
 clear yH
 refine Aw 15 fun K hK=>?_
 go_simp
 (go_at_call 103;(with_reducible refine(HKB.out _ (bel HTD.out.bel HB3.out)).mono ?_);rintro e w4 ⟨rfl,hb9⟩;have HB4:Hid (Below Wd.heap.size Wd w4):=bel HB3.out hb9;clear hb9;clear c0 c1 c2 c3 i1 i2 i3 i4 i5 d0 d1;obtain⟨c0,c1,c2,c3,i1,i2,i3,i4,i5,d0,d1⟩:=HCD.out w4 HB4.out)
 try(go_wp2_with fail)
 refine AU hK fun yH=>?_
 clear hK K
 refine Tc 16 17 18 ?_
 refine Kd 19 20 21 22 ?_
 refine Kd 23 24 25 26 ?_
 refine Bn 27 ?_
 refine wpAnyH_done kR ?_ _
 go_wp2
 go_ret
 exact⟨A8 HQF.out,bel HTD.bel HB4.out⟩):p:=h
theorem Xp{p:Prop}(h:p:=by
 have HQF:Hid (false=RES):=by show _=_;have:=HQ.out;rw[hpl]at this;exact this
 have hpl':=hpl
 unfold Am at hpl'
 rw[HN2.out]at hpl'
 by_cases hn0:0<=n
 .have HLT:Hid (¬n<(n2:Int)):=by show¬_;simp[hn0]at hpl';omega
  clear hpl hpl'
  go_wp2
  refine rG (fun v=>v.cell? ⟨w.heap.size,2,none⟩=some (.slice p2 n2 q2)/\v.cell? ⟨w.heap.size+1,5,none⟩=some (.int .i64 n)) fun yH=>?_
  refine Tf 0 1 2 3 4 5 ?_
  refine Tc 6 7 8 ?_
  refine wpAnyH_take (i:=9) (v:=.bool false) (by simp only[List.getElem?_toArray,List.getElem?_cons_succ,List.getElem?_cons_zero];rfl) kR kR kR (by exact fun _ _ _ h=>h) (Or.inl ⟨rF,?_⟩) (by assumption) ?_
  ·(intro wS hSw;(try dsimp only at hSw);have hltF:=HLT.out;go_simp;first|done|rfl|omega|(simp;omega)|simp[hltF])
  try simp only[Act.put,List.setIfInBounds_toArray,List.set_cons_zero,List.set_cons_succ]
  refine Tb 10 11 ?_
  refine Kd 12 13 14 15 ?_
  refine Kd 16 17 18 19 ?_
  refine Cu 20 ?_
  refine Tb 21 22 ?_
  refine wpAnyH_done kR ?_ _
  go_wp2
  go_ret
  exact⟨A8 HQF.out,CM hbt⟩
 .have HLT:Hid (¬0<=n):=hn0
  clear hpl hpl' hn0
  go_wp2
  refine rG (fun v=>v.cell? ⟨w.heap.size,2,none⟩=some (.slice p2 n2 q2)/\v.cell? ⟨w.heap.size+1,5,none⟩=some (.int .i64 n)) fun yH=>?_
  refine Tb 0 1 ?_
  refine wpAnyH_take (i:=2) (v:=.bool false) (by simp only[List.getElem?_toArray,List.getElem?_cons_succ,List.getElem?_cons_zero];rfl) kR kR kR (by exact fun _ _ _ h=>h) (Or.inl ⟨rF,?_⟩) (by assumption) ?_
  ·(intro wS hSw;(try dsimp only at hSw);have hltF:=HLT.out;go_simp;first|done|rfl|omega|(simp;omega)|simp[hltF])
  try simp only[Act.put,List.setIfInBounds_toArray,List.set_cons_zero,List.set_cons_succ]
  refine Bn 3 ?_
  refine Kd 4 5 6 7 ?_
  refine Cu 8 ?_
  refine Cu 9 ?_
  refine Tb 10 11 ?_
  refine Kd 12 13 14 15 ?_
  refine Kd 16 17 18 19 ?_
  refine Cu 20 ?_
  refine Tb 21 22 ?_
  refine wpAnyH_done kR ?_ _
  go_wp2
  go_ret
  exact⟨A8 HQF.out,CM hbt⟩):p:=h
theorem VR{p:Prop}(h:p:=by
 have HRT:Hid (r=(BD,250,(L1:Int))):=by
  show _=_
  rw[HP.out,<-HL1n.out]
  exact HGO.wrong (c':=BD) HX10.out HLN0.out (by rw[HWS.out];exact HSTEP.out)
 have hx9:=HXR.out _ (HJ.2.2.2.2.trans (HB6.mono HEW.out))
 obtain⟨x0,x1,x2,x3⟩:=c4 hx9
 obtain⟨f0,f1,f2,f3⟩:=z4 hx9
 clear hx9
 go_wp2
 refine bodyPost_ret (by simp[results,results6,go_sem, *];try rfl) rfl ?_
 rw[HRT.out]
 refine⟨_,_,_,_,rfl,CP.nil _ _,?_,HNO.out _⟩
 exact HFIN.out _ _ (HJ.2.2.2.2.trans (HB6.mono HEW.out)) (put4 (HXR.out _ (HJ.2.2.2.2.trans (HB6.mono HEW.out))) (.slice none 0 0) (.slice none 0 0) (.slice none 0 0) (.slice none 0 0)).2):p:=h
theorem WJ{p:Prop}(h:p:=by
 have HRELN:Hid (TS (bs T) (ln+1) 2 ⟨c.sign,c.regs,c.slots++[l],c.list⟩ (bs YB)/\TA (ln+1) 2 hd ⟨c.sign,c.regs,c.slots++[l],c.list⟩):=(by
  refine⟨?_,⟨dE,fun _=>HHD.2.1 dE,fun e=>absurd e dE,HHD.2.2.2⟩⟩
  have hg:=HGO.out
  rw[HYB.2.2.2] 
  by_cases hy:y=[]
  .subst hy
   exact .inr ⟨rfl,oM,hg.last HX10.out HLN0.out (by rw[HWS.out];exact HSTEP.out)⟩
  .exact .inl (hg.next HX10.out HLN0.out (by rw[HWS.out];exact HSTEP.out) hy))
 clear hrun hrow hcd hbl hcd9 hbl9 hbox
 go_wp2_with(at_builtin;refine Bl rF _ _ _ rF _ _ _ rF rF HRUN.out ?_)
 go_roundw
 case rel=>exact⟨ln+1,2,hd,⟨c.sign,c.regs,c.slots++[l],c.list⟩,YB,(.slice r0 c.sign.length s0),(.slice r1 c.regs.length s1),(.slice (some ⟨g9,0,none⟩) (c.slots.length+1) q9),(.slice r3 c.list.length s3),rfl,rfl,HL1.out,rfl,HYB.1,HRELN.1,HRELN.2,HCD9.out,(HJ.2.2.2.2.trans (HB6.mono HEW.out)).trans HBL9.out⟩
 case measure=>exact HYB.2.1):p:=h
theorem VS{p:Prop}(h:p:=by
 refine Tf 0 1 2 3 4 5 ?_
 refine Tf 6 7 8 9 10 14 ?_
 clear yH
 refine Aw 11 fun K hK=>?_
 go_simp
 (go_at_call 70;(with_reducible refine(HKT.out _ (bel HBV.out (A4 V1))).mono ?_);rintro e w2 ⟨rfl,b2⟩;have b3:=bel (bel HBV.out (A4 V1)) b2;have HB2:=A3 b3;have d0:=kc b3 t0;have d1:=kc b3 x0;have d2:=kc b3 x1;have d3:=kc b3 a0;clear b2 b3)
 try(go_wp2_with fail)
 refine AU hK fun yH=>?_
 clear hK K
 refine Tc 12 13 15 ?_
 refine Bn 16 ?_
 refine wpAnyH_done kR ?_ _
 try go_wp2
 refine bodyPost_ret (by simp[results,results71,go_sem, *];try rfl) rfl ?_
 exact⟨by rw[<-HR.out],bel HB0.out HB2.out⟩):p:=h
theorem Xq{p:Prop}(h:p:=by
 refine bodyPost_ret (by simp[results,results17,go_sem, *];try rfl) rfl ?_
 exact⟨I,false,rfl,fun h=>absurd h dE,fun _=>HT2.out,((((((((((((((HI.2.2.2).setCell HXW.out _)).setCell HXW.out _)).setCell HXW.out _)).setCell HXW.out _)).setCell HXW.out _)).setCell HXW.out _)).setCell HXW.out _)⟩):p:=h
theorem Vg{p:Prop}(h:p:=by
 have e95:(c==(95:Int))=false:=by rw[beq_eq_false_iff_ne];omega
 have e46:(c==(46:Int))=false:=by rw[beq_eq_false_iff_ne];omega
 have e47:(c==(47:Int))=false:=by rw[beq_eq_false_iff_ne];omega
 have e45:(c==(45:Int))=false:=by rw[beq_eq_false_iff_ne];omega
 have hp2:EJ c=false:=by unfold EJ;simp[*]
 clear h hp NX NB
 go_wp2
 go_meet
 exact⟨by rw[hp2];rfl,rfl⟩):p:=h
theorem Xr{p:Prop}(h:p:=by
 have HQF:Hid (false=RES):=HRES.out
 go_wp2
 refine rG (fun v=>v.cell? ⟨w.heap.size,0,none⟩=some (.slice p0 n0 q0)/\v.cell? ⟨w.heap.size,1,none⟩=some (.slice (some ⟨lb,lo,none⟩) n1 q1)/\v.cell? ⟨w.heap.size,2,none⟩=some (.slice p2 n2 q2)/\v.cell? ⟨w.heap.size,3,none⟩=some v3/\v.cell? ⟨w.heap.size+1,1,none⟩=some (.int .i64 (kd:Int))/\v.cell? ⟨w.heap.size+1,2,none⟩=some (.int .i64 A)/\v.cell? ⟨w.heap.size+1,3,none⟩=some (.int .i64 B)/\v.cell? ⟨w.heap.size+1,4,none⟩=some (.int .i64 E)/\v.cell? ⟨w.heap.size+1,5,none⟩=some (.int .i64 n)/\v.cell? ⟨Z,0,none⟩=some (.int .i64 dk)/\v.cell? ⟨Z,1,none⟩=some (.int .i64 dp)) fun yH=>?_
 refine Tf 0 1 2 3 4 5 ?_
 clear yH
 refine Aw 6 fun K hK=>?_
 go_simp
 (go_at_call 103;(with_reducible refine(HKA.out _ (bel HTD.out.bel (A4 _))).mono ?_);rintro e w3 ⟨rfl,hb9⟩;have HB3:Hid (Below Wd.heap.size Wd w3):=bel (A4 _) hb9;clear hb9;obtain⟨c0,c1,c2,c3,i1,i2,i3,i4,i5,d0,d1⟩:=HCD.out w3 HB3.out)
 try(go_wp2_with fail)
 refine AU hK fun yH=>?_
 clear hK K
 refine Tb 7 8 ?_
 refine Kd 9 10 11 12 ?_
 refine Kd 13 14 15 16 ?_
 refine Tb 17 18 ?_
 refine Kd 19 20 21 22 ?_
 refine Kd 23 24 25 26 ?_
 refine Bn 27 ?_
 refine wpAnyH_done kR ?_ _
 go_wp2
 go_ret
 exact⟨A8 HQF.out,bel HTD.bel HB3.out⟩):p:=h
theorem Xs{p:Prop}(h:p:=by
 go_wp2
 refine rG (fun v=>v.cell? ⟨b,o,none⟩=some (.int .i64 io)/\v.cell? ⟨b,o+5,none⟩=some (.int .i64 N)/\v.cell? ⟨G,2,none⟩=some (.slice pS s.set.length cS)) fun yH=>?_
 refine Tf 0 1 2 3 5 6 ?_
 refine Tf 7 8 9 10 11 12 ?_
 refine Tf 13 14 15 16 17 18 ?_
 refine Bn 19 ?_
 clear yH
 refine wpAnyH_ready (rs:=[4,20]) kR sM ?_
 refine GB 4 (fun K hK=>?_) ?_
 .go_simp
  refine AU hK fun yH=>?_
  clear hK K
  clear yH
  refine Aw 20 fun K hK=>?_
  go_simp
  refine AU hK fun yH=>?_
  clear hK K
  clear yH
  refine Aw 21 fun K hK=>?_
  refine Hj rF _ _ _ rF _ _ _ rF rF HR3.out ?_
  refine AU hK fun yH=>?_
  clear hK K
  refine Tb 22 23 ?_
  clear yH
  refine Aw 24 fun K hK=>?_
  go_simp
  refine AU hK fun yH=>?_
  clear hK K
  refine wpAnyH_done kR ?_ _
  go_wp2
  go_meet
  exact⟨_,_,HP.out⟩
 refine GB 20 (fun K hK=>?_) AllReadyH.nil
 go_simp
 refine AU hK fun yH=>?_
 clear hK K
 clear yH
 refine Aw 4 fun K hK=>?_
 go_simp
 refine AU hK fun yH=>?_
 clear hK K
 clear yH
 refine Aw 21 fun K hK=>?_
 refine Hj rF _ _ _ rF _ _ _ rF rF HR3.out ?_
 refine AU hK fun yH=>?_
 clear hK K
 refine Tb 22 23 ?_
 clear yH
 refine Aw 24 fun K hK=>?_
 go_simp
 refine AU hK fun yH=>?_
 clear hK K
 refine wpAnyH_done kR ?_ _
 go_wp2
 go_meet
 exact⟨_,_,HP.out⟩):p:=h
theorem Xt{p:Prop}(h:p:=by
 refine Tc 0 1 2 ?_
 refine Bn 3 ?_
 clear yH
 refine Aw 4 fun K hK=>?_
 go_simp
 refine AU hK fun yH=>?_
 clear hK K
 clear yH
 refine Aw 5 fun K hK=>?_
 go_simp
 (go_at_call 32;(with_reducible refine HKC.out.mono ?_);rintro e w2 ⟨rfl,b2⟩;have HC2:=A3 (bel HDD.out b2);have hr6:=HR5.out.of_block (HC2.out.block _ HR5.out.lt);clear u0 u1 u2 ud0 ud1 ud2 x0 x1 x2 f0 f1 f2;obtain⟨x0,x1,x2⟩:=c3 hr6;obtain⟨f0,f1,f2⟩:=z3 hr6;have hz6:=HZ5.out.of_block (HC2.out.block _ HZ5.out.lt);obtain⟨v0,v1,v2⟩:=c3 hz6;clear b2 hr6 hz6)
 try(go_wp2_with fail)
 refine AU hK fun yH=>?_
 clear hK K
 refine Tb 6 7 ?_
 clear yH
 refine Aw 8 fun K hK=>?_
 go_simp
 refine AU hK fun yH=>?_
 clear hK K
 refine Bn 9 ?_
 refine wpAnyH_done kR ?_ _
 go_wp2
 refine bodyPost_ret (by simp[results,results14,go_sem, *];try rfl) rfl ?_
 by_cases q:ck=0
 .refine⟨p,true,?_,fun _=>by rw[HT.out,if_pos q],fun h=>absurd h dE,?_⟩
  .rw[<-HPP.out,q];rfl
  .exact(((bel HDR.out HC2.out).setCell HXW.out _).setCell HXW.out _).setCell HXW.out _
 .refine⟨p,false,?_,fun h=>absurd h dE,fun _=>by rw[HT.out,if_neg q],?_⟩
  .rw[<-HPP.out,show(ck==0)=false from by rw[beq_eq_false_iff_ne];exact q]
  .exact(((bel HDR.out HC2.out).setCell HXW.out _).setCell HXW.out _).setCell HXW.out _):p:=h
theorem VT{p:Prop}(h:p:=by
 go_enter func18,ntmps18
 go_wp2_with(go_at_call 32;(with_reducible refine(HSG.out _ (A2 _ _)).mono ?_);rintro e w1 ⟨rfl,hb1⟩;have HX1:Hid (CX w (.slice p0 n0 q0) (.slice p1 n1 q1) (.slice p2 n2 q2) (.slice p3 n3 q3) w1):=(CX.start w _ _ _ _).next hb1;obtain⟨b1,b2,c0,c1,c2,c3⟩:=HX1.out;clear hb1)
 all_goals go_ret2
 all_goals exact⟨rfl,HX1.bel⟩):p:=h
theorem VU{p:Prop}(h:p:=by
 obtain⟨x0,x1,x2,x3,x4⟩:=c5 hr3
 obtain⟨f0,f1,f2,f3,f4⟩:=z5 hr3
 go_wp2
 refine bodyPost_ret (by simp[results,results16,go_sem, *];try rfl) rfl ?_
 exact⟨⟨⟨0,0⟩,false,0,0⟩,false,rfl,fun h=>absurd h dE,fun _=>HT.out,(((((bel HB0.out HB3.out).setCell HXW.out _).setCell HXW.out _).setCell HXW.out _).setCell HXW.out _).setCell HXW.out _⟩):p:=h
theorem Xu{p:Prop}(h:p:=by
 go_wp2
 go_loop [9] (fun nv=>∃k:Nat,k<=S.size/\nv=.int .i64 (k:Int)) (fun nv=>S.size-(intOf nv).toNat)
 case atStart=>exact⟨0,gJ _,rfl⟩
 case round=>
  obtain⟨k,hk,rfl⟩:=hrel
  by_cases hlt:k<S.size
  .have i1:(k:Int)<(S.size:Int):=oM
   have i2:(0:Int)<=(k:Int):=oM
   have i3:=HB10.out k hlt
   have wi:IntKind.i64.wrap ((k:Int)+1)=((k+1:Nat):Int):=by rw[IntKind.wrap_i64];have:=HJ.1;omega
   go_wp2
   go_round
   case rel=>exact⟨k+1,oM,gN⟩
   case measure=>simp[intOf];omega
  .have i1:¬ (k:Int)<(S.size:Int):=oM
   have i4:((k:Int)==(S.size:Int))=true:=by rw[beq_iff_eq];omega
   have hx9:=HXR.out _ (HJ.2.2.2.2)
   obtain⟨x0,x1,x2,x3⟩:=c4 hx9
   obtain⟨f0,f1,f2,f3⟩:=z4 hx9
   clear hx9
   go_wp2
   refine bodyPost_ret (by simp[results,results6,go_sem, *];try rfl) rfl ?_
   rw[HRT.out]
   refine⟨_,_,_,_,rfl,CP.nil _ _,?_,HNO.out _⟩
   exact HFIN.out _ _ (HJ.2.2.2.2) (put4 (HXR.out _ (HJ.2.2.2.2)) (.slice none 0 0) (.slice none 0 0) (.slice none 0 0) (.slice none 0 0)).2):p:=h
theorem Xv{p:Prop}(h:p:=by
 have HRELN:Hid (TS (bs T) (ln+1) 1 ⟨c.sign,c.regs++[t],c.slots,c.list⟩ (bs YB)/\TA (ln+1) 1 hd ⟨c.sign,c.regs++[t],c.slots,c.list⟩):=(by
  refine⟨?_,⟨dE,fun _=>HHD.2.1 dE,fun e=>absurd e dE,HHD.2.2.2⟩⟩
  have hg:=HGO.out
  rw[HYB.2.2.2] 
  by_cases hy:y=[]
  .subst hy
   exact .inr ⟨rfl,oM,hg.last HX10.out HLN0.out (by rw[HWS.out];exact HSTEP.out)⟩
  .exact .inl (hg.next HX10.out HLN0.out (by rw[HWS.out];exact HSTEP.out) hy))
 clear hrun hrow hcd hbl hcd9 hbl9 hbox
 go_wp2_with(at_builtin;refine Bl rF _ _ _ rF _ _ _ rF rF HRUN.out ?_)
 go_roundw
 case rel=>exact⟨ln+1,1,hd,⟨c.sign,c.regs++[t],c.slots,c.list⟩,YB,(.slice r0 c.sign.length s0),(.slice (some ⟨g9,0,none⟩) (c.regs.length+1) q9),(.slice r2 c.slots.length s2),(.slice r3 c.list.length s3),rfl,rfl,HL1.out,rfl,HYB.1,HRELN.1,HRELN.2,HCD9.out,(HJ.2.2.2.2.trans (HB6.mono HEW.out)).trans HBL9.out⟩
 case measure=>exact HYB.2.1):p:=h
theorem TZ{p:Prop}(h:p:=by
 go_enter func143,ntmps143
 go_wp2_with(go_at_call 151;refine(HK.out _).mono ?_;rintro e w1 ⟨rfl,rfl⟩)
 go_ret
 exact⟨A8 (HP.out _ sO),rfl⟩):p:=h
theorem Vh{p:Prop}(h:p:=by
 have e47:(c==(47:Int))=false:=by rw[beq_eq_false_iff_ne];omega
 have e45:(c==(45:Int))=false:=by rw[beq_eq_false_iff_ne];omega
 have hp2:EJ c=true:=by unfold EJ;simp[*]
 clear h hp NX NB
 go_wp2
 go_meet
 exact⟨by rw[hp2];rfl,rfl⟩):p:=h
theorem RQ{p:Prop}(h:p:=by
 rcases(show j=0\/j=1\/j=2\/j=3\/j=4\/j=5\/j=6 by omega)with rfl|rfl|rfl|rfl|rfl|rfl|rfl<;>rfl):p:=h
theorem WK{p:Prop}(h:p:=by
 go_wp2_with(first
  |(go_at_call 27;(with_reducible refine HKC.out.mono ?_);rintro e w1 ⟨rfl,hb1⟩;have HB1:=A3 hb1;clear hb1)
  |(go_at_call 28;(with_reducible refine(HKT.out _ HB1.out).mono ?_);rintro e w2 ⟨rfl,c',st',x0,x1,x2,x3,h2,b2,-⟩;have H2:=A3 (And.intro h2 b2);clear h2 b2))
 go_ret
 exact⟨false,c',ln+1,st',x0,x1,x2,x3,rfl,H2.1,HJ3.out _ _ HB1.out H2.2,HO.out c'⟩):p:=h
theorem Xw{p:Prop}(h:p:=by
 go_enter func53,ntmps53
 go_wp2_with(first
  |(go_at_call 87;refine HK1.mono ?_;rintro e w1 ⟨rfl,hb1⟩)
  |(go_at_call 89;refine(HK2.out _ (HR.below hb1)).mono ?_;rintro e w2 ⟨D,rfl,hm,hf,hb2⟩;have HM1:Hid (E3 w2 w1.heap.size n D):=hm;have hs:Maps.size D=n:=(by rw[hf.no HW.out,HN.out]);have hs2:¬ ((Maps.size D:Int)<(n:Int)):=oM;have HS:Hid (¬ ((Maps.size D:Int)<(n:Int))):=hs2;clear hm hf hs)
  |(have _t:=HM1;at_len;refine wpList_len_own _ rfl _ 46 rfl 9 3 underlying46 _ w1.heap.size n D rfl HM1.out ?_;clear HM1)
  |(go_at_call 90;refine(HK3.out _ (HR.below (bel hb1 hb2))).mono ?_;rintro e w3 ⟨rfl,hb3⟩))
 all_goals(go_ret;exact⟨rfl,bel (bel hb1 hb2) hb3⟩)):p:=h
theorem Va{p:Prop}(h:p:=by
 rcases(show j=0\/j=1\/j=2\/j=3\/j=4\/j=5\/j=6\/j=7\/j=8\/j=9\/j=10 by omega)with rfl|rfl|rfl|rfl|rfl|rfl|rfl|rfl|rfl|rfl|rfl<;>rfl):p:=h
theorem Xx{p:Prop}(h:p:=by
 have hn:FB r[i]=none:=by have h9:=HM6.2 rfl;rw[<-HT.out]at h9;rwa[show bs (A6 r[i])=r[i]from AZ _]at h9
 have HT2:Hid (B3 (a::r)=none):=by show _=_;rw[HYES.out];exact HI.1.bad hiF hrl hn
 obtain⟨x0,x1,x2,x3,x4,x5,x6⟩:=c7 hx6
 obtain⟨f0,f1,f2,f3,f4,f5,f6⟩:=z7 hx6
 obtain⟨s0,s1,s2,s3,s4,s5,s6⟩:=c7 hy6
 obtain⟨t0,t1,t2,t3,t4,t5,t6⟩:=z7 hy6
 clear hx6 hy6 hn hiF
 go_wp2
 refine bodyPost_ret (by simp[results,results17,go_sem, *];try rfl) rfl ?_
 exact⟨I,false,rfl,fun h=>absurd h dE,fun _=>HT2.out,((((((((((((((HB6.out).setCell HXW.out _)).setCell HXW.out _)).setCell HXW.out _)).setCell HXW.out _)).setCell HXW.out _)).setCell HXW.out _)).setCell HXW.out _)⟩):p:=h
theorem VV{p:Prop}(h:p:=by
 go_enter func93,ntmps93
 go_wp2_with(go_at_call 127;refine(HK.out _).mono ?_;rintro e w1 ⟨rfl,rfl⟩)
 refine bodyPost_ret (by simp[results,results93,go_sem, *];try rfl) rfl ?_
 exact⟨by rw[HT.out];rfl,gG⟩):p:=h
theorem Vi{p:Prop}(h:p:=by
 rw[hc];clear hc
 go_enter func152,ntmps152
 go_wp2_with(go_at_call 163;refine(Om _ h0 h1 _).mono ?_;rintro e w' ⟨rfl,rfl⟩)
 go_ret
 exact⟨rfl,rfl⟩):p:=h
theorem Xy{p:Prop}(h:p:=by
 go_enter func42,ntmps42
 go_wp2_with(first
  |(go_at_call 41;refine(HT.out _).mono ?_;rintro e w1 ⟨rfl,hb1⟩;have f0:w1.cell? ⟨w.heap.size,0,none⟩=some (.int .i64 K):=kc hb1 sG;have f3:w1.cell? ⟨w.heap.size,3,none⟩=some (.int .u32 B):=kc hb1 sG;have f4:w1.cell? ⟨w.heap.size,4,none⟩=some (.int .i64 I):=kc hb1 sG;have HB1:Hid _:=hb1;clear hb1)
  |(go_at_call 65;refine(HK.out _).mono ?_;rintro e w2 ⟨rfl,hb2⟩;have HB2:Hid _:=hb2;clear hb2))
 go_ret
 first
  |refine⟨A8 ?_,bel (A2 _ _) (bel HB1.out HB2.out)⟩
  |refine⟨A8 ?_,bel (A2 _ _) HB1.out⟩
 first
  |(simp[*];done)
  |(simp[*];omega)
  |(simp[*];intro h;omega)):p:=h
theorem Xz{p:Prop}(h:p:=by
 go_enter func42,ntmps42
 go_wp2_with(first
  |(go_at_call 41;refine(HT.out _).mono ?_;rintro e w1 ⟨rfl,hb1⟩;have f0:w1.cell? ⟨w.heap.size,0,none⟩=some (.int .i64 2):=kc hb1 sG;have f3:w1.cell? ⟨w.heap.size,3,none⟩=some (.int .u32 B):=kc hb1 sG;have f4:w1.cell? ⟨w.heap.size,4,none⟩=some (.int .i64 I):=kc hb1 sG;have HB1:Hid _:=hb1;clear hb1)
  |(go_at_call 65;refine(HK.out _).mono ?_;rintro e w2 ⟨rfl,hb2⟩;have HB2:Hid _:=hb2;clear hb2))
 go_ret
 first
  |refine⟨A8 ?_,bel (A2 _ _) (bel HB1.out HB2.out)⟩
  |refine⟨A8 ?_,bel (A2 _ _) HB1.out⟩
 first
  |(simp[*];done)
  |(simp[*];omega)
  |(simp[*];intro h;omega)):p:=h
theorem WL{p:Prop}(h:p:=by
 go_enter func14,ntmps14
 go_upto_region 1 with fail
 try rw[hV]
 try rw[hXX]
 clear hV hXX
 go_wp2
 refine bodyPost_ret (by simp[results,results14,go_sem, *];try rfl) rfl ?_
 exact⟨⟨⟨#[]⟩,0,0⟩,false,rfl,fun h=>absurd h dE,fun _=>HT.out,((HB0.setCell HXW.out _).setCell HXW.out _).setCell HXW.out _⟩):p:=h
theorem XD{p:Prop}(h:p:=by
 obtain rfl:=hps
 go_wp2
 refine rG (fun v=>v.cell? ⟨w.heap.size,2,none⟩=some (.slice (some ⟨lb9,lo9,none⟩) n2 q2)/\v.cell? ⟨w.heap.size+1,5,none⟩=some (.int .i64 (k:Int))/\v.cell? ⟨lb9,lo9+k*5,none⟩=some (.int .i64 sk)/\v.cell? ⟨lb9,lo9+k*5+1,none⟩=some (.int .i64 sp)/\v.cell? ⟨w5.heap.size,0,none⟩=some (.int .i64 sk)/\v.cell? ⟨w5.heap.size,1,none⟩=some (.int .i64 sp)) fun yH=>?_
 refine Tf 0 1 2 3 4 5 ?_
 refine Tf 6 7 8 9 10 11 ?_
 refine Tf 12 13 14 15 16 17 ?_
 refine Tc 18 19 20 ?_
 refine Tb 21 22 ?_
 refine wpAnyH_done kR ?_ _
 go_wp2
 go_ret
 refine⟨A8 ?_,CM hbt⟩
 rw[<-HQ9.out]
 simp):p:=h
theorem WM{p:Prop}(h:p:=by
 go_wp2
 refine bodyPost_ret (by simp[results,results6,go_sem, *];try rfl) rfl ?_
 rw[HRD.out,HLA.out]
 refine⟨_,_,_,_,rfl,CP.nil _ _,?_,HNO.out _⟩
 exact HFIN.out _ _ (HBZ.out) (put4 (HXR.out _ (HBZ.out)) (.slice none 0 0) (.slice none 0 0) (.slice none 0 0) (.slice none 0 0)).2):p:=h
theorem XE{p:Prop}(h:p:=by
 refine Kd 10 11 12 13 ?_
 clear yH
 refine Aw 14 fun K hK=>?_
 go_simp
 refine AU hK fun yH=>?_
 clear hK K
 refine Cu 15 ?_
 refine Tb 16 17 ?_
 refine Kd 18 19 20 21 ?_
 refine Kd 22 23 24 25 ?_
 refine Cu 26 ?_
 refine Cu 27 ?_
 refine Bn 28 ?_
 refine wpAnyH_done kR ?_ _
 go_wp2
 refine bodyPost_ret (by simp[results,results16,go_sem, *];try rfl) rfl ?_
 exact⟨⟨⟨0,0⟩,false,0,0⟩,false,rfl,fun h=>absurd h dE,fun _=>HT.out,(((((bel HB0.out (A4 V)).setCell HXW.out _).setCell HXW.out _).setCell HXW.out _).setCell HXW.out _).setCell HXW.out _⟩):p:=h
theorem VW{p:Prop}(h:p:=by
 go_ret
 exact⟨_,c',_,y0,y1,y2,y3,rfl,H5.1,HBV.trans H5.2.2.1,fun e=>absurd e HLN.out,fun _=>(by have h9:=Ri HSL.out HS3.out H5.2.2.2;rw[HSC.out]at h9;exact h9)⟩):p:=h
theorem XF{p:Prop}(h:p:=by
 go_simp
 refine AU hK fun yH=>?_
 clear hK K
 clear yH
 refine Aw 10 fun K hK=>?_
 refine Hj rF _ _ _ rF _ _ _ rF rF HR3.out ?_
 refine AU hK fun yH=>?_
 clear hK K
 refine Tb 11 12 ?_
 clear yH
 refine Aw 13 fun K hK=>?_
 go_simp
 refine AU hK fun yH=>?_
 clear hK K
 refine wpAnyH_done kR ?_ _
 go_wp2
 first|go_end0|(simp only[Exit.inBlock,Exit.then];refine bodyPost_ret (results_none rfl _ _ _) rfl ?_)|refine bodyPost_ret (results_none rfl _ _ _) rfl ?_
 exact⟨rfl,HF.1,_,_,HF.2⟩):p:=h
theorem VX{p:Prop}(h:p:=by
 refine AU hK fun yH=>?_
 clear hK K
 refine wpAnyH_done kR ?_ _
 go_wp2
 go_roundw
 case rel=>exact⟨hbv.drew,j+1,oM,gN,NX.out HE.out⟩
 case measure=>simp[intOf];omega):p:=h
theorem XG{p:Prop}(h:p:=by
 refine wpAnyH_done kR ?_ _
 have hr1:=HR.of_block (HCUR.block _ HR.lt)
 clear x0 x1 x2 x3 x4 f0 f1 f2 f3 f4
 obtain⟨x0,x1,x2,x3,x4⟩:=c5 hr1
 obtain⟨f0,f1,f2,f3,f4⟩:=z5 hr1
 clear hr1 yH
 go_wp2
 refine bodyPost_ret (by simp[results,results16,go_sem, *];try rfl) rfl ?_
 exact⟨⟨⟨0,0⟩,false,0,0⟩,false,rfl,fun h=>absurd h dE,fun _=>HT.out,(((((bel HB0.out HCUR.out).setCell HXW.out _).setCell HXW.out _).setCell HXW.out _).setCell HXW.out _).setCell HXW.out _⟩):p:=h
theorem VY{p:Prop}(h:p:=by
 unfold Oper.wp execOp
 simp only[ho,resolve,invoke,builtin,Sem.run_bind,Sem.run_pure,Result.andThen_ok,List.map_toArray,List.map_cons,List.map_nil,hs,hx,hr]
 exact h):p:=h
theorem VZ{p:Prop}(h:p:=by
 try(go_wp2_with fail)
 refine AU hK fun yH=>?_
 clear hK K
 refine Bn 7 ?_
 refine wpAnyH_done kR ?_ _
 go_wp2
 go_ret
 exact⟨A8 sM,(HC.out w3 HB3).bel⟩):p:=h
theorem W7{p:Prop}(h:p:=by
 refine AU hK fun yH=>?_
 clear hK K
 refine wpAnyH_done kR ?_ _
 go_wp2
 go_ret
 exact⟨A8 (NB.out HB.out).symm,(bel HB0.out hbv).drew⟩):p:=h
theorem XH{p:Prop}(h:p:=by
 go_enter func29,ntmps29
 go_wp2_with(first
  |(go_at_call 53;refine HK1.mono ?_;rintro e w1 ⟨rfl,hb1⟩;obtain⟨d1,d2,d3⟩:=HC.out w1 hb1)
  |(go_at_call 54;refine(HK2.out _ (HC0.below hb1)).mono ?_;rintro e w2 ⟨rfl,hb2⟩;have HB2:=bel hb1 hb2)
  |(go_at_call 55;refine(HK3.out _ (HC0.below HB2)).mono ?_;rintro e w3 ⟨rfl,hb3⟩;have HB3:=bel HB2 hb3))
 all_goals(go_ret;exact⟨rfl,HB3⟩)):p:=h
theorem XI{p:Prop}(h:p:=by
 refine Tf 0 1 2 3 4 5 ?_
 clear yH
 refine Aw 6 fun K hK=>?_
 go_simp
 (go_at_call 127;refine(HK.out _).mono ?_;rintro e w1 ⟨rfl,rfl⟩)
 try(go_wp2_with fail)
 refine AU hK fun yH=>?_
 clear hK K
 refine Bn 7 ?_
 refine Kd 8 9 10 11 ?_
 refine Kd 12 13 14 15 ?_
 refine Cu 16 ?_
 refine Cu 17 ?_
 refine Tb 18 19 ?_
 refine wpAnyH_done kR ?_ _
 go_wp2
 go_ret
 exact⟨rfl,bel (A2 _ _) (A4 _)⟩):p:=h
theorem RR{p:Prop}(h:p:=by
 exact⟨rfl,bel (A2 _ _) (A2 _ _)⟩):p:=h
theorem WN{p:Prop}(h:p:=by
 intro x hx
 obtain⟨k,rfl,hkl⟩:=CZ hx
 obtain⟨lb,lo,hp,hc⟩:=Ce.at (p:=p1) (n:=c.regs.length) (c:=q1) hv.regs hkl
 rw[DF rfl hkl]
 exact⟨k,lb,lo,rfl,hkl,hp,hc.at 0 rfl,hc.at 1 rfl⟩):p:=h
theorem W8{p:Prop}(h:p:=by
 obtain⟨x,hx,-⟩:=h.row
 obtain⟨y,hy,-⟩:=w3
 rw[e,hx]at hy
 have:=(Obj.cells.inj (Option.some.inj hy)).2.1
 exact absurd this dE):p:=h
theorem XJ{p:Prop}(h:p:=by
 refine Kd 10 11 12 13 ?_
 clear yH
 refine Aw 14 fun K hK=>?_
 go_simp
 refine AU hK fun yH=>?_
 clear hK K
 refine Cu 15 ?_
 refine Bn 16 ?_
 refine wpAnyH_done kR ?_ _
 go_wp2
 refine bodyPost_ret (by simp[results,results15,go_sem, *];try rfl) rfl ?_
 exact⟨⟨0,0⟩,false,rfl,fun h=>absurd h dE,fun _=>HT.out,((bel HB0.out (A4 V)).setCell HXW.out _).setCell HXW.out _⟩):p:=h
theorem WO{p:Prop}(h:p:=by
 try(go_wp2_with fail)
 refine AU hK fun yH=>?_
 clear hK K
 refine wpAnyH_done kR ?_ _
 try go_wp2_with fail
 go_roundw
 case rel=>exact⟨j+1,oM,gN,HQ4.out⟩
 case measure=>simp[intOf];omega):p:=h
theorem XK{p:Prop}(h:p:=by
 clear h h34 h36 hno
 go_wp2_with(go_at_call 99;refine HK.mono ?_;rintro e w1 ⟨rfl,hb1,hoff,vs',vo',hws⟩;have HP:Hid (PS E G C n gi w.heap.size L0 w T vs' vo' w1):=(by refine⟨HB1.trans hb1,by rw[HT1.out];exact hws,?_,oM,oM⟩;rw[gC (hoff w.heap.size (by have:=HVS.out;omega) oM oM)];exact HVB.out);clear hb1 hoff hws)
 go_meet
 exact⟨_,_,HP.out⟩):p:=h
theorem XL{p:Prop}(h:p:=by
 clear h0 hsof hst hask hn hbd e2 hL h
 go_enter func119,ntmps119
 go_wp2_with(first
  |(go_at_call 140;(with_reducible refine K1.out.mono ?_);rintro e w1 ⟨rfl,hb1⟩)
  |(go_at_call 80;(with_reducible refine(BH B _ b _ _ (H.out.below hb1)).mono ?_);rintro e w3 ⟨rfl,h3,k3⟩))
 go_ret
 exact⟨n,rfl,fun m hm=>(nomatch hm),h3,(BS.of hb1).trans k3⟩):p:=h
theorem WP{p:Prop}(h:p:=by
 go_enter func29,ntmps29
 go_wp2_with(go_at_call 53;refine HK1.mono ?_;rintro e w1 ⟨rfl,hb1⟩;obtain⟨d1,d2,d3⟩:=HC.out w1 hb1)
 all_goals(go_ret;exact⟨rfl,hb1⟩)):p:=h
theorem WQ{p:Prop}(h:p:=by
 go_enter func31,ntmps31
 go_wp2
 refine bodyPost_ret (by simp[results,results31,go_sem, *];try rfl) rfl ?_
 exact⟨0,false,rfl,fun h=>absurd h dE,fun _=>HT.out,BY _⟩):p:=h
theorem XM{p:Prop}(h:p:=by
 rw[HS'.out]
 clear HS
 go_enter func47,ntmps47
 go_wp2_with(first
  |(go_at_call 27;(with_reducible refine K.out.mono ?_);rintro e w1 ⟨rfl,hb1⟩;have v6:=H6.out w1 hb1;have hl1:=HLK.out w1 hb1)
  |(go_at_call 75;(with_reducible refine(KC.out _).mono ?_);rintro e w2 ⟨rfl,hw7⟩;have hw8:=hw7.symm;subst hw8))
 go_ret
 exact⟨rfl,hb1⟩):p:=h
theorem U1{p:Prop}(h:p:=by
 by_cases e:i=j
 .subst e;exact hq
 .exact hp.out i h oM):p:=h
theorem TC{p:Prop}(h:p:=by
 exact An (by simpa using h3) hr dE hp.2):p:=h
theorem XN{p:Prop}(h:p:=by
 clear h
 go_enter func66,ntmps66
 go_wp2_with(first
  |(go_at_call 64;refine(HROW.out _).mono ?_;rintro e w1 ⟨rfl,rfl⟩)
  |(go_at_call 65;refine(HCAN.out _).mono ?_;rintro e w2 ⟨rfl,hb2⟩;have HB2:Hid _:=hb2;clear hb2))
 go_ret
 exact⟨rfl,bel (bel (A2 _ _) (A2 _ _)) HB2.out⟩):p:=h
theorem WR{p:Prop}(h:p:=by
 go_enter func123,ntmps123
 go_wp2
 refine bodyPost_ret (by simp[results,results123,go_sem, *];try rfl) rfl ?_
 exact⟨rfl,rfl⟩):p:=h
theorem XO{p:Prop}(h:p:=by
 have h8:=EK g 3 cp c r (by have:=HNR.out;simp only[List.length_cons];omega) (fun x hx=>HS.out x (List.mem_cons_of_mem _ (List.mem_cons_of_mem _ (List.mem_cons_of_mem _ hx)))) v h9
 rw[show(c::r).length=N-3 by have:=HNR.out;simp only[List.length_cons];omega]at h8
 exact h8):p:=h
theorem Vj{p:Prop}(h:p:=by
 rcases(show j=0\/j=1\/j=2\/j=3 by omega)with rfl|rfl|rfl|rfl<;>rfl):p:=h
theorem Vk{p:Prop}(h:p:=by
 go_enter func141,ntmps141
 go_wp2
 go_ret2
 exact⟨rfl,rfl⟩):p:=h
theorem WT{p:Prop}(h:p:=by
 have h1:=MI hT hx
 have h2:(Au c.regs x).kind=3:=by simpa[EB]using hk
 unfold AG at h1
 rw[if_neg oM,if_pos h2]at h1
 exact h1):p:=h
theorem XP{p:Prop}(h:p:=by
 refine bodyPost_ret (by simp[results,results72,go_sem, *];try rfl) rfl ?_
 refine⟨some ⟨g,0,none⟩,c',?_,?_,HFIN.out _ H8.2⟩
 .rw[<-HWW.out,List.length_append,<-HJN.out];rfl
 .rw[<-HWW.out,List.length_append,<-HJN.out];exact C2 H8.1 HEW.out):p:=h
theorem XQ{p:Prop}(h:p:=by
 show _=_
 rw[HSL.out,hT,Option.bind_some]
 match hd:(c::r).drop kk with
 |[]=>rfl
 |[x]=>have:=congrArg List.length hd;rw[List.length_drop]at this;simp only[List.length_cons,List.length_nil]at this;simp only[List.length_cons]at hlen hkl;omega
 |x::y::z=>rfl):p:=h
theorem WU{p:Prop}(h:p:=by
 rw[f1,f2,f3,f4];unfold Vw;clear f1 f2 f3 f4
 go_enter func133,ntmps133
 go_wp2
 go_returns
 exact⟨rfl,_,rfl⟩):p:=h
theorem W9{p:Prop}(h:p:=by
 go_enter func7,ntmps7
 go_wp2
 all_goals(go_ret;exact⟨rfl,HB0.out⟩)):p:=h
theorem XR{p:Prop}(h:p:=by
 exact⟨⟨h.le,hp.1,⟨An h.own.sign h.row dE hp.2,An h.own.regs h.row dE hp.2,An h.own.slots h.row dE hp.2,An h.own.list h.row dE hp.2⟩,h.maps.keep fun C g hm=>hp.2.oth C (hm.no h.row)⟩,hp.2.bel E h.le⟩):p:=h
theorem Wb{p:Prop}(h:p:=by
 have HQ:Hid ((n==0)=RES):=HRT.out
 go_wp2
 go_ret
 exact⟨A8 HQ.out,hbt⟩):p:=h
theorem WV{p:Prop}(h:p:=by
 go_ret
 refine⟨A8 ?_,bel (bel (A2 _ _) (A2 _ _)) (bel HB1.out (A2 _ _))⟩
 simp[EB, *]):p:=h
theorem XS{p:Prop}(h:p:=by
 refine Tf 0 1 2 3 4 5 ?_
 refine Tf 6 7 8 9 10 11 ?_
 refine Tf 12 13 14 15 16 17 ?_
 refine Tc 18 19 20 ?_
 refine Tb 21 22 ?_
 refine wpAnyH_done kR ?_ _
 go_wp2
 go_ret
 refine⟨A8 ?_,CM hbt⟩
 rw[<-HQ9.out]
 simp[hps]):p:=h
theorem XT{p:Prop}(h:p:=by
 refine Tf 0 1 2 3 4 5 ?_
 refine Tf 6 7 8 9 10 11 ?_
 refine Tf 12 13 14 15 16 17 ?_
 refine Tc 18 19 20 ?_
 refine Tb 21 22 ?_
 refine wpAnyH_done kR ?_ _
 go_wp2
 go_ret
 refine⟨A8 ?_,CM hbt⟩
 rw[<-HQ9.out]
 simp[hks]):p:=h
theorem XU{p:Prop}(h:p:=by
 rw[gC (gE (by show w.heap.size≠G;omega)),hfar ⟨w.heap.size,0,none⟩ (by have:=HVS.out;show w.heap.size<_;omega) (fun e=>by have:=(HS.opn.lt _ e).2;simp at this)]
 exact HVB.out):p:=h
theorem Wc{p:Prop}(h:p:=by
 unfold VN
 obtain rfl|rfl|rfl|rfl:j=0\/j=1\/j=2\/j=3:=oM
 all_goals rfl):p:=h
theorem XV{p:Prop}(h:p:=by
 try(go_wp2_with fail)
 refine AU hK fun yH=>?_
 clear hK K
 refine Bn 8 ?_
 refine wpAnyH_done kR ?_ _
 go_wp2
 go_roundw
 case rel=>exact⟨HCX.next HB2.out,j+1,oM,gN,NX.out fT⟩
 case measure=>simp[intOf];omega):p:=h
theorem XW{p:Prop}(h:p:=by
 show _=_
 rw[HSL.out,hT,hx,Option.bind_some]
 show(if tk=2 then(Af x).bind fun i=>some (⟨⟨tk,tp⟩,decide (k=At),0,i⟩:Sl)else(BI x).bind fun b=>some ⟨⟨tk,tp⟩,decide (k=At),b,0⟩)=_
 rw[HKB.out]):p:=h
theorem XX{p:Prop}(h:p:=by
 by_cases hb:B=0
 .simp[Ea,hd,ha,hb,h2 hb,KG,D2,Option.bind_assoc]
 .by_cases hc:C=0
  .simp[Ea,hd,ha,hb,hc,KG,D2,Option.bind_assoc]
  .simp[Ea,hd,ha,hb,hc,KG,D2,Option.bind_assoc]):p:=h
theorem XY{p:Prop}(h:p:=by
 go_wp2
 refine bodyPost_ret (by simp[results,results15,go_sem, *];try rfl) rfl ?_
 exact⟨t,false,rfl,fun h=>absurd h dE,fun _=>HF.out,Below.alloc ((BW.setCell HXW.out _).setCell HXW.out _) sO _⟩):p:=h
theorem XZ{p:Prop}(h:p:=by
 go_enter func47,ntmps47
 go_wp2_with(go_at_call 27;(with_reducible refine K.out.mono ?_);rintro e w1 ⟨rfl,hb1⟩;have v6:=H6.out w1 hb1;have hl1:=HLK.out w1 hb1)
 go_ret
 exact⟨rfl,hb1⟩):p:=h
theorem Y0{p:Prop}(h:p:=by
 go_enter func39,ntmps39
 go_wp2
 refine bodyPost_ret (by simp[results,results39,go_sem, *];try rfl) rfl ?_
 exact⟨0,false,rfl,fun h=>absurd h dE,fun _=>HT.out,BY _⟩):p:=h
theorem We{p:Prop}(h:p:=by
 go_wp2
 go_ret
 exact⟨A8 (by simp[h];try omega),rfl⟩):p:=h
theorem Wf{p:Prop}(h:p:=by
 by_cases e':i=j
 .subst e';exact e
 .exact hp.out i h1 h2 oM):p:=h
theorem Y1{p:Prop}(h:p:=by
 have:j=n:=oM
 subst this
 have HF:Hid (C4 (l.take j)=C4 l):=by show _=_;rw[List.take_of_length_le (by rw[HN.out];exact gF _)]
 go_wp2
 go_ret
 exact⟨DG HF.out,hb⟩):p:=h
theorem Y2{p:Prop}(h:p:=by
 try(go_wp2_with fail)
 refine AU hK fun yH=>?_
 clear hK K
 refine Bn 8 ?_
 refine wpAnyH_done kR ?_ _
 go_wp2
 go_ret2
 exact⟨Fp (NB.out fT),bel HCX.bel HB2.out⟩):p:=h
theorem Y3{p:Prop}(h:p:=by
 refine bodyPost_ret (by simp[results,results34,go_sem, *];try rfl) rfl ?_
 exact⟨⟨0,0⟩,0,rfl,.inl ⟨rfl,HT.out⟩,(HB0.setCell HXW.out _).setCell HXW.out _⟩):p:=h
theorem Y4{p:Prop}(h:p:=by
 by_cases a:K=1
 .subst a;exact .inl ⟨rfl,rfl⟩
 .by_cases b:K=2
  .subst b;exact .inr (.inl ⟨rfl,rfl⟩)
  .exact .inr (.inr ⟨by simpa using a,by simpa using b⟩)):p:=h
theorem Y5{p:Prop}(h:p:=by
 unfold Oper.wp execOp
 simp only[ho,resolve,invoke,builtin,Sem.run_bind,Sem.run_pure,Result.andThen_ok,List.map_toArray,List.map_cons,List.map_nil,hs,hx,hr]
 exact hK _ _ h):p:=h
theorem Y6{p:Prop}(h:p:=by
 go_wp2_with(go_at_call 104;(with_reducible refine(HPA.out _ hbt).mono ?_);rintro e w7 ⟨rfl,hb7⟩;have HB7:Hid _:=hb7;clear hb7)
 go_ret
 exact⟨rfl,bel hbt HB7.out⟩):p:=h
theorem WW{p:Prop}(h:p:=by
 rcases(show j=0\/j=1\/j=2\/j=3\/j=4 by omega)with rfl|rfl|rfl|rfl|rfl<;>rfl):p:=h
theorem Y7{p:Prop}(h:p:=by
 have:j=s.size:=oM
 subst this
 have HF:Hid (B1 s=true):=Lu h0 h64 fun i h=>hp.out i h h
 clear hp
 go_wp2
 go_ret
 exact⟨A8 HF.symm,rfl⟩):p:=h
theorem WY{p:Prop}(h:p:=by
 go_enter func91,ntmps91
 go_wp2
 go_ret
 exact⟨rfl,A2 _ _⟩):p:=h
theorem WZ{p:Prop}(h:p:=by
 go_enter func41,ntmps41
 go_wp2
 go_ret
 exact⟨rfl,A2 _ _⟩):p:=h
theorem Y8{p:Prop}(h:p:=by
 have hl0:=HL.2.2.2 rfl
 clear hF
 go_wp2
 go_ret
 refine⟨_,rfl,?_,HF.bel⟩
 rw[<-HR.out,<-hl0]
 exact C2 HO.out (by have:=HF.hC;omega)):p:=h
theorem Y9{p:Prop}(h:p:=by
 go_enter func102,ntmps102
 go_wp2_with(go_at_call 133;refine(T7 _ oM oM _).mono ?_;rintro e w' ⟨rfl,o,rfl⟩)
 go_ret
 exact⟨rfl,gG⟩):p:=h
theorem Ya{p:Prop}(h:p:=by
 rw[beq_eq_false_iff_ne,<-hD]
 intro q
 refine n1 (Cv.2 ⟨⟨oM,oM⟩,?_⟩)
 rw[ByteArray.toList_eq,ByteArray.toList_eq]at q
 simpa[A6]using q):p:=h
theorem Yb{p:Prop}(h:p:=by
 have hl2:kk<(c::r).length:=oM
 refine⟨hl2,?_⟩
 have h9:=List.drop_eq_getElem_cons hl2
 rw[hx]at h9
 exact((List.cons.injEq _ _ _ _▸h9).1).symm):p:=h
theorem X4{p:Prop}(h:p:=by
 subst hl
 rw[Bt dE]at h
 simp only[Bool.and_eq_true]at h
 exact h.2):p:=h
theorem Yc{p:Prop}(h:p:=by
 intro j hj
 have hj':j<7:=hj
 rcases(show j=0\/j=1\/j=2\/j=3\/j=4\/j=5\/j=6 by omega)with rfl|rfl|rfl|rfl|rfl|rfl|rfl<;>exact rd5.cell dE):p:=h
theorem Yd{p:Prop}(h:p:=by
 go_enter func85,ntmps85
 go_wp2
 refine bodyPost_ret (by simp[results,results85,go_sem, *];try rfl) rfl ?_
 exact⟨rfl,rfl⟩):p:=h
theorem Ye{p:Prop}(h:p:=by
 go_enter func40,ntmps40
 go_wp2
 refine bodyPost_ret (by simp[results,results40,go_sem, *];try rfl) rfl ?_
 exact⟨rfl,rfl⟩):p:=h
theorem Wg{p:Prop}(h:p:=by
 go_ret
 exact⟨rfl,bel (A2 _ _) hb1⟩):p:=h
theorem Wh{p:Prop}(h:p:=by
 exact hp.out i hi (by rw[<-HN.out];exact hi)):p:=h
theorem Yf{p:Prop}(h:p:=by
 clear HC4
 go_wp2_with(go_at_call 63;refine HK.mono ?_;rintro e w1 ⟨rfl,hb1⟩)
 go_ret
 exact⟨DG HC5.symm,bel hb' hb1⟩):p:=h
theorem X6{p:Prop}(h:p:=by
 go_enter func12,ntmps12
 go_wp2
 go_ret
 exact⟨rfl,rfl⟩):p:=h
theorem Yg{p:Prop}(h:p:=by
 rw[h8]
 by_cases q:AK p=true
 .rw[if_pos q,if_pos ((FD p).2 q)]
 .rw[if_neg q,if_neg (fun e=>q ((FD p).1 e))]):p:=h
theorem X8{p:Prop}(h:p:=by
 rcases(show j=0\/j=1\/j=2 by omega)with rfl|rfl|rfl<;>rfl):p:=h
theorem Yh{p:Prop}(h:p:=by
 rw[HT.out]
 intro c hc
 rw[List.mem_append]at hc
 rcases hc with hc|hc
 .exact HA.out c hc
 .simp at hc;subst hc;exact hx):p:=h
theorem Yi{p:Prop}(h:p:=by
 exact AX h1 dE (Ar _ _ _ _) (fun _=>Ar _ _ _ _) (fun _=>Ar _ _ _ _) (fun _=>Ar _ _ _ _) rfl):p:=h
theorem Yj{p:Prop}(h:p:=by
 go_wp2_with(go_at_call 127;refine(HK.out _).mono ?_;rintro e w1 ⟨rfl,rfl⟩)
 go_ret
 exact⟨rfl,A2 _ _⟩):p:=h
theorem X9{p:Prop}(h:p:=by have hq:=bel (A2 _ _) hb1;exact⟨bel hq (A2 _ _),kc (A2 _ _) (kc hb1 sG),kc (A2 _ _) (kc hb1 sG),kc (A2 _ _) (kc hb1 sG),kc (A2 _ _) (kc hb1 sG),kc (A2 _ _) (kc hb1 sG),sG,sG,kc (A2 _ _) (kc hq HS0.c0),kc (A2 _ _) (kc hq HS0.c3),kc (A2 _ _) (kc hq HE0.out)⟩):p:=h
theorem Wi{p:Prop}(h:p:=by exact⟨bel hw1 (A2 _ _),sG,sG,sG,sG,sG,kc (A2 _ _) (kc hw1 g0)⟩):p:=h
theorem U3{p:Prop}(h:p:=by have h9:=HNX.out;rw[HSB.out]at h9;exact h9):p:=h
theorem Ny{p:Prop}(h:p:=by simp[Value.oneCell']):p:=h
theorem Nz{p:Prop}(h:p:=by have:=HLN.out;omega):p:=h
theorem Pa{p:Prop}(h:p:=by rw[<-AZ a];exact h):p:=h
theorem Wj{p:Prop}(h:p:=by simp[results,results34,go_sem, *];try rfl):p:=h
theorem Wl{p:Prop}(h:p:=by simp[results,results16,go_sem, *];try rfl):p:=h
theorem Wm{p:Prop}(h:p:=by simp[results,results5,go_sem, *];try rfl):p:=h
theorem TD{p:Prop}(h:p:=by have:=HLn.out;omega):p:=h
theorem U4{p:Prop}(h:p:=by rw[<-AZ k];exact h):p:=h
theorem Wn{p:Prop}(h:p:=by have:=HX.1;have:=HX.2.2.2;omega):p:=h
theorem Yk{p:Prop}(h:p:=by have:=E7 r.reverse ⟨L,P,A⟩ 2 (u:=.int .i64 A) rfl;rwa[hl]at this):p:=h
theorem Yl{p:Prop}(h:p:=by have:=E7 r.reverse ⟨L,P,A⟩ 1 (u:=.int .i64 P) rfl;rwa[hl]at this):p:=h
theorem Wo{p:Prop}(h:p:=by have:=HWX.out;have:=HEX.2;omega):p:=h
theorem Xa{p:Prop}(h:p:=by simp[results,results134,go_sem, *];try rfl):p:=h
theorem Ym{p:Prop}(h:p:=by have:=E7 r.reverse ⟨L,P,A⟩ 0 (u:=.bool L) rfl;rwa[hl]at this):p:=h
theorem Xb{p:Prop}(h:p:=by simp[results,results48,go_sem, *];try rfl):p:=h
theorem TE{p:Prop}(h:p:=by simpa using hu):p:=h
theorem Xc{p:Prop}(h:p:=by simp[results,results6,go_sem, *];try rfl):p:=h
theorem Yn{p:Prop}(h:p:=by have:=HO.out;unfold Jx at this;rw[List.length_map]at this;exact this):p:=h
theorem Pb{p:Prop}(h:p:=by simp[hc]):p:=h
theorem Wp{p:Prop}(h:p:=by rw[HQB.out];exact HB3.size):p:=h
theorem U5{p:Prop}(h:p:=by have:=h.1;omega):p:=h
theorem Wq{p:Prop}(h:p:=by rw[HWS.out];exact HSTEP.out):p:=h
theorem U6{p:Prop}(h:p:=by simpa using h):p:=h
theorem Yo{p:Prop}(h:p:=by simp only[List.length_append,List.length_singleton];omega):p:=h
theorem Yp{p:Prop}(h:p:=by have:=HX.1;have:=HGZ.out;have:=HX.2.2.2;omega):p:=h
theorem Xd{p:Prop}(h:p:=by rw[h1];exact fun e=>absurd e.1 dE):p:=h
theorem Xe{p:Prop}(h:p:=by show 1<=140737488351232;decide):p:=h
theorem Zfs{p:Prop}(h:p:=by intro u hu;exact GV s u (by simpa using hu)):p:=h
theorem Zft{p:Prop}(h:p:=by intro u hu;exact Ju s u (by simpa using hu)):p:=h
theorem Zfu{p:Prop}(h:p:=by intro u hu;exact Jq s u (by simpa using hu)):p:=h
theorem Zfv{p:Prop}(h:p:=by intro u hu;exact IX s u (by simpa using hu)):p:=h
theorem Ws{p:Prop}(h:p:=by have:=HXQ.out;omega):p:=h
theorem Wt{p:Prop}(h:p:=by have:=HOK.out;omega):p:=h
theorem Wu{p:Prop}(h:p:=by rw[Hc];omega):p:=h
theorem U7{p:Prop}(h:p:=by simp[h]):p:=h
theorem Wv{p:Prop}(h:p:=by unfold nb;omega):p:=h
end Go.Proofs.YtjlpkjblkllfbaaGreatDoor
