import Derived.RowKit3
import Derived.Test.YtnbccaicijcklaaRows
import Derived.WalkKit
import Derived.WalkSpells
import Derived.WalkLawsBesides
import Derived.LoopN
import Derived.Below
import Derived.OwnWalk
import Derived.Shelf.Abstract
import Derived.Deep.AppendLies
import Derived.Maps.AppendAt
import Derived.Laws.AppendOwnNone
import Derived.Deep.OwnRows
import Derived.Deep.DeepCutAuto
import Derived.Deep.QuietTactic
import Derived.Deep.RegionHeld3
import Derived.BigQuiet
import Derived.Handy
import Derived.OrdersHeld
namespace Go.Proofs.Ytnbccaicijcklaa
open Go.RowKit Go.Proofs.Try
set_option linter.all false
set_option maxRecDepth 100000
set_option maxHeartbeats 16000000
abbrev Bs:=List UInt8
def bs(s:ByteArray):Bs:=s.data.toList
def nb(b:UInt8):Int:=(b.toNat:Int)
def hd:Bs→Int
 |[]=>0
 |b::_=>nb b
theorem KX(s:ByteArray):(bs s).length=s.size:=by simp[bs]
theorem Pd(s:ByteArray):(⟨(bs s).toArray⟩:ByteArray)=s:=by simp[bs]
theorem LZ{s t:ByteArray}(h:bs s=bs t):s=t:=by rw[←Pd s,←Pd t,h]
structure Bt where
 name:ByteArray
 kind:Int
 len:Int
def ES(c:Int):Bool:=
 (decide (97≤c)&&decide (c≤122))||(decide (65≤c)&&decide (c≤90))||(decide (48≤c)&&decide (c≤57))||c==95||c==46||c==47||c==45
def Bg(s:ByteArray):Bool:=(s.size != 0&&decide (s.size≤64))&&(bs s).all fun b=>ES (nb b)
def Bl(p:Bt):Bool:=(Bg p.name&&(p.kind==1||p.kind==2))&&(decide (1≤p.len)&&decide (p.len≤4096))
def Ej(p:Bt):Int:=if Bl p then(if p.kind==2 then 2*p.len else p.len)else 0
def BO:List Bt→Int
 |[]=>0
 |p::r=>Ej p+BO r
def AK(s:ByteArray):List Bt→Option Nat
 |[]=>none
 |p::r=>if p.name=s then some 0 else(AK s r).map (· +1)
def Be:List Bt→Bool
 |[]=>false
 |p::r=>(r.any fun q=>decide (q.name=p.name))||Be r
def AU(l:List Bt):Int:=
 if l.length>64 then 2 else if l.all Bl=false then 100 else if Be l then 101 else if BO l>65536 then 102 else 0
theorem Ek(p:Bt):0≤Ej p∧Ej p≤8192:=by
 unfold Ej
 split
 ·rename_i h
  unfold Bl at h
  simp at h
  split<;>omega
 ·decide
theorem ID(l:List Bt)(p:Bt):BO (l++[p])=BO l+Ej p:=by
 induction l with
 |nil=>simp[BO]
 |cons q r ih=>simp only[List.cons_append,BO,ih];omega
theorem Ev(l:List Bt):0≤BO l∧BO l≤8192*(l.length:Int):=by
 induction l with
 |nil=>simp[BO]
 |cons q r ih=>have:=Ek q;simp only[BO,List.length_cons];omega
theorem Fc{α:Type}{l:List α}{i:Nat}(h:i<l.length):l.take (i+1)=l.take i++[l[i]]:=by simp
theorem Gv{s:ByteArray}:∀ {l:List Bt} {i:Nat},(h:i<l.length)→l[i].name=s→(∀j (h:j<l.length),j<i→l[j].name≠s)→AK s l=some i
 |[],i,h,_,_=>absurd h (Nat.not_lt_zero _)
 |p::r,0,_,e,_=>by simp only[AK];rw[if_pos (show p.name=s from e)]
 |p::r,i+1,h,e,hn=>by
  have h0:=hn 0 (by simp) (by omega)
  simp only[List.getElem_cons_zero]at h0
  simp only[AK]
  rw[if_neg h0,Gv (l:=r) (i:=i) (by simpa using h) (by simpa using e) (fun j hj hji=>by have:=hn (j+1) (by simpa using hj) (by omega);simpa using this)]
  rfl
theorem Gu{s:ByteArray}:∀ {l:List Bt},(∀j (h:j<l.length),l[j].name≠s)→AK s l=none
 |[],_=>rfl
 |p::r,hn=>by
  have h0:=hn 0 (by simp)
  simp only[List.getElem_cons_zero]at h0
  simp only[AK]
  rw[if_neg h0,Gu (l:=r) (fun j hj=>by have:=hn (j+1) (by simpa using hj);simpa using this)]
  rfl
theorem Fe:∀ {l:List Bt},Be l=true↔∃i j,∃ (hi:i<l.length) (hj:j<l.length),j<i∧l[j].name=l[i].name
 |[]=>by simp[Be]
 |p::r=>by
  simp only[Be,Bool.or_eq_true,List.any_eq_true,decide_eq_true_eq]
  rw[Fe (l:=r)]
  constructor
  ·rintro(⟨q,hq,e⟩|⟨i,j,hi,hj,hji,e⟩)
   ·obtain⟨k,hk,rfl⟩:=List.mem_iff_getElem.1 hq
    exact⟨k+1,0,by simpa using hk,by simp,by omega,by simpa using e.symm⟩
   ·exact⟨i+1,j+1,by simpa using hi,by simpa using hj,by omega,by simpa using e⟩
  ·rintro⟨i,j,hi,hj,hji,e⟩
   cases i with
   |zero=>omega
   |succ i=>
    cases j with
    |zero=>
     simp only[List.getElem_cons_zero,List.getElem_cons_succ]at e
     exact .inl ⟨r[i]'(by simpa using hi),List.getElem_mem _,e.symm⟩
    |succ j=>
     simp only[List.getElem_cons_succ]at e
     exact .inr ⟨i,j,by simpa using hi,by simpa using hj,by omega,e⟩
def GV:Bs→Bs→List Bs
 |cur,[]=>if cur.isEmpty then [] else [cur]
 |cur,b::t=>if nb b==10 then cur::GV [] t else GV (cur++[b]) t
def Jy:Bs→Bs→List Bs
 |cur,[]=>[cur]
 |cur,b::t=>if nb b==32 then cur::Jy [] t else Jy (cur++[b]) t
def PJ(c:Int):Bool:=decide (48≤c)&&decide (c≤57)
def PU:Int→Bs→Int
 |n,[]=>n
 |n,b::t=>PU (n*10+(nb b-48)) t
def Ru(s:Bs):Option Int:=
 if s.isEmpty||decide (4<s.length)||hd s==48 then none
 else if(s.all fun b=>PJ (nb b))then(if PU 0 s≤4096 then some (PU 0 s)else none)else none
def Qm:Bs:=[114,101,97,108]
def FH:Bs:=[99,111,109,112,108,101,120]
def Ry(a k n:Bs):Option Bt:=
 if k==Qm||k==FH then
  (match Ru n with
   |some m=>if Bl ⟨⟨a.toArray⟩,if k==FH then 2 else 1,m⟩then some ⟨⟨a.toArray⟩,if k==FH then 2 else 1,m⟩else none
   |none=>none)
 else none
def Qd(s:Bs):Option Bt:=
 match Jy [] s with
 |[a,k,n]=>Ry a k n
 |_=>none
structure RH where
 list:List Bt
 err:Int
 line:Nat
def JY:List Bt→Nat→List Bs→RH
 |acc,n,[]=>⟨acc,0,0⟩
 |acc,n,x::r=>if x.isEmpty||hd x==35 then JY acc (n+1) r else
  match Qd x with
  |none=>⟨[],250,n+1⟩
  |some p=>JY (acc++[p]) (n+1) r
theorem bel{a b c:World}(h:Below a.heap.size a b)(k:Below b.heap.size b c):Below a.heap.size a c:=h.trans (k.mono h.size)
theorem C9(w:World):Below w.heap.size w w:=Below.refl _ _
theorem A0(w:World)(o:Obj):Below w.heap.size w (w.alloc o):=(Below.refl _ _).alloc (Nat.le_refl _) o
theorem Ae(w:World):Below w.heap.size w w.drew:=(Below.refl _ _).drew
theorem Ab{w:World}{a:Addr}{v:Value}(h:w.cell? a=some v):a.block<w.heap.size:=by
 rcases Nat.lt_or_ge a.block w.heap.size with c|c
 ·exact c
 ·have:w.heap[a.block]? =none:=Array.getElem?_eq_none c
  simp[World.cell?,this]at h
theorem A8{a b:Bool}(h:a=b):Ending.returned (.bool a)=.returned (.bool b):=by rw[h]
theorem Dk{k:IntKind}{a b:Int}(h:a=b):Ending.returned (.int k a)=.returned (.int k b):=by rw[h]
def pv(p:Bt):Value:=.agg #[.string p.name,.int .i64 p.kind,.int .i64 p.len]
def AP(p:Bt):List Value:=[.string p.name,.int .i64 p.kind,.int .i64 p.len]
def Q0(w:World)(b o:Nat)(p:Bt):Prop:=
 w.cell? ⟨b,o,none⟩=some (.string p.name)∧w.cell? ⟨b,o+1,none⟩=some (.int .i64 p.kind)∧w.cell? ⟨b,o+2,none⟩=some (.int .i64 p.len)
theorem Q0.below{w w':World}{b o:Nat}{p:Bt}(h:Q0 w b o p)(k:Below w.heap.size w w'):Q0 w' b o p:=
 ⟨(k.cell (Ab h.1)).trans h.1,(k.cell (Ab h.2.1)).trans h.2.1,(k.cell (Ab h.2.2)).trans h.2.2⟩
def LO(w:World)(p:Option Addr)(l:List Bt):Prop:=l=[]∨∃b o,p=some ⟨b,o,none⟩∧∀i (h:i<l.length),Q0 w b (o+i*3) l[i]
def Rd(w:World)(v:Value)(l:List Bt):Prop:=∃p c,v=.slice p l.length c∧LO w p l
theorem LO.below{w w':World}{p:Option Addr}{l:List Bt}(h:LO w p l)(k:Below w.heap.size w w'):LO w' p l:=
 h.imp id fun⟨b,o,hp,h⟩=>⟨b,o,hp,fun i hi=>(h i hi).below k⟩
theorem Rd.below{w w':World}{v:Value}{l:List Bt}(h:Rd w v l)(k:Below w.heap.size w w'):Rd w' v l:=by
 obtain⟨p,c,hv,h⟩:=h
 exact⟨p,c,hv,h.below k⟩
theorem LO.at{w:World}{p:Option Addr}{l:List Bt}(h:LO w p l){i:Nat}(hi:i<l.length):∃b o,p=some ⟨b,o,none⟩∧Q0 w b (o+i*3) l[i]:=by
 rcases h with h|⟨b,o,hp,h⟩
 ·rw[h]at hi;exact absurd hi (Nat.not_lt_zero _)
 ·exact⟨b,o,hp,h i hi⟩
def cellsOf(l:List Bt):List Value:=l.flatMap AP
def T7(w:World)(B:Nat)(v:Value)(l:List Bt):Prop:=w.ownsRow B 42 3 v l.length (cellsOf l)

theorem Bw{P:Program}{md:Region.Mode}{ops:Array Oper}{Q:Exit→Act→World→Prop}{S:World→Prop}(i:Nat){oi:Oper}{v:Value}{fuel:Nat}{listed l':Array Bool}{a a':Act}{w:World}
 (h:wpAnyH P md ops Q S fuel l' a' w)
 (hi:ops[i]? =some oi:=by simp only[List.getElem?_toArray,List.getElem?_cons_succ,List.getElem?_cons_zero];rfl)
 (hw:Region.wanted oi (yielded ops a.tmps)=true:=by rfl)
 (hv:∀w,S w→(execOp a.eval oi).run P w=.ok (.value v) w:=by(intro wS hSw;(try dsimp only at hSw);go_simp;try(with_reducible rfl)))
 (hl:listed.setIfInBounds i true=l':=by(try simp only[List.setIfInBounds_toArray,List.set_cons_zero,List.set_cons_succ]);rfl)
 (ha:a.put oi.dst v=a':=by(try simp only[Act.put,List.setIfInBounds_toArray,List.set_cons_zero,List.set_cons_succ]);rfl)
 (hs:Region.noSelect ops=true:=by kernel_rfl) (hf:Region.free md ops listed i=true:=by kernel_rfl) (hr:(Region.ready md ops listed).contains i=true:=by kernel_rfl)
 (hQ:∀c a w,Q (.panic c) (a.put oi.dst v) w→Q (.panic c) a w:=by exact fun _ _ _ h=>h) (hS:S w:=by assumption):wpAnyH P md ops Q S (fuel+1) listed a w:=
 wpAnyH_take hi hs hf hr hQ (.inl ⟨hw,hv⟩) hS (by rw[hl,ha];exact h)
theorem CD{P:Program}{md:Region.Mode}{ops:Array Oper}{Q:Exit→Act→World→Prop}{S:World→Prop}(i:Nat){oi:Oper}{fuel:Nat}{listed l':Array Bool}{a a':Act}{w:World}
 (h:wpAnyH P md ops Q S fuel l' a' w)
 (hi:ops[i]? =some oi:=by simp only[List.getElem?_toArray,List.getElem?_cons_succ,List.getElem?_cons_zero];rfl)
 (hw:Region.wanted oi (yielded ops a.tmps)=false:=by rfl)
 (hl:listed.setIfInBounds i true=l':=by(try simp only[List.setIfInBounds_toArray,List.set_cons_zero,List.set_cons_succ]);rfl)
 (ha:a.put oi.dst undef=a':=by(try simp only[Act.put,List.setIfInBounds_toArray,List.set_cons_zero,List.set_cons_succ]);rfl)
 (hs:Region.noSelect ops=true:=by kernel_rfl) (hf:Region.free md ops listed i=true:=by kernel_rfl) (hr:(Region.ready md ops listed).contains i=true:=by kernel_rfl)
 (hQ:∀c a w,Q (.panic c) (a.put oi.dst undef) w→Q (.panic c) a w:=by exact fun _ _ _ h=>h) (hS:S w:=by assumption):wpAnyH P md ops Q S (fuel+1) listed a w:=
 wpAnyH_take hi hs hf hr hQ (.inr ⟨hw,rfl⟩) hS (by rw[hl,ha];exact h)
theorem Ax{P:Program}{md:Region.Mode}{ops:Array Oper}{Q:Exit→Act→World→Prop}{S:World→Prop}(i:Nat){o:Oper}{fuel:Nat}{listed:Array Bool}{a:Act}{w:World}
 (h:∀K':Act→World→Prop,Shut (∀a w,S w→(S w→wpAnyH P md ops Q S fuel (listed.setIfInBounds i true) a w)→K' a w)→if Region.wanted o (yielded ops a.tmps)=true then Oper.wp P o a w K' Q else K' (a.put o.dst undef) w)
 (ho:ops[i]? =some o:=by simp only[List.getElem?_toArray,List.getElem?_cons_succ,List.getElem?_cons_zero];rfl)
 (hr:Region.ready md ops listed=[i]:=by kernel_rfl):wpAnyH P md ops Q S (fuel+1) listed a w:=
 wpAnyH_ready hr (by simp) (AllReadyH.cons ho h AllReadyH.nil)
theorem D8{P:Program}{md:Region.Mode}{ops:Array Oper}{Q:Exit→Act→World→Prop}{S:World→Prop}(i:Nat){o:Oper}{fuel:Nat}{listed:Array Bool}{a:Act}{w:World}{rs:List Nat}
 (h:∀K':Act→World→Prop,Shut (∀a w,S w→(S w→wpAnyH P md ops Q S fuel (listed.setIfInBounds i true) a w)→K' a w)→if Region.wanted o (yielded ops a.tmps)=true then Oper.wp P o a w K' Q else K' (a.put o.dst undef) w)
 (hs:AllReadyH P md ops Q S fuel listed a w rs)
 (ho:ops[i]? =some o:=by simp only[List.getElem?_toArray,List.getElem?_cons_succ,List.getElem?_cons_zero];rfl):AllReadyH P md ops Q S fuel listed a w (i::rs):=
 AllReadyH.cons ho h hs
theorem Jn{p:Prop}(h:p:=by simp only[List.getElem?_toArray,List.getElem?_cons_succ,List.getElem?_cons_zero];rfl):p:=h
theorem MH{p:Prop}(h:p:=by(intro wS hSw;(try dsimp only at hSw);go_simp;try(with_reducible rfl))):p:=h
theorem IH{p:Prop}(h:p:=by(try simp only[List.setIfInBounds_toArray,List.set_cons_zero,List.set_cons_succ]);rfl):p:=h
theorem IG{p:Prop}(h:p:=by(try simp only[Act.put,List.setIfInBounds_toArray,List.set_cons_zero,List.set_cons_succ]);rfl):p:=h
theorem Aw{P:Program}{md:Region.Mode}{ops:Array Oper}{Q:Exit→Act→World→Prop}{S:World→Prop}{fuel:Nat}{l l':Array Bool}{a a':Act}{w:World}{K:Act→World→Prop}
 (hK:Shut (∀a w,S w→(S w→wpAnyH P md ops Q S fuel l a w)→K a w)) (h:S w→wpAnyH P md ops Q S fuel l' a' w)
 (hS:S w:=by(try dsimp only);go_keep) (hl:l=l':=by exact IH) (ha:a=a':=by exact IG):K a w:=
 hK.out a w hS (by rw[hl,ha];exact h)
theorem rG{P:Program}{ops:Array Oper}{Q:Exit→Act→World→Prop}(S:World→Prop){id:Nat}{a:Act}{w:World}(h:S w.drew→wpAnyH P .any ops Q S ops.size (Array.replicate ops.size false) a w.drew)
 (hm:P.follows .mixedOrders=true:=by kernel_rfl) (hS:S w.drew:=by(try dsimp only);go_keep):(Code.region id ops true).wp P Q a w:=
 wp_region_held_drew hm hS h
theorem Tb{P:Program}{md:Region.Mode}{ops:Array Oper}{Q:Exit→Act→World→Prop}{S:World→Prop}{fuel:Nat}{w:World}
 (i0 i1:Nat)
 {o0 o1:Oper}
 {v0 v1:Value}
 {l0 l1 l2:Array Bool} {a0 a1 a2:Act}
 (h:wpAnyH P md ops Q S fuel l2 a2 w)
 (hi0:ops[i0]? =some o0:=by exact Jn)
 (hw0:Region.wanted o0 (yielded ops a0.tmps)=true:=by rfl)
 (hv0:∀w,S w→(execOp a0.eval o0).run P w=.ok (.value v0) w:=by exact MH)
 (hl0:l0.setIfInBounds i0 true=l1:=by exact IH)
 (ha0:a0.put o0.dst v0=a1:=by exact IG)
 (hf0:Region.free md ops l0 i0=true:=by kernel_rfl) (hr0:(Region.ready md ops l0).contains i0=true:=by kernel_rfl)
 (hQ0:∀c a w,Q (.panic c) (a.put o0.dst v0) w→Q (.panic c) a w:=by exact fun _ _ _ h=>h)
 (hi1:ops[i1]? =some o1:=by exact Jn)
 (hw1:Region.wanted o1 (yielded ops a1.tmps)=true:=by rfl)
 (hv1:∀w,S w→(execOp a1.eval o1).run P w=.ok (.value v1) w:=by exact MH)
 (hl1:l1.setIfInBounds i1 true=l2:=by exact IH)
 (ha1:a1.put o1.dst v1=a2:=by exact IG)
 (hf1:Region.free md ops l1 i1=true:=by kernel_rfl) (hr1:(Region.ready md ops l1).contains i1=true:=by kernel_rfl)
 (hQ1:∀c a w,Q (.panic c) (a.put o1.dst v1) w→Q (.panic c) a w:=by exact fun _ _ _ h=>h)
 (hs:Region.noSelect ops=true:=by kernel_rfl) (hS:S w:=by assumption):wpAnyH P md ops Q S (fuel+2) l0 a0 w:=
 Bw i0 (Bw i1 h hi1 hw1 hv1 hl1 ha1 hs hf1 hr1 hQ1 hS) hi0 hw0 hv0 hl0 ha0 hs hf0 hr0 hQ0 hS
theorem Tc{P:Program}{md:Region.Mode}{ops:Array Oper}{Q:Exit→Act→World→Prop}{S:World→Prop}{fuel:Nat}{w:World}
 (i0 i1 i2:Nat)
 {o0 o1 o2:Oper}
 {v0 v1 v2:Value}
 {l0 l1 l2 l3:Array Bool} {a0 a1 a2 a3:Act}
 (h:wpAnyH P md ops Q S fuel l3 a3 w)
 (hi0:ops[i0]? =some o0:=by exact Jn)
 (hw0:Region.wanted o0 (yielded ops a0.tmps)=true:=by rfl)
 (hv0:∀w,S w→(execOp a0.eval o0).run P w=.ok (.value v0) w:=by exact MH)
 (hl0:l0.setIfInBounds i0 true=l1:=by exact IH)
 (ha0:a0.put o0.dst v0=a1:=by exact IG)
 (hf0:Region.free md ops l0 i0=true:=by kernel_rfl) (hr0:(Region.ready md ops l0).contains i0=true:=by kernel_rfl)
 (hQ0:∀c a w,Q (.panic c) (a.put o0.dst v0) w→Q (.panic c) a w:=by exact fun _ _ _ h=>h)
 (hi1:ops[i1]? =some o1:=by exact Jn)
 (hw1:Region.wanted o1 (yielded ops a1.tmps)=true:=by rfl)
 (hv1:∀w,S w→(execOp a1.eval o1).run P w=.ok (.value v1) w:=by exact MH)
 (hl1:l1.setIfInBounds i1 true=l2:=by exact IH)
 (ha1:a1.put o1.dst v1=a2:=by exact IG)
 (hf1:Region.free md ops l1 i1=true:=by kernel_rfl) (hr1:(Region.ready md ops l1).contains i1=true:=by kernel_rfl)
 (hQ1:∀c a w,Q (.panic c) (a.put o1.dst v1) w→Q (.panic c) a w:=by exact fun _ _ _ h=>h)
 (hi2:ops[i2]? =some o2:=by exact Jn)
 (hw2:Region.wanted o2 (yielded ops a2.tmps)=true:=by rfl)
 (hv2:∀w,S w→(execOp a2.eval o2).run P w=.ok (.value v2) w:=by exact MH)
 (hl2:l2.setIfInBounds i2 true=l3:=by exact IH)
 (ha2:a2.put o2.dst v2=a3:=by exact IG)
 (hf2:Region.free md ops l2 i2=true:=by kernel_rfl) (hr2:(Region.ready md ops l2).contains i2=true:=by kernel_rfl)
 (hQ2:∀c a w,Q (.panic c) (a.put o2.dst v2) w→Q (.panic c) a w:=by exact fun _ _ _ h=>h)
 (hs:Region.noSelect ops=true:=by kernel_rfl) (hS:S w:=by assumption):wpAnyH P md ops Q S (fuel+3) l0 a0 w:=
 Bw i0 (Bw i1 (Bw i2 h hi2 hw2 hv2 hl2 ha2 hs hf2 hr2 hQ2 hS) hi1 hw1 hv1 hl1 ha1 hs hf1 hr1 hQ1 hS) hi0 hw0 hv0 hl0 ha0 hs hf0 hr0 hQ0 hS
theorem Tf{P:Program}{md:Region.Mode}{ops:Array Oper}{Q:Exit→Act→World→Prop}{S:World→Prop}{fuel:Nat}{w:World}
 (i0 i1 i2 i3 i4 i5:Nat)
 {o0 o1 o2 o3 o4 o5:Oper}
 {v0 v1 v2 v3 v4 v5:Value}
 {l0 l1 l2 l3 l4 l5 l6:Array Bool} {a0 a1 a2 a3 a4 a5 a6:Act}
 (h:wpAnyH P md ops Q S fuel l6 a6 w)
 (hi0:ops[i0]? =some o0:=by exact Jn)
 (hw0:Region.wanted o0 (yielded ops a0.tmps)=true:=by rfl)
 (hv0:∀w,S w→(execOp a0.eval o0).run P w=.ok (.value v0) w:=by exact MH)
 (hl0:l0.setIfInBounds i0 true=l1:=by exact IH)
 (ha0:a0.put o0.dst v0=a1:=by exact IG)
 (hf0:Region.free md ops l0 i0=true:=by kernel_rfl) (hr0:(Region.ready md ops l0).contains i0=true:=by kernel_rfl)
 (hQ0:∀c a w,Q (.panic c) (a.put o0.dst v0) w→Q (.panic c) a w:=by exact fun _ _ _ h=>h)
 (hi1:ops[i1]? =some o1:=by exact Jn)
 (hw1:Region.wanted o1 (yielded ops a1.tmps)=true:=by rfl)
 (hv1:∀w,S w→(execOp a1.eval o1).run P w=.ok (.value v1) w:=by exact MH)
 (hl1:l1.setIfInBounds i1 true=l2:=by exact IH)
 (ha1:a1.put o1.dst v1=a2:=by exact IG)
 (hf1:Region.free md ops l1 i1=true:=by kernel_rfl) (hr1:(Region.ready md ops l1).contains i1=true:=by kernel_rfl)
 (hQ1:∀c a w,Q (.panic c) (a.put o1.dst v1) w→Q (.panic c) a w:=by exact fun _ _ _ h=>h)
 (hi2:ops[i2]? =some o2:=by exact Jn)
 (hw2:Region.wanted o2 (yielded ops a2.tmps)=true:=by rfl)
 (hv2:∀w,S w→(execOp a2.eval o2).run P w=.ok (.value v2) w:=by exact MH)
 (hl2:l2.setIfInBounds i2 true=l3:=by exact IH)
 (ha2:a2.put o2.dst v2=a3:=by exact IG)
 (hf2:Region.free md ops l2 i2=true:=by kernel_rfl) (hr2:(Region.ready md ops l2).contains i2=true:=by kernel_rfl)
 (hQ2:∀c a w,Q (.panic c) (a.put o2.dst v2) w→Q (.panic c) a w:=by exact fun _ _ _ h=>h)
 (hi3:ops[i3]? =some o3:=by exact Jn)
 (hw3:Region.wanted o3 (yielded ops a3.tmps)=true:=by rfl)
 (hv3:∀w,S w→(execOp a3.eval o3).run P w=.ok (.value v3) w:=by exact MH)
 (hl3:l3.setIfInBounds i3 true=l4:=by exact IH)
 (ha3:a3.put o3.dst v3=a4:=by exact IG)
 (hf3:Region.free md ops l3 i3=true:=by kernel_rfl) (hr3:(Region.ready md ops l3).contains i3=true:=by kernel_rfl)
 (hQ3:∀c a w,Q (.panic c) (a.put o3.dst v3) w→Q (.panic c) a w:=by exact fun _ _ _ h=>h)
 (hi4:ops[i4]? =some o4:=by exact Jn)
 (hw4:Region.wanted o4 (yielded ops a4.tmps)=true:=by rfl)
 (hv4:∀w,S w→(execOp a4.eval o4).run P w=.ok (.value v4) w:=by exact MH)
 (hl4:l4.setIfInBounds i4 true=l5:=by exact IH)
 (ha4:a4.put o4.dst v4=a5:=by exact IG)
 (hf4:Region.free md ops l4 i4=true:=by kernel_rfl) (hr4:(Region.ready md ops l4).contains i4=true:=by kernel_rfl)
 (hQ4:∀c a w,Q (.panic c) (a.put o4.dst v4) w→Q (.panic c) a w:=by exact fun _ _ _ h=>h)
 (hi5:ops[i5]? =some o5:=by exact Jn)
 (hw5:Region.wanted o5 (yielded ops a5.tmps)=true:=by rfl)
 (hv5:∀w,S w→(execOp a5.eval o5).run P w=.ok (.value v5) w:=by exact MH)
 (hl5:l5.setIfInBounds i5 true=l6:=by exact IH)
 (ha5:a5.put o5.dst v5=a6:=by exact IG)
 (hf5:Region.free md ops l5 i5=true:=by kernel_rfl) (hr5:(Region.ready md ops l5).contains i5=true:=by kernel_rfl)
 (hQ5:∀c a w,Q (.panic c) (a.put o5.dst v5) w→Q (.panic c) a w:=by exact fun _ _ _ h=>h)
 (hs:Region.noSelect ops=true:=by kernel_rfl) (hS:S w:=by assumption):wpAnyH P md ops Q S (fuel+6) l0 a0 w:=
 Bw i0 (Bw i1 (Bw i2 (Bw i3 (Bw i4 (Bw i5 h hi5 hw5 hv5 hl5 ha5 hs hf5 hr5 hQ5 hS) hi4 hw4 hv4 hl4 ha4 hs hf4 hr4 hQ4 hS) hi3 hw3 hv3 hl3 ha3 hs hf3 hr3 hQ3 hS) hi2 hw2 hv2 hl2 ha2 hs hf2 hr2 hQ2 hS) hi1 hw1 hv1 hl1 ha1 hs hf1 hr1 hQ1 hS) hi0 hw0 hv0 hl0 ha0 hs hf0 hr0 hQ0 hS
theorem Kd{P:Program}{md:Region.Mode}{ops:Array Oper}{Q:Exit→Act→World→Prop}{S:World→Prop}{fuel:Nat}{w:World}
 (i0 i1 i2 i3:Nat)
 {o0 o1 o2 o3:Oper}
 {l0 l1 l2 l3 l4:Array Bool} {a0 a1 a2 a3 a4:Act}
 (h:wpAnyH P md ops Q S fuel l4 a4 w)
 (hi0:ops[i0]? =some o0:=by exact Jn)
 (hw0:Region.wanted o0 (yielded ops a0.tmps)=false:=by rfl)
 (hl0:l0.setIfInBounds i0 true=l1:=by exact IH)
 (ha0:a0.put o0.dst undef=a1:=by exact IG)
 (hf0:Region.free md ops l0 i0=true:=by kernel_rfl) (hr0:(Region.ready md ops l0).contains i0=true:=by kernel_rfl)
 (hQ0:∀c a w,Q (.panic c) (a.put o0.dst undef) w→Q (.panic c) a w:=by exact fun _ _ _ h=>h)
 (hi1:ops[i1]? =some o1:=by exact Jn)
 (hw1:Region.wanted o1 (yielded ops a1.tmps)=false:=by rfl)
 (hl1:l1.setIfInBounds i1 true=l2:=by exact IH)
 (ha1:a1.put o1.dst undef=a2:=by exact IG)
 (hf1:Region.free md ops l1 i1=true:=by kernel_rfl) (hr1:(Region.ready md ops l1).contains i1=true:=by kernel_rfl)
 (hQ1:∀c a w,Q (.panic c) (a.put o1.dst undef) w→Q (.panic c) a w:=by exact fun _ _ _ h=>h)
 (hi2:ops[i2]? =some o2:=by exact Jn)
 (hw2:Region.wanted o2 (yielded ops a2.tmps)=false:=by rfl)
 (hl2:l2.setIfInBounds i2 true=l3:=by exact IH)
 (ha2:a2.put o2.dst undef=a3:=by exact IG)
 (hf2:Region.free md ops l2 i2=true:=by kernel_rfl) (hr2:(Region.ready md ops l2).contains i2=true:=by kernel_rfl)
 (hQ2:∀c a w,Q (.panic c) (a.put o2.dst undef) w→Q (.panic c) a w:=by exact fun _ _ _ h=>h)
 (hi3:ops[i3]? =some o3:=by exact Jn)
 (hw3:Region.wanted o3 (yielded ops a3.tmps)=false:=by rfl)
 (hl3:l3.setIfInBounds i3 true=l4:=by exact IH)
 (ha3:a3.put o3.dst undef=a4:=by exact IG)
 (hf3:Region.free md ops l3 i3=true:=by kernel_rfl) (hr3:(Region.ready md ops l3).contains i3=true:=by kernel_rfl)
 (hQ3:∀c a w,Q (.panic c) (a.put o3.dst undef) w→Q (.panic c) a w:=by exact fun _ _ _ h=>h)
 (hs:Region.noSelect ops=true:=by kernel_rfl) (hS:S w:=by assumption):wpAnyH P md ops Q S (fuel+4) l0 a0 w:=
 CD i0 (CD i1 (CD i2 (CD i3 h hi3 hw3 hl3 ha3 hs hf3 hr3 hQ3 hS) hi2 hw2 hl2 ha2 hs hf2 hr2 hQ2 hS) hi1 hw1 hl1 ha1 hs hf1 hr1 hQ1 hS) hi0 hw0 hl0 ha0 hs hf0 hr0 hQ0 hS
theorem oM{p:Prop}(h:p:=by omega):p:=h
theorem dE{p:Prop}(h:p:=by decide):p:=h
theorem kR{p:Prop}(h:p:=by kernel_rfl):p:=h
theorem sG{p:Prop}(h:p:=by simp[go_sem]):p:=h
theorem sM{p:Prop}(h:p:=by simp):p:=h
theorem rF{p:Prop}(h:p:=by rfl):p:=h
theorem sO{p:Prop}(h:p:=by simp;omega):p:=h
theorem gG{p:Prop}(h:p:=by go_grown):p:=h
theorem gN{p:Prop}(h:p:=by go_num):p:=h
theorem mL{p:Prop}(h:p:=by unfold maxLen;omega):p:=h
theorem iE{p:Prop}(h:p:=by intro e;simp only at e;omega):p:=h
theorem fT{p:Prop}(h:p:=by first|rfl|trivial):p:=h
theorem QS{p:Prop}(h:p:=by
 have HTZ:Hid (TW w v0 v1 v2 v3 (w.heap.size+1) op D A Q E nn bt wz):=HT0.out.next HBZ.out
 go_wp2_with(go_at_call 20;(with_reducible refine(HRD.out _).mono ?_);rintro e w5 ⟨u,rfl,hou,hb5⟩;obtain⟨pu,qu,rfl⟩:=Ao hou;have HOU:Hid (w5.ownsRow wz.heap.size 3 1 (.slice pu R.length qu) R.length (B2 R)):=hou;have HB5:Hid (Below wz.heap.size wz w5):=hb5;clear hou hb5)
 go_loopw [11] (fun kv wr=>∃k:Nat,k<=R.length/\kv=.int .i64 (k:Int)/\wr=w5/\∀x∈R.take k,x.toNat∈S) (fun kv _=>R.length-(intOf kv).toNat)
 case atStart=>exact⟨0,Nat.zero_le _,rfl,rfl,fun x hx=>by simp at hx⟩
 case round=>
  obtain⟨k,hk,rfl,rfl,hin⟩:=hrel
  clear c0 c1 c2 c3 i0 i1 i2 i3 i4 i5 i6
  obtain⟨hbq,c0,c1,c2,c3,i0,i1,i2,i3,i4,i5,i6⟩:=HTZ.out.next HB5.out
  by_cases hlt:k<R.length
  ·have hx:=HRP1.out R[k] (List.getElem_mem hlt)
   obtain⟨d,hd⟩:∃d:Nat,R[k]=(d:Int):=⟨R[k].toNat,oM⟩
   obtain⟨gs,rfl,hcs⟩:=HSET.out d oM
   have hcs':=kc hbq hcs
   obtain⟨gu,cu,eu,-⟩:=HOU.out.form oM
   simp only[Value.slice.injEq]at eu
   obtain⟨rfl,-,rfl⟩:=eu
   have hcu:wr.cell? ⟨gu,k,none⟩=some (.int .i64 (d:Int)):=by rw[HOU.out.cellAt k oM];simp[B2,hlt,hd]
   have HMEM:Hid (R[k]=(d:Int)):=hd
   have HIN:Hid (∀x∈R.take k,x.toNat∈S):=hin
   have t0:(0:Int)<=(k:Int):=oM
   have t1:(k:Int)<(R.length:Int):=oM
   have t2:(0:Int)<=(d:Int):=oM
   have t3:(d:Int)<(M:Int):=oM
   have wk:IntKind.i64.wrap ((k:Int)+1)=((k+1:Nat):Int):=by rw[IntKind.wrap_i64];omega
   clear hx hd hin hcs hk
   cases hX:decide (d∈S)
   ·rw[hX]at hcs'
    have hall:(R.all fun n=>decide (n.toNat∈S))=false:=by
     rw[List.all_eq_false]
     exact⟨R[k],List.getElem_mem hlt,by rw[HMEM.out,Int.toNat_natCast,hX];decide⟩
    have HQF:Hid (false=RES):=by show _=_;have:=HR2.out;rw[hall,Bool.false_and]at this;exact this
    clear hX hall
    go_wp2
    go_ret
    exact⟨A8 HQF.out,hbq⟩
   ·rw[hX]at hcs'
    have HX:Hid (d∈S):=by show d∈S;exact of_decide_eq_true hX
    clear hX
    go_wp2
    go_roundw
    case rel=>
     refine⟨k+1,oM,gN,fT,fun x hx=>?_⟩
     rw[List.take_succ_eq_append_getElem hlt,List.mem_append]at hx
     rcases hx with hx|hx
     ·exact HIN.out x hx
     ·simp only[List.mem_singleton]at hx
      rw[hx,HMEM.out,Int.toNat_natCast]
      exact HX.out
    case measure=>simp[intOf];omega
  ·have hkk:k=R.length:=oM
   have hall:(R.all fun n=>decide (n.toNat∈S))=true:=by
    rw[List.all_eq_true]
    intro x hx
    rw[hkk,List.take_length]at hin
    simpa using hin x hx
   have h9:=HR2.out;rw[hall,Bool.true_and]at h9;have HTS:Hid _:=h9;clear h9
   have t1:¬ (k:Int)<(R.length:Int):=oM
   clear hall hin hk hlt
   by_cases h34:op=34
   ·subst h34
    have h9:=HTS.out;rw[if_pos (Or.inl rfl)]at h9;have HQ:Hid _:=h9;clear h9
    go_wp2
    go_ret
    exact⟨A8 (by rw[←HQ.out];first|(simp;done)|(simp;omega)|(simp[hn0];done)|(simp[hn0];omega)),hbq⟩
   ·by_cases h36:op=36
    ·subst h36
     have h9:=HTS.out;rw[if_pos (Or.inr rfl)]at h9;have HQ:Hid _:=h9;clear h9
     go_wp2
     go_ret
     exact⟨A8 (by rw[←HQ.out];first|(simp;done)|(simp;omega)|(simp[hn0];done)|(simp[hn0];omega)),hbq⟩
    ·have h9:=HTS.out;rw[if_neg (fun e=>e.elim h34 h36)]at h9;have HT2:Hid _:=h9;clear h9
     have q34:(op==34)=false:=by simpa using h34
     have q36:(op==36)=false:=by simpa using h36
     by_cases h35:op=35
     ·subst h35
      have h9:=HT2.out;rw[if_pos rfl]at h9;have HQ:Hid _:=h9;clear h9
      clear q34 q36 h34 h36
      by_cases hn0:(0:Int)<(n:Int)
      ·first
        |(exfalso;omega)
        |(go_wp2;go_ret;exact⟨A8 (by rw[←HQ.out];first|(simp;done)|(simp;omega)|(simp[hn0];done)|(simp[hn0];omega)),hbq⟩)
      ·first
        |(exfalso;omega)
        |(go_wp2;go_ret;exact⟨A8 (by rw[←HQ.out];first|(simp;done)|(simp;omega)|(simp[hn0];done)|(simp[hn0];omega)),hbq⟩)
     ·have h9:=HT2.out;rw[if_neg h35]at h9;have HT3:Hid _:=h9;clear h9
      have q35:(op==35)=false:=by simpa using h35
      by_cases h37:op=37
      ·subst h37
       have h9:=HT3.out;rw[if_pos rfl]at h9;have HQ:Hid _:=h9;clear h9
       clear q34 q35 q36 h34 h35 h36
       first
        |(exfalso;omega)
        |(go_wp2;go_ret;exact⟨A8 HQ.out,hbq⟩)
      ·have h9:=HT3.out;rw[if_neg h37]at h9;have HQ:Hid _:=h9;clear h9
       have q37:(op==37)=false:=by simpa using h37
       clear h34 h35 h36 h37
       go_wp2
       go_ret
       exact⟨A8 HQ.out,hbq⟩):p:=h
theorem II{p:Prop}(h:p:=by
 have hc6:=H6.hc
 have lB6:=H6.b.lt
 clear hU K
 refine Aw hK fun hHeld=>?_
 clear hK K
 refine wpAnyH_done kR ?_ _
 go_wp2
 go_meet
 have s1:=hs1.out
 have s2:=hs2.out
 have s3:=hs3.out
 have s4:=hs4.out
 have s5:=hs5.out
 have s6:=hs6.out
 have g0:=HNS.out.g.lt
 have t0:=HNS.out.t.lt
 have b0':=HNS.out.b.lt
 have e0:=HNS.out.bel.size
 exact⟨rfl,_,_,_,MC (H6.b.congr fun i hi=>by rcases(show i=0\/i=1\/i=2\/i=3\/i=4\/i=5\/i=6 by omega)with rfl|rfl|rfl|rfl|rfl|rfl|rfl<;>rfl) H6.g H6.t rA6 rN6 rD6 ⟨HNS.out.hB,HNS.out.hG,HNS.out.hT,oM,oM,oM⟩ ⟨HNS.out.n1,HNS.out.n2,HNS.out.n3⟩ oM oM,H6.be⟩):p:=h
theorem Ft{p:Prop}(h:p:=by
 go_enter func51,ntmps51
 go_wp2_with(go_at_call 70;(with_reducible refine(KE.out _).mono ?_);rintro e w1 ⟨rfl,rfl⟩)
 go_ret
 refine⟨?_,bel (A0 _ _) (A0 _ _)⟩
 first|rfl|simp[*]):p:=h
theorem Dq{p:Prop}(h:p:=by
 go_enter func41,ntmps41
 go_wp2
 refine bodyPost_ret (by simp[results,results41,go_sem];try rfl) rfl ?_
 exact⟨rfl,gG⟩):p:=h
theorem QT{p:Prop}(h:p:=by
 go_enter func34,ntmps34
 go_wp2
 refine rG (fun v=>v.cell? ⟨w.heap.size,0,none⟩=some v0/\v.cell? ⟨w.heap.size,1,none⟩=some v1/\v.cell? ⟨w.heap.size,2,none⟩=some v2/\v.cell? ⟨w.heap.size,3,none⟩=some v3/\v.cell? ⟨w.heap.size+1,0,none⟩=some (.int .i64 op)/\v.cell? ⟨w.heap.size+1,1,none⟩=some (.int .i64 D)/\v.cell? ⟨w.heap.size+1,2,none⟩=some (.int .i64 A)/\v.cell? ⟨w.heap.size+1,3,none⟩=some (.int .i64 Q)/\v.cell? ⟨w.heap.size+1,4,none⟩=some (.int .i64 E)/\v.cell? ⟨w.heap.size+1,5,none⟩=some (.int .i64 nn)/\v.cell? ⟨w.heap.size+1,6,none⟩=some (.int .u32 bt)) fun hHeld=>?_
 refine Tb 0 1 ?_
 clear hHeld
 refine Ax 2 fun K hK=>?_
 go_simp
 (go_at_call 50;(with_reducible refine(HFIT.out _ (bel HT0.out.bel (Ae _))).mono ?_);rintro e wz ⟨rfl,hbz⟩;have HBZ:Hid (Below ((w.alloc (.cells #[v0,v1,v2,v3] 27)).alloc (.cells #[.int .i64 op,.int .i64 D,.int .i64 A,.int .i64 Q,.int .i64 E,.int .i64 nn,.int .u32 bt] 40)).heap.size ((w.alloc (.cells #[v0,v1,v2,v3] 27)).alloc (.cells #[.int .i64 op,.int .i64 D,.int .i64 A,.int .i64 Q,.int .i64 E,.int .i64 nn,.int .u32 bt] 40)) wz):=bel (Ae _) hbz;clear hbz;obtain⟨-,c0,c1,c2,c3,i0,i1,i2,i3,i4,i5,i6⟩:=HT0.out.next HBZ.out)
 try(go_wp2_with fail)
 refine Aw hK fun hHeld=>?_
 clear hK K
 refine Tb 3 4 ?_
 refine Kd 5 6 7 8 ?_
 refine Kd 9 10 11 12 ?_
 refine Kd 13 14 15 16 ?_
 refine Kd 17 18 19 20 ?_
 refine CD 21 ?_
 refine CD 22 ?_
 refine CD 23 ?_
 refine Bw 24 ?_
 refine wpAnyH_done kR ?_ _
 go_wp2
 go_ret
 exact⟨A8 HQF.out,bel hb00 HBZ.out⟩):p:=h
theorem RM{p:Prop}(h:p:=by
 have HRF:Hid (false=RES):=hRES
 clear hRES hKOA hKOB hKOC hPL HPP0
 go_enter func50,ntmps50
 go_wp2_with(first
  |(go_at_call 37;refine(HROW.out _).mono ?_;rintro e w1 ⟨rfl,rfl⟩)
  |(go_at_call 49;refine(HCAN.out _).mono ?_;rintro e w2 ⟨rfl,hb2⟩;have HT2:Hid (TW w (.slice p0 n0 q0) (.slice p1 n1 q1) (.slice p2 n2 q2) v3 (w.heap.size+1) op D A B E n bt (w2.alloc (.cells #[.int .i64 0,.int .i64 0] 50))):=(HT0.out.next hb2).next (A0 _ _);obtain⟨b1,c0,c1,c2,c3,i0,i1,i2,i3,i4,i5,i6⟩:=HT2.out;have HS2:Hid (w.heap.size+1<w2.heap.size):=Ab (HT0.out.next hb2).i0;clear hb2))
 have HTD:Hid _:=HT2.out
 have HD:Hid ((w2.alloc (.cells #[.int .i64 0,.int .i64 0] 50)).cell? ⟨w2.heap.size,0,none⟩=some (.int .i64 0)/\(w2.alloc (.cells #[.int .i64 0,.int .i64 0] 50)).cell? ⟨w2.heap.size,1,none⟩=some (.int .i64 0)):=⟨sG,sG⟩
 obtain⟨Z,hZ⟩:∃Z,w2.heap.size=Z:=⟨_,rfl⟩
 obtain⟨Wd,hWd⟩:∃W,w2.alloc (.cells #[.int .i64 0,.int .i64 0] 50)=W:=⟨_,rfl⟩
 rw[hZ]at HD
 rw[hWd]at HD HTD ⊢
 try rw[hZ]
 clear hZ hWd HT2 b1 c0 c1 c2 c3 i0 i1 i2 i3 i4 i5 i6 HT0 HROW HCAN
 have HCD:Hid (∀v,Below Wd.heap.size Wd v->v.cell? ⟨w.heap.size,0,none⟩=some (.slice p0 n0 q0)/\v.cell? ⟨w.heap.size,1,none⟩=some (.slice p1 n1 q1)/\v.cell? ⟨w.heap.size,2,none⟩=some (.slice p2 n2 q2)/\v.cell? ⟨w.heap.size,3,none⟩=some v3/\v.cell? ⟨w.heap.size+1,1,none⟩=some (.int .i64 D)/\v.cell? ⟨w.heap.size+1,2,none⟩=some (.int .i64 A)/\v.cell? ⟨w.heap.size+1,3,none⟩=some (.int .i64 B)/\v.cell? ⟨w.heap.size+1,4,none⟩=some (.int .i64 E)/\v.cell? ⟨w.heap.size+1,5,none⟩=some (.int .i64 n)/\v.cell? ⟨Z,0,none⟩=some (.int .i64 0)/\v.cell? ⟨Z,1,none⟩=some (.int .i64 0)):=fun v hb=>⟨kc hb HTD.out.c0,kc hb HTD.out.c1,kc hb HTD.out.c2,kc hb HTD.out.c3,kc hb HTD.out.i1,kc hb HTD.out.i2,kc hb HTD.out.i3,kc hb HTD.out.i4,kc hb HTD.out.i5,kc hb HD.out.1,kc hb HD.out.2⟩
 obtain⟨c0,c1,c2,c3,i1,i2,i3,i4,i5,d0,d1⟩:=HCD.out Wd (C9 _)
 refine rG (fun v=>v.cell? ⟨w.heap.size,0,none⟩=some (.slice p0 n0 q0)/\v.cell? ⟨w.heap.size,1,none⟩=some (.slice p1 n1 q1)/\v.cell? ⟨w.heap.size,2,none⟩=some (.slice p2 n2 q2)/\v.cell? ⟨w.heap.size,3,none⟩=some v3/\v.cell? ⟨w.heap.size+1,1,none⟩=some (.int .i64 D)/\v.cell? ⟨w.heap.size+1,2,none⟩=some (.int .i64 A)/\v.cell? ⟨w.heap.size+1,3,none⟩=some (.int .i64 B)/\v.cell? ⟨w.heap.size+1,4,none⟩=some (.int .i64 E)/\v.cell? ⟨w.heap.size+1,5,none⟩=some (.int .i64 n)/\v.cell? ⟨Z,0,none⟩=some (.int .i64 0)/\v.cell? ⟨Z,1,none⟩=some (.int .i64 0)) fun hHeld=>?_
 refine Tf 0 1 2 3 4 5 ?_
 clear hHeld
 refine Ax 6 fun K hK=>?_
 go_simp
 (go_at_call 68;(with_reducible refine(HK0.out _ (bel HTD.out.bel (Ae _))).mono ?_);rintro e w3 ⟨rfl,hb9⟩;have HB3:Hid (Below Wd.heap.size Wd w3):=bel (Ae _) hb9;clear hb9;obtain⟨c0,c1,c2,c3,i1,i2,i3,i4,i5,d0,d1⟩:=HCD.out w3 HB3.out)
 try(go_wp2_with fail)
 refine Aw hK fun hHeld=>?_
 clear hK K
 refine Bw 7 ?_
 refine wpAnyH_done kR ?_ _
 go_wp2
 go_ret
 exact⟨A8 HRF.out,bel HTD.out.bel HB3.out⟩):p:=h
theorem QU{p:Prop}(h:p:=by
 refine Tf 0 1 2 3 4 5 ?_
 clear hHeld
 refine Ax 6 fun K hK=>?_
 go_simp
 (go_at_call 68;(with_reducible refine(HKA.out _ (bel HTD.out.bel (Ae _))).mono ?_);rintro e w3 ⟨rfl,hb9⟩;have HB3:Hid (Below Wd.heap.size Wd w3):=bel (Ae _) hb9;clear hb9;obtain⟨c0,c1,c2,c3,i1,i2,i3,i4,i5,d0,d1⟩:=HCD.out w3 HB3.out)
 try(go_wp2_with fail)
 refine Aw hK fun hHeld=>?_
 clear hK K
 refine Tf 7 8 9 10 11 12 ?_
 refine Tb 13 14 ?_
 clear hHeld
 refine Ax 15 fun K hK=>?_
 go_simp
 (go_at_call 68;(with_reducible refine(HKB.out _ (bel HTD.out.bel HB3.out)).mono ?_);rintro e w4 ⟨rfl,hb9⟩;have HB4:Hid (Below Wd.heap.size Wd w4):=bel HB3.out hb9;clear hb9;clear c0 c1 c2 c3 i1 i2 i3 i4 i5 d0 d1;obtain⟨c0,c1,c2,c3,i1,i2,i3,i4,i5,d0,d1⟩:=HCD.out w4 HB4.out)
 try(go_wp2_with fail)
 refine Aw hK fun hHeld=>?_
 clear hK K
 refine Tf 16 17 18 19 20 21 ?_
 refine Tc 22 23 24 ?_
 clear hHeld
 refine Ax 25 fun K hK=>?_
 go_simp
 (go_at_call 68;(with_reducible refine(HKC.out _ (bel HTD.out.bel HB4.out)).mono ?_);rintro e w5 ⟨rfl,hb9⟩;have HB5:Hid (Below Wd.heap.size Wd w5):=bel HB4.out hb9;clear hb9;clear c0 c1 c2 c3 i1 i2 i3 i4 i5 d0 d1;obtain⟨c0,c1,c2,c3,i1,i2,i3,i4,i5,d0,d1⟩:=HCD.out w5 HB5.out)
 try(go_wp2_with fail)
 refine Aw hK fun hHeld=>?_
 clear hK K
 refine Tb 26 27 ?_
 refine wpAnyH_done kR ?_ _
 go_wp2
 go_ret
 exact⟨A8 HQF.out,bel HTD.out.bel HB5.out⟩):p:=h
theorem Qr{p:Prop}(h:p:=by
 go_enter func43,ntmps43
 go_wp2_with(go_at_call 62;refine(HKI.out _ (HS0.out.below (A0 _ _))).mono ?_;rintro e w1 ⟨⟨A,rfl⟩,hb1⟩;have HF:Hid (MW w w1.heap.size G C b o (.slice p N q) L0 L1 L2 L3 L4 op false P A (w1.alloc (.cells #[.bool false,.int .i64 P,.int .i64 A] 120))):=(by have hq:=bel (A0 _ _) hb1;exact⟨bel hq (A0 _ _),kc (A0 _ _) (kc hb1 sG),kc (A0 _ _) (kc hb1 sG),kc (A0 _ _) (kc hb1 sG),kc (A0 _ _) (kc hb1 sG),kc (A0 _ _) (kc hb1 sG),sG,sG,kc (A0 _ _) (kc hq HS0.out.c0),kc (A0 _ _) (kc hq HS0.out.c3),kc (A0 _ _) (kc hq HE0.out)⟩);have f0:=HF.out.m0;have f1:=HF.out.g3;have f2:=HF.out.e0;have f3:=HF.out.m1;have f4:=HF.out.g0)
 all_goals(go_ret;exact⟨A8 (by simp;try omega),HF.out.bel⟩)):p:=h
theorem Qs{p:Prop}(h:p:=by
 go_enter func43,ntmps43
 go_wp2_with(go_at_call 62;refine(HKI.out _ (HS0.out.below (A0 _ _))).mono ?_;rintro e w1 ⟨⟨A,rfl⟩,hb1⟩;have HF:Hid (MW w w1.heap.size G C b o (.slice p N q) L0 L1 L2 L3 L4 op true P A (w1.alloc (.cells #[.bool true,.int .i64 P,.int .i64 A] 120))):=(by have hq:=bel (A0 _ _) hb1;exact⟨bel hq (A0 _ _),kc (A0 _ _) (kc hb1 sG),kc (A0 _ _) (kc hb1 sG),kc (A0 _ _) (kc hb1 sG),kc (A0 _ _) (kc hb1 sG),kc (A0 _ _) (kc hb1 sG),sG,sG,kc (A0 _ _) (kc hq HS0.out.c0),kc (A0 _ _) (kc hq HS0.out.c3),kc (A0 _ _) (kc hq HE0.out)⟩);have f0:=HF.out.m0;have f1:=HF.out.g3;have f2:=HF.out.e0;have f3:=HF.out.m1;have f4:=HF.out.g0)
 all_goals(go_ret;exact⟨A8 (by simp;try omega),HF.out.bel⟩)):p:=h
theorem Dr{p:Prop}(h:p:=by
 go_enter func37,ntmps37
 go_wp2
 go_ret2
 exact⟨rfl,rfl⟩):p:=h
theorem RN{p:Prop}(h:p:=by
 obtain⟨bg,SS,q1,q2,q3,q4,q5,q6⟩:=HFIN.out oM
 have HFI:Hid (Fh c.list bg=Fh c.list j/\NX=Fh c.list j):=by
  rw[←HNX.out,q6,q3,q4]
  exact⟨rfl,rfl⟩
 have HPN:=A2 (HPF.out hsb oM bg q5 (Fh c.list j) rfl)
 have hA:AX=(bg:Int):=by rw[←HAX.out,q1];rfl
 subst hA
 have hbM:bg<M:=oM
 have HAB:Hid (s.ar bg=Fh c.list j):=by rw[HPA.out bg q2];exact HFI.out.1
 have i5:(0:Int)<=(bg:Int):=oM
 have i6:(bg:Int)<(M:Int):=oM
 clear hsb hknown HFIN HBEG HOTH HSLO HPO HPT HPF hop hop35 q1 q2 q3 q4 q5 q6
 (try clear hop37)
 go_upto_region 13 with(go_at_call 29;(with_reducible refine(KS.out _).mono ?_);rintro e9 w4 ⟨rfl,hb4⟩;obtain⟨hk4,hx4,hbw,nB,nG,nT,nA,nN,hsz⟩:=HKV.out _ hb4;have HK4:=A2 hk4;have HX4:=A2 hx4;have HBW:=A2 hbw;have x0:w4.cell? ⟨X,0,none⟩=some (.int .i64 op):=hx4.cell (i:=0) dE;have x1:w4.cell? ⟨X,1,none⟩=some (.int .i64 d):=hx4.cell (i:=1) dE;have x5:w4.cell? ⟨X,5,none⟩=some (.int .i64 n):=hx4.cell (i:=5) dE;have c1:=hk4.b1;have c2:=hk4.b2;have c3:=hk4.b3;have c4:=hk4.b4;have ca:=hk4.a.cell hlt;have fa:=hk4.a.frozen j;clear hb4 hk4 hx4 hbw;have cn:=HK4.out.n.cell hbM;have fn:=HK4.out.n.frozen bg)
 obtain⟨W5,hW5⟩:∃W,w4.setCell ⟨NB,bg,none⟩ (.int .i64 (j:Int))=W:=⟨_,rfl⟩
 have HK5:=A2 (HK4.out.setEn bg (j:Int))
 have HB5:Hid (Below w.heap.size w (w4.setCell ⟨NB,bg,none⟩ (.int .i64 (j:Int)))):=HBW.out.setCell HK4.out.hN _
 have hX5:=HX4.out.setOther (a:=⟨NB,bg,none⟩) (fun q=>nN q.symm) (.int .i64 (j:Int))
 rw[hW5]at HK5 HB5 hX5
 have x0:W5.cell? ⟨X,0,none⟩=some (.int .i64 op):=hX5.cell (i:=0) dE
 have c3:=HK5.out.b3
 have ca:=HK5.out.a.cell hlt
 have fa:=HK5.out.a.frozen j
 have cb:W5.cell? ⟨AB,bg,none⟩=some (.int .i64 (Fh c.list j)):=by rw[←HAB.out];exact HK5.out.a.cell hbM
 clear HK4 HX4 HBW hX5
 go_upto_region 14 with fail
 try rw[hW5]
 clear hW5
 obtain⟨AJ,hAJ⟩:∃x:Int,Fh c.list j=x:=⟨_,rfl⟩
 simp only[hAJ]at cb HPN HFI
 go_wp2
 go_roundw
 case rel=>
  refine⟨j+1,oM,gN,by rw[HNX.out,HFI.out.2],HB5.out.setCell HK5.out.hA _,_,_,_,_,HK5.out.setAr j AJ,HPN.out⟩
 case measure=>simp[intOf];omega):p:=h
theorem QV{p:Prop}(h:p:=by
 refine Tf 0 1 2 3 4 5 ?_
 clear hHeld
 refine Ax 6 fun K hK=>?_
 go_simp
 (go_at_call 68;(with_reducible refine(HKA.out _ (bel HTD.out.bel (Ae _))).mono ?_);rintro e w3 ⟨rfl,hb9⟩;have HB3:Hid (Below Wd.heap.size Wd w3):=bel (Ae _) hb9;clear hb9;obtain⟨c0,c1,c2,c3,i1,i2,i3,i4,i5,d0,d1⟩:=HCD.out w3 HB3.out)
 try(go_wp2_with fail)
 refine Aw hK fun hHeld=>?_
 clear hK K
 refine Tf 7 8 9 10 11 12 ?_
 refine Tb 13 14 ?_
 clear hHeld
 refine Ax 15 fun K hK=>?_
 go_simp
 (go_at_call 68;(with_reducible refine(HKB.out _ (bel HTD.out.bel HB3.out)).mono ?_);rintro e w4 ⟨rfl,hb9⟩;have HB4:Hid (Below Wd.heap.size Wd w4):=bel HB3.out hb9;clear hb9;clear c0 c1 c2 c3 i1 i2 i3 i4 i5 d0 d1;obtain⟨c0,c1,c2,c3,i1,i2,i3,i4,i5,d0,d1⟩:=HCD.out w4 HB4.out)
 try(go_wp2_with fail)
 refine Aw hK fun hHeld=>?_
 clear hK K
 refine Tc 16 17 18 ?_
 refine Kd 19 20 21 22 ?_
 refine Kd 23 24 25 26 ?_
 refine Bw 27 ?_
 refine wpAnyH_done kR ?_ _
 go_wp2
 go_ret
 exact⟨A8 HQF.out,bel HTD.out.bel HB4.out⟩):p:=h
theorem RO{p:Prop}(h:p:=by
 have hjl:j<offs.length:=by have:=HNL.out;omega
 obtain⟨hbj,hIj,hoth,hsz⟩:=HJ.out
 obtain⟨FB,rfl,⟨cF,hcF⟩,lF,hc⟩:=HO1.out j hjl
 obtain⟨l1,l2,l3⟩:=HL.out _ (List.getElem_mem hjl)
 have nFI:FB≠IB:=fun e=>by
  obtain⟨c,hc',-⟩:=HI.out
  rw[e,hc']at hcF
  simp only[Option.some.injEq,Obj.cells.injEq]at hcF
  exact absurd hcF.2.1 dE
 have hLr:w.rowIs LB 40 N0 f:=HLM.out.resolve_left oM
 have nLI:LB≠IB:=Bd hLr HI.out dE
 have h0:=HH0.out
 have x0:wr.cell? ⟨FB,j,none⟩=some (.pointer (some ⟨LB,offs[j],none⟩)):=(World.cell?_of_block (a:=⟨FB,j,none⟩) (hoth FB oM nFI)).trans hc
 have x1:wr.cell? ⟨LB,offs[j],none⟩=some (.int .i64 (val offs[j]:Int)):=by
  rw[←l2]
  exact(World.cell?_of_block (a:=⟨LB,offs[j],none⟩) (hoth LB (by have:=hLr.lt;omega) nLI)).trans (hLr.cell l1)
 have HNB:=A2 (fun r=>Mk hjl val r)
 obtain⟨o,ho'⟩:∃o,offs[j]=o:=⟨_,rfl⟩
 rw[ho']at x0 x1 l3 HNB
 obtain⟨r,hr⟩:∃r,val o=r:=⟨_,rfl⟩
 rw[hr]at x1 l3
 simp only[hr]at HNB
 have hrK:r<K:=oM
 have x2:=hIj.cell hrK
 have x3:=hIj.frozen r
 have i1:(0:Int)<=(j:Int):=oM
 have i2:(j:Int)<(n:Int):=oM
 have i3:(0:Int)<=(r:Int):=oM
 have i4:(r:Int)<(K:Int):=oM
 have wi:IntKind.i64.wrap ((j:Int)+1)=((j+1:Nat):Int):=by rw[IntKind.wrap_i64];omega
 have HNX:Hid (Below E w (wr.setCell ⟨IB,r,none⟩ (.bool true))/\(wr.setCell ⟨IB,r,none⟩ (.bool true)).rowIs IB 4 K (fun r=>.bool (Fp (offs.take (j+1)) val r))/\(∀b,b<H0->b≠IB->(wr.setCell ⟨IB,r,none⟩ (.bool true)).heap[b]? =w.heap[b]?)/\H0<=(wr.setCell ⟨IB,r,none⟩ (.bool true)).heap.size):=by
  refine⟨hbj.setCell HEE.out.2.1 _,(hIj.set r _).congr fun k hk=>?_,fun b hb hne=>(Below.heap_setCell _ _ _ _ hne).trans (hoth b hb hne),by simpa using hsz⟩
  rw[HNB.out]
  by_cases e:k=r
  ·rw[if_pos e,if_pos e]
  ·rw[if_neg e,if_neg e]
 clear hbj hIj hoth hsz hcF lF hc l1 l2 l3 nFI hLr nLI h0 ho' hr HJ HNB
 go_wp2
 go_roundw
 case rel=>exact⟨j+1,oM,gN,HNX.out⟩
 case measure=>simp[intOf];omega):p:=h
theorem RP{p:Prop}(h:p:=by
 have HQF:Hid (false=RES):=by show _=_;have:=HQ.out;rw[hpl]at this;exact this
 have hpl':=hpl
 unfold Ar at hpl'
 rw[HN2.out]at hpl'
 by_cases hn0:0<=n
 ·have HLT:Hid (¬n<(n2:Int)):=by show¬_;simp[hn0]at hpl';omega
  clear hpl hpl'
  go_wp2
  refine rG (fun v=>v.cell? ⟨w.heap.size,2,none⟩=some (.slice p2 n2 q2)/\v.cell? ⟨w.heap.size+1,5,none⟩=some (.int .i64 n)) fun hHeld=>?_
  refine Tf 0 1 2 3 4 5 ?_
  refine Tc 6 7 8 ?_
  refine wpAnyH_take (i:=9) (v:=.bool false) (by simp only[List.getElem?_toArray,List.getElem?_cons_succ,List.getElem?_cons_zero];rfl) kR kR kR (by exact fun _ _ _ h=>h) (Or.inl ⟨rF,?_⟩) (by assumption) ?_
  ·(intro wS hSw;(try dsimp only at hSw);have hltF:=HLT.out;go_simp;first|done|rfl|omega|(simp;omega)|simp[hltF])
  try simp only[Act.put,List.setIfInBounds_toArray,List.set_cons_zero,List.set_cons_succ]
  refine Tb 10 11 ?_
  refine Kd 12 13 14 15 ?_
  refine Kd 16 17 18 19 ?_
  refine CD 20 ?_
  refine Tb 21 22 ?_
  refine wpAnyH_done kR ?_ _
  go_wp2
  go_ret
  exact⟨A8 HQF.out,Co hbt⟩
 ·have HLT:Hid (¬0<=n):=hn0
  clear hpl hpl' hn0
  go_wp2
  refine rG (fun v=>v.cell? ⟨w.heap.size,2,none⟩=some (.slice p2 n2 q2)/\v.cell? ⟨w.heap.size+1,5,none⟩=some (.int .i64 n)) fun hHeld=>?_
  refine Tb 0 1 ?_
  refine wpAnyH_take (i:=2) (v:=.bool false) (by simp only[List.getElem?_toArray,List.getElem?_cons_succ,List.getElem?_cons_zero];rfl) kR kR kR (by exact fun _ _ _ h=>h) (Or.inl ⟨rF,?_⟩) (by assumption) ?_
  ·(intro wS hSw;(try dsimp only at hSw);have hltF:=HLT.out;go_simp;first|done|rfl|omega|(simp;omega)|simp[hltF])
  try simp only[Act.put,List.setIfInBounds_toArray,List.set_cons_zero,List.set_cons_succ]
  refine Bw 3 ?_
  refine Kd 4 5 6 7 ?_
  refine CD 8 ?_
  refine CD 9 ?_
  refine Tb 10 11 ?_
  refine Kd 12 13 14 15 ?_
  refine Kd 16 17 18 19 ?_
  refine CD 20 ?_
  refine Tb 21 22 ?_
  refine wpAnyH_done kR ?_ _
  go_wp2
  go_ret
  exact⟨A8 HQF.out,Co hbt⟩):p:=h
theorem QW{p:Prop}(h:p:=by
 go_wp2_with(go_at_call 29;(with_reducible refine(KS.out _).mono ?_);rintro e9 w4 ⟨rfl,hb4⟩;obtain⟨hk4,hx4,hbw,nB,nG,nT,nA,nN,hsz⟩:=HKV.out _ hb4;have HK4:=A2 hk4;have HX4:=A2 hx4;have HBW:=A2 hbw;have x0:w4.cell? ⟨X,0,none⟩=some (.int .i64 op):=hx4.cell (i:=0) dE;have x1:w4.cell? ⟨X,1,none⟩=some (.int .i64 d):=hx4.cell (i:=1) dE;have x5:w4.cell? ⟨X,5,none⟩=some (.int .i64 n):=hx4.cell (i:=5) dE;have c1:=hk4.b1;have c2:=hk4.b2;have c3:=hk4.b3;have c4:=hk4.b4;have ca:=hk4.a.cell hlt;have fa:=hk4.a.frozen j;clear hb4 hk4 hx4 hbw)
 go_roundw
 case rel=>
  refine⟨j+1,oM,gN,by rw[HNX.out,HFI.out.2],HBW.out.setCell HK4.out.hA _,_,_,_,_,HK4.out.setAr j AX,HPN.out⟩
 case measure=>simp[intOf];omega):p:=h
theorem Q2{p:Prop}(h:p:=by
 have e95:(c==(95:Int))=false:=by rw[beq_eq_false_iff_ne];omega
 have e46:(c==(46:Int))=false:=by rw[beq_eq_false_iff_ne];omega
 have e47:(c==(47:Int))=false:=by rw[beq_eq_false_iff_ne];omega
 have e45:(c==(45:Int))=false:=by rw[beq_eq_false_iff_ne];omega
 have hp2:ES c=false:=by unfold ES;simp[*]
 clear h hp NX NB
 go_wp2
 go_meet
 exact⟨by rw[hp2];rfl,rfl⟩):p:=h
theorem RQ{p:Prop}(h:p:=by
 have HQF:Hid (false=RES):=HRES.out
 go_wp2
 refine rG (fun v=>v.cell? ⟨w.heap.size,0,none⟩=some (.slice p0 n0 q0)/\v.cell? ⟨w.heap.size,1,none⟩=some (.slice (some ⟨lb,lo,none⟩) n1 q1)/\v.cell? ⟨w.heap.size,2,none⟩=some (.slice p2 n2 q2)/\v.cell? ⟨w.heap.size,3,none⟩=some v3/\v.cell? ⟨w.heap.size+1,1,none⟩=some (.int .i64 (kd:Int))/\v.cell? ⟨w.heap.size+1,2,none⟩=some (.int .i64 A)/\v.cell? ⟨w.heap.size+1,3,none⟩=some (.int .i64 B)/\v.cell? ⟨w.heap.size+1,4,none⟩=some (.int .i64 E)/\v.cell? ⟨w.heap.size+1,5,none⟩=some (.int .i64 n)/\v.cell? ⟨Z,0,none⟩=some (.int .i64 dk)/\v.cell? ⟨Z,1,none⟩=some (.int .i64 dp)) fun hHeld=>?_
 refine Tf 0 1 2 3 4 5 ?_
 clear hHeld
 refine Ax 6 fun K hK=>?_
 go_simp
 (go_at_call 68;(with_reducible refine(HKA.out _ (bel HTD.out.bel (Ae _))).mono ?_);rintro e w3 ⟨rfl,hb9⟩;have HB3:Hid (Below Wd.heap.size Wd w3):=bel (Ae _) hb9;clear hb9;obtain⟨c0,c1,c2,c3,i1,i2,i3,i4,i5,d0,d1⟩:=HCD.out w3 HB3.out)
 try(go_wp2_with fail)
 refine Aw hK fun hHeld=>?_
 clear hK K
 refine Tb 7 8 ?_
 refine Kd 9 10 11 12 ?_
 refine Kd 13 14 15 16 ?_
 refine Tb 17 18 ?_
 refine Kd 19 20 21 22 ?_
 refine Kd 23 24 25 26 ?_
 refine Bw 27 ?_
 refine wpAnyH_done kR ?_ _
 go_wp2
 go_ret
 exact⟨A8 HQF.out,bel HTD.out.bel HB3.out⟩):p:=h
theorem RR{p:Prop}(h:p:=by
 go_wp2
 refine rG (fun v=>v.cell? ⟨b,o,none⟩=some (.int .i64 io)/\v.cell? ⟨b,o+5,none⟩=some (.int .i64 N)/\v.cell? ⟨G,2,none⟩=some (.slice pS s.set.length cS)) fun hHeld=>?_
 refine Tf 0 1 2 3 5 6 ?_
 refine Tf 7 8 9 10 11 12 ?_
 refine Tf 13 14 15 16 17 18 ?_
 refine Bw 19 ?_
 clear hHeld
 refine wpAnyH_ready (rs:=[4,20]) kR sM ?_
 refine D8 4 (fun K hK=>?_) ?_
 ·go_simp
  refine Aw hK fun hHeld=>?_
  clear hK K
  clear hHeld
  refine Ax 20 fun K hK=>?_
  go_simp
  refine Aw hK fun hHeld=>?_
  clear hK K
  clear hHeld
  refine Ax 21 fun K hK=>?_
  refine DS rF _ _ _ rF _ _ _ rF rF HR3.out ?_
  refine Aw hK fun hHeld=>?_
  clear hK K
  refine Tb 22 23 ?_
  clear hHeld
  refine Ax 24 fun K hK=>?_
  go_simp
  refine Aw hK fun hHeld=>?_
  clear hK K
  refine wpAnyH_done kR ?_ _
  go_wp2
  go_meet
  exact⟨_,_,HP.out⟩
 refine D8 20 (fun K hK=>?_) AllReadyH.nil
 go_simp
 refine Aw hK fun hHeld=>?_
 clear hK K
 clear hHeld
 refine Ax 4 fun K hK=>?_
 go_simp
 refine Aw hK fun hHeld=>?_
 clear hK K
 clear hHeld
 refine Ax 21 fun K hK=>?_
 refine DS rF _ _ _ rF _ _ _ rF rF HR3.out ?_
 refine Aw hK fun hHeld=>?_
 clear hK K
 refine Tb 22 23 ?_
 clear hHeld
 refine Ax 24 fun K hK=>?_
 go_simp
 refine Aw hK fun hHeld=>?_
 clear hK K
 refine wpAnyH_done kR ?_ _
 go_wp2
 go_meet
 exact⟨_,_,HP.out⟩):p:=h
theorem RS{p:Prop}(h:p:=by
 refine Tf 0 1 2 3 4 5 ?_
 refine Tf 6 7 8 9 10 11 ?_
 refine Tb 12 14 ?_
 clear hHeld
 refine wpAnyH_ready (rs:=[13,15]) kR sM ?_
 refine D8 13 (fun K hK=>?_) ?_
 ·go_simp
  refine Aw hK fun hHeld=>?_
  clear hK K
  clear hHeld
  refine Ax 15 fun K hK=>?_
  go_simp
  refine Aw hK fun hHeld=>?_
  clear hK K
  clear hHeld
  refine Ax 16 fun K hK=>?_
  refine DS rF _ _ _ rF _ _ _ rF rF HR.out ?_
  refine Aw hK fun hHeld=>?_
  clear hK K
  refine Bw 17 ?_
  clear hHeld
  refine Ax 18 fun K hK=>?_
  go_simp
  refine Aw hK fun hHeld=>?_
  clear hK K
  refine wpAnyH_done kR ?_ _
  go_wp2
  go_meet
  exact⟨rfl,_,_,HK6.out,HX6.out,HB6.out⟩
 refine D8 15 (fun K hK=>?_) AllReadyH.nil
 go_simp
 refine Aw hK fun hHeld=>?_
 clear hK K
 clear hHeld
 refine Ax 13 fun K hK=>?_
 go_simp
 refine Aw hK fun hHeld=>?_
 clear hK K
 clear hHeld
 refine Ax 16 fun K hK=>?_
 refine DS rF _ _ _ rF _ _ _ rF rF HR.out ?_
 refine Aw hK fun hHeld=>?_
 clear hK K
 refine Bw 17 ?_
 clear hHeld
 refine Ax 18 fun K hK=>?_
 go_simp
 refine Aw hK fun hHeld=>?_
 clear hK K
 refine wpAnyH_done kR ?_ _
 go_wp2
 go_meet
 exact⟨rfl,_,_,HK6.out,HX6.out,HB6.out⟩):p:=h
theorem Qt{p:Prop}(h:p:=by
 go_enter func17,ntmps17
 go_wp2_with(go_at_call 31;(with_reducible refine(HSG.out _ (A0 _ _)).mono ?_);rintro e w1 ⟨rfl,hb1⟩;have HX1:Hid (CX w (.slice p0 n0 q0) (.slice p1 n1 q1) (.slice p2 n2 q2) (.slice p3 n3 q3) w1):=(CX.start w _ _ _ _).next hb1;obtain⟨b1,b2,c0,c1,c2,c3⟩:=HX1.out;clear hb1)
 all_goals go_ret2
 all_goals exact⟨rfl,HX1.out.bel⟩):p:=h
theorem RT{p:Prop}(h:p:=by
 refine Tf 0 2 3 4 5 6 ?_
 clear hHeld
 refine wpAnyH_ready (rs:=[1,7]) kR sM ?_
 refine D8 1 (fun K hK=>?_) ?_
 ·go_simp
  refine Aw hK fun hHeld=>?_
  clear hK K
  clear hHeld
  refine Ax 7 fun K hK=>?_
  go_simp
  refine Aw hK fun hHeld=>?_
  clear hK K
  clear hHeld
  refine Ax 8 fun K hK=>?_
  refine Di _ _ _ rF _ _ _ rF rF hrun ?_ _ rF
  refine Aw hK fun hHeld=>?_
  clear hK K
  refine Bw 9 ?_
  clear hHeld
  refine Ax 10 fun K hK=>?_
  go_simp
  refine Aw hK fun hHeld=>?_
  clear hK K
  refine wpAnyH_done kR ?_ _
  go_wp2
  go_meet
  rfl
 refine D8 7 (fun K hK=>?_) AllReadyH.nil
 go_simp
 refine Aw hK fun hHeld=>?_
 clear hK K
 clear hHeld
 refine Ax 1 fun K hK=>?_
 go_simp
 refine Aw hK fun hHeld=>?_
 clear hK K
 clear hHeld
 refine Ax 8 fun K hK=>?_
 refine Di _ _ _ rF _ _ _ rF rF hrun ?_ _ rF
 refine Aw hK fun hHeld=>?_
 clear hK K
 refine Bw 9 ?_
 clear hHeld
 refine Ax 10 fun K hK=>?_
 go_simp
 refine Aw hK fun hHeld=>?_
 clear hK K
 refine wpAnyH_done kR ?_ _
 go_wp2
 go_meet
 rfl):p:=h
theorem Po{p:Prop}(h:p:=by
 go_enter func82,ntmps82
 go_wp2_with(go_at_call 84;refine(HK.out _).mono ?_;rintro e w1 ⟨rfl,rfl⟩)
 go_ret
 exact⟨A8 (HP.out _ sO),rfl⟩):p:=h
theorem Q3{p:Prop}(h:p:=by
 have e47:(c==(47:Int))=false:=by rw[beq_eq_false_iff_ne];omega
 have e45:(c==(45:Int))=false:=by rw[beq_eq_false_iff_ne];omega
 have hp2:ES c=true:=by unfold ES;simp[*]
 clear h hp NX NB
 go_wp2
 go_meet
 exact⟨by rw[hp2];rfl,rfl⟩):p:=h
theorem RU{p:Prop}(h:p:=by
 go_enter func38,ntmps38
 go_wp2_with(first
  |(go_at_call 52;refine HK1.out.mono ?_;rintro e w1 ⟨rfl,hb1⟩)
  |(go_at_call 54;refine(HK2.out _ (HR.out.below hb1)).mono ?_;rintro e w2 ⟨D,rfl,hm,hf,hb2⟩;have HM1:Hid (DA w2 w1.heap.size n D):=hm;have hs:Maps.size D=n:=(by rw[hf.no HW.out,HN.out]);have hs2:¬ ((Maps.size D:Int)<(n:Int)):=oM;have HS:Hid (¬ ((Maps.size D:Int)<(n:Int))):=hs2;clear hm hf hs)
  |(have _t:=HM1;at_len;refine wpList_len_own _ rfl _ 111 rfl 9 3 underlying111 _ w1.heap.size n D rfl HM1.out ?_;clear HM1)
  |(go_at_call 55;refine(HK3.out _ (HR.out.below (bel hb1 hb2))).mono ?_;rintro e w3 ⟨rfl,hb3⟩))
 all_goals(go_ret;exact⟨rfl,bel (bel hb1 hb2) hb3⟩)):p:=h
theorem QX{p:Prop}(h:p:=by
 go_simp
 refine Aw hK fun hHeld=>?_
 clear hK K
 clear hHeld
 refine Ax 11 fun K hK=>?_
 refine Di _ _ _ rF _ _ _ rF rF hrun ?_ _ rF
 refine Aw hK fun hHeld=>?_
 clear hK K
 refine Bw 12 ?_
 clear hHeld
 refine Ax 13 fun K hK=>?_
 go_simp
 refine Aw hK fun hHeld=>?_
 clear hK K
 refine wpAnyH_done kR ?_ _
 go_wp2
 go_meet
 exact⟨_,_,HZ3.out⟩):p:=h
theorem RV{p:Prop}(h:p:=by
 go_enter func33,ntmps33
 go_wp2_with(first
  |(go_at_call 32;refine(HT.out _).mono ?_;rintro e w1 ⟨rfl,hb1⟩;have f0:w1.cell? ⟨w.heap.size,0,none⟩=some (.int .i64 K):=kc hb1 sG;have f3:w1.cell? ⟨w.heap.size,3,none⟩=some (.int .u32 B):=kc hb1 sG;have f4:w1.cell? ⟨w.heap.size,4,none⟩=some (.int .i64 I):=kc hb1 sG;have HB1:Hid _:=hb1;clear hb1)
  |(go_at_call 49;refine(HK.out _).mono ?_;rintro e w2 ⟨rfl,hb2⟩;have HB2:Hid _:=hb2;clear hb2))
 go_ret
 first
  |refine⟨A8 ?_,bel (A0 _ _) (bel HB1.out HB2.out)⟩
  |refine⟨A8 ?_,bel (A0 _ _) HB1.out⟩
 first
  |(simp[*];done)
  |(simp[*];omega)
  |(simp[*];intro h;omega)):p:=h
theorem RX{p:Prop}(h:p:=by
 go_enter func33,ntmps33
 go_wp2_with(first
  |(go_at_call 32;refine(HT.out _).mono ?_;rintro e w1 ⟨rfl,hb1⟩;have f0:w1.cell? ⟨w.heap.size,0,none⟩=some (.int .i64 2):=kc hb1 sG;have f3:w1.cell? ⟨w.heap.size,3,none⟩=some (.int .u32 B):=kc hb1 sG;have f4:w1.cell? ⟨w.heap.size,4,none⟩=some (.int .i64 I):=kc hb1 sG;have HB1:Hid _:=hb1;clear hb1)
  |(go_at_call 49;refine(HK.out _).mono ?_;rintro e w2 ⟨rfl,hb2⟩;have HB2:Hid _:=hb2;clear hb2))
 go_ret
 first
  |refine⟨A8 ?_,bel (A0 _ _) (bel HB1.out HB2.out)⟩
  |refine⟨A8 ?_,bel (A0 _ _) HB1.out⟩
 first
  |(simp[*];done)
  |(simp[*];omega)
  |(simp[*];intro h;omega)):p:=h
theorem Qu{p:Prop}(h:p:=by
 go_enter func58,ntmps58
 go_wp2_with(go_at_call 74;refine(HK.out _).mono ?_;rintro e w1 ⟨rfl,rfl⟩)
 refine bodyPost_ret (by simp[results,results58,go_sem, *];try rfl) rfl ?_
 exact⟨by rw[HT.out];rfl,gG⟩):p:=h
theorem Q4{p:Prop}(h:p:=by
 rw[hc];clear hc
 go_enter func85,ntmps85
 go_wp2_with(go_at_call 87;refine(Lq _ h0 h1 _).mono ?_;rintro e w' ⟨rfl,rfl⟩)
 go_ret
 exact⟨rfl,rfl⟩):p:=h
theorem RY{p:Prop}(h:p:=by
 obtain rfl:=hps
 go_wp2
 refine rG (fun v=>v.cell? ⟨w.heap.size,2,none⟩=some (.slice (some ⟨lb9,lo9,none⟩) n2 q2)/\v.cell? ⟨w.heap.size+1,5,none⟩=some (.int .i64 (k:Int))/\v.cell? ⟨lb9,lo9+k*5,none⟩=some (.int .i64 sk)/\v.cell? ⟨lb9,lo9+k*5+1,none⟩=some (.int .i64 sp)/\v.cell? ⟨w5.heap.size,0,none⟩=some (.int .i64 sk)/\v.cell? ⟨w5.heap.size,1,none⟩=some (.int .i64 sp)) fun hHeld=>?_
 refine Tf 0 1 2 3 4 5 ?_
 refine Tf 6 7 8 9 10 11 ?_
 refine Tf 12 13 14 15 16 17 ?_
 refine Tc 18 19 20 ?_
 refine Tb 21 22 ?_
 refine wpAnyH_done kR ?_ _
 go_wp2
 go_ret
 refine⟨A8 ?_,Co hbt⟩
 rw[←HQ9.out]
 simp):p:=h
theorem RZ{p:Prop}(h:p:=by
 go_simp
 refine Aw hK fun hHeld=>?_
 clear hK K
 clear hHeld
 refine Ax 10 fun K hK=>?_
 refine DS rF _ _ _ rF _ _ _ rF rF HR3.out ?_
 refine Aw hK fun hHeld=>?_
 clear hK K
 refine Tb 11 12 ?_
 clear hHeld
 refine Ax 13 fun K hK=>?_
 go_simp
 refine Aw hK fun hHeld=>?_
 clear hK K
 refine wpAnyH_done kR ?_ _
 go_wp2
 first|go_end0|(simp only[Exit.inBlock,Exit.then];refine bodyPost_ret (results_none rfl _ _ _) rfl ?_)|refine bodyPost_ret (results_none rfl _ _ _) rfl ?_
 exact⟨rfl,HF.out.1,_,_,HF.out.2⟩):p:=h
theorem Qv{p:Prop}(h:p:=by
 refine Aw hK fun hHeld=>?_
 clear hK K
 refine wpAnyH_done kR ?_ _
 go_wp2
 go_roundw
 case rel=>exact⟨hbv.drew,j+1,oM,gN,NX.out HE.out⟩
 case measure=>simp[intOf];omega):p:=h
theorem S2{p:Prop}(h:p:=by
 rw[hrn]at z0
 simp only[Value.slice.injEq]at e9
 obtain⟨rfl,-,rfl⟩:=e9
 have j1:(0:Int)<=(u:Int):=oM
 have j2:(u:Int)<(RL:Int):=oM
 have j3:(0:Int)<=(rn:Int):=oM
 have j4:(rn:Int)<(R:Int):=oM
 have wj:IntKind.i64.wrap ((u:Int)+1)=((u+1:Nat):Int):=by rw[IntKind.wrap_i64];omega
 clear r0 r1 g1 g2 g3 g4 g5 hrn hrd hu1 hu2 hur HU hrR
 go_wp2
 go_roundw
 case rel=>
  refine⟨u+1,oM,gN,?_⟩
  show Fs _ _ _ _ _ _ _ _ _ _ _ _ _ _ _ _ _ _
  rw[HTK.out]
  exact HST.out
 case measure=>simp[intOf];omega):p:=h
theorem Qw{p:Prop}(h:p:=by
 try(go_wp2_with fail)
 refine Aw hK fun hHeld=>?_
 clear hK K
 refine Bw 7 ?_
 refine wpAnyH_done kR ?_ _
 go_wp2
 go_ret
 exact⟨A8 sM,(HC.out w3 HB3).bel⟩):p:=h
theorem Qx{p:Prop}(h:p:=by
 rw[e,hc']at hcF
 simp only[Option.some.injEq,Obj.cells.injEq]at hcF
 exact absurd hcF.2.1 dE):p:=h
theorem S3{p:Prop}(h:p:=by
 unfold A9 at hr
 simp only[List.mem_append]at hr
 rcases hr with hr|hr|hr
 ·split at hr
  ·cases hr
  ·rename_i hl
   simp only[List.mem_singleton]at hr
   subst hr
   exact Al (Da t2) hl
 ·split at hr
  ·cases hr
  ·rename_i hl
   simp only[List.mem_singleton]at hr
   subst hr
   exact Al (DU t2) hl
 ·split at hr
  ·cases hr
  ·rename_i hl
   simp only[List.mem_singleton]at hr
   subst hr
   exact Al (DV t2) hl):p:=h
theorem S4{p:Prop}(h:p:=by
 show World.rowIs _ _ _ _ _
 rw[←hW0]
 have h9:=AN (w.alloc (.cells #[.slice p0 c.sign.length q0,.slice p1 c.regs.length q1,.slice p2 c.slots.length q2,.slice p3 c.list.length q3] 27)) #[.slice none 0 0,.slice none 0 0,.slice none 0 0,.slice none 0 0] 27
 rw[show(w.alloc (.cells #[.slice p0 c.sign.length q0,.slice p1 c.regs.length q1,.slice p2 c.slots.length q2,.slice p3 c.list.length q3] 27)).heap.size=w.heap.size+1 by simp]at h9
 exact h9):p:=h
theorem Pb{p:Prop}(h:p:=by
 obtain rfl|rfl|rfl|rfl:j=0\/j=1\/j=2\/j=3:=oM
 all_goals rfl):p:=h
theorem QY{p:Prop}(h:p:=by
 refine⟨g,cap,w3,hr,(hb0.mono hB).grown hgrow oM (fun q e=>(h0.lt q e).1),hown,fun b hb hne=>?_,?_⟩
 ·rw[hgrow.block b oM (Ne.symm hne)]
  exact hb0.block b hb
 ·rcases hat with e|e
  ·exact .inl e
  ·exact .inr oM):p:=h
theorem S5{p:Prop}(h:p:=by
 go_simp
 refine Aw hK fun hHeld=>?_
 clear hK K
 refine Bw 13 ?_
 clear hHeld
 refine Ax 14 fun K hK=>?_
 go_simp
 refine Aw hK fun hHeld=>?_
 clear hK K
 refine Bw 15 ?_
 refine wpAnyH_done kR ?_ _
 go_wp2
 go_meet
 refine⟨_,_,_,rfl,Mo (bel (A0 _ _) (A0 _ _)) ?_ ?_ ?_ ?_ ?_ ?_⟩
 ·first|exact No _ _ _ _ _|exact Np _ _ _ _ _
 ·first|exact No _ _ _ _ _|exact Np _ _ _ _ _
 all_goals first|omega|simp):p:=h
theorem Qy{p:Prop}(h:p:=by
 refine Aw hK fun hHeld=>?_
 clear hK K
 refine wpAnyH_done kR ?_ _
 go_wp2
 go_ret
 exact⟨A8 (NB.out HB.out).symm,(bel HB0.out hbv).drew⟩):p:=h
theorem S6{p:Prop}(h:p:=by
 go_enter func24,ntmps24
 go_wp2_with(first
  |(go_at_call 38;refine HK1.out.mono ?_;rintro e w1 ⟨rfl,hb1⟩;obtain⟨d1,d2,d3⟩:=HC.out w1 hb1)
  |(go_at_call 39;refine(HK2.out _ (HC0.out.below hb1)).mono ?_;rintro e w2 ⟨rfl,hb2⟩;have HB2:=bel hb1 hb2)
  |(go_at_call 40;refine(HK3.out _ (HC0.out.below HB2)).mono ?_;rintro e w3 ⟨rfl,hb3⟩;have HB3:=bel HB2 hb3))
 all_goals(go_ret;exact⟨rfl,HB3⟩)):p:=h
theorem S7{p:Prop}(h:p:=by
 refine Tf 0 1 2 3 4 5 ?_
 clear hHeld
 refine Ax 6 fun K hK=>?_
 go_simp
 (go_at_call 74;refine(HK.out _).mono ?_;rintro e w1 ⟨rfl,rfl⟩)
 try(go_wp2_with fail)
 refine Aw hK fun hHeld=>?_
 clear hK K
 refine Bw 7 ?_
 refine Kd 8 9 10 11 ?_
 refine Kd 12 13 14 15 ?_
 refine CD 16 ?_
 refine CD 17 ?_
 refine Tb 18 19 ?_
 refine wpAnyH_done kR ?_ _
 go_wp2
 go_ret
 exact⟨rfl,bel (A0 _ _) (Ae _)⟩):p:=h
theorem O1{p:Prop}(h:p:=by
 exact⟨rfl,bel (A0 _ _) (A0 _ _)⟩):p:=h
theorem Q5{p:Prop}(h:p:=by
 rcases(show j=0\/j=1\/j=2\/j=3\/j=4\/j=5\/j=6 by omega)with rfl|rfl|rfl|rfl|rfl|rfl|rfl<;>rfl):p:=h
theorem QZ{p:Prop}(h:p:=by
 intro x hx
 obtain⟨k,rfl,hkl⟩:=Cw hx
 obtain⟨lb,lo,hp,hc⟩:=AR.at (p:=p1) (n:=c.regs.length) (c:=q1) hv.regs hkl
 rw[Dj rfl hkl]
 exact⟨k,lb,lo,rfl,hkl,hp,hc.at 0 rfl,hc.at 1 rfl⟩):p:=h
theorem S8{p:Prop}(h:p:=by
 have HK5:=A2 hk
 have HB5:=A2 hb
 have x0:wc.cell? ⟨X,0,none⟩=some (.int .i64 op):=hx.cell (i:=0) dE
 have c3:=hk.b3
 have ca:=hk.a.cell hlt
 have fa:=hk.a.frozen j
 clear hk hx hb HR HK6 HX6 HB6 HK4 HX4 HBW
 go_wp2
 go_roundw
 case rel=>
  refine⟨j+1,oM,gN,by rw[HNX.out,HFI.out.2],HB5.out.setCell HK5.out.hA _,_,_,_,_,HK5.out.setAr j AX,HPN.out⟩
 case measure=>simp[intOf];omega):p:=h
theorem S9{p:Prop}(h:p:=by
 refine⟨hbj.setCell HLX.out.2.2 _,hIj.setOther (a:=⟨LB,o,none⟩) HLX.out.2.1.symm _,fun b hb h1 h2=>(Below.heap_setCell _ _ _ _ h2).trans (hoth b hb h1 h2),hX0,hXj.setOther (a:=⟨LB,o,none⟩) HLX.out.1.symm _,A7 hO (fun g hg=>Below.heap_setCell _ _ _ _ (fun(q:g=LB)=>AF hO hLr dE (by rw[←q];exact hg))),.inr ((hLr.set o _).congr fun k hk=>?_)⟩
 rw[HFN.out]):p:=h
theorem Sa{p:Prop}(h:p:=by
 clear h h34 h36 hno
 go_wp2_with(go_at_call 64;refine HK.out.mono ?_;rintro e w1 ⟨rfl,hb1,hoff,vs',vo',hws⟩;have HP:Hid (PS E G C n gi w.heap.size L0 w T vs' vo' w1):=(by refine⟨HB1.out.trans hb1,by rw[HT1.out];exact hws,?_,oM,oM⟩;rw[World.cell?_of_block (hoff w.heap.size (by have:=HVS.out;omega) oM oM)];exact HVB.out);clear hb1 hoff hws)
 go_meet
 exact⟨_,_,HP.out⟩):p:=h
theorem Sb{p:Prop}(h:p:=by
 rw[hb]at hd HPN
 simp only[Bool.false_eq_true,if_false]at HPN
 have HNJ:=A2 (fun r=>OC hb r)
 clear hb
 go_upto_region 11 with fail
 try rw[hV2]
 go_wp2
 go_roundw
 case rel=>
  refine⟨j+1,pl,ql,oM,gN,by rw[HPN.out],HBV.out,HI2.out,HOT.out,HS2.out.1,HS2.out.2,HX2.out.congr fun r hr=>?_,?_⟩
  ·rw[HNJ.out]
  ·rw[HPN.out];exact HO2.out
 case measure=>simp[intOf];omega):p:=h
theorem R0{p:Prop}(h:p:=by
 go_enter func24,ntmps24
 go_wp2_with(go_at_call 38;refine HK1.out.mono ?_;rintro e w1 ⟨rfl,hb1⟩;obtain⟨d1,d2,d3⟩:=HC.out w1 hb1)
 all_goals(go_ret;exact⟨rfl,hb1⟩)):p:=h
theorem Q7{p:Prop}(h:p:=by
 go_wp2
 go_roundw
 case rel=>exact⟨k+1,_,_,oM,gN,HQ.out⟩
 case measure=>simp[intOf];omega):p:=h
theorem Sc{p:Prop}(h:p:=by
 obtain⟨g,cap,ev,g1,g2,-,-,g3⟩:=Bc hF oM
 simp only[Value.slice.injEq]at ev
 refine⟨g,ev.1,?_,g2,g3 j _ (by simp[Cf,hj])⟩
 rcases hF.2 with⟨h9,-⟩|⟨g',cap',cur,hv,-,hg,-⟩
 ·rw[ev.1]at h9;simp at h9
 ·rw[ev.1]at hv
  simp only[Value.slice.injEq,Option.some.injEq,Addr.mk.injEq]at hv
  exact⟨cur,by rw[hv.1.1];exact hg⟩):p:=h
theorem Pp{p:Prop}(h:p:=by
 by_cases e:i=j
 ·subst e;exact hq
 ·exact hp.out i h oM):p:=h
theorem Sd{p:Prop}(h:p:=by
 clear h
 go_enter func50,ntmps50
 go_wp2_with(first
  |(go_at_call 37;refine(HROW.out _).mono ?_;rintro e w1 ⟨rfl,rfl⟩)
  |(go_at_call 49;refine(HCAN.out _).mono ?_;rintro e w2 ⟨rfl,hb2⟩;have HB2:Hid _:=hb2;clear hb2))
 go_ret
 exact⟨rfl,bel (bel (A0 _ _) (A0 _ _)) HB2.out⟩):p:=h
theorem Qz{p:Prop}(h:p:=by
 show(if p=j then a else s.ar p)=_
 by_cases e:p=j
 ·rw[if_pos e,ha,e]
 ·rw[if_neg e];exact h.ar p oM):p:=h
theorem R1{p:Prop}(h:p:=by
 simp only[Option.some.injEq,Addr.mk.injEq,and_true]at e9
 obtain⟨rfl,rfl⟩:=e9
 exact Nat.lt_of_lt_of_eq (Ab (h8.at 0 rfl)) HBS.out):p:=h
theorem R2{p:Prop}(h:p:=by
 have h1:=JN hT hx
 have h2:(Au c.regs x).kind=3:=by simpa[Ef]using hk
 unfold AE at h1
 rw[if_neg oM,if_pos h2]at h1
 exact h1):p:=h
theorem Se{p:Prop}(h:p:=by
 intro hb
 rcases h.2 with⟨rfl,_⟩|⟨g,cap,cur,rfl,_,hg,_⟩
 ·exact absurd (show(none:Option Nat)=some b from hb) sM
 obtain⟨c,hc,-⟩:=h'
 have e1:g=b:=Option.some.inj hb
 rw[e1,hc]at hg
 simp only[Option.some.injEq,Obj.cells.injEq]at hg
 exact ht hg.2.1.symm):p:=h
theorem Sf{p:Prop}(h:p:=by
 cases p with
 |none=>simp[Builtin.append_,run_underlying ht,sizeOf,typeInfo,hi,Builtin.lenOf,Builtin.firstCells,storeCells]
 |some a=>simp[Builtin.append_,run_underlying ht,sizeOf,typeInfo,hi,Builtin.lenOf,Builtin.firstCells,storeCells,loadCells,loadCellsFrom]):p:=h
theorem Sg{p:Prop}(h:p:=by
 refine⟨hbj,hIj,fun b hb hne _=>hoth b hb hne,hX0,hXj,hO,?_⟩
 rcases HLM.out with h9|h9
 ·exact .inl h9
 ·right
  refine(h9.of_block (hoth LB (by have:=h9.lt;have:=HH0.out;omega) (Bd h9 HI.out dE))).congr fun k hk=>?_
  unfold fJ
  rw[if_neg sM]):p:=h
theorem Sh{p:Prop}(h:p:=by
 clear ho
 go_wp2_with(at_builtin;refine Ay rF _ _ _ rF _ _ _ rF rF HR1.out ?_)
 go_roundw
 case rel=>exact⟨j+1,p',q',oM,gN,by rw[HLN.out],HBJ.out.trans HR3.out,Nat.le_trans HEW.out HR3.out.size,HR2.out⟩
 case measure=>simp[intOf];omega):p:=h
theorem QA{p:Prop}(h:p:=by
 have HQ:Hid ((n==0)=RES):=HRT.out
 go_wp2
 go_ret
 exact⟨A8 HQ.out,hbt⟩):p:=h
theorem R3{p:Prop}(h:p:=by
 rw[f1,f2,f3,f4];unfold Qf;clear f1 f2 f3 f4
 go_enter func80,ntmps80
 go_wp2
 go_returns
 exact⟨rfl,_,rfl⟩):p:=h
theorem R4{p:Prop}(h:p:=by
 go_ret
 refine⟨A8 ?_,bel (bel (A0 _ _) (A0 _ _)) (bel HB1.out (A0 _ _))⟩
 simp[Ef, *]):p:=h
theorem QB{p:Prop}(h:p:=by
 go_enter func8,ntmps8
 go_wp2
 all_goals(go_ret;exact⟨rfl,HB0.out⟩)):p:=h
theorem Si{p:Prop}(h:p:=by
 refine Tf 0 1 2 3 4 5 ?_
 refine Tf 6 7 8 9 10 11 ?_
 refine Tf 12 13 14 15 16 17 ?_
 refine Tc 18 19 20 ?_
 refine Tb 21 22 ?_
 refine wpAnyH_done kR ?_ _
 go_wp2
 go_ret
 refine⟨A8 ?_,Co hbt⟩
 rw[←HQ9.out]
 simp[hps]):p:=h
theorem Sj{p:Prop}(h:p:=by
 refine Tf 0 1 2 3 4 5 ?_
 refine Tf 6 7 8 9 10 11 ?_
 refine Tf 12 13 14 15 16 17 ?_
 refine Tc 18 19 20 ?_
 refine Tb 21 22 ?_
 refine wpAnyH_done kR ?_ _
 go_wp2
 go_ret
 refine⟨A8 ?_,Co hbt⟩
 rw[←HQ9.out]
 simp[hks]):p:=h
theorem Sk{p:Prop}(h:p:=by
 rw[World.cell?_of_block (Below.heap_setCell _ _ _ _ (by show w.heap.size≠G;omega)),hfar ⟨w.heap.size,0,none⟩ (by have:=HVS.out;show w.heap.size<_;omega) (fun e=>by have:=(HS.out.opn.lt _ e).2;simp at this)]
 exact HVB.out):p:=h
theorem Sm{p:Prop}(h:p:=by
 try(go_wp2_with fail)
 refine Aw hK fun hHeld=>?_
 clear hK K
 refine Bw 8 ?_
 refine wpAnyH_done kR ?_ _
 go_wp2
 go_roundw
 case rel=>exact⟨HCX.out.next HB2.out,j+1,oM,gN,NX.out fT⟩
 case measure=>simp[intOf];omega):p:=h
theorem Sn{p:Prop}(h:p:=by
 rw[List.mem_filter,List.mem_range]
 constructor
 ·rintro⟨h,e⟩
  rw[List.getElem?_eq_getElem h]at e
  exact⟨h,by simpa using e⟩
 ·rintro⟨h,e⟩
  rw[List.getElem?_eq_getElem h]
  exact⟨h,by simpa using e⟩):p:=h
theorem So{p:Prop}(h:p:=by
 go_wp2
 go_roundw
 case rel=>
  refine⟨k+1,some ⟨g,0,none⟩,c',oM,gN,?_⟩
  show Ed _ _ _ _ _ _ _ _ _ _ _ _ _ _ _ _ _ _ _ _ _ _
  rw[HL2.out]
  exact HZ3.out
 case measure=>simp[intOf];omega):p:=h
theorem Sp{p:Prop}(h:p:=by
 split
 ·rename_i s;rw[DZ];exact⟨fun q=>q.imp id fun e=>⟨s,e.symm⟩,fun q=>q.imp id fun e=>e.2.symm⟩
 ·rename_i s;exact⟨fun q=>.inl q,fun q=>q.elim id fun e=>absurd e.1 s⟩):p:=h
theorem QC{p:Prop}(h:p:=by
 rw[List.take_succ_eq_append_getElem hj,List.foldl_append]
 rfl):p:=h
theorem Sq{p:Prop}(h:p:=by
 rcases h with⟨e,s⟩|⟨e,s⟩|⟨e,s⟩|⟨e,s⟩
 ·exact .inl ⟨oM,s⟩
 ·exact .inr (.inl ⟨oM,s⟩)
 ·exact .inr (.inr (.inl ⟨oM,s⟩))
 ·exact .inr (.inr (.inr ⟨oM,s⟩))):p:=h
theorem Ss{p:Prop}(h:p:=by
 clear hbj hIj hoth hX0 hXj hO hLj hcF lF hc l1 l2 l3 nFI nFL hLr hLw h0 ho' hr HJ HFN hnv hcr
 go_wp2
 go_roundw
 case rel=>exact⟨m+1,oM,gN,HNX.out⟩
 case measure=>simp[intOf];omega):p:=h
theorem QD{p:Prop}(h:p:=by
 go_wp2
 go_ret
 exact⟨A8 (by simp[h];try omega),rfl⟩):p:=h
theorem QE{p:Prop}(h:p:=by
 by_cases e':i=j
 ·subst e';exact e
 ·exact hp.out i h1 h2 oM):p:=h
theorem St{p:Prop}(h:p:=by
 have:j=n:=oM
 subst this
 have HF:Hid (BO (l.take j)=BO l):=by show _=_;rw[List.take_of_length_le (by rw[HN.out];exact Nat.le_refl _)]
 go_wp2
 go_ret
 exact⟨Dk HF.out,hb⟩):p:=h
theorem Su{p:Prop}(h:p:=by
 try(go_wp2_with fail)
 refine Aw hK fun hHeld=>?_
 clear hK K
 refine Bw 8 ?_
 refine wpAnyH_done kR ?_ _
 go_wp2
 go_ret2
 exact⟨EH (NB.out fT),bel HCX.out.bel HB2.out⟩):p:=h
theorem Sv{p:Prop}(h:p:=by
 by_cases a:K=1
 ·subst a;exact .inl ⟨rfl,rfl⟩
 ·by_cases b:K=2
  ·subst b;exact .inr (.inl ⟨rfl,rfl⟩)
  ·exact .inr (.inr ⟨by simpa using a,by simpa using b⟩)):p:=h
theorem R5{p:Prop}(h:p:=by
 rw[GK hj,if_neg (fun q=>by rw[h1]at q;cases q.1),List.append_nil];exact h.sl r):p:=h
theorem Sw{p:Prop}(h:p:=by
 constructor
 ·rintro((h|h)|h)
  ·exact .inl h
  ·exact .inr (.inl h)
  ·exact .inr (.inr h)
 ·rintro(h|h|h)
  ·exact .inl (.inl h)
  ·exact .inl (.inr h)
  ·exact .inr h):p:=h
theorem Sx{p:Prop}(h:p:=by
 go_wp2_with(go_at_call 69;(with_reducible refine(HPA.out _ hbt).mono ?_);rintro e w7 ⟨rfl,hb7⟩;have HB7:Hid _:=hb7;clear hb7)
 go_ret
 exact⟨rfl,bel hbt HB7.out⟩):p:=h
theorem Sy{p:Prop}(h:p:=by
 go_wp2
 go_roundw
 case rel=>exact⟨true,k+1,_,oM,rfl,gN,HR9.out,HQ.out.1,fun h=>(by cases h),fun _=>HQ.out.2,Nat.le_of_lt HQ.out.2⟩
 case measure=>simp[intOf];omega):p:=h
theorem Sz{p:Prop}(h:p:=by
 unfold Oper.wp execOp
 simp only[ho,resolve,invoke,builtin,Sem.run_bind,Sem.run_pure,Result.andThen_ok,List.map_toArray,List.map_cons,List.map_nil,hs,hx,hr]
 exact h):p:=h
theorem SA{p:Prop}(h:p:=by
 obtain⟨hbj,hIj,hoth,hX0,hXj,hO,hLj⟩:=HJ.out
 refine⟨hO,hbj,by rw[HNM.out];exact hIj,by rw[hmn]at hLj;exact hLj,fun b hb=>hoth b (by have:=HH0.out;omega)⟩):p:=h
theorem R6{p:Prop}(h:p:=by
 go_roundw
 case rel=>exact⟨k+1,oM,gN,HQ.out⟩
 case measure=>simp[intOf];omega):p:=h
theorem SC{p:Prop}(h:p:=by
 have:j=s.size:=oM
 subst this
 have HF:Hid (Bg s=true):=Jc h0 h64 fun i h=>hp.out i h h
 clear hp
 go_wp2
 go_ret
 exact⟨A8 HF.out.symm,rfl⟩):p:=h
theorem QF{p:Prop}(h:p:=by
 rw[←HAX.out,←HNX.out,h2]
 exact⟨h1.symm,rfl⟩):p:=h
theorem SE{p:Prop}(h:p:=by
 have hl0:=HL.out.2.2.2 rfl
 clear hF
 go_wp2
 go_ret
 refine⟨_,rfl,?_,HF.out.bel⟩
 rw[←HR.out,←hl0]
 exact AM HO.out (by have:=HF.out.hC;omega)):p:=h
theorem SF{p:Prop}(h:p:=by
 have hle:w.heap.size<=w.heap.size+1:=Nat.le_succ _
 exact⟨rfl,((((bel HB0.out HB1.out).setCell hle _).setCell hle _).setCell hle _).setCell hle _⟩):p:=h
theorem R7{p:Prop}(h:p:=by
 go_enter func56,ntmps56
 go_wp2
 go_ret
 exact⟨rfl,A0 _ _⟩):p:=h
theorem R8{p:Prop}(h:p:=by
 go_enter func32,ntmps32
 go_wp2
 go_ret
 exact⟨rfl,A0 _ _⟩):p:=h
theorem SG{p:Prop}(h:p:=by
 go_enter func67,ntmps67
 go_wp2_with(go_at_call 80;refine(OR _ oM oM _).mono ?_;rintro e w' ⟨rfl,o,rfl⟩)
 go_ret
 exact⟨rfl,gG⟩):p:=h
theorem SH{p:Prop}(h:p:=by
 rw[←hbx]at h
 exact⟨h.cell (i:=0) dE,h.cell (i:=1) dE,h.cell (i:=2) dE,h.cell (i:=3) dE,h.cell (i:=4) dE,h.cell (i:=5) dE,h.cell (i:=6) dE⟩):p:=h
theorem SJ{p:Prop}(h:p:=by
 rw[←hW3]
 refine(HX2.out.set j _).congr fun r hr=>?_
 rw[Ln hb r]
 by_cases e:r=j
 ·rw[if_pos e,if_pos e,HPL.out]
 ·rw[if_neg e,if_neg e]):p:=h
theorem R9{p:Prop}(h:p:=by
 subst hl
 rw[Bm dE]at h
 simp only[Bool.and_eq_true]at h
 exact h.2):p:=h
theorem Ra{p:Prop}(h:p:=by
 rw[GN hj,if_neg (fun q=>h2 q.1),List.append_nil];exact h.tl r):p:=h
theorem QG{p:Prop}(h:p:=by
 go_ret
 exact⟨rfl,bel (A0 _ _) hb1⟩):p:=h
theorem QH{p:Prop}(h:p:=by
 exact hp.out i hi (by rw[←HN.out];exact hi)):p:=h
theorem SL{p:Prop}(h:p:=by
 clear HC4
 go_wp2_with(go_at_call 48;refine HK.out.mono ?_;rintro e w1 ⟨rfl,hb1⟩)
 go_ret
 exact⟨Dk HC5.out.symm,bel hb' hb1⟩):p:=h
theorem SN{p:Prop}(h:p:=by
 have e5:=HPNL.out
 first|exact⟨pl,ql,by rw[e5],by rw[e5];exact HFI.out.1,HFI.out.2⟩|exact⟨pl,ql,rfl,HFI.out.1,HFI.out.2⟩):p:=h
theorem Rb{p:Prop}(h:p:=by
 rw[this,List.getElem?_map,List.getElem?_eq_getElem hur,hrn]
 rfl):p:=h
theorem Rc{p:Prop}(h:p:=by
 by_cases e:j=p
 ·rw[if_pos e,if_pos e]
 ·rw[if_neg e,if_neg e]):p:=h
theorem SO{p:Prop}(h:p:=by
 have h9:=HU.out
 rw[hue,List.take_of_length_le (by rw[HRN.out,List.length_map,HRL.out];exact Nat.le_refl _)]at h9
 exact h9):p:=h
theorem SP{p:Prop}(h:p:=by
 refine .keepW hK sO ?_ ?_
 ·rw[List.take_append_of_le_length ha];exact e
 ·rw[List.take_append_of_le_length ha];exact h):p:=h
theorem SQ{p:Prop}(h:p:=by
 have:([n].filter g).length<=([n].filter f).length:=by
  cases e:g n with
  |false=>simp[e]
  |true=>simp[e,h n e]
 omega):p:=h
theorem SR{p:Prop}(h:p:=by
 exact AT h1 dE (Aq _ _ _ _) (fun _=>Aq _ _ _ _) (fun _=>Aq _ _ _ _) (fun _=>Aq _ _ _ _) rfl):p:=h
theorem SU{p:Prop}(h:p:=by
 go_wp2_with(go_at_call 74;refine(HK.out _).mono ?_;rintro e w1 ⟨rfl,rfl⟩)
 go_ret
 exact⟨rfl,A0 _ _⟩):p:=h
theorem Re{p:Prop}(h:p:=by have hq:=bel (A0 _ _) hb1;exact⟨bel hq (A0 _ _),kc (A0 _ _) (kc hb1 sG),kc (A0 _ _) (kc hb1 sG),kc (A0 _ _) (kc hb1 sG),kc (A0 _ _) (kc hb1 sG),kc (A0 _ _) (kc hb1 sG),sG,sG,kc (A0 _ _) (kc hq HS0.out.c0),kc (A0 _ _) (kc hq HS0.out.c3),kc (A0 _ _) (kc hq HE0.out)⟩):p:=h
theorem Jz{p:Prop}(h:p:=by simp[Value.oneCell']):p:=h
theorem QI{p:Prop}(h:p:=by intro j hj;rcases(show j=0\/j=1\/j=2\/j=3 by omega)with rfl|rfl|rfl|rfl<;>rfl):p:=h
theorem QJ{p:Prop}(h:p:=by exact⟨bel hw1 (A0 _ _),sG,sG,sG,sG,sG,kc (A0 _ _) (kc hw1 g0)⟩):p:=h
theorem Ho{p:Prop}(h:p:=by cases h):p:=h
theorem Rg{p:Prop}(h:p:=by have:=HTD.out;simp only[List.length_cons,List.length_nil];omega):p:=h
theorem QK{p:Prop}(h:p:=by show w.heap.size<=w.heap.size+1;omega):p:=h
theorem SV{p:Prop}(h:p:=by have:=DC r.reverse ⟨L,P,A⟩ 2 (u:=.int .i64 A) rfl;rwa[hl]at this):p:=h
theorem SW{p:Prop}(h:p:=by have:=DC r.reverse ⟨L,P,A⟩ 1 (u:=.int .i64 P) rfl;rwa[hl]at this):p:=h
theorem Rh{p:Prop}(h:p:=by obtain⟨p,q,e,_⟩:=hcd.slots;exact⟨p,q,e⟩):p:=h
theorem SX{p:Prop}(h:p:=by have:=DC r.reverse ⟨L,P,A⟩ 0 (u:=.bool L) rfl;rwa[hl]at this):p:=h
theorem Ri{p:Prop}(h:p:=by obtain⟨p,q,e,_⟩:=hcd.sign;exact⟨p,q,e⟩):p:=h
theorem Rj{p:Prop}(h:p:=by obtain⟨p,q,e,_⟩:=hcd.regs;exact⟨p,q,e⟩):p:=h
theorem Rl{p:Prop}(h:p:=by obtain⟨p,q,e,_⟩:=hcd.list;exact⟨p,q,e⟩):p:=h
theorem Rm{p:Prop}(h:p:=by simp[results,results81,go_sem, *];try rfl):p:=h
theorem SY{p:Prop}(h:p:=by intro u hu;obtain⟨x,_,hx⟩:=List.mem_flatMap.1 hu;exact h1 x u hx):p:=h
theorem Rn{p:Prop}(h:p:=by unfold A9;rw[if_neg q];simp):p:=h
theorem SZ{p:Prop}(h:p:=by unfold maxLen;have:=HPL.out;have:=HCU.out;omega):p:=h
theorem Ro{p:Prop}(h:p:=by simp[Value.oneCell',Bf,RC]):p:=h
theorem Rp{p:Prop}(h:p:=by rw[List.length_map];exact hj):p:=h
theorem QL{p:Prop}(h:p:=by have:=HLL.out;omega):p:=h
theorem Q8{p:Prop}(h:p:=by simpa using g3):p:=h
theorem QM{p:Prop}(h:p:=by rw[G7];omega):p:=h
theorem Q9{p:Prop}(h:p:=by simpa using h):p:=h
theorem Rq{p:Prop}(h:p:=by show w.heap.size<E;omega):p:=h
end Go.Proofs.Ytnbccaicijcklaa
