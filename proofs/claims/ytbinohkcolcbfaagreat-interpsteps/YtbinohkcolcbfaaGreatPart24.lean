import Derived.Test.YtbinohkcolcbfaaGreatPart22
import Derived.Test.YtbinohkcolcbfaaGreatPart16
import Derived.Test.YtbinohkcolcbfaaGreatPart1
namespace Go.Proofs.YtbinohkcolcbfaaGreat
open Go.RowKit Go.Proofs.Tryz
set_option linter.all false
set_option maxRecDepth 100000
set_option maxHeartbeats 16000000

section
open Go.ChangeShapes Go.WideShapes Go.ChangeAt Go.RowKit
theorem Tv:Tryz.prog.cellsOf 43=1:=kR
theorem Ra:Tryz.prog.cellsOf 57=1:=kR
theorem Ht:Tryz.prog.cellsOf 51=2:=kR
theorem Mx:Tryz.prog.cellsOf 30=5:=kR
theorem Tu:Tryz.prog.bytesOf 43=4:=kR
theorem R9:Tryz.prog.bytesOf 57=24:=kR
theorem Mw:Tryz.prog.bytesOf 51=48:=kR
structure St where
 gv:Value
 pv:Value
 G:List (List Int)
 P:List (List Int)
def ZL(s:St):List Value:=[s.gv,s.pv]
structure VL where
 v:Value
 l:List Int
def vlC(x:VL):List Value:=[x.v]
instance:Inhabited St:=⟨⟨.slice none 0 0,.slice none 0 0,[],[]⟩⟩
instance:Inhabited VL:=⟨⟨.slice none 0 0,[]⟩⟩
def Qy(w:World):Nat->Prop:=fun b=>w.heap.size<=b
def ZQ(w:World)(x:VL):Prop:=Pt (Qy w) w x.v x.l/\x.l.length<=140737488351232/\∀y∈x.l,Af y
def SC(w:World)(s:St):Prop:=BC (Qy w) w s.gv s.G/\BC (Qy w) w s.pv s.P/\DY s.G/\DY s.P
theorem Km{α:Type}{k:Nat}{f:α->List Value}{w:World}{v:Value}{l:List α}(hk:0<k)(hf:∀x,(f x).length=k)(h:B6 k f w v l):BH (Qy w) k f w v l:=by
 obtain⟨p,c,e,h⟩:=h;by_cases h0:l=[]
 ·exact⟨p,c,e,.inl h0⟩
 ·rcases h with h|⟨b,o,hp,hc⟩
  ·exact absurd h h0
  ·have hl:0<l.length:=List.length_pos_iff.2 h0;have hb:b<w.heap.size:=by
    have h1:=hc 0 hl;have h2:0<(f l[0]).length:=by rw[hf];exact hk
    exact A3 (h1 0 h2)
   exact⟨p,c,e,.inr ⟨b,o,hp,Nat.not_le.2 hb,hb,hc⟩⟩
section
variable {H : Type} {enc : TypeId × Value -> H} {w : World} {base : Nat} {held : Bool}
theorem Xt{fuel:Nat}{cs:List Value}{x:DataW H×List MemPlace}(h:DataW.trod enc Tryz.prog w base (fun _=>true) held fuel 43 cs=some x):∃a:Int,cs=ON a/\Af a:=by
 obtain⟨a,c,-,w0⟩:=DataW.trod_int Tryz.underlying43 h;exact⟨a,c,(bounds_u32 w0).1,Int.lt_add_one_of_le (bounds_u32 w0).2⟩
theorem Xw{fuel:Nat}{cs:List Value}{x:DataW H×List MemPlace}(h:DataW.trod enc Tryz.prog w base (fun _=>true) held fuel 57 cs=some x)(hw:∀n∈x.1.weights Tryz.prog 57,n<=reachBytes):∃a:VL,cs=vlC a/\ZQ w a:=by
 obtain⟨v,rfl⟩:∃v,cs=[v]:=by
  rcases DataW.trod_slice Tryz.underlying57 h with⟨hcs,_⟩|⟨a,len,cap,elems,rest,m,hm,hcs,_⟩
  ·exact⟨_,hcs⟩
  ·exact⟨_,hcs⟩
 obtain⟨l,hr,hlen,hg⟩:=D5 (f:=ON) (k:=1) (Good:=Af) dE (fun _=>rfl) Tryz.underlying57 Tv Tu dE (fun h _=>Xt h) h hw;exact⟨⟨v,l⟩,rfl,Km dE (fun _=>rfl) hr,by show l.length<=_;omega,hg⟩
theorem MH{fuel:Nat}{v:Value}{x:DataW H×List MemPlace}(h:DataW.trod enc Tryz.prog w base (fun _=>true) held fuel 47 [v]=some x)(hw:∀n∈x.1.weights Tryz.prog 47,n<=reachBytes):∃L,BC (Qy w) w v L/\DY L:=by
 obtain⟨l,hr,hlen,hg⟩:=D5 (f:=vlC) (k:=1) (Good:=ZQ w) dE (fun _=>rfl) Tryz.underlying47 Ra R9 dE (fun h hw=>Xw h hw) h hw;obtain⟨p,c,rfl,hh⟩:=Km (k:=1) (f:=vlC) dE (fun _=>rfl) hr;refine⟨l.map VL.l,⟨p,c,sM,?_⟩,⟨sO,?_,?_⟩⟩
 ·rcases hh with rfl|⟨b,o,hp,hT,hb,hc⟩
  ·exact .inl rfl
  ·refine .inr ⟨b,o,hp,hT,hb,fun i hi=>?_⟩;have hi':i<l.length:=by simpa using hi
   refine⟨(l[i]).v,?_,?_⟩
   ·have:=(hc i hi').at 0 rfl;simpa using this
   ·simpa using(hg l[i] (List.getElem_mem hi')).1
 ·intro y hy;obtain⟨a,ha,rfl⟩:=List.mem_map.1 hy;exact(hg a ha).2.1
 ·intro y hy z hz;obtain⟨a,ha,rfl⟩:=List.mem_map.1 hy;exact(hg a ha).2.2 z hz
theorem Xv{fuel:Nat}{cs:List Value}{x:DataW H×List MemPlace}(h:DataW.trod enc Tryz.prog w base (fun _=>true) held fuel 51 cs=some x)(hw:∀n∈x.1.weights Tryz.prog 51,n<=reachBytes):∃s:St,cs=ZL s/\SC w s:=by
 obtain⟨xs,n,hfn,hx,hl,hxl,hf⟩:=DataW.trod_struct Tryz.underlying51 h;rw[Ht]at hl
 match cs,hl with
 |[v0,v1],_=>
 match xs,hxl with
 |[y0,y1],_=>
  have e0:DataW.trod enc Tryz.prog w base (fun _=>true) held n 47 [v0]=some y0:=hf 0 _ rfl;have e1:DataW.trod enc Tryz.prog w base (fun _=>true) held n 47 [v1]=some y1:=hf 1 _ rfl;subst hx;have hws:∀ (j:Nat) (t:TypeId) (d:DataW H),[47,47][j]? =some t->[y0.1,y1.1][j]? =some d->∀n∈d.weights Tryz.prog t,n<=reachBytes:=fun j t d ht hd n hn=>by
   refine hw n ?_;show n∈DataW.weights Tryz.prog 51 (.agg [y0.1,y1.1]);rw[DataW.weights,Tryz.underlying51];exact DataW.weights_mem_each (ts:=[47,47]) ht hd n hn
  obtain⟨G,g1,g2⟩:=MH e0 (hws 0 _ _ rfl rfl);obtain⟨P,p1,p2⟩:=MH e1 (hws 1 _ _ rfl rfl);exact⟨⟨v0,v1,G,P⟩,rfl,g1,p1,g2,p2⟩
theorem OF{fuel:Nat}{cs:List Value}{x:DataW H×List MemPlace}(h:DataW.trod enc Tryz.prog w base (fun _=>true) held fuel 27 cs=some x)(hw:∀n∈x.1.weights Tryz.prog 27,n<=reachBytes):
 ∃ (v0 v1 v2 v3:Value) (c:Cd),cs=[v0,v1,v2,v3]/\D8 w v0 v1 v2 v3 c/\B5 c/\Qx c:=by
 obtain⟨xs,n,hfn,hx,hl,hxl,hf⟩:=DataW.trod_struct Tryz.underlying27 h;rw[NL]at hl
 match cs,hl with
 |[v0,v1,v2,v3],_=>
 match xs,hxl with
 |[y0,y1,y2,y3],_=>
  have e0:DataW.trod enc Tryz.prog w base (fun _=>true) held n 22 [v0]=some y0:=hf 0 _ rfl;have e1:DataW.trod enc Tryz.prog w base (fun _=>true) held n 23 [v1]=some y1:=hf 1 _ rfl;have e2:DataW.trod enc Tryz.prog w base (fun _=>true) held n 24 [v2]=some y2:=hf 2 _ rfl;have e3:DataW.trod enc Tryz.prog w base (fun _=>true) held n 25 [v3]=some y3:=hf 3 _ rfl;subst hx;have hws:∀ (j:Nat) (t:TypeId) (d:DataW H),[22,23,24,25][j]? =some t->[y0.1,y1.1,y2.1,y3.1][j]? =some d->∀n∈d.weights Tryz.prog t,n<=reachBytes:=fun j t d' ht hd' n hn=>by
   refine hw n ?_;show n∈DataW.weights Tryz.prog 27 (.agg [y0.1,y1.1,y2.1,y3.1]);rw[DataW.weights,Tryz.underlying27];exact DataW.weights_mem_each (ts:=[22,23,24,25]) ht hd' n hn
  obtain⟨l0,r0,s0,g0⟩:=D5 (Good:=fun p:BM=>p.name.size<=140737488351232) dE GF Tryz.underlying22 Hs Me dE (fun h hw=>TX h hw) e0 (hws 0 _ _ rfl rfl);obtain⟨l1,r1,s1,g1⟩:=D5 (Good:=fun _:Ty=>True) dE GU Tryz.underlying23 Ix NK dE (fun h _=>PP h) e1 (hws 1 _ _ rfl rfl);obtain⟨l2,r2,s2,g2⟩:=D5 (Good:=ZP) dE Ir Tryz.underlying24 Iw NJ dE (fun h _=>Xu h) e2 (hws 2 _ _ rfl rfl);obtain⟨l3,r3,s3,g3⟩:=D5 (Good:=Yg) dE FJ Tryz.underlying25 Iv NI dE (fun h _=>TV h) e3 (hws 3 _ _ rfl rfl);exact⟨v0,v1,v2,v3,⟨l0,l1,l2,l3⟩,rfl,⟨r0,r1,r2,r3⟩,⟨by show l0.length<=_;omega,g0,by show l1.length<=_;omega,by show l2.length<=_;omega,by show l3.length<=_;omega,g2,g3⟩,⟨s0,s1,s2,s3⟩⟩
theorem Ru{r:Reach}{b0:Nat}{v:Value}{d:DataW H}{pl:List MemPlace}(hv:Value.okWide Tryz.prog w r b0 30 v)(h:DataW.Trod enc Tryz.prog w base (fun _=>true) held 30 v d pl)(hw:∀n∈d.weights Tryz.prog 30,n<=reachBytes):
 ∃ (v0 v1 v2 v3 v4:Value) (c:Cd) (l:List St),v=.agg #[v0,v1,v2,v3,v4]/\D8 w v0 v1 v2 v3 c/\B5 c/\Qx c/\B6 2 ZL w v4 l/\l.length<=140737488351232/\∀s∈l,SC w s:=by
 obtain⟨cs,rfl,hsz⟩:=okWide_struct Tryz.underlying30 hv;obtain⟨fuel,hf0⟩:=h;obtain⟨xs,n,hfn,hx,hl,hxl,hf⟩:=DataW.trod_struct Tryz.underlying30 hf0;rw[Mx]at hl;obtain⟨cl,hcl⟩:∃cl,(Value.agg cs).cells.toList=cl:=⟨_,rfl⟩
 rw[hcl]at hl hf;have hcs:cs.toList=cl:=by rw[←hcl];simp[Value.cells]
 match cl,hl with
 |[v0,v1,v2,v3,v4],_=>
 match xs,hxl with
 |[y0,y1],_=>
  have e0:DataW.trod enc Tryz.prog w base (fun _=>true) held n 27 [v0,v1,v2,v3]=some y0:=hf 0 _ rfl;have e1:DataW.trod enc Tryz.prog w base (fun _=>true) held n 28 [v4]=some y1:=hf 1 _ rfl;have hd:d=.agg [y0.1,y1.1]:=congrArg Prod.fst hx;have hws:∀ (j:Nat) (t:TypeId) (d:DataW H),[27,28][j]? =some t->[y0.1,y1.1][j]? =some d->∀n∈d.weights Tryz.prog t,n<=reachBytes:=fun j t d' ht hd' n hn=>by
   refine hw n ?_;rw[hd];show n∈DataW.weights Tryz.prog 30 (.agg [y0.1,y1.1]);rw[DataW.weights,Tryz.underlying30];exact DataW.weights_mem_each (ts:=[27,28]) ht hd' n hn
  obtain⟨a0,a1,a2,a3,c,he,h1,h2,h3⟩:=OF e0 (hws 0 _ _ rfl rfl);obtain⟨l,g1,g2,g3⟩:=D5 (f:=ZL) (k:=2) (Good:=SC w) dE (fun _=>rfl) Tryz.underlying28 Ht Mw dE (fun h hw=>Xv h hw) e1 (hws 1 _ _ rfl rfl);simp only[List.cons.injEq,and_true]at he;obtain⟨rfl,rfl,rfl,rfl⟩:=he;refine⟨v0,v1,v2,v3,v4,c,l,?_,h1,h2,h3,g1,oM,g3⟩;rw[Value.agg.injEq];apply Array.toList_inj.1;exact hcs
end
end
end Go.Proofs.YtbinohkcolcbfaaGreat
