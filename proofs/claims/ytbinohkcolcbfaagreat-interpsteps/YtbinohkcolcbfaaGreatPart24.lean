import Derived.Test.YtbinohkcolcbfaaGreatPart22
import Derived.Test.YtbinohkcolcbfaaGreatPart12
import Derived.Test.YtbinohkcolcbfaaGreatPart1
namespace Go.Proofs.YtbinohkcolcbfaaGreat
open Go.RowKit Go.Proofs.Tryz
set_option linter.unusedVariables false
set_option linter.unusedSimpArgs false
set_option maxRecDepth 100000
set_option maxHeartbeats 16000000

end Go.Proofs.YtbinohkcolcbfaaGreat
set_option maxRecDepth 100000
set_option maxHeartbeats 16000000
namespace Go.Proofs.YtbinohkcolcbfaaGreat
open Go.Proofs.Tryz
open Go.ChangeShapes Go.WideShapes Go.ChangeAt Go.RowKit
set_option linter.unusedVariables false
set_option maxRecDepth 100000
theorem Zarn:Tryz.prog.cellsOf 43=1:=kR
theorem Zajt:Tryz.prog.cellsOf 57=1:=kR
theorem Zul:Tryz.prog.cellsOf 51=2:=kR
theorem Zadk:Tryz.prog.cellsOf 30=5:=kR
theorem Zaqe:Tryz.prog.bytesOf 43=4:=kR
theorem Zajo:Tryz.prog.bytesOf 57=24:=kR
theorem Zadl:Tryz.prog.bytesOf 51=48:=kR
structure St where
 gv:Value
 pv:Value
 G:List (List Int)
 P:List (List Int)
def stC(s:St):List Value:=[s.gv,s.pv]
structure VL where
 v:Value
 l:List Int
def vlC(x:VL):List Value:=[x.v]
instance:Inhabited St:=⟨⟨.slice none 0 0,.slice none 0 0,[],[]⟩⟩
instance:Inhabited VL:=⟨⟨.slice none 0 0,[]⟩⟩
def High(w:World):Nat->Prop:=fun b=>w.heap.size<=b
def VLok(w:World)(x:VL):Prop:=Pt (High w) w x.v x.l/\x.l.length<=140737488351232/\∀y∈x.l,IsP y
def StOk(w:World)(s:St):Prop:=VsT (High w) w s.gv s.G/\VsT (High w) w s.pv s.P/\VsOk s.G/\VsOk s.P
theorem Zyo{α:Type}{k:Nat}{f:α->List Value}{w:World}{v:Value}{l:List α}(hk:0<k)(hf:∀x,(f x).length=k)(h:RowG k f w v l):RowT (High w) k f w v l:=by
 obtain⟨p,c,e,h⟩:=h;by_cases h0:l=[]
 ·exact⟨p,c,e,.inl h0⟩
 ·rcases h with h|⟨b,o,hp,hc⟩
  ·exact absurd h h0
  ·have hl:0<l.length:=List.length_pos_iff.2 h0;have hb:b<w.heap.size:=by
    have h1:=hc 0 hl;have h2:0<(f l[0]).length:=by rw[hf];exact hk
    exact Zhr (h1 0 h2)
   exact⟨p,c,e,.inr ⟨b,o,hp,Nat.not_le.2 hb,hb,hc⟩⟩
section
variable {H : Type} {enc : TypeId × Value -> H} {w : World} {base : Nat} {held : Bool}
theorem open_FP{fuel:Nat}{cs:List Value}{x:DataW H×List MemPlace}(h:DataW.trod enc Tryz.prog w base (fun _=>true) held fuel 43 cs=some x):∃a:Int,cs=ptC a/\IsP a:=by
 obtain⟨a,c,-,w0⟩:=DataW.trod_int Tryz.underlying43 h;exact⟨a,c,(bounds_u32 w0).1,Int.lt_add_one_of_le (bounds_u32 w0).2⟩
theorem open_VL{fuel:Nat}{cs:List Value}{x:DataW H×List MemPlace}(h:DataW.trod enc Tryz.prog w base (fun _=>true) held fuel 57 cs=some x)(hw:∀n∈x.1.weights Tryz.prog 57,n<=reachBytes):∃a:VL,cs=vlC a/\VLok w a:=by
 obtain⟨v,rfl⟩:∃v,cs=[v]:=by
  rcases DataW.trod_slice Tryz.underlying57 h with⟨hcs,_⟩|⟨a,len,cap,elems,rest,m,hm,hcs,_⟩
  ·exact⟨_,hcs⟩
  ·exact⟨_,hcs⟩
 obtain⟨l,hr,hlen,hg⟩:=Zmu (f:=ptC) (k:=1) (Good:=IsP) dE (fun _=>rfl) Tryz.underlying57 Zarn Zaqe dE (fun h _=>open_FP h) h hw;exact⟨⟨v,l⟩,rfl,Zyo dE (fun _=>rfl) hr,by show l.length<=_;omega,hg⟩
theorem Zacq{fuel:Nat}{v:Value}{x:DataW H×List MemPlace}(h:DataW.trod enc Tryz.prog w base (fun _=>true) held fuel 47 [v]=some x)(hw:∀n∈x.1.weights Tryz.prog 47,n<=reachBytes):∃L,VsT (High w) w v L/\VsOk L:=by
 obtain⟨l,hr,hlen,hg⟩:=Zmu (f:=vlC) (k:=1) (Good:=VLok w) dE (fun _=>rfl) Tryz.underlying47 Zajt Zajo dE (fun h hw=>open_VL h hw) h hw;obtain⟨p,c,rfl,hh⟩:=Zyo (k:=1) (f:=vlC) dE (fun _=>rfl) hr;refine⟨l.map VL.l,⟨p,c,sM,?_⟩,⟨sO,?_,?_⟩⟩
 ·rcases hh with rfl|⟨b,o,hp,hT,hb,hc⟩
  ·exact .inl rfl
  ·refine .inr ⟨b,o,hp,hT,hb,fun i hi=>?_⟩;have hi':i<l.length:=by simpa using hi
   refine⟨(l[i]).v,?_,?_⟩
   ·have:=(hc i hi').at 0 rfl;simpa using this
   ·simpa using(hg l[i] (List.getElem_mem hi')).1
 ·intro y hy;obtain⟨a,ha,rfl⟩:=List.mem_map.1 hy;exact(hg a ha).2.1
 ·intro y hy z hz;obtain⟨a,ha,rfl⟩:=List.mem_map.1 hy;exact(hg a ha).2.2 z hz
theorem open_St{fuel:Nat}{cs:List Value}{x:DataW H×List MemPlace}(h:DataW.trod enc Tryz.prog w base (fun _=>true) held fuel 51 cs=some x)(hw:∀n∈x.1.weights Tryz.prog 51,n<=reachBytes):∃s:St,cs=stC s/\StOk w s:=by
 obtain⟨xs,n,hfn,hx,hl,hxl,hf⟩:=DataW.trod_struct Tryz.underlying51 h;rw[Zul]at hl
 match cs,hl with
 |[v0,v1],_=>
 match xs,hxl with
 |[y0,y1],_=>
  have e0:DataW.trod enc Tryz.prog w base (fun _=>true) held n 47 [v0]=some y0:=hf 0 _ rfl;have e1:DataW.trod enc Tryz.prog w base (fun _=>true) held n 47 [v1]=some y1:=hf 1 _ rfl;subst hx;have hws:∀ (j:Nat) (t:TypeId) (d:DataW H),[47,47][j]? =some t->[y0.1,y1.1][j]? =some d->∀n∈d.weights Tryz.prog t,n<=reachBytes:=fun j t d ht hd n hn=>by
   refine hw n ?_;show n∈DataW.weights Tryz.prog 51 (.agg [y0.1,y1.1]);rw[DataW.weights,Tryz.underlying51];exact DataW.weights_mem_each (ts:=[47,47]) ht hd n hn
  obtain⟨G,g1,g2⟩:=Zacq e0 (hws 0 _ _ rfl rfl);obtain⟨P,p1,p2⟩:=Zacq e1 (hws 1 _ _ rfl rfl);exact⟨⟨v0,v1,G,P⟩,rfl,g1,p1,g2,p2⟩
theorem Zagv{fuel:Nat}{cs:List Value}{x:DataW H×List MemPlace}(h:DataW.trod enc Tryz.prog w base (fun _=>true) held fuel 27 cs=some x)(hw:∀n∈x.1.weights Tryz.prog 27,n<=reachBytes):
 ∃ (v0 v1 v2 v3:Value) (c:Cd),cs=[v0,v1,v2,v3]/\CdV w v0 v1 v2 v3 c/\CdOk c/\CdSz c:=by
 obtain⟨xs,n,hfn,hx,hl,hxl,hf⟩:=DataW.trod_struct Tryz.underlying27 h;rw[Zaio]at hl
 match cs,hl with
 |[v0,v1,v2,v3],_=>
 match xs,hxl with
 |[y0,y1,y2,y3],_=>
  have e0:DataW.trod enc Tryz.prog w base (fun _=>true) held n 22 [v0]=some y0:=hf 0 _ rfl;have e1:DataW.trod enc Tryz.prog w base (fun _=>true) held n 23 [v1]=some y1:=hf 1 _ rfl;have e2:DataW.trod enc Tryz.prog w base (fun _=>true) held n 24 [v2]=some y2:=hf 2 _ rfl;have e3:DataW.trod enc Tryz.prog w base (fun _=>true) held n 25 [v3]=some y3:=hf 3 _ rfl;subst hx;have hws:∀ (j:Nat) (t:TypeId) (d:DataW H),[22,23,24,25][j]? =some t->[y0.1,y1.1,y2.1,y3.1][j]? =some d->∀n∈d.weights Tryz.prog t,n<=reachBytes:=fun j t d' ht hd' n hn=>by
   refine hw n ?_;show n∈DataW.weights Tryz.prog 27 (.agg [y0.1,y1.1,y2.1,y3.1]);rw[DataW.weights,Tryz.underlying27];exact DataW.weights_mem_each (ts:=[22,23,24,25]) ht hd' n hn
  obtain⟨l0,r0,s0,g0⟩:=Zmu (Good:=fun p:Par=>p.name.size<=140737488351232) dE Zst Tryz.underlying22 Zut Zadu dE (fun h hw=>Zapb h hw) e0 (hws 0 _ _ rfl rfl);obtain⟨l1,r1,s1,g1⟩:=Zmu (Good:=fun _:Ty=>True) dE Zrs Tryz.underlying23 Zwu Zahu dE (fun h _=>Zaee h) e1 (hws 1 _ _ rfl rfl);obtain⟨l2,r2,s2,g2⟩:=Zmu (Good:=SlOk) dE Zue Tryz.underlying24 Zvr Zahe dE (fun h _=>open_Sl h) e2 (hws 2 _ _ rfl rfl);obtain⟨l3,r3,s3,g3⟩:=Zmu (Good:=InsOk) dE Zqe Tryz.underlying25 Zvp Zahl dE (fun h _=>Zaox h) e3 (hws 3 _ _ rfl rfl);exact⟨v0,v1,v2,v3,⟨l0,l1,l2,l3⟩,rfl,⟨r0,r1,r2,r3⟩,⟨by show l0.length<=_;omega,g0,by show l1.length<=_;omega,by show l2.length<=_;omega,by show l3.length<=_;omega,g2,g3⟩,⟨s0,s1,s2,s3⟩⟩
theorem Zakp{r:Reach}{b0:Nat}{v:Value}{d:DataW H}{pl:List MemPlace}(hv:Value.okWide Tryz.prog w r b0 30 v)(h:DataW.Trod enc Tryz.prog w base (fun _=>true) held 30 v d pl)(hw:∀n∈d.weights Tryz.prog 30,n<=reachBytes):
 ∃ (v0 v1 v2 v3 v4:Value) (c:Cd) (l:List St),v=.agg #[v0,v1,v2,v3,v4]/\CdV w v0 v1 v2 v3 c/\CdOk c/\CdSz c/\RowG 2 stC w v4 l/\l.length<=140737488351232/\∀s∈l,StOk w s:=by
 obtain⟨cs,rfl,hsz⟩:=okWide_struct Tryz.underlying30 hv;obtain⟨fuel,hf0⟩:=h;obtain⟨xs,n,hfn,hx,hl,hxl,hf⟩:=DataW.trod_struct Tryz.underlying30 hf0;rw[Zadk]at hl;obtain⟨cl,hcl⟩:∃cl,(Value.agg cs).cells.toList=cl:=⟨_,rfl⟩
 rw[hcl]at hl hf;have hcs:cs.toList=cl:=by rw[←hcl];simp[Value.cells]
 match cl,hl with
 |[v0,v1,v2,v3,v4],_=>
 match xs,hxl with
 |[y0,y1],_=>
  have e0:DataW.trod enc Tryz.prog w base (fun _=>true) held n 27 [v0,v1,v2,v3]=some y0:=hf 0 _ rfl;have e1:DataW.trod enc Tryz.prog w base (fun _=>true) held n 28 [v4]=some y1:=hf 1 _ rfl;have hd:d=.agg [y0.1,y1.1]:=congrArg Prod.fst hx;have hws:∀ (j:Nat) (t:TypeId) (d:DataW H),[27,28][j]? =some t->[y0.1,y1.1][j]? =some d->∀n∈d.weights Tryz.prog t,n<=reachBytes:=fun j t d' ht hd' n hn=>by
   refine hw n ?_;rw[hd];show n∈DataW.weights Tryz.prog 30 (.agg [y0.1,y1.1]);rw[DataW.weights,Tryz.underlying30];exact DataW.weights_mem_each (ts:=[27,28]) ht hd' n hn
  obtain⟨a0,a1,a2,a3,c,he,h1,h2,h3⟩:=Zagv e0 (hws 0 _ _ rfl rfl);obtain⟨l,g1,g2,g3⟩:=Zmu (f:=stC) (k:=2) (Good:=StOk w) dE (fun _=>rfl) Tryz.underlying28 Zul Zadl dE (fun h hw=>open_St h hw) e1 (hws 1 _ _ rfl rfl);simp only[List.cons.injEq,and_true]at he;obtain⟨rfl,rfl,rfl,rfl⟩:=he;refine⟨v0,v1,v2,v3,v4,c,l,?_,h1,h2,h3,g1,oM,g3⟩;rw[Value.agg.injEq];apply Array.toList_inj.1;exact hcs
end
end Go.Proofs.YtbinohkcolcbfaaGreat
