import Derived.Test.YtpoklpdgpcnkgaaGreatMns9
import Derived.Test.YtpoklpdgpcnkgaaGreatMns17
import Derived.Test.YtpoklpdgpcnkgaaGreatMns1
namespace Go.Proofs.YtpoklpdgpcnkgaaGreat
open Go.RowKit Go.Proofs.Tryz
set_option linter.all false
set_option maxRecDepth 100000
set_option maxHeartbeats 16000000
section
open Go.ChangeShapes Go.WideShapes Go.ChangeAt Go.RowKit
theorem VG:Tryz.prog.cellsOf 43=1:=kR
theorem Tq:Tryz.prog.cellsOf 70=1:=kR
theorem VF:Tryz.prog.bytesOf 43=4:=kR
theorem Tp:Tryz.prog.bytesOf 70=24:=kR
structure St where
 gv:Value
 pv:Value
 G:List (List Int)
 P:List (List Int)
def XG(s:St):List Value:=[s.gv,s.pv]
structure VL where
 v:Value
 l:List Int
def vlC(x:VL):List Value:=[x.v]
instance:Inhabited St:=⟨⟨.slice none 0 0,.slice none 0 0,[],[]⟩⟩
instance:Inhabited VL:=⟨⟨.slice none 0 0,[]⟩⟩
def UQ(w:World):Nat->Prop:=fun b=>w.heap.size<=b
def VLok(w:World)(x:VL):Prop:=Pt (UQ w) w x.v x.l/\x.l.length<=140737488351232/\∀y∈x.l,AA y
def Sz(w:World)(s:St):Prop:=Fc (UQ w) w s.gv s.G/\Fc (UQ w) w s.pv s.P/\Ey s.G/\Ey s.P
theorem Ml{α:Type}{k:Nat}{f:α->List Value}{w:World}{v:Value}{l:List α}(hk:0<k)(hf:∀x,(f x).length=k)(h:AU k f w v l):Eh (UQ w) k f w v l:=by
 obtain⟨p,c,e,h⟩:=h;by_cases h0:l=[]
 .exact⟨p,c,e,.inl h0⟩
 .rcases h with h|⟨b,o,hp,hc⟩
  .exact absurd h h0
  .have hl:0<l.length:=List.length_pos_iff.2 h0;have hb:b<w.heap.size:=by
    have h1:=hc 0 hl;have h2:0<(f l[0]).length:=by rw[hf];exact hk
    exact A6 (h1 0 h2)
   exact⟨p,c,e,.inr ⟨b,o,hp,Nat.not_le.2 hb,hb,hc⟩⟩
section
variable {H : Type} {enc : TypeId × Value -> H} {w : World} {base : Nat} {held : Bool}
theorem Zm{fuel:Nat}{cs:List Value}{x:DataW H×List MemPlace}(h:DataW.trod enc Tryz.prog w base (fun _=>true) held fuel 43 cs=some x):∃a:Int,cs=ptC a/\AA a:=by
 obtain⟨a,c,-,w0⟩:=DataW.trod_int Tryz.underlying43 h;exact⟨a,c,(bounds_u32 w0).1,Int.lt_add_one_of_le (bounds_u32 w0).2⟩
theorem Zo{fuel:Nat}{cs:List Value}{x:DataW H×List MemPlace}(h:DataW.trod enc Tryz.prog w base (fun _=>true) held fuel 70 cs=some x)(hw:∀n∈x.1.weights Tryz.prog 70,n<=reachBytes):∃a:VL,cs=vlC a/\VLok w a:=by
 obtain⟨v,rfl⟩:∃v,cs=[v]:=by
  rcases DataW.trod_slice Tryz.underlying70 h with⟨hcs,_⟩|⟨a,len,cap,elems,rest,m,hm,hcs,_⟩
  .exact⟨_,hcs⟩
  .exact⟨_,hcs⟩
 obtain⟨l,hr,hlen,hg⟩:=DR (f:=ptC) (k:=1) (Good:=AA) dE (fun _=>rfl) Tryz.underlying70 VG VF dE (fun h _=>Zm h) h hw;exact⟨⟨v,l⟩,rfl,Ml dE (fun _=>rfl) hr,by show l.length<=_;omega,hg⟩
theorem OD{fuel:Nat}{v:Value}{x:DataW H×List MemPlace}(h:DataW.trod enc Tryz.prog w base (fun _=>true) held fuel 71 [v]=some x)(hw:∀n∈x.1.weights Tryz.prog 71,n<=reachBytes):∃L,Fc (UQ w) w v L/\Ey L:=by
 obtain⟨l,hr,hlen,hg⟩:=DR (f:=vlC) (k:=1) (Good:=VLok w) dE (fun _=>rfl) Tryz.underlying71 Tq Tp dE (fun h hw=>Zo h hw) h hw;obtain⟨p,c,rfl,hh⟩:=Ml (k:=1) (f:=vlC) dE (fun _=>rfl) hr;refine⟨l.map VL.l,⟨p,c,sM,?_⟩,⟨sO,?_,?_⟩⟩
 .rcases hh with rfl|⟨b,o,hp,hT,hb,hc⟩
  .exact .inl rfl
  .refine .inr ⟨b,o,hp,hT,hb,fun i hi=>?_⟩;have hi':i<l.length:=by simpa using hi
   refine⟨(l[i]).v,?_,?_⟩
   .have:=(hc i hi').at 0 rfl;simpa using this
   .simpa using(hg l[i] (gD hi')).1
 .intro y hy;obtain⟨a,ha,rfl⟩:=List.mem_map.1 hy;exact(hg a ha).2.1
 .intro y hy z hz;obtain⟨a,ha,rfl⟩:=List.mem_map.1 hy;exact(hg a ha).2.2 z hz
end
end
section
open Go.ChangeShapes Go.WideShapes Go.ChangeAt Go.RowKit
section
variable {H : Type} {enc : TypeId × Value -> H} {w : World} {base : Nat} {held : Bool}
theorem Hv:Tryz.prog.cellsOf 73=2:=kR
theorem Nc:Tryz.prog.bytesOf 73=48:=kR
theorem Wb{fuel:Nat}{cs:List Value}{x:DataW H×List MemPlace}(h:DataW.trod enc Tryz.prog w base (fun _=>true) held fuel 73 cs=some x)(hw:∀n∈x.1.weights Tryz.prog 73,n<=reachBytes):∃s:St,cs=XG s/\Sz w s:=by
 obtain⟨xs,n,hfn,hx,hl,hxl,hf⟩:=DataW.trod_struct Tryz.underlying73 h;rw[Hv]at hl
 match cs,hl with
 |[v0,v1],_=>
 match xs,hxl with
 |[y0,y1],_=>
  have e0:DataW.trod enc Tryz.prog w base (fun _=>true) held n 71 [v0]=some y0:=hf 0 _ rfl;have e1:DataW.trod enc Tryz.prog w base (fun _=>true) held n 71 [v1]=some y1:=hf 1 _ rfl;subst hx;have hws:∀ (j:Nat) (t:TypeId) (d:DataW H),[71,71][j]? =some t->[y0.1,y1.1][j]? =some d->∀n∈d.weights Tryz.prog t,n<=reachBytes:=fun j t d ht hd n hn=>by
   refine hw n ?_;show n∈DataW.weights Tryz.prog 73 (.agg [y0.1,y1.1]);rw[DataW.weights,Tryz.underlying73];exact DataW.weights_mem_each (ts:=[71,71]) ht hd n hn
  obtain⟨G,g1,g2⟩:=OD e0 (hws 0 _ _ rfl rfl);obtain⟨P,p1,p2⟩:=OD e1 (hws 1 _ _ rfl rfl);exact⟨⟨v0,v1,G,P⟩,rfl,g1,p1,g2,p2⟩
theorem OC{r:Reach}{b0:Nat}{v:Value}{d:DataW H}{pl:List MemPlace}(hv:Value.okWide Tryz.prog w r b0 38 v)(h:DataW.Trod enc Tryz.prog w base (fun _=>true) held 38 v d pl)(hw:∀n∈d.weights Tryz.prog 38,n<=reachBytes):
 ∃l:List St,AU 2 XG w v l/\l.length<=140737488351232/\∀s∈l,Sz w s:=by
 obtain⟨p,n,c,rfl⟩:=okWide_slice Tryz.underlying38 hv;obtain⟨fuel,hf0⟩:=h;obtain⟨l,g1,g2,g3⟩:=DR (f:=XG) (k:=2) (Good:=Sz w) dE (fun _=>rfl) Tryz.underlying38 Hv Nc dE (fun h hw=>Wb h hw) (v:=.slice p n c) (x:=(d,pl)) hf0 hw;exact⟨l,g1,oM,g3⟩
end
end
end Go.Proofs.YtpoklpdgpcnkgaaGreat
