import Derived.Test.YtjglaibglofddaaGreatSpe13
import Derived.Test.YtjglaibglofddaaGreatSpe21
import Derived.Test.YtjglaibglofddaaGreatSpe1
namespace Go.Proofs.YtjglaibglofddaaGreat
open Go.RowKit Go.Proofs.Tryz
set_option linter.all false
set_option maxRecDepth 100000
set_option maxHeartbeats 16000000
section
open Go.ChangeShapes Go.WideShapes Go.ChangeAt Go.RowKit
theorem Qv:Tryz.prog.cellsOf 53=1:=kR
theorem OJ:Tryz.prog.cellsOf 96=1:=kR
theorem Qu:Tryz.prog.bytesOf 53=4:=kR
theorem OI:Tryz.prog.bytesOf 96=24:=kR
structure St where
 gv:Value
 pv:Value
 G:List (List Int)
 P:List (List Int)
def WP(s:St):List Value:=[s.gv,s.pv]
structure VL where
 v:Value
 l:List Int
def Y3(x:VL):List Value:=[x.v]
instance:Inhabited St:=⟨⟨.slice none 0 0,.slice none 0 0,[],[]⟩⟩
instance:Inhabited VL:=⟨⟨.slice none 0 0,[]⟩⟩
def PU(w:World):Nat->Prop:=fun b=>w.heap.size<=b
def We(w:World)(x:VL):Prop:=Pt (PU w) w x.v x.l/\x.l.length<=140737488351232/\∀y∈x.l,Ar y
def SI(w:World)(s:St):Prop:=Fe (PU w) w s.gv s.G/\Fe (PU w) w s.pv s.P/\GJ s.G/\GJ s.P
theorem IV{α:Type}{k:Nat}{f:α->List Value}{w:World}{v:Value}{l:List α}(hk:0<k)(hf:∀x,(f x).length=k)(h:Bj k f w v l):F6 (PU w) k f w v l:=by
 obtain⟨p,c,e,h⟩:=h;by_cases h0:l=[]
 .exact⟨p,c,e,.inl h0⟩
 .rcases h with h|⟨b,o,hp,hc⟩
  .exact absurd h h0
  .have hl:0<l.length:=List.length_pos_iff.2 h0;have hb:b<w.heap.size:=by
    have h1:=hc 0 hl;have h2:0<(f l[0]).length:=by rw[hf];exact hk
    exact A3 (h1 0 h2)
   exact⟨p,c,e,.inr ⟨b,o,hp,Nat.not_le.2 hb,hb,hc⟩⟩
section
variable {H : Type} {enc : TypeId × Value -> H} {w : World} {base : Nat} {held : Bool}
theorem TU{fuel:Nat}{cs:List Value}{x:DataW H×List MemPlace}(h:DataW.trod enc Tryz.prog w base (fun _=>true) held fuel 53 cs=some x):∃a:Int,cs=Xm a/\Ar a:=by
 obtain⟨a,c,-,w0⟩:=DataW.trod_int Tryz.underlying53 h;exact⟨a,c,(bounds_u32 w0).1,Int.lt_add_one_of_le (bounds_u32 w0).2⟩
theorem TX{fuel:Nat}{cs:List Value}{x:DataW H×List MemPlace}(h:DataW.trod enc Tryz.prog w base (fun _=>true) held fuel 96 cs=some x)(hw:∀n∈x.1.weights Tryz.prog 96,n<=reachBytes):∃a:VL,cs=Y3 a/\We w a:=by
 obtain⟨v,rfl⟩:∃v,cs=[v]:=by
  rcases DataW.trod_slice Tryz.underlying96 h with⟨hcs,_⟩|⟨a,len,cap,elems,rest,m,hm,hcs,_⟩
  .exact⟨_,hcs⟩
  .exact⟨_,hcs⟩
 obtain⟨l,hr,hlen,hg⟩:=Co (f:=Xm) (k:=1) (Good:=Ar) dE (fun _=>rfl) Tryz.underlying96 Qv Qu dE (fun h _=>TU h) h hw;exact⟨⟨v,l⟩,rfl,IV dE (fun _=>rfl) hr,by show l.length<=_;omega,hg⟩
theorem Kp{fuel:Nat}{v:Value}{x:DataW H×List MemPlace}(h:DataW.trod enc Tryz.prog w base (fun _=>true) held fuel 39 [v]=some x)(hw:∀n∈x.1.weights Tryz.prog 39,n<=reachBytes):∃L,Fe (PU w) w v L/\GJ L:=by
 obtain⟨l,hr,hlen,hg⟩:=Co (f:=Y3) (k:=1) (Good:=We w) dE (fun _=>rfl) Tryz.underlying39 OJ OI dE (fun h hw=>TX h hw) h hw;obtain⟨p,c,rfl,hh⟩:=IV (k:=1) (f:=Y3) dE (fun _=>rfl) hr;refine⟨l.map VL.l,⟨p,c,sM,?_⟩,⟨sO,?_,?_⟩⟩
 .rcases hh with rfl|⟨b,o,hp,hT,hb,hc⟩
  .exact .inl rfl
  .refine .inr ⟨b,o,hp,hT,hb,fun i hi=>?_⟩;have hi':i<l.length:=by simpa using hi
   refine⟨(l[i]).v,?_,?_⟩
   .have:=(hc i hi').at 0 rfl;simpa using this
   .simpa using(hg l[i] (gD hi')).1
 .intro y hy;obtain⟨a,ha,rfl⟩:=List.mem_map.1 hy;exact(hg a ha).2.1
 .intro y hy z hz;obtain⟨a,ha,rfl⟩:=List.mem_map.1 hy;exact(hg a ha).2.2 z hz
end
end
section
open Go.ChangeShapes Go.WideShapes Go.ChangeAt Go.RowKit
section
variable {H : Type} {enc : TypeId × Value -> H} {w : World} {base : Nat} {held : Bool}
theorem FC:Tryz.prog.cellsOf 43=2:=kR
theorem Jj:Tryz.prog.bytesOf 43=48:=kR
theorem QN{fuel:Nat}{cs:List Value}{x:DataW H×List MemPlace}(h:DataW.trod enc Tryz.prog w base (fun _=>true) held fuel 43 cs=some x)(hw:∀n∈x.1.weights Tryz.prog 43,n<=reachBytes):∃s:St,cs=WP s/\SI w s:=by
 obtain⟨xs,n,hfn,hx,hl,hxl,hf⟩:=DataW.trod_struct Tryz.underlying43 h;rw[FC]at hl
 match cs,hl with
 |[v0,v1],_=>
 match xs,hxl with
 |[y0,y1],_=>
  have e0:DataW.trod enc Tryz.prog w base (fun _=>true) held n 39 [v0]=some y0:=hf 0 _ rfl;have e1:DataW.trod enc Tryz.prog w base (fun _=>true) held n 39 [v1]=some y1:=hf 1 _ rfl;subst hx;have hws:∀ (j:Nat) (t:TypeId) (d:DataW H),[39,39][j]? =some t->[y0.1,y1.1][j]? =some d->∀n∈d.weights Tryz.prog t,n<=reachBytes:=fun j t d ht hd n hn=>by
   refine hw n ?_;show n∈DataW.weights Tryz.prog 43 (.agg [y0.1,y1.1]);rw[DataW.weights,Tryz.underlying43];exact DataW.weights_mem_each (ts:=[39,39]) ht hd n hn
  obtain⟨G,g1,g2⟩:=Kp e0 (hws 0 _ _ rfl rfl);obtain⟨P,p1,p2⟩:=Kp e1 (hws 1 _ _ rfl rfl);exact⟨⟨v0,v1,G,P⟩,rfl,g1,p1,g2,p2⟩
theorem Ko{r:Reach}{b0:Nat}{v:Value}{d:DataW H}{pl:List MemPlace}(hv:Value.okWide Tryz.prog w r b0 28 v)(h:DataW.Trod enc Tryz.prog w base (fun _=>true) held 28 v d pl)(hw:∀n∈d.weights Tryz.prog 28,n<=reachBytes):
 ∃l:List St,Bj 2 WP w v l/\l.length<=140737488351232/\∀s∈l,SI w s:=by
 obtain⟨p,n,c,rfl⟩:=okWide_slice Tryz.underlying28 hv;obtain⟨fuel,hf0⟩:=h;obtain⟨l,g1,g2,g3⟩:=Co (f:=WP) (k:=2) (Good:=SI w) dE (fun _=>rfl) Tryz.underlying28 FC Jj dE (fun h hw=>QN h hw) (v:=.slice p n c) (x:=(d,pl)) hf0 hw;exact⟨l,g1,oM,g3⟩
end
end
end Go.Proofs.YtjglaibglofddaaGreat
