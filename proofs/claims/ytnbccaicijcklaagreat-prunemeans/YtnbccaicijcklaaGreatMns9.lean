import Derived.Test.YtnbccaicijcklaaGreatMns5
import Derived.Test.YtnbccaicijcklaaGreatMns7
import Derived.Test.YtnbccaicijcklaaGreatMns1
namespace Go.Proofs.YtnbccaicijcklaaGreat
open Go.RowKit Go.Proofs.Tryz
set_option linter.all false
set_option maxRecDepth 100000
set_option maxHeartbeats 16000000
section
open Go.ChangeShapes Go.WideShapes Go.ChangeAt Go.RowKit
theorem Vu:Tryz.prog.cellsOf 38=1:=kR
theorem Td:Tryz.prog.cellsOf 78=1:=kR
theorem Vt:Tryz.prog.bytesOf 38=4:=kR
theorem Ta:Tryz.prog.bytesOf 78=24:=kR
structure St where
 gv:Value
 pv:Value
 G:List (List Int)
 P:List (List Int)
def stC(s:St):List Value:=[s.gv,s.pv]
structure VL where
 v:Value
 l:List Int
def vlC(x:VL):List Value:=[x.v]
instance:Inhabited St:=⟨⟨.slice none 0 0,.slice none 0 0,[],[]⟩⟩
instance:Inhabited VL:=⟨⟨.slice none 0 0,[]⟩⟩
def UJ(w:World):Nat->Prop:=fun b=>w.heap.size<=b
def VLok(w:World)(x:VL):Prop:=Pt (UJ w) w x.v x.l/\x.l.length<=140737488351232/\∀y∈x.l,AH y
def Yo(w:World)(s:St):Prop:=F7 (UJ w) w s.gv s.G/\F7 (UJ w) w s.pv s.P/\FI s.G/\FI s.P
theorem M6{α:Type}{k:Nat}{f:α->List Value}{w:World}{v:Value}{l:List α}(hk:0<k)(hf:∀x,(f x).length=k)(h:AV k f w v l):F6 (UJ w) k f w v l:=by
 obtain⟨p,c,e,h⟩:=h;by_cases h0:l=[]
 .exact⟨p,c,e,.inl h0⟩
 .rcases h with h|⟨b,o,hp,hc⟩
  .exact absurd h h0
  .have hl:0<l.length:=List.length_pos_iff.2 h0;have hb:b<w.heap.size:=by
    have h1:=hc 0 hl;have h2:0<(f l[0]).length:=by rw[hf];exact hk
    exact A8 (h1 0 h2)
   exact⟨p,c,e,.inr ⟨b,o,hp,Nat.not_le.2 hb,hb,hc⟩⟩
section
variable {H : Type} {enc : TypeId × Value -> H} {w : World} {base : Nat} {held : Bool}
theorem ZA{fuel:Nat}{cs:List Value}{x:DataW H×List MemPlace}(h:DataW.trod enc Tryz.prog w base (fun _=>true) held fuel 38 cs=some x):∃a:Int,cs=ptC a/\AH a:=by
 obtain⟨a,c,-,w0⟩:=DataW.trod_int Tryz.underlying38 h;exact⟨a,c,(bounds_u32 w0).1,Int.lt_add_one_of_le (bounds_u32 w0).2⟩
theorem ZC{fuel:Nat}{cs:List Value}{x:DataW H×List MemPlace}(h:DataW.trod enc Tryz.prog w base (fun _=>true) held fuel 78 cs=some x)(hw:∀n∈x.1.weights Tryz.prog 78,n<=reachBytes):∃a:VL,cs=vlC a/\VLok w a:=by
 obtain⟨v,rfl⟩:∃v,cs=[v]:=by
  rcases DataW.trod_slice Tryz.underlying78 h with⟨hcs,_⟩|⟨a,len,cap,elems,rest,m,hm,hcs,_⟩
  .exact⟨_,hcs⟩
  .exact⟨_,hcs⟩
 obtain⟨l,hr,hlen,hg⟩:=Dq (f:=ptC) (k:=1) (Good:=AH) dE (fun _=>rfl) Tryz.underlying78 Vu Vt dE (fun h _=>ZA h) h hw;exact⟨⟨v,l⟩,rfl,M6 dE (fun _=>rfl) hr,by show l.length<=_;omega,hg⟩
theorem O8{fuel:Nat}{v:Value}{x:DataW H×List MemPlace}(h:DataW.trod enc Tryz.prog w base (fun _=>true) held fuel 46 [v]=some x)(hw:∀n∈x.1.weights Tryz.prog 46,n<=reachBytes):∃L,F7 (UJ w) w v L/\FI L:=by
 obtain⟨l,hr,hlen,hg⟩:=Dq (f:=vlC) (k:=1) (Good:=VLok w) dE (fun _=>rfl) Tryz.underlying46 Td Ta dE (fun h hw=>ZC h hw) h hw;obtain⟨p,c,rfl,hh⟩:=M6 (k:=1) (f:=vlC) dE (fun _=>rfl) hr;refine⟨l.map VL.l,⟨p,c,sM,?_⟩,⟨sO,?_,?_⟩⟩
 .rcases hh with rfl|⟨b,o,hp,hT,hb,hc⟩
  .exact .inl rfl
  .refine .inr ⟨b,o,hp,hT,hb,fun i hi=>?_⟩;have hi':i<l.length:=by simpa using hi
   refine⟨(l[i]).v,?_,?_⟩
   .have:=(hc i hi').at 0 rfl;simpa using this
   .simpa using(hg l[i] (gD hi')).1
 .intro y hy;obtain⟨a,ha,rfl⟩:=List.mem_map.1 hy;exact(hg a ha).2.1
 .intro y hy z hz;obtain⟨a,ha,rfl⟩:=List.mem_map.1 hy;exact(hg a ha).2.2 z hz
end
end
section
open Go.ChangeShapes Go.WideShapes Go.ChangeAt Go.RowKit
section
variable {H : Type} {enc : TypeId × Value -> H} {w : World} {base : Nat} {held : Bool}
theorem Hc:Tryz.prog.cellsOf 50=2:=kR
theorem Mz:Tryz.prog.bytesOf 50=48:=kR
theorem VY{fuel:Nat}{cs:List Value}{x:DataW H×List MemPlace}(h:DataW.trod enc Tryz.prog w base (fun _=>true) held fuel 50 cs=some x)(hw:∀n∈x.1.weights Tryz.prog 50,n<=reachBytes):∃s:St,cs=stC s/\Yo w s:=by
 obtain⟨xs,n,hfn,hx,hl,hxl,hf⟩:=DataW.trod_struct Tryz.underlying50 h;rw[Hc]at hl
 match cs,hl with
 |[v0,v1],_=>
 match xs,hxl with
 |[y0,y1],_=>
  have e0:DataW.trod enc Tryz.prog w base (fun _=>true) held n 46 [v0]=some y0:=hf 0 _ rfl;have e1:DataW.trod enc Tryz.prog w base (fun _=>true) held n 46 [v1]=some y1:=hf 1 _ rfl;subst hx;have hws:∀ (j:Nat) (t:TypeId) (d:DataW H),[46,46][j]? =some t->[y0.1,y1.1][j]? =some d->∀n∈d.weights Tryz.prog t,n<=reachBytes:=fun j t d ht hd n hn=>by
   refine hw n ?_;show n∈DataW.weights Tryz.prog 50 (.agg [y0.1,y1.1]);rw[DataW.weights,Tryz.underlying50];exact DataW.weights_mem_each (ts:=[46,46]) ht hd n hn
  obtain⟨G,g1,g2⟩:=O8 e0 (hws 0 _ _ rfl rfl);obtain⟨P,p1,p2⟩:=O8 e1 (hws 1 _ _ rfl rfl);exact⟨⟨v0,v1,G,P⟩,rfl,g1,p1,g2,p2⟩
theorem O7{r:Reach}{b0:Nat}{v:Value}{d:DataW H}{pl:List MemPlace}(hv:Value.okWide Tryz.prog w r b0 28 v)(h:DataW.Trod enc Tryz.prog w base (fun _=>true) held 28 v d pl)(hw:∀n∈d.weights Tryz.prog 28,n<=reachBytes):
 ∃l:List St,AV 2 stC w v l/\l.length<=140737488351232/\∀s∈l,Yo w s:=by
 obtain⟨p,n,c,rfl⟩:=okWide_slice Tryz.underlying28 hv;obtain⟨fuel,hf0⟩:=h;obtain⟨l,g1,g2,g3⟩:=Dq (f:=stC) (k:=2) (Good:=Yo w) dE (fun _=>rfl) Tryz.underlying28 Hc Mz dE (fun h hw=>VY h hw) (v:=.slice p n c) (x:=(d,pl)) hf0 hw;exact⟨l,g1,oM,g3⟩
end
end
end Go.Proofs.YtnbccaicijcklaaGreat
