import Derived.Test.YtbinohkcolcbfaaGreatPart7
import Derived.Test.YtbinohkcolcbfaaGreatRows
import Derived.WalkKit
import Derived.ProofKit
import Derived.OpenShut
import Derived.JoinedCond
import Derived.Deep.Slices
import Derived.Deep.Strs
import Derived.SizedLaws
import Derived.Test.YtbinohkcolcbfaaGreatPart23
import Derived.Test.YtbinohkcolcbfaaGreatPart34
import Derived.Test.YtbinohkcolcbfaaGreatPart1
import Derived.Test.YtbinohkcolcbfaaGreatPart24
set_option maxRecDepth 100000
set_option maxHeartbeats 16000000
namespace Go.Proofs.YtbinohkcolcbfaaGreat
open Go.Proofs.Tryz
open Go.ChangeShapes Go.WideShapes Go.ChangeAt Go.RowKit
set_option linter.unusedVariables false
set_option maxRecDepth 100000
theorem Zwx:Tryz.prog.cellsOf 45=7:=kR
theorem Zur:Tryz.prog.cellsOf 66=3:=kR
theorem Zvx:Tryz.prog.cellsOf 69=2:=kR
theorem Zvy:Tryz.prog.cellsOf 72=5:=kR
theorem Zaik:Tryz.prog.cellsOf 27=4:=kR
theorem Zaja:Tryz.prog.bytesOf 45=56:=kR
theorem Zado:Tryz.prog.bytesOf 66=32:=kR
theorem Zahx:Tryz.prog.bytesOf 69=16:=kR
theorem Zagv:Tryz.prog.bytesOf 72=32:=kR
theorem Zrf{H:Type}{P:Program}{e:TypeId}:∀ {l:List (DataW H)} {d:DataW H},d∈l->∀n∈d.weights P e,n∈DataW.weightsAll P e l
 |[],d,h,n,hn=>by cases h
 |x::r,d,h,n,hn=>by
  simp only[DataW.weightsAll,List.mem_append];rcases List.mem_cons.1 h with rfl|h
  ·exact .inl hn
  ·exact .inr (Zrf h n hn)
section
variable {H : Type} {enc : TypeId × Value -> H} {w : World} {base : Nat} {held : Bool}
def InsOk(i:Ins):Prop:=0<=i.bits/\i.bits<4294967296
theorem Zape{fuel:Nat}{cs:List Value}{x:DataW H×List MemPlace}(h:DataW.trod enc Tryz.prog w base (fun _=>true) held fuel 45 cs=some x):∃i:Ins,cs=inC i/\InsOk i:=by
 obtain⟨xs,n,hfn,hx,hl,hxl,hf⟩:=DataW.trod_struct Tryz.underlying45 h;rw[Zwx]at hl
 match cs,hl with
 |[v0,v1,v2,v3,v4,v5,v6],_=>
 match xs,hxl with
 |[y0,y1,y2,y3,y4,y5,y6],_=>
  have e0:DataW.trod enc Tryz.prog w base (fun _=>true) held n 3 [v0]=some y0:=hf 0 _ rfl;have e1:DataW.trod enc Tryz.prog w base (fun _=>true) held n 3 [v1]=some y1:=hf 1 _ rfl;have e2:DataW.trod enc Tryz.prog w base (fun _=>true) held n 3 [v2]=some y2:=hf 2 _ rfl;have e3:DataW.trod enc Tryz.prog w base (fun _=>true) held n 3 [v3]=some y3:=hf 3 _ rfl;have e4:DataW.trod enc Tryz.prog w base (fun _=>true) held n 3 [v4]=some y4:=hf 4 _ rfl;have e5:DataW.trod enc Tryz.prog w base (fun _=>true) held n 3 [v5]=some y5:=hf 5 _ rfl;have e6:DataW.trod enc Tryz.prog w base (fun _=>true) held n 43 [v6]=some y6:=hf 6 _ rfl;obtain⟨a0,c0,-,w0⟩:=DataW.trod_int Tryz.underlying3 e0;obtain⟨a1,c1,-,w1⟩:=DataW.trod_int Tryz.underlying3 e1;obtain⟨a2,c2,-,w2⟩:=DataW.trod_int Tryz.underlying3 e2;obtain⟨a3,c3,-,w3⟩:=DataW.trod_int Tryz.underlying3 e3;obtain⟨a4,c4,-,w4⟩:=DataW.trod_int Tryz.underlying3 e4;obtain⟨a5,c5,-,w5⟩:=DataW.trod_int Tryz.underlying3 e5;obtain⟨a6,c6,-,w6⟩:=DataW.trod_int Tryz.underlying43 e6;simp only[List.cons.injEq,and_true]at c0 c1 c2 c3 c4 c5 c6;subst c0 c1 c2 c3 c4 c5 c6;exact⟨⟨a0,a1,a2,a3,a4,a5,a6⟩,rfl,(bounds_u32 w6).1,Int.lt_add_one_of_le (bounds_u32 w6).2⟩
theorem Zary{fuel:Nat}{cs:List Value}{x:DataW H×List MemPlace}(h:DataW.trod enc Tryz.prog w base (fun _=>true) held fuel 66 cs=some x)(hw:∀n∈x.1.weights Tryz.prog 66,n<=reachBytes):
 ∃p:Par,cs=Zjc p/\p.name.size<=140737488351232:=by
 obtain⟨xs,n,hfn,hx,hl,hxl,hf⟩:=DataW.trod_struct Tryz.underlying66 h;rw[Zur]at hl
 match cs,hl with
 |[v0,v1,v2],_=>
 match xs,hxl with
 |[y0,y1,y2],_=>
  have e0:DataW.trod enc Tryz.prog w base (fun _=>true) held n 9 [v0]=some y0:=hf 0 _ rfl;have e1:DataW.trod enc Tryz.prog w base (fun _=>true) held n 3 [v1]=some y1:=hf 1 _ rfl;have e2:DataW.trod enc Tryz.prog w base (fun _=>true) held n 3 [v2]=some y2:=hf 2 _ rfl;obtain⟨a0,c0,hd0,w0⟩:=DataW.trod_string Tryz.underlying9 e0;obtain⟨a1,c1,hd1,w1⟩:=DataW.trod_int Tryz.underlying3 e1;obtain⟨a2,c2,hd2,w2⟩:=DataW.trod_int Tryz.underlying3 e2;simp only[List.cons.injEq,and_true]at c0 c1 c2;subst c0 c1 c2;subst hx;have hws:∀ (j:Nat) (t:TypeId) (d:DataW H),[9,3,3][j]? =some t->[y0.1,y1.1,y2.1][j]? =some d->∀n∈d.weights Tryz.prog t,n<=reachBytes:=fun j t d ht hd n hn=>by
   refine hw n ?_;show n∈DataW.weights Tryz.prog 66 (.agg [y0.1,y1.1,y2.1]);rw[DataW.weights,Tryz.underlying66];exact DataW.weights_mem_each (ts:=[9,3,3]) ht hd n hn
  have s1:a0.size<=140737488351232:=by
   have:=hws 0 _ _ rfl rfl a0.data.toList.length (by rw[hd0];simp[DataW.weights]);simpa[reachBytes]using this
  exact⟨⟨a0,a1,a2⟩,rfl,s1⟩
theorem Zafq{fuel:Nat}{cs:List Value}{x:DataW H×List MemPlace}(h:DataW.trod enc Tryz.prog w base (fun _=>true) held fuel 69 cs=some x):∃t:Ty,cs=tyC t/\True:=by
 obtain⟨xs,n,hfn,hx,hl,hxl,hf⟩:=DataW.trod_struct Tryz.underlying69 h;rw[Zvx]at hl
 match cs,hl with
 |[v0,v1],_=>
 match xs,hxl with
 |[y0,y1],_=>
  have e0:DataW.trod enc Tryz.prog w base (fun _=>true) held n 3 [v0]=some y0:=hf 0 _ rfl;have e1:DataW.trod enc Tryz.prog w base (fun _=>true) held n 3 [v1]=some y1:=hf 1 _ rfl;obtain⟨a0,c0,-,w0⟩:=DataW.trod_int Tryz.underlying3 e0;obtain⟨a1,c1,-,w1⟩:=DataW.trod_int Tryz.underlying3 e1;simp only[List.cons.injEq,and_true]at c0 c1;subst c0 c1;exact⟨⟨a0,a1⟩,rfl,trivial⟩
def SlOk(s:Sl):Prop:=0<=s.bits/\s.bits<4294967296
theorem open_Sl{fuel:Nat}{cs:List Value}{x:DataW H×List MemPlace}(h:DataW.trod enc Tryz.prog w base (fun _=>true) held fuel 72 cs=some x):∃s:Sl,cs=slC s/\SlOk s:=by
 obtain⟨xs,n,hfn,hx,hl,hxl,hf⟩:=DataW.trod_struct Tryz.underlying72 h;rw[Zvy]at hl
 match cs,hl with
 |[v0,v1,v2,v3,v4],_=>
 match xs,hxl with
 |[y0,y1,y2,y3],_=>
  have e0:DataW.trod enc Tryz.prog w base (fun _=>true) held n 69 [v0,v1]=some y0:=hf 0 _ rfl;have e1:DataW.trod enc Tryz.prog w base (fun _=>true) held n 4 [v2]=some y1:=hf 1 _ rfl;have e2:DataW.trod enc Tryz.prog w base (fun _=>true) held n 43 [v3]=some y2:=hf 2 _ rfl;have e3:DataW.trod enc Tryz.prog w base (fun _=>true) held n 3 [v4]=some y3:=hf 3 _ rfl;obtain⟨t,ht,-⟩:=Zafq e0;obtain⟨a1,c1,-⟩:=DataW.trod_bool Tryz.underlying4 e1;obtain⟨a2,c2,-,w2⟩:=DataW.trod_int Tryz.underlying43 e2;obtain⟨a3,c3,-,w3⟩:=DataW.trod_int Tryz.underlying3 e3;obtain⟨K,P⟩:=t;simp only[tyC,List.cons.injEq,and_true]at ht c1 c2 c3;obtain⟨rfl,rfl⟩:=ht;subst c1 c2 c3;exact⟨⟨⟨K,P⟩,a1,a2,a3⟩,rfl,(bounds_u32 w2).1,Int.lt_add_one_of_le (bounds_u32 w2).2⟩
theorem Zmz{α:Type}[Inhabited α]{f:α->List Value}{k bytes:Nat}{t e:TypeId}{Good:α->Prop}(hk:0<k)(hf:∀x,(f x).length=k)(ht:Tryz.prog.underlying t=some (.slice e))(hce:Tryz.prog.cellsOf e=k)(hby:Tryz.prog.bytesOf e=bytes)(hb0:0<bytes)
 (hop:∀ {fuel:Nat} {cs:List Value} {x:DataW H×List MemPlace},DataW.trod enc Tryz.prog w base (fun _=>true) held fuel e cs=some x->(∀n∈x.1.weights Tryz.prog e,n<=reachBytes)->∃a:α,cs=f a/\Good a)
 {fuel:Nat} {v:Value} {x:DataW H×List MemPlace} (h:DataW.trod enc Tryz.prog w base (fun _=>true) held fuel t [v]=some x) (hw:∀n∈x.1.weights Tryz.prog t,n<=reachBytes):
 ∃l:List α,RowG k f w v l/\l.length*bytes<=140737488351232/\∀a∈l,Good a:=by
 rcases DataW.trod_slice ht h with⟨hcs,hx⟩|⟨a,len,cap,elems,rest,m,hm,hcs,hx,_,hl,_,hel,hread,_,_⟩
 ·simp only[List.cons.injEq,and_true]at hcs;subst hcs;exact⟨[],⟨none,0,rfl,.inl rfl⟩,sM,fun a h=>by cases h⟩
 ·simp only[List.cons.injEq,and_true]at hcs;subst hcs;subst hx;have key:∀i,i<len->∃q:α,(∀j,j<k->w.cell? (a.add (i*k+j))=(f q)[j]?)/\Good q:=by
   intro i hi;have h1:=hread i hi;rw[hce]at h1;have hie:i<elems.length:=oM;rw[List.getElem?_eq_getElem hie]at h1;obtain⟨cs',h2,h3⟩:=Option.bind_eq_some_iff.1 h1;obtain⟨_,hlen3,hcell⟩:=World.cells?_some h2;obtain⟨q,hcs,hok⟩:=hop h3 (fun n hn=>hw n (by
    rw[DataW.weights,ht]
    exact List.mem_cons_of_mem _ (List.mem_append_left _ (Zrf (List.mem_map.2 ⟨elems[i],List.getElem_mem hie,rfl⟩) n hn))))
   refine⟨q,fun j hj=>?_,hok⟩;have:=hcell j hj;rw[Go.Deep.add_add,hcs]at this;exact this
  obtain⟨g,hg⟩:=Go.Deep.choose_lt key;have hTl:((List.range len).map g).length=len:=sM;have hbig:len*bytes<=140737488351232:=by
   have:=hw _ (by rw[DataW.weights,ht];exact List.mem_cons_self);rw[hby]at this;simp only[List.length_map,reachBytes]at this;have hln:elems.length=len:=oM;simp only[hln]at this;exact Nat.le_trans (Nat.mul_le_mul_right _ (Nat.le_add_right _ _)) this
  refine⟨(List.range len).map g,?_,by rw[hTl];exact hbig,?_⟩
  ·refine⟨some a,cap,by rw[hTl],?_⟩;by_cases hl0:len=0
   ·left;simp[hl0]
   ·obtain⟨b,off,spot⟩:=a;have hne:0<(f (g 0)).length:=by rw[hf];exact hk
    have hspot:spot=none:=by
     have:=(hg 0 oM).1 0 hk;rw[List.getElem?_eq_getElem hne]at this;simpa[Addr.add]using World.cell?_spot this
    subst hspot;refine .inr ⟨b,off,rfl,fun i hi j hj=>?_⟩;have hi':i<len:=by rw[hTl]at hi;exact hi
    obtain⟨q,-⟩:=hg i hi';have e:((List.range len).map g)[i]=g i:=sM;have hj2:j<(f (g i)).length:=by simpa[e]using hj
    have hj3:j<k:=by rw[←hf (g i)];exact hj2
    have q':=q j hj3;rw[Zacx,←Nat.add_assoc]at q';rw[q',List.getElem?_eq_getElem hj2];congr 1;simp[e]
  ·intro q hq;obtain⟨i,hi,rfl⟩:=List.mem_map.1 hq;exact(hg i (List.mem_range.1 hi)).2
instance:Inhabited Ins:=⟨⟨0,0,0,0,0,0,0⟩⟩
instance:Inhabited Ty:=⟨⟨0,0⟩⟩
instance:Inhabited Sl:=⟨⟨⟨0,0⟩,false,0,0⟩⟩
instance:Inhabited Par:=⟨⟨⟨#[]⟩,0,0⟩⟩
end
end Go.Proofs.YtbinohkcolcbfaaGreat
set_option maxRecDepth 100000
set_option maxHeartbeats 16000000
namespace Go.Proofs.YtbinohkcolcbfaaGreat
open Go.Proofs.Tryz
open Go.ChangeShapes Go.WideShapes Go.ChangeAt Go.RowKit
set_option linter.unusedVariables false
set_option maxRecDepth 100000
theorem Zaob:Tryz.prog.cellsOf 43=1:=kR
theorem Zajh:Tryz.prog.cellsOf 57=1:=kR
theorem Zum:Tryz.prog.cellsOf 51=2:=kR
theorem Zadt:Tryz.prog.cellsOf 30=5:=kR
theorem Zarv:Tryz.prog.bytesOf 43=4:=kR
theorem Zajq:Tryz.prog.bytesOf 57=24:=kR
theorem Zadl:Tryz.prog.bytesOf 51=48:=kR
structure St where
 gv:Value
 pv:Value
 G:List (List Int)
 P:List (List Int)
def stC(s:St):List Value:=[s.gv,s.pv]
structure VL where
 v:Value
 l:List Int
def vlC(x:VL):List Value:=[x.v]
instance:Inhabited St:=⟨⟨.slice none 0 0,.slice none 0 0,[],[]⟩⟩
instance:Inhabited VL:=⟨⟨.slice none 0 0,[]⟩⟩
def High(w:World):Nat->Prop:=fun b=>w.heap.size<=b
def VLok(w:World)(x:VL):Prop:=Pt (High w) w x.v x.l/\x.l.length<=140737488351232/\∀y∈x.l,IsP y
def StOk(w:World)(s:St):Prop:=VsT (High w) w s.gv s.G/\VsT (High w) w s.pv s.P/\VsOk s.G/\VsOk s.P
theorem Zzi{α:Type}{k:Nat}{f:α->List Value}{w:World}{v:Value}{l:List α}(hk:0<k)(hf:∀x,(f x).length=k)(h:RowG k f w v l):RowT (High w) k f w v l:=by
 obtain⟨p,c,e,h⟩:=h;by_cases h0:l=[]
 ·exact⟨p,c,e,.inl h0⟩
 ·rcases h with h|⟨b,o,hp,hc⟩
  ·exact absurd h h0
  ·have hl:0<l.length:=List.length_pos_iff.2 h0;have hb:b<w.heap.size:=by
    have h1:=hc 0 hl;have h2:0<(f l[0]).length:=by rw[hf];exact hk
    exact Zhr (h1 0 h2)
   exact⟨p,c,e,.inr ⟨b,o,hp,Nat.not_le.2 hb,hb,hc⟩⟩
section
variable {H : Type} {enc : TypeId × Value -> H} {w : World} {base : Nat} {held : Bool}
theorem open_FP{fuel:Nat}{cs:List Value}{x:DataW H×List MemPlace}(h:DataW.trod enc Tryz.prog w base (fun _=>true) held fuel 43 cs=some x):∃a:Int,cs=ptC a/\IsP a:=by
 obtain⟨a,c,-,w0⟩:=DataW.trod_int Tryz.underlying43 h;exact⟨a,c,(bounds_u32 w0).1,Int.lt_add_one_of_le (bounds_u32 w0).2⟩
theorem open_VL{fuel:Nat}{cs:List Value}{x:DataW H×List MemPlace}(h:DataW.trod enc Tryz.prog w base (fun _=>true) held fuel 57 cs=some x)(hw:∀n∈x.1.weights Tryz.prog 57,n<=reachBytes):∃a:VL,cs=vlC a/\VLok w a:=by
 obtain⟨v,rfl⟩:∃v,cs=[v]:=by
  rcases DataW.trod_slice Tryz.underlying57 h with⟨hcs,_⟩|⟨a,len,cap,elems,rest,m,hm,hcs,_⟩
  ·exact⟨_,hcs⟩
  ·exact⟨_,hcs⟩
 obtain⟨l,hr,hlen,hg⟩:=Zmz (f:=ptC) (k:=1) (Good:=IsP) dE (fun _=>rfl) Tryz.underlying57 Zaob Zarv dE (fun h _=>open_FP h) h hw;exact⟨⟨v,l⟩,rfl,Zzi dE (fun _=>rfl) hr,by show l.length<=_;omega,hg⟩
theorem Zacm{fuel:Nat}{v:Value}{x:DataW H×List MemPlace}(h:DataW.trod enc Tryz.prog w base (fun _=>true) held fuel 47 [v]=some x)(hw:∀n∈x.1.weights Tryz.prog 47,n<=reachBytes):∃L,VsT (High w) w v L/\VsOk L:=by
 obtain⟨l,hr,hlen,hg⟩:=Zmz (f:=vlC) (k:=1) (Good:=VLok w) dE (fun _=>rfl) Tryz.underlying47 Zajh Zajq dE (fun h hw=>open_VL h hw) h hw;obtain⟨p,c,rfl,hh⟩:=Zzi (k:=1) (f:=vlC) dE (fun _=>rfl) hr;refine⟨l.map VL.l,⟨p,c,sM,?_⟩,⟨sO,?_,?_⟩⟩
 ·rcases hh with rfl|⟨b,o,hp,hT,hb,hc⟩
  ·exact .inl rfl
  ·refine .inr ⟨b,o,hp,hT,hb,fun i hi=>?_⟩;have hi':i<l.length:=by simpa using hi
   refine⟨(l[i]).v,?_,?_⟩
   ·have:=(hc i hi').at 0 rfl;simpa using this
   ·simpa using(hg l[i] (List.getElem_mem hi')).1
 ·intro y hy;obtain⟨a,ha,rfl⟩:=List.mem_map.1 hy;exact(hg a ha).2.1
 ·intro y hy z hz;obtain⟨a,ha,rfl⟩:=List.mem_map.1 hy;exact(hg a ha).2.2 z hz
theorem open_St{fuel:Nat}{cs:List Value}{x:DataW H×List MemPlace}(h:DataW.trod enc Tryz.prog w base (fun _=>true) held fuel 51 cs=some x)(hw:∀n∈x.1.weights Tryz.prog 51,n<=reachBytes):∃s:St,cs=stC s/\StOk w s:=by
 obtain⟨xs,n,hfn,hx,hl,hxl,hf⟩:=DataW.trod_struct Tryz.underlying51 h;rw[Zum]at hl
 match cs,hl with
 |[v0,v1],_=>
 match xs,hxl with
 |[y0,y1],_=>
  have e0:DataW.trod enc Tryz.prog w base (fun _=>true) held n 47 [v0]=some y0:=hf 0 _ rfl;have e1:DataW.trod enc Tryz.prog w base (fun _=>true) held n 47 [v1]=some y1:=hf 1 _ rfl;subst hx;have hws:∀ (j:Nat) (t:TypeId) (d:DataW H),[47,47][j]? =some t->[y0.1,y1.1][j]? =some d->∀n∈d.weights Tryz.prog t,n<=reachBytes:=fun j t d ht hd n hn=>by
   refine hw n ?_;show n∈DataW.weights Tryz.prog 51 (.agg [y0.1,y1.1]);rw[DataW.weights,Tryz.underlying51];exact DataW.weights_mem_each (ts:=[47,47]) ht hd n hn
  obtain⟨G,g1,g2⟩:=Zacm e0 (hws 0 _ _ rfl rfl);obtain⟨P,p1,p2⟩:=Zacm e1 (hws 1 _ _ rfl rfl);exact⟨⟨v0,v1,G,P⟩,rfl,g1,p1,g2,p2⟩
theorem Zagy{fuel:Nat}{cs:List Value}{x:DataW H×List MemPlace}(h:DataW.trod enc Tryz.prog w base (fun _=>true) held fuel 27 cs=some x)(hw:∀n∈x.1.weights Tryz.prog 27,n<=reachBytes):
 ∃ (v0 v1 v2 v3:Value) (c:Cd),cs=[v0,v1,v2,v3]/\CdV w v0 v1 v2 v3 c/\CdOk c/\CdSz c:=by
 obtain⟨xs,n,hfn,hx,hl,hxl,hf⟩:=DataW.trod_struct Tryz.underlying27 h;rw[Zaik]at hl
 match cs,hl with
 |[v0,v1,v2,v3],_=>
 match xs,hxl with
 |[y0,y1,y2,y3],_=>
  have e0:DataW.trod enc Tryz.prog w base (fun _=>true) held n 22 [v0]=some y0:=hf 0 _ rfl;have e1:DataW.trod enc Tryz.prog w base (fun _=>true) held n 23 [v1]=some y1:=hf 1 _ rfl;have e2:DataW.trod enc Tryz.prog w base (fun _=>true) held n 24 [v2]=some y2:=hf 2 _ rfl;have e3:DataW.trod enc Tryz.prog w base (fun _=>true) held n 25 [v3]=some y3:=hf 3 _ rfl;subst hx;have hws:∀ (j:Nat) (t:TypeId) (d:DataW H),[22,23,24,25][j]? =some t->[y0.1,y1.1,y2.1,y3.1][j]? =some d->∀n∈d.weights Tryz.prog t,n<=reachBytes:=fun j t d' ht hd' n hn=>by
   refine hw n ?_;show n∈DataW.weights Tryz.prog 27 (.agg [y0.1,y1.1,y2.1,y3.1]);rw[DataW.weights,Tryz.underlying27];exact DataW.weights_mem_each (ts:=[22,23,24,25]) ht hd' n hn
  obtain⟨l0,r0,s0,g0⟩:=Zmz (Good:=fun p:Par=>p.name.size<=140737488351232) dE Zsx Tryz.underlying22 Zur Zado dE (fun h hw=>Zary h hw) e0 (hws 0 _ _ rfl rfl);obtain⟨l1,r1,s1,g1⟩:=Zmz (Good:=fun _:Ty=>True) dE Zsa Tryz.underlying23 Zvx Zahx dE (fun h _=>Zafq h) e1 (hws 1 _ _ rfl rfl);obtain⟨l2,r2,s2,g2⟩:=Zmz (Good:=SlOk) dE Zuc Tryz.underlying24 Zvy Zagv dE (fun h _=>open_Sl h) e2 (hws 2 _ _ rfl rfl);obtain⟨l3,r3,s3,g3⟩:=Zmz (Good:=InsOk) dE Zqf Tryz.underlying25 Zwx Zaja dE (fun h _=>Zape h) e3 (hws 3 _ _ rfl rfl);exact⟨v0,v1,v2,v3,⟨l0,l1,l2,l3⟩,rfl,⟨r0,r1,r2,r3⟩,⟨by show l0.length<=_;omega,g0,by show l1.length<=_;omega,by show l2.length<=_;omega,by show l3.length<=_;omega,g2,g3⟩,⟨s0,s1,s2,s3⟩⟩
theorem Zajb{r:Reach}{b0:Nat}{v:Value}{d:DataW H}{pl:List MemPlace}(hv:Value.okWide Tryz.prog w r b0 30 v)(h:DataW.Trod enc Tryz.prog w base (fun _=>true) held 30 v d pl)(hw:∀n∈d.weights Tryz.prog 30,n<=reachBytes):
 ∃ (v0 v1 v2 v3 v4:Value) (c:Cd) (l:List St),v=.agg #[v0,v1,v2,v3,v4]/\CdV w v0 v1 v2 v3 c/\CdOk c/\CdSz c/\RowG 2 stC w v4 l/\l.length<=140737488351232/\∀s∈l,StOk w s:=by
 obtain⟨cs,rfl,hsz⟩:=okWide_struct Tryz.underlying30 hv;obtain⟨fuel,hf0⟩:=h;obtain⟨xs,n,hfn,hx,hl,hxl,hf⟩:=DataW.trod_struct Tryz.underlying30 hf0;rw[Zadt]at hl;obtain⟨cl,hcl⟩:∃cl,(Value.agg cs).cells.toList=cl:=⟨_,rfl⟩
 rw[hcl]at hl hf;have hcs:cs.toList=cl:=by rw[←hcl];simp[Value.cells]
 match cl,hl with
 |[v0,v1,v2,v3,v4],_=>
 match xs,hxl with
 |[y0,y1],_=>
  have e0:DataW.trod enc Tryz.prog w base (fun _=>true) held n 27 [v0,v1,v2,v3]=some y0:=hf 0 _ rfl;have e1:DataW.trod enc Tryz.prog w base (fun _=>true) held n 28 [v4]=some y1:=hf 1 _ rfl;have hd:d=.agg [y0.1,y1.1]:=congrArg Prod.fst hx;have hws:∀ (j:Nat) (t:TypeId) (d:DataW H),[27,28][j]? =some t->[y0.1,y1.1][j]? =some d->∀n∈d.weights Tryz.prog t,n<=reachBytes:=fun j t d' ht hd' n hn=>by
   refine hw n ?_;rw[hd];show n∈DataW.weights Tryz.prog 30 (.agg [y0.1,y1.1]);rw[DataW.weights,Tryz.underlying30];exact DataW.weights_mem_each (ts:=[27,28]) ht hd' n hn
  obtain⟨a0,a1,a2,a3,c,he,h1,h2,h3⟩:=Zagy e0 (hws 0 _ _ rfl rfl);obtain⟨l,g1,g2,g3⟩:=Zmz (f:=stC) (k:=2) (Good:=StOk w) dE (fun _=>rfl) Tryz.underlying28 Zum Zadl dE (fun h hw=>open_St h hw) e1 (hws 1 _ _ rfl rfl);simp only[List.cons.injEq,and_true]at he;obtain⟨rfl,rfl,rfl,rfl⟩:=he;refine⟨v0,v1,v2,v3,v4,c,l,?_,h1,h2,h3,g1,oM,g3⟩;rw[Value.agg.injEq];apply Array.toList_inj.1;exact hcs
end
end Go.Proofs.YtbinohkcolcbfaaGreat
namespace Go.Proofs.YtbinohkcolcbfaaGreat
open Go.RowKit Go.Proofs.Tryz
set_option linter.unusedVariables false
set_option linter.unusedSimpArgs false
set_option maxRecDepth 100000
set_option maxHeartbeats 16000000
def endC:Cd:=⟨[],[],[],[⟨35,0,0,0,0,0,0⟩]⟩
theorem Zzs:(Zik endC).1=160:=by decide+kernel
theorem end_ok:CdOk endC:=by
 refine⟨by show(0:Nat)<=_;decide,fun p hp=>?_,by show(0:Nat)<=_;decide,by show(0:Nat)<=_;decide,by show(1:Nat)<=_;decide,fun s hs=>?_,fun i hi=>?_⟩
 ·cases hp
 ·cases hs
 ·simp[endC]at hi;rw[hi];decide
theorem vs_two{T:Nat->Prop}(w:World)(x y:Int)(h1:¬T w.heap.size)(h2:¬T (w.heap.size+1)):VsT T ((w.alloc (.cells #[.int .u32 x,.int .u32 y] 43)).alloc (.cells #[.slice (some ⟨w.heap.size,0,none⟩) 2 2] 57)) (.slice (some ⟨w.heap.size+1,0,none⟩) 1 1) [[x,y]]:=by
 have r1:=(World.rowIs_alloc w #[.int .u32 x,.int .u32 y] 43 (fun j=>.int .u32 (atL [x,y] j)) (fun i hi=>by
  have hi':i<2:=hi;obtain rfl|rfl:i=0\/i=1:=oM
  all_goals rfl)).alloc (.cells #[.slice (some ⟨w.heap.size,0,none⟩) 2 2] 57)
 have r2:=World.rowIs_alloc (w.alloc (.cells #[.int .u32 x,.int .u32 y] 43)) #[.slice (some ⟨w.heap.size,0,none⟩) 2 2] 57 (fun _=>.slice (some ⟨w.heap.size,0,none⟩) 2 2) (fun i hi=>by
  have hi':i<1:=hi;obtain rfl:i=0:=oM
  rfl)
 rw[show(w.alloc (.cells #[.int .u32 x,.int .u32 y] 43)).heap.size=w.heap.size+1 by simp]at r2;refine⟨_,_,rfl,.inr ⟨w.heap.size+1,0,rfl,h2,r2.lt,fun i hi=>?_⟩⟩;have hi0:i=0:=by have:i<1:=hi;omega
 subst hi0;exact⟨_,r2.cell (i:=0) (by show 0<1;decide),Pt.of_row r1 h1 rfl (fun j _=>rfl) 2⟩
theorem vs_nil(T:Nat->Prop)(w:World)(c:Nat):VsT T w (.slice none 0 c) []:=⟨none,c,rfl,.inl rfl⟩
theorem Zafz{x y:Int}(h1:IsP x)(h2:IsP y):VsOk [[x,y]]:=by
 refine⟨by show 1<=140737488351232;decide,fun l hl=>?_,fun l hl z hz=>?_⟩
 ·simp at hl;rw[hl];show 2<=140737488351232;decide
 ·simp at hl;rw[hl]at hz;simp at hz;rcases hz with e|e<;>rw[e]
  ·exact h1
  ·exact h2
theorem Zafx:VsOk []:=⟨by show 0<=140737488351232;decide,fun l hl=>(by cases hl),fun l hl=>(by cases hl)⟩
theorem half_go{k y x1 x2:Int}(k0:0<=k)(k1:k<=2147483647)(h1:IsP x1)(h2:IsP x2){B:Nat}(w:World)(R:Nat)(a:Lay)(X:Nat->Value)(h:Zip (fun b=>b<B\/b=a.S) B w R a X (Zjd k) [⟨[],y⟩])(hB:B<=w.heap.size)(v:Value)(hv:VsT (fun b=>b<B\/b=a.S) w v [[x1,x2]]):
 Calls prog 10 #[.pointer (some ⟨R,0,none⟩),v,v] w fun e w'=>∃UB,e=.returned (.tuple #[.slice (some ⟨UB,0,none⟩) 1 1,.int .i64 0])/\(∃X',Zip (fun b=>b<B\/b=a.S) B w' R a X' (Zjd k) [⟨[],min y 2147483646+1⟩])/\Un (fun b=>b=a.S) w w'/\VsT (fun b=>b<w.heap.size) w' (.slice (some ⟨UB,0,none⟩) 1 1) (updP (Zjd k) (endJ (Zjd k) [⟨[],y⟩] [[x1,x2]] [[x1,x2]])):=by
 have:=Zyy w R a X (Zjd k) [⟨[],y⟩] h (Zoj k k0 k1) (Zxv k) (fun b e=>e.elim (fun q=>by omega) fun q=>by rw[q];exact h.slots.row.lt) v v [[x1,x2]] [[x1,x2]] hv hv (Zafz h1 h2) (Zafz h1 h2) (Zakv k x1 x2);rw[Zahw]at this;exact this
theorem Zaly{k y:Int}(k0:0<=k)(k1:k<=2147483647){B:Nat}(w:World)(R:Nat)(a:Lay)(X:Nat->Value)(h:Zip (fun b=>b<B\/b=a.S) B w R a X (Zjd k) [⟨[],y⟩]):
 Calls prog 10 #[.pointer (some ⟨R,0,none⟩),.slice none 0 0,.slice none 0 0] w fun e w'=>e=.returned (.tuple #[.slice none 0 0,.int .i64 170])/\Below w.heap.size w w':=
 Zaco w R a X (Zjd k) _ h (Znv (Zoj k k0 k1)).1 (Zxv k).names _ _ [] [] (vs_nil _ _ _) (vs_nil _ _ _) Zafx Zafx (Zahf k)
theorem Zaka{k y:Int}(k0:0<=k)(k1:k<=2147483647){B:Nat}(w:World)(R:Nat)(a:Lay)(X:Nat->Value)(h:Zip (fun b=>b<B\/b=a.S) B w R a X (Zjd k) [⟨[],y⟩]):
 Calls prog 14 #[.pointer (some ⟨R,0,none⟩),.int .i64 0] w fun e w'=>∃p d,e=.returned (.tuple #[.slice p 0 d,.int .i64 y,.int .i64 0])/\Below w.heap.size w w':=
 (Zaan w R a X (Zjd k) [⟨[],y⟩] h (Znv (Zoj k k0 k1)).1 0 (by show 0<1;decide)).mono fun e w' ⟨p,d,h1,_,h2⟩=>⟨p,d,h1,h2⟩
theorem Zzm(w:World):Calls prog 8 #[] w fun e w'=>e=.returned (.bool true)/\Below w.heap.size w w':=by
 have KN:Hid (∀ (v u:World),Zacz v (w.heap.size+1)->u=v->Calls prog 6 #[.agg #[.slice (some ⟨w.heap.size+1,0,none⟩) 1 1,.slice (some ⟨w.heap.size+2,0,none⟩) 3 3,.slice (some ⟨w.heap.size+3,0,none⟩) 1 1,.slice (some ⟨w.heap.size+4,0,none⟩) 7 7]] u fun e w'=>∃R a X,e=.returned (.tuple #[.pointer (some ⟨R,0,none⟩),.int .i64 0])/\Zip (fun b=>b<u.heap.size\/b=a.S) u.heap.size w' R a X (Zjd 4) [⟨[],4⟩]/\Below u.heap.size u w'):=fun v u h e=>by
  subst e;have:=Zabh _ _ _ _ (Zjd 4) (Zxv 4) u (Zalm h (fun _ _ _=>rfl) h.slots) (Zoj 4 dE dE);rw[Zahi]at this;exact this
 have hg4:=(Znv (Zoj 4 dE dE)).1;have KB:Hid (∀v:World,Calls prog 6 #[.agg #[.slice none 0 0,.slice none 0 0,.slice none 0 0,.slice (some ⟨v.heap.size,0,none⟩) 1 1]] (v.alloc (.cells #[.int .i64 35,.int .i64 0,.int .i64 0,.int .i64 0,.int .i64 0,.int .i64 0,.int .u32 0] 45)) fun e w'=>e=.returned (.tuple #[.pointer none,.int .i64 160])/\Below v.heap.size v w'):=fun v=>by
  have:=Zafg (.slice none 0 0) (.slice none 0 0) (.slice none 0 0) (.slice (some ⟨v.heap.size,0,none⟩) 1 1) endC end_ok (v.alloc (.cells #[.int .i64 35,.int .i64 0,.int .i64 0,.int .i64 0,.int .i64 0,.int .i64 0,.int .u32 0] 45)) ⟨⟨none,0,rfl,.inl rfl⟩,⟨none,0,rfl,.inl rfl⟩,⟨none,0,rfl,.inl rfl⟩,Zvg (l:=endC.list) Zqf v _ _ rF 1⟩ (by rw[Zzs];decide);rw[Zzs]at this;exact this.mono fun e w' ⟨h1,h2⟩=>⟨h1,bel (Zhq _ _) h2⟩
 have heq:∀ (w:World) (q:Addr),(binOp .eql 32 (.pointer (some q)) (.pointer none)).run prog w=.ok (.bool false) w:=fun w q=>by go_simp
 go_enter func8,ntmps8;go_wp2_with(first
  |(go_at_call 23;refine(Zapu w).mono ?_;rintro e w1 ⟨rfl,hb1,hh1,hs1⟩;have HB1:=hidM hb1;have HH1:=hidM hh1;have HS1:=hidM hs1;clear hb1 hh1 hs1)
  |(go_at_call 6;(with_reducible refine(KN.out w1 w1 HH1.out rfl).mono ?_);rintro e w2 ⟨R,a,X,rfl,hrun,hb2⟩;have HRUN:=hidM hrun;have HB2:=hidM hb2;obtain⟨W3,hW3⟩:∃W3,(w2.alloc (.cells #[.int .u32 1073741824,.int .u32 1065353216] 43)).alloc (.cells #[.slice (some ⟨w2.heap.size,0,none⟩) 2 2] 57)=W3:=⟨_,rfl⟩;have HB3:Hid (Below w2.heap.size w2 W3):=(by rw[←hW3];exact bel (Zhq _ _) (Zhq _ _));have HVS:Hid (VsT (fun b=>b<w1.heap.size\/b=a.S) W3 (.slice (some ⟨w2.heap.size+1,0,none⟩) 1 1) [[1073741824,1065353216]]):=(by rw[←hW3];exact vs_two w2 _ _ (by have:=hb2.size;have:=hrun.slots.row.lt;omega) (by have:=hb2.size;have:=hrun.slots.row.lt;omega));have KS1:=hidM (half_go (k:=4) (y:=4) dE dE Zgw Zgw W3 R a X (hrun.below HB3.out) (by have:=hb2.size;have:=HB3.out.size;omega) _ HVS.out);clear hrun hb2)
  |(go_at_call 10;(with_reducible refine KS1.out.mono ?_);rintro e w4 ⟨UB,rfl,⟨X4,hrun4⟩,hun4,hvs4⟩;have HRUN4:=hidM hrun4;have HUN4:=hidM hun4;have HVS4:=hidM hvs4;have KSL:=hidM (Zaka (k:=4) dE dE w4 R a X4 hrun4);clear hrun4 hun4 hvs4)
  |(go_at_call 14;(with_reducible refine KSL.out.mono ?_);rintro e w5 ⟨p5,d5,rfl,hb5⟩;have HB5:=hidM hb5;have KS2:=hidM (Zaly (k:=4) dE dE w5 R a X4 (HRUN4.out.below hb5));clear hb5)
  |(go_at_call 10;(with_reducible refine KS2.out.mono ?_);rintro e w6 ⟨rfl,hb6⟩;have HB6:=hidM hb6;clear hb6)
  |(go_at_call 6;(with_reducible refine(KB.out w6).mono ?_);rintro e w7 ⟨rfl,hb7⟩;have HB7:=hidM hb7;have KSV:=hidM (Zvh (T:=fun b=>b<W3.heap.size) (T':=fun _=>False) ((w7.alloc (.cells #[.int .u32 1065353216,.int .u32 1056964608] 43)).alloc (.cells #[.slice (some ⟨w7.heap.size,0,none⟩) 2 2] 57)) (.slice (some ⟨UB,0,none⟩) 1 1) (.slice (some ⟨w7.heap.size+1,0,none⟩) 1 1) [[1065353216,1056964608]] (by have:=HVS4.out;rw[Zaog]at this;exact this.below (bel HB5.out (bel HB6.out (bel hb7 (bel (Zhq _ _) (Zhq _ _)))))) (vs_two w7 _ _ (fun e=>e) (fun e=>e)) (by show 1<=1048576;decide) (fun l hl=>by simp at hl;rw[hl];show 2<=1048576;decide));clear hb7)
  |(go_at_call 12;(with_reducible refine KSV.out.mono ?_);rintro e w8 ⟨rfl,hb8⟩;have HB8:=hidM hb8;clear hb8))
 go_ret;have hS:=HRUN.out.bS;have hs1:=HB1.out.size;have hs2:=HB2.out.size;have hs3:=HB3.out.size;refine⟨rfl,?_⟩;have hA:Below w.heap.size w W3:=bel HB1.out (bel HB2.out HB3.out);have hC:Below w.heap.size W3 w4:=HUN4.out.below oM (fun b e=>by omega);exact(hA.trans hC).trans ((bel HB5.out (bel HB6.out (bel HB7.out (bel (bel (Zhq _ _) (Zhq _ _)) HB8.out)))).mono (by have:=hC.size;omega))
theorem Zari(c:Cd)(f:Fr):(updP c f).length=c.sign.length:=by simp[updP]
theorem Zako{c:Cd}(hg:Good c)(f:Fr):∀l∈updP c f,l.length<=1048576:=by
 intro l hl;obtain⟨p,hp,rfl⟩:=List.mem_map.1 hl;rw[List.length_map,List.length_range];cases h:c.sign[p]? with
 |none=>exact Nat.zero_le _
 |some q=>
  have hq:=hg.len q (List.mem_of_getElem? h);show numL q<=_;unfold numL numP;split
  ·split<;>omega
  ·simp
theorem Zafe{T:Nat->Prop}{w w':World}{v:Value}{L:List (List Int)}(h:VsT (High w) w v L)(q:Un T w w')(hT:∀b,T b->w.heap.size<=b):VsT T w' v L:=
 (h.un q (fun b hb e=>hT b e)).mono (fun b hb e=>hT b e)
end Go.Proofs.YtbinohkcolcbfaaGreat
