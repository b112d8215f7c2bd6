import Derived.Test.YtbinohkcolcbfaaGreatClon12
import Derived.Test.YtbinohkcolcbfaaGreatClon7
import Derived.Test.YtbinohkcolcbfaaGreatClon9
import Derived.Test.YtbinohkcolcbfaaGreatRows
import Derived.WalkKit
import Derived.ProofKit
import Derived.OpenShut
import Derived.JoinedCond
import Derived.Deep.Slices
import Derived.Deep.Strs
import Derived.SizedLaws
import Derived.Test.YtbinohkcolcbfaaGreatClon1
namespace Go.Proofs.YtbinohkcolcbfaaGreat
open Go.RowKit Go.Proofs.Tryz
set_option linter.all false
set_option maxRecDepth 100000
set_option maxHeartbeats 16000000

theorem FD{w:World}{B B':Nat}{t t':TypeId}{k k' n n':Nat}{v v':Value}{xs xs':List Value}(h:w.ownsRow B t k v n xs)(h':w.ownsRow B' t' k' v' n' xs')(ht:t≠t'):∀b,v.ownBlock=some b->v'.ownBlock≠some b:=by
 intro b hb hb';rcases h.2 with⟨rfl,_⟩|⟨g,cap,cur,rfl,_,hg,_⟩
 ·exact absurd (show(none:Option Nat)=some b from hb) sM
 rcases h'.2 with⟨rfl,_⟩|⟨g',cap',cur',rfl,_,hg',_⟩
 ·exact absurd (show(none:Option Nat)=some b from hb') sM
 have e1:g=b:=Option.some.inj hb;have e2:g'=b:=Option.some.inj hb';rw[e1]at hg;rw[e2,hg]at hg';simp only[Option.some.injEq,Obj.cells.injEq]at hg';exact ht hg'.2.1


def CK(M:Nat)(X:List Nat):List Value:=(List.range M).map fun j=>.bool (decide (j∈X))
theorem IV(M:Nat)(X:List Nat):(CK M X).length=M:=by simp[CK]
theorem GD{M:Nat}{X:List Nat}{j:Nat}(h:j<M):(CK M X)[j]? =some (.bool (decide (j∈X))):=by
 unfold CK;rw[List.getElem?_map,List.getElem?_range h];rfl
theorem N5(M:Nat):CK M []=List.replicate M (.bool false):=by
 apply List.ext_getElem?;intro j;by_cases h:j<M
 ·rw[GD h,List.getElem?_replicate,if_pos h];simp
 ·rw[List.getElem?_eq_none Zhl,List.getElem?_eq_none sO]
theorem Vi{M:Nat}{X:List Nat}{i:Au}(hd:(A6 i.op).d≠0)(hl:i.d.toNat<M):(CK M X).set i.d.toNat (.bool true)=CK M (Hx X i):=by
 apply List.ext_getElem?;intro j;by_cases h:j<M
 ·rw[GD h,List.getElem?_set];by_cases e:i.d.toNat=j
  ·rw[if_pos e,if_pos Zhl];have:j∈Hx X i:=PA.2 (.inr ⟨hd,e.symm⟩);simp[this]
  ·rw[if_neg e,GD h];have:j∈Hx X i↔j∈X:=by
    rw[PA];exact⟨fun q=>q.resolve_right fun q=>e q.2.symm,.inl⟩
   simp[this]
 ·rw[List.getElem?_eq_none (by rw[List.length_set,IV];omega),List.getElem?_eq_none Zhl]
theorem S9{M:Nat}{X:List Nat}{i:Au}(hd:(A6 i.op).d=0):Hx X i=X:=by unfold Hx;rw[if_neg (fun q=>q.1 hd)]
theorem SI{B:Nat}{V:World}{p:Option Addr}{n q:Nat}{xs:List Value}(h:V.ownsRow B 4 1 (.slice p n q) n xs)(hB:B<=V.heap.size)(hn:n<=140737488351232):
 ∃g c' w',(Builtin.append_ #[100,100] 100 #[.slice p n q,.slice (some ⟨V.heap.size,0,none⟩) 1 1]).run prog (V.alloc (.cells #[.bool false] 4))=.ok (.slice (some ⟨g,0,none⟩) (n+1) c') w'/\Below B V w'/\w'.ownsRow B 4 1 (.slice (some ⟨g,0,none⟩) (n+1) c') (n+1) (xs++[.bool false]):=by
 obtain⟨i0,hi0,hz0,hz1,hz2⟩:=info_parts Fz;have hb0:Below V.heap.size V (V.alloc (.cells #[.bool false] 4)):=A0 _ _;have hsz:(V.alloc (.cells #[.bool false] 4)).heap.size=V.heap.size+1:=sM;have h0:=AA h hb0;obtain⟨g,cap,w3,hr,hown,hgrow,hat,hlt⟩:=run_append_lies (P:=prog) (V.alloc (.cells #[.bool false] 4)) 100 100 B 4 i0 _ 1 1 underlying100 hi0 hz0 hz1 hz2 rfl dE (.slice p n q) n xs h0 ⟨V.heap.size,0,none⟩ 1 1 [.bool false] rfl
  (World.news_of_block (cs:=#[.bool false]) (t:=4) (fr:=(0,0)) (heap_alloc_new V _)) SD dE mL oM sO _ rfl
 exact⟨g,cap,w3,hr,(hb0.mono hB).grown hgrow oM (fun q e=>(h0.lt q e).1),hown⟩

section
open Go.ChangeShapes Go.WideShapes Go.ChangeAt Go.RowKit
theorem Ii:Tryz.prog.cellsOf 45=7:=kR
theorem Hg:Tryz.prog.cellsOf 66=3:=kR
theorem Ik:Tryz.prog.cellsOf 69=2:=kR
theorem Ij:Tryz.prog.cellsOf 72=5:=kR
theorem NF:Tryz.prog.cellsOf 27=4:=kR
theorem NC:Tryz.prog.bytesOf 45=56:=kR
theorem M8:Tryz.prog.bytesOf 66=32:=kR
theorem NE:Tryz.prog.bytesOf 69=16:=kR
theorem ND:Tryz.prog.bytesOf 72=32:=kR
theorem F0{H:Type}{P:Program}{e:TypeId}:∀ {l:List (DataW H)} {d:DataW H},d∈l->∀n∈d.weights P e,n∈DataW.weightsAll P e l
 |[],d,h,n,hn=>by cases h
 |x::r,d,h,n,hn=>by
  simp only[DataW.weightsAll,List.mem_append];rcases List.mem_cons.1 h with rfl|h
  ·exact .inl hn
  ·exact .inr (F0 h n hn)
section
variable {H : Type} {enc : TypeId × Value -> H} {w : World} {base : Nat} {held : Bool}
def Yf(i:Au):Prop:=0<=i.bits/\i.bits<4294967296
theorem TX{fuel:Nat}{cs:List Value}{x:DataW H×List MemPlace}(h:DataW.trod enc Tryz.prog w base (fun _=>true) held fuel 45 cs=some x):∃i:Au,cs=DP i/\Yf i:=by
 obtain⟨xs,n,hfn,hx,hl,hxl,hf⟩:=DataW.trod_struct Tryz.underlying45 h;rw[Ii]at hl
 match cs,hl with
 |[v0,v1,v2,v3,v4,v5,v6],_=>
 match xs,hxl with
 |[y0,y1,y2,y3,y4,y5,y6],_=>
  have e0:DataW.trod enc Tryz.prog w base (fun _=>true) held n 3 [v0]=some y0:=hf 0 _ rfl;have e1:DataW.trod enc Tryz.prog w base (fun _=>true) held n 3 [v1]=some y1:=hf 1 _ rfl;have e2:DataW.trod enc Tryz.prog w base (fun _=>true) held n 3 [v2]=some y2:=hf 2 _ rfl;have e3:DataW.trod enc Tryz.prog w base (fun _=>true) held n 3 [v3]=some y3:=hf 3 _ rfl;have e4:DataW.trod enc Tryz.prog w base (fun _=>true) held n 3 [v4]=some y4:=hf 4 _ rfl;have e5:DataW.trod enc Tryz.prog w base (fun _=>true) held n 3 [v5]=some y5:=hf 5 _ rfl;have e6:DataW.trod enc Tryz.prog w base (fun _=>true) held n 43 [v6]=some y6:=hf 6 _ rfl;obtain⟨a0,c0,-,w0⟩:=DataW.trod_int Tryz.underlying3 e0;obtain⟨a1,c1,-,w1⟩:=DataW.trod_int Tryz.underlying3 e1;obtain⟨a2,c2,-,w2⟩:=DataW.trod_int Tryz.underlying3 e2;obtain⟨a3,c3,-,w3⟩:=DataW.trod_int Tryz.underlying3 e3;obtain⟨a4,c4,-,w4⟩:=DataW.trod_int Tryz.underlying3 e4;obtain⟨a5,c5,-,w5⟩:=DataW.trod_int Tryz.underlying3 e5;obtain⟨a6,c6,-,w6⟩:=DataW.trod_int Tryz.underlying43 e6;simp only[List.cons.injEq,and_true]at c0 c1 c2 c3 c4 c5 c6;subst c0 c1 c2 c3 c4 c5 c6;exact⟨⟨a0,a1,a2,a3,a4,a5,a6⟩,rfl,(bounds_u32 w6).1,Int.lt_add_one_of_le (bounds_u32 w6).2⟩
theorem TY{fuel:Nat}{cs:List Value}{x:DataW H×List MemPlace}(h:DataW.trod enc Tryz.prog w base (fun _=>true) held fuel 66 cs=some x)(hw:∀n∈x.1.weights Tryz.prog 66,n<=reachBytes):
 ∃p:BO,cs=AW p/\p.name.size<=140737488351232:=by
 obtain⟨xs,n,hfn,hx,hl,hxl,hf⟩:=DataW.trod_struct Tryz.underlying66 h;rw[Hg]at hl
 match cs,hl with
 |[v0,v1,v2],_=>
 match xs,hxl with
 |[y0,y1,y2],_=>
  have e0:DataW.trod enc Tryz.prog w base (fun _=>true) held n 9 [v0]=some y0:=hf 0 _ rfl;have e1:DataW.trod enc Tryz.prog w base (fun _=>true) held n 3 [v1]=some y1:=hf 1 _ rfl;have e2:DataW.trod enc Tryz.prog w base (fun _=>true) held n 3 [v2]=some y2:=hf 2 _ rfl;obtain⟨a0,c0,hd0,w0⟩:=DataW.trod_string Tryz.underlying9 e0;obtain⟨a1,c1,hd1,w1⟩:=DataW.trod_int Tryz.underlying3 e1;obtain⟨a2,c2,hd2,w2⟩:=DataW.trod_int Tryz.underlying3 e2;simp only[List.cons.injEq,and_true]at c0 c1 c2;subst c0 c1 c2;subst hx;have hws:∀ (j:Nat) (t:TypeId) (d:DataW H),[9,3,3][j]? =some t->[y0.1,y1.1,y2.1][j]? =some d->∀n∈d.weights Tryz.prog t,n<=reachBytes:=fun j t d ht hd n hn=>by
   refine hw n ?_;show n∈DataW.weights Tryz.prog 66 (.agg [y0.1,y1.1,y2.1]);rw[DataW.weights,Tryz.underlying66];exact DataW.weights_mem_each (ts:=[9,3,3]) ht hd n hn
  have s1:a0.size<=140737488351232:=by
   have:=hws 0 _ _ rfl rfl a0.data.toList.length (by rw[hd0];simp[DataW.weights]);simpa[reachBytes]using this
  exact⟨⟨a0,a1,a2⟩,rfl,s1⟩
theorem PO{fuel:Nat}{cs:List Value}{x:DataW H×List MemPlace}(h:DataW.trod enc Tryz.prog w base (fun _=>true) held fuel 69 cs=some x):∃t:Ty,cs=Nh t/\True:=by
 obtain⟨xs,n,hfn,hx,hl,hxl,hf⟩:=DataW.trod_struct Tryz.underlying69 h;rw[Ik]at hl
 match cs,hl with
 |[v0,v1],_=>
 match xs,hxl with
 |[y0,y1],_=>
  have e0:DataW.trod enc Tryz.prog w base (fun _=>true) held n 3 [v0]=some y0:=hf 0 _ rfl;have e1:DataW.trod enc Tryz.prog w base (fun _=>true) held n 3 [v1]=some y1:=hf 1 _ rfl;obtain⟨a0,c0,-,w0⟩:=DataW.trod_int Tryz.underlying3 e0;obtain⟨a1,c1,-,w1⟩:=DataW.trod_int Tryz.underlying3 e1;simp only[List.cons.injEq,and_true]at c0 c1;subst c0 c1;exact⟨⟨a0,a1⟩,rfl,trivial⟩
def ZO(s:Sl):Prop:=0<=s.bits/\s.bits<4294967296
theorem Xs{fuel:Nat}{cs:List Value}{x:DataW H×List MemPlace}(h:DataW.trod enc Tryz.prog w base (fun _=>true) held fuel 72 cs=some x):∃s:Sl,cs=LL s/\ZO s:=by
 obtain⟨xs,n,hfn,hx,hl,hxl,hf⟩:=DataW.trod_struct Tryz.underlying72 h;rw[Ij]at hl
 match cs,hl with
 |[v0,v1,v2,v3,v4],_=>
 match xs,hxl with
 |[y0,y1,y2,y3],_=>
  have e0:DataW.trod enc Tryz.prog w base (fun _=>true) held n 69 [v0,v1]=some y0:=hf 0 _ rfl;have e1:DataW.trod enc Tryz.prog w base (fun _=>true) held n 4 [v2]=some y1:=hf 1 _ rfl;have e2:DataW.trod enc Tryz.prog w base (fun _=>true) held n 43 [v3]=some y2:=hf 2 _ rfl;have e3:DataW.trod enc Tryz.prog w base (fun _=>true) held n 3 [v4]=some y3:=hf 3 _ rfl;obtain⟨t,ht,-⟩:=PO e0;obtain⟨a1,c1,-⟩:=DataW.trod_bool Tryz.underlying4 e1;obtain⟨a2,c2,-,w2⟩:=DataW.trod_int Tryz.underlying43 e2;obtain⟨a3,c3,-,w3⟩:=DataW.trod_int Tryz.underlying3 e3;obtain⟨K,P⟩:=t;simp only[Nh,List.cons.injEq,and_true]at ht c1 c2 c3;obtain⟨rfl,rfl⟩:=ht;subst c1 c2 c3;exact⟨⟨⟨K,P⟩,a1,a2,a3⟩,rfl,(bounds_u32 w2).1,Int.lt_add_one_of_le (bounds_u32 w2).2⟩
theorem Cx{α:Type}[Inhabited α]{f:α->List Value}{k bytes:Nat}{t e:TypeId}{Good:α->Prop}(hk:0<k)(hf:∀x,(f x).length=k)(ht:Tryz.prog.underlying t=some (.slice e))(hce:Tryz.prog.cellsOf e=k)(hby:Tryz.prog.bytesOf e=bytes)(hb0:0<bytes)
 (hop:∀ {fuel:Nat} {cs:List Value} {x:DataW H×List MemPlace},DataW.trod enc Tryz.prog w base (fun _=>true) held fuel e cs=some x->(∀n∈x.1.weights Tryz.prog e,n<=reachBytes)->∃a:α,cs=f a/\Good a)
 {fuel:Nat} {v:Value} {x:DataW H×List MemPlace} (h:DataW.trod enc Tryz.prog w base (fun _=>true) held fuel t [v]=some x) (hw:∀n∈x.1.weights Tryz.prog t,n<=reachBytes):
 ∃l:List α,B3 k f w v l/\l.length*bytes<=140737488351232/\∀a∈l,Good a:=by
 rcases DataW.trod_slice ht h with⟨hcs,hx⟩|⟨a,len,cap,elems,rest,m,hm,hcs,hx,_,hl,_,hel,hread,_,_⟩
 ·simp only[List.cons.injEq,and_true]at hcs;subst hcs;exact⟨[],⟨none,0,rfl,.inl rfl⟩,sM,fun a h=>by cases h⟩
 ·simp only[List.cons.injEq,and_true]at hcs;subst hcs;subst hx;have C5:∀i,i<len->∃q:α,(∀j,j<k->w.cell? (a.add (i*k+j))=(f q)[j]?)/\Good q:=by
   intro i hi;have h1:=hread i hi;rw[hce]at h1;have hie:i<elems.length:=oM;rw[List.getElem?_eq_getElem hie]at h1;obtain⟨cs',h2,h3⟩:=Option.bind_eq_some_iff.1 h1;obtain⟨_,hlen3,hcell⟩:=World.cells?_some h2;obtain⟨q,hcs,hok⟩:=hop h3 (fun n hn=>hw n (by
    rw[DataW.weights,ht]
    exact List.mem_cons_of_mem _ (List.mem_append_left _ (F0 (List.mem_map.2 ⟨elems[i],List.getElem_mem hie,rfl⟩) n hn))))
   refine⟨q,fun j hj=>?_,hok⟩;have:=hcell j hj;rw[Go.Deep.add_add,hcs]at this;exact this
  obtain⟨g,hg⟩:=Go.Deep.choose_lt C5;have hTl:((List.range len).map g).length=len:=sM;have hbig:len*bytes<=140737488351232:=by
   have:=hw _ (by rw[DataW.weights,ht];exact List.mem_cons_self);rw[hby]at this;simp only[List.length_map,reachBytes]at this;have hln:elems.length=len:=oM;simp only[hln]at this;exact Nat.le_trans (Nat.mul_le_mul_right _ (Nat.le_add_right _ _)) this
  refine⟨(List.range len).map g,?_,by rw[hTl];exact hbig,?_⟩
  ·refine⟨some a,cap,by rw[hTl],?_⟩;by_cases hl0:len=0
   ·left;simp[hl0]
   ·obtain⟨b,off,spot⟩:=a;have hne:0<(f (g 0)).length:=by rw[hf];exact hk
    have hspot:spot=none:=by
     have:=(hg 0 oM).1 0 hk;rw[List.getElem?_eq_getElem hne]at this;simpa[Addr.add]using World.cell?_spot this
    subst hspot;refine .inr ⟨b,off,rfl,fun i hi j hj=>?_⟩;have hi':i<len:=by rw[hTl]at hi;exact hi
    obtain⟨q,-⟩:=hg i hi';have e:((List.range len).map g)[i]=g i:=sM;have hj2:j<(f (g i)).length:=by simpa[e]using hj
    have hj3:j<k:=by rw[←hf (g i)];exact hj2
    have q':=q j hj3;rw[LY,←Nat.add_assoc]at q';rw[q',List.getElem?_eq_getElem hj2];congr 1;simp[e]
  ·intro q hq;obtain⟨i,hi,rfl⟩:=List.mem_map.1 hq;exact(hg i (List.mem_range.1 hi)).2
instance:Inhabited Au:=⟨⟨0,0,0,0,0,0,0⟩⟩
instance:Inhabited Ty:=⟨⟨0,0⟩⟩
instance:Inhabited Sl:=⟨⟨⟨0,0⟩,false,0,0⟩⟩
instance:Inhabited BO:=⟨⟨⟨#[]⟩,0,0⟩⟩
end
end
end Go.Proofs.YtbinohkcolcbfaaGreat
