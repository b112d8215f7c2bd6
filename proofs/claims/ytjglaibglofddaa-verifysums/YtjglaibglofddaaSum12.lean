import Derived.Test.YtjglaibglofddaaSum10
import Derived.Test.YtjglaibglofddaaSum11
import Derived.Test.YtjglaibglofddaaSum8
import Derived.Test.YtjglaibglofddaaRows
import Derived.WalkKit
import Derived.ProofKit
import Derived.OpenShut
import Derived.JoinedCond
import Derived.Deep.Slices
import Derived.Deep.Strs
import Derived.SizedLaws
import Derived.Test.YtjglaibglofddaaSum1
namespace Go.Proofs.Ytjglaibglofddaa
open Go.RowKit Go.Proofs.Try
set_option linter.all false
set_option maxRecDepth 100000
set_option maxHeartbeats 16000000



def Gz(b:Int):Prop:=b=45\/b=110\/b=119\/b=118\/b=100\/b=120\/b=99\/b=97
instance (b:Int):Decidable (Gz b):=by unfold Gz;infer_instance

section
open Go.ChangeShapes Go.WideShapes Go.ChangeAt Go.RowKit
theorem Cr:Try.prog.cellsOf 53=7:=kR
theorem Cb:Try.prog.cellsOf 63=3:=kR
theorem Ct:Try.prog.cellsOf 47=2:=kR
theorem Cs:Try.prog.cellsOf 51=5:=kR
theorem E0:Try.prog.cellsOf 27=4:=kR
theorem DX:Try.prog.bytesOf 53=56:=kR
theorem DC:Try.prog.bytesOf 63=32:=kR
theorem DZ:Try.prog.bytesOf 47=16:=kR
theorem DY:Try.prog.bytesOf 51=32:=kR
theorem Bq{H:Type}{P:Program}{e:TypeId}:∀ {l:List (DataW H)} {d:DataW H},d∈l->∀n∈d.weights P e,n∈DataW.weightsAll P e l
 |[],d,h,n,hn=>by cases h
 |x::r,d,h,n,hn=>by
  simp only[DataW.weightsAll,List.mem_append];rcases List.mem_cons.1 h with rfl|h
  .exact .inl hn
  .exact .inr (Bq h n hn)
section
variable {H : Type} {enc : TypeId × Value -> H} {w : World} {base : Nat} {held : Bool}
def Gx(i:Au):Prop:=0<=i.bits/\i.bits<4294967296
theorem Fh{fuel:Nat}{cs:List Value}{x:DataW H×List MemPlace}(h:DataW.trod enc Try.prog w base (fun _=>true) held fuel 53 cs=some x):∃i:Au,cs=B9 i/\Gx i:=by
 obtain⟨xs,n,hfn,hx,hl,hxl,hf⟩:=DataW.trod_struct Try.underlying53 h;rw[Cr]at hl
 match cs,hl with
 |[v0,v1,v2,v3,v4,v5,v6],_=>
 match xs,hxl with
 |[y0,y1,y2,y3,y4,y5,y6],_=>
  have e0:DataW.trod enc Try.prog w base (fun _=>true) held n 3 [v0]=some y0:=hf 0 _ rfl;have e1:DataW.trod enc Try.prog w base (fun _=>true) held n 3 [v1]=some y1:=hf 1 _ rfl;have e2:DataW.trod enc Try.prog w base (fun _=>true) held n 3 [v2]=some y2:=hf 2 _ rfl;have e3:DataW.trod enc Try.prog w base (fun _=>true) held n 3 [v3]=some y3:=hf 3 _ rfl;have e4:DataW.trod enc Try.prog w base (fun _=>true) held n 3 [v4]=some y4:=hf 4 _ rfl;have e5:DataW.trod enc Try.prog w base (fun _=>true) held n 3 [v5]=some y5:=hf 5 _ rfl;have e6:DataW.trod enc Try.prog w base (fun _=>true) held n 49 [v6]=some y6:=hf 6 _ rfl;obtain⟨a0,c0,-,w0⟩:=DataW.trod_int Try.underlying3 e0;obtain⟨a1,c1,-,w1⟩:=DataW.trod_int Try.underlying3 e1;obtain⟨a2,c2,-,w2⟩:=DataW.trod_int Try.underlying3 e2;obtain⟨a3,c3,-,w3⟩:=DataW.trod_int Try.underlying3 e3;obtain⟨a4,c4,-,w4⟩:=DataW.trod_int Try.underlying3 e4;obtain⟨a5,c5,-,w5⟩:=DataW.trod_int Try.underlying3 e5;obtain⟨a6,c6,-,w6⟩:=DataW.trod_int Try.underlying49 e6;simp only[List.cons.injEq,and_true]at c0 c1 c2 c3 c4 c5 c6;subst c0 c1 c2 c3 c4 c5 c6;exact⟨⟨a0,a1,a2,a3,a4,a5,a6⟩,rfl,(bounds_u32 w6).1,Int.lt_add_one_of_le (bounds_u32 w6).2⟩
theorem Fi{fuel:Nat}{cs:List Value}{x:DataW H×List MemPlace}(h:DataW.trod enc Try.prog w base (fun _=>true) held fuel 63 cs=some x)(hw:∀n∈x.1.weights Try.prog 63,n<=reachBytes):
 ∃p:AF,cs=Az p/\p.name.size<=140737488351232:=by
 obtain⟨xs,n,hfn,hx,hl,hxl,hf⟩:=DataW.trod_struct Try.underlying63 h;rw[Cb]at hl
 match cs,hl with
 |[v0,v1,v2],_=>
 match xs,hxl with
 |[y0,y1,y2],_=>
  have e0:DataW.trod enc Try.prog w base (fun _=>true) held n 9 [v0]=some y0:=hf 0 _ rfl;have e1:DataW.trod enc Try.prog w base (fun _=>true) held n 3 [v1]=some y1:=hf 1 _ rfl;have e2:DataW.trod enc Try.prog w base (fun _=>true) held n 3 [v2]=some y2:=hf 2 _ rfl;obtain⟨a0,c0,hd0,w0⟩:=DataW.trod_string Try.underlying9 e0;obtain⟨a1,c1,hd1,w1⟩:=DataW.trod_int Try.underlying3 e1;obtain⟨a2,c2,hd2,w2⟩:=DataW.trod_int Try.underlying3 e2;simp only[List.cons.injEq,and_true]at c0 c1 c2;subst c0 c1 c2;subst hx;have hws:∀ (j:Nat) (t:TypeId) (d:DataW H),[9,3,3][j]? =some t->[y0.1,y1.1,y2.1][j]? =some d->∀n∈d.weights Try.prog t,n<=reachBytes:=fun j t d ht hd n hn=>by
   refine hw n ?_;show n∈DataW.weights Try.prog 63 (.agg [y0.1,y1.1,y2.1]);rw[DataW.weights,Try.underlying63];exact DataW.weights_mem_each (ts:=[9,3,3]) ht hd n hn
  have s1:a0.size<=140737488351232:=by
   have:=hws 0 _ _ rfl rfl a0.data.toList.length (by rw[hd0];simp[DataW.weights]);simpa[reachBytes]using this
  exact⟨⟨a0,a1,a2⟩,rfl,s1⟩
theorem Eu{fuel:Nat}{cs:List Value}{x:DataW H×List MemPlace}(h:DataW.trod enc Try.prog w base (fun _=>true) held fuel 47 cs=some x):∃t:Ty,cs=DV t/\True:=by
 obtain⟨xs,n,hfn,hx,hl,hxl,hf⟩:=DataW.trod_struct Try.underlying47 h;rw[Ct]at hl
 match cs,hl with
 |[v0,v1],_=>
 match xs,hxl with
 |[y0,y1],_=>
  have e0:DataW.trod enc Try.prog w base (fun _=>true) held n 3 [v0]=some y0:=hf 0 _ rfl;have e1:DataW.trod enc Try.prog w base (fun _=>true) held n 3 [v1]=some y1:=hf 1 _ rfl;obtain⟨a0,c0,-,w0⟩:=DataW.trod_int Try.underlying3 e0;obtain⟨a1,c1,-,w1⟩:=DataW.trod_int Try.underlying3 e1;simp only[List.cons.injEq,and_true]at c0 c1;subst c0 c1;exact⟨⟨a0,a1⟩,rfl,trivial⟩
def H8(s:Sl):Prop:=0<=s.bits/\s.bits<4294967296
theorem Gj{fuel:Nat}{cs:List Value}{x:DataW H×List MemPlace}(h:DataW.trod enc Try.prog w base (fun _=>true) held fuel 51 cs=some x):∃s:Sl,cs=Ex s/\H8 s:=by
 obtain⟨xs,n,hfn,hx,hl,hxl,hf⟩:=DataW.trod_struct Try.underlying51 h;rw[Cs]at hl
 match cs,hl with
 |[v0,v1,v2,v3,v4],_=>
 match xs,hxl with
 |[y0,y1,y2,y3],_=>
  have e0:DataW.trod enc Try.prog w base (fun _=>true) held n 47 [v0,v1]=some y0:=hf 0 _ rfl;have e1:DataW.trod enc Try.prog w base (fun _=>true) held n 4 [v2]=some y1:=hf 1 _ rfl;have e2:DataW.trod enc Try.prog w base (fun _=>true) held n 49 [v3]=some y2:=hf 2 _ rfl;have e3:DataW.trod enc Try.prog w base (fun _=>true) held n 3 [v4]=some y3:=hf 3 _ rfl;obtain⟨t,ht,-⟩:=Eu e0;obtain⟨a1,c1,-⟩:=DataW.trod_bool Try.underlying4 e1;obtain⟨a2,c2,-,w2⟩:=DataW.trod_int Try.underlying49 e2;obtain⟨a3,c3,-,w3⟩:=DataW.trod_int Try.underlying3 e3;obtain⟨K,P⟩:=t;simp only[DV,List.cons.injEq,and_true]at ht c1 c2 c3;obtain⟨rfl,rfl⟩:=ht;subst c1 c2 c3;exact⟨⟨⟨K,P⟩,a1,a2,a3⟩,rfl,(bounds_u32 w2).1,Int.lt_add_one_of_le (bounds_u32 w2).2⟩
theorem BF{α:Type}[Inhabited α]{f:α->List Value}{k bytes:Nat}{t e:TypeId}{Good:α->Prop}(hk:0<k)(hf:∀x,(f x).length=k)(ht:Try.prog.underlying t=some (.slice e))(hce:Try.prog.cellsOf e=k)(hby:Try.prog.bytesOf e=bytes)(hb0:0<bytes)
 (hop:∀ {fuel:Nat} {cs:List Value} {x:DataW H×List MemPlace},DataW.trod enc Try.prog w base (fun _=>true) held fuel e cs=some x->(∀n∈x.1.weights Try.prog e,n<=reachBytes)->∃a:α,cs=f a/\Good a)
 {fuel:Nat} {v:Value} {x:DataW H×List MemPlace} (h:DataW.trod enc Try.prog w base (fun _=>true) held fuel t [v]=some x) (hw:∀n∈x.1.weights Try.prog t,n<=reachBytes):
 ∃l:List α,AQ k f w v l/\l.length*bytes<=140737488351232/\∀a∈l,Good a:=by
 rcases DataW.trod_slice ht h with⟨hcs,hx⟩|⟨a,len,cap,elems,rest,m,hm,hcs,hx,_,hl,_,hel,hread,_,_⟩
 .simp only[List.cons.injEq,and_true]at hcs;subst hcs;exact⟨[],⟨none,0,rfl,.inl rfl⟩,sM,fun a h=>by cases h⟩
 .simp only[List.cons.injEq,and_true]at hcs;subst hcs;subst hx;have GS:∀i,i<len->∃q:α,(∀j,j<k->w.cell? (a.add (i*k+j))=(f q)[j]?)/\Good q:=by
   intro i hi;have h1:=hread i hi;rw[hce]at h1;have hie:i<elems.length:=oM;rw[gB hie]at h1;obtain⟨cs',h2,h3⟩:=Option.bind_eq_some_iff.1 h1;obtain⟨_,hlen3,hcell⟩:=World.cells?_some h2;obtain⟨q,hcs,hok⟩:=hop h3 (fun n hn=>hw n (by
    rw[DataW.weights,ht]
    exact List.mem_cons_of_mem _ (List.mem_append_left _ (Bq (List.mem_map.2 ⟨elems[i],gD hie,rfl⟩) n hn))))
   refine⟨q,fun j hj=>?_,hok⟩;have:=hcell j hj;rw[Go.Deep.add_add,hcs]at this;exact this
  obtain⟨g,hg⟩:=Go.Deep.choose_lt GS;have hTl:((List.range len).map g).length=len:=sM;have hbig:len*bytes<=140737488351232:=by
   have:=hw _ (by rw[DataW.weights,ht];exact List.mem_cons_self);rw[hby]at this;simp only[List.length_map,reachBytes]at this;have hln:elems.length=len:=oM;simp only[hln]at this;exact gH (Nat.mul_le_mul_right _ (Nat.le_add_right _ _)) this
  refine⟨(List.range len).map g,?_,by rw[hTl];exact hbig,?_⟩
  .refine⟨some a,cap,by rw[hTl],?_⟩;by_cases hl0:len=0
   .left;simp[hl0]
   .obtain⟨b,off,spot⟩:=a;have hne:0<(f (g 0)).length:=by rw[hf];exact hk
    have hspot:spot=none:=by
     have:=(hg 0 oM).1 0 hk;rw[gB hne]at this;simpa[Addr.add]using World.cell?_spot this
    subst hspot;refine .inr ⟨b,off,rfl,fun i hi j hj=>?_⟩;have hi':i<len:=by rw[hTl]at hi;exact hi
    obtain⟨q,-⟩:=hg i hi';have e:((List.range len).map g)[i]=g i:=sM;have hj2:j<(f (g i)).length:=by simpa[e]using hj
    have hj3:j<k:=by rw[<-hf (g i)];exact hj2
    have q':=q j hj3;rw[Dx,<-Nat.add_assoc]at q';rw[q',gB hj2];congr 1;simp[e]
  .intro q hq;obtain⟨i,hi,rfl⟩:=List.mem_map.1 hq;exact(hg i (List.mem_range.1 hi)).2
instance:Inhabited Au:=⟨⟨0,0,0,0,0,0,0⟩⟩
instance:Inhabited Ty:=⟨⟨0,0⟩⟩
instance:Inhabited Sl:=⟨⟨⟨0,0⟩,false,0,0⟩⟩
instance:Inhabited AF:=⟨⟨⟨#[]⟩,0,0⟩⟩
theorem ES{r:Reach}{b0:Nat}{v:Value}{d:DataW H}{pl:List MemPlace}(hv:Value.okWide Try.prog w r b0 27 v)(h:DataW.Trod enc Try.prog w base (fun _=>true) held 27 v d pl)(hw:∀n∈d.weights Try.prog 27,n<=reachBytes):
 ∃ (v0 v1 v2 v3:Value) (c:Cd),v=.agg #[v0,v1,v2,v3]/\CU w v0 v1 v2 v3 c/\AX c/\c.sign.length*32<=140737488351232/\c.regs.length*16<=140737488351232/\c.slots.length*32<=140737488351232/\c.list.length*56<=140737488351232:=by
 obtain⟨cs,rfl,hsz⟩:=okWide_struct Try.underlying27 hv;obtain⟨fuel,hf0⟩:=h;obtain⟨xs,n,hfn,hx,hl,hxl,hf⟩:=DataW.trod_struct Try.underlying27 hf0;rw[E0]at hl;obtain⟨cl,hcl⟩:=gA ((Value.agg cs).cells.toList)
 rw[hcl]at hl hf;have hcs:cs.toList=cl:=by rw[<-hcl];simp[Value.cells]
 match cl,hl with
 |[v0,v1,v2,v3],_=>
 match xs,hxl with
 |[y0,y1,y2,y3],_=>
  have e0:DataW.trod enc Try.prog w base (fun _=>true) held n 22 [v0]=some y0:=hf 0 _ rfl;have e1:DataW.trod enc Try.prog w base (fun _=>true) held n 23 [v1]=some y1:=hf 1 _ rfl;have e2:DataW.trod enc Try.prog w base (fun _=>true) held n 24 [v2]=some y2:=hf 2 _ rfl;have e3:DataW.trod enc Try.prog w base (fun _=>true) held n 25 [v3]=some y3:=hf 3 _ rfl;have hd:d=.agg [y0.1,y1.1,y2.1,y3.1]:=congrArg Prod.fst hx;have hws:∀ (j:Nat) (t:TypeId) (d:DataW H),[22,23,24,25][j]? =some t->[y0.1,y1.1,y2.1,y3.1][j]? =some d->∀n∈d.weights Try.prog t,n<=reachBytes:=fun j t d' ht hd' n hn=>by
   refine hw n ?_;rw[hd];show n∈DataW.weights Try.prog 27 (.agg [y0.1,y1.1,y2.1,y3.1]);rw[DataW.weights,Try.underlying27];exact DataW.weights_mem_each (ts:=[22,23,24,25]) ht hd' n hn
  obtain⟨l0,r0,s0,g0⟩:=BF (Good:=fun p:AF=>p.name.size<=140737488351232) dE Bz Try.underlying22 Cb DC dE (fun h hw=>Fi h hw) e0 (hws 0 _ _ rfl rfl);obtain⟨l1,r1,s1,g1⟩:=BF (Good:=fun _:Ty=>True) dE BY Try.underlying23 Ct DZ dE (fun h _=>Eu h) e1 (hws 1 _ _ rfl rfl);obtain⟨l2,r2,s2,g2⟩:=BF (Good:=H8) dE Co Try.underlying24 Cs DY dE (fun h _=>Gj h) e2 (hws 2 _ _ rfl rfl);obtain⟨l3,r3,s3,g3⟩:=BF (Good:=Gx) dE Ba Try.underlying25 Cr DX dE (fun h _=>Fh h) e3 (hws 3 _ _ rfl rfl);refine⟨v0,v1,v2,v3,⟨l0,l1,l2,l3⟩,?_,⟨r0,r1,r2,r3⟩,⟨by show l0.length<=_;omega,g0,by show l1.length<=_;omega,by show l2.length<=_;omega,by show l3.length<=_;omega,g2,g3⟩,s0,s1,s2,s3⟩;rw[Value.agg.injEq];apply Array.toList_inj.1;exact hcs
end
end
end Go.Proofs.Ytjglaibglofddaa
