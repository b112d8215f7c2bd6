import Derived.Test.YtheanilpbnencaaGreatSpe10
import Derived.Shelf.Small.Bits
import Derived.Test.YtheanilpbnencaaGreatSpe8
import Derived.Test.YtheanilpbnencaaGreatSpe9
import Derived.Test.YtheanilpbnencaaGreatSpe2
import Derived.Deep.AppendLies
import Derived.Deep.DeepCutAuto
import Derived.Test.YtheanilpbnencaaGreatRows
import Derived.WalkKit
import Derived.ProofKit
import Derived.OpenShut
import Derived.JoinedCond
import Derived.Deep.Slices
import Derived.Deep.Strs
import Derived.SizedLaws
import Derived.Test.YtheanilpbnencaaGreatSpe1
namespace Go.Proofs.YtheanilpbnencaaGreat
open Go.RowKit Go.Proofs.Tryz
set_option linter.all false
set_option maxRecDepth 100000
set_option maxHeartbeats 16000000
section
open Go.RowKit Go.Shelf Go.Proofs.Tryz
end
def Qr(x n:Int):Nat->Int->Int
 |0,r=>r
 |k+1,r=>Qr x n k (if n/2^k%2=1 then Ek (Ek r r) x else Ek r r)
def Hi(x n:Int):Int:=if n<1 then 1065353216 else Qr x n (Ce n.toNat-1) (A9 x)
theorem Ma(x n:Int):∀ (k:Nat) (r:Int),0<=r->r<4294967296->0<=Qr x n k r/\Qr x n k r<4294967296
 |0,r,h0,h1=>⟨h0,h1⟩
 |k+1,r,h0,h1=>by
  unfold Qr;split
  .exact Ma x n k _ (DR _ _).1 (DR _ _).2
  .exact Ma x n k _ (DR _ _).1 (DR _ _).2
theorem Tn(x n:Int)(h0:0<=x)(h1:x<4294967296):0<=Hi x n/\Hi x n<4294967296:=by
 unfold Hi;split
 .decide
 .exact Ma x n _ _ (DD x h0 h1).1 (DD x h0 h1).2
theorem SO(n:Int)(h0:0<=n)(h1:n<=9223372036854775807)(i:Nat):bits .and .i64 (n/2^i) 1=n/2^i%2:=by
 have e:n/2^i=((n.toNat/2^i:Nat):Int):=by
  rw[Int.natCast_ediv,Int.natCast_pow,Int.toNat_of_nonneg h0];rfl
 have hle:n.toNat/2^i<=n.toNat:=Nat.div_le_self ..;rw[e];generalize n.toNat/2^i=q at *;have hx:q&&& 1=q%2:=Nat.and_one_is_mod q;show IntKind.i64.wrap ((BitVec.ofInt 64 (q:Int)&&& BitVec.ofInt 64 ((1:Nat):Int)).toNat:Int)=_;rw[BitVec.toNat_and,ofInt_u64 q oM,ofInt_u64 1 dE,hx,IntKind.wrap_i64];omega
theorem RE(x:Int)(h0:0<=x)(h1:x<4294967296)(n:Int)(n0: -9223372036854775808<=n)(n1:n<=9223372036854775807)(w:World):
 Calls prog 37 #[.int .i64 x,.int .i64 n] w fun e w'=>e=.returned (.int .i64 (Hi x n))/\Below w.heap.size w w':=by
 unfold Hi;by_cases c:n<1
 .rw[if_pos c];go_enter func37,ntmps37;go_wp2;go_ret;exact⟨rfl,Iw _⟩
 .rw[if_neg c];have hc:=DD x h0 h1;have hc':0<=A9 x/\A9 x<4294967296:=hc;clear hc;have hB:1<=Ce n.toNat/\Ce n.toNat<=63:=by
   unfold Ce;rw[if_neg oM];have:n.toNat.log2<63:=(Nat.log2_lt oM).2 (by have:(2:Nat)^63=9223372036854775808:=rfl;omega);omega
  generalize hBB:Ce n.toNat=B at *;generalize hP:Qr x n (B-1) (A9 x)=P at *;have HP:Hid (Qr x n (B-1) (A9 x)=P):=hP;clear hP;go_enter func37,ntmps37;go_wp2_with(first
   |(go_at_call 66;refine(EJ _ oM oM _).mono ?_;rintro e w1 ⟨rfl,hb1⟩)
   |(go_at_call 67;refine(E5 _ oM oM _).mono ?_;rintro e w' ⟨rfl,hw'⟩;obtain rfl:=hw'.symm))
  go_loopw [5,6] (fun rv pv wr=>Below w.heap.size w wr/\∃ (j:Nat) (r:Int),j<=62/\rv=.int .i64 r/\pv=.int .i64 ((j:Int)-1)/\0<=r/\r<4294967296/\Qr x n j r=P) (fun _ pv _=>(intOf pv+1).toNat)
  case atStart=>exact⟨hb1,B-1,A9 x,oM,rfl,by rw[show((B-1:Nat):Int)-1=(B:Int)-2 by omega],hc'.1,hc'.2,HP.out⟩
  case round=>
   obtain⟨hbel,j,r,hj,rfl,rfl,r0,r1,hr⟩:=hrel;have HR:Hid (Qr x n j r=P):=hr;clear hr;rcases Nat.eq_zero_or_pos j with hz|hz
   .subst hz;have hPr:r=P:=HR.out;subst hPr;clear HR HP;go_wp2;go_ret;exact⟨rfl,hbel⟩
   .obtain⟨i,rfl⟩:∃i,j=i+1:=⟨j-1,oM⟩
    rw[show((i+1:Nat):Int)-1=(i:Int) by omega];have hbit:=SO n oM n1 i;have l1:=DR r r;have l2:=DR (Ek r r) x;by_cases cb:n/2^i%2=1
    .go_wp2_with(go_at_call 68;refine(I2 _ oM oM _ oM oM _).mono ?_;rintro e w2 ⟨rfl,hb2⟩);go_roundw
     case rel=>exact⟨by repeat(first|assumption|refine H5 ?_ (by assumption)),i,_,oM,rfl,rfl,l2.1,l2.2,by have:=HR.out;rw[Qr,if_pos cb]at this;exact this⟩
     case measure=>first|(simp[intOf];done)|(simp[intOf];omega)
    .go_wp2_with(go_at_call 68;refine(I2 _ oM oM _ oM oM _).mono ?_;rintro e w2 ⟨rfl,hb2⟩);go_roundw
     case rel=>exact⟨by repeat(first|assumption|refine H5 ?_ (by assumption)),i,_,oM,rfl,rfl,l1.1,l1.2,by have:=HR.out;rw[Qr,if_neg cb]at this;exact this⟩
     case measure=>first|(simp[intOf];done)|(simp[intOf];omega)
theorem Kr{B:Nat}{V:World}{e t:TypeId}{z:Value}{sz by':Nat}(ht:prog.underlying t=some (.slice e))(hi:(prog.info? e).map (fun i=>(i.zero,i.size,i.bytes))=some (some z,sz,by'))(hzs:z.cells.size=sz)(hsz:0<sz){p:Option Addr}{n q:Nat}{xs:List Value}(h:V.ownsRow B e sz (.slice p n q) n xs)(hB:B<=V.heap.size)
 (cs:Array Value) (hcs:cs.size=sz) (h1:∀u∈cs.toList,u.oneCell'=true) (hn:n+1<=maxLen) (hb:(n+1)*by'<=140737488355328) (ty:TypeId):
 ∃g c' w',(Builtin.append_ #[t,t] ty #[.slice p n q,.slice (some ⟨V.heap.size,0,none⟩) 1 1]).run prog (V.alloc (.cells cs e))=.ok (.slice (some ⟨g,0,none⟩) (n+1) c') w'/\Below B V w'/\w'.ownsRow B e sz (.slice (some ⟨g,0,none⟩) (n+1) c') (n+1) (xs++cs.toList)/\(∀b,b<V.heap.size->(Value.slice p n q).ownBlock≠some b->w'.heap[b]? =V.heap[b]?)/\((Value.slice p n q).ownBlock=some g\/V.heap.size<g):=by
 obtain⟨i0,hi0,hz0,hz1,hz2⟩:=info_parts hi;have hb0:Below V.heap.size V (V.alloc (.cells cs e)):=A0 _ _;have hs:(V.alloc (.cells cs e)).heap.size=V.heap.size+1:=sM;have h0:=AA h hb0;obtain⟨g,cap,w3,hr,hown,hgrow,hat,hlt⟩:=run_append_lies (P:=prog) (V.alloc (.cells cs e)) t ty B e i0 _ sz by' ht hi0 hz0 hz1 hz2 hzs hsz (.slice p n q) n xs h0 ⟨V.heap.size,0,none⟩ 1 1 cs.toList (by simp[hcs])
  (World.news_of_block (cs:=cs) (t:=e) (fr:=(0,0)) (heap_alloc_new V _)) h1 dE hn hb oM _ rfl
 exact YL
theorem Aa{p:Prop}(h:p):Hid p:=h
theorem c4{w:World}{b:Nat}{t:TypeId}{v0 v1 v2 v3:Value}(h:w.rowIs b t 4 (f4 v0 v1 v2 v3)):w.cell? ⟨b,0,none⟩=some v0/\w.cell? ⟨b,1,none⟩=some v1/\w.cell? ⟨b,2,none⟩=some v2/\w.cell? ⟨b,3,none⟩=some v3:=⟨h.cell (i:=0) dE,h.cell (i:=1) dE,h.cell (i:=2) dE,h.cell (i:=3) dE⟩
theorem z4{w:World}{b n:Nat}{t:TypeId}{f:Nat->Value}(h:w.rowIs b t n f):w.frozen? ⟨b,0,none⟩=false/\w.frozen? ⟨b,1,none⟩=false/\w.frozen? ⟨b,2,none⟩=false/\w.frozen? ⟨b,3,none⟩=false:=⟨h.frozen 0,h.frozen 1,h.frozen 2,h.frozen 3⟩
def g2(a0 a1:Value)(k:Nat):Value:=if k=0 then a0 else a1
theorem c2{w:World}{b:Nat}{t:TypeId}{a0 a1:Value}(h:w.rowIs b t 2 (g2 a0 a1)):w.cell? ⟨b,0,none⟩=some a0/\w.cell? ⟨b,1,none⟩=some a1:=⟨h.cell (i:=0) dE,h.cell (i:=1) dE⟩
theorem z2{w:World}{b n:Nat}{t:TypeId}{f:Nat->Value}(h:w.rowIs b t n f):w.frozen? ⟨b,0,none⟩=false/\w.frozen? ⟨b,1,none⟩=false:=⟨h.frozen 0,h.frozen 1⟩
def g3(a0 a1 a2:Value)(k:Nat):Value:=if k=0 then a0 else if k=1 then a1 else a2
theorem c3{w:World}{b:Nat}{t:TypeId}{a0 a1 a2:Value}(h:w.rowIs b t 3 (g3 a0 a1 a2)):w.cell? ⟨b,0,none⟩=some a0/\w.cell? ⟨b,1,none⟩=some a1/\w.cell? ⟨b,2,none⟩=some a2:=⟨h.cell (i:=0) dE,h.cell (i:=1) dE,h.cell (i:=2) dE⟩
theorem z3{w:World}{b n:Nat}{t:TypeId}{f:Nat->Value}(h:w.rowIs b t n f):w.frozen? ⟨b,0,none⟩=false/\w.frozen? ⟨b,1,none⟩=false/\w.frozen? ⟨b,2,none⟩=false:=⟨h.frozen 0,h.frozen 1,h.frozen 2⟩
def g5(a0 a1 a2 a3 a4:Value)(k:Nat):Value:=if k=0 then a0 else if k=1 then a1 else if k=2 then a2 else if k=3 then a3 else a4
theorem c5{w:World}{b:Nat}{t:TypeId}{a0 a1 a2 a3 a4:Value}(h:w.rowIs b t 5 (g5 a0 a1 a2 a3 a4)):w.cell? ⟨b,0,none⟩=some a0/\w.cell? ⟨b,1,none⟩=some a1/\w.cell? ⟨b,2,none⟩=some a2/\w.cell? ⟨b,3,none⟩=some a3/\w.cell? ⟨b,4,none⟩=some a4:=⟨h.cell (i:=0) dE,h.cell (i:=1) dE,h.cell (i:=2) dE,h.cell (i:=3) dE,h.cell (i:=4) dE⟩
theorem z5{w:World}{b n:Nat}{t:TypeId}{f:Nat->Value}(h:w.rowIs b t n f):w.frozen? ⟨b,0,none⟩=false/\w.frozen? ⟨b,1,none⟩=false/\w.frozen? ⟨b,2,none⟩=false/\w.frozen? ⟨b,3,none⟩=false/\w.frozen? ⟨b,4,none⟩=false:=⟨h.frozen 0,h.frozen 1,h.frozen 2,h.frozen 3,h.frozen 4⟩
def g7(a0 a1 a2 a3 a4 a5 a6:Value)(k:Nat):Value:=if k=0 then a0 else if k=1 then a1 else if k=2 then a2 else if k=3 then a3 else if k=4 then a4 else if k=5 then a5 else a6
theorem c7{w:World}{b:Nat}{t:TypeId}{a0 a1 a2 a3 a4 a5 a6:Value}(h:w.rowIs b t 7 (g7 a0 a1 a2 a3 a4 a5 a6)):w.cell? ⟨b,0,none⟩=some a0/\w.cell? ⟨b,1,none⟩=some a1/\w.cell? ⟨b,2,none⟩=some a2/\w.cell? ⟨b,3,none⟩=some a3/\w.cell? ⟨b,4,none⟩=some a4/\w.cell? ⟨b,5,none⟩=some a5/\w.cell? ⟨b,6,none⟩=some a6:=⟨h.cell (i:=0) dE,h.cell (i:=1) dE,h.cell (i:=2) dE,h.cell (i:=3) dE,h.cell (i:=4) dE,h.cell (i:=5) dE,h.cell (i:=6) dE⟩
theorem z7{w:World}{b n:Nat}{t:TypeId}{f:Nat->Value}(h:w.rowIs b t n f):w.frozen? ⟨b,0,none⟩=false/\w.frozen? ⟨b,1,none⟩=false/\w.frozen? ⟨b,2,none⟩=false/\w.frozen? ⟨b,3,none⟩=false/\w.frozen? ⟨b,4,none⟩=false/\w.frozen? ⟨b,5,none⟩=false/\w.frozen? ⟨b,6,none⟩=false:=⟨h.frozen 0,h.frozen 1,h.frozen 2,h.frozen 3,h.frozen 4,h.frozen 5,h.frozen 6⟩
section
open Go.ChangeShapes Go.WideShapes Go.ChangeAt Go.RowKit
theorem H6:Tryz.prog.cellsOf 55=7:=kR
theorem Gu:Tryz.prog.cellsOf 73=3:=kR
theorem H8:Tryz.prog.cellsOf 63=2:=kR
theorem H7:Tryz.prog.cellsOf 65=5:=kR
theorem LQ:Tryz.prog.cellsOf 27=4:=kR
theorem LM:Tryz.prog.bytesOf 55=56:=kR
theorem JX:Tryz.prog.bytesOf 73=32:=kR
theorem LP:Tryz.prog.bytesOf 63=16:=kR
theorem LO:Tryz.prog.bytesOf 65=32:=kR
theorem Ej{H:Type}{P:Program}{e:TypeId}:∀ {l:List (DataW H)} {d:DataW H},d∈l->∀n∈d.weights P e,n∈DataW.weightsAll P e l
 |[],d,h,n,hn=>by cases h
 |x::r,d,h,n,hn=>by
  simp only[DataW.weightsAll,List.mem_append];rcases List.mem_cons.1 h with rfl|h
  .exact .inl hn
  .exact .inr (Ej h n hn)
section
variable {H : Type} {enc : TypeId × Value -> H} {w : World} {base : Nat} {held : Bool}
def UM(i:Am):Prop:=0<=i.bits/\i.bits<4294967296
theorem QL{fuel:Nat}{cs:List Value}{x:DataW H×List MemPlace}(h:DataW.trod enc Tryz.prog w base (fun _=>true) held fuel 55 cs=some x):∃i:Am,cs=EW i/\UM i:=by
 obtain⟨xs,n,hfn,hx,hl,hxl,hf⟩:=DataW.trod_struct Tryz.underlying55 h;rw[H6]at hl
 match cs,hl with
 |[v0,v1,v2,v3,v4,v5,v6],_=>
 match xs,hxl with
 |[y0,y1,y2,y3,y4,y5,y6],_=>
  have e0:DataW.trod enc Tryz.prog w base (fun _=>true) held n 3 [v0]=some y0:=hf 0 _ rfl;have e1:DataW.trod enc Tryz.prog w base (fun _=>true) held n 3 [v1]=some y1:=hf 1 _ rfl;have e2:DataW.trod enc Tryz.prog w base (fun _=>true) held n 3 [v2]=some y2:=hf 2 _ rfl;have e3:DataW.trod enc Tryz.prog w base (fun _=>true) held n 3 [v3]=some y3:=hf 3 _ rfl;have e4:DataW.trod enc Tryz.prog w base (fun _=>true) held n 3 [v4]=some y4:=hf 4 _ rfl;have e5:DataW.trod enc Tryz.prog w base (fun _=>true) held n 3 [v5]=some y5:=hf 5 _ rfl;have e6:DataW.trod enc Tryz.prog w base (fun _=>true) held n 53 [v6]=some y6:=hf 6 _ rfl;obtain⟨a0,c0,-,w0⟩:=DataW.trod_int Tryz.underlying3 e0;obtain⟨a1,c1,-,w1⟩:=DataW.trod_int Tryz.underlying3 e1;obtain⟨a2,c2,-,w2⟩:=DataW.trod_int Tryz.underlying3 e2;obtain⟨a3,c3,-,w3⟩:=DataW.trod_int Tryz.underlying3 e3;obtain⟨a4,c4,-,w4⟩:=DataW.trod_int Tryz.underlying3 e4;obtain⟨a5,c5,-,w5⟩:=DataW.trod_int Tryz.underlying3 e5;obtain⟨a6,c6,-,w6⟩:=DataW.trod_int Tryz.underlying53 e6;simp only[List.cons.injEq,and_true]at c0 c1 c2 c3 c4 c5 c6;subst c0 c1 c2 c3 c4 c5 c6;exact⟨⟨a0,a1,a2,a3,a4,a5,a6⟩,rfl,(bounds_u32 w6).1,Int.lt_add_one_of_le (bounds_u32 w6).2⟩
theorem QM{fuel:Nat}{cs:List Value}{x:DataW H×List MemPlace}(h:DataW.trod enc Tryz.prog w base (fun _=>true) held fuel 73 cs=some x)(hw:∀n∈x.1.weights Tryz.prog 73,n<=reachBytes):
 ∃p:Bd,cs=Bh p/\p.name.size<=140737488351232:=by
 obtain⟨xs,n,hfn,hx,hl,hxl,hf⟩:=DataW.trod_struct Tryz.underlying73 h;rw[Gu]at hl
 match cs,hl with
 |[v0,v1,v2],_=>
 match xs,hxl with
 |[y0,y1,y2],_=>
  have e0:DataW.trod enc Tryz.prog w base (fun _=>true) held n 9 [v0]=some y0:=hf 0 _ rfl;have e1:DataW.trod enc Tryz.prog w base (fun _=>true) held n 3 [v1]=some y1:=hf 1 _ rfl;have e2:DataW.trod enc Tryz.prog w base (fun _=>true) held n 3 [v2]=some y2:=hf 2 _ rfl;obtain⟨a0,c0,hd0,w0⟩:=DataW.trod_string Tryz.underlying9 e0;obtain⟨a1,c1,hd1,w1⟩:=DataW.trod_int Tryz.underlying3 e1;obtain⟨a2,c2,hd2,w2⟩:=DataW.trod_int Tryz.underlying3 e2;simp only[List.cons.injEq,and_true]at c0 c1 c2;subst c0 c1 c2;subst hx;have hws:∀ (j:Nat) (t:TypeId) (d:DataW H),[9,3,3][j]? =some t->[y0.1,y1.1,y2.1][j]? =some d->∀n∈d.weights Tryz.prog t,n<=reachBytes:=fun j t d ht hd n hn=>by
   refine hw n ?_;show n∈DataW.weights Tryz.prog 73 (.agg [y0.1,y1.1,y2.1]);rw[DataW.weights,Tryz.underlying73];exact DataW.weights_mem_each (ts:=[9,3,3]) ht hd n hn
  have s1:a0.size<=140737488351232:=by
   have:=hws 0 _ _ rfl rfl a0.data.toList.length (by rw[hd0];simp[DataW.weights]);simpa[reachBytes]using this
  exact⟨⟨a0,a1,a2⟩,rfl,s1⟩
theorem Nz{fuel:Nat}{cs:List Value}{x:DataW H×List MemPlace}(h:DataW.trod enc Tryz.prog w base (fun _=>true) held fuel 63 cs=some x):∃t:Ty,cs=PT t/\True:=by
 obtain⟨xs,n,hfn,hx,hl,hxl,hf⟩:=DataW.trod_struct Tryz.underlying63 h;rw[H8]at hl
 match cs,hl with
 |[v0,v1],_=>
 match xs,hxl with
 |[y0,y1],_=>
  have e0:DataW.trod enc Tryz.prog w base (fun _=>true) held n 3 [v0]=some y0:=hf 0 _ rfl;have e1:DataW.trod enc Tryz.prog w base (fun _=>true) held n 3 [v1]=some y1:=hf 1 _ rfl;obtain⟨a0,c0,-,w0⟩:=DataW.trod_int Tryz.underlying3 e0;obtain⟨a1,c1,-,w1⟩:=DataW.trod_int Tryz.underlying3 e1;simp only[List.cons.injEq,and_true]at c0 c1;subst c0 c1;exact⟨⟨a0,a1⟩,rfl,trivial⟩
def Wc(s:Sl):Prop:=0<=s.bits/\s.bits<4294967296
theorem TV{fuel:Nat}{cs:List Value}{x:DataW H×List MemPlace}(h:DataW.trod enc Tryz.prog w base (fun _=>true) held fuel 65 cs=some x):∃s:Sl,cs=Py s/\Wc s:=by
 obtain⟨xs,n,hfn,hx,hl,hxl,hf⟩:=DataW.trod_struct Tryz.underlying65 h;rw[H7]at hl
 match cs,hl with
 |[v0,v1,v2,v3,v4],_=>
 match xs,hxl with
 |[y0,y1,y2,y3],_=>
  have e0:DataW.trod enc Tryz.prog w base (fun _=>true) held n 63 [v0,v1]=some y0:=hf 0 _ rfl;have e1:DataW.trod enc Tryz.prog w base (fun _=>true) held n 4 [v2]=some y1:=hf 1 _ rfl;have e2:DataW.trod enc Tryz.prog w base (fun _=>true) held n 53 [v3]=some y2:=hf 2 _ rfl;have e3:DataW.trod enc Tryz.prog w base (fun _=>true) held n 3 [v4]=some y3:=hf 3 _ rfl;obtain⟨t,ht,-⟩:=Nz e0;obtain⟨a1,c1,-⟩:=DataW.trod_bool Tryz.underlying4 e1;obtain⟨a2,c2,-,w2⟩:=DataW.trod_int Tryz.underlying53 e2;obtain⟨a3,c3,-,w3⟩:=DataW.trod_int Tryz.underlying3 e3;obtain⟨K,P⟩:=t;simp only[PT,List.cons.injEq,and_true]at ht c1 c2 c3;obtain⟨rfl,rfl⟩:=ht;subst c1 c2 c3;exact⟨⟨⟨K,P⟩,a1,a2,a3⟩,rfl,(bounds_u32 w2).1,Int.lt_add_one_of_le (bounds_u32 w2).2⟩
theorem Co{α:Type}[Inhabited α]{f:α->List Value}{k bytes:Nat}{t e:TypeId}{Good:α->Prop}(hk:0<k)(hf:∀x,(f x).length=k)(ht:Tryz.prog.underlying t=some (.slice e))(hce:Tryz.prog.cellsOf e=k)(hby:Tryz.prog.bytesOf e=bytes)(hb0:0<bytes)
 (hop:∀ {fuel:Nat} {cs:List Value} {x:DataW H×List MemPlace},DataW.trod enc Tryz.prog w base (fun _=>true) held fuel e cs=some x->(∀n∈x.1.weights Tryz.prog e,n<=reachBytes)->∃a:α,cs=f a/\Good a)
 {fuel:Nat} {v:Value} {x:DataW H×List MemPlace} (h:DataW.trod enc Tryz.prog w base (fun _=>true) held fuel t [v]=some x) (hw:∀n∈x.1.weights Tryz.prog t,n<=reachBytes):
 ∃l:List α,Bj k f w v l/\l.length*bytes<=140737488351232/\∀a∈l,Good a:=by
 rcases DataW.trod_slice ht h with⟨hcs,hx⟩|⟨a,len,cap,elems,rest,m,hm,hcs,hx,_,hl,_,hel,hread,_,_⟩
 .simp only[List.cons.injEq,and_true]at hcs;subst hcs;exact⟨[],⟨none,0,rfl,.inl rfl⟩,sM,fun a h=>by cases h⟩
 .simp only[List.cons.injEq,and_true]at hcs;subst hcs;subst hx;have BD:∀i,i<len->∃q:α,(∀j,j<k->w.cell? (a.add (i*k+j))=(f q)[j]?)/\Good q:=by
   intro i hi;have h1:=hread i hi;rw[hce]at h1;have hie:i<elems.length:=oM;rw[gB hie]at h1;obtain⟨cs',h2,h3⟩:=Option.bind_eq_some_iff.1 h1;obtain⟨_,hlen3,hcell⟩:=World.cells?_some h2;obtain⟨q,hcs,hok⟩:=hop h3 (fun n hn=>hw n (by
    rw[DataW.weights,ht]
    exact List.mem_cons_of_mem _ (List.mem_append_left _ (Ej (List.mem_map.2 ⟨elems[i],gD hie,rfl⟩) n hn))))
   refine⟨q,fun j hj=>?_,hok⟩;have:=hcell j hj;rw[Go.Deep.add_add,hcs]at this;exact this
  obtain⟨g,hg⟩:=Go.Deep.choose_lt BD;have hTl:((List.range len).map g).length=len:=sM;have hbig:len*bytes<=140737488351232:=by
   have:=hw _ (by rw[DataW.weights,ht];exact List.mem_cons_self);rw[hby]at this;simp only[List.length_map,reachBytes]at this;have hln:elems.length=len:=oM;simp only[hln]at this;exact gH (Nat.mul_le_mul_right _ (Nat.le_add_right _ _)) this
  refine⟨(List.range len).map g,?_,by rw[hTl];exact hbig,?_⟩
  .refine⟨some a,cap,by rw[hTl],?_⟩;by_cases hl0:len=0
   .left;simp[hl0]
   .obtain⟨b,off,spot⟩:=a;have hne:0<(f (g 0)).length:=by rw[hf];exact hk
    have hspot:spot=none:=by
     have:=(hg 0 oM).1 0 hk;rw[gB hne]at this;simpa[Addr.add]using World.cell?_spot this
    subst hspot;refine .inr ⟨b,off,rfl,fun i hi j hj=>?_⟩;have hi':i<len:=by rw[hTl]at hi;exact hi
    obtain⟨q,-⟩:=hg i hi';have e:((List.range len).map g)[i]=g i:=sM;have hj2:j<(f (g i)).length:=by simpa[e]using hj
    have hj3:j<k:=by rw[<-hf (g i)];exact hj2
    have q':=q j hj3;rw[JQ,<-Nat.add_assoc]at q';rw[q',gB hj2];congr 1;simp[e]
  .intro q hq;obtain⟨i,hi,rfl⟩:=List.mem_map.1 hq;exact(hg i (List.mem_range.1 hi)).2
instance:Inhabited Am:=⟨⟨0,0,0,0,0,0,0⟩⟩
instance:Inhabited Ty:=⟨⟨0,0⟩⟩
instance:Inhabited Sl:=⟨⟨⟨0,0⟩,false,0,0⟩⟩
instance:Inhabited Bd:=⟨⟨⟨#[]⟩,0,0⟩⟩
theorem OX{r:Reach}{b0:Nat}{v:Value}{d:DataW H}{pl:List MemPlace}(hv:Value.okWide Tryz.prog w r b0 27 v)(h:DataW.Trod enc Tryz.prog w base (fun _=>true) held 27 v d pl)(hw:∀n∈d.weights Tryz.prog 27,n<=reachBytes):
 ∃ (v0 v1 v2 v3:Value) (c:Cd),v=.agg #[v0,v1,v2,v3]/\Cy w v0 v1 v2 v3 c/\AZ c/\c.sign.length*32<=140737488351232/\c.regs.length*16<=140737488351232/\c.slots.length*32<=140737488351232/\c.list.length*56<=140737488351232:=by
 obtain⟨cs,rfl,hsz⟩:=okWide_struct Tryz.underlying27 hv;obtain⟨fuel,hf0⟩:=h;obtain⟨xs,n,hfn,hx,hl,hxl,hf⟩:=DataW.trod_struct Tryz.underlying27 hf0;rw[LQ]at hl;obtain⟨cl,hcl⟩:=gA ((Value.agg cs).cells.toList)
 rw[hcl]at hl hf;have hcs:cs.toList=cl:=by rw[<-hcl];simp[Value.cells]
 match cl,hl with
 |[v0,v1,v2,v3],_=>
 match xs,hxl with
 |[y0,y1,y2,y3],_=>
  have e0:DataW.trod enc Tryz.prog w base (fun _=>true) held n 22 [v0]=some y0:=hf 0 _ rfl;have e1:DataW.trod enc Tryz.prog w base (fun _=>true) held n 23 [v1]=some y1:=hf 1 _ rfl;have e2:DataW.trod enc Tryz.prog w base (fun _=>true) held n 24 [v2]=some y2:=hf 2 _ rfl;have e3:DataW.trod enc Tryz.prog w base (fun _=>true) held n 25 [v3]=some y3:=hf 3 _ rfl;have hd:d=.agg [y0.1,y1.1,y2.1,y3.1]:=congrArg Prod.fst hx;have hws:∀ (j:Nat) (t:TypeId) (d:DataW H),[22,23,24,25][j]? =some t->[y0.1,y1.1,y2.1,y3.1][j]? =some d->∀n∈d.weights Tryz.prog t,n<=reachBytes:=fun j t d' ht hd' n hn=>by
   refine hw n ?_;rw[hd];show n∈DataW.weights Tryz.prog 27 (.agg [y0.1,y1.1,y2.1,y3.1]);rw[DataW.weights,Tryz.underlying27];exact DataW.weights_mem_each (ts:=[22,23,24,25]) ht hd' n hn
  obtain⟨l0,r0,s0,g0⟩:=Co (Good:=fun p:Bd=>p.name.size<=140737488351232) dE FL Tryz.underlying22 Gu JX dE (fun h hw=>QM h hw) e0 (hws 0 _ _ rfl rfl);obtain⟨l1,r1,s1,g1⟩:=Co (Good:=fun _:Ty=>True) dE GY Tryz.underlying23 H8 LP dE (fun h _=>Nz h) e1 (hws 1 _ _ rfl rfl);obtain⟨l2,r2,s2,g2⟩:=Co (Good:=Wc) dE JE Tryz.underlying24 H7 LO dE (fun h _=>TV h) e2 (hws 2 _ _ rfl rfl);obtain⟨l3,r3,s3,g3⟩:=Co (Good:=UM) dE FD Tryz.underlying25 H6 LM dE (fun h _=>QL h) e3 (hws 3 _ _ rfl rfl);refine⟨v0,v1,v2,v3,⟨l0,l1,l2,l3⟩,?_,⟨r0,r1,r2,r3⟩,⟨by show l0.length<=_;omega,g0,by show l1.length<=_;omega,by show l2.length<=_;omega,by show l3.length<=_;omega,g2,g3⟩,s0,s1,s2,s3⟩;rw[Value.agg.injEq];apply Array.toList_inj.1;exact hcs
end
end
theorem MU(v0 v1 v2 v3:Value)(c:Cd)(hz:W9 c)(w:World)(hv:Cy w v0 v1 v2 v3 c):
 Calls prog 5 #[.agg #[v0,v1,v2,v3]] w fun e w'=>∃u0 u1 u2 u3,e=.returned (.agg #[u0,u1,u2,u3])/\Cy w' u0 u1 u2 u3 c/\Wb w.heap.size w' u0 u1 u2 u3 c/\Below w.heap.size w w':=by
 have s0:=hz.s;have s1:=hz.r;have s2:=hz.l;have s3:=hz.i;have C0:=CW.start w v0 v1 v2 v3;obtain⟨W0,hW0⟩:∃W,((w.alloc (.cells #[v0,v1,v2,v3] 27)).alloc (.cells #[.slice none 0 0,.slice none 0 0,.slice none 0 0,.slice none 0 0] 27)).alloc (.cells #[.slice none 0 0,.slice none 0 0,.slice none 0 0,.slice none 0 0] 27)=W:=⟨_,rfl⟩
 have hE:W0.heap.size=w.heap.size+1+1+1:=by rw[<-hW0];simp
 rw[hW0]at C0;have U0:Up (w.heap.size+1+1+1) W0 W0:=⟨gF _,fun _ _ _=>rfl⟩
 obtain⟨z0,w1,r0,b0,o0⟩:=SQ (hv.sign.below C0.bel) oM 22;obtain⟨p0,q0,rfl⟩:=At o0;have D0:=C0.app b0;have c00:=C0.c.at 0 rfl;have c01:W0.cell? ⟨w.heap.size+1+1,0,none⟩=some (.slice none 0 0):=C0.d.cell (i:=0) dE;have c02:w1.cell? ⟨w.heap.size+1+1,0,none⟩=some (.slice none 0 0):=D0.d.cell (i:=0) dE;have c03:=D0.d.frozen 0;rw[Nat.zero_add]at c00;have C1:=D0.put (y0:=(.slice p0 c.sign.length q0)) (y1:=(.slice none 0 0)) (y2:=(.slice none 0 0)) (y3:=(.slice none 0 0)) 0 (.slice p0 c.sign.length q0) Xf;obtain⟨V1,hV1⟩:∃V,w1.setCell ⟨w.heap.size+1+1,0,none⟩ (.slice p0 c.sign.length q0)=V:=⟨_,rfl⟩
 have U1:Up (w.heap.size+1+1+1) W0 V1:=by rw[<-hV1];exact(Up.of b0).trans (Up.set _ oM _ _)
 have T1:Up (w.heap.size+1+1+1) w1 V1:=by rw[<-hV1];exact Up.set _ oM _ _
 have HV0:Hid (w1.setCell ⟨w.heap.size+1+1,0,none⟩ (.slice p0 c.sign.length q0)=V1):=hV1;rw[hV1]at C1;have HR0:Hid ((Builtin.append_ #[22,22] 22 #[.slice none 0 0,v0]).run prog W0=.ok (.slice p0 c.sign.length q0) w1):=r0;have e0:w.heap.size+1+1+1<=W0.heap.size:=by have:=U0.1;omega
 obtain⟨z1,w2,r1,b1,o1⟩:=Vc (hv.regs.below C1.bel) oM 23;obtain⟨p1,q1,rfl⟩:=At o1;have D1:=C1.app b1;have c10:=C1.c.at 1 rfl;have c11:V1.cell? ⟨w.heap.size+1+1,1,none⟩=some (.slice none 0 0):=C1.d.cell (i:=1) dE;have c12:w2.cell? ⟨w.heap.size+1+1,1,none⟩=some (.slice none 0 0):=D1.d.cell (i:=1) dE;have c13:=D1.d.frozen 1;rw[Nat.zero_add]at c10;have C2:=D1.put (y0:=(.slice p0 c.sign.length q0)) (y1:=(.slice p1 c.regs.length q1)) (y2:=(.slice none 0 0)) (y3:=(.slice none 0 0)) 1 (.slice p1 c.regs.length q1) Xf;obtain⟨V2,hV2⟩:∃V,w2.setCell ⟨w.heap.size+1+1,1,none⟩ (.slice p1 c.regs.length q1)=V:=⟨_,rfl⟩
 have U2:Up (w.heap.size+1+1+1) V1 V2:=by rw[<-hV2];exact(Up.of b1).trans (Up.set _ oM _ _)
 have T2:Up (w.heap.size+1+1+1) w2 V2:=by rw[<-hV2];exact Up.set _ oM _ _
 have HV1:Hid (w2.setCell ⟨w.heap.size+1+1,1,none⟩ (.slice p1 c.regs.length q1)=V2):=hV2;rw[hV2]at C2;have HR1:Hid ((Builtin.append_ #[23,23] 23 #[.slice none 0 0,v1]).run prog V1=.ok (.slice p1 c.regs.length q1) w2):=r1;have e1:w.heap.size+1+1+1<=V1.heap.size:=by have:=U1.1;omega
 obtain⟨z2,w3,r2,b2,o2⟩:=Vb (hv.slots.below C2.bel) oM 24;obtain⟨p2,q2,rfl⟩:=At o2;have D2:=C2.app b2;have c20:=C2.c.at 2 rfl;have c21:V2.cell? ⟨w.heap.size+1+1,2,none⟩=some (.slice none 0 0):=C2.d.cell (i:=2) dE;have c22:w3.cell? ⟨w.heap.size+1+1,2,none⟩=some (.slice none 0 0):=D2.d.cell (i:=2) dE;have c23:=D2.d.frozen 2;rw[Nat.zero_add]at c20;have C3:=D2.put (y0:=(.slice p0 c.sign.length q0)) (y1:=(.slice p1 c.regs.length q1)) (y2:=(.slice p2 c.slots.length q2)) (y3:=(.slice none 0 0)) 2 (.slice p2 c.slots.length q2) Xf;obtain⟨V3,hV3⟩:∃V,w3.setCell ⟨w.heap.size+1+1,2,none⟩ (.slice p2 c.slots.length q2)=V:=⟨_,rfl⟩
 have U3:Up (w.heap.size+1+1+1) V2 V3:=by rw[<-hV3];exact(Up.of b2).trans (Up.set _ oM _ _)
 have T3:Up (w.heap.size+1+1+1) w3 V3:=by rw[<-hV3];exact Up.set _ oM _ _
 have HV2:Hid (w3.setCell ⟨w.heap.size+1+1,2,none⟩ (.slice p2 c.slots.length q2)=V3):=hV3;rw[hV3]at C3;have HR2:Hid ((Builtin.append_ #[24,24] 24 #[.slice none 0 0,v2]).run prog V2=.ok (.slice p2 c.slots.length q2) w3):=r2;have e2:w.heap.size+1+1+1<=V2.heap.size:=by have:=U2.1;omega
 obtain⟨z3,w4,r3,b3,o3⟩:=SS (hv.list.below C3.bel) oM 25;obtain⟨p3,q3,rfl⟩:=At o3;have D3:=C3.app b3;have c30:=C3.c.at 3 rfl;have c31:V3.cell? ⟨w.heap.size+1+1,3,none⟩=some (.slice none 0 0):=C3.d.cell (i:=3) dE;have c32:w4.cell? ⟨w.heap.size+1+1,3,none⟩=some (.slice none 0 0):=D3.d.cell (i:=3) dE;have c33:=D3.d.frozen 3;rw[Nat.zero_add]at c30;have C4:=D3.put (y0:=(.slice p0 c.sign.length q0)) (y1:=(.slice p1 c.regs.length q1)) (y2:=(.slice p2 c.slots.length q2)) (y3:=(.slice p3 c.list.length q3)) 3 (.slice p3 c.list.length q3) Xf;obtain⟨V4,hV4⟩:∃V,w4.setCell ⟨w.heap.size+1+1,3,none⟩ (.slice p3 c.list.length q3)=V:=⟨_,rfl⟩
 have U4:Up (w.heap.size+1+1+1) V3 V4:=by rw[<-hV4];exact(Up.of b3).trans (Up.set _ oM _ _)
 have T4:Up (w.heap.size+1+1+1) w4 V4:=by rw[<-hV4];exact Up.set _ oM _ _
 have HV3:Hid (w4.setCell ⟨w.heap.size+1+1,3,none⟩ (.slice p3 c.list.length q3)=V4):=hV4;rw[hV4]at C4;have HR3:Hid ((Builtin.append_ #[25,25] 25 #[.slice none 0 0,v3]).run prog V3=.ok (.slice p3 c.list.length q3) w4):=r3;have e3:w.heap.size+1+1+1<=V3.heap.size:=by have:=U3.1;omega
 have U5:Up (w.heap.size+1+1+1) V4 ((((V4.setCell ⟨w.heap.size+1,0,none⟩ (.slice p0 c.sign.length q0)).setCell ⟨w.heap.size+1,1,none⟩ (.slice p1 c.regs.length q1)).setCell ⟨w.heap.size+1,2,none⟩ (.slice p2 c.slots.length q2)).setCell ⟨w.heap.size+1,3,none⟩ (.slice p3 c.list.length q3)):=(((Up.set _ oM _ _).trans (Up.set _ oM _ _)).trans (Up.set _ oM _ _)).trans (Up.set _ oM _ _);have HF:Hid (Cy ((((V4.setCell ⟨w.heap.size+1,0,none⟩ (.slice p0 c.sign.length q0)).setCell ⟨w.heap.size+1,1,none⟩ (.slice p1 c.regs.length q1)).setCell ⟨w.heap.size+1,2,none⟩ (.slice p2 c.slots.length q2)).setCell ⟨w.heap.size+1,3,none⟩ (.slice p3 c.list.length q3)) (.slice p0 c.sign.length q0) (.slice p1 c.regs.length q1) (.slice p2 c.slots.length q2) (.slice p3 c.list.length q3) c/\Wb w.heap.size (((((V4.setCell ⟨w.heap.size+1,0,none⟩ (.slice p0 c.sign.length q0)).setCell ⟨w.heap.size+1,1,none⟩ (.slice p1 c.regs.length q1)).setCell ⟨w.heap.size+1,2,none⟩ (.slice p2 c.slots.length q2)).setCell ⟨w.heap.size+1,3,none⟩ (.slice p3 c.list.length q3))) (.slice p0 c.sign.length q0) (.slice p1 c.regs.length q1) (.slice p2 c.slots.length q2) (.slice p3 c.list.length q3) c/\Below w.heap.size w ((((V4.setCell ⟨w.heap.size+1,0,none⟩ (.slice p0 c.sign.length q0)).setCell ⟨w.heap.size+1,1,none⟩ (.slice p1 c.regs.length q1)).setCell ⟨w.heap.size+1,2,none⟩ (.slice p2 c.slots.length q2)).setCell ⟨w.heap.size+1,3,none⟩ (.slice p3 c.list.length q3))):=by
  have g0:=((((T1.trans U2).trans U3).trans U4).trans U5).own o0 e0;have g1:=(((T2.trans U3).trans U4).trans U5).own o1 e1;have g2:=((T3.trans U4).trans U5).own o2 e2;have g3:=(T4.trans U5).own o3 e3;refine⟨⟨DU FL g0,DU GY g1,DU JE g2,DU FD g3⟩,⟨Da g0 oM,Da g1 oM,Da g2 oM,Da g3 oM⟩,?_⟩;exact(((C4.bel.setCell Ja _).setCell Ja _).setCell Ja _).setCell Ja _
 have m0:V4.cell? ⟨w.heap.size+1+1,0,none⟩=some (.slice p0 c.sign.length q0):=C4.d.cell (i:=0) dE;have m1:V4.cell? ⟨w.heap.size+1+1,1,none⟩=some (.slice p1 c.regs.length q1):=C4.d.cell (i:=1) dE;have m2:V4.cell? ⟨w.heap.size+1+1,2,none⟩=some (.slice p2 c.slots.length q2):=C4.d.cell (i:=2) dE;have m3:V4.cell? ⟨w.heap.size+1+1,3,none⟩=some (.slice p3 c.list.length q3):=C4.d.cell (i:=3) dE;have k0:V4.cell? ⟨w.heap.size+1,0,none⟩=some (.slice none 0 0):=C4.r.cell (i:=0) dE;have k1:V4.cell? ⟨w.heap.size+1,1,none⟩=some (.slice none 0 0):=C4.r.cell (i:=1) dE;have k2:V4.cell? ⟨w.heap.size+1,2,none⟩=some (.slice none 0 0):=C4.r.cell (i:=2) dE;have k3:V4.cell? ⟨w.heap.size+1,3,none⟩=some (.slice none 0 0):=C4.r.cell (i:=3) dE;have y0:=C4.r.frozen 0;have y1:=C4.r.frozen 1;have y2:=C4.r.frozen 2;have y3:=C4.r.frozen 3;have HW:Hid (((w.alloc (.cells #[v0,v1,v2,v3] 27)).alloc (.cells #[.slice none 0 0,.slice none 0 0,.slice none 0 0,.slice none 0 0] 27)).alloc (.cells #[.slice none 0 0,.slice none 0 0,.slice none 0 0,.slice none 0 0] 27)=W0):=hW0;clear C0 C1 C2 C3 C4 D0 D1 D2 D3 U0 U1 U2 U3 U4 U5 T1 T2 T3 T4 o0 o1 o2 o3 b0 b1 b2 b3 r0 r1 r2 r3 hv hz hV1 hV2 hV3 hV4 hW0 e0 e1 e2 e3 hE;go_enter func5,ntmps5;go_upto_region 2 with fail;rw[HW.out];go_upto_region 3 with(at_builtin;refine AH rF _ _ _ rF _ _ _ rF rF HR0.out ?_)
 rw[HV0.out];go_upto_region 4 with(at_builtin;refine AH rF _ _ _ rF _ _ _ rF rF HR1.out ?_)
 rw[HV1.out];go_upto_region 5 with(at_builtin;refine AH rF _ _ _ rF _ _ _ rF rF HR2.out ?_)
 rw[HV2.out];go_upto_region 6 with(at_builtin;refine AH rF _ _ _ rF _ _ _ rF rF HR3.out ?_)
 rw[HV3.out];go_wp2;refine bodyPost_ret (by simp[results,results5,go_sem, *];try rfl) rfl ?_;exact⟨_,_,_,_,rfl,HF.1,HF.2.1,HF.2.2⟩
end Go.Proofs.YtheanilpbnencaaGreat
