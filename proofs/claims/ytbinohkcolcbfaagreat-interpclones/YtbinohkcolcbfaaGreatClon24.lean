import Derived.Test.YtbinohkcolcbfaaGreatClon22
import Derived.Test.YtbinohkcolcbfaaGreatClon16
import Derived.Test.YtbinohkcolcbfaaGreatClon1
namespace Go.Proofs.YtbinohkcolcbfaaGreat
open Go.RowKit Go.Proofs.Tryz
set_option linter.all false
set_option maxRecDepth 100000
set_option maxHeartbeats 16000000

section
open Go.ChangeShapes Go.WideShapes Go.ChangeAt Go.RowKit
theorem Tu:Tryz.prog.cellsOf 43=1:=kR
theorem R8:Tryz.prog.cellsOf 57=1:=kR
theorem Fg:Tryz.prog.cellsOf 51=2:=kR
theorem Mr:Tryz.prog.cellsOf 30=5:=kR
theorem Tt:Tryz.prog.bytesOf 43=4:=kR
theorem R7:Tryz.prog.bytesOf 57=24:=kR
theorem Hh:Tryz.prog.bytesOf 51=48:=kR
structure St where
 gv:Value
 pv:Value
 G:List (List Int)
 P:List (List Int)
def Sw(s:St):List Value:=[s.gv,s.pv]
structure VL where
 v:Value
 l:List Int
def vlC(x:VL):List Value:=[x.v]
instance:Inhabited St:=⟨⟨.slice none 0 0,.slice none 0 0,[],[]⟩⟩
instance:Inhabited VL:=⟨⟨.slice none 0 0,[]⟩⟩
def Qv(w:World):Nat->Prop:=fun b=>w.heap.size<=b
def ZP(w:World)(x:VL):Prop:=Pt (Qv w) w x.v x.l/\x.l.length<=140737488351232/\∀y∈x.l,Ag y
def Jb(w:World)(s:St):Prop:=Br (Qv w) w s.gv s.G/\Br (Qv w) w s.pv s.P/\CH s.G/\CH s.P
theorem K8{α:Type}{k:Nat}{f:α->List Value}{w:World}{v:Value}{l:List α}(hk:0<k)(hf:∀x,(f x).length=k)(h:B3 k f w v l):BH (Qv w) k f w v l:=by
 obtain⟨p,c,e,h⟩:=h;by_cases h0:l=[]
 ·exact⟨p,c,e,.inl h0⟩
 ·rcases h with h|⟨b,o,hp,hc⟩
  ·exact absurd h h0
  ·have hl:0<l.length:=List.length_pos_iff.2 h0;have hb:b<w.heap.size:=by
    have h1:=hc 0 hl;have h2:0<(f l[0]).length:=by rw[hf];exact hk
    exact A3 (h1 0 h2)
   exact⟨p,c,e,.inr ⟨b,o,hp,Nat.not_le.2 hb,hb,hc⟩⟩
section
variable {H : Type} {enc : TypeId × Value -> H} {w : World} {base : Nat} {held : Bool}
theorem Xr{fuel:Nat}{cs:List Value}{x:DataW H×List MemPlace}(h:DataW.trod enc Tryz.prog w base (fun _=>true) held fuel 43 cs=some x):∃a:Int,cs=OL a/\Ag a:=by
 obtain⟨a,c,-,w0⟩:=DataW.trod_int Tryz.underlying43 h;exact⟨a,c,(bounds_u32 w0).1,Int.lt_add_one_of_le (bounds_u32 w0).2⟩
theorem Xt{fuel:Nat}{cs:List Value}{x:DataW H×List MemPlace}(h:DataW.trod enc Tryz.prog w base (fun _=>true) held fuel 57 cs=some x)(hw:∀n∈x.1.weights Tryz.prog 57,n<=reachBytes):∃a:VL,cs=vlC a/\ZP w a:=by
 obtain⟨v,rfl⟩:∃v,cs=[v]:=by
  rcases DataW.trod_slice Tryz.underlying57 h with⟨hcs,_⟩|⟨a,len,cap,elems,rest,m,hm,hcs,_⟩
  ·exact⟨_,hcs⟩
  ·exact⟨_,hcs⟩
 obtain⟨l,hr,hlen,hg⟩:=Cx (f:=OL) (k:=1) (Good:=Ag) dE (fun _=>rfl) Tryz.underlying57 Tu Tt dE (fun h _=>Xr h) h hw;exact⟨⟨v,l⟩,rfl,K8 dE (fun _=>rfl) hr,by show l.length<=_;omega,hg⟩
theorem Mx{fuel:Nat}{v:Value}{x:DataW H×List MemPlace}(h:DataW.trod enc Tryz.prog w base (fun _=>true) held fuel 47 [v]=some x)(hw:∀n∈x.1.weights Tryz.prog 47,n<=reachBytes):∃L,Br (Qv w) w v L/\CH L:=by
 obtain⟨l,hr,hlen,hg⟩:=Cx (f:=vlC) (k:=1) (Good:=ZP w) dE (fun _=>rfl) Tryz.underlying47 R8 R7 dE (fun h hw=>Xt h hw) h hw;obtain⟨p,c,rfl,hh⟩:=K8 (k:=1) (f:=vlC) dE (fun _=>rfl) hr;refine⟨l.map VL.l,⟨p,c,sM,?_⟩,⟨sO,?_,?_⟩⟩
 ·rcases hh with rfl|⟨b,o,hp,hT,hb,hc⟩
  ·exact .inl rfl
  ·refine .inr ⟨b,o,hp,hT,hb,fun i hi=>?_⟩;have hi':i<l.length:=by simpa using hi
   refine⟨(l[i]).v,?_,?_⟩
   ·have:=(hc i hi').at 0 rfl;simpa using this
   ·simpa using(hg l[i] (List.getElem_mem hi')).1
 ·intro y hy;obtain⟨a,ha,rfl⟩:=List.mem_map.1 hy;exact(hg a ha).2.1
 ·intro y hy z hz;obtain⟨a,ha,rfl⟩:=List.mem_map.1 hy;exact(hg a ha).2.2 z hz
theorem PN{fuel:Nat}{cs:List Value}{x:DataW H×List MemPlace}(h:DataW.trod enc Tryz.prog w base (fun _=>true) held fuel 51 cs=some x)(hw:∀n∈x.1.weights Tryz.prog 51,n<=reachBytes):∃s:St,cs=Sw s/\Jb w s:=by
 obtain⟨xs,n,hfn,hx,hl,hxl,hf⟩:=DataW.trod_struct Tryz.underlying51 h;rw[Fg]at hl
 match cs,hl with
 |[v0,v1],_=>
 match xs,hxl with
 |[y0,y1],_=>
  have e0:DataW.trod enc Tryz.prog w base (fun _=>true) held n 47 [v0]=some y0:=hf 0 _ rfl;have e1:DataW.trod enc Tryz.prog w base (fun _=>true) held n 47 [v1]=some y1:=hf 1 _ rfl;subst hx;have hws:∀ (j:Nat) (t:TypeId) (d:DataW H),[47,47][j]? =some t->[y0.1,y1.1][j]? =some d->∀n∈d.weights Tryz.prog t,n<=reachBytes:=fun j t d ht hd n hn=>by
   refine hw n ?_;show n∈DataW.weights Tryz.prog 51 (.agg [y0.1,y1.1]);rw[DataW.weights,Tryz.underlying51];exact DataW.weights_mem_each (ts:=[47,47]) ht hd n hn
  obtain⟨G,g1,g2⟩:=Mx e0 (hws 0 _ _ rfl rfl);obtain⟨P,p1,p2⟩:=Mx e1 (hws 1 _ _ rfl rfl);exact⟨⟨v0,v1,G,P⟩,rfl,g1,p1,g2,p2⟩
theorem OC{fuel:Nat}{cs:List Value}{x:DataW H×List MemPlace}(h:DataW.trod enc Tryz.prog w base (fun _=>true) held fuel 27 cs=some x)(hw:∀n∈x.1.weights Tryz.prog 27,n<=reachBytes):
 ∃ (v0 v1 v2 v3:Value) (c:Cd),cs=[v0,v1,v2,v3]/\Di w v0 v1 v2 v3 c/\B0 c/\Yz c:=by
 obtain⟨xs,n,hfn,hx,hl,hxl,hf⟩:=DataW.trod_struct Tryz.underlying27 h;rw[NF]at hl
 match cs,hl with
 |[v0,v1,v2,v3],_=>
 match xs,hxl with
 |[y0,y1,y2,y3],_=>
  have e0:DataW.trod enc Tryz.prog w base (fun _=>true) held n 22 [v0]=some y0:=hf 0 _ rfl;have e1:DataW.trod enc Tryz.prog w base (fun _=>true) held n 23 [v1]=some y1:=hf 1 _ rfl;have e2:DataW.trod enc Tryz.prog w base (fun _=>true) held n 24 [v2]=some y2:=hf 2 _ rfl;have e3:DataW.trod enc Tryz.prog w base (fun _=>true) held n 25 [v3]=some y3:=hf 3 _ rfl;subst hx;have hws:∀ (j:Nat) (t:TypeId) (d:DataW H),[22,23,24,25][j]? =some t->[y0.1,y1.1,y2.1,y3.1][j]? =some d->∀n∈d.weights Tryz.prog t,n<=reachBytes:=fun j t d' ht hd' n hn=>by
   refine hw n ?_;show n∈DataW.weights Tryz.prog 27 (.agg [y0.1,y1.1,y2.1,y3.1]);rw[DataW.weights,Tryz.underlying27];exact DataW.weights_mem_each (ts:=[22,23,24,25]) ht hd' n hn
  obtain⟨l0,r0,s0,g0⟩:=Cx (Good:=fun p:BO=>p.name.size<=140737488351232) dE MD Tryz.underlying22 Hg M8 dE (fun h hw=>TY h hw) e0 (hws 0 _ _ rfl rfl);obtain⟨l1,r1,s1,g1⟩:=Cx (Good:=fun _:Ty=>True) dE LU Tryz.underlying23 Ik NE dE (fun h _=>PO h) e1 (hws 1 _ _ rfl rfl);obtain⟨l2,r2,s2,g2⟩:=Cx (Good:=ZO) dE Qp Tryz.underlying24 Ij ND dE (fun h _=>Xs h) e2 (hws 2 _ _ rfl rfl);obtain⟨l3,r3,s3,g3⟩:=Cx (Good:=Yf) dE I6 Tryz.underlying25 Ii NC dE (fun h _=>TX h) e3 (hws 3 _ _ rfl rfl);exact⟨v0,v1,v2,v3,⟨l0,l1,l2,l3⟩,rfl,⟨r0,r1,r2,r3⟩,⟨by show l0.length<=_;omega,g0,by show l1.length<=_;omega,by show l2.length<=_;omega,by show l3.length<=_;omega,g2,g3⟩,⟨s0,s1,s2,s3⟩⟩
theorem Ru{r:Reach}{b0:Nat}{v:Value}{d:DataW H}{pl:List MemPlace}(hv:Value.okWide Tryz.prog w r b0 30 v)(h:DataW.Trod enc Tryz.prog w base (fun _=>true) held 30 v d pl)(hw:∀n∈d.weights Tryz.prog 30,n<=reachBytes):
 ∃ (v0 v1 v2 v3 v4:Value) (c:Cd) (l:List St),v=.agg #[v0,v1,v2,v3,v4]/\Di w v0 v1 v2 v3 c/\B0 c/\Yz c/\B3 2 Sw w v4 l/\l.length<=140737488351232/\∀s∈l,Jb w s:=by
 obtain⟨cs,rfl,hsz⟩:=okWide_struct Tryz.underlying30 hv;obtain⟨fuel,hf0⟩:=h;obtain⟨xs,n,hfn,hx,hl,hxl,hf⟩:=DataW.trod_struct Tryz.underlying30 hf0;rw[Mr]at hl;obtain⟨cl,hcl⟩:∃cl,(Value.agg cs).cells.toList=cl:=⟨_,rfl⟩
 rw[hcl]at hl hf;have hcs:cs.toList=cl:=by rw[←hcl];simp[Value.cells]
 match cl,hl with
 |[v0,v1,v2,v3,v4],_=>
 match xs,hxl with
 |[y0,y1],_=>
  have e0:DataW.trod enc Tryz.prog w base (fun _=>true) held n 27 [v0,v1,v2,v3]=some y0:=hf 0 _ rfl;have e1:DataW.trod enc Tryz.prog w base (fun _=>true) held n 28 [v4]=some y1:=hf 1 _ rfl;have hd:d=.agg [y0.1,y1.1]:=congrArg Prod.fst hx;have hws:∀ (j:Nat) (t:TypeId) (d:DataW H),[27,28][j]? =some t->[y0.1,y1.1][j]? =some d->∀n∈d.weights Tryz.prog t,n<=reachBytes:=fun j t d' ht hd' n hn=>by
   refine hw n ?_;rw[hd];show n∈DataW.weights Tryz.prog 30 (.agg [y0.1,y1.1]);rw[DataW.weights,Tryz.underlying30];exact DataW.weights_mem_each (ts:=[27,28]) ht hd' n hn
  obtain⟨a0,a1,a2,a3,c,he,h1,h2,h3⟩:=OC e0 (hws 0 _ _ rfl rfl);obtain⟨l,g1,g2,g3⟩:=Cx (f:=Sw) (k:=2) (Good:=Jb w) dE (fun _=>rfl) Tryz.underlying28 Fg Hh dE (fun h hw=>PN h hw) e1 (hws 1 _ _ rfl rfl);simp only[List.cons.injEq,and_true]at he;obtain⟨rfl,rfl,rfl,rfl⟩:=he;refine⟨v0,v1,v2,v3,v4,c,l,?_,h1,h2,h3,g1,oM,g3⟩;rw[Value.agg.injEq];apply Array.toList_inj.1;exact hcs
end
end
theorem WK:(prog.info? 78).map (fun i=>(i.zero,i.size,i.bytes))=some (some (.agg #[.slice none 0 0,.int .i64 0]),2,32):=kR
def VU(x:(Option Addr×Nat×Nat)×Int):List Value:=[.slice x.1.1 x.1.2.1 x.1.2.2,.int .i64 x.2]
theorem L5(x:(Option Addr×Nat×Nat)×Int):(VU x).length=2:=rfl
theorem WG:∀x:(Option Addr×Nat×Nat)×Int,∀u∈VU x,u.oneCell'=true:=fun x u hu=>by simp[VU]at hu;rcases hu with rfl|rfl<;>rfl
theorem YF{L:List ((Option Addr×Nat×Nat)×Int)}{ad:Addr}{d:Nat}{w:World}(h:B3 2 VU w (.slice (some ad) L.length d) L)(hl:L.length<=1000000)(ty:TypeId):
 ∃g c' cur w',(Builtin.append_ #[74,74] ty #[.slice (some ⟨w.heap.size,0,none⟩) 0 0,.slice (some ad) L.length d]).run prog (w.alloc (.cells #[] 78))=.ok (.slice (some ⟨g,0,none⟩) L.length c') w'/\Below w.heap.size w w'/\w.heap.size<=g/\w'.heap[g]? =some (.cells cur 78 (0,0))/\L.length<=c'/\cur.size=c'*2/\cur.toList.take (L.length*2)=AT VU L:=by
 obtain⟨i0,hi0,hz0,hz1,hz2⟩:=info_parts WK;by_cases h0:L=[]
 ·subst h0;refine⟨w.heap.size,0,#[],w.alloc (.cells #[] 78),?_,A0 _ _,Nat.le_refl _,heap_alloc_new w _,sM,sM,by simp[AT]⟩;simp[Builtin.append_,run_underlying underlying74,sizeOf,typeInfo,hi0,Builtin.lenOf,Builtin.firstCells,storeCells,loadCells,loadCellsFrom]
 ·obtain⟨p',c',w',hr,hb,hrow,hown⟩:=Eg dE L5 WG underlying74 hi0 hz0 hz1 hz2 rfl h mL oM ty;rcases hown.2 with⟨e,hn⟩|⟨g,cap,cur,e,h1,h2,h3,h4,h5,h6⟩
  ·exact absurd (List.length_eq_zero_iff.1 hn) h0
  ·simp only[Value.slice.injEq]at e;obtain⟨rfl,-,rfl⟩:=e;exact⟨g,c',cur,w',hr,hb,h1,h2,h3,h5,h6⟩
theorem SO(ad:Addr)(d:Nat)(L:List ((Option Addr×Nat×Nat)×Int))(w:World)(h:B3 2 VU w (.slice (some ad) L.length d) L)(hl:L.length<=1000000):
 Calls prog 29 #[.slice (some ad) L.length d] w fun e w'=>∃g c' cur,e=.returned (.slice (some ⟨g,0,none⟩) L.length c')/\Hid (Below w.heap.size w w'/\w.heap.size<=g/\w'.heap[g]? =some (.cells cur 78 (0,0))/\L.length<=c'/\cur.size=c'*2/\cur.toList.take (L.length*2)=AT VU L):=by
 obtain⟨g,c',cur,w',hr,hH⟩:=YF h hl 74;have HH:=A9 hH;obtain⟨n,hn⟩:∃n,L.length=n:=⟨_,rfl⟩
 rw[hn]at hr HH ⊢;clear h hl hH hn;have heq:∀ (w:World),(binOp .eql 74 (.slice (some ad) n d) (.slice none 0 0)).run prog w=.ok (.bool false) w:=fun w=>Go.run_eql_slice_nil w _ _ (some ad) n d underlying74;go_enter func29,ntmps29;go_wp2_with(at_builtin;refine AD rfl _ _ 74 rfl _ _ _ rfl rfl hr ?_);go_ret;exact⟨g,c',cur,rfl,HH⟩
def slOf:Value->Option Addr×Nat×Nat
 | .slice p n q=>(p,n,q)
 |_=>(none,0,0)
def Py(X:Nat->Value)(l:List Hd):List ((Option Addr×Nat×Nat)×Int):=(List.range l.length).map fun j=>(slOf (X (2*j)),(l[j]?.map (·.whole)).getD 0)
theorem L6(X:Nat->Value)(l:List Hd):(Py X l).length=l.length:=by unfold Py;simp
theorem Ts{T:Nat->Prop}{w:World}{a:BY}{X:Nat->Value}{l:List Hd}(h:Qy T w a X l){j:Nat}(hj:j<l.length)(hj':j<(Py X l).length):VU ((Py X l)[j])=[X (2*j),X (2*j+1)]:=by
 obtain⟨p,c,hp⟩:=(h.pats j hj).len;have e:(Py X l)[j]? =some (slOf (X (2*j)),(l[j]?.map (·.whole)).getD 0):=by unfold Py;simp[hj]
 rw[List.getElem?_eq_getElem hj']at e;rw[Option.some.inj e,h.whole j hj,hp,List.getElem?_eq_getElem hj];rfl
theorem WH{T:Nat->Prop}{w:World}{a:BY}{X:Nat->Value}{l:List Hd}(h:Qy T w a X l)(cap:Nat):B3 2 VU w (.slice (some ⟨a.S,0,none⟩) (Py X l).length cap) (Py X l):=by
 refine⟨_,_,rfl,.inr ⟨a.S,0,rfl,fun i hi=>?_⟩⟩;have hi':i<l.length:=by rw[←L6 X l];exact hi
 have hle:=h.le;rw[Ts h hi' hi,Nat.zero_add];have x0:=h.row.cell (i:=2*i) oM;have x1:=h.row.cell (i:=2*i+1) oM;rw[Nat.mul_comm i 2];intro k hk
 match k,hk with
 |0,_=>exact x0
 |1,_=>exact x1
theorem Of{T:Nat->Prop}{B:Nat}(w:World)(R:Nat)(a:BY)(X:Nat->Value)(c:Cd)(l:List Hd)(h:Ay T B w R a X c l)(hsp:a.sp=some ⟨a.S,0,none⟩)(hg:Good c)(hT:∀b,T b->b<w.heap.size):
 Calls prog 13 #[.pointer (some ⟨R,0,none⟩)] w fun e w'=>∃R' a' X',e=.returned (.pointer (some ⟨R',0,none⟩))/\Hid (Ay (fun b=>T b\/b=a'.S) B w' R' a' X' c l/\w.heap.size<=a'.S/\Below w.heap.size w w'):=by
 have r0:w.cell? ⟨R,0,none⟩=some (.pointer (some ⟨a.C,0,none⟩)):=h.run.at 0 rfl;have r1:w.cell? ⟨R,1,none⟩=some (.slice a.sp c.slots.length a.sc):=h.run.at 1 rfl;rw[hsp]at r1;have HL:(Py X l).length=c.slots.length:=by rw[L6,h.len]
 have hN:=hg.slotsL;have KC:=A9 (fun(v:World) (hv:Below w.heap.size w v)=>SO ⟨a.S,0,none⟩ a.sc (Py X l) v ((WH h.slots a.sc).below hv) (by rw[HL];omega));rw[HL]at KC;have HH:=A9 (And.intro h (And.intro HL hT));obtain⟨C,hC⟩:∃C,a.C=C:=⟨_,rfl⟩
 obtain⟨Sb,hSb⟩:∃S,a.S=S:=⟨_,rfl⟩
 obtain⟨N,hN'⟩:∃N,c.slots.length=N:=⟨_,rfl⟩
 obtain⟨sc,hsc⟩:∃sc,a.sc=sc:=⟨_,rfl⟩
 simp only[hC,hSb,hN',hsc]at r0 r1 KC;have HE:=A9 (And.intro hC (And.intro hSb (And.intro hN' hsc)));clear h hg hT HL hN hsp hC hSb hN' hsc;go_enter func13,ntmps13;go_wp2;refine rG (fun v=>v.cell? ⟨R,0,none⟩=some (.pointer (some ⟨C,0,none⟩))/\v.cell? ⟨R,1,none⟩=some (.slice (some ⟨Sb,0,none⟩) N sc)) fun hHeld=>?_;refine Tf 0 1 2 3 4 5 ?_;refine Tb 6 7 ?_;clear hHeld;refine Ao 8 fun K hK=>?_;go_simp;(go_at_call 29;(with_reducible refine(KC.out _ (A4 _)).mono ?_);rintro e w1 ⟨g,c',cur,rfl,HC1⟩;have HB1:Hid (Below w.heap.size w w1):=bel (A4 _) HC1.out.1;have z1:=kc HB1.out r0;have z2:=kc HB1.out r1;clear r0 r1);try(go_wp2_with fail)
 refine An hK fun hHeld=>?_;clear hK K;refine AI 9 ?_;clear hHeld;refine Ao 10 fun K hK=>?_;go_simp;refine An hK fun hHeld=>?_;clear hK K;refine AI 11 ?_;refine wpAnyH_done kR ?_ _;go_wp2;go_returns;obtain⟨h,HL,hT⟩:=HH.out;obtain⟨eC,eS,eN,es⟩:=HE.out;obtain⟨-,k1,k2,k3,k4,k5⟩:=HC1.out;have hb:=HB1.out;have hb2:=bel hb (A0 w1 (.cells #[.pointer (some ⟨C,0,none⟩),.slice (some ⟨g,0,none⟩) N c'] 76));have hgl:g<w1.heap.size:=by rcases Nat.lt_or_ge g w1.heap.size with e|e;exact e;rw[Array.getElem?_eq_none e]at k2;cases k2
 have hs1:=hb.size;have hlen:l.length=N:=by rw[h.len];exact eN
 have hrow:w1.rowIs g 78 (2*c') (fun i=>(cur[i]?).getD (.int .i64 0)):=⟨cur,k2,by rw[k4];omega,fun i hi=>by simp[Array.getElem?_eq_getElem (show i<cur.size by rw[k4];omega)]⟩
 have hval:∀j,j<l.length->(cur[2*j]?).getD (.int .i64 0)=X (2*j)/\(cur[2*j+1]?).getD (.int .i64 0)=X (2*j+1):=by
  intro j hj;have hj2:j<(Py X l).length:=by rw[L6];exact hj
  have hf:∀k,k<2->cur[2*j+k]? =(AT VU (Py X l))[2*j+k]? :=by
   intro k hk;rw[←k5,List.getElem?_take_of_lt oM];exact(Array.getElem?_toList).symm
  have hat:=Ts h.slots hj hj2;have q0:=hf 0 dE;have q1:=hf 1 dE;rw[Nat.mul_comm 2 j]at q0 q1;rw[Fy L5 (Py X l) j 0 hj2 dE]at q0;rw[Fy L5 (Py X l) j 1 hj2 dE]at q1;rw[Nat.mul_comm 2 j];rw[Nat.mul_comm 2 j]at hat;rw[Nat.add_zero]at q0;rw[q0,q1,hat];exact⟨rfl,rfl⟩
 refine⟨_,{a with S:=g,K:=c',sp:=some ⟨g,0,none⟩,sc:=c'},fun i=>(cur[i]?).getD (.int .i64 0),rfl,?_,k1,hb2⟩;have hTl:∀b,b<w.heap.size->(T b\/b=g)->T b:=fun b hb' e=>e.elim id fun e=>by have k1':w.heap.size<=g:=k1;omega
 refine⟨.inr rfl,?_,sM,?_,?_,?_,h.len,h.ok,?_,h.bC,?_⟩
 ·rintro(e|e)
  ·have:=hT _ e;omega
  ·have e':w1.heap.size=g:=e;omega
 ·show Aa _ w1.heap.size 0 [.pointer (some ⟨a.C,0,none⟩),.slice (some ⟨g,0,none⟩) c.slots.length c'];rw[eC,eN];intro k hk
  match k,hk with
  |0,_=>simp[go_sem]
  |1,_=>simp[go_sem]
 ·have hcd:=(h.code.mono hTl).below hb2;exact⟨hcd.hC,hcd.ltC,hcd.cells,hcd.sign,hcd.regs,hcd.slots,hcd.list⟩
 ·refine⟨hrow.of_block ((A0 w1 _).block _ hgl),.inr rfl,by show l.length<=c';omega,fun j hj=>?_,fun j hj=>?_⟩
  ·show(cur[2*j+1]?).getD (.int .i64 0)=_;rw[(hval j hj).2];exact h.slots.whole j hj
  ·show Pt _ _ ((cur[2*j]?).getD (.int .i64 0)) _;rw[(hval j hj).1];exact((h.slots.pats j hj).mono hTl).below hb2
 ·show B<=w1.heap.size;have:=h.bR;have:=h.ltR;omega
 ·show B<=g;have:=h.bR;have:=h.ltR;have k1':w.heap.size<=g:=k1;omega
section
open Go.ChangeShapes Go.WideShapes Go.ChangeAt Go.RowKit
section
variable {H : Type} {enc : TypeId × Value -> H} {w : World} {base : Nat} {held : Bool}
theorem OD{r:Reach}{b0:Nat}{v:Value}{d:DataW H}{pl:List MemPlace}(hv:Value.okWide Tryz.prog w r b0 28 v)(h:DataW.Trod enc Tryz.prog w base (fun _=>true) held 28 v d pl)(hw:∀n∈d.weights Tryz.prog 28,n<=reachBytes):
 ∃l:List St,B3 2 Sw w v l/\l.length<=140737488351232/\∀s∈l,Jb w s:=by
 obtain⟨p,n,c,rfl⟩:=okWide_slice Tryz.underlying28 hv;obtain⟨fuel,hf0⟩:=h;obtain⟨l,g1,g2,g3⟩:=Cx (f:=Sw) (k:=2) (Good:=Jb w) dE (fun _=>rfl) Tryz.underlying28 Fg Hh dE (fun h hw=>PN h hw) (v:=.slice p n c) (x:=(d,pl)) hf0 hw;exact⟨l,g1,oM,g3⟩
end
end
end Go.Proofs.YtbinohkcolcbfaaGreat
