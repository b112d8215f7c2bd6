import Derived.Test.YtbinohkcolcbfaaGreatPart22
import Derived.Test.YtbinohkcolcbfaaGreatPart1
namespace Go.Proofs.YtbinohkcolcbfaaGreat
open Go.RowKit Go.Proofs.Tryz
set_option linter.all false
set_option maxRecDepth 100000
set_option maxHeartbeats 16000000
def AT(T:Nat->Prop)(w:World)(p:Option Addr)(l:List Int):Prop:=l=[]\/∃b o,p=some ⟨b,o,none⟩/\¬T b/\b<w.heap.size/\∀j,j<l.length->w.cell? ⟨b,o+j,none⟩=some (.int .i64 (B7 l j))
section
variable {T U : Nat -> Prop} {w w' : World} {p : Option Addr} {l : List Int}
theorem AT.num(h:AT T w p l):BO w p l:=by
 rcases h with rfl|⟨b,o,e,-,-,h⟩
 ·exact .inl rfl
 ·exact .inr ⟨b,o,e,h⟩
theorem AT.un(h:AT T w p l)(q:Un U w w')(hu:∀b,b<w.heap.size->U b->T b):AT T w' p l:=
 h.imp id fun⟨b,o,e,ht,hb,h⟩=>⟨b,o,e,ht,Nat.lt_of_lt_of_le hb q.size,fun j hj=>(World.cell?_of_block (q.block b hb fun k=>ht (hu b hb k))).trans (h j hj)⟩
theorem AT.below(h:AT T w p l)(q:Below w.heap.size w w'):AT T w' p l:=h.un (U:=fun _=>False) (Un.of q) (fun _ _ e=>e.elim)
theorem AT.mono(h:AT T w p l)(hu:∀b,b<w.heap.size->U b->T b):AT U w p l:=
 h.imp id fun⟨b,o,e,ht,hb,h⟩=>⟨b,o,e,fun k=>ht (hu b hb k),hb,h⟩
theorem BO.free{B:Nat}(h:BO w p l)(hl:∀b o s,p=some ⟨b,o,s⟩->B<=b)(ht:∀b,T b->b<B):AT T w p l:=by
 by_cases h0:l=[]
 ·exact .inl h0
 ·rcases h with h|⟨b,o,e,h⟩
  ·exact absurd (List.length_eq_zero_iff.1 h) h0
  ·have:=List.length_pos_iff.2 h0;exact .inr ⟨b,o,e,fun k=>by have h1:=ht b k;have h2:=hl b o none e;omega,A3 (h 0 this),h⟩
end
structure AO(T:Nat->Prop)(w:World)(v:Value)(X:List Cl):Prop where
 row:BH T 2 QJ w v X
 nums:∀x∈X,AT T w x.p x.h.pats
structure GZ(T:Nat->Prop)(w:World)(v:Value)(X:List Cl):Prop where
 row:BH T 1 Sy w v X
 nums:∀x∈X,AT T w x.p x.h.pats
section
variable {T U : Nat -> Prop} {w w' : World} {v : Value} {X : List Cl}
theorem AO.cs(h:AO T w v X):Sv w v X:=⟨h.row.row,fun x hx=>(h.nums x hx).num⟩
theorem AO.un(h:AO T w v X)(q:Un U w w')(hu:∀b,b<w.heap.size->U b->T b):AO T w' v X:=⟨h.row.un q hu,fun x hx=>(h.nums x hx).un q hu⟩
theorem AO.below(h:AO T w v X)(q:Below w.heap.size w w'):AO T w' v X:=⟨h.row.below q,fun x hx=>(h.nums x hx).below q⟩
theorem AO.mono(h:AO T w v X)(hu:∀b,b<w.heap.size->U b->T b):AO U w v X:=⟨h.row.mono hu,fun x hx=>(h.nums x hx).mono hu⟩
theorem GZ.un(h:GZ T w v X)(q:Un U w w')(hu:∀b,b<w.heap.size->U b->T b):GZ T w' v X:=⟨h.row.un q hu,fun x hx=>(h.nums x hx).un q hu⟩
theorem GZ.below(h:GZ T w v X)(q:Below w.heap.size w w'):GZ T w' v X:=⟨h.row.below q,fun x hx=>(h.nums x hx).below q⟩
theorem GZ.mono(h:GZ T w v X)(hu:∀b,b<w.heap.size->U b->T b):GZ U w v X:=⟨h.row.mono hu,fun x hx=>(h.nums x hx).mono hu⟩
end
theorem GC{α:Type}{f:α->List Value}{k:Nat}(hf:∀x,(f x).length=k){w:World}{B:Nat}{t:TypeId}{v:Value}{l:List α}(h:w.ownsRow B t k v l.length (AJ f l)){T:Nat->Prop}(ht:∀b,T b->b<B):BH T k f w v l:=by
 have hr:=Ee hf h;obtain⟨p,c,rfl,hr⟩:=hr;refine⟨p,c,rfl,hr.imp id fun⟨b,o,e,hc⟩=>⟨b,o,e,fun k=>?_,?_,hc⟩⟩
 ·have h1:=Ed h b o none e;have h2:=ht b k;omega
 ·subst e;exact(h.lt b rfl).2
theorem JT(x:Cl):∀ (X:List Cl) (d:Nat),d<X.length->((AJ QJ X).set (d*2) (.slice x.p x.h.pats.length x.q)).set (d*2+1) (.int .i64 x.h.whole)=AJ QJ (X.set d x)
 |[],d,h=>by simp at h
 |y::X,0,h=>rfl
 |y::X,d+1,h=>by
  have ih:=JT x X d SH;have e:AJ QJ (y::X)=.slice y.p y.h.pats.length y.q:: .int .i64 y.h.whole::AJ QJ X:=rfl;rw[e,show(d+1)*2=d*2+1+1 by omega];simp only[List.set_cons_succ];rw[ih];rfl
theorem Zo{T:Nat->Prop}(v:Value)(X:List Cl)(hX:X.length<=16384)(d:Nat)(hd:d<X.length)(x:Cl)(w:World)(hT:∀b,T b->b<w.heap.size)(h:AO T w v X)(hx:AT T w x.p x.h.pats):
 Calls prog 86 #[v,.int .i64 (d:Int),.agg #[.slice x.p x.h.pats.length x.q,.int .i64 x.h.whole]] w fun e w'=>∃p q,e=.returned (.slice p X.length q)/\AO T w' (.slice p X.length q) (X.set d x)/\Below w.heap.size w w':=by
 obtain⟨i0,hi0,hz0,hz1,hz2⟩:=info_parts H5;have hb0:=A0 w (.cells #[.slice x.p x.h.pats.length x.q,.int .i64 x.h.whole] 84);obtain⟨u,w',hr,hb,hown⟩:=Es dE Gl Ps underlying36 hi0 hz0 hz1 hz2 rfl (h.row.row.below hb0) mL oM 36;obtain⟨g,cap,rfl,hg,hgl⟩:=hown.form oM;have hs0:(w.alloc (.cells #[.slice x.p x.h.pats.length x.q,.int .i64 x.h.whole] 84)).heap.size=w.heap.size+1:=sM;have s1:=hown.stored (d*2) (.slice x.p x.h.pats.length x.q);have s2:=s1.1.stored (d*2+1) (.int .i64 x.h.whole);have hfin:=s2.1;rw[JT x X d hd]at hfin;have hfl:(AJ QJ X).length=X.length*2:=EC Gl X;have y0:∃z,w'.cell? ⟨g,d*2,none⟩=some z:=by
  refine⟨(AJ QJ X)[d*2]'oM,?_⟩;rw[hown.cellAt (d*2) oM,List.getElem?_eq_getElem]
 have y1:∃z,w'.cell? ⟨g,d*2+1,none⟩=some z:=by
  refine⟨(AJ QJ X)[d*2+1]'oM,?_⟩;rw[hown.cellAt (d*2+1) oM,List.getElem?_eq_getElem]
 have f0:=hown.frozenAt (d*2);have f1:=hown.frozenAt (d*2+1);have c0:w'.cell? ⟨w.heap.size,0,none⟩=some (.slice x.p x.h.pats.length x.q):=kc hb sG;have c1:w'.cell? ⟨w.heap.size,1,none⟩=some (.int .i64 x.h.whole):=kc hb sG;obtain⟨z0,y0⟩:=y0;obtain⟨z1,y1⟩:=y1;have hbF:Below w.heap.size w ((w'.setCell ⟨g,d*2,none⟩ (.slice x.p x.h.pats.length x.q)).setCell ⟨g,d*2+1,none⟩ (.int .i64 x.h.whole)):=((bel hb0 hb).setCell Zhl _).setCell Zhl _;have HFIN:Hid (AO T ((w'.setCell ⟨g,d*2,none⟩ (.slice x.p x.h.pats.length x.q)).setCell ⟨g,d*2+1,none⟩ (.int .i64 x.h.whole)) (.slice (some ⟨g,0,none⟩) X.length cap) (X.set d x)/\Below w.heap.size w ((w'.setCell ⟨g,d*2,none⟩ (.slice x.p x.h.pats.length x.q)).setCell ⟨g,d*2+1,none⟩ (.int .i64 x.h.whole))):=by
  refine⟨⟨GC Gl (by rw[List.length_set];exact hfin) (fun b hb=>by have:=hT b hb;omega),fun y hy=>?_⟩,hbF⟩;rcases List.mem_or_eq_of_mem_set hy with e|rfl
  ·exact(h.nums y e).below hbF
  ·exact hx.below hbF
 have HR:Hid _:=hr;obtain⟨p,q,rfl,-⟩:=id h.row;obtain⟨N,hN⟩:∃N,X.length=N:=⟨_,rfl⟩
 rw[hN]at hd hX HR HFIN ⊢;have d0:(0:Int)<=(d:Int):=oM;have d1:(d:Int)<(N:Int):=oM;clear hr hb hown s1 s2 hfin hfl hbF h hN hT;go_enter func86,ntmps86;go_wp2_with(at_builtin;refine Av rF _ _ _ rF _ _ _ rF rF HR.out ?_);go_ret;exact⟨_,_,rfl,HFIN.out.1,HFIN.out.2⟩
def Ck(a b c d e f g h i j:Value)(k:Nat):Value:=if k=0 then a else if k=1 then b else if k=2 then c else if k=3 then d else if k=4 then e else if k=5 then f else if k=6 then g else if k=7 then h else if k=8 then i else j
theorem Lg(a b c d e f g h i j:Value):∀k,k<(#[a,b,c,d,e,f,g,h,i,j]:Array Value).size->(#[a,b,c,d,e,f,g,h,i,j]:Array Value)[k]? =some (Ck a b c d e f g h i j k):=by
 intro k hk;have hk':k<10:=hk;obtain rfl|rfl|rfl|rfl|rfl|rfl|rfl|rfl|rfl|rfl:k=0\/k=1\/k=2\/k=3\/k=4\/k=5\/k=6\/k=7\/k=8\/k=9:=oM
 all_goals rfl
def f7(a b c d e f g:Value)(k:Nat):Value:=if k=0 then a else if k=1 then b else if k=2 then c else if k=3 then d else if k=4 then e else if k=5 then f else g
theorem Yn(a b c d e f g:Value):∀k,k<(#[a,b,c,d,e,f,g]:Array Value).size->(#[a,b,c,d,e,f,g]:Array Value)[k]? =some (f7 a b c d e f g k):=by
 intro k hk;have hk':k<7:=hk;obtain rfl|rfl|rfl|rfl|rfl|rfl|rfl:k=0\/k=1\/k=2\/k=3\/k=4\/k=5\/k=6:=oM
 all_goals rfl
def f2(a b:Value)(k:Nat):Value:=if k=0 then a else b
theorem f2_ok(a b:Value):∀k,k<(#[a,b]:Array Value).size->(#[a,b]:Array Value)[k]? =some (f2 a b k):=by
 intro k hk;have hk':k<2:=hk;obtain rfl|rfl:k=0\/k=1:=oM
 all_goals rfl
structure DW(w:World)(F I D:Nat->Value)(v:World):Prop where
 bel:Below w.heap.size w v
 f:v.rowIs w.heap.size 125 10 F
 i:v.rowIs (w.heap.size+1) 45 7 I
 r:v.rowIs (w.heap.size+1+1) 125 10 (Ck (.slice none 0 0) (.slice none 0 0) (.slice none 0 0) (.slice none 0 0) (.slice none 0 0) (.slice none 0 0) (.slice none 0 0) (.slice none 0 0) (.slice none 0 0) (.int .i64 0))
 d:v.rowIs (w.heap.size+1+1+1) 84 2 D
theorem DW.next{w:World}{F I D:Nat->Value}{v v':World}(h:DW w F I D v)(k:Below v.heap.size v v'):DW w F I D v':=
 ⟨Go.Proofs.YtbinohkcolcbfaaGreat.bel h.bel k,h.f.of_block (k.block _ h.f.lt),h.i.of_block (k.block _ h.i.lt),h.r.of_block (k.block _ h.r.lt),h.d.of_block (k.block _ h.d.lt)⟩
theorem DW.size{w:World}{F I D:Nat->Value}{v:World}(h:DW w F I D v):w.heap.size+1+1+1<v.heap.size:=h.d.lt
theorem DW.put{w:World}{F I D:Nat->Value}{v:World}(h:DW w F I D v)(i:Nat)(x:Value):DW w F I (fun j=>if j=i then x else D j) (v.setCell ⟨w.heap.size+1+1+1,i,none⟩ x):=
 ⟨h.bel.setCell (by show w.heap.size<=w.heap.size+1+1+1;omega) _,h.f.setOther (by show w.heap.size≠w.heap.size+1+1+1;omega) _,h.i.setOther (by show w.heap.size+1≠w.heap.size+1+1+1;omega) _,h.r.setOther (by show w.heap.size+1+1≠w.heap.size+1+1+1;omega) _,h.d.set i x⟩
theorem DW.congr{w:World}{F I D D':Nat->Value}{v:World}(h:DW w F I D v)(k:∀j,j<2->D j=D' j):DW w F I D' v:=⟨h.bel,h.f,h.i,h.r,h.d.congr k⟩
theorem DW.start(w:World)(a0 a1 a2 a3 a4 a5 a6 a7 a8 a9 b0 b1 b2 b3 b4 b5 b6:Value):DW w (Ck a0 a1 a2 a3 a4 a5 a6 a7 a8 a9) (f7 b0 b1 b2 b3 b4 b5 b6) (f2 (.slice none 0 0) (.int .i64 0)) ((((w.alloc (.cells #[a0,a1,a2,a3,a4,a5,a6,a7,a8,a9] 125)).alloc (.cells #[b0,b1,b2,b3,b4,b5,b6] 45)).alloc (.cells #[.slice none 0 0,.slice none 0 0,.slice none 0 0,.slice none 0 0,.slice none 0 0,.slice none 0 0,.slice none 0 0,.slice none 0 0,.slice none 0 0,.int .i64 0] 125)).alloc (.cells #[.slice none 0 0,.int .i64 0] 84)):=by
 have r1:=World.rowIs_alloc w #[a0,a1,a2,a3,a4,a5,a6,a7,a8,a9] 125 _ (Lg _ _ _ _ _ _ _ _ _ _);have r2:=World.rowIs_alloc (w.alloc (.cells #[a0,a1,a2,a3,a4,a5,a6,a7,a8,a9] 125)) #[b0,b1,b2,b3,b4,b5,b6] 45 _ (Yn _ _ _ _ _ _ _);have r3:=World.rowIs_alloc ((w.alloc (.cells #[a0,a1,a2,a3,a4,a5,a6,a7,a8,a9] 125)).alloc (.cells #[b0,b1,b2,b3,b4,b5,b6] 45)) #[.slice none 0 0,.slice none 0 0,.slice none 0 0,.slice none 0 0,.slice none 0 0,.slice none 0 0,.slice none 0 0,.slice none 0 0,.slice none 0 0,.int .i64 0] 125 _ (Lg _ _ _ _ _ _ _ _ _ _);have r4:=World.rowIs_alloc (((w.alloc (.cells #[a0,a1,a2,a3,a4,a5,a6,a7,a8,a9] 125)).alloc (.cells #[b0,b1,b2,b3,b4,b5,b6] 45)).alloc (.cells #[.slice none 0 0,.slice none 0 0,.slice none 0 0,.slice none 0 0,.slice none 0 0,.slice none 0 0,.slice none 0 0,.slice none 0 0,.slice none 0 0,.int .i64 0] 125)) #[.slice none 0 0,.int .i64 0] 84 _ (f2_ok _ _);simp only[World.size_alloc]at r2 r3 r4;exact⟨Go.Proofs.YtbinohkcolcbfaaGreat.bel (A0 _ _) (Go.Proofs.YtbinohkcolcbfaaGreat.bel (A0 _ _) (Go.Proofs.YtbinohkcolcbfaaGreat.bel (A0 _ _) (A0 _ _))),((r1.alloc _).alloc _).alloc _,(r2.alloc _).alloc _,r3.alloc _,r4⟩
theorem Jw(c:Cd)(hg:Good c)(v0 v1 v2 v3 ru su ou gu pu ct:Value)(X:List Cl)(hX:X.length=c.regs.length)(op nn bt:Int)(kd ka kb kk:Nat)(hd:kd<c.regs.length)(ha:ka<X.length)(hb:kb<X.length)(hc:kk<X.length)(h2:c.regs[kd].kind≠2)(ht:c.regs[kd].kind=3->Aj c.regs[kd].par c.sign.length=true)
 (m:Nat) (hm:BA op=m) (h0:m≠0) (n:Nat) (hs:BY (lF (CT X[ka].h.pats X[kb].h.pats X[kk].h.pats m)) (m-1)=some n) (hn1:1<=n) (hn:n<=4096)
 (hP:∀x∈X,∀y∈x.h.pats,Af y) (hL:∀x∈X,x.h.pats.length<=4096) (w:World) (hv:D8 w v0 v1 v2 v3 c) (hcs:Sv w ru X):
 Calls prog 78 #[.agg #[v0,v1,v2,v3,ru,su,ou,gu,pu,ct],.agg #[.int .i64 op,.int .i64 (kd:Int),.int .i64 (ka:Int),.int .i64 (kb:Int),.int .i64 (kk:Int),.int .i64 nn,.int .u32 bt]] w fun e w'=>
  ∃p q,e=.returned (.agg #[.slice p (Sx (if c.regs[kd].kind=3 then lenOf c c.regs[kd].par else 1) (Br op (CT X[ka].h.pats X[kb].h.pats X[kk].h.pats m))).length q,.int .i64 0])/\BO w' p (Sx (if c.regs[kd].kind=3 then lenOf c c.regs[kd].par else 1) (Br op (CT X[ka].h.pats X[kb].h.pats X[kk].h.pats m)))/\Below w.heap.size w w'/\∀b o s,p=some ⟨b,o,s⟩->w.heap.size<=b:=by
 have KW:=EV v0 v1 v2 v3 c hg c.regs[kd] ht;have hwid:(if c.regs[kd].kind=3 then lenOf c c.regs[kd].par else 1)<=4096:=by split;exact hg.lenOf _;omega
 obtain⟨p1,q1,rfl,-⟩:=id hv.regs;obtain⟨lb,lo,rfl,hreg⟩:=hv.regs.at hd;obtain⟨pr,qr,rfl,-⟩:=id hcs.row;obtain⟨rb,ro,rfl,hca⟩:=hcs.row.at ha;obtain⟨rb2,ro2,e2,hcb⟩:=hcs.row.at hb;obtain⟨rb3,ro3,e3,hcc⟩:=hcs.row.at hc;simp only[Option.some.injEq,Addr.mk.injEq,and_true]at e2 e3;obtain⟨rfl,rfl⟩:=e2;obtain⟨rfl,rfl⟩:=e3;have KA:=YG op m hm h0 X[ka] X[kb] X[kk] n hs (hP _ (List.getElem_mem ha)) (hP _ (List.getElem_mem hb)) (hP _ (List.getElem_mem hc)) (hL _ (List.getElem_mem ha)) (hL _ (List.getElem_mem hb)) (hL _ (List.getElem_mem hc));have na:=hcs.nums _ (List.getElem_mem ha);have nb:=hcs.nums _ (List.getElem_mem hb);have nc:=hcs.nums _ (List.getElem_mem hc);obtain⟨xa,hxa⟩:∃x,X[ka]=x:=⟨_,rfl⟩
 obtain⟨xb,hxb⟩:∃x,X[kb]=x:=⟨_,rfl⟩
 obtain⟨xc,hxc⟩:∃x,X[kk]=x:=⟨_,rfl⟩
 rw[hxa]at hca na;rw[hxb]at hcb nb;rw[hxc]at hcc nc;rw[hxa,hxb,hxc]at KA ⊢;obtain⟨RR,hRR⟩:∃R,Br op (CT xa.h.pats xb.h.pats xc.h.pats m)=R:=⟨_,rfl⟩
 rw[hRR]at KA ⊢;obtain⟨⟨tk,tp⟩,hT⟩:∃t:Ty,c.regs[kd]=t:=⟨_,rfl⟩
 rw[hT]at hreg h2 KW hwid ⊢;unfold Dy at KW;simp only at h2 KW hwid ⊢;obtain⟨Wd,hWd⟩:∃W,(if tk=3 then lenOf c tp else 1)=W:=⟨_,rfl⟩
 have hWi:(if tk=3 then(lenOf c tp:Int)else 1)=(Wd:Int):=by rw[←hWd];split<;>rfl
 rw[hWi]at KW;rw[hWd]at hwid ⊢;obtain⟨n1,hn1'⟩:∃n,c.regs.length=n:=⟨_,rfl⟩
 rw[hX]at ha hb hc ⊢;rw[hn1']at hd ha hb hc KW ⊢;have hregsL:=hg.regsL;rw[hn1']at hregsL;obtain⟨LA,hLA⟩:∃l,xa.h.pats.length=l:=⟨_,rfl⟩
 obtain⟨LB,hLB⟩:∃l,xb.h.pats.length=l:=⟨_,rfl⟩
 obtain⟨LC,hLC⟩:∃l,xc.h.pats.length=l:=⟨_,rfl⟩
 have y0:w.cell? ⟨rb,ro+ka*2,none⟩=some (.slice xa.p LA xa.q):=by rw[←hLA];exact hca.at 0 rfl
 have y1:w.cell? ⟨rb,ro+kb*2,none⟩=some (.slice xb.p LB xb.q):=by rw[←hLB];exact hcb.at 0 rfl
 have y2:w.cell? ⟨rb,ro+kk*2,none⟩=some (.slice xc.p LC xc.q):=by rw[←hLC];exact hcc.at 0 rfl
 rw[hLA,hLB,hLC]at KA;have z0:w.cell? ⟨lb,lo+kd*2,none⟩=some (.int .i64 tk):=hreg.at 0 rfl;have z1:w.cell? ⟨lb,lo+kd*2+1,none⟩=some (.int .i64 tp):=hreg.at 1 rfl;have hba:Below w.heap.size w (((w.alloc (.cells #[v0,.slice (some ⟨lb,lo,none⟩) n1 q1,v2,v3,.slice (some ⟨rb,ro,none⟩) n1 qr,su,ou,gu,pu,ct] 125)).alloc (.cells #[.int .i64 op,.int .i64 (kd:Int),.int .i64 (ka:Int),.int .i64 (kb:Int),.int .i64 (kk:Int),.int .i64 nn,.int .u32 bt] 45)).alloc (.cells #[.slice none 0 0,.int .i64 0] 84)):=bel (A0 _ _) (bel (A0 _ _) (A0 _ _));have b1:(((w.alloc (.cells #[v0,.slice (some ⟨lb,lo,none⟩) n1 q1,v2,v3,.slice (some ⟨rb,ro,none⟩) n1 qr,su,ou,gu,pu,ct] 125)).alloc (.cells #[.int .i64 op,.int .i64 (kd:Int),.int .i64 (ka:Int),.int .i64 (kb:Int),.int .i64 (kk:Int),.int .i64 nn,.int .u32 bt] 45)).alloc (.cells #[.slice none 0 0,.int .i64 0] 84)).cell? ⟨w.heap.size,1,none⟩=some (.slice (some ⟨lb,lo,none⟩) n1 q1):=kc (A0 _ _) (kc (A0 _ _) sG);have b2:(((w.alloc (.cells #[v0,.slice (some ⟨lb,lo,none⟩) n1 q1,v2,v3,.slice (some ⟨rb,ro,none⟩) n1 qr,su,ou,gu,pu,ct] 125)).alloc (.cells #[.int .i64 op,.int .i64 (kd:Int),.int .i64 (ka:Int),.int .i64 (kb:Int),.int .i64 (kk:Int),.int .i64 nn,.int .u32 bt] 45)).alloc (.cells #[.slice none 0 0,.int .i64 0] 84)).cell? ⟨w.heap.size+1,1,none⟩=some (.int .i64 (kd:Int)):=kc (A0 _ _) sG;have b3:=kc hba z0;have b4:=kc hba z1;have HE:Hid (Ny w v0 (.slice (some ⟨lb,lo,none⟩) n1 q1) v2 v3 (.slice (some ⟨rb,ro,none⟩) n1 qr) op (kd:Int) (ka:Int) (kb:Int) (kk:Int) tk tp rb (ro+ka*2) (ro+kb*2) (ro+kk*2) (.slice xa.p LA xa.q) (.slice xb.p LB xb.q) (.slice xc.p LC xc.q) ((((w.alloc (.cells #[v0,.slice (some ⟨lb,lo,none⟩) n1 q1,v2,v3,.slice (some ⟨rb,ro,none⟩) n1 qr,su,ou,gu,pu,ct] 125)).alloc (.cells #[.int .i64 op,.int .i64 (kd:Int),.int .i64 (ka:Int),.int .i64 (kb:Int),.int .i64 (kk:Int),.int .i64 nn,.int .u32 bt] 45)).alloc (.cells #[.slice none 0 0,.int .i64 0] 84)).alloc (.cells #[.int .i64 tk,.int .i64 tp] 69))):=by
  have k4:=A0 (((w.alloc (.cells #[v0,.slice (some ⟨lb,lo,none⟩) n1 q1,v2,v3,.slice (some ⟨rb,ro,none⟩) n1 qr,su,ou,gu,pu,ct] 125)).alloc (.cells #[.int .i64 op,.int .i64 (kd:Int),.int .i64 (ka:Int),.int .i64 (kb:Int),.int .i64 (kk:Int),.int .i64 nn,.int .u32 bt] 45)).alloc (.cells #[.slice none 0 0,.int .i64 0] 84)) (.cells #[.int .i64 tk,.int .i64 tp] 69);have k3:=A0 ((w.alloc (.cells #[v0,.slice (some ⟨lb,lo,none⟩) n1 q1,v2,v3,.slice (some ⟨rb,ro,none⟩) n1 qr,su,ou,gu,pu,ct] 125)).alloc (.cells #[.int .i64 op,.int .i64 (kd:Int),.int .i64 (ka:Int),.int .i64 (kb:Int),.int .i64 (kk:Int),.int .i64 nn,.int .u32 bt] 45)) (.cells #[.slice none 0 0,.int .i64 0] 84);have k2:=A0 (w.alloc (.cells #[v0,.slice (some ⟨lb,lo,none⟩) n1 q1,v2,v3,.slice (some ⟨rb,ro,none⟩) n1 qr,su,ou,gu,pu,ct] 125)) (.cells #[.int .i64 op,.int .i64 (kd:Int),.int .i64 (ka:Int),.int .i64 (kb:Int),.int .i64 (kk:Int),.int .i64 nn,.int .u32 bt] 45);have hrr:=World.rowIs_alloc ((w.alloc (.cells #[v0,.slice (some ⟨lb,lo,none⟩) n1 q1,v2,v3,.slice (some ⟨rb,ro,none⟩) n1 qr,su,ou,gu,pu,ct] 125)).alloc (.cells #[.int .i64 op,.int .i64 (kd:Int),.int .i64 (ka:Int),.int .i64 (kb:Int),.int .i64 (kk:Int),.int .i64 nn,.int .u32 bt] 45)) #[.slice none 0 0,.int .i64 0] 84 Ta WD;rw[show((w.alloc (.cells #[v0,.slice (some ⟨lb,lo,none⟩) n1 q1,v2,v3,.slice (some ⟨rb,ro,none⟩) n1 qr,su,ou,gu,pu,ct] 125)).alloc (.cells #[.int .i64 op,.int .i64 (kd:Int),.int .i64 (ka:Int),.int .i64 (kb:Int),.int .i64 (kk:Int),.int .i64 nn,.int .u32 bt] 45)).heap.size=w.heap.size+1+1 by simp]at hrr;refine⟨bel hba k4,kc k4 (kc k3 (kc k2 ?_)),kc k4 (kc k3 (kc k2 ?_)),kc k4 (kc k3 (kc k2 ?_)),kc k4 (kc k3 (kc k2 ?_)),kc k4 (kc k3 (kc k2 ?_)),kc k4 (kc k3 ?_),kc k4 (kc k3 ?_),kc k4 (kc k3 ?_),kc k4 (kc k3 ?_),kc k4 (kc k3 ?_),kc k4 ?_,kc k4 ?_,hrr.alloc _,kf k4 (by simp[go_sem]:(((w.alloc (.cells #[v0,.slice (some ⟨lb,lo,none⟩) n1 q1,v2,v3,.slice (some ⟨rb,ro,none⟩) n1 qr,su,ou,gu,pu,ct] 125)).alloc (.cells #[.int .i64 op,.int .i64 (kd:Int),.int .i64 (ka:Int),.int .i64 (kb:Int),.int .i64 (kk:Int),.int .i64 nn,.int .u32 bt] 45)).alloc (.cells #[.slice none 0 0,.int .i64 0] 84)).cell? ⟨w.heap.size+1+1,0,none⟩=some (.slice none 0 0)) sG,kf k4 (by simp[go_sem]:(((w.alloc (.cells #[v0,.slice (some ⟨lb,lo,none⟩) n1 q1,v2,v3,.slice (some ⟨rb,ro,none⟩) n1 qr,su,ou,gu,pu,ct] 125)).alloc (.cells #[.int .i64 op,.int .i64 (kd:Int),.int .i64 (ka:Int),.int .i64 (kb:Int),.int .i64 (kk:Int),.int .i64 nn,.int .u32 bt] 45)).alloc (.cells #[.slice none 0 0,.int .i64 0] 84)).cell? ⟨w.heap.size+1+1,1,none⟩=some (.int .i64 0)) sG,?_,?_,kc (bel hba k4) y0,kc (bel hba k4) y1,kc (bel hba k4) y2⟩
  all_goals simp[go_sem]
 obtain⟨-,a0,a1,a2,a3,a4,i0,i1,i2,i3,i4,r0,r1,-,f0,f1,t0,t1,x0,x1,x2⟩:=HE.out;have d1:(0:Int)<=(kd:Int):=oM;have d2:(kd:Int)<(n1:Int):=oM;have d3:(ka:Int)<(n1:Int):=oM;have d4:(kb:Int)<(n1:Int):=oM;have d5:(kk:Int)<(n1:Int):=oM;have h2b:(tk==2)=false:=by simpa using h2
 have HKW:Hid (∀v,Below w.heap.size w v->Calls prog 41 #[.agg #[v0,.slice (some ⟨lb,lo,none⟩) n1 q1,v2,v3],.agg #[.int .i64 tk,.int .i64 tp]] v fun e w'=>e=.returned (.int .i64 (Wd:Int))/\Below v.heap.size v w'):=fun v hb=>KW v (by have h9:=hv.below hb;rw[hn1']at h9;exact h9);have HKA:Hid _:=KA;have HNA:Hid (BO w xa.p xa.h.pats/\BO w xb.p xb.h.pats/\BO w xc.p xc.h.pats):=⟨na,nb,nc⟩
 have HLN:Hid (xa.h.pats.length=LA/\xb.h.pats.length=LB/\xc.h.pats.length=LC):=⟨hLA,hLB,hLC⟩
 have HTK:Hid (∀v,Calls prog 121 #[.int .i64 op] v fun e w'=>e=.returned (.int .i64 (m:Int))/\w'=v):=fun v=>by rw[←hm];exact J4 op v
 have hm3:m<=3:=by rw[←hm];exact FE op
 clear KW KA hreg hca hcb hcc hcs hv hg hP hL hT hX h2 ht hs hm hRR hxa hxb hxc hWd hWi na nb nc hLA hLB hLC hn1' y0 y1 y2 z0 z1;go_enter func78,ntmps78;go_wp2;refine rG (fun v=>v.cell? ⟨w.heap.size,4,none⟩=some (.slice (some ⟨rb,ro,none⟩) n1 qr)/\v.cell? ⟨w.heap.size+1,2,none⟩=some (.int .i64 (ka:Int))/\v.cell? ⟨w.heap.size+1,3,none⟩=some (.int .i64 (kb:Int))/\v.cell? ⟨w.heap.size+1,4,none⟩=some (.int .i64 (kk:Int))/\v.cell? ⟨rb,ro+ka*2,none⟩=some (.slice xa.p LA xa.q)/\v.cell? ⟨rb,ro+kb*2,none⟩=some (.slice xb.p LB xb.q)/\v.cell? ⟨rb,ro+kk*2,none⟩=some (.slice xc.p LC xc.q)) fun hHeld=>?_;refine Tf 0 1 2 3 4 5 ?_;refine Tf 6 7 8 9 10 11 ?_;refine Tf 12 13 14 15 16 17 ?_;refine Tc 18 19 20 ?_;clear hHeld;refine Ap 21 fun K hK=>?_;go_simp;refine Ao hK fun hHeld=>?_;clear hK K;refine AN 22 ?_;refine wpAnyH_done kR ?_ _;have HE2:Hid (Ny w v0 (.slice (some ⟨lb,lo,none⟩) n1 q1) v2 v3 (.slice (some ⟨rb,ro,none⟩) n1 qr) op (kd:Int) (ka:Int) (kb:Int) (kk:Int) tk tp rb (ro+ka*2) (ro+kb*2) (ro+kk*2) (.slice xa.p LA xa.q) (.slice xb.p LB xb.q) (.slice xc.p LC xc.q) ((((((w.alloc (.cells #[v0,.slice (some ⟨lb,lo,none⟩) n1 q1,v2,v3,.slice (some ⟨rb,ro,none⟩) n1 qr,su,ou,gu,pu,ct] 125)).alloc (.cells #[.int .i64 op,.int .i64 (kd:Int),.int .i64 (ka:Int),.int .i64 (kb:Int),.int .i64 (kk:Int),.int .i64 nn,.int .u32 bt] 45)).alloc (.cells #[.slice none 0 0,.int .i64 0] 84)).alloc (.cells #[.int .i64 tk,.int .i64 tp] 69)).alloc (.cells #[.slice xa.p LA xa.q,.slice xb.p LB xb.q,.slice xc.p LC xc.q] 82)).drew)):=(HE.out.next (A0 _ _)).next (A5 _);have HG:Hid (((((((w.alloc (.cells #[v0,.slice (some ⟨lb,lo,none⟩) n1 q1,v2,v3,.slice (some ⟨rb,ro,none⟩) n1 qr,su,ou,gu,pu,ct] 125)).alloc (.cells #[.int .i64 op,.int .i64 (kd:Int),.int .i64 (ka:Int),.int .i64 (kb:Int),.int .i64 (kk:Int),.int .i64 nn,.int .u32 bt] 45)).alloc (.cells #[.slice none 0 0,.int .i64 0] 84)).alloc (.cells #[.int .i64 tk,.int .i64 tp] 69)).alloc (.cells #[.slice xa.p LA xa.q,.slice xb.p LB xb.q,.slice xc.p LC xc.q] 82)).drew).cell? ⟨w.heap.size+1+1+1+1,0,none⟩=some (.slice xa.p LA xa.q)/\((((((w.alloc (.cells #[v0,.slice (some ⟨lb,lo,none⟩) n1 q1,v2,v3,.slice (some ⟨rb,ro,none⟩) n1 qr,su,ou,gu,pu,ct] 125)).alloc (.cells #[.int .i64 op,.int .i64 (kd:Int),.int .i64 (ka:Int),.int .i64 (kb:Int),.int .i64 (kk:Int),.int .i64 nn,.int .u32 bt] 45)).alloc (.cells #[.slice none 0 0,.int .i64 0] 84)).alloc (.cells #[.int .i64 tk,.int .i64 tp] 69)).alloc (.cells #[.slice xa.p LA xa.q,.slice xb.p LB xb.q,.slice xc.p LC xc.q] 82)).drew).cell? ⟨w.heap.size+1+1+1+1,1,none⟩=some (.slice xb.p LB xb.q)/\((((((w.alloc (.cells #[v0,.slice (some ⟨lb,lo,none⟩) n1 q1,v2,v3,.slice (some ⟨rb,ro,none⟩) n1 qr,su,ou,gu,pu,ct] 125)).alloc (.cells #[.int .i64 op,.int .i64 (kd:Int),.int .i64 (ka:Int),.int .i64 (kb:Int),.int .i64 (kk:Int),.int .i64 nn,.int .u32 bt] 45)).alloc (.cells #[.slice none 0 0,.int .i64 0] 84)).alloc (.cells #[.int .i64 tk,.int .i64 tp] 69)).alloc (.cells #[.slice xa.p LA xa.q,.slice xb.p LB xb.q,.slice xc.p LC xc.q] 82)).drew).cell? ⟨w.heap.size+1+1+1+1,2,none⟩=some (.slice xc.p LC xc.q)):=⟨sG,sG,sG⟩
 obtain⟨W2,hW2⟩:∃W,(((((w.alloc (.cells #[v0,.slice (some ⟨lb,lo,none⟩) n1 q1,v2,v3,.slice (some ⟨rb,ro,none⟩) n1 qr,su,ou,gu,pu,ct] 125)).alloc (.cells #[.int .i64 op,.int .i64 (kd:Int),.int .i64 (ka:Int),.int .i64 (kb:Int),.int .i64 (kk:Int),.int .i64 nn,.int .u32 bt] 45)).alloc (.cells #[.slice none 0 0,.int .i64 0] 84)).alloc (.cells #[.int .i64 tk,.int .i64 tp] 69)).alloc (.cells #[.slice xa.p LA xa.q,.slice xb.p LB xb.q,.slice xc.p LC xc.q] 82)).drew=W:=⟨_,rfl⟩
 rw[hW2]at HE2 HG;rw[hW2];clear a0 a1 a2 a3 a4 i0 i1 i2 i3 i4 r0 r1 f0 f1 t0 t1 x0 x1 x2;clear hW2 HE b1 b2 b3 b4 hba;obtain⟨-,a0,a1,a2,a3,a4,i0,i1,i2,i3,i4,r0,r1,-,f0,f1,t0,t1,x0,x1,x2⟩:=HE2.out;have HGD:Hid (W2.drew.cell? ⟨w.heap.size+1+1+1+1,0,none⟩=some (.slice xa.p LA xa.q)/\W2.drew.cell? ⟨w.heap.size+1+1+1+1,1,none⟩=some (.slice xb.p LB xb.q)/\W2.drew.cell? ⟨w.heap.size+1+1+1+1,2,none⟩=some (.slice xc.p LC xc.q)):=HG.out;have s1:=fun w9=>EM Zs Y3 (some ⟨w.heap.size+1+1+1+1,0,none⟩) 3 3 m oM w9;go_wp2;refine rG (fun v=>v.cell? ⟨w.heap.size+1,0,none⟩=some (.int .i64 op)) fun hHeld=>?_;refine Tc 0 1 2 ?_;refine Tb 3 4 ?_;clear hHeld;refine Ap 5 fun K hK=>?_;go_simp;(go_at_call 121;(with_reducible refine(HTK.out _).mono ?_);rintro e w3 ⟨rfl,rfl⟩);try(go_wp2_with fail)
 refine Ao hK fun hHeld=>?_;clear hK K;refine AN 6 ?_;clear hHeld;refine Ap 7 fun K hK=>?_;go_simp;(go_at_call 120;(with_reducible refine(HKA.out (w.heap.size+1+1+1+1) W2.drew HGD.out.1 HGD.out.2.1 HGD.out.2.2 (HNA.out.1.below (bel HE2.out.bel (A5 _))) (HNA.out.2.1.below (bel HE2.out.bel (A5 _))) (HNA.out.2.2.below (bel HE2.out.bel (A5 _)))).mono ?_);rintro e w4 ⟨ql,cl,rfl,hnl,hln,hRP,hb4,hlo4⟩;have HLO4:Hid (∀b o s,ql=some ⟨b,o,s⟩->W2.drew.heap.size<=b):=hlo4;have HNL:Hid (BO w4 ql RR):=hnl;have HLR:Hid (RR.length=n):=hln;have HRP:Hid (∀y∈RR,Af y):=hRP;have HE4:Hid (Ny w v0 (.slice (some ⟨lb,lo,none⟩) n1 q1) v2 v3 (.slice (some ⟨rb,ro,none⟩) n1 qr) op (kd:Int) (ka:Int) (kb:Int) (kk:Int) tk tp rb (ro+ka*2) (ro+kb*2) (ro+kk*2) (.slice xa.p LA xa.q) (.slice xb.p LB xb.q) (.slice xc.p LC xc.q) w4):=HE2.out.next (bel (A5 _) hb4);clear hnl hln hRP hb4 hlo4 a0 a1 a2 a3 a4 i0 i1 i2 i3 i4 r0 r1 f0 f1 t0 t1 x0 x1 x2;obtain⟨-,a0,a1,a2,a3,a4,i0,i1,i2,i3,i4,r0,r1,-,f0,f1,t0,t1,x0,x1,x2⟩:=HE4.out);try(go_wp2_with fail)
 refine Ao hK fun hHeld=>?_;clear hK K;refine Tc 8 9 10 ?_;refine Tb 11 12 ?_;refine wpAnyH_done kR ?_ _;by_cases h1:n=1
 ·have h1b:((n:Int)==1)=true:=by simp[h1]
  have hrl:RR.length=1:=by rw[HLR.out];exact h1
  have he:Sx Wd RR=List.replicate Wd (canon (B7 RR 0)):=by
   unfold Sx;rw[if_pos hrl];cases hR9:RR with
   |nil=>rw[hR9]at hrl;simp at hrl
   |cons a r=>rfl
  have HEL:Hid (Sx Wd RR=List.replicate Wd (canon (B7 RR 0))):=he;have hx9:∃bq oq,ql=some ⟨bq,oq,none⟩/\w4.cell? ⟨bq,oq,none⟩=some (.int .i64 (B7 RR 0)):=by
   rcases HNL.out with e|⟨bq,oq,e,hc9⟩
   ·omega
   ·exact⟨bq,oq,e,hc9 0 oM⟩
  obtain⟨bq,oq,rfl,hl0⟩:=hx9;have hPz:Af (B7 RR 0):=Bv HRP.out 0;have KF:=Hf Wd (B7 RR 0) hPz oM;obtain⟨z9,hz9⟩:∃z,B7 RR 0=z:=⟨_,rfl⟩
  rw[hz9]at hl0 KF;have HZ9:Hid (B7 RR 0=z9):=hz9;have HKF:Hid (∀v,Calls prog 40 #[.int .i64 (Wd:Int),.int .i64 z9] v fun e w'=>∃q cap,e=.returned (.tuple #[.slice q Wd cap,.int .i64 0])/\AD w' q Wd (fun i=>.int .i64 (canon z9))/\Below v.heap.size v w'/\∀b o s,q=some ⟨b,o,s⟩->v.heap.size<=b):=KF;have hn0:(0:Int)<(n:Int):=oM;clear he hrl KF hz9 hPz;go_wp2;refine rG (fun v=>v.cell? ⟨w.heap.size,0,none⟩=some v0/\v.cell? ⟨w.heap.size,1,none⟩=some (.slice (some ⟨lb,lo,none⟩) n1 q1)/\v.cell? ⟨w.heap.size,2,none⟩=some v2/\v.cell? ⟨w.heap.size,3,none⟩=some v3/\v.cell? ⟨w.heap.size+1+1+1,0,none⟩=some (.int .i64 tk)/\v.cell? ⟨w.heap.size+1+1+1,1,none⟩=some (.int .i64 tp)/\v.cell? ⟨bq,oq,none⟩=some (.int .i64 z9)) fun hHeld=>?_;refine Tf 0 1 2 4 5 6 ?_;clear hHeld;refine Ap 3 fun K hK=>?_;go_simp;(go_at_call 41;(with_reducible refine(HKW.out _ (bel HE4.out.bel (A5 _))).mono ?_);rintro e w5 ⟨rfl,hb5⟩;have HB5:Hid (Below w4.heap.size w4 w5):=bel (A5 _) hb5;clear hb5 a0 a1 a2 a3 a4 i0 i1 i2 i3 i4 r0 r1 f0 f1 t0 t1 x0 x1 x2;obtain⟨-,a0,a1,a2,a3,a4,i0,i1,i2,i3,i4,r0,r1,-,f0,f1,t0,t1,x0,x1,x2⟩:=HE4.out.next HB5.out;have hl5:=kc HB5.out hl0);try(go_wp2_with fail)
  refine Ao hK fun hHeld=>?_;clear hK K;clear hHeld;refine Ap 7 fun K hK=>?_;go_simp;(go_at_call 40;(with_reducible refine(HKF.out _).mono ?_);rintro e w6 ⟨pf,qf,rfl,hrf,hb6,hfr⟩;have HE6:Hid (Ny w v0 (.slice (some ⟨lb,lo,none⟩) n1 q1) v2 v3 (.slice (some ⟨rb,ro,none⟩) n1 qr) op (kd:Int) (ka:Int) (kb:Int) (kk:Int) tk tp rb (ro+ka*2) (ro+kb*2) (ro+kk*2) (.slice xa.p LA xa.q) (.slice xb.p LB xb.q) (.slice xc.p LC xc.q) w6):=(HE4.out.next HB5.out).next hb6;have HRF:Hid (AD w6 pf Wd (fun i=>.int .i64 (canon z9))):=hrf;have HFR:Hid (∀b o s,pf=some ⟨b,o,s⟩->w5.heap.size<=b):=hfr;have HS5:Hid (w.heap.size+1+1<w5.heap.size):=A3 r0;have hl6:=kc hb6 hl5;clear hb6 hrf hfr a0 a1 a2 a3 a4 i0 i1 i2 i3 i4 r0 r1 f0 f1 t0 t1 x0 x1 x2;obtain⟨-,a0,a1,a2,a3,a4,i0,i1,i2,i3,i4,r0,r1,-,f0,f1,t0,t1,x0,x1,x2⟩:=HE6.out);try(go_wp2_with fail)
  refine Ao hK fun hHeld=>?_;clear hK K;refine Tc 8 9 10 ?_;refine AN 11 ?_;refine wpAnyH_done kR ?_ _;go_wp2;refine bodyPost_ret Zgo rfl ?_;have hbF:Below w.heap.size w ((w6.setCell ⟨w.heap.size+1+1,0,none⟩ (.slice pf Wd qf)).setCell ⟨w.heap.size+1+1,1,none⟩ (.int .i64 0)):=(HE6.out.bel.setCell YC _).setCell YC _;rw[HEL.out,HZ9.out];refine⟨pf,qf,by rw[List.length_replicate],?_,hbF,fun b o s e=>by have h3:=HFR.out b o s e;have h4:=HS5.out;omega⟩;show AD _ _ _ _;rw[List.length_replicate];rcases HRF.out with h9|⟨b,o,rfl,h8⟩
  ·exact .inl h9
  ·refine .inr ⟨b,o,rfl,fun j hj=>?_⟩;have hne:b≠w.heap.size+1+1:=by have h3:=HFR.out b o none rfl;have h4:=HS5.out;omega
   rw[World.cell?_of_block (Below.heap_setCell _ _ _ _ hne),World.cell?_of_block (Below.heap_setCell _ _ _ _ hne),h8 j hj];simp only;rw[If _ _ hj]
 ·have h1b:((n:Int)==1)=false:=by have:(n:Int)≠1:=oM;simpa using this
  have HEL:Hid (Sx Wd RR=RR):=by show _=_;unfold Sx;rw[if_neg (by rw[HLR.out];exact h1)]
  have HH1:Hid (n≠1):=h1;clear h1;go_wp2;refine bodyPost_ret Zgo rfl ?_;have hbF:Below w.heap.size w ((w4.setCell ⟨w.heap.size+1+1,0,none⟩ (.slice ql n cl)).setCell ⟨w.heap.size+1+1,1,none⟩ (.int .i64 0)):=(HE4.out.bel.setCell YC _).setCell YC _;rw[HEL.out,HLR.out];refine⟨ql,cl,rfl,?_,hbF,fun b o s e=>by have h3:=HLO4.out b o s e;have h4:=HE2.out.bel.size;have h5:W2.drew.heap.size=W2.heap.size:=rfl;omega⟩;have h2l:2<=RR.length:=by rw[HLR.out];have:=HH1.out;omega
  have hne9:=Z9 HE4.out.rr HNL.out h2l;rcases HNL.out with h9|⟨b,o,rfl,h8⟩
  ·exact .inl h9
  ·refine .inr ⟨b,o,rfl,fun j hj=>?_⟩;have hne:b≠w.heap.size+1+1:=hne9 b o rfl;rw[World.cell?_of_block (Below.heap_setCell _ _ _ _ hne),World.cell?_of_block (Below.heap_setCell _ _ _ _ hne),h8 j hj]
def T2(w:World)(T:Nat->Prop)(b:Nat):Prop:=T b\/(w.heap.size<=b/\b<=w.heap.size+1+1+1)
theorem CR{w:World}{T:Nat->Prop}(hT:∀b,T b->b<w.heap.size){b:Nat}(h:T2 w T b){v:World}(hv:w.heap.size+1+1+1<v.heap.size):b<v.heap.size:=by
 rcases h with h|h
 ·have:=hT b h;omega
 ·omega
theorem t2_cs{T:Nat->Prop}{w v:World}{u:Value}{X:List Cl}(h:AO T w u X)(k:Below w.heap.size w v):AO (T2 w T) v u X:=(h.mono fun b hb e=>e.elim id fun e=>by omega).below k
theorem M3{T:Nat->Prop}{w v:World}{p:Option Addr}{l:List Int}(h:AT T w p l)(k:Below w.heap.size w v):AT (T2 w T) v p l:=(h.mono fun b hb e=>e.elim id fun e=>by omega).below k
theorem BE{T:Nat->Prop}(ru:Value)(X:List Cl){NN:Nat}(hN:X.length=NN)(hX:NN<=16384)(kd:Nat)(hd:kd<NN)(w:World)(hT:∀b,T b->b<w.heap.size)(hcs:AO T w ru X):∀v F I D (x:Cl),DW w F I D v->AT (T2 w T) v x.p x.h.pats->Calls prog 86 #[ru,.int .i64 (kd:Int),.agg #[.slice x.p x.h.pats.length x.q,.int .i64 x.h.whole]] v fun e w'=>∃p q,e=.returned (.slice p NN q)/\AO (T2 w T) w' (.slice p NN q) (X.set kd x)/\Below v.heap.size v w':=
 fun v F I D x h hx=>by subst hN;exact Zo ru X hX kd hd x v (fun b hb=>CR hT hb h.size) (t2_cs hcs h.bel) hx
structure DE(w:World)(a0 a1 a2 a3 a4 a5 a6 a7 a8 a9:Value)(v:World):Prop where
 bel:Below w.heap.size w v
 c0:v.cell? ⟨w.heap.size,0,none⟩=some a0
 c1:v.cell? ⟨w.heap.size,1,none⟩=some a1
 c2:v.cell? ⟨w.heap.size,2,none⟩=some a2
 c3:v.cell? ⟨w.heap.size,3,none⟩=some a3
 c4:v.cell? ⟨w.heap.size,4,none⟩=some a4
 c5:v.cell? ⟨w.heap.size,5,none⟩=some a5
 c6:v.cell? ⟨w.heap.size,6,none⟩=some a6
 c7:v.cell? ⟨w.heap.size,7,none⟩=some a7
 c8:v.cell? ⟨w.heap.size,8,none⟩=some a8
 c9:v.cell? ⟨w.heap.size,9,none⟩=some a9
 r0:v.cell? ⟨w.heap.size+1+1,0,none⟩=some (.slice none 0 0)
 r1:v.cell? ⟨w.heap.size+1+1,1,none⟩=some (.slice none 0 0)
 r2:v.cell? ⟨w.heap.size+1+1,2,none⟩=some (.slice none 0 0)
 r3:v.cell? ⟨w.heap.size+1+1,3,none⟩=some (.slice none 0 0)
 r4:v.cell? ⟨w.heap.size+1+1,4,none⟩=some (.slice none 0 0)
 r5:v.cell? ⟨w.heap.size+1+1,5,none⟩=some (.slice none 0 0)
 r6:v.cell? ⟨w.heap.size+1+1,6,none⟩=some (.slice none 0 0)
 r7:v.cell? ⟨w.heap.size+1+1,7,none⟩=some (.slice none 0 0)
 r8:v.cell? ⟨w.heap.size+1+1,8,none⟩=some (.slice none 0 0)
 r9:v.cell? ⟨w.heap.size+1+1,9,none⟩=some (.int .i64 0)
 y0:v.frozen? ⟨w.heap.size+1+1,0,none⟩=false
 y1:v.frozen? ⟨w.heap.size+1+1,1,none⟩=false
 y2:v.frozen? ⟨w.heap.size+1+1,2,none⟩=false
 y3:v.frozen? ⟨w.heap.size+1+1,3,none⟩=false
 y4:v.frozen? ⟨w.heap.size+1+1,4,none⟩=false
 y5:v.frozen? ⟨w.heap.size+1+1,5,none⟩=false
 y6:v.frozen? ⟨w.heap.size+1+1,6,none⟩=false
 y7:v.frozen? ⟨w.heap.size+1+1,7,none⟩=false
 y8:v.frozen? ⟨w.heap.size+1+1,8,none⟩=false
 y9:v.frozen? ⟨w.heap.size+1+1,9,none⟩=false
theorem DE.of{w:World}{a0 a1 a2 a3 a4 a5 a6 a7 a8 a9:Value}{v:World}(b:Below w.heap.size w v)(f:v.rowIs w.heap.size 125 10 (Ck a0 a1 a2 a3 a4 a5 a6 a7 a8 a9))(r:v.rowIs (w.heap.size+1+1) 125 10 (Ck (.slice none 0 0) (.slice none 0 0) (.slice none 0 0) (.slice none 0 0) (.slice none 0 0) (.slice none 0 0) (.slice none 0 0) (.slice none 0 0) (.slice none 0 0) (.int .i64 0))):DE w a0 a1 a2 a3 a4 a5 a6 a7 a8 a9 v:=
 ⟨b,f.cell (i:=0) dE,f.cell (i:=1) dE,f.cell (i:=2) dE,f.cell (i:=3) dE,f.cell (i:=4) dE,f.cell (i:=5) dE,f.cell (i:=6) dE,f.cell (i:=7) dE,f.cell (i:=8) dE,f.cell (i:=9) dE,r.cell (i:=0) dE,r.cell (i:=1) dE,r.cell (i:=2) dE,r.cell (i:=3) dE,r.cell (i:=4) dE,r.cell (i:=5) dE,r.cell (i:=6) dE,r.cell (i:=7) dE,r.cell (i:=8) dE,r.cell (i:=9) dE,r.frozen 0,r.frozen 1,r.frozen 2,r.frozen 3,r.frozen 4,r.frozen 5,r.frozen 6,r.frozen 7,r.frozen 8,r.frozen 9⟩
theorem Ar{v:World}{a b:Addr}{x:Value}(h:v.cell? a=some x)(hne:¬a.block=b.block)(u:Value):(v.setCell b u).cell? a=some x:=by
 rw[World.cell?_of_block (Below.heap_setCell _ _ _ _ hne)];exact h
theorem PM{T:Nat->Prop}{w W:World}(hT2:∀v:World,w.heap.size+1+1+1<v.heap.size->∀b,T2 w T b->b<v.heap.size)(hsz:w.heap.size+1+1+1<W.heap.size)(x:Int){t:TypeId}{u:Value}:AT (T2 w T) ((W.setCell ⟨w.heap.size+1+1+1,0,none⟩ u).alloc (.cells #[.int .i64 x] t)) (some ⟨W.heap.size,0,none⟩) [x]:=by
 refine .inr ⟨W.heap.size,0,rfl,fun k=>by have:=hT2 W hsz _ k;omega,sM,fun j hj=>?_⟩;have hj0:j=0:=by have:j<1:=hj;omega
 subst hj0;have h1:(W.setCell ⟨w.heap.size+1+1+1,0,none⟩ u).heap.size=W.heap.size:=sM;have h2:=heap_alloc_new (W.setCell ⟨w.heap.size+1+1+1,0,none⟩ u) (.cells #[.int .i64 x] t);rw[h1]at h2;unfold World.cell?;simp only[h2];rfl
theorem IU{T:Nat->Prop}{w W:World}(hT2:∀v:World,w.heap.size+1+1+1<v.heap.size->∀b,T2 w T b->b<v.heap.size)(hsz:w.heap.size+1+1+1<W.heap.size)(x:Int){t:TypeId}{u:Value}:AT (T2 w T) ((W.alloc (.cells #[.int .i64 x] t)).setCell ⟨w.heap.size+1+1+1,0,none⟩ u) (some ⟨W.heap.size,0,none⟩) [x]:=by
 refine .inr ⟨W.heap.size,0,rfl,fun k=>by have:=hT2 W hsz _ k;omega,sM,fun j hj=>?_⟩;have hj0:j=0:=by have:j<1:=hj;omega
 subst hj0;rw[World.cell?_of_block (Below.heap_setCell _ _ _ _ (by show W.heap.size≠w.heap.size+1+1+1;omega))];simp[go_sem,B7]
theorem Gz{T:Nat->Prop}{w v:World}{p:Option Addr}{l:List Int}(h:AT (T2 w T) v p l)(i:Nat)(x:Value):AT (T2 w T) (v.setCell ⟨w.heap.size+1+1+1,i,none⟩ x) p l:=
 h.un ((Un.refl (fun b=>b=w.heap.size+1+1+1) v).setCell rF _) fun b _ e=>.inr ⟨oM,oM⟩
theorem Fq{T:Nat->Prop}{w:World}{a0 a1 a2 a3 a4 a5 a6 a7 a8 a9 u:Value}{I D:Nat->Value}{v:World}{Y:List Cl}(h:DW w (Ck a0 a1 a2 a3 a4 a5 a6 a7 a8 a9) I D v)(k:AO (T2 w T) v u Y):DE w a0 a1 a2 a3 u a5 a6 a7 a8 a9 (v.setCell ⟨w.heap.size,4,none⟩ u)/\AO (T2 w T) (v.setCell ⟨w.heap.size,4,none⟩ u) u Y:=by
 have hu:Un (fun b=>b=w.heap.size) v (v.setCell ⟨w.heap.size,4,none⟩ u):=(Un.refl _ _).setCell Zhd _;refine⟨DE.of (h.bel.setCell Zgz _) ((h.f.set 4 u).congr fun j hj=>?_) (h.r.setOther Zgv _),k.un hu fun b _ e=>.inr ⟨oM,oM⟩⟩;exact Zdb
theorem QP{T:Nat->Prop}{w:World}{a0 a1 a2 a3 a4 a5 a6 a7 a8 a9 u:Value}{I D:Nat->Value}{v:World}{Y:List Cl}(h:DW w (Ck a0 a1 a2 a3 a4 a5 a6 a7 a8 a9) I D v)(k:AO (T2 w T) v u Y):DE w a0 a1 a2 a3 a4 u a6 a7 a8 a9 (v.setCell ⟨w.heap.size,5,none⟩ u)/\AO (T2 w T) (v.setCell ⟨w.heap.size,5,none⟩ u) u Y:=by
 have hu:Un (fun b=>b=w.heap.size) v (v.setCell ⟨w.heap.size,5,none⟩ u):=(Un.refl _ _).setCell Zhd _;refine⟨DE.of (h.bel.setCell Zgz _) ((h.f.set 5 u).congr fun j hj=>?_) (h.r.setOther Zgv _),k.un hu fun b _ e=>.inr ⟨oM,oM⟩⟩;exact Zdb
theorem QO{T:Nat->Prop}{w:World}{a0 a1 a2 a3 a4 a5 a6 a7 a8 a9 u:Value}{I D:Nat->Value}{v:World}{Y:List Cl}(h:DW w (Ck a0 a1 a2 a3 a4 a5 a6 a7 a8 a9) I D v)(k:GZ (T2 w T) v u Y):DE w a0 a1 a2 a3 a4 a5 u a7 a8 a9 (v.setCell ⟨w.heap.size,6,none⟩ u)/\GZ (T2 w T) (v.setCell ⟨w.heap.size,6,none⟩ u) u Y:=by
 have hu:Un (fun b=>b=w.heap.size) v (v.setCell ⟨w.heap.size,6,none⟩ u):=(Un.refl _ _).setCell Zhd _;refine⟨DE.of (h.bel.setCell Zgz _) ((h.f.set 6 u).congr fun j hj=>?_) (h.r.setOther Zgv _),k.un hu fun b _ e=>.inr ⟨oM,oM⟩⟩;exact Zdb
theorem JS(x:Cl):∀ (X:List Cl) (d:Nat),d<X.length->(AJ Sy X).set d (.slice x.p x.h.pats.length x.q)=AJ Sy (X.set d x)
 |[],d,h=>by simp at h
 |y::X,0,h=>rfl
 |y::X,d+1,h=>by
  have ih:=JS x X d SH;have e:AJ Sy (y::X)=.slice y.p y.h.pats.length y.q::AJ Sy X:=rfl;rw[e,List.set_cons_succ,ih];rfl
theorem XE{T:Nat->Prop}{W:World}{O:List Cl}{M:Nat}(hM:O.length=M)(hl:M<=16384){p:Option Addr}{q:Nat}(h:GZ T W (.slice p M q) O)(hT:∀b,T b->b<W.heap.size)(ix:Nat)(hix:ix<M):
 ∃g cap w1,(Builtin.append_ #[123,123] 123 #[.slice none 0 0,.slice p M q]).run prog W=.ok (.slice (some ⟨g,0,none⟩) M cap) w1/\Below W.heap.size W w1/\(∃z,w1.cell? ⟨g,ix,none⟩=some z)/\w1.frozen? ⟨g,ix,none⟩=false/\W.heap.size<=g/\∀x:Cl,AT T W x.p x.h.pats->GZ T (w1.setCell ⟨g,ix,none⟩ (.slice x.p x.h.pats.length x.q)) (.slice (some ⟨g,0,none⟩) M cap) (O.set ix x):=by
 subst hM;obtain⟨i0,hi0,hz0,hz1,hz2⟩:=info_parts JW;obtain⟨u,w',hr,hb,hown⟩:=Es dE Io Xy underlying123 hi0 hz0 hz1 hz2 rfl h.row.row mL oM 123;obtain⟨g,cap,rfl,hg,hgl⟩:=hown.form oM;have hfl:(AJ Sy O).length=O.length*1:=EC Io O;refine⟨g,cap,w',hr,hb,⟨(AJ Sy O)[ix]'oM,?_⟩,hown.frozenAt ix,hg,fun x hx=>?_⟩
 ·rw[hown.cellAt ix oM,List.getElem?_eq_getElem]
 ·have s1:=(hown.stored ix (.slice x.p x.h.pats.length x.q)).1;rw[JS x O ix hix]at s1;have hbF:Below W.heap.size W (w'.setCell ⟨g,ix,none⟩ (.slice x.p x.h.pats.length x.q)):=hb.setCell hg _;refine⟨GC Io (by rw[List.length_set];exact s1) hT,fun y hy=>?_⟩;rcases List.mem_or_eq_of_mem_set hy with e|rfl
  ·exact(h.nums y e).below hbF
  ·exact hx.below hbF
abbrev LS(v:World)(b:Nat)(b0 b1 b2 b3 b4 b5 b6 b7 b8 b9:Value):World:=(((((((((v.setCell ⟨b,0,none⟩ b0).setCell ⟨b,1,none⟩ b1).setCell ⟨b,2,none⟩ b2).setCell ⟨b,3,none⟩ b3).setCell ⟨b,4,none⟩ b4).setCell ⟨b,5,none⟩ b5).setCell ⟨b,6,none⟩ b6).setCell ⟨b,7,none⟩ b7).setCell ⟨b,8,none⟩ b8).setCell ⟨b,9,none⟩ b9
theorem Iq(v:World)(b:Nat)(b0 b1 b2 b3 b4 b5 b6 b7 b8 b9:Value):Un (fun x=>x=b) v (LS v b b0 b1 b2 b3 b4 b5 b6 b7 b8 b9):=
 ((((((((((Un.refl _ _).setCell rF _).setCell rF _).setCell rF _).setCell rF _).setCell rF _).setCell rF _).setCell rF _).setCell rF _).setCell rF _).setCell rF _
theorem Iz{w:World}{a0 a1 a2 a3 a4 a5 a6 a7 a8 a9:Value}{v:World}(h:DE w a0 a1 a2 a3 a4 a5 a6 a7 a8 a9 v){b0 b1 b2 b3 b4 b5 b6 b7 b8 b9:Value}:Below w.heap.size w (LS v (w.heap.size+1+1) b0 b1 b2 b3 b4 b5 b6 b7 b8 b9):=by
 have:=Iq v (w.heap.size+1+1) b0 b1 b2 b3 b4 b5 b6 b7 b8 b9;exact(Un.trans (Un.mono (T:=fun b=>b=w.heap.size+1+1) (U:=fun _=>False) ⟨h.bel.os,h.bel.tape,h.bel.output,h.bel.size,fun b hb _=>h.bel.block b hb⟩ fun _ e=>e.elim) this).below (Nat.le_refl _) fun b e=>by omega
theorem L7{T:Nat->Prop}{w:World}{a0 a1 a2 a3 a4 a5 a6 a7 a8 a9 u:Value}{v:World}{Y:List Cl}(h:DE w a0 a1 a2 a3 a4 a5 a6 a7 a8 a9 v)(k:AO (T2 w T) v u Y){b0 b1 b2 b3 b4 b5 b6 b7 b8 b9:Value}:AO T (LS v (w.heap.size+1+1) b0 b1 b2 b3 b4 b5 b6 b7 b8 b9) u Y/\Below w.heap.size w (LS v (w.heap.size+1+1) b0 b1 b2 b3 b4 b5 b6 b7 b8 b9):=
 ⟨(k.un (Iq v _ _ _ _ _ _ _ _ _ _ _) fun b _ e=>.inr ⟨oM,oM⟩).mono fun b _ e=>.inl e,Iz h⟩
theorem Wt{T:Nat->Prop}{w:World}{a0 a1 a2 a3 a4 a5 a6 a7 a8 a9 u:Value}{v:World}{Y:List Cl}(h:DE w a0 a1 a2 a3 a4 a5 a6 a7 a8 a9 v)(k:GZ (T2 w T) v u Y){b0 b1 b2 b3 b4 b5 b6 b7 b8 b9:Value}:GZ T (LS v (w.heap.size+1+1) b0 b1 b2 b3 b4 b5 b6 b7 b8 b9) u Y/\Below w.heap.size w (LS v (w.heap.size+1+1) b0 b1 b2 b3 b4 b5 b6 b7 b8 b9):=
 ⟨(k.un (Iq v _ _ _ _ _ _ _ _ _ _ _) fun b _ e=>.inr ⟨oM,oM⟩).mono fun b _ e=>.inl e,Iz h⟩
theorem Ib(c:Cd)(hg:Good c)(v0 v1 v2 v3 ru su ou gu pu ct:Value)(X:List Cl)(hX:X.length=c.regs.length)(op nn bt:Int)(B C:Value)(kd ka:Nat)(hd:kd<c.regs.length)(ha:ka<X.length)(h2:c.regs[kd].kind=2)(w:World)(hv:D8 w v0 v1 v2 v3 c)(hcs:Sv w ru X):
 Calls prog 78 #[.agg #[v0,v1,v2,v3,ru,su,ou,gu,pu,ct],.agg #[.int .i64 op,.int .i64 (kd:Int),.int .i64 (ka:Int),B,C,.int .i64 nn,.int .u32 bt]] w fun e w'=>
  e=.returned (.agg #[.slice X[ka].p X[ka].h.pats.length X[ka].q,.int .i64 X[ka].h.whole])/\BO w' X[ka].p X[ka].h.pats/\Below w.heap.size w w':=by
 obtain⟨p1,q1,rfl,-⟩:=id hv.regs;obtain⟨lb,lo,rfl,hreg⟩:=hv.regs.at hd;obtain⟨pr,qr,rfl,-⟩:=id hcs.row;obtain⟨rb,ro,rfl,hca⟩:=hcs.row.at ha;have na:=hcs.nums _ (List.getElem_mem ha);obtain⟨xa,hxa⟩:∃x,X[ka]=x:=⟨_,rfl⟩
 rw[hxa]at hca na ⊢;obtain⟨⟨tk,tp⟩,hT⟩:∃t:Ty,c.regs[kd]=t:=⟨_,rfl⟩
 rw[hT]at hreg h2;simp only at h2;obtain⟨n1,hn1'⟩:∃n,c.regs.length=n:=⟨_,rfl⟩
 rw[hX]at ha ⊢;rw[hn1']at hd ha ⊢;have hregsL:=hg.regsL;rw[hn1']at hregsL;obtain⟨LA,hLA⟩:∃l,xa.h.pats.length=l:=⟨_,rfl⟩
 have y0:w.cell? ⟨rb,ro+ka*2,none⟩=some (.slice xa.p LA xa.q):=by rw[←hLA];exact hca.at 0 rfl
 have y1:w.cell? ⟨rb,ro+ka*2+1,none⟩=some (.int .i64 xa.h.whole):=hca.at 1 rfl;rw[hLA];have z0:w.cell? ⟨lb,lo+kd*2,none⟩=some (.int .i64 tk):=hreg.at 0 rfl;have z1:w.cell? ⟨lb,lo+kd*2+1,none⟩=some (.int .i64 tp):=hreg.at 1 rfl;have hba:Below w.heap.size w (((w.alloc (.cells #[v0,.slice (some ⟨lb,lo,none⟩) n1 q1,v2,v3,.slice (some ⟨rb,ro,none⟩) n1 qr,su,ou,gu,pu,ct] 125)).alloc (.cells #[.int .i64 op,.int .i64 (kd:Int),.int .i64 (ka:Int),B,C,.int .i64 nn,.int .u32 bt] 45)).alloc (.cells #[.slice none 0 0,.int .i64 0] 84)):=bel (A0 _ _) (bel (A0 _ _) (A0 _ _));have b1:(((w.alloc (.cells #[v0,.slice (some ⟨lb,lo,none⟩) n1 q1,v2,v3,.slice (some ⟨rb,ro,none⟩) n1 qr,su,ou,gu,pu,ct] 125)).alloc (.cells #[.int .i64 op,.int .i64 (kd:Int),.int .i64 (ka:Int),B,C,.int .i64 nn,.int .u32 bt] 45)).alloc (.cells #[.slice none 0 0,.int .i64 0] 84)).cell? ⟨w.heap.size,1,none⟩=some (.slice (some ⟨lb,lo,none⟩) n1 q1):=kc (A0 _ _) (kc (A0 _ _) sG);have b2:(((w.alloc (.cells #[v0,.slice (some ⟨lb,lo,none⟩) n1 q1,v2,v3,.slice (some ⟨rb,ro,none⟩) n1 qr,su,ou,gu,pu,ct] 125)).alloc (.cells #[.int .i64 op,.int .i64 (kd:Int),.int .i64 (ka:Int),B,C,.int .i64 nn,.int .u32 bt] 45)).alloc (.cells #[.slice none 0 0,.int .i64 0] 84)).cell? ⟨w.heap.size+1,1,none⟩=some (.int .i64 (kd:Int)):=kc (A0 _ _) sG;have b3:=kc hba z0;have b4:=kc hba z1;have c1:∀o,((((w.alloc (.cells #[v0,.slice (some ⟨lb,lo,none⟩) n1 q1,v2,v3,.slice (some ⟨rb,ro,none⟩) n1 qr,su,ou,gu,pu,ct] 125)).alloc (.cells #[.int .i64 op,.int .i64 (kd:Int),.int .i64 (ka:Int),B,C,.int .i64 nn,.int .u32 bt] 45)).alloc (.cells #[.slice none 0 0,.int .i64 0] 84)).alloc o).cell? ⟨w.heap.size,4,none⟩=some (.slice (some ⟨rb,ro,none⟩) n1 qr):=fun o=>kc (A0 _ _) (kc (A0 _ _) (kc (A0 _ _) sG));have c2:∀o,((((w.alloc (.cells #[v0,.slice (some ⟨lb,lo,none⟩) n1 q1,v2,v3,.slice (some ⟨rb,ro,none⟩) n1 qr,su,ou,gu,pu,ct] 125)).alloc (.cells #[.int .i64 op,.int .i64 (kd:Int),.int .i64 (ka:Int),B,C,.int .i64 nn,.int .u32 bt] 45)).alloc (.cells #[.slice none 0 0,.int .i64 0] 84)).alloc o).cell? ⟨w.heap.size+1,2,none⟩=some (.int .i64 (ka:Int)):=fun o=>kc (A0 _ _) (kc (A0 _ _) sG);have c3:=fun o=>kc (bel hba (A0 _ o)) y0;have c4:=fun o=>kc (bel hba (A0 _ o)) y1;have c5:∀o,((((w.alloc (.cells #[v0,.slice (some ⟨lb,lo,none⟩) n1 q1,v2,v3,.slice (some ⟨rb,ro,none⟩) n1 qr,su,ou,gu,pu,ct] 125)).alloc (.cells #[.int .i64 op,.int .i64 (kd:Int),.int .i64 (ka:Int),B,C,.int .i64 nn,.int .u32 bt] 45)).alloc (.cells #[.slice none 0 0,.int .i64 0] 84)).alloc o).cell? ⟨w.heap.size+1+1,0,none⟩=some (.slice none 0 0):=fun o=>kc (A0 _ _) sG;have c6:∀o,((((w.alloc (.cells #[v0,.slice (some ⟨lb,lo,none⟩) n1 q1,v2,v3,.slice (some ⟨rb,ro,none⟩) n1 qr,su,ou,gu,pu,ct] 125)).alloc (.cells #[.int .i64 op,.int .i64 (kd:Int),.int .i64 (ka:Int),B,C,.int .i64 nn,.int .u32 bt] 45)).alloc (.cells #[.slice none 0 0,.int .i64 0] 84)).alloc o).cell? ⟨w.heap.size+1+1,1,none⟩=some (.int .i64 0):=fun o=>kc (A0 _ _) sG;have c7:∀o,((((w.alloc (.cells #[v0,.slice (some ⟨lb,lo,none⟩) n1 q1,v2,v3,.slice (some ⟨rb,ro,none⟩) n1 qr,su,ou,gu,pu,ct] 125)).alloc (.cells #[.int .i64 op,.int .i64 (kd:Int),.int .i64 (ka:Int),B,C,.int .i64 nn,.int .u32 bt] 45)).alloc (.cells #[.slice none 0 0,.int .i64 0] 84)).alloc o).frozen? ⟨w.heap.size+1+1,0,none⟩=false:=fun o=>kf (A0 _ _) (by simp[go_sem]:(((w.alloc (.cells #[v0,.slice (some ⟨lb,lo,none⟩) n1 q1,v2,v3,.slice (some ⟨rb,ro,none⟩) n1 qr,su,ou,gu,pu,ct] 125)).alloc (.cells #[.int .i64 op,.int .i64 (kd:Int),.int .i64 (ka:Int),B,C,.int .i64 nn,.int .u32 bt] 45)).alloc (.cells #[.slice none 0 0,.int .i64 0] 84)).cell? ⟨w.heap.size+1+1,0,none⟩=some (.slice none 0 0)) sG;have c8:∀o,((((w.alloc (.cells #[v0,.slice (some ⟨lb,lo,none⟩) n1 q1,v2,v3,.slice (some ⟨rb,ro,none⟩) n1 qr,su,ou,gu,pu,ct] 125)).alloc (.cells #[.int .i64 op,.int .i64 (kd:Int),.int .i64 (ka:Int),B,C,.int .i64 nn,.int .u32 bt] 45)).alloc (.cells #[.slice none 0 0,.int .i64 0] 84)).alloc o).frozen? ⟨w.heap.size+1+1,1,none⟩=false:=fun o=>kf (A0 _ _) (by simp[go_sem]:(((w.alloc (.cells #[v0,.slice (some ⟨lb,lo,none⟩) n1 q1,v2,v3,.slice (some ⟨rb,ro,none⟩) n1 qr,su,ou,gu,pu,ct] 125)).alloc (.cells #[.int .i64 op,.int .i64 (kd:Int),.int .i64 (ka:Int),B,C,.int .i64 nn,.int .u32 bt] 45)).alloc (.cells #[.slice none 0 0,.int .i64 0] 84)).cell? ⟨w.heap.size+1+1,1,none⟩=some (.int .i64 0)) sG;have d1:(0:Int)<=(kd:Int):=oM;have d2:(kd:Int)<(n1:Int):=oM;have d3:(ka:Int)<(n1:Int):=oM;have h2b:(tk==2)=true:=by simpa using h2
 have HNA:Hid (BO w xa.p xa.h.pats):=na;have HBA:Hid (∀o,Below w.heap.size w ((((w.alloc (.cells #[v0,.slice (some ⟨lb,lo,none⟩) n1 q1,v2,v3,.slice (some ⟨rb,ro,none⟩) n1 qr,su,ou,gu,pu,ct] 125)).alloc (.cells #[.int .i64 op,.int .i64 (kd:Int),.int .i64 (ka:Int),B,C,.int .i64 nn,.int .u32 bt] 45)).alloc (.cells #[.slice none 0 0,.int .i64 0] 84)).alloc o)):=fun o=>bel hba (A0 _ _);clear hreg hca hcs hv hg hT hX h2 hxa na hLA hn1' y0 y1 z0 z1 hba;go_enter func78,ntmps78;go_wp2;refine bodyPost_ret Zgo rfl ?_;have hbF:∀a b d e,Below w.heap.size w ((((w.alloc a).alloc b).alloc d).alloc e):=fun a b d e=>bel (A0 _ _) (bel (A0 _ _) (bel (A0 _ _) (A0 _ _)));exact⟨rfl,HNA.out.below (hbF _ _ _ _),hbF _ _ _ _⟩
theorem Vm(c:Cd)(hg:Good c)(v0 v1 v2 v3:Value)(op A B C nn bt:Int)(ho:(3<=op/\op<=15)\/op=29\/op=30\/op=32)(k:Nat)(hk:k<c.regs.length)(w:World)(hv:D8 w v0 v1 v2 v3 c):
 Calls prog 47 #[.agg #[v0,v1,v2,v3],.agg #[.int .i64 op,.int .i64 (k:Int),.int .i64 A,.int .i64 B,.int .i64 C,.int .i64 nn,.int .u32 bt]] w fun e w'=>(∃n:Nat,n<=4096/\e=.returned (.int .i64 (n:Int)))/\Below w.heap.size w w':=by
 have KW:=EV v0 v1 v2 v3 c hg c.regs[k] (fun h=>hg.type (List.getElem_mem hk) h);have hwid:(if c.regs[k].kind=3 then lenOf c c.regs[k].par else 1)<=4096:=by split;exact hg.lenOf _;omega
 obtain⟨p1,q1,rfl,-⟩:=id hv.regs;obtain⟨lb,lo,rfl,hreg⟩:=hv.regs.at hk;obtain⟨⟨tk,tp⟩,hT⟩:∃t:Ty,c.regs[k]=t:=⟨_,rfl⟩
 rw[hT]at hreg KW hwid;unfold Dy at KW;simp only at KW hwid;obtain⟨Wd,hWd⟩:∃W,(if tk=3 then lenOf c tp else 1)=W:=⟨_,rfl⟩
 have hWi:(if tk=3 then(lenOf c tp:Int)else 1)=(Wd:Int):=by rw[←hWd];split<;>rfl
 rw[hWi]at KW;rw[hWd]at hwid;obtain⟨n1,hn1⟩:∃n,c.regs.length=n:=⟨_,rfl⟩
 rw[hn1]at hk KW ⊢;obtain⟨D,hD⟩:∃d:Int,(k:Int)=d:=⟨_,rfl⟩
 rw[hD];have z0:w.cell? ⟨lb,lo+k*2,none⟩=some (.int .i64 tk):=hreg.at 0 rfl;have z1:w.cell? ⟨lb,lo+k*2+1,none⟩=some (.int .i64 tp):=hreg.at 1 rfl;have HKW:Hid (∀v,Below w.heap.size w v->Calls prog 41 #[.agg #[v0,.slice (some ⟨lb,lo,none⟩) n1 q1,v2,v3],.agg #[.int .i64 tk,.int .i64 tp]] v fun e w'=>e=.returned (.int .i64 (Wd:Int))/\Below v.heap.size v w'):=fun v hb=>KW v (by have h9:=hv.below hb;rw[hn1]at h9;exact h9);subst hD;have HT:Hid (TW w v0 (.slice (some ⟨lb,lo,none⟩) n1 q1) v2 v3 (w.heap.size+1) op (k:Int) A B C nn bt _):=TW.start w v0 _ v2 v3 op (k:Int) A B C nn bt;obtain⟨hb00,c0,c1,c2,c3,i0,i1,i2,i3,i4,i5,i6⟩:=HT.out;have x0:=kc hb00 z0;have x1:=kc hb00 z1;have d1:(0:Int)<=(k:Int):=oM;have d2:(k:Int)<(n1:Int):=oM;have hrl:=hg.regsL;rw[hn1]at hrl;clear KW hreg hT hWd hWi hn1 hv hg;rcases ho with⟨o1,o2⟩|rfl|rfl|rfl
 all_goals
  go_enter func47,ntmps47;go_wp2;refine rG (fun v=>v.cell? ⟨w.heap.size,0,none⟩=some v0/\v.cell? ⟨w.heap.size,1,none⟩=some (.slice (some ⟨lb,lo,none⟩) n1 q1)/\v.cell? ⟨w.heap.size,2,none⟩=some v2/\v.cell? ⟨w.heap.size,3,none⟩=some v3/\v.cell? ⟨w.heap.size+1,1,none⟩=some (.int .i64 (k:Int))/\v.cell? ⟨lb,lo+k*2,none⟩=some (.int .i64 tk)/\v.cell? ⟨lb,lo+k*2+1,none⟩=some (.int .i64 tp)) fun hHeld=>?_;refine Tf 0 1 2 3 4 5 ?_;refine AN 6 ?_;clear hHeld;refine Ap 7 fun K hK=>?_;go_simp;(go_at_call 41;(with_reducible refine(HKW.out _ (bel HT.out.bel (A5 _))).mono ?_);rintro e w2 ⟨rfl,hb2⟩;have HT2:Hid (TW w v0 (.slice (some ⟨lb,lo,none⟩) n1 q1) v2 v3 (w.heap.size+1) _ (k:Int) A B C nn bt w2):=HT.out.next (bel (A5 _) hb2);clear hb2 c0 c1 c2 c3 i0 i1 i2 i3 i4 i5 i6 x0 x1;obtain⟨hb02,c0,c1,c2,c3,i0,i1,i2,i3,i4,i5,i6⟩:=HT2.out;have x0:=kc hb02 z0;have x1:=kc hb02 z1);exact Zel
theorem Vl(c:Cd)(hg:Good c)(v0 v1 v2 v3:Value)(op A B C nn bt:Int)(ho:op=31\/op=33\/op=19\/op=20)(k:Nat)(hk:k<c.regs.length)(w:World)(hv:D8 w v0 v1 v2 v3 c):
 Calls prog 47 #[.agg #[v0,v1,v2,v3],.agg #[.int .i64 op,.int .i64 A,.int .i64 (k:Int),.int .i64 B,.int .i64 C,.int .i64 nn,.int .u32 bt]] w fun e w'=>(∃n:Nat,n<=4096/\e=.returned (.int .i64 (n:Int)))/\Below w.heap.size w w':=by
 have KW:=EV v0 v1 v2 v3 c hg c.regs[k] (fun h=>hg.type (List.getElem_mem hk) h);have hwid:(if c.regs[k].kind=3 then lenOf c c.regs[k].par else 1)<=4096:=by split;exact hg.lenOf _;omega
 obtain⟨p1,q1,rfl,-⟩:=id hv.regs;obtain⟨lb,lo,rfl,hreg⟩:=hv.regs.at hk;obtain⟨⟨tk,tp⟩,hT⟩:∃t:Ty,c.regs[k]=t:=⟨_,rfl⟩
 rw[hT]at hreg KW hwid;unfold Dy at KW;simp only at KW hwid;obtain⟨Wd,hWd⟩:∃W,(if tk=3 then lenOf c tp else 1)=W:=⟨_,rfl⟩
 have hWi:(if tk=3 then(lenOf c tp:Int)else 1)=(Wd:Int):=by rw[←hWd];split<;>rfl
 rw[hWi]at KW;rw[hWd]at hwid;obtain⟨n1,hn1⟩:∃n,c.regs.length=n:=⟨_,rfl⟩
 rw[hn1]at hk KW ⊢;obtain⟨D,hD⟩:∃d:Int,(k:Int)=d:=⟨_,rfl⟩
 rw[hD];have z0:w.cell? ⟨lb,lo+k*2,none⟩=some (.int .i64 tk):=hreg.at 0 rfl;have z1:w.cell? ⟨lb,lo+k*2+1,none⟩=some (.int .i64 tp):=hreg.at 1 rfl;have HKW:Hid (∀v,Below w.heap.size w v->Calls prog 41 #[.agg #[v0,.slice (some ⟨lb,lo,none⟩) n1 q1,v2,v3],.agg #[.int .i64 tk,.int .i64 tp]] v fun e w'=>e=.returned (.int .i64 (Wd:Int))/\Below v.heap.size v w'):=fun v hb=>KW v (by have h9:=hv.below hb;rw[hn1]at h9;exact h9);subst hD;have HT:Hid (TW w v0 (.slice (some ⟨lb,lo,none⟩) n1 q1) v2 v3 (w.heap.size+1) op A (k:Int) B C nn bt _):=TW.start w v0 _ v2 v3 op A (k:Int) B C nn bt;obtain⟨hb00,c0,c1,c2,c3,i0,i1,i2,i3,i4,i5,i6⟩:=HT.out;have x0:=kc hb00 z0;have x1:=kc hb00 z1;have d1:(0:Int)<=(k:Int):=oM;have d2:(k:Int)<(n1:Int):=oM;have hrl:=hg.regsL;rw[hn1]at hrl;clear KW hreg hT hWd hWi hn1 hv hg;rcases ho with rfl|rfl|rfl|rfl
 all_goals
  go_enter func47,ntmps47;go_wp2;refine rG (fun v=>v.cell? ⟨w.heap.size,0,none⟩=some v0/\v.cell? ⟨w.heap.size,1,none⟩=some (.slice (some ⟨lb,lo,none⟩) n1 q1)/\v.cell? ⟨w.heap.size,2,none⟩=some v2/\v.cell? ⟨w.heap.size,3,none⟩=some v3/\v.cell? ⟨w.heap.size+1,2,none⟩=some (.int .i64 (k:Int))/\v.cell? ⟨lb,lo+k*2,none⟩=some (.int .i64 tk)/\v.cell? ⟨lb,lo+k*2+1,none⟩=some (.int .i64 tp)) fun hHeld=>?_;refine Tf 0 1 2 3 4 5 ?_;refine AN 6 ?_;clear hHeld;refine Ap 7 fun K hK=>?_;go_simp;(go_at_call 41;(with_reducible refine(HKW.out _ (bel HT.out.bel (A5 _))).mono ?_);rintro e w2 ⟨rfl,hb2⟩;have HT2:Hid (TW w v0 (.slice (some ⟨lb,lo,none⟩) n1 q1) v2 v3 (w.heap.size+1) _ A (k:Int) B C nn bt w2):=HT.out.next (bel (A5 _) hb2);clear hb2 c0 c1 c2 c3 i0 i1 i2 i3 i4 i5 i6 x0 x1;obtain⟨hb02,c0,c1,c2,c3,i0,i1,i2,i3,i4,i5,i6⟩:=HT2.out;have x0:=kc hb02 z0;have x1:=kc hb02 z1);exact Zel
theorem Vk(v0 v1 v2 v3:Value)(op D A B C nn bt:Int)(ho:op=1\/op=2\/op=16\/op=17\/op=18\/op=21\/op=22\/op=23\/op=24\/op=25\/op=26\/op=27\/op=28\/op=34\/op=35\/op=36\/op=37)(w:World):
 Calls prog 47 #[.agg #[v0,v1,v2,v3],.agg #[.int .i64 op,.int .i64 D,.int .i64 A,.int .i64 B,.int .i64 C,.int .i64 nn,.int .u32 bt]] w fun e w'=>(∃n:Nat,n<=4096/\e=.returned (.int .i64 (n:Int)))/\Below w.heap.size w w':=by
 rcases ho with rfl|rfl|rfl|rfl|rfl|rfl|rfl|rfl|rfl|rfl|rfl|rfl|rfl|rfl|rfl|rfl|rfl
 all_goals
  go_enter func47,ntmps47;go_wp2;go_ret;first
   |exact⟨⟨1,dE,rfl⟩,bel (A0 _ _) (A0 _ _)⟩
   |exact⟨⟨62,dE,rfl⟩,bel (A0 _ _) (A0 _ _)⟩
def II:ByteArray:=⟨#[119]⟩
def Bc(k:Int):Cd:=⟨[⟨II,1,2⟩],[⟨3,0⟩,⟨1,0⟩,⟨2,0⟩],[⟨⟨2,0⟩,true,0,k⟩],[⟨29,0,0,0,0,0,0⟩,⟨1,1,0,0,0,0,1056964608⟩,⟨6,0,0,1,0,0,0⟩,⟨31,0,0,0,0,0,0⟩,⟨32,2,0,0,0,0,0⟩,⟨21,2,2,0,0,0,0⟩,⟨33,0,2,0,0,0,0⟩]⟩
theorem Og(k:Int)(h0:0<=k)(h1:k<=2147483647):Ch (Bc k)=0:=by
 have e1:AP (Bc k).sign=0:=by show AP [⟨II,1,2⟩]=0;decide+kernel
 have e2:Bl (Bc k)=true:=by
  unfold Bl Bc;simp[AQ,As,Eo,CJ,h0,h1]
 have e3:Al (Bc k)=true:=by
  unfold Al Bc;simp[As,Aj]
 unfold Ch;rw[if_neg (by simp[e1]),if_neg (by show¬ (16384<3\/32768<7);decide),if_neg (by show¬ (4096<1);decide),e2,e3];rfl
theorem DN(k:Int)(h0:0<=k)(h1:k<=2147483647):(Au (Bc k)).1=0:=by
 rw[JG];exact⟨Og k h0 h1,rF,rF⟩
theorem Lk(k:Int):B5 (Bc k):=by
 refine⟨by show(1:Nat)<=_;decide,fun p hp=>?_,by show(3:Nat)<=_;decide,by show(1:Nat)<=_;decide,by show(7:Nat)<=_;decide,fun s hs=>?_,fun i hi=>?_⟩
 ·simp[Bc]at hp;rw[hp];decide
 ·simp[Bc]at hs;rw[hs];show(0:Int)<=0/\(0:Int)<4294967296;decide
 ·simp[Bc]at hi;rcases hi with e|e|e|e|e|e|e<;>rw[e]<;>decide
theorem Oi(k:Int):Ba (Bc k)=[⟨[],k⟩]:=rF
theorem Oj(k y:Int)(G P:List (List Int)):(Di (Bc k) [⟨[],y⟩] G P).slots=[⟨[],min y 2147483646+1⟩]:=rF
theorem R6(k:Int)(x y:Int):Ds (Bc k) [[x,y]] [[x,y]]=true:=rF
theorem Oh(k:Int):Ds (Bc k) [] []=false:=rF
theorem Tt:E1 (Bc 4) (Di (Bc 4) [⟨[],4⟩] [[1073741824,1065353216]] [[1073741824,1065353216]])=[[1065353216,1056964608]]:=by decide+kernel
end Go.Proofs.YtbinohkcolcbfaaGreat
