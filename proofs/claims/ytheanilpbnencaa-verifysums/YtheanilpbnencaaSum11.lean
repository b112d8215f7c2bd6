import Derived.Test.YtheanilpbnencaaSum9
import Derived.Test.YtheanilpbnencaaSum7
import Derived.Deep.DeepCutAuto
import Derived.Test.YtheanilpbnencaaSum1
namespace Go.Proofs.Ytheanilpbnencaa
open Go.RowKit Go.Proofs.Try
set_option linter.all false
set_option maxRecDepth 100000
set_option maxHeartbeats 16000000

theorem Fj:∀x:AF,∀u∈Az x,u.oneCell'=true:=fun x u hu=>by simp[Az]at hu;rcases hu with rfl|rfl|rfl<;>rfl
theorem EE:∀x:Ty,∀u∈DV x,u.oneCell'=true:=fun x u hu=>by simp[DV]at hu;rcases hu with rfl|rfl<;>rfl
theorem Ey:∀x:Sl,∀u∈Ex x,u.oneCell'=true:=fun x u hu=>by simp[Ex]at hu;rcases hu with rfl|rfl|rfl|rfl|rfl<;>rfl
theorem D8:(prog.info? 47).map (fun i=>(i.zero,i.size,i.bytes))=some (some (.agg #[.int .i64 0,.int .i64 0]),2,16):=kR
theorem D7:(prog.info? 51).map (fun i=>(i.zero,i.size,i.bytes))=some (some (.agg #[.int .i64 0,.int .i64 0,.bool false,.int .u32 0,.int .i64 0]),5,32):=kR
theorem G4{l:List AF}{v:Value}{w:World}(h:AQ 3 Az w v l)(hl:l.length*32<=140737488355328)(ty:TypeId):
 ∃v' w',(Builtin.append_ #[22,22] ty #[.slice none 0 0,v]).run prog w=.ok v' w'/\Below w.heap.size w w'/\w'.ownsRow w.heap.size 63 3 v' l.length (Aq Az l):=by
 obtain⟨i0,hi0,hz0,hz1,hz2⟩:=info_parts E9;exact BN dE Bz Fj underlying22 hi0 hz0 hz1 hz2 rfl h mL hl ty
theorem GM{l:List Ty}{v:Value}{w:World}(h:AQ 2 DV w v l)(hl:l.length*16<=140737488355328)(ty:TypeId):
 ∃v' w',(Builtin.append_ #[23,23] ty #[.slice none 0 0,v]).run prog w=.ok v' w'/\Below w.heap.size w w'/\w'.ownsRow w.heap.size 47 2 v' l.length (Aq DV l):=by
 obtain⟨i0,hi0,hz0,hz1,hz2⟩:=info_parts D8;exact BN dE BY EE underlying23 hi0 hz0 hz1 hz2 rfl h mL hl ty
theorem GL{l:List Sl}{v:Value}{w:World}(h:AQ 5 Ex w v l)(hl:l.length*32<=140737488355328)(ty:TypeId):
 ∃v' w',(Builtin.append_ #[24,24] ty #[.slice none 0 0,v]).run prog w=.ok v' w'/\Below w.heap.size w w'/\w'.ownsRow w.heap.size 51 5 v' l.length (Aq Ex l):=by
 obtain⟨i0,hi0,hz0,hz1,hz2⟩:=info_parts D7;exact BN dE Co Ey underlying24 hi0 hz0 hz1 hz2 rfl h mL hl ty
def f4(a b c d:Value)(j:Nat):Value:=if j=0 then a else if j=1 then b else if j=2 then c else d
structure CW(w:World)(v0 v1 v2 v3 x0 x1 x2 x3:Value)(v:World):Prop where
 bel:Below w.heap.size w v
 c:A8 v w.heap.size 0 [v0,v1,v2,v3]
 r:v.rowIs (w.heap.size+1) 27 4 (f4 (.slice none 0 0) (.slice none 0 0) (.slice none 0 0) (.slice none 0 0))
 d:v.rowIs (w.heap.size+1+1) 27 4 (f4 x0 x1 x2 x3)
theorem CW.app{w:World}{v0 v1 v2 v3 x0 x1 x2 x3:Value}{v v':World}(h:CW w v0 v1 v2 v3 x0 x1 x2 x3 v)(k:Below v.heap.size v v'):CW w v0 v1 v2 v3 x0 x1 x2 x3 v':=
 ⟨Go.Proofs.Ytheanilpbnencaa.bel h.bel k,h.c.below k,h.r.of_block (k.block _ h.r.lt),h.d.of_block (k.block _ h.d.lt)⟩
theorem CW.put{w:World}{v0 v1 v2 v3 x0 x1 x2 x3 y0 y1 y2 y3:Value}{v:World}(h:CW w v0 v1 v2 v3 x0 x1 x2 x3 v)(i:Nat)(x:Value)(e:∀j,j<4->(if j=i then x else f4 x0 x1 x2 x3 j)=f4 y0 y1 y2 y3 j):CW w v0 v1 v2 v3 y0 y1 y2 y3 (v.setCell ⟨w.heap.size+1+1,i,none⟩ x):=by
 have nb:∀b,b≠w.heap.size+1+1->(v.setCell ⟨w.heap.size+1+1,i,none⟩ x).heap[b]? =v.heap[b]? :=fun b hb=>gE hb;exact⟨h.bel.setCell (by show w.heap.size<=w.heap.size+1+1;omega) _,h.c.of_block (nb _ oM),h.r.of_block (nb _ oM),(h.d.set i x).congr e⟩
theorem CW.start(w:World)(v0 v1 v2 v3:Value):CW w v0 v1 v2 v3 (.slice none 0 0) (.slice none 0 0) (.slice none 0 0) (.slice none 0 0) (((w.alloc (.cells #[v0,v1,v2,v3] 27)).alloc (.cells #[.slice none 0 0,.slice none 0 0,.slice none 0 0,.slice none 0 0] 27)).alloc (.cells #[.slice none 0 0,.slice none 0 0,.slice none 0 0,.slice none 0 0] 27)):=by
 have q:∀u:World,(u.alloc (.cells #[.slice none 0 0,.slice none 0 0,.slice none 0 0,.slice none 0 0] 27)).rowIs u.heap.size 27 4 (f4 (.slice none 0 0) (.slice none 0 0) (.slice none 0 0) (.slice none 0 0)):=fun u=>World.rowIs_alloc u #[.slice none 0 0,.slice none 0 0,.slice none 0 0,.slice none 0 0] 27 _ (fun i hi=>by
  have hi':i<4:=hi;obtain rfl|rfl|rfl|rfl:i=0\/i=1\/i=2\/i=3:=oM
  all_goals rfl)
 have h1:=q (w.alloc (.cells #[v0,v1,v2,v3] 27));have h2:=q ((w.alloc (.cells #[v0,v1,v2,v3] 27)).alloc (.cells #[.slice none 0 0,.slice none 0 0,.slice none 0 0,.slice none 0 0] 27));have s1:(w.alloc (.cells #[v0,v1,v2,v3] 27)).heap.size=w.heap.size+1:=sM;have s2:((w.alloc (.cells #[v0,v1,v2,v3] 27)).alloc (.cells #[.slice none 0 0,.slice none 0 0,.slice none 0 0,.slice none 0 0] 27)).heap.size=w.heap.size+1+1:=sM;rw[s1]at h1;rw[s2]at h2;refine⟨Go.Proofs.Ytheanilpbnencaa.bel (Go.Proofs.Ytheanilpbnencaa.bel (A0 _ _) (A0 _ _)) (A0 _ _),fun j hj=>?_,h1.alloc _,h2⟩;have hj':j<4:=hj;obtain rfl|rfl|rfl|rfl:j=0\/j=1\/j=2\/j=3:=oM
 all_goals simp[go_sem]
def Up(E:Nat)(v v':World):Prop:=v.heap.size<=v'.heap.size/\∀b,E<=b->b<v.heap.size->v'.heap[b]? =v.heap[b]?
theorem Up.of{E:Nat}{v v':World}(k:Below v.heap.size v v'):Up E v v':=⟨k.size,fun b _ hb=>k.block b hb⟩
theorem Up.set{E:Nat}(v:World){D:Nat}(hD:D<E)(i:Nat)(x:Value):Up E v (v.setCell ⟨D,i,none⟩ x):=⟨sM,fun b hb _=>gE (by show b≠D;omega)⟩
theorem Up.trans{E:Nat}{a b c:World}(h:Up E a b)(k:Up E b c):Up E a c:=⟨gH h.1 k.1,fun x hx hl=>(k.2 x hx (Nat.lt_of_lt_of_le hl h.1)).trans (h.2 x hx hl)⟩
theorem Up.own{E B:Nat}{v v':World}{t:TypeId}{k n:Nat}{u:Value}{xs:List Value}(h:Up E v v')(ho:v.ownsRow B t k u n xs)(hB:E<=B):v'.ownsRow B t k u n xs:=Ab ho fun g hg=>h.2 g (gH hB (ho.lt g hg).1) (ho.lt g hg).2
structure GG(B:Nat)(w:World)(u0 u1 u2 u3:Value)(c:Cd):Prop where
 sign:w.ownsRow B 63 3 u0 c.sign.length (Aq Az c.sign)
 regs:w.ownsRow B 47 2 u1 c.regs.length (Aq DV c.regs)
 slots:w.ownsRow B 51 5 u2 c.slots.length (Aq Ex c.slots)
 list:w.ownsRow B 53 7 u3 c.list.length (Aq B9 c.list)
structure GF(c:Cd):Prop where
 s:c.sign.length*32<=140737488351232
 r:c.regs.length*16<=140737488351232
 l:c.slots.length*32<=140737488351232
 i:c.list.length*56<=140737488351232
theorem F8(p:Option Addr)(n c:Nat)(x:Option Addr)(d:Nat)(hn:n<=c)(hm:n<=140737488351232)(ty:TypeId)(w:World):(Builtin.append_ #[25,25] ty #[.slice p n c,.slice x 0 d]).run prog w=.ok (.slice p n c) w:=by
 obtain⟨i0,hi0,hz0,hz1,hz2⟩:=info_parts BE;have h1:¬c<n:=oM;cases x with
 |none=>cases p<;>simp[Builtin.append_,run_underlying underlying25,sizeOf,typeInfo,hi0,Builtin.lenOf,Builtin.firstCells,storeCells,loadCells,loadCellsFrom,hn,h1]
 |some a=>cases p<;>simp[Builtin.append_,run_underlying underlying25,sizeOf,typeInfo,hi0,Builtin.lenOf,Builtin.firstCells,storeCells,loadCells,loadCellsFrom,hn,h1]
theorem Ap{w:World}{B B':Nat}{t t':TypeId}{k k' n n':Nat}{v v':Value}{xs xs':List Value}(h:w.ownsRow B t k v n xs)(h':w.ownsRow B' t' k' v' n' xs')(ht:t≠t'):∀b,v.ownBlock=some b->v'.ownBlock≠some b:=by
 intro b hb hb';rcases h.2 with⟨rfl,_⟩|⟨g,cap,cur,rfl,_,hg,_⟩
 .exact absurd (show(none:Option Nat)=some b from hb) sM
 rcases h'.2 with⟨rfl,_⟩|⟨g',cap',cur',rfl,_,hg',_⟩
 .exact absurd (show(none:Option Nat)=some b from hb') sM
 have e1:g=b:=Option.some.inj hb;have e2:g'=b:=Option.some.inj hb';rw[e1]at hg;rw[e2,hg]at hg';simp only[Option.some.injEq,Obj.cells.injEq]at hg';exact ht hg'.2.1
theorem GN{B:Nat}{V:World}{p:Option Addr}{q:Nat}{l m:List Au}{x:Option Addr}{d:Nat}(ho:V.ownsRow B 53 7 (.slice p l.length q) l.length (Aq B9 l))(hr:AQ 7 B9 V (.slice x m.length d) m)(hB:B<=V.heap.size)(hl:(l.length+m.length)*56<=140737488351232):
 ∃p' c' w',(Builtin.append_ #[25,25] 25 #[.slice p l.length q,.slice x m.length d]).run prog V=.ok (.slice p' (l.length+m.length) c') w'/\Below B V w'/\w'.ownsRow B 53 7 (.slice p' (l.length+m.length) c') (l++m).length (Aq B9 (l++m))/\∀b,b<V.heap.size->(Value.slice p l.length q).ownBlock≠some b->w'.heap[b]? =V.heap[b]? :=by
 by_cases h0:m=[]
 .subst h0;refine⟨p,q,V,?_,Below.refl B V,?_,fun b _ _=>rfl⟩
  .simp only[List.length_nil,Nat.add_zero];exact F8 p l.length q x d (Ev ho) oM _ _
  .simp only[List.length_nil,Nat.add_zero,List.append_nil];exact ho
 .obtain⟨i0,hi0,hz0,hz1,hz2⟩:=info_parts BE;obtain⟨p',c',hv,h⟩:=hr;simp only[Value.slice.injEq]at hv;obtain⟨rfl,-,rfl⟩:=hv;obtain⟨b,o,rfl,h2⟩:=h.resolve_left h0;have hpos:0<m.length:=List.length_pos_iff.2 h0;obtain⟨g,cap,w',hr,hown,hg,hat,hlt⟩:=run_append_lies (P:=prog) V 25 25 B 53 i0 _ 7 56 underlying25 hi0 hz0 hz1 hz2 rfl dE (.slice p l.length q) l.length (Aq B9 l) ho ⟨b,o,none⟩ m.length d (Aq B9 m) (BP Ba m) (fun j u hu=>Db (w:=V) dE Ba h2 j u hu) (by intro u hu;obtain⟨y,_,hy⟩:=List.mem_flatMap.1 hu;exact Dn y u hy) hpos mL oM hB V.heap.size rfl;refine⟨some ⟨g,0,none⟩,cap,w',hr,?_,?_,fun k hk hne=>?_⟩
  .exact(Below.refl B V).grown hg hB (fun k e=>(ho.lt k e).1)
  .rw[List.length_append,B8];exact hown
  .exact hg.block k hk (Ne.symm hne)


theorem A4{p:Prop}(h:p):Hid p:=h
theorem Fl(w:World)(t:TypeId)(v0 v1 v2 v3:Value):(w.alloc (.cells #[v0,v1,v2,v3] t)).rowIs w.heap.size t 4 (f4 v0 v1 v2 v3):=
 World.rowIs_alloc w #[v0,v1,v2,v3] t _ (fun i hi=>by rcases(show i=0\/i=1\/i=2\/i=3 by have:i<4:=hi;omega)with rfl|rfl|rfl|rfl<;>rfl)
structure Dj(C:Nat)(V V':World):Prop where
 oth:∀b,b≠C->V'.heap[b]? =V.heap[b]?
 bel:∀B,B<=C->Below B V V'
theorem Dj.one(C o:Nat)(V:World)(v:Value):Dj C V (V.setCell ⟨C,o,none⟩ v):=⟨fun b h=>gE h,fun B h=>(Below.refl _ _).setCell h _⟩
theorem GX{V:World}{C:Nat}{t:TypeId}{v0 v1 v2 v3:Value}(rc:V.rowIs C t 4 (f4 v0 v1 v2 v3))(v:Value):(V.setCell ⟨C,1,none⟩ v).rowIs C t 4 (f4 v0 v v2 v3)/\Dj C V (V.setCell ⟨C,1,none⟩ v):=by
 refine⟨(rc.set 1 v).congr fun j hj=>?_,Dj.one C 1 V v⟩;exact HY
theorem c4{w:World}{b:Nat}{t:TypeId}{v0 v1 v2 v3:Value}(h:w.rowIs b t 4 (f4 v0 v1 v2 v3)):w.cell? ⟨b,0,none⟩=some v0/\w.cell? ⟨b,1,none⟩=some v1/\w.cell? ⟨b,2,none⟩=some v2/\w.cell? ⟨b,3,none⟩=some v3:=⟨h.cell (i:=0) dE,h.cell (i:=1) dE,h.cell (i:=2) dE,h.cell (i:=3) dE⟩
theorem z4{w:World}{b n:Nat}{t:TypeId}{f:Nat->Value}(h:w.rowIs b t n f):w.frozen? ⟨b,0,none⟩=false/\w.frozen? ⟨b,1,none⟩=false/\w.frozen? ⟨b,2,none⟩=false/\w.frozen? ⟨b,3,none⟩=false:=⟨h.frozen 0,h.frozen 1,h.frozen 2,h.frozen 3⟩
def g2(a0 a1:Value)(k:Nat):Value:=if k=0 then a0 else a1
theorem c2{w:World}{b:Nat}{t:TypeId}{a0 a1:Value}(h:w.rowIs b t 2 (g2 a0 a1)):w.cell? ⟨b,0,none⟩=some a0/\w.cell? ⟨b,1,none⟩=some a1:=⟨h.cell (i:=0) dE,h.cell (i:=1) dE⟩
theorem z2{w:World}{b n:Nat}{t:TypeId}{f:Nat->Value}(h:w.rowIs b t n f):w.frozen? ⟨b,0,none⟩=false/\w.frozen? ⟨b,1,none⟩=false:=⟨h.frozen 0,h.frozen 1⟩
def g3(a0 a1 a2:Value)(k:Nat):Value:=if k=0 then a0 else if k=1 then a1 else a2
theorem c3{w:World}{b:Nat}{t:TypeId}{a0 a1 a2:Value}(h:w.rowIs b t 3 (g3 a0 a1 a2)):w.cell? ⟨b,0,none⟩=some a0/\w.cell? ⟨b,1,none⟩=some a1/\w.cell? ⟨b,2,none⟩=some a2:=⟨h.cell (i:=0) dE,h.cell (i:=1) dE,h.cell (i:=2) dE⟩
theorem z3{w:World}{b n:Nat}{t:TypeId}{f:Nat->Value}(h:w.rowIs b t n f):w.frozen? ⟨b,0,none⟩=false/\w.frozen? ⟨b,1,none⟩=false/\w.frozen? ⟨b,2,none⟩=false:=⟨h.frozen 0,h.frozen 1,h.frozen 2⟩
def g5(a0 a1 a2 a3 a4:Value)(k:Nat):Value:=if k=0 then a0 else if k=1 then a1 else if k=2 then a2 else if k=3 then a3 else a4
theorem c5{w:World}{b:Nat}{t:TypeId}{a0 a1 a2 a3 a4:Value}(h:w.rowIs b t 5 (g5 a0 a1 a2 a3 a4)):w.cell? ⟨b,0,none⟩=some a0/\w.cell? ⟨b,1,none⟩=some a1/\w.cell? ⟨b,2,none⟩=some a2/\w.cell? ⟨b,3,none⟩=some a3/\w.cell? ⟨b,4,none⟩=some a4:=⟨h.cell (i:=0) dE,h.cell (i:=1) dE,h.cell (i:=2) dE,h.cell (i:=3) dE,h.cell (i:=4) dE⟩
theorem z5{w:World}{b n:Nat}{t:TypeId}{f:Nat->Value}(h:w.rowIs b t n f):w.frozen? ⟨b,0,none⟩=false/\w.frozen? ⟨b,1,none⟩=false/\w.frozen? ⟨b,2,none⟩=false/\w.frozen? ⟨b,3,none⟩=false/\w.frozen? ⟨b,4,none⟩=false:=⟨h.frozen 0,h.frozen 1,h.frozen 2,h.frozen 3,h.frozen 4⟩
theorem CP(v0 v1 v2 v3:Value)(c:Cd)(hz:GF c)(w:World)(hv:CU w v0 v1 v2 v3 c):
 Calls prog 7 #[.agg #[v0,v1,v2,v3]] w fun e w'=>∃u0 u1 u2 u3,e=.returned (.agg #[u0,u1,u2,u3])/\CU w' u0 u1 u2 u3 c/\GG w.heap.size w' u0 u1 u2 u3 c/\Below w.heap.size w w':=by
 have s0:=hz.s;have s1:=hz.r;have s2:=hz.l;have s3:=hz.i;have C0:=CW.start w v0 v1 v2 v3;obtain⟨W0,hW0⟩:∃W,((w.alloc (.cells #[v0,v1,v2,v3] 27)).alloc (.cells #[.slice none 0 0,.slice none 0 0,.slice none 0 0,.slice none 0 0] 27)).alloc (.cells #[.slice none 0 0,.slice none 0 0,.slice none 0 0,.slice none 0 0] 27)=W:=⟨_,rfl⟩
 have hE:W0.heap.size=w.heap.size+1+1+1:=by rw[<-hW0];simp
 rw[hW0]at C0;have U0:Up (w.heap.size+1+1+1) W0 W0:=⟨gF _,fun _ _ _=>rfl⟩
 obtain⟨z0,w1,r0,b0,o0⟩:=G4 (hv.sign.below C0.bel) oM 22;obtain⟨p0,q0,rfl⟩:=Ac o0;have D0:=C0.app b0;have c00:=C0.c.at 0 rfl;have c01:W0.cell? ⟨w.heap.size+1+1,0,none⟩=some (.slice none 0 0):=C0.d.cell (i:=0) dE;have c02:w1.cell? ⟨w.heap.size+1+1,0,none⟩=some (.slice none 0 0):=D0.d.cell (i:=0) dE;have c03:=D0.d.frozen 0;rw[Nat.zero_add]at c00;have C1:=D0.put (y0:=(.slice p0 c.sign.length q0)) (y1:=(.slice none 0 0)) (y2:=(.slice none 0 0)) (y3:=(.slice none 0 0)) 0 (.slice p0 c.sign.length q0) Hq;obtain⟨V1,hV1⟩:∃V,w1.setCell ⟨w.heap.size+1+1,0,none⟩ (.slice p0 c.sign.length q0)=V:=⟨_,rfl⟩
 have U1:Up (w.heap.size+1+1+1) W0 V1:=by rw[<-hV1];exact(Up.of b0).trans (Up.set _ oM _ _)
 have T1:Up (w.heap.size+1+1+1) w1 V1:=by rw[<-hV1];exact Up.set _ oM _ _
 have HV0:Hid (w1.setCell ⟨w.heap.size+1+1,0,none⟩ (.slice p0 c.sign.length q0)=V1):=hV1;rw[hV1]at C1;have HR0:Hid ((Builtin.append_ #[22,22] 22 #[.slice none 0 0,v0]).run prog W0=.ok (.slice p0 c.sign.length q0) w1):=r0;have e0:w.heap.size+1+1+1<=W0.heap.size:=by have:=U0.1;omega
 obtain⟨z1,w2,r1,b1,o1⟩:=GM (hv.regs.below C1.bel) oM 23;obtain⟨p1,q1,rfl⟩:=Ac o1;have D1:=C1.app b1;have c10:=C1.c.at 1 rfl;have c11:V1.cell? ⟨w.heap.size+1+1,1,none⟩=some (.slice none 0 0):=C1.d.cell (i:=1) dE;have c12:w2.cell? ⟨w.heap.size+1+1,1,none⟩=some (.slice none 0 0):=D1.d.cell (i:=1) dE;have c13:=D1.d.frozen 1;rw[Nat.zero_add]at c10;have C2:=D1.put (y0:=(.slice p0 c.sign.length q0)) (y1:=(.slice p1 c.regs.length q1)) (y2:=(.slice none 0 0)) (y3:=(.slice none 0 0)) 1 (.slice p1 c.regs.length q1) Hq;obtain⟨V2,hV2⟩:∃V,w2.setCell ⟨w.heap.size+1+1,1,none⟩ (.slice p1 c.regs.length q1)=V:=⟨_,rfl⟩
 have U2:Up (w.heap.size+1+1+1) V1 V2:=by rw[<-hV2];exact(Up.of b1).trans (Up.set _ oM _ _)
 have T2:Up (w.heap.size+1+1+1) w2 V2:=by rw[<-hV2];exact Up.set _ oM _ _
 have HV1:Hid (w2.setCell ⟨w.heap.size+1+1,1,none⟩ (.slice p1 c.regs.length q1)=V2):=hV2;rw[hV2]at C2;have HR1:Hid ((Builtin.append_ #[23,23] 23 #[.slice none 0 0,v1]).run prog V1=.ok (.slice p1 c.regs.length q1) w2):=r1;have e1:w.heap.size+1+1+1<=V1.heap.size:=by have:=U1.1;omega
 obtain⟨z2,w3,r2,b2,o2⟩:=GL (hv.slots.below C2.bel) oM 24;obtain⟨p2,q2,rfl⟩:=Ac o2;have D2:=C2.app b2;have c20:=C2.c.at 2 rfl;have c21:V2.cell? ⟨w.heap.size+1+1,2,none⟩=some (.slice none 0 0):=C2.d.cell (i:=2) dE;have c22:w3.cell? ⟨w.heap.size+1+1,2,none⟩=some (.slice none 0 0):=D2.d.cell (i:=2) dE;have c23:=D2.d.frozen 2;rw[Nat.zero_add]at c20;have C3:=D2.put (y0:=(.slice p0 c.sign.length q0)) (y1:=(.slice p1 c.regs.length q1)) (y2:=(.slice p2 c.slots.length q2)) (y3:=(.slice none 0 0)) 2 (.slice p2 c.slots.length q2) Hq;obtain⟨V3,hV3⟩:∃V,w3.setCell ⟨w.heap.size+1+1,2,none⟩ (.slice p2 c.slots.length q2)=V:=⟨_,rfl⟩
 have U3:Up (w.heap.size+1+1+1) V2 V3:=by rw[<-hV3];exact(Up.of b2).trans (Up.set _ oM _ _)
 have T3:Up (w.heap.size+1+1+1) w3 V3:=by rw[<-hV3];exact Up.set _ oM _ _
 have HV2:Hid (w3.setCell ⟨w.heap.size+1+1,2,none⟩ (.slice p2 c.slots.length q2)=V3):=hV3;rw[hV3]at C3;have HR2:Hid ((Builtin.append_ #[24,24] 24 #[.slice none 0 0,v2]).run prog V2=.ok (.slice p2 c.slots.length q2) w3):=r2;have e2:w.heap.size+1+1+1<=V2.heap.size:=by have:=U2.1;omega
 obtain⟨z3,w4,r3,b3,o3⟩:=G5 (hv.list.below C3.bel) oM 25;obtain⟨p3,q3,rfl⟩:=Ac o3;have D3:=C3.app b3;have c30:=C3.c.at 3 rfl;have c31:V3.cell? ⟨w.heap.size+1+1,3,none⟩=some (.slice none 0 0):=C3.d.cell (i:=3) dE;have c32:w4.cell? ⟨w.heap.size+1+1,3,none⟩=some (.slice none 0 0):=D3.d.cell (i:=3) dE;have c33:=D3.d.frozen 3;rw[Nat.zero_add]at c30;have C4:=D3.put (y0:=(.slice p0 c.sign.length q0)) (y1:=(.slice p1 c.regs.length q1)) (y2:=(.slice p2 c.slots.length q2)) (y3:=(.slice p3 c.list.length q3)) 3 (.slice p3 c.list.length q3) Hq;obtain⟨V4,hV4⟩:∃V,w4.setCell ⟨w.heap.size+1+1,3,none⟩ (.slice p3 c.list.length q3)=V:=⟨_,rfl⟩
 have U4:Up (w.heap.size+1+1+1) V3 V4:=by rw[<-hV4];exact(Up.of b3).trans (Up.set _ oM _ _)
 have T4:Up (w.heap.size+1+1+1) w4 V4:=by rw[<-hV4];exact Up.set _ oM _ _
 have HV3:Hid (w4.setCell ⟨w.heap.size+1+1,3,none⟩ (.slice p3 c.list.length q3)=V4):=hV4;rw[hV4]at C4;have HR3:Hid ((Builtin.append_ #[25,25] 25 #[.slice none 0 0,v3]).run prog V3=.ok (.slice p3 c.list.length q3) w4):=r3;have e3:w.heap.size+1+1+1<=V3.heap.size:=by have:=U3.1;omega
 have U5:Up (w.heap.size+1+1+1) V4 ((((V4.setCell ⟨w.heap.size+1,0,none⟩ (.slice p0 c.sign.length q0)).setCell ⟨w.heap.size+1,1,none⟩ (.slice p1 c.regs.length q1)).setCell ⟨w.heap.size+1,2,none⟩ (.slice p2 c.slots.length q2)).setCell ⟨w.heap.size+1,3,none⟩ (.slice p3 c.list.length q3)):=(((Up.set _ oM _ _).trans (Up.set _ oM _ _)).trans (Up.set _ oM _ _)).trans (Up.set _ oM _ _);have HF:Hid (CU ((((V4.setCell ⟨w.heap.size+1,0,none⟩ (.slice p0 c.sign.length q0)).setCell ⟨w.heap.size+1,1,none⟩ (.slice p1 c.regs.length q1)).setCell ⟨w.heap.size+1,2,none⟩ (.slice p2 c.slots.length q2)).setCell ⟨w.heap.size+1,3,none⟩ (.slice p3 c.list.length q3)) (.slice p0 c.sign.length q0) (.slice p1 c.regs.length q1) (.slice p2 c.slots.length q2) (.slice p3 c.list.length q3) c/\GG w.heap.size (((((V4.setCell ⟨w.heap.size+1,0,none⟩ (.slice p0 c.sign.length q0)).setCell ⟨w.heap.size+1,1,none⟩ (.slice p1 c.regs.length q1)).setCell ⟨w.heap.size+1,2,none⟩ (.slice p2 c.slots.length q2)).setCell ⟨w.heap.size+1,3,none⟩ (.slice p3 c.list.length q3))) (.slice p0 c.sign.length q0) (.slice p1 c.regs.length q1) (.slice p2 c.slots.length q2) (.slice p3 c.list.length q3) c/\Below w.heap.size w ((((V4.setCell ⟨w.heap.size+1,0,none⟩ (.slice p0 c.sign.length q0)).setCell ⟨w.heap.size+1,1,none⟩ (.slice p1 c.regs.length q1)).setCell ⟨w.heap.size+1,2,none⟩ (.slice p2 c.slots.length q2)).setCell ⟨w.heap.size+1,3,none⟩ (.slice p3 c.list.length q3))):=by
  have g0:=((((T1.trans U2).trans U3).trans U4).trans U5).own o0 e0;have g1:=(((T2.trans U3).trans U4).trans U5).own o1 e1;have g2:=((T3.trans U4).trans U5).own o2 e2;have g3:=(T4.trans U5).own o3 e3;refine⟨⟨Bb Bz g0,Bb BY g1,Bb Co g2,Bb Ba g3⟩,⟨Bw g0 oM,Bw g1 oM,Bw g2 oM,Bw g3 oM⟩,?_⟩;exact(((C4.bel.setCell Hs _).setCell Hs _).setCell Hs _).setCell Hs _
 have m0:V4.cell? ⟨w.heap.size+1+1,0,none⟩=some (.slice p0 c.sign.length q0):=C4.d.cell (i:=0) dE;have m1:V4.cell? ⟨w.heap.size+1+1,1,none⟩=some (.slice p1 c.regs.length q1):=C4.d.cell (i:=1) dE;have m2:V4.cell? ⟨w.heap.size+1+1,2,none⟩=some (.slice p2 c.slots.length q2):=C4.d.cell (i:=2) dE;have m3:V4.cell? ⟨w.heap.size+1+1,3,none⟩=some (.slice p3 c.list.length q3):=C4.d.cell (i:=3) dE;have k0:V4.cell? ⟨w.heap.size+1,0,none⟩=some (.slice none 0 0):=C4.r.cell (i:=0) dE;have k1:V4.cell? ⟨w.heap.size+1,1,none⟩=some (.slice none 0 0):=C4.r.cell (i:=1) dE;have k2:V4.cell? ⟨w.heap.size+1,2,none⟩=some (.slice none 0 0):=C4.r.cell (i:=2) dE;have k3:V4.cell? ⟨w.heap.size+1,3,none⟩=some (.slice none 0 0):=C4.r.cell (i:=3) dE;have y0:=C4.r.frozen 0;have y1:=C4.r.frozen 1;have y2:=C4.r.frozen 2;have y3:=C4.r.frozen 3;have HW:Hid (((w.alloc (.cells #[v0,v1,v2,v3] 27)).alloc (.cells #[.slice none 0 0,.slice none 0 0,.slice none 0 0,.slice none 0 0] 27)).alloc (.cells #[.slice none 0 0,.slice none 0 0,.slice none 0 0,.slice none 0 0] 27)=W0):=hW0;clear C0 C1 C2 C3 C4 D0 D1 D2 D3 U0 U1 U2 U3 U4 U5 T1 T2 T3 T4 o0 o1 o2 o3 b0 b1 b2 b3 r0 r1 r2 r3 hv hz hV1 hV2 hV3 hV4 hW0 e0 e1 e2 e3 hE;go_enter func7,ntmps7;go_upto_region 2 with fail;rw[HW.out];go_upto_region 3 with(at_builtin;refine Av rF _ _ _ rF _ _ _ rF rF HR0.out ?_)
 rw[HV0.out];go_upto_region 4 with(at_builtin;refine Av rF _ _ _ rF _ _ _ rF rF HR1.out ?_)
 rw[HV1.out];go_upto_region 5 with(at_builtin;refine Av rF _ _ _ rF _ _ _ rF rF HR2.out ?_)
 rw[HV2.out];go_upto_region 6 with(at_builtin;refine Av rF _ _ _ rF _ _ _ rF rF HR3.out ?_)
 rw[HV3.out];go_wp2;refine bodyPost_ret (by simp[results,results7,go_sem, *];try rfl) rfl ?_;exact⟨_,_,_,_,rfl,HF.1,HF.2.1,HF.2.2⟩
end Go.Proofs.Ytheanilpbnencaa
