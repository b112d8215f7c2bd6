import Derived.Test.YtbinohkcolcbfaaGreatPart12
import Derived.Test.YtbinohkcolcbfaaGreatPart7
import Derived.Test.YtbinohkcolcbfaaGreatPart9
import Derived.Test.YtbinohkcolcbfaaGreatRows
import Derived.WalkKit
import Derived.ProofKit
import Derived.OpenShut
import Derived.JoinedCond
import Derived.Deep.Slices
import Derived.Deep.Strs
import Derived.SizedLaws
import Derived.Test.YtbinohkcolcbfaaGreatPart1
namespace Go.Proofs.YtbinohkcolcbfaaGreat
open Go.RowKit Go.Proofs.Tryz
set_option linter.all false
set_option maxRecDepth 100000
set_option maxHeartbeats 16000000

theorem FN{w:World}{B B':Nat}{t t':TypeId}{k k' n n':Nat}{v v':Value}{xs xs':List Value}(h:w.ownsRow B t k v n xs)(h':w.ownsRow B' t' k' v' n' xs')(ht:t≠t'):∀b,v.ownBlock=some b->v'.ownBlock≠some b:=by
 intro b hb hb';rcases h.2 with⟨rfl,_⟩|⟨g,cap,cur,rfl,_,hg,_⟩
 ·exact absurd (show(none:Option Nat)=some b from hb) sM
 rcases h'.2 with⟨rfl,_⟩|⟨g',cap',cur',rfl,_,hg',_⟩
 ·exact absurd (show(none:Option Nat)=some b from hb') sM
 have e1:g=b:=Option.some.inj hb;have e2:g'=b:=Option.some.inj hb';rw[e1]at hg;rw[e2,hg]at hg';simp only[Option.some.injEq,Obj.cells.injEq]at hg';exact ht hg'.2.1


def CN(M:Nat)(X:List Nat):List Value:=(List.range M).map fun j=>.bool (decide (j∈X))
theorem J9(M:Nat)(X:List Nat):(CN M X).length=M:=by simp[CN]
theorem GQ{M:Nat}{X:List Nat}{j:Nat}(h:j<M):(CN M X)[j]? =some (.bool (decide (j∈X))):=by
 unfold CN;rw[List.getElem?_map,List.getElem?_range h];rfl
theorem Nd(M:Nat):CN M []=List.replicate M (.bool false):=by
 apply List.ext_getElem?;intro j;by_cases h:j<M
 ·rw[GQ h,List.getElem?_replicate,if_pos h];simp
 ·rw[List.getElem?_eq_none Zhn,List.getElem?_eq_none sO]
theorem Vn{M:Nat}{X:List Nat}{i:At}(hd:(A6 i.op).d≠0)(hl:i.d.toNat<M):(CN M X).set i.d.toNat (.bool true)=CN M (I9 X i):=by
 apply List.ext_getElem?;intro j;by_cases h:j<M
 ·rw[GQ h,List.getElem?_set];by_cases e:i.d.toNat=j
  ·rw[if_pos e,if_pos Zhn];have:j∈I9 X i:=PE.2 (.inr ⟨hd,e.symm⟩);simp[this]
  ·rw[if_neg e,GQ h];have:j∈I9 X i↔j∈X:=by
    rw[PE];exact⟨fun q=>q.resolve_right fun q=>e q.2.symm,.inl⟩
   simp[this]
 ·rw[List.getElem?_eq_none (by rw[List.length_set,J9];omega),List.getElem?_eq_none Zhn]
theorem S9{M:Nat}{X:List Nat}{i:At}(hd:(A6 i.op).d=0):I9 X i=X:=by unfold I9;rw[if_neg (fun q=>q.1 hd)]
theorem SM{B:Nat}{V:World}{p:Option Addr}{n q:Nat}{xs:List Value}(h:V.ownsRow B 4 1 (.slice p n q) n xs)(hB:B<=V.heap.size)(hn:n<=140737488351232):
 ∃g c' w',(Builtin.append_ #[100,100] 100 #[.slice p n q,.slice (some ⟨V.heap.size,0,none⟩) 1 1]).run prog (V.alloc (.cells #[.bool false] 4))=.ok (.slice (some ⟨g,0,none⟩) (n+1) c') w'/\Below B V w'/\w'.ownsRow B 4 1 (.slice (some ⟨g,0,none⟩) (n+1) c') (n+1) (xs++[.bool false]):=by
 obtain⟨i0,hi0,hz0,hz1,hz2⟩:=info_parts FK;have hb0:Below V.heap.size V (V.alloc (.cells #[.bool false] 4)):=A0 _ _;have hsz:(V.alloc (.cells #[.bool false] 4)).heap.size=V.heap.size+1:=sM;have h0:=Az h hb0;obtain⟨g,cap,w3,hr,hown,hgrow,hat,hlt⟩:=run_append_lies (P:=prog) (V.alloc (.cells #[.bool false] 4)) 100 100 B 4 i0 _ 1 1 underlying100 hi0 hz0 hz1 hz2 rfl dE (.slice p n q) n xs h0 ⟨V.heap.size,0,none⟩ 1 1 [.bool false] rfl
  (World.news_of_block (cs:=#[.bool false]) (t:=4) (fr:=(0,0)) (heap_alloc_new V _)) SG dE mL oM sO _ rfl
 exact⟨g,cap,w3,hr,(hb0.mono hB).grown hgrow oM (fun q e=>(h0.lt q e).1),hown⟩
theorem No(v0 v1 v2 v3:Value)(c:Cd)(hz:Qx c)(w:World)(hv:D8 w v0 v1 v2 v3 c):
 Calls prog 5 #[.agg #[v0,v1,v2,v3]] w fun e w'=>∃u0 u1 u2 u3,e=.returned (.agg #[u0,u1,u2,u3])/\D8 w' u0 u1 u2 u3 c/\ZO w.heap.size w' u0 u1 u2 u3 c/\Below w.heap.size w w':=by
 have s0:=hz.s;have s1:=hz.r;have s2:=hz.l;have s3:=hz.i;have C0:=CW.start w v0 v1 v2 v3;obtain⟨W0,hW0⟩:∃W,((w.alloc (.cells #[v0,v1,v2,v3] 27)).alloc (.cells #[.slice none 0 0,.slice none 0 0,.slice none 0 0,.slice none 0 0] 27)).alloc (.cells #[.slice none 0 0,.slice none 0 0,.slice none 0 0,.slice none 0 0] 27)=W:=⟨_,rfl⟩
 have hE:W0.heap.size=w.heap.size+1+1+1:=by rw[←hW0];simp
 rw[hW0]at C0;have U0:Up (w.heap.size+1+1+1) W0 W0:=⟨Nat.le_refl _,fun _ _ _=>rfl⟩
 obtain⟨z0,w1,r0,b0,o0⟩:=Wg (hv.sign.below C0.bel) oM 22;obtain⟨p0,q0,rfl⟩:=AV o0;have D0:=C0.app b0;have c00:=C0.c.at 0 rfl;have c01:W0.cell? ⟨w.heap.size+1+1,0,none⟩=some (.slice none 0 0):=C0.d.cell (i:=0) dE;have c02:w1.cell? ⟨w.heap.size+1+1,0,none⟩=some (.slice none 0 0):=D0.d.cell (i:=0) dE;have c03:=D0.d.frozen 0;rw[Nat.zero_add]at c00;have C1:=D0.put (y0:=(.slice p0 c.sign.length q0)) (y1:=(.slice none 0 0)) (y2:=(.slice none 0 0)) (y3:=(.slice none 0 0)) 0 (.slice p0 c.sign.length q0) Zfv;obtain⟨V1,hV1⟩:∃V,w1.setCell ⟨w.heap.size+1+1,0,none⟩ (.slice p0 c.sign.length q0)=V:=⟨_,rfl⟩
 have U1:Up (w.heap.size+1+1+1) W0 V1:=by rw[←hV1];exact(Up.of b0).trans (Up.set _ oM _ _)
 have T1:Up (w.heap.size+1+1+1) w1 V1:=by rw[←hV1];exact Up.set _ oM _ _
 have HV0:Hid (w1.setCell ⟨w.heap.size+1+1,0,none⟩ (.slice p0 c.sign.length q0)=V1):=hV1;rw[hV1]at C1;have HR0:Hid ((Builtin.append_ #[22,22] 22 #[.slice none 0 0,v0]).run prog W0=.ok (.slice p0 c.sign.length q0) w1):=r0;have e0:w.heap.size+1+1+1<=W0.heap.size:=by have:=U0.1;omega
 obtain⟨z1,w2,r1,b1,o1⟩:=YF (hv.regs.below C1.bel) oM 23;obtain⟨p1,q1,rfl⟩:=AV o1;have D1:=C1.app b1;have c10:=C1.c.at 1 rfl;have c11:V1.cell? ⟨w.heap.size+1+1,1,none⟩=some (.slice none 0 0):=C1.d.cell (i:=1) dE;have c12:w2.cell? ⟨w.heap.size+1+1,1,none⟩=some (.slice none 0 0):=D1.d.cell (i:=1) dE;have c13:=D1.d.frozen 1;rw[Nat.zero_add]at c10;have C2:=D1.put (y0:=(.slice p0 c.sign.length q0)) (y1:=(.slice p1 c.regs.length q1)) (y2:=(.slice none 0 0)) (y3:=(.slice none 0 0)) 1 (.slice p1 c.regs.length q1) Zfv;obtain⟨V2,hV2⟩:∃V,w2.setCell ⟨w.heap.size+1+1,1,none⟩ (.slice p1 c.regs.length q1)=V:=⟨_,rfl⟩
 have U2:Up (w.heap.size+1+1+1) V1 V2:=by rw[←hV2];exact(Up.of b1).trans (Up.set _ oM _ _)
 have T2:Up (w.heap.size+1+1+1) w2 V2:=by rw[←hV2];exact Up.set _ oM _ _
 have HV1:Hid (w2.setCell ⟨w.heap.size+1+1,1,none⟩ (.slice p1 c.regs.length q1)=V2):=hV2;rw[hV2]at C2;have HR1:Hid ((Builtin.append_ #[23,23] 23 #[.slice none 0 0,v1]).run prog V1=.ok (.slice p1 c.regs.length q1) w2):=r1;have e1:w.heap.size+1+1+1<=V1.heap.size:=by have:=U1.1;omega
 obtain⟨z2,w3,r2,b2,o2⟩:=YE (hv.slots.below C2.bel) oM 24;obtain⟨p2,q2,rfl⟩:=AV o2;have D2:=C2.app b2;have c20:=C2.c.at 2 rfl;have c21:V2.cell? ⟨w.heap.size+1+1,2,none⟩=some (.slice none 0 0):=C2.d.cell (i:=2) dE;have c22:w3.cell? ⟨w.heap.size+1+1,2,none⟩=some (.slice none 0 0):=D2.d.cell (i:=2) dE;have c23:=D2.d.frozen 2;rw[Nat.zero_add]at c20;have C3:=D2.put (y0:=(.slice p0 c.sign.length q0)) (y1:=(.slice p1 c.regs.length q1)) (y2:=(.slice p2 c.slots.length q2)) (y3:=(.slice none 0 0)) 2 (.slice p2 c.slots.length q2) Zfv;obtain⟨V3,hV3⟩:∃V,w3.setCell ⟨w.heap.size+1+1,2,none⟩ (.slice p2 c.slots.length q2)=V:=⟨_,rfl⟩
 have U3:Up (w.heap.size+1+1+1) V2 V3:=by rw[←hV3];exact(Up.of b2).trans (Up.set _ oM _ _)
 have T3:Up (w.heap.size+1+1+1) w3 V3:=by rw[←hV3];exact Up.set _ oM _ _
 have HV2:Hid (w3.setCell ⟨w.heap.size+1+1,2,none⟩ (.slice p2 c.slots.length q2)=V3):=hV3;rw[hV3]at C3;have HR2:Hid ((Builtin.append_ #[24,24] 24 #[.slice none 0 0,v2]).run prog V2=.ok (.slice p2 c.slots.length q2) w3):=r2;have e2:w.heap.size+1+1+1<=V2.heap.size:=by have:=U2.1;omega
 obtain⟨z3,w4,r3,b3,o3⟩:=Wi (hv.list.below C3.bel) oM 25;obtain⟨p3,q3,rfl⟩:=AV o3;have D3:=C3.app b3;have c30:=C3.c.at 3 rfl;have c31:V3.cell? ⟨w.heap.size+1+1,3,none⟩=some (.slice none 0 0):=C3.d.cell (i:=3) dE;have c32:w4.cell? ⟨w.heap.size+1+1,3,none⟩=some (.slice none 0 0):=D3.d.cell (i:=3) dE;have c33:=D3.d.frozen 3;rw[Nat.zero_add]at c30;have C4:=D3.put (y0:=(.slice p0 c.sign.length q0)) (y1:=(.slice p1 c.regs.length q1)) (y2:=(.slice p2 c.slots.length q2)) (y3:=(.slice p3 c.list.length q3)) 3 (.slice p3 c.list.length q3) Zfv;obtain⟨V4,hV4⟩:∃V,w4.setCell ⟨w.heap.size+1+1,3,none⟩ (.slice p3 c.list.length q3)=V:=⟨_,rfl⟩
 have U4:Up (w.heap.size+1+1+1) V3 V4:=by rw[←hV4];exact(Up.of b3).trans (Up.set _ oM _ _)
 have T4:Up (w.heap.size+1+1+1) w4 V4:=by rw[←hV4];exact Up.set _ oM _ _
 have HV3:Hid (w4.setCell ⟨w.heap.size+1+1,3,none⟩ (.slice p3 c.list.length q3)=V4):=hV4;rw[hV4]at C4;have HR3:Hid ((Builtin.append_ #[25,25] 25 #[.slice none 0 0,v3]).run prog V3=.ok (.slice p3 c.list.length q3) w4):=r3;have e3:w.heap.size+1+1+1<=V3.heap.size:=by have:=U3.1;omega
 have U5:Up (w.heap.size+1+1+1) V4 ((((V4.setCell ⟨w.heap.size+1,0,none⟩ (.slice p0 c.sign.length q0)).setCell ⟨w.heap.size+1,1,none⟩ (.slice p1 c.regs.length q1)).setCell ⟨w.heap.size+1,2,none⟩ (.slice p2 c.slots.length q2)).setCell ⟨w.heap.size+1,3,none⟩ (.slice p3 c.list.length q3)):=(((Up.set _ oM _ _).trans (Up.set _ oM _ _)).trans (Up.set _ oM _ _)).trans (Up.set _ oM _ _);have HF:Hid (D8 ((((V4.setCell ⟨w.heap.size+1,0,none⟩ (.slice p0 c.sign.length q0)).setCell ⟨w.heap.size+1,1,none⟩ (.slice p1 c.regs.length q1)).setCell ⟨w.heap.size+1,2,none⟩ (.slice p2 c.slots.length q2)).setCell ⟨w.heap.size+1,3,none⟩ (.slice p3 c.list.length q3)) (.slice p0 c.sign.length q0) (.slice p1 c.regs.length q1) (.slice p2 c.slots.length q2) (.slice p3 c.list.length q3) c/\ZO w.heap.size (((((V4.setCell ⟨w.heap.size+1,0,none⟩ (.slice p0 c.sign.length q0)).setCell ⟨w.heap.size+1,1,none⟩ (.slice p1 c.regs.length q1)).setCell ⟨w.heap.size+1,2,none⟩ (.slice p2 c.slots.length q2)).setCell ⟨w.heap.size+1,3,none⟩ (.slice p3 c.list.length q3))) (.slice p0 c.sign.length q0) (.slice p1 c.regs.length q1) (.slice p2 c.slots.length q2) (.slice p3 c.list.length q3) c/\Below w.heap.size w ((((V4.setCell ⟨w.heap.size+1,0,none⟩ (.slice p0 c.sign.length q0)).setCell ⟨w.heap.size+1,1,none⟩ (.slice p1 c.regs.length q1)).setCell ⟨w.heap.size+1,2,none⟩ (.slice p2 c.slots.length q2)).setCell ⟨w.heap.size+1,3,none⟩ (.slice p3 c.list.length q3))):=by
  have g0:=((((T1.trans U2).trans U3).trans U4).trans U5).own o0 e0;have g1:=(((T2.trans U3).trans U4).trans U5).own o1 e1;have g2:=((T3.trans U4).trans U5).own o2 e2;have g3:=(T4.trans U5).own o3 e3;refine⟨⟨Ee GF g0,Ee GU g1,Ee Ir g2,Ee FJ g3⟩,⟨Dn g0 oM,Dn g1 oM,Dn g2 oM,Dn g3 oM⟩,?_⟩;exact(((C4.bel.setCell Ie _).setCell Ie _).setCell Ie _).setCell Ie _
 have m0:V4.cell? ⟨w.heap.size+1+1,0,none⟩=some (.slice p0 c.sign.length q0):=C4.d.cell (i:=0) dE;have m1:V4.cell? ⟨w.heap.size+1+1,1,none⟩=some (.slice p1 c.regs.length q1):=C4.d.cell (i:=1) dE;have m2:V4.cell? ⟨w.heap.size+1+1,2,none⟩=some (.slice p2 c.slots.length q2):=C4.d.cell (i:=2) dE;have m3:V4.cell? ⟨w.heap.size+1+1,3,none⟩=some (.slice p3 c.list.length q3):=C4.d.cell (i:=3) dE;have k0:V4.cell? ⟨w.heap.size+1,0,none⟩=some (.slice none 0 0):=C4.r.cell (i:=0) dE;have k1:V4.cell? ⟨w.heap.size+1,1,none⟩=some (.slice none 0 0):=C4.r.cell (i:=1) dE;have k2:V4.cell? ⟨w.heap.size+1,2,none⟩=some (.slice none 0 0):=C4.r.cell (i:=2) dE;have k3:V4.cell? ⟨w.heap.size+1,3,none⟩=some (.slice none 0 0):=C4.r.cell (i:=3) dE;have y0:=C4.r.frozen 0;have y1:=C4.r.frozen 1;have y2:=C4.r.frozen 2;have y3:=C4.r.frozen 3;have HW:Hid (((w.alloc (.cells #[v0,v1,v2,v3] 27)).alloc (.cells #[.slice none 0 0,.slice none 0 0,.slice none 0 0,.slice none 0 0] 27)).alloc (.cells #[.slice none 0 0,.slice none 0 0,.slice none 0 0,.slice none 0 0] 27)=W0):=hW0;clear C0 C1 C2 C3 C4 D0 D1 D2 D3 U0 U1 U2 U3 U4 U5 T1 T2 T3 T4 o0 o1 o2 o3 b0 b1 b2 b3 r0 r1 r2 r3 hv hz hV1 hV2 hV3 hV4 hW0 e0 e1 e2 e3 hE;go_enter func5,ntmps5;go_upto_region 2 with fail;rw[HW.out];go_upto_region 3 with(at_builtin;refine Av rF _ _ _ rF _ _ _ rF rF HR0.out ?_)
 rw[HV0.out];go_upto_region 4 with(at_builtin;refine Av rF _ _ _ rF _ _ _ rF rF HR1.out ?_)
 rw[HV1.out];go_upto_region 5 with(at_builtin;refine Av rF _ _ _ rF _ _ _ rF rF HR2.out ?_)
 rw[HV2.out];go_upto_region 6 with(at_builtin;refine Av rF _ _ _ rF _ _ _ rF rF HR3.out ?_)
 rw[HV3.out];go_wp2;refine bodyPost_ret (by simp[results,results5,go_sem, *];try rfl) rfl ?_;exact⟨_,_,_,_,rfl,HF.out.1,HF.out.2.1,HF.out.2.2⟩
section
open Go.ChangeShapes Go.WideShapes Go.ChangeAt Go.RowKit
theorem Iv:Tryz.prog.cellsOf 45=7:=kR
theorem Hs:Tryz.prog.cellsOf 66=3:=kR
theorem Ix:Tryz.prog.cellsOf 69=2:=kR
theorem Iw:Tryz.prog.cellsOf 72=5:=kR
theorem NL:Tryz.prog.cellsOf 27=4:=kR
theorem NI:Tryz.prog.bytesOf 45=56:=kR
theorem Me:Tryz.prog.bytesOf 66=32:=kR
theorem NK:Tryz.prog.bytesOf 69=16:=kR
theorem NJ:Tryz.prog.bytesOf 72=32:=kR
theorem Fe{H:Type}{P:Program}{e:TypeId}:∀ {l:List (DataW H)} {d:DataW H},d∈l->∀n∈d.weights P e,n∈DataW.weightsAll P e l
 |[],d,h,n,hn=>by cases h
 |x::r,d,h,n,hn=>by
  simp only[DataW.weightsAll,List.mem_append];rcases List.mem_cons.1 h with rfl|h
  ·exact .inl hn
  ·exact .inr (Fe h n hn)
section
variable {H : Type} {enc : TypeId × Value -> H} {w : World} {base : Nat} {held : Bool}
def Yg(i:At):Prop:=0<=i.bits/\i.bits<4294967296
theorem TV{fuel:Nat}{cs:List Value}{x:DataW H×List MemPlace}(h:DataW.trod enc Tryz.prog w base (fun _=>true) held fuel 45 cs=some x):∃i:At,cs=Dt i/\Yg i:=by
 obtain⟨xs,n,hfn,hx,hl,hxl,hf⟩:=DataW.trod_struct Tryz.underlying45 h;rw[Iv]at hl
 match cs,hl with
 |[v0,v1,v2,v3,v4,v5,v6],_=>
 match xs,hxl with
 |[y0,y1,y2,y3,y4,y5,y6],_=>
  have e0:DataW.trod enc Tryz.prog w base (fun _=>true) held n 3 [v0]=some y0:=hf 0 _ rfl;have e1:DataW.trod enc Tryz.prog w base (fun _=>true) held n 3 [v1]=some y1:=hf 1 _ rfl;have e2:DataW.trod enc Tryz.prog w base (fun _=>true) held n 3 [v2]=some y2:=hf 2 _ rfl;have e3:DataW.trod enc Tryz.prog w base (fun _=>true) held n 3 [v3]=some y3:=hf 3 _ rfl;have e4:DataW.trod enc Tryz.prog w base (fun _=>true) held n 3 [v4]=some y4:=hf 4 _ rfl;have e5:DataW.trod enc Tryz.prog w base (fun _=>true) held n 3 [v5]=some y5:=hf 5 _ rfl;have e6:DataW.trod enc Tryz.prog w base (fun _=>true) held n 43 [v6]=some y6:=hf 6 _ rfl;obtain⟨a0,c0,-,w0⟩:=DataW.trod_int Tryz.underlying3 e0;obtain⟨a1,c1,-,w1⟩:=DataW.trod_int Tryz.underlying3 e1;obtain⟨a2,c2,-,w2⟩:=DataW.trod_int Tryz.underlying3 e2;obtain⟨a3,c3,-,w3⟩:=DataW.trod_int Tryz.underlying3 e3;obtain⟨a4,c4,-,w4⟩:=DataW.trod_int Tryz.underlying3 e4;obtain⟨a5,c5,-,w5⟩:=DataW.trod_int Tryz.underlying3 e5;obtain⟨a6,c6,-,w6⟩:=DataW.trod_int Tryz.underlying43 e6;simp only[List.cons.injEq,and_true]at c0 c1 c2 c3 c4 c5 c6;subst c0 c1 c2 c3 c4 c5 c6;exact⟨⟨a0,a1,a2,a3,a4,a5,a6⟩,rfl,(bounds_u32 w6).1,Int.lt_add_one_of_le (bounds_u32 w6).2⟩
theorem TX{fuel:Nat}{cs:List Value}{x:DataW H×List MemPlace}(h:DataW.trod enc Tryz.prog w base (fun _=>true) held fuel 66 cs=some x)(hw:∀n∈x.1.weights Tryz.prog 66,n<=reachBytes):
 ∃p:BM,cs=AG p/\p.name.size<=140737488351232:=by
 obtain⟨xs,n,hfn,hx,hl,hxl,hf⟩:=DataW.trod_struct Tryz.underlying66 h;rw[Hs]at hl
 match cs,hl with
 |[v0,v1,v2],_=>
 match xs,hxl with
 |[y0,y1,y2],_=>
  have e0:DataW.trod enc Tryz.prog w base (fun _=>true) held n 9 [v0]=some y0:=hf 0 _ rfl;have e1:DataW.trod enc Tryz.prog w base (fun _=>true) held n 3 [v1]=some y1:=hf 1 _ rfl;have e2:DataW.trod enc Tryz.prog w base (fun _=>true) held n 3 [v2]=some y2:=hf 2 _ rfl;obtain⟨a0,c0,hd0,w0⟩:=DataW.trod_string Tryz.underlying9 e0;obtain⟨a1,c1,hd1,w1⟩:=DataW.trod_int Tryz.underlying3 e1;obtain⟨a2,c2,hd2,w2⟩:=DataW.trod_int Tryz.underlying3 e2;simp only[List.cons.injEq,and_true]at c0 c1 c2;subst c0 c1 c2;subst hx;have hws:∀ (j:Nat) (t:TypeId) (d:DataW H),[9,3,3][j]? =some t->[y0.1,y1.1,y2.1][j]? =some d->∀n∈d.weights Tryz.prog t,n<=reachBytes:=fun j t d ht hd n hn=>by
   refine hw n ?_;show n∈DataW.weights Tryz.prog 66 (.agg [y0.1,y1.1,y2.1]);rw[DataW.weights,Tryz.underlying66];exact DataW.weights_mem_each (ts:=[9,3,3]) ht hd n hn
  have s1:a0.size<=140737488351232:=by
   have:=hws 0 _ _ rfl rfl a0.data.toList.length (by rw[hd0];simp[DataW.weights]);simpa[reachBytes]using this
  exact⟨⟨a0,a1,a2⟩,rfl,s1⟩
theorem PP{fuel:Nat}{cs:List Value}{x:DataW H×List MemPlace}(h:DataW.trod enc Tryz.prog w base (fun _=>true) held fuel 69 cs=some x):∃t:Ty,cs=Kw t/\True:=by
 obtain⟨xs,n,hfn,hx,hl,hxl,hf⟩:=DataW.trod_struct Tryz.underlying69 h;rw[Ix]at hl
 match cs,hl with
 |[v0,v1],_=>
 match xs,hxl with
 |[y0,y1],_=>
  have e0:DataW.trod enc Tryz.prog w base (fun _=>true) held n 3 [v0]=some y0:=hf 0 _ rfl;have e1:DataW.trod enc Tryz.prog w base (fun _=>true) held n 3 [v1]=some y1:=hf 1 _ rfl;obtain⟨a0,c0,-,w0⟩:=DataW.trod_int Tryz.underlying3 e0;obtain⟨a1,c1,-,w1⟩:=DataW.trod_int Tryz.underlying3 e1;simp only[List.cons.injEq,and_true]at c0 c1;subst c0 c1;exact⟨⟨a0,a1⟩,rfl,trivial⟩
def ZP(s:Sl):Prop:=0<=s.bits/\s.bits<4294967296
theorem Xu{fuel:Nat}{cs:List Value}{x:DataW H×List MemPlace}(h:DataW.trod enc Tryz.prog w base (fun _=>true) held fuel 72 cs=some x):∃s:Sl,cs=Jk s/\ZP s:=by
 obtain⟨xs,n,hfn,hx,hl,hxl,hf⟩:=DataW.trod_struct Tryz.underlying72 h;rw[Iw]at hl
 match cs,hl with
 |[v0,v1,v2,v3,v4],_=>
 match xs,hxl with
 |[y0,y1,y2,y3],_=>
  have e0:DataW.trod enc Tryz.prog w base (fun _=>true) held n 69 [v0,v1]=some y0:=hf 0 _ rfl;have e1:DataW.trod enc Tryz.prog w base (fun _=>true) held n 4 [v2]=some y1:=hf 1 _ rfl;have e2:DataW.trod enc Tryz.prog w base (fun _=>true) held n 43 [v3]=some y2:=hf 2 _ rfl;have e3:DataW.trod enc Tryz.prog w base (fun _=>true) held n 3 [v4]=some y3:=hf 3 _ rfl;obtain⟨t,ht,-⟩:=PP e0;obtain⟨a1,c1,-⟩:=DataW.trod_bool Tryz.underlying4 e1;obtain⟨a2,c2,-,w2⟩:=DataW.trod_int Tryz.underlying43 e2;obtain⟨a3,c3,-,w3⟩:=DataW.trod_int Tryz.underlying3 e3;obtain⟨K,P⟩:=t;simp only[Kw,List.cons.injEq,and_true]at ht c1 c2 c3;obtain⟨rfl,rfl⟩:=ht;subst c1 c2 c3;exact⟨⟨⟨K,P⟩,a1,a2,a3⟩,rfl,(bounds_u32 w2).1,Int.lt_add_one_of_le (bounds_u32 w2).2⟩
theorem D5{α:Type}[Inhabited α]{f:α->List Value}{k bytes:Nat}{t e:TypeId}{Good:α->Prop}(hk:0<k)(hf:∀x,(f x).length=k)(ht:Tryz.prog.underlying t=some (.slice e))(hce:Tryz.prog.cellsOf e=k)(hby:Tryz.prog.bytesOf e=bytes)(hb0:0<bytes)
 (hop:∀ {fuel:Nat} {cs:List Value} {x:DataW H×List MemPlace},DataW.trod enc Tryz.prog w base (fun _=>true) held fuel e cs=some x->(∀n∈x.1.weights Tryz.prog e,n<=reachBytes)->∃a:α,cs=f a/\Good a)
 {fuel:Nat} {v:Value} {x:DataW H×List MemPlace} (h:DataW.trod enc Tryz.prog w base (fun _=>true) held fuel t [v]=some x) (hw:∀n∈x.1.weights Tryz.prog t,n<=reachBytes):
 ∃l:List α,B6 k f w v l/\l.length*bytes<=140737488351232/\∀a∈l,Good a:=by
 rcases DataW.trod_slice ht h with⟨hcs,hx⟩|⟨a,len,cap,elems,rest,m,hm,hcs,hx,_,hl,_,hel,hread,_,_⟩
 ·simp only[List.cons.injEq,and_true]at hcs;subst hcs;exact⟨[],⟨none,0,rfl,.inl rfl⟩,sM,fun a h=>by cases h⟩
 ·simp only[List.cons.injEq,and_true]at hcs;subst hcs;subst hx;have C9:∀i,i<len->∃q:α,(∀j,j<k->w.cell? (a.add (i*k+j))=(f q)[j]?)/\Good q:=by
   intro i hi;have h1:=hread i hi;rw[hce]at h1;have hie:i<elems.length:=oM;rw[List.getElem?_eq_getElem hie]at h1;obtain⟨cs',h2,h3⟩:=Option.bind_eq_some_iff.1 h1;obtain⟨_,hlen3,hcell⟩:=World.cells?_some h2;obtain⟨q,hcs,hok⟩:=hop h3 (fun n hn=>hw n (by
    rw[DataW.weights,ht]
    exact List.mem_cons_of_mem _ (List.mem_append_left _ (Fe (List.mem_map.2 ⟨elems[i],List.getElem_mem hie,rfl⟩) n hn))))
   refine⟨q,fun j hj=>?_,hok⟩;have:=hcell j hj;rw[Go.Deep.add_add,hcs]at this;exact this
  obtain⟨g,hg⟩:=Go.Deep.choose_lt C9;have hTl:((List.range len).map g).length=len:=sM;have hbig:len*bytes<=140737488351232:=by
   have:=hw _ (by rw[DataW.weights,ht];exact List.mem_cons_self);rw[hby]at this;simp only[List.length_map,reachBytes]at this;have hln:elems.length=len:=oM;simp only[hln]at this;exact Nat.le_trans (Nat.mul_le_mul_right _ (Nat.le_add_right _ _)) this
  refine⟨(List.range len).map g,?_,by rw[hTl];exact hbig,?_⟩
  ·refine⟨some a,cap,by rw[hTl],?_⟩;by_cases hl0:len=0
   ·left;simp[hl0]
   ·obtain⟨b,off,spot⟩:=a;have hne:0<(f (g 0)).length:=by rw[hf];exact hk
    have hspot:spot=none:=by
     have:=(hg 0 oM).1 0 hk;rw[List.getElem?_eq_getElem hne]at this;simpa[Addr.add]using World.cell?_spot this
    subst hspot;refine .inr ⟨b,off,rfl,fun i hi j hj=>?_⟩;have hi':i<len:=by rw[hTl]at hi;exact hi
    obtain⟨q,-⟩:=hg i hi';have e:((List.range len).map g)[i]=g i:=sM;have hj2:j<(f (g i)).length:=by simpa[e]using hj
    have hj3:j<k:=by rw[←hf (g i)];exact hj2
    have q':=q j hj3;rw[M7,←Nat.add_assoc]at q';rw[q',List.getElem?_eq_getElem hj2];congr 1;simp[e]
  ·intro q hq;obtain⟨i,hi,rfl⟩:=List.mem_map.1 hq;exact(hg i (List.mem_range.1 hi)).2
instance:Inhabited At:=⟨⟨0,0,0,0,0,0,0⟩⟩
instance:Inhabited Ty:=⟨⟨0,0⟩⟩
instance:Inhabited Sl:=⟨⟨⟨0,0⟩,false,0,0⟩⟩
instance:Inhabited BM:=⟨⟨⟨#[]⟩,0,0⟩⟩
end
end
end Go.Proofs.YtbinohkcolcbfaaGreat
