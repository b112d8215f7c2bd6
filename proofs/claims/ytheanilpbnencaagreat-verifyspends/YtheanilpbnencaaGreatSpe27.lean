import Derived.Test.YtheanilpbnencaaGreatSpe1
import Derived.Test.YtheanilpbnencaaGreatSpe20
import Derived.Test.YtheanilpbnencaaGreatSpe26
import Derived.Test.YtheanilpbnencaaGreatSpe13
import Derived.Deep.CutBlock
import Derived.Deep.DeepCutAuto
namespace Go.Proofs.YtheanilpbnencaaGreat
open Go.RowKit Go.Proofs.Tryz
set_option linter.all false
set_option maxRecDepth 100000
set_option maxHeartbeats 16000000
def VN(c:Cd)(l:List Hd)(G P:List (List Int)):Int:=if Fg c G P=true then WM c l G P else 0
theorem MQ{T:Nat->Prop}(p0 p1 p2 p3 ps pg pp:Option Addr)(q0 q1 q2 q3 qs qg qp:Nat)(c:Cd)(hc:(Ag c).1=0)(hk:AZ c)(l:List Hd)(hso:J7 c l)(S0:List Cl)(hS0:S0.map (·.h)=l)(G P:List (List Int))(kG:GJ G)(kP:GJ P)(w:World)(hT:∀b,T b->b<w.heap.size)
 (hv:Cy w (.slice p0 c.sign.length q0) (.slice p1 c.regs.length q1) (.slice p2 c.slots.length q2) (.slice p3 c.list.length q3) c) (hss:AI T w (.slice ps c.slots.length qs) S0) (hgv:JN w (.slice pg G.length qg) G) (hpv:JN w (.slice pp P.length qp) P):
 Calls prog 8 #[.agg #[.slice p0 c.sign.length q0,.slice p1 c.regs.length q1,.slice p2 c.slots.length q2,.slice p3 c.list.length q3,.slice ps c.slots.length qs],.slice pg G.length qg,.slice pp P.length qp] w fun e w'=>∃p5 q5 pu nu qu S',e=.returned (.tuple #[.agg #[.slice p0 c.sign.length q0,.slice p1 c.regs.length q1,.slice p2 c.slots.length q2,.slice p3 c.list.length q3,.slice p5 c.slots.length q5],.slice pu nu qu,.int .i64 (Th c G P),.int .i64 (VN c l G P)])/\S'.map (·.h)=W7 c l G P/\AI T w' (.slice p5 c.slots.length q5) S'/\Fe (fun b=>b<w.heap.size) w' (.slice pu nu qu) (Xo c l G P)/\J7 c (W7 c l G P)/\Below w.heap.size w w':=by
 unfold Th W7 Xo VN;by_cases hf:Fg c G P=true
 .rw[if_pos hf,if_pos hf,if_pos hf,if_pos hf];refine(KQ (T:=T) p0 p1 p2 p3 ps pg pp q0 q1 q2 q3 qs qg qp c hc hk l hso S0 hS0 G P kG kP hf w hT hv hss hgv hpv).mono ?_;rintro e w' ⟨p5,q5,pu,qu,S',rfl,k1,k2,k3,k4,k5⟩;exact⟨p5,q5,pu,c.sign.length,qu,S',rfl,k1,k2,k3,k4,k5⟩
 .rw[if_neg hf,if_neg hf,if_neg hf,if_neg hf];refine(MH p0 p1 p2 p3 ps pg pp q0 q1 q2 q3 qs qg qp c (GR hc).1 hk G P kG kP (by simpa using hf) w hv hgv hpv).mono ?_;rintro e w' ⟨rfl,k5⟩;exact⟨ps,qs,none,0,0,S0,rfl,hS0,hss.below k5,⟨none,0,rfl,.inl rfl⟩,hso,k5⟩
theorem Si{c:Cd}(hc:(Ag c).1=0)(l:List Hd)(G P:List (List Int)):VN c l G P<=Ed c:=by
 unfold VN;split
 .exact Sh hc
 .obtain⟨h1,h2⟩:=Ha c.list (fun i hi=>DK hc i hi);show 0<=Bw c c.list;omega
theorem G3(v0 v1 v2 v3:Value)(c:Cd)(hk:AZ c)(hz:W9 c)(v4:Value)(l:List St)(hl:l.length<=140737488351232)(w:World)(hv:Cy w v0 v1 v2 v3 c)(hr:Bj 2 WP w v4 l)(hs:∀s∈l,SI w s):
 Calls prog 3 #[.agg #[v0,v1,v2,v3],v4] w fun e w'=>e=.returned (.bool true)/\Below w.heap.size w w':=by
 have KW:=B8 (fun v=>Lr v);have KC:=B8 (fun(u:World) (x0 x1 x2 x3:Value) (h:Cy u x0 x1 x2 x3 c)=>J6 x0 x1 x2 x3 c hk u h);have KT:=B8 (fun(v:World) (h:Below w.heap.size w v)=>MU v0 v1 v2 v3 c hz v (hv.below h));obtain⟨p0,q0,rfl⟩:∃p q,v0=.slice p c.sign.length q:=by obtain⟨p,q,e,_⟩:=hv.sign;exact⟨p,q,e⟩
 obtain⟨p1,q1,rfl⟩:∃p q,v1=.slice p c.regs.length q:=by obtain⟨p,q,e,_⟩:=hv.regs;exact⟨p,q,e⟩
 obtain⟨p2,q2,rfl⟩:∃p q,v2=.slice p c.slots.length q:=by obtain⟨p,q,e,_⟩:=hv.slots;exact⟨p,q,e⟩
 obtain⟨p3,q3,rfl⟩:∃p q,v3=.slice p c.list.length q:=by obtain⟨p,q,e,_⟩:=hv.list;exact⟨p,q,e⟩
 obtain⟨p4,q4,rfl,hrow⟩:=hr;have HROW:=B8 hrow;have HS:=B8 (fun(s:St) (h:s∈l)=>(show Zn w s from⟨(hs s h).1.vc,(hs s h).2.1.vc,(hs s h).2.2.1,(hs s h).2.2.2⟩));have HVV:=B8 hv;have HK:=B8 hk;obtain⟨N4,hN4⟩:∃N,l.length=N:=⟨_,rfl⟩
 have HN4:=B8 hN4;rw[hN4]at hl |-;obtain⟨W0,hW0⟩:=gA (w.alloc (.cells #[.slice p0 c.sign.length q0,.slice p1 c.regs.length q1,.slice p2 c.slots.length q2,.slice p3 c.list.length q3] 27))
 have HB0:Hid (Below w.heap.size w W0):=by rw[<-hW0];exact A0 _ _
 have HS0:Hid (W0.heap.size=w.heap.size+1):=by rw[<-hW0];show _=_;simp
 have k0:W0.cell? ⟨w.heap.size,0,none⟩=some (.slice p0 c.sign.length q0):=by rw[<-hW0];simp[go_sem]
 have k1:W0.cell? ⟨w.heap.size,1,none⟩=some (.slice p1 c.regs.length q1):=by rw[<-hW0];simp[go_sem]
 have k2:W0.cell? ⟨w.heap.size,2,none⟩=some (.slice p2 c.slots.length q2):=by rw[<-hW0];simp[go_sem]
 have k3:W0.cell? ⟨w.heap.size,3,none⟩=some (.slice p3 c.list.length q3):=by rw[<-hW0];simp[go_sem]
 have HKC:Hid (∀u,Below W0.heap.size W0 u->u.cell? ⟨w.heap.size,0,none⟩=some (.slice p0 c.sign.length q0)/\u.cell? ⟨w.heap.size,1,none⟩=some (.slice p1 c.regs.length q1)/\u.cell? ⟨w.heap.size,2,none⟩=some (.slice p2 c.slots.length q2)/\u.cell? ⟨w.heap.size,3,none⟩=some (.slice p3 c.list.length q3)):=fun u h=>⟨kc h k0,kc h k1,kc h k2,kc h k3⟩
 by_cases hc:(Ag c).1≠0
 .rw[if_neg hc]at KC;obtain⟨E,hE⟩:∃e,(Ag c).1=e:=⟨_,rfl⟩
  rw[hE]at KC hc;have q1:(E==0)=false:=beq_eq_false_iff_ne.2 hc;have q2:(E != 0)=true:=by simp[hc]
  have HC:=B8 hc;clear hv hk hs hrow hN4 hE hc hz;go_enter func3,ntmps3;go_upto_region 1 with fail;try rw[hW0]
  clear hW0;go_upto_region 2 with(first|(go_at_call 5;(with_reducible refine(KT.out _ HB0.out).mono ?_);rintro e9 w3 ⟨t0,t1,t2,t3,rfl,ht3,ho3,hb3⟩;obtain⟨r0,s0,rfl⟩:=At ho3.sign;obtain⟨r1,s1,rfl⟩:=At ho3.regs;obtain⟨r2,s2,rfl⟩:=At ho3.slots;obtain⟨r3,s3,rfl⟩:=At ho3.list;have HT3:=B8 ht3;have HB3:=B8 (bel HB0.out hb3);have HB33:=B8 hb3;clear ht3 ho3 hb3)|(go_at_call 4;(with_reducible refine(KC.out _ _ _ _ _ HT3.out).mono ?_);rintro e9 w4 ⟨rfl,hb⟩;have HB4:=B8 (bel HB3.out hb);have HB44:=B8 (bel HB33.out hb);clear hb))
  go_wp2_with(go_at_call 6;(with_reducible refine(KW.out _).mono ?_);rintro e9 wz ⟨rfl,hbz⟩;have HBz:=B8 (bel HB4.out hbz);clear hbz);refine bodyPost_ret (by simp[results,results3,go_sem, *];try rfl) rfl ?_;exact⟨by first|rfl|simp,HBz.out⟩
 replace hc:(Ag c).1=0:=Decidable.of_not_not hc
 rw[if_pos hc,hc]at KC;obtain⟨hg,-⟩:=GR hc;have HG:=B8 (And.intro hg hc);have KA:=B8 (fun(v:World) (h:Below w.heap.size w v)=>Kz _ _ _ _ c hk v (hv.below h) hc);have HSP:=B8 (fun hs G P=>Si hc hs G P);obtain⟨CV,hCV⟩:∃v,Ed c=v:=⟨_,rfl⟩
 rw[hCV]at KC HSP;clear hv hk hs hrow hN4 hz hg hCV;have HC:=B8 hc;clear hc;go_enter func3,ntmps3;go_upto_region 1 with fail;try rw[hW0]
 clear hW0;go_upto_region 2 with(first|(go_at_call 5;(with_reducible refine(KT.out _ HB0.out).mono ?_);rintro e9 w3 ⟨t0,t1,t2,t3,rfl,ht3,ho3,hb3⟩;obtain⟨r0,s0,rfl⟩:=At ho3.sign;obtain⟨r1,s1,rfl⟩:=At ho3.regs;obtain⟨r2,s2,rfl⟩:=At ho3.slots;obtain⟨r3,s3,rfl⟩:=At ho3.list;have HT3:=B8 ht3;have HB3:=B8 (bel HB0.out hb3);have HB33:=B8 hb3;clear ht3 ho3 hb3)|(go_at_call 4;(with_reducible refine(KC.out _ _ _ _ _ HT3.out).mono ?_);rintro e9 w4 ⟨rfl,hb⟩;have HB4:=B8 (bel HB3.out hb);have HB44:=B8 (bel HB33.out hb);clear hb))
 clear k0 k1 k2 k3;obtain⟨k0,k1,k2,k3⟩:=HKC.out _ HB44.out;go_upto_block 0 with(go_at_call 7;(with_reducible refine(KA.out _ HB4.out).mono ?_);rintro e w1 ⟨px,qx,SX,rfl,hmx,hcx,hb1,hlx,hlxx⟩;have HCX:=B8 (And.intro hmx (And.intro hcx (And.intro hlx hlxx)));have HB1:=B8 hb1;clear hmx hcx hb1 hlx hlxx k0 k1 k2 k3)
 obtain⟨W2,hW2⟩:∃W,w1.alloc (.cells #[.slice p0 c.sign.length q0,.slice p1 c.regs.length q1,.slice p2 c.slots.length q2,.slice p3 c.list.length q3,.slice px c.slots.length qx] 36)=W:=⟨_,rfl⟩
 have HX2:Hid (Below w1.heap.size w1 W2/\W2.heap.size=w1.heap.size+1/\W2.rowIs w1.heap.size 36 5 (f5 (.slice p0 c.sign.length q0) (.slice p1 c.regs.length q1) (.slice p2 c.slots.length q2) (.slice p3 c.list.length q3) (.slice px c.slots.length qx))):=by rw[<-hW2];exact⟨A0 _ _,sM,World.rowIs_alloc w1 _ _ _ (Gw _ _ _ _ _)⟩
 try rw[hW2]
 clear hW2;obtain⟨XB,hXB⟩:∃x,w1.heap.size=x:=⟨_,rfl⟩
 have HNUM:Hid (w.heap.size<XB/\XB<W2.heap.size/\w4.heap.size<=XB):=by
  have e0:=HS0.out;have e1:=HB44.size;have e2:=HB1.size;have e3:=HX2.2.1;refine⟨?_,?_,?_⟩<;>omega
 have HW2:Hid (Below w.heap.size w W2):=bel HB4.out (bel HB1.out HX2.1);have HI:Hid (∃hs S px qx,AI (fun b=>b=XB) W2 (.slice px c.slots.length qx) S/\S.map (·.h)=hs/\J7 c hs/\World.rowIs W2 XB 36 5 (f5 (.slice p0 c.sign.length q0) (.slice p1 c.regs.length q1) (.slice p2 c.slots.length q2) (.slice p3 c.list.length q3) (.slice px c.slots.length qx))/\Un (fun b=>b=XB) W2 W2):=by
  obtain⟨f1,f2,f3⟩:=HNUM.out;obtain⟨i1,i2,i3,i4⟩:=HCX.out;refine⟨BM c,SX,px,qx,?_,i1,PA HG.1 HK.out,?_,Un.refl _ _⟩
  .refine AI.below (AI.mono (U:=(fun b=>b=XB)) (Vf (T:=fun b=>b<w4.heap.size) i2 i3 i4 (fun b e=>e)) (fun b hb e=>?_)) HX2.1;have e:b=XB:=e;omega
  .rw[<-hXB];exact HX2.2.2
 rw[hXB];clear HCX HX2 HB1 KA KT KC hXB;go_wp2_with fail
 go_loopw [9] (fun iv wr=>∃j:Nat,j<=N4/\j<=20/\iv=.int .i64 (j:Int)/\Hid (∃hs S px qx,AI (fun b=>b=XB) wr (.slice px c.slots.length qx) S/\S.map (·.h)=hs/\J7 c hs/\World.rowIs wr XB 36 5 (f5 (.slice p0 c.sign.length q0) (.slice p1 c.regs.length q1) (.slice p2 c.slots.length q2) (.slice p3 c.list.length q3) (.slice px c.slots.length qx))/\Un (fun b=>b=XB) W2 wr)) (fun iv _=>20-(intOf iv).toNat)
 case atStart=>exact⟨0,gI _,dE,rfl,HI.out⟩
 case round=>
  clear HI;obtain⟨j,hj,hj20,rfl,HR⟩:=hrel;obtain⟨hs,S,px,qx,hcx,hmx,hsl,hbx,hun⟩:=HR.out;have hbW:Below w.heap.size w wr:=HW2.trans (hun.below (by have:=HNUM.out;omega) (fun b e=>by have:=HNUM.out;have e:b=XB:=e;omega));have HEND:=B8 hbW;by_cases hlt:j<N4
  .by_cases h20:j<20
   .have hjl:j<l.length:=by rw[HN4.out];exact hlt
    obtain⟨lb,lo,hp4,hcj⟩:∃lb lo,p4=some ⟨lb,lo,none⟩/\Ai w lb (lo+j*2) (WP l[j]):=by
     rcases HROW.out with e|⟨b,o,hp,hc⟩
     .rw[e]at hjl;cases hjl
     .exact⟨b,o,hp,hc j hjl⟩
    subst hp4;have hst:=HS.out l[j] (gD hjl);obtain⟨s,hs9⟩:=gA (l[j])
    rw[hs9]at hcj hst;obtain⟨gv,pv,G,P⟩:=s;obtain⟨g1,g2,g3,g4⟩:=hst;simp only at g1 g2 g3 g4;obtain⟨pg,qg,rfl⟩:∃p q,gv=.slice p G.length q:=by obtain⟨p,q,e,_⟩:=g1;exact⟨p,q,e⟩
    obtain⟨pp,qp,rfl⟩:∃p q,pv=.slice p P.length q:=by obtain⟨p,q,e,_⟩:=g2;exact⟨p,q,e⟩
    have y0:wr.cell? ⟨lb,lo+j*2,none⟩=some (.slice pg G.length qg):=kc hbW (hcj.at 0 rfl);have y1:wr.cell? ⟨lb,lo+j*2+1,none⟩=some (.slice pp P.length qp):=kc hbW (hcj.at 1 rfl);have hlb:lb<w.heap.size:=A3 (hcj.at 0 rfl);have hTlt:∀b,b=XB->b<wr.heap.size:=fun b e=>by have:=HNUM.out;have:=hun.size;omega
    have KX:Hid (∀ (v:World) (N:Nat->Prop),Below wr.heap.size wr v->(∀b,N b->wr.heap.size<=b/\b<v.heap.size)->Calls prog 8 #[.agg #[.slice p0 c.sign.length q0,.slice p1 c.regs.length q1,.slice p2 c.slots.length q2,.slice p3 c.list.length q3,.slice px c.slots.length qx],.slice pg G.length qg,.slice pp P.length qp] v fun e w'=>∃p5 q5 pu nu qu S5,e=.returned (.tuple #[.agg #[.slice p0 c.sign.length q0,.slice p1 c.regs.length q1,.slice p2 c.slots.length q2,.slice p3 c.list.length q3,.slice p5 c.slots.length q5],.slice pu nu qu,.int .i64 (Th c G P),.int .i64 (VN c hs G P)])/\S5.map (·.h)=W7 c hs G P/\AI (fun b=>b=XB\/N b) w' (.slice p5 c.slots.length q5) S5/\Fe (fun b=>b<v.heap.size) w' (.slice pu nu qu) (Xo c hs G P)/\J7 c (W7 c hs G P)/\Below v.heap.size v w'):=fun v N hb hN=>
     MQ (T:=fun b=>b=XB\/N b) p0 p1 p2 p3 px pg pp q0 q1 q2 q3 qx qg qp c HG.2 HK.out hs hsl S hmx G P g3 g4 v (fun b e=>e.elim (fun e=>Nat.lt_of_lt_of_le (hTlt b e) hb.size) (fun e=>(hN b e).2)) ((HVV.below hbW).below hb) ((hcx.mono (fun b hb5 e=>e.elim id (fun e=>by have:=(hN b e).1;omega))).below hb) ((g1.below hbW).below hb) ((g2.below hbW).below hb)
    have hsp:VN c hs G P<=CV:=HSP.out hs G P;obtain⟨E,hE⟩:=gA (Th c G P)
    obtain⟨KS,hKS⟩:∃E,VN c hs G P=E:=⟨_,rfl⟩
    obtain⟨hs2,hhs2⟩:∃x,W7 c hs G P=x:=⟨_,rfl⟩
    obtain⟨L,hL⟩:∃x,Xo c hs G P=x:=⟨_,rfl⟩
    rw[hE,hKS,hhs2,hL]at KX;rw[hKS]at hsp;have HUN:=B8 hun;have HXW:=B8 hbx;have HLT:Hid (lb<w.heap.size/\XB<wr.heap.size/\w.heap.size<XB/\w.heap.size<=wr.heap.size):=⟨hlb,hTlt _ rfl,HNUM.1,hbW.size⟩
    have j1:(0:Int)<=(j:Int):=oM;have j2:(j:Int)<(N4:Int):=oM;have j3:(j:Int)<20:=oM;have j4:¬ (CV<KS):=oM;have j5:¬ (KS>CV):=j4;have wi:IntKind.i64.wrap ((j:Int)+1)=((j+1:Nat):Int):=by rw[IntKind.wrap_i64];omega
    clear hcx hmx hsl hbx hun hbW g1 g2 g3 g4 hcj hs9 hlb hTlt hE hKS hhs2 hL HR hsp;go_upto_region 8 with fail;go_cut [10,11,12,13] (fun nv uv ev kv wz=>∃NB p5 q5 pu nu qu S5,nv=.pointer (some ⟨NB,0,none⟩)/\uv=.slice pu nu qu/\ev=.int .i64 E/\kv=.int .i64 KS/\Hid (wz.rowIs NB 36 5 (f5 (.slice p0 c.sign.length q0) (.slice p1 c.regs.length q1) (.slice p2 c.slots.length q2) (.slice p3 c.list.length q3) (.slice p5 c.slots.length q5))/\wr.heap.size<=NB/\S5.map (·.h)=hs2/\AI (fun b=>b=XB) wz (.slice p5 c.slots.length q5) S5/\Fe (fun b=>b<wr.heap.size) wz (.slice pu nu qu) L/\J7 c hs2/\Below wr.heap.size wr wz))
    case first=>
     have hdb:=(HXW.of_block ((BE wr).block XB HLT.2.1))
     have d0:wr.cell? ⟨XB,0,none⟩=some (.slice p0 c.sign.length q0):=hdb.cell (i:=0) dE;have d1:wr.cell? ⟨XB,1,none⟩=some (.slice p1 c.regs.length q1):=hdb.cell (i:=1) dE;have d2:wr.cell? ⟨XB,2,none⟩=some (.slice p2 c.slots.length q2):=hdb.cell (i:=2) dE;have d3:wr.cell? ⟨XB,3,none⟩=some (.slice p3 c.list.length q3):=hdb.cell (i:=3) dE;have d4:wr.cell? ⟨XB,4,none⟩=some (.slice px c.slots.length qx):=hdb.cell (i:=4) dE;have t0:=y0;have t1:=y1;clear hdb y0 y1;have z1:=(fun o=>kc (A0 wr o) t0)
     have z2:=(fun o=>kc (A0 wr o) t1)
     have z3:=(fun o=>kc (A0 wr o) d0)
     have z4:=(fun o=>kc (A0 wr o) d1)
     have z5:=(fun o=>kc (A0 wr o) d2)
     have z6:=(fun o=>kc (A0 wr o) d3)
     have z7:=(fun o=>kc (A0 wr o) d4)
     refine rG (fun v=>v.cell? ⟨lb,lo+j*2,none⟩=some (.slice pg G.length qg)/\v.cell? ⟨lb,lo+j*2+1,none⟩=some (.slice pp P.length qp)/\v.cell? ⟨XB,0,none⟩=some (.slice p0 c.sign.length q0)/\v.cell? ⟨XB,1,none⟩=some (.slice p1 c.regs.length q1)/\v.cell? ⟨XB,2,none⟩=some (.slice p2 c.slots.length q2)/\v.cell? ⟨XB,3,none⟩=some (.slice p3 c.list.length q3)/\v.cell? ⟨XB,4,none⟩=some (.slice px c.slots.length qx)) fun hJ=>?_;refine Tf 0 1 2 3 4 5 ?_;refine Tc 6 7 8 ?_;refine Tb 9 10 ?_;clear hJ;refine wpAnyH_ready (rs:=[11,17]) kR sM ?_;refine IZ 11 (fun K hK=>?_) ?_
     .go_simp;(go_at_call 8;(first|(with_reducible refine(KX.out wr.drew (fun _=>False) (bel (BE wr) (A4 _)) (fun b e=>e.elim)).mono ?_)|(with_reducible refine(KX.out _ (fun b=>b=wr.heap.size) (bel (BE wr) (bel (A0 _ _) (A4 _))) (fun b e=>by subst e;exact⟨gF _,sM⟩)).mono ?_));rintro e w6 ⟨p5,q5,pu,nu,qu,S5,rfl,k1,k2,k3,k4,k5⟩;have HK6:=B8 (And.intro k1 (And.intro k2 (And.intro k3 k4)));have HB6:Hid (Below wr.heap.size wr w6):=Zg;(try(have HNB:=B8 ((World.rowIs_alloc wr #[.slice none 0 0,.slice none 0 0,.slice none 0 0,.slice none 0 0,.slice none 0 0] 36 _ (Gw _ _ _ _ _)).of_block (k5.block wr.heap.size sM))));(try(have n0:w6.cell? ⟨wr.heap.size,0,none⟩=some (.slice none 0 0):=HNB.out.cell (i:=0) dE;have n1:w6.cell? ⟨wr.heap.size,1,none⟩=some (.slice none 0 0):=HNB.out.cell (i:=1) dE;have n2:w6.cell? ⟨wr.heap.size,2,none⟩=some (.slice none 0 0):=HNB.out.cell (i:=2) dE;have n3:w6.cell? ⟨wr.heap.size,3,none⟩=some (.slice none 0 0):=HNB.out.cell (i:=3) dE;have n4:w6.cell? ⟨wr.heap.size,4,none⟩=some (.slice none 0 0):=HNB.out.cell (i:=4) dE;have o0:=HNB.out.frozen 0;have o1:=HNB.out.frozen 1;have o2:=HNB.out.frozen 2;have o3:=HNB.out.frozen 3;have o4:=HNB.out.frozen 4));have ct0:=kc HB6.out t0;have et0:=(fun o=>kc (A0 w6 o) ct0);have st0:=Aw ct0 Xi;have ct1:=kc HB6.out t1;have et1:=(fun o=>kc (A0 w6 o) ct1);have st1:=Aw ct1 Xi;have cd0:=kc HB6.out d0;have ed0:=(fun o=>kc (A0 w6 o) cd0);have sd0:=Aw cd0 Sx;have cd1:=kc HB6.out d1;have ed1:=(fun o=>kc (A0 w6 o) cd1);have sd1:=Aw cd1 Sx;have cd2:=kc HB6.out d2;have ed2:=(fun o=>kc (A0 w6 o) cd2);have sd2:=Aw cd2 Sx;have cd3:=kc HB6.out d3;have ed3:=(fun o=>kc (A0 w6 o) cd3);have sd3:=Aw cd3 Sx;have cd4:=kc HB6.out d4;have ed4:=(fun o=>kc (A0 w6 o) cd4);have sd4:=Aw cd4 Sx;clear k1 k2 k3 k4 k5);try(go_wp2_with fail)
      refine AB hK fun hJ=>?_;clear hK K;refine Tc 12 13 14 ?_;refine Tb 15 16 ?_;clear hJ;refine AC 17 fun K hK=>?_;go_simp;refine AB hK fun hJ=>?_;clear hK K;exact Yo
     refine IZ 17 (fun K hK=>?_) AllReadyH.nil;go_simp;refine AB hK fun hJ=>?_;clear hK K;clear hJ;refine AC 11 fun K hK=>?_;go_simp;(go_at_call 8;(first|(with_reducible refine(KX.out wr.drew (fun _=>False) (bel (BE wr) (A4 _)) (fun b e=>e.elim)).mono ?_)|(with_reducible refine(KX.out _ (fun b=>b=wr.heap.size) (bel (BE wr) (bel (A0 _ _) (A4 _))) (fun b e=>by subst e;exact⟨gF _,sM⟩)).mono ?_));rintro e w6 ⟨p5,q5,pu,nu,qu,S5,rfl,k1,k2,k3,k4,k5⟩;have HK6:=B8 (And.intro k1 (And.intro k2 (And.intro k3 k4)));have HB6:Hid (Below wr.heap.size wr w6):=Zg;(try(have HNB:=B8 ((World.rowIs_alloc wr #[.slice none 0 0,.slice none 0 0,.slice none 0 0,.slice none 0 0,.slice none 0 0] 36 _ (Gw _ _ _ _ _)).of_block (k5.block wr.heap.size sM))));(try(have n0:w6.cell? ⟨wr.heap.size,0,none⟩=some (.slice none 0 0):=HNB.out.cell (i:=0) dE;have n1:w6.cell? ⟨wr.heap.size,1,none⟩=some (.slice none 0 0):=HNB.out.cell (i:=1) dE;have n2:w6.cell? ⟨wr.heap.size,2,none⟩=some (.slice none 0 0):=HNB.out.cell (i:=2) dE;have n3:w6.cell? ⟨wr.heap.size,3,none⟩=some (.slice none 0 0):=HNB.out.cell (i:=3) dE;have n4:w6.cell? ⟨wr.heap.size,4,none⟩=some (.slice none 0 0):=HNB.out.cell (i:=4) dE;have o0:=HNB.out.frozen 0;have o1:=HNB.out.frozen 1;have o2:=HNB.out.frozen 2;have o3:=HNB.out.frozen 3;have o4:=HNB.out.frozen 4));have ct0:=kc HB6.out t0;have et0:=(fun o=>kc (A0 w6 o) ct0);have st0:=Aw ct0 Xi;have ct1:=kc HB6.out t1;have et1:=(fun o=>kc (A0 w6 o) ct1);have st1:=Aw ct1 Xi;have cd0:=kc HB6.out d0;have ed0:=(fun o=>kc (A0 w6 o) cd0);have sd0:=Aw cd0 Sx;have cd1:=kc HB6.out d1;have ed1:=(fun o=>kc (A0 w6 o) cd1);have sd1:=Aw cd1 Sx;have cd2:=kc HB6.out d2;have ed2:=(fun o=>kc (A0 w6 o) cd2);have sd2:=Aw cd2 Sx;have cd3:=kc HB6.out d3;have ed3:=(fun o=>kc (A0 w6 o) cd3);have sd3:=Aw cd3 Sx;have cd4:=kc HB6.out d4;have ed4:=(fun o=>kc (A0 w6 o) cd4);have sd4:=Aw cd4 Sx;clear k1 k2 k3 k4 k5);try(go_wp2_with fail)
     refine AB hK fun hJ=>?_;clear hK K;refine Tc 12 13 14 ?_;refine Tb 15 16 ?_;exact Yo
    case rest=>
    obtain⟨NX,pn,qn,pa,na,qa,SN,rfl,rfl,rfl,rfl,HC6⟩:=hcut;obtain⟨x1,x2,x3,x4,x5,x6,x7⟩:=HC6.out;have lNX:=x1.lt;have a0:wc.cell? ⟨NX,0,none⟩=some (.slice p0 c.sign.length q0):=x1.cell (i:=0) dE;have a1:wc.cell? ⟨NX,1,none⟩=some (.slice p1 c.regs.length q1):=x1.cell (i:=1) dE;have a2:wc.cell? ⟨NX,2,none⟩=some (.slice p2 c.slots.length q2):=x1.cell (i:=2) dE;have a3:wc.cell? ⟨NX,3,none⟩=some (.slice p3 c.list.length q3):=x1.cell (i:=3) dE;have a4:wc.cell? ⟨NX,4,none⟩=some (.slice pn c.slots.length qn):=x1.cell (i:=4) dE;have hX:=HXW.of_block (x7.block _ HLT.2.1);obtain⟨hV1,hV2⟩:=Vh (a0:=(.slice p0 c.sign.length q0)) (a1:=(.slice p1 c.regs.length q1)) (a2:=(.slice p2 c.slots.length q2)) (a3:=(.slice p3 c.list.length q3)) (a4:=(.slice pn c.slots.length qn)) hX;obtain⟨V1,hV⟩:∃V,(((((wc.setCell ⟨XB,0,none⟩ (.slice p0 c.sign.length q0)).setCell ⟨XB,1,none⟩ (.slice p1 c.regs.length q1)).setCell ⟨XB,2,none⟩ (.slice p2 c.slots.length q2)).setCell ⟨XB,3,none⟩ (.slice p3 c.list.length q3)).setCell ⟨XB,4,none⟩ (.slice pn c.slots.length qn))=V:=⟨_,rfl⟩
    rw[hV]at hV1 hV2;have c0:wc.cell? ⟨XB,0,none⟩=some (.slice p0 c.sign.length q0):=hX.cell (i:=0) dE;have o0:=hX.frozen 0;have c1:wc.cell? ⟨XB,1,none⟩=some (.slice p1 c.regs.length q1):=hX.cell (i:=1) dE;have o1:=hX.frozen 1;have c2:wc.cell? ⟨XB,2,none⟩=some (.slice p2 c.slots.length q2):=hX.cell (i:=2) dE;have o2:=hX.frozen 2;have c3:wc.cell? ⟨XB,3,none⟩=some (.slice p3 c.list.length q3):=hX.cell (i:=3) dE;have o3:=hX.frozen 3;have c4:wc.cell? ⟨XB,4,none⟩=some (.slice px c.slots.length qx):=hX.cell (i:=4) dE;have o4:=hX.frozen 4;have HRX:=B8 hV1;have HCX:Hid (AI (fun b=>b=XB) V1 (.slice pn c.slots.length qn) SN/\SN.map (·.h)=hs2):=⟨x4.un hV2 (fun b _ e=>e),x3⟩
    have HSL:=B8 x6;have HUV:Hid (Un (fun b=>b=XB) W2 V1):=(HUN.on x7).trans hV2;clear HC6 x1 x2 x3 x4 x5 x6 x7 lNX hX hV1 hV2 y0 y1;go_upto_region 10 with fail;try rw[hV]
    clear hV a0 a1 a2 a3 a4 c0 c1 c2 c3 c4 o0 o1 o2 o3 o4;by_cases hE0:E=0
    .have q1:(E==0)=true:=by simp[hE0]
     exact YQ
    .have q1:(E==0)=false:=by simp[hE0]
     exact YQ
   .have hj':j=20:=oM;exact YE
  .have hj':j=N4:=oM;exact YE
end Go.Proofs.YtheanilpbnencaaGreat
