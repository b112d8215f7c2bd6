import Derived.Test.YtbinohkcolcbfaaGreatPart33
import Derived.Test.YtbinohkcolcbfaaGreatPart25
import Derived.Test.YtbinohkcolcbfaaGreatPart26
import Derived.Test.YtbinohkcolcbfaaGreatPart13
import Derived.Test.YtbinohkcolcbfaaGreatPart23
import Derived.Test.YtbinohkcolcbfaaGreatPart24
import Derived.Test.YtbinohkcolcbfaaGreatPart1
namespace Go.Proofs.YtbinohkcolcbfaaGreat
open Go.RowKit Go.Proofs.Tryz
set_option linter.unusedVariables false
set_option linter.unusedSimpArgs false
set_option maxRecDepth 100000
set_option maxHeartbeats 16000000
theorem Zain(p0 p1 p2 p3 ps pg pp:Option Addr)(q0 q1 q2 q3 qs qg qp:Nat)(c:Cd)(hg:Good c)(hk:CdOk c)(G P:List (List Int))(kG:VsOk G)(kP:VsOk P)(hf:Zly c G P=false)(w:World)
 (hv:CdV w (.slice p0 c.sign.length q0) (.slice p1 c.regs.length q1) (.slice p2 c.slots.length q2) (.slice p3 c.list.length q3) c) (hgv:VcR w (.slice pg G.length qg) G) (hpv:VcR w (.slice pp P.length qp) P):
 Calls prog 28 #[.agg #[.slice p0 c.sign.length q0,.slice p1 c.regs.length q1,.slice p2 c.slots.length q2,.slice p3 c.list.length q3,.slice ps c.slots.length qs],.slice pg G.length qg,.slice pp P.length qp] w fun e w'=>e=.returned (.tuple #[.agg #[.slice p0 c.sign.length q0,.slice p1 c.regs.length q1,.slice p2 c.slots.length q2,.slice p3 c.list.length q3,.slice ps c.slots.length qs],.slice none 0 0,.int .i64 170,.int .i64 0])/\Below w.heap.size w w':=by
 unfold Zly at hf;obtain⟨fG,hfG⟩:∃b,Zin c.sign (G.map (·.length))=b:=⟨_,rfl⟩
 obtain⟨fP,hfP⟩:∃b,Zin c.sign (P.map (·.length))=b:=⟨_,rfl⟩
 rw[hfG,hfP]at hf;have KF1:Hid (∀v,Below w.heap.size w v->Calls prog 46 #[.slice p0 c.sign.length q0,.slice pg G.length qg] v fun e w'=>e=.returned (.bool fG)/\Below v.heap.size v w'):=fun v hb=>by have h1:=Zpe (.slice p0 c.sign.length q0) c.sign hg.signL hk.names (.slice pg G.length qg) G kG.len kG.lens v (hv.sign.below hb) (hgv.below hb);rw[hfG]at h1;exact h1
 have KF2:Hid (∀v,Below w.heap.size w v->Calls prog 46 #[.slice p0 c.sign.length q0,.slice pp P.length qp] v fun e w'=>e=.returned (.bool fP)/\Below v.heap.size v w'):=fun v hb=>by have h1:=Zpe (.slice p0 c.sign.length q0) c.sign hg.signL hk.names (.slice pp P.length qp) P kP.len kP.lens v (hv.sign.below hb) (hpv.below hb);rw[hfP]at h1;exact h1
 obtain⟨n0,hn0⟩:∃n,c.sign.length=n:=⟨_,rfl⟩
 obtain⟨n1,hn1⟩:∃n,c.regs.length=n:=⟨_,rfl⟩
 obtain⟨n2,hn2⟩:∃n,c.slots.length=n:=⟨_,rfl⟩
 obtain⟨n3,hn3⟩:∃n,c.list.length=n:=⟨_,rfl⟩
 obtain⟨gl,hgl⟩:∃n,G.length=n:=⟨_,rfl⟩
 obtain⟨pl,hpl⟩:∃n,P.length=n:=⟨_,rfl⟩
 rw[hn0,hgl]at KF1;rw[hn0,hpl]at KF2;rw[hn0,hn1,hn2,hn3,hgl,hpl];have HSB0:Hid (SB w (.slice p0 n0 q0) (.slice p1 n1 q1) (.slice p2 n2 q2) (.slice p3 n3 q3) (.slice ps n2 qs) _):=SB.start w (.slice p0 n0 q0) (.slice p1 n1 q1) (.slice p2 n2 q2) (.slice p3 n3 q3) (.slice ps n2 qs);clear hg hk kG kP hv hgv hpv hn0 hn1 hn2 hn3 hgl hpl hfG hfP;go_enter func28,ntmps28;go_upto_region 2 with fail;obtain⟨W0,hW0⟩:∃W,(((w.alloc (.cells #[.slice p0 n0 q0,.slice p1 n1 q1,.slice p2 n2 q2,.slice p3 n3 q3,.slice ps n2 qs] 38)).alloc (.cells #[.slice none 0 0,.slice none 0 0,.slice none 0 0,.slice none 0 0,.slice none 0 0] 38)).alloc (.cells #[.slice p0 n0 q0,.slice p1 n1 q1,.slice p2 n2 q2,.slice p3 n3 q3] 27))=W:=⟨_,rfl⟩
 rw[hW0]at HSB0;rw[hW0];clear hW0;have c0:W0.cell? ⟨w.heap.size+1+1,0,none⟩=some (.slice p0 n0 q0):=HSB0.out.c.cell (i:=0) dE;have FIN:Hid (∀v,SB w (.slice p0 n0 q0) (.slice p1 n1 q1) (.slice p2 n2 q2) (.slice p3 n3 q3) (.slice ps n2 qs) v->∀u0 u1 u2 u3 u4,Below w.heap.size w (((((v.setCell ⟨w.heap.size+1,0,none⟩ u0).setCell ⟨w.heap.size+1,1,none⟩ u1).setCell ⟨w.heap.size+1,2,none⟩ u2).setCell ⟨w.heap.size+1,3,none⟩ u3).setCell ⟨w.heap.size+1,4,none⟩ u4)):=fun v h u0 u1 u2 u3 u4=>((((h.bel.setCell Zfp _).setCell Zfp _).setCell Zfp _).setCell Zfp _).setCell Zfp _;cases fG with
 |false=>
  clear hf KF2;go_wp2_with(go_at_call 46;(with_reducible refine(KF1.out _ HSB0.out.bel).mono ?_);rintro e w1 ⟨rfl,hb1⟩;have HSB1:Hid (SB w (.slice p0 n0 q0) (.slice p1 n1 q1) (.slice p2 n2 q2) (.slice p3 n3 q3) (.slice ps n2 qs) w1):=HSB0.out.next hb1;clear hb1 c0;have r0:w1.cell? ⟨w.heap.size,0,none⟩=some (.slice p0 n0 q0):=HSB1.out.r.cell (i:=0) dE;have r1:w1.cell? ⟨w.heap.size,1,none⟩=some (.slice p1 n1 q1):=HSB1.out.r.cell (i:=1) dE;have r2:w1.cell? ⟨w.heap.size,2,none⟩=some (.slice p2 n2 q2):=HSB1.out.r.cell (i:=2) dE;have r3:w1.cell? ⟨w.heap.size,3,none⟩=some (.slice p3 n3 q3):=HSB1.out.r.cell (i:=3) dE;have r4:w1.cell? ⟨w.heap.size,4,none⟩=some (.slice ps n2 qs):=HSB1.out.r.cell (i:=4) dE;have a0:w1.cell? ⟨w.heap.size+1,0,none⟩=some (.slice none 0 0):=HSB1.out.q.cell (i:=0) dE;have a1:w1.cell? ⟨w.heap.size+1,1,none⟩=some (.slice none 0 0):=HSB1.out.q.cell (i:=1) dE;have a2:w1.cell? ⟨w.heap.size+1,2,none⟩=some (.slice none 0 0):=HSB1.out.q.cell (i:=2) dE;have a3:w1.cell? ⟨w.heap.size+1,3,none⟩=some (.slice none 0 0):=HSB1.out.q.cell (i:=3) dE;have a4:w1.cell? ⟨w.heap.size+1,4,none⟩=some (.slice none 0 0):=HSB1.out.q.cell (i:=4) dE;have b0:=HSB1.out.q.frozen 0;have b1:=HSB1.out.q.frozen 1;have b2:=HSB1.out.q.frozen 2;have b3:=HSB1.out.q.frozen 3;have b4:=HSB1.out.q.frozen 4);refine bodyPost_ret Zgr rfl ?_;exact⟨rfl,FIN.out _ HSB1.out _ _ _ _ _⟩
 |true=>
  have hfP:fP=false:=by simpa using hf
  subst hfP;clear hf;go_wp2_with(first
   |(go_at_call 46;(with_reducible refine(KF1.out _ HSB0.out.bel).mono ?_);rintro e w1 ⟨rfl,hb1⟩;have HSB1:Hid (SB w (.slice p0 n0 q0) (.slice p1 n1 q1) (.slice p2 n2 q2) (.slice p3 n3 q3) (.slice ps n2 qs) w1):=HSB0.out.next hb1;clear hb1 c0;have c0:w1.cell? ⟨w.heap.size+1+1,0,none⟩=some (.slice p0 n0 q0):=HSB1.out.c.cell (i:=0) dE)
   |(go_at_call 46;(with_reducible refine(KF2.out _ HSB1.out.bel).mono ?_);rintro e w2 ⟨rfl,hb2⟩;have HSB2:Hid (SB w (.slice p0 n0 q0) (.slice p1 n1 q1) (.slice p2 n2 q2) (.slice p3 n3 q3) (.slice ps n2 qs) w2):=HSB1.out.next hb2;clear hb2 c0;have r0:w2.cell? ⟨w.heap.size,0,none⟩=some (.slice p0 n0 q0):=HSB2.out.r.cell (i:=0) dE;have r1:w2.cell? ⟨w.heap.size,1,none⟩=some (.slice p1 n1 q1):=HSB2.out.r.cell (i:=1) dE;have r2:w2.cell? ⟨w.heap.size,2,none⟩=some (.slice p2 n2 q2):=HSB2.out.r.cell (i:=2) dE;have r3:w2.cell? ⟨w.heap.size,3,none⟩=some (.slice p3 n3 q3):=HSB2.out.r.cell (i:=3) dE;have r4:w2.cell? ⟨w.heap.size,4,none⟩=some (.slice ps n2 qs):=HSB2.out.r.cell (i:=4) dE;have a0:w2.cell? ⟨w.heap.size+1,0,none⟩=some (.slice none 0 0):=HSB2.out.q.cell (i:=0) dE;have a1:w2.cell? ⟨w.heap.size+1,1,none⟩=some (.slice none 0 0):=HSB2.out.q.cell (i:=1) dE;have a2:w2.cell? ⟨w.heap.size+1,2,none⟩=some (.slice none 0 0):=HSB2.out.q.cell (i:=2) dE;have a3:w2.cell? ⟨w.heap.size+1,3,none⟩=some (.slice none 0 0):=HSB2.out.q.cell (i:=3) dE;have a4:w2.cell? ⟨w.heap.size+1,4,none⟩=some (.slice none 0 0):=HSB2.out.q.cell (i:=4) dE;have b0:=HSB2.out.q.frozen 0;have b1:=HSB2.out.q.frozen 1;have b2:=HSB2.out.q.frozen 2;have b3:=HSB2.out.q.frozen 3;have b4:=HSB2.out.q.frozen 4))
  refine bodyPost_ret Zgr rfl ?_;exact⟨rfl,FIN.out _ HSB2.out _ _ _ _ _⟩
theorem Zacs(p0 p1 p2 p3 ps pg pp:Option Addr)(n0 q0 n1 q1 n2 q2 n3 q3 qs gl qg pl qp:Nat)(E:Int)(w:World)(Q:Option Addr->Nat->Option Addr->Nat->Nat->World->Prop)
 (hK:∀v,Below w.heap.size w v->w.heap.size+1<v.heap.size->Calls prog 28 #[.agg #[.slice p0 n0 q0,.slice p1 n1 q1,.slice p2 n2 q2,.slice p3 n3 q3,.slice ps n2 qs],.slice pg gl qg,.slice pp pl qp] v fun e w'=>∃p5 q5 pu nu qu k,e=.returned (.tuple #[.agg #[.slice p0 n0 q0,.slice p1 n1 q1,.slice p2 n2 q2,.slice p3 n3 q3,.slice p5 n2 q5],.slice pu nu qu,.int .i64 E,.int .i64 k])/\Q p5 q5 pu nu qu w'/\Below v.heap.size v w')
 (hQ:∀p5 q5 pu nu qu v v',Q p5 q5 pu nu qu v->Un (fun b=>b=w.heap.size+1) v v'->Q p5 q5 pu nu qu v'):
 Calls prog 11 #[.agg #[.slice p0 n0 q0,.slice p1 n1 q1,.slice p2 n2 q2,.slice p3 n3 q3,.slice ps n2 qs],.slice pg gl qg,.slice pp pl qp] w fun e w'=>∃p5 q5 pu nu qu,e=.returned (.tuple #[.agg #[.slice p0 n0 q0,.slice p1 n1 q1,.slice p2 n2 q2,.slice p3 n3 q3,.slice p5 n2 q5],.slice pu nu qu,.int .i64 E])/\Q p5 q5 pu nu qu w'/\Below w.heap.size w w':=by
 have HK:Hid _:=hK;have HQ:Hid _:=hQ;have r1:=World.rowIs_alloc (w.alloc (.cells #[.slice p0 n0 q0,.slice p1 n1 q1,.slice p2 n2 q2,.slice p3 n3 q3,.slice ps n2 qs] 38)) #[.slice none 0 0,.slice none 0 0,.slice none 0 0,.slice none 0 0,.slice none 0 0] 38 _ (Zpw _ _ _ _ _);simp only[World.size_alloc]at r1;have HR:Hid (((w.alloc (.cells #[.slice p0 n0 q0,.slice p1 n1 q1,.slice p2 n2 q2,.slice p3 n3 q3,.slice ps n2 qs] 38)).alloc (.cells #[.slice none 0 0,.slice none 0 0,.slice none 0 0,.slice none 0 0,.slice none 0 0] 38)).rowIs (w.heap.size+1) 38 5 (f5 (.slice none 0 0) (.slice none 0 0) (.slice none 0 0) (.slice none 0 0) (.slice none 0 0))):=r1;have HB0:Hid (Below w.heap.size w ((w.alloc (.cells #[.slice p0 n0 q0,.slice p1 n1 q1,.slice p2 n2 q2,.slice p3 n3 q3,.slice ps n2 qs] 38)).alloc (.cells #[.slice none 0 0,.slice none 0 0,.slice none 0 0,.slice none 0 0,.slice none 0 0] 38))):=bel (Zhq _ _) (Zhq _ _);clear hK hQ r1;go_enter func11,ntmps11;go_wp2_with(go_at_call 28;(with_reducible refine(HK.out _ HB0.out HR.out.lt).mono ?_);rintro e w3 ⟨p5,q5,pu,nu,qu,k,rfl,hq,hb3⟩;have HR3:Hid (w3.rowIs (w.heap.size+1) 38 5 (f5 (.slice none 0 0) (.slice none 0 0) (.slice none 0 0) (.slice none 0 0) (.slice none 0 0))):=HR.out.of_block (hb3.block _ HR.out.lt);have HQ3:Hid (Q p5 q5 pu nu qu w3/\Below w.heap.size w w3):=⟨hq,bel HB0.out hb3⟩;clear hb3 hq;have a0:∀o,(w3.alloc o).cell? ⟨w.heap.size+1,0,none⟩=some (.slice none 0 0):=(fun o=>(HR3.out.alloc o).cell (i:=0) dE);have a1:∀o,(w3.alloc o).cell? ⟨w.heap.size+1,1,none⟩=some (.slice none 0 0):=(fun o=>(HR3.out.alloc o).cell (i:=1) dE);have a2:∀o,(w3.alloc o).cell? ⟨w.heap.size+1,2,none⟩=some (.slice none 0 0):=(fun o=>(HR3.out.alloc o).cell (i:=2) dE);have a3:∀o,(w3.alloc o).cell? ⟨w.heap.size+1,3,none⟩=some (.slice none 0 0):=(fun o=>(HR3.out.alloc o).cell (i:=3) dE);have a4:∀o,(w3.alloc o).cell? ⟨w.heap.size+1,4,none⟩=some (.slice none 0 0):=(fun o=>(HR3.out.alloc o).cell (i:=4) dE);have b0:=(fun o=>(HR3.out.alloc o).frozen 0);have b1:=(fun o=>(HR3.out.alloc o).frozen 1);have b2:=(fun o=>(HR3.out.alloc o).frozen 2);have b3:=(fun o=>(HR3.out.alloc o).frozen 3);have b4:=(fun o=>(HR3.out.alloc o).frozen 4));refine bodyPost_ret (by simp[results,results11,go_sem, *];try rfl) rfl ?_;have hu:∀o u0 u1 u2 u3 u4,Un (fun b=>b=w.heap.size+1) w3 ((((((w3.alloc o).setCell ⟨w.heap.size+1,0,none⟩ u0).setCell ⟨w.heap.size+1,1,none⟩ u1).setCell ⟨w.heap.size+1,2,none⟩ u2).setCell ⟨w.heap.size+1,3,none⟩ u3).setCell ⟨w.heap.size+1,4,none⟩ u4):=fun o u0 u1 u2 u3 u4=>((((((Un.refl _ _).on (Zhq w3 o)).setCell rF _).setCell rF _).setCell rF _).setCell rF _).setCell rF _;refine⟨p5,q5,pu,nu,qu,rfl,HQ.out _ _ _ _ _ _ _ HQ3.out.1 (hu _ _ _ _ _ _),?_⟩;have h9:=hu (.cells #[.slice p0 n0 q0,.slice p1 n1 q1,.slice p2 n2 q2,.slice p3 n3 q3,.slice p5 n2 q5] 38) (.slice p0 n0 q0) (.slice p1 n1 q1) (.slice p2 n2 q2) (.slice p3 n3 q3) (.slice p5 n2 q5);have h8:=HQ3.out.2;exact⟨h9.os.trans h8.os,h9.tape.trans h8.tape,h9.output.trans h8.output,Nat.le_trans h8.size h9.size,fun b hb=>(h9.block b (Nat.lt_of_lt_of_le hb h8.size) oM).trans (h8.block b hb)⟩
theorem Zahd{T:Nat->Prop}(p0 p1 p2 p3 ps pg pp:Option Addr)(q0 q1 q2 q3 qs qg qp:Nat)(c:Cd)(hc:(Zik c).1=0)(hk:CdOk c)(l:List Hd)(hso:SlR c l)(S0:List Cl)(hS0:S0.map (·.h)=l)(G P:List (List Int))(kG:VsOk G)(kP:VsOk P)(hf:Zly c G P=true)(w:World)(hT:∀b,T b->b<w.heap.size)
 (hv:CdV w (.slice p0 c.sign.length q0) (.slice p1 c.regs.length q1) (.slice p2 c.slots.length q2) (.slice p3 c.list.length q3) c) (hss:CsT T w (.slice ps c.slots.length qs) S0) (hgv:VcR w (.slice pg G.length qg) G) (hpv:VcR w (.slice pp P.length qp) P):
 Calls prog 11 #[.agg #[.slice p0 c.sign.length q0,.slice p1 c.regs.length q1,.slice p2 c.slots.length q2,.slice p3 c.list.length q3,.slice ps c.slots.length qs],.slice pg G.length qg,.slice pp P.length qp] w fun e w'=>∃p5 q5 pu nu qu,e=.returned (.tuple #[.agg #[.slice p0 c.sign.length q0,.slice p1 c.regs.length q1,.slice p2 c.slots.length q2,.slice p3 c.list.length q3,.slice p5 c.slots.length q5],.slice pu nu qu,.int .i64 0])/\((∃S',S'.map (·.h)=(endJ c l G P).slots/\CsT (fun b=>T b\/b=w.heap.size+1) w' (.slice p5 c.slots.length q5) S')/\VsT (fun b=>b<=w.heap.size+1) w' (.slice pu nu qu) (updP c (endJ c l G P))/\SlR c (endJ c l G P).slots)/\Below w.heap.size w w':=by
 refine Zacs p0 p1 p2 p3 ps pg pp _ q0 _ q1 _ q2 _ q3 qs _ qg _ qp 0 w (fun p5 q5 pu nu qu v=>(∃S',S'.map (·.h)=(endJ c l G P).slots/\CsT (fun b=>T b\/b=w.heap.size+1) v (.slice p5 c.slots.length q5) S')/\VsT (fun b=>b<=w.heap.size+1) v (.slice pu nu qu) (updP c (endJ c l G P))/\SlR c (endJ c l G P).slots) (fun v hb hs=>?_) (fun p5 q5 pu nu qu v v' h hu=>?_)
 ·refine(Zadw (T:=fun b=>T b\/b=w.heap.size+1) p0 p1 p2 p3 ps pg pp q0 q1 q2 q3 qs qg qp c hc hk l hso S0 hS0 G P kG kP hf v (fun b e=>?_) (hv.below hb) ((hss.mono fun b hbb e=>e.elim id fun e=>by omega).below hb) (hgv.below hb) (hpv.below hb)).mono ?_
  ·rcases e with e|e
   ·have:=hT b e;omega
   ·omega
  ·rintro e w' ⟨p5,q5,pu,qu,k,S',rfl,h1,h2,h3,h4,h5⟩;exact⟨p5,q5,pu,_,qu,k,rfl,⟨⟨S',h1,h2⟩,h3.mono (fun b _ e=>by omega),h4⟩,h5⟩
 ·obtain⟨⟨S',h1,h2⟩,h3,h4⟩:=h;exact⟨⟨S',h1,h2.un hu fun b _ e=>.inr e⟩,h3.un hu (fun b _ e=>by omega),h4⟩
theorem Zalr(p0 p1 p2 p3 ps pg pp:Option Addr)(q0 q1 q2 q3 qs qg qp:Nat)(c:Cd)(hg:Good c)(hk:CdOk c)(G P:List (List Int))(kG:VsOk G)(kP:VsOk P)(hf:Zly c G P=false)(w:World)
 (hv:CdV w (.slice p0 c.sign.length q0) (.slice p1 c.regs.length q1) (.slice p2 c.slots.length q2) (.slice p3 c.list.length q3) c) (hgv:VcR w (.slice pg G.length qg) G) (hpv:VcR w (.slice pp P.length qp) P):
 Calls prog 11 #[.agg #[.slice p0 c.sign.length q0,.slice p1 c.regs.length q1,.slice p2 c.slots.length q2,.slice p3 c.list.length q3,.slice ps c.slots.length qs],.slice pg G.length qg,.slice pp P.length qp] w fun e w'=>e=.returned (.tuple #[.agg #[.slice p0 c.sign.length q0,.slice p1 c.regs.length q1,.slice p2 c.slots.length q2,.slice p3 c.list.length q3,.slice ps c.slots.length qs],.slice none 0 0,.int .i64 170])/\Below w.heap.size w w':=by
 refine(Zacs p0 p1 p2 p3 ps pg pp _ q0 _ q1 _ q2 _ q3 qs _ qg _ qp 170 w (fun p5 q5 pu nu qu v=>p5=ps/\q5=qs/\pu=none/\nu=0/\qu=0) (fun v hb hs=>?_) (fun p5 q5 pu nu qu v v' h hu=>h)).mono ?_
 ·refine(Zain p0 p1 p2 p3 ps pg pp q0 q1 q2 q3 qs qg qp c hg hk G P kG kP hf v (hv.below hb) (hgv.below hb) (hpv.below hb)).mono ?_;rintro e w' ⟨rfl,h⟩;exact⟨ps,qs,none,0,0,0,rfl,⟨rfl,rfl,rfl,rfl,rfl⟩,h⟩
 ·rintro e w' ⟨p5,q5,pu,nu,qu,rfl,⟨rfl,rfl,rfl,rfl,rfl⟩,h⟩;exact⟨rfl,h⟩
theorem Zakl(R N sc:Nat)(sp:Option Addr)(n:Int)(hN:N<=16384)(hn:n<0\/(N:Int)<=n)(w:World)(hr:w.cell? ⟨R,1,none⟩=some (.slice sp N sc)):
 Calls prog 14 #[.pointer (some ⟨R,0,none⟩),.int .i64 n] w fun e w'=>e=.returned (.tuple #[.slice none 0 0,.int .i64 0,.int .i64 1])/\Below w.heap.size w w':=by
 by_cases h0:n<0
 ·clear hn;go_enter func14,ntmps14;go_wp2;go_returns;exact⟨rfl,bel0 _⟩
 ·have h1:(N:Int)<=n:=hn.resolve_left h0;clear hn;go_enter func14,ntmps14;go_wp2;go_returns;exact⟨rfl,bel0 _⟩
theorem Zaoq{v:World}{p:Option Addr}{q:Nat}{l:List Int}(h:Zio v p l.length (fun j=>.int .u32 (atL l j))):Pt (fun _=>False) v (.slice p l.length q) l:=by
 refine⟨p,q,rfl,?_⟩;by_cases h0:l=[]
 ·exact .inl h0
 ·rcases h with e|⟨b,o,e,h⟩
  ·exact absurd (List.length_eq_zero_iff.1 e) h0
  ·refine .inr ⟨b,o,e,fun k=>k,Zhr (h 0 (List.length_pos_iff.2 h0)),fun k hk j hj=>?_⟩;have hj0:j=0:=by have:j<1:=hj;omega
   subst hj0;rw[Nat.mul_one,Nat.add_zero,h k hk];simp[ptC,atL,List.getElem?_eq_getElem hk]
theorem Zxo{v:World}{p p':Option Addr}{q q':Nat}{l:List Int}(h1:Pt (fun _=>False) v (.slice p l.length q) l)(h2:Pt (fun _=>False) v (.slice p' l.length q') l)(t:TypeId):
 VsT (fun _=>False) ((v.alloc (.cells #[.slice p l.length q] t)).alloc (.cells #[.slice p' l.length q'] t)) (.slice (some ⟨v.heap.size,0,none⟩) 1 1) [l]/\VsT (fun _=>False) ((v.alloc (.cells #[.slice p l.length q] t)).alloc (.cells #[.slice p' l.length q'] t)) (.slice (some ⟨v.heap.size+1,0,none⟩) 1 1) [l]:=by
 have hb:=bel (Zhq v (.cells #[.slice p l.length q] t)) (Zhq (v.alloc (.cells #[.slice p l.length q] t)) (.cells #[.slice p' l.length q'] t));refine⟨⟨_,1,rfl,.inr ⟨v.heap.size,0,rfl,fun k=>k,sO,fun i hi=>?_⟩⟩,⟨_,1,rfl,.inr ⟨v.heap.size+1,0,rfl,fun k=>k,sM,fun i hi=>?_⟩⟩⟩
 ·have hi0:i=0:=by have:i<1:=hi;omega
  subst hi0;exact⟨_,kc (Zhq _ _) sG,h1.below hb⟩
 ·have hi0:i=0:=by have:i<1:=hi;omega
  subst hi0;exact⟨_,sG,h2.below hb⟩
theorem Zalv{T:Nat->Prop}{B:Nat}(w:World)(R:Nat)(a:Lay)(X:Nat->Value)(c:Cd)(l:List Hd)(h:Zip T B w R a X c l)(hg:Good c)(p0 p1 p2 p3 ps:Option Addr)(n0 q0 n1 q1 n2 q2 n3 q3 qs:Nat)(hn2:c.slots.length=n2)(S:List Cl)(hS:S.map (·.h)=l)(hcs:CsV w (.slice ps n2 qs) S):
 Calls prog 9 #[.pointer (some ⟨R,0,none⟩),.agg #[.slice p0 n0 q0,.slice p1 n1 q1,.slice p2 n2 q2,.slice p3 n3 q3,.slice ps n2 qs]] w fun e w'=>e=.returned (.bool true)/\Below w.heap.size w w':=by
 have hll:l.length=n2:=by rw[h.len,hn2]
 have hSl:S.length=n2:=by have h5:=congrArg List.length hS;rw[List.length_map]at h5;omega
 have hb2:n2<=4096:=by rw[←hn2];exact hg.slotsL
 have KI:Hid (∀k (hk:k<l.length) v,Below w.heap.size w v->Calls prog 14 #[.pointer (some ⟨R,0,none⟩),.int .i64 (k:Int)] v fun e w'=>∃p d,e=.returned (.tuple #[.slice p (l[k]).pats.length d,.int .i64 (l[k]).whole,.int .i64 0])/\Pt (fun b=>b<v.heap.size) w' (.slice p (l[k]).pats.length d) (l[k]).pats/\Below v.heap.size v w'):=fun k hk v hb=>Zaan v R a X c l (h.below hb) hg k hk;have r1:w.cell? ⟨R,1,none⟩=some (.slice a.sp n2 a.sc):=by rw[←hn2];exact h.run.at 1 rfl
 have KJ:Hid (∀n:Int,(n<0\/(n2:Int)<=n)->∀v,Below w.heap.size w v->Calls prog 14 #[.pointer (some ⟨R,0,none⟩),.int .i64 n] v fun e w'=>e=.returned (.tuple #[.slice none 0 0,.int .i64 0,.int .i64 1])/\Below v.heap.size v w'):=fun n hn v hb=>Zakl R n2 a.sc a.sp n oM hn v (kc hb r1);have KR:Hid (∀k (hk:k<l.length) v,Below w.heap.size w v->Calls prog 24 #[.agg #[.slice p0 n0 q0,.slice p1 n1 q1,.slice p2 n2 q2,.slice p3 n3 q3,.slice ps n2 qs],.int .i64 (k:Int)] v fun e w'=>∃p q,e=.returned (.tuple #[.slice p (l[k]).pats.length q,.int .i64 (l[k]).whole,.int .i64 0])/\Zio w' p (l[k]).pats.length (fun j=>.int .u32 (atL (l[k]).pats j))/\Below v.heap.size v w'):=fun k hk v hb=>by
  have hkS:k<S.length:=oM;have e:S[k].h=l[k]:=by
   have h5:(S.map (·.h))[k]? =some (S[k]).h:=by rw[List.getElem?_map,List.getElem?_eq_getElem hkS];rfl
   rw[hS,List.getElem?_eq_getElem hk]at h5;simp only[Option.some.injEq]at h5;exact h5.symm
  have ho:=h.ok k (by rw[←h.len];exact hk) hk;have h9:=Zabc (.slice p0 n0 q0) (.slice p1 n1 q1) (.slice p2 n2 q2) (.slice p3 n3 q3) (.slice ps n2 qs) S oM k hkS (by rw[e];exact ho.2.1) (by rw[e,ho.1];exact hg.width _) v (hcs.below hb);rw[e]at h9;refine h9.mono ?_;rintro e w' ⟨p,q,rfl,h1,h2,-⟩;exact⟨p,q,rfl,h1,h2⟩
 have KQ:Hid (∀n:Int,(n<0\/(n2:Int)<=n)->∀v,Calls prog 24 #[.agg #[.slice p0 n0 q0,.slice p1 n1 q1,.slice p2 n2 q2,.slice p3 n3 q3,.slice ps n2 qs],.int .i64 n] v fun e w'=>e=.returned (.tuple #[.slice none 0 0,.int .i64 0,.int .i64 1])/\Below v.heap.size v w'):=fun n hn v=>Zadr _ _ _ _ ps n2 qs oM n hn v;have KS:Hid (∀v u u' (m:List Int),VsT (fun _=>False) v u [m]->VsT (fun _=>False) v u' [m]->m.length<=4096->Calls prog 12 #[u,u'] v fun e w'=>e=.returned (.bool true)/\Below v.heap.size v w'):=fun v u u' m h1 h2 hm=>Zvh v u u' [m] h1 h2 (by show(1:Nat)<=1048576;decide) (fun x hx=>by simp only[List.mem_singleton]at hx;subst hx;omega);have HW:Hid (∀k (hk:k<l.length),(l[k]).pats.length<=4096):=fun k hk=>by rw[(h.ok k (by rw[←h.len];exact hk) hk).1];exact hg.width _
 have HLL:Hid (l.length=n2):=hll;have HNIL:Hid (∀v:World,VsT (fun _=>False) ((v.alloc (.cells #[.slice none 0 0] 57)).alloc (.cells #[.slice none 0 0] 57)) (.slice (some ⟨v.heap.size,0,none⟩) 1 1) [[]]/\VsT (fun _=>False) ((v.alloc (.cells #[.slice none 0 0] 57)).alloc (.cells #[.slice none 0 0] 57)) (.slice (some ⟨v.heap.size+1,0,none⟩) 1 1) [[]]):=fun v=>Zxo (l:=[]) (p:=none) (p':=none) (q:=0) (q':=0) (Pt.nil _ _ _ _) (Pt.nil _ _ _ _) 57;have HC:Hid (∀v,Below (w.alloc (.cells #[.slice p0 n0 q0,.slice p1 n1 q1,.slice p2 n2 q2,.slice p3 n3 q3,.slice ps n2 qs] 38)).heap.size (w.alloc (.cells #[.slice p0 n0 q0,.slice p1 n1 q1,.slice p2 n2 q2,.slice p3 n3 q3,.slice ps n2 qs] 38)) v->v.cell? ⟨w.heap.size,0,none⟩=some (.slice p0 n0 q0)/\v.cell? ⟨w.heap.size,1,none⟩=some (.slice p1 n1 q1)/\v.cell? ⟨w.heap.size,2,none⟩=some (.slice p2 n2 q2)/\v.cell? ⟨w.heap.size,3,none⟩=some (.slice p3 n3 q3)/\v.cell? ⟨w.heap.size,4,none⟩=some (.slice ps n2 qs)/\Below w.heap.size w v):=fun v hb=>⟨kc hb sG,kc hb sG,kc hb sG,kc hb sG,kc hb sG,bel (Zhq _ _) hb⟩
 clear h hg hS hcs hll hSl r1 hn2;obtain⟨W0,hW0⟩:∃W,w.alloc (.cells #[.slice p0 n0 q0,.slice p1 n1 q1,.slice p2 n2 q2,.slice p3 n3 q3,.slice ps n2 qs] 38)=W:=⟨_,rfl⟩
 rw[hW0]at HC;have HW0:Hid _:=hW0;obtain⟨s0,s1,s2,s3,s4,hbw0⟩:=HC.out W0 (bel0 _);go_enter func9,ntmps9;go_upto_block 0 with fail;try rw[hW0]
 clear hW0;go_wp2
 go_loopw [5] (fun iv wr=>Below W0.heap.size W0 wr/\∃j:Nat,j<=n2+2/\iv=.int .i64 ((j:Int)-1)) (fun iv _=>n2+2-(intOf iv+1).toNat)
 case atStart=>exact⟨bel0 _,0,Nat.zero_le _,rfl⟩
 case round=>
  clear s0 s1 s2 s3 s4 hbw0;obtain⟨hb,j,hj,rfl⟩:=hrel;obtain⟨s0,s1,s2,s3,s4,hbw⟩:=HC.out wr hb;have HB:Hid (Below W0.heap.size W0 wr):=hb;have HBW:Hid (Below w.heap.size w wr):=hbw;by_cases hend:j=n2+2
  ·have e1:¬ ((j:Int)-1<=(n2:Int)):=oM;clear hend hb hbw;go_wp2;go_ret;exact⟨rfl,HBW.out⟩
  ·have e1:(j:Int)-1<=(n2:Int):=oM;have wi:IntKind.i64.wrap ((j:Int)-1+1)=(j:Int):=by rw[IntKind.wrap_i64];omega
   have HJ:Hid (j<n2+2):=by show _<_;omega
   by_cases hin:1<=j/\j<=n2
   ·obtain⟨k,rfl⟩:∃k,j=k+1:=⟨j-1,oM⟩
    have hkl:k<l.length:=by rw[HLL.out];omega
    have K1:=KI.out k hkl;have K2:=KR.out k hkl;have hw:=HW.out k hkl;obtain⟨hd,hhd⟩:∃x,l[k]=x:=⟨_,rfl⟩
    rw[hhd]at K1 K2 hw;obtain⟨m,hm⟩:∃n,hd.pats.length=n:=⟨_,rfl⟩
    have HM:Hid (hd.pats.length=m):=hm;rw[hm]at K1 K2;obtain⟨iz,hiz⟩:∃z:Int,((k+1:Nat):Int)-1=z:=⟨_,rfl⟩
    have hkz:(k:Int)=iz:=oM;rw[hkz]at K1 K2;rw[hiz]at e1 wi;have HIZ:Hid (((k+1:Nat):Int)-1=iz):=hiz;have HK1:Hid _:=K1;have HK2:Hid _:=K2;rw[hiz];clear hb hbw hin hkl K1 K2 hhd hm hkz hend hiz;go_wp2_with(first
     |(go_at_call 14;(with_reducible refine(HK1.out _ HBW.out).mono ?_);rintro e w1 ⟨pa,qa,rfl,hpa,hb1⟩;have HP1:Hid (Pt (fun _=>False) w1 (.slice pa m qa) hd.pats):=hpa.mono (fun _ _ e=>e.elim);have HB1:Hid (Below W0.heap.size W0 w1):=bel HB.out hb1;clear hpa hb1 s0 s1 s2 s3 s4;obtain⟨s0,s1,s2,s3,s4,hbw1⟩:=HC.out w1 HB1.out;have HBW1:Hid (Below w.heap.size w w1):=hbw1;clear hbw1)
     |(go_at_call 24;(with_reducible refine(HK2.out _ HBW1.out).mono ?_);rintro e w2 ⟨pb,qb,rfl,hrb,hb2'⟩;have HP2:Hid (Pt (fun _=>False) w2 (.slice pa hd.pats.length qa) hd.pats/\Pt (fun _=>False) w2 (.slice pb hd.pats.length qb) hd.pats):=⟨by rw[HM.out];exact HP1.out.below hb2',Zaoq (by rw[HM.out];exact hrb)⟩;have HB2:Hid (Below W0.heap.size W0 w2):=bel HB1.out hb2';clear hrb hb2' s0 s1 s2 s3 s4;obtain⟨s0,s1,s2,s3,s4,-⟩:=HC.out w2 HB2.out)
     |(go_at_call 12;(with_reducible refine(KS.out _ _ _ hd.pats (by have h9:=(Zxo HP2.out.1 HP2.out.2 57).1;rw[HM.out]at h9;exact h9) (by have h9:=(Zxo HP2.out.1 HP2.out.2 57).2;rw[HM.out]at h9;exact h9) hw).mono ?_);rintro e w4 ⟨rfl,hb4⟩;have HB4:Hid (Below W0.heap.size W0 w4):=bel (bel HB2.out (bel (Zhq _ _) (Zhq _ _))) hb4;clear hb4))
    go_roundw
    case rel=>exact⟨HB4.out,k+1+1,by have:=HJ.out;omega,by congr 1;have h9:=HIZ.out;omega⟩
    case measure=>have h9:=HIZ.out;have h8:=HJ.out;simp[intOf];omega
   ·have hbad:((j:Int)-1<0\/(n2:Int)<=(j:Int)-1):=oM;have HK1:Hid _:=KJ.out _ hbad;have HK2:Hid _:=KQ.out _ hbad;obtain⟨iz,hiz⟩:∃z:Int,(j:Int)-1=z:=⟨_,rfl⟩
    rw[hiz]at HK1 HK2 e1 wi;have HIZ:Hid ((j:Int)-1=iz):=hiz;rw[hiz];clear hb hbw hin hend hbad hiz;go_wp2_with(first
     |(go_at_call 14;(with_reducible refine(HK1.out _ HBW.out).mono ?_);rintro e w1 ⟨rfl,hb1⟩;have HB1:Hid (Below W0.heap.size W0 w1):=bel HB.out hb1;clear hb1 s0 s1 s2 s3 s4;obtain⟨s0,s1,s2,s3,s4,-⟩:=HC.out w1 HB1.out)
     |(go_at_call 24;(with_reducible refine(HK2.out _).mono ?_);rintro e w2 ⟨rfl,hb2'⟩;have HB2:Hid (Below W0.heap.size W0 w2):=bel HB1.out hb2';clear hb2' s0 s1 s2 s3 s4;obtain⟨s0,s1,s2,s3,s4,-⟩:=HC.out w2 HB2.out)
     |(go_at_call 12;(with_reducible refine(KS.out _ _ _ [] (HNIL.out w2).1 (HNIL.out w2).2 dE).mono ?_);rintro e w4 ⟨rfl,hb4⟩;have HB4:Hid (Below W0.heap.size W0 w4):=bel (bel HB2.out (bel (Zhq _ _) (Zhq _ _))) hb4;clear hb4))
    go_roundw
    case rel=>exact⟨HB4.out,j+1,by have:=HJ.out;omega,by congr 1;have h9:=HIZ.out;omega⟩
    case measure=>have h9:=HIZ.out;have h8:=HJ.out;simp[intOf];omega
theorem Zaah(v0 v1 v2 v3:Value)(c:Cd)(hz:CdSz c)(w:World)(hv:CdV w v0 v1 v2 v3 c):
 Calls prog 5 #[.agg #[v0,v1,v2,v3]] w fun e w'=>∃u0 u1 u2 u3,e=.returned (.agg #[u0,u1,u2,u3])/\CdV w' u0 u1 u2 u3 c/\Own4 w.heap.size w' u0 u1 u2 u3 c/\Below w.heap.size w w':=by
 have s0:=hz.s;have s1:=hz.r;have s2:=hz.l;have s3:=hz.i;have C0:=CW.start w v0 v1 v2 v3;obtain⟨W0,hW0⟩:∃W,((w.alloc (.cells #[v0,v1,v2,v3] 27)).alloc (.cells #[.slice none 0 0,.slice none 0 0,.slice none 0 0,.slice none 0 0] 27)).alloc (.cells #[.slice none 0 0,.slice none 0 0,.slice none 0 0,.slice none 0 0] 27)=W:=⟨_,rfl⟩
 have hE:W0.heap.size=w.heap.size+1+1+1:=by rw[←hW0];simp
 rw[hW0]at C0;have U0:Up (w.heap.size+1+1+1) W0 W0:=⟨Nat.le_refl _,fun _ _ _=>rfl⟩
 obtain⟨z0,w1,r0,b0,o0⟩:=app_Par (hv.sign.below C0.bel) oM 22;obtain⟨p0,q0,rfl⟩:=Zjl o0;have D0:=C0.app b0;have c00:=C0.c.at 0 rfl;have c01:W0.cell? ⟨w.heap.size+1+1,0,none⟩=some (.slice none 0 0):=C0.d.cell (i:=0) dE;have c02:w1.cell? ⟨w.heap.size+1+1,0,none⟩=some (.slice none 0 0):=D0.d.cell (i:=0) dE;have c03:=D0.d.frozen 0;rw[Nat.zero_add]at c00;have C1:=D0.put (y0:=(.slice p0 c.sign.length q0)) (y1:=(.slice none 0 0)) (y2:=(.slice none 0 0)) (y3:=(.slice none 0 0)) 0 (.slice p0 c.sign.length q0) Zfv;obtain⟨V1,hV1⟩:∃V,w1.setCell ⟨w.heap.size+1+1,0,none⟩ (.slice p0 c.sign.length q0)=V:=⟨_,rfl⟩
 have U1:Up (w.heap.size+1+1+1) W0 V1:=by rw[←hV1];exact(Up.of b0).trans (Up.set _ oM _ _)
 have T1:Up (w.heap.size+1+1+1) w1 V1:=by rw[←hV1];exact Up.set _ oM _ _
 have HV0:Hid (w1.setCell ⟨w.heap.size+1+1,0,none⟩ (.slice p0 c.sign.length q0)=V1):=hV1;rw[hV1]at C1;have HR0:Hid ((Builtin.append_ #[22,22] 22 #[.slice none 0 0,v0]).run prog W0=.ok (.slice p0 c.sign.length q0) w1):=r0;have e0:w.heap.size+1+1+1<=W0.heap.size:=by have:=U0.1;omega
 obtain⟨z1,w2,r1,b1,o1⟩:=app_Ty (hv.regs.below C1.bel) oM 23;obtain⟨p1,q1,rfl⟩:=Zjl o1;have D1:=C1.app b1;have c10:=C1.c.at 1 rfl;have c11:V1.cell? ⟨w.heap.size+1+1,1,none⟩=some (.slice none 0 0):=C1.d.cell (i:=1) dE;have c12:w2.cell? ⟨w.heap.size+1+1,1,none⟩=some (.slice none 0 0):=D1.d.cell (i:=1) dE;have c13:=D1.d.frozen 1;rw[Nat.zero_add]at c10;have C2:=D1.put (y0:=(.slice p0 c.sign.length q0)) (y1:=(.slice p1 c.regs.length q1)) (y2:=(.slice none 0 0)) (y3:=(.slice none 0 0)) 1 (.slice p1 c.regs.length q1) Zfv;obtain⟨V2,hV2⟩:∃V,w2.setCell ⟨w.heap.size+1+1,1,none⟩ (.slice p1 c.regs.length q1)=V:=⟨_,rfl⟩
 have U2:Up (w.heap.size+1+1+1) V1 V2:=by rw[←hV2];exact(Up.of b1).trans (Up.set _ oM _ _)
 have T2:Up (w.heap.size+1+1+1) w2 V2:=by rw[←hV2];exact Up.set _ oM _ _
 have HV1:Hid (w2.setCell ⟨w.heap.size+1+1,1,none⟩ (.slice p1 c.regs.length q1)=V2):=hV2;rw[hV2]at C2;have HR1:Hid ((Builtin.append_ #[23,23] 23 #[.slice none 0 0,v1]).run prog V1=.ok (.slice p1 c.regs.length q1) w2):=r1;have e1:w.heap.size+1+1+1<=V1.heap.size:=by have:=U1.1;omega
 obtain⟨z2,w3,r2,b2,o2⟩:=app_Sl (hv.slots.below C2.bel) oM 24;obtain⟨p2,q2,rfl⟩:=Zjl o2;have D2:=C2.app b2;have c20:=C2.c.at 2 rfl;have c21:V2.cell? ⟨w.heap.size+1+1,2,none⟩=some (.slice none 0 0):=C2.d.cell (i:=2) dE;have c22:w3.cell? ⟨w.heap.size+1+1,2,none⟩=some (.slice none 0 0):=D2.d.cell (i:=2) dE;have c23:=D2.d.frozen 2;rw[Nat.zero_add]at c20;have C3:=D2.put (y0:=(.slice p0 c.sign.length q0)) (y1:=(.slice p1 c.regs.length q1)) (y2:=(.slice p2 c.slots.length q2)) (y3:=(.slice none 0 0)) 2 (.slice p2 c.slots.length q2) Zfv;obtain⟨V3,hV3⟩:∃V,w3.setCell ⟨w.heap.size+1+1,2,none⟩ (.slice p2 c.slots.length q2)=V:=⟨_,rfl⟩
 have U3:Up (w.heap.size+1+1+1) V2 V3:=by rw[←hV3];exact(Up.of b2).trans (Up.set _ oM _ _)
 have T3:Up (w.heap.size+1+1+1) w3 V3:=by rw[←hV3];exact Up.set _ oM _ _
 have HV2:Hid (w3.setCell ⟨w.heap.size+1+1,2,none⟩ (.slice p2 c.slots.length q2)=V3):=hV3;rw[hV3]at C3;have HR2:Hid ((Builtin.append_ #[24,24] 24 #[.slice none 0 0,v2]).run prog V2=.ok (.slice p2 c.slots.length q2) w3):=r2;have e2:w.heap.size+1+1+1<=V2.heap.size:=by have:=U2.1;omega
 obtain⟨z3,w4,r3,b3,o3⟩:=app_ins (hv.list.below C3.bel) oM 25;obtain⟨p3,q3,rfl⟩:=Zjl o3;have D3:=C3.app b3;have c30:=C3.c.at 3 rfl;have c31:V3.cell? ⟨w.heap.size+1+1,3,none⟩=some (.slice none 0 0):=C3.d.cell (i:=3) dE;have c32:w4.cell? ⟨w.heap.size+1+1,3,none⟩=some (.slice none 0 0):=D3.d.cell (i:=3) dE;have c33:=D3.d.frozen 3;rw[Nat.zero_add]at c30;have C4:=D3.put (y0:=(.slice p0 c.sign.length q0)) (y1:=(.slice p1 c.regs.length q1)) (y2:=(.slice p2 c.slots.length q2)) (y3:=(.slice p3 c.list.length q3)) 3 (.slice p3 c.list.length q3) Zfv;obtain⟨V4,hV4⟩:∃V,w4.setCell ⟨w.heap.size+1+1,3,none⟩ (.slice p3 c.list.length q3)=V:=⟨_,rfl⟩
 have U4:Up (w.heap.size+1+1+1) V3 V4:=by rw[←hV4];exact(Up.of b3).trans (Up.set _ oM _ _)
 have T4:Up (w.heap.size+1+1+1) w4 V4:=by rw[←hV4];exact Up.set _ oM _ _
 have HV3:Hid (w4.setCell ⟨w.heap.size+1+1,3,none⟩ (.slice p3 c.list.length q3)=V4):=hV4;rw[hV4]at C4;have HR3:Hid ((Builtin.append_ #[25,25] 25 #[.slice none 0 0,v3]).run prog V3=.ok (.slice p3 c.list.length q3) w4):=r3;have e3:w.heap.size+1+1+1<=V3.heap.size:=by have:=U3.1;omega
 have U5:Up (w.heap.size+1+1+1) V4 ((((V4.setCell ⟨w.heap.size+1,0,none⟩ (.slice p0 c.sign.length q0)).setCell ⟨w.heap.size+1,1,none⟩ (.slice p1 c.regs.length q1)).setCell ⟨w.heap.size+1,2,none⟩ (.slice p2 c.slots.length q2)).setCell ⟨w.heap.size+1,3,none⟩ (.slice p3 c.list.length q3)):=(((Up.set _ oM _ _).trans (Up.set _ oM _ _)).trans (Up.set _ oM _ _)).trans (Up.set _ oM _ _);have HF:Hid (CdV ((((V4.setCell ⟨w.heap.size+1,0,none⟩ (.slice p0 c.sign.length q0)).setCell ⟨w.heap.size+1,1,none⟩ (.slice p1 c.regs.length q1)).setCell ⟨w.heap.size+1,2,none⟩ (.slice p2 c.slots.length q2)).setCell ⟨w.heap.size+1,3,none⟩ (.slice p3 c.list.length q3)) (.slice p0 c.sign.length q0) (.slice p1 c.regs.length q1) (.slice p2 c.slots.length q2) (.slice p3 c.list.length q3) c/\Own4 w.heap.size (((((V4.setCell ⟨w.heap.size+1,0,none⟩ (.slice p0 c.sign.length q0)).setCell ⟨w.heap.size+1,1,none⟩ (.slice p1 c.regs.length q1)).setCell ⟨w.heap.size+1,2,none⟩ (.slice p2 c.slots.length q2)).setCell ⟨w.heap.size+1,3,none⟩ (.slice p3 c.list.length q3))) (.slice p0 c.sign.length q0) (.slice p1 c.regs.length q1) (.slice p2 c.slots.length q2) (.slice p3 c.list.length q3) c/\Below w.heap.size w ((((V4.setCell ⟨w.heap.size+1,0,none⟩ (.slice p0 c.sign.length q0)).setCell ⟨w.heap.size+1,1,none⟩ (.slice p1 c.regs.length q1)).setCell ⟨w.heap.size+1,2,none⟩ (.slice p2 c.slots.length q2)).setCell ⟨w.heap.size+1,3,none⟩ (.slice p3 c.list.length q3))):=by
  have g0:=((((T1.trans U2).trans U3).trans U4).trans U5).own o0 e0;have g1:=(((T2.trans U3).trans U4).trans U5).own o1 e1;have g2:=((T3.trans U4).trans U5).own o2 e2;have g3:=(T4.trans U5).own o3 e3;refine⟨⟨Zny Zsx g0,Zny Zsa g1,Zny Zuc g2,Zny Zqf g3⟩,⟨Zmv g0 oM,Zmv g1 oM,Zmv g2 oM,Zmv g3 oM⟩,?_⟩;exact(((C4.bel.setCell Zfp _).setCell Zfp _).setCell Zfp _).setCell Zfp _
 have m0:V4.cell? ⟨w.heap.size+1+1,0,none⟩=some (.slice p0 c.sign.length q0):=C4.d.cell (i:=0) dE;have m1:V4.cell? ⟨w.heap.size+1+1,1,none⟩=some (.slice p1 c.regs.length q1):=C4.d.cell (i:=1) dE;have m2:V4.cell? ⟨w.heap.size+1+1,2,none⟩=some (.slice p2 c.slots.length q2):=C4.d.cell (i:=2) dE;have m3:V4.cell? ⟨w.heap.size+1+1,3,none⟩=some (.slice p3 c.list.length q3):=C4.d.cell (i:=3) dE;have k0:V4.cell? ⟨w.heap.size+1,0,none⟩=some (.slice none 0 0):=C4.r.cell (i:=0) dE;have k1:V4.cell? ⟨w.heap.size+1,1,none⟩=some (.slice none 0 0):=C4.r.cell (i:=1) dE;have k2:V4.cell? ⟨w.heap.size+1,2,none⟩=some (.slice none 0 0):=C4.r.cell (i:=2) dE;have k3:V4.cell? ⟨w.heap.size+1,3,none⟩=some (.slice none 0 0):=C4.r.cell (i:=3) dE;have y0:=C4.r.frozen 0;have y1:=C4.r.frozen 1;have y2:=C4.r.frozen 2;have y3:=C4.r.frozen 3;have HW:Hid (((w.alloc (.cells #[v0,v1,v2,v3] 27)).alloc (.cells #[.slice none 0 0,.slice none 0 0,.slice none 0 0,.slice none 0 0] 27)).alloc (.cells #[.slice none 0 0,.slice none 0 0,.slice none 0 0,.slice none 0 0] 27)=W0):=hW0;clear C0 C1 C2 C3 C4 D0 D1 D2 D3 U0 U1 U2 U3 U4 U5 T1 T2 T3 T4 o0 o1 o2 o3 b0 b1 b2 b3 r0 r1 r2 r3 hv hz hV1 hV2 hV3 hV4 hW0 e0 e1 e2 e3 hE;go_enter func5,ntmps5;go_upto_region 2 with fail;rw[HW.out];go_upto_region 3 with(at_builtin;refine Zit rF _ _ _ rF _ _ _ rF rF HR0.out ?_)
 rw[HV0.out];go_upto_region 4 with(at_builtin;refine Zit rF _ _ _ rF _ _ _ rF rF HR1.out ?_)
 rw[HV1.out];go_upto_region 5 with(at_builtin;refine Zit rF _ _ _ rF _ _ _ rF rF HR2.out ?_)
 rw[HV2.out];go_upto_region 6 with(at_builtin;refine Zit rF _ _ _ rF _ _ _ rF rF HR3.out ?_)
 rw[HV3.out];go_wp2;refine bodyPost_ret (by simp[results,results5,go_sem, *];try rfl) rfl ?_;exact⟨_,_,_,_,rfl,HF.out.1,HF.out.2.1,HF.out.2.2⟩

def Zsm:ByteArray:=⟨#[119]⟩
def Zjd(k:Int):Cd:=⟨[⟨Zsm,1,2⟩],[⟨3,0⟩,⟨1,0⟩,⟨2,0⟩],[⟨⟨2,0⟩,true,0,k⟩],[⟨29,0,0,0,0,0,0⟩,⟨1,1,0,0,0,0,1056964608⟩,⟨6,0,0,1,0,0,0⟩,⟨31,0,0,0,0,0,0⟩,⟨32,2,0,0,0,0,0⟩,⟨21,2,2,0,0,0,0⟩,⟨33,0,2,0,0,0,0⟩]⟩
theorem Zahp(k:Int)(h0:0<=k)(h1:k<=2147483647):Zkw (Zjd k)=0:=by
 have e1:Ziz (Zjd k).sign=0:=by show Ziz [⟨Zsm,1,2⟩]=0;decide+kernel
 have e2:Zkc (Zjd k)=true:=by
  unfold Zkc Zjd;simp[Zjh,Zil,Znk,Zlv,h0,h1]
 have e3:Zif (Zjd k)=true:=by
  unfold Zif Zjd;simp[Zil,isPl]
 unfold Zkw;rw[if_neg (by simp[e1]),if_neg (by show¬ (16384<3\/32768<7);decide),if_neg (by show¬ (4096<1);decide),e2,e3];rfl
theorem Zoj(k:Int)(h0:0<=k)(h1:k<=2147483647):(Zik (Zjd k)).1=0:=by
 rw[Zzh];exact⟨Zahp k h0 h1,rF,rF⟩
theorem Zxv(k:Int):CdOk (Zjd k):=by
 refine⟨by show(1:Nat)<=_;decide,fun p hp=>?_,by show(3:Nat)<=_;decide,by show(1:Nat)<=_;decide,by show(7:Nat)<=_;decide,fun s hs=>?_,fun i hi=>?_⟩
 ·simp[Zjd]at hp;rw[hp];decide
 ·simp[Zjd]at hs;rw[hs];show(0:Int)<=0/\(0:Int)<4294967296;decide
 ·simp[Zjd]at hi;rcases hi with e|e|e|e|e|e|e<;>rw[e]<;>decide
theorem Zahi(k:Int):Zjm (Zjd k)=[⟨[],k⟩]:=rF
theorem Zahw(k y:Int)(G P:List (List Int)):(endJ (Zjd k) [⟨[],y⟩] G P).slots=[⟨[],min y 2147483646+1⟩]:=rF
theorem Zakv(k:Int)(x y:Int):Zly (Zjd k) [[x,y]] [[x,y]]=true:=rF
theorem Zahf(k:Int):Zly (Zjd k) [] []=false:=rF
theorem Zaog:updP (Zjd 4) (endJ (Zjd 4) [⟨[],4⟩] [[1073741824,1065353216]] [[1073741824,1065353216]])=[[1065353216,1056964608]]:=by decide+kernel
structure Zacz(w:World)(g:Nat):Prop where
 sign:w.rowIs g 66 3 (fun j=>if j=0 then .string Zsm else if j=1 then .int .i64 1 else .int .i64 2)
 regs:RowG 2 tyC w (.slice (some ⟨g+1,0,none⟩) 3 3) (Zjd 4).regs
 slots:w.rowIs (g+2) 72 5 (fun j=>if j=0 then .int .i64 2 else if j=1 then .int .i64 0 else if j=2 then .bool true else if j=3 then .int .u32 0 else .int .i64 4)
 list:RowG 7 inC w (.slice (some ⟨g+3,0,none⟩) 7 7) (Zjd 4).list
theorem Zvg{α:Type}{k:Nat}{f:α->List Value}(hf:∀x,(f x).length=k){l:List α}(w:World)(cs:Array Value)(t:TypeId)(h:cs.toList=flat f l)(c:Nat):RowG k f (w.alloc (.cells cs t)) (.slice (some ⟨w.heap.size,0,none⟩) l.length c) l:=by
 refine⟨_,_,rfl,.inr ⟨w.heap.size,0,rfl,fun i hi j hj=>?_⟩⟩;have hj':j<k:=by rw[←hf l[i]];exact hj
 have h1:=Zui hf l i j hi hj';rw[←h]at h1;have h2:cs[0+i*k+j]? =some (f l[i])[j]:=by
  rw[Nat.zero_add,←Array.getElem?_toList,h1,List.getElem?_eq_getElem hj]
 have h3:(w.alloc (.cells cs t)).heap[w.heap.size]? =some (.cells cs t (0,0)):=heap_alloc_new w _;unfold World.cell?;simp only[h3];exact h2
theorem Zapu(w:World):Calls prog 23 #[] w fun e w'=>e=.returned (.agg #[.slice (some ⟨w.heap.size+1,0,none⟩) 1 1,.slice (some ⟨w.heap.size+2,0,none⟩) 3 3,.slice (some ⟨w.heap.size+3,0,none⟩) 1 1,.slice (some ⟨w.heap.size+4,0,none⟩) 7 7])/\Below w.heap.size w w'/\Zacz w' (w.heap.size+1)/\w'.heap.size=w.heap.size+5:=by
 go_enter func23,ntmps23;go_wp2;refine bodyPost_ret (by simp[results,results23,go_sem];try rfl) rfl ?_;refine⟨rfl,gG,?_,sM⟩;obtain⟨W0,hW0⟩:∃W0,w.alloc (.cells #[.slice (some ⟨w.heap.size+1,0,none⟩) 1 1,.slice (some ⟨w.heap.size+1+1,0,none⟩) 3 3,.slice (some ⟨w.heap.size+1+1+1,0,none⟩) 1 1,.slice (some ⟨w.heap.size+1+1+1+1,0,none⟩) 7 7] 27)=W0:=⟨_,rfl⟩
 have hs:W0.heap.size=w.heap.size+1:=by rw[←hW0];simp
 rw[hW0,←hs];clear hW0;have e1:∀o,(W0.alloc o).heap.size=W0.heap.size+1:=fun o=>by simp
 have e2:∀o o',((W0.alloc o).alloc o').heap.size=W0.heap.size+2:=fun o o'=>by simp
 have e3:∀o o' o'',(((W0.alloc o).alloc o').alloc o'').heap.size=W0.heap.size+3:=fun o o' o''=>by simp
 refine⟨?_,?_,?_,?_⟩
 ·refine World.rowIs.alloc (World.rowIs.alloc (World.rowIs.alloc (World.rowIs_alloc W0 #[.string Zsm,.int .i64 1,.int .i64 2] 66 _ fun i hi=>?_) _) _) _;have hi':i<3:=hi;obtain rfl|rfl|rfl:i=0\/i=1\/i=2:=oM
  all_goals rfl
 ·rw[←e1 (.cells #[.string Zsm,.int .i64 1,.int .i64 2] 66)];exact((Zvg (l:=(Zjd 4).regs) Zsa _ _ _ rF 3).below (Zhq _ _)).below (Zhq _ _)
 ·rw[←e2 (.cells #[.string Zsm,.int .i64 1,.int .i64 2] 66) (.cells #[.int .i64 3,.int .i64 0,.int .i64 1,.int .i64 0,.int .i64 2,.int .i64 0] 69)];refine World.rowIs.alloc (World.rowIs_alloc _ #[.int .i64 2,.int .i64 0,.bool true,.int .u32 0,.int .i64 4] 72 _ fun i hi=>?_) _;have hi':i<5:=hi;obtain rfl|rfl|rfl|rfl|rfl:i=0\/i=1\/i=2\/i=3\/i=4:=oM
  all_goals rfl
 ·rw[←e3 (.cells #[.string Zsm,.int .i64 1,.int .i64 2] 66) (.cells #[.int .i64 3,.int .i64 0,.int .i64 1,.int .i64 0,.int .i64 2,.int .i64 0] 69) (.cells #[.int .i64 2,.int .i64 0,.bool true,.int .u32 0,.int .i64 4] 72)];exact Zvg (l:=(Zjd 4).list) Zqf _ _ _ rF 7
theorem Zalm{w:World}{g:Nat}(h:Zacz w g){k:Int}{v:World}(hb:∀b,b≠g+2->b<w.heap.size->v.heap[b]? =w.heap[b]?)(hs:v.rowIs (g+2) 72 5 (fun j=>if j=0 then .int .i64 2 else if j=1 then .int .i64 0 else if j=2 then .bool true else if j=3 then .int .u32 0 else .int .i64 k)):
 CdV v (.slice (some ⟨g,0,none⟩) 1 1) (.slice (some ⟨g+1,0,none⟩) 3 3) (.slice (some ⟨g+2,0,none⟩) 1 1) (.slice (some ⟨g+3,0,none⟩) 7 7) (Zjd k):=by
 have keep:∀ {k n:Nat} {α:Type} {f:α->List Value} {l:List α} {b:Nat},b≠g+2->RowG k f w (.slice (some ⟨b,0,none⟩) n n) l->RowG k f v (.slice (some ⟨b,0,none⟩) n n) l:=by
  intro k n α f l b hne hr;obtain⟨p,c,hv,hh⟩:=hr;refine⟨p,c,hv,?_⟩;rcases hh with e|⟨b',o',hp,hc⟩
  ·exact .inl e
  ·refine .inr ⟨b',o',hp,fun i hi j hj=>?_⟩;simp only[Value.slice.injEq]at hv;obtain⟨rfl,-,-⟩:=hv;simp only[Option.some.injEq,Addr.mk.injEq]at hp;obtain⟨rfl,rfl,-⟩:=hp;have h1:=hc i hi j hj;have h2:=Zhr h1;exact(World.cell?_of_block (hb _ hne h2)).trans h1
 have hsg:=h.sign.of_block (hb g oM h.sign.lt);refine⟨?_,keep oM h.regs,?_,keep oM h.list⟩
 ·refine⟨_,_,rfl,.inr ⟨g,0,rfl,fun i hi j hj=>?_⟩⟩;have hi0:i=0:=by have:i<1:=hi;omega
  subst hi0;have hj':j<3:=hj;have:=hsg.cell hj';obtain rfl|rfl|rfl:j=0\/j=1\/j=2:=oM
  all_goals exact this
 ·refine⟨_,_,rfl,.inr ⟨g+2,0,rfl,fun i hi j hj=>?_⟩⟩;have hi0:i=0:=by have:i<1:=hi;omega
  subst hi0;have hj':j<5:=hj;have:=hs.cell hj';obtain rfl|rfl|rfl|rfl|rfl:j=0\/j=1\/j=2\/j=3\/j=4:=oM
  all_goals exact this

end Go.Proofs.YtbinohkcolcbfaaGreat
