import Derived.Test.YtchbjcldkcfffaaAgain1
import Derived.Test.YtchbjcldkcfffaaAgain6
import Derived.Test.YtchbjcldkcfffaaAgain5
import Derived.Test.YtchbjcldkcfffaaAgain4
import Derived.Lib.SliceRun
import Derived.Deep.DeepCutAuto
namespace Go.Proofs.Ytchbjcldkcfffaa
open Go.RowKit Go.Proofs.Try
set_option linter.all false
set_option maxRecDepth 100000
set_option maxHeartbeats 16000000
theorem Ib{E:Nat}{w:World}{p:Option Addr}{n q:Nat}{xs:List Value}(h:w.ownsRow E 40 7 (.slice p n q) n xs)(hz:n=0->p=none/\q=0):
 ∃LB N0 f,E<=LB/\(LB<w.heap.size\/LB=E)/\(0<n->p=some ⟨LB,0,none⟩)/\(N0=0\/w.rowIs LB 40 N0 f)/\n*7<=N0/\(∀o,o<n*7->xs[o]? =some (f o))/\(∀ (w':World) (f':Nat->Value),(N0=0\/w'.rowIs LB 40 N0 f')->∀ys:List Value,ys.length=n*7->(∀o,o<n*7->ys[o]? =some (f' o))->w'.ownsRow E 40 7 (.slice p n q) n ys):=by
 obtain⟨hl,h⟩:=h;rcases h with⟨e,h0⟩|⟨g,cap,cur,hv,hB,hg,hc1,hc2,hsz,htk⟩
 ·subst h0;simp only[Value.slice.injEq]at e;obtain⟨rfl,-,rfl⟩:=e;exact⟨E,0,fun _=>undef,Nat.le_refl _,.inr rfl,fun h=>absurd h oM,.inl rfl,oM,fun o h=>absurd h oM,fun w' f' _ ys hy _=>⟨hy,.inl ⟨rfl,rfl⟩⟩⟩
 ·simp only[Value.slice.injEq]at hv;obtain⟨rfl,-,rfl⟩:=hv;have hn0:0<n:=Nat.pos_of_ne_zero fun e=>by cases(hz e).1
  have hle:=Nat.mul_le_mul_right 7 hc1;have hcu:∀i,i<q*7->cur[i]? =some ((cur[i]?).getD undef):=fun i hi=>by rw[Array.getElem?_eq_getElem oM];simp
  refine⟨g,q*7,fun o=>(cur[o]?).getD undef,hB,.inl (by rcases Nat.lt_or_ge g w.heap.size with c|c;exact c;rw[Array.getElem?_eq_none c]at hg;cases hg),fun _=>rfl,.inr ⟨cur,hg,hsz,hcu⟩,hle,fun o ho=>?_,fun w' f' hw ys hy hx=>⟨hy,.inr ?_⟩⟩
  ·rw[←htk,List.getElem?_take_of_lt ho,←hcu o oM];simp
  ·rcases hw with h9|⟨c2,h9,h8,h7⟩
   ·exact absurd h9 oM
   ·refine⟨g,q,c2,rfl,hB,h9,hc1,hc2,h8,List.ext_getElem? fun o=>?_⟩;by_cases ho:o<n*7
    ·rw[List.getElem?_take_of_lt ho,hx o ho];have:=h7 o oM;simpa using this
    ·rw[List.getElem?_eq_none sO,List.getElem?_eq_none oM]
theorem Dc{t:TypeId}{n b:Nat}{z:Value}:∀ (m o:Nat) (w:World) (f:Nat->Value),w.rowIs b t n f->(w.setCells b o (List.replicate m z)).rowIs b t n (fun j=>if o<=j/\j<o+m then z else f j)
 |0,o,w,f,h=>h.congr fun j hj=>by rw[if_neg oM]
 |m+1,o,w,f,h=>by
  have ih:=Dc (z:=z) m (o+1) (w.setCell ⟨b,o,none⟩ z) _ (h.set o z);refine ih.congr fun j hj=>?_;by_cases e:j=o
  ·rw[if_neg oM,if_pos e,if_pos oM]
  ·by_cases e2:o+1<=j/\j<o+1+m
   ·rw[if_pos e2,if_pos oM]
   ·rw[if_neg e2,if_neg e,if_neg oM]
theorem CB{b:Nat}{z:Value}:∀ (m o:Nat) (w:World),(∀b',b'≠b->(w.setCells b o (List.replicate m z)).heap[b']? =w.heap[b']?)/\(w.setCells b o (List.replicate m z)).heap.size=w.heap.size/\Below 0 w (w.setCells b o (List.replicate m z))
 |0,o,w=>⟨fun _ _=>rfl,rfl,Below.refl 0 w⟩
 |m+1,o,w=>by
  obtain⟨h1,h2,h3⟩:=CB (z:=z) m (o+1) (w.setCell ⟨b,o,none⟩ z);exact⟨fun b' hb=>(h1 b' hb).trans (Below.heap_setCell _ _ _ _ hb),h2.trans sM,((Below.refl 0 w).setCell (Nat.zero_le _) z).trans h3⟩
theorem HG:∀w,(zeroValue 4).run prog w=.ok (.bool false) w:=fun w=>by
 obtain⟨i0,hi0,hz0,hz1,hz2⟩:=info_parts Ez;simp[zeroValue,typeInfo,hi0,hz0]
theorem H4{u:World}{IB K:Nat}{g:Nat->Value}(h:u.rowIs IB 4 K g):∃W,(∀ty,(Builtin.clear_ #[47] ty #[.slice (some ⟨IB,0,none⟩) K K]).run prog u=.ok (.tuple #[]) W)/\W.rowIs IB 4 K (fun _=>.bool false)/\(∀b,b≠IB->W.heap[b]? =u.heap[b]?)/\W.heap.size=u.heap.size/\Below 0 u W:=by
 by_cases hK:0<K
 ·obtain⟨o1,o2,o3⟩:=CB (b:=IB) (z:=.bool false) K 0 u;refine⟨u.setCells IB 0 (List.replicate K (.bool false)),fun ty=>Lib.run_clear_slice u 47 4 ty (.bool false) underlying47 HG rfl rfl IB 0 K K hK (fun j hj=>by rw[Nat.zero_add,h.cell hj];rfl) (fun j hj=>by rw[Nat.zero_add];exact h.frozen j),(Dc K 0 u g h).congr fun j hj=>if_pos ⟨Nat.zero_le _,oM⟩,o1,o2,o3⟩
 ·have e:K=0:=oM;subst e;exact⟨u,fun ty=>by simp[Builtin.clear_,run_underlying underlying47],h.congr fun j hj=>absurd hj oM,fun _ _=>rfl,rfl,Below.refl 0 u⟩
theorem GY{E IB:Nat}{u W:World}(hI:E<=IB)(ho:∀b,b≠IB->W.heap[b]? =u.heap[b]?)(hb:Below 0 u W):Below E u W:=⟨hb.os,hb.tape,hb.output,hb.size,fun k hk=>ho k oM⟩
theorem Dp(v0 v1 v2 v3:Value)(c:Cd)(hk:Bl c)(w:World)(hv:CY w v0 v1 v2 v3 c)(hc:(Aj c).1≠0):
 Calls prog 6 #[.agg #[v0,v1,v2,v3]] w fun e w'=>e=.returned (.tuple #[.agg #[.slice none 0 0,.slice none 0 0,.slice none 0 0,.slice none 0 0],.int .i64 160])/\Below w.heap.size w w':=by
 have KC:Hid (∀v,Below w.heap.size w v->Calls prog 10 #[.agg #[v0,v1,v2,v3]] v fun e w'=>e=.returned (.tuple #[.int .i64 (Aj c).1,.int .i64 (Aj c).2])/\Below v.heap.size v w'):=fun v hvv=>Ex v0 v1 v2 v3 c hk v (hv.below hvv);obtain⟨e1,he1⟩:∃e1,(Aj c).1=e1:=⟨_,rfl⟩
 obtain⟨e2,he2⟩:∃e2,(Aj c).2=e2:=⟨_,rfl⟩
 rw[he1]at hc KC;rw[he2]at KC;have n1:(e1 != 0)=true:=by simpa using hc
 have n2:(e1==0)=false:=by simpa using hc
 obtain⟨p0,q0,rfl⟩:∃p q,v0=.slice p c.sign.length q:=by obtain⟨p,q,e,_⟩:=hv.sign;exact⟨p,q,e⟩
 obtain⟨p1,q1,rfl⟩:∃p q,v1=.slice p c.regs.length q:=by obtain⟨p,q,e,_⟩:=hv.regs;exact⟨p,q,e⟩
 obtain⟨p2,q2,rfl⟩:∃p q,v2=.slice p c.slots.length q:=by obtain⟨p,q,e,_⟩:=hv.slots;exact⟨p,q,e⟩
 obtain⟨p3,q3,rfl⟩:∃p q,v3=.slice p c.list.length q:=by obtain⟨p,q,e,_⟩:=hv.list;exact⟨p,q,e⟩
 obtain⟨W0,hW0⟩:∃W,(w.alloc (.cells #[.slice p0 c.sign.length q0,.slice p1 c.regs.length q1,.slice p2 c.slots.length q2,.slice p3 c.list.length q3] 27)).alloc (.cells #[.slice none 0 0,.slice none 0 0,.slice none 0 0,.slice none 0 0] 27)=W:=⟨_,rfl⟩
 have HB0:Hid (Below w.heap.size w W0):=by rw[←hW0];exact bel (A0 _ _) (A0 _ _)
 have b0:W0.cell? ⟨w.heap.size,0,none⟩=some (.slice p0 c.sign.length q0):=by rw[←hW0];simp[go_sem]
 have b1:W0.cell? ⟨w.heap.size,1,none⟩=some (.slice p1 c.regs.length q1):=by rw[←hW0];simp[go_sem]
 have b2:W0.cell? ⟨w.heap.size,2,none⟩=some (.slice p2 c.slots.length q2):=by rw[←hW0];simp[go_sem]
 have b3:W0.cell? ⟨w.heap.size,3,none⟩=some (.slice p3 c.list.length q3):=by rw[←hW0];simp[go_sem]
 have HR:Hid (W0.rowIs (w.heap.size+1) 27 4 (BH #[.slice none 0 0,.slice none 0 0,.slice none 0 0,.slice none 0 0])):=by
  show World.rowIs _ _ _ _ _;rw[←hW0];have h9:=AH (w.alloc (.cells #[.slice p0 c.sign.length q0,.slice p1 c.regs.length q1,.slice p2 c.slots.length q2,.slice p3 c.list.length q3] 27)) #[.slice none 0 0,.slice none 0 0,.slice none 0 0,.slice none 0 0] 27;rw[show(w.alloc (.cells #[.slice p0 c.sign.length q0,.slice p1 c.regs.length q1,.slice p2 c.slots.length q2,.slice p3 c.list.length q3] 27)).heap.size=w.heap.size+1 by simp]at h9;exact h9
 clear hv hk he1 he2;go_enter func6,ntmps6;go_upto_region 1 with fail;try rw[hW0]
 go_wp2_with(go_at_call 10;refine(KC.out _ HB0.out).mono ?_;rintro e w1 ⟨rfl,hb1⟩;have HB1:=A2 hb1;have HR1:=A2 (HR.out.of_block (hb1.block _ HR.out.lt));have r0:w1.cell? ⟨w.heap.size+1,0,none⟩=some (.slice none 0 0):=HR1.out.cell (i:=0) dE;have r1:w1.cell? ⟨w.heap.size+1,1,none⟩=some (.slice none 0 0):=HR1.out.cell (i:=1) dE;have r2:w1.cell? ⟨w.heap.size+1,2,none⟩=some (.slice none 0 0):=HR1.out.cell (i:=2) dE;have r3:w1.cell? ⟨w.heap.size+1,3,none⟩=some (.slice none 0 0):=HR1.out.cell (i:=3) dE;have f0:=HR1.out.frozen 0;have f1:=HR1.out.frozen 1;have f2:=HR1.out.frozen 2;have f3:=HR1.out.frozen 3;clear hb1);refine bodyPost_ret (by simp[results,results6,go_sem, *];try rfl) rfl ?_;have hle:w.heap.size<=w.heap.size+1:=Nat.le_succ _;exact⟨rfl,((((bel HB0.out HB1.out).setCell hle _).setCell hle _).setCell hle _).setCell hle _⟩
theorem BQ(v0 v1 v2 v3:Value)(c:Cd)(hk:Bl c)(w:World)(hv:CY w v0 v1 v2 v3 c)(hc:(Aj c).1=0):
 Calls prog 6 #[.agg #[v0,v1,v2,v3]] w fun e w'=>∃u0 u1 u2 u3,e=.returned (.tuple #[.agg #[u0,u1,u2,u3],.int .i64 0])/\CY w' u0 u1 u2 u3 (pruneC c)/\Kq w.heap.size w' u0 u1 u2 u3 (pruneC c)/\Below w.heap.size w w':=by
 obtain⟨hg,htk⟩:=DJ hc;have KC:Hid (∀v,Below w.heap.size w v->Calls prog 10 #[.agg #[v0,v1,v2,v3]] v fun e w'=>e=.returned (.tuple #[.int .i64 0,.int .i64 (Aj c).2])/\Below v.heap.size v w'):=fun v hvv=>by have:=Ex v0 v1 v2 v3 c hk v (hv.below hvv);rw[hc]at this;exact this
 obtain⟨e2,he2⟩:∃e2,(Aj c).2=e2:=⟨_,rfl⟩
 rw[he2]at KC;have K0:Hid (∀v,Below w.heap.size w v->Calls prog 16 #[v0] v fun e w'=>∃p d,e=.returned (.slice p c.sign.length d)/\w'.ownsRow v.heap.size 42 3 (.slice p c.sign.length d) c.sign.length (Al Az c.sign)/\Below v.heap.size v w'):=fun v hvv=>(H5 v0 c.sign v (hv.sign.below hvv) (by have:=hg.signL;omega)).mono fun e w' ⟨p,d,h1,h2,h4,h3⟩=>⟨p,d,h1,h4,h3⟩
 have HVV:=A2 hv;obtain⟨p0,q0,rfl⟩:∃p q,v0=.slice p c.sign.length q:=by obtain⟨p,q,e,_⟩:=hv.sign;exact⟨p,q,e⟩
 obtain⟨p1,q1,rfl⟩:∃p q,v1=.slice p c.regs.length q:=by obtain⟨p,q,e,_⟩:=hv.regs;exact⟨p,q,e⟩
 obtain⟨p2,q2,rfl⟩:∃p q,v2=.slice p c.slots.length q:=by obtain⟨p,q,e,_⟩:=hv.slots;exact⟨p,q,e⟩
 obtain⟨p3,q3,rfl⟩:∃p q,v3=.slice p c.list.length q:=by obtain⟨p,q,e,_⟩:=hv.list;exact⟨p,q,e⟩
 have hL1:=hg.listL;have hR1:=hg.regsL;have hS1:=hg.slotsL;have KN:Hid (∀ (v:World),Below w.heap.size w v->∀C,v.cell? ⟨C,1,none⟩=some (.slice p1 c.regs.length q1)->v.cell? ⟨C,2,none⟩=some (.slice p2 c.slots.length q2)->v.cell? ⟨C,3,none⟩=some (.slice p3 c.list.length q3)->Calls prog 11 #[.pointer (some ⟨C,0,none⟩)] v fun e w'=>∃p q,e=.returned (.slice p (ndL c).length q)/\w'.ownsRow v.heap.size 40 7 (.slice p (ndL c).length q) (ndL c).length (Al AS (ndL c))/\((ndL c).length=0->p=none/\q=0)/\Below v.heap.size v w'):=fun v hb C h1 h2 h3=>Gi c hc v C p1 p2 p3 q1 q2 q3 hR1 hS1 hL1 h1 h2 h3 (hv.list.below hb);have HRA:Hid (∀v,Below w.heap.size w v->AI 2 DH v (.slice p1 c.regs.length q1) c.regs):=fun v hb=>hv.regs.below hb;have HSA:Hid (∀v,Below w.heap.size w v->AI 5 Eu v (.slice p2 c.slots.length q2) c.slots):=fun v hb=>hv.slots.below hb;have HNL:Hid ((ndL c).length<=32768):=by have h9:(ndL c).length<=c.list.length:=Cz _ _ _ _;show _<=_;omega
 have HFIN:Hid (Aq (DD (AD (ndL c) (ndL c).length) (AQ (ndL c))) c.regs=(pruneC c).regs/\Aq (DD (AF (ndL c) (ndL c).length) (AQ (ndL c))) c.slots=(pruneC c).slots/\(pruneC c).sign=c.sign):=⟨by rw[funext (Lk hc)];rfl,by rw[funext (Ll hc)];rfl,rfl⟩
 have HVR:=A2 (fun o (ho:o∈AD (ndL c) (ndL c).length)=>Kn hc ho);have HVS:=A2 (fun o (ho:o∈AF (ndL c) (ndL c).length)=>Ko hc (Ad (usR c.list)) ho);have HFR:=A2 (fun f hf o ho=>Lf hc f hf o ho);have HFS:=A2 (fun f hf o ho=>Lg hc (Ad (usR c.list)) f hf o ho);have HPL:=A2 (Gl hc);obtain⟨l,hl⟩:∃l,ndL c=l:=⟨_,rfl⟩
 simp only[hl]at KN HNL HFIN HVR HVS HFR HFS HPL;obtain⟨l1,hl1⟩:∃l1,l.map (Ds (Ad (usR c.list)))=l1:=⟨_,rfl⟩
 simp only[hl1]at HVS HFR HFS HPL;have HL1:Hid (l1.length=l.length/\AF l1 l1.length=AF l l.length):=by
  rw[←hl1];refine⟨List.length_map ..,?_⟩;rw[List.length_map];exact Fm (Ds (Ad (usR c.list))) (fun _=>rfl) l _
 obtain⟨n,hn⟩:∃n,l.length=n:=⟨_,rfl⟩
 have HLN:=A2 hn;simp only[hn]at KN HNL HVR HVS HFR HFS HL1 HFIN;obtain⟨N0,hN0⟩:∃N,c.sign.length=N:=⟨_,rfl⟩
 obtain⟨N1,hN1⟩:∃N,c.regs.length=N:=⟨_,rfl⟩
 obtain⟨N2,hN2⟩:∃N,c.slots.length=N:=⟨_,rfl⟩
 obtain⟨N3,hN3⟩:∃N,c.list.length=N:=⟨_,rfl⟩
 simp only[hN0,hN1,hN2,hN3]at KC K0 KN hL1 hR1 hS1 HVV HRA HSA HVR HVS ⊢;have HN:Hid (c.sign.length=N0/\c.regs.length=N1/\c.slots.length=N2/\c.list.length=N3):=⟨hN0,hN1,hN2,hN3⟩
 obtain⟨W0,hW0⟩:∃W,(w.alloc (.cells #[.slice p0 N0 q0,.slice p1 N1 q1,.slice p2 N2 q2,.slice p3 N3 q3] 27)).alloc (.cells #[.slice none 0 0,.slice none 0 0,.slice none 0 0,.slice none 0 0] 27)=W:=⟨_,rfl⟩
 have HB0:Hid (Below w.heap.size w W0):=by rw[←hW0];exact bel (A0 _ _) (A0 _ _)
 have b0:W0.cell? ⟨w.heap.size,0,none⟩=some (.slice p0 N0 q0):=by rw[←hW0];simp[go_sem]
 have b1:W0.cell? ⟨w.heap.size,1,none⟩=some (.slice p1 N1 q1):=by rw[←hW0];simp[go_sem]
 have b2:W0.cell? ⟨w.heap.size,2,none⟩=some (.slice p2 N2 q2):=by rw[←hW0];simp[go_sem]
 have b3:W0.cell? ⟨w.heap.size,3,none⟩=some (.slice p3 N3 q3):=by rw[←hW0];simp[go_sem]
 have HR:Hid (W0.rowIs (w.heap.size+1) 27 4 (BH #[.slice none 0 0,.slice none 0 0,.slice none 0 0,.slice none 0 0])):=by
  show World.rowIs _ _ _ _ _;rw[←hW0];have h9:=AH (w.alloc (.cells #[.slice p0 N0 q0,.slice p1 N1 q1,.slice p2 N2 q2,.slice p3 N3 q3] 27)) #[.slice none 0 0,.slice none 0 0,.slice none 0 0,.slice none 0 0] 27;rw[show(w.alloc (.cells #[.slice p0 N0 q0,.slice p1 N1 q1,.slice p2 N2 q2,.slice p3 N3 q3] 27)).heap.size=w.heap.size+1 by simp]at h9;exact h9
 clear hv hk he2 hg htk hc hN0 hN1 hN2 hN3 hn hl1 hl;go_enter func6,ntmps6;go_upto_region 1 with fail;try rw[hW0]
 clear hW0;go_upto_region 5 with(first
  |(go_at_call 10;(with_reducible refine(KC.out _ HB0.out).mono ?_);rintro e w1 ⟨rfl,hb1⟩;have HB1:=A2 (bel HB0.out hb1);have HR1:=A2 (HR.out.of_block (hb1.block _ HR.out.lt));have c0:=kc hb1 b0;have c1:=kc hb1 b1;have c2:=kc hb1 b2;have c3:=kc hb1 b3;clear hb1 b0 b1 b2 b3)
  |(go_at_call 11;(with_reducible refine(KN.out _ HB1.out _ c1 c2 c3).mono ?_);rintro e w2 ⟨pl,ql,rfl,hli,hz2,hb2⟩;have HLI:=A2 hli;have HZ2:=A2 hz2;have HB2:=A2 hb2;clear hb2 hli hz2))
 obtain⟨E,hE⟩:∃E,w1.heap.size=E:=⟨_,rfl⟩
 have HEN:Hid (w.heap.size+1<E/\w.heap.size<=E):=by rw[←hE];have h9:=HR1.out.lt;exact⟨h9,oM⟩
 rw[hE]at HLI HB2;have HE2:Hid (E<=w2.heap.size):=by rw[←hE];have:=HB2.out.size;exact this
 obtain⟨LB,NC,f,hEL,hLBs,hpl,hlm,hnc,hfx,hback⟩:=Ib HLI.out HZ2.out;have HLOW:Hid (∀v,Below E w1 v->v.cell? ⟨w.heap.size,0,none⟩=some (.slice p0 N0 q0)/\v.cell? ⟨w.heap.size,1,none⟩=some (.slice p1 N1 q1)/\v.cell? ⟨w.heap.size,2,none⟩=some (.slice p2 N2 q2)/\v.rowIs (w.heap.size+1) 27 4 (BH #[.slice none 0 0,.slice none 0 0,.slice none 0 0,.slice none 0 0])/\Below w.heap.size w v):=fun v hv=>by
  have k:∀ {a:Addr} {x:Value},a.block<E->w1.cell? a=some x->v.cell? a=some x:=fun{a x} ha hx=>(World.cell?_of_block (hv.block a.block ha)).trans hx;have h1:=HEN.out.1;exact⟨k Md c0,k Md c1,k Md c2,HR1.out.of_block (hv.block _ h1),HB1.out.trans (hv.mono HEN.out.2)⟩
 obtain⟨K,hK⟩:∃K,max N1 N2=K:=⟨_,rfl⟩
 obtain⟨W3,hW3⟩:∃W,w2.alloc (.cells (madeCells #[.bool false] K) 4)=W:=⟨_,rfl⟩
 have m1:=fun v=>Gf K oM v;obtain⟨IB,hIB⟩:∃I,w2.heap.size=I:=⟨_,rfl⟩
 have HB3:Hid (Below w2.heap.size w2 W3):=by rw[←hW3];exact A0 _ _
 have HI3:Hid (W3.rowIs IB 4 K (fun _=>.bool false)):=by rw[←hW3,←hIB];exact World.rowIs_made w2 (.bool false) K 4
 have HBE3:Hid (Below E w1 W3):=HB2.out.trans (HB3.out.mono HE2.out);have HE3:Hid (E<=W3.heap.size/\E<=IB/\E<=LB):=⟨Nat.le_trans HE2.out HB3.out.size,by rw[←hIB];exact HE2.out,hEL⟩
 have HLM:Hid (NC=0\/W3.rowIs LB 40 NC f):=hlm.imp id fun h=>h.of_block (HB3.out.block _ h.lt);have HLB:Hid (LB<W3.heap.size):=by
  have h9:W3.heap.size=w2.heap.size+1:=by rw[←hW3];simp
  have h8:=HE2.out;show _<_;rcases hLBs with h7|h7<;>omega
 have HPP:=A2 hpl;have HNC:=A2 hnc;have HFX:=A2 hfx;have HBK:=A2 hback;have HLI3:=A2 (Ak HLI.out HB3.out);have d1:=(HLOW.out w2 HB2.out).2.1;have d2:=(HLOW.out w2 HB2.out).2.2.1;have HKK:Hid (N1<=K/\N2<=K):=by rw[←hK];exact⟨Nat.le_max_left _ _,Nat.le_max_right _ _⟩
 clear hEL hLBs hpl hlm hnc hfx hback HLI HB2 HR HR1 KN KC c0 c1 c2 c3 hE;go_cut [7] (fun v wx=>v=.slice (some ⟨IB,0,none⟩) K K/\wx=W3)
 case first=>
  rcases Nat.le_total N1 N2 with h9|h9
  ·have hKe:K=N2:=by rw[←hK];omega
   have z1:(N1:Int)<=(N2:Int):=oM;have z2:max (N1:Int) (N2:Int)=(N2:Int):=oM;subst hKe;clear hK h9;go_wp2;go_meet;first|exact⟨rfl,rfl⟩|(rw[hW3,hIB];exact⟨rfl,rfl⟩)
  ·have hKe:K=N1:=by rw[←hK];omega
   have z1:(N2:Int)<=(N1:Int):=oM;have z2:max (N1:Int) (N2:Int)=(N1:Int):=oM;subst hKe;clear hK h9;go_wp2;go_meet;first|exact⟨rfl,rfl⟩|(rw[hW3,hIB];exact⟨rfl,rfl⟩)
 case rest=>
  obtain⟨rfl,rfl⟩:=hcut;clear hK hW3 hIB m1 d1 d2 HB3 HE2;have KF:Hid (∀v,Below wc.heap.size wc v->Calls prog 13 #[.slice pl n ql] v fun e w'=>∃q d,e=.returned (.slice q (AD l n).length d)/\w'.ownsRow E 79 1 (.slice q (AD l n).length d) (AD l n).length (BC LB (AD l n))/\Below v.heap.size v w'):=fun v hv=>by
   have h9:=IA l v pl ql LB (by rw[HLN.out];exact HPP.out) (C9 Bg (by rw[HLN.out];exact Ak HLI3.out hv)) (by rw[HLN.out];exact HNL.out);rw[HLN.out]at h9;exact h9.mono fun e w' ⟨q,d,h1,h2,h3⟩=>⟨q,d,h1,Bz h2 (Nat.le_trans HE3.out.1 hv.size),h3⟩
  have KT:Hid (∀u,Below wc.heap.size wc u->∀pf qf,u.ownsRow E 79 1 (.slice pf (AD l n).length qf) (AD l n).length (BC LB (AD l n))->Calls prog 12 #[.slice p1 N1 q1,.slice pf (AD l n).length qf,.slice (some ⟨IB,0,none⟩) K K] u fun e w'=>∃pr qr,e=.returned (.slice pr (pruneC c).regs.length qr)/\w'.ownsRow u.heap.size 50 2 (.slice pr (pruneC c).regs.length qr) (pruneC c).regs.length (Al DH (pruneC c).regs)/\L7 E IB K LB NC (AD l n) (AQ l) f u w'):=fun u hu pf qf hF=>by
   have hbu:Below E w1 u:=HBE3.out.trans (hu.mono HE3.out.1);have h9:=KV E u c.regs p1 q1 (fun v hv=>by rw[HN.out.2.1];exact HRA.out v (HLOW.out v (hbu.trans hv)).2.2.2.2) (AD l n) (AQ l) LB NC f (fun o ho=>by
    obtain⟨a1,a2,a3,-⟩:=HVR.out o ho;refine⟨Nat.lt_of_lt_of_le a1 HNC.out,?_,by rw[HN.out.2.1];exact a3⟩;have:=HFX.out o a1;rw[this]at a2
    simpa using a2) (HLM.out.imp id fun h=>h.of_block (hu.block _ h.lt)) pf qf hF IB K (HI3.out.of_block (hu.block _ HI3.out.lt)) (by rw[HN.out.2.1];exact HKK.out.1) ⟨Nat.le_trans HE3.out.1 hu.size,HE3.out.2⟩ (by have:=E2 l l.length (Nat.le_refl _);rw[HLN.out]at this;exact this) (by rw[HN.out.2.1];exact hR1) (by have:=E1 l n;have:=HNL.out;omega)
   rw[HN.out.2.1,HFIN.out.1]at h9;exact h9
  obtain⟨g0,g1,g2,-⟩:=HLOW.out wc HBE3.out;obtain⟨LR,hLR⟩:∃k,(AD l n).length=k:=⟨_,rfl⟩
  simp only[hLR]at KF KT;obtain⟨NR,hNR⟩:∃k,(pruneC c).regs.length=k:=⟨_,rfl⟩
  simp only[hNR]at KT;have HNR:=A2 hNR;clear hLR hNR;go_upto_region 6 with fail;refine rG (fun v=>v.cell? ⟨w.heap.size,1,none⟩=some (.slice p1 N1 q1)) fun hHeld=>?_;refine Tc 0 1 2 ?_;refine Bo 4 ?_;clear hHeld;refine Aw 3 fun K hK=>?_;go_simp;(go_at_call 13;(with_reducible refine(KF.out _ (B9 _)).mono ?_);rintro e u1 ⟨pf,qf,rfl,hf1,hb1'⟩;have HF1:=A2 hf1;have HU1:Hid (Below wc.heap.size wc u1):=bel (B9 _) hb1';obtain⟨g0,g1,g2,-⟩:=HLOW.out u1 (HBE3.out.trans (HU1.out.mono HE3.out.1));clear hf1 hb1');try(go_wp2_with fail)
  refine As hK fun hHeld=>?_;clear hK K;clear hHeld;refine Aw 5 fun K hK=>?_;go_simp;(go_at_call 12;(with_reducible refine(KT.out _ HU1.out _ _ HF1.out).mono ?_);rintro e u2 ⟨pr,qr,rfl,hr2,hv2⟩;have HRG:=A2 hr2;have HV2:=A2 hv2;obtain⟨g0,g1,g2,-⟩:=HLOW.out u2 ((HBE3.out.trans (HU1.out.mono HE3.out.1)).trans hv2.bel);clear hr2 hv2);try(go_wp2_with fail)
  refine As hK fun hHeld=>?_;clear hK K;refine Bo 6 ?_;refine wpAnyH_done kR ?_ _;have HBU2:Hid (Below E w1 u2):=(HBE3.out.trans (HU1.out.mono HE3.out.1)).trans HV2.out.bel;obtain⟨W4,hcl,hI4,hO4,hS4,hZ4⟩:=H4 HV2.out.nm;have HB4:Hid (Below E w1 W4):=by
   have hx:Below E u2 W4:=GY HE3.out.2.1 hO4 hZ4;exact HBU2.out.trans hx
  have HL4:Hid (NC=0\/W4.rowIs LB 40 NC (fJ (AD l n) (AQ l) f (AD l n).length)):=HV2.out.li.imp id fun h=>h.of_block (hO4 _ (BR h HV2.out.nm dE));have HRG4:Hid (W4.ownsRow u1.heap.size 50 2 (.slice pr NR qr) NR (Al DH (pruneC c).regs)):=A7 HRG.out fun g hg=>hO4 g (fun e=>AO HRG.out HV2.out.nm dE (by rw[←e];exact hg));have HLI4:Hid (W4.ownsRow E 40 7 (.slice pl n ql) n (Al AS l1)):=HBK.out W4 _ HL4.out (Al AS l1) (by rw[Cs Bg,HL1.out.1]) (fun o ho=>by
   have:=HFR.out f (by exact HFX.out) o (by rw[HL1.out.1];exact ho)
   exact this)
  have HI4:=A2 hI4;have HCL:=A2 hcl;have HE4:Hid (E<=W4.heap.size):=Nat.le_trans HE3.out.1 (by rw[hS4];exact Nat.le_trans HU1.out.size (Nat.le_of_lt_succ (by have:=HV2.out.bel.size;omega)));have HG4:Hid (u1.heap.size<=W4.heap.size):=by show _<=_;rw[hS4];exact HV2.out.bel.size
  have HUE:Hid (E<=u1.heap.size):=Nat.le_trans HE3.out.1 HU1.out.size;obtain⟨g0,g1,g2,-⟩:=HLOW.out W4 HB4.out;clear hcl hI4 hO4 hS4 hZ4 KF KT HV2 HRG HF1 HLM HI3 HLI3 HVR;have KF:Hid (∀v,Below W4.heap.size W4 v->Calls prog 15 #[.slice pl n ql] v fun e w'=>∃q d,e=.returned (.slice q (AF l n).length d)/\w'.ownsRow E 79 1 (.slice q (AF l n).length d) (AF l n).length (BC LB (AF l n))/\Below v.heap.size v w'):=fun v hv=>by
   have h9:=Jg l1 v pl ql LB (by rw[HL1.out.1];exact HPP.out) (C9 Bg (by rw[HL1.out.1];exact Ak HLI4.out hv)) (by rw[HL1.out.1];exact HNL.out);rw[HL1.out.2,HL1.out.1]at h9;exact h9.mono fun e w' ⟨q,d,h1,h2,h3⟩=>⟨q,d,h1,Bz h2 (Nat.le_trans HE4.out hv.size),h3⟩
  have KT:Hid (∀u,Below W4.heap.size W4 u->∀pf qf,u.ownsRow E 79 1 (.slice pf (AF l n).length qf) (AF l n).length (BC LB (AF l n))->Calls prog 14 #[.slice p2 N2 q2,.slice pf (AF l n).length qf,.slice (some ⟨IB,0,none⟩) K K] u fun e w'=>∃pr qr,e=.returned (.slice pr (pruneC c).slots.length qr)/\w'.ownsRow u.heap.size 55 5 (.slice pr (pruneC c).slots.length qr) (pruneC c).slots.length (Al Eu (pruneC c).slots)/\L7 E IB K LB NC (AF l n) (AQ l) (fJ (AD l n) (AQ l) f (AD l n).length) u w'):=fun u hu pf qf hF=>by
   have hbu:Below E w1 u:=HB4.out.trans (hu.mono HE4.out);have h9:=KU E u c.slots p2 q2 (fun v hv=>by rw[HN.out.2.2.1];exact HSA.out v (HLOW.out v (hbu.trans hv)).2.2.2.2) (AF l n) (AQ l) LB NC (fJ (AD l n) (AQ l) f (AD l n).length) (fun o ho=>by
    obtain⟨a1,a2,a3,-⟩:=HVS.out o ho;refine⟨Nat.lt_of_lt_of_le a1 HNC.out,?_,by rw[HN.out.2.2.1];exact a3⟩;have:=HFR.out f HFX.out o (by rw[HL1.out.1];exact a1);rw[this]at a2
    simpa using a2) (HL4.out.imp id fun h=>h.of_block (hu.block _ h.lt)) pf qf hF IB K (HI4.out.of_block (hu.block _ HI4.out.lt)) (by rw[HN.out.2.2.1];exact HKK.out.2) ⟨Nat.le_trans HE4.out hu.size,HE3.out.2⟩ (by have:=E4 l l.length (Nat.le_refl _);rw[HLN.out]at this;exact this) (by rw[HN.out.2.2.1];omega) (by have:=E3 l n;have:=HNL.out;omega)
   rw[HN.out.2.2.1,HFIN.out.2.1]at h9;exact h9
  obtain⟨LS,hLS⟩:∃k,(AF l n).length=k:=⟨_,rfl⟩
  simp only[hLS]at KF KT;obtain⟨NS,hNS⟩:∃k,(pruneC c).slots.length=k:=⟨_,rfl⟩
  simp only[hNS]at KT;have HNS:=A2 hNS;have HLS:=A2 hLS;clear hLS hNS;have hclr:=HCL.out;go_upto_region 8 with fail;clear hclr;refine rG (fun v=>v.cell? ⟨w.heap.size,2,none⟩=some (.slice p2 N2 q2)) fun hHeld=>?_;refine Tc 0 1 2 ?_;refine Bo 4 ?_;clear hHeld;refine Aw 3 fun K hK=>?_;go_simp;(go_at_call 15;(with_reducible refine(KF.out _ (B9 _)).mono ?_);rintro e u3 ⟨pf',qf',rfl,hf1,hb1'⟩;have HF3:=A2 hf1;have HU3:Hid (Below W4.heap.size W4 u3):=bel (B9 _) hb1';obtain⟨g0,g1,g2,-⟩:=HLOW.out u3 (HB4.out.trans (HU3.out.mono HE4.out));clear hf1 hb1');try(go_wp2_with fail)
  refine As hK fun hHeld=>?_;clear hK K;clear hHeld;refine Aw 5 fun K hK=>?_;go_simp;(go_at_call 14;(with_reducible refine(KT.out _ HU3.out _ _ HF3.out).mono ?_);rintro e u4 ⟨ps,qs,rfl,hr2,hv2⟩;have HSG:=A2 hr2;have HV4:=A2 hv2;obtain⟨g0,g1,g2,-⟩:=HLOW.out u4 ((HB4.out.trans (HU3.out.mono HE4.out)).trans hv2.bel);clear hr2 hv2);try(go_wp2_with fail)
  refine As hK fun hHeld=>?_;clear hK K;refine Bo 6 ?_;refine wpAnyH_done kR ?_ _;have HBU4:Hid (Below E w1 u4):=(HB4.out.trans (HU3.out.mono HE4.out)).trans HV4.out.bel;have HEU4:Hid (E<=u4.heap.size):=Nat.le_trans (Nat.le_trans HE4.out HU3.out.size) HV4.out.bel.size;have HRG5:Hid (u4.ownsRow u1.heap.size 50 2 (.slice pr NR qr) NR (Al DH (pruneC c).regs)):=by
   have h8:=Ak HRG4.out HU3.out;have hI3:u3.rowIs IB 4 K (fun _=>.bool false):=HI4.out.of_block (HU3.out.block _ HI4.out.lt);exact A7 h8 fun g hg=>HV4.out.oth g (h8.lt g hg).2 (fun e=>AO h8 hI3 dE (by rw[←e];exact hg)) (fun e=>by have h9:=(h8.lt g hg).1;have:=HLB.out;have:=HU1.out.size;omega)
  have HLI6:Hid (u4.ownsRow E 40 7 (.slice pl n ql) n (Al AS (pruneC c).list)):=by
   have h9:=HBK.out u4 _ HV4.out.li (Al AS (pruneC c).list) (by rw[←HPL.out,Cs Bg,List.length_map,HL1.out.1]) (fun o ho=>by
    have h8:=HFS.out (fJ (AD l n) (AQ l) f (AD l n).length) (fun o ho=>HFR.out f HFX.out o (by rw[HL1.out.1];exact ho)) o ho;rw[HPL.out]at h8
    exact h8)
   exact h9
  have HLL:Hid ((pruneC c).list.length=n):=by show _=_;rw[←HPL.out,List.length_map,HL1.out.1]
  obtain⟨-,-,-,hrw4,hbw4⟩:=HLOW.out u4 HBU4.out;have HRW4:=A2 hrw4;have HBW4:=A2 hbw4;clear hrw4 hbw4 KF KT HF3 HVS HFS HFR HFX HBK HCL HI4 HL4 HLI4 HRG4;go_wp2_with(go_at_call 16;(with_reducible refine(K0.out _ HBW4.out).mono ?_);rintro e u5 ⟨s0,d0,rfl,hr0,hb5⟩;have HR0:=A2 hr0;have HU5:=A2 hb5;have hrw:=HRW4.out.of_block (hb5.block _ HRW4.out.lt);have HRW:=A2 hrw;have r0:u5.cell? ⟨w.heap.size+1,0,none⟩=some (.slice none 0 0):=hrw.cell (i:=0) dE;have r1:u5.cell? ⟨w.heap.size+1,1,none⟩=some (.slice none 0 0):=hrw.cell (i:=1) dE;have r2:u5.cell? ⟨w.heap.size+1,2,none⟩=some (.slice none 0 0):=hrw.cell (i:=2) dE;have r3:u5.cell? ⟨w.heap.size+1,3,none⟩=some (.slice none 0 0):=hrw.cell (i:=3) dE;have f0:=hrw.frozen 0;have f1:=hrw.frozen 1;have f2:=hrw.frozen 2;have f3:=hrw.frozen 3;clear hr0 hb5 hrw);refine bodyPost_ret (by simp[results,results6,go_sem, *];try rfl) rfl ?_;obtain⟨rfl,rfl,rfl,rfl⟩:=HN.out;have hNS:=HNS.out;have hNR:=HNR.out;have hLL:=HLL.out;subst hNS hNR hLL;have k4:∀b,b≠w.heap.size+1->((((u5.setCell ⟨w.heap.size+1,0,none⟩ (.slice s0 c.sign.length d0)).setCell ⟨w.heap.size+1,1,none⟩ (.slice pr (pruneC c).regs.length qr)).setCell ⟨w.heap.size+1,2,none⟩ (.slice ps (pruneC c).slots.length qs)).setCell ⟨w.heap.size+1,3,none⟩ (.slice pl (pruneC c).list.length ql)).heap[b]? =u5.heap[b]? :=fun b hb=>(Below.heap_setCell _ _ _ _ hb).trans ((Below.heap_setCell _ _ _ _ hb).trans ((Below.heap_setCell _ _ _ _ hb).trans (Below.heap_setCell _ _ _ _ hb)));have hen:=HEN.out;have l1':=HUE.out;have l2:E<=u3.heap.size:=Nat.le_trans HE4.out HU3.out.size;have l3:=HEU4.out;have o0:=A7 HR0.out (fun g hg=>k4 g (by have h9:=(HR0.out.lt g hg).1;omega));have o1:=A7 (Ak HRG5.out HU5.out) (fun g hg=>k4 g (by have h9:=(HRG5.out.lt g hg).1;omega));have o2:=A7 (Ak HSG.out HU5.out) (fun g hg=>k4 g (by have h9:=(HSG.out.lt g hg).1;omega));have o3:=A7 (Ak HLI6.out HU5.out) (fun g hg=>k4 g (by have h9:=(HLI6.out.lt g hg).1;omega));have hO:Kq w.heap.size _ (.slice s0 c.sign.length d0) (.slice pr (pruneC c).regs.length qr) (.slice ps (pruneC c).slots.length qs) (.slice pl (pruneC c).list.length ql) (pruneC c):=⟨Bz o0 oM,Bz o1 oM,Bz o2 oM,Bz o3 oM⟩
  have hle:w.heap.size<=w.heap.size+1:=Nat.le_succ _;exact⟨_,_,_,_,rfl,⟨C9 D7 hO.sign,C9 F3 hO.regs,C9 F2 hO.slots,C9 Bg hO.list⟩,hO,((((HBW4.out.trans (HU5.out.mono (Nat.le_trans hen.2 l3))).setCell hle _).setCell hle _).setCell hle _).setCell hle _⟩
theorem FE{α:Type}{k:Nat}{f:α->List Value}(hf:∀x,(f x).length=k){l:List α}(w:World)(cs:Array Value)(t:TypeId)(h:cs.toList=Al f l)(c:Nat):AI k f (w.alloc (.cells cs t)) (.slice (some ⟨w.heap.size,0,none⟩) l.length c) l:=by
 refine⟨_,_,rfl,.inr ⟨w.heap.size,0,rfl,fun i hi j hj=>?_⟩⟩;have hj':j<k:=by rw[←hf l[i]];exact hj
 have h1:=CI hf l i j hi hj';rw[←h]at h1;have h2:cs[0+i*k+j]? =some (f l[i])[j]:=by
  rw[Nat.zero_add,←Array.getElem?_toList,h1,List.getElem?_eq_getElem hj]
 have h3:(w.alloc (.cells cs t)).heap[w.heap.size]? =some (.cells cs t (0,0)):=heap_alloc_new w _;unfold World.cell?;simp only[h3];exact h2
theorem Db{α:Type}{k:Nat}{f:α->List Value}(hf:∀x,(f x).length=k){l:List α}(w:World)(cs:Array Value)(t:TypeId)(h:cs.toList=Al f l)(c:Nat){n:Nat}(hn:w.heap.size=n):AI k f (w.alloc (.cells cs t)) (.slice (some ⟨n,0,none⟩) l.length c) l:=by
 subst hn;exact FE hf w cs t h c
def ES:List Ba:=[⟨⟨#[119]⟩,1,1⟩]
theorem DW(a:Int)(h:a=0\/a=2):(Aj (AZ ES a)).1=0:=by rcases h with rfl|rfl<;>decide+kernel
theorem GG(a:Int)(h:a=0\/a=2):Bl (AZ ES a):=by rcases h with rfl|rfl<;>exact⟨dE,dE,dE,dE,dE,dE,dE⟩
def JA:Cd:=⟨[],[],[],[⟨35,0,0,0,0,0,0⟩]⟩
theorem FZ:(Aj JA).1≠0:=by decide+kernel
theorem JB:Bl JA:=⟨dE,dE,dE,dE,dE,dE,dE⟩
theorem Ic:pruneC (AZ ES 2)=AZ ES 2:=Fi ES (Ax.1 (DW 2 (.inr rfl))).2.1
def fV(xs:List Value)(o:Nat):Value:=(xs[o]?).getD undef
theorem JX{w:World}{d:Nat}{l:List Ab}{cap:Nat}(h:w.rowIs d 40 (l.length*7) (fV (Al AS l))):AI 7 AS w (.slice (some ⟨d,0,none⟩) l.length cap) l:=by
 refine⟨_,_,rfl,.inr ⟨d,0,rfl,fun i hi j hj=>?_⟩⟩;have hj7:j<7:=by rw[Bg]at hj;exact hj
 have hlt:0+i*7+j<l.length*7:=oM;rw[h.cell hlt];have:=CI Bg l i j hi hj7;unfold fV;rw[Nat.zero_add,this,List.getElem?_eq_getElem hj];rfl
theorem J7{w:World}{cs:Array Value}{t:TypeId}{n m:Nat}{xs:List Value}(hn:w.heap.size=n)(hx:cs.toList=xs)(hm:cs.size=m):(w.alloc (.cells cs t)).rowIs n t m (fV xs):=by
 subst hn hm;refine(AH w cs t).congr fun i hi=>?_;unfold BH fV;rw[←hx,Array.getElem?_eq_getElem hi,List.getElem?_eq_getElem (by simpa using hi)];simp
structure Mm(w w':World)(a b s d:Nat):Prop where
 cd:CY w' (.slice (some ⟨a,0,none⟩) 1 1) (.slice (some ⟨b,0,none⟩) 3 3) (.slice (some ⟨s,0,none⟩) 1 1) (.slice (some ⟨d,0,none⟩) 5 5) (AZ ES 0)
 row:w'.rowIs d 40 35 (fV (Al AS (Ay 0)))
 ne:a≠d/\b≠d/\s≠d
 ge:w.heap.size<=d
 bel:Below w.heap.size w w'
theorem Gd(w:World):Calls prog 23 #[] w fun e w'=>∃a b s d,e=.returned (.agg #[.slice (some ⟨a,0,none⟩) 1 1,.slice (some ⟨b,0,none⟩) 3 3,.slice (some ⟨s,0,none⟩) 1 1,.slice (some ⟨d,0,none⟩) 5 5])/\Mm w w' a b s d:=by
 go_enter func23,ntmps23;go_wp2;refine bodyPost_ret (by simp[results,results23,go_sem];try rfl) rfl ?_;refine⟨_,_,_,_,rfl,?_,?_,?_,?_,gG⟩
 ·exact⟨(((Db (l:=(AZ ES 0).sign) D7 _ _ _ rF 1 sM).below (A0 _ _)).below (A0 _ _)).below (A0 _ _),((Db (l:=(AZ ES 0).regs) F3 _ _ _ rF 3 sM).below (A0 _ _)).below (A0 _ _),(Db (l:=(AZ ES 0).slots) F2 _ _ _ rF 1 sM).below (A0 _ _),Db (l:=(AZ ES 0).list) Bg _ _ _ rF 5 sM⟩
 ·exact J7 (xs:=Al AS (Ay 0)) sM rF rF
 ·refine⟨?_,?_,?_⟩<;>(simp;try omega)
 ·first|omega|(simp;omega)
theorem KJ{w w1:World}{a b s d:Nat}(h:Mm w w1 a b s d){v:World}(hb:Below w1.heap.size w1 v):CY (v.setCell ⟨d,30,none⟩ (.int .i64 2)) (.slice (some ⟨a,0,none⟩) 1 1) (.slice (some ⟨b,0,none⟩) 3 3) (.slice (some ⟨s,0,none⟩) 1 1) (.slice (some ⟨d,0,none⟩) 5 5) (AZ ES 2):=by
 have hc:=h.cd.below hb;have hr:=h.row.of_block (hb.block _ h.row.lt);have keep:∀ {α:Type} {k:Nat} {g:α->List Value} {l:List α} {x n cp:Nat},AI k g v (.slice (some ⟨x,0,none⟩) n cp) l->x≠d->AI k g (v.setCell ⟨d,30,none⟩ (.int .i64 2)) (.slice (some ⟨x,0,none⟩) n cp) l:=fun{α k g l x n cp} h1 hx=>by
  obtain⟨p,c,e,h2⟩:=h1;refine⟨p,c,e,h2.imp id fun⟨b',o',e',h3⟩=>⟨b',o',e',fun i hi=>(h3 i hi).of_block ?_⟩⟩;simp only[Value.slice.injEq]at e;rw[←e.1]at e';simp only[Option.some.injEq,Addr.mk.injEq]at e';rw[←e'.1];exact Below.heap_setCell _ _ _ _ hx
 refine⟨keep hc.sign h.ne.1,keep hc.regs h.ne.2.1,keep hc.slots h.ne.2.2,?_⟩;refine JX (l:=Ay 2) (cap:=5) ((hr.set 30 (.int .i64 2)).congr fun o ho=>?_);have e:Al AS (Ay 2)=(Al AS (Ay 0)).set 30 (.int .i64 2):=rfl;unfold fV;rw[e];by_cases q:o=30
 ·rw[if_pos q,q,List.getElem?_set_self dE];rfl
 ·rw[if_neg q,List.getElem?_set_ne (fun w=>q w.symm)]
theorem Ej(w:World):Calls prog 9 #[] w fun e w'=>e=.returned (.bool true)/\Below w.heap.size w w':=by
 have KL:=A2 Gd;obtain⟨e1,e2,e3⟩:=Gc ES;have KP0:Hid (∀ (v:World) (v0 v1 v2 v3:Value),CY v v0 v1 v2 v3 (AZ ES 0)->Calls prog 6 #[.agg #[v0,v1,v2,v3]] v fun e w'=>∃x0 x1 x2 x3 m y0 y1 y2 y3,e=.returned (.tuple #[.agg #[.slice x0 m y0,.slice x1 1 y1,.slice x2 0 y2,.slice x3 2 y3],.int .i64 0])/\Below v.heap.size v w'):=fun v v0 v1 v2 v3 h=>(BQ v0 v1 v2 v3 _ (GG 0 (.inl rfl)) v h (DW 0 (.inl rfl))).mono fun e w' ⟨u0,u1,u2,u3,h1,h2,h3,h4⟩=>by
  obtain⟨x0,y0,rfl,-⟩:=h2.sign;obtain⟨x1,y1,rfl,-⟩:=h2.regs;obtain⟨x2,y2,rfl,-⟩:=h2.slots;obtain⟨x3,y3,rfl,-⟩:=h2.list;rw[e1,e2,e3]at h1;exact⟨x0,x1,x2,x3,_,y0,y1,y2,y3,h1,h4⟩
 have KP2:Hid (∀ (v:World) (v0 v1 v2 v3:Value),CY v v0 v1 v2 v3 (AZ ES 2)->Calls prog 6 #[.agg #[v0,v1,v2,v3]] v fun e w'=>∃x0 x1 x2 x3 n0 n1 n2 n3 y0 y1 y2 y3,e=.returned (.tuple #[.agg #[.slice x0 n0 y0,.slice x1 n1 y1,.slice x2 n2 y2,.slice x3 n3 y3],.int .i64 0])/\CY w' (.slice x0 n0 y0) (.slice x1 n1 y1) (.slice x2 n2 y2) (.slice x3 n3 y3) (AZ ES 2)/\Below v.heap.size v w'):=fun v v0 v1 v2 v3 h=>(BQ v0 v1 v2 v3 _ (GG 2 (.inr rfl)) v h (DW 2 (.inr rfl))).mono fun e w' ⟨u0,u1,u2,u3,h1,h2,h3,h4⟩=>by
  rw[Ic]at h2;obtain⟨x0,y0,rfl,-⟩:=h2.sign;obtain⟨x1,y1,rfl,-⟩:=h2.regs;obtain⟨x2,y2,rfl,-⟩:=h2.slots;obtain⟨x3,y3,rfl,-⟩:=h2.list;exact⟨x0,x1,x2,x3,_,_,_,_,y0,y1,y2,y3,h1,h2,h4⟩
 have KB:Hid (∀ (v:World) (n:Nat),v.heap.size=n->Calls prog 6 #[.agg #[.slice none 0 0,.slice none 0 0,.slice none 0 0,.slice (some ⟨n,0,none⟩) 1 1]] (v.alloc (.cells #[.int .i64 35,.int .i64 0,.int .i64 0,.int .i64 0,.int .i64 0,.int .i64 0,.int .u32 0] 40)) fun e w'=>e=.returned (.tuple #[.agg #[.slice none 0 0,.slice none 0 0,.slice none 0 0,.slice none 0 0],.int .i64 160])/\Below v.heap.size v w'):=fun v n hn=>by
  subst hn;exact(Dp (.slice none 0 0) (.slice none 0 0) (.slice none 0 0) (.slice (some ⟨v.heap.size,0,none⟩) 1 1) JA JB _ ⟨⟨none,0,rfl,.inl rfl⟩,⟨none,0,rfl,.inl rfl⟩,⟨none,0,rfl,.inl rfl⟩,FE (l:=JA.list) Bg v _ _ rF 1⟩ FZ).mono fun e w' h=>⟨h.1,bel (A0 _ _) h.2⟩
 have KE:Hid (∀ (v:World) (x0 x1 x2 x3 y0 y1 y2 y3:Value),CY v x0 x1 x2 x3 (AZ ES 2)->CY v y0 y1 y2 y3 (AZ ES 2)->Calls prog 8 #[.agg #[x0,x1,x2,x3],.agg #[y0,y1,y2,y3]] v fun e w'=>e=.returned (.bool true)/\Below v.heap.size v w'):=fun v x0 x1 x2 x3 y0 y1 y2 y3 h1 h2=>by
  have h9:=Ec x0 x1 x2 x3 y0 y1 y2 y3 _ _ (GG 2 (.inr rfl)) (GG 2 (.inr rfl)) v h1 h2;rw[Fb]at h9;exact h9
 clear e1 e2 e3;go_enter func9,ntmps9;go_upto_region 2 with(first
  |(go_at_call 23;(with_reducible refine(KL.out _).mono ?_);rintro e w1 ⟨a,b,s,d,rfl,hl1⟩;have HL1:=A2 hl1;clear hl1)
  |(go_at_call 6;(with_reducible refine(KP0.out _ _ _ _ _ HL1.out.cd).mono ?_);rintro e w2 ⟨x0,x1,x2,x3,m,y0,y1,y2,y3,rfl,hb2⟩;have HB2:=A2 hb2;clear hb2))
 obtain⟨A1,hA1⟩:∃W,w2.alloc (.cells #[.slice x0 m y0,.slice x1 1 y1,.slice x2 0 y2,.slice x3 2 y3] 27)=W:=⟨_,rfl⟩
 try rw[hA1]
 obtain⟨B1,hB1⟩:∃B,w2.heap.size=B:=⟨_,rfl⟩
 have HR1:Hid (A1.rowIs B1 27 4 (BH #[.slice x0 m y0,.slice x1 1 y1,.slice x2 0 y2,.slice x3 2 y3])):=by rw[←hA1,←hB1];exact AH w2 _ _
 have HBA1:Hid (Below w.heap.size w A1):=by rw[←hA1];exact bel HL1.out.bel (bel HB2.out (A0 _ _))
 rw[hB1];clear hA1 hB1 HL1 HB2;go_upto_region 3 with(go_at_call 23;(with_reducible refine(KL.out _).mono ?_);rintro e w3 ⟨a',b',s',d',rfl,hl3⟩;have HL3:=A2 hl3;clear hl3)
 obtain⟨A3,hA3⟩:∃W,w3.alloc (.cells #[.slice (some ⟨a',0,none⟩) 1 1,.slice (some ⟨b',0,none⟩) 3 3,.slice (some ⟨s',0,none⟩) 1 1,.slice (some ⟨d',0,none⟩) 5 5] 27)=W:=⟨_,rfl⟩
 try rw[hA3]
 obtain⟨B3,hB3⟩:∃B,w3.heap.size=B:=⟨_,rfl⟩
 have HR3:Hid (A3.rowIs B3 27 4 (BH #[.slice (some ⟨a',0,none⟩) 1 1,.slice (some ⟨b',0,none⟩) 3 3,.slice (some ⟨s',0,none⟩) 1 1,.slice (some ⟨d',0,none⟩) 5 5])):=by rw[←hA3,←hB3];exact AH w3 _ _
 have HB3A:Hid (Below w3.heap.size w3 A3):=by rw[←hA3];exact A0 _ _
 have hrl:=HL3.out.row.of_block (HB3A.out.block _ HL3.out.row.lt);have c30:=hrl.cell (i:=30) dE;have f30:=hrl.frozen 30;have b33:A3.cell? ⟨B3,3,none⟩=some (.slice (some ⟨d',0,none⟩) 5 5):=HR3.out.cell (i:=3) dE;have HDN:Hid (d'≠B3/\d'≠B1/\w.heap.size<=d'):=by
  have h1:=HL3.out.row.lt;have h2:=HR1.out.lt;have h3:=HL3.out.ge;have h4:=HBA1.out.size;exact⟨oM,oM,oM⟩
 obtain⟨W4,hW4⟩:∃W,A3.setCell ⟨d',30,none⟩ (.int .i64 2)=W:=⟨_,rfl⟩
 have HCD4:Hid (CY W4 (.slice (some ⟨a',0,none⟩) 1 1) (.slice (some ⟨b',0,none⟩) 3 3) (.slice (some ⟨s',0,none⟩) 1 1) (.slice (some ⟨d',0,none⟩) 5 5) (AZ ES 2)):=by rw[←hW4];exact KJ HL3.out HB3A.out
 have HR34:Hid (W4.rowIs B3 27 4 (BH #[.slice (some ⟨a',0,none⟩) 1 1,.slice (some ⟨b',0,none⟩) 3 3,.slice (some ⟨s',0,none⟩) 1 1,.slice (some ⟨d',0,none⟩) 5 5])):=by rw[←hW4];exact HR3.out.setOther (a:=⟨d',30,none⟩) HDN.out.1.symm _
 have HR14:Hid (W4.rowIs B1 27 4 (BH #[.slice x0 m y0,.slice x1 1 y1,.slice x2 0 y2,.slice x3 2 y3])):=by
  have h9:=HR1.out.of_block ((bel HL3.out.bel HB3A.out).block _ HR1.out.lt);rw[←hW4];exact h9.setOther (a:=⟨d',30,none⟩) HDN.out.2.1.symm _
 have HB4:Hid (Below w.heap.size w W4):=by rw[←hW4];exact(bel HBA1.out (bel HL3.out.bel HB3A.out)).setCell HDN.out.2.2 _
 rw[hB3];clear hA3 hB3 HL3 HB3A hrl HR3 HR1 HBA1 HDN;go_upto_region 4 with fail;try rw[hW4]
 clear hW4 c30 f30 b33;have i0:W4.cell? ⟨B3,0,none⟩=some (.slice (some ⟨a',0,none⟩) 1 1):=HR34.out.cell (i:=0) dE;have i1:W4.cell? ⟨B3,1,none⟩=some (.slice (some ⟨b',0,none⟩) 3 3):=HR34.out.cell (i:=1) dE;have i2:W4.cell? ⟨B3,2,none⟩=some (.slice (some ⟨s',0,none⟩) 1 1):=HR34.out.cell (i:=2) dE;have i3:W4.cell? ⟨B3,3,none⟩=some (.slice (some ⟨d',0,none⟩) 5 5):=HR34.out.cell (i:=3) dE;go_upto_region 5 with(go_at_call 6;(with_reducible refine(KP2.out _ _ _ _ _ HCD4.out).mono ?_);rintro e w5 ⟨z0,z1,z2,z3,n0,n1,n2,n3,t0,t1,t2,t3,rfl,hcd5,hb5⟩;have HCD5:=A2 hcd5;have HB5:=A2 hb5;clear hcd5 hb5)
 obtain⟨A5,hA5⟩:∃W,w5.alloc (.cells #[.slice z0 n0 t0,.slice z1 n1 t1,.slice z2 n2 t2,.slice z3 n3 t3] 27)=W:=⟨_,rfl⟩
 try rw[hA5]
 obtain⟨B5,hB5'⟩:∃B,w5.heap.size=B:=⟨_,rfl⟩
 have HR5:Hid (A5.rowIs B5 27 4 (BH #[.slice z0 n0 t0,.slice z1 n1 t1,.slice z2 n2 t2,.slice z3 n3 t3])):=by rw[←hA5,←hB5'];exact AH w5 _ _
 have HB45:Hid (Below W4.heap.size W4 A5):=by rw[←hA5];exact bel HB5.out (A0 _ _)
 have HCB5:Hid (CY A5 (.slice z0 n0 t0) (.slice z1 n1 t1) (.slice z2 n2 t2) (.slice z3 n3 t3) (AZ ES 2)):=by rw[←hA5];exact HCD5.out.below (A0 _ _)
 rw[hB5'];clear hA5 hB5' HB5 HCD5 i0 i1 i2 i3;go_upto_region 6 with(go_at_call 6;(with_reducible refine(KB.out A5 _ rF).mono ?_);rintro e w6 ⟨rfl,hb6⟩;have HB6:=A2 hb6;clear hb6)
 obtain⟨A6,hA6⟩:∃W,w6.alloc (.cells #[.slice none 0 0,.slice none 0 0,.slice none 0 0,.slice none 0 0] 27)=W:=⟨_,rfl⟩
 try rw[hA6]
 have HB56:Hid (Below A5.heap.size A5 A6):=by rw[←hA6];exact bel HB6.out (A0 _ _)
 have HB46:Hid (Below W4.heap.size W4 A6):=bel HB45.out HB56.out;have h1:=HR14.out.of_block (HB46.out.block _ HR14.out.lt);have h3:=HR34.out.of_block (HB46.out.block _ HR34.out.lt);have h5:=HR5.out.of_block (HB56.out.block _ HR5.out.lt);have g1:A6.cell? ⟨B1,1,none⟩=some (.slice x1 1 y1):=h1.cell (i:=1) dE;have g2:A6.cell? ⟨B1,2,none⟩=some (.slice x2 0 y2):=h1.cell (i:=2) dE;have g3:A6.cell? ⟨B1,3,none⟩=some (.slice x3 2 y3):=h1.cell (i:=3) dE;have i0:A6.cell? ⟨B3,0,none⟩=some (.slice (some ⟨a',0,none⟩) 1 1):=h3.cell (i:=0) dE;have i1:A6.cell? ⟨B3,1,none⟩=some (.slice (some ⟨b',0,none⟩) 3 3):=h3.cell (i:=1) dE;have i2:A6.cell? ⟨B3,2,none⟩=some (.slice (some ⟨s',0,none⟩) 1 1):=h3.cell (i:=2) dE;have i3:A6.cell? ⟨B3,3,none⟩=some (.slice (some ⟨d',0,none⟩) 5 5):=h3.cell (i:=3) dE;have j0:A6.cell? ⟨B5,0,none⟩=some (.slice z0 n0 t0):=h5.cell (i:=0) dE;have j1:A6.cell? ⟨B5,1,none⟩=some (.slice z1 n1 t1):=h5.cell (i:=1) dE;have j2:A6.cell? ⟨B5,2,none⟩=some (.slice z2 n2 t2):=h5.cell (i:=2) dE;have j3:A6.cell? ⟨B5,3,none⟩=some (.slice z3 n3 t3):=h5.cell (i:=3) dE;have KQ:=A2 (KE.out A6 _ _ _ _ _ _ _ _ (HCB5.out.below HB56.out) (HCD4.out.below HB46.out));have HBW:Hid (Below w.heap.size w A6):=bel HB4.out HB46.out;clear h1 h3 h5 hA6 HB6;go_wp2_with(go_at_call 8;(with_reducible refine(KQ.out).mono ?_);rintro e w7 ⟨rfl,hb7⟩;have HB7:=A2 hb7;clear hb7);go_ret;exact⟨rfl,bel HBW.out HB7.out⟩
theorem Hp{c:Cd}(hk:Bl c):Bl (pruneC c):=by
 refine⟨hk.signL,hk.names,Nat.le_trans (D8 _ _) hk.regsL,Nat.le_trans (D8 _ _) hk.slotsL,Nat.le_trans Et hk.listL,fun s hs=>hk.sbits s (E9 hs),fun i hi=>?_⟩;obtain⟨k,h1,-,-,e⟩:=GJ _ (Nat.le_refl _) hi;rw[e];exact hk.ibits (c.list[k]) (List.getElem_mem h1)
theorem Fp{w:World}{B:Nat}{e:TypeId}{k n:Nat}{v:Value}(h:∃xs,w.ownsRow B e k v n xs)(g j:Nat)(u:Value):∃ys,(w.setCell ⟨g,j,none⟩ u).ownsRow B e k v n ys:=by
 obtain⟨xs,h⟩:=h;by_cases hg:v.ownBlock=some g
 ·rcases h.2 with⟨rfl,_⟩|⟨g',cap,cur,rfl,_⟩
  ·cases hg
  ·have e1:g'=g:=Option.some.inj hg;subst e1;exact⟨_,(h.stored j u).1⟩
 ·exact⟨xs,A7 h fun b hb=>Below.heap_setCell _ _ _ _ (fun e9=>hg (by rw[hb,e9]))⟩
structure Js(B:Nat)(w:World)(vl vs:Value)(nl ns:Nat):Prop where
 l:∃xs,w.ownsRow B 40 7 vl nl xs
 s:∃xs,w.ownsRow B 42 3 vs ns xs
theorem Js.set{B:Nat}{w:World}{vl vs:Value}{nl ns:Nat}(h:Js B w vl vs nl ns)(g j:Nat)(u:Value):Js B (w.setCell ⟨g,j,none⟩ u) vl vs nl ns:=⟨Fp h.l g j u,Fp h.s g j u⟩
theorem Js.below{B:Nat}{w w':World}{vl vs:Value}{nl ns:Nat}(h:Js B w vl vs nl ns)(k:Below w.heap.size w w'):Js B w' vl vs nl ns:=⟨h.l.imp fun _ q=>Ak q k,h.s.imp fun _ q=>Ak q k⟩
theorem E6{w:World}{B:Nat}{e:TypeId}{k g n cap:Nat}{xs:List Value}(h:w.ownsRow B e k (.slice (some ⟨g,0,none⟩) n cap) n xs)(j:Nat)(hj:j<n):∀o,o<k->(∃z,w.cell? ⟨g,j*k+o,none⟩=some z)/\w.frozen? ⟨g,j*k+o,none⟩=false:=by
 intro o ho;have h1:j*k+o<n*k:=by
  have:(j+1)*k<=n*k:=Nat.mul_le_mul_right k oM;have e:(j+1)*k=j*k+k:=Nat.succ_mul j k;omega
 have h2:xs.length=n*k:=h.1;exact⟨⟨xs[j*k+o]'oM,by rw[h.cellAt _ h1,List.getElem?_eq_getElem]⟩,h.frozenAt _⟩
theorem Ho(v:World):Calls prog 6 #[.agg #[.slice none 0 0,.slice none 0 0,.slice none 0 0,.slice none 0 0]] v fun e w'=>∃x0 x1 x2 x3 n0 n1 n2 n3 y0 y1 y2 y3 r,e=.returned (.tuple #[.agg #[.slice x0 n0 y0,.slice x1 n1 y1,.slice x2 n2 y2,.slice x3 n3 y3],.int .i64 r])/\Below v.heap.size v w':=by
 have hok:Bl ⟨[],[],[],[]⟩:=⟨dE,dE,dE,dE,dE,dE,dE⟩
 have hv:CY v (.slice none 0 0) (.slice none 0 0) (.slice none 0 0) (.slice none 0 0) ⟨[],[],[],[]⟩:=⟨⟨none,0,rfl,.inl rfl⟩,⟨none,0,rfl,.inl rfl⟩,⟨none,0,rfl,.inl rfl⟩,⟨none,0,rfl,.inl rfl⟩⟩
 by_cases hc:(Aj ⟨[],[],[],[]⟩).1=0
 ·refine(BQ _ _ _ _ _ hok v hv hc).mono fun e w' ⟨u0,u1,u2,u3,h1,h2,h3,h4⟩=>?_;obtain⟨x0,y0,rfl,-⟩:=h2.sign;obtain⟨x1,y1,rfl,-⟩:=h2.regs;obtain⟨x2,y2,rfl,-⟩:=h2.slots;obtain⟨x3,y3,rfl,-⟩:=h2.list;exact⟨x0,x1,x2,x3,_,_,_,_,y0,y1,y2,y3,0,h1,h4⟩
 ·exact(Dp _ _ _ _ _ hok v hv hc).mono fun e w' h=>⟨none,none,none,none,0,0,0,0,0,0,0,0,160,h.1,h.2⟩
theorem Gj(v0 v1 v2 v3:Value)(c:Cd)(hk:Bl c)(w:World)(hv:CY w v0 v1 v2 v3 c)(hc:(Aj c).1≠0):
 Calls prog 4 #[.agg #[v0,v1,v2,v3]] w fun e w'=>e=.returned (.bool true)/\Below w.heap.size w w':=by
 have KR:Hid (∀v,Below w.heap.size w v->Calls prog 6 #[.agg #[v0,v1,v2,v3]] v fun e w'=>e=.returned (.tuple #[.agg #[.slice none 0 0,.slice none 0 0,.slice none 0 0,.slice none 0 0],.int .i64 160])/\Below v.heap.size v w'):=fun v hb=>Dp v0 v1 v2 v3 c hk v (hv.below hb) hc;have KN:=A2 Ho;have KS:=A2 Ej;obtain⟨p0,q0,rfl⟩:∃p q,v0=.slice p c.sign.length q:=by obtain⟨p,q,e,_⟩:=hv.sign;exact⟨p,q,e⟩
 obtain⟨p1,q1,rfl⟩:∃p q,v1=.slice p c.regs.length q:=by obtain⟨p,q,e,_⟩:=hv.regs;exact⟨p,q,e⟩
 obtain⟨p2,q2,rfl⟩:∃p q,v2=.slice p c.slots.length q:=by obtain⟨p,q,e,_⟩:=hv.slots;exact⟨p,q,e⟩
 obtain⟨p3,q3,rfl⟩:∃p q,v3=.slice p c.list.length q:=by obtain⟨p,q,e,_⟩:=hv.list;exact⟨p,q,e⟩
 clear hv hk hc;go_enter func4,ntmps4;go_upto_region 2 with(go_at_call 6;(with_reducible refine(KR.out _ (A0 _ _)).mono ?_);rintro e w1 ⟨rfl,hb1⟩;have HB1:Hid (Below w.heap.size w w1):=bel (A0 _ _) hb1;clear hb1)
 obtain⟨A1,hA1⟩:∃W,w1.alloc (.cells #[.slice none 0 0,.slice none 0 0,.slice none 0 0,.slice none 0 0] 27)=W:=⟨_,rfl⟩
 try rw[hA1]
 have HB2:Hid (Below w.heap.size w A1):=by rw[←hA1];exact bel HB1.out (A0 _ _)
 have hr:=AH w1 #[.slice none 0 0,.slice none 0 0,.slice none 0 0,.slice none 0 0] 27;rw[hA1]at hr;have i0:A1.cell? ⟨w1.heap.size,0,none⟩=some (.slice none 0 0):=hr.cell (i:=0) dE;have i1:A1.cell? ⟨w1.heap.size,1,none⟩=some (.slice none 0 0):=hr.cell (i:=1) dE;have i2:A1.cell? ⟨w1.heap.size,2,none⟩=some (.slice none 0 0):=hr.cell (i:=2) dE;have i3:A1.cell? ⟨w1.heap.size,3,none⟩=some (.slice none 0 0):=hr.cell (i:=3) dE;clear hr hA1 HB1;go_wp2_with(first
  |(go_at_call 6;(with_reducible refine(KN.out _).mono ?_);rintro e w2 ⟨x0,x1,x2,x3,n0,n1,n2,n3,y0,y1,y2,y3,r,rfl,hb2⟩;have HB3:=A2 (bel HB2.out hb2);clear hb2)
  |(go_at_call 9;(with_reducible refine(KS.out _).mono ?_);rintro e w3 ⟨rfl,hb3⟩;have HB4:=A2 hb3;clear hb3))
 go_ret;exact⟨rfl,bel (bel HB3.out (A0 _ _)) HB4.out⟩
theorem Fq(v0 v1 v2 v3:Value)(c:Cd)(hk:Bl c)(w:World)(hv:CY w v0 v1 v2 v3 c)(hc:(Aj c).1=0):
 Calls prog 4 #[.agg #[v0,v1,v2,v3]] w fun e w'=>e=.returned (.bool true)/\Below w.heap.size w w':=by
 have hg':=(DJ (Eb hc)).1;have hkD:Bl (pruneC c):=Hp hk;have K1:=A2 (fun(v:World) (hb:Below w.heap.size w v)=>BQ v0 v1 v2 v3 c hk v (hv.below hb) hc);have K2:Hid (∀ (v:World) (x0 x1 x2 x3:Value),CY v x0 x1 x2 x3 (pruneC c)->Calls prog 6 #[.agg #[x0,x1,x2,x3]] v fun e w'=>∃u0 u1 u2 u3,e=.returned (.tuple #[.agg #[u0,u1,u2,u3],.int .i64 0])/\CY w' u0 u1 u2 u3 (pruneC c)/\Kq v.heap.size w' u0 u1 u2 u3 (pruneC c)/\Below v.heap.size v w'):=fun v x0 x1 x2 x3 h=>by
  have h9:=BQ x0 x1 x2 x3 (pruneC c) hkD v h (Eb hc);rw[Fz hc]at h9;exact h9
 have KE:Hid (∀ (v:World) (x0 x1 x2 x3 y0 y1 y2 y3:Value),CY v x0 x1 x2 x3 (pruneC c)->CY v y0 y1 y2 y3 (pruneC c)->Calls prog 8 #[.agg #[x0,x1,x2,x3],.agg #[y0,y1,y2,y3]] v fun e w'=>e=.returned (.bool true)/\Below v.heap.size v w'):=fun v x0 x1 x2 x3 y0 y1 y2 y3 h1 h2=>by
  have h9:=Ec x0 x1 x2 x3 y0 y1 y2 y3 _ _ hkD hkD v h1 h2;rw[Fb]at h9;exact h9
 have KS:=A2 Ej;have HBD:Hid ((pruneC c).list.length<=32768/\(pruneC c).sign.length<=1000000):=⟨hg'.listL,by have:=hg'.signL;omega⟩
 obtain⟨D,hD⟩:∃D,pruneC c=D:=⟨_,rfl⟩
 simp only[hD]at K1 K2 KE HBD;have HVV:=A2 hv;obtain⟨p0,q0,rfl⟩:∃p q,v0=.slice p c.sign.length q:=by obtain⟨p,q,e,_⟩:=hv.sign;exact⟨p,q,e⟩
 obtain⟨p1,q1,rfl⟩:∃p q,v1=.slice p c.regs.length q:=by obtain⟨p,q,e,_⟩:=hv.regs;exact⟨p,q,e⟩
 obtain⟨p2,q2,rfl⟩:∃p q,v2=.slice p c.slots.length q:=by obtain⟨p,q,e,_⟩:=hv.slots;exact⟨p,q,e⟩
 obtain⟨p3,q3,rfl⟩:∃p q,v3=.slice p c.list.length q:=by obtain⟨p,q,e,_⟩:=hv.list;exact⟨p,q,e⟩
 obtain⟨W0,hW0⟩:∃W0,w.alloc (.cells #[.slice p0 c.sign.length q0,.slice p1 c.regs.length q1,.slice p2 c.slots.length q2,.slice p3 c.list.length q3] 27)=W0:=⟨_,rfl⟩
 have HB0:Hid (Below w.heap.size w W0):=by rw[←hW0];exact A0 _ _
 have k0:W0.cell? ⟨w.heap.size,0,none⟩=some (.slice p0 c.sign.length q0):=by rw[←hW0];simp[go_sem]
 have k1:W0.cell? ⟨w.heap.size,1,none⟩=some (.slice p1 c.regs.length q1):=by rw[←hW0];simp[go_sem]
 have k2:W0.cell? ⟨w.heap.size,2,none⟩=some (.slice p2 c.slots.length q2):=by rw[←hW0];simp[go_sem]
 have k3:W0.cell? ⟨w.heap.size,3,none⟩=some (.slice p3 c.list.length q3):=by rw[←hW0];simp[go_sem]
 obtain⟨X,hX⟩:∃X,w.heap.size=X:=⟨_,rfl⟩
 have HXX:=A2 hX;have HX0:Hid (X<W0.heap.size):=by rw[←hX];exact Ac k0
 clear hv hk hc hg' hkD hD hX;go_enter func4,ntmps4;go_upto_region 1 with fail;try rw[hW0]
 clear hW0;go_upto_region 2 with(go_at_call 6;(with_reducible refine(K1.out _ HB0.out).mono ?_);rintro e w1 ⟨u0,u1,u2,u3,rfl,hcd,how,hb1⟩;obtain⟨r0,s0,rfl⟩:∃p q,u0=.slice p D.sign.length q:=M8;obtain⟨r1,s1,rfl⟩:∃p q,u1=.slice p D.regs.length q:=M9;obtain⟨r2,s2,rfl⟩:∃p q,u2=.slice p D.slots.length q:=M7;obtain⟨r3,s3,rfl⟩:∃p q,u3=.slice p D.list.length q:=Ma;have HCA:=A2 hcd;have HB1:=A2 hb1;clear hcd how hb1)
 obtain⟨W1,hW1⟩:∃W,w1.alloc (.cells #[.slice r0 D.sign.length s0,.slice r1 D.regs.length s1,.slice r2 D.slots.length s2,.slice r3 D.list.length s3] 27)=W:=⟨_,rfl⟩
 try rw[hW1]
 obtain⟨AB,hAB⟩:∃x,w1.heap.size=x:=⟨_,rfl⟩
 have HRA:Hid (W1.rowIs AB 27 4 (BH #[.slice r0 D.sign.length s0,.slice r1 D.regs.length s1,.slice r2 D.slots.length s2,.slice r3 D.list.length s3])):=by rw[←hW1,←hAB];exact AH w1 _ _
 have HB01:Hid (Below W0.heap.size W0 W1):=by rw[←hW1];exact bel HB1.out (A0 _ _)
 have HCA1:Hid (CY W1 (.slice r0 D.sign.length s0) (.slice r1 D.regs.length s1) (.slice r2 D.slots.length s2) (.slice r3 D.list.length s3) D):=by rw[←hW1];exact HCA.out.below (A0 _ _)
 have i0:W1.cell? ⟨AB,0,none⟩=some (.slice r0 D.sign.length s0):=HRA.out.cell (i:=0) dE;have i1:W1.cell? ⟨AB,1,none⟩=some (.slice r1 D.regs.length s1):=HRA.out.cell (i:=1) dE;have i2:W1.cell? ⟨AB,2,none⟩=some (.slice r2 D.slots.length s2):=HRA.out.cell (i:=2) dE;have i3:W1.cell? ⟨AB,3,none⟩=some (.slice r3 D.list.length s3):=HRA.out.cell (i:=3) dE;rw[hAB];clear hW1 hAB HCA HB1;go_upto_region 3 with(go_at_call 6;(with_reducible refine(K2.out _ _ _ _ _ HCA1.out).mono ?_);rintro e w2 ⟨u0,u1,u2,u3,rfl,hcd,how,hb2⟩;obtain⟨x0,y0,rfl⟩:∃p q,u0=.slice p D.sign.length q:=M8;obtain⟨x1,y1,rfl⟩:∃p q,u1=.slice p D.regs.length q:=M9;obtain⟨x2,y2,rfl⟩:∃p q,u2=.slice p D.slots.length q:=M7;obtain⟨x3,y3,rfl⟩:∃p q,u3=.slice p D.list.length q:=Ma;have HCB:=A2 hcd;have HOW:=A2 how;have HB2:=A2 hb2;clear hcd how hb2)
 obtain⟨W2,hW2⟩:∃W,w2.alloc (.cells #[.slice x0 D.sign.length y0,.slice x1 D.regs.length y1,.slice x2 D.slots.length y2,.slice x3 D.list.length y3] 27)=W:=⟨_,rfl⟩
 try rw[hW2]
 obtain⟨BB,hBB⟩:∃x,w2.heap.size=x:=⟨_,rfl⟩
 have HRB:Hid (W2.rowIs BB 27 4 (BH #[.slice x0 D.sign.length y0,.slice x1 D.regs.length y1,.slice x2 D.slots.length y2,.slice x3 D.list.length y3])):=by rw[←hW2,←hBB];exact AH w2 _ _
 have HB12:Hid (Below W1.heap.size W1 W2):=by rw[←hW2];exact bel HB2.out (A0 _ _)
 have HCB2:Hid (CY W2 (.slice x0 D.sign.length y0) (.slice x1 D.regs.length y1) (.slice x2 D.slots.length y2) (.slice x3 D.list.length y3) D):=by rw[←hW2];exact HCB.out.below (A0 _ _)
 have HR2:Hid (Js W1.heap.size W2 (.slice x3 D.list.length y3) (.slice x0 D.sign.length y0) D.list.length D.sign.length):=by rw[←hW2];exact⟨⟨_,Ak HOW.out.list (A0 _ _)⟩,⟨_,Ak HOW.out.sign (A0 _ _)⟩⟩
 have HLT:Hid ((∀g,Value.ownBlock (.slice x3 D.list.length y3)=some g->W1.heap.size<=g/\g<BB)/\(∀g,Value.ownBlock (.slice x0 D.sign.length y0)=some g->W1.heap.size<=g/\g<BB)):=by
  rw[←hBB];exact⟨fun g h=>HOW.out.list.lt g h,fun g h=>HOW.out.sign.lt g h⟩
 have HBS:Hid (W1.heap.size<=BB):=by rw[←hBB];exact HB2.out.size
 rw[hBB];clear hW2 hBB HCB HB2 HOW;have l0:=kc HB12.out i0;have l1:=kc HB12.out i1;have l2:=kc HB12.out i2;have l3:=kc HB12.out i3;have j0:W2.cell? ⟨BB,0,none⟩=some (.slice x0 D.sign.length y0):=HRB.out.cell (i:=0) dE;have j1:W2.cell? ⟨BB,1,none⟩=some (.slice x1 D.regs.length y1):=HRB.out.cell (i:=1) dE;have j2:W2.cell? ⟨BB,2,none⟩=some (.slice x2 D.slots.length y2):=HRB.out.cell (i:=2) dE;have j3:W2.cell? ⟨BB,3,none⟩=some (.slice x3 D.list.length y3):=HRB.out.cell (i:=3) dE;have KQ:=A2 (KE.out W2 _ _ _ _ _ _ _ _ (HCA1.out.below HB12.out) HCB2.out);go_upto_region 7 with(go_at_call 8;(with_reducible refine(KQ.out).mono ?_);rintro e w5 ⟨rfl,hb5⟩;have HB5:=A2 hb5;clear hb5)
 clear i0 i1 i2 i3 l0 l1 l2 l3 j0 j1 j2 j3 KQ;have HCX:Hid (∀v,Un (fun b=>W1.heap.size<=b/\b<BB) W2 v->Below W1.heap.size W1 v/\v.rowIs BB 27 4 (BH #[.slice x0 D.sign.length y0,.slice x1 D.regs.length y1,.slice x2 D.slots.length y2,.slice x3 D.list.length y3])):=fun v hu=>
  ⟨HB12.out.trans (hu.below HB12.out.size (fun b e=>e.1)),HRB.out.of_block (hu.block BB HRB.out.lt (fun e=>by have:=e.2;omega))⟩
 have HI0:Hid (Un (fun b=>W1.heap.size<=b/\b<BB) W2 w5/\Js W1.heap.size w5 (.slice x3 D.list.length y3) (.slice x0 D.sign.length y0) D.list.length D.sign.length):=⟨Un.of HB5.out,HR2.out.below HB5.out⟩
 obtain⟨NL,hNL⟩:∃N,D.list.length=N:=⟨_,rfl⟩
 obtain⟨NS,hNS⟩:∃N,D.sign.length=N:=⟨_,rfl⟩
 simp only[hNL,hNS]at HCX HI0 HLT HBD HRA HCA1;have HNN:=A2 (And.intro hNL hNS);simp only[hNL,hNS];clear HB5 HR2 HCB2 HRB hNL hNS;have hbx0:w5.cell? ⟨BB,3,none⟩=some (.slice x3 NL y3):=(HCX.out w5 HI0.out.1).2.cell (i:=3) dE;go_wp2;clear hbx0
 go_loopw [7] (fun iv wr=>∃j:Nat,j<=NL/\iv=.int .i64 (j:Int)/\Hid (Un (fun b=>W1.heap.size<=b/\b<BB) W2 wr/\Js W1.heap.size wr (.slice x3 NL y3) (.slice x0 NS y0) NL NS)) (fun iv _=>NL-(intOf iv).toNat)
 case atStart=>exact⟨0,Nat.zero_le _,rfl,HI0.out⟩
 case round=>
  clear HI0;obtain⟨j,hj,rfl,HJ⟩:=hrel;have hbx:wr.cell? ⟨BB,3,none⟩=some (.slice x3 NL y3):=(HCX.out wr HJ.out.1).2.cell (i:=3) dE;have hNl:=HBD.out.1;by_cases hlt:j<NL
  ·obtain⟨xs,hox⟩:=HJ.out.2.l;obtain⟨gg,cap,e9,hg1,hg2⟩:=hox.form oM;have hlo:=HLT.out.1 gg (by rw[e9];rfl);have HT:Hid (W1.heap.size<=gg/\gg<BB):=hlo;simp only[Value.slice.injEq]at e9;obtain⟨e9,-,e8⟩:=e9;rw[e9]at hbx;have hcs:=E6 (by rw[e9]at hox;exact hox) j hlt;obtain⟨⟨u0,t0⟩,o0⟩:=hcs 0 dE;obtain⟨⟨u1,t1⟩,o1⟩:=hcs 1 dE;obtain⟨⟨u2,t2⟩,o2⟩:=hcs 2 dE;obtain⟨⟨u3,t3⟩,o3⟩:=hcs 3 dE;obtain⟨⟨u4,t4⟩,o4⟩:=hcs 4 dE;obtain⟨⟨u5,t5⟩,o5⟩:=hcs 5 dE;obtain⟨⟨u6,t6⟩,o6⟩:=hcs 6 dE;rw[Nat.add_zero]at t0 o0;have i1:(0:Int)<=(j:Int):=oM;have i2:(j:Int)<(NL:Int):=oM;have wi:IntKind.i64.wrap ((j:Int)+1)=((j+1:Nat):Int):=by rw[IntKind.wrap_i64];omega
   clear hox hcs hg1 hg2 hlo e8;go_wp2;go_roundw
   case rel=>exact⟨j+1,oM,gN,(((((((HJ.out.1.setCell Ki _).setCell Ki _).setCell Ki _).setCell Ki _).setCell Ki _).setCell Ki _).setCell Ki _),(((((((HJ.out.2.set _ _ _).set _ _ _).set _ _ _).set _ _ _).set _ _ _).set _ _ _).set _ _ _)⟩
   case measure=>simp[intOf];omega
  ·have e1:¬ (j:Int)<(NL:Int):=oM;have HI1:=HJ;have hby:wr.cell? ⟨BB,0,none⟩=some (.slice x0 NS y0):=(HCX.out wr HJ.out.1).2.cell (i:=0) dE;clear hlt hNl HJ;go_wp2;clear hbx hby
   go_loopw [8] (fun iv wr=>∃m:Nat,m<=NS/\iv=.int .i64 (m:Int)/\Hid (Un (fun b=>W1.heap.size<=b/\b<BB) W2 wr/\Js W1.heap.size wr (.slice x3 NL y3) (.slice x0 NS y0) NL NS)) (fun iv _=>NS-(intOf iv).toNat)
   case atStart=>exact⟨0,Nat.zero_le _,rfl,HI1.out⟩
   case round=>
    clear HI1;obtain⟨m,hm,rfl,HJ⟩:=hrel;have hbx:wr.cell? ⟨BB,0,none⟩=some (.slice x0 NS y0):=(HCX.out wr HJ.out.1).2.cell (i:=0) dE;have hNl:=HBD.out.2;by_cases hlt:m<NS
    ·obtain⟨xs,hox⟩:=HJ.out.2.s;obtain⟨gg,cap,e9,hg1,hg2⟩:=hox.form oM;have hlo:=HLT.out.2 gg (by rw[e9];rfl);have HT:Hid (W1.heap.size<=gg/\gg<BB):=hlo;simp only[Value.slice.injEq]at e9;obtain⟨e9,-,e8⟩:=e9;rw[e9]at hbx;have hcs:=E6 (by rw[e9]at hox;exact hox) m hlt;obtain⟨⟨u0,t0⟩,o0⟩:=hcs 0 dE;rw[Nat.add_zero]at t0 o0;have i1:(0:Int)<=(m:Int):=oM;have i2:(m:Int)<(NS:Int):=oM;have wi:IntKind.i64.wrap ((m:Int)+1)=((m+1:Nat):Int):=by rw[IntKind.wrap_i64];omega
     clear hox hcs hg1 hg2 hlo e8;go_wp2;go_roundw
     case rel=>exact⟨m+1,oM,gN,HJ.out.1.setCell Ki _,HJ.out.2.set _ _ _⟩
     case measure=>simp[intOf];omega
    ·have e2:¬ (m:Int)<(NS:Int):=oM;have HB1V:Hid (Below W1.heap.size W1 wr):=(HCX.out wr HJ.out.1).1;have HBV:Hid (Below w.heap.size w wr):=bel HB0.out (bel HB01.out HB1V.out);have c0:=kc (bel HB01.out HB1V.out) k0;have c1:=kc (bel HB01.out HB1V.out) k1;have c2:=kc (bel HB01.out HB1V.out) k2;have c3:=kc (bel HB01.out HB1V.out) k3;obtain⟨a0,a1,a2,a3⟩:wr.cell? ⟨AB,0,none⟩=some (.slice r0 NS s0)/\wr.cell? ⟨AB,1,none⟩=some (.slice r1 D.regs.length s1)/\wr.cell? ⟨AB,2,none⟩=some (.slice r2 D.slots.length s2)/\wr.cell? ⟨AB,3,none⟩=some (.slice r3 NL s3):=by
      have h9:=HRA.out.of_block (HB1V.out.block _ HRA.out.lt);exact⟨h9.cell (i:=0) dE,h9.cell (i:=1) dE,h9.cell (i:=2) dE,h9.cell (i:=3) dE⟩
     clear hlt hNl HJ k0 k1 k2 k3 K2;go_upto_region 16 with(go_at_call 6;(with_reducible refine(K1.out _ HBV.out).mono ?_);rintro e w8 ⟨u0,u1,u2,u3,rfl,hcd,how,hb8⟩;obtain⟨z0,t0,rfl⟩:∃p q,u0=.slice p D.sign.length q:=M8;obtain⟨z1,t1,rfl⟩:∃p q,u1=.slice p D.regs.length q:=M9;obtain⟨z2,t2,rfl⟩:∃p q,u2=.slice p D.slots.length q:=M7;obtain⟨z3,t3,rfl⟩:∃p q,u3=.slice p D.list.length q:=Ma;have HCD:=A2 hcd;have HB8:=A2 hb8;have d0:=kc hb8 a0;have d1:=kc hb8 a1;have d2:=kc hb8 a2;have d3:=kc hb8 a3;clear hcd how hb8)
     obtain⟨W8,hW8⟩:∃W,w8.alloc (.cells #[.slice z0 D.sign.length t0,.slice z1 D.regs.length t1,.slice z2 D.slots.length t2,.slice z3 D.list.length t3] 27)=W:=⟨_,rfl⟩
     try rw[hW8]
     have HB88:Hid (Below w8.heap.size w8 W8):=by rw[←hW8];exact A0 _ _
     have hr8:W8.rowIs w8.heap.size 27 4 (BH #[.slice z0 D.sign.length t0,.slice z1 D.regs.length t1,.slice z2 D.slots.length t2,.slice z3 D.list.length t3]):=by rw[←hW8];exact AH w8 _ _
     have m0:W8.cell? ⟨w8.heap.size,0,none⟩=some (.slice z0 D.sign.length t0):=hr8.cell (i:=0) dE;have m1:W8.cell? ⟨w8.heap.size,1,none⟩=some (.slice z1 D.regs.length t1):=hr8.cell (i:=1) dE;have m2:W8.cell? ⟨w8.heap.size,2,none⟩=some (.slice z2 D.slots.length t2):=hr8.cell (i:=2) dE;have m3:W8.cell? ⟨w8.heap.size,3,none⟩=some (.slice z3 D.list.length t3):=hr8.cell (i:=3) dE;have d0:=kc HB88.out d0;have d1:=kc HB88.out d1;have d2:=kc HB88.out d2;have d3:=kc HB88.out d3;have KQ:=A2 (KE.out W8 (.slice r0 NS s0) (.slice r1 D.regs.length s1) (.slice r2 D.slots.length s2) (.slice r3 NL s3) _ _ _ _ (HCA1.out.below (bel HB1V.out (bel HB8.out HB88.out))) (HCD.out.below HB88.out));clear hr8 hW8 HCD c0 c1 c2 c3 a0 a1 a2 a3;go_wp2_with(first
      |(go_at_call 8;(with_reducible refine(KQ.out).mono ?_);rintro e w9 ⟨rfl,hb9⟩;have HB9:=A2 hb9;clear hb9)
      |(go_at_call 9;(with_reducible refine(KS.out _).mono ?_);rintro e w10 ⟨rfl,hb10⟩;have HB10:=A2 hb10;clear hb10))
     go_ret;exact⟨rfl,bel HBV.out (bel HB8.out (bel HB88.out (bel HB9.out HB10.out)))⟩
theorem DI(v0 v1 v2 v3:Value)(c:Cd)(hk:Bl c)(hz:LN c)(w:World)(hv:CY w v0 v1 v2 v3 c):Calls prog 4 #[.agg #[v0,v1,v2,v3]] w fun e w'=>e=.returned (.bool true)/\Below w.heap.size w w':=by
 by_cases hc:(Aj c).1=0
 ·exact Fq v0 v1 v2 v3 c hk w hv hc
 ·exact Gj v0 v1 v2 v3 c hk w hv hc
end Go.Proofs.Ytchbjcldkcfffaa
