import Derived.Test.YtpoklpdgpcnkgaaGreatAgn1
import Derived.Test.YtpoklpdgpcnkgaaGreatAgn30
import Derived.Test.YtpoklpdgpcnkgaaGreatAgn28
import Derived.Test.YtpoklpdgpcnkgaaGreatAgn17
import Derived.Test.YtpoklpdgpcnkgaaGreatAgn12
import Derived.Deep.DeepCutAuto
import Derived.Test.YtpoklpdgpcnkgaaGreatAgn21
namespace Go.Proofs.YtpoklpdgpcnkgaaGreat
open Go.RowKit Go.Proofs.Tryz
set_option linter.all false
set_option maxRecDepth 100000
set_option maxHeartbeats 16000000
theorem fz_at{c:Cd}(hc:(AD c).1=0){j:Nat}(hj:j<c.list.length):BC c c.list[j]/\(c.list[j].op=35->1<=(DR c (c.list.take j)).dep)/\(DR c (c.list.take j)).dep<=64/\DR c (c.list.take (j+1))=CE c (DR c (c.list.take j)) c.list[j]:=by
 obtain⟨h1,h2,-⟩:=DI.1 hc;have ht:=EM h1;have e:c.list.take (j+1)=c.list.take j++[c.list[j]]:=List.take_succ_eq_append_getElem hj;have hsp:AQ c ⟨[],[]⟩ (c.list.take j)=true/\Am c (Bi ⟨[],[]⟩ (c.list.take j)) c.list[j]=true:=by
  have h3:AQ c ⟨[],[]⟩ (c.list.take (j+1)++c.list.drop (j+1))=true:=by rw[List.take_append_drop];exact h2
  rw[e,BE,BE]at h3;simp only[Bool.and_eq_true]at h3;refine⟨h3.1.1,?_⟩;have h4:=h3.1.2;rw[FM]at h4;simp only[Bool.and_eq_true]at h4;exact h4.1
 obtain⟨w1,w2⟩:=run_W ht _ hsp.1;obtain⟨k1,k2,-,-⟩:=As hsp.2;have hd:=Xv w2 hsp.2;refine⟨⟨k1,k2⟩,fun o=>?_,w2.le,by rw[e,GI]⟩;rw[if_neg oM,if_pos o]at hd;omega
theorem LK(c:Cd):(BT c).list=if 32768<(Dr c).length then c.list else Dr c:=by
 unfold BT;split<;>rfl
theorem LL(c:Cd):(BT c).sign=c.sign/\(BT c).regs=c.regs/\(BT c).slots=c.slots:=by
 unfold BT;split<;>exact⟨rfl,rfl,rfl⟩
theorem O8(v0 v1 v2 v3:Value)(c:Cd)(hk:B3 c)(w:World)(hv:D9 w v0 v1 v2 v3 c)(hc:(AD c).1≠0):
 Calls prog 9 #[.agg #[v0,v1,v2,v3]] w fun e w'=>e=.returned (.tuple #[.agg #[.slice none 0 0,.slice none 0 0,.slice none 0 0,.slice none 0 0],.int .i64 160])/\Below w.heap.size w w':=by
 have KC:Hid (∀v,Below w.heap.size w v->Calls prog 23 #[.agg #[v0,v1,v2,v3]] v fun e w'=>e=.returned (.tuple #[.int .i64 (AD c).1,.int .i64 (AD c).2])/\Below v.heap.size v w'):=fun v hvv=>Ls v0 v1 v2 v3 c hk v (hv.below hvv);obtain⟨e1,he1⟩:=gA ((AD c).1)
 obtain⟨e2,he2⟩:=gA ((AD c).2)
 rw[he1]at hc KC;rw[he2]at KC;have n1:(e1 != 0)=true:=by simpa using hc
 have n2:(e1==0)=false:=by simpa using hc
 obtain⟨p0,q0,rfl⟩:∃p q,v0=.slice p c.sign.length q:=by obtain⟨p,q,e,_⟩:=hv.sign;exact⟨p,q,e⟩
 obtain⟨p1,q1,rfl⟩:∃p q,v1=.slice p c.regs.length q:=by obtain⟨p,q,e,_⟩:=hv.regs;exact⟨p,q,e⟩
 obtain⟨p2,q2,rfl⟩:∃p q,v2=.slice p c.slots.length q:=by obtain⟨p,q,e,_⟩:=hv.slots;exact⟨p,q,e⟩
 obtain⟨p3,q3,rfl⟩:∃p q,v3=.slice p c.list.length q:=by obtain⟨p,q,e,_⟩:=hv.list;exact⟨p,q,e⟩
 obtain⟨W0,hW0⟩:∃W,(w.alloc (.cells #[.slice p0 c.sign.length q0,.slice p1 c.regs.length q1,.slice p2 c.slots.length q2,.slice p3 c.list.length q3] 27)).alloc (.cells #[.slice none 0 0,.slice none 0 0,.slice none 0 0,.slice none 0 0] 27)=W:=⟨_,rfl⟩
 have HB0:Hid (Below w.heap.size w W0):=by rw[<-hW0];exact bel (A0 _ _) (A0 _ _)
 have b0:W0.cell? ⟨w.heap.size,0,none⟩=some (.slice p0 c.sign.length q0):=by rw[<-hW0];simp[go_sem]
 have b1:W0.cell? ⟨w.heap.size,1,none⟩=some (.slice p1 c.regs.length q1):=by rw[<-hW0];simp[go_sem]
 have b2:W0.cell? ⟨w.heap.size,2,none⟩=some (.slice p2 c.slots.length q2):=by rw[<-hW0];simp[go_sem]
 have b3:W0.cell? ⟨w.heap.size,3,none⟩=some (.slice p3 c.list.length q3):=by rw[<-hW0];simp[go_sem]
 have HR:Hid (W0.rowIs (w.heap.size+1) 27 4 (Jg #[.slice none 0 0,.slice none 0 0,.slice none 0 0,.slice none 0 0])):=by
  show World.rowIs _ _ _ _ _;rw[<-hW0];have h9:=D7 (w.alloc (.cells #[.slice p0 c.sign.length q0,.slice p1 c.regs.length q1,.slice p2 c.slots.length q2,.slice p3 c.list.length q3] 27)) #[.slice none 0 0,.slice none 0 0,.slice none 0 0,.slice none 0 0] 27;rw[show(w.alloc (.cells #[.slice p0 c.sign.length q0,.slice p1 c.regs.length q1,.slice p2 c.slots.length q2,.slice p3 c.list.length q3] 27)).heap.size=w.heap.size+1 by simp]at h9;exact h9
 clear hv hk he1 he2;go_enter func9,ntmps9;go_upto_region 1 with fail;try rw[hW0]
 go_wp2_with(go_at_call 23;refine(KC.out _ HB0.out).mono ?_;rintro e w1 ⟨rfl,hb1⟩;have HB1:=Ab hb1;have HR1:=Ab (HR.of_block (hb1.block _ HR.lt));have r0:w1.cell? ⟨w.heap.size+1,0,none⟩=some (.slice none 0 0):=HR1.cell (i:=0) dE;have r1:w1.cell? ⟨w.heap.size+1,1,none⟩=some (.slice none 0 0):=HR1.cell (i:=1) dE;have r2:w1.cell? ⟨w.heap.size+1,2,none⟩=some (.slice none 0 0):=HR1.cell (i:=2) dE;have r3:w1.cell? ⟨w.heap.size+1,3,none⟩=some (.slice none 0 0):=HR1.cell (i:=3) dE;have f0:=HR1.frozen 0;have f1:=HR1.frozen 1;have f2:=HR1.frozen 2;have f3:=HR1.frozen 3;clear hb1);refine bodyPost_ret (by simp[results,results9,go_sem, *];try rfl) rfl ?_;have hle:w.heap.size<=w.heap.size+1:=Nat.le_succ _;exact⟨rfl,((((bel HB0.out HB1.out).setCell hle _).setCell hle _).setCell hle _).setCell hle _⟩
theorem LJ(v0 v1 v2 v3:Value)(c:Cd)(hk:B3 c)(w:World)(hv:D9 w v0 v1 v2 v3 c)(hc:(AD c).1=0):
 Calls prog 9 #[.agg #[v0,v1,v2,v3]] w fun e w'=>∃u0 u1 u2 u3,e=.returned (.tuple #[.agg #[u0,u1,u2,u3],.int .i64 0])/\D9 w' u0 u1 u2 u3 (BT c)/\UC w.heap.size w' u0 u1 u2 u3 (BT c)/\Below w.heap.size w w':=by
 obtain⟨hg,htk⟩:=ET hc;have KC:Hid (∀v,Below w.heap.size w v->Calls prog 23 #[.agg #[v0,v1,v2,v3]] v fun e w'=>e=.returned (.tuple #[.int .i64 0,.int .i64 (AD c).2])/\Below v.heap.size v w'):=fun v hvv=>by have:=Ls v0 v1 v2 v3 c hk v (hv.below hvv);rw[hc]at this;exact this
 obtain⟨e2,he2⟩:=gA ((AD c).2)
 rw[he2]at KC;have K0:Hid (∀v,Below w.heap.size w v->Calls prog 28 #[v0] v fun e w'=>∃p d,e=.returned (.slice p c.sign.length d)/\w'.ownsRow v.heap.size 53 3 (.slice p c.sign.length d) c.sign.length (AN AW c.sign)/\Below v.heap.size v w'):=fun v hvv=>(SF v0 c.sign v (hv.sign.below hvv) (by have:=hg.signL;omega)).mono fun e w' ⟨p,d,h1,h2,h4,h3⟩=>⟨p,d,h1,h4,h3⟩
 have K1:Hid (∀v,Below w.heap.size w v->Calls prog 29 #[v1] v fun e w'=>∃p d,e=.returned (.slice p c.regs.length d)/\w'.ownsRow v.heap.size 47 2 (.slice p c.regs.length d) c.regs.length (AN Hh c.regs)/\Below v.heap.size v w'):=fun v hvv=>(UR v1 c.regs v (hv.regs.below hvv) (by have:=hg.regsL;omega)).mono fun e w' ⟨p,d,h1,h2,h4,h3⟩=>⟨p,d,h1,h4,h3⟩
 have K2:Hid (∀v,Below w.heap.size w v->Calls prog 30 #[v2] v fun e w'=>∃p d,e=.returned (.slice p c.slots.length d)/\w'.ownsRow v.heap.size 49 5 (.slice p c.slots.length d) c.slots.length (AN Ln c.slots)/\Below v.heap.size v w'):=fun v hvv=>(UQ v2 c.slots v (hv.slots.below hvv) (by have:=hg.slotsL;omega)).mono fun e w' ⟨p,d,h1,h2,h4,h3⟩=>⟨p,d,h1,h4,h3⟩
 have K3:Hid (∀v,Below w.heap.size w v->Calls prog 27 #[v3] v fun e w'=>∃p d,e=.returned (.slice p c.list.length d)/\w'.ownsRow v.heap.size 45 7 (.slice p c.list.length d) c.list.length (AN Di c.list)/\Below v.heap.size v w'):=fun v hvv=>(SC v3 c.list v (hv.list.below hvv) (by have:=hg.listL;omega)).mono fun e w' ⟨p,d,h1,h2,h4,h3⟩=>⟨p,d,h1,h4,h3⟩
 have HFZ:=Ab (fun(j:Nat) (hj:j<c.list.length)=>fz_at hc hj);have HTY:Hid (Al c=true):=EM (DI.1 hc).1;have HBG:=Ab (Yd c);have hS1:=hg.signL;have hR1:=hg.regsL;have HVV:=Ab hv;obtain⟨p0,q0,rfl⟩:∃p q,v0=.slice p c.sign.length q:=by obtain⟨p,q,e,_⟩:=hv.sign;exact⟨p,q,e⟩
 obtain⟨p1,q1,rfl⟩:∃p q,v1=.slice p c.regs.length q:=by obtain⟨p,q,e,_⟩:=hv.regs;exact⟨p,q,e⟩
 obtain⟨p2,q2,rfl⟩:∃p q,v2=.slice p c.slots.length q:=by obtain⟨p,q,e,_⟩:=hv.slots;exact⟨p,q,e⟩
 obtain⟨p3,q3,rfl⟩:∃p q,v3=.slice p c.list.length q:=by obtain⟨p,q,e,_⟩:=hv.list;exact⟨p,q,e⟩
 have hL1:=hg.listL;have KN:Hid (∀ (v:World),Below w.heap.size w v->∀C,v.cell? ⟨C,0,none⟩=some (.slice p0 c.sign.length q0)->Calls prog 24 #[.pointer (some ⟨C,0,none⟩)] v fun e w'=>e=.returned (.pointer (some ⟨v.heap.size+1,0,none⟩))/\Below v.heap.size v w'/\CH v.heap.size c c.sign.length Hf w' (v.heap.size+1) C v.heap.size (.slice none 0 0) (fun _=>.slice none 0 0) (fun _=>none) (fun _=>none) (fun _=>0)):=fun v hb C h1=>Vh c v C p0 q0 h1 oM;have HFL:=Ab (LK c);have HFR:=Ab (LL c);have hFE:Dr c=(A9 Bt (DR c c.list) c.sign.length).left:=rfl;have HFE:=Ab hFE;obtain⟨N0,hN0⟩:∃N,c.sign.length=N:=⟨_,rfl⟩
 obtain⟨N1,hN1⟩:∃N,c.regs.length=N:=⟨_,rfl⟩
 obtain⟨N2,hN2⟩:∃N,c.slots.length=N:=⟨_,rfl⟩
 obtain⟨N3,hN3⟩:∃N,c.list.length=N:=⟨_,rfl⟩
 simp only[hN0,hN1,hN2,hN3]at KC K0 K1 K2 K3 KN hL1 hS1 hR1 HVV HFE |-;have HN:Hid (c.sign.length=N0/\c.regs.length=N1/\c.slots.length=N2/\c.list.length=N3):=⟨hN0,hN1,hN2,hN3⟩
 obtain⟨W0,hW0⟩:∃W,(w.alloc (.cells #[.slice p0 N0 q0,.slice p1 N1 q1,.slice p2 N2 q2,.slice p3 N3 q3] 27)).alloc (.cells #[.slice none 0 0,.slice none 0 0,.slice none 0 0,.slice none 0 0] 27)=W:=⟨_,rfl⟩
 have HB0:Hid (Below w.heap.size w W0):=by rw[<-hW0];exact bel (A0 _ _) (A0 _ _)
 have b0:W0.cell? ⟨w.heap.size,0,none⟩=some (.slice p0 N0 q0):=by rw[<-hW0];simp[go_sem]
 have b1:W0.cell? ⟨w.heap.size,1,none⟩=some (.slice p1 N1 q1):=by rw[<-hW0];simp[go_sem]
 have b2:W0.cell? ⟨w.heap.size,2,none⟩=some (.slice p2 N2 q2):=by rw[<-hW0];simp[go_sem]
 have b3:W0.cell? ⟨w.heap.size,3,none⟩=some (.slice p3 N3 q3):=by rw[<-hW0];simp[go_sem]
 have HR:Hid (W0.rowIs (w.heap.size+1) 27 4 (Jg #[.slice none 0 0,.slice none 0 0,.slice none 0 0,.slice none 0 0])):=by
  show World.rowIs _ _ _ _ _;rw[<-hW0];have h9:=D7 (w.alloc (.cells #[.slice p0 N0 q0,.slice p1 N1 q1,.slice p2 N2 q2,.slice p3 N3 q3] 27)) #[.slice none 0 0,.slice none 0 0,.slice none 0 0,.slice none 0 0] 27;rw[show(w.alloc (.cells #[.slice p0 N0 q0,.slice p1 N1 q1,.slice p2 N2 q2,.slice p3 N3 q3] 27)).heap.size=w.heap.size+1 by simp]at h9;exact h9
 clear hFE hv hk he2 hg htk hc hN0 hN1 hN2 hN3;go_enter func9,ntmps9;go_upto_region 1 with fail;try rw[hW0]
 clear hW0;go_upto_block 0 with(first
  |(go_at_call 23;(with_reducible refine(KC.out _ HB0.out).mono ?_);rintro e w1 ⟨rfl,hb1⟩;have HB1:=Ab (bel HB0.out hb1);have HR1:=Ab (HR.out.of_block (hb1.block _ HR.out.lt));have c0:=kc hb1 b0;have c1:=kc hb1 b1;have c2:=kc hb1 b2;have c3:=kc hb1 b3;clear hb1 b0 b1 b2 b3)
  |(go_at_call 24;(with_reducible refine(KN.out _ HB1.out _ c0).mono ?_);rintro e w2 ⟨rfl,hb2,hwk⟩;have HWK:=Ab hwk;have HB2:=Ab hb2;have d3:=kc hb2 c3;clear hb2 hwk))
 obtain⟨E,hE⟩:=gA (w1.heap.size)
 have HEN:Hid (w.heap.size+1<E/\w.heap.size<=E):=by rw[<-hE];have h9:=HR1.lt;exact⟨h9,oM⟩
 rw[hE]at HWK HB2;have HE:=Ab hE;try rw[hE]
 obtain⟨B,hB⟩:=gA (E+1)
 have HBE1:=Ab hB;rw[hB]at HWK;try rw[hB]
 have HK0:Hid (Below E w1 w2/\∃lv vl mv mn tag,CH E c N0 (DR c (c.list.take 0)) w2 B w.heap.size E lv vl mv mn tag):=⟨HB2.out,_,_,_,_,_,HWK.out⟩
 have HCC:Hid (∀v,Below E w1 v->v.cell? ⟨w.heap.size,0,none⟩=some (.slice p0 N0 q0)/\v.cell? ⟨w.heap.size,1,none⟩=some (.slice p1 N1 q1)/\v.cell? ⟨w.heap.size,2,none⟩=some (.slice p2 N2 q2)/\v.cell? ⟨w.heap.size,3,none⟩=some (.slice p3 N3 q3)/\AT 2 Hh v (.slice p1 N1 q1) c.regs/\v.rowIs (w.heap.size+1) 27 4 (Jg #[.slice none 0 0,.slice none 0 0,.slice none 0 0,.slice none 0 0])):=fun v hv=>by
  have h1:=HEN.1;have k:∀ {a:Addr} {x:Value},a.block<E->w1.cell? a=some x->v.cell? a=some x:=fun{a x} ha hx=>(gC (hv.block a.block ha)).trans hx;have h2:=HVV.regs.below HB1.out;refine⟨k Zhg c0,k Zhg c1,k Zhg c2,k Zhg c3,(HVV.regs.below (HB1.trans (hv.mono HEN.2))),?_⟩;exact HR1.of_block (hv.block _ h1)
 clear HWK HB2 KN hE hB c0 c1 c2 c3 HR HR1 KC;go_wp2_with fail;clear d3
 go_loopw [22] (fun iv wr=>∃j:Nat,j<=N3/\iv=.int .i64 (j:Int)/\Hid (Below E w1 wr/\∃lv vl mv mn tag,CH E c N0 (DR c (c.list.take j)) wr B w.heap.size E lv vl mv mn tag)) (fun iv _=>N3-(intOf iv).toNat)
 case atStart=>exact⟨0,gI _,rfl,HK0.out⟩
 case round=>
  clear HK0;obtain⟨j,hj,rfl,HJ⟩:=hrel;have hbE:Below w.heap.size w wr:=HB1.trans (HJ.1.mono HEN.2);have HBE:=Ab hbE;clear hbE;by_cases hlt:j<N3
  .have hjl:j<c.list.length:=by have:=HN.out;omega
   obtain⟨hbj,lv,vl,mv,mn,tag,hwk⟩:=HJ.out;obtain⟨lb,lo,rfl,hcl⟩:=(HVV.list.below HBE.out).at hjl;obtain⟨f1,f2,f3,hsu⟩:=HFZ.out j hjl;have hbg:=HBG.out (c.list.take j);have htl:(c.list.take j).length<=32768:=by rw[List.length_take];omega
   have KT:Hid (∀v,Below wr.heap.size wr v->Calls prog 25 #[.pointer (some ⟨B,0,none⟩),By c.list[j]] v fun e w'=>e=.returned (.tuple #[])/\Below E v w'/\∃lv vl mv mn tg,CH E c N0 (DR c (c.list.take (j+1))) w' B w.heap.size E lv vl mv mn tg):=fun v hv=>by
    rw[hsu];have hn:=HN.out;have h9:=T0 E c (DR c (c.list.take j)) v B w.heap.size E lv vl mv mn tag (by rw[hn.1];exact hwk.below hv) HTY.out c.list[j] f1 oM oM p1 q1 (fun u hu=>by
     obtain⟨-,k1,-,-,k4,-⟩:=HCC.out u ((hbj.trans (hv.mono hwk.le)).trans hu);rw[hn.2.1]
     exact⟨k1,k4⟩) oM f2 oM
    rw[hn.1]at h9;exact h9
   obtain⟨⟨op,d,a,b,e,n,z⟩,hi⟩:∃i,c.list[j]=i:=⟨_,rfl⟩
   rw[hi]at hcl KT;have HLE:=Ab hwk.le;have y0:=hcl.at 0 (v:=.int .i64 op) rfl;rw[Nat.add_zero]at y0;have y1:=hcl.at 1 (v:=.int .i64 d) rfl;have y2:=hcl.at 2 (v:=.int .i64 a) rfl;have y3:=hcl.at 3 (v:=.int .i64 b) rfl;have y4:=hcl.at 4 (v:=.int .i64 e) rfl;have y5:=hcl.at 5 (v:=.int .i64 n) rfl;have y6:=hcl.at 6 (v:=.int .u32 z) rfl;have llb:lb<wr.heap.size:=A6 y0;have n9:¬lb=wr.heap.size:=oM;have i1:(0:Int)<=(j:Int):=oM;have i2:(j:Int)<(N3:Int):=oM;have wi:IntKind.i64.wrap ((j:Int)+1)=((j+1:Nat):Int):=by rw[IntKind.wrap_i64];omega
   obtain⟨V2,hV2⟩:∃V,wr.alloc (.cells #[.int .i64 op,.int .i64 d,.int .i64 a,.int .i64 b,.int .i64 e,.int .i64 n,.int .u32 z] 45)=V:=⟨_,rfl⟩
   have HV2:Hid (Below wr.heap.size wr V2):=by rw[<-hV2];exact A0 _ _
   have hX2:V2.rowIs wr.heap.size 45 7 (bxF op d a b e n z):=by rw[<-hV2];exact D7 wr _ _
   have x0:V2.cell? ⟨wr.heap.size,0,none⟩=some (.int .i64 op):=hX2.cell (i:=0) dE;have x1:V2.cell? ⟨wr.heap.size,1,none⟩=some (.int .i64 d):=hX2.cell (i:=1) dE;have x2:V2.cell? ⟨wr.heap.size,2,none⟩=some (.int .i64 a):=hX2.cell (i:=2) dE;have x3:V2.cell? ⟨wr.heap.size,3,none⟩=some (.int .i64 b):=hX2.cell (i:=3) dE;have x4:V2.cell? ⟨wr.heap.size,4,none⟩=some (.int .i64 e):=hX2.cell (i:=4) dE;have x5:V2.cell? ⟨wr.heap.size,5,none⟩=some (.int .i64 n):=hX2.cell (i:=5) dE;have x6:V2.cell? ⟨wr.heap.size,6,none⟩=some (.int .u32 z):=hX2.cell (i:=6) dE;unfold By at KT;simp only at KT;clear hwk hcl hi hsu hbj llb hX2 f1 f2 f3 hbg htl;go_wp2_with(go_at_call 25;(with_reducible refine(KT.out _ HV2.out).mono ?_);rintro e9 w4 ⟨rfl,hb4,hw4⟩;have HB4:=Ab hb4;have HW4:=Ab hw4;clear hb4 hw4);go_roundw
   case rel=>
    refine⟨j+1,oM,gN,?_,HW4.out⟩;exact HJ.1.trans ((HV2.mono HLE.out).trans HB4.out)
   case measure=>simp[intOf];omega
  .have e1:¬ (j:Int)<(N3:Int):=oM;have hje:c.list.take j=c.list:=by rw[List.take_of_length_le];have:=HN.out;omega
   have KA:Hid (Calls prog 26 #[.pointer (some ⟨B,0,none⟩)] wr fun e w'=>e=.returned (.tuple #[])/\Hid (Below E w1 w'/\∃pl ql,w'.cell? ⟨B,3,none⟩=some (.slice pl (Dr c).length ql)/\w'.ownsRow E 45 7 (.slice pl (Dr c).length ql) (Dr c).length (AN Di (Dr c)))):=by
    obtain⟨hbj,lv,vl,mv,mn,tag,hwk⟩:=HJ.out;rw[hje]at hwk;have hbg:=HBG.out c.list;have hn:=HN.out;refine(GV E c N0 (DR c c.list) wr B w.heap.size E lv vl mv mn tag hwk oM fun k hk=>?_).mono fun e w' ⟨x1,x2,x3,x4,x5,x6,x7,x8,_⟩=>?_
    .have h1:=G6 (p:=k) (n:=N0) hk (A9 Bt (DR c c.list) k);have h2:=Cy (n:=N0) Bt (DR c c.list) k oM;rw[hn.1]at hbg;omega
    .have ho:=x8.lf;rw[<-HFE.out]at ho;have hcl:w'.cell? ⟨B,3,none⟩=some x3:=x8.b.cell (i:=3) dE;obtain⟨pl,ql,rfl⟩:=AM ho;exact⟨x1,hbj.trans x2,pl,ql,hcl,ho⟩
   clear hlt hje HFZ HBG;obtain⟨FL,hFL⟩:∃k,(Dr c).length=k:=⟨_,rfl⟩
   have HFN:=Ab hFL;rw[hFL]at KA HFL;obtain⟨T,hT⟩:∃t,decide ((32768:Int)<(FL:Int))=t:=⟨_,rfl⟩
   have HT:=Ab hT;clear hFL HJ;go_upto_if 38 with(go_at_call 26;(with_reducible refine KA.out.mono ?_);rintro e9 w4 ⟨rfl,hk⟩;obtain⟨hb4,pl,ql,b3,ho4⟩:=hk.out;have HB4:=Ab hb4;have HO4:=Ab ho4;clear hb4 ho4 hk)
   clear b3;obtain⟨g0,g1,g2,g3,-⟩:=HCC.out w4 HB4.out;have HBW:Hid (Below w.heap.size w w4):=HB1.trans (HB4.mono HEN.2);have HW4:Hid (E<=w4.heap.size):=by
    have h9:=HB4.size;have h8:=HE.out;show _<=_;omega
   go_cut [9] (fun lv wx=>Hid (∃p m q,lv=.slice p m q/\m=(BT c).list.length/\wx.ownsRow E 45 7 (.slice p m q) m (AN Di (BT c).list)/\Below w4.heap.size w4 wx))
   case first=>
    cases T with
    |true=>
     have hfl:(BT c).list=c.list:=by
      rw[HFL.out,if_pos (by have:=HT.out;simp at this;omega)]
     have HFC:=Ab hfl;clear hfl;go_wp2_with(go_at_call 27;(with_reducible refine(K3.out _ HBW.out).mono ?_);rintro e w5 ⟨s3,d3,rfl,hr3,hb5⟩;have HR3:=Ab hr3;have HB5:=Ab hb5;clear hr3 hb5);go_meet;refine⟨_,_,_,rfl,by rw[HFC.out,HN.out.2.2.2],?_,HB5.out⟩;rw[HFC.out];exact BY HR3.out HW4.out
    |false=>
     have hfl:(BT c).list=Dr c:=by
      rw[HFL.out,if_neg (by have:=HT.out;simp at this;omega)]
     have HFC:=Ab hfl;clear hfl;go_wp2;go_meet;refine⟨_,_,_,rfl,by rw[HFC.out,HFN.out],?_,BP _⟩;rw[HFC.out];exact HO4.out
   case rest=>
    rename World=>wx;obtain⟨pl9,nl,ql9,rfl,hnl,hox,hbx⟩:=hcut.out;have HLF:=Ab hox;have HNL:=Ab hnl;have HBX0:Hid (Below E w1 wx):=HB4.trans (hbx.mono HW4.out);have HBXE:Hid (Below w.heap.size w wx):=HBW.trans (hbx.mono HBW.size);have HWL:Hid (w.heap.size+1<wx.heap.size):=by have h9:=hbx.size;have h8:=HW4.out;have h7:=HEN.1;show _<_;omega
    have HBX:Hid (∀v,Below wx.heap.size wx v->v.cell? ⟨w.heap.size,0,none⟩=some (.slice p0 N0 q0)/\v.cell? ⟨w.heap.size,1,none⟩=some (.slice p1 N1 q1)/\v.cell? ⟨w.heap.size,2,none⟩=some (.slice p2 N2 q2)/\v.rowIs (w.heap.size+1) 27 4 (Jg #[.slice none 0 0,.slice none 0 0,.slice none 0 0,.slice none 0 0])):=fun v hv=>by
     have h9:=hbx.size;have h8:=HW4.out;obtain⟨k0,k1,k2,-,-,k5⟩:=HCC.out v (HBX0.trans (hv.mono oM));exact⟨k0,k1,k2,k5⟩
    clear g0 g1 g2 g3 hcut hnl hox hbx HFL HT hT HFN KA HO4;obtain⟨g0,g1,g2,-⟩:=HBX.out wx (BP _);go_upto_region 14 with fail;refine rG (fun v=>v.cell? ⟨w.heap.size,0,none⟩=some (.slice p0 N0 q0)/\v.cell? ⟨w.heap.size,1,none⟩=some (.slice p1 N1 q1)/\v.cell? ⟨w.heap.size,2,none⟩=some (.slice p2 N2 q2)) fun yH=>?_;refine Tf 0 1 3 4 6 7 ?_;refine BF 9 ?_;clear yH;refine AG 2 fun K hK=>?_;go_simp;(go_at_call 28;(with_reducible refine(K0.out _ (bel HBXE.out (B4 _))).mono ?_);rintro e u1 ⟨s0,d0,rfl,hr0,hb2⟩;have HR0:=Ab hr0;have HU1:Hid (Below wx.heap.size wx u1):=bel (B4 _) hb2;obtain⟨g0,g1,g2,-⟩:=HBX.out u1 HU1.out;clear hr0 hb2);try(go_wp2_with fail)
    refine AE hK fun yH=>?_;clear hK K;clear yH;refine AG 5 fun K hK=>?_;go_simp;(go_at_call 29;(with_reducible refine(K1.out _ (bel HBXE.out HU1.out)).mono ?_);rintro e u2 ⟨s1,d1,rfl,hr1,hb2⟩;have HR1:=Ab hr1;have HU2:=Ab hb2;obtain⟨g0,g1,g2,-⟩:=HBX.out u2 (bel HU1.out HU2.out);clear hr1 hb2);try(go_wp2_with fail)
    refine AE hK fun yH=>?_;clear hK K;clear yH;refine AG 8 fun K hK=>?_;go_simp;(go_at_call 30;(with_reducible refine(K2.out _ (bel HBXE.out (bel HU1.out HU2.out))).mono ?_);rintro e u3 ⟨s2,d2,rfl,hr2,hb2⟩;have HR2:=Ab hr2;have HU3:=Ab hb2;obtain⟨g0,g1,g2,hrw⟩:=HBX.out u3 (bel HU1.out (bel HU2.out HU3.out));have HRW:=Ab hrw;have r0:u3.cell? ⟨w.heap.size+1,0,none⟩=some (.slice none 0 0):=hrw.cell (i:=0) dE;have r1:u3.cell? ⟨w.heap.size+1,1,none⟩=some (.slice none 0 0):=hrw.cell (i:=1) dE;have r2:u3.cell? ⟨w.heap.size+1,2,none⟩=some (.slice none 0 0):=hrw.cell (i:=2) dE;have r3:u3.cell? ⟨w.heap.size+1,3,none⟩=some (.slice none 0 0):=hrw.cell (i:=3) dE;have f0:=hrw.frozen 0;have f1:=hrw.frozen 1;have f2:=hrw.frozen 2;have f3:=hrw.frozen 3;clear hr2 hb2 hrw);try(go_wp2_with fail)
    refine AE hK fun yH=>?_;clear hK K;refine BF 10 ?_;clear yH;refine AG 11 fun K hK=>?_;go_simp;refine AE hK fun yH=>?_;clear hK K;refine BF 12 ?_;refine wpAnyH_done kR ?_ _;go_wp2;refine bodyPost_ret (by simp[results,results9,go_sem, *];try rfl) rfl ?_;obtain⟨rfl,rfl,rfl,rfl⟩:=HN.out;obtain rfl:nl=(BT c).list.length:=HNL.out;have k4:∀b,b≠w.heap.size+1->((((u3.setCell ⟨w.heap.size+1,0,none⟩ (.slice s0 c.sign.length d0)).setCell ⟨w.heap.size+1,1,none⟩ (.slice s1 c.regs.length d1)).setCell ⟨w.heap.size+1,2,none⟩ (.slice s2 c.slots.length d2)).setCell ⟨w.heap.size+1,3,none⟩ (.slice pl9 (BT c).list.length ql9)).heap[b]? =u3.heap[b]? :=fun b hb=>(gE hb).trans ((gE hb).trans ((gE hb).trans (gE hb)));have hwl:=HWL.out;have l1:=HU1.size;have l2:=HU2.size;have o0:=Ap (Aq HR0.out (bel HU2.out HU3.out)) (fun g hg=>k4 g (by have h9:=(HR0.lt g hg).1;have h8:wx.heap.size<=g:=h9;omega));have o1:=Ap (Aq HR1.out HU3.out) (fun g hg=>k4 g (by have h9:=(HR1.lt g hg).1;omega));have o2:=Ap HR2.out (fun g hg=>k4 g (by have h9:=(HR2.lt g hg).1;omega));have o3:=Ap (Aq HLF.out (bel HU1.out (bel HU2.out HU3.out))) (fun g hg=>k4 g (by have h9:=(HLF.lt g hg).1;have:=HEN.out;omega));obtain⟨r1,r2,r3⟩:=HFR.out;have hO:UC w.heap.size _ (.slice s0 c.sign.length d0) (.slice s1 c.regs.length d1) (.slice s2 c.slots.length d2) (.slice pl9 (BT c).list.length ql9) (BT c):=⟨by rw[r1];exact BY o0 (by have h8:wx.drew.heap.size=wx.heap.size:=rfl;omega),by rw[r2];exact BY o1 oM,by rw[r3];exact BY o2 oM,BY o3 HEN.2⟩
    have hle:w.heap.size<=w.heap.size+1:=Nat.le_succ _;exact⟨_,_,_,_,rfl,⟨CD Fh hO.sign,CD GK hO.regs,CD Ic hO.slots,CD CP hO.list⟩,hO,((((bel HBXE.out (bel HU1.out (bel HU2.out HU3.out))).setCell hle _).setCell hle _).setCell hle _).setCell hle _⟩
def Ms(Q:Int->Prop)(s:Fz):Prop:=(∀j∈s.left,Q j.bits)/\∀p,∀j∈s.wait p,Q j.bits
section
variable {Q : Int -> Prop} {s : Fz}
theorem Ms.write(h0:Q 0)(h:Ms Q s)(p:Nat):Ms Q (Bv s p):=by
 refine⟨fun j hj=>?_,fun q j hj=>?_⟩
 .have hj':j∈s.left++D4 s.dep p (s.wait p):=hj;rcases List.mem_append.1 hj' with e|e
  .exact h.1 j e
  .unfold D4 at e;split at e
   .cases e
   .split at e
    .exact h.2 p j e
    .rcases List.mem_cons.1 e with q|q
     .rw[q];exact h0
     .rcases List.mem_append.1 q with r|r
      .exact h.2 p j r
      .simp only[List.mem_singleton]at r;rw[r];exact h0
 .have hj':j∈(if q=p then [] else s.wait q):=hj;split at hj'
  .cases hj'
  .exact h.2 q j hj'
theorem Ms.flush(h0:Q 0)(h:Ms Q s)(q:List Ad->Bool):∀m,Ms Q (A9 q s m)
 |0=>h
 |m+1=>by
  have h1:=Ms.flush h0 h q m;unfold A9;split
  .exact h1.write h0 m
  .exact h1
theorem Ms.app(h:Ms Q s){i:Ad}(hi:Q i.bits)(d:Nat):Ms Q (Jf s i d):=⟨fun j hj=>(List.mem_append.1 hj).elim (h.1 j) fun e=>by simp only[List.mem_singleton]at e;rw[e];exact hi,h.2⟩
theorem Ms.take(h0:Q 0)(h:Ms Q s)(c:Cd){i:Ad}(hi:Q i.bits):Ms Q (CE c s i):=by
 unfold CE;split
 .exact h
 .split
  .refine⟨h.1,fun p j hj=>?_⟩;have hj':j∈(if p=BJ c i then s.wait p++[i]else s.wait p):=hj;split at hj'
   .rcases List.mem_append.1 hj' with e|e
    .exact h.2 p j e
    .simp only[List.mem_singleton]at e;rw[e];exact hi
   .exact h.2 p j hj'
  .split
   .exact(h.flush h0 _ _).app hi _
   .split
    .exact(h.flush h0 _ _).app hi _
    .exact(h.flush h0 _ _).app hi _
theorem Ms.run(h0:Q 0)(c:Cd):∀ (l:List Ad) (s:Fz),(∀i∈l,Q i.bits)->Ms Q s->Ms Q (l.foldl (CE c) s)
 |[],s,_,h=>h
 |i::l,s,hl,h=>by
  rw[List.foldl_cons];exact Ms.run h0 c l _ (fun k hk=>hl k (List.mem_cons_of_mem i hk)) (h.take h0 c (hl i sM))
end
theorem O9{c:Cd}(hc:(AD c).1=0)(hk:B3 c):B3 (BT c):=by
 have hg:=(ET (MQ hc)).1;obtain⟨r1,r2,r3⟩:=LL c;refine⟨by rw[r1];exact hk.signL,by rw[r1];exact hk.names,by rw[r2];exact hk.regsL,by rw[r3];exact hk.slotsL,by have:=hg.listL;omega,by rw[r3];exact hk.sbits,?_⟩;rw[LK];split
 .exact hk.ibits
 .have h:Ms (fun b=>0<=b/\b<4294967296) (DR c c.list):=Ms.run oM c c.list Hf hk.ibits ⟨fun j h=>Zhx,fun p j h=>Zhx⟩;exact(h.flush oM Bt c.sign.length).1
def A8(c:Cd):Cd:=if(AD c).1=0 then BT c else⟨[],[],[],[]⟩
def Rf(c:Cd):Int:=if(AD c).1=0 then 0 else 160
theorem O7{c:Cd}(hk:B3 c):B3 (A8 c):=by
 unfold A8;split
 .rename_i h;exact O9 h hk
 .exact⟨dE,dE,dE,dE,dE,dE,dE⟩
theorem T5(c:Cd):(A8 c).list.length<=32768/\(A8 c).regs.length<=16384/\(A8 c).slots.length<=4096:=by
 unfold A8;split
 .rename_i h;have hg:=(ET (MQ h)).1;exact⟨hg.listL,hg.regsL,hg.slotsL⟩
 .exact⟨dE,dE,dE⟩
theorem Vm(v0 v1 v2 v3:Value)(c:Cd)(hk:B3 c)(w:World)(hv:D9 w v0 v1 v2 v3 c):
 Calls prog 9 #[.agg #[v0,v1,v2,v3]] w fun e w'=>∃u0 u1 u2 u3,e=.returned (.tuple #[.agg #[u0,u1,u2,u3],.int .i64 (Rf c)])/\D9 w' u0 u1 u2 u3 (A8 c)/\UC w.heap.size w' u0 u1 u2 u3 (A8 c)/\Below w.heap.size w w':=by
 by_cases hc:(AD c).1=0
 .have e1:Rf c=0:=if_pos hc;have e2:A8 c=BT c:=if_pos hc;rw[e1,e2];exact LJ v0 v1 v2 v3 c hk w hv hc
 .have e1:Rf c=160:=if_neg hc;have e2:A8 c=⟨[],[],[],[]⟩:=if_neg hc;rw[e1,e2];exact(O8 v0 v1 v2 v3 c hk w hv hc).mono fun e w' ⟨h1,h2⟩=>⟨_,_,_,_,h1,⟨⟨none,0,rfl,.inl rfl⟩,⟨none,0,rfl,.inl rfl⟩,⟨none,0,rfl,.inl rfl⟩,⟨none,0,rfl,.inl rfl⟩⟩,⟨World.ownsRow_nil _ _ _ 3,World.ownsRow_nil _ _ _ 2,World.ownsRow_nil _ _ _ 5,World.ownsRow_nil _ _ _ 7⟩,h2⟩
def tuC:Cd:=⟨[⟨sName,1,2⟩],[⟨3,0⟩,⟨3,0⟩],[],[⟨29,0,0,0,0,0,0⟩,⟨12,1,0,0,0,0,0⟩,⟨31,0,1,0,0,0,0⟩]⟩
theorem Xy:(AD tuC).1=0:=by decide+kernel
theorem tu_ok:B3 tuC:=⟨dE,dE,dE,dE,dE,dE,dE⟩
theorem ZG:(BT tuC).list=[Ci 0,⟨29,0,0,0,0,0,0⟩,⟨12,1,0,0,0,0,0⟩,⟨31,0,1,0,0,0,0⟩,CR]:=by decide+kernel
theorem QK(w:World):Calls prog 32 #[] w fun e w'=>∃a b d,e=.returned (.agg #[.slice (some ⟨a,0,none⟩) 1 1,.slice (some ⟨b,0,none⟩) 2 2,.slice none 0 0,.slice (some ⟨d,0,none⟩) 3 3])/\D9 w' (.slice (some ⟨a,0,none⟩) 1 1) (.slice (some ⟨b,0,none⟩) 2 2) (.slice none 0 0) (.slice (some ⟨d,0,none⟩) 3 3) tuC/\Below w.heap.size w w':=by
 go_enter func32,ntmps32;go_wp2;refine bodyPost_ret (by simp[results,results32,go_sem];try rfl) rfl ?_;refine⟨_,_,_,rfl,?_,gG⟩;exact⟨(Ko (l:=tuC.sign) Fh _ _ _ rF 1 sM).below (A0 _ _),Ko (l:=tuC.regs) GK _ _ _ rF 2 sM,⟨none,0,rfl,.inl rfl⟩,((Ko (l:=tuC.list) CP _ _ _ rF 3 sM).below (A0 _ _)).below (A0 _ _)⟩
theorem QG(w:World)(FB:Nat):AT 2 stC (w.alloc (.cells #[.slice (some ⟨FB,0,none⟩) 1 1,.slice (some ⟨FB,0,none⟩) 1 1] 73)) (.slice (some ⟨w.heap.size,0,none⟩) 1 1) [stS FB]:=
 Nm (l:=[stS FB]) ZC w #[.slice (some ⟨FB,0,none⟩) 1 1,.slice (some ⟨FB,0,none⟩) 1 1] 73 rfl 1
theorem PN{c:Cd}(hc:(AD c).1=0)(hk:B3 c):Hl c (BT c):=T6 hc hk fun l G P a b d e f=>((Qo hc hk).step l G P a b d e f).2.2
theorem Nv(c:Cd)(hck:B3 c)(hc:(AD c).1=0)(i1 i2 i3:Ad)(hl3:(BT c).list=[Ci 0,i1,i2,i3,CR])(hsum:∀w:World,Calls prog 32 #[] w fun e w'=>∃a b d,e=.returned (.agg #[.slice (some ⟨a,0,none⟩) 1 1,.slice (some ⟨b,0,none⟩) 2 2,.slice none 0 0,.slice (some ⟨d,0,none⟩) 3 3])/\D9 w' (.slice (some ⟨a,0,none⟩) 1 1) (.slice (some ⟨b,0,none⟩) 2 2) (.slice none 0 0) (.slice (some ⟨d,0,none⟩) 3 3) c/\Below w.heap.size w w')(w:World):Calls prog 12 #[] w fun e w'=>e=.returned (.bool true)/\Below w.heap.size w w':=by
 have KR:=Ab (fun(v:World) (v0 v1 v2 v3:Value) (h:D9 v v0 v1 v2 v3 c)=>LJ v0 v1 v2 v3 c hck v h hc);have KB:Hid (∀ (v:World) (n:Nat),v.heap.size=n->Calls prog 9 #[.agg #[.slice none 0 0,.slice none 0 0,.slice none 0 0,.slice (some ⟨n,0,none⟩) 1 1]] (v.alloc (.cells #[.int .i64 35,.int .i64 0,.int .i64 0,.int .i64 0,.int .i64 0,.int .i64 0,.int .u32 0] 45)) fun e w'=>e=.returned (.tuple #[.agg #[.slice none 0 0,.slice none 0 0,.slice none 0 0,.slice none 0 0],.int .i64 160])/\Below v.heap.size v w'):=fun v n hn=>by
  subst hn;exact(O8 (.slice none 0 0) (.slice none 0 0) (.slice none 0 0) (.slice (some ⟨v.heap.size,0,none⟩) 1 1) Yq end_ok _ ⟨⟨none,0,rfl,.inl rfl⟩,⟨none,0,rfl,.inl rfl⟩,⟨none,0,rfl,.inl rfl⟩,Nm (l:=Yq.list) CP v _ _ rF 1⟩ SS).mono fun e w' h=>⟨h.1,bel (A0 _ _) h.2⟩
 have KM:Hid (∀ (v:World) (v0 v1 v2 v3 u0 u1 u2 u3:Value) (FB SB:Nat),D9 v v0 v1 v2 v3 c->D9 v u0 u1 u2 u3 (BT c)->AT 2 stC v (.slice (some ⟨SB,0,none⟩) 1 1) [stS FB]->StV v (stS FB)->Calls prog 16 #[.agg #[v0,v1,v2,v3],.agg #[u0,u1,u2,u3],.slice (some ⟨SB,0,none⟩) 1 1,.int .i64 0] v fun e w'=>e=.returned (.bool true)/\Below v.heap.size v w'):=fun v v0 v1 v2 v3 u0 u1 u2 u3 FB SB h1 h2 h3 h4=>
  Ok v0 v1 v2 v3 u0 u1 u2 u3 _ c (BT c) hck (O9 hc hck) hc (MQ hc) (PN hc hck) [stS FB] (by show 1<=140737488351232;omega) 0 (gI _) v h1 h2 h3 (fun s hs=>by simp only[List.mem_singleton]at hs;subst hs;exact h4)
 have HLN:Hid ((BT c).list.length=5):=(by rw[hl3];rfl)
 have HL5:=Ab hl3;have KSU:=Ab hsum;clear hsum hck hc hl3;go_enter func12,ntmps12;go_upto_region 4 with(first
  |(go_at_call 32;(with_reducible refine(KSU.out _).mono ?_);rintro e w1 ⟨a,b,d,rfl,hcd,hb1⟩;have HC1:=Ab hcd;have HB1:=Ab hb1;clear hcd hb1)
  |(go_at_call 9;(with_reducible refine(KR.out _ _ _ _ _ HC1.out).mono ?_);rintro e w2 ⟨u0,u1,u2,u3,rfl,hcd,-,hb2⟩;have HC2:=Ab hcd;have HB2:=Ab hb2;obtain⟨p3,q3,h3,_⟩:=hcd.list;rw[HLN.out]at h3;subst h3;obtain⟨p0,n0,q0,rfl⟩:∃p n q,u0=.slice p n q:=(by obtain⟨p,q,e,_⟩:=hcd.sign;exact⟨p,_,q,e⟩);obtain⟨p1,n1,q1,rfl⟩:∃p n q,u1=.slice p n q:=(by obtain⟨p,q,e,_⟩:=hcd.regs;exact⟨p,_,q,e⟩);obtain⟨p2,n2,q2,rfl⟩:∃p n q,u2=.slice p n q:=(by obtain⟨p,q,e,_⟩:=hcd.slots;exact⟨p,_,q,e⟩);clear hcd hb2)
  |(go_at_call 9;(with_reducible refine(KB.out _ _ sM).mono ?_);rintro e w3 ⟨rfl,hb3⟩;have HB3:=Ab hb3;clear hb3))
 have hcl:=HC2.list;rw[HL5.out]at hcl;obtain⟨lb,lo,rfl,hc0⟩:=hcl.at (i:=0) sM;obtain⟨lb',lo',hlb,hc4⟩:=hcl.at (i:=4) sM;simp only[Option.some.injEq,Addr.mk.injEq,and_true]at hlb;obtain⟨rfl,rfl⟩:=hlb;have o0:=hc0.at 0 (v:=.int .i64 36) rfl;have o4:=hc4.at 0 (v:=.int .i64 37) rfl;simp only[Nat.zero_mul,Nat.add_zero]at o0 o4;clear hcl hc0 hc4;obtain⟨W4,hW4⟩:∃W,((w3.alloc (.cells #[.slice none 0 0,.slice none 0 0,.slice none 0 0,.slice none 0 0] 27)).alloc (.cells #[.int .u32 1065353216,.int .u32 1073741824] 43)).alloc (.cells #[.slice (some ⟨w3.heap.size+1,0,none⟩) 2 2] 70)=W:=⟨_,rfl⟩
 have HA4:Hid (Below w3.heap.size w3 W4):=by rw[<-hW4];exact bel (bel (A0 _ _) (A0 _ _)) (A0 _ _)
 have HVC:Hid (StV W4 (stS (w3.heap.size+1+1))):=by
  have h9:=vc_new (w3.alloc (.cells #[.slice none 0 0,.slice none 0 0,.slice none 0 0,.slice none 0 0] 27));rw[show(w3.alloc (.cells #[.slice none 0 0,.slice none 0 0,.slice none 0 0,.slice none 0 0] 27)).heap.size=w3.heap.size+1 by simp,hW4]at h9;exact⟨h9,h9,Xq,Xq⟩
 have HAW:Hid (Below w2.heap.size w2 W4):=bel (A0 _ _) (bel HB3.out HA4.out);have HC4:=Ab (HC2.below HAW.out);have HBW:Hid (Below w.heap.size w W4):=bel HB1.out (bel HB2.out HAW.out);have d0:W4.cell? ⟨w2.heap.size,0,none⟩=some (.slice p0 n0 q0):=kc (bel HB3.out HA4.out) sG;have d1:W4.cell? ⟨w2.heap.size,1,none⟩=some (.slice p1 n1 q1):=kc (bel HB3.out HA4.out) sG;have d2:W4.cell? ⟨w2.heap.size,2,none⟩=some (.slice p2 n2 q2):=kc (bel HB3.out HA4.out) sG;have d3:W4.cell? ⟨w2.heap.size,3,none⟩=some (.slice (some ⟨lb,lo,none⟩) 5 q3):=kc (bel HB3.out HA4.out) sG;try rw[hW4]
 obtain⟨FB,hFB⟩:∃F,w3.heap.size+1+1=F:=⟨_,rfl⟩
 rw[hFB]at HVC;try rw[hFB]
 have d4:W4.cell? ⟨lb,lo,none⟩=some (.int .i64 36):=kc HAW.out o0;have d5:W4.cell? ⟨lb,lo+4*7,none⟩=some (.int .i64 37):=kc HAW.out o4;simp only[Nat.reduceMul]at d5;clear o0 o4;clear hW4 HA4 HAW HB1 HB2 HB3 HC1 HC2;have z0:=(fun o=>kc (A0 W4 o) d0)
 have z1:=(fun o=>kc (A0 W4 o) d1)
 have z2:=(fun o=>kc (A0 W4 o) d2)
 have z3:=(fun o=>kc (A0 W4 o) d3)
 have z4:=(fun o=>kc (A0 W4 o) d4)
 have z5:=(fun o=>kc (A0 W4 o) d5)
 refine rG (fun v=>v.cell? ⟨w2.heap.size,0,none⟩=some (.slice p0 n0 q0)/\v.cell? ⟨w2.heap.size,1,none⟩=some (.slice p1 n1 q1)/\v.cell? ⟨w2.heap.size,2,none⟩=some (.slice p2 n2 q2)/\v.cell? ⟨w2.heap.size,3,none⟩=some (.slice (some ⟨lb,lo,none⟩) 5 q3)/\v.cell? ⟨lb,lo,none⟩=some (.int .i64 36)/\v.cell? ⟨lb,lo+28,none⟩=some (.int .i64 37)) fun yH=>?_;refine Tf 0 1 2 3 4 5 ?_;refine Tf 6 7 8 9 10 11 ?_;refine Tf 12 13 14 15 16 17 ?_;refine Tf 18 19 20 21 22 23 ?_;refine Tf 24 25 26 27 28 30 ?_;refine Tc 31 32 33 ?_;clear yH;refine wpAnyH_ready (rs:=[29,34]) kR sM ?_;refine Im 29 (fun K hK=>?_) ?_
 .go_simp;(go_at_call 32;(with_reducible refine(KSU.out _).mono ?_);rintro e w5 ⟨a5,b5,e5,rfl,k1,k5⟩;have HC5:=Ab k1;have HB5:Hid (Below W4.heap.size W4 w5):=Zfq;(try(have HRB:=Ab (((QG W4 FB).below (A7 _)).below k5)));have c0:=kc HB5.out d0;have x0:=(fun o=>kc (A0 w5 o) c0);have c1:=kc HB5.out d1;have x1:=(fun o=>kc (A0 w5 o) c1);have c2:=kc HB5.out d2;have x2:=(fun o=>kc (A0 w5 o) c2);have c3:=kc HB5.out d3;have x3:=(fun o=>kc (A0 w5 o) c3);have c4:=kc HB5.out d4;have x4:=(fun o=>kc (A0 w5 o) c4);have c5:=kc HB5.out d5;have x5:=(fun o=>kc (A0 w5 o) c5);clear k1 k5);try(go_wp2_with fail)
  refine AE hK fun yH=>?_;clear hK K;clear yH;refine AG 34 fun K hK=>?_;go_simp;exact Zbh
 refine Im 34 (fun K hK=>?_) AllReadyH.nil;go_simp;refine AE hK fun yH=>?_;clear hK K;clear yH;refine AG 29 fun K hK=>?_;go_simp;(go_at_call 32;(with_reducible refine(KSU.out _).mono ?_);rintro e w5 ⟨a5,b5,e5,rfl,k1,k5⟩;have HC5:=Ab k1;have HB5:Hid (Below W4.heap.size W4 w5):=Zfq;(try(have HRB:=Ab (((QG W4 FB).below (A7 _)).below k5)));have c0:=kc HB5.out d0;have x0:=(fun o=>kc (A0 w5 o) c0);have c1:=kc HB5.out d1;have x1:=(fun o=>kc (A0 w5 o) c1);have c2:=kc HB5.out d2;have x2:=(fun o=>kc (A0 w5 o) c2);have c3:=kc HB5.out d3;have x3:=(fun o=>kc (A0 w5 o) c3);have c4:=kc HB5.out d4;have x4:=(fun o=>kc (A0 w5 o) c4);have c5:=kc HB5.out d5;have x5:=(fun o=>kc (A0 w5 o) c5);clear k1 k5);try(go_wp2_with fail)
 exact Zbh
theorem P4(w:World):Calls prog 12 #[] w fun e w'=>e=.returned (.bool true)/\Below w.heap.size w w':=
 Nv tuC tu_ok Xy _ _ _ ZG QK w
theorem Nd{w:World}{B:Nat}{e:TypeId}{k n:Nat}{v:Value}(h:∃xs,w.ownsRow B e k v n xs)(g j:Nat)(u:Value):∃ys,(w.setCell ⟨g,j,none⟩ u).ownsRow B e k v n ys:=by
 obtain⟨xs,h⟩:=h;by_cases hg:v.ownBlock=some g
 .rcases h.2 with⟨rfl,_⟩|⟨g',cap,cur,rfl,_⟩
  .cases hg
  .have e1:g'=g:=Option.some.inj hg;subst e1;exact⟨_,(h.stored j u).1⟩
 .exact⟨xs,Ap h fun b hb=>gE (fun e9=>hg (by rw[hb,e9]))⟩
structure R3(B:Nat)(w:World)(vl vr vs:Value)(nl nr ns:Nat):Prop where
 l:∃xs,w.ownsRow B 45 7 vl nl xs
 r:∃xs,w.ownsRow B 47 2 vr nr xs
 s:∃xs,w.ownsRow B 49 5 vs ns xs
theorem R3.set{B:Nat}{w:World}{vl vr vs:Value}{nl nr ns:Nat}(h:R3 B w vl vr vs nl nr ns)(g j:Nat)(u:Value):R3 B (w.setCell ⟨g,j,none⟩ u) vl vr vs nl nr ns:=⟨Nd h.l g j u,Nd h.r g j u,Nd h.s g j u⟩
theorem R3.below{B:Nat}{w w':World}{vl vr vs:Value}{nl nr ns:Nat}(h:R3 B w vl vr vs nl nr ns)(k:Below w.heap.size w w'):R3 B w' vl vr vs nl nr ns:=
 ⟨h.l.imp fun _ q=>Aq q k,h.r.imp fun _ q=>Aq q k,h.s.imp fun _ q=>Aq q k⟩
theorem H8{w:World}{B:Nat}{e:TypeId}{k g n cap:Nat}{xs:List Value}(h:w.ownsRow B e k (.slice (some ⟨g,0,none⟩) n cap) n xs)(j:Nat)(hj:j<n):∀o,o<k->(∃z,w.cell? ⟨g,j*k+o,none⟩=some z)/\w.frozen? ⟨g,j*k+o,none⟩=false:=by
 intro o ho;have h1:j*k+o<n*k:=by
  have:(j+1)*k<=n*k:=Nat.mul_le_mul_right k oM;have e:(j+1)*k=j*k+k:=Nat.succ_mul j k;omega
 have h2:xs.length=n*k:=h.1;exact⟨⟨xs[j*k+o]'oM,by rw[h.cellAt _ h1,gB]⟩,h.frozenAt _⟩
theorem KZ(v0 v1 v2 v3:Value)(c:Cd)(hk:B3 c)(hz:CdSz c)(w:World)(hv:D9 w v0 v1 v2 v3 c):
 Calls prog 6 #[.agg #[v0,v1,v2,v3]] w fun e w'=>e=.returned (.bool true)/\Below w.heap.size w w':=by
 have KT:=Ab (fun(v:World) (h:Below w.heap.size w v)=>QL v0 v1 v2 v3 c hz v (hv.below h));have KR:=Ab (fun(v:World) (x0 x1 x2 x3:Value) (h:D9 v x0 x1 x2 x3 c)=>Vm x0 x1 x2 x3 c hk v h);have KW:=Ab P4;have KED:Hid (∀ (v:World) (x0 x1 x2 x3 y0 y1 y2 y3:Value),D9 v x0 x1 x2 x3 (A8 c)->D9 v y0 y1 y2 y3 (A8 c)->Calls prog 10 #[.agg #[x0,x1,x2,x3],.agg #[y0,y1,y2,y3]] v fun e w'=>e=.returned (.bool true)/\Below v.heap.size v w'):=fun v x0 x1 x2 x3 y0 y1 y2 y3 h1 h2=>by
  have h9:=Qj x0 x1 x2 x3 y0 y1 y2 y3 (A8 c) (A8 c) (O7 hk) (O7 hk) v h1 h2;rw[V8]at h9;exact h9
 have HBD:=Ab (T5 c);obtain⟨FE,hFE⟩:∃e,Rf c=e:=⟨_,rfl⟩
 rw[hFE]at KR;have hfe:(FE != FE)=false:=sM;obtain⟨p0,q0,rfl⟩:∃p q,v0=.slice p c.sign.length q:=by obtain⟨p,q,e,_⟩:=hv.sign;exact⟨p,q,e⟩
 obtain⟨p1,q1,rfl⟩:∃p q,v1=.slice p c.regs.length q:=by obtain⟨p,q,e,_⟩:=hv.regs;exact⟨p,q,e⟩
 obtain⟨p2,q2,rfl⟩:∃p q,v2=.slice p c.slots.length q:=by obtain⟨p,q,e,_⟩:=hv.slots;exact⟨p,q,e⟩
 obtain⟨p3,q3,rfl⟩:∃p q,v3=.slice p c.list.length q:=by obtain⟨p,q,e,_⟩:=hv.list;exact⟨p,q,e⟩
 have HVV:=Ab hv;obtain⟨W0,hW0⟩:=gA (w.alloc (.cells #[.slice p0 c.sign.length q0,.slice p1 c.regs.length q1,.slice p2 c.slots.length q2,.slice p3 c.list.length q3] 27))
 have HB0:Hid (Below w.heap.size w W0):=by rw[<-hW0];exact A0 _ _
 have k0:W0.cell? ⟨w.heap.size,0,none⟩=some (.slice p0 c.sign.length q0):=by rw[<-hW0];simp[go_sem]
 have k1:W0.cell? ⟨w.heap.size,1,none⟩=some (.slice p1 c.regs.length q1):=by rw[<-hW0];simp[go_sem]
 have k2:W0.cell? ⟨w.heap.size,2,none⟩=some (.slice p2 c.slots.length q2):=by rw[<-hW0];simp[go_sem]
 have k3:W0.cell? ⟨w.heap.size,3,none⟩=some (.slice p3 c.list.length q3):=by rw[<-hW0];simp[go_sem]
 clear hv hk hz hFE;go_enter func6,ntmps6;go_upto_region 1 with fail;try rw[hW0]
 clear hW0;go_upto_region 2 with(first
  |(go_at_call 8;(with_reducible refine(KT.out _ HB0.out).mono ?_);rintro e w1 ⟨u0,u1,u2,u3,rfl,hcd,how,hb1⟩;obtain⟨a0,b0,rfl⟩:∃p q,u0=.slice p c.sign.length q:=Zgd;obtain⟨a1,b1,rfl⟩:∃p q,u1=.slice p c.regs.length q:=Zge;obtain⟨a2,b2,rfl⟩:∃p q,u2=.slice p c.slots.length q:=Zgc;obtain⟨a3,b3,rfl⟩:∃p q,u3=.slice p c.list.length q:=Zgf;have HCD1:=Ab hcd;have HB1:=Ab (bel HB0.out hb1);have HBT1:=Ab hb1;have m0:=kc hb1 (k0);have m1:=kc hb1 (k1);have m2:=kc hb1 (k2);have m3:=kc hb1 (k3);clear hcd how hb1)
  |(go_at_call 9;(with_reducible refine(KR.out _ _ _ _ _ HCD1.out).mono ?_);rintro e w2 ⟨u0,u1,u2,u3,rfl,hcd,-,hb2⟩;obtain⟨r0,s0,rfl⟩:∃p q,u0=.slice p (A8 c).sign.length q:=Zgd;obtain⟨r1,s1,rfl⟩:∃p q,u1=.slice p (A8 c).regs.length q:=Zge;obtain⟨r2,s2,rfl⟩:∃p q,u2=.slice p (A8 c).slots.length q:=Zgc;obtain⟨r3,s3,rfl⟩:∃p q,u3=.slice p (A8 c).list.length q:=Zgf;have HCA:=Ab hcd;have HB2:=Ab (bel HB1.out hb2);have HB02:Hid (Below W0.heap.size W0 w2):=bel HBT1.out hb2;clear hcd hb2))
 clear m0 m1 m2 m3;obtain⟨W2,hW2⟩:∃W,w2.alloc (.cells #[.slice r0 (A8 c).sign.length s0,.slice r1 (A8 c).regs.length s1,.slice r2 (A8 c).slots.length s2,.slice r3 (A8 c).list.length s3] 27)=W:=⟨_,rfl⟩
 have HW2:Hid (Below w2.heap.size w2 W2/\W2.heap.size=w2.heap.size+1/\W2.rowIs w2.heap.size 27 4 (Jg #[.slice r0 (A8 c).sign.length s0,.slice r1 (A8 c).regs.length s1,.slice r2 (A8 c).slots.length s2,.slice r3 (A8 c).list.length s3])):=by rw[<-hW2];exact⟨A0 _ _,sM,D7 w2 _ _⟩
 try rw[hW2]
 clear hW2;have HBW2:Hid (Below w.heap.size w W2/\Below W0.heap.size W0 W2):=⟨bel HB2.out HW2.1,bel HB02.out HW2.1⟩
 have l0:=kc HBW2.2 k0;have l1:=kc HBW2.2 k1;have l2:=kc HBW2.2 k2;have l3:=kc HBW2.2 k3;go_upto_region 3 with(first
  |(go_at_call 8;(with_reducible refine(KT.out _ HBW2.out.1).mono ?_);rintro e w3 ⟨u0,u1,u2,u3,rfl,hcd,how,hb1⟩;obtain⟨aa0,ab0,rfl⟩:∃p q,u0=.slice p c.sign.length q:=Zgd;obtain⟨aa1,ab1,rfl⟩:∃p q,u1=.slice p c.regs.length q:=Zge;obtain⟨aa2,ab2,rfl⟩:∃p q,u2=.slice p c.slots.length q:=Zgc;obtain⟨aa3,ab3,rfl⟩:∃p q,u3=.slice p c.list.length q:=Zgf;have HCD3:=Ab hcd;have HB3:=Ab hb1;clear hcd how hb1)
  |(go_at_call 9;(with_reducible refine(KR.out _ _ _ _ _ HCD3.out).mono ?_);rintro e w4 ⟨u0,u1,u2,u3,rfl,hcd,how,hb4⟩;obtain⟨x0,y0,rfl⟩:∃p q,u0=.slice p (A8 c).sign.length q:=Zgd;obtain⟨x1,y1,rfl⟩:∃p q,u1=.slice p (A8 c).regs.length q:=Zge;obtain⟨x2,y2,rfl⟩:∃p q,u2=.slice p (A8 c).slots.length q:=Zgc;obtain⟨x3,y3,rfl⟩:∃p q,u3=.slice p (A8 c).list.length q:=Zgf;have HCB:=Ab hcd;have HOW:=Ab how;have HB4:=Ab hb4;clear hcd how hb4))
 clear l0 l1 l2 l3;obtain⟨W4,hW4⟩:∃W,w4.alloc (.cells #[.slice x0 (A8 c).sign.length y0,.slice x1 (A8 c).regs.length y1,.slice x2 (A8 c).slots.length y2,.slice x3 (A8 c).list.length y3] 27)=W:=⟨_,rfl⟩
 have HW4:Hid (Below w4.heap.size w4 W4/\W4.heap.size=w4.heap.size+1/\W4.rowIs w4.heap.size 27 4 (Jg #[.slice x0 (A8 c).sign.length y0,.slice x1 (A8 c).regs.length y1,.slice x2 (A8 c).slots.length y2,.slice x3 (A8 c).list.length y3])):=by rw[<-hW4];exact⟨A0 _ _,sM,D7 w4 _ _⟩
 try rw[hW4]
 clear hW4;have HBW4:Hid (Below W2.heap.size W2 W4):=bel HB3.out (bel HB4.out HW4.1);have HTN:Hid (W2.heap.size<=w3.heap.size/\w3.heap.size<=w4.heap.size/\w.heap.size<W0.heap.size/\W0.heap.size<=w2.heap.size/\w2.heap.size<W2.heap.size):=⟨HB3.size,HB4.size,A6 k0,HB02.size,by have:=HW2.2.1;omega⟩
 obtain⟨AB,hAB⟩:∃x,w2.heap.size=x:=⟨_,rfl⟩
 obtain⟨BB,hBB⟩:∃x,w4.heap.size=x:=⟨_,rfl⟩
 have HRA:Hid (W4.rowIs AB 27 4 (Jg #[.slice r0 (A8 c).sign.length s0,.slice r1 (A8 c).regs.length s1,.slice r2 (A8 c).slots.length s2,.slice r3 (A8 c).list.length s3])):=by
  have h9:=HW2.2.2.of_block (HBW4.block _ HW2.2.2.lt);rw[hAB]at h9;exact h9
 have HRB:Hid (W4.rowIs BB 27 4 (Jg #[.slice x0 (A8 c).sign.length y0,.slice x1 (A8 c).regs.length y1,.slice x2 (A8 c).slots.length y2,.slice x3 (A8 c).list.length y3])):=by
  have h9:=HW4.2.2;rw[hBB]at h9;exact h9
 have HCA4:=Ab (HCA.below (bel HW2.1 HBW4.out));have HCB4:=Ab (HCB.below HW4.1);have HR3:Hid (R3 w3.heap.size W4 (.slice x3 (A8 c).list.length y3) (.slice x1 (A8 c).regs.length y1) (.slice x2 (A8 c).slots.length y2) (A8 c).list.length (A8 c).regs.length (A8 c).slots.length):=⟨⟨_,Aq HOW.list HW4.1⟩,⟨_,Aq HOW.regs HW4.1⟩,⟨_,Aq HOW.slots HW4.1⟩⟩
 have HLT:Hid ((∀g,Value.ownBlock (.slice x3 (A8 c).list.length y3)=some g->w3.heap.size<=g/\g<BB)/\(∀g,Value.ownBlock (.slice x1 (A8 c).regs.length y1)=some g->w3.heap.size<=g/\g<BB)/\(∀g,Value.ownBlock (.slice x2 (A8 c).slots.length y2)=some g->w3.heap.size<=g/\g<BB)):=by
  rw[<-hBB];exact⟨fun g h=>HOW.list.lt g h,fun g h=>HOW.regs.lt g h,fun g h=>HOW.slots.lt g h⟩
 have HN:Hid (w.heap.size<AB/\AB<w3.heap.size/\w3.heap.size<=BB/\BB<W4.heap.size/\W0.heap.size<=AB/\w.heap.size<W0.heap.size):=by
  have h1:=HTN.out;have h2:=HW4.2.1;rw[hAB,hBB]at h1;rw[hBB]at h2;refine⟨?_,?_,?_,?_,?_,?_⟩<;>omega
 rw[hAB,hBB];have HW0W:Hid (Below W0.heap.size W0 W4/\Below w.heap.size w W4):=⟨bel HBW2.2 HBW4.out,bel HBW2.1 HBW4.out⟩
 clear hAB hBB;have i0:W4.cell? ⟨AB,0,none⟩=some (.slice r0 (A8 c).sign.length s0):=HRA.cell (i:=0) dE;have i1:W4.cell? ⟨AB,1,none⟩=some (.slice r1 (A8 c).regs.length s1):=HRA.cell (i:=1) dE;have i2:W4.cell? ⟨AB,2,none⟩=some (.slice r2 (A8 c).slots.length s2):=HRA.cell (i:=2) dE;have i3:W4.cell? ⟨AB,3,none⟩=some (.slice r3 (A8 c).list.length s3):=HRA.cell (i:=3) dE;have j0:W4.cell? ⟨BB,0,none⟩=some (.slice x0 (A8 c).sign.length y0):=HRB.cell (i:=0) dE;have j1:W4.cell? ⟨BB,1,none⟩=some (.slice x1 (A8 c).regs.length y1):=HRB.cell (i:=1) dE;have j2:W4.cell? ⟨BB,2,none⟩=some (.slice x2 (A8 c).slots.length y2):=HRB.cell (i:=2) dE;have j3:W4.cell? ⟨BB,3,none⟩=some (.slice x3 (A8 c).list.length y3):=HRB.cell (i:=3) dE;have HCX:Hid (∀v,Un (fun b=>w3.heap.size<=b/\b<BB) W4 v->(v.cell? ⟨w.heap.size,0,none⟩=some (.slice p0 c.sign.length q0)/\v.cell? ⟨w.heap.size,1,none⟩=some (.slice p1 c.regs.length q1)/\v.cell? ⟨w.heap.size,2,none⟩=some (.slice p2 c.slots.length q2)/\v.cell? ⟨w.heap.size,3,none⟩=some (.slice p3 c.list.length q3))/\(v.cell? ⟨AB,0,none⟩=some (.slice r0 (A8 c).sign.length s0)/\v.cell? ⟨AB,1,none⟩=some (.slice r1 (A8 c).regs.length s1)/\v.cell? ⟨AB,2,none⟩=some (.slice r2 (A8 c).slots.length s2)/\v.cell? ⟨AB,3,none⟩=some (.slice r3 (A8 c).list.length s3))/\D9 v (.slice p0 c.sign.length q0) (.slice p1 c.regs.length q1) (.slice p2 c.slots.length q2) (.slice p3 c.list.length q3) c/\D9 v (.slice r0 (A8 c).sign.length s0) (.slice r1 (A8 c).regs.length s1) (.slice r2 (A8 c).slots.length s2) (.slice r3 (A8 c).list.length s3) (A8 c)/\Below w.heap.size w v/\v.rowIs BB 27 4 (Jg #[.slice x0 (A8 c).sign.length y0,.slice x1 (A8 c).regs.length y1,.slice x2 (A8 c).slots.length y2,.slice x3 (A8 c).list.length y3])):=fun v hu=>by
  obtain⟨h1,h2,h3,h4,h5,h6⟩:=HN.out;have b0:Below W0.heap.size W0 v:=HW0W.1.trans (hu.below HW0W.1.size (fun b e=>by have:=e.1;omega));have bw:Below w.heap.size w v:=HW0W.2.trans (hu.below HW0W.2.size (fun b e=>by have:=e.1;omega));have ra:=HRA.of_block (hu.block AB HRA.lt (fun e=>by have:=e.1;omega));have rb:=HRB.of_block (hu.block BB HRB.lt (fun e=>by have:=e.2;omega));have ca:Below W2.heap.size W2 v:=HBW4.trans (hu.below HBW4.size (fun b e=>by have:=e.1;have:=HTN.out;omega));refine⟨⟨kc b0 k0,kc b0 k1,kc b0 k2,kc b0 k3⟩,⟨ra.cell (i:=0) dE,ra.cell (i:=1) dE,ra.cell (i:=2) dE,ra.cell (i:=3) dE⟩,HVV.below bw,(HCA.below HW2.1).below ca,bw,rb⟩
 clear k0 k1 k2 k3;go_upto_block 0 with(go_at_call 10;(with_reducible refine(KED.out _ _ _ _ _ _ _ _ _ HCA4.out HCB4.out).mono ?_);rintro e w5 ⟨rfl,hb5⟩;have HB5:=Ab hb5;clear hb5)
 have HI0:Hid (Un (fun b=>w3.heap.size<=b/\b<BB) W4 w5/\R3 w3.heap.size w5 (.slice x3 (A8 c).list.length y3) (.slice x1 (A8 c).regs.length y1) (.slice x2 (A8 c).slots.length y2) (A8 c).list.length (A8 c).regs.length (A8 c).slots.length):=⟨Un.of HB5.out,HR3.below HB5.out⟩
 clear i0 i1 i2 i3 j0 j1 j2 j3 HB5;go_cut [7] (fun iv wx=>Hid (Un (fun b=>w3.heap.size<=b/\b<BB) W4 wx/\R3 w3.heap.size wx (.slice x3 (A8 c).list.length y3) (.slice x1 (A8 c).regs.length y1) (.slice x2 (A8 c).slots.length y2) (A8 c).list.length (A8 c).regs.length (A8 c).slots.length))
 case first=>
  have hbx:=(HCX.out _ HI0.1).2.2.2.2.2.cell (i:=3) dE;have hbx2:World.cell? _ ⟨BB,3,none⟩=some (.slice x3 (A8 c).list.length y3):=hbx;clear hbx;go_wp2_with fail;clear hbx2
  go_loopw [7] (fun iv wr=>∃j:Nat,j<=(A8 c).list.length/\iv=.int .i64 (j:Int)/\Hid (Un (fun b=>w3.heap.size<=b/\b<BB) W4 wr/\R3 w3.heap.size wr (.slice x3 (A8 c).list.length y3) (.slice x1 (A8 c).regs.length y1) (.slice x2 (A8 c).slots.length y2) (A8 c).list.length (A8 c).regs.length (A8 c).slots.length)) (fun iv _=>(A8 c).list.length-(intOf iv).toNat)
  case atStart=>exact⟨0,gI _,rfl,HI0.out⟩
  case round=>
   obtain⟨j,hj,rfl,HJ⟩:=hrel;have hbx:wr.cell? ⟨BB,3,none⟩=some (.slice x3 (A8 c).list.length y3):=(HCX.out wr HJ.1).2.2.2.2.2.cell (i:=3) dE;have hNl:=HBD.1;by_cases hlt:j<(A8 c).list.length
   .obtain⟨xs,hox⟩:=HJ.2.l;obtain⟨gg,cap,e9,hg1,hg2⟩:=hox.form oM;have hlo:=HLT.1 gg (by rw[e9];rfl);have HT:Hid (w3.heap.size<=gg/\gg<BB):=hlo;simp only[Value.slice.injEq]at e9;obtain⟨e9,-,e8⟩:=e9;rw[e9]at hbx;have hcs:=H8 (by rw[e9]at hox;exact hox) j hlt;obtain⟨N,hN⟩:=gA ((A8 c).list.length)
    rw[hN]at hbx hlt hNl;obtain⟨⟨u0,t0⟩,o0⟩:=hcs 0 dE;obtain⟨⟨u1,t1⟩,o1⟩:=hcs 1 dE;obtain⟨⟨u2,t2⟩,o2⟩:=hcs 2 dE;obtain⟨⟨u3,t3⟩,o3⟩:=hcs 3 dE;obtain⟨⟨u4,t4⟩,o4⟩:=hcs 4 dE;obtain⟨⟨u5,t5⟩,o5⟩:=hcs 5 dE;obtain⟨⟨u6,t6⟩,o6⟩:=hcs 6 dE;rw[Nat.add_zero]at t0 o0;have i1:(0:Int)<=(j:Int):=oM;have i2:(j:Int)<(N:Int):=oM;have wi:IntKind.i64.wrap ((j:Int)+1)=((j+1:Nat):Int):=by rw[IntKind.wrap_i64];omega
    clear hox hcs hg1 hg2 hlo e8;go_wp2;go_roundw
    case rel=>exact⟨j+1,by rw[hN];omega,gN,(((((((HJ.1.setCell QW _).setCell QW _).setCell QW _).setCell QW _).setCell QW _).setCell QW _).setCell QW _),(((((((HJ.2.set _ _ _).set _ _ _).set _ _ _).set _ _ _).set _ _ _).set _ _ _).set _ _ _)⟩
    case measure=>rw[hN];simp[intOf];omega
   .have e1:¬ (j:Int)<((A8 c).list.length:Int):=oM;clear hlt hNl;go_wp2;go_meet;exact HJ.out
 case rest=>
 have HI1:Hid _:=hcut;clear hcut;rename World=>VHI1;go_upto_block 2 with fail;go_cut [8] (fun iv wx=>Hid (Un (fun b=>w3.heap.size<=b/\b<BB) W4 wx/\R3 w3.heap.size wx (.slice x3 (A8 c).list.length y3) (.slice x1 (A8 c).regs.length y1) (.slice x2 (A8 c).slots.length y2) (A8 c).list.length (A8 c).regs.length (A8 c).slots.length))
 case first=>
  have hbx:=(HCX.out _ HI1.1).2.2.2.2.2.cell (i:=1) dE;have hbx2:World.cell? _ ⟨BB,1,none⟩=some (.slice x1 (A8 c).regs.length y1):=hbx;clear hbx;go_wp2_with fail;clear hbx2
  go_loopw [8] (fun iv wr=>∃j:Nat,j<=(A8 c).regs.length/\iv=.int .i64 (j:Int)/\Hid (Un (fun b=>w3.heap.size<=b/\b<BB) W4 wr/\R3 w3.heap.size wr (.slice x3 (A8 c).list.length y3) (.slice x1 (A8 c).regs.length y1) (.slice x2 (A8 c).slots.length y2) (A8 c).list.length (A8 c).regs.length (A8 c).slots.length)) (fun iv _=>(A8 c).regs.length-(intOf iv).toNat)
  case atStart=>exact⟨0,gI _,rfl,HI1.out⟩
  case round=>
   obtain⟨j,hj,rfl,HJ⟩:=hrel;have hbx:wr.cell? ⟨BB,1,none⟩=some (.slice x1 (A8 c).regs.length y1):=(HCX.out wr HJ.1).2.2.2.2.2.cell (i:=1) dE;have hNl:=HBD.2.1;by_cases hlt:j<(A8 c).regs.length
   .obtain⟨xs,hox⟩:=HJ.2.r;obtain⟨gg,cap,e9,hg1,hg2⟩:=hox.form oM;have hlo:=HLT.2.1 gg (by rw[e9];rfl);have HT:Hid (w3.heap.size<=gg/\gg<BB):=hlo;simp only[Value.slice.injEq]at e9;obtain⟨e9,-,e8⟩:=e9;rw[e9]at hbx;have hcs:=H8 (by rw[e9]at hox;exact hox) j hlt;obtain⟨N,hN⟩:=gA ((A8 c).regs.length)
    rw[hN]at hbx hlt hNl;obtain⟨⟨u0,t0⟩,o0⟩:=hcs 0 dE;obtain⟨⟨u1,t1⟩,o1⟩:=hcs 1 dE;rw[Nat.add_zero]at t0 o0;have i1:(0:Int)<=(j:Int):=oM;have i2:(j:Int)<(N:Int):=oM;have wi:IntKind.i64.wrap ((j:Int)+1)=((j+1:Nat):Int):=by rw[IntKind.wrap_i64];omega
    clear hox hcs hg1 hg2 hlo e8;go_wp2;go_roundw
    case rel=>exact⟨j+1,by rw[hN];omega,gN,((HJ.1.setCell QW _).setCell QW _),((HJ.2.set _ _ _).set _ _ _)⟩
    case measure=>rw[hN];simp[intOf];omega
   .have e1:¬ (j:Int)<((A8 c).regs.length:Int):=oM;clear hlt hNl;go_wp2;go_meet;exact HJ.out
 case rest=>
 have HI2:Hid _:=hcut;clear hcut;rename World=>VHI2;go_upto_block 4 with fail;go_cut [9] (fun iv wx=>Hid (Un (fun b=>w3.heap.size<=b/\b<BB) W4 wx/\R3 w3.heap.size wx (.slice x3 (A8 c).list.length y3) (.slice x1 (A8 c).regs.length y1) (.slice x2 (A8 c).slots.length y2) (A8 c).list.length (A8 c).regs.length (A8 c).slots.length))
 case first=>
  have hbx:=(HCX.out _ HI2.1).2.2.2.2.2.cell (i:=2) dE;have hbx2:World.cell? _ ⟨BB,2,none⟩=some (.slice x2 (A8 c).slots.length y2):=hbx;clear hbx;go_wp2_with fail;clear hbx2
  go_loopw [9] (fun iv wr=>∃j:Nat,j<=(A8 c).slots.length/\iv=.int .i64 (j:Int)/\Hid (Un (fun b=>w3.heap.size<=b/\b<BB) W4 wr/\R3 w3.heap.size wr (.slice x3 (A8 c).list.length y3) (.slice x1 (A8 c).regs.length y1) (.slice x2 (A8 c).slots.length y2) (A8 c).list.length (A8 c).regs.length (A8 c).slots.length)) (fun iv _=>(A8 c).slots.length-(intOf iv).toNat)
  case atStart=>exact⟨0,gI _,rfl,HI2.out⟩
  case round=>
   obtain⟨j,hj,rfl,HJ⟩:=hrel;have hbx:wr.cell? ⟨BB,2,none⟩=some (.slice x2 (A8 c).slots.length y2):=(HCX.out wr HJ.1).2.2.2.2.2.cell (i:=2) dE;have hNl:=HBD.2.2;by_cases hlt:j<(A8 c).slots.length
   .obtain⟨xs,hox⟩:=HJ.2.s;obtain⟨gg,cap,e9,hg1,hg2⟩:=hox.form oM;have hlo:=HLT.2.2 gg (by rw[e9];rfl);have HT:Hid (w3.heap.size<=gg/\gg<BB):=hlo;simp only[Value.slice.injEq]at e9;obtain⟨e9,-,e8⟩:=e9;rw[e9]at hbx;have hcs:=H8 (by rw[e9]at hox;exact hox) j hlt;obtain⟨N,hN⟩:=gA ((A8 c).slots.length)
    rw[hN]at hbx hlt hNl;obtain⟨⟨u0,t0⟩,o0⟩:=hcs 0 dE;obtain⟨⟨u1,t1⟩,o1⟩:=hcs 1 dE;obtain⟨⟨u2,t2⟩,o2⟩:=hcs 2 dE;obtain⟨⟨u3,t3⟩,o3⟩:=hcs 3 dE;obtain⟨⟨u4,t4⟩,o4⟩:=hcs 4 dE;rw[Nat.add_zero]at t0 o0;have i1:(0:Int)<=(j:Int):=oM;have i2:(j:Int)<(N:Int):=oM;have wi:IntKind.i64.wrap ((j:Int)+1)=((j+1:Nat):Int):=by rw[IntKind.wrap_i64];omega
    clear hox hcs hg1 hg2 hlo e8;go_wp2;go_roundw
    case rel=>exact⟨j+1,by rw[hN];omega,gN,(((((HJ.1.setCell QW _).setCell QW _).setCell QW _).setCell QW _).setCell QW _),(((((HJ.2.set _ _ _).set _ _ _).set _ _ _).set _ _ _).set _ _ _)⟩
    case measure=>rw[hN];simp[intOf];omega
   .have e1:¬ (j:Int)<((A8 c).slots.length:Int):=oM;clear hlt hNl;go_wp2;go_meet;exact HJ.out
 case rest=>
 have HI3:Hid _:=hcut;clear hcut;rename World=>VHI3;obtain⟨⟨c0,c1,c2,c3⟩,⟨l0,l1,l2,l3⟩,hcv,hcd,hbz,-⟩:=HCX.out _ HI3.1;have HCV:=Ab hcv;have HCDZ:=Ab hcd;have HBZ:=Ab hbz;clear hcv hcd hbz;go_wp2_with(first
  |(go_at_call 9;(with_reducible refine(KR.out _ _ _ _ _ HCV.out).mono ?_);rintro e w9 ⟨u0,u1,u2,u3,rfl,hcd,-,hb9⟩;obtain⟨m0,n0,rfl⟩:∃p q,u0=.slice p (A8 c).sign.length q:=Zgd;obtain⟨m1,n1,rfl⟩:∃p q,u1=.slice p (A8 c).regs.length q:=Zge;obtain⟨m2,n2,rfl⟩:∃p q,u2=.slice p (A8 c).slots.length q:=Zgc;obtain⟨m3,n3,rfl⟩:∃p q,u3=.slice p (A8 c).list.length q:=Zgf;have HCH:=Ab hcd;have HB9:=Ab hb9;have af0:=(fun o=>kc (bel hb9 (A0 _ o)) l0);have af1:=(fun o=>kc (bel hb9 (A0 _ o)) l1);have af2:=(fun o=>kc (bel hb9 (A0 _ o)) l2);have af3:=(fun o=>kc (bel hb9 (A0 _ o)) l3);clear hcd hb9)
  |(go_at_call 10;(with_reducible refine(KED.out _ _ _ _ _ _ _ _ _ (HCDZ.out.below (bel HB9.out (A0 _ _))) (HCH.out.below (A0 _ _))).mono ?_);rintro e wa ⟨rfl,hba⟩;have HBA:=Ab hba;clear hba)
  |(go_at_call 12;(with_reducible refine(KW.out _).mono ?_);rintro e wb ⟨rfl,hbb⟩;have HBB:=Ab hbb;clear hbb))
 go_ret;exact⟨rfl,bel HBZ.out (bel HB9.out (bel (A0 _ _) (bel HBA.out HBB.out)))⟩
end Go.Proofs.YtpoklpdgpcnkgaaGreat
