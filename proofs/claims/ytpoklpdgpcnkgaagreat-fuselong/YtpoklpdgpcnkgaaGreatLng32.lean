import Derived.Test.YtpoklpdgpcnkgaaGreatLng1
import Derived.Test.YtpoklpdgpcnkgaaGreatLng31
import Derived.Test.YtpoklpdgpcnkgaaGreatLng28
import Derived.Test.YtpoklpdgpcnkgaaGreatLng17
import Derived.Test.YtpoklpdgpcnkgaaGreatLng12
import Derived.Deep.DeepCutAuto
import Derived.Test.YtpoklpdgpcnkgaaGreatLng30
namespace Go.Proofs.YtpoklpdgpcnkgaaGreat
open Go.RowKit Go.Proofs.Tryz
set_option linter.all false
set_option maxRecDepth 100000
set_option maxHeartbeats 16000000
theorem fz_at{c:Cd}(hc:(At c).1=0){j:Nat}(hj:j<c.list.length):Bp c c.list[j]/\(c.list[j].op=35->1<=(CG c (c.list.take j)).dep)/\(CG c (c.list.take j)).dep<=64/\CG c (c.list.take (j+1))=Ce c (CG c (c.list.take j)) c.list[j]:=by
 obtain⟨h1,h2,-⟩:=D4.1 hc;have ht:=Dr h1;have e:c.list.take (j+1)=c.list.take j++[c.list[j]]:=List.take_succ_eq_append_getElem hj;have hsp:AK c ⟨[],[]⟩ (c.list.take j)=true/\Am c (Bn ⟨[],[]⟩ (c.list.take j)) c.list[j]=true:=by
  have h3:AK c ⟨[],[]⟩ (c.list.take (j+1)++c.list.drop (j+1))=true:=by rw[List.take_append_drop];exact h2
  rw[e,Bt,Bt]at h3;simp only[Bool.and_eq_true]at h3;refine⟨h3.1.1,?_⟩;have h4:=h3.1.2;exact Zfb
 obtain⟨w1,w2⟩:=SA ht _ hsp.1;obtain⟨k1,k2,-,-⟩:=Ar hsp.2;have hd:=Pm w2 hsp.2;refine⟨⟨k1,k2⟩,fun o=>?_,w2.le,by rw[e,EE]⟩;rw[if_neg oM,if_pos o]at hd;omega
theorem Md(c:Cd):(Bd c).list=if 32768<(BK c).length then c.list else BK c:=by
 unfold Bd;split<;>rfl
theorem Me(c:Cd):(Bd c).sign=c.sign/\(Bd c).regs=c.regs/\(Bd c).slots=c.slots:=by
 unfold Bd;split<;>exact⟨rfl,rfl,rfl⟩
theorem Ox(v0 v1 v2 v3:Value)(c:Cd)(hk:Bb c)(w:World)(hv:Dk w v0 v1 v2 v3 c)(hc:(At c).1≠0):
 Calls prog 9 #[.agg #[v0,v1,v2,v3]] w fun e w'=>e=.returned (.tuple #[.agg #[.slice none 0 0,.slice none 0 0,.slice none 0 0,.slice none 0 0],.int .i64 160])/\Below w.heap.size w w':=by
 have KC:Hid (∀v,Below w.heap.size w v->Calls prog 23 #[.agg #[v0,v1,v2,v3]] v fun e w'=>e=.returned (.tuple #[.int .i64 (At c).1,.int .i64 (At c).2])/\Below v.heap.size v w'):=fun v hvv=>M0 v0 v1 v2 v3 c hk v (hv.below hvv);obtain⟨e1,he1⟩:=gA ((At c).1)
 obtain⟨e2,he2⟩:=gA ((At c).2)
 rw[he1]at hc KC;rw[he2]at KC;have n1:(e1 != 0)=true:=by simpa using hc
 have n2:(e1==0)=false:=by simpa using hc
 obtain⟨p0,q0,rfl⟩:∃p q,v0=.slice p c.sign.length q:=by obtain⟨p,q,e,_⟩:=hv.sign;exact⟨p,q,e⟩
 obtain⟨p1,q1,rfl⟩:∃p q,v1=.slice p c.regs.length q:=by obtain⟨p,q,e,_⟩:=hv.regs;exact⟨p,q,e⟩
 obtain⟨p2,q2,rfl⟩:∃p q,v2=.slice p c.slots.length q:=by obtain⟨p,q,e,_⟩:=hv.slots;exact⟨p,q,e⟩
 obtain⟨p3,q3,rfl⟩:∃p q,v3=.slice p c.list.length q:=by obtain⟨p,q,e,_⟩:=hv.list;exact⟨p,q,e⟩
 obtain⟨W0,hW0⟩:∃W,(w.alloc (.cells #[.slice p0 c.sign.length q0,.slice p1 c.regs.length q1,.slice p2 c.slots.length q2,.slice p3 c.list.length q3] 27)).alloc (.cells #[.slice none 0 0,.slice none 0 0,.slice none 0 0,.slice none 0 0] 27)=W:=⟨_,rfl⟩
 have HB0:Hid (Below w.heap.size w W0):=by rw[<-hW0];exact bel (A0 _ _) (A0 _ _)
 have b0:W0.cell? ⟨w.heap.size,0,none⟩=some (.slice p0 c.sign.length q0):=by rw[<-hW0];simp[go_sem]
 have b1:W0.cell? ⟨w.heap.size,1,none⟩=some (.slice p1 c.regs.length q1):=by rw[<-hW0];simp[go_sem]
 have b2:W0.cell? ⟨w.heap.size,2,none⟩=some (.slice p2 c.slots.length q2):=by rw[<-hW0];simp[go_sem]
 have b3:W0.cell? ⟨w.heap.size,3,none⟩=some (.slice p3 c.list.length q3):=by rw[<-hW0];simp[go_sem]
 have HR:Hid (W0.rowIs (w.heap.size+1) 27 4 (PM #[.slice none 0 0,.slice none 0 0,.slice none 0 0,.slice none 0 0])):=by
  show World.rowIs _ _ _ _ _;rw[<-hW0];have h9:=Di (w.alloc (.cells #[.slice p0 c.sign.length q0,.slice p1 c.regs.length q1,.slice p2 c.slots.length q2,.slice p3 c.list.length q3] 27)) #[.slice none 0 0,.slice none 0 0,.slice none 0 0,.slice none 0 0] 27;rw[show(w.alloc (.cells #[.slice p0 c.sign.length q0,.slice p1 c.regs.length q1,.slice p2 c.slots.length q2,.slice p3 c.list.length q3] 27)).heap.size=w.heap.size+1 by simp]at h9;exact h9
 clear hv hk he1 he2;go_enter func9,ntmps9;go_upto_region 1 with fail;try rw[hW0]
 go_wp2_with(go_at_call 23;refine(KC.out _ HB0.out).mono ?_;rintro e w1 ⟨rfl,hb1⟩;have HB1:=A8 hb1;have HR1:=A8 (HR.of_block (hb1.block _ HR.lt));have r0:w1.cell? ⟨w.heap.size+1,0,none⟩=some (.slice none 0 0):=HR1.cell (i:=0) dE;have r1:w1.cell? ⟨w.heap.size+1,1,none⟩=some (.slice none 0 0):=HR1.cell (i:=1) dE;have r2:w1.cell? ⟨w.heap.size+1,2,none⟩=some (.slice none 0 0):=HR1.cell (i:=2) dE;have r3:w1.cell? ⟨w.heap.size+1,3,none⟩=some (.slice none 0 0):=HR1.cell (i:=3) dE;have f0:=HR1.frozen 0;have f1:=HR1.frozen 1;have f2:=HR1.frozen 2;have f3:=HR1.frozen 3;clear hb1);refine bodyPost_ret (by simp[results,results9,go_sem, *];try rfl) rfl ?_;have hle:w.heap.size<=w.heap.size+1:=Nat.le_succ _;exact⟨rfl,((((bel HB0.out HB1.out).setCell hle _).setCell hle _).setCell hle _).setCell hle _⟩
theorem Mc(v0 v1 v2 v3:Value)(c:Cd)(hk:Bb c)(w:World)(hv:Dk w v0 v1 v2 v3 c)(hc:(At c).1=0):
 Calls prog 9 #[.agg #[v0,v1,v2,v3]] w fun e w'=>∃u0 u1 u2 u3,e=.returned (.tuple #[.agg #[u0,u1,u2,u3],.int .i64 0])/\Dk w' u0 u1 u2 u3 (Bd c)/\UU w.heap.size w' u0 u1 u2 u3 (Bd c)/\Below w.heap.size w w':=by
 obtain⟨hg,htk⟩:=F3 hc;have KC:Hid (∀v,Below w.heap.size w v->Calls prog 23 #[.agg #[v0,v1,v2,v3]] v fun e w'=>e=.returned (.tuple #[.int .i64 0,.int .i64 (At c).2])/\Below v.heap.size v w'):=fun v hvv=>by have:=M0 v0 v1 v2 v3 c hk v (hv.below hvv);rw[hc]at this;exact this
 obtain⟨e2,he2⟩:=gA ((At c).2)
 rw[he2]at KC;have K0:Hid (∀v,Below w.heap.size w v->Calls prog 28 #[v0] v fun e w'=>∃p d,e=.returned (.slice p c.sign.length d)/\w'.ownsRow v.heap.size 53 3 (.slice p c.sign.length d) c.sign.length (AG AU c.sign)/\Below v.heap.size v w'):=fun v hvv=>(Td v0 c.sign v (hv.sign.below hvv) (by have:=hg.signL;omega)).mono fun e w' ⟨p,d,h1,h2,h4,h3⟩=>⟨p,d,h1,h4,h3⟩
 have K1:Hid (∀v,Below w.heap.size w v->Calls prog 29 #[v1] v fun e w'=>∃p d,e=.returned (.slice p c.regs.length d)/\w'.ownsRow v.heap.size 47 2 (.slice p c.regs.length d) c.regs.length (AG I2 c.regs)/\Below v.heap.size v w'):=fun v hvv=>(Vh v1 c.regs v (hv.regs.below hvv) (by have:=hg.regsL;omega)).mono fun e w' ⟨p,d,h1,h2,h4,h3⟩=>⟨p,d,h1,h4,h3⟩
 have K2:Hid (∀v,Below w.heap.size w v->Calls prog 30 #[v2] v fun e w'=>∃p d,e=.returned (.slice p c.slots.length d)/\w'.ownsRow v.heap.size 49 5 (.slice p c.slots.length d) c.slots.length (AG O0 c.slots)/\Below v.heap.size v w'):=fun v hvv=>(Vg v2 c.slots v (hv.slots.below hvv) (by have:=hg.slotsL;omega)).mono fun e w' ⟨p,d,h1,h2,h4,h3⟩=>⟨p,d,h1,h4,h3⟩
 have K3:Hid (∀v,Below w.heap.size w v->Calls prog 27 #[v3] v fun e w'=>∃p d,e=.returned (.slice p c.list.length d)/\w'.ownsRow v.heap.size 45 7 (.slice p c.list.length d) c.list.length (AG De c.list)/\Below v.heap.size v w'):=fun v hvv=>(Ta v3 c.list v (hv.list.below hvv) (by have:=hg.listL;omega)).mono fun e w' ⟨p,d,h1,h2,h4,h3⟩=>⟨p,d,h1,h4,h3⟩
 have HFZ:=A8 (fun(j:Nat) (hj:j<c.list.length)=>fz_at hc hj);have HTY:Hid (Aj c=true):=Dr (D4.1 hc).1;have HBG:=A8 (Yy c);have hS1:=hg.signL;have hR1:=hg.regsL;have HVV:=A8 hv;obtain⟨p0,q0,rfl⟩:∃p q,v0=.slice p c.sign.length q:=by obtain⟨p,q,e,_⟩:=hv.sign;exact⟨p,q,e⟩
 obtain⟨p1,q1,rfl⟩:∃p q,v1=.slice p c.regs.length q:=by obtain⟨p,q,e,_⟩:=hv.regs;exact⟨p,q,e⟩
 obtain⟨p2,q2,rfl⟩:∃p q,v2=.slice p c.slots.length q:=by obtain⟨p,q,e,_⟩:=hv.slots;exact⟨p,q,e⟩
 obtain⟨p3,q3,rfl⟩:∃p q,v3=.slice p c.list.length q:=by obtain⟨p,q,e,_⟩:=hv.list;exact⟨p,q,e⟩
 have hL1:=hg.listL;have KN:Hid (∀ (v:World),Below w.heap.size w v->∀C,v.cell? ⟨C,0,none⟩=some (.slice p0 c.sign.length q0)->Calls prog 24 #[.pointer (some ⟨C,0,none⟩)] v fun e w'=>e=.returned (.pointer (some ⟨v.heap.size+1,0,none⟩))/\Below v.heap.size v w'/\CQ v.heap.size c c.sign.length GF w' (v.heap.size+1) C v.heap.size (.slice none 0 0) (fun _=>.slice none 0 0) (fun _=>none) (fun _=>none) (fun _=>0)):=fun v hb C h1=>VD c v C p0 q0 h1 oM;have HFL:=A8 (Md c);have HFR:=A8 (Me c);have hFE:BK c=(A9 Bc (CG c c.list) c.sign.length).left:=rfl;have HFE:=A8 hFE;obtain⟨N0,hN0⟩:∃N,c.sign.length=N:=⟨_,rfl⟩
 obtain⟨N1,hN1⟩:∃N,c.regs.length=N:=⟨_,rfl⟩
 obtain⟨N2,hN2⟩:∃N,c.slots.length=N:=⟨_,rfl⟩
 obtain⟨N3,hN3⟩:∃N,c.list.length=N:=⟨_,rfl⟩
 simp only[hN0,hN1,hN2,hN3]at KC K0 K1 K2 K3 KN hL1 hS1 hR1 HVV HFE |-;have HN:Hid (c.sign.length=N0/\c.regs.length=N1/\c.slots.length=N2/\c.list.length=N3):=⟨hN0,hN1,hN2,hN3⟩
 obtain⟨W0,hW0⟩:∃W,(w.alloc (.cells #[.slice p0 N0 q0,.slice p1 N1 q1,.slice p2 N2 q2,.slice p3 N3 q3] 27)).alloc (.cells #[.slice none 0 0,.slice none 0 0,.slice none 0 0,.slice none 0 0] 27)=W:=⟨_,rfl⟩
 have HB0:Hid (Below w.heap.size w W0):=by rw[<-hW0];exact bel (A0 _ _) (A0 _ _)
 have b0:W0.cell? ⟨w.heap.size,0,none⟩=some (.slice p0 N0 q0):=by rw[<-hW0];simp[go_sem]
 have b1:W0.cell? ⟨w.heap.size,1,none⟩=some (.slice p1 N1 q1):=by rw[<-hW0];simp[go_sem]
 have b2:W0.cell? ⟨w.heap.size,2,none⟩=some (.slice p2 N2 q2):=by rw[<-hW0];simp[go_sem]
 have b3:W0.cell? ⟨w.heap.size,3,none⟩=some (.slice p3 N3 q3):=by rw[<-hW0];simp[go_sem]
 have HR:Hid (W0.rowIs (w.heap.size+1) 27 4 (PM #[.slice none 0 0,.slice none 0 0,.slice none 0 0,.slice none 0 0])):=by
  show World.rowIs _ _ _ _ _;rw[<-hW0];have h9:=Di (w.alloc (.cells #[.slice p0 N0 q0,.slice p1 N1 q1,.slice p2 N2 q2,.slice p3 N3 q3] 27)) #[.slice none 0 0,.slice none 0 0,.slice none 0 0,.slice none 0 0] 27;rw[show(w.alloc (.cells #[.slice p0 N0 q0,.slice p1 N1 q1,.slice p2 N2 q2,.slice p3 N3 q3] 27)).heap.size=w.heap.size+1 by simp]at h9;exact h9
 clear hFE hv hk he2 hg htk hc hN0 hN1 hN2 hN3;go_enter func9,ntmps9;go_upto_region 1 with fail;try rw[hW0]
 clear hW0;go_upto_block 0 with(first
  |(go_at_call 23;(with_reducible refine(KC.out _ HB0.out).mono ?_);rintro e w1 ⟨rfl,hb1⟩;have HB1:=A8 (bel HB0.out hb1);have HR1:=A8 (HR.out.of_block (hb1.block _ HR.out.lt));have c0:=kc hb1 b0;have c1:=kc hb1 b1;have c2:=kc hb1 b2;have c3:=kc hb1 b3;clear hb1 b0 b1 b2 b3)
  |(go_at_call 24;(with_reducible refine(KN.out _ HB1.out _ c0).mono ?_);rintro e w2 ⟨rfl,hb2,hwk⟩;have HWK:=A8 hwk;have HB2:=A8 hb2;have d3:=kc hb2 c3;clear hb2 hwk))
 obtain⟨E,hE⟩:=gA (w1.heap.size)
 have HEN:Hid (w.heap.size+1<E/\w.heap.size<=E):=by rw[<-hE];have h9:=HR1.lt;exact⟨h9,oM⟩
 rw[hE]at HWK HB2;have HE:=A8 hE;try rw[hE]
 obtain⟨B,hB⟩:=gA (E+1)
 have HBE1:=A8 hB;rw[hB]at HWK;try rw[hB]
 have HK0:Hid (Below E w1 w2/\∃lv vl mv mn tag,CQ E c N0 (CG c (c.list.take 0)) w2 B w.heap.size E lv vl mv mn tag):=⟨HB2.out,_,_,_,_,_,HWK.out⟩
 have HCC:Hid (∀v,Below E w1 v->v.cell? ⟨w.heap.size,0,none⟩=some (.slice p0 N0 q0)/\v.cell? ⟨w.heap.size,1,none⟩=some (.slice p1 N1 q1)/\v.cell? ⟨w.heap.size,2,none⟩=some (.slice p2 N2 q2)/\v.cell? ⟨w.heap.size,3,none⟩=some (.slice p3 N3 q3)/\AZ 2 I2 v (.slice p1 N1 q1) c.regs/\v.rowIs (w.heap.size+1) 27 4 (PM #[.slice none 0 0,.slice none 0 0,.slice none 0 0,.slice none 0 0])):=fun v hv=>by
  have h1:=HEN.1;have k:∀ {a:Addr} {x:Value},a.block<E->w1.cell? a=some x->v.cell? a=some x:=fun{a x} ha hx=>(gC (hv.block a.block ha)).trans hx;have h2:=HVV.regs.below HB1.out;refine⟨k Zhf c0,k Zhf c1,k Zhf c2,k Zhf c3,(HVV.regs.below (HB1.trans (hv.mono HEN.2))),?_⟩;exact HR1.of_block (hv.block _ h1)
 clear HWK HB2 KN hE hB c0 c1 c2 c3 HR HR1 KC;go_wp2_with fail;clear d3
 go_loopw [22] (fun iv wr=>∃j:Nat,j<=N3/\iv=.int .i64 (j:Int)/\Hid (Below E w1 wr/\∃lv vl mv mn tag,CQ E c N0 (CG c (c.list.take j)) wr B w.heap.size E lv vl mv mn tag)) (fun iv _=>N3-(intOf iv).toNat)
 case atStart=>exact⟨0,gI _,rfl,HK0.out⟩
 case round=>
  clear HK0;obtain⟨j,hj,rfl,HJ⟩:=hrel;have hbE:Below w.heap.size w wr:=HB1.trans (HJ.1.mono HEN.2);have HBE:=A8 hbE;clear hbE;by_cases hlt:j<N3
  .have hjl:j<c.list.length:=by have:=HN.out;omega
   obtain⟨hbj,lv,vl,mv,mn,tag,hwk⟩:=HJ.out;obtain⟨lb,lo,rfl,hcl⟩:=(HVV.list.below HBE.out).at hjl;obtain⟨f1,f2,f3,hsu⟩:=HFZ.out j hjl;have hbg:=HBG.out (c.list.take j);have htl:(c.list.take j).length<=32768:=by rw[List.length_take];omega
   have KT:Hid (∀v,Below wr.heap.size wr v->Calls prog 25 #[.pointer (some ⟨B,0,none⟩),BV c.list[j]] v fun e w'=>e=.returned (.tuple #[])/\Below E v w'/\∃lv vl mv mn tg,CQ E c N0 (CG c (c.list.take (j+1))) w' B w.heap.size E lv vl mv mn tg):=fun v hv=>by
    rw[hsu];have hn:=HN.out;have h9:=Ts E c (CG c (c.list.take j)) v B w.heap.size E lv vl mv mn tag (by rw[hn.1];exact hwk.below hv) HTY.out c.list[j] f1 oM oM p1 q1 (fun u hu=>by
     obtain⟨-,k1,-,-,k4,-⟩:=HCC.out u ((hbj.trans (hv.mono hwk.le)).trans hu);rw[hn.2.1]
     exact⟨k1,k4⟩) oM f2 oM
    rw[hn.1]at h9;exact h9
   obtain⟨⟨op,d,a,b,e,n,z⟩,hi⟩:∃i,c.list[j]=i:=⟨_,rfl⟩
   rw[hi]at hcl KT;have HLE:=A8 hwk.le;have y0:=hcl.at 0 (v:=.int .i64 op) rfl;rw[Nat.add_zero]at y0;have y1:=hcl.at 1 (v:=.int .i64 d) rfl;have y2:=hcl.at 2 (v:=.int .i64 a) rfl;have y3:=hcl.at 3 (v:=.int .i64 b) rfl;have y4:=hcl.at 4 (v:=.int .i64 e) rfl;have y5:=hcl.at 5 (v:=.int .i64 n) rfl;have y6:=hcl.at 6 (v:=.int .u32 z) rfl;have llb:lb<wr.heap.size:=A6 y0;have n9:¬lb=wr.heap.size:=oM;have i1:(0:Int)<=(j:Int):=oM;have i2:(j:Int)<(N3:Int):=oM;have wi:IntKind.i64.wrap ((j:Int)+1)=((j+1:Nat):Int):=by rw[IntKind.wrap_i64];omega
   obtain⟨V2,hV2⟩:∃V,wr.alloc (.cells #[.int .i64 op,.int .i64 d,.int .i64 a,.int .i64 b,.int .i64 e,.int .i64 n,.int .u32 z] 45)=V:=⟨_,rfl⟩
   have HV2:Hid (Below wr.heap.size wr V2):=by rw[<-hV2];exact A0 _ _
   have hX2:V2.rowIs wr.heap.size 45 7 (bxF op d a b e n z):=by rw[<-hV2];exact Di wr _ _
   have x0:V2.cell? ⟨wr.heap.size,0,none⟩=some (.int .i64 op):=hX2.cell (i:=0) dE;have x1:V2.cell? ⟨wr.heap.size,1,none⟩=some (.int .i64 d):=hX2.cell (i:=1) dE;have x2:V2.cell? ⟨wr.heap.size,2,none⟩=some (.int .i64 a):=hX2.cell (i:=2) dE;have x3:V2.cell? ⟨wr.heap.size,3,none⟩=some (.int .i64 b):=hX2.cell (i:=3) dE;have x4:V2.cell? ⟨wr.heap.size,4,none⟩=some (.int .i64 e):=hX2.cell (i:=4) dE;have x5:V2.cell? ⟨wr.heap.size,5,none⟩=some (.int .i64 n):=hX2.cell (i:=5) dE;have x6:V2.cell? ⟨wr.heap.size,6,none⟩=some (.int .u32 z):=hX2.cell (i:=6) dE;unfold BV at KT;simp only at KT;clear hwk hcl hi hsu hbj llb hX2 f1 f2 f3 hbg htl;go_wp2_with(go_at_call 25;(with_reducible refine(KT.out _ HV2.out).mono ?_);rintro e9 w4 ⟨rfl,hb4,hw4⟩;have HB4:=A8 hb4;have HW4:=A8 hw4;clear hb4 hw4);go_roundw
   case rel=>
    refine⟨j+1,oM,gN,?_,HW4.out⟩;exact HJ.1.trans ((HV2.mono HLE.out).trans HB4.out)
   case measure=>simp[intOf];omega
  .have e1:¬ (j:Int)<(N3:Int):=oM;have hje:c.list.take j=c.list:=by rw[List.take_of_length_le];have:=HN.out;omega
   have KA:Hid (Calls prog 26 #[.pointer (some ⟨B,0,none⟩)] wr fun e w'=>e=.returned (.tuple #[])/\Hid (Below E w1 w'/\∃pl ql,w'.cell? ⟨B,3,none⟩=some (.slice pl (BK c).length ql)/\w'.ownsRow E 45 7 (.slice pl (BK c).length ql) (BK c).length (AG De (BK c)))):=by
    obtain⟨hbj,lv,vl,mv,mn,tag,hwk⟩:=HJ.out;rw[hje]at hwk;have hbg:=HBG.out c.list;have hn:=HN.out;refine(Hg E c N0 (CG c c.list) wr B w.heap.size E lv vl mv mn tag hwk oM fun k hk=>?_).mono fun e w' ⟨x1,x2,x3,x4,x5,x6,x7,x8,_⟩=>?_
    .have h1:=Gk (p:=k) (n:=N0) hk (A9 Bc (CG c c.list) k);have h2:=CH (n:=N0) Bc (CG c c.list) k oM;rw[hn.1]at hbg;omega
    .have ho:=x8.lf;rw[<-HFE.out]at ho;have hcl:w'.cell? ⟨B,3,none⟩=some x3:=x8.b.cell (i:=3) dE;obtain⟨pl,ql,rfl⟩:=AD ho;exact⟨x1,hbj.trans x2,pl,ql,hcl,ho⟩
   clear hlt hje HFZ HBG;obtain⟨FL,hFL⟩:∃k,(BK c).length=k:=⟨_,rfl⟩
   have HFN:=A8 hFL;rw[hFL]at KA HFL;obtain⟨T,hT⟩:∃t,decide ((32768:Int)<(FL:Int))=t:=⟨_,rfl⟩
   have HT:=A8 hT;clear hFL HJ;go_upto_if 38 with(go_at_call 26;(with_reducible refine KA.out.mono ?_);rintro e9 w4 ⟨rfl,hk⟩;obtain⟨hb4,pl,ql,b3,ho4⟩:=hk.out;have HB4:=A8 hb4;have HO4:=A8 ho4;clear hb4 ho4 hk)
   clear b3;obtain⟨g0,g1,g2,g3,-⟩:=HCC.out w4 HB4.out;have HBW:Hid (Below w.heap.size w w4):=HB1.trans (HB4.mono HEN.2);have HW4:Hid (E<=w4.heap.size):=by
    have h9:=HB4.size;have h8:=HE.out;show _<=_;omega
   go_cut [9] (fun lv wx=>Hid (∃p m q,lv=.slice p m q/\m=(Bd c).list.length/\wx.ownsRow E 45 7 (.slice p m q) m (AG De (Bd c).list)/\Below w4.heap.size w4 wx))
   case first=>
    cases T with
    |true=>
     have hfl:(Bd c).list=c.list:=by
      rw[HFL.out,if_pos (by have:=HT.out;simp at this;omega)]
     have HFC:=A8 hfl;clear hfl;go_wp2_with(go_at_call 27;(with_reducible refine(K3.out _ HBW.out).mono ?_);rintro e w5 ⟨s3,d3,rfl,hr3,hb5⟩;have HR3:=A8 hr3;have HB5:=A8 hb5;clear hr3 hb5);go_meet;refine⟨_,_,_,rfl,by rw[HFC.out,HN.out.2.2.2],?_,HB5.out⟩;rw[HFC.out];exact C8 HR3.out HW4.out
    |false=>
     have hfl:(Bd c).list=BK c:=by
      rw[HFL.out,if_neg (by have:=HT.out;simp at this;omega)]
     have HFC:=A8 hfl;clear hfl;go_wp2;go_meet;refine⟨_,_,_,rfl,by rw[HFC.out,HFN.out],?_,BT _⟩;rw[HFC.out];exact HO4.out
   case rest=>
    rename World=>wx;obtain⟨pl9,nl,ql9,rfl,hnl,hox,hbx⟩:=hcut.out;have HLF:=A8 hox;have HNL:=A8 hnl;have HBX0:Hid (Below E w1 wx):=HB4.trans (hbx.mono HW4.out);have HBXE:Hid (Below w.heap.size w wx):=HBW.trans (hbx.mono HBW.size);have HWL:Hid (w.heap.size+1<wx.heap.size):=by have h9:=hbx.size;have h8:=HW4.out;have h7:=HEN.1;show _<_;omega
    have HBX:Hid (∀v,Below wx.heap.size wx v->v.cell? ⟨w.heap.size,0,none⟩=some (.slice p0 N0 q0)/\v.cell? ⟨w.heap.size,1,none⟩=some (.slice p1 N1 q1)/\v.cell? ⟨w.heap.size,2,none⟩=some (.slice p2 N2 q2)/\v.rowIs (w.heap.size+1) 27 4 (PM #[.slice none 0 0,.slice none 0 0,.slice none 0 0,.slice none 0 0])):=fun v hv=>by
     have h9:=hbx.size;have h8:=HW4.out;obtain⟨k0,k1,k2,-,-,k5⟩:=HCC.out v (HBX0.trans (hv.mono oM));exact⟨k0,k1,k2,k5⟩
    clear g0 g1 g2 g3 hcut hnl hox hbx HFL HT hT HFN KA HO4;obtain⟨g0,g1,g2,-⟩:=HBX.out wx (BT _);go_upto_region 14 with fail;refine rG (fun v=>v.cell? ⟨w.heap.size,0,none⟩=some (.slice p0 N0 q0)/\v.cell? ⟨w.heap.size,1,none⟩=some (.slice p1 N1 q1)/\v.cell? ⟨w.heap.size,2,none⟩=some (.slice p2 N2 q2)) fun yH=>?_;refine Tf 0 1 3 4 6 7 ?_;refine BU 9 ?_;clear yH;refine AJ 2 fun K hK=>?_;go_simp;(go_at_call 28;(with_reducible refine(K0.out _ (bel HBXE.out (AQ _))).mono ?_);rintro e u1 ⟨s0,d0,rfl,hr0,hb2⟩;have HR0:=A8 hr0;have HU1:Hid (Below wx.heap.size wx u1):=bel (AQ _) hb2;obtain⟨g0,g1,g2,-⟩:=HBX.out u1 HU1.out;clear hr0 hb2);try(go_wp2_with fail)
    refine AF hK fun yH=>?_;clear hK K;clear yH;refine AJ 5 fun K hK=>?_;go_simp;(go_at_call 29;(with_reducible refine(K1.out _ (bel HBXE.out HU1.out)).mono ?_);rintro e u2 ⟨s1,d1,rfl,hr1,hb2⟩;have HR1:=A8 hr1;have HU2:=A8 hb2;obtain⟨g0,g1,g2,-⟩:=HBX.out u2 (bel HU1.out HU2.out);clear hr1 hb2);try(go_wp2_with fail)
    refine AF hK fun yH=>?_;clear hK K;clear yH;refine AJ 8 fun K hK=>?_;go_simp;(go_at_call 30;(with_reducible refine(K2.out _ (bel HBXE.out (bel HU1.out HU2.out))).mono ?_);rintro e u3 ⟨s2,d2,rfl,hr2,hb2⟩;have HR2:=A8 hr2;have HU3:=A8 hb2;obtain⟨g0,g1,g2,hrw⟩:=HBX.out u3 (bel HU1.out (bel HU2.out HU3.out));have HRW:=A8 hrw;have r0:u3.cell? ⟨w.heap.size+1,0,none⟩=some (.slice none 0 0):=hrw.cell (i:=0) dE;have r1:u3.cell? ⟨w.heap.size+1,1,none⟩=some (.slice none 0 0):=hrw.cell (i:=1) dE;have r2:u3.cell? ⟨w.heap.size+1,2,none⟩=some (.slice none 0 0):=hrw.cell (i:=2) dE;have r3:u3.cell? ⟨w.heap.size+1,3,none⟩=some (.slice none 0 0):=hrw.cell (i:=3) dE;have f0:=hrw.frozen 0;have f1:=hrw.frozen 1;have f2:=hrw.frozen 2;have f3:=hrw.frozen 3;clear hr2 hb2 hrw);try(go_wp2_with fail)
    refine AF hK fun yH=>?_;clear hK K;refine BU 10 ?_;clear yH;refine AJ 11 fun K hK=>?_;go_simp;refine AF hK fun yH=>?_;clear hK K;refine BU 12 ?_;refine wpAnyH_done kR ?_ _;go_wp2;refine bodyPost_ret (by simp[results,results9,go_sem, *];try rfl) rfl ?_;obtain⟨rfl,rfl,rfl,rfl⟩:=HN.out;obtain rfl:nl=(Bd c).list.length:=HNL.out;have k4:∀b,b≠w.heap.size+1->((((u3.setCell ⟨w.heap.size+1,0,none⟩ (.slice s0 c.sign.length d0)).setCell ⟨w.heap.size+1,1,none⟩ (.slice s1 c.regs.length d1)).setCell ⟨w.heap.size+1,2,none⟩ (.slice s2 c.slots.length d2)).setCell ⟨w.heap.size+1,3,none⟩ (.slice pl9 (Bd c).list.length ql9)).heap[b]? =u3.heap[b]? :=fun b hb=>(gE hb).trans ((gE hb).trans ((gE hb).trans (gE hb)));have hwl:=HWL.out;have l1:=HU1.size;have l2:=HU2.size;have o0:=Ag (As HR0.out (bel HU2.out HU3.out)) (fun g hg=>k4 g (by have h9:=(HR0.lt g hg).1;have h8:wx.heap.size<=g:=h9;omega));have o1:=Ag (As HR1.out HU3.out) (fun g hg=>k4 g (by have h9:=(HR1.lt g hg).1;omega));have o2:=Ag HR2.out (fun g hg=>k4 g (by have h9:=(HR2.lt g hg).1;omega));have o3:=Ag (As HLF.out (bel HU1.out (bel HU2.out HU3.out))) (fun g hg=>k4 g (by have h9:=(HLF.lt g hg).1;have:=HEN.out;omega));obtain⟨r1,r2,r3⟩:=HFR.out;have hO:UU w.heap.size _ (.slice s0 c.sign.length d0) (.slice s1 c.regs.length d1) (.slice s2 c.slots.length d2) (.slice pl9 (Bd c).list.length ql9) (Bd c):=⟨by rw[r1];exact C8 o0 (by have h8:wx.drew.heap.size=wx.heap.size:=rfl;omega),by rw[r2];exact C8 o1 oM,by rw[r3];exact C8 o2 oM,C8 o3 HEN.2⟩
    have hle:w.heap.size<=w.heap.size+1:=Nat.le_succ _;exact⟨_,_,_,_,rfl,⟨C9 Fy hO.sign,C9 H6 hO.regs,C9 JV hO.slots,C9 D6 hO.list⟩,hO,((((bel HBXE.out (bel HU1.out (bel HU2.out HU3.out))).setCell hle _).setCell hle _).setCell hle _).setCell hle _⟩
def MX(Q:Int->Prop)(s:Fz):Prop:=(∀j∈s.left,Q j.bits)/\∀p,∀j∈s.wait p,Q j.bits
section
variable {Q : Int -> Prop} {s : Fz}
theorem MX.write(h0:Q 0)(h:MX Q s)(p:Nat):MX Q (Ba s p):=by
 refine⟨fun j hj=>?_,fun q j hj=>?_⟩
 .have hj':j∈s.left++Be s.dep p (s.wait p):=hj;rcases List.mem_append.1 hj' with e|e
  .exact h.1 j e
  .unfold Be at e;split at e
   .cases e
   .split at e
    .exact h.2 p j e
    .rcases List.mem_cons.1 e with q|q
     .rw[q];exact h0
     .rcases List.mem_append.1 q with r|r
      .exact h.2 p j r
      .simp only[List.mem_singleton]at r;rw[r];exact h0
 .have hj':j∈(if q=p then [] else s.wait q):=hj;split at hj'
  .cases hj'
  .exact h.2 q j hj'
theorem MX.flush(h0:Q 0)(h:MX Q s)(q:List Aa->Bool):∀m,MX Q (A9 q s m)
 |0=>h
 |m+1=>by
  have h1:=MX.flush h0 h q m;unfold A9;split
  .exact h1.write h0 m
  .exact h1
theorem MX.app(h:MX Q s){i:Aa}(hi:Q i.bits)(d:Nat):MX Q (I8 s i d):=⟨fun j hj=>(List.mem_append.1 hj).elim (h.1 j) fun e=>by simp only[List.mem_singleton]at e;rw[e];exact hi,h.2⟩
theorem MX.take(h0:Q 0)(h:MX Q s)(c:Cd){i:Aa}(hi:Q i.bits):MX Q (Ce c s i):=by
 unfold Ce;split
 .exact h
 .split
  .refine⟨h.1,fun p j hj=>?_⟩;have hj':j∈(if p=BH c i then s.wait p++[i]else s.wait p):=hj;split at hj'
   .rcases List.mem_append.1 hj' with e|e
    .exact h.2 p j e
    .simp only[List.mem_singleton]at e;rw[e];exact hi
   .exact h.2 p j hj'
  .split
   .exact(h.flush h0 _ _).app hi _
   .split
    .exact(h.flush h0 _ _).app hi _
    .exact(h.flush h0 _ _).app hi _
theorem MX.run(h0:Q 0)(c:Cd):∀ (l:List Aa) (s:Fz),(∀i∈l,Q i.bits)->MX Q s->MX Q (l.foldl (Ce c) s)
 |[],s,_,h=>h
 |i::l,s,hl,h=>by
  rw[List.foldl_cons];exact MX.run h0 c l _ (fun k hk=>hl k (List.mem_cons_of_mem i hk)) (h.take h0 c (hl i sM))
end
theorem Kj{c:Cd}(hc:(At c).1=0)(hk:Bb c):Bb (Bd c):=by
 have hg:=(F3 (Ie hc)).1;obtain⟨r1,r2,r3⟩:=Me c;refine⟨by rw[r1];exact hk.signL,by rw[r1];exact hk.names,by rw[r2];exact hk.regsL,by rw[r3];exact hk.slotsL,by have:=hg.listL;omega,by rw[r3];exact hk.sbits,?_⟩;rw[Md];split
 .exact hk.ibits
 .have h:MX (fun b=>0<=b/\b<4294967296) (CG c c.list):=MX.run oM c c.list GF hk.ibits ⟨fun j h=>Zhx,fun p j h=>Zhx⟩;exact(h.flush oM Bc c.sign.length).1
def Ck(c:Cd):Cd:=if(At c).1=0 then Bd c else⟨[],[],[],[]⟩
def RF(c:Cd):Int:=if(At c).1=0 then 0 else 160
theorem VI{c:Cd}(hk:Bb c):Bb (Ck c):=by
 unfold Ck;split
 .rename_i h;exact Kj h hk
 .exact⟨dE,dE,dE,dE,dE,dE,dE⟩
theorem VJ(v0 v1 v2 v3:Value)(c:Cd)(hk:Bb c)(w:World)(hv:Dk w v0 v1 v2 v3 c):
 Calls prog 9 #[.agg #[v0,v1,v2,v3]] w fun e w'=>∃u0 u1 u2 u3,e=.returned (.tuple #[.agg #[u0,u1,u2,u3],.int .i64 (RF c)])/\Dk w' u0 u1 u2 u3 (Ck c)/\UU w.heap.size w' u0 u1 u2 u3 (Ck c)/\Below w.heap.size w w':=by
 by_cases hc:(At c).1=0
 .have e1:RF c=0:=if_pos hc;have e2:Ck c=Bd c:=if_pos hc;rw[e1,e2];exact Mc v0 v1 v2 v3 c hk w hv hc
 .have e1:RF c=160:=if_neg hc;have e2:Ck c=⟨[],[],[],[]⟩:=if_neg hc;rw[e1,e2];exact(Ox v0 v1 v2 v3 c hk w hv hc).mono fun e w' ⟨h1,h2⟩=>⟨_,_,_,_,h1,⟨⟨none,0,rfl,.inl rfl⟩,⟨none,0,rfl,.inl rfl⟩,⟨none,0,rfl,.inl rfl⟩,⟨none,0,rfl,.inl rfl⟩⟩,⟨World.ownsRow_nil _ _ _ 3,World.ownsRow_nil _ _ _ 2,World.ownsRow_nil _ _ _ 5,World.ownsRow_nil _ _ _ 7⟩,h2⟩
def tuC:Cd:=⟨[⟨sName,1,2⟩],[⟨3,0⟩,⟨3,0⟩],[],[⟨29,0,0,0,0,0,0⟩,⟨12,1,0,0,0,0,0⟩,⟨31,0,1,0,0,0,0⟩]⟩
theorem XV:(At tuC).1=0:=by decide+kernel
theorem tu_ok:Bb tuC:=⟨dE,dE,dE,dE,dE,dE,dE⟩
theorem tu_fuse:(Bd tuC).list=[AY 0,⟨29,0,0,0,0,0,0⟩,⟨12,1,0,0,0,0,0⟩,⟨31,0,1,0,0,0,0⟩,Bw]:=by decide+kernel
theorem Kb(v0 v1 v2 v3:Value)(c:Cd)(hk:Bb c)(w:World)(hv:Dk w v0 v1 v2 v3 c):
 Calls prog 11 #[.agg #[v0,v1,v2,v3]] w fun e w'=>e=.returned (.bool ((At c).1==0))/\Below w.heap.size w w':=by
 have KC:Hid (∀v,Below w.heap.size w v->Calls prog 31 #[.agg #[v0,v1,v2,v3]] v fun e w'=>e=.returned (.tuple #[.int .i64 (At c).1,.int .i64 (At c).2])/\Below v.heap.size v w'):=fun v hvv=>Io v0 v1 v2 v3 c hk v (hv.below hvv);obtain⟨e1,he1⟩:=gA ((At c).1)
 obtain⟨e2,he2⟩:=gA ((At c).2)
 rw[he1,he2]at KC;rw[he1];clear hv hk he1 he2;go_enter func11,ntmps11;go_wp2_with(go_at_call 31;refine(KC.out _ (A0 _ _)).mono ?_;rintro e w1 ⟨rfl,hb1⟩);exact Zea
theorem Ra(w:World):Calls prog 32 #[] w fun e w'=>∃a b d,e=.returned (.agg #[.slice (some ⟨a,0,none⟩) 1 1,.slice (some ⟨b,0,none⟩) 2 2,.slice none 0 0,.slice (some ⟨d,0,none⟩) 3 3])/\Dk w' (.slice (some ⟨a,0,none⟩) 1 1) (.slice (some ⟨b,0,none⟩) 2 2) (.slice none 0 0) (.slice (some ⟨d,0,none⟩) 3 3) tuC/\Below w.heap.size w w':=by
 go_enter func32,ntmps32;go_wp2;refine bodyPost_ret (by simp[results,results32,go_sem];try rfl) rfl ?_;refine⟨_,_,_,rfl,?_,gG⟩;exact⟨(Lf (l:=tuC.sign) Fy _ _ _ rF 1 sM).below (A0 _ _),Lf (l:=tuC.regs) H6 _ _ _ rF 2 sM,⟨none,0,rfl,.inl rfl⟩,((Lf (l:=tuC.list) D6 _ _ _ rF 3 sM).below (A0 _ _)).below (A0 _ _)⟩
theorem R6(w:World)(FB:Nat):AZ 2 stC (w.alloc (.cells #[.slice (some ⟨FB,0,none⟩) 1 1,.slice (some ⟨FB,0,none⟩) 1 1] 73)) (.slice (some ⟨w.heap.size,0,none⟩) 1 1) [stS FB]:=
 NJ (l:=[stS FB]) ZY w #[.slice (some ⟨FB,0,none⟩) 1 1,.slice (some ⟨FB,0,none⟩) 1 1] 73 rfl 1
theorem Qh{c:Cd}(hc:(At c).1=0)(hk:Bb c):I5 c (Bd c):=Tt hc hk fun l G P a b d e f=>((QM hc hk).step l G P a b d e f).2.2
theorem NT(c:Cd)(hck:Bb c)(hc:(At c).1=0)(i1 i2 i3:Aa)(hl3:(Bd c).list=[AY 0,i1,i2,i3,Bw])(hsum:∀w:World,Calls prog 32 #[] w fun e w'=>∃a b d,e=.returned (.agg #[.slice (some ⟨a,0,none⟩) 1 1,.slice (some ⟨b,0,none⟩) 2 2,.slice none 0 0,.slice (some ⟨d,0,none⟩) 3 3])/\Dk w' (.slice (some ⟨a,0,none⟩) 1 1) (.slice (some ⟨b,0,none⟩) 2 2) (.slice none 0 0) (.slice (some ⟨d,0,none⟩) 3 3) c/\Below w.heap.size w w')(w:World):Calls prog 12 #[] w fun e w'=>e=.returned (.bool true)/\Below w.heap.size w w':=by
 have KR:=A8 (fun(v:World) (v0 v1 v2 v3:Value) (h:Dk v v0 v1 v2 v3 c)=>Mc v0 v1 v2 v3 c hck v h hc);have KB:Hid (∀ (v:World) (n:Nat),v.heap.size=n->Calls prog 9 #[.agg #[.slice none 0 0,.slice none 0 0,.slice none 0 0,.slice (some ⟨n,0,none⟩) 1 1]] (v.alloc (.cells #[.int .i64 35,.int .i64 0,.int .i64 0,.int .i64 0,.int .i64 0,.int .i64 0,.int .u32 0] 45)) fun e w'=>e=.returned (.tuple #[.agg #[.slice none 0 0,.slice none 0 0,.slice none 0 0,.slice none 0 0],.int .i64 160])/\Below v.heap.size v w'):=fun v n hn=>by
  subst hn;exact(Ox (.slice none 0 0) (.slice none 0 0) (.slice none 0 0) (.slice (some ⟨v.heap.size,0,none⟩) 1 1) YM end_ok _ ⟨⟨none,0,rfl,.inl rfl⟩,⟨none,0,rfl,.inl rfl⟩,⟨none,0,rfl,.inl rfl⟩,NJ (l:=YM.list) D6 v _ _ rF 1⟩ Tn).mono fun e w' h=>⟨h.1,bel (A0 _ _) h.2⟩
 have KM:Hid (∀ (v:World) (v0 v1 v2 v3 u0 u1 u2 u3:Value) (FB SB:Nat),Dk v v0 v1 v2 v3 c->Dk v u0 u1 u2 u3 (Bd c)->AZ 2 stC v (.slice (some ⟨SB,0,none⟩) 1 1) [stS FB]->StV v (stS FB)->Calls prog 16 #[.agg #[v0,v1,v2,v3],.agg #[u0,u1,u2,u3],.slice (some ⟨SB,0,none⟩) 1 1,.int .i64 0] v fun e w'=>e=.returned (.bool true)/\Below v.heap.size v w'):=fun v v0 v1 v2 v3 u0 u1 u2 u3 FB SB h1 h2 h3 h4=>
  OJ v0 v1 v2 v3 u0 u1 u2 u3 _ c (Bd c) hck (Kj hc hck) hc (Ie hc) (Qh hc hck) [stS FB] (by show 1<=140737488351232;omega) 0 (gI _) v h1 h2 h3 (fun s hs=>by simp only[List.mem_singleton]at hs;subst hs;exact h4)
 have HLN:Hid ((Bd c).list.length=5):=(by rw[hl3];rfl)
 have HL5:=A8 hl3;have KSU:=A8 hsum;clear hsum hck hc hl3;go_enter func12,ntmps12;go_upto_region 4 with(first
  |(go_at_call 32;(with_reducible refine(KSU.out _).mono ?_);rintro e w1 ⟨a,b,d,rfl,hcd,hb1⟩;have HC1:=A8 hcd;have HB1:=A8 hb1;clear hcd hb1)
  |(go_at_call 9;(with_reducible refine(KR.out _ _ _ _ _ HC1.out).mono ?_);rintro e w2 ⟨u0,u1,u2,u3,rfl,hcd,-,hb2⟩;have HC2:=A8 hcd;have HB2:=A8 hb2;obtain⟨p3,q3,h3,_⟩:=hcd.list;rw[HLN.out]at h3;subst h3;obtain⟨p0,n0,q0,rfl⟩:∃p n q,u0=.slice p n q:=(by obtain⟨p,q,e,_⟩:=hcd.sign;exact⟨p,_,q,e⟩);obtain⟨p1,n1,q1,rfl⟩:∃p n q,u1=.slice p n q:=(by obtain⟨p,q,e,_⟩:=hcd.regs;exact⟨p,_,q,e⟩);obtain⟨p2,n2,q2,rfl⟩:∃p n q,u2=.slice p n q:=(by obtain⟨p,q,e,_⟩:=hcd.slots;exact⟨p,_,q,e⟩);clear hcd hb2)
  |(go_at_call 9;(with_reducible refine(KB.out _ _ sM).mono ?_);rintro e w3 ⟨rfl,hb3⟩;have HB3:=A8 hb3;clear hb3))
 have hcl:=HC2.list;rw[HL5.out]at hcl;obtain⟨lb,lo,rfl,hc0⟩:=hcl.at (i:=0) sM;obtain⟨lb',lo',hlb,hc4⟩:=hcl.at (i:=4) sM;simp only[Option.some.injEq,Addr.mk.injEq,and_true]at hlb;obtain⟨rfl,rfl⟩:=hlb;have o0:=hc0.at 0 (v:=.int .i64 36) rfl;have o4:=hc4.at 0 (v:=.int .i64 37) rfl;simp only[Nat.zero_mul,Nat.add_zero]at o0 o4;clear hcl hc0 hc4;obtain⟨W4,hW4⟩:∃W,((w3.alloc (.cells #[.slice none 0 0,.slice none 0 0,.slice none 0 0,.slice none 0 0] 27)).alloc (.cells #[.int .u32 1065353216,.int .u32 1073741824] 43)).alloc (.cells #[.slice (some ⟨w3.heap.size+1,0,none⟩) 2 2] 70)=W:=⟨_,rfl⟩
 have HA4:Hid (Below w3.heap.size w3 W4):=by rw[<-hW4];exact bel (bel (A0 _ _) (A0 _ _)) (A0 _ _)
 have HVC:Hid (StV W4 (stS (w3.heap.size+1+1))):=by
  have h9:=vc_new (w3.alloc (.cells #[.slice none 0 0,.slice none 0 0,.slice none 0 0,.slice none 0 0] 27));rw[show(w3.alloc (.cells #[.slice none 0 0,.slice none 0 0,.slice none 0 0,.slice none 0 0] 27)).heap.size=w3.heap.size+1 by simp,hW4]at h9;exact⟨h9,h9,XP,XP⟩
 have HAW:Hid (Below w2.heap.size w2 W4):=bel (A0 _ _) (bel HB3.out HA4.out);have HC4:=A8 (HC2.below HAW.out);have HBW:Hid (Below w.heap.size w W4):=bel HB1.out (bel HB2.out HAW.out);have d0:W4.cell? ⟨w2.heap.size,0,none⟩=some (.slice p0 n0 q0):=kc (bel HB3.out HA4.out) sG;have d1:W4.cell? ⟨w2.heap.size,1,none⟩=some (.slice p1 n1 q1):=kc (bel HB3.out HA4.out) sG;have d2:W4.cell? ⟨w2.heap.size,2,none⟩=some (.slice p2 n2 q2):=kc (bel HB3.out HA4.out) sG;have d3:W4.cell? ⟨w2.heap.size,3,none⟩=some (.slice (some ⟨lb,lo,none⟩) 5 q3):=kc (bel HB3.out HA4.out) sG;try rw[hW4]
 obtain⟨FB,hFB⟩:∃F,w3.heap.size+1+1=F:=⟨_,rfl⟩
 rw[hFB]at HVC;try rw[hFB]
 have d4:W4.cell? ⟨lb,lo,none⟩=some (.int .i64 36):=kc HAW.out o0;have d5:W4.cell? ⟨lb,lo+4*7,none⟩=some (.int .i64 37):=kc HAW.out o4;simp only[Nat.reduceMul]at d5;clear o0 o4;clear hW4 HA4 HAW HB1 HB2 HB3 HC1 HC2;have z0:=(fun o=>kc (A0 W4 o) d0)
 have z1:=(fun o=>kc (A0 W4 o) d1)
 have z2:=(fun o=>kc (A0 W4 o) d2)
 have z3:=(fun o=>kc (A0 W4 o) d3)
 have z4:=(fun o=>kc (A0 W4 o) d4)
 have z5:=(fun o=>kc (A0 W4 o) d5)
 refine rG (fun v=>v.cell? ⟨w2.heap.size,0,none⟩=some (.slice p0 n0 q0)/\v.cell? ⟨w2.heap.size,1,none⟩=some (.slice p1 n1 q1)/\v.cell? ⟨w2.heap.size,2,none⟩=some (.slice p2 n2 q2)/\v.cell? ⟨w2.heap.size,3,none⟩=some (.slice (some ⟨lb,lo,none⟩) 5 q3)/\v.cell? ⟨lb,lo,none⟩=some (.int .i64 36)/\v.cell? ⟨lb,lo+28,none⟩=some (.int .i64 37)) fun yH=>?_;refine Tf 0 1 2 3 4 5 ?_;refine Tf 6 7 8 9 10 11 ?_;refine Tf 12 13 14 15 16 17 ?_;refine Tf 18 19 20 21 22 23 ?_;refine Tf 24 25 26 27 28 30 ?_;refine Tc 31 32 33 ?_;clear yH;refine wpAnyH_ready (rs:=[29,34]) kR sM ?_;refine Hi 29 (fun K hK=>?_) ?_
 .go_simp;(go_at_call 32;(with_reducible refine(KSU.out _).mono ?_);rintro e w5 ⟨a5,b5,e5,rfl,k1,k5⟩;have HC5:=A8 k1;have HB5:Hid (Below W4.heap.size W4 w5):=Zft;(try(have HRB:=A8 (((R6 W4 FB).below (A7 _)).below k5)));have c0:=kc HB5.out d0;have x0:=(fun o=>kc (A0 w5 o) c0);have c1:=kc HB5.out d1;have x1:=(fun o=>kc (A0 w5 o) c1);have c2:=kc HB5.out d2;have x2:=(fun o=>kc (A0 w5 o) c2);have c3:=kc HB5.out d3;have x3:=(fun o=>kc (A0 w5 o) c3);have c4:=kc HB5.out d4;have x4:=(fun o=>kc (A0 w5 o) c4);have c5:=kc HB5.out d5;have x5:=(fun o=>kc (A0 w5 o) c5);clear k1 k5);try(go_wp2_with fail)
  refine AF hK fun yH=>?_;clear hK K;clear yH;refine AJ 34 fun K hK=>?_;go_simp;exact Zbh
 refine Hi 34 (fun K hK=>?_) AllReadyH.nil;go_simp;refine AF hK fun yH=>?_;clear hK K;clear yH;refine AJ 29 fun K hK=>?_;go_simp;(go_at_call 32;(with_reducible refine(KSU.out _).mono ?_);rintro e w5 ⟨a5,b5,e5,rfl,k1,k5⟩;have HC5:=A8 k1;have HB5:Hid (Below W4.heap.size W4 w5):=Zft;(try(have HRB:=A8 (((R6 W4 FB).below (A7 _)).below k5)));have c0:=kc HB5.out d0;have x0:=(fun o=>kc (A0 w5 o) c0);have c1:=kc HB5.out d1;have x1:=(fun o=>kc (A0 w5 o) c1);have c2:=kc HB5.out d2;have x2:=(fun o=>kc (A0 w5 o) c2);have c3:=kc HB5.out d3;have x3:=(fun o=>kc (A0 w5 o) c3);have c4:=kc HB5.out d4;have x4:=(fun o=>kc (A0 w5 o) c4);have c5:=kc HB5.out d5;have x5:=(fun o=>kc (A0 w5 o) c5);clear k1 k5);try(go_wp2_with fail)
 exact Zbh
theorem Ps(w:World):Calls prog 12 #[] w fun e w'=>e=.returned (.bool true)/\Below w.heap.size w w':=
 NT tuC tu_ok XV _ _ _ tu_fuse Ra w
theorem Qq(c:Cd)(l:List Aa):Hr (Bd c) l=Hr c l:=by
 have e:Hh (Bd c)=Hh c:=by funext x i;unfold Hh;rw[TI]
 unfold Hr;rw[e]
theorem Ki{c:Cd}(hc:(At c).1=0):Ck c=Bd c:=if_pos hc
def lg0:Aa:=⟨2,0,0,0,0,1,0⟩
def lgW:Aa:=⟨34,0,0,0,0,0,0⟩
def lgE:Aa:=⟨35,0,0,0,0,0,0⟩
def lgG(P i:Nat):Aa:=⟨29,((1+i%P:Nat):Int),0,0,0,0,0⟩
def Za(i:Nat):ByteArray:=ByteArray.extract ⟨#[97,98,99,100,101,102,103,104]⟩ i (i+1)
def NZ(k:Nat):List Cx:=(List.range k).map fun i=>⟨Za i,1,1⟩
def Pw(k:Nat):List Ty:=⟨2,0⟩::(List.range k).map fun(i:Nat)=>⟨3,(i:Int)⟩
def GP(P W M E:Nat):List Aa:=((([lg0]++List.replicate W lgW)++(List.range M).map (lgG P))++List.replicate E lgE)
def FH(P W M:Nat):Cd:=⟨NZ P,Pw P,[],GP P W M W⟩
theorem VY(k:Nat):NZ (k+1)=NZ k++[⟨Za k,1,1⟩]:=by unfold NZ;rw[List.range_succ,List.map_append];rfl
theorem VX(k:Nat):Pw (k+1)=Pw k++[⟨3,(k:Int)⟩]:=by unfold Pw;rw[List.range_succ,List.map_append];rfl
theorem lgL_w(P W:Nat):GP P (W+1) 0 0=GP P W 0 0++[lgW]:=by unfold GP;rw[List.replicate_succ'];simp
theorem lgL_m(P W M:Nat):GP P W (M+1) 0=GP P W M 0++[lgG P M]:=by unfold GP;rw[List.range_succ,List.map_append];simp
theorem lgL_e(P W M E:Nat):GP P W M (E+1)=GP P W M E++[lgE]:=by unfold GP;rw[List.replicate_succ'];simp
theorem FN(P W M E:Nat):(GP P W M E).length=1+W+M+E:=by unfold GP;simp;omega
theorem GR(k:Nat):(NZ k).length=k:=by unfold NZ;simp
theorem GQ(k:Nat):(Pw k).length=k+1:=by unfold Pw;simp
theorem lg_ok{P W M:Nat}(hP:P<=8)(hW:W<=64)(hM:M<=33000):Bb (FH P W M):=by
 refine⟨by show(NZ P).length<=_;rw[GR];omega,fun p hp=>?_,by show(Pw P).length<=_;rw[GQ];omega,gI _,by show(GP P W M W).length<=_;rw[FN];omega,fun s hs=>(by cases hs),fun i hi=>?_⟩
 .have hp':p∈(List.range P).map fun i=>(⟨Za i,1,1⟩:Cx):=hp;obtain⟨i,-,rfl⟩:=List.mem_map.1 hp';show(Za i).size<=_;unfold Za;rw[ByteArray.size_extract];omega
 .have hi':i∈GP P W M W:=hi;unfold GP at hi';simp only[List.mem_append,List.mem_singleton,List.mem_replicate,List.mem_map]at hi';rcases hi' with((h|h)|⟨j,-,h⟩)|h
  .rw[h];exact⟨dE,dE⟩
  .rw[h.2];exact⟨dE,dE⟩
  .rw[<-h];exact⟨Int.le_refl _,by show(0:Int)<4294967296;decide⟩
  .rw[h.2];exact⟨dE,dE⟩
theorem lg_sz{P W M:Nat}(hP:P<=8)(hW:W<=64)(hM:M<=33000):CdSz (FH P W M):=by
 refine⟨by show(NZ P).length*32<=_;rw[GR];omega,by show(Pw P).length*16<=_;rw[GQ];omega,by show 0*32<=_;omega,by show(GP P W M W).length*56<=_;rw[FN];omega⟩
theorem dp_w:∀ (k:Nat) (n m:Int),n<=m->(List.replicate k lgW).foldl K7 (n,m)=(n+k,max m (n+k))
 |0,n,m,h=>by simp;omega
 |k+1,n,m,h=>by
  rw[List.replicate_succ,List.foldl_cons];show List.foldl K7 (n+1,max m (n+1)) _=_;rw[dp_w k (n+1) (max m (n+1)) (Int.le_max_right _ _)];simp only[Prod.mk.injEq];omega
theorem dp_e:∀ (k:Nat) (n m:Int),n<=m->((List.replicate k lgE).foldl K7 (n,m)).2=m
 |0,n,m,h=>rfl
 |k+1,n,m,h=>by
  rw[List.replicate_succ,List.foldl_cons];show(List.foldl K7 (n-1,max m (n-1)) _).2=_;rw[show max m (n-1)=m by omega];exact dp_e k (n-1) m oM
theorem dp_g(P:Nat):∀ (l:List Nat) (n m:Int),n<=m->(l.map (lgG P)).foldl K7 (n,m)=(n,m)
 |[],n,m,h=>rfl
 |x::l,n,m,h=>by
  rw[List.map_cons,List.foldl_cons];show List.foldl K7 (n,max m n) _=_;rw[show max m n=m by omega];exact dp_g P l n m h
theorem Zb(P W M:Nat):Od (GP P W M W)<=(W:Int):=by
 unfold Od GP;rw[List.foldl_append,List.foldl_append,List.foldl_append];show(List.foldl K7 (List.foldl K7 (List.foldl K7 (0,0) _) _) _).2<=_;rw[dp_w W 0 0 (Int.le_refl _),dp_g P _ _ _ oM,dp_e W _ _ oM];omega
theorem PN(l:List Aa):(BJ l).length<=l.length:=List.length_filter_le ..
structure NV(E CB:Nat)(S:List Cx)(R:List Ty)(L:List Aa)(vs vr vl:Value)(w0 w:World):Prop where
 bx:w.rowIs CB 27 4 (f4 vs vr (.slice none 0 0) vl)
 s:w.ownsRow E 53 3 vs S.length (AG AU S)
 r:w.ownsRow E 47 2 vr R.length (AG I2 R)
 l:w.ownsRow E 45 7 vl L.length (AG De L)
 ge:E<=CB
 be:Below E w0 w
 le:E<=w.heap.size
section
variable {E CB : Nat} {S : List Cx} {R : List Ty} {L : List Aa} {vs vr vl v' : Value} {w0 w w' : World}
theorem Fx{w:World}{B B':Nat}{t t':TypeId}{k k' n n':Nat}{v v':Value}{xs xs':List Value}(h:w.ownsRow B t k v n xs)(h':w.ownsRow B' t' k' v' n' xs')(ht:t≠t'){g:Nat}(hg:v.ownBlock=some g):v'.ownBlock≠some g:=by
 intro hb;rcases h.2 with⟨rfl,_⟩|⟨g1,cap,cur,rfl,_,h1,_⟩
 .cases hg
 rcases h'.2 with⟨rfl,_⟩|⟨g2,cap',cur',rfl,_,h2,_⟩
 .cases hb
 have e1:g1=g:=Option.some.inj hg;have e2:g2=g:=Option.some.inj hb;rw[e1]at h1;rw[e2,h1]at h2;simp only[Option.some.injEq,Obj.cells.injEq]at h2;exact ht h2.2.1
theorem NV.setS(h:NV E CB S R L vs vr vl w0 w){x:Cx}(hb:Below E w w')(ho:w'.ownsRow E 53 3 v' (S.length+1) (AG AU S++AU x))(hoth:∀b,b<w.heap.size->vs.ownBlock≠some b->w'.heap[b]? =w.heap[b]?):
 NV E CB (S++[x]) R L v' vr vl w0 (w'.setCell ⟨CB,0,none⟩ v')/\w'.cell? ⟨CB,0,none⟩=some vs/\w'.frozen? ⟨CB,0,none⟩=false:=by
 have hb':=h.bx.of_block (hoth _ h.bx.lt (An h.s h.bx dE));have k3:∀k,k≠CB->(w'.setCell ⟨CB,0,none⟩ v').heap[k]? =w'.heap[k]? :=fun k hk=>gE hk;have hr':=Ag h.r fun g hg=>hoth g (h.r.lt g hg).2 (Fx h.r h.s dE hg);have hl':=Ag h.l fun g hg=>hoth g (h.l.lt g hg).2 (Fx h.l h.s dE hg);refine⟨⟨(hb'.set 0 _).congr fun j hj=>?_,?_,Ag hr' fun g hg=>k3 g (fun e=>An hr' hb' dE (hg.trans (congrArg some e))),Ag hl' fun g hg=>k3 g (fun e=>An hl' hb' dE (hg.trans (congrArg some e))),h.ge,(h.be.trans hb).setCell h.ge _,by simpa using gH h.le hb.size⟩,hb'.cell (i:=0) dE,hb'.frozen 0⟩
 .exact UZ
 .exact Zcy
theorem NV.setR(h:NV E CB S R L vs vr vl w0 w){x:Ty}(hb:Below E w w')(ho:w'.ownsRow E 47 2 v' (R.length+1) (AG I2 R++I2 x))(hoth:∀b,b<w.heap.size->vr.ownBlock≠some b->w'.heap[b]? =w.heap[b]?):
 NV E CB S (R++[x]) L vs v' vl w0 (w'.setCell ⟨CB,1,none⟩ v')/\w'.cell? ⟨CB,1,none⟩=some vr/\w'.frozen? ⟨CB,1,none⟩=false:=by
 have hb':=h.bx.of_block (hoth _ h.bx.lt (An h.r h.bx dE));have k3:∀k,k≠CB->(w'.setCell ⟨CB,1,none⟩ v').heap[k]? =w'.heap[k]? :=fun k hk=>gE hk;have hs':=Ag h.s fun g hg=>hoth g (h.s.lt g hg).2 (Fx h.s h.r dE hg);have hl':=Ag h.l fun g hg=>hoth g (h.l.lt g hg).2 (Fx h.l h.r dE hg);refine⟨⟨(hb'.set 1 _).congr fun j hj=>?_,Ag hs' fun g hg=>k3 g (fun e=>An hs' hb' dE (hg.trans (congrArg some e))),?_,Ag hl' fun g hg=>k3 g (fun e=>An hl' hb' dE (hg.trans (congrArg some e))),h.ge,(h.be.trans hb).setCell h.ge _,by simpa using gH h.le hb.size⟩,hb'.cell (i:=1) dE,hb'.frozen 1⟩
 .exact UZ
 .exact Zcy
theorem NV.setL(h:NV E CB S R L vs vr vl w0 w){x:Aa}(hb:Below E w w')(ho:w'.ownsRow E 45 7 v' (L.length+1) (AG De L++De x))(hoth:∀b,b<w.heap.size->vl.ownBlock≠some b->w'.heap[b]? =w.heap[b]?):
 NV E CB S R (L++[x]) vs vr v' w0 (w'.setCell ⟨CB,3,none⟩ v')/\w'.cell? ⟨CB,3,none⟩=some vl/\w'.frozen? ⟨CB,3,none⟩=false:=by
 have hb':=h.bx.of_block (hoth _ h.bx.lt (An h.l h.bx dE));have k3:∀k,k≠CB->(w'.setCell ⟨CB,3,none⟩ v').heap[k]? =w'.heap[k]? :=fun k hk=>gE hk;have hs':=Ag h.s fun g hg=>hoth g (h.s.lt g hg).2 (Fx h.s h.l dE hg);have hr':=Ag h.r fun g hg=>hoth g (h.r.lt g hg).2 (Fx h.r h.l dE hg);refine⟨⟨(hb'.set 3 _).congr fun j hj=>?_,Ag hs' fun g hg=>k3 g (fun e=>An hs' hb' dE (hg.trans (congrArg some e))),Ag hr' fun g hg=>k3 g (fun e=>An hr' hb' dE (hg.trans (congrArg some e))),?_,h.ge,(h.be.trans hb).setCell h.ge _,by simpa using gH h.le hb.size⟩,hb'.cell (i:=3) dE,hb'.frozen 3⟩
 .exact UZ
 .exact Zcy
theorem OO{B:Nat}{V:World}{e t:TypeId}{z:Value}{sz by':Nat}(ht:prog.underlying t=some (.slice e))(hi:(prog.info? e).map (fun i=>(i.zero,i.size,i.bytes))=some (some z,sz,by'))(hzs:z.cells.size=sz)(hsz:0<sz){p:Option Addr}{n q:Nat}{xs:List Value}(h:V.ownsRow B e sz (.slice p n q) n xs)(hB:B<=V.heap.size)
 (cs:Array Value) (hcs:cs.size=sz) (h1:∀u∈cs.toList,u.oneCell'=true) (hn:n+1<=maxLen) (hb:(n+1)*by'<=140737488355328) (ty:TypeId):
 ∃g c' w',(Builtin.append_ #[t,t] ty #[.slice p n q,.slice (some ⟨V.heap.size,0,none⟩) 1 1]).run prog (V.alloc (.cells cs e)).drew=.ok (.slice (some ⟨g,0,none⟩) (n+1) c') w'/\Below B V w'/\w'.ownsRow B e sz (.slice (some ⟨g,0,none⟩) (n+1) c') (n+1) (xs++cs.toList)/\∀b,b<V.heap.size->(Value.slice p n q).ownBlock≠some b->w'.heap[b]? =V.heap[b]? :=by
 obtain⟨i0,hi0,hz0,hz1,hz2⟩:=info_parts hi;have hb0:Below V.heap.size V (V.alloc (.cells cs e)).drew:=bel (A0 _ _) (AQ _);have hs:(V.alloc (.cells cs e)).drew.heap.size=V.heap.size+1:=by show(V.alloc (.cells cs e)).heap.size=_;simp
 have h0:=As h hb0;obtain⟨g,cap,w3,hr,hown,hgrow,hat,hlt⟩:=run_append_lies (P:=prog) (V.alloc (.cells cs e)).drew t ty B e i0 _ sz by' ht hi0 hz0 hz1 hz2 hzs hsz (.slice p n q) n xs h0 ⟨V.heap.size,0,none⟩ 1 1 cs.toList (by simp[hcs])
  (World.news_of_block (cs:=cs) (t:=e) (fr:=(0,0)) (show(V.alloc (.cells cs e)).heap[V.heap.size]? =_ from heap_alloc_new V _)) h1 dE hn hb oM _ rfl
 exact⟨g,cap,w3,hr,(hb0.mono hB).grown hgrow oM (fun q e=>(h0.lt q e).1),hown,fun b hb hne=>(hgrow.block b oM (Ne.symm hne)).trans (hb0.block b hb)⟩
theorem NV.cd(h:NV E CB S R L vs vr vl w0 w):Dk w vs vr (.slice none 0 0) vl ⟨S,R,[],L⟩:=⟨C9 Fy h.s,C9 H6 h.r,⟨none,0,rfl,.inl rfl⟩,C9 D6 h.l⟩
end
theorem LQ(V0:Int)(l0: -9223372036854775808<=V0)(u0:V0<=9223372036854775807)(V1:Int)(l1: -9223372036854775808<=V1)(u1:V1<=9223372036854775807)(V2:Int)(l2: -9223372036854775808<=V2)(u2:V2<=9223372036854775807)(w:World):
 Calls prog 7 #[.agg #[.int .i64 V0,.int .i64 V1,.int .i64 V2]] w fun e w'=>e=.returned (.bool true)/\Below w.heap.size w w':=by
 obtain⟨M,hM⟩:∃a:Nat,max 0 (min V0 33000)=(a:Int):=⟨(max 0 (min V0 33000)).toNat,oM⟩
 obtain⟨P,hP⟩:∃a:Nat,max 1 (min V1 8)=(a:Int):=⟨(max 1 (min V1 8)).toNat,oM⟩
 obtain⟨H,hH⟩:∃a:Nat,max 0 (min V2 64)=(a:Int):=⟨(max 0 (min V2 64)).toNat,oM⟩
 have bM:M<=33000:=oM;have bP:P<=8:=oM;have bP1:1<=P:=oM;have bH:H<=64:=oM;obtain⟨W4,hW4⟩:∃W,(((w.alloc (.cells #[.int .i64 V0,.int .i64 V1,.int .i64 V2] 51)).alloc (.cells #[.int .i64 2,.int .i64 0] 47)).alloc (.cells #[.int .i64 2,.int .i64 0,.int .i64 0,.int .i64 0,.int .i64 0,.int .i64 1,.int .u32 0] 45)).alloc (.cells #[.slice none 0 0,.slice (some ⟨w.heap.size+1,0,none⟩) 1 1,.slice none 0 0,.slice (some ⟨w.heap.size+1+1,0,none⟩) 1 1] 27)=W:=⟨_,rfl⟩
 have HL0:Hid (NV w.heap.size (w.heap.size+1+1+1) (NZ 0) (Pw 0) (GP P 0 0 0) (.slice none 0 0) (.slice (some ⟨w.heap.size+1,0,none⟩) 1 1) (.slice (some ⟨w.heap.size+1+1,0,none⟩) 1 1) w W4):=by
  have b1:Below w.heap.size w (w.alloc (.cells #[.int .i64 V0,.int .i64 V1,.int .i64 V2] 51)):=A0 _ _;obtain⟨A,hA⟩:=gA (w.alloc (.cells #[.int .i64 V0,.int .i64 V1,.int .i64 V2] 51))
  have sA:A.heap.size=w.heap.size+1:=by rw[<-hA];simp
  rw[hA]at hW4 b1;have o1:=World.ownsRow_lit (base:=w.heap.size) (e:=47) (size:=2) A #[.int .i64 2,.int .i64 0] 1 oM dE rfl;obtain⟨B,hB⟩:=gA (A.alloc (.cells #[.int .i64 2,.int .i64 0] 47))
  have b2:Below A.heap.size A B:=by rw[<-hB];exact A0 _ _
  have sB:B.heap.size=w.heap.size+1+1:=by rw[<-hB];simp[sA]
  rw[hB]at hW4 o1;have o2:=World.ownsRow_lit (base:=w.heap.size) (e:=45) (size:=7) B #[.int .i64 2,.int .i64 0,.int .i64 0,.int .i64 0,.int .i64 0,.int .i64 1,.int .u32 0] 1 oM dE rfl;obtain⟨C,hC⟩:=gA (B.alloc (.cells #[.int .i64 2,.int .i64 0,.int .i64 0,.int .i64 0,.int .i64 0,.int .i64 1,.int .u32 0] 45))
  have b3:Below B.heap.size B C:=by rw[<-hC];exact A0 _ _
  have sC:C.heap.size=w.heap.size+1+1+1:=by rw[<-hC];simp[sB]
  rw[hC]at hW4 o2;have b4:Below C.heap.size C W4:=by rw[<-hW4];exact A0 _ _
  have hr:=Di C #[.slice none 0 0,.slice (some ⟨w.heap.size+1,0,none⟩) 1 1,.slice none 0 0,.slice (some ⟨w.heap.size+1+1,0,none⟩) 1 1] 27;rw[hW4,sC]at hr;rw[sA]at o1;rw[sB]at o2;refine⟨hr.congr fun j hj=>?_,World.ownsRow_nil _ _ _ 3,As (As o1 b3) b4,As o2 b4,oM,bel b1 (bel b2 (bel b3 b4)),by have:=b4.size;omega⟩;have hj':j<4:=hj;exact UZ
 obtain⟨CB,hCB⟩:∃x,w.heap.size+1+1+1=x:=⟨_,rfl⟩
 rw[hCB]at HL0;have HCB:=A8 hCB;have HW4:=A8 hW4;have HGE:Hid (w.heap.size<CB):=by show _<_;omega
 clear hCB hW4;go_enter func7,ntmps7;go_upto_block 0 with fail;try rw[HW4.out]
 try rw[HCB.out]
 clear HW4 HCB;go_wp2_with fail
 go_loopw [7] (fun iv wr=>∃ (k:Nat) (vs vr vl:Value),k<=P/\iv=.int .i64 (k:Int)/\Hid (NV w.heap.size CB (NZ k) (Pw k) (GP P 0 0 0) vs vr vl w wr)) (fun iv _=>P-(intOf iv).toNat)
 case atStart=>exact⟨0,_,_,_,gI _,rfl,HL0.out⟩
 case round=>
  clear HL0;obtain⟨k,vs,vr,vl,hk,rfl,HJ⟩:=hrel;obtain⟨ps,qs,rfl⟩:=AD HJ.s;obtain⟨pr,qr,rfl⟩:=AD HJ.r;by_cases hlt:k<P
  .have i1:(0:Int)<=(k:Int):=oM;have i2:(k:Int)<(P:Int):=oM;have i3:(k:Int)+1<=8:=oM;have i4:(k:Int)<=(k:Int)+1:=oM;have wi:IntKind.i64.wrap ((k:Int)+1)=((k+1:Nat):Int):=by rw[IntKind.wrap_i64];omega
   obtain⟨g,c',w5,h1,h2,h3,h4⟩:=OO (t:=22) (e:=53) underlying22 Hp rF dE HJ.s HJ.le #[.string (Za k),.int .i64 1,.int .i64 1] rfl PG (by rw[GR];unfold maxLen;omega) (by rw[GR];omega) 22;obtain⟨hL5,c5,z5⟩:=HJ.setS (x:=⟨Za k,1,1⟩) h2 h3 h4;rw[<-VY]at hL5;obtain⟨W5,hW5⟩:∃W,w5.setCell ⟨CB,0,none⟩ (.slice (some ⟨g,0,none⟩) ((NZ k).length+1) c')=W:=⟨_,rfl⟩
   rw[hW5]at hL5;obtain⟨g2,c2,w6,k1,k2,k3,k4,-⟩:=Gz (t:=23) (e:=47) underlying23 IR rF dE hL5.r hL5.le #[.int .i64 3,.int .i64 (k:Int)] rfl PG (by rw[GQ];unfold maxLen;omega) (by rw[GQ];omega) 23;obtain⟨hL6,c6,z6⟩:=hL5.setR (x:=⟨3,(k:Int)⟩) k2 k3 k4;rw[<-VX]at hL6;have bS:wr.cell? ⟨CB,0,none⟩=some (.slice ps (NZ k).length qs):=HJ.bx.cell (i:=0) dE;have bR:W5.cell? ⟨CB,1,none⟩=some (.slice pr (Pw k).length qr):=hL5.bx.cell (i:=1) dE;have bR':=fun o=>kc (A0 W5 o) bR;have bS':(wr.alloc (.cells #[.string (Za k),.int .i64 1,.int .i64 1] 53)).cell? ⟨CB,0,none⟩=some (.slice ps (NZ k).length qs):=kc (A0 _ _) bS;rw[GR]at h1 c5 bS bS' hW5;rw[GQ]at k1 c6 bR bR' hL6;have HR1:=A8 h1;have HR2:=A8 k1;have HQ:Hid (NV w.heap.size CB (NZ (k+1)) (Pw (k+1)) (GP P 0 0 0) _ _ vl w _):=hL6;have cb2:wr.cell? ⟨CB,2,none⟩=some (.slice none 0 0):=HJ.bx.cell (i:=2) dE;have cb5:w5.cell? ⟨CB,2,none⟩=some (.slice none 0 0):=(gC (h4 CB HJ.bx.lt (An HJ.s HJ.bx dE))).trans cb2;have cbA:=fun o=>kc (A0 wr o) cb2;have cbW:W5.cell? ⟨CB,2,none⟩=some (.slice none 0 0):=hL5.bx.cell (i:=2) dE;clear h1 h2 h3 h4 k1 k2 k3 k4 hL5 hL6 HJ;unfold Za at HR1 bS';go_upto_region 8 with fail;go_cut [] (fun wx=>wx=W5)
   case first=>
    refine rG (fun v=>v.cell? ⟨CB,2,none⟩=some (.slice none 0 0)) fun yH=>?_;refine Tf 0 2 3 4 5 6 ?_;clear yH;refine wpAnyH_ready (rs:=[1,7]) kR sM ?_;refine Hi 1 (fun K hK=>?_) ?_
    .go_simp;refine AF hK fun yH=>?_;clear hK K;clear yH;refine AJ 7 fun K hK=>?_;exact Zcr
    refine Hi 7 (fun K hK=>?_) AllReadyH.nil;go_simp;refine AF hK fun yH=>?_;clear hK K;clear yH;refine AJ 1 fun K hK=>?_;exact Zcr
   case rest=>
    subst hcut;go_wp2_with(at_builtin;refine Au rF _ _ _ rF _ _ _ rF rF HR2.out ?_);go_roundw
    case rel=>exact⟨k+1,_,_,_,oM,gN,HQ.out⟩
    case measure=>simp[intOf];omega
  .have e1:¬ (k:Int)<(P:Int):=oM;obtain rfl:P=k:=oM;clear hlt hk;have HM1:Hid (NV w.heap.size CB (NZ P) (Pw P) (GP P 0 0 0) (.slice ps P qs) (.slice pr (P+1) qr) vl w wr):=by
    have h9:=HJ.out;rw[GR,GQ]at h9;exact h9
   clear HJ;go_upto_block 2 with fail;go_wp2_with fail
   go_loopw [8] (fun iv wr=>∃ (k:Nat) (vl:Value),k<=H/\iv=.int .i64 (k:Int)/\Hid (NV w.heap.size CB (NZ P) (Pw P) (GP P k 0 0) (.slice ps P qs) (.slice pr (P+1) qr) vl w wr)) (fun iv _=>H-(intOf iv).toNat)
   case atStart=>exact⟨0,_,gI _,rfl,HM1.out⟩
   case round=>
    clear HM1;obtain⟨k,vl,hk,rfl,HJ⟩:=hrel;obtain⟨pl,ql,rfl⟩:=AD HJ.l;by_cases hlt:k<H
    .have i2:(k:Int)<(H:Int):=oM;have wi:IntKind.i64.wrap ((k:Int)+1)=((k+1:Nat):Int):=by rw[IntKind.wrap_i64];omega
     obtain⟨g,c',w5,h1,h2,h3,h4,-⟩:=Gz (t:=25) (e:=45) underlying25 E0 rF dE HJ.l HJ.le #[.int .i64 34,.int .i64 0,.int .i64 0,.int .i64 0,.int .i64 0,.int .i64 0,.int .u32 0] rfl PG Zhk (by rw[FN];omega) 25;obtain⟨hL5,c5,z5⟩:=HJ.setL (x:=lgW) h2 h3 h4;rw[<-lgL_w]at hL5;have bL:wr.cell? ⟨CB,3,none⟩=some (.slice pl (GP P k 0 0).length ql):=HJ.bx.cell (i:=3) dE;have bL':=fun o=>kc (A0 wr o) bL;obtain⟨N5,hN5⟩:∃n,(GP P k 0 0).length=n:=⟨_,rfl⟩
     exact Zdf
    .have e1:¬ (k:Int)<(H:Int):=oM;obtain rfl:H=k:=oM;clear hlt hk;have HM2:=A8 HJ.out;clear HJ;go_upto_block 4 with fail;go_wp2_with fail
     go_loopw [9] (fun iv wr=>∃ (k:Nat) (vl:Value),k<=M/\iv=.int .i64 (k:Int)/\Hid (NV w.heap.size CB (NZ P) (Pw P) (GP P H k 0) (.slice ps P qs) (.slice pr (P+1) qr) vl w wr)) (fun iv _=>M-(intOf iv).toNat)
     case atStart=>exact⟨0,_,gI _,rfl,HM2.out⟩
     case round=>
      clear HM2;obtain⟨k,vl,hk,rfl,HJ⟩:=hrel;obtain⟨pl,ql,rfl⟩:=AD HJ.l;by_cases hlt:k<M
      .have i2:(k:Int)<(M:Int):=oM;have wi:IntKind.i64.wrap ((k:Int)+1)=((k+1:Nat):Int):=by rw[IntKind.wrap_i64];omega
       have i5:¬P=0:=oM;have hx:De (lgG P k)=#[.int .i64 29,.int .i64 (IntKind.i64.wrap (1+(k:Int).tmod (P:Int))),.int .i64 0,.int .i64 0,.int .i64 0,.int .i64 0,.int .u32 0].toList:=by
        have i6:((k:Int).tmod (P:Int))=((k%P:Nat):Int):=by rw[Int.tmod_eq_emod_of_nonneg oM];rfl
        have i7:IntKind.i64.wrap (1+(k:Int).tmod (P:Int))=((1+k%P:Nat):Int):=by have:k%P<P:=Nat.mod_lt _ oM;rw[i6,IntKind.wrap_i64];omega
        unfold lgG;rw[i7];rfl
       obtain⟨g,c',w5,h1,h2,h3,h4⟩:=OO (t:=25) (e:=45) underlying25 E0 rF dE HJ.l HJ.le #[.int .i64 29,.int .i64 (IntKind.i64.wrap (1+(k:Int).tmod (P:Int))),.int .i64 0,.int .i64 0,.int .i64 0,.int .i64 0,.int .u32 0] rfl PG Zhk (by rw[FN];omega) 25;obtain⟨hL5,c5,z5⟩:=HJ.setL (x:=(lgG P k)) h2 (by rw[hx];exact h3) h4;rw[<-lgL_m]at hL5;have bL:wr.cell? ⟨CB,3,none⟩=some (.slice pl (GP P H k 0).length ql):=HJ.bx.cell (i:=3) dE;have bL':=fun o=>kc (A0 wr o) bL;obtain⟨N5,hN5⟩:∃n,(GP P H k 0).length=n:=⟨_,rfl⟩
       rw[hN5]at h1 c5 bL hL5;simp only[hN5]at bL';have HR1:=A8 h1;have HQ:=A8 hL5;have cb2:wr.cell? ⟨CB,2,none⟩=some (.slice none 0 0):=HJ.bx.cell (i:=2) dE;have cb5:w5.cell? ⟨CB,2,none⟩=some (.slice none 0 0):=(gC (h4 CB HJ.bx.lt (An HJ.l HJ.bx dE))).trans cb2;have cbA:=fun o=>kc (A0 wr o) cb2;have cbW:(w5.setCell ⟨CB,3,none⟩ (.slice (some ⟨g,0,none⟩) (N5+1) c')).cell? ⟨CB,2,none⟩=some (.slice none 0 0):=hL5.bx.cell (i:=2) dE;clear h1 h2 h3 h4 hL5 HJ hN5 hx;go_upto_region 17 with fail;refine rG (fun v=>v.cell? ⟨CB,2,none⟩=some (.slice none 0 0)) fun yH=>?_;refine Tf 0 2 3 4 5 6 ?_;clear yH;refine wpAnyH_ready (rs:=[1,7]) kR sM ?_;refine Hi 1 (fun K hK=>?_) ?_
       .go_simp;refine AF hK fun yH=>?_;clear hK K;clear yH;refine AJ 7 fun K hK=>?_;exact Zch
       refine Hi 7 (fun K hK=>?_) AllReadyH.nil;go_simp;refine AF hK fun yH=>?_;clear hK K;clear yH;refine AJ 1 fun K hK=>?_;exact Zch
      .have e1:¬ (k:Int)<(M:Int):=oM;obtain rfl:M=k:=oM;clear hlt hk;have HM3:=A8 HJ.out;clear HJ;go_upto_block 6 with fail;go_wp2_with fail
       go_loopw [10] (fun iv wr=>∃ (k:Nat) (vl:Value),k<=H/\iv=.int .i64 (k:Int)/\Hid (NV w.heap.size CB (NZ P) (Pw P) (GP P H M k) (.slice ps P qs) (.slice pr (P+1) qr) vl w wr)) (fun iv _=>H-(intOf iv).toNat)
       case atStart=>exact⟨0,_,gI _,rfl,HM3.out⟩
       case round=>
        clear HM3;obtain⟨k,vl,hk,rfl,HJ⟩:=hrel;obtain⟨pl,ql,rfl⟩:=AD HJ.l;by_cases hlt:k<H
        .have i2:(k:Int)<(H:Int):=oM;have wi:IntKind.i64.wrap ((k:Int)+1)=((k+1:Nat):Int):=by rw[IntKind.wrap_i64];omega
         obtain⟨g,c',w5,h1,h2,h3,h4,-⟩:=Gz (t:=25) (e:=45) underlying25 E0 rF dE HJ.l HJ.le #[.int .i64 35,.int .i64 0,.int .i64 0,.int .i64 0,.int .i64 0,.int .i64 0,.int .u32 0] rfl PG Zhk (by rw[FN];omega) 25;obtain⟨hL5,c5,z5⟩:=HJ.setL (x:=lgE) h2 h3 h4;rw[<-lgL_e]at hL5;have bL:wr.cell? ⟨CB,3,none⟩=some (.slice pl (GP P H M k).length ql):=HJ.bx.cell (i:=3) dE;have bL':=fun o=>kc (A0 wr o) bL;obtain⟨N5,hN5⟩:∃n,(GP P H M k).length=n:=⟨_,rfl⟩
         exact Zdf
        .have e1:¬ (k:Int)<(H:Int):=oM;obtain rfl:H=k:=oM;clear hlt hk;obtain⟨NL,hNL⟩:∃n,(GP P H M H).length=n:=⟨_,rfl⟩
         have hNL2:NL=1+H+M+H:=by rw[<-hNL,FN]
         have HNL2:=A8 hNL2;have HBE:Hid (Below w.heap.size w wr):=HJ.be;have HCV:Hid (Dk wr (.slice ps P qs) (.slice pr (P+1) qr) (.slice none 0 0) (.slice pl NL ql) (FH P H M)):=by rw[<-hNL];exact HJ.cd
         have hok:=lg_ok bP bH bM;have KT:=A8 (Rb (.slice ps P qs) (.slice pr (P+1) qr) (.slice none 0 0) (.slice pl NL ql) (FH P H M) (lg_sz bP bH bM) wr HCV.out);have KR:=A8 (fun(v:World) (x0 x1 x2 x3:Value) (h:Dk v x0 x1 x2 x3 (FH P H M))=>VJ x0 x1 x2 x3 (FH P H M) hok v h);have KW:=A8 Ps;have KF:=A8 (fun(v:World) (x0 x1 x2 x3:Value) (h:Dk v x0 x1 x2 x3 (FH P H M))=>Kb x0 x1 x2 x3 (FH P H M) hok v h);have KFD:Hid ((At (FH P H M)).1=0->∀ (v:World) (x0 x1 x2 x3:Value),Dk v x0 x1 x2 x3 (Ck (FH P H M))->Calls prog 11 #[.agg #[x0,x1,x2,x3]] v fun e w'=>e=.returned (.bool true)/\Below v.heap.size v w'):=fun hc v x0 x1 x2 x3 h=>by
          have h9:=Kb x0 x1 x2 x3 (Ck (FH P H M)) (VI hok) v h;rw[show((At (Ck (FH P H M))).1==0)=true by rw[Ki hc];simpa using Ie hc]at h9;exact h9
         have KLO:Hid ((At (FH P H M)).1=0->NL<=10922->H<64->∀ (v:World) (x0 x1 x2 x3:Value),Dk v x0 x1 x2 x3 (Ck (FH P H M))->(Calls prog 19 #[.agg #[x0,x1,x2,x3]] v fun e w'=>e=.returned (.int .i64 0)/\Below v.heap.size v w')/\(Calls prog 20 #[.agg #[x0,x1,x2,x3]] v fun e w'=>e=.returned (.int .i64 0)/\Below v.heap.size v w')):=fun hc hb hd v x0 x1 x2 x3 h=>by
          rw[Ki hc]at h;obtain⟨e1,e2,e3,e4⟩:=Qg hc (by have h1:=PN (GP P H M H);rw[hNL]at h1;exact gH h1 hb) (by have h1:=Zb P H M;show Od (GP P H M H)<64;omega);have hg:=F3 (Ie hc);have h1:=OI x0 x1 x2 x3 (Bd (FH P H M)) (Kj hc hok) (Dr (D4.1 (Ie hc)).1) (J7 hg.2) (by have:=hg.1.listL;omega) v h;have h2:=W9 x0 x1 x2 x3 (Bd (FH P H M)) (by have:=hg.1.listL;omega) v h;rw[e1]at h1 h2;rw[Qq,e2]at h1;rw[e3]at h2;exact⟨h1,h2⟩
         obtain⟨FE,hFE⟩:∃e,RF (FH P H M)=e:=⟨_,rfl⟩
         have HFE:Hid ((At (FH P H M)).1=0->FE=0):=fun hc=>by rw[<-hFE];exact if_pos hc
         have HFN:Hid (¬ (At (FH P H M)).1=0->FE=160):=fun hc=>by rw[<-hFE];exact if_neg hc
         rw[hFE]at KR;obtain⟨CK,hCK⟩:∃e,(At (FH P H M)).1=e:=⟨_,rfl⟩
         rw[hCK]at KF KFD KLO HFE HFN;have k0:wr.cell? ⟨CB,0,none⟩=some (.slice ps P qs):=HJ.bx.cell (i:=0) dE;have k1:wr.cell? ⟨CB,1,none⟩=some (.slice pr (P+1) qr):=HJ.bx.cell (i:=1) dE;have k2:wr.cell? ⟨CB,2,none⟩=some (.slice none 0 0):=HJ.bx.cell (i:=2) dE;have k3:wr.cell? ⟨CB,3,none⟩=some (.slice pl NL ql):=by rw[<-hNL];exact HJ.bx.cell (i:=3) dE
         clear hFE hCK HJ hok hNL hNL2;go_upto_region 23 with(first
          |(go_at_call 8;(with_reducible refine KT.out.mono ?_);rintro e w1 ⟨u0,u1,u2,u3,rfl,hcd,how,hb1⟩;obtain⟨aa0,ab0,rfl⟩:∃p q,u0=.slice p (FH P H M).sign.length q:=(by obtain⟨p,q,e,_⟩:=hcd.sign;exact⟨p,q,e⟩);obtain⟨aa1,ab1,rfl⟩:∃p q,u1=.slice p (FH P H M).regs.length q:=(by obtain⟨p,q,e,_⟩:=hcd.regs;exact⟨p,q,e⟩);obtain⟨aa2,ab2,rfl⟩:∃p q,u2=.slice p (FH P H M).slots.length q:=Zhn;obtain⟨aa3,ab3,rfl⟩:∃p q,u3=.slice p (FH P H M).list.length q:=(by obtain⟨p,q,e,_⟩:=hcd.list;exact⟨p,q,e⟩);have HCD:=A8 hcd;have HB1:=A8 hb1;have m0:=kc hb1 (k0);have m1:=kc hb1 (k1);have m2:=kc hb1 (k2);have m3:=kc hb1 (k3);clear hcd how hb1)
          |(go_at_call 9;(with_reducible refine(KR.out _ _ _ _ _ HCD.out).mono ?_);rintro e w2 ⟨u0,u1,u2,u3,rfl,hcd,-,hb2⟩;obtain⟨r0,s0,rfl⟩:∃p q,u0=.slice p (Ck (FH P H M)).sign.length q:=(by obtain⟨p,q,e,_⟩:=hcd.sign;exact⟨p,q,e⟩);obtain⟨r1,s1,rfl⟩:∃p q,u1=.slice p (Ck (FH P H M)).regs.length q:=(by obtain⟨p,q,e,_⟩:=hcd.regs;exact⟨p,q,e⟩);obtain⟨r2,s2,rfl⟩:∃p q,u2=.slice p (Ck (FH P H M)).slots.length q:=Zhn;obtain⟨r3,s3,rfl⟩:∃p q,u3=.slice p (Ck (FH P H M)).list.length q:=(by obtain⟨p,q,e,_⟩:=hcd.list;exact⟨p,q,e⟩);have HCR:=A8 hcd;have HB2:=A8 (bel HB1.out hb2);have l0:=kc hb2 (m0);have l1:=kc hb2 (m1);have l2:=kc hb2 (m2);have l3:=kc hb2 (m3);clear hb2 hcd))
         obtain⟨W2,hW2⟩:∃W,w2.alloc (.cells #[.slice r0 (Ck (FH P H M)).sign.length s0,.slice r1 (Ck (FH P H M)).regs.length s1,.slice r2 (Ck (FH P H M)).slots.length s2,.slice r3 (Ck (FH P H M)).list.length s3] 27)=W:=⟨_,rfl⟩
         have HB22:Hid (Below w2.heap.size w2 W2):=by rw[<-hW2];exact A0 _ _
         have g0:W2.cell? ⟨w2.heap.size,0,none⟩=some (.slice r0 (Ck (FH P H M)).sign.length s0):=by rw[<-hW2];simp[go_sem]
         have g1:W2.cell? ⟨w2.heap.size,1,none⟩=some (.slice r1 (Ck (FH P H M)).regs.length s1):=by rw[<-hW2];simp[go_sem]
         have g2:W2.cell? ⟨w2.heap.size,2,none⟩=some (.slice r2 (Ck (FH P H M)).slots.length s2):=by rw[<-hW2];simp[go_sem]
         have g3:W2.cell? ⟨w2.heap.size,3,none⟩=some (.slice r3 (Ck (FH P H M)).list.length s3):=by rw[<-hW2];simp[go_sem]
         try rw[hW2]
         clear hW2;have HBW:Hid (Below wr.heap.size wr W2):=bel HB2.out HB22.out;have HDW:=A8 (HCR.below HB22.out);have HCC:Hid (∀v,Below W2.heap.size W2 v->v.cell? ⟨CB,0,none⟩=some (.slice ps P qs)/\v.cell? ⟨CB,1,none⟩=some (.slice pr (P+1) qr)/\v.cell? ⟨CB,2,none⟩=some (.slice none 0 0)/\v.cell? ⟨CB,3,none⟩=some (.slice pl NL ql)/\v.cell? ⟨w2.heap.size,0,none⟩=some (.slice r0 (Ck (FH P H M)).sign.length s0)/\v.cell? ⟨w2.heap.size,1,none⟩=some (.slice r1 (Ck (FH P H M)).regs.length s1)/\v.cell? ⟨w2.heap.size,2,none⟩=some (.slice r2 (Ck (FH P H M)).slots.length s2)/\v.cell? ⟨w2.heap.size,3,none⟩=some (.slice r3 (Ck (FH P H M)).list.length s3)):=fun v hb=>⟨kc (bel HB22.out hb) l0,kc (bel HB22.out hb) l1,kc (bel HB22.out hb) l2,kc (bel HB22.out hb) l3,kc hb g0,kc hb g1,kc hb g2,kc hb g3⟩
         clear k0 k1 k2 k3 m0 m1 m2 m3 l0 l1 l2 l3 g0 g1 g2 g3;obtain⟨c0,c1,c2,c3,d0,d1,d2,d3⟩:=HCC.out W2 (BT _);by_cases hc:CK=0
         .have hfe:=HFE.out hc;have hct:(CK==0)=true:=by simpa using hc
          have KFD':=A8 (KFD.out hc);have KLO':=A8 (KLO.out hc);clear KFD KLO hc HFE HFN;subst hfe;by_cases hl1:NL<=10922
          .have il1:(NL:Int)<=10922:=oM;by_cases hl2:H<64
           .have il2:(H:Int)<64:=oM;have KL:=A8 (KLO'.out hl1 hl2);clear KLO' hl1 hl2;go_wp2_with(first
             |(go_at_call 11;(with_reducible refine(KF.out _ _ _ _ _ (HCV.out.below HBW.out)).mono ?_);rintro e w3 ⟨rfl,hb3⟩;have HB3:=A8 hb3;obtain⟨xc0,xc1,xc2,xc3,xd0,xd1,xd2,xd3⟩:=HCC.out w3 hb3;clear hb3)
             |(go_at_call 11;(with_reducible refine(KFD'.out _ _ _ _ _ (HDW.out.below HB3.out)).mono ?_);rintro e w4 ⟨rfl,hb4⟩;have HB4:=A8 (bel HB3.out hb4);obtain⟨yc0,yc1,yc2,yc3,yd0,yd1,yd2,yd3⟩:=HCC.out w4 HB4.out;clear hb4)
             |(go_at_call 19;(with_reducible refine((KL.out _ _ _ _ _ (HDW.out.below HB4.out)).1).mono ?_);rintro e w5 ⟨rfl,hb5⟩;have HB5:=A8 (bel HB4.out hb5);obtain⟨zc0,zc1,zc2,zc3,zd0,zd1,zd2,zd3⟩:=HCC.out w5 HB5.out;clear hb5)
             |(go_at_call 20;(with_reducible refine((KL.out _ _ _ _ _ (HDW.out.below HB5.out)).2).mono ?_);rintro e w6 ⟨rfl,hb6⟩;have HB6:=A8 (bel HB5.out hb6);clear hb6)
             |(go_at_call 12;(with_reducible refine(KW.out _).mono ?_);rintro e w9 ⟨rfl,hb9⟩;have HB9:=A8 hb9;clear hb9))
            go_ret;exact⟨rfl,bel HBE.out (bel HBW.out (bel HB6.out HB9.out))⟩
           .have il2:¬ (H:Int)<64:=oM;clear KLO' hl1 hl2;exact Zbr
          .have il1:¬ (NL:Int)<=10922:=oM;clear KLO' hl1;exact Zbr
         .have hfe:=HFN.out hc;have hct:(CK==0)=false:=by simpa using hc
          clear KFD KLO hc HFE HFN;subst hfe;go_wp2_with(first
           |(go_at_call 11;(with_reducible refine(KF.out _ _ _ _ _ (HCV.out.below HBW.out)).mono ?_);rintro e w3 ⟨rfl,hb3⟩;have HB3:=A8 hb3;obtain⟨xc0,xc1,xc2,xc3,xd0,xd1,xd2,xd3⟩:=HCC.out w3 hb3;clear hb3)
           |(go_at_call 12;(with_reducible refine(KW.out _).mono ?_);rintro e w9 ⟨rfl,hb9⟩;have HB9:=A8 hb9;clear hb9))
          go_ret;exact⟨rfl,bel HBE.out (bel HBW.out (bel HB3.out HB9.out))⟩
end Go.Proofs.YtpoklpdgpcnkgaaGreat
