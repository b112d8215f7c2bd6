import Derived.Test.YtpoklpdgpcnkgaaGreatFrm1
import Derived.Test.YtpoklpdgpcnkgaaGreatFrm31
import Derived.Test.YtpoklpdgpcnkgaaGreatFrm28
import Derived.Test.YtpoklpdgpcnkgaaGreatFrm17
import Derived.Test.YtpoklpdgpcnkgaaGreatFrm12
import Derived.Deep.DeepCutAuto
import Derived.Test.YtpoklpdgpcnkgaaGreatFrm21
import Derived.Test.YtpoklpdgpcnkgaaGreatFrm30
namespace Go.Proofs.YtpoklpdgpcnkgaaGreat
open Go.RowKit Go.Proofs.Tryz
set_option linter.all false
set_option maxRecDepth 100000
set_option maxHeartbeats 16000000
theorem fz_at{c:Cd}(hc:(Ax c).1=0){j:Nat}(hj:j<c.list.length):Bt c c.list[j]/\(c.list[j].op=35->1<=(Df c (c.list.take j)).dep)/\(Df c (c.list.take j)).dep<=64/\Df c (c.list.take (j+1))=Cj c (Df c (c.list.take j)) c.list[j]:=by
 obtain⟨h1,h2,-⟩:=Di.1 hc;have ht:=E1 h1;have e:c.list.take (j+1)=c.list.take j++[c.list[j]]:=List.take_succ_eq_append_getElem hj;have hsp:AQ c ⟨[],[]⟩ (c.list.take j)=true/\Al c (Bl ⟨[],[]⟩ (c.list.take j)) c.list[j]=true:=by
  have h3:AQ c ⟨[],[]⟩ (c.list.take (j+1)++c.list.drop (j+1))=true:=by rw[List.take_append_drop];exact h2
  rw[e,BF,BF]at h3;simp only[Bool.and_eq_true]at h3;refine⟨h3.1.1,?_⟩;have h4:=h3.1.2;rw[FU]at h4;simp only[Bool.and_eq_true]at h4;exact h4.1
 obtain⟨w1,w2⟩:=run_W ht _ hsp.1;obtain⟨k1,k2,-,-⟩:=Aq hsp.2;have hd:=XP w2 hsp.2;refine⟨⟨k1,k2⟩,fun o=>?_,w2.le,by rw[e,Fp]⟩;rw[if_neg oM,if_pos o]at hd;omega
theorem LY(c:Cd):(AA c).list=if 32768<(Dt c).length then c.list else Dt c:=by
 unfold AA;split<;>rfl
theorem Ff(c:Cd):(AA c).sign=c.sign/\(AA c).regs=c.regs/\(AA c).slots=c.slots:=by
 unfold AA;split<;>exact⟨rfl,rfl,rfl⟩
theorem Ol(v0 v1 v2 v3:Value)(c:Cd)(hk:AZ c)(w:World)(hv:CH w v0 v1 v2 v3 c)(hc:(Ax c).1≠0):
 Calls prog 9 #[.agg #[v0,v1,v2,v3]] w fun e w'=>e=.returned (.tuple #[.agg #[.slice none 0 0,.slice none 0 0,.slice none 0 0,.slice none 0 0],.int .i64 160])/\Below w.heap.size w w':=by
 have KC:Hid (∀v,Below w.heap.size w v->Calls prog 23 #[.agg #[v0,v1,v2,v3]] v fun e w'=>e=.returned (.tuple #[.int .i64 (Ax c).1,.int .i64 (Ax c).2])/\Below v.heap.size v w'):=fun v hvv=>LJ v0 v1 v2 v3 c hk v (hv.below hvv);obtain⟨e1,he1⟩:=gA ((Ax c).1)
 obtain⟨e2,he2⟩:=gA ((Ax c).2)
 rw[he1]at hc KC;rw[he2]at KC;have n1:(e1 != 0)=true:=by simpa using hc
 have n2:(e1==0)=false:=by simpa using hc
 obtain⟨p0,q0,rfl⟩:∃p q,v0=.slice p c.sign.length q:=by obtain⟨p,q,e,_⟩:=hv.sign;exact⟨p,q,e⟩
 obtain⟨p1,q1,rfl⟩:∃p q,v1=.slice p c.regs.length q:=by obtain⟨p,q,e,_⟩:=hv.regs;exact⟨p,q,e⟩
 obtain⟨p2,q2,rfl⟩:∃p q,v2=.slice p c.slots.length q:=by obtain⟨p,q,e,_⟩:=hv.slots;exact⟨p,q,e⟩
 obtain⟨p3,q3,rfl⟩:∃p q,v3=.slice p c.list.length q:=by obtain⟨p,q,e,_⟩:=hv.list;exact⟨p,q,e⟩
 obtain⟨W0,hW0⟩:∃W,(w.alloc (.cells #[.slice p0 c.sign.length q0,.slice p1 c.regs.length q1,.slice p2 c.slots.length q2,.slice p3 c.list.length q3] 27)).alloc (.cells #[.slice none 0 0,.slice none 0 0,.slice none 0 0,.slice none 0 0] 27)=W:=⟨_,rfl⟩
 have HB0:Hid (Below w.heap.size w W0):=by rw[<-hW0];exact bel (A0 _ _) (A0 _ _)
 have b0:W0.cell? ⟨w.heap.size,0,none⟩=some (.slice p0 c.sign.length q0):=by rw[<-hW0];simp[go_sem]
 have b1:W0.cell? ⟨w.heap.size,1,none⟩=some (.slice p1 c.regs.length q1):=by rw[<-hW0];simp[go_sem]
 have b2:W0.cell? ⟨w.heap.size,2,none⟩=some (.slice p2 c.slots.length q2):=by rw[<-hW0];simp[go_sem]
 have b3:W0.cell? ⟨w.heap.size,3,none⟩=some (.slice p3 c.list.length q3):=by rw[<-hW0];simp[go_sem]
 have HR:Hid (W0.rowIs (w.heap.size+1) 27 4 (Px #[.slice none 0 0,.slice none 0 0,.slice none 0 0,.slice none 0 0])):=by
  show World.rowIs _ _ _ _ _;rw[<-hW0];have h9:=DY (w.alloc (.cells #[.slice p0 c.sign.length q0,.slice p1 c.regs.length q1,.slice p2 c.slots.length q2,.slice p3 c.list.length q3] 27)) #[.slice none 0 0,.slice none 0 0,.slice none 0 0,.slice none 0 0] 27;rw[show(w.alloc (.cells #[.slice p0 c.sign.length q0,.slice p1 c.regs.length q1,.slice p2 c.slots.length q2,.slice p3 c.list.length q3] 27)).heap.size=w.heap.size+1 by simp]at h9;exact h9
 clear hv hk he1 he2;go_enter func9,ntmps9;go_upto_region 1 with fail;try rw[hW0]
 go_wp2_with(go_at_call 23;refine(KC.out _ HB0.out).mono ?_;rintro e w1 ⟨rfl,hb1⟩;have HB1:=A8 hb1;have HR1:=A8 (HR.of_block (hb1.block _ HR.lt));have r0:w1.cell? ⟨w.heap.size+1,0,none⟩=some (.slice none 0 0):=HR1.cell (i:=0) dE;have r1:w1.cell? ⟨w.heap.size+1,1,none⟩=some (.slice none 0 0):=HR1.cell (i:=1) dE;have r2:w1.cell? ⟨w.heap.size+1,2,none⟩=some (.slice none 0 0):=HR1.cell (i:=2) dE;have r3:w1.cell? ⟨w.heap.size+1,3,none⟩=some (.slice none 0 0):=HR1.cell (i:=3) dE;have f0:=HR1.frozen 0;have f1:=HR1.frozen 1;have f2:=HR1.frozen 2;have f3:=HR1.frozen 3;clear hb1);refine bodyPost_ret (by simp[results,results9,go_sem, *];try rfl) rfl ?_;have hle:w.heap.size<=w.heap.size+1:=Nat.le_succ _;exact⟨rfl,((((bel HB0.out HB1.out).setCell hle _).setCell hle _).setCell hle _).setCell hle _⟩
theorem LX(v0 v1 v2 v3:Value)(c:Cd)(hk:AZ c)(w:World)(hv:CH w v0 v1 v2 v3 c)(hc:(Ax c).1=0):
 Calls prog 9 #[.agg #[v0,v1,v2,v3]] w fun e w'=>∃u0 u1 u2 u3,e=.returned (.tuple #[.agg #[u0,u1,u2,u3],.int .i64 0])/\CH w' u0 u1 u2 u3 (AA c)/\Ye w.heap.size w' u0 u1 u2 u3 (AA c)/\Below w.heap.size w w':=by
 obtain⟨hg,htk⟩:=En hc;have KC:Hid (∀v,Below w.heap.size w v->Calls prog 23 #[.agg #[v0,v1,v2,v3]] v fun e w'=>e=.returned (.tuple #[.int .i64 0,.int .i64 (Ax c).2])/\Below v.heap.size v w'):=fun v hvv=>by have:=LJ v0 v1 v2 v3 c hk v (hv.below hvv);rw[hc]at this;exact this
 obtain⟨e2,he2⟩:=gA ((Ax c).2)
 rw[he2]at KC;have K0:Hid (∀v,Below w.heap.size w v->Calls prog 28 #[v0] v fun e w'=>∃p d,e=.returned (.slice p c.sign.length d)/\w'.ownsRow v.heap.size 53 3 (.slice p c.sign.length d) c.sign.length (AF AX c.sign)/\Below v.heap.size v w'):=fun v hvv=>(T5 v0 c.sign v (hv.sign.below hvv) (by have:=hg.signL;omega)).mono fun e w' ⟨p,d,h1,h2,h4,h3⟩=>⟨p,d,h1,h4,h3⟩
 have K1:Hid (∀v,Below w.heap.size w v->Calls prog 29 #[v1] v fun e w'=>∃p d,e=.returned (.slice p c.regs.length d)/\w'.ownsRow v.heap.size 47 2 (.slice p c.regs.length d) c.regs.length (AF Hl c.regs)/\Below v.heap.size v w'):=fun v hvv=>(Vc v1 c.regs v (hv.regs.below hvv) (by have:=hg.regsL;omega)).mono fun e w' ⟨p,d,h1,h2,h4,h3⟩=>⟨p,d,h1,h4,h3⟩
 have K2:Hid (∀v,Below w.heap.size w v->Calls prog 30 #[v2] v fun e w'=>∃p d,e=.returned (.slice p c.slots.length d)/\w'.ownsRow v.heap.size 49 5 (.slice p c.slots.length d) c.slots.length (AF Lz c.slots)/\Below v.heap.size v w'):=fun v hvv=>(Vb v2 c.slots v (hv.slots.below hvv) (by have:=hg.slotsL;omega)).mono fun e w' ⟨p,d,h1,h2,h4,h3⟩=>⟨p,d,h1,h4,h3⟩
 have K3:Hid (∀v,Below w.heap.size w v->Calls prog 27 #[v3] v fun e w'=>∃p d,e=.returned (.slice p c.list.length d)/\w'.ownsRow v.heap.size 45 7 (.slice p c.list.length d) c.list.length (AF Cv c.list)/\Below v.heap.size v w'):=fun v hvv=>(T0 v3 c.list v (hv.list.below hvv) (by have:=hg.listL;omega)).mono fun e w' ⟨p,d,h1,h2,h4,h3⟩=>⟨p,d,h1,h4,h3⟩
 have HFZ:=A8 (fun(j:Nat) (hj:j<c.list.length)=>fz_at hc hj);have HTY:Hid (Ak c=true):=E1 (Di.1 hc).1;have HBG:=A8 (Yw c);have hS1:=hg.signL;have hR1:=hg.regsL;have HVV:=A8 hv;obtain⟨p0,q0,rfl⟩:∃p q,v0=.slice p c.sign.length q:=by obtain⟨p,q,e,_⟩:=hv.sign;exact⟨p,q,e⟩
 obtain⟨p1,q1,rfl⟩:∃p q,v1=.slice p c.regs.length q:=by obtain⟨p,q,e,_⟩:=hv.regs;exact⟨p,q,e⟩
 obtain⟨p2,q2,rfl⟩:∃p q,v2=.slice p c.slots.length q:=by obtain⟨p,q,e,_⟩:=hv.slots;exact⟨p,q,e⟩
 obtain⟨p3,q3,rfl⟩:∃p q,v3=.slice p c.list.length q:=by obtain⟨p,q,e,_⟩:=hv.list;exact⟨p,q,e⟩
 have hL1:=hg.listL;have KN:Hid (∀ (v:World),Below w.heap.size w v->∀C,v.cell? ⟨C,0,none⟩=some (.slice p0 c.sign.length q0)->Calls prog 24 #[.pointer (some ⟨C,0,none⟩)] v fun e w'=>e=.returned (.pointer (some ⟨v.heap.size+1,0,none⟩))/\Below v.heap.size v w'/\CJ v.heap.size c c.sign.length Hj w' (v.heap.size+1) C v.heap.size (.slice none 0 0) (fun _=>.slice none 0 0) (fun _=>none) (fun _=>none) (fun _=>0)):=fun v hb C h1=>Vz c v C p0 q0 h1 oM;have HFL:=A8 (LY c);have HFR:=A8 (Ff c);have hFE:Dt c=(A9 Bm (Df c c.list) c.sign.length).left:=rfl;have HFE:=A8 hFE;obtain⟨N0,hN0⟩:∃N,c.sign.length=N:=⟨_,rfl⟩
 obtain⟨N1,hN1⟩:∃N,c.regs.length=N:=⟨_,rfl⟩
 obtain⟨N2,hN2⟩:∃N,c.slots.length=N:=⟨_,rfl⟩
 obtain⟨N3,hN3⟩:∃N,c.list.length=N:=⟨_,rfl⟩
 simp only[hN0,hN1,hN2,hN3]at KC K0 K1 K2 K3 KN hL1 hS1 hR1 HVV HFE |-;have HN:Hid (c.sign.length=N0/\c.regs.length=N1/\c.slots.length=N2/\c.list.length=N3):=⟨hN0,hN1,hN2,hN3⟩
 obtain⟨W0,hW0⟩:∃W,(w.alloc (.cells #[.slice p0 N0 q0,.slice p1 N1 q1,.slice p2 N2 q2,.slice p3 N3 q3] 27)).alloc (.cells #[.slice none 0 0,.slice none 0 0,.slice none 0 0,.slice none 0 0] 27)=W:=⟨_,rfl⟩
 have HB0:Hid (Below w.heap.size w W0):=by rw[<-hW0];exact bel (A0 _ _) (A0 _ _)
 have b0:W0.cell? ⟨w.heap.size,0,none⟩=some (.slice p0 N0 q0):=by rw[<-hW0];simp[go_sem]
 have b1:W0.cell? ⟨w.heap.size,1,none⟩=some (.slice p1 N1 q1):=by rw[<-hW0];simp[go_sem]
 have b2:W0.cell? ⟨w.heap.size,2,none⟩=some (.slice p2 N2 q2):=by rw[<-hW0];simp[go_sem]
 have b3:W0.cell? ⟨w.heap.size,3,none⟩=some (.slice p3 N3 q3):=by rw[<-hW0];simp[go_sem]
 have HR:Hid (W0.rowIs (w.heap.size+1) 27 4 (Px #[.slice none 0 0,.slice none 0 0,.slice none 0 0,.slice none 0 0])):=by
  show World.rowIs _ _ _ _ _;rw[<-hW0];have h9:=DY (w.alloc (.cells #[.slice p0 N0 q0,.slice p1 N1 q1,.slice p2 N2 q2,.slice p3 N3 q3] 27)) #[.slice none 0 0,.slice none 0 0,.slice none 0 0,.slice none 0 0] 27;rw[show(w.alloc (.cells #[.slice p0 N0 q0,.slice p1 N1 q1,.slice p2 N2 q2,.slice p3 N3 q3] 27)).heap.size=w.heap.size+1 by simp]at h9;exact h9
 clear hFE hv hk he2 hg htk hc hN0 hN1 hN2 hN3;go_enter func9,ntmps9;go_upto_region 1 with fail;try rw[hW0]
 clear hW0;go_upto_block 0 with(first
  |(go_at_call 23;(with_reducible refine(KC.out _ HB0.out).mono ?_);rintro e w1 ⟨rfl,hb1⟩;have HB1:=A8 (bel HB0.out hb1);have HR1:=A8 (HR.out.of_block (hb1.block _ HR.out.lt));have c0:=kc hb1 b0;have c1:=kc hb1 b1;have c2:=kc hb1 b2;have c3:=kc hb1 b3;clear hb1 b0 b1 b2 b3)
  |(go_at_call 24;(with_reducible refine(KN.out _ HB1.out _ c0).mono ?_);rintro e w2 ⟨rfl,hb2,hwk⟩;have HWK:=A8 hwk;have HB2:=A8 hb2;have d3:=kc hb2 c3;clear hb2 hwk))
 obtain⟨E,hE⟩:=gA (w1.heap.size)
 have HEN:Hid (w.heap.size+1<E/\w.heap.size<=E):=by rw[<-hE];have h9:=HR1.lt;exact⟨h9,oM⟩
 rw[hE]at HWK HB2;have HE:=A8 hE;try rw[hE]
 obtain⟨B,hB⟩:=gA (E+1)
 have HBE1:=A8 hB;rw[hB]at HWK;try rw[hB]
 have HK0:Hid (Below E w1 w2/\∃lv vl mv mn tag,CJ E c N0 (Df c (c.list.take 0)) w2 B w.heap.size E lv vl mv mn tag):=⟨HB2.out,_,_,_,_,_,HWK.out⟩
 have HCC:Hid (∀v,Below E w1 v->v.cell? ⟨w.heap.size,0,none⟩=some (.slice p0 N0 q0)/\v.cell? ⟨w.heap.size,1,none⟩=some (.slice p1 N1 q1)/\v.cell? ⟨w.heap.size,2,none⟩=some (.slice p2 N2 q2)/\v.cell? ⟨w.heap.size,3,none⟩=some (.slice p3 N3 q3)/\AM 2 Hl v (.slice p1 N1 q1) c.regs/\v.rowIs (w.heap.size+1) 27 4 (Px #[.slice none 0 0,.slice none 0 0,.slice none 0 0,.slice none 0 0])):=fun v hv=>by
  have h1:=HEN.1;have k:∀ {a:Addr} {x:Value},a.block<E->w1.cell? a=some x->v.cell? a=some x:=fun{a x} ha hx=>(gC (hv.block a.block ha)).trans hx;have h2:=HVV.regs.below HB1.out;refine⟨k Zhh c0,k Zhh c1,k Zhh c2,k Zhh c3,(HVV.regs.below (HB1.trans (hv.mono HEN.2))),?_⟩;exact HR1.of_block (hv.block _ h1)
 clear HWK HB2 KN hE hB c0 c1 c2 c3 HR HR1 KC;go_wp2_with fail;clear d3
 go_loopw [22] (fun iv wr=>∃j:Nat,j<=N3/\iv=.int .i64 (j:Int)/\Hid (Below E w1 wr/\∃lv vl mv mn tag,CJ E c N0 (Df c (c.list.take j)) wr B w.heap.size E lv vl mv mn tag)) (fun iv _=>N3-(intOf iv).toNat)
 case atStart=>exact⟨0,gI _,rfl,HK0.out⟩
 case round=>
  clear HK0;obtain⟨j,hj,rfl,HJ⟩:=hrel;have hbE:Below w.heap.size w wr:=HB1.trans (HJ.1.mono HEN.2);have HBE:=A8 hbE;clear hbE;by_cases hlt:j<N3
  .have hjl:j<c.list.length:=by have:=HN.out;omega
   obtain⟨hbj,lv,vl,mv,mn,tag,hwk⟩:=HJ.out;obtain⟨lb,lo,rfl,hcl⟩:=(HVV.list.below HBE.out).at hjl;obtain⟨f1,f2,f3,hsu⟩:=HFZ.out j hjl;have hbg:=HBG.out (c.list.take j);have htl:(c.list.take j).length<=32768:=by rw[List.length_take];omega
   have KT:Hid (∀v,Below wr.heap.size wr v->Calls prog 25 #[.pointer (some ⟨B,0,none⟩),Bx c.list[j]] v fun e w'=>e=.returned (.tuple #[])/\Below E v w'/\∃lv vl mv mn tg,CJ E c N0 (Df c (c.list.take (j+1))) w' B w.heap.size E lv vl mv mn tg):=fun v hv=>by
    rw[hsu];have hn:=HN.out;have h9:=Tm E c (Df c (c.list.take j)) v B w.heap.size E lv vl mv mn tag (by rw[hn.1];exact hwk.below hv) HTY.out c.list[j] f1 oM oM p1 q1 (fun u hu=>by
     obtain⟨-,k1,-,-,k4,-⟩:=HCC.out u ((hbj.trans (hv.mono hwk.le)).trans hu);rw[hn.2.1]
     exact⟨k1,k4⟩) oM f2 oM
    rw[hn.1]at h9;exact h9
   obtain⟨⟨op,d,a,b,e,n,z⟩,hi⟩:∃i,c.list[j]=i:=⟨_,rfl⟩
   rw[hi]at hcl KT;have HLE:=A8 hwk.le;have y0:=hcl.at 0 (v:=.int .i64 op) rfl;rw[Nat.add_zero]at y0;have y1:=hcl.at 1 (v:=.int .i64 d) rfl;have y2:=hcl.at 2 (v:=.int .i64 a) rfl;have y3:=hcl.at 3 (v:=.int .i64 b) rfl;have y4:=hcl.at 4 (v:=.int .i64 e) rfl;have y5:=hcl.at 5 (v:=.int .i64 n) rfl;have y6:=hcl.at 6 (v:=.int .u32 z) rfl;have llb:lb<wr.heap.size:=A6 y0;have n9:¬lb=wr.heap.size:=oM;have i1:(0:Int)<=(j:Int):=oM;have i2:(j:Int)<(N3:Int):=oM;have wi:IntKind.i64.wrap ((j:Int)+1)=((j+1:Nat):Int):=by rw[IntKind.wrap_i64];omega
   obtain⟨V2,hV2⟩:∃V,wr.alloc (.cells #[.int .i64 op,.int .i64 d,.int .i64 a,.int .i64 b,.int .i64 e,.int .i64 n,.int .u32 z] 45)=V:=⟨_,rfl⟩
   have HV2:Hid (Below wr.heap.size wr V2):=by rw[<-hV2];exact A0 _ _
   have hX2:V2.rowIs wr.heap.size 45 7 (bxF op d a b e n z):=by rw[<-hV2];exact DY wr _ _
   have x0:V2.cell? ⟨wr.heap.size,0,none⟩=some (.int .i64 op):=hX2.cell (i:=0) dE;have x1:V2.cell? ⟨wr.heap.size,1,none⟩=some (.int .i64 d):=hX2.cell (i:=1) dE;have x2:V2.cell? ⟨wr.heap.size,2,none⟩=some (.int .i64 a):=hX2.cell (i:=2) dE;have x3:V2.cell? ⟨wr.heap.size,3,none⟩=some (.int .i64 b):=hX2.cell (i:=3) dE;have x4:V2.cell? ⟨wr.heap.size,4,none⟩=some (.int .i64 e):=hX2.cell (i:=4) dE;have x5:V2.cell? ⟨wr.heap.size,5,none⟩=some (.int .i64 n):=hX2.cell (i:=5) dE;have x6:V2.cell? ⟨wr.heap.size,6,none⟩=some (.int .u32 z):=hX2.cell (i:=6) dE;unfold Bx at KT;simp only at KT;clear hwk hcl hi hsu hbj llb hX2 f1 f2 f3 hbg htl;go_wp2_with(go_at_call 25;(with_reducible refine(KT.out _ HV2.out).mono ?_);rintro e9 w4 ⟨rfl,hb4,hw4⟩;have HB4:=A8 hb4;have HW4:=A8 hw4;clear hb4 hw4);go_roundw
   case rel=>
    refine⟨j+1,oM,gN,?_,HW4.out⟩;exact HJ.1.trans ((HV2.mono HLE.out).trans HB4.out)
   case measure=>simp[intOf];omega
  .have e1:¬ (j:Int)<(N3:Int):=oM;have hje:c.list.take j=c.list:=by rw[List.take_of_length_le];have:=HN.out;omega
   have KA:Hid (Calls prog 26 #[.pointer (some ⟨B,0,none⟩)] wr fun e w'=>e=.returned (.tuple #[])/\Hid (Below E w1 w'/\∃pl ql,w'.cell? ⟨B,3,none⟩=some (.slice pl (Dt c).length ql)/\w'.ownsRow E 45 7 (.slice pl (Dt c).length ql) (Dt c).length (AF Cv (Dt c)))):=by
    obtain⟨hbj,lv,vl,mv,mn,tag,hwk⟩:=HJ.out;rw[hje]at hwk;have hbg:=HBG.out c.list;have hn:=HN.out;refine(GZ E c N0 (Df c c.list) wr B w.heap.size E lv vl mv mn tag hwk oM fun k hk=>?_).mono fun e w' ⟨x1,x2,x3,x4,x5,x6,x7,x8,_⟩=>?_
    .have h1:=Gd (p:=k) (n:=N0) hk (A9 Bm (Df c c.list) k);have h2:=CB (n:=N0) Bm (Df c c.list) k oM;rw[hn.1]at hbg;omega
    .have ho:=x8.lf;rw[<-HFE.out]at ho;have hcl:w'.cell? ⟨B,3,none⟩=some x3:=x8.b.cell (i:=3) dE;obtain⟨pl,ql,rfl⟩:=AN ho;exact⟨x1,hbj.trans x2,pl,ql,hcl,ho⟩
   clear hlt hje HFZ HBG;obtain⟨FL,hFL⟩:∃k,(Dt c).length=k:=⟨_,rfl⟩
   have HFN:=A8 hFL;rw[hFL]at KA HFL;obtain⟨T,hT⟩:∃t,decide ((32768:Int)<(FL:Int))=t:=⟨_,rfl⟩
   have HT:=A8 hT;clear hFL HJ;go_upto_if 38 with(go_at_call 26;(with_reducible refine KA.out.mono ?_);rintro e9 w4 ⟨rfl,hk⟩;obtain⟨hb4,pl,ql,b3,ho4⟩:=hk.out;have HB4:=A8 hb4;have HO4:=A8 ho4;clear hb4 ho4 hk)
   clear b3;obtain⟨g0,g1,g2,g3,-⟩:=HCC.out w4 HB4.out;have HBW:Hid (Below w.heap.size w w4):=HB1.trans (HB4.mono HEN.2);have HW4:Hid (E<=w4.heap.size):=by
    have h9:=HB4.size;have h8:=HE.out;show _<=_;omega
   go_cut [9] (fun lv wx=>Hid (∃p m q,lv=.slice p m q/\m=(AA c).list.length/\wx.ownsRow E 45 7 (.slice p m q) m (AF Cv (AA c).list)/\Below w4.heap.size w4 wx))
   case first=>
    cases T with
    |true=>
     have hfl:(AA c).list=c.list:=by
      rw[HFL.out,if_pos (by have:=HT.out;simp at this;omega)]
     have HFC:=A8 hfl;clear hfl;go_wp2_with(go_at_call 27;(with_reducible refine(K3.out _ HBW.out).mono ?_);rintro e w5 ⟨s3,d3,rfl,hr3,hb5⟩;have HR3:=A8 hr3;have HB5:=A8 hb5;clear hr3 hb5);go_meet;refine⟨_,_,_,rfl,by rw[HFC.out,HN.out.2.2.2],?_,HB5.out⟩;rw[HFC.out];exact BU HR3.out HW4.out
    |false=>
     have hfl:(AA c).list=Dt c:=by
      rw[HFL.out,if_neg (by have:=HT.out;simp at this;omega)]
     have HFC:=A8 hfl;clear hfl;go_wp2;go_meet;refine⟨_,_,_,rfl,by rw[HFC.out,HFN.out],?_,BG _⟩;rw[HFC.out];exact HO4.out
   case rest=>
    rename World=>wx;obtain⟨pl9,nl,ql9,rfl,hnl,hox,hbx⟩:=hcut.out;have HLF:=A8 hox;have HNL:=A8 hnl;have HBX0:Hid (Below E w1 wx):=HB4.trans (hbx.mono HW4.out);have HBXE:Hid (Below w.heap.size w wx):=HBW.trans (hbx.mono HBW.size);have HWL:Hid (w.heap.size+1<wx.heap.size):=by have h9:=hbx.size;have h8:=HW4.out;have h7:=HEN.1;show _<_;omega
    have HBX:Hid (∀v,Below wx.heap.size wx v->v.cell? ⟨w.heap.size,0,none⟩=some (.slice p0 N0 q0)/\v.cell? ⟨w.heap.size,1,none⟩=some (.slice p1 N1 q1)/\v.cell? ⟨w.heap.size,2,none⟩=some (.slice p2 N2 q2)/\v.rowIs (w.heap.size+1) 27 4 (Px #[.slice none 0 0,.slice none 0 0,.slice none 0 0,.slice none 0 0])):=fun v hv=>by
     have h9:=hbx.size;have h8:=HW4.out;obtain⟨k0,k1,k2,-,-,k5⟩:=HCC.out v (HBX0.trans (hv.mono oM));exact⟨k0,k1,k2,k5⟩
    clear g0 g1 g2 g3 hcut hnl hox hbx HFL HT hT HFN KA HO4;obtain⟨g0,g1,g2,-⟩:=HBX.out wx (BG _);go_upto_region 14 with fail;refine rG (fun v=>v.cell? ⟨w.heap.size,0,none⟩=some (.slice p0 N0 q0)/\v.cell? ⟨w.heap.size,1,none⟩=some (.slice p1 N1 q1)/\v.cell? ⟨w.heap.size,2,none⟩=some (.slice p2 N2 q2)) fun yH=>?_;refine Tf 0 1 3 4 6 7 ?_;refine BB 9 ?_;clear yH;refine AE 2 fun K hK=>?_;go_simp;(go_at_call 28;(with_reducible refine(K0.out _ (bel HBXE.out (AW _))).mono ?_);rintro e u1 ⟨s0,d0,rfl,hr0,hb2⟩;have HR0:=A8 hr0;have HU1:Hid (Below wx.heap.size wx u1):=bel (AW _) hb2;obtain⟨g0,g1,g2,-⟩:=HBX.out u1 HU1.out;clear hr0 hb2);try(go_wp2_with fail)
    refine AD hK fun yH=>?_;clear hK K;clear yH;refine AE 5 fun K hK=>?_;go_simp;(go_at_call 29;(with_reducible refine(K1.out _ (bel HBXE.out HU1.out)).mono ?_);rintro e u2 ⟨s1,d1,rfl,hr1,hb2⟩;have HR1:=A8 hr1;have HU2:=A8 hb2;obtain⟨g0,g1,g2,-⟩:=HBX.out u2 (bel HU1.out HU2.out);clear hr1 hb2);try(go_wp2_with fail)
    refine AD hK fun yH=>?_;clear hK K;clear yH;refine AE 8 fun K hK=>?_;go_simp;(go_at_call 30;(with_reducible refine(K2.out _ (bel HBXE.out (bel HU1.out HU2.out))).mono ?_);rintro e u3 ⟨s2,d2,rfl,hr2,hb2⟩;have HR2:=A8 hr2;have HU3:=A8 hb2;obtain⟨g0,g1,g2,hrw⟩:=HBX.out u3 (bel HU1.out (bel HU2.out HU3.out));have HRW:=A8 hrw;have r0:u3.cell? ⟨w.heap.size+1,0,none⟩=some (.slice none 0 0):=hrw.cell (i:=0) dE;have r1:u3.cell? ⟨w.heap.size+1,1,none⟩=some (.slice none 0 0):=hrw.cell (i:=1) dE;have r2:u3.cell? ⟨w.heap.size+1,2,none⟩=some (.slice none 0 0):=hrw.cell (i:=2) dE;have r3:u3.cell? ⟨w.heap.size+1,3,none⟩=some (.slice none 0 0):=hrw.cell (i:=3) dE;have f0:=hrw.frozen 0;have f1:=hrw.frozen 1;have f2:=hrw.frozen 2;have f3:=hrw.frozen 3;clear hr2 hb2 hrw);try(go_wp2_with fail)
    refine AD hK fun yH=>?_;clear hK K;refine BB 10 ?_;clear yH;refine AE 11 fun K hK=>?_;go_simp;refine AD hK fun yH=>?_;clear hK K;refine BB 12 ?_;refine wpAnyH_done kR ?_ _;go_wp2;refine bodyPost_ret (by simp[results,results9,go_sem, *];try rfl) rfl ?_;obtain⟨rfl,rfl,rfl,rfl⟩:=HN.out;obtain rfl:nl=(AA c).list.length:=HNL.out;have k4:∀b,b≠w.heap.size+1->((((u3.setCell ⟨w.heap.size+1,0,none⟩ (.slice s0 c.sign.length d0)).setCell ⟨w.heap.size+1,1,none⟩ (.slice s1 c.regs.length d1)).setCell ⟨w.heap.size+1,2,none⟩ (.slice s2 c.slots.length d2)).setCell ⟨w.heap.size+1,3,none⟩ (.slice pl9 (AA c).list.length ql9)).heap[b]? =u3.heap[b]? :=fun b hb=>(gE hb).trans ((gE hb).trans ((gE hb).trans (gE hb)));have hwl:=HWL.out;have l1:=HU1.size;have l2:=HU2.size;have o0:=Ap (Au HR0.out (bel HU2.out HU3.out)) (fun g hg=>k4 g (by have h9:=(HR0.lt g hg).1;have h8:wx.heap.size<=g:=h9;omega));have o1:=Ap (Au HR1.out HU3.out) (fun g hg=>k4 g (by have h9:=(HR1.lt g hg).1;omega));have o2:=Ap HR2.out (fun g hg=>k4 g (by have h9:=(HR2.lt g hg).1;omega));have o3:=Ap (Au HLF.out (bel HU1.out (bel HU2.out HU3.out))) (fun g hg=>k4 g (by have h9:=(HLF.lt g hg).1;have:=HEN.out;omega));obtain⟨r1,r2,r3⟩:=HFR.out;have hO:Ye w.heap.size _ (.slice s0 c.sign.length d0) (.slice s1 c.regs.length d1) (.slice s2 c.slots.length d2) (.slice pl9 (AA c).list.length ql9) (AA c):=⟨by rw[r1];exact BU o0 (by have h8:wx.drew.heap.size=wx.heap.size:=rfl;omega),by rw[r2];exact BU o1 oM,by rw[r3];exact BU o2 oM,BU o3 HEN.2⟩
    have hle:w.heap.size<=w.heap.size+1:=Nat.le_succ _;exact⟨_,_,_,_,rfl,⟨C6 Fl hO.sign,C6 GP hO.regs,C6 Ii hO.slots,C6 Co hO.list⟩,hO,((((bel HBXE.out (bel HU1.out (bel HU2.out HU3.out))).setCell hle _).setCell hle _).setCell hle _).setCell hle _⟩
def MI(Q:Int->Prop)(s:Fz):Prop:=(∀j∈s.left,Q j.bits)/\∀p,∀j∈s.wait p,Q j.bits
section
variable {Q : Int -> Prop} {s : Fz}
theorem MI.write(h0:Q 0)(h:MI Q s)(p:Nat):MI Q (Bd s p):=by
 refine⟨fun j hj=>?_,fun q j hj=>?_⟩
 .have hj':j∈s.left++CG s.dep p (s.wait p):=hj;rcases List.mem_append.1 hj' with e|e
  .exact h.1 j e
  .unfold CG at e;split at e
   .cases e
   .split at e
    .exact h.2 p j e
    .rcases List.mem_cons.1 e with q|q
     .rw[q];exact h0
     .rcases List.mem_append.1 q with r|r
      .exact h.2 p j r
      .simp only[List.mem_singleton]at r;rw[r];exact h0
 .have hj':j∈(if q=p then [] else s.wait q):=hj;split at hj'
  .cases hj'
  .exact h.2 q j hj'
theorem MI.flush(h0:Q 0)(h:MI Q s)(q:List Ab->Bool):∀m,MI Q (A9 q s m)
 |0=>h
 |m+1=>by
  have h1:=MI.flush h0 h q m;unfold A9;split
  .exact h1.write h0 m
  .exact h1
theorem MI.app(h:MI Q s){i:Ab}(hi:Q i.bits)(d:Nat):MI Q (Iy s i d):=⟨fun j hj=>(List.mem_append.1 hj).elim (h.1 j) fun e=>by simp only[List.mem_singleton]at e;rw[e];exact hi,h.2⟩
theorem MI.take(h0:Q 0)(h:MI Q s)(c:Cd){i:Ab}(hi:Q i.bits):MI Q (Cj c s i):=by
 unfold Cj;split
 .exact h
 .split
  .refine⟨h.1,fun p j hj=>?_⟩;have hj':j∈(if p=BD c i then s.wait p++[i]else s.wait p):=hj;split at hj'
   .rcases List.mem_append.1 hj' with e|e
    .exact h.2 p j e
    .simp only[List.mem_singleton]at e;rw[e];exact hi
   .exact h.2 p j hj'
  .split
   .exact(h.flush h0 _ _).app hi _
   .split
    .exact(h.flush h0 _ _).app hi _
    .exact(h.flush h0 _ _).app hi _
theorem MI.run(h0:Q 0)(c:Cd):∀ (l:List Ab) (s:Fz),(∀i∈l,Q i.bits)->MI Q s->MI Q (l.foldl (Cj c) s)
 |[],s,_,h=>h
 |i::l,s,hl,h=>by
  rw[List.foldl_cons];exact MI.run h0 c l _ (fun k hk=>hl k (List.mem_cons_of_mem i hk)) (h.take h0 c (hl i sM))
end
theorem JX{c:Cd}(hc:(Ax c).1=0)(hk:AZ c):AZ (AA c):=by
 have hg:=(En (Jv hc)).1;obtain⟨r1,r2,r3⟩:=Ff c;refine⟨by rw[r1];exact hk.signL,by rw[r1];exact hk.names,by rw[r2];exact hk.regsL,by rw[r3];exact hk.slotsL,by have:=hg.listL;omega,by rw[r3];exact hk.sbits,?_⟩;rw[LY];split
 .exact hk.ibits
 .have h:MI (fun b=>0<=b/\b<4294967296) (Df c c.list):=MI.run oM c c.list Hj hk.ibits ⟨fun j h=>Yl,fun p j h=>Yl⟩;exact(h.flush oM Bm c.sign.length).1
def tuC:Cd:=⟨[⟨sName,1,2⟩],[⟨3,0⟩,⟨3,0⟩],[],[⟨29,0,0,0,0,0,0⟩,⟨12,1,0,0,0,0,0⟩,⟨31,0,1,0,0,0,0⟩]⟩
theorem XS:(Ax tuC).1=0:=by decide+kernel
theorem tu_ok:AZ tuC:=⟨dE,dE,dE,dE,dE,dE,dE⟩
theorem ZZ:(AA tuC).list=[Cb 0,⟨29,0,0,0,0,0,0⟩,⟨12,1,0,0,0,0,0⟩,⟨31,0,1,0,0,0,0⟩,CM]:=by decide+kernel
theorem H8(v0 v1 v2 v3:Value)(c:Cd)(hk:AZ c)(w:World)(hv:CH w v0 v1 v2 v3 c):
 Calls prog 11 #[.agg #[v0,v1,v2,v3]] w fun e w'=>e=.returned (.bool ((Ax c).1==0))/\Below w.heap.size w w':=by
 have KC:Hid (∀v,Below w.heap.size w v->Calls prog 31 #[.agg #[v0,v1,v2,v3]] v fun e w'=>e=.returned (.tuple #[.int .i64 (Ax c).1,.int .i64 (Ax c).2])/\Below v.heap.size v w'):=fun v hvv=>I5 v0 v1 v2 v3 c hk v (hv.below hvv);obtain⟨e1,he1⟩:=gA ((Ax c).1)
 obtain⟨e2,he2⟩:=gA ((Ax c).2)
 rw[he1,he2]at KC;rw[he1];clear hv hk he1 he2;go_enter func11,ntmps11;go_wp2_with(go_at_call 31;refine(KC.out _ (A0 _ _)).mono ?_;rintro e w1 ⟨rfl,hb1⟩);exact Zdy
theorem QV(w:World):Calls prog 32 #[] w fun e w'=>∃a b d,e=.returned (.agg #[.slice (some ⟨a,0,none⟩) 1 1,.slice (some ⟨b,0,none⟩) 2 2,.slice none 0 0,.slice (some ⟨d,0,none⟩) 3 3])/\CH w' (.slice (some ⟨a,0,none⟩) 1 1) (.slice (some ⟨b,0,none⟩) 2 2) (.slice none 0 0) (.slice (some ⟨d,0,none⟩) 3 3) tuC/\Below w.heap.size w w':=by
 go_enter func32,ntmps32;go_wp2;refine bodyPost_ret (by simp[results,results32,go_sem];try rfl) rfl ?_;refine⟨_,_,_,rfl,?_,gG⟩;exact⟨(Ky (l:=tuC.sign) Fl _ _ _ rF 1 sM).below (A0 _ _),Ky (l:=tuC.regs) GP _ _ _ rF 2 sM,⟨none,0,rfl,.inl rfl⟩,((Ky (l:=tuC.list) Co _ _ _ rF 3 sM).below (A0 _ _)).below (A0 _ _)⟩
theorem QR(w:World)(FB:Nat):AM 2 stC (w.alloc (.cells #[.slice (some ⟨FB,0,none⟩) 1 1,.slice (some ⟨FB,0,none⟩) 1 1] 73)) (.slice (some ⟨w.heap.size,0,none⟩) 1 1) [stS FB]:=
 Nx (l:=[stS FB]) ZV w #[.slice (some ⟨FB,0,none⟩) 1 1,.slice (some ⟨FB,0,none⟩) 1 1] 73 rfl 1
theorem Q6{c:Cd}(hc:(Ax c).1=0)(hk:AZ c):Hp c (AA c):=To hc hk fun l G P a b d e f=>((Qy hc hk).step l G P a b d e f).2.2
theorem NH(c:Cd)(hck:AZ c)(hc:(Ax c).1=0)(i1 i2 i3:Ab)(hl3:(AA c).list=[Cb 0,i1,i2,i3,CM])(hsum:∀w:World,Calls prog 32 #[] w fun e w'=>∃a b d,e=.returned (.agg #[.slice (some ⟨a,0,none⟩) 1 1,.slice (some ⟨b,0,none⟩) 2 2,.slice none 0 0,.slice (some ⟨d,0,none⟩) 3 3])/\CH w' (.slice (some ⟨a,0,none⟩) 1 1) (.slice (some ⟨b,0,none⟩) 2 2) (.slice none 0 0) (.slice (some ⟨d,0,none⟩) 3 3) c/\Below w.heap.size w w')(w:World):Calls prog 12 #[] w fun e w'=>e=.returned (.bool true)/\Below w.heap.size w w':=by
 have KR:=A8 (fun(v:World) (v0 v1 v2 v3:Value) (h:CH v v0 v1 v2 v3 c)=>LX v0 v1 v2 v3 c hck v h hc);have KB:Hid (∀ (v:World) (n:Nat),v.heap.size=n->Calls prog 9 #[.agg #[.slice none 0 0,.slice none 0 0,.slice none 0 0,.slice (some ⟨n,0,none⟩) 1 1]] (v.alloc (.cells #[.int .i64 35,.int .i64 0,.int .i64 0,.int .i64 0,.int .i64 0,.int .i64 0,.int .u32 0] 45)) fun e w'=>e=.returned (.tuple #[.agg #[.slice none 0 0,.slice none 0 0,.slice none 0 0,.slice none 0 0],.int .i64 160])/\Below v.heap.size v w'):=fun v n hn=>by
  subst hn;exact(Ol (.slice none 0 0) (.slice none 0 0) (.slice none 0 0) (.slice (some ⟨v.heap.size,0,none⟩) 1 1) YL end_ok _ ⟨⟨none,0,rfl,.inl rfl⟩,⟨none,0,rfl,.inl rfl⟩,⟨none,0,rfl,.inl rfl⟩,Nx (l:=YL.list) Co v _ _ rF 1⟩ Th).mono fun e w' h=>⟨h.1,bel (A0 _ _) h.2⟩
 have KM:Hid (∀ (v:World) (v0 v1 v2 v3 u0 u1 u2 u3:Value) (FB SB:Nat),CH v v0 v1 v2 v3 c->CH v u0 u1 u2 u3 (AA c)->AM 2 stC v (.slice (some ⟨SB,0,none⟩) 1 1) [stS FB]->StV v (stS FB)->Calls prog 16 #[.agg #[v0,v1,v2,v3],.agg #[u0,u1,u2,u3],.slice (some ⟨SB,0,none⟩) 1 1,.int .i64 0] v fun e w'=>e=.returned (.bool true)/\Below v.heap.size v w'):=fun v v0 v1 v2 v3 u0 u1 u2 u3 FB SB h1 h2 h3 h4=>
  Oy v0 v1 v2 v3 u0 u1 u2 u3 _ c (AA c) hck (JX hc hck) hc (Jv hc) (Q6 hc hck) [stS FB] (by show 1<=140737488351232;omega) 0 (gI _) v h1 h2 h3 (fun s hs=>by simp only[List.mem_singleton]at hs;subst hs;exact h4)
 have HLN:Hid ((AA c).list.length=5):=(by rw[hl3];rfl)
 have HL5:=A8 hl3;have KSU:=A8 hsum;clear hsum hck hc hl3;go_enter func12,ntmps12;go_upto_region 4 with(first
  |(go_at_call 32;(with_reducible refine(KSU.out _).mono ?_);rintro e w1 ⟨a,b,d,rfl,hcd,hb1⟩;have HC1:=A8 hcd;have HB1:=A8 hb1;clear hcd hb1)
  |(go_at_call 9;(with_reducible refine(KR.out _ _ _ _ _ HC1.out).mono ?_);rintro e w2 ⟨u0,u1,u2,u3,rfl,hcd,-,hb2⟩;have HC2:=A8 hcd;have HB2:=A8 hb2;obtain⟨p3,q3,h3,_⟩:=hcd.list;rw[HLN.out]at h3;subst h3;obtain⟨p0,n0,q0,rfl⟩:∃p n q,u0=.slice p n q:=(by obtain⟨p,q,e,_⟩:=hcd.sign;exact⟨p,_,q,e⟩);obtain⟨p1,n1,q1,rfl⟩:∃p n q,u1=.slice p n q:=(by obtain⟨p,q,e,_⟩:=hcd.regs;exact⟨p,_,q,e⟩);obtain⟨p2,n2,q2,rfl⟩:∃p n q,u2=.slice p n q:=(by obtain⟨p,q,e,_⟩:=hcd.slots;exact⟨p,_,q,e⟩);clear hcd hb2)
  |(go_at_call 9;(with_reducible refine(KB.out _ _ sM).mono ?_);rintro e w3 ⟨rfl,hb3⟩;have HB3:=A8 hb3;clear hb3))
 have hcl:=HC2.list;rw[HL5.out]at hcl;obtain⟨lb,lo,rfl,hc0⟩:=hcl.at (i:=0) sM;obtain⟨lb',lo',hlb,hc4⟩:=hcl.at (i:=4) sM;simp only[Option.some.injEq,Addr.mk.injEq,and_true]at hlb;obtain⟨rfl,rfl⟩:=hlb;have o0:=hc0.at 0 (v:=.int .i64 36) rfl;have o4:=hc4.at 0 (v:=.int .i64 37) rfl;simp only[Nat.zero_mul,Nat.add_zero]at o0 o4;clear hcl hc0 hc4;obtain⟨W4,hW4⟩:∃W,((w3.alloc (.cells #[.slice none 0 0,.slice none 0 0,.slice none 0 0,.slice none 0 0] 27)).alloc (.cells #[.int .u32 1065353216,.int .u32 1073741824] 43)).alloc (.cells #[.slice (some ⟨w3.heap.size+1,0,none⟩) 2 2] 70)=W:=⟨_,rfl⟩
 have HA4:Hid (Below w3.heap.size w3 W4):=by rw[<-hW4];exact bel (bel (A0 _ _) (A0 _ _)) (A0 _ _)
 have HVC:Hid (StV W4 (stS (w3.heap.size+1+1))):=by
  have h9:=vc_new (w3.alloc (.cells #[.slice none 0 0,.slice none 0 0,.slice none 0 0,.slice none 0 0] 27));rw[show(w3.alloc (.cells #[.slice none 0 0,.slice none 0 0,.slice none 0 0,.slice none 0 0] 27)).heap.size=w3.heap.size+1 by simp,hW4]at h9;exact⟨h9,h9,XL,XL⟩
 have HAW:Hid (Below w2.heap.size w2 W4):=bel (A0 _ _) (bel HB3.out HA4.out);have HC4:=A8 (HC2.below HAW.out);have HBW:Hid (Below w.heap.size w W4):=bel HB1.out (bel HB2.out HAW.out);have d0:W4.cell? ⟨w2.heap.size,0,none⟩=some (.slice p0 n0 q0):=kc (bel HB3.out HA4.out) sG;have d1:W4.cell? ⟨w2.heap.size,1,none⟩=some (.slice p1 n1 q1):=kc (bel HB3.out HA4.out) sG;have d2:W4.cell? ⟨w2.heap.size,2,none⟩=some (.slice p2 n2 q2):=kc (bel HB3.out HA4.out) sG;have d3:W4.cell? ⟨w2.heap.size,3,none⟩=some (.slice (some ⟨lb,lo,none⟩) 5 q3):=kc (bel HB3.out HA4.out) sG;try rw[hW4]
 obtain⟨FB,hFB⟩:∃F,w3.heap.size+1+1=F:=⟨_,rfl⟩
 rw[hFB]at HVC;try rw[hFB]
 have d4:W4.cell? ⟨lb,lo,none⟩=some (.int .i64 36):=kc HAW.out o0;have d5:W4.cell? ⟨lb,lo+4*7,none⟩=some (.int .i64 37):=kc HAW.out o4;simp only[Nat.reduceMul]at d5;clear o0 o4;clear hW4 HA4 HAW HB1 HB2 HB3 HC1 HC2;have z0:=(fun o=>kc (A0 W4 o) d0)
 have z1:=(fun o=>kc (A0 W4 o) d1)
 have z2:=(fun o=>kc (A0 W4 o) d2)
 have z3:=(fun o=>kc (A0 W4 o) d3)
 have z4:=(fun o=>kc (A0 W4 o) d4)
 have z5:=(fun o=>kc (A0 W4 o) d5)
 refine rG (fun v=>v.cell? ⟨w2.heap.size,0,none⟩=some (.slice p0 n0 q0)/\v.cell? ⟨w2.heap.size,1,none⟩=some (.slice p1 n1 q1)/\v.cell? ⟨w2.heap.size,2,none⟩=some (.slice p2 n2 q2)/\v.cell? ⟨w2.heap.size,3,none⟩=some (.slice (some ⟨lb,lo,none⟩) 5 q3)/\v.cell? ⟨lb,lo,none⟩=some (.int .i64 36)/\v.cell? ⟨lb,lo+28,none⟩=some (.int .i64 37)) fun yH=>?_;refine Tf 0 1 2 3 4 5 ?_;refine Tf 6 7 8 9 10 11 ?_;refine Tf 12 13 14 15 16 17 ?_;refine Tf 18 19 20 21 22 23 ?_;refine Tf 24 25 26 27 28 30 ?_;refine Tc 31 32 33 ?_;clear yH;refine wpAnyH_ready (rs:=[29,34]) kR sM ?_;refine Ir 29 (fun K hK=>?_) ?_
 .go_simp;(go_at_call 32;(with_reducible refine(KSU.out _).mono ?_);rintro e w5 ⟨a5,b5,e5,rfl,k1,k5⟩;have HC5:=A8 k1;have HB5:Hid (Below W4.heap.size W4 w5):=Zfs;(try(have HRB:=A8 (((QR W4 FB).below (A7 _)).below k5)));have c0:=kc HB5.out d0;have x0:=(fun o=>kc (A0 w5 o) c0);have c1:=kc HB5.out d1;have x1:=(fun o=>kc (A0 w5 o) c1);have c2:=kc HB5.out d2;have x2:=(fun o=>kc (A0 w5 o) c2);have c3:=kc HB5.out d3;have x3:=(fun o=>kc (A0 w5 o) c3);have c4:=kc HB5.out d4;have x4:=(fun o=>kc (A0 w5 o) c4);have c5:=kc HB5.out d5;have x5:=(fun o=>kc (A0 w5 o) c5);clear k1 k5);try(go_wp2_with fail)
  refine AD hK fun yH=>?_;clear hK K;clear yH;refine AE 34 fun K hK=>?_;go_simp;exact Zbh
 refine Ir 34 (fun K hK=>?_) AllReadyH.nil;go_simp;refine AD hK fun yH=>?_;clear hK K;clear yH;refine AE 29 fun K hK=>?_;go_simp;(go_at_call 32;(with_reducible refine(KSU.out _).mono ?_);rintro e w5 ⟨a5,b5,e5,rfl,k1,k5⟩;have HC5:=A8 k1;have HB5:Hid (Below W4.heap.size W4 w5):=Zfs;(try(have HRB:=A8 (((QR W4 FB).below (A7 _)).below k5)));have c0:=kc HB5.out d0;have x0:=(fun o=>kc (A0 w5 o) c0);have c1:=kc HB5.out d1;have x1:=(fun o=>kc (A0 w5 o) c1);have c2:=kc HB5.out d2;have x2:=(fun o=>kc (A0 w5 o) c2);have c3:=kc HB5.out d3;have x3:=(fun o=>kc (A0 w5 o) c3);have c4:=kc HB5.out d4;have x4:=(fun o=>kc (A0 w5 o) c4);have c5:=kc HB5.out d5;have x5:=(fun o=>kc (A0 w5 o) c5);clear k1 k5);try(go_wp2_with fail)
 exact Zbh
theorem Jh(w:World):Calls prog 12 #[] w fun e w'=>e=.returned (.bool true)/\Below w.heap.size w w':=
 NH tuC tu_ok XS _ _ _ ZZ QV w
theorem W7:AZ ⟨[],[],[],[]⟩:=⟨dE,dE,dE,dE,dE,dE,dE⟩
theorem nil_V(v:World):CH v (.slice none 0 0) (.slice none 0 0) (.slice none 0 0) (.slice none 0 0) ⟨[],[],[],[]⟩:=⟨Fo _ _ _,Fo _ _ _,Fo _ _ _,Fo _ _ _⟩
theorem PP(v0 v1 v2 v3:Value)(c:Cd)(hk:AZ c)(hz:Yb c)(w:World)(hv:CH w v0 v1 v2 v3 c)(hc:(Ax c).1≠0):
 Calls prog 3 #[.agg #[v0,v1,v2,v3]] w fun e w'=>e=.returned (.bool true)/\Below w.heap.size w w':=by
 have KT:=A8 (fun(v:World) (h:Below w.heap.size w v)=>Lj v0 v1 v2 v3 c hz v (hv.below h));have KE:Hid (∀ (v:World) (x0 x1 x2 x3 y0 y1 y2 y3:Value),CH v x0 x1 x2 x3 c->CH v y0 y1 y2 y3 c->Calls prog 10 #[.agg #[x0,x1,x2,x3],.agg #[y0,y1,y2,y3]] v fun e w'=>e=.returned (.bool true)/\Below v.heap.size v w'):=fun v x0 x1 x2 x3 y0 y1 y2 y3 h1 h2=>by
  have h9:=FF x0 x1 x2 x3 y0 y1 y2 y3 c c hk hk v h1 h2;rw[O2]at h9;exact h9
 have KN:Hid (∀ (v:World),Calls prog 10 #[.agg #[.slice none 0 0,.slice none 0 0,.slice none 0 0,.slice none 0 0],.agg #[.slice none 0 0,.slice none 0 0,.slice none 0 0,.slice none 0 0]] v fun e w'=>e=.returned (.bool true)/\Below v.heap.size v w'):=fun v=>FF _ _ _ _ _ _ _ _ ⟨[],[],[],[]⟩ ⟨[],[],[],[]⟩ W7 W7 v (nil_V v) (nil_V v);have KF:Hid (∀ (v:World) (x0 x1 x2 x3:Value),CH v x0 x1 x2 x3 c->Calls prog 11 #[.agg #[x0,x1,x2,x3]] v fun e w'=>e=.returned (.bool false)/\Below v.heap.size v w'):=fun v x0 x1 x2 x3 h=>by
  have h9:=H8 x0 x1 x2 x3 c hk v h;rw[show((Ax c).1==0)=false by simpa using hc]at h9;exact h9
 have KR:Hid (∀ (v:World) (x0 x1 x2 x3:Value),CH v x0 x1 x2 x3 c->Calls prog 9 #[.agg #[x0,x1,x2,x3]] v fun e w'=>e=.returned (.tuple #[.agg #[.slice none 0 0,.slice none 0 0,.slice none 0 0,.slice none 0 0],.int .i64 160])/\Below v.heap.size v w'):=fun v x0 x1 x2 x3 h=>Ol x0 x1 x2 x3 c hk v h hc;have KW:=A8 Jh;obtain⟨p0,q0,rfl⟩:∃p q,v0=.slice p c.sign.length q:=by obtain⟨p,q,e,_⟩:=hv.sign;exact⟨p,q,e⟩
 obtain⟨p1,q1,rfl⟩:∃p q,v1=.slice p c.regs.length q:=by obtain⟨p,q,e,_⟩:=hv.regs;exact⟨p,q,e⟩
 obtain⟨p2,q2,rfl⟩:∃p q,v2=.slice p c.slots.length q:=by obtain⟨p,q,e,_⟩:=hv.slots;exact⟨p,q,e⟩
 obtain⟨p3,q3,rfl⟩:∃p q,v3=.slice p c.list.length q:=by obtain⟨p,q,e,_⟩:=hv.list;exact⟨p,q,e⟩
 have HVV:=A8 hv;obtain⟨W0,hW0⟩:=gA (w.alloc (.cells #[.slice p0 c.sign.length q0,.slice p1 c.regs.length q1,.slice p2 c.slots.length q2,.slice p3 c.list.length q3] 27))
 have HB0:Hid (Below w.heap.size w W0):=by rw[<-hW0];exact A0 _ _
 have k0:W0.cell? ⟨w.heap.size,0,none⟩=some (.slice p0 c.sign.length q0):=by rw[<-hW0];simp[go_sem]
 have k1:W0.cell? ⟨w.heap.size,1,none⟩=some (.slice p1 c.regs.length q1):=by rw[<-hW0];simp[go_sem]
 have k2:W0.cell? ⟨w.heap.size,2,none⟩=some (.slice p2 c.slots.length q2):=by rw[<-hW0];simp[go_sem]
 have k3:W0.cell? ⟨w.heap.size,3,none⟩=some (.slice p3 c.list.length q3):=by rw[<-hW0];simp[go_sem]
 clear hv hk hz hc;go_enter func3,ntmps3;go_upto_region 1 with fail;try rw[hW0]
 clear hW0;go_wp2_with(first
  |(go_at_call 8;(with_reducible refine(KT.out _ HB0.out).mono ?_);rintro e w1 ⟨u0,u1,u2,u3,rfl,hcd,how,hb1⟩;obtain⟨a0,b0,rfl⟩:∃p q,u0=.slice p c.sign.length q:=Zgu;obtain⟨a1,b1,rfl⟩:∃p q,u1=.slice p c.regs.length q:=Zgv;obtain⟨a2,b2,rfl⟩:∃p q,u2=.slice p c.slots.length q:=Zgo;obtain⟨a3,b3,rfl⟩:∃p q,u3=.slice p c.list.length q:=Zgw;have HCD:=A8 hcd;have HB1:=A8 hb1;have m0:=(fun o=>kc (bel hb1 (A0 _ o)) k0);have m1:=(fun o=>kc (bel hb1 (A0 _ o)) k1);have m2:=(fun o=>kc (bel hb1 (A0 _ o)) k2);have m3:=(fun o=>kc (bel hb1 (A0 _ o)) k3);clear hcd how hb1)
  |(go_at_call 9;(with_reducible refine(KR.out _ _ _ _ _ (HCD.out.below (A0 _ _))).mono ?_);rintro e w2 ⟨rfl,hb2⟩;have HB2:=A8 hb2;have l0:=kc hb2 (m0 _);have l1:=kc hb2 (m1 _);have l2:=kc hb2 (m2 _);have l3:=kc hb2 (m3 _);have g0:w2.cell? ⟨w1.heap.size,0,none⟩=some (.slice a0 c.sign.length b0):=kc hb2 sG;have g1:w2.cell? ⟨w1.heap.size,1,none⟩=some (.slice a1 c.regs.length b1):=kc hb2 sG;have g2:w2.cell? ⟨w1.heap.size,2,none⟩=some (.slice a2 c.slots.length b2):=kc hb2 sG;have g3:w2.cell? ⟨w1.heap.size,3,none⟩=some (.slice a3 c.list.length b3):=kc hb2 sG;have lf0:=(fun o=>kc (A0 w2 o) l0);have lf1:=(fun o=>kc (A0 w2 o) l1);have lf2:=(fun o=>kc (A0 w2 o) l2);have lf3:=(fun o=>kc (A0 w2 o) l3);have gf0:=(fun o=>kc (A0 w2 o) g0);have gf1:=(fun o=>kc (A0 w2 o) g1);have gf2:=(fun o=>kc (A0 w2 o) g2);have gf3:=(fun o=>kc (A0 w2 o) g3);clear hb2)
  |(go_at_call 10;(with_reducible refine(KE.out _ _ _ _ _ _ _ _ _ (HCD.out.below (bel (A0 _ _) (bel HB2.out (A0 _ _)))) (HVV.out.below (bel HB0.out (bel HB1.out (bel (A0 _ _) (bel HB2.out (A0 _ _))))))).mono ?_);rintro e w3 ⟨rfl,hb3⟩;have HB3:=A8 hb3;have HBT:Hid (Below w.heap.size w w3):=bel HB0.out (bel HB1.out (bel (A0 _ _) (bel HB2.out (bel (A0 _ _) hb3))));have n0:=kc hb3 (lf0 _);have n1:=kc hb3 (lf1 _);have n2:=kc hb3 (lf2 _);have n3:=kc hb3 (lf3 _);have h0:w3.cell? ⟨w2.heap.size,0,none⟩=some (.slice none 0 0):=kc hb3 sG;have h1:w3.cell? ⟨w2.heap.size,1,none⟩=some (.slice none 0 0):=kc hb3 sG;have h2:w3.cell? ⟨w2.heap.size,2,none⟩=some (.slice none 0 0):=kc hb3 sG;have h3:w3.cell? ⟨w2.heap.size,3,none⟩=some (.slice none 0 0):=kc hb3 sG;clear hb3)
  |(go_at_call 11;(with_reducible refine(KF.out _ _ _ _ _ (HVV.out.below HBT.out)).mono ?_);rintro e w4 ⟨rfl,hb4⟩;have HB4:=A8 hb4;have i0:=kc hb4 (n0);have i1:=kc hb4 (n1);have i2:=kc hb4 (n2);have i3:=kc hb4 (n3);have j0:=kc hb4 (h0);have j1:=kc hb4 (h1);have j2:=kc hb4 (h2);have j3:=kc hb4 (h3);clear hb4)
  |(go_at_call 10;(with_reducible refine(KN.out _).mono ?_);rintro e w5 ⟨rfl,hb5⟩;have HB5:=A8 hb5;clear hb5)
  |(go_at_call 12;(with_reducible refine(KW.out _).mono ?_);rintro e w6 ⟨rfl,hb6⟩;have HB6:=A8 hb6;clear hb6))
 go_ret;exact⟨rfl,bel HBT.out (bel HB4.out (bel HB5.out HB6.out))⟩
theorem Oj(a0 a1 a2 a3 b0 b1 b2 b3:Value)(a b:Cd)(ha:AZ a)(hb:AZ b)(he:a.sign=b.sign)(he1:a.regs=b.regs)(he2:a.slots=b.slots)(w:World)(hA:CH w a0 a1 a2 a3 a)(hB:CH w b0 b1 b2 b3 b):
 Calls prog 13 #[.agg #[a0,a1,a2,a3],.agg #[b0,b1,b2,b3],.bool true] w fun e w'=>e=.returned (.bool true)/\Below w.heap.size w w':=by
 have KE:Hid (∀v,Below w.heap.size w v->Calls prog 10 #[.agg #[a0,a1,a2,.slice none 0 0],.agg #[b0,b1,b2,.slice none 0 0]] v fun e w'=>e=.returned (.bool true)/\Below v.heap.size v w'):=fun v hv=>by
  have h9:=FF a0 a1 a2 (.slice none 0 0) b0 b1 b2 (.slice none 0 0) ⟨a.sign,a.regs,a.slots,[]⟩ ⟨b.sign,b.regs,b.slots,[]⟩ ⟨ha.signL,ha.names,ha.regsL,ha.slotsL,gI _,ha.sbits,fun i h=>Yl⟩ ⟨hb.signL,hb.names,hb.regsL,hb.slotsL,gI _,hb.sbits,fun i h=>Yl⟩ v ⟨hA.sign.below hv,hA.regs.below hv,hA.slots.below hv,Fo _ _ _⟩ ⟨hB.sign.below hv,hB.regs.below hv,hB.slots.below hv,Fo _ _ _⟩;have e9:eqC ⟨a.sign,a.regs,a.slots,[]⟩ ⟨b.sign,b.regs,b.slots,[]⟩=true:=by unfold eqC;simp[he,he1,he2]
  rw[e9]at h9;exact h9
 obtain⟨p0,n0,q0,rfl⟩:∃p n q,a0=.slice p n q:=by obtain⟨p,q,e,_⟩:=hA.sign;exact⟨p,_,q,e⟩
 obtain⟨p1,n1,q1,rfl⟩:∃p n q,a1=.slice p n q:=by obtain⟨p,q,e,_⟩:=hA.regs;exact⟨p,_,q,e⟩
 obtain⟨p2,n2,q2,rfl⟩:∃p n q,a2=.slice p n q:=by obtain⟨p,q,e,_⟩:=hA.slots;exact⟨p,_,q,e⟩
 obtain⟨p3,n3,q3,rfl⟩:∃p n q,a3=.slice p n q:=by obtain⟨p,q,e,_⟩:=hA.list;exact⟨p,_,q,e⟩
 obtain⟨r0,m0,s0,rfl⟩:∃p n q,b0=.slice p n q:=by obtain⟨p,q,e,_⟩:=hB.sign;exact⟨p,_,q,e⟩
 obtain⟨r1,m1,s1,rfl⟩:∃p n q,b1=.slice p n q:=by obtain⟨p,q,e,_⟩:=hB.regs;exact⟨p,_,q,e⟩
 obtain⟨r2,m2,s2,rfl⟩:∃p n q,b2=.slice p n q:=by obtain⟨p,q,e,_⟩:=hB.slots;exact⟨p,_,q,e⟩
 obtain⟨r3,m3,s3,rfl⟩:∃p n q,b3=.slice p n q:=by obtain⟨p,q,e,_⟩:=hB.list;exact⟨p,_,q,e⟩
 clear hA hB ha hb he he1 he2;go_enter func13,ntmps13;go_wp2_with(go_at_call 10;refine(KE.out _ gG).mono ?_;rintro e w1 ⟨rfl,hb1⟩);go_ret;exact⟨rfl,bel gG hb1⟩
theorem O6(v0 v1 v2 v3:Value)(c:Cd)(hk:AZ c)(hz:Yb c)(w:World)(hv:CH w v0 v1 v2 v3 c)(hc:(Ax c).1=0):
 Calls prog 3 #[.agg #[v0,v1,v2,v3]] w fun e w'=>e=.returned (.bool true)/\Below w.heap.size w w':=by
 obtain⟨hg,htk⟩:=En hc;obtain⟨hgd,htd⟩:=En (Jv hc);have KT:=A8 (fun(v:World) (h:Below w.heap.size w v)=>Lj v0 v1 v2 v3 c hz v (hv.below h));have KE:Hid (∀ (v:World) (x0 x1 x2 x3 y0 y1 y2 y3:Value),CH v x0 x1 x2 x3 c->CH v y0 y1 y2 y3 c->Calls prog 10 #[.agg #[x0,x1,x2,x3],.agg #[y0,y1,y2,y3]] v fun e w'=>e=.returned (.bool true)/\Below v.heap.size v w'):=fun v x0 x1 x2 x3 y0 y1 y2 y3 h1 h2=>by
  have h9:=FF x0 x1 x2 x3 y0 y1 y2 y3 c c hk hk v h1 h2;rw[O2]at h9;exact h9
 have KF:Hid (∀ (v:World) (x0 x1 x2 x3:Value),CH v x0 x1 x2 x3 c->Calls prog 11 #[.agg #[x0,x1,x2,x3]] v fun e w'=>e=.returned (.bool true)/\Below v.heap.size v w'):=fun v x0 x1 x2 x3 h=>by
  have h9:=H8 x0 x1 x2 x3 c hk v h;rw[show((Ax c).1==0)=true by simpa using hc]at h9;exact h9
 have KFD:Hid (∀ (v:World) (x0 x1 x2 x3:Value),CH v x0 x1 x2 x3 (AA c)->Calls prog 11 #[.agg #[x0,x1,x2,x3]] v fun e w'=>e=.returned (.bool true)/\Below v.heap.size v w'):=fun v x0 x1 x2 x3 h=>by
  have h9:=H8 x0 x1 x2 x3 (AA c) (JX hc hk) v h;rw[show((Ax (AA c)).1==0)=true by simpa using Jv hc]at h9;exact h9
 have KR:=A8 (fun(v:World) (x0 x1 x2 x3:Value) (h:CH v x0 x1 x2 x3 c)=>LX x0 x1 x2 x3 c hk v h hc);have KW:=A8 Jh;have KFR:Hid (∀ (v:World) (x0 x1 x2 x3 y0 y1 y2 y3:Value),CH v x0 x1 x2 x3 c->CH v y0 y1 y2 y3 (AA c)->Calls prog 13 #[.agg #[x0,x1,x2,x3],.agg #[y0,y1,y2,y3],.bool true] v fun e w'=>e=.returned (.bool true)/\Below v.heap.size v w'):=fun v x0 x1 x2 x3 y0 y1 y2 y3 h1 h2=>Oj x0 x1 x2 x3 y0 y1 y2 y3 c (AA c) hk (JX hc hk) (Ff c).1.symm (Ff c).2.1.symm (Ff c).2.2.symm v h1 h2;have KB:=A8 (fun(p:Option Addr) (q:Nat) (v:World) (h:AM 7 Cv v (.slice p c.list.length q) c.list)=>JK c.list (by have:=hg.listL;omega) p q v h);have KBD:=A8 (fun(p:Option Addr) (q:Nat) (v:World) (h:AM 7 Cv v (.slice p (AA c).list.length q) (AA c).list)=>JK (AA c).list (by have:=hgd.listL;omega) p q v h);have KSM:=A8 (fun(pa:Option Addr) (qa:Nat) (pb:Option Addr) (qb:Nat) (v:World) (h1:AM 7 Cv v (.slice pa (AR c.list).length qa) (AR c.list)) (h2:AM 7 Cv v (.slice pb (AR (AA c).list).length qb) (AR (AA c).list))=>QN (AR c.list) (AR (AA c).list) (Tn hc).symm (by have:=Rg c.list;have:=hg.listL;omega) pa qa pb qb v h1 h2);obtain⟨p0,q0,rfl⟩:∃p q,v0=.slice p c.sign.length q:=by obtain⟨p,q,e,_⟩:=hv.sign;exact⟨p,q,e⟩
 obtain⟨p1,q1,rfl⟩:∃p q,v1=.slice p c.regs.length q:=by obtain⟨p,q,e,_⟩:=hv.regs;exact⟨p,q,e⟩
 obtain⟨p2,q2,rfl⟩:∃p q,v2=.slice p c.slots.length q:=by obtain⟨p,q,e,_⟩:=hv.slots;exact⟨p,q,e⟩
 obtain⟨p3,q3,rfl⟩:∃p q,v3=.slice p c.list.length q:=by obtain⟨p,q,e,_⟩:=hv.list;exact⟨p,q,e⟩
 have HVV:=A8 hv;obtain⟨W0,hW0⟩:=gA (w.alloc (.cells #[.slice p0 c.sign.length q0,.slice p1 c.regs.length q1,.slice p2 c.slots.length q2,.slice p3 c.list.length q3] 27))
 have HB0:Hid (Below w.heap.size w W0):=by rw[<-hW0];exact A0 _ _
 have k0:W0.cell? ⟨w.heap.size,0,none⟩=some (.slice p0 c.sign.length q0):=by rw[<-hW0];simp[go_sem]
 have k1:W0.cell? ⟨w.heap.size,1,none⟩=some (.slice p1 c.regs.length q1):=by rw[<-hW0];simp[go_sem]
 have k2:W0.cell? ⟨w.heap.size,2,none⟩=some (.slice p2 c.slots.length q2):=by rw[<-hW0];simp[go_sem]
 have k3:W0.cell? ⟨w.heap.size,3,none⟩=some (.slice p3 c.list.length q3):=by rw[<-hW0];simp[go_sem]
 clear hv hk hz hc hg htk hgd htd;go_enter func3,ntmps3;go_upto_region 1 with fail;try rw[hW0]
 clear hW0;go_upto_region 7 with(first
  |(go_at_call 8;(with_reducible refine(KT.out _ HB0.out).mono ?_);rintro e w1 ⟨u0,u1,u2,u3,rfl,hcd,how,hb1⟩;obtain⟨a0,b0,rfl⟩:∃p q,u0=.slice p c.sign.length q:=Zgu;obtain⟨a1,b1,rfl⟩:∃p q,u1=.slice p c.regs.length q:=Zgv;obtain⟨a2,b2,rfl⟩:∃p q,u2=.slice p c.slots.length q:=Zgo;obtain⟨a3,b3,rfl⟩:∃p q,u3=.slice p c.list.length q:=Zgw;have HCD:=A8 hcd;have HB1:=A8 hb1;have m0:=(fun o=>kc (bel hb1 (A0 _ o)) k0);have m1:=(fun o=>kc (bel hb1 (A0 _ o)) k1);have m2:=(fun o=>kc (bel hb1 (A0 _ o)) k2);have m3:=(fun o=>kc (bel hb1 (A0 _ o)) k3);clear hcd how hb1)
  |(go_at_call 9;(with_reducible refine(KR.out _ _ _ _ _ (HCD.out.below (A0 _ _))).mono ?_);rintro e w2 ⟨u0,u1,u2,u3,rfl,hcd,-,hb2⟩;obtain⟨r0,s0,rfl⟩:∃p q,u0=.slice p (AA c).sign.length q:=Zgu;obtain⟨r1,s1,rfl⟩:∃p q,u1=.slice p (AA c).regs.length q:=Zgv;obtain⟨r2,s2,rfl⟩:∃p q,u2=.slice p (AA c).slots.length q:=Zgo;obtain⟨r3,s3,rfl⟩:∃p q,u3=.slice p (AA c).list.length q:=Zgw;have HCR:=A8 hcd;have HB2:=A8 hb2;have l0:=kc hb2 (m0 _);have l1:=kc hb2 (m1 _);have l2:=kc hb2 (m2 _);have l3:=kc hb2 (m3 _);have g0:w2.cell? ⟨w1.heap.size,0,none⟩=some (.slice a0 c.sign.length b0):=kc hb2 sG;have g1:w2.cell? ⟨w1.heap.size,1,none⟩=some (.slice a1 c.regs.length b1):=kc hb2 sG;have g2:w2.cell? ⟨w1.heap.size,2,none⟩=some (.slice a2 c.slots.length b2):=kc hb2 sG;have g3:w2.cell? ⟨w1.heap.size,3,none⟩=some (.slice a3 c.list.length b3):=kc hb2 sG;have lf0:=(fun o=>kc (A0 w2 o) l0);have lf1:=(fun o=>kc (A0 w2 o) l1);have lf2:=(fun o=>kc (A0 w2 o) l2);have lf3:=(fun o=>kc (A0 w2 o) l3);have gf0:=(fun o=>kc (A0 w2 o) g0);have gf1:=(fun o=>kc (A0 w2 o) g1);have gf2:=(fun o=>kc (A0 w2 o) g2);have gf3:=(fun o=>kc (A0 w2 o) g3);clear hb2 hcd)
  |(go_at_call 10;(with_reducible refine(KE.out _ _ _ _ _ _ _ _ _ (HCD.out.below (bel (A0 _ _) (bel HB2.out (A0 _ _)))) (HVV.out.below (bel HB0.out (bel HB1.out (bel (A0 _ _) (bel HB2.out (A0 _ _))))))).mono ?_);rintro e w3 ⟨rfl,hb3⟩;have HB3:=A8 hb3;have HBT:Hid (Below w.heap.size w w3):=bel HB0.out (bel HB1.out (bel (A0 _ _) (bel HB2.out (bel (A0 _ _) hb3))));have n0:=kc hb3 (lf0 _);have n1:=kc hb3 (lf1 _);have n2:=kc hb3 (lf2 _);have n3:=kc hb3 (lf3 _);have h0:w3.cell? ⟨w2.heap.size,0,none⟩=some (.slice r0 (AA c).sign.length s0):=kc hb3 sG;have h1:w3.cell? ⟨w2.heap.size,1,none⟩=some (.slice r1 (AA c).regs.length s1):=kc hb3 sG;have h2:w3.cell? ⟨w2.heap.size,2,none⟩=some (.slice r2 (AA c).slots.length s2):=kc hb3 sG;have h3:w3.cell? ⟨w2.heap.size,3,none⟩=some (.slice r3 (AA c).list.length s3):=kc hb3 sG;clear hb3)
  |(go_at_call 11;(with_reducible refine(KF.out _ _ _ _ _ (HVV.out.below HBT.out)).mono ?_);rintro e w4 ⟨rfl,hb4⟩;have HB4:=A8 hb4;have i0:=kc hb4 (n0);have i1:=kc hb4 (n1);have i2:=kc hb4 (n2);have i3:=kc hb4 (n3);have j0:=kc hb4 (h0);have j1:=kc hb4 (h1);have j2:=kc hb4 (h2);have j3:=kc hb4 (h3);clear hb4))
 have HCR4:=A8 (HCR.below (bel (A0 _ (.cells #[.slice r0 (AA c).sign.length s0,.slice r1 (AA c).regs.length s1,.slice r2 (AA c).slots.length s2,.slice r3 (AA c).list.length s3] 27)) (bel HB3.out HB4.out)));have HVV4:=A8 (HVV.below (bel HBT.out HB4.out));have HCC:Hid (∀v,Below w4.heap.size w4 v->v.cell? ⟨w.heap.size,0,none⟩=some (.slice p0 c.sign.length q0)/\v.cell? ⟨w.heap.size,1,none⟩=some (.slice p1 c.regs.length q1)/\v.cell? ⟨w.heap.size,2,none⟩=some (.slice p2 c.slots.length q2)/\v.cell? ⟨w.heap.size,3,none⟩=some (.slice p3 c.list.length q3)/\v.cell? ⟨w2.heap.size,0,none⟩=some (.slice r0 (AA c).sign.length s0)/\v.cell? ⟨w2.heap.size,1,none⟩=some (.slice r1 (AA c).regs.length s1)/\v.cell? ⟨w2.heap.size,2,none⟩=some (.slice r2 (AA c).slots.length s2)/\v.cell? ⟨w2.heap.size,3,none⟩=some (.slice r3 (AA c).list.length s3)):=fun v hb=>⟨kc hb i0,kc hb i1,kc hb i2,kc hb i3,kc hb j0,kc hb j1,kc hb j2,kc hb j3⟩
 clear k0 k1 k2 k3 m0 m1 m2 m3 l0 l1 l2 l3 g0 g1 g2 g3 lf0 lf1 lf2 lf3 gf0 gf1 gf2 gf3 n0 n1 n2 n3 h0 h1 h2 h3;have HBE:Hid (Below w.heap.size w w4):=bel HBT.out HB4.out;refine rG (fun v=>v.cell? ⟨w.heap.size,0,none⟩=some (.slice p0 c.sign.length q0)/\v.cell? ⟨w.heap.size,1,none⟩=some (.slice p1 c.regs.length q1)/\v.cell? ⟨w.heap.size,2,none⟩=some (.slice p2 c.slots.length q2)/\v.cell? ⟨w.heap.size,3,none⟩=some (.slice p3 c.list.length q3)/\v.cell? ⟨w2.heap.size,0,none⟩=some (.slice r0 (AA c).sign.length s0)/\v.cell? ⟨w2.heap.size,1,none⟩=some (.slice r1 (AA c).regs.length s1)/\v.cell? ⟨w2.heap.size,2,none⟩=some (.slice r2 (AA c).slots.length s2)/\v.cell? ⟨w2.heap.size,3,none⟩=some (.slice r3 (AA c).list.length s3)) fun yH=>?_;refine Tc 0 1 2 ?_;refine BB 3 ?_;clear yH;refine AE 4 fun K hK=>?_;go_simp;(go_at_call 11;(with_reducible refine(KFD.out _ _ _ _ _ (HCR4.out.below (AW _))).mono ?_);rintro e u1 ⟨rfl,hb⟩;have HU1:Hid (Below w4.heap.size w4 u1):=bel (AW _) hb;obtain⟨z1c0,z1c1,z1c2,z1c3,z1d0,z1d1,z1d2,z1d3⟩:=HCC.out u1 HU1.out;clear hb);try(go_wp2_with fail)
 refine AD hK fun yH=>?_;clear hK K;refine Tc 5 6 7 ?_;refine BB 8 ?_;clear yH;refine AE 9 fun K hK=>?_;go_simp;(go_at_call 13;(with_reducible refine(KFR.out _ _ _ _ _ _ _ _ _ (HVV4.out.below HU1.out) (HCR4.out.below HU1.out)).mono ?_);rintro e u2 ⟨rfl,hb⟩;have HU2:Hid (Below w4.heap.size w4 u2):=bel HU1.out hb;obtain⟨z2c0,z2c1,z2c2,z2c3,z2d0,z2d1,z2d2,z2d3⟩:=HCC.out u2 HU2.out;clear hb);try(go_wp2_with fail)
 refine AD hK fun yH=>?_;clear hK K;refine Tf 10 11 12 13 15 16 ?_;clear yH;refine AE 14 fun K hK=>?_;go_simp;(go_at_call 15;(with_reducible refine(KB.out _ _ _ (HVV4.out.below HU2.out).list).mono ?_);rintro e u3 ⟨pb,qb,rfl,hob,hb⟩;have HO3:=A8 hob;have HU3:Hid (Below w4.heap.size w4 u3):=bel HU2.out hb;obtain⟨z3c0,z3c1,z3c2,z3c3,z3d0,z3d1,z3d2,z3d3⟩:=HCC.out u3 HU3.out;clear hob hb);try(go_wp2_with fail)
 refine AD hK fun yH=>?_;clear hK K;clear yH;refine AE 17 fun K hK=>?_;go_simp;(go_at_call 15;(with_reducible refine(KBD.out _ _ _ (HCR4.out.below HU3.out).list).mono ?_);rintro e u4 ⟨pd,qd,rfl,hob,hb⟩;have HO4:=A8 hob;have HO34:=A8 (Au HO3.out hb);have HU4:Hid (Below w4.heap.size w4 u4):=bel HU3.out hb;obtain⟨z4c0,z4c1,z4c2,z4c3,z4d0,z4d1,z4d2,z4d3⟩:=HCC.out u4 HU4.out;clear hob hb);try(go_wp2_with fail)
 refine AD hK fun yH=>?_;clear hK K;clear yH;refine AE 18 fun K hK=>?_;go_simp;(go_at_call 14;(with_reducible refine(KSM.out _ _ _ _ _ (C6 Co HO34.out) (C6 Co HO4.out)).mono ?_);rintro e u5 ⟨rfl,hb⟩;have HU5:Hid (Below w4.heap.size w4 u5):=bel HU4.out hb;obtain⟨z5c0,z5c1,z5c2,z5c3,z5d0,z5d1,z5d2,z5d3⟩:=HCC.out u5 HU5.out;clear hb);try(go_wp2_with fail)
 refine AD hK fun yH=>?_;clear hK K;refine Tb 19 20 ?_;clear yH;refine AE 21 fun K hK=>?_;go_simp;(go_at_call 12;(with_reducible refine(KW.out _).mono ?_);rintro e u6 ⟨rfl,hb⟩;have HU6:Hid (Below w4.heap.size w4 u6):=bel HU5.out hb;obtain⟨z6c0,z6c1,z6c2,z6c3,z6d0,z6d1,z6d2,z6d3⟩:=HCC.out u6 HU6.out;clear hb);try(go_wp2_with fail)
 refine AD hK fun yH=>?_;clear hK K;refine Tb 22 23 ?_;refine wpAnyH_done kR ?_ _;go_wp2;go_ret;exact⟨rfl,bel HBE.out HU6.out⟩
theorem Lm(v0 v1 v2 v3:Value)(c:Cd)(hk:AZ c)(hz:Yb c)(w:World)(hv:CH w v0 v1 v2 v3 c):
 Calls prog 3 #[.agg #[v0,v1,v2,v3]] w fun e w'=>e=.returned (.bool true)/\Below w.heap.size w w':=by
 by_cases hc:(Ax c).1=0
 .exact O6 v0 v1 v2 v3 c hk hz w hv hc
 .exact PP v0 v1 v2 v3 c hk hz w hv hc
end Go.Proofs.YtpoklpdgpcnkgaaGreat
