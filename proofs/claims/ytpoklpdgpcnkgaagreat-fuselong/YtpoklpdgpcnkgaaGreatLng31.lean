import Derived.Test.YtpoklpdgpcnkgaaGreatLng29
import Derived.Deep.DeepCutAuto
import Derived.Test.YtpoklpdgpcnkgaaGreatLng1
import Derived.Test.YtpoklpdgpcnkgaaGreatLng27
import Derived.Test.YtpoklpdgpcnkgaaGreatLng28
import Derived.Test.YtpoklpdgpcnkgaaGreatLng19
import Derived.Test.YtpoklpdgpcnkgaaGreatLng7
import Derived.Test.YtpoklpdgpcnkgaaGreatLng21
namespace Go.Proofs.YtpoklpdgpcnkgaaGreat
open Go.RowKit Go.Proofs.Tryz
set_option linter.all false
set_option maxRecDepth 100000
set_option maxHeartbeats 16000000
theorem Hg(E:Nat)(c:Cd)(n:Nat)(s:Fz)(w:World)(B C WB:Nat)(lv:Value)(vl:Nat->Value)(mv mn:Nat->Option Nat)(tag:Nat->Nat)(h:CQ E c n s w B C WB lv vl mv mn tag)(hn:n<=100000)(hL:∀k,k<n->(A9 Bc s k).left.length+((A9 Bc s k).wait k).length<=900000):
 Calls prog 26 #[.pointer (some ⟨B,0,none⟩)] w fun e w'=>e=.returned (.tuple #[])/\Below E w w'/\∃lv vl mv mn tg,CQ E c n (A9 Bc s n) w' B C WB lv vl mv mn tg/\(∀b,b<w.heap.size->tg b=tag b)/\∀b,b<w.heap.size->b≠B->b≠WB->tag b≠0->w'.heap[b]? =w.heap[b]? :=by
 have b1:w.cell? ⟨B,1,none⟩=some (.slice (some ⟨WB,0,none⟩) n n):=h.b.cell (i:=1) dE;have HK:=A8 (fun(k:Nat) (hk:k<n) (v:World) (lv':Value) (vl':Nat->Value) (mv' mn':Nat->Option Nat) (tag':Nat->Nat) (q:CQ E c n (A9 Bc s k) v B C WB lv' vl' mv' mn' tag')=>Kk E c n (A9 Bc s k) v B C WB lv' vl' mv' mn' tag' q k hk hn (hL k hk));have HJ0:Hid (Below E w w/\∃lv vl mv mn tg,CQ E c n (A9 Bc s 0) w B C WB lv vl mv mn tg/\(∀b,b<w.heap.size->tg b=tag b)/\∀b,b<w.heap.size->b≠B->b≠WB->tag b≠0->w.heap[b]? =w.heap[b]?):=⟨Below.refl E w,lv,vl,mv,mn,tag,h,fun _ _=>rfl,fun _ _ _ _ _=>rfl⟩
 clear h hL;go_enter func26,ntmps26;go_upto_block 0 with fail;clear b1;go_wp2_with fail
 go_loopw [8] (fun iv wx=>∃k:Nat,k<=n/\iv=.int .i64 (k:Int)/\Hid (Below E w wx/\∃lv vl mv mn tg,CQ E c n (A9 Bc s k) wx B C WB lv vl mv mn tg/\(∀b,b<w.heap.size->tg b=tag b)/\∀b,b<w.heap.size->b≠B->b≠WB->tag b≠0->wx.heap[b]? =w.heap[b]?)) (fun iv _=>n-(intOf iv).toNat)
 case atStart=>
  obtain⟨a,x1,x2,x3,x4,x5,y1,y2,-⟩:=HJ0.out;exact⟨0,gI _,rfl,a,x1,x2,x3,x4,x5,y1,y2,fun _ _ _ _ _=>rfl⟩
 case round=>
  clear HJ0;rename World=>wa;obtain⟨k,hk,rfl,HJ⟩:=hrel;by_cases hlt:k<n
  .obtain⟨hb,lv',vl',mv',mn',tag',q,qt,qf⟩:=HJ.out;have HQT:=A8 qt;have HQF:=A8 qf;have HSZ:Hid (w.heap.size<=wa.heap.size):=hb.size;have KW:=A8 (HK.out k hlt wa lv' vl' mv' mn' tag' q);have HB:=A8 hb;have hfl:A9 Bc s (k+1)=Ba (A9 Bc s k) k:=by
    show(if Bc ((A9 Bc s k).wait k)=true then Ba (A9 Bc s k) k else A9 Bc s k)=_;exact if_pos (show Bc _=true from rfl)
   have HFL:=A8 hfl;have i1:(0:Int)<=(k:Int):=oM;have i2:(k:Int)<(n:Int):=oM;have wi:IntKind.i64.wrap ((k:Int)+1)=((k+1:Nat):Int):=by rw[IntKind.wrap_i64];omega
   clear hfl q hb HJ qt qf;go_wp2_with(go_at_call 44;(with_reducible refine(KW.out).mono ?_);rintro e9 w4 ⟨rfl,hb4,hf4⟩;have HB4:=A8 hb4;have HF4:=A8 hf4;clear hb4 hf4);go_roundw
   case rel=>
    obtain⟨x1,x2,x3,x4,x5,y1,y2,y3⟩:=HF4.out;have hsz:=HSZ.out;refine⟨k+1,oM,gN,HB.trans HB4.out,x1,x2,x3,x4,x5,by rw[HFL.out];exact y1,fun b hb=>(y2 b oM).trans (HQT.out b hb),fun b b1 b2 b3 b4=>(y3 b oM b2 b3 (by rw[HQT.out b b1];exact b4)).trans (HQF.out b b1 b2 b3 b4)⟩
   case measure=>simp[intOf];omega
  .have e9:¬ (k:Int)<(n:Int):=oM;have hke:k=n:=oM;have HQ:Hid (Below E w wa/\∃lv vl mv mn tg,CQ E c n (A9 Bc s n) wa B C WB lv vl mv mn tg/\(∀b,b<w.heap.size->tg b=tag b)/\∀b,b<w.heap.size->b≠B->b≠WB->tag b≠0->wa.heap[b]? =w.heap[b]?):=by
    have h9:=HJ.out;rw[hke]at h9;exact h9
   clear hlt hke HJ;go_wp2;first|go_end0|refine bodyPost_ret (results_none rfl _ _ _) rfl ?_|(simp only[Exit.inBlock,Exit.then];refine bodyPost_ret (results_none rfl _ _ _) rfl ?_)
   exact⟨rfl,HQ.1,HQ.2⟩
theorem CQ.retag{E:Nat}{c:Cd}{n:Nat}{s:Fz}{w:World}{B C WB:Nat}{lv:Value}{vl:Nat->Value}{mv mn:Nat->Option Nat}{tag tg:Nat->Nat}(h:CQ E c n s w B C WB lv vl mv mn tag)(e:∀y,y<w.heap.size->tg y=tag y):CQ E c n s w B C WB lv vl mv mn tg:=
 ⟨h.b,h.wt,h.lp,h.lf,fun g hg=>(e g (h.lf.lt g hg).2).trans (h.tl g hg),fun p g hp hg=>(e g ((h.lp p hp).l.lt g hg).2).trans (h.tp p g hp hg),fun p g hp hg=>(e g ((h.lp p hp).v.lt hg).lt).trans (h.tv p g hp hg),fun p g hp hg=>(e g ((h.lp p hp).n.lt hg).lt).trans (h.tn p g hp hg),h.geB,h.geW,h.le⟩
theorem JC(E:Nat)(c:Cd)(n:Nat)(s:Fz)(w:World)(B C WB:Nat)(lv:Value)(vl:Nat->Value)(mv mn:Nat->Option Nat)(tag:Nat->Nat)(h:CQ E c n s w B C WB lv vl mv mn tag)(hn:n<=100000)(i:Aa)(hi:Bp c i)(hRg:c.regs.length<=16384)(p1:Option Addr)(q1:Nat)(hC:∀v,Below E w v->v.cell? ⟨C,1,none⟩=some (.slice p1 c.regs.length q1)/\AZ 2 I2 v (.slice p1 c.regs.length q1) c.regs)
 (hL:∀k,k<n->(A9 (fun ws=>Db c ws i) s k).left.length+((A9 (fun ws=>Db c ws i) s k).wait k).length<=900000) (hNn:∀k,k<n->(BF c ((A9 (fun ws=>Db c ws i) s k).wait k)).length<=100000):
 Calls prog 43 #[.pointer (some ⟨B,0,none⟩),BV i] w fun e w'=>e=.returned (.tuple #[])/\Below E w w'/\∃lv vl mv mn tg,CQ E c n (A9 (fun ws=>Db c ws i) s n) w' B C WB lv vl mv mn tg/\(∀b,b<w.heap.size->tg b=tag b)/\∀b,b<w.heap.size->b≠B->b≠WB->tag b≠0->w'.heap[b]? =w.heap[b]? :=by
 obtain⟨Q,hQ⟩:∃q,(fun ws=>Db c ws i)=q:=⟨_,rfl⟩
 have HQB:Hid (∀ws,Q ws=Db c ws i):=fun ws=>by rw[<-hQ]
 rw[hQ]at hL hNn |-;clear hQ;have HK:=A8 (fun(k:Nat) (hk:k<n) (v:World) (lv':Value) (vl':Nat->Value) (mv' mn':Nat->Option Nat) (tag':Nat->Nat) (q:CQ E c n (A9 Q s k) v B C WB lv' vl' mv' mn' tag')=>Kk E c n (A9 Q s k) v B C WB lv' vl' mv' mn' tag' q k hk hn (hL k hk));have HA:=A8 (fun(k:Nat) (hk:k<n) (v:World) (lv':Value) (vl':Nat->Value) (mv' mn':Nat->Option Nat) (tag':Nat->Nat) (q:CQ E c n (A9 Q s k) v B C WB lv' vl' mv' mn' tag') (hr:AZ 2 I2 v (.slice p1 c.regs.length q1) c.regs)=>Q6 c i hi (vecsL ((A9 Q s k).wait k)) (BF c ((A9 Q s k).wait k)) (hNn k hk) WB (3*k) (mv' k) (mn' k) p1 q1 v (q.cellL hk).2.1 (q.cellL hk).2.2 (q.lp k hk).v (q.lp k hk).n hr hRg);simp only[ah_beh,<-HQB.out]at HA;have HC:=A8 hC;obtain⟨N,hN⟩:=gA (c.regs.length)
 simp only[hN]at HC HA;obtain⟨op,d,a,b,e,m,z⟩:=i;unfold BV at HA |-;simp only at HA |-;obtain⟨W0,hW0⟩:∃W,w.alloc (.cells #[.int .i64 op,.int .i64 d,.int .i64 a,.int .i64 b,.int .i64 e,.int .i64 m,.int .u32 z] 45)=W:=⟨_,rfl⟩
 have hb0:Below w.heap.size w W0:=by rw[<-hW0];exact A0 _ _
 have hs0:W0.heap.size=w.heap.size+1:=by rw[<-hW0];simp
 have hX:W0.rowIs w.heap.size 45 7 (bxF op d a b e m z):=by rw[<-hW0];exact Di w _ _
 have hE0:Below E w W0:=hb0.mono h.le;obtain⟨tg0,htg0⟩:∃t,(fun y=>if y<w.heap.size then tag y else 1)=t:=⟨_,rfl⟩
 have hM0:=(h.retag (tg:=tg0) (fun y hy=>by rw[<-htg0];exact if_pos hy)).below hb0;obtain⟨X,hXe⟩:=gA (w.heap.size)
 have hTX:tg0 X≠0:=by rw[<-htg0,<-hXe];simp
 have HT0:Hid (∀y,y<X->tg0 y=tag y):=fun y hy=>by rw[<-htg0];exact if_pos oM
 have hXB:X≠B:=by have:=h.b.lt;omega
 have hXW:X≠WB:=by have:=h.wt.lt;omega
 have HW0:Hid (∀y,y<X->W0.heap[y]? =w.heap[y]?):=fun y hy=>hb0.block y oM;rw[hXe]at hX;have HBX:Hid (∀v:World,v.heap[X]? =W0.heap[X]? ->v.cell? ⟨X,0,none⟩=some (.int .i64 op)/\v.cell? ⟨X,1,none⟩=some (.int .i64 d)/\v.cell? ⟨X,2,none⟩=some (.int .i64 a)/\v.cell? ⟨X,3,none⟩=some (.int .i64 b)/\v.cell? ⟨X,4,none⟩=some (.int .i64 e)/\v.cell? ⟨X,5,none⟩=some (.int .i64 m)/\v.cell? ⟨X,6,none⟩=some (.int .u32 z)):=fun v hb=>by
  exact Zcx
 have b1:W0.cell? ⟨B,1,none⟩=some (.slice (some ⟨WB,0,none⟩) n n):=hM0.b.cell (i:=1) dE;have HX1:Hid (X+1=W0.heap.size/\X≠B/\X≠WB/\tg0 X≠0):=⟨oM,hXB,hXW,hTX⟩
 have HJ0:Hid (Below E w W0/\∃lv vl mv mn tg,CQ E c n (A9 Q s 0) W0 B C WB lv vl mv mn tg/\(∀y,y<X+1->tg y=tg0 y)/\∀y,y<X+1->y≠B->y≠WB->tg0 y≠0->W0.heap[y]? =W0.heap[y]?):=⟨hE0,lv,vl,mv,mn,tg0,hM0,fun _ _=>rfl,fun _ _ _ _ _=>rfl⟩
 have HXE:=A8 hXe;clear h hL hNn hC hb0 hs0 hX hE0 hM0 htg0 hN hTX hXB hXW hi;go_enter func43,ntmps43;go_upto_region 1 with fail;try rw[hW0]
 try rw[hXe]
 clear hW0 hXe;go_upto_block 0 with fail;clear b1;go_wp2_with fail
 go_loopw [10] (fun iv wx=>∃k:Nat,k<=n/\iv=.int .i64 (k:Int)/\Hid (Below E w wx/\∃lv vl mv mn tg,CQ E c n (A9 Q s k) wx B C WB lv vl mv mn tg/\(∀y,y<X+1->tg y=tg0 y)/\∀y,y<X+1->y≠B->y≠WB->tg0 y≠0->wx.heap[y]? =W0.heap[y]?)) (fun iv _=>n-(intOf iv).toNat)
 case atStart=>
  obtain⟨a1,x1,x2,x3,x4,x5,y1,y2,-⟩:=HJ0.out;exact⟨0,gI _,rfl,a1,x1,x2,x3,x4,x5,y1,y2,fun _ _ _ _ _=>rfl⟩
 case round=>
  clear HJ0;rename World=>wa;obtain⟨k,hk,rfl,HJ⟩:=hrel;by_cases hlt:k<n
  .obtain⟨hb,lv',vl',mv',mn',tg',q,qt,qf⟩:=HJ.out;obtain⟨hx1,hx2,hx3,hx4⟩:=HX1.out;have hXs:=qf X oM hx2 hx3 hx4;obtain⟨x0,x1,x2,x3,x4,x5,x6⟩:=HBX.out wa hXs;obtain⟨cc,hrw⟩:=HC.out wa hb;have b0:wa.cell? ⟨B,0,none⟩=some (.pointer (some ⟨C,0,none⟩)):=q.b.cell (i:=0) dE;have b1:wa.cell? ⟨B,1,none⟩=some (.slice (some ⟨WB,0,none⟩) n n):=q.b.cell (i:=1) dE;have hXlt:X<wa.heap.size:=A6 x0;have KA:Hid (∀v,Below wa.heap.size wa v->Calls prog 66 #[.pointer (some ⟨WB,k*3,none⟩),.agg #[.int .i64 op,.int .i64 d,.int .i64 a,.int .i64 b,.int .i64 e,.int .i64 m,.int .u32 z],.slice p1 N q1] v fun e w'=>e=.returned (.bool (Q ((A9 Q s k).wait k)))/\Below v.heap.size v w'):=fun v hv=>by
    have h9:=HA.out k hlt v lv' vl' mv' mn' tg' (q.below hv) (HC.out v (hb.trans (hv.mono q.le))).2;rw[Nat.mul_comm 3 k]at h9;exact h9
   have HW4:Hid (∀v,Below wa.heap.size wa v->Calls prog 44 #[.pointer (some ⟨B,0,none⟩),.int .i64 (k:Int)] v fun e w'=>e=.returned (.tuple #[])/\Below E w w'/\∃lv vl mv mn tg,CQ E c n (Ba (A9 Q s k) k) w' B C WB lv vl mv mn tg/\(∀y,y<X+1->tg y=tg0 y)/\∀y,y<X+1->y≠B->y≠WB->tg0 y≠0->w'.heap[y]? =W0.heap[y]?):=fun v hv=>(HK.out k hlt v lv' vl' mv' mn' tg' (q.below hv)).mono fun e w' ⟨e1,e2,z1,z2,z3,z4,z5,r1,r2,r3⟩=>by
    have hsv:=hv.size;exact⟨e1,(hb.trans (hv.mono q.le)).trans e2,z1,z2,z3,z4,z5,r1,fun y hy=>(r2 y oM).trans (qt y hy),fun y y1 y2 y3 y4=>(r3 y oM y2 y3 (by rw[qt y y1];exact y4)).trans ((hv.block y oM).trans (qf y y1 y2 y3 y4))⟩
   have HST:Hid (∀v,Below wa.heap.size wa v->(v.cell? ⟨X,0,none⟩=some (.int .i64 op)/\v.cell? ⟨X,1,none⟩=some (.int .i64 d)/\v.cell? ⟨X,2,none⟩=some (.int .i64 a)/\v.cell? ⟨X,3,none⟩=some (.int .i64 b)/\v.cell? ⟨X,4,none⟩=some (.int .i64 e)/\v.cell? ⟨X,5,none⟩=some (.int .i64 m)/\v.cell? ⟨X,6,none⟩=some (.int .u32 z))/\v.cell? ⟨C,1,none⟩=some (.slice p1 N q1)/\v.cell? ⟨B,0,none⟩=some (.pointer (some ⟨C,0,none⟩))/\v.cell? ⟨B,1,none⟩=some (.slice (some ⟨WB,0,none⟩) n n)/\Below E w v/\∃lv vl mv mn tg,CQ E c n (A9 Q s k) v B C WB lv vl mv mn tg/\(∀y,y<X+1->tg y=tg0 y)/\∀y,y<X+1->y≠B->y≠WB->tg0 y≠0->v.heap[y]? =W0.heap[y]?):=fun v hv=>⟨HBX.out v ((hv.block X hXlt).trans hXs),(HC.out v (hb.trans (hv.mono q.le))).1,kc hv b0,kc hv b1,hb.trans (hv.mono q.le),lv',vl',mv',mn',tg',q.below hv,qt,fun y y1 y2 y3 y4=>(hv.block y oM).trans (qf y y1 y2 y3 y4)⟩
   have hfl:A9 Q s (k+1)=if Q ((A9 Q s k).wait k)=true then Ba (A9 Q s k) k else A9 Q s k:=rfl;obtain⟨QB,hQB⟩:∃t,Q ((A9 Q s k).wait k)=t:=⟨_,rfl⟩
   rw[hQB]at hfl KA;have HFL:=A8 hfl;have i1:(0:Int)<=(k:Int):=oM;have i2:(k:Int)<(n:Int):=oM;have wi:IntKind.i64.wrap ((k:Int)+1)=((k+1:Nat):Int):=by rw[IntKind.wrap_i64];omega
   clear hfl hQB q hb HJ qt qf hrw hXs hx1 hx2 hx3 hx4 hXlt;go_upto_region 4 with fail;refine rG (fun v=>v.cell? ⟨X,0,none⟩=some (.int .i64 op)/\v.cell? ⟨X,1,none⟩=some (.int .i64 d)/\v.cell? ⟨X,2,none⟩=some (.int .i64 a)/\v.cell? ⟨X,3,none⟩=some (.int .i64 b)/\v.cell? ⟨X,4,none⟩=some (.int .i64 e)/\v.cell? ⟨X,5,none⟩=some (.int .i64 m)/\v.cell? ⟨X,6,none⟩=some (.int .u32 z)/\v.cell? ⟨C,1,none⟩=some (.slice p1 N q1)/\v.cell? ⟨B,0,none⟩=some (.pointer (some ⟨C,0,none⟩))/\v.cell? ⟨B,1,none⟩=some (.slice (some ⟨WB,0,none⟩) n n)) fun yH=>?_;refine Tf 0 1 2 3 4 5 ?_;refine Tf 6 7 8 9 10 11 ?_;refine Tb 12 13 ?_;clear yH;refine AJ 14 fun K hK=>?_;go_simp;(go_at_call 66;(with_reducible refine(KA.out _ (AQ _)).mono ?_);rintro e9 w4 ⟨rfl,hb4⟩;have HB4:Hid (Below wa.heap.size wa w4):=bel (AQ _) hb4;obtain⟨⟨t0,t1,t2,t3,t4,t5,t6⟩,t7,t8,t9,-⟩:=HST.out w4 HB4.out;clear hb4);try(go_wp2_with fail)
   refine AF hK fun yH=>?_;clear hK K;refine wpAnyH_done kR ?_ _;cases QB with
   |true=>
    go_wp2_with(go_at_call 44;(with_reducible refine(HW4.out _ HB4.out).mono ?_);rintro e9 w5 ⟨rfl,hb5,hf5⟩;have HB5:=A8 hb5;have HF5:=A8 hf5;clear hb5 hf5);go_roundw
    case rel=>exact⟨k+1,oM,gN,HB5.out,by rw[HFL.out,if_pos trivial];exact HF5.out⟩
    case measure=>simp[intOf];omega
   |false=>
    go_wp2;go_roundw
    case rel=>exact⟨k+1,oM,gN,(HST.out _ HB4.out).2.2.2.2.1,by rw[HFL.out,if_neg dE];exact(HST.out _ HB4.out).2.2.2.2.2⟩
    case measure=>simp[intOf];omega
  .have e9:¬ (k:Int)<(n:Int):=oM;have hke:k=n:=oM;have HQ:Hid (Below E w wa/\∃lv vl mv mn tg,CQ E c n (A9 Q s n) wa B C WB lv vl mv mn tg/\(∀y,y<X->tg y=tag y)/\∀y,y<X->y≠B->y≠WB->tag y≠0->wa.heap[y]? =w.heap[y]?):=by
    obtain⟨a1,z1,z2,z3,z4,z5,y1,y2,y3⟩:=HJ.out;rw[hke]at y1;exact⟨a1,z1,z2,z3,z4,z5,y1,fun y hy=>(y2 y oM).trans (HT0.out y hy),fun y r1 r2 r3 r4=>(y3 y oM r2 r3 (by rw[HT0.out y r1];exact r4)).trans (HW0.out y r1)⟩
   clear hlt hke HJ;exact Zdv
theorem Vj{T:Nat->Prop}{w:World}{p:Option Addr}{n q B:Nat}{S:List Cl}(h:UT w (.slice p n q) S)(hp:∀b o s,p=some ⟨b,o,s⟩->B<=b)(hx:∀x∈S,∀b o s,x.p=some ⟨b,o,s⟩->B<=b)(hT:∀b,T b->b<B):AV T w (.slice p n q) S:=by
 obtain⟨p',q',e,hr⟩:=h.row;simp only[Value.slice.injEq]at e;obtain⟨rfl,rfl,rfl⟩:=e;refine⟨⟨p,q,rfl,?_⟩,fun x hx'=>(h.nums x hx').free (hx x hx') hT⟩;by_cases h0:S=[]
 .exact .inl h0
 .rcases hr with e|⟨b,o,e,hc⟩
  .exact absurd e h0
  .refine .inr ⟨b,o,e,fun k=>by have h1:=hT b k;have h2:=hp b o none e;omega,?_,hc⟩;have h1:=(hc 0 (List.length_pos_iff.2 h0)).at 0 (v:=.slice (S[0]'(List.length_pos_iff.2 h0)).p (S[0]'(List.length_pos_iff.2 h0)).h.pats.length (S[0]'(List.length_pos_iff.2 h0)).q) rfl;exact A6 h1
theorem nb_set{T:Nat->Prop}{w5 w6:World}{a0 a1 a2 a3:Value}{p5 pu:Option Addr}{n2 q5 nu qu:Nat}{S':List Cl}{hs':List Hd}{L:List (List Int)}{c:Cd}{E:Int}{NX:Nat}(hn:w6.rowIs w5.heap.size 77 5 (f5 (.slice none 0 0) (.slice none 0 0) (.slice none 0 0) (.slice none 0 0) (.slice none 0 0)))(hb:Below w5.heap.size w5 w6)(h1:S'.map (·.h)=hs')(h2:AV (fun b=>T b\/b=w5.heap.size) w6 (.slice p5 n2 q5) S')(h3:Gh (fun b=>b<NX) w6 (.slice pu nu qu) L)(h4:GJ c hs')(hX:w5.heap.size<NX):
 ∃NB p5' q5' pu' nu' qu' S'',Value.pointer (some ⟨w5.heap.size,0,none⟩)=.pointer (some ⟨NB,0,none⟩)/\Value.slice pu nu qu=.slice pu' nu' qu'/\Value.int .i64 E=.int .i64 E/\Hid ((((((w6.setCell ⟨w5.heap.size,0,none⟩ a0).setCell ⟨w5.heap.size,1,none⟩ a1).setCell ⟨w5.heap.size,2,none⟩ a2).setCell ⟨w5.heap.size,3,none⟩ a3).setCell ⟨w5.heap.size,4,none⟩ (.slice p5 n2 q5)).rowIs NB 77 5 (f5 a0 a1 a2 a3 (.slice p5' n2 q5'))/\w5.heap.size<=NB/\S''.map (·.h)=hs'/\AV T (((((w6.setCell ⟨w5.heap.size,0,none⟩ a0).setCell ⟨w5.heap.size,1,none⟩ a1).setCell ⟨w5.heap.size,2,none⟩ a2).setCell ⟨w5.heap.size,3,none⟩ a3).setCell ⟨w5.heap.size,4,none⟩ (.slice p5 n2 q5)) (.slice p5' n2 q5') S''/\Gh (fun b=>b<w5.heap.size) (((((w6.setCell ⟨w5.heap.size,0,none⟩ a0).setCell ⟨w5.heap.size,1,none⟩ a1).setCell ⟨w5.heap.size,2,none⟩ a2).setCell ⟨w5.heap.size,3,none⟩ a3).setCell ⟨w5.heap.size,4,none⟩ (.slice p5 n2 q5)) (.slice pu' nu' qu') L/\GJ c hs'/\Below w5.heap.size w5 (((((w6.setCell ⟨w5.heap.size,0,none⟩ a0).setCell ⟨w5.heap.size,1,none⟩ a1).setCell ⟨w5.heap.size,2,none⟩ a2).setCell ⟨w5.heap.size,3,none⟩ a3).setCell ⟨w5.heap.size,4,none⟩ (.slice p5 n2 q5))):=by
 have hu:Un (fun b=>b=w5.heap.size) w6 (((((w6.setCell ⟨w5.heap.size,0,none⟩ a0).setCell ⟨w5.heap.size,1,none⟩ a1).setCell ⟨w5.heap.size,2,none⟩ a2).setCell ⟨w5.heap.size,3,none⟩ a3).setCell ⟨w5.heap.size,4,none⟩ (.slice p5 n2 q5)):=(((((Un.refl _ _).setCell rF _).setCell rF _).setCell rF _).setCell rF _).setCell rF _;refine⟨_,p5,q5,pu,nu,qu,S',rfl,rfl,rfl,(((((hn.set 0 a0).set 1 a1).set 2 a2).set 3 a3).set 4 _).congr (fun j hj=>?_),gF _,h1,(h2.un hu fun b _ e=>.inr e).mono fun b _ e=>.inl e,(h3.un hu fun b _ e=>by omega).mono fun b _ e=>by omega,h4,((((hb.setCell (gF _) _).setCell (gF _) _).setCell (gF _) _).setCell (gF _) _).setCell (gF _) _⟩;have hj':j<5:=hj;obtain rfl|rfl|rfl|rfl|rfl:j=0\/j=1\/j=2\/j=3\/j=4:=oM
 all_goals rfl
theorem Wb{T:Nat->Prop}{w5 w6:World}{a0 a1 a2 a3:Value}{p5 pu:Option Addr}{n2 q5 nu qu:Nat}{S':List Cl}{hs':List Hd}{L:List (List Int)}{c:Cd}{E:Int}(hb:Below w5.heap.size w5 w6)(h1:S'.map (·.h)=hs')(h2:AV (fun b=>T b\/False) w6 (.slice p5 n2 q5) S')(h3:Gh (fun b=>b<w5.drew.heap.size) w6 (.slice pu nu qu) L)(h4:GJ c hs'):
 ∃NB p5' q5' pu' nu' qu' S'',Value.pointer (some ⟨w6.heap.size,0,none⟩)=.pointer (some ⟨NB,0,none⟩)/\Value.slice pu nu qu=.slice pu' nu' qu'/\Value.int .i64 E=.int .i64 E/\Hid ((w6.alloc (.cells #[a0,a1,a2,a3,.slice p5 n2 q5] 77)).rowIs NB 77 5 (f5 a0 a1 a2 a3 (.slice p5' n2 q5'))/\w5.heap.size<=NB/\S''.map (·.h)=hs'/\AV T (w6.alloc (.cells #[a0,a1,a2,a3,.slice p5 n2 q5] 77)) (.slice p5' n2 q5') S''/\Gh (fun b=>b<w5.heap.size) (w6.alloc (.cells #[a0,a1,a2,a3,.slice p5 n2 q5] 77)) (.slice pu' nu' qu') L/\GJ c hs'/\Below w5.heap.size w5 (w6.alloc (.cells #[a0,a1,a2,a3,.slice p5 n2 q5] 77))):=
 ⟨_,p5,q5,pu,nu,qu,S',rfl,rfl,rfl,World.rowIs_alloc w6 _ _ _ (Fp _ _ _ _ _),hb.size,h1,(h2.mono (fun b _ e=>.inl e)).below (A0 _ _),(h3.mono (fun b _ e=>Nat.lt_of_lt_of_le e (AQ w5).size)).below (A0 _ _),h4,bel hb (A0 _ _)⟩
theorem Vk{w:World}{B:Nat}{a0 a1 a2 a3 a4 b0 b1 b2 b3 b4:Value}(h:w.rowIs B 77 5 (f5 b0 b1 b2 b3 b4)):
 (((((w.setCell ⟨B,0,none⟩ a0).setCell ⟨B,1,none⟩ a1).setCell ⟨B,2,none⟩ a2).setCell ⟨B,3,none⟩ a3).setCell ⟨B,4,none⟩ a4).rowIs B 77 5 (f5 a0 a1 a2 a3 a4)/\Un (fun b=>b=B) w (((((w.setCell ⟨B,0,none⟩ a0).setCell ⟨B,1,none⟩ a1).setCell ⟨B,2,none⟩ a2).setCell ⟨B,3,none⟩ a3).setCell ⟨B,4,none⟩ a4):=by
 refine⟨(((((h.set 0 a0).set 1 a1).set 2 a2).set 3 a3).set 4 a4).congr (fun j hj=>?_),(((((Un.refl _ _).setCell rF _).setCell rF _).setCell rF _).setCell rF _).setCell rF _⟩;have hj':j<5:=hj;obtain rfl|rfl|rfl|rfl|rfl:j=0\/j=1\/j=2\/j=3\/j=4:=oM
 all_goals rfl
def K8(c:Cd)(G P:List (List Int)):Int:=if DU c G P=true then 0 else 170
def US(c:Cd)(l:List Hd)(G P:List (List Int)):List Hd:=if DU c G P=true then(Eo c l G P).slots else l
def XY(c:Cd)(l:List Hd)(G P:List (List Int)):List (List Int):=if DU c G P=true then Gg c (Eo c l G P)else []
theorem same_J{c d:Cd}(h:I5 c d){l:List Hd}{G P:List (List Int)}(hs:GJ c l)(hc:Jx l)(kG:Fl G)(kP:Fl P):K8 d G P=K8 c G P/\US d l G P=US c l G P/\XY d l G P=XY c l G P/\Jx (US c l G P):=by
 unfold K8 US XY;rw[Qb h];by_cases hf:DU c G P=true
 .obtain⟨h1,h2,h3⟩:=h.step l G P hs hc kG kP hf;rw[if_pos hf,if_pos hf,if_pos hf,if_pos hf,if_pos hf];exact⟨rfl,h1,h2,h3⟩
 .rw[if_neg hf,if_neg hf,if_neg hf,if_neg hf];exact⟨rfl,rfl,(by rw[if_neg hf]),hc⟩
theorem MK{T:Nat->Prop}(p0 p1 p2 p3 ps pg pp:Option Addr)(q0 q1 q2 q3 qs qg qp:Nat)(c:Cd)(hc:(At c).1=0)(hk:Bb c)(l:List Hd)(hso:GJ c l)(S0:List Cl)(hS0:S0.map (·.h)=l)(G P:List (List Int))(kG:Fl G)(kP:Fl P)(w:World)(hT:∀b,T b->b<w.heap.size)
 (hv:Dk w (.slice p0 c.sign.length q0) (.slice p1 c.regs.length q1) (.slice p2 c.slots.length q2) (.slice p3 c.list.length q3) c) (hss:AV T w (.slice ps c.slots.length qs) S0) (hgv:LF w (.slice pg G.length qg) G) (hpv:LF w (.slice pp P.length qp) P):
 Calls prog 34 #[.agg #[.slice p0 c.sign.length q0,.slice p1 c.regs.length q1,.slice p2 c.slots.length q2,.slice p3 c.list.length q3,.slice ps c.slots.length qs],.slice pg G.length qg,.slice pp P.length qp] w fun e w'=>∃p5 q5 pu nu qu S',e=.returned (.tuple #[.agg #[.slice p0 c.sign.length q0,.slice p1 c.regs.length q1,.slice p2 c.slots.length q2,.slice p3 c.list.length q3,.slice p5 c.slots.length q5],.slice pu nu qu,.int .i64 (K8 c G P)])/\S'.map (·.h)=US c l G P/\AV T w' (.slice p5 c.slots.length q5) S'/\Gh (fun b=>b<w.heap.size) w' (.slice pu nu qu) (XY c l G P)/\GJ c (US c l G P)/\Below w.heap.size w w':=by
 unfold K8 US XY;by_cases hf:DU c G P=true
 .rw[if_pos hf,if_pos hf,if_pos hf];refine(QT (T:=T) p0 p1 p2 p3 ps pg pp q0 q1 q2 q3 qs qg qp c hc hk l hso S0 hS0 G P kG kP hf w hT hv hss hgv hpv).mono ?_;rintro e w' ⟨p5,q5,pu,nu,qu,rfl,⟨⟨S',k1,k2⟩,k3,k4⟩,k5⟩;exact⟨p5,q5,pu,nu,qu,S',rfl,k1,k2.mono (fun b _ e=>.inl e),k3.mono (fun b _ e=>by omega),k4,k5⟩
 .rw[if_neg hf,if_neg hf,if_neg hf];refine(Uf p0 p1 p2 p3 ps pg pp q0 q1 q2 q3 qs qg qp c (F3 hc).1 hk G P kG kP (by simpa using hf) w hv hgv hpv).mono ?_;rintro e w' ⟨rfl,k5⟩;exact⟨ps,qs,none,0,0,S0,rfl,hS0,hss.below k5,⟨none,0,rfl,.inl rfl⟩,hso,k5⟩
theorem XZ(c:Cd)(f:Fr):(Gg c f).length=c.sign.length:=by simp[Gg]
theorem UG{c:Cd}(hg:By c)(f:Fr):∀l∈Gg c f,l.length<=1048576:=by
 intro l hl;obtain⟨p,hp,rfl⟩:=List.mem_map.1 hl;rw[List.length_map,List.length_range];cases h:c.sign[p]? with
 |none=>exact gI _
 |some q=>
  have hq:=hg.len q (List.mem_of_getElem? h);show OL q<=_;unfold OL DO;split
  .split<;>omega
  .simp
theorem upJ_len{c:Cd}(hg:By c)(l:List Hd)(G P:List (List Int)):(XY c l G P).length<=1048576/\∀x∈XY c l G P,x.length<=1048576:=by
 unfold XY;split
 .exact⟨by rw[XZ];have:=hg.signL;omega,UG hg _⟩
 .exact⟨gI _,fun x hx=>by cases hx⟩
theorem XN{c:Cd}(hg:By c){l:List Hd}(hs:GJ c l):∀h∈l,(∀y∈h.pats,AB y)/\h.pats.length<=4096/\0<=h.whole/\h.whole<=2147483647:=by
 intro h hh;obtain⟨j,hj,rfl⟩:=List.mem_iff_getElem.1 hh;have hj':j<c.slots.length:=by rw[<-hs.len];exact hj
 obtain⟨h1,h2,h3,h4⟩:=hs.ok j hj' hj;exact⟨h2,by rw[h1];exact hg.width _,h3,h4⟩
theorem cl_hd{c:Cd}(hg:By c){l:List Hd}(hs:GJ c l){S:List Cl}(hm:S.map (·.h)=l):∀x∈S,(∀y∈x.h.pats,AB y)/\x.h.pats.length<=4096/\0<=x.h.whole/\x.h.whole<=2147483647:=fun x hx=>XN hg hs x.h (by rw[<-hm];exact List.mem_map.2 ⟨x,hx,rfl⟩)
theorem VP{l:List Hd}{n:Nat}(hn:l.length<=4096)(hl:∀h∈l,h.pats.length<=4096):(Hb l n).length<=1048576/\∀x∈Hb l n,x.length<=1048576:=by
 unfold Hb;refine⟨by simp only[List.length_map,List.length_take];omega,fun x hx=>?_⟩;obtain⟨h,hh,rfl⟩:=List.mem_map.1 hx;have:=hl h (List.mem_of_mem_take hh);simp only[List.length_append,List.length_singleton];omega
def StV(w:World)(s:St):Prop:=LF w s.gv s.G/\LF w s.pv s.P/\Fl s.G/\Fl s.P
theorem StV.below{w w':World}{s:St}(h:StV w s)(k:Below w.heap.size w w'):StV w' s:=⟨h.1.below k,h.2.1.below k,h.2.2.1,h.2.2.2⟩
theorem UF{w:World}{XB YB:Nat}{a0 a1 a2 a3 a4 b0 b1 b2 b3 b4:Value}(hx:w.rowIs XB 77 5 (f5 a0 a1 a2 a3 a4))(hy:w.rowIs YB 77 5 (f5 b0 b1 b2 b3 b4)):(w.cell? ⟨XB,0,none⟩=some a0/\w.cell? ⟨XB,1,none⟩=some a1/\w.cell? ⟨XB,2,none⟩=some a2/\w.cell? ⟨XB,3,none⟩=some a3/\w.cell? ⟨XB,4,none⟩=some a4)/\(w.cell? ⟨YB,0,none⟩=some b0/\w.cell? ⟨YB,1,none⟩=some b1/\w.cell? ⟨YB,2,none⟩=some b2/\w.cell? ⟨YB,3,none⟩=some b3/\w.cell? ⟨YB,4,none⟩=some b4):=
 ⟨⟨hx.cell (i:=0) dE,hx.cell (i:=1) dE,hx.cell (i:=2) dE,hx.cell (i:=3) dE,hx.cell (i:=4) dE⟩,⟨hy.cell (i:=0) dE,hy.cell (i:=1) dE,hy.cell (i:=2) dE,hy.cell (i:=3) dE,hy.cell (i:=4) dE⟩⟩
theorem OJ(v0 v1 v2 v3 u0 u1 u2 u3 v4:Value)(c d:Cd)(hkc:Bb c)(hkd:Bb d)(hc:(At c).1=0)(hd:(At d).1=0)(hsm:I5 c d)(l:List St)(hl:l.length<=140737488351232)(n:Nat)(hn:n<=c.slots.length)(w:World)(hv:Dk w v0 v1 v2 v3 c)(hu:Dk w u0 u1 u2 u3 d)(hr:AZ 2 stC w v4 l)(hs:∀s∈l,StV w s):
 Calls prog 16 #[.agg #[v0,v1,v2,v3],.agg #[u0,u1,u2,u3],v4,.int .i64 (n:Int)] w fun e w'=>e=.returned (.bool true)/\Below w.heap.size w w':=by
 obtain⟨hg,-⟩:=F3 hc;have KA:=A8 (fun(v:World) (h:Below w.heap.size w v)=>Js v0 v1 v2 v3 c hkc v (hv.below h) hc);have KB:=A8 (fun(v:World) (h:Below w.heap.size w v)=>Js u0 u1 u2 u3 d hkd v (hu.below h) hd);have HG:=A8 (And.intro hg (And.intro (And.intro hc hkc) (And.intro hd (And.intro hkd hsm))));have HS:=A8 hs;obtain⟨p0,q0,rfl⟩:∃p q,v0=.slice p c.sign.length q:=by obtain⟨p,q,e,_⟩:=hv.sign;exact⟨p,q,e⟩
 obtain⟨p1,q1,rfl⟩:∃p q,v1=.slice p c.regs.length q:=by obtain⟨p,q,e,_⟩:=hv.regs;exact⟨p,q,e⟩
 obtain⟨p2,q2,rfl⟩:∃p q,v2=.slice p c.slots.length q:=by obtain⟨p,q,e,_⟩:=hv.slots;exact⟨p,q,e⟩
 obtain⟨p3,q3,rfl⟩:∃p q,v3=.slice p c.list.length q:=by obtain⟨p,q,e,_⟩:=hv.list;exact⟨p,q,e⟩
 obtain⟨r0,s0,rfl⟩:∃p q,u0=.slice p d.sign.length q:=by obtain⟨p,q,e,_⟩:=hu.sign;exact⟨p,q,e⟩
 obtain⟨r1,s1,rfl⟩:∃p q,u1=.slice p d.regs.length q:=by obtain⟨p,q,e,_⟩:=hu.regs;exact⟨p,q,e⟩
 obtain⟨r2,s2,rfl⟩:∃p q,u2=.slice p d.slots.length q:=by obtain⟨p,q,e,_⟩:=hu.slots;exact⟨p,q,e⟩
 obtain⟨r3,s3,rfl⟩:∃p q,u3=.slice p d.list.length q:=by obtain⟨p,q,e,_⟩:=hu.list;exact⟨p,q,e⟩
 obtain⟨p4,q4,rfl,hrow⟩:=hr;have HROW:=A8 hrow;have HVV:=A8 (And.intro hv hu);have HNS:=A8 hn;obtain⟨N4,hN4⟩:∃N,l.length=N:=⟨_,rfl⟩
 have HN4:=A8 hN4;rw[hN4]at hl |-;obtain⟨W0,hW0⟩:=gA ((w.alloc (.cells #[.slice p0 c.sign.length q0,.slice p1 c.regs.length q1,.slice p2 c.slots.length q2,.slice p3 c.list.length q3] 27)).alloc (.cells #[.slice r0 d.sign.length s0,.slice r1 d.regs.length s1,.slice r2 d.slots.length s2,.slice r3 d.list.length s3] 27))
 have HB0:Hid (Below w.heap.size w W0):=by rw[<-hW0];exact bel (A0 _ _) (A0 _ _)
 have HS0:Hid (W0.heap.size=w.heap.size+1+1):=by rw[<-hW0];show _=_;simp
 have k0:W0.cell? ⟨w.heap.size,0,none⟩=some (.slice p0 c.sign.length q0):=by rw[<-hW0];simp[go_sem]
 have k1:W0.cell? ⟨w.heap.size,1,none⟩=some (.slice p1 c.regs.length q1):=by rw[<-hW0];simp[go_sem]
 have k2:W0.cell? ⟨w.heap.size,2,none⟩=some (.slice p2 c.slots.length q2):=by rw[<-hW0];simp[go_sem]
 have k3:W0.cell? ⟨w.heap.size,3,none⟩=some (.slice p3 c.list.length q3):=by rw[<-hW0];simp[go_sem]
 have m0:W0.cell? ⟨w.heap.size+1,0,none⟩=some (.slice r0 d.sign.length s0):=by rw[<-hW0];simp[go_sem]
 have m1:W0.cell? ⟨w.heap.size+1,1,none⟩=some (.slice r1 d.regs.length s1):=by rw[<-hW0];simp[go_sem]
 have m2:W0.cell? ⟨w.heap.size+1,2,none⟩=some (.slice r2 d.slots.length s2):=by rw[<-hW0];simp[go_sem]
 have m3:W0.cell? ⟨w.heap.size+1,3,none⟩=some (.slice r3 d.list.length s3):=by rw[<-hW0];simp[go_sem]
 clear hv hu hkc hkd hs hrow hg hc hd hsm hN4 hn;go_enter func16,ntmps16;go_upto_region 1 with fail;try rw[hW0]
 clear hW0;go_upto_block 0 with(first
  |(go_at_call 33;(with_reducible refine(KA.out _ HB0.out).mono ?_);rintro e w1 ⟨px,qx,SX,rfl,hmx,hcx,hb1,hlx,hlxx⟩;have HCX:=A8 (And.intro hmx (And.intro hcx (And.intro hlx hlxx)));have HB1:=A8 hb1;have n0:=(fun o=>kc (bel hb1 (A0 _ o)) m0);have n1:=(fun o=>kc (bel hb1 (A0 _ o)) m1);have n2:=(fun o=>kc (bel hb1 (A0 _ o)) m2);have n3:=(fun o=>kc (bel hb1 (A0 _ o)) m3);clear hmx hcx hb1 hlx hlxx k0 k1 k2 k3)
  |(go_at_call 33;(with_reducible refine(KB.out _ (bel HB0.out (bel HB1.out (A0 _ _)))).mono ?_);rintro e w2 ⟨py,qy,SY,rfl,hmy,hcy,hb2,hly,hlyy⟩;have HCY:=A8 (And.intro hmy (And.intro hcy (And.intro hly hlyy)));have HB2:=A8 hb2;clear hmy hcy hb2 hly hlyy))
 obtain⟨W1,hW1⟩:∃W,w1.alloc (.cells #[.slice p0 c.sign.length q0,.slice p1 c.regs.length q1,.slice p2 c.slots.length q2,.slice p3 c.list.length q3,.slice px c.slots.length qx] 77)=W:=⟨_,rfl⟩
 have HX1:Hid (Below w1.heap.size w1 W1/\W1.heap.size=w1.heap.size+1/\W1.rowIs w1.heap.size 77 5 (f5 (.slice p0 c.sign.length q0) (.slice p1 c.regs.length q1) (.slice p2 c.slots.length q2) (.slice p3 c.list.length q3) (.slice px c.slots.length qx))):=by rw[<-hW1];exact⟨A0 _ _,sM,World.rowIs_alloc w1 _ _ _ (Fp _ _ _ _ _)⟩
 rw[hW1]at HB2 HCY;obtain⟨W2,hW2⟩:∃W,w2.alloc (.cells #[.slice r0 d.sign.length s0,.slice r1 d.regs.length s1,.slice r2 d.slots.length s2,.slice r3 d.list.length s3,.slice py d.slots.length qy] 77)=W:=⟨_,rfl⟩
 have HX2:Hid (Below w2.heap.size w2 W2/\W2.heap.size=w2.heap.size+1/\W2.rowIs w2.heap.size 77 5 (f5 (.slice r0 d.sign.length s0) (.slice r1 d.regs.length s1) (.slice r2 d.slots.length s2) (.slice r3 d.list.length s3) (.slice py d.slots.length qy))):=by rw[<-hW2];exact⟨A0 _ _,sM,World.rowIs_alloc w2 _ _ _ (Fp _ _ _ _ _)⟩
 try rw[hW2]
 clear hW1 hW2 m0 m1 m2 m3 n0 n1 n2 n3;obtain⟨XB,hXB⟩:∃x,w1.heap.size=x:=⟨_,rfl⟩
 obtain⟨YB,hYB⟩:∃x,w2.heap.size=x:=⟨_,rfl⟩
 have HNUM:Hid (w.heap.size<XB/\XB<YB/\YB<W2.heap.size/\W1.heap.size=XB+1/\W1.heap.size<=YB):=by
  have e0:=HS0.out;have e1:=HB1.size;have e2:=HX1.2.1;have e3:=HB2.size;have e4:=HX2.2.1;refine⟨?_,?_,?_,?_,?_⟩<;>omega
 have HW2:Hid (Below w.heap.size w W2):=bel HB0.out (bel HB1.out (bel HX1.1 (bel HB2.out HX2.1)));have HI:Hid (∃hs S S' px qx py qy,AV (fun b=>b=XB\/b=YB) W2 (.slice px c.slots.length qx) S/\S.map (·.h)=hs/\AV (fun b=>b=XB\/b=YB) W2 (.slice py d.slots.length qy) S'/\S'.map (·.h)=hs/\GJ c hs/\Jx hs/\World.rowIs W2 XB 77 5 (f5 (.slice p0 c.sign.length q0) (.slice p1 c.regs.length q1) (.slice p2 c.slots.length q2) (.slice p3 c.list.length q3) (.slice px c.slots.length qx))/\World.rowIs W2 YB 77 5 (f5 (.slice r0 d.sign.length s0) (.slice r1 d.regs.length s1) (.slice r2 d.slots.length s2) (.slice r3 d.list.length s3) (.slice py d.slots.length qy))/\Un (fun b=>b=XB\/b=YB) W2 W2):=by
  obtain⟨f1,f2,f3,f4,f5⟩:=HNUM.out;obtain⟨i1,i2,i3,i4⟩:=HCX.out;obtain⟨j1,j2,j3,j4⟩:=HCY.out;have hss:=Pg HG.2.2.2.2;refine⟨Co c,SX,SY,px,qx,py,qy,?_,i1,?_,j1.trans hss,Uw HG.1 HG.2.1.2,Uz c,?_,?_,Un.refl _ _⟩
  .refine AV.below (AV.mono (U:=(fun b=>b=XB\/b=YB)) (Vj (T:=fun b=>b<W0.heap.size) i2 i3 i4 (fun b e=>e)) (fun b hb e=>?_)) (bel HX1.1 (bel HB2.out HX2.1));rcases e with e|e<;>omega
  .refine AV.below (AV.mono (U:=(fun b=>b=XB\/b=YB)) (Vj (T:=fun b=>b<W1.heap.size) j2 j3 j4 (fun b e=>e)) (fun b hb e=>?_)) HX2.1;rcases e with e|e<;>omega
  .rw[<-hXB];exact HX1.2.2.of_block ((bel HB2.out HX2.1).block _ HX1.2.2.lt)
  .rw[<-hYB];exact HX2.2.2
 rw[hXB,hYB];clear HCX HCY HX1 HX2 HB1 HB2 KA KB hXB hYB;go_wp2_with fail
 go_loopw [13] (fun iv wr=>∃j:Nat,j<=N4/\j<=20/\iv=.int .i64 (j:Int)/\Hid (∃hs S S' px qx py qy,AV (fun b=>b=XB\/b=YB) wr (.slice px c.slots.length qx) S/\S.map (·.h)=hs/\AV (fun b=>b=XB\/b=YB) wr (.slice py d.slots.length qy) S'/\S'.map (·.h)=hs/\GJ c hs/\Jx hs/\World.rowIs wr XB 77 5 (f5 (.slice p0 c.sign.length q0) (.slice p1 c.regs.length q1) (.slice p2 c.slots.length q2) (.slice p3 c.list.length q3) (.slice px c.slots.length qx))/\World.rowIs wr YB 77 5 (f5 (.slice r0 d.sign.length s0) (.slice r1 d.regs.length s1) (.slice r2 d.slots.length s2) (.slice r3 d.list.length s3) (.slice py d.slots.length qy))/\Un (fun b=>b=XB\/b=YB) W2 wr)) (fun iv _=>20-(intOf iv).toNat)
 case atStart=>exact⟨0,gI _,dE,rfl,HI.out⟩
 case round=>
  clear HI;obtain⟨j,hj,hj20,rfl,HR⟩:=hrel;obtain⟨hs,S,S',px,qx,py,qy,hcx,hmx,hcy,hmy,hsl,hcan,hbx,hby,hun⟩:=HR.out;have hbW:Below w.heap.size w wr:=HW2.trans (hun.below (by have:=HNUM.out;omega) (fun b e=>by have:=HNUM.out;rcases e with e|e<;>omega));have HEND:=A8 hbW;by_cases hlt:j<N4
  .by_cases h20:j<20
   .have hjl:j<l.length:=by rw[HN4.out];exact hlt
    obtain⟨lb,lo,hp4,hcj⟩:∃lb lo,p4=some ⟨lb,lo,none⟩/\Aw w lb (lo+j*2) (stC l[j]):=by
     rcases HROW.out with e|⟨b,o,hp,hc⟩
     .rw[e]at hjl;cases hjl
     .exact⟨b,o,hp,hc j hjl⟩
    subst hp4;have hst:=HS.out l[j] (gD hjl);obtain⟨s,hs9⟩:=gA (l[j])
    rw[hs9]at hcj hst;obtain⟨gv,pv,G,P⟩:=s;obtain⟨g1,g2,g3,g4⟩:=hst;simp only at g1 g2 g3 g4;obtain⟨pg,qg,rfl⟩:∃p q,gv=.slice p G.length q:=by obtain⟨p,q,e,_⟩:=g1;exact⟨p,q,e⟩
    obtain⟨pp,qp,rfl⟩:∃p q,pv=.slice p P.length q:=by obtain⟨p,q,e,_⟩:=g2;exact⟨p,q,e⟩
    have y0:wr.cell? ⟨lb,lo+j*2,none⟩=some (.slice pg G.length qg):=kc hbW (hcj.at 0 rfl);have y1:wr.cell? ⟨lb,lo+j*2+1,none⟩=some (.slice pp P.length qp):=kc hbW (hcj.at 1 rfl);have hlb:lb<w.heap.size:=A6 (hcj.at 0 rfl);obtain⟨hg,⟨hc,hkc⟩,hd,hkd,hsm⟩:=HG.out;obtain⟨eE,eS,eU,eC⟩:=same_J hsm hsl hcan g3 g4;have hwr:W2.heap.size<=wr.heap.size:=hun.size;have hTlt:∀b,(b=XB\/b=YB)->b<wr.heap.size:=fun b e=>by have:=HNUM.out;rcases e with e|e<;>omega
    have KX:Hid (∀ (v:World) (N:Nat->Prop),Below wr.heap.size wr v->(∀b,N b->wr.heap.size<=b/\b<v.heap.size)->Calls prog 34 #[.agg #[.slice p0 c.sign.length q0,.slice p1 c.regs.length q1,.slice p2 c.slots.length q2,.slice p3 c.list.length q3,.slice px c.slots.length qx],.slice pg G.length qg,.slice pp P.length qp] v fun e w'=>∃p5 q5 pu nu qu S5,e=.returned (.tuple #[.agg #[.slice p0 c.sign.length q0,.slice p1 c.regs.length q1,.slice p2 c.slots.length q2,.slice p3 c.list.length q3,.slice p5 c.slots.length q5],.slice pu nu qu,.int .i64 (K8 c G P)])/\S5.map (·.h)=US c hs G P/\AV (fun b=>(b=XB\/b=YB)\/N b) w' (.slice p5 c.slots.length q5) S5/\Gh (fun b=>b<v.heap.size) w' (.slice pu nu qu) (XY c hs G P)/\GJ c (US c hs G P)/\Below v.heap.size v w'):=fun v N hb hN=>
     MK (T:=fun b=>(b=XB\/b=YB)\/N b) p0 p1 p2 p3 px pg pp q0 q1 q2 q3 qx qg qp c hc hkc hs hsl S hmx G P g3 g4 v (fun b e=>e.elim (fun e=>Nat.lt_of_lt_of_le (hTlt b e) hb.size) (fun e=>(hN b e).2)) ((HVV.1.below hbW).below hb) ((hcx.mono (fun b hb5 e=>e.elim id (fun e=>by have:=(hN b e).1;omega))).below hb) ((g1.below hbW).below hb) ((g2.below hbW).below hb)
    have KY:Hid (∀ (v:World) (N:Nat->Prop),Below wr.heap.size wr v->(∀b,N b->wr.heap.size<=b/\b<v.heap.size)->Calls prog 34 #[.agg #[.slice r0 d.sign.length s0,.slice r1 d.regs.length s1,.slice r2 d.slots.length s2,.slice r3 d.list.length s3,.slice py d.slots.length qy],.slice pg G.length qg,.slice pp P.length qp] v fun e w'=>∃p5 q5 pu nu qu S5,e=.returned (.tuple #[.agg #[.slice r0 d.sign.length s0,.slice r1 d.regs.length s1,.slice r2 d.slots.length s2,.slice r3 d.list.length s3,.slice p5 d.slots.length q5],.slice pu nu qu,.int .i64 (K8 c G P)])/\S5.map (·.h)=US c hs G P/\AV (fun b=>(b=XB\/b=YB)\/N b) w' (.slice p5 d.slots.length q5) S5/\Gh (fun b=>b<v.heap.size) w' (.slice pu nu qu) (XY c hs G P)/\GJ c (US c hs G P)/\Below v.heap.size v w'):=fun v N hb hN=>by
     have h9:=MK (T:=fun b=>(b=XB\/b=YB)\/N b) r0 r1 r2 r3 py pg pp s0 s1 s2 s3 qy qg qp d hd hkd hs (hsl.same hsm) S' hmy G P g3 g4 v (fun b e=>e.elim (fun e=>Nat.lt_of_lt_of_le (hTlt b e) hb.size) (fun e=>(hN b e).2)) ((HVV.2.below hbW).below hb) ((hcy.mono (fun b hb5 e=>e.elim id (fun e=>by have:=(hN b e).1;omega))).below hb) ((g1.below hbW).below hb) ((g2.below hbW).below hb);rw[eE,eS,eU]at h9;refine h9.mono ?_;rintro e w' ⟨p5,q5,pu,nu,qu,S5,k0,k1,k2,k3,k4,k5⟩;exact⟨p5,q5,pu,nu,qu,S5,k0,k1,k2,k3,XO hsm k4,k5⟩
    have HL:=A8 (upJ_len hg hs G P);have hE9:K8 c G P=0\/K8 c G P=170:=by unfold K8;split<;>simp
    obtain⟨E,hE⟩:=gA (K8 c G P)
    obtain⟨hs2,hhs2⟩:∃x,US c hs G P=x:=⟨_,rfl⟩
    obtain⟨L,hL⟩:∃x,XY c hs G P=x:=⟨_,rfl⟩
    rw[hE,hhs2,hL]at KX KY;rw[hL]at HL;rw[hhs2]at eC;rw[hE]at hE9;have HCAN:=A8 eC;have HUN:=A8 hun;have HXW:=A8 (And.intro hbx hby);have HLT:Hid (lb<w.heap.size/\XB<wr.heap.size/\YB<wr.heap.size/\w.heap.size<XB/\XB<YB/\w.heap.size<=wr.heap.size):=⟨hlb,hTlt _ (.inl rfl),hTlt _ (.inr rfl),HNUM.1,HNUM.2.1,hbW.size⟩
    have HE9:=A8 hE9;have j1:(0:Int)<=(j:Int):=oM;have j2:(j:Int)<(N4:Int):=oM;have j3:(j:Int)<20:=oM;have wi:IntKind.i64.wrap ((j:Int)+1)=((j+1:Nat):Int):=by rw[IntKind.wrap_i64];omega
    clear hg hc hkc hd hkd hsm hcx hmx hcy hmy hsl hcan hbx hby hun hbW g1 g2 g3 g4 hcj hs9 hlb hTlt hwr eE eS eU eC hE hhs2 hL hE9 HR;go_upto_region 8 with fail;go_cut [14,15,16] (fun nv uv ev wz=>∃NB p5 q5 pu nu qu S5,nv=.pointer (some ⟨NB,0,none⟩)/\uv=.slice pu nu qu/\ev=.int .i64 E/\Hid (wz.rowIs NB 77 5 (f5 (.slice p0 c.sign.length q0) (.slice p1 c.regs.length q1) (.slice p2 c.slots.length q2) (.slice p3 c.list.length q3) (.slice p5 c.slots.length q5))/\wr.heap.size<=NB/\S5.map (·.h)=hs2/\AV (fun b=>b=XB\/b=YB) wz (.slice p5 c.slots.length q5) S5/\Gh (fun b=>b<wr.heap.size) wz (.slice pu nu qu) L/\GJ c hs2/\Below wr.heap.size wr wz))
    case first=>
     have hdb:=(HXW.1.of_block ((BT wr).block XB HLT.2.1))
     have d0:wr.cell? ⟨XB,0,none⟩=some (.slice p0 c.sign.length q0):=hdb.cell (i:=0) dE;have d1:wr.cell? ⟨XB,1,none⟩=some (.slice p1 c.regs.length q1):=hdb.cell (i:=1) dE;have d2:wr.cell? ⟨XB,2,none⟩=some (.slice p2 c.slots.length q2):=hdb.cell (i:=2) dE;have d3:wr.cell? ⟨XB,3,none⟩=some (.slice p3 c.list.length q3):=hdb.cell (i:=3) dE;have d4:wr.cell? ⟨XB,4,none⟩=some (.slice px c.slots.length qx):=hdb.cell (i:=4) dE;have t0:=y0;have t1:=y1;clear hdb y0 y1;have z1:=(fun o=>kc (A0 wr o) t0)
     have z2:=(fun o=>kc (A0 wr o) t1)
     have z3:=(fun o=>kc (A0 wr o) d0)
     have z4:=(fun o=>kc (A0 wr o) d1)
     have z5:=(fun o=>kc (A0 wr o) d2)
     have z6:=(fun o=>kc (A0 wr o) d3)
     have z7:=(fun o=>kc (A0 wr o) d4)
     refine rG (fun v=>v.cell? ⟨lb,lo+j*2,none⟩=some (.slice pg G.length qg)/\v.cell? ⟨lb,lo+j*2+1,none⟩=some (.slice pp P.length qp)/\v.cell? ⟨XB,0,none⟩=some (.slice p0 c.sign.length q0)/\v.cell? ⟨XB,1,none⟩=some (.slice p1 c.regs.length q1)/\v.cell? ⟨XB,2,none⟩=some (.slice p2 c.slots.length q2)/\v.cell? ⟨XB,3,none⟩=some (.slice p3 c.list.length q3)/\v.cell? ⟨XB,4,none⟩=some (.slice px c.slots.length qx)) fun yH=>?_;refine Tf 0 1 2 3 4 5 ?_;refine Tc 6 7 8 ?_;refine Tb 9 10 ?_;clear yH;refine wpAnyH_ready (rs:=[11,16]) kR sM ?_;refine Hi 11 (fun K hK=>?_) ?_
     .go_simp;(go_at_call 34;(first|(with_reducible refine(KX.out wr.drew (fun _=>False) (bel (BT wr) (A7 _)) (fun b e=>e.elim)).mono ?_)|(with_reducible refine(KX.out _ (fun b=>b=wr.heap.size) (bel (BT wr) (bel (A0 _ _) (A7 _))) (fun b e=>by subst e;exact⟨gF _,sM⟩)).mono ?_));rintro e w6 ⟨p5,q5,pu,nu,qu,S5,rfl,k1,k2,k3,k4,k5⟩;have HK6:=A8 (And.intro k1 (And.intro k2 (And.intro k3 k4)));have HB6:Hid (Below wr.heap.size wr w6):=Zft;(try(have HNB:=A8 ((World.rowIs_alloc wr #[.slice none 0 0,.slice none 0 0,.slice none 0 0,.slice none 0 0,.slice none 0 0] 77 _ (Fp _ _ _ _ _)).of_block (k5.block wr.heap.size sM))));(try(have n0:w6.cell? ⟨wr.heap.size,0,none⟩=some (.slice none 0 0):=HNB.out.cell (i:=0) dE;have n1:w6.cell? ⟨wr.heap.size,1,none⟩=some (.slice none 0 0):=HNB.out.cell (i:=1) dE;have n2:w6.cell? ⟨wr.heap.size,2,none⟩=some (.slice none 0 0):=HNB.out.cell (i:=2) dE;have n3:w6.cell? ⟨wr.heap.size,3,none⟩=some (.slice none 0 0):=HNB.out.cell (i:=3) dE;have n4:w6.cell? ⟨wr.heap.size,4,none⟩=some (.slice none 0 0):=HNB.out.cell (i:=4) dE;have o0:=HNB.out.frozen 0;have o1:=HNB.out.frozen 1;have o2:=HNB.out.frozen 2;have o3:=HNB.out.frozen 3;have o4:=HNB.out.frozen 4));have ct0:=kc HB6.out t0;have et0:=(fun o=>kc (A0 w6 o) ct0);have st0:=Ax ct0 Zgj;have ct1:=kc HB6.out t1;have et1:=(fun o=>kc (A0 w6 o) ct1);have st1:=Ax ct1 Zgj;have cd0:=kc HB6.out d0;have ed0:=(fun o=>kc (A0 w6 o) cd0);have sd0:=Ax cd0 Yb;have cd1:=kc HB6.out d1;have ed1:=(fun o=>kc (A0 w6 o) cd1);have sd1:=Ax cd1 Yb;have cd2:=kc HB6.out d2;have ed2:=(fun o=>kc (A0 w6 o) cd2);have sd2:=Ax cd2 Yb;have cd3:=kc HB6.out d3;have ed3:=(fun o=>kc (A0 w6 o) cd3);have sd3:=Ax cd3 Yb;have cd4:=kc HB6.out d4;have ed4:=(fun o=>kc (A0 w6 o) cd4);have sd4:=Ax cd4 Yb;clear k1 k2 k3 k4 k5);try(go_wp2_with fail)
      refine AF hK fun yH=>?_;clear hK K;refine Tc 12 13 14 ?_;refine BU 15 ?_;clear yH;refine AJ 16 fun K hK=>?_;go_simp;refine AF hK fun yH=>?_;clear hK K;exact Zbf
     refine Hi 16 (fun K hK=>?_) AllReadyH.nil;go_simp;refine AF hK fun yH=>?_;clear hK K;clear yH;refine AJ 11 fun K hK=>?_;go_simp;(go_at_call 34;(first|(with_reducible refine(KX.out wr.drew (fun _=>False) (bel (BT wr) (A7 _)) (fun b e=>e.elim)).mono ?_)|(with_reducible refine(KX.out _ (fun b=>b=wr.heap.size) (bel (BT wr) (bel (A0 _ _) (A7 _))) (fun b e=>by subst e;exact⟨gF _,sM⟩)).mono ?_));rintro e w6 ⟨p5,q5,pu,nu,qu,S5,rfl,k1,k2,k3,k4,k5⟩;have HK6:=A8 (And.intro k1 (And.intro k2 (And.intro k3 k4)));have HB6:Hid (Below wr.heap.size wr w6):=Zft;(try(have HNB:=A8 ((World.rowIs_alloc wr #[.slice none 0 0,.slice none 0 0,.slice none 0 0,.slice none 0 0,.slice none 0 0] 77 _ (Fp _ _ _ _ _)).of_block (k5.block wr.heap.size sM))));(try(have n0:w6.cell? ⟨wr.heap.size,0,none⟩=some (.slice none 0 0):=HNB.out.cell (i:=0) dE;have n1:w6.cell? ⟨wr.heap.size,1,none⟩=some (.slice none 0 0):=HNB.out.cell (i:=1) dE;have n2:w6.cell? ⟨wr.heap.size,2,none⟩=some (.slice none 0 0):=HNB.out.cell (i:=2) dE;have n3:w6.cell? ⟨wr.heap.size,3,none⟩=some (.slice none 0 0):=HNB.out.cell (i:=3) dE;have n4:w6.cell? ⟨wr.heap.size,4,none⟩=some (.slice none 0 0):=HNB.out.cell (i:=4) dE;have o0:=HNB.out.frozen 0;have o1:=HNB.out.frozen 1;have o2:=HNB.out.frozen 2;have o3:=HNB.out.frozen 3;have o4:=HNB.out.frozen 4));have ct0:=kc HB6.out t0;have et0:=(fun o=>kc (A0 w6 o) ct0);have st0:=Ax ct0 Zgj;have ct1:=kc HB6.out t1;have et1:=(fun o=>kc (A0 w6 o) ct1);have st1:=Ax ct1 Zgj;have cd0:=kc HB6.out d0;have ed0:=(fun o=>kc (A0 w6 o) cd0);have sd0:=Ax cd0 Yb;have cd1:=kc HB6.out d1;have ed1:=(fun o=>kc (A0 w6 o) cd1);have sd1:=Ax cd1 Yb;have cd2:=kc HB6.out d2;have ed2:=(fun o=>kc (A0 w6 o) cd2);have sd2:=Ax cd2 Yb;have cd3:=kc HB6.out d3;have ed3:=(fun o=>kc (A0 w6 o) cd3);have sd3:=Ax cd3 Yb;have cd4:=kc HB6.out d4;have ed4:=(fun o=>kc (A0 w6 o) cd4);have sd4:=Ax cd4 Yb;clear k1 k2 k3 k4 k5);try(go_wp2_with fail)
     refine AF hK fun yH=>?_;clear hK K;refine Tc 12 13 14 ?_;refine BU 15 ?_;exact Zbf
    case rest=>
    obtain⟨NX,pn,qn,pa,na,qa,SN,rfl,rfl,rfl,HC6⟩:=hcut;rename World=>wx;have HBX:Hid (Below wr.heap.size wr wx):=HC6.2.2.2.2.2.2;go_upto_region 9 with fail;go_cut [17,18,19] (fun nv uv ev wz=>∃NB p5 q5 pu nu qu S5,nv=.pointer (some ⟨NB,0,none⟩)/\uv=.slice pu nu qu/\ev=.int .i64 E/\Hid (wz.rowIs NB 77 5 (f5 (.slice r0 d.sign.length s0) (.slice r1 d.regs.length s1) (.slice r2 d.slots.length s2) (.slice r3 d.list.length s3) (.slice p5 d.slots.length q5))/\wx.heap.size<=NB/\S5.map (·.h)=hs2/\AV (fun b=>b=XB\/b=YB) wz (.slice p5 d.slots.length q5) S5/\Gh (fun b=>b<wx.heap.size) wz (.slice pu nu qu) L/\GJ c hs2/\Below wx.heap.size wx wz))
    case first=>
     have hdb:=(HXW.2.of_block (HBX.block YB HLT.2.2.1))
     have d0:wx.cell? ⟨YB,0,none⟩=some (.slice r0 d.sign.length s0):=hdb.cell (i:=0) dE;have d1:wx.cell? ⟨YB,1,none⟩=some (.slice r1 d.regs.length s1):=hdb.cell (i:=1) dE;have d2:wx.cell? ⟨YB,2,none⟩=some (.slice r2 d.slots.length s2):=hdb.cell (i:=2) dE;have d3:wx.cell? ⟨YB,3,none⟩=some (.slice r3 d.list.length s3):=hdb.cell (i:=3) dE;have d4:wx.cell? ⟨YB,4,none⟩=some (.slice py d.slots.length qy):=hdb.cell (i:=4) dE;have t0:=kc HBX.out y0;have t1:=kc HBX.out y1;clear hdb y0 y1;have z1:=(fun o=>kc (A0 wx o) t0)
     have z2:=(fun o=>kc (A0 wx o) t1)
     have z3:=(fun o=>kc (A0 wx o) d0)
     have z4:=(fun o=>kc (A0 wx o) d1)
     have z5:=(fun o=>kc (A0 wx o) d2)
     have z6:=(fun o=>kc (A0 wx o) d3)
     have z7:=(fun o=>kc (A0 wx o) d4)
     refine rG (fun v=>v.cell? ⟨lb,lo+j*2,none⟩=some (.slice pg G.length qg)/\v.cell? ⟨lb,lo+j*2+1,none⟩=some (.slice pp P.length qp)/\v.cell? ⟨YB,0,none⟩=some (.slice r0 d.sign.length s0)/\v.cell? ⟨YB,1,none⟩=some (.slice r1 d.regs.length s1)/\v.cell? ⟨YB,2,none⟩=some (.slice r2 d.slots.length s2)/\v.cell? ⟨YB,3,none⟩=some (.slice r3 d.list.length s3)/\v.cell? ⟨YB,4,none⟩=some (.slice py d.slots.length qy)) fun yH=>?_;refine Tf 0 1 2 3 4 5 ?_;refine Tc 6 7 8 ?_;refine Tb 9 10 ?_;clear yH;refine wpAnyH_ready (rs:=[11,16]) kR sM ?_;refine Hi 11 (fun K hK=>?_) ?_
     .go_simp;(go_at_call 34;(first|(with_reducible refine(KY.out wx.drew (fun _=>False) (bel HBX.out (A7 _)) (fun b e=>e.elim)).mono ?_)|(with_reducible refine(KY.out _ (fun b=>b=wx.heap.size) (bel HBX.out (bel (A0 _ _) (A7 _))) (fun b e=>by subst e;exact⟨HBX.out.size,sM⟩)).mono ?_));rintro e w6 ⟨p5,q5,pu,nu,qu,S5,rfl,k1,k2,k3,k4,k5⟩;have HK6:=A8 (And.intro k1 (And.intro k2 (And.intro k3 k4)));have HB6:Hid (Below wx.heap.size wx w6):=Zft;(try(have HNB:=A8 ((World.rowIs_alloc wx #[.slice none 0 0,.slice none 0 0,.slice none 0 0,.slice none 0 0,.slice none 0 0] 77 _ (Fp _ _ _ _ _)).of_block (k5.block wx.heap.size sM))));(try(have n0:w6.cell? ⟨wx.heap.size,0,none⟩=some (.slice none 0 0):=HNB.out.cell (i:=0) dE;have n1:w6.cell? ⟨wx.heap.size,1,none⟩=some (.slice none 0 0):=HNB.out.cell (i:=1) dE;have n2:w6.cell? ⟨wx.heap.size,2,none⟩=some (.slice none 0 0):=HNB.out.cell (i:=2) dE;have n3:w6.cell? ⟨wx.heap.size,3,none⟩=some (.slice none 0 0):=HNB.out.cell (i:=3) dE;have n4:w6.cell? ⟨wx.heap.size,4,none⟩=some (.slice none 0 0):=HNB.out.cell (i:=4) dE;have o0:=HNB.out.frozen 0;have o1:=HNB.out.frozen 1;have o2:=HNB.out.frozen 2;have o3:=HNB.out.frozen 3;have o4:=HNB.out.frozen 4));have ct0:=kc HB6.out t0;have et0:=(fun o=>kc (A0 w6 o) ct0);have st0:=Ax ct0 Zgf;have ct1:=kc HB6.out t1;have et1:=(fun o=>kc (A0 w6 o) ct1);have st1:=Ax ct1 Zgf;have cd0:=kc HB6.out d0;have ed0:=(fun o=>kc (A0 w6 o) cd0);have sd0:=Ax cd0 Ya;have cd1:=kc HB6.out d1;have ed1:=(fun o=>kc (A0 w6 o) cd1);have sd1:=Ax cd1 Ya;have cd2:=kc HB6.out d2;have ed2:=(fun o=>kc (A0 w6 o) cd2);have sd2:=Ax cd2 Ya;have cd3:=kc HB6.out d3;have ed3:=(fun o=>kc (A0 w6 o) cd3);have sd3:=Ax cd3 Ya;have cd4:=kc HB6.out d4;have ed4:=(fun o=>kc (A0 w6 o) cd4);have sd4:=Ax cd4 Ya;clear k1 k2 k3 k4 k5);try(go_wp2_with fail)
      refine AF hK fun yH=>?_;clear hK K;refine Tc 12 13 14 ?_;refine BU 15 ?_;clear yH;refine AJ 16 fun K hK=>?_;go_simp;refine AF hK fun yH=>?_;clear hK K;exact Zbf
     refine Hi 16 (fun K hK=>?_) AllReadyH.nil;go_simp;refine AF hK fun yH=>?_;clear hK K;clear yH;refine AJ 11 fun K hK=>?_;go_simp;(go_at_call 34;(first|(with_reducible refine(KY.out wx.drew (fun _=>False) (bel HBX.out (A7 _)) (fun b e=>e.elim)).mono ?_)|(with_reducible refine(KY.out _ (fun b=>b=wx.heap.size) (bel HBX.out (bel (A0 _ _) (A7 _))) (fun b e=>by subst e;exact⟨HBX.out.size,sM⟩)).mono ?_));rintro e w6 ⟨p5,q5,pu,nu,qu,S5,rfl,k1,k2,k3,k4,k5⟩;have HK6:=A8 (And.intro k1 (And.intro k2 (And.intro k3 k4)));have HB6:Hid (Below wx.heap.size wx w6):=Zft;(try(have HNB:=A8 ((World.rowIs_alloc wx #[.slice none 0 0,.slice none 0 0,.slice none 0 0,.slice none 0 0,.slice none 0 0] 77 _ (Fp _ _ _ _ _)).of_block (k5.block wx.heap.size sM))));(try(have n0:w6.cell? ⟨wx.heap.size,0,none⟩=some (.slice none 0 0):=HNB.out.cell (i:=0) dE;have n1:w6.cell? ⟨wx.heap.size,1,none⟩=some (.slice none 0 0):=HNB.out.cell (i:=1) dE;have n2:w6.cell? ⟨wx.heap.size,2,none⟩=some (.slice none 0 0):=HNB.out.cell (i:=2) dE;have n3:w6.cell? ⟨wx.heap.size,3,none⟩=some (.slice none 0 0):=HNB.out.cell (i:=3) dE;have n4:w6.cell? ⟨wx.heap.size,4,none⟩=some (.slice none 0 0):=HNB.out.cell (i:=4) dE;have o0:=HNB.out.frozen 0;have o1:=HNB.out.frozen 1;have o2:=HNB.out.frozen 2;have o3:=HNB.out.frozen 3;have o4:=HNB.out.frozen 4));have ct0:=kc HB6.out t0;have et0:=(fun o=>kc (A0 w6 o) ct0);have st0:=Ax ct0 Zgf;have ct1:=kc HB6.out t1;have et1:=(fun o=>kc (A0 w6 o) ct1);have st1:=Ax ct1 Zgf;have cd0:=kc HB6.out d0;have ed0:=(fun o=>kc (A0 w6 o) cd0);have sd0:=Ax cd0 Ya;have cd1:=kc HB6.out d1;have ed1:=(fun o=>kc (A0 w6 o) cd1);have sd1:=Ax cd1 Ya;have cd2:=kc HB6.out d2;have ed2:=(fun o=>kc (A0 w6 o) cd2);have sd2:=Ax cd2 Ya;have cd3:=kc HB6.out d3;have ed3:=(fun o=>kc (A0 w6 o) cd3);have sd3:=Ax cd3 Ya;have cd4:=kc HB6.out d4;have ed4:=(fun o=>kc (A0 w6 o) cd4);have sd4:=Ax cd4 Ya;clear k1 k2 k3 k4 k5);try(go_wp2_with fail)
     refine AF hK fun yH=>?_;clear hK K;refine Tc 12 13 14 ?_;refine BU 15 ?_;exact Zbf
    case rest=>
    obtain⟨NY,pm,qm,pb,nb,qb,SM,rfl,rfl,rfl,HC7⟩:=hcut;obtain⟨x1,x2,x3,x4,x5,x6,x7⟩:=HC6.out;obtain⟨z1,z2,z3,z4,z5,z6,z7⟩:=HC7.out;have hbc:Below wr.heap.size wr wc:=bel x7 z7;have hx1:=x1.of_block (z7.block _ x1.lt);have lNX:=hx1.lt;have lNY:=z1.lt;have a0:wc.cell? ⟨NX,0,none⟩=some (.slice p0 c.sign.length q0):=hx1.cell (i:=0) dE;have a1:wc.cell? ⟨NX,1,none⟩=some (.slice p1 c.regs.length q1):=hx1.cell (i:=1) dE;have a2:wc.cell? ⟨NX,2,none⟩=some (.slice p2 c.slots.length q2):=hx1.cell (i:=2) dE;have a3:wc.cell? ⟨NX,3,none⟩=some (.slice p3 c.list.length q3):=hx1.cell (i:=3) dE;have a4:wc.cell? ⟨NX,4,none⟩=some (.slice pn c.slots.length qn):=hx1.cell (i:=4) dE;have b0:wc.cell? ⟨NY,0,none⟩=some (.slice r0 d.sign.length s0):=z1.cell (i:=0) dE;have b1:wc.cell? ⟨NY,1,none⟩=some (.slice r1 d.regs.length s1):=z1.cell (i:=1) dE;have b2:wc.cell? ⟨NY,2,none⟩=some (.slice r2 d.slots.length s2):=z1.cell (i:=2) dE;have b3:wc.cell? ⟨NY,3,none⟩=some (.slice r3 d.list.length s3):=z1.cell (i:=3) dE;have b4:wc.cell? ⟨NY,4,none⟩=some (.slice pm d.slots.length qm):=z1.cell (i:=4) dE;have hX:=HXW.1.of_block (hbc.block _ HLT.2.1);have hY:=HXW.2.of_block (hbc.block _ HLT.2.2.1);obtain⟨hV1,hV2⟩:=Vk (a0:=(.slice p0 c.sign.length q0)) (a1:=(.slice p1 c.regs.length q1)) (a2:=(.slice p2 c.slots.length q2)) (a3:=(.slice p3 c.list.length q3)) (a4:=(.slice pn c.slots.length qn)) hX;obtain⟨V1,hV⟩:∃V,(((((wc.setCell ⟨XB,0,none⟩ (.slice p0 c.sign.length q0)).setCell ⟨XB,1,none⟩ (.slice p1 c.regs.length q1)).setCell ⟨XB,2,none⟩ (.slice p2 c.slots.length q2)).setCell ⟨XB,3,none⟩ (.slice p3 c.list.length q3)).setCell ⟨XB,4,none⟩ (.slice pn c.slots.length qn))=V:=⟨_,rfl⟩
    rw[hV]at hV1 hV2;have hY1:=hY.of_block (hV2.block _ hY.lt (by have:=HLT.out;show¬YB=XB;omega));obtain⟨hU1,hU2⟩:=Vk (a0:=(.slice r0 d.sign.length s0)) (a1:=(.slice r1 d.regs.length s1)) (a2:=(.slice r2 d.slots.length s2)) (a3:=(.slice r3 d.list.length s3)) (a4:=(.slice pm d.slots.length qm)) hY1;obtain⟨V2,hVV⟩:∃V,(((((V1.setCell ⟨YB,0,none⟩ (.slice r0 d.sign.length s0)).setCell ⟨YB,1,none⟩ (.slice r1 d.regs.length s1)).setCell ⟨YB,2,none⟩ (.slice r2 d.slots.length s2)).setCell ⟨YB,3,none⟩ (.slice r3 d.list.length s3)).setCell ⟨YB,4,none⟩ (.slice pm d.slots.length qm))=V:=⟨_,rfl⟩
    rw[hVV]at hU1 hU2;have c0:wc.cell? ⟨XB,0,none⟩=some (.slice p0 c.sign.length q0):=hX.cell (i:=0) dE;have o0:=hX.frozen 0;have c1:wc.cell? ⟨XB,1,none⟩=some (.slice p1 c.regs.length q1):=hX.cell (i:=1) dE;have o1:=hX.frozen 1;have c2:wc.cell? ⟨XB,2,none⟩=some (.slice p2 c.slots.length q2):=hX.cell (i:=2) dE;have o2:=hX.frozen 2;have c3:wc.cell? ⟨XB,3,none⟩=some (.slice p3 c.list.length q3):=hX.cell (i:=3) dE;have o3:=hX.frozen 3;have c4:wc.cell? ⟨XB,4,none⟩=some (.slice px c.slots.length qx):=hX.cell (i:=4) dE;have o4:=hX.frozen 4;have e0:V1.cell? ⟨YB,0,none⟩=some (.slice r0 d.sign.length s0):=hY1.cell (i:=0) dE;have f0:=hY1.frozen 0;have e1:V1.cell? ⟨YB,1,none⟩=some (.slice r1 d.regs.length s1):=hY1.cell (i:=1) dE;have f1:=hY1.frozen 1;have e2:V1.cell? ⟨YB,2,none⟩=some (.slice r2 d.slots.length s2):=hY1.cell (i:=2) dE;have f2:=hY1.frozen 2;have e3:V1.cell? ⟨YB,3,none⟩=some (.slice r3 d.list.length s3):=hY1.cell (i:=3) dE;have f3:=hY1.frozen 3;have e4:V1.cell? ⟨YB,4,none⟩=some (.slice py d.slots.length qy):=hY1.cell (i:=4) dE;have f4:=hY1.frozen 4;have hUn:Un (fun b=>b=XB\/b=YB) wc V2:=(hV2.mono (fun b e=>.inl e)).trans (hU2.mono (fun b e=>.inr e));have hX2:=hV1.of_block (hU2.block _ hV1.lt (by have:=HLT.out;show¬XB=YB;omega));have HRX:Hid (V2.rowIs XB 77 5 (f5 (.slice p0 c.sign.length q0) (.slice p1 c.regs.length q1) (.slice p2 c.slots.length q2) (.slice p3 c.list.length q3) (.slice pn c.slots.length qn))/\V2.rowIs YB 77 5 (f5 (.slice r0 d.sign.length s0) (.slice r1 d.regs.length s1) (.slice r2 d.slots.length s2) (.slice r3 d.list.length s3) (.slice pm d.slots.length qm))):=⟨hX2,hU1⟩
    have HCX:Hid (AV (fun b=>b=XB\/b=YB) V2 (.slice pn c.slots.length qn) SN/\SN.map (·.h)=hs2):=⟨(x4.below z7).un hUn (fun b _ e=>e),x3⟩
    have HCY:Hid (AV (fun b=>b=XB\/b=YB) V2 (.slice pm d.slots.length qm) SM/\SM.map (·.h)=hs2):=⟨z4.un hUn (fun b _ e=>e),z3⟩
    have HSL:=A8 x6;have HUV:Hid (Un (fun b=>b=XB\/b=YB) W2 V2):=(HUN.on hbc).trans hUn;have KSA:Hid (∀v,Below V2.heap.size V2 v->Calls prog 35 #[.slice pa na qa,.slice pb nb qb] v fun e w'=>e=.returned (.bool true)/\Below v.heap.size v w'):=fun v hb=>Lj v _ _ L (((x5.below z7).un hUn (fun b _ e=>by have:=HLT.out;rcases e with e|e<;>omega)).below hb) ((z5.un hUn (fun b _ e=>by have:=HLT.out;have:=x7.size;rcases e with e|e<;>omega)).below hb) HL.1 HL.2;have hlS:SN.length=c.slots.length:=by have h9:=congrArg List.length x3;rw[List.length_map]at h9;rw[h9,x6.len]
    have hlM:SM.length=c.slots.length:=by have h9:=congrArg List.length z3;rw[List.length_map]at h9;rw[h9,x6.len]
    have hg9:=HG.1;have KHX:Hid (∀v,Below V2.heap.size V2 v->Calls prog 36 #[.agg #[.slice p0 c.sign.length q0,.slice p1 c.regs.length q1,.slice p2 c.slots.length q2,.slice p3 c.list.length q3,.slice pn c.slots.length qn],.int .i64 (n:Int)] v fun e w'=>∃sv,e=.returned sv/\Gh (fun b=>b<v.heap.size) w' sv (Hb hs2 n)/\Below v.heap.size v w'):=fun v hb=>by
     have h9:=Oz (.slice p0 c.sign.length q0) (.slice p1 c.regs.length q1) (.slice p2 c.slots.length q2) (.slice p3 c.list.length q3) (.slice pn c.slots.length qn) SN (by have:=hg9.slotsL;omega) n (by have:=HNS.out;omega) (cl_hd hg9 x6 x3) v (HCX.1.cs.below hb);rw[x3]at h9;exact h9
    have KHY:Hid (∀v,Below V2.heap.size V2 v->Calls prog 36 #[.agg #[.slice r0 d.sign.length s0,.slice r1 d.regs.length s1,.slice r2 d.slots.length s2,.slice r3 d.list.length s3,.slice pm d.slots.length qm],.int .i64 (n:Int)] v fun e w'=>∃sv,e=.returned sv/\Gh (fun b=>b<v.heap.size) w' sv (Hb hs2 n)/\Below v.heap.size v w'):=fun v hb=>by
     have h9:=Oz (.slice r0 d.sign.length s0) (.slice r1 d.regs.length s1) (.slice r2 d.slots.length s2) (.slice r3 d.list.length s3) (.slice pm d.slots.length qm) SM (by have:=hg9.slotsL;omega) n (by have:=HNS.out;omega) (cl_hd hg9 x6 z3) v (HCY.1.cs.below hb);rw[z3]at h9;exact h9
    have HHL:Hid ((Hb hs2 n).length<=1048576/\∀x∈Hb hs2 n,x.length<=1048576):=VP (by rw[x6.len];exact hg9.slotsL) (fun h hh=>(XN hg9 x6 h hh).2.1);have HTC:Hid (∀v,Below V2.heap.size V2 v->(v.cell? ⟨XB,0,none⟩=some (.slice p0 c.sign.length q0)/\v.cell? ⟨XB,1,none⟩=some (.slice p1 c.regs.length q1)/\v.cell? ⟨XB,2,none⟩=some (.slice p2 c.slots.length q2)/\v.cell? ⟨XB,3,none⟩=some (.slice p3 c.list.length q3)/\v.cell? ⟨XB,4,none⟩=some (.slice pn c.slots.length qn))/\(v.cell? ⟨YB,0,none⟩=some (.slice r0 d.sign.length s0)/\v.cell? ⟨YB,1,none⟩=some (.slice r1 d.regs.length s1)/\v.cell? ⟨YB,2,none⟩=some (.slice r2 d.slots.length s2)/\v.cell? ⟨YB,3,none⟩=some (.slice r3 d.list.length s3)/\v.cell? ⟨YB,4,none⟩=some (.slice pm d.slots.length qm))):=fun v hb=>UF (HRX.1.of_block (hb.block _ HRX.1.lt)) (HRX.2.of_block (hb.block _ HRX.2.lt));have nx:¬NX=XB:=by have:=HLT.out;omega
    have ny:¬NY=XB:=by have:=HLT.out;have:=x7.size;omega
    have nz:¬NY=YB:=by have:=HLT.out;have:=x7.size;omega
    have nw:¬NX=YB:=by have:=HLT.out;omega
    have av0:V1.cell? ⟨NX,0,none⟩=some (.slice p0 c.sign.length q0):=(gC (hV2.block NX lNX nx)).trans a0;have aw0:V2.cell? ⟨NX,0,none⟩=some (.slice p0 c.sign.length q0):=(gC (hU2.block NX (Nat.lt_of_lt_of_le lNX hV2.size) nw)).trans av0;have av1:V1.cell? ⟨NX,1,none⟩=some (.slice p1 c.regs.length q1):=(gC (hV2.block NX lNX nx)).trans a1;have aw1:V2.cell? ⟨NX,1,none⟩=some (.slice p1 c.regs.length q1):=(gC (hU2.block NX (Nat.lt_of_lt_of_le lNX hV2.size) nw)).trans av1;have av2:V1.cell? ⟨NX,2,none⟩=some (.slice p2 c.slots.length q2):=(gC (hV2.block NX lNX nx)).trans a2;have aw2:V2.cell? ⟨NX,2,none⟩=some (.slice p2 c.slots.length q2):=(gC (hU2.block NX (Nat.lt_of_lt_of_le lNX hV2.size) nw)).trans av2;have av3:V1.cell? ⟨NX,3,none⟩=some (.slice p3 c.list.length q3):=(gC (hV2.block NX lNX nx)).trans a3;have aw3:V2.cell? ⟨NX,3,none⟩=some (.slice p3 c.list.length q3):=(gC (hU2.block NX (Nat.lt_of_lt_of_le lNX hV2.size) nw)).trans av3;have av4:V1.cell? ⟨NX,4,none⟩=some (.slice pn c.slots.length qn):=(gC (hV2.block NX lNX nx)).trans a4;have aw4:V2.cell? ⟨NX,4,none⟩=some (.slice pn c.slots.length qn):=(gC (hU2.block NX (Nat.lt_of_lt_of_le lNX hV2.size) nw)).trans av4;have bv0:V1.cell? ⟨NY,0,none⟩=some (.slice r0 d.sign.length s0):=(gC (hV2.block NY lNY ny)).trans b0;have bw0:V2.cell? ⟨NY,0,none⟩=some (.slice r0 d.sign.length s0):=(gC (hU2.block NY (Nat.lt_of_lt_of_le lNY hV2.size) nz)).trans bv0;have bv1:V1.cell? ⟨NY,1,none⟩=some (.slice r1 d.regs.length s1):=(gC (hV2.block NY lNY ny)).trans b1;have bw1:V2.cell? ⟨NY,1,none⟩=some (.slice r1 d.regs.length s1):=(gC (hU2.block NY (Nat.lt_of_lt_of_le lNY hV2.size) nz)).trans bv1;have bv2:V1.cell? ⟨NY,2,none⟩=some (.slice r2 d.slots.length s2):=(gC (hV2.block NY lNY ny)).trans b2;have bw2:V2.cell? ⟨NY,2,none⟩=some (.slice r2 d.slots.length s2):=(gC (hU2.block NY (Nat.lt_of_lt_of_le lNY hV2.size) nz)).trans bv2;have bv3:V1.cell? ⟨NY,3,none⟩=some (.slice r3 d.list.length s3):=(gC (hV2.block NY lNY ny)).trans b3;have bw3:V2.cell? ⟨NY,3,none⟩=some (.slice r3 d.list.length s3):=(gC (hU2.block NY (Nat.lt_of_lt_of_le lNY hV2.size) nz)).trans bv3;have bv4:V1.cell? ⟨NY,4,none⟩=some (.slice pm d.slots.length qm):=(gC (hV2.block NY lNY ny)).trans b4;have bw4:V2.cell? ⟨NY,4,none⟩=some (.slice pm d.slots.length qm):=(gC (hU2.block NY (Nat.lt_of_lt_of_le lNY hV2.size) nz)).trans bv4;clear HC6 HC7 x1 x2 x3 x4 x5 x6 x7 z1 z2 z3 z4 z5 z6 z7 hbc hx1 lNX lNY hX hY hV1 hV2 hY1 hU1 hU2 hUn hX2 hlS hlM hg9 y0 y1;go_upto_region 10 with fail;refine rG (fun v=>v.cell? ⟨NX,0,none⟩=some (.slice p0 c.sign.length q0)/\v.cell? ⟨NX,1,none⟩=some (.slice p1 c.regs.length q1)/\v.cell? ⟨NX,2,none⟩=some (.slice p2 c.slots.length q2)/\v.cell? ⟨NX,3,none⟩=some (.slice p3 c.list.length q3)/\v.cell? ⟨NX,4,none⟩=some (.slice pn c.slots.length qn)/\v.cell? ⟨NY,0,none⟩=some (.slice r0 d.sign.length s0)/\v.cell? ⟨NY,1,none⟩=some (.slice r1 d.regs.length s1)/\v.cell? ⟨NY,2,none⟩=some (.slice r2 d.slots.length s2)/\v.cell? ⟨NY,3,none⟩=some (.slice r3 d.list.length s3)/\v.cell? ⟨NY,4,none⟩=some (.slice pm d.slots.length qm)) fun yH=>?_;refine Tb 0 1 ?_;clear yH;refine AJ 2 fun K hK=>?_;go_simp;refine AF hK fun yH=>?_;clear hK K;clear yH;refine AJ 3 fun K hK=>?_;go_simp;refine AF hK fun yH=>?_;clear hK K;refine wpAnyH_done kR ?_ _
    skip
    clear hV hVV a0 av0 aw0 a1 av1 aw1 a2 av2 aw2 a3 av3 aw3 a4 av4 aw4 b0 bv0 bw0 b1 bv1 bw1 b2 bv2 bw2 b3 bv3 bw3 b4 bv4 bw4 c0 c1 c2 c3 c4 o0 o1 o2 o3 o4 e0 e1 e2 e3 e4 f0 f1 f2 f3 f4;have hEE:(E != E)=false:=sM;obtain⟨⟨g0,g1,g2,g3,g4⟩,⟨h0,h1,h2,h3,h4⟩⟩:=HTC.out V2 (BT _);go_upto_region 11 with fail;refine rG (fun v=>v.cell? ⟨XB,0,none⟩=some (.slice p0 c.sign.length q0)/\v.cell? ⟨XB,1,none⟩=some (.slice p1 c.regs.length q1)/\v.cell? ⟨XB,2,none⟩=some (.slice p2 c.slots.length q2)/\v.cell? ⟨XB,3,none⟩=some (.slice p3 c.list.length q3)/\v.cell? ⟨XB,4,none⟩=some (.slice pn c.slots.length qn)/\v.cell? ⟨YB,0,none⟩=some (.slice r0 d.sign.length s0)/\v.cell? ⟨YB,1,none⟩=some (.slice r1 d.regs.length s1)/\v.cell? ⟨YB,2,none⟩=some (.slice r2 d.slots.length s2)/\v.cell? ⟨YB,3,none⟩=some (.slice r3 d.list.length s3)/\v.cell? ⟨YB,4,none⟩=some (.slice pm d.slots.length qm)) fun yH=>?_;refine Tf 0 1 2 3 4 5 ?_;clear yH;refine AJ 6 fun K hK=>?_;go_simp;(go_at_call 35;(with_reducible refine(KSA.out _ (by first|exact A7 _|exact bel (A7 _) (A7 _))).mono ?_);rintro e w7 ⟨rfl,hb7⟩;have HB7:Hid (Below V2.heap.size V2 w7):=(by first|exact bel (A7 _) hb7|exact bel (bel (A7 _) (A7 _)) hb7);clear g0 g1 g2 g3 g4 h0 h1 h2 h3 h4 hb7;obtain⟨⟨g0,g1,g2,g3,g4⟩,⟨h0,h1,h2,h3,h4⟩⟩:=HTC.out w7 HB7.out);try(go_wp2_with fail)
    refine AF hK fun yH=>?_;clear hK K;refine Tf 7 8 9 10 11 13 ?_;refine BU 14 ?_;clear yH;refine AJ 12 fun K hK=>?_;go_simp;(go_at_call 36;(with_reducible refine(KHX.out _ HB7.out).mono ?_);rintro e w8 ⟨sv,rfl,vs8,hb8⟩;have HB8:=A8 (bel HB7.out hb8);have HV8:=A8 vs8;obtain⟨pc,qc,hpc,_⟩:=vs8;subst hpc;clear g0 g1 g2 g3 g4 h0 h1 h2 h3 h4 hb8;obtain⟨⟨g0,g1,g2,g3,g4⟩,⟨h0,h1,h2,h3,h4⟩⟩:=HTC.out w8 HB8.out);try(go_wp2_with fail)
    refine AF hK fun yH=>?_;clear hK K;clear yH;refine AJ 15 fun K hK=>?_;go_simp;(go_at_call 36;(with_reducible refine(KHY.out _ HB8.out).mono ?_);rintro e w9 ⟨sv,rfl,vs9,hb9⟩;have HB9:=A8 (bel HB8.out hb9);have HV9:=A8 vs9;have HV8':=A8 (HV8.out.below hb9);obtain⟨pd,qd,hpd,_⟩:=vs9;subst hpd;clear g0 g1 g2 g3 g4 h0 h1 h2 h3 h4 hb9;obtain⟨⟨g0,g1,g2,g3,g4⟩,⟨h0,h1,h2,h3,h4⟩⟩:=HTC.out w9 HB9.out);try(go_wp2_with fail)
    refine AF hK fun yH=>?_;clear hK K;clear yH;refine AJ 16 fun K hK=>?_;go_simp;(go_at_call 35;(with_reducible refine(Lj w9 _ _ (Hb hs2 n) HV8'.out HV9.out HHL.out.1 HHL.out.2).mono ?_);rintro e wf ⟨rfl,hbf⟩;have HBF:=A8 (bel HB9.out hbf);clear g0 g1 g2 g3 g4 h0 h1 h2 h3 h4 hbf;obtain⟨⟨g0,g1,g2,g3,g4⟩,⟨h0,h1,h2,h3,h4⟩⟩:=HTC.out wf HBF.out);try(go_wp2_with fail)
    refine AF hK fun yH=>?_;clear hK K;refine Tb 17 18 ?_;refine wpAnyH_done kR ?_ _;go_wp2;go_roundw
    case rel=>
     exact⟨j+1,oM,oM,gN,hs2,SN,SM,pn,qn,pm,qm,HCX.1.below HBF.out,HCX.2,HCY.1.below HBF.out,HCY.2,HSL.out,HCAN.out,HRX.1.of_block (HBF.block _ HRX.1.lt),HRX.2.of_block (HBF.block _ HRX.2.lt),HUV.on HBF.out⟩
    case measure=>simp[intOf];omega
   .have hj':j=20:=oM;subst hj';clear hcx hmx hcy hmy hsl hcan hbx hby hun hbW HR;go_wp2;go_ret;exact⟨rfl,HEND.out⟩
  .have hj':j=N4:=oM;subst hj';clear hcx hmx hcy hmy hsl hcan hbx hby hun hbW HR;go_wp2;go_ret;exact⟨rfl,HEND.out⟩
structure Gj(E:Nat)(n p:Nat)(w0:World)(WB:Nat)(tag:Nat->Nat)(vl0:Nat->Value)(mv0 mn0:Nat->Option Nat)(ws:List Aa)(V Nn:List Nat)(lv:Value)(a b:Nat)(w:World):Prop where
 wt:w.rowIs WB 97 (n*3) (Yf (fun x=>if x=p then lv else vl0 x) (fun x=>if x=p then some a else mv0 x) (fun x=>if x=p then some b else mn0 x))
 l:w.ownsRow E 45 7 lv ws.length (AG De ws)
 v:DF w a V
 n:DF w b Nn
 ne:a≠b
 ga:E<=a
 gb:E<=b
 gw:E<=WB
 ta:a<w0.heap.size->mv0 p=some a/\tag a=3*p+2
 tb:b<w0.heap.size->mn0 p=some b/\tag b=3*p+3
 tl:∀g,lv.ownBlock=some g->g<w0.heap.size->(vl0 p).ownBlock=some g/\tag g=3*p+1
 f:∀y,y<w0.heap.size->y≠WB->(vl0 p).ownBlock≠some y->mv0 p≠some y->mn0 p≠some y->w.heap[y]? =w0.heap[y]?
 be:Below E w0 w
 le:E<=w.heap.size
section
variable {E : Nat} {c : Cd} {n p : Nat} {s : Fz} {w0 w w' : World} {B C WB : Nat} {lv lv0 : Value} {vl : Nat -> Value} {mv mn : Nat -> Option Nat} {tag : Nat -> Nat} {ws : List Aa} {V Nn : List Nat} {a b : Nat}
theorem Gj.below(h:Gj E n p w0 WB tag vl mv mn ws V Nn lv a b w)(k:Below w.heap.size w w'):Gj E n p w0 WB tag vl mv mn ws V Nn lv a b w':=
 ⟨h.wt.of_block (k.block _ h.wt.lt),As h.l k,h.v.below k,h.n.below k,h.ne,h.ga,h.gb,h.gw,h.ta,h.tb,h.tl,fun y y1 y2 y3 y4 y5=>(k.block y (Nat.lt_of_lt_of_le y1 h.be.size)).trans (h.f y y1 y2 y3 y4 y5),h.be.trans (k.mono h.le),gH h.le k.size⟩
theorem Gj.cells(h:Gj E n p w0 WB tag vl mv mn ws V Nn lv a b w)(hp:p<n):w.cell? ⟨WB,p*3,none⟩=some lv/\w.cell? ⟨WB,p*3+1,none⟩=some (.map (some a))/\w.cell? ⟨WB,p*3+2,none⟩=some (.map (some b)):=by
 have f0:=h.wt.cell (i:=p*3) oM;have f1:=h.wt.cell (i:=p*3+1) oM;have f2:=h.wt.cell (i:=p*3+2) oM;unfold Yf at f0 f1 f2;rw[if_pos oM,show p*3/3=p by omega]at f0;rw[if_neg oM,if_pos oM,show(p*3+1)/3=p by omega]at f1;rw[if_neg oM,if_neg oM,show(p*3+2)/3=p by omega]at f2;simp only[if_true]at f0 f1 f2;exact⟨f0,f1,f2⟩
theorem Lz{α:Type}{f:Nat->α}{p:Nat}{v:α}(e:f p=v):(fun x=>if x=p then v else f x)=f:=funext fun x=>by
 split
 .rename_i q;rw[q,e]
 .rfl
theorem CQ.puts(h:CQ E c n s w B C WB lv0 vl mv mn tag)(hp:p<n)(hne:s.wait p≠[]):∃a b,Gj E n p w WB tag vl mv mn (s.wait p) (vecsL (s.wait p)) (BF c (s.wait p)) (vl p) a b w:=by
 have hl:=h.lp p hp;obtain⟨⟨a,ea,ga⟩,b,eb,gb⟩:=hl.s hne;refine⟨a,b,⟨?_,hl.l,hl.v.lt ea,hl.n.lt eb,?_,ga,gb,h.geW,fun _=>⟨ea,h.tv p a hp ea⟩,fun _=>⟨eb,h.tn p b hp eb⟩,fun g hg _=>⟨hg,h.tp p g hp hg⟩,fun _ _ _ _ _ _=>rfl,Below.refl E w,h.le⟩⟩
 .rw[Lz rfl,Lz ea,Lz eb];exact h.wt
 .intro e;have t1:=h.tv p a hp ea;have t2:=h.tn p b hp eb;rw[e]at t1;omega
theorem CQ.newM(h:CQ E c n s w B C WB lv0 vl mv mn tag)(hp:p<n)(he:s.wait p=[]):Gj E n p w WB tag vl mv mn [] [] [] (.slice none 0 0) w.heap.size (w.heap.size+1) (((((w.alloc (.map #[] 0)).alloc (.map #[] 0)).setCell ⟨WB,p*3,none⟩ (.slice none 0 0)).setCell ⟨WB,p*3+1,none⟩ (.map (some w.heap.size))).setCell ⟨WB,p*3+2,none⟩ (.map (some (w.heap.size+1)))):=by
 have hl:=h.lp p hp;obtain⟨z1,z2,z3⟩:=hl.z he;have k2:Below w.heap.size w ((w.alloc (.map #[] 0)).alloc (.map #[] 0)):=bel (A0 _ _) (A0 _ _);obtain⟨W,hW⟩:=gA ((w.alloc (.map #[] 0)).alloc (.map #[] 0))
 have hs:W.heap.size=w.heap.size+2:=by rw[<-hW];simp
 have s1:DF W w.heap.size []:=by rw[<-hW];exact(DF.new w).below (A0 _ _)
 have s2:DF W (w.heap.size+1) []:=by
  have h9:=DF.new (w.alloc (.map #[] 0));rw[<-hW];simpa using h9
 rw[hW]at k2 |-;have hw':=h.wt.of_block (k2.block _ h.wt.lt);have k3:∀g,g≠WB->(((W.setCell ⟨WB,p*3,none⟩ (.slice none 0 0)).setCell ⟨WB,p*3+1,none⟩ (.map (some w.heap.size))).setCell ⟨WB,p*3+2,none⟩ (.map (some (w.heap.size+1)))).heap[g]? =W.heap[g]? :=fun g hg=>(gE hg).trans ((gE hg).trans (gE hg));have hWlt:=h.wt.lt;have hle:=h.le;refine⟨(((hw'.set _ _).set _ _).set _ _).congr fun j hj=>?_,World.ownsRow_nil _ _ _ 7,s1.block (k3 _ oM),s2.block (k3 _ oM),oM,hle,oM,h.geW,fun q=>absurd q oM,fun q=>absurd q oM,fun g hg=>(by cases hg),fun y y1 y2 _ _ _=>(k3 y y2).trans (k2.block y y1),(((k2.mono hle).setCell h.geW _).setCell h.geW _).setCell h.geW _,sO⟩;exact Zcp
theorem Gj.app(h:Gj E n p w0 WB tag vl mv mn ws V Nn lv a b w)(hp:p<n){i:Aa}{x:Option Addr}{d:Nat}(hr:AZ 7 De w (.slice x [i].length d) [i])(hl:ws.length<=900000):
 ∃g cap w',(Builtin.append_ #[25,25] 25 #[lv,.slice x 1 d]).run prog w=.ok (.slice (some ⟨g,0,none⟩) (ws.length+1) cap) w'/\w'.cell? ⟨WB,p*3,none⟩=some lv/\w'.frozen? ⟨WB,p*3,none⟩=false/\(∀y,y<w.heap.size->lv.ownBlock≠some y->w'.heap[y]? =w.heap[y]?)/\Below E w w'/\Gj E n p w0 WB tag vl mv mn (ws++[i]) V Nn (.slice (some ⟨g,0,none⟩) (ws.length+1) cap) a b (w'.setCell ⟨WB,p*3,none⟩ (.slice (some ⟨g,0,none⟩) (ws.length+1) cap)):=by
 obtain⟨i0,hi0,hz0,hz1,hz2⟩:=info_parts E0;obtain⟨p',c',hv,h9⟩:=hr;simp only[Value.slice.injEq]at hv;obtain⟨rfl,-,rfl⟩:=hv;obtain⟨bb,o,rfl,h2⟩:=h9.resolve_left sM;obtain⟨g,cap,w',hrun,hown,hg,hat,hlt⟩:=run_append_lies (P:=prog) w 25 25 E 45 i0 _ 7 56 underlying25 hi0 hz0 hz1 hz2 rfl dE lv ws.length (AG De ws) h.l ⟨bb,o,none⟩ 1 d (AG De [i]) (Ef D6 [i]) (fun j u hu=>H2 (w:=w) dE D6 h2 j u hu) Zgp dE mL oM h.le _ rfl;have hoth:∀b,b<w.heap.size->lv.ownBlock≠some b->w'.heap[b]? =w.heap[b]? :=fun k hk hne=>hg.block k hk (Ne.symm hne);have hbel:Below E w w':=(Below.refl E w).grown hg h.le (fun k e=>(h.l.lt k e).1);have hw':=h.wt.of_block (hoth _ h.wt.lt (An h.l h.wt dE));have hv':=h.v.block (hoth _ h.v.lt (BP h.v h.l));have hn':=h.n.block (hoth _ h.n.lt (BP h.n h.l));have k3:∀k,k≠WB->(w'.setCell ⟨WB,p*3,none⟩ (.slice (some ⟨g,0,none⟩) (ws.length+1) cap)).heap[k]? =w'.heap[k]? :=fun k hk=>gE hk;have c0:=(h.cells hp).1;have hsz:=h.be.size;refine⟨g,cap,w',hrun,(gC (hoth _ h.wt.lt (An h.l h.wt dE))).trans c0,hw'.frozen _,hoth,hbel,⟨(hw'.set _ _).congr fun j hj=>?_,?_,hv'.block (k3 _ (B7 hv' hw')),hn'.block (k3 _ (B7 hn' hw')),h.ne,h.ga,h.gb,h.gw,h.ta,h.tb,fun k hk hk0=>?_,fun y y1 y2 y3 y4 y5=>?_,(h.be.trans hbel).setCell h.gw _,by simpa using gH h.le hbel.size⟩⟩
 .unfold Yf;have hj3:=Nat.div_add_mod j 3;by_cases e:j/3=p
  .simp only[e,if_true];rcases(show j%3=0\/j%3=1\/j%3=2 by omega)with q|q|q
   .rw[if_pos oM,if_pos q]
   .rw[if_neg oM];simp[q]
   .rw[if_neg oM];simp[q]
  .simp only[e,if_false];rw[if_neg (fun q=>e oM)]
 .rw[List.length_append,Dt];exact Ag hown fun k hk=>k3 k (fun e=>An hown hw' dE (hk.trans (congrArg some e)))
 .have e1:g=k:=by simpa[Value.ownBlock]using hk
  subst e1;rcases hat with q|q
  .exact h.tl _ q hk0
  .exact absurd hk0 oM
 .rw[k3 y y2,hoth y oM (fun e=>y3 (h.tl y e y1).1)];exact h.f y y1 y2 y3 y4 y5
theorem Gj.putV(h:Gj E n p w0 WB tag vl mv mn ws V Nn lv a b w)(hn:V.length<1000000){k:Nat}(hk:k<=4611686018427387904):
 ∃w',(Instr.mapUpdate 95 (.map (some a)) (.int .i64 (k:Int)) (.agg #[])).run prog w=.ok () w'/\Gj E n p w0 WB tag vl mv mn ws (Ew V k) Nn lv a b w'/\(∀y,y<w.heap.size->y≠a->w'.heap[y]? =w.heap[y]?)/\Below E w w':=by
 obtain⟨w',hrun,r1,r2⟩:=h.v.put hn hk;have ho:=IC r2;have hb:=IA r2 h.ga h.le;have hsz:=h.be.size;exact⟨w',hrun,⟨h.wt.of_block (ho _ h.wt.lt (Ne.symm (B7 h.v h.wt))),Ag h.l fun g hg=>ho g (h.l.lt g hg).2 (fun e=>BP h.v h.l (hg.trans (congrArg some e))),r1,h.n.block (ho _ h.n.lt (Ne.symm h.ne)),h.ne,h.ga,h.gb,h.gw,h.ta,h.tb,h.tl,fun y y1 y2 y3 y4 y5=>(ho y oM (fun e=>y4 ((e▸(h.ta (e▸y1)).1)))).trans (h.f y y1 y2 y3 y4 y5),h.be.trans hb,gH h.le hb.size⟩,ho,hb⟩
theorem Gj.putN(h:Gj E n p w0 WB tag vl mv mn ws V Nn lv a b w)(hn:Nn.length<1000000){k:Nat}(hk:k<=4611686018427387904):
 ∃w',(Instr.mapUpdate 95 (.map (some b)) (.int .i64 (k:Int)) (.agg #[])).run prog w=.ok () w'/\Gj E n p w0 WB tag vl mv mn ws V (Ew Nn k) lv a b w'/\(∀y,y<w.heap.size->y≠b->w'.heap[y]? =w.heap[y]?)/\Below E w w':=by
 obtain⟨w',hrun,r1,r2⟩:=h.n.put hn hk;have ho:=IC r2;have hb:=IA r2 h.gb h.le;have hsz:=h.be.size;exact⟨w',hrun,⟨h.wt.of_block (ho _ h.wt.lt (Ne.symm (B7 h.n h.wt))),Ag h.l fun g hg=>ho g (h.l.lt g hg).2 (fun e=>BP h.n h.l (hg.trans (congrArg some e))),h.v.block (ho _ h.v.lt h.ne),r1,h.ne,h.ga,h.gb,h.gw,h.ta,h.tb,h.tl,fun y y1 y2 y3 y4 y5=>(ho y oM (fun e=>y5 ((e▸(h.tb (e▸y1)).1)))).trans (h.f y y1 y2 y3 y4 y5),h.be.trans hb,gH h.le hb.size⟩,ho,hb⟩
theorem Gj.fin(h:CQ E c n s w0 B C WB lv0 vl mv mn tag)(k:Gj E n p w0 WB tag vl mv mn ws (vecsL ws) (BF c ws) lv a b w)(hp:p<n)(hne:ws≠[]):∃vl mv mn tg,CQ E c n {s with wait:=fun x=>if x=p then ws else s.wait x} w B C WB lv0 vl mv mn tg/\∀y,y<w0.heap.size->tg y=tag y:=by
 have hl:=h.lp p hp;refine⟨_,_,_,fun y=>if y<w0.heap.size then tag y else if y=a then 3*p+2 else if y=b then 3*p+3 else 3*p+1,⟨h.b.of_block (k.f _ h.b.lt (JT h.b h.wt dE) (An hl.l h.b dE) (fun e=>B7 (hl.v.lt e) h.b rfl) (fun e=>B7 (hl.n.lt e) h.b rfl)),k.wt,fun x hx=>?_,?_,fun g hg=>?_,fun x g hx hg=>?_,fun x g hx hg=>?_,fun x g hx hg=>?_,h.geB,h.geW,k.le⟩,fun y hy=>if_pos hy⟩
 .by_cases e:x=p
  .simp only[e,if_true];exact⟨k.l,.inr ⟨a,rfl,k.v⟩,.inr ⟨b,rfl,k.n⟩,fun q=>absurd q hne,fun _=>⟨⟨a,rfl,k.ga⟩,b,rfl,k.gb⟩⟩
  .simp only[e,if_false];have hx':=h.lp x hx;have t0:∀g,(vl p).ownBlock=some g->tag g=3*p+1:=fun g hg=>h.tp p g hp hg;have t1:∀g,mv p=some g->tag g=3*p+2:=fun g hg=>h.tv p g hp hg;have t2:∀g,mn p=some g->tag g=3*p+3:=fun g hg=>h.tn p g hp hg;have Bl:∀g,g<w0.heap.size->g≠WB->(∀j,j<3->tag g≠3*p+1+j)->w.heap[g]? =w0.heap[g]? :=fun g g1 g2 g3=>k.f g g1 g2 (fun q=>g3 0 oM (t0 g q)) (fun q=>g3 1 oM (t1 g q)) (fun q=>g3 2 oM (t2 g q));exact hx'.keep (fun g hg=>Bl g (hx'.l.lt g hg).2 (fun q=>An hx'.l h.wt dE (hg.trans (congrArg some q))) (fun j hj=>by rw[h.tp x g hx hg];omega)) (fun g hg=>Bl g (hx'.v.lt hg).lt (B7 (hx'.v.lt hg) h.wt) (fun j hj=>by rw[h.tv x g hx hg];omega)) (fun g hg=>Bl g (hx'.n.lt hg).lt (B7 (hx'.n.lt hg) h.wt) (fun j hj=>by rw[h.tn x g hx hg];omega))
 .refine Ag h.lf fun g hg=>k.f g (h.lf.lt g hg).2 (fun q=>An h.lf h.wt dE (hg.trans (congrArg some q))) (fun q=>?_) (fun q=>BP (hl.v.lt q) h.lf hg) (fun q=>BP (hl.n.lt q) h.lf hg);have t1:=h.tl g hg;have t2:=h.tp p g hp q;omega
 .rw[if_pos (h.lf.lt g hg).2];exact h.tl g hg
 .by_cases e:x=p
  .simp only[e,if_true]at hg |-;by_cases q:g<w0.heap.size
   .rw[if_pos q];exact(k.tl g hg q).2
   .rw[if_neg q,if_neg (fun e=>BP k.v k.l (hg.trans (congrArg some e))),if_neg (fun e=>BP k.n k.l (hg.trans (congrArg some e)))]
  .simp only[e,if_false]at hg;rw[if_pos ((h.lp x hx).l.lt g hg).2];exact h.tp x g hx hg
 .by_cases e:x=p
  .simp only[e,if_true,Option.some.injEq]at hg |-;subst hg;by_cases q:a<w0.heap.size
   .rw[if_pos q];exact(k.ta q).2
   .rw[if_neg q,if_pos rfl]
  .simp only[e,if_false]at hg;rw[if_pos ((h.lp x hx).v.lt hg).lt];exact h.tv x g hx hg
 .by_cases e:x=p
  .simp only[e,if_true,Option.some.injEq]at hg |-;subst hg;by_cases q:b<w0.heap.size
   .rw[if_pos q];exact(k.tb q).2
   .rw[if_neg q,if_neg (Ne.symm k.ne),if_pos rfl]
  .simp only[e,if_false]at hg;rw[if_pos ((h.lp x hx).n.lt hg).lt];exact h.tn x g hx hg
end
def Px(c:Cd)(rs:List Int)(Nn:List Nat)(k:Nat):List Nat:=(((rs.take k).filter fun r=>(A5 c.regs r).kind==1).map Int.toNat).foldl Ew Nn
theorem RP(c:Cd){rs:List Int}(Nn:List Nat){k:Nat}(h:k<rs.length):Px c rs Nn (k+1)=if(A5 c.regs rs[k]).kind=1 then Ew (Px c rs Nn k) rs[k].toNat else Px c rs Nn k:=by
 unfold Px;rw[List.take_succ_eq_append_getElem h,List.filter_append,List.map_append,List.foldl_append];by_cases e:(A5 c.regs rs[k]).kind=1
 .simp[e]
 .simp[e]
theorem Wg(c:Cd)(ws:List Aa)(i:Aa):BF c (ws++[i])=Px c (Ac i (A3 i.op)) (BF c ws) (Ac i (A3 i.op)).length:=by
 unfold BF Px;rw[List.foldl_append,List.take_length];rfl
theorem OC(S:List Nat)(k:Nat):(Ew S k).length<=S.length+1:=by
 unfold Ew;split
 .omega
 .simp
theorem Qy(c:Cd)(rs:List Int)(Nn:List Nat):∀k,k<=rs.length->(Px c rs Nn k).length<=Nn.length+k
 |0,_=>by simp[Px]
 |k+1,h=>by
  have h1:=Qy c rs Nn k oM;rw[RP c Nn oM];split
  .have:=OC (Px c rs Nn k) rs[k].toNat;omega
  .omega
theorem MS(ws:List Aa)(i:Aa):vecsL (ws++[i])=vecA (vecsL ws) i:=by unfold vecsL;rw[List.foldl_append];rfl
theorem reg_at{c:Cd}{r:Nat}(hr:r<c.regs.length):A5 c.regs (r:Int)=c.regs[r]:=by
 unfold A5 Az;rw[if_pos sO];simp[hr]
theorem VF(E:Nat)(c:Cd)(n:Nat)(s:Fz)(w:World)(B C WB:Nat)(lv:Value)(vl:Nat->Value)(mv mn:Nat->Option Nat)(tag:Nat->Nat)(h:CQ E c n s w B C WB lv vl mv mn tag)(p:Nat)(hp:p<n)(i:Aa)(hi:Bp c i)(hR:c.regs.length<=16384)(p1:Option Addr)(q1:Nat)(hC:∀v,Below E w v->AZ 2 I2 v (.slice p1 c.regs.length q1) c.regs)
 (hL:(s.wait p).length<=500000) (hV:(vecsL (s.wait p)).length<=500000) (hNn:(BF c (s.wait p)).length<=500000) (l2:List Aa) (hl2:l2=s.wait p++[i]):
 Calls prog 42 #[.pointer (some ⟨WB,p*3,none⟩),BV i,.slice p1 c.regs.length q1] w fun e w'=>e=.returned (.tuple #[])/\Below E w w'/\(∀y,y<w.heap.size->y≠WB->(vl p).ownBlock≠some y->mv p≠some y->mn p≠some y->w'.heap[y]? =w.heap[y]?)/\∃vl mv mn tg,CQ E c n {s with wait:=fun x=>if x=p then l2 else s.wait x} w' B C WB lv vl mv mn tg/\∀y,y<w.heap.size->tg y=tag y:=by
 have KS:Hid (∀v,Calls prog 64 #[BV i] v fun e w'=>e=.returned (.bool (Ah i))/\Below v.heap.size v w'):=fun v=>by rw[<-Pb];exact Pa i v
 have KR:Hid (∀v,Calls prog 65 #[BV i] v fun e w'=>∃u,e=.returned u/\w'.ownsRow v.heap.size 3 1 u (Ac i (A3 i.op)).length (BM (Ac i (A3 i.op)))/\Below v.heap.size v w'):=fun v=>Mx i v;have HRD:Hid (∀r∈Ac i (A3 i.op),∃n:Nat,r=(n:Int)/\n<c.regs.length):=fun r hx=>by
  have h1:=E5 hi hx;have h2:=L5 hi.2 r hx;exact⟨r.toNat,h1,oM⟩
 have HDD:=A8 (fun hs=>Gb hi hs);have hrl:(Ac i (A3 i.op)).length<=3:=GZ _ _;obtain⟨ws,hws⟩:∃l,s.wait p=l:=⟨_,rfl⟩
 have HVS:Hid (vecsL (ws++[i])=vecA (vecsL ws) i):=MS ws i;have HNS:=A8 (Wg c ws i);have HNK:=A8 (fun(r:List Int) k hk=>Qy c r (BF c ws) k hk);have HNU:=A8 (fun(r:List Int) k (hk:k<r.length)=>RP c (BF c ws) hk);have HI:=A8 (show i=i from rfl);obtain⟨I,hI⟩:=gA i
 rw[hws]at hL hV hNn hl2;rw[hI]at hl2;have HL2:=A8 hl2;clear hl2;obtain⟨W0,hW0⟩:∃W,w.alloc (.cells #[.int .i64 i.op,.int .i64 i.d,.int .i64 i.a,.int .i64 i.b,.int .i64 i.c,.int .i64 i.n,.int .u32 i.bits] 45)=W:=⟨_,rfl⟩
 have hb0:Below w.heap.size w W0:=by rw[<-hW0];exact A0 _ _
 have hs0:W0.heap.size=w.heap.size+1:=by rw[<-hW0];simp
 have hX:W0.rowIs w.heap.size 45 7 (bxF i.op i.d i.a i.b i.c i.n i.bits):=by rw[<-hW0];exact Di w _ _
 have h0:=h.below hb0;have HM0:=A8 h0;have HE0:Hid (Below E w W0):=hb0.mono h.le;obtain⟨X,hXe⟩:=gA (w.heap.size)
 have HXW:Hid (X<W0.heap.size/\X≠WB/\(vl p).ownBlock≠some X/\mv p≠some X/\mn p≠some X):=by
  have hl:=h.lp p hp;refine⟨oM,by have:=h.wt.lt;omega,fun e=>?_,fun e=>?_,fun e=>?_⟩
  .have:=(hl.l.lt _ e).2;omega
  .have:=(hl.v.lt e).lt;omega
  .have:=(hl.n.lt e).lt;omega
 rw[hXe]at hX;obtain⟨op,d,a,b,e,m,z⟩:=i;simp only at hX hW0 KS KR HDD;have HXC:Hid (∀ws' V' N' lv' a' b' v,Gj E n p W0 WB tag vl mv mn ws' V' N' lv' a' b' v->v.heap[X]? =W0.heap[X]?):=fun ws' V' N' lv' a' b' v q=>by
  obtain⟨x1,x2,x3,x4,x5⟩:=HXW.out;exact q.f X x1 x2 x3 x4 x5
 have HBX:Hid (∀v:World,v.heap[X]? =W0.heap[X]? ->v.cell? ⟨X,0,none⟩=some (.int .i64 op)/\v.cell? ⟨X,1,none⟩=some (.int .i64 d)/\v.cell? ⟨X,2,none⟩=some (.int .i64 a)/\v.cell? ⟨X,3,none⟩=some (.int .i64 b)/\v.cell? ⟨X,4,none⟩=some (.int .i64 e)/\v.cell? ⟨X,5,none⟩=some (.int .i64 m)/\v.cell? ⟨X,6,none⟩=some (.int .u32 z)):=fun v hb=>by
  exact Zcx
 have HFIN:Hid (∀lv' a' b' v,Gj E n p W0 WB tag vl mv mn (ws++[I]) (vecsL (ws++[I])) (BF c (ws++[I])) lv' a' b' v->Below E w v/\(∀y,y<X->y≠WB->(vl p).ownBlock≠some y->mv p≠some y->mn p≠some y->v.heap[y]? =w.heap[y]?)/\∃vl mv mn tg,CQ E c n {s with wait:=fun x=>if x=p then l2 else s.wait x} v B C WB lv vl mv mn tg/\∀y,y<X->tg y=tag y):=fun lv' a' b' v q=>by
  rw[HL2.out];obtain⟨z1,z2,z3,z4,y1,y2⟩:=Gj.fin HM0.out q hp sM;exact⟨HE0.trans q.be,fun y g1 g2 g3 g4 g5=>(q.f y oM g2 g3 g4 g5).trans (hb0.block y oM),z1,z2,z3,z4,y1,fun y hy=>y2 y oM⟩
 have HC:Hid (∀v,Below E W0 v->AZ 2 I2 v (.slice p1 c.regs.length q1) c.regs):=fun v hb=>hC v (HE0.trans hb);have HRT:=A8 (fun(r:Nat) (hr:r<c.regs.length)=>reg_at (c:=c) hr);rw[hI]at HVS HNS;obtain⟨rs,hrs⟩:∃r,Ac ⟨op,d,a,b,e,m,z⟩ (A3 op)=r:=⟨_,rfl⟩
 have HIV:Hid (Ac I (A3 I.op)=rs/\Ah I=Ah ⟨op,d,a,b,e,m,z⟩/\I.d=d):=by rw[<-hI];exact⟨hrs,rfl,rfl⟩
 rw[HIV.1]at HNS;simp only[hrs]at HRD KR hrl;obtain⟨SD,hSD⟩:∃t,Ah ⟨op,d,a,b,e,m,z⟩=t:=⟨_,rfl⟩
 rw[hSD]at KS HDD HIV;obtain⟨RL,hRL⟩:∃r,rs.length=r:=⟨_,rfl⟩
 have HRL:=A8 hRL;rw[hRL]at KR hrl;obtain⟨N,hN⟩:=gA (c.regs.length)
 have HN:=A8 hN;simp only[hN]at HC HRD |-;obtain⟨L,hLe⟩:=gA (ws.length)
 have HLL:=A8 hLe;have HLI:Hid (W0.cell? ⟨WB,p*3,none⟩=some (vl p)):=by rw[Nat.mul_comm];exact(h0.cellL hp).1
 have HLO:Hid (W0.ownsRow E 45 7 (vl p) L (AG De ws)):=by
  have h9:=(h0.lp p hp).l;rw[hws,hLe]at h9;exact h9
 have HWS:=A8 hws;obtain⟨pl,ql,hvl⟩:=AD HLO.out;have f0:=HLI.out;rw[hvl]at f0;unfold BV at KS KR |-;simp only at KS KR |-;have HIE:Hid (I=⟨op,d,a,b,e,m,z⟩):=hI.symm;obtain⟨T,hT⟩:∃t,((L:Int)==0)=t:=⟨_,rfl⟩
 have HT:=A8 hT;have f1:=(h0.cellL hp).2.1;have f2:=(h0.cellL hp).2.2;have z0:=h0.wt.frozen (3*p);have z1:=h0.wt.frozen (3*p+1);have z2:=h0.wt.frozen (3*p+2);rw[Nat.mul_comm 3 p]at f1 f2 z0 z1 z2;have HXE:=A8 hXe;have hWlt:WB<W0.heap.size:=h0.wt.lt;have nW:¬WB=W0.heap.size:=oM;have nW1:¬WB=W0.heap.size+1:=oM;clear h h0 hC hb0 hs0 hX hrs hSD hRL hN hLe hws hI hvl hi hWlt HI;go_enter func42,ntmps42;go_upto_region 1 with fail;try rw[hW0]
 try rw[hXe]
 clear hW0 hXe;go_upto_if 13 with fail;go_cut [] (fun wx=>Hid (∃lv' a' b',Gj E n p W0 WB tag vl mv mn ws (vecsL ws) (BF c ws) lv' a' b' wx))
 case first=>
  cases T with
  |true=>
   have hn0:ws=[]:=by
    have h9:=HT.out;have h8:=HLL.out;simp at h9;exact List.eq_nil_of_length_eq_zero oM
   have HNW:Hid (∃lv' a' b',Gj E n p W0 WB tag vl mv mn ws (vecsL ws) (BF c ws) lv' a' b' (((((W0.alloc (.map #[] 0)).alloc (.map #[] 0)).setCell ⟨WB,p*3,none⟩ (.slice none 0 0)).setCell ⟨WB,p*3+1,none⟩ (.map (some W0.heap.size))).setCell ⟨WB,p*3+2,none⟩ (.map (some (W0.heap.size+1))))):=by
    rw[hn0];exact⟨_,_,_,HM0.newM hp (HWS.trans hn0)⟩
   clear hn0 HT hT;have hmm:=@run_makeMap prog;have bA:Below W0.heap.size W0 ((W0.alloc (.map #[] 0)).alloc (.map #[] 0)):=bel (A0 _ _) (A0 _ _);have y0:=kf bA f0 z0;have y1:=kf bA f1 z1;have y2:=kf bA f2 z2;have x0:=kc bA f0;have x1:=kc bA f1;have x2:=kc bA f2;clear bA;go_wp2;go_meet;exact HNW.out
  |false=>
   have hn0:ws≠[]:=fun q=>by
    have h9:=HT.out;have h8:=HLL.out;rw[q]at h8;simp at h9 h8;omega
   have HNW:Hid (∃lv' a' b',Gj E n p W0 WB tag vl mv mn ws (vecsL ws) (BF c ws) lv' a' b' W0):=by
    obtain⟨a',b',q⟩:=HM0.puts hp (by rw[HWS.out];exact hn0);rw[HWS.out]at q;exact⟨_,a',b',q⟩
   clear hn0 HT hT;go_wp2;go_meet;exact HNW.out
 case rest=>
  rename World=>wc;obtain⟨lq,a',b',q⟩:=hcut.out;obtain⟨pq,qq,rfl⟩:=AD q.l;obtain⟨u0,u1,u2,u3,u4,u5,u6⟩:=HBX.out wc (HXC.out _ _ _ _ _ _ _ q);have hXo:(Value.slice pq ws.length qq).ownBlock≠some X:=fun r=>HXW.2.2.1 (q.tl X r HXW.1).1;have hXc:X<wc.heap.size:=Nat.lt_of_lt_of_le HXW.1 q.be.size;obtain⟨g,cap,w3,hrun,c3,fz3,hoth,hb3,q3⟩:=(q.below (w':=(wc.alloc (.cells #[.int .i64 op,.int .i64 d,.int .i64 a,.int .i64 b,.int .i64 e,.int .i64 m,.int .u32 z] 45)).drew) (bel (A0 _ _) (AQ _))).app hp (i:=⟨op,d,a,b,e,m,z⟩) ((JP wc ⟨op,d,a,b,e,m,z⟩).below (AQ _)) (by have:=HLL.out;omega);have h3X:w3.heap[X]? =W0.heap[X]? :=(hoth X Zgc hXo).trans ((bel (A0 wc (.cells #[.int .i64 op,.int .i64 d,.int .i64 a,.int .i64 b,.int .i64 e,.int .i64 m,.int .u32 z] 45)) (AQ _)).block X hXc |>.trans (HXC.out _ _ _ _ _ _ _ q));obtain⟨t0,t1,t2,t3,t4,t5,t6⟩:=HBX.out w3 h3X;rw[<-HIE.out]at q3;have lc:=(q.cells hp).1;rw[HLL.out]at hrun c3 q3 lc;have lc':(wc.alloc (.cells #[.int .i64 op,.int .i64 d,.int .i64 a,.int .i64 b,.int .i64 e,.int .i64 m,.int .u32 z] 45)).cell? ⟨WB,p*3,none⟩=some (.slice pq L qq):=kc (A0 _ _) lc;have hWc:WB<wc.heap.size:=A6 lc;have nB4:¬WB=wc.heap.size:=oM;have nX4:¬X=wc.heap.size:=oM;have nXW:¬X=WB:=HXW.2.1;have nWX:¬WB=X:=fun r=>nXW r.symm;have HP:Hid (∃lv',Gj E n p W0 WB tag vl mv mn (ws++[I]) (vecsL ws) (BF c ws) lv' a' b' (w3.setCell ⟨WB,p*3,none⟩ (.slice (some ⟨g,0,none⟩) (L+1) cap))):=⟨_,q3⟩
  have HRN:=A8 hrun;clear hcut q q3 hrun hoth hb3 h3X hXo hXc hWc f0 f1 f2 z0 z1 z2 nW nW1 hT;go_upto_region 3 with fail;go_cut [] (fun wx=>Hid (∃lv',Gj E n p W0 WB tag vl mv mn (ws++[I]) (vecsL ws) (BF c ws) lv' a' b' wx))
  case first=>
   refine rG (fun v=>v.cell? ⟨X,0,none⟩=some (.int .i64 op)/\v.cell? ⟨X,1,none⟩=some (.int .i64 d)/\v.cell? ⟨X,2,none⟩=some (.int .i64 a)/\v.cell? ⟨X,3,none⟩=some (.int .i64 b)/\v.cell? ⟨X,4,none⟩=some (.int .i64 e)/\v.cell? ⟨X,5,none⟩=some (.int .i64 m)/\v.cell? ⟨X,6,none⟩=some (.int .u32 z)) fun yH=>?_;refine Tc 0 1 2 ?_;refine Tb 3 5 ?_;clear yH;refine wpAnyH_ready (rs:=[4,6]) kR sM ?_;refine Hi 4 (fun K hK=>?_) ?_
   .go_simp;refine AF hK fun yH=>?_;clear hK K;clear yH;refine AJ 6 fun K hK=>?_;exact Zcs
   refine Hi 6 (fun K hK=>?_) AllReadyH.nil;go_simp;refine AF hK fun yH=>?_;clear hK K;clear yH;refine AJ 4 fun K hK=>?_;exact Zcs
  case rest=>
   rename World=>wd;obtain⟨lp,q⟩:=hcut.out;clear HP HRN u0 u1 u2 u3 u4 u5 u6 t0 t1 t2 t3 t4 t5 t6 lc lc' c3 fz3 nB4 nX4 hcut;obtain⟨u0,u1,u2,u3,u4,u5,u6⟩:=HBX.out wd (HXC.out _ _ _ _ _ _ _ q);have HQ:=A8 q;clear q;go_upto_if 30 with(go_at_call 64;(with_reducible refine(KS.out _).mono ?_);rintro e9 w4 ⟨rfl,hb4⟩;have HQ4:=A8 (HQ.out.below hb4);clear hb4)
   clear u0 u1 u2 u3 u4 u5 u6 HQ;obtain⟨u0,u1,u2,u3,u4,u5,u6⟩:=HBX.out w4 (HXC.out _ _ _ _ _ _ _ HQ4.out);go_cut [] (fun wx=>Hid (Gj E n p W0 WB tag vl mv mn (ws++[I]) (vecsL (ws++[I])) (BF c ws) lp a' b' wx))
   case first=>
    cases SD with
    |true=>
     obtain⟨hd1,hd2⟩:=HDD.out rfl;obtain⟨dn,hdn⟩:∃k,d.toNat=k:=⟨_,rfl⟩
     rw[hdn]at hd1 hd2;obtain⟨w5,hrun,q5,ho5,hb5⟩:=(HQ4.below (AQ _)).putV oM (k:=dn) (by have:=HN.out;omega);have HP:Hid (Gj E n p W0 WB tag vl mv mn (ws++[I]) (vecsL (ws++[I])) (BF c ws) lp a' b' w5):=by
      show Gj _ _ _ _ _ _ _ _ _ _ _ _ _ _ _ _;rw[HVS.out,show vecA (vecsL ws) I=Ew (vecsL ws) dn by unfold vecA;rw[if_pos HIV.2.1,HIV.2.2,hdn]];exact q5
     have v1:=(HQ4.cells hp).2.1;have v1':=(q5.cells hp).2.1;obtain⟨-,t1,-⟩:=HBX.out w5 (HXC.out _ _ _ _ _ _ _ q5);rw[hd1]at u1 t1;clear q5 ho5 hb5 hdn hd2 hd1 u0 u2 u3 u4 u5 u6;go_upto_region 5 with fail;refine rG (fun v=>v.cell? ⟨WB,p*3+1,none⟩=some (.map (some a'))/\v.cell? ⟨X,1,none⟩=some (.int .i64 (dn:Int))) fun yH=>?_;refine Tf 0 1 2 3 4 5 ?_;refine BU 6 ?_;clear yH;refine AJ 7 fun K hK=>?_;go_simp;refine AF hK fun yH=>?_;clear hK K;refine wpAnyH_done kR ?_ _;go_wp2;go_meet;exact HP.out
    |false=>
     have HP:Hid (Gj E n p W0 WB tag vl mv mn (ws++[I]) (vecsL (ws++[I])) (BF c ws) lp a' b' w4):=by
      show Gj _ _ _ _ _ _ _ _ _ _ _ _ _ _ _ _;rw[HVS.out,show vecA (vecsL ws) I=vecsL ws by unfold vecA;rw[if_neg (by rw[HIV.2.1];decide)]];exact HQ4.out
     go_wp2;go_meet;exact HP.out
   case rest=>
    rename World=>we;have HQ5:=A8 hcut.out;clear hcut u0 u1 u2 u3 u4 u5 u6 HQ4;obtain⟨u0,u1,u2,u3,u4,u5,u6⟩:=HBX.out we (HXC.out _ _ _ _ _ _ _ HQ5.out);go_upto_block 0 with(go_at_call 65;(with_reducible refine(KR.out _).mono ?_);rintro e9 w6 ⟨u,rfl,ho6,hb6⟩;obtain⟨pu,qu,rfl⟩:=AD ho6;have HO6:=A8 ho6;have HQ6:=A8 (HQ5.out.below hb6);clear ho6 hb6)
    have HJ0:Hid (Gj E n p W0 WB tag vl mv mn (ws++[I]) (vecsL (ws++[I])) (Px c rs (BF c ws) 0) lp a' b' w6/\w6.ownsRow we.heap.size 3 1 (.slice pu RL qu) RL (BM rs)):=⟨HQ6.out,HO6.out⟩
    clear u0 u1 u2 u3 u4 u5 u6 HQ6 HO6 KR KS;go_wp2_with fail
    go_loopw [41] (fun iv wx=>∃u:Nat,u<=RL/\iv=.int .i64 (u:Int)/\Hid (Gj E n p W0 WB tag vl mv mn (ws++[I]) (vecsL (ws++[I])) (Px c rs (BF c ws) u) lp a' b' wx/\wx.ownsRow we.heap.size 3 1 (.slice pu RL qu) RL (BM rs))) (fun iv _=>RL-(intOf iv).toNat)
    case atStart=>exact⟨0,gI _,rfl,HJ0.out⟩
    case round=>
     clear HJ0;rename World=>wa;obtain⟨u,hu,rfl,HJ⟩:=hrel;by_cases hul:u<RL
     .have hur:u<rs.length:=by have:=HRL.out;omega
      obtain⟨rn,hrn,hr3⟩:=HRD.out _ (gD hur);have hnk:=HNU.out rs u hur;have hlen:=HNK.out rs u oM;have hr4:rn<c.regs.length:=by have:=HN.out;omega
      rw[hrn,HRT.out rn hr4]at hnk;obtain⟨gg,cp,e9,g1,g2,g3,g4,g5⟩:=EN HJ.2 oM;simp only[Value.slice.injEq]at e9;obtain⟨rfl,-,rfl⟩:=e9;have y0:=g5 u (.int .i64 rs[u]) (by simp[BM,hur]);rw[hrn]at y0;obtain⟨rb,ro,hrb,hcl⟩:=(HC.out wa HJ.1.be).at hr4;subst hrb;obtain⟨⟨tk,tp⟩,ht⟩:∃t,c.regs[rn]=t:=⟨_,rfl⟩
      rw[ht]at hcl;have hnk':Px c rs (BF c ws) (u+1)=if tk=1 then Ew (Px c rs (BF c ws) u) rn else Px c rs (BF c ws) u:=by
       rw[hnk];simp only[ht,Int.toNat_natCast]
      have y1:=hcl.at 0 (v:=.int .i64 tk) rfl;rw[Nat.add_zero]at y1;have j1:(0:Int)<=(u:Int):=oM;have j2:(u:Int)<(RL:Int):=oM;have k1:(0:Int)<=(rn:Int):=oM;have k2:(rn:Int)<(N:Int):=oM;have wj:IntKind.i64.wrap ((u:Int)+1)=((u+1:Nat):Int):=by rw[IntKind.wrap_i64];omega
      have v2:=(HJ.1.cells hp).2.2;by_cases hk:tk=1
      .rw[if_pos hk]at hnk';obtain⟨w7,hrun,q7,ho7,hb7⟩:=HJ.1.putN oM (k:=rn) (by have:=HN.out;omega);have HQ:Hid (Gj E n p W0 WB tag vl mv mn (ws++[I]) (vecsL (ws++[I])) (Px c rs (BF c ws) (u+1)) lp a' b' w7/\w7.ownsRow we.heap.size 3 1 (.slice (some ⟨gg,0,none⟩) RL qu) RL (BM rs)):=by
        refine⟨by rw[hnk'];exact q7,Ag HJ.2 fun y hy=>ho7 y (HJ.2.lt y hy).2 (fun r=>BP HJ.1.n HJ.2 (hy.trans (congrArg some r)))⟩
       subst hk;clear hnk hnk' hcl ht q7 ho7 hb7 HJ g1 g2 g3 g4 g5 hrn hur hr3 hr4 hlen;exact Zef
      .rw[if_neg hk]at hnk';have hk':(tk==1)=false:=by simpa using hk
       have HQ:Hid (Gj E n p W0 WB tag vl mv mn (ws++[I]) (vecsL (ws++[I])) (Px c rs (BF c ws) (u+1)) lp a' b' wa/\wa.ownsRow we.heap.size 3 1 (.slice (some ⟨gg,0,none⟩) RL qu) RL (BM rs)):=⟨by rw[hnk'];exact HJ.1,HJ.2⟩
       clear hnk hnk' hcl ht HJ g1 g2 g3 g4 g5 hrn hur hr3 hr4 hlen hk;exact Zef
     .have j9:¬ (u:Int)<(RL:Int):=oM;have hue:u=RL:=oM;have HQ:=A8 (HFIN.out lp a' b' wa (by
       have h9:=HJ.1;rw[hue,<-HRL.out,<-HNS.out]at h9
       exact h9))
      clear hul hue HJ;exact Zdv
def EV(n:Nat)(s:Fz):Nat:=s.left.length+3*(B9 s.wait n).length
theorem Y4(d p:Nat)(ws:List Aa):(Be d p ws).length<=3*ws.length:=by
 unfold Be;split
 .simp
 .rename_i h;have:0<ws.length:=List.length_pos_iff.2 h;split
  .omega
  .simp;omega
theorem SV{n p:Nat}(hp:p<n)(s:Fz):EV n (Ba s p)<=EV n s:=by
 obtain⟨A,B,h1,h2,-⟩:=DB (wt:=s.wait) hp;have h3:=Y4 s.dep p (s.wait p);unfold EV Ba;simp only[h1,h2,List.length_append,List.length_nil];omega
theorem CH{n:Nat}(q:List Aa->Bool)(s:Fz):∀m,m<=n->EV n (A9 q s m)<=EV n s
 |0,_=>gF _
 |m+1,h=>by
  have h1:=CH (n:=n) q s m oM;unfold A9;split
  .exact gH (SV (show m<n by omega) _) h1
  .exact h1
theorem Gk{n p:Nat}(hp:p<n)(s:Fz):s.left.length+3*(s.wait p).length<=EV n s:=by
 obtain⟨A,B,h1,h2,-⟩:=DB (wt:=s.wait) hp;unfold EV;rw[h2];simp only[List.length_append];omega
theorem N9(n:Nat)(s:Fz)(i:Aa)(d:Nat):EV n (I8 s i d)=EV n s+1:=by
 unfold EV I8;simp only[List.length_append,List.length_singleton];omega
theorem Yx{c:Cd}{n:Nat}(s:Fz)(i:Aa):EV n (QH c s i)<=EV n s+3:=by
 unfold EV QH;by_cases hp:BH c i<n
 .obtain⟨A,B,h1,h2,-⟩:=DB (wt:=s.wait) hp;have e:(fun x=>if x=BH c i then s.wait x++[i]else s.wait x)=fun x=>if x=BH c i then s.wait (BH c i)++[i]else s.wait x:=funext fun x=>by
   split
   .rename_i q;rw[q]
   .rfl
  simp only[e,h1,h2,List.length_append,List.length_singleton];omega
 .have e:B9 (fun x=>if x=BH c i then s.wait x++[i]else s.wait x) n=B9 s.wait n:=GI fun x hx=>if_neg oM;simp only[e];omega
theorem Vd(c:Cd)(s:Fz)(i:Aa):EV c.sign.length (Ce c s i)<=EV c.sign.length s+3:=by
 unfold Ce;split
 .omega
 .split
  .exact Yx s i
  .split
   .rw[N9];have:=CH (n:=c.sign.length) Bc s c.sign.length (gF _);omega
   .split
    .rw[N9];have:=CH (n:=c.sign.length) Bc s c.sign.length (gF _);omega
    .rw[N9];have:=CH (n:=c.sign.length) (fun ws=>Db c ws i) s c.sign.length (gF _);omega
theorem Yy(c:Cd)(l:List Aa):EV c.sign.length (CG c l)<=3*l.length:=by
 induction l using DK with
 |h0=>
  show EV c.sign.length GF<=0;unfold EV GF;simp only[List.length_nil];rw[FG fun _ _=>rfl];simp
 |h1 l i ih=>
  rw[EE];have:=Vd c (CG c l) i;rw[List.length_append,List.length_singleton];omega
theorem Y1(ws:List Aa):(vecsL ws).length<=ws.length:=by
 induction ws using DK with
 |h0=>exact gF _
 |h1 l i ih=>
  rw[MS,List.length_append,List.length_singleton];unfold vecA;split
  .have:=OC (vecsL l) i.d.toNat;omega
  .omega
theorem Mq(c:Cd)(ws:List Aa):(BF c ws).length<=3*ws.length:=by
 induction ws using DK with
 |h0=>exact gF _
 |h1 l i ih=>
  rw[Wg,List.length_append,List.length_singleton];have h1:=Qy c (Ac i (A3 i.op)) (BF c l) _ (gF _);have h2:(Ac i (A3 i.op)).length<=3:=GZ _ _;omega
theorem Tz:(prog.info? 97).map (fun i=>(i.zero,i.size,i.bytes))=some (some (.agg #[.slice none 0 0,.map none,.map none]),3,40):=kR
theorem Zi(m:Nat)(h:m<=1000000)(w:World):(Instr.makeSlice 61 (.int .i64 m) (.int .i64 m)).run prog w=.ok (.slice (some ⟨w.heap.size,0,none⟩) m m) (w.alloc (.cells (madeCells #[.slice none 0 0,.map none,.map none] (m*3)) 97)):=by
 obtain⟨i,hi,hz,hs,hb⟩:=info_parts Tz;have hr:=run_make (P:=prog) w 61 97 i _ underlying61 hi hz .i64 .i64 m m oM (Int.le_refl _) (by rw[hb];omega) oM;rw[hs,show(Value.agg #[.slice none 0 0,.map none,.map none]).cells=#[.slice none 0 0,.map none,.map none]from rfl]at hr;simpa using hr
theorem Qr(n i:Nat)(hi:i<n):(madeCells #[.slice none 0 0,.map none,.map none] n)[i]? =some (Yf (fun _=>.slice none 0 0) (fun _=>none) (fun _=>none) i):=by
 unfold madeCells Yf;rw[Array.getElem?_map,Array.getElem?_range];simp[hi];rcases(show i%3=0\/i%3=1\/i%3=2 by omega)with h|h|h<;>rw[h]<;>rfl
theorem Ub(w:World)(m:Nat):(w.alloc (.cells (madeCells #[.slice none 0 0,.map none,.map none] (m*3)) 97)).rowIs w.heap.size 97 (m*3) (Yf (fun _=>.slice none 0 0) (fun _=>none) (fun _=>none)):=by
 have h:=World.rowIs_alloc w (madeCells #[.slice none 0 0,.map none,.map none] (m*3)) 97 (Yf (fun _=>.slice none 0 0) (fun _=>none) (fun _=>none)) (fun i hi=>Qr _ _ (by rw[size_madeCells]at hi;exact hi));rw[size_madeCells]at h;exact h
theorem VD(c:Cd)(w:World)(C:Nat)(p0:Option Addr)(q0:Nat)(hC:w.cell? ⟨C,0,none⟩=some (.slice p0 c.sign.length q0))(hn:c.sign.length<=100000):
 Calls prog 24 #[.pointer (some ⟨C,0,none⟩)] w fun e w'=>e=.returned (.pointer (some ⟨w.heap.size+1,0,none⟩))/\Below w.heap.size w w'/\CQ w.heap.size c c.sign.length GF w' (w.heap.size+1) C w.heap.size (.slice none 0 0) (fun _=>.slice none 0 0) (fun _=>none) (fun _=>none) (fun _=>0):=by
 have hmk:=Zi c.sign.length oM w;obtain⟨W1,hW1⟩:∃W,w.alloc (.cells (madeCells #[.slice none 0 0,.map none,.map none] (c.sign.length*3)) 97)=W:=⟨_,rfl⟩
 have hr:=Ub w c.sign.length;have hb1:=A0 w (.cells (madeCells #[.slice none 0 0,.map none,.map none] (c.sign.length*3)) 97);have hs1:W1.heap.size=w.heap.size+1:=by rw[<-hW1];simp
 rw[hW1]at hmk hr hb1;have HR:=A8 hr;have HB1:=A8 hb1;have HS1:=A8 hs1;obtain⟨N,hN⟩:=gA (c.sign.length)
 rw[hN]at hmk HR hC |-;clear hr hb1 hs1 hW1 hn;go_enter func24,ntmps24;go_wp2;refine bodyPost_ret (by simp[results,results24,go_sem];try rfl) rfl ?_;have hb2:=A0 W1 (.cells #[.pointer (some ⟨C,0,none⟩),.slice (some ⟨w.heap.size,0,none⟩) N N,.int .i64 0,.slice none 0 0] 63);have hrow:(W1.alloc (.cells #[.pointer (some ⟨C,0,none⟩),.slice (some ⟨w.heap.size,0,none⟩) N N,.int .i64 0,.slice none 0 0] 63)).rowIs W1.heap.size 63 4 (f4 (.pointer (some ⟨C,0,none⟩)) (.slice (some ⟨w.heap.size,0,none⟩) N N) (.int .i64 0) (.slice none 0 0)):=(Di W1 #[.pointer (some ⟨C,0,none⟩),.slice (some ⟨w.heap.size,0,none⟩) N N,.int .i64 0,.slice none 0 0] 63).congr fun j hj=>by
  have hj':j<4:=hj;exact UZ
 rw[HS1.out]at hrow;refine⟨by rw[HS1.out],bel HB1.out hb2,⟨hrow,HR.of_block (hb2.block _ HR.lt),fun p _=>⟨World.ownsRow_nil _ _ _ 7,.inl ⟨rfl,rfl⟩,.inl ⟨rfl,rfl⟩,fun _=>⟨rfl,rfl,rfl⟩,fun q=>absurd rfl q⟩,World.ownsRow_nil _ _ _ 7,fun g hg=>(by cases hg),fun p g _ hg=>(by cases hg),fun p g _ hg=>(by cases hg),fun p g _ hg=>(by cases hg),oM,gF _,(bel HB1.out hb2).size⟩⟩
def Qu(c:Cd)(s:Fz)(i:Aa):Fz:=if i.op=34 then{A9 Bc s c.sign.length with dep:=s.dep+1}else if i.op=35 then{A9 Bc s c.sign.length with dep:=s.dep-1}else A9 (fun ws=>Db c ws i) s c.sign.length
theorem XT{c:Cd}{s:Fz}{i:Aa}(h6:i.op≠36)(h7:i.op≠37)(hm:AW c i=false):Ce c s i={Qu c s i with left:=(Qu c s i).left++[i]}:=by
 unfold Ce Qu I8;rw[if_neg oM,if_neg (by rw[hm];decide)];split
 .rfl
 .split
  .rfl
  .have:=Du (q:=fun ws=>Db c ws i) (s:=s) c.sign.length;simp only[this]
theorem Zj{c:Cd}{s:Fz}{i:Aa}:(Qu c s i).left.length<=EV c.sign.length s:=by
 have h1:=CH (n:=c.sign.length) Bc s c.sign.length (gF _);have h2:=CH (n:=c.sign.length) (fun ws=>Db c ws i) s c.sign.length (gF _);unfold EV at h1 h2;unfold Qu EV;split
 .show(A9 Bc s c.sign.length).left.length<=_;omega
 .split
  .show(A9 Bc s c.sign.length).left.length<=_;omega
  .omega
theorem XU{c:Cd}{s:Fz}{i:Aa}(h6:i.op≠36)(h7:i.op≠37)(hm:AW c i=true):Ce c s i={s with wait:=fun x=>if x=BH c i then s.wait (BH c i)++[i]else s.wait x}:=by
 unfold Ce QH;rw[if_neg oM,if_pos hm];congr 1;funext x;split
 .rename_i q;rw[q]
 .rfl
theorem CQ.setDep{E:Nat}{c:Cd}{n:Nat}{s:Fz}{w:World}{B C WB:Nat}{lv:Value}{vl:Nat->Value}{mv mn:Nat->Option Nat}{tag:Nat->Nat}(h:CQ E c n s w B C WB lv vl mv mn tag)(d:Nat):CQ E c n {s with dep:=d} (w.setCell ⟨B,2,none⟩ (.int .i64 (d:Int))) B C WB lv vl mv mn tag:=by
 have k3:∀k,k≠B->(w.setCell ⟨B,2,none⟩ (.int .i64 (d:Int))).heap[k]? =w.heap[k]? :=fun k hk=>gE hk;refine⟨(h.b.set 2 _).congr fun j hj=>?_,h.wt.of_block (k3 _ (JT h.wt h.b dE)),fun p hp=>?_,Ag h.lf fun k hk=>k3 k (fun e=>An h.lf h.b dE (hk.trans (congrArg some e))),h.tl,h.tp,h.tv,h.tn,h.geB,h.geW,by simpa using h.le⟩
 .exact UZ
 .have hq:=h.lp p hp;exact hq.keep (fun k hk=>k3 k (fun e=>An hq.l h.b dE (hk.trans (congrArg some e)))) (fun k hk=>k3 k (fun e=>B7 (hq.v.lt hk) h.b e)) (fun k hk=>k3 k (fun e=>B7 (hq.n.lt hk) h.b e))
theorem Ts(E:Nat)(c:Cd)(s:Fz)(w:World)(B C WB:Nat)(lv:Value)(vl:Nat->Value)(mv mn:Nat->Option Nat)(tag:Nat->Nat)(h:CQ E c c.sign.length s w B C WB lv vl mv mn tag)(ht:Aj c=true)(i:Aa)(hi:Bp c i)(hR:c.regs.length<=16384)(hSg:c.sign.length<=100000)(p1:Option Addr)(q1:Nat)(hC:∀v,Below E w v->v.cell? ⟨C,1,none⟩=some (.slice p1 c.regs.length q1)/\AZ 2 I2 v (.slice p1 c.regs.length q1) c.regs)(hbg:EV c.sign.length s<=100000)(hd5:i.op=35->1<=s.dep)(hdp:s.dep<=100000):
 Calls prog 25 #[.pointer (some ⟨B,0,none⟩),BV i] w fun e w'=>e=.returned (.tuple #[])/\Below E w w'/\∃lv vl mv mn tg,CQ E c c.sign.length (Ce c s i) w' B C WB lv vl mv mn tg:=by
 have hpar:=fun(hm:AW c i=true)=>Ft ht hi hm;obtain⟨n,hn⟩:=gA (c.sign.length)
 have HW:Hid (∀v lv' vl' mv' mn' tag',CQ E c n s v B C WB lv' vl' mv' mn' tag'->Calls prog 26 #[.pointer (some ⟨B,0,none⟩)] v fun e w'=>e=.returned (.tuple #[])/\Below E v w'/\∃lv vl mv mn tg,CQ E c n (A9 Bc s n) w' B C WB lv vl mv mn tg/\(∀b,b<v.heap.size->tg b=tag' b)/\∀b,b<v.heap.size->b≠B->b≠WB->tag' b≠0->w'.heap[b]? =v.heap[b]?):=fun v lv' vl' mv' mn' tag' q=>Hg E c n s v B C WB lv' vl' mv' mn' tag' q oM fun k hk=>by
  have h1:=Gk (p:=k) (n:=n) hk (A9 Bc s k);have h2:=CH (n:=n) Bc s k oM;rw[hn]at hbg;omega
 have HA:Hid (∀v lv' vl' mv' mn' tag',Below E w v->CQ E c n s v B C WB lv' vl' mv' mn' tag'->Calls prog 43 #[.pointer (some ⟨B,0,none⟩),BV i] v fun e w'=>e=.returned (.tuple #[])/\Below E v w'/\∃lv vl mv mn tg,CQ E c n (A9 (fun ws=>Db c ws i) s n) w' B C WB lv vl mv mn tg/\(∀b,b<v.heap.size->tg b=tag' b)/\∀b,b<v.heap.size->b≠B->b≠WB->tag' b≠0->w'.heap[b]? =v.heap[b]?):=fun v lv' vl' mv' mn' tag' hb q=>JC E c n s v B C WB lv' vl' mv' mn' tag' q oM i hi hR p1 q1 (fun u hu=>hC u (hb.trans hu)) (fun k hk=>by
  have h1:=Gk (p:=k) (n:=n) hk (A9 (fun ws=>Db c ws i) s k);have h2:=CH (n:=n) (fun ws=>Db c ws i) s k oM;rw[hn]at hbg
  omega) (fun k hk=>by
  have h1:=Gk (p:=k) (n:=n) hk (A9 (fun ws=>Db c ws i) s k);have h2:=CH (n:=n) (fun ws=>Db c ws i) s k oM;have h3:=Mq c ((A9 (fun ws=>Db c ws i) s k).wait k);rw[hn]at hbg
  omega)
 have HPT:Hid (AW c i=true->∀v lv' vl' mv' mn' tag',Below E w v->CQ E c n s v B C WB lv' vl' mv' mn' tag'->Calls prog 42 #[.pointer (some ⟨WB,BH c i*3,none⟩),BV i,.slice p1 c.regs.length q1] v fun e w'=>e=.returned (.tuple #[])/\Below E v w'/\(∀y,y<v.heap.size->y≠WB->(vl' (BH c i)).ownBlock≠some y->mv' (BH c i)≠some y->mn' (BH c i)≠some y->w'.heap[y]? =v.heap[y]?)/\∃vl mv mn tg,CQ E c n {s with wait:=fun x=>if x=BH c i then s.wait (BH c i)++[i]else s.wait x} w' B C WB lv' vl mv mn tg/\∀y,y<v.heap.size->tg y=tag' y):=fun hm v lv' vl' mv' mn' tag' hb q=>by
  have hp:BH c i<n:=hn▸(hpar hm).2;have h1:=Gk (p:=BH c i) (n:=n) hp s;have h3:=Mq c (s.wait (BH c i));have h4:=Y1 (s.wait (BH c i));rw[hn]at hbg;exact VF E c n s v B C WB lv' vl' mv' mn' tag' q (BH c i) hp i hi hR p1 q1 (fun u hu=>(hC u (hb.trans hu)).2) oM oM oM _ rfl
 have HLO:=A8 (fun v hB hc hr=>On c i hi B C p1 q1 v hB hc hr);have HQM:Hid (∀q:Int,AW c i=true->(q=((BH c i:Nat):Int)\/q=(Ak c.regs i (A3 i.op)).par)->q=((BH c i:Nat):Int)/\BH c i<n):=fun q hm hq=>by
  obtain⟨e1,e2⟩:=hpar hm;refine⟨hq.elim id fun e=>?_,hn▸e2⟩;rw[e,e1]
 have HTM:=A8 (fun(h6:i.op≠36) (h7:i.op≠37) (hm:AW c i=false)=>XT (s:=s) h6 h7 hm);have HTP:=A8 (fun(h6:i.op≠36) (h7:i.op≠37) (hm:AW c i=true)=>XU (s:=s) h6 h7 hm);have HTX:Hid ((i.op=36\/i.op=37)->Ce c s i=s):=fun q=>by unfold Ce;rw[if_pos q]
 have HMB:=A8 (Zj (c:=c) (s:=s) (i:=i));have HMD:Hid (Qu c s i=if i.op=34 then{A9 Bc s n with dep:=s.dep+1}else if i.op=35 then{A9 Bc s n with dep:=s.dep-1}else A9 (fun ws=>Db c ws i) s n):=by rw[<-hn];rfl
 have HFD:Hid ((A9 Bc s n).dep=s.dep):=Du n;have HC:=A8 hC;rw[hn]at h hbg HMB |-;obtain⟨TK,hTK⟩:∃t,Ce c s i=t:=⟨_,rfl⟩
 obtain⟨MD,hMD⟩:∃t,Qu c s i=t:=⟨_,rfl⟩
 obtain⟨ML,hML⟩:∃t,AW c i=t:=⟨_,rfl⟩
 obtain⟨PZ,hPZ⟩:∃t,BH c i=t:=⟨_,rfl⟩
 obtain⟨MP,hMP⟩:∃t,(Ak c.regs i (A3 i.op)).par=t:=⟨_,rfl⟩
 obtain⟨FA,hFA⟩:∃t,A9 Bc s n=t:=⟨_,rfl⟩
 obtain⟨FB,hFB⟩:∃t,A9 (fun ws=>Db c ws i) s n=t:=⟨_,rfl⟩
 obtain⟨PT,hPT⟩:∃t:Fz,{s with wait:=fun x=>if x=BH c i then s.wait (BH c i)++[i]else s.wait x}=t:=⟨_,rfl⟩
 simp only[hPT]at HPT HTP;simp only[hTK,hMD,hML,hPZ,hMP,hFA,hFB]at HTM HTP HTX HMB HMD HFD HPT HLO HQM HW HA |-;clear hTK hMD hML hPZ hMP hFA hFB hPT hpar hC;obtain⟨I,hI⟩:=gA i
 have HIE:Hid (I=i):=hI.symm;obtain⟨N,hN⟩:=gA (c.regs.length)
 simp only[hN]at HC HPT HLO;obtain⟨op,d,a,b,e,m,z⟩:=i;unfold BV at HA HPT HLO |-;simp only at HA HPT HLO HTM HTP HTX HMD hd5 |-;obtain⟨W0,hW0⟩:∃W,w.alloc (.cells #[.int .i64 op,.int .i64 d,.int .i64 a,.int .i64 b,.int .i64 e,.int .i64 m,.int .u32 z] 45)=W:=⟨_,rfl⟩
 have hb0:Below w.heap.size w W0:=by rw[<-hW0];exact A0 _ _
 have hs0:W0.heap.size=w.heap.size+1:=by rw[<-hW0];simp
 have hX:W0.rowIs w.heap.size 45 7 (bxF op d a b e m z):=by rw[<-hW0];exact Di w _ _
 have HE0:Hid (Below E w W0):=hb0.mono h.le;obtain⟨tg0,htg0⟩:∃t,(fun y=>if y<w.heap.size then tag y else 1)=t:=⟨_,rfl⟩
 have hM0:=(h.retag (tg:=tg0) (fun y hy=>by rw[<-htg0];exact if_pos hy)).below hb0;obtain⟨X,hXe⟩:=gA (w.heap.size)
 have HX1:Hid (X+1=W0.heap.size/\X≠B/\X≠WB/\tg0 X≠0):=⟨oM,by have:=h.b.lt;omega,by have:=h.wt.lt;omega,by rw[<-htg0,<-hXe];simp⟩
 rw[hXe]at hX;have HBX:Hid (∀v:World,v.heap[X]? =W0.heap[X]? ->v.cell? ⟨X,0,none⟩=some (.int .i64 op)/\v.cell? ⟨X,1,none⟩=some (.int .i64 d)/\v.cell? ⟨X,2,none⟩=some (.int .i64 a)/\v.cell? ⟨X,3,none⟩=some (.int .i64 b)/\v.cell? ⟨X,4,none⟩=some (.int .i64 e)/\v.cell? ⟨X,5,none⟩=some (.int .i64 m)/\v.cell? ⟨X,6,none⟩=some (.int .u32 z)):=fun v hb=>by
  exact Zcx
 have HM0:=A8 hM0;have HNX:Hid (∀p,p<n->(vl p).ownBlock≠some X/\mv p≠some X/\mn p≠some X):=fun p hp=>by
  have hl:=h.lp p hp;refine⟨fun q=>?_,fun q=>?_,fun q=>?_⟩
  .have:=(hl.l.lt _ q).2;omega
  .have:=(hl.v.lt q).lt;omega
  .have:=(hl.n.lt q).lt;omega
 obtain⟨xu0,xu1,xu2,xu3,xu4,xu5,xu6⟩:=HBX.out W0 rfl;clear h hb0 hs0 hX hM0 htg0 hN hi hn;go_enter func25,ntmps25;go_upto_region 1 with fail;try rw[hW0]
 try rw[hXe]
 clear hW0 hXe;by_cases o6:op=36
 .have HQ:Hid (∃lv vl mv mn tg,CQ E c n TK W0 B C WB lv vl mv mn tg):=by
   rw[HTX.out (.inl o6)];exact⟨_,_,_,_,_,HM0.out⟩
  subst o6;exact Zdu
 by_cases o7:op=37
 .have HQ:Hid (∃lv vl mv mn tg,CQ E c n TK W0 B C WB lv vl mv mn tg):=by
   rw[HTX.out (.inr o7)];exact⟨_,_,_,_,_,HM0.out⟩
  subst o7;exact Zdu
 have HTM':=A8 (HTM.out o6 o7);have HTP':=A8 (HTP.out o6 o7);have o6':(op==36)=false:=by simpa using o6
 have o7':(op==37)=false:=by simpa using o7
 clear HTX HTM HTP o6 o7;have KLO:Hid (Calls prog 41 #[.pointer (some ⟨B,0,none⟩),.agg #[.int .i64 op,.int .i64 d,.int .i64 a,.int .i64 b,.int .i64 e,.int .i64 m,.int .u32 z]] W0 fun e w'=>∃q:Int,e=.returned (.tuple #[.int .i64 q,.bool ML])/\(ML=true->q=((PZ:Nat):Int)\/q=MP)/\Below W0.heap.size W0 w'):=HLO.out W0 (HM0.out.b.cell (i:=0) dE) (HC.out W0 HE0.out).1 (HC.out W0 HE0.out).2;clear HLO;go_upto_if 20 with(go_at_call 41;(with_reducible refine KLO.out.mono ?_);rintro e9 w1 ⟨qz,rfl,hqz,hb1⟩;have HB1:=A8 hb1;have HQZ:=A8 hqz;clear hb1 hqz)
 have hM1:=HM0.below HB1.out;have HM1:=A8 hM1;have HE1:Hid (Below E w w1):=HE0.trans (HB1.mono HM0.le);have hX1:w1.heap[X]? =W0.heap[X]? :=HB1.block X (by have:=HX1.1;omega);have HX1s:Hid (X<w1.heap.size/\w1.heap[X]? =W0.heap[X]?):=⟨by have:=HX1.1;have:=HB1.size;omega,hX1⟩
 clear xu0 xu1 xu2 xu3 xu4 xu5 xu6 KLO;obtain⟨xu0,xu1,xu2,xu3,xu4,xu5,xu6⟩:=HBX.out w1 hX1;cases ML with
 |true=>
  obtain⟨rfl,hpz⟩:=HQM.out qz rfl (HQZ.out rfl);have b0:w1.cell? ⟨B,0,none⟩=some (.pointer (some ⟨C,0,none⟩)):=hM1.b.cell (i:=0) dE;have b1:w1.cell? ⟨B,1,none⟩=some (.slice (some ⟨WB,0,none⟩) n n):=hM1.b.cell (i:=1) dE;have cc:=(HC.out w1 HE1.out).1;have HKP:Hid (∀v,Below w1.heap.size w1 v->Calls prog 42 #[.pointer (some ⟨WB,PZ*3,none⟩),.agg #[.int .i64 op,.int .i64 d,.int .i64 a,.int .i64 b,.int .i64 e,.int .i64 m,.int .u32 z],.slice p1 N q1] v fun e w'=>e=.returned (.tuple #[])/\Below E w w'/\w'.heap[X]? =W0.heap[X]?/\∃lv vl mv mn tg,CQ E c n TK w' B C WB lv vl mv mn tg):=fun v hv=>(HPT.out rfl v _ _ _ _ _ (HE1.trans (hv.mono HM1.le)) (HM1.below hv)).mono fun e w' ⟨x1,x2,x0,x3,x4,x5,x6,x7,x8⟩=>by
   rw[HTP'.out rfl];obtain⟨n1,n2,n3⟩:=HNX.out PZ hpz;have hsv:=hv.size;exact⟨x1,(HE1.trans (hv.mono HM1.le)).trans x2,(x0 X (by have:=HX1s.1;omega) HX1.2.2.1 n1 n2 n3).trans ((hv.block X HX1s.1).trans HX1s.2),_,x3,x4,x5,x6,x7⟩
  have i1:(0:Int)<=(PZ:Int):=oM;have i2:(PZ:Int)<(n:Int):=oM;clear hM1 HTM' HTP' HW HA HPT HMD HFD HMB hX1 hpz;go_upto_region 4 with fail;refine rG (fun v=>v.cell? ⟨X,0,none⟩=some (.int .i64 op)/\v.cell? ⟨X,1,none⟩=some (.int .i64 d)/\v.cell? ⟨X,2,none⟩=some (.int .i64 a)/\v.cell? ⟨X,3,none⟩=some (.int .i64 b)/\v.cell? ⟨X,4,none⟩=some (.int .i64 e)/\v.cell? ⟨X,5,none⟩=some (.int .i64 m)/\v.cell? ⟨X,6,none⟩=some (.int .u32 z)/\v.cell? ⟨C,1,none⟩=some (.slice p1 N q1)/\v.cell? ⟨B,0,none⟩=some (.pointer (some ⟨C,0,none⟩))/\v.cell? ⟨B,1,none⟩=some (.slice (some ⟨WB,0,none⟩) n n)) fun yH=>?_;refine Tf 0 1 2 3 4 5 ?_;refine Tf 6 7 8 9 10 11 ?_;refine Tb 12 13 ?_;clear yH;refine AJ 14 fun K hK=>?_;go_simp;(go_at_call 42;(with_reducible refine(HKP.out _ (AQ _)).mono ?_);rintro e9 w4 ⟨rfl,hb4,hx4,lv4,vl4,mv4,mn4,tg4,hf4⟩;have HB4:=A8 hb4;have HF4:Hid (∃lv vl mv mn tg,CQ E c n TK w4 B C WB lv vl mv mn tg):=⟨lv4,vl4,mv4,mn4,tg4,hf4⟩;obtain⟨yu0,yu1,yu2,yu3,yu4,yu5,yu6⟩:=HBX.out w4 hx4;have yb0:w4.cell? ⟨B,0,none⟩=some (.pointer (some ⟨C,0,none⟩)):=hf4.b.cell (i:=0) dE;have yb1:w4.cell? ⟨B,1,none⟩=some (.slice (some ⟨WB,0,none⟩) n n):=hf4.b.cell (i:=1) dE;have ycc:=(HC.out w4 hb4).1;clear hb4 hf4 hx4);try(go_wp2_with fail)
  refine AF hK fun yH=>?_;clear hK K;refine wpAnyH_done kR ?_ _;go_wp2;first|go_end0|refine bodyPost_ret (results_none rfl _ _ _) rfl ?_|(simp only[Exit.inBlock,Exit.then];refine bodyPost_ret (results_none rfl _ _ _) rfl ?_)
  exact⟨rfl,HB4.out,HF4.out⟩
 |false=>
  have HTT:=A8 (HTM'.out rfl);clear HTM' HTP' HPT HQM HQZ hM1;go_upto_block 0 with fail;go_cut [] (fun wx=>Hid (Below E w wx/\wx.heap[X]? =W0.heap[X]?/\X<wx.heap.size/\∃lv vl mv mn tg,CQ E c n MD wx B C WB lv vl mv mn tg/\tg X≠0))
  case first=>
   have KX:Hid (∀ (v:World) (tg:Nat->Nat),w1.heap.size<=v.heap.size->(∀y,y<w1.heap.size->tg y=tg0 y)->(∀y,y<w1.heap.size->y≠B->y≠WB->tg0 y≠0->v.heap[y]? =w1.heap[y]?)->v.heap[X]? =W0.heap[X]?/\X<v.heap.size/\tg X≠0):=fun v tg g1 g2 g3=>by
    obtain⟨x1,x2⟩:=HX1s.out;obtain⟨-,y1,y2,y3⟩:=HX1.out;exact⟨(g3 X x1 y1 y2 y3).trans x2,oM,by rw[g2 X x1];exact y3⟩
   by_cases o4:op=34
   .have KW:Hid (Calls prog 26 #[.pointer (some ⟨B,0,none⟩)] w1 fun e w'=>e=.returned (.tuple #[])/\Hid (w'.cell? ⟨B,2,none⟩=some (.int .i64 (s.dep:Int))/\w'.frozen? ⟨B,2,none⟩=false/\(Below E w (w'.setCell ⟨B,2,none⟩ (.int .i64 ((s.dep+1:Nat):Int)))/\(w'.setCell ⟨B,2,none⟩ (.int .i64 ((s.dep+1:Nat):Int))).heap[X]? =W0.heap[X]?/\X<(w'.setCell ⟨B,2,none⟩ (.int .i64 ((s.dep+1:Nat):Int))).heap.size/\∃lv vl mv mn tg,CQ E c n MD (w'.setCell ⟨B,2,none⟩ (.int .i64 ((s.dep+1:Nat):Int))) B C WB lv vl mv mn tg/\tg X≠0))):=(HW.out w1 _ _ _ _ _ HM1.out).mono fun e w' ⟨x1,x2,x3,x4,x5,x6,x7,x8,x9,y1⟩=>by
     obtain⟨k1,k2,k3⟩:=KX.out w' x7 x2.size x9 y1;have hdc:=x8.b.cell (i:=2) dE;have hdf:=x8.b.frozen 2;have hMDe:MD={FA with dep:=s.dep+1}:=by rw[HMD.out,if_pos o4]
     have hset:=x8.setDep (s.dep+1);have hfd:=HFD.out;refine⟨x1,⟨by rw[<-hfd];exact hdc,hdf,(HE1.trans x2).setCell x8.geB _,?_,by simpa using k2,x3,x4,x5,x6,x7,by rw[hMDe];exact hset,k3⟩⟩;rw[gE HX1.2.1];exact k1
    have wp:IntKind.i64.wrap ((s.dep:Int)+1)=((s.dep+1:Nat):Int):=by rw[IntKind.wrap_i64];omega
    subst o4;clear HW HA HMD KX HM1 HMB HTT HC HX1 HX1s HBX HM0 HE1 HE0 hX1 hd5;exact Zeb
   by_cases o5:op=35
   .have hd1:=hd5 o5;obtain⟨dd,hdd⟩:∃k,s.dep-1=k:=⟨_,rfl⟩
    have hde:s.dep=dd+1:=oM;have KW:Hid (Calls prog 26 #[.pointer (some ⟨B,0,none⟩)] w1 fun e w'=>e=.returned (.tuple #[])/\Hid (w'.cell? ⟨B,2,none⟩=some (.int .i64 ((dd+1:Nat):Int))/\w'.frozen? ⟨B,2,none⟩=false/\(Below E w (w'.setCell ⟨B,2,none⟩ (.int .i64 (dd:Int)))/\(w'.setCell ⟨B,2,none⟩ (.int .i64 (dd:Int))).heap[X]? =W0.heap[X]?/\X<(w'.setCell ⟨B,2,none⟩ (.int .i64 (dd:Int))).heap.size/\∃lv vl mv mn tg,CQ E c n MD (w'.setCell ⟨B,2,none⟩ (.int .i64 (dd:Int))) B C WB lv vl mv mn tg/\tg X≠0))):=(HW.out w1 _ _ _ _ _ HM1.out).mono fun e w' ⟨x1,x2,x3,x4,x5,x6,x7,x8,x9,y1⟩=>by
     obtain⟨k1,k2,k3⟩:=KX.out w' x7 x2.size x9 y1;have hdc:=x8.b.cell (i:=2) dE;have hdf:=x8.b.frozen 2;have hMDe:MD={FA with dep:=dd}:=by rw[HMD.out,if_neg o4,if_pos o5,hdd]
     have hset:=x8.setDep dd;have hfd:=HFD.out;refine⟨x1,⟨by rw[<-hde,<-hfd];exact hdc,hdf,(HE1.trans x2).setCell x8.geB _,?_,by simpa using k2,x3,x4,x5,x6,x7,by rw[hMDe];exact hset,k3⟩⟩;rw[gE HX1.2.1];exact k1
    have wp:IntKind.i64.wrap (((dd+1:Nat):Int)-1)=(dd:Int):=by rw[IntKind.wrap_i64];omega
    have wp2:wrap64 (dd:Int)=(dd:Int):=by unfold wrap64;omega
    subst o5;clear HW HA HMD KX HM1 HMB HTT HC HX1 HX1s HBX HM0 HE1 HE0 hX1 hd5 hdd hde hd1 o4;exact Zeb
   .have KW:Hid (Calls prog 43 #[.pointer (some ⟨B,0,none⟩),.agg #[.int .i64 op,.int .i64 d,.int .i64 a,.int .i64 b,.int .i64 e,.int .i64 m,.int .u32 z]] w1 fun e w'=>e=.returned (.tuple #[])/\Hid (Below E w w'/\w'.heap[X]? =W0.heap[X]?/\X<w'.heap.size/\∃lv vl mv mn tg,CQ E c n MD w' B C WB lv vl mv mn tg/\tg X≠0)):=(HA.out w1 _ _ _ _ _ HE1.out HM1.out).mono fun e w' ⟨x1,x2,x3,x4,x5,x6,x7,x8,x9,y1⟩=>by
     obtain⟨k1,k2,k3⟩:=KX.out w' x7 x2.size x9 y1;have hMDe:MD=FB:=by rw[HMD.out,if_neg o4,if_neg o5]
     exact⟨x1,HE1.trans x2,k1,k2,x3,x4,x5,x6,x7,by rw[hMDe];exact x8,k3⟩
    have o4':(op==34)=false:=by simpa using o4
    have o5':(op==35)=false:=by simpa using o5
    clear HW HA HMD KX HM1 HMB HTT HC HX1 HX1s HBX HM0 HE1 HE0 hX1 hd5 o4 o5;go_wp2_with(go_at_call 43;(with_reducible refine KW.out.mono ?_);rintro e9 w5 ⟨rfl,hk5⟩);go_meet;exact hk5
  case rest=>
   rename World=>wc;obtain⟨hbw,hxw,hxs,lq,vl',mv',mn',tg',q,htx⟩:=hcut.out;clear xu0 xu1 xu2 xu3 xu4 xu5 xu6 HW HA HMD hcut;obtain⟨xu0,xu1,xu2,xu3,xu4,xu5,xu6⟩:=HBX.out wc hxw;have hXo:lq.ownBlock≠some X:=fun r=>htx (q.tl X r);obtain⟨g,cap,w3,hrun,c3,fz3,hoth,hb3,q3⟩:=(q.below (w':=(wc.alloc (.cells #[.int .i64 op,.int .i64 d,.int .i64 a,.int .i64 b,.int .i64 e,.int .i64 m,.int .u32 z] 45)).drew) (bel (A0 _ _) (AQ _))).app (m:=[⟨op,d,a,b,e,m,z⟩]) sM ((JP wc ⟨op,d,a,b,e,m,z⟩).below (AQ _)) (by have:=HMB.out;simp only[List.length_cons,List.length_nil];omega);simp only[List.length_cons,List.length_nil,Nat.zero_add]at hrun q3;have h3X:w3.heap[X]? =W0.heap[X]? :=(hoth X Zgc hXo).trans ((bel (A0 wc (.cells #[.int .i64 op,.int .i64 d,.int .i64 a,.int .i64 b,.int .i64 e,.int .i64 m,.int .u32 z] 45)) (AQ _)).block X hxs |>.trans hxw);obtain⟨xt0,xt1,xt2,xt3,xt4,xt5,xt6⟩:=HBX.out w3 h3X;obtain⟨pq,qq,rfl⟩:=AD q.lf;have lc:wc.cell? ⟨B,3,none⟩=some (.slice pq MD.left.length qq):=q.b.cell (i:=3) dE;have HP:Hid (Below E w (w3.setCell ⟨B,3,none⟩ (.slice (some ⟨g,0,none⟩) (MD.left.length+1) cap))/\∃lv vl mv mn tg,CQ E c n TK (w3.setCell ⟨B,3,none⟩ (.slice (some ⟨g,0,none⟩) (MD.left.length+1) cap)) B C WB lv vl mv mn tg):=by
    refine⟨((hbw.trans ((bel (A0 wc (.cells #[.int .i64 op,.int .i64 d,.int .i64 a,.int .i64 b,.int .i64 e,.int .i64 m,.int .u32 z] 45)) (AQ _)).mono q.le)).trans hb3).setCell q.geB _,?_⟩;rw[HTT.out];exact⟨_,_,_,_,_,q3⟩
   obtain⟨L,hL⟩:=gA (MD.left.length)
   rw[hL]at hrun c3 lc HP;have lc':(wc.alloc (.cells #[.int .i64 op,.int .i64 d,.int .i64 a,.int .i64 b,.int .i64 e,.int .i64 m,.int .u32 z] 45)).cell? ⟨B,3,none⟩=some (.slice pq L qq):=kc (A0 _ _) lc;have hWc:B<wc.heap.size:=A6 lc;have nB4:¬B=wc.heap.size:=oM;have nX4:¬X=wc.heap.size:=oM;have nXW:¬X=B:=HX1.2.1;have nWX:¬B=X:=fun r=>nXW r.symm;have HRN:=A8 hrun;clear q q3 hrun hoth hb3 h3X hXo hxs hxw hbw hWc HTT HMB HX1 HX1s HBX HM0 HM1 HE0 HE1 HB1 hX1 htx HC hL;go_upto_region 13 with fail;refine rG (fun v=>v.cell? ⟨X,0,none⟩=some (.int .i64 op)/\v.cell? ⟨X,1,none⟩=some (.int .i64 d)/\v.cell? ⟨X,2,none⟩=some (.int .i64 a)/\v.cell? ⟨X,3,none⟩=some (.int .i64 b)/\v.cell? ⟨X,4,none⟩=some (.int .i64 e)/\v.cell? ⟨X,5,none⟩=some (.int .i64 m)/\v.cell? ⟨X,6,none⟩=some (.int .u32 z)) fun yH=>?_;refine Tc 0 1 2 ?_;refine Tb 3 5 ?_;clear yH;refine wpAnyH_ready (rs:=[4,6]) kR sM ?_;refine Hi 4 (fun K hK=>?_) ?_
   .go_simp;refine AF hK fun yH=>?_;clear hK K;clear yH;refine AJ 6 fun K hK=>?_;exact Zby
   refine Hi 6 (fun K hK=>?_) AllReadyH.nil;go_simp;refine AF hK fun yH=>?_;clear hK K;clear yH;refine AJ 4 fun K hK=>?_;exact Zby
theorem NJ{α:Type}{k:Nat}{f:α->List Value}(hf:∀x,(f x).length=k){l:List α}(w:World)(cs:Array Value)(t:TypeId)(h:cs.toList=AG f l)(c:Nat):AZ k f (w.alloc (.cells cs t)) (.slice (some ⟨w.heap.size,0,none⟩) l.length c) l:=by
 refine⟨_,_,rfl,.inr ⟨w.heap.size,0,rfl,fun i hi j hj=>?_⟩⟩;have hj':j<k:=by rw[<-hf l[i]];exact hj
 have h1:=JK hf l i j hi hj';rw[<-h]at h1;have h2:cs[0+i*k+j]? =some (f l[i])[j]:=by
  rw[Nat.zero_add,<-Array.getElem?_toList,h1,gB hj]
 have h3:(w.alloc (.cells cs t)).heap[w.heap.size]? =some (.cells cs t (0,0)):=heap_alloc_new w _;unfold World.cell?;simp only[h3];exact h2
theorem Lf{α:Type}{k:Nat}{f:α->List Value}(hf:∀x,(f x).length=k){l:List α}(w:World)(cs:Array Value)(t:TypeId)(h:cs.toList=AG f l)(c:Nat){n:Nat}(hn:w.heap.size=n):AZ k f (w.alloc (.cells cs t)) (.slice (some ⟨n,0,none⟩) l.length c) l:=by
 subst hn;exact NJ hf w cs t h c
def sName:ByteArray:=⟨#[119]⟩
def YM:Cd:=⟨[],[],[],[⟨35,0,0,0,0,0,0⟩]⟩
theorem Tn:(At YM).1≠0:=by decide+kernel
theorem end_ok:Bb YM:=⟨dE,dE,dE,dE,dE,dE,dE⟩
def stG:List (List Int):=[[1065353216,1073741824]]
def stS(FB:Nat):St:=⟨.slice (some ⟨FB,0,none⟩) 1 1,.slice (some ⟨FB,0,none⟩) 1 1,stG,stG⟩
theorem ZY(s:St):(stC s).length=2:=rfl
theorem XP:Fl stG:=⟨dE,dE,fun l hl y hy=>by simp only[stG,List.mem_singleton]at hl;subst hl;simp only[List.mem_cons,List.not_mem_nil,or_false]at hy;unfold AB;omega⟩
theorem vc_new(w:World):LF ((w.alloc (.cells #[.int .u32 1065353216,.int .u32 1073741824] 43)).alloc (.cells #[.slice (some ⟨w.heap.size,0,none⟩) 2 2] 70)) (.slice (some ⟨w.heap.size+1,0,none⟩) 1 1) stG:=by
 refine⟨_,_,rfl,fun i hi=>?_⟩;have hi0:i=0:=by have:i<1:=hi;omega
 subst hi0;refine⟨_,_,some ⟨w.heap.size,0,none⟩,2,rfl,by simp[go_sem,stG],.inr ⟨w.heap.size,0,rfl,fun j hj=>?_⟩⟩;have hj':j<2:=hj;obtain rfl|rfl:j=0\/j=1:=oM
 .simp[go_sem,stG,Cy]
 .simp[go_sem,stG,Cy]
end Go.Proofs.YtpoklpdgpcnkgaaGreat
