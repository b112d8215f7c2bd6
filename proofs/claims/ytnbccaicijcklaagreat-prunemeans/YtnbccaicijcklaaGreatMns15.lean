import Derived.Test.YtnbccaicijcklaaGreatMns1
import Derived.Test.YtnbccaicijcklaaGreatMns13
import Derived.Deep.CutBlock
import Derived.Deep.DeepCutAuto
namespace Go.Proofs.YtnbccaicijcklaaGreat
open Go.RowKit Go.Proofs.Tryz
set_option linter.all false
set_option maxRecDepth 100000
set_option maxHeartbeats 16000000
theorem Pp{T:Nat->Prop}(p0 p1 p2 p3 p5 p6 p7 p8:Option Addr)(n0 q0 n1 q1 n2 q2 n3 q3 n5 q5 n6 q6 n7 q7 n8 q8:Nat)(ct:Int)(pr:Option Addr)(qr:Nat)(X:List Cl)(N:Nat)(hN:X.length=N)(hX:N<=16384)(nn bt:Int)(kd ka kb kk:Nat)(hd:kd<N)(w:World)(hT:∀b,T b->b<w.heap.size)(hcs:AT T w (.slice pr N qr) X)(xa:Cl)(hxa:X[ka]? =some xa)(xb:Cl)(hxb:X[kb]? =some xb)(a0:Int)(hpa:xa.h.pats=[a0])(hP:AH a0)(hw:0<=xb.h.whole/\xb.h.whole<=2147483647):
 Calls prog 43 #[.agg #[(.slice p0 n0 q0),(.slice p1 n1 q1),(.slice p2 n2 q2),(.slice p3 n3 q3),.slice pr N qr,(.slice p5 n5 q5),(.slice p6 n6 q6),(.slice p7 n7 q7),(.slice p8 n8 q8),(.int .i64 ct)],.agg #[.int .i64 16,.int .i64 (kd:Int),.int .i64 (ka:Int),.int .i64 (kb:Int),.int .i64 (kk:Int),.int .i64 nn,.int .u32 bt]] w fun e w'=>∃p9 q9 x,e=.returned (.agg #[(.slice p0 n0 q0),(.slice p1 n1 q1),(.slice p2 n2 q2),(.slice p3 n3 q3),.slice p9 N q9,(.slice p5 n5 q5),(.slice p6 n6 q6),(.slice p7 n7 q7),(.slice p8 n8 q8),(.int .i64 ct)])/\x.h=⟨[JJ a0 xb.h.whole],0⟩/\AT T w' (.slice p9 N q9) (X.set kd x)/\Below w.heap.size w w':=by
 have HPUT:Hid (∀v F I D (x:Cl),DW w F I D v->B6 (T2 w T) v x.p x.h.pats->Calls prog 70 #[.slice pr N qr,.int .i64 (kd:Int),.agg #[.slice x.p x.h.pats.length x.q,.int .i64 x.h.whole]] v fun e w'=>∃p q,e=.returned (.slice p N q)/\AT (T2 w T) w' (.slice p N q) (X.set kd x)/\Below v.heap.size v w'):=BT (.slice pr N qr) X hN hX kd hd w hT hcs;have HT2:Hid (∀v:World,w.heap.size+1+1+1<v.heap.size->∀b,T2 w T b->b<v.heap.size):=fun v hv b hb=>Dk hT hb hv;have HXA:Hid (X[ka]? =some xa):=hxa;obtain⟨hal,hax⟩:=List.getElem?_eq_some_iff.1 hxa;obtain⟨rb,ro,rfl,hca⟩:=hcs.row.row.at hal;rw[hax]at hca;have x0:w.cell? ⟨rb,ro+ka*2,none⟩=some (.slice xa.p xa.h.pats.length xa.q):=hca.at 0 rfl;have x1:w.cell? ⟨rb,ro+ka*2+1,none⟩=some (.int .i64 xa.h.whole):=hca.at 1 rfl;have ha0:(0:Int)<=(ka:Int):=oM;have ha1:(ka:Int)<(N:Int):=oM;have hrb1:¬rb=w.heap.size:=by have:=A8 x0;intro e;simp only at this;omega
 have hrb2:¬rb=w.heap.size+1+1+1:=by have:=A8 x0;intro e;simp only at this;omega
 obtain⟨nb,no,hpe,-,-,hnc⟩:∃b o,xa.p=some ⟨b,o,none⟩/\¬T b/\b<w.heap.size/\∀j,j<xa.h.pats.length->w.cell? ⟨b,o+j,none⟩=some (.int .i64 (CG xa.h.pats j)):=by
  rcases hcs.nums xa (List.mem_of_getElem? hxa)with e|h
  .rw[hpa]at e;cases e
  .exact h
 have nz0:w.cell? ⟨nb,no,none⟩=some (.int .i64 a0):=by have:=hnc 0 (by rw[hpa];exact Nat.one_pos);rw[hpa]at this;exact this
 have hnb2:¬nb=w.heap.size+1+1+1:=by have:=A8 nz0;intro e;simp only at this;omega
 rw[hpa,hpe]at x0;have x4:w.cell? ⟨rb,ro+ka*2,none⟩=some (.slice (some ⟨nb,no,none⟩) 1 xa.q):=x0;obtain⟨hbl,hbx⟩:=List.getElem?_eq_some_iff.1 hxb;obtain⟨rbb,rob,eb,hcb⟩:=hcs.row.row.at hbl;simp only[Option.some.injEq,Addr.mk.injEq,and_true]at eb;obtain⟨rfl,rfl⟩:=eb;rw[hbx]at hcb;have yb:w.cell? ⟨rb,ro+kb*2+1,none⟩=some (.int .i64 xb.h.whole):=hcb.at 1 rfl;have hb1:(kb:Int)<(N:Int):=oM;have HKF:Hid (∀v,Calls prog 63 #[.int .i64 a0,.int .i64 xb.h.whole] v fun e w'=>e=.returned (.int .i64 (JJ a0 xb.h.whole))/\Below v.heap.size v w'):=fun v=>Xh a0 hP.1 hP.2 _ oM oM v;have hb0:(0:Int)<=(kb:Int):=oM;have HD0:Hid (DW w (D4 (.slice p0 n0 q0) (.slice p1 n1 q1) (.slice p2 n2 q2) (.slice p3 n3 q3) (.slice (some ⟨rb,ro,none⟩) N qr) (.slice p5 n5 q5) (.slice p6 n6 q6) (.slice p7 n7 q7) (.slice p8 n8 q8) (.int .i64 ct)) (f7 (.int .i64 16) (.int .i64 (kd:Int)) (.int .i64 (ka:Int)) (.int .i64 (kb:Int)) (.int .i64 (kk:Int)) (.int .i64 nn) (.int .u32 bt)) (f2 (.slice none 0 0) (.int .i64 0)) _):=DW.start w (.slice p0 n0 q0) (.slice p1 n1 q1) (.slice p2 n2 q2) (.slice p3 n3 q3) (.slice (some ⟨rb,ro,none⟩) N qr) (.slice p5 n5 q5) (.slice p6 n6 q6) (.slice p7 n7 q7) (.slice p8 n8 q8) (.int .i64 ct) (.int .i64 16) (.int .i64 (kd:Int)) (.int .i64 (ka:Int)) (.int .i64 (kb:Int)) (.int .i64 (kk:Int)) (.int .i64 nn) (.int .u32 bt);clear hT hcs hN hxa hca hal hax hxb hcb hbl hbx hpa hpe hnc x0 x1;go_enter func43,ntmps43;go_upto_block 0 with fail;go_cut [] (fun wx=>∃x:Cl,Hid (x.h=⟨[JJ a0 xb.h.whole],0⟩)/\Hid (DW w (D4 (.slice p0 n0 q0) (.slice p1 n1 q1) (.slice p2 n2 q2) (.slice p3 n3 q3) (.slice (some ⟨rb,ro,none⟩) N qr) (.slice p5 n5 q5) (.slice p6 n6 q6) (.slice p7 n7 q7) (.slice p8 n8 q8) (.int .i64 ct)) (f7 (.int .i64 16) (.int .i64 (kd:Int)) (.int .i64 (ka:Int)) (.int .i64 (kb:Int)) (.int .i64 (kk:Int)) (.int .i64 nn) (.int .u32 bt)) (f2 (.slice x.p x.h.pats.length x.q) (.int .i64 x.h.whole)) wx)/\Hid (B6 (T2 w T) wx x.p x.h.pats))
 case first=>
  obtain⟨W,hW⟩:=gA (((((w.alloc (.cells #[(.slice p0 n0 q0),(.slice p1 n1 q1),(.slice p2 n2 q2),(.slice p3 n3 q3),.slice (some ⟨rb,ro,none⟩) N qr,(.slice p5 n5 q5),(.slice p6 n6 q6),(.slice p7 n7 q7),(.slice p8 n8 q8),(.int .i64 ct)] 110)).alloc (.cells #[.int .i64 16,.int .i64 (kd:Int),.int .i64 (ka:Int),.int .i64 (kb:Int),.int .i64 (kk:Int),.int .i64 nn,.int .u32 bt] 40)).alloc (.cells #[.slice none 0 0,.slice none 0 0,.slice none 0 0,.slice none 0 0,.slice none 0 0,.slice none 0 0,.slice none 0 0,.slice none 0 0,.slice none 0 0,.int .i64 0] 110)).alloc (.cells #[.slice none 0 0,.int .i64 0] 74)))
  rw[hW]at HD0;rw[hW];clear hW;have hsz:=HD0.out.size;have f0:W.cell? ⟨w.heap.size,4,none⟩=some (.slice (some ⟨rb,ro,none⟩) N qr):=HD0.out.f.cell (i:=4) dE;have i0:W.cell? ⟨w.heap.size+1,0,none⟩=some (.int .i64 16):=HD0.out.i.cell (i:=0) dE;have i1:W.cell? ⟨w.heap.size+1,1,none⟩=some (.int .i64 (kd:Int)):=HD0.out.i.cell (i:=1) dE;have i2:W.cell? ⟨w.heap.size+1,2,none⟩=some (.int .i64 (ka:Int)):=HD0.out.i.cell (i:=2) dE;have i3:W.cell? ⟨w.heap.size+1,3,none⟩=some (.int .i64 (kb:Int)):=HD0.out.i.cell (i:=3) dE;have i4:W.cell? ⟨w.heap.size+1,4,none⟩=some (.int .i64 (kk:Int)):=HD0.out.i.cell (i:=4) dE;have i5:W.cell? ⟨w.heap.size+1,5,none⟩=some (.int .i64 nn):=HD0.out.i.cell (i:=5) dE;have i6:W.cell? ⟨w.heap.size+1,6,none⟩=some (.int .u32 bt):=HD0.out.i.cell (i:=6) dE;have d0:W.cell? ⟨w.heap.size+1+1+1,0,none⟩=some (.slice none 0 0):=HD0.out.d.cell (i:=0) dE;have d1:W.cell? ⟨w.heap.size+1+1+1,1,none⟩=some (.int .i64 0):=HD0.out.d.cell (i:=1) dE;have z0:=HD0.out.d.frozen 0;have z1:=HD0.out.d.frozen 1;have x5:=kc HD0.out.bel x4;have nz1:=kc HD0.out.bel nz0;have y1:=kc HD0.out.bel yb;clear x4 nz0 yb i1 i4 i5 i6;go_upto_region 10 with fail;refine rG (fun v=>v.cell? ⟨w.heap.size,4,none⟩=some (.slice (some ⟨rb,ro,none⟩) N qr)/\v.cell? ⟨w.heap.size+1,2,none⟩=some (.int .i64 (ka:Int))/\v.cell? ⟨w.heap.size+1,3,none⟩=some (.int .i64 (kb:Int))/\v.cell? ⟨rb,ro+ka*2,none⟩=some (.slice (some ⟨nb,no,none⟩) 1 xa.q)/\v.cell? ⟨nb,no,none⟩=some (.int .i64 a0)/\v.cell? ⟨rb,ro+kb*2+1,none⟩=some (.int .i64 xb.h.whole)) fun hJ=>?_;refine Tf 0 1 2 3 4 5 ?_;refine Tf 6 7 8 9 10 11 ?_;refine Tc 12 13 14 ?_;refine Bo 15 ?_;clear hJ;refine Aw 16 fun K hK=>?_;go_simp;(go_at_call 63;(with_reducible refine(HKF.out _).mono ?_);rintro e w3 ⟨rfl,hb3⟩;have HB3:Hid (Below W.heap.size W w3):=bel (A9 _) hb3;have HD3:Hid (DW w (D4 (.slice p0 n0 q0) (.slice p1 n1 q1) (.slice p2 n2 q2) (.slice p3 n3 q3) (.slice (some ⟨rb,ro,none⟩) N qr) (.slice p5 n5 q5) (.slice p6 n6 q6) (.slice p7 n7 q7) (.slice p8 n8 q8) (.int .i64 ct)) _ _ w3):=HD0.out.next HB3.out;clear hb3;have f0:=kc HB3.out f0;have i2:=kc HB3.out i2;have i3:=kc HB3.out i3;have x5:=kc HB3.out x5;have nz1:=kc HB3.out nz1;have y1:=kc HB3.out y1;clear d0 d1 z0 z1;have d0:w3.cell? ⟨w.heap.size+1+1+1,0,none⟩=some (.slice none 0 0):=HD3.out.d.cell (i:=0) dE;have d1:w3.cell? ⟨w.heap.size+1+1+1,1,none⟩=some (.int .i64 0):=HD3.out.d.cell (i:=1) dE;have z0:=HD3.out.d.frozen 0;have z1:=HD3.out.d.frozen 1;have d2:=(fun o=>kc (A0 w3 o) d0);have z2:=(fun o=>kf (A0 w3 o) d0 z0);have k0:=(fun o=>kc (A0 w3 o) f0);have k1:=(fun o=>kc (A0 w3 o) i2);have k2:=(fun o=>kc (A0 w3 o) i3);have k3:=(fun o=>kc (A0 w3 o) x5);have k4:=(fun o=>kc (A0 w3 o) nz1);have k5:=(fun o=>kc (A0 w3 o) y1);have sf0:=(fun o u=>AN (b:=⟨w.heap.size+1+1+1,0,none⟩) (kc (A0 w3 o) f0) iE u);have si2:=(fun o u=>AN (b:=⟨w.heap.size+1+1+1,0,none⟩) (kc (A0 w3 o) i2) iE u);have si3:=(fun o u=>AN (b:=⟨w.heap.size+1+1+1,0,none⟩) (kc (A0 w3 o) i3) iE u);have sx5:=(fun o u=>AN (b:=⟨w.heap.size+1+1+1,0,none⟩) (kc (A0 w3 o) x5) iE u);have snz1:=(fun o u=>AN (b:=⟨w.heap.size+1+1+1,0,none⟩) (kc (A0 w3 o) nz1) iE u);have sy1:=(fun o u=>AN (b:=⟨w.heap.size+1+1+1,0,none⟩) (kc (A0 w3 o) y1) iE u));try(go_wp2_with fail)
  refine Aq hK fun hJ=>?_;clear hK K;clear hJ;refine Aw 17 fun K hK=>?_;go_simp;refine Aq hK fun hJ=>?_;clear hK K;refine Bo 18 ?_;clear hJ;refine Aw 19 fun K hK=>?_;go_simp;refine Aq hK fun hJ=>?_;clear hK K;refine wpAnyH_done kR ?_ _;go_wp2;go_meet;exact⟨⟨some ⟨w3.heap.size,0,none⟩,1,⟨[JJ a0 xb.h.whole],0⟩⟩,rfl,((HD3.next (A0 _ _)).put 0 _).congr (fun j hj=>by obtain rfl|rfl:j=0\/j=1:=oM;all_goals rfl),JY HT2.out (HD3.size) _⟩
 case rest=>
  exact Zaa
theorem T3{T:Nat->Prop}(p0 p1 p2 p3 p5 p6 p7 p8:Option Addr)(n0 q0 n1 q1 n2 q2 n3 q3 n5 q5 n6 q6 n7 q7 n8 q8:Nat)(ct:Int)(pr:Option Addr)(qr:Nat)(X:List Cl)(N:Nat)(hN:X.length=N)(hX:N<=16384)(nn bt:Int)(kd ka kb kk:Nat)(hd:kd<N)(w:World)(hT:∀b,T b->b<w.heap.size)(hcs:AT T w (.slice pr N qr) X)(xa:Cl)(hxa:X[ka]? =some xa)(a0:Int)(hpa:xa.h.pats=[a0])(hP:AH a0):
 Calls prog 43 #[.agg #[(.slice p0 n0 q0),(.slice p1 n1 q1),(.slice p2 n2 q2),(.slice p3 n3 q3),.slice pr N qr,(.slice p5 n5 q5),(.slice p6 n6 q6),(.slice p7 n7 q7),(.slice p8 n8 q8),(.int .i64 ct)],.agg #[.int .i64 18,.int .i64 (kd:Int),.int .i64 (ka:Int),.int .i64 (kb:Int),.int .i64 (kk:Int),.int .i64 nn,.int .u32 bt]] w fun e w'=>∃p9 q9 x,e=.returned (.agg #[(.slice p0 n0 q0),(.slice p1 n1 q1),(.slice p2 n2 q2),(.slice p3 n3 q3),.slice p9 N q9,(.slice p5 n5 q5),(.slice p6 n6 q6),(.slice p7 n7 q7),(.slice p8 n8 q8),(.int .i64 ct)])/\x.h=⟨[],BG (a0%2147483648 != 0&&decide (a0%2147483648<=2139095040))⟩/\AT T w' (.slice p9 N q9) (X.set kd x)/\Below w.heap.size w w':=by
 have HPUT:Hid (∀v F I D (x:Cl),DW w F I D v->B6 (T2 w T) v x.p x.h.pats->Calls prog 70 #[.slice pr N qr,.int .i64 (kd:Int),.agg #[.slice x.p x.h.pats.length x.q,.int .i64 x.h.whole]] v fun e w'=>∃p q,e=.returned (.slice p N q)/\AT (T2 w T) w' (.slice p N q) (X.set kd x)/\Below v.heap.size v w'):=BT (.slice pr N qr) X hN hX kd hd w hT hcs;have HT2:Hid (∀v:World,w.heap.size+1+1+1<v.heap.size->∀b,T2 w T b->b<v.heap.size):=fun v hv b hb=>Dk hT hb hv;have HXA:Hid (X[ka]? =some xa):=hxa;obtain⟨hal,hax⟩:=List.getElem?_eq_some_iff.1 hxa;obtain⟨rb,ro,rfl,hca⟩:=hcs.row.row.at hal;rw[hax]at hca;have x0:w.cell? ⟨rb,ro+ka*2,none⟩=some (.slice xa.p xa.h.pats.length xa.q):=hca.at 0 rfl;have x1:w.cell? ⟨rb,ro+ka*2+1,none⟩=some (.int .i64 xa.h.whole):=hca.at 1 rfl;have ha0:(0:Int)<=(ka:Int):=oM;have ha1:(ka:Int)<(N:Int):=oM;have hrb1:¬rb=w.heap.size:=by have:=A8 x0;intro e;simp only at this;omega
 have hrb2:¬rb=w.heap.size+1+1+1:=by have:=A8 x0;intro e;simp only at this;omega
 obtain⟨nb,no,hpe,-,-,hnc⟩:∃b o,xa.p=some ⟨b,o,none⟩/\¬T b/\b<w.heap.size/\∀j,j<xa.h.pats.length->w.cell? ⟨b,o+j,none⟩=some (.int .i64 (CG xa.h.pats j)):=by
  rcases hcs.nums xa (List.mem_of_getElem? hxa)with e|h
  .rw[hpa]at e;cases e
  .exact h
 have nz0:w.cell? ⟨nb,no,none⟩=some (.int .i64 a0):=by have:=hnc 0 (by rw[hpa];exact Nat.one_pos);rw[hpa]at this;exact this
 have hnb2:¬nb=w.heap.size+1+1+1:=by have:=A8 nz0;intro e;simp only at this;omega
 rw[hpa,hpe]at x0;have x4:w.cell? ⟨rb,ro+ka*2,none⟩=some (.slice (some ⟨nb,no,none⟩) 1 xa.q):=x0;have HKF:Hid (∀b v,Calls prog 65 #[.bool b] v fun e w'=>e=.returned (.int .i64 (BG b))/\w'=v):=J1;have ht:a0.tmod 2147483648=a0%2147483648:=Int.tmod_eq_emod_of_nonneg hP.1;have hm0:0<=a0%2147483648:=Int.emod_nonneg _ dE;obtain⟨mm,hmm⟩:∃m,a0%2147483648=m:=⟨_,rfl⟩
 rw[hmm]at ht hm0 |-;have hP0:=hP.1;have hP1:=hP.2;have HD0:Hid (DW w (D4 (.slice p0 n0 q0) (.slice p1 n1 q1) (.slice p2 n2 q2) (.slice p3 n3 q3) (.slice (some ⟨rb,ro,none⟩) N qr) (.slice p5 n5 q5) (.slice p6 n6 q6) (.slice p7 n7 q7) (.slice p8 n8 q8) (.int .i64 ct)) (f7 (.int .i64 18) (.int .i64 (kd:Int)) (.int .i64 (ka:Int)) (.int .i64 (kb:Int)) (.int .i64 (kk:Int)) (.int .i64 nn) (.int .u32 bt)) (f2 (.slice none 0 0) (.int .i64 0)) _):=DW.start w (.slice p0 n0 q0) (.slice p1 n1 q1) (.slice p2 n2 q2) (.slice p3 n3 q3) (.slice (some ⟨rb,ro,none⟩) N qr) (.slice p5 n5 q5) (.slice p6 n6 q6) (.slice p7 n7 q7) (.slice p8 n8 q8) (.int .i64 ct) (.int .i64 18) (.int .i64 (kd:Int)) (.int .i64 (ka:Int)) (.int .i64 (kb:Int)) (.int .i64 (kk:Int)) (.int .i64 nn) (.int .u32 bt);clear hT hcs hN hxa hca hal hax hpa hpe hnc x0 x1 hP hmm;go_enter func43,ntmps43;go_upto_block 0 with fail;go_cut [] (fun wx=>∃x:Cl,Hid (x.h=⟨[],BG (mm != 0&&decide (mm<=2139095040))⟩)/\Hid (DW w (D4 (.slice p0 n0 q0) (.slice p1 n1 q1) (.slice p2 n2 q2) (.slice p3 n3 q3) (.slice (some ⟨rb,ro,none⟩) N qr) (.slice p5 n5 q5) (.slice p6 n6 q6) (.slice p7 n7 q7) (.slice p8 n8 q8) (.int .i64 ct)) (f7 (.int .i64 18) (.int .i64 (kd:Int)) (.int .i64 (ka:Int)) (.int .i64 (kb:Int)) (.int .i64 (kk:Int)) (.int .i64 nn) (.int .u32 bt)) (f2 (.slice x.p x.h.pats.length x.q) (.int .i64 x.h.whole)) wx)/\Hid (B6 (T2 w T) wx x.p x.h.pats))
 case first=>
  obtain⟨W,hW⟩:=gA (((((w.alloc (.cells #[(.slice p0 n0 q0),(.slice p1 n1 q1),(.slice p2 n2 q2),(.slice p3 n3 q3),.slice (some ⟨rb,ro,none⟩) N qr,(.slice p5 n5 q5),(.slice p6 n6 q6),(.slice p7 n7 q7),(.slice p8 n8 q8),(.int .i64 ct)] 110)).alloc (.cells #[.int .i64 18,.int .i64 (kd:Int),.int .i64 (ka:Int),.int .i64 (kb:Int),.int .i64 (kk:Int),.int .i64 nn,.int .u32 bt] 40)).alloc (.cells #[.slice none 0 0,.slice none 0 0,.slice none 0 0,.slice none 0 0,.slice none 0 0,.slice none 0 0,.slice none 0 0,.slice none 0 0,.slice none 0 0,.int .i64 0] 110)).alloc (.cells #[.slice none 0 0,.int .i64 0] 74)))
  rw[hW]at HD0;rw[hW];clear hW;have hsz:=HD0.size;have f0:W.cell? ⟨w.heap.size,4,none⟩=some (.slice (some ⟨rb,ro,none⟩) N qr):=HD0.f.cell (i:=4) dE;have i0:W.cell? ⟨w.heap.size+1,0,none⟩=some (.int .i64 18):=HD0.i.cell (i:=0) dE;have i1:W.cell? ⟨w.heap.size+1,1,none⟩=some (.int .i64 (kd:Int)):=HD0.i.cell (i:=1) dE;have i2:W.cell? ⟨w.heap.size+1,2,none⟩=some (.int .i64 (ka:Int)):=HD0.i.cell (i:=2) dE;have i3:W.cell? ⟨w.heap.size+1,3,none⟩=some (.int .i64 (kb:Int)):=HD0.i.cell (i:=3) dE;have i4:W.cell? ⟨w.heap.size+1,4,none⟩=some (.int .i64 (kk:Int)):=HD0.i.cell (i:=4) dE;have i5:W.cell? ⟨w.heap.size+1,5,none⟩=some (.int .i64 nn):=HD0.i.cell (i:=5) dE;have i6:W.cell? ⟨w.heap.size+1,6,none⟩=some (.int .u32 bt):=HD0.i.cell (i:=6) dE;have d0:W.cell? ⟨w.heap.size+1+1+1,0,none⟩=some (.slice none 0 0):=HD0.d.cell (i:=0) dE;have d1:W.cell? ⟨w.heap.size+1+1+1,1,none⟩=some (.int .i64 0):=HD0.d.cell (i:=1) dE;have z0:=HD0.d.frozen 0;have z1:=HD0.d.frozen 1;have x5:=kc HD0.bel x4;have nz1:=kc HD0.bel nz0;clear x4 nz0 i1 i3 i4 i5 i6;cases hz:(mm != 0)
  .have hz':(mm==0)=true:=by simpa using hz
   go_wp2_with(go_at_call 65;(with_reducible refine(HKF.out _ _).mono ?_);rintro e w3 ⟨rfl,rfl⟩)
   all_goals
    go_meet;exact⟨⟨none,0,⟨[],BG false⟩⟩,(by show(⟨[],BG false⟩:Hd)=⟨[],BG (mm != 0&&decide (mm<=2139095040))⟩;rw[hz];rfl),(HD0.put 1 _).congr (fun j hj=>by obtain rfl|rfl:j=0\/j=1:=oM;all_goals rfl),.inl rfl⟩
  .have hz':(mm==0)=false:=by simpa using hz
   go_wp2_with(go_at_call 65;(with_reducible refine(HKF.out _ _).mono ?_);rintro e w3 ⟨rfl,rfl⟩)
   all_goals
    go_meet;exact⟨⟨none,0,⟨[],BG (decide (mm<=2139095040))⟩⟩,(by show(⟨[],BG (decide (mm<=2139095040))⟩:Hd)=⟨[],BG (mm != 0&&decide (mm<=2139095040))⟩;rw[hz];rfl),(HD0.put 1 _).congr (fun j hj=>by obtain rfl|rfl:j=0\/j=1:=oM;all_goals rfl),.inl rfl⟩
 case rest=>
  exact Zaa
theorem Ps{T:Nat->Prop}(p0 p1 p2 p3 p5 p6 p7 p8:Option Addr)(n0 q0 n1 q1 n2 q2 n3 q3 n5 q5 n6 q6 n7 q7 n8 q8:Nat)(ct:Int)(pr:Option Addr)(qr:Nat)(X:List Cl)(N:Nat)(hN:X.length=N)(hX:N<=16384)(op:Int)(o1:21<=op)(o2:op<=28)(nn bt:Int)(kd ka kb kk:Nat)(hd:kd<N)(w:World)(hT:∀b,T b->b<w.heap.size)(hcs:AT T w (.slice pr N qr) X)(xa:Cl)(hxa:X[ka]? =some xa)(xb:Cl)(hxb:X[kb]? =some xb)(xc:Cl)(hxc:X[kk]? =some xc)(hwa:0<=xa.h.whole/\xa.h.whole<=2147483647)(hwb:0<=xb.h.whole/\xb.h.whole<=2147483647):
 Calls prog 43 #[.agg #[(.slice p0 n0 q0),(.slice p1 n1 q1),(.slice p2 n2 q2),(.slice p3 n3 q3),.slice pr N qr,(.slice p5 n5 q5),(.slice p6 n6 q6),(.slice p7 n7 q7),(.slice p8 n8 q8),(.int .i64 ct)],.agg #[.int .i64 op,.int .i64 (kd:Int),.int .i64 (ka:Int),.int .i64 (kb:Int),.int .i64 (kk:Int),.int .i64 nn,.int .u32 bt]] w fun e w'=>∃p9 q9 x,e=.returned (.agg #[(.slice p0 n0 q0),(.slice p1 n1 q1),(.slice p2 n2 q2),(.slice p3 n3 q3),.slice p9 N q9,(.slice p5 n5 q5),(.slice p6 n6 q6),(.slice p7 n7 q7),(.slice p8 n8 q8),(.int .i64 ct)])/\x.h=⟨[],Df op xa.h.whole xb.h.whole xc.h.whole⟩/\AT T w' (.slice p9 N q9) (X.set kd x)/\Below w.heap.size w w':=by
 have HPUT:Hid (∀v F I D (x:Cl),DW w F I D v->B6 (T2 w T) v x.p x.h.pats->Calls prog 70 #[.slice pr N qr,.int .i64 (kd:Int),.agg #[.slice x.p x.h.pats.length x.q,.int .i64 x.h.whole]] v fun e w'=>∃p q,e=.returned (.slice p N q)/\AT (T2 w T) w' (.slice p N q) (X.set kd x)/\Below v.heap.size v w'):=BT (.slice pr N qr) X hN hX kd hd w hT hcs;have HT2:Hid (∀v:World,w.heap.size+1+1+1<v.heap.size->∀b,T2 w T b->b<v.heap.size):=fun v hv b hb=>Dk hT hb hv;have HXA:Hid (X[ka]? =some xa):=hxa;obtain⟨hal,hax⟩:=List.getElem?_eq_some_iff.1 hxa;obtain⟨rb,ro,rfl,hca⟩:=hcs.row.row.at hal;rw[hax]at hca;have x0:w.cell? ⟨rb,ro+ka*2,none⟩=some (.slice xa.p xa.h.pats.length xa.q):=hca.at 0 rfl;have x1:w.cell? ⟨rb,ro+ka*2+1,none⟩=some (.int .i64 xa.h.whole):=hca.at 1 rfl;have ha0:(0:Int)<=(ka:Int):=oM;have ha1:(ka:Int)<(N:Int):=oM;have hrb1:¬rb=w.heap.size:=by have:=A8 x0;intro e;simp only at this;omega
 have hrb2:¬rb=w.heap.size+1+1+1:=by have:=A8 x0;intro e;simp only at this;omega
 obtain⟨hbl,hbx⟩:=List.getElem?_eq_some_iff.1 hxb;obtain⟨rbb,rob,eb,hcb⟩:=hcs.row.row.at hbl;simp only[Option.some.injEq,Addr.mk.injEq,and_true]at eb;obtain⟨rfl,rfl⟩:=eb;rw[hbx]at hcb;have yb:w.cell? ⟨rb,ro+kb*2+1,none⟩=some (.int .i64 xb.h.whole):=hcb.at 1 rfl;have hb1:(kb:Int)<(N:Int):=oM;obtain⟨hcl,hcx⟩:=List.getElem?_eq_some_iff.1 hxc;obtain⟨rbc,roc,ec,hcc⟩:=hcs.row.row.at hcl;simp only[Option.some.injEq,Addr.mk.injEq,and_true]at ec;obtain⟨rfl,rfl⟩:=ec;rw[hcx]at hcc;have yc:w.cell? ⟨rb,ro+kk*2+1,none⟩=some (.int .i64 xc.h.whole):=hcc.at 1 rfl;have hc1:(kk:Int)<(N:Int):=oM;have HKF:Hid (∀v,Calls prog 68 #[.int .i64 op,.int .i64 xa.h.whole,.int .i64 xb.h.whole,.int .i64 xc.h.whole] v fun e w'=>e=.returned (.int .i64 (Df op xa.h.whole xb.h.whole xc.h.whole))/\w'=v):=fun v=>Qx op _ _ _ ⟨o1,o2⟩ hwa hwb v;have hb0:(0:Int)<=(kb:Int):=oM;have hc0:(0:Int)<=(kk:Int):=oM;have on1:(op==1)=false:=by have:op≠1:=oM;simpa using this
 have on2:(op==2)=false:=by have:op≠2:=oM;simpa using this
 have on16:(op==16)=false:=by have:op≠16:=oM;simpa using this
 have on17:(op==17)=false:=by have:op≠17:=oM;simpa using this
 have on18:(op==18)=false:=by have:op≠18:=oM;simpa using this
 have on19:(op==19)=false:=by have:op≠19:=oM;simpa using this
 have on20:(op==20)=false:=by have:op≠20:=oM;simpa using this
 have on3:¬op<=15:=oM;have HD0:Hid (DW w (D4 (.slice p0 n0 q0) (.slice p1 n1 q1) (.slice p2 n2 q2) (.slice p3 n3 q3) (.slice (some ⟨rb,ro,none⟩) N qr) (.slice p5 n5 q5) (.slice p6 n6 q6) (.slice p7 n7 q7) (.slice p8 n8 q8) (.int .i64 ct)) (f7 (.int .i64 op) (.int .i64 (kd:Int)) (.int .i64 (ka:Int)) (.int .i64 (kb:Int)) (.int .i64 (kk:Int)) (.int .i64 nn) (.int .u32 bt)) (f2 (.slice none 0 0) (.int .i64 0)) _):=DW.start w (.slice p0 n0 q0) (.slice p1 n1 q1) (.slice p2 n2 q2) (.slice p3 n3 q3) (.slice (some ⟨rb,ro,none⟩) N qr) (.slice p5 n5 q5) (.slice p6 n6 q6) (.slice p7 n7 q7) (.slice p8 n8 q8) (.int .i64 ct) (.int .i64 op) (.int .i64 (kd:Int)) (.int .i64 (ka:Int)) (.int .i64 (kb:Int)) (.int .i64 (kk:Int)) (.int .i64 nn) (.int .u32 bt);clear hT hcs hN hxa hca hal hax hxb hcb hbl hbx hxc hcc hcl hcx x0;go_enter func43,ntmps43;go_upto_block 0 with fail;go_cut [] (fun wx=>∃x:Cl,Hid (x.h=⟨[],Df op xa.h.whole xb.h.whole xc.h.whole⟩)/\Hid (DW w (D4 (.slice p0 n0 q0) (.slice p1 n1 q1) (.slice p2 n2 q2) (.slice p3 n3 q3) (.slice (some ⟨rb,ro,none⟩) N qr) (.slice p5 n5 q5) (.slice p6 n6 q6) (.slice p7 n7 q7) (.slice p8 n8 q8) (.int .i64 ct)) (f7 (.int .i64 op) (.int .i64 (kd:Int)) (.int .i64 (ka:Int)) (.int .i64 (kb:Int)) (.int .i64 (kk:Int)) (.int .i64 nn) (.int .u32 bt)) (f2 (.slice x.p x.h.pats.length x.q) (.int .i64 x.h.whole)) wx)/\Hid (B6 (T2 w T) wx x.p x.h.pats))
 case first=>
  obtain⟨W,hW⟩:=gA (((((w.alloc (.cells #[(.slice p0 n0 q0),(.slice p1 n1 q1),(.slice p2 n2 q2),(.slice p3 n3 q3),.slice (some ⟨rb,ro,none⟩) N qr,(.slice p5 n5 q5),(.slice p6 n6 q6),(.slice p7 n7 q7),(.slice p8 n8 q8),(.int .i64 ct)] 110)).alloc (.cells #[.int .i64 op,.int .i64 (kd:Int),.int .i64 (ka:Int),.int .i64 (kb:Int),.int .i64 (kk:Int),.int .i64 nn,.int .u32 bt] 40)).alloc (.cells #[.slice none 0 0,.slice none 0 0,.slice none 0 0,.slice none 0 0,.slice none 0 0,.slice none 0 0,.slice none 0 0,.slice none 0 0,.slice none 0 0,.int .i64 0] 110)).alloc (.cells #[.slice none 0 0,.int .i64 0] 74)))
  rw[hW]at HD0;rw[hW];clear hW;have hsz:=HD0.size;have f0:W.cell? ⟨w.heap.size,4,none⟩=some (.slice (some ⟨rb,ro,none⟩) N qr):=HD0.f.cell (i:=4) dE;have i0:W.cell? ⟨w.heap.size+1,0,none⟩=some (.int .i64 op):=HD0.i.cell (i:=0) dE;have i1:W.cell? ⟨w.heap.size+1,1,none⟩=some (.int .i64 (kd:Int)):=HD0.i.cell (i:=1) dE;have i2:W.cell? ⟨w.heap.size+1,2,none⟩=some (.int .i64 (ka:Int)):=HD0.i.cell (i:=2) dE;have i3:W.cell? ⟨w.heap.size+1,3,none⟩=some (.int .i64 (kb:Int)):=HD0.i.cell (i:=3) dE;have i4:W.cell? ⟨w.heap.size+1,4,none⟩=some (.int .i64 (kk:Int)):=HD0.i.cell (i:=4) dE;have i5:W.cell? ⟨w.heap.size+1,5,none⟩=some (.int .i64 nn):=HD0.i.cell (i:=5) dE;have i6:W.cell? ⟨w.heap.size+1,6,none⟩=some (.int .u32 bt):=HD0.i.cell (i:=6) dE;have d0:W.cell? ⟨w.heap.size+1+1+1,0,none⟩=some (.slice none 0 0):=HD0.d.cell (i:=0) dE;have d1:W.cell? ⟨w.heap.size+1+1+1,1,none⟩=some (.int .i64 0):=HD0.d.cell (i:=1) dE;have z0:=HD0.d.frozen 0;have z1:=HD0.d.frozen 1;have x5:=kc HD0.bel x1;have y1:=kc HD0.bel yb;have y2:=kc HD0.bel yc;clear x1 yb yc i1 i5 i6;have sf0:=(fun u=>AN (b:=⟨w.heap.size+1+1+1,1,none⟩) (f0) iE u)
  have si0:=(fun u=>AN (b:=⟨w.heap.size+1+1+1,1,none⟩) (i0) iE u)
  have si2:=(fun u=>AN (b:=⟨w.heap.size+1+1+1,1,none⟩) (i2) iE u)
  have si3:=(fun u=>AN (b:=⟨w.heap.size+1+1+1,1,none⟩) (i3) iE u)
  have si4:=(fun u=>AN (b:=⟨w.heap.size+1+1+1,1,none⟩) (i4) iE u)
  have sx5:=(fun u=>AN (b:=⟨w.heap.size+1+1+1,1,none⟩) (x5) iE u)
  have sy1:=(fun u=>AN (b:=⟨w.heap.size+1+1+1,1,none⟩) (y1) iE u)
  have sy2:=(fun u=>AN (b:=⟨w.heap.size+1+1+1,1,none⟩) (y2) iE u)
  go_upto_region 21 with fail;refine rG (fun v=>v.cell? ⟨w.heap.size,4,none⟩=some (.slice (some ⟨rb,ro,none⟩) N qr)/\v.cell? ⟨w.heap.size+1,0,none⟩=some (.int .i64 op)/\v.cell? ⟨w.heap.size+1,2,none⟩=some (.int .i64 (ka:Int))/\v.cell? ⟨w.heap.size+1,3,none⟩=some (.int .i64 (kb:Int))/\v.cell? ⟨w.heap.size+1,4,none⟩=some (.int .i64 (kk:Int))/\v.cell? ⟨rb,ro+ka*2+1,none⟩=some (.int .i64 xa.h.whole)/\v.cell? ⟨rb,ro+kb*2+1,none⟩=some (.int .i64 xb.h.whole)/\v.cell? ⟨rb,ro+kk*2+1,none⟩=some (.int .i64 xc.h.whole)) fun hJ=>?_;refine Tf 0 1 2 3 4 5 ?_;refine Tf 6 7 8 9 10 11 ?_;refine Tf 12 13 14 15 16 17 ?_;refine Tc 18 19 20 ?_;refine Tb 21 22 ?_;clear hJ;refine Aw 23 fun K hK=>?_;go_simp;(go_at_call 68;(with_reducible refine(HKF.out _).mono ?_);rintro e w3 ⟨rfl,rfl⟩);try(go_wp2_with fail)
  refine Aq hK fun hJ=>?_;clear hK K;refine Bo 24 ?_;clear hJ;refine Aw 25 fun K hK=>?_;go_simp;refine Aq hK fun hJ=>?_;clear hK K;refine wpAnyH_done kR ?_ _;go_wp2;go_meet;exact⟨⟨none,0,⟨[],_⟩⟩,rfl,((HD0.next (A9 _)).put 1 _).congr (fun j hj=>by obtain rfl|rfl:j=0\/j=1:=oM;all_goals rfl),.inl rfl⟩
 case rest=>
  exact Zaa
theorem XF(c:Cd)(hg:Good c)(v0 v1 v2 v3:Value)(op A B C nn bt:Int)(ho:(3<=op/\op<=15)\/op=29\/op=30\/op=32)(k:Nat)(hk:k<c.regs.length)(w:World)(hv:CD w v0 v1 v2 v3 c):
 Calls prog 42 #[.agg #[v0,v1,v2,v3],.agg #[.int .i64 op,.int .i64 (k:Int),.int .i64 A,.int .i64 B,.int .i64 C,.int .i64 nn,.int .u32 bt]] w fun e w'=>(∃n:Nat,n<=4096/\e=.returned (.int .i64 (n:Int)))/\Below w.heap.size w w':=by
 have KW:=Fm v0 v1 v2 v3 c hg c.regs[k] (fun h=>hg.type (gD hk) h);have hwid:(if c.regs[k].kind=3 then lenOf c c.regs[k].par else 1)<=4096:=by split;exact hg.lenOf _;omega
 obtain⟨p1,q1,rfl,-⟩:=id hv.regs;obtain⟨lb,lo,rfl,hreg⟩:=hv.regs.at hk;obtain⟨⟨tk,tp⟩,hT⟩:∃t:Ty,c.regs[k]=t:=⟨_,rfl⟩
 rw[hT]at hreg KW hwid;unfold DY at KW;simp only at KW hwid;obtain⟨Wd,hWd⟩:∃W,(if tk=3 then lenOf c tp else 1)=W:=⟨_,rfl⟩
 have hWi:(if tk=3 then(lenOf c tp:Int)else 1)=(Wd:Int):=by rw[<-hWd];split<;>rfl
 rw[hWi]at KW;rw[hWd]at hwid;obtain⟨n1,hn1⟩:∃n,c.regs.length=n:=⟨_,rfl⟩
 rw[hn1]at hk KW |-;obtain⟨D,hD⟩:∃d:Int,(k:Int)=d:=⟨_,rfl⟩
 rw[hD];have z0:w.cell? ⟨lb,lo+k*2,none⟩=some (.int .i64 tk):=hreg.at 0 rfl;have z1:w.cell? ⟨lb,lo+k*2+1,none⟩=some (.int .i64 tp):=hreg.at 1 rfl;have HKW:Hid (∀v,Below w.heap.size w v->Calls prog 40 #[.agg #[v0,.slice (some ⟨lb,lo,none⟩) n1 q1,v2,v3],.agg #[.int .i64 tk,.int .i64 tp]] v fun e w'=>e=.returned (.int .i64 (Wd:Int))/\Below v.heap.size v w'):=fun v hb=>KW v (by have h9:=hv.below hb;rw[hn1]at h9;exact h9);subst hD;have HT:Hid (TW w v0 (.slice (some ⟨lb,lo,none⟩) n1 q1) v2 v3 (w.heap.size+1) op (k:Int) A B C nn bt _):=TW.start w v0 _ v2 v3 op (k:Int) A B C nn bt;obtain⟨hb00,c0,c1,c2,c3,i0,i1,i2,i3,i4,i5,i6⟩:=HT.out;have x0:=kc hb00 z0;have x1:=kc hb00 z1;have d1:(0:Int)<=(k:Int):=oM;have d2:(k:Int)<(n1:Int):=oM;have hrl:=hg.regsL;rw[hn1]at hrl;clear KW hreg hT hWd hWi hn1 hv hg;rcases ho with⟨o1,o2⟩|rfl|rfl|rfl
 all_goals
  go_enter func42,ntmps42;go_wp2;refine rG (fun v=>v.cell? ⟨w.heap.size,0,none⟩=some v0/\v.cell? ⟨w.heap.size,1,none⟩=some (.slice (some ⟨lb,lo,none⟩) n1 q1)/\v.cell? ⟨w.heap.size,2,none⟩=some v2/\v.cell? ⟨w.heap.size,3,none⟩=some v3/\v.cell? ⟨w.heap.size+1,1,none⟩=some (.int .i64 (k:Int))/\v.cell? ⟨lb,lo+k*2,none⟩=some (.int .i64 tk)/\v.cell? ⟨lb,lo+k*2+1,none⟩=some (.int .i64 tp)) fun hJ=>?_;refine Tf 0 1 2 3 4 5 ?_;refine Bo 6 ?_;clear hJ;refine Aw 7 fun K hK=>?_;go_simp;(go_at_call 40;(with_reducible refine(HKW.out _ (bel HT.out.bel (A9 _))).mono ?_);rintro e w2 ⟨rfl,hb2⟩;have HT2:Hid (TW w v0 (.slice (some ⟨lb,lo,none⟩) n1 q1) v2 v3 (w.heap.size+1) _ (k:Int) A B C nn bt w2):=HT.out.next (bel (A9 _) hb2);clear hb2 c0 c1 c2 c3 i0 i1 i2 i3 i4 i5 i6 x0 x1;obtain⟨hb02,c0,c1,c2,c3,i0,i1,i2,i3,i4,i5,i6⟩:=HT2.out;have x0:=kc hb02 z0;have x1:=kc hb02 z1);exact Zev
theorem XE(c:Cd)(hg:Good c)(v0 v1 v2 v3:Value)(op A B C nn bt:Int)(ho:op=31\/op=33\/op=19\/op=20)(k:Nat)(hk:k<c.regs.length)(w:World)(hv:CD w v0 v1 v2 v3 c):
 Calls prog 42 #[.agg #[v0,v1,v2,v3],.agg #[.int .i64 op,.int .i64 A,.int .i64 (k:Int),.int .i64 B,.int .i64 C,.int .i64 nn,.int .u32 bt]] w fun e w'=>(∃n:Nat,n<=4096/\e=.returned (.int .i64 (n:Int)))/\Below w.heap.size w w':=by
 have KW:=Fm v0 v1 v2 v3 c hg c.regs[k] (fun h=>hg.type (gD hk) h);have hwid:(if c.regs[k].kind=3 then lenOf c c.regs[k].par else 1)<=4096:=by split;exact hg.lenOf _;omega
 obtain⟨p1,q1,rfl,-⟩:=id hv.regs;obtain⟨lb,lo,rfl,hreg⟩:=hv.regs.at hk;obtain⟨⟨tk,tp⟩,hT⟩:∃t:Ty,c.regs[k]=t:=⟨_,rfl⟩
 rw[hT]at hreg KW hwid;unfold DY at KW;simp only at KW hwid;obtain⟨Wd,hWd⟩:∃W,(if tk=3 then lenOf c tp else 1)=W:=⟨_,rfl⟩
 have hWi:(if tk=3 then(lenOf c tp:Int)else 1)=(Wd:Int):=by rw[<-hWd];split<;>rfl
 rw[hWi]at KW;rw[hWd]at hwid;obtain⟨n1,hn1⟩:∃n,c.regs.length=n:=⟨_,rfl⟩
 rw[hn1]at hk KW |-;obtain⟨D,hD⟩:∃d:Int,(k:Int)=d:=⟨_,rfl⟩
 rw[hD];have z0:w.cell? ⟨lb,lo+k*2,none⟩=some (.int .i64 tk):=hreg.at 0 rfl;have z1:w.cell? ⟨lb,lo+k*2+1,none⟩=some (.int .i64 tp):=hreg.at 1 rfl;have HKW:Hid (∀v,Below w.heap.size w v->Calls prog 40 #[.agg #[v0,.slice (some ⟨lb,lo,none⟩) n1 q1,v2,v3],.agg #[.int .i64 tk,.int .i64 tp]] v fun e w'=>e=.returned (.int .i64 (Wd:Int))/\Below v.heap.size v w'):=fun v hb=>KW v (by have h9:=hv.below hb;rw[hn1]at h9;exact h9);subst hD;have HT:Hid (TW w v0 (.slice (some ⟨lb,lo,none⟩) n1 q1) v2 v3 (w.heap.size+1) op A (k:Int) B C nn bt _):=TW.start w v0 _ v2 v3 op A (k:Int) B C nn bt;obtain⟨hb00,c0,c1,c2,c3,i0,i1,i2,i3,i4,i5,i6⟩:=HT.out;have x0:=kc hb00 z0;have x1:=kc hb00 z1;have d1:(0:Int)<=(k:Int):=oM;have d2:(k:Int)<(n1:Int):=oM;have hrl:=hg.regsL;rw[hn1]at hrl;clear KW hreg hT hWd hWi hn1 hv hg;rcases ho with rfl|rfl|rfl|rfl
 all_goals
  go_enter func42,ntmps42;go_wp2;refine rG (fun v=>v.cell? ⟨w.heap.size,0,none⟩=some v0/\v.cell? ⟨w.heap.size,1,none⟩=some (.slice (some ⟨lb,lo,none⟩) n1 q1)/\v.cell? ⟨w.heap.size,2,none⟩=some v2/\v.cell? ⟨w.heap.size,3,none⟩=some v3/\v.cell? ⟨w.heap.size+1,2,none⟩=some (.int .i64 (k:Int))/\v.cell? ⟨lb,lo+k*2,none⟩=some (.int .i64 tk)/\v.cell? ⟨lb,lo+k*2+1,none⟩=some (.int .i64 tp)) fun hJ=>?_;refine Tf 0 1 2 3 4 5 ?_;refine Bo 6 ?_;clear hJ;refine Aw 7 fun K hK=>?_;go_simp;(go_at_call 40;(with_reducible refine(HKW.out _ (bel HT.out.bel (A9 _))).mono ?_);rintro e w2 ⟨rfl,hb2⟩;have HT2:Hid (TW w v0 (.slice (some ⟨lb,lo,none⟩) n1 q1) v2 v3 (w.heap.size+1) _ A (k:Int) B C nn bt w2):=HT.out.next (bel (A9 _) hb2);clear hb2 c0 c1 c2 c3 i0 i1 i2 i3 i4 i5 i6 x0 x1;obtain⟨hb02,c0,c1,c2,c3,i0,i1,i2,i3,i4,i5,i6⟩:=HT2.out;have x0:=kc hb02 z0;have x1:=kc hb02 z1);exact Zev
theorem XD(v0 v1 v2 v3:Value)(op D A B C nn bt:Int)(ho:op=1\/op=2\/op=16\/op=17\/op=18\/op=21\/op=22\/op=23\/op=24\/op=25\/op=26\/op=27\/op=28\/op=34\/op=35\/op=36\/op=37)(w:World):
 Calls prog 42 #[.agg #[v0,v1,v2,v3],.agg #[.int .i64 op,.int .i64 D,.int .i64 A,.int .i64 B,.int .i64 C,.int .i64 nn,.int .u32 bt]] w fun e w'=>(∃n:Nat,n<=4096/\e=.returned (.int .i64 (n:Int)))/\Below w.heap.size w w':=by
 rcases ho with rfl|rfl|rfl|rfl|rfl|rfl|rfl|rfl|rfl|rfl|rfl|rfl|rfl|rfl|rfl|rfl|rfl
 all_goals
  go_enter func42,ntmps42;go_wp2;go_ret;first
   |exact⟨⟨1,dE,rfl⟩,bel (A0 _ _) (A0 _ _)⟩
   |exact⟨⟨62,dE,rfl⟩,bel (A0 _ _) (A0 _ _)⟩
theorem rowsP{E:Nat}{w:World}{v:Value}{ps:List Nat}{tag:Nat->Nat}{m:Nat}(ho:w.ownsRow E 3 1 v ps.length (BN ps))(ht:∀q,v.ownBlock=some q->tag q=m):
 ∃pb po cap,v=.slice po ps.length cap/\(0<ps.length->po=some ⟨pb,0,none⟩)/\(∀j (hj:j<ps.length),w.cell? ⟨pb,j,none⟩=some (.int .i64 (ps[j]:Int)))/\(0<ps.length->tag pb=m):=by
 by_cases hn:0<ps.length
 .obtain⟨g,cap,rfl,-,-,-,-,h⟩:=Dc ho hn;exact⟨g,_,cap,rfl,fun _=>rfl,fun j hj=>h j _ (by simp[BN,hj]),fun _=>ht g rfl⟩
 .obtain⟨po,cap,rfl⟩:=AZ ho;exact⟨0,po,cap,rfl,fun h=>absurd h hn,fun j hj=>absurd hj oM,fun h=>absurd h hn⟩
theorem Rs{m:Nat}{tag:Nat->Nat}:∀g,(Value.slice none 0 0).ownBlock=some g->tag g=m:=fun g h=>by cases h
theorem Er.slLen{l:List Ad}{s:Gh}{q:Sr}(h:Er l s q)(r:Nat):(s.sl r).length<=l.length:=by
 rw[h.sl r];split
 .exact gI _
 .unfold I1;exact gH (List.length_filter_le _ _) sM
theorem Er.tlLen{l:List Ad}{s:Gh}{q:Sr}(h:Er l s q)(r:Nat):(s.tl r).length<=l.length:=by
 rw[h.tl r];split
 .exact gI _
 .unfold IG;exact gH (List.length_filter_le _ _) sM
theorem Er.slLt{l:List Ad}{s:Gh}{q:Sr}(h:Er l s q)(r:Nat):∀p∈s.sl r,p<l.length:=fun p hp=>by
 rw[h.sl r]at hp;split at hp
 .cases hp
 .exact(I2.1 hp).1
theorem Er.tlLt{l:List Ad}{s:Gh}{q:Sr}(h:Er l s q)(r:Nat):∀p∈s.tl r,p<l.length:=fun p hp=>by
 rw[h.tl r]at hp;split at hp
 .cases hp
 .exact(I7.1 hp).1
theorem We(s:Gh)(r:Nat):(ZK s r).todo.length<=s.todo.length+(s.sl r).length:=Fk _ _
theorem Wg(s:Gh)(r:Nat):(Wf s r).todo.length<=s.todo.length+(s.tl r).length:=Fk _ _
theorem T9(l:List Ad)(q:Sr){rs:List Int}{j:Nat}(hj:j<rs.length):E9 l q (rs.take (j+1))=goR l (E9 l q (rs.take j)) rs[j].toNat:=by
 unfold E9;exact Zfn
def Zb(a b:Nat)(w0 w:World)(tag:Nat->Nat):Prop:=∀x,a<=x->x<b->w.heap[x]? =w0.heap[x]?/\tag x=0/\x<w.heap.size
theorem Zb.same{a b:Nat}{w0 w w':World}{tag tag':Nat->Nat}(h:Zb a b w0 w tag)(k:Lk w w' tag tag'):Zb a b w0 w' tag':=fun x h1 h2=>by
 obtain⟨e1,e2,e3⟩:=h x h1 h2;obtain⟨g1,g2⟩:=k x e3 oM oM oM;exact⟨g1.trans e1,g2.trans e2,k.lt e3 oM oM oM⟩
theorem Zb.set{a b:Nat}{w0 w:World}{tag:Nat->Nat}(h:Zb a b w0 w tag){g j m:Nat}(v:Value)(hg:tag g=m)(hm:m≠0):Zb a b w0 (w.setCell ⟨g,j,none⟩ v) tag:=fun x h1 h2=>by
 obtain⟨e1,e2,e3⟩:=h x h1 h2;exact⟨(gE (fun(q:x=g)=>hm (by rw[<-hg,<-q];exact e2))).trans e1,e2,by simpa using e3⟩
theorem Zb.cell{a b:Nat}{w0 w:World}{tag:Nat->Nat}(h:Zb a b w0 w tag){x j:Nat}{v:Value}(h1:a<=x)(h2:x<b)(hc:w0.cell? ⟨x,j,none⟩=some v):w.cell? ⟨x,j,none⟩=some v:=(gC (a:=⟨x,j,none⟩) (h x h1 h2).1).trans hc
theorem Vo(l:List Ad)(E R S:Nat)(s:Gh)(q:Sr)(w:World)(B C GB TB AB NB DB:Nat)(vg vt:Nat->Value)(vd:Value)(tag:Nat->Nat)(h:BO E R S l.length s w B C GB TB AB NB DB vg vt vd tag)(hq:Er l s q)(p3:Option Addr)(q3:Nat)(hC:w.cell? ⟨C,3,none⟩=some (.slice p3 l.length q3))(hli:AV 7 C9 w (.slice p3 l.length q3) l)(p:Nat)(hp:p<l.length)(hr:∀r∈Ae l[p] (A4 l[p].op),0<=r/\r<(R:Int))(hn:l[p].op=32->0<=l[p].n/\l[p].n<(S:Int))(hst:AE l=[])(hl:s.todo.length<=40000)(hLL:l.length<=40000):
 Calls prog 30 #[.pointer (some ⟨B,0,none⟩),.int .i64 (p:Int)] w fun e w'=>e=.returned (.tuple #[])/\Below E w w'/\∃s' vg' vt' vd' tag',BO E R S l.length s' w' B C GB TB AB NB DB vg' vt' vd' tag'/\Er l s' (goQ l q p l[p]):=by
 have KR:=A7 (fun v=>LZ l[p] v);obtain⟨lb,lo,rfl,hcl⟩:=hli.at hp;have HAR:Hid (∀b,(OY l p).head?=some b->b<l.length/\enP l b<l.length/\CE l b (enP l b)):=fun b hb=>by
  obtain⟨e,hm⟩:=O3 hst (l.length-p) p rfl (Nat.le_of_lt hp) (QT hp hb);obtain⟨g1,g2,-,-⟩:=DF hm;rw[Pu hm];exact⟨g1,g2,hm⟩
 have HGQ:Hid (goQ l q p l[p]=goA l (if l[p].op=32 then goS l (E9 l q (Ae l[p] (A4 l[p].op))) l[p].n.toNat else E9 l q (Ae l[p] (A4 l[p].op))) p):=rfl;have HARI:=A7 (PF (OY l p));have HAQ:Hid (IQ l p=FF (OY l p)):=rfl;obtain⟨rs,hrs⟩:=gA (Ae l[p] (A4 l[p].op))
 simp only[hrs]at KR hr HGQ;have HRR:=A7 hr;have hrl:rs.length<=3:=by rw[<-hrs,F2];have h1:=DS (A4 l[p].op).a l[p].a;have h2:=DS (A4 l[p].op).b l[p].b;have h3:=DS (A4 l[p].op).c l[p].c;simp only[List.length_append];omega
 obtain⟨⟨op,d,a,b,e,n,z⟩,hi⟩:∃i,l[p]=i:=⟨_,rfl⟩
 rw[hi]at hcl KR HGQ hn |-;simp only at hn HGQ;have y0:=hcl.at 0 (v:=.int .i64 op) rfl;rw[Nat.add_zero]at y0;have y1:=hcl.at 1 (v:=.int .i64 d) rfl;have y2:=hcl.at 2 (v:=.int .i64 a) rfl;have y3:=hcl.at 3 (v:=.int .i64 b) rfl;have y4:=hcl.at 4 (v:=.int .i64 e) rfl;have y5:=hcl.at 5 (v:=.int .i64 n) rfl;have y6:=hcl.at 6 (v:=.int .u32 z) rfl;have llb:lb<w.heap.size:=A8 y0;have n9:¬lb=w.heap.size:=oM;have c0:=h.b0;have HH:=A7 h;have HQ:=A7 hq;obtain⟨L,hL⟩:=gA (l.length)
 simp only[hL]at HH hC hp hLL HAR |-;have HLL:=A7 hL;have i1:(0:Int)<=(p:Int):=oM;have i2:(p:Int)<(L:Int):=oM;obtain⟨V2,hV2⟩:∃V,w.alloc (.cells #[.int .i64 op,.int .i64 d,.int .i64 a,.int .i64 b,.int .i64 e,.int .i64 n,.int .u32 z] 40)=V:=⟨_,rfl⟩
 have HV2:Hid (Below w.heap.size w V2):=by rw[<-hV2];exact A0 _ _
 have hX2:V2.rowIs w.heap.size 40 7 (UX op d a b e n z):=by rw[<-hV2];exact BS w _ _
 have HX2:=A7 hX2;have x0:V2.cell? ⟨w.heap.size,0,none⟩=some (.int .i64 op):=hX2.cell (i:=0) dE;have x1:V2.cell? ⟨w.heap.size,1,none⟩=some (.int .i64 d):=hX2.cell (i:=1) dE;have x2:V2.cell? ⟨w.heap.size,2,none⟩=some (.int .i64 a):=hX2.cell (i:=2) dE;have x3:V2.cell? ⟨w.heap.size,3,none⟩=some (.int .i64 b):=hX2.cell (i:=3) dE;have x4:V2.cell? ⟨w.heap.size,4,none⟩=some (.int .i64 e):=hX2.cell (i:=4) dE;have x5:V2.cell? ⟨w.heap.size,5,none⟩=some (.int .i64 n):=hX2.cell (i:=5) dE;have x6:V2.cell? ⟨w.heap.size,6,none⟩=some (.int .u32 z):=hX2.cell (i:=6) dE;unfold Ch at KR;simp only at KR;clear h hq hcl hi hr hrs hX2 hL hst hli llb;go_enter func30,ntmps30;go_upto_region 1 with fail;try rw[hV2]
 clear hV2 y0 y1 y2 y3 y4 y5 y6 hC c0 n9;go_wp2_with(go_at_call 32;(with_reducible refine(KR.out _).mono ?_);rintro e9 w3 ⟨v3,rfl,ho3,hb3⟩;obtain⟨p4,q4,rfl⟩:=AZ ho3;have HO3:=A7 ho3;have HB3:=A7 hb3;clear ho3 hb3);clear KR x0 x1 x2 x3 x4 x5 x6;obtain⟨nr,hnr⟩:=gA (rs.length)
 have HNR:=A7 hnr;obtain⟨H0,hH0⟩:=gA (w.heap.size)
 have HWE:Hid (E<=H0):=by rw[<-hH0];exact HH.lt
 have HBW:Hid (Below H0 w w3):=by rw[<-hH0];exact bel HV2.out HB3.out
 have HX3:Hid (w3.rowIs H0 40 7 (UX op d a b e n z)):=by rw[<-hH0];exact HX2.of_block (HB3.block _ HX2.lt)
 have HRD:Hid (∀k (hk:k<rs.length),∃pb,p4=some ⟨pb,0,none⟩/\H0<=pb/\pb<w3.heap.size/\w3.cell? ⟨pb,k,none⟩=some (.int .i64 rs[k])):=fun k hk=>by
  obtain⟨g,cap,ev,g1,g2,-,-,g3⟩:=Dc HO3.out oM;simp only[Value.slice.injEq]at ev;refine⟨g,ev.1,?_,g2,g3 k _ (by simp[Cg,hk])⟩;rw[<-hH0];exact gH HV2.size g1
 have HK0:Hid (Below E w w3/\∃s' vg' vd' tag',BO E R S L s' w3 B C GB TB AB NB DB vg' vt vd' tag'/\Er l s' (E9 l q (rs.take 0))/\s'.todo.length<=40000+40000*0/\Zb H0 w3.heap.size w3 w3 tag'):=by
  refine⟨HBW.mono HWE.out,s,vg,vd,fun b=>if b<w.heap.size then tag b else 0,(HH.retag (fun b hb=>if_pos hb)).below (by rw[hH0];exact HBW.out),HQ.out,oM,fun x h1 h2=>⟨rfl,if_neg oM,h2⟩⟩
 rw[hnr];rw[hnr]at hrl;rw[hH0];clear hH0;have hnp:∀j,j<nr->(0:Int)<=(j:Int):=fun j _=>by omega
 clear HH HQ hnr HO3 HV2 HB3 HX2;go_wp2
 go_loopw [21] (fun iv wr=>∃j:Nat,j<=nr/\iv=.int .i64 (j:Int)/\Hid (Below E w wr/\∃s' vg' vd' tag',BO E R S L s' wr B C GB TB AB NB DB vg' vt vd' tag'/\Er l s' (E9 l q (rs.take j))/\s'.todo.length<=40000+40000*j/\Zb H0 w3.heap.size w3 wr tag')) (fun iv _=>nr-(intOf iv).toNat)
 case atStart=>exact⟨0,gI _,rfl,HK0.out⟩
 case round=>
  clear HK0;obtain⟨j,hj,rfl,HJ⟩:=hrel;by_cases hlt:j<nr
  .have hjl:j<rs.length:=by have:=HNR.out;omega
   obtain⟨hB0,T,vg',vd',tag',hK,hS,hT,hZ⟩:=HJ.out;obtain⟨pb,rfl,pb1,pb2,pb3⟩:=HRD.out j hjl;have x0:=hZ.cell pb1 pb2 pb3;obtain⟨hr1,hr2⟩:=HRR.out _ (gD hjl);have HGN:=A7 (T9 l q hjl);obtain⟨r,hrn⟩:∃r:Nat,rs[j]=(r:Int):=⟨rs[j].toNat,oM⟩
   rw[hrn]at x0 hr2 HGN;rw[Int.toNat_natCast]at HGN;have hrR:r<R:=oM;have d1:=hK.b1;have dg:=hK.g.cell hrR;obtain⟨pb',po,cap,ev,r1,r2,r3⟩:=rowsP (hK.gs r hrR) (hK.tgs r hrR);have hpl:=hS.slLen r;have KN:=A7 (FZ E R S L T wr B C GB TB AB NB DB vg' vt vd' tag' hK pb' cap (8+2*r) po (T.sl r) r1 r2 (fun hh=>⟨r3 hh,oM,oM,oM⟩) (fun x hx=>by have:=hS.slLt r x hx;have h9:=HLL.out;omega) (by have h9:=HLL.out;omega) oM);rw[ev]at dg;have HT:=A7 hT;have HPL:=A7 hpl;have HS:=A7 hS;have HZ:=A7 hZ;have HB0:=A7 hB0;have i3:(0:Int)<=(j:Int):=oM;have i4:(j:Int)<(nr:Int):=oM;have i5:(0:Int)<=(r:Int):=oM;have wi:IntKind.i64.wrap ((j:Int)+1)=((j+1:Nat):Int):=by rw[IntKind.wrap_i64];omega
   obtain⟨m,hm⟩:=gA ((T.sl r).length)
   rw[hm]at dg KN;clear hB0 hK hS hT hZ hrn r1 r2 r3 hpl ev hm pb1 pb2 pb3 hr1;go_upto_region 5 with(go_at_call 29;(with_reducible refine(KN.out).mono ?_);rintro e9 w4 ⟨rfl,hb4,vd4,tag4,hk4,hs4⟩;have HB4:=A7 hb4;have HK4:=A7 hk4;have HS4:=A7 hs4;have d1:=hk4.b1;have dg:=hk4.g.cell hrR;have fg:=hk4.g.frozen r;clear hb4 hk4 hs4)
   go_wp2;go_roundw
   case rel=>
    refine⟨j+1,oM,gN,(HB0.trans HB4.out).setCell HK4.hG _,ZK T r,_,vd4,tag4,HK4.setSl (O:=[]) hrR (World.ownsRow_nil _ _ _ 1) Rs,?_,?_,(HZ.same HS4.out).set _ HK4.tG dE⟩
    .rw[HGN.out];exact HS.goR r
    .have h9:=We T r;have h8:=HT.out;have h7:=HPL.out;have h6:=HLL.out;omega
   case measure=>simp[intOf];omega
  .have e9:¬ (j:Int)<(nr:Int):=oM;have hjn:j=rs.length:=by have:=HNR.out;omega
   obtain⟨hB0,T,vg',vd',tag',hK,hS,hT,hZ⟩:=HJ.out;rw[hjn,List.take_length]at hS;have x0:wr.cell? ⟨H0,0,none⟩=some (.int .i64 op):=hZ.cell (gF _) HX3.lt (HX3.cell (i:=0) dE);have x5:wr.cell? ⟨H0,5,none⟩=some (.int .i64 n):=hZ.cell (gF _) HX3.lt (HX3.cell (i:=5) dE);by_cases o:op=32
   .obtain⟨n1,n2⟩:=hn o;obtain⟨m,hm⟩:∃m:Nat,n=(m:Int):=⟨n.toNat,oM⟩
    have hmS:m<S:=oM;have o1:(op==32)=true:=by simpa using o
    have HGO:Hid ((if op=32 then goS l (E9 l q rs) n.toNat else E9 l q rs)=goS l (E9 l q rs) m):=by show _=_;rw[if_pos o,hm,Int.toNat_natCast]
    rw[hm]at x5;have d2:=hK.b2;have dt:=hK.t.cell hmS;obtain⟨pb',po,cap,ev,r1,r2,r3⟩:=rowsP (hK.ts m hmS) (hK.tts m hmS);have hpl:=hS.tlLen m;have KN:=A7 (fun(v:World) (hv:Below wr.heap.size wr v)=>FZ E R S L T v B C GB TB AB NB DB vg' vt vd' tag' (hK.below hv) pb' cap (9+2*m) po (T.tl m) r1 (fun k hk=>kc hv (r2 k hk)) (fun hh=>⟨r3 hh,oM,oM,oM⟩) (fun x hx=>by have:=hS.tlLt m x hx;have h9:=HLL.out;omega) (by have h9:=HLL.out;omega) oM);rw[ev]at dt;have EV:=A7 ev;have HLW:=A7 hK.lt;have HS1:=A7 (hS.goS m);have HT1:Hid ((Wf T m).todo.length<=240000):=by have h9:=Wg T m;have h6:=HLL.out;show _<=_;omega
    have HZ:=A7 hZ;have HB0:=A7 hB0;have i5:(0:Int)<=(m:Int):=oM;have i6:(m:Int)<(S:Int):=oM;have lX:H0<wr.heap.size:=(hZ H0 (gF _) HX3.lt).2.2;have HXS:Hid (∀v tagv,Zb H0 w3.heap.size w3 v tagv->v.cell? ⟨H0,5,none⟩=some (.int .i64 (m:Int))):=fun v tagv hz=>by
     have h9:=hz.cell (gF _) HX3.lt (HX3.cell (i:=5) dE);rw[<-hm];exact h9
    rw[HGO.out]at HGQ;obtain⟨mm,hmm⟩:=gA ((T.tl m).length)
    rw[hmm]at dt KN EV;clear hB0 hK hS hT hZ r1 r2 r3 hpl ev hmm hm o n1 n2 hn hjn hlt HJ HGO lX HRR HNR HRD;go_upto_region 8 with fail;refine rG (fun v=>v.cell? ⟨B,2,none⟩=some (.slice (some ⟨TB,0,none⟩) S S)/\v.cell? ⟨H0,5,none⟩=some (.int .i64 (m:Int))/\v.cell? ⟨TB,m,none⟩=some (.slice po mm cap)) fun hJ=>?_;refine Tf 0 1 2 3 4 5 ?_;refine Tc 6 7 8 ?_;clear hJ;refine Aw 9 fun K hK=>?_;go_simp;(go_at_call 29;(with_reducible refine(KN.out _ (Bg _)).mono ?_);rintro e9 w4 ⟨rfl,hb4,vd4,tag4,hk4,hs4⟩;have HB4:=A7 hb4;have HK4:=A7 hk4;have HZ4:=A7 ((HZ.out:Zb H0 w3.heap.size w3 wr.drew tag').same hs4);have d2:=hk4.b2;have dt:=hk4.t.cell hmS;rw[EV.out]at dt;have nBT:¬B=TB:=Am hk4.tB hk4.tT dE;have nHT:¬H0=TB:=Am (HZ4.out H0 (gF _) HX3.out.lt).2.1 hk4.tT dE;have ft:=hk4.t.frozen m;have x5:=HXS.out _ _ HZ4.out;have v3:(w4.setCell ⟨TB,m,none⟩ (.slice none 0 0)).cell? ⟨B,2,none⟩=some (.slice (some ⟨TB,0,none⟩) S S):=(gC (a:=⟨B,2,none⟩) (gE nBT)).trans d2;have v4:(w4.setCell ⟨TB,m,none⟩ (.slice none 0 0)).cell? ⟨H0,5,none⟩=some (.int .i64 (m:Int)):=(gC (a:=⟨H0,5,none⟩) (gE nHT)).trans x5;clear hb4 hk4 hs4);try(go_wp2_with fail)
    refine Aq hK fun hJ=>?_;clear hK K;refine wpAnyH_done kR ?_ _;go_upto_region 9 with fail;refine rG (fun v=>v.cell? ⟨B,2,none⟩=some (.slice (some ⟨TB,0,none⟩) S S)/\v.cell? ⟨H0,5,none⟩=some (.int .i64 (m:Int))) fun hJ=>?_;refine Tf 0 1 2 3 4 5 ?_;refine Bo 6 ?_;clear hJ;refine Aw 7 fun K hK=>?_;go_simp;refine Aq hK fun hJ=>?_;clear hK K;refine wpAnyH_done kR ?_ _;obtain⟨WW,hWW⟩:∃W,(w4.setCell ⟨TB,m,none⟩ (.slice none 0 0)).drew=W:=⟨_,rfl⟩
    try rw[hWW]
    have HKK0:=HK4.setTl (O:=[]) hmS (World.ownsRow_nil _ _ _ 1) Rs;have HKK1:=HKK0.below (Bg _);rw[hWW]at HKK1;obtain⟨TT,hTT⟩:∃T',Wf T m=T':=⟨_,rfl⟩
    obtain⟨vgT,hvgT⟩:∃v,vg'=v:=⟨_,rfl⟩
    obtain⟨vtT,hvtT⟩:∃v,(fun k=>if k=m then(Value.slice none 0 0)else vt k)=v:=⟨_,rfl⟩
    obtain⟨vdT,hvdT⟩:∃v,vd4=v:=⟨_,rfl⟩
    obtain⟨tagT,htagT⟩:∃v,tag4=v:=⟨_,rfl⟩
    have HKK:Hid (BO E R S L TT WW B C GB TB AB NB DB vgT vtT vdT tagT):=by rw[<-hTT,<-hvgT,<-hvtT,<-hvdT,<-htagT];exact HKK1
    have HSS:Hid (Er l TT (goS l (E9 l q rs) m)):=by rw[<-hTT];exact HS1.out
    have HTD:Hid (TT.todo.length<=240000):=by rw[<-hTT];exact HT1.out
    have HBB:Hid (Below E w WW):=by rw[<-hWW];exact((HB0.trans (((Bg wr).mono HLW.out).trans HB4.out)).setCell HK4.hT _).trans ((Bg _).mono HKK0.lt)
    clear HKK0 HKK1 hTT hvgT hvtT hvdT htagT HS1 HT1 HK4 HB4 HZ4 HZ HB0 d2 dt ft x5 v3 v4 nBT nHT KN hWW HXS;rcases HARI.out with⟨q1,q2⟩|⟨bg,q1,q2⟩
    .have dA:=HKK.a.cell hp;rw[HSS.ar p Zhs,HAQ.out,q2]at dA;have d3:=HKK.b3;have HFIN:Hid (Er l TT (goQ l q p ⟨op,d,a,b,e,n,z⟩)):=by
      show Er _ _ _;rw[HGQ.out];unfold goA;rw[q1];exact HSS.out
     clear q1 q2;go_wp2;first|go_end0|(simp only[Exit.inBlock,Exit.then];refine bodyPost_ret (results_none rfl _ _ _) rfl ?_)|refine bodyPost_ret (results_none rfl _ _ _) rfl ?_
     first|exact⟨rfl,HBB.out,TT,⟨vgT,vtT,vdT,tagT,HKK.out⟩,HFIN.out⟩|exact⟨rfl,HBB.out,TT,vgT,vtT,vdT,tagT,HKK.out,HFIN.out⟩
    .obtain⟨b1,b2,b3⟩:=HAR.out bg q1;have dA:=HKK.a.cell hp;rw[HSS.ar p Zhs,HAQ.out,q2]at dA;have dN:=HKK.n.cell b1;rw[HSS.en bg _ b3]at dN;have d3:=HKK.b3;have d4:=HKK.b4;have HFIN:Hid (Er l (Bn TT [bg,enP l bg]) (goQ l q p ⟨op,d,a,b,e,n,z⟩)):=by
      show Er _ _ _;rw[HGQ.out];unfold goA;rw[q1];exact HSS.needL _
     have j1:(0:Int)<=(bg:Int):=oM;have j2:(bg:Int)<(L:Int):=oM;obtain⟨eb,heb⟩:=gA (enP l bg)
     rw[heb]at dN b2 HFIN;obtain⟨W6,hW6⟩:∃W,WW.alloc (.cells #[.int .i64 (bg:Int),.int .i64 (eb:Int)] 3)=W:=⟨_,rfl⟩
     have HB6:Hid (Below WW.heap.size WW W6):=by rw[<-hW6];exact A0 _ _
     have HK6:Hid (BO E R S L TT W6 B C GB TB AB NB DB vgT vtT vdT (fun x=>if x<WW.heap.size then tagT x else 0)):=(HKK.retag (fun x hx=>if_pos hx)).below HB6.out;have KN0:=FZ E R S L TT W6 B C GB TB AB NB DB vgT vtT vdT (fun x=>if x<WW.heap.size then tagT x else 0) HK6.out WW.heap.size 2 0 (some ⟨WW.heap.size,0,none⟩) [bg,eb] (fun _=>rfl) (fun k hk=>by
      have hk2:k=0\/k=1:=by simp only[List.length_cons,List.length_nil]at hk;omega
      rw[<-hW6]
      rcases hk2 with rfl|rfl<;>simp[go_sem]) (fun _=>⟨if_neg oM,dE,dE,dE⟩) (fun x hx=>by
      simp only[List.mem_cons,List.not_mem_nil,or_false]at hx
      rcases hx with e1|e1<;>rw[e1]<;>assumption) Zgl oM
     rw[show [bg,eb].length=2 from rfl]at KN0;have KN:=A7 KN0;clear KN0;clear q1 q2 b1 b2 b3 heb;go_wp2_with(go_at_call 29;(try rw[hW6]);(with_reducible refine(KN.out).mono ?_);rintro e9 w7 ⟨rfl,hb7,vd7,tag7,hk7,hs7⟩;have HB7:=A7 hb7;have HK7:=A7 hk7;clear hb7 hk7 hs7);first|go_end0|(simp only[Exit.inBlock,Exit.then];refine bodyPost_ret (results_none rfl _ _ _) rfl ?_)|refine bodyPost_ret (results_none rfl _ _ _) rfl ?_
     first|exact⟨rfl,(HBB.trans (HB6.mono HKK.lt)).trans HB7.out,_,⟨vgT,vtT,vd7,tag7,HK7.out⟩,HFIN.out⟩|exact⟨rfl,(HBB.trans (HB6.mono HKK.lt)).trans HB7.out,_,vgT,vtT,vd7,tag7,HK7.out,HFIN.out⟩
   .have o1:(op==32)=false:=by simpa using o
    have HGO:Hid ((if op=32 then goS l (E9 l q rs) n.toNat else E9 l q rs)=E9 l q rs):=if_neg o;rw[HGO.out]at HGQ;obtain⟨WW,hWW⟩:∃W,wr=W:=⟨_,rfl⟩
    obtain⟨TT,hTT⟩:∃T',T=T':=⟨_,rfl⟩
    obtain⟨vgT,hvgT⟩:∃v,vg'=v:=⟨_,rfl⟩
    obtain⟨vtT,hvtT⟩:∃v,vt=v:=⟨_,rfl⟩
    obtain⟨vdT,hvdT⟩:∃v,vd'=v:=⟨_,rfl⟩
    obtain⟨tagT,htagT⟩:∃v,tag'=v:=⟨_,rfl⟩
    subst hWW hTT hvgT hvtT hvdT htagT;have HKK:=A7 hK;have HSS:=A7 hS;have HTD:Hid (T.todo.length<=240000):=by show _<=_;omega
    have HBB:=A7 hB0;clear hB0 hK hS hT hZ hn hjn hlt HJ HGO o x5 HRR HNR HRD;rcases HARI.out with⟨q1,q2⟩|⟨bg,q1,q2⟩
    .have dA:=HKK.a.cell hp;rw[HSS.ar p Zhs,HAQ.out,q2]at dA;have d3:=HKK.b3;have HFIN:Hid (Er l T (goQ l q p ⟨op,d,a,b,e,n,z⟩)):=by
      show Er _ _ _;rw[HGQ.out];unfold goA;rw[q1];exact HSS.out
     clear q1 q2;go_wp2;first|go_end0|(simp only[Exit.inBlock,Exit.then];refine bodyPost_ret (results_none rfl _ _ _) rfl ?_)|refine bodyPost_ret (results_none rfl _ _ _) rfl ?_
     first|exact⟨rfl,HBB.out,T,⟨vg',vt,vd',tag',HKK.out⟩,HFIN.out⟩|exact⟨rfl,HBB.out,T,vg',vt,vd',tag',HKK.out,HFIN.out⟩
    .obtain⟨b1,b2,b3⟩:=HAR.out bg q1;have dA:=HKK.a.cell hp;rw[HSS.ar p Zhs,HAQ.out,q2]at dA;have dN:=HKK.n.cell b1;rw[HSS.en bg _ b3]at dN;have d3:=HKK.b3;have d4:=HKK.b4;have HFIN:Hid (Er l (Bn T [bg,enP l bg]) (goQ l q p ⟨op,d,a,b,e,n,z⟩)):=by
      show Er _ _ _;rw[HGQ.out];unfold goA;rw[q1];exact HSS.needL _
     have j1:(0:Int)<=(bg:Int):=oM;have j2:(bg:Int)<(L:Int):=oM;obtain⟨eb,heb⟩:=gA (enP l bg)
     rw[heb]at dN b2 HFIN;obtain⟨W6,hW6⟩:∃W,wr.alloc (.cells #[.int .i64 (bg:Int),.int .i64 (eb:Int)] 3)=W:=⟨_,rfl⟩
     have HB6:Hid (Below wr.heap.size wr W6):=by rw[<-hW6];exact A0 _ _
     have HK6:Hid (BO E R S L T W6 B C GB TB AB NB DB vg' vt vd' (fun x=>if x<wr.heap.size then tag' x else 0)):=(HKK.retag (fun x hx=>if_pos hx)).below HB6.out;have KN0:=FZ E R S L T W6 B C GB TB AB NB DB vg' vt vd' (fun x=>if x<wr.heap.size then tag' x else 0) HK6.out wr.heap.size 2 0 (some ⟨wr.heap.size,0,none⟩) [bg,eb] (fun _=>rfl) (fun k hk=>by
      have hk2:k=0\/k=1:=by simp only[List.length_cons,List.length_nil]at hk;omega
      rw[<-hW6]
      rcases hk2 with rfl|rfl<;>simp[go_sem]) (fun _=>⟨if_neg oM,dE,dE,dE⟩) (fun x hx=>by
      simp only[List.mem_cons,List.not_mem_nil,or_false]at hx
      rcases hx with e1|e1<;>rw[e1]<;>assumption) Zgl oM
     rw[show [bg,eb].length=2 from rfl]at KN0;have KN:=A7 KN0;clear KN0;clear q1 q2 b1 b2 b3 heb;go_wp2_with(go_at_call 29;(try rw[hW6]);(with_reducible refine(KN.out).mono ?_);rintro e9 w7 ⟨rfl,hb7,vd7,tag7,hk7,hs7⟩;have HB7:=A7 hb7;have HK7:=A7 hk7;clear hb7 hk7 hs7);first|go_end0|(simp only[Exit.inBlock,Exit.then];refine bodyPost_ret (results_none rfl _ _ _) rfl ?_)|refine bodyPost_ret (results_none rfl _ _ _) rfl ?_
     first|exact⟨rfl,(HBB.trans (HB6.mono HKK.lt)).trans HB7.out,_,⟨vg',vt,vd7,tag7,HK7.out⟩,HFIN.out⟩|exact⟨rfl,(HBB.trans (HB6.mono HKK.lt)).trans HB7.out,_,vg',vt,vd7,tag7,HK7.out,HFIN.out⟩
theorem Pq{T:Nat->Prop}(p0 p1 p2 p3 p5 p6 p7 p8:Option Addr)(n0 q0 n1 q1 n2 q2 n3 q3 n5 q5 n6 q6 n7 q7 n8 q8:Nat)(ct:Int)(pr:Option Addr)(qr:Nat)(X:List Cl)(N:Nat)(hN:X.length=N)(hX:N<=16384)(nn bt:Int)(kd ka kb kk:Nat)(w:World)(hT:∀b,T b->b<w.heap.size)(hcs:AT T w (.slice pr N qr) X)(xa:Cl)(hxa:X[ka]? =some xa)(ks:Nat)(hnn:nn=(ks:Int))(Sl:List Cl)(hns:Sl.length=n5)(hnl:n5<=4096)(hkl:ks<n5)(hss:AT T w (.slice p5 n5 q5) Sl):
 Calls prog 43 #[.agg #[(.slice p0 n0 q0),(.slice p1 n1 q1),(.slice p2 n2 q2),(.slice p3 n3 q3),.slice pr N qr,(.slice p5 n5 q5),(.slice p6 n6 q6),(.slice p7 n7 q7),(.slice p8 n8 q8),(.int .i64 ct)],.agg #[.int .i64 33,.int .i64 (kd:Int),.int .i64 (ka:Int),.int .i64 (kb:Int),.int .i64 (kk:Int),.int .i64 nn,.int .u32 bt]] w fun e w'=>∃p9 q9,e=.returned (.agg #[(.slice p0 n0 q0),(.slice p1 n1 q1),(.slice p2 n2 q2),(.slice p3 n3 q3),.slice pr N qr,.slice p9 n5 q9,(.slice p6 n6 q6),(.slice p7 n7 q7),(.slice p8 n8 q8),(.int .i64 ct)])/\AT T w' (.slice p9 n5 q9) (Sl.set ks xa)/\Below w.heap.size w w':=by
 have HT2:Hid (∀v:World,w.heap.size+1+1+1<v.heap.size->∀b,T2 w T b->b<v.heap.size):=fun v hv b hb=>Dk hT hb hv;subst hnn;have HXA:Hid (X[ka]? =some xa):=hxa;obtain⟨hal,hax⟩:=List.getElem?_eq_some_iff.1 hxa;obtain⟨rb,ro,rfl,hca⟩:=hcs.row.row.at hal;rw[hax]at hca;have x0:w.cell? ⟨rb,ro+ka*2,none⟩=some (.slice xa.p xa.h.pats.length xa.q):=hca.at 0 rfl;have x1:w.cell? ⟨rb,ro+ka*2+1,none⟩=some (.int .i64 xa.h.whole):=hca.at 1 rfl;have ha0:(0:Int)<=(ka:Int):=oM;have ha1:(ka:Int)<(N:Int):=oM;have hrb1:¬rb=w.heap.size:=by have:=A8 x0;intro e;simp only at this;omega
 have hrb2:¬rb=w.heap.size+1+1+1:=by have:=A8 x0;intro e;simp only at this;omega
 have HPUT:Hid (∀v F I D (x:Cl),DW w F I D v->B6 (T2 w T) v x.p x.h.pats->Calls prog 70 #[.slice p5 n5 q5,.int .i64 (ks:Int),.agg #[.slice x.p x.h.pats.length x.q,.int .i64 x.h.whole]] v fun e w'=>∃p q,e=.returned (.slice p n5 q)/\AT (T2 w T) w' (.slice p n5 q) (Sl.set ks x)/\Below v.heap.size v w'):=BT (.slice p5 n5 q5) Sl hns oM ks hkl w hT hss;have HN0:Hid (B6 T w xa.p xa.h.pats):=hcs.nums xa (List.mem_of_getElem? hxa);have HD0:Hid (DW w (D4 (.slice p0 n0 q0) (.slice p1 n1 q1) (.slice p2 n2 q2) (.slice p3 n3 q3) (.slice (some ⟨rb,ro,none⟩) N qr) (.slice p5 n5 q5) (.slice p6 n6 q6) (.slice p7 n7 q7) (.slice p8 n8 q8) (.int .i64 ct)) (f7 (.int .i64 33) (.int .i64 (kd:Int)) (.int .i64 (ka:Int)) (.int .i64 (kb:Int)) (.int .i64 (kk:Int)) (.int .i64 (ks:Int)) (.int .u32 bt)) (f2 (.slice none 0 0) (.int .i64 0)) _):=DW.start w (.slice p0 n0 q0) (.slice p1 n1 q1) (.slice p2 n2 q2) (.slice p3 n3 q3) (.slice (some ⟨rb,ro,none⟩) N qr) (.slice p5 n5 q5) (.slice p6 n6 q6) (.slice p7 n7 q7) (.slice p8 n8 q8) (.int .i64 ct) (.int .i64 33) (.int .i64 (kd:Int)) (.int .i64 (ka:Int)) (.int .i64 (kb:Int)) (.int .i64 (kk:Int)) (.int .i64 (ks:Int)) (.int .u32 bt);clear hT hcs hN hss hca hxa hal hax;go_enter func43,ntmps43;go_upto_block 0 with fail;obtain⟨W,hW⟩:=gA (((((w.alloc (.cells #[(.slice p0 n0 q0),(.slice p1 n1 q1),(.slice p2 n2 q2),(.slice p3 n3 q3),.slice (some ⟨rb,ro,none⟩) N qr,(.slice p5 n5 q5),(.slice p6 n6 q6),(.slice p7 n7 q7),(.slice p8 n8 q8),(.int .i64 ct)] 110)).alloc (.cells #[.int .i64 33,.int .i64 (kd:Int),.int .i64 (ka:Int),.int .i64 (kb:Int),.int .i64 (kk:Int),.int .i64 (ks:Int),.int .u32 bt] 40)).alloc (.cells #[.slice none 0 0,.slice none 0 0,.slice none 0 0,.slice none 0 0,.slice none 0 0,.slice none 0 0,.slice none 0 0,.slice none 0 0,.slice none 0 0,.int .i64 0] 110)).alloc (.cells #[.slice none 0 0,.int .i64 0] 74)))
 rw[hW]at HD0;rw[hW];clear hW;have hsz:=HD0.out.size;have f0:W.cell? ⟨w.heap.size,4,none⟩=some (.slice (some ⟨rb,ro,none⟩) N qr):=HD0.out.f.cell (i:=4) dE;have i0:W.cell? ⟨w.heap.size+1,0,none⟩=some (.int .i64 33):=HD0.out.i.cell (i:=0) dE;have i2:W.cell? ⟨w.heap.size+1,2,none⟩=some (.int .i64 (ka:Int)):=HD0.out.i.cell (i:=2) dE;have i5:W.cell? ⟨w.heap.size+1,5,none⟩=some (.int .i64 (ks:Int)):=HD0.out.i.cell (i:=5) dE;have x2:=kc HD0.out.bel x0;have x3:=kc HD0.out.bel x1;have f1:W.cell? ⟨w.heap.size,5,none⟩=some (.slice p5 n5 q5):=HD0.out.f.cell (i:=5) dE;clear x0 x1;go_upto_region 31 with fail;refine rG (fun v=>v.cell? ⟨w.heap.size,4,none⟩=some (.slice (some ⟨rb,ro,none⟩) N qr)/\v.cell? ⟨w.heap.size+1,5,none⟩=some (.int .i64 (ks:Int))/\v.cell? ⟨w.heap.size+1,2,none⟩=some (.int .i64 (ka:Int))/\v.cell? ⟨rb,ro+ka*2,none⟩=some (.slice xa.p xa.h.pats.length xa.q)/\v.cell? ⟨rb,ro+ka*2+1,none⟩=some (.int .i64 xa.h.whole)) fun hJ=>?_;refine Tf 0 2 3 4 5 6 ?_;refine Tc 7 8 9 ?_;clear hJ;refine Aw 1 fun K hK=>?_;go_simp;refine Aq hK fun hJ=>?_;clear hK K;clear hJ;refine Aw 10 fun K hK=>?_;go_simp;(go_at_call 70;(with_reducible refine(HPUT.out _ _ _ _ xa (HD0.out.next (A9 _)) (Ni HN0.out (bel HD0.out.bel (A9 _)))).mono ?_);rintro e w5 ⟨pu5,qu5,rfl,hcu,hb5⟩;have HB3:Hid (Below W.heap.size W w5):=bel (A9 _) hb5;have HC5:Hid (DW w (D4 (.slice p0 n0 q0) (.slice p1 n1 q1) (.slice p2 n2 q2) (.slice p3 n3 q3) (.slice (some ⟨rb,ro,none⟩) N qr) (.slice p5 n5 q5) (.slice p6 n6 q6) (.slice p7 n7 q7) (.slice p8 n8 q8) (.int .i64 ct)) _ _ w5/\AT (T2 w T) w5 (.slice pu5 n5 qu5) (Sl.set ks xa)):=⟨HD0.out.next HB3.out,hcu⟩;clear hb5 hcu;have f0:=kc HB3.out f0;have f1:=kc HB3.out f1;have i5:=kc HB3.out i5;have i2:=kc HB3.out i2;have x2:=kc HB3.out x2;have x3:=kc HB3.out x3;have si5:=(fun u=>AN (b:=⟨w.heap.size,5,none⟩) (i5) iE u);have si2:=(fun u=>AN (b:=⟨w.heap.size,5,none⟩) (i2) iE u);have sx2:=(fun u=>AN (b:=⟨w.heap.size,5,none⟩) (x2) iE u);have sx3:=(fun u=>AN (b:=⟨w.heap.size,5,none⟩) (x3) iE u);have sf0:∀u,(w5.setCell ⟨w.heap.size,5,none⟩ u).cell? ⟨w.heap.size,4,none⟩=some (.slice (some ⟨rb,ro,none⟩) N qr):=(fun u=>by simp[go_sem,f0]);have z4:=HC5.out.1.f.frozen 5);try(go_wp2_with fail)
 refine Aq hK fun hJ=>?_;clear hK K;refine Bo 11 ?_;clear hJ;refine Aw 12 fun K hK=>?_;go_simp;refine Aq hK fun hJ=>?_;clear hK K;refine wpAnyH_done kR ?_ _;go_upto_region 32 with fail;have HE:Hid (DE w (.slice p0 n0 q0) (.slice p1 n1 q1) (.slice p2 n2 q2) (.slice p3 n3 q3) (.slice (some ⟨rb,ro,none⟩) N qr) (.slice pu5 n5 qu5) (.slice p6 n6 q6) (.slice p7 n7 q7) (.slice p8 n8 q8) (.int .i64 ct) (w5.setCell ⟨w.heap.size,5,none⟩ (.slice pu5 n5 qu5))/\AT (T2 w T) (w5.setCell ⟨w.heap.size,5,none⟩ (.slice pu5 n5 qu5)) (.slice pu5 n5 qu5) (Sl.set ks xa)):=SU HC5.1 HC5.2;obtain⟨V,hV⟩:=gA (w5.setCell ⟨w.heap.size,5,none⟩ (.slice pu5 n5 qu5))
 rw[hV]at HE;rw[hV];obtain⟨⟨-,c0,c1,c2,c3,c4,c5,c6,c7,c8,c9,r0,r1,r2,r3,r4,r5,r6,r7,r8,r9,y0,y1,y2,y3,y4,y5,y6,y7,y8,y9⟩,-⟩:=HE.out;clear hV z4 f0 f1 i5 i2 x2 x3;go_wp2;refine bodyPost_ret Zgy rfl ?_;exact⟨pu5,qu5,rfl,Ms HE.1 HE.2⟩
theorem Mu{rs:List Ty}{l n:Int}{m:Ty}(h:Ah rs l n m=true):0<=n:=by
 by_cases hl:l=0
 .unfold Ah at h;rw[if_pos hl]at h;simp only[beq_iff_eq]at h;omega
 .exact(Ag h hl).1
theorem Y4{f:Fr}{i:Ad}{a b d:Int}(ho:21<=i.op/\i.op<=28)(ha:a=f.whs i.a.toNat)(hb:(A4 i.op).b≠0->b=f.whs i.b.toNat)(hc:(A4 i.op).c≠0->d=f.whs i.c.toNat):Df i.op a b d=ER f i:=by
 obtain⟨op,D,A,B,Ec,nn,bt⟩:=i;simp only at ho ha hb hc |-;subst ha;have:op=21\/op=22\/op=23\/op=24\/op=25\/op=26\/op=27\/op=28:=oM;rcases this with rfl|rfl|rfl|rfl|rfl|rfl|rfl|rfl
 .show min (f.whs A.toNat+1) 2147483647=min (f.whs A.toNat) 2147483646+1;omega
 .rw[hb dE];rfl
 .rw[hb dE];rfl
 .rw[hb dE];rfl
 .rfl
 .rw[hb dE,hc dE];rfl
 .rw[hb dE];rfl
 .rw[hb dE];rfl
theorem test_eq(x:Int):BG (x%2147483648 != 0&&decide (x%2147483648<=2139095040))=BG (Mx x 1065353216 0==1065353216):=by
 congr 1;unfold Mx;by_cases hn:nan x=true
 .rw[hn];have:2139095040<x%2147483648:=by unfold nan at hn;simpa using hn
  have e:decide (x%2147483648<=2139095040)=false:=sO;rw[e,Bool.and_false,Bool.true_or];decide
 .have hn':nan x=false:=by simpa using hn
  have:¬2139095040<x%2147483648:=by intro h;exact hn (by unfold nan;simpa using h)
  have e:decide (x%2147483648<=2139095040)=true:=sO;rw[hn',e,Bool.and_true];by_cases h0:x%2147483648=0
  .rw[h0];decide
  .have h1:(x%2147483648 != 0)=true:=by simpa using h0
   have h2:(x%2147483648==0)=false:=by simpa using h0
   rw[h1,h2];decide
theorem Yx{c:Cd}{f:Fr}{i:Ad}{xa xb xc:Cl}(he:Bq i.op=true)(ha:xa.h=C5 c f i.a)(hb:(A4 i.op).b≠0->xb.h=C5 c f i.b)(hc:(A4 i.op).c≠0->xc.h=C5 c f i.c):Dm xa.h.pats xb.h.pats xc.h.pats (CC i.op)=Br c f i:=by
 obtain⟨op,D,A,B,Ec,nn,bt⟩:=i;unfold Bq at he;simp only[Bool.and_eq_true,decide_eq_true_eq]at he ha hb hc |-;have:op=3\/op=4\/op=5\/op=6\/op=7\/op=8\/op=9\/op=10\/op=11\/op=12\/op=13\/op=14\/op=15:=oM;rcases this with rfl|rfl|rfl|rfl|rfl|rfl|rfl|rfl|rfl|rfl|rfl|rfl|rfl
 all_goals
  first
   |(rw[ha,hb dE,hc dE];rfl)
   |(rw[ha,hb dE];rfl)
   |(rw[ha];rfl)
theorem Zd{c:Cd}{f:Fr}{X:List Cl}{i:Ad}(kn:∀r∈Ae i (A4 i.op),QM c f X r.toNat){r:Int}(hr:r∈Ae i (A4 i.op))(h0:0<=r){x:Cl}(hx:X[r.toNat]? =some x):x.h=C5 c f r:=by
 obtain⟨y,hy,e⟩:=kn r hr;rw[hx]at hy;cases hy
 rw[e,show((r.toNat:Nat):Int)=r by omega]
theorem mem_b{i:Ad}{r:Rw}(h:r.b≠0):i.b∈Ae i r:=by unfold Ae;simp[h]
theorem mem_c{i:Ad}{r:Rw}(h:r.c≠0):i.c∈Ae i r:=by unfold Ae;simp[h]
theorem rd_1{c:Cd}{f:Fr}{r:Int}(h:(Aa c.regs r).kind=1):C5 c f r=⟨[f.nums r.toNat],0⟩:=by unfold C5;rw[if_pos h]
theorem Qm{c:Cd}{f:Fr}{r:Int}(h:(Aa c.regs r).kind=2):C5 c f r=⟨[],f.whs r.toNat⟩:=by unfold C5;rw[if_neg oM,if_pos h]
theorem rd_3{c:Cd}{f:Fr}{r:Int}(h:(Aa c.regs r).kind=3):C5 c f r=⟨f.vecs r.toNat,0⟩:=by unfold C5;rw[if_neg oM,if_neg oM]
end Go.Proofs.YtnbccaicijcklaaGreat
