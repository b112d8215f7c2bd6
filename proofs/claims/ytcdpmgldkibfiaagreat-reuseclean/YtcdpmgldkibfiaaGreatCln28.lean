import Derived.Test.YtcdpmgldkibfiaaGreatCln22
import Derived.Deep.CutBlock
import Derived.Deep.DeepCutAuto
import Derived.Test.YtcdpmgldkibfiaaGreatCln1
import Derived.Test.YtcdpmgldkibfiaaGreatCln18
import Derived.Test.YtcdpmgldkibfiaaGreatCln7
import Derived.Test.YtcdpmgldkibfiaaGreatCln19
import Derived.Test.YtcdpmgldkibfiaaGreatCln23
import Derived.Test.YtcdpmgldkibfiaaGreatCln17
namespace Go.Proofs.YtcdpmgldkibfiaaGreat
open Go.RowKit Go.Proofs.Tryz
set_option linter.all false
set_option maxRecDepth 100000
set_option maxHeartbeats 16000000
theorem QH{T:Nat->Prop}(p0 p1 p2 p3 p5 p6 p7 p8:Option Addr)(n0 q0 n1 q1 n2 q2 n3 q3 n5 q5 n6 q6 n7 q7 n8 q8:Nat)(ct:Int)(pr:Option Addr)(qr:Nat)(X:List Cl)(N:Nat)(hN:X.length=N)(hX:N<=16384)(op:Int)(o1:3<=op)(o2:op<=15)(nn bt:Int)(kd ka kb kk:Nat)(hd:kd<N)(w:World)(hT:∀b,T b->b<w.heap.size)(hcs:AS T w (.slice pr N qr) X)(HV:Hd)(hel:∀v,Below w.heap.size w v->w.heap.size+1+1+1<v.heap.size->Calls prog 92 #[.agg #[(.slice p0 n0 q0),(.slice p1 n1 q1),(.slice p2 n2 q2),(.slice p3 n3 q3),.slice pr N qr,(.slice p5 n5 q5),(.slice p6 n6 q6),(.slice p7 n7 q7),(.slice p8 n8 q8),(.int .i64 ct)],.agg #[.int .i64 op,.int .i64 (kd:Int),.int .i64 (ka:Int),.int .i64 (kb:Int),.int .i64 (kk:Int),.int .i64 nn,.int .u32 bt]] v fun e w'=>∃x:Cl,e=.returned (.agg #[.slice x.p x.h.pats.length x.q,.int .i64 x.h.whole])/\x.h=HV/\B6 (T2 w T) w' x.p x.h.pats/\Below v.heap.size v w'):
 Calls prog 72 #[.agg #[(.slice p0 n0 q0),(.slice p1 n1 q1),(.slice p2 n2 q2),(.slice p3 n3 q3),.slice pr N qr,(.slice p5 n5 q5),(.slice p6 n6 q6),(.slice p7 n7 q7),(.slice p8 n8 q8),(.int .i64 ct)],.agg #[.int .i64 op,.int .i64 (kd:Int),.int .i64 (ka:Int),.int .i64 (kb:Int),.int .i64 (kk:Int),.int .i64 nn,.int .u32 bt]] w fun e w'=>∃p9 q9 x,e=.returned (.agg #[(.slice p0 n0 q0),(.slice p1 n1 q1),(.slice p2 n2 q2),(.slice p3 n3 q3),.slice p9 N q9,(.slice p5 n5 q5),(.slice p6 n6 q6),(.slice p7 n7 q7),(.slice p8 n8 q8),(.int .i64 ct)])/\x.h=HV/\AS T w' (.slice p9 N q9) (X.set kd x)/\Below w.heap.size w w':=by
 have HPUT:Hid (∀v F I D (x:Cl),DW w F I D v->B6 (T2 w T) v x.p x.h.pats->Calls prog 100 #[.slice pr N qr,.int .i64 (kd:Int),.agg #[.slice x.p x.h.pats.length x.q,.int .i64 x.h.whole]] v fun e w'=>∃p q,e=.returned (.slice p N q)/\AS (T2 w T) w' (.slice p N q) (X.set kd x)/\Below v.heap.size v w'):=BN (.slice pr N qr) X hN hX kd hd w hT hcs;have HT2:Hid (∀v:World,w.heap.size+1+1+1<v.heap.size->∀b,T2 w T b->b<v.heap.size):=fun v hv b hb=>Dj hT hb hv;have HEL:Hid (∀v,Below w.heap.size w v->w.heap.size+1+1+1<v.heap.size->Calls prog 92 #[.agg #[(.slice p0 n0 q0),(.slice p1 n1 q1),(.slice p2 n2 q2),(.slice p3 n3 q3),.slice pr N qr,(.slice p5 n5 q5),(.slice p6 n6 q6),(.slice p7 n7 q7),(.slice p8 n8 q8),(.int .i64 ct)],.agg #[.int .i64 op,.int .i64 (kd:Int),.int .i64 (ka:Int),.int .i64 (kb:Int),.int .i64 (kk:Int),.int .i64 nn,.int .u32 bt]] v fun e w'=>∃x:Cl,e=.returned (.agg #[.slice x.p x.h.pats.length x.q,.int .i64 x.h.whole])/\x.h=HV/\B6 (T2 w T) w' x.p x.h.pats/\Below v.heap.size v w'):=hel;have on1:(op==1)=false:=by have:op≠1:=oM;simpa using this
 have on2:(op==2)=false:=by have:op≠2:=oM;simpa using this
 have HD0:Hid (DW w (CU (.slice p0 n0 q0) (.slice p1 n1 q1) (.slice p2 n2 q2) (.slice p3 n3 q3) (.slice pr N qr) (.slice p5 n5 q5) (.slice p6 n6 q6) (.slice p7 n7 q7) (.slice p8 n8 q8) (.int .i64 ct)) (f7 (.int .i64 op) (.int .i64 (kd:Int)) (.int .i64 (ka:Int)) (.int .i64 (kb:Int)) (.int .i64 (kk:Int)) (.int .i64 nn) (.int .u32 bt)) (f2 (.slice none 0 0) (.int .i64 0)) _):=DW.start w (.slice p0 n0 q0) (.slice p1 n1 q1) (.slice p2 n2 q2) (.slice p3 n3 q3) (.slice pr N qr) (.slice p5 n5 q5) (.slice p6 n6 q6) (.slice p7 n7 q7) (.slice p8 n8 q8) (.int .i64 ct) (.int .i64 op) (.int .i64 (kd:Int)) (.int .i64 (ka:Int)) (.int .i64 (kb:Int)) (.int .i64 (kk:Int)) (.int .i64 nn) (.int .u32 bt);clear hT hcs hN hel;go_enter func72,ntmps72;go_upto_block 0 with fail;go_cut [] (fun wx=>∃x:Cl,Hid (x.h=HV)/\Hid (DW w (CU (.slice p0 n0 q0) (.slice p1 n1 q1) (.slice p2 n2 q2) (.slice p3 n3 q3) (.slice pr N qr) (.slice p5 n5 q5) (.slice p6 n6 q6) (.slice p7 n7 q7) (.slice p8 n8 q8) (.int .i64 ct)) (f7 (.int .i64 op) (.int .i64 (kd:Int)) (.int .i64 (ka:Int)) (.int .i64 (kb:Int)) (.int .i64 (kk:Int)) (.int .i64 nn) (.int .u32 bt)) (f2 (.slice x.p x.h.pats.length x.q) (.int .i64 x.h.whole)) wx)/\Hid (B6 (T2 w T) wx x.p x.h.pats))
 case first=>
  obtain⟨W,hW⟩:∃W,((((w.alloc (.cells #[(.slice p0 n0 q0),(.slice p1 n1 q1),(.slice p2 n2 q2),(.slice p3 n3 q3),.slice pr N qr,(.slice p5 n5 q5),(.slice p6 n6 q6),(.slice p7 n7 q7),(.slice p8 n8 q8),(.int .i64 ct)] 137)).alloc (.cells #[.int .i64 op,.int .i64 (kd:Int),.int .i64 (ka:Int),.int .i64 (kb:Int),.int .i64 (kk:Int),.int .i64 nn,.int .u32 bt] 44)).alloc (.cells #[.slice none 0 0,.slice none 0 0,.slice none 0 0,.slice none 0 0,.slice none 0 0,.slice none 0 0,.slice none 0 0,.slice none 0 0,.slice none 0 0,.int .i64 0] 137)).alloc (.cells #[.slice none 0 0,.int .i64 0] 94))=W:=⟨_,rfl⟩
  rw[hW]at HD0;rw[hW];clear hW;have hsz:=HD0.out.size;have f0:W.cell? ⟨w.heap.size,4,none⟩=some (.slice pr N qr):=HD0.out.f.cell (i:=4) dE;have i0:W.cell? ⟨w.heap.size+1,0,none⟩=some (.int .i64 op):=HD0.out.i.cell (i:=0) dE;have i1:W.cell? ⟨w.heap.size+1,1,none⟩=some (.int .i64 (kd:Int)):=HD0.out.i.cell (i:=1) dE;have i2:W.cell? ⟨w.heap.size+1,2,none⟩=some (.int .i64 (ka:Int)):=HD0.out.i.cell (i:=2) dE;have i3:W.cell? ⟨w.heap.size+1,3,none⟩=some (.int .i64 (kb:Int)):=HD0.out.i.cell (i:=3) dE;have i4:W.cell? ⟨w.heap.size+1,4,none⟩=some (.int .i64 (kk:Int)):=HD0.out.i.cell (i:=4) dE;have i5:W.cell? ⟨w.heap.size+1,5,none⟩=some (.int .i64 nn):=HD0.out.i.cell (i:=5) dE;have i6:W.cell? ⟨w.heap.size+1,6,none⟩=some (.int .u32 bt):=HD0.out.i.cell (i:=6) dE;have d0:W.cell? ⟨w.heap.size+1+1+1,0,none⟩=some (.slice none 0 0):=HD0.out.d.cell (i:=0) dE;have d1:W.cell? ⟨w.heap.size+1+1+1,1,none⟩=some (.int .i64 0):=HD0.out.d.cell (i:=1) dE;have z0:=HD0.out.d.frozen 0;have z1:=HD0.out.d.frozen 1;have fa0:W.cell? ⟨w.heap.size,0,none⟩=some (.slice p0 n0 q0):=HD0.out.f.cell (i:=0) dE;have fa1:W.cell? ⟨w.heap.size,1,none⟩=some (.slice p1 n1 q1):=HD0.out.f.cell (i:=1) dE;have fa2:W.cell? ⟨w.heap.size,2,none⟩=some (.slice p2 n2 q2):=HD0.out.f.cell (i:=2) dE;have fa3:W.cell? ⟨w.heap.size,3,none⟩=some (.slice p3 n3 q3):=HD0.out.f.cell (i:=3) dE;have fa4:W.cell? ⟨w.heap.size,4,none⟩=some (.slice pr N qr):=HD0.out.f.cell (i:=4) dE;have fa5:W.cell? ⟨w.heap.size,5,none⟩=some (.slice p5 n5 q5):=HD0.out.f.cell (i:=5) dE;have fa6:W.cell? ⟨w.heap.size,6,none⟩=some (.slice p6 n6 q6):=HD0.out.f.cell (i:=6) dE;have fa7:W.cell? ⟨w.heap.size,7,none⟩=some (.slice p7 n7 q7):=HD0.out.f.cell (i:=7) dE;have fa8:W.cell? ⟨w.heap.size,8,none⟩=some (.slice p8 n8 q8):=HD0.out.f.cell (i:=8) dE;have fa9:W.cell? ⟨w.heap.size,9,none⟩=some (.int .i64 ct):=HD0.out.f.cell (i:=9) dE;go_wp2_with(go_at_call 92;(with_reducible refine(HEL.out _ HD0.out.bel HD0.out.size).mono ?_);rintro e w3 ⟨⟨p,q,⟨ps,wh⟩⟩,rfl,hh,hn,hb3⟩;have HD3:Hid (DW w (CU (.slice p0 n0 q0) (.slice p1 n1 q1) (.slice p2 n2 q2) (.slice p3 n3 q3) (.slice pr N qr) (.slice p5 n5 q5) (.slice p6 n6 q6) (.slice p7 n7 q7) (.slice p8 n8 q8) (.int .i64 ct)) _ _ w3):=HD0.out.next hb3;have HN3:Hid (B6 (T2 w T) w3 p ps):=hn;have HH:Hid ((⟨ps,wh⟩:Hd)=HV):=hh;clear hb3 hn hh f0 i0 i1 i2 i3 i4 i5 i6 d0 d1 z0 z1 fa0 fa1 fa2 fa3 fa4 fa5 fa6 fa7 fa8 fa9;have d0:w3.cell? ⟨w.heap.size+1+1+1,0,none⟩=some (.slice none 0 0):=HD3.out.d.cell (i:=0) dE;have d1:w3.cell? ⟨w.heap.size+1+1+1,1,none⟩=some (.int .i64 0):=HD3.out.d.cell (i:=1) dE;have z0:=HD3.out.d.frozen 0;have z1:=HD3.out.d.frozen 1);go_meet;exact⟨⟨p,q,⟨ps,wh⟩⟩,HH.out,((HD3.out.put 0 _).put 1 _).congr (fun j hj=>by obtain rfl|rfl:j=0\/j=1:=oM;all_goals rfl),H8 (H8 HN3.out 0 _) 1 _⟩
 case rest=>
  obtain⟨x,HX,HD,HNM⟩:=hcut;have g0:wc.cell? ⟨w.heap.size,4,none⟩=some (.slice pr N qr):=HD.out.f.cell (i:=4) dE;have g1:wc.cell? ⟨w.heap.size+1,1,none⟩=some (.int .i64 (kd:Int)):=HD.out.i.cell (i:=1) dE;have g2:wc.cell? ⟨w.heap.size+1+1+1,0,none⟩=some (.slice x.p x.h.pats.length x.q):=HD.out.d.cell (i:=0) dE;have g3:wc.cell? ⟨w.heap.size+1+1+1,1,none⟩=some (.int .i64 x.h.whole):=HD.out.d.cell (i:=1) dE;go_upto_region 40 with(go_at_call 100;(with_reducible refine(HPUT.out _ _ _ _ _ HD.out HNM.out).mono ?_);rintro e w5 ⟨pu5,qu5,rfl,hcu,hb5⟩;have HC5:Hid (DW w (CU (.slice p0 n0 q0) (.slice p1 n1 q1) (.slice p2 n2 q2) (.slice p3 n3 q3) (.slice pr N qr) (.slice p5 n5 q5) (.slice p6 n6 q6) (.slice p7 n7 q7) (.slice p8 n8 q8) (.int .i64 ct)) _ _ w5/\AS (T2 w T) w5 (.slice pu5 N qu5) (X.set kd x)):=⟨HD.out.next hb5,hcu⟩;clear hb5 hcu g0 g1 g2 g3;have g4:w5.cell? ⟨w.heap.size,4,none⟩=some (.slice pr N qr):=HC5.out.1.f.cell (i:=4) dE;have z4:=HC5.out.1.f.frozen 4)
  exact Zad
theorem Pd{T:Nat->Prop}(p0 p1 p2 p3 p5 p6 p7 p8:Option Addr)(n0 q0 n1 q1 n2 q2 n3 q3 n5 q5 n6 q6 n7 q7 n8 q8:Nat)(ct:Int)(pr:Option Addr)(qr:Nat)(X:List Cl)(N:Nat)(hN:X.length=N)(hX:N<=16384)(nn bt:Int)(kd ka kb kk:Nat)(w:World)(hT:∀b,T b->b<w.heap.size)(hcs:AS T w (.slice pr N qr) X)(xa:Cl)(hxa:X[ka]? =some xa)(ks:Nat)(hnn:nn=(ks:Int))(Sl:List Cl)(hns:Sl.length=n5)(hnl:n5<=4096)(hkl:ks<n5)(hss:AS T w (.slice p5 n5 q5) Sl):
 Calls prog 72 #[.agg #[(.slice p0 n0 q0),(.slice p1 n1 q1),(.slice p2 n2 q2),(.slice p3 n3 q3),.slice pr N qr,(.slice p5 n5 q5),(.slice p6 n6 q6),(.slice p7 n7 q7),(.slice p8 n8 q8),(.int .i64 ct)],.agg #[.int .i64 33,.int .i64 (kd:Int),.int .i64 (ka:Int),.int .i64 (kb:Int),.int .i64 (kk:Int),.int .i64 nn,.int .u32 bt]] w fun e w'=>∃p9 q9,e=.returned (.agg #[(.slice p0 n0 q0),(.slice p1 n1 q1),(.slice p2 n2 q2),(.slice p3 n3 q3),.slice pr N qr,.slice p9 n5 q9,(.slice p6 n6 q6),(.slice p7 n7 q7),(.slice p8 n8 q8),(.int .i64 ct)])/\AS T w' (.slice p9 n5 q9) (Sl.set ks xa)/\Below w.heap.size w w':=by
 have HT2:Hid (∀v:World,w.heap.size+1+1+1<v.heap.size->∀b,T2 w T b->b<v.heap.size):=fun v hv b hb=>Dj hT hb hv;subst hnn;have HXA:Hid (X[ka]? =some xa):=hxa;obtain⟨hal,hax⟩:=List.getElem?_eq_some_iff.1 hxa;obtain⟨rb,ro,rfl,hca⟩:=hcs.row.row.at hal;rw[hax]at hca;have x0:w.cell? ⟨rb,ro+ka*2,none⟩=some (.slice xa.p xa.h.pats.length xa.q):=hca.at 0 rfl;have x1:w.cell? ⟨rb,ro+ka*2+1,none⟩=some (.int .i64 xa.h.whole):=hca.at 1 rfl;have ha0:(0:Int)<=(ka:Int):=oM;have ha1:(ka:Int)<(N:Int):=oM;have hrb1:¬rb=w.heap.size:=by have:=A5 x0;intro e;simp only at this;omega
 have hrb2:¬rb=w.heap.size+1+1+1:=by have:=A5 x0;intro e;simp only at this;omega
 have HPUT:Hid (∀v F I D (x:Cl),DW w F I D v->B6 (T2 w T) v x.p x.h.pats->Calls prog 100 #[.slice p5 n5 q5,.int .i64 (ks:Int),.agg #[.slice x.p x.h.pats.length x.q,.int .i64 x.h.whole]] v fun e w'=>∃p q,e=.returned (.slice p n5 q)/\AS (T2 w T) w' (.slice p n5 q) (Sl.set ks x)/\Below v.heap.size v w'):=BN (.slice p5 n5 q5) Sl hns oM ks hkl w hT hss;have HN0:Hid (B6 T w xa.p xa.h.pats):=hcs.nums xa (List.mem_of_getElem? hxa);have HD0:Hid (DW w (CU (.slice p0 n0 q0) (.slice p1 n1 q1) (.slice p2 n2 q2) (.slice p3 n3 q3) (.slice (some ⟨rb,ro,none⟩) N qr) (.slice p5 n5 q5) (.slice p6 n6 q6) (.slice p7 n7 q7) (.slice p8 n8 q8) (.int .i64 ct)) (f7 (.int .i64 33) (.int .i64 (kd:Int)) (.int .i64 (ka:Int)) (.int .i64 (kb:Int)) (.int .i64 (kk:Int)) (.int .i64 (ks:Int)) (.int .u32 bt)) (f2 (.slice none 0 0) (.int .i64 0)) _):=DW.start w (.slice p0 n0 q0) (.slice p1 n1 q1) (.slice p2 n2 q2) (.slice p3 n3 q3) (.slice (some ⟨rb,ro,none⟩) N qr) (.slice p5 n5 q5) (.slice p6 n6 q6) (.slice p7 n7 q7) (.slice p8 n8 q8) (.int .i64 ct) (.int .i64 33) (.int .i64 (kd:Int)) (.int .i64 (ka:Int)) (.int .i64 (kb:Int)) (.int .i64 (kk:Int)) (.int .i64 (ks:Int)) (.int .u32 bt);clear hT hcs hN hss hca hxa hal hax;go_enter func72,ntmps72;go_upto_block 0 with fail;obtain⟨W,hW⟩:∃W,((((w.alloc (.cells #[(.slice p0 n0 q0),(.slice p1 n1 q1),(.slice p2 n2 q2),(.slice p3 n3 q3),.slice (some ⟨rb,ro,none⟩) N qr,(.slice p5 n5 q5),(.slice p6 n6 q6),(.slice p7 n7 q7),(.slice p8 n8 q8),(.int .i64 ct)] 137)).alloc (.cells #[.int .i64 33,.int .i64 (kd:Int),.int .i64 (ka:Int),.int .i64 (kb:Int),.int .i64 (kk:Int),.int .i64 (ks:Int),.int .u32 bt] 44)).alloc (.cells #[.slice none 0 0,.slice none 0 0,.slice none 0 0,.slice none 0 0,.slice none 0 0,.slice none 0 0,.slice none 0 0,.slice none 0 0,.slice none 0 0,.int .i64 0] 137)).alloc (.cells #[.slice none 0 0,.int .i64 0] 94))=W:=⟨_,rfl⟩
 rw[hW]at HD0;rw[hW];clear hW;have hsz:=HD0.out.size;have f0:W.cell? ⟨w.heap.size,4,none⟩=some (.slice (some ⟨rb,ro,none⟩) N qr):=HD0.out.f.cell (i:=4) dE;have i0:W.cell? ⟨w.heap.size+1,0,none⟩=some (.int .i64 33):=HD0.out.i.cell (i:=0) dE;have i2:W.cell? ⟨w.heap.size+1,2,none⟩=some (.int .i64 (ka:Int)):=HD0.out.i.cell (i:=2) dE;have i5:W.cell? ⟨w.heap.size+1,5,none⟩=some (.int .i64 (ks:Int)):=HD0.out.i.cell (i:=5) dE;have x2:=kc HD0.out.bel x0;have x3:=kc HD0.out.bel x1;have f1:W.cell? ⟨w.heap.size,5,none⟩=some (.slice p5 n5 q5):=HD0.out.f.cell (i:=5) dE;clear x0 x1;go_upto_region 31 with fail;refine rG (fun v=>v.cell? ⟨w.heap.size,4,none⟩=some (.slice (some ⟨rb,ro,none⟩) N qr)/\v.cell? ⟨w.heap.size+1,5,none⟩=some (.int .i64 (ks:Int))/\v.cell? ⟨w.heap.size+1,2,none⟩=some (.int .i64 (ka:Int))/\v.cell? ⟨rb,ro+ka*2,none⟩=some (.slice xa.p xa.h.pats.length xa.q)/\v.cell? ⟨rb,ro+ka*2+1,none⟩=some (.int .i64 xa.h.whole)) fun hHeld=>?_;refine Tf 0 2 3 4 5 6 ?_;refine Tc 7 8 9 ?_;clear hHeld;refine AC 1 fun K hK=>?_;go_simp;refine Ax hK fun hHeld=>?_;clear hK K;clear hHeld;refine AC 10 fun K hK=>?_;go_simp;(go_at_call 100;(with_reducible refine(HPUT.out _ _ _ _ xa (HD0.out.next (A6 _)) (MZ HN0.out (bel HD0.out.bel (A6 _)))).mono ?_);rintro e w5 ⟨pu5,qu5,rfl,hcu,hb5⟩;have HB3:Hid (Below W.heap.size W w5):=bel (A6 _) hb5;have HC5:Hid (DW w (CU (.slice p0 n0 q0) (.slice p1 n1 q1) (.slice p2 n2 q2) (.slice p3 n3 q3) (.slice (some ⟨rb,ro,none⟩) N qr) (.slice p5 n5 q5) (.slice p6 n6 q6) (.slice p7 n7 q7) (.slice p8 n8 q8) (.int .i64 ct)) _ _ w5/\AS (T2 w T) w5 (.slice pu5 n5 qu5) (Sl.set ks xa)):=⟨HD0.out.next HB3.out,hcu⟩;clear hb5 hcu;have f0:=kc HB3.out f0;have f1:=kc HB3.out f1;have i5:=kc HB3.out i5;have i2:=kc HB3.out i2;have x2:=kc HB3.out x2;have x3:=kc HB3.out x3;have si5:=(fun u=>AH (b:=⟨w.heap.size,5,none⟩) (i5) iE u);have si2:=(fun u=>AH (b:=⟨w.heap.size,5,none⟩) (i2) iE u);have sx2:=(fun u=>AH (b:=⟨w.heap.size,5,none⟩) (x2) iE u);have sx3:=(fun u=>AH (b:=⟨w.heap.size,5,none⟩) (x3) iE u);have sf0:∀u,(w5.setCell ⟨w.heap.size,5,none⟩ u).cell? ⟨w.heap.size,4,none⟩=some (.slice (some ⟨rb,ro,none⟩) N qr):=(fun u=>by simp[go_sem,f0]);have z4:=HC5.out.1.f.frozen 5);try(go_wp2_with fail)
 refine Ax hK fun hHeld=>?_;clear hK K;refine Bq 11 ?_;clear hHeld;refine AC 12 fun K hK=>?_;go_simp;refine Ax hK fun hHeld=>?_;clear hK K;refine wpAnyH_done kR ?_ _;go_upto_region 32 with fail;have HE:Hid (DE w (.slice p0 n0 q0) (.slice p1 n1 q1) (.slice p2 n2 q2) (.slice p3 n3 q3) (.slice (some ⟨rb,ro,none⟩) N qr) (.slice pu5 n5 qu5) (.slice p6 n6 q6) (.slice p7 n7 q7) (.slice p8 n8 q8) (.int .i64 ct) (w5.setCell ⟨w.heap.size,5,none⟩ (.slice pu5 n5 qu5))/\AS (T2 w T) (w5.setCell ⟨w.heap.size,5,none⟩ (.slice pu5 n5 qu5)) (.slice pu5 n5 qu5) (Sl.set ks xa)):=S9 HC5.out.1 HC5.out.2;obtain⟨V,hV⟩:∃V,w5.setCell ⟨w.heap.size,5,none⟩ (.slice pu5 n5 qu5)=V:=⟨_,rfl⟩
 rw[hV]at HE;rw[hV];obtain⟨⟨-,c0,c1,c2,c3,c4,c5,c6,c7,c8,c9,r0,r1,r2,r3,r4,r5,r6,r7,r8,r9,y0,y1,y2,y3,y4,y5,y6,y7,y8,y9⟩,-⟩:=HE.out;clear hV z4 f0 f1 i5 i2 x2 x3;go_wp2;refine bodyPost_ret Zgr rfl ?_;exact⟨pu5,qu5,rfl,Mm HE.out.1 HE.out.2⟩
structure Jh(f:Fr):Prop where
 nums:∀r,canon (f.nums r)=f.nums r
 vecs:∀r,∀y∈f.vecs r,canon y=y
 slots:∀h∈f.slots,∀y∈h.pats,canon y=y
theorem Ny(a b:Int)(ha:Az a)(hb:Az b):canon (ET a b)=ET a b:=by
 have:=MH 6 a b 0 ha hb;unfold Ie at this;simpa using this
theorem Uv(a b:Int)(ha:Az a)(hb:Az b):canon (Dm a b)=Dm a b:=by
 have:=MH 4 a b 0 ha hb;unfold Ie at this;simpa using this
theorem Ms(x n:Int)(hx:Az x):∀ (k:Nat) (r:Int),Az r->canon r=r->canon (QL x n k r)=QL x n k r
 |0,r,_,h=>h
 |k+1,r,hr,_=>by
  unfold QL;split
  ·exact Ms x n hx k _ (Dv _ _) (Ny _ _ (Dv _ _) hx)
  ·exact Ms x n hx k _ (Dv _ _) (Ny _ _ hr hr)
theorem UD(x n:Int)(hx:Az x):canon (GZ x n)=GZ x n:=by
 unfold GZ;split
 ·decide
 ·exact Ms x n hx _ _ (CN x hx) (BU x)
theorem Lp{g:Int->Int->Int}(hg:∀a b,Az a->Az b->canon (g a b)=g a b)(hf:∀a b,Az a->Az b->Az (g a b)){s:Int}(hs:Az s)(hc:canon s=s){X:Nat->Int}(hX:∀i,Az (X i)):∀n,canon (Lo g s X n)=Lo g s X n
 |0=>hc
 |n+1=>hg _ _ (EU hf hs hX n) (hX n)
section
variable {c : Cd} {G P : List (List Int)} {f f' : Fr} {i i' : Ac}
theorem Yg(hfrom:∀n,0<=n->n<=2147483647->canon (Dg n)=Dg n)(h:AJ c i (A4 i.op)=true)(ok:Iu c f)(hn:Dh i.op=true):canon (JM f i)=JM f i:=by
 unfold Dh at hn;simp only[Bool.or_eq_true,beq_iff_eq]at hn;unfold JM;rcases(show i.op=1\/i.op=16\/i.op=17\/i.op=19\/i.op=20 by omega)with o|o|o|o|o
 ·have h5:Bh c i (A4 i.op).n (AB c.regs i (A4 i.op))=true:=by unfold AJ at h;simp only[Bool.and_eq_true]at h;exact h.2.2.2.2
  rw[show(A4 i.op).n=7 by rw[o];decide]at h5;unfold Bh Cy at h5;simp only[if_true,Bool.and_eq_true,decide_eq_true_eq]at h5;simp only[o];exact h5.2
 ·simp only[o,if_true];exact UD _ _ (ok.nums _)
 ·rw[if_neg oM,if_pos o];exact hfrom _ (ok.whs _).1 (ok.whs _).2
 ·rw[if_neg oM,if_neg oM,if_pos o];exact Lp (fun a b ha hb=>Uv a b ha hb) (fun _ _ _ _=>Mo _ _) IA dE (fun j=>BY (ok.vecs _) j) _
 ·rw[if_neg oM,if_neg oM,if_neg oM,if_pos o];exact Lp (fun a b ha hb=>Nx a b ha.1 hb.1) J6 Zho dE (fun j=>BY (ok.vecs _) j) _
theorem G1{α:Type}{Q:α->Prop}{g:Nat->α}(h:∀r,Q (g r)){k:Nat}{x:α}(hx:Q x):∀r,Q (F1 g k x r):=Cc h hx
theorem RE(cf:Jh f)(r:Int)(h:Hd)(hh:∀y∈h.pats,canon y=y):Jh (In c f r h):=by
 unfold In;split
 ·refine⟨G1 (Q:=fun x=>canon x=x) cf.nums ?_,cf.vecs,cf.slots⟩;cases hp:h.pats with
  |nil=>decide
  |cons y t=>exact hh y (by rw[hp];simp)
 ·split
  ·exact⟨cf.nums,cf.vecs,cf.slots⟩
  ·exact⟨cf.nums,G1 (Q:=fun l=>∀y∈l,canon y=y) cf.vecs hh,cf.slots⟩
theorem Yx(cf:Jh f)(r:Int):∀y∈(Bl c f r).pats,canon y=y:=by
 unfold Bl;split
 ·intro y hy;simp at hy;subst hy;exact cf.nums _
 ·split
  ·intro y hy;cases hy
  ·exact cf.vecs _
theorem Yy(ok:Iu c f)(r:Int):∀y∈(Bl c f r).pats,Az y:=by
 unfold Bl;split
 ·intro y hy;simp at hy;subst hy;exact ok.nums _
 ·split
  ·intro y hy;cases hy
  ·exact ok.vecs _
theorem O0(V:List (List Int)):∀y∈Bd c V i,canon y=y:=by
 intro y hy;unfold Bd at hy;simp only[List.mem_map]at hy;obtain⟨k,_,rfl⟩:=hy;exact BU _
theorem ZJ(hfrom:∀n,0<=n->n<=2147483647->canon (Dg n)=Dg n)(h:AJ c i (A4 i.op)=true)(hk:Ak i.op=true)(ok:Iu c f)(cf:Jh f):Jh (CY c G P f i):=by
 rcases CB hk with o|o|o|o|o|o|o|o|o
 ·rw[BC o];exact⟨G1 (Q:=fun x=>canon x=x) cf.nums (Yg hfrom h ok o),cf.vecs,cf.slots⟩
 ·rw[B5 o];exact⟨cf.nums,cf.vecs,cf.slots⟩
 ·rw[C6 o];exact⟨cf.nums,G1 (Q:=fun l=>∀y∈l,canon y=y) cf.vecs (O0 G),cf.slots⟩
 ·rw[C7 o];exact⟨cf.nums,G1 (Q:=fun l=>∀y∈l,canon y=y) cf.vecs (O0 P),cf.slots⟩
 ·rw[Cn o];exact⟨cf.nums,cf.vecs,cf.slots⟩
 ·rw[C8 o];refine RE cf _ _ ?_;cases hs:f.slots[i.n.toNat]? with
  |none=>intro y hy;cases hy
  |some q=>exact cf.slots q (List.mem_of_getElem? hs)
 ·rw[Co o];refine⟨cf.nums,cf.vecs,fun q hq=>?_⟩;rcases List.mem_or_eq_of_mem_set hq with hq|hq
  ·exact cf.slots q hq
  ·rw[hq];exact Yx cf _
 ·rw[AN o];exact cf
 ·rw[AZ o];unfold E8;split
  ·exact⟨cf.nums,cf.vecs,cf.slots⟩
  ·have ha:=Qz (op:=i.op) (args:=Bg c f i) (fun l hl=>by
    unfold Bg at hl;simp only[List.mem_map]at hl;obtain⟨r,hr,rfl⟩:=hl
    exact Yy ok r)
   refine RE cf _ _ ?_;simp only;split
   ·intro y hy;unfold Es at hy;rw[(List.mem_replicate.1 hy).2];exact BU _
   ·exact ha
end
theorem R_leR{m n:Nat}(h:m<=n):R m<=R n:=(Mz m).mono (Mz n) dE dE X4
theorem UE(n:Int)(h1:0<=n)(h2:n<=2147483647):canon (Dg n)=Dg n:=by
 have h3:R (n.natAbs*2^149)<=1325400064:=by
  have e:V 23 1325400064=2147483648*2^149:=by decide+kernel
  have h3:=X9 1325400064;rw[e]at h3;rw[←h3];exact R_leR (Nat.mul_le_mul_right _ oM)
 have h4:Dg n=(wd false (R (n.natAbs*2^149)):Nat):=by
  have e0:decide (n<0)=false:=by simpa using h1
  rw[←K7];unfold Dg;rw[Bt,CP,BG,Hy,e0];rfl
 rw[h4];refine I5 ?_;unfold wd rg;simp only[Bool.false_eq_true,if_false];omega
theorem Ng(l:List Int)(h:∀y∈l,canon y=y):Cz 3 [l]=l:=by
 unfold Cz;have hs:DP (lF [l]) ([l].length-1)=some l.length:=by show DP _ 0=_;unfold DP lF Em;rfl
 rw[hs];simp only;refine List.ext_getElem sM fun j h1 h2=>?_;simp only[List.getElem_map,List.getElem_range];have e:EH (lF [l]) (xF [l]) [l].length j 0=l[j]:=by
  unfold EH;rw[if_pos sM];have el:lF [l] 0=l.length:=rfl;have hx:∀k,xF [l] 0 k=BZ l k:=fun k=>rfl;rw[el,hx];have hj:(if l.length=1 then 0 else j)=j:=by split<;>omega
  rw[hj];unfold BZ;rw[List.getElem?_eq_getElem h2];rfl
 unfold Ie;rw[if_pos rfl,e];exact h _ (List.getElem_mem h2)
theorem Uh{c:Cd}{G P:List (List Int)}{f:Fr}{i:Ac}(o:i.op=3)(ht:A7 c.regs i.a=A7 c.regs i.d)(hkd:(A7 c.regs i.d).kind=1\/(A7 c.regs i.d).kind=2\/(A7 c.regs i.d).kind=3)(cf:Jh f)
 (hs:(A7 c.regs i.a).kind=3->(f.vecs i.a.toNat).length=lenOf c (A7 c.regs i.a).par):Bl c (CY c G P f i) i.d=Bl c f i.a:=by
 have he:Bj i.op=true:=by rw[o];decide
 have hargs:Bg c f i=[(Bl c f i.a).pats]:=by
  unfold Bg;have hr:A4 i.op=⟨6,5,0,0,0⟩:=by rw[o];decide
  rw[hr];rfl
 rw[AZ he];unfold E8;rcases hkd with k|k|k
 ·rw[if_neg oM,hargs,o];have ka:(A7 c.regs i.a).kind=1:=by rw[ht];exact k
  have hp:(Bl c f i.a).pats=[f.nums i.a.toNat]:=by unfold Bl;rw[if_pos ka]
  rw[hp,Ng _ (by intro y hy;simp at hy;subst hy;exact cf.nums _)];have hw:AW c (A7 c.regs i.d)=1:=by unfold AW;rw[if_neg oM,if_pos k]
  rw[if_neg (by rw[hw];simp)];unfold Bl In;rw[if_pos k,if_pos k,if_pos ka];simp only[B3];rfl
 ·rw[if_pos k];have ka:(A7 c.regs i.a).kind=2:=by rw[ht];exact k
  unfold Bl;rw[if_neg oM,if_pos k,if_neg oM,if_pos ka];simp only[B3]
 ·rw[if_neg oM,hargs,o];have ka:(A7 c.regs i.a).kind=3:=by rw[ht];exact k
  have hp:(Bl c f i.a).pats=f.vecs i.a.toNat:=by unfold Bl;rw[if_neg oM,if_neg oM]
  rw[hp,Ng _ (cf.vecs _)];have hw:AW c (A7 c.regs i.d)=lenOf c (A7 c.regs i.d).par:=by unfold AW;rw[if_pos k]
  rw[if_neg (by rw[hw,hs ka,ht];omega)];unfold Bl In;rw[if_neg oM,if_neg oM,if_neg oM,if_neg oM,if_neg oM,if_neg oM];simp only[B3]
theorem Ka{T T':Nat->Prop}(w:World)(u v:Value)(L:List (List Int))(hu:FL T w u L)(hv:FL T' w v L)(hL:L.length<=1048576)(hl:∀l∈L,l.length<=1048576):
 Calls prog 34 #[u,v] w fun e w'=>e=.returned (.bool true)/\Below w.heap.size w w':=by
 obtain⟨p,c,rfl,hcu⟩:=hu.cellsOf;obtain⟨p',c',rfl,hcv⟩:=hv.cellsOf;obtain⟨N,hN⟩:∃N,L.length=N:=⟨_,rfl⟩
 rw[hN]at hL ⊢;have HCU:Hid (∀i (hi:i<L.length),∃b o q d,p=some ⟨b,o,none⟩/\w.cell? ⟨b,o+i,none⟩=some (.slice q (L[i]).length d)/\Bb w q (L[i]).length (fun j=>.int .u32 (BZ L[i] j))):=hcu;have HCV:Hid (∀i (hi:i<L.length),∃b o q d,p'=some ⟨b,o,none⟩/\w.cell? ⟨b,o+i,none⟩=some (.slice q (L[i]).length d)/\Bb w q (L[i]).length (fun j=>.int .u32 (BZ L[i] j))):=hcv;have HN:Hid (L.length=N/\∀l∈L,l.length<=1048576):=⟨hN,hl⟩
 clear hu hv hcu hcv hN hl;go_enter func34,ntmps34;go_wp2
 go_loopw [5] (fun iv wr=>∃j:Nat,j<=N/\iv=.int .i64 j/\Hid (Below w.heap.size w wr)) (fun iv _=>N-(intOf iv).toNat)
 case atStart=>exact⟨0,Nat.zero_le _,rfl,Be _⟩
 case round=>
  obtain⟨j,hj,rfl,HB⟩:=hrel;by_cases hlt:j<N
  ·have hjL:j<L.length:=by rw[HN.out.1];exact hlt
   obtain⟨b,o,q,d,rfl,h1,h2⟩:=HCU.out j hjL;obtain⟨b',o',q',d',rfl,h1',h2'⟩:=HCV.out j hjL;have hln:=HN.out.2 _ (List.getElem_mem hjL);obtain⟨M,hM⟩:∃M,(L[j]).length=M:=⟨_,rfl⟩
   obtain⟨Y,hY⟩:∃Y,BZ L[j]=Y:=⟨_,rfl⟩
   rw[hM]at h1 h2 h1' h2' hln;simp only[hY]at h2 h2';have k1:=kc HB.out h1;have k2:=kc HB.out h1';have HRU:=A8 (h2.below HB.out);have HRV:=A8 (h2'.below HB.out);clear h1 h1' h2 h2' hM hY;go_wp2;refine wp_region_held_drew (S:=(fun x=>x.cell? ⟨b,o+j,none⟩=some (.slice q M d)/\x.cell? ⟨b',o'+j,none⟩=some (.slice q' M d'))) kR ?_ (fun hHeld=>?_)
   ·((try dsimp only);go_keep)
   refine Tf 0 1 2 3 4 5 ?_;refine Tc 6 7 8 ?_;refine Tb 9 10 ?_;refine wpAnyH_done kR ?_ _;go_wp2;rename World=>W0
   go_loopw [6] (fun iv wr2=>∃k:Nat,k<=M/\iv=.int .i64 k/\Hid (Below W0.heap.size W0 wr2)) (fun iv _=>M-(intOf iv).toNat)
   case atStart=>exact⟨0,Nat.zero_le _,rfl,C5 _⟩
   case round=>
    obtain⟨k,hk,rfl,HB2⟩:=hrel;have m1:=kc HB2.out k1;have m2:=kc HB2.out k2;by_cases hlt2:k<M
    ·rcases HRU.out with e|⟨ub,uo,hue,hur⟩
     ·omega
     rcases HRV.out with e|⟨vb,vo,hve,hvr⟩
     ·omega
     have n1:=kc HB2.out (hur k hlt2);have n2:=kc HB2.out (hvr k hlt2);subst hue hve;clear hur hvr HRU HRV;go_wp2;refine wp_region_held_drew (S:=(fun x=>x.cell? ⟨b,o+j,none⟩=some (.slice (some ⟨ub,uo,none⟩) M d)/\x.cell? ⟨b',o'+j,none⟩=some (.slice (some ⟨vb,vo,none⟩) M d')/\x.cell? ⟨ub,uo+k,none⟩=some (.int .u32 (Y k))/\x.cell? ⟨vb,vo+k,none⟩=some (.int .u32 (Y k)))) kR ?_ (fun hHeld=>?_)
     ·((try dsimp only);go_keep)
     refine Tf 0 1 2 3 4 5 ?_;refine Tf 6 7 8 9 10 11 ?_;refine Tc 12 13 14 ?_;refine wpAnyH_done kR ?_ _;go_wp2;go_roundw
     case rel=>exact⟨k+1,oM,gN,bel HB2.out (C5 _)⟩
     case measure=>simp[intOf];omega
    ·go_wp2;go_roundw
     case rel=>exact⟨j+1,oM,gN,bel HB.out HB2.out⟩
     case measure=>simp[intOf];omega
  ·go_wp2;go_ret;exact⟨rfl,HB.out⟩
def GA(c:Cd)(L:List Ac)(r:Nat):Prop:=Ar c.list r=true/\∃j∈L,Aa j=true/\j.d.toNat=r
theorem GA.more{c:Cd}{L:List Ac}{r:Nat}(h:GA c L r)(i:Ac):GA c (L++[i]) r:=by
 obtain⟨h1,j,hj,h2⟩:=h;exact⟨h1,j,List.mem_append.2 (.inl hj),h2⟩
theorem GA.ne{c:Cd}{L R:List Ac}{r:Nat}{i:Ac}(h:GA c L r)(hl:c.list=L++i::R)(hs:Aa i=true):r≠i.d.toNat:=by
 obtain⟨h1,j,hj,h2,h3⟩:=h;intro e;rw[hl,e]at h1;exact Fw hs h1 j hj h2 (h3.trans e)
def QB(q:Rk)(g:Nat):Ac:={q.by_ with d:=(g:Int)}
structure GR(c:Cd)(L:List Ac)(s:RW):Prop where
 inst:∀r,s.ins r=r\/GA c L (s.ins r)
 hold:∀q g,s.hold q=some g->GA c L g/\A7 c.regs (g:Int)=q.of_/\q.by_.op≠32/\Aa (QB q g)=true/\Ak q.by_.op=true/\AJ c (QB q g) (A4 q.by_.op)=true/\∀r∈Ab (QB q g) (A4 q.by_.op),GA c L r.toNat
theorem GR.start(c:Cd):GR c [] Ci:=⟨fun r=>.inl rfl,fun q g h=>Xh⟩
def HoldV(c:Cd)(G P:List (List Int))(f:Fr)(hold:Rk->Option Nat)(q:Rk):Prop:=∀g,hold q=some g->Bl c (CY c G P f (QB q g)) (g:Int)=Bl c f (g:Int)
def Bp(c:Cd)(G P:List (List Int))(f f':Fr)(ins:Nat->Nat)(hold:Rk->Option Nat):Nat->List Nat->List Rk->List Bk->List Nat->Prop
 |0,X,K,_,_=>(∀r∈X,Bl c f' (ins r:Int)=Bl c f (r:Int))/\∀q∈K,HoldV c G P f' hold q
 |_+1,_,_,[],_=>False
 |k+1,X,K,b::o,opn=>if b.loop then Bp c G P f f' ins hold (k+1) X K o opn else Bp c G P f f' ins hold k (X.take b.ahead) (K.take (opn.getLastD 0)) o opn.dropLast
section
variable {c : Cd} {G P : List (List Int)} {f f' : Fr}
theorem Bp.congr{ins ins2:Nat->Nat}{hold hold2:Rk->Option Nat}:∀ {o:List Bk} {k:Nat} {X:List Nat} {K:List Rk} {opn:List Nat},Bp c G P f f' ins hold k X K o opn->(∀r∈X,ins2 r=ins r)->(∀q∈K,hold2 q=hold q)->Bp c G P f f' ins2 hold2 k X K o opn
 |o,0,X,K,opn,h,hi,hh=>by
  unfold Bp at h ⊢;exact⟨fun r hr=>by rw[hi r hr];exact h.1 r hr,fun q hq g hg=>h.2 q hq g (by rw[←hh q hq];exact hg)⟩
 |[],k+1,X,K,opn,h,hi,hh=>by unfold Bp at h;exact h.elim
 |b::o,k+1,X,K,opn,h,hi,hh=>by
  unfold Bp at h ⊢;split
  ·rename_i hb;rw[if_pos hb]at h;exact Bp.congr h hi hh
  ·rename_i hb;rw[if_neg hb]at h;exact Bp.congr h (fun r hr=>hi r (List.mem_of_mem_take hr)) (fun q hq=>hh q (List.mem_of_mem_take hq))
theorem Bp.grow{ins ins2:Nat->Nat}{hold hold2:Rk->Option Nat}{X X':List Nat}{K:List Rk}{o o':List Bk}{opn:List Nat}(hr:Qs ins hold X X' K o o' opn):∀ (k:Nat) (Y:List Nat) (J:List Rk),Bp c G P f f' ins hold (k+1) X K o opn->(∀r∈X,ins2 r=ins r)->(∀q∈K,hold2 q=hold q)->Bp c G P f f' ins2 hold2 (k+1) (X++Y) (K++J) o opn:=by
 induction hr with
 |nil=>intro k Y J h _ _;unfold Bp at h;exact h.elim
 |loop h ih=>
  intro k Y J hs hi hh;unfold Bp at hs ⊢;simp only[if_true]at hs ⊢;exact ih k Y J hs hi hh
 |@when X1 X1' K1 o1 o1' k1 p1 a1 a1' m1 h1 h2 h3 h4 h5 h ih=>
  intro k Y J hs hi hh;unfold Bp at hs ⊢;simp only[Bool.false_eq_true,if_false,List.getLastD_concat,List.dropLast_concat]at hs ⊢;rw[List.take_append_of_le_length h1,List.take_append_of_le_length h3];exact hs.congr (fun r hr=>hi r (List.mem_of_mem_take hr)) (fun q hq=>hh q (List.mem_of_mem_take hq))
end
structure IR(c:Cd)(G P:List (List Int))(L:List Ac)(s:RW)(x x':Wk)(f f':Fr)(k:Nat):Prop where
 i:CF c L s x x'
 j:GR c L s
 slots:f'.slots=f.slots
 outs:f'.outs=f.outs
 sim:Bp c G P f f' s.ins s.hold k x.set s.reck x.opens s.opn
 ok:Iu c f
 sk:Md c x f k
 can:Jh f
 oks:DQ c.regs.length x
section
variable {c : Cd} {G P : List (List Int)} {f f' : Fr} {i : Ac} {L R : List Ac} {s : RW} {x x' : Wk} {k : Nat}
theorem UM(hg:Good c){r:Int}(h0:0<=r)(h1:r<(c.regs.length:Int)):(A7 c.regs r).kind=1\/(A7 c.regs r).kind=2\/(A7 c.regs r).kind=3:=by
 have hm:AA (A7 c.regs r) c.sign.length=true:=by
  unfold A7;rw[if_pos (Br.2 ⟨h0,h1⟩),List.getElem?_eq_getElem oM];exact hg.regs _ (List.getElem_mem _)
 unfold AA at hm;split at hm
 ·omega
 ·split at hm
  ·omega
  ·cases hm
theorem IR.reads(h:IR c G P L s x x' f f' 0)(t:Aq c x i=true):EN c f f' i (A3 s i):=by
 obtain⟨_,t2,_,t4⟩:=Ah t;have hs:=h.sim;unfold Bp at hs;unfold Dr Ab at t4;rw[List.all_eq_true]at t4;simp only[List.mem_append]at t4;have key:∀n:Int,0<=n->n<(c.regs.length:Int)->n.toNat∈x.set->Jj c f f' n (s.ins n.toNat:Int):=fun n h0 h1 hm=>by
  have h3:=hs.1 _ hm;rw[Int.toNat_of_nonneg h0]at h3;refine⟨h3,?_⟩;rw[(h.i.ty n.toNat oM).2,Int.toNat_of_nonneg h0]
 refine⟨rfl,rfl,rfl,rfl,fun q=>?_,fun q=>?_,fun q=>?_⟩
 ·obtain⟨h0,h1⟩:=Ae (BD t2) q;have e:(A3 s i).a=(s.ins i.a.toNat:Int):=by unfold A3;simp only;rw[if_neg q]
  rw[e];exact key _ h0 h1 (by have:=t4 i.a (.inl OV);simpa using this)
 ·obtain⟨h0,h1⟩:=Ae (DR t2) q;have e:(A3 s i).b=(s.ins i.b.toNat:Int):=by unfold A3;simp only;rw[if_neg q]
  rw[e];exact key _ h0 h1 (by have:=t4 i.b (.inr (.inl OV));simpa using this)
 ·obtain⟨h0,h1⟩:=Ae (DS t2) q;have e:(A3 s i).c=(s.ins i.c.toNat:Int):=by unfold A3;simp only;rw[if_neg q]
  rw[e];exact key _ h0 h1 (by have:=t4 i.c (.inr (.inr OV));simpa using this)
theorem J8{k:Nat}{f:Fr}(hk:k=0)(h5:i.op≠35)(h4:i.op≠34):Ay c G P (f,k) i=(CY c G P f i,0):=by
 unfold Ay;rw[if_neg oM,if_neg oM,if_pos hk]
theorem CO{k:Nat}{f:Fr}(hk:0<k)(h5:i.op≠35)(h4:i.op≠34):Ay c G P (f,k) i=(f,k):=by
 unfold Ay;rw[if_neg oM,if_neg oM,if_neg (by simp only;omega)]
theorem JK(h:AJ c i (A4 i.op)=true)(hk:Ak i.op=true)(ok:Iu c f)(cf:Jh f):Jh (Ay c G P (f,k) i).1:=by
 unfold Ay;split
 ·exact cf
 ·split
  ·exact cf
  ·split
   ·exact ZJ UE h hk ok cf
   ·exact cf
theorem GP(hi:CF c L s x x')(hj:GR c L s)(t:Aq c x i=true)(hw:Bx c.list (A3 s i)=true):∀r∈Ab (A3 s i) (A4 i.op),GA c L r.toNat:=by
 obtain⟨_,_,w3⟩:=AQ hw;obtain⟨_,t2,_,t4⟩:=Ah t;unfold Dr Ab at t4;rw[List.all_eq_true]at t4;simp only[List.mem_append]at t4;intro r hr;have hst:Ar c.list r.toNat=true:=w3 r hr;have key:∀n:Int,n.toNat∈x.set->r=(s.ins n.toNat:Int)->GA c L r.toNat:=fun n hm e=>by
  rw[e,Int.toNat_natCast]at hst ⊢;rcases hj.inst n.toNat with q|q
  ·rw[q]at hst ⊢;exact⟨hst,hi.was _ hm⟩
  ·exact q
 unfold Ab A3 at hr;simp only[List.mem_append]at hr;rcases hr with hr|hr|hr
 ·by_cases q:(A4 i.op).a=0
  ·rw[if_pos q]at hr;cases hr
  ·rw[if_neg q,if_neg q]at hr;simp at hr;exact key i.a (by have:=t4 i.a (.inl OV);simpa using this) hr
 ·by_cases q:(A4 i.op).b=0
  ·rw[if_pos q]at hr;cases hr
  ·rw[if_neg q,if_neg q]at hr;simp at hr;exact key i.b (by have:=t4 i.b (.inr (.inl OV));simpa using this) hr
 ·by_cases q:(A4 i.op).c=0
  ·rw[if_pos q]at hr;cases hr
  ·rw[if_neg q,if_neg q]at hr;simp at hr;exact key i.c (by have:=t4 i.c (.inr (.inr OV));simpa using this) hr
theorem GR.moreJ(hj:GR c L s)(i:Ac):(∀r,s.ins r=r\/GA c (L++[i]) (s.ins r))/\∀q g,s.hold q=some g->GA c (L++[i]) g/\A7 c.regs (g:Int)=q.of_/\q.by_.op≠32/\Aa (QB q g)=true/\Ak q.by_.op=true/\AJ c (QB q g) (A4 q.by_.op)=true/\∀r∈Ab (QB q g) (A4 q.by_.op),GA c (L++[i]) r.toNat:=
 ⟨fun r=>(hj.inst r).imp id fun q=>q.more i,fun q g h=>by
  obtain⟨h1,h2,h3,h4,h5,h6,h7⟩:=hj.hold q g h
  exact⟨h1.more i,h2,h3,h4,h5,h6,fun r hr=>(h7 r hr).more i⟩⟩
theorem Sm(hi:CF c L s x x')(hj:GR c L s)(t:Aq c x i=true){g:Nat}(hh:AR c s (A3 s i)=some g):GA c L g:=by
 have hw:=Dn hh;unfold AR at hh;rw[if_pos hw]at hh;by_cases h3:(A3 s i).op=3
 ·rw[if_pos h3]at hh;split at hh
  ·simp only[Option.some.injEq]at hh;rw[←hh];have ha:(A4 i.op).a≠0:=by rw[show i.op=3 from h3];decide
   exact GP hi hj t hw _ (by unfold Ab;rw[if_neg ha];simp)
  ·cases hh
 ·rw[if_neg h3]at hh;exact(hj.hold _ _ hh).1
theorem GR.heldS(hi:CF c L s x x')(hj:GR c L s)(t:Aq c x i=true){g:Nat}(hh:AR c s (A3 s i)=some g):GR c (L++[i]) {s with ins:=fun k=>if k=i.d.toNat then g else s.ins k}:=by
 obtain⟨m1,m2⟩:=hj.moreJ i;refine⟨fun r=>?_,m2⟩;simp only;split
 ·exact .inr ((Sm hi hj t hh).more i)
 ·exact m1 r
theorem Ni{i':Ac}(h:0<=i'.d):QB (DV c i') i'.d.toNat=i':=by
 obtain⟨o,d,a,b,e,n,z⟩:=i';unfold QB DV;simp only at h ⊢;rw[Int.toNat_of_nonneg h]
theorem GR.stayS(hi:CF c L s x x')(hj:GR c L s)(t:Aq c x i=true):GR c (L++[i]) (AF c s (A3 s i)):=by
 obtain⟨m1,m2⟩:=hj.moreJ i;unfold AF;split
 ·exact⟨m1,m2⟩
 ·split
  ·unfold Do Iz;refine⟨m1,fun q g hq=>?_⟩;simp only at hq;split at hq
   ·cases hq
   ·exact m2 q g hq
  ·split
   ·rename_i hw;refine⟨m1,fun q g hq=>?_⟩;simp only at hq;split at hq
    ·rename_i e;obtain rfl:=Option.some.inj hq;obtain⟨w1,w2,w3⟩:=AQ hw.2;obtain⟨t1,t2,_,_⟩:=Ah (E3 hi t);have w1':Aa i=true:=w1;obtain⟨d0,d1⟩:=DO t w1';have hd0:0<=(A3 s i).d:=d0;rw[e,Ni hd0];refine⟨⟨w2,i,sM,w1',rfl⟩,?_,hw.1.1,w1,t1,t2,fun r hr=>(GP hi hj t hw.2 r hr).more i⟩;rw[Int.toNat_of_nonneg hd0];rfl
    ·exact m2 q g hq
   ·exact⟨m1,m2⟩
theorem NI(hi:CF c L s x x')(hl:c.list=L++i::R){g:Nat}(hh:AR c s (A3 s i)=some g):Aa i=true/\i.d.toNat∉x.set/\Af x i=⟨x.set++[i.d.toNat],x.opens⟩:=by
 obtain⟨w1,w2,w3⟩:=AQ (Dn hh);have w1':Aa i=true:=w1;have hn:=QV hi hl w1' w2;refine⟨w1',hn,?_⟩;rw[M4 w1'];unfold CG;rw[if_pos ⟨by unfold Aa at w1';simpa using w1',hn⟩]
theorem Wr(hg:Good c)(fg:CV c G)(fp:CV c P)(hb:Az i.bits)(h:IR c G P L s x x' f f' k)(hl:c.list=L++i::R)(t:Aq c x i=true){g:Nat}(hh:AR c s (A3 s i)=some g):
 IR c G P (L++[i]) {s with ins:=fun k=>if k=i.d.toNat then g else s.ins k} (Af x i) x' (Ay c G P (f,k) i).1 f' (Ay c G P (f,k) i).2:=by
 obtain⟨hs,hn,hst⟩:=NI h.i hl hh;obtain⟨o4,o5,o6,o7⟩:=Ft hs;obtain⟨hkn,t2,_,_⟩:=Ah t;obtain⟨n1,n2⟩:=H7 hg h.oks t h.ok hb fg fp h.sk;have hne:∀r∈x.set,(if r=i.d.toNat then g else s.ins r)=s.ins r:=fun r hr=>if_neg (fun e:r=i.d.toNat=>hn (by rw[←e];exact hr));obtain⟨d0,d1⟩:=DO t hs;have hcan:=JK (G:=G) (P:=P) (k:=k) t2 hkn h.ok h.can;have hi2:=Gd h.i hl t hh;have hj2:=h.j.heldS h.i t hh;have hoks:=h.oks.step t;cases k with
 |zero=>
  have hdo:=J8 (c:=c) (G:=G) (P:=P) (f:=f) (rfl:(0:Nat)=0) o5 o4;rw[hdo]at n1 n2 hcan ⊢;obtain⟨k1,k2⟩:=Qc (c:=c) (G:=G) (P:=P) (f:=f) hkn hs;refine⟨hi2,hj2,by rw[h.slots,k1],by rw[h.outs,k2],?_,n1,n2,hcan,hoks⟩;have hsim:=h.sim;unfold Bp at hsim ⊢;rw[hst];refine⟨fun r hr=>?_,hsim.2⟩;simp only at hr ⊢;rcases List.mem_append.1 hr with hr|hr
  ·rw[hne r hr,EQ (r:=(r:Int)) hkn (fun _ e=>hn (by rw[Int.toNat_natCast]at e;rw[←e];exact hr))];exact hsim.1 r hr
  ·simp only[List.mem_singleton]at hr;rw[if_pos hr,hr,Int.toNat_of_nonneg d0];have hre:=h.reads t;have hw:=Dn hh;have hh2:=hh;unfold AR at hh2;rw[if_pos hw]at hh2;by_cases h3:(A3 s i).op=3
   ·rw[if_pos h3]at hh2;have h3':i.op=3:=h3;have ha:(A4 i.op).a≠0:=by rw[h3'];decide
    obtain⟨q1,q2⟩:=hre.a ha;split at hh2
    ·rename_i e;simp only[Option.some.injEq]at hh2;have hta:A7 c.regs i.a=A7 c.regs i.d:=q2.symm.trans e;obtain⟨a0,a1⟩:=Ae (BD t2) ha;have hsk:=h.sk;have hset:Df c f i.a.toNat:=by
      rcases hsk with⟨_,hsk⟩|⟨pre,b,rest,_,_,hk0,_⟩
      ·refine hsk _ ?_;obtain⟨_,_,_,t4⟩:=Ah t;unfold Dr Ab at t4;rw[List.all_eq_true]at t4;have:=t4 i.a (by rw[if_neg ha];simp);simpa using this
      ·omega
     rw[Uh h3' hta (UM hg d0 d1) h.can (fun q=>by
      unfold Df at hset;rw[Int.toNat_of_nonneg a0]at hset
      exact hset q)]
     have ea:(A3 s i).a=(s.ins i.a.toNat:Int):=by unfold A3;simp only;rw[if_neg ha]
     rw[←hh2,ea,Int.toNat_natCast,←ea];exact q1
    ·cases hh2
   ·rw[if_neg h3]at hh2;obtain⟨j1,j2,j3,j4,j5,j6,j7⟩:=h.j.hold _ _ hh2;have hkm:=(h.i.reck _).1 (by rw[hh2];rfl);have hv:=hsim.2 _ hkm g hh2;obtain⟨u1,u2,_,_⟩:=Ah (E3 h.i t);have e1:=Jg (G:=G) (P:=P) t2 hkn hre (fun _=>h.slots) hs;have hie:EN c f' f' (A3 s i) (QB (DV c (A3 s i)) g):=⟨rfl,j2,rfl,rfl,fun _=>⟨rfl,rfl⟩,fun _=>⟨rfl,rfl⟩,fun _=>⟨rfl,rfl⟩⟩
    have e2:=Jg (G:=G) (P:=P) u2 u1 hie (fun _=>rfl) hs;rw[←hv];exact e2.trans e1
 |succ k=>
  have hdo:=CO (c:=c) (G:=G) (P:=P) (f:=f) (Nat.succ_pos k) o5 o4;rw[hdo]at n1 n2 hcan ⊢;refine⟨hi2,hj2,h.slots,h.outs,?_,n1,n2,hcan,hoks⟩;rw[hst];have:=Bp.grow (f:=f) (f':=f') (G:=G) (P:=P) (c:=c) (ins2:=fun k=>if k=i.d.toNat then g else s.ins k) (hold2:=s.hold) h.i.opens k [i.d.toNat] [] h.sim hne (fun _ _=>rfl);simpa using this
theorem Qi(hi:CF c L s x x')(hh:AR c s (A3 s i)=none)(ho:¬ (i.op=34\/i.op=35\/i.op=36\/i.op=37)):
 ∃Y J,Af x i=⟨x.set++Y,x.opens⟩/\(∀r∈Y,Aa i=true/\r=i.d.toNat)/\(AF c s (A3 s i)).reck=s.reck++J/\(AF c s (A3 s i)).opn=s.opn/\(AF c s (A3 s i)).ins=s.ins/\(∀q∈s.reck,(AF c s (A3 s i)).hold q=s.hold q)/\
  ∀q∈J,q=DV c (A3 s i)/\i.op≠32/\Bx c.list (A3 s i)=true/\(AF c s (A3 s i)).hold q=some i.d.toNat:=by
 have hop:(A3 s i).op=i.op:=rfl;obtain⟨Y,hY,hYm⟩:∃Y,Af x i=⟨x.set++Y,x.opens⟩/\∀r∈Y,Aa i=true/\r=i.d.toNat:=by
  unfold Af Di BJ;rw[if_neg oM,if_neg oM];unfold CG;split
  ·rename_i q;exact⟨[i.d.toNat],rfl,fun r hr=>⟨by unfold Aa;simpa using q.1,by simpa using hr⟩⟩
  ·exact⟨[],sM,fun r hr=>by cases hr⟩
 by_cases hw:((A3 s i).op≠32/\(A3 s i).op≠3)/\Bx c.list (A3 s i)=true
 ·have hst:AF c s (A3 s i)={s with left:=s.left++[A3 s i],hold:=fun r=>if r=DV c (A3 s i)then some (A3 s i).d.toNat else s.hold r,reck:=s.reck++[DV c (A3 s i)]}:=by
   unfold AF;rw[if_neg Qv,if_neg Qv,if_pos hw]
  have hno:s.hold (DV c (A3 s i))=none:=by
   unfold AR at hh;rw[if_pos hw.2,if_neg hw.1.2]at hh;exact hh
  have hnr:DV c (A3 s i)∉s.reck:=fun q=>by
   have:=(hi.reck _).2 q;rw[hno]at this;cases this
  rw[hst];refine⟨Y,[DV c (A3 s i)],hY,hYm,rfl,rfl,rfl,fun q hq=>if_neg (fun e:q=DV c (A3 s i)=>hnr (e▸hq)),fun q hq=>?_⟩;simp only[List.mem_singleton]at hq;exact⟨hq,hw.1.1,hw.2,by simp only;rw[if_pos hq];rfl⟩
 ·have hst:AF c s (A3 s i)={s with left:=s.left++[A3 s i]}:=by
   unfold AF;rw[if_neg Qv,if_neg Qv,if_neg hw]
  rw[hst];exact⟨Y,[],hY,hYm,sM,rfl,rfl,fun q _=>rfl,fun q hq=>by cases hq⟩
theorem Tq(hg:Good c)(fg:CV c G)(fp:CV c P)(hb:Az i.bits)(h:IR c G P L s x x' f f' k)(hl:c.list=L++i::R)(t:Aq c x i=true)(hh:AR c s (A3 s i)=none)(ho:¬ (i.op=34\/i.op=35\/i.op=36\/i.op=37)):
 (Ay c G P (f',k) (A3 s i)).2=(Ay c G P (f,k) i).2/\IR c G P (L++[i]) (AF c s (A3 s i)) (Af x i) (Af x' (A3 s i)) (Ay c G P (f,k) i).1 (Ay c G P (f',k) (A3 s i)).1 (Ay c G P (f,k) i).2:=by
 have hop:(A3 s i).op=i.op:=rfl;obtain⟨hkn,t2,_,_⟩:=Ah t;obtain⟨n1,n2⟩:=H7 hg h.oks t h.ok hb fg fp h.sk;have hcan:=JK (G:=G) (P:=P) (k:=k) t2 hkn h.ok h.can;have hi2:=F3 h.i hl t hh;have hj2:=h.j.stayS h.i t;have hoks:=h.oks.step t;obtain⟨Y,J,hst,hY,hK,hopn,hins,hhold,hJ⟩:=Qi h.i hh ho;cases k with
 |succ k=>
  have e1:=CO (c:=c) (G:=G) (P:=P) (i:=i) (f:=f) (Nat.succ_pos k) oM oM;have e2:=CO (c:=c) (G:=G) (P:=P) (i:=A3 s i) (f:=f') (Nat.succ_pos k) Qv Qv;rw[e1]at n1 n2 hcan ⊢;rw[e2];refine⟨rfl,hi2,hj2,h.slots,h.outs,?_,n1,n2,hcan,hoks⟩;rw[hst,hK,hopn,hins];exact Bp.grow h.i.opens k Y J h.sim (fun _ _=>rfl) hhold
 |zero=>
  have e1:=J8 (c:=c) (G:=G) (P:=P) (i:=i) (f:=f) (rfl:(0:Nat)=0) oM oM;have e2:=J8 (c:=c) (G:=G) (P:=P) (i:=A3 s i) (f:=f') (rfl:(0:Nat)=0) Qv Qv;rw[e1]at n1 n2 hcan ⊢;rw[e2];have hre:=h.reads t;obtain⟨r1,r2,r3⟩:=ZK (G:=G) (P:=P) t2 hkn hre h.slots h.outs;refine⟨rfl,hi2,hj2,r1,r2,?_,n1,n2,hcan,hoks⟩;have hsim:=h.sim;unfold Bp at hsim ⊢;rw[hst,hK,hins];have hkn':Ak (A3 s i).op=true:=hkn;have hfr:∀g:Nat,GA c L g->Bl c (CY c G P f' (A3 s i)) (g:Int)=Bl c f' (g:Int):=fun g hg'=>EQ (r:=(g:Int)) hkn' (fun hs e=>by
   rw[Int.toNat_natCast]at e
   exact hg'.ne hl hs e)
  obtain⟨u1,u2,_,_⟩:=Ah (E3 h.i t);refine⟨fun r hr=>?_,fun q hq=>?_⟩
  ·simp only at hr;by_cases hD:Aa i=true/\r=i.d.toNat
   ·obtain⟨hs,rfl⟩:=hD;obtain⟨d0,d1⟩:=DO t hs;have hid:s.ins i.d.toNat=i.d.toNat:=by
     rcases h.i.same i.d.toNat with q|⟨q,j,hj,k1,k2⟩
     ·exact q
     ·rw[hl]at q;exact absurd k2 (Fw hs q j hj k1)
    rw[hid,Int.toNat_of_nonneg d0];exact r3 hs
   ·have hrX:r∈x.set:=by
     rcases List.mem_append.1 hr with hr|hr
     ·exact hr
     ·exact absurd (hY r hr) hD
    rw[EQ (r:=(r:Int)) hkn (fun hs e=>hD ⟨hs,by rw[Int.toNat_natCast]at e;exact e⟩)];rw[←hsim.1 r hrX];rcases h.j.inst r with q|q
    ·exact EQ (r:=(s.ins r:Int)) hkn' (fun hs e=>hD ⟨hs,by rw[Int.toNat_natCast,q]at e;exact e⟩)
    ·exact hfr _ q
  ·rcases List.mem_append.1 hq with hq|hq
   ·intro g hg';rw[hhold q hq]at hg';obtain⟨j1,j2,j3,j4,j5,j6,j7⟩:=h.j.hold q g hg';rw[hfr g j1,←hsim.2 q hq g hg'];have hie:EN c f' (CY c G P f' (A3 s i)) (QB q g) (QB q g):=EN.refl (fun r hr=>⟨by
     have hr':=j7 r hr
     exact EQ (r:=r) hkn' (fun hs e=>hr'.ne hl hs e),rfl⟩)
    exact Jg (G:=G) (P:=P) (i:=QB q g) j6 j5 hie (fun e=>absurd e j3) j4
   ·obtain⟨rfl,h32,hw,hgq⟩:=hJ q hq;intro g hg';rw[hgq]at hg';obtain rfl:=Option.some.inj hg';obtain⟨w1,w2,w3⟩:=AQ hw;have w1':Aa i=true:=w1;obtain⟨d0,d1⟩:=DO t w1';have hd0:0<=(A3 s i).d:=d0;have ea:QB (DV c (A3 s i)) i.d.toNat=A3 s i:=Ni (c:=c) hd0;rw[ea,Int.toNat_of_nonneg d0];have hset:=GP h.i h.j t hw;have hie:EN c f' (CY c G P f' (A3 s i)) (A3 s i) (A3 s i):=EN.refl (fun r hr=>⟨EQ (r:=r) hkn' (fun hs e=>(hset r hr).ne hl hs e),rfl⟩);exact Jg (G:=G) (P:=P) (i:=A3 s i) u2 u1 hie (fun e=>absurd e h32) w1
theorem Dp{f:Fr}(o:i.op=35\/i.op=36\/i.op=37):Ay c G P (f,0) i=(f,0):=by
 unfold Ay;rw[if_neg sM,if_neg oM,if_pos rfl,AN oM]
theorem LL{f:Fr}{k:Nat}(o:i.op=34):Ay c G P (f,k) i=if 0<k\/f.whs i.a.toNat=0 then(f,k+1)else(f,0):=by
 unfold Ay;rw[if_neg oM];by_cases q:0<k\/f.whs i.a.toNat=0
 ·rw[if_pos ⟨o,q⟩,if_pos q]
 ·rw[if_neg (fun e=>q e.2),if_neg q,if_pos (by simp only;omega),AN oM]
theorem NR{f:Fr}{k:Nat}(o:i.op=35):Ay c G P (f,k+1) i=(f,k):=by
 unfold Ay;rw[if_pos ⟨sM,o⟩];rfl
theorem Ws(hg:Good c)(fg:CV c G)(fp:CV c P)(hb:Az i.bits)(h:IR c G P L s x x' f f' k)(hl:c.list=L++i::R)(t:Aq c x i=true)(hh:AR c s (A3 s i)=none)(ho:i.op=34\/i.op=35\/i.op=36\/i.op=37):
 (Ay c G P (f',k) (A3 s i)).2=(Ay c G P (f,k) i).2/\IR c G P (L++[i]) (AF c s (A3 s i)) (Af x i) (Af x' (A3 s i)) (Ay c G P (f,k) i).1 (Ay c G P (f',k) (A3 s i)).1 (Ay c G P (f,k) i).2:=by
 have hop:(A3 s i).op=i.op:=rfl;obtain⟨hkn,t2,t3,_⟩:=Ah t;obtain⟨n1,n2⟩:=H7 hg h.oks t h.ok hb fg fp h.sk;have hcan:=JK (G:=G) (P:=P) (k:=k) t2 hkn h.ok h.can;have hi2:=F3 h.i hl t hh;have hj2:=h.j.stayS h.i t;have hoks:=h.oks.step t;have hsim:=h.sim;rcases ho with o|o|o|o
 ·have o':(A3 s i).op=34:=o;have hst:=Kh (s:=x) o;have hsy:=M3 c s o';have hX:∀k',Bp c G P f f' s.ins s.hold k' x.set s.reck x.opens s.opn->Bp c G P f f' s.ins s.hold (k'+1) x.set s.reck (⟨false,i.n,x.set.length⟩::x.opens) (s.opn++[s.reck.length]):=fun k' q=>by
   unfold Bp;simp only[Bool.false_eq_true,if_false,List.getLastD_concat,List.dropLast_concat,List.take_length];exact q
  have hw:k=0->f'.whs (A3 s i).a.toNat=f.whs i.a.toNat:=fun hk=>by
   subst hk;have ra:(A4 i.op).a=2:=by rw[o];decide
   exact((h.reads t).a Zhn).whs (Fc t2 2 ra dE dE)
  have e1:=LL (c:=c) (G:=G) (P:=P) (f:=f) (k:=k) o;have e2:=LL (c:=c) (G:=G) (P:=P) (f:=f') (k:=k) o';by_cases q:0<k\/f.whs i.a.toNat=0
  ·have q':0<k\/f'.whs (A3 s i).a.toNat=0:=by
    rcases Nat.eq_zero_or_pos k with e|e
    ·rw[hw e];exact q
    ·exact .inl e
   rw[if_pos q]at e1;rw[if_pos q']at e2;rw[e1]at n1 n2 hcan ⊢;rw[e2];refine⟨rfl,hi2,hj2,h.slots,h.outs,?_,n1,n2,hcan,hoks⟩;rw[hst,hsy];exact hX k hsim
  ·have hk:k=0:=oM;subst hk;have q':¬ (0<0\/f'.whs (A3 s i).a.toNat=0):=by rw[hw rfl];exact q
   rw[if_neg q]at e1;rw[if_neg q']at e2;exact Zeu
 ·have o':(A3 s i).op=35:=o;have hst:=G5 (s:=x) (.inl o:i.op=35\/i.op=37);have hsy:=OA c s o';unfold At at t3;rw[if_neg oM,if_pos o]at t3;simp only[Bool.and_eq_true,Bool.not_eq_true']at t3;have hnd:=h.i.nodup;obtain⟨a,m,oo,kk,p,hxo,hso,ha,hm⟩:∃a m oo kk p,x.opens=⟨false,p,a⟩::oo/\s.opn=kk++[m]/\a<=x.set.length/\m<=s.reck.length:=by
   have hop9:=h.i.opens;obtain⟨X,O⟩:=x;obtain⟨X',O'⟩:=x';obtain⟨ins,hold,reck,opn,left⟩:=s;simp only at hop9 t3 ⊢;cases hop9 with
   |nil=>simp at t3
   |loop h9=>simp[Aj]at t3
   |@when _ _ _ o o' k p a a' m h1 h2 h3 h4 h5 h6=>exact⟨a,m,o,k,p,rfl,rfl,h1,h3⟩
  have hlv:AG x=⟨x.set.take a,oo⟩:=by
   unfold AG;rw[hxo];simp
  have hk2:∀q∈s.reck.take m,(if q∈s.reck.drop m then none else s.hold q)=s.hold q:=fun q hq=>if_neg (Kk hnd hq);have hlw:Do {s with left:=s.left++[A3 s i]}={s with left:=s.left++[A3 s i],hold:=fun r=>if r∈s.reck.drop m then none else s.hold r,reck:=s.reck.take m,opn:=kk}:=by
   unfold Do Iz;simp only;rw[hso];simp
  cases k with
  |zero=>
   have e1:=Dp (c:=c) (G:=G) (P:=P) (f:=f) (.inl o:i.op=35\/i.op=36\/i.op=37);have e2:=Dp (c:=c) (G:=G) (P:=P) (f:=f') (.inl o':(A3 s i).op=35\/(A3 s i).op=36\/(A3 s i).op=37);rw[e1]at n1 n2 hcan ⊢;rw[e2];refine⟨rfl,hi2,hj2,h.slots,h.outs,?_,n1,n2,hcan,hoks⟩;rw[hst,hsy,hlv,hlw];unfold Bp at hsim ⊢;exact⟨fun r hr=>hsim.1 r (List.mem_of_mem_take hr),fun q hq g hg'=>hsim.2 q (List.mem_of_mem_take hq) g (by simp only at hg';rw[hk2 q hq]at hg';exact hg')⟩
  |succ k=>
   have e1:=NR (c:=c) (G:=G) (P:=P) (f:=f) (k:=k) o;have e2:=NR (c:=c) (G:=G) (P:=P) (f:=f') (k:=k) o';rw[e1]at n1 n2 hcan ⊢;rw[e2];refine⟨rfl,hi2,hj2,h.slots,h.outs,?_,n1,n2,hcan,hoks⟩;rw[hst,hsy,hlv,hlw];rw[hxo,hso]at hsim;unfold Bp at hsim;simp only[Bool.false_eq_true,if_false,List.getLastD_concat,List.dropLast_concat]at hsim;exact hsim.congr (fun _ _=>rfl) hk2
 ·have o':(A3 s i).op=36:=o;have hst:=Ki (s:=x) o;have hns:Aa (A3 s i)=false:=by unfold Aa;rw[o'];decide
  have hsy:AF c s (A3 s i)={s with left:=s.left++[A3 s i]}:=by
   unfold AF;rw[if_neg oM,if_neg oM,if_neg];intro q;have:=(AQ q.2).1;rw[hns]at this;cases this
  cases k with
  |zero=>
   have e1:=Dp (c:=c) (G:=G) (P:=P) (f:=f) (.inr (.inl o):i.op=35\/i.op=36\/i.op=37);have e2:=Dp (c:=c) (G:=G) (P:=P) (f:=f') (.inr (.inl o'):(A3 s i).op=35\/(A3 s i).op=36\/(A3 s i).op=37);exact Zeu
  |succ k=>
   have e1:=CO (c:=c) (G:=G) (P:=P) (i:=i) (f:=f) (Nat.succ_pos k) oM oM;have e2:=CO (c:=c) (G:=G) (P:=P) (i:=A3 s i) (f:=f') (Nat.succ_pos k) oM oM;rw[e1]at n1 n2 hcan ⊢;rw[e2];refine⟨rfl,hi2,hj2,h.slots,h.outs,?_,n1,n2,hcan,hoks⟩;rw[hst,hsy];unfold Bp;simp only[if_true];exact hsim
 ·have o':(A3 s i).op=37:=o;have hst:=G5 (s:=x) (.inr o:i.op=35\/i.op=37);have hns:Aa (A3 s i)=false:=by unfold Aa;rw[o'];decide
  have hsy:AF c s (A3 s i)={s with left:=s.left++[A3 s i]}:=by
   unfold AF;rw[if_neg oM,if_neg oM,if_neg];intro q;have:=(AQ q.2).1;rw[hns]at this;cases this
  unfold At at t3;rw[if_neg oM,if_neg oM,if_pos o]at t3;obtain⟨p,a,oo,hxo⟩:∃p a oo,x.opens=⟨true,p,a⟩::oo:=by
   obtain⟨X,O⟩:=x;simp only at t3 ⊢;cases O with
   |nil=>simp[Aj]at t3
   |cons bk oo=>
    obtain⟨lp,p,a⟩:=bk;simp[Aj]at t3;subst t3;exact⟨p,a,oo,rfl⟩
  have hlv:AG x=⟨x.set,oo⟩:=by
   unfold AG;rw[hxo];simp
  cases k with
  |zero=>
   have e1:=Dp (c:=c) (G:=G) (P:=P) (f:=f) (.inr (.inr o):i.op=35\/i.op=36\/i.op=37);have e2:=Dp (c:=c) (G:=G) (P:=P) (f:=f') (.inr (.inr o'):(A3 s i).op=35\/(A3 s i).op=36\/(A3 s i).op=37);rw[e1]at n1 n2 hcan ⊢;rw[e2];refine⟨rfl,hi2,hj2,h.slots,h.outs,?_,n1,n2,hcan,hoks⟩;rw[hst,hsy,hlv];unfold Bp at hsim ⊢;exact hsim
  |succ k=>
   have e1:=CO (c:=c) (G:=G) (P:=P) (i:=i) (f:=f) (Nat.succ_pos k) oM oM;have e2:=CO (c:=c) (G:=G) (P:=P) (i:=A3 s i) (f:=f') (Nat.succ_pos k) oM oM;rw[e1]at n1 n2 hcan ⊢;rw[e2];refine⟨rfl,hi2,hj2,h.slots,h.outs,?_,n1,n2,hcan,hoks⟩;rw[hst,hsy,hlv];rw[hxo]at hsim;unfold Bp at hsim;simp only[if_true]at hsim;exact hsim
theorem MS(hg:Good c)(fg:CV c G)(fp:CV c P):∀ (R L:List Ac) (s:RW) (x x':Wk) (f f':Fr) (k:Nat) (f0:Fr),c.list=L++R->(∀i∈R,Az i.bits)->AE c x R=true->IR c G P L s x x' f f' k->Sk c G P (f0,0) s.left=(f',k)->
 ∃f2 f2' k2 s2 x2 x2',Sk c G P (f,k) R=(f2,k2)/\s2=R.foldl (AX c) s/\Sk c G P (f0,0) s2.left=(f2',k2)/\IR c G P c.list s2 x2 x2' f2 f2' k2
 |[],L,s,x,x',f,f',k,f0,hl,hb,ht,h,hgo=>by
  rw[List.append_nil]at hl;subst hl;exact⟨f,f',k,s,x,x',rfl,rfl,hgo,h⟩
 |i::R,L,s,x,x',f,f',k,f0,hl,hb,ht,h,hgo=>by
  have ht':Aq c x i=true/\AE c (Af x i) R=true:=by unfold AE at ht;simpa using ht
  have hl':c.list=(L++[i])++R:=by rw[hl];simp
  have hbi:=hb i sM;have hbR:=fun j hj=>hb j (List.mem_cons_of_mem i hj);have hgoc:Sk c G P (f,k) (i::R)=Sk c G P (Ay c G P (f,k) i) R:=rfl;cases hh:AR c s (A3 s i)with
  |some g=>
   have htk:AX c s i={s with ins:=fun k=>if k=i.d.toNat then g else s.ins k}:=by unfold AX;rw[hh]
   have h2:=Wr hg fg fp hbi h hl ht'.1 hh;have hk2:(Ay c G P (f,k) i).2=k:=by
    obtain⟨hs,-,-⟩:=NI h.i hl hh;obtain⟨o4,o5,o6,o7⟩:=Ft hs;rcases Nat.eq_zero_or_pos k with e|e
    ·rw[J8 e o5 o4,e]
    ·rw[CO e o5 o4]
   obtain⟨f2,f2',k2,s2,x2,x2',r1,r2,r3,r4⟩:=MS hg fg fp R (L++[i]) _ _ _ _ f' _ f0 hl' hbR ht'.2 h2 (by rw[hk2];exact hgo);refine⟨f2,f2',k2,s2,x2,x2',by rw[hgoc];exact r1,?_,r3,r4⟩;rw[r2,List.foldl_cons,htk]
  |none=>
   have htk:AX c s i=AF c s (A3 s i):=by unfold AX;rw[hh]
   have h2:(Ay c G P (f',k) (A3 s i)).2=(Ay c G P (f,k) i).2/\IR c G P (L++[i]) (AF c s (A3 s i)) (Af x i) (Af x' (A3 s i)) (Ay c G P (f,k) i).1 (Ay c G P (f',k) (A3 s i)).1 (Ay c G P (f,k) i).2:=by
    by_cases ho:i.op=34\/i.op=35\/i.op=36\/i.op=37
    ·exact Ws hg fg fp hbi h hl ht'.1 hh ho
    ·exact Tq hg fg fp hbi h hl ht'.1 hh ho
   have hgo2:Sk c G P (f0,0) (AF c s (A3 s i)).left=((Ay c G P (f',k) (A3 s i)).1,(Ay c G P (f,k) i).2):=by
    rw[(CS c s _).1];unfold Sk at hgo ⊢;rw[List.foldl_append,hgo,←h2.1];rfl
   obtain⟨f2,f2',k2,s2,x2,x2',r1,r2,r3,r4⟩:=MS hg fg fp R (L++[i]) _ _ _ _ _ _ f0 hl' hbR ht'.2 h2.2 hgo2;refine⟨f2,f2',k2,s2,x2,x2',by rw[hgoc];exact r1,?_,r3,r4⟩;rw[r2,List.foldl_cons,htk]
end
def Gs(l:List Hd)(n:Nat):List (List Int):=(l.take n).map fun h=>h.pats++[h.whole]
theorem Sn{l:List Hd}{j:Nat}(h:j<l.length):Gs l (j+1)=Gs l j++[l[j].pats++[l[j].whole]]:=by
 unfold Gs;rw[List.take_succ_eq_append_getElem h,List.map_append];rfl
theorem Vb{w:World}{B g c':Nat}{l:List Int}{sv:Value}(h:w.ownsRow B 42 1 (.slice (some ⟨g,0,none⟩) l.length c') l.length (Gv l))(hs:∀b,sv.ownBlock=some b->b<B):IQ w sv (some ⟨g,0,none⟩) l:=by
 have h1:=Jd h;rcases h1 with e|⟨b,o,e,hc⟩
 ·exact .inl (List.eq_nil_of_length_eq_zero e)
 ·simp only[Option.some.injEq,Addr.mk.injEq]at e;obtain⟨rfl,rfl,-⟩:=e;refine .inr ⟨g,0,rfl,fun e=>?_,hc⟩;have h2:=hs g e;have h3:=(h.lt g rfl).1;omega
theorem NG(v0 v1 v2 v3 u:Value)(X:List Cl)(hX:X.length<=4096)(n:Nat)(hn:n<=X.length)(hP:∀x∈X,(∀y∈x.h.pats,Az y)/\x.h.pats.length<=4096/\0<=x.h.whole/\x.h.whole<=2147483647)(w:World)(h:TS w u X):
 Calls prog 35 #[.agg #[v0,v1,v2,v3,u],.int .i64 (n:Int)] w fun e w'=>∃sv,e=.returned sv/\FL (fun b=>b<w.heap.size) w' sv (Gs (X.map (·.h)) n)/\Below w.heap.size w w':=by
 have KS:Hid (∀ (v:World) (k:Nat) (hk:k<X.length),Below w.heap.size w v->Calls prog 62 #[.agg #[v0,v1,v2,v3,u],.int .i64 (k:Int)] v fun e w'=>∃p q,e=.returned (.tuple #[.slice p X[k].h.pats.length q,.int .i64 X[k].h.whole,.int .i64 0])/\w'.ownsRow v.heap.size 42 1 (.slice p X[k].h.pats.length q) X[k].h.pats.length (Gv X[k].h.pats)/\Below v.heap.size v w'):=fun v k hk hb=>
  (Oh v0 v1 v2 v3 u X oM k hk (hP _ (List.getElem_mem hk)).1 (hP _ (List.getElem_mem hk)).2.1 v (h.below hb)).mono fun e w' ⟨p,q,h1,_,h3,_,h5⟩=>⟨p,q,h1,h5,h3⟩
 have HP:=A8 hP;have HN:=A8 hn;obtain⟨W0,hW0⟩:∃W,w.alloc (.cells #[v0,v1,v2,v3,u] 55)=W:=⟨_,rfl⟩
 have HW0:Hid (Below w.heap.size w W0/\W0.heap.size=w.heap.size+1):=by rw[←hW0];exact⟨A0 _ _,sM⟩
 have hbx:W0.rowIs w.heap.size 55 5 (f5 v0 v1 v2 v3 u):=by rw[←hW0];exact World.rowIs_alloc w _ _ _ (ER _ _ _ _ _)
 have HBX:=A8 hbx;have hn0:n<=4096:=oM;clear h hP hn hbx;go_enter func35,ntmps35;go_upto_block 0 with fail;try rw[hW0]
 clear hW0;go_wp2_with fail
 go_loopw [5,6] (fun ov iv wr=>∃ (Xs:List Cu) (pp:Option Addr) (qq:Nat),Xs.length<=n/\iv=.int .i64 (Xs.length:Int)/\ov=.slice pp Xs.length qq/\Hid (Below W0.heap.size W0 wr/\Xs.map (·.l)=Gs (X.map (·.h)) Xs.length/\Mg W0.heap.size wr (.slice pp Xs.length qq) Xs)) (fun _ iv _=>n-(intOf iv).toNat)
 case atStart=>exact⟨[],none,0,Nat.zero_le _,rfl,rfl,Be _,rfl,Mg.nil _ _⟩
 case round=>
  obtain⟨Xs,pp,qq,hj,rfl,rfl,HR⟩:=hrel;obtain⟨hb,hm,hvs⟩:=HR.out;obtain⟨j,hje⟩:∃j,Xs.length=j:=⟨_,rfl⟩
  by_cases hlt:j<n
  ·have hjX:j<X.length:=by have:=HN.out;omega
   have hrow:=HBX.out.of_block (hb.block _ HBX.out.lt);have x0:wr.cell? ⟨w.heap.size,0,none⟩=some v0:=hrow.cell (i:=0) dE;have x1:wr.cell? ⟨w.heap.size,1,none⟩=some v1:=hrow.cell (i:=1) dE;have x2:wr.cell? ⟨w.heap.size,2,none⟩=some v2:=hrow.cell (i:=2) dE;have x3:wr.cell? ⟨w.heap.size,3,none⟩=some v3:=hrow.cell (i:=3) dE;have x4:wr.cell? ⟨w.heap.size,4,none⟩=some u:=hrow.cell (i:=4) dE;have hbw:Below w.heap.size w wr:=HW0.out.1.trans (hb.mono HW0.out.1.size);have KJ:=A8 (KS.out wr j hjX hbw);obtain⟨hp1,hp2,hp3,hp4⟩:=HP.out _ (List.getElem_mem hjX);have hsu:Gs (X.map (·.h)) (j+1)=Gs (X.map (·.h)) j++[X[j].h.pats++[X[j].h.whole]]:=by
    rw[Sn (by simpa using hjX)];simp
   obtain⟨⟨px,qx,⟨pats,wh⟩⟩,hx⟩:∃x,X[j]=x:=⟨_,rfl⟩
   simp only[hx]at KJ hp1 hp2 hp3 hp4 hsu;have HSU:=A8 hsu;obtain⟨M,hM⟩:∃M,pats.length=M:=⟨_,rfl⟩
   have HM:=A8 hM;have HB:=A8 hb;have HMM:=A8 hm;have HVS:=A8 hvs;have HJE:=A8 hje;rw[hje]at hj ⊢;have t0:(j:Int)<(n:Int):=oM;have t5:IntKind.i64.wrap ((j:Int)+1)=((j+1:Nat):Int):=by rw[IntKind.wrap_i64];omega
   have t6:IntKind.u32.wrap wh=wh:=by rw[IntKind.wrap_u32];omega
   clear hrow hb hm hvs hje hsu hx hp1 hM;go_upto_region 6 with(go_at_call 62;(with_reducible refine KJ.out.mono ?_);rintro e w5 ⟨ps,qs,rfl,how,hb5⟩;have HOW:=A8 how;have HB5:=A8 hb5;clear how hb5 x0 x1 x2 x3 x4)
   obtain⟨g,c',w8,hap,hb8,ho8,-⟩:=DU (V:=w5) underlying81 FU rfl dE HOW.out HB5.out.size #[.int .u32 wh] rfl Xf (by unfold maxLen;have:=HM.out;omega) (by have:=HM.out;omega) 81;have hbB:Below wr.heap.size wr w8:=HB5.out.trans hb8;have ho9:w8.ownsRow wr.heap.size 42 1 (.slice (some ⟨g,0,none⟩) (pats++[wh]).length c') (pats++[wh]).length (Gv (pats++[wh])):=by
    rw[F0,List.length_append];exact ho8
   have hV8:=HVS.out.below hbB;have hpa:IQ w8 (.slice pp Xs.length qq) (some ⟨g,0,none⟩) (pats++[wh]):=Vb ho9 (fun b e=>(HVS.out.own.lt b e).2);have hg1:wr.heap.size<=g:=(ho9.lt g rfl).1;have hsz:W0.heap.size<=wr.heap.size:=HB.out.size;obtain⟨g2,c2,w9,hap2,hb9,hv9⟩:=hV8.push (Nat.le_trans hsz hbB.size) (by have:=HJE.out;omega) ⟨some ⟨g,0,none⟩,c',pats++[wh]⟩ hpa (fun b o s e=>by simp only[Option.some.injEq,Addr.mk.injEq]at e;omega) 58;simp only[List.length_append,List.length_singleton,HJE.out]at hap2;have hM':=HM.out;rw[hM']at hap hap2;have HAP:=A8 hap;have HAP2:=A8 hap2;have HNX:Hid (Below W0.heap.size W0 w9/\(Xs++[(⟨some ⟨g,0,none⟩,c',pats++[wh]⟩:Cu)]).map (·.l)=Gs (X.map (·.h)) (Xs++[(⟨some ⟨g,0,none⟩,c',pats++[wh]⟩:Cu)]).length/\Mg W0.heap.size w9 (.slice (some ⟨g2,0,none⟩) (Xs++[(⟨some ⟨g,0,none⟩,c',pats++[wh]⟩:Cu)]).length c2) (Xs++[(⟨some ⟨g,0,none⟩,c',pats++[wh]⟩:Cu)])):=by
    refine⟨HB.out.trans ((hbB.mono hsz).trans hb9),?_,?_⟩
    ·rw[List.length_append,List.length_singleton,HJE.out,HSU.out,List.map_append,HMM.out,HJE.out];rfl
    ·rw[List.length_append,List.length_singleton];exact hv9
   clear hap hap2 hb8 ho8 hbB ho9 hV8 hpa hg1 hsz hb9 hv9;rw[hM'];go_wp2_with(first
    |(at_builtin;refine An rF _ _ _ rF _ _ _ rF rF HAP.out ?_)
    |(at_builtin;refine An rF _ _ _ rF _ _ _ rF rF HAP2.out ?_))
   go_roundw
   case rel=>
    refine⟨Xs++[(⟨some ⟨g,0,none⟩,c',pats++[wh]⟩:Cu)],_,_,?_,?_,?_,HNX.out⟩
    ·rw[List.length_append,List.length_singleton,HJE.out];omega
    ·rw[List.length_append,List.length_singleton,HJE.out];go_num
    ·rw[List.length_append,List.length_singleton,HJE.out]
   case measure=>simp[intOf];omega
  ·have hje2:j=n:=oM;have e1:¬ (j:Int)<(n:Int):=oM;have hvt:=hvs.vs;rw[hm,hje,hje2]at hvt;have HVT:=A8 hvt;have HBE:Hid (Below w.heap.size w wr):=HW0.out.1.trans (hb.mono HW0.out.1.size);rw[hje];have HJ2:=A8 hje2;clear hvt hvs hm hb HR hlt hje hje2;go_wp2;go_ret;refine⟨_,rfl,?_,HBE.out⟩;rw[HJ2.out];exact HVT.out.mono (fun b _ e=>by have:=HW0.out.2;omega)
theorem YY{v:World}{a:Addr}{x:Value}{B:Nat}(h:v.cell? a=some x)(hne:¬a.block=B):∀u0 u1 u2 u3,((((v.setCell ⟨B,0,none⟩ u0).setCell ⟨B,1,none⟩ u1).setCell ⟨B,2,none⟩ u2).setCell ⟨B,3,none⟩ u3).cell? a=some x:=fun u0 u1 u2 u3=>
 (World.cell?_of_block ((Below.heap_setCell _ _ _ _ hne).trans ((Below.heap_setCell _ _ _ _ hne).trans ((Below.heap_setCell _ _ _ _ hne).trans (Below.heap_setCell _ _ _ _ hne))))).trans h
theorem WK.start{c:Cd}{w1 v:World}{C B SB IB MB q1:Nat}{tag:Nat->Nat}{p1:Option Addr}(hn:J1 w1 c.regs.length C (fun r=>.bool (Ar c.list r)) (fun r=>.int .i64 (r:Int)) B SB IB MB tag v)(hC1:w1.cell? ⟨C,1,none⟩=some (.slice p1 c.regs.length q1))(hr:Bz 2 Kp w1 (.slice p1 c.regs.length q1) c.regs):
 ∃rb ro,WK w1.heap.size c Ci v B C SB IB MB 0 rb ro q1 (.slice none 0 0) (.slice none 0 0) (.slice none 0 0) tag:=by
 have hC:C<w1.heap.size:=A5 hC1;obtain⟨p,q,e,hh⟩:=hr;simp only[Value.slice.injEq]at e;obtain⟨rfl,-,rfl⟩:=e;have nb:∀ (m g:Nat),(Value.slice none 0 0).ownBlock=some g->tag g=m:=fun m g h=>by cases h
 rcases hh with h0|⟨rb,ro,rfl,hc⟩
 ·have hl:c.regs.length=0:=by rw[h0];rfl
  exact⟨0,0,hn.b,fun h=>absurd h oM,fun r h=>absurd h oM,hn.st,hn.ir,hn.map,World.ownsRow_nil _ _ _ 9,World.ownsRow_nil _ _ _ 1,World.ownsRow_nil _ _ _ 7,hC,.inr hl,hn.hB,hn.hS,hn.hI,hn.hM,hn.tB,hn.tS,hn.tI,hn.tM,nb 5,nb 6,nb 7⟩
 ·by_cases h0:c.regs.length=0
  ·exact⟨0,0,hn.b,fun h=>absurd h oM,fun r h=>absurd h oM,hn.st,hn.ir,hn.map,World.ownsRow_nil _ _ _ 9,World.ownsRow_nil _ _ _ 1,World.ownsRow_nil _ _ _ 7,hC,.inr h0,hn.hB,hn.hS,hn.hI,hn.hM,hn.tB,hn.tS,hn.tI,hn.tM,nb 5,nb 6,nb 7⟩
  ·have hrb:rb<w1.heap.size:=by
    have h9:=(hc 0 oM).at 0 (v:=.int .i64 (c.regs[0]'oM).kind) rfl;exact A5 h9
   exact⟨rb,ro,hn.b,fun _=>kc hn.bel hC1,fun r h=>(hc r h).below hn.bel,hn.st,hn.ir,hn.map,World.ownsRow_nil _ _ _ 9,World.ownsRow_nil _ _ _ 1,World.ownsRow_nil _ _ _ 7,hC,.inl hrb,hn.hB,hn.hS,hn.hI,hn.hM,hn.tB,hn.tS,hn.tI,hn.tM,nb 5,nb 6,nb 7⟩
theorem LS(v0 v1 v2 v3:Value)(c:Cd)(hk:Ba c)(w:World)(hv:Cj w v0 v1 v2 v3 c)(hc:(Am c).1≠0):
 Calls prog 9 #[.agg #[v0,v1,v2,v3]] w fun e w'=>e=.returned (.tuple #[.agg #[.slice none 0 0,.slice none 0 0,.slice none 0 0,.slice none 0 0],.int .i64 160])/\Below w.heap.size w w':=by
 have KC:Hid (∀v,Below w.heap.size w v->Calls prog 26 #[.agg #[v0,v1,v2,v3]] v fun e w'=>e=.returned (.tuple #[.int .i64 (Am c).1,.int .i64 (Am c).2])/\Below v.heap.size v w'):=fun v hvv=>L7 v0 v1 v2 v3 c hk v (hv.below hvv);obtain⟨e1,he1⟩:∃e1,(Am c).1=e1:=⟨_,rfl⟩
 obtain⟨e2,he2⟩:∃e2,(Am c).2=e2:=⟨_,rfl⟩
 rw[he1]at hc KC;rw[he2]at KC;have n1:(e1 != 0)=true:=by simpa using hc
 have n2:(e1==0)=false:=by simpa using hc
 obtain⟨p0,q0,rfl⟩:∃p q,v0=.slice p c.sign.length q:=by obtain⟨p,q,e,_⟩:=hv.sign;exact⟨p,q,e⟩
 obtain⟨p1,q1,rfl⟩:∃p q,v1=.slice p c.regs.length q:=by obtain⟨p,q,e,_⟩:=hv.regs;exact⟨p,q,e⟩
 obtain⟨p2,q2,rfl⟩:∃p q,v2=.slice p c.slots.length q:=by obtain⟨p,q,e,_⟩:=hv.slots;exact⟨p,q,e⟩
 obtain⟨p3,q3,rfl⟩:∃p q,v3=.slice p c.list.length q:=by obtain⟨p,q,e,_⟩:=hv.list;exact⟨p,q,e⟩
 obtain⟨W0,hW0⟩:∃W,(w.alloc (.cells #[.slice p0 c.sign.length q0,.slice p1 c.regs.length q1,.slice p2 c.slots.length q2,.slice p3 c.list.length q3] 27)).alloc (.cells #[.slice none 0 0,.slice none 0 0,.slice none 0 0,.slice none 0 0] 27)=W:=⟨_,rfl⟩
 have HB0:Hid (Below w.heap.size w W0):=by rw[←hW0];exact bel (A0 _ _) (A0 _ _)
 have b0:W0.cell? ⟨w.heap.size,0,none⟩=some (.slice p0 c.sign.length q0):=by rw[←hW0];simp[go_sem]
 have b1:W0.cell? ⟨w.heap.size,1,none⟩=some (.slice p1 c.regs.length q1):=by rw[←hW0];simp[go_sem]
 have b2:W0.cell? ⟨w.heap.size,2,none⟩=some (.slice p2 c.slots.length q2):=by rw[←hW0];simp[go_sem]
 have b3:W0.cell? ⟨w.heap.size,3,none⟩=some (.slice p3 c.list.length q3):=by rw[←hW0];simp[go_sem]
 have HR:Hid (W0.rowIs (w.heap.size+1) 27 4 (F7 #[.slice none 0 0,.slice none 0 0,.slice none 0 0,.slice none 0 0])):=by
  show World.rowIs _ _ _ _ _;rw[←hW0];have h9:=Bn (w.alloc (.cells #[.slice p0 c.sign.length q0,.slice p1 c.regs.length q1,.slice p2 c.slots.length q2,.slice p3 c.list.length q3] 27)) #[.slice none 0 0,.slice none 0 0,.slice none 0 0,.slice none 0 0] 27;rw[show(w.alloc (.cells #[.slice p0 c.sign.length q0,.slice p1 c.regs.length q1,.slice p2 c.slots.length q2,.slice p3 c.list.length q3] 27)).heap.size=w.heap.size+1 by simp]at h9;exact h9
 clear hv hk he1 he2;go_enter func9,ntmps9;go_upto_region 1 with fail;try rw[hW0]
 go_wp2_with(go_at_call 26;refine(KC.out _ HB0.out).mono ?_;rintro e w1 ⟨rfl,hb1⟩;have HB1:=A8 hb1;have HR1:=A8 (HR.out.of_block (hb1.block _ HR.out.lt));have r0:w1.cell? ⟨w.heap.size+1,0,none⟩=some (.slice none 0 0):=HR1.out.cell (i:=0) dE;have r1:w1.cell? ⟨w.heap.size+1,1,none⟩=some (.slice none 0 0):=HR1.out.cell (i:=1) dE;have r2:w1.cell? ⟨w.heap.size+1,2,none⟩=some (.slice none 0 0):=HR1.out.cell (i:=2) dE;have r3:w1.cell? ⟨w.heap.size+1,3,none⟩=some (.slice none 0 0):=HR1.out.cell (i:=3) dE;have f0:=HR1.out.frozen 0;have f1:=HR1.out.frozen 1;have f2:=HR1.out.frozen 2;have f3:=HR1.out.frozen 3;clear hb1);refine bodyPost_ret (by simp[results,results9,go_sem, *];try rfl) rfl ?_;have hle:w.heap.size<=w.heap.size+1:=Nat.le_succ _;exact⟨rfl,((((bel HB0.out HB1.out).setCell hle _).setCell hle _).setCell hle _).setCell hle _⟩
theorem GK(v0 v1 v2 v3:Value)(c:Cd)(hk:Ba c)(w:World)(hv:Cj w v0 v1 v2 v3 c)(hc:(Am c).1=0):
 Calls prog 9 #[.agg #[v0,v1,v2,v3]] w fun e w'=>∃u0 u1 u2 u3,e=.returned (.tuple #[.agg #[u0,u1,u2,u3],.int .i64 0])/\Cj w' u0 u1 u2 u3 (AI c)/\X7 w.heap.size w' u0 u1 u2 u3 (AI c)/\Below w.heap.size w w':=by
 obtain⟨hg,htk⟩:=CZ hc;have KC:Hid (∀v,Below w.heap.size w v->Calls prog 26 #[.agg #[v0,v1,v2,v3]] v fun e w'=>e=.returned (.tuple #[.int .i64 0,.int .i64 (Am c).2])/\Below v.heap.size v w'):=fun v hvv=>by have:=L7 v0 v1 v2 v3 c hk v (hv.below hvv);rw[hc]at this;exact this
 obtain⟨e2,he2⟩:∃e2,(Am c).2=e2:=⟨_,rfl⟩
 rw[he2]at KC;have K0:Hid (∀v,Below w.heap.size w v->Calls prog 29 #[v0] v fun e w'=>∃p d,e=.returned (.slice p c.sign.length d)/\w'.ownsRow v.heap.size 73 3 (.slice p c.sign.length d) c.sign.length (AU B0 c.sign)/\Below v.heap.size v w'):=fun v hvv=>(S6 v0 c.sign v (hv.sign.below hvv) (by have:=hg.signL;omega)).mono fun e w' ⟨p,d,h1,h2,h4,h3⟩=>⟨p,d,h1,h4,h3⟩
 have K1:Hid (∀v,Below w.heap.size w v->Calls prog 30 #[v1] v fun e w'=>∃p d,e=.returned (.slice p c.regs.length d)/\w'.ownsRow v.heap.size 46 2 (.slice p c.regs.length d) c.regs.length (AU Kp c.regs)/\Below v.heap.size v w'):=fun v hvv=>(Ug v1 c.regs v (hv.regs.below hvv) (by have:=hg.regsL;omega)).mono fun e w' ⟨p,d,h1,h2,h4,h3⟩=>⟨p,d,h1,h4,h3⟩
 have K2:Hid (∀v,Below w.heap.size w v->Calls prog 31 #[v2] v fun e w'=>∃p d,e=.returned (.slice p c.slots.length d)/\w'.ownsRow v.heap.size 48 5 (.slice p c.slots.length d) c.slots.length (AU MU c.slots)/\Below v.heap.size v w'):=fun v hvv=>(Uf v2 c.slots v (hv.slots.below hvv) (by have:=hg.slotsL;omega)).mono fun e w' ⟨p,d,h1,h2,h4,h3⟩=>⟨p,d,h1,h4,h3⟩
 have HTK:Hid (∀ (j nm:Nat) (hj:j<c.list.length),nm<=j->TU c (Ks c j) c.list[j] nm):=fun j nm hj hnm=>tk_ok hc hk.ibits hj hnm;have HD:Hid (∀i∈c.list,Aa i=true->0<=i.d/\i.d<(c.regs.length:Int)):=fun i hi hs=>by
  obtain⟨L,R,e,t⟩:=F5 htk hi;exact DO t hs
 have HVV:=A8 hv;obtain⟨p0,q0,rfl⟩:∃p q,v0=.slice p c.sign.length q:=by obtain⟨p,q,e,_⟩:=hv.sign;exact⟨p,q,e⟩
 obtain⟨p1,q1,rfl⟩:∃p q,v1=.slice p c.regs.length q:=by obtain⟨p,q,e,_⟩:=hv.regs;exact⟨p,q,e⟩
 obtain⟨p2,q2,rfl⟩:∃p q,v2=.slice p c.slots.length q:=by obtain⟨p,q,e,_⟩:=hv.slots;exact⟨p,q,e⟩
 obtain⟨p3,q3,rfl⟩:∃p q,v3=.slice p c.list.length q:=by obtain⟨p,q,e,_⟩:=hv.list;exact⟨p,q,e⟩
 have hL1:=hg.listL;have KN:Hid (∀ (v:World),Below w.heap.size w v->∀C,v.cell? ⟨C,1,none⟩=some (.slice p1 c.regs.length q1)->v.cell? ⟨C,3,none⟩=some (.slice p3 c.list.length q3)->Calls prog 27 #[.pointer (some ⟨C,0,none⟩)] v fun e w'=>∃B SB IB MB tag rb ro,e=.returned (.pointer (some ⟨B,0,none⟩))/\WK v.heap.size c Ci w' B C SB IB MB 0 rb ro q1 (.slice none 0 0) (.slice none 0 0) (.slice none 0 0) tag/\Below v.heap.size v w'):=fun v hb C h1 h3=>
  (WQ c C q1 q3 p1 p3 v hg.regsL hg.listL h1 h3 (hv.list.below hb) HD.out).mono fun e w' ⟨B,SB,IB,MB,tag,h4,h5⟩=>by
   obtain⟨rb,ro,h6⟩:=WK.start h5 h1 (hv.regs.below hb);exact⟨B,SB,IB,MB,tag,rb,ro,h4,h6,h5.bel⟩
 obtain⟨N0,hN0⟩:∃N,c.sign.length=N:=⟨_,rfl⟩
 obtain⟨N1,hN1⟩:∃N,c.regs.length=N:=⟨_,rfl⟩
 obtain⟨N2,hN2⟩:∃N,c.slots.length=N:=⟨_,rfl⟩
 obtain⟨N3,hN3⟩:∃N,c.list.length=N:=⟨_,rfl⟩
 simp only[hN0,hN1,hN2,hN3]at KC K0 K1 K2 KN hL1 HVV ⊢;have HN:Hid (c.sign.length=N0/\c.regs.length=N1/\c.slots.length=N2/\c.list.length=N3):=⟨hN0,hN1,hN2,hN3⟩
 obtain⟨W0,hW0⟩:∃W,(w.alloc (.cells #[.slice p0 N0 q0,.slice p1 N1 q1,.slice p2 N2 q2,.slice p3 N3 q3] 27)).alloc (.cells #[.slice none 0 0,.slice none 0 0,.slice none 0 0,.slice none 0 0] 27)=W:=⟨_,rfl⟩
 have HB0:Hid (Below w.heap.size w W0):=by rw[←hW0];exact bel (A0 _ _) (A0 _ _)
 have b0:W0.cell? ⟨w.heap.size,0,none⟩=some (.slice p0 N0 q0):=by rw[←hW0];simp[go_sem]
 have b1:W0.cell? ⟨w.heap.size,1,none⟩=some (.slice p1 N1 q1):=by rw[←hW0];simp[go_sem]
 have b2:W0.cell? ⟨w.heap.size,2,none⟩=some (.slice p2 N2 q2):=by rw[←hW0];simp[go_sem]
 have b3:W0.cell? ⟨w.heap.size,3,none⟩=some (.slice p3 N3 q3):=by rw[←hW0];simp[go_sem]
 have HR:Hid (W0.rowIs (w.heap.size+1) 27 4 (F7 #[.slice none 0 0,.slice none 0 0,.slice none 0 0,.slice none 0 0])):=by
  show World.rowIs _ _ _ _ _;rw[←hW0];have h9:=Bn (w.alloc (.cells #[.slice p0 N0 q0,.slice p1 N1 q1,.slice p2 N2 q2,.slice p3 N3 q3] 27)) #[.slice none 0 0,.slice none 0 0,.slice none 0 0,.slice none 0 0] 27;rw[show(w.alloc (.cells #[.slice p0 N0 q0,.slice p1 N1 q1,.slice p2 N2 q2,.slice p3 N3 q3] 27)).heap.size=w.heap.size+1 by simp]at h9;exact h9
 clear hv hk he2 hg htk hc hN0 hN1 hN2 hN3;go_enter func9,ntmps9;go_upto_region 1 with fail;try rw[hW0]
 clear hW0;go_upto_block 0 with(first
  |(go_at_call 26;(with_reducible refine(KC.out _ HB0.out).mono ?_);rintro e w1 ⟨rfl,hb1⟩;have HB1:=A8 (bel HB0.out hb1);have HR1:=A8 (HR.out.of_block (hb1.block _ HR.out.lt));have c0:=kc hb1 b0;have c1:=kc hb1 b1;have c2:=kc hb1 b2;have c3:=kc hb1 b3;clear hb1 b0 b1 b2 b3)
  |(go_at_call 27;(with_reducible refine(KN.out _ HB1.out _ c1 c3).mono ?_);rintro e w2 ⟨B,SB,IB,MB,tag,rb,ro,rfl,hwk,hb2⟩;have HWK:=A8 hwk;have HB2:=A8 hb2;have d0:=kc hb2 c0;have d1:=kc hb2 c1;have d2:=kc hb2 c2;have d3:=kc hb2 c3;clear hb2 hwk))
 obtain⟨E,hE⟩:∃E,w1.heap.size=E:=⟨_,rfl⟩
 have HEN:Hid (w.heap.size+1<E/\w.heap.size<=E):=by rw[←hE];have h9:=HR1.out.lt;exact⟨h9,oM⟩
 rw[hE]at HWK HB2;have HK0:Hid (Below E w1 w2/\∃nm vk vo vl tag,nm<=0/\WK E c (Ks c 0) w2 B w.heap.size SB IB MB nm rb ro q1 vk vo vl tag):=⟨HB2.out,0,_,_,_,_,Nat.le_refl _,HWK.out⟩
 have HE:=A8 hE;clear HWK HB2 KN d0 d1 d2 hE;go_wp2_with fail;clear d3
 go_loopw [21] (fun iv wr=>∃j:Nat,j<=N3/\iv=.int .i64 (j:Int)/\Hid (Below E w1 wr/\∃nm vk vo vl tag,nm<=j/\WK E c (Ks c j) wr B w.heap.size SB IB MB nm rb ro q1 vk vo vl tag)) (fun iv _=>N3-(intOf iv).toNat)
 case atStart=>exact⟨0,Nat.zero_le _,rfl,HK0.out⟩
 case round=>
  clear HK0;obtain⟨j,hj,rfl,HJ⟩:=hrel;have hbE:Below w.heap.size w wr:=HB1.out.trans (HJ.out.1.mono HEN.out.2);have HBE:=A8 hbE;clear hbE;by_cases hlt:j<N3
  ·have hjl:j<c.list.length:=by have:=HN.out;omega
   obtain⟨hbj,nm,vk,vo,vl,tag,hnm,hwk⟩:=HJ.out;obtain⟨lb,lo,rfl,hcl⟩:=(HVV.out.list.below HBE.out).at hjl;have KT:=A8 (fun(v:World) (hv:Below wr.heap.size wr v)=>TL E c (Ks c j) v B w.heap.size SB IB MB nm rb ro q1 vk vo vl tag c.list[j] (hwk.below hv) (HTK.out j nm hjl hnm));have hsu:=Jo hjl;obtain⟨⟨op,d,a,b,e,n,z⟩,hi⟩:∃i,c.list[j]=i:=⟨_,rfl⟩
   rw[hi]at hcl KT hsu;rw[←hsu]at KT;have HLE:=A8 hwk.lt;have HNM:=A8 hnm;have y0:=hcl.at 0 (v:=.int .i64 op) rfl;rw[Nat.add_zero]at y0;have y1:=hcl.at 1 (v:=.int .i64 d) rfl;have y2:=hcl.at 2 (v:=.int .i64 a) rfl;have y3:=hcl.at 3 (v:=.int .i64 b) rfl;have y4:=hcl.at 4 (v:=.int .i64 e) rfl;have y5:=hcl.at 5 (v:=.int .i64 n) rfl;have y6:=hcl.at 6 (v:=.int .u32 z) rfl;have llb:lb<wr.heap.size:=A5 y0;have n9:¬lb=wr.heap.size:=oM;have i1:(0:Int)<=(j:Int):=oM;have i2:(j:Int)<(N3:Int):=oM;have wi:IntKind.i64.wrap ((j:Int)+1)=((j+1:Nat):Int):=by rw[IntKind.wrap_i64];omega
   obtain⟨V2,hV2⟩:∃V,wr.alloc (.cells #[.int .i64 op,.int .i64 d,.int .i64 a,.int .i64 b,.int .i64 e,.int .i64 n,.int .u32 z] 44)=V:=⟨_,rfl⟩
   have HV2:Hid (Below wr.heap.size wr V2):=by rw[←hV2];exact A0 _ _
   have hX2:V2.rowIs wr.heap.size 44 7 (I4 op d a b e n z):=by rw[←hV2];exact Bn wr _ _
   have x0:V2.cell? ⟨wr.heap.size,0,none⟩=some (.int .i64 op):=hX2.cell (i:=0) dE;have x1:V2.cell? ⟨wr.heap.size,1,none⟩=some (.int .i64 d):=hX2.cell (i:=1) dE;have x2:V2.cell? ⟨wr.heap.size,2,none⟩=some (.int .i64 a):=hX2.cell (i:=2) dE;have x3:V2.cell? ⟨wr.heap.size,3,none⟩=some (.int .i64 b):=hX2.cell (i:=3) dE;have x4:V2.cell? ⟨wr.heap.size,4,none⟩=some (.int .i64 e):=hX2.cell (i:=4) dE;have x5:V2.cell? ⟨wr.heap.size,5,none⟩=some (.int .i64 n):=hX2.cell (i:=5) dE;have x6:V2.cell? ⟨wr.heap.size,6,none⟩=some (.int .u32 z):=hX2.cell (i:=6) dE;unfold AV at KT;simp only at KT;clear hwk hcl hi hsu hbj hnm llb hX2;go_wp2_with(go_at_call 28;(with_reducible refine(KT.out _ HV2.out).mono ?_);rintro e9 w4 ⟨rfl,hb4,nm',vk',vo',vl',tag',hn4,hw4⟩;have HB4:=A8 hb4;have HW4:=A8 hw4;have HN4:=A8 hn4;clear hb4 hw4 hn4);go_roundw
   case rel=>
    refine⟨j+1,oM,gN,?_,nm',vk',vo',vl',tag',by have:=HN4.out;have:=HNM.out;omega,HW4.out⟩;exact HJ.out.1.trans ((HV2.out.mono HLE.out).trans HB4.out)
   case measure=>simp[intOf];omega
  ·have e1:¬ (j:Int)<(N3:Int):=oM;have hje:j=c.list.length:=by have:=HN.out;omega
   obtain⟨hbj,nm,vk,vo,vl,tag,hnm,hwk⟩:=HJ.out;have HLF:Hid (wr.ownsRow E 44 7 vl (Cg c).length ((Cg c).flatMap E0)):=by
    have h9:=hwk.left;rw[hje,Xp]at h9;exact h9
   have b6:=hwk.b6;have nB:¬B=w.heap.size+1:=by have:=hwk.hB;have:=HEN.out.1;omega
   have HWL:Hid (w.heap.size+1<wr.heap.size):=by have:=hwk.lt;have h8:=HEN.out.1;show _<_;omega
   have HBX:Hid (∀v,Below wr.heap.size wr v->v.cell? ⟨w.heap.size,0,none⟩=some (.slice p0 N0 q0)/\v.cell? ⟨w.heap.size,1,none⟩=some (.slice p1 N1 q1)/\v.cell? ⟨w.heap.size,2,none⟩=some (.slice p2 N2 q2)/\v.cell? ⟨B,6,none⟩=some vl/\v.rowIs (w.heap.size+1) 27 4 (F7 #[.slice none 0 0,.slice none 0 0,.slice none 0 0,.slice none 0 0])):=fun v hv=>by
    have k:∀ {a:Addr} {x:Value},a.block<E->w1.cell? a=some x->v.cell? a=some x:=fun{a x} ha hx=>kc hv ((World.cell?_of_block (hbj.block a.block ha)).trans hx);have h1:=HEN.out.1;refine⟨k Zhp c0,k Zhp c1,k Zhp c2,kc hv b6,?_⟩;have h2:=HR1.out.of_block (hbj.block _ h1);exact h2.of_block (hv.block _ h2.lt)
   obtain⟨g0,g1,g2,g6,-⟩:=HBX.out wr (Be _);obtain⟨pl,nl,ql,rfl⟩:∃p n q,vl=.slice p n q:=by obtain⟨p,q,e⟩:=AK HLF.out;exact⟨p,_,q,e⟩
   clear hlt hwk hbj hnm hje b6 HJ c0 c1 c2 c3 HR HR1 HTK HD KC;go_wp2;refine rG (fun v=>v.cell? ⟨w.heap.size,0,none⟩=some (.slice p0 N0 q0)/\v.cell? ⟨w.heap.size,1,none⟩=some (.slice p1 N1 q1)/\v.cell? ⟨w.heap.size,2,none⟩=some (.slice p2 N2 q2)/\v.cell? ⟨B,6,none⟩=some (.slice pl nl ql)) fun hHeld=>?_;refine Tf 0 1 3 4 6 7 ?_;refine Tc 9 10 11 ?_;refine Bq 12 ?_;clear hHeld;refine AC 2 fun K hK=>?_;go_simp;(go_at_call 29;(with_reducible refine(K0.out _ (bel HBE.out (C5 _))).mono ?_);rintro e u1 ⟨s0,d0,rfl,hr0,hb2⟩;have HR0:=A8 hr0;have HU1:Hid (Below wr.heap.size wr u1):=bel (C5 _) hb2;obtain⟨g0,g1,g2,g6,-⟩:=HBX.out u1 HU1.out;clear hr0 hb2);try(go_wp2_with fail)
   refine Ax hK fun hHeld=>?_;clear hK K;clear hHeld;refine AC 5 fun K hK=>?_;go_simp;(go_at_call 30;(with_reducible refine(K1.out _ (bel HBE.out HU1.out)).mono ?_);rintro e u2 ⟨s1,d1,rfl,hr1,hb2⟩;have HR1:=A8 hr1;have HU2:=A8 hb2;obtain⟨g0,g1,g2,g6,-⟩:=HBX.out u2 (bel HU1.out HU2.out);clear hr1 hb2);try(go_wp2_with fail)
   refine Ax hK fun hHeld=>?_;clear hK K;clear hHeld;refine AC 8 fun K hK=>?_;go_simp;(go_at_call 31;(with_reducible refine(K2.out _ (bel HBE.out (bel HU1.out HU2.out))).mono ?_);rintro e u3 ⟨s2,d2,rfl,hr2,hb2⟩;have HR2:=A8 hr2;have HU3:=A8 hb2;obtain⟨g0,g1,g2,g6,hrw⟩:=HBX.out u3 (bel HU1.out (bel HU2.out HU3.out));have HRW:=A8 hrw;have kB:=YY g6 nB;have r0:u3.cell? ⟨w.heap.size+1,0,none⟩=some (.slice none 0 0):=hrw.cell (i:=0) dE;have r1:u3.cell? ⟨w.heap.size+1,1,none⟩=some (.slice none 0 0):=hrw.cell (i:=1) dE;have r2:u3.cell? ⟨w.heap.size+1,2,none⟩=some (.slice none 0 0):=hrw.cell (i:=2) dE;have r3:u3.cell? ⟨w.heap.size+1,3,none⟩=some (.slice none 0 0):=hrw.cell (i:=3) dE;have f0:=hrw.frozen 0;have f1:=hrw.frozen 1;have f2:=hrw.frozen 2;have f3:=hrw.frozen 3;clear hr2 hb2 hrw);try(go_wp2_with fail)
   refine Ax hK fun hHeld=>?_;clear hK K;refine Bq 13 ?_;clear hHeld;refine AC 14 fun K hK=>?_;go_simp;refine Ax hK fun hHeld=>?_;clear hK K;refine Bq 15 ?_;refine wpAnyH_done kR ?_ _;go_wp2;refine bodyPost_ret (by simp[results,results9,go_sem, *];try rfl) rfl ?_;obtain⟨rfl,rfl,rfl,rfl⟩:=HN.out;have k4:∀b,b≠w.heap.size+1->((((u3.setCell ⟨w.heap.size+1,0,none⟩ (.slice s0 c.sign.length d0)).setCell ⟨w.heap.size+1,1,none⟩ (.slice s1 c.regs.length d1)).setCell ⟨w.heap.size+1,2,none⟩ (.slice s2 c.slots.length d2)).setCell ⟨w.heap.size+1,3,none⟩ (.slice pl nl ql)).heap[b]? =u3.heap[b]? :=fun b hb=>(Below.heap_setCell _ _ _ _ hb).trans ((Below.heap_setCell _ _ _ _ hb).trans ((Below.heap_setCell _ _ _ _ hb).trans (Below.heap_setCell _ _ _ _ hb)));have hwl:=HWL.out;have l1:=HU1.out.size;have l2:=HU2.out.size;have o0:=Ad (Au HR0.out (bel HU2.out HU3.out)) (fun g hg=>k4 g (by have h9:=(HR0.out.lt g hg).1;have h8:wr.heap.size<=g:=h9;omega));have o1:=Ad (Au HR1.out HU3.out) (fun g hg=>k4 g (by have h9:=(HR1.out.lt g hg).1;omega));have o2:=Ad HR2.out (fun g hg=>k4 g (by have h9:=(HR2.out.lt g hg).1;omega));have o3:=Ad (Au HLF.out (bel HU1.out (bel HU2.out HU3.out))) (fun g hg=>k4 g (by have h9:=(HLF.out.lt g hg).1;have:=HEN.out;omega));have hO:X7 w.heap.size _ (.slice s0 c.sign.length d0) (.slice s1 c.regs.length d1) (.slice s2 c.slots.length d2) (.slice pl nl ql) (AI c):=⟨Bu o0 (by have h8:wr.drew.heap.size=wr.heap.size:=rfl;omega),Bu o1 oM,Bu o2 oM,Bu o3 HEN.out.2⟩
   have hle:w.heap.size<=w.heap.size+1:=Nat.le_succ _;exact⟨_,_,_,_,rfl,⟨Cw EZ hO.sign,Cw Gn hO.regs,Cw Ht hO.slots,Cw Ge hO.list⟩,hO,((((bel HBE.out (bel HU1.out (bel HU2.out HU3.out))).setCell hle _).setCell hle _).setCell hle _).setCell hle _⟩
theorem RP{c:Cd}{l:List Ac}(h:AE c ⟨[],[]⟩ l=true){k:Nat}(hk:k<l.length):
 (∀y,(AP l).1[k]? =some y->l[k].op≠35->GF [] (AP (l.take k)).2 y)/\(∀x y:Int,GF [] (AP (l.take k)).2 x->0<=x->(AP l).1[x.toNat]? =some y->GF [] (AP (l.take k)).2 y)/\(∀i (hi:i<k),twP l[i]->∀y,(AP l).1[i]? =some y->GF [] (AP (l.take k)).2 y->DV c l[i]∈(Jm c (l.take k)).1):=by
 have hb:=Zf (Ua h) k (Nat.le_of_lt hk);have hlk:(l.take k).length=k:=by rw[List.length_take];omega
 refine⟨fun y hy h35=>?_,fun x y hx h0 hy=>?_,fun i hi tw y hy hc=>?_⟩
 ·have h1:=Mi l (k+1) oM k oM;rw[←h1,List.take_succ_eq_append_getElem hk,Ga]at hy;unfold FJ at hy;simp only at hy;rw[List.getElem?_append_right (by rw[hb.len,hlk];exact Nat.le_refl _),hb.len,hlk,Nat.sub_self,if_neg h35]at hy;simp only[List.getElem?_cons_zero,Option.some.injEq]at hy;rw[←hy];rcases List.eq_nil_or_concat (AP (l.take k)).2 with e|⟨S1,s,e⟩
  ·rw[e];exact .inl El
  ·rw[List.concat_eq_append]at e;rw[e];exact .inr ⟨s,sM,Dt _ _⟩
 ·rcases hx with e|⟨s,hs,e⟩
  ·omega
  ·have hsk:s<k:=by have:=hb.lt s hs;rw[hlk]at this;exact this
   rw[e]at hy;simp only[Int.toNat_natCast]at hy;rw[←Mi l k oM s hsk]at hy;exact Ue hb (x:=(s:Int)) (.inr ⟨s,hs,rfl⟩) oM (by rw[Int.toNat_natCast];exact hy)
 ·rw[←Mi l k oM i hi]at hy;have e:(l.take k)[i]'oM=l[i]:=sM;have h9:=hb.abv (AP (l.take k)).2.length (Nat.le_refl _) i oM (by rw[e];exact tw) (by
   rcases hc with q|⟨s,hs,q⟩
   ·exact .inl (by rw[hy,q])
   ·exact .inr ⟨s,by rw[List.take_length];exact hs,by rw[hy,q]⟩)
  rw[EV hb.so,List.take_length,e]at h9;exact h9
theorem Nn(v0 v1 v2 v3:Value)(c:Cd)(hg:Good c)(htk:AE c ⟨[],[]⟩ c.list=true)(hcl:I6 c c.list)(w:World)(hv:Cj w v0 v1 v2 v3 c):
 Calls prog 17 #[.agg #[v0,v1,v2,v3]] w fun e w'=>e=.returned (.bool true)/\Below w.heap.size w w':=by
 have hd:∀i∈c.list,Aa i=true->0<=i.d/\i.d<(c.regs.length:Int):=fun i hi hs=>by
  obtain⟨L,R,e,t⟩:=F5 htk hi;exact DO t hs
 have HFT:Hid (∀i∈c.list,AJ c i (A4 i.op)=true):=fun i hi=>by
  obtain⟨L,R,e,t⟩:=F5 htk hi;exact(Ah t).2.1
 have KB:=A8 (fun(v:World) (h:Below w.heap.size w v)=>Nl v0 v1 v2 v3 c hg.listL v (hv.below h));have KT:=A8 (fun(v:World) (h:Below w.heap.size w v) (i k:Nat) (hi:i<c.list.length) (hk:k<c.list.length)=>OI v0 v1 v2 v3 c hd hg.regsL hg.listL i k hi hk v (hv.below h));have KA:Hid (∀ (k:Nat) (hk:k<c.list.length) (i:Nat) (hi:i<k) (g q:Nat) (v:World),OH c (c.list[i]'oM) c.list[k]=true->(∀v',Below v.heap.size v v'->∀ (j:Nat) (h:j<(AP c.list).1.length),v'.cell? ⟨g,j,none⟩=some (.int .i64 (AP c.list).1[j]))->Calls prog 39 #[.slice (some ⟨g,0,none⟩) c.list.length q,.int .i64 (i:Int),.int .i64 (k:Int)] v fun e w'=>e=.returned (.bool false)/\Below v.heap.size v w'):=fun k hk i hi g q v ht hr=>by
  obtain⟨t1,t2,t3⟩:=WG ht;obtain⟨a1,a2,a3⟩:=RP htk hk;have hbi:=Zf (Ua htk) c.list.length (Nat.le_refl _);rw[List.take_length]at hbi;have hln:=GV c.list;have hL:=hg.listL;have h9:=N7 (AP c.list).1 (GF [] (AP (c.list.take k)).2) hbi.low a2 i k hi (by rw[hln];exact hk) (by rw[hln];exact hL) (fun y hy=>a1 y hy (by have:=Ft t2.2;omega)) g q v hr;rw[hln]at h9;refine h9.mono ?_;rintro e w' ⟨b,rfl,h1,h2⟩;have hb:b=false:=by
   cases b with
   |false=>rfl
   |true=>
    obtain⟨y,hy,hq⟩:=h1 rfl;have h3:=a3 i hi t1 y hy hq;rw[t3]at h3;exact absurd h3 ((hcl k hk).2 t2)
  rw[hb];exact⟨rfl,h2⟩
 obtain⟨p0,n0,q0,rfl⟩:∃p n q,v0=.slice p n q:=by obtain⟨p,q,e,_⟩:=hv.sign;exact⟨p,_,q,e⟩
 obtain⟨p1,q1,rfl⟩:∃p q,v1=.slice p c.regs.length q:=by obtain⟨p,q,e,_⟩:=hv.regs;exact⟨p,q,e⟩
 obtain⟨p2,n2,q2,rfl⟩:∃p n q,v2=.slice p n q:=by obtain⟨p,q,e,_⟩:=hv.slots;exact⟨p,_,q,e⟩
 obtain⟨p3,q3,rfl⟩:∃p q,v3=.slice p c.list.length q:=by obtain⟨p,q,e,_⟩:=hv.list;exact⟨p,q,e⟩
 have HVV:=A8 hv;have HCL:=A8 (And.intro hcl hd);have hL:=hg.listL;have hR:=hg.regsL;obtain⟨N1,hN1⟩:∃N,c.regs.length=N:=⟨_,rfl⟩
 obtain⟨N3,hN3⟩:∃N,c.list.length=N:=⟨_,rfl⟩
 have HN:=A8 (And.intro hN1 hN3);simp only[hN1]at KB KT HVV hR HCL ⊢;simp only[hN3]at KB KT KA HVV hL ⊢;obtain⟨W0,hW0⟩:∃W,w.alloc (.cells #[.slice p0 n0 q0,.slice p1 N1 q1,.slice p2 n2 q2,.slice p3 N3 q3] 27)=W:=⟨_,rfl⟩
 have HW0:Hid (Below w.heap.size w W0):=by rw[←hW0];exact A0 _ _
 have k0:W0.cell? ⟨w.heap.size,0,none⟩=some (.slice p0 n0 q0):=by rw[←hW0];simp[go_sem]
 have k1:W0.cell? ⟨w.heap.size,1,none⟩=some (.slice p1 N1 q1):=by rw[←hW0];simp[go_sem]
 have k2:W0.cell? ⟨w.heap.size,2,none⟩=some (.slice p2 n2 q2):=by rw[←hW0];simp[go_sem]
 have k3:W0.cell? ⟨w.heap.size,3,none⟩=some (.slice p3 N3 q3):=by rw[←hW0];simp[go_sem]
 have HK4:Hid (∀v,Below W0.heap.size W0 v->v.cell? ⟨w.heap.size,0,none⟩=some (.slice p0 n0 q0)/\v.cell? ⟨w.heap.size,1,none⟩=some (.slice p1 N1 q1)/\v.cell? ⟨w.heap.size,2,none⟩=some (.slice p2 n2 q2)/\v.cell? ⟨w.heap.size,3,none⟩=some (.slice p3 N3 q3)):=fun v hb=>⟨kc hb k0,kc hb k1,kc hb k2,kc hb k3⟩
 clear hv hd hcl hg htk;go_enter func17,ntmps17;go_upto_region 1 with fail;try rw[hW0]
 clear hW0;go_upto_block 0 with(go_at_call 37;(with_reducible refine(KB.out _ HW0.out).mono ?_);rintro e w1 ⟨pb,qb,rfl,hob,hb1⟩;have HOB:=A8 hob;have HB1:=A8 hb1;obtain⟨l0,l1,l2,l3⟩:=HK4.out w1 hb1;clear hob hb1)
 clear k0 k1 k2 k3;go_wp2_with fail;clear l0 l1 l2 l3
 go_loopw [4] (fun iv wr=>∃k:Nat,k<=N3/\iv=.int .i64 (k:Int)/\Hid (Below w1.heap.size w1 wr)) (fun iv _=>N3-(intOf iv).toNat)
 case atStart=>exact⟨0,Nat.zero_le _,rfl,Be _⟩
 case round=>
  obtain⟨k,hk,rfl,HK⟩:=hrel;obtain⟨b0,b1,b2,b3⟩:=HK4.out wr (bel HB1.out HK.out);have HBW:Hid (Below w.heap.size w wr):=bel HW0.out (bel HB1.out HK.out);by_cases hlt:k<N3
  ·have hkl:k<c.list.length:=by rw[HN.out.2];exact hlt
   obtain⟨lb,lo,hp3,hcl⟩:=(HVV.out.list.below HBW.out).at hkl;have hca:=(HCL.out.1 k hkl).1;have hdi:=HCL.out.2 _ (List.getElem_mem hkl);have hft:=HFT.out _ (List.getElem_mem hkl);obtain⟨⟨op,d,a,b,e,n,z⟩,hi⟩:∃i,c.list[k]=i:=⟨_,rfl⟩
   rw[hi]at hcl hca hdi hft;simp only at hca hdi;rw[hp3]at b3;have y0:=hcl.at 0 (v:=.int .i64 op) rfl;rw[Nat.add_zero]at y0;have y1:=hcl.at 1 (v:=.int .i64 d) rfl;have y2:=hcl.at 2 (v:=.int .i64 a) rfl;have y3:=hcl.at 3 (v:=.int .i64 b) rfl;have y4:=hcl.at 4 (v:=.int .i64 e) rfl;have y5:=hcl.at 5 (v:=.int .i64 n) rfl;have y6:=hcl.at 6 (v:=.int .u32 z) rfl;have i1:(0:Int)<=(k:Int):=oM;have i2:(k:Int)<(N3:Int):=oM;have wi:IntKind.i64.wrap ((k:Int)+1)=((k+1:Nat):Int):=by rw[IntKind.wrap_i64];omega
   obtain⟨V2,hV2⟩:∃V,wr.alloc (.cells #[.int .i64 op,.int .i64 d,.int .i64 a,.int .i64 b,.int .i64 e,.int .i64 n,.int .u32 z] 44)=V:=⟨_,rfl⟩
   have HV2:Hid (Below wr.heap.size wr V2):=by rw[←hV2];exact A0 _ _
   have hX2:V2.rowIs wr.heap.size 44 7 (I4 op d a b e n z):=by rw[←hV2];exact Bn wr _ _
   have x0:V2.cell? ⟨wr.heap.size,0,none⟩=some (.int .i64 op):=hX2.cell (i:=0) dE;have x1:V2.cell? ⟨wr.heap.size,1,none⟩=some (.int .i64 d):=hX2.cell (i:=1) dE;have x2:V2.cell? ⟨wr.heap.size,2,none⟩=some (.int .i64 a):=hX2.cell (i:=2) dE;obtain⟨g,cap,e9,-⟩:=HOB.out.form oM;simp only[Value.slice.injEq]at e9;obtain⟨rfl,-,rfl⟩:=e9;have HCE:Hid (∀v v',Below w1.heap.size w1 v->Below v.heap.size v v'->∀ (j:Nat) (h:j<(AP c.list).1.length),v'.cell? ⟨g,j,none⟩=some (.int .i64 (AP c.list).1[j])):=fun v v' hb hb' j h=>by
    have h9:=Au HOB.out (bel hb hb');have h8:=GV c.list;rw[h9.cellAt j (by rw[h8,HN.out.2]at h;omega)];unfold Kv;rw[List.getElem?_map,List.getElem?_eq_getElem h];rfl
   have HKL:=A8 hkl;clear hX2 hcl hi;go_upto_region 6 with fail;try rw[hV2]
   go_cut [38] (fun tv wx=>tv=.bool false/\Hid (Below wr.heap.size wr wx))
   case first=>
    by_cases o3:op=3
    ·subst o3;obtain⟨d0,d1⟩:=hdi (by show decide ((A4 3).d≠0)=true;decide);obtain⟨a0,a1⟩:=Ae (BD hft) (by show(A4 3).a≠0;decide);simp only at a0 a1;rw[HN.out.1]at a1;obtain⟨D,rfl⟩:=Int.eq_ofNat_of_zero_le d0;obtain⟨A,rfl⟩:=Int.eq_ofNat_of_zero_le a0;have hD:D<c.regs.length:=by rw[HN.out.1];omega
     have hA:A<c.regs.length:=by rw[HN.out.1];omega
     have hne:=hca rfl;rw[DH hD,DH hA]at hne;have hrr:=HVV.out.regs.below (bel HBW.out HV2.out);obtain⟨rb,ro,hp1,hcD⟩:=hrr.at hD;obtain⟨rb',ro',hp1',hcA⟩:=hrr.at hA;rw[hp1]at hp1';simp only[Option.some.injEq,Addr.mk.injEq,and_true]at hp1';obtain⟨rfl,rfl⟩:=hp1';have c1:=kc HV2.out b1;rw[hp1]at c1;obtain⟨⟨kd,pd⟩,htd⟩:∃t,c.regs[D]=t:=⟨_,rfl⟩
     obtain⟨⟨ka,pa⟩,hta⟩:∃t,c.regs[A]=t:=⟨_,rfl⟩
     rw[htd]at hcD hne;rw[hta]at hcA hne;have u0:=hcD.at 0 (v:=.int .i64 kd) rfl;have u1:=hcD.at 1 (v:=.int .i64 pd) rfl;have v0':=hcA.at 0 (v:=.int .i64 ka) rfl;have v1':=hcA.at 1 (v:=.int .i64 pa) rfl;rw[Nat.add_zero]at u0 v0';have heq:=Pg ka pa kd pd;rw[decide_eq_false hne]at heq;have j1:(0:Int)<=(D:Int):=oM;have j2:(D:Int)<(N1:Int):=oM;have j3:(0:Int)<=(A:Int):=oM;have j4:(A:Int)<(N1:Int):=oM;clear htd hta hcD hcA hrr hne hdi hft hca b0 b1 b2 b3 y0 y1 y2 y3 y4 y5 y6 hV2;refine rG (fun v=>v.cell? ⟨wr.heap.size,0,none⟩=some (.int .i64 3)/\v.cell? ⟨wr.heap.size,1,none⟩=some (.int .i64 (D:Int))/\v.cell? ⟨wr.heap.size,2,none⟩=some (.int .i64 (A:Int))/\v.cell? ⟨w.heap.size,1,none⟩=some (.slice (some ⟨rb,ro,none⟩) N1 q1)/\v.cell? ⟨rb,ro+D*2,none⟩=some (.int .i64 kd)/\v.cell? ⟨rb,ro+D*2+1,none⟩=some (.int .i64 pd)/\v.cell? ⟨rb,ro+A*2,none⟩=some (.int .i64 ka)/\v.cell? ⟨rb,ro+A*2+1,none⟩=some (.int .i64 pa)) fun hHeld=>?_;refine Tf 0 1 2 3 4 5 ?_;refine Tf 6 7 8 9 10 11 ?_;refine Tf 12 13 14 15 16 17 ?_;refine wpAnyH_done kR ?_ _;go_wp2;go_meet;exact⟨rfl,bel HV2.out (A6 _)⟩
    ·have f3:(op==3)=false:=by simpa using o3
     clear hdi hft hca b0 b1 b2 b3 y0 y1 y2 y3 y4 y5 y6 hV2 o3;refine rG (fun v=>v.cell? ⟨wr.heap.size,0,none⟩=some (.int .i64 op)) fun hHeld=>?_;refine Tc 0 1 2 ?_;refine Bq 3 ?_;refine Kd 4 5 6 7 ?_;refine Kd 8 9 10 11 ?_;refine Kd 12 13 14 15 ?_;refine Da 16 ?_;refine Bq 17 ?_;refine wpAnyH_done kR ?_ _;go_wp2;go_meet;exact⟨rfl,bel HV2.out (A6 _)⟩
   case rest=>
    obtain⟨rfl,HC6⟩:=hcut;clear hdi hft hca b0 b1 b2 b3 y0 y1 y2 y3 y4 y5 y6 hV2 x0 x1 x2 HV2 hp3;rename World=>V3;have HB6:Hid (Below w1.heap.size w1 V3):=bel HK.out HC6.out;go_upto_block 2 with fail;go_wp2_with fail
    go_loopw [6] (fun iv wr=>∃i:Nat,i<=k/\iv=.int .i64 (i:Int)/\Hid (Below w1.heap.size w1 wr)) (fun iv _=>k-(intOf iv).toNat)
    case atStart=>exact⟨0,Nat.zero_le _,rfl,HB6.out⟩
    case round=>
     obtain⟨i,hi,rfl,HI⟩:=hrel;by_cases hil:i<k
     ·obtain⟨m0,m1,m2,m3⟩:=HK4.out wr (bel HB1.out HI.out);have KTI:=A8 (KT.out wr (bel HW0.out (bel HB1.out HI.out)) i k oM hlt);have KAI:=A8 (fun(v:World) (hb:Below wr.heap.size wr v) (ht:OH c (c.list[i]'(by rw[HN.out.2];omega)) (c.list[k]'HKL.out)=true)=>KA.out k hlt i hil g qb v ht (fun v' hv'=>HCE.out v v' (bel HI.out hb) hv'));obtain⟨TB,hTB⟩:∃x,OH c (c.list[i]'(by rw[HN.out.2];omega)) (c.list[k]'HKL.out)=x:=⟨_,rfl⟩
      rw[hTB]at KTI KAI;have j1:(i:Int)<(k:Int):=oM;have wj:IntKind.i64.wrap ((i:Int)+1)=((i+1:Nat):Int):=by rw[IntKind.wrap_i64];omega
      clear hTB;cases TB with
      |false=>
       go_wp2_with(go_at_call 38;(with_reducible refine KTI.out.mono ?_);rintro e9 w4 ⟨rfl,hb4⟩;have HB4:=A8 hb4;clear hb4);go_roundw
       case rel=>exact⟨i+1,oM,gN,bel HI.out HB4.out⟩
       case measure=>simp[intOf];omega
      |true=>
       go_wp2_with(first
        |(go_at_call 38;(with_reducible refine KTI.out.mono ?_);rintro e9 w4 ⟨rfl,hb4⟩;have HB4:=A8 hb4;clear hb4)
        |(go_at_call 39;(with_reducible refine(KAI.out _ HB4.out fT).mono ?_);rintro e9 w5 ⟨rfl,hb5⟩;have HB5:=A8 hb5;clear hb5))
       go_roundw
       case rel=>exact⟨i+1,oM,gN,bel HI.out (bel HB4.out HB5.out)⟩
       case measure=>simp[intOf];omega
     ·have e1:¬ (i:Int)<(k:Int):=oM;clear hil;go_wp2;go_roundw
      case rel=>exact⟨k+1,oM,gN,HI.out⟩
      case measure=>simp[intOf];omega
  ·have hje:k=N3:=oM;have e1:¬ (k:Int)<(N3:Int):=oM;clear hlt hje;go_wp2;go_ret;exact⟨rfl,HBW.out⟩
end Go.Proofs.YtcdpmgldkibfiaaGreat
