import Derived.Test.YtcdpmgldkibfiaaGreatMns22
import Derived.Deep.CutBlock
import Derived.Deep.DeepCutAuto
import Derived.Test.YtcdpmgldkibfiaaGreatMns1
import Derived.Test.YtcdpmgldkibfiaaGreatMns18
import Derived.Test.YtcdpmgldkibfiaaGreatMns7
import Derived.Test.YtcdpmgldkibfiaaGreatMns19
namespace Go.Proofs.YtcdpmgldkibfiaaGreat
open Go.RowKit Go.Proofs.Tryz
set_option linter.all false
set_option maxRecDepth 100000
set_option maxHeartbeats 16000000
theorem Py{T:Nat->Prop}(p0 p1 p2 p3 p5 p6 p7 p8:Option Addr)(n0 q0 n1 q1 n2 q2 n3 q3 n5 q5 n6 q6 n7 q7 n8 q8:Nat)(ct:Int)(pr:Option Addr)(qr:Nat)(X:List Cl)(N:Nat)(hN:X.length=N)(hX:N<=16384)(op:Int)(o1:3<=op)(o2:op<=15)(nn bt:Int)(kd ka kb kk:Nat)(hd:kd<N)(w:World)(hT:∀b,T b->b<w.heap.size)(hcs:AO T w (.slice pr N qr) X)(HV:Hd)(hel:∀v,Below w.heap.size w v->w.heap.size+1+1+1<v.heap.size->Calls prog 92 #[.agg #[(.slice p0 n0 q0),(.slice p1 n1 q1),(.slice p2 n2 q2),(.slice p3 n3 q3),.slice pr N qr,(.slice p5 n5 q5),(.slice p6 n6 q6),(.slice p7 n7 q7),(.slice p8 n8 q8),(.int .i64 ct)],.agg #[.int .i64 op,.int .i64 (kd:Int),.int .i64 (ka:Int),.int .i64 (kb:Int),.int .i64 (kk:Int),.int .i64 nn,.int .u32 bt]] v fun e w'=>∃x:Cl,e=.returned (.agg #[.slice x.p x.h.pats.length x.q,.int .i64 x.h.whole])/\x.h=HV/\B0 (T2 w T) w' x.p x.h.pats/\Below v.heap.size v w'):
 Calls prog 72 #[.agg #[(.slice p0 n0 q0),(.slice p1 n1 q1),(.slice p2 n2 q2),(.slice p3 n3 q3),.slice pr N qr,(.slice p5 n5 q5),(.slice p6 n6 q6),(.slice p7 n7 q7),(.slice p8 n8 q8),(.int .i64 ct)],.agg #[.int .i64 op,.int .i64 (kd:Int),.int .i64 (ka:Int),.int .i64 (kb:Int),.int .i64 (kk:Int),.int .i64 nn,.int .u32 bt]] w fun e w'=>∃p9 q9 x,e=.returned (.agg #[(.slice p0 n0 q0),(.slice p1 n1 q1),(.slice p2 n2 q2),(.slice p3 n3 q3),.slice p9 N q9,(.slice p5 n5 q5),(.slice p6 n6 q6),(.slice p7 n7 q7),(.slice p8 n8 q8),(.int .i64 ct)])/\x.h=HV/\AO T w' (.slice p9 N q9) (X.set kd x)/\Below w.heap.size w w':=by
 have HPUT:Hid (∀v F I D (x:Cl),DW w F I D v->B0 (T2 w T) v x.p x.h.pats->Calls prog 100 #[.slice pr N qr,.int .i64 (kd:Int),.agg #[.slice x.p x.h.pats.length x.q,.int .i64 x.h.whole]] v fun e w'=>∃p q,e=.returned (.slice p N q)/\AO (T2 w T) w' (.slice p N q) (X.set kd x)/\Below v.heap.size v w'):=BF (.slice pr N qr) X hN hX kd hd w hT hcs;have HT2:Hid (∀v:World,w.heap.size+1+1+1<v.heap.size->∀b,T2 w T b->b<v.heap.size):=fun v hv b hb=>D7 hT hb hv;have HEL:Hid (∀v,Below w.heap.size w v->w.heap.size+1+1+1<v.heap.size->Calls prog 92 #[.agg #[(.slice p0 n0 q0),(.slice p1 n1 q1),(.slice p2 n2 q2),(.slice p3 n3 q3),.slice pr N qr,(.slice p5 n5 q5),(.slice p6 n6 q6),(.slice p7 n7 q7),(.slice p8 n8 q8),(.int .i64 ct)],.agg #[.int .i64 op,.int .i64 (kd:Int),.int .i64 (ka:Int),.int .i64 (kb:Int),.int .i64 (kk:Int),.int .i64 nn,.int .u32 bt]] v fun e w'=>∃x:Cl,e=.returned (.agg #[.slice x.p x.h.pats.length x.q,.int .i64 x.h.whole])/\x.h=HV/\B0 (T2 w T) w' x.p x.h.pats/\Below v.heap.size v w'):=hel;have on1:(op==1)=false:=by have:op≠1:=oM;simpa using this
 have on2:(op==2)=false:=by have:op≠2:=oM;simpa using this
 have HD0:Hid (DW w (CJ (.slice p0 n0 q0) (.slice p1 n1 q1) (.slice p2 n2 q2) (.slice p3 n3 q3) (.slice pr N qr) (.slice p5 n5 q5) (.slice p6 n6 q6) (.slice p7 n7 q7) (.slice p8 n8 q8) (.int .i64 ct)) (f7 (.int .i64 op) (.int .i64 (kd:Int)) (.int .i64 (ka:Int)) (.int .i64 (kb:Int)) (.int .i64 (kk:Int)) (.int .i64 nn) (.int .u32 bt)) (f2 (.slice none 0 0) (.int .i64 0)) _):=DW.start w (.slice p0 n0 q0) (.slice p1 n1 q1) (.slice p2 n2 q2) (.slice p3 n3 q3) (.slice pr N qr) (.slice p5 n5 q5) (.slice p6 n6 q6) (.slice p7 n7 q7) (.slice p8 n8 q8) (.int .i64 ct) (.int .i64 op) (.int .i64 (kd:Int)) (.int .i64 (ka:Int)) (.int .i64 (kb:Int)) (.int .i64 (kk:Int)) (.int .i64 nn) (.int .u32 bt);clear hT hcs hN hel;go_enter func72,ntmps72;go_upto_block 0 with fail;go_cut [] (fun wx=>∃x:Cl,Hid (x.h=HV)/\Hid (DW w (CJ (.slice p0 n0 q0) (.slice p1 n1 q1) (.slice p2 n2 q2) (.slice p3 n3 q3) (.slice pr N qr) (.slice p5 n5 q5) (.slice p6 n6 q6) (.slice p7 n7 q7) (.slice p8 n8 q8) (.int .i64 ct)) (f7 (.int .i64 op) (.int .i64 (kd:Int)) (.int .i64 (ka:Int)) (.int .i64 (kb:Int)) (.int .i64 (kk:Int)) (.int .i64 nn) (.int .u32 bt)) (f2 (.slice x.p x.h.pats.length x.q) (.int .i64 x.h.whole)) wx)/\Hid (B0 (T2 w T) wx x.p x.h.pats))
 case first=>
  obtain⟨W,hW⟩:∃W,((((w.alloc (.cells #[(.slice p0 n0 q0),(.slice p1 n1 q1),(.slice p2 n2 q2),(.slice p3 n3 q3),.slice pr N qr,(.slice p5 n5 q5),(.slice p6 n6 q6),(.slice p7 n7 q7),(.slice p8 n8 q8),(.int .i64 ct)] 137)).alloc (.cells #[.int .i64 op,.int .i64 (kd:Int),.int .i64 (ka:Int),.int .i64 (kb:Int),.int .i64 (kk:Int),.int .i64 nn,.int .u32 bt] 44)).alloc (.cells #[.slice none 0 0,.slice none 0 0,.slice none 0 0,.slice none 0 0,.slice none 0 0,.slice none 0 0,.slice none 0 0,.slice none 0 0,.slice none 0 0,.int .i64 0] 137)).alloc (.cells #[.slice none 0 0,.int .i64 0] 94))=W:=⟨_,rfl⟩
  rw[hW]at HD0;rw[hW];clear hW;have hsz:=HD0.out.size;have f0:W.cell? ⟨w.heap.size,4,none⟩=some (.slice pr N qr):=HD0.out.f.cell (i:=4) dE;have i0:W.cell? ⟨w.heap.size+1,0,none⟩=some (.int .i64 op):=HD0.out.i.cell (i:=0) dE;have i1:W.cell? ⟨w.heap.size+1,1,none⟩=some (.int .i64 (kd:Int)):=HD0.out.i.cell (i:=1) dE;have i2:W.cell? ⟨w.heap.size+1,2,none⟩=some (.int .i64 (ka:Int)):=HD0.out.i.cell (i:=2) dE;have i3:W.cell? ⟨w.heap.size+1,3,none⟩=some (.int .i64 (kb:Int)):=HD0.out.i.cell (i:=3) dE;have i4:W.cell? ⟨w.heap.size+1,4,none⟩=some (.int .i64 (kk:Int)):=HD0.out.i.cell (i:=4) dE;have i5:W.cell? ⟨w.heap.size+1,5,none⟩=some (.int .i64 nn):=HD0.out.i.cell (i:=5) dE;have i6:W.cell? ⟨w.heap.size+1,6,none⟩=some (.int .u32 bt):=HD0.out.i.cell (i:=6) dE;have d0:W.cell? ⟨w.heap.size+1+1+1,0,none⟩=some (.slice none 0 0):=HD0.out.d.cell (i:=0) dE;have d1:W.cell? ⟨w.heap.size+1+1+1,1,none⟩=some (.int .i64 0):=HD0.out.d.cell (i:=1) dE;have z0:=HD0.out.d.frozen 0;have z1:=HD0.out.d.frozen 1;have fa0:W.cell? ⟨w.heap.size,0,none⟩=some (.slice p0 n0 q0):=HD0.out.f.cell (i:=0) dE;have fa1:W.cell? ⟨w.heap.size,1,none⟩=some (.slice p1 n1 q1):=HD0.out.f.cell (i:=1) dE;have fa2:W.cell? ⟨w.heap.size,2,none⟩=some (.slice p2 n2 q2):=HD0.out.f.cell (i:=2) dE;have fa3:W.cell? ⟨w.heap.size,3,none⟩=some (.slice p3 n3 q3):=HD0.out.f.cell (i:=3) dE;have fa4:W.cell? ⟨w.heap.size,4,none⟩=some (.slice pr N qr):=HD0.out.f.cell (i:=4) dE;have fa5:W.cell? ⟨w.heap.size,5,none⟩=some (.slice p5 n5 q5):=HD0.out.f.cell (i:=5) dE;have fa6:W.cell? ⟨w.heap.size,6,none⟩=some (.slice p6 n6 q6):=HD0.out.f.cell (i:=6) dE;have fa7:W.cell? ⟨w.heap.size,7,none⟩=some (.slice p7 n7 q7):=HD0.out.f.cell (i:=7) dE;have fa8:W.cell? ⟨w.heap.size,8,none⟩=some (.slice p8 n8 q8):=HD0.out.f.cell (i:=8) dE;have fa9:W.cell? ⟨w.heap.size,9,none⟩=some (.int .i64 ct):=HD0.out.f.cell (i:=9) dE;go_wp2_with(go_at_call 92;(with_reducible refine(HEL.out _ HD0.out.bel HD0.out.size).mono ?_);rintro e w3 ⟨⟨p,q,⟨ps,wh⟩⟩,rfl,hh,hn,hb3⟩;have HD3:Hid (DW w (CJ (.slice p0 n0 q0) (.slice p1 n1 q1) (.slice p2 n2 q2) (.slice p3 n3 q3) (.slice pr N qr) (.slice p5 n5 q5) (.slice p6 n6 q6) (.slice p7 n7 q7) (.slice p8 n8 q8) (.int .i64 ct)) _ _ w3):=HD0.out.next hb3;have HN3:Hid (B0 (T2 w T) w3 p ps):=hn;have HH:Hid ((⟨ps,wh⟩:Hd)=HV):=hh;clear hb3 hn hh f0 i0 i1 i2 i3 i4 i5 i6 d0 d1 z0 z1 fa0 fa1 fa2 fa3 fa4 fa5 fa6 fa7 fa8 fa9;have d0:w3.cell? ⟨w.heap.size+1+1+1,0,none⟩=some (.slice none 0 0):=HD3.out.d.cell (i:=0) dE;have d1:w3.cell? ⟨w.heap.size+1+1+1,1,none⟩=some (.int .i64 0):=HD3.out.d.cell (i:=1) dE;have z0:=HD3.out.d.frozen 0;have z1:=HD3.out.d.frozen 1);go_meet;exact⟨⟨p,q,⟨ps,wh⟩⟩,HH.out,((HD3.out.put 0 _).put 1 _).congr (fun j hj=>by obtain rfl|rfl:j=0\/j=1:=oM;all_goals rfl),GB (GB HN3.out 0 _) 1 _⟩
 case rest=>
  obtain⟨x,HX,HD,HNM⟩:=hcut;have g0:wc.cell? ⟨w.heap.size,4,none⟩=some (.slice pr N qr):=HD.out.f.cell (i:=4) dE;have g1:wc.cell? ⟨w.heap.size+1,1,none⟩=some (.int .i64 (kd:Int)):=HD.out.i.cell (i:=1) dE;have g2:wc.cell? ⟨w.heap.size+1+1+1,0,none⟩=some (.slice x.p x.h.pats.length x.q):=HD.out.d.cell (i:=0) dE;have g3:wc.cell? ⟨w.heap.size+1+1+1,1,none⟩=some (.int .i64 x.h.whole):=HD.out.d.cell (i:=1) dE;go_upto_region 40 with(go_at_call 100;(with_reducible refine(HPUT.out _ _ _ _ _ HD.out HNM.out).mono ?_);rintro e w5 ⟨pu5,qu5,rfl,hcu,hb5⟩;have HC5:Hid (DW w (CJ (.slice p0 n0 q0) (.slice p1 n1 q1) (.slice p2 n2 q2) (.slice p3 n3 q3) (.slice pr N qr) (.slice p5 n5 q5) (.slice p6 n6 q6) (.slice p7 n7 q7) (.slice p8 n8 q8) (.int .i64 ct)) _ _ w5/\AO (T2 w T) w5 (.slice pu5 N qu5) (X.set kd x)):=⟨HD.out.next hb5,hcu⟩;clear hb5 hcu g0 g1 g2 g3;have g4:w5.cell? ⟨w.heap.size,4,none⟩=some (.slice pr N qr):=HC5.out.1.f.cell (i:=4) dE;have z4:=HC5.out.1.f.frozen 4)
  exact Zad
theorem O9{T:Nat->Prop}(p0 p1 p2 p3 p5 p6 p7 p8:Option Addr)(n0 q0 n1 q1 n2 q2 n3 q3 n5 q5 n6 q6 n7 q7 n8 q8:Nat)(ct:Int)(pr:Option Addr)(qr:Nat)(X:List Cl)(N:Nat)(hN:X.length=N)(hX:N<=16384)(nn bt:Int)(kd ka kb kk:Nat)(w:World)(hT:∀b,T b->b<w.heap.size)(hcs:AO T w (.slice pr N qr) X)(xa:Cl)(hxa:X[ka]? =some xa)(ks:Nat)(hnn:nn=(ks:Int))(Sl:List Cl)(hns:Sl.length=n5)(hnl:n5<=4096)(hkl:ks<n5)(hss:AO T w (.slice p5 n5 q5) Sl):
 Calls prog 72 #[.agg #[(.slice p0 n0 q0),(.slice p1 n1 q1),(.slice p2 n2 q2),(.slice p3 n3 q3),.slice pr N qr,(.slice p5 n5 q5),(.slice p6 n6 q6),(.slice p7 n7 q7),(.slice p8 n8 q8),(.int .i64 ct)],.agg #[.int .i64 33,.int .i64 (kd:Int),.int .i64 (ka:Int),.int .i64 (kb:Int),.int .i64 (kk:Int),.int .i64 nn,.int .u32 bt]] w fun e w'=>∃p9 q9,e=.returned (.agg #[(.slice p0 n0 q0),(.slice p1 n1 q1),(.slice p2 n2 q2),(.slice p3 n3 q3),.slice pr N qr,.slice p9 n5 q9,(.slice p6 n6 q6),(.slice p7 n7 q7),(.slice p8 n8 q8),(.int .i64 ct)])/\AO T w' (.slice p9 n5 q9) (Sl.set ks xa)/\Below w.heap.size w w':=by
 have HT2:Hid (∀v:World,w.heap.size+1+1+1<v.heap.size->∀b,T2 w T b->b<v.heap.size):=fun v hv b hb=>D7 hT hb hv;subst hnn;have HXA:Hid (X[ka]? =some xa):=hxa;obtain⟨hal,hax⟩:=List.getElem?_eq_some_iff.1 hxa;obtain⟨rb,ro,rfl,hca⟩:=hcs.row.row.at hal;rw[hax]at hca;have x0:w.cell? ⟨rb,ro+ka*2,none⟩=some (.slice xa.p xa.h.pats.length xa.q):=hca.at 0 rfl;have x1:w.cell? ⟨rb,ro+ka*2+1,none⟩=some (.int .i64 xa.h.whole):=hca.at 1 rfl;have ha0:(0:Int)<=(ka:Int):=oM;have ha1:(ka:Int)<(N:Int):=oM;have hrb1:¬rb=w.heap.size:=by have:=A5 x0;intro e;simp only at this;omega
 have hrb2:¬rb=w.heap.size+1+1+1:=by have:=A5 x0;intro e;simp only at this;omega
 have HPUT:Hid (∀v F I D (x:Cl),DW w F I D v->B0 (T2 w T) v x.p x.h.pats->Calls prog 100 #[.slice p5 n5 q5,.int .i64 (ks:Int),.agg #[.slice x.p x.h.pats.length x.q,.int .i64 x.h.whole]] v fun e w'=>∃p q,e=.returned (.slice p n5 q)/\AO (T2 w T) w' (.slice p n5 q) (Sl.set ks x)/\Below v.heap.size v w'):=BF (.slice p5 n5 q5) Sl hns oM ks hkl w hT hss;have HN0:Hid (B0 T w xa.p xa.h.pats):=hcs.nums xa (List.mem_of_getElem? hxa);have HD0:Hid (DW w (CJ (.slice p0 n0 q0) (.slice p1 n1 q1) (.slice p2 n2 q2) (.slice p3 n3 q3) (.slice (some ⟨rb,ro,none⟩) N qr) (.slice p5 n5 q5) (.slice p6 n6 q6) (.slice p7 n7 q7) (.slice p8 n8 q8) (.int .i64 ct)) (f7 (.int .i64 33) (.int .i64 (kd:Int)) (.int .i64 (ka:Int)) (.int .i64 (kb:Int)) (.int .i64 (kk:Int)) (.int .i64 (ks:Int)) (.int .u32 bt)) (f2 (.slice none 0 0) (.int .i64 0)) _):=DW.start w (.slice p0 n0 q0) (.slice p1 n1 q1) (.slice p2 n2 q2) (.slice p3 n3 q3) (.slice (some ⟨rb,ro,none⟩) N qr) (.slice p5 n5 q5) (.slice p6 n6 q6) (.slice p7 n7 q7) (.slice p8 n8 q8) (.int .i64 ct) (.int .i64 33) (.int .i64 (kd:Int)) (.int .i64 (ka:Int)) (.int .i64 (kb:Int)) (.int .i64 (kk:Int)) (.int .i64 (ks:Int)) (.int .u32 bt);clear hT hcs hN hss hca hxa hal hax;go_enter func72,ntmps72;go_upto_block 0 with fail;obtain⟨W,hW⟩:∃W,((((w.alloc (.cells #[(.slice p0 n0 q0),(.slice p1 n1 q1),(.slice p2 n2 q2),(.slice p3 n3 q3),.slice (some ⟨rb,ro,none⟩) N qr,(.slice p5 n5 q5),(.slice p6 n6 q6),(.slice p7 n7 q7),(.slice p8 n8 q8),(.int .i64 ct)] 137)).alloc (.cells #[.int .i64 33,.int .i64 (kd:Int),.int .i64 (ka:Int),.int .i64 (kb:Int),.int .i64 (kk:Int),.int .i64 (ks:Int),.int .u32 bt] 44)).alloc (.cells #[.slice none 0 0,.slice none 0 0,.slice none 0 0,.slice none 0 0,.slice none 0 0,.slice none 0 0,.slice none 0 0,.slice none 0 0,.slice none 0 0,.int .i64 0] 137)).alloc (.cells #[.slice none 0 0,.int .i64 0] 94))=W:=⟨_,rfl⟩
 rw[hW]at HD0;rw[hW];clear hW;have hsz:=HD0.out.size;have f0:W.cell? ⟨w.heap.size,4,none⟩=some (.slice (some ⟨rb,ro,none⟩) N qr):=HD0.out.f.cell (i:=4) dE;have i0:W.cell? ⟨w.heap.size+1,0,none⟩=some (.int .i64 33):=HD0.out.i.cell (i:=0) dE;have i2:W.cell? ⟨w.heap.size+1,2,none⟩=some (.int .i64 (ka:Int)):=HD0.out.i.cell (i:=2) dE;have i5:W.cell? ⟨w.heap.size+1,5,none⟩=some (.int .i64 (ks:Int)):=HD0.out.i.cell (i:=5) dE;have x2:=kc HD0.out.bel x0;have x3:=kc HD0.out.bel x1;have f1:W.cell? ⟨w.heap.size,5,none⟩=some (.slice p5 n5 q5):=HD0.out.f.cell (i:=5) dE;clear x0 x1;go_upto_region 31 with fail;refine rG (fun v=>v.cell? ⟨w.heap.size,4,none⟩=some (.slice (some ⟨rb,ro,none⟩) N qr)/\v.cell? ⟨w.heap.size+1,5,none⟩=some (.int .i64 (ks:Int))/\v.cell? ⟨w.heap.size+1,2,none⟩=some (.int .i64 (ka:Int))/\v.cell? ⟨rb,ro+ka*2,none⟩=some (.slice xa.p xa.h.pats.length xa.q)/\v.cell? ⟨rb,ro+ka*2+1,none⟩=some (.int .i64 xa.h.whole)) fun hHeld=>?_;refine Tf 0 2 3 4 5 6 ?_;refine Tc 7 8 9 ?_;clear hHeld;refine Az 1 fun K hK=>?_;go_simp;refine Au hK fun hHeld=>?_;clear hK K;clear hHeld;refine Az 10 fun K hK=>?_;go_simp;(go_at_call 100;(with_reducible refine(HPUT.out _ _ _ _ xa (HD0.out.next (A6 _)) (Mg HN0.out (bel HD0.out.bel (A6 _)))).mono ?_);rintro e w5 ⟨pu5,qu5,rfl,hcu,hb5⟩;have HB3:Hid (Below W.heap.size W w5):=bel (A6 _) hb5;have HC5:Hid (DW w (CJ (.slice p0 n0 q0) (.slice p1 n1 q1) (.slice p2 n2 q2) (.slice p3 n3 q3) (.slice (some ⟨rb,ro,none⟩) N qr) (.slice p5 n5 q5) (.slice p6 n6 q6) (.slice p7 n7 q7) (.slice p8 n8 q8) (.int .i64 ct)) _ _ w5/\AO (T2 w T) w5 (.slice pu5 n5 qu5) (Sl.set ks xa)):=⟨HD0.out.next HB3.out,hcu⟩;clear hb5 hcu;have f0:=kc HB3.out f0;have f1:=kc HB3.out f1;have i5:=kc HB3.out i5;have i2:=kc HB3.out i2;have x2:=kc HB3.out x2;have x3:=kc HB3.out x3;have si5:=(fun u=>AE (b:=⟨w.heap.size,5,none⟩) (i5) iE u);have si2:=(fun u=>AE (b:=⟨w.heap.size,5,none⟩) (i2) iE u);have sx2:=(fun u=>AE (b:=⟨w.heap.size,5,none⟩) (x2) iE u);have sx3:=(fun u=>AE (b:=⟨w.heap.size,5,none⟩) (x3) iE u);have sf0:∀u,(w5.setCell ⟨w.heap.size,5,none⟩ u).cell? ⟨w.heap.size,4,none⟩=some (.slice (some ⟨rb,ro,none⟩) N qr):=(fun u=>by simp[go_sem,f0]);have z4:=HC5.out.1.f.frozen 5);try(go_wp2_with fail)
 refine Au hK fun hHeld=>?_;clear hK K;refine Bu 11 ?_;clear hHeld;refine Az 12 fun K hK=>?_;go_simp;refine Au hK fun hHeld=>?_;clear hK K;refine wpAnyH_done kR ?_ _;go_upto_region 32 with fail;have HE:Hid (DE w (.slice p0 n0 q0) (.slice p1 n1 q1) (.slice p2 n2 q2) (.slice p3 n3 q3) (.slice (some ⟨rb,ro,none⟩) N qr) (.slice pu5 n5 qu5) (.slice p6 n6 q6) (.slice p7 n7 q7) (.slice p8 n8 q8) (.int .i64 ct) (w5.setCell ⟨w.heap.size,5,none⟩ (.slice pu5 n5 qu5))/\AO (T2 w T) (w5.setCell ⟨w.heap.size,5,none⟩ (.slice pu5 n5 qu5)) (.slice pu5 n5 qu5) (Sl.set ks xa)):=QR HC5.out.1 HC5.out.2;obtain⟨V,hV⟩:∃V,w5.setCell ⟨w.heap.size,5,none⟩ (.slice pu5 n5 qu5)=V:=⟨_,rfl⟩
 rw[hV]at HE;rw[hV];obtain⟨⟨-,c0,c1,c2,c3,c4,c5,c6,c7,c8,c9,r0,r1,r2,r3,r4,r5,r6,r7,r8,r9,y0,y1,y2,y3,y4,y5,y6,y7,y8,y9⟩,-⟩:=HE.out;clear hV z4 f0 f1 i5 i2 x2 x3;go_wp2;refine bodyPost_ret Zgc rfl ?_;exact⟨pu5,qu5,rfl,LH HE.out.1 HE.out.2⟩
structure IH(f:Fr):Prop where
 nums:∀r,canon (f.nums r)=f.nums r
 vecs:∀r,∀y∈f.vecs r,canon y=y
 slots:∀h∈f.slots,∀y∈h.pats,canon y=y
theorem MF(a b:Int)(ha:Aw a)(hb:Aw b):canon (EJ a b)=EJ a b:=by
 have:=M2 6 a b 0 ha hb;unfold Hg at this;simpa using this
theorem T9(a b:Int)(ha:Aw a)(hb:Aw b):canon (Db a b)=Db a b:=by
 have:=M2 4 a b 0 ha hb;unfold Hg at this;simpa using this
theorem LN(x n:Int)(hx:Aw x):∀ (k:Nat) (r:Int),Aw r->canon r=r->canon (PC x n k r)=PC x n k r
 |0,r,_,h=>h
 |k+1,r,hr,_=>by
  unfold PC;split
  ·exact LN x n hx k _ (Di _ _) (MF _ _ (Di _ _) hx)
  ·exact LN x n hx k _ (Di _ _) (MF _ _ hr hr)
theorem Tj(x n:Int)(hx:Aw x):canon (Gw x n)=Gw x n:=by
 unfold Gw;split
 ·decide
 ·exact LN x n hx _ _ (CF x hx) (BQ x)
theorem Km{g:Int->Int->Int}(hg:∀a b,Aw a->Aw b->canon (g a b)=g a b)(hf:∀a b,Aw a->Aw b->Aw (g a b)){s:Int}(hs:Aw s)(hc:canon s=s){X:Nat->Int}(hX:∀i,Aw (X i)):∀n,canon (Kl g s X n)=Kl g s X n
 |0=>hc
 |n+1=>hg _ _ (EK hf hs hX n) (hX n)
section
variable {c : Cd} {G P : List (List Int)} {f f' : Fr} {i i' : Af}
theorem WY(hfrom:∀n,0<=n->n<=2147483647->canon (D5 n)=D5 n)(h:AJ c i (A4 i.op)=true)(ok:Hw c f)(hn:D6 i.op=true):canon (Je f i)=Je f i:=by
 unfold D6 at hn;simp only[Bool.or_eq_true,beq_iff_eq]at hn;unfold Je;rcases(show i.op=1\/i.op=16\/i.op=17\/i.op=19\/i.op=20 by omega)with o|o|o|o|o
 ·have h5:Bc c i (A4 i.op).n (Ay c.regs i (A4 i.op))=true:=by unfold AJ at h;simp only[Bool.and_eq_true]at h;exact h.2.2.2.2
  rw[show(A4 i.op).n=7 by rw[o];decide]at h5;unfold Bc Cp at h5;simp only[if_true,Bool.and_eq_true,decide_eq_true_eq]at h5;simp only[o];exact h5.2
 ·simp only[o,if_true];exact Tj _ _ (ok.nums _)
 ·rw[if_neg oM,if_pos o];exact hfrom _ (ok.whs _).1 (ok.whs _).2
 ·rw[if_neg oM,if_neg oM,if_pos o];exact Km (fun a b ha hb=>T9 a b ha hb) (fun _ _ _ _=>LJ _ _) I1 dE (fun j=>BS (ok.vecs _) j) _
 ·rw[if_neg oM,if_neg oM,if_neg oM,if_pos o];exact Km (fun a b ha hb=>ME a b ha.1 hb.1) Iw Zhe dE (fun j=>BS (ok.vecs _) j) _
theorem FF{α:Type}{Q:α->Prop}{g:Nat->α}(h:∀r,Q (g r)){k:Nat}{x:α}(hx:Q x):∀r,Q (ER g k x r):=C9 h hx
theorem Qv(cf:IH f)(r:Int)(h:Hd)(hh:∀y∈h.pats,canon y=y):IH (Hp c f r h):=by
 unfold Hp;split
 ·refine⟨FF (Q:=fun x=>canon x=x) cf.nums ?_,cf.vecs,cf.slots⟩;cases hp:h.pats with
  |nil=>decide
  |cons y t=>exact hh y (by rw[hp];simp)
 ·split
  ·exact⟨cf.nums,cf.vecs,cf.slots⟩
  ·exact⟨cf.nums,FF (Q:=fun l=>∀y∈l,canon y=y) cf.vecs hh,cf.slots⟩
theorem Xk(cf:IH f)(r:Int):∀y∈(Bh c f r).pats,canon y=y:=by
 unfold Bh;split
 ·intro y hy;simp at hy;subst hy;exact cf.nums _
 ·split
  ·intro y hy;cases hy
  ·exact cf.vecs _
theorem Xl(ok:Hw c f)(r:Int):∀y∈(Bh c f r).pats,Aw y:=by
 unfold Bh;split
 ·intro y hy;simp at hy;subst hy;exact ok.nums _
 ·split
  ·intro y hy;cases hy
  ·exact ok.vecs _
theorem N6(V:List (List Int)):∀y∈B7 c V i,canon y=y:=by
 intro y hy;unfold B7 at hy;simp only[List.mem_map]at hy;obtain⟨k,_,rfl⟩:=hy;exact BQ _
theorem Yz(hfrom:∀n,0<=n->n<=2147483647->canon (D5 n)=D5 n)(h:AJ c i (A4 i.op)=true)(hk:Aj i.op=true)(ok:Hw c f)(cf:IH f):IH (CN c G P f i):=by
 rcases Cr hk with o|o|o|o|o|o|o|o|o
 ·rw[Bw o];exact⟨FF (Q:=fun x=>canon x=x) cf.nums (WY hfrom h ok o),cf.vecs,cf.slots⟩
 ·rw[AZ o];exact⟨cf.nums,cf.vecs,cf.slots⟩
 ·rw[BY o];exact⟨cf.nums,FF (Q:=fun l=>∀y∈l,canon y=y) cf.vecs (N6 G),cf.slots⟩
 ·rw[BZ o];exact⟨cf.nums,FF (Q:=fun l=>∀y∈l,canon y=y) cf.vecs (N6 P),cf.slots⟩
 ·rw[Cg o];exact⟨cf.nums,cf.vecs,cf.slots⟩
 ·rw[C5 o];refine Qv cf _ _ ?_;cases hs:f.slots[i.n.toNat]? with
  |none=>intro y hy;cases hy
  |some q=>exact cf.slots q (List.mem_of_getElem? hs)
 ·rw[Ch o];refine⟨cf.nums,cf.vecs,fun q hq=>?_⟩;rcases List.mem_or_eq_of_mem_set hq with hq|hq
  ·exact cf.slots q hq
  ·rw[hq];exact Xk cf _
 ·rw[AI o];exact cf
 ·rw[AT o];unfold DS;split
  ·exact⟨cf.nums,cf.vecs,cf.slots⟩
  ·have ha:=Pp (op:=i.op) (args:=Bb c f i) (fun l hl=>by
    unfold Bb at hl;simp only[List.mem_map]at hl;obtain⟨r,hr,rfl⟩:=hl
    exact Xl ok r)
   refine Qv cf _ _ ?_;simp only;split
   ·intro y hy;unfold Ee at hy;rw[(List.mem_replicate.1 hy).2];exact BQ _
   ·exact ha
end
theorem Zx{m n:Nat}(h:m<=n):R m<=R n:=(LX m).mono (LX n) dE dE VI
theorem Tk(n:Int)(h1:0<=n)(h2:n<=2147483647):canon (D5 n)=D5 n:=by
 have h3:R (n.natAbs*2^149)<=1325400064:=by
  have e:V 23 1325400064=2147483648*2^149:=by decide+kernel
  have h3:=VO 1325400064;rw[e]at h3;rw[←h3];exact Zx (Nat.mul_le_mul_right _ oM)
 have h4:D5 n=(wd false (R (n.natAbs*2^149)):Nat):=by
  have e0:decide (n<0)=false:=by simpa using h1
  rw[←Ju];unfold D5;rw[Bp,CH,Bz,H2,e0];rfl
 rw[h4];refine H8 ?_;unfold wd rg;simp only[Bool.false_eq_true,if_false];omega
theorem Mo(l:List Int)(h:∀y∈l,canon y=y):Cq 3 [l]=l:=by
 unfold Cq;have hs:DA (lF [l]) ([l].length-1)=some l.length:=by show DA _ 0=_;unfold DA lF E8;rfl
 rw[hs];simp only;refine List.ext_getElem sM fun j h1 h2=>?_;simp only[List.getElem_map,List.getElem_range];have e:Eu (lF [l]) (xF [l]) [l].length j 0=l[j]:=by
  unfold Eu;rw[if_pos sM];have el:lF [l] 0=l.length:=rfl;have hx:∀k,xF [l] 0 k=BU l k:=fun k=>rfl;rw[el,hx];have hj:(if l.length=1 then 0 else j)=j:=by split<;>omega
  rw[hj];unfold BU;rw[List.getElem?_eq_getElem h2];rfl
 unfold Hg;rw[if_pos rfl,e];exact h _ (List.getElem_mem h2)
theorem SQ{c:Cd}{G P:List (List Int)}{f:Fr}{i:Af}(o:i.op=3)(ht:A7 c.regs i.a=A7 c.regs i.d)(hkd:(A7 c.regs i.d).kind=1\/(A7 c.regs i.d).kind=2\/(A7 c.regs i.d).kind=3)(cf:IH f)
 (hs:(A7 c.regs i.a).kind=3->(f.vecs i.a.toNat).length=lenOf c (A7 c.regs i.a).par):Bh c (CN c G P f i) i.d=Bh c f i.a:=by
 have he:Bg i.op=true:=by rw[o];decide
 have hargs:Bb c f i=[(Bh c f i.a).pats]:=by
  unfold Bb;have hr:A4 i.op=⟨6,5,0,0,0⟩:=by rw[o];decide
  rw[hr];rfl
 rw[AT he];unfold DS;rcases hkd with k|k|k
 ·rw[if_neg oM,hargs,o];have ka:(A7 c.regs i.a).kind=1:=by rw[ht];exact k
  have hp:(Bh c f i.a).pats=[f.nums i.a.toNat]:=by unfold Bh;rw[if_pos ka]
  rw[hp,Mo _ (by intro y hy;simp at hy;subst hy;exact cf.nums _)];have hw:AQ c (A7 c.regs i.d)=1:=by unfold AQ;rw[if_neg oM,if_pos k]
  rw[if_neg (by rw[hw];simp)];unfold Bh Hp;rw[if_pos k,if_pos k,if_pos ka];simp only[AW];rfl
 ·rw[if_pos k];have ka:(A7 c.regs i.a).kind=2:=by rw[ht];exact k
  unfold Bh;rw[if_neg oM,if_pos k,if_neg oM,if_pos ka];simp only[AW]
 ·rw[if_neg oM,hargs,o];have ka:(A7 c.regs i.a).kind=3:=by rw[ht];exact k
  have hp:(Bh c f i.a).pats=f.vecs i.a.toNat:=by unfold Bh;rw[if_neg oM,if_neg oM]
  rw[hp,Mo _ (cf.vecs _)];have hw:AQ c (A7 c.regs i.d)=lenOf c (A7 c.regs i.d).par:=by unfold AQ;rw[if_pos k]
  rw[if_neg (by rw[hw,hs ka,ht];omega)];unfold Bh Hp;rw[if_neg oM,if_neg oM,if_neg oM,if_neg oM,if_neg oM,if_neg oM];simp only[AW]
theorem Jw{T T':Nat->Prop}(w:World)(u v:Value)(L:List (List Int))(hu:ED T w u L)(hv:ED T' w v L)(hL:L.length<=1048576)(hl:∀l∈L,l.length<=1048576):
 Calls prog 34 #[u,v] w fun e w'=>e=.returned (.bool true)/\Below w.heap.size w w':=by
 obtain⟨p,c,rfl,hcu⟩:=hu.cellsOf;obtain⟨p',c',rfl,hcv⟩:=hv.cellsOf;obtain⟨N,hN⟩:∃N,L.length=N:=⟨_,rfl⟩
 rw[hN]at hL ⊢;have HCU:Hid (∀i (hi:i<L.length),∃b o q d,p=some ⟨b,o,none⟩/\w.cell? ⟨b,o+i,none⟩=some (.slice q (L[i]).length d)/\B5 w q (L[i]).length (fun j=>.int .u32 (BU L[i] j))):=hcu;have HCV:Hid (∀i (hi:i<L.length),∃b o q d,p'=some ⟨b,o,none⟩/\w.cell? ⟨b,o+i,none⟩=some (.slice q (L[i]).length d)/\B5 w q (L[i]).length (fun j=>.int .u32 (BU L[i] j))):=hcv;have HN:Hid (L.length=N/\∀l∈L,l.length<=1048576):=⟨hN,hl⟩
 clear hu hv hcu hcv hN hl;go_enter func34,ntmps34;go_wp2
 go_loopw [5] (fun iv wr=>∃j:Nat,j<=N/\iv=.int .i64 j/\Hid (Below w.heap.size w wr)) (fun iv _=>N-(intOf iv).toNat)
 case atStart=>exact⟨0,Nat.zero_le _,rfl,Bn _⟩
 case round=>
  obtain⟨j,hj,rfl,HB⟩:=hrel;by_cases hlt:j<N
  ·have hjL:j<L.length:=by rw[HN.out.1];exact hlt
   obtain⟨b,o,q,d,rfl,h1,h2⟩:=HCU.out j hjL;obtain⟨b',o',q',d',rfl,h1',h2'⟩:=HCV.out j hjL;have hln:=HN.out.2 _ (List.getElem_mem hjL);obtain⟨M,hM⟩:∃M,(L[j]).length=M:=⟨_,rfl⟩
   obtain⟨Y,hY⟩:∃Y,BU L[j]=Y:=⟨_,rfl⟩
   rw[hM]at h1 h2 h1' h2' hln;simp only[hY]at h2 h2';have k1:=kc HB.out h1;have k2:=kc HB.out h1';have HRU:=A9 (h2.below HB.out);have HRV:=A9 (h2'.below HB.out);clear h1 h1' h2 h2' hM hY;go_wp2;refine wp_region_held_drew (S:=(fun x=>x.cell? ⟨b,o+j,none⟩=some (.slice q M d)/\x.cell? ⟨b',o'+j,none⟩=some (.slice q' M d'))) kR ?_ (fun hHeld=>?_)
   ·((try dsimp only);go_keep)
   refine Tf 0 1 2 3 4 5 ?_;refine Tc 6 7 8 ?_;refine Tb 9 10 ?_;refine wpAnyH_done kR ?_ _;go_wp2;rename World=>W0
   go_loopw [6] (fun iv wr2=>∃k:Nat,k<=M/\iv=.int .i64 k/\Hid (Below W0.heap.size W0 wr2)) (fun iv _=>M-(intOf iv).toNat)
   case atStart=>exact⟨0,Nat.zero_le _,rfl,BV _⟩
   case round=>
    obtain⟨k,hk,rfl,HB2⟩:=hrel;have m1:=kc HB2.out k1;have m2:=kc HB2.out k2;by_cases hlt2:k<M
    ·rcases HRU.out with e|⟨ub,uo,hue,hur⟩
     ·omega
     rcases HRV.out with e|⟨vb,vo,hve,hvr⟩
     ·omega
     have n1:=kc HB2.out (hur k hlt2);have n2:=kc HB2.out (hvr k hlt2);subst hue hve;clear hur hvr HRU HRV;go_wp2;refine wp_region_held_drew (S:=(fun x=>x.cell? ⟨b,o+j,none⟩=some (.slice (some ⟨ub,uo,none⟩) M d)/\x.cell? ⟨b',o'+j,none⟩=some (.slice (some ⟨vb,vo,none⟩) M d')/\x.cell? ⟨ub,uo+k,none⟩=some (.int .u32 (Y k))/\x.cell? ⟨vb,vo+k,none⟩=some (.int .u32 (Y k)))) kR ?_ (fun hHeld=>?_)
     ·((try dsimp only);go_keep)
     refine Tf 0 1 2 3 4 5 ?_;refine Tf 6 7 8 9 10 11 ?_;refine Tc 12 13 14 ?_;refine wpAnyH_done kR ?_ _;go_wp2;go_roundw
     case rel=>exact⟨k+1,oM,gN,bel HB2.out (BV _)⟩
     case measure=>simp[intOf];omega
    ·go_wp2;go_roundw
     case rel=>exact⟨j+1,oM,gN,bel HB.out HB2.out⟩
     case measure=>simp[intOf];omega
  ·go_wp2;go_ret;exact⟨rfl,HB.out⟩
def Gg(c:Cd)(L:List Af)(r:Nat):Prop:=AD c.list r=true/\∃j∈L,Ag j=true/\j.d.toNat=r
theorem Gg.more{c:Cd}{L:List Af}{r:Nat}(h:Gg c L r)(i:Af):Gg c (L++[i]) r:=by
 obtain⟨h1,j,hj,h2⟩:=h;exact⟨h1,j,List.mem_append.2 (.inl hj),h2⟩
theorem Gg.ne{c:Cd}{L R:List Af}{r:Nat}{i:Af}(h:Gg c L r)(hl:c.list=L++i::R)(hs:Ag i=true):r≠i.d.toNat:=by
 obtain⟨h1,j,hj,h2,h3⟩:=h;intro e;rw[hl,e]at h1;exact Fc hs h1 j hj h2 (h3.trans e)
def Ps(q:Rk)(g:Nat):Af:={q.by_ with d:=(g:Int)}
structure Gt(c:Cd)(L:List Af)(s:RW):Prop where
 inst:∀r,s.ins r=r\/Gg c L (s.ins r)
 hold:∀q g,s.hold q=some g->Gg c L g/\A7 c.regs (g:Int)=q.of_/\q.by_.op≠32/\Ag (Ps q g)=true/\Aj q.by_.op=true/\AJ c (Ps q g) (A4 q.by_.op)=true/\∀r∈Aa (Ps q g) (A4 q.by_.op),Gg c L r.toNat
theorem Gt.start(c:Cd):Gt c [] CB:=⟨fun r=>.inl rfl,fun q g h=>(by cases h)⟩
def Zw(c:Cd)(G P:List (List Int))(f:Fr)(hold:Rk->Option Nat)(q:Rk):Prop:=∀g,hold q=some g->Bh c (CN c G P f (Ps q g)) (g:Int)=Bh c f (g:Int)
def Bl(c:Cd)(G P:List (List Int))(f f':Fr)(ins:Nat->Nat)(hold:Rk->Option Nat):Nat->List Nat->List Rk->List Bk->List Nat->Prop
 |0,X,K,_,_=>(∀r∈X,Bh c f' (ins r:Int)=Bh c f (r:Int))/\∀q∈K,Zw c G P f' hold q
 |_+1,_,_,[],_=>False
 |k+1,X,K,b::o,opn=>if b.loop then Bl c G P f f' ins hold (k+1) X K o opn else Bl c G P f f' ins hold k (X.take b.ahead) (K.take (opn.getLastD 0)) o opn.dropLast
section
variable {c : Cd} {G P : List (List Int)} {f f' : Fr}
theorem Bl.congr{ins ins2:Nat->Nat}{hold hold2:Rk->Option Nat}:∀ {o:List Bk} {k:Nat} {X:List Nat} {K:List Rk} {opn:List Nat},Bl c G P f f' ins hold k X K o opn->(∀r∈X,ins2 r=ins r)->(∀q∈K,hold2 q=hold q)->Bl c G P f f' ins2 hold2 k X K o opn
 |o,0,X,K,opn,h,hi,hh=>by
  unfold Bl at h ⊢;exact⟨fun r hr=>by rw[hi r hr];exact h.1 r hr,fun q hq g hg=>h.2 q hq g (by rw[←hh q hq];exact hg)⟩
 |[],k+1,X,K,opn,h,hi,hh=>by unfold Bl at h;exact h.elim
 |b::o,k+1,X,K,opn,h,hi,hh=>by
  unfold Bl at h ⊢;split
  ·rename_i hb;rw[if_pos hb]at h;exact Bl.congr h hi hh
  ·rename_i hb;rw[if_neg hb]at h;exact Bl.congr h (fun r hr=>hi r (List.mem_of_mem_take hr)) (fun q hq=>hh q (List.mem_of_mem_take hq))
theorem Bl.grow{ins ins2:Nat->Nat}{hold hold2:Rk->Option Nat}{X X':List Nat}{K:List Rk}{o o':List Bk}{opn:List Nat}(hr:Ph ins hold X X' K o o' opn):∀ (k:Nat) (Y:List Nat) (J:List Rk),Bl c G P f f' ins hold (k+1) X K o opn->(∀r∈X,ins2 r=ins r)->(∀q∈K,hold2 q=hold q)->Bl c G P f f' ins2 hold2 (k+1) (X++Y) (K++J) o opn:=by
 induction hr with
 |nil=>intro k Y J h _ _;unfold Bl at h;exact h.elim
 |loop h ih=>
  intro k Y J hs hi hh;unfold Bl at hs ⊢;simp only[if_true]at hs ⊢;exact ih k Y J hs hi hh
 |@when X1 X1' K1 o1 o1' k1 p1 a1 a1' m1 h1 h2 h3 h4 h5 h ih=>
  intro k Y J hs hi hh;unfold Bl at hs ⊢;simp only[Bool.false_eq_true,if_false,List.getLastD_concat,List.dropLast_concat]at hs ⊢;rw[List.take_append_of_le_length h1,List.take_append_of_le_length h3];exact hs.congr (fun r hr=>hi r (List.mem_of_mem_take hr)) (fun q hq=>hh q (List.mem_of_mem_take hq))
end
structure Ij(c:Cd)(G P:List (List Int))(L:List Af)(s:RW)(x x':Wk)(f f':Fr)(k:Nat):Prop where
 i:D9 c L s x x'
 j:Gt c L s
 slots:f'.slots=f.slots
 outs:f'.outs=f.outs
 sim:Bl c G P f f' s.ins s.hold k x.set s.reck x.opens s.opn
 ok:Hw c f
 sk:Lw c x f k
 can:IH f
 oks:DB c.regs.length x
section
variable {c : Cd} {G P : List (List Int)} {f f' : Fr} {i : Af} {L R : List Af} {s : RW} {x x' : Wk} {k : Nat}
theorem Tv(hg:Good c){r:Int}(h0:0<=r)(h1:r<(c.regs.length:Int)):(A7 c.regs r).kind=1\/(A7 c.regs r).kind=2\/(A7 c.regs r).kind=3:=by
 have hm:Ax (A7 c.regs r) c.sign.length=true:=by
  unfold A7;rw[if_pos (Bo.2 ⟨h0,h1⟩),List.getElem?_eq_getElem oM];exact hg.regs _ (List.getElem_mem _)
 unfold Ax at hm;split at hm
 ·omega
 ·split at hm
  ·omega
  ·cases hm
theorem Ij.reads(h:Ij c G P L s x x' f f' 0)(t:Ar c x i=true):EC c f f' i (A3 s i):=by
 obtain⟨_,t2,_,t4⟩:=Ai t;have hs:=h.sim;unfold Bl at hs;unfold Dy Aa at t4;rw[List.all_eq_true]at t4;simp only[List.mem_append]at t4;have key:∀n:Int,0<=n->n<(c.regs.length:Int)->n.toNat∈x.set->IJ c f f' n (s.ins n.toNat:Int):=fun n h0 h1 hm=>by
  have h3:=hs.1 _ hm;rw[Int.toNat_of_nonneg h0]at h3;refine⟨h3,?_⟩;rw[(h.i.ty n.toNat oM).2,Int.toNat_of_nonneg h0]
 refine⟨rfl,rfl,rfl,rfl,fun q=>?_,fun q=>?_,fun q=>?_⟩
 ·obtain⟨h0,h1⟩:=Ac (BD t2) q;have e:(A3 s i).a=(s.ins i.a.toNat:Int):=by unfold A3;simp only;rw[if_neg q]
  rw[e];exact key _ h0 h1 (by have:=t4 i.a (.inl Sp);simpa using this)
 ·obtain⟨h0,h1⟩:=Ac (DC t2) q;have e:(A3 s i).b=(s.ins i.b.toNat:Int):=by unfold A3;simp only;rw[if_neg q]
  rw[e];exact key _ h0 h1 (by have:=t4 i.b (.inr (.inl Sp));simpa using this)
 ·obtain⟨h0,h1⟩:=Ac (DD t2) q;have e:(A3 s i).c=(s.ins i.c.toNat:Int):=by unfold A3;simp only;rw[if_neg q]
  rw[e];exact key _ h0 h1 (by have:=t4 i.c (.inr (.inr Sp));simpa using this)
theorem Iy{k:Nat}{f:Fr}(hk:k=0)(h5:i.op≠35)(h4:i.op≠34):Av c G P (f,k) i=(CN c G P f i,0):=by
 unfold Av;rw[if_neg oM,if_neg oM,if_pos hk]
theorem CG{k:Nat}{f:Fr}(hk:0<k)(h5:i.op≠35)(h4:i.op≠34):Av c G P (f,k) i=(f,k):=by
 unfold Av;rw[if_neg oM,if_neg oM,if_neg (by simp only;omega)]
theorem Jc(h:AJ c i (A4 i.op)=true)(hk:Aj i.op=true)(ok:Hw c f)(cf:IH f):IH (Av c G P (f,k) i).1:=by
 unfold Av;split
 ·exact cf
 ·split
  ·exact cf
  ·split
   ·exact Yz Tk h hk ok cf
   ·exact cf
theorem Gr(hi:D9 c L s x x')(hj:Gt c L s)(t:Ar c x i=true)(hw:BK c.list (A3 s i)=true):∀r∈Aa (A3 s i) (A4 i.op),Gg c L r.toNat:=by
 obtain⟨_,_,w3⟩:=B9 hw;obtain⟨_,t2,_,t4⟩:=Ai t;unfold Dy Aa at t4;rw[List.all_eq_true]at t4;simp only[List.mem_append]at t4;intro r hr;have hst:AD c.list r.toNat=true:=w3 r hr;have key:∀n:Int,n.toNat∈x.set->r=(s.ins n.toNat:Int)->Gg c L r.toNat:=fun n hm e=>by
  rw[e,Int.toNat_natCast]at hst ⊢;rcases hj.inst n.toNat with q|q
  ·rw[q]at hst ⊢;exact⟨hst,hi.was _ hm⟩
  ·exact q
 unfold Aa A3 at hr;simp only[List.mem_append]at hr;rcases hr with hr|hr|hr
 ·by_cases q:(A4 i.op).a=0
  ·rw[if_pos q]at hr;cases hr
  ·rw[if_neg q,if_neg q]at hr;simp at hr;exact key i.a (by have:=t4 i.a (.inl Sp);simpa using this) hr
 ·by_cases q:(A4 i.op).b=0
  ·rw[if_pos q]at hr;cases hr
  ·rw[if_neg q,if_neg q]at hr;simp at hr;exact key i.b (by have:=t4 i.b (.inr (.inl Sp));simpa using this) hr
 ·by_cases q:(A4 i.op).c=0
  ·rw[if_pos q]at hr;cases hr
  ·rw[if_neg q,if_neg q]at hr;simp at hr;exact key i.c (by have:=t4 i.c (.inr (.inr Sp));simpa using this) hr
theorem Gt.moreJ(hj:Gt c L s)(i:Af):(∀r,s.ins r=r\/Gg c (L++[i]) (s.ins r))/\∀q g,s.hold q=some g->Gg c (L++[i]) g/\A7 c.regs (g:Int)=q.of_/\q.by_.op≠32/\Ag (Ps q g)=true/\Aj q.by_.op=true/\AJ c (Ps q g) (A4 q.by_.op)=true/\∀r∈Aa (Ps q g) (A4 q.by_.op),Gg c (L++[i]) r.toNat:=
 ⟨fun r=>(hj.inst r).imp id fun q=>q.more i,fun q g h=>by
  obtain⟨h1,h2,h3,h4,h5,h6,h7⟩:=hj.hold q g h
  exact⟨h1.more i,h2,h3,h4,h5,h6,fun r hr=>(h7 r hr).more i⟩⟩
theorem R4(hi:D9 c L s x x')(hj:Gt c L s)(t:Ar c x i=true){g:Nat}(hh:AU c s (A3 s i)=some g):Gg c L g:=by
 have hw:=DU hh;unfold AU at hh;rw[if_pos hw]at hh;by_cases h3:(A3 s i).op=3
 ·rw[if_pos h3]at hh;split at hh
  ·simp only[Option.some.injEq]at hh;rw[←hh];have ha:(A4 i.op).a≠0:=by rw[show i.op=3 from h3];decide
   exact Gr hi hj t hw _ (by unfold Aa;rw[if_neg ha];simp)
  ·cases hh
 ·rw[if_neg h3]at hh;exact(hj.hold _ _ hh).1
theorem Gt.heldS(hi:D9 c L s x x')(hj:Gt c L s)(t:Ar c x i=true){g:Nat}(hh:AU c s (A3 s i)=some g):Gt c (L++[i]) {s with ins:=fun k=>if k=i.d.toNat then g else s.ins k}:=by
 obtain⟨m1,m2⟩:=hj.moreJ i;refine⟨fun r=>?_,m2⟩;simp only;split
 ·exact .inr ((R4 hi hj t hh).more i)
 ·exact m1 r
theorem Mq{i':Af}(h:0<=i'.d):Ps (EU c i') i'.d.toNat=i':=by
 obtain⟨o,d,a,b,e,n,z⟩:=i';unfold Ps EU;simp only at h ⊢;rw[Int.toNat_of_nonneg h]
theorem Gt.stayS(hi:D9 c L s x x')(hj:Gt c L s)(t:Ar c x i=true):Gt c (L++[i]) (AG c s (A3 s i)):=by
 obtain⟨m1,m2⟩:=hj.moreJ i;unfold AG;split
 ·exact⟨m1,m2⟩
 ·split
  ·unfold Dw IV;refine⟨m1,fun q g hq=>?_⟩;simp only at hq;split at hq
   ·cases hq
   ·exact m2 q g hq
  ·split
   ·rename_i hw;refine⟨m1,fun q g hq=>?_⟩;simp only at hq;split at hq
    ·rename_i e;obtain rfl:=Option.some.inj hq;obtain⟨w1,w2,w3⟩:=B9 hw.2;obtain⟨t1,t2,_,_⟩:=Ai (DN hi t);have w1':Ag i=true:=w1;obtain⟨d0,d1⟩:=FJ t w1';have hd0:0<=(A3 s i).d:=d0;rw[e,Mq hd0];refine⟨⟨w2,i,sM,w1',rfl⟩,?_,hw.1.1,w1,t1,t2,fun r hr=>(Gr hi hj t hw.2 r hr).more i⟩;rw[Int.toNat_of_nonneg hd0];rfl
    ·exact m2 q g hq
   ·exact⟨m1,m2⟩
theorem MM(hi:D9 c L s x x')(hl:c.list=L++i::R){g:Nat}(hh:AU c s (A3 s i)=some g):Ag i=true/\i.d.toNat∉x.set/\Ae x i=⟨x.set++[i.d.toNat],x.opens⟩:=by
 obtain⟨w1,w2,w3⟩:=B9 (DU hh);have w1':Ag i=true:=w1;have hn:=PN hi hl w1' w2;refine⟨w1',hn,?_⟩;rw[Lm w1'];unfold CM;rw[if_pos ⟨by unfold Ag at w1';simpa using w1',hn⟩]
theorem Vc(hg:Good c)(fg:CK c G)(fp:CK c P)(hb:Aw i.bits)(h:Ij c G P L s x x' f f' k)(hl:c.list=L++i::R)(t:Ar c x i=true){g:Nat}(hh:AU c s (A3 s i)=some g):
 Ij c G P (L++[i]) {s with ins:=fun k=>if k=i.d.toNat then g else s.ins k} (Ae x i) x' (Av c G P (f,k) i).1 f' (Av c G P (f,k) i).2:=by
 obtain⟨hs,hn,hst⟩:=MM h.i hl hh;obtain⟨o4,o5,o6,o7⟩:=GS hs;obtain⟨hkn,t2,_,_⟩:=Ai t;obtain⟨n1,n2⟩:=GA hg h.oks t h.ok hb fg fp h.sk;have hne:∀r∈x.set,(if r=i.d.toNat then g else s.ins r)=s.ins r:=fun r hr=>if_neg (fun e:r=i.d.toNat=>hn (by rw[←e];exact hr));obtain⟨d0,d1⟩:=FJ t hs;have hcan:=Jc (G:=G) (P:=P) (k:=k) t2 hkn h.ok h.can;have hi2:=Ha h.i hl t hh;have hj2:=h.j.heldS h.i t hh;have hoks:=h.oks.step t;cases k with
 |zero=>
  have hdo:=Iy (c:=c) (G:=G) (P:=P) (f:=f) (rfl:(0:Nat)=0) o5 o4;rw[hdo]at n1 n2 hcan ⊢;obtain⟨k1,k2⟩:=P1 (c:=c) (G:=G) (P:=P) (f:=f) hkn hs;refine⟨hi2,hj2,by rw[h.slots,k1],by rw[h.outs,k2],?_,n1,n2,hcan,hoks⟩;have hsim:=h.sim;unfold Bl at hsim ⊢;rw[hst];refine⟨fun r hr=>?_,hsim.2⟩;simp only at hr ⊢;rcases List.mem_append.1 hr with hr|hr
  ·rw[hne r hr,EG (r:=(r:Int)) hkn (fun _ e=>hn (by rw[Int.toNat_natCast]at e;rw[←e];exact hr))];exact hsim.1 r hr
  ·simp only[List.mem_singleton]at hr;rw[if_pos hr,hr,Int.toNat_of_nonneg d0];have hre:=h.reads t;have hw:=DU hh;have hh2:=hh;unfold AU at hh2;rw[if_pos hw]at hh2;by_cases h3:(A3 s i).op=3
   ·rw[if_pos h3]at hh2;have h3':i.op=3:=h3;have ha:(A4 i.op).a≠0:=by rw[h3'];decide
    obtain⟨q1,q2⟩:=hre.a ha;split at hh2
    ·rename_i e;simp only[Option.some.injEq]at hh2;have hta:A7 c.regs i.a=A7 c.regs i.d:=q2.symm.trans e;obtain⟨a0,a1⟩:=Ac (BD t2) ha;have hsk:=h.sk;have hset:D4 c f i.a.toNat:=by
      rcases hsk with⟨_,hsk⟩|⟨pre,b,rest,_,_,hk0,_⟩
      ·refine hsk _ ?_;obtain⟨_,_,_,t4⟩:=Ai t;unfold Dy Aa at t4;rw[List.all_eq_true]at t4;have:=t4 i.a (by rw[if_neg ha];simp);simpa using this
      ·omega
     rw[SQ h3' hta (Tv hg d0 d1) h.can (fun q=>by
      unfold D4 at hset;rw[Int.toNat_of_nonneg a0]at hset
      exact hset q)]
     have ea:(A3 s i).a=(s.ins i.a.toNat:Int):=by unfold A3;simp only;rw[if_neg ha]
     rw[←hh2,ea,Int.toNat_natCast,←ea];exact q1
    ·cases hh2
   ·rw[if_neg h3]at hh2;obtain⟨j1,j2,j3,j4,j5,j6,j7⟩:=h.j.hold _ _ hh2;have hkm:=(h.i.reck _).1 (by rw[hh2];rfl);have hv:=hsim.2 _ hkm g hh2;obtain⟨u1,u2,_,_⟩:=Ai (DN h.i t);have e1:=IG (G:=G) (P:=P) t2 hkn hre (fun _=>h.slots) hs;have hie:EC c f' f' (A3 s i) (Ps (EU c (A3 s i)) g):=⟨rfl,j2,rfl,rfl,fun _=>⟨rfl,rfl⟩,fun _=>⟨rfl,rfl⟩,fun _=>⟨rfl,rfl⟩⟩
    have e2:=IG (G:=G) (P:=P) u2 u1 hie (fun _=>rfl) hs;rw[←hv];exact e2.trans e1
 |succ k=>
  have hdo:=CG (c:=c) (G:=G) (P:=P) (f:=f) (Nat.succ_pos k) o5 o4;rw[hdo]at n1 n2 hcan ⊢;refine⟨hi2,hj2,h.slots,h.outs,?_,n1,n2,hcan,hoks⟩;rw[hst];have:=Bl.grow (f:=f) (f':=f') (G:=G) (P:=P) (c:=c) (ins2:=fun k=>if k=i.d.toNat then g else s.ins k) (hold2:=s.hold) h.i.opens k [i.d.toNat] [] h.sim hne (fun _ _=>rfl);simpa using this
theorem P7(hi:D9 c L s x x')(hh:AU c s (A3 s i)=none)(ho:¬ (i.op=34\/i.op=35\/i.op=36\/i.op=37)):
 ∃Y J,Ae x i=⟨x.set++Y,x.opens⟩/\(∀r∈Y,Ag i=true/\r=i.d.toNat)/\(AG c s (A3 s i)).reck=s.reck++J/\(AG c s (A3 s i)).opn=s.opn/\(AG c s (A3 s i)).ins=s.ins/\(∀q∈s.reck,(AG c s (A3 s i)).hold q=s.hold q)/\
  ∀q∈J,q=EU c (A3 s i)/\i.op≠32/\BK c.list (A3 s i)=true/\(AG c s (A3 s i)).hold q=some i.d.toNat:=by
 have hop:(A3 s i).op=i.op:=rfl;obtain⟨Y,hY,hYm⟩:∃Y,Ae x i=⟨x.set++Y,x.opens⟩/\∀r∈Y,Ag i=true/\r=i.d.toNat:=by
  unfold Ae Dr BJ;rw[if_neg oM,if_neg oM];unfold CM;split
  ·rename_i q;exact⟨[i.d.toNat],rfl,fun r hr=>⟨by unfold Ag;simpa using q.1,by simpa using hr⟩⟩
  ·exact⟨[],sM,fun r hr=>by cases hr⟩
 by_cases hw:((A3 s i).op≠32/\(A3 s i).op≠3)/\BK c.list (A3 s i)=true
 ·have hst:AG c s (A3 s i)={s with left:=s.left++[A3 s i],hold:=fun r=>if r=EU c (A3 s i)then some (A3 s i).d.toNat else s.hold r,reck:=s.reck++[EU c (A3 s i)]}:=by
   unfold AG;rw[if_neg Pl,if_neg Pl,if_pos hw]
  have hno:s.hold (EU c (A3 s i))=none:=by
   unfold AU at hh;rw[if_pos hw.2,if_neg hw.1.2]at hh;exact hh
  have hnr:EU c (A3 s i)∉s.reck:=fun q=>by
   have:=(hi.reck _).2 q;rw[hno]at this;cases this
  rw[hst];refine⟨Y,[EU c (A3 s i)],hY,hYm,rfl,rfl,rfl,fun q hq=>if_neg (fun e:q=EU c (A3 s i)=>hnr (e▸hq)),fun q hq=>?_⟩;simp only[List.mem_singleton]at hq;exact⟨hq,hw.1.1,hw.2,by simp only;rw[if_pos hq];rfl⟩
 ·have hst:AG c s (A3 s i)={s with left:=s.left++[A3 s i]}:=by
   unfold AG;rw[if_neg Pl,if_neg Pl,if_neg hw]
  rw[hst];exact⟨Y,[],hY,hYm,sM,rfl,rfl,fun q _=>rfl,fun q hq=>by cases hq⟩
theorem S2(hg:Good c)(fg:CK c G)(fp:CK c P)(hb:Aw i.bits)(h:Ij c G P L s x x' f f' k)(hl:c.list=L++i::R)(t:Ar c x i=true)(hh:AU c s (A3 s i)=none)(ho:¬ (i.op=34\/i.op=35\/i.op=36\/i.op=37)):
 (Av c G P (f',k) (A3 s i)).2=(Av c G P (f,k) i).2/\Ij c G P (L++[i]) (AG c s (A3 s i)) (Ae x i) (Ae x' (A3 s i)) (Av c G P (f,k) i).1 (Av c G P (f',k) (A3 s i)).1 (Av c G P (f,k) i).2:=by
 have hop:(A3 s i).op=i.op:=rfl;obtain⟨hkn,t2,_,_⟩:=Ai t;obtain⟨n1,n2⟩:=GA hg h.oks t h.ok hb fg fp h.sk;have hcan:=Jc (G:=G) (P:=P) (k:=k) t2 hkn h.ok h.can;have hi2:=G3 h.i hl t hh;have hj2:=h.j.stayS h.i t;have hoks:=h.oks.step t;obtain⟨Y,J,hst,hY,hK,hopn,hins,hhold,hJ⟩:=P7 h.i hh ho;cases k with
 |succ k=>
  have e1:=CG (c:=c) (G:=G) (P:=P) (i:=i) (f:=f) (Nat.succ_pos k) oM oM;have e2:=CG (c:=c) (G:=G) (P:=P) (i:=A3 s i) (f:=f') (Nat.succ_pos k) Pl Pl;rw[e1]at n1 n2 hcan ⊢;rw[e2];refine⟨rfl,hi2,hj2,h.slots,h.outs,?_,n1,n2,hcan,hoks⟩;rw[hst,hK,hopn,hins];exact Bl.grow h.i.opens k Y J h.sim (fun _ _=>rfl) hhold
 |zero=>
  have e1:=Iy (c:=c) (G:=G) (P:=P) (i:=i) (f:=f) (rfl:(0:Nat)=0) oM oM;have e2:=Iy (c:=c) (G:=G) (P:=P) (i:=A3 s i) (f:=f') (rfl:(0:Nat)=0) Pl Pl;rw[e1]at n1 n2 hcan ⊢;rw[e2];have hre:=h.reads t;obtain⟨r1,r2,r3⟩:=YA (G:=G) (P:=P) t2 hkn hre h.slots h.outs;refine⟨rfl,hi2,hj2,r1,r2,?_,n1,n2,hcan,hoks⟩;have hsim:=h.sim;unfold Bl at hsim ⊢;rw[hst,hK,hins];have hkn':Aj (A3 s i).op=true:=hkn;have hfr:∀g:Nat,Gg c L g->Bh c (CN c G P f' (A3 s i)) (g:Int)=Bh c f' (g:Int):=fun g hg'=>EG (r:=(g:Int)) hkn' (fun hs e=>by
   rw[Int.toNat_natCast]at e
   exact hg'.ne hl hs e)
  obtain⟨u1,u2,_,_⟩:=Ai (DN h.i t);refine⟨fun r hr=>?_,fun q hq=>?_⟩
  ·simp only at hr;by_cases hD:Ag i=true/\r=i.d.toNat
   ·obtain⟨hs,rfl⟩:=hD;obtain⟨d0,d1⟩:=FJ t hs;have hid:s.ins i.d.toNat=i.d.toNat:=by
     rcases h.i.same i.d.toNat with q|⟨q,j,hj,k1,k2⟩
     ·exact q
     ·rw[hl]at q;exact absurd k2 (Fc hs q j hj k1)
    rw[hid,Int.toNat_of_nonneg d0];exact r3 hs
   ·have hrX:r∈x.set:=by
     rcases List.mem_append.1 hr with hr|hr
     ·exact hr
     ·exact absurd (hY r hr) hD
    rw[EG (r:=(r:Int)) hkn (fun hs e=>hD ⟨hs,by rw[Int.toNat_natCast]at e;exact e⟩)];rw[←hsim.1 r hrX];rcases h.j.inst r with q|q
    ·exact EG (r:=(s.ins r:Int)) hkn' (fun hs e=>hD ⟨hs,by rw[Int.toNat_natCast,q]at e;exact e⟩)
    ·exact hfr _ q
  ·rcases List.mem_append.1 hq with hq|hq
   ·intro g hg';rw[hhold q hq]at hg';obtain⟨j1,j2,j3,j4,j5,j6,j7⟩:=h.j.hold q g hg';rw[hfr g j1,←hsim.2 q hq g hg'];have hie:EC c f' (CN c G P f' (A3 s i)) (Ps q g) (Ps q g):=EC.refl (fun r hr=>⟨by
     have hr':=j7 r hr
     exact EG (r:=r) hkn' (fun hs e=>hr'.ne hl hs e),rfl⟩)
    exact IG (G:=G) (P:=P) (i:=Ps q g) j6 j5 hie (fun e=>absurd e j3) j4
   ·obtain⟨rfl,h32,hw,hgq⟩:=hJ q hq;intro g hg';rw[hgq]at hg';obtain rfl:=Option.some.inj hg';obtain⟨w1,w2,w3⟩:=B9 hw;have w1':Ag i=true:=w1;obtain⟨d0,d1⟩:=FJ t w1';have hd0:0<=(A3 s i).d:=d0;have ea:Ps (EU c (A3 s i)) i.d.toNat=A3 s i:=Mq (c:=c) hd0;rw[ea,Int.toNat_of_nonneg d0];have hset:=Gr h.i h.j t hw;have hie:EC c f' (CN c G P f' (A3 s i)) (A3 s i) (A3 s i):=EC.refl (fun r hr=>⟨EG (r:=r) hkn' (fun hs e=>(hset r hr).ne hl hs e),rfl⟩);exact IG (G:=G) (P:=P) (i:=A3 s i) u2 u1 hie (fun e=>absurd e h32) w1
theorem Dc{f:Fr}(o:i.op=35\/i.op=36\/i.op=37):Av c G P (f,0) i=(f,0):=by
 unfold Av;rw[if_neg sM,if_neg oM,if_pos rfl,AI oM]
theorem Kz{f:Fr}{k:Nat}(o:i.op=34):Av c G P (f,k) i=if 0<k\/f.whs i.a.toNat=0 then(f,k+1)else(f,0):=by
 unfold Av;rw[if_neg oM];by_cases q:0<k\/f.whs i.a.toNat=0
 ·rw[if_pos ⟨o,q⟩,if_pos q]
 ·rw[if_neg (fun e=>q e.2),if_neg q,if_pos (by simp only;omega),AI oM]
theorem MS{f:Fr}{k:Nat}(o:i.op=35):Av c G P (f,k+1) i=(f,k):=by
 unfold Av;rw[if_pos ⟨sM,o⟩];rfl
theorem Vd(hg:Good c)(fg:CK c G)(fp:CK c P)(hb:Aw i.bits)(h:Ij c G P L s x x' f f' k)(hl:c.list=L++i::R)(t:Ar c x i=true)(hh:AU c s (A3 s i)=none)(ho:i.op=34\/i.op=35\/i.op=36\/i.op=37):
 (Av c G P (f',k) (A3 s i)).2=(Av c G P (f,k) i).2/\Ij c G P (L++[i]) (AG c s (A3 s i)) (Ae x i) (Ae x' (A3 s i)) (Av c G P (f,k) i).1 (Av c G P (f',k) (A3 s i)).1 (Av c G P (f,k) i).2:=by
 have hop:(A3 s i).op=i.op:=rfl;obtain⟨hkn,t2,t3,_⟩:=Ai t;obtain⟨n1,n2⟩:=GA hg h.oks t h.ok hb fg fp h.sk;have hcan:=Jc (G:=G) (P:=P) (k:=k) t2 hkn h.ok h.can;have hi2:=G3 h.i hl t hh;have hj2:=h.j.stayS h.i t;have hoks:=h.oks.step t;have hsim:=h.sim;rcases ho with o|o|o|o
 ·have o':(A3 s i).op=34:=o;have hst:=JC (s:=x) o;have hsy:=Ll c s o';have hX:∀k',Bl c G P f f' s.ins s.hold k' x.set s.reck x.opens s.opn->Bl c G P f f' s.ins s.hold (k'+1) x.set s.reck (⟨false,i.n,x.set.length⟩::x.opens) (s.opn++[s.reck.length]):=fun k' q=>by
   unfold Bl;simp only[Bool.false_eq_true,if_false,List.getLastD_concat,List.dropLast_concat,List.take_length];exact q
  have hw:k=0->f'.whs (A3 s i).a.toNat=f.whs i.a.toNat:=fun hk=>by
   subst hk;have ra:(A4 i.op).a=2:=by rw[o];decide
   exact((h.reads t).a ZI).whs (EZ t2 2 ra dE dE)
  have e1:=Kz (c:=c) (G:=G) (P:=P) (f:=f) (k:=k) o;have e2:=Kz (c:=c) (G:=G) (P:=P) (f:=f') (k:=k) o';by_cases q:0<k\/f.whs i.a.toNat=0
  ·have q':0<k\/f'.whs (A3 s i).a.toNat=0:=by
    rcases Nat.eq_zero_or_pos k with e|e
    ·rw[hw e];exact q
    ·exact .inl e
   rw[if_pos q]at e1;rw[if_pos q']at e2;rw[e1]at n1 n2 hcan ⊢;rw[e2];refine⟨rfl,hi2,hj2,h.slots,h.outs,?_,n1,n2,hcan,hoks⟩;rw[hst,hsy];exact hX k hsim
  ·have hk:k=0:=oM;subst hk;have q':¬ (0<0\/f'.whs (A3 s i).a.toNat=0):=by rw[hw rfl];exact q
   rw[if_neg q]at e1;rw[if_neg q']at e2;exact Zeo
 ·have o':(A3 s i).op=35:=o;have hst:=FL (s:=x) (.inl o:i.op=35\/i.op=37);have hsy:=Nx c s o';unfold At at t3;rw[if_neg oM,if_pos o]at t3;simp only[Bool.and_eq_true,Bool.not_eq_true']at t3;have hnd:=h.i.nodup;obtain⟨a,m,oo,kk,p,hxo,hso,ha,hm⟩:∃a m oo kk p,x.opens=⟨false,p,a⟩::oo/\s.opn=kk++[m]/\a<=x.set.length/\m<=s.reck.length:=by
   have hop9:=h.i.opens;obtain⟨X,O⟩:=x;obtain⟨X',O'⟩:=x';obtain⟨ins,hold,reck,opn,left⟩:=s;simp only at hop9 t3 ⊢;cases hop9 with
   |nil=>simp at t3
   |loop h9=>simp[An]at t3
   |@when _ _ _ o o' k p a a' m h1 h2 h3 h4 h5 h6=>exact⟨a,m,o,k,p,rfl,rfl,h1,h3⟩
  have hlv:AF x=⟨x.set.take a,oo⟩:=by
   unfold AF;rw[hxo];simp
  have hk2:∀q∈s.reck.take m,(if q∈s.reck.drop m then none else s.hold q)=s.hold q:=fun q hq=>if_neg (JF hnd hq);have hlw:Dw {s with left:=s.left++[A3 s i]}={s with left:=s.left++[A3 s i],hold:=fun r=>if r∈s.reck.drop m then none else s.hold r,reck:=s.reck.take m,opn:=kk}:=by
   unfold Dw IV;simp only;rw[hso];simp
  cases k with
  |zero=>
   have e1:=Dc (c:=c) (G:=G) (P:=P) (f:=f) (.inl o:i.op=35\/i.op=36\/i.op=37);have e2:=Dc (c:=c) (G:=G) (P:=P) (f:=f') (.inl o':(A3 s i).op=35\/(A3 s i).op=36\/(A3 s i).op=37);rw[e1]at n1 n2 hcan ⊢;rw[e2];refine⟨rfl,hi2,hj2,h.slots,h.outs,?_,n1,n2,hcan,hoks⟩;rw[hst,hsy,hlv,hlw];unfold Bl at hsim ⊢;exact⟨fun r hr=>hsim.1 r (List.mem_of_mem_take hr),fun q hq g hg'=>hsim.2 q (List.mem_of_mem_take hq) g (by simp only at hg';rw[hk2 q hq]at hg';exact hg')⟩
  |succ k=>
   have e1:=MS (c:=c) (G:=G) (P:=P) (f:=f) (k:=k) o;have e2:=MS (c:=c) (G:=G) (P:=P) (f:=f') (k:=k) o';rw[e1]at n1 n2 hcan ⊢;rw[e2];refine⟨rfl,hi2,hj2,h.slots,h.outs,?_,n1,n2,hcan,hoks⟩;rw[hst,hsy,hlv,hlw];rw[hxo,hso]at hsim;unfold Bl at hsim;simp only[Bool.false_eq_true,if_false,List.getLastD_concat,List.dropLast_concat]at hsim;exact hsim.congr (fun _ _=>rfl) hk2
 ·have o':(A3 s i).op=36:=o;have hst:=JD (s:=x) o;have hns:Ag (A3 s i)=false:=by unfold Ag;rw[o'];decide
  have hsy:AG c s (A3 s i)={s with left:=s.left++[A3 s i]}:=by
   unfold AG;rw[if_neg oM,if_neg oM,if_neg];intro q;have:=(B9 q.2).1;rw[hns]at this;cases this
  cases k with
  |zero=>
   have e1:=Dc (c:=c) (G:=G) (P:=P) (f:=f) (.inr (.inl o):i.op=35\/i.op=36\/i.op=37);have e2:=Dc (c:=c) (G:=G) (P:=P) (f:=f') (.inr (.inl o'):(A3 s i).op=35\/(A3 s i).op=36\/(A3 s i).op=37);exact Zeo
  |succ k=>
   have e1:=CG (c:=c) (G:=G) (P:=P) (i:=i) (f:=f) (Nat.succ_pos k) oM oM;have e2:=CG (c:=c) (G:=G) (P:=P) (i:=A3 s i) (f:=f') (Nat.succ_pos k) oM oM;rw[e1]at n1 n2 hcan ⊢;rw[e2];refine⟨rfl,hi2,hj2,h.slots,h.outs,?_,n1,n2,hcan,hoks⟩;rw[hst,hsy];unfold Bl;simp only[if_true];exact hsim
 ·have o':(A3 s i).op=37:=o;have hst:=FL (s:=x) (.inr o:i.op=35\/i.op=37);have hns:Ag (A3 s i)=false:=by unfold Ag;rw[o'];decide
  have hsy:AG c s (A3 s i)={s with left:=s.left++[A3 s i]}:=by
   unfold AG;rw[if_neg oM,if_neg oM,if_neg];intro q;have:=(B9 q.2).1;rw[hns]at this;cases this
  unfold At at t3;rw[if_neg oM,if_neg oM,if_pos o]at t3;obtain⟨p,a,oo,hxo⟩:∃p a oo,x.opens=⟨true,p,a⟩::oo:=by
   obtain⟨X,O⟩:=x;simp only at t3 ⊢;cases O with
   |nil=>simp[An]at t3
   |cons bk oo=>
    obtain⟨lp,p,a⟩:=bk;simp[An]at t3;subst t3;exact⟨p,a,oo,rfl⟩
  have hlv:AF x=⟨x.set,oo⟩:=by
   unfold AF;rw[hxo];simp
  cases k with
  |zero=>
   have e1:=Dc (c:=c) (G:=G) (P:=P) (f:=f) (.inr (.inr o):i.op=35\/i.op=36\/i.op=37);have e2:=Dc (c:=c) (G:=G) (P:=P) (f:=f') (.inr (.inr o'):(A3 s i).op=35\/(A3 s i).op=36\/(A3 s i).op=37);rw[e1]at n1 n2 hcan ⊢;rw[e2];refine⟨rfl,hi2,hj2,h.slots,h.outs,?_,n1,n2,hcan,hoks⟩;rw[hst,hsy,hlv];unfold Bl at hsim ⊢;exact hsim
  |succ k=>
   have e1:=CG (c:=c) (G:=G) (P:=P) (i:=i) (f:=f) (Nat.succ_pos k) oM oM;have e2:=CG (c:=c) (G:=G) (P:=P) (i:=A3 s i) (f:=f') (Nat.succ_pos k) oM oM;rw[e1]at n1 n2 hcan ⊢;rw[e2];refine⟨rfl,hi2,hj2,h.slots,h.outs,?_,n1,n2,hcan,hoks⟩;rw[hst,hsy,hlv];rw[hxo]at hsim;unfold Bl at hsim;simp only[if_true]at hsim;exact hsim
theorem Mc(hg:Good c)(fg:CK c G)(fp:CK c P):∀ (R L:List Af) (s:RW) (x x':Wk) (f f':Fr) (k:Nat) (f0:Fr),c.list=L++R->(∀i∈R,Aw i.bits)->AN c x R=true->Ij c G P L s x x' f f' k->R3 c G P (f0,0) s.left=(f',k)->
 ∃f2 f2' k2 s2 x2 x2',R3 c G P (f,k) R=(f2,k2)/\s2=R.foldl (Bm c) s/\R3 c G P (f0,0) s2.left=(f2',k2)/\Ij c G P c.list s2 x2 x2' f2 f2' k2
 |[],L,s,x,x',f,f',k,f0,hl,hb,ht,h,hgo=>by
  rw[List.append_nil]at hl;subst hl;exact⟨f,f',k,s,x,x',rfl,rfl,hgo,h⟩
 |i::R,L,s,x,x',f,f',k,f0,hl,hb,ht,h,hgo=>by
  have ht':Ar c x i=true/\AN c (Ae x i) R=true:=by unfold AN at ht;simpa using ht
  have hl':c.list=(L++[i])++R:=by rw[hl];simp
  have hbi:=hb i sM;have hbR:=fun j hj=>hb j (List.mem_cons_of_mem i hj);have hgoc:R3 c G P (f,k) (i::R)=R3 c G P (Av c G P (f,k) i) R:=rfl;cases hh:AU c s (A3 s i)with
  |some g=>
   have htk:Bm c s i={s with ins:=fun k=>if k=i.d.toNat then g else s.ins k}:=by unfold Bm;rw[hh]
   have h2:=Vc hg fg fp hbi h hl ht'.1 hh;have hk2:(Av c G P (f,k) i).2=k:=by
    obtain⟨hs,-,-⟩:=MM h.i hl hh;obtain⟨o4,o5,o6,o7⟩:=GS hs;rcases Nat.eq_zero_or_pos k with e|e
    ·rw[Iy e o5 o4,e]
    ·rw[CG e o5 o4]
   obtain⟨f2,f2',k2,s2,x2,x2',r1,r2,r3,r4⟩:=Mc hg fg fp R (L++[i]) _ _ _ _ f' _ f0 hl' hbR ht'.2 h2 (by rw[hk2];exact hgo);refine⟨f2,f2',k2,s2,x2,x2',by rw[hgoc];exact r1,?_,r3,r4⟩;rw[r2,List.foldl_cons,htk]
  |none=>
   have htk:Bm c s i=AG c s (A3 s i):=by unfold Bm;rw[hh]
   have h2:(Av c G P (f',k) (A3 s i)).2=(Av c G P (f,k) i).2/\Ij c G P (L++[i]) (AG c s (A3 s i)) (Ae x i) (Ae x' (A3 s i)) (Av c G P (f,k) i).1 (Av c G P (f',k) (A3 s i)).1 (Av c G P (f,k) i).2:=by
    by_cases ho:i.op=34\/i.op=35\/i.op=36\/i.op=37
    ·exact Vd hg fg fp hbi h hl ht'.1 hh ho
    ·exact S2 hg fg fp hbi h hl ht'.1 hh ho
   have hgo2:R3 c G P (f0,0) (AG c s (A3 s i)).left=((Av c G P (f',k) (A3 s i)).1,(Av c G P (f,k) i).2):=by
    rw[(G2 c s _).1];unfold R3 at hgo ⊢;rw[List.foldl_append,hgo,←h2.1];rfl
   obtain⟨f2,f2',k2,s2,x2,x2',r1,r2,r3,r4⟩:=Mc hg fg fp R (L++[i]) _ _ _ _ _ _ f0 hl' hbR ht'.2 h2.2 hgo2;refine⟨f2,f2',k2,s2,x2,x2',by rw[hgoc];exact r1,?_,r3,r4⟩;rw[r2,List.foldl_cons,htk]
end
def G9(l:List Hd)(n:Nat):List (List Int):=(l.take n).map fun h=>h.pats++[h.whole]
theorem R5{l:List Hd}{j:Nat}(h:j<l.length):G9 l (j+1)=G9 l j++[l[j].pats++[l[j].whole]]:=by
 unfold G9;rw[List.take_succ_eq_append_getElem h,List.map_append];rfl
theorem TS{w:World}{B g c':Nat}{l:List Int}{sv:Value}(h:w.ownsRow B 42 1 (.slice (some ⟨g,0,none⟩) l.length c') l.length (Gc l))(hs:∀b,sv.ownBlock=some b->b<B):Ii w sv (some ⟨g,0,none⟩) l:=by
 have h1:=IE h;rcases h1 with e|⟨b,o,e,hc⟩
 ·exact .inl (List.eq_nil_of_length_eq_zero e)
 ·simp only[Option.some.injEq,Addr.mk.injEq]at e;obtain⟨rfl,rfl,-⟩:=e;refine .inr ⟨g,0,rfl,fun e=>?_,hc⟩;have h2:=hs g e;have h3:=(h.lt g rfl).1;omega
theorem ML(v0 v1 v2 v3 u:Value)(X:List Cl)(hX:X.length<=4096)(n:Nat)(hn:n<=X.length)(hP:∀x∈X,(∀y∈x.h.pats,Aw y)/\x.h.pats.length<=4096/\0<=x.h.whole/\x.h.whole<=2147483647)(w:World)(h:Su w u X):
 Calls prog 35 #[.agg #[v0,v1,v2,v3,u],.int .i64 (n:Int)] w fun e w'=>∃sv,e=.returned sv/\ED (fun b=>b<w.heap.size) w' sv (G9 (X.map (·.h)) n)/\Below w.heap.size w w':=by
 have KS:Hid (∀ (v:World) (k:Nat) (hk:k<X.length),Below w.heap.size w v->Calls prog 62 #[.agg #[v0,v1,v2,v3,u],.int .i64 (k:Int)] v fun e w'=>∃p q,e=.returned (.tuple #[.slice p X[k].h.pats.length q,.int .i64 X[k].h.whole,.int .i64 0])/\w'.ownsRow v.heap.size 42 1 (.slice p X[k].h.pats.length q) X[k].h.pats.length (Gc X[k].h.pats)/\Below v.heap.size v w'):=fun v k hk hb=>
  (Nk v0 v1 v2 v3 u X oM k hk (hP _ (List.getElem_mem hk)).1 (hP _ (List.getElem_mem hk)).2.1 v (h.below hb)).mono fun e w' ⟨p,q,h1,_,h3,_,h5⟩=>⟨p,q,h1,h5,h3⟩
 have HP:=A9 hP;have HN:=A9 hn;obtain⟨W0,hW0⟩:∃W,w.alloc (.cells #[v0,v1,v2,v3,u] 55)=W:=⟨_,rfl⟩
 have HW0:Hid (Below w.heap.size w W0/\W0.heap.size=w.heap.size+1):=by rw[←hW0];exact⟨A0 _ _,sM⟩
 have hbx:W0.rowIs w.heap.size 55 5 (f5 v0 v1 v2 v3 u):=by rw[←hW0];exact World.rowIs_alloc w _ _ _ (EH _ _ _ _ _)
 have HBX:=A9 hbx;have hn0:n<=4096:=oM;clear h hP hn hbx;go_enter func35,ntmps35;go_upto_block 0 with fail;try rw[hW0]
 clear hW0;go_wp2_with fail
 go_loopw [5,6] (fun ov iv wr=>∃ (Xs:List Cu) (pp:Option Addr) (qq:Nat),Xs.length<=n/\iv=.int .i64 (Xs.length:Int)/\ov=.slice pp Xs.length qq/\Hid (Below W0.heap.size W0 wr/\Xs.map (·.l)=G9 (X.map (·.h)) Xs.length/\Lz W0.heap.size wr (.slice pp Xs.length qq) Xs)) (fun _ iv _=>n-(intOf iv).toNat)
 case atStart=>exact⟨[],none,0,Nat.zero_le _,rfl,rfl,Bn _,rfl,Lz.nil _ _⟩
 case round=>
  obtain⟨Xs,pp,qq,hj,rfl,rfl,HR⟩:=hrel;obtain⟨hb,hm,hvs⟩:=HR.out;obtain⟨j,hje⟩:∃j,Xs.length=j:=⟨_,rfl⟩
  by_cases hlt:j<n
  ·have hjX:j<X.length:=by have:=HN.out;omega
   have hrow:=HBX.out.of_block (hb.block _ HBX.out.lt);have x0:wr.cell? ⟨w.heap.size,0,none⟩=some v0:=hrow.cell (i:=0) dE;have x1:wr.cell? ⟨w.heap.size,1,none⟩=some v1:=hrow.cell (i:=1) dE;have x2:wr.cell? ⟨w.heap.size,2,none⟩=some v2:=hrow.cell (i:=2) dE;have x3:wr.cell? ⟨w.heap.size,3,none⟩=some v3:=hrow.cell (i:=3) dE;have x4:wr.cell? ⟨w.heap.size,4,none⟩=some u:=hrow.cell (i:=4) dE;have hbw:Below w.heap.size w wr:=HW0.out.1.trans (hb.mono HW0.out.1.size);have KJ:=A9 (KS.out wr j hjX hbw);obtain⟨hp1,hp2,hp3,hp4⟩:=HP.out _ (List.getElem_mem hjX);have hsu:G9 (X.map (·.h)) (j+1)=G9 (X.map (·.h)) j++[X[j].h.pats++[X[j].h.whole]]:=by
    rw[R5 (by simpa using hjX)];simp
   obtain⟨⟨px,qx,⟨pats,wh⟩⟩,hx⟩:∃x,X[j]=x:=⟨_,rfl⟩
   simp only[hx]at KJ hp1 hp2 hp3 hp4 hsu;have HSU:=A9 hsu;obtain⟨M,hM⟩:∃M,pats.length=M:=⟨_,rfl⟩
   have HM:=A9 hM;have HB:=A9 hb;have HMM:=A9 hm;have HVS:=A9 hvs;have HJE:=A9 hje;rw[hje]at hj ⊢;have t0:(j:Int)<(n:Int):=oM;have t5:IntKind.i64.wrap ((j:Int)+1)=((j+1:Nat):Int):=by rw[IntKind.wrap_i64];omega
   have t6:IntKind.u32.wrap wh=wh:=by rw[IntKind.wrap_u32];omega
   clear hrow hb hm hvs hje hsu hx hp1 hM;go_upto_region 6 with(go_at_call 62;(with_reducible refine KJ.out.mono ?_);rintro e w5 ⟨ps,qs,rfl,how,hb5⟩;have HOW:=A9 how;have HB5:=A9 hb5;clear how hb5 x0 x1 x2 x3 x4)
   obtain⟨g,c',w8,hap,hb8,ho8,-⟩:=El (V:=w5) underlying81 Fx rfl dE HOW.out HB5.out.size #[.int .u32 wh] rfl Yr (by unfold maxLen;have:=HM.out;omega) (by have:=HM.out;omega) 81;have hbB:Below wr.heap.size wr w8:=HB5.out.trans hb8;have ho9:w8.ownsRow wr.heap.size 42 1 (.slice (some ⟨g,0,none⟩) (pats++[wh]).length c') (pats++[wh]).length (Gc (pats++[wh])):=by
    rw[EQ,List.length_append];exact ho8
   have hV8:=HVS.out.below hbB;have hpa:Ii w8 (.slice pp Xs.length qq) (some ⟨g,0,none⟩) (pats++[wh]):=TS ho9 (fun b e=>(HVS.out.own.lt b e).2);have hg1:wr.heap.size<=g:=(ho9.lt g rfl).1;have hsz:W0.heap.size<=wr.heap.size:=HB.out.size;obtain⟨g2,c2,w9,hap2,hb9,hv9⟩:=hV8.push (Nat.le_trans hsz hbB.size) (by have:=HJE.out;omega) ⟨some ⟨g,0,none⟩,c',pats++[wh]⟩ hpa (fun b o s e=>by simp only[Option.some.injEq,Addr.mk.injEq]at e;omega) 58;simp only[List.length_append,List.length_singleton,HJE.out]at hap2;have hM':=HM.out;rw[hM']at hap hap2;have HAP:=A9 hap;have HAP2:=A9 hap2;have HNX:Hid (Below W0.heap.size W0 w9/\(Xs++[(⟨some ⟨g,0,none⟩,c',pats++[wh]⟩:Cu)]).map (·.l)=G9 (X.map (·.h)) (Xs++[(⟨some ⟨g,0,none⟩,c',pats++[wh]⟩:Cu)]).length/\Lz W0.heap.size w9 (.slice (some ⟨g2,0,none⟩) (Xs++[(⟨some ⟨g,0,none⟩,c',pats++[wh]⟩:Cu)]).length c2) (Xs++[(⟨some ⟨g,0,none⟩,c',pats++[wh]⟩:Cu)])):=by
    refine⟨HB.out.trans ((hbB.mono hsz).trans hb9),?_,?_⟩
    ·rw[List.length_append,List.length_singleton,HJE.out,HSU.out,List.map_append,HMM.out,HJE.out];rfl
    ·rw[List.length_append,List.length_singleton];exact hv9
   clear hap hap2 hb8 ho8 hbB ho9 hV8 hpa hg1 hsz hb9 hv9;rw[hM'];go_wp2_with(first
    |(at_builtin;refine AC rF _ _ _ rF _ _ _ rF rF HAP.out ?_)
    |(at_builtin;refine AC rF _ _ _ rF _ _ _ rF rF HAP2.out ?_))
   go_roundw
   case rel=>
    refine⟨Xs++[(⟨some ⟨g,0,none⟩,c',pats++[wh]⟩:Cu)],_,_,?_,?_,?_,HNX.out⟩
    ·rw[List.length_append,List.length_singleton,HJE.out];omega
    ·rw[List.length_append,List.length_singleton,HJE.out];go_num
    ·rw[List.length_append,List.length_singleton,HJE.out]
   case measure=>simp[intOf];omega
  ·have hje2:j=n:=oM;have e1:¬ (j:Int)<(n:Int):=oM;have hvt:=hvs.vs;rw[hm,hje,hje2]at hvt;have HVT:=A9 hvt;have HBE:Hid (Below w.heap.size w wr):=HW0.out.1.trans (hb.mono HW0.out.1.size);rw[hje];have HJ2:=A9 hje2;clear hvt hvs hm hb HR hlt hje hje2;go_wp2;go_ret;refine⟨_,rfl,?_,HBE.out⟩;rw[HJ2.out];exact HVT.out.mono (fun b _ e=>by have:=HW0.out.2;omega)
end Go.Proofs.YtcdpmgldkibfiaaGreat
