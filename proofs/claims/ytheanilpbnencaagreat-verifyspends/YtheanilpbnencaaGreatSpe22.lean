import Derived.Test.YtheanilpbnencaaGreatSpe1
import Derived.Test.YtheanilpbnencaaGreatSpe19
import Derived.Deep.CutBlock
import Derived.Deep.DeepCutAuto
namespace Go.Proofs.YtheanilpbnencaaGreat
open Go.RowKit Go.Proofs.Tryz
set_option linter.all false
set_option maxRecDepth 100000
set_option maxHeartbeats 16000000
theorem LY{T:Nat->Prop}(p0 p1 p2 p3 p5 p6 p7 p8:Option Addr)(n0 q0 n1 q1 n2 q2 n3 q3 n5 q5 n6 q6 n7 q7 n8 q8:Nat)(ct:Int)(pr:Option Addr)(qr:Nat)(X:List Cl)(N:Nat)(hN:X.length=N)(hX:N<=16384)(nn bt:Int)(kd ka kb kk:Nat)(hd:kd<N)(w:World)(hT:∀b,T b->b<w.heap.size)(hcs:AI T w (.slice pr N qr) X)(xa:Cl)(hxa:X[ka]? =some xa)(xb:Cl)(hxb:X[kb]? =some xb)(a0:Int)(hpa:xa.h.pats=[a0])(hP:Ar a0)(hw:0<=xb.h.whole/\xb.h.whole<=2147483647):
 Calls prog 20 #[.agg #[(.slice p0 n0 q0),(.slice p1 n1 q1),(.slice p2 n2 q2),(.slice p3 n3 q3),.slice pr N qr,(.slice p5 n5 q5),(.slice p6 n6 q6),(.slice p7 n7 q7),(.slice p8 n8 q8),(.int .i64 ct)],.agg #[.int .i64 16,.int .i64 (kd:Int),.int .i64 (ka:Int),.int .i64 (kb:Int),.int .i64 (kk:Int),.int .i64 nn,.int .u32 bt]] w fun e w'=>∃p9 q9 x,e=.returned (.agg #[(.slice p0 n0 q0),(.slice p1 n1 q1),(.slice p2 n2 q2),(.slice p3 n3 q3),.slice p9 N q9,(.slice p5 n5 q5),(.slice p6 n6 q6),(.slice p7 n7 q7),(.slice p8 n8 q8),(.int .i64 ct)])/\x.h=⟨[Hi a0 xb.h.whole],0⟩/\AI T w' (.slice p9 N q9) (X.set kd x)/\Below w.heap.size w w':=by
 have HPUT:Hid (∀v F I D (x:Cl),DW w F I D v->AJ (T2 w T) v x.p x.h.pats->Calls prog 44 #[.slice pr N qr,.int .i64 (kd:Int),.agg #[.slice x.p x.h.pats.length x.q,.int .i64 x.h.whole]] v fun e w'=>∃p q,e=.returned (.slice p N q)/\AI (T2 w T) w' (.slice p N q) (X.set kd x)/\Below v.heap.size v w'):=Bf (.slice pr N qr) X hN hX kd hd w hT hcs;have HT2:Hid (∀v:World,w.heap.size+1+1+1<v.heap.size->∀b,T2 w T b->b<v.heap.size):=fun v hv b hb=>Ch hT hb hv;have HXA:Hid (X[ka]? =some xa):=hxa;obtain⟨hal,hax⟩:=List.getElem?_eq_some_iff.1 hxa;obtain⟨rb,ro,rfl,hca⟩:=hcs.row.row.at hal;rw[hax]at hca;have x0:w.cell? ⟨rb,ro+ka*2,none⟩=some (.slice xa.p xa.h.pats.length xa.q):=hca.at 0 rfl;have x1:w.cell? ⟨rb,ro+ka*2+1,none⟩=some (.int .i64 xa.h.whole):=hca.at 1 rfl;have ha0:(0:Int)<=(ka:Int):=oM;have ha1:(ka:Int)<(N:Int):=oM;have hrb1:¬rb=w.heap.size:=by have:=A3 x0;intro e;simp only at this;omega
 have hrb2:¬rb=w.heap.size+1+1+1:=by have:=A3 x0;intro e;simp only at this;omega
 obtain⟨nb,no,hpe,-,-,hnc⟩:∃b o,xa.p=some ⟨b,o,none⟩/\¬T b/\b<w.heap.size/\∀j,j<xa.h.pats.length->w.cell? ⟨b,o+j,none⟩=some (.int .i64 (BO xa.h.pats j)):=by
  rcases hcs.nums xa (List.mem_of_getElem? hxa)with e|h
  .rw[hpa]at e;cases e
  .exact h
 have nz0:w.cell? ⟨nb,no,none⟩=some (.int .i64 a0):=by have:=hnc 0 (by rw[hpa];exact Nat.one_pos);rw[hpa]at this;exact this
 have hnb2:¬nb=w.heap.size+1+1+1:=by have:=A3 nz0;intro e;simp only at this;omega
 rw[hpa,hpe]at x0;have x4:w.cell? ⟨rb,ro+ka*2,none⟩=some (.slice (some ⟨nb,no,none⟩) 1 xa.q):=x0;obtain⟨hbl,hbx⟩:=List.getElem?_eq_some_iff.1 hxb;obtain⟨rbb,rob,eb,hcb⟩:=hcs.row.row.at hbl;simp only[Option.some.injEq,Addr.mk.injEq,and_true]at eb;obtain⟨rfl,rfl⟩:=eb;rw[hbx]at hcb;have yb:w.cell? ⟨rb,ro+kb*2+1,none⟩=some (.int .i64 xb.h.whole):=hcb.at 1 rfl;have hb1:(kb:Int)<(N:Int):=oM;have HKF:Hid (∀v,Calls prog 37 #[.int .i64 a0,.int .i64 xb.h.whole] v fun e w'=>e=.returned (.int .i64 (Hi a0 xb.h.whole))/\Below v.heap.size v w'):=fun v=>RE a0 hP.1 hP.2 _ oM oM v;have hb0:(0:Int)<=(kb:Int):=oM;have HD0:Hid (DW w (C6 (.slice p0 n0 q0) (.slice p1 n1 q1) (.slice p2 n2 q2) (.slice p3 n3 q3) (.slice (some ⟨rb,ro,none⟩) N qr) (.slice p5 n5 q5) (.slice p6 n6 q6) (.slice p7 n7 q7) (.slice p8 n8 q8) (.int .i64 ct)) (f7 (.int .i64 16) (.int .i64 (kd:Int)) (.int .i64 (ka:Int)) (.int .i64 (kb:Int)) (.int .i64 (kk:Int)) (.int .i64 nn) (.int .u32 bt)) (f2 (.slice none 0 0) (.int .i64 0)) _):=DW.start w (.slice p0 n0 q0) (.slice p1 n1 q1) (.slice p2 n2 q2) (.slice p3 n3 q3) (.slice (some ⟨rb,ro,none⟩) N qr) (.slice p5 n5 q5) (.slice p6 n6 q6) (.slice p7 n7 q7) (.slice p8 n8 q8) (.int .i64 ct) (.int .i64 16) (.int .i64 (kd:Int)) (.int .i64 (ka:Int)) (.int .i64 (kb:Int)) (.int .i64 (kk:Int)) (.int .i64 nn) (.int .u32 bt);clear hT hcs hN hxa hca hal hax hxb hcb hbl hbx hpa hpe hnc x0 x1;go_enter func20,ntmps20;go_upto_block 0 with fail;go_cut [] (fun wx=>∃x:Cl,Hid (x.h=⟨[Hi a0 xb.h.whole],0⟩)/\Hid (DW w (C6 (.slice p0 n0 q0) (.slice p1 n1 q1) (.slice p2 n2 q2) (.slice p3 n3 q3) (.slice (some ⟨rb,ro,none⟩) N qr) (.slice p5 n5 q5) (.slice p6 n6 q6) (.slice p7 n7 q7) (.slice p8 n8 q8) (.int .i64 ct)) (f7 (.int .i64 16) (.int .i64 (kd:Int)) (.int .i64 (ka:Int)) (.int .i64 (kb:Int)) (.int .i64 (kk:Int)) (.int .i64 nn) (.int .u32 bt)) (f2 (.slice x.p x.h.pats.length x.q) (.int .i64 x.h.whole)) wx)/\Hid (AJ (T2 w T) wx x.p x.h.pats))
 case first=>
  obtain⟨W,hW⟩:=gA (((((w.alloc (.cells #[(.slice p0 n0 q0),(.slice p1 n1 q1),(.slice p2 n2 q2),(.slice p3 n3 q3),.slice (some ⟨rb,ro,none⟩) N qr,(.slice p5 n5 q5),(.slice p6 n6 q6),(.slice p7 n7 q7),(.slice p8 n8 q8),(.int .i64 ct)] 69)).alloc (.cells #[.int .i64 16,.int .i64 (kd:Int),.int .i64 (ka:Int),.int .i64 (kb:Int),.int .i64 (kk:Int),.int .i64 nn,.int .u32 bt] 55)).alloc (.cells #[.slice none 0 0,.slice none 0 0,.slice none 0 0,.slice none 0 0,.slice none 0 0,.slice none 0 0,.slice none 0 0,.slice none 0 0,.slice none 0 0,.int .i64 0] 69)).alloc (.cells #[.slice none 0 0,.int .i64 0] 60)))
  rw[hW]at HD0;rw[hW];clear hW;have hsz:=HD0.out.size;have f0:W.cell? ⟨w.heap.size,4,none⟩=some (.slice (some ⟨rb,ro,none⟩) N qr):=HD0.out.f.cell (i:=4) dE;have i0:W.cell? ⟨w.heap.size+1,0,none⟩=some (.int .i64 16):=HD0.out.i.cell (i:=0) dE;have i1:W.cell? ⟨w.heap.size+1,1,none⟩=some (.int .i64 (kd:Int)):=HD0.out.i.cell (i:=1) dE;have i2:W.cell? ⟨w.heap.size+1,2,none⟩=some (.int .i64 (ka:Int)):=HD0.out.i.cell (i:=2) dE;have i3:W.cell? ⟨w.heap.size+1,3,none⟩=some (.int .i64 (kb:Int)):=HD0.out.i.cell (i:=3) dE;have i4:W.cell? ⟨w.heap.size+1,4,none⟩=some (.int .i64 (kk:Int)):=HD0.out.i.cell (i:=4) dE;have i5:W.cell? ⟨w.heap.size+1,5,none⟩=some (.int .i64 nn):=HD0.out.i.cell (i:=5) dE;have i6:W.cell? ⟨w.heap.size+1,6,none⟩=some (.int .u32 bt):=HD0.out.i.cell (i:=6) dE;have d0:W.cell? ⟨w.heap.size+1+1+1,0,none⟩=some (.slice none 0 0):=HD0.out.d.cell (i:=0) dE;have d1:W.cell? ⟨w.heap.size+1+1+1,1,none⟩=some (.int .i64 0):=HD0.out.d.cell (i:=1) dE;have z0:=HD0.out.d.frozen 0;have z1:=HD0.out.d.frozen 1;have x5:=kc HD0.out.bel x4;have nz1:=kc HD0.out.bel nz0;have y1:=kc HD0.out.bel yb;clear x4 nz0 yb i1 i4 i5 i6;go_upto_region 10 with fail;refine rG (fun v=>v.cell? ⟨w.heap.size,4,none⟩=some (.slice (some ⟨rb,ro,none⟩) N qr)/\v.cell? ⟨w.heap.size+1,2,none⟩=some (.int .i64 (ka:Int))/\v.cell? ⟨w.heap.size+1,3,none⟩=some (.int .i64 (kb:Int))/\v.cell? ⟨rb,ro+ka*2,none⟩=some (.slice (some ⟨nb,no,none⟩) 1 xa.q)/\v.cell? ⟨nb,no,none⟩=some (.int .i64 a0)/\v.cell? ⟨rb,ro+kb*2+1,none⟩=some (.int .i64 xb.h.whole)) fun hJ=>?_;refine Tf 0 1 2 3 4 5 ?_;refine Tf 6 7 8 9 10 11 ?_;refine Tc 12 13 14 ?_;refine Bm 15 ?_;clear hJ;refine AC 16 fun K hK=>?_;go_simp;(go_at_call 37;(with_reducible refine(HKF.out _).mono ?_);rintro e w3 ⟨rfl,hb3⟩;have HB3:Hid (Below W.heap.size W w3):=bel (A4 _) hb3;have HD3:Hid (DW w (C6 (.slice p0 n0 q0) (.slice p1 n1 q1) (.slice p2 n2 q2) (.slice p3 n3 q3) (.slice (some ⟨rb,ro,none⟩) N qr) (.slice p5 n5 q5) (.slice p6 n6 q6) (.slice p7 n7 q7) (.slice p8 n8 q8) (.int .i64 ct)) _ _ w3):=HD0.out.next HB3.out;clear hb3;have f0:=kc HB3.out f0;have i2:=kc HB3.out i2;have i3:=kc HB3.out i3;have x5:=kc HB3.out x5;have nz1:=kc HB3.out nz1;have y1:=kc HB3.out y1;clear d0 d1 z0 z1;have d0:w3.cell? ⟨w.heap.size+1+1+1,0,none⟩=some (.slice none 0 0):=HD3.out.d.cell (i:=0) dE;have d1:w3.cell? ⟨w.heap.size+1+1+1,1,none⟩=some (.int .i64 0):=HD3.out.d.cell (i:=1) dE;have z0:=HD3.out.d.frozen 0;have z1:=HD3.out.d.frozen 1;have d2:=(fun o=>kc (A0 w3 o) d0);have z2:=(fun o=>kf (A0 w3 o) d0 z0);have k0:=(fun o=>kc (A0 w3 o) f0);have k1:=(fun o=>kc (A0 w3 o) i2);have k2:=(fun o=>kc (A0 w3 o) i3);have k3:=(fun o=>kc (A0 w3 o) x5);have k4:=(fun o=>kc (A0 w3 o) nz1);have k5:=(fun o=>kc (A0 w3 o) y1);have sf0:=(fun o u=>Av (b:=⟨w.heap.size+1+1+1,0,none⟩) (kc (A0 w3 o) f0) iE u);have si2:=(fun o u=>Av (b:=⟨w.heap.size+1+1+1,0,none⟩) (kc (A0 w3 o) i2) iE u);have si3:=(fun o u=>Av (b:=⟨w.heap.size+1+1+1,0,none⟩) (kc (A0 w3 o) i3) iE u);have sx5:=(fun o u=>Av (b:=⟨w.heap.size+1+1+1,0,none⟩) (kc (A0 w3 o) x5) iE u);have snz1:=(fun o u=>Av (b:=⟨w.heap.size+1+1+1,0,none⟩) (kc (A0 w3 o) nz1) iE u);have sy1:=(fun o u=>Av (b:=⟨w.heap.size+1+1+1,0,none⟩) (kc (A0 w3 o) y1) iE u));try(go_wp2_with fail)
  refine AB hK fun hJ=>?_;clear hK K;clear hJ;refine AC 17 fun K hK=>?_;go_simp;refine AB hK fun hJ=>?_;clear hK K;refine Bm 18 ?_;clear hJ;refine AC 19 fun K hK=>?_;go_simp;refine AB hK fun hJ=>?_;clear hK K;refine wpAnyH_done kR ?_ _;go_wp2;go_meet;exact⟨⟨some ⟨w3.heap.size,0,none⟩,1,⟨[Hi a0 xb.h.whole],0⟩⟩,rfl,((HD3.next (A0 _ _)).put 0 _).congr (fun j hj=>by obtain rfl|rfl:j=0\/j=1:=oM;all_goals rfl),Hs HT2.out (HD3.size) _⟩
 case rest=>
  exact VY
theorem OC{T:Nat->Prop}(p0 p1 p2 p3 p5 p6 p7 p8:Option Addr)(n0 q0 n1 q1 n2 q2 n3 q3 n5 q5 n6 q6 n7 q7 n8 q8:Nat)(ct:Int)(pr:Option Addr)(qr:Nat)(X:List Cl)(N:Nat)(hN:X.length=N)(hX:N<=16384)(nn bt:Int)(kd ka kb kk:Nat)(hd:kd<N)(w:World)(hT:∀b,T b->b<w.heap.size)(hcs:AI T w (.slice pr N qr) X)(xa:Cl)(hxa:X[ka]? =some xa)(a0:Int)(hpa:xa.h.pats=[a0])(hP:Ar a0):
 Calls prog 20 #[.agg #[(.slice p0 n0 q0),(.slice p1 n1 q1),(.slice p2 n2 q2),(.slice p3 n3 q3),.slice pr N qr,(.slice p5 n5 q5),(.slice p6 n6 q6),(.slice p7 n7 q7),(.slice p8 n8 q8),(.int .i64 ct)],.agg #[.int .i64 18,.int .i64 (kd:Int),.int .i64 (ka:Int),.int .i64 (kb:Int),.int .i64 (kk:Int),.int .i64 nn,.int .u32 bt]] w fun e w'=>∃p9 q9 x,e=.returned (.agg #[(.slice p0 n0 q0),(.slice p1 n1 q1),(.slice p2 n2 q2),(.slice p3 n3 q3),.slice p9 N q9,(.slice p5 n5 q5),(.slice p6 n6 q6),(.slice p7 n7 q7),(.slice p8 n8 q8),(.int .i64 ct)])/\x.h=⟨[],B6 (a0%2147483648 != 0&&decide (a0%2147483648<=2139095040))⟩/\AI T w' (.slice p9 N q9) (X.set kd x)/\Below w.heap.size w w':=by
 have HPUT:Hid (∀v F I D (x:Cl),DW w F I D v->AJ (T2 w T) v x.p x.h.pats->Calls prog 44 #[.slice pr N qr,.int .i64 (kd:Int),.agg #[.slice x.p x.h.pats.length x.q,.int .i64 x.h.whole]] v fun e w'=>∃p q,e=.returned (.slice p N q)/\AI (T2 w T) w' (.slice p N q) (X.set kd x)/\Below v.heap.size v w'):=Bf (.slice pr N qr) X hN hX kd hd w hT hcs;have HT2:Hid (∀v:World,w.heap.size+1+1+1<v.heap.size->∀b,T2 w T b->b<v.heap.size):=fun v hv b hb=>Ch hT hb hv;have HXA:Hid (X[ka]? =some xa):=hxa;obtain⟨hal,hax⟩:=List.getElem?_eq_some_iff.1 hxa;obtain⟨rb,ro,rfl,hca⟩:=hcs.row.row.at hal;rw[hax]at hca;have x0:w.cell? ⟨rb,ro+ka*2,none⟩=some (.slice xa.p xa.h.pats.length xa.q):=hca.at 0 rfl;have x1:w.cell? ⟨rb,ro+ka*2+1,none⟩=some (.int .i64 xa.h.whole):=hca.at 1 rfl;have ha0:(0:Int)<=(ka:Int):=oM;have ha1:(ka:Int)<(N:Int):=oM;have hrb1:¬rb=w.heap.size:=by have:=A3 x0;intro e;simp only at this;omega
 have hrb2:¬rb=w.heap.size+1+1+1:=by have:=A3 x0;intro e;simp only at this;omega
 obtain⟨nb,no,hpe,-,-,hnc⟩:∃b o,xa.p=some ⟨b,o,none⟩/\¬T b/\b<w.heap.size/\∀j,j<xa.h.pats.length->w.cell? ⟨b,o+j,none⟩=some (.int .i64 (BO xa.h.pats j)):=by
  rcases hcs.nums xa (List.mem_of_getElem? hxa)with e|h
  .rw[hpa]at e;cases e
  .exact h
 have nz0:w.cell? ⟨nb,no,none⟩=some (.int .i64 a0):=by have:=hnc 0 (by rw[hpa];exact Nat.one_pos);rw[hpa]at this;exact this
 have hnb2:¬nb=w.heap.size+1+1+1:=by have:=A3 nz0;intro e;simp only at this;omega
 rw[hpa,hpe]at x0;have x4:w.cell? ⟨rb,ro+ka*2,none⟩=some (.slice (some ⟨nb,no,none⟩) 1 xa.q):=x0;have HKF:Hid (∀b v,Calls prog 39 #[.bool b] v fun e w'=>e=.returned (.int .i64 (B6 b))/\w'=v):=GC;have ht:a0.tmod 2147483648=a0%2147483648:=Int.tmod_eq_emod_of_nonneg hP.1;have hm0:0<=a0%2147483648:=Int.emod_nonneg _ dE;obtain⟨mm,hmm⟩:∃m,a0%2147483648=m:=⟨_,rfl⟩
 rw[hmm]at ht hm0 |-;have hP0:=hP.1;have hP1:=hP.2;have HD0:Hid (DW w (C6 (.slice p0 n0 q0) (.slice p1 n1 q1) (.slice p2 n2 q2) (.slice p3 n3 q3) (.slice (some ⟨rb,ro,none⟩) N qr) (.slice p5 n5 q5) (.slice p6 n6 q6) (.slice p7 n7 q7) (.slice p8 n8 q8) (.int .i64 ct)) (f7 (.int .i64 18) (.int .i64 (kd:Int)) (.int .i64 (ka:Int)) (.int .i64 (kb:Int)) (.int .i64 (kk:Int)) (.int .i64 nn) (.int .u32 bt)) (f2 (.slice none 0 0) (.int .i64 0)) _):=DW.start w (.slice p0 n0 q0) (.slice p1 n1 q1) (.slice p2 n2 q2) (.slice p3 n3 q3) (.slice (some ⟨rb,ro,none⟩) N qr) (.slice p5 n5 q5) (.slice p6 n6 q6) (.slice p7 n7 q7) (.slice p8 n8 q8) (.int .i64 ct) (.int .i64 18) (.int .i64 (kd:Int)) (.int .i64 (ka:Int)) (.int .i64 (kb:Int)) (.int .i64 (kk:Int)) (.int .i64 nn) (.int .u32 bt);clear hT hcs hN hxa hca hal hax hpa hpe hnc x0 x1 hP hmm;go_enter func20,ntmps20;go_upto_block 0 with fail;go_cut [] (fun wx=>∃x:Cl,Hid (x.h=⟨[],B6 (mm != 0&&decide (mm<=2139095040))⟩)/\Hid (DW w (C6 (.slice p0 n0 q0) (.slice p1 n1 q1) (.slice p2 n2 q2) (.slice p3 n3 q3) (.slice (some ⟨rb,ro,none⟩) N qr) (.slice p5 n5 q5) (.slice p6 n6 q6) (.slice p7 n7 q7) (.slice p8 n8 q8) (.int .i64 ct)) (f7 (.int .i64 18) (.int .i64 (kd:Int)) (.int .i64 (ka:Int)) (.int .i64 (kb:Int)) (.int .i64 (kk:Int)) (.int .i64 nn) (.int .u32 bt)) (f2 (.slice x.p x.h.pats.length x.q) (.int .i64 x.h.whole)) wx)/\Hid (AJ (T2 w T) wx x.p x.h.pats))
 case first=>
  obtain⟨W,hW⟩:=gA (((((w.alloc (.cells #[(.slice p0 n0 q0),(.slice p1 n1 q1),(.slice p2 n2 q2),(.slice p3 n3 q3),.slice (some ⟨rb,ro,none⟩) N qr,(.slice p5 n5 q5),(.slice p6 n6 q6),(.slice p7 n7 q7),(.slice p8 n8 q8),(.int .i64 ct)] 69)).alloc (.cells #[.int .i64 18,.int .i64 (kd:Int),.int .i64 (ka:Int),.int .i64 (kb:Int),.int .i64 (kk:Int),.int .i64 nn,.int .u32 bt] 55)).alloc (.cells #[.slice none 0 0,.slice none 0 0,.slice none 0 0,.slice none 0 0,.slice none 0 0,.slice none 0 0,.slice none 0 0,.slice none 0 0,.slice none 0 0,.int .i64 0] 69)).alloc (.cells #[.slice none 0 0,.int .i64 0] 60)))
  rw[hW]at HD0;rw[hW];clear hW;have hsz:=HD0.size;have f0:W.cell? ⟨w.heap.size,4,none⟩=some (.slice (some ⟨rb,ro,none⟩) N qr):=HD0.f.cell (i:=4) dE;have i0:W.cell? ⟨w.heap.size+1,0,none⟩=some (.int .i64 18):=HD0.i.cell (i:=0) dE;have i1:W.cell? ⟨w.heap.size+1,1,none⟩=some (.int .i64 (kd:Int)):=HD0.i.cell (i:=1) dE;have i2:W.cell? ⟨w.heap.size+1,2,none⟩=some (.int .i64 (ka:Int)):=HD0.i.cell (i:=2) dE;have i3:W.cell? ⟨w.heap.size+1,3,none⟩=some (.int .i64 (kb:Int)):=HD0.i.cell (i:=3) dE;have i4:W.cell? ⟨w.heap.size+1,4,none⟩=some (.int .i64 (kk:Int)):=HD0.i.cell (i:=4) dE;have i5:W.cell? ⟨w.heap.size+1,5,none⟩=some (.int .i64 nn):=HD0.i.cell (i:=5) dE;have i6:W.cell? ⟨w.heap.size+1,6,none⟩=some (.int .u32 bt):=HD0.i.cell (i:=6) dE;have d0:W.cell? ⟨w.heap.size+1+1+1,0,none⟩=some (.slice none 0 0):=HD0.d.cell (i:=0) dE;have d1:W.cell? ⟨w.heap.size+1+1+1,1,none⟩=some (.int .i64 0):=HD0.d.cell (i:=1) dE;have z0:=HD0.d.frozen 0;have z1:=HD0.d.frozen 1;have x5:=kc HD0.bel x4;have nz1:=kc HD0.bel nz0;clear x4 nz0 i1 i3 i4 i5 i6;cases hz:(mm != 0)
  .have hz':(mm==0)=true:=by simpa using hz
   go_wp2_with(go_at_call 39;(with_reducible refine(HKF.out _ _).mono ?_);rintro e w3 ⟨rfl,rfl⟩)
   all_goals
    go_meet;exact⟨⟨none,0,⟨[],B6 false⟩⟩,(by show(⟨[],B6 false⟩:Hd)=⟨[],B6 (mm != 0&&decide (mm<=2139095040))⟩;rw[hz];rfl),(HD0.put 1 _).congr (fun j hj=>by obtain rfl|rfl:j=0\/j=1:=oM;all_goals rfl),.inl rfl⟩
  .have hz':(mm==0)=false:=by simpa using hz
   go_wp2_with(go_at_call 39;(with_reducible refine(HKF.out _ _).mono ?_);rintro e w3 ⟨rfl,rfl⟩)
   all_goals
    go_meet;exact⟨⟨none,0,⟨[],B6 (decide (mm<=2139095040))⟩⟩,(by show(⟨[],B6 (decide (mm<=2139095040))⟩:Hd)=⟨[],B6 (mm != 0&&decide (mm<=2139095040))⟩;rw[hz];rfl),(HD0.put 1 _).congr (fun j hj=>by obtain rfl|rfl:j=0\/j=1:=oM;all_goals rfl),.inl rfl⟩
 case rest=>
  exact VY
theorem M0{T:Nat->Prop}(p0 p1 p2 p3 p5 p6 p7 p8:Option Addr)(n0 q0 n1 q1 n2 q2 n3 q3 n5 q5 n6 q6 n7 q7 n8 q8:Nat)(ct:Int)(pr:Option Addr)(qr:Nat)(X:List Cl)(N:Nat)(hN:X.length=N)(hX:N<=16384)(op:Int)(o1:21<=op)(o2:op<=28)(nn bt:Int)(kd ka kb kk:Nat)(hd:kd<N)(w:World)(hT:∀b,T b->b<w.heap.size)(hcs:AI T w (.slice pr N qr) X)(xa:Cl)(hxa:X[ka]? =some xa)(xb:Cl)(hxb:X[kb]? =some xb)(xc:Cl)(hxc:X[kk]? =some xc)(hwa:0<=xa.h.whole/\xa.h.whole<=2147483647)(hwb:0<=xb.h.whole/\xb.h.whole<=2147483647):
 Calls prog 20 #[.agg #[(.slice p0 n0 q0),(.slice p1 n1 q1),(.slice p2 n2 q2),(.slice p3 n3 q3),.slice pr N qr,(.slice p5 n5 q5),(.slice p6 n6 q6),(.slice p7 n7 q7),(.slice p8 n8 q8),(.int .i64 ct)],.agg #[.int .i64 op,.int .i64 (kd:Int),.int .i64 (ka:Int),.int .i64 (kb:Int),.int .i64 (kk:Int),.int .i64 nn,.int .u32 bt]] w fun e w'=>∃p9 q9 x,e=.returned (.agg #[(.slice p0 n0 q0),(.slice p1 n1 q1),(.slice p2 n2 q2),(.slice p3 n3 q3),.slice p9 N q9,(.slice p5 n5 q5),(.slice p6 n6 q6),(.slice p7 n7 q7),(.slice p8 n8 q8),(.int .i64 ct)])/\x.h=⟨[],Cc op xa.h.whole xb.h.whole xc.h.whole⟩/\AI T w' (.slice p9 N q9) (X.set kd x)/\Below w.heap.size w w':=by
 have HPUT:Hid (∀v F I D (x:Cl),DW w F I D v->AJ (T2 w T) v x.p x.h.pats->Calls prog 44 #[.slice pr N qr,.int .i64 (kd:Int),.agg #[.slice x.p x.h.pats.length x.q,.int .i64 x.h.whole]] v fun e w'=>∃p q,e=.returned (.slice p N q)/\AI (T2 w T) w' (.slice p N q) (X.set kd x)/\Below v.heap.size v w'):=Bf (.slice pr N qr) X hN hX kd hd w hT hcs;have HT2:Hid (∀v:World,w.heap.size+1+1+1<v.heap.size->∀b,T2 w T b->b<v.heap.size):=fun v hv b hb=>Ch hT hb hv;have HXA:Hid (X[ka]? =some xa):=hxa;obtain⟨hal,hax⟩:=List.getElem?_eq_some_iff.1 hxa;obtain⟨rb,ro,rfl,hca⟩:=hcs.row.row.at hal;rw[hax]at hca;have x0:w.cell? ⟨rb,ro+ka*2,none⟩=some (.slice xa.p xa.h.pats.length xa.q):=hca.at 0 rfl;have x1:w.cell? ⟨rb,ro+ka*2+1,none⟩=some (.int .i64 xa.h.whole):=hca.at 1 rfl;have ha0:(0:Int)<=(ka:Int):=oM;have ha1:(ka:Int)<(N:Int):=oM;have hrb1:¬rb=w.heap.size:=by have:=A3 x0;intro e;simp only at this;omega
 have hrb2:¬rb=w.heap.size+1+1+1:=by have:=A3 x0;intro e;simp only at this;omega
 obtain⟨hbl,hbx⟩:=List.getElem?_eq_some_iff.1 hxb;obtain⟨rbb,rob,eb,hcb⟩:=hcs.row.row.at hbl;simp only[Option.some.injEq,Addr.mk.injEq,and_true]at eb;obtain⟨rfl,rfl⟩:=eb;rw[hbx]at hcb;have yb:w.cell? ⟨rb,ro+kb*2+1,none⟩=some (.int .i64 xb.h.whole):=hcb.at 1 rfl;have hb1:(kb:Int)<(N:Int):=oM;obtain⟨hcl,hcx⟩:=List.getElem?_eq_some_iff.1 hxc;obtain⟨rbc,roc,ec,hcc⟩:=hcs.row.row.at hcl;simp only[Option.some.injEq,Addr.mk.injEq,and_true]at ec;obtain⟨rfl,rfl⟩:=ec;rw[hcx]at hcc;have yc:w.cell? ⟨rb,ro+kk*2+1,none⟩=some (.int .i64 xc.h.whole):=hcc.at 1 rfl;have hc1:(kk:Int)<(N:Int):=oM;have HKF:Hid (∀v,Calls prog 42 #[.int .i64 op,.int .i64 xa.h.whole,.int .i64 xb.h.whole,.int .i64 xc.h.whole] v fun e w'=>e=.returned (.int .i64 (Cc op xa.h.whole xb.h.whole xc.h.whole))/\w'=v):=fun v=>ML op _ _ _ ⟨o1,o2⟩ hwa hwb v;have hb0:(0:Int)<=(kb:Int):=oM;have hc0:(0:Int)<=(kk:Int):=oM;have on1:(op==1)=false:=by have:op≠1:=oM;simpa using this
 have on2:(op==2)=false:=by have:op≠2:=oM;simpa using this
 have on16:(op==16)=false:=by have:op≠16:=oM;simpa using this
 have on17:(op==17)=false:=by have:op≠17:=oM;simpa using this
 have on18:(op==18)=false:=by have:op≠18:=oM;simpa using this
 have on19:(op==19)=false:=by have:op≠19:=oM;simpa using this
 have on20:(op==20)=false:=by have:op≠20:=oM;simpa using this
 have on3:¬op<=15:=oM;have HD0:Hid (DW w (C6 (.slice p0 n0 q0) (.slice p1 n1 q1) (.slice p2 n2 q2) (.slice p3 n3 q3) (.slice (some ⟨rb,ro,none⟩) N qr) (.slice p5 n5 q5) (.slice p6 n6 q6) (.slice p7 n7 q7) (.slice p8 n8 q8) (.int .i64 ct)) (f7 (.int .i64 op) (.int .i64 (kd:Int)) (.int .i64 (ka:Int)) (.int .i64 (kb:Int)) (.int .i64 (kk:Int)) (.int .i64 nn) (.int .u32 bt)) (f2 (.slice none 0 0) (.int .i64 0)) _):=DW.start w (.slice p0 n0 q0) (.slice p1 n1 q1) (.slice p2 n2 q2) (.slice p3 n3 q3) (.slice (some ⟨rb,ro,none⟩) N qr) (.slice p5 n5 q5) (.slice p6 n6 q6) (.slice p7 n7 q7) (.slice p8 n8 q8) (.int .i64 ct) (.int .i64 op) (.int .i64 (kd:Int)) (.int .i64 (ka:Int)) (.int .i64 (kb:Int)) (.int .i64 (kk:Int)) (.int .i64 nn) (.int .u32 bt);clear hT hcs hN hxa hca hal hax hxb hcb hbl hbx hxc hcc hcl hcx x0;go_enter func20,ntmps20;go_upto_block 0 with fail;go_cut [] (fun wx=>∃x:Cl,Hid (x.h=⟨[],Cc op xa.h.whole xb.h.whole xc.h.whole⟩)/\Hid (DW w (C6 (.slice p0 n0 q0) (.slice p1 n1 q1) (.slice p2 n2 q2) (.slice p3 n3 q3) (.slice (some ⟨rb,ro,none⟩) N qr) (.slice p5 n5 q5) (.slice p6 n6 q6) (.slice p7 n7 q7) (.slice p8 n8 q8) (.int .i64 ct)) (f7 (.int .i64 op) (.int .i64 (kd:Int)) (.int .i64 (ka:Int)) (.int .i64 (kb:Int)) (.int .i64 (kk:Int)) (.int .i64 nn) (.int .u32 bt)) (f2 (.slice x.p x.h.pats.length x.q) (.int .i64 x.h.whole)) wx)/\Hid (AJ (T2 w T) wx x.p x.h.pats))
 case first=>
  obtain⟨W,hW⟩:=gA (((((w.alloc (.cells #[(.slice p0 n0 q0),(.slice p1 n1 q1),(.slice p2 n2 q2),(.slice p3 n3 q3),.slice (some ⟨rb,ro,none⟩) N qr,(.slice p5 n5 q5),(.slice p6 n6 q6),(.slice p7 n7 q7),(.slice p8 n8 q8),(.int .i64 ct)] 69)).alloc (.cells #[.int .i64 op,.int .i64 (kd:Int),.int .i64 (ka:Int),.int .i64 (kb:Int),.int .i64 (kk:Int),.int .i64 nn,.int .u32 bt] 55)).alloc (.cells #[.slice none 0 0,.slice none 0 0,.slice none 0 0,.slice none 0 0,.slice none 0 0,.slice none 0 0,.slice none 0 0,.slice none 0 0,.slice none 0 0,.int .i64 0] 69)).alloc (.cells #[.slice none 0 0,.int .i64 0] 60)))
  rw[hW]at HD0;rw[hW];clear hW;have hsz:=HD0.size;have f0:W.cell? ⟨w.heap.size,4,none⟩=some (.slice (some ⟨rb,ro,none⟩) N qr):=HD0.f.cell (i:=4) dE;have i0:W.cell? ⟨w.heap.size+1,0,none⟩=some (.int .i64 op):=HD0.i.cell (i:=0) dE;have i1:W.cell? ⟨w.heap.size+1,1,none⟩=some (.int .i64 (kd:Int)):=HD0.i.cell (i:=1) dE;have i2:W.cell? ⟨w.heap.size+1,2,none⟩=some (.int .i64 (ka:Int)):=HD0.i.cell (i:=2) dE;have i3:W.cell? ⟨w.heap.size+1,3,none⟩=some (.int .i64 (kb:Int)):=HD0.i.cell (i:=3) dE;have i4:W.cell? ⟨w.heap.size+1,4,none⟩=some (.int .i64 (kk:Int)):=HD0.i.cell (i:=4) dE;have i5:W.cell? ⟨w.heap.size+1,5,none⟩=some (.int .i64 nn):=HD0.i.cell (i:=5) dE;have i6:W.cell? ⟨w.heap.size+1,6,none⟩=some (.int .u32 bt):=HD0.i.cell (i:=6) dE;have d0:W.cell? ⟨w.heap.size+1+1+1,0,none⟩=some (.slice none 0 0):=HD0.d.cell (i:=0) dE;have d1:W.cell? ⟨w.heap.size+1+1+1,1,none⟩=some (.int .i64 0):=HD0.d.cell (i:=1) dE;have z0:=HD0.d.frozen 0;have z1:=HD0.d.frozen 1;have x5:=kc HD0.bel x1;have y1:=kc HD0.bel yb;have y2:=kc HD0.bel yc;clear x1 yb yc i1 i5 i6;have sf0:=(fun u=>Av (b:=⟨w.heap.size+1+1+1,1,none⟩) (f0) iE u)
  have si0:=(fun u=>Av (b:=⟨w.heap.size+1+1+1,1,none⟩) (i0) iE u)
  have si2:=(fun u=>Av (b:=⟨w.heap.size+1+1+1,1,none⟩) (i2) iE u)
  have si3:=(fun u=>Av (b:=⟨w.heap.size+1+1+1,1,none⟩) (i3) iE u)
  have si4:=(fun u=>Av (b:=⟨w.heap.size+1+1+1,1,none⟩) (i4) iE u)
  have sx5:=(fun u=>Av (b:=⟨w.heap.size+1+1+1,1,none⟩) (x5) iE u)
  have sy1:=(fun u=>Av (b:=⟨w.heap.size+1+1+1,1,none⟩) (y1) iE u)
  have sy2:=(fun u=>Av (b:=⟨w.heap.size+1+1+1,1,none⟩) (y2) iE u)
  go_upto_region 21 with fail;refine rG (fun v=>v.cell? ⟨w.heap.size,4,none⟩=some (.slice (some ⟨rb,ro,none⟩) N qr)/\v.cell? ⟨w.heap.size+1,0,none⟩=some (.int .i64 op)/\v.cell? ⟨w.heap.size+1,2,none⟩=some (.int .i64 (ka:Int))/\v.cell? ⟨w.heap.size+1,3,none⟩=some (.int .i64 (kb:Int))/\v.cell? ⟨w.heap.size+1,4,none⟩=some (.int .i64 (kk:Int))/\v.cell? ⟨rb,ro+ka*2+1,none⟩=some (.int .i64 xa.h.whole)/\v.cell? ⟨rb,ro+kb*2+1,none⟩=some (.int .i64 xb.h.whole)/\v.cell? ⟨rb,ro+kk*2+1,none⟩=some (.int .i64 xc.h.whole)) fun hJ=>?_;refine Tf 0 1 2 3 4 5 ?_;refine Tf 6 7 8 9 10 11 ?_;refine Tf 12 13 14 15 16 17 ?_;refine Tc 18 19 20 ?_;refine Tb 21 22 ?_;clear hJ;refine AC 23 fun K hK=>?_;go_simp;(go_at_call 42;(with_reducible refine(HKF.out _).mono ?_);rintro e w3 ⟨rfl,rfl⟩);try(go_wp2_with fail)
  refine AB hK fun hJ=>?_;clear hK K;refine Bm 24 ?_;clear hJ;refine AC 25 fun K hK=>?_;go_simp;refine AB hK fun hJ=>?_;clear hK K;refine wpAnyH_done kR ?_ _;go_wp2;go_meet;exact⟨⟨none,0,⟨[],_⟩⟩,rfl,((HD0.next (A4 _)).put 1 _).congr (fun j hj=>by obtain rfl|rfl:j=0\/j=1:=oM;all_goals rfl),.inl rfl⟩
 case rest=>
  exact VY
theorem Ws{c:Cd}{f:Fr}{X:List Cl}{i:Am}(kn:∀r∈Ao i (A5 i.op),N0 c f X r.toNat)(h:(A5 i.op).a≠0){x:Cl}(hx:X[i.a.toNat]? =some x)(h0:0<=i.a):x.h=CP c f i.a:=by
 obtain⟨y,hy,e⟩:=kn i.a (IM h);rw[hx]at hy;cases hy
 rw[e,show((i.a.toNat:Nat):Int)=i.a by omega]
theorem P3{c:Cd}{f:Fr}{r:Int}(h:(A7 c.regs r).kind≠2):(CP c f r).whole=0:=by
 unfold CP;split
 .rfl
 .rfl
theorem Jw{c:Cd}(hg:Good c){r:Int}(h0:0<=r)(h1:r<(c.regs.length:Int))(h3:(A7 c.regs r).kind=3):∃p:Nat,(A7 c.regs r).par=(p:Int)/\p<c.sign.length:=by
 obtain⟨j,rfl⟩:∃j:Nat,r=(j:Int):=⟨r.toNat,oM⟩
 have hr:j<c.regs.length:=oM;rw[D8 hr]at h3 |-;exact Cp (hg.type (gD hr) h3)
theorem Td{c:Cd}{G P:List (List Int)}{f:Fr}{i:Am}{s:Wk}{X S O X' S' O':List Cl}(hg:Good c)(ok:Ij c f)(t:AF c s i=true)(hb:Ar i.bits)(fg:DN c G)(fp:DN c P)(nd:Cz c f i)(rel:LH c f X S O)(kn:∀r∈Ao i (A5 i.op),N0 c f X r.toNat)(did:VV c G P f i X S O X' S' O'):
 LH c (DF c G P f i) X' S' O'/\∀r,(((A5 i.op).d≠0->r≠i.d.toNat)->N0 c f X r)->r<c.regs.length->N0 c (DF c G P f i) X' r:=by
 obtain⟨hk,h2,_,_⟩:=AX t;have hok:Ij c (DF c G P f i):=US hg ok hk hb nd fg fp;rcases did with⟨hd,⟨x,rfl,hx⟩,rfl,rfl⟩|⟨h33,rfl,⟨x,hxa,rfl⟩,rfl⟩|⟨h31,rfl,rfl,x,hxa,rfl⟩|⟨hm,rfl,rfl,rfl⟩
 .have hop:=(MF hk).1 hd;obtain⟨d0,d1⟩:=Ac (Dl h2) hd;have hso:CN c (DF c G P f i) i.d.toNat:=Qc hg ok hk nd fun h=>by
   rcases h with h|h
   .exact absurd h hd
   .exact absurd rfl h
  have hh:=QX hg hok d0 d1 hso;have hsl:(DF c G P f i).slots=f.slots:=(E7 hk).1 hop.2.1;have hou:(DF c G P f i).outs=f.outs:=(E7 hk).2 hop.1;refine⟨⟨by rw[List.length_set];exact rel.xl,fun y hy=>?_,by rw[hsl];exact rel.sl,by rw[hsl];exact rel.sz,rel.ol,by rw[hou];exact rel.oo⟩,fun r hr hrl=>?_⟩
  .rcases List.mem_or_eq_of_mem_set hy with e|rfl
   .exact rel.xok y e
   .rw[hx];refine⟨hh.2.1,?_,hh.2.2⟩;show(CP c (DF c G P f i) i.d).pats.length<=4096;rw[hh.1];exact hg.width _
  .by_cases e:r=i.d.toNat
   .subst e;have hl:i.d.toNat<X.length:=by rw[rel.xl];omega
    refine⟨x,by rw[List.getElem?_set_self hl],?_⟩;rw[hx,show((i.d.toNat:Nat):Int)=i.d by omega];rfl
   .obtain⟨y,hy,hye⟩:=hr fun _=>e;exact⟨y,by rw[List.getElem?_set_ne (fun q=>e q.symm)];exact hy,by rw[hye,Jz hk r fun _=>e]⟩
 .have hd:¬ (A5 i.op).d≠0:=by rw[h33];decide
  obtain⟨a0,a1,n0,n1,ht,hs⟩:=nd.store h33;have hxh:x.h=CP c f i.a:=Ws kn (by rw[h33];decide) hxa a0;have hou:(DF c G P f i).outs=f.outs:=(E7 hk).2 oM;have hsl:(DF c G P f i).slots=f.slots.set i.n.toNat (CP c f i.a):=by rw[Eu h33]
  refine⟨⟨rel.xl,rel.xok,by rw[hsl,List.map_set,rel.sl,hxh],fun j hj hkd=>?_,rel.ol,by rw[hou];exact rel.oo⟩,fun r hr _=>?_⟩
  .rw[hsl];by_cases e:j=i.n.toNat
   .subst e;have hl:i.n.toNat<f.slots.length:=by rw[ok.slotsL];exact hj
    rw[List.getElem?_set_self hl,Option.getD_some];refine P3 ?_;rw[<-ht];unfold BZ;rw[gB hj];exact hkd
   .rw[List.getElem?_set_ne (fun q=>e q.symm)];exact rel.sz j hj hkd
  .obtain⟨y,hy,hye⟩:=hr fun q=>absurd q hd;exact⟨y,hy,by rw[hye,Jz hk r fun q=>absurd q hd]⟩
 .have hd:¬ (A5 i.op).d≠0:=by rw[h31];decide
  obtain⟨hp,hlen⟩:=nd.out h31;have hxh:x.h=CP c f i.a:=Ws kn (by rw[h31];decide) hxa hp.r0;have hxv:x.h=⟨f.vecs i.a.toNat,0⟩:=by
   rw[hxh];unfold CP;rw[if_neg (by rw[hp.kind];decide),if_neg (by rw[hp.kind];decide)]
  have hsl:(DF c G P f i).slots=f.slots:=(E7 hk).1 oM;obtain⟨p,hpp,hpl⟩:=Jw hg hp.r0 hp.r1 hp.kind;have hn0:=hp.n0;have hou:(DF c G P f i).outs=QP f.outs p (Ax c (p:Int)) i.n.toNat (f.vecs i.a.toNat):=by rw[Es h31,hpp,Int.toNat_natCast]
  rw[hpp]at hlen hn0;rw[hpp,Int.toNat_natCast];have hnk:i.n.toNat<Ax c (p:Int):=by
   unfold Ax;rcases hn0 with e|⟨e,e2⟩
   .rw[e];split<;>decide
   .rw[e,if_pos e2];decide
  have hap:Ax c (p:Int)<=2:=by unfold Ax;split<;>decide
  refine⟨⟨rel.xl,rel.xok,by rw[hsl];exact rel.sl,by rw[hsl];exact rel.sz,by rw[List.length_set];exact rel.ol,fun q n hq hn=>?_⟩,fun r hr _=>?_⟩
  .obtain⟨o,h1,h3,h4,h5⟩:=rel.oo q n hq hn;have hq2:Ax c (q:Int)<=2:=by unfold Ax;split<;>decide
   rw[hou];by_cases e:2*q+n=2*p+i.n.toNat
   .have eq:q=p:=oM;have en:n=i.n.toNat:=oM;subst eq;have hol:2*q+i.n.toNat<O.length:=by rw[rel.ol];omega
    refine⟨x,by rw[e,List.getElem?_set_self hol],by rw[hxv];exact hlen,by rw[hxv];exact ok.vecs _,fun j hj=>?_⟩;rw[hxv];unfold QP;have hK:0<Ax c (q:Int):=oM;have e1:(Ax c (q:Int)*j+n)%Ax c (q:Int)=n:=by rw[Nat.mul_add_mod,Nat.mod_eq_of_lt hn]
    have e2:(Ax c (q:Int)*j+n)/Ax c (q:Int)=j:=by rw[Nat.mul_add_div hK,Nat.div_eq_of_lt hn,Nat.add_zero]
    rw[if_pos ⟨rfl,by rw[e1,en],by rw[e2,hlen];exact hj⟩,e2]
   .refine⟨o,by rw[List.getElem?_set_ne (fun q=>e q.symm)];exact h1,h3,h4,fun j hj=>?_⟩;rw[h5 j hj];unfold QP;rw[if_neg];rintro⟨e1,e2,-⟩;subst e1;have e3:(Ax c (q:Int)*j+n)%Ax c (q:Int)=n:=by rw[Nat.mul_add_mod,Nat.mod_eq_of_lt hn]
    rw[e3]at e2;exact e (by rw[e2])
  .obtain⟨y,hy,hye⟩:=hr fun q=>absurd q hd;exact⟨y,hy,by rw[hye,Jz hk r fun q=>absurd q hd]⟩
 .rw[Bx hm];exact⟨rel,fun r hr _=>hr fun q=>absurd hm ((MF hk).1 q).2.2⟩
def PV(Q:Nat->Prop)(s:Wk)(k:Nat):Prop:=
 (k=0/\∀r∈s.set,Q r)\/(∃pre b rest,s.opens=pre++b::rest/\b.loop=false/\k=(pre.filter fun x=> !x.loop).length+1/\∀r∈s.set.take b.ahead,Q r)
theorem J0{c:Cd}{G P:List (List Int)}{s:Wk}{f:Fr}{k:Nat}{i:Am}{Q Q':Nat->Prop}(oks:D4 c.regs.length s)(t:AF c s i=true)(sk:PV Q s k)(hdo:k=0->i.op≠34->∀r∈(Al s i).set,Q' r)(hno:k≠0\/i.op=34->∀r,Q r->Q' r):PV Q' (Al s i) (AS c G P (f,k) i).2:=by
 obtain⟨hkn,_,hst,_⟩:=AX t;rcases sk with⟨rfl,hs⟩|⟨pre,b,rest,ho,hbl,rfl,hs⟩
 .by_cases h34:i.op=34
  .rw[JG h34];by_cases hz:f.whs i.a.toNat=0
   .rw[Jr c G P f 0 h34 (.inr hz)];exact .inr ⟨[],⟨false,i.n,s.set.length⟩,s.opens,rfl,rfl,rfl,fun r hr=>hno (.inr h34) r (hs r (List.mem_of_mem_take hr))⟩
   .rw[Js c G P f (fun e=>hz e.2)];exact .inl ⟨rfl,fun r hr=>hno (.inr h34) r (hs r hr)⟩
  .rw[Js c G P f (fun e=>h34 e.1)];exact .inl ⟨rfl,hdo rfl h34⟩
 .obtain⟨hah,hpre⟩:=Mo (by have:=oks.opens;rw[ho]at this;exact this);have hs':∀r∈s.set.take b.ahead,Q' r:=fun r hr=>hno (.inl oM) r (hs r hr);obtain⟨K,hK⟩:=gA ((pre.filter fun x=> !x.loop).length)
  rw[hK];by_cases h34:i.op=34
  .rw[Jr c G P f (K+1) h34 (.inl oM),JG h34];refine .inr ⟨⟨false,i.n,s.set.length⟩::pre,b,rest,by rw[ho];rfl,hbl,?_,hs'⟩;rw[List.filter_cons_of_pos rfl,List.length_cons,hK]
  .by_cases h35:i.op=35
   .rw[QC c G P f K h35,Gj (.inl h35)];have hnl:Aq s=false:=by
     exact Z7
    unfold Aq at hnl;unfold AE;rw[ho]at hnl |-;cases pre with
    |nil=>
     simp only[List.nil_append]at hnl |-;simp at hK;refine .inl ⟨hK.symm,fun r hr=>hs' r ?_⟩;rw[hbl]at hr;simpa using hr
    |cons p pre=>
     simp only[List.cons_append]at hnl |-;have hp:=hpre p sM;refine .inr ⟨pre,b,rest,rfl,hbl,?_,fun r hr=>hs' r ?_⟩
     .rw[List.filter_cons_of_pos (by rw[hnl];rfl),List.length_cons]at hK;omega
     .rw[hnl]at hr;simp only[Bool.false_eq_true,if_false,List.take_take]at hr;rw[Nat.min_eq_left hp]at hr;exact hr
   .rw[QD c G P f K h34 h35];by_cases h36:i.op=36
    .rw[JJ h36];refine .inr ⟨⟨true,i.n,s.set.length⟩::pre,b,rest,by rw[ho];rfl,hbl,?_,hs'⟩;rw[List.filter_cons_of_neg sM,hK]
    .by_cases h37:i.op=37
     .rw[Gj (.inr h37)];have hnl:Aq s=true:=by
       unfold Au at hst;rw[if_neg oM,if_neg oM,if_pos h37]at hst;exact hst
      unfold Aq at hnl;unfold AE;rw[ho]at hnl |-;cases pre with
      |nil=>
       simp only[List.nil_append]at hnl;rw[hbl]at hnl;cases hnl
      |cons p pre=>
       simp only[List.cons_append]at hnl |-;refine .inr ⟨pre,b,rest,rfl,hbl,?_,fun r hr=>hs' r ?_⟩
       .rw[List.filter_cons_of_neg (by rw[hnl];decide)]at hK;omega
       .rw[hnl]at hr;simpa using hr
     .rw[E8 h34 h35 h36 h37];obtain⟨h1,h2⟩:=JR (i:=i) (r:=A5 i.op) hah;exact .inr ⟨pre,b,rest,by rw[h2];exact ho,hbl,by rw[hK],fun r hr=>hs' r (by rw[h1]at hr;exact hr)⟩
structure Il(c:Cd)(G P:List (List Int))(f0:Fr)(j k:Nat)(f:Fr)(s:Wk)(X S O:List Cl):Prop where
 go:Tq c G P (f0,0) (c.list.take j)=(f,k)
 ok:Ij c f
 oks:D4 c.regs.length s
 sk:LI c s f k
 tk:Ca c s (c.list.drop j)=true
 rel:LH c f X S O
 kn:PV (N0 c f X) s k
theorem Il.taken{c:Cd}{G P:List (List Int)}{f0:Fr}{j k:Nat}{f:Fr}{s:Wk}{X S O:List Cl}(g:Il c G P f0 j k f s X S O)(hj:j<c.list.length):AF c s c.list[j]=true/\Ca c (Al s c.list[j]) (c.list.drop (j+1))=true:=by
 have:=g.tk;rw[List.drop_eq_getElem_cons hj]at this;unfold Ca at this;simpa using this
theorem Il.pass{c:Cd}{G P:List (List Int)}{f0:Fr}{j k:Nat}{f:Fr}{s:Wk}{X S O:List Cl}(g:Il c G P f0 j k f s X S O)(hg:Good c)(hbits:∀i∈c.list,Ar i.bits)(fg:DN c G)(fp:DN c P)(hj:j<c.list.length){k':Nat}(hn:AS c G P (f,k) c.list[j]=(f,k'))(hno:k≠0\/c.list[j].op=34):∃s',Il c G P f0 (j+1) k' f s' X S O:=by
 obtain⟨t1,t2⟩:=g.taken hj;obtain⟨o1,o2⟩:=Nu hg g.oks t1 g.ok (hbits _ (gD hj)) fg fp g.sk;have o3:=J0 (G:=G) (P:=P) (f:=f) (Q':=N0 c f X) g.oks t1 g.kn (fun e1 e2=>by rcases hno with h|h;exact absurd e1 h;exact absurd h e2) (fun _ _ h=>h);rw[hn]at o1 o2 o3;exact⟨Al s c.list[j],by rw[Kj c G P _ _ hj,g.go];exact hn,o1,g.oks.step t1,o2,t2,g.rel,o3⟩
theorem Il.need{c:Cd}{G P:List (List Int)}{f0:Fr}{j:Nat}{f:Fr}{s:Wk}{X S O:List Cl}(g:Il c G P f0 j 0 f s X S O)(hj:j<c.list.length):Cz c f c.list[j]/\(∀r∈Ao c.list[j] (A5 c.list[j].op),N0 c f X r.toNat):=by
 obtain⟨t1,t2⟩:=g.taken hj;have h1:∀r∈s.set,CN c f r:=by
  rcases g.sk with⟨_,h⟩|⟨pre,b,rest,_,_,h,_⟩
  .exact h
  .omega
 have h2:∀r∈s.set,N0 c f X r:=by
  rcases g.kn with⟨_,h⟩|⟨pre,b,rest,_,_,h,_⟩
  .exact h
  .omega
 exact⟨Nt t1 h1,fun r hr=>h2 _ (Ku (AX t1).2.2.2 hr)⟩
theorem Il.did{c:Cd}{G P:List (List Int)}{f0:Fr}{j:Nat}{f:Fr}{s:Wk}{X S O X' S' O':List Cl}(g:Il c G P f0 j 0 f s X S O)(hg:Good c)(hbits:∀i∈c.list,Ar i.bits)(fg:DN c G)(fp:DN c P)(hj:j<c.list.length)(hn:¬ (c.list[j].op=34/\f.whs c.list[j].a.toNat=0))(did:VV c G P f c.list[j] X S O X' S' O'):∃f' s',Il c G P f0 (j+1) 0 f' s' X' S' O':=by
 obtain⟨t1,t2⟩:=g.taken hj;have hbi:=hbits _ (gD hj);obtain⟨o1,o2⟩:=Nu hg g.oks t1 g.ok hbi fg fp g.sk;obtain⟨nd,hr⟩:=g.need hj;obtain⟨r1,r2⟩:=Td hg g.ok t1 hbi fg fp nd g.rel hr did;have hk:∀r∈s.set,N0 c f X r:=by
  rcases g.kn with⟨_,h⟩|⟨pre,b,rest,_,_,h,_⟩
  .exact h
  .omega
 have hoks:=g.oks.step t1;have o3:=J0 (G:=G) (P:=P) (f:=f) (Q':=N0 c (DF c G P f c.list[j]) X') g.oks t1 g.kn (fun _ h34 r hr=>?_) (fun h r hr=>?_)
 .rw[Js c G P f hn]at o1 o2 o3;exact⟨DF c G P f c.list[j],Al s c.list[j],by rw[Kj c G P _ _ hj,g.go];exact Js c G P f hn,o1,hoks,o2,t2,r1,o3⟩
 .refine r2 r (fun hne=>hk r ?_) (hoks.lt r hr);by_cases h35:c.list[j].op=35\/c.list[j].op=37
  .rw[Gj h35]at hr;exact IL hr
  .by_cases h36:c.list[j].op=36
   .rw[JJ h36]at hr;exact hr
   .rw[E8 h34 oM h36 oM]at hr;rcases Nr hr with h|⟨h,h'⟩
    .exact h
    .exact absurd h' (hne h)
 .rcases h with h|h
  .exact absurd rfl h
  .obtain⟨y,hy,_⟩:=id hr;exact r2 r (fun _=>hr) (by have:=(List.getElem?_eq_some_iff.1 hy).1;rw[g.rel.xl]at this;exact this)
end Go.Proofs.YtheanilpbnencaaGreat
