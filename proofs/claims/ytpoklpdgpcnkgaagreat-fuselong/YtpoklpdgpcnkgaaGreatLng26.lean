import Derived.Test.YtpoklpdgpcnkgaaGreatLng1
import Derived.Test.YtpoklpdgpcnkgaaGreatLng20
import Derived.Deep.CutBlock
import Derived.Deep.DeepCutAuto
import Derived.Test.YtpoklpdgpcnkgaaGreatLng17
import Derived.Test.YtpoklpdgpcnkgaaGreatLng7
namespace Go.Proofs.YtpoklpdgpcnkgaaGreat
open Go.RowKit Go.Proofs.Tryz
set_option linter.all false
set_option maxRecDepth 100000
set_option maxHeartbeats 16000000
theorem Vq{T:Nat->Prop}(p0 p1 p2 p3 p5 p6 p7 p8:Option Addr)(n0 q0 n1 q1 n2 q2 n3 q3 n5 q5 n6 q6 n7 q7 n8 q8:Nat)(ct:Int)(pr:Option Addr)(qr:Nat)(X:List Cl)(N:Nat)(hN:X.length=N)(hX:N<=16384)(nn bt:Int)(kd ka kb kk:Nat)(w:World)(hT:∀b,T b->b<w.heap.size)(hcs:AV T w (.slice pr N qr) X)(xa:Cl)(hxa:X[ka]? =some xa)(kn:Nat)(hnn:nn=(kn:Int))(hkn:kn<=1)(par lb lo:Nat)(tk:Int)(h1:p1=some ⟨lb,lo,none⟩)(hka:ka<n1)(t1:w.cell? ⟨lb,lo+ka*2+1,none⟩=some (.int .i64 (par:Int)))(O:List Cl)(hO:O.length=n6)(hol:n6<=128)(hix:2*par+kn<n6)(hoo:IJ T w (.slice p6 n6 q6) O):
 Calls prog 77 #[.agg #[(.slice p0 n0 q0),(.slice p1 n1 q1),(.slice p2 n2 q2),(.slice p3 n3 q3),.slice pr N qr,(.slice p5 n5 q5),(.slice p6 n6 q6),(.slice p7 n7 q7),(.slice p8 n8 q8),(.int .i64 ct)],.agg #[.int .i64 31,.int .i64 (kd:Int),.int .i64 (ka:Int),.int .i64 (kb:Int),.int .i64 (kk:Int),.int .i64 nn,.int .u32 bt]] w fun e w'=>∃p9 q9,e=.returned (.agg #[(.slice p0 n0 q0),(.slice p1 n1 q1),(.slice p2 n2 q2),(.slice p3 n3 q3),.slice pr N qr,(.slice p5 n5 q5),.slice p9 n6 q9,(.slice p7 n7 q7),(.slice p8 n8 q8),(.int .i64 ct)])/\IJ T w' (.slice p9 n6 q9) (O.set (2*par+kn) xa)/\Below w.heap.size w w':=by
 have HT2:Hid (∀v:World,w.heap.size+1+1+1<v.heap.size->∀b,T2 w T b->b<v.heap.size):=fun v hv b hb=>DV hT hb hv;subst h1 hnn;have HXA:Hid (X[ka]? =some xa):=hxa;obtain⟨hal,hax⟩:=List.getElem?_eq_some_iff.1 hxa;obtain⟨rb,ro,rfl,hca⟩:=hcs.row.row.at hal;rw[hax]at hca;have x0:w.cell? ⟨rb,ro+ka*2,none⟩=some (.slice xa.p xa.h.pats.length xa.q):=hca.at 0 rfl;have x1:w.cell? ⟨rb,ro+ka*2+1,none⟩=some (.int .i64 xa.h.whole):=hca.at 1 rfl;have ha0:(0:Int)<=(ka:Int):=oM;have ha1:(ka:Int)<(N:Int):=oM;have hrb1:¬rb=w.heap.size:=by have:=A6 x0;intro e;simp only at this;omega
 have hrb2:¬rb=w.heap.size+1+1+1:=by have:=A6 x0;intro e;simp only at this;omega
 have HOT:Hid (∀v,Below w.heap.size w v->w.heap.size+1+1+1<v.heap.size->∃g cap w1,(Builtin.append_ #[142,142] 142 #[.slice none 0 0,.slice p6 n6 q6]).run prog v=.ok (.slice (some ⟨g,0,none⟩) n6 cap) w1/\Below v.heap.size v w1/\(∃z,w1.cell? ⟨g,2*par+kn,none⟩=some z)/\w1.frozen? ⟨g,2*par+kn,none⟩=false/\v.heap.size<=g/\∀x:Cl,Bf (T2 w T) v x.p x.h.pats->IJ (T2 w T) (w1.setCell ⟨g,2*par+kn,none⟩ (.slice x.p x.h.pats.length x.q)) (.slice (some ⟨g,0,none⟩) n6 cap) (O.set (2*par+kn) x)):=fun v hb hv=>Zz hO oM ((hoo.mono fun b hb e=>e.elim id fun e=>by omega).below hb) (fun b hb=>DV hT hb hv) _ hix;have HN0:Hid (Bf T w xa.p xa.h.pats):=hcs.nums xa (List.mem_of_getElem? hxa);have ha2:(ka:Int)<(n1:Int):=oM;have w1':IntKind.i64.wrap (2*(par:Int))=((2*par:Nat):Int):=by rw[IntKind.wrap_i64];omega
 have w2':IntKind.i64.wrap (((2*par:Nat):Int)+(kn:Int))=((2*par+kn:Nat):Int):=by rw[IntKind.wrap_i64];omega
 have w3':(0:Int)<=((2*par+kn:Nat):Int):=oM;have w4':((2*par+kn:Nat):Int)<(n6:Int):=oM;have l1:=A6 x0;have l2:=A6 t1;simp only at l1 l2;obtain⟨ix,hixe⟩:∃i,2*par+kn=i:=⟨_,rfl⟩
 rw[hixe]at HOT hix w2' w3' w4' |-;have w5':IntKind.i64.wrap (2*(par:Int)+(kn:Int))=(ix:Int):=by rw[IntKind.wrap_i64];omega
 have HD0:Hid (DW w (DC (.slice p0 n0 q0) (.slice (some ⟨lb,lo,none⟩) n1 q1) (.slice p2 n2 q2) (.slice p3 n3 q3) (.slice (some ⟨rb,ro,none⟩) N qr) (.slice p5 n5 q5) (.slice p6 n6 q6) (.slice p7 n7 q7) (.slice p8 n8 q8) (.int .i64 ct)) (f7 (.int .i64 31) (.int .i64 (kd:Int)) (.int .i64 (ka:Int)) (.int .i64 (kb:Int)) (.int .i64 (kk:Int)) (.int .i64 (kn:Int)) (.int .u32 bt)) (f2 (.slice none 0 0) (.int .i64 0)) _):=DW.start w (.slice p0 n0 q0) (.slice (some ⟨lb,lo,none⟩) n1 q1) (.slice p2 n2 q2) (.slice p3 n3 q3) (.slice (some ⟨rb,ro,none⟩) N qr) (.slice p5 n5 q5) (.slice p6 n6 q6) (.slice p7 n7 q7) (.slice p8 n8 q8) (.int .i64 ct) (.int .i64 31) (.int .i64 (kd:Int)) (.int .i64 (ka:Int)) (.int .i64 (kb:Int)) (.int .i64 (kk:Int)) (.int .i64 (kn:Int)) (.int .u32 bt);clear hT hcs hN hoo hca hxa hal hax hixe;go_enter func77,ntmps77;go_upto_block 0 with fail;obtain⟨W,hW⟩:=gA (((((w.alloc (.cells #[(.slice p0 n0 q0),(.slice (some ⟨lb,lo,none⟩) n1 q1),(.slice p2 n2 q2),(.slice p3 n3 q3),.slice (some ⟨rb,ro,none⟩) N qr,(.slice p5 n5 q5),(.slice p6 n6 q6),(.slice p7 n7 q7),(.slice p8 n8 q8),(.int .i64 ct)] 144)).alloc (.cells #[.int .i64 31,.int .i64 (kd:Int),.int .i64 (ka:Int),.int .i64 (kb:Int),.int .i64 (kk:Int),.int .i64 (kn:Int),.int .u32 bt] 45)).alloc (.cells #[.slice none 0 0,.slice none 0 0,.slice none 0 0,.slice none 0 0,.slice none 0 0,.slice none 0 0,.slice none 0 0,.slice none 0 0,.slice none 0 0,.int .i64 0] 144)).alloc (.cells #[.slice none 0 0,.int .i64 0] 109)))
 rw[hW]at HD0;rw[hW];clear hW;have hsz:=HD0.size;have f0:W.cell? ⟨w.heap.size,4,none⟩=some (.slice (some ⟨rb,ro,none⟩) N qr):=HD0.f.cell (i:=4) dE;have i0:W.cell? ⟨w.heap.size+1,0,none⟩=some (.int .i64 31):=HD0.i.cell (i:=0) dE;have i2:W.cell? ⟨w.heap.size+1,2,none⟩=some (.int .i64 (ka:Int)):=HD0.i.cell (i:=2) dE;have i5:W.cell? ⟨w.heap.size+1,5,none⟩=some (.int .i64 (kn:Int)):=HD0.i.cell (i:=5) dE;have x2:=kc HD0.bel x0;have t2:=kc HD0.bel t1;have f1:W.cell? ⟨w.heap.size,1,none⟩=some (.slice (some ⟨lb,lo,none⟩) n1 q1):=HD0.f.cell (i:=1) dE;have f6:W.cell? ⟨w.heap.size,6,none⟩=some (.slice p6 n6 q6):=HD0.f.cell (i:=6) dE;have hbW:=HD0.bel.size;obtain⟨g,cap,w1,hrun,hb1,⟨z,hz⟩,hfz,hgl,hnx⟩:=HOT.out W HD0.bel hsz;have HRUN:Hid _:=hrun;have HB3:Hid (Below W.heap.size W w1):=hb1;have HDV:Hid (DW w _ _ _ (w1.setCell ⟨g,ix,none⟩ (.slice xa.p xa.h.pats.length xa.q)).drew/\IJ (T2 w T) (w1.setCell ⟨g,ix,none⟩ (.slice xa.p xa.h.pats.length xa.q)).drew (.slice (some ⟨g,0,none⟩) n6 cap) (O.set ix xa)):=⟨(HD0.next (hb1.setCell hgl _)).next (A7 _),(hnx xa (NS HN0.out HD0.bel)).below (A7 _)⟩
 clear hrun hnx x0 x1 t1 HOT;go_upto_region 36 with(at_builtin;refine Au rF _ _ _ rF _ _ _ rF rF HRUN.out ?_)
 have f0:=kc HB3.out f0;have f1:=kc HB3.out f1;have i2:=kc HB3.out i2;have i5:=kc HB3.out i5;have x2:=kc HB3.out x2;have t2:=kc HB3.out t2;have sf0:=(fun u=>AO (b:=⟨g,ix,none⟩) (f0) iE u)
 have sf1:=(fun u=>AO (b:=⟨g,ix,none⟩) (f1) iE u)
 have si2:=(fun u=>AO (b:=⟨g,ix,none⟩) (i2) iE u)
 have si5:=(fun u=>AO (b:=⟨g,ix,none⟩) (i5) iE u)
 have sx2:=(fun u=>AO (b:=⟨g,ix,none⟩) (x2) iE u)
 have st2:=(fun u=>AO (b:=⟨g,ix,none⟩) (t2) iE u)
 clear hb1;refine rG (fun v=>v.cell? ⟨w.heap.size,4,none⟩=some (.slice (some ⟨rb,ro,none⟩) N qr)/\v.cell? ⟨w.heap.size,1,none⟩=some (.slice (some ⟨lb,lo,none⟩) n1 q1)/\v.cell? ⟨w.heap.size+1,2,none⟩=some (.int .i64 (ka:Int))/\v.cell? ⟨w.heap.size+1,5,none⟩=some (.int .i64 (kn:Int))/\v.cell? ⟨rb,ro+ka*2,none⟩=some (.slice xa.p xa.h.pats.length xa.q)/\v.cell? ⟨lb,lo+ka*2+1,none⟩=some (.int .i64 (par:Int))) fun yH=>?_;refine Tf 0 1 2 3 4 5 ?_;refine Tf 6 7 8 9 10 11 ?_;refine Tf 12 13 14 15 16 17 ?_;refine Tc 18 19 20 ?_;clear yH;refine AJ 21 fun K hK=>?_;go_simp;refine AF hK fun yH=>?_;clear hK K;refine wpAnyH_done kR ?_ _;obtain⟨V1,hV1⟩:∃V,(w1.setCell ⟨g,ix,none⟩ (.slice xa.p xa.h.pats.length xa.q)).drew=V:=⟨_,rfl⟩
 rw[hV1]at HDV;try rw[hV1]
 clear hV1 sf0 sf1 si2 si5 sx2 st2 hz hfz;have b6:V1.cell? ⟨w.heap.size,6,none⟩=some (.slice p6 n6 q6):=HDV.1.f.cell (i:=6) dE;have z6:=HDV.1.f.frozen 6;go_upto_region 38 with fail;have HE:Hid (DE w (.slice p0 n0 q0) (.slice (some ⟨lb,lo,none⟩) n1 q1) (.slice p2 n2 q2) (.slice p3 n3 q3) (.slice (some ⟨rb,ro,none⟩) N qr) (.slice p5 n5 q5) (.slice (some ⟨g,0,none⟩) n6 cap) (.slice p7 n7 q7) (.slice p8 n8 q8) (.int .i64 ct) (V1.setCell ⟨w.heap.size,6,none⟩ (.slice (some ⟨g,0,none⟩) n6 cap))/\IJ (T2 w T) (V1.setCell ⟨w.heap.size,6,none⟩ (.slice (some ⟨g,0,none⟩) n6 cap)) (.slice (some ⟨g,0,none⟩) n6 cap) (O.set ix xa)):=Tg HDV.1 HDV.2;obtain⟨V,hV⟩:=gA (V1.setCell ⟨w.heap.size,6,none⟩ (.slice (some ⟨g,0,none⟩) n6 cap))
 rw[hV]at HE;rw[hV];obtain⟨⟨-,c0,c1,c2,c3,c4,c5,c6,c7,c8,c9,r0,r1,r2,r3,r4,r5,r6,r7,r8,r9,y0,y1,y2,y3,y4,y5,y6,y7,y8,y9⟩,-⟩:=HE.out;clear hV b6 z6;go_wp2;refine bodyPost_ret Zgs rfl ?_;exact⟨_,_,rfl,YH HE.1 HE.2⟩
theorem Rz{T:Nat->Prop}(p0 p1 p2 p3 p5 p6 p7 p8:Option Addr)(n0 q0 n1 q1 n2 q2 n3 q3 n5 q5 n6 q6 n7 q7 n8 q8:Nat)(ct:Int)(pr:Option Addr)(qr:Nat)(X:List Cl)(N:Nat)(hN:X.length=N)(hX:N<=16384)(op:Int)(o1:3<=op)(o2:op<=15)(nn bt:Int)(kd ka kb kk:Nat)(hd:kd<N)(w:World)(hT:∀b,T b->b<w.heap.size)(hcs:AV T w (.slice pr N qr) X)(HV:Hd)(hel:∀v,Below w.heap.size w v->w.heap.size+1+1+1<v.heap.size->Calls prog 98 #[.agg #[(.slice p0 n0 q0),(.slice p1 n1 q1),(.slice p2 n2 q2),(.slice p3 n3 q3),.slice pr N qr,(.slice p5 n5 q5),(.slice p6 n6 q6),(.slice p7 n7 q7),(.slice p8 n8 q8),(.int .i64 ct)],.agg #[.int .i64 op,.int .i64 (kd:Int),.int .i64 (ka:Int),.int .i64 (kb:Int),.int .i64 (kk:Int),.int .i64 nn,.int .u32 bt]] v fun e w'=>∃x:Cl,e=.returned (.agg #[.slice x.p x.h.pats.length x.q,.int .i64 x.h.whole])/\x.h=HV/\Bf (T2 w T) w' x.p x.h.pats/\Below v.heap.size v w'):
 Calls prog 77 #[.agg #[(.slice p0 n0 q0),(.slice p1 n1 q1),(.slice p2 n2 q2),(.slice p3 n3 q3),.slice pr N qr,(.slice p5 n5 q5),(.slice p6 n6 q6),(.slice p7 n7 q7),(.slice p8 n8 q8),(.int .i64 ct)],.agg #[.int .i64 op,.int .i64 (kd:Int),.int .i64 (ka:Int),.int .i64 (kb:Int),.int .i64 (kk:Int),.int .i64 nn,.int .u32 bt]] w fun e w'=>∃p9 q9 x,e=.returned (.agg #[(.slice p0 n0 q0),(.slice p1 n1 q1),(.slice p2 n2 q2),(.slice p3 n3 q3),.slice p9 N q9,(.slice p5 n5 q5),(.slice p6 n6 q6),(.slice p7 n7 q7),(.slice p8 n8 q8),(.int .i64 ct)])/\x.h=HV/\AV T w' (.slice p9 N q9) (X.set kd x)/\Below w.heap.size w w':=by
 have HPUT:Hid (∀v F I D (x:Cl),DW w F I D v->Bf (T2 w T) v x.p x.h.pats->Calls prog 106 #[.slice pr N qr,.int .i64 (kd:Int),.agg #[.slice x.p x.h.pats.length x.q,.int .i64 x.h.whole]] v fun e w'=>∃p q,e=.returned (.slice p N q)/\AV (T2 w T) w' (.slice p N q) (X.set kd x)/\Below v.heap.size v w'):=Cj (.slice pr N qr) X hN hX kd hd w hT hcs;have HT2:Hid (∀v:World,w.heap.size+1+1+1<v.heap.size->∀b,T2 w T b->b<v.heap.size):=fun v hv b hb=>DV hT hb hv;have HEL:Hid (∀v,Below w.heap.size w v->w.heap.size+1+1+1<v.heap.size->Calls prog 98 #[.agg #[(.slice p0 n0 q0),(.slice p1 n1 q1),(.slice p2 n2 q2),(.slice p3 n3 q3),.slice pr N qr,(.slice p5 n5 q5),(.slice p6 n6 q6),(.slice p7 n7 q7),(.slice p8 n8 q8),(.int .i64 ct)],.agg #[.int .i64 op,.int .i64 (kd:Int),.int .i64 (ka:Int),.int .i64 (kb:Int),.int .i64 (kk:Int),.int .i64 nn,.int .u32 bt]] v fun e w'=>∃x:Cl,e=.returned (.agg #[.slice x.p x.h.pats.length x.q,.int .i64 x.h.whole])/\x.h=HV/\Bf (T2 w T) w' x.p x.h.pats/\Below v.heap.size v w'):=hel;have on1:(op==1)=false:=by have:op≠1:=oM;simpa using this
 have on2:(op==2)=false:=by have:op≠2:=oM;simpa using this
 have HD0:Hid (DW w (DC (.slice p0 n0 q0) (.slice p1 n1 q1) (.slice p2 n2 q2) (.slice p3 n3 q3) (.slice pr N qr) (.slice p5 n5 q5) (.slice p6 n6 q6) (.slice p7 n7 q7) (.slice p8 n8 q8) (.int .i64 ct)) (f7 (.int .i64 op) (.int .i64 (kd:Int)) (.int .i64 (ka:Int)) (.int .i64 (kb:Int)) (.int .i64 (kk:Int)) (.int .i64 nn) (.int .u32 bt)) (f2 (.slice none 0 0) (.int .i64 0)) _):=DW.start w (.slice p0 n0 q0) (.slice p1 n1 q1) (.slice p2 n2 q2) (.slice p3 n3 q3) (.slice pr N qr) (.slice p5 n5 q5) (.slice p6 n6 q6) (.slice p7 n7 q7) (.slice p8 n8 q8) (.int .i64 ct) (.int .i64 op) (.int .i64 (kd:Int)) (.int .i64 (ka:Int)) (.int .i64 (kb:Int)) (.int .i64 (kk:Int)) (.int .i64 nn) (.int .u32 bt);clear hT hcs hN hel;go_enter func77,ntmps77;go_upto_block 0 with fail;go_cut [] (fun wx=>∃x:Cl,Hid (x.h=HV)/\Hid (DW w (DC (.slice p0 n0 q0) (.slice p1 n1 q1) (.slice p2 n2 q2) (.slice p3 n3 q3) (.slice pr N qr) (.slice p5 n5 q5) (.slice p6 n6 q6) (.slice p7 n7 q7) (.slice p8 n8 q8) (.int .i64 ct)) (f7 (.int .i64 op) (.int .i64 (kd:Int)) (.int .i64 (ka:Int)) (.int .i64 (kb:Int)) (.int .i64 (kk:Int)) (.int .i64 nn) (.int .u32 bt)) (f2 (.slice x.p x.h.pats.length x.q) (.int .i64 x.h.whole)) wx)/\Hid (Bf (T2 w T) wx x.p x.h.pats))
 case first=>
  obtain⟨W,hW⟩:=gA (((((w.alloc (.cells #[(.slice p0 n0 q0),(.slice p1 n1 q1),(.slice p2 n2 q2),(.slice p3 n3 q3),.slice pr N qr,(.slice p5 n5 q5),(.slice p6 n6 q6),(.slice p7 n7 q7),(.slice p8 n8 q8),(.int .i64 ct)] 144)).alloc (.cells #[.int .i64 op,.int .i64 (kd:Int),.int .i64 (ka:Int),.int .i64 (kb:Int),.int .i64 (kk:Int),.int .i64 nn,.int .u32 bt] 45)).alloc (.cells #[.slice none 0 0,.slice none 0 0,.slice none 0 0,.slice none 0 0,.slice none 0 0,.slice none 0 0,.slice none 0 0,.slice none 0 0,.slice none 0 0,.int .i64 0] 144)).alloc (.cells #[.slice none 0 0,.int .i64 0] 109)))
  rw[hW]at HD0;rw[hW];clear hW;have hsz:=HD0.out.size;have f0:W.cell? ⟨w.heap.size,4,none⟩=some (.slice pr N qr):=HD0.out.f.cell (i:=4) dE;have i0:W.cell? ⟨w.heap.size+1,0,none⟩=some (.int .i64 op):=HD0.out.i.cell (i:=0) dE;have i1:W.cell? ⟨w.heap.size+1,1,none⟩=some (.int .i64 (kd:Int)):=HD0.out.i.cell (i:=1) dE;have i2:W.cell? ⟨w.heap.size+1,2,none⟩=some (.int .i64 (ka:Int)):=HD0.out.i.cell (i:=2) dE;have i3:W.cell? ⟨w.heap.size+1,3,none⟩=some (.int .i64 (kb:Int)):=HD0.out.i.cell (i:=3) dE;have i4:W.cell? ⟨w.heap.size+1,4,none⟩=some (.int .i64 (kk:Int)):=HD0.out.i.cell (i:=4) dE;have i5:W.cell? ⟨w.heap.size+1,5,none⟩=some (.int .i64 nn):=HD0.out.i.cell (i:=5) dE;have i6:W.cell? ⟨w.heap.size+1,6,none⟩=some (.int .u32 bt):=HD0.out.i.cell (i:=6) dE;have d0:W.cell? ⟨w.heap.size+1+1+1,0,none⟩=some (.slice none 0 0):=HD0.out.d.cell (i:=0) dE;have d1:W.cell? ⟨w.heap.size+1+1+1,1,none⟩=some (.int .i64 0):=HD0.out.d.cell (i:=1) dE;have z0:=HD0.out.d.frozen 0;have z1:=HD0.out.d.frozen 1;have fa0:W.cell? ⟨w.heap.size,0,none⟩=some (.slice p0 n0 q0):=HD0.out.f.cell (i:=0) dE;have fa1:W.cell? ⟨w.heap.size,1,none⟩=some (.slice p1 n1 q1):=HD0.out.f.cell (i:=1) dE;have fa2:W.cell? ⟨w.heap.size,2,none⟩=some (.slice p2 n2 q2):=HD0.out.f.cell (i:=2) dE;have fa3:W.cell? ⟨w.heap.size,3,none⟩=some (.slice p3 n3 q3):=HD0.out.f.cell (i:=3) dE;have fa4:W.cell? ⟨w.heap.size,4,none⟩=some (.slice pr N qr):=HD0.out.f.cell (i:=4) dE;have fa5:W.cell? ⟨w.heap.size,5,none⟩=some (.slice p5 n5 q5):=HD0.out.f.cell (i:=5) dE;have fa6:W.cell? ⟨w.heap.size,6,none⟩=some (.slice p6 n6 q6):=HD0.out.f.cell (i:=6) dE;have fa7:W.cell? ⟨w.heap.size,7,none⟩=some (.slice p7 n7 q7):=HD0.out.f.cell (i:=7) dE;have fa8:W.cell? ⟨w.heap.size,8,none⟩=some (.slice p8 n8 q8):=HD0.out.f.cell (i:=8) dE;have fa9:W.cell? ⟨w.heap.size,9,none⟩=some (.int .i64 ct):=HD0.out.f.cell (i:=9) dE;go_wp2_with(go_at_call 98;(with_reducible refine(HEL.out _ HD0.out.bel HD0.out.size).mono ?_);rintro e w3 ⟨⟨p,q,⟨ps,wh⟩⟩,rfl,hh,hn,hb3⟩;have HD3:Hid (DW w (DC (.slice p0 n0 q0) (.slice p1 n1 q1) (.slice p2 n2 q2) (.slice p3 n3 q3) (.slice pr N qr) (.slice p5 n5 q5) (.slice p6 n6 q6) (.slice p7 n7 q7) (.slice p8 n8 q8) (.int .i64 ct)) _ _ w3):=HD0.out.next hb3;have HN3:Hid (Bf (T2 w T) w3 p ps):=hn;have HH:Hid ((⟨ps,wh⟩:Hd)=HV):=hh;clear hb3 hn hh f0 i0 i1 i2 i3 i4 i5 i6 d0 d1 z0 z1 fa0 fa1 fa2 fa3 fa4 fa5 fa6 fa7 fa8 fa9;have d0:w3.cell? ⟨w.heap.size+1+1+1,0,none⟩=some (.slice none 0 0):=HD3.out.d.cell (i:=0) dE;have d1:w3.cell? ⟨w.heap.size+1+1+1,1,none⟩=some (.int .i64 0):=HD3.out.d.cell (i:=1) dE;have z0:=HD3.out.d.frozen 0;have z1:=HD3.out.d.frozen 1);go_meet;exact⟨⟨p,q,⟨ps,wh⟩⟩,HH.out,((HD3.out.put 0 _).put 1 _).congr (fun j hj=>by obtain rfl|rfl:j=0\/j=1:=oM;all_goals rfl),Ii (Ii HN3.out 0 _) 1 _⟩
 case rest=>
  obtain⟨x,HX,HD,HNM⟩:=hcut;have g0:wc.cell? ⟨w.heap.size,4,none⟩=some (.slice pr N qr):=HD.out.f.cell (i:=4) dE;have g1:wc.cell? ⟨w.heap.size+1,1,none⟩=some (.int .i64 (kd:Int)):=HD.out.i.cell (i:=1) dE;have g2:wc.cell? ⟨w.heap.size+1+1+1,0,none⟩=some (.slice x.p x.h.pats.length x.q):=HD.out.d.cell (i:=0) dE;have g3:wc.cell? ⟨w.heap.size+1+1+1,1,none⟩=some (.int .i64 x.h.whole):=HD.out.d.cell (i:=1) dE;go_upto_region 40 with(go_at_call 106;(with_reducible refine(HPUT.out _ _ _ _ _ HD.out HNM.out).mono ?_);rintro e w5 ⟨pu5,qu5,rfl,hcu,hb5⟩;have HC5:Hid (DW w (DC (.slice p0 n0 q0) (.slice p1 n1 q1) (.slice p2 n2 q2) (.slice p3 n3 q3) (.slice pr N qr) (.slice p5 n5 q5) (.slice p6 n6 q6) (.slice p7 n7 q7) (.slice p8 n8 q8) (.int .i64 ct)) _ _ w5/\AV (T2 w T) w5 (.slice pu5 N qu5) (X.set kd x)):=⟨HD.out.next hb5,hcu⟩;clear hb5 hcu g0 g1 g2 g3;have g4:w5.cell? ⟨w.heap.size,4,none⟩=some (.slice pr N qr):=HC5.out.1.f.cell (i:=4) dE;have z4:=HC5.out.1.f.frozen 4)
  exact Zad
theorem Tl{T:Nat->Prop}(p0 p1 p2 p3 p5 p6 p7 p8:Option Addr)(n0 q0 n1 q1 n2 q2 n3 q3 n5 q5 n6 q6 n7 q7 n8 q8:Nat)(ct:Int)(pr:Option Addr)(qr:Nat)(X:List Cl)(N:Nat)(hN:X.length=N)(hX:N<=16384)(op:Int)(o1:34<=op)(o2:op<=37)(nn bt:Int)(kd ka kb kk:Nat)(w:World)(hT:∀b,T b->b<w.heap.size)(hcs:AV T w (.slice pr N qr) X):
 Calls prog 77 #[.agg #[(.slice p0 n0 q0),(.slice p1 n1 q1),(.slice p2 n2 q2),(.slice p3 n3 q3),.slice pr N qr,(.slice p5 n5 q5),(.slice p6 n6 q6),(.slice p7 n7 q7),(.slice p8 n8 q8),(.int .i64 ct)],.agg #[.int .i64 op,.int .i64 (kd:Int),.int .i64 (ka:Int),.int .i64 (kb:Int),.int .i64 (kk:Int),.int .i64 nn,.int .u32 bt]] w fun e w'=>e=.returned (.agg #[(.slice p0 n0 q0),(.slice p1 n1 q1),(.slice p2 n2 q2),(.slice p3 n3 q3),.slice pr N qr,(.slice p5 n5 q5),(.slice p6 n6 q6),(.slice p7 n7 q7),(.slice p8 n8 q8),(.int .i64 ct)])/\Below w.heap.size w w':=by
 have HT2:Hid (∀v:World,w.heap.size+1+1+1<v.heap.size->∀b,T2 w T b->b<v.heap.size):=fun v hv b hb=>DV hT hb hv;have on1:(op==1)=false:=by have:op≠1:=oM;simpa using this
 have on2:(op==2)=false:=by have:op≠2:=oM;simpa using this
 have on16:(op==16)=false:=by have:op≠16:=oM;simpa using this
 have on17:(op==17)=false:=by have:op≠17:=oM;simpa using this
 have on18:(op==18)=false:=by have:op≠18:=oM;simpa using this
 have on19:(op==19)=false:=by have:op≠19:=oM;simpa using this
 have on20:(op==20)=false:=by have:op≠20:=oM;simpa using this
 have on29:(op==29)=false:=by have:op≠29:=oM;simpa using this
 have on30:(op==30)=false:=by have:op≠30:=oM;simpa using this
 have on31:(op==31)=false:=by have:op≠31:=oM;simpa using this
 have on32:(op==32)=false:=by have:op≠32:=oM;simpa using this
 have on33:(op==33)=false:=by have:op≠33:=oM;simpa using this
 have m1:¬op<=15:=oM;have m2:¬op<=28:=oM;have HD0:Hid (DW w (DC (.slice p0 n0 q0) (.slice p1 n1 q1) (.slice p2 n2 q2) (.slice p3 n3 q3) (.slice pr N qr) (.slice p5 n5 q5) (.slice p6 n6 q6) (.slice p7 n7 q7) (.slice p8 n8 q8) (.int .i64 ct)) (f7 (.int .i64 op) (.int .i64 (kd:Int)) (.int .i64 (ka:Int)) (.int .i64 (kb:Int)) (.int .i64 (kk:Int)) (.int .i64 nn) (.int .u32 bt)) (f2 (.slice none 0 0) (.int .i64 0)) _):=DW.start w (.slice p0 n0 q0) (.slice p1 n1 q1) (.slice p2 n2 q2) (.slice p3 n3 q3) (.slice pr N qr) (.slice p5 n5 q5) (.slice p6 n6 q6) (.slice p7 n7 q7) (.slice p8 n8 q8) (.int .i64 ct) (.int .i64 op) (.int .i64 (kd:Int)) (.int .i64 (ka:Int)) (.int .i64 (kb:Int)) (.int .i64 (kk:Int)) (.int .i64 nn) (.int .u32 bt);clear hT hcs hN;go_enter func77,ntmps77;go_upto_block 0 with fail;obtain⟨W,hW⟩:=gA (((((w.alloc (.cells #[(.slice p0 n0 q0),(.slice p1 n1 q1),(.slice p2 n2 q2),(.slice p3 n3 q3),.slice pr N qr,(.slice p5 n5 q5),(.slice p6 n6 q6),(.slice p7 n7 q7),(.slice p8 n8 q8),(.int .i64 ct)] 144)).alloc (.cells #[.int .i64 op,.int .i64 (kd:Int),.int .i64 (ka:Int),.int .i64 (kb:Int),.int .i64 (kk:Int),.int .i64 nn,.int .u32 bt] 45)).alloc (.cells #[.slice none 0 0,.slice none 0 0,.slice none 0 0,.slice none 0 0,.slice none 0 0,.slice none 0 0,.slice none 0 0,.slice none 0 0,.slice none 0 0,.int .i64 0] 144)).alloc (.cells #[.slice none 0 0,.int .i64 0] 109)))
 rw[hW]at HD0;rw[hW];clear hW;have hsz:=HD0.size;have f0:W.cell? ⟨w.heap.size,4,none⟩=some (.slice pr N qr):=HD0.f.cell (i:=4) dE;have i0:W.cell? ⟨w.heap.size+1,0,none⟩=some (.int .i64 op):=HD0.i.cell (i:=0) dE;have i2:W.cell? ⟨w.heap.size+1,2,none⟩=some (.int .i64 (ka:Int)):=HD0.i.cell (i:=2) dE;have i5:W.cell? ⟨w.heap.size+1,5,none⟩=some (.int .i64 nn):=HD0.i.cell (i:=5) dE;have HE:Hid (DE w (.slice p0 n0 q0) (.slice p1 n1 q1) (.slice p2 n2 q2) (.slice p3 n3 q3) (.slice pr N qr) (.slice p5 n5 q5) (.slice p6 n6 q6) (.slice p7 n7 q7) (.slice p8 n8 q8) (.int .i64 ct) W/\True):=⟨DE.of HD0.bel HD0.f HD0.r,trivial⟩
 obtain⟨⟨-,c0,c1,c2,c3,c4,c5,c6,c7,c8,c9,r0,r1,r2,r3,r4,r5,r6,r7,r8,r9,y0,y1,y2,y3,y4,y5,y6,y7,y8,y9⟩,-⟩:=HE.out;go_wp2;refine bodyPost_ret Zgs rfl ?_;refine⟨rfl,?_⟩;exact(K6 HE.1)
theorem Xx(c:Cd)(hg:By c)(v0 v1 v2 v3 ru su ou gu pu ct:Value)(f:Fr)(X S O:List Cl)(rel:PF c f X S O)(w:World)(hv:Dk w v0 v1 v2 v3 c)(hou:OuV w ou O):
 Calls prog 78 #[.agg #[v0,v1,v2,v3,ru,su,ou,gu,pu,ct]] w fun e w'=>∃p q,e=.returned (.slice p c.sign.length q)/\Gh (fun b=>b<w.heap.size) w' (.slice p c.sign.length q) (Gg c f)/\Below w.heap.size w w':=by
 have hsl:=hg.signL;have hol:=rel.ol;obtain⟨p0,q0,rfl,-⟩:=id hv.sign;obtain⟨po,qo,rfl,-⟩:=id hou.row;have HSG:Hid (AZ 3 AU w (.slice p0 c.sign.length q0) c.sign):=hv.sign;have HOU:Hid (OuV w (.slice po O.length qo) O):=hou;have HRL:Hid (By c/\PF c f X S O):=⟨hg,rel⟩
 obtain⟨n0,hn0⟩:∃n,c.sign.length=n:=⟨_,rfl⟩
 have HN0:Hid (c.sign.length=n0):=hn0;obtain⟨M,hM⟩:∃n,O.length=n:=⟨_,rfl⟩
 have HM:Hid (O.length=M/\M=2*n0):=⟨hM,oM⟩
 rw[hn0]at hsl HSG |-;rw[hM]at HOU |-;have HC:Hid (∀v,Below (w.alloc (.cells #[.slice p0 n0 q0,v1,v2,v3,ru,su,.slice po M qo,gu,pu,ct] 144)).heap.size (w.alloc (.cells #[.slice p0 n0 q0,v1,v2,v3,ru,su,.slice po M qo,gu,pu,ct] 144)) v->v.cell? ⟨w.heap.size,0,none⟩=some (.slice p0 n0 q0)/\v.cell? ⟨w.heap.size,6,none⟩=some (.slice po M qo)):=fun v hb=>⟨kc hb sG,kc hb sG⟩
 have hM2:M<=128:=oM;clear hg rel hol hv hou hn0 hM;go_enter func78,ntmps78;go_wp2
 go_loopw [3,4] (fun ov iv wr=>Below (w.alloc (.cells #[.slice p0 n0 q0,v1,v2,v3,ru,su,.slice po M qo,gu,pu,ct] 144)).heap.size (w.alloc (.cells #[.slice p0 n0 q0,v1,v2,v3,ru,su,.slice po M qo,gu,pu,ct] 144)) wr/\∃ (j:Nat) (p:Option Addr) (q:Nat) (Y:List Cu),j<=n0/\iv=.int .i64 (j:Int)/\ov=.slice p j q/\Hid (N7 (w.alloc (.cells #[.slice p0 n0 q0,v1,v2,v3,ru,su,.slice po M qo,gu,pu,ct] 144)).heap.size wr (.slice p j q) Y)/\Hid (Y.map (·.l)=(List.range j).map (Po c f))) (fun _ iv _=>n0-(intOf iv).toNat)
 case atStart=>exact⟨BT _,0,none,0,[],gI _,rfl,rfl,N7.nil _ _,rfl⟩
 case round=>
  obtain⟨hb,j,p,q,Y,hj,rfl,rfl,hvs,hmap⟩:=hrel;obtain⟨c0,c6⟩:=HC.out wr hb;have HYL:Hid (Y.length=j):=by
   have h5:=congrArg List.length hmap.out;rw[List.length_map,List.length_map,List.length_range]at h5;exact h5
  by_cases hlt:j<n0
  .have hjl:j<c.sign.length:=by rw[HN0.out];exact hlt
   have hol:2*j<O.length:=by rw[HM.1,HM.2];omega
   obtain⟨lb,lo,rfl,hx⟩:=HSG.at hjl;obtain⟨ob,oo,rfl,hxo⟩:=HOU.row.at hol;have HB:Hid (Below (w.alloc (.cells #[.slice (some ⟨lb,lo,none⟩) n0 q0,v1,v2,v3,ru,su,.slice (some ⟨ob,oo,none⟩) M qo,gu,pu,ct] 144)).heap.size (w.alloc (.cells #[.slice (some ⟨lb,lo,none⟩) n0 q0,v1,v2,v3,ru,su,.slice (some ⟨ob,oo,none⟩) M qo,gu,pu,ct] 144)) wr):=hb;have HBW:Hid (Below w.heap.size w wr):=bel (A0 _ _) hb;have hln:=Kq HRL.1 hjl;obtain⟨hnum,-,hl1,hl2,hap⟩:=Kw HRL.1 hjl;have hk2:AP c (j:Int)=if c.sign[j].kind=2 then 2 else 1:=by unfold AP Do;simp[hjl]
   obtain⟨o1,ho1,ho2,ho3,ho4⟩:=HRL.2.oo j 0 hjl oM;rw[Nat.add_zero,gB hol]at ho1;simp only[Option.some.injEq]at ho1;rw[ho1]at hxo;have hno:=HOU.nums o1 (by rw[<-ho1];exact gD hol);obtain⟨⟨nm,K,L⟩,hT⟩:∃t:Cx,c.sign[j]=t:=⟨_,rfl⟩
   rw[hT]at hx hln hl1 hl2 hk2;simp only at hln hl1 hl2 hk2;obtain⟨ln,hlnn⟩:∃n,lenOf c (j:Int)=n:=⟨_,rfl⟩
   rw[hlnn]at ho2 ho4 hln hnum;subst hln;have hlnb:ln<=4096:=oM;have u1:wr.cell? ⟨ob,oo+2*j,none⟩=some (.slice o1.p ln o1.q):=by
    have h1:=kc HBW.out (hxo.at 0 (v:=.slice o1.p o1.h.pats.length o1.q) rfl);rw[Nat.mul_one,Nat.add_zero,ho2]at h1;exact h1
   obtain⟨nb,no,hpe,hnc⟩:∃b o,o1.p=some ⟨b,o,none⟩/\∀m,m<o1.h.pats.length->w.cell? ⟨b,o+m,none⟩=some (.int .i64 (Cy o1.h.pats m)):=by
    rcases hno with e|⟨b,o,e,h⟩
    .omega
    .exact⟨b,o,e,h⟩
   rw[hpe]at u1;have y0:=kc HBW.out (hx.at 0 rfl);have y1:=kc HBW.out (hx.at 1 rfl);have y2:=kc HBW.out (hx.at 2 rfl);rw[Nat.add_zero]at y0;have i1:(0:Int)<=(j:Int):=oM;have i2:(j:Int)<(n0:Int):=oM;have w1:IntKind.i64.wrap (2*(j:Int))=((2*j:Nat):Int):=by rw[IntKind.wrap_i64];omega
   have i3:(0:Int)<=((2*j:Nat):Int):=oM;have i4:((2*j:Nat):Int)<(M:Int):=by have:=HM.2;omega
   clear hb ho1 hol hxo hno hl1 hl2 hlnn hpe;by_cases hK:K=2
   .rw[if_pos hK]at hk2;have hKb:(K==2)=true:=by simpa using hK
    have hol2:2*j+1<O.length:=by rw[HM.1,HM.2];omega
    obtain⟨ob',oo',hpo',hxo2⟩:=HOU.row.at hol2;simp only[Option.some.injEq,Addr.mk.injEq,and_true]at hpo';obtain⟨rfl,rfl⟩:=hpo';obtain⟨o2,ho1',hp2,hp3,hp4⟩:=HRL.2.oo j 1 hjl oM;rw[gB hol2]at ho1';simp only[Option.some.injEq]at ho1';rw[ho1']at hxo2;have hno2:=HOU.nums o2 (by rw[<-ho1'];exact gD hol2);have hlnn:lenOf c (j:Int)=ln:=by have h1:=hnum;first|(have:=Kq HRL.1 hjl;rw[hT]at this;simp only at this;omega)
    rw[hlnn]at hp2 hp4;have u2:wr.cell? ⟨ob,oo+(2*j+1),none⟩=some (.slice o2.p ln o2.q):=by
     have h1:=kc HBW.out (hxo2.at 0 (v:=.slice o2.p o2.h.pats.length o2.q) rfl);rw[Nat.mul_one,Nat.add_zero,hp2]at h1;exact h1
    obtain⟨nb2,no2,hpe2,hnc2⟩:∃b o,o2.p=some ⟨b,o,none⟩/\∀m,m<o2.h.pats.length->w.cell? ⟨b,o+m,none⟩=some (.int .i64 (Cy o2.h.pats m)):=by
     rcases hno2 with e|⟨b,o,e,h⟩
     .have:=HRL.1.len _ (gD hjl);rw[hT]at this;simp only at this;omega
     .exact⟨b,o,e,h⟩
    rw[hpe2]at u2;have w2:IntKind.i64.wrap (((2*j:Nat):Int)+1)=((2*j+1:Nat):Int):=by rw[IntKind.wrap_i64];omega
    have i5:(0:Int)<=((2*j+1:Nat):Int):=oM;have i6:((2*j+1:Nat):Int)<(M:Int):=by have:=HM.2;omega
    replace hap:AP c (j:Int)=2:=hk2
    clear ho1' hol2 hxo2 hno2 hlnn hpe2 hk2 hK hT hjl;have HV1:Hid (∀m,m<ln->wr.cell? ⟨nb,no+m,none⟩=some (.int .i64 (f.outs j (2*m)))):=fun m hm=>by
     have h1:=kc HBW.out (hnc m (by rw[ho2];exact hm));rw[ho4 m hm]at h1;rw[hap]at h1;exact h1
    have HP1:Hid (∀m,m<ln->AB (f.outs j (2*m))):=fun m hm=>by
     have h1:=Cw ho3 m;rw[ho4 m hm]at h1;rw[hap]at h1;exact h1
    have HV2:Hid (∀m,m<ln->wr.cell? ⟨nb2,no2+m,none⟩=some (.int .i64 (f.outs j (2*m+1)))):=fun m hm=>by
     have h1:=kc HBW.out (hnc2 m (by rw[hp2];exact hm));rw[hp4 m hm,hap]at h1;exact h1
    have HP2:Hid (∀m,m<ln->AB (f.outs j (2*m+1))):=fun m hm=>by
     have h1:=Cw hp3 m;rw[hp4 m hm,hap]at h1;exact h1
    have HUU:Hid (Po c f j=(List.range (2*ln)).map (f.outs j)):=by
     show _=_;unfold Po;rw[hnum,hap]
    have b6:=fun v (hb:Below wr.heap.size wr v)=>kc hb c6;have b7:=fun v (hb:Below wr.heap.size wr v)=>kc hb u1;have b8:=fun v (hb:Below wr.heap.size wr v)=>kc hb u2;have HB6:Hid _:=b6;have HB7:Hid _:=b7;have HB8:Hid _:=b8;clear ho2 ho3 ho4 hnc hx hap hnum b6 b7 hp2 hp3 hp4 hnc2 b8;go_wp2;have HEC:Hid (∀v,Below (wr.alloc (.cells #[.string nm,.int .i64 K,.int .i64 (ln:Int)] 53)).heap.size (wr.alloc (.cells #[.string nm,.int .i64 K,.int .i64 (ln:Int)] 53)) v->v.cell? ⟨wr.heap.size,1,none⟩=some (.int .i64 K)/\v.cell? ⟨wr.heap.size,2,none⟩=some (.int .i64 (ln:Int))/\Below wr.heap.size wr v):=fun v hb=>⟨kc hb sG,kc hb sG,bel (A0 _ _) hb⟩
    have hEs:wr.heap.size<(wr.alloc (.cells #[.string nm,.int .i64 K,.int .i64 (ln:Int)] 53)).heap.size:=sM;obtain⟨WE,hWE⟩:∃W,(wr.alloc (.cells #[.string nm,.int .i64 K,.int .i64 (ln:Int)] 53))=W:=⟨_,rfl⟩
    rw[hWE]at HEC hEs;try rw[hWE]
    clear hWE c0 c6 y0 y1 y2 u1 u2
    go_loopw [6,7] (fun vv kv wx=>Below WE.heap.size WE wx/\∃ (m:Nat) (pv:Option Addr) (qv:Nat),m<=ln/\kv=.int .i64 (m:Int)/\vv=.slice pv (2*m) qv/\Hid (wx.ownsRow WE.heap.size 43 1 (.slice pv (2*m) qv) (2*m) (Hf ((List.range (2*m)).map (f.outs j))))) (fun _ kv _=>ln-(intOf kv).toNat)
    case atStart=>exact⟨BT _,0,none,0,gI _,rfl,rfl,World.ownsRow_nil _ _ _ 1⟩
    case round=>
     obtain⟨hbx,m,pv,qv,hm,rfl,rfl,how⟩:=hrel;rename World=>wx;obtain⟨e1,e2,hbw⟩:=HEC.out wx hbx;have HBX:Hid (Below WE.heap.size WE wx):=hbx;have c6:=HB6.out wx hbw;have u1:=HB7.out wx hbw;have u2:=HB8.out wx hbw;by_cases hml:m<ln
     .have a1:=kc hbw (HV1.out m hml);have hPz:=HP1.out m hml;have a2:=kc hbw (HV2.out m hml);have hPy:=HP2.out m hml;obtain⟨z,hz⟩:=gA (f.outs j (2*m))
      have HZ:Hid (f.outs j (2*m)=z):=hz;rw[hz]at a1 hPz;have tz:IntKind.u32.wrap z=z:=by rw[IntKind.wrap_u32];have:=hPz.1;have:=hPz.2;omega
      obtain⟨g,c',w8,hap1,hb8,ho8,-⟩:=F5 (V:=wx) underlying70 Gt rfl dE how.out hbx.size #[.int .u32 z] rfl Zgd mL oM 70;have HAP1:Hid _:=hap1;obtain⟨y,hy⟩:∃z,f.outs j (2*m+1)=z:=⟨_,rfl⟩
      have HY:Hid (f.outs j (2*m+1)=y):=hy;rw[hy]at a2 hPy;have ty:IntKind.u32.wrap y=y:=by rw[IntKind.wrap_u32];have:=hPy.1;have:=hPy.2;omega
      have hb8':=hbx.trans hb8;obtain⟨g2,c2,w9,hap2,hb9,ho9,-⟩:=F5 (V:=w8) underlying70 Gt rfl dE ho8 hb8'.size #[.int .u32 y] rfl Zgd mL oM 70;have HAP2:Hid _:=hap2;have HNX:Hid (w9.ownsRow WE.heap.size 43 1 (.slice (some ⟨g2,0,none⟩) (2*(m+1)) c2) (2*(m+1)) (Hf ((List.range (2*(m+1))).map (f.outs j)))):=by
       show World.ownsRow _ _ _ _ _ _ _;rw[show 2*(m+1)=2*m+1+1 by omega,ET,ET,FC,FC,HZ.out,HY.out];exact ho9
      have HB9:Hid (Below WE.heap.size WE w9):=hb8'.trans hb9;obtain⟨e3,e4,hbw8⟩:=HEC.out w8 hb8';have k6:=HB6.out w8 hbw8;have k7:=HB8.out w8 hbw8;have k8:=kc hbw8 (HV2.out m hml);rw[hy]at k8;have t0:(m:Int)<(ln:Int):=oM;have t5:IntKind.i64.wrap ((m:Int)+1)=((m+1:Nat):Int):=by rw[IntKind.wrap_i64];omega
      clear hap1 hb8 ho8 hz how hbx hbw hbw8 hap2 hb8' hb9 ho9 hy;go_upto_region 12 with(at_builtin;refine Au rF _ _ _ rF _ _ _ rF rF HAP1.out ?_)
      go_wp2_with(at_builtin;refine Au rF _ _ _ rF _ _ _ rF rF HAP2.out ?_);go_roundw
      case rel=>exact⟨HB9.out,m+1,_,_,oM,gN,rfl,HNX.out⟩
      case measure=>simp[intOf];omega
     .have hme:m=ln:=oM;have e9:¬ (m:Int)<(ln:Int):=oM;have hvx:=hvs.below hbw;have hlt2:=hvs.own.lt;have HJ2:Hid (m=ln):=hme;have hPA:Jy wx (.slice p j q) pv ((List.range (2*m)).map (f.outs j)):=by
       rcases JS (l:=(List.range (2*m)).map (f.outs j)) Zhg with h|⟨b,o,e,h⟩
       .exact .inl (List.length_eq_zero_iff.1 h)
       .refine .inr ⟨b,o,e,fun e5=>?_,h⟩;have h6:=F6 how.out b o none e;have h7:=(hlt2 b e5).2;omega
      have hlY:Y.length=j:=HYL.out;have hvx':N7 (w.alloc (.cells #[.slice (some ⟨lb,lo,none⟩) n0 q0,v1,v2,v3,ru,su,.slice (some ⟨ob,oo,none⟩) M qo,gu,pu,ct] 144)).heap.size wx (.slice p Y.length q) Y:=by rw[hlY];exact hvx
      obtain⟨g3,c3,w7,hrun,hb7,hvs7⟩:=hvx'.push (by have h1:=HB.size;have h2:=hbw.size;omega) oM ⟨pv,qv,(List.range (2*m)).map (f.outs j)⟩ (by rw[hlY];exact hPA) (fun b o s e=>by have h6:=F6 how.out b o s e;have h7:=HB.size;omega) 71;rw[hlY]at hrun hvs7;simp only[List.length_map,List.length_range]at hrun;have HRUN:Hid _:=hrun;have HV7:Hid (N7 (w.alloc (.cells #[.slice (some ⟨lb,lo,none⟩) n0 q0,v1,v2,v3,ru,su,.slice (some ⟨ob,oo,none⟩) M qo,gu,pu,ct] 144)).heap.size w7 (.slice (some ⟨g3,0,none⟩) (j+1) c3) (Y++[⟨pv,qv,(List.range (2*m)).map (f.outs j)⟩])):=hvs7;have HB7':Hid (Below (w.alloc (.cells #[.slice (some ⟨lb,lo,none⟩) n0 q0,v1,v2,v3,ru,su,.slice (some ⟨ob,oo,none⟩) M qo,gu,pu,ct] 144)).heap.size (w.alloc (.cells #[.slice (some ⟨lb,lo,none⟩) n0 q0,v1,v2,v3,ru,su,.slice (some ⟨ob,oo,none⟩) M qo,gu,pu,ct] 144)) w7):=(HB.trans (hbw.mono HB.size)).trans hb7;have HM7:Hid ((Y++[(⟨pv,qv,(List.range (2*m)).map (f.outs j)⟩:Cu)]).map (·.l)=(List.range (j+1)).map (Po c f)):=by
       show _=_;rw[List.map_append,hmap.out,ET,HUU.out,HJ2.out];rfl
      exact Zco
   .rw[if_neg hK]at hk2;have hKb:(K==2)=false:=by simpa using hK
    replace hap:AP c (j:Int)=1:=hk2
    clear hk2 hK hT hjl;have HV1:Hid (∀m,m<ln->wr.cell? ⟨nb,no+m,none⟩=some (.int .i64 (f.outs j m))):=fun m hm=>by
     have h1:=kc HBW.out (hnc m (by rw[ho2];exact hm));rw[ho4 m hm]at h1;rw[hap,Nat.one_mul]at h1;exact h1
    have HP1:Hid (∀m,m<ln->AB (f.outs j m)):=fun m hm=>by
     have h1:=Cw ho3 m;rw[ho4 m hm]at h1;rw[hap,Nat.one_mul]at h1;exact h1
    have HUU:Hid (Po c f j=(List.range (ln)).map (f.outs j)):=by
     show _=_;unfold Po;rw[hnum,hap,Nat.one_mul]
    have b6:=fun v (hb:Below wr.heap.size wr v)=>kc hb c6;have b7:=fun v (hb:Below wr.heap.size wr v)=>kc hb u1;have HB6:Hid _:=b6;have HB7:Hid _:=b7;clear ho2 ho3 ho4 hnc hx hap hnum b6 b7;go_wp2;have HEC:Hid (∀v,Below (wr.alloc (.cells #[.string nm,.int .i64 K,.int .i64 (ln:Int)] 53)).heap.size (wr.alloc (.cells #[.string nm,.int .i64 K,.int .i64 (ln:Int)] 53)) v->v.cell? ⟨wr.heap.size,1,none⟩=some (.int .i64 K)/\v.cell? ⟨wr.heap.size,2,none⟩=some (.int .i64 (ln:Int))/\Below wr.heap.size wr v):=fun v hb=>⟨kc hb sG,kc hb sG,bel (A0 _ _) hb⟩
    have hEs:wr.heap.size<(wr.alloc (.cells #[.string nm,.int .i64 K,.int .i64 (ln:Int)] 53)).heap.size:=sM;obtain⟨WE,hWE⟩:∃W,(wr.alloc (.cells #[.string nm,.int .i64 K,.int .i64 (ln:Int)] 53))=W:=⟨_,rfl⟩
    rw[hWE]at HEC hEs;try rw[hWE]
    clear hWE c0 c6 y0 y1 y2 u1
    go_loopw [6,7] (fun vv kv wx=>Below WE.heap.size WE wx/\∃ (m:Nat) (pv:Option Addr) (qv:Nat),m<=ln/\kv=.int .i64 (m:Int)/\vv=.slice pv (m) qv/\Hid (wx.ownsRow WE.heap.size 43 1 (.slice pv (m) qv) (m) (Hf ((List.range (m)).map (f.outs j))))) (fun _ kv _=>ln-(intOf kv).toNat)
    case atStart=>exact⟨BT _,0,none,0,gI _,rfl,rfl,World.ownsRow_nil _ _ _ 1⟩
    case round=>
     obtain⟨hbx,m,pv,qv,hm,rfl,rfl,how⟩:=hrel;rename World=>wx;obtain⟨e1,e2,hbw⟩:=HEC.out wx hbx;have HBX:Hid (Below WE.heap.size WE wx):=hbx;have c6:=HB6.out wx hbw;have u1:=HB7.out wx hbw;by_cases hml:m<ln
     .have a1:=kc hbw (HV1.out m hml);have hPz:=HP1.out m hml;obtain⟨z,hz⟩:=gA (f.outs j m)
      have HZ:Hid (f.outs j m=z):=hz;rw[hz]at a1 hPz;have tz:IntKind.u32.wrap z=z:=by rw[IntKind.wrap_u32];have:=hPz.1;have:=hPz.2;omega
      obtain⟨g,c',w8,hap1,hb8,ho8,-⟩:=F5 (V:=wx) underlying70 Gt rfl dE how.out hbx.size #[.int .u32 z] rfl Zgd mL oM 70;have HAP1:Hid _:=hap1;have HNX:Hid (w8.ownsRow WE.heap.size 43 1 (.slice (some ⟨g,0,none⟩) (m+1) c') (m+1) (Hf ((List.range (m+1)).map (f.outs j)))):=by
       show World.ownsRow _ _ _ _ _ _ _;rw[ET,FC,HZ.out];exact ho8
      have HB9:Hid (Below WE.heap.size WE w8):=hbx.trans hb8;obtain⟨e3,e4,hbw8⟩:=HEC.out w8 (hbx.trans hb8);have t0:(m:Int)<(ln:Int):=oM;have t5:IntKind.i64.wrap ((m:Int)+1)=((m+1:Nat):Int):=by rw[IntKind.wrap_i64];omega
      clear hap1 hb8 ho8 hz how hbx hbw hbw8;go_wp2_with(at_builtin;refine Au rF _ _ _ rF _ _ _ rF rF HAP1.out ?_);go_roundw
      case rel=>exact⟨HB9.out,m+1,_,_,oM,gN,rfl,HNX.out⟩
      case measure=>simp[intOf];omega
     .have hme:m=ln:=oM;have e9:¬ (m:Int)<(ln:Int):=oM;have hvx:=hvs.below hbw;have hlt2:=hvs.own.lt;have HJ2:Hid (m=ln):=hme;have hPA:Jy wx (.slice p j q) pv ((List.range (m)).map (f.outs j)):=by
       rcases JS (l:=(List.range (m)).map (f.outs j)) Zhg with h|⟨b,o,e,h⟩
       .exact .inl (List.length_eq_zero_iff.1 h)
       .refine .inr ⟨b,o,e,fun e5=>?_,h⟩;have h6:=F6 how.out b o none e;have h7:=(hlt2 b e5).2;omega
      have hlY:Y.length=j:=HYL.out;have hvx':N7 (w.alloc (.cells #[.slice (some ⟨lb,lo,none⟩) n0 q0,v1,v2,v3,ru,su,.slice (some ⟨ob,oo,none⟩) M qo,gu,pu,ct] 144)).heap.size wx (.slice p Y.length q) Y:=by rw[hlY];exact hvx
      obtain⟨g3,c3,w7,hrun,hb7,hvs7⟩:=hvx'.push (by have h1:=HB.size;have h2:=hbw.size;omega) oM ⟨pv,qv,(List.range (m)).map (f.outs j)⟩ (by rw[hlY];exact hPA) (fun b o s e=>by have h6:=F6 how.out b o s e;have h7:=HB.size;omega) 71;rw[hlY]at hrun hvs7;simp only[List.length_map,List.length_range]at hrun;have HRUN:Hid _:=hrun;have HV7:Hid (N7 (w.alloc (.cells #[.slice (some ⟨lb,lo,none⟩) n0 q0,v1,v2,v3,ru,su,.slice (some ⟨ob,oo,none⟩) M qo,gu,pu,ct] 144)).heap.size w7 (.slice (some ⟨g3,0,none⟩) (j+1) c3) (Y++[⟨pv,qv,(List.range (m)).map (f.outs j)⟩])):=hvs7;have HB7':Hid (Below (w.alloc (.cells #[.slice (some ⟨lb,lo,none⟩) n0 q0,v1,v2,v3,ru,su,.slice (some ⟨ob,oo,none⟩) M qo,gu,pu,ct] 144)).heap.size (w.alloc (.cells #[.slice (some ⟨lb,lo,none⟩) n0 q0,v1,v2,v3,ru,su,.slice (some ⟨ob,oo,none⟩) M qo,gu,pu,ct] 144)) w7):=(HB.trans (hbw.mono HB.size)).trans hb7;have HM7:Hid ((Y++[(⟨pv,qv,(List.range (m)).map (f.outs j)⟩:Cu)]).map (·.l)=(List.range (j+1)).map (Po c f)):=by
       show _=_;rw[List.map_append,hmap.out,ET,HUU.out,HJ2.out];rfl
      exact Zco
  .have hjn:j=n0:=oM;have e1:¬ (j:Int)<(n0:Int):=oM;have HF:Hid (Gh (fun b=>b<w.heap.size) wr (.slice p n0 q) (Gg c f)):=by
    show Gh _ _ _ _;rw[updP_eq,HN0.out,<-hjn,<-hmap.out];exact hvs.vs.mono (fun b _ e=>by simp only[World.size_alloc];omega)
   have HJ:Hid (j=n0):=hjn;have HB:Hid (Below w.heap.size w wr):=bel (A0 _ _) hb;clear hvs hmap hlt hjn hb;go_wp2;go_ret;exact⟨p,q,by rw[HJ.out];rfl,HF.out,HB.out⟩
def ZOk(c:Cd)(l:List Hd):Prop:=∀j (h:j<c.slots.length),c.slots[j].ty.kind≠2->((l[j]?).getD ⟨[],0⟩).whole=0
structure GJ(c:Cd)(l:List Hd):Prop where
 len:l.length=c.slots.length
 ok:∀j (h:j<c.slots.length) (h':j<l.length),PC c c.slots[j].ty l[j]
 z:ZOk c l
theorem Ru{c:Cd}(hg:By c){s:Sl}(hs:s∈c.slots)(h2:s.ty.kind≠2):(BC c s).whole=0:=by
 have h1:=hg.slots s hs;unfold Br FI at h1;rw[if_neg h2]at h1;simp only[Bool.and_eq_true,beq_iff_eq]at h1;exact h1.2.1
theorem start_z{c:Cd}(hg:By c):ZOk c (Co c):=fun j h h2=>by
 rw[Co,List.getElem?_map,gB h,Option.map_some,Option.getD_some];exact Ru hg (gD h) h2
theorem V8(c:Cd)(l:List Hd)(hl:l.length=c.slots.length):∀ (j:Nat),j<=c.slots.length->∀k (h:k<c.slots.length),(PJ c l j)[k]? =if k<j/\c.slots[k].keep=false then some (BC c c.slots[k])else l[k]?
 |0,_,k,h=>by simp[PJ]
 |j+1,hj,k,h=>by
  have ih:=V8 c l hl j oM;unfold PJ;rw[gB (show j<c.slots.length by omega)];simp only;cases hkp:c.slots[j].keep with
  |true=>
   simp only[if_true];rw[ih k h];by_cases e:k=j
   .subst e;rw[hkp];simp
   .have:k<j+1↔k<j:=oM;simp only[this]
  |false=>
   simp only[Bool.false_eq_true,if_false];by_cases e:k=j
   .subst e;rw[List.getElem?_set_self (by rw[I7,hl];exact h),if_pos ⟨oM,hkp⟩]
   .rw[List.getElem?_set_ne (fun q=>e q.symm),ih k h];have:k<j+1↔k<j:=oM;simp only[this]
def PH(c:Cd)(l:List Hd):List Hd:=PJ c l c.slots.length
theorem GK{c:Cd}{l:List Hd}(hl:l.length=c.slots.length):(PH c l).length=c.slots.length:=by unfold PH;rw[I7,hl]
theorem PI{c:Cd}{l:List Hd}(hl:l.length=c.slots.length){k:Nat}(h:k<c.slots.length)(h':k<(PH c l).length):(PH c l)[k]=if c.slots[k].keep then l[k]'oM else BC c c.slots[k]:=by
 have h1:=V8 c l hl c.slots.length (gF _) k h;have h2:(PH c l)[k]? =some ((PH c l)[k]):=gB h';unfold PH at h2 |-;rw[h2]at h1;cases hkp:c.slots[k].keep with
 |true=>
  rw[hkp,if_neg sM,gB oM]at h1;simp only[Option.some.injEq]at h1;simp only[if_true];exact h1
 |false=>
  rw[if_pos ⟨h,hkp⟩]at h1;simp only[Option.some.injEq]at h1;simp only[Bool.false_eq_true,if_false];exact h1
def f4v(a b c d:Value)(k:Nat):Value:=if k=0 then a else if k=1 then b else if k=2 then c else d
theorem f4v_ok(a b c d:Value):∀k,k<(#[a,b,c,d]:Array Value).size->(#[a,b,c,d]:Array Value)[k]? =some (f4v a b c d k):=by
 intro k hk;have hk':k<4:=hk;obtain rfl|rfl|rfl|rfl:k=0\/k=1\/k=2\/k=3:=oM
 all_goals rfl
structure SB(w:World)(a0 a1 a2 a3 a4:Value)(v:World):Prop where
 bel:Below w.heap.size w v
 r:v.rowIs w.heap.size 77 5 (f5 a0 a1 a2 a3 a4)
 q:v.rowIs (w.heap.size+1) 77 5 (f5 (.slice none 0 0) (.slice none 0 0) (.slice none 0 0) (.slice none 0 0) (.slice none 0 0))
 c:v.rowIs (w.heap.size+1+1) 27 4 (f4v a0 a1 a2 a3)
theorem SB.next{w:World}{a0 a1 a2 a3 a4:Value}{v v':World}(h:SB w a0 a1 a2 a3 a4 v)(k:Below v.heap.size v v'):SB w a0 a1 a2 a3 a4 v':=
 ⟨Go.Proofs.YtpoklpdgpcnkgaaGreat.bel h.bel k,h.r.of_block (k.block _ h.r.lt),h.q.of_block (k.block _ h.q.lt),h.c.of_block (k.block _ h.c.lt)⟩
theorem SB.start(w:World)(a0 a1 a2 a3 a4:Value):SB w a0 a1 a2 a3 a4 (((w.alloc (.cells #[a0,a1,a2,a3,a4] 77)).alloc (.cells #[.slice none 0 0,.slice none 0 0,.slice none 0 0,.slice none 0 0,.slice none 0 0] 77)).alloc (.cells #[a0,a1,a2,a3] 27)):=by
 have r1:=World.rowIs_alloc w #[a0,a1,a2,a3,a4] 77 _ (Fp _ _ _ _ _);have r2:=World.rowIs_alloc (w.alloc (.cells #[a0,a1,a2,a3,a4] 77)) #[.slice none 0 0,.slice none 0 0,.slice none 0 0,.slice none 0 0,.slice none 0 0] 77 _ (Fp _ _ _ _ _);have r3:=World.rowIs_alloc ((w.alloc (.cells #[a0,a1,a2,a3,a4] 77)).alloc (.cells #[.slice none 0 0,.slice none 0 0,.slice none 0 0,.slice none 0 0,.slice none 0 0] 77)) #[a0,a1,a2,a3] 27 _ (f4v_ok _ _ _ _);simp only[World.size_alloc]at r2 r3;exact⟨Go.Proofs.YtpoklpdgpcnkgaaGreat.bel (A0 _ _) (Go.Proofs.YtpoklpdgpcnkgaaGreat.bel (A0 _ _) (A0 _ _)),(r1.alloc _).alloc _,r2.alloc _,r3⟩
theorem SB.size{w:World}{a0 a1 a2 a3 a4:Value}{v:World}(h:SB w a0 a1 a2 a3 a4 v):w.heap.size+1+1<v.heap.size:=h.c.lt
structure JY(w:World)(a0 a1 a2 a3 a4:Value)(FB:Nat)(F:Nat->Value)(v:World):Prop where
 b:SB w a0 a1 a2 a3 a4 v
 f:v.rowIs FB 144 10 F
 hF:w.heap.size+1+1<FB
theorem JY.next{w:World}{a0 a1 a2 a3 a4:Value}{FB:Nat}{F:Nat->Value}{v v':World}(h:JY w a0 a1 a2 a3 a4 FB F v)(k:Below v.heap.size v v'):JY w a0 a1 a2 a3 a4 FB F v':=⟨h.b.next k,h.f.of_block (k.block _ h.f.lt),h.hF⟩
theorem JY.below{w:World}{a0 a1 a2 a3 a4:Value}{FB B:Nat}{F:Nat->Value}{v v':World}(h:JY w a0 a1 a2 a3 a4 FB F v)(k:Below B v v')(hB:FB<B):JY w a0 a1 a2 a3 a4 FB F v':=by
 have hF:=h.hF;have hs:=h.b.bel.size;have hlt:=h.f.lt;refine⟨⟨⟨k.os.trans h.b.bel.os,k.tape.trans h.b.bel.tape,k.output.trans h.b.bel.output,gH hs k.size,fun x hx=>(k.block x oM).trans (h.b.bel.block x hx)⟩,h.b.r.of_block (k.block _ oM),h.b.q.of_block (k.block _ oM),h.b.c.of_block (k.block _ oM)⟩,h.f.of_block (k.block _ hB),h.hF⟩
theorem JY.put{w:World}{a0 a1 a2 a3 a4:Value}{FB:Nat}{F:Nat->Value}{v:World}(h:JY w a0 a1 a2 a3 a4 FB F v)(i:Nat)(x:Value):JY w a0 a1 a2 a3 a4 FB (fun j=>if j=i then x else F j) (v.setCell ⟨FB,i,none⟩ x):=by
 have hF:=h.hF;exact⟨⟨h.b.bel.setCell (by show w.heap.size<=FB;omega) _,h.b.r.setOther (by show w.heap.size≠FB;omega) _,h.b.q.setOther (by show w.heap.size+1≠FB;omega) _,h.b.c.setOther (by show w.heap.size+1+1≠FB;omega) _⟩,h.f.set i x,h.hF⟩
theorem JY.congr{w:World}{a0 a1 a2 a3 a4:Value}{FB:Nat}{F F':Nat->Value}{v:World}(h:JY w a0 a1 a2 a3 a4 FB F v)(k:∀j,j<10->F j=F' j):JY w a0 a1 a2 a3 a4 FB F' v:=⟨h.b,h.f.congr k,h.hF⟩
theorem EG{P:Nat->Prop}(h0:P 0)(h1:P 1)(h2:P 2)(h3:P 3)(h4:P 4)(h5:P 5)(h6:P 6)(h7:P 7)(h8:P 8)(h9:P 9):∀j,j<10->P j:=by
 intro j hj;obtain rfl|rfl|rfl|rfl|rfl|rfl|rfl|rfl|rfl|rfl:j=0\/j=1\/j=2\/j=3\/j=4\/j=5\/j=6\/j=7\/j=8\/j=9:=oM
 all_goals assumption
theorem JY.putT{w:World}{a0 a1 a2 a3 a4:Value}{FB:Nat}{F:Nat->Value}{v:World}(h:JY w a0 a1 a2 a3 a4 FB F v)(b0 b1 b2 b3 b4 b5 b6 b7 b8 b9:Value):JY w a0 a1 a2 a3 a4 FB (DC b0 b1 b2 b3 b4 b5 b6 b7 b8 b9) (NM v FB b0 b1 b2 b3 b4 b5 b6 b7 b8 b9):=
 ((((((((((h.put 0 b0).put 1 b1).put 2 b2).put 3 b3).put 4 b4).put 5 b5).put 6 b6).put 7 b7).put 8 b8).put 9 b9).congr (EG rfl rfl rfl rfl rfl rfl rfl rfl rfl rfl)
def T4(w:World)(T:Nat->Prop)(FB:Nat)(b:Nat):Prop:=T b\/(w.heap.size<=b/\b<=w.heap.size+1+1)\/b=FB
theorem MM{w:World}{T:Nat->Prop}{FB:Nat}(hT:∀b,T b->b<w.heap.size)(hF:w.heap.size+1+1<FB){B:Nat}(hB:FB<B){b:Nat}(h:T4 w T FB b):b<B:=by
 rcases h with h|h|h
 .have:=hT b h;omega
 .omega
 .omega
theorem t4_old{w:World}{T:Nat->Prop}{FB b:Nat}(hF:w.heap.size+1+1<FB)(hb:b<w.heap.size)(h:T4 w T FB b):T b:=by
 rcases h with h|h|h
 .exact h
 .omega
 .omega
theorem TG(m:Nat)(h:m<=16384)(w:World):(Instr.makeSlice 75 (.int .i64 m) (.int .i64 m)).run prog w=.ok (.slice (some ⟨w.heap.size,0,none⟩) m m) (w.alloc (.cells (madeCells #[.slice none 0 0,.int .i64 0] (m*2)) 109)):=by
 obtain⟨i,hi,hz,hs,hb⟩:=info_parts IQ;have hr:=run_make (P:=prog) w 75 109 i _ underlying75 hi hz .i64 .i64 m m oM (Int.le_refl _) (by rw[hb];omega) oM;rw[hs,show(Value.agg #[.slice none 0 0,.int .i64 0]).cells=#[.slice none 0 0,.int .i64 0]from rfl]at hr;simpa using hr
theorem TE(m i:Nat)(hi:i<m*2):(madeCells #[.slice none 0 0,.int .i64 0] (m*2))[i]? =some (f2 (.slice none 0 0) (.int .i64 0) (i%2)):=by
 unfold madeCells;rw[Array.getElem?_map,Array.getElem?_range];simp[hi];have h2:i%2=0\/i%2=1:=oM;rcases h2 with h|h<;>rw[h]<;>rfl
def SJ(n:Nat):List Cl:=List.replicate n ⟨none,0,⟨[],0⟩⟩
theorem Rx{T:Nat->Prop}{v:World}{RB m:Nat}(h:v.heap[RB]? =some (.cells (madeCells #[.slice none 0 0,.int .i64 0] (m*2)) 109 (0,0)))(hT:¬T RB):AV T v (.slice (some ⟨RB,0,none⟩) m m) (SJ m):=by
 have hlt:RB<v.heap.size:=by
  rcases Nat.lt_or_ge RB v.heap.size with h1|h1
  .exact h1
  .rw[Array.getElem?_eq_none h1]at h;cases h
 refine⟨⟨_,m,by rw[SJ,List.length_replicate],.inr ⟨RB,0,rfl,hT,hlt,fun i hi j hj=>?_⟩⟩,fun x hx=>?_⟩
 .rw[SJ,List.length_replicate]at hi;have hj2:j<2:=hj;have hc:v.cell? ⟨RB,0+i*2+j,none⟩=some (f2 (.slice none 0 0) (.int .i64 0) ((0+i*2+j)%2)):=by
   unfold World.cell?;simp only[h];exact TE m _ oM
  rw[hc];simp only[SJ,List.getElem_replicate];obtain rfl|rfl:j=0\/j=1:=oM
  .rw[show(0+i*2+0)%2=0 by omega];rfl
  .rw[show(0+i*2+1)%2=1 by omega];rfl
 .rw[SJ]at hx;rw[List.eq_of_mem_replicate hx];exact .inl rfl
theorem Wo{B:Nat}{V:World}{e t:TypeId}{z:Value}{sz by':Nat}(ht:prog.underlying t=some (.slice e))(hi:(prog.info? e).map (fun i=>(i.zero,i.size,i.bytes))=some (some z,sz,by'))(hzs:z.cells.size=sz)(hsz:0<sz){p:Option Addr}{n q m:Nat}{xs:List Value}(h:V.ownsRow B e sz (.slice p n q) n xs)(hB:B<=V.heap.size)
 (cs:Array Value) (hm:0<m) (hcs:cs.size=m*sz) (h1:∀u∈cs.toList,u.oneCell'=true) (hn:n+m<=maxLen) (hb:(n+m)*by'<=140737488355328) (ty:TypeId):
 ∃g c' w',(Builtin.append_ #[t,t] ty #[.slice p n q,.slice (some ⟨V.heap.size,0,none⟩) m m]).run prog (V.alloc (.cells cs e))=.ok (.slice (some ⟨g,0,none⟩) (n+m) c') w'/\Below B V w'/\w'.ownsRow B e sz (.slice (some ⟨g,0,none⟩) (n+m) c') (n+m) (xs++cs.toList)/\(∀b,b<V.heap.size->(Value.slice p n q).ownBlock≠some b->w'.heap[b]? =V.heap[b]?)/\((Value.slice p n q).ownBlock=some g\/V.heap.size<g):=by
 obtain⟨i0,hi0,hz0,hz1,hz2⟩:=info_parts hi;have hb0:Below V.heap.size V (V.alloc (.cells cs e)):=A0 _ _;have hs:(V.alloc (.cells cs e)).heap.size=V.heap.size+1:=sM;have h0:=As h hb0;obtain⟨g,cap,w3,hr,hown,hgrow,hat,hlt⟩:=run_append_lies (P:=prog) (V.alloc (.cells cs e)) t ty B e i0 _ sz by' ht hi0 hz0 hz1 hz2 hzs hsz (.slice p n q) n xs h0 ⟨V.heap.size,0,none⟩ m m cs.toList (by simp[hcs])
  (World.news_of_block (cs:=cs) (t:=e) (fr:=(0,0)) (heap_alloc_new V _)) h1 hm hn hb oM _ rfl
 exact Zds
theorem sp_A{T:Nat->Prop}{w:World}{a0 a1 a2 a3 a4:Value}{v:World}{m:Nat}(h:SB w a0 a1 a2 a3 a4 v)(hT:∀b,T b->b<w.heap.size)(b0 b1 b2 b3 b5 b6 b7 b8 b9:Value):
 JY w a0 a1 a2 a3 a4 (v.heap.size+1) (DC b0 b1 b2 b3 (.slice (some ⟨v.heap.size,0,none⟩) m m) b5 b6 b7 b8 b9) ((v.alloc (.cells (madeCells #[.slice none 0 0,.int .i64 0] (m*2)) 109)).alloc (.cells #[b0,b1,b2,b3,.slice (some ⟨v.heap.size,0,none⟩) m m,b5,b6,b7,b8,b9] 144))/\AV (T4 w T (v.heap.size+1)) ((v.alloc (.cells (madeCells #[.slice none 0 0,.int .i64 0] (m*2)) 109)).alloc (.cells #[b0,b1,b2,b3,.slice (some ⟨v.heap.size,0,none⟩) m m,b5,b6,b7,b8,b9] 144)) (.slice (some ⟨v.heap.size,0,none⟩) m m) (SJ m):=by
 have hsz:=h.size;have r1:=World.rowIs_alloc (v.alloc (.cells (madeCells #[.slice none 0 0,.int .i64 0] (m*2)) 109)) #[b0,b1,b2,b3,.slice (some ⟨v.heap.size,0,none⟩) m m,b5,b6,b7,b8,b9] 144 _ (Nf _ _ _ _ _ _ _ _ _ _);simp only[World.size_alloc]at r1;refine⟨⟨h.next (bel (A0 _ _) (A0 _ _)),r1,oM⟩,Rx ?_ ?_⟩
 .rw[(A0 (v.alloc (.cells (madeCells #[.slice none 0 0,.int .i64 0] (m*2)) 109)) _).block _ sM];exact heap_alloc_new v _
 .rintro(k|k|k)
  .have:=hT _ k;omega
  .omega
  .omega
theorem sp_B{T:Nat->Prop}{w:World}{a0 a1 a2 a3 a4:Value}{v:World}{m:Nat}(h:SB w a0 a1 a2 a3 a4 v)(hT:∀b,T b->b<w.heap.size)(b0 b1 b2 b3 b5 b6 b7 b8 b9:Value):
 JY w a0 a1 a2 a3 a4 v.heap.size (DC b0 b1 b2 b3 (.slice (some ⟨v.heap.size+1,0,none⟩) m m) b5 b6 b7 b8 b9) ((v.alloc (.cells #[b0,b1,b2,b3,.slice (some ⟨v.heap.size+1,0,none⟩) m m,b5,b6,b7,b8,b9] 144)).alloc (.cells (madeCells #[.slice none 0 0,.int .i64 0] (m*2)) 109))/\AV (T4 w T v.heap.size) ((v.alloc (.cells #[b0,b1,b2,b3,.slice (some ⟨v.heap.size+1,0,none⟩) m m,b5,b6,b7,b8,b9] 144)).alloc (.cells (madeCells #[.slice none 0 0,.int .i64 0] (m*2)) 109)) (.slice (some ⟨v.heap.size+1,0,none⟩) m m) (SJ m):=by
 have hsz:=h.size;have r1:=World.rowIs_alloc v #[b0,b1,b2,b3,.slice (some ⟨v.heap.size+1,0,none⟩) m m,b5,b6,b7,b8,b9] 144 _ (Nf _ _ _ _ _ _ _ _ _ _);refine⟨⟨h.next (bel (A0 _ _) (A0 _ _)),r1.alloc _,oM⟩,Rx ?_ ?_⟩
 .have h1:=heap_alloc_new (v.alloc (.cells #[b0,b1,b2,b3,.slice (some ⟨v.heap.size+1,0,none⟩) m m,b5,b6,b7,b8,b9] 144)) (.cells (madeCells #[.slice none 0 0,.int .i64 0] (m*2)) 109);simp only[World.size_alloc]at h1;exact h1
 .rintro(k|k|k)
  .have:=hT _ k;omega
  .omega
  .omega
structure L1(T:Nat->Prop)(w:World)(a0 a1 a2 a3 a4:Value)(FB E:Nat)(F:Nat->Value)(v:World)(sv:Value)(Y:List Cl):Prop where
 sp:JY w a0 a1 a2 a3 a4 FB F v
 be:E<=v.heap.size
 cs:JX E v sv Y
 loc:∀x∈Y,∀b o s,x.p=some ⟨b,o,s⟩->x.h.pats≠[]->¬T4 w T FB b
theorem L1.next{T:Nat->Prop}{w:World}{a0 a1 a2 a3 a4:Value}{FB E:Nat}{F:Nat->Value}{v v':World}{sv:Value}{Y:List Cl}(h:L1 T w a0 a1 a2 a3 a4 FB E F v sv Y)(k:Below v.heap.size v v'):L1 T w a0 a1 a2 a3 a4 FB E F v' sv Y:=⟨h.sp.next k,gH h.be k.size,h.cs.below k,h.loc⟩
theorem L1.put{T:Nat->Prop}{w:World}{a0 a1 a2 a3 a4:Value}{FB E:Nat}{F:Nat->Value}{v v':World}{sv:Value}{Y:List Cl}(h:L1 T w a0 a1 a2 a3 a4 FB E F v sv Y)(hFE:FB<E)(k:Below E v v'){g n c':Nat}{Y':List Cl}(hc:JX E v' (.slice (some ⟨g,0,none⟩) n c') Y')(hloc:∀x∈Y',∀b o s,x.p=some ⟨b,o,s⟩->x.h.pats≠[]->¬T4 w T FB b):
 v'.cell? ⟨FB,5,none⟩=some (F 5)/\v'.frozen? ⟨FB,5,none⟩=false/\L1 T w a0 a1 a2 a3 a4 FB E (fun j=>if j=5 then .slice (some ⟨g,0,none⟩) n c' else F j) (v'.setCell ⟨FB,5,none⟩ (.slice (some ⟨g,0,none⟩) n c')) (.slice (some ⟨g,0,none⟩) n c') Y':=by
 have hs:=h.sp.below k hFE;have ho:∀b,b≠FB->(v'.setCell ⟨FB,5,none⟩ (.slice (some ⟨g,0,none⟩) n c')).heap[b]? =v'.heap[b]? :=fun b hne=>gE hne;refine⟨hs.f.cell (i:=5) dE,hs.f.frozen 5,hs.put 5 _,?_,⟨Ag hc.own (fun b hbb=>ho b Zhm),fun x hx=>?_⟩,hloc⟩
 .have h1:=h.be;have h2:=k.size;simp only[World.size_setCell];omega
 .exact Zde
structure SO(B:Nat)(v:World)(sv:Value)(X:List Cl):Prop where
 own:v.ownsRow B 87 1 sv X.length (AG UR X)
 nums:∀x∈X,I3 v sv x.p x.h.pats
theorem SO.below{B:Nat}{v v':World}{sv:Value}{X:List Cl}(h:SO B v sv X)(k:Below v.heap.size v v'):SO B v' sv X:=⟨As h.own k,fun x hx=>(h.nums x hx).below k⟩
theorem SO.nil(B:Nat)(v:World):SO B v (.slice none 0 0) []:=⟨World.ownsRow_nil _ _ _ 1,fun x hx=>by cases hx⟩
theorem SO.push{B:Nat}{V:World}{p:Option Addr}{q:Nat}{X:List Cl}(h:SO B V (.slice p X.length q) X)(hB:B<=V.heap.size)(hX:X.length<=16384)(x:Cl)(hx:I3 V (.slice p X.length q) x.p x.h.pats)(ty:TypeId):
 ∃g c' w',(Builtin.append_ #[142,142] ty #[.slice p X.length q,.slice (some ⟨V.heap.size,0,none⟩) 2 2]).run prog (V.alloc (.cells #[.slice x.p x.h.pats.length x.q,.slice x.p x.h.pats.length x.q] 87))=.ok (.slice (some ⟨g,0,none⟩) (X.length+2) c') w'/\Below B V w'/\SO B w' (.slice (some ⟨g,0,none⟩) (X.length+2) c') (X++[x,x]):=by
 obtain⟨g,c',w',hr,hb,ho,hk,hg⟩:=Wo (V:=V) (m:=2) underlying142 Mf rfl dE h.own hB #[.slice x.p x.h.pats.length x.q,.slice x.p x.h.pats.length x.q] dE rfl (fun u hu=>by simp at hu;subst hu;rfl) mL oM ty;refine⟨g,c',w',hr,hb,⟨?_,fun y hy=>?_⟩⟩
 .rw[List.length_append,Dt];exact ho
 .rcases List.mem_append.1 hy with e|e
  .exact(h.nums y e).grow hk hg
  .simp only[List.mem_cons,List.not_mem_nil,or_false,or_self]at e;subst e;exact hx.grow hk hg
structure L2(T:Nat->Prop)(w:World)(a0 a1 a2 a3 a4:Value)(FB E:Nat)(F:Nat->Value)(v:World)(sv:Value)(Y:List Cl):Prop where
 sp:JY w a0 a1 a2 a3 a4 FB F v
 be:E<=v.heap.size
 cs:SO E v sv Y
 loc:∀x∈Y,∀b o s,x.p=some ⟨b,o,s⟩->x.h.pats≠[]->¬T4 w T FB b
theorem L2.next{T:Nat->Prop}{w:World}{a0 a1 a2 a3 a4:Value}{FB E:Nat}{F:Nat->Value}{v v':World}{sv:Value}{Y:List Cl}(h:L2 T w a0 a1 a2 a3 a4 FB E F v sv Y)(k:Below v.heap.size v v'):L2 T w a0 a1 a2 a3 a4 FB E F v' sv Y:=⟨h.sp.next k,gH h.be k.size,h.cs.below k,h.loc⟩
theorem L2.put{T:Nat->Prop}{w:World}{a0 a1 a2 a3 a4:Value}{FB E:Nat}{F:Nat->Value}{v v':World}{sv:Value}{Y:List Cl}(h:L2 T w a0 a1 a2 a3 a4 FB E F v sv Y)(hFE:FB<E)(k:Below E v v'){g n c':Nat}{Y':List Cl}(hc:SO E v' (.slice (some ⟨g,0,none⟩) n c') Y')(hloc:∀x∈Y',∀b o s,x.p=some ⟨b,o,s⟩->x.h.pats≠[]->¬T4 w T FB b):
 v'.cell? ⟨FB,6,none⟩=some (F 6)/\v'.frozen? ⟨FB,6,none⟩=false/\L2 T w a0 a1 a2 a3 a4 FB E (fun j=>if j=6 then .slice (some ⟨g,0,none⟩) n c' else F j) (v'.setCell ⟨FB,6,none⟩ (.slice (some ⟨g,0,none⟩) n c')) (.slice (some ⟨g,0,none⟩) n c') Y':=by
 have hs:=h.sp.below k hFE;have ho:∀b,b≠FB->(v'.setCell ⟨FB,6,none⟩ (.slice (some ⟨g,0,none⟩) n c')).heap[b]? =v'.heap[b]? :=fun b hne=>gE hne;refine⟨hs.f.cell (i:=6) dE,hs.f.frozen 6,hs.put 6 _,?_,⟨Ag hc.own (fun b hbb=>ho b Zhm),fun x hx=>?_⟩,hloc⟩
 .have h1:=h.be;have h2:=k.size;simp only[World.size_setCell];omega
 .exact Zde
theorem Zy{T:Nat->Prop}{E:Nat}{v:World}{sv:Value}{Y:List Cl}(h:SO E v sv Y)(hT:∀b,T b->b<E)(hl:∀x∈Y,∀b o s,x.p=some ⟨b,o,s⟩->x.h.pats≠[]->¬T b):IJ T v sv Y:=by
 refine⟨Il JR h.own hT,fun x hx=>?_⟩;exact Zdx
def NA(c:Cd)(j:Nat):List Hd:=(List.range (2*j)).map fun i=>⟨List.replicate (lenOf c ((i/2:Nat):Int)) 0,0⟩
theorem TO(c:Cd)(j:Nat):NA c (j+1)=NA c j++[⟨List.replicate (lenOf c (j:Int)) 0,0⟩,⟨List.replicate (lenOf c (j:Int)) 0,0⟩]:=by
 unfold NA;rw[show 2*(j+1)=2*j+1+1 by omega,ET,ET,List.append_assoc,show 2*j/2=j by omega,show(2*j+1)/2=j by omega];rfl
theorem TY{c:Cd}{l:List Hd}{Y O:List Cl}(hg:By c)(hso:GJ c l)(hY:Y.map (·.h)=PH c l)(hO:O.map (·.h)=NA c c.sign.length):PF c (B8 c l) (SJ c.regs.length) Y O:=by
 have hol:O.length=2*c.sign.length:=by have h1:=congrArg List.length hO;rw[List.length_map,NA,List.length_map,List.length_range]at h1;exact h1
 refine⟨by rw[SJ,List.length_replicate],fun x hx=>?_,hY,fun j h h2=>?_,hol,fun p n hp hn=>?_⟩
 .rw[SJ]at hx;rw[List.eq_of_mem_replicate hx];exact⟨fun y hy=>(by cases hy),gI _,Int.le_refl _,by show(0:Int)<=2147483647;decide⟩
 .show(((PH c l)[j]?).getD ⟨[],0⟩).whole=0;have hjl:j<(PH c l).length:=by rw[GK hso.len];exact h
  rw[gB hjl,Option.getD_some,PI hso.len h hjl];split
  .have h3:=hso.z j h h2;rw[gB (by rw[hso.len];exact h),Option.getD_some]at h3;exact h3
  .exact Ru hg (gD h) h2
 .have hn2:n<2:=by unfold AP at hn;split at hn<;>omega
  have hil:2*p+n<O.length:=by rw[hol];omega
  have hoh:(O[2*p+n]).h=⟨List.replicate (lenOf c (p:Int)) 0,0⟩:=by
   have h5:(O.map (·.h))[2*p+n]? =some (O[2*p+n]).h:=by rw[List.getElem?_map,gB hil];rfl
   rw[hO,NA,List.getElem?_map,List.getElem?_range oM]at h5;simp only[Option.map_some,Option.some.injEq]at h5;rw[<-h5,show(2*p+n)/2=p by omega]
  refine⟨O[2*p+n],gB hil,by rw[hoh];simp,fun y hy=>?_,fun e he=>?_⟩
  .rw[hoh]at hy;simp only at hy;rw[List.eq_of_mem_replicate hy];exact Jj
  .rw[hoh];show Cy (List.replicate (lenOf c (p:Int)) 0) e=0;rw[JF _ _ he]
theorem OM{c:Cd}{l:List Hd}(hg:By c)(hk:Bb c)(hso:GJ c l):Jf c (B8 c l):=by
 refine⟨fun _=>Jj,fun _=>⟨Int.le_refl _,by show(0:Int)<=2147483647;decide⟩,fun _ y hy=>(by cases hy),fun _=>gI _,GK hso.len,fun j h h'=>?_⟩;have h3:j<(PH c l).length:=h';show PC c c.slots[j].ty ((PH c l)[j]'h3);rw[PI hso.len h h3];split
 .exact hso.ok j h (by rw[hso.len];exact h)
 .exact Oa hg (gD h) (hk.sbits _ (gD h))
structure JW(f:Fr):Prop where
 nums:∀r,Ae (f.nums r)=f.nums r
 vecs:∀r,∀y∈f.vecs r,Ae y=y
 slots:∀h∈f.slots,∀y∈h.pats,Ae y=y
theorem Oq(a b:Int)(ha:AB a)(hb:AB b):Ae (Fq a b)=Fq a b:=by
 have:=Nz 6 a b 0 ha hb;unfold Jo at this;simpa using this
theorem Vw(a b:Int)(ha:AB a)(hb:AB b):Ae (DZ a b)=DZ a b:=by
 have:=Nz 4 a b 0 ha hb;unfold Jo at this;simpa using this
theorem Nk(x n:Int)(hx:AB x):∀ (k:Nat) (r:Int),AB r->Ae r=r->Ae (RE x n k r)=RE x n k r
 |0,r,_,h=>h
 |k+1,r,hr,_=>by
  unfold RE;split
  .exact Nk x n hx k _ (Ea _ _) (Oq _ _ (Ea _ _) hx)
  .exact Nk x n hx k _ (Ea _ _) (Oq _ _ hr hr)
theorem VE(x n:Int)(hx:AB x):Ae (Ic x n)=Ic x n:=by
 unfold Ic;split
 .decide
 .exact Nk x n hx _ _ (Dx x hx) (Cv x)
theorem Mb{g:Int->Int->Int}(hg:∀a b,AB a->AB b->Ae (g a b)=g a b)(hf:∀a b,AB a->AB b->AB (g a b)){s:Int}(hs:AB s)(hc:Ae s=s){X:Nat->Int}(hX:∀i,AB (X i)):∀n,Ae (Ma g s X n)=Ma g s X n
 |0=>hc
 |n+1=>hg _ _ (Fs hf hs hX n) (hX n)
section
variable {c : Cd} {G P : List (List Int)} {f f' : Fr} {i i' : Aa}
theorem Zq(hfrom:∀n,0<=n->n<=2147483647->Ae (DT n)=DT n)(h:AN c i (A3 i.op)=true)(ok:Jf c f)(hn:Dw i.op=true):Ae (Kx f i)=Kx f i:=by
 unfold Dw at hn;simp only[Bool.or_eq_true,beq_iff_eq]at hn;unfold Kx;rcases(show i.op=1\/i.op=16\/i.op=17\/i.op=19\/i.op=20 by omega)with o|o|o|o|o
 .have h5:Bi c i (A3 i.op).n (Ak c.regs i (A3 i.op))=true:=by unfold AN at h;simp only[Bool.and_eq_true]at h;exact h.2.2.2.2
  rw[show(A3 i.op).n=7 by rw[o];decide]at h5;unfold Bi Da at h5;simp only[if_true,Bool.and_eq_true,decide_eq_true_eq]at h5;simp only[o];exact h5.2
 .simp only[o,if_true];exact VE _ _ (ok.nums _)
 .rw[if_neg oM,if_pos o];exact hfrom _ (ok.whs _).1 (ok.whs _).2
 .rw[if_neg oM,if_neg oM,if_pos o];exact Mb (fun a b ha hb=>Vw a b ha hb) (fun _ _ _ _=>Ng _ _) Jj dE (fun j=>Cw (ok.vecs _) j) _
 .rw[if_neg oM,if_neg oM,if_neg oM,if_pos o];exact Mb (fun a b ha hb=>Oo a b ha.1 hb.1) JL Zht dE (fun j=>Cw (ok.vecs _) j) _
theorem GA{α:Type}{Q:α->Prop}{g:Nat->α}(h:∀r,Q (g r)){k:Nat}{x:α}(hx:Q x):∀r,Q (putN g k x r):=CF h hx
theorem SF(cf:JW f)(r:Int)(h:Hd)(hh:∀y∈h.pats,Ae y=y):JW (J4 c f r h):=by
 unfold J4;split
 .refine⟨GA (Q:=fun x=>Ae x=x) cf.nums ?_,cf.vecs,cf.slots⟩;cases hp:h.pats with
  |nil=>decide
  |cons y t=>exact hh y (by rw[hp];simp)
 .split
  .exact⟨cf.nums,cf.vecs,cf.slots⟩
  .exact⟨cf.nums,GA (Q:=fun l=>∀y∈l,Ae y=y) cf.vecs hh,cf.slots⟩
theorem ZE(cf:JW f)(r:Int):∀y∈(Bx c f r).pats,Ae y=y:=by
 unfold Bx;split
 .intro y hy;simp at hy;subst hy;exact cf.nums _
 .split
  .intro y hy;cases hy
  .exact cf.vecs _
theorem ZF(ok:Jf c f)(r:Int):∀y∈(Bx c f r).pats,AB y:=by
 unfold Bx;split
 .intro y hy;simp at hy;subst hy;exact ok.nums _
 .split
  .intro y hy;cases hy
  .exact ok.vecs _
theorem OQ(V:List (List Int)):∀y∈Bm c V i,Ae y=y:=by
 intro y hy;unfold Bm at hy;simp only[List.mem_map]at hy;obtain⟨k,_,rfl⟩:=hy;exact Cv _
theorem do_can(hfrom:∀n,0<=n->n<=2147483647->Ae (DT n)=DT n)(h:AN c i (A3 i.op)=true)(hk:Aq i.op=true)(ok:Jf c f)(cf:JW f):JW (CI c G P f i):=by
 rcases CE hk with o|o|o|o|o|o|o|o|o
 .rw[Bz o];exact⟨GA (Q:=fun x=>Ae x=x) cf.nums (Zq hfrom h ok o),cf.vecs,cf.slots⟩
 .rw[AT o];exact⟨cf.nums,cf.vecs,cf.slots⟩
 .rw[BZ o];exact⟨cf.nums,GA (Q:=fun l=>∀y∈l,Ae y=y) cf.vecs (OQ G),cf.slots⟩
 .rw[C5 o];exact⟨cf.nums,GA (Q:=fun l=>∀y∈l,Ae y=y) cf.vecs (OQ P),cf.slots⟩
 .rw[Ch o];exact⟨cf.nums,cf.vecs,cf.slots⟩
 .rw[BE o];refine SF cf _ _ ?_;cases hs:f.slots[i.n.toNat]? with
  |none=>intro y hy;cases hy
  |some q=>exact cf.slots q (List.mem_of_getElem? hs)
 .rw[Ci o];refine⟨cf.nums,cf.vecs,fun q hq=>?_⟩;rcases List.mem_or_eq_of_mem_set hq with hq|hq
  .exact cf.slots q hq
  .rw[hq];exact ZE cf _
 .rw[AM o];exact cf
 .rw[AS o];unfold EJ;split
  .exact⟨cf.nums,cf.vecs,cf.slots⟩
  .have ha:=Rr (op:=i.op) (args:=Bu c f i) (fun l hl=>by
    unfold Bu at hl;simp only[List.mem_map]at hl;obtain⟨r,hr,rfl⟩:=hl
    exact ZF ok r)
   refine SF cf _ _ ?_;simp only;split
   .intro y hy;unfold EZ at hy;rw[(List.mem_replicate.1 hy).2];exact Cv _
   .exact ha
end
theorem R_leR{m n:Nat}(h:m<=n):R m<=R n:=(Nv m).mono (Nv n) dE dE Yd
theorem VG(n:Int)(h1:0<=n)(h2:n<=2147483647):Ae (DT n)=DT n:=by
 have h3:R (n.natAbs*2^149)<=1325400064:=by
  have e:V 23 1325400064=2147483648*2^149:=by decide+kernel
  have h3:=Yj 1325400064;rw[e]at h3;rw[<-h3];exact R_leR (Nat.mul_le_mul_right _ oM)
 have h4:DT n=(wd false (R (n.natAbs*2^149)):Nat):=by
  have e0:decide (n<0)=false:=by simpa using h1
  rw[<-Lh];unfold DT;rw[BO,Dz,Ca,IH,e0];rfl
 rw[h4];refine IP ?_;unfold wd rg;simp only[Bool.false_eq_true,if_false];omega
theorem O7(l:List Int)(h:∀y∈l,Ae y=y):Dd 3 [l]=l:=by
 unfold Dd;have hs:Es (lF [l]) ([l].length-1)=some l.length:=by show Es _ 0=_;unfold Es lF EU;rfl
 rw[hs];simp only;refine List.ext_getElem sM fun j h1 h2=>?_;simp only[List.getElem_map,List.getElem_range];have e:Gf (lF [l]) (xF [l]) [l].length j 0=l[j]:=by
  unfold Gf;rw[if_pos sM];have el:lF [l] 0=l.length:=rfl;have hx:∀k,xF [l] 0 k=Cy l k:=fun k=>rfl;rw[el,hx];have hj:(if l.length=1 then 0 else j)=j:=by split<;>omega
  rw[hj];unfold Cy;rw[gB h2];rfl
 unfold Jo;rw[if_pos rfl,e];exact h _ (gD h2)
theorem Vi{c:Cd}{G P:List (List Int)}{f:Fr}{i:Aa}(o:i.op=3)(ht:A5 c.regs i.a=A5 c.regs i.d)(hkd:(A5 c.regs i.d).kind=1\/(A5 c.regs i.d).kind=2\/(A5 c.regs i.d).kind=3)(cf:JW f)
 (hs:(A5 c.regs i.a).kind=3->(f.vecs i.a.toNat).length=lenOf c (A5 c.regs i.a).par):Bx c (CI c G P f i) i.d=Bx c f i.a:=by
 have he:B3 i.op=true:=by rw[o];decide
 have hargs:Bu c f i=[(Bx c f i.a).pats]:=by
  unfold Bu;have hr:A3 i.op=⟨6,5,0,0,0⟩:=by rw[o];decide
  rw[hr];rfl
 rw[AS he];unfold EJ;rcases hkd with k|k|k
 .rw[if_neg oM,hargs,o];have ka:(A5 c.regs i.a).kind=1:=by rw[ht];exact k
  have hp:(Bx c f i.a).pats=[f.nums i.a.toNat]:=by unfold Bx;rw[if_pos ka]
  rw[hp,O7 _ (by intro y hy;simp at hy;subst hy;exact cf.nums _)];have hw:B0 c (A5 c.regs i.d)=1:=by unfold B0;rw[if_neg oM,if_pos k]
  rw[if_neg (by rw[hw];simp)];unfold Bx J4;rw[if_pos k,if_pos k,if_pos ka];simp only[B6];rfl
 .rw[if_pos k];have ka:(A5 c.regs i.a).kind=2:=by rw[ht];exact k
  unfold Bx;rw[if_neg oM,if_pos k,if_neg oM,if_pos ka];simp only[B6]
 .rw[if_neg oM,hargs,o];have ka:(A5 c.regs i.a).kind=3:=by rw[ht];exact k
  have hp:(Bx c f i.a).pats=f.vecs i.a.toNat:=by unfold Bx;rw[if_neg oM,if_neg oM]
  rw[hp,O7 _ (cf.vecs _)];have hw:B0 c (A5 c.regs i.d)=lenOf c (A5 c.regs i.d).par:=by unfold B0;rw[if_pos k]
  rw[if_neg (by rw[hw,hs ka,ht];omega)];unfold Bx J4;rw[if_neg oM,if_neg oM,if_neg oM,if_neg oM,if_neg oM,if_neg oM];simp only[B6]
end Go.Proofs.YtpoklpdgpcnkgaaGreat
