import Derived.Test.YtbinohkcolcbfaaGreatPart23
import Derived.Deep.CutBlock
import Derived.Deep.DeepCutAuto
import Derived.Test.YtbinohkcolcbfaaGreatPart22
import Derived.Test.YtbinohkcolcbfaaGreatPart1
import Derived.Test.YtbinohkcolcbfaaGreatPart16
import Derived.Test.YtbinohkcolcbfaaGreatPart24
namespace Go.Proofs.YtbinohkcolcbfaaGreat
open Go.RowKit Go.Proofs.Tryz
set_option linter.all false
set_option maxRecDepth 100000
set_option maxHeartbeats 16000000
theorem Py{T:Nat->Prop}(p0 p1 p2 p3 p5 p6 p7 p8:Option Addr)(n0 q0 n1 q1 n2 q2 n3 q3 n5 q5 n6 q6 n7 q7 n8 q8:Nat)(ct:Int)(pr:Option Addr)(qr:Nat)(X:List Cl)(N:Nat)(hN:X.length=N)(hX:N<=16384)(op:Int)(o1:3<=op)(o2:op<=15)(nn bt:Int)(kd ka kb kk:Nat)(hd:kd<N)(w:World)(hT:∀b,T b->b<w.heap.size)(hcs:AO T w (.slice pr N qr) X)(HV:Hd)(hel:∀v,Below w.heap.size w v->w.heap.size+1+1+1<v.heap.size->Calls prog 78 #[.agg #[(.slice p0 n0 q0),(.slice p1 n1 q1),(.slice p2 n2 q2),(.slice p3 n3 q3),.slice pr N qr,(.slice p5 n5 q5),(.slice p6 n6 q6),(.slice p7 n7 q7),(.slice p8 n8 q8),(.int .i64 ct)],.agg #[.int .i64 op,.int .i64 (kd:Int),.int .i64 (ka:Int),.int .i64 (kb:Int),.int .i64 (kk:Int),.int .i64 nn,.int .u32 bt]] v fun e w'=>∃x:Cl,e=.returned (.agg #[.slice x.p x.h.pats.length x.q,.int .i64 x.h.whole])/\x.h=HV/\AT (T2 w T) w' x.p x.h.pats/\Below v.heap.size v w'):
 Calls prog 48 #[.agg #[(.slice p0 n0 q0),(.slice p1 n1 q1),(.slice p2 n2 q2),(.slice p3 n3 q3),.slice pr N qr,(.slice p5 n5 q5),(.slice p6 n6 q6),(.slice p7 n7 q7),(.slice p8 n8 q8),(.int .i64 ct)],.agg #[.int .i64 op,.int .i64 (kd:Int),.int .i64 (ka:Int),.int .i64 (kb:Int),.int .i64 (kk:Int),.int .i64 nn,.int .u32 bt]] w fun e w'=>∃p9 q9 x,e=.returned (.agg #[(.slice p0 n0 q0),(.slice p1 n1 q1),(.slice p2 n2 q2),(.slice p3 n3 q3),.slice p9 N q9,(.slice p5 n5 q5),(.slice p6 n6 q6),(.slice p7 n7 q7),(.slice p8 n8 q8),(.int .i64 ct)])/\x.h=HV/\AO T w' (.slice p9 N q9) (X.set kd x)/\Below w.heap.size w w':=by
 have HPUT:Hid (∀v F I D (x:Cl),DW w F I D v->AT (T2 w T) v x.p x.h.pats->Calls prog 86 #[.slice pr N qr,.int .i64 (kd:Int),.agg #[.slice x.p x.h.pats.length x.q,.int .i64 x.h.whole]] v fun e w'=>∃p q,e=.returned (.slice p N q)/\AO (T2 w T) w' (.slice p N q) (X.set kd x)/\Below v.heap.size v w'):=BE (.slice pr N qr) X hN hX kd hd w hT hcs;have HT2:Hid (∀v:World,w.heap.size+1+1+1<v.heap.size->∀b,T2 w T b->b<v.heap.size):=fun v hv b hb=>CR hT hb hv;have HEL:Hid (∀v,Below w.heap.size w v->w.heap.size+1+1+1<v.heap.size->Calls prog 78 #[.agg #[(.slice p0 n0 q0),(.slice p1 n1 q1),(.slice p2 n2 q2),(.slice p3 n3 q3),.slice pr N qr,(.slice p5 n5 q5),(.slice p6 n6 q6),(.slice p7 n7 q7),(.slice p8 n8 q8),(.int .i64 ct)],.agg #[.int .i64 op,.int .i64 (kd:Int),.int .i64 (ka:Int),.int .i64 (kb:Int),.int .i64 (kk:Int),.int .i64 nn,.int .u32 bt]] v fun e w'=>∃x:Cl,e=.returned (.agg #[.slice x.p x.h.pats.length x.q,.int .i64 x.h.whole])/\x.h=HV/\AT (T2 w T) w' x.p x.h.pats/\Below v.heap.size v w'):=hel;have on1:(op==1)=false:=by have:op≠1:=oM;simpa using this
 have on2:(op==2)=false:=by have:op≠2:=oM;simpa using this
 have HD0:Hid (DW w (Ck (.slice p0 n0 q0) (.slice p1 n1 q1) (.slice p2 n2 q2) (.slice p3 n3 q3) (.slice pr N qr) (.slice p5 n5 q5) (.slice p6 n6 q6) (.slice p7 n7 q7) (.slice p8 n8 q8) (.int .i64 ct)) (f7 (.int .i64 op) (.int .i64 (kd:Int)) (.int .i64 (ka:Int)) (.int .i64 (kb:Int)) (.int .i64 (kk:Int)) (.int .i64 nn) (.int .u32 bt)) (f2 (.slice none 0 0) (.int .i64 0)) _):=DW.start w (.slice p0 n0 q0) (.slice p1 n1 q1) (.slice p2 n2 q2) (.slice p3 n3 q3) (.slice pr N qr) (.slice p5 n5 q5) (.slice p6 n6 q6) (.slice p7 n7 q7) (.slice p8 n8 q8) (.int .i64 ct) (.int .i64 op) (.int .i64 (kd:Int)) (.int .i64 (ka:Int)) (.int .i64 (kb:Int)) (.int .i64 (kk:Int)) (.int .i64 nn) (.int .u32 bt);clear hT hcs hN hel;go_enter func48,ntmps48;go_upto_block 0 with fail;go_cut [] (fun wx=>∃x:Cl,Hid (x.h=HV)/\Hid (DW w (Ck (.slice p0 n0 q0) (.slice p1 n1 q1) (.slice p2 n2 q2) (.slice p3 n3 q3) (.slice pr N qr) (.slice p5 n5 q5) (.slice p6 n6 q6) (.slice p7 n7 q7) (.slice p8 n8 q8) (.int .i64 ct)) (f7 (.int .i64 op) (.int .i64 (kd:Int)) (.int .i64 (ka:Int)) (.int .i64 (kb:Int)) (.int .i64 (kk:Int)) (.int .i64 nn) (.int .u32 bt)) (f2 (.slice x.p x.h.pats.length x.q) (.int .i64 x.h.whole)) wx)/\Hid (AT (T2 w T) wx x.p x.h.pats))
 case first=>
  obtain⟨W,hW⟩:∃W,((((w.alloc (.cells #[(.slice p0 n0 q0),(.slice p1 n1 q1),(.slice p2 n2 q2),(.slice p3 n3 q3),.slice pr N qr,(.slice p5 n5 q5),(.slice p6 n6 q6),(.slice p7 n7 q7),(.slice p8 n8 q8),(.int .i64 ct)] 125)).alloc (.cells #[.int .i64 op,.int .i64 (kd:Int),.int .i64 (ka:Int),.int .i64 (kb:Int),.int .i64 (kk:Int),.int .i64 nn,.int .u32 bt] 45)).alloc (.cells #[.slice none 0 0,.slice none 0 0,.slice none 0 0,.slice none 0 0,.slice none 0 0,.slice none 0 0,.slice none 0 0,.slice none 0 0,.slice none 0 0,.int .i64 0] 125)).alloc (.cells #[.slice none 0 0,.int .i64 0] 84))=W:=⟨_,rfl⟩
  rw[hW]at HD0;rw[hW];clear hW;have hsz:=HD0.out.size;have f0:W.cell? ⟨w.heap.size,4,none⟩=some (.slice pr N qr):=HD0.out.f.cell (i:=4) dE;have i0:W.cell? ⟨w.heap.size+1,0,none⟩=some (.int .i64 op):=HD0.out.i.cell (i:=0) dE;have i1:W.cell? ⟨w.heap.size+1,1,none⟩=some (.int .i64 (kd:Int)):=HD0.out.i.cell (i:=1) dE;have i2:W.cell? ⟨w.heap.size+1,2,none⟩=some (.int .i64 (ka:Int)):=HD0.out.i.cell (i:=2) dE;have i3:W.cell? ⟨w.heap.size+1,3,none⟩=some (.int .i64 (kb:Int)):=HD0.out.i.cell (i:=3) dE;have i4:W.cell? ⟨w.heap.size+1,4,none⟩=some (.int .i64 (kk:Int)):=HD0.out.i.cell (i:=4) dE;have i5:W.cell? ⟨w.heap.size+1,5,none⟩=some (.int .i64 nn):=HD0.out.i.cell (i:=5) dE;have i6:W.cell? ⟨w.heap.size+1,6,none⟩=some (.int .u32 bt):=HD0.out.i.cell (i:=6) dE;have d0:W.cell? ⟨w.heap.size+1+1+1,0,none⟩=some (.slice none 0 0):=HD0.out.d.cell (i:=0) dE;have d1:W.cell? ⟨w.heap.size+1+1+1,1,none⟩=some (.int .i64 0):=HD0.out.d.cell (i:=1) dE;have z0:=HD0.out.d.frozen 0;have z1:=HD0.out.d.frozen 1;have fa0:W.cell? ⟨w.heap.size,0,none⟩=some (.slice p0 n0 q0):=HD0.out.f.cell (i:=0) dE;have fa1:W.cell? ⟨w.heap.size,1,none⟩=some (.slice p1 n1 q1):=HD0.out.f.cell (i:=1) dE;have fa2:W.cell? ⟨w.heap.size,2,none⟩=some (.slice p2 n2 q2):=HD0.out.f.cell (i:=2) dE;have fa3:W.cell? ⟨w.heap.size,3,none⟩=some (.slice p3 n3 q3):=HD0.out.f.cell (i:=3) dE;have fa4:W.cell? ⟨w.heap.size,4,none⟩=some (.slice pr N qr):=HD0.out.f.cell (i:=4) dE;have fa5:W.cell? ⟨w.heap.size,5,none⟩=some (.slice p5 n5 q5):=HD0.out.f.cell (i:=5) dE;have fa6:W.cell? ⟨w.heap.size,6,none⟩=some (.slice p6 n6 q6):=HD0.out.f.cell (i:=6) dE;have fa7:W.cell? ⟨w.heap.size,7,none⟩=some (.slice p7 n7 q7):=HD0.out.f.cell (i:=7) dE;have fa8:W.cell? ⟨w.heap.size,8,none⟩=some (.slice p8 n8 q8):=HD0.out.f.cell (i:=8) dE;have fa9:W.cell? ⟨w.heap.size,9,none⟩=some (.int .i64 ct):=HD0.out.f.cell (i:=9) dE;go_wp2_with(go_at_call 78;(with_reducible refine(HEL.out _ HD0.out.bel HD0.out.size).mono ?_);rintro e w3 ⟨⟨p,q,⟨ps,wh⟩⟩,rfl,hh,hn,hb3⟩;have HD3:Hid (DW w (Ck (.slice p0 n0 q0) (.slice p1 n1 q1) (.slice p2 n2 q2) (.slice p3 n3 q3) (.slice pr N qr) (.slice p5 n5 q5) (.slice p6 n6 q6) (.slice p7 n7 q7) (.slice p8 n8 q8) (.int .i64 ct)) _ _ w3):=HD0.out.next hb3;have HN3:Hid (AT (T2 w T) w3 p ps):=hn;have HH:Hid ((⟨ps,wh⟩:Hd)=HV):=hh;clear hb3 hn hh f0 i0 i1 i2 i3 i4 i5 i6 d0 d1 z0 z1 fa0 fa1 fa2 fa3 fa4 fa5 fa6 fa7 fa8 fa9;have d0:w3.cell? ⟨w.heap.size+1+1+1,0,none⟩=some (.slice none 0 0):=HD3.out.d.cell (i:=0) dE;have d1:w3.cell? ⟨w.heap.size+1+1+1,1,none⟩=some (.int .i64 0):=HD3.out.d.cell (i:=1) dE;have z0:=HD3.out.d.frozen 0;have z1:=HD3.out.d.frozen 1);go_meet;exact⟨⟨p,q,⟨ps,wh⟩⟩,HH.out,((HD3.out.put 0 _).put 1 _).congr (fun j hj=>by obtain rfl|rfl:j=0\/j=1:=oM;all_goals rfl),Gz (Gz HN3.out 0 _) 1 _⟩
 case rest=>
  obtain⟨x,HX,HD,HNM⟩:=hcut;have g0:wc.cell? ⟨w.heap.size,4,none⟩=some (.slice pr N qr):=HD.out.f.cell (i:=4) dE;have g1:wc.cell? ⟨w.heap.size+1,1,none⟩=some (.int .i64 (kd:Int)):=HD.out.i.cell (i:=1) dE;have g2:wc.cell? ⟨w.heap.size+1+1+1,0,none⟩=some (.slice x.p x.h.pats.length x.q):=HD.out.d.cell (i:=0) dE;have g3:wc.cell? ⟨w.heap.size+1+1+1,1,none⟩=some (.int .i64 x.h.whole):=HD.out.d.cell (i:=1) dE;go_upto_region 40 with(go_at_call 86;(with_reducible refine(HPUT.out _ _ _ _ _ HD.out HNM.out).mono ?_);rintro e w5 ⟨pu5,qu5,rfl,hcu,hb5⟩;have HC5:Hid (DW w (Ck (.slice p0 n0 q0) (.slice p1 n1 q1) (.slice p2 n2 q2) (.slice p3 n3 q3) (.slice pr N qr) (.slice p5 n5 q5) (.slice p6 n6 q6) (.slice p7 n7 q7) (.slice p8 n8 q8) (.int .i64 ct)) _ _ w5/\AO (T2 w T) w5 (.slice pu5 N qu5) (X.set kd x)):=⟨HD.out.next hb5,hcu⟩;clear hb5 hcu g0 g1 g2 g3;have g4:w5.cell? ⟨w.heap.size,4,none⟩=some (.slice pr N qr):=HC5.out.1.f.cell (i:=4) dE;have z4:=HC5.out.1.f.frozen 4)
  exact Zae
theorem QT{T:Nat->Prop}(p0 p1 p2 p3 p5 p6 p7 p8:Option Addr)(n0 q0 n1 q1 n2 q2 n3 q3 n5 q5 n6 q6 n7 q7 n8 q8:Nat)(ct:Int)(pr:Option Addr)(qr:Nat)(X:List Cl)(N:Nat)(hN:X.length=N)(hX:N<=16384)(op:Int)(o1:34<=op)(o2:op<=37)(nn bt:Int)(kd ka kb kk:Nat)(w:World)(hT:∀b,T b->b<w.heap.size)(hcs:AO T w (.slice pr N qr) X):
 Calls prog 48 #[.agg #[(.slice p0 n0 q0),(.slice p1 n1 q1),(.slice p2 n2 q2),(.slice p3 n3 q3),.slice pr N qr,(.slice p5 n5 q5),(.slice p6 n6 q6),(.slice p7 n7 q7),(.slice p8 n8 q8),(.int .i64 ct)],.agg #[.int .i64 op,.int .i64 (kd:Int),.int .i64 (ka:Int),.int .i64 (kb:Int),.int .i64 (kk:Int),.int .i64 nn,.int .u32 bt]] w fun e w'=>e=.returned (.agg #[(.slice p0 n0 q0),(.slice p1 n1 q1),(.slice p2 n2 q2),(.slice p3 n3 q3),.slice pr N qr,(.slice p5 n5 q5),(.slice p6 n6 q6),(.slice p7 n7 q7),(.slice p8 n8 q8),(.int .i64 ct)])/\Below w.heap.size w w':=by
 have HT2:Hid (∀v:World,w.heap.size+1+1+1<v.heap.size->∀b,T2 w T b->b<v.heap.size):=fun v hv b hb=>CR hT hb hv;have on1:(op==1)=false:=by have:op≠1:=oM;simpa using this
 have on2:(op==2)=false:=by have:op≠2:=oM;simpa using this
 have on16:(op==16)=false:=by have:op≠16:=oM;simpa using this
 have on17:(op==17)=false:=by have:op≠17:=oM;simpa using this
 have on18:(op==18)=false:=by have:op≠18:=oM;simpa using this
 have on19:(op==19)=false:=by have:op≠19:=oM;simpa using this
 have on20:(op==20)=false:=by have:op≠20:=oM;simpa using this
 have on29:(op==29)=false:=by have:op≠29:=oM;simpa using this
 have on30:(op==30)=false:=by have:op≠30:=oM;simpa using this
 have on31:(op==31)=false:=by have:op≠31:=oM;simpa using this
 have on32:(op==32)=false:=by have:op≠32:=oM;simpa using this
 have on33:(op==33)=false:=by have:op≠33:=oM;simpa using this
 have m1:¬op<=15:=oM;have m2:¬op<=28:=oM;have HD0:Hid (DW w (Ck (.slice p0 n0 q0) (.slice p1 n1 q1) (.slice p2 n2 q2) (.slice p3 n3 q3) (.slice pr N qr) (.slice p5 n5 q5) (.slice p6 n6 q6) (.slice p7 n7 q7) (.slice p8 n8 q8) (.int .i64 ct)) (f7 (.int .i64 op) (.int .i64 (kd:Int)) (.int .i64 (ka:Int)) (.int .i64 (kb:Int)) (.int .i64 (kk:Int)) (.int .i64 nn) (.int .u32 bt)) (f2 (.slice none 0 0) (.int .i64 0)) _):=DW.start w (.slice p0 n0 q0) (.slice p1 n1 q1) (.slice p2 n2 q2) (.slice p3 n3 q3) (.slice pr N qr) (.slice p5 n5 q5) (.slice p6 n6 q6) (.slice p7 n7 q7) (.slice p8 n8 q8) (.int .i64 ct) (.int .i64 op) (.int .i64 (kd:Int)) (.int .i64 (ka:Int)) (.int .i64 (kb:Int)) (.int .i64 (kk:Int)) (.int .i64 nn) (.int .u32 bt);clear hT hcs hN;go_enter func48,ntmps48;go_upto_block 0 with fail;obtain⟨W,hW⟩:∃W,((((w.alloc (.cells #[(.slice p0 n0 q0),(.slice p1 n1 q1),(.slice p2 n2 q2),(.slice p3 n3 q3),.slice pr N qr,(.slice p5 n5 q5),(.slice p6 n6 q6),(.slice p7 n7 q7),(.slice p8 n8 q8),(.int .i64 ct)] 125)).alloc (.cells #[.int .i64 op,.int .i64 (kd:Int),.int .i64 (ka:Int),.int .i64 (kb:Int),.int .i64 (kk:Int),.int .i64 nn,.int .u32 bt] 45)).alloc (.cells #[.slice none 0 0,.slice none 0 0,.slice none 0 0,.slice none 0 0,.slice none 0 0,.slice none 0 0,.slice none 0 0,.slice none 0 0,.slice none 0 0,.int .i64 0] 125)).alloc (.cells #[.slice none 0 0,.int .i64 0] 84))=W:=⟨_,rfl⟩
 rw[hW]at HD0;rw[hW];clear hW;have hsz:=HD0.out.size;have f0:W.cell? ⟨w.heap.size,4,none⟩=some (.slice pr N qr):=HD0.out.f.cell (i:=4) dE;have i0:W.cell? ⟨w.heap.size+1,0,none⟩=some (.int .i64 op):=HD0.out.i.cell (i:=0) dE;have i2:W.cell? ⟨w.heap.size+1,2,none⟩=some (.int .i64 (ka:Int)):=HD0.out.i.cell (i:=2) dE;have i5:W.cell? ⟨w.heap.size+1,5,none⟩=some (.int .i64 nn):=HD0.out.i.cell (i:=5) dE;have HE:Hid (DE w (.slice p0 n0 q0) (.slice p1 n1 q1) (.slice p2 n2 q2) (.slice p3 n3 q3) (.slice pr N qr) (.slice p5 n5 q5) (.slice p6 n6 q6) (.slice p7 n7 q7) (.slice p8 n8 q8) (.int .i64 ct) W/\True):=⟨DE.of HD0.out.bel HD0.out.f HD0.out.r,trivial⟩
 obtain⟨⟨-,c0,c1,c2,c3,c4,c5,c6,c7,c8,c9,r0,r1,r2,r3,r4,r5,r6,r7,r8,r9,y0,y1,y2,y3,y4,y5,y6,y7,y8,y9⟩,-⟩:=HE.out;go_wp2;refine bodyPost_ret Zgq rfl ?_;refine⟨rfl,?_⟩;exact(Iz HE.out.1)
structure NA(w:World)(g:Nat):Prop where
 sign:w.rowIs g 66 3 (fun j=>if j=0 then .string II else if j=1 then .int .i64 1 else .int .i64 2)
 regs:B6 2 Kw w (.slice (some ⟨g+1,0,none⟩) 3 3) (Bc 4).regs
 slots:w.rowIs (g+2) 72 5 (fun j=>if j=0 then .int .i64 2 else if j=1 then .int .i64 0 else if j=2 then .bool true else if j=3 then .int .u32 0 else .int .i64 4)
 list:B6 7 Dt w (.slice (some ⟨g+3,0,none⟩) 7 7) (Bc 4).list
theorem J3{α:Type}{k:Nat}{f:α->List Value}(hf:∀x,(f x).length=k){l:List α}(w:World)(cs:Array Value)(t:TypeId)(h:cs.toList=AJ f l)(c:Nat):B6 k f (w.alloc (.cells cs t)) (.slice (some ⟨w.heap.size,0,none⟩) l.length c) l:=by
 refine⟨_,_,rfl,.inr ⟨w.heap.size,0,rfl,fun i hi j hj=>?_⟩⟩;have hj':j<k:=by rw[←hf l[i]];exact hj
 have h1:=Ij hf l i j hi hj';rw[←h]at h1;have h2:cs[0+i*k+j]? =some (f l[i])[j]:=by
  rw[Nat.zero_add,←Array.getElem?_toList,h1,List.getElem?_eq_getElem hj]
 have h3:(w.alloc (.cells cs t)).heap[w.heap.size]? =some (.cells cs t (0,0)):=heap_alloc_new w _;unfold World.cell?;simp only[h3];exact h2
theorem Ts(w:World):Calls prog 23 #[] w fun e w'=>e=.returned (.agg #[.slice (some ⟨w.heap.size+1,0,none⟩) 1 1,.slice (some ⟨w.heap.size+2,0,none⟩) 3 3,.slice (some ⟨w.heap.size+3,0,none⟩) 1 1,.slice (some ⟨w.heap.size+4,0,none⟩) 7 7])/\Below w.heap.size w w'/\NA w' (w.heap.size+1)/\w'.heap.size=w.heap.size+5:=by
 go_enter func23,ntmps23;go_wp2;refine bodyPost_ret (by simp[results,results23,go_sem];try rfl) rfl ?_;refine⟨rfl,gG,?_,sM⟩;obtain⟨W0,hW0⟩:∃W0,w.alloc (.cells #[.slice (some ⟨w.heap.size+1,0,none⟩) 1 1,.slice (some ⟨w.heap.size+1+1,0,none⟩) 3 3,.slice (some ⟨w.heap.size+1+1+1,0,none⟩) 1 1,.slice (some ⟨w.heap.size+1+1+1+1,0,none⟩) 7 7] 27)=W0:=⟨_,rfl⟩
 have hs:W0.heap.size=w.heap.size+1:=by rw[←hW0];simp
 rw[hW0,←hs];clear hW0;have e1:∀o,(W0.alloc o).heap.size=W0.heap.size+1:=fun o=>by simp
 have e2:∀o o',((W0.alloc o).alloc o').heap.size=W0.heap.size+2:=fun o o'=>by simp
 have e3:∀o o' o'',(((W0.alloc o).alloc o').alloc o'').heap.size=W0.heap.size+3:=fun o o' o''=>by simp
 refine⟨?_,?_,?_,?_⟩
 ·refine World.rowIs.alloc (World.rowIs.alloc (World.rowIs.alloc (World.rowIs_alloc W0 #[.string II,.int .i64 1,.int .i64 2] 66 _ fun i hi=>?_) _) _) _;have hi':i<3:=hi;obtain rfl|rfl|rfl:i=0\/i=1\/i=2:=oM
  all_goals rfl
 ·rw[←e1 (.cells #[.string II,.int .i64 1,.int .i64 2] 66)];exact((J3 (l:=(Bc 4).regs) GU _ _ _ rF 3).below (A0 _ _)).below (A0 _ _)
 ·rw[←e2 (.cells #[.string II,.int .i64 1,.int .i64 2] 66) (.cells #[.int .i64 3,.int .i64 0,.int .i64 1,.int .i64 0,.int .i64 2,.int .i64 0] 69)];refine World.rowIs.alloc (World.rowIs_alloc _ #[.int .i64 2,.int .i64 0,.bool true,.int .u32 0,.int .i64 4] 72 _ fun i hi=>?_) _;have hi':i<5:=hi;obtain rfl|rfl|rfl|rfl|rfl:i=0\/i=1\/i=2\/i=3\/i=4:=oM
  all_goals rfl
 ·rw[←e3 (.cells #[.string II,.int .i64 1,.int .i64 2] 66) (.cells #[.int .i64 3,.int .i64 0,.int .i64 1,.int .i64 0,.int .i64 2,.int .i64 0] 69) (.cells #[.int .i64 2,.int .i64 0,.bool true,.int .u32 0,.int .i64 4] 72)];exact J3 (l:=(Bc 4).list) FJ _ _ _ rF 7
theorem R5{w:World}{g:Nat}(h:NA w g){k:Int}{v:World}(hb:∀b,b≠g+2->b<w.heap.size->v.heap[b]? =w.heap[b]?)(hs:v.rowIs (g+2) 72 5 (fun j=>if j=0 then .int .i64 2 else if j=1 then .int .i64 0 else if j=2 then .bool true else if j=3 then .int .u32 0 else .int .i64 k)):
 D8 v (.slice (some ⟨g,0,none⟩) 1 1) (.slice (some ⟨g+1,0,none⟩) 3 3) (.slice (some ⟨g+2,0,none⟩) 1 1) (.slice (some ⟨g+3,0,none⟩) 7 7) (Bc k):=by
 have keep:∀ {k n:Nat} {α:Type} {f:α->List Value} {l:List α} {b:Nat},b≠g+2->B6 k f w (.slice (some ⟨b,0,none⟩) n n) l->B6 k f v (.slice (some ⟨b,0,none⟩) n n) l:=by
  intro k n α f l b hne hr;obtain⟨p,c,hv,hh⟩:=hr;refine⟨p,c,hv,?_⟩;rcases hh with e|⟨b',o',hp,hc⟩
  ·exact .inl e
  ·refine .inr ⟨b',o',hp,fun i hi j hj=>?_⟩;simp only[Value.slice.injEq]at hv;obtain⟨rfl,-,-⟩:=hv;simp only[Option.some.injEq,Addr.mk.injEq]at hp;obtain⟨rfl,rfl,-⟩:=hp;have h1:=hc i hi j hj;have h2:=A3 h1;exact(World.cell?_of_block (hb _ hne h2)).trans h1
 have hsg:=h.sign.of_block (hb g oM h.sign.lt);refine⟨?_,keep oM h.regs,?_,keep oM h.list⟩
 ·refine⟨_,_,rfl,.inr ⟨g,0,rfl,fun i hi j hj=>?_⟩⟩;have hi0:i=0:=by have:i<1:=hi;omega
  subst hi0;have hj':j<3:=hj;have:=hsg.cell hj';obtain rfl|rfl|rfl:j=0\/j=1\/j=2:=oM
  all_goals exact this
 ·refine⟨_,_,rfl,.inr ⟨g+2,0,rfl,fun i hi j hj=>?_⟩⟩;have hi0:i=0:=by have:i<1:=hi;omega
  subst hi0;have hj':j<5:=hj;have:=hs.cell hj';obtain rfl|rfl|rfl|rfl|rfl:j=0\/j=1\/j=2\/j=3\/j=4:=oM
  all_goals exact this
theorem Rh(R N sc:Nat)(sp:Option Addr)(n:Int)(hN:N<=16384)(hn:n<0\/(N:Int)<=n)(w:World)(hr:w.cell? ⟨R,1,none⟩=some (.slice sp N sc)):
 Calls prog 14 #[.pointer (some ⟨R,0,none⟩),.int .i64 n] w fun e w'=>e=.returned (.tuple #[.slice none 0 0,.int .i64 0,.int .i64 1])/\Below w.heap.size w w':=by
 by_cases h0:n<0
 ·clear hn;go_enter func14,ntmps14;go_wp2;go_returns;exact⟨rfl,B8 _⟩
 ·have h1:(N:Int)<=n:=hn.resolve_left h0;clear hn;go_enter func14,ntmps14;go_wp2;go_returns;exact⟨rfl,B8 _⟩
theorem Uh{v:World}{p:Option Addr}{q:Nat}{l:List Int}(h:AD v p l.length (fun j=>.int .u32 (B7 l j))):Pt (fun _=>False) v (.slice p l.length q) l:=by
 refine⟨p,q,rfl,?_⟩;by_cases h0:l=[]
 ·exact .inl h0
 ·rcases h with e|⟨b,o,e,h⟩
  ·exact absurd (List.length_eq_zero_iff.1 e) h0
  ·refine .inr ⟨b,o,e,fun k=>k,A3 (h 0 (List.length_pos_iff.2 h0)),fun k hk j hj=>?_⟩;have hj0:j=0:=by have:j<1:=hj;omega
   subst hj0;rw[Nat.mul_one,Nat.add_zero,h k hk];simp[ON,B7,List.getElem?_eq_getElem hk]
theorem M4{v:World}{p p':Option Addr}{q q':Nat}{l:List Int}(h1:Pt (fun _=>False) v (.slice p l.length q) l)(h2:Pt (fun _=>False) v (.slice p' l.length q') l)(t:TypeId):
 BC (fun _=>False) ((v.alloc (.cells #[.slice p l.length q] t)).alloc (.cells #[.slice p' l.length q'] t)) (.slice (some ⟨v.heap.size,0,none⟩) 1 1) [l]/\BC (fun _=>False) ((v.alloc (.cells #[.slice p l.length q] t)).alloc (.cells #[.slice p' l.length q'] t)) (.slice (some ⟨v.heap.size+1,0,none⟩) 1 1) [l]:=by
 have hb:=bel (A0 v (.cells #[.slice p l.length q] t)) (A0 (v.alloc (.cells #[.slice p l.length q] t)) (.cells #[.slice p' l.length q'] t));refine⟨⟨_,1,rfl,.inr ⟨v.heap.size,0,rfl,fun k=>k,sO,fun i hi=>?_⟩⟩,⟨_,1,rfl,.inr ⟨v.heap.size+1,0,rfl,fun k=>k,sM,fun i hi=>?_⟩⟩⟩
 ·have hi0:i=0:=by have:i<1:=hi;omega
  subst hi0;exact⟨_,kc (A0 _ _) sG,h1.below hb⟩
 ·have hi0:i=0:=by have:i<1:=hi;omega
  subst hi0;exact⟨_,sG,h2.below hb⟩
theorem Sg{T:Nat->Prop}{B:Nat}(w:World)(R:Nat)(a:Cn)(X:Nat->Value)(c:Cd)(l:List Hd)(h:AF T B w R a X c l)(hg:Good c)(p0 p1 p2 p3 ps:Option Addr)(n0 q0 n1 q1 n2 q2 n3 q3 qs:Nat)(hn2:c.slots.length=n2)(S:List Cl)(hS:S.map (·.h)=l)(hcs:Sv w (.slice ps n2 qs) S):
 Calls prog 9 #[.pointer (some ⟨R,0,none⟩),.agg #[.slice p0 n0 q0,.slice p1 n1 q1,.slice p2 n2 q2,.slice p3 n3 q3,.slice ps n2 qs]] w fun e w'=>e=.returned (.bool true)/\Below w.heap.size w w':=by
 have hll:l.length=n2:=by rw[h.len,hn2]
 have hSl:S.length=n2:=by have h5:=congrArg List.length hS;rw[List.length_map]at h5;omega
 have hb2:n2<=4096:=by rw[←hn2];exact hg.slotsL
 have KI:Hid (∀k (hk:k<l.length) v,Below w.heap.size w v->Calls prog 14 #[.pointer (some ⟨R,0,none⟩),.int .i64 (k:Int)] v fun e w'=>∃p d,e=.returned (.tuple #[.slice p (l[k]).pats.length d,.int .i64 (l[k]).whole,.int .i64 0])/\Pt (fun b=>b<v.heap.size) w' (.slice p (l[k]).pats.length d) (l[k]).pats/\Below v.heap.size v w'):=fun k hk v hb=>Nh v R a X c l (h.below hb) hg k hk;have r1:w.cell? ⟨R,1,none⟩=some (.slice a.sp n2 a.sc):=by rw[←hn2];exact h.run.at 1 rfl
 have KJ:Hid (∀n:Int,(n<0\/(n2:Int)<=n)->∀v,Below w.heap.size w v->Calls prog 14 #[.pointer (some ⟨R,0,none⟩),.int .i64 n] v fun e w'=>e=.returned (.tuple #[.slice none 0 0,.int .i64 0,.int .i64 1])/\Below v.heap.size v w'):=fun n hn v hb=>Rh R n2 a.sc a.sp n oM hn v (kc hb r1);have KR:Hid (∀k (hk:k<l.length) v,Below w.heap.size w v->Calls prog 24 #[.agg #[.slice p0 n0 q0,.slice p1 n1 q1,.slice p2 n2 q2,.slice p3 n3 q3,.slice ps n2 qs],.int .i64 (k:Int)] v fun e w'=>∃p q,e=.returned (.tuple #[.slice p (l[k]).pats.length q,.int .i64 (l[k]).whole,.int .i64 0])/\AD w' p (l[k]).pats.length (fun j=>.int .u32 (B7 (l[k]).pats j))/\Below v.heap.size v w'):=fun k hk v hb=>by
  have hkS:k<S.length:=oM;have e:S[k].h=l[k]:=by
   have h5:(S.map (·.h))[k]? =some (S[k]).h:=by rw[List.getElem?_map,List.getElem?_eq_getElem hkS];rfl
   rw[hS,List.getElem?_eq_getElem hk]at h5;simp only[Option.some.injEq]at h5;exact h5.symm
  have ho:=h.ok k (by rw[←h.len];exact hk) hk;have h9:=LP (.slice p0 n0 q0) (.slice p1 n1 q1) (.slice p2 n2 q2) (.slice p3 n3 q3) (.slice ps n2 qs) S oM k hkS (by rw[e];exact ho.2.1) (by rw[e,ho.1];exact hg.width _) v (hcs.below hb);rw[e]at h9;refine h9.mono ?_;rintro e w' ⟨p,q,rfl,h1,h2,-⟩;exact⟨p,q,rfl,h1,h2⟩
 have KQ:Hid (∀n:Int,(n<0\/(n2:Int)<=n)->∀v,Calls prog 24 #[.agg #[.slice p0 n0 q0,.slice p1 n1 q1,.slice p2 n2 q2,.slice p3 n3 q3,.slice ps n2 qs],.int .i64 n] v fun e w'=>e=.returned (.tuple #[.slice none 0 0,.int .i64 0,.int .i64 1])/\Below v.heap.size v w'):=fun n hn v=>N5 _ _ _ _ ps n2 qs oM n hn v;have KS:Hid (∀v u u' (m:List Int),BC (fun _=>False) v u [m]->BC (fun _=>False) v u' [m]->m.length<=4096->Calls prog 12 #[u,u'] v fun e w'=>e=.returned (.bool true)/\Below v.heap.size v w'):=fun v u u' m h1 h2 hm=>J7 v u u' [m] h1 h2 (by show(1:Nat)<=1048576;decide) (fun x hx=>by simp only[List.mem_singleton]at hx;subst hx;omega);have HW:Hid (∀k (hk:k<l.length),(l[k]).pats.length<=4096):=fun k hk=>by rw[(h.ok k (by rw[←h.len];exact hk) hk).1];exact hg.width _
 have HLL:Hid (l.length=n2):=hll;have HNIL:Hid (∀v:World,BC (fun _=>False) ((v.alloc (.cells #[.slice none 0 0] 57)).alloc (.cells #[.slice none 0 0] 57)) (.slice (some ⟨v.heap.size,0,none⟩) 1 1) [[]]/\BC (fun _=>False) ((v.alloc (.cells #[.slice none 0 0] 57)).alloc (.cells #[.slice none 0 0] 57)) (.slice (some ⟨v.heap.size+1,0,none⟩) 1 1) [[]]):=fun v=>M4 (l:=[]) (p:=none) (p':=none) (q:=0) (q':=0) (Pt.nil _ _ _ _) (Pt.nil _ _ _ _) 57;have HC:Hid (∀v,Below (w.alloc (.cells #[.slice p0 n0 q0,.slice p1 n1 q1,.slice p2 n2 q2,.slice p3 n3 q3,.slice ps n2 qs] 38)).heap.size (w.alloc (.cells #[.slice p0 n0 q0,.slice p1 n1 q1,.slice p2 n2 q2,.slice p3 n3 q3,.slice ps n2 qs] 38)) v->v.cell? ⟨w.heap.size,0,none⟩=some (.slice p0 n0 q0)/\v.cell? ⟨w.heap.size,1,none⟩=some (.slice p1 n1 q1)/\v.cell? ⟨w.heap.size,2,none⟩=some (.slice p2 n2 q2)/\v.cell? ⟨w.heap.size,3,none⟩=some (.slice p3 n3 q3)/\v.cell? ⟨w.heap.size,4,none⟩=some (.slice ps n2 qs)/\Below w.heap.size w v):=fun v hb=>⟨kc hb sG,kc hb sG,kc hb sG,kc hb sG,kc hb sG,bel (A0 _ _) hb⟩
 clear h hg hS hcs hll hSl r1 hn2;obtain⟨W0,hW0⟩:∃W,w.alloc (.cells #[.slice p0 n0 q0,.slice p1 n1 q1,.slice p2 n2 q2,.slice p3 n3 q3,.slice ps n2 qs] 38)=W:=⟨_,rfl⟩
 rw[hW0]at HC;have HW0:Hid _:=hW0;obtain⟨s0,s1,s2,s3,s4,hbw0⟩:=HC.out W0 (B8 _);go_enter func9,ntmps9;go_upto_block 0 with fail;try rw[hW0]
 clear hW0;go_wp2
 go_loopw [5] (fun iv wr=>Below W0.heap.size W0 wr/\∃j:Nat,j<=n2+2/\iv=.int .i64 ((j:Int)-1)) (fun iv _=>n2+2-(intOf iv+1).toNat)
 case atStart=>exact⟨B8 _,0,Nat.zero_le _,rfl⟩
 case round=>
  clear s0 s1 s2 s3 s4 hbw0;obtain⟨hb,j,hj,rfl⟩:=hrel;obtain⟨s0,s1,s2,s3,s4,hbw⟩:=HC.out wr hb;have HB:Hid (Below W0.heap.size W0 wr):=hb;have HBW:Hid (Below w.heap.size w wr):=hbw;by_cases hend:j=n2+2
  ·have e1:¬ ((j:Int)-1<=(n2:Int)):=oM;clear hend hb hbw;go_wp2;go_ret;exact⟨rfl,HBW.out⟩
  ·have e1:(j:Int)-1<=(n2:Int):=oM;have wi:IntKind.i64.wrap ((j:Int)-1+1)=(j:Int):=by rw[IntKind.wrap_i64];omega
   have HJ:Hid (j<n2+2):=by show _<_;omega
   by_cases hin:1<=j/\j<=n2
   ·obtain⟨k,rfl⟩:∃k,j=k+1:=⟨j-1,oM⟩
    have hkl:k<l.length:=by rw[HLL.out];omega
    have K1:=KI.out k hkl;have K2:=KR.out k hkl;have hw:=HW.out k hkl;obtain⟨hd,hhd⟩:∃x,l[k]=x:=⟨_,rfl⟩
    rw[hhd]at K1 K2 hw;obtain⟨m,hm⟩:∃n,hd.pats.length=n:=⟨_,rfl⟩
    have HM:Hid (hd.pats.length=m):=hm;rw[hm]at K1 K2;obtain⟨iz,hiz⟩:∃z:Int,((k+1:Nat):Int)-1=z:=⟨_,rfl⟩
    have hkz:(k:Int)=iz:=oM;rw[hkz]at K1 K2;rw[hiz]at e1 wi;have HIZ:Hid (((k+1:Nat):Int)-1=iz):=hiz;have HK1:Hid _:=K1;have HK2:Hid _:=K2;rw[hiz];clear hb hbw hin hkl K1 K2 hhd hm hkz hend hiz;go_wp2_with(first
     |(go_at_call 14;(with_reducible refine(HK1.out _ HBW.out).mono ?_);rintro e w1 ⟨pa,qa,rfl,hpa,hb1⟩;have HP1:Hid (Pt (fun _=>False) w1 (.slice pa m qa) hd.pats):=hpa.mono (fun _ _ e=>e.elim);have HB1:Hid (Below W0.heap.size W0 w1):=bel HB.out hb1;clear hpa hb1 s0 s1 s2 s3 s4;obtain⟨s0,s1,s2,s3,s4,hbw1⟩:=HC.out w1 HB1.out;have HBW1:Hid (Below w.heap.size w w1):=hbw1;clear hbw1)
     |(go_at_call 24;(with_reducible refine(HK2.out _ HBW1.out).mono ?_);rintro e w2 ⟨pb,qb,rfl,hrb,hb2'⟩;have HP2:Hid (Pt (fun _=>False) w2 (.slice pa hd.pats.length qa) hd.pats/\Pt (fun _=>False) w2 (.slice pb hd.pats.length qb) hd.pats):=⟨by rw[HM.out];exact HP1.out.below hb2',Uh (by rw[HM.out];exact hrb)⟩;have HB2:Hid (Below W0.heap.size W0 w2):=bel HB1.out hb2';clear hrb hb2' s0 s1 s2 s3 s4;obtain⟨s0,s1,s2,s3,s4,-⟩:=HC.out w2 HB2.out)
     |(go_at_call 12;(with_reducible refine(KS.out _ _ _ hd.pats (by have h9:=(M4 HP2.out.1 HP2.out.2 57).1;rw[HM.out]at h9;exact h9) (by have h9:=(M4 HP2.out.1 HP2.out.2 57).2;rw[HM.out]at h9;exact h9) hw).mono ?_);rintro e w4 ⟨rfl,hb4⟩;have HB4:Hid (Below W0.heap.size W0 w4):=bel (bel HB2.out (bel (A0 _ _) (A0 _ _))) hb4;clear hb4))
    go_roundw
    case rel=>exact⟨HB4.out,k+1+1,by have:=HJ.out;omega,by congr 1;have h9:=HIZ.out;omega⟩
    case measure=>have h9:=HIZ.out;have h8:=HJ.out;simp[intOf];omega
   ·have hbad:((j:Int)-1<0\/(n2:Int)<=(j:Int)-1):=oM;have HK1:Hid _:=KJ.out _ hbad;have HK2:Hid _:=KQ.out _ hbad;obtain⟨iz,hiz⟩:∃z:Int,(j:Int)-1=z:=⟨_,rfl⟩
    rw[hiz]at HK1 HK2 e1 wi;have HIZ:Hid ((j:Int)-1=iz):=hiz;rw[hiz];clear hb hbw hin hend hbad hiz;go_wp2_with(first
     |(go_at_call 14;(with_reducible refine(HK1.out _ HBW.out).mono ?_);rintro e w1 ⟨rfl,hb1⟩;have HB1:Hid (Below W0.heap.size W0 w1):=bel HB.out hb1;clear hb1 s0 s1 s2 s3 s4;obtain⟨s0,s1,s2,s3,s4,-⟩:=HC.out w1 HB1.out)
     |(go_at_call 24;(with_reducible refine(HK2.out _).mono ?_);rintro e w2 ⟨rfl,hb2'⟩;have HB2:Hid (Below W0.heap.size W0 w2):=bel HB1.out hb2';clear hb2' s0 s1 s2 s3 s4;obtain⟨s0,s1,s2,s3,s4,-⟩:=HC.out w2 HB2.out)
     |(go_at_call 12;(with_reducible refine(KS.out _ _ _ [] (HNIL.out w2).1 (HNIL.out w2).2 dE).mono ?_);rintro e w4 ⟨rfl,hb4⟩;have HB4:Hid (Below W0.heap.size W0 w4):=bel (bel HB2.out (bel (A0 _ _) (A0 _ _))) hb4;clear hb4))
    go_roundw
    case rel=>exact⟨HB4.out,j+1,by have:=HJ.out;omega,by congr 1;have h9:=HIZ.out;omega⟩
    case measure=>have h9:=HIZ.out;have h8:=HJ.out;simp[intOf];omega
def T9:Cd:=⟨[],[],[],[⟨35,0,0,0,0,0,0⟩]⟩
theorem JM:(Au T9).1=160:=by decide+kernel
theorem YR:B5 T9:=by
 refine⟨by show(0:Nat)<=_;decide,fun p hp=>?_,by show(0:Nat)<=_;decide,by show(0:Nat)<=_;decide,by show(1:Nat)<=_;decide,fun s hs=>?_,fun i hi=>?_⟩
 ·cases hp
 ·cases hs
 ·simp[T9]at hi;rw[hi];decide
theorem VJ{T:Nat->Prop}(w:World)(x y:Int)(h1:¬T w.heap.size)(h2:¬T (w.heap.size+1)):BC T ((w.alloc (.cells #[.int .u32 x,.int .u32 y] 43)).alloc (.cells #[.slice (some ⟨w.heap.size,0,none⟩) 2 2] 57)) (.slice (some ⟨w.heap.size+1,0,none⟩) 1 1) [[x,y]]:=by
 have r1:=(World.rowIs_alloc w #[.int .u32 x,.int .u32 y] 43 (fun j=>.int .u32 (B7 [x,y] j)) (fun i hi=>by
  have hi':i<2:=hi;obtain rfl|rfl:i=0\/i=1:=oM
  all_goals rfl)).alloc (.cells #[.slice (some ⟨w.heap.size,0,none⟩) 2 2] 57)
 have r2:=World.rowIs_alloc (w.alloc (.cells #[.int .u32 x,.int .u32 y] 43)) #[.slice (some ⟨w.heap.size,0,none⟩) 2 2] 57 (fun _=>.slice (some ⟨w.heap.size,0,none⟩) 2 2) (fun i hi=>by
  have hi':i<1:=hi;obtain rfl:i=0:=oM
  rfl)
 rw[show(w.alloc (.cells #[.int .u32 x,.int .u32 y] 43)).heap.size=w.heap.size+1 by simp]at r2;refine⟨_,_,rfl,.inr ⟨w.heap.size+1,0,rfl,h2,r2.lt,fun i hi=>?_⟩⟩;have hi0:i=0:=by have:i<1:=hi;omega
 subst hi0;exact⟨_,r2.cell (i:=0) (by show 0<1;decide),Pt.of_row r1 h1 rfl (fun j _=>rfl) 2⟩
theorem VI(T:Nat->Prop)(w:World)(c:Nat):BC T w (.slice none 0 c) []:=⟨none,c,rfl,.inl rfl⟩
theorem Qu{x y:Int}(h1:Af x)(h2:Af y):DY [[x,y]]:=by
 refine⟨by show 1<=140737488351232;decide,fun l hl=>?_,fun l hl z hz=>?_⟩
 ·simp at hl;rw[hl];show 2<=140737488351232;decide
 ·simp at hl;rw[hl]at hz;simp at hz;rcases hz with e|e<;>rw[e]
  ·exact h1
  ·exact h2
theorem Qt:DY []:=⟨by show 0<=140737488351232;decide,fun l hl=>(by cases hl),fun l hl=>(by cases hl)⟩
theorem WL{k y x1 x2:Int}(k0:0<=k)(k1:k<=2147483647)(h1:Af x1)(h2:Af x2){B:Nat}(w:World)(R:Nat)(a:Cn)(X:Nat->Value)(h:AF (fun b=>b<B\/b=a.S) B w R a X (Bc k) [⟨[],y⟩])(hB:B<=w.heap.size)(v:Value)(hv:BC (fun b=>b<B\/b=a.S) w v [[x1,x2]]):
 Calls prog 10 #[.pointer (some ⟨R,0,none⟩),v,v] w fun e w'=>∃UB,e=.returned (.tuple #[.slice (some ⟨UB,0,none⟩) 1 1,.int .i64 0])/\(∃X',AF (fun b=>b<B\/b=a.S) B w' R a X' (Bc k) [⟨[],min y 2147483646+1⟩])/\Un (fun b=>b=a.S) w w'/\BC (fun b=>b<w.heap.size) w' (.slice (some ⟨UB,0,none⟩) 1 1) (E1 (Bc k) (Di (Bc k) [⟨[],y⟩] [[x1,x2]] [[x1,x2]])):=by
 have:=Ku w R a X (Bc k) [⟨[],y⟩] h (DN k k0 k1) (Lk k) (fun b e=>e.elim (fun q=>by omega) fun q=>by rw[q];exact h.slots.row.lt) v v [[x1,x2]] [[x1,x2]] hv hv (Qu h1 h2) (Qu h1 h2) (R6 k x1 x2);rw[Oj]at this;exact this
theorem R7{k y:Int}(k0:0<=k)(k1:k<=2147483647){B:Nat}(w:World)(R:Nat)(a:Cn)(X:Nat->Value)(h:AF (fun b=>b<B\/b=a.S) B w R a X (Bc k) [⟨[],y⟩]):
 Calls prog 10 #[.pointer (some ⟨R,0,none⟩),.slice none 0 0,.slice none 0 0] w fun e w'=>e=.returned (.tuple #[.slice none 0 0,.int .i64 170])/\Below w.heap.size w w':=
 Nj w R a X (Bc k) _ h (Ea (DN k k0 k1)).1 (Lk k).names _ _ [] [] (VI _ _ _) (VI _ _ _) Qt Qt (Oh k)
theorem R8{k y:Int}(k0:0<=k)(k1:k<=2147483647){B:Nat}(w:World)(R:Nat)(a:Cn)(X:Nat->Value)(h:AF (fun b=>b<B\/b=a.S) B w R a X (Bc k) [⟨[],y⟩]):
 Calls prog 14 #[.pointer (some ⟨R,0,none⟩),.int .i64 0] w fun e w'=>∃p d,e=.returned (.tuple #[.slice p 0 d,.int .i64 y,.int .i64 0])/\Below w.heap.size w w':=
 (Nh w R a X (Bc k) [⟨[],y⟩] h (Ea (DN k k0 k1)).1 0 (by show 0<1;decide)).mono fun e w' ⟨p,d,h1,_,h2⟩=>⟨p,d,h1,h2⟩
theorem K6(w:World):Calls prog 8 #[] w fun e w'=>e=.returned (.bool true)/\Below w.heap.size w w':=by
 have KN:Hid (∀ (v u:World),NA v (w.heap.size+1)->u=v->Calls prog 6 #[.agg #[.slice (some ⟨w.heap.size+1,0,none⟩) 1 1,.slice (some ⟨w.heap.size+2,0,none⟩) 3 3,.slice (some ⟨w.heap.size+3,0,none⟩) 1 1,.slice (some ⟨w.heap.size+4,0,none⟩) 7 7]] u fun e w'=>∃R a X,e=.returned (.tuple #[.pointer (some ⟨R,0,none⟩),.int .i64 0])/\AF (fun b=>b<u.heap.size\/b=a.S) u.heap.size w' R a X (Bc 4) [⟨[],4⟩]/\Below u.heap.size u w'):=fun v u h e=>by
  subst e;have:=MG _ _ _ _ (Bc 4) (Lk 4) u (R5 h (fun _ _ _=>rfl) h.slots) (DN 4 dE dE);rw[Oi]at this;exact this
 have hg4:=(Ea (DN 4 dE dE)).1;have KB:Hid (∀v:World,Calls prog 6 #[.agg #[.slice none 0 0,.slice none 0 0,.slice none 0 0,.slice (some ⟨v.heap.size,0,none⟩) 1 1]] (v.alloc (.cells #[.int .i64 35,.int .i64 0,.int .i64 0,.int .i64 0,.int .i64 0,.int .i64 0,.int .u32 0] 45)) fun e w'=>e=.returned (.tuple #[.pointer none,.int .i64 160])/\Below v.heap.size v w'):=fun v=>by
  have:=PK (.slice none 0 0) (.slice none 0 0) (.slice none 0 0) (.slice (some ⟨v.heap.size,0,none⟩) 1 1) T9 YR (v.alloc (.cells #[.int .i64 35,.int .i64 0,.int .i64 0,.int .i64 0,.int .i64 0,.int .i64 0,.int .u32 0] 45)) ⟨⟨none,0,rfl,.inl rfl⟩,⟨none,0,rfl,.inl rfl⟩,⟨none,0,rfl,.inl rfl⟩,J3 (l:=T9.list) FJ v _ _ rF 1⟩ (by rw[JM];decide);rw[JM]at this;exact this.mono fun e w' ⟨h1,h2⟩=>⟨h1,bel (A0 _ _) h2⟩
 have heq:∀ (w:World) (q:Addr),(binOp .eql 32 (.pointer (some q)) (.pointer none)).run prog w=.ok (.bool false) w:=fun w q=>by go_simp
 go_enter func8,ntmps8;go_wp2_with(first
  |(go_at_call 23;refine(Ts w).mono ?_;rintro e w1 ⟨rfl,hb1,hh1,hs1⟩;have HB1:=Ac hb1;have HH1:=Ac hh1;have HS1:=Ac hs1;clear hb1 hh1 hs1)
  |(go_at_call 6;(with_reducible refine(KN.out w1 w1 HH1.out rfl).mono ?_);rintro e w2 ⟨R,a,X,rfl,hrun,hb2⟩;have HRUN:=Ac hrun;have HB2:=Ac hb2;obtain⟨W3,hW3⟩:∃W3,(w2.alloc (.cells #[.int .u32 1073741824,.int .u32 1065353216] 43)).alloc (.cells #[.slice (some ⟨w2.heap.size,0,none⟩) 2 2] 57)=W3:=⟨_,rfl⟩;have HB3:Hid (Below w2.heap.size w2 W3):=(by rw[←hW3];exact bel (A0 _ _) (A0 _ _));have HVS:Hid (BC (fun b=>b<w1.heap.size\/b=a.S) W3 (.slice (some ⟨w2.heap.size+1,0,none⟩) 1 1) [[1073741824,1065353216]]):=(by rw[←hW3];exact VJ w2 _ _ (by have:=hb2.size;have:=hrun.slots.row.lt;omega) (by have:=hb2.size;have:=hrun.slots.row.lt;omega));have KS1:=Ac (WL (k:=4) (y:=4) dE dE ZH ZH W3 R a X (hrun.below HB3.out) (by have:=hb2.size;have:=HB3.out.size;omega) _ HVS.out);clear hrun hb2)
  |(go_at_call 10;(with_reducible refine KS1.out.mono ?_);rintro e w4 ⟨UB,rfl,⟨X4,hrun4⟩,hun4,hvs4⟩;have HRUN4:=Ac hrun4;have HUN4:=Ac hun4;have HVS4:=Ac hvs4;have KSL:=Ac (R8 (k:=4) dE dE w4 R a X4 hrun4);clear hrun4 hun4 hvs4)
  |(go_at_call 14;(with_reducible refine KSL.out.mono ?_);rintro e w5 ⟨p5,d5,rfl,hb5⟩;have HB5:=Ac hb5;have KS2:=Ac (R7 (k:=4) dE dE w5 R a X4 (HRUN4.out.below hb5));clear hb5)
  |(go_at_call 10;(with_reducible refine KS2.out.mono ?_);rintro e w6 ⟨rfl,hb6⟩;have HB6:=Ac hb6;clear hb6)
  |(go_at_call 6;(with_reducible refine(KB.out w6).mono ?_);rintro e w7 ⟨rfl,hb7⟩;have HB7:=Ac hb7;have KSV:=Ac (J7 (T:=fun b=>b<W3.heap.size) (T':=fun _=>False) ((w7.alloc (.cells #[.int .u32 1065353216,.int .u32 1056964608] 43)).alloc (.cells #[.slice (some ⟨w7.heap.size,0,none⟩) 2 2] 57)) (.slice (some ⟨UB,0,none⟩) 1 1) (.slice (some ⟨w7.heap.size+1,0,none⟩) 1 1) [[1065353216,1056964608]] (by have:=HVS4.out;rw[Tt]at this;exact this.below (bel HB5.out (bel HB6.out (bel hb7 (bel (A0 _ _) (A0 _ _)))))) (VJ w7 _ _ (fun e=>e) (fun e=>e)) (by show 1<=1048576;decide) (fun l hl=>by simp at hl;rw[hl];show 2<=1048576;decide));clear hb7)
  |(go_at_call 12;(with_reducible refine KSV.out.mono ?_);rintro e w8 ⟨rfl,hb8⟩;have HB8:=Ac hb8;clear hb8))
 go_ret;have hS:=HRUN.out.bS;have hs1:=HB1.out.size;have hs2:=HB2.out.size;have hs3:=HB3.out.size;refine⟨rfl,?_⟩;have hA:Below w.heap.size w W3:=bel HB1.out (bel HB2.out HB3.out);have hC:Below w.heap.size W3 w4:=HUN4.out.below oM (fun b e=>by omega);exact(hA.trans hC).trans ((bel HB5.out (bel HB6.out (bel HB7.out (bel (bel (A0 _ _) (A0 _ _)) HB8.out)))).mono (by have:=hC.size;omega))

theorem VG(c:Cd)(f:Fr):(E1 c f).length=c.sign.length:=by simp[E1]
theorem So{c:Cd}(hg:Good c)(f:Fr):∀l∈E1 c f,l.length<=1048576:=by
 intro l hl;obtain⟨p,hp,rfl⟩:=List.mem_map.1 hl;rw[List.length_map,List.length_range];cases h:c.sign[p]? with
 |none=>exact Nat.zero_le _
 |some q=>
  have hq:=hg.len q (List.mem_of_getElem? h);show Ju q<=_;unfold Ju BJ;split
  ·split<;>omega
  ·simp
theorem Qv{T:Nat->Prop}{w w':World}{v:Value}{L:List (List Int)}(h:BC (Qy w) w v L)(q:Un T w w')(hT:∀b,T b->w.heap.size<=b):BC T w' v L:=
 (h.un q (fun b hb e=>hT b e)).mono (fun b hb e=>hT b e)
end Go.Proofs.YtbinohkcolcbfaaGreat
