import Derived.Test.YtbinohkcolcbfaaGreatPart1
import Derived.Test.YtbinohkcolcbfaaGreatPart23
import Derived.Deep.CutBlock
import Derived.Deep.DeepCutAuto
namespace Go.Proofs.YtbinohkcolcbfaaGreat
open Go.RowKit Go.Proofs.Tryz
set_option linter.all false
set_option maxRecDepth 100000
set_option maxHeartbeats 16000000
theorem O0{T:Nat->Prop}(p0 p1 p2 p3 p5 p6 p7 p8:Option Addr)(n0 q0 n1 q1 n2 q2 n3 q3 n5 q5 n6 q6 n7 q7 n8 q8:Nat)(ct:Int)(pr:Option Addr)(qr:Nat)(X:List Cl)(N:Nat)(hN:X.length=N)(hX:N<=16384)(op:Int)(o1:21<=op)(o2:op<=28)(nn bt:Int)(kd ka kb kk:Nat)(hd:kd<N)(w:World)(hT:∀b,T b->b<w.heap.size)(hcs:AO T w (.slice pr N qr) X)(xa:Cl)(hxa:X[ka]? =some xa)(xb:Cl)(hxb:X[kb]? =some xb)(xc:Cl)(hxc:X[kk]? =some xc)(hwa:0<=xa.h.whole/\xa.h.whole<=2147483647)(hwb:0<=xb.h.whole/\xb.h.whole<=2147483647):
 Calls prog 48 #[.agg #[(.slice p0 n0 q0),(.slice p1 n1 q1),(.slice p2 n2 q2),(.slice p3 n3 q3),.slice pr N qr,(.slice p5 n5 q5),(.slice p6 n6 q6),(.slice p7 n7 q7),(.slice p8 n8 q8),(.int .i64 ct)],.agg #[.int .i64 op,.int .i64 (kd:Int),.int .i64 (ka:Int),.int .i64 (kb:Int),.int .i64 (kk:Int),.int .i64 nn,.int .u32 bt]] w fun e w'=>∃p9 q9 x,e=.returned (.agg #[(.slice p0 n0 q0),(.slice p1 n1 q1),(.slice p2 n2 q2),(.slice p3 n3 q3),.slice p9 N q9,(.slice p5 n5 q5),(.slice p6 n6 q6),(.slice p7 n7 q7),(.slice p8 n8 q8),(.int .i64 ct)])/\x.h=⟨[],CK op xa.h.whole xb.h.whole xc.h.whole⟩/\AO T w' (.slice p9 N q9) (X.set kd x)/\Below w.heap.size w w':=by
 have HPUT:Hid (∀v F I D (x:Cl),DW w F I D v->AT (T2 w T) v x.p x.h.pats->Calls prog 86 #[.slice pr N qr,.int .i64 (kd:Int),.agg #[.slice x.p x.h.pats.length x.q,.int .i64 x.h.whole]] v fun e w'=>∃p q,e=.returned (.slice p N q)/\AO (T2 w T) w' (.slice p N q) (X.set kd x)/\Below v.heap.size v w'):=BE (.slice pr N qr) X hN hX kd hd w hT hcs;have HT2:Hid (∀v:World,w.heap.size+1+1+1<v.heap.size->∀b,T2 w T b->b<v.heap.size):=fun v hv b hb=>CR hT hb hv;have HXA:Hid (X[ka]? =some xa):=hxa;obtain⟨hal,hax⟩:=List.getElem?_eq_some_iff.1 hxa;obtain⟨rb,ro,rfl,hca⟩:=hcs.row.row.at hal;rw[hax]at hca;have x0:w.cell? ⟨rb,ro+ka*2,none⟩=some (.slice xa.p xa.h.pats.length xa.q):=hca.at 0 rfl;have x1:w.cell? ⟨rb,ro+ka*2+1,none⟩=some (.int .i64 xa.h.whole):=hca.at 1 rfl;have ha0:(0:Int)<=(ka:Int):=oM;have ha1:(ka:Int)<(N:Int):=oM;have hrb1:¬rb=w.heap.size:=by have:=A3 x0;intro e;simp only at this;omega
 have hrb2:¬rb=w.heap.size+1+1+1:=by have:=A3 x0;intro e;simp only at this;omega
 obtain⟨hbl,hbx⟩:=List.getElem?_eq_some_iff.1 hxb;obtain⟨rbb,rob,eb,hcb⟩:=hcs.row.row.at hbl;simp only[Option.some.injEq,Addr.mk.injEq,and_true]at eb;obtain⟨rfl,rfl⟩:=eb;rw[hbx]at hcb;have yb:w.cell? ⟨rb,ro+kb*2+1,none⟩=some (.int .i64 xb.h.whole):=hcb.at 1 rfl;have hb1:(kb:Int)<(N:Int):=oM;obtain⟨hcl,hcx⟩:=List.getElem?_eq_some_iff.1 hxc;obtain⟨rbc,roc,ec,hcc⟩:=hcs.row.row.at hcl;simp only[Option.some.injEq,Addr.mk.injEq,and_true]at ec;obtain⟨rfl,rfl⟩:=ec;rw[hcx]at hcc;have yc:w.cell? ⟨rb,ro+kk*2+1,none⟩=some (.int .i64 xc.h.whole):=hcc.at 1 rfl;have hc1:(kk:Int)<(N:Int):=oM;have HKF:Hid (∀v,Calls prog 84 #[.int .i64 op,.int .i64 xa.h.whole,.int .i64 xb.h.whole,.int .i64 xc.h.whole] v fun e w'=>e=.returned (.int .i64 (CK op xa.h.whole xb.h.whole xc.h.whole))/\w'=v):=fun v=>P7 op _ _ _ ⟨o1,o2⟩ hwa hwb v;have hb0:(0:Int)<=(kb:Int):=oM;have hc0:(0:Int)<=(kk:Int):=oM;have on1:(op==1)=false:=by have:op≠1:=oM;simpa using this
 have on2:(op==2)=false:=by have:op≠2:=oM;simpa using this
 have on16:(op==16)=false:=by have:op≠16:=oM;simpa using this
 have on17:(op==17)=false:=by have:op≠17:=oM;simpa using this
 have on18:(op==18)=false:=by have:op≠18:=oM;simpa using this
 have on19:(op==19)=false:=by have:op≠19:=oM;simpa using this
 have on20:(op==20)=false:=by have:op≠20:=oM;simpa using this
 have on3:¬op<=15:=oM;have HD0:Hid (DW w (Ck (.slice p0 n0 q0) (.slice p1 n1 q1) (.slice p2 n2 q2) (.slice p3 n3 q3) (.slice (some ⟨rb,ro,none⟩) N qr) (.slice p5 n5 q5) (.slice p6 n6 q6) (.slice p7 n7 q7) (.slice p8 n8 q8) (.int .i64 ct)) (f7 (.int .i64 op) (.int .i64 (kd:Int)) (.int .i64 (ka:Int)) (.int .i64 (kb:Int)) (.int .i64 (kk:Int)) (.int .i64 nn) (.int .u32 bt)) (f2 (.slice none 0 0) (.int .i64 0)) _):=DW.start w (.slice p0 n0 q0) (.slice p1 n1 q1) (.slice p2 n2 q2) (.slice p3 n3 q3) (.slice (some ⟨rb,ro,none⟩) N qr) (.slice p5 n5 q5) (.slice p6 n6 q6) (.slice p7 n7 q7) (.slice p8 n8 q8) (.int .i64 ct) (.int .i64 op) (.int .i64 (kd:Int)) (.int .i64 (ka:Int)) (.int .i64 (kb:Int)) (.int .i64 (kk:Int)) (.int .i64 nn) (.int .u32 bt);clear hT hcs hN hxa hca hal hax hxb hcb hbl hbx hxc hcc hcl hcx x0;go_enter func48,ntmps48;go_upto_block 0 with fail;go_cut [] (fun wx=>∃x:Cl,Hid (x.h=⟨[],CK op xa.h.whole xb.h.whole xc.h.whole⟩)/\Hid (DW w (Ck (.slice p0 n0 q0) (.slice p1 n1 q1) (.slice p2 n2 q2) (.slice p3 n3 q3) (.slice (some ⟨rb,ro,none⟩) N qr) (.slice p5 n5 q5) (.slice p6 n6 q6) (.slice p7 n7 q7) (.slice p8 n8 q8) (.int .i64 ct)) (f7 (.int .i64 op) (.int .i64 (kd:Int)) (.int .i64 (ka:Int)) (.int .i64 (kb:Int)) (.int .i64 (kk:Int)) (.int .i64 nn) (.int .u32 bt)) (f2 (.slice x.p x.h.pats.length x.q) (.int .i64 x.h.whole)) wx)/\Hid (AT (T2 w T) wx x.p x.h.pats))
 case first=>
  obtain⟨W,hW⟩:∃W,((((w.alloc (.cells #[(.slice p0 n0 q0),(.slice p1 n1 q1),(.slice p2 n2 q2),(.slice p3 n3 q3),.slice (some ⟨rb,ro,none⟩) N qr,(.slice p5 n5 q5),(.slice p6 n6 q6),(.slice p7 n7 q7),(.slice p8 n8 q8),(.int .i64 ct)] 125)).alloc (.cells #[.int .i64 op,.int .i64 (kd:Int),.int .i64 (ka:Int),.int .i64 (kb:Int),.int .i64 (kk:Int),.int .i64 nn,.int .u32 bt] 45)).alloc (.cells #[.slice none 0 0,.slice none 0 0,.slice none 0 0,.slice none 0 0,.slice none 0 0,.slice none 0 0,.slice none 0 0,.slice none 0 0,.slice none 0 0,.int .i64 0] 125)).alloc (.cells #[.slice none 0 0,.int .i64 0] 84))=W:=⟨_,rfl⟩
  rw[hW]at HD0;rw[hW];clear hW;have hsz:=HD0.out.size;have f0:W.cell? ⟨w.heap.size,4,none⟩=some (.slice (some ⟨rb,ro,none⟩) N qr):=HD0.out.f.cell (i:=4) dE;have i0:W.cell? ⟨w.heap.size+1,0,none⟩=some (.int .i64 op):=HD0.out.i.cell (i:=0) dE;have i1:W.cell? ⟨w.heap.size+1,1,none⟩=some (.int .i64 (kd:Int)):=HD0.out.i.cell (i:=1) dE;have i2:W.cell? ⟨w.heap.size+1,2,none⟩=some (.int .i64 (ka:Int)):=HD0.out.i.cell (i:=2) dE;have i3:W.cell? ⟨w.heap.size+1,3,none⟩=some (.int .i64 (kb:Int)):=HD0.out.i.cell (i:=3) dE;have i4:W.cell? ⟨w.heap.size+1,4,none⟩=some (.int .i64 (kk:Int)):=HD0.out.i.cell (i:=4) dE;have i5:W.cell? ⟨w.heap.size+1,5,none⟩=some (.int .i64 nn):=HD0.out.i.cell (i:=5) dE;have i6:W.cell? ⟨w.heap.size+1,6,none⟩=some (.int .u32 bt):=HD0.out.i.cell (i:=6) dE;have d0:W.cell? ⟨w.heap.size+1+1+1,0,none⟩=some (.slice none 0 0):=HD0.out.d.cell (i:=0) dE;have d1:W.cell? ⟨w.heap.size+1+1+1,1,none⟩=some (.int .i64 0):=HD0.out.d.cell (i:=1) dE;have z0:=HD0.out.d.frozen 0;have z1:=HD0.out.d.frozen 1;have x5:=kc HD0.out.bel x1;have y1:=kc HD0.out.bel yb;have y2:=kc HD0.out.bel yc;clear x1 yb yc i1 i5 i6;have sf0:=(fun u=>Ar (b:=⟨w.heap.size+1+1+1,1,none⟩) (f0) iE u)
  have si0:=(fun u=>Ar (b:=⟨w.heap.size+1+1+1,1,none⟩) (i0) iE u)
  have si2:=(fun u=>Ar (b:=⟨w.heap.size+1+1+1,1,none⟩) (i2) iE u)
  have si3:=(fun u=>Ar (b:=⟨w.heap.size+1+1+1,1,none⟩) (i3) iE u)
  have si4:=(fun u=>Ar (b:=⟨w.heap.size+1+1+1,1,none⟩) (i4) iE u)
  have sx5:=(fun u=>Ar (b:=⟨w.heap.size+1+1+1,1,none⟩) (x5) iE u)
  have sy1:=(fun u=>Ar (b:=⟨w.heap.size+1+1+1,1,none⟩) (y1) iE u)
  have sy2:=(fun u=>Ar (b:=⟨w.heap.size+1+1+1,1,none⟩) (y2) iE u)
  go_upto_region 21 with fail;refine rG (fun v=>v.cell? ⟨w.heap.size,4,none⟩=some (.slice (some ⟨rb,ro,none⟩) N qr)/\v.cell? ⟨w.heap.size+1,0,none⟩=some (.int .i64 op)/\v.cell? ⟨w.heap.size+1,2,none⟩=some (.int .i64 (ka:Int))/\v.cell? ⟨w.heap.size+1,3,none⟩=some (.int .i64 (kb:Int))/\v.cell? ⟨w.heap.size+1,4,none⟩=some (.int .i64 (kk:Int))/\v.cell? ⟨rb,ro+ka*2+1,none⟩=some (.int .i64 xa.h.whole)/\v.cell? ⟨rb,ro+kb*2+1,none⟩=some (.int .i64 xb.h.whole)/\v.cell? ⟨rb,ro+kk*2+1,none⟩=some (.int .i64 xc.h.whole)) fun hHeld=>?_;refine Tf 0 1 2 3 4 5 ?_;refine Tf 6 7 8 9 10 11 ?_;refine Tf 12 13 14 15 16 17 ?_;refine Tc 18 19 20 ?_;refine Tb 21 22 ?_;clear hHeld;refine Ap 23 fun K hK=>?_;go_simp;(go_at_call 84;(with_reducible refine(HKF.out _).mono ?_);rintro e w3 ⟨rfl,rfl⟩);try(go_wp2_with fail)
  refine Ao hK fun hHeld=>?_;clear hK K;refine AN 24 ?_;clear hHeld;refine Ap 25 fun K hK=>?_;go_simp;refine Ao hK fun hHeld=>?_;clear hK K;refine wpAnyH_done kR ?_ _;go_wp2;go_meet;exact⟨⟨none,0,⟨[],_⟩⟩,rfl,((HD0.out.next (A5 _)).put 1 _).congr (fun j hj=>by obtain rfl|rfl:j=0\/j=1:=oM;all_goals rfl),.inl rfl⟩
 case rest=>
  exact Zz
theorem NV{T:Nat->Prop}(p0 p1 p2 p3 p5 p6 p7 p8:Option Addr)(n0 q0 n1 q1 n2 q2 n3 q3 n5 q5 n6 q6 n7 q7 n8 q8:Nat)(ct:Int)(pr:Option Addr)(qr:Nat)(X:List Cl)(N:Nat)(hN:X.length=N)(hX:N<=16384)(nn bt:Int)(kd ka kb kk:Nat)(hd:kd<N)(w:World)(hT:∀b,T b->b<w.heap.size)(hcs:AO T w (.slice pr N qr) X)(par sb so:Nat)(nm:ByteArray)(K:Int)(len lb lo:Nat)(tk:Int)(vb vo:Nat)(px:Option Addr)(M qx:Nat)(L:List Int)(h0:p0=some ⟨sb,so,none⟩)(h1:p1=some ⟨lb,lo,none⟩)(hpar:par<n0)(hkd:kd<n1)(hgu:p8=some ⟨vb,vo,none⟩)(hpv:par<n8)(s0:w.cell? ⟨sb,so+par*3,none⟩=some (.string nm))(s1:w.cell? ⟨sb,so+par*3+1,none⟩=some (.int .i64 K))(s2:w.cell? ⟨sb,so+par*3+2,none⟩=some (.int .i64 (len:Int)))(t0:w.cell? ⟨lb,lo+kd*2,none⟩=some (.int .i64 tk))(t1:w.cell? ⟨lb,lo+kd*2+1,none⟩=some (.int .i64 (par:Int)))(u0:w.cell? ⟨vb,vo+par,none⟩=some (.slice px M qx))(hll:n1<=16384)(hsl:n0<=64)(hvl:n8<=64)
 (hkp:∀v,Below w.heap.size w v->Calls prog 85 #[.agg #[.string nm,.int .i64 K,.int .i64 (len:Int)],.slice px M qx,.int .i64 nn] v fun e w'=>∃p' q',e=.returned (.slice p' L.length q')/\BO w' p' L/\Below v.heap.size v w'/\∀b o s,p'=some ⟨b,o,s⟩->v.heap.size<=b):
 Calls prog 48 #[.agg #[(.slice p0 n0 q0),(.slice p1 n1 q1),(.slice p2 n2 q2),(.slice p3 n3 q3),.slice pr N qr,(.slice p5 n5 q5),(.slice p6 n6 q6),(.slice p7 n7 q7),(.slice p8 n8 q8),(.int .i64 ct)],.agg #[.int .i64 30,.int .i64 (kd:Int),.int .i64 (ka:Int),.int .i64 (kb:Int),.int .i64 (kk:Int),.int .i64 nn,.int .u32 bt]] w fun e w'=>∃p9 q9 x,e=.returned (.agg #[(.slice p0 n0 q0),(.slice p1 n1 q1),(.slice p2 n2 q2),(.slice p3 n3 q3),.slice p9 N q9,(.slice p5 n5 q5),(.slice p6 n6 q6),(.slice p7 n7 q7),(.slice p8 n8 q8),(.int .i64 ct)])/\x.h=⟨L,0⟩/\AO T w' (.slice p9 N q9) (X.set kd x)/\Below w.heap.size w w':=by
 have HPUT:Hid (∀v F I D (x:Cl),DW w F I D v->AT (T2 w T) v x.p x.h.pats->Calls prog 86 #[.slice pr N qr,.int .i64 (kd:Int),.agg #[.slice x.p x.h.pats.length x.q,.int .i64 x.h.whole]] v fun e w'=>∃p q,e=.returned (.slice p N q)/\AO (T2 w T) w' (.slice p N q) (X.set kd x)/\Below v.heap.size v w'):=BE (.slice pr N qr) X hN hX kd hd w hT hcs;have HT2:Hid (∀v:World,w.heap.size+1+1+1<v.heap.size->∀b,T2 w T b->b<v.heap.size):=fun v hv b hb=>CR hT hb hv;subst h0 h1 hgu;have HKP:Hid _:=hkp;have e1:(0:Int)<=(kd:Int):=oM;have e2:(kd:Int)<(n1:Int):=oM;have e3:(0:Int)<=(par:Int):=oM;have e4:(par:Int)<(n0:Int):=oM;have e5:(par:Int)<(n8:Int):=oM;have e6:¬sb=w.heap.size+1+1+1:=by have:=A3 s0;intro e;simp only at this;omega
 have e7:¬vb=w.heap.size+1+1+1:=by have:=A3 u0;intro e;simp only at this;omega
 have HD0:Hid (DW w (Ck (.slice (some ⟨sb,so,none⟩) n0 q0) (.slice (some ⟨lb,lo,none⟩) n1 q1) (.slice p2 n2 q2) (.slice p3 n3 q3) (.slice pr N qr) (.slice p5 n5 q5) (.slice p6 n6 q6) (.slice p7 n7 q7) (.slice (some ⟨vb,vo,none⟩) n8 q8) (.int .i64 ct)) (f7 (.int .i64 30) (.int .i64 (kd:Int)) (.int .i64 (ka:Int)) (.int .i64 (kb:Int)) (.int .i64 (kk:Int)) (.int .i64 nn) (.int .u32 bt)) (f2 (.slice none 0 0) (.int .i64 0)) _):=DW.start w (.slice (some ⟨sb,so,none⟩) n0 q0) (.slice (some ⟨lb,lo,none⟩) n1 q1) (.slice p2 n2 q2) (.slice p3 n3 q3) (.slice pr N qr) (.slice p5 n5 q5) (.slice p6 n6 q6) (.slice p7 n7 q7) (.slice (some ⟨vb,vo,none⟩) n8 q8) (.int .i64 ct) (.int .i64 30) (.int .i64 (kd:Int)) (.int .i64 (ka:Int)) (.int .i64 (kb:Int)) (.int .i64 (kk:Int)) (.int .i64 nn) (.int .u32 bt);clear hT hcs hN;go_enter func48,ntmps48;go_upto_block 0 with fail;go_cut [] (fun wx=>∃x:Cl,Hid (x.h=⟨L,0⟩)/\Hid (DW w (Ck (.slice (some ⟨sb,so,none⟩) n0 q0) (.slice (some ⟨lb,lo,none⟩) n1 q1) (.slice p2 n2 q2) (.slice p3 n3 q3) (.slice pr N qr) (.slice p5 n5 q5) (.slice p6 n6 q6) (.slice p7 n7 q7) (.slice (some ⟨vb,vo,none⟩) n8 q8) (.int .i64 ct)) (f7 (.int .i64 30) (.int .i64 (kd:Int)) (.int .i64 (ka:Int)) (.int .i64 (kb:Int)) (.int .i64 (kk:Int)) (.int .i64 nn) (.int .u32 bt)) (f2 (.slice x.p x.h.pats.length x.q) (.int .i64 x.h.whole)) wx)/\Hid (AT (T2 w T) wx x.p x.h.pats))
 case first=>
  obtain⟨W,hW⟩:∃W,((((w.alloc (.cells #[(.slice (some ⟨sb,so,none⟩) n0 q0),(.slice (some ⟨lb,lo,none⟩) n1 q1),(.slice p2 n2 q2),(.slice p3 n3 q3),.slice pr N qr,(.slice p5 n5 q5),(.slice p6 n6 q6),(.slice p7 n7 q7),(.slice (some ⟨vb,vo,none⟩) n8 q8),(.int .i64 ct)] 125)).alloc (.cells #[.int .i64 30,.int .i64 (kd:Int),.int .i64 (ka:Int),.int .i64 (kb:Int),.int .i64 (kk:Int),.int .i64 nn,.int .u32 bt] 45)).alloc (.cells #[.slice none 0 0,.slice none 0 0,.slice none 0 0,.slice none 0 0,.slice none 0 0,.slice none 0 0,.slice none 0 0,.slice none 0 0,.slice none 0 0,.int .i64 0] 125)).alloc (.cells #[.slice none 0 0,.int .i64 0] 84))=W:=⟨_,rfl⟩
  rw[hW]at HD0;rw[hW];clear hW;have hsz:=HD0.out.size;have f0:W.cell? ⟨w.heap.size,4,none⟩=some (.slice pr N qr):=HD0.out.f.cell (i:=4) dE;have i0:W.cell? ⟨w.heap.size+1,0,none⟩=some (.int .i64 30):=HD0.out.i.cell (i:=0) dE;have i1:W.cell? ⟨w.heap.size+1,1,none⟩=some (.int .i64 (kd:Int)):=HD0.out.i.cell (i:=1) dE;have i2:W.cell? ⟨w.heap.size+1,2,none⟩=some (.int .i64 (ka:Int)):=HD0.out.i.cell (i:=2) dE;have i3:W.cell? ⟨w.heap.size+1,3,none⟩=some (.int .i64 (kb:Int)):=HD0.out.i.cell (i:=3) dE;have i4:W.cell? ⟨w.heap.size+1,4,none⟩=some (.int .i64 (kk:Int)):=HD0.out.i.cell (i:=4) dE;have i5:W.cell? ⟨w.heap.size+1,5,none⟩=some (.int .i64 nn):=HD0.out.i.cell (i:=5) dE;have i6:W.cell? ⟨w.heap.size+1,6,none⟩=some (.int .u32 bt):=HD0.out.i.cell (i:=6) dE;have d0:W.cell? ⟨w.heap.size+1+1+1,0,none⟩=some (.slice none 0 0):=HD0.out.d.cell (i:=0) dE;have d1:W.cell? ⟨w.heap.size+1+1+1,1,none⟩=some (.int .i64 0):=HD0.out.d.cell (i:=1) dE;have z0:=HD0.out.d.frozen 0;have z1:=HD0.out.d.frozen 1;have m0:=kc HD0.out.bel s0;have m1:=kc HD0.out.bel s1;have m2:=kc HD0.out.bel s2;have m3:=kc HD0.out.bel t0;have m4:=kc HD0.out.bel t1;have m5:=kc HD0.out.bel u0;have f1:W.cell? ⟨w.heap.size,0,none⟩=some (.slice (some ⟨sb,so,none⟩) n0 q0):=HD0.out.f.cell (i:=0) dE;have f2:W.cell? ⟨w.heap.size,1,none⟩=some (.slice (some ⟨lb,lo,none⟩) n1 q1):=HD0.out.f.cell (i:=1) dE;have f3:W.cell? ⟨w.heap.size,8,none⟩=some (.slice (some ⟨vb,vo,none⟩) n8 q8):=HD0.out.f.cell (i:=8) dE;clear s0 s1 s2 t0 t1 u0 i2 i3 i4 i6 f0;go_upto_region 27 with fail;refine rG (fun v=>v.cell? ⟨w.heap.size,0,none⟩=some (.slice (some ⟨sb,so,none⟩) n0 q0)/\v.cell? ⟨w.heap.size,8,none⟩=some (.slice (some ⟨vb,vo,none⟩) n8 q8)/\v.cell? ⟨w.heap.size+1,5,none⟩=some (.int .i64 nn)/\v.cell? ⟨sb,so+par*3,none⟩=some (.string nm)/\v.cell? ⟨sb,so+par*3+1,none⟩=some (.int .i64 K)/\v.cell? ⟨sb,so+par*3+2,none⟩=some (.int .i64 (len:Int))/\v.cell? ⟨vb,vo+par,none⟩=some (.slice px M qx)) fun hHeld=>?_;exact Zax
 case rest=>
  obtain⟨x,HX,HD,HNM⟩:=hcut;have g0:wc.cell? ⟨w.heap.size,4,none⟩=some (.slice pr N qr):=HD.out.f.cell (i:=4) dE;have g1:wc.cell? ⟨w.heap.size+1,1,none⟩=some (.int .i64 (kd:Int)):=HD.out.i.cell (i:=1) dE;have g2:wc.cell? ⟨w.heap.size+1+1+1,0,none⟩=some (.slice x.p x.h.pats.length x.q):=HD.out.d.cell (i:=0) dE;have g3:wc.cell? ⟨w.heap.size+1+1+1,1,none⟩=some (.int .i64 x.h.whole):=HD.out.d.cell (i:=1) dE;go_upto_region 40 with(go_at_call 86;(with_reducible refine(HPUT.out _ _ _ _ _ HD.out HNM.out).mono ?_);rintro e w5 ⟨pu5,qu5,rfl,hcu,hb5⟩;have HC5:Hid (DW w (Ck (.slice (some ⟨sb,so,none⟩) n0 q0) (.slice (some ⟨lb,lo,none⟩) n1 q1) (.slice p2 n2 q2) (.slice p3 n3 q3) (.slice pr N qr) (.slice p5 n5 q5) (.slice p6 n6 q6) (.slice p7 n7 q7) (.slice (some ⟨vb,vo,none⟩) n8 q8) (.int .i64 ct)) _ _ w5/\AO (T2 w T) w5 (.slice pu5 N qu5) (X.set kd x)):=⟨HD.out.next hb5,hcu⟩;clear hb5 hcu g0 g1 g2 g3;have g4:w5.cell? ⟨w.heap.size,4,none⟩=some (.slice pr N qr):=HC5.out.1.f.cell (i:=4) dE;have z4:=HC5.out.1.f.frozen 4)
  have HE:Hid (DE w (.slice (some ⟨sb,so,none⟩) n0 q0) (.slice (some ⟨lb,lo,none⟩) n1 q1) (.slice p2 n2 q2) (.slice p3 n3 q3) (.slice pu5 N qu5) (.slice p5 n5 q5) (.slice p6 n6 q6) (.slice p7 n7 q7) (.slice (some ⟨vb,vo,none⟩) n8 q8) (.int .i64 ct) (w5.setCell ⟨w.heap.size,4,none⟩ (.slice pu5 N qu5))/\AO (T2 w T) (w5.setCell ⟨w.heap.size,4,none⟩ (.slice pu5 N qu5)) (.slice pu5 N qu5) (X.set kd x)):=Fq HC5.out.1 HC5.out.2;exact Zai
theorem kn_a{c:Cd}{f:Fr}{X:List Cl}{i:At}(kn:∀r∈Ak i (A6 i.op),Pk c f X r.toNat)(h:(A6 i.op).a≠0){x:Cl}(hx:X[i.a.toNat]? =some x)(h0:0<=i.a):x.h=BG c f i.a:=by
 obtain⟨y,hy,e⟩:=kn i.a (Kb h);rw[hx]at hy;cases hy
 rw[e,show((i.a.toNat:Nat):Int)=i.a by omega]
theorem RH{c:Cd}{f:Fr}{r:Int}(h:(A8 c.regs r).kind≠2):(BG c f r).whole=0:=by
 unfold BG;split
 ·rfl
 ·rfl
theorem LL{c:Cd}(hg:Good c){r:Int}(h0:0<=r)(h1:r<(c.regs.length:Int))(h3:(A8 c.regs r).kind=3):∃p:Nat,(A8 c.regs r).par=(p:Int)/\p<c.sign.length:=by
 obtain⟨j,rfl⟩:∃j:Nat,r=(j:Int):=⟨r.toNat,oM⟩
 have hr:j<c.regs.length:=oM;rw[Bj hr]at h3 ⊢;exact D6 (hg.type (List.getElem_mem hr) h3)
theorem Wu{c:Cd}{G P:List (List Int)}{f:Fr}{i:At}{s:Wk}{X S O X' S' O':List Cl}(hg:Good c)(ok:EN c f)(t:AR c s i=true)(hb:Af i.bits)(fg:Cm c G)(fp:Cm c P)(nd:CP c f i)(rel:NC c f X S O)(kn:∀r∈Ak i (A6 i.op),Pk c f X r.toNat)(did:Zw c G P f i X S O X' S' O'):
 NC c (DZ c G P f i) X' S' O'/\∀r,(((A6 i.op).d≠0->r≠i.d.toNat)->Pk c f X r)->r<c.regs.length->Pk c (DZ c G P f i) X' r:=by
 obtain⟨hk,h2,_,_⟩:=AZ t;have hok:EN c (DZ c G P f i):=Ym hg ok hk hb nd fg fp;rcases did with⟨hd,⟨x,rfl,hx⟩,rfl,rfl⟩|⟨h33,rfl,⟨x,hxa,rfl⟩,rfl⟩|⟨h31,rfl,rfl,x,hxa,rfl⟩|⟨hm,rfl,rfl,rfl⟩
 ·have hop:=(OV hk).1 hd;obtain⟨d0,d1⟩:=Ae (E6 h2) hd;have hso:Dg c (DZ c G P f i) i.d.toNat:=SW hg ok hk nd fun h=>by
   rcases h with h|h
   ·exact absurd h hd
   ·exact absurd rfl h
  have hh:=Ue hg hok d0 d1 hso;have hsl:(DZ c G P f i).slots=f.slots:=(F6 hk).1 hop.2.1;have hou:(DZ c G P f i).outs=f.outs:=(F6 hk).2 hop.1;refine⟨⟨by rw[List.length_set];exact rel.xl,fun y hy=>?_,by rw[hsl];exact rel.sl,by rw[hsl];exact rel.sz,rel.ol,by rw[hou];exact rel.oo⟩,fun r hr hrl=>?_⟩
  ·rcases List.mem_or_eq_of_mem_set hy with e|rfl
   ·exact rel.xok y e
   ·rw[hx];refine⟨hh.2.1,?_,hh.2.2⟩;show(BG c (DZ c G P f i) i.d).pats.length<=4096;rw[hh.1];exact hg.width _
  ·by_cases e:r=i.d.toNat
   ·subst e;have hl:i.d.toNat<X.length:=by rw[rel.xl];omega
    refine⟨x,by rw[List.getElem?_set_self hl],?_⟩;rw[hx,show((i.d.toNat:Nat):Int)=i.d by omega];rfl
   ·obtain⟨y,hy,hye⟩:=hr fun _=>e;exact⟨y,by rw[List.getElem?_set_ne (fun q=>e q.symm)];exact hy,by rw[hye,LM hk r fun _=>e]⟩
 ·have hd:¬ (A6 i.op).d≠0:=by rw[h33];decide
  obtain⟨a0,a1,n0,n1,ht,hs⟩:=nd.store h33;have hxh:x.h=BG c f i.a:=kn_a kn (by rw[h33];decide) hxa a0;have hou:(DZ c G P f i).outs=f.outs:=(F6 hk).2 oM;have hsl:(DZ c G P f i).slots=f.slots.set i.n.toNat (BG c f i.a):=by rw[Ex h33]
  refine⟨⟨rel.xl,rel.xok,by rw[hsl,List.map_set,rel.sl,hxh],fun j hj hkd=>?_,rel.ol,by rw[hou];exact rel.oo⟩,fun r hr _=>?_⟩
  ·rw[hsl];by_cases e:j=i.n.toNat
   ·subst e;have hl:i.n.toNat<f.slots.length:=by rw[ok.slotsL];exact hj
    rw[List.getElem?_set_self hl,Option.getD_some];refine RH ?_;rw[←ht];unfold slotT;rw[List.getElem?_eq_getElem hj];exact hkd
   ·rw[List.getElem?_set_ne (fun q=>e q.symm)];exact rel.sz j hj hkd
  ·obtain⟨y,hy,hye⟩:=hr fun q=>absurd q hd;exact⟨y,hy,by rw[hye,LM hk r fun q=>absurd q hd]⟩
 ·have hd:¬ (A6 i.op).d≠0:=by rw[h31];decide
  obtain⟨hp,hlen⟩:=nd.out h31;have hxh:x.h=BG c f i.a:=kn_a kn (by rw[h31];decide) hxa hp.r0;have hxv:x.h=⟨f.vecs i.a.toNat,0⟩:=by
   rw[hxh];unfold BG;rw[if_neg (by rw[hp.kind];decide),if_neg (by rw[hp.kind];decide)]
  have hsl:(DZ c G P f i).slots=f.slots:=(F6 hk).1 oM;obtain⟨p,hpp,hpl⟩:=LL hg hp.r0 hp.r1 hp.kind;have hn0:=hp.n0;have hou:(DZ c G P f i).outs=LI f.outs p (Ag c (p:Int)) i.n.toNat (f.vecs i.a.toNat):=by rw[Ev h31,hpp,Int.toNat_natCast]
  rw[hpp]at hlen hn0;rw[hpp,Int.toNat_natCast];have hnk:i.n.toNat<Ag c (p:Int):=by
   unfold Ag;rcases hn0 with e|⟨e,e2⟩
   ·rw[e];split<;>decide
   ·rw[e,if_pos e2];decide
  have hap:Ag c (p:Int)<=2:=by unfold Ag;split<;>decide
  refine⟨⟨rel.xl,rel.xok,by rw[hsl];exact rel.sl,by rw[hsl];exact rel.sz,by rw[List.length_set];exact rel.ol,fun q n hq hn=>?_⟩,fun r hr _=>?_⟩
  ·obtain⟨o,h1,h3,h4,h5⟩:=rel.oo q n hq hn;have hq2:Ag c (q:Int)<=2:=by unfold Ag;split<;>decide
   rw[hou];by_cases e:2*q+n=2*p+i.n.toNat
   ·have eq:q=p:=oM;have en:n=i.n.toNat:=oM;subst eq;have hol:2*q+i.n.toNat<O.length:=by rw[rel.ol];omega
    refine⟨x,by rw[e,List.getElem?_set_self hol],by rw[hxv];exact hlen,by rw[hxv];exact ok.vecs _,fun j hj=>?_⟩;rw[hxv];unfold LI;have hK:0<Ag c (q:Int):=oM;have e1:(Ag c (q:Int)*j+n)%Ag c (q:Int)=n:=by rw[Nat.mul_add_mod,Nat.mod_eq_of_lt hn]
    have e2:(Ag c (q:Int)*j+n)/Ag c (q:Int)=j:=by rw[Nat.mul_add_div hK,Nat.div_eq_of_lt hn,Nat.add_zero]
    rw[if_pos ⟨rfl,by rw[e1,en],by rw[e2,hlen];exact hj⟩,e2]
   ·refine⟨o,by rw[List.getElem?_set_ne (fun q=>e q.symm)];exact h1,h3,h4,fun j hj=>?_⟩;rw[h5 j hj];unfold LI;rw[if_neg];rintro⟨e1,e2,-⟩;subst e1;have e3:(Ag c (q:Int)*j+n)%Ag c (q:Int)=n:=by rw[Nat.mul_add_mod,Nat.mod_eq_of_lt hn]
    rw[e3]at e2;exact e (by rw[e2])
  ·obtain⟨y,hy,hye⟩:=hr fun q=>absurd q hd;exact⟨y,hy,by rw[hye,LM hk r fun q=>absurd q hd]⟩
 ·rw[BP hm];exact⟨rel,fun r hr _=>hr fun q=>absurd hm ((OV hk).1 q).2.2⟩
def Sz(Q:Nat->Prop)(s:Wk)(k:Nat):Prop:=
 (k=0/\∀r∈s.set,Q r)\/(∃pre b rest,s.opens=pre++b::rest/\b.loop=false/\k=(pre.filter fun x=> !x.loop).length+1/\∀r∈s.set.take b.ahead,Q r)
theorem Kt{c:Cd}{G P:List (List Int)}{s:Wk}{f:Fr}{k:Nat}{i:At}{Q Q':Nat->Prop}(oks:Dv c.regs.length s)(t:AR c s i=true)(sk:Sz Q s k)(hdo:k=0->i.op≠34->∀r∈(An s i).set,Q' r)(hno:k≠0\/i.op=34->∀r,Q r->Q' r):Sz Q' (An s i) (Bn c G P (f,k) i).2:=by
 obtain⟨hkn,_,hst,_⟩:=AZ t;rcases sk with⟨rfl,hs⟩|⟨pre,b,rest,ho,hbl,rfl,hs⟩
 ·by_cases h34:i.op=34
  ·rw[LV h34];by_cases hz:f.whs i.a.toNat=0
   ·rw[H8 c G P f 0 h34 (.inr hz)];exact .inr ⟨[],⟨false,i.n,s.set.length⟩,s.opens,rfl,rfl,rfl,fun r hr=>hno (.inr h34) r (hs r (List.mem_of_mem_take hr))⟩
   ·rw[Ha c G P f (fun e=>hz e.2)];exact .inl ⟨rfl,fun r hr=>hno (.inr h34) r (hs r hr)⟩
  ·rw[Ha c G P f (fun e=>h34 e.1)];exact .inl ⟨rfl,hdo rfl h34⟩
 ·obtain⟨hah,hpre⟩:=OD (by have:=oks.opens;rw[ho]at this;exact this);have hs':∀r∈s.set.take b.ahead,Q' r:=fun r hr=>hno (.inl oM) r (hs r hr);obtain⟨K,hK⟩:∃K,(pre.filter fun x=> !x.loop).length=K:=⟨_,rfl⟩
  rw[hK];by_cases h34:i.op=34
  ·rw[H8 c G P f (K+1) h34 (.inl oM),LV h34];refine .inr ⟨⟨false,i.n,s.set.length⟩::pre,b,rest,by rw[ho];rfl,hbl,?_,hs'⟩;rw[List.filter_cons_of_pos rfl,List.length_cons,hK]
  ·by_cases h35:i.op=35
   ·rw[Oz c G P f K h35,Hj (.inl h35)];have hnl:Aw s=false:=by
     exact Zfg
    unfold Aw at hnl;unfold AM;rw[ho]at hnl ⊢;cases pre with
    |nil=>
     simp only[List.nil_append]at hnl ⊢;simp at hK;refine .inl ⟨hK.symm,fun r hr=>hs' r ?_⟩;rw[hbl]at hr;simpa using hr
    |cons p pre=>
     simp only[List.cons_append]at hnl ⊢;have hp:=hpre p sM;refine .inr ⟨pre,b,rest,rfl,hbl,?_,fun r hr=>hs' r ?_⟩
     ·rw[List.filter_cons_of_pos (by rw[hnl];rfl),List.length_cons]at hK;omega
     ·rw[hnl]at hr;simp only[Bool.false_eq_true,if_false,List.take_take]at hr;rw[Nat.min_eq_left hp]at hr;exact hr
   ·rw[OA c G P f K h34 h35];by_cases h36:i.op=36
    ·rw[LZ h36];refine .inr ⟨⟨true,i.n,s.set.length⟩::pre,b,rest,by rw[ho];rfl,hbl,?_,hs'⟩;rw[List.filter_cons_of_neg sM,hK]
    ·by_cases h37:i.op=37
     ·rw[Hj (.inr h37)];have hnl:Aw s=true:=by
       unfold AA at hst;rw[if_neg oM,if_neg oM,if_pos h37]at hst;exact hst
      unfold Aw at hnl;unfold AM;rw[ho]at hnl ⊢;cases pre with
      |nil=>
       simp only[List.nil_append]at hnl;rw[hbl]at hnl;cases hnl
      |cons p pre=>
       simp only[List.cons_append]at hnl ⊢;refine .inr ⟨pre,b,rest,rfl,hbl,?_,fun r hr=>hs' r ?_⟩
       ·rw[List.filter_cons_of_neg (by rw[hnl];decide)]at hK;omega
       ·rw[hnl]at hr;simpa using hr
     ·rw[F7 h34 h35 h36 h37];obtain⟨h1,h2⟩:=M8 (i:=i) (r:=A6 i.op) hah;exact .inr ⟨pre,b,rest,by rw[h2];exact ho,hbl,by rw[hK],fun r hr=>hs' r (by rw[h1]at hr;exact hr)⟩
structure Jm(c:Cd)(G P:List (List Int))(f0:Fr)(j k:Nat)(f:Fr)(s:Wk)(X S O:List Cl):Prop where
 go:VZ c G P (f0,0) (c.list.take j)=(f,k)
 ok:EN c f
 oks:Dv c.regs.length s
 sk:KV c s f k
 tk:Cy c s (c.list.drop j)=true
 rel:NC c f X S O
 kn:Sz (Pk c f X) s k
theorem Jm.taken{c:Cd}{G P:List (List Int)}{f0:Fr}{j k:Nat}{f:Fr}{s:Wk}{X S O:List Cl}(g:Jm c G P f0 j k f s X S O)(hj:j<c.list.length):AR c s c.list[j]=true/\Cy c (An s c.list[j]) (c.list.drop (j+1))=true:=by
 have:=g.tk;rw[List.drop_eq_getElem_cons hj]at this;unfold Cy at this;simpa using this
theorem Jm.pass{c:Cd}{G P:List (List Int)}{f0:Fr}{j k:Nat}{f:Fr}{s:Wk}{X S O:List Cl}(g:Jm c G P f0 j k f s X S O)(hg:Good c)(hbits:∀i∈c.list,Af i.bits)(fg:Cm c G)(fp:Cm c P)(hj:j<c.list.length){k':Nat}(hn:Bn c G P (f,k) c.list[j]=(f,k'))(hno:k≠0\/c.list[j].op=34):∃s',Jm c G P f0 (j+1) k' f s' X S O:=by
 obtain⟨t1,t2⟩:=g.taken hj;obtain⟨o1,o2⟩:=LG hg g.oks t1 g.ok (hbits _ (List.getElem_mem hj)) fg fp g.sk;have o3:=Kt (G:=G) (P:=P) (f:=f) (Q':=Pk c f X) g.oks t1 g.kn (fun e1 e2=>by rcases hno with h|h;exact absurd e1 h;exact absurd h e2) (fun _ _ h=>h);rw[hn]at o1 o2 o3;exact⟨An s c.list[j],by rw[IH c G P _ _ hj,g.go];exact hn,o1,g.oks.step t1,o2,t2,g.rel,o3⟩
theorem Jm.need{c:Cd}{G P:List (List Int)}{f0:Fr}{j:Nat}{f:Fr}{s:Wk}{X S O:List Cl}(g:Jm c G P f0 j 0 f s X S O)(hj:j<c.list.length):CP c f c.list[j]/\(∀r∈Ak c.list[j] (A6 c.list[j].op),Pk c f X r.toNat):=by
 obtain⟨t1,t2⟩:=g.taken hj;have h1:∀r∈s.set,Dg c f r:=by
  rcases g.sk with⟨_,h⟩|⟨pre,b,rest,_,_,h,_⟩
  ·exact h
  ·omega
 have h2:∀r∈s.set,Pk c f X r:=by
  rcases g.kn with⟨_,h⟩|⟨pre,b,rest,_,_,h,_⟩
  ·exact h
  ·omega
 exact⟨Lz t1 h1,fun r hr=>h2 _ (MQ (AZ t1).2.2.2 hr)⟩
theorem Jm.did{c:Cd}{G P:List (List Int)}{f0:Fr}{j:Nat}{f:Fr}{s:Wk}{X S O X' S' O':List Cl}(g:Jm c G P f0 j 0 f s X S O)(hg:Good c)(hbits:∀i∈c.list,Af i.bits)(fg:Cm c G)(fp:Cm c P)(hj:j<c.list.length)(hn:¬ (c.list[j].op=34/\f.whs c.list[j].a.toNat=0))(did:Zw c G P f c.list[j] X S O X' S' O'):∃f' s',Jm c G P f0 (j+1) 0 f' s' X' S' O':=by
 obtain⟨t1,t2⟩:=g.taken hj;have hbi:=hbits _ (List.getElem_mem hj);obtain⟨o1,o2⟩:=LG hg g.oks t1 g.ok hbi fg fp g.sk;obtain⟨nd,hr⟩:=g.need hj;obtain⟨r1,r2⟩:=Wu hg g.ok t1 hbi fg fp nd g.rel hr did;have hk:∀r∈s.set,Pk c f X r:=by
  rcases g.kn with⟨_,h⟩|⟨pre,b,rest,_,_,h,_⟩
  ·exact h
  ·omega
 have hoks:=g.oks.step t1;have o3:=Kt (G:=G) (P:=P) (f:=f) (Q':=Pk c (DZ c G P f c.list[j]) X') g.oks t1 g.kn (fun _ h34 r hr=>?_) (fun h r hr=>?_)
 ·rw[Ha c G P f hn]at o1 o2 o3;exact⟨DZ c G P f c.list[j],An s c.list[j],by rw[IH c G P _ _ hj,g.go];exact Ha c G P f hn,o1,hoks,o2,t2,r1,o3⟩
 ·refine r2 r (fun hne=>hk r ?_) (hoks.lt r hr);by_cases h35:c.list[j].op=35\/c.list[j].op=37
  ·rw[Hj h35]at hr;exact K8 hr
  ·by_cases h36:c.list[j].op=36
   ·rw[LZ h36]at hr;exact hr
   ·rw[F7 h34 oM h36 oM]at hr;rcases PH hr with h|⟨h,h'⟩
    ·exact h
    ·exact absurd h' (hne h)
 ·rcases h with h|h
  ·exact absurd rfl h
  ·obtain⟨y,hy,_⟩:=id hr;exact r2 r (fun _=>hr) (by have:=(List.getElem?_eq_some_iff.1 hy).1;rw[g.rel.xl]at this;exact this)
end Go.Proofs.YtbinohkcolcbfaaGreat
