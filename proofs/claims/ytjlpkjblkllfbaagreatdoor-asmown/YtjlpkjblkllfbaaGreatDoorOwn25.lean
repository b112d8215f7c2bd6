import Derived.Test.YtjlpkjblkllfbaaGreatDoorOwn1
import Derived.Test.YtjlpkjblkllfbaaGreatDoorOwn24
import Derived.OrdersHeld
import Derived.Deep.DeepCutAuto
import Derived.Test.YtjlpkjblkllfbaaGreatDoorOwn17
import Derived.Test.YtjlpkjblkllfbaaGreatDoorOwn2
import Derived.Test.YtjlpkjblkllfbaaGreatDoorOwn16
import Derived.Test.YtjlpkjblkllfbaaGreatDoorOwn23
import Derived.Test.YtjlpkjblkllfbaaGreatDoorOwn10
namespace Go.Proofs.YtjlpkjblkllfbaaGreatDoor
open Go.RowKit Go.Proofs.Tryz
set_option linter.all false
set_option maxRecDepth 100000
set_option maxHeartbeats 16000000
def RJ(at_:Int)(ws:List Bs)(w:World)(e:Ending)(w':World):Prop:=∃ (t:Ty) (b:Bool),e=.returned (.tuple #[.agg #[.int .i64 t.kind,.int .i64 t.par],.bool b])/\(b=true->Bi at_ ws=some t)/\(b=false->Bi at_ ws=none)/\Below w.heap.size w w'
theorem K6(p:Option Addr)(cap:Nat)(ws:List Bs)(j:Nat)(hl:ws.length<3)(w:World):Calls prog 15 #[.slice p ws.length cap,.int .i64 (j:Int)] w fun e w'=>RJ (j:Int) ws w e w':=by
 have HT:Hid (Bi (j:Int) ws=none):=by
  show _=_
  match ws,hl with
  |[],_=>rfl
  |[a],_=>rfl
  |[a,m],_=>
   show(if a=BU/\Af m=some (j:Int)then(AY []).bind E6 else none)=none;split<;>rfl
  |a::b::c::t,hl=>exact absurd hl sM
 obtain⟨N,hN⟩:=gA (ws.length)
 rw[hN]at hl |-;have e1:(N:Int)<3:=oM;obtain⟨V,hV⟩:=gA (w.alloc (.cells #[.int .i64 0,.int .i64 0] 43))
 obtain⟨X,hXX⟩:=gA (w.heap.size)
 have hb0:Below w.heap.size w V:=by rw[<-hV];exact A2 _ _
 have hr:V.rowIs X 43 2 (g2 (.int .i64 0) (.int .i64 0)):=by rw[<-hV,<-hXX];exact BJ _ _ _ _
 have HB0:=A3 hb0;have HR:=A3 hr;have HXW:Hid (w.heap.size<=X):=by show _<=_;omega
 have x0:V.cell? ⟨X,0,none⟩=some (.int .i64 0):=hr.cell (i:=0) dE;have x1:V.cell? ⟨X,1,none⟩=some (.int .i64 0):=hr.cell (i:=1) dE;have f0:=hr.frozen 0;have f1:=hr.frozen 1;clear hb0 hr;go_enter func15,ntmps15;go_upto_region 1 with fail;try rw[hV]
 try rw[hXX]
 clear hV hXX;refine rG (fun v=>v.cell? ⟨X,0,none⟩=some (.int .i64 0)) fun yH=>?_;refine Tc 0 1 2 ?_;refine Bn 3 ?_;refine Kd 4 5 6 7 ?_;refine Tb 8 9 ?_;exact XJ
theorem LK(g cap:Nat)(a m c:Bs)(r:List Bs)(j:Nat)(hj:j<=2147483647)(hl:(a::m::c::r).length<=100000000)(hcap:(a::m::c::r).length<=cap)(hs:∀x∈a::m::c::r,x.length<=100000000)(w:World)(h:Dg w g 0 (a::m::c::r)):Calls prog 15 #[.slice (some ⟨g,0,none⟩) (a::m::c::r).length cap,.int .i64 (j:Int)] w fun e w'=>RJ (j:Int) (a::m::c::r) w e w':=by
 have HL:=A3 (show Bi (j:Int) (a::m::c::r)=if a=BU/\Af m=some (j:Int)then(AY (c::r)).bind E6 else none from rfl);obtain⟨N,hN⟩:=gA ((a::m::c::r).length)
 have hN3:3<=N:=by rw[<-hN];simp
 have HNR:Hid (N=r.length+3):=by show _=_;rw[<-hN];simp
 rw[hN]at hl hcap |-;have e1:¬ (N:Int)<3:=oM;have hc2:¬cap=2:=oM;obtain⟨D,hD⟩:=gA (A6 (Ao (j:Int)))
 have HD:Hid (∀v,Calls prog 33 #[.int .i64 (j:Int)] v fun e w'=>e=.returned (.string D)/\Below v.heap.size v w'):=fun v=>by rw[<-hD];exact MQ (j:Int) oM oM v
 by_cases n0:a=BU
 .have e2:((A6 a).toList==[114,101,103])=true:=by rw[ByteArray.toList_eq,n0];rfl
  have e3:((A6 a).toList != [114,101,103])=false:=by rw[bne,e2];rfl
  by_cases n1:Af m=some (j:Int)
  .have HT:Hid (Bi (j:Int) (a::m::c::r)=(AY (c::r)).bind E6):=by show _=_;rw[HL.out,if_pos ⟨n0,n1⟩]
   have hm:m=Ao (j:Int):=(Cv.1 n1).2;have e4:((A6 m).toList==D.toList)=true:=by rw[<-hD,hm];simp
   have e5:((A6 m).toList != D.toList)=false:=by rw[bne,e4];rfl
   have HTY:Hid (∀v cp,Dg v g 2 (c::r)->Calls prog 34 #[.slice (some ⟨g,2,none⟩) (N-2) cp] v fun e w'=>RP (c::r) v e w'):=fun v cp h9=>by
    have h8:=EK g 2 cp c r (by have:=HNR.out;simp only[List.length_cons];omega) (fun x hx=>hs x (List.mem_cons_of_mem _ (List.mem_cons_of_mem _ hx))) v h9;rw[show(c::r).length=N-2 by have:=HNR.out;simp only[List.length_cons];omega]at h8;exact h8
   obtain⟨V,hV⟩:=gA (w.alloc (.cells #[.int .i64 0,.int .i64 0] 43))
   obtain⟨X,hXX⟩:=gA (w.heap.size)
   have hb0:Below w.heap.size w V:=by rw[<-hV];exact A2 _ _
   have hr:V.rowIs X 43 2 (g2 (.int .i64 0) (.int .i64 0)):=by rw[<-hV,<-hXX];exact BJ _ _ _ _
   have HB0:=A3 hb0;have HR:=A3 hr;have HXW:Hid (w.heap.size<=X):=by show _<=_;omega
   have x0:V.cell? ⟨X,0,none⟩=some (.int .i64 0):=hr.cell (i:=0) dE;have x1:V.cell? ⟨X,1,none⟩=some (.int .i64 0):=hr.cell (i:=1) dE;have f0:=hr.frozen 0;have f1:=hr.frozen 1;have y0:V.cell? ⟨g,0,none⟩=some (.string (A6 a)):=by have h9:=kc hb0 (h 0 sM);exact h9
   have y1:V.cell? ⟨g,1,none⟩=some (.string (A6 m)):=by have h9:=kc hb0 (h 1 sM);exact h9
   have q0:V.drew.cell? ⟨g,0,none⟩=some (.string (A6 a)):=y0;have q1:V.drew.cell? ⟨g,1,none⟩=some (.string (A6 m)):=y1;have i0:(0:Int)<(N:Int):=oM;have i1:(1:Int)<(N:Int):=oM;have i2:0<N:=oM;have i3:1<N:=oM;have HWS:Hid (∀x,Below V.heap.size V x->Dg x g 2 (c::r)):=fun x k i hi=>by
    have h9:=kc k (kc hb0 (h (i+2) (by simp at hi |-;omega)));rw[show 0+(i+2)=2+i by omega]at h9;exact h9
   clear hb0 hr n0 n1 hm hD h hs HL;go_enter func15,ntmps15;go_upto_region 1 with fail;try rw[hV]
   try rw[hXX]
   clear hV hXX;refine rG (fun v=>v.cell? ⟨g,0,none⟩=some (.string (A6 a))/\v.cell? ⟨g,1,none⟩=some (.string (A6 m))) fun yH=>?_;refine Tf 0 1 2 3 4 5 ?_;refine Tf 6 7 8 9 10 11 ?_;refine Tb 12 13 ?_;clear yH;refine Aw 14 fun K hK=>?_;go_simp;(go_at_call 33;(with_reducible refine(HD.out _).mono ?_);rintro e w1 ⟨rfl,b1⟩;have b2:=bel (A4 V) b1;have HCUR:=A3 b2;have o0:=kc b2 y0;have o1:=kc b2 y1;clear b1 b2);try(go_wp2_with fail)
   refine AU hK fun yH=>?_;clear hK K;refine Tb 15 16 ?_;refine wpAnyH_done kR ?_ _;have hr1:=HR.out.of_block (HCUR.out.block _ HR.out.lt);clear x0 x1 f0 f1;have x0:w1.cell? ⟨X,0,none⟩=some (.int .i64 0):=hr1.cell (i:=0) dE;have x1:w1.cell? ⟨X,1,none⟩=some (.int .i64 0):=hr1.cell (i:=1) dE;have f0:=hr1.frozen 0;have f1:=hr1.frozen 1;clear hr1 yH;clear y0 y1 q0 q1 o0 o1 i0 i1 i2 i3 e1 e2 e3 e4 e5;have j2:(2:Int)<=(N:Int):=oM;have HW1:=HWS.out w1 HCUR.out;clear x0 x1 f0 f1 j2;have j2:(2:Int)<=(N:Int):=oM;go_upto_region 4 with(go_at_call 34;(with_reducible refine(HTY.out _ _ HW1).mono ?_);rintro e w2 ⟨t,k,rfl,hk,b2⟩;have HB2:=A3 (bel HCUR.out b2);have HK:=A3 hk;clear b2 hk HW1)
   have hr2:=HR.of_block (HB2.block _ HR.lt);have x0:w2.cell? ⟨X,0,none⟩=some (.int .i64 0):=hr2.cell (i:=0) dE;have x1:w2.cell? ⟨X,1,none⟩=some (.int .i64 0):=hr2.cell (i:=1) dE;have f0:=hr2.frozen 0;have f1:=hr2.frozen 1;have xl:X<w2.heap.size:=hr2.lt;clear hr2;have BW:=bel HB0.out HB2.out;have hs2:w.heap.size<=w2.heap.size:=BW.size;have hlen:(c::r).length=N-2:=by have:=HNR.out;simp only[List.length_cons];omega
   rcases HK.out with⟨rfl,hT⟩|⟨hk0,hkl,hT⟩
   .have HF:Hid (Bi (j:Int) (a::m::c::r)=none):=by show _=_;rw[HT.out,hT];rfl
    have c1:¬ (0:Int)<((0:Nat):Int):=dE;clear hT;exact XY
   .have c1:(0:Int)<(k:Int):=oM;have w9:IntKind.i64.wrap (2+(k:Int))=2+(k:Int):=by rw[IntKind.wrap_i64];omega
    by_cases hq:N=2+k
    .have c3:((N:Int)==2+(k:Int))=true:=by rw[beq_iff_eq];omega
     have HF:Hid (Bi (j:Int) (a::m::c::r)=some t):=by
      show _=_;rw[HT.out,hT,List.drop_eq_nil_of_le oM];rfl
     clear hT hq;go_wp2;refine bodyPost_ret (by simp[results,results15,go_sem, *];try rfl) rfl ?_;exact⟨t,true,rfl,fun _=>HF.out,fun h=>absurd h dE,Below.alloc ((BW.setCell HXW.out _).setCell HXW.out _) sO _⟩
    .have c3:((N:Int)==2+(k:Int))=false:=by rw[beq_eq_false_iff_ne];omega
     have HF:Hid (Bi (j:Int) (a::m::c::r)=none):=by
      show _=_;rw[HT.out,hT];cases hd:(c::r).drop k with
      |nil=>have:=congrArg List.length hd;rw[List.length_drop]at this;simp only[List.length_nil]at this;omega
      |cons x y=>rfl
     clear hT hq;exact XY
  .have HT:Hid (Bi (j:Int) (a::m::c::r)=none):=by show _=_;rw[HL.out,if_neg (fun q=>n1 q.2)]
   have e4:((A6 m).toList==D.toList)=false:=by
    exact Ya
   have e5:((A6 m).toList != D.toList)=true:=by rw[bne,e4];rfl
   obtain⟨V,hV⟩:=gA (w.alloc (.cells #[.int .i64 0,.int .i64 0] 43))
   obtain⟨X,hXX⟩:=gA (w.heap.size)
   have hb0:Below w.heap.size w V:=by rw[<-hV];exact A2 _ _
   have hr:V.rowIs X 43 2 (g2 (.int .i64 0) (.int .i64 0)):=by rw[<-hV,<-hXX];exact BJ _ _ _ _
   have HB0:=A3 hb0;have HR:=A3 hr;have HXW:Hid (w.heap.size<=X):=by show _<=_;omega
   have x0:V.cell? ⟨X,0,none⟩=some (.int .i64 0):=hr.cell (i:=0) dE;have x1:V.cell? ⟨X,1,none⟩=some (.int .i64 0):=hr.cell (i:=1) dE;have f0:=hr.frozen 0;have f1:=hr.frozen 1;have y0:V.cell? ⟨g,0,none⟩=some (.string (A6 a)):=by have h9:=kc hb0 (h 0 sM);exact h9
   have y1:V.cell? ⟨g,1,none⟩=some (.string (A6 m)):=by have h9:=kc hb0 (h 1 sM);exact h9
   have q0:V.drew.cell? ⟨g,0,none⟩=some (.string (A6 a)):=y0;have q1:V.drew.cell? ⟨g,1,none⟩=some (.string (A6 m)):=y1;have i0:(0:Int)<(N:Int):=oM;have i1:(1:Int)<(N:Int):=oM;have i2:0<N:=oM;have i3:1<N:=oM;clear hb0 hr n0 n1 hD h hs HL;go_enter func15,ntmps15;go_upto_region 1 with fail;try rw[hV]
   try rw[hXX]
   clear hV hXX;refine rG (fun v=>v.cell? ⟨g,0,none⟩=some (.string (A6 a))/\v.cell? ⟨g,1,none⟩=some (.string (A6 m))) fun yH=>?_;refine Tf 0 1 2 3 4 5 ?_;refine Tf 6 7 8 9 10 11 ?_;refine Tb 12 13 ?_;clear yH;refine Aw 14 fun K hK=>?_;go_simp;(go_at_call 33;(with_reducible refine(HD.out _).mono ?_);rintro e w1 ⟨rfl,b1⟩;have b2:=bel (A4 V) b1;have HCUR:=A3 b2;have o0:=kc b2 y0;have o1:=kc b2 y1;clear b1 b2);try(go_wp2_with fail)
   refine AU hK fun yH=>?_;clear hK K;refine Tb 15 16 ?_;refine wpAnyH_done kR ?_ _;have hr1:=HR.of_block (HCUR.block _ HR.lt);clear x0 x1 f0 f1;have x0:w1.cell? ⟨X,0,none⟩=some (.int .i64 0):=hr1.cell (i:=0) dE;have x1:w1.cell? ⟨X,1,none⟩=some (.int .i64 0):=hr1.cell (i:=1) dE;have f0:=hr1.frozen 0;have f1:=hr1.frozen 1;clear hr1 yH;go_wp2;refine bodyPost_ret (by simp[results,results15,go_sem, *];try rfl) rfl ?_;exact⟨⟨0,0⟩,false,rfl,fun h=>absurd h dE,fun _=>HT.out,((bel HB0.out HCUR.out).setCell HXW.out _).setCell HXW.out _⟩
 .have HT:Hid (Bi (j:Int) (a::m::c::r)=none):=by show _=_;rw[HL.out,if_neg (fun q=>n0 q.1)]
  have e2:((A6 a).toList==[114,101,103])=false:=by rw[ByteArray.toList_eq,beq_eq_false_iff_ne];intro h;exact n0 Pa
  have e3:((A6 a).toList != [114,101,103])=true:=by rw[bne,e2];rfl
  obtain⟨V,hV⟩:=gA (w.alloc (.cells #[.int .i64 0,.int .i64 0] 43))
  obtain⟨X,hXX⟩:=gA (w.heap.size)
  have hb0:Below w.heap.size w V:=by rw[<-hV];exact A2 _ _
  have hr:V.rowIs X 43 2 (g2 (.int .i64 0) (.int .i64 0)):=by rw[<-hV,<-hXX];exact BJ _ _ _ _
  have HB0:=A3 hb0;have HR:=A3 hr;have HXW:Hid (w.heap.size<=X):=by show _<=_;omega
  have x0:V.cell? ⟨X,0,none⟩=some (.int .i64 0):=hr.cell (i:=0) dE;have x1:V.cell? ⟨X,1,none⟩=some (.int .i64 0):=hr.cell (i:=1) dE;have f0:=hr.frozen 0;have f1:=hr.frozen 1;have y0:V.cell? ⟨g,0,none⟩=some (.string (A6 a)):=by have h9:=kc hb0 (h 0 sM);exact h9
  have y1:V.cell? ⟨g,1,none⟩=some (.string (A6 m)):=by have h9:=kc hb0 (h 1 sM);exact h9
  have q0:V.drew.cell? ⟨g,0,none⟩=some (.string (A6 a)):=y0;have q1:V.drew.cell? ⟨g,1,none⟩=some (.string (A6 m)):=y1;have i0:(0:Int)<(N:Int):=oM;have i1:(1:Int)<(N:Int):=oM;have i2:0<N:=oM;have i3:1<N:=oM;clear hb0 hr n0 hD h hs HL;go_enter func15,ntmps15;go_upto_region 1 with fail;try rw[hV]
  try rw[hXX]
  clear hV hXX;refine rG (fun v=>v.cell? ⟨g,0,none⟩=some (.string (A6 a))/\v.cell? ⟨g,1,none⟩=some (.string (A6 m))) fun yH=>?_;refine Tf 0 1 2 3 4 5 ?_;refine Tc 6 7 8 ?_;refine Bn 9 ?_;exact XJ
def RI(ws:List Bs)(w:World)(e:Ending)(w':World):Prop:=∃ (p:Bc) (b:Bool),e=.returned (.tuple #[.agg #[.string p.name,.int .i64 p.kind,.int .i64 p.len],.bool b])/\(b=true->AV ws=some p)/\(b=false->AV ws=none)/\Below w.heap.size w w'
theorem Hx(p:Option Addr)(cap:Nat)(ws:List Bs)(hl:ws.length≠4)(w:World):Calls prog 14 #[.slice p ws.length cap] w fun e w'=>RI ws w e w':=by
 have HT:Hid (AV ws=none):=by
  show _=_
  match ws,hl with
  |[],_=>rfl
  |[_],_=>rfl
  |[_,_],_=>rfl
  |[_,_,_],_=>rfl
  |[_,_,_,_],hl=>exact absurd rfl hl
  |_::_::_::_::_::_,_=>rfl
 obtain⟨N,hN⟩:=gA (ws.length)
 rw[hN]at hl |-;have e1:((N:Int) != 4)=true:=by rw[bne_iff_ne];omega
 have e2:((N:Int)==4)=false:=by rw[beq_eq_false_iff_ne];omega
 clear hN hl;obtain⟨V,hV⟩:=gA (w.alloc (.cells #[.string ⟨#[]⟩,.int .i64 0,.int .i64 0] 41))
 obtain⟨X,hXX⟩:=gA (w.heap.size)
 have hb0:Below w.heap.size w V:=by rw[<-hV];exact A2 _ _
 have hr:V.rowIs X 41 3 (g3 (.string ⟨#[]⟩) (.int .i64 0) (.int .i64 0)):=by rw[<-hV,<-hXX];exact Cs _ _ _ _ _
 have HB0:=A3 hb0;have HR:=A3 hr;have HXW:Hid (w.heap.size<=X):=by show _<=_;omega
 obtain⟨x0,x1,x2⟩:=c3 hr;obtain⟨f0,f1,f2⟩:=z3 hr;clear hb0 hr;exact WL
theorem Jb(g cap:Nat)(a n k l:Bs)(hs:∀x∈[a,n,k,l],x.length<=100000000)(w:World)(h:Dg w g 0 [a,n,k,l]):Calls prog 14 #[.slice (some ⟨g,0,none⟩) 4 cap] w fun e w'=>RI [a,n,k,l] w e w':=by
 have HL:=A3 (show AV [a,n,k,l]=if a=AN/\(k=Cb\/k=AE)then(Af l).bind fun m=>if AK (B0 n k m)=true then some (B0 n k m)else none else none from rfl);have HSN:Hid ((A6 n).size<=140737488351232):=by show _<=_;rw[BQ];have:=hs n sM;omega
 have HN:Hid (∀v,Calls prog 31 #[.string (A6 l)] v fun e w'=>KQ (A6 l) v e w'):=fun v=>Ct _ (by rw[BQ];have:=hs l sM;omega) v;clear hs;by_cases n0:a=AN
 .by_cases n1:k=Cb
  .have HK:Hid (¬k=AE):=by show¬_;rw[n1];decide
   have HP:Hid (∀m,Af l=some m->AV [a,n,k,l]=if AK (B0 n k m)=true then some (B0 n k m)else none):=fun m hm=>by rw[HL.out,if_pos ⟨n0,.inl n1⟩,hm];rfl
   have HQ:Hid (Af l=none->AV [a,n,k,l]=none):=fun hm=>by rw[HL.out,if_pos ⟨n0,.inl n1⟩,hm];rfl
   obtain⟨V,hV⟩:=gA (w.alloc (.cells #[.string ⟨#[]⟩,.int .i64 0,.int .i64 0] 41))
   obtain⟨X,hXX⟩:=gA (w.heap.size)
   have hb0:Below w.heap.size w V:=by rw[<-hV];exact A2 _ _
   have hr:V.rowIs X 41 3 (g3 (.string ⟨#[]⟩) (.int .i64 0) (.int .i64 0)):=by rw[<-hV,<-hXX];exact Cs _ _ _ _ _
   have HB0:=A3 hb0;have HR:=A3 hr;have HXW:Hid (w.heap.size<=X):=by show _<=_;omega
   obtain⟨x0,x1,x2⟩:=c3 hr;obtain⟨f0,f1,f2⟩:=z3 hr;have y0:V.cell? ⟨g,0,none⟩=some (.string (A6 a)):=by have h9:=kc hb0 (h 0 sM);exact h9
   have y2:V.cell? ⟨g,2,none⟩=some (.string (A6 k)):=by have h9:=kc hb0 (h 2 sM);exact h9
   have y1:V.cell? ⟨g,1,none⟩=some (.string (A6 n)):=by have h9:=kc hb0 (h 1 sM);exact h9
   have HW4:Hid (∀x,Below V.heap.size V x->x.cell? ⟨g,1,none⟩=some (.string (A6 n))/\x.cell? ⟨g,2,none⟩=some (.string (A6 k))/\x.cell? ⟨g,3,none⟩=some (.string (A6 l))):=fun x q=>⟨by have h9:=kc q (kc hb0 (h 1 sM));exact h9,by have h9:=kc q (kc hb0 (h 2 sM));exact h9,by have h9:=kc q (kc hb0 (h 3 sM));exact h9⟩
   have eparam:((A6 a).toList==[112,97,114,97,109])=true:=by rw[ByteArray.toList_eq,n0];rfl
   have dparam:((A6 a).toList != [112,97,114,97,109])=false:=by rw[bne,eparam];rfl
   have ereal:((A6 k).toList==[114,101,97,108])=true:=by rw[ByteArray.toList_eq,n1];rfl
   have dreal:((A6 k).toList != [114,101,97,108])=false:=by rw[bne,ereal];rfl
   have ecomplex:((A6 k).toList==[99,111,109,112,108,101,120])=false:=by rw[ByteArray.toList_eq,beq_eq_false_iff_ne];intro h;exact(fun e=>absurd (show Cb=AE from n1.symm.trans e) dE) U4
   have dcomplex:((A6 k).toList != [99,111,109,112,108,101,120])=true:=by rw[bne,ecomplex];rfl
   clear hb0 hr h n0 n1;go_enter func14,ntmps14;go_upto_region 1 with fail;try rw[hV]
   try rw[hXX]
   clear hV hXX;go_upto_region 4 with fail;obtain⟨V2,hV2⟩:∃W,V.alloc (.cells #[.string (A6 n),.int .i64 1,.int .i64 0] 41)=W:=⟨_,rfl⟩
   obtain⟨Z,hZ⟩:=gA (V.heap.size)
   have hb2:Below V.heap.size V V2:=by rw[<-hV2];exact A2 _ _
   have hz:V2.rowIs Z 41 3 (g3 (.string (A6 n)) (.int .i64 1) (.int .i64 0)):=by rw[<-hV2,<-hZ];exact Cs _ _ _ _ _
   have hxz:X<Z:=by have:=HR.lt;omega
   have HXZ:=A3 hxz;try rw[hV2]
   try rw[hZ]
   have HB2:=A3 hb2;have HZ:=A3 hz;have HR2:=A3 (HR.of_block (hb2.block _ HR.lt));obtain⟨y1',y2',y3'⟩:=HW4.out _ hb2;clear x0 x1 x2 f0 f1 f2 y0 y1 y2 hV2;obtain⟨z0,z1,z2⟩:=c3 hz;obtain⟨t0,t1,t2⟩:=z3 hz;clear hz;go_upto_region 6 with fail;have hb3:=HB2.out;obtain⟨V3,hV3⟩:∃W,V2=W:=⟨_,rfl⟩
   rw[hV3]at hb3;have HR3:=HR2;have HZ3:=HZ;rw[hV3]at HR3 HZ3;rw[hV3];obtain⟨y1,y2,y3⟩:=HW4.out _ hb3;clear z0 z1 z2 t0 t1 t2 y1' y2' y3';clear hV3;have HB3:=A3 hb3;clear hb3;go_upto_region 7 with(go_at_call 31;(with_reducible refine(HN.out _).mono ?_);rintro e w1 ⟨m,ok,rfl,m1,m2,b1⟩;have HM:=A3 (And.intro m1 m2);have HC1:=A3 b1;clear m1 m2 b1)
   have HB4:Hid (Below V.heap.size V w1):=HB3.trans (HC1.mono HB3.size);have hr4:=HR3.of_block (HC1.block _ HR3.lt);have hz4:=HZ3.of_block (HC1.block _ HZ3.lt);have HR4:=A3 hr4;have HZ4:=A3 hz4;obtain⟨z0,z1,z2⟩:=c3 hz4;obtain⟨t0,t1,t2⟩:=z3 hz4;clear hr4 hz4 y1 y2 y3;go_upto_region 8 with fail;obtain⟨V5,hV5⟩:∃W,w1.setCell ⟨Z,2,none⟩ (.int .i64 m)=W:=⟨_,rfl⟩
   have hq:=J8 HZ4.out (.int .i64 m);rw[hV5]at hq;try rw[hV5]
   have HB5:Hid (Below V.heap.size V V5):=HB4.trans (hq.2.bel _ oM);have hr5:=hq.2.row HR4.out oM;have HR5:=A3 hr5;have HZ5:=A3 hq.1;clear z0 z1 z2 t0 t1 t2 hV5;obtain⟨z0,z1,z2⟩:=c3 hq.1;obtain⟨x0,x1,x2⟩:=c3 hr5;obtain⟨f0,f1,f2⟩:=z3 hr5;clear hq hr5;have HDR:Hid (Below w.heap.size w V5):=bel HB0.out HB5.out;have hzd:=HZ5.of_block (w':=V5.drew) rfl;obtain⟨zd0,zd1,zd2⟩:=c3 hzd;have hne1:X≠Z:=oM;have hne2:Z≠X:=oM;clear hzd;cases ok with
   |true=>
    have hm:Af l=some m:=by have h9:=HM.1 rfl;rwa[show bs (A6 l)=l from AZ l]at h9
    have hp9:=HP.out m hm;obtain⟨p,hp⟩:∃p:Bc,(⟨A6 n,1,m⟩:Bc)=p:=⟨_,rfl⟩
    obtain⟨ck,hck⟩:=gA (AC [p])
    have KC:=DC (.slice (some ⟨V5.heap.size,0,none⟩) 1 1) [p] Xe (fun q hq=>by rw[List.mem_singleton.1 hq,<-hp];exact HSN.out) ((V5.alloc (.cells (AB p).toArray 41)).drew) ((LP V5 p).below (A4 _));have hcells:(AB p).toArray=#[.string (A6 n),.int .i64 1,.int .i64 m]:=by rw[<-hp];rfl
    rw[hck,hcells]at KC;have HKC:=A3 KC;have HT:Hid (AV [a,n,k,l]=if ck=0 then some p else none):=by
     show _=_;rw[hp9,<-hck];have h8:(B0 n k m)=p:=by rw[<-hp];unfold B0;rw[if_neg HK.out];rfl
     exact Yg
    have HPP:=A3 hp;have hu:=HZ5.alloc (.cells #[.string (A6 n),.int .i64 1,.int .i64 m] 41);obtain⟨u0,u1,u2⟩:=c3 hu;obtain⟨ud0,ud1,ud2⟩:=c3 hu.drew;have HDD:Hid (Below V5.heap.size V5 (V5.alloc (.cells #[.string (A6 n),.int .i64 1,.int .i64 m] 41)).drew):=bel (A2 V5 _) (A4 _);clear hck hcells KC hp9 hm hu;refine rG (fun v=>v.cell? ⟨Z,0,none⟩=some (.string (A6 n))/\v.cell? ⟨Z,1,none⟩=some (.int .i64 1)/\v.cell? ⟨Z,2,none⟩=some (.int .i64 m)) fun yH=>?_;exact Xt
   |false=>
    have hm:Af l=none:=by have h9:=HM.2 rfl;rwa[show bs (A6 l)=l from AZ l]at h9
    have HT:Hid (AV [a,n,k,l]=none):=HQ.out hm;clear hm;refine rG (fun v=>v.cell? ⟨Z,0,none⟩=some (.string (A6 n))/\v.cell? ⟨Z,1,none⟩=some (.int .i64 1)/\v.cell? ⟨Z,2,none⟩=some (.int .i64 m)) fun yH=>?_;refine Tc 0 1 2 ?_;refine Cu 3 ?_;clear yH;refine Aw 4 fun K hK=>?_;go_simp;refine AU hK fun yH=>?_;clear hK K;clear yH;refine Aw 5 fun K hK=>?_;go_simp;refine AU hK fun yH=>?_;clear hK K;refine Cu 6 ?_;refine Bn 7 ?_;clear yH;refine Aw 8 fun K hK=>?_;go_simp;refine AU hK fun yH=>?_;clear hK K;refine Bn 9 ?_;refine wpAnyH_done kR ?_ _;go_wp2;refine bodyPost_ret (by simp[results,results14,go_sem, *];try rfl) rfl ?_;exact⟨⟨A6 n,1,m⟩,false,rfl,fun h=>absurd h dE,fun _=>HT.out,bel (((HDR.setCell HXW.out _).setCell HXW.out _).setCell HXW.out _) (A4 _)⟩
  .by_cases n2:k=AE
   .have HK:Hid (k=AE):=n2;have HP:Hid (∀m,Af l=some m->AV [a,n,k,l]=if AK (B0 n k m)=true then some (B0 n k m)else none):=fun m hm=>by rw[HL.out,if_pos ⟨n0,.inr n2⟩,hm];rfl
    have HQ:Hid (Af l=none->AV [a,n,k,l]=none):=fun hm=>by rw[HL.out,if_pos ⟨n0,.inr n2⟩,hm];rfl
    obtain⟨V,hV⟩:=gA (w.alloc (.cells #[.string ⟨#[]⟩,.int .i64 0,.int .i64 0] 41))
    obtain⟨X,hXX⟩:=gA (w.heap.size)
    have hb0:Below w.heap.size w V:=by rw[<-hV];exact A2 _ _
    have hr:V.rowIs X 41 3 (g3 (.string ⟨#[]⟩) (.int .i64 0) (.int .i64 0)):=by rw[<-hV,<-hXX];exact Cs _ _ _ _ _
    have HB0:=A3 hb0;have HR:=A3 hr;have HXW:Hid (w.heap.size<=X):=by show _<=_;omega
    obtain⟨x0,x1,x2⟩:=c3 hr;obtain⟨f0,f1,f2⟩:=z3 hr;have y0:V.cell? ⟨g,0,none⟩=some (.string (A6 a)):=by have h9:=kc hb0 (h 0 sM);exact h9
    have y2:V.cell? ⟨g,2,none⟩=some (.string (A6 k)):=by have h9:=kc hb0 (h 2 sM);exact h9
    have y1:V.cell? ⟨g,1,none⟩=some (.string (A6 n)):=by have h9:=kc hb0 (h 1 sM);exact h9
    have HW4:Hid (∀x,Below V.heap.size V x->x.cell? ⟨g,1,none⟩=some (.string (A6 n))/\x.cell? ⟨g,2,none⟩=some (.string (A6 k))/\x.cell? ⟨g,3,none⟩=some (.string (A6 l))):=fun x q=>⟨by have h9:=kc q (kc hb0 (h 1 sM));exact h9,by have h9:=kc q (kc hb0 (h 2 sM));exact h9,by have h9:=kc q (kc hb0 (h 3 sM));exact h9⟩
    have eparam:((A6 a).toList==[112,97,114,97,109])=true:=by rw[ByteArray.toList_eq,n0];rfl
    have dparam:((A6 a).toList != [112,97,114,97,109])=false:=by rw[bne,eparam];rfl
    have ereal:((A6 k).toList==[114,101,97,108])=false:=by rw[ByteArray.toList_eq,beq_eq_false_iff_ne];intro h;exact n1 U4
    have dreal:((A6 k).toList != [114,101,97,108])=true:=by rw[bne,ereal];rfl
    have ecomplex:((A6 k).toList==[99,111,109,112,108,101,120])=true:=by rw[ByteArray.toList_eq,n2];rfl
    have dcomplex:((A6 k).toList != [99,111,109,112,108,101,120])=false:=by rw[bne,ecomplex];rfl
    clear hb0 hr h n0 n1 n2;go_enter func14,ntmps14;go_upto_region 1 with fail;try rw[hV]
    try rw[hXX]
    clear hV hXX;go_upto_region 4 with fail;obtain⟨V2,hV2⟩:∃W,V.alloc (.cells #[.string (A6 n),.int .i64 1,.int .i64 0] 41)=W:=⟨_,rfl⟩
    obtain⟨Z,hZ⟩:=gA (V.heap.size)
    have hb2:Below V.heap.size V V2:=by rw[<-hV2];exact A2 _ _
    have hz:V2.rowIs Z 41 3 (g3 (.string (A6 n)) (.int .i64 1) (.int .i64 0)):=by rw[<-hV2,<-hZ];exact Cs _ _ _ _ _
    have hxz:X<Z:=by have:=HR.lt;omega
    have HXZ:=A3 hxz;try rw[hV2]
    try rw[hZ]
    have HB2:=A3 hb2;have HZ:=A3 hz;have HR2:=A3 (HR.of_block (hb2.block _ HR.lt));obtain⟨y1',y2',y3'⟩:=HW4.out _ hb2;clear x0 x1 x2 f0 f1 f2 y0 y1 y2 hV2;obtain⟨z0,z1,z2⟩:=c3 hz;obtain⟨t0,t1,t2⟩:=z3 hz;clear hz;go_upto_region 6 with fail;obtain⟨V3,hV3⟩:∃W,V2.setCell ⟨Z,1,none⟩ (.int .i64 2)=W:=⟨_,rfl⟩
    have hq:=LD HZ.out (.int .i64 2);rw[hV3]at hq;try rw[hV3]
    have hb3:Below V.heap.size V V3:=HB2.out.trans (hq.2.bel _ oM);have HR3:=A3 (hq.2.row HR2.out oM);have HZ3:=A3 hq.1;obtain⟨y1,y2,y3⟩:=HW4.out _ hb3;clear z0 z1 z2 t0 t1 t2 y1' y2' y3' hV3 hq;have HB3:=A3 hb3;clear hb3;go_upto_region 7 with(go_at_call 31;(with_reducible refine(HN.out _).mono ?_);rintro e w1 ⟨m,ok,rfl,m1,m2,b1⟩;have HM:=A3 (And.intro m1 m2);have HC1:=A3 b1;clear m1 m2 b1)
    have HB4:Hid (Below V.heap.size V w1):=HB3.trans (HC1.mono HB3.size);have hr4:=HR3.of_block (HC1.block _ HR3.lt);have hz4:=HZ3.of_block (HC1.block _ HZ3.lt);have HR4:=A3 hr4;have HZ4:=A3 hz4;obtain⟨z0,z1,z2⟩:=c3 hz4;obtain⟨t0,t1,t2⟩:=z3 hz4;clear hr4 hz4 y1 y2 y3;go_upto_region 8 with fail;obtain⟨V5,hV5⟩:∃W,w1.setCell ⟨Z,2,none⟩ (.int .i64 m)=W:=⟨_,rfl⟩
    have hq:=J8 HZ4.out (.int .i64 m);rw[hV5]at hq;try rw[hV5]
    have HB5:Hid (Below V.heap.size V V5):=HB4.trans (hq.2.bel _ oM);have hr5:=hq.2.row HR4.out oM;have HR5:=A3 hr5;have HZ5:=A3 hq.1;clear z0 z1 z2 t0 t1 t2 hV5;obtain⟨z0,z1,z2⟩:=c3 hq.1;obtain⟨x0,x1,x2⟩:=c3 hr5;obtain⟨f0,f1,f2⟩:=z3 hr5;clear hq hr5;have HDR:Hid (Below w.heap.size w V5):=bel HB0.out HB5.out;have hzd:=HZ5.of_block (w':=V5.drew) rfl;obtain⟨zd0,zd1,zd2⟩:=c3 hzd;have hne1:X≠Z:=oM;have hne2:Z≠X:=oM;clear hzd;cases ok with
    |true=>
     have hm:Af l=some m:=by have h9:=HM.1 rfl;rwa[show bs (A6 l)=l from AZ l]at h9
     have hp9:=HP.out m hm;obtain⟨p,hp⟩:∃p:Bc,(⟨A6 n,2,m⟩:Bc)=p:=⟨_,rfl⟩
     obtain⟨ck,hck⟩:=gA (AC [p])
     have KC:=DC (.slice (some ⟨V5.heap.size,0,none⟩) 1 1) [p] Xe (fun q hq=>by rw[List.mem_singleton.1 hq,<-hp];exact HSN.out) ((V5.alloc (.cells (AB p).toArray 41)).drew) ((LP V5 p).below (A4 _));have hcells:(AB p).toArray=#[.string (A6 n),.int .i64 2,.int .i64 m]:=by rw[<-hp];rfl
     rw[hck,hcells]at KC;have HKC:=A3 KC;have HT:Hid (AV [a,n,k,l]=if ck=0 then some p else none):=by
      show _=_;rw[hp9,<-hck];have h8:(B0 n k m)=p:=by rw[<-hp];unfold B0;rw[if_pos HK.out];rfl
      exact Yg
     have HPP:=A3 hp;have hu:=HZ5.alloc (.cells #[.string (A6 n),.int .i64 2,.int .i64 m] 41);obtain⟨u0,u1,u2⟩:=c3 hu;obtain⟨ud0,ud1,ud2⟩:=c3 hu.drew;have HDD:Hid (Below V5.heap.size V5 (V5.alloc (.cells #[.string (A6 n),.int .i64 2,.int .i64 m] 41)).drew):=bel (A2 V5 _) (A4 _);clear hck hcells KC hp9 hm hu;refine rG (fun v=>v.cell? ⟨Z,0,none⟩=some (.string (A6 n))/\v.cell? ⟨Z,1,none⟩=some (.int .i64 2)/\v.cell? ⟨Z,2,none⟩=some (.int .i64 m)) fun yH=>?_;exact Xt
    |false=>
     have hm:Af l=none:=by have h9:=HM.2 rfl;rwa[show bs (A6 l)=l from AZ l]at h9
     have HT:Hid (AV [a,n,k,l]=none):=HQ.out hm;clear hm;refine rG (fun v=>v.cell? ⟨Z,0,none⟩=some (.string (A6 n))/\v.cell? ⟨Z,1,none⟩=some (.int .i64 2)/\v.cell? ⟨Z,2,none⟩=some (.int .i64 m)) fun yH=>?_;refine Tc 0 1 2 ?_;refine Cu 3 ?_;clear yH;refine Aw 4 fun K hK=>?_;go_simp;refine AU hK fun yH=>?_;clear hK K;clear yH;refine Aw 5 fun K hK=>?_;go_simp;refine AU hK fun yH=>?_;clear hK K;refine Cu 6 ?_;refine Bn 7 ?_;clear yH;refine Aw 8 fun K hK=>?_;go_simp;refine AU hK fun yH=>?_;clear hK K;refine Bn 9 ?_;refine wpAnyH_done kR ?_ _;go_wp2;refine bodyPost_ret (by simp[results,results14,go_sem, *];try rfl) rfl ?_;exact⟨⟨A6 n,2,m⟩,false,rfl,fun h=>absurd h dE,fun _=>HT.out,bel (((HDR.setCell HXW.out _).setCell HXW.out _).setCell HXW.out _) (A4 _)⟩
   .have HT:Hid (AV [a,n,k,l]=none):=by show _=_;rw[HL.out,if_neg (fun e=>e.2.elim n1 n2)]
    obtain⟨V,hV⟩:=gA (w.alloc (.cells #[.string ⟨#[]⟩,.int .i64 0,.int .i64 0] 41))
    obtain⟨X,hXX⟩:=gA (w.heap.size)
    have hb0:Below w.heap.size w V:=by rw[<-hV];exact A2 _ _
    have hr:V.rowIs X 41 3 (g3 (.string ⟨#[]⟩) (.int .i64 0) (.int .i64 0)):=by rw[<-hV,<-hXX];exact Cs _ _ _ _ _
    have HB0:=A3 hb0;have HR:=A3 hr;have HXW:Hid (w.heap.size<=X):=by show _<=_;omega
    obtain⟨x0,x1,x2⟩:=c3 hr;obtain⟨f0,f1,f2⟩:=z3 hr;have y0:V.cell? ⟨g,0,none⟩=some (.string (A6 a)):=by have h9:=kc hb0 (h 0 sM);exact h9
    have y2:V.cell? ⟨g,2,none⟩=some (.string (A6 k)):=by have h9:=kc hb0 (h 2 sM);exact h9
    have eparam:((A6 a).toList==[112,97,114,97,109])=true:=by rw[ByteArray.toList_eq,n0];rfl
    have dparam:((A6 a).toList != [112,97,114,97,109])=false:=by rw[bne,eparam];rfl
    have ereal:((A6 k).toList==[114,101,97,108])=false:=by rw[ByteArray.toList_eq,beq_eq_false_iff_ne];intro h;exact n1 U4
    have dreal:((A6 k).toList != [114,101,97,108])=true:=by rw[bne,ereal];rfl
    have ecomplex:((A6 k).toList==[99,111,109,112,108,101,120])=false:=by rw[ByteArray.toList_eq,beq_eq_false_iff_ne];intro h;exact n2 U4
    have dcomplex:((A6 k).toList != [99,111,109,112,108,101,120])=true:=by rw[bne,ecomplex];rfl
    clear n0 n1 n2;clear hb0 hr h;exact WL
 .have HT:Hid (AV [a,n,k,l]=none):=by show _=_;rw[HL.out,if_neg (fun e=>n0 e.1)]
  obtain⟨V,hV⟩:=gA (w.alloc (.cells #[.string ⟨#[]⟩,.int .i64 0,.int .i64 0] 41))
  obtain⟨X,hXX⟩:=gA (w.heap.size)
  have hb0:Below w.heap.size w V:=by rw[<-hV];exact A2 _ _
  have hr:V.rowIs X 41 3 (g3 (.string ⟨#[]⟩) (.int .i64 0) (.int .i64 0)):=by rw[<-hV,<-hXX];exact Cs _ _ _ _ _
  have HB0:=A3 hb0;have HR:=A3 hr;have HXW:Hid (w.heap.size<=X):=by show _<=_;omega
  obtain⟨x0,x1,x2⟩:=c3 hr;obtain⟨f0,f1,f2⟩:=z3 hr;have y0:V.cell? ⟨g,0,none⟩=some (.string (A6 a)):=by have h9:=kc hb0 (h 0 sM);exact h9
  have y2:V.cell? ⟨g,2,none⟩=some (.string (A6 k)):=by have h9:=kc hb0 (h 2 sM);exact h9
  have eparam:((A6 a).toList==[112,97,114,97,109])=false:=by rw[ByteArray.toList_eq,beq_eq_false_iff_ne];intro h;exact n0 Pa
  have dparam:((A6 a).toList != [112,97,114,97,109])=true:=by rw[bne,eparam];rfl
  clear n0;clear hb0 hr h;exact WL
theorem JZ(g cap:Nat)(ws:List Bs)(hs:∀x∈ws,x.length<=100000000)(w:World)(h:Dg w g 0 ws):Calls prog 14 #[.slice (some ⟨g,0,none⟩) ws.length cap] w fun e w'=>RI ws w e w':=by
 by_cases q:ws.length=4
 .match ws,q,hs,h with
  |[a,n,k,l],_,hs,h=>exact Jb g cap a n k l hs w h
 .exact Hx _ cap ws q w
def RF(a:Bs)(j o:Nat):Prop:=(o=0/\∀k:Nat,1<=k->k<j->DS (k:Int)≠a)\/(1<=o/\o<j/\DS (o:Int)=a)
theorem RF.start(a:Bs):RF a 1 0:=.inl ⟨rfl,fun k h1 h2=>by omega⟩
theorem RF.hit{a:Bs}{j:Nat}(hj:1<=j)(h:DS (j:Int)=a):RF a (j+1) j:=.inr ⟨hj,oM,h⟩
theorem RF.miss{a:Bs}{j o:Nat}(h:RF a j o)(hn:¬DS (j:Int)=a):RF a (j+1) o:=by
 rcases h with⟨rfl,h⟩|⟨h1,h2,h3⟩
 .refine .inl ⟨rfl,fun k k1 k2=>?_⟩;by_cases e:k=j
  .rw[e];exact hn
  .exact h k k1 oM
 .exact .inr ⟨h1,oM,h3⟩
theorem Sx{a:Bs}(h:∀k:Nat,1<=k->k<38->DS (k:Int)≠a):KJ a=none:=Bf fun k hk=>by
 obtain⟨h1,h2⟩:=FQ hk;refine h (k+1) oM oM ?_;rw[h2,show((k+1:Nat):Int)=(k:Int)+1 by omega]
theorem Uz{o:Nat}(h1:1<=o)(h2:o<38):KJ (DS (o:Int))=some (o-1):=by
 have h:=Lx (o-1) oM;rw[show((o-1:Nat):Int)+1=(o:Int) by omega]at h;exact h
theorem Uq{a:Bs}{r:List Bs}(h:KJ a=none):B3 (a::r)=none:=by
 rw[IZ];show(KJ a).bind _=none;rw[h];rfl
def Ln(o:Nat)(r:List Bs):Option Ax:=(KG (Dl (Ai o)) (Ai o) r).bind fun x=>(BZ (A5 (o:Int)).n x.2).bind fun e=>some ⟨(o:Int),x.1.d,x.1.a,x.1.b,x.1.c,e.1,e.2⟩
theorem Sa{a:Bs}{r:List Bs}{o:Nat}(h1:1<=o)(h2:o<38)(h:DS (o:Int)=a):B3 (a::r)=Ln o r:=by
 rw[IZ];show(KJ a).bind _=_;rw[<-h,Uz h1 h2,Option.bind_some];unfold Ln;rw[show o-1+1=o by omega,show((o-1:Nat):Int)+1=(o:Int) by omega];rfl
theorem Vq:∀s:Bool,∀K:Nat,K<4->∀i:Nat,i<4->i<((if s then [1]else [])++[2,3,4].take K).length->((if s then [1]else [])++[2,3,4].take K)[i]? =some (i+2-(if s then 1 else 0)):=dE
theorem Kb(o:Nat):(Dl (Ai o)).length=(if DV (Ai o)then 1 else 0)+(Ay (Ai o) (A5 (o:Int))).length:=by
 have h3:(Ay (Ai o) (A5 (o:Int))).length<=3:=by
  unfold Ay;simp only[List.length_append];split<;>split<;>split<;>simp
 unfold Dl DV;show((if(A5 (o:Int)).d != 0 then [1]else [])++[2,3,4].take (Ay (Ai o) (A5 (o:Int))).length).length=_;rw[List.length_append,List.length_take];have e:(List.length [2,3,4])=3:=rfl;rw[e,Nat.min_eq_left h3];congr 1;show _=if((A5 (o:Int)).d != 0)=true then 1 else 0;split<;>rfl
theorem Ix(o:Nat):(Ay (Ai o) (A5 (o:Int))).length<=3:=by
 unfold Ay;simp only[List.length_append];split<;>split<;>split<;>simp
theorem UQ(o:Nat){i:Nat}(h:i<(Dl (Ai o)).length):(Dl (Ai o))[i]=i+2-(if DV (Ai o)then 1 else 0):=by
 have hl:=Kb o;have h3:=Ix o;have h4:i<4:=by
  have h5:(if DV (Ai o)=true then 1 else 0)<=1:=by split<;>decide
  omega
 have e:Dl (Ai o)=(if DV (Ai o)then [1]else [])++[2,3,4].take (Ay (Ai o) (A5 (o:Int))).length:=rfl;have h9:=Vq (DV (Ai o)) (Ay (Ai o) (A5 (o:Int))).length oM i h4 (by rw[<-e];exact h);rw[<-e,gB h]at h9;exact Option.some.inj h9
structure ER(o:Nat)(r:List Bs)(i:Nat)(I:Ax):Prop where
 eq:Ln o r=(KG ((Dl (Ai o)).drop i) I (r.drop i)).bind fun x=>(BZ (A5 (o:Int)).n x.2).bind fun e=>some ⟨(o:Int),x.1.d,x.1.a,x.1.b,x.1.c,e.1,e.2⟩
 op:I.op=(o:Int)
 n:I.n=0
 bits:I.bits=0
theorem ER.start(o:Nat)(r:List Bs):ER o r 0 (Ai o):=⟨rfl,rfl,rfl,rfl⟩
theorem ER.short{o:Nat}{r:List Bs}{i:Nat}{I:Ax}(h:ER o r i I)(hi:i<(Dl (Ai o)).length)(hr:r.length<=i):Ln o r=none:=by
 rw[h.eq,List.drop_eq_getElem_cons hi,List.drop_eq_nil_of_le hr];rfl
theorem ER.bad{o:Nat}{r:List Bs}{i:Nat}{I:Ax}(h:ER o r i I)(hi:i<(Dl (Ai o)).length)(hr:i<r.length)(hb:FB r[i]=none):Ln o r=none:=by
 rw[h.eq,List.drop_eq_getElem_cons hi,List.drop_eq_getElem_cons hr];show((FB r[i]).bind _).bind _=none;rw[hb];rfl
theorem OL(I:Ax)(o:Nat)(v:Int):(D2 I o v).op=I.op/\(D2 I o v).n=I.n/\(D2 I o v).bits=I.bits:=by
 unfold D2;split
 .exact⟨rfl,rfl,rfl⟩
 .split
  .exact⟨rfl,rfl,rfl⟩
  .split<;>exact⟨rfl,rfl,rfl⟩
theorem ER.next{o:Nat}{r:List Bs}{i:Nat}{I:Ax}(h:ER o r i I)(hi:i<(Dl (Ai o)).length)(hr:i<r.length){n:Int}(hb:FB r[i]=some n):ER o r (i+1) (D2 I (i+2-(if DV (Ai o)then 1 else 0)) n):=by
 obtain⟨s1,s2,s3⟩:=OL I (i+2-(if DV (Ai o)then 1 else 0)) n;refine⟨?_,s1.trans h.op,s2.trans h.n,s3.trans h.bits⟩;rw[h.eq,List.drop_eq_getElem_cons hi,List.drop_eq_getElem_cons hr,<-UQ o hi];show((FB r[i]).bind _).bind _=_;rw[hb];rfl
theorem ER.done{o:Nat}{r:List Bs}{I:Ax}(h:ER o r (Dl (Ai o)).length I):Ln o r=(BZ (A5 (o:Int)).n (r.drop (Dl (Ai o)).length)).bind fun e=>some ⟨(o:Int),I.d,I.a,I.b,I.c,e.1,e.2⟩:=by
 rw[h.eq,List.drop_length];rfl
def gI(i:Ax):Nat->Value:=g7 (.int .i64 i.op) (.int .i64 i.d) (.int .i64 i.a) (.int .i64 i.b) (.int .i64 i.c) (.int .i64 i.n) (.int .u32 i.bits)
theorem I6{l:Int}{w:List Bs}(hl:l≠0)(h:w.length≠1):BZ l w=none:=by
 unfold BZ;have e:MO w=none:=by
  match w,h with
  |[],_=>rfl
  |[x],h=>exact absurd rfl h
  |x::y::z,_=>rfl
 rw[e,if_neg hl];split<;>rfl
theorem Pt{w:List Bs}:BZ 0 w=if w.length=0 then some (0,0)else none:=by
 unfold BZ;rw[if_neg dE,if_pos rfl];cases w with
 |nil=>rfl
 |cons a r=>rfl
theorem RZ(x:Bs):BZ 7 [x]=(BI x).bind fun b=>some (0,b):=rfl
theorem S1{l:Int}(h0:l≠0)(h7:l≠7)(x:Bs):BZ l [x]=(Af x).bind fun n=>some (n,0):=by
 unfold BZ;rw[if_neg h7,if_neg h0];rfl
theorem VM:prog.underlying 52=some (.slice (prog.elem 52)):=kR
theorem Ui:prog.elem 52=9:=kR
theorem UU(w:World):(sizeOf (prog.elem 52)).run prog w=.ok 1 w:=by rw[Ui];exact Tryz.sizeOf9 w
theorem Ge(p:Option Addr)(n c k:Nat)(hk:k<=n)(w:World):(Instr.sliceAt 52 (.slice p n c) (some (.int .i64 k)) none none).run prog w=.ok (.slice (D3 p c k 1) (n-k) (c-k)) w:=Gd VM UU p n c k hk w
end Go.Proofs.YtjlpkjblkllfbaaGreatDoor
