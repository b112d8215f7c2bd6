import Derived.Test.YtjlpkjblkllfbaaGreatDoorOwn1
import Derived.Test.YtjlpkjblkllfbaaGreatDoorOwn25
import Derived.OrdersHeld
import Derived.Deep.DeepCutAuto
namespace Go.Proofs.YtjlpkjblkllfbaaGreatDoor
open Go.RowKit Go.Proofs.Tryz
set_option linter.all false
set_option maxRecDepth 100000
set_option maxHeartbeats 16000000
def RN(at_:Int)(ws:List Bs)(w:World)(e:Ending)(w':World):Prop:=∃ (s:Sl) (b:Bool),e=.returned (.tuple #[.agg #[.int .i64 s.ty.kind,.int .i64 s.ty.par,.bool s.keep,.int .u32 s.bits,.int .i64 s.int_],.bool b])/\(b=true->AQ at_ ws=some s)/\(b=false->AQ at_ ws=none)/\Below w.heap.size w w'
theorem Jc(p:Option Addr)(cap:Nat)(ws:List Bs)(j:Nat)(hl:ws.length<5)(w:World):Calls prog 16 #[.slice p ws.length cap,.int .i64 (j:Int)] w fun e w'=>RN (j:Int) ws w e w':=by
 have HT:Hid (AQ (j:Int) ws=none):=by
  show _=_;refine Bf fun s hs=>?_;obtain⟨_,rfl⟩:=Fu hs;have:1<=(AT s.ty).length:=by
   unfold AT;by_cases h1:s.ty.kind=1
   .rw[if_pos h1];decide
   .rw[if_neg h1];by_cases h2:s.ty.kind=2
    .rw[if_pos h2];decide
    .rw[if_neg h2];simp
  simp only[Bv,List.length_cons,List.length_append,List.length_nil]at hl;omega
 obtain⟨N,hN⟩:=gA (ws.length)
 rw[hN]at hl |-;have e1:(N:Int)<5:=oM;clear hN hl;obtain⟨V,hV⟩:=gA (w.alloc (.cells #[.int .i64 0,.int .i64 0,.bool false,.int .u32 0,.int .i64 0] 59))
 obtain⟨X,hXX⟩:=gA (w.heap.size)
 have hb0:Below w.heap.size w V:=by rw[<-hV];exact A2 _ _
 have hr:V.rowIs X 59 5 (g5 (.int .i64 0) (.int .i64 0) (.bool false) (.int .u32 0) (.int .i64 0)):=by rw[<-hV,<-hXX];exact CG _ _ _ _ _ _ _
 have HB0:=A3 hb0;have HR:=A3 hr;have HXW:Hid (w.heap.size<=X):=by show _<=_;omega
 obtain⟨x0,x1,x2,x3,x4⟩:=c5 hr;obtain⟨f0,f1,f2,f3,f4⟩:=z5 hr;clear hb0 hr;go_enter func16,ntmps16;go_upto_region 1 with fail;try rw[hV]
 try rw[hXX]
 clear hV hXX;refine rG (fun v=>v.cell? ⟨X,0,none⟩=some (.int .i64 0)) fun yH=>?_;refine Tc 0 1 2 ?_;refine Bn 3 ?_;refine Kd 4 5 6 7 ?_;refine Tb 8 9 ?_;exact XE
theorem K7(g cap:Nat)(a m k c:Bs)(r:List Bs)(j:Nat)(hj:j<=2147483647)(hl:(a::m::k::c::r).length<=100000000)(h5:5<=(a::m::k::c::r).length)(hcap:(a::m::k::c::r).length<=cap)(hs:∀x∈a::m::k::c::r,x.length<=100000000)(w:World)(h:Dg w g 0 (a::m::k::c::r)):Calls prog 16 #[.slice (some ⟨g,0,none⟩) (a::m::k::c::r).length cap,.int .i64 (j:Int)] w fun e w'=>RN (j:Int) (a::m::k::c::r) w e w':=by
 have HL:=A3 (show AQ (j:Int) (a::m::k::c::r)=if a=B7/\Af m=some (j:Int)/\(k=At\/k=Av)then(AY (c::r)).bind (EL k)else none from rfl);have HS:=A3 hs;obtain⟨N,hN⟩:=gA ((a::m::k::c::r).length)
 have HNR:Hid (N=r.length+4):=by show _=_;rw[<-hN];simp
 rw[hN]at hl hcap h5 |-;have e1:¬ (N:Int)<5:=oM;have hc3:¬cap=3:=oM;obtain⟨D,hD⟩:=gA (A6 (Ao (j:Int)))
 have HD:Hid (∀v,Calls prog 33 #[.int .i64 (j:Int)] v fun e w'=>e=.returned (.string D)/\Below v.heap.size v w'):=fun v=>by rw[<-hD];exact MQ (j:Int) oM oM v
 clear hs hN;by_cases n0:a=B7
 .by_cases n1:Af m=some (j:Int)
  .by_cases n2:k=At
   .skip
    have HKB:Hid (decide (k=At)=true):=by show _=_;rw[n2];rfl
    have HEK:Hid (((A6 k).toList==[107,101,101,112])=true):=by show _=_;rw[ByteArray.toList_eq,n2];rfl
    have HSL:Hid (AQ (j:Int) (a::m::k::c::r)=(AY (c::r)).bind (EL k)):=by show _=_;rw[HL.out,if_pos ⟨n0,n1,.inl n2⟩]
    have hm:m=Ao (j:Int):=(Cv.1 n1).2;obtain⟨V,hV⟩:=gA (w.alloc (.cells #[.int .i64 0,.int .i64 0,.bool false,.int .u32 0,.int .i64 0] 59))
    obtain⟨X,hXX⟩:=gA (w.heap.size)
    have hb0:Below w.heap.size w V:=by rw[<-hV];exact A2 _ _
    have hr:V.rowIs X 59 5 (g5 (.int .i64 0) (.int .i64 0) (.bool false) (.int .u32 0) (.int .i64 0)):=by rw[<-hV,<-hXX];exact CG _ _ _ _ _ _ _
    have HB0:=A3 hb0;have HR:=A3 hr;have HXW:Hid (w.heap.size<=X):=by show _<=_;omega
    obtain⟨x0,x1,x2,x3,x4⟩:=c5 hr;obtain⟨f0,f1,f2,f3,f4⟩:=z5 hr;have y0:V.cell? ⟨g,0,none⟩=some (.string (A6 a)):=by have h9:=kc hb0 (h 0 sM);exact h9
    have q0:V.drew.cell? ⟨g,0,none⟩=some (.string (A6 a)):=y0;have y1:V.cell? ⟨g,1,none⟩=some (.string (A6 m)):=by have h9:=kc hb0 (h 1 sM);exact h9
    have q1:V.drew.cell? ⟨g,1,none⟩=some (.string (A6 m)):=y1;have y2:V.cell? ⟨g,2,none⟩=some (.string (A6 k)):=by have h9:=kc hb0 (h 2 sM);exact h9
    have q2:V.drew.cell? ⟨g,2,none⟩=some (.string (A6 k)):=y2;have i0:(0:Int)<(N:Int):=oM;have j0:0<N:=oM;have i1:(1:Int)<(N:Int):=oM;have j1:1<N:=oM;have i2:(2:Int)<(N:Int):=oM;have j2:2<N:=oM;have eslot:((A6 a).toList==[115,108,111,116])=true:=by rw[ByteArray.toList_eq,n0];rfl
    have dslot:((A6 a).toList != [115,108,111,116])=false:=by rw[bne,eslot];rfl
    have e4:((A6 m).toList==D.toList)=true:=by rw[<-hD,hm];simp
    have e5:((A6 m).toList != D.toList)=false:=by rw[bne,e4];rfl
    have ekeep:((A6 k).toList==[107,101,101,112])=true:=by rw[ByteArray.toList_eq,n2];rfl
    have dkeep:((A6 k).toList != [107,101,101,112])=false:=by rw[bne,ekeep];rfl
    have HWS:Hid (∀x,Below V.heap.size V x->Dg x g 3 (c::r)):=fun x k9 i hi=>by
     have h9:=kc k9 (kc hb0 (h (i+3) (by simp at hi |-;omega)));rw[show 0+(i+3)=3+i by omega]at h9;exact h9
    have HW2:Hid (∀x,Below V.heap.size V x->x.cell? ⟨g,2,none⟩=some (.string (A6 k))):=fun x k9=>kc k9 y2;have HQV:Hid (w.heap.size<=X/\X<V.heap.size):=⟨HXW.out,hr.lt⟩
    have HTY:Hid (∀v cp,Dg v g 3 (c::r)->Calls prog 34 #[.slice (some ⟨g,3,none⟩) (N-3) cp] v fun e w'=>RP (c::r) v e w'):=fun v cp h9=>by
     exact XO
    clear hb0 hr h n0 n1 n2 hm hD HL;go_enter func16,ntmps16;go_upto_region 1 with fail;try rw[hV]
    try rw[hXX]
    clear hV hXX;refine rG (fun v=>v.cell? ⟨g,0,none⟩=some (.string (A6 a))/\v.cell? ⟨g,1,none⟩=some (.string (A6 m))/\v.cell? ⟨g,2,none⟩=some (.string (A6 k))) fun yH=>?_;refine Tf 0 1 2 3 4 5 ?_;refine Tf 6 7 8 9 10 11 ?_;refine Tb 12 13 ?_;clear yH;refine Aw 14 fun K hK=>?_;go_simp;(go_at_call 33;(with_reducible refine(HD.out _).mono ?_);rintro e w1 ⟨rfl,b1⟩;have b2:=bel (A4 V) b1;have HCUR:=A3 b2;have o0:=kc b2 y0;have o1:=kc b2 y1;have o2:=kc b2 y2;clear b1 b2);try(go_wp2_with fail)
    refine AU hK fun yH=>?_;clear hK K;refine Tf 15 16 17 18 19 20 ?_;refine Tb 21 22 ?_;refine Kd 23 24 25 26 ?_;refine Tb 27 28 ?_;refine wpAnyH_done kR ?_ _;have hr1:=HR.out.of_block (HCUR.out.block _ HR.out.lt);clear x0 x1 x2 x3 x4 f0 f1 f2 f3 f4;obtain⟨x0,x1,x2,x3,x4⟩:=c5 hr1;obtain⟨f0,f1,f2,f3,f4⟩:=z5 hr1;clear hr1 yH;clear y0 y1 y2 q0 q1 q2 o0 o1 o2 i0 i1 i2 j0 j1 j2 eslot dslot e4 e5;clear ekeep dkeep;have HW1:=HWS.out w1 HCUR.out;clear x0 x1 x2 x3 x4 f0 f1 f2 f3 f4;have j3:(3:Int)<=(N:Int):=oM;go_upto_region 4 with(go_at_call 34;(with_reducible refine(HTY.out _ _ HW1).mono ?_);rintro e w2 ⟨t,kk,rfl,hk,b2⟩;have HB2:=A3 (bel HCUR.out b2);have HK:=A3 hk;clear b2 hk HW1)
    obtain⟨tk,tp⟩:=t;obtain⟨V2,hV2⟩:∃W,w2.alloc (.cells #[.int .i64 tk,.int .i64 tp] 43)=W:=⟨_,rfl⟩
    obtain⟨Z,hZ⟩:=gA (w2.heap.size)
    have hb3:Below w2.heap.size w2 V2:=by rw[<-hV2];exact A2 _ _
    have hz:V2.rowIs Z 43 2 (g2 (.int .i64 tk) (.int .i64 tp)):=by rw[<-hV2,<-hZ];exact BJ _ _ _ _
    try rw[hV2]
    try rw[hZ]
    have HB3:Hid (Below V.heap.size V V2):=bel HB2.out hb3;have HXZ:Hid (X<Z):=by show _<_;have h1:=HR.lt;have h2:=HB2.size;omega
    have HZ:=A3 hz;have hr3:=HR.of_block (HB3.block _ HR.lt);have HR3:=A3 hr3;have hlen:(c::r).length=N-3:=by have:=HNR.out;simp only[List.length_cons];omega
    clear hb3 hV2 hz hZ;rcases HK.out with⟨rfl,hT⟩|⟨hk0,hkl,hT⟩
    .have HT:Hid (AQ (j:Int) (a::m::k::c::r)=none):=by show _=_;rw[HSL.out,hT];rfl
     clear hT;exact VU
    .have c1:((kk:Int)==0)=false:=by rw[beq_eq_false_iff_ne];omega
     have w9:IntKind.i64.wrap (4+(kk:Int))=4+(kk:Int):=by rw[IntKind.wrap_i64];omega
     by_cases hq:N=4+kk
     .have c3:((N:Int) != 4+(kk:Int))=false:=by rw[bne_eq_false_iff_eq];omega
      obtain⟨x,hx⟩:∃x,(c::r).drop kk=[x]:=by
       have hl1:((c::r).drop kk).length=1:=by rw[List.length_drop];omega
       exact List.length_eq_one_iff.1 hl1
      have hxm:x∈c::r:=List.mem_of_mem_drop (i:=kk) (by rw[hx];simp);have hxk:∃hh:kk<(c::r).length,(c::r)[kk]=x:=by
       exact Yb
      have HXS:Hid (x.length<=100000000):=HS.out x (List.mem_cons_of_mem _ (List.mem_cons_of_mem _ (List.mem_cons_of_mem _ hxm)));obtain⟨K3,hK3⟩:=gA (kk+3)
      have w8:IntKind.i64.wrap (3+(kk:Int))=(K3:Int):=by rw[IntKind.wrap_i64];omega
      have a0:(0:Int)<=(K3:Int):=oM;have a1:(K3:Int)<(N:Int):=oM;have HWX:Hid (∀y,Below V.heap.size V y->y.cell? ⟨g,K3,none⟩=some (.string (A6 x))):=fun y k9=>by
       obtain⟨hl2,h8⟩:=hxk;have h9:=HWS.out y k9 kk hl2;rw[h8]at h9;rw[show 3+kk=K3 by omega]at h9;exact h9
      have HRS:Hid (AQ (j:Int) (a::m::k::c::r)=if tk=2 then(Af x).bind fun i=>some ⟨⟨tk,tp⟩,true,0,i⟩else(BI x).bind fun b=>some ⟨⟨tk,tp⟩,true,b,0⟩):=by
       exact XW
      clear hT hx hxm hxk hq hK3;have hy2:=(HW2.out V2 HB3.out)
      have hy2d:V2.drew.cell? ⟨g,2,none⟩=some (.string (A6 k)):=hy2;have hzd:V2.drew.rowIs Z 43 2 (g2 (.int .i64 tk) (.int .i64 tp)):=HZ.of_block (w':=V2.drew) rfl;obtain⟨t0,t1⟩:=c2 HZ.out;obtain⟨td0,td1⟩:=c2 hzd;have HUZ:=HZ.alloc (.cells #[.int .i64 0,.int .i64 0,.bool false,.int .u32 0,.int .i64 0] 59);obtain⟨tu0,tu1⟩:=c2 HUZ;obtain⟨tv0,tv1⟩:=c2 HUZ.drew;have yu:=kc (A2 V2 (.cells #[.int .i64 0,.int .i64 0,.bool false,.int .u32 0,.int .i64 0] 59)) hy2;have yv:=kc (A4 (V2.alloc (.cells #[.int .i64 0,.int .i64 0,.bool false,.int .u32 0,.int .i64 0] 59))) yu;have i2:(2:Int)<(N:Int):=oM;have ekp:((A6 k).toList==[107,101,101,112])=true:=HEK.out;go_upto_region 6 with fail;refine rG (fun v=>v.cell? ⟨g,2,none⟩=some (.string (A6 k))/\v.cell? ⟨Z,0,none⟩=some (.int .i64 tk)/\v.cell? ⟨Z,1,none⟩=some (.int .i64 tp)) fun yH=>?_;refine Tf 0 1 2 3 4 5 ?_;clear yH;refine Aw 6 fun K hK=>?_;go_simp;refine AU hK fun yH=>?_;clear hK K;clear yH;refine Aw 7 fun K hK=>?_;go_simp;refine AU hK fun yH=>?_;clear hK K;refine wpAnyH_done kR ?_ _;obtain⟨V4,hV4⟩:∃W,(V2.alloc (.cells #[.int .i64 tk,.int .i64 tp,.bool true,.int .u32 0,.int .i64 0] 59)).drew=W:=⟨_,rfl⟩
      obtain⟨Q,hQ⟩:=gA (V2.heap.size)
      have hb4:Below V2.heap.size V2 V4:=by rw[<-hV4];exact bel (A2 V2 _) (A4 _)
      have hs:V4.rowIs Q 59 5 (g5 (.int .i64 tk) (.int .i64 tp) (.bool true) (.int .u32 0) (.int .i64 0)):=by rw[<-hV4,<-hQ];exact(CG _ _ _ _ _ _ _).drew
      have HXQ:Hid (X<Q/\Z<Q/\w.heap.size<=Q):=by show _/\_/\_;have h1:=HZ.lt;have h2:=HXZ.out;have h3:=HXW.out;omega
      have HQB:=A3 hQ.symm;try rw[hV4]
      try rw[hQ]
      have HB4:Hid (Below V.heap.size V V4):=HB3.trans (hb4.mono HB3.size);have HS4:=A3 hs;have hr4:=HR3.of_block (hb4.block _ HR3.lt);have HR4:=A3 hr4;have hz4:=HZ.of_block (hb4.block _ HZ.lt);clear hb4 hV4 hQ hs t0 t1 hy2 hy2d hzd yH ekp td0 td1 tu0 tu1 tv0 tv1 yu yv HUZ;obtain⟨t0,t1⟩:=c2 hz4;clear hr4 hz4;have y9:=HWX.out V4 HB4.out;by_cases h2:tk=2
      .have ek:(tk==2)=true:=by rw[h2];rfl
       have HN:Hid (∀v,Calls prog 31 #[.string (A6 x)] v fun e w'=>KQ (A6 x) v e w'):=fun v=>Ct _ (by rw[BQ];have:=HXS.out;omega) v;have HH2:=A3 h2;clear h2;go_upto_region 9 with(go_at_call 31;(with_reducible refine(HN.out _).mono ?_);rintro e w5 ⟨n,b,rfl,m1,m2,b5⟩;have HM:=A3 (And.intro m1 m2);have HC5:=A3 b5;clear m1 m2 b5)
       have hs5:=HS4.of_block (HC5.block _ HS4.lt);have hr5:=HR4.of_block (HC5.block _ HR4.lt);have HS5:=A3 hs5;have HR5:=A3 hr5;have HB5:Hid (Below V.heap.size V w5):=HB4.trans (HC5.mono HB4.size);obtain⟨s0,s1,s2,s3,s4⟩:=c5 hs5;obtain⟨z0,z1,z2,z3,z4⟩:=z5 hs5;clear hs5 hr5 t0 t1 y9 a0 a1 w8;go_upto_region 10 with fail;obtain⟨V6,hV6⟩:∃W,w5.setCell ⟨Q,4,none⟩ (.int .i64 n)=W:=⟨_,rfl⟩
       have hq:=LG HS5.out (.int .i64 n);rw[hV6]at hq;try rw[hV6]
       have HB6:Hid (Below w.heap.size w V6):=bel HB0.out (HB5.trans (hq.2.bel _ Wp));have hr6:=hq.2.row HR5.out Ws;clear s0 s1 s2 s3 s4 z0 z1 z2 z3 z4 hV6;obtain⟨s0,s1,s2,s3,s4⟩:=c5 hq.1;obtain⟨x0,x1,x2,x3,x4⟩:=c5 hr6;obtain⟨f0,f1,f2,f3,f4⟩:=z5 hr6;clear hq hr6;go_wp2;refine bodyPost_ret Wl rfl ?_;cases b with
       |true=>
        have h9:=HM.1 rfl;rw[show bs (A6 x)=x from AZ x]at h9;exact⟨⟨⟨tk,tp⟩,true,0,n⟩,true,rfl,fun _=>by rw[HRS.out,if_pos HH2.out,h9];rfl,fun h=>absurd h dE,(((((HB6.out).setCell HXW.out _).setCell HXW.out _).setCell HXW.out _).setCell HXW.out _).setCell HXW.out _⟩
       |false=>
        have h9:=HM.2 rfl;rw[show bs (A6 x)=x from AZ x]at h9;exact⟨⟨⟨tk,tp⟩,true,0,n⟩,false,rfl,fun h=>absurd h dE,fun _=>by rw[HRS.out,if_pos HH2.out,h9];rfl,(((((HB6.out).setCell HXW.out _).setCell HXW.out _).setCell HXW.out _).setCell HXW.out _).setCell HXW.out _⟩
      .have ek:(tk==2)=false:=by rw[beq_eq_false_iff_ne];exact h2
       have HRD:Hid (∀v,Calls prog 35 #[.string (A6 x)] v fun e w'=>e=.returned (.tuple #[.int .i64 (Ka (A6 x).data.toList),.bool (B8 (A6 x).data.toList)])/\Below v.heap.size v w'):=fun v=>FY _ (by rw[BQ];have:=HXS.out;unfold maxLen;omega) v;obtain⟨rv,hrv⟩:=gA (Ka (A6 x).data.toList)
       obtain⟨rb,hrb⟩:=gA (B8 (A6 x).data.toList)
       have hr0:=Je (A6 x).data.toList;have HHX:Hid (BI x=if rb=true then some rv else none):=by
        show _=_;rw[<-hrv,<-hrb];rfl
       rw[hrv]at hr0;rw[hrv,hrb]at HRD;have w32:IntKind.u32.wrap rv=rv:=by rw[IntKind.wrap_u32];omega
       have HH2:=A3 h2;clear h2 hrv hrb;go_upto_region 12 with(go_at_call 35;(with_reducible refine(HRD.out _).mono ?_);rintro e w5 ⟨rfl,b5⟩;have HC5:=A3 b5;clear b5)
       have hs5:=HS4.of_block (HC5.block _ HS4.lt);have hr5:=HR4.of_block (HC5.block _ HR4.lt);have HS5:=A3 hs5;have HR5:=A3 hr5;have HB5:Hid (Below V.heap.size V w5):=HB4.trans (HC5.mono HB4.size);obtain⟨s0,s1,s2,s3,s4⟩:=c5 hs5;obtain⟨z0,z1,z2,z3,z4⟩:=z5 hs5;clear hs5 hr5 t0 t1 y9 a0 a1 w8;go_upto_region 13 with fail;obtain⟨V6,hV6⟩:∃W,w5.setCell ⟨Q,3,none⟩ (.int .u32 rv)=W:=⟨_,rfl⟩
       have hq:=LF HS5.out (.int .u32 rv);rw[hV6]at hq;try rw[hV6]
       have HB6:Hid (Below w.heap.size w V6):=bel HB0.out (HB5.trans (hq.2.bel _ Wp));have hr6:=hq.2.row HR5.out Ws;clear s0 s1 s2 s3 s4 z0 z1 z2 z3 z4 hV6;obtain⟨s0,s1,s2,s3,s4⟩:=c5 hq.1;obtain⟨x0,x1,x2,x3,x4⟩:=c5 hr6;obtain⟨f0,f1,f2,f3,f4⟩:=z5 hr6;clear hq hr6;go_wp2;refine bodyPost_ret Wl rfl ?_;cases rb with
       |true=>exact⟨⟨⟨tk,tp⟩,true,rv,0⟩,true,rfl,fun _=>by rw[HRS.out,if_neg HH2.out,HHX.out];rfl,fun h=>absurd h dE,(((((HB6.out).setCell HXW.out _).setCell HXW.out _).setCell HXW.out _).setCell HXW.out _).setCell HXW.out _⟩
       |false=>exact⟨⟨⟨tk,tp⟩,true,rv,0⟩,false,rfl,fun h=>absurd h dE,fun _=>by rw[HRS.out,if_neg HH2.out,HHX.out];rfl,(((((HB6.out).setCell HXW.out _).setCell HXW.out _).setCell HXW.out _).setCell HXW.out _).setCell HXW.out _⟩
     .have c3:((N:Int) != 4+(kk:Int))=true:=by rw[bne_iff_ne];omega
      have HT:Hid (AQ (j:Int) (a::m::k::c::r)=none):=by
       exact XQ
      clear hT hq;exact VU
   .by_cases n2':k=Av
    .have n2:=n2';clear n2';have HKB:Hid (decide (k=At)=false):=by show _=_;rw[n2];rfl
     have HEK:Hid (((A6 k).toList==[107,101,101,112])=false):=by show _=_;rw[ByteArray.toList_eq,n2];rfl
     have HSL:Hid (AQ (j:Int) (a::m::k::c::r)=(AY (c::r)).bind (EL k)):=by show _=_;rw[HL.out,if_pos ⟨n0,n1,.inr n2⟩]
     have hm:m=Ao (j:Int):=(Cv.1 n1).2;obtain⟨V,hV⟩:=gA (w.alloc (.cells #[.int .i64 0,.int .i64 0,.bool false,.int .u32 0,.int .i64 0] 59))
     obtain⟨X,hXX⟩:=gA (w.heap.size)
     have hb0:Below w.heap.size w V:=by rw[<-hV];exact A2 _ _
     have hr:V.rowIs X 59 5 (g5 (.int .i64 0) (.int .i64 0) (.bool false) (.int .u32 0) (.int .i64 0)):=by rw[<-hV,<-hXX];exact CG _ _ _ _ _ _ _
     have HB0:=A3 hb0;have HR:=A3 hr;have HXW:Hid (w.heap.size<=X):=by show _<=_;omega
     obtain⟨x0,x1,x2,x3,x4⟩:=c5 hr;obtain⟨f0,f1,f2,f3,f4⟩:=z5 hr;have y0:V.cell? ⟨g,0,none⟩=some (.string (A6 a)):=by have h9:=kc hb0 (h 0 sM);exact h9
     have q0:V.drew.cell? ⟨g,0,none⟩=some (.string (A6 a)):=y0;have y1:V.cell? ⟨g,1,none⟩=some (.string (A6 m)):=by have h9:=kc hb0 (h 1 sM);exact h9
     have q1:V.drew.cell? ⟨g,1,none⟩=some (.string (A6 m)):=y1;have y2:V.cell? ⟨g,2,none⟩=some (.string (A6 k)):=by have h9:=kc hb0 (h 2 sM);exact h9
     have q2:V.drew.cell? ⟨g,2,none⟩=some (.string (A6 k)):=y2;have i0:(0:Int)<(N:Int):=oM;have j0:0<N:=oM;have i1:(1:Int)<(N:Int):=oM;have j1:1<N:=oM;have i2:(2:Int)<(N:Int):=oM;have j2:2<N:=oM;have eslot:((A6 a).toList==[115,108,111,116])=true:=by rw[ByteArray.toList_eq,n0];rfl
     have dslot:((A6 a).toList != [115,108,111,116])=false:=by rw[bne,eslot];rfl
     have e4:((A6 m).toList==D.toList)=true:=by rw[<-hD,hm];simp
     have e5:((A6 m).toList != D.toList)=false:=by rw[bne,e4];rfl
     have ekeep:((A6 k).toList==[107,101,101,112])=false:=by rw[ByteArray.toList_eq,beq_eq_false_iff_ne];intro h;exact(fun e=>absurd (show Av=At from n2.symm.trans e) dE) U4
     have dkeep:((A6 k).toList != [107,101,101,112])=true:=by rw[bne,ekeep];rfl
     have elocal:((A6 k).toList==[108,111,99,97,108])=true:=by rw[ByteArray.toList_eq,n2];rfl
     have dlocal:((A6 k).toList != [108,111,99,97,108])=false:=by rw[bne,elocal];rfl
     have HWS:Hid (∀x,Below V.heap.size V x->Dg x g 3 (c::r)):=fun x k9 i hi=>by
      have h9:=kc k9 (kc hb0 (h (i+3) (by simp at hi |-;omega)));rw[show 0+(i+3)=3+i by omega]at h9;exact h9
     have HW2:Hid (∀x,Below V.heap.size V x->x.cell? ⟨g,2,none⟩=some (.string (A6 k))):=fun x k9=>kc k9 y2;have HQV:Hid (w.heap.size<=X/\X<V.heap.size):=⟨HXW.out,hr.lt⟩
     have HTY:Hid (∀v cp,Dg v g 3 (c::r)->Calls prog 34 #[.slice (some ⟨g,3,none⟩) (N-3) cp] v fun e w'=>RP (c::r) v e w'):=fun v cp h9=>by
      exact XO
     clear hb0 hr h n0 n1 n2 hm hD HL;go_enter func16,ntmps16;go_upto_region 1 with fail;try rw[hV]
     try rw[hXX]
     clear hV hXX;refine rG (fun v=>v.cell? ⟨g,0,none⟩=some (.string (A6 a))/\v.cell? ⟨g,1,none⟩=some (.string (A6 m))/\v.cell? ⟨g,2,none⟩=some (.string (A6 k))) fun yH=>?_;refine Tf 0 1 2 3 4 5 ?_;refine Tf 6 7 8 9 10 11 ?_;refine Tb 12 13 ?_;clear yH;refine Aw 14 fun K hK=>?_;go_simp;(go_at_call 33;(with_reducible refine(HD.out _).mono ?_);rintro e w1 ⟨rfl,b1⟩;have b2:=bel (A4 V) b1;have HCUR:=A3 b2;have o0:=kc b2 y0;have o1:=kc b2 y1;have o2:=kc b2 y2;clear b1 b2);try(go_wp2_with fail)
     refine AU hK fun yH=>?_;clear hK K;refine Tf 15 16 17 18 19 20 ?_;refine Tf 21 22 23 24 25 26 ?_;refine Tb 27 28 ?_;refine wpAnyH_done kR ?_ _;have hr1:=HR.out.of_block (HCUR.out.block _ HR.out.lt);clear x0 x1 x2 x3 x4 f0 f1 f2 f3 f4;obtain⟨x0,x1,x2,x3,x4⟩:=c5 hr1;obtain⟨f0,f1,f2,f3,f4⟩:=z5 hr1;clear hr1 yH;clear y0 y1 y2 q0 q1 q2 o0 o1 o2 i0 i1 i2 j0 j1 j2 eslot dslot e4 e5;clear ekeep dkeep;clear elocal dlocal;have HW1:=HWS.out w1 HCUR.out;clear x0 x1 x2 x3 x4 f0 f1 f2 f3 f4;have j3:(3:Int)<=(N:Int):=oM;go_upto_region 4 with(go_at_call 34;(with_reducible refine(HTY.out _ _ HW1).mono ?_);rintro e w2 ⟨t,kk,rfl,hk,b2⟩;have HB2:=A3 (bel HCUR.out b2);have HK:=A3 hk;clear b2 hk HW1)
     obtain⟨tk,tp⟩:=t;obtain⟨V2,hV2⟩:∃W,w2.alloc (.cells #[.int .i64 tk,.int .i64 tp] 43)=W:=⟨_,rfl⟩
     obtain⟨Z,hZ⟩:=gA (w2.heap.size)
     have hb3:Below w2.heap.size w2 V2:=by rw[<-hV2];exact A2 _ _
     have hz:V2.rowIs Z 43 2 (g2 (.int .i64 tk) (.int .i64 tp)):=by rw[<-hV2,<-hZ];exact BJ _ _ _ _
     try rw[hV2]
     try rw[hZ]
     have HB3:Hid (Below V.heap.size V V2):=bel HB2.out hb3;have HXZ:Hid (X<Z):=by show _<_;have h1:=HR.lt;have h2:=HB2.size;omega
     have HZ:=A3 hz;have hr3:=HR.of_block (HB3.block _ HR.lt);have HR3:=A3 hr3;have hlen:(c::r).length=N-3:=by have:=HNR.out;simp only[List.length_cons];omega
     clear hb3 hV2 hz hZ;rcases HK.out with⟨rfl,hT⟩|⟨hk0,hkl,hT⟩
     .have HT:Hid (AQ (j:Int) (a::m::k::c::r)=none):=by show _=_;rw[HSL.out,hT];rfl
      clear hT;exact VU
     .have c1:((kk:Int)==0)=false:=by rw[beq_eq_false_iff_ne];omega
      have w9:IntKind.i64.wrap (4+(kk:Int))=4+(kk:Int):=by rw[IntKind.wrap_i64];omega
      by_cases hq:N=4+kk
      .have c3:((N:Int) != 4+(kk:Int))=false:=by rw[bne_eq_false_iff_eq];omega
       obtain⟨x,hx⟩:∃x,(c::r).drop kk=[x]:=by
        have hl1:((c::r).drop kk).length=1:=by rw[List.length_drop];omega
        exact List.length_eq_one_iff.1 hl1
       have hxm:x∈c::r:=List.mem_of_mem_drop (i:=kk) (by rw[hx];simp);have hxk:∃hh:kk<(c::r).length,(c::r)[kk]=x:=by
        exact Yb
       have HXS:Hid (x.length<=100000000):=HS.out x (List.mem_cons_of_mem _ (List.mem_cons_of_mem _ (List.mem_cons_of_mem _ hxm)));obtain⟨K3,hK3⟩:=gA (kk+3)
       have w8:IntKind.i64.wrap (3+(kk:Int))=(K3:Int):=by rw[IntKind.wrap_i64];omega
       have a0:(0:Int)<=(K3:Int):=oM;have a1:(K3:Int)<(N:Int):=oM;have HWX:Hid (∀y,Below V.heap.size V y->y.cell? ⟨g,K3,none⟩=some (.string (A6 x))):=fun y k9=>by
        obtain⟨hl2,h8⟩:=hxk;have h9:=HWS.out y k9 kk hl2;rw[h8]at h9;rw[show 3+kk=K3 by omega]at h9;exact h9
       have HRS:Hid (AQ (j:Int) (a::m::k::c::r)=if tk=2 then(Af x).bind fun i=>some ⟨⟨tk,tp⟩,false,0,i⟩else(BI x).bind fun b=>some ⟨⟨tk,tp⟩,false,b,0⟩):=by
        exact XW
       clear hT hx hxm hxk hq hK3;have hy2:=(HW2.out V2 HB3.out)
       have hy2d:V2.drew.cell? ⟨g,2,none⟩=some (.string (A6 k)):=hy2;have hzd:V2.drew.rowIs Z 43 2 (g2 (.int .i64 tk) (.int .i64 tp)):=HZ.of_block (w':=V2.drew) rfl;obtain⟨t0,t1⟩:=c2 HZ.out;obtain⟨td0,td1⟩:=c2 hzd;have HUZ:=HZ.alloc (.cells #[.int .i64 0,.int .i64 0,.bool false,.int .u32 0,.int .i64 0] 59);obtain⟨tu0,tu1⟩:=c2 HUZ;obtain⟨tv0,tv1⟩:=c2 HUZ.drew;have yu:=kc (A2 V2 (.cells #[.int .i64 0,.int .i64 0,.bool false,.int .u32 0,.int .i64 0] 59)) hy2;have yv:=kc (A4 (V2.alloc (.cells #[.int .i64 0,.int .i64 0,.bool false,.int .u32 0,.int .i64 0] 59))) yu;have i2:(2:Int)<(N:Int):=oM;have ekp:((A6 k).toList==[107,101,101,112])=false:=HEK.out;go_upto_region 6 with fail;refine rG (fun v=>v.cell? ⟨g,2,none⟩=some (.string (A6 k))/\v.cell? ⟨Z,0,none⟩=some (.int .i64 tk)/\v.cell? ⟨Z,1,none⟩=some (.int .i64 tp)) fun yH=>?_;refine Tf 0 1 2 3 4 5 ?_;clear yH;refine Aw 6 fun K hK=>?_;go_simp;refine AU hK fun yH=>?_;clear hK K;clear yH;refine Aw 7 fun K hK=>?_;go_simp;refine AU hK fun yH=>?_;clear hK K;refine wpAnyH_done kR ?_ _;obtain⟨V4,hV4⟩:∃W,(V2.alloc (.cells #[.int .i64 tk,.int .i64 tp,.bool false,.int .u32 0,.int .i64 0] 59)).drew=W:=⟨_,rfl⟩
       obtain⟨Q,hQ⟩:=gA (V2.heap.size)
       have hb4:Below V2.heap.size V2 V4:=by rw[<-hV4];exact bel (A2 V2 _) (A4 _)
       have hs:V4.rowIs Q 59 5 (g5 (.int .i64 tk) (.int .i64 tp) (.bool false) (.int .u32 0) (.int .i64 0)):=by rw[<-hV4,<-hQ];exact(CG _ _ _ _ _ _ _).drew
       have HXQ:Hid (X<Q/\Z<Q/\w.heap.size<=Q):=by show _/\_/\_;have h1:=HZ.lt;have h2:=HXZ.out;have h3:=HXW.out;omega
       have HQB:=A3 hQ.symm;try rw[hV4]
       try rw[hQ]
       have HB4:Hid (Below V.heap.size V V4):=HB3.trans (hb4.mono HB3.size);have HS4:=A3 hs;have hr4:=HR3.of_block (hb4.block _ HR3.lt);have HR4:=A3 hr4;have hz4:=HZ.of_block (hb4.block _ HZ.lt);clear hb4 hV4 hQ hs t0 t1 hy2 hy2d hzd yH ekp td0 td1 tu0 tu1 tv0 tv1 yu yv HUZ;obtain⟨t0,t1⟩:=c2 hz4;clear hr4 hz4;have y9:=HWX.out V4 HB4.out;by_cases h2:tk=2
       .have ek:(tk==2)=true:=by rw[h2];rfl
        have HN:Hid (∀v,Calls prog 31 #[.string (A6 x)] v fun e w'=>KQ (A6 x) v e w'):=fun v=>Ct _ (by rw[BQ];have:=HXS.out;omega) v;have HH2:=A3 h2;clear h2;go_upto_region 9 with(go_at_call 31;(with_reducible refine(HN.out _).mono ?_);rintro e w5 ⟨n,b,rfl,m1,m2,b5⟩;have HM:=A3 (And.intro m1 m2);have HC5:=A3 b5;clear m1 m2 b5)
        have hs5:=HS4.of_block (HC5.block _ HS4.lt);have hr5:=HR4.of_block (HC5.block _ HR4.lt);have HS5:=A3 hs5;have HR5:=A3 hr5;have HB5:Hid (Below V.heap.size V w5):=HB4.trans (HC5.mono HB4.size);obtain⟨s0,s1,s2,s3,s4⟩:=c5 hs5;obtain⟨z0,z1,z2,z3,z4⟩:=z5 hs5;clear hs5 hr5 t0 t1 y9 a0 a1 w8;go_upto_region 10 with fail;obtain⟨V6,hV6⟩:∃W,w5.setCell ⟨Q,4,none⟩ (.int .i64 n)=W:=⟨_,rfl⟩
        have hq:=LG HS5.out (.int .i64 n);rw[hV6]at hq;try rw[hV6]
        have HB6:Hid (Below w.heap.size w V6):=bel HB0.out (HB5.trans (hq.2.bel _ Wp));have hr6:=hq.2.row HR5.out Ws;clear s0 s1 s2 s3 s4 z0 z1 z2 z3 z4 hV6;obtain⟨s0,s1,s2,s3,s4⟩:=c5 hq.1;obtain⟨x0,x1,x2,x3,x4⟩:=c5 hr6;obtain⟨f0,f1,f2,f3,f4⟩:=z5 hr6;clear hq hr6;go_wp2;refine bodyPost_ret Wl rfl ?_;cases b with
        |true=>
         have h9:=HM.1 rfl;rw[show bs (A6 x)=x from AZ x]at h9;exact⟨⟨⟨tk,tp⟩,false,0,n⟩,true,rfl,fun _=>by rw[HRS.out,if_pos HH2.out,h9];rfl,fun h=>absurd h dE,(((((HB6.out).setCell HXW.out _).setCell HXW.out _).setCell HXW.out _).setCell HXW.out _).setCell HXW.out _⟩
        |false=>
         have h9:=HM.2 rfl;rw[show bs (A6 x)=x from AZ x]at h9;exact⟨⟨⟨tk,tp⟩,false,0,n⟩,false,rfl,fun h=>absurd h dE,fun _=>by rw[HRS.out,if_pos HH2.out,h9];rfl,(((((HB6.out).setCell HXW.out _).setCell HXW.out _).setCell HXW.out _).setCell HXW.out _).setCell HXW.out _⟩
       .have ek:(tk==2)=false:=by rw[beq_eq_false_iff_ne];exact h2
        have HRD:Hid (∀v,Calls prog 35 #[.string (A6 x)] v fun e w'=>e=.returned (.tuple #[.int .i64 (Ka (A6 x).data.toList),.bool (B8 (A6 x).data.toList)])/\Below v.heap.size v w'):=fun v=>FY _ (by rw[BQ];have:=HXS.out;unfold maxLen;omega) v;obtain⟨rv,hrv⟩:=gA (Ka (A6 x).data.toList)
        obtain⟨rb,hrb⟩:=gA (B8 (A6 x).data.toList)
        have hr0:=Je (A6 x).data.toList;have HHX:Hid (BI x=if rb=true then some rv else none):=by
         show _=_;rw[<-hrv,<-hrb];rfl
        rw[hrv]at hr0;rw[hrv,hrb]at HRD;have w32:IntKind.u32.wrap rv=rv:=by rw[IntKind.wrap_u32];omega
        have HH2:=A3 h2;clear h2 hrv hrb;go_upto_region 12 with(go_at_call 35;(with_reducible refine(HRD.out _).mono ?_);rintro e w5 ⟨rfl,b5⟩;have HC5:=A3 b5;clear b5)
        have hs5:=HS4.of_block (HC5.block _ HS4.lt);have hr5:=HR4.of_block (HC5.block _ HR4.lt);have HS5:=A3 hs5;have HR5:=A3 hr5;have HB5:Hid (Below V.heap.size V w5):=HB4.trans (HC5.mono HB4.size);obtain⟨s0,s1,s2,s3,s4⟩:=c5 hs5;obtain⟨z0,z1,z2,z3,z4⟩:=z5 hs5;clear hs5 hr5 t0 t1 y9 a0 a1 w8;go_upto_region 13 with fail;obtain⟨V6,hV6⟩:∃W,w5.setCell ⟨Q,3,none⟩ (.int .u32 rv)=W:=⟨_,rfl⟩
        have hq:=LF HS5.out (.int .u32 rv);rw[hV6]at hq;try rw[hV6]
        have HB6:Hid (Below w.heap.size w V6):=bel HB0.out (HB5.trans (hq.2.bel _ Wp));have hr6:=hq.2.row HR5.out Ws;clear s0 s1 s2 s3 s4 z0 z1 z2 z3 z4 hV6;obtain⟨s0,s1,s2,s3,s4⟩:=c5 hq.1;obtain⟨x0,x1,x2,x3,x4⟩:=c5 hr6;obtain⟨f0,f1,f2,f3,f4⟩:=z5 hr6;clear hq hr6;go_wp2;refine bodyPost_ret Wl rfl ?_;cases rb with
        |true=>exact⟨⟨⟨tk,tp⟩,false,rv,0⟩,true,rfl,fun _=>by rw[HRS.out,if_neg HH2.out,HHX.out];rfl,fun h=>absurd h dE,(((((HB6.out).setCell HXW.out _).setCell HXW.out _).setCell HXW.out _).setCell HXW.out _).setCell HXW.out _⟩
        |false=>exact⟨⟨⟨tk,tp⟩,false,rv,0⟩,false,rfl,fun h=>absurd h dE,fun _=>by rw[HRS.out,if_neg HH2.out,HHX.out];rfl,(((((HB6.out).setCell HXW.out _).setCell HXW.out _).setCell HXW.out _).setCell HXW.out _).setCell HXW.out _⟩
      .have c3:((N:Int) != 4+(kk:Int))=true:=by rw[bne_iff_ne];omega
       have HT:Hid (AQ (j:Int) (a::m::k::c::r)=none):=by
        exact XQ
       clear hT hq;exact VU
    .have HT:Hid (AQ (j:Int) (a::m::k::c::r)=none):=by show _=_;rw[HL.out,if_neg (fun q=>q.2.2.elim n2 n2')]
     have hm:m=Ao (j:Int):=(Cv.1 n1).2;obtain⟨V,hV⟩:=gA (w.alloc (.cells #[.int .i64 0,.int .i64 0,.bool false,.int .u32 0,.int .i64 0] 59))
     obtain⟨X,hXX⟩:=gA (w.heap.size)
     have hb0:Below w.heap.size w V:=by rw[<-hV];exact A2 _ _
     have hr:V.rowIs X 59 5 (g5 (.int .i64 0) (.int .i64 0) (.bool false) (.int .u32 0) (.int .i64 0)):=by rw[<-hV,<-hXX];exact CG _ _ _ _ _ _ _
     have HB0:=A3 hb0;have HR:=A3 hr;have HXW:Hid (w.heap.size<=X):=by show _<=_;omega
     obtain⟨x0,x1,x2,x3,x4⟩:=c5 hr;obtain⟨f0,f1,f2,f3,f4⟩:=z5 hr;have y0:V.cell? ⟨g,0,none⟩=some (.string (A6 a)):=by have h9:=kc hb0 (h 0 sM);exact h9
     have q0:V.drew.cell? ⟨g,0,none⟩=some (.string (A6 a)):=y0;have y1:V.cell? ⟨g,1,none⟩=some (.string (A6 m)):=by have h9:=kc hb0 (h 1 sM);exact h9
     have q1:V.drew.cell? ⟨g,1,none⟩=some (.string (A6 m)):=y1;have y2:V.cell? ⟨g,2,none⟩=some (.string (A6 k)):=by have h9:=kc hb0 (h 2 sM);exact h9
     have q2:V.drew.cell? ⟨g,2,none⟩=some (.string (A6 k)):=y2;have i0:(0:Int)<(N:Int):=oM;have j0:0<N:=oM;have i1:(1:Int)<(N:Int):=oM;have j1:1<N:=oM;have i2:(2:Int)<(N:Int):=oM;have j2:2<N:=oM;have eslot:((A6 a).toList==[115,108,111,116])=true:=by rw[ByteArray.toList_eq,n0];rfl
     have dslot:((A6 a).toList != [115,108,111,116])=false:=by rw[bne,eslot];rfl
     have e4:((A6 m).toList==D.toList)=true:=by rw[<-hD,hm];simp
     have e5:((A6 m).toList != D.toList)=false:=by rw[bne,e4];rfl
     have ekeep:((A6 k).toList==[107,101,101,112])=false:=by rw[ByteArray.toList_eq,beq_eq_false_iff_ne];intro h;exact n2 U4
     have dkeep:((A6 k).toList != [107,101,101,112])=true:=by rw[bne,ekeep];rfl
     have elocal:((A6 k).toList==[108,111,99,97,108])=false:=by rw[ByteArray.toList_eq,beq_eq_false_iff_ne];intro h;exact n2' U4
     have dlocal:((A6 k).toList != [108,111,99,97,108])=true:=by rw[bne,elocal];rfl
     clear n0 n1 n2 n2' hm hD HL;clear hb0 hr h;go_enter func16,ntmps16;go_upto_region 1 with fail;try rw[hV]
     try rw[hXX]
     clear hV hXX;refine rG (fun v=>v.cell? ⟨g,0,none⟩=some (.string (A6 a))/\v.cell? ⟨g,1,none⟩=some (.string (A6 m))/\v.cell? ⟨g,2,none⟩=some (.string (A6 k))) fun yH=>?_;refine Tf 0 1 2 3 4 5 ?_;refine Tf 6 7 8 9 10 11 ?_;refine Tb 12 13 ?_;clear yH;refine Aw 14 fun K hK=>?_;go_simp;(go_at_call 33;(with_reducible refine(HD.out _).mono ?_);rintro e w1 ⟨rfl,b1⟩;have b2:=bel (A4 V) b1;have HCUR:=A3 b2;have o0:=kc b2 y0;have o1:=kc b2 y1;have o2:=kc b2 y2;clear b1 b2);try(go_wp2_with fail)
     refine AU hK fun yH=>?_;clear hK K;refine Tf 15 16 17 18 19 20 ?_;refine Tf 21 22 23 24 25 26 ?_;refine Tb 27 28 ?_;exact XG
  .have HT:Hid (AQ (j:Int) (a::m::k::c::r)=none):=by show _=_;rw[HL.out,if_neg (fun q=>n1 q.2.1)]
   obtain⟨V,hV⟩:=gA (w.alloc (.cells #[.int .i64 0,.int .i64 0,.bool false,.int .u32 0,.int .i64 0] 59))
   obtain⟨X,hXX⟩:=gA (w.heap.size)
   have hb0:Below w.heap.size w V:=by rw[<-hV];exact A2 _ _
   have hr:V.rowIs X 59 5 (g5 (.int .i64 0) (.int .i64 0) (.bool false) (.int .u32 0) (.int .i64 0)):=by rw[<-hV,<-hXX];exact CG _ _ _ _ _ _ _
   have HB0:=A3 hb0;have HR:=A3 hr;have HXW:Hid (w.heap.size<=X):=by show _<=_;omega
   obtain⟨x0,x1,x2,x3,x4⟩:=c5 hr;obtain⟨f0,f1,f2,f3,f4⟩:=z5 hr;have y0:V.cell? ⟨g,0,none⟩=some (.string (A6 a)):=by have h9:=kc hb0 (h 0 sM);exact h9
   have q0:V.drew.cell? ⟨g,0,none⟩=some (.string (A6 a)):=y0;have y1:V.cell? ⟨g,1,none⟩=some (.string (A6 m)):=by have h9:=kc hb0 (h 1 sM);exact h9
   have q1:V.drew.cell? ⟨g,1,none⟩=some (.string (A6 m)):=y1;have y2:V.cell? ⟨g,2,none⟩=some (.string (A6 k)):=by have h9:=kc hb0 (h 2 sM);exact h9
   have q2:V.drew.cell? ⟨g,2,none⟩=some (.string (A6 k)):=y2;have i0:(0:Int)<(N:Int):=oM;have j0:0<N:=oM;have i1:(1:Int)<(N:Int):=oM;have j1:1<N:=oM;have i2:(2:Int)<(N:Int):=oM;have j2:2<N:=oM;have eslot:((A6 a).toList==[115,108,111,116])=true:=by rw[ByteArray.toList_eq,n0];rfl
   have dslot:((A6 a).toList != [115,108,111,116])=false:=by rw[bne,eslot];rfl
   have e4:((A6 m).toList==D.toList)=false:=by
    exact Ya
   have e5:((A6 m).toList != D.toList)=true:=by rw[bne,e4];rfl
   clear n0 n1 hD HL;clear hb0 hr h;go_enter func16,ntmps16;go_upto_region 1 with fail;try rw[hV]
   try rw[hXX]
   clear hV hXX;refine rG (fun v=>v.cell? ⟨g,0,none⟩=some (.string (A6 a))/\v.cell? ⟨g,1,none⟩=some (.string (A6 m))/\v.cell? ⟨g,2,none⟩=some (.string (A6 k))) fun yH=>?_;refine Tf 0 1 2 3 4 5 ?_;refine Tf 6 7 8 9 10 11 ?_;refine Tb 12 13 ?_;clear yH;refine Aw 14 fun K hK=>?_;go_simp;(go_at_call 33;(with_reducible refine(HD.out _).mono ?_);rintro e w1 ⟨rfl,b1⟩;have b2:=bel (A4 V) b1;have HCUR:=A3 b2;have o0:=kc b2 y0;have o1:=kc b2 y1;have o2:=kc b2 y2;clear b1 b2);try(go_wp2_with fail)
   refine AU hK fun yH=>?_;clear hK K;refine Tc 15 16 17 ?_;refine Kd 18 19 20 21 ?_;refine Kd 22 23 24 25 ?_;refine Cu 26 ?_;refine Cu 27 ?_;refine Bn 28 ?_;exact XG
 .have HT:Hid (AQ (j:Int) (a::m::k::c::r)=none):=by show _=_;rw[HL.out,if_neg (fun q=>n0 q.1)]
  obtain⟨V,hV⟩:=gA (w.alloc (.cells #[.int .i64 0,.int .i64 0,.bool false,.int .u32 0,.int .i64 0] 59))
  obtain⟨X,hXX⟩:=gA (w.heap.size)
  have hb0:Below w.heap.size w V:=by rw[<-hV];exact A2 _ _
  have hr:V.rowIs X 59 5 (g5 (.int .i64 0) (.int .i64 0) (.bool false) (.int .u32 0) (.int .i64 0)):=by rw[<-hV,<-hXX];exact CG _ _ _ _ _ _ _
  have HB0:=A3 hb0;have HR:=A3 hr;have HXW:Hid (w.heap.size<=X):=by show _<=_;omega
  obtain⟨x0,x1,x2,x3,x4⟩:=c5 hr;obtain⟨f0,f1,f2,f3,f4⟩:=z5 hr;have y0:V.cell? ⟨g,0,none⟩=some (.string (A6 a)):=by have h9:=kc hb0 (h 0 sM);exact h9
  have q0:V.drew.cell? ⟨g,0,none⟩=some (.string (A6 a)):=y0;have y1:V.cell? ⟨g,1,none⟩=some (.string (A6 m)):=by have h9:=kc hb0 (h 1 sM);exact h9
  have q1:V.drew.cell? ⟨g,1,none⟩=some (.string (A6 m)):=y1;have y2:V.cell? ⟨g,2,none⟩=some (.string (A6 k)):=by have h9:=kc hb0 (h 2 sM);exact h9
  have q2:V.drew.cell? ⟨g,2,none⟩=some (.string (A6 k)):=y2;have i0:(0:Int)<(N:Int):=oM;have j0:0<N:=oM;have i1:(1:Int)<(N:Int):=oM;have j1:1<N:=oM;have i2:(2:Int)<(N:Int):=oM;have j2:2<N:=oM;have eslot:((A6 a).toList==[115,108,111,116])=false:=by rw[ByteArray.toList_eq,beq_eq_false_iff_ne];intro h;exact n0 Pa
  have dslot:((A6 a).toList != [115,108,111,116])=true:=by rw[bne,eslot];rfl
  clear n0 hD HL;clear hb0 hr h;go_enter func16,ntmps16;go_upto_region 1 with fail;try rw[hV]
  try rw[hXX]
  clear hV hXX;refine rG (fun v=>v.cell? ⟨g,0,none⟩=some (.string (A6 a))/\v.cell? ⟨g,1,none⟩=some (.string (A6 m))/\v.cell? ⟨g,2,none⟩=some (.string (A6 k))) fun yH=>?_;refine Tf 0 1 2 3 4 5 ?_;refine Tc 6 7 8 ?_;refine Bn 9 ?_;exact XE
theorem LL(g cap:Nat)(ws:List Bs)(j:Nat)(hj:j<=2147483647)(hl:ws.length<=100000000)(hcap:ws.length<=cap)(hs:∀x∈ws,x.length<=100000000)(w:World)(h:Dg w g 0 ws):Calls prog 16 #[.slice (some ⟨g,0,none⟩) ws.length cap,.int .i64 (j:Int)] w fun e w'=>RN (j:Int) ws w e w':=by
 by_cases q:ws.length<5
 .exact Jc _ cap ws j q w
 .match ws,q,hl,hcap,hs,h with
  |a::m::k::c::r,q,hl,hcap,hs,h=>exact K7 g cap a m k c r j hj hl oM hcap hs w h
  |[],q,_,_,_,_=>exact absurd dE q
  |[_],q,_,_,_,_=>exact absurd sM q
  |[_,_],q,_,_,_,_=>exact absurd sM q
  |[_,_,_],q,_,_,_,_=>exact absurd sM q
end Go.Proofs.YtjlpkjblkllfbaaGreatDoor
