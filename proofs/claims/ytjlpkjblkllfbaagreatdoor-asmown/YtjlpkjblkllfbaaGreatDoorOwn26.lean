import Derived.Test.YtjlpkjblkllfbaaGreatDoorOwn1
import Derived.Test.YtjlpkjblkllfbaaGreatDoorOwn25
import Derived.OrdersHeld
import Derived.Deep.DeepCutAuto
namespace Go.Proofs.YtjlpkjblkllfbaaGreatDoor
open Go.RowKit Go.Proofs.Tryz
set_option linter.all false
set_option maxRecDepth 100000
set_option maxHeartbeats 16000000
def TR(ws:List Bs)(w:World)(e:Ending)(w':World):Prop:=∃ (i:Ax) (b:Bool),e=.returned (.tuple #[.agg #[.int .i64 i.op,.int .i64 i.d,.int .i64 i.a,.int .i64 i.b,.int .i64 i.c,.int .i64 i.n,.int .u32 i.bits],.bool b])/\(b=true->B3 ws=some i)/\(b=false->B3 ws=none)/\Below w.heap.size w w'
theorem LJ(g cap:Nat)(a:Bs)(r:List Bs)(hl:(a::r).length<=100000000)(hcap:(a::r).length<=cap)(hs:∀x∈a::r,x.length<=100000000)(w:World)(h:Dg w g 0 (a::r)):Calls prog 17 #[.slice (some ⟨g,0,none⟩) (a::r).length cap] w fun e w'=>TR (a::r) w e w':=by
 have HS:=A3 hs;have HCP:=A3 hcap;obtain⟨N,hN⟩:=gA ((a::r).length)
 have HNR:Hid (N=r.length+1):=by show _=_;rw[<-hN];simp
 have hN0:1<=N:=by have:=HNR.out;omega
 rw[hN]at hl HCP |-;obtain⟨V,hV⟩:=gA (w.alloc (.cells #[.int .i64 0,.int .i64 0,.int .i64 0,.int .i64 0,.int .i64 0,.int .i64 0,.int .u32 0] 39))
 obtain⟨X,hXX⟩:=gA (w.heap.size)
 have hb0:Below w.heap.size w V:=by rw[<-hV];exact A2 _ _
 have hr:V.rowIs X 39 7 (g7 (.int .i64 0) (.int .i64 0) (.int .i64 0) (.int .i64 0) (.int .i64 0) (.int .i64 0) (.int .u32 0)):=by rw[<-hV,<-hXX];exact J9 _ _ _ _ _ _ _ _ _
 have HB0:=A3 hb0;have HR:=A3 hr;have HXW:Hid (w.heap.size<=X):=by show _<=_;omega
 have HW0:Hid (∀x,Below w.heap.size w x->x.cell? ⟨g,0,none⟩=some (.string (A6 a))):=fun x k9=>kc k9 (h 0 sM);have HWR:Hid (∀x,Below w.heap.size w x->∀i (hi:i<r.length),x.cell? ⟨g,1+i,none⟩=some (.string (A6 r[i]))):=fun x k9 i hi=>by
  have h9:=kc k9 (h (i+1) sO);rw[show 0+(i+1)=1+i by omega]at h9;exact h9
 have hWO:=fun v=>Jm v;have HWO:=A3 hWO;clear hb0 hr h hs hcap hN hWO;go_enter func17,ntmps17;go_upto_region 1 with fail;try rw[hV]
 try rw[hXX]
 clear hV hXX;go_wp2_with(go_at_call 36;(with_reducible refine(HWO.out _).mono ?_);rintro e w1 ⟨p,rfl,p0,p1,b1⟩;have HP1:=A3 (And.intro p0 (And.intro p1 b1));clear p0 p1 b1);have HB1:Hid (Below w.heap.size w w1):=bel HB0.out HP1.out.2.2
 go_loopw [4,6] (fun ov iv wr=>∃ (j o:Nat),1<=j/\j<=38/\iv=.int .i64 (j:Int)/\ov=.int .i64 (o:Int)/\Hid (RF a j o/\Below w1.heap.size w1 wr)) (fun _ iv _=>38-(intOf iv).toNat)
 case atStart=>exact⟨1,0,dE,dE,rfl,rfl,RF.start a,BY _⟩
 case round=>
  obtain⟨j,o,h1,h2,rfl,rfl,HJ⟩:=hrel;by_cases hlt:j<38
  .have e1:(j:Int)<38:=oM;have i0:(0:Int)<=(j:Int):=oM;have n0:(0:Int)<(N:Int):=oM;have n1:0<N:=oM;obtain⟨T,hT⟩:=gA (A6 (DS (j:Int)))
   have c1:wr.cell? ⟨p,j,none⟩=some (.string T):=by rw[<-hT];exact(HP1.2.1.of_block (HJ.2.block _ HP1.2.1.lt)).cell (i:=j) hlt
   have c0:wr.cell? ⟨g,0,none⟩=some (.string (A6 a)):=HW0.out wr (HB1.trans (HJ.2.mono HB1.size));have d1:wr.drew.cell? ⟨p,j,none⟩=some (.string T):=c1;have d0:wr.drew.cell? ⟨g,0,none⟩=some (.string (A6 a)):=c0;by_cases q:DS (j:Int)=a
   .skip
    have HQ:=A3 q;have e2:(T.toList==(A6 a).toList)=true:=by rw[<-hT,ByteArray.toList_eq,ByteArray.toList_eq];rw[q];simp
    clear q hT;go_upto_region 6 with fail;refine rG (fun v=>v.cell? ⟨p,j,none⟩=some (.string T)/\v.cell? ⟨g,0,none⟩=some (.string (A6 a))) fun yH=>?_;refine Tf 0 1 2 3 4 5 ?_;refine Tb 6 7 ?_;refine wpAnyH_done kR ?_ _;go_wp2;go_roundw
    case rel=>
     exact⟨j+1,j,oM,oM,gN,rfl,RF.hit h1 HQ.out,HJ.2.trans ((A4 wr).mono HJ.2.size)⟩
    case measure=>simp[intOf];omega
   .skip
    have HQ:=A3 q;have e2:(T.toList==(A6 a).toList)=false:=by rw[<-hT,ByteArray.toList_eq,ByteArray.toList_eq,beq_eq_false_iff_ne];intro h9;exact q (by simpa[A6]using h9)
    clear q hT;go_upto_region 6 with fail;refine rG (fun v=>v.cell? ⟨p,j,none⟩=some (.string T)/\v.cell? ⟨g,0,none⟩=some (.string (A6 a))) fun yH=>?_;refine Tf 0 1 2 3 4 5 ?_;refine Tb 6 7 ?_;refine wpAnyH_done kR ?_ _;go_wp2;go_roundw
    case rel=>
     exact⟨j+1,o,oM,oM,gN,rfl,HJ.1.miss HQ.out,HJ.2.trans ((A4 wr).mono HJ.2.size)⟩
    case measure=>simp[intOf];omega
  .have hj:j=38:=oM;subst hj;have HBR:Hid (Below w.heap.size w wr):=HB1.trans (HJ.2.mono HB1.size);have hbr:Below V.heap.size V wr:=HP1.2.2.trans (HJ.2.mono HP1.2.2.size);have hxr:=HR.of_block (hbr.block _ HR.lt);have HXR:=A3 hxr;have HXS:Hid (X<wr.heap.size):=hxr.lt;rcases HJ.1 with⟨rfl,hall⟩|⟨ho1,ho2,hop⟩
   .have HT2:Hid (B3 (a::r)=none):=Uq (Sx hall);obtain⟨x0,x1,x2,x3,x4,x5,x6⟩:=c7 hxr;obtain⟨f0,f1,f2,f3,f4,f5,f6⟩:=z7 hxr;clear hall hxr hbr;go_wp2;refine bodyPost_ret (by simp[results,results17,go_sem, *];try rfl) rfl ?_;exact⟨⟨0,0,0,0,0,0,0⟩,false,rfl,fun h=>absurd h dE,fun _=>HT2.out,((((((((((((((HBR.out).setCell HXW.out _)).setCell HXW.out _)).setCell HXW.out _)).setCell HXW.out _)).setCell HXW.out _)).setCell HXW.out _)).setCell HXW.out _)⟩
   .have e3:((o:Int)==0)=false:=by rw[beq_eq_false_iff_ne];omega
    have HYES:Hid (B3 (a::r)=Ln o r):=Sa ho1 ho2 hop;have HO1:=A3 ho1;have HO2:=A3 ho2;obtain⟨M,hM⟩:=gA (N-1)
    have HM:Hid (r.length=M):=by show _=_;have:=HNR.out;omega
    obtain⟨P,hP⟩:=gA (D3 (some ⟨g,0,none⟩) cap 1 1)
    have HP:Hid (0<M->P=some ⟨g,1,none⟩):=fun h9=>by
     rw[<-hP];unfold D3;rw[if_neg (by have:=HCP.out;omega)];simp[Addr.add]
    have HSL1:∀v,(Instr.sliceAt 52 (.slice (some ⟨g,0,none⟩) N cap) (some (.int .i64 1)) none none).run prog v=.ok (.slice P M (cap-1)) v:=fun v=>by
     have h9:=Ge (some ⟨g,0,none⟩) N cap 1 hN0 v;rw[hP,hM]at h9;exact h9
    obtain⟨K,hK⟩:=gA ((Ay (Ai o) (A5 (o:Int))).length)
    have HK3:Hid (K<=3):=by show _<=_;rw[<-hK];exact Ix o
    have HRE:Hid (∀v,Calls prog 37 #[.agg #[.int .i64 (Ai o).op,.int .i64 (Ai o).d,.int .i64 (Ai o).a,.int .i64 (Ai o).b,.int .i64 (Ai o).c,.int .i64 (Ai o).n,.int .u32 (Ai o).bits]] v fun e w'=>∃q d,e=.returned (.slice q K d)/\Below v.heap.size v w'):=fun v=>(Ha (Ai o) v).mono fun e w' ⟨v',h7,h8,h9⟩=>by
     obtain⟨q,d,rfl⟩:=Ac h8;exact⟨q,d,by rw[h7,<-hK];rfl,h9⟩
    obtain⟨sB,hsB⟩:=gA (DV (Ai o))
    have HSE:Hid (∀v,Calls prog 38 #[.agg #[.int .i64 (Ai o).op,.int .i64 (Ai o).d,.int .i64 (Ai o).a,.int .i64 (Ai o).b,.int .i64 (Ai o).c,.int .i64 (Ai o).n,.int .u32 (Ai o).bits]] v fun e w'=>e=.returned (.bool sB)/\Below v.heap.size v w'):=fun v=>by rw[<-hsB];exact IE (Ai o) v
    have HLF:Hid ((Dl (Ai o)).length=(if sB=true then 1 else 0)+K):=by show _=_;rw[Kb,hK,hsB]
    obtain⟨V2,hV2⟩:∃W,wr.alloc (.cells #[.int .i64 (o:Int),.int .i64 0,.int .i64 0,.int .i64 0,.int .i64 0,.int .i64 0,.int .u32 0] 39)=W:=⟨_,rfl⟩
    obtain⟨Q,hQ⟩:=gA (wr.heap.size)
    have hb2:Below wr.heap.size wr V2:=by rw[<-hV2];exact A2 _ _
    have hq2:V2.rowIs Q 39 7 (gI (Ai o)):=by rw[<-hV2,<-hQ];exact J9 _ _ _ _ _ _ _ _ _
    have HXQ:Hid (X≠Q):=by show _≠_;have:=HXS.out;omega
    have HQW:Hid (w.heap.size<=Q):=by show _<=_;have:=HXS.out;have:=HXW.out;omega
    have HB2:Hid (Below w.heap.size w V2):=bel HBR.out hb2;have HX2:=A3 (hxr.of_block (hb2.block _ hxr.lt));have HQ2:=A3 hq2;have HSB:=A3 hsB;clear hxr hbr hb2 hP hM hK ho1 ho2 hop hsB;have HV2:=A3 hV2;have HQE:=A3 hQ;clear hV2 hQ;go_upto_region 11 with fail;rw[HV2.out];try rw[HQE.out]
    obtain⟨s0,s1,s2,s3,s4,s5,s6⟩:=c7 hq2;obtain⟨t0,t1,t2,t3,t4,t5,t6⟩:=z7 hq2;clear hq2;go_upto_region 13 with(go_at_call 37;(with_reducible refine(HRE.out _).mono ?_);rintro e w4 ⟨q4,d4,rfl,b4⟩;have HC4:=A3 b4;clear b4)
    clear s0 s1 s2 s3 s4 s5 s6 t0 t1 t2 t3 t4 t5 t6;have HB4:Hid (Below w.heap.size w w4):=bel HB2.out HC4.out;have HX4:=A3 (HX2.of_block (HC4.block _ HX2.lt));have hq4:=HQ2.of_block (HC4.block _ HQ2.lt);have HQ4:=A3 hq4;obtain⟨s0,s1,s2,s3,s4,s5,s6⟩:=c7 hq4;obtain⟨t0,t1,t2,t3,t4,t5,t6⟩:=z7 hq4;clear hq4;cases sB with
    |true=>
     obtain⟨NF,hNF⟩:=gA (1+K)
     have HNF:Hid (NF=1+K/\(Dl (Ai o)).length=NF):=⟨hNF.symm,by rw[HLF.out,<-hNF];rfl⟩
     clear hNF;go_wp2_with(go_at_call 38;(with_reducible refine(HSE.out _).mono ?_);rintro e w5 ⟨rfl,b5⟩;have HC5:=A3 b5;clear b5);clear s0 s1 s2 s3 s4 s5 s6 t0 t1 t2 t3 t4 t5 t6;have HB5:Hid (Below w.heap.size w w5):=bel HB4.out HC5.out;have HX5:=A3 (HX4.out.of_block (HC5.out.block _ HX4.out.lt));have HQ5:=A3 (HQ4.out.of_block (HC5.out.block _ HQ4.out.lt))
     go_loopw [10] (fun iv wx=>∃ (i:Nat) (I:Ax),i<=NF/\i<=r.length/\iv=.int .i64 (i:Int)/\Hid (ER o r i I/\wx.rowIs X 39 7 (g7 (.int .i64 0) (.int .i64 0) (.int .i64 0) (.int .i64 0) (.int .i64 0) (.int .i64 0) (.int .u32 0))/\wx.rowIs Q 39 7 (gI I)/\Below w.heap.size w wx)) (fun iv _=>NF-(intOf iv).toNat)
     case atStart=>exact⟨0,Ai o,gJ _,gJ _,rfl,ER.start o r,HX5.out,HQ5.out,HB5.out⟩
     case round=>
      obtain⟨i,I,hi,hir,rfl,HI⟩:=hrel;have wNF:IntKind.i64.wrap ((1:Int)+(K:Int))=(NF:Int):=by rw[IntKind.wrap_i64];have:=HNF.out;have:=HK3.out;omega
      have hx:=HI.2.1;have hy:=HI.2.2.1;by_cases hlt:i<NF
      .have l1:(i:Int)<(NF:Int):=oM;have hiF:i<(Dl (Ai o)).length:=by have:=HNF.out;have:=HLF.out;omega
       by_cases hrl:i<r.length
       .have l2:¬ ((M:Int)<=(i:Int)):=by have:=HM.out;omega
        have l3:(i:Int)<(M:Int):=by have:=HM.out;omega
        have l4:i<M:=by have:=HM.out;omega
        have l0:(0:Int)<=(i:Int):=oM;obtain⟨T,hT⟩:=gA (A6 r[i])
        have cP:P=some ⟨g,1,none⟩:=HP.out (by have:=HM.out;omega);have c1:wr.cell? ⟨g,1+i,none⟩=some (.string T):=by rw[<-hT];exact HWR.out wr HI.2.2.2 i hrl
        have HRG:Hid (∀v,Calls prog 39 #[.string T] v fun e w'=>TX T v e w'):=fun v=>DU T (by rw[<-hT,BQ];have:=HS.out r[i] sM;omega) v;have HT:=A3 hT;subst cP;clear hT;obtain⟨x0,x1,x2,x3,x4,x5,x6⟩:=c7 hx;obtain⟨f0,f1,f2,f3,f4,f5,f6⟩:=z7 hx;obtain⟨s0,s1,s2,s3,s4,s5,s6⟩:=c7 hy;obtain⟨t0,t1,t2,t3,t4,t5,t6⟩:=z7 hy;clear hx hy;go_upto_region 22 with(go_at_call 39;(with_reducible refine(HRG.out _).mono ?_);rintro e w6 ⟨n,ok,rfl,m1,m2,b6⟩;have HM6:=A3 (And.intro m1 m2);have HC6:=A3 b6;clear m1 m2 b6)
        have hx6:=HI.2.1.of_block (HC6.block _ HI.2.1.lt);have hy6:=HI.2.2.1.of_block (HC6.block _ HI.2.2.1.lt);have HB6:Hid (Below w.heap.size w w6):=HI.2.2.2.trans (HC6.mono HI.2.2.2.size);have HX6:=A3 hx6;have HY6:=A3 hy6;clear x0 x1 x2 x3 x4 x5 x6 f0 f1 f2 f3 f4 f5 f6 s0 s1 s2 s3 s4 s5 s6 t0 t1 t2 t3 t4 t5 t6 c1;cases ok with
        |true=>
         have hn:FB r[i]=some n:=by have h9:=HM6.1 rfl;rw[<-HT.out]at h9;rwa[show bs (A6 r[i])=r[i]from AZ _]at h9
         have HNX:=A3 (HI.1.next hiF hrl hn);obtain⟨s0,s1,s2,s3,s4,s5,s6⟩:=c7 hy6;obtain⟨t0,t1,t2,t3,t4,t5,t6⟩:=z7 hy6;clear hx6 hy6 hn hiF;rcases(show i=0\/i=1\/i=2\/i=3 by have:=HNF.out;have:=HK3.out;omega)with hi9|hi9|hi9|hi9
         .subst hi9;go_upto_region 18 with fail;obtain⟨V9,hV9⟩:∃W,w6.setCell ⟨Q,1,none⟩ (.int .i64 n)=W:=⟨_,rfl⟩
          have hq:=UL HY6.out (.int .i64 n);rw[hV9]at hq;try rw[hV9]
          clear s0 s1 s2 s3 s4 s5 s6 t0 t1 t2 t3 t4 t5 t6 hV9;go_wp2;go_roundw
          case rel=>exact⟨1,D2 I 1 n,oM,oM,gN,U3,hq.2.row HX6.out HXQ.out,hq.1,HB6.trans (hq.2.bel _ HQW.out)⟩
          case measure=>simp[intOf];omega
         .subst hi9;go_upto_region 18 with fail;obtain⟨V9,hV9⟩:∃W,w6.setCell ⟨Q,2,none⟩ (.int .i64 n)=W:=⟨_,rfl⟩
          have hq:=Qn HY6.out (.int .i64 n);rw[hV9]at hq;try rw[hV9]
          clear s0 s1 s2 s3 s4 s5 s6 t0 t1 t2 t3 t4 t5 t6 hV9;go_wp2;go_roundw
          case rel=>exact⟨2,D2 I 2 n,oM,oM,gN,U3,hq.2.row HX6.out HXQ.out,hq.1,HB6.trans (hq.2.bel _ HQW.out)⟩
          case measure=>simp[intOf];omega
         .subst hi9;go_upto_region 18 with fail;obtain⟨V9,hV9⟩:∃W,w6.setCell ⟨Q,3,none⟩ (.int .i64 n)=W:=⟨_,rfl⟩
          have hq:=Qo HY6.out (.int .i64 n);rw[hV9]at hq;try rw[hV9]
          clear s0 s1 s2 s3 s4 s5 s6 t0 t1 t2 t3 t4 t5 t6 hV9;go_wp2;go_roundw
          case rel=>exact⟨3,D2 I 3 n,oM,oM,gN,U3,hq.2.row HX6.out HXQ.out,hq.1,HB6.trans (hq.2.bel _ HQW.out)⟩
          case measure=>simp[intOf];omega
         .subst hi9;go_upto_region 18 with fail;obtain⟨V9,hV9⟩:∃W,w6.setCell ⟨Q,4,none⟩ (.int .i64 n)=W:=⟨_,rfl⟩
          have hq:=Qp HY6.out (.int .i64 n);rw[hV9]at hq;try rw[hV9]
          clear s0 s1 s2 s3 s4 s5 s6 t0 t1 t2 t3 t4 t5 t6 hV9;go_wp2;go_roundw
          case rel=>exact⟨4,D2 I 4 n,oM,oM,gN,U3,hq.2.row HX6.out HXQ.out,hq.1,HB6.trans (hq.2.bel _ HQW.out)⟩
          case measure=>simp[intOf];omega
        |false=>
         exact Xx
       .have l2:((M:Int)<=(i:Int)):=by have:=HM.out;omega
        have HT2:Hid (B3 (a::r)=none):=by show _=_;rw[HYES.out];exact HI.1.short hiF oM
        obtain⟨x0,x1,x2,x3,x4,x5,x6⟩:=c7 hx;obtain⟨f0,f1,f2,f3,f4,f5,f6⟩:=z7 hx;obtain⟨s0,s1,s2,s3,s4,s5,s6⟩:=c7 hy;obtain⟨t0,t1,t2,t3,t4,t5,t6⟩:=z7 hy;clear hx hy hiF;go_wp2;exact Xq
      .exact Xm
    |false=>
     obtain⟨NF,hNF⟩:=gA (0+K)
     have HNF:Hid (NF=0+K/\(Dl (Ai o)).length=NF):=⟨hNF.symm,by rw[HLF.out,<-hNF];rfl⟩
     clear hNF;go_wp2_with(go_at_call 38;(with_reducible refine(HSE.out _).mono ?_);rintro e w5 ⟨rfl,b5⟩;have HC5:=A3 b5;clear b5);clear s0 s1 s2 s3 s4 s5 s6 t0 t1 t2 t3 t4 t5 t6;have HB5:Hid (Below w.heap.size w w5):=bel HB4.out HC5.out;have HX5:=A3 (HX4.out.of_block (HC5.out.block _ HX4.out.lt));have HQ5:=A3 (HQ4.out.of_block (HC5.out.block _ HQ4.out.lt))
     go_loopw [10] (fun iv wx=>∃ (i:Nat) (I:Ax),i<=NF/\i<=r.length/\iv=.int .i64 (i:Int)/\Hid (ER o r i I/\wx.rowIs X 39 7 (g7 (.int .i64 0) (.int .i64 0) (.int .i64 0) (.int .i64 0) (.int .i64 0) (.int .i64 0) (.int .u32 0))/\wx.rowIs Q 39 7 (gI I)/\Below w.heap.size w wx)) (fun iv _=>NF-(intOf iv).toNat)
     case atStart=>exact⟨0,Ai o,gJ _,gJ _,rfl,ER.start o r,HX5.out,HQ5.out,HB5.out⟩
     case round=>
      obtain⟨i,I,hi,hir,rfl,HI⟩:=hrel;have wNF:IntKind.i64.wrap ((K:Int))=(NF:Int):=by rw[IntKind.wrap_i64];have:=HNF.out;have:=HK3.out;omega
      have hx:=HI.2.1;have hy:=HI.2.2.1;by_cases hlt:i<NF
      .have l1:(i:Int)<(NF:Int):=oM;have hiF:i<(Dl (Ai o)).length:=by have:=HNF.out;have:=HLF.out;omega
       by_cases hrl:i<r.length
       .have l2:¬ ((M:Int)<=(i:Int)):=by have:=HM.out;omega
        have l3:(i:Int)<(M:Int):=by have:=HM.out;omega
        have l4:i<M:=by have:=HM.out;omega
        have l0:(0:Int)<=(i:Int):=oM;obtain⟨T,hT⟩:=gA (A6 r[i])
        have cP:P=some ⟨g,1,none⟩:=HP.out (by have:=HM.out;omega);have c1:wr.cell? ⟨g,1+i,none⟩=some (.string T):=by rw[<-hT];exact HWR.out wr HI.2.2.2 i hrl
        have HRG:Hid (∀v,Calls prog 39 #[.string T] v fun e w'=>TX T v e w'):=fun v=>DU T (by rw[<-hT,BQ];have:=HS.out r[i] sM;omega) v;have HT:=A3 hT;subst cP;clear hT;obtain⟨x0,x1,x2,x3,x4,x5,x6⟩:=c7 hx;obtain⟨f0,f1,f2,f3,f4,f5,f6⟩:=z7 hx;obtain⟨s0,s1,s2,s3,s4,s5,s6⟩:=c7 hy;obtain⟨t0,t1,t2,t3,t4,t5,t6⟩:=z7 hy;clear hx hy;go_upto_region 22 with(go_at_call 39;(with_reducible refine(HRG.out _).mono ?_);rintro e w6 ⟨n,ok,rfl,m1,m2,b6⟩;have HM6:=A3 (And.intro m1 m2);have HC6:=A3 b6;clear m1 m2 b6)
        have hx6:=HI.2.1.of_block (HC6.block _ HI.2.1.lt);have hy6:=HI.2.2.1.of_block (HC6.block _ HI.2.2.1.lt);have HB6:Hid (Below w.heap.size w w6):=HI.2.2.2.trans (HC6.mono HI.2.2.2.size);have HX6:=A3 hx6;have HY6:=A3 hy6;clear x0 x1 x2 x3 x4 x5 x6 f0 f1 f2 f3 f4 f5 f6 s0 s1 s2 s3 s4 s5 s6 t0 t1 t2 t3 t4 t5 t6 c1;cases ok with
        |true=>
         have hn:FB r[i]=some n:=by have h9:=HM6.1 rfl;rw[<-HT.out]at h9;rwa[show bs (A6 r[i])=r[i]from AZ _]at h9
         have HNX:=A3 (HI.1.next hiF hrl hn);obtain⟨s0,s1,s2,s3,s4,s5,s6⟩:=c7 hy6;obtain⟨t0,t1,t2,t3,t4,t5,t6⟩:=z7 hy6;clear hx6 hy6 hn hiF;rcases(show i=0\/i=1\/i=2 by have:=HNF.out;have:=HK3.out;omega)with hi9|hi9|hi9
         .subst hi9;go_upto_region 18 with fail;obtain⟨V9,hV9⟩:∃W,w6.setCell ⟨Q,2,none⟩ (.int .i64 n)=W:=⟨_,rfl⟩
          have hq:=Qn HY6.out (.int .i64 n);rw[hV9]at hq;try rw[hV9]
          clear s0 s1 s2 s3 s4 s5 s6 t0 t1 t2 t3 t4 t5 t6 hV9;go_wp2;go_roundw
          case rel=>exact⟨1,D2 I 2 n,oM,oM,gN,U3,hq.2.row HX6.out HXQ.out,hq.1,HB6.trans (hq.2.bel _ HQW.out)⟩
          case measure=>simp[intOf];omega
         .subst hi9;go_upto_region 18 with fail;obtain⟨V9,hV9⟩:∃W,w6.setCell ⟨Q,3,none⟩ (.int .i64 n)=W:=⟨_,rfl⟩
          have hq:=Qo HY6.out (.int .i64 n);rw[hV9]at hq;try rw[hV9]
          clear s0 s1 s2 s3 s4 s5 s6 t0 t1 t2 t3 t4 t5 t6 hV9;go_wp2;go_roundw
          case rel=>exact⟨2,D2 I 3 n,oM,oM,gN,U3,hq.2.row HX6.out HXQ.out,hq.1,HB6.trans (hq.2.bel _ HQW.out)⟩
          case measure=>simp[intOf];omega
         .subst hi9;go_upto_region 18 with fail;obtain⟨V9,hV9⟩:∃W,w6.setCell ⟨Q,4,none⟩ (.int .i64 n)=W:=⟨_,rfl⟩
          have hq:=Qp HY6.out (.int .i64 n);rw[hV9]at hq;try rw[hV9]
          clear s0 s1 s2 s3 s4 s5 s6 t0 t1 t2 t3 t4 t5 t6 hV9;go_wp2;go_roundw
          case rel=>exact⟨3,D2 I 4 n,oM,oM,gN,U3,hq.2.row HX6.out HXQ.out,hq.1,HB6.trans (hq.2.bel _ HQW.out)⟩
          case measure=>simp[intOf];omega
        |false=>
         exact Xx
       .have l2:((M:Int)<=(i:Int)):=by have:=HM.out;omega
        have HT2:Hid (B3 (a::r)=none):=by show _=_;rw[HYES.out];exact HI.1.short hiF oM
        obtain⟨x0,x1,x2,x3,x4,x5,x6⟩:=c7 hx;obtain⟨f0,f1,f2,f3,f4,f5,f6⟩:=z7 hx;obtain⟨s0,s1,s2,s3,s4,s5,s6⟩:=c7 hy;obtain⟨t0,t1,t2,t3,t4,t5,t6⟩:=z7 hy;clear hx hy hiF;go_wp2;exact Xq
      .exact Xm
end Go.Proofs.YtjlpkjblkllfbaaGreatDoor
