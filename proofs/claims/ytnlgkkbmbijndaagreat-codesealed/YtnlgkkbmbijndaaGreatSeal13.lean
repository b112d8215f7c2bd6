import Derived.Test.YtnlgkkbmbijndaaGreatSeal10
import Derived.Deep.DeepCutAuto
import Derived.Test.YtnlgkkbmbijndaaGreatSeal7
import Derived.Test.YtnlgkkbmbijndaaGreatSeal1
namespace Go.Proofs.YtnlgkkbmbijndaaGreat
open Go.RowKit Go.Proofs.Tryz
set_option linter.all false
set_option maxRecDepth 100000
set_option maxHeartbeats 16000000
def Gy(i:Ar)(j:Nat):Value:=if j=0 then .int .i64 i.op else if j=1 then .int .i64 i.d else if j=2 then .int .i64 i.a else if j=3 then .int .i64 i.b else if j=4 then .int .i64 i.c else if j=5 then .int .i64 i.n else .int .u32 i.bits
theorem NP(i:Ar){o:Nat}(h1:1<=o)(h2:o<=5)(v:Int)(j:Nat)(hj:j<7):(if j=o then Value.int .i64 v else Gy i j)=Gy (G2 i o v) j:=by
 rcases(show o=1\/o=2\/o=3\/o=4\/o=5 by omega)with rfl|rfl|rfl|rfl|rfl<;>rcases(show j=0\/j=1\/j=2\/j=3\/j=4\/j=5\/j=6 by omega)with rfl|rfl|rfl|rfl|rfl|rfl|rfl<;>rfl
theorem LN(i:Ar)(v:Int)(j:Nat)(hj:j<7):(if j=6 then Value.int .u32 v else Gy i j)=Gy {i with bits:=v} j:=by
 exact Nu
theorem Kj{w:World}{X:Nat}{i:Ar}(h:w.rowIs X 70 7 (Gy i)):Aq w X 0 (C2 i):=fun j hj=>by
 have hj':j<7:=hj;have h9:=h.cell hj';rw[Nat.zero_add,h9];exact Nu
theorem Pm{w:World}{X:Nat}{i:Ar}(h:w.rowIs X 70 7 (Gy i)){o:Nat}(h1:1<=o)(h2:o<=5):∃v,w.cell? ⟨X,o,none⟩=some (.int .i64 v):=by
 have h9:=h.cell (i:=o) oM;rcases(show o=1\/o=2\/o=3\/o=4\/o=5 by omega)with rfl|rfl|rfl|rfl|rfl<;>exact⟨_,h9⟩
theorem PC{os:List Nat}{k:Nat}(h:k<os.length)(i:Ar):OP (os.drop k) i=Ac Bf fun n=>OP (os.drop (k+1)) (G2 i os[k] (n:Int)):=by
 rw[List.drop_eq_getElem_cons h];rfl
theorem NO{op:Nat}(h1:1<=op)(h2:op<=37):∀o∈CJ (CQ op),1<=o/\o<=5:=fun o ho=>by
 rw[Jc (i:=CQ op) op rfl]at ho;exact SC
theorem Mi(E RB:Nat)(s:ByteArray)(A:Nat)(w:World)(h:BB E RB s A w)(hA:A<=s.size)(hs:s.size<=281474976710656)(hE:E<=w.heap.size):
 Calls prog 57 #[.pointer (some ⟨RB,0,none⟩)] w (AX E RB s w Bn (Cw ((Ab s).drop A) A)):=by
 obtain⟨W0,hW0⟩:∃W,w.alloc (.cells #[.int .i64 0,.int .i64 0,.int .i64 0,.int .i64 0,.int .i64 0,.int .i64 0,.int .u32 0] 70)=W:=⟨_,rfl⟩
 have hb0:Below w.heap.size w W0:=by rw[<-hW0];exact A7 _ _
 have h0:=h.below hb0;have hE0:E<=W0.heap.size:=gH hE hb0.size;obtain⟨X,hX⟩:=gA (w.heap.size)
 have hXR:X≠RB:=by have:=h.b.lt;omega
 have hr0:W0.rowIs X 70 7 (Gy (CQ 0)):=by
  rw[<-hW0,<-hX];exact World.rowIs_alloc w #[.int .i64 0,.int .i64 0,.int .i64 0,.int .i64 0,.int .i64 0,.int .i64 0,.int .u32 0] 70 _ (fun i hi=>by
   rcases(show i=0\/i=1\/i=2\/i=3\/i=4\/i=5\/i=6 by have:i<7:=hi;omega)with rfl|rfl|rfl|rfl|rfl|rfl|rfl<;>rfl)
 have KS:Calls prog 85 #[.pointer (some ⟨RB,0,none⟩),.int .i64 1,.int .i64 37] W0 (AX E RB s W0 (fun(b:Nat)=>.int .i64 (b:Int)) (AO 1 37 ((Ab s).drop A) A)):=DT E RB s A 1 37 W0 h0 hA hs hE0;obtain⟨R,hR⟩:=gA (Cw ((Ab s).drop A) A)
 rw[hR];rw[Od]at hR;have HRS:=A6 ((BY.start h).below hE hb0);cases hq:AO 1 37 ((Ab s).drop A) A with
 |error er=>
  obtain⟨er,at_⟩:=er;have HP:R=.error (er,at_):=by rw[<-hR];exact An hq
  rw[hq]at KS;have KS':=A6 KS;have HG:Hid (∀w',Below E W0 w'->B5 RB W0 w'->AX E RB s w Bn R (B2 er at_) w'):=fun w' a b=>by rw[HP];exact HRS.bad Bn er at_ a b
  unfold AX B2 at KS';unfold B2 at HG;simp only at KS';clear h h0 hb0 hr0 KS hq HP hR hX hXR hE0;go_enter func57,ntmps57;exact Rs
 |ok r=>
  obtain⟨k,l',A1⟩:=r;have hk:=Fy hq;rw[Au hq]at hR;rw[hq]at KS;have KS':=A6 KS;unfold AX at KS';simp only at KS';have HR0:=A6 hr0;have HRB:=A6 h.b.lt;have HX:Hid (w.heap.size<=X):=Nat.le_of_eq hX;have HRR:=A6 hR;clear h h0 hb0 hr0 KS hE0 hR hq;go_enter func57,ntmps57;go_upto_region 1 with fail;try rw[hW0]
  try rw[hX]
  clear hW0 hX;go_upto_region 2 with(go_at_call 85;(with_reducible refine KS'.out.mono ?_);rintro e9 w4 ⟨rfl,hb4,ho4,hm4,hl4,hd4⟩;have HB4:=A6 hb4;have HO4:=A6 ho4;have HM4:=A6 hm4;have HD4:=A6 hd4;have HL4:=A6 hl4;clear hb4 ho4 hm4 hl4 hd4)
  obtain⟨Y,hY⟩:=gA (w4.heap.size)
  obtain⟨V,hV⟩:=gA (w4.alloc (.cells #[.int .i64 (k:Int),.int .i64 0,.int .i64 0,.int .i64 0,.int .i64 0,.int .i64 0,.int .u32 0] 70))
  have hbV:Below w4.heap.size w4 V:=by rw[<-hV];exact A7 _ _
  have r4:=AD HO4.out HR0.out hXR;have rx:=r4.of_block (hbV.block _ r4.lt);have ry:V.rowIs Y 70 7 (Gy (CQ k)):=by
   rw[<-hV,<-hY];exact World.rowIs_alloc w4 #[.int .i64 (k:Int),.int .i64 0,.int .i64 0,.int .i64 0,.int .i64 0,.int .i64 0,.int .u32 0] 70 _ (fun i hi=>by
   rcases(show i=0\/i=1\/i=2\/i=3\/i=4\/i=5\/i=6 by have:i<7:=hi;omega)with rfl|rfl|rfl|rfl|rfl|rfl|rfl<;>rfl)
  have hXY:X≠Y:=by have:=r4.lt;omega
  have hYR:Y≠RB:=by have:=HM4.b.lt;omega
  have hwY:w.heap.size<=Y:=by have:=r4.lt;have:=HX.out;omega
  have D1:BY E RB s A1 w V:=((HRS.next HB4.out HO4.out HM4.out).below hE hbV)
  have KF:=Fp Y (CQ k) (by show(1:Int)<=(k:Int);omega) (by show(k:Int)<=37;omega) V (Kj ry);have hR:=HRR.out;rw[HD4.out]at hR;have HFI:=A6 (NO hk.1 hk.2);obtain⟨F,hF⟩:=gA (CJ (CQ k))
  rw[hF]at KF hR HFI;obtain⟨N,hN⟩:=gA (F.length)
  rw[hN]at KF;have hN5:N<=5:=by rw[<-hN,<-hF];exact Gx _
  have HN:=A6 hN;have HRR2:=A6 hR;have KF':=A6 KF;have HD1:=A6 D1;have HRX:=A6 rx;have HRY:=A6 ry;have HYL:Hid (Y<V.heap.size):=ry.lt;try rw[hV]
  try rw[hY]
  clear hV hY hbV HRR KS' HB4 HO4 HM4 HD4 HR0 HRS D1 rx ry r4 KF hR hF hN;go_upto_block 0 with(go_at_call 81;(with_reducible refine KF'.out.mono ?_);rintro e9 w5 ⟨q5,d5,rfl,ho5,hb5⟩;have HB5:=A6 hb5;have HF5:=A6 ho5;clear hb5 ho5)
  have HPC:Hid (∀ (u:World),(∀b,V.heap.size<=b->b<w5.heap.size->u.heap[b]? =w5.heap[b]?)->∀j (hj:j<F.length),∃gb,q5=some ⟨gb,0,none⟩/\u.cell? ⟨gb,j,none⟩=some (.pointer (some ⟨Y,F[j],none⟩))):=fun u hu j hj=>by
   have hF5:=HF5.out;rcases hF5.2 with⟨e1,e2⟩|⟨gb,cap,cur,e1,-,-⟩
   .exact absurd e2 Q0
   .simp only[Value.slice.injEq]at e1;have hq:q5=some ⟨gb,0,none⟩:=e1.1;have hob:(Value.slice q5 N d5).ownBlock=some gb:=by rw[hq];rfl
    have hlt:=hF5.lt gb hob;have hc:=hF5.cells hob j (.pointer (some ⟨Y,F[j],none⟩)) (by simp[Df,hj]);have hadd:(⟨gb,0,none⟩:Addr).add j=⟨gb,j,none⟩:=by unfold Addr.add;split<;>simp_all
    rw[hadd]at hc;exact⟨gb,hq,(gC (hu gb hlt.1 hlt.2) (a:=⟨gb,j,none⟩)).trans hc⟩
  have HSt:Hid (BY E RB s A1 w w5/\w5.rowIs X 70 7 (Gy (CQ 0))/\w5.rowIs Y 70 7 (Gy (CQ k))):=⟨HD1.below hE HB5.out,HRX.of_block (HB5.block _ HRX.lt),HRY.of_block (HB5.block _ HRY.lt)⟩
  have HRV:Hid (RB<V.heap.size/\V.heap.size<=w5.heap.size):=⟨HD1.2.2.b.lt,HB5.size⟩
  clear HB5 HF5 HD1 HRX HRY KF';go_wp2_with fail
  go_loopw [11] (fun iv wx=>∃ (j A':Nat) (i:Ar),j<=N/\iv=.int .i64 (j:Int)/\Hid ((i.op=(k:Int)/\i.bits=0)/\BY E RB s A' w wx/\A'<=s.size/\wx.rowIs X 70 7 (Gy (CQ 0))/\wx.rowIs Y 70 7 (Gy i)/\(∀b,V.heap.size<=b->b<w5.heap.size->wx.heap[b]? =w5.heap[b]?)/\w5.heap.size<=wx.heap.size/\R=Ac (OP (F.drop j) i) (fun i=>Ac (DE k) fun z=>Ax {i with bits:=z}) ((Ab s).drop A') A')) (fun iv _=>N-(intOf iv).toNat)
  case atStart=>exact⟨0,A1,CQ k,gI _,rfl,⟨rfl,rfl⟩,HSt.1,HL4.out,HSt.2.1,HSt.2.2,fun _ _ _=>rfl,gF _,HRR2.symm⟩
  case round=>
   clear HSt HRR2;obtain⟨j,A',i,hj,rfl,HJ⟩:=hrel;obtain⟨jop,j1,j2,j3,j4,j5,j5b,j6⟩:=HJ.out;by_cases hlt:j<N
   .have hjl:j<F.length:=by have:=HN.out;omega
    have e1:(j:Int)<(N:Int):=oM;have i1:(0:Int)<=(j:Int):=oM;obtain⟨gb,rfl,hgc⟩:=HPC.out wr j5 j hjl;obtain⟨ho1,ho2⟩:=HFI.out F[j] (gD hjl);rw[PC hjl,AV]at j6;obtain⟨o,hoe⟩:=gA (F[j])
    rw[hoe]at hgc ho1 ho2 j6;have KN:=Cu E RB s A' wr j1.2.2 j2 hs (gH hE j1.2.1.1);cases hq3:Bf ((Ab s).drop A') A' with
    |error er=>
     obtain⟨er,at_⟩:=er;rw[An hq3]at j6;rw[hq3]at KN;have KN':=A6 KN;unfold AX B2 at KN';simp only at KN';have HG:Hid (∀w',Below E wr w'->B5 RB wr w'->AX E RB s w Bn R (B2 er at_) w'):=fun w' a b=>by rw[j6];exact j1.bad Bn er at_ a b
     unfold B2 at HG;clear j1 j2 j3 j4 j5 j5b j6 jop hq3 KN HJ hlt hoe HPC HFI;exact Rx
    |ok r=>
     obtain⟨n,l3,A3⟩:=r;rw[Au hq3]at j6;rw[hq3]at KN;have KN':=A6 KN;unfold AX at KN';simp only at KN';have HG:Hid (∀w',Below E wr w'->B5 RB wr w'->BB E RB s A3 w'->BY E RB s A3 w w'/\w'.rowIs X 70 7 (Gy (CQ 0))/\w'.rowIs Y 70 7 (Gy i)/\(∀b,V.heap.size<=b->b<w5.heap.size->w'.heap[b]? =w5.heap[b]?)/\w5.heap.size<=w'.heap.size):=fun w' a b c=>⟨j1.next a b c,AD b j3 hXR,AD b j4 hYR,fun x h1 h2=>(b.2 x oM (by have:=HRV.out;omega)).trans (j5 x h1 h2),gH j5b b.1⟩
     have H6:=A6 j6;have HOP:=A6 jop;have wi:IntKind.i64.wrap ((j:Int)+1)=((j+1:Nat):Int):=by rw[IntKind.wrap_i64];omega
     clear j1 j2 j3 j4 j5 j5b j6 jop hq3 KN HJ hoe HPC HFI;go_wp2_with(go_at_call 87;(with_reducible refine KN'.out.mono ?_);rintro e9 w7 ⟨rfl,hb7,ho7,hm7,hl7,hd7⟩;obtain⟨D7,x7,z7,u7,s7⟩:=HG.out _ hb7 ho7 hm7;have HL7:=A6 hl7;have HD7:=A6 hd7;obtain⟨vo,y7⟩:=Pm z7 ho1 ho2;have f7:=z7.frozen o;have HD:=A6 (D7.set hE HRB.out hwY o (.int .i64 (n:Int)));have HX7:Hid ((w7.setCell ⟨Y,o,none⟩ (.int .i64 (n:Int))).rowIs X 70 7 (Gy (CQ 0))):=x7.of_block (gE hXY);have HZ7:Hid ((w7.setCell ⟨Y,o,none⟩ (.int .i64 (n:Int))).rowIs Y 70 7 (Gy (G2 i o (n:Int)))):=(z7.set o (.int .i64 (n:Int))).congr (NP i ho1 ho2 (n:Int));have HU7:Hid ((∀b,V.heap.size<=b->b<w5.heap.size->(w7.setCell ⟨Y,o,none⟩ (.int .i64 (n:Int))).heap[b]? =w5.heap[b]?)/\w5.heap.size<=(w7.setCell ⟨Y,o,none⟩ (.int .i64 (n:Int))).heap.size):=⟨fun b h1 h2=>(gE (by show b≠Y;have:=HYL.out;omega)).trans (u7 b h1 h2),by simpa using s7⟩;clear hb7 ho7 hm7 hl7 hd7 D7 x7 z7 u7 s7);go_roundw
     case rel=>exact⟨j+1,A3,G2 i o (n:Int),oM,gN,⟨(OA i o _).trans HOP.1,(Lj i o _).trans HOP.2⟩,HD.out,HL7.out,HX7.out,HZ7.out,HU7.1,HU7.2,by rw[<-HD7.out];exact H6.out⟩
     case measure=>simp[intOf];omega
   .have e1:¬ (j:Int)<(N:Int):=oM;have hjN:F.drop j=[]:=List.drop_eq_nil_of_le Q0;rw[hjN,OP,Bz]at j6;obtain⟨iop,d,a,b,c,n,z⟩:=i;obtain⟨jop,jz⟩:=jop;simp only at jop jz;subst jop;have HZ0:=A6 jz;clear jz;have y0:wr.cell? ⟨Y,0,none⟩=some (.int .i64 (k:Int)):=j4.cell (i:=0) dE;have y1:wr.cell? ⟨Y,1,none⟩=some (.int .i64 d):=j4.cell (i:=1) dE;have y2:wr.cell? ⟨Y,2,none⟩=some (.int .i64 a):=j4.cell (i:=2) dE;have y3:wr.cell? ⟨Y,3,none⟩=some (.int .i64 b):=j4.cell (i:=3) dE;have y4:wr.cell? ⟨Y,4,none⟩=some (.int .i64 c):=j4.cell (i:=4) dE;have y5:wr.cell? ⟨Y,5,none⟩=some (.int .i64 n):=j4.cell (i:=5) dE;have y6:wr.cell? ⟨Y,6,none⟩=some (.int .u32 z):=j4.cell (i:=6) dE;clear hjN HJ HPC HFI hlt j5 j5b;by_cases q:k=1
    .have q2:((k:Int)==1)=true:=by rw[q];rfl
     have hpb:DE k=Ac (C4 4) fun n=>Ax (n:Int):=by unfold DE;rw[if_pos q]
     rw[hpb,AV]at j6;have KN:=EY E RB s A' wr j1.2.2 j2 hs (gH hE j1.2.1.1);clear q hpb;cases hq3:C4 4 ((Ab s).drop A') A' with
     |error er=>
      obtain⟨er,at_⟩:=er;rw[An hq3]at j6;rw[hq3]at KN;have KN':=A6 KN;unfold AX B2 at KN';simp only at KN';have HG:Hid (∀w',Below E wr w'->B5 RB wr w'->AX E RB s w Bn R (B2 er at_) w'):=fun w' a b=>by rw[j6];exact j1.bad Bn er at_ a b
      unfold B2 at HG;clear j1 j2 j3 j4 j6 hq3 KN;exact SL
     |ok r=>
      obtain⟨m,l3,A3⟩:=r;rw[Au hq3,Bz]at j6;rw[hq3]at KN;have KN':=A6 KN;unfold AX at KN';simp only at KN';have HRR:Hid (R=.ok (⟨(k:Int),d,a,b,c,n,(m:Int)⟩,l3,A3)):=j6;have HG:Hid (∀w',Below E wr w'->B5 RB wr w'->BB E RB s A3 w'->BY E RB s A3 w w'/\w'.rowIs X 70 7 (Gy (CQ 0))/\w'.rowIs Y 70 7 (Gy ⟨(k:Int),d,a,b,c,n,z⟩)):=fun w' a b c=>⟨j1.next a b c,AD b j3 hXR,AD b j4 hYR⟩
      clear j1 j2 j3 j4 j6 hq3 KN y1 y2 y3 y4 y5 y6;go_upto_region 9 with(go_at_call 88;(with_reducible refine KN'.out.mono ?_);rintro e9 w7 ⟨rfl,hb7,ho7,hm7,hl7,hd7⟩;obtain⟨D7,x7,z7⟩:=HG.out _ hb7 ho7 hm7;have HL7:=A6 hl7;have HD7:=A6 hd7;have y7:w7.cell? ⟨Y,6,none⟩=some (.int .u32 z):=z7.cell (i:=6) dE;have f7':=z7.frozen 6;clear hb7 ho7 hm7 hl7 hd7)
      obtain⟨V3,hV3⟩:=gA (w7.setCell ⟨Y,6,none⟩ (.int .u32 (m:Int)))
      have xr:=x7.of_block (w':=V3) OF;have zr:V3.rowIs Y 70 7 (Gy ⟨(k:Int),d,a,b,c,n,(m:Int)⟩):=by
       rw[<-hV3];exact(z7.set 6 (.int .u32 (m:Int))).congr (LN _ _)
      have D8:BY E RB s A3 w V3:=by rw[<-hV3];exact D7.set hE HRB.out hwY 6 _
      have b0:V3.cell? ⟨Y,0,none⟩=some (.int .i64 (k:Int)):=zr.cell (i:=0) dE;have b1:V3.cell? ⟨Y,1,none⟩=some (.int .i64 d):=zr.cell (i:=1) dE;have b2:V3.cell? ⟨Y,2,none⟩=some (.int .i64 a):=zr.cell (i:=2) dE;have b3:V3.cell? ⟨Y,3,none⟩=some (.int .i64 b):=zr.cell (i:=3) dE;have b4:V3.cell? ⟨Y,4,none⟩=some (.int .i64 c):=zr.cell (i:=4) dE;have b5:V3.cell? ⟨Y,5,none⟩=some (.int .i64 n):=zr.cell (i:=5) dE;have b6:V3.cell? ⟨Y,6,none⟩=some (.int .u32 (m:Int)):=zr.cell (i:=6) dE;have x0:V3.cell? ⟨X,0,none⟩=some (.int .i64 0):=xr.cell (i:=0) dE;have f0:=xr.frozen 0;have x1:V3.cell? ⟨X,1,none⟩=some (.int .i64 0):=xr.cell (i:=1) dE;have f1:=xr.frozen 1;have x2:V3.cell? ⟨X,2,none⟩=some (.int .i64 0):=xr.cell (i:=2) dE;have f2:=xr.frozen 2;have x3:V3.cell? ⟨X,3,none⟩=some (.int .i64 0):=xr.cell (i:=3) dE;have f3:=xr.frozen 3;have x4:V3.cell? ⟨X,4,none⟩=some (.int .i64 0):=xr.cell (i:=4) dE;have f4:=xr.frozen 4;have x5:V3.cell? ⟨X,5,none⟩=some (.int .i64 0):=xr.cell (i:=5) dE;have f5:=xr.frozen 5;have x6:V3.cell? ⟨X,6,none⟩=some (.int .u32 0):=xr.cell (i:=6) dE;have f6:=xr.frozen 6;have HD:=A6 (((((((D8.set hE HRB.out HX.out 0 (.int .i64 (k:Int))).set hE HRB.out HX.out 1 (.int .i64 d)).set hE HRB.out HX.out 2 (.int .i64 a)).set hE HRB.out HX.out 3 (.int .i64 b)).set hE HRB.out HX.out 4 (.int .i64 c)).set hE HRB.out HX.out 5 (.int .i64 n)).set hE HRB.out HX.out 6 (.int .u32 (m:Int)));try rw[hV3]
      clear hV3 D7 D8 x7 z7 xr zr y7 f7' KN' HG;go_wp2;refine bodyPost_ret (by simp[results,results57,go_sem, *];try rfl) rfl ?_;rw[HRR.out];exact HD.fin HL7.out HD7.out
    .have q2:((k:Int)==1)=false:=sO;have hpb:DE k=Ax 0:=by unfold DE;rw[if_neg q]
     rw[hpb,Bz]at j6;have hz0:z=0:=HZ0.out;subst hz0;have HRR:Hid (R=.ok (⟨(k:Int),d,a,b,c,n,0⟩,(Ab s).drop A',A')):=j6;have xr:=j3;have D8:=j1;have HL7:=A6 j2;have x0:wr.cell? ⟨X,0,none⟩=some (.int .i64 0):=xr.cell (i:=0) dE;have f0:=xr.frozen 0;have x1:wr.cell? ⟨X,1,none⟩=some (.int .i64 0):=xr.cell (i:=1) dE;have f1:=xr.frozen 1;have x2:wr.cell? ⟨X,2,none⟩=some (.int .i64 0):=xr.cell (i:=2) dE;have f2:=xr.frozen 2;have x3:wr.cell? ⟨X,3,none⟩=some (.int .i64 0):=xr.cell (i:=3) dE;have f3:=xr.frozen 3;have x4:wr.cell? ⟨X,4,none⟩=some (.int .i64 0):=xr.cell (i:=4) dE;have f4:=xr.frozen 4;have x5:wr.cell? ⟨X,5,none⟩=some (.int .i64 0):=xr.cell (i:=5) dE;have f5:=xr.frozen 5;have x6:wr.cell? ⟨X,6,none⟩=some (.int .u32 0):=xr.cell (i:=6) dE;have f6:=xr.frozen 6;have HD:=A6 (((((((D8.set hE HRB.out HX.out 0 (.int .i64 (k:Int))).set hE HRB.out HX.out 1 (.int .i64 d)).set hE HRB.out HX.out 2 (.int .i64 a)).set hE HRB.out HX.out 3 (.int .i64 b)).set hE HRB.out HX.out 4 (.int .i64 c)).set hE HRB.out HX.out 5 (.int .i64 n)).set hE HRB.out HX.out 6 (.int .u32 0));clear D8 xr j1 j2 j3 j4 j6 hpb q;go_wp2;refine bodyPost_ret (by simp[results,results57,go_sem, *];try rfl) rfl ?_;rw[HRR.out];exact HD.fin HL7.out rfl
def Nf(a b c d e:Value)(j:Nat):Value:=if j=0 then a else if j=1 then b else if j=2 then c else if j=3 then d else e
theorem Nh(E RB:Nat)(s:ByteArray)(A:Nat)(w:World)(h:BB E RB s A w)(hA:A<=s.size)(hs:s.size<=281474976710656)(hE:E<=w.heap.size):
 Calls prog 55 #[.pointer (some ⟨RB,0,none⟩)] w (AX E RB s w ED (Ff ((Ab s).drop A) A)):=by
 obtain⟨W0,hW0⟩:∃W,w.alloc (.cells #[.int .i64 0,.int .i64 0,.bool false,.int .u32 0,.int .i64 0] 66)=W:=⟨_,rfl⟩
 have hb0:Below w.heap.size w W0:=by rw[<-hW0];exact A7 _ _
 have h0:=h.below hb0;have hE0:E<=W0.heap.size:=gH hE hb0.size;obtain⟨X,hX⟩:=gA (w.heap.size)
 have hXR:X≠RB:=by have:=h.b.lt;omega
 have hr0:W0.rowIs X 66 5 (Nf (.int .i64 0) (.int .i64 0) (.bool false) (.int .u32 0) (.int .i64 0)):=by
  rw[<-hW0,<-hX];exact World.rowIs_alloc w #[.int .i64 0,.int .i64 0,.bool false,.int .u32 0,.int .i64 0] 66 _ (fun i hi=>by
   rcases(show i=0\/i=1\/i=2\/i=3\/i=4 by have:i<5:=hi;omega)with rfl|rfl|rfl|rfl|rfl<;>rfl)
 have KS:Calls prog 85 #[.pointer (some ⟨RB,0,none⟩),.int .i64 0,.int .i64 1] W0 (AX E RB s W0 (fun(b:Nat)=>.int .i64 (b:Int)) (AO 0 1 ((Ab s).drop A) A)):=DT E RB s A 0 1 W0 h0 hA hs hE0;obtain⟨R,hR⟩:=gA (Ff ((Ab s).drop A) A)
 rw[hR];unfold Ff at hR;have HRS:=A6 ((BY.start h).below hE hb0);cases hq:AO 0 1 ((Ab s).drop A) A with
 |error er=>
  obtain⟨er,at_⟩:=er;have HP:R=.error (er,at_):=by rw[<-hR];exact An hq
  rw[hq]at KS;have KS':=A6 KS;have HG:Hid (∀w',Below E W0 w'->B5 RB W0 w'->AX E RB s w ED R (B2 er at_) w'):=fun w' a b=>by rw[HP];exact HRS.bad ED er at_ a b
  unfold AX B2 at KS';unfold B2 at HG;simp only at KS';clear h h0 hb0 hr0 KS hq HP hR hX hXR hE0;go_enter func55,ntmps55;exact Rs
 |ok r=>
  obtain⟨k,l',A1⟩:=r;have hk:=Fy hq;rw[Au hq]at hR;rw[hq]at KS;have KS':=A6 KS;unfold AX at KS';simp only at KS';obtain⟨kb,hkb⟩:∃b:Bool,(k==1)=b:=⟨_,rfl⟩
  rw[hkb]at hR;have qk:((k:Int)==1)=kb:=by
   rw[<-hkb];rcases(show k=0\/k=1 by omega)with rfl|rfl<;>rfl
  have HR0:=A6 hr0;have HRB:=A6 h.b.lt;have HX:Hid (w.heap.size<=X):=Nat.le_of_eq hX;have HRR:=A6 hR;clear h h0 hb0 hr0 KS hE0 hR hkb hq;go_enter func55,ntmps55;go_upto_region 1 with fail;try rw[hW0]
  try rw[hX]
  clear hW0 hX;go_upto_region 2 with(go_at_call 85;(with_reducible refine KS'.out.mono ?_);rintro e9 w4 ⟨rfl,hb4,ho4,hm4,hl4,hd4⟩;have HB4:=A6 hb4;have HO4:=A6 ho4;have HM4:=A6 hm4;have HD4:=A6 hd4;have HL4:=A6 hl4;clear hb4 ho4 hm4 hl4 hd4)
  obtain⟨Y,hY⟩:=gA (w4.heap.size)
  obtain⟨V,hV⟩:=gA (w4.alloc (.cells #[.int .i64 0,.int .i64 0,.bool kb,.int .u32 0,.int .i64 0] 66))
  have hbV:Below w4.heap.size w4 V:=by rw[<-hV];exact A7 _ _
  have r4:=AD HO4.out HR0.out hXR;have rx:=r4.of_block (hbV.block _ r4.lt);have ry:V.rowIs Y 66 5 (Nf (.int .i64 0) (.int .i64 0) (.bool kb) (.int .u32 0) (.int .i64 0)):=by
   rw[<-hV,<-hY];exact World.rowIs_alloc w4 #[.int .i64 0,.int .i64 0,.bool kb,.int .u32 0,.int .i64 0] 66 _ (fun i hi=>by
   rcases(show i=0\/i=1\/i=2\/i=3\/i=4 by have:i<5:=hi;omega)with rfl|rfl|rfl|rfl|rfl<;>rfl)
  have hXY:X≠Y:=by have:=r4.lt;omega
  have hYR:Y≠RB:=by have:=HM4.b.lt;omega
  have hwY:w.heap.size<=Y:=by have:=r4.lt;have:=HX.out;omega
  have D1:BY E RB s A1 w V:=((HRS.next HB4.out HO4.out HM4.out).below hE hbV)
  have KM:=Gn E RB s A1 V D1.2.2 HL4.out hs (gH hE D1.2.1.1);have hR:=HRR.out;rw[HD4.out]at hR;try rw[hV]
  try rw[hY]
  clear hV hY hbV HRR KS' HB4 HO4 HM4 HD4 HR0 HRS;cases hq2:Eg ((Ab s).drop A1) A1 with
  |error er=>
   obtain⟨er,at_⟩:=er;rw[An hq2]at hR;rw[hq2]at KM;have KM':=A6 KM;unfold AX B2 at KM';simp only at KM';have HG:Hid (∀w',Below E V w'->B5 RB V w'->AX E RB s w ED R (B2 er at_) w'):=fun w' a b=>by rw[<-hR];exact D1.bad ED er at_ a b
   unfold B2 at HG;clear D1 KM hq2 hR rx ry r4;go_wp2_with(go_at_call 53;(with_reducible refine KM'.out.mono ?_);rintro e9 w5 ⟨rfl,hb5,ho5⟩;have HR5:=A6 (HG.out _ hb5 ho5);clear hb5 ho5);exact⟨rfl,HR5.out⟩
  |ok r=>
   obtain⟨⟨tk,tp⟩,l2,A2⟩:=r;rw[Au hq2]at hR;rw[hq2]at KM;have KM':=A6 KM;unfold AX Co at KM';simp only at KM' hR;have HG:Hid (∀w',Below E V w'->B5 RB V w'->BB E RB s A2 w'->BY E RB s A2 w w'/\w'.rowIs X 66 5 (Nf (.int .i64 0) (.int .i64 0) (.bool false) (.int .u32 0) (.int .i64 0))/\w'.rowIs Y 66 5 (Nf (.int .i64 0) (.int .i64 0) (.bool kb) (.int .u32 0) (.int .i64 0))):=fun w' a b c=>⟨D1.next a b c,AD b rx hXR,AD b ry hYR⟩
   have HRR:=A6 hR;clear D1 KM hq2 hR rx ry r4;go_upto_region 3 with(go_at_call 53;(with_reducible refine KM'.out.mono ?_);rintro e9 w5 ⟨rfl,hb5,ho5,hm5,hl5,hd5⟩;obtain⟨D5,x5,z5⟩:=HG.out _ hb5 ho5 hm5;have HL5:=A6 hl5;have HD5:=A6 hd5;have y50:w5.cell? ⟨Y,0,none⟩=some (.int .i64 0):=z5.cell (i:=0) dE;have f50:=z5.frozen 0;have y51:w5.cell? ⟨Y,1,none⟩=some (.int .i64 0):=z5.cell (i:=1) dE;have f51:=z5.frozen 1;clear hb5 ho5 hm5 hl5 hd5)
   obtain⟨V2,hV2⟩:=gA ((w5.setCell ⟨Y,0,none⟩ (.int .i64 tk)).setCell ⟨Y,1,none⟩ (.int .i64 tp))
   have x6:=x5.of_block (w':=V2) (by rw[<-hV2];exact(gE hXY).trans (gE hXY));have z6:V2.rowIs Y 66 5 (Nf (.int .i64 tk) (.int .i64 tp) (.bool kb) (.int .u32 0) (.int .i64 0)):=by
    rw[<-hV2];exact((z5.set 0 (.int .i64 tk)).set 1 (.int .i64 tp)).congr fun j hj=>by
     exact PX
   have D6:BY E RB s A2 w V2:=by rw[<-hV2];exact(D5.set hE HRB.out hwY 0 _).set hE HRB.out hwY 1 _
   have a0:V2.cell? ⟨Y,0,none⟩=some (.int .i64 tk):=z6.cell (i:=0) dE;have hR:=HRR.out;rw[HD5.out]at hR;try rw[hV2]
   clear hV2 D5 x5 z5 y50 y51 f50 f51 HRR KM' HG HD5;by_cases q:tk=2
   .have q2:(tk==2)=true:=by simpa using q
    simp only[if_pos q]at hR;clear q;have KN:=Cu E RB s A2 V2 D6.2.2 HL5.out hs (gH hE D6.2.1.1);cases hq3:Bf ((Ab s).drop A2) A2 with
    |error er=>
     obtain⟨er,at_⟩:=er;rw[An hq3]at hR;rw[hq3]at KN;have KN':=A6 KN;unfold AX B2 at KN';simp only at KN';have HG:Hid (∀w',Below E V2 w'->B5 RB V2 w'->AX E RB s w ED R (B2 er at_) w'):=fun w' a b=>by rw[<-hR];exact D6.bad ED er at_ a b
     unfold B2 at HG;clear D6 KN hq3 hR x6 z6;exact Rx
    |ok r=>
     obtain⟨n,l3,A3⟩:=r;rw[Au hq3]at hR;rw[hq3]at KN;have KN':=A6 KN;unfold AX at KN';simp only at KN';have HG:Hid (∀w',Below E V2 w'->B5 RB V2 w'->BB E RB s A3 w'->BY E RB s A3 w w'/\w'.rowIs X 66 5 (Nf (.int .i64 0) (.int .i64 0) (.bool false) (.int .u32 0) (.int .i64 0))/\w'.rowIs Y 66 5 (Nf (.int .i64 tk) (.int .i64 tp) (.bool kb) (.int .u32 0) (.int .i64 0))):=fun w' a b c=>⟨D6.next a b c,AD b x6 hXR,AD b z6 hYR⟩
     have HRR:Hid (R=.ok (⟨⟨tk,tp⟩,kb,0,(n:Int)⟩,l3,A3)):=hR.symm;clear D6 KN hq3 hR x6 z6;go_upto_region 6 with(go_at_call 87;(with_reducible refine KN'.out.mono ?_);rintro e9 w7 ⟨rfl,hb7,ho7,hm7,hl7,hd7⟩;obtain⟨D7,x7,z7⟩:=HG.out _ hb7 ho7 hm7;have HL7:=A6 hl7;have HD7:=A6 hd7;have y7:w7.cell? ⟨Y,4,none⟩=some (.int .i64 0):=z7.cell (i:=4) dE;have f7:=z7.frozen 4;clear hb7 ho7 hm7 hl7 hd7)
     obtain⟨V3,hV3⟩:=gA (w7.setCell ⟨Y,4,none⟩ (.int .i64 (n:Int)))
     have x8:=x7.of_block (w':=V3) OF;have z8:V3.rowIs Y 66 5 (Nf (.int .i64 tk) (.int .i64 tp) (.bool kb) (.int .u32 0) (.int .i64 (n:Int))):=by
      rw[<-hV3];exact(z7.set 4 (.int .i64 (n:Int))).congr fun j hj=>by
       exact PX
     have D8:BY E RB s A3 w V3:=by rw[<-hV3];exact D7.set hE HRB.out hwY 4 _
     have b0:V3.cell? ⟨Y,0,none⟩=some (.int .i64 tk):=z8.cell (i:=0) dE;have b1:V3.cell? ⟨Y,1,none⟩=some (.int .i64 tp):=z8.cell (i:=1) dE;have b2:V3.cell? ⟨Y,2,none⟩=some (.bool kb):=z8.cell (i:=2) dE;have b3:V3.cell? ⟨Y,3,none⟩=some (.int .u32 0):=z8.cell (i:=3) dE;have b4:V3.cell? ⟨Y,4,none⟩=some (.int .i64 (n:Int)):=z8.cell (i:=4) dE;have x0:V3.cell? ⟨X,0,none⟩=some (.int .i64 0):=x8.cell (i:=0) dE;have x1:V3.cell? ⟨X,1,none⟩=some (.int .i64 0):=x8.cell (i:=1) dE;have x2:V3.cell? ⟨X,2,none⟩=some (.bool false):=x8.cell (i:=2) dE;have x3:V3.cell? ⟨X,3,none⟩=some (.int .u32 0):=x8.cell (i:=3) dE;have x4:V3.cell? ⟨X,4,none⟩=some (.int .i64 0):=x8.cell (i:=4) dE;have f0:=x8.frozen 0;have f1:=x8.frozen 1;have f2:=x8.frozen 2;have f3:=x8.frozen 3;have f4:=x8.frozen 4;have HD:=A6 (((((D8.set hE HRB.out HX.out 0 (.int .i64 tk)).set hE HRB.out HX.out 1 (.int .i64 tp)).set hE HRB.out HX.out 2 (.bool kb)).set hE HRB.out HX.out 3 (.int .u32 0)).set hE HRB.out HX.out 4 (.int .i64 (n:Int)));exact SF
   .have q2:(tk==2)=false:=by simpa using q
    simp only[if_neg q]at hR;have KN:=EY E RB s A2 V2 D6.2.2 HL5.out hs (gH hE D6.2.1.1);cases hq3:C4 4 ((Ab s).drop A2) A2 with
    |error er=>
     obtain⟨er,at_⟩:=er;rw[An hq3]at hR;rw[hq3]at KN;have KN':=A6 KN;unfold AX B2 at KN';simp only at KN';have HG:Hid (∀w',Below E V2 w'->B5 RB V2 w'->AX E RB s w ED R (B2 er at_) w'):=fun w' a b=>by rw[<-hR];exact D6.bad ED er at_ a b
     unfold B2 at HG;clear D6 KN hq3 hR x6 z6;exact SL
    |ok r=>
     obtain⟨n,l3,A3⟩:=r;rw[Au hq3]at hR;rw[hq3]at KN;have KN':=A6 KN;unfold AX at KN';simp only at KN';have HG:Hid (∀w',Below E V2 w'->B5 RB V2 w'->BB E RB s A3 w'->BY E RB s A3 w w'/\w'.rowIs X 66 5 (Nf (.int .i64 0) (.int .i64 0) (.bool false) (.int .u32 0) (.int .i64 0))/\w'.rowIs Y 66 5 (Nf (.int .i64 tk) (.int .i64 tp) (.bool kb) (.int .u32 0) (.int .i64 0))):=fun w' a b c=>⟨D6.next a b c,AD b x6 hXR,AD b z6 hYR⟩
     have HRR:Hid (R=.ok (⟨⟨tk,tp⟩,kb,(n:Int),0⟩,l3,A3)):=hR.symm;clear D6 KN hq3 hR x6 z6;go_upto_region 6 with(go_at_call 88;(with_reducible refine KN'.out.mono ?_);rintro e9 w7 ⟨rfl,hb7,ho7,hm7,hl7,hd7⟩;obtain⟨D7,x7,z7⟩:=HG.out _ hb7 ho7 hm7;have HL7:=A6 hl7;have HD7:=A6 hd7;have y7:w7.cell? ⟨Y,3,none⟩=some (.int .u32 0):=z7.cell (i:=3) dE;have f7:=z7.frozen 3;clear hb7 ho7 hm7 hl7 hd7)
     obtain⟨V3,hV3⟩:=gA (w7.setCell ⟨Y,3,none⟩ (.int .u32 (n:Int)))
     have x8:=x7.of_block (w':=V3) OF;have z8:V3.rowIs Y 66 5 (Nf (.int .i64 tk) (.int .i64 tp) (.bool kb) (.int .u32 (n:Int)) (.int .i64 0)):=by
      rw[<-hV3];exact(z7.set 3 (.int .u32 (n:Int))).congr fun j hj=>by
       exact PX
     have D8:BY E RB s A3 w V3:=by rw[<-hV3];exact D7.set hE HRB.out hwY 3 _
     have b0:V3.cell? ⟨Y,0,none⟩=some (.int .i64 tk):=z8.cell (i:=0) dE;have b1:V3.cell? ⟨Y,1,none⟩=some (.int .i64 tp):=z8.cell (i:=1) dE;have b2:V3.cell? ⟨Y,2,none⟩=some (.bool kb):=z8.cell (i:=2) dE;have b3:V3.cell? ⟨Y,3,none⟩=some (.int .u32 (n:Int)):=z8.cell (i:=3) dE;have b4:V3.cell? ⟨Y,4,none⟩=some (.int .i64 0):=z8.cell (i:=4) dE;have x0:V3.cell? ⟨X,0,none⟩=some (.int .i64 0):=x8.cell (i:=0) dE;have x1:V3.cell? ⟨X,1,none⟩=some (.int .i64 0):=x8.cell (i:=1) dE;have x2:V3.cell? ⟨X,2,none⟩=some (.bool false):=x8.cell (i:=2) dE;have x3:V3.cell? ⟨X,3,none⟩=some (.int .u32 0):=x8.cell (i:=3) dE;have x4:V3.cell? ⟨X,4,none⟩=some (.int .i64 0):=x8.cell (i:=4) dE;have f0:=x8.frozen 0;have f1:=x8.frozen 1;have f2:=x8.frozen 2;have f3:=x8.frozen 3;have f4:=x8.frozen 4;have HD:=A6 (((((D8.set hE HRB.out HX.out 0 (.int .i64 tk)).set hE HRB.out HX.out 1 (.int .i64 tp)).set hE HRB.out HX.out 2 (.bool kb)).set hE HRB.out HX.out 3 (.int .u32 (n:Int))).set hE HRB.out HX.out 4 (.int .i64 0));exact SF
theorem Gj(v0 v1 v2 v3:Value)(c:Cd)(hk:BF c)(n p:Int)(hp:n=1->At p c.sign.length=true)(w:World)(hv:Ef w v0 v1 v2 v3 c):
 Calls prog 93 #[.agg #[v0,v1,v2,v3],.int .i64 n,.int .i64 p] w fun e w'=>e=.returned (.bool (n==0||(n==1&&CK c.sign p==2)))/\Below w.heap.size w w':=by
 have HB:=hk.signL;by_cases h0:n=0
 .subst h0;clear hp hv;go_enter func93,ntmps93;go_wp2;go_ret;exact⟨rfl,A7 _ _⟩
 .have h0':(n==0)=false:=by simpa using h0
  by_cases h1:n=1
  .subst h1;obtain⟨k,rfl,hkl⟩:=Cy (hp rfl);have hr:=hv.sign;obtain⟨p,q,rfl,hrr⟩:=hv.sign;obtain⟨lb,lo,rfl,hc⟩:=hr.at hkl;have e:CK c.sign (k:Int)=c.sign[k].kind:=by unfold CK;rw[Int.toNat_natCast,gB hkl];rfl
   rw[e];obtain⟨⟨nm,K,L⟩,ht⟩:∃t:Bd,c.sign[k]=t:=⟨_,rfl⟩
   rw[ht]at hc |-;have y1:w.cell? ⟨lb,lo+k*3+1,none⟩=some (.int .i64 K):=hc.at 1 rfl;have g1:∀o,(w.alloc o).cell? ⟨lb,lo+k*3+1,none⟩=some (.int .i64 K):=fun o=>kc (A7 _ _) y1;obtain⟨N,hN⟩:=gA (c.sign.length)
   rw[hN]at hkl HB |-;clear hr hrr hc ht e hp hv hN h0 hk;simp only;go_enter func93,ntmps93;go_wp2;go_ret;exact⟨Ad sM,A7 _ _⟩
  .have h1':(n==1)=false:=by simpa using h1
   rw[h0',h1'];clear hp hv h0 h1;go_enter func93,ntmps93;go_wp2;go_ret;exact⟨rfl,A7 _ _⟩
def Dq(i:Ar):Int:=if Dx i.op||(i.op==29||(i.op==30||i.op==32))then i.d else if i.op==31||i.op==33 then i.a else -1
def DY(rs:List Ty)(n:Int):Int:=if At n rs.length&&(Ay rs n).kind==3 then(Ay rs n).par else -1
theorem Hy(v0 v1 v2 v3:Value)(c:Cd)(hk:BF c)(i:Ar)(w:World)(hv:Ef w v0 v1 v2 v3 c):
 Calls prog 69 #[.agg #[v0,v1,v2,v3],Bn i] w fun e w'=>e=.returned (.int .i64 (DY c.regs (Dq i)))/\Below w.heap.size w w':=by
 have HB:=hk.regsL;have KE:Hid (∀v,Calls prog 94 #[.int .i64 i.op] v fun e w'=>e=.returned (.bool (Dx i.op))/\w'=v):=KZ i.op;have hr:=hv.regs;obtain⟨p,q,rfl,hrr⟩:=hv.regs;clear hv hk hrr;obtain⟨op,D,A,B,E,nn,bb⟩:=i;unfold Bn;simp only at KE |-;have EA:∀n:Int,(At n c.regs.length=false/\DY c.regs n= -1)\/∃ (k:Nat) (lb lo:Nat) (K P:Int),n=(k:Int)/\k<c.regs.length/\p=some ⟨lb,lo,none⟩/\w.cell? ⟨lb,lo+k*2,none⟩=some (.int .i64 K)/\w.cell? ⟨lb,lo+k*2+1,none⟩=some (.int .i64 P)/\DY c.regs n=if K==3 then P else -1:=by
  intro n;cases h:At n c.regs.length
  .exact .inl ⟨rfl,by unfold DY;rw[h];rfl⟩
  .obtain⟨k,rfl,hkl⟩:=Cy h;obtain⟨lb,lo,hp,hc⟩:=hr.at hkl;refine .inr ⟨k,lb,lo,c.regs[k].kind,c.regs[k].par,rfl,hkl,hp,hc.at 0 rfl,hc.at 1 rfl,?_⟩;unfold DY;rw[h,Di rfl hkl,Bool.true_and]
 obtain⟨N,hN⟩:=gA (c.regs.length)
 rw[hN]at HB EA |-;clear hr;cases hX:Dx op
 .rw[hX]at KE;by_cases a29:op=29
  .subst a29;rw[show Dq ⟨29,D,A,B,E,nn,bb⟩=D from rfl];rcases EA D with⟨hpl,e9⟩|⟨k,lb,lo,K,P,rfl,hkl,rfl,y0,y1,e9⟩
   .rw[e9];clear EA e9;by_cases h0:D<0
    .exact F1
    .have h1:(N:Int)<=D:=by unfold At at hpl;simp at hpl;omega
     exact F1
   .rw[e9];clear EA e9;have g0:∀o o',((w.alloc o).alloc o').cell? ⟨lb,lo+k*2,none⟩=some (.int .i64 K):=fun o o'=>kc (bel (A7 _ _) (A7 _ _)) y0;have g1:∀o o',((w.alloc o).alloc o').cell? ⟨lb,lo+k*2+1,none⟩=some (.int .i64 P):=fun o o'=>kc (bel (A7 _ _) (A7 _ _)) y1;by_cases h3:K=3
    .subst h3;exact F1
    .have h3':(K==3)=false:=by simpa using h3
     have h3b:(K != 3)=true:=by simpa using h3
     rw[h3'];clear h3;exact F1
  by_cases a30:op=30
  .subst a30;rw[show Dq ⟨30,D,A,B,E,nn,bb⟩=D from rfl];rcases EA D with⟨hpl,e9⟩|⟨k,lb,lo,K,P,rfl,hkl,rfl,y0,y1,e9⟩
   .rw[e9];clear EA e9;by_cases h0:D<0
    .exact F1
    .have h1:(N:Int)<=D:=by unfold At at hpl;simp at hpl;omega
     exact F1
   .rw[e9];clear EA e9;have g0:∀o o',((w.alloc o).alloc o').cell? ⟨lb,lo+k*2,none⟩=some (.int .i64 K):=fun o o'=>kc (bel (A7 _ _) (A7 _ _)) y0;have g1:∀o o',((w.alloc o).alloc o').cell? ⟨lb,lo+k*2+1,none⟩=some (.int .i64 P):=fun o o'=>kc (bel (A7 _ _) (A7 _ _)) y1;by_cases h3:K=3
    .subst h3;exact F1
    .have h3':(K==3)=false:=by simpa using h3
     have h3b:(K != 3)=true:=by simpa using h3
     rw[h3'];clear h3;exact F1
  by_cases a32:op=32
  .subst a32;rw[show Dq ⟨32,D,A,B,E,nn,bb⟩=D from rfl];rcases EA D with⟨hpl,e9⟩|⟨k,lb,lo,K,P,rfl,hkl,rfl,y0,y1,e9⟩
   .rw[e9];clear EA e9;by_cases h0:D<0
    .exact F1
    .have h1:(N:Int)<=D:=by unfold At at hpl;simp at hpl;omega
     exact F1
   .rw[e9];clear EA e9;have g0:∀o o',((w.alloc o).alloc o').cell? ⟨lb,lo+k*2,none⟩=some (.int .i64 K):=fun o o'=>kc (bel (A7 _ _) (A7 _ _)) y0;have g1:∀o o',((w.alloc o).alloc o').cell? ⟨lb,lo+k*2+1,none⟩=some (.int .i64 P):=fun o o'=>kc (bel (A7 _ _) (A7 _ _)) y1;by_cases h3:K=3
    .subst h3;exact F1
    .have h3':(K==3)=false:=by simpa using h3
     have h3b:(K != 3)=true:=by simpa using h3
     rw[h3'];clear h3;exact F1
  by_cases a31:op=31
  .subst a31;rw[show Dq ⟨31,D,A,B,E,nn,bb⟩=A from rfl];rcases EA A with⟨hpl,e9⟩|⟨k,lb,lo,K,P,rfl,hkl,rfl,y0,y1,e9⟩
   .rw[e9];clear EA e9;by_cases h0:A<0
    .exact F1
    .have h1:(N:Int)<=A:=by unfold At at hpl;simp at hpl;omega
     exact F1
   .rw[e9];clear EA e9;have g0:∀o o',((w.alloc o).alloc o').cell? ⟨lb,lo+k*2,none⟩=some (.int .i64 K):=fun o o'=>kc (bel (A7 _ _) (A7 _ _)) y0;have g1:∀o o',((w.alloc o).alloc o').cell? ⟨lb,lo+k*2+1,none⟩=some (.int .i64 P):=fun o o'=>kc (bel (A7 _ _) (A7 _ _)) y1;by_cases h3:K=3
    .subst h3;exact F1
    .have h3':(K==3)=false:=by simpa using h3
     have h3b:(K != 3)=true:=by simpa using h3
     rw[h3'];clear h3;exact F1
  by_cases a33:op=33
  .subst a33;rw[show Dq ⟨33,D,A,B,E,nn,bb⟩=A from rfl];rcases EA A with⟨hpl,e9⟩|⟨k,lb,lo,K,P,rfl,hkl,rfl,y0,y1,e9⟩
   .rw[e9];clear EA e9;by_cases h0:A<0
    .exact F1
    .have h1:(N:Int)<=A:=by unfold At at hpl;simp at hpl;omega
     exact F1
   .rw[e9];clear EA e9;have g0:∀o o',((w.alloc o).alloc o').cell? ⟨lb,lo+k*2,none⟩=some (.int .i64 K):=fun o o'=>kc (bel (A7 _ _) (A7 _ _)) y0;have g1:∀o o',((w.alloc o).alloc o').cell? ⟨lb,lo+k*2+1,none⟩=some (.int .i64 P):=fun o o'=>kc (bel (A7 _ _) (A7 _ _)) y1;by_cases h3:K=3
    .subst h3;exact F1
    .have h3':(K==3)=false:=by simpa using h3
     have h3b:(K != 3)=true:=by simpa using h3
     rw[h3'];clear h3;exact F1
  .have b29:(op==29)=false:=by simpa using a29
   have b30:(op==30)=false:=by simpa using a30
   have b31:(op==31)=false:=by simpa using a31
   have b32:(op==32)=false:=by simpa using a32
   have b33:(op==33)=false:=by simpa using a33
   rw[show Dq ⟨op,D,A,B,E,nn,bb⟩= -1 by unfold Dq;simp[hX,b29,b30,b31,b32,b33]];rw[show DY c.regs (-1)= -1 by unfold DY At;simp];clear EA a29 a30 a31 a32 a33;exact F1
 .rw[hX]at KE;rw[show Dq ⟨op,D,A,B,E,nn,bb⟩=D by unfold Dq;simp[hX]];rcases EA D with⟨hpl,e9⟩|⟨k,lb,lo,K,P,rfl,hkl,rfl,y0,y1,e9⟩
  .rw[e9];clear EA e9;by_cases h0:D<0
   .exact F1
   .have h1:(N:Int)<=D:=by unfold At at hpl;simp at hpl;omega
    exact F1
  .rw[e9];clear EA e9;have g0:∀o o',((w.alloc o).alloc o').cell? ⟨lb,lo+k*2,none⟩=some (.int .i64 K):=fun o o'=>kc (bel (A7 _ _) (A7 _ _)) y0;have g1:∀o o',((w.alloc o).alloc o').cell? ⟨lb,lo+k*2+1,none⟩=some (.int .i64 P):=fun o o'=>kc (bel (A7 _ _) (A7 _ _)) y1;by_cases h3:K=3
   .subst h3;exact F1
   .have h3':(K==3)=false:=by simpa using h3
    have h3b:(K != 3)=true:=by simpa using h3
    rw[h3'];clear h3;exact F1
theorem IK(E RB:Nat)(s:ByteArray)(A:Nat)(w:World)(h:BB E RB s A w)(hA:A<=s.size)(hs:s.size<=281474976710656)(hE:E<=w.heap.size):
 Calls prog 52 #[.pointer (some ⟨RB,0,none⟩),.int .i64 16384,.func (.func 53) #[.pointer (some ⟨RB,0,none⟩)] #[]] w (Ez E RB s w 62 2 Ed (Bq 16384 Eg ((Ab s).drop A) A)):=by
 have KN:Calls prog 84 #[.pointer (some ⟨RB,0,none⟩),.int .i64 16384] w (AX E RB s w (fun(b:Nat)=>.int .i64 (b:Int)) (B4 16384 ((Ab s).drop A) A)):=CN E RB s A 16384 w h hA hs hE;have hRB:RB<w.heap.size:=h.b.lt;cases hq:B4 16384 ((Ab s).drop A) A with
 |error er=>
  obtain⟨er,at_⟩:=er;have HP:Hid (Bq 16384 Eg ((Ab s).drop A) A=.error (er,at_)):=by show Bq _ _ _ _=_;unfold Bq;exact An hq
  rw[HP.out];rw[hq]at KN;have KN':=A6 KN;unfold AX B2 at KN';unfold Ez B2;simp only at KN' |-;clear h KN hq HP hRB;go_enter func52,ntmps52;exact QL
 |ok r=>
  obtain⟨N,l1,A1⟩:=r;have hN:=CU hq;rw[hq]at KN;have KN':=A6 KN;unfold AX at KN';simp only at KN';have HST:Hid (l1=(Ab s).drop A1->Bq 16384 Eg ((Ab s).drop A) A=Bb Eg (N-0) [] ((Ab s).drop A1) A1):=fun e=>by
   exact QW
  obtain⟨R,hR⟩:=gA (Bq 16384 Eg ((Ab s).drop A) A)
  rw[hR]at HST |-;have HRB:=A6 hRB;have HE:=A6 hE;have HS:=A6 hs;clear h KN hq hR hRB hA hs hE;go_enter func52,ntmps52;go_upto_block 0 with(go_at_call 84;(with_reducible refine KN'.out.mono ?_);rintro e9 w4 ⟨rfl,hb4,ho4,hm4,hl4,hd4⟩;have HJ0:=A6 (And.intro hb4 (And.intro ho4 (And.intro hm4 (And.intro hl4 hd4))));clear hb4 ho4 hm4 hl4 hd4)
  go_wp2_with fail
  go_loopw [7,11] (fun lv iv wx=>∃ (k A':Nat) (xs:List Ty) (p:Option Addr) (q:Nat),k<=N/\iv=.int .i64 (k:Int)/\lv=.slice p k q/\Hid (xs.length=k/\Below E w wx/\B5 RB w wx/\BB E RB s A' wx/\A'<=s.size/\wx.ownsRow w.heap.size 62 2 (.slice p k q) k (AH Ed xs)/\R=Bb Eg (N-k) xs ((Ab s).drop A') A')) (fun _ iv _=>N-(intOf iv).toNat)
  case atStart=>
   obtain⟨j1,j2,j3,j4,j5⟩:=HJ0.out;exact⟨0,A1,[],none,0,gI _,rfl,rfl,rfl,j1,j2,j3,j4,World.ownsRow_nil _ _ _ 2,HST.out j5⟩
  case round=>
   clear HJ0 HST KN';obtain⟨k,A',xs,p,q,hk,rfl,rfl,HJ⟩:=hrel;by_cases hlt:k<N
   .obtain⟨j1,j2,j3,j4,j5,j6,j7⟩:=HJ.out;have e1:(k:Int)<(N:Int):=oM;have hEr:E<=wr.heap.size:=gH HE.out j3.1;have KX:=Gn E RB s A' wr j4 j5 HS.out hEr;rw[show N-k=(N-(k+1))+1 by omega,Cx]at j7;cases hq2:Eg ((Ab s).drop A') A' with
    |error er=>
     obtain⟨er,at_⟩:=er;rw[An hq2]at j7;rw[hq2]at KX;have KX':=A6 KX;unfold AX B2 at KX';simp only at KX';have HG:Hid (∀w',Below E wr w'->B5 RB wr w'->Ez E RB s w 62 2 Ed R (B2 er at_) w'):=fun w' a b=>by rw[j7];exact⟨rfl,j2.trans a,j3.trans b⟩
     unfold B2 at HG;clear j1 j2 j3 j4 j5 j6 j7 hq2 KX HJ hEr hlt;go_wp2_with(go_at_call 53;(with_reducible refine KX'.out.mono ?_);rintro e9 w5 ⟨rfl,hb5,ho5⟩;have HR5:=A6 (HG.out _ hb5 ho5);clear hb5 ho5);exact⟨rfl,HR5.out⟩
    |ok r=>
     obtain⟨x,l2,A2⟩:=r;rw[Au hq2]at j7;rw[hq2]at KX;have KX':=A6 KX;unfold AX at KX';simp only[Co]at KX';have HAP:Hid (∀w5,B5 RB wr w5->∃g c' w6,(Builtin.append_ #[23,23] 23 #[.slice p k q,.slice (some ⟨w5.heap.size,0,none⟩) 1 1]).run prog (w5.alloc (.cells #[.int .i64 (x.kind),.int .i64 (x.par)] 62))=.ok (.slice (some ⟨g,0,none⟩) (k+1) c') w6/\Below w.heap.size w5 w6/\w6.ownsRow w.heap.size 62 2 (.slice (some ⟨g,0,none⟩) (k+1) c') (k+1) (AH Ed (xs++[x]))):=fun w5 ho=>by
      have hown:w5.ownsRow w.heap.size 62 2 (.slice p k q) k (AH Ed xs):=Ae j6 fun b hb=>ho.2 b (j6.lt b hb).2 (fun e=>by have:=(j6.lt b hb).1;have:=HRB.out;omega);obtain⟨g,c',w6,a1,a2,a3,-⟩:=BN underlying23 Ge rfl dE hown (gH j3.1 ho.1) #[.int .i64 (x.kind),.int .i64 (x.par)] rfl (fun u hu=>JV x u hu) mL oM 23;exact QX
     have HG:Hid (∀w5 w6,Below E wr w5->B5 RB wr w5->BB E RB s A2 w5->Below w.heap.size w5 w6->Below E w w6/\B5 RB w w6/\BB E RB s A2 w6):=fun w5 w6 a b c d=>
      ⟨(j2.trans a).trans (d.mono HE.out),⟨gH (j3.trans b).1 d.size,fun i hi hne=>(d.block i hi).trans ((j3.trans b).2 i hi hne)⟩,⟨c.b.of_block (d.block _ HRB.out),c.ge⟩⟩
     have HXL:Hid ((xs++[x]).length=k+1):=by show _=_;rw[List.length_append,j1];rfl
     have H7:=A6 j7;have wi:IntKind.i64.wrap ((k:Int)+1)=((k+1:Nat):Int):=by rw[IntKind.wrap_i64];omega
     clear j1 j2 j3 j4 j5 j6 j7 hq2 KX HJ hEr;go_wp2_with(first|(go_at_call 53;(with_reducible refine KX'.out.mono ?_);rintro e9 w5 ⟨rfl,hb5,ho5,hm5,hl5,hd5⟩;obtain⟨g,c',w6,hrun,hb6,ho6⟩:=HAP.out w5 ho5;have HRUN:=A6 hrun;have HO6:=A6 ho6;have HQ:=A6 (HG.out w5 w6 hb5 ho5 hm5 hb6);have HL5:=A6 hl5;have HD5:=A6 hd5;clear hb5 ho5 hm5 hl5 hd5 hrun hb6 ho6)|(at_builtin;refine B1 rF _ _ _ rF _ _ _ rF rF HRUN.out ?_));exact QK
   .obtain⟨j1,j2,j3,j4,j5,j6,j7⟩:=HJ.out;have e1:¬ (k:Int)<(N:Int):=oM;rw[show N-k=0 by omega,CV]at j7;have HG:Hid (Ez E RB s w 62 2 Ed R (.returned (.slice p k q)) wr):=by show Ez _ _ _ _ _ _ _ _ _ _;rw[j7];exact⟨_,rfl,by rw[j1];exact j6,j2,j3,j4,j5,rfl⟩
    clear j1 j2 j3 j4 j5 j6 j7 HJ hlt;go_wp2;refine bodyPost_ret (by simp[results,results52,go_sem, *];try rfl) rfl ?_;exact HG.out
theorem IJ(E RB:Nat)(s:ByteArray)(A:Nat)(w:World)(h:BB E RB s A w)(hA:A<=s.size)(hs:s.size<=281474976710656)(hE:E<=w.heap.size):
 Calls prog 54 #[.pointer (some ⟨RB,0,none⟩),.int .i64 4096,.func (.func 55) #[.pointer (some ⟨RB,0,none⟩)] #[]] w (Ez E RB s w 66 5 EP (Bq 4096 Ff ((Ab s).drop A) A)):=by
 have KN:Calls prog 84 #[.pointer (some ⟨RB,0,none⟩),.int .i64 4096] w (AX E RB s w (fun(b:Nat)=>.int .i64 (b:Int)) (B4 4096 ((Ab s).drop A) A)):=CN E RB s A 4096 w h hA hs hE;have hRB:RB<w.heap.size:=h.b.lt;cases hq:B4 4096 ((Ab s).drop A) A with
 |error er=>
  obtain⟨er,at_⟩:=er;have HP:Hid (Bq 4096 Ff ((Ab s).drop A) A=.error (er,at_)):=by show Bq _ _ _ _=_;unfold Bq;exact An hq
  rw[HP.out];rw[hq]at KN;have KN':=A6 KN;unfold AX B2 at KN';unfold Ez B2;simp only at KN' |-;clear h KN hq HP hRB;go_enter func54,ntmps54;exact QL
 |ok r=>
  obtain⟨N,l1,A1⟩:=r;have hN:=CU hq;rw[hq]at KN;have KN':=A6 KN;unfold AX at KN';simp only at KN';have HST:Hid (l1=(Ab s).drop A1->Bq 4096 Ff ((Ab s).drop A) A=Bb Ff (N-0) [] ((Ab s).drop A1) A1):=fun e=>by
   exact QW
  obtain⟨R,hR⟩:=gA (Bq 4096 Ff ((Ab s).drop A) A)
  rw[hR]at HST |-;have HRB:=A6 hRB;have HE:=A6 hE;have HS:=A6 hs;clear h KN hq hR hRB hA hs hE;go_enter func54,ntmps54;go_upto_block 0 with(go_at_call 84;(with_reducible refine KN'.out.mono ?_);rintro e9 w4 ⟨rfl,hb4,ho4,hm4,hl4,hd4⟩;have HJ0:=A6 (And.intro hb4 (And.intro ho4 (And.intro hm4 (And.intro hl4 hd4))));clear hb4 ho4 hm4 hl4 hd4)
  go_wp2_with fail
  go_loopw [7,11] (fun lv iv wx=>∃ (k A':Nat) (xs:List Sl) (p:Option Addr) (q:Nat),k<=N/\iv=.int .i64 (k:Int)/\lv=.slice p k q/\Hid (xs.length=k/\Below E w wx/\B5 RB w wx/\BB E RB s A' wx/\A'<=s.size/\wx.ownsRow w.heap.size 66 5 (.slice p k q) k (AH EP xs)/\R=Bb Ff (N-k) xs ((Ab s).drop A') A')) (fun _ iv _=>N-(intOf iv).toNat)
  case atStart=>
   obtain⟨j1,j2,j3,j4,j5⟩:=HJ0.out;exact⟨0,A1,[],none,0,gI _,rfl,rfl,rfl,j1,j2,j3,j4,World.ownsRow_nil _ _ _ 5,HST.out j5⟩
  case round=>
   clear HJ0 HST KN';obtain⟨k,A',xs,p,q,hk,rfl,rfl,HJ⟩:=hrel;by_cases hlt:k<N
   .obtain⟨j1,j2,j3,j4,j5,j6,j7⟩:=HJ.out;have e1:(k:Int)<(N:Int):=oM;have hEr:E<=wr.heap.size:=gH HE.out j3.1;have KX:=Nh E RB s A' wr j4 j5 HS.out hEr;rw[show N-k=(N-(k+1))+1 by omega,Cx]at j7;cases hq2:Ff ((Ab s).drop A') A' with
    |error er=>
     obtain⟨er,at_⟩:=er;rw[An hq2]at j7;rw[hq2]at KX;have KX':=A6 KX;unfold AX B2 at KX';simp only at KX';have HG:Hid (∀w',Below E wr w'->B5 RB wr w'->Ez E RB s w 66 5 EP R (B2 er at_) w'):=fun w' a b=>by rw[j7];exact⟨rfl,j2.trans a,j3.trans b⟩
     unfold B2 at HG;clear j1 j2 j3 j4 j5 j6 j7 hq2 KX HJ hEr hlt;go_wp2_with(go_at_call 55;(with_reducible refine KX'.out.mono ?_);rintro e9 w5 ⟨rfl,hb5,ho5⟩;have HR5:=A6 (HG.out _ hb5 ho5);clear hb5 ho5);exact⟨rfl,HR5.out⟩
    |ok r=>
     obtain⟨x,l2,A2⟩:=r;rw[Au hq2]at j7;rw[hq2]at KX;have KX':=A6 KX;unfold AX at KX';simp only[ED]at KX';have HAP:Hid (∀w5,B5 RB wr w5->∃g c' w6,(Builtin.append_ #[24,24] 24 #[.slice p k q,.slice (some ⟨w5.heap.size,0,none⟩) 1 1]).run prog (w5.alloc (.cells #[.int .i64 (x.ty.kind),.int .i64 (x.ty.par),.bool (x.keep),.int .u32 (x.bits),.int .i64 (x.int_)] 66))=.ok (.slice (some ⟨g,0,none⟩) (k+1) c') w6/\Below w.heap.size w5 w6/\w6.ownsRow w.heap.size 66 5 (.slice (some ⟨g,0,none⟩) (k+1) c') (k+1) (AH EP (xs++[x]))):=fun w5 ho=>by
      have hown:w5.ownsRow w.heap.size 66 5 (.slice p k q) k (AH EP xs):=Ae j6 fun b hb=>ho.2 b (j6.lt b hb).2 (fun e=>by have:=(j6.lt b hb).1;have:=HRB.out;omega);obtain⟨g,c',w6,a1,a2,a3,-⟩:=BN underlying24 Gd rfl dE hown (gH j3.1 ho.1) #[.int .i64 (x.ty.kind),.int .i64 (x.ty.par),.bool (x.keep),.int .u32 (x.bits),.int .i64 (x.int_)] rfl (fun u hu=>JT x u hu) mL oM 24;exact QX
     have HG:Hid (∀w5 w6,Below E wr w5->B5 RB wr w5->BB E RB s A2 w5->Below w.heap.size w5 w6->Below E w w6/\B5 RB w w6/\BB E RB s A2 w6):=fun w5 w6 a b c d=>
      ⟨(j2.trans a).trans (d.mono HE.out),⟨gH (j3.trans b).1 d.size,fun i hi hne=>(d.block i hi).trans ((j3.trans b).2 i hi hne)⟩,⟨c.b.of_block (d.block _ HRB.out),c.ge⟩⟩
     have HXL:Hid ((xs++[x]).length=k+1):=by show _=_;rw[List.length_append,j1];rfl
     have H7:=A6 j7;have wi:IntKind.i64.wrap ((k:Int)+1)=((k+1:Nat):Int):=by rw[IntKind.wrap_i64];omega
     clear j1 j2 j3 j4 j5 j6 j7 hq2 KX HJ hEr;go_wp2_with(first|(go_at_call 55;(with_reducible refine KX'.out.mono ?_);rintro e9 w5 ⟨rfl,hb5,ho5,hm5,hl5,hd5⟩;obtain⟨g,c',w6,hrun,hb6,ho6⟩:=HAP.out w5 ho5;have HRUN:=A6 hrun;have HO6:=A6 ho6;have HQ:=A6 (HG.out w5 w6 hb5 ho5 hm5 hb6);have HL5:=A6 hl5;have HD5:=A6 hd5;clear hb5 ho5 hm5 hl5 hd5 hrun hb6 ho6)|(at_builtin;refine B1 rF _ _ _ rF _ _ _ rF rF HRUN.out ?_));exact QK
   .obtain⟨j1,j2,j3,j4,j5,j6,j7⟩:=HJ.out;have e1:¬ (k:Int)<(N:Int):=oM;rw[show N-k=0 by omega,CV]at j7;have HG:Hid (Ez E RB s w 66 5 EP R (.returned (.slice p k q)) wr):=by show Ez _ _ _ _ _ _ _ _ _ _;rw[j7];exact⟨_,rfl,by rw[j1];exact j6,j2,j3,j4,j5,rfl⟩
    clear j1 j2 j3 j4 j5 j6 j7 HJ hlt;go_wp2;refine bodyPost_ret (by simp[results,results54,go_sem, *];try rfl) rfl ?_;exact HG.out
theorem IH(E RB:Nat)(s:ByteArray)(A:Nat)(w:World)(h:BB E RB s A w)(hA:A<=s.size)(hs:s.size<=281474976710656)(hE:E<=w.heap.size):
 Calls prog 56 #[.pointer (some ⟨RB,0,none⟩),.int .i64 32768,.func (.func 57) #[.pointer (some ⟨RB,0,none⟩)] #[]] w (Ez E RB s w 70 7 C2 (Bq 32768 Cw ((Ab s).drop A) A)):=by
 have KN:Calls prog 84 #[.pointer (some ⟨RB,0,none⟩),.int .i64 32768] w (AX E RB s w (fun(b:Nat)=>.int .i64 (b:Int)) (B4 32768 ((Ab s).drop A) A)):=CN E RB s A 32768 w h hA hs hE;have hRB:RB<w.heap.size:=h.b.lt;cases hq:B4 32768 ((Ab s).drop A) A with
 |error er=>
  obtain⟨er,at_⟩:=er;have HP:Hid (Bq 32768 Cw ((Ab s).drop A) A=.error (er,at_)):=by show Bq _ _ _ _=_;unfold Bq;exact An hq
  rw[HP.out];rw[hq]at KN;have KN':=A6 KN;unfold AX B2 at KN';unfold Ez B2;simp only at KN' |-;clear h KN hq HP hRB;go_enter func56,ntmps56;exact QL
 |ok r=>
  obtain⟨N,l1,A1⟩:=r;have hN:=CU hq;rw[hq]at KN;have KN':=A6 KN;unfold AX at KN';simp only at KN';have HST:Hid (l1=(Ab s).drop A1->Bq 32768 Cw ((Ab s).drop A) A=Bb Cw (N-0) [] ((Ab s).drop A1) A1):=fun e=>by
   exact QW
  obtain⟨R,hR⟩:=gA (Bq 32768 Cw ((Ab s).drop A) A)
  rw[hR]at HST |-;have HRB:=A6 hRB;have HE:=A6 hE;have HS:=A6 hs;clear h KN hq hR hRB hA hs hE;go_enter func56,ntmps56;go_upto_block 0 with(go_at_call 84;(with_reducible refine KN'.out.mono ?_);rintro e9 w4 ⟨rfl,hb4,ho4,hm4,hl4,hd4⟩;have HJ0:=A6 (And.intro hb4 (And.intro ho4 (And.intro hm4 (And.intro hl4 hd4))));clear hb4 ho4 hm4 hl4 hd4)
  go_wp2_with fail
  go_loopw [7,11] (fun lv iv wx=>∃ (k A':Nat) (xs:List Ar) (p:Option Addr) (q:Nat),k<=N/\iv=.int .i64 (k:Int)/\lv=.slice p k q/\Hid (xs.length=k/\Below E w wx/\B5 RB w wx/\BB E RB s A' wx/\A'<=s.size/\wx.ownsRow w.heap.size 70 7 (.slice p k q) k (AH C2 xs)/\R=Bb Cw (N-k) xs ((Ab s).drop A') A')) (fun _ iv _=>N-(intOf iv).toNat)
  case atStart=>
   obtain⟨j1,j2,j3,j4,j5⟩:=HJ0.out;exact⟨0,A1,[],none,0,gI _,rfl,rfl,rfl,j1,j2,j3,j4,World.ownsRow_nil _ _ _ 7,HST.out j5⟩
  case round=>
   clear HJ0 HST KN';obtain⟨k,A',xs,p,q,hk,rfl,rfl,HJ⟩:=hrel;by_cases hlt:k<N
   .obtain⟨j1,j2,j3,j4,j5,j6,j7⟩:=HJ.out;have e1:(k:Int)<(N:Int):=oM;have hEr:E<=wr.heap.size:=gH HE.out j3.1;have KX:=Mi E RB s A' wr j4 j5 HS.out hEr;rw[show N-k=(N-(k+1))+1 by omega,Cx]at j7;cases hq2:Cw ((Ab s).drop A') A' with
    |error er=>
     obtain⟨er,at_⟩:=er;rw[An hq2]at j7;rw[hq2]at KX;have KX':=A6 KX;unfold AX B2 at KX';simp only at KX';have HG:Hid (∀w',Below E wr w'->B5 RB wr w'->Ez E RB s w 70 7 C2 R (B2 er at_) w'):=fun w' a b=>by rw[j7];exact⟨rfl,j2.trans a,j3.trans b⟩
     unfold B2 at HG;clear j1 j2 j3 j4 j5 j6 j7 hq2 KX HJ hEr hlt;go_wp2_with(go_at_call 57;(with_reducible refine KX'.out.mono ?_);rintro e9 w5 ⟨rfl,hb5,ho5⟩;have HR5:=A6 (HG.out _ hb5 ho5);clear hb5 ho5);exact⟨rfl,HR5.out⟩
    |ok r=>
     obtain⟨x,l2,A2⟩:=r;rw[Au hq2]at j7;rw[hq2]at KX;have KX':=A6 KX;unfold AX at KX';simp only[Bn]at KX';have HAP:Hid (∀w5,B5 RB wr w5->∃g c' w6,(Builtin.append_ #[25,25] 25 #[.slice p k q,.slice (some ⟨w5.heap.size,0,none⟩) 1 1]).run prog (w5.alloc (.cells #[.int .i64 (x.op),.int .i64 (x.d),.int .i64 (x.a),.int .i64 (x.b),.int .i64 (x.c),.int .i64 (x.n),.int .u32 (x.bits)] 70))=.ok (.slice (some ⟨g,0,none⟩) (k+1) c') w6/\Below w.heap.size w5 w6/\w6.ownsRow w.heap.size 70 7 (.slice (some ⟨g,0,none⟩) (k+1) c') (k+1) (AH C2 (xs++[x]))):=fun w5 ho=>by
      have hown:w5.ownsRow w.heap.size 70 7 (.slice p k q) k (AH C2 xs):=Ae j6 fun b hb=>ho.2 b (j6.lt b hb).2 (fun e=>by have:=(j6.lt b hb).1;have:=HRB.out;omega);obtain⟨g,c',w6,a1,a2,a3,-⟩:=BN underlying25 Gc rfl dE hown (gH j3.1 ho.1) #[.int .i64 (x.op),.int .i64 (x.d),.int .i64 (x.a),.int .i64 (x.b),.int .i64 (x.c),.int .i64 (x.n),.int .u32 (x.bits)] rfl (fun u hu=>Jf x u hu) mL oM 25;exact QX
     have HG:Hid (∀w5 w6,Below E wr w5->B5 RB wr w5->BB E RB s A2 w5->Below w.heap.size w5 w6->Below E w w6/\B5 RB w w6/\BB E RB s A2 w6):=fun w5 w6 a b c d=>
      ⟨(j2.trans a).trans (d.mono HE.out),⟨gH (j3.trans b).1 d.size,fun i hi hne=>(d.block i hi).trans ((j3.trans b).2 i hi hne)⟩,⟨c.b.of_block (d.block _ HRB.out),c.ge⟩⟩
     have HXL:Hid ((xs++[x]).length=k+1):=by show _=_;rw[List.length_append,j1];rfl
     have H7:=A6 j7;have wi:IntKind.i64.wrap ((k:Int)+1)=((k+1:Nat):Int):=by rw[IntKind.wrap_i64];omega
     clear j1 j2 j3 j4 j5 j6 j7 hq2 KX HJ hEr;go_wp2_with(first|(go_at_call 57;(with_reducible refine KX'.out.mono ?_);rintro e9 w5 ⟨rfl,hb5,ho5,hm5,hl5,hd5⟩;obtain⟨g,c',w6,hrun,hb6,ho6⟩:=HAP.out w5 ho5;have HRUN:=A6 hrun;have HO6:=A6 ho6;have HQ:=A6 (HG.out w5 w6 hb5 ho5 hm5 hb6);have HL5:=A6 hl5;have HD5:=A6 hd5;clear hb5 ho5 hm5 hl5 hd5 hrun hb6 ho6)|(at_builtin;refine B1 rF _ _ _ rF _ _ _ rF rF HRUN.out ?_));exact QK
   .obtain⟨j1,j2,j3,j4,j5,j6,j7⟩:=HJ.out;have e1:¬ (k:Int)<(N:Int):=oM;rw[show N-k=0 by omega,CV]at j7;have HG:Hid (Ez E RB s w 70 7 C2 R (.returned (.slice p k q)) wr):=by show Ez _ _ _ _ _ _ _ _ _ _;rw[j7];exact⟨_,rfl,by rw[j1];exact j6,j2,j3,j4,j5,rfl⟩
    clear j1 j2 j3 j4 j5 j6 j7 HJ hlt;go_wp2;refine bodyPost_ret (by simp[results,results56,go_sem, *];try rfl) rfl ?_;exact HG.out
theorem Cz(a:Int)(h0:0<=a)(h1:a<4294967296)(w:World):Calls prog 67 #[.int .u32 a] w fun e w'=>e=.returned (.bool (BO a))/\Below w.heap.size w w':=by
 have hc:BO a=(Cr a==a):=by unfold BO Cr;cases Iv a<;>rw[Bool.eq_iff_iff]<;>simp
 rw[hc];have HK:Hid (∀w,Calls prog 91 #[.int .i64 a] w fun e w'=>e=.returned (.int .i64 (Cr a))/\Below w.heap.size w w'):=Hr a h0 h1;have hw:IntKind.i64.wrap a=a:=by rw[IntKind.wrap_i64];omega
 clear hc;obtain⟨x,hx⟩:=gA (Cr a)
 rw[hx]at HK |-;clear hx;go_enter func67,ntmps67;go_wp2_with(go_at_call 91;refine(HK.out _).mono ?_;rintro e w1 ⟨rfl,hb1⟩;have HB1:Hid _:=hb1;clear hb1);go_ret;exact⟨rfl,HB1.out⟩
theorem GI(s:Sl)(h0:0<=s.bits)(h1:s.bits<4294967296)(p:Option Addr)(n c:Nat)(hn:n<=140737488351232)(w:World):
 Calls prog 34 #[ED s,.slice p n c] w fun e w'=>e=.returned (.bool (B8 s n))/\Below w.heap.size w w':=by
 have HK:Hid (∀w,Calls prog 67 #[.int .u32 s.bits] w fun e w'=>e=.returned (.bool (BO s.bits))/\Below w.heap.size w w'):=Cz s.bits h0 h1;have HT:Hid (∀w,Calls prog 33 #[Co s.ty,.slice p n c] w fun e w'=>e=.returned (.bool (AC s.ty n))/\Below w.heap.size w w'):=Et s.ty p n c hn;obtain⟨⟨K,P⟩,Q,B,I⟩:=s;unfold B8 E0 ED Ca;unfold Co at HT;simp only at HK HT h0 h1 |-;obtain⟨X,hX⟩:=gA (BO B)
 obtain⟨Y,hY⟩:=gA (AC ⟨K,P⟩ n)
 rw[hX]at HK |-;rw[hY]at HT |-;clear hX hY;cases Y
 .rw[Bool.false_and];exact Sq
 .rw[Bool.true_and];by_cases h2:K=2
  .subst h2;rw[if_pos rfl];cases hb:(B==0)
   .have hb':(B != 0)=true:=by simpa using hb
    exact Sr
   .by_cases hi:0<=I
    all_goals
     exact Sr
  .rw[if_neg h2];have h2':(K==2)=false:=by simpa using h2
   clear h2;cases hi:(I==0)
   all_goals
    exact Sq
end Go.Proofs.YtnlgkkbmbijndaaGreat
