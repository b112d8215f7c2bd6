import Derived.Test.YtnbccaicijcklaaGreatMns19
import Derived.Test.YtnbccaicijcklaaGreatMns17
import Derived.Test.YtnbccaicijcklaaGreatMns18
import Derived.Test.YtnbccaicijcklaaGreatMns12
import Derived.Deep.DeepCutAuto
import Derived.Test.YtnbccaicijcklaaGreatMns1
import Derived.Test.YtnbccaicijcklaaGreatMns14
namespace Go.Proofs.YtnbccaicijcklaaGreat
open Go.RowKit Go.Proofs.Tryz
set_option linter.all false
set_option maxRecDepth 100000
set_option maxHeartbeats 16000000
theorem I6(v0 v1 v2 v3:Value)(c:Cd)(hd:∀i∈c.list,Af i=true->0<=i.d/\i.d<(c.regs.length:Int))(hR:c.regs.length<=16384)(hL:c.list.length<=32768)(w:World)(hv:CD w v0 v1 v2 v3 c):
 Calls prog 7 #[.agg #[v0,v1,v2,v3]] w fun e w'=>∃b,e=.returned (.bool b)/\(b=true↔Bd c.list)/\Below w.heap.size w w':=by
 obtain⟨p1,q1,rfl⟩:∃p q,v1=.slice p c.regs.length q:=by obtain⟨p,q,e,_⟩:=hv.regs;exact⟨p,q,e⟩
 obtain⟨p3,q3,rfl⟩:∃p q,v3=.slice p c.list.length q:=by obtain⟨p,q,e,_⟩:=hv.list;exact⟨p,q,e⟩
 have HVL:=A7 hv.list;have HD:=A7 hd;obtain⟨N3,hN3⟩:∃N,c.list.length=N:=⟨_,rfl⟩
 obtain⟨N1,hN1⟩:∃N,c.regs.length=N:=⟨_,rfl⟩
 have HN:=A7 (And.intro hN1 hN3);rw[hN3]at hL HVL |-;rw[hN1]at hR HD |-;obtain⟨W0,hW0⟩:∃W,w.alloc (.cells #[v0,.slice p1 N1 q1,v2,.slice p3 N3 q3] 27)=W:=⟨_,rfl⟩
 have HW0:Hid (Below w.heap.size w W0/\W0.heap.size=w.heap.size+1):=by rw[<-hW0];exact⟨A0 _ _,sM⟩
 have b1:W0.cell? ⟨w.heap.size,1,none⟩=some (.slice p1 N1 q1):=by rw[<-hW0];simp[go_sem]
 have b3:W0.cell? ⟨w.heap.size,3,none⟩=some (.slice p3 N3 q3):=by rw[<-hW0];simp[go_sem]
 clear hv hd hN3 hN1;go_enter func7,ntmps7;go_upto_region 1 with fail;try rw[hW0]
 clear hW0;have m1:=fun v=>JT N1 oM v;obtain⟨j,hj⟩:=gA N1
 subst hj;obtain⟨W1,hW1⟩:∃W,W0.alloc (.cells (madeCells #[.bool false] N1) 4)=W:=⟨_,rfl⟩
 have HST:Hid (Below W0.heap.size W0 W1/\W1.ownsRow W0.heap.size 4 1 (.slice (some ⟨W0.heap.size,0,none⟩) N1 N1) N1 (Iz N1 (c.list.take 0))/\Bd (c.list.take 0)):=by
  rw[<-hW1];refine⟨A0 _ _,?_,by rw[List.take_zero];exact List.nodup_nil⟩;rw[List.take_zero,XK];exact O2 W0 N1 oM
 have HB3:Hid (∀v,Below W0.heap.size W0 v->v.cell? ⟨w.heap.size,3,none⟩=some (.slice p3 N3 q3)):=fun v hb=>kc hb b3;have b3':W1.cell? ⟨w.heap.size,3,none⟩=some (.slice p3 N3 q3):=HB3.out W1 HST.1;obtain⟨SB,hSB⟩:∃S,W0.heap.size=S:=⟨_,rfl⟩
 obtain⟨pp,hpp⟩:∃p:Option Addr,some ⟨SB,0,none⟩=p:=⟨_,rfl⟩
 have HST2:Hid (Below W0.heap.size W0 W1/\W1.ownsRow W0.heap.size 4 1 (.slice pp N1 N1) N1 (Iz N1 (c.list.take 0))/\Bd (c.list.take 0)):=by rw[<-hpp,<-hSB];exact HST.out
 clear b3 HST;go_upto_region 2 with fail;try rw[hW1]
 try rw[hSB]
 try rw[hpp]
 clear hW1 hSB hpp b1 m1;go_wp2;clear b3'
 go_loopw [4] (fun iv wr=>∃k:Nat,k<=N3/\iv=.int .i64 (k:Int)/\Hid (Below W0.heap.size W0 wr/\wr.ownsRow W0.heap.size 4 1 (.slice pp N1 N1) N1 (Iz N1 (c.list.take k))/\Bd (c.list.take k))) (fun iv _=>N3-(intOf iv).toNat)
 case atStart=>exact⟨0,gI _,rfl,HST2.out⟩
 case round=>
  clear HST2;obtain⟨k,hk,rfl,HJ⟩:=hrel;have b3:=HB3.out wr HJ.1;have HBW:Hid (Below w.heap.size w wr):=HW0.1.trans (HJ.1.mono HW0.1.size);by_cases hlt:k<N3
  .have hjl:k<c.list.length:=by rw[HN.2];exact hlt
   obtain⟨lb,lo,rfl,hcl⟩:=(HVL.below HBW.out).at hjl;have hdi:=HD.out _ (gD hjl);have htk:c.list.take (k+1)=c.list.take k++[c.list[k]]:=List.take_succ_eq_append_getElem hjl;have KS:Hid (∀v,Calls prog 22 #[Ch c.list[k]] v fun e w'=>e=.returned (.bool (Af c.list[k]))/\Below v.heap.size v w'):=fun v=>by rw[<-setsP_B];exact Ma _ v
   have hnot:=QE hjl;obtain⟨⟨op,d,a,b,e,n,z⟩,hi⟩:∃i,c.list[k]=i:=⟨_,rfl⟩
   rw[hi]at hcl hdi htk KS hnot;simp only at hdi hnot;unfold Ch at KS;simp only at KS;have HTK:=A7 htk;have y0:=hcl.at 0 (v:=.int .i64 op) rfl;rw[Nat.add_zero]at y0;have y1:=hcl.at 1 (v:=.int .i64 d) rfl;have y2:=hcl.at 2 (v:=.int .i64 a) rfl;have y3:=hcl.at 3 (v:=.int .i64 b) rfl;have y4:=hcl.at 4 (v:=.int .i64 e) rfl;have y5:=hcl.at 5 (v:=.int .i64 n) rfl;have y6:=hcl.at 6 (v:=.int .u32 z) rfl;have i1:(0:Int)<=(k:Int):=oM;have i2:(k:Int)<(N3:Int):=oM;have wi:IntKind.i64.wrap ((k:Int)+1)=((k+1:Nat):Int):=by rw[IntKind.wrap_i64];omega
   obtain⟨V2,hV2⟩:∃V,wr.alloc (.cells #[.int .i64 op,.int .i64 d,.int .i64 a,.int .i64 b,.int .i64 e,.int .i64 n,.int .u32 z] 40)=V:=⟨_,rfl⟩
   have HV2:Hid (Below wr.heap.size wr V2):=by rw[<-hV2];exact A0 _ _
   have hX2:V2.rowIs wr.heap.size 40 7 (UX op d a b e n z):=by rw[<-hV2];exact BS wr _ _
   have HX2:=A7 hX2;have x0:V2.cell? ⟨wr.heap.size,0,none⟩=some (.int .i64 op):=hX2.cell (i:=0) dE;have x1:V2.cell? ⟨wr.heap.size,1,none⟩=some (.int .i64 d):=hX2.cell (i:=1) dE;have x2:V2.cell? ⟨wr.heap.size,2,none⟩=some (.int .i64 a):=hX2.cell (i:=2) dE;have x3:V2.cell? ⟨wr.heap.size,3,none⟩=some (.int .i64 b):=hX2.cell (i:=3) dE;have x4:V2.cell? ⟨wr.heap.size,4,none⟩=some (.int .i64 e):=hX2.cell (i:=4) dE;have x5:V2.cell? ⟨wr.heap.size,5,none⟩=some (.int .i64 n):=hX2.cell (i:=5) dE;have x6:V2.cell? ⟨wr.heap.size,6,none⟩=some (.int .u32 z):=hX2.cell (i:=6) dE;clear hX2 hcl hi htk;cases hS:Af (⟨op,d,a,b,e,n,z⟩:Ad)with
   |false=>
    rw[hS]at KS;have HSB:=A7 hS;clear hS hnot hdi;go_wp2_with(go_at_call 22;(with_reducible refine(KS.out _).mono ?_);rintro e9 w4 ⟨rfl,hb4⟩;have HB4:=A7 (bel HV2.out hb4);clear hb4);go_roundw
    case rel=>
     refine⟨k+1,oM,gN,HJ.1.trans (HB4.mono HJ.1.size),?_,?_⟩
     .rw[HTK.out,Ue HSB.out];exact Ak HJ.2.1 HB4.out
     .rw[HTK.out];exact OK HSB.out HJ.2.2
    case measure=>simp[intOf];omega
   |true=>
    rw[hS]at KS;obtain⟨d0,d1⟩:=hdi hS;obtain⟨D,rfl⟩:=Int.eq_ofNat_of_zero_le d0;have hDN:D<N1:=oM;obtain⟨g,cap,e9,hg1,hg2⟩:=HJ.2.1.form oM;simp only[Value.slice.injEq]at e9;obtain⟨rfl,-,-⟩:=e9;have HSB:=A7 hS;have i3:(0:Int)<=(D:Int):=oM;have i4:(D:Int)<(N1:Int):=oM;have KF:Hid (∀v,Below wr.heap.size wr v->v.cell? ⟨g,D,none⟩=some (.bool (decide (D∈KJ (c.list.take k))))/\v.frozen? ⟨g,D,none⟩=false/\v.cell? ⟨wr.heap.size,1,none⟩=v.cell? ⟨wr.heap.size,1,none⟩):=fun v hb=>by
     have h9:=Ak HJ.2.1 hb;exact⟨by rw[h9.cellAt D oM,Jq _ hDN],h9.frozenAt D,rfl⟩
    have hdn:hS=hS:=rfl;by_cases hm:D∈KJ (c.list.take k)
    .have hns:=hnot hS (by simpa using hm);have HNS:=A7 hns;rw[decide_eq_true hm]at KF;clear hnot hdi hS hdn d0 d1 hg1 hg2 hns hm;go_wp2_with(go_at_call 22;(with_reducible refine(KS.out _).mono ?_);rintro e9 w4 ⟨rfl,hb4⟩;have HB4:=A7 (bel HV2.out hb4);obtain⟨k0,k1,-⟩:=KF.out w4 HB4.out;have u1:w4.cell? ⟨wr.heap.size,1,none⟩=some (.int .i64 (D:Int)):=kc hb4 x1;clear hb4);go_ret;exact⟨false,rfl,⟨fun h=>Yr,fun h=>absurd h HNS.out⟩,bel HBW.out HB4.out⟩
    .have HNM:=A7 hm;rw[decide_eq_false hm]at KF;have HG:Hid (W0.heap.size<=g):=hg1;clear hnot hdi hS hdn d0 d1 hg1 hg2 hm;go_wp2_with(go_at_call 22;(with_reducible refine(KS.out _).mono ?_);rintro e9 w4 ⟨rfl,hb4⟩;have HB4:=A7 (bel HV2.out hb4);obtain⟨k0,k1,-⟩:=KF.out w4 HB4.out;have u1:w4.cell? ⟨wr.heap.size,1,none⟩=some (.int .i64 (D:Int)):=kc hb4 x1;clear hb4);go_roundw
     case rel=>
      refine⟨k+1,oM,gN,(HJ.1.trans (HB4.mono HJ.1.size)).setCell HG.out _,?_,?_⟩
      .rw[HTK.out,<-Ud (D:=D) HSB.out oM rfl];exact((Ak HJ.2.1 HB4.out).stored D _).1
      .rw[HTK.out];exact OJ HSB.out HJ.2.2 (by simpa using HNM.out)
     case measure=>simp[intOf];omega
  .have hje:k=c.list.length:=by rw[HN.2];omega
   have e1:¬ (k:Int)<(N3:Int):=oM;have HFN:Hid (Bd c.list):=by
    have h9:=HJ.2.2;rw[hje,List.take_length]at h9;exact h9
   clear hlt hje;go_wp2;go_ret;exact .inr ⟨rfl,HFN.out,HBW.out⟩
theorem Qs(p0 p1 p2 p3 ps pg pp:Option Addr)(q0 q1 q2 q3 qs qg qp:Nat)(c:Cd)(hg:Good c)(hk:Ba c)(G P:List (List Int))(kG:FI G)(kP:FI P)(hf:Ev c G P=false)(w:World)
 (hv:CD w (.slice p0 c.sign.length q0) (.slice p1 c.regs.length q1) (.slice p2 c.slots.length q2) (.slice p3 c.list.length q3) c) (hgv:Jh w (.slice pg G.length qg) G) (hpv:Jh w (.slice pp P.length qp) P):
 Calls prog 25 #[.agg #[.slice p0 c.sign.length q0,.slice p1 c.regs.length q1,.slice p2 c.slots.length q2,.slice p3 c.list.length q3,.slice ps c.slots.length qs],.slice pg G.length qg,.slice pp P.length qp] w fun e w'=>e=.returned (.tuple #[.agg #[.slice p0 c.sign.length q0,.slice p1 c.regs.length q1,.slice p2 c.slots.length q2,.slice p3 c.list.length q3,.slice ps c.slots.length qs],.slice none 0 0,.int .i64 170,.int .i64 0])/\Below w.heap.size w w':=by
 unfold Ev at hf;obtain⟨fG,hfG⟩:∃b,C8 c.sign (G.map (·.length))=b:=⟨_,rfl⟩
 obtain⟨fP,hfP⟩:∃b,C8 c.sign (P.map (·.length))=b:=⟨_,rfl⟩
 rw[hfG,hfP]at hf;have KF1:Hid (∀v,Below w.heap.size w v->Calls prog 41 #[.slice p0 c.sign.length q0,.slice pg G.length qg] v fun e w'=>e=.returned (.bool fG)/\Below v.heap.size v w'):=fun v hb=>by have h1:=EG (.slice p0 c.sign.length q0) c.sign hg.signL hk.names (.slice pg G.length qg) G kG.len kG.lens v (hv.sign.below hb) (hgv.below hb);rw[hfG]at h1;exact h1
 have KF2:Hid (∀v,Below w.heap.size w v->Calls prog 41 #[.slice p0 c.sign.length q0,.slice pp P.length qp] v fun e w'=>e=.returned (.bool fP)/\Below v.heap.size v w'):=fun v hb=>by have h1:=EG (.slice p0 c.sign.length q0) c.sign hg.signL hk.names (.slice pp P.length qp) P kP.len kP.lens v (hv.sign.below hb) (hpv.below hb);rw[hfP]at h1;exact h1
 obtain⟨n0,hn0⟩:∃n,c.sign.length=n:=⟨_,rfl⟩
 obtain⟨n1,hn1⟩:∃n,c.regs.length=n:=⟨_,rfl⟩
 obtain⟨n2,hn2⟩:∃n,c.slots.length=n:=⟨_,rfl⟩
 obtain⟨n3,hn3⟩:∃n,c.list.length=n:=⟨_,rfl⟩
 obtain⟨gl,hgl⟩:∃n,G.length=n:=⟨_,rfl⟩
 obtain⟨pl,hpl⟩:∃n,P.length=n:=⟨_,rfl⟩
 rw[hn0,hgl]at KF1;rw[hn0,hpl]at KF2;rw[hn0,hn1,hn2,hn3,hgl,hpl];have HSB0:Hid (SB w (.slice p0 n0 q0) (.slice p1 n1 q1) (.slice p2 n2 q2) (.slice p3 n3 q3) (.slice ps n2 qs) _):=SB.start w (.slice p0 n0 q0) (.slice p1 n1 q1) (.slice p2 n2 q2) (.slice p3 n3 q3) (.slice ps n2 qs);clear hg hk kG kP hv hgv hpv hn0 hn1 hn2 hn3 hgl hpl hfG hfP;go_enter func25,ntmps25;go_upto_region 2 with fail;obtain⟨W0,hW0⟩:∃W,(((w.alloc (.cells #[.slice p0 n0 q0,.slice p1 n1 q1,.slice p2 n2 q2,.slice p3 n3 q3,.slice ps n2 qs] 43)).alloc (.cells #[.slice none 0 0,.slice none 0 0,.slice none 0 0,.slice none 0 0,.slice none 0 0] 43)).alloc (.cells #[.slice p0 n0 q0,.slice p1 n1 q1,.slice p2 n2 q2,.slice p3 n3 q3] 27))=W:=⟨_,rfl⟩
 rw[hW0]at HSB0;rw[hW0];clear hW0;have c0:W0.cell? ⟨w.heap.size+1+1,0,none⟩=some (.slice p0 n0 q0):=HSB0.c.cell (i:=0) dE;have FIN:Hid (∀v,SB w (.slice p0 n0 q0) (.slice p1 n1 q1) (.slice p2 n2 q2) (.slice p3 n3 q3) (.slice ps n2 qs) v->∀u0 u1 u2 u3 u4,Below w.heap.size w (((((v.setCell ⟨w.heap.size+1,0,none⟩ u0).setCell ⟨w.heap.size+1,1,none⟩ u1).setCell ⟨w.heap.size+1,2,none⟩ u2).setCell ⟨w.heap.size+1,3,none⟩ u3).setCell ⟨w.heap.size+1,4,none⟩ u4)):=fun v h u0 u1 u2 u3 u4=>((((h.bel.setCell Pd _).setCell Pd _).setCell Pd _).setCell Pd _).setCell Pd _;cases fG with
 |false=>
  clear hf KF2;go_wp2_with(go_at_call 41;(with_reducible refine(KF1.out _ HSB0.out.bel).mono ?_);rintro e w1 ⟨rfl,hb1⟩;have HSB1:Hid (SB w (.slice p0 n0 q0) (.slice p1 n1 q1) (.slice p2 n2 q2) (.slice p3 n3 q3) (.slice ps n2 qs) w1):=HSB0.out.next hb1;clear hb1 c0;have r0:w1.cell? ⟨w.heap.size,0,none⟩=some (.slice p0 n0 q0):=HSB1.out.r.cell (i:=0) dE;have r1:w1.cell? ⟨w.heap.size,1,none⟩=some (.slice p1 n1 q1):=HSB1.out.r.cell (i:=1) dE;have r2:w1.cell? ⟨w.heap.size,2,none⟩=some (.slice p2 n2 q2):=HSB1.out.r.cell (i:=2) dE;have r3:w1.cell? ⟨w.heap.size,3,none⟩=some (.slice p3 n3 q3):=HSB1.out.r.cell (i:=3) dE;have r4:w1.cell? ⟨w.heap.size,4,none⟩=some (.slice ps n2 qs):=HSB1.out.r.cell (i:=4) dE;have a0:w1.cell? ⟨w.heap.size+1,0,none⟩=some (.slice none 0 0):=HSB1.out.q.cell (i:=0) dE;have a1:w1.cell? ⟨w.heap.size+1,1,none⟩=some (.slice none 0 0):=HSB1.out.q.cell (i:=1) dE;have a2:w1.cell? ⟨w.heap.size+1,2,none⟩=some (.slice none 0 0):=HSB1.out.q.cell (i:=2) dE;have a3:w1.cell? ⟨w.heap.size+1,3,none⟩=some (.slice none 0 0):=HSB1.out.q.cell (i:=3) dE;have a4:w1.cell? ⟨w.heap.size+1,4,none⟩=some (.slice none 0 0):=HSB1.out.q.cell (i:=4) dE;have b0:=HSB1.out.q.frozen 0;have b1:=HSB1.out.q.frozen 1;have b2:=HSB1.out.q.frozen 2;have b3:=HSB1.out.q.frozen 3;have b4:=HSB1.out.q.frozen 4);refine bodyPost_ret Zgz rfl ?_;exact⟨rfl,FIN.out _ HSB1.out _ _ _ _ _⟩
 |true=>
  have hfP:fP=false:=by simpa using hf
  subst hfP;clear hf;go_wp2_with(first
   |(go_at_call 41;(with_reducible refine(KF1.out _ HSB0.out.bel).mono ?_);rintro e w1 ⟨rfl,hb1⟩;have HSB1:Hid (SB w (.slice p0 n0 q0) (.slice p1 n1 q1) (.slice p2 n2 q2) (.slice p3 n3 q3) (.slice ps n2 qs) w1):=HSB0.out.next hb1;clear hb1 c0;have c0:w1.cell? ⟨w.heap.size+1+1,0,none⟩=some (.slice p0 n0 q0):=HSB1.out.c.cell (i:=0) dE)
   |(go_at_call 41;(with_reducible refine(KF2.out _ HSB1.out.bel).mono ?_);rintro e w2 ⟨rfl,hb2⟩;have HSB2:Hid (SB w (.slice p0 n0 q0) (.slice p1 n1 q1) (.slice p2 n2 q2) (.slice p3 n3 q3) (.slice ps n2 qs) w2):=HSB1.out.next hb2;clear hb2 c0;have r0:w2.cell? ⟨w.heap.size,0,none⟩=some (.slice p0 n0 q0):=HSB2.out.r.cell (i:=0) dE;have r1:w2.cell? ⟨w.heap.size,1,none⟩=some (.slice p1 n1 q1):=HSB2.out.r.cell (i:=1) dE;have r2:w2.cell? ⟨w.heap.size,2,none⟩=some (.slice p2 n2 q2):=HSB2.out.r.cell (i:=2) dE;have r3:w2.cell? ⟨w.heap.size,3,none⟩=some (.slice p3 n3 q3):=HSB2.out.r.cell (i:=3) dE;have r4:w2.cell? ⟨w.heap.size,4,none⟩=some (.slice ps n2 qs):=HSB2.out.r.cell (i:=4) dE;have a0:w2.cell? ⟨w.heap.size+1,0,none⟩=some (.slice none 0 0):=HSB2.out.q.cell (i:=0) dE;have a1:w2.cell? ⟨w.heap.size+1,1,none⟩=some (.slice none 0 0):=HSB2.out.q.cell (i:=1) dE;have a2:w2.cell? ⟨w.heap.size+1,2,none⟩=some (.slice none 0 0):=HSB2.out.q.cell (i:=2) dE;have a3:w2.cell? ⟨w.heap.size+1,3,none⟩=some (.slice none 0 0):=HSB2.out.q.cell (i:=3) dE;have a4:w2.cell? ⟨w.heap.size+1,4,none⟩=some (.slice none 0 0):=HSB2.out.q.cell (i:=4) dE;have b0:=HSB2.out.q.frozen 0;have b1:=HSB2.out.q.frozen 1;have b2:=HSB2.out.q.frozen 2;have b3:=HSB2.out.q.frozen 3;have b4:=HSB2.out.q.frozen 4))
  refine bodyPost_ret Zgz rfl ?_;exact⟨rfl,FIN.out _ HSB2.out _ _ _ _ _⟩
theorem Oz(p0 p1 p2 p3 ps pg pp:Option Addr)(n0 q0 n1 q1 n2 q2 n3 q3 qs gl qg pl qp:Nat)(E:Int)(w:World)(Q:Option Addr->Nat->Option Addr->Nat->Nat->World->Prop)
 (hK:∀v,Below w.heap.size w v->w.heap.size+1<v.heap.size->Calls prog 25 #[.agg #[.slice p0 n0 q0,.slice p1 n1 q1,.slice p2 n2 q2,.slice p3 n3 q3,.slice ps n2 qs],.slice pg gl qg,.slice pp pl qp] v fun e w'=>∃p5 q5 pu nu qu k,e=.returned (.tuple #[.agg #[.slice p0 n0 q0,.slice p1 n1 q1,.slice p2 n2 q2,.slice p3 n3 q3,.slice p5 n2 q5],.slice pu nu qu,.int .i64 E,.int .i64 k])/\Q p5 q5 pu nu qu w'/\Below v.heap.size v w')
 (hQ:∀p5 q5 pu nu qu v v',Q p5 q5 pu nu qu v->Un (fun b=>b=w.heap.size+1) v v'->Q p5 q5 pu nu qu v'):
 Calls prog 10 #[.agg #[.slice p0 n0 q0,.slice p1 n1 q1,.slice p2 n2 q2,.slice p3 n3 q3,.slice ps n2 qs],.slice pg gl qg,.slice pp pl qp] w fun e w'=>∃p5 q5 pu nu qu,e=.returned (.tuple #[.agg #[.slice p0 n0 q0,.slice p1 n1 q1,.slice p2 n2 q2,.slice p3 n3 q3,.slice p5 n2 q5],.slice pu nu qu,.int .i64 E])/\Q p5 q5 pu nu qu w'/\Below w.heap.size w w':=by
 have HK:Hid _:=hK;have HQ:Hid _:=hQ;have r1:=World.rowIs_alloc (w.alloc (.cells #[.slice p0 n0 q0,.slice p1 n1 q1,.slice p2 n2 q2,.slice p3 n3 q3,.slice ps n2 qs] 43)) #[.slice none 0 0,.slice none 0 0,.slice none 0 0,.slice none 0 0,.slice none 0 0] 43 _ (FE _ _ _ _ _);simp only[World.size_alloc]at r1;have HR:Hid (((w.alloc (.cells #[.slice p0 n0 q0,.slice p1 n1 q1,.slice p2 n2 q2,.slice p3 n3 q3,.slice ps n2 qs] 43)).alloc (.cells #[.slice none 0 0,.slice none 0 0,.slice none 0 0,.slice none 0 0,.slice none 0 0] 43)).rowIs (w.heap.size+1) 43 5 (f5 (.slice none 0 0) (.slice none 0 0) (.slice none 0 0) (.slice none 0 0) (.slice none 0 0))):=r1;have HB0:Hid (Below w.heap.size w ((w.alloc (.cells #[.slice p0 n0 q0,.slice p1 n1 q1,.slice p2 n2 q2,.slice p3 n3 q3,.slice ps n2 qs] 43)).alloc (.cells #[.slice none 0 0,.slice none 0 0,.slice none 0 0,.slice none 0 0,.slice none 0 0] 43))):=bel (A0 _ _) (A0 _ _);clear hK hQ r1;go_enter func10,ntmps10;go_wp2_with(go_at_call 25;(with_reducible refine(HK.out _ HB0.out HR.out.lt).mono ?_);rintro e w3 ⟨p5,q5,pu,nu,qu,k,rfl,hq,hb3⟩;have HR3:Hid (w3.rowIs (w.heap.size+1) 43 5 (f5 (.slice none 0 0) (.slice none 0 0) (.slice none 0 0) (.slice none 0 0) (.slice none 0 0))):=HR.out.of_block (hb3.block _ HR.out.lt);have HQ3:Hid (Q p5 q5 pu nu qu w3/\Below w.heap.size w w3):=⟨hq,bel HB0.out hb3⟩;clear hb3 hq;have a0:∀o,(w3.alloc o).cell? ⟨w.heap.size+1,0,none⟩=some (.slice none 0 0):=(fun o=>(HR3.out.alloc o).cell (i:=0) dE);have a1:∀o,(w3.alloc o).cell? ⟨w.heap.size+1,1,none⟩=some (.slice none 0 0):=(fun o=>(HR3.out.alloc o).cell (i:=1) dE);have a2:∀o,(w3.alloc o).cell? ⟨w.heap.size+1,2,none⟩=some (.slice none 0 0):=(fun o=>(HR3.out.alloc o).cell (i:=2) dE);have a3:∀o,(w3.alloc o).cell? ⟨w.heap.size+1,3,none⟩=some (.slice none 0 0):=(fun o=>(HR3.out.alloc o).cell (i:=3) dE);have a4:∀o,(w3.alloc o).cell? ⟨w.heap.size+1,4,none⟩=some (.slice none 0 0):=(fun o=>(HR3.out.alloc o).cell (i:=4) dE);have b0:=(fun o=>(HR3.out.alloc o).frozen 0);have b1:=(fun o=>(HR3.out.alloc o).frozen 1);have b2:=(fun o=>(HR3.out.alloc o).frozen 2);have b3:=(fun o=>(HR3.out.alloc o).frozen 3);have b4:=(fun o=>(HR3.out.alloc o).frozen 4));refine bodyPost_ret (by simp[results,results10,go_sem, *];try rfl) rfl ?_;have hu:∀o u0 u1 u2 u3 u4,Un (fun b=>b=w.heap.size+1) w3 ((((((w3.alloc o).setCell ⟨w.heap.size+1,0,none⟩ u0).setCell ⟨w.heap.size+1,1,none⟩ u1).setCell ⟨w.heap.size+1,2,none⟩ u2).setCell ⟨w.heap.size+1,3,none⟩ u3).setCell ⟨w.heap.size+1,4,none⟩ u4):=fun o u0 u1 u2 u3 u4=>((((((Un.refl _ _).on (A0 w3 o)).setCell rF _).setCell rF _).setCell rF _).setCell rF _).setCell rF _;refine⟨p5,q5,pu,nu,qu,rfl,HQ.out _ _ _ _ _ _ _ HQ3.out.1 (hu _ _ _ _ _ _),?_⟩;have h9:=hu (.cells #[.slice p0 n0 q0,.slice p1 n1 q1,.slice p2 n2 q2,.slice p3 n3 q3,.slice p5 n2 q5] 43) (.slice p0 n0 q0) (.slice p1 n1 q1) (.slice p2 n2 q2) (.slice p3 n3 q3) (.slice p5 n2 q5);have h8:=HQ3.out.2;exact⟨h9.os.trans h8.os,h9.tape.trans h8.tape,h9.output.trans h8.output,gH h8.size h9.size,fun b hb=>(h9.block b (Nat.lt_of_lt_of_le hb h8.size) oM).trans (h8.block b hb)⟩
theorem Qt{T:Nat->Prop}(p0 p1 p2 p3 ps pg pp:Option Addr)(q0 q1 q2 q3 qs qg qp:Nat)(c:Cd)(hc:(Ai c).1=0)(hk:Ba c)(l:List Hd)(hso:Ib c l)(S0:List Cl)(hS0:S0.map (·.h)=l)(G P:List (List Int))(kG:FI G)(kP:FI P)(hf:Ev c G P=true)(w:World)(hT:∀b,T b->b<w.heap.size)
 (hv:CD w (.slice p0 c.sign.length q0) (.slice p1 c.regs.length q1) (.slice p2 c.slots.length q2) (.slice p3 c.list.length q3) c) (hss:AT T w (.slice ps c.slots.length qs) S0) (hgv:Jh w (.slice pg G.length qg) G) (hpv:Jh w (.slice pp P.length qp) P):
 Calls prog 10 #[.agg #[.slice p0 c.sign.length q0,.slice p1 c.regs.length q1,.slice p2 c.slots.length q2,.slice p3 c.list.length q3,.slice ps c.slots.length qs],.slice pg G.length qg,.slice pp P.length qp] w fun e w'=>∃p5 q5 pu nu qu,e=.returned (.tuple #[.agg #[.slice p0 c.sign.length q0,.slice p1 c.regs.length q1,.slice p2 c.slots.length q2,.slice p3 c.list.length q3,.slice p5 c.slots.length q5],.slice pu nu qu,.int .i64 0])/\((∃S',S'.map (·.h)=(EO c l G P).slots/\AT (fun b=>T b\/b=w.heap.size+1) w' (.slice p5 c.slots.length q5) S')/\F7 (fun b=>b<=w.heap.size+1) w' (.slice pu nu qu) (Gg c (EO c l G P))/\Ib c (EO c l G P).slots)/\Below w.heap.size w w':=by
 refine Oz p0 p1 p2 p3 ps pg pp _ q0 _ q1 _ q2 _ q3 qs _ qg _ qp 0 w (fun p5 q5 pu nu qu v=>(∃S',S'.map (·.h)=(EO c l G P).slots/\AT (fun b=>T b\/b=w.heap.size+1) v (.slice p5 c.slots.length q5) S')/\F7 (fun b=>b<=w.heap.size+1) v (.slice pu nu qu) (Gg c (EO c l G P))/\Ib c (EO c l G P).slots) (fun v hb hs=>?_) (fun p5 q5 pu nu qu v v' h hu=>?_)
 .refine(Ox (T:=fun b=>T b\/b=w.heap.size+1) p0 p1 p2 p3 ps pg pp q0 q1 q2 q3 qs qg qp c hc hk l hso S0 hS0 G P kG kP hf v (fun b e=>?_) (hv.below hb) ((hss.mono fun b hbb e=>e.elim id fun e=>by omega).below hb) (hgv.below hb) (hpv.below hb)).mono ?_
  .rcases e with e|e
   .have:=hT b e;omega
   .omega
  .rintro e w' ⟨p5,q5,pu,qu,k,S',rfl,h1,h2,h3,h4,h5⟩;exact⟨p5,q5,pu,_,qu,k,rfl,⟨⟨S',h1,h2⟩,h3.mono (fun b _ e=>by omega),h4⟩,h5⟩
 .obtain⟨⟨S',h1,h2⟩,h3,h4⟩:=h;exact⟨⟨S',h1,h2.un hu fun b _ e=>.inr e⟩,h3.un hu (fun b _ e=>by omega),h4⟩
theorem TV(p0 p1 p2 p3 ps pg pp:Option Addr)(q0 q1 q2 q3 qs qg qp:Nat)(c:Cd)(hg:Good c)(hk:Ba c)(G P:List (List Int))(kG:FI G)(kP:FI P)(hf:Ev c G P=false)(w:World)
 (hv:CD w (.slice p0 c.sign.length q0) (.slice p1 c.regs.length q1) (.slice p2 c.slots.length q2) (.slice p3 c.list.length q3) c) (hgv:Jh w (.slice pg G.length qg) G) (hpv:Jh w (.slice pp P.length qp) P):
 Calls prog 10 #[.agg #[.slice p0 c.sign.length q0,.slice p1 c.regs.length q1,.slice p2 c.slots.length q2,.slice p3 c.list.length q3,.slice ps c.slots.length qs],.slice pg G.length qg,.slice pp P.length qp] w fun e w'=>e=.returned (.tuple #[.agg #[.slice p0 c.sign.length q0,.slice p1 c.regs.length q1,.slice p2 c.slots.length q2,.slice p3 c.list.length q3,.slice ps c.slots.length qs],.slice none 0 0,.int .i64 170])/\Below w.heap.size w w':=by
 refine(Oz p0 p1 p2 p3 ps pg pp _ q0 _ q1 _ q2 _ q3 qs _ qg _ qp 170 w (fun p5 q5 pu nu qu v=>p5=ps/\q5=qs/\pu=none/\nu=0/\qu=0) (fun v hb hs=>?_) (fun p5 q5 pu nu qu v v' h hu=>h)).mono ?_
 .refine(Qs p0 p1 p2 p3 ps pg pp q0 q1 q2 q3 qs qg qp c hg hk G P kG kP hf v (hv.below hb) (hgv.below hb) (hpv.below hb)).mono ?_;rintro e w' ⟨rfl,h⟩;exact⟨ps,qs,none,0,0,0,rfl,⟨rfl,rfl,rfl,rfl,rfl⟩,h⟩
 .rintro e w' ⟨p5,q5,pu,nu,qu,rfl,⟨rfl,rfl,rfl,rfl,rfl⟩,h⟩;exact⟨rfl,h⟩
theorem OU(kd pr:Int)(l:List BJ)(p0:Option Addr)(q0:Nat)(w:World)(hl:l.length<=1000000)(hv:AV 3 AY w (.slice p0 l.length q0) l):
 Calls prog 23 #[.agg #[.int .i64 kd,.int .i64 pr],.slice p0 l.length q0] w fun e w'=>∃x,e=.returned (.int .i64 x)/\Below w.heap.size w w':=by
 obtain⟨N,hN⟩:=gA (l.length)
 by_cases hk:kd=3
 .have k1:(kd != 3)=false:=by simp[hk]
  by_cases h0:pr<0
  .have k2:(pr<0)=True:=by simp[h0]
   exact Zfg
  .by_cases h1:(N:Int)<=pr
   .have k2:¬ (pr<0):=h0;exact Zfg
   .obtain⟨P,rfl⟩:=Int.eq_ofNat_of_zero_le (show 0<=pr by omega);have hPl:P<l.length:=oM;obtain⟨b,o,rfl,hcl⟩:=hv.at hPl;have y2:=hcl.at 2 (v:=.int .i64 l[P].len) rfl;have lb:b<w.heap.size:=A8 y2;have nb:¬b=w.heap.size:=oM;rw[hN];have i1:¬ ((P:Int)<0):=oM;have i2:¬ ((N:Int)<=(P:Int)):=oM;have i3:(P:Int)<(N:Int):=oM;have i4:(0:Int)<=(P:Int):=oM;clear hv hcl hN h0 h1;go_enter func23,ntmps23;go_wp2;go_ret;first|exact⟨_,rfl,A0 _ _⟩|exact⟨⟨_,rfl⟩,A0 _ _⟩
 .have k1:(kd != 3)=true:=by simp[hk]
  rw[hN];clear hv;go_enter func23,ntmps23;go_wp2;go_ret;first|exact⟨1,rfl,A0 _ _⟩|exact⟨⟨_,rfl⟩,A0 _ _⟩
theorem PM{l:List Sl}{j:Nat}(hj:j<l.length):Ed (l.take (j+1))=Ed (l.take j)+(if l[j].keep=true then 1 else 0):=by
 unfold Ed;rw[List.take_succ_eq_append_getElem hj,List.filter_append,List.length_append];congr 1;cases h:l[j].keep<;>simp[h]
theorem JP(v0 v1 v2 v3:Value)(c:Cd)(hS:c.slots.length<=4096)(hG:c.sign.length<=1000000)(w:World)(hv:CD w v0 v1 v2 v3 c):
 Calls prog 8 #[.agg #[v0,v1,v2,v3]] w fun e w'=>∃x,e=.returned (.tuple #[.int .i64 (Ed c.slots:Int),.int .i64 x])/\Below w.heap.size w w':=by
 obtain⟨p0,q0,rfl⟩:∃p q,v0=.slice p c.sign.length q:=by obtain⟨p,q,e,_⟩:=hv.sign;exact⟨p,q,e⟩
 obtain⟨p2,q2,rfl⟩:∃p q,v2=.slice p c.slots.length q:=by obtain⟨p,q,e,_⟩:=hv.slots;exact⟨p,q,e⟩
 have HVS:=A7 hv.slots;have HVG:=A7 hv.sign;obtain⟨N0,hN0⟩:∃N,c.sign.length=N:=⟨_,rfl⟩
 obtain⟨N2,hN2⟩:∃N,c.slots.length=N:=⟨_,rfl⟩
 have HN:=A7 (And.intro hN0 hN2);have KW:Hid (∀ (v:World) (kd pr:Int),Below w.heap.size w v->Calls prog 23 #[.agg #[.int .i64 kd,.int .i64 pr],.slice p0 N0 q0] v fun e w'=>∃x,e=.returned (.int .i64 x)/\Below v.heap.size v w'):=fun v kd pr hb=>by
  have h9:=OU kd pr c.sign p0 q0 v hG (HVG.below hb);rw[hN0]at h9;exact h9
 simp only[hN0,hN2]at HVS hS |-;obtain⟨W0,hW0⟩:∃W,w.alloc (.cells #[.slice p0 N0 q0,v1,.slice p2 N2 q2,v3] 27)=W:=⟨_,rfl⟩
 have HW0:Hid (Below w.heap.size w W0):=by rw[<-hW0];exact A0 _ _
 have b0:W0.cell? ⟨w.heap.size,0,none⟩=some (.slice p0 N0 q0):=by rw[<-hW0];simp[go_sem]
 have b2:W0.cell? ⟨w.heap.size,2,none⟩=some (.slice p2 N2 q2):=by rw[<-hW0];simp[go_sem]
 obtain⟨X,hX⟩:=gA (w.heap.size)
 have HXX:=A7 hX;simp only[hX]at b0 b2;rw[hX];have HB:Hid (∀v,Below W0.heap.size W0 v->v.cell? ⟨X,0,none⟩=some (.slice p0 N0 q0)/\v.cell? ⟨X,2,none⟩=some (.slice p2 N2 q2)):=fun v hb=>⟨kc hb b0,kc hb b2⟩
 clear hv hN0 hN2;go_enter func8,ntmps8;go_upto_region 1 with fail;try rw[hX]at hW0
 try rw[hW0]
 try rw[hX]
 clear hW0 hX;go_wp2;clear b0 b2
 go_loopw [6,4,5] (fun iv nv sv wr=>∃ (j:Nat) (x:Int),j<=N2/\iv=.int .i64 (j:Int)/\nv=.int .i64 (Ed (c.slots.take j):Int)/\sv=.int .i64 x/\Hid (Below W0.heap.size W0 wr)) (fun iv _ _ _=>N2-(intOf iv).toNat)
 case atStart=>exact⟨0,0,gI _,rfl,rfl,rfl,BZ _⟩
 case round=>
  obtain⟨j,x,hj,rfl,rfl,rfl,HJ⟩:=hrel;obtain⟨b0,b2⟩:=HB.out wr HJ.out;have HBW:Hid (Below w.heap.size w wr):=bel HW0.out HJ.out;by_cases hlt:j<N2
  .have hjl:j<c.slots.length:=by rw[HN.2];exact hlt
   obtain⟨lb,lo,rfl,hcl⟩:=(HVS.below HBW.out).at hjl;have HKN:=A7 (PM hjl);obtain⟨⟨⟨kd,pr⟩,kp,bt,it⟩,hi⟩:∃i,c.slots[j]=i:=⟨_,rfl⟩
   rw[hi]at hcl HKN;simp only at HKN;have y0:=hcl.at 0 (v:=.int .i64 kd) rfl;rw[Nat.add_zero]at y0;have y1:=hcl.at 1 (v:=.int .i64 pr) rfl;have y2:=hcl.at 2 (v:=.bool kp) rfl;have i1:(0:Int)<=(j:Int):=oM;have i2:(j:Int)<(N2:Int):=oM;have wi:IntKind.i64.wrap ((j:Int)+1)=((j+1:Nat):Int):=by rw[IntKind.wrap_i64];omega
   obtain⟨M,hM⟩:=gA (Ed (c.slots.take j))
   have hML:M<=4096:=by rw[<-hM];unfold Ed;have:=List.length_filter_le (fun s:Sl=>s.keep) (c.slots.take j);rw[List.length_take]at this;omega
   have wm:IntKind.i64.wrap ((M:Int)+1)=((M+1:Nat):Int):=by rw[IntKind.wrap_i64];omega
   rw[hM]at HKN;rw[hM];clear hcl hi hM;cases kp with
   |false=>
    simp only[Bool.false_eq_true,if_false,Nat.add_zero]at HKN;go_wp2;go_roundw
    case rel=>exact⟨j+1,x,oM,gN,by rw[HKN.out],rfl,HJ.out⟩
    case measure=>simp[intOf];omega
   |true=>
    simp only[if_true]at HKN;go_upto_region 7 with fail;refine rG (fun v=>v.cell? ⟨X,0,none⟩=some (.slice p0 N0 q0)/\v.cell? ⟨X,2,none⟩=some (.slice (some ⟨lb,lo,none⟩) N2 q2)/\v.cell? ⟨lb,lo+j*5,none⟩=some (.int .i64 kd)/\v.cell? ⟨lb,lo+j*5+1,none⟩=some (.int .i64 pr)) fun hJ=>?_;refine Tf 0 1 2 3 4 5 ?_;refine Tc 6 7 8 ?_;clear hJ;refine Aw 9 fun K hK=>?_;go_simp;(go_at_call 23;(with_reducible refine(KW.out _ _ _ (bel HBW.out (Bg _))).mono ?_);rintro e9 w4 ⟨y,rfl,hb4⟩;have HB4:Hid (Below W0.heap.size W0 w4):=bel HJ.out (bel (Bg _) hb4);obtain⟨b0,b2⟩:=HB.out w4 HB4.out;have z0:=kc (bel (Bg _) hb4) y0;have z1:=kc (bel (Bg _) hb4) y1;clear hb4);try(go_wp2_with fail)
    refine Aq hK fun hJ=>?_;clear hK K;refine Tb 10 11 ?_;refine wpAnyH_done kR ?_ _;go_wp2;go_roundw
    case rel=>exact⟨j+1,_,oM,gN,by rw[HKN.out];simp,rfl,HB4.out⟩
    case measure=>simp[intOf];omega
  .have e1:¬ (j:Int)<(N2:Int):=oM;have HFN:Hid (Ed (c.slots.take j)=Ed c.slots):=by
    show _=_;rw[show j=c.slots.length by rw[HN.2];omega,List.take_length]
   rw[HFN.out];go_wp2;refine bodyPost_ret (by simp[results,results8,go_sem, *];try rfl) rfl ?_;first|exact⟨_,rfl,by rw[<-HXX.out];exact HBW.out⟩|exact⟨⟨_,rfl⟩,by rw[<-HXX.out];exact HBW.out⟩
theorem UZ{T:Nat->Prop}{w:World}{p:Option Addr}{n q B:Nat}{S:List Cl}(h:Yg w (.slice p n q) S)(hp:∀b o s,p=some ⟨b,o,s⟩->B<=b)(hx:∀x∈S,∀b o s,x.p=some ⟨b,o,s⟩->B<=b)(hT:∀b,T b->b<B):AT T w (.slice p n q) S:=by
 obtain⟨p',q',e,hr⟩:=h.row;simp only[Value.slice.injEq]at e;obtain⟨rfl,rfl,rfl⟩:=e;refine⟨⟨p,q,rfl,?_⟩,fun x hx'=>(h.nums x hx').free (hx x hx') hT⟩;by_cases h0:S=[]
 .exact .inl h0
 .rcases hr with e|⟨b,o,e,hc⟩
  .exact absurd e h0
  .refine .inr ⟨b,o,e,fun k=>by have h1:=hT b k;have h2:=hp b o none e;omega,?_,hc⟩;have h1:=(hc 0 (List.length_pos_iff.2 h0)).at 0 (v:=.slice (S[0]'(List.length_pos_iff.2 h0)).p (S[0]'(List.length_pos_iff.2 h0)).h.pats.length (S[0]'(List.length_pos_iff.2 h0)).q) rfl;exact A8 h1
theorem nb_set{T:Nat->Prop}{w5 w6:World}{a0 a1 a2 a3:Value}{p5 pu:Option Addr}{n2 q5 nu qu:Nat}{S':List Cl}{hs':List Hd}{L:List (List Int)}{c:Cd}{E:Int}{NX:Nat}(hn:w6.rowIs w5.heap.size 43 5 (f5 (.slice none 0 0) (.slice none 0 0) (.slice none 0 0) (.slice none 0 0) (.slice none 0 0)))(hb:Below w5.heap.size w5 w6)(h1:S'.map (·.h)=hs')(h2:AT (fun b=>T b\/b=w5.heap.size) w6 (.slice p5 n2 q5) S')(h3:F7 (fun b=>b<NX) w6 (.slice pu nu qu) L)(h4:Ib c hs')(hX:w5.heap.size<NX):
 ∃NB p5' q5' pu' nu' qu' S'',Value.pointer (some ⟨w5.heap.size,0,none⟩)=.pointer (some ⟨NB,0,none⟩)/\Value.slice pu nu qu=.slice pu' nu' qu'/\Value.int .i64 E=.int .i64 E/\Hid ((((((w6.setCell ⟨w5.heap.size,0,none⟩ a0).setCell ⟨w5.heap.size,1,none⟩ a1).setCell ⟨w5.heap.size,2,none⟩ a2).setCell ⟨w5.heap.size,3,none⟩ a3).setCell ⟨w5.heap.size,4,none⟩ (.slice p5 n2 q5)).rowIs NB 43 5 (f5 a0 a1 a2 a3 (.slice p5' n2 q5'))/\w5.heap.size<=NB/\S''.map (·.h)=hs'/\AT T (((((w6.setCell ⟨w5.heap.size,0,none⟩ a0).setCell ⟨w5.heap.size,1,none⟩ a1).setCell ⟨w5.heap.size,2,none⟩ a2).setCell ⟨w5.heap.size,3,none⟩ a3).setCell ⟨w5.heap.size,4,none⟩ (.slice p5 n2 q5)) (.slice p5' n2 q5') S''/\F7 (fun b=>b<w5.heap.size) (((((w6.setCell ⟨w5.heap.size,0,none⟩ a0).setCell ⟨w5.heap.size,1,none⟩ a1).setCell ⟨w5.heap.size,2,none⟩ a2).setCell ⟨w5.heap.size,3,none⟩ a3).setCell ⟨w5.heap.size,4,none⟩ (.slice p5 n2 q5)) (.slice pu' nu' qu') L/\Ib c hs'/\Below w5.heap.size w5 (((((w6.setCell ⟨w5.heap.size,0,none⟩ a0).setCell ⟨w5.heap.size,1,none⟩ a1).setCell ⟨w5.heap.size,2,none⟩ a2).setCell ⟨w5.heap.size,3,none⟩ a3).setCell ⟨w5.heap.size,4,none⟩ (.slice p5 n2 q5))):=by
 have hu:Un (fun b=>b=w5.heap.size) w6 (((((w6.setCell ⟨w5.heap.size,0,none⟩ a0).setCell ⟨w5.heap.size,1,none⟩ a1).setCell ⟨w5.heap.size,2,none⟩ a2).setCell ⟨w5.heap.size,3,none⟩ a3).setCell ⟨w5.heap.size,4,none⟩ (.slice p5 n2 q5)):=(((((Un.refl _ _).setCell rF _).setCell rF _).setCell rF _).setCell rF _).setCell rF _;refine⟨_,p5,q5,pu,nu,qu,S',rfl,rfl,rfl,(((((hn.set 0 a0).set 1 a1).set 2 a2).set 3 a3).set 4 _).congr (fun j hj=>?_),gF _,h1,(h2.un hu fun b _ e=>.inr e).mono fun b _ e=>.inl e,(h3.un hu fun b _ e=>by omega).mono fun b _ e=>by omega,h4,((((hb.setCell (gF _) _).setCell (gF _) _).setCell (gF _) _).setCell (gF _) _).setCell (gF _) _⟩;have hj':j<5:=hj;obtain rfl|rfl|rfl|rfl|rfl:j=0\/j=1\/j=2\/j=3\/j=4:=oM
 all_goals rfl
theorem VH{T:Nat->Prop}{w5 w6:World}{a0 a1 a2 a3:Value}{p5 pu:Option Addr}{n2 q5 nu qu:Nat}{S':List Cl}{hs':List Hd}{L:List (List Int)}{c:Cd}{E:Int}(hb:Below w5.heap.size w5 w6)(h1:S'.map (·.h)=hs')(h2:AT (fun b=>T b\/False) w6 (.slice p5 n2 q5) S')(h3:F7 (fun b=>b<w5.drew.heap.size) w6 (.slice pu nu qu) L)(h4:Ib c hs'):
 ∃NB p5' q5' pu' nu' qu' S'',Value.pointer (some ⟨w6.heap.size,0,none⟩)=.pointer (some ⟨NB,0,none⟩)/\Value.slice pu nu qu=.slice pu' nu' qu'/\Value.int .i64 E=.int .i64 E/\Hid ((w6.alloc (.cells #[a0,a1,a2,a3,.slice p5 n2 q5] 43)).rowIs NB 43 5 (f5 a0 a1 a2 a3 (.slice p5' n2 q5'))/\w5.heap.size<=NB/\S''.map (·.h)=hs'/\AT T (w6.alloc (.cells #[a0,a1,a2,a3,.slice p5 n2 q5] 43)) (.slice p5' n2 q5') S''/\F7 (fun b=>b<w5.heap.size) (w6.alloc (.cells #[a0,a1,a2,a3,.slice p5 n2 q5] 43)) (.slice pu' nu' qu') L/\Ib c hs'/\Below w5.heap.size w5 (w6.alloc (.cells #[a0,a1,a2,a3,.slice p5 n2 q5] 43))):=
 ⟨_,p5,q5,pu,nu,qu,S',rfl,rfl,rfl,World.rowIs_alloc w6 _ _ _ (FE _ _ _ _ _),hb.size,h1,(h2.mono (fun b _ e=>.inl e)).below (A0 _ _),(h3.mono (fun b _ e=>Nat.lt_of_lt_of_le e (Bg w5).size)).below (A0 _ _),h4,bel hb (A0 _ _)⟩
theorem V0{w:World}{B:Nat}{a0 a1 a2 a3 a4 b0 b1 b2 b3 b4:Value}(h:w.rowIs B 43 5 (f5 b0 b1 b2 b3 b4)):
 (((((w.setCell ⟨B,0,none⟩ a0).setCell ⟨B,1,none⟩ a1).setCell ⟨B,2,none⟩ a2).setCell ⟨B,3,none⟩ a3).setCell ⟨B,4,none⟩ a4).rowIs B 43 5 (f5 a0 a1 a2 a3 a4)/\Un (fun b=>b=B) w (((((w.setCell ⟨B,0,none⟩ a0).setCell ⟨B,1,none⟩ a1).setCell ⟨B,2,none⟩ a2).setCell ⟨B,3,none⟩ a3).setCell ⟨B,4,none⟩ a4):=by
 refine⟨(((((h.set 0 a0).set 1 a1).set 2 a2).set 3 a3).set 4 a4).congr (fun j hj=>?_),(((((Un.refl _ _).setCell rF _).setCell rF _).setCell rF _).setCell rF _).setCell rF _⟩;have hj':j<5:=hj;obtain rfl|rfl|rfl|rfl|rfl:j=0\/j=1\/j=2\/j=3\/j=4:=oM
 all_goals rfl
def Jb(c:Cd)(G P:List (List Int)):Int:=if Ev c G P=true then 0 else 170
def Sm(c:Cd)(l:List Hd)(G P:List (List Int)):List Hd:=if Ev c G P=true then(EO c l G P).slots else l
def UI(c:Cd)(l:List Hd)(G P:List (List Int)):List (List Int):=if Ev c G P=true then Gg c (EO c l G P)else []
theorem Uk{T:Nat->Prop}(p0 p1 p2 p3 ps pg pp:Option Addr)(q0 q1 q2 q3 qs qg qp:Nat)(c:Cd)(hc:(Ai c).1=0)(hk:Ba c)(l:List Hd)(hso:Ib c l)(S0:List Cl)(hS0:S0.map (·.h)=l)(G P:List (List Int))(kG:FI G)(kP:FI P)(w:World)(hT:∀b,T b->b<w.heap.size)
 (hv:CD w (.slice p0 c.sign.length q0) (.slice p1 c.regs.length q1) (.slice p2 c.slots.length q2) (.slice p3 c.list.length q3) c) (hss:AT T w (.slice ps c.slots.length qs) S0) (hgv:Jh w (.slice pg G.length qg) G) (hpv:Jh w (.slice pp P.length qp) P):
 Calls prog 10 #[.agg #[.slice p0 c.sign.length q0,.slice p1 c.regs.length q1,.slice p2 c.slots.length q2,.slice p3 c.list.length q3,.slice ps c.slots.length qs],.slice pg G.length qg,.slice pp P.length qp] w fun e w'=>∃p5 q5 pu nu qu S',e=.returned (.tuple #[.agg #[.slice p0 c.sign.length q0,.slice p1 c.regs.length q1,.slice p2 c.slots.length q2,.slice p3 c.list.length q3,.slice p5 c.slots.length q5],.slice pu nu qu,.int .i64 (Jb c G P)])/\S'.map (·.h)=Sm c l G P/\AT T w' (.slice p5 c.slots.length q5) S'/\F7 (fun b=>b<w.heap.size) w' (.slice pu nu qu) (UI c l G P)/\Ib c (Sm c l G P)/\Below w.heap.size w w':=by
 unfold Jb Sm UI;by_cases hf:Ev c G P=true
 .rw[if_pos hf,if_pos hf,if_pos hf];refine(Qt (T:=T) p0 p1 p2 p3 ps pg pp q0 q1 q2 q3 qs qg qp c hc hk l hso S0 hS0 G P kG kP hf w hT hv hss hgv hpv).mono ?_;rintro e w' ⟨p5,q5,pu,nu,qu,rfl,⟨⟨S',k1,k2⟩,k3,k4⟩,k5⟩;exact⟨p5,q5,pu,nu,qu,S',rfl,k1,k2.mono (fun b _ e=>.inl e),k3.mono (fun b _ e=>by omega),k4,k5⟩
 .rw[if_neg hf,if_neg hf,if_neg hf];refine(TV p0 p1 p2 p3 ps pg pp q0 q1 q2 q3 qs qg qp c (Ez hc).1 hk G P kG kP (by simpa using hf) w hv hgv hpv).mono ?_;rintro e w' ⟨rfl,k5⟩;exact⟨ps,qs,none,0,0,S0,rfl,hS0,hss.below k5,⟨none,0,rfl,.inl rfl⟩,hso,k5⟩
theorem Y2(c:Cd)(f:Fr):(Gg c f).length=c.sign.length:=by simp[Gg]
theorem Uu{c:Cd}(hg:Good c)(f:Fr):∀l∈Gg c f,l.length<=1048576:=by
 intro l hl;obtain⟨p,hp,rfl⟩:=List.mem_map.1 hl;rw[List.length_map,List.length_range];cases h:c.sign[p]? with
 |none=>exact gI _
 |some q=>
  have hq:=hg.len q (List.mem_of_getElem? h);show O5 q<=_;unfold O5 Dh;split
  .split<;>omega
  .simp
theorem upJ_len{c:Cd}(hg:Good c)(l:List Hd)(G P:List (List Int)):(UI c l G P).length<=1048576/\∀x∈UI c l G P,x.length<=1048576:=by
 unfold UI;split
 .exact⟨by rw[Y2];have:=hg.signL;omega,Uu hg _⟩
 .exact⟨gI _,fun x hx=>by cases hx⟩
def StV(w:World)(s:St):Prop:=Jh w s.gv s.G/\Jh w s.pv s.P/\FI s.G/\FI s.P
def Yf(l:List Ad)(n:Nat):Bool:=l.any fun i=>decide (i.op=32)&&decide (i.n=(n:Int))
def Rg(m:Nat)(l:List Ad):List Value:=(List.range m).map fun n=>.bool (Yf l n)
theorem Jk(m:Nat)(l:List Ad):(Rg m l).length=m:=by unfold Rg;simp
theorem JQ{m:Nat}(l:List Ad){n:Nat}(h:n<m):(Rg m l)[n]? =some (.bool (Yf l n)):=by unfold Rg;simp[h]
theorem Zj(m:Nat):Rg m []=List.replicate m (.bool false):=by
 apply List.ext_getElem?;intro k;by_cases hk:k<m
 .rw[JQ _ hk,List.getElem?_replicate,if_pos hk];simp[Yf]
 .rw[List.getElem?_eq_none (by rw[Jk];omega),List.getElem?_eq_none sO]
theorem Rf(l:List Ad)(i:Ad)(n:Nat):Yf (l++[i]) n=(Yf l n||(decide (i.op=32)&&decide (i.n=(n:Int)))):=by unfold Yf;simp
theorem VC{m:Nat}{l:List Ad}{i:Ad}(h:¬i.op=32):Rg m (l++[i])=Rg m l:=by
 unfold Rg;refine List.map_congr_left fun n _=>?_;rw[Rf,decide_eq_false h,Bool.false_and,Bool.or_false]
theorem VB{m:Nat}{l:List Ad}{i:Ad}(h:i.op=32){D:Nat}(hD:D<m)(e:i.n=(D:Int)):(Rg m l).set D (.bool true)=Rg m (l++[i]):=by
 apply List.ext_getElem?;intro k;by_cases hk:k<m
 .rw[JQ _ hk,Rf,List.getElem?_set];by_cases h2:D=k
  .subst h2;rw[if_pos rfl,if_pos (by rw[Jk];exact hD),decide_eq_true h,decide_eq_true e];simp
  .rw[if_neg h2,JQ _ hk,decide_eq_false (p:=i.n=(k:Int)) (by rw[e];omega)];simp
 .rw[List.getElem?_eq_none (by rw[List.length_set,Jk];omega),List.getElem?_eq_none (by rw[Jk];omega)]
theorem Zi{c:Cd}(hc:(Ai c).1=0){n:Nat}(hn:n<(pruneC c).slots.length):Yf (pruneC c).list n=true:=by
 obtain⟨i,hi,h1,h2⟩:=Oh hc hn;unfold Yf;exact List.any_eq_true.2 ⟨i,hi,by rw[decide_eq_true h1,decide_eq_true h2];rfl⟩
theorem ld_at{c:Cd}(hc:(Ai c).1=0){k:Nat}(hk:k<c.list.length)(o:c.list[k].op=32):∃n:Nat,c.list[k].n=(n:Int)/\n<c.slots.length:=Gu hc hk (.inl o)
theorem ZN{c:Cd}(hc:(Ai c).1=0){l l':List Hd}(h:Pb c l l')(G P:List (List Int)):Jb (pruneC c) G P=Jb c G P/\Pb c (Sm c l G P) (Sm (pruneC c) l' G P)/\UI (pruneC c) l' G P=UI c l G P:=by
 have hf:Ev (pruneC c) G P=Ev c G P:=rfl;unfold Jb Sm UI;rw[hf];by_cases hq:Ev c G P=true
 .obtain⟨h1,h2⟩:=Tz (G:=G) (P:=P) hc h;rw[if_pos hq,if_pos hq,if_pos hq,if_pos hq,if_pos hq];exact⟨rfl,h1,h2⟩
 .rw[if_neg hq,if_neg hq,if_neg hq,if_neg hq,if_neg hq];exact⟨rfl,h,rfl⟩
theorem TA{c:Cd}(hk:Ba c):Ba (pruneC c):=by
 refine⟨hk.signL,hk.names,gH (Hn _ _) hk.regsL,gH (Hn _ _) hk.slotsL,gH GH hk.listL,fun s hs=>hk.sbits s (Kf hs),fun i hi=>?_⟩;obtain⟨k,h1,-,-,e⟩:=Ro _ (gF _) hi;rw[e];exact hk.ibits (c.list[k]) (gD h1)
theorem Ku{T:Nat->Prop}(v0 v1 v2 v3:Value)(ps pg pp:Option Addr)(qs qg qp:Nat)(c:Cd)(hc:(Ai c).1=0)(hk:Ba c)(l:List Hd)(hso:Ib c l)(S0:List Cl)(hS0:S0.map (·.h)=l)(G P:List (List Int))(kG:FI G)(kP:FI P)(w:World)(hT:∀b,T b->b<w.heap.size)
 (hv:CD w v0 v1 v2 v3 c) (hss:AT T w (.slice ps c.slots.length qs) S0) (hgv:Jh w (.slice pg G.length qg) G) (hpv:Jh w (.slice pp P.length qp) P):
 Calls prog 10 #[.agg #[v0,v1,v2,v3,.slice ps c.slots.length qs],.slice pg G.length qg,.slice pp P.length qp] w fun e w'=>∃p5 q5 pu nu qu S',e=.returned (.tuple #[.agg #[v0,v1,v2,v3,.slice p5 c.slots.length q5],.slice pu nu qu,.int .i64 (Jb c G P)])/\S'.map (·.h)=Sm c l G P/\AT T w' (.slice p5 c.slots.length q5) S'/\F7 (fun b=>b<w.heap.size) w' (.slice pu nu qu) (UI c l G P)/\Ib c (Sm c l G P)/\Below w.heap.size w w':=by
 obtain⟨p0,q0,rfl⟩:∃p q,v0=.slice p c.sign.length q:=by obtain⟨p,q,e,_⟩:=hv.sign;exact⟨p,q,e⟩
 obtain⟨p1,q1,rfl⟩:∃p q,v1=.slice p c.regs.length q:=by obtain⟨p,q,e,_⟩:=hv.regs;exact⟨p,q,e⟩
 obtain⟨p2,q2,rfl⟩:∃p q,v2=.slice p c.slots.length q:=by obtain⟨p,q,e,_⟩:=hv.slots;exact⟨p,q,e⟩
 obtain⟨p3,q3,rfl⟩:∃p q,v3=.slice p c.list.length q:=by obtain⟨p,q,e,_⟩:=hv.list;exact⟨p,q,e⟩
 exact Uk p0 p1 p2 p3 ps pg pp q0 q1 q2 q3 qs qg qp c hc hk l hso S0 hS0 G P kG kP w hT hv hss hgv hpv
theorem Qd(v0 v1 v2 v3:Value)(c:Cd)(hk:Ba c)(p4:Option Addr)(n4 q4:Nat)(w:World)(hv:CD w v0 v1 v2 v3 c)(hc:(Ai c).1≠0):
 Calls prog 3 #[.agg #[v0,v1,v2,v3],.slice p4 n4 q4] w fun e w'=>e=.returned (.bool true)/\Below w.heap.size w w':=by
 have KR:Hid (∀v,Below w.heap.size w v->Calls prog 4 #[.agg #[v0,v1,v2,v3]] v fun e w'=>e=.returned (.tuple #[.agg #[.slice none 0 0,.slice none 0 0,.slice none 0 0,.slice none 0 0],.int .i64 160])/\Below v.heap.size v w'):=fun v hb=>LV v0 v1 v2 v3 c hk v (hv.below hb) hc;have KF:Hid (∀v,Below w.heap.size w v->Calls prog 5 #[.agg #[v0,v1,v2,v3]] v fun e w'=>e=.returned (.bool false)/\Below v.heap.size v w'):=fun v hb=>by
  have h9:=GM v0 v1 v2 v3 c hk v (hv.below hb);rw[show((Ai c).1==0)=false by simpa using hc]at h9;exact h9
 have KS:=A7 Kw;obtain⟨p0,q0,rfl⟩:∃p q,v0=.slice p c.sign.length q:=by obtain⟨p,q,e,_⟩:=hv.sign;exact⟨p,q,e⟩
 obtain⟨p1,q1,rfl⟩:∃p q,v1=.slice p c.regs.length q:=by obtain⟨p,q,e,_⟩:=hv.regs;exact⟨p,q,e⟩
 obtain⟨p2,q2,rfl⟩:∃p q,v2=.slice p c.slots.length q:=by obtain⟨p,q,e,_⟩:=hv.slots;exact⟨p,q,e⟩
 obtain⟨p3,q3,rfl⟩:∃p q,v3=.slice p c.list.length q:=by obtain⟨p,q,e,_⟩:=hv.list;exact⟨p,q,e⟩
 obtain⟨W0,hW0⟩:=gA (w.alloc (.cells #[.slice p0 c.sign.length q0,.slice p1 c.regs.length q1,.slice p2 c.slots.length q2,.slice p3 c.list.length q3] 27))
 have HB0:Hid (Below w.heap.size w W0):=by rw[<-hW0];exact A0 _ _
 have k0:W0.cell? ⟨w.heap.size,0,none⟩=some (.slice p0 c.sign.length q0):=by rw[<-hW0];simp[go_sem]
 have k1:W0.cell? ⟨w.heap.size,1,none⟩=some (.slice p1 c.regs.length q1):=by rw[<-hW0];simp[go_sem]
 have k2:W0.cell? ⟨w.heap.size,2,none⟩=some (.slice p2 c.slots.length q2):=by rw[<-hW0];simp[go_sem]
 have k3:W0.cell? ⟨w.heap.size,3,none⟩=some (.slice p3 c.list.length q3):=by rw[<-hW0];simp[go_sem]
 clear hv hk hc;go_enter func3,ntmps3;go_upto_region 1 with fail;try rw[hW0]
 clear hW0;go_wp2_with(first
  |(go_at_call 4;(with_reducible refine(KR.out _ HB0.out).mono ?_);rintro e w1 ⟨rfl,hb1⟩;have HB1:=A7 hb1;have m0:=(fun o=>kc (bel hb1 (A0 _ o)) k0);have m1:=(fun o=>kc (bel hb1 (A0 _ o)) k1);have m2:=(fun o=>kc (bel hb1 (A0 _ o)) k2);have m3:=(fun o=>kc (bel hb1 (A0 _ o)) k3);clear hb1)
  |(go_at_call 5;(with_reducible refine(KF.out _ (bel HB0.out (bel HB1.out (A0 _ _)))).mono ?_);rintro e w2 ⟨rfl,hb2⟩;have HB2:Hid (Below w.heap.size w w2):=bel HB0.out (bel HB1.out (bel (A0 _ _) hb2));clear hb2)
  |(go_at_call 6;(with_reducible refine(KS.out _).mono ?_);rintro e w3 ⟨rfl,hb3⟩;have HB3:=A7 hb3;clear hb3))
 go_ret;exact⟨rfl,bel HB2.out HB3.out⟩
theorem Oe(v0 v1 v2 v3 v4:Value)(c:Cd)(hkc:Ba c)(l:List St)(hl:l.length<=140737488351232)(w:World)(hv:CD w v0 v1 v2 v3 c)(hr:AV 2 stC w v4 l)(hs:∀s∈l,StV w s)(hc:(Ai c).1=0):
 Calls prog 3 #[.agg #[v0,v1,v2,v3],v4] w fun e w'=>e=.returned (.bool true)/\Below w.heap.size w w':=by
 obtain⟨hg,htk⟩:=Ez hc;obtain⟨hgd,htd⟩:=Ez (G8 hc);have hkd:Ba (pruneC c):=TA hkc;have KP:=A7 (fun(v:World) (h:Below w.heap.size w v)=>GS v0 v1 v2 v3 c hkc v (hv.below h) hc);have KFC:Hid (∀v,Below w.heap.size w v->Calls prog 5 #[.agg #[v0,v1,v2,v3]] v fun e w'=>e=.returned (.bool true)/\Below v.heap.size v w'):=fun v hb=>by
  have h9:=GM v0 v1 v2 v3 c hkc v (hv.below hb);rw[show((Ai c).1==0)=true by simpa using hc]at h9;exact h9
 have KFD:Hid (∀ (v:World) (x0 x1 x2 x3:Value),CD v x0 x1 x2 x3 (pruneC c)->Calls prog 5 #[.agg #[x0,x1,x2,x3]] v fun e w'=>e=.returned (.bool true)/\Below v.heap.size v w'):=fun v x0 x1 x2 x3 h=>by
  have h9:=GM x0 x1 x2 x3 (pruneC c) hkd v h;rw[show((Ai (pruneC c)).1==0)=true by simpa using G8 hc]at h9;exact h9
 have KSC:Hid (∀v,Below w.heap.size w v->Calls prog 7 #[.agg #[v0,v1,v2,v3]] v fun e w'=>∃b,e=.returned (.bool b)/\(b=true↔Bd c.list)/\Below v.heap.size v w'):=fun v hb=>I6 v0 v1 v2 v3 c (fun i hi hs=>by obtain⟨L,R,e,t⟩:=Kx htk hi;exact GV t hs) hg.regsL hg.listL v (hv.below hb);have KSD:Hid (∀ (v:World) (x0 x1 x2 x3:Value),CD v x0 x1 x2 x3 (pruneC c)->Calls prog 7 #[.agg #[x0,x1,x2,x3]] v fun e w'=>∃b,e=.returned (.bool b)/\(b=true↔Bd (pruneC c).list)/\Below v.heap.size v w'):=fun v x0 x1 x2 x3 h=>I6 x0 x1 x2 x3 (pruneC c) (fun i hi hs=>by obtain⟨L,R,e,t⟩:=Kx htd hi;exact GV t hs) hgd.regsL hgd.listL v h;have KKC:=A7 (fun(v:World) (h:Below w.heap.size w v)=>JP v0 v1 v2 v3 c hg.slotsL (by have:=hg.signL;omega) v (hv.below h));have KKD:=A7 (fun(v:World) (x0 x1 x2 x3:Value) (h:CD v x0 x1 x2 x3 (pruneC c))=>JP x0 x1 x2 x3 (pruneC c) hgd.slotsL (by have:=hgd.signL;omega) v h);have KA:=A7 (fun(v:World) (h:Below w.heap.size w v)=>J3 v0 v1 v2 v3 c hkc v (hv.below h) hc);have KB:=A7 (fun(v:World) (x0 x1 x2 x3:Value) (h:CD v x0 x1 x2 x3 (pruneC c))=>J3 x0 x1 x2 x3 (pruneC c) hkd v h (G8 hc));have KS:=A7 Kw;have HG:=A7 (And.intro hg (And.intro (And.intro hc hkc) (And.intro (G8 hc) (And.intro hkd (And.intro hgd (And.intro (fun{x y:List Hd} (h:Pb c x y) (G P:List (List Int))=>ZN hc h G P) (Pb.start (c:=c))))))));have HSG:Hid (Bd c.list->Bd (pruneC c).list):=fun h=>MY hc h;have HLE:Hid ((pruneC c).list.length<=c.list.length/\Ed (pruneC c).slots<=Ed c.slots):=⟨GH,Qg c⟩
 have HLD:Hid (∀n,n<(pruneC c).slots.length->Yf (pruneC c).list n=true):=fun n hn=>Zi hc hn;have HLA:Hid (∀i∈(pruneC c).list,i.op=32->∃n:Nat,i.n=(n:Int)/\n<(pruneC c).slots.length):=fun i hi o=>by obtain⟨k,hk,rfl⟩:=List.mem_iff_getElem.1 hi;exact ld_at (G8 hc) hk o
 have HSM:Hid ((pruneC c).sign.length<=1000000/\(pruneC c).slots.length<=4096/\(pruneC c).list.length<=32768):=⟨by have:=hgd.signL;omega,hgd.slotsL,hgd.listL⟩
 obtain⟨d,hd⟩:=gA (pruneC c)
 simp only[hd]at KP KFD KSD KKD KB HG HSG HLE HLD HLA HSM;have HS:=A7 hs;obtain⟨p0,n0,q0,rfl⟩:∃p n q,v0=.slice p n q:=by obtain⟨p,q,e,_⟩:=hv.sign;exact⟨p,_,q,e⟩
 obtain⟨p1,n1,q1,rfl⟩:∃p n q,v1=.slice p n q:=by obtain⟨p,q,e,_⟩:=hv.regs;exact⟨p,_,q,e⟩
 obtain⟨p2,n2,q2,rfl⟩:∃p n q,v2=.slice p n q:=by obtain⟨p,q,e,_⟩:=hv.slots;exact⟨p,_,q,e⟩
 obtain⟨p3,q3,rfl⟩:∃p q,v3=.slice p c.list.length q:=by obtain⟨p,q,e,_⟩:=hv.list;exact⟨p,q,e⟩
 obtain⟨p4,q4,rfl,hrow⟩:=hr;have HROW:=A7 hrow;have HVC:=A7 hv;obtain⟨N4,hN4⟩:∃N,l.length=N:=⟨_,rfl⟩
 have HN4:=A7 hN4;rw[hN4]at hl |-;obtain⟨W0,hW0⟩:=gA (w.alloc (.cells #[.slice p0 n0 q0,.slice p1 n1 q1,.slice p2 n2 q2,.slice p3 c.list.length q3] 27))
 have HB0:Hid (Below w.heap.size w W0):=by rw[<-hW0];exact A0 _ _
 have HRC:Hid (W0.rowIs w.heap.size 27 4 (En #[.slice p0 n0 q0,.slice p1 n1 q1,.slice p2 n2 q2,.slice p3 c.list.length q3])):=by rw[<-hW0];exact BS w _ _
 have k0:W0.cell? ⟨w.heap.size,0,none⟩=some (.slice p0 n0 q0):=HRC.cell (i:=0) dE;have k1:W0.cell? ⟨w.heap.size,1,none⟩=some (.slice p1 n1 q1):=HRC.cell (i:=1) dE;have k2:W0.cell? ⟨w.heap.size,2,none⟩=some (.slice p2 n2 q2):=HRC.cell (i:=2) dE;have k3:W0.cell? ⟨w.heap.size,3,none⟩=some (.slice p3 c.list.length q3):=HRC.cell (i:=3) dE;clear hv hkc hkd hs hrow hg hgd htk htd hc hN4 hd;go_enter func3,ntmps3;go_upto_region 1 with fail;try rw[hW0]
 clear hW0;go_upto_region 2 with(go_at_call 4;(with_reducible refine(KP.out _ HB0.out).mono ?_);rintro e w1 ⟨u0,u1,u2,u3,rfl,hcd,how,hb1⟩;obtain⟨r0,m0,s0,rfl⟩:∃p n q,u0=.slice p n q:=(by obtain⟨p,q,e,_⟩:=hcd.sign;exact⟨p,_,q,e⟩);obtain⟨r1,m1,s1,rfl⟩:∃p n q,u1=.slice p n q:=(by obtain⟨p,q,e,_⟩:=hcd.regs;exact⟨p,_,q,e⟩);obtain⟨r2,s2,rfl⟩:∃p q,u2=.slice p d.slots.length q:=(by obtain⟨p,q,e,_⟩:=hcd.slots;exact⟨p,q,e⟩);obtain⟨r3,s3,rfl⟩:∃p q,u3=.slice p d.list.length q:=(by obtain⟨p,q,e,_⟩:=hcd.list;exact⟨p,q,e⟩);have HCA:=A7 hcd;have HB1:=A7 hb1;clear hcd how hb1)
 obtain⟨W1,hW1⟩:∃W,w1.alloc (.cells #[.slice r0 m0 s0,.slice r1 m1 s1,.slice r2 d.slots.length s2,.slice r3 d.list.length s3] 27)=W:=⟨_,rfl⟩
 try rw[hW1]
 obtain⟨DB,hDB⟩:∃x,w1.heap.size=x:=⟨_,rfl⟩
 have HRD:Hid (W1.rowIs DB 27 4 (En #[.slice r0 m0 s0,.slice r1 m1 s1,.slice r2 d.slots.length s2,.slice r3 d.list.length s3])):=by rw[<-hW1,<-hDB];exact BS w1 _ _
 have HB01:Hid (Below W0.heap.size W0 W1):=by rw[<-hW1];exact bel HB1.out (A0 _ _)
 have HW1:Hid (Below w.heap.size w W1):=bel HB0.out HB01.out;have HVD:Hid (CD W1 (.slice r0 m0 s0) (.slice r1 m1 s1) (.slice r2 d.slots.length s2) (.slice r3 d.list.length s3) d):=by rw[<-hW1];exact HCA.below (A0 _ _)
 obtain⟨CB,hCB⟩:∃x,w.heap.size=x:=⟨_,rfl⟩
 rw[hDB];try rw[hCB]
 have HC8:Hid (∀v,Below W1.heap.size W1 v->(v.cell? ⟨CB,0,none⟩=some (.slice p0 n0 q0)/\v.cell? ⟨CB,1,none⟩=some (.slice p1 n1 q1)/\v.cell? ⟨CB,2,none⟩=some (.slice p2 n2 q2)/\v.cell? ⟨CB,3,none⟩=some (.slice p3 c.list.length q3))/\(v.cell? ⟨DB,0,none⟩=some (.slice r0 m0 s0)/\v.cell? ⟨DB,1,none⟩=some (.slice r1 m1 s1)/\v.cell? ⟨DB,2,none⟩=some (.slice r2 d.slots.length s2)/\v.cell? ⟨DB,3,none⟩=some (.slice r3 d.list.length s3))):=fun v hb=>by
  have h8:=HRC.of_block ((bel HB01.out hb).block _ HRC.lt);have h9:=HRD.of_block (hb.block _ HRD.lt);rw[hCB]at h8;exact⟨⟨h8.cell (i:=0) dE,h8.cell (i:=1) dE,h8.cell (i:=2) dE,h8.cell (i:=3) dE⟩,⟨h9.cell (i:=0) dE,h9.cell (i:=1) dE,h9.cell (i:=2) dE,h9.cell (i:=3) dE⟩⟩
 clear hW1 hDB hCB HCA HB1 HRC HRD k0 k1 k2 k3 KP;obtain⟨⟨a0,a1,a2,a3⟩,⟨b0,b1,b2,b3⟩⟩:=HC8.out W1 (BZ _);go_upto_region 4 with(go_at_call 5;(with_reducible refine(KFC.out _ HW1.out).mono ?_);rintro e w2 ⟨rfl,hb2⟩;have HB2:=A7 hb2;clear hb2)
 clear a0 a1 a2 a3 b0 b1 b2 b3;go_cut [62] (fun tv wx=>tv=.bool false/\Hid (Below W1.heap.size W1 wx))
 case first=>
  obtain⟨⟨a0,a1,a2,a3⟩,⟨b0,b1,b2,b3⟩⟩:=HC8.out w2 HB2.out;obtain⟨NC,hNC⟩:∃n,c.list.length=n:=⟨_,rfl⟩
  obtain⟨ND,hND⟩:∃n,d.list.length=n:=⟨_,rfl⟩
  have hle:ND<=NC:=by rw[<-hNC,<-hND];exact HLE.1
  have hle2:¬ (NC:Int)<(ND:Int):=oM;have HLL:=A7 (And.intro hNC hND);by_cases hsg:Bd c.list
  .have K1:Hid (∀v,Below w.heap.size w v->Calls prog 7 #[.agg #[.slice p0 n0 q0,.slice p1 n1 q1,.slice p2 n2 q2,.slice p3 c.list.length q3]] v fun e w'=>e=.returned (.bool true)/\Below v.heap.size v w'):=fun v hb=>(KSC.out v hb).mono fun e w' ⟨b,h1,h2,h3⟩=>⟨by rw[h1,h2.2 hsg],h3⟩
   have K2:Hid (∀ (v:World) (x0 x1 x2 x3:Value),CD v x0 x1 x2 x3 d->Calls prog 7 #[.agg #[x0,x1,x2,x3]] v fun e w'=>e=.returned (.bool true)/\Below v.heap.size v w'):=fun v x0 x1 x2 x3 h=>(KSD.out v x0 x1 x2 x3 h).mono fun e w' ⟨b,h1,h2,h3⟩=>⟨by rw[h1,h2.2 (HSG.out hsg)],h3⟩
   clear hsg;simp only[hNC,hND]at *;clear hNC hND;go_wp2_with(first
    |(go_at_call 5;(with_reducible refine(KFD.out _ _ _ _ _ (HVD.out.below HB2.out)).mono ?_);rintro e w3 ⟨rfl,hb3⟩;have HB3:=A7 (bel HB2.out hb3);clear hb3 a0 a1 a2 a3 b0 b1 b2 b3;obtain⟨⟨a0,a1,a2,a3⟩,⟨b0,b1,b2,b3⟩⟩:=HC8.out w3 HB3.out)
    |(go_at_call 7;(with_reducible refine(K1.out _ (bel HW1.out HB3.out)).mono ?_);rintro e w4 ⟨rfl,hb4⟩;have HB4:=A7 (bel HB3.out hb4);clear hb4 a0 a1 a2 a3 b0 b1 b2 b3;obtain⟨⟨a0,a1,a2,a3⟩,⟨b0,b1,b2,b3⟩⟩:=HC8.out w4 HB4.out)
    |(go_at_call 7;(with_reducible refine(K2.out _ _ _ _ _ (HVD.out.below HB4.out)).mono ?_);rintro e w5 ⟨rfl,hb5⟩;have HB5:=A7 (bel HB4.out hb5);clear hb5 a0 a1 a2 a3 b0 b1 b2 b3;obtain⟨⟨a0,a1,a2,a3⟩,⟨b0,b1,b2,b3⟩⟩:=HC8.out w5 HB5.out))
   go_meet;exact⟨by rw[decide_eq_false oM],HB5.out⟩
  .have K1:Hid (∀v,Below w.heap.size w v->Calls prog 7 #[.agg #[.slice p0 n0 q0,.slice p1 n1 q1,.slice p2 n2 q2,.slice p3 c.list.length q3]] v fun e w'=>e=.returned (.bool false)/\Below v.heap.size v w'):=fun v hb=>(KSC.out v hb).mono fun e w' ⟨b,h1,h2,h3⟩=>⟨by rw[h1];cases b with |false=>rfl|true=>exact absurd (h2.1 rfl) hsg,h3⟩
   clear hsg;simp only[hNC,hND]at *;clear hNC hND;go_wp2_with(first
    |(go_at_call 5;(with_reducible refine(KFD.out _ _ _ _ _ (HVD.out.below HB2.out)).mono ?_);rintro e w3 ⟨rfl,hb3⟩;have HB3:=A7 (bel HB2.out hb3);clear hb3 a0 a1 a2 a3 b0 b1 b2 b3;obtain⟨⟨a0,a1,a2,a3⟩,⟨b0,b1,b2,b3⟩⟩:=HC8.out w3 HB3.out)
    |(go_at_call 7;(with_reducible refine(K1.out _ (bel HW1.out HB3.out)).mono ?_);rintro e w4 ⟨rfl,hb4⟩;have HB4:=A7 (bel HB3.out hb4);clear hb4 a0 a1 a2 a3 b0 b1 b2 b3;obtain⟨⟨a0,a1,a2,a3⟩,⟨b0,b1,b2,b3⟩⟩:=HC8.out w4 HB4.out))
   go_meet;exact⟨by rw[decide_eq_false oM],HB4.out⟩
 case rest=>
 obtain⟨rfl,HB6⟩:=hcut;rename World=>w6;clear HB2 KFC KFD KSC KSD HSG;obtain⟨⟨a0,a1,a2,a3⟩,⟨b0,b1,b2,b3⟩⟩:=HC8.out w6 HB6.out;obtain⟨nc,hnc⟩:∃n,Ed c.slots=n:=⟨_,rfl⟩
 obtain⟨nd,hnd⟩:∃n,Ed d.slots=n:=⟨_,rfl⟩
 have hle:nd<=nc:=by rw[<-hnc,<-hnd];exact HLE.2
 have hle2:¬ (nc:Int)<(nd:Int):=oM;simp only[hnc]at KKC;simp only[hnd]at KKD;clear hnc hnd HLE;go_upto_region 10 with(first
  |(go_at_call 8;(with_reducible refine(KKC.out _ (bel HW1.out HB6.out)).mono ?_);rintro e w7 ⟨x7,rfl,hb7⟩;have HB7:=A7 (bel HB6.out hb7);clear hb7 a0 a1 a2 a3 b0 b1 b2 b3;obtain⟨⟨a0,a1,a2,a3⟩,⟨b0,b1,b2,b3⟩⟩:=HC8.out w7 HB7.out)
  |(go_at_call 8;(with_reducible refine(KKD.out _ _ _ _ _ (HVD.out.below HB7.out)).mono ?_);rintro e w8 ⟨x8,rfl,hb8⟩;have HB8:=A7 (bel HB7.out hb8);clear hb8 a0 a1 a2 a3 b0 b1 b2 b3;obtain⟨⟨a0,a1,a2,a3⟩,⟨b0,b1,b2,b3⟩⟩:=HC8.out w8 HB8.out))
 clear hle hle2 KKC KKD;obtain⟨MS,hMS⟩:∃n,d.slots.length=n:=⟨_,rfl⟩
 obtain⟨ML,hML⟩:∃n,d.list.length=n:=⟨_,rfl⟩
 have HMM:=A7 (And.intro hMS hML);have hMS9:MS<=4096:=by rw[<-hMS];exact HSM.2.1
 have mkB:=fun v=>JT MS oM v;obtain⟨W9,hW9⟩:∃W,w8.alloc (.cells (madeCells #[.bool false] MS) 4)=W:=⟨_,rfl⟩
 have HST:Hid (Below w8.heap.size w8 W9/\W9.ownsRow w8.heap.size 4 1 (.slice (some ⟨w8.heap.size,0,none⟩) MS MS) MS (Rg MS (d.list.take 0))):=by
  rw[<-hW9];refine⟨A0 _ _,?_⟩;rw[List.take_zero,Zj];exact O2 w8 MS oM
 obtain⟨SB,hSB⟩:∃S,w8.heap.size=S:=⟨_,rfl⟩
 obtain⟨pp,hpp⟩:∃p:Option Addr,some ⟨SB,0,none⟩=p:=⟨_,rfl⟩
 have HST2:Hid (Below w8.heap.size w8 W9/\W9.ownsRow w8.heap.size 4 1 (.slice pp MS MS) MS (Rg MS (d.list.take 0))):=by rw[<-hpp,<-hSB];exact HST.out
 have HC9:Hid (∀v,Below w8.heap.size w8 v->(v.cell? ⟨CB,0,none⟩=some (.slice p0 n0 q0)/\v.cell? ⟨CB,1,none⟩=some (.slice p1 n1 q1)/\v.cell? ⟨CB,2,none⟩=some (.slice p2 n2 q2)/\v.cell? ⟨CB,3,none⟩=some (.slice p3 c.list.length q3))/\(v.cell? ⟨DB,0,none⟩=some (.slice r0 m0 s0)/\v.cell? ⟨DB,1,none⟩=some (.slice r1 m1 s1)/\v.cell? ⟨DB,2,none⟩=some (.slice r2 MS s2)/\v.cell? ⟨DB,3,none⟩=some (.slice r3 ML s3))):=fun v hb=>by
  have h9:=HC8.out v (bel HB8.out hb);rw[hMS,hML]at h9;exact h9
 rw[hMS]at b2;rw[hML]at b3;clear HST;go_upto_region 11 with fail;try rw[hW9]
 try rw[hSB]
 try rw[hpp]
 clear hW9 hSB hpp mkB a0 a1 a2 a3 b0 b1 b2 b3 hMS hML;obtain⟨-,⟨-,-,-,b3⟩⟩:=HC9.out W9 HST2.1;go_wp2;clear b3
 go_loopw [12] (fun iv wr=>∃k:Nat,k<=ML/\iv=.int .i64 (k:Int)/\Hid (Below w8.heap.size w8 wr/\wr.ownsRow w8.heap.size 4 1 (.slice pp MS MS) MS (Rg MS (d.list.take k)))) (fun iv _=>ML-(intOf iv).toNat)
 case atStart=>exact⟨0,gI _,rfl,HST2.out⟩
 case round=>
  clear HST2;obtain⟨k,hk,rfl,HJ⟩:=hrel;obtain⟨-,⟨-,-,-,b3⟩⟩:=HC9.out wr HJ.1;by_cases hlt:k<ML
  .have hjl:k<d.list.length:=by rw[HMM.2];exact hlt
   obtain⟨lb,lo,hp3,hcl⟩:=((HVD.below (bel HB8.out HJ.1)).list).at hjl;subst hp3;have hdi:=HLA.out _ (gD hjl);have htk:d.list.take (k+1)=d.list.take k++[d.list[k]]:=List.take_succ_eq_append_getElem hjl;obtain⟨⟨op,dd,a,b,e,n,z⟩,hi⟩:∃i,d.list[k]=i:=⟨_,rfl⟩
   rw[hi]at hcl hdi htk;simp only at hdi;have HTK:=A7 htk;have y0:=hcl.at 0 (v:=.int .i64 op) rfl;rw[Nat.add_zero]at y0;have y5:=hcl.at 5 (v:=.int .i64 n) rfl;have i1:(0:Int)<=(k:Int):=oM;have i2:(k:Int)<(ML:Int):=oM;have wi:IntKind.i64.wrap ((k:Int)+1)=((k+1:Nat):Int):=by have:=HSM.out;have:=HMM.2;rw[IntKind.wrap_i64];omega
   clear hcl hi htk;by_cases ho:op=32
   .obtain⟨D,hD,hDN⟩:=hdi ho;subst hD;subst ho;rw[HMM.1]at hDN;obtain⟨g,cap,e9,hg1,hg2⟩:=HJ.2.form oM;simp only[Value.slice.injEq]at e9;obtain⟨rfl,-,-⟩:=e9;have k0:wr.cell? ⟨g,D,none⟩=some (.bool (Yf (d.list.take k) D)):=by rw[HJ.2.cellAt D oM,JQ _ hDN]
    have k1:wr.frozen? ⟨g,D,none⟩=false:=HJ.2.frozenAt D;have i3:(0:Int)<=(D:Int):=oM;have i4:(D:Int)<(MS:Int):=oM;have HGB:Hid (w8.heap.size<=g):=hg1;clear hdi hg1 hg2;go_wp2;go_roundw
    case rel=>
     refine⟨k+1,oM,gN,HJ.1.setCell HGB.out _,?_⟩;rw[HTK.out,<-VB (D:=D) rfl oM rfl];exact(HJ.2.stored D _).1
    case measure=>simp[intOf];omega
   .clear hdi;go_wp2;go_roundw
    case rel=>
     refine⟨k+1,oM,gN,HJ.1,?_⟩;rw[HTK.out,VC (by exact ho)];exact HJ.2
    case measure=>simp[intOf];omega
  .have hje:k=d.list.length:=by rw[HMM.2];omega
   have e1:¬ (k:Int)<(ML:Int):=oM;have HFN:Hid (Below w8.heap.size w8 wr/\wr.ownsRow w8.heap.size 4 1 (.slice pp MS MS) MS (Rg MS d.list)):=by
    have h9:=HJ.out;rw[hje,List.take_length]at h9;exact h9
   rename World=>wl;clear hlt hje HJ;go_wp2;clear b3
   go_loopw [13] (fun iv wr'=>∃k:Nat,k<=MS/\iv=.int .i64 (k:Int)/\wr'=wl) (fun iv _=>MS-(intOf iv).toNat)
   case atStart=>exact⟨0,gI _,rfl,rfl⟩
   case round=>
    obtain⟨m,hm,rfl,hww⟩:=hrel;subst hww;rename World=>wl;by_cases hlt:m<MS
    .obtain⟨g,cap,e9,hg1,hg2⟩:=HFN.2.form oM;simp only[Value.slice.injEq]at e9;obtain⟨rfl,-,-⟩:=e9;have k0:wl.cell? ⟨g,m,none⟩=some (.bool true):=by rw[HFN.2.cellAt m oM,JQ _ hlt,HLD.out m (by rw[HMM.1];exact hlt)]
     have i1:(0:Int)<=(m:Int):=oM;have i2:(m:Int)<(MS:Int):=oM;have wi:IntKind.i64.wrap ((m:Int)+1)=((m+1:Nat):Int):=by rw[IntKind.wrap_i64];omega
     clear hg1 hg2;go_wp2;go_roundw
     case rel=>exact⟨m+1,oM,gN,trivial⟩
     case measure=>simp[intOf];omega
    .have e2:¬ (m:Int)<(MS:Int):=oM;have HBL:Hid (Below W1.heap.size W1 wl):=bel HB8.out HFN.1;clear hlt HFN HLD HLA;obtain⟨⟨a0,a1,a2,a3⟩,⟨b0,b1,b2,b3⟩⟩:=HC8.out wl HBL.out;go_upto_block 4 with(first
      |(go_at_call 9;(with_reducible refine(KA.out _ (bel HW1.out HBL.out)).mono ?_);rintro e w11 ⟨px,qx,SX,rfl,hmx,hcx,hb1,hlx,hlxx⟩;have HCX:=A7 (And.intro hmx (And.intro hcx (And.intro hlx hlxx)));have HB11:=A7 hb1;have nn0:=(fun o=>kc (bel hb1 (A0 _ o)) b0);have nn1:=(fun o=>kc (bel hb1 (A0 _ o)) b1);have nn2:=(fun o=>kc (bel hb1 (A0 _ o)) b2);have nn3:=(fun o=>kc (bel hb1 (A0 _ o)) b3);clear hmx hcx hb1 hlx hlxx a0 a1 a2 a3)
      |(go_at_call 9;(with_reducible refine(KB.out _ _ _ _ _ (HVD.out.below (bel HBL.out (bel HB11.out (A0 _ _))))).mono ?_);rintro e w12 ⟨py,qy,SY,rfl,hmy,hcy,hb2,hly,hlyy⟩;have HCY:=A7 (And.intro hmy (And.intro hcy (And.intro hly hlyy)));have HB12:=A7 hb2;clear hmy hcy hb2 hly hlyy))
     obtain⟨WX,hWX⟩:∃W,w11.alloc (.cells #[.slice p0 n0 q0,.slice p1 n1 q1,.slice p2 n2 q2,.slice p3 c.list.length q3,.slice px c.slots.length qx] 43)=W:=⟨_,rfl⟩
     have HX1:Hid (Below w11.heap.size w11 WX/\WX.heap.size=w11.heap.size+1/\WX.rowIs w11.heap.size 43 5 (f5 (.slice p0 n0 q0) (.slice p1 n1 q1) (.slice p2 n2 q2) (.slice p3 c.list.length q3) (.slice px c.slots.length qx))):=by rw[<-hWX];exact⟨A0 _ _,sM,World.rowIs_alloc w11 _ _ _ (FE _ _ _ _ _)⟩
     rw[hWX]at HB12 HCY;obtain⟨W2,hW2⟩:∃W,w12.alloc (.cells #[.slice r0 m0 s0,.slice r1 m1 s1,.slice r2 d.slots.length s2,.slice r3 d.list.length s3,.slice py d.slots.length qy] 43)=W:=⟨_,rfl⟩
     have HX2:Hid (Below w12.heap.size w12 W2/\W2.heap.size=w12.heap.size+1/\W2.rowIs w12.heap.size 43 5 (f5 (.slice r0 m0 s0) (.slice r1 m1 s1) (.slice r2 d.slots.length s2) (.slice r3 d.list.length s3) (.slice py d.slots.length qy))):=by rw[<-hW2];exact⟨A0 _ _,sM,World.rowIs_alloc w12 _ _ _ (FE _ _ _ _ _)⟩
     try rw[hW2]
     clear hWX hW2 b0 b1 b2 b3 nn0 nn1 nn2 nn3;obtain⟨XB,hXB⟩:∃x,w11.heap.size=x:=⟨_,rfl⟩
     obtain⟨YB,hYB⟩:∃x,w12.heap.size=x:=⟨_,rfl⟩
     have HNUM:Hid (w.heap.size<=XB/\XB<YB/\YB<W2.heap.size/\WX.heap.size=XB+1/\WX.heap.size<=YB/\W1.heap.size<=XB/\wl.heap.size<=XB):=by
      have e0:=HW1.size;have e5:=HBL.size;have e1:=HB11.size;have e2:=HX1.2.1;have e3:=HB12.size;have e4:=HX2.2.1;refine⟨?_,?_,?_,?_,?_,?_,?_⟩<;>omega
     have HW12:Hid (Below W1.heap.size W1 W2):=bel HBL.out (bel HB11.out (bel HX1.1 (bel HB12.out HX2.1)));have HW2:Hid (Below w.heap.size w W2):=bel HW1.out HW12.out;have HI:Hid (∃hs hs' S S' px qx py qy,AT (fun b=>b=XB\/b=YB) W2 (.slice px c.slots.length qx) S/\S.map (·.h)=hs/\AT (fun b=>b=XB\/b=YB) W2 (.slice py d.slots.length qy) S'/\S'.map (·.h)=hs'/\Ib c hs/\Ib d hs'/\Pb c hs hs'/\World.rowIs W2 XB 43 5 (f5 (.slice p0 n0 q0) (.slice p1 n1 q1) (.slice p2 n2 q2) (.slice p3 c.list.length q3) (.slice px c.slots.length qx))/\World.rowIs W2 YB 43 5 (f5 (.slice r0 m0 s0) (.slice r1 m1 s1) (.slice r2 d.slots.length s2) (.slice r3 d.list.length s3) (.slice py d.slots.length qy))/\Un (fun b=>b=XB\/b=YB) W2 W2):=by
      obtain⟨f1,f2,f3,f4,f5,f6,f7⟩:=HNUM.out;obtain⟨i1,i2,i3,i4⟩:=HCX.out;obtain⟨j1,j2,j3,j4⟩:=HCY.out;obtain⟨g1,⟨g2,g3⟩,g4,g5,g6,g7,g8⟩:=HG.out;refine⟨BC c,BC d,SX,SY,px,qx,py,qy,?_,i1,?_,j1,Me g1 g3,Me g6 g5,g8,?_,?_,Un.refl _ _⟩
      .refine AT.below (AT.mono (U:=(fun b=>b=XB\/b=YB)) (UZ (T:=fun b=>b<wl.heap.size) i2 i3 i4 (fun b e=>e)) (fun b hb e=>?_)) (bel HX1.1 (bel HB12.out HX2.1));rcases e with e|e<;>omega
      .refine AT.below (AT.mono (U:=(fun b=>b=XB\/b=YB)) (UZ (T:=fun b=>b<WX.heap.size) j2 j3 j4 (fun b e=>e)) (fun b hb e=>?_)) HX2.1;rcases e with e|e<;>omega
      .rw[<-hXB];exact HX1.2.2.of_block ((bel HB12.out HX2.1).block _ HX1.2.2.lt)
      .rw[<-hYB];exact HX2.2.2
     rw[hXB,hYB];clear HCX HCY HX1 HX2 HB11 HB12 KA KB hXB hYB HBL HC8 HC9;go_wp2_with fail
     go_loopw [18] (fun iv wr=>∃j:Nat,j<=N4/\j<=20/\iv=.int .i64 (j:Int)/\Hid (∃hs hs' S S' px qx py qy,AT (fun b=>b=XB\/b=YB) wr (.slice px c.slots.length qx) S/\S.map (·.h)=hs/\AT (fun b=>b=XB\/b=YB) wr (.slice py d.slots.length qy) S'/\S'.map (·.h)=hs'/\Ib c hs/\Ib d hs'/\Pb c hs hs'/\World.rowIs wr XB 43 5 (f5 (.slice p0 n0 q0) (.slice p1 n1 q1) (.slice p2 n2 q2) (.slice p3 c.list.length q3) (.slice px c.slots.length qx))/\World.rowIs wr YB 43 5 (f5 (.slice r0 m0 s0) (.slice r1 m1 s1) (.slice r2 d.slots.length s2) (.slice r3 d.list.length s3) (.slice py d.slots.length qy))/\Un (fun b=>b=XB\/b=YB) W2 wr)) (fun iv _=>20-(intOf iv).toNat)
     case atStart=>exact⟨0,gI _,dE,rfl,HI.out⟩
     case round=>
      clear HI;obtain⟨j,hj,hj20,rfl,HR⟩:=hrel;obtain⟨hs,hs',S,S',px,qx,py,qy,hcx,hmx,hcy,hmy,hsl,hsl',hslp,hbx,hby,hun⟩:=HR.out;have hbW:Below w.heap.size w wr:=HW2.trans (hun.below (by have:=HNUM.out;omega) (fun b e=>by have:=HNUM.out;rcases e with e|e<;>omega));have hbD:Below W1.heap.size W1 wr:=HW12.trans (hun.below (by have:=HNUM.out;omega) (fun b e=>by have:=HNUM.out;rcases e with e|e<;>omega));have HEND:=A7 hbW;by_cases hlt:j<N4
      .by_cases h20:j<20
       .have hjl:j<l.length:=by rw[HN4.out];exact hlt
        obtain⟨lb,lo,hp4,hcj⟩:∃lb lo,p4=some ⟨lb,lo,none⟩/\Ar w lb (lo+j*2) (stC l[j]):=by
         rcases HROW.out with e|⟨b,o,hp,hc⟩
         .rw[e]at hjl;cases hjl
         .exact⟨b,o,hp,hc j hjl⟩
        subst hp4;have hst:=HS.out l[j] (gD hjl);obtain⟨s,hs9⟩:=gA (l[j])
        rw[hs9]at hcj hst;obtain⟨gv,pv,G,P⟩:=s;obtain⟨g1,g2,g3,g4⟩:=hst;simp only at g1 g2 g3 g4;obtain⟨pg,qg,rfl⟩:∃p q,gv=.slice p G.length q:=by obtain⟨p,q,e,_⟩:=g1;exact⟨p,q,e⟩
        obtain⟨pp',qp,rfl⟩:∃p q,pv=.slice p P.length q:=by obtain⟨p,q,e,_⟩:=g2;exact⟨p,q,e⟩
        have y0:wr.cell? ⟨lb,lo+j*2,none⟩=some (.slice pg G.length qg):=kc hbW (hcj.at 0 rfl);have y1:wr.cell? ⟨lb,lo+j*2+1,none⟩=some (.slice pp' P.length qp):=kc hbW (hcj.at 1 rfl);have hlb:lb<w.heap.size:=A8 (hcj.at 0 rfl);obtain⟨hg,⟨hc,hkc⟩,hd,hkd,hgd,hPJ,-⟩:=HG.out;obtain⟨eE,eS,eU⟩:=hPJ hslp G P;have hwr:W2.heap.size<=wr.heap.size:=hun.size;have hTlt:∀b,(b=XB\/b=YB)->b<wr.heap.size:=fun b e=>by have:=HNUM.out;rcases e with e|e<;>omega
        have KX:Hid (∀ (v:World) (N:Nat->Prop),Below wr.heap.size wr v->(∀b,N b->wr.heap.size<=b/\b<v.heap.size)->Calls prog 10 #[.agg #[.slice p0 n0 q0,.slice p1 n1 q1,.slice p2 n2 q2,.slice p3 c.list.length q3,.slice px c.slots.length qx],.slice pg G.length qg,.slice pp' P.length qp] v fun e w'=>∃p5 q5 pu nu qu S5,e=.returned (.tuple #[.agg #[.slice p0 n0 q0,.slice p1 n1 q1,.slice p2 n2 q2,.slice p3 c.list.length q3,.slice p5 c.slots.length q5],.slice pu nu qu,.int .i64 (Jb c G P)])/\S5.map (·.h)=Sm c hs G P/\AT (fun b=>(b=XB\/b=YB)\/N b) w' (.slice p5 c.slots.length q5) S5/\F7 (fun b=>b<v.heap.size) w' (.slice pu nu qu) (UI c hs G P)/\Ib c (Sm c hs G P)/\Below v.heap.size v w'):=fun v N hb hN=>
         Ku (T:=fun b=>(b=XB\/b=YB)\/N b) _ _ _ _ px pg pp' qx qg qp c hc hkc hs hsl S hmx G P g3 g4 v (fun b e=>e.elim (fun e=>Nat.lt_of_lt_of_le (hTlt b e) hb.size) (fun e=>(hN b e).2)) ((HVC.below hbW).below hb) ((hcx.mono (fun b hb5 e=>e.elim id (fun e=>by have:=(hN b e).1;omega))).below hb) ((g1.below hbW).below hb) ((g2.below hbW).below hb)
        have KY:Hid (∀ (v:World) (N:Nat->Prop),Below wr.heap.size wr v->(∀b,N b->wr.heap.size<=b/\b<v.heap.size)->Calls prog 10 #[.agg #[.slice r0 m0 s0,.slice r1 m1 s1,.slice r2 d.slots.length s2,.slice r3 d.list.length s3,.slice py d.slots.length qy],.slice pg G.length qg,.slice pp' P.length qp] v fun e w'=>∃p5 q5 pu nu qu S5,e=.returned (.tuple #[.agg #[.slice r0 m0 s0,.slice r1 m1 s1,.slice r2 d.slots.length s2,.slice r3 d.list.length s3,.slice p5 d.slots.length q5],.slice pu nu qu,.int .i64 (Jb c G P)])/\S5.map (·.h)=Sm d hs' G P/\AT (fun b=>(b=XB\/b=YB)\/N b) w' (.slice p5 d.slots.length q5) S5/\F7 (fun b=>b<v.heap.size) w' (.slice pu nu qu) (UI c hs G P)/\Ib d (Sm d hs' G P)/\Below v.heap.size v w'):=fun v N hb hN=>by
         have h9:=Ku (T:=fun b=>(b=XB\/b=YB)\/N b) _ _ _ _ py pg pp' qy qg qp d hd hkd hs' hsl' S' hmy G P g3 g4 v (fun b e=>e.elim (fun e=>Nat.lt_of_lt_of_le (hTlt b e) hb.size) (fun e=>(hN b e).2)) ((HVD.below hbD).below hb) ((hcy.mono (fun b hb5 e=>e.elim id (fun e=>by have:=(hN b e).1;omega))).below hb) ((g1.below hbW).below hb) ((g2.below hbW).below hb);rw[eE,eU]at h9;exact h9
        have HL:=A7 (upJ_len hg hs G P);have hE9:Jb c G P=0\/Jb c G P=170:=by unfold Jb;split<;>simp
        obtain⟨E,hE⟩:=gA (Jb c G P)
        obtain⟨hs2,hhs2⟩:∃x,Sm c hs G P=x:=⟨_,rfl⟩
        obtain⟨hs3,hhs3⟩:∃x,Sm d hs' G P=x:=⟨_,rfl⟩
        obtain⟨L,hL⟩:∃x,UI c hs G P=x:=⟨_,rfl⟩
        rw[hE,hhs2,hL]at KX;rw[hE,hhs3,hL]at KY;rw[hL]at HL;rw[hhs2,hhs3]at eS;rw[hE]at hE9;have HCAN:=A7 eS;have HUN:=A7 hun;have HXW:=A7 (And.intro hbx hby);have HLT:Hid (lb<w.heap.size/\XB<wr.heap.size/\YB<wr.heap.size/\w.heap.size<=XB/\XB<YB/\w.heap.size<=wr.heap.size):=⟨hlb,hTlt _ (.inl rfl),hTlt _ (.inr rfl),HNUM.1,HNUM.2.1,hbW.size⟩
        have HE9:=A7 hE9;have j1:(0:Int)<=(j:Int):=oM;have j2:(j:Int)<(N4:Int):=oM;have j3:(j:Int)<20:=oM;have wi:IntKind.i64.wrap ((j:Int)+1)=((j+1:Nat):Int):=by rw[IntKind.wrap_i64];omega
        clear hg hc hkc hd hkd hgd hPJ hcx hmx hcy hmy hsl hsl' hslp hbx hby hun hbW hbD g1 g2 g3 g4 hcj hs9 hlb hTlt hwr eE eS eU hE hhs2 hhs3 hL hE9 HR;go_upto_region 26 with fail;go_cut [19,20,21] (fun nv uv ev wz=>∃NB p5 q5 pu nu qu S5,nv=.pointer (some ⟨NB,0,none⟩)/\uv=.slice pu nu qu/\ev=.int .i64 E/\Hid (wz.rowIs NB 43 5 (f5 (.slice p0 n0 q0) (.slice p1 n1 q1) (.slice p2 n2 q2) (.slice p3 c.list.length q3) (.slice p5 c.slots.length q5))/\wr.heap.size<=NB/\S5.map (·.h)=hs2/\AT (fun b=>b=XB\/b=YB) wz (.slice p5 c.slots.length q5) S5/\F7 (fun b=>b<wr.heap.size) wz (.slice pu nu qu) L/\Ib c hs2/\Below wr.heap.size wr wz))
        case first=>
         have hdb:=(HXW.1.of_block ((BZ wr).block XB HLT.2.1))
         have d0:wr.cell? ⟨XB,0,none⟩=some (.slice p0 n0 q0):=hdb.cell (i:=0) dE;have d1:wr.cell? ⟨XB,1,none⟩=some (.slice p1 n1 q1):=hdb.cell (i:=1) dE;have d2:wr.cell? ⟨XB,2,none⟩=some (.slice p2 n2 q2):=hdb.cell (i:=2) dE;have d3:wr.cell? ⟨XB,3,none⟩=some (.slice p3 c.list.length q3):=hdb.cell (i:=3) dE;have d4:wr.cell? ⟨XB,4,none⟩=some (.slice px c.slots.length qx):=hdb.cell (i:=4) dE;have t0:=y0;have t1:=y1;clear hdb y0 y1;have z1:=(fun o=>kc (A0 wr o) t0)
         have z2:=(fun o=>kc (A0 wr o) t1)
         have z3:=(fun o=>kc (A0 wr o) d0)
         have z4:=(fun o=>kc (A0 wr o) d1)
         have z5:=(fun o=>kc (A0 wr o) d2)
         have z6:=(fun o=>kc (A0 wr o) d3)
         have z7:=(fun o=>kc (A0 wr o) d4)
         refine rG (fun v=>v.cell? ⟨lb,lo+j*2,none⟩=some (.slice pg G.length qg)/\v.cell? ⟨lb,lo+j*2+1,none⟩=some (.slice pp' P.length qp)/\v.cell? ⟨XB,0,none⟩=some (.slice p0 n0 q0)/\v.cell? ⟨XB,1,none⟩=some (.slice p1 n1 q1)/\v.cell? ⟨XB,2,none⟩=some (.slice p2 n2 q2)/\v.cell? ⟨XB,3,none⟩=some (.slice p3 c.list.length q3)/\v.cell? ⟨XB,4,none⟩=some (.slice px c.slots.length qx)) fun hJ=>?_;refine Tf 0 1 2 3 4 5 ?_;refine Tc 6 7 8 ?_;refine Tb 9 10 ?_;clear hJ;refine wpAnyH_ready (rs:=[11,16]) kR sM ?_;refine DP 11 (fun K hK=>?_) ?_
         .go_simp;(go_at_call 10;(first|(with_reducible refine(KX.out wr.drew (fun _=>False) (bel (BZ wr) (A9 _)) (fun b e=>e.elim)).mono ?_)|(with_reducible refine(KX.out _ (fun b=>b=wr.heap.size) (bel (BZ wr) (bel (A0 _ _) (A9 _))) (fun b e=>by subst e;exact⟨gF _,sM⟩)).mono ?_));rintro e w6 ⟨p5,q5,pu,nu,qu,S5,rfl,k1,k2,k3,k4,k5⟩;have HK6:=A7 (And.intro k1 (And.intro k2 (And.intro k3 k4)));have HB6:Hid (Below wr.heap.size wr w6):=Zgh;(try(have HNB:=A7 ((World.rowIs_alloc wr #[.slice none 0 0,.slice none 0 0,.slice none 0 0,.slice none 0 0,.slice none 0 0] 43 _ (FE _ _ _ _ _)).of_block (k5.block wr.heap.size sM))));(try(have nn0:w6.cell? ⟨wr.heap.size,0,none⟩=some (.slice none 0 0):=HNB.out.cell (i:=0) dE;have nn1:w6.cell? ⟨wr.heap.size,1,none⟩=some (.slice none 0 0):=HNB.out.cell (i:=1) dE;have nn2:w6.cell? ⟨wr.heap.size,2,none⟩=some (.slice none 0 0):=HNB.out.cell (i:=2) dE;have nn3:w6.cell? ⟨wr.heap.size,3,none⟩=some (.slice none 0 0):=HNB.out.cell (i:=3) dE;have nn4:w6.cell? ⟨wr.heap.size,4,none⟩=some (.slice none 0 0):=HNB.out.cell (i:=4) dE;have o0:=HNB.out.frozen 0;have o1:=HNB.out.frozen 1;have o2:=HNB.out.frozen 2;have o3:=HNB.out.frozen 3;have o4:=HNB.out.frozen 4));have ct0:=kc HB6.out t0;have et0:=(fun o=>kc (A0 w6 o) ct0);have st0:=As ct0 Zgp;have ct1:=kc HB6.out t1;have et1:=(fun o=>kc (A0 w6 o) ct1);have st1:=As ct1 Zgp;have cd0:=kc HB6.out d0;have ed0:=(fun o=>kc (A0 w6 o) cd0);have sd0:=As cd0 Yb;have cd1:=kc HB6.out d1;have ed1:=(fun o=>kc (A0 w6 o) cd1);have sd1:=As cd1 Yb;have cd2:=kc HB6.out d2;have ed2:=(fun o=>kc (A0 w6 o) cd2);have sd2:=As cd2 Yb;have cd3:=kc HB6.out d3;have ed3:=(fun o=>kc (A0 w6 o) cd3);have sd3:=As cd3 Yb;have cd4:=kc HB6.out d4;have ed4:=(fun o=>kc (A0 w6 o) cd4);have sd4:=As cd4 Yb;clear k1 k2 k3 k4 k5);try(go_wp2_with fail)
          refine Aq hK fun hJ=>?_;clear hK K;refine Tc 12 13 14 ?_;refine Bo 15 ?_;clear hJ;refine Aw 16 fun K hK=>?_;go_simp;refine Aq hK fun hJ=>?_;clear hK K;exact Zbj
         refine DP 16 (fun K hK=>?_) AllReadyH.nil;go_simp;refine Aq hK fun hJ=>?_;clear hK K;clear hJ;refine Aw 11 fun K hK=>?_;go_simp;(go_at_call 10;(first|(with_reducible refine(KX.out wr.drew (fun _=>False) (bel (BZ wr) (A9 _)) (fun b e=>e.elim)).mono ?_)|(with_reducible refine(KX.out _ (fun b=>b=wr.heap.size) (bel (BZ wr) (bel (A0 _ _) (A9 _))) (fun b e=>by subst e;exact⟨gF _,sM⟩)).mono ?_));rintro e w6 ⟨p5,q5,pu,nu,qu,S5,rfl,k1,k2,k3,k4,k5⟩;have HK6:=A7 (And.intro k1 (And.intro k2 (And.intro k3 k4)));have HB6:Hid (Below wr.heap.size wr w6):=Zgh;(try(have HNB:=A7 ((World.rowIs_alloc wr #[.slice none 0 0,.slice none 0 0,.slice none 0 0,.slice none 0 0,.slice none 0 0] 43 _ (FE _ _ _ _ _)).of_block (k5.block wr.heap.size sM))));(try(have nn0:w6.cell? ⟨wr.heap.size,0,none⟩=some (.slice none 0 0):=HNB.out.cell (i:=0) dE;have nn1:w6.cell? ⟨wr.heap.size,1,none⟩=some (.slice none 0 0):=HNB.out.cell (i:=1) dE;have nn2:w6.cell? ⟨wr.heap.size,2,none⟩=some (.slice none 0 0):=HNB.out.cell (i:=2) dE;have nn3:w6.cell? ⟨wr.heap.size,3,none⟩=some (.slice none 0 0):=HNB.out.cell (i:=3) dE;have nn4:w6.cell? ⟨wr.heap.size,4,none⟩=some (.slice none 0 0):=HNB.out.cell (i:=4) dE;have o0:=HNB.out.frozen 0;have o1:=HNB.out.frozen 1;have o2:=HNB.out.frozen 2;have o3:=HNB.out.frozen 3;have o4:=HNB.out.frozen 4));have ct0:=kc HB6.out t0;have et0:=(fun o=>kc (A0 w6 o) ct0);have st0:=As ct0 Zgp;have ct1:=kc HB6.out t1;have et1:=(fun o=>kc (A0 w6 o) ct1);have st1:=As ct1 Zgp;have cd0:=kc HB6.out d0;have ed0:=(fun o=>kc (A0 w6 o) cd0);have sd0:=As cd0 Yb;have cd1:=kc HB6.out d1;have ed1:=(fun o=>kc (A0 w6 o) cd1);have sd1:=As cd1 Yb;have cd2:=kc HB6.out d2;have ed2:=(fun o=>kc (A0 w6 o) cd2);have sd2:=As cd2 Yb;have cd3:=kc HB6.out d3;have ed3:=(fun o=>kc (A0 w6 o) cd3);have sd3:=As cd3 Yb;have cd4:=kc HB6.out d4;have ed4:=(fun o=>kc (A0 w6 o) cd4);have sd4:=As cd4 Yb;clear k1 k2 k3 k4 k5);try(go_wp2_with fail)
         refine Aq hK fun hJ=>?_;clear hK K;refine Tc 12 13 14 ?_;refine Bo 15 ?_;exact Zbj
        case rest=>
        obtain⟨NX,pn,qn,pa,na,qa,SN,rfl,rfl,rfl,HC6⟩:=hcut;rename World=>wx;have HBX:Hid (Below wr.heap.size wr wx):=HC6.2.2.2.2.2.2;go_upto_region 27 with fail;go_cut [22,23,24] (fun nv uv ev wz=>∃NB p5 q5 pu nu qu S5,nv=.pointer (some ⟨NB,0,none⟩)/\uv=.slice pu nu qu/\ev=.int .i64 E/\Hid (wz.rowIs NB 43 5 (f5 (.slice r0 m0 s0) (.slice r1 m1 s1) (.slice r2 d.slots.length s2) (.slice r3 d.list.length s3) (.slice p5 d.slots.length q5))/\wx.heap.size<=NB/\S5.map (·.h)=hs3/\AT (fun b=>b=XB\/b=YB) wz (.slice p5 d.slots.length q5) S5/\F7 (fun b=>b<wx.heap.size) wz (.slice pu nu qu) L/\Ib d hs3/\Below wx.heap.size wx wz))
        case first=>
         have hdb:=(HXW.2.of_block (HBX.block YB HLT.2.2.1))
         have d0:wx.cell? ⟨YB,0,none⟩=some (.slice r0 m0 s0):=hdb.cell (i:=0) dE;have d1:wx.cell? ⟨YB,1,none⟩=some (.slice r1 m1 s1):=hdb.cell (i:=1) dE;have d2:wx.cell? ⟨YB,2,none⟩=some (.slice r2 d.slots.length s2):=hdb.cell (i:=2) dE;have d3:wx.cell? ⟨YB,3,none⟩=some (.slice r3 d.list.length s3):=hdb.cell (i:=3) dE;have d4:wx.cell? ⟨YB,4,none⟩=some (.slice py d.slots.length qy):=hdb.cell (i:=4) dE;have t0:=kc HBX.out y0;have t1:=kc HBX.out y1;clear hdb y0 y1;have z1:=(fun o=>kc (A0 wx o) t0)
         have z2:=(fun o=>kc (A0 wx o) t1)
         have z3:=(fun o=>kc (A0 wx o) d0)
         have z4:=(fun o=>kc (A0 wx o) d1)
         have z5:=(fun o=>kc (A0 wx o) d2)
         have z6:=(fun o=>kc (A0 wx o) d3)
         have z7:=(fun o=>kc (A0 wx o) d4)
         refine rG (fun v=>v.cell? ⟨lb,lo+j*2,none⟩=some (.slice pg G.length qg)/\v.cell? ⟨lb,lo+j*2+1,none⟩=some (.slice pp' P.length qp)/\v.cell? ⟨YB,0,none⟩=some (.slice r0 m0 s0)/\v.cell? ⟨YB,1,none⟩=some (.slice r1 m1 s1)/\v.cell? ⟨YB,2,none⟩=some (.slice r2 d.slots.length s2)/\v.cell? ⟨YB,3,none⟩=some (.slice r3 d.list.length s3)/\v.cell? ⟨YB,4,none⟩=some (.slice py d.slots.length qy)) fun hJ=>?_;refine Tf 0 1 2 3 4 5 ?_;refine Tc 6 7 8 ?_;refine Tb 9 10 ?_;clear hJ;refine wpAnyH_ready (rs:=[11,16]) kR sM ?_;refine DP 11 (fun K hK=>?_) ?_
         .go_simp;(go_at_call 10;(first|(with_reducible refine(KY.out wx.drew (fun _=>False) (bel HBX.out (A9 _)) (fun b e=>e.elim)).mono ?_)|(with_reducible refine(KY.out _ (fun b=>b=wx.heap.size) (bel HBX.out (bel (A0 _ _) (A9 _))) (fun b e=>by subst e;exact⟨HBX.out.size,sM⟩)).mono ?_));rintro e w6 ⟨p5,q5,pu,nu,qu,S5,rfl,k1,k2,k3,k4,k5⟩;have HK6:=A7 (And.intro k1 (And.intro k2 (And.intro k3 k4)));have HB6:Hid (Below wx.heap.size wx w6):=Zgh;(try(have HNB:=A7 ((World.rowIs_alloc wx #[.slice none 0 0,.slice none 0 0,.slice none 0 0,.slice none 0 0,.slice none 0 0] 43 _ (FE _ _ _ _ _)).of_block (k5.block wx.heap.size sM))));(try(have nn0:w6.cell? ⟨wx.heap.size,0,none⟩=some (.slice none 0 0):=HNB.out.cell (i:=0) dE;have nn1:w6.cell? ⟨wx.heap.size,1,none⟩=some (.slice none 0 0):=HNB.out.cell (i:=1) dE;have nn2:w6.cell? ⟨wx.heap.size,2,none⟩=some (.slice none 0 0):=HNB.out.cell (i:=2) dE;have nn3:w6.cell? ⟨wx.heap.size,3,none⟩=some (.slice none 0 0):=HNB.out.cell (i:=3) dE;have nn4:w6.cell? ⟨wx.heap.size,4,none⟩=some (.slice none 0 0):=HNB.out.cell (i:=4) dE;have o0:=HNB.out.frozen 0;have o1:=HNB.out.frozen 1;have o2:=HNB.out.frozen 2;have o3:=HNB.out.frozen 3;have o4:=HNB.out.frozen 4));have ct0:=kc HB6.out t0;have et0:=(fun o=>kc (A0 w6 o) ct0);have st0:=As ct0 Zgj;have ct1:=kc HB6.out t1;have et1:=(fun o=>kc (A0 w6 o) ct1);have st1:=As ct1 Zgj;have cd0:=kc HB6.out d0;have ed0:=(fun o=>kc (A0 w6 o) cd0);have sd0:=As cd0 Ya;have cd1:=kc HB6.out d1;have ed1:=(fun o=>kc (A0 w6 o) cd1);have sd1:=As cd1 Ya;have cd2:=kc HB6.out d2;have ed2:=(fun o=>kc (A0 w6 o) cd2);have sd2:=As cd2 Ya;have cd3:=kc HB6.out d3;have ed3:=(fun o=>kc (A0 w6 o) cd3);have sd3:=As cd3 Ya;have cd4:=kc HB6.out d4;have ed4:=(fun o=>kc (A0 w6 o) cd4);have sd4:=As cd4 Ya;clear k1 k2 k3 k4 k5);try(go_wp2_with fail)
          refine Aq hK fun hJ=>?_;clear hK K;refine Tc 12 13 14 ?_;refine Bo 15 ?_;clear hJ;refine Aw 16 fun K hK=>?_;go_simp;refine Aq hK fun hJ=>?_;clear hK K;exact Zbj
         refine DP 16 (fun K hK=>?_) AllReadyH.nil;go_simp;refine Aq hK fun hJ=>?_;clear hK K;clear hJ;refine Aw 11 fun K hK=>?_;go_simp;(go_at_call 10;(first|(with_reducible refine(KY.out wx.drew (fun _=>False) (bel HBX.out (A9 _)) (fun b e=>e.elim)).mono ?_)|(with_reducible refine(KY.out _ (fun b=>b=wx.heap.size) (bel HBX.out (bel (A0 _ _) (A9 _))) (fun b e=>by subst e;exact⟨HBX.out.size,sM⟩)).mono ?_));rintro e w6 ⟨p5,q5,pu,nu,qu,S5,rfl,k1,k2,k3,k4,k5⟩;have HK6:=A7 (And.intro k1 (And.intro k2 (And.intro k3 k4)));have HB6:Hid (Below wx.heap.size wx w6):=Zgh;(try(have HNB:=A7 ((World.rowIs_alloc wx #[.slice none 0 0,.slice none 0 0,.slice none 0 0,.slice none 0 0,.slice none 0 0] 43 _ (FE _ _ _ _ _)).of_block (k5.block wx.heap.size sM))));(try(have nn0:w6.cell? ⟨wx.heap.size,0,none⟩=some (.slice none 0 0):=HNB.out.cell (i:=0) dE;have nn1:w6.cell? ⟨wx.heap.size,1,none⟩=some (.slice none 0 0):=HNB.out.cell (i:=1) dE;have nn2:w6.cell? ⟨wx.heap.size,2,none⟩=some (.slice none 0 0):=HNB.out.cell (i:=2) dE;have nn3:w6.cell? ⟨wx.heap.size,3,none⟩=some (.slice none 0 0):=HNB.out.cell (i:=3) dE;have nn4:w6.cell? ⟨wx.heap.size,4,none⟩=some (.slice none 0 0):=HNB.out.cell (i:=4) dE;have o0:=HNB.out.frozen 0;have o1:=HNB.out.frozen 1;have o2:=HNB.out.frozen 2;have o3:=HNB.out.frozen 3;have o4:=HNB.out.frozen 4));have ct0:=kc HB6.out t0;have et0:=(fun o=>kc (A0 w6 o) ct0);have st0:=As ct0 Zgj;have ct1:=kc HB6.out t1;have et1:=(fun o=>kc (A0 w6 o) ct1);have st1:=As ct1 Zgj;have cd0:=kc HB6.out d0;have ed0:=(fun o=>kc (A0 w6 o) cd0);have sd0:=As cd0 Ya;have cd1:=kc HB6.out d1;have ed1:=(fun o=>kc (A0 w6 o) cd1);have sd1:=As cd1 Ya;have cd2:=kc HB6.out d2;have ed2:=(fun o=>kc (A0 w6 o) cd2);have sd2:=As cd2 Ya;have cd3:=kc HB6.out d3;have ed3:=(fun o=>kc (A0 w6 o) cd3);have sd3:=As cd3 Ya;have cd4:=kc HB6.out d4;have ed4:=(fun o=>kc (A0 w6 o) cd4);have sd4:=As cd4 Ya;clear k1 k2 k3 k4 k5);try(go_wp2_with fail)
         refine Aq hK fun hJ=>?_;clear hK K;refine Tc 12 13 14 ?_;refine Bo 15 ?_;exact Zbj
        case rest=>
        obtain⟨NY,pm,qm,pb,nb,qb,SM,rfl,rfl,rfl,HC7⟩:=hcut;rename World=>wc;obtain⟨x1,x2,x3,x4,x5,x6,x7⟩:=HC6.out;obtain⟨z1,z2,z3,z4,z5,z6,z7⟩:=HC7.out;have hbc:Below wr.heap.size wr wc:=bel x7 z7;have hx1:=x1.of_block (z7.block _ x1.lt);have lNX:=hx1.lt;have lNY:=z1.lt;have a0:wc.cell? ⟨NX,0,none⟩=some (.slice p0 n0 q0):=hx1.cell (i:=0) dE;have a1:wc.cell? ⟨NX,1,none⟩=some (.slice p1 n1 q1):=hx1.cell (i:=1) dE;have a2:wc.cell? ⟨NX,2,none⟩=some (.slice p2 n2 q2):=hx1.cell (i:=2) dE;have a3:wc.cell? ⟨NX,3,none⟩=some (.slice p3 c.list.length q3):=hx1.cell (i:=3) dE;have a4:wc.cell? ⟨NX,4,none⟩=some (.slice pn c.slots.length qn):=hx1.cell (i:=4) dE;have b0:wc.cell? ⟨NY,0,none⟩=some (.slice r0 m0 s0):=z1.cell (i:=0) dE;have b1:wc.cell? ⟨NY,1,none⟩=some (.slice r1 m1 s1):=z1.cell (i:=1) dE;have b2:wc.cell? ⟨NY,2,none⟩=some (.slice r2 d.slots.length s2):=z1.cell (i:=2) dE;have b3:wc.cell? ⟨NY,3,none⟩=some (.slice r3 d.list.length s3):=z1.cell (i:=3) dE;have b4:wc.cell? ⟨NY,4,none⟩=some (.slice pm d.slots.length qm):=z1.cell (i:=4) dE;have hX:=HXW.1.of_block (hbc.block _ HLT.2.1);have hY:=HXW.2.of_block (hbc.block _ HLT.2.2.1);obtain⟨hV1,hV2⟩:=V0 (a0:=(.slice p0 n0 q0)) (a1:=(.slice p1 n1 q1)) (a2:=(.slice p2 n2 q2)) (a3:=(.slice p3 c.list.length q3)) (a4:=(.slice pn c.slots.length qn)) hX;obtain⟨V1,hV⟩:∃V,(((((wc.setCell ⟨XB,0,none⟩ (.slice p0 n0 q0)).setCell ⟨XB,1,none⟩ (.slice p1 n1 q1)).setCell ⟨XB,2,none⟩ (.slice p2 n2 q2)).setCell ⟨XB,3,none⟩ (.slice p3 c.list.length q3)).setCell ⟨XB,4,none⟩ (.slice pn c.slots.length qn))=V:=⟨_,rfl⟩
        rw[hV]at hV1 hV2;have hY1:=hY.of_block (hV2.block _ hY.lt (by have:=HLT.out;show¬YB=XB;omega));obtain⟨hU1,hU2⟩:=V0 (a0:=(.slice r0 m0 s0)) (a1:=(.slice r1 m1 s1)) (a2:=(.slice r2 d.slots.length s2)) (a3:=(.slice r3 d.list.length s3)) (a4:=(.slice pm d.slots.length qm)) hY1;obtain⟨V2,hVV⟩:∃V,(((((V1.setCell ⟨YB,0,none⟩ (.slice r0 m0 s0)).setCell ⟨YB,1,none⟩ (.slice r1 m1 s1)).setCell ⟨YB,2,none⟩ (.slice r2 d.slots.length s2)).setCell ⟨YB,3,none⟩ (.slice r3 d.list.length s3)).setCell ⟨YB,4,none⟩ (.slice pm d.slots.length qm))=V:=⟨_,rfl⟩
        rw[hVV]at hU1 hU2;have c0:wc.cell? ⟨XB,0,none⟩=some (.slice p0 n0 q0):=hX.cell (i:=0) dE;have o0:=hX.frozen 0;have c1:wc.cell? ⟨XB,1,none⟩=some (.slice p1 n1 q1):=hX.cell (i:=1) dE;have o1:=hX.frozen 1;have c2:wc.cell? ⟨XB,2,none⟩=some (.slice p2 n2 q2):=hX.cell (i:=2) dE;have o2:=hX.frozen 2;have c3:wc.cell? ⟨XB,3,none⟩=some (.slice p3 c.list.length q3):=hX.cell (i:=3) dE;have o3:=hX.frozen 3;have c4:wc.cell? ⟨XB,4,none⟩=some (.slice px c.slots.length qx):=hX.cell (i:=4) dE;have o4:=hX.frozen 4;have e0:V1.cell? ⟨YB,0,none⟩=some (.slice r0 m0 s0):=hY1.cell (i:=0) dE;have f0:=hY1.frozen 0;have e1:V1.cell? ⟨YB,1,none⟩=some (.slice r1 m1 s1):=hY1.cell (i:=1) dE;have f1:=hY1.frozen 1;have e2:V1.cell? ⟨YB,2,none⟩=some (.slice r2 d.slots.length s2):=hY1.cell (i:=2) dE;have f2:=hY1.frozen 2;have e3:V1.cell? ⟨YB,3,none⟩=some (.slice r3 d.list.length s3):=hY1.cell (i:=3) dE;have f3:=hY1.frozen 3;have e4:V1.cell? ⟨YB,4,none⟩=some (.slice py d.slots.length qy):=hY1.cell (i:=4) dE;have f4:=hY1.frozen 4;have hUn:Un (fun b=>b=XB\/b=YB) wc V2:=(hV2.mono (fun b e=>.inl e)).trans (hU2.mono (fun b e=>.inr e));have hX2:=hV1.of_block (hU2.block _ hV1.lt (by have:=HLT.out;show¬XB=YB;omega));have HRX:Hid (V2.rowIs XB 43 5 (f5 (.slice p0 n0 q0) (.slice p1 n1 q1) (.slice p2 n2 q2) (.slice p3 c.list.length q3) (.slice pn c.slots.length qn))/\V2.rowIs YB 43 5 (f5 (.slice r0 m0 s0) (.slice r1 m1 s1) (.slice r2 d.slots.length s2) (.slice r3 d.list.length s3) (.slice pm d.slots.length qm))):=⟨hX2,hU1⟩
        have HCX:Hid (AT (fun b=>b=XB\/b=YB) V2 (.slice pn c.slots.length qn) SN/\SN.map (·.h)=hs2):=⟨(x4.below z7).un hUn (fun b _ e=>e),x3⟩
        have HCY:Hid (AT (fun b=>b=XB\/b=YB) V2 (.slice pm d.slots.length qm) SM/\SM.map (·.h)=hs3):=⟨z4.un hUn (fun b _ e=>e),z3⟩
        have HSL:=A7 (And.intro x6 z6);have HUV:Hid (Un (fun b=>b=XB\/b=YB) W2 V2):=(HUN.on hbc).trans hUn;have KSA:Hid (∀v,Below V2.heap.size V2 v->Calls prog 11 #[.slice pa na qa,.slice pb nb qb] v fun e w'=>e=.returned (.bool true)/\Below v.heap.size v w'):=fun v hb=>QA v _ _ L (((x5.below z7).un hUn (fun b _ e=>by have:=HLT.out;rcases e with e|e<;>omega)).below hb) ((z5.un hUn (fun b _ e=>by have:=HLT.out;have:=x7.size;rcases e with e|e<;>omega)).below hb) HL.1 HL.2;have nx:¬NX=XB:=by have:=HLT.out;omega
        have ny:¬NY=XB:=by have:=HLT.out;have:=x7.size;omega
        have nz:¬NY=YB:=by have:=HLT.out;have:=x7.size;omega
        have nw:¬NX=YB:=by have:=HLT.out;omega
        have av0:V1.cell? ⟨NX,0,none⟩=some (.slice p0 n0 q0):=(gC (hV2.block NX lNX nx)).trans a0;have aw0:V2.cell? ⟨NX,0,none⟩=some (.slice p0 n0 q0):=(gC (hU2.block NX (Nat.lt_of_lt_of_le lNX hV2.size) nw)).trans av0;have av1:V1.cell? ⟨NX,1,none⟩=some (.slice p1 n1 q1):=(gC (hV2.block NX lNX nx)).trans a1;have aw1:V2.cell? ⟨NX,1,none⟩=some (.slice p1 n1 q1):=(gC (hU2.block NX (Nat.lt_of_lt_of_le lNX hV2.size) nw)).trans av1;have av2:V1.cell? ⟨NX,2,none⟩=some (.slice p2 n2 q2):=(gC (hV2.block NX lNX nx)).trans a2;have aw2:V2.cell? ⟨NX,2,none⟩=some (.slice p2 n2 q2):=(gC (hU2.block NX (Nat.lt_of_lt_of_le lNX hV2.size) nw)).trans av2;have av3:V1.cell? ⟨NX,3,none⟩=some (.slice p3 c.list.length q3):=(gC (hV2.block NX lNX nx)).trans a3;have aw3:V2.cell? ⟨NX,3,none⟩=some (.slice p3 c.list.length q3):=(gC (hU2.block NX (Nat.lt_of_lt_of_le lNX hV2.size) nw)).trans av3;have av4:V1.cell? ⟨NX,4,none⟩=some (.slice pn c.slots.length qn):=(gC (hV2.block NX lNX nx)).trans a4;have aw4:V2.cell? ⟨NX,4,none⟩=some (.slice pn c.slots.length qn):=(gC (hU2.block NX (Nat.lt_of_lt_of_le lNX hV2.size) nw)).trans av4;have bv0:V1.cell? ⟨NY,0,none⟩=some (.slice r0 m0 s0):=(gC (hV2.block NY lNY ny)).trans b0;have bw0:V2.cell? ⟨NY,0,none⟩=some (.slice r0 m0 s0):=(gC (hU2.block NY (Nat.lt_of_lt_of_le lNY hV2.size) nz)).trans bv0;have bv1:V1.cell? ⟨NY,1,none⟩=some (.slice r1 m1 s1):=(gC (hV2.block NY lNY ny)).trans b1;have bw1:V2.cell? ⟨NY,1,none⟩=some (.slice r1 m1 s1):=(gC (hU2.block NY (Nat.lt_of_lt_of_le lNY hV2.size) nz)).trans bv1;have bv2:V1.cell? ⟨NY,2,none⟩=some (.slice r2 d.slots.length s2):=(gC (hV2.block NY lNY ny)).trans b2;have bw2:V2.cell? ⟨NY,2,none⟩=some (.slice r2 d.slots.length s2):=(gC (hU2.block NY (Nat.lt_of_lt_of_le lNY hV2.size) nz)).trans bv2;have bv3:V1.cell? ⟨NY,3,none⟩=some (.slice r3 d.list.length s3):=(gC (hV2.block NY lNY ny)).trans b3;have bw3:V2.cell? ⟨NY,3,none⟩=some (.slice r3 d.list.length s3):=(gC (hU2.block NY (Nat.lt_of_lt_of_le lNY hV2.size) nz)).trans bv3;have bv4:V1.cell? ⟨NY,4,none⟩=some (.slice pm d.slots.length qm):=(gC (hV2.block NY lNY ny)).trans b4;have bw4:V2.cell? ⟨NY,4,none⟩=some (.slice pm d.slots.length qm):=(gC (hU2.block NY (Nat.lt_of_lt_of_le lNY hV2.size) nz)).trans bv4;clear HC6 HC7 x1 x2 x3 x4 x5 x6 x7 z1 z2 z3 z4 z5 z6 z7 hbc hx1 lNX lNY hX hY hV1 hV2 hY1 hU1 hU2 hUn hX2 y0 y1;go_upto_region 28 with fail;refine rG (fun v=>v.cell? ⟨NX,0,none⟩=some (.slice p0 n0 q0)/\v.cell? ⟨NX,1,none⟩=some (.slice p1 n1 q1)/\v.cell? ⟨NX,2,none⟩=some (.slice p2 n2 q2)/\v.cell? ⟨NX,3,none⟩=some (.slice p3 c.list.length q3)/\v.cell? ⟨NX,4,none⟩=some (.slice pn c.slots.length qn)/\v.cell? ⟨NY,0,none⟩=some (.slice r0 m0 s0)/\v.cell? ⟨NY,1,none⟩=some (.slice r1 m1 s1)/\v.cell? ⟨NY,2,none⟩=some (.slice r2 d.slots.length s2)/\v.cell? ⟨NY,3,none⟩=some (.slice r3 d.list.length s3)/\v.cell? ⟨NY,4,none⟩=some (.slice pm d.slots.length qm)) fun hJ=>?_;refine Tb 0 1 ?_;clear hJ;refine Aw 2 fun K hK=>?_;go_simp;refine Aq hK fun hJ=>?_;clear hK K;clear hJ;refine Aw 3 fun K hK=>?_;go_simp;refine Aq hK fun hJ=>?_;clear hK K;refine wpAnyH_done kR ?_ _
        skip
        clear hV hVV a0 av0 aw0 a1 av1 aw1 a2 av2 aw2 a3 av3 aw3 a4 av4 aw4 b0 bv0 bw0 b1 bv1 bw1 b2 bv2 bw2 b3 bv3 bw3 b4 bv4 bw4 c0 c1 c2 c3 c4 o0 o1 o2 o3 o4 e0 e1 e2 e3 e4 f0 f1 f2 f3 f4;have hEE:(E != E)=false:=sM;go_wp2_with(go_at_call 11;(with_reducible refine(KSA.out _ (A9 _)).mono ?_);rintro e w7 ⟨rfl,hb7⟩;have HBF:Hid (Below V2.heap.size V2 w7):=bel (A9 _) hb7;clear hb7);go_roundw
        case rel=>
         exact⟨j+1,oM,oM,gN,hs2,hs3,SN,SM,pn,qn,pm,qm,HCX.1.below HBF.out,HCX.2,HCY.1.below HBF.out,HCY.2,HSL.1,HSL.2,HCAN.out,HRX.1.of_block (HBF.block _ HRX.1.lt),HRX.2.of_block (HBF.block _ HRX.2.lt),HUV.on HBF.out⟩
        case measure=>simp[intOf];omega
       .have hj':j=20:=oM;exact Zdq
      .have hj':j=N4:=oM;exact Zdq
theorem Jg(v0 v1 v2 v3:Value)(c:Cd)(hk:Ba c)(hz:CdSz c)(v4:Value)(l:List St)(hl:l.length<=140737488351232)(w:World)(hv:CD w v0 v1 v2 v3 c)(hr:AV 2 stC w v4 l)(hs:∀s∈l,Yo w s):Calls prog 3 #[.agg #[v0,v1,v2,v3],v4] w fun e w'=>e=.returned (.bool true)/\Below w.heap.size w w':=by
 by_cases hc:(Ai c).1=0
 .exact Oe v0 v1 v2 v3 v4 c hk l hl w hv hr (fun s hs9=>⟨(hs s hs9).1.vc,(hs s hs9).2.1.vc,(hs s hs9).2.2.1,(hs s hs9).2.2.2⟩) hc
 .obtain⟨p4,q4,rfl,-⟩:=hr;exact Qd v0 v1 v2 v3 c hk p4 _ q4 w hv hc
end Go.Proofs.YtnbccaicijcklaaGreat
