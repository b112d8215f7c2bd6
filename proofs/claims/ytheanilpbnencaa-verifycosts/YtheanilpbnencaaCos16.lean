import Derived.Test.YtheanilpbnencaaCos15
import Derived.Test.YtheanilpbnencaaCos11
import Derived.Deep.DeepCutAuto
import Derived.Test.YtheanilpbnencaaCos1
namespace Go.Proofs.Ytheanilpbnencaa
open Go.RowKit Go.Proofs.Try
set_option linter.all false
set_option maxRecDepth 100000
set_option maxHeartbeats 16000000
theorem Di(v0 v1 v2 v3:Value)(c:Cd)(hk:AJ c)(hz:Kp c)(at_:Int)(hat1: -9223372036854775808<=at_)(hat2:at_<=9223372036854775807)(w:World)(hv:Bt w v0 v1 v2 v3 c):
 Calls prog 3 #[.agg #[v0,v1,v2,v3],.int .i64 at_] w fun e w'=>e=.returned (.bool true)/\Below w.heap.size w w':=by
 have KW:=A8 (fun v=>F1 v);obtain⟨p0,q0,rfl⟩:∃p q,v0=.slice p c.sign.length q:=by obtain⟨p,q,e,_⟩:=hv.sign;exact⟨p,q,e⟩
 obtain⟨p1,q1,rfl⟩:∃p q,v1=.slice p c.regs.length q:=by obtain⟨p,q,e,_⟩:=hv.regs;exact⟨p,q,e⟩
 obtain⟨p2,q2,rfl⟩:∃p q,v2=.slice p c.slots.length q:=by obtain⟨p,q,e,_⟩:=hv.slots;exact⟨p,q,e⟩
 obtain⟨p3,q3,rfl⟩:∃p q,v3=.slice p c.list.length q:=by obtain⟨p,q,e,_⟩:=hv.list;exact⟨p,q,e⟩
 obtain⟨X,hX⟩:=gA (w.heap.size)
 obtain⟨W0,hW0⟩:∃W,w.alloc (.cells #[.slice p0 c.sign.length q0,.slice p1 c.regs.length q1,.slice p2 c.slots.length q2,.slice p3 c.list.length q3] 27)=W:=⟨_,rfl⟩
 have hb0:Below w.heap.size w W0:=by rw[<-hW0];exact A0 _ _
 have x0:W0.cell? ⟨X,0,none⟩=some (.slice p0 c.sign.length q0):=by rw[<-hW0,<-hX];simp[go_sem]
 have x1:W0.cell? ⟨X,1,none⟩=some (.slice p1 c.regs.length q1):=by rw[<-hW0,<-hX];simp[go_sem]
 have x2:W0.cell? ⟨X,2,none⟩=some (.slice p2 c.slots.length q2):=by rw[<-hW0,<-hX];simp[go_sem]
 have x3:W0.cell? ⟨X,3,none⟩=some (.slice p3 c.list.length q3):=by rw[<-hW0,<-hX];simp[go_sem]
 have hv0:=hv.below hb0;have KT:=A8 (fun(u:World) (h:Below W0.heap.size W0 u)=>FL _ _ _ _ c hz u (hv0.below h));have HX:=A8 (fun(u:World) (h:Below W0.heap.size W0 u)=>(⟨kc h x0,kc h x1,kc h x2,kc h x3⟩:u.cell? ⟨X,0,none⟩=some (.slice p0 c.sign.length q0)/\u.cell? ⟨X,1,none⟩=some (.slice p1 c.regs.length q1)/\u.cell? ⟨X,2,none⟩=some (.slice p2 c.slots.length q2)/\u.cell? ⟨X,3,none⟩=some (.slice p3 c.list.length q3)));have HB0:=A8 hb0;obtain⟨A1,hA1⟩:∃a,(if(Ai c).1=0 then BK c else 0)=a:=⟨_,rfl⟩
 obtain⟨A2,hA2⟩:∃a,(if(Ai c).1=0 then BB c else 0)=a:=⟨_,rfl⟩
 obtain⟨A3,hA3⟩:∃a,(AB c at_).1=a:=⟨_,rfl⟩
 obtain⟨A4,hA4⟩:∃a,(AB c at_).2=a:=⟨_,rfl⟩
 obtain⟨E,hE⟩:∃a,(Ai c).1=a:=⟨_,rfl⟩
 have K1:=A8 (fun(u:World) (x0 x1 x2 x3:Value) (h:Bt u x0 x1 x2 x3 c)=>Ec x0 x1 x2 x3 c hk u h);have K2:=A8 (fun(u:World) (x0 x1 x2 x3:Value) (h:Bt u x0 x1 x2 x3 c)=>Ed x0 x1 x2 x3 c hk u h);have K3:=A8 (fun(u:World) (x0 x1 x2 x3:Value) (h:Bt u x0 x1 x2 x3 c)=>D4 x0 x1 x2 x3 c hk at_ u h);have R1:=A8 (fun(u:World) (h:Below W0.heap.size W0 u)=>EL p0 p1 p2 p3 q0 q1 q2 q3 c hk u (hv0.below h));have R2:=A8 (fun(u:World) (h:Below W0.heap.size W0 u)=>EN p0 p1 p2 p3 q0 q1 q2 q3 c hk u (hv0.below h));have R3:=A8 (fun(u:World) (h:Below W0.heap.size W0 u)=>FG p0 p1 p2 p3 q0 q1 q2 q3 c hk at_ u (hv0.below h));rw[hA1,hE]at K1 R1;rw[hA2,hE]at K2 R2;rw[hA3,hA4]at K3 R3;have KQ:=A8 (fun(v:World) (a0 a1 a2 a3:Value) (ha:Bt v a0 a1 a2 a3 c) (hb:Below W0.heap.size W0 v)=>Fy a0 a1 a2 a3 _ _ _ _ c c hk hk v ha (hv0.below hb));rw[Hm]at KQ;clear hb0 hv hv0 hA1 hA2 hA3 hA4 hE;go_enter func3,ntmps3;go_upto_region 1 with fail;try rw[hW0]
 try rw[hX]
 clear hW0 hX;go_upto_region 2 with(go_at_call 7;(with_reducible refine(KT.out _ (Below.refl _ _)).mono ?_);rintro e9 w3 ⟨t0,t1,t2,t3,rfl,ht3,ho3,hb3⟩;obtain⟨r0,s0,rfl⟩:=As ho3.sign;obtain⟨r1,s1,rfl⟩:=As ho3.regs;obtain⟨r2,s2,rfl⟩:=As ho3.slots;obtain⟨r3,s3,rfl⟩:=As ho3.list;have HT3:=A8 ht3;have HB3:=A8 hb3;clear ht3 ho3 hb3)
 obtain⟨Z,hZ⟩:=gA (w3.heap.size)
 obtain⟨V,hV⟩:=gA (w3.alloc (.cells #[.slice r0 c.sign.length s0,.slice r1 c.regs.length s1,.slice r2 c.slots.length s2,.slice r3 c.list.length s3] 27))
 have hbV:Below w3.heap.size w3 V:=by rw[<-hV];exact A0 _ _
 have z0:V.cell? ⟨Z,0,none⟩=some (.slice r0 c.sign.length s0):=by rw[<-hV,<-hZ];simp[go_sem]
 have z1:V.cell? ⟨Z,1,none⟩=some (.slice r1 c.regs.length s1):=by rw[<-hV,<-hZ];simp[go_sem]
 have z2:V.cell? ⟨Z,2,none⟩=some (.slice r2 c.slots.length s2):=by rw[<-hV,<-hZ];simp[go_sem]
 have z3:V.cell? ⟨Z,3,none⟩=some (.slice r3 c.list.length s3):=by rw[<-hV,<-hZ];simp[go_sem]
 have hcv:=HT3.below hbV;have HBV:Hid (Below W0.heap.size W0 V):=bel HB3.out hbV;have HZC:=A8 (fun(u:World) (h:Below V.heap.size V u)=>(⟨kc h z0,kc h z1,kc h z2,kc h z3⟩:u.cell? ⟨Z,0,none⟩=some (.slice r0 c.sign.length s0)/\u.cell? ⟨Z,1,none⟩=some (.slice r1 c.regs.length s1)/\u.cell? ⟨Z,2,none⟩=some (.slice r2 c.slots.length s2)/\u.cell? ⟨Z,3,none⟩=some (.slice r3 c.list.length s3)));have HCV:=A8 (fun(u:World) (h:Below V.heap.size V u)=>hcv.below h);have HV0:Hid (Below V.heap.size V V):=Below.refl _ _;try rw[hV]
 try rw[hZ]
 clear hV hZ hbV hcv HT3 HB3 KT x0 x1 x2 x3;go_upto_region 3 with(go_at_call 8;(with_reducible refine(K1.out _ _ _ _ _ (HCV.out _ HV0.out)).mono ?_);rintro e9 w4 ⟨rfl,hb⟩;have HV1:=A8 (bel HV0.out hb);clear hb)
 clear z0 z1 z2 z3;obtain⟨y0,y1,y2,y3⟩:=HZC.out _ HV1.out;go_upto_region 4 with(go_at_call 9;(with_reducible refine(K2.out _ _ _ _ _ (HCV.out _ HV1.out)).mono ?_);rintro e9 w5 ⟨rfl,hb⟩;have HV2:=A8 (bel HV1.out hb);clear hb)
 clear y0 y1 y2 y3;obtain⟨y0,y1,y2,y3⟩:=HZC.out _ HV2.out;go_upto_region 5 with(go_at_call 10;(with_reducible refine(K3.out _ _ _ _ _ (HCV.out _ HV2.out)).mono ?_);rintro e9 w6 ⟨rfl,hb⟩;have HV3:=A8 (bel HV2.out hb);clear hb)
 clear y0 y1 y2 y3;obtain⟨y0,y1,y2,y3⟩:=HX.out _ (bel HBV.out HV3.out);go_upto_region 6 with(go_at_call 11;(with_reducible refine(R1.out _ (bel HBV.out HV3.out)).mono ?_);rintro e9 w7 ⟨rfl,hb⟩;have HV4:=A8 (bel HV3.out hb);clear hb)
 clear y0 y1 y2 y3;obtain⟨y0,y1,y2,y3⟩:=HX.out _ (bel HBV.out HV4.out);go_upto_region 7 with(go_at_call 12;(with_reducible refine(R2.out _ (bel HBV.out HV4.out)).mono ?_);rintro e9 w8 ⟨rfl,hb⟩;have HV5:=A8 (bel HV4.out hb);clear hb)
 clear y0 y1 y2 y3;obtain⟨y0,y1,y2,y3⟩:=HX.out _ (bel HBV.out HV5.out);go_upto_region 8 with(go_at_call 13;(with_reducible refine(R3.out _ (bel HBV.out HV5.out)).mono ?_);rintro e9 w9 ⟨rfl,hb⟩;have HV6:=A8 (bel HV5.out hb);clear hb)
 clear y0 y1 y2 y3;obtain⟨y0,y1,y2,y3⟩:=HZC.out _ HV6.out;obtain⟨m0,m1,m2,m3⟩:=HX.out _ (bel HBV.out HV6.out);have KQ5:=A8 (KQ.out _ _ _ _ _ (HCV.out _ HV6.out) (bel HBV.out HV6.out));have HBF:Hid (Below w.heap.size w w9):=bel HB0.out (bel HBV.out HV6.out);clear KQ HX HZC K1 K2 K3 R1 R2 R3;go_wp2_with(first|(go_at_call 14;(with_reducible refine KQ5.out.mono ?_);rintro e9 wa ⟨rfl,hb6⟩;have HB6:=A8 (bel HBF.out hb6);clear hb6)|(go_at_call 15;(with_reducible refine(KW.out _).mono ?_);rintro e9 wz ⟨rfl,hbz⟩;have HBz:=A8 (bel HB6.out hbz);clear hbz));refine bodyPost_ret (by simp[results,results3,go_sem, *];try rfl) rfl ?_;exact⟨by first|rfl|simp,HBz.out⟩
end Go.Proofs.Ytheanilpbnencaa
