import Derived.Test.YtheanilpbnencaaGre15
import Derived.Test.YtheanilpbnencaaGre16
import Derived.Deep.DeepCutAuto
import Derived.Test.YtheanilpbnencaaGre1
namespace Go.Proofs.Ytheanilpbnencaa
open Go.RowKit Go.Proofs.Try
set_option linter.all false
set_option maxRecDepth 100000
set_option maxHeartbeats 16000000
theorem D4(L:Int)(a0: -9223372036854775808<=L)(b0:L<=9223372036854775807)(R:Int)(a1: -9223372036854775808<=R)(b1:R<=9223372036854775807)(S:Int)(a2: -9223372036854775808<=S)(b2:S<=9223372036854775807)(N:Int)(a3: -9223372036854775808<=N)(b3:N<=9223372036854775807)(K:Int)(a4: -9223372036854775808<=K)(b4:K<=9223372036854775807)(w:World):
 Calls prog 5 #[.agg #[.int .i64 L,.int .i64 R,.int .i64 S,.int .i64 N,.int .i64 K]] w fun e w'=>e=.returned (.bool true)/\Below w.heap.size w w':=by
 have KW:=A8 (fun v=>EM v);have KG:=A8 (fun v=>Gl L R S N K v);obtain⟨X,hX⟩:=gA (w.heap.size)
 obtain⟨W0,hW0⟩:∃W,w.alloc (.cells #[.int .i64 L,.int .i64 R,.int .i64 S,.int .i64 N,.int .i64 K] 43)=W:=⟨_,rfl⟩
 have HB0:Hid (Below w.heap.size w W0):=by show Below _ _ _;rw[<-hW0];exact A0 _ _
 have x0:W0.cell? ⟨X,0,none⟩=some (.int .i64 L):=by rw[<-hW0,<-hX];simp[go_sem]
 have x1:W0.cell? ⟨X,1,none⟩=some (.int .i64 R):=by rw[<-hW0,<-hX];simp[go_sem]
 have x2:W0.cell? ⟨X,2,none⟩=some (.int .i64 S):=by rw[<-hW0,<-hX];simp[go_sem]
 have x3:W0.cell? ⟨X,3,none⟩=some (.int .i64 N):=by rw[<-hW0,<-hX];simp[go_sem]
 have x4:W0.cell? ⟨X,4,none⟩=some (.int .i64 K):=by rw[<-hW0,<-hX];simp[go_sem]
 have HXX:=A8 hX;have HWW:=A8 hW0;clear hX hW0 a0 b0 a1 b1 a2 b2 a3 b3 a4 b4;go_enter func5,ntmps5;go_upto_region 1 with fail;try rw[HXX.out]
 try rw[HWW.out]
 go_upto_region 2 with(go_at_call 18;(with_reducible refine(KG.out _).mono ?_);rintro e9 w3 ⟨t0,t1,t2,t3,c,rfl,ht3,hk3,hb3⟩;obtain⟨p0,q0,rfl,-⟩:=id ht3.sign;obtain⟨p1,q1,rfl,-⟩:=id ht3.regs;obtain⟨p2,q2,rfl,-⟩:=id ht3.slots;obtain⟨p3,q3,rfl,-⟩:=id ht3.list;have HT3:=A8 ht3;have HK3:=A8 hk3;have HB3:=A8 hb3;clear ht3 hk3 hb3)
 clear x0 x1 x2 x3 x4;obtain⟨Z,hZ⟩:=gA (w3.heap.size)
 obtain⟨V,hV⟩:=gA (w3.alloc (.cells #[.slice p0 c.sign.length q0,.slice p1 c.regs.length q1,.slice p2 c.slots.length q2,.slice p3 c.list.length q3] 27))
 have hbV:Below w3.heap.size w3 V:=by rw[<-hV];exact A0 _ _
 have z0:V.cell? ⟨Z,0,none⟩=some (.slice p0 c.sign.length q0):=by rw[<-hV,<-hZ];simp[go_sem]
 have z1:V.cell? ⟨Z,1,none⟩=some (.slice p1 c.regs.length q1):=by rw[<-hV,<-hZ];simp[go_sem]
 have z2:V.cell? ⟨Z,2,none⟩=some (.slice p2 c.slots.length q2):=by rw[<-hV,<-hZ];simp[go_sem]
 have z3:V.cell? ⟨Z,3,none⟩=some (.slice p3 c.list.length q3):=by rw[<-hV,<-hZ];simp[go_sem]
 have hcv:=HT3.below hbV;have HBV:Hid (Below w.heap.size w V):=bel HB0.out (bel HB3.out hbV);have HZ:=A8 (fun(u:World) (h:Below V.heap.size V u)=>(⟨kc h z0,kc h z1,kc h z2,kc h z3⟩:u.cell? ⟨Z,0,none⟩=some (.slice p0 c.sign.length q0)/\u.cell? ⟨Z,1,none⟩=some (.slice p1 c.regs.length q1)/\u.cell? ⟨Z,2,none⟩=some (.slice p2 c.slots.length q2)/\u.cell? ⟨Z,3,none⟩=some (.slice p3 c.list.length q3)));have K1:=A8 (fun(u:World) (h:Below V.heap.size V u)=>DW _ _ _ _ c HK3.out u (hcv.below h));have K2:=A8 (fun(u:World) (h:Below V.heap.size V u)=>Cy _ _ _ _ c HK3.out u (hcv.below h));have R1:=A8 (fun(u:World) (h:Below V.heap.size V u)=>D8 p0 p1 p2 p3 q0 q1 q2 q3 c HK3.out u (hcv.below h));have R2:=A8 (fun(u:World) (h:Below V.heap.size V u)=>Fh p0 p1 p2 p3 q0 q1 q2 q3 c HK3.out u (hcv.below h));obtain⟨A1,hA1⟩:∃a,(if(Ai c).1=0 then By c else 0)=a:=⟨_,rfl⟩
 obtain⟨A2,hA2⟩:∃a,Bm c=a:=⟨_,rfl⟩
 obtain⟨E,hE⟩:∃a,(Ai c).1=a:=⟨_,rfl⟩
 rw[hA1,hE]at K1 R1;rw[hA2]at K2 R2;have HV0:Hid (Below V.heap.size V V):=Below.refl _ _;try rw[hV]
 try rw[hZ]
 clear hV hZ hbV hcv HT3 HB3 hA1 hA2 hE;go_upto_region 3 with(go_at_call 8;(with_reducible refine(K1.out _ HV0.out).mono ?_);rintro e9 wq ⟨rfl,hb⟩;have HB2:=A8 (bel HV0.out hb);clear hb)
 clear z0 z1 z2 z3;obtain⟨z0,z1,z2,z3⟩:=HZ.out _ HB2.out;go_upto_region 4 with(go_at_call 11;(with_reducible refine(R1.out _ HB2.out).mono ?_);rintro e9 w4 ⟨rfl,hb⟩;have HB4:=A8 (bel HB2.out hb);clear hb)
 clear z0 z1 z2 z3;obtain⟨z0,z1,z2,z3⟩:=HZ.out _ HB4.out;refine rG (fun v=>v.cell? ⟨Z,0,none⟩=some (.slice p0 c.sign.length q0)/\v.cell? ⟨Z,1,none⟩=some (.slice p1 c.regs.length q1)/\v.cell? ⟨Z,2,none⟩=some (.slice p2 c.slots.length q2)/\v.cell? ⟨Z,3,none⟩=some (.slice p3 c.list.length q3)) fun hJ=>?_;refine wpAnyH_take (i:=0) (v:=?_) A5 kR kR kR A6 (Or.inl ⟨rF,?_⟩) A7 ?_
 rotate_left 1
 ·(intro wS hSw;(try dsimp only at hSw);go_simp;try(with_reducible rfl))
 try simp only[Act.put,List.setIfInBounds_toArray,List.set_cons_zero,List.set_cons_succ]
 refine wpAnyH_take (i:=2) (v:=?_) A5 kR kR kR A6 (Or.inl ⟨rF,?_⟩) A7 ?_
 rotate_left 1
 ·(intro wS hSw;(try dsimp only at hSw);go_simp;try(with_reducible rfl))
 try simp only[Act.put,List.setIfInBounds_toArray,List.set_cons_zero,List.set_cons_succ]
 clear hJ;refine AO 1 fun K hK=>?_;go_simp;(go_at_call 16;(with_reducible refine(K2.out _ (bel HB4.out (Aa _))).mono ?_);rintro e9 w5 ⟨rfl,hb⟩;have HB5:=A8 (bel HB4.out (bel (Aa _) hb));clear hb;obtain⟨y20,y21,y22,y23⟩:=HZ.out _ HB5.out);try(go_wp2_with fail)
 refine AP hK fun hJ=>?_;clear hK K;clear hJ;refine AO 3 fun K hK=>?_;go_simp;(go_at_call 17;(with_reducible refine(R2.out _ HB5.out).mono ?_);rintro e9 w6 ⟨rfl,hb⟩;have HB6:=A8 (bel HB5.out hb);clear hb;obtain⟨y30,y31,y32,y33⟩:=HZ.out _ HB6.out);try(go_wp2_with fail)
 refine AP hK fun hJ=>?_;clear hK K;refine wpAnyH_take (i:=4) (v:=?_) A5 kR kR kR A6 (Or.inl ⟨rF,?_⟩) A7 ?_
 rotate_left 1
 ·(intro wS hSw;(try dsimp only at hSw);go_simp;try(with_reducible rfl))
 try simp only[Act.put,List.setIfInBounds_toArray,List.set_cons_zero,List.set_cons_succ]
 refine wpAnyH_take (i:=5) (v:=?_) A5 kR kR kR A6 (Or.inl ⟨rF,?_⟩) A7 ?_
 rotate_left 1
 ·(intro wS hSw;(try dsimp only at hSw);go_simp;try(with_reducible rfl))
 try simp only[Act.put,List.setIfInBounds_toArray,List.set_cons_zero,List.set_cons_succ]
 refine wpAnyH_take (i:=6) (v:=?_) A5 kR kR kR A6 (Or.inl ⟨rF,?_⟩) A7 ?_
 rotate_left 1
 ·(intro wS hSw;(try dsimp only at hSw);go_simp;try(with_reducible rfl))
 try simp only[Act.put,List.setIfInBounds_toArray,List.set_cons_zero,List.set_cons_succ]
 refine wpAnyH_take (i:=7) (v:=?_) A5 kR kR kR A6 (Or.inl ⟨rF,?_⟩) A7 ?_
 rotate_left 1
 ·(intro wS hSw;(try dsimp only at hSw);go_simp;try(with_reducible rfl))
 try simp only[Act.put,List.setIfInBounds_toArray,List.set_cons_zero,List.set_cons_succ]
 refine wpAnyH_take (i:=8) (v:=?_) A5 kR kR kR A6 (Or.inl ⟨rF,?_⟩) A7 ?_
 rotate_left 1
 ·(intro wS hSw;(try dsimp only at hSw);go_simp;try(with_reducible rfl))
 try simp only[Act.put,List.setIfInBounds_toArray,List.set_cons_zero,List.set_cons_succ]
 refine wpAnyH_take (i:=9) (v:=?_) A5 kR kR kR A6 (Or.inl ⟨rF,?_⟩) A7 ?_
 rotate_left 1
 ·(intro wS hSw;(try dsimp only at hSw);go_simp;try(with_reducible rfl))
 try simp only[Act.put,List.setIfInBounds_toArray,List.set_cons_zero,List.set_cons_succ]
 refine wpAnyH_take (i:=10) (v:=?_) A5 kR kR kR A6 (Or.inl ⟨rF,?_⟩) A7 ?_
 rotate_left 1
 ·(intro wS hSw;(try dsimp only at hSw);go_simp;try(with_reducible rfl))
 try simp only[Act.put,List.setIfInBounds_toArray,List.set_cons_zero,List.set_cons_succ]
 refine wpAnyH_take (i:=11) (v:=?_) A5 kR kR kR A6 (Or.inl ⟨rF,?_⟩) A7 ?_
 rotate_left 1
 ·(intro wS hSw;(try dsimp only at hSw);go_simp;try(with_reducible rfl))
 try simp only[Act.put,List.setIfInBounds_toArray,List.set_cons_zero,List.set_cons_succ]
 refine wpAnyH_take (i:=12) (v:=?_) A5 kR kR kR A6 (Or.inl ⟨rF,?_⟩) A7 ?_
 rotate_left 1
 ·(intro wS hSw;(try dsimp only at hSw);go_simp;try(with_reducible rfl))
 try simp only[Act.put,List.setIfInBounds_toArray,List.set_cons_zero,List.set_cons_succ]
 refine wpAnyH_take (i:=13) (v:=?_) A5 kR kR kR A6 (Or.inl ⟨rF,?_⟩) A7 ?_
 rotate_left 1
 ·(intro wS hSw;(try dsimp only at hSw);go_simp;try(with_reducible rfl))
 try simp only[Act.put,List.setIfInBounds_toArray,List.set_cons_zero,List.set_cons_succ]
 refine wpAnyH_take (i:=14) (v:=?_) A5 kR kR kR A6 (Or.inl ⟨rF,?_⟩) A7 ?_
 rotate_left 1
 ·(intro wS hSw;(try dsimp only at hSw);go_simp;try(with_reducible rfl))
 try simp only[Act.put,List.setIfInBounds_toArray,List.set_cons_zero,List.set_cons_succ]
 refine wpAnyH_take (i:=15) (v:=?_) A5 kR kR kR A6 (Or.inl ⟨rF,?_⟩) A7 ?_
 rotate_left 1
 ·(intro wS hSw;(try dsimp only at hSw);go_simp;try(with_reducible rfl))
 try simp only[Act.put,List.setIfInBounds_toArray,List.set_cons_zero,List.set_cons_succ]
 clear hJ;refine AO 16 fun K hK=>?_;go_simp;(go_at_call 15;(with_reducible refine(KW.out _).mono ?_);rintro e9 w7 ⟨rfl,hb⟩;have HB7:=A8 (bel HB6.out hb);clear hb;obtain⟨y40,y41,y42,y43⟩:=HZ.out _ HB7.out);try(go_wp2_with fail)
 refine AP hK fun hJ=>?_;clear hK K;refine wpAnyH_take (i:=17) (v:=?_) A5 kR kR kR A6 (Or.inl ⟨rF,?_⟩) A7 ?_
 rotate_left 1
 ·(intro wS hSw;(try dsimp only at hSw);go_simp;try(with_reducible rfl))
 try simp only[Act.put,List.setIfInBounds_toArray,List.set_cons_zero,List.set_cons_succ]
 refine wpAnyH_take (i:=18) (v:=?_) A5 kR kR kR A6 (Or.inl ⟨rF,?_⟩) A7 ?_
 rotate_left 1
 ·(intro wS hSw;(try dsimp only at hSw);go_simp;try(with_reducible rfl))
 try simp only[Act.put,List.setIfInBounds_toArray,List.set_cons_zero,List.set_cons_succ]
 refine wpAnyH_done kR ?_ _;go_wp2_with fail;refine bodyPost_ret (by simp[results,results5,go_sem, *];try rfl) rfl ?_;exact⟨by first|rfl|simp,HBV.trans (HB7.mono HBV.size)⟩
end Go.Proofs.Ytheanilpbnencaa
