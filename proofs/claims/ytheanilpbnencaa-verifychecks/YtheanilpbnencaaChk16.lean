import Derived.Test.YtheanilpbnencaaChk15
import Derived.Test.YtheanilpbnencaaChk11
import Derived.Deep.DeepCutAuto
import Derived.Test.YtheanilpbnencaaChk1
namespace Go.Proofs.Ytheanilpbnencaa
open Go.RowKit Go.Proofs.Try
set_option linter.all false
set_option maxRecDepth 100000
set_option maxHeartbeats 16000000
theorem CT(v0 v1 v2 v3:Value)(c:Cd)(hk:AI c)(hz:K7 c)(w:World)(hv:BE w v0 v1 v2 v3 c):
 Calls prog 4 #[.agg #[v0,v1,v2,v3]] w fun e w'=>e=.returned (.bool true)/\Below w.heap.size w w':=by
 have KW:=A5 (fun v=>EV v);obtain⟨p0,q0,rfl⟩:∃p q,v0=.slice p c.sign.length q:=by obtain⟨p,q,e,_⟩:=hv.sign;exact⟨p,q,e⟩
 obtain⟨p1,q1,rfl⟩:∃p q,v1=.slice p c.regs.length q:=by obtain⟨p,q,e,_⟩:=hv.regs;exact⟨p,q,e⟩
 obtain⟨p2,q2,rfl⟩:∃p q,v2=.slice p c.slots.length q:=by obtain⟨p,q,e,_⟩:=hv.slots;exact⟨p,q,e⟩
 obtain⟨p3,q3,rfl⟩:∃p q,v3=.slice p c.list.length q:=by obtain⟨p,q,e,_⟩:=hv.list;exact⟨p,q,e⟩
 obtain⟨X,hX⟩:=gA (w.heap.size)
 obtain⟨W0,hW0⟩:∃W,w.alloc (.cells #[.slice p0 c.sign.length q0,.slice p1 c.regs.length q1,.slice p2 c.slots.length q2,.slice p3 c.list.length q3] 27)=W:=⟨_,rfl⟩
 have hb0:Below w.heap.size w W0:=by rw[<-hW0];exact A0 _ _
 have x0:W0.cell? ⟨X,0,none⟩=some (.slice p0 c.sign.length q0):=by rw[<-hW0,<-hX];simp[go_sem]
 have x1:W0.cell? ⟨X,1,none⟩=some (.slice p1 c.regs.length q1):=by rw[<-hW0,<-hX];simp[go_sem]
 have x2:W0.cell? ⟨X,2,none⟩=some (.slice p2 c.slots.length q2):=by rw[<-hW0,<-hX];simp[go_sem]
 have x3:W0.cell? ⟨X,3,none⟩=some (.slice p3 c.list.length q3):=by rw[<-hW0,<-hX];simp[go_sem]
 have hv0:=hv.below hb0;have KT:=A5 (fun(u:World) (h:Below W0.heap.size W0 u)=>FE _ _ _ _ c hz u (hv0.below h));have HX:=A5 (fun(u:World) (h:Below W0.heap.size W0 u)=>(⟨kc h x0,kc h x1,kc h x2,kc h x3⟩:u.cell? ⟨X,0,none⟩=some (.slice p0 c.sign.length q0)/\u.cell? ⟨X,1,none⟩=some (.slice p1 c.regs.length q1)/\u.cell? ⟨X,2,none⟩=some (.slice p2 c.slots.length q2)/\u.cell? ⟨X,3,none⟩=some (.slice p3 c.list.length q3)));have HB0:=A5 hb0;have K1:=A5 (fun(u:World) (x0 x1 x2 x3:Value) (h:BE u x0 x1 x2 x3 c)=>CB x0 x1 x2 x3 c hk u h);have R1:=A5 (fun(u:World) (h:Below W0.heap.size W0 u)=>Ft p0 p1 p2 p3 q0 q1 q2 q3 c hk u (hv0.below h));obtain⟨A1,hA1⟩:∃a,Bg c=a:=⟨_,rfl⟩
 rw[hA1]at K1 R1;clear hb0 hv hv0 hA1;go_enter func4,ntmps4;go_upto_region 1 with fail;try rw[hW0]
 try rw[hX]
 clear hW0 hX;refine rG (fun v=>v.cell? ⟨X,0,none⟩=some (.slice p0 c.sign.length q0)/\v.cell? ⟨X,1,none⟩=some (.slice p1 c.regs.length q1)/\v.cell? ⟨X,2,none⟩=some (.slice p2 c.slots.length q2)/\v.cell? ⟨X,3,none⟩=some (.slice p3 c.list.length q3)) fun hJ=>?_;refine wpAnyH_take (i:=0) (v:=?_) A2 kR kR kR A3 (Or.inl ⟨rF,?_⟩) A4 ?_
 rotate_left 1
 ·(intro wS hSw;(try dsimp only at hSw);go_simp;try(with_reducible rfl))
 try simp only[Act.put,List.setIfInBounds_toArray,List.set_cons_zero,List.set_cons_succ]
 refine wpAnyH_take (i:=3) (v:=?_) A2 kR kR kR A3 (Or.inl ⟨rF,?_⟩) A4 ?_
 rotate_left 1
 ·(intro wS hSw;(try dsimp only at hSw);go_simp;try(with_reducible rfl))
 try simp only[Act.put,List.setIfInBounds_toArray,List.set_cons_zero,List.set_cons_succ]
 clear hJ;refine AH 1 fun K hK=>?_;go_simp;(go_at_call 7;(with_reducible refine(KT.out _ (A7 _)).mono ?_);rintro e9 w3 ⟨t0,t1,t2,t3,rfl,ht3,ho3,hb3⟩;obtain⟨r0,s0,rfl⟩:=Ap ho3.sign;obtain⟨r1,s1,rfl⟩:=Ap ho3.regs;obtain⟨r2,s2,rfl⟩:=Ap ho3.slots;obtain⟨r3,s3,rfl⟩:=Ap ho3.list;have HT3:=A5 ht3;have HB3:=A5 hb3;clear ht3 ho3 hb3;have HB3:=A5 (bel (A7 _) HB3.out);obtain⟨y10,y11,y12,y13⟩:=HX.out _ HB3.out);try(go_wp2_with fail)
 refine AJ hK fun hJ=>?_;clear hK K;clear hJ;refine AH 2 fun K hK=>?_;go_simp;(go_at_call 16;(with_reducible refine(K1.out _ _ _ _ _ HT3.out).mono ?_);rintro e9 w4 ⟨rfl,hb⟩;have HB4:=A5 (bel HB3.out hb);clear hb;obtain⟨y20,y21,y22,y23⟩:=HX.out _ HB4.out);try(go_wp2_with fail)
 refine AJ hK fun hJ=>?_;clear hK K;clear hJ;refine AH 4 fun K hK=>?_;go_simp;(go_at_call 17;(with_reducible refine(R1.out _ HB4.out).mono ?_);rintro e9 w5 ⟨rfl,hb⟩;have HB5:=A5 (bel HB4.out hb);clear hb;obtain⟨y30,y31,y32,y33⟩:=HX.out _ HB5.out);try(go_wp2_with fail)
 refine AJ hK fun hJ=>?_;clear hK K;refine wpAnyH_take (i:=5) (v:=?_) A2 kR kR kR A3 (Or.inl ⟨rF,?_⟩) A4 ?_
 rotate_left 1
 ·(intro wS hSw;(try dsimp only at hSw);go_simp;try(with_reducible rfl))
 try simp only[Act.put,List.setIfInBounds_toArray,List.set_cons_zero,List.set_cons_succ]
 refine wpAnyH_take (i:=6) (v:=?_) A2 kR kR kR A3 (Or.inl ⟨rF,?_⟩) A4 ?_
 rotate_left 1
 ·(intro wS hSw;(try dsimp only at hSw);go_simp;try(with_reducible rfl))
 try simp only[Act.put,List.setIfInBounds_toArray,List.set_cons_zero,List.set_cons_succ]
 clear hJ;refine AH 7 fun K hK=>?_;go_simp;(go_at_call 15;(with_reducible refine(KW.out _).mono ?_);rintro e9 w6 ⟨rfl,hb⟩;have HB6:=A5 (bel HB5.out hb);clear hb;obtain⟨y40,y41,y42,y43⟩:=HX.out _ HB6.out);try(go_wp2_with fail)
 refine AJ hK fun hJ=>?_;clear hK K;refine wpAnyH_take (i:=8) (v:=?_) A2 kR kR kR A3 (Or.inl ⟨rF,?_⟩) A4 ?_
 rotate_left 1
 ·(intro wS hSw;(try dsimp only at hSw);go_simp;try(with_reducible rfl))
 try simp only[Act.put,List.setIfInBounds_toArray,List.set_cons_zero,List.set_cons_succ]
 refine wpAnyH_take (i:=9) (v:=?_) A2 kR kR kR A3 (Or.inl ⟨rF,?_⟩) A4 ?_
 rotate_left 1
 ·(intro wS hSw;(try dsimp only at hSw);go_simp;try(with_reducible rfl))
 try simp only[Act.put,List.setIfInBounds_toArray,List.set_cons_zero,List.set_cons_succ]
 refine wpAnyH_done kR ?_ _;go_wp2_with fail;refine bodyPost_ret (by simp[results,results4,go_sem, *];try rfl) rfl ?_;exact⟨by first|rfl|simp,bel HB0.out HB6.out⟩
end Go.Proofs.Ytheanilpbnencaa
