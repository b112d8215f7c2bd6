import Derived.Test.YtnlgkkbmbijndaaGreatSeal19
import Derived.Test.YtnlgkkbmbijndaaGreatSeal14
import Derived.Test.YtnlgkkbmbijndaaGreatSeal20
import Derived.Deep.DeepCutAuto
import Derived.Test.YtnlgkkbmbijndaaGreatSeal1
namespace Go.Proofs.YtnlgkkbmbijndaaGreat
open Go.RowKit Go.Proofs.Tryz
set_option linter.all false
set_option maxRecDepth 100000
set_option maxHeartbeats 16000000
theorem Pq(k:Nat):Ab (NY.extract 0 k)=GP.take k:=by
 have h9:=BK NY 0 k;rw[Nat.zero_add,List.drop_zero,OM]at h9;exact h9
theorem OT(s:ByteArray)(k:Nat):Ab (s.extract 0 k)=(Ab s).take k:=by
 have h9:=BK s 0 k;rw[Nat.zero_add,List.drop_zero]at h9;exact h9
theorem LC{s:ByteArray}(h1:¬ (Ab s).take (min (Ab s).length 4)≠GP.take (min (Ab s).length 4))(h2:¬ (Ab s).length<4){A1:Nat}{e1 p1:Int}{c:Cd}(hR:Af Bp (Ab s) 4 0 A1 e1 0 p1 c):
 (e1≠0->∃at_:Nat,p1=(at_:Int)/\C8 (Ab s)=.error (e1,at_))/\(e1=0->A1<=s.size/\C9 c/\C8 (Ab s)=
  if((Ab s).drop A1).length<8 then .error (242,A1)
  else if Bi (((Ab s).drop A1).take 8)≠EV ((Ab s).take A1)then .error (241,A1)
  else if 8<((Ab s).drop A1).length then .error (244,A1+8)
  else if(AE c).1≠0 then .error ((AE c).1,0)
  else .ok c):=by
 have h3:=hR.2 rfl oM;have hbw:=Fg.bw ((Ab s).drop 4) 4;unfold C8;rw[if_neg h1,if_neg h2];cases hq:Bp ((Ab s).drop 4) 4 with
 |error z=>
  obtain⟨er,at_⟩:=z;rw[hq]at h3;obtain⟨a,b,d⟩:=h3;refine⟨fun _=>⟨at_,d,by rw[b]⟩,fun h=>absurd (b.symm.trans h) a⟩
 |ok z=>
  obtain⟨c',l,P⟩:=z;rw[hq]at h3;obtain⟨a,b,d,g,f⟩:=h3;obtain⟨-,-,hk⟩:=hbw c' l P (fun b hb=>BP s b (List.mem_of_mem_drop hb)) hq;subst f;subst b;refine⟨fun h=>absurd a h,fun _=>⟨by rw[Ah]at g;exact g,hk,?_⟩⟩;simp only[d]
theorem NK{s:ByteArray}(h1:¬ (Ab s).take (min (Ab s).length 4)≠GP.take (min (Ab s).length 4))(h2:¬ (Ab s).length<4){A1 A2:Nat}{e1 p1 e2 p2:Int}{c:Cd}{t:ByteArray}(hR:Af Bp (Ab s) 4 0 A1 e1 0 p1 c)(hS:Af (CZ 8) (Ab s) A1 e1 A2 e2 p1 p2 t):
 (e2≠0->∃at_:Nat,p2=(at_:Int)/\C8 (Ab s)=.error (e2,at_))/\(e2=0->A1<=s.size/\A2=A1+8/\A2<=s.size/\t.size=8/\C9 c/\C8 (Ab s)=
  if Bi (Ab t)≠EV (Ab (s.extract 0 A1))then .error (241,A1)
  else if A2<s.size then .error (244,A2)
  else if(AE c).1≠0 then .error ((AE c).1,0)
  else .ok c):=by
 obtain⟨hb,hg⟩:=LC h1 h2 hR;by_cases he:e1=0
 .obtain⟨hA,hk,hd⟩:=hg he;have h8:=hS.2 he (by rw[Ah];exact hA);have hl:((Ab s).drop A1).length=s.size-A1:=by rw[List.length_drop,Ah]
  by_cases hc:s.size<A1+8
  .rw[FA hA hc]at h8;obtain⟨a,b,d⟩:=h8;refine⟨fun _=>⟨A1,d,?_⟩,fun h=>absurd (b.symm.trans h) a⟩;rw[hd,if_pos oM,b]
  .rw[GD oM]at h8;obtain⟨a,b,-,-,d⟩:=h8;refine⟨fun h=>absurd a h,fun _=>⟨hA,b,oM,by rw[d];simp;omega,hk,?_⟩⟩;rw[hd,if_neg oM,OT,d,BK,b];by_cases q:Bi (((Ab s).drop A1).take 8)≠EV ((Ab s).take A1)
   .rw[if_pos q,if_pos q]
   .rw[if_neg q,if_neg q];by_cases q2:8<((Ab s).drop A1).length
    .rw[if_pos q2,if_pos (show A1+8<s.size by omega)]
    .rw[if_neg q2,if_neg (show¬A1+8<s.size by omega)]
 .obtain⟨at_,h3,h4⟩:=hb he;obtain⟨a,b⟩:=hS.1 he;exact⟨fun _=>⟨at_,b.trans h3,by rw[a];exact h4⟩,fun h=>absurd (a.symm.trans h) he⟩
theorem Ht(s:ByteArray)(w:World)(hs:s.size<=281474976710656):
 Calls prog 13 #[.string s] w (I8 w (C8 (Ab s))):=by
 obtain⟨C,hS_C⟩:∃N,w.heap.size=N:=⟨_,rfl⟩
 obtain⟨W0,hA_C⟩:∃W,w.alloc (.cells #[.slice none 0 0,.slice none 0 0,.slice none 0 0,.slice none 0 0] 27)=W:=⟨_,rfl⟩
 have r9:W0.rowIs C 27 4 (f4 (.slice none 0 0) (.slice none 0 0) (.slice none 0 0) (.slice none 0 0)):=R6;have R_C:=A6 r9;have HBW:Hid (Below C w W0):=BI hA_C (Nat.le_of_eq hS_C.symm);have HC_C:Hid (C<=C):=gF _;have HCW:=A6 hS_C;clear r9;have HCV:Hid (C<=W0.heap.size):=Nat.le_of_lt R_C.lt;have HS:=A6 hs;obtain⟨N,hN⟩:=gA (s.size)
 obtain⟨k4,hk4⟩:∃k,min N 4=k:=⟨_,rfl⟩
 have hm:min (N:Int) 4=(k4:Int):=oM;have HLN:Hid ((Ab s).length=N):=by show _=_;rw[Ah];exact hN
 have HK4:=A6 hk4;have b1:(0:Int)<=(k4:Int):=oM;have b2:(k4:Int)<=(N:Int):=oM;have b3:(k4:Int)<=4:=oM;have b4:k4<=N:=oM;have b5:k4<=4:=oM;clear hs hk4;go_enter func13,ntmps13;go_upto_region 2 with fail;try rw[hS_C]
 try rw[hA_C]
 clear hS_C hA_C;obtain⟨cC0,cC1,cC2,cC3⟩:=c4 R_C.out;have hcmp:=T7 (s.extract 0 k4) (NY.extract 0 k4);rw[OT,Pq]at hcmp;unfold NY at hcmp;by_cases hq:(Ab s).take k4=GP.take k4
 .rw[decide_eq_true hq]at hcmp;by_cases hs4:k4<4
  ·--{6
   have HD:Hid (C8 (Ab s)=.error (242,0)):=by
    show _=_;unfold C8;rw[if_neg (by rw[HLN.out,HK4.out];exact fun h=>h hq),if_pos (by rw[HLN.out];have:=HK4.out;omega)]
   have e4:(k4:Int)<4:=oM;clear hq hs4;exact Sh
  ·--{7
   have H1:Hid (¬ (Ab s).take (min (Ab s).length 4)≠GP.take (min (Ab s).length 4)):=by show¬_;rw[HLN.out,HK4.out];exact fun h=>h hq
   have H2:Hid (¬ (Ab s).length<4):=by show¬_;rw[HLN.out];have:=HK4.out;omega
   have H4:Hid (4<=s.size):=by show 4<=_;rw[<-Ah];have:=H2.out;omega
   have e4:¬ (k4:Int)<4:=oM;clear hq hs4;refine rG (fun v=>v.cell? ⟨C,0,none⟩=some (.slice none 0 0)) fun hJ=>?_;refine wpAnyH_take (i:=0) (v:=?_) A8 kR kR kR A9 (Or.inl ⟨rF,?_⟩) Aa ?_
   rotate_left 1
   ·(intro wS hSw;(try dsimp only at hSw);go_simp;try(with_reducible rfl))
   try simp only[Act.put,List.setIfInBounds_toArray,List.set_cons_zero,List.set_cons_succ]
   refine wpAnyH_take (i:=1) (v:=?_) A8 kR kR kR A9 (Or.inl ⟨rF,?_⟩) Aa ?_
   rotate_left 1
   ·(intro wS hSw;(try dsimp only at hSw);go_simp;try(with_reducible rfl))
   try simp only[Act.put,List.setIfInBounds_toArray,List.set_cons_zero,List.set_cons_succ]
   refine wpAnyH_take (i:=2) (v:=?_) A8 kR kR kR A9 (Or.inl ⟨rF,?_⟩) Aa ?_
   rotate_left 1
   ·(intro wS hSw;(try dsimp only at hSw);go_simp;try(with_reducible rfl))
   try simp only[Act.put,List.setIfInBounds_toArray,List.set_cons_zero,List.set_cons_succ]
   refine wpAnyH_take (i:=3) (v:=?_) A8 kR kR kR A9 (Or.inl ⟨rF,?_⟩) Aa ?_
   rotate_left 1
   ·(intro wS hSw;(try dsimp only at hSw);go_simp;try(with_reducible rfl))
   try simp only[Act.put,List.setIfInBounds_toArray,List.set_cons_zero,List.set_cons_succ]
   refine wpAnyH_take (i:=4) (v:=?_) A8 kR kR kR A9 (Or.inl ⟨rF,?_⟩) Aa ?_
   rotate_left 1
   ·(intro wS hSw;(try dsimp only at hSw);go_simp;try(with_reducible rfl))
   try simp only[Act.put,List.setIfInBounds_toArray,List.set_cons_zero,List.set_cons_succ]
   refine wpAnyH_take (i:=5) (v:=?_) A8 kR kR kR A9 (Or.inl ⟨rF,?_⟩) Aa ?_
   rotate_left 1
   ·(intro wS hSw;(try dsimp only at hSw);go_simp;try(with_reducible rfl))
   try simp only[Act.put,List.setIfInBounds_toArray,List.set_cons_zero,List.set_cons_succ]
   refine wpAnyH_done kR ?_ _;obtain⟨V0,hD_V0⟩:∃W,W0.drew=W:=⟨_,rfl⟩
   replace R_C:=A6 (show V0.rowIs C _ _ _ from hD_V0▸R_C.drew)
   replace HBW:=A6 (show Below C w V0 from hD_V0▸HBW.drew)
   try rw[hD_V0]
   clear hD_V0;clear cC0 cC1 cC2 cC3;clear HCV;have HCV:Hid (C<=V0.heap.size):=Nat.le_of_lt R_C.out.lt;have KB:Hid (∀v,Calls prog 28 #[.agg #[.string s,.int .i64 4,.int .i64 0,.int .i64 0]] v (OX v.heap.size v s 4 0 0)):=fun v=>KA s 4 0 0 v (fun _=>H4.out) HS.out;unfold OX at KB;have HHV:Hid (C<V0.heap.size):=R_C.out.lt;go_upto_region 7 with(go_at_call 28;(with_reducible refine(KB.out _).mono ?_);rintro r9 w5 ⟨A1,e1,p1,l0,pp0,q0,l1,pp1,q1,l2,pp2,q2,l3,pp3,q3,rfl,ho,hR,hb⟩;replace R_C:=A6 (R_C.out.of_block (hb.block _ R_C.out.lt));replace HBW:=A6 (HBW.out.trans (hb.mono HCV.out));have HFR:Hid (Cb w5.heap.size C C w5 w5):=Cb.refl C C w5;have HO:=A6 ho;have HR:=A6 hR;obtain⟨J,hS_J⟩:∃N,w5.heap.size=N:=⟨_,rfl⟩;obtain⟨W1,hA_J⟩:∃W,w5.alloc (.cells #[.string ⟨#[]⟩,.int .i64 0,.int .i64 0,.int .i64 0] 78)=W:=⟨_,rfl⟩;have hC_J:C≠J:=F2;have hJ_C:=hC_J.symm;have HC_J:Hid (C<=J):=No;have r9:W1.rowIs J 78 4 (f4 (.string ⟨#[]⟩) (.int .i64 0) (.int .i64 0) (.int .i64 0)):=(by rw[<-hA_J,<-hS_J];exact Br w5 _ _ _ _ _);have R_J:=A6 r9;replace HBW:=A6 (HBW.out.trans (BI hA_J (Nat.le_of_lt R_C.out.lt)));replace R_C:=A6 (Ai R_C.out hA_J);have HX_J:Hid (w5.heap.size<=J):=Qf;replace HFR:=A6 (HFR.out.alloc hA_J);clear r9;obtain⟨M,hS_M⟩:∃N,W1.heap.size=N:=⟨_,rfl⟩;obtain⟨W2,hA_M⟩:∃W,W1.alloc (.cells #[.slice none 0 0,.slice none 0 0,.slice none 0 0,.slice none 0 0] 27)=W:=⟨_,rfl⟩;have hC_M:C≠M:=F2;have hM_C:=hC_M.symm;have hJ_M:J≠M:=Rb;have hM_J:=hJ_M.symm;have HC_M:Hid (C<=M):=(by show C<=M;have:=R_C.out.lt;omega);have r9:W2.rowIs M 27 4 (f4 (.slice none 0 0) (.slice none 0 0) (.slice none 0 0) (.slice none 0 0)):=(by rw[<-hA_M,<-hS_M];exact Br W1 _ _ _ _ _);have R_M:=A6 r9;replace HBW:=A6 (HBW.out.trans (BI hA_M (Nat.le_of_lt R_C.out.lt)));replace R_C:=A6 (Ai R_C.out hA_M);replace R_J:=A6 (Ai R_J.out hA_M);have HX_M:Hid (w5.heap.size<=M):=(by rw[<-hS_M];exact HFR.out.size);replace HFR:=A6 (HFR.out.alloc hA_M);clear r9;obtain⟨mJ0,mJ1,mJ2,mJ3⟩:=c4 R_J.out;obtain⟨yJ0,yJ1,yJ2,yJ3⟩:=z4 R_J.out;obtain⟨mM0,mM1,mM2,mM3⟩:=c4 R_M.out;obtain⟨yM0,yM1,yM2,yM3⟩:=z4 R_M.out;clear hb ho hR)
   have hq:=AI R_J.out (.string s) (.int .i64 (A1:Int)) (.int .i64 e1) (.int .i64 p1);obtain⟨W3,hP_W3⟩:∃W,(((W2.setCell ⟨J,0,none⟩ (.string s)).setCell ⟨J,1,none⟩ (.int .i64 (A1:Int))).setCell ⟨J,2,none⟩ (.int .i64 e1)).setCell ⟨J,3,none⟩ (.int .i64 p1)=W:=⟨_,rfl⟩
   rw[hP_W3]at hq;try rw[hP_W3]
   replace R_C:=A6 (hq.2.row R_C.out hC_J)
   replace R_M:=A6 (hq.2.row R_M.out hM_J)
   replace HFR:=A6 (HFR.put hq.2 (.inr (.inr HX_J.out)))
   replace R_J:=A6 hq.1
   replace HBW:=A6 (HBW.trans (hq.2.bel C HC_J.out))
   clear hq;clear hP_W3;have hq:=AI R_M.out (.slice pp0 l0.length q0) (.slice pp1 l1.length q1) (.slice pp2 l2.length q2) (.slice pp3 l3.length q3);obtain⟨W4,hP_W4⟩:∃W,(((W3.setCell ⟨M,0,none⟩ (.slice pp0 l0.length q0)).setCell ⟨M,1,none⟩ (.slice pp1 l1.length q1)).setCell ⟨M,2,none⟩ (.slice pp2 l2.length q2)).setCell ⟨M,3,none⟩ (.slice pp3 l3.length q3)=W:=⟨_,rfl⟩
   rw[hP_W4]at hq;try rw[hP_W4]
   replace R_C:=A6 (hq.2.row R_C.out hC_M)
   replace R_J:=A6 (hq.2.row R_J.out hJ_M)
   replace HFR:=A6 (HFR.put hq.2 (.inr (.inr HX_M.out)))
   replace R_M:=A6 hq.1
   replace HBW:=A6 (HBW.trans (hq.2.bel C HC_M.out))
   clear hq;clear hP_W4;clear mJ0 mJ1 mJ2 mJ3 yJ0 yJ1 yJ2 yJ3 mM0 mM1 mM2 mM3 yM0 yM1 yM2 yM3;clear HCV KB;have HCV:Hid (C<=W4.heap.size):=Nat.le_of_lt R_C.out.lt;have HA1:=A6 (HR.out.le fun _=>H4.out);have KS:Hid (∀v,Calls prog 29 #[.agg #[.string s,.int .i64 (A1:Int),.int .i64 e1,.int .i64 p1],.int .i64 8] v (BZ v.heap.size v s A1 e1 p1 (CZ 8) (fun t=>.string t) (fun t=>t.size<=8))):=fun v=>DQ s A1 e1 p1 8 v HA1.out HS.out dE;unfold BZ at KS;obtain⟨cJ0,cJ1,cJ2,cJ3⟩:=c4 R_J.out;go_upto_region 9 with(go_at_call 29;(with_reducible refine(KS.out _).mono ?_);rintro r9 w6 ⟨A2,e2,p2,t,rfl,ht,hS,hb⟩;replace R_C:=A6 (R_C.out.of_block (hb.block _ R_C.out.lt));replace R_J:=A6 (R_J.out.of_block (hb.block _ R_J.out.lt));replace R_M:=A6 (R_M.out.of_block (hb.block _ R_M.out.lt));replace HBW:=A6 (HBW.out.trans (hb.mono HCV.out));replace HFR:=A6 (HFR.out.below hb);have HSM:=A6 hS;have HT:=A6 ht;obtain⟨mJ0,mJ1,mJ2,mJ3⟩:=c4 R_J.out;obtain⟨yJ0,yJ1,yJ2,yJ3⟩:=z4 R_J.out;clear hb hS ht)
   have hq:=AI R_J.out (.string s) (.int .i64 (A2:Int)) (.int .i64 e2) (.int .i64 p2);obtain⟨W5,hP_W5⟩:∃W,(((w6.setCell ⟨J,0,none⟩ (.string s)).setCell ⟨J,1,none⟩ (.int .i64 (A2:Int))).setCell ⟨J,2,none⟩ (.int .i64 e2)).setCell ⟨J,3,none⟩ (.int .i64 p2)=W:=⟨_,rfl⟩
   rw[hP_W5]at hq;try rw[hP_W5]
   replace R_C:=A6 (hq.2.row R_C.out hC_J)
   replace R_M:=A6 (hq.2.row R_M.out hM_J)
   replace HFR:=A6 (HFR.put hq.2 (.inr (.inr HX_J.out)))
   replace R_J:=A6 hq.1
   replace HBW:=A6 (HBW.trans (hq.2.bel C HC_J.out))
   clear hq;clear hP_W5;clear cJ0 cJ1 cJ2 cJ3 mJ0 mJ1 mJ2 mJ3 yJ0 yJ1 yJ2 yJ3;clear HCV KS;have HSUM:=A6 (NK H1.out H2.out HR.out HSM.out);by_cases he:e2=0
   .obtain⟨hA1,hA2,hA3,ht8,hok,hdd⟩:=HSUM.2 he;subst he;have HOK:=A6 hok;have HDD:=A6 hdd;clear hok hdd HSUM hA2;obtain⟨u,hu⟩:=gA (s.extract 0 A1)
    have hus:u.size<=281474976710656:=by have:=HS.out;rw[<-hu];simp;omega
    have KV:=A6 (fun v=>E8 t (Nat.le_of_eq ht8) v);have KP:=A6 (fun v=>FG u hus v);rw[hu]at HDD;have i1:(0:Int)<=(A1:Int):=oM;have i2:(A1:Int)<=(N:Int):=oM;have i3:A1<=N:=oM;obtain⟨LV,hLV⟩:∃L,Bi (Ab t)=L:=⟨_,rfl⟩
    obtain⟨PV,hPV⟩:∃L,EV (Ab u)=L:=⟨_,rfl⟩
    rw[hLV,hPV]at HDD;rw[hLV]at KV;rw[hPV]at KP;clear hLV hPV;by_cases hsum:LV=PV
    .have es:((LV:Int)==(PV:Int))=true:=by rw[hsum];simp
     have HSE:=A6 hsum;clear hsum;obtain⟨cJ0,cJ1,cJ2,cJ3⟩:=c4 R_J.out;refine rG (fun v=>v.cell? ⟨J,0,none⟩=some (.string s)/\v.cell? ⟨J,1,none⟩=some (.int .i64 (A2:Int))/\v.cell? ⟨J,2,none⟩=some (.int .i64 0)/\v.cell? ⟨J,3,none⟩=some (.int .i64 p2)) fun hJ=>?_;refine wpAnyH_take (i:=0) (v:=?_) A8 kR kR kR A9 (Or.inl ⟨rF,?_⟩) Aa ?_
     rotate_left 1
     ·(intro wS hSw;(try dsimp only at hSw);go_simp;try(with_reducible rfl))
     try simp only[Act.put,List.setIfInBounds_toArray,List.set_cons_zero,List.set_cons_succ]
     refine wpAnyH_take (i:=1) (v:=?_) A8 kR kR kR A9 (Or.inl ⟨rF,?_⟩) Aa ?_
     rotate_left 1
     ·(intro wS hSw;(try dsimp only at hSw);go_simp;try(with_reducible rfl))
     try simp only[Act.put,List.setIfInBounds_toArray,List.set_cons_zero,List.set_cons_succ]
     refine wpAnyH_take (i:=2) (v:=?_) A8 kR kR kR A9 (Or.inl ⟨rF,?_⟩) Aa ?_
     rotate_left 1
     ·(intro wS hSw;(try dsimp only at hSw);go_simp;try(with_reducible rfl))
     try simp only[Act.put,List.setIfInBounds_toArray,List.set_cons_zero,List.set_cons_succ]
     refine wpAnyH_take (i:=3) (v:=?_) A8 kR kR kR A9 (Or.inl ⟨rF,?_⟩) Aa ?_
     rotate_left 1
     ·(intro wS hSw;(try dsimp only at hSw);go_simp;try(with_reducible rfl))
     try simp only[Act.put,List.setIfInBounds_toArray,List.set_cons_zero,List.set_cons_succ]
     refine wpAnyH_take (i:=4) (v:=?_) A8 kR kR kR A9 (Or.inl ⟨rF,?_⟩) Aa ?_
     rotate_left 1
     ·(intro wS hSw;(try dsimp only at hSw);go_simp;try(with_reducible rfl))
     try simp only[Act.put,List.setIfInBounds_toArray,List.set_cons_zero,List.set_cons_succ]
     refine wpAnyH_take (i:=6) (v:=?_) A8 kR kR kR A9 (Or.inl ⟨rF,?_⟩) Aa ?_
     rotate_left 1
     ·(intro wS hSw;(try dsimp only at hSw);go_simp;try(with_reducible rfl))
     try simp only[Act.put,List.setIfInBounds_toArray,List.set_cons_zero,List.set_cons_succ]
     refine wpAnyH_take (i:=7) (v:=?_) A8 kR kR kR A9 (Or.inl ⟨rF,?_⟩) Aa ?_
     rotate_left 1
     ·(intro wS hSw;(try dsimp only at hSw);go_simp;try(with_reducible rfl))
     try simp only[Act.put,List.setIfInBounds_toArray,List.set_cons_zero,List.set_cons_succ]
     refine wpAnyH_take (i:=8) (v:=?_) A8 kR kR kR A9 (Or.inl ⟨rF,?_⟩) Aa ?_
     rotate_left 1
     ·(intro wS hSw;(try dsimp only at hSw);go_simp;try(with_reducible rfl))
     try simp only[Act.put,List.setIfInBounds_toArray,List.set_cons_zero,List.set_cons_succ]
     clear hJ;refine AP 5 fun K hK=>?_;go_simp;(go_at_call 30;(with_reducible refine(KV.out _).mono ?_);rintro r9 w8 ⟨rfl,hw8⟩;have hw8:=hw8.symm;subst hw8);try(go_wp2_with fail)
     refine AW hK fun hJ=>?_;clear hK K;clear hJ;refine AP 9 fun K hK=>?_;go_simp;(go_at_call 24;(with_reducible refine(KP.out _).mono ?_);rintro r9 w8 ⟨rfl,hw8⟩;have hw8:=hw8.symm;subst hw8);try(go_wp2_with fail)
     refine AW hK fun hJ=>?_;clear hK K;refine wpAnyH_take (i:=10) (v:=?_) A8 kR kR kR A9 (Or.inl ⟨rF,?_⟩) Aa ?_
     rotate_left 1
     ·(intro wS hSw;(try dsimp only at hSw);go_simp;try(with_reducible rfl))
     try simp only[Act.put,List.setIfInBounds_toArray,List.set_cons_zero,List.set_cons_succ]
     refine wpAnyH_take (i:=11) (v:=?_) A8 kR kR kR A9 (Or.inl ⟨rF,?_⟩) Aa ?_
     rotate_left 1
     ·(intro wS hSw;(try dsimp only at hSw);go_simp;try(with_reducible rfl))
     try simp only[Act.put,List.setIfInBounds_toArray,List.set_cons_zero,List.set_cons_succ]
     refine wpAnyH_done kR ?_ _;obtain⟨V1,hD_V1⟩:∃W,W5.drew=W:=⟨_,rfl⟩
     replace R_C:=A6 (show V1.rowIs C _ _ _ from hD_V1▸R_C.drew)
     replace R_J:=A6 (show V1.rowIs J _ _ _ from hD_V1▸R_J.drew)
     replace R_M:=A6 (show V1.rowIs M _ _ _ from hD_V1▸R_M.drew)
     replace HBW:=A6 (show Below C w V1 from hD_V1▸HBW.drew)
     replace HFR:=A6 (show Cb _ _ _ _ V1 from hD_V1▸(⟨HFR.size,HFR.blk⟩:Cb _ _ _ _ W5.drew))
     try rw[hD_V1]
     clear hD_V1;clear cJ0 cJ1 cJ2 cJ3;by_cases hbe:A2<s.size
     ·--{3
      have e7:(A2:Int)<(N:Int):=oM;have HD:Hid (C8 (Ab s)=.error (244,A2)):=by show _=_;rw[HDD.out,if_neg (fun h=>h HSE.out),if_pos hbe]
      clear hbe
      skip
      have HCV:Hid (C<=V1.heap.size):=Nat.le_of_lt R_C.out.lt;have KF:=A6 (fun(a b:Int) v=>CA s a b 244 (A2:Int) v);obtain⟨cJ0,cJ1,cJ2,cJ3⟩:=c4 R_J.out;go_upto_region 13 with(go_at_call 31;(with_reducible refine(KF.out _ _ _).mono ?_);rintro r9 w9 ⟨rfl,hb⟩;replace R_C:=A6 (R_C.out.of_block (hb.block _ R_C.out.lt));replace R_J:=A6 (R_J.out.of_block (hb.block _ R_J.out.lt));replace R_M:=A6 (R_M.out.of_block (hb.block _ R_M.out.lt));replace HBW:=A6 (HBW.out.trans (hb.mono HCV.out));replace HFR:=A6 (HFR.out.below hb);obtain⟨mJ0,mJ1,mJ2,mJ3⟩:=c4 R_J.out;obtain⟨yJ0,yJ1,yJ2,yJ3⟩:=z4 R_J.out;clear hb)
      have hq:=AI R_J.out (.string s) (.int .i64 (A2:Int)) (.int .i64 244) (.int .i64 (A2:Int));obtain⟨W6,hP_W6⟩:∃W,(((w9.setCell ⟨J,0,none⟩ (.string s)).setCell ⟨J,1,none⟩ (.int .i64 (A2:Int))).setCell ⟨J,2,none⟩ (.int .i64 244)).setCell ⟨J,3,none⟩ (.int .i64 (A2:Int))=W:=⟨_,rfl⟩
      rw[hP_W6]at hq;try rw[hP_W6]
      replace R_C:=A6 (hq.2.row R_C.out hC_J)
      replace R_M:=A6 (hq.2.row R_M.out hM_J)
      replace HFR:=A6 (HFR.put hq.2 (.inr (.inr HX_J.out)))
      replace R_J:=A6 hq.1
      replace HBW:=A6 (HBW.trans (hq.2.bel C HC_J.out))
      clear hq;clear hP_W6;clear cJ0 cJ1 cJ2 cJ3 mJ0 mJ1 mJ2 mJ3 yJ0 yJ1 yJ2 yJ3;obtain⟨cJ0,cJ1,cJ2,cJ3⟩:=c4 R_J.out;obtain⟨cC0,cC1,cC2,cC3⟩:=c4 R_C.out;obtain⟨zC0,zC1,zC2,zC3⟩:=z4 R_C.out;have hq:=AI R_C.out (.slice none 0 0) (.slice none 0 0) (.slice none 0 0) (.slice none 0 0);obtain⟨W7,hP_W7⟩:∃W,(((W6.setCell ⟨C,0,none⟩ (.slice none 0 0)).setCell ⟨C,1,none⟩ (.slice none 0 0)).setCell ⟨C,2,none⟩ (.slice none 0 0)).setCell ⟨C,3,none⟩ (.slice none 0 0)=W:=⟨_,rfl⟩
      rw[hP_W7]at hq
      replace R_J:=A6 (hq.2.row R_J.out hJ_C)
      replace R_M:=A6 (hq.2.row R_M.out hM_C)
      replace HFR:=A6 (HFR.put hq.2 (.inl rfl))
      replace R_C:=A6 hq.1
      replace HBW:=A6 (HBW.trans (hq.2.bel C HC_C.out))
      clear hq;have HP_W7:=A6 hP_W7;clear hP_W7;obtain⟨l0',l1',l2',l3'⟩:=c4 R_C.out;have HB:Hid (Below w.heap.size w W7.drew):=by show Below _ _ _;rw[HCW.out];exact HBW.drew
      go_wp2_with fail;refine rG (fun v=>v.cell? ⟨J,0,none⟩=some (.string s)/\v.cell? ⟨J,1,none⟩=some (.int .i64 (A2:Int))/\v.cell? ⟨J,2,none⟩=some (.int .i64 244)/\v.cell? ⟨J,3,none⟩=some (.int .i64 (A2:Int))) fun hJ=>?_;exact Si
     .have e7:¬ (A2:Int)<(N:Int):=oM;have HCV9:Hid (Ef V1 (.slice pp0 l0.length q0) (.slice pp1 l1.length q1) (.slice pp2 l2.length q2) (.slice pp3 l3.length q3) (⟨l0,l1,l2,l3⟩:Cd)):=Gq (B:=V0.heap.size) ⟨HFR.out.own HO.out.sign (gF _) HHV.out HHV.out,HFR.out.own HO.out.regs (gF _) HHV.out HHV.out,HFR.out.own HO.out.slots (gF _) HHV.out HHV.out,HFR.out.own HO.out.list (gF _) HHV.out HHV.out⟩;have KC:=A6 (GH _ _ _ _ (⟨l0,l1,l2,l3⟩:Cd) (Fv HOK.out) V1 HCV9.out);have HBE:=A6 hbe;clear hbe;have HCV:Hid (C<=V1.heap.size):=Nat.le_of_lt R_C.out.lt;obtain⟨cJ0,cJ1,cJ2,cJ3⟩:=c4 R_J.out;obtain⟨cM0,cM1,cM2,cM3⟩:=c4 R_M.out;go_upto_region 16 with(go_at_call 15;(with_reducible refine(KC.out).mono ?_);rintro r9 w9 ⟨rfl,hb⟩;replace R_C:=A6 (R_C.out.of_block (hb.block _ R_C.out.lt));replace R_J:=A6 (R_J.out.of_block (hb.block _ R_J.out.lt));replace R_M:=A6 (R_M.out.of_block (hb.block _ R_M.out.lt));replace HBW:=A6 (HBW.out.trans (hb.mono HCV.out));replace HFR:=A6 (HFR.out.below hb);clear hb)
      clear cJ0 cJ1 cJ2 cJ3 cM0 cM1 cM2 cM3;by_cases hck:(AE (⟨l0,l1,l2,l3⟩:Cd)).1=0
      ·--{1
       have HD:Hid (C8 (Ab s)=.ok (⟨l0,l1,l2,l3⟩:Cd)):=by show _=_;rw[HDD.out,if_neg (fun h=>h HSE.out),if_neg HBE.out,if_neg (fun h=>h hck)]
       have HCK:=A6 hck;obtain⟨ck,hck2⟩:∃k,(AE (⟨l0,l1,l2,l3⟩:Cd)).1=k:=⟨_,rfl⟩
       try rw[hck2]
       have e8:ck=0:=hck2.symm.trans HCK.out;subst e8;clear hck2 hck;obtain⟨cM0,cM1,cM2,cM3⟩:=c4 R_M.out;obtain⟨cC0,cC1,cC2,cC3⟩:=c4 R_C.out;obtain⟨zC0,zC1,zC2,zC3⟩:=z4 R_C.out;have hq:=AI R_C.out (.slice pp0 l0.length q0) (.slice pp1 l1.length q1) (.slice pp2 l2.length q2) (.slice pp3 l3.length q3);obtain⟨W6,hP_W6⟩:∃W,(((w9.setCell ⟨C,0,none⟩ (.slice pp0 l0.length q0)).setCell ⟨C,1,none⟩ (.slice pp1 l1.length q1)).setCell ⟨C,2,none⟩ (.slice pp2 l2.length q2)).setCell ⟨C,3,none⟩ (.slice pp3 l3.length q3)=W:=⟨_,rfl⟩
       rw[hP_W6]at hq
       replace R_J:=A6 (hq.2.row R_J.out hJ_C)
       replace R_M:=A6 (hq.2.row R_M.out hM_C)
       replace HFR:=A6 (HFR.put hq.2 (.inl rfl))
       replace R_C:=A6 hq.1
       replace HBW:=A6 (HBW.trans (hq.2.bel C HC_C.out))
       clear hq;have HP_W6:=A6 hP_W6;clear hP_W6;obtain⟨l0',l1',l2',l3'⟩:=c4 R_C.out;go_wp2_with fail;try rw[HP_W6.out]
       have HB:Hid (Below w.heap.size w W6):=by show Below _ _ _;rw[HCW.out];exact HBW.out
       have HCH:Hid (w.heap.size<=V0.heap.size):=by show w.heap.size<=_;rw[HCW.out];exact Nat.le_of_lt HHV.out
       have HOW:Hid (EE w.heap.size W6 (.slice pp0 l0.length q0) (.slice pp1 l1.length q1) (.slice pp2 l2.length q2) (.slice pp3 l3.length q3) (⟨l0,l1,l2,l3⟩:Cd)):=⟨B3 (HFR.own HO.sign (gF _) HHV.out HHV.out) HCH.out,B3 (HFR.own HO.regs (gF _) HHV.out HHV.out) HCH.out,B3 (HFR.own HO.slots (gF _) HHV.out HHV.out) HCH.out,B3 (HFR.own HO.list (gF _) HHV.out HHV.out) HCH.out⟩
       clear cM0 cM1 cM2 cM3 cC0 cC1 cC2 cC3 zC0 zC1 zC2 zC3;refine bodyPost_ret (by simp[results,results13,go_sem, *];try rfl) rfl ?_;rw[HD.out];exact⟨pp0,q0,pp1,q1,pp2,q2,pp3,q3,rfl,HOW.out,HB.out⟩
      ·--{2
       have HD:Hid (C8 (Ab s)=.error ((AE (⟨l0,l1,l2,l3⟩:Cd)).1,0)):=by show _=_;rw[HDD.out,if_neg (fun h=>h HSE.out),if_neg HBE.out,if_pos hck]
       obtain⟨ck,hck2⟩:∃k,(AE (⟨l0,l1,l2,l3⟩:Cd)).1=k:=⟨_,rfl⟩
       rw[hck2]at hck HD;try rw[hck2]
       have e8:(ck==0)=false:=beq_eq_false_iff_ne.2 hck;clear hck2 hck;obtain⟨cC0,cC1,cC2,cC3⟩:=c4 R_C.out;obtain⟨zC0,zC1,zC2,zC3⟩:=z4 R_C.out;have hq:=AI R_C.out (.slice none 0 0) (.slice none 0 0) (.slice none 0 0) (.slice none 0 0);obtain⟨W6,hP_W6⟩:∃W,(((w9.setCell ⟨C,0,none⟩ (.slice none 0 0)).setCell ⟨C,1,none⟩ (.slice none 0 0)).setCell ⟨C,2,none⟩ (.slice none 0 0)).setCell ⟨C,3,none⟩ (.slice none 0 0)=W:=⟨_,rfl⟩
       rw[hP_W6]at hq
       replace R_J:=A6 (hq.2.row R_J.out hJ_C)
       replace R_M:=A6 (hq.2.row R_M.out hM_C)
       replace HFR:=A6 (HFR.put hq.2 (.inl rfl))
       replace R_C:=A6 hq.1
       replace HBW:=A6 (HBW.trans (hq.2.bel C HC_C.out))
       clear hq;have HP_W6:=A6 hP_W6;clear hP_W6;obtain⟨l0',l1',l2',l3'⟩:=c4 R_C.out;go_wp2_with fail;try rw[HP_W6.out]
       have HB:Hid (Below w.heap.size w W6):=by show Below _ _ _;rw[HCW.out];exact HBW.out
       clear cC0 cC1 cC2 cC3 zC0 zC1 zC2 zC3;exact St
    ·--{4
     have es:((LV:Int)==(PV:Int))=false:=beq_eq_false_iff_ne.2 oM;have HD:Hid (C8 (Ab s)=.error (241,A1)):=by show _=_;rw[HDD.out,if_pos hsum]
     clear hsum;obtain⟨cJ0,cJ1,cJ2,cJ3⟩:=c4 R_J.out;refine rG (fun v=>v.cell? ⟨J,0,none⟩=some (.string s)/\v.cell? ⟨J,1,none⟩=some (.int .i64 (A2:Int))/\v.cell? ⟨J,2,none⟩=some (.int .i64 0)/\v.cell? ⟨J,3,none⟩=some (.int .i64 p2)) fun hJ=>?_;refine wpAnyH_take (i:=0) (v:=?_) A8 kR kR kR A9 (Or.inl ⟨rF,?_⟩) Aa ?_
     rotate_left 1
     ·(intro wS hSw;(try dsimp only at hSw);go_simp;try(with_reducible rfl))
     try simp only[Act.put,List.setIfInBounds_toArray,List.set_cons_zero,List.set_cons_succ]
     refine wpAnyH_take (i:=1) (v:=?_) A8 kR kR kR A9 (Or.inl ⟨rF,?_⟩) Aa ?_
     rotate_left 1
     ·(intro wS hSw;(try dsimp only at hSw);go_simp;try(with_reducible rfl))
     try simp only[Act.put,List.setIfInBounds_toArray,List.set_cons_zero,List.set_cons_succ]
     refine wpAnyH_take (i:=2) (v:=?_) A8 kR kR kR A9 (Or.inl ⟨rF,?_⟩) Aa ?_
     rotate_left 1
     ·(intro wS hSw;(try dsimp only at hSw);go_simp;try(with_reducible rfl))
     try simp only[Act.put,List.setIfInBounds_toArray,List.set_cons_zero,List.set_cons_succ]
     refine wpAnyH_take (i:=3) (v:=?_) A8 kR kR kR A9 (Or.inl ⟨rF,?_⟩) Aa ?_
     rotate_left 1
     ·(intro wS hSw;(try dsimp only at hSw);go_simp;try(with_reducible rfl))
     try simp only[Act.put,List.setIfInBounds_toArray,List.set_cons_zero,List.set_cons_succ]
     refine wpAnyH_take (i:=4) (v:=?_) A8 kR kR kR A9 (Or.inl ⟨rF,?_⟩) Aa ?_
     rotate_left 1
     ·(intro wS hSw;(try dsimp only at hSw);go_simp;try(with_reducible rfl))
     try simp only[Act.put,List.setIfInBounds_toArray,List.set_cons_zero,List.set_cons_succ]
     refine wpAnyH_take (i:=6) (v:=?_) A8 kR kR kR A9 (Or.inl ⟨rF,?_⟩) Aa ?_
     rotate_left 1
     ·(intro wS hSw;(try dsimp only at hSw);go_simp;try(with_reducible rfl))
     try simp only[Act.put,List.setIfInBounds_toArray,List.set_cons_zero,List.set_cons_succ]
     refine wpAnyH_take (i:=7) (v:=?_) A8 kR kR kR A9 (Or.inl ⟨rF,?_⟩) Aa ?_
     rotate_left 1
     ·(intro wS hSw;(try dsimp only at hSw);go_simp;try(with_reducible rfl))
     try simp only[Act.put,List.setIfInBounds_toArray,List.set_cons_zero,List.set_cons_succ]
     refine wpAnyH_take (i:=8) (v:=?_) A8 kR kR kR A9 (Or.inl ⟨rF,?_⟩) Aa ?_
     rotate_left 1
     ·(intro wS hSw;(try dsimp only at hSw);go_simp;try(with_reducible rfl))
     try simp only[Act.put,List.setIfInBounds_toArray,List.set_cons_zero,List.set_cons_succ]
     clear hJ;refine AP 5 fun K hK=>?_;go_simp;(go_at_call 30;(with_reducible refine(KV.out _).mono ?_);rintro r9 w8 ⟨rfl,hw8⟩;have hw8:=hw8.symm;subst hw8);try(go_wp2_with fail)
     refine AW hK fun hJ=>?_;clear hK K;clear hJ;refine AP 9 fun K hK=>?_;go_simp;(go_at_call 24;(with_reducible refine(KP.out _).mono ?_);rintro r9 w8 ⟨rfl,hw8⟩;have hw8:=hw8.symm;subst hw8);try(go_wp2_with fail)
     refine AW hK fun hJ=>?_;clear hK K;refine wpAnyH_take (i:=10) (v:=?_) A8 kR kR kR A9 (Or.inl ⟨rF,?_⟩) Aa ?_
     rotate_left 1
     ·(intro wS hSw;(try dsimp only at hSw);go_simp;try(with_reducible rfl))
     try simp only[Act.put,List.setIfInBounds_toArray,List.set_cons_zero,List.set_cons_succ]
     refine wpAnyH_take (i:=11) (v:=?_) A8 kR kR kR A9 (Or.inl ⟨rF,?_⟩) Aa ?_
     rotate_left 1
     ·(intro wS hSw;(try dsimp only at hSw);go_simp;try(with_reducible rfl))
     try simp only[Act.put,List.setIfInBounds_toArray,List.set_cons_zero,List.set_cons_succ]
     refine wpAnyH_done kR ?_ _;obtain⟨V1,hD_V1⟩:∃W,W5.drew=W:=⟨_,rfl⟩
     replace R_C:=A6 (show V1.rowIs C _ _ _ from hD_V1▸R_C.drew)
     replace R_J:=A6 (show V1.rowIs J _ _ _ from hD_V1▸R_J.drew)
     replace R_M:=A6 (show V1.rowIs M _ _ _ from hD_V1▸R_M.drew)
     replace HBW:=A6 (show Below C w V1 from hD_V1▸HBW.drew)
     replace HFR:=A6 (show Cb _ _ _ _ V1 from hD_V1▸(⟨HFR.size,HFR.blk⟩:Cb _ _ _ _ W5.drew))
     try rw[hD_V1]
     clear hD_V1;clear cJ0 cJ1 cJ2 cJ3
     skip
     have HCV:Hid (C<=V1.heap.size):=Nat.le_of_lt R_C.out.lt;have KF:=A6 (fun(a b:Int) v=>CA s a b 241 (A1:Int) v);obtain⟨cJ0,cJ1,cJ2,cJ3⟩:=c4 R_J.out;go_upto_region 11 with(go_at_call 31;(with_reducible refine(KF.out _ _ _).mono ?_);rintro r9 w9 ⟨rfl,hb⟩;replace R_C:=A6 (R_C.out.of_block (hb.block _ R_C.out.lt));replace R_J:=A6 (R_J.out.of_block (hb.block _ R_J.out.lt));replace R_M:=A6 (R_M.out.of_block (hb.block _ R_M.out.lt));replace HBW:=A6 (HBW.out.trans (hb.mono HCV.out));replace HFR:=A6 (HFR.out.below hb);obtain⟨mJ0,mJ1,mJ2,mJ3⟩:=c4 R_J.out;obtain⟨yJ0,yJ1,yJ2,yJ3⟩:=z4 R_J.out;clear hb)
     have hq:=AI R_J.out (.string s) (.int .i64 (A2:Int)) (.int .i64 241) (.int .i64 (A1:Int));obtain⟨W6,hP_W6⟩:∃W,(((w9.setCell ⟨J,0,none⟩ (.string s)).setCell ⟨J,1,none⟩ (.int .i64 (A2:Int))).setCell ⟨J,2,none⟩ (.int .i64 241)).setCell ⟨J,3,none⟩ (.int .i64 (A1:Int))=W:=⟨_,rfl⟩
     rw[hP_W6]at hq;try rw[hP_W6]
     replace R_C:=A6 (hq.2.row R_C.out hC_J)
     replace R_M:=A6 (hq.2.row R_M.out hM_J)
     replace HFR:=A6 (HFR.put hq.2 (.inr (.inr HX_J.out)))
     replace R_J:=A6 hq.1
     replace HBW:=A6 (HBW.trans (hq.2.bel C HC_J.out))
     clear hq;clear hP_W6;clear cJ0 cJ1 cJ2 cJ3 mJ0 mJ1 mJ2 mJ3 yJ0 yJ1 yJ2 yJ3;obtain⟨cJ0,cJ1,cJ2,cJ3⟩:=c4 R_J.out;obtain⟨cC0,cC1,cC2,cC3⟩:=c4 R_C.out;obtain⟨zC0,zC1,zC2,zC3⟩:=z4 R_C.out;have hq:=AI R_C.out (.slice none 0 0) (.slice none 0 0) (.slice none 0 0) (.slice none 0 0);obtain⟨W7,hP_W7⟩:∃W,(((W6.setCell ⟨C,0,none⟩ (.slice none 0 0)).setCell ⟨C,1,none⟩ (.slice none 0 0)).setCell ⟨C,2,none⟩ (.slice none 0 0)).setCell ⟨C,3,none⟩ (.slice none 0 0)=W:=⟨_,rfl⟩
     rw[hP_W7]at hq
     replace R_J:=A6 (hq.2.row R_J.out hJ_C)
     replace R_M:=A6 (hq.2.row R_M.out hM_C)
     replace HFR:=A6 (HFR.put hq.2 (.inl rfl))
     replace R_C:=A6 hq.1
     replace HBW:=A6 (HBW.trans (hq.2.bel C HC_C.out))
     clear hq;have HP_W7:=A6 hP_W7;clear hP_W7;obtain⟨l0',l1',l2',l3'⟩:=c4 R_C.out;have HB:Hid (Below w.heap.size w W7.drew):=by show Below _ _ _;rw[HCW.out];exact HBW.drew
     go_wp2_with fail;refine rG (fun v=>v.cell? ⟨J,0,none⟩=some (.string s)/\v.cell? ⟨J,1,none⟩=some (.int .i64 (A2:Int))/\v.cell? ⟨J,2,none⟩=some (.int .i64 241)/\v.cell? ⟨J,3,none⟩=some (.int .i64 (A1:Int))) fun hJ=>?_;exact Si
   ·--{5
    obtain⟨at_,hat,hdd⟩:=HSUM.1 he;subst hat;have HD:=A6 hdd;have q2:(e2==0)=false:=beq_eq_false_iff_ne.2 he;clear hdd HSUM he;obtain⟨cJ0,cJ1,cJ2,cJ3⟩:=c4 R_J.out;refine rG (fun v=>v.cell? ⟨J,0,none⟩=some (.string s)/\v.cell? ⟨J,1,none⟩=some (.int .i64 (A2:Int))/\v.cell? ⟨J,2,none⟩=some (.int .i64 e2)/\v.cell? ⟨J,3,none⟩=some (.int .i64 (at_:Int))) fun hJ=>?_;refine wpAnyH_take (i:=0) (v:=?_) A8 kR kR kR A9 (Or.inl ⟨rF,?_⟩) Aa ?_
    rotate_left 1
    ·(intro wS hSw;(try dsimp only at hSw);go_simp;try(with_reducible rfl))
    try simp only[Act.put,List.setIfInBounds_toArray,List.set_cons_zero,List.set_cons_succ]
    refine wpAnyH_take (i:=1) (v:=?_) A8 kR kR kR A9 (Or.inl ⟨rF,?_⟩) Aa ?_
    rotate_left 1
    ·(intro wS hSw;(try dsimp only at hSw);go_simp;try(with_reducible rfl))
    try simp only[Act.put,List.setIfInBounds_toArray,List.set_cons_zero,List.set_cons_succ]
    refine wpAnyH_take (i:=2) (v:=?_) A8 kR kR kR A9 (Or.inl ⟨rF,?_⟩) Aa ?_
    rotate_left 1
    ·(intro wS hSw;(try dsimp only at hSw);go_simp;try(with_reducible rfl))
    try simp only[Act.put,List.setIfInBounds_toArray,List.set_cons_zero,List.set_cons_succ]
    refine wpAnyH_take (i:=3) (v:=?_) A8 kR kR kR A9 (Or.inl ⟨rF,?_⟩) Aa ?_
    rotate_left 1
    ·(intro wS hSw;(try dsimp only at hSw);go_simp;try(with_reducible rfl))
    try simp only[Act.put,List.setIfInBounds_toArray,List.set_cons_zero,List.set_cons_succ]
    refine wpAnyH_take (i:=4) (v:=undef) A8 kR kR kR A9 (Or.inr ⟨rF,rfl⟩) Aa ?_;try simp only[Act.put,List.setIfInBounds_toArray,List.set_cons_zero,List.set_cons_succ]
    refine wpAnyH_take (i:=5) (v:=undef) A8 kR kR kR A9 (Or.inr ⟨rF,rfl⟩) Aa ?_;try simp only[Act.put,List.setIfInBounds_toArray,List.set_cons_zero,List.set_cons_succ]
    refine wpAnyH_take (i:=6) (v:=undef) A8 kR kR kR A9 (Or.inr ⟨rF,rfl⟩) Aa ?_;try simp only[Act.put,List.setIfInBounds_toArray,List.set_cons_zero,List.set_cons_succ]
    refine wpAnyH_take (i:=7) (v:=undef) A8 kR kR kR A9 (Or.inr ⟨rF,rfl⟩) Aa ?_;try simp only[Act.put,List.setIfInBounds_toArray,List.set_cons_zero,List.set_cons_succ]
    refine wpAnyH_take (i:=8) (v:=undef) A8 kR kR kR A9 (Or.inr ⟨rF,rfl⟩) Aa ?_;try simp only[Act.put,List.setIfInBounds_toArray,List.set_cons_zero,List.set_cons_succ]
    refine wpAnyH_take (i:=9) (v:=undef) A8 kR kR kR A9 (Or.inr ⟨rF,rfl⟩) Aa ?_;try simp only[Act.put,List.setIfInBounds_toArray,List.set_cons_zero,List.set_cons_succ]
    refine wpAnyH_take (i:=10) (v:=undef) A8 kR kR kR A9 (Or.inr ⟨rF,rfl⟩) Aa ?_;try simp only[Act.put,List.setIfInBounds_toArray,List.set_cons_zero,List.set_cons_succ]
    refine wpAnyH_take (i:=11) (v:=?_) A8 kR kR kR A9 (Or.inl ⟨rF,?_⟩) Aa ?_
    rotate_left 1
    ·(intro wS hSw;(try dsimp only at hSw);go_simp;try(with_reducible rfl))
    try simp only[Act.put,List.setIfInBounds_toArray,List.set_cons_zero,List.set_cons_succ]
    refine wpAnyH_done kR ?_ _;obtain⟨V1,hD_V1⟩:∃W,W5.drew=W:=⟨_,rfl⟩
    replace R_C:=A6 (show V1.rowIs C _ _ _ from hD_V1▸R_C.drew)
    replace R_J:=A6 (show V1.rowIs J _ _ _ from hD_V1▸R_J.drew)
    replace R_M:=A6 (show V1.rowIs M _ _ _ from hD_V1▸R_M.drew)
    replace HBW:=A6 (show Below C w V1 from hD_V1▸HBW.drew)
    replace HFR:=A6 (show Cb _ _ _ _ V1 from hD_V1▸(⟨HFR.size,HFR.blk⟩:Cb _ _ _ _ W5.drew))
    try rw[hD_V1]
    clear hD_V1;clear cJ0 cJ1 cJ2 cJ3;obtain⟨cJ0,cJ1,cJ2,cJ3⟩:=c4 R_J.out;obtain⟨cC0,cC1,cC2,cC3⟩:=c4 R_C.out;obtain⟨zC0,zC1,zC2,zC3⟩:=z4 R_C.out;have hq:=AI R_C.out (.slice none 0 0) (.slice none 0 0) (.slice none 0 0) (.slice none 0 0);obtain⟨W6,hP_W6⟩:∃W,(((V1.setCell ⟨C,0,none⟩ (.slice none 0 0)).setCell ⟨C,1,none⟩ (.slice none 0 0)).setCell ⟨C,2,none⟩ (.slice none 0 0)).setCell ⟨C,3,none⟩ (.slice none 0 0)=W:=⟨_,rfl⟩
    rw[hP_W6]at hq
    replace R_J:=A6 (hq.2.row R_J.out hJ_C)
    replace R_M:=A6 (hq.2.row R_M.out hM_C)
    replace HFR:=A6 (HFR.put hq.2 (.inl rfl))
    replace R_C:=A6 hq.1
    replace HBW:=A6 (HBW.trans (hq.2.bel C HC_C.out))
    clear hq;have HP_W6:=A6 hP_W6;clear hP_W6;obtain⟨l0',l1',l2',l3'⟩:=c4 R_C.out;have HB:Hid (Below w.heap.size w W6.drew):=by show Below _ _ _;rw[HCW.out];exact HBW.drew
    go_wp2_with fail;refine rG (fun v=>v.cell? ⟨J,0,none⟩=some (.string s)/\v.cell? ⟨J,1,none⟩=some (.int .i64 (A2:Int))/\v.cell? ⟨J,2,none⟩=some (.int .i64 e2)/\v.cell? ⟨J,3,none⟩=some (.int .i64 (at_:Int))) fun hJ=>?_;refine wpAnyH_take (i:=0) (v:=?_) A8 kR kR kR A9 (Or.inl ⟨rF,?_⟩) Aa ?_
    rotate_left 1
    ·(intro wS hSw;(try dsimp only at hSw);go_simp;try(with_reducible rfl))
    try simp only[Act.put,List.setIfInBounds_toArray,List.set_cons_zero,List.set_cons_succ]
    refine wpAnyH_take (i:=1) (v:=?_) A8 kR kR kR A9 (Or.inl ⟨rF,?_⟩) Aa ?_
    rotate_left 1
    ·(intro wS hSw;(try dsimp only at hSw);go_simp;try(with_reducible rfl))
    try simp only[Act.put,List.setIfInBounds_toArray,List.set_cons_zero,List.set_cons_succ]
    refine wpAnyH_take (i:=2) (v:=?_) A8 kR kR kR A9 (Or.inl ⟨rF,?_⟩) Aa ?_
    rotate_left 1
    ·(intro wS hSw;(try dsimp only at hSw);go_simp;try(with_reducible rfl))
    try simp only[Act.put,List.setIfInBounds_toArray,List.set_cons_zero,List.set_cons_succ]
    refine wpAnyH_take (i:=3) (v:=?_) A8 kR kR kR A9 (Or.inl ⟨rF,?_⟩) Aa ?_
    rotate_left 1
    ·(intro wS hSw;(try dsimp only at hSw);go_simp;try(with_reducible rfl))
    try simp only[Act.put,List.setIfInBounds_toArray,List.set_cons_zero,List.set_cons_succ]
    refine wpAnyH_take (i:=4) (v:=?_) A8 kR kR kR A9 (Or.inl ⟨rF,?_⟩) Aa ?_
    rotate_left 1
    ·(intro wS hSw;(try dsimp only at hSw);go_simp;try(with_reducible rfl))
    try simp only[Act.put,List.setIfInBounds_toArray,List.set_cons_zero,List.set_cons_succ]
    clear hJ;refine AP 5 fun K hK=>?_;go_simp;refine AW hK fun hJ=>?_;clear hK K;refine wpAnyH_take (i:=6) (v:=?_) A8 kR kR kR A9 (Or.inl ⟨rF,?_⟩) Aa ?_
    rotate_left 1
    ·(intro wS hSw;(try dsimp only at hSw);go_simp;try(with_reducible rfl))
    try simp only[Act.put,List.setIfInBounds_toArray,List.set_cons_zero,List.set_cons_succ]
    refine wpAnyH_take (i:=7) (v:=?_) A8 kR kR kR A9 (Or.inl ⟨rF,?_⟩) Aa ?_
    rotate_left 1
    ·(intro wS hSw;(try dsimp only at hSw);go_simp;try(with_reducible rfl))
    try simp only[Act.put,List.setIfInBounds_toArray,List.set_cons_zero,List.set_cons_succ]
    refine wpAnyH_done kR ?_ _;try rw[HP_W6.out]
    go_wp2_with fail;try rw[HP_W6.out]
    clear cJ0 cJ1 cJ2 cJ3 cC0 cC1 cC2 cC3 zC0 zC1 zC2 zC3;exact St
 ·--{8
  rw[decide_eq_false hq]at hcmp;have HD:Hid (C8 (Ab s)=.error (240,0)):=by
   show _=_;unfold C8;rw[if_pos (by rw[HLN.out,HK4.out];exact hq)]
  clear hq;exact Sh
def Nr(B:Nat)(w:World)(c:Cd)(er:Int)(at_:Nat)(e:Ending)(w':World):Prop:=
 ∃p0 q0 p1 q1 p2 q2 p3 q3,e=.returned (.tuple #[.agg #[.slice p0 c.sign.length q0,.slice p1 c.regs.length q1,.slice p2 c.slots.length q2,.slice p3 c.list.length q3],.int .i64 er,.int .i64 (at_:Int)])/\Ef w' (.slice p0 c.sign.length q0) (.slice p1 c.regs.length q1) (.slice p2 c.slots.length q2) (.slice p3 c.list.length q3) c/\Below B w w'
theorem Qj(s:List Nat)(hb:∀b∈s,b<256):∃ (c:Cd) (er:Int) (at_:Nat),BF c/\∀ (w:World) (e:Ending) (w':World),I8 w (C8 s) e w'->Nr w.heap.size w c er at_ e w':=by
 cases hq:C8 s with
 |error z=>
  obtain⟨er,at_⟩:=z;exact⟨Kb,er,at_,Fv E1,fun w e w' h=>⟨none,0,none,0,none,0,none,0,h.1,LA _,h.2⟩⟩
 |ok c=>
  obtain⟨-,hk,-⟩:=Pa hb hq;exact⟨c,0,0,Fv hk,fun w e w' ⟨p0,q0,p1,q1,p2,q2,p3,q3,h1,h2,h3⟩=>⟨p0,q0,p1,q1,p2,q2,p3,q3,h1,Gq h2,h3⟩⟩
theorem F7(s:ByteArray)(hs:s.size<=140737488351232)(b:ByteArray)(hb0:b.size<=140737488351232)(w:World):
 Calls prog 5 #[.string s,.string b] w fun e w'=>e=.returned (.bool true)/\Below w.heap.size w w':=by
 obtain⟨S,hS⟩:∃S:ByteArray,(⟨#[108,116,104,49]⟩:ByteArray)++s=S:=⟨_,rfl⟩
 have hSe:S.size=4+s.size:=by
  rw[<-Ah,<-hS,GY,List.length_append,Ah s];rfl
 have hSz:S.size<=140737488354000:=oM;have KS:=A6 (fun v=>IT S hSz v);obtain⟨U,hU⟩:=gA (F5 (Ab S++B0 8 (EV (Ab S))))
 have hUe:U.size=S.size+8:=by rw[<-hU,Cv,List.length_append,AZ,Ah]
 rw[hU]at KS;obtain⟨T,hT⟩:=gA (U++b)
 have hTe:T.size=U.size+b.size:=by rw[<-Ah,<-hT,GY,List.length_append,Ah,Ah]
 have hTz:T.size<=281474976710656:=oM;have z1:¬9223372036854775807<(⟨#[108,116,104,49]⟩:ByteArray).size+s.size:=by
  show¬9223372036854775807<4+s.size;omega
 have z2:¬9223372036854775807<U.size+b.size:=oM;obtain⟨c,er,at_,hk,hdo⟩:=Qj (Ab T) (BP T);have KD:Hid (∀v,Calls prog 12 #[.string T] v (Nr v.heap.size v c er at_)):=fun v=>(E3 T hTz v).mono (hdo v);have KR:Hid (∀v,Calls prog 13 #[.string T] v (Nr v.heap.size v c er at_)):=fun v=>(Ht T v hTz).mono (hdo v);unfold Nr at KD KR;have KW:=A6 (fun v=>I3 v);have HK:=A6 hk;clear hdo hk hs hb0 hSe hSz hU hUe hTe hTz;go_enter func5,ntmps5;go_upto_region 2 with(go_at_call 14;(with_reducible refine(KS.out _).mono ?_);rintro e9 w2 ⟨rfl,hb2⟩;have HB0:=A6 hb2;clear hb2)
 try rw[hS]
 try rw[hT]
 have HSZ:=A6 HB0.out.size;go_upto_region 3 with(go_at_call 12;(with_reducible refine(KD.out _).mono ?_);rintro r9 w3 ⟨p0,q0,p1,q1,p2,q2,p3,q3,rfl,hv,hb⟩;have HV1:=A6 hv;have HB1:=A6 hb;obtain⟨X,hX⟩:∃N,w3.heap.size=N:=⟨_,rfl⟩;obtain⟨V0,hV0⟩:∃V,w3.alloc (.cells #[.slice none 0 0,.slice none 0 0,.slice none 0 0,.slice none 0 0] 27)=V:=⟨_,rfl⟩;have rX:V0.rowIs X 27 4 (f4 (.slice none 0 0) (.slice none 0 0) (.slice none 0 0) (.slice none 0 0)):=(by rw[<-hV0,<-hX];exact Br _ _ _ _ _ _);obtain⟨cX0,cX1,cX2,cX3⟩:=c4 rX;obtain⟨zX0,zX1,zX2,zX3⟩:=z4 rX;have HV0:=A6 (BI hV0 (gF _));have HX1:=A6 (Nat.le_of_eq hX);have RX:=A6 rX;clear hv hb rX)
 try rw[hX]
 try rw[hV0]
 have hq:=AI RX.out (.slice p0 c.sign.length q0) (.slice p1 c.regs.length q1) (.slice p2 c.slots.length q2) (.slice p3 c.list.length q3);obtain⟨V1,hV1⟩:∃V,(((V0.setCell ⟨X,0,none⟩ (.slice p0 c.sign.length q0)).setCell ⟨X,1,none⟩ (.slice p1 c.regs.length q1)).setCell ⟨X,2,none⟩ (.slice p2 c.slots.length q2)).setCell ⟨X,3,none⟩ (.slice p3 c.list.length q3)=V:=⟨_,rfl⟩
 rw[hV1]at hq;try rw[hV1]
 have RX1:=A6 hq.1;have HV1:=A6 (HV1.out.below (HV0.out.trans (hq.2.bel w3.heap.size HX1.out)));have HBV:=A6 ((HB0.out.trans (HB1.out.mono HSZ.out)).trans ((HV0.out.trans (hq.2.bel w3.heap.size HX1.out)).mono (gH HSZ.out HB1.out.size)));clear hq hX hV0 hV1 cX0 cX1 cX2 cX3 zX0 zX1 zX2 zX3;go_upto_region 4 with(go_at_call 13;(with_reducible refine(KR.out _).mono ?_);rintro r9 w4 ⟨m0,n0,m1,n1,m2,n2,m3,n3,rfl,hv,hb⟩;have HV2b:=A6 hv;have HB2:=A6 hb;obtain⟨Y,hY⟩:∃N,w4.heap.size=N:=⟨_,rfl⟩;obtain⟨V2,hV2⟩:∃V,w4.alloc (.cells #[.slice none 0 0,.slice none 0 0,.slice none 0 0,.slice none 0 0] 27)=V:=⟨_,rfl⟩;have rY:V2.rowIs Y 27 4 (f4 (.slice none 0 0) (.slice none 0 0) (.slice none 0 0) (.slice none 0 0)):=(by rw[<-hV2,<-hY];exact Br _ _ _ _ _ _);obtain⟨cY0,cY1,cY2,cY3⟩:=c4 rY;obtain⟨zY0,zY1,zY2,zY3⟩:=z4 rY;have HV2:=A6 (BI hV2 (gF _));have HX2:=A6 (Nat.le_of_eq hY);have RY:=A6 rY;have RX4:=A6 (RX1.out.of_block (hb.block _ RX1.out.lt));have hXY:X≠Y:=(by have:=RX4.out.lt;omega);clear hv hb rY)
 try rw[hY]
 try rw[hV2]
 have hq:=AI RY.out (.slice m0 c.sign.length n0) (.slice m1 c.regs.length n1) (.slice m2 c.slots.length n2) (.slice m3 c.list.length n3);obtain⟨V3,hV3⟩:∃V,(((V2.setCell ⟨Y,0,none⟩ (.slice m0 c.sign.length n0)).setCell ⟨Y,1,none⟩ (.slice m1 c.regs.length n1)).setCell ⟨Y,2,none⟩ (.slice m2 c.slots.length n2)).setCell ⟨Y,3,none⟩ (.slice m3 c.list.length n3)=V:=⟨_,rfl⟩
 rw[hV3]at hq;try rw[hV3]
 have RY3:=hq.1;have RX3:=hq.2.row (Ai RX4.out hV2) hXY;have hb34:=HV2.out.trans (hq.2.bel w4.heap.size HX2.out);have HVA:=HV1.out.below (HB2.out.trans (hb34.mono HB2.out.size));have HVB:=HV2b.out.below hb34;have HB3:=A6 ((HBV.out.trans (HB2.out.mono HBV.out.size)).trans (hb34.mono (gH HBV.out.size HB2.out.size)));obtain⟨a0,a1,a2,a3⟩:=c4 RX3;obtain⟨b0,b1,b2,b3⟩:=c4 RY3;have KQ5:=A6 (FD _ _ _ _ _ _ _ _ c c HK.out HK.out V3 HVA HVB);rw[Hc]at KQ5;clear hq hY hV2 hV3 cY0 cY1 cY2 cY3 zY0 zY1 zY2 zY3 RY3 RX3 hb34 HVA HVB;go_wp2_with(first|(go_at_call 10;(with_reducible refine KQ5.out.mono ?_);rintro e9 w6 ⟨rfl,hb6⟩;have HB6:=A6 (HB3.out.trans (hb6.mono HB3.out.size));clear hb6)|(go_at_call 11;(with_reducible refine(KW.out _).mono ?_);rintro e9 wz ⟨rfl,hbz⟩;have HBz:=A6 (HB6.out.trans (hbz.mono HB6.out.size));clear hbz));refine bodyPost_ret (by simp[results,results5,go_sem, *];try rfl) rfl ?_;exact⟨by first|rfl|simp,HBz.out⟩
end Go.Proofs.YtnlgkkbmbijndaaGreat
