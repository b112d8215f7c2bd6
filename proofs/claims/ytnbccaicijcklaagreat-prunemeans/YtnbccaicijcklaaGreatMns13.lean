import Derived.Test.YtnbccaicijcklaaGreatMns1
import Derived.Test.YtnbccaicijcklaaGreatMns12
import Derived.Test.YtnbccaicijcklaaGreatMns11
import Derived.Deep.CutBlock
import Derived.Deep.DeepCutAuto
import Derived.Test.YtnbccaicijcklaaGreatMns8
namespace Go.Proofs.YtnbccaicijcklaaGreat
open Go.RowKit Go.Proofs.Tryz
set_option linter.all false
set_option maxRecDepth 100000
set_option maxHeartbeats 16000000
def f5(a b c d e:Value)(j:Nat):Value:=if j=0 then a else if j=1 then b else if j=2 then c else if j=3 then d else e
theorem FE(a b c d e:Value):∀i,i<(#[a,b,c,d,e]:Array Value).size->(#[a,b,c,d,e]:Array Value)[i]? =some (f5 a b c d e i):=by
 intro i hi;have hi':i<5:=hi;obtain rfl|rfl|rfl|rfl|rfl:i=0\/i=1\/i=2\/i=3\/i=4:=oM
 all_goals rfl
structure NW(w:World)(v0 v1 v2 v3:Value)(R:Nat)(sv:Value)(X:List Cl)(v:World):Prop where
 cx:CX w v0 v1 v2 v3 v
 rb:v.rowIs (w.heap.size+1) 43 5 (f5 (.slice none 0 0) (.slice none 0 0) (.slice none 0 0) (.slice none 0 0) (.slice none 0 0))
 rr:v.rowIs R 43 5 (f5 v0 v1 v2 v3 sv)
 cs:Jt (R+1) v sv X
 hR:w.heap.size+1<R
 ap:∀x∈X,∀b o s,x.p=some ⟨b,o,s⟩->R<b
theorem NW.next{w:World}{v0 v1 v2 v3:Value}{R:Nat}{sv:Value}{X:List Cl}{v v':World}(h:NW w v0 v1 v2 v3 R sv X v)(k:Below v.heap.size v v'):NW w v0 v1 v2 v3 R sv X v':=
 ⟨h.cx.next k,h.rb.of_block (k.block _ h.rb.lt),h.rr.of_block (k.block _ h.rr.lt),h.cs.below k,h.hR,h.ap⟩
theorem NW.put{w:World}{v0 v1 v2 v3:Value}{R:Nat}{sv:Value}{X:List Cl}{v w':World}{g n c':Nat}{Y:List Cl}(h:NW w v0 v1 v2 v3 R sv X v)(hb:Below (R+1) v w')(hc:Jt (R+1) w' (.slice (some ⟨g,0,none⟩) n c') Y)(hap:∀x∈Y,∀b o s,x.p=some ⟨b,o,s⟩->R<b):
 w'.cell? ⟨R,4,none⟩=some sv/\w'.frozen? ⟨R,4,none⟩=false/\NW w v0 v1 v2 v3 R (.slice (some ⟨g,0,none⟩) n c') Y (w'.setCell ⟨R,4,none⟩ (.slice (some ⟨g,0,none⟩) n c')):=by
 have hR:=h.hR;have hr':w'.rowIs R 43 5 (f5 v0 v1 v2 v3 sv):=h.rr.of_block (hb.block R (Nat.lt_succ_self _));have ho:∀b,b≠R->(w'.setCell ⟨R,4,none⟩ (.slice (some ⟨g,0,none⟩) n c')).heap[b]? =w'.heap[b]? :=fun b hne=>gE hne;have hgR:g≠R:=fun e=>by have:=(hc.own.lt g rfl).1;omega
 refine⟨hr'.cell (i:=4) dE,hr'.frozen 4,(h.cx.on (hb.mono oM)).on ((Below.refl _ _).setCell (by show w.heap.size+1<=R;omega) _),(h.rb.of_block (hb.block _ oM)).setOther (by show w.heap.size+1≠R;omega) _,(hr'.set 4 _).congr (fun j hj=>?_),⟨Ac hc.own (fun b hbb=>ho b Zhl),fun x hx=>?_⟩,h.hR,hap⟩
 .have hj':j<5:=hj;obtain rfl|rfl|rfl|rfl|rfl:j=0\/j=1\/j=2\/j=3\/j=4:=oM
  all_goals simp[f5]
 .rcases hc.nums x hx with e|⟨b,o,e,hn,h1⟩
  .exact .inl e
  .refine .inr ⟨b,o,e,hn,fun j hj=>?_⟩;have hne:b≠R:=by have:=hap x hx b o none e;omega
   rw[gC (ho b hne)];exact h1 j hj
theorem Jt.off{B:Nat}{v v':World}{sv:Value}{X:List Cl}{Z R:Nat}(h:Jt B v sv X)(hZ:Z<R)(hB:R<B)(ap:∀x∈X,∀b o s,x.p=some ⟨b,o,s⟩->R<b)(k:∀b,b≠Z->v'.heap[b]? =v.heap[b]?):Jt B v' sv X:=by
 refine⟨Ac h.own (fun b hb=>k b (by have:=(h.own.lt b hb).1;omega)),fun x hx=>?_⟩;rcases h.nums x hx with e|⟨b,o,e,hn,h1⟩
 .exact .inl e
 .have:=ap x hx b o none e;exact .inr ⟨b,o,e,hn,fun j hj=>by rw[gC (k b oM)];exact h1 j hj⟩
theorem J3(v0 v1 v2 v3:Value)(c:Cd)(hk:Ba c)(w:World)(hv:CD w v0 v1 v2 v3 c)(hc:(Ai c).1=0):
 Calls prog 9 #[.agg #[v0,v1,v2,v3]] w fun e w'=>∃p q X,e=.returned (.tuple #[.agg #[v0,v1,v2,v3,.slice p c.slots.length q],.int .i64 0])/\X.map (·.h)=BC c/\Yg w' (.slice p c.slots.length q) X/\Below w.heap.size w w'/\(∀b o s,p=some ⟨b,o,s⟩->w.heap.size<=b)/\∀x∈X,∀b o s,x.p=some ⟨b,o,s⟩->w.heap.size<=b:=by
 have hg:=(Ez hc).1;have KC:=Hr v0 v1 v2 v3 c hk;rw[hc]at KC;obtain⟨F,hF⟩:∃E,(Ai c).2=E:=⟨_,rfl⟩
 rw[hF]at KC;have HKC:Hid (∀v,Below w.heap.size w v->Calls prog 19 #[.agg #[v0,v1,v2,v3]] v fun e w'=>e=.returned (.tuple #[.int .i64 0,.int .i64 F])/\Below v.heap.size v w'):=fun v hb=>KC v (hv.below hb);have HKF:Hid (∀s∈c.slots,∀v,Below w.heap.size w v->Calls prog 24 #[.agg #[v0,v1,v2,v3],.agg #[.int .i64 s.ty.kind,.int .i64 s.ty.par,.bool s.keep,.int .u32 s.bits,.int .i64 s.int_]] v fun e w'=>∃p q,e=.returned (.agg #[.slice p (Bf c s).pats.length q,.int .i64 (Bf c s).whole])/\C6 w' p (Bf c s).pats/\Below v.heap.size v w'/\∀b o s,p=some ⟨b,o,s⟩->v.heap.size<=b):=fun s hs v hb=>Kk v0 v1 v2 v3 c hg s (hg.slots s hs) ⟨(hk.sbits s hs).1,(hk.sbits s hs).2⟩ v (hv.below hb);obtain⟨p0,q0,rfl,-⟩:=id hv.sign;obtain⟨p1,q1,rfl,-⟩:=id hv.regs;obtain⟨p2,q2,rfl,-⟩:=id hv.slots;obtain⟨p3,q3,rfl,-⟩:=id hv.list;have HSL:Hid (AV 5 Jf w (.slice p2 c.slots.length q2) c.slots):=hv.slots;have hn2:=hg.slotsL;obtain⟨n2,hnn⟩:∃n,c.slots.length=n:=⟨_,rfl⟩
 have HN2:Hid (c.slots.length=n2):=hnn;rw[hnn]at hn2 HKC HKF HSL |-;obtain⟨n0,hn0⟩:∃n,c.sign.length=n:=⟨_,rfl⟩
 obtain⟨n1,hn1⟩:∃n,c.regs.length=n:=⟨_,rfl⟩
 obtain⟨n3,hn3⟩:∃n,c.list.length=n:=⟨_,rfl⟩
 rw[hn0,hn1,hn3]at HKC HKF |-;have HX0:Hid (CX w (.slice p0 n0 q0) (.slice p1 n1 q1) (.slice p2 n2 q2) (.slice p3 n3 q3) ((w.alloc (.cells #[.slice p0 n0 q0,.slice p1 n1 q1,.slice p2 n2 q2,.slice p3 n3 q3] 27)).alloc (.cells #[.slice none 0 0,.slice none 0 0,.slice none 0 0,.slice none 0 0,.slice none 0 0] 43))):=(CX.start w (.slice p0 n0 q0) (.slice p1 n1 q1) _ (.slice p3 n3 q3)).next (A0 _ _);have HRB0:Hid (((w.alloc (.cells #[.slice p0 n0 q0,.slice p1 n1 q1,.slice p2 n2 q2,.slice p3 n3 q3] 27)).alloc (.cells #[.slice none 0 0,.slice none 0 0,.slice none 0 0,.slice none 0 0,.slice none 0 0] 43)).rowIs (w.heap.size+1) 43 5 (f5 (.slice none 0 0) (.slice none 0 0) (.slice none 0 0) (.slice none 0 0) (.slice none 0 0))):=by
  have h9:=World.rowIs_alloc (w.alloc (.cells #[(.slice p0 n0 q0),(.slice p1 n1 q1),.slice p2 n2 q2,(.slice p3 n3 q3)] 27)) #[.slice none 0 0,.slice none 0 0,.slice none 0 0,.slice none 0 0,.slice none 0 0] 43 _ (FE _ _ _ _ _);rw[show(w.alloc (.cells #[(.slice p0 n0 q0),(.slice p1 n1 q1),.slice p2 n2 q2,(.slice p3 n3 q3)] 27)).heap.size=w.heap.size+1 by simp]at h9;exact h9
 obtain⟨b1,b2,c0,c1,c2,c3⟩:=HX0.out;clear KC hF hc hv hk hnn hn0 hn1 hn3;go_enter func9,ntmps9;go_wp2_with(go_at_call 19;(with_reducible refine(HKC.out _ HX0.out.bel).mono ?_);rintro e w1 ⟨rfl,hb1⟩;have HNW:Hid (NW w (.slice p0 n0 q0) (.slice p1 n1 q1) (.slice p2 n2 q2) (.slice p3 n3 q3) w1.heap.size (.slice none 0 0) [] (w1.alloc (.cells #[(.slice p0 n0 q0),(.slice p1 n1 q1),.slice p2 n2 q2,(.slice p3 n3 q3),.slice none 0 0] 43))):=(by have hcx:=HX0.out.next hb1;have hrb:=HRB0.out.of_block (hb1.block _ HRB0.out.lt);exact⟨hcx.next (A0 _ _),hrb.alloc _,World.rowIs_alloc w1 _ _ _ (FE _ _ _ _ _),Jt.nil _ _,hrb.lt,fun x hx=>by cases hx⟩);obtain⟨-,-,c0,c1,c2,c3⟩:=HX0.out.next hb1;have a0:=(fun o=>kc (A0 w1 o) c0);have a1:=(fun o=>kc (A0 w1 o) c1);have a2:=(fun o=>kc (A0 w1 o) c2);have a3:=(fun o=>kc (A0 w1 o) c3);clear hb1);obtain⟨R,hR⟩:=gA (w1.heap.size)
 obtain⟨W1,hW1⟩:∃W,w1.alloc (.cells #[(.slice p0 n0 q0),(.slice p1 n1 q1),.slice p2 n2 q2,(.slice p3 n3 q3),.slice none 0 0] 43)=W:=⟨_,rfl⟩
 rw[hW1,hR]at HNW;try rw[hW1]
 try rw[hR]
 clear hW1 hR c0 c1 c2 c3 a0 a1 a2 a3 b1 b2 HRB0
 go_loopw [7] (fun iv wr=>∃ (j:Nat) (p:Option Addr) (q:Nat) (X:List Cl),j<=n2/\iv=.int .i64 (j:Int)/\Hid (NW w (.slice p0 n0 q0) (.slice p1 n1 q1) (.slice p2 n2 q2) (.slice p3 n3 q3) R (.slice p X.length q) X wr)/\Hid (X.map (·.h)=(BC c).take j)) (fun iv _=>n2-(intOf iv).toNat)
 case atStart=>exact⟨0,none,0,[],gI _,rfl,HNW.out,by show _=_;simp⟩
 case round=>
  obtain⟨j,p,q,X,hj,rfl,hnw,hmap⟩:=hrel;obtain⟨b1,b2,c0,c1,c2,c3⟩:=hnw.cx;have r4:wr.cell? ⟨R,4,none⟩=some (.slice p X.length q):=hnw.rr.cell (i:=4) dE;have hXl:X.length=j:=by
   have h5:=congrArg List.length hmap.out;rw[List.length_map,List.length_take,BC,List.length_map,HN2.out]at h5;omega
  clear HNW;by_cases hlt:j<n2
  .have hll:j<c.slots.length:=by rw[HN2.out];exact hlt
   obtain⟨lb,lo,rfl,hx⟩:=HSL.at hll;have KF1:=HKF.out c.slots[j] (gD hll);have HMN:Hid (∀h',h'=Bf c c.slots[j]->(X.map (·.h))++[h']=(BC c).take (j+1)):=fun h' e=>by
    rw[hmap.out,List.take_succ_eq_append_getElem (by rw[BC,List.length_map];exact hll),Mf _ hll,e]
   obtain⟨s9,hs9⟩:∃s,c.slots[j]=s:=⟨_,rfl⟩
   rw[hs9]at hx KF1 HMN;obtain⟨H9,hH9⟩:∃h,Bf c s9=h:=⟨_,rfl⟩
   rw[hH9]at KF1 HMN;obtain⟨⟨tk,tp⟩,kp,sb,si⟩:=s9;simp only at KF1;have y0:=kc b1 (hx.at 0 rfl);have y1:=kc b1 (hx.at 1 rfl);have y2:=kc b1 (hx.at 2 rfl);have y3:=kc b1 (hx.at 3 rfl);have y4:=kc b1 (hx.at 4 rfl);rw[Nat.add_zero]at y0;simp only[Jf]at hx;have HKF1:Hid _:=KF1;have HXW:Hid (Ar w lb (lo+j*5) (Jf ⟨⟨tk,tp⟩,kp,sb,si⟩)):=hx;obtain⟨N,hN⟩:=gA (X.length)
   have HNX:Hid (X.length=N):=hN;have hnw2:=hnw.out;rw[hN]at r4 hnw2;have HNW2:Hid _:=hnw2;try rw[hN]
   have i1:(0:Int)<=(j:Int):=oM;have i2:(j:Int)<(n2:Int):=oM;have wi:IntKind.i64.wrap ((j:Int)+1)=((j+1:Nat):Int):=by rw[IntKind.wrap_i64];omega
   have HXL:Hid (X.length=j):=hXl;clear KF1 hx hs9 hH9 hnw2 hN hmap hXl;go_wp2;refine rG (fun v=>v.cell? ⟨w.heap.size,0,none⟩=some (.slice p0 n0 q0)/\v.cell? ⟨w.heap.size,1,none⟩=some (.slice p1 n1 q1)/\v.cell? ⟨w.heap.size,2,none⟩=some (.slice (some ⟨lb,lo,none⟩) n2 q2)/\v.cell? ⟨w.heap.size,3,none⟩=some (.slice p3 n3 q3)/\v.cell? ⟨lb,lo+j*5,none⟩=some (.int .i64 tk)/\v.cell? ⟨lb,lo+j*5+1,none⟩=some (.int .i64 tp)/\v.cell? ⟨lb,lo+j*5+2,none⟩=some (.bool kp)/\v.cell? ⟨lb,lo+j*5+3,none⟩=some (.int .u32 sb)/\v.cell? ⟨lb,lo+j*5+4,none⟩=some (.int .i64 si)) fun hJ=>?_;refine Tf 0 2 3 4 5 6 ?_;refine Bo 7 ?_;clear hJ;refine wpAnyH_ready (rs:=[1,8]) kR sM ?_;refine DP 1 (fun K hK=>?_) ?_
   .go_simp;refine Aq hK fun hJ=>?_;clear hK K;clear hJ;refine Aw 8 fun K hK=>?_;go_simp;(go_at_call 24;(with_reducible refine(HKF1.out _ (bel b1 (A9 _))).mono ?_);rintro e w2 ⟨pf,qf,rfl,hnum,hb2,hfr⟩;have hb22:Below wr.heap.size wr w2:=bel (A9 _) hb2;have h22:=hnw.out.next hb22;obtain⟨g,c',w3,hrun,hb3,hcs3,hoth⟩:=h22.cs.push (Nat.succ_le_of_lt h22.rr.lt) (by have h5:=HXL.out;omega) ⟨pf,qf,H9⟩ (hnum.apart (fun b o s e e2=>by have h5:=hfr b o s e;have h6:=(hnw.out.cs.own.lt b e2).2;have h7:wr.drew.heap.size=wr.heap.size:=rfl;omega)) 41;have hap3:∀x∈X++[(⟨pf,qf,H9⟩:Cl)],∀b o s,x.p=some ⟨b,o,s⟩->R<b:=(by intro x hx b o s e;rcases List.mem_append.1 hx with h|h;exact hnw.out.ap x h b o s e;simp only[List.mem_singleton]at h;subst h;have h5:=hfr b o s e;have h6:=hnw.out.rr.lt;have h7:wr.drew.heap.size=wr.heap.size:=rfl;omega);obtain⟨k4,z4,hnw3⟩:=h22.put hb3 hcs3 hap3;rw[HNX.out]at hrun k4 hnw3;have HRUN:Hid _:=hrun;have HNW3:Hid (NW w (.slice p0 n0 q0) (.slice p1 n1 q1) (.slice (some ⟨lb,lo,none⟩) n2 q2) (.slice p3 n3 q3) R (.slice (some ⟨g,0,none⟩) (N+1) c') (X++[(⟨pf,qf,H9⟩:Cl)]) (w3.setCell ⟨R,4,none⟩ (.slice (some ⟨g,0,none⟩) (N+1) c'))):=hnw3;have hcx2:=h22.cx;have hcx3:=hcx2.on (hb3.mono (by have:=h22.hR;omega));obtain⟨b21,-,d0,d1,d2,d3⟩:=hcx2;obtain⟨b31,-,e0,e1,e2,e3⟩:=hcx3;have u4:w2.cell? ⟨R,4,none⟩=some (.slice p N q):=Zhf;have g0:=(fun o=>kc (A0 w2 o) d0);have g1:=(fun o=>kc (A0 w2 o) d1);have g2:=(fun o=>kc (A0 w2 o) d2);have g3:=(fun o=>kc (A0 w2 o) d3);have g4:=(fun o=>kc (A0 w2 o) u4);have m0:=kc b21 (HXW.out.at 0 rfl);have m1:=kc b21 (HXW.out.at 1 rfl);have m2:=kc b21 (HXW.out.at 2 rfl);have m3:=kc b21 (HXW.out.at 3 rfl);have m4:=kc b21 (HXW.out.at 4 rfl);rw[Nat.add_zero]at m0;have l0:=(fun o=>kc (A0 w2 o) m0);have l1:=(fun o=>kc (A0 w2 o) m1);have l2:=(fun o=>kc (A0 w2 o) m2);have l3:=(fun o=>kc (A0 w2 o) m3);have l4:=(fun o=>kc (A0 w2 o) m4);have t0:=kc b31 (HXW.out.at 0 rfl);have t1:=kc b31 (HXW.out.at 1 rfl);have t2:=kc b31 (HXW.out.at 2 rfl);have t3:=kc b31 (HXW.out.at 3 rfl);have t4:=kc b31 (HXW.out.at 4 rfl);rw[Nat.add_zero]at t0;obtain⟨b41,-,o0,o1,o2,o3⟩:=HNW3.out.cx;have x0:(w3.setCell ⟨R,4,none⟩ (.slice (some ⟨g,0,none⟩) (N+1) c')).cell? ⟨lb,lo+j*5,none⟩=some (.int .i64 tk):=kc b41 (HXW.out.at 0 rfl);have x1:=kc b41 (HXW.out.at 1 rfl);have x2:=kc b41 (HXW.out.at 2 rfl);have x3:=kc b41 (HXW.out.at 3 rfl);have x4:=kc b41 (HXW.out.at 4 rfl);clear b41 hnum hb2 hfr hb22 h22 hrun hb3 hcs3 hoth hap3 hnw3 b21 b31);try(go_wp2_with fail)
    refine Aq hK fun hJ=>?_;clear hK K;clear hJ;refine Aw 9 fun K hK=>?_;exact Zbh
   refine DP 8 (fun K hK=>?_) AllReadyH.nil;go_simp;(go_at_call 24;(with_reducible refine(HKF1.out _ (bel b1 (A9 _))).mono ?_);rintro e w2 ⟨pf,qf,rfl,hnum,hb2,hfr⟩;have hb22:Below wr.heap.size wr w2:=bel (A9 _) hb2;have h22:=hnw.out.next hb22;obtain⟨g,c',w3,hrun,hb3,hcs3,hoth⟩:=h22.cs.push (Nat.succ_le_of_lt h22.rr.lt) (by have h5:=HXL.out;omega) ⟨pf,qf,H9⟩ (hnum.apart (fun b o s e e2=>by have h5:=hfr b o s e;have h6:=(hnw.out.cs.own.lt b e2).2;have h7:wr.drew.heap.size=wr.heap.size:=rfl;omega)) 41;have hap3:∀x∈X++[(⟨pf,qf,H9⟩:Cl)],∀b o s,x.p=some ⟨b,o,s⟩->R<b:=(by intro x hx b o s e;rcases List.mem_append.1 hx with h|h;exact hnw.out.ap x h b o s e;simp only[List.mem_singleton]at h;subst h;have h5:=hfr b o s e;have h6:=hnw.out.rr.lt;have h7:wr.drew.heap.size=wr.heap.size:=rfl;omega);obtain⟨k4,z4,hnw3⟩:=h22.put hb3 hcs3 hap3;rw[HNX.out]at hrun k4 hnw3;have HRUN:Hid _:=hrun;have HNW3:Hid (NW w (.slice p0 n0 q0) (.slice p1 n1 q1) (.slice (some ⟨lb,lo,none⟩) n2 q2) (.slice p3 n3 q3) R (.slice (some ⟨g,0,none⟩) (N+1) c') (X++[(⟨pf,qf,H9⟩:Cl)]) (w3.setCell ⟨R,4,none⟩ (.slice (some ⟨g,0,none⟩) (N+1) c'))):=hnw3;have hcx2:=h22.cx;have hcx3:=hcx2.on (hb3.mono (by have:=h22.hR;omega));obtain⟨b21,-,d0,d1,d2,d3⟩:=hcx2;obtain⟨b31,-,e0,e1,e2,e3⟩:=hcx3;have u4:w2.cell? ⟨R,4,none⟩=some (.slice p N q):=Zhf;have g0:=(fun o=>kc (A0 w2 o) d0);have g1:=(fun o=>kc (A0 w2 o) d1);have g2:=(fun o=>kc (A0 w2 o) d2);have g3:=(fun o=>kc (A0 w2 o) d3);have g4:=(fun o=>kc (A0 w2 o) u4);have m0:=kc b21 (HXW.out.at 0 rfl);have m1:=kc b21 (HXW.out.at 1 rfl);have m2:=kc b21 (HXW.out.at 2 rfl);have m3:=kc b21 (HXW.out.at 3 rfl);have m4:=kc b21 (HXW.out.at 4 rfl);rw[Nat.add_zero]at m0;have l0:=(fun o=>kc (A0 w2 o) m0);have l1:=(fun o=>kc (A0 w2 o) m1);have l2:=(fun o=>kc (A0 w2 o) m2);have l3:=(fun o=>kc (A0 w2 o) m3);have l4:=(fun o=>kc (A0 w2 o) m4);have t0:=kc b31 (HXW.out.at 0 rfl);have t1:=kc b31 (HXW.out.at 1 rfl);have t2:=kc b31 (HXW.out.at 2 rfl);have t3:=kc b31 (HXW.out.at 3 rfl);have t4:=kc b31 (HXW.out.at 4 rfl);rw[Nat.add_zero]at t0;obtain⟨b41,-,o0,o1,o2,o3⟩:=HNW3.out.cx;have x0:(w3.setCell ⟨R,4,none⟩ (.slice (some ⟨g,0,none⟩) (N+1) c')).cell? ⟨lb,lo+j*5,none⟩=some (.int .i64 tk):=kc b41 (HXW.out.at 0 rfl);have x1:=kc b41 (HXW.out.at 1 rfl);have x2:=kc b41 (HXW.out.at 2 rfl);have x3:=kc b41 (HXW.out.at 3 rfl);have x4:=kc b41 (HXW.out.at 4 rfl);clear b41 hnum hb2 hfr hb22 h22 hrun hb3 hcs3 hoth hap3 hnw3 b21 b31);try(go_wp2_with fail)
   refine Aq hK fun hJ=>?_;clear hK K;clear hJ;refine wpAnyH_ready (rs:=[1,9]) kR sM ?_;refine DP 1 (fun K hK=>?_) ?_
   .go_simp;refine Aq hK fun hJ=>?_;clear hK K;clear hJ;refine Aw 9 fun K hK=>?_;exact Zbh
   refine DP 9 (fun K hK=>?_) AllReadyH.nil;go_simp;refine Aq hK fun hJ=>?_;clear hK K;clear hJ;refine Aw 1 fun K hK=>?_;exact Zbh
  .have hjn:j=n2:=oM;have HMF:Hid (X.map (·.h)=BC c):=by
    show _=_;have h5:=hmap.out;rw[hjn,<-HN2.out,List.take_of_length_le (by rw[BC,List.length_map];exact gF _)]at h5;exact h5
   have e1:¬ (j:Int)<(n2:Int):=oM;have r0:wr.cell? ⟨R,0,none⟩=some (.slice p0 n0 q0):=hnw.rr.cell (i:=0) dE;have r1:wr.cell? ⟨R,1,none⟩=some (.slice p1 n1 q1):=hnw.rr.cell (i:=1) dE;have r2:wr.cell? ⟨R,2,none⟩=some (.slice p2 n2 q2):=hnw.rr.cell (i:=2) dE;have r3:wr.cell? ⟨R,3,none⟩=some (.slice p3 n3 q3):=hnw.rr.cell (i:=3) dE;have k0:wr.cell? ⟨w.heap.size+1,0,none⟩=some (.slice none 0 0):=hnw.rb.cell (i:=0) dE;have k1:wr.cell? ⟨w.heap.size+1,1,none⟩=some (.slice none 0 0):=hnw.rb.cell (i:=1) dE;have k2:wr.cell? ⟨w.heap.size+1,2,none⟩=some (.slice none 0 0):=hnw.rb.cell (i:=2) dE;have k3:wr.cell? ⟨w.heap.size+1,3,none⟩=some (.slice none 0 0):=hnw.rb.cell (i:=3) dE;have k4:wr.cell? ⟨w.heap.size+1,4,none⟩=some (.slice none 0 0):=hnw.rb.cell (i:=4) dE;have z0:=hnw.rb.frozen 0;have z1:=hnw.rb.frozen 1;have z2:=hnw.rb.frozen 2;have z3:=hnw.rb.frozen 3;have z4:=hnw.rb.frozen 4;have hne:R≠w.heap.size+1:=by have:=hnw.hR;omega
   obtain⟨N,hN⟩:=gA (X.length)
   have HNX:Hid (X.length=N):=hN;rw[hN]at r4;clear hlt hmap hXl hN;go_wp2;refine bodyPost_ret (by simp[results,results9,go_sem, *];try rfl) rfl ?_;have ho:∀ (a b c d e:Value) (x:Nat),x≠w.heap.size+1->(((((wr.setCell ⟨w.heap.size+1,0,none⟩ a).setCell ⟨w.heap.size+1,1,none⟩ b).setCell ⟨w.heap.size+1,2,none⟩ c).setCell ⟨w.heap.size+1,3,none⟩ d).setCell ⟨w.heap.size+1,4,none⟩ e).heap[x]? =wr.heap[x]? :=fun a b c d e x hx=>by
    rw[gE hx,gE hx,gE hx,gE hx,gE hx]
   have HNN:N=n2:=by
    have h5:=congrArg List.length HMF.out;rw[List.length_map,BC,List.length_map,HN2.out,HNX.out]at h5;exact h5
   refine⟨p,q,by rw[HNN],X,HMF.out,?_,?_,fun b o s e=>?_,fun x hx b o s e=>by have h5:=hnw.ap x hx b o s e;have h6:=hnw.hR;omega⟩
   rotate_right 1
   .have h5:=EE hnw.cs.own b o s e;have h6:=hnw.hR;omega
   .rw[<-HNN,<-HNX.out];exact(hnw.cs.off (Z:=w.heap.size+1) (by have:=hnw.hR;omega) (Nat.lt_succ_self _) hnw.ap (ho _ _ _ _ _)).cs
   .exact((((hnw.cx.bel.setCell Pd _).setCell Pd _).setCell Pd _).setCell Pd _).setCell Pd _
def MV(l:List Int):List Value:=l.map fun x=>.int .u32 x
theorem Iq(l:List Int)(x:Int):MV (l++[x])=MV l++[.int .u32 x]:=by simp[MV]
theorem RD{w:World}{B:Nat}{p:Option Addr}{q:Nat}{l:List Int}(h:w.ownsRow B 38 1 (.slice p l.length q) l.length (MV l)):Bb w p l.length (fun j=>.int .u32 (CG l j)):=by
 by_cases h0:l.length=0
 .exact .inl h0
 .obtain⟨g,cap,e,_⟩:=h.form oM;simp only[Value.slice.injEq]at e;obtain⟨rfl,-,-⟩:=e;refine .inr ⟨g,0,rfl,fun j hj=>?_⟩;rw[Nat.zero_add,h.cellAt j oM];simp[MV,CG,hj]
theorem JL:(prog.info? 38).map (fun i=>(i.zero,i.size,i.bytes))=some (some (.int .u32 0),1,4):=kR
def Jh(w:World)(v:Value)(L:List (List Int)):Prop:=∃p c,v=.slice p L.length c/\∀i (hi:i<L.length),∃b o q d,p=some ⟨b,o,none⟩/\w.cell? ⟨b,o+i,none⟩=some (.slice q (L[i]).length d)/\Bb w q (L[i]).length (fun j=>.int .u32 (CG L[i] j))
theorem Jh.below{w w':World}{v:Value}{L:List (List Int)}(h:Jh w v L)(k:Below w.heap.size w w'):Jh w' v L:=by
 obtain⟨p,c,e,h⟩:=h;refine⟨p,c,e,fun i hi=>?_⟩;obtain⟨b,o,q,d,e1,e2,e3⟩:=h i hi;exact⟨b,o,q,d,e1,kc k e2,e3.below k⟩
theorem F7.vc{T:Nat->Prop}{w:World}{v:Value}{L:List (List Int)}(h:F7 T w v L):Jh w v L:=h.cellsOf
theorem NI:∀ {l:List BJ} {m:List Nat},m.length≠l.length->C8 l m=false
 |[],[],h=>absurd rfl h
 |[],_::_,_=>rfl
 |_::_,[],_=>rfl
 |p::l,n::m,h=>by
  have:C8 l m=false:=NI UQ;simp[C8,this]
theorem NH:∀ {l:List BJ} {m:List Nat} {k:Nat} (h1:k<l.length) (h2:k<m.length),((m[k]:Nat):Int)≠Dh l[k]->C8 l m=false
 |[],m,k,h,_,_=>by simp at h
 |p::l,[],k,_,h,_=>by simp at h
 |p::l,n::m,0,_,_,hne=>by
  have:decide ((n:Int)=Dh p)=false:=by simpa using hne
  simp[C8,this]
 |p::l,n::m,k+1,h1,h2,hne=>by
  have:C8 l m=false:=NH (k:=k) (by simpa using h1) (by simpa using h2) (by simpa using hne);simp[C8,this]
theorem Lw:∀ {l:List BJ} {m:List Nat},m.length=l.length->(∀k (h1:k<l.length) (h2:k<m.length),((m[k]:Nat):Int)=Dh l[k])->C8 l m=true
 |[],[],_,_=>rfl
 |[],_::_,h,_=>by simp at h
 |_::_,[],h,_=>by simp at h
 |p::l,n::m,h,ha=>by
  have h0:((n:Nat):Int)=Dh p:=ha 0 sM sM;have:C8 l m=true:=Lw UQ fun k h1 h2=>by
   have:=ha (k+1) sO sO;simpa using this
  simp[C8,h0,this]
theorem EG(v0:Value)(l:List BJ)(hl:l.length<=64)(hM:∀p∈l,p.name.size<=140737488351232)(gv:Value)(L:List (List Int))(hL:L.length<=140737488351232)(hLL:∀x∈L,x.length<=140737488351232)(w:World)(hr:AV 3 AY w v0 l)(hg:Jh w gv L):
 Calls prog 41 #[v0,gv] w fun e w'=>e=.returned (.bool (C8 l (L.map (·.length))))/\Below w.heap.size w w':=by
 obtain⟨p0,q0,rfl,-⟩:=id hr;obtain⟨pg,qg,rfl,hcell⟩:=hg;have HR:Hid (AV 3 AY w (.slice p0 l.length q0) l):=hr;have HCELL:Hid (∀i (hi:i<L.length),∃b o q d,pg=some ⟨b,o,none⟩/\w.cell? ⟨b,o+i,none⟩=some (.slice q (L[i]).length d)/\Bb w q (L[i]).length (fun j=>.int .u32 (CG L[i] j))):=hcell;have HNM:Hid (∀p∈l,p.name.size<=140737488351232):=hM;have HLL:Hid (∀x∈L,x.length<=140737488351232):=hLL;by_cases hne:L.length=l.length
 .obtain⟨RES,hRES⟩:∃X,C8 l (L.map (·.length))=X:=⟨_,rfl⟩
  rw[hRES];have HRES:Hid (C8 l (L.map (·.length))=RES):=hRES;have HNE:Hid (L.length=l.length):=hne;obtain⟨N,hN⟩:=gA (l.length)
  have HN:Hid (l.length=N):=hN;rw[hne];rw[hN]at hl HR |-;clear hr hcell hM hLL hRES hne hN hL;go_enter func41,ntmps41;go_wp2
  go_loopw [5] (fun iv wr=>Below w.heap.size w wr/\∃j:Nat,j<=N/\iv=.int .i64 (j:Int)/\Hid (∀k (h1:k<l.length) (h2:k<L.length),k<j->((L[k].length:Nat):Int)=Dh l[k])) (fun iv _=>N-(intOf iv).toNat)
  case atStart=>exact⟨BZ _,0,gI _,rfl,fun k _ _ h=>absurd h (Nat.not_lt_zero _)⟩
  case round=>
   obtain⟨hb,j,hj,rfl,hall⟩:=hrel;by_cases hlt:j<N
   .have hll:j<l.length:=by rw[HN.out];exact hlt
    have hLl:j<L.length:=by rw[HNE.out];exact hll
    obtain⟨lb,lo,rfl,hx⟩:=HR.at hll;obtain⟨gb,go,gq,gd,rfl,hgc,-⟩:=HCELL.out j hLl;have KN:=Hq l[j] (HNM.out _ (gD hll));have hlen:=HLL.out _ (gD hLl);have NX:Hid (((L[j].length:Nat):Int)=Dh l[j]->∀k (h1:k<l.length) (h2:k<L.length),k<j+1->((L[k].length:Nat):Int)=Dh l[k]):=fun h k h1 h2 h3=>by
     by_cases e:k=j
     .subst e;exact h
     .exact hall.out k h1 h2 oM
    have NB:Hid (((L[j].length:Nat):Int)≠Dh l[j]->false=RES):=fun h=>by
     rw[<-HRES.out];exact(NH (k:=j) hll (by simp;exact hLl) UQ).symm
    obtain⟨U,hU⟩:=gA (Dh l[j])
    obtain⟨V,hV⟩:=gA (L[j].length)
    rw[hU]at KN NX NB;rw[hV]at hgc hlen NX NB;obtain⟨⟨nm,K9,L9⟩,hT⟩:∃T:BJ,l[j]=T:=⟨_,rfl⟩
    rw[hT]at hx KN;unfold pv at KN;simp only at KN;have HK:Hid (∀v,Calls prog 61 #[.agg #[.string nm,.int .i64 K9,.int .i64 L9]] v fun e w'=>e=.returned (.int .i64 U)/\Below v.heap.size v w'):=KN;have y0:wr.cell? ⟨lb,lo+j*3,none⟩=some (.string nm):=kc hb (hx.at 0 rfl);have y1:wr.cell? ⟨lb,lo+j*3+1,none⟩=some (.int .i64 K9):=kc hb (hx.at 1 rfl);have y2:wr.cell? ⟨lb,lo+j*3+2,none⟩=some (.int .i64 L9):=kc hb (hx.at 2 rfl);have y3:=kc hb hgc;have HB:Hid (Below w.heap.size w wr):=hb;have i1:(0:Int)<=(j:Int):=oM;have i2:(j:Int)<(N:Int):=oM;clear KN hx hgc hall hT hU hV hb;by_cases hX:((V:Nat):Int)=U
    .have hb1:((V:Int) != U)=false:=by simpa using hX
     have HNX:=NX.out hX;have HNX2:Hid _:=HNX;clear hX HNX NX NB;go_wp2;refine rG (fun v=>v.cell? ⟨gb,go+j,none⟩=some (.slice gq V gd)/\v.cell? ⟨lb,lo+j*3,none⟩=some (.string nm)/\v.cell? ⟨lb,lo+j*3+1,none⟩=some (.int .i64 K9)/\v.cell? ⟨lb,lo+j*3+2,none⟩=some (.int .i64 L9)) fun hJ=>?_;refine Tf 0 1 2 3 4 5 ?_;refine Tc 6 7 8 ?_;clear hJ;refine Aw 9 fun K hK=>?_;go_simp;(go_at_call 61;(with_reducible refine(HK.out _).mono ?_);rintro e w2 ⟨rfl,hb2⟩;have HB2:Hid (Below wr.heap.size wr w2):=bel (A9 _) hb2;clear hb2;have x0:=kc HB2.out y0;have x1:=kc HB2.out y1;have x2:=kc HB2.out y2;have x3:=kc HB2.out y3);try(go_wp2_with fail)
     refine Aq hK fun hJ=>?_;clear hK K;refine Bo 10 ?_;refine wpAnyH_done kR ?_ _;go_wp2;go_roundw
     case rel=>exact⟨bel HB.out HB2.out,j+1,oM,gN,HNX2.out⟩
     case measure=>simp[intOf];omega
    .have hb1:((V:Int) != U)=true:=by simpa using hX
     have HQ:=NB.out hX;have HQF:Hid (false=RES):=HQ;clear hX HQ NX NB;go_wp2;refine rG (fun v=>v.cell? ⟨gb,go+j,none⟩=some (.slice gq V gd)/\v.cell? ⟨lb,lo+j*3,none⟩=some (.string nm)/\v.cell? ⟨lb,lo+j*3+1,none⟩=some (.int .i64 K9)/\v.cell? ⟨lb,lo+j*3+2,none⟩=some (.int .i64 L9)) fun hJ=>?_;refine Tf 0 1 2 3 4 5 ?_;refine Tc 6 7 8 ?_;clear hJ;refine Aw 9 fun K hK=>?_;go_simp;(go_at_call 61;(with_reducible refine(HK.out _).mono ?_);rintro e w2 ⟨rfl,hb2⟩;have HB2:Hid (Below wr.heap.size wr w2):=bel (A9 _) hb2;clear hb2;have x0:=kc HB2.out y0;have x1:=kc HB2.out y1;have x2:=kc HB2.out y2;have x3:=kc HB2.out y3);try(go_wp2_with fail)
     refine Aq hK fun hJ=>?_;clear hK K;refine Bo 10 ?_;refine wpAnyH_done kR ?_ _;go_wp2;go_ret;exact⟨Ab HQF.out,bel HB.out HB2.out⟩
   have HQT:Hid (true=RES):=by
    show _=_;rw[<-HRES.out];refine(Lw (by rw[List.length_map];exact HNE.out) fun k h1 h2=>?_).symm;rw[List.length_map]at h2;have h5:=hall.out k h1 h2 (by have:=HN.out;omega);simpa using h5
   have e1:¬ (j:Int)<(N:Int):=oM;clear hall hlt;go_wp2;go_ret;exact⟨Ab HQT.out,hb⟩
 .rw[NI (by rw[List.length_map];exact hne)];obtain⟨N,hN⟩:=gA (l.length)
  obtain⟨M,hM'⟩:∃N,L.length=N:=⟨_,rfl⟩
  rw[hN]at hne hl |-;rw[hM']at hne hL |-;have hb1:(((M:Nat):Int)==((N:Nat):Int))=false:=by have:((M:Nat):Int)≠(N:Int):=oM;simpa using this
  have hb2:(((M:Nat):Int) != ((N:Nat):Int))=true:=by have:((M:Nat):Int)≠(N:Int):=oM;simpa using this
  clear hr hcell hM hLL hN hM';go_enter func41,ntmps41;go_wp2;go_ret;exact⟨rfl,BZ _⟩
theorem und_LL:prog.underlying 88=some (.slice (prog.elem 88)):=kR
theorem YN:prog.elem 88=72:=kR
theorem size_LL(w:World):(sizeOf (prog.elem 88)).run prog w=.ok 1 w:=by rw[YN];exact Tryz.sizeOf72 w
def Dm(a b c:List Int)(m:Nat):List (List Int):=[a,b,c].take m
def UF(W:Nat)(R:List Int):List Int:=if R.length=1 then List.replicate W (An (R.headD 0))else R
theorem apply3(op:Int)(m:Nat)(hm:CC op=m)(h0:m≠0)(xa xb xc:Cl)(n:Nat)(hs:Eo (lF (Dm xa.h.pats xb.h.pats xc.h.pats m)) (m-1)=some n)
 (pa:∀y∈xa.h.pats,AH y) (pb:∀y∈xb.h.pats,AH y) (pc:∀y∈xc.h.pats,AH y) (la:xa.h.pats.length<=4096) (lb:xb.h.pats.length<=4096) (lc:xc.h.pats.length<=4096) (g:Nat) (w:World)
 (g0:w.cell? ⟨g,0,none⟩=some (.slice xa.p xa.h.pats.length xa.q)) (g1:w.cell? ⟨g,1,none⟩=some (.slice xb.p xb.h.pats.length xb.q)) (g2:w.cell? ⟨g,2,none⟩=some (.slice xc.p xc.h.pats.length xc.q))
 (na:C6 w xa.p xa.h.pats) (nb:C6 w xb.p xb.h.pats) (nc:C6 w xc.p xc.h.pats):
 Calls prog 90 #[.int .i64 op,.slice (some ⟨g,0,none⟩) m 3] w fun e w'=>∃q cap,e=.returned (.tuple #[.slice q n cap,.int .i64 0])/\C6 w' q (D3 op (Dm xa.h.pats xb.h.pats xc.h.pats m))/\(D3 op (Dm xa.h.pats xb.h.pats xc.h.pats m)).length=n/\(∀y∈D3 op (Dm xa.h.pats xb.h.pats xc.h.pats m),AH y)/\Below w.heap.size w w'/\∀b o s,q=some ⟨b,o,s⟩->w.heap.size<=b:=by
 have hm3:m<=3:=by rw[<-hm];exact Ky op
 have hal:(Dm xa.h.pats xb.h.pats xc.h.pats m).length=m:=by unfold Dm;rw[List.length_take];simp;omega
 have hv:∀i,i<m->EK (Dm xa.h.pats xb.h.pats xc.h.pats m) i=if i=0 then xa.h.pats else if i=1 then xb.h.pats else xc.h.pats:=fun i hi=>by
  unfold EK Dm;rw[List.getElem?_take,if_pos hi];have:i=0\/i=1\/i=2:=oM;rcases this with rfl|rfl|rfl<;>rfl
 have hvs:∀i,EK (Dm xa.h.pats xb.h.pats xc.h.pats m) i=[]\/EK (Dm xa.h.pats xb.h.pats xc.h.pats m) i=xa.h.pats\/EK (Dm xa.h.pats xb.h.pats xc.h.pats m) i=xb.h.pats\/EK (Dm xa.h.pats xb.h.pats xc.h.pats m) i=xc.h.pats:=fun i=>by
  by_cases hi:i<m
  .rw[hv i hi];split
   .exact .inr (.inl rfl)
   .split
    .exact .inr (.inr (.inl rfl))
    .exact .inr (.inr (.inr rfl))
  .left;unfold EK Dm;rw[List.getElem?_take,if_neg hi];rfl
 have hP:∀i j,AH (xF (Dm xa.h.pats xb.h.pats xc.h.pats m) i j):=fun i j=>by
  unfold xF;refine CR ?_ j;rcases hvs i with e|e|e|e<;>rw[e]
  .intro y hy;cases hy
  .exact pa
  .exact pb
  .exact pc
 have hl:∀i,lF (Dm xa.h.pats xb.h.pats xc.h.pats m) i<=1048576:=fun i=>by
  unfold lF;rcases hvs i with e|e|e|e<;>rw[e]<;>first|(show(0:Nat)<=_;omega)|omega
 have hL:P7 .i64 w (some ⟨g,0,none⟩) m (fun i=>if i=0 then xa.p else if i=1 then xb.p else xc.p) (lF (Dm xa.h.pats xb.h.pats xc.h.pats m)) (fun i=>if i=0 then xa.q else if i=1 then xb.q else xc.q) (xF (Dm xa.h.pats xb.h.pats xc.h.pats m)):=by
  refine⟨.inr ⟨g,0,rfl,fun i hi=>?_⟩,fun i hi=>?_⟩
  .have:i=0\/i=1\/i=2:=oM;simp only[lF];rw[hv i hi,Nat.zero_add];rcases this with rfl|rfl|rfl
   .exact g0
   .exact g1
   .exact g2
  .have:i=0\/i=1\/i=2:=oM;simp only[lF,xF];rw[hv i hi];rcases this with rfl|rfl|rfl
   .exact na
   .exact nb
   .exact nc
 have hs':Eo (lF (Dm xa.h.pats xb.h.pats xc.h.pats m)) ((Dm xa.h.pats xb.h.pats xc.h.pats m).length-1)=some n:=by rw[hal];exact hs
 obtain⟨a1,a2⟩:=QR (op:=op) hs';refine(TE op oM g 0 m 3 hm n _ _ _ _ hP hl hs w hL).mono ?_;rintro e w' ⟨q,cap,rfl,hr,hb,hlo⟩;have a3:∀y∈D3 op (Dm xa.h.pats xb.h.pats xc.h.pats m),AH y:=fun y hy=>by
  obtain⟨j,hj,rfl⟩:=List.mem_iff_getElem.1 hy;have h9:=a2 j oM;have h8:CG (D3 op (Dm xa.h.pats xb.h.pats xc.h.pats m)) j=(D3 op (Dm xa.h.pats xb.h.pats xc.h.pats m))[j]:=by simp[CG,hj]
  rw[<-h8,h9];exact Rc _ _ _ _ (Cp hP _ _ _) (Cp hP _ _ _) (Cp hP _ _ _)
 refine⟨q,cap,rfl,?_,a1,a3,hb,hlo⟩;unfold C6;rw[a1];refine hr.congr fun j hj=>?_;rw[a2 j hj,hal]
def Vc(j:Nat):Value:=if j=0 then .slice none 0 0 else .int .i64 0
theorem YQ:∀i,i<(#[.slice none 0 0,.int .i64 0]:Array Value).size->(#[.slice none 0 0,.int .i64 0]:Array Value)[i]? =some (Vc i):=by
 intro i hi;have hi':i<2:=hi;obtain rfl|rfl:i=0\/i=1:=oM
 all_goals rfl
theorem num_ne{v:World}{R:Nat}(h:v.rowIs R 74 2 Vc){q:Option Addr}{l:List Int}(hn:C6 v q l)(h2:2<=l.length):∀b o,q=some ⟨b,o,none⟩->b≠R:=by
 intro b o e hb;rcases hn with h0|⟨b',o',e',hc⟩
 .omega
 .rw[e]at e';simp only[Option.some.injEq,Addr.mk.injEq,true_and,and_true]at e';obtain⟨rfl,rfl⟩:b=b'/\o=o':=by first|exact e'|exact⟨e'.1,e'.2⟩
  subst hb;by_cases ho:o=0
  .have h3:=hc 0 oM;rw[ho]at h3;have h4:=h.cell (i:=0) dE;rw[Nat.add_zero]at h3;rw[h3]at h4;simp[Vc]at h4
  .have h3:=hc 1 oM;obtain⟨c,hb,hs,-⟩:=h;have h5:v.cell? ⟨b,o+1,none⟩=none:=by
    unfold World.cell?;simp only[hb];exact Array.getElem?_eq_none oM
   rw[h5]at h3;cases h3
structure P4(w:World)(v0 v1 v2 v3 ru:Value)(op D A B C tk tp:Int)(rb oa ob oc:Nat)(ua ub uc:Value)(v:World):Prop where
 bel:Below w.heap.size w v
 a0:v.cell? ⟨w.heap.size,0,none⟩=some v0
 a1:v.cell? ⟨w.heap.size,1,none⟩=some v1
 a2:v.cell? ⟨w.heap.size,2,none⟩=some v2
 a3:v.cell? ⟨w.heap.size,3,none⟩=some v3
 a4:v.cell? ⟨w.heap.size,4,none⟩=some ru
 i0:v.cell? ⟨w.heap.size+1,0,none⟩=some (.int .i64 op)
 i1:v.cell? ⟨w.heap.size+1,1,none⟩=some (.int .i64 D)
 i2:v.cell? ⟨w.heap.size+1,2,none⟩=some (.int .i64 A)
 i3:v.cell? ⟨w.heap.size+1,3,none⟩=some (.int .i64 B)
 i4:v.cell? ⟨w.heap.size+1,4,none⟩=some (.int .i64 C)
 r0:v.cell? ⟨w.heap.size+1+1,0,none⟩=some (.slice none 0 0)
 r1:v.cell? ⟨w.heap.size+1+1,1,none⟩=some (.int .i64 0)
 rr:v.rowIs (w.heap.size+1+1) 74 2 Vc
 f0:v.frozen? ⟨w.heap.size+1+1,0,none⟩=false
 f1:v.frozen? ⟨w.heap.size+1+1,1,none⟩=false
 t0:v.cell? ⟨w.heap.size+1+1+1,0,none⟩=some (.int .i64 tk)
 t1:v.cell? ⟨w.heap.size+1+1+1,1,none⟩=some (.int .i64 tp)
 x0:v.cell? ⟨rb,oa,none⟩=some ua
 x1:v.cell? ⟨rb,ob,none⟩=some ub
 x2:v.cell? ⟨rb,oc,none⟩=some uc
theorem P4.next{w:World}{v0 v1 v2 v3 ru:Value}{op D A B C tk tp:Int}{rb oa ob oc:Nat}{ua ub uc:Value}{v v':World}(h:P4 w v0 v1 v2 v3 ru op D A B C tk tp rb oa ob oc ua ub uc v)(k:Below v.heap.size v v'):P4 w v0 v1 v2 v3 ru op D A B C tk tp rb oa ob oc ua ub uc v':=
 ⟨Go.Proofs.YtnbccaicijcklaaGreat.bel h.bel k,kc k h.a0,kc k h.a1,kc k h.a2,kc k h.a3,kc k h.a4,kc k h.i0,kc k h.i1,kc k h.i2,kc k h.i3,kc k h.i4,kc k h.r0,kc k h.r1,h.rr.of_block (k.block _ h.rr.lt),kf k h.r0 h.f0,kf k h.r1 h.f1,kc k h.t0,kc k h.t1,kc k h.x0,kc k h.x1,kc k h.x2⟩
theorem E7(a:Int):An (An a)=An a:=by
 by_cases h:nan a=true
 .have e:An a=2143289344:=by unfold An;rw[if_pos h]
  rw[e];decide
 .have e:An a=a:=by unfold An;rw[if_neg h]
  rw[e,e]
theorem JF(b:Bool):An (PD b)=PD b:=by cases b<;>decide
theorem Hj{o:Option Nat}(h:∀r,o=some r->rg r<=2139095040):An (Ry o)=Ry o:=by
 cases o with
 |none=>decide
 |some r=>exact Ln (h r rfl)
theorem O9{a b:Int}(ha:0<=a)(hb:0<=b){o:Ordering}(h:ZE a b=some o):An a=a/\An b=b:=by
 rw[Kc a b ha hb]at h;split at h
 .cases h
 .rename_i hn;have h1:¬nan a=true:=fun e=>hn (.inl e);have h2:¬nan b=true:=fun e=>hn (.inr e);unfold An;rw[if_neg h1,if_neg h2];exact⟨rfl,rfl⟩
theorem Vk(a b:Int)(ha:0<=a)(hb:0<=b):An (Jc a b)=Jc a b:=by
 unfold Jc;cases e:ZE a b with
 |none=>show An 2143289344=2143289344;decide
 |some o=>
  obtain⟨h1,h2⟩:=O9 ha hb e;cases o
  .exact h1
  .simp only;split
   .exact h1
   .exact h2
  .exact h2
theorem Vi(a b:Int)(ha:0<=a)(hb:0<=b):An (JH a b)=JH a b:=by
 unfold JH;cases e:ZE a b with
 |none=>show An 2143289344=2143289344;decide
 |some o=>
  obtain⟨h1,h2⟩:=O9 ha hb e;cases o
  .exact h2
  .simp only;split
   .exact h2
   .exact h1
  .exact h1
theorem Cy{p:Prop}[Decidable p]{x y:Int}(h:An x=x)(k:An y=y):An (if p then x else y)=if p then x else y:=by
 split
 .exact h
 .exact k
theorem ZD(op a b c:Int)(ha:AH a)(hb:AH b):An (Kb op a b c)=Kb op a b c:=by
 unfold Kb;refine Cy (E7 a) (Cy (Hj fun _ h=>(OM h).1) (Cy (E7 _) (Cy (E7 _) (Cy (JF _) (Cy (Hj fun _ h=>(QP h).1) (Cy (Hj fun _ h=>(So h).1) (Cy (Hj fun _ h=>(Rp h).1) (Cy (Hj fun _ h=>(QY h).1) (Cy (Vk a b ha.1 hb.1) (Cy (Vi a b ha.1 hb.1) (Cy (JF _) ?_)))))))))));unfold Mx;exact Cy (E7 _) (E7 _)
theorem Yu{op:Int}{args:List (List Int)}(h:∀l∈args,∀y∈l,AH y):∀y∈D3 op args,An y=y:=by
 have hX:∀i j,AH (xF args i j):=fun i j=>by
  exact Zem
 intro y hy;unfold D3 at hy;split at hy
 .simp only[List.mem_map]at hy;obtain⟨k,_,rfl⟩:=hy;exact ZD _ _ _ _ (Cp hX _ _ _) (Cp hX _ _ _)
 .cases hy
theorem el_eq{c:Cd}{f:Fr}{i:Ad}(hg:Good c)(ok:KK c f)(he:Bq i.op=true)(nd:Dx c f i)(hk:(Aa c.regs i.d).kind≠2):
 UF (if(Aa c.regs i.d).kind=3 then lenOf c (Aa c.regs i.d).par else 1) (D3 i.op (Br c f i))=(if(D3 i.op (Br c f i)).length<B4 c (Aa c.regs i.d)then DU c (Aa c.regs i.d) ((D3 i.op (Br c f i)).headD 0)else D3 i.op (Br c f i))/\(if(Aa c.regs i.d).kind=3 then lenOf c (Aa c.regs i.d).par else 1)=B4 c (Aa c.regs i.d):=by
 obtain⟨h1,h2,h3⟩:=Gi hg ok he nd hk;obtain⟨s1,s2⟩:=Fa hg ok he nd hk;have hcan:=Yu (op:=i.op) (args:=Br c f i) (fun l hl=>by
  unfold Br at hl;simp only[List.mem_map]at hl;obtain⟨r,hr,rfl⟩:=hl
  exact(h2 r hr).2.2.2)
 have hw:(if(Aa c.regs i.d).kind=3 then lenOf c (Aa c.regs i.d).par else 1)=B4 c (Aa c.regs i.d):=by
  unfold B4;rcases h3 with e|e
  .rw[if_neg oM,if_neg oM,if_pos e]
  .rw[if_pos e,if_pos e]
 refine⟨?_,hw⟩;rw[hw];unfold DU;generalize D3 i.op (Br c f i)=R at *;generalize B4 c (Aa c.regs i.d)=W at *;unfold UF;by_cases e:R.length=1
 .rw[if_pos e];obtain⟨x,rfl⟩:=List.length_eq_one_iff.1 e;have hx:An x=x:=hcan x sM;by_cases e2:W=1
  .subst e2;rw[if_neg sM];show [An x]=[x];rw[hx]
  .rw[if_pos sO]
 .rw[if_neg e,if_neg oM]
def Dj(c:Cd)(G P:List (List Int))(f:Fr)(i:Ad):Hd:=C5 c (D0 c G P f i) i.d
section
variable {c : Cd} {G P : List (List Int)} {f : Fr} {i : Ad}
theorem I9(nd:Dx c f i)(h:DC i.op=true):Dj c G P f i=⟨[O4 f i],0⟩:=by
 unfold Dj C5;rw[Cc h,if_pos (nd.num h).2.2.2.2];simp only[Bx]
theorem IJ(nd:Dx c f i)(h:Bj i.op=true):Dj c G P f i=⟨[],ER f i⟩:=by
 have hk:=(nd.whole h).2.2.2.2.2.1;unfold Dj C5;rw[Bp h,if_neg oM,if_pos hk];simp only[Bx]
theorem val_29(nd:Dx c f i)(h:i.op=29):Dj c G P f i=⟨BH c G i,0⟩:=by
 have hk:=(nd.part (.inl h)).kind;unfold Dj C5;rw[CH h,if_neg oM,if_neg oM];simp only[Bx]
theorem val_30(nd:Dx c f i)(h:i.op=30):Dj c G P f i=⟨BH c P i,0⟩:=by
 have hk:=(nd.part (.inr h)).kind;unfold Dj C5;rw[CI h,if_neg oM,if_neg oM];simp only[Bx]
theorem rd_st{r:Int}{h:Hd}(ho:P6 c (Aa c.regs r) h)(hz:(Aa c.regs r).kind≠2->h.whole=0):C5 c (Kt c f r h) r=h:=by
 obtain⟨pats,whole⟩:=h;simp only at hz;have hl:pats.length=B4 c (Aa c.regs r):=ho.1;unfold B4 at hl;unfold C5 Kt;by_cases h1:(Aa c.regs r).kind=1
 .rw[if_neg oM,if_pos h1]at hl;rw[if_pos h1,if_pos h1];obtain⟨x,rfl⟩:=List.length_eq_one_iff.1 hl;simp only[Bx,List.headD_cons];rw[hz oM]
 .by_cases h2:(Aa c.regs r).kind=2
  .rw[if_neg oM,if_neg oM]at hl;rw[if_neg h1,if_pos h2,if_neg h1,if_pos h2];simp only[Bx];rw[List.length_eq_zero_iff.1 hl]
  .rw[if_neg h1,if_neg h2,if_neg h1,if_neg h2];simp only[Bx];rw[hz h2]
theorem val_32(ok:KK c f)(nd:Dx c f i)(h:i.op=32)(hz:∀j (h:j<c.slots.length),c.slots[j].ty.kind≠2->((f.slots[j]?).getD ⟨[],0⟩).whole=0):Dj c G P f i=(f.slots[i.n.toNat]?).getD ⟨[],0⟩:=by
 obtain⟨d0,d1,n0,n1,ht⟩:=nd.load h;have hn:i.n.toNat<c.slots.length:=oM;have hn2:i.n.toNat<f.slots.length:=by rw[ok.slotsL];exact hn
 have hh:=ok.slots i.n.toNat hn hn2;have e:Cv c.slots i.n=c.slots[i.n.toNat].ty:=by unfold Cv;rw[gB hn];rfl
 unfold Dj;rw[CJ h];refine rd_st ?_ fun h2=>hz _ hn (by rw[<-e,ht];exact h2);rw[gB hn2,Option.getD_some,<-ht,e];exact hh
theorem Uv(h:Bq i.op=true)(hk:(Aa c.regs i.d).kind=2):Dj c G P f i=⟨[],f.whs i.a.toNat⟩:=by
 unfold Dj C5;rw[Bt h];unfold EU;rw[if_pos hk,if_neg oM,if_pos hk];simp only[Bx]
theorem Y3(hg:Good c)(ok:KK c f)(nd:Dx c f i)(h:Bq i.op=true)(hk:(Aa c.regs i.d).kind≠2):Dj c G P f i=⟨UF (if(Aa c.regs i.d).kind=3 then lenOf c (Aa c.regs i.d).par else 1) (D3 i.op (Br c f i)),0⟩:=by
 obtain⟨e1,e2⟩:=el_eq hg ok h nd hk;obtain⟨s1,s2⟩:=Fa hg ok h nd hk;rw[e1];unfold Dj;rw[Bt h];unfold EU;rw[if_neg hk];refine rd_st ⟨?_,fun y hy=>?_,Int.le_refl _,by show(0:Int)<=2147483647;decide⟩ fun _=>rfl
 .simp only;split
  .unfold DU;rw[List.length_replicate]
  .rename_i hn;have h1:=(Gi hg ok h nd hk).1;omega
 .simp only at hy;split at hy
  .unfold DU at hy;rw[List.eq_of_mem_replicate hy];exact Dn _ (JN s2)
  .exact s2 y hy
theorem MZ(hk:Al i.op=true)(r:Nat)(h:(A4 i.op).d≠0->r≠i.d.toNat):C5 c (D0 c G P f i) (r:Int)=C5 c f (r:Int):=by
 have hst:∀x:Hd,(A4 i.op).d≠0->C5 c (Kt c f i.d x) (r:Int)=C5 c f (r:Int):=fun x hd=>by
  have hr:=h hd;unfold Kt;split
  .unfold C5;simp only[Int.toNat_natCast,By _ _ hr]
  .split
   .unfold C5;simp only[Int.toNat_natCast,By _ _ hr]
   .unfold C5;simp only[Int.toNat_natCast,By _ _ hr]
 rcases Da hk with e|e|e|e|e|e|e|e|e
 .have hr:=h (by unfold DC at e;simp only[Bool.or_eq_true,beq_iff_eq]at e;have:i.op=1\/i.op=16\/i.op=17\/i.op=19\/i.op=20:=oM;rcases this with q|q|q|q|q<;>rw[q]<;>decide);rw[Cc e];unfold C5;simp only[Int.toNat_natCast,By _ _ hr]
 .have hr:=h (by unfold Bj at e;simp only[Bool.or_eq_true,Bool.and_eq_true,beq_iff_eq,decide_eq_true_eq]at e;have:i.op=2\/i.op=18\/i.op=21\/i.op=22\/i.op=23\/i.op=24\/i.op=25\/i.op=26\/i.op=27\/i.op=28:=oM;rcases this with q|q|q|q|q|q|q|q|q|q<;>rw[q]<;>decide);rw[Bp e];unfold C5;simp only[Int.toNat_natCast,By _ _ hr]
 .have hr:=h Zhp;rw[CH e];unfold C5;simp only[Int.toNat_natCast,By _ _ hr]
 .have hr:=h Zhp;rw[CI e];unfold C5;simp only[Int.toNat_natCast,By _ _ hr]
 .rw[D6 e];rfl
 .rw[CJ e];exact hst _ Zhp
 .rw[CK e];rfl
 .rw[AM e]
 .have hd:(A4 i.op).d≠0:=by
   unfold Bq at e;simp only[Bool.and_eq_true,decide_eq_true_eq]at e;have:i.op=3\/i.op=4\/i.op=5\/i.op=6\/i.op=7\/i.op=8\/i.op=9\/i.op=10\/i.op=11\/i.op=12\/i.op=13\/i.op=14\/i.op=15:=oM;rcases this with q|q|q|q|q|q|q|q|q|q|q|q|q<;>rw[q]<;>decide
  rw[Bt e];unfold EU;split
  .unfold C5;simp only[Int.toNat_natCast,By _ _ (h hd)]
  .exact hst _ hd
end
structure P9(c:Cd)(f:Fr)(X S O:List Cl):Prop where
 xl:X.length=c.regs.length
 xok:∀x∈X,(∀y∈x.h.pats,AH y)/\x.h.pats.length<=4096/\0<=x.h.whole/\x.h.whole<=2147483647
 sl:S.map (·.h)=f.slots
 sz:∀j (h:j<c.slots.length),c.slots[j].ty.kind≠2->((f.slots[j]?).getD ⟨[],0⟩).whole=0
 ol:O.length=2*c.sign.length
 oo:∀p n:Nat,p<c.sign.length->n<AI c (p:Int)->∃o,O[2*p+n]? =some o/\o.h.pats.length=lenOf c (p:Int)/\(∀y∈o.h.pats,AH y)/\∀e,e<lenOf c (p:Int)->CG o.h.pats e=f.outs p (AI c (p:Int)*e+n)
def QM(c:Cd)(f:Fr)(X:List Cl)(r:Nat):Prop:=∃x,X[r]? =some x/\x.h=C5 c f (r:Int)
def Did(c:Cd)(G P:List (List Int))(f:Fr)(i:Ad)(X S O X' S' O':List Cl):Prop:=
 ((A4 i.op).d≠0/\(∃x,X'=X.set i.d.toNat x/\x.h=Dj c G P f i)/\S'=S/\O'=O)
 \/(i.op=33/\X'=X/\(∃x,X[i.a.toNat]? =some x/\S'=S.set i.n.toNat x)/\O'=O)
 \/(i.op=31/\X'=X/\S'=S/\∃x,X[i.a.toNat]? =some x/\O'=O.set (2*(Aa c.regs i.a).par.toNat+i.n.toNat) x)
 \/((34<=i.op/\i.op<=37)/\X'=X/\S'=S/\O'=O)
theorem Qq{op:Int}(hk:Al op=true):(A4 op).d≠0↔op≠31/\op≠33/\¬ (34<=op/\op<=37):=by
 unfold Al at hk;simp only[Bool.and_eq_true,decide_eq_true_eq]at hk;have:op∈(List.range 38).map (fun n:Nat=>(n:Int)):=by
  rw[List.mem_map];exact⟨op.toNat,by rw[List.mem_range];omega,oM⟩
 have h0:op≠0:=oM;revert h0;revert op;intro op hk;simp only[List.range,List.range.loop,List.map_cons,List.map_nil,List.mem_cons,List.not_mem_nil,or_false];intro h h0;rcases h with h|h|h|h|h|h|h|h|h|h|h|h|h|h|h|h|h|h|h|h|h|h|h|h|h|h|h|h|h|h|h|h|h|h|h|h|h|h<;>(rw[h]at h0 |-;revert h0;decide)
theorem Fx{c:Cd}{G P:List (List Int)}{f:Fr}{i:Ad}(hk:Al i.op=true):(i.op≠33->(D0 c G P f i).slots=f.slots)/\(i.op≠31->(D0 c G P f i).outs=f.outs):=by
 have hst:∀r h,(Kt c f r h).slots=f.slots/\(Kt c f r h).outs=f.outs:=fun r h=>by
  unfold Kt;split
  .exact⟨rfl,rfl⟩
  .split
   .exact⟨rfl,rfl⟩
   .exact⟨rfl,rfl⟩
 rcases Da hk with e|e|e|e|e|e|e|e|e
 .rw[Cc e];exact⟨fun _=>rfl,fun _=>rfl⟩
 .rw[Bp e];exact⟨fun _=>rfl,fun _=>rfl⟩
 .rw[CH e];exact⟨fun _=>rfl,fun _=>rfl⟩
 .rw[CI e];exact⟨fun _=>rfl,fun _=>rfl⟩
 .exact⟨fun _=>by rw[D6 e],fun h=>absurd e h⟩
 .rw[CJ e];exact⟨fun _=>(hst _ _).1,fun _=>(hst _ _).2⟩
 .exact⟨fun h=>absurd e h,fun _=>by rw[CK e]⟩
 .rw[AM e];exact⟨fun _=>rfl,fun _=>rfl⟩
 .rw[Bt e];unfold EU;split
  .exact⟨fun _=>rfl,fun _=>rfl⟩
  .exact⟨fun _=>(hst _ _).1,fun _=>(hst _ _).2⟩
def B6(T:Nat->Prop)(w:World)(p:Option Addr)(l:List Int):Prop:=l=[]\/∃b o,p=some ⟨b,o,none⟩/\¬T b/\b<w.heap.size/\∀j,j<l.length->w.cell? ⟨b,o+j,none⟩=some (.int .i64 (CG l j))
section
variable {T U : Nat -> Prop} {w w' : World} {p : Option Addr} {l : List Int}
theorem B6.num(h:B6 T w p l):C6 w p l:=by
 rcases h with rfl|⟨b,o,e,-,-,h⟩
 .exact .inl rfl
 .exact .inr ⟨b,o,e,h⟩
theorem B6.un(h:B6 T w p l)(q:Un U w w')(hu:∀b,b<w.heap.size->U b->T b):B6 T w' p l:=
 h.imp id fun⟨b,o,e,ht,hb,h⟩=>⟨b,o,e,ht,Nat.lt_of_lt_of_le hb q.size,fun j hj=>(gC (q.block b hb fun k=>ht (hu b hb k))).trans (h j hj)⟩
theorem B6.below(h:B6 T w p l)(q:Below w.heap.size w w'):B6 T w' p l:=h.un (U:=fun _=>False) (Un.of q) (fun _ _ e=>e.elim)
theorem B6.mono(h:B6 T w p l)(hu:∀b,b<w.heap.size->U b->T b):B6 U w p l:=
 h.imp id fun⟨b,o,e,ht,hb,h⟩=>⟨b,o,e,fun k=>ht (hu b hb k),hb,h⟩
theorem C6.free{B:Nat}(h:C6 w p l)(hl:∀b o s,p=some ⟨b,o,s⟩->B<=b)(ht:∀b,T b->b<B):B6 T w p l:=by
 by_cases h0:l=[]
 .exact .inl h0
 .rcases h with h|⟨b,o,e,h⟩
  .exact absurd (List.length_eq_zero_iff.1 h) h0
  .have:=List.length_pos_iff.2 h0;exact .inr ⟨b,o,e,fun k=>by have h1:=ht b k;have h2:=hl b o none e;omega,A8 (h 0 this),h⟩
end
structure AT(T:Nat->Prop)(w:World)(v:Value)(X:List Cl):Prop where
 row:F6 T 2 SJ w v X
 nums:∀x∈X,B6 T w x.p x.h.pats
structure Ie(T:Nat->Prop)(w:World)(v:Value)(X:List Cl):Prop where
 row:F6 T 1 UH w v X
 nums:∀x∈X,B6 T w x.p x.h.pats
section
variable {T U : Nat -> Prop} {w w' : World} {v : Value} {X : List Cl}
theorem AT.cs(h:AT T w v X):Yg w v X:=⟨h.row.row,fun x hx=>(h.nums x hx).num⟩
theorem AT.un(h:AT T w v X)(q:Un U w w')(hu:∀b,b<w.heap.size->U b->T b):AT T w' v X:=⟨h.row.un q hu,fun x hx=>(h.nums x hx).un q hu⟩
theorem AT.below(h:AT T w v X)(q:Below w.heap.size w w'):AT T w' v X:=⟨h.row.below q,fun x hx=>(h.nums x hx).below q⟩
theorem AT.mono(h:AT T w v X)(hu:∀b,b<w.heap.size->U b->T b):AT U w v X:=⟨h.row.mono hu,fun x hx=>(h.nums x hx).mono hu⟩
theorem Ie.un(h:Ie T w v X)(q:Un U w w')(hu:∀b,b<w.heap.size->U b->T b):Ie T w' v X:=⟨h.row.un q hu,fun x hx=>(h.nums x hx).un q hu⟩
theorem Ie.below(h:Ie T w v X)(q:Below w.heap.size w w'):Ie T w' v X:=⟨h.row.below q,fun x hx=>(h.nums x hx).below q⟩
theorem Ie.mono(h:Ie T w v X)(hu:∀b,b<w.heap.size->U b->T b):Ie U w v X:=⟨h.row.mono hu,fun x hx=>(h.nums x hx).mono hu⟩
end
theorem Hl{α:Type}{f:α->List Value}{k:Nat}(hf:∀x,(f x).length=k){w:World}{B:Nat}{t:TypeId}{v:Value}{l:List α}(h:w.ownsRow B t k v l.length (Au f l)){T:Nat->Prop}(ht:∀b,T b->b<B):F6 T k f w v l:=by
 have hr:=Du hf h;obtain⟨p,c,rfl,hr⟩:=hr;refine⟨p,c,rfl,hr.imp id fun⟨b,o,e,hc⟩=>⟨b,o,e,fun k=>?_,?_,hc⟩⟩
 .have h1:=EE h b o none e;have h2:=ht b k;omega
 .subst e;exact(h.lt b rfl).2
theorem Ly(x:Cl):∀ (X:List Cl) (d:Nat),d<X.length->((Au SJ X).set (d*2) (.slice x.p x.h.pats.length x.q)).set (d*2+1) (.int .i64 x.h.whole)=Au SJ (X.set d x)
 |[],d,h=>by simp at h
 |y::X,0,h=>rfl
 |y::X,d+1,h=>by
  have ih:=Ly x X d UQ;have e:Au SJ (y::X)=.slice y.p y.h.pats.length y.q:: .int .i64 y.h.whole::Au SJ X:=rfl;rw[e,show(d+1)*2=d*2+1+1 by omega];simp only[List.set_cons_succ];rw[ih];rfl
theorem rput_T{T:Nat->Prop}(v:Value)(X:List Cl)(hX:X.length<=16384)(d:Nat)(hd:d<X.length)(x:Cl)(w:World)(hT:∀b,T b->b<w.heap.size)(h:AT T w v X)(hx:B6 T w x.p x.h.pats):
 Calls prog 70 #[v,.int .i64 (d:Int),.agg #[.slice x.p x.h.pats.length x.q,.int .i64 x.h.whole]] w fun e w'=>∃p q,e=.returned (.slice p X.length q)/\AT T w' (.slice p X.length q) (X.set d x)/\Below w.heap.size w w':=by
 obtain⟨i0,hi0,hz0,hz1,hz2⟩:=info_parts Ii;have hb0:=A0 w (.cells #[.slice x.p x.h.pats.length x.q,.int .i64 x.h.whole] 74);obtain⟨u,w',hr,hb,hown⟩:=Nt dE H8 QW underlying41 hi0 hz0 hz1 hz2 rfl (h.row.row.below hb0) mL oM 41;obtain⟨g,cap,rfl,hg,hgl⟩:=hown.form oM;have hs0:(w.alloc (.cells #[.slice x.p x.h.pats.length x.q,.int .i64 x.h.whole] 74)).heap.size=w.heap.size+1:=sM;have s1:=hown.stored (d*2) (.slice x.p x.h.pats.length x.q);have s2:=s1.1.stored (d*2+1) (.int .i64 x.h.whole);have hfin:=s2.1;rw[Ly x X d hd]at hfin;have hfl:(Au SJ X).length=X.length*2:=Dy H8 X;have y0:∃z,w'.cell? ⟨g,d*2,none⟩=some z:=by
  refine⟨(Au SJ X)[d*2]'oM,?_⟩;rw[hown.cellAt (d*2) oM,gB]
 have y1:∃z,w'.cell? ⟨g,d*2+1,none⟩=some z:=by
  refine⟨(Au SJ X)[d*2+1]'oM,?_⟩;rw[hown.cellAt (d*2+1) oM,gB]
 have f0:=hown.frozenAt (d*2);have f1:=hown.frozenAt (d*2+1);have c0:w'.cell? ⟨w.heap.size,0,none⟩=some (.slice x.p x.h.pats.length x.q):=kc hb sG;have c1:w'.cell? ⟨w.heap.size,1,none⟩=some (.int .i64 x.h.whole):=kc hb sG;obtain⟨z0,y0⟩:=y0;obtain⟨z1,y1⟩:=y1;have hbF:Below w.heap.size w ((w'.setCell ⟨g,d*2,none⟩ (.slice x.p x.h.pats.length x.q)).setCell ⟨g,d*2+1,none⟩ (.int .i64 x.h.whole)):=((bel hb0 hb).setCell Zhu _).setCell Zhu _;have HFIN:Hid (AT T ((w'.setCell ⟨g,d*2,none⟩ (.slice x.p x.h.pats.length x.q)).setCell ⟨g,d*2+1,none⟩ (.int .i64 x.h.whole)) (.slice (some ⟨g,0,none⟩) X.length cap) (X.set d x)/\Below w.heap.size w ((w'.setCell ⟨g,d*2,none⟩ (.slice x.p x.h.pats.length x.q)).setCell ⟨g,d*2+1,none⟩ (.int .i64 x.h.whole))):=by
  refine⟨⟨Hl H8 (by rw[List.length_set];exact hfin) (fun b hb=>by have:=hT b hb;omega),fun y hy=>?_⟩,hbF⟩;rcases List.mem_or_eq_of_mem_set hy with e|rfl
  .exact(h.nums y e).below hbF
  .exact hx.below hbF
 have HR:Hid _:=hr;obtain⟨p,q,rfl,-⟩:=id h.row;obtain⟨N,hN⟩:=gA (X.length)
 rw[hN]at hd hX HR HFIN |-;have d0:(0:Int)<=(d:Int):=oM;have d1:(d:Int)<(N:Int):=oM;clear hr hb hown s1 s2 hfin hfl hbF h hN hT;go_enter func70,ntmps70;go_wp2_with(at_builtin;refine AO rF _ _ _ rF _ _ _ rF rF HR.out ?_);go_ret;exact⟨_,_,rfl,HFIN.1,HFIN.2⟩
def D4(a b c d e f g h i j:Value)(k:Nat):Value:=if k=0 then a else if k=1 then b else if k=2 then c else if k=3 then d else if k=4 then e else if k=5 then f else if k=6 then g else if k=7 then h else if k=8 then i else j
theorem Mt(a b c d e f g h i j:Value):∀k,k<(#[a,b,c,d,e,f,g,h,i,j]:Array Value).size->(#[a,b,c,d,e,f,g,h,i,j]:Array Value)[k]? =some (D4 a b c d e f g h i j k):=by
 intro k hk;have hk':k<10:=hk;obtain rfl|rfl|rfl|rfl|rfl|rfl|rfl|rfl|rfl|rfl:k=0\/k=1\/k=2\/k=3\/k=4\/k=5\/k=6\/k=7\/k=8\/k=9:=oM
 all_goals rfl
def f7(a b c d e f g:Value)(k:Nat):Value:=if k=0 then a else if k=1 then b else if k=2 then c else if k=3 then d else if k=4 then e else if k=5 then f else g
theorem f7_ok(a b c d e f g:Value):∀k,k<(#[a,b,c,d,e,f,g]:Array Value).size->(#[a,b,c,d,e,f,g]:Array Value)[k]? =some (f7 a b c d e f g k):=by
 intro k hk;have hk':k<7:=hk;obtain rfl|rfl|rfl|rfl|rfl|rfl|rfl:k=0\/k=1\/k=2\/k=3\/k=4\/k=5\/k=6:=oM
 all_goals rfl
def f2(a b:Value)(k:Nat):Value:=if k=0 then a else b
theorem f2_ok(a b:Value):∀k,k<(#[a,b]:Array Value).size->(#[a,b]:Array Value)[k]? =some (f2 a b k):=by
 intro k hk;have hk':k<2:=hk;obtain rfl|rfl:k=0\/k=1:=oM
 all_goals rfl
structure DW(w:World)(F I D:Nat->Value)(v:World):Prop where
 bel:Below w.heap.size w v
 f:v.rowIs w.heap.size 110 10 F
 i:v.rowIs (w.heap.size+1) 40 7 I
 r:v.rowIs (w.heap.size+1+1) 110 10 (D4 (.slice none 0 0) (.slice none 0 0) (.slice none 0 0) (.slice none 0 0) (.slice none 0 0) (.slice none 0 0) (.slice none 0 0) (.slice none 0 0) (.slice none 0 0) (.int .i64 0))
 d:v.rowIs (w.heap.size+1+1+1) 74 2 D
theorem DW.next{w:World}{F I D:Nat->Value}{v v':World}(h:DW w F I D v)(k:Below v.heap.size v v'):DW w F I D v':=
 ⟨Go.Proofs.YtnbccaicijcklaaGreat.bel h.bel k,h.f.of_block (k.block _ h.f.lt),h.i.of_block (k.block _ h.i.lt),h.r.of_block (k.block _ h.r.lt),h.d.of_block (k.block _ h.d.lt)⟩
theorem DW.size{w:World}{F I D:Nat->Value}{v:World}(h:DW w F I D v):w.heap.size+1+1+1<v.heap.size:=h.d.lt
theorem DW.put{w:World}{F I D:Nat->Value}{v:World}(h:DW w F I D v)(i:Nat)(x:Value):DW w F I (fun j=>if j=i then x else D j) (v.setCell ⟨w.heap.size+1+1+1,i,none⟩ x):=
 ⟨h.bel.setCell (by show w.heap.size<=w.heap.size+1+1+1;omega) _,h.f.setOther (by show w.heap.size≠w.heap.size+1+1+1;omega) _,h.i.setOther (by show w.heap.size+1≠w.heap.size+1+1+1;omega) _,h.r.setOther (by show w.heap.size+1+1≠w.heap.size+1+1+1;omega) _,h.d.set i x⟩
theorem DW.congr{w:World}{F I D D':Nat->Value}{v:World}(h:DW w F I D v)(k:∀j,j<2->D j=D' j):DW w F I D' v:=⟨h.bel,h.f,h.i,h.r,h.d.congr k⟩
theorem DW.start(w:World)(a0 a1 a2 a3 a4 a5 a6 a7 a8 a9 b0 b1 b2 b3 b4 b5 b6:Value):DW w (D4 a0 a1 a2 a3 a4 a5 a6 a7 a8 a9) (f7 b0 b1 b2 b3 b4 b5 b6) (f2 (.slice none 0 0) (.int .i64 0)) ((((w.alloc (.cells #[a0,a1,a2,a3,a4,a5,a6,a7,a8,a9] 110)).alloc (.cells #[b0,b1,b2,b3,b4,b5,b6] 40)).alloc (.cells #[.slice none 0 0,.slice none 0 0,.slice none 0 0,.slice none 0 0,.slice none 0 0,.slice none 0 0,.slice none 0 0,.slice none 0 0,.slice none 0 0,.int .i64 0] 110)).alloc (.cells #[.slice none 0 0,.int .i64 0] 74)):=by
 have r1:=World.rowIs_alloc w #[a0,a1,a2,a3,a4,a5,a6,a7,a8,a9] 110 _ (Mt _ _ _ _ _ _ _ _ _ _);have r2:=World.rowIs_alloc (w.alloc (.cells #[a0,a1,a2,a3,a4,a5,a6,a7,a8,a9] 110)) #[b0,b1,b2,b3,b4,b5,b6] 40 _ (f7_ok _ _ _ _ _ _ _);have r3:=World.rowIs_alloc ((w.alloc (.cells #[a0,a1,a2,a3,a4,a5,a6,a7,a8,a9] 110)).alloc (.cells #[b0,b1,b2,b3,b4,b5,b6] 40)) #[.slice none 0 0,.slice none 0 0,.slice none 0 0,.slice none 0 0,.slice none 0 0,.slice none 0 0,.slice none 0 0,.slice none 0 0,.slice none 0 0,.int .i64 0] 110 _ (Mt _ _ _ _ _ _ _ _ _ _);have r4:=World.rowIs_alloc (((w.alloc (.cells #[a0,a1,a2,a3,a4,a5,a6,a7,a8,a9] 110)).alloc (.cells #[b0,b1,b2,b3,b4,b5,b6] 40)).alloc (.cells #[.slice none 0 0,.slice none 0 0,.slice none 0 0,.slice none 0 0,.slice none 0 0,.slice none 0 0,.slice none 0 0,.slice none 0 0,.slice none 0 0,.int .i64 0] 110)) #[.slice none 0 0,.int .i64 0] 74 _ (f2_ok _ _);simp only[World.size_alloc]at r2 r3 r4;exact⟨Go.Proofs.YtnbccaicijcklaaGreat.bel (A0 _ _) (Go.Proofs.YtnbccaicijcklaaGreat.bel (A0 _ _) (Go.Proofs.YtnbccaicijcklaaGreat.bel (A0 _ _) (A0 _ _))),((r1.alloc _).alloc _).alloc _,(r2.alloc _).alloc _,r3.alloc _,r4⟩
theorem Li(c:Cd)(hg:Good c)(v0 v1 v2 v3 ru su ou gu pu ct:Value)(X:List Cl)(hX:X.length=c.regs.length)(op nn bt:Int)(kd ka kb kk:Nat)(hd:kd<c.regs.length)(ha:ka<X.length)(hb:kb<X.length)(hc:kk<X.length)(h2:c.regs[kd].kind≠2)(ht:c.regs[kd].kind=3->Av c.regs[kd].par c.sign.length=true)
 (m:Nat) (hm:CC op=m) (h0:m≠0) (n:Nat) (hs:Eo (lF (Dm X[ka].h.pats X[kb].h.pats X[kk].h.pats m)) (m-1)=some n) (hn1:1<=n) (hn:n<=4096)
 (hP:∀x∈X,∀y∈x.h.pats,AH y) (hL:∀x∈X,x.h.pats.length<=4096) (w:World) (hv:CD w v0 v1 v2 v3 c) (hcs:Yg w ru X):
 Calls prog 62 #[.agg #[v0,v1,v2,v3,ru,su,ou,gu,pu,ct],.agg #[.int .i64 op,.int .i64 (kd:Int),.int .i64 (ka:Int),.int .i64 (kb:Int),.int .i64 (kk:Int),.int .i64 nn,.int .u32 bt]] w fun e w'=>
  ∃p q,e=.returned (.agg #[.slice p (UF (if c.regs[kd].kind=3 then lenOf c c.regs[kd].par else 1) (D3 op (Dm X[ka].h.pats X[kb].h.pats X[kk].h.pats m))).length q,.int .i64 0])/\C6 w' p (UF (if c.regs[kd].kind=3 then lenOf c c.regs[kd].par else 1) (D3 op (Dm X[ka].h.pats X[kb].h.pats X[kk].h.pats m)))/\Below w.heap.size w w'/\∀b o s,p=some ⟨b,o,s⟩->w.heap.size<=b:=by
 have KW:=Fm v0 v1 v2 v3 c hg c.regs[kd] ht;have hwid:(if c.regs[kd].kind=3 then lenOf c c.regs[kd].par else 1)<=4096:=by split;exact hg.lenOf _;omega
 obtain⟨p1,q1,rfl,-⟩:=id hv.regs;obtain⟨lb,lo,rfl,hreg⟩:=hv.regs.at hd;obtain⟨pr,qr,rfl,-⟩:=id hcs.row;obtain⟨rb,ro,rfl,hca⟩:=hcs.row.at ha;obtain⟨rb2,ro2,e2,hcb⟩:=hcs.row.at hb;obtain⟨rb3,ro3,e3,hcc⟩:=hcs.row.at hc;simp only[Option.some.injEq,Addr.mk.injEq,and_true]at e2 e3;obtain⟨rfl,rfl⟩:=e2;obtain⟨rfl,rfl⟩:=e3;have KA:=apply3 op m hm h0 X[ka] X[kb] X[kk] n hs (hP _ (gD ha)) (hP _ (gD hb)) (hP _ (gD hc)) (hL _ (gD ha)) (hL _ (gD hb)) (hL _ (gD hc));have na:=hcs.nums _ (gD ha);have nb:=hcs.nums _ (gD hb);have nc:=hcs.nums _ (gD hc);obtain⟨xa,hxa⟩:∃x,X[ka]=x:=⟨_,rfl⟩
 obtain⟨xb,hxb⟩:∃x,X[kb]=x:=⟨_,rfl⟩
 obtain⟨xc,hxc⟩:∃x,X[kk]=x:=⟨_,rfl⟩
 rw[hxa]at hca na;rw[hxb]at hcb nb;rw[hxc]at hcc nc;rw[hxa,hxb,hxc]at KA |-;obtain⟨RR,hRR⟩:∃R,D3 op (Dm xa.h.pats xb.h.pats xc.h.pats m)=R:=⟨_,rfl⟩
 rw[hRR]at KA |-;obtain⟨⟨tk,tp⟩,hT⟩:∃t:Ty,c.regs[kd]=t:=⟨_,rfl⟩
 rw[hT]at hreg h2 KW hwid |-;unfold DY at KW;simp only at h2 KW hwid |-;obtain⟨Wd,hWd⟩:∃W,(if tk=3 then lenOf c tp else 1)=W:=⟨_,rfl⟩
 have hWi:(if tk=3 then(lenOf c tp:Int)else 1)=(Wd:Int):=by rw[<-hWd];split<;>rfl
 rw[hWi]at KW;rw[hWd]at hwid |-;obtain⟨n1,hn1'⟩:∃n,c.regs.length=n:=⟨_,rfl⟩
 rw[hX]at ha hb hc |-;rw[hn1']at hd ha hb hc KW |-;have hregsL:=hg.regsL;rw[hn1']at hregsL;obtain⟨LA,hLA⟩:∃l,xa.h.pats.length=l:=⟨_,rfl⟩
 obtain⟨LB,hLB⟩:∃l,xb.h.pats.length=l:=⟨_,rfl⟩
 obtain⟨LC,hLC⟩:∃l,xc.h.pats.length=l:=⟨_,rfl⟩
 have y0:w.cell? ⟨rb,ro+ka*2,none⟩=some (.slice xa.p LA xa.q):=by rw[<-hLA];exact hca.at 0 rfl
 have y1:w.cell? ⟨rb,ro+kb*2,none⟩=some (.slice xb.p LB xb.q):=by rw[<-hLB];exact hcb.at 0 rfl
 have y2:w.cell? ⟨rb,ro+kk*2,none⟩=some (.slice xc.p LC xc.q):=by rw[<-hLC];exact hcc.at 0 rfl
 rw[hLA,hLB,hLC]at KA;have z0:w.cell? ⟨lb,lo+kd*2,none⟩=some (.int .i64 tk):=hreg.at 0 rfl;have z1:w.cell? ⟨lb,lo+kd*2+1,none⟩=some (.int .i64 tp):=hreg.at 1 rfl;have hba:Below w.heap.size w (((w.alloc (.cells #[v0,.slice (some ⟨lb,lo,none⟩) n1 q1,v2,v3,.slice (some ⟨rb,ro,none⟩) n1 qr,su,ou,gu,pu,ct] 110)).alloc (.cells #[.int .i64 op,.int .i64 (kd:Int),.int .i64 (ka:Int),.int .i64 (kb:Int),.int .i64 (kk:Int),.int .i64 nn,.int .u32 bt] 40)).alloc (.cells #[.slice none 0 0,.int .i64 0] 74)):=bel (A0 _ _) (bel (A0 _ _) (A0 _ _));have b1:(((w.alloc (.cells #[v0,.slice (some ⟨lb,lo,none⟩) n1 q1,v2,v3,.slice (some ⟨rb,ro,none⟩) n1 qr,su,ou,gu,pu,ct] 110)).alloc (.cells #[.int .i64 op,.int .i64 (kd:Int),.int .i64 (ka:Int),.int .i64 (kb:Int),.int .i64 (kk:Int),.int .i64 nn,.int .u32 bt] 40)).alloc (.cells #[.slice none 0 0,.int .i64 0] 74)).cell? ⟨w.heap.size,1,none⟩=some (.slice (some ⟨lb,lo,none⟩) n1 q1):=kc (A0 _ _) (kc (A0 _ _) sG);have b2:(((w.alloc (.cells #[v0,.slice (some ⟨lb,lo,none⟩) n1 q1,v2,v3,.slice (some ⟨rb,ro,none⟩) n1 qr,su,ou,gu,pu,ct] 110)).alloc (.cells #[.int .i64 op,.int .i64 (kd:Int),.int .i64 (ka:Int),.int .i64 (kb:Int),.int .i64 (kk:Int),.int .i64 nn,.int .u32 bt] 40)).alloc (.cells #[.slice none 0 0,.int .i64 0] 74)).cell? ⟨w.heap.size+1,1,none⟩=some (.int .i64 (kd:Int)):=kc (A0 _ _) sG;have b3:=kc hba z0;have b4:=kc hba z1;have HE:Hid (P4 w v0 (.slice (some ⟨lb,lo,none⟩) n1 q1) v2 v3 (.slice (some ⟨rb,ro,none⟩) n1 qr) op (kd:Int) (ka:Int) (kb:Int) (kk:Int) tk tp rb (ro+ka*2) (ro+kb*2) (ro+kk*2) (.slice xa.p LA xa.q) (.slice xb.p LB xb.q) (.slice xc.p LC xc.q) ((((w.alloc (.cells #[v0,.slice (some ⟨lb,lo,none⟩) n1 q1,v2,v3,.slice (some ⟨rb,ro,none⟩) n1 qr,su,ou,gu,pu,ct] 110)).alloc (.cells #[.int .i64 op,.int .i64 (kd:Int),.int .i64 (ka:Int),.int .i64 (kb:Int),.int .i64 (kk:Int),.int .i64 nn,.int .u32 bt] 40)).alloc (.cells #[.slice none 0 0,.int .i64 0] 74)).alloc (.cells #[.int .i64 tk,.int .i64 tp] 59))):=by
  have k4:=A0 (((w.alloc (.cells #[v0,.slice (some ⟨lb,lo,none⟩) n1 q1,v2,v3,.slice (some ⟨rb,ro,none⟩) n1 qr,su,ou,gu,pu,ct] 110)).alloc (.cells #[.int .i64 op,.int .i64 (kd:Int),.int .i64 (ka:Int),.int .i64 (kb:Int),.int .i64 (kk:Int),.int .i64 nn,.int .u32 bt] 40)).alloc (.cells #[.slice none 0 0,.int .i64 0] 74)) (.cells #[.int .i64 tk,.int .i64 tp] 59);have k3:=A0 ((w.alloc (.cells #[v0,.slice (some ⟨lb,lo,none⟩) n1 q1,v2,v3,.slice (some ⟨rb,ro,none⟩) n1 qr,su,ou,gu,pu,ct] 110)).alloc (.cells #[.int .i64 op,.int .i64 (kd:Int),.int .i64 (ka:Int),.int .i64 (kb:Int),.int .i64 (kk:Int),.int .i64 nn,.int .u32 bt] 40)) (.cells #[.slice none 0 0,.int .i64 0] 74);have k2:=A0 (w.alloc (.cells #[v0,.slice (some ⟨lb,lo,none⟩) n1 q1,v2,v3,.slice (some ⟨rb,ro,none⟩) n1 qr,su,ou,gu,pu,ct] 110)) (.cells #[.int .i64 op,.int .i64 (kd:Int),.int .i64 (ka:Int),.int .i64 (kb:Int),.int .i64 (kk:Int),.int .i64 nn,.int .u32 bt] 40);have hrr:=World.rowIs_alloc ((w.alloc (.cells #[v0,.slice (some ⟨lb,lo,none⟩) n1 q1,v2,v3,.slice (some ⟨rb,ro,none⟩) n1 qr,su,ou,gu,pu,ct] 110)).alloc (.cells #[.int .i64 op,.int .i64 (kd:Int),.int .i64 (ka:Int),.int .i64 (kb:Int),.int .i64 (kk:Int),.int .i64 nn,.int .u32 bt] 40)) #[.slice none 0 0,.int .i64 0] 74 Vc YQ;rw[show((w.alloc (.cells #[v0,.slice (some ⟨lb,lo,none⟩) n1 q1,v2,v3,.slice (some ⟨rb,ro,none⟩) n1 qr,su,ou,gu,pu,ct] 110)).alloc (.cells #[.int .i64 op,.int .i64 (kd:Int),.int .i64 (ka:Int),.int .i64 (kb:Int),.int .i64 (kk:Int),.int .i64 nn,.int .u32 bt] 40)).heap.size=w.heap.size+1+1 by simp]at hrr;refine⟨bel hba k4,kc k4 (kc k3 (kc k2 ?_)),kc k4 (kc k3 (kc k2 ?_)),kc k4 (kc k3 (kc k2 ?_)),kc k4 (kc k3 (kc k2 ?_)),kc k4 (kc k3 (kc k2 ?_)),kc k4 (kc k3 ?_),kc k4 (kc k3 ?_),kc k4 (kc k3 ?_),kc k4 (kc k3 ?_),kc k4 (kc k3 ?_),kc k4 ?_,kc k4 ?_,hrr.alloc _,kf k4 (by simp[go_sem]:(((w.alloc (.cells #[v0,.slice (some ⟨lb,lo,none⟩) n1 q1,v2,v3,.slice (some ⟨rb,ro,none⟩) n1 qr,su,ou,gu,pu,ct] 110)).alloc (.cells #[.int .i64 op,.int .i64 (kd:Int),.int .i64 (ka:Int),.int .i64 (kb:Int),.int .i64 (kk:Int),.int .i64 nn,.int .u32 bt] 40)).alloc (.cells #[.slice none 0 0,.int .i64 0] 74)).cell? ⟨w.heap.size+1+1,0,none⟩=some (.slice none 0 0)) sG,kf k4 (by simp[go_sem]:(((w.alloc (.cells #[v0,.slice (some ⟨lb,lo,none⟩) n1 q1,v2,v3,.slice (some ⟨rb,ro,none⟩) n1 qr,su,ou,gu,pu,ct] 110)).alloc (.cells #[.int .i64 op,.int .i64 (kd:Int),.int .i64 (ka:Int),.int .i64 (kb:Int),.int .i64 (kk:Int),.int .i64 nn,.int .u32 bt] 40)).alloc (.cells #[.slice none 0 0,.int .i64 0] 74)).cell? ⟨w.heap.size+1+1,1,none⟩=some (.int .i64 0)) sG,?_,?_,kc (bel hba k4) y0,kc (bel hba k4) y1,kc (bel hba k4) y2⟩
  all_goals simp[go_sem]
 obtain⟨-,a0,a1,a2,a3,a4,i0,i1,i2,i3,i4,r0,r1,-,f0,f1,t0,t1,x0,x1,x2⟩:=HE.out;have d1:(0:Int)<=(kd:Int):=oM;have d2:(kd:Int)<(n1:Int):=oM;have d3:(ka:Int)<(n1:Int):=oM;have d4:(kb:Int)<(n1:Int):=oM;have d5:(kk:Int)<(n1:Int):=oM;have h2b:(tk==2)=false:=by simpa using h2
 have HKW:Hid (∀v,Below w.heap.size w v->Calls prog 40 #[.agg #[v0,.slice (some ⟨lb,lo,none⟩) n1 q1,v2,v3],.agg #[.int .i64 tk,.int .i64 tp]] v fun e w'=>e=.returned (.int .i64 (Wd:Int))/\Below v.heap.size v w'):=fun v hb=>KW v (by have h9:=hv.below hb;rw[hn1']at h9;exact h9);have HKA:Hid _:=KA;have HNA:Hid (C6 w xa.p xa.h.pats/\C6 w xb.p xb.h.pats/\C6 w xc.p xc.h.pats):=⟨na,nb,nc⟩
 have HLN:Hid (xa.h.pats.length=LA/\xb.h.pats.length=LB/\xc.h.pats.length=LC):=⟨hLA,hLB,hLC⟩
 have HTK:Hid (∀v,Calls prog 91 #[.int .i64 op] v fun e w'=>e=.returned (.int .i64 (m:Int))/\w'=v):=fun v=>by rw[<-hm];exact Km op v
 have hm3:m<=3:=by rw[<-hm];exact Ky op
 clear KW KA hreg hca hcb hcc hcs hv hg hP hL hT hX h2 ht hs hm hRR hxa hxb hxc hWd hWi na nb nc hLA hLB hLC hn1' y0 y1 y2 z0 z1;go_enter func62,ntmps62;go_wp2;refine rG (fun v=>v.cell? ⟨w.heap.size,4,none⟩=some (.slice (some ⟨rb,ro,none⟩) n1 qr)/\v.cell? ⟨w.heap.size+1,2,none⟩=some (.int .i64 (ka:Int))/\v.cell? ⟨w.heap.size+1,3,none⟩=some (.int .i64 (kb:Int))/\v.cell? ⟨w.heap.size+1,4,none⟩=some (.int .i64 (kk:Int))/\v.cell? ⟨rb,ro+ka*2,none⟩=some (.slice xa.p LA xa.q)/\v.cell? ⟨rb,ro+kb*2,none⟩=some (.slice xb.p LB xb.q)/\v.cell? ⟨rb,ro+kk*2,none⟩=some (.slice xc.p LC xc.q)) fun hJ=>?_;refine Tf 0 1 2 3 4 5 ?_;refine Tf 6 7 8 9 10 11 ?_;refine Tf 12 13 14 15 16 17 ?_;refine Tc 18 19 20 ?_;clear hJ;refine Aw 21 fun K hK=>?_;go_simp;refine Aq hK fun hJ=>?_;clear hK K;refine Bo 22 ?_;refine wpAnyH_done kR ?_ _;have HE2:Hid (P4 w v0 (.slice (some ⟨lb,lo,none⟩) n1 q1) v2 v3 (.slice (some ⟨rb,ro,none⟩) n1 qr) op (kd:Int) (ka:Int) (kb:Int) (kk:Int) tk tp rb (ro+ka*2) (ro+kb*2) (ro+kk*2) (.slice xa.p LA xa.q) (.slice xb.p LB xb.q) (.slice xc.p LC xc.q) ((((((w.alloc (.cells #[v0,.slice (some ⟨lb,lo,none⟩) n1 q1,v2,v3,.slice (some ⟨rb,ro,none⟩) n1 qr,su,ou,gu,pu,ct] 110)).alloc (.cells #[.int .i64 op,.int .i64 (kd:Int),.int .i64 (ka:Int),.int .i64 (kb:Int),.int .i64 (kk:Int),.int .i64 nn,.int .u32 bt] 40)).alloc (.cells #[.slice none 0 0,.int .i64 0] 74)).alloc (.cells #[.int .i64 tk,.int .i64 tp] 59)).alloc (.cells #[.slice xa.p LA xa.q,.slice xb.p LB xb.q,.slice xc.p LC xc.q] 72)).drew)):=(HE.next (A0 _ _)).next (A9 _);have HG:Hid (((((((w.alloc (.cells #[v0,.slice (some ⟨lb,lo,none⟩) n1 q1,v2,v3,.slice (some ⟨rb,ro,none⟩) n1 qr,su,ou,gu,pu,ct] 110)).alloc (.cells #[.int .i64 op,.int .i64 (kd:Int),.int .i64 (ka:Int),.int .i64 (kb:Int),.int .i64 (kk:Int),.int .i64 nn,.int .u32 bt] 40)).alloc (.cells #[.slice none 0 0,.int .i64 0] 74)).alloc (.cells #[.int .i64 tk,.int .i64 tp] 59)).alloc (.cells #[.slice xa.p LA xa.q,.slice xb.p LB xb.q,.slice xc.p LC xc.q] 72)).drew).cell? ⟨w.heap.size+1+1+1+1,0,none⟩=some (.slice xa.p LA xa.q)/\((((((w.alloc (.cells #[v0,.slice (some ⟨lb,lo,none⟩) n1 q1,v2,v3,.slice (some ⟨rb,ro,none⟩) n1 qr,su,ou,gu,pu,ct] 110)).alloc (.cells #[.int .i64 op,.int .i64 (kd:Int),.int .i64 (ka:Int),.int .i64 (kb:Int),.int .i64 (kk:Int),.int .i64 nn,.int .u32 bt] 40)).alloc (.cells #[.slice none 0 0,.int .i64 0] 74)).alloc (.cells #[.int .i64 tk,.int .i64 tp] 59)).alloc (.cells #[.slice xa.p LA xa.q,.slice xb.p LB xb.q,.slice xc.p LC xc.q] 72)).drew).cell? ⟨w.heap.size+1+1+1+1,1,none⟩=some (.slice xb.p LB xb.q)/\((((((w.alloc (.cells #[v0,.slice (some ⟨lb,lo,none⟩) n1 q1,v2,v3,.slice (some ⟨rb,ro,none⟩) n1 qr,su,ou,gu,pu,ct] 110)).alloc (.cells #[.int .i64 op,.int .i64 (kd:Int),.int .i64 (ka:Int),.int .i64 (kb:Int),.int .i64 (kk:Int),.int .i64 nn,.int .u32 bt] 40)).alloc (.cells #[.slice none 0 0,.int .i64 0] 74)).alloc (.cells #[.int .i64 tk,.int .i64 tp] 59)).alloc (.cells #[.slice xa.p LA xa.q,.slice xb.p LB xb.q,.slice xc.p LC xc.q] 72)).drew).cell? ⟨w.heap.size+1+1+1+1,2,none⟩=some (.slice xc.p LC xc.q)):=⟨sG,sG,sG⟩
 obtain⟨W2,hW2⟩:∃W,(((((w.alloc (.cells #[v0,.slice (some ⟨lb,lo,none⟩) n1 q1,v2,v3,.slice (some ⟨rb,ro,none⟩) n1 qr,su,ou,gu,pu,ct] 110)).alloc (.cells #[.int .i64 op,.int .i64 (kd:Int),.int .i64 (ka:Int),.int .i64 (kb:Int),.int .i64 (kk:Int),.int .i64 nn,.int .u32 bt] 40)).alloc (.cells #[.slice none 0 0,.int .i64 0] 74)).alloc (.cells #[.int .i64 tk,.int .i64 tp] 59)).alloc (.cells #[.slice xa.p LA xa.q,.slice xb.p LB xb.q,.slice xc.p LC xc.q] 72)).drew=W:=⟨_,rfl⟩
 rw[hW2]at HE2 HG;rw[hW2];clear a0 a1 a2 a3 a4 i0 i1 i2 i3 i4 r0 r1 f0 f1 t0 t1 x0 x1 x2;clear hW2 HE b1 b2 b3 b4 hba;obtain⟨-,a0,a1,a2,a3,a4,i0,i1,i2,i3,i4,r0,r1,-,f0,f1,t0,t1,x0,x1,x2⟩:=HE2.out;have HGD:Hid (W2.drew.cell? ⟨w.heap.size+1+1+1+1,0,none⟩=some (.slice xa.p LA xa.q)/\W2.drew.cell? ⟨w.heap.size+1+1+1+1,1,none⟩=some (.slice xb.p LB xb.q)/\W2.drew.cell? ⟨w.heap.size+1+1+1+1,2,none⟩=some (.slice xc.p LC xc.q)):=HG.out;have s1:=fun w9=>F3 und_LL size_LL (some ⟨w.heap.size+1+1+1+1,0,none⟩) 3 3 m oM w9;go_wp2;refine rG (fun v=>v.cell? ⟨w.heap.size+1,0,none⟩=some (.int .i64 op)) fun hJ=>?_;refine Tc 0 1 2 ?_;refine Tb 3 4 ?_;clear hJ;refine Aw 5 fun K hK=>?_;go_simp;(go_at_call 91;(with_reducible refine(HTK.out _).mono ?_);rintro e w3 ⟨rfl,rfl⟩);try(go_wp2_with fail)
 refine Aq hK fun hJ=>?_;clear hK K;refine Bo 6 ?_;clear hJ;refine Aw 7 fun K hK=>?_;go_simp;(go_at_call 90;(with_reducible refine(HKA.out (w.heap.size+1+1+1+1) W2.drew HGD.out.1 HGD.out.2.1 HGD.out.2.2 (HNA.out.1.below (bel HE2.out.bel (A9 _))) (HNA.out.2.1.below (bel HE2.out.bel (A9 _))) (HNA.out.2.2.below (bel HE2.out.bel (A9 _)))).mono ?_);rintro e w4 ⟨ql,cl,rfl,hnl,hln,hRP,hb4,hlo4⟩;have HLO4:Hid (∀b o s,ql=some ⟨b,o,s⟩->W2.drew.heap.size<=b):=hlo4;have HNL:Hid (C6 w4 ql RR):=hnl;have HLR:Hid (RR.length=n):=hln;have HRP:Hid (∀y∈RR,AH y):=hRP;have HE4:Hid (P4 w v0 (.slice (some ⟨lb,lo,none⟩) n1 q1) v2 v3 (.slice (some ⟨rb,ro,none⟩) n1 qr) op (kd:Int) (ka:Int) (kb:Int) (kk:Int) tk tp rb (ro+ka*2) (ro+kb*2) (ro+kk*2) (.slice xa.p LA xa.q) (.slice xb.p LB xb.q) (.slice xc.p LC xc.q) w4):=HE2.out.next (bel (A9 _) hb4);clear hnl hln hRP hb4 hlo4 a0 a1 a2 a3 a4 i0 i1 i2 i3 i4 r0 r1 f0 f1 t0 t1 x0 x1 x2;obtain⟨-,a0,a1,a2,a3,a4,i0,i1,i2,i3,i4,r0,r1,-,f0,f1,t0,t1,x0,x1,x2⟩:=HE4.out);try(go_wp2_with fail)
 refine Aq hK fun hJ=>?_;clear hK K;refine Tc 8 9 10 ?_;refine Tb 11 12 ?_;refine wpAnyH_done kR ?_ _;by_cases h1:n=1
 .have h1b:((n:Int)==1)=true:=by simp[h1]
  have hrl:RR.length=1:=by rw[HLR.out];exact h1
  have he:UF Wd RR=List.replicate Wd (An (CG RR 0)):=by
   unfold UF;rw[if_pos hrl];cases hR9:RR with
   |nil=>rw[hR9]at hrl;simp at hrl
   |cons a r=>rfl
  have HEL:Hid (UF Wd RR=List.replicate Wd (An (CG RR 0))):=he;have hx9:∃bq oq,ql=some ⟨bq,oq,none⟩/\w4.cell? ⟨bq,oq,none⟩=some (.int .i64 (CG RR 0)):=by
   rcases HNL.out with e|⟨bq,oq,e,hc9⟩
   .omega
   .exact⟨bq,oq,e,hc9 0 oM⟩
  obtain⟨bq,oq,rfl,hl0⟩:=hx9;have hPz:AH (CG RR 0):=CR HRP.out 0;have KF:=Iv Wd (CG RR 0) hPz oM;obtain⟨z9,hz9⟩:∃z,CG RR 0=z:=⟨_,rfl⟩
  rw[hz9]at hl0 KF;have HZ9:Hid (CG RR 0=z9):=hz9;have HKF:Hid (∀v,Calls prog 39 #[.int .i64 (Wd:Int),.int .i64 z9] v fun e w'=>∃q cap,e=.returned (.tuple #[.slice q Wd cap,.int .i64 0])/\Bb w' q Wd (fun i=>.int .i64 (An z9))/\Below v.heap.size v w'/\∀b o s,q=some ⟨b,o,s⟩->v.heap.size<=b):=KF;have hn0:(0:Int)<(n:Int):=oM;clear he hrl KF hz9 hPz;go_wp2;refine rG (fun v=>v.cell? ⟨w.heap.size,0,none⟩=some v0/\v.cell? ⟨w.heap.size,1,none⟩=some (.slice (some ⟨lb,lo,none⟩) n1 q1)/\v.cell? ⟨w.heap.size,2,none⟩=some v2/\v.cell? ⟨w.heap.size,3,none⟩=some v3/\v.cell? ⟨w.heap.size+1+1+1,0,none⟩=some (.int .i64 tk)/\v.cell? ⟨w.heap.size+1+1+1,1,none⟩=some (.int .i64 tp)/\v.cell? ⟨bq,oq,none⟩=some (.int .i64 z9)) fun hJ=>?_;refine Tf 0 1 2 4 5 6 ?_;clear hJ;refine Aw 3 fun K hK=>?_;go_simp;(go_at_call 40;(with_reducible refine(HKW.out _ (bel HE4.out.bel (A9 _))).mono ?_);rintro e w5 ⟨rfl,hb5⟩;have HB5:Hid (Below w4.heap.size w4 w5):=bel (A9 _) hb5;clear hb5 a0 a1 a2 a3 a4 i0 i1 i2 i3 i4 r0 r1 f0 f1 t0 t1 x0 x1 x2;obtain⟨-,a0,a1,a2,a3,a4,i0,i1,i2,i3,i4,r0,r1,-,f0,f1,t0,t1,x0,x1,x2⟩:=HE4.out.next HB5.out;have hl5:=kc HB5.out hl0);try(go_wp2_with fail)
  refine Aq hK fun hJ=>?_;clear hK K;clear hJ;refine Aw 7 fun K hK=>?_;go_simp;(go_at_call 39;(with_reducible refine(HKF.out _).mono ?_);rintro e w6 ⟨pf,qf,rfl,hrf,hb6,hfr⟩;have HE6:Hid (P4 w v0 (.slice (some ⟨lb,lo,none⟩) n1 q1) v2 v3 (.slice (some ⟨rb,ro,none⟩) n1 qr) op (kd:Int) (ka:Int) (kb:Int) (kk:Int) tk tp rb (ro+ka*2) (ro+kb*2) (ro+kk*2) (.slice xa.p LA xa.q) (.slice xb.p LB xb.q) (.slice xc.p LC xc.q) w6):=(HE4.out.next HB5.out).next hb6;have HRF:Hid (Bb w6 pf Wd (fun i=>.int .i64 (An z9))):=hrf;have HFR:Hid (∀b o s,pf=some ⟨b,o,s⟩->w5.heap.size<=b):=hfr;have HS5:Hid (w.heap.size+1+1<w5.heap.size):=A8 r0;have hl6:=kc hb6 hl5;clear hb6 hrf hfr a0 a1 a2 a3 a4 i0 i1 i2 i3 i4 r0 r1 f0 f1 t0 t1 x0 x1 x2;obtain⟨-,a0,a1,a2,a3,a4,i0,i1,i2,i3,i4,r0,r1,-,f0,f1,t0,t1,x0,x1,x2⟩:=HE6.out);try(go_wp2_with fail)
  refine Aq hK fun hJ=>?_;clear hK K;refine Tc 8 9 10 ?_;refine Bo 11 ?_;refine wpAnyH_done kR ?_ _;go_wp2;refine bodyPost_ret Zgx rfl ?_;have hbF:Below w.heap.size w ((w6.setCell ⟨w.heap.size+1+1,0,none⟩ (.slice pf Wd qf)).setCell ⟨w.heap.size+1+1,1,none⟩ (.int .i64 0)):=(HE6.bel.setCell Zgi _).setCell Zgi _;rw[HEL.out,HZ9.out];refine⟨pf,qf,by rw[List.length_replicate],?_,hbF,fun b o s e=>by have h3:=HFR.out b o s e;have h4:=HS5.out;omega⟩;show Bb _ _ _ _;rw[List.length_replicate];rcases HRF.out with h9|⟨b,o,rfl,h8⟩
  .exact .inl h9
  .refine .inr ⟨b,o,rfl,fun j hj=>?_⟩;have hne:b≠w.heap.size+1+1:=by have h3:=HFR.out b o none rfl;have h4:=HS5.out;omega
   rw[gC (gE hne),gC (gE hne),h8 j hj];simp only;rw[Ji _ _ hj]
 .have h1b:((n:Int)==1)=false:=by have:(n:Int)≠1:=oM;simpa using this
  have HEL:Hid (UF Wd RR=RR):=by show _=_;unfold UF;rw[if_neg (by rw[HLR.out];exact h1)]
  have HH1:Hid (n≠1):=h1;clear h1;go_wp2;refine bodyPost_ret Zgx rfl ?_;have hbF:Below w.heap.size w ((w4.setCell ⟨w.heap.size+1+1,0,none⟩ (.slice ql n cl)).setCell ⟨w.heap.size+1+1,1,none⟩ (.int .i64 0)):=(HE4.bel.setCell Zgi _).setCell Zgi _;rw[HEL.out,HLR.out];refine⟨ql,cl,rfl,?_,hbF,fun b o s e=>by have h3:=HLO4.out b o s e;have h4:=HE2.bel.size;have h5:W2.drew.heap.size=W2.heap.size:=rfl;omega⟩;have h2l:2<=RR.length:=by rw[HLR.out];have:=HH1.out;omega
  have hne9:=num_ne HE4.rr HNL.out h2l;rcases HNL.out with h9|⟨b,o,rfl,h8⟩
  .exact .inl h9
  .refine .inr ⟨b,o,rfl,fun j hj=>?_⟩;have hne:b≠w.heap.size+1+1:=hne9 b o rfl;rw[gC (gE hne),gC (gE hne),h8 j hj]
def T2(w:World)(T:Nat->Prop)(b:Nat):Prop:=T b\/(w.heap.size<=b/\b<=w.heap.size+1+1+1)
theorem Dk{w:World}{T:Nat->Prop}(hT:∀b,T b->b<w.heap.size){b:Nat}(h:T2 w T b){v:World}(hv:w.heap.size+1+1+1<v.heap.size):b<v.heap.size:=by
 rcases h with h|h
 .have:=hT b h;omega
 .omega
theorem t2_cs{T:Nat->Prop}{w v:World}{u:Value}{X:List Cl}(h:AT T w u X)(k:Below w.heap.size w v):AT (T2 w T) v u X:=(h.mono fun b hb e=>e.elim id fun e=>by omega).below k
theorem Ni{T:Nat->Prop}{w v:World}{p:Option Addr}{l:List Int}(h:B6 T w p l)(k:Below w.heap.size w v):B6 (T2 w T) v p l:=(h.mono fun b hb e=>e.elim id fun e=>by omega).below k
theorem BT{T:Nat->Prop}(ru:Value)(X:List Cl){NN:Nat}(hN:X.length=NN)(hX:NN<=16384)(kd:Nat)(hd:kd<NN)(w:World)(hT:∀b,T b->b<w.heap.size)(hcs:AT T w ru X):∀v F I D (x:Cl),DW w F I D v->B6 (T2 w T) v x.p x.h.pats->Calls prog 70 #[ru,.int .i64 (kd:Int),.agg #[.slice x.p x.h.pats.length x.q,.int .i64 x.h.whole]] v fun e w'=>∃p q,e=.returned (.slice p NN q)/\AT (T2 w T) w' (.slice p NN q) (X.set kd x)/\Below v.heap.size v w':=
 fun v F I D x h hx=>by subst hN;exact rput_T ru X hX kd hd x v (fun b hb=>Dk hT hb h.size) (t2_cs hcs h.bel) hx
structure DE(w:World)(a0 a1 a2 a3 a4 a5 a6 a7 a8 a9:Value)(v:World):Prop where
 bel:Below w.heap.size w v
 c0:v.cell? ⟨w.heap.size,0,none⟩=some a0
 c1:v.cell? ⟨w.heap.size,1,none⟩=some a1
 c2:v.cell? ⟨w.heap.size,2,none⟩=some a2
 c3:v.cell? ⟨w.heap.size,3,none⟩=some a3
 c4:v.cell? ⟨w.heap.size,4,none⟩=some a4
 c5:v.cell? ⟨w.heap.size,5,none⟩=some a5
 c6:v.cell? ⟨w.heap.size,6,none⟩=some a6
 c7:v.cell? ⟨w.heap.size,7,none⟩=some a7
 c8:v.cell? ⟨w.heap.size,8,none⟩=some a8
 c9:v.cell? ⟨w.heap.size,9,none⟩=some a9
 r0:v.cell? ⟨w.heap.size+1+1,0,none⟩=some (.slice none 0 0)
 r1:v.cell? ⟨w.heap.size+1+1,1,none⟩=some (.slice none 0 0)
 r2:v.cell? ⟨w.heap.size+1+1,2,none⟩=some (.slice none 0 0)
 r3:v.cell? ⟨w.heap.size+1+1,3,none⟩=some (.slice none 0 0)
 r4:v.cell? ⟨w.heap.size+1+1,4,none⟩=some (.slice none 0 0)
 r5:v.cell? ⟨w.heap.size+1+1,5,none⟩=some (.slice none 0 0)
 r6:v.cell? ⟨w.heap.size+1+1,6,none⟩=some (.slice none 0 0)
 r7:v.cell? ⟨w.heap.size+1+1,7,none⟩=some (.slice none 0 0)
 r8:v.cell? ⟨w.heap.size+1+1,8,none⟩=some (.slice none 0 0)
 r9:v.cell? ⟨w.heap.size+1+1,9,none⟩=some (.int .i64 0)
 y0:v.frozen? ⟨w.heap.size+1+1,0,none⟩=false
 y1:v.frozen? ⟨w.heap.size+1+1,1,none⟩=false
 y2:v.frozen? ⟨w.heap.size+1+1,2,none⟩=false
 y3:v.frozen? ⟨w.heap.size+1+1,3,none⟩=false
 y4:v.frozen? ⟨w.heap.size+1+1,4,none⟩=false
 y5:v.frozen? ⟨w.heap.size+1+1,5,none⟩=false
 y6:v.frozen? ⟨w.heap.size+1+1,6,none⟩=false
 y7:v.frozen? ⟨w.heap.size+1+1,7,none⟩=false
 y8:v.frozen? ⟨w.heap.size+1+1,8,none⟩=false
 y9:v.frozen? ⟨w.heap.size+1+1,9,none⟩=false
theorem DE.of{w:World}{a0 a1 a2 a3 a4 a5 a6 a7 a8 a9:Value}{v:World}(b:Below w.heap.size w v)(f:v.rowIs w.heap.size 110 10 (D4 a0 a1 a2 a3 a4 a5 a6 a7 a8 a9))(r:v.rowIs (w.heap.size+1+1) 110 10 (D4 (.slice none 0 0) (.slice none 0 0) (.slice none 0 0) (.slice none 0 0) (.slice none 0 0) (.slice none 0 0) (.slice none 0 0) (.slice none 0 0) (.slice none 0 0) (.int .i64 0))):DE w a0 a1 a2 a3 a4 a5 a6 a7 a8 a9 v:=
 ⟨b,f.cell (i:=0) dE,f.cell (i:=1) dE,f.cell (i:=2) dE,f.cell (i:=3) dE,f.cell (i:=4) dE,f.cell (i:=5) dE,f.cell (i:=6) dE,f.cell (i:=7) dE,f.cell (i:=8) dE,f.cell (i:=9) dE,r.cell (i:=0) dE,r.cell (i:=1) dE,r.cell (i:=2) dE,r.cell (i:=3) dE,r.cell (i:=4) dE,r.cell (i:=5) dE,r.cell (i:=6) dE,r.cell (i:=7) dE,r.cell (i:=8) dE,r.cell (i:=9) dE,r.frozen 0,r.frozen 1,r.frozen 2,r.frozen 3,r.frozen 4,r.frozen 5,r.frozen 6,r.frozen 7,r.frozen 8,r.frozen 9⟩
theorem AN{v:World}{a b:Addr}{x:Value}(h:v.cell? a=some x)(hne:¬a.block=b.block)(u:Value):(v.setCell b u).cell? a=some x:=by
 rw[gC (gE hne)];exact h
theorem Rv{T:Nat->Prop}{w W:World}(hT2:∀v:World,w.heap.size+1+1+1<v.heap.size->∀b,T2 w T b->b<v.heap.size)(hsz:w.heap.size+1+1+1<W.heap.size)(x:Int){t:TypeId}{u:Value}:B6 (T2 w T) ((W.setCell ⟨w.heap.size+1+1+1,0,none⟩ u).alloc (.cells #[.int .i64 x] t)) (some ⟨W.heap.size,0,none⟩) [x]:=by
 refine .inr ⟨W.heap.size,0,rfl,fun k=>by have:=hT2 W hsz _ k;omega,sM,fun j hj=>?_⟩;have hj0:j=0:=by have:j<1:=hj;omega
 subst hj0;have h1:(W.setCell ⟨w.heap.size+1+1+1,0,none⟩ u).heap.size=W.heap.size:=sM;have h2:=heap_alloc_new (W.setCell ⟨w.heap.size+1+1+1,0,none⟩ u) (.cells #[.int .i64 x] t);rw[h1]at h2;unfold World.cell?;simp only[h2];rfl
theorem JY{T:Nat->Prop}{w W:World}(hT2:∀v:World,w.heap.size+1+1+1<v.heap.size->∀b,T2 w T b->b<v.heap.size)(hsz:w.heap.size+1+1+1<W.heap.size)(x:Int){t:TypeId}{u:Value}:B6 (T2 w T) ((W.alloc (.cells #[.int .i64 x] t)).setCell ⟨w.heap.size+1+1+1,0,none⟩ u) (some ⟨W.heap.size,0,none⟩) [x]:=by
 refine .inr ⟨W.heap.size,0,rfl,fun k=>by have:=hT2 W hsz _ k;omega,sM,fun j hj=>?_⟩;have hj0:j=0:=by have:j<1:=hj;omega
 subst hj0;rw[gC (gE (by show W.heap.size≠w.heap.size+1+1+1;omega))];simp[go_sem,CG]
theorem Hi{T:Nat->Prop}{w v:World}{p:Option Addr}{l:List Int}(h:B6 (T2 w T) v p l)(i:Nat)(x:Value):B6 (T2 w T) (v.setCell ⟨w.heap.size+1+1+1,i,none⟩ x) p l:=
 h.un ((Un.refl (fun b=>b=w.heap.size+1+1+1) v).setCell rF _) fun b _ e=>.inr ⟨oM,oM⟩
theorem FQ{T:Nat->Prop}{w:World}{a0 a1 a2 a3 a4 a5 a6 a7 a8 a9 u:Value}{I D:Nat->Value}{v:World}{Y:List Cl}(h:DW w (D4 a0 a1 a2 a3 a4 a5 a6 a7 a8 a9) I D v)(k:AT (T2 w T) v u Y):DE w a0 a1 a2 a3 u a5 a6 a7 a8 a9 (v.setCell ⟨w.heap.size,4,none⟩ u)/\AT (T2 w T) (v.setCell ⟨w.heap.size,4,none⟩ u) u Y:=by
 have hu:Un (fun b=>b=w.heap.size) v (v.setCell ⟨w.heap.size,4,none⟩ u):=(Un.refl _ _).setCell Zhh _;refine⟨DE.of (h.bel.setCell Zhe _) ((h.f.set 4 u).congr fun j hj=>?_) (h.r.setOther Zhd _),k.un hu fun b _ e=>.inr ⟨oM,oM⟩⟩;exact Zdd
theorem SU{T:Nat->Prop}{w:World}{a0 a1 a2 a3 a4 a5 a6 a7 a8 a9 u:Value}{I D:Nat->Value}{v:World}{Y:List Cl}(h:DW w (D4 a0 a1 a2 a3 a4 a5 a6 a7 a8 a9) I D v)(k:AT (T2 w T) v u Y):DE w a0 a1 a2 a3 a4 u a6 a7 a8 a9 (v.setCell ⟨w.heap.size,5,none⟩ u)/\AT (T2 w T) (v.setCell ⟨w.heap.size,5,none⟩ u) u Y:=by
 have hu:Un (fun b=>b=w.heap.size) v (v.setCell ⟨w.heap.size,5,none⟩ u):=(Un.refl _ _).setCell Zhh _;refine⟨DE.of (h.bel.setCell Zhe _) ((h.f.set 5 u).congr fun j hj=>?_) (h.r.setOther Zhd _),k.un hu fun b _ e=>.inr ⟨oM,oM⟩⟩;exact Zdd
theorem SR{T:Nat->Prop}{w:World}{a0 a1 a2 a3 a4 a5 a6 a7 a8 a9 u:Value}{I D:Nat->Value}{v:World}{Y:List Cl}(h:DW w (D4 a0 a1 a2 a3 a4 a5 a6 a7 a8 a9) I D v)(k:Ie (T2 w T) v u Y):DE w a0 a1 a2 a3 a4 a5 u a7 a8 a9 (v.setCell ⟨w.heap.size,6,none⟩ u)/\Ie (T2 w T) (v.setCell ⟨w.heap.size,6,none⟩ u) u Y:=by
 have hu:Un (fun b=>b=w.heap.size) v (v.setCell ⟨w.heap.size,6,none⟩ u):=(Un.refl _ _).setCell Zhh _;refine⟨DE.of (h.bel.setCell Zhe _) ((h.f.set 6 u).congr fun j hj=>?_) (h.r.setOther Zhd _),k.un hu fun b _ e=>.inr ⟨oM,oM⟩⟩;exact Zdd
theorem Lx(x:Cl):∀ (X:List Cl) (d:Nat),d<X.length->(Au UH X).set d (.slice x.p x.h.pats.length x.q)=Au UH (X.set d x)
 |[],d,h=>by simp at h
 |y::X,0,h=>rfl
 |y::X,d+1,h=>by
  have ih:=Lx x X d UQ;have e:Au UH (y::X)=.slice y.p y.h.pats.length y.q::Au UH X:=rfl;rw[e,List.set_cons_succ,ih];rfl
theorem ZH{T:Nat->Prop}{W:World}{O:List Cl}{M:Nat}(hM:O.length=M)(hl:M<=16384){p:Option Addr}{q:Nat}(h:Ie T W (.slice p M q) O)(hT:∀b,T b->b<W.heap.size)(ix:Nat)(hix:ix<M):
 ∃g cap w1,(Builtin.append_ #[88,88] 88 #[.slice none 0 0,.slice p M q]).run prog W=.ok (.slice (some ⟨g,0,none⟩) M cap) w1/\Below W.heap.size W w1/\(∃z,w1.cell? ⟨g,ix,none⟩=some z)/\w1.frozen? ⟨g,ix,none⟩=false/\W.heap.size<=g/\∀x:Cl,B6 T W x.p x.h.pats->Ie T (w1.setCell ⟨g,ix,none⟩ (.slice x.p x.h.pats.length x.q)) (.slice (some ⟨g,0,none⟩) M cap) (O.set ix x):=by
 subst hM;obtain⟨i0,hi0,hz0,hz1,hz2⟩:=info_parts Lz;obtain⟨u,w',hr,hb,hown⟩:=Nt dE Jp ZF underlying88 hi0 hz0 hz1 hz2 rfl h.row.row mL oM 88;obtain⟨g,cap,rfl,hg,hgl⟩:=hown.form oM;have hfl:(Au UH O).length=O.length*1:=Dy Jp O;refine⟨g,cap,w',hr,hb,⟨(Au UH O)[ix]'oM,?_⟩,hown.frozenAt ix,hg,fun x hx=>?_⟩
 .rw[hown.cellAt ix oM,gB]
 .have s1:=(hown.stored ix (.slice x.p x.h.pats.length x.q)).1;rw[Lx x O ix hix]at s1;have hbF:Below W.heap.size W (w'.setCell ⟨g,ix,none⟩ (.slice x.p x.h.pats.length x.q)):=hb.setCell hg _;refine⟨Hl Jp (by rw[List.length_set];exact s1) hT,fun y hy=>?_⟩;rcases List.mem_or_eq_of_mem_set hy with e|rfl
  .exact(h.nums y e).below hbF
  .exact hx.below hbF
abbrev N9(v:World)(b:Nat)(b0 b1 b2 b3 b4 b5 b6 b7 b8 b9:Value):World:=(((((((((v.setCell ⟨b,0,none⟩ b0).setCell ⟨b,1,none⟩ b1).setCell ⟨b,2,none⟩ b2).setCell ⟨b,3,none⟩ b3).setCell ⟨b,4,none⟩ b4).setCell ⟨b,5,none⟩ b5).setCell ⟨b,6,none⟩ b6).setCell ⟨b,7,none⟩ b7).setCell ⟨b,8,none⟩ b8).setCell ⟨b,9,none⟩ b9
theorem Jr(v:World)(b:Nat)(b0 b1 b2 b3 b4 b5 b6 b7 b8 b9:Value):Un (fun x=>x=b) v (N9 v b b0 b1 b2 b3 b4 b5 b6 b7 b8 b9):=
 ((((((((((Un.refl _ _).setCell rF _).setCell rF _).setCell rF _).setCell rF _).setCell rF _).setCell rF _).setCell rF _).setCell rF _).setCell rF _).setCell rF _
theorem JC{w:World}{a0 a1 a2 a3 a4 a5 a6 a7 a8 a9:Value}{v:World}(h:DE w a0 a1 a2 a3 a4 a5 a6 a7 a8 a9 v){b0 b1 b2 b3 b4 b5 b6 b7 b8 b9:Value}:Below w.heap.size w (N9 v (w.heap.size+1+1) b0 b1 b2 b3 b4 b5 b6 b7 b8 b9):=by
 have:=Jr v (w.heap.size+1+1) b0 b1 b2 b3 b4 b5 b6 b7 b8 b9;exact(Un.trans (Un.mono (T:=fun b=>b=w.heap.size+1+1) (U:=fun _=>False) ⟨h.bel.os,h.bel.tape,h.bel.output,h.bel.size,fun b hb _=>h.bel.block b hb⟩ fun _ e=>e.elim) this).below (gF _) fun b e=>by omega
theorem Ms{T:Nat->Prop}{w:World}{a0 a1 a2 a3 a4 a5 a6 a7 a8 a9 u:Value}{v:World}{Y:List Cl}(h:DE w a0 a1 a2 a3 a4 a5 a6 a7 a8 a9 v)(k:AT (T2 w T) v u Y){b0 b1 b2 b3 b4 b5 b6 b7 b8 b9:Value}:AT T (N9 v (w.heap.size+1+1) b0 b1 b2 b3 b4 b5 b6 b7 b8 b9) u Y/\Below w.heap.size w (N9 v (w.heap.size+1+1) b0 b1 b2 b3 b4 b5 b6 b7 b8 b9):=
 ⟨(k.un (Jr v _ _ _ _ _ _ _ _ _ _ _) fun b _ e=>.inr ⟨oM,oM⟩).mono fun b _ e=>.inl e,JC h⟩
theorem YH{T:Nat->Prop}{w:World}{a0 a1 a2 a3 a4 a5 a6 a7 a8 a9 u:Value}{v:World}{Y:List Cl}(h:DE w a0 a1 a2 a3 a4 a5 a6 a7 a8 a9 v)(k:Ie (T2 w T) v u Y){b0 b1 b2 b3 b4 b5 b6 b7 b8 b9:Value}:Ie T (N9 v (w.heap.size+1+1) b0 b1 b2 b3 b4 b5 b6 b7 b8 b9) u Y/\Below w.heap.size w (N9 v (w.heap.size+1+1) b0 b1 b2 b3 b4 b5 b6 b7 b8 b9):=
 ⟨(k.un (Jr v _ _ _ _ _ _ _ _ _ _ _) fun b _ e=>.inr ⟨oM,oM⟩).mono fun b _ e=>.inl e,JC h⟩
section
variable {c : Cd}
theorem Mh(h:AR c ⟨[],[]⟩ c.list=true){j:Nat}(hj:j<=c.list.length):(AE (c.list.take j)).length=(CY ⟨[],[]⟩ (c.list.take j)).opens.length:=
 ((Kg (Is h) h j hj).2.opens).len
theorem Sn(hc:(Ai c).1=0):AE c.list=[]:=by
 obtain⟨h1,h2,h3⟩:=Bi.1 hc;have h:=Mh h2 (gF _);rw[List.take_length]at h;rw[List.isEmpty_iff]at h3;rw[h3]at h;exact List.eq_nil_of_length_eq_zero h
theorem NZ(hc:(Ai c).1=0):∀i∈c.list,Al i.op=true:=fun i hi=>by
 obtain⟨h1,h2,h3⟩:=Bi.1 hc;obtain⟨k,hk,e⟩:=List.mem_iff_getElem.1 hi;rw[<-e];exact(Ao (Ck h2 hk)).1
theorem Gu(hc:(Ai c).1=0){k:Nat}(hk:k<c.list.length)(o:c.list[k].op=32\/c.list[k].op=33):∃n:Nat,c.list[k].n=(n:Int)/\n<c.slots.length:=by
 obtain⟨h1,h2,h3⟩:=Bi.1 hc;obtain⟨t1,t2,t3,t4⟩:=Ao (Ck h2 hk);unfold AS at t2;simp only[Bool.and_eq_true]at t2;have h:=t2.2.2.2.2;have e:(A4 c.list[k].op).n=10:=by rcases o with e|e<;>(rw[e];decide)
 unfold Bh at h;rw[if_neg Zhp]at h;simp only[Bool.and_eq_true]at h;have h:=h.2;unfold EW at h;rw[if_neg Zhp,if_neg Zhp,if_pos e]at h;simp only[Bool.and_eq_true]at h;have hp:=h.1;unfold Av at hp;simp only[Bool.and_eq_true,decide_eq_true_eq]at hp;exact⟨c.list[k].n.toNat,oM,oM⟩
theorem QF(hc:(Ai c).1=0):∀j k (hj:j<c.list.length) (hk:k<c.list.length),c.list[j].op=33->c.list[k].op=32->c.list[j].n.toNat=c.list[k].n.toNat->c.list[j].n=c.list[k].n:=fun j k hj hk o1 o2 e=>by
 obtain⟨n,e1,-⟩:=Gu hc hj (.inr o1);obtain⟨m,e2,-⟩:=Gu hc hk (.inl o2);omega
theorem Vg(hc:(Ai c).1=0){k:Nat}(hk:k<c.list.length)(o:c.list[k].op=35\/c.list[k].op=37):∃b S,AE (c.list.take k)=b::S:=by
 obtain⟨h1,h2,h3⟩:=Bi.1 hc;obtain⟨t1,t2,t3,t4⟩:=Ao (Ck h2 hk);have hl:=Mh h2 (Nat.le_of_lt hk);have hne:(CY ⟨[],[]⟩ (c.list.take k)).opens.isEmpty=false:=by
  generalize CY ⟨[],[]⟩ (c.list.take k)=x at t3;obtain⟨X,O⟩:=x;unfold Az at t3;rw[if_neg oM]at t3;rcases o with e|e
  .exact Zeu
  .exact Zed
 cases hs:AE (c.list.take k)with
 |nil=>
  rw[hs]at hl;have:(CY ⟨[],[]⟩ (c.list.take k)).opens=[]:=List.eq_nil_of_length_eq_zero hl.symm;rw[this]at hne;cases hne
 |cons b S=>exact⟨b,S,rfl⟩
end
def FF:List Nat->Int
 |[]=> -1
 |b::_=>(b:Int)
def IQ(l:List Ad)(p:Nat):Int:=FF (OY l p)
theorem PF(S:List Nat):(S.head?=none/\FF S= -1)\/∃b,S.head?=some b/\FF S=(b:Int):=by
 cases S with
 |nil=>exact .inl ⟨rfl,rfl⟩
 |cons b S=>exact .inr ⟨b,rfl,rfl⟩
section
variable {c : Cd}
theorem Zg(hc:(Ai c).1=0){k:Nat}(hk:k<c.list.length)(o:c.list[k].op=35\/c.list[k].op=37):∃b S,AE (c.list.take k)=b::S/\b<k/\IQ c.list b=FF S/\IQ c.list k=FF S/\CE c.list b k/\AE (c.list.take (k+1))=S:=by
 obtain⟨b,S,hs⟩:=Vg hc hk o;obtain⟨g1,g2⟩:=Ge k (Nat.le_of_lt hk) b S hs;obtain⟨hb,-,ob⟩:=DX c.list k (Nat.le_of_lt hk) b (by rw[hs];simp);refine⟨b,S,hs,g1,?_,?_,⟨hk,o,by rw[hs];rfl⟩,?_⟩
 .unfold IQ;rw[F8 hb,if_neg oM,g2]
 .unfold IQ;rw[F8 hk,if_pos o,hs];rfl
 .rw[IF hk,if_neg oM,if_pos o,hs];rfl
theorem Zf{l:List Ad}{k:Nat}(hk:k<l.length)(o:l[k].op=34\/l[k].op=36):IQ l k=FF (AE (l.take k))/\FF (AE (l.take (k+1)))=(k:Int):=by
 constructor
 .unfold IQ;rw[F8 hk,if_neg oM]
 .rw[IF hk,if_pos o];rfl
theorem Zh{l:List Ad}{k:Nat}(hk:k<l.length)(o:¬ (l[k].op=34\/l[k].op=36))(o':¬ (l[k].op=35\/l[k].op=37)):IQ l k=FF (AE (l.take k))/\AE (l.take (k+1))=AE (l.take k):=by
 constructor
 .unfold IQ;rw[F8 hk,if_neg o']
 .rw[IF hk,if_neg o,if_neg o']
end
def XI(l:List Ad)(k r:Nat):List Nat:=(List.range k).filter fun k=>(l[k]?.map fun i=>Af i&&decide (i.d.toNat=r))==some true
def XW(l:List Ad)(k r:Nat):List Nat:=(List.range k).filter fun k=>(l[k]?.map fun i=>decide (i.op=33)&&decide (i.n.toNat=r))==some true
theorem Mc{l:List Ad}{k:Nat}(hk:k<l.length)(r:Nat):XI l (k+1) r=XI l k r++(if Af l[k]=true/\l[k].d.toNat=r then [k]else []):=by
 unfold XI;rw[List.range_succ,List.filter_append];congr 1;simp only[List.filter_cons,List.filter_nil,gB hk];by_cases h1:Af l[k]=true<;>by_cases h2:l[k].d.toNat=r<;>simp[h1,h2]
theorem Mi{l:List Ad}{k:Nat}(hk:k<l.length)(r:Nat):XW l (k+1) r=XW l k r++(if l[k].op=33/\l[k].n.toNat=r then [k]else []):=by
 unfold XW;rw[List.range_succ,List.filter_append];congr 1;simp only[List.filter_cons,List.filter_nil,gB hk];by_cases h1:l[k].op=33<;>by_cases h2:l[k].n.toNat=r<;>simp[h1,h2]
structure UD(l:List Ad)(q:Sr):Prop where
 si:SI l q []
 par:Em l q
 out:∀k (hk:k<l.length),l[k].op=31->q.nd k=true
def sr0:Sr:=⟨fun _=>false,[],fun _=>false,fun _=>false⟩
def FK(l:List Ad):Nat->Sr
 |0=>sr0
 |k+1=>match l[k]? with
  |some i=>if i.op=31 then need1 (FK l k) k else FK l k
  |none=>FK l k
theorem Oa{l:List Ad}{k:Nat}(hk:k<l.length)(o:l[k].op=31):FK l (k+1)=need1 (FK l k) k:=by
 rw[FK,gB hk];exact if_pos o
theorem RC{l:List Ad}{k:Nat}(hk:k<l.length)(o:l[k].op≠31):FK l (k+1)=FK l k:=by
 rw[FK,gB hk];exact if_neg o
theorem MR{l:List Ad}:∀k,k<=l.length->SI l (FK l k) []/\Em l (FK l k)/\(∀j (hj:j<l.length),j<k->l[j].op=31->(FK l k).nd j=true)/\Cz l (FK l k)=l.length:=by
 intro k;induction k with
 |zero=>
  intro _;refine⟨⟨fun p h=>Yr,fun p h=>Yr,fun p h=>Yr,fun r h=>Yr,fun r h=>Yr⟩,fun b k _=>rfl,fun j _ h=>by omega,?_⟩;unfold Cz FK sr0;simp only[Bool.not_false,List.length_nil,Nat.add_zero];rw[List.filter_eq_self.2 (fun _ _=>rfl),List.length_range]
 |succ k ih=>
  intro hk;have hkl:k<l.length:=oM;obtain⟨h1,h2,h3,h4⟩:=ih oM;by_cases o:l[k].op=31
  .rw[Oa hkl o];refine⟨h1.need1 hkl (.out hkl o),?_,fun j hj hlt oj=>(Ee _ _ _).2 ?_,(Kz _ hkl).trans h4⟩
   .exact h2.other (ps:=[k]) (fun p hp=>by simp only[List.mem_singleton]at hp;subst hp;exact⟨hkl,oM⟩)
   .by_cases e:j=k
    .exact .inr e
    .exact .inl (h3 j hj oM oj)
  .rw[RC hkl o];refine⟨h1,h2,fun j hj hlt oj=>?_,h4⟩;by_cases e:j=k
   .subst e;exact absurd oj o
   .exact h3 j hj oM oj
theorem UD.begun(l:List Ad):UD l (FK l l.length):=by
 obtain⟨h1,h2,h3,-⟩:=MR (l:=l) l.length (gF _);exact⟨h1,h2,fun k hk o=>h3 k hk hk o⟩
theorem UD.next{c:Cd}(hc:(Ai c).1=0){q:Sr}(h:UD c.list q){t:List Nat}{p:Nat}(ht:q.todo=t++[p]):∃hp:p<c.list.length,UD c.list (goQ c.list {q with todo:=t} p c.list[p])/\Cz c.list (goQ c.list {q with todo:=t} p c.list[p])+1=Cz c.list q:=by
 have hp:p<c.list.length:=(h.si.snd p (h.si.tod p (by rw[ht];simp))).1;obtain⟨a1,a2,a3,a4⟩:=YY (Sn hc) (NZ hc) (QF hc) h.si h.par ht hp;exact⟨hp,⟨a1,a2,fun k hk o=>a4 k (h.out k hk o)⟩,a3⟩
theorem UD.done{l:List Ad}{q:Sr}(h:UD l q)(ht:q.todo=[])(p:Nat):q.nd p=ndK l p:=Ua h.si ht h.par h.out p
theorem SV{T:Nat->Prop}(p0 p1 p2 p3 p5 p6 p7 p8:Option Addr)(n0 q0 n1 q1 n2 q2 n3 q3 n5 q5 n6 q6 n7 q7 n8 q8:Nat)(ct:Int)(pr:Option Addr)(qr:Nat)(X:List Cl)(N:Nat)(hN:X.length=N)(hX:N<=16384)(nn bt:Int)(kd ka kb kk:Nat)(hd:kd<N)(w:World)(hT:∀b,T b->b<w.heap.size)(hcs:AT T w (.slice pr N qr) X)(xa:Cl)(hxa:X[ka]? =some xa)(hw:0<=xa.h.whole/\xa.h.whole<=2147483647):
 Calls prog 43 #[.agg #[(.slice p0 n0 q0),(.slice p1 n1 q1),(.slice p2 n2 q2),(.slice p3 n3 q3),.slice pr N qr,(.slice p5 n5 q5),(.slice p6 n6 q6),(.slice p7 n7 q7),(.slice p8 n8 q8),(.int .i64 ct)],.agg #[.int .i64 17,.int .i64 (kd:Int),.int .i64 (ka:Int),.int .i64 (kb:Int),.int .i64 (kk:Int),.int .i64 nn,.int .u32 bt]] w fun e w'=>∃p9 q9 x,e=.returned (.agg #[(.slice p0 n0 q0),(.slice p1 n1 q1),(.slice p2 n2 q2),(.slice p3 n3 q3),.slice p9 N q9,(.slice p5 n5 q5),(.slice p6 n6 q6),(.slice p7 n7 q7),(.slice p8 n8 q8),(.int .i64 ct)])/\x.h=⟨[GG xa.h.whole],0⟩/\AT T w' (.slice p9 N q9) (X.set kd x)/\Below w.heap.size w w':=by
 have HPUT:Hid (∀v F I D (x:Cl),DW w F I D v->B6 (T2 w T) v x.p x.h.pats->Calls prog 70 #[.slice pr N qr,.int .i64 (kd:Int),.agg #[.slice x.p x.h.pats.length x.q,.int .i64 x.h.whole]] v fun e w'=>∃p q,e=.returned (.slice p N q)/\AT (T2 w T) w' (.slice p N q) (X.set kd x)/\Below v.heap.size v w'):=BT (.slice pr N qr) X hN hX kd hd w hT hcs;have HT2:Hid (∀v:World,w.heap.size+1+1+1<v.heap.size->∀b,T2 w T b->b<v.heap.size):=fun v hv b hb=>Dk hT hb hv;have HXA:Hid (X[ka]? =some xa):=hxa;obtain⟨hal,hax⟩:=List.getElem?_eq_some_iff.1 hxa;obtain⟨rb,ro,rfl,hca⟩:=hcs.row.row.at hal;rw[hax]at hca;have x0:w.cell? ⟨rb,ro+ka*2,none⟩=some (.slice xa.p xa.h.pats.length xa.q):=hca.at 0 rfl;have x1:w.cell? ⟨rb,ro+ka*2+1,none⟩=some (.int .i64 xa.h.whole):=hca.at 1 rfl;have ha0:(0:Int)<=(ka:Int):=oM;have ha1:(ka:Int)<(N:Int):=oM;have hrb1:¬rb=w.heap.size:=by have:=A8 x0;intro e;simp only at this;omega
 have hrb2:¬rb=w.heap.size+1+1+1:=by have:=A8 x0;intro e;simp only at this;omega
 have HKF:Hid (∀v,Calls prog 64 #[.int .i64 xa.h.whole] v fun e w'=>e=.returned (.int .i64 (GG xa.h.whole))/\w'=v):=fun v=>TQ _ oM oM v;have HD0:Hid (DW w (D4 (.slice p0 n0 q0) (.slice p1 n1 q1) (.slice p2 n2 q2) (.slice p3 n3 q3) (.slice (some ⟨rb,ro,none⟩) N qr) (.slice p5 n5 q5) (.slice p6 n6 q6) (.slice p7 n7 q7) (.slice p8 n8 q8) (.int .i64 ct)) (f7 (.int .i64 17) (.int .i64 (kd:Int)) (.int .i64 (ka:Int)) (.int .i64 (kb:Int)) (.int .i64 (kk:Int)) (.int .i64 nn) (.int .u32 bt)) (f2 (.slice none 0 0) (.int .i64 0)) _):=DW.start w (.slice p0 n0 q0) (.slice p1 n1 q1) (.slice p2 n2 q2) (.slice p3 n3 q3) (.slice (some ⟨rb,ro,none⟩) N qr) (.slice p5 n5 q5) (.slice p6 n6 q6) (.slice p7 n7 q7) (.slice p8 n8 q8) (.int .i64 ct) (.int .i64 17) (.int .i64 (kd:Int)) (.int .i64 (ka:Int)) (.int .i64 (kb:Int)) (.int .i64 (kk:Int)) (.int .i64 nn) (.int .u32 bt);clear hT hcs hN hxa hca hal hax;go_enter func43,ntmps43;go_upto_block 0 with fail;go_cut [] (fun wx=>∃x:Cl,Hid (x.h=⟨[GG xa.h.whole],0⟩)/\Hid (DW w (D4 (.slice p0 n0 q0) (.slice p1 n1 q1) (.slice p2 n2 q2) (.slice p3 n3 q3) (.slice (some ⟨rb,ro,none⟩) N qr) (.slice p5 n5 q5) (.slice p6 n6 q6) (.slice p7 n7 q7) (.slice p8 n8 q8) (.int .i64 ct)) (f7 (.int .i64 17) (.int .i64 (kd:Int)) (.int .i64 (ka:Int)) (.int .i64 (kb:Int)) (.int .i64 (kk:Int)) (.int .i64 nn) (.int .u32 bt)) (f2 (.slice x.p x.h.pats.length x.q) (.int .i64 x.h.whole)) wx)/\Hid (B6 (T2 w T) wx x.p x.h.pats))
 case first=>
  obtain⟨W,hW⟩:=gA (((((w.alloc (.cells #[(.slice p0 n0 q0),(.slice p1 n1 q1),(.slice p2 n2 q2),(.slice p3 n3 q3),.slice (some ⟨rb,ro,none⟩) N qr,(.slice p5 n5 q5),(.slice p6 n6 q6),(.slice p7 n7 q7),(.slice p8 n8 q8),(.int .i64 ct)] 110)).alloc (.cells #[.int .i64 17,.int .i64 (kd:Int),.int .i64 (ka:Int),.int .i64 (kb:Int),.int .i64 (kk:Int),.int .i64 nn,.int .u32 bt] 40)).alloc (.cells #[.slice none 0 0,.slice none 0 0,.slice none 0 0,.slice none 0 0,.slice none 0 0,.slice none 0 0,.slice none 0 0,.slice none 0 0,.slice none 0 0,.int .i64 0] 110)).alloc (.cells #[.slice none 0 0,.int .i64 0] 74)))
  rw[hW]at HD0;rw[hW];clear hW;have hsz:=HD0.out.size;have f0:W.cell? ⟨w.heap.size,4,none⟩=some (.slice (some ⟨rb,ro,none⟩) N qr):=HD0.out.f.cell (i:=4) dE;have i0:W.cell? ⟨w.heap.size+1,0,none⟩=some (.int .i64 17):=HD0.out.i.cell (i:=0) dE;have i1:W.cell? ⟨w.heap.size+1,1,none⟩=some (.int .i64 (kd:Int)):=HD0.out.i.cell (i:=1) dE;have i2:W.cell? ⟨w.heap.size+1,2,none⟩=some (.int .i64 (ka:Int)):=HD0.out.i.cell (i:=2) dE;have i3:W.cell? ⟨w.heap.size+1,3,none⟩=some (.int .i64 (kb:Int)):=HD0.out.i.cell (i:=3) dE;have i4:W.cell? ⟨w.heap.size+1,4,none⟩=some (.int .i64 (kk:Int)):=HD0.out.i.cell (i:=4) dE;have i5:W.cell? ⟨w.heap.size+1,5,none⟩=some (.int .i64 nn):=HD0.out.i.cell (i:=5) dE;have i6:W.cell? ⟨w.heap.size+1,6,none⟩=some (.int .u32 bt):=HD0.out.i.cell (i:=6) dE;have d0:W.cell? ⟨w.heap.size+1+1+1,0,none⟩=some (.slice none 0 0):=HD0.out.d.cell (i:=0) dE;have d1:W.cell? ⟨w.heap.size+1+1+1,1,none⟩=some (.int .i64 0):=HD0.out.d.cell (i:=1) dE;have z0:=HD0.out.d.frozen 0;have z1:=HD0.out.d.frozen 1;have x2:=kc HD0.out.bel x0;have x3:=kc HD0.out.bel x1;have d2:=fun o=>kc (A0 W o) d0;have z2:=fun o=>kf (A0 W o) d0 z0;go_wp2_with(go_at_call 64;(with_reducible refine(HKF.out _).mono ?_);rintro e w3 ⟨rfl,hw3⟩;obtain rfl:=hw3.symm);go_meet;exact⟨⟨some ⟨W.heap.size,0,none⟩,1,⟨[GG xa.h.whole],0⟩⟩,rfl,((HD0.out.put 0 _).next (A0 _ _)).congr (fun j hj=>by obtain rfl|rfl:j=0\/j=1:=oM;all_goals rfl),Rv HT2.out (HD0.out.size) _⟩
 case rest=>
  exact Zaa
theorem V8{T:Nat->Prop}(p0 p1 p2 p3 p5 p6 p7 p8:Option Addr)(n0 q0 n1 q1 n2 q2 n3 q3 n5 q5 n6 q6 n7 q7 n8 q8:Nat)(ct:Int)(pr:Option Addr)(qr:Nat)(X:List Cl)(N:Nat)(hN:X.length=N)(hX:N<=16384)(nn bt:Int)(kd ka kb kk:Nat)(hd:kd<N)(w:World)(hT:∀b,T b->b<w.heap.size)(hcs:AT T w (.slice pr N qr) X)(xa:Cl)(hxa:X[ka]? =some xa)(hp:∀y∈xa.h.pats,AH y)(hl:xa.h.pats.length<=4096):
 Calls prog 43 #[.agg #[(.slice p0 n0 q0),(.slice p1 n1 q1),(.slice p2 n2 q2),(.slice p3 n3 q3),.slice pr N qr,(.slice p5 n5 q5),(.slice p6 n6 q6),(.slice p7 n7 q7),(.slice p8 n8 q8),(.int .i64 ct)],.agg #[.int .i64 19,.int .i64 (kd:Int),.int .i64 (ka:Int),.int .i64 (kb:Int),.int .i64 (kk:Int),.int .i64 nn,.int .u32 bt]] w fun e w'=>∃p9 q9 x,e=.returned (.agg #[(.slice p0 n0 q0),(.slice p1 n1 q1),(.slice p2 n2 q2),(.slice p3 n3 q3),.slice p9 N q9,(.slice p5 n5 q5),(.slice p6 n6 q6),(.slice p7 n7 q7),(.slice p8 n8 q8),(.int .i64 ct)])/\x.h=⟨[L5 (CG xa.h.pats) xa.h.pats.length],0⟩/\AT T w' (.slice p9 N q9) (X.set kd x)/\Below w.heap.size w w':=by
 have HPUT:Hid (∀v F I D (x:Cl),DW w F I D v->B6 (T2 w T) v x.p x.h.pats->Calls prog 70 #[.slice pr N qr,.int .i64 (kd:Int),.agg #[.slice x.p x.h.pats.length x.q,.int .i64 x.h.whole]] v fun e w'=>∃p q,e=.returned (.slice p N q)/\AT (T2 w T) w' (.slice p N q) (X.set kd x)/\Below v.heap.size v w'):=BT (.slice pr N qr) X hN hX kd hd w hT hcs;have HT2:Hid (∀v:World,w.heap.size+1+1+1<v.heap.size->∀b,T2 w T b->b<v.heap.size):=fun v hv b hb=>Dk hT hb hv;have HXA:Hid (X[ka]? =some xa):=hxa;obtain⟨hal,hax⟩:=List.getElem?_eq_some_iff.1 hxa;obtain⟨rb,ro,rfl,hca⟩:=hcs.row.row.at hal;rw[hax]at hca;have x0:w.cell? ⟨rb,ro+ka*2,none⟩=some (.slice xa.p xa.h.pats.length xa.q):=hca.at 0 rfl;have x1:w.cell? ⟨rb,ro+ka*2+1,none⟩=some (.int .i64 xa.h.whole):=hca.at 1 rfl;have ha0:(0:Int)<=(ka:Int):=oM;have ha1:(ka:Int)<(N:Int):=oM;have hrb1:¬rb=w.heap.size:=by have:=A8 x0;intro e;simp only at this;omega
 have hrb2:¬rb=w.heap.size+1+1+1:=by have:=A8 x0;intro e;simp only at this;omega
 have hna:=(hcs.nums xa (List.mem_of_getElem? hxa)).num;have HKF:Hid (∀v,Below w.heap.size w v->Calls prog 66 #[.slice xa.p xa.h.pats.length xa.q] v fun e w'=>e=.returned (.int .i64 (L5 (CG xa.h.pats) xa.h.pats.length))/\Below v.heap.size v w'):=fun v hb=>Ux xa.p xa.h.pats.length xa.q (CG xa.h.pats) (CR hp) oM v (hna.below hb);have HD0:Hid (DW w (D4 (.slice p0 n0 q0) (.slice p1 n1 q1) (.slice p2 n2 q2) (.slice p3 n3 q3) (.slice (some ⟨rb,ro,none⟩) N qr) (.slice p5 n5 q5) (.slice p6 n6 q6) (.slice p7 n7 q7) (.slice p8 n8 q8) (.int .i64 ct)) (f7 (.int .i64 19) (.int .i64 (kd:Int)) (.int .i64 (ka:Int)) (.int .i64 (kb:Int)) (.int .i64 (kk:Int)) (.int .i64 nn) (.int .u32 bt)) (f2 (.slice none 0 0) (.int .i64 0)) _):=DW.start w (.slice p0 n0 q0) (.slice p1 n1 q1) (.slice p2 n2 q2) (.slice p3 n3 q3) (.slice (some ⟨rb,ro,none⟩) N qr) (.slice p5 n5 q5) (.slice p6 n6 q6) (.slice p7 n7 q7) (.slice p8 n8 q8) (.int .i64 ct) (.int .i64 19) (.int .i64 (kd:Int)) (.int .i64 (ka:Int)) (.int .i64 (kb:Int)) (.int .i64 (kk:Int)) (.int .i64 nn) (.int .u32 bt);clear hT hcs hN hxa hca hal hax hna hp;go_enter func43,ntmps43;go_upto_block 0 with fail;go_cut [] (fun wx=>∃x:Cl,Hid (x.h=⟨[L5 (CG xa.h.pats) xa.h.pats.length],0⟩)/\Hid (DW w (D4 (.slice p0 n0 q0) (.slice p1 n1 q1) (.slice p2 n2 q2) (.slice p3 n3 q3) (.slice (some ⟨rb,ro,none⟩) N qr) (.slice p5 n5 q5) (.slice p6 n6 q6) (.slice p7 n7 q7) (.slice p8 n8 q8) (.int .i64 ct)) (f7 (.int .i64 19) (.int .i64 (kd:Int)) (.int .i64 (ka:Int)) (.int .i64 (kb:Int)) (.int .i64 (kk:Int)) (.int .i64 nn) (.int .u32 bt)) (f2 (.slice x.p x.h.pats.length x.q) (.int .i64 x.h.whole)) wx)/\Hid (B6 (T2 w T) wx x.p x.h.pats))
 case first=>
  obtain⟨W,hW⟩:=gA (((((w.alloc (.cells #[(.slice p0 n0 q0),(.slice p1 n1 q1),(.slice p2 n2 q2),(.slice p3 n3 q3),.slice (some ⟨rb,ro,none⟩) N qr,(.slice p5 n5 q5),(.slice p6 n6 q6),(.slice p7 n7 q7),(.slice p8 n8 q8),(.int .i64 ct)] 110)).alloc (.cells #[.int .i64 19,.int .i64 (kd:Int),.int .i64 (ka:Int),.int .i64 (kb:Int),.int .i64 (kk:Int),.int .i64 nn,.int .u32 bt] 40)).alloc (.cells #[.slice none 0 0,.slice none 0 0,.slice none 0 0,.slice none 0 0,.slice none 0 0,.slice none 0 0,.slice none 0 0,.slice none 0 0,.slice none 0 0,.int .i64 0] 110)).alloc (.cells #[.slice none 0 0,.int .i64 0] 74)))
  rw[hW]at HD0;rw[hW];clear hW;have hsz:=HD0.out.size;have f0:W.cell? ⟨w.heap.size,4,none⟩=some (.slice (some ⟨rb,ro,none⟩) N qr):=HD0.out.f.cell (i:=4) dE;have i0:W.cell? ⟨w.heap.size+1,0,none⟩=some (.int .i64 19):=HD0.out.i.cell (i:=0) dE;have i1:W.cell? ⟨w.heap.size+1,1,none⟩=some (.int .i64 (kd:Int)):=HD0.out.i.cell (i:=1) dE;have i2:W.cell? ⟨w.heap.size+1,2,none⟩=some (.int .i64 (ka:Int)):=HD0.out.i.cell (i:=2) dE;have i3:W.cell? ⟨w.heap.size+1,3,none⟩=some (.int .i64 (kb:Int)):=HD0.out.i.cell (i:=3) dE;have i4:W.cell? ⟨w.heap.size+1,4,none⟩=some (.int .i64 (kk:Int)):=HD0.out.i.cell (i:=4) dE;have i5:W.cell? ⟨w.heap.size+1,5,none⟩=some (.int .i64 nn):=HD0.out.i.cell (i:=5) dE;have i6:W.cell? ⟨w.heap.size+1,6,none⟩=some (.int .u32 bt):=HD0.out.i.cell (i:=6) dE;have d0:W.cell? ⟨w.heap.size+1+1+1,0,none⟩=some (.slice none 0 0):=HD0.out.d.cell (i:=0) dE;have d1:W.cell? ⟨w.heap.size+1+1+1,1,none⟩=some (.int .i64 0):=HD0.out.d.cell (i:=1) dE;have z0:=HD0.out.d.frozen 0;have z1:=HD0.out.d.frozen 1;have x2:=kc HD0.out.bel x0;have x3:=kc HD0.out.bel x1;go_wp2_with(go_at_call 66;(with_reducible refine(HKF.out _ HD0.out.bel).mono ?_);rintro e w3 ⟨rfl,hb3⟩;have HD3:Hid (DW w (D4 (.slice p0 n0 q0) (.slice p1 n1 q1) (.slice p2 n2 q2) (.slice p3 n3 q3) (.slice (some ⟨rb,ro,none⟩) N qr) (.slice p5 n5 q5) (.slice p6 n6 q6) (.slice p7 n7 q7) (.slice p8 n8 q8) (.int .i64 ct)) _ _ w3):=HD0.out.next hb3;clear hb3 d0 d1 z0 z1;have d0:w3.cell? ⟨w.heap.size+1+1+1,0,none⟩=some (.slice none 0 0):=HD3.out.d.cell (i:=0) dE;have d1:w3.cell? ⟨w.heap.size+1+1+1,1,none⟩=some (.int .i64 0):=HD3.out.d.cell (i:=1) dE;have z0:=HD3.out.d.frozen 0;have z1:=HD3.out.d.frozen 1;have d2:=(fun o=>kc (A0 w3 o) d0);have z2:=(fun o=>kf (A0 w3 o) d0 z0));go_meet;exact⟨⟨some ⟨w3.heap.size,0,none⟩,1,⟨[L5 (CG xa.h.pats) xa.h.pats.length],0⟩⟩,rfl,((HD3.out.next (A0 _ _)).put 0 _).congr (fun j hj=>by obtain rfl|rfl:j=0\/j=1:=oM;all_goals rfl),JY HT2.out (HD3.out.size) _⟩
 case rest=>
  exact Zaa
theorem Pn{T:Nat->Prop}(p0 p1 p2 p3 p5 p6 p7 p8:Option Addr)(n0 q0 n1 q1 n2 q2 n3 q3 n5 q5 n6 q6 n7 q7 n8 q8:Nat)(ct:Int)(pr:Option Addr)(qr:Nat)(X:List Cl)(N:Nat)(hN:X.length=N)(hX:N<=16384)(nn bt:Int)(kd ka kb kk:Nat)(hd:kd<N)(w:World)(hT:∀b,T b->b<w.heap.size)(hcs:AT T w (.slice pr N qr) X)(xa:Cl)(hxa:X[ka]? =some xa)(hp:∀y∈xa.h.pats,AH y)(hl:xa.h.pats.length<=4096):
 Calls prog 43 #[.agg #[(.slice p0 n0 q0),(.slice p1 n1 q1),(.slice p2 n2 q2),(.slice p3 n3 q3),.slice pr N qr,(.slice p5 n5 q5),(.slice p6 n6 q6),(.slice p7 n7 q7),(.slice p8 n8 q8),(.int .i64 ct)],.agg #[.int .i64 20,.int .i64 (kd:Int),.int .i64 (ka:Int),.int .i64 (kb:Int),.int .i64 (kk:Int),.int .i64 nn,.int .u32 bt]] w fun e w'=>∃p9 q9 x,e=.returned (.agg #[(.slice p0 n0 q0),(.slice p1 n1 q1),(.slice p2 n2 q2),(.slice p3 n3 q3),.slice p9 N q9,(.slice p5 n5 q5),(.slice p6 n6 q6),(.slice p7 n7 q7),(.slice p8 n8 q8),(.int .i64 ct)])/\x.h=⟨[EP (CG xa.h.pats) xa.h.pats.length],0⟩/\AT T w' (.slice p9 N q9) (X.set kd x)/\Below w.heap.size w w':=by
 have HPUT:Hid (∀v F I D (x:Cl),DW w F I D v->B6 (T2 w T) v x.p x.h.pats->Calls prog 70 #[.slice pr N qr,.int .i64 (kd:Int),.agg #[.slice x.p x.h.pats.length x.q,.int .i64 x.h.whole]] v fun e w'=>∃p q,e=.returned (.slice p N q)/\AT (T2 w T) w' (.slice p N q) (X.set kd x)/\Below v.heap.size v w'):=BT (.slice pr N qr) X hN hX kd hd w hT hcs;have HT2:Hid (∀v:World,w.heap.size+1+1+1<v.heap.size->∀b,T2 w T b->b<v.heap.size):=fun v hv b hb=>Dk hT hb hv;have HXA:Hid (X[ka]? =some xa):=hxa;obtain⟨hal,hax⟩:=List.getElem?_eq_some_iff.1 hxa;obtain⟨rb,ro,rfl,hca⟩:=hcs.row.row.at hal;rw[hax]at hca;have x0:w.cell? ⟨rb,ro+ka*2,none⟩=some (.slice xa.p xa.h.pats.length xa.q):=hca.at 0 rfl;have x1:w.cell? ⟨rb,ro+ka*2+1,none⟩=some (.int .i64 xa.h.whole):=hca.at 1 rfl;have ha0:(0:Int)<=(ka:Int):=oM;have ha1:(ka:Int)<(N:Int):=oM;have hrb1:¬rb=w.heap.size:=by have:=A8 x0;intro e;simp only at this;omega
 have hrb2:¬rb=w.heap.size+1+1+1:=by have:=A8 x0;intro e;simp only at this;omega
 have hna:=(hcs.nums xa (List.mem_of_getElem? hxa)).num;have HKF:Hid (∀v,Below w.heap.size w v->Calls prog 67 #[.slice xa.p xa.h.pats.length xa.q] v fun e w'=>e=.returned (.int .i64 (EP (CG xa.h.pats) xa.h.pats.length))/\Below v.heap.size v w'):=fun v hb=>Qn xa.p xa.h.pats.length xa.q (CG xa.h.pats) (CR hp) oM v (hna.below hb);have HD0:Hid (DW w (D4 (.slice p0 n0 q0) (.slice p1 n1 q1) (.slice p2 n2 q2) (.slice p3 n3 q3) (.slice (some ⟨rb,ro,none⟩) N qr) (.slice p5 n5 q5) (.slice p6 n6 q6) (.slice p7 n7 q7) (.slice p8 n8 q8) (.int .i64 ct)) (f7 (.int .i64 20) (.int .i64 (kd:Int)) (.int .i64 (ka:Int)) (.int .i64 (kb:Int)) (.int .i64 (kk:Int)) (.int .i64 nn) (.int .u32 bt)) (f2 (.slice none 0 0) (.int .i64 0)) _):=DW.start w (.slice p0 n0 q0) (.slice p1 n1 q1) (.slice p2 n2 q2) (.slice p3 n3 q3) (.slice (some ⟨rb,ro,none⟩) N qr) (.slice p5 n5 q5) (.slice p6 n6 q6) (.slice p7 n7 q7) (.slice p8 n8 q8) (.int .i64 ct) (.int .i64 20) (.int .i64 (kd:Int)) (.int .i64 (ka:Int)) (.int .i64 (kb:Int)) (.int .i64 (kk:Int)) (.int .i64 nn) (.int .u32 bt);clear hT hcs hN hxa hca hal hax hna hp;go_enter func43,ntmps43;go_upto_block 0 with fail;go_cut [] (fun wx=>∃x:Cl,Hid (x.h=⟨[EP (CG xa.h.pats) xa.h.pats.length],0⟩)/\Hid (DW w (D4 (.slice p0 n0 q0) (.slice p1 n1 q1) (.slice p2 n2 q2) (.slice p3 n3 q3) (.slice (some ⟨rb,ro,none⟩) N qr) (.slice p5 n5 q5) (.slice p6 n6 q6) (.slice p7 n7 q7) (.slice p8 n8 q8) (.int .i64 ct)) (f7 (.int .i64 20) (.int .i64 (kd:Int)) (.int .i64 (ka:Int)) (.int .i64 (kb:Int)) (.int .i64 (kk:Int)) (.int .i64 nn) (.int .u32 bt)) (f2 (.slice x.p x.h.pats.length x.q) (.int .i64 x.h.whole)) wx)/\Hid (B6 (T2 w T) wx x.p x.h.pats))
 case first=>
  obtain⟨W,hW⟩:=gA (((((w.alloc (.cells #[(.slice p0 n0 q0),(.slice p1 n1 q1),(.slice p2 n2 q2),(.slice p3 n3 q3),.slice (some ⟨rb,ro,none⟩) N qr,(.slice p5 n5 q5),(.slice p6 n6 q6),(.slice p7 n7 q7),(.slice p8 n8 q8),(.int .i64 ct)] 110)).alloc (.cells #[.int .i64 20,.int .i64 (kd:Int),.int .i64 (ka:Int),.int .i64 (kb:Int),.int .i64 (kk:Int),.int .i64 nn,.int .u32 bt] 40)).alloc (.cells #[.slice none 0 0,.slice none 0 0,.slice none 0 0,.slice none 0 0,.slice none 0 0,.slice none 0 0,.slice none 0 0,.slice none 0 0,.slice none 0 0,.int .i64 0] 110)).alloc (.cells #[.slice none 0 0,.int .i64 0] 74)))
  rw[hW]at HD0;rw[hW];clear hW;have hsz:=HD0.out.size;have f0:W.cell? ⟨w.heap.size,4,none⟩=some (.slice (some ⟨rb,ro,none⟩) N qr):=HD0.out.f.cell (i:=4) dE;have i0:W.cell? ⟨w.heap.size+1,0,none⟩=some (.int .i64 20):=HD0.out.i.cell (i:=0) dE;have i1:W.cell? ⟨w.heap.size+1,1,none⟩=some (.int .i64 (kd:Int)):=HD0.out.i.cell (i:=1) dE;have i2:W.cell? ⟨w.heap.size+1,2,none⟩=some (.int .i64 (ka:Int)):=HD0.out.i.cell (i:=2) dE;have i3:W.cell? ⟨w.heap.size+1,3,none⟩=some (.int .i64 (kb:Int)):=HD0.out.i.cell (i:=3) dE;have i4:W.cell? ⟨w.heap.size+1,4,none⟩=some (.int .i64 (kk:Int)):=HD0.out.i.cell (i:=4) dE;have i5:W.cell? ⟨w.heap.size+1,5,none⟩=some (.int .i64 nn):=HD0.out.i.cell (i:=5) dE;have i6:W.cell? ⟨w.heap.size+1,6,none⟩=some (.int .u32 bt):=HD0.out.i.cell (i:=6) dE;have d0:W.cell? ⟨w.heap.size+1+1+1,0,none⟩=some (.slice none 0 0):=HD0.out.d.cell (i:=0) dE;have d1:W.cell? ⟨w.heap.size+1+1+1,1,none⟩=some (.int .i64 0):=HD0.out.d.cell (i:=1) dE;have z0:=HD0.out.d.frozen 0;have z1:=HD0.out.d.frozen 1;have x2:=kc HD0.out.bel x0;have x3:=kc HD0.out.bel x1;go_wp2_with(go_at_call 67;(with_reducible refine(HKF.out _ HD0.out.bel).mono ?_);rintro e w3 ⟨rfl,hb3⟩;have HD3:Hid (DW w (D4 (.slice p0 n0 q0) (.slice p1 n1 q1) (.slice p2 n2 q2) (.slice p3 n3 q3) (.slice (some ⟨rb,ro,none⟩) N qr) (.slice p5 n5 q5) (.slice p6 n6 q6) (.slice p7 n7 q7) (.slice p8 n8 q8) (.int .i64 ct)) _ _ w3):=HD0.out.next hb3;clear hb3 d0 d1 z0 z1;have d0:w3.cell? ⟨w.heap.size+1+1+1,0,none⟩=some (.slice none 0 0):=HD3.out.d.cell (i:=0) dE;have d1:w3.cell? ⟨w.heap.size+1+1+1,1,none⟩=some (.int .i64 0):=HD3.out.d.cell (i:=1) dE;have z0:=HD3.out.d.frozen 0;have z1:=HD3.out.d.frozen 1;have d2:=(fun o=>kc (A0 w3 o) d0);have z2:=(fun o=>kf (A0 w3 o) d0 z0));go_meet;exact⟨⟨some ⟨w3.heap.size,0,none⟩,1,⟨[EP (CG xa.h.pats) xa.h.pats.length],0⟩⟩,rfl,((HD3.out.next (A0 _ _)).put 0 _).congr (fun j hj=>by obtain rfl|rfl:j=0\/j=1:=oM;all_goals rfl),JY HT2.out (HD3.out.size) _⟩
 case rest=>
  exact Zaa
theorem Gn{tag:Nat->Nat}{v:Value}{m g b k H:Nat}(tv:∀g,v.ownBlock=some g->tag g=m)(hat:v.ownBlock=some g\/g=H)(hb:tag b=k)(hk:k≠m)(hlt:b<H):b≠g:=by
 rcases hat with hat|hat
 .exact Am hb (tv g hat) hk
 .omega
section
variable {E : Nat} {c : Cd} {s : RW} {V : World} {B C SB IB MB nm rb ro q1 : Nat} {vk vo vl : Value} {tag : Nat -> Nat}
end
structure Gh where
 sl:Nat->List Nat
 tl:Nat->List Nat
 ar:Nat->Int
 en:Nat->Int
 nd:Nat->Bool
 todo:List Nat
structure BO(E R S L:Nat)(s:Gh)(w:World)(B C GB TB AB NB DB:Nat)(vg vt:Nat->Value)(vd:Value)(tag:Nat->Nat):Prop where
 b:w.rowIs B 90 7 (En #[.pointer (some ⟨C,0,none⟩),.slice (some ⟨GB,0,none⟩) R R,.slice (some ⟨TB,0,none⟩) S S,.slice (some ⟨AB,0,none⟩) L L,.slice (some ⟨NB,0,none⟩) L L,.slice (some ⟨DB,0,none⟩) L L,vd])
 g:w.rowIs GB 72 R vg
 t:w.rowIs TB 72 S vt
 a:w.rowIs AB 3 L (fun p=>.int .i64 (s.ar p))
 n:w.rowIs NB 3 L (fun p=>.int .i64 (s.en p))
 d:w.rowIs DB 4 L (fun p=>.bool (s.nd p))
 gs:∀r,r<R->w.ownsRow E 3 1 (vg r) (s.sl r).length (BN (s.sl r))
 ts:∀r,r<S->w.ownsRow E 3 1 (vt r) (s.tl r).length (BN (s.tl r))
 td:w.ownsRow E 3 1 vd s.todo.length (BN s.todo)
 hB:E<=B
 hG:E<=GB
 hT:E<=TB
 hA:E<=AB
 hN:E<=NB
 hD:E<=DB
 tB:tag B=1
 tG:tag GB=2
 tT:tag TB=3
 tA:tag AB=4
 tN:tag NB=5
 tD:tag DB=6
 tgs:∀r,r<R->∀q,(vg r).ownBlock=some q->tag q=8+2*r
 tts:∀r,r<S->∀q,(vt r).ownBlock=some q->tag q=9+2*r
 ttd:∀q,vd.ownBlock=some q->tag q=7
section
variable {E R S L : Nat} {s : Gh} {V w w' : World} {B C GB TB AB NB DB : Nat} {vg vt : Nat -> Value} {vd : Value} {tag : Nat -> Nat}
theorem BO.lt(h:BO E R S L s w B C GB TB AB NB DB vg vt vd tag):E<=w.heap.size:=gH h.hB (Nat.le_of_lt h.b.lt)
theorem BO.keep(h:BO E R S L s w B C GB TB AB NB DB vg vt vd tag)(k:∀b,b<w.heap.size->w'.heap[b]? =w.heap[b]?):BO E R S L s w' B C GB TB AB NB DB vg vt vd tag:=
 {h with
  b:=h.b.of_block (k _ h.b.lt)
  g:=h.g.of_block (k _ h.g.lt)
  t:=h.t.of_block (k _ h.t.lt)
  a:=h.a.of_block (k _ h.a.lt)
  n:=h.n.of_block (k _ h.n.lt)
  d:=h.d.of_block (k _ h.d.lt)
  gs:=fun r hr=>Ac (h.gs r hr) fun q hq=>k q ((h.gs r hr).lt q hq).2
  ts:=fun r hr=>Ac (h.ts r hr) fun q hq=>k q ((h.ts r hr).lt q hq).2
  td:=Ac h.td fun q hq=>k q (h.td.lt q hq).2}
theorem BO.below(h:BO E R S L s w B C GB TB AB NB DB vg vt vd tag)(k:Below w.heap.size w w'):BO E R S L s w' B C GB TB AB NB DB vg vt vd tag:=h.keep k.block
theorem BO.b0(h:BO E R S L s w B C GB TB AB NB DB vg vt vd tag):w.cell? ⟨B,0,none⟩=some (.pointer (some ⟨C,0,none⟩)):=h.b.cell (i:=0) dE
theorem BO.b1(h:BO E R S L s w B C GB TB AB NB DB vg vt vd tag):w.cell? ⟨B,1,none⟩=some (.slice (some ⟨GB,0,none⟩) R R):=h.b.cell (i:=1) dE
theorem BO.b2(h:BO E R S L s w B C GB TB AB NB DB vg vt vd tag):w.cell? ⟨B,2,none⟩=some (.slice (some ⟨TB,0,none⟩) S S):=h.b.cell (i:=2) dE
theorem BO.b3(h:BO E R S L s w B C GB TB AB NB DB vg vt vd tag):w.cell? ⟨B,3,none⟩=some (.slice (some ⟨AB,0,none⟩) L L):=h.b.cell (i:=3) dE
theorem BO.b4(h:BO E R S L s w B C GB TB AB NB DB vg vt vd tag):w.cell? ⟨B,4,none⟩=some (.slice (some ⟨NB,0,none⟩) L L):=h.b.cell (i:=4) dE
theorem BO.b5(h:BO E R S L s w B C GB TB AB NB DB vg vt vd tag):w.cell? ⟨B,5,none⟩=some (.slice (some ⟨DB,0,none⟩) L L):=h.b.cell (i:=5) dE
theorem BO.b6(h:BO E R S L s w B C GB TB AB NB DB vg vt vd tag):w.cell? ⟨B,6,none⟩=some (vd):=h.b.cell (i:=6) dE
theorem BO.setNd(h:BO E R S L s V B C GB TB AB NB DB vg vt vd tag)(p:Nat)(x:Bool):
 BO E R S L {s with nd:=fun k=>if k=p then x else s.nd k} (V.setCell ⟨DB,p,none⟩ (.bool x)) B C GB TB AB NB DB vg vt vd tag:=by
 have kk:∀b,b≠DB->(V.setCell ⟨DB,p,none⟩ (.bool x)).heap[b]? =V.heap[b]? :=fun b hb=>gE hb;exact{h with
  b:=h.b.of_block (kk _ (Am h.tB h.tD dE))
  g:=h.g.of_block (kk _ (Am h.tG h.tD dE))
  t:=h.t.of_block (kk _ (Am h.tT h.tD dE))
  a:=h.a.of_block (kk _ (Am h.tA h.tD dE))
  n:=h.n.of_block (kk _ (Am h.tN h.tD dE))
  d:=(h.d.set p _).congr fun j hj=>by
   show _=(Value.bool (if j=p then x else s.nd j));exact Zfl
  gs:=fun r hr=>Ac (h.gs r hr) fun q hq=>kk q (Am (h.tgs r hr q hq) h.tD oM)
  ts:=fun r hr=>Ac (h.ts r hr) fun q hq=>kk q (Am (h.tts r hr q hq) h.tD oM)
  td:=Ac h.td fun q hq=>kk q (Am (h.ttd q hq) h.tD dE)}
theorem BO.setAr(h:BO E R S L s V B C GB TB AB NB DB vg vt vd tag)(p:Nat)(x:Int):
 BO E R S L {s with ar:=fun k=>if k=p then x else s.ar k} (V.setCell ⟨AB,p,none⟩ (.int .i64 x)) B C GB TB AB NB DB vg vt vd tag:=by
 have kk:∀b,b≠AB->(V.setCell ⟨AB,p,none⟩ (.int .i64 x)).heap[b]? =V.heap[b]? :=fun b hb=>gE hb;exact{h with
  b:=h.b.of_block (kk _ (Am h.tB h.tA dE))
  g:=h.g.of_block (kk _ (Am h.tG h.tA dE))
  t:=h.t.of_block (kk _ (Am h.tT h.tA dE))
  n:=h.n.of_block (kk _ (Am h.tN h.tA dE))
  d:=h.d.of_block (kk _ (Am h.tD h.tA dE))
  a:=(h.a.set p _).congr fun j hj=>by
   show _=(Value.int .i64 (if j=p then x else s.ar j));exact Zfl
  gs:=fun r hr=>Ac (h.gs r hr) fun q hq=>kk q (Am (h.tgs r hr q hq) h.tA oM)
  ts:=fun r hr=>Ac (h.ts r hr) fun q hq=>kk q (Am (h.tts r hr q hq) h.tA oM)
  td:=Ac h.td fun q hq=>kk q (Am (h.ttd q hq) h.tA dE)}
theorem BO.setEn(h:BO E R S L s V B C GB TB AB NB DB vg vt vd tag)(p:Nat)(x:Int):
 BO E R S L {s with en:=fun k=>if k=p then x else s.en k} (V.setCell ⟨NB,p,none⟩ (.int .i64 x)) B C GB TB AB NB DB vg vt vd tag:=by
 have kk:∀b,b≠NB->(V.setCell ⟨NB,p,none⟩ (.int .i64 x)).heap[b]? =V.heap[b]? :=fun b hb=>gE hb;exact{h with
  b:=h.b.of_block (kk _ (Am h.tB h.tN dE))
  g:=h.g.of_block (kk _ (Am h.tG h.tN dE))
  t:=h.t.of_block (kk _ (Am h.tT h.tN dE))
  a:=h.a.of_block (kk _ (Am h.tA h.tN dE))
  d:=h.d.of_block (kk _ (Am h.tD h.tN dE))
  n:=(h.n.set p _).congr fun j hj=>by
   show _=(Value.int .i64 (if j=p then x else s.en j));exact Zfl
  gs:=fun r hr=>Ac (h.gs r hr) fun q hq=>kk q (Am (h.tgs r hr q hq) h.tN oM)
  ts:=fun r hr=>Ac (h.ts r hr) fun q hq=>kk q (Am (h.tts r hr q hq) h.tN oM)
  td:=Ac h.td fun q hq=>kk q (Am (h.ttd q hq) h.tN dE)}
theorem BO.setTodo(h:BO E R S L s V B C GB TB AB NB DB vg vt vd tag){vd':Value}{O:List Nat}(ho:V.ownsRow E 3 1 vd' O.length (BN O))(ht:∀g,vd'.ownBlock=some g->tag g=7):
 BO E R S L {s with todo:=O} (V.setCell ⟨B,6,none⟩ vd') B C GB TB AB NB DB vg vt vd' tag:=by
 have kk:∀b,b≠B->(V.setCell ⟨B,6,none⟩ vd').heap[b]? =V.heap[b]? :=fun b hb=>gE hb;exact{h with
  b:=(h.b.set 6 vd').congr fun j hj=>by
   have hj7:j=0\/j=1\/j=2\/j=3\/j=4\/j=5\/j=6:=oM;rcases hj7 with rfl|rfl|rfl|rfl|rfl|rfl|rfl<;>rfl
  g:=h.g.of_block (kk _ (Am h.tG h.tB dE))
  t:=h.t.of_block (kk _ (Am h.tT h.tB dE))
  a:=h.a.of_block (kk _ (Am h.tA h.tB dE))
  n:=h.n.of_block (kk _ (Am h.tN h.tB dE))
  d:=h.d.of_block (kk _ (Am h.tD h.tB dE))
  gs:=fun r hr=>Ac (h.gs r hr) fun q hq=>kk q (Am (h.tgs r hr q hq) h.tB oM)
  ts:=fun r hr=>Ac (h.ts r hr) fun q hq=>kk q (Am (h.tts r hr q hq) h.tB oM)
  td:=Ac ho fun q hq=>kk q (Am (ht q hq) h.tB dE)
  ttd:=ht}
theorem BO.growTodo(h:BO E R S L s V B C GB TB AB NB DB vg vt vd tag){w3:World}{g cap:Nat}{O:List Nat}(hg:V.grownBy w3 vd.ownBlock)(hat:vd.ownBlock=some g\/g=V.heap.size)(hown:w3.ownsRow E 3 1 (.slice (some ⟨g,0,none⟩) O.length cap) O.length (BN O)):
 BO E R S L {s with todo:=O} (w3.setCell ⟨B,6,none⟩ (.slice (some ⟨g,0,none⟩) O.length cap)) B C GB TB AB NB DB vg vt (.slice (some ⟨g,0,none⟩) O.length cap) (fun b=>if b=g then 7 else tag b)/\w3.cell? ⟨B,6,none⟩=some vd/\w3.frozen? ⟨B,6,none⟩=false/\Below E V w3:=by
 have hne:∀b k,b<V.heap.size->tag b=k->k≠7->b≠g:=fun b k hb hk hm=>Gn h.ttd hat hk hm hb;have k3:∀b k,b<V.heap.size->tag b=k->k≠7->w3.heap[b]? =V.heap[b]? :=fun b k hb hk hm=>hg.block b hb fun e=>hm (by rw[<-hk];exact h.ttd b e.symm);have kk:∀b k,b<V.heap.size->tag b=k->k≠7->k≠1->(w3.setCell ⟨B,6,none⟩ (.slice (some ⟨g,0,none⟩) O.length cap)).heap[b]? =V.heap[b]? :=fun b k hb hk hm h1=>(gE (Am hk h.tB h1)).trans (k3 b k hb hk hm);have hB3:=h.b.of_block (k3 B 1 h.b.lt h.tB dE);refine⟨?_,hB3.cell (i:=6) dE,hB3.frozen 6,(Below.refl E V).grown hg h.lt (fun q e=>(h.td.lt q e).1)⟩;exact{h with
  b:=(hB3.set 6 _).congr fun j hj=>by
   have hj7:j=0\/j=1\/j=2\/j=3\/j=4\/j=5\/j=6:=oM;rcases hj7 with rfl|rfl|rfl|rfl|rfl|rfl|rfl<;>rfl
  g:=h.g.of_block (kk _ 2 h.g.lt h.tG dE dE)
  t:=h.t.of_block (kk _ 3 h.t.lt h.tT dE dE)
  a:=h.a.of_block (kk _ 4 h.a.lt h.tA dE dE)
  n:=h.n.of_block (kk _ 5 h.n.lt h.tN dE dE)
  d:=h.d.of_block (kk _ 6 h.d.lt h.tD dE dE)
  gs:=fun r hr=>Ac (h.gs r hr) fun q hq=>kk q (8+2*r) ((h.gs r hr).lt q hq).2 (h.tgs r hr q hq) oM oM
  ts:=fun r hr=>Ac (h.ts r hr) fun q hq=>kk q (9+2*r) ((h.ts r hr).lt q hq).2 (h.tts r hr q hq) oM oM
  td:=Ac hown fun q hq=>gE (by have e:g=q:=Option.some.inj hq;show q≠B;rw[<-e];exact(hne B 1 h.b.lt h.tB dE).symm)
  tB:=by show(if B=g then _ else _)=_;rw[if_neg (hne _ 1 h.b.lt h.tB dE)];exact h.tB
  tG:=by show(if GB=g then _ else _)=_;rw[if_neg (hne _ 2 h.g.lt h.tG dE)];exact h.tG
  tT:=by show(if TB=g then _ else _)=_;rw[if_neg (hne _ 3 h.t.lt h.tT dE)];exact h.tT
  tA:=by show(if AB=g then _ else _)=_;rw[if_neg (hne _ 4 h.a.lt h.tA dE)];exact h.tA
  tN:=by show(if NB=g then _ else _)=_;rw[if_neg (hne _ 5 h.n.lt h.tN dE)];exact h.tN
  tD:=by show(if DB=g then _ else _)=_;rw[if_neg (hne _ 6 h.d.lt h.tD dE)];exact h.tD
  tgs:=fun r hr q hq=>by show(if q=g then _ else _)=_;rw[if_neg (hne _ (8+2*r) ((h.gs r hr).lt q hq).2 (h.tgs r hr q hq) oM)];exact h.tgs r hr q hq
  tts:=fun r hr q hq=>by show(if q=g then _ else _)=_;rw[if_neg (hne _ (9+2*r) ((h.ts r hr).lt q hq).2 (h.tts r hr q hq) oM)];exact h.tts r hr q hq
  ttd:=fun q hq=>by show(if q=g then _ else _)=_;rw[if_pos (Option.some.inj hq).symm]}
theorem BO.setSl(h:BO E R S L s V B C GB TB AB NB DB vg vt vd tag){v':Value}{O:List Nat}{r:Nat}(hr:r<R)(ho:V.ownsRow E 3 1 v' O.length (BN O))(ht:∀g,v'.ownBlock=some g->tag g=8+2*r):
 BO E R S L {s with sl:=fun k=>if k=r then O else s.sl k} (V.setCell ⟨GB,r,none⟩ v') B C GB TB AB NB DB (fun k=>if k=r then v' else vg k) vt vd tag:=by
 have kk:∀b,b≠GB->(V.setCell ⟨GB,r,none⟩ v').heap[b]? =V.heap[b]? :=fun b hb=>gE hb;exact{h with
  b:=h.b.of_block (kk _ (Am h.tB h.tG dE))
  t:=h.t.of_block (kk _ (Am h.tT h.tG dE))
  a:=h.a.of_block (kk _ (Am h.tA h.tG dE))
  n:=h.n.of_block (kk _ (Am h.tN h.tG dE))
  d:=h.d.of_block (kk _ (Am h.tD h.tG dE))
  g:=(h.g.set r v').congr fun j hj=>rfl
  gs:=fun k hk=>by
   by_cases e:k=r
   .simp only[if_pos e];exact Ac ho fun q hq=>kk q (Am (ht q hq) h.tG oM)
   .simp only[if_neg e];exact Ac (h.gs k hk) fun q hq=>kk q (Am (h.tgs k hk q hq) h.tG oM)
  ts:=fun k hk=>Ac (h.ts k hk) fun q hq=>kk q (Am (h.tts k hk q hq) h.tG oM)
  td:=Ac h.td fun q hq=>kk q (Am (h.ttd q hq) h.tG dE)
  tgs:=fun k hk q hq=>by
   by_cases e:k=r
   .simp only[if_pos e]at hq;rw[e];exact ht q hq
   .simp only[if_neg e]at hq
    exact h.tgs k hk q hq}
theorem BO.growSl(h:BO E R S L s V B C GB TB AB NB DB vg vt vd tag){w3:World}{g cap:Nat}{O:List Nat}{r:Nat}(hr:r<R)(hg:V.grownBy w3 (vg r).ownBlock)(hat:(vg r).ownBlock=some g\/g=V.heap.size)(hown:w3.ownsRow E 3 1 (.slice (some ⟨g,0,none⟩) O.length cap) O.length (BN O)):
 BO E R S L {s with sl:=fun k=>if k=r then O else s.sl k} (w3.setCell ⟨GB,r,none⟩ (.slice (some ⟨g,0,none⟩) O.length cap)) B C GB TB AB NB DB (fun k=>if k=r then(.slice (some ⟨g,0,none⟩) O.length cap)else vg k) vt vd (fun b=>if b=g then 8+2*r else tag b)/\w3.cell? ⟨GB,r,none⟩=some (vg r)/\w3.frozen? ⟨GB,r,none⟩=false/\Below E V w3:=by
 have hne:∀b k,b<V.heap.size->tag b=k->k≠8+2*r->b≠g:=fun b k hb hk hm=>Gn (h.tgs r hr) hat hk hm hb;have k3:∀b k,b<V.heap.size->tag b=k->k≠8+2*r->w3.heap[b]? =V.heap[b]? :=fun b k hb hk hm=>hg.block b hb fun e=>hm (by rw[<-hk];exact h.tgs r hr b e.symm);have kk:∀b k,b<V.heap.size->tag b=k->k≠8+2*r->k≠2->(w3.setCell ⟨GB,r,none⟩ (.slice (some ⟨g,0,none⟩) O.length cap)).heap[b]? =V.heap[b]? :=fun b k hb hk hm h1=>(gE (Am hk h.tG h1)).trans (k3 b k hb hk hm);have hB3:=h.g.of_block (k3 GB 2 h.g.lt h.tG oM);refine⟨?_,hB3.cell hr,hB3.frozen r,(Below.refl E V).grown hg h.lt (fun q e=>((h.gs r hr).lt q e).1)⟩;exact{h with
  b:=h.b.of_block (kk _ 1 h.b.lt h.tB oM dE)
  t:=h.t.of_block (kk _ 3 h.t.lt h.tT oM dE)
  a:=h.a.of_block (kk _ 4 h.a.lt h.tA oM dE)
  n:=h.n.of_block (kk _ 5 h.n.lt h.tN oM dE)
  d:=h.d.of_block (kk _ 6 h.d.lt h.tD oM dE)
  g:=(hB3.set r _).congr fun j hj=>rfl
  gs:=fun k hk=>by
   by_cases e:k=r
   .simp only[if_pos e];exact Ac hown fun q hq=>gE (by have e:g=q:=Option.some.inj hq;show q≠GB;rw[<-e];exact(hne GB 2 h.g.lt h.tG oM).symm)
   .simp only[if_neg e];exact Ac (h.gs k hk) fun q hq=>kk q (8+2*k) ((h.gs k hk).lt q hq).2 (h.tgs k hk q hq) oM oM
  ts:=fun k hk=>Ac (h.ts k hk) fun q hq=>kk q (9+2*k) ((h.ts k hk).lt q hq).2 (h.tts k hk q hq) oM oM
  td:=Ac h.td fun q hq=>kk q 7 (h.td.lt q hq).2 (h.ttd q hq) oM dE
  tB:=by show(if B=g then _ else _)=_;rw[if_neg (hne _ 1 h.b.lt h.tB oM)];exact h.tB
  tG:=by show(if GB=g then _ else _)=_;rw[if_neg (hne _ 2 h.g.lt h.tG oM)];exact h.tG
  tT:=by show(if TB=g then _ else _)=_;rw[if_neg (hne _ 3 h.t.lt h.tT oM)];exact h.tT
  tA:=by show(if AB=g then _ else _)=_;rw[if_neg (hne _ 4 h.a.lt h.tA oM)];exact h.tA
  tN:=by show(if NB=g then _ else _)=_;rw[if_neg (hne _ 5 h.n.lt h.tN oM)];exact h.tN
  tD:=by show(if DB=g then _ else _)=_;rw[if_neg (hne _ 6 h.d.lt h.tD oM)];exact h.tD
  tgs:=fun k hk q hq=>by
   show(if q=g then _ else _)=_;by_cases e:k=r
   .simp only[if_pos e]at hq;rw[if_pos (Option.some.inj hq).symm,e]
   .simp only[if_neg e]at hq;rw[if_neg (hne _ (8+2*k) ((h.gs k hk).lt q hq).2 (h.tgs k hk q hq) oM)];exact h.tgs k hk q hq
  tts:=fun k hk q hq=>by show(if q=g then _ else _)=_;rw[if_neg (hne _ (9+2*k) ((h.ts k hk).lt q hq).2 (h.tts k hk q hq) oM)];exact h.tts k hk q hq
  ttd:=fun q hq=>by show(if q=g then _ else _)=_;rw[if_neg (hne _ 7 (h.td.lt q hq).2 (h.ttd q hq) oM)];exact h.ttd q hq}
theorem BO.setTl(h:BO E R S L s V B C GB TB AB NB DB vg vt vd tag){v':Value}{O:List Nat}{r:Nat}(hr:r<S)(ho:V.ownsRow E 3 1 v' O.length (BN O))(ht:∀g,v'.ownBlock=some g->tag g=9+2*r):
 BO E R S L {s with tl:=fun k=>if k=r then O else s.tl k} (V.setCell ⟨TB,r,none⟩ v') B C GB TB AB NB DB vg (fun k=>if k=r then v' else vt k) vd tag:=by
 have kk:∀b,b≠TB->(V.setCell ⟨TB,r,none⟩ v').heap[b]? =V.heap[b]? :=fun b hb=>gE hb;exact{h with
  b:=h.b.of_block (kk _ (Am h.tB h.tT dE))
  g:=h.g.of_block (kk _ (Am h.tG h.tT dE))
  a:=h.a.of_block (kk _ (Am h.tA h.tT dE))
  n:=h.n.of_block (kk _ (Am h.tN h.tT dE))
  d:=h.d.of_block (kk _ (Am h.tD h.tT dE))
  t:=(h.t.set r v').congr fun j hj=>rfl
  ts:=fun k hk=>by
   by_cases e:k=r
   .simp only[if_pos e];exact Ac ho fun q hq=>kk q (Am (ht q hq) h.tT oM)
   .simp only[if_neg e];exact Ac (h.ts k hk) fun q hq=>kk q (Am (h.tts k hk q hq) h.tT oM)
  gs:=fun k hk=>Ac (h.gs k hk) fun q hq=>kk q (Am (h.tgs k hk q hq) h.tT oM)
  td:=Ac h.td fun q hq=>kk q (Am (h.ttd q hq) h.tT dE)
  tts:=fun k hk q hq=>by
   by_cases e:k=r
   .simp only[if_pos e]at hq;rw[e];exact ht q hq
   .simp only[if_neg e]at hq
    exact h.tts k hk q hq}
theorem BO.growTl(h:BO E R S L s V B C GB TB AB NB DB vg vt vd tag){w3:World}{g cap:Nat}{O:List Nat}{r:Nat}(hr:r<S)(hg:V.grownBy w3 (vt r).ownBlock)(hat:(vt r).ownBlock=some g\/g=V.heap.size)(hown:w3.ownsRow E 3 1 (.slice (some ⟨g,0,none⟩) O.length cap) O.length (BN O)):
 BO E R S L {s with tl:=fun k=>if k=r then O else s.tl k} (w3.setCell ⟨TB,r,none⟩ (.slice (some ⟨g,0,none⟩) O.length cap)) B C GB TB AB NB DB vg (fun k=>if k=r then(.slice (some ⟨g,0,none⟩) O.length cap)else vt k) vd (fun b=>if b=g then 9+2*r else tag b)/\w3.cell? ⟨TB,r,none⟩=some (vt r)/\w3.frozen? ⟨TB,r,none⟩=false/\Below E V w3:=by
 have hne:∀b k,b<V.heap.size->tag b=k->k≠9+2*r->b≠g:=fun b k hb hk hm=>Gn (h.tts r hr) hat hk hm hb;have k3:∀b k,b<V.heap.size->tag b=k->k≠9+2*r->w3.heap[b]? =V.heap[b]? :=fun b k hb hk hm=>hg.block b hb fun e=>hm (by rw[<-hk];exact h.tts r hr b e.symm);have kk:∀b k,b<V.heap.size->tag b=k->k≠9+2*r->k≠3->(w3.setCell ⟨TB,r,none⟩ (.slice (some ⟨g,0,none⟩) O.length cap)).heap[b]? =V.heap[b]? :=fun b k hb hk hm h1=>(gE (Am hk h.tT h1)).trans (k3 b k hb hk hm);have hB3:=h.t.of_block (k3 TB 3 h.t.lt h.tT oM);refine⟨?_,hB3.cell hr,hB3.frozen r,(Below.refl E V).grown hg h.lt (fun q e=>((h.ts r hr).lt q e).1)⟩;exact{h with
  b:=h.b.of_block (kk _ 1 h.b.lt h.tB oM dE)
  g:=h.g.of_block (kk _ 2 h.g.lt h.tG oM dE)
  a:=h.a.of_block (kk _ 4 h.a.lt h.tA oM dE)
  n:=h.n.of_block (kk _ 5 h.n.lt h.tN oM dE)
  d:=h.d.of_block (kk _ 6 h.d.lt h.tD oM dE)
  t:=(hB3.set r _).congr fun j hj=>rfl
  ts:=fun k hk=>by
   by_cases e:k=r
   .simp only[if_pos e];exact Ac hown fun q hq=>gE (by have e:g=q:=Option.some.inj hq;show q≠TB;rw[<-e];exact(hne TB 3 h.t.lt h.tT oM).symm)
   .simp only[if_neg e];exact Ac (h.ts k hk) fun q hq=>kk q (9+2*k) ((h.ts k hk).lt q hq).2 (h.tts k hk q hq) oM oM
  gs:=fun k hk=>Ac (h.gs k hk) fun q hq=>kk q (8+2*k) ((h.gs k hk).lt q hq).2 (h.tgs k hk q hq) oM oM
  td:=Ac h.td fun q hq=>kk q 7 (h.td.lt q hq).2 (h.ttd q hq) oM dE
  tB:=by show(if B=g then _ else _)=_;rw[if_neg (hne _ 1 h.b.lt h.tB oM)];exact h.tB
  tG:=by show(if GB=g then _ else _)=_;rw[if_neg (hne _ 2 h.g.lt h.tG oM)];exact h.tG
  tT:=by show(if TB=g then _ else _)=_;rw[if_neg (hne _ 3 h.t.lt h.tT oM)];exact h.tT
  tA:=by show(if AB=g then _ else _)=_;rw[if_neg (hne _ 4 h.a.lt h.tA oM)];exact h.tA
  tN:=by show(if NB=g then _ else _)=_;rw[if_neg (hne _ 5 h.n.lt h.tN oM)];exact h.tN
  tD:=by show(if DB=g then _ else _)=_;rw[if_neg (hne _ 6 h.d.lt h.tD oM)];exact h.tD
  tts:=fun k hk q hq=>by
   show(if q=g then _ else _)=_;by_cases e:k=r
   .simp only[if_pos e]at hq;rw[if_pos (Option.some.inj hq).symm,e]
   .simp only[if_neg e]at hq;rw[if_neg (hne _ (9+2*k) ((h.ts k hk).lt q hq).2 (h.tts k hk q hq) oM)];exact h.tts k hk q hq
  tgs:=fun k hk q hq=>by show(if q=g then _ else _)=_;rw[if_neg (hne _ (8+2*k) ((h.gs k hk).lt q hq).2 (h.tgs k hk q hq) oM)];exact h.tgs k hk q hq
  ttd:=fun q hq=>by show(if q=g then _ else _)=_;rw[if_neg (hne _ 7 (h.td.lt q hq).2 (h.ttd q hq) oM)];exact h.ttd q hq}
end
section
variable {E R S L : Nat} {s : Gh} {V w w' : World} {B C GB TB AB NB DB : Nat} {vg vt : Nat -> Value} {vd : Value} {tag : Nat -> Nat}
theorem BO.appTodo(h:BO E R S L s V B C GB TB AB NB DB vg vt vd tag)(hl:s.todo.length<=1000000)(x:Nat):
 ∃g cap w3,(Builtin.append_ #[72,72] 72 #[vd,.slice (some ⟨V.heap.size,0,none⟩) 1 1]).run prog (V.alloc (.cells #[.int .i64 (x:Int)] 3))=.ok (.slice (some ⟨g,0,none⟩) (s.todo.length+1) cap) w3/\BO E R S L {s with todo:=s.todo++[x]} (w3.setCell ⟨B,6,none⟩ (.slice (some ⟨g,0,none⟩) (s.todo.length+1) cap)) B C GB TB AB NB DB vg vt (.slice (some ⟨g,0,none⟩) (s.todo.length+1) cap) (fun b=>if b=g then 7 else tag b)/\w3.cell? ⟨B,6,none⟩=some vd/\w3.frozen? ⟨B,6,none⟩=false/\Below E V w3/\(∀b,b<V.heap.size->vd.ownBlock≠some b->w3.heap[b]? =V.heap[b]?)/\∀b,b<V.heap.size->tag b≠7->b≠g:=by
 obtain⟨i0,hi0,hz0,hz1,hz2⟩:=info_parts D8;have hb0:Below V.heap.size V (V.alloc (.cells #[.int .i64 (x:Int)] 3)):=A0 _ _;have h0:=h.below hb0;have hsz:(V.alloc (.cells #[.int .i64 (x:Int)] 3)).heap.size=V.heap.size+1:=by show(V.alloc (.cells #[.int .i64 (x:Int)] 3)).heap.size=_;simp
 obtain⟨g,cap,w3,hr',hown,hgrow,hat,hlt⟩:=run_append_lies (P:=prog) (V.alloc (.cells #[.int .i64 (x:Int)] 3)) 72 72 E 3 i0 _ 1 8 underlying72 hi0 hz0 hz1 hz2 rfl dE vd s.todo.length (BN s.todo) h0.td ⟨V.heap.size,0,none⟩ 1 1 ([Value.int .i64 (x:Int)]) rfl
  (World.news_of_block (cs:=#[.int .i64 (x:Int)]) (t:=3) (fr:=(0,0)) (heap_alloc_new V _)) Zhq dE mL oM h0.lt _ rfl
 have hn:(s.todo++[x]).length=s.todo.length+1:=sM;have ho:w3.ownsRow E 3 1 (.slice (some ⟨g,0,none⟩) (s.todo++[x]).length cap) (s.todo++[x]).length (BN (s.todo++[x])):=by
  rw[hn];have e9:BN (s.todo++[x])=(BN s.todo)++([Value.int .i64 (x:Int)]):=by simp[BN,rkCs]
  rw[e9];exact hown
 obtain⟨k1,k2,k3,k4⟩:=h0.growTodo hgrow hat ho;rw[hn]at k1;exact⟨g,cap,w3,hr',k1,k2,k3,(hb0.mono h.lt).trans k4,fun b hb hne=>(hgrow.block b oM (fun e=>hne e.symm)).trans (hb0.block b hb),fun b hb hk=>Gn h0.ttd hat rfl hk oM⟩
theorem BO.appSlD(h:BO E R S L s V B C GB TB AB NB DB vg vt vd tag){r:Nat}(hr:r<R)(hl:(s.sl r).length<=1000000)(x:Nat):
 ∃g cap w3,(Builtin.append_ #[72,72] 72 #[(vg r),.slice (some ⟨V.heap.size,0,none⟩) 1 1]).run prog (V.alloc (.cells #[.int .i64 (x:Int)] 3)).drew=.ok (.slice (some ⟨g,0,none⟩) ((s.sl r).length+1) cap) w3/\BO E R S L {s with sl:=fun k=>if k=r then s.sl r++[x]else s.sl k} (w3.setCell ⟨GB,r,none⟩ (.slice (some ⟨g,0,none⟩) ((s.sl r).length+1) cap)) B C GB TB AB NB DB (fun k=>if k=r then(.slice (some ⟨g,0,none⟩) ((s.sl r).length+1) cap)else vg k) vt vd (fun b=>if b=g then 8+2*r else tag b)/\w3.cell? ⟨GB,r,none⟩=some (vg r)/\w3.frozen? ⟨GB,r,none⟩=false/\Below E V w3/\(∀b,b<V.heap.size->(vg r).ownBlock≠some b->w3.heap[b]? =V.heap[b]?)/\∀b,b<V.heap.size->tag b≠8+2*r->b≠g:=by
 obtain⟨i0,hi0,hz0,hz1,hz2⟩:=info_parts D8;have hb0:Below V.heap.size V (V.alloc (.cells #[.int .i64 (x:Int)] 3)).drew:=bel (A0 _ _) (Bg _);have h0:=h.below hb0;have hsz:(V.alloc (.cells #[.int .i64 (x:Int)] 3)).drew.heap.size=V.heap.size+1:=by show(V.alloc (.cells #[.int .i64 (x:Int)] 3)).heap.size=_;simp
 obtain⟨g,cap,w3,hr',hown,hgrow,hat,hlt⟩:=run_append_lies (P:=prog) (V.alloc (.cells #[.int .i64 (x:Int)] 3)).drew 72 72 E 3 i0 _ 1 8 underlying72 hi0 hz0 hz1 hz2 rfl dE (vg r) (s.sl r).length (BN (s.sl r)) (h0.gs r hr) ⟨V.heap.size,0,none⟩ 1 1 ([Value.int .i64 (x:Int)]) rfl
  (World.news_of_block (cs:=#[.int .i64 (x:Int)]) (t:=3) (fr:=(0,0)) (heap_alloc_new V _)) Zhq dE mL oM h0.lt _ rfl
 have hn:((s.sl r)++[x]).length=(s.sl r).length+1:=sM;have ho:w3.ownsRow E 3 1 (.slice (some ⟨g,0,none⟩) ((s.sl r)++[x]).length cap) ((s.sl r)++[x]).length (BN ((s.sl r)++[x])):=by
  rw[hn];have e9:BN ((s.sl r)++[x])=(BN (s.sl r))++([Value.int .i64 (x:Int)]):=by simp[BN,rkCs]
  rw[e9];exact hown
 obtain⟨k1,k2,k3,k4⟩:=h0.growSl hr hgrow hat ho;rw[hn]at k1;exact⟨g,cap,w3,hr',k1,k2,k3,(hb0.mono h.lt).trans k4,fun b hb hne=>(hgrow.block b oM (fun e=>hne e.symm)).trans (hb0.block b hb),fun b hb hk=>Gn (h0.tgs r hr) hat rfl hk oM⟩
theorem BO.appTlD(h:BO E R S L s V B C GB TB AB NB DB vg vt vd tag){r:Nat}(hr:r<S)(hl:(s.tl r).length<=1000000)(x:Nat):
 ∃g cap w3,(Builtin.append_ #[72,72] 72 #[(vt r),.slice (some ⟨V.heap.size,0,none⟩) 1 1]).run prog (V.alloc (.cells #[.int .i64 (x:Int)] 3)).drew=.ok (.slice (some ⟨g,0,none⟩) ((s.tl r).length+1) cap) w3/\BO E R S L {s with tl:=fun k=>if k=r then s.tl r++[x]else s.tl k} (w3.setCell ⟨TB,r,none⟩ (.slice (some ⟨g,0,none⟩) ((s.tl r).length+1) cap)) B C GB TB AB NB DB vg (fun k=>if k=r then(.slice (some ⟨g,0,none⟩) ((s.tl r).length+1) cap)else vt k) vd (fun b=>if b=g then 9+2*r else tag b)/\w3.cell? ⟨TB,r,none⟩=some (vt r)/\w3.frozen? ⟨TB,r,none⟩=false/\Below E V w3/\(∀b,b<V.heap.size->(vt r).ownBlock≠some b->w3.heap[b]? =V.heap[b]?)/\∀b,b<V.heap.size->tag b≠9+2*r->b≠g:=by
 obtain⟨i0,hi0,hz0,hz1,hz2⟩:=info_parts D8;have hb0:Below V.heap.size V (V.alloc (.cells #[.int .i64 (x:Int)] 3)).drew:=bel (A0 _ _) (Bg _);have h0:=h.below hb0;have hsz:(V.alloc (.cells #[.int .i64 (x:Int)] 3)).drew.heap.size=V.heap.size+1:=by show(V.alloc (.cells #[.int .i64 (x:Int)] 3)).heap.size=_;simp
 obtain⟨g,cap,w3,hr',hown,hgrow,hat,hlt⟩:=run_append_lies (P:=prog) (V.alloc (.cells #[.int .i64 (x:Int)] 3)).drew 72 72 E 3 i0 _ 1 8 underlying72 hi0 hz0 hz1 hz2 rfl dE (vt r) (s.tl r).length (BN (s.tl r)) (h0.ts r hr) ⟨V.heap.size,0,none⟩ 1 1 ([Value.int .i64 (x:Int)]) rfl
  (World.news_of_block (cs:=#[.int .i64 (x:Int)]) (t:=3) (fr:=(0,0)) (heap_alloc_new V _)) Zhq dE mL oM h0.lt _ rfl
 have hn:((s.tl r)++[x]).length=(s.tl r).length+1:=sM;have ho:w3.ownsRow E 3 1 (.slice (some ⟨g,0,none⟩) ((s.tl r)++[x]).length cap) ((s.tl r)++[x]).length (BN ((s.tl r)++[x])):=by
  rw[hn];have e9:BN ((s.tl r)++[x])=(BN (s.tl r))++([Value.int .i64 (x:Int)]):=by simp[BN,rkCs]
  rw[e9];exact hown
 obtain⟨k1,k2,k3,k4⟩:=h0.growTl hr hgrow hat ho;rw[hn]at k1;exact⟨g,cap,w3,hr',k1,k2,k3,(hb0.mono h.lt).trans k4,fun b hb hne=>(hgrow.block b oM (fun e=>hne e.symm)).trans (hb0.block b hb),fun b hb hk=>Gn (h0.tts r hr) hat rfl hk oM⟩
end

def Ci(s:Gh)(p:Nat):Gh:=if s.nd p=true then s else{s with nd:=fun x=>if x=p then true else s.nd x,todo:=s.todo++[p]}
def Bn(s:Gh)(ps:List Nat):Gh:=ps.foldl Ci s
theorem Og(s:Gh){ps:List Nat}{j:Nat}(hj:j<ps.length):Bn s (ps.take (j+1))=Ci (Bn s (ps.take j)) ps[j]:=by
 unfold Bn;exact Zfn
theorem Qe(s:Gh)(p:Nat):(Ci s p).todo.length<=s.todo.length+1:=by unfold Ci;split<;>simp
theorem Fk:∀ (ps:List Nat) (s:Gh),(Bn s ps).todo.length<=s.todo.length+ps.length
 |[],s=>gF _
 |p::ps,s=>by
  have h1:=Fk ps (Ci s p);have h2:=Qe s p;show(Bn (Ci s p) ps).todo.length<=_;simp only[List.length_cons];omega
def Lk(w w':World)(tag tag':Nat->Nat):Prop:=∀b,b<w.heap.size->tag b≠1->tag b≠6->tag b≠7->w'.heap[b]? =w.heap[b]?/\tag' b=tag b
theorem Lk.lt{w w':World}{tag tag':Nat->Nat}(h:Lk w w' tag tag'){b:Nat}(hb:b<w.heap.size)(h1:tag b≠1)(h6:tag b≠6)(h7:tag b≠7):b<w'.heap.size:=by
 have h9:=(h b hb h1 h6 h7).1;rw[Array.getElem?_eq_getElem hb]at h9;exact(Array.getElem?_eq_some_iff.1 h9).1
theorem FZ(E R S L:Nat)(s:Gh)(w:World)(B C GB TB AB NB DB:Nat)(vg vt:Nat->Value)(vd:Value)(tag:Nat->Nat)(h:BO E R S L s w B C GB TB AB NB DB vg vt vd tag)(pb cap m:Nat)(po:Option Addr)(ps:List Nat)(hpo:0<ps.length->po=some ⟨pb,0,none⟩)(hps:∀j (hj:j<ps.length),w.cell? ⟨pb,j,none⟩=some (.int .i64 (ps[j]:Int)))(hm:0<ps.length->tag pb=m/\m≠1/\m≠6/\m≠7)(hL:∀p∈ps,p<L)(hl:s.todo.length+ps.length<=1000000)(hLL:L<=1000000):
 Calls prog 29 #[.pointer (some ⟨B,0,none⟩),.slice po ps.length cap] w fun e w'=>e=.returned (.tuple #[])/\Below E w w'/\∃vd' tag',BO E R S L (Bn s ps) w' B C GB TB AB NB DB vg vt vd' tag'/\Lk w w' tag tag':=by
 have HH:=A7 h;have HP:=A7 (And.intro hps (And.intro hm hL));obtain⟨n,hn⟩:=gA (ps.length)
 rw[hn]at hpo hl |-;have HN:=A7 hn;clear h hps hm hL hn;go_enter func29,ntmps29;go_wp2
 go_loopw [8] (fun iv wr=>∃j:Nat,j<=n/\iv=.int .i64 (j:Int)/\Hid (Below E w wr/\∃vd' tag',BO E R S L (Bn s (ps.take j)) wr B C GB TB AB NB DB vg vt vd' tag'/\(∀k (hk:k<ps.length),wr.cell? ⟨pb,k,none⟩=some (.int .i64 (ps[k]:Int)))/\(0<ps.length->tag' pb=m/\m≠1/\m≠6/\m≠7)/\Lk w wr tag tag')) (fun iv _=>n-(intOf iv).toNat)
 case atStart=>exact⟨0,gI _,rfl,Below.refl E w,vd,tag,HH.out,HP.1,HP.2.1,fun b _ _ _ _=>⟨rfl,rfl⟩⟩
 case round=>
  obtain⟨j,hj,rfl,HJ⟩:=hrel;by_cases hlt:j<n
  .have hpe:=hpo oM;subst hpe;have hjl:j<ps.length:=by have:=HN.out;omega
   obtain⟨hB0,vd',tag',hK,hC,hT,hS⟩:=HJ.out;have HS:=A7 hS;have x0:=hC j hjl;have HCT:=A7 (And.intro hC (hT oM));have HB0:=A7 hB0;have HK:=A7 hK;have hpl:ps[j]<L:=HP.2.2 _ (gD hjl);have HX:Hid (Bn s (ps.take (j+1))=Ci (Bn s (ps.take j)) ps[j]):=Og s hjl;have hlen:(Bn s (ps.take j)).todo.length<=1000000:=by
    have h9:=Fk (ps.take j) s;have h8:(ps.take j).length<=n:=by rw[List.length_take];have:=HN.out;omega
    omega
   obtain⟨p,hp⟩:=gA (ps[j])
   rw[hp]at x0 hpl HX;obtain⟨T,hTT⟩:=gA (Bn s (ps.take j))
   simp only[hTT]at HK HX hlen;have d5:=HK.b5;have d6:=HK.b6;have dd:=HK.d.cell hpl;have fd:=HK.d.frozen p;have i1:(0:Int)<=(j:Int):=oM;have i2:(j:Int)<(n:Int):=oM;have i3:(0:Int)<=(p:Int):=oM;have i4:(p:Int)<(L:Int):=oM;have wi:IntKind.i64.wrap ((j:Int)+1)=((j+1:Nat):Int):=by rw[IntKind.wrap_i64];omega
   clear hB0 hK hC hT hTT hp hS;obtain⟨b,hb⟩:=gA (T.nd p)
   rw[hb]at dd;have HBB:=A7 hb;clear hb;cases b with
   |true=>
    go_wp2;go_roundw
    case rel=>
     refine⟨j+1,oM,gN,HB0.out,vd',tag',?_,HCT.1,fun _=>HCT.2,HS.out⟩;rw[HX.out];unfold Ci;rw[if_pos HBB.out];exact HK.out
    case measure=>simp[intOf];omega
   |false=>
    obtain⟨W1,hW1⟩:∃W,wr.setCell ⟨DB,p,none⟩ (.bool true)=W:=⟨_,rfl⟩
    have HK1:=A7 (HK.setNd p true);rw[hW1]at HK1;obtain⟨g,cap',w3,hr,hk3,k2,k3,hb3,hoth,hne⟩:=HK1.appTodo hlen p;have d6':=HK1.b6;have HR:=A7 hr;have lB:B<W1.heap.size:=HK1.b.lt;have n1:¬B=W1.heap.size:=oM;have hpw:pb<wr.heap.size:=A8 x0;have hsz:W1.heap.size=wr.heap.size:=by rw[<-hW1];simp
    have HT1:Hid ((∀k (hk:k<ps.length),(w3.setCell ⟨B,6,none⟩ (.slice (some ⟨g,0,none⟩) (T.todo.length+1) cap')).cell? ⟨pb,k,none⟩=some (.int .i64 (ps[k]:Int)))/\(if pb=g then 7 else tag' pb)=m):=by
     obtain⟨c1,c2,c3,c4,c5⟩:=HCT.out;refine⟨fun k hk=>?_,?_⟩
     .rw[gC (a:=⟨pb,k,none⟩) (w:=wr)]
      .exact c1 k hk
      .refine(gE (Am c2 HK.tB c3)).trans ((hoth pb oM (fun e=>(Am c2 (HK.ttd pb e) c5) rfl)).trans ?_);rw[<-hW1];exact gE (Am c2 HK.tD c4)
     .rw[if_neg (hne pb oM (by rw[c2];exact c5))];exact c2
    have HS3:Hid (Lk w (w3.setCell ⟨B,6,none⟩ (.slice (some ⟨g,0,none⟩) (T.todo.length+1) cap')) tag (fun b=>if b=g then 7 else tag' b)):=fun b hb t1 t6 t7=>by
     have hlt:=HS.lt hb t1 t6 t7;obtain⟨e1,e2⟩:=HS.out b hb t1 t6 t7;have h6:b≠DB:=fun e=>t6 (by rw[<-e2,e];exact HK.tD);have h1:b≠B:=fun e=>t1 (by rw[<-e2,e];exact HK.tB);refine⟨((gE h1).trans ((hoth b oM (fun e=>t7 (by rw[<-e2];exact HK.ttd b e))).trans ?_)).trans e1,?_⟩
     .rw[<-hW1];exact gE h6
     .show(if b=g then 7 else tag' b)=tag b;rw[if_neg (hne b oM (by rw[e2];exact t7)),e2]
    have HK3:Hid (BO E R S L (Ci T p) (w3.setCell ⟨B,6,none⟩ (.slice (some ⟨g,0,none⟩) (T.todo.length+1) cap')) B C GB TB AB NB DB vg vt (.slice (some ⟨g,0,none⟩) (T.todo.length+1) cap') (fun b=>if b=g then 7 else tag' b)):=by
     unfold Ci;rw[if_neg (by rw[HBB.out];decide)];exact hk3
    have HB3:Hid (Below E w (w3.setCell ⟨B,6,none⟩ (.slice (some ⟨g,0,none⟩) (T.todo.length+1) cap'))):=by
     have h9:Below E wr W1:=by rw[<-hW1];exact(Below.refl E wr).setCell HK.hD _
     exact((HB0.trans h9).trans hb3).setCell HK.hB _
    have p6:(W1.alloc (.cells #[.int .i64 (p:Int)] 3)).cell? ⟨B,6,none⟩=some vd':=kc (A0 _ _) d6';obtain⟨M,hM⟩:=gA (T.todo.length+1)
    simp only[hM]at HR HT1 HK3 HB3 HS3;clear hr hk3 hb3 hoth hne hM hsz hpw lB;go_upto_region 5 with fail;try rw[hW1]
    go_wp2_with(at_builtin;refine AO rF _ _ _ rF _ _ _ rF rF HR.out ?_);go_roundw
    case rel=>
     refine⟨j+1,oM,gN,HB3.out,(.slice (some ⟨g,0,none⟩) M cap'),(fun b=>if b=g then 7 else tag' b),?_,HT1.1,fun _=>⟨HT1.2,HCT.2.2⟩,HS3.out⟩;rw[HX.out];exact HK3.out
    case measure=>simp[intOf];omega
  .have e9:¬ (j:Int)<(n:Int):=oM;have hjn:j=ps.length:=by have:=HN.out;omega
   obtain⟨hB0,vd',tag',hK,-,-,hS⟩:=HJ.out;rw[hjn,List.take_length]at hK;have HE:=A7 (And.intro hB0 (And.intro hK hS));clear hlt hjn hB0 hK hS;go_wp2;first|go_end0|(simp only[Exit.inBlock,Exit.then];refine bodyPost_ret (results_none rfl _ _ _) rfl ?_)|refine bodyPost_ret (results_none rfl _ _ _) rfl ?_
   exact⟨rfl,HE.1,vd',tag',HE.2.1,HE.2.2⟩
theorem Je(c:Cd)(hg:Good c)(v0 v1 v2 v3 ru su ou gu pu ct:Value)(X:List Cl)(hX:X.length=c.regs.length)(op nn bt:Int)(B C:Value)(kd ka:Nat)(hd:kd<c.regs.length)(ha:ka<X.length)(h2:c.regs[kd].kind=2)(w:World)(hv:CD w v0 v1 v2 v3 c)(hcs:Yg w ru X):
 Calls prog 62 #[.agg #[v0,v1,v2,v3,ru,su,ou,gu,pu,ct],.agg #[.int .i64 op,.int .i64 (kd:Int),.int .i64 (ka:Int),B,C,.int .i64 nn,.int .u32 bt]] w fun e w'=>
  e=.returned (.agg #[.slice X[ka].p X[ka].h.pats.length X[ka].q,.int .i64 X[ka].h.whole])/\C6 w' X[ka].p X[ka].h.pats/\Below w.heap.size w w':=by
 obtain⟨p1,q1,rfl,-⟩:=id hv.regs;obtain⟨lb,lo,rfl,hreg⟩:=hv.regs.at hd;obtain⟨pr,qr,rfl,-⟩:=id hcs.row;obtain⟨rb,ro,rfl,hca⟩:=hcs.row.at ha;have na:=hcs.nums _ (gD ha);obtain⟨xa,hxa⟩:∃x,X[ka]=x:=⟨_,rfl⟩
 rw[hxa]at hca na |-;obtain⟨⟨tk,tp⟩,hT⟩:∃t:Ty,c.regs[kd]=t:=⟨_,rfl⟩
 rw[hT]at hreg h2;simp only at h2;obtain⟨n1,hn1'⟩:∃n,c.regs.length=n:=⟨_,rfl⟩
 rw[hX]at ha |-;rw[hn1']at hd ha |-;have hregsL:=hg.regsL;rw[hn1']at hregsL;obtain⟨LA,hLA⟩:∃l,xa.h.pats.length=l:=⟨_,rfl⟩
 have y0:w.cell? ⟨rb,ro+ka*2,none⟩=some (.slice xa.p LA xa.q):=by rw[<-hLA];exact hca.at 0 rfl
 have y1:w.cell? ⟨rb,ro+ka*2+1,none⟩=some (.int .i64 xa.h.whole):=hca.at 1 rfl;rw[hLA];have z0:w.cell? ⟨lb,lo+kd*2,none⟩=some (.int .i64 tk):=hreg.at 0 rfl;have z1:w.cell? ⟨lb,lo+kd*2+1,none⟩=some (.int .i64 tp):=hreg.at 1 rfl;have hba:Below w.heap.size w (((w.alloc (.cells #[v0,.slice (some ⟨lb,lo,none⟩) n1 q1,v2,v3,.slice (some ⟨rb,ro,none⟩) n1 qr,su,ou,gu,pu,ct] 110)).alloc (.cells #[.int .i64 op,.int .i64 (kd:Int),.int .i64 (ka:Int),B,C,.int .i64 nn,.int .u32 bt] 40)).alloc (.cells #[.slice none 0 0,.int .i64 0] 74)):=bel (A0 _ _) (bel (A0 _ _) (A0 _ _));have b1:(((w.alloc (.cells #[v0,.slice (some ⟨lb,lo,none⟩) n1 q1,v2,v3,.slice (some ⟨rb,ro,none⟩) n1 qr,su,ou,gu,pu,ct] 110)).alloc (.cells #[.int .i64 op,.int .i64 (kd:Int),.int .i64 (ka:Int),B,C,.int .i64 nn,.int .u32 bt] 40)).alloc (.cells #[.slice none 0 0,.int .i64 0] 74)).cell? ⟨w.heap.size,1,none⟩=some (.slice (some ⟨lb,lo,none⟩) n1 q1):=kc (A0 _ _) (kc (A0 _ _) sG);have b2:(((w.alloc (.cells #[v0,.slice (some ⟨lb,lo,none⟩) n1 q1,v2,v3,.slice (some ⟨rb,ro,none⟩) n1 qr,su,ou,gu,pu,ct] 110)).alloc (.cells #[.int .i64 op,.int .i64 (kd:Int),.int .i64 (ka:Int),B,C,.int .i64 nn,.int .u32 bt] 40)).alloc (.cells #[.slice none 0 0,.int .i64 0] 74)).cell? ⟨w.heap.size+1,1,none⟩=some (.int .i64 (kd:Int)):=kc (A0 _ _) sG;have b3:=kc hba z0;have b4:=kc hba z1;have c1:∀o,((((w.alloc (.cells #[v0,.slice (some ⟨lb,lo,none⟩) n1 q1,v2,v3,.slice (some ⟨rb,ro,none⟩) n1 qr,su,ou,gu,pu,ct] 110)).alloc (.cells #[.int .i64 op,.int .i64 (kd:Int),.int .i64 (ka:Int),B,C,.int .i64 nn,.int .u32 bt] 40)).alloc (.cells #[.slice none 0 0,.int .i64 0] 74)).alloc o).cell? ⟨w.heap.size,4,none⟩=some (.slice (some ⟨rb,ro,none⟩) n1 qr):=fun o=>kc (A0 _ _) (kc (A0 _ _) (kc (A0 _ _) sG));have c2:∀o,((((w.alloc (.cells #[v0,.slice (some ⟨lb,lo,none⟩) n1 q1,v2,v3,.slice (some ⟨rb,ro,none⟩) n1 qr,su,ou,gu,pu,ct] 110)).alloc (.cells #[.int .i64 op,.int .i64 (kd:Int),.int .i64 (ka:Int),B,C,.int .i64 nn,.int .u32 bt] 40)).alloc (.cells #[.slice none 0 0,.int .i64 0] 74)).alloc o).cell? ⟨w.heap.size+1,2,none⟩=some (.int .i64 (ka:Int)):=fun o=>kc (A0 _ _) (kc (A0 _ _) sG);have c3:=fun o=>kc (bel hba (A0 _ o)) y0;have c4:=fun o=>kc (bel hba (A0 _ o)) y1;have c5:∀o,((((w.alloc (.cells #[v0,.slice (some ⟨lb,lo,none⟩) n1 q1,v2,v3,.slice (some ⟨rb,ro,none⟩) n1 qr,su,ou,gu,pu,ct] 110)).alloc (.cells #[.int .i64 op,.int .i64 (kd:Int),.int .i64 (ka:Int),B,C,.int .i64 nn,.int .u32 bt] 40)).alloc (.cells #[.slice none 0 0,.int .i64 0] 74)).alloc o).cell? ⟨w.heap.size+1+1,0,none⟩=some (.slice none 0 0):=fun o=>kc (A0 _ _) sG;have c6:∀o,((((w.alloc (.cells #[v0,.slice (some ⟨lb,lo,none⟩) n1 q1,v2,v3,.slice (some ⟨rb,ro,none⟩) n1 qr,su,ou,gu,pu,ct] 110)).alloc (.cells #[.int .i64 op,.int .i64 (kd:Int),.int .i64 (ka:Int),B,C,.int .i64 nn,.int .u32 bt] 40)).alloc (.cells #[.slice none 0 0,.int .i64 0] 74)).alloc o).cell? ⟨w.heap.size+1+1,1,none⟩=some (.int .i64 0):=fun o=>kc (A0 _ _) sG;have c7:∀o,((((w.alloc (.cells #[v0,.slice (some ⟨lb,lo,none⟩) n1 q1,v2,v3,.slice (some ⟨rb,ro,none⟩) n1 qr,su,ou,gu,pu,ct] 110)).alloc (.cells #[.int .i64 op,.int .i64 (kd:Int),.int .i64 (ka:Int),B,C,.int .i64 nn,.int .u32 bt] 40)).alloc (.cells #[.slice none 0 0,.int .i64 0] 74)).alloc o).frozen? ⟨w.heap.size+1+1,0,none⟩=false:=fun o=>kf (A0 _ _) (by simp[go_sem]:(((w.alloc (.cells #[v0,.slice (some ⟨lb,lo,none⟩) n1 q1,v2,v3,.slice (some ⟨rb,ro,none⟩) n1 qr,su,ou,gu,pu,ct] 110)).alloc (.cells #[.int .i64 op,.int .i64 (kd:Int),.int .i64 (ka:Int),B,C,.int .i64 nn,.int .u32 bt] 40)).alloc (.cells #[.slice none 0 0,.int .i64 0] 74)).cell? ⟨w.heap.size+1+1,0,none⟩=some (.slice none 0 0)) sG;have c8:∀o,((((w.alloc (.cells #[v0,.slice (some ⟨lb,lo,none⟩) n1 q1,v2,v3,.slice (some ⟨rb,ro,none⟩) n1 qr,su,ou,gu,pu,ct] 110)).alloc (.cells #[.int .i64 op,.int .i64 (kd:Int),.int .i64 (ka:Int),B,C,.int .i64 nn,.int .u32 bt] 40)).alloc (.cells #[.slice none 0 0,.int .i64 0] 74)).alloc o).frozen? ⟨w.heap.size+1+1,1,none⟩=false:=fun o=>kf (A0 _ _) (by simp[go_sem]:(((w.alloc (.cells #[v0,.slice (some ⟨lb,lo,none⟩) n1 q1,v2,v3,.slice (some ⟨rb,ro,none⟩) n1 qr,su,ou,gu,pu,ct] 110)).alloc (.cells #[.int .i64 op,.int .i64 (kd:Int),.int .i64 (ka:Int),B,C,.int .i64 nn,.int .u32 bt] 40)).alloc (.cells #[.slice none 0 0,.int .i64 0] 74)).cell? ⟨w.heap.size+1+1,1,none⟩=some (.int .i64 0)) sG;have d1:(0:Int)<=(kd:Int):=oM;have d2:(kd:Int)<(n1:Int):=oM;have d3:(ka:Int)<(n1:Int):=oM;have h2b:(tk==2)=true:=by simpa using h2
 have HNA:Hid (C6 w xa.p xa.h.pats):=na;have HBA:Hid (∀o,Below w.heap.size w ((((w.alloc (.cells #[v0,.slice (some ⟨lb,lo,none⟩) n1 q1,v2,v3,.slice (some ⟨rb,ro,none⟩) n1 qr,su,ou,gu,pu,ct] 110)).alloc (.cells #[.int .i64 op,.int .i64 (kd:Int),.int .i64 (ka:Int),B,C,.int .i64 nn,.int .u32 bt] 40)).alloc (.cells #[.slice none 0 0,.int .i64 0] 74)).alloc o)):=fun o=>bel hba (A0 _ _);clear hreg hca hcs hv hg hT hX h2 hxa na hLA hn1' y0 y1 z0 z1 hba;go_enter func62,ntmps62;go_wp2;refine bodyPost_ret Zgx rfl ?_;have hbF:∀a b d e,Below w.heap.size w ((((w.alloc a).alloc b).alloc d).alloc e):=fun a b d e=>bel (A0 _ _) (bel (A0 _ _) (bel (A0 _ _) (A0 _ _)));exact⟨rfl,HNA.below (hbF _ _ _ _),hbF _ _ _ _⟩

structure Er(l:List Ad)(s:Gh)(q:Sr):Prop where
 nd:s.nd=q.nd
 todo:s.todo=q.todo
 sl:∀r,s.sl r=if q.sr r=true then [] else I1 l r
 tl:∀r,s.tl r=if q.ss r=true then [] else IG l r
 ar:∀p,p<l.length->s.ar p=IQ l p
 en:∀b e,CE l b e->s.en b=(enP l b:Int)
section
variable {l : List Ad} {s : Gh} {q : Sr}
theorem Er.need1(h:Er l s q)(p:Nat):Er l (Ci s p) (need1 q p):=by
 unfold Ci Go.Proofs.YtnbccaicijcklaaGreat.need1;rw[h.nd];split
 .exact h
 .exact⟨by simp only,by simp only[h.todo],h.sl,h.tl,h.ar,h.en⟩
theorem Er.needL:∀ (ps:List Nat) {s:Gh} {q:Sr},Er l s q->Er l (Bn s ps) (needL q ps)
 |[],_,_,h=>h
 |p::ps,_,_,h=>Er.needL ps (h.need1 p)
theorem Of(s:Gh)(p:Nat):(Ci s p).sl=s.sl/\(Ci s p).tl=s.tl/\(Ci s p).ar=s.ar/\(Ci s p).en=s.en:=by unfold Ci;split<;>exact⟨rfl,rfl,rfl,rfl⟩
theorem G6:∀ (ps:List Nat) (s:Gh),(Bn s ps).sl=s.sl/\(Bn s ps).tl=s.tl/\(Bn s ps).ar=s.ar/\(Bn s ps).en=s.en
 |[],s=>⟨rfl,rfl,rfl,rfl⟩
 |p::ps,s=>by
  obtain⟨h1,h2,h3,h4⟩:=G6 ps (Ci s p);obtain⟨g1,g2,g3,g4⟩:=Of s p;exact⟨h1.trans g1,h2.trans g2,h3.trans g3,h4.trans g4⟩
def ZK(s:Gh)(r:Nat):Gh:={Bn s (s.sl r)with sl:=fun k=>if k=r then [] else(Bn s (s.sl r)).sl k}
def Wf(s:Gh)(r:Nat):Gh:={Bn s (s.tl r)with tl:=fun k=>if k=r then [] else(Bn s (s.tl r)).tl k}
theorem Er.goR(h:Er l s q)(r:Nat):Er l (ZK s r) (goR l q r):=by
 have h1:=h.needL (s.sl r);obtain⟨g1,g2⟩:=D2 (s.sl r) q;obtain⟨e1,e2,e3,e4⟩:=G6 (s.sl r) s;unfold ZK Go.Proofs.YtnbccaicijcklaaGreat.goR;rw[<-h.sl r];refine⟨h1.nd,h1.todo,fun k=>?_,h1.tl,h1.ar,h1.en⟩;show(if k=r then [] else(Bn s (s.sl r)).sl k)=if(if k=r then true else q.sr k)=true then [] else I1 l k;by_cases e:k=r
 .simp[e]
 .rw[if_neg e,if_neg e,e1];exact h.sl k
theorem Er.goS(h:Er l s q)(r:Nat):Er l (Wf s r) (goS l q r):=by
 have h1:=h.needL (s.tl r);obtain⟨g1,g2⟩:=D2 (s.tl r) q;obtain⟨e1,e2,e3,e4⟩:=G6 (s.tl r) s;unfold Wf Go.Proofs.YtnbccaicijcklaaGreat.goS;rw[<-h.tl r];refine⟨h1.nd,h1.todo,h1.sl,fun k=>?_,h1.ar,h1.en⟩;show(if k=r then [] else(Bn s (s.tl r)).tl k)=if(if k=r then true else q.ss k)=true then [] else IG l k;by_cases e:k=r
 .simp[e]
 .rw[if_neg e,if_neg e,e2];exact h.tl k
end
section
variable {E R S L : Nat} {s : Gh} {w : World} {B C GB TB AB NB DB : Nat} {vg vt : Nat -> Value} {vd : Value} {tag tag' : Nat -> Nat}
theorem BO.retag(h:BO E R S L s w B C GB TB AB NB DB vg vt vd tag)(k:∀b,b<w.heap.size->tag' b=tag b):BO E R S L s w B C GB TB AB NB DB vg vt vd tag':=
 {h with
  tB:=(k _ h.b.lt).trans h.tB
  tG:=(k _ h.g.lt).trans h.tG
  tT:=(k _ h.t.lt).trans h.tT
  tA:=(k _ h.a.lt).trans h.tA
  tN:=(k _ h.n.lt).trans h.tN
  tD:=(k _ h.d.lt).trans h.tD
  tgs:=fun r hr q hq=>(k q ((h.gs r hr).lt q hq).2).trans (h.tgs r hr q hq)
  tts:=fun r hr q hq=>(k q ((h.ts r hr).lt q hq).2).trans (h.tts r hr q hq)
  ttd:=fun q hq=>(k q (h.td.lt q hq).2).trans (h.ttd q hq)}
end
theorem PV(m:Nat)(h:m<=17592186044416)(w:World):(Instr.makeSlice 72 (.int .i64 m) (.int .i64 m)).run prog w=.ok (.slice (some ⟨w.heap.size,0,none⟩) m m) (w.alloc (.cells (madeCells #[.int .i64 0] m) 3)):=
 run_make_row' (P:=prog) 72 3 (.int .i64 0) 8 underlying72 D8 rfl .i64 .i64 m oM oM w
theorem kn_a{c:Cd}{f:Fr}{X:List Cl}{i:Ad}(kn:∀r∈Ae i (A4 i.op),QM c f X r.toNat)(h:(A4 i.op).a≠0){x:Cl}(hx:X[i.a.toNat]? =some x)(h0:0<=i.a):x.h=C5 c f i.a:=by
 obtain⟨y,hy,e⟩:=kn i.a (LH h);rw[hx]at hy;cases hy
 rw[e,show((i.a.toNat:Nat):Int)=i.a by omega]
theorem TF{c:Cd}{f:Fr}{r:Int}(h:(Aa c.regs r).kind≠2):(C5 c f r).whole=0:=by
 unfold C5;split
 .rfl
 .rfl
theorem MU{c:Cd}(hg:Good c){r:Int}(h0:0<=r)(h1:r<(c.regs.length:Int))(h3:(Aa c.regs r).kind=3):∃p:Nat,(Aa c.regs r).par=(p:Int)/\p<c.sign.length:=by
 obtain⟨j,rfl⟩:∃j:Nat,r=(j:Int):=⟨r.toNat,oM⟩
 have hr:j<c.regs.length:=oM;rw[Ea hr]at h3 |-;exact Dq (hg.type (gD hr) h3)
theorem YI{c:Cd}{G P:List (List Int)}{f:Fr}{i:Ad}{s:Wk}{X S O X' S' O':List Cl}(hg:Good c)(ok:KK c f)(t:AG c s i=true)(hb:AH i.bits)(fg:F5 c G)(fp:F5 c P)(nd:Dx c f i)(rel:P9 c f X S O)(kn:∀r∈Ae i (A4 i.op),QM c f X r.toNat)(did:Did c G P f i X S O X' S' O'):
 P9 c (D0 c G P f i) X' S' O'/\∀r,(((A4 i.op).d≠0->r≠i.d.toNat)->QM c f X r)->r<c.regs.length->QM c (D0 c G P f i) X' r:=by
 obtain⟨hk,h2,_,_⟩:=Ao t;have hok:KK c (D0 c G P f i):=do_ok hg ok hk hb nd fg fp;rcases did with⟨hd,⟨x,rfl,hx⟩,rfl,rfl⟩|⟨h33,rfl,⟨x,hxa,rfl⟩,rfl⟩|⟨h31,rfl,rfl,x,hxa,rfl⟩|⟨hm,rfl,rfl,rfl⟩
 .have hop:=(Qq hk).1 hd;obtain⟨d0,d1⟩:=Ag (Cw h2) hd;have hso:DT c (D0 c G P f i) i.d.toNat:=V4 hg ok hk nd fun h=>by
   rcases h with h|h
   .exact absurd h hd
   .exact absurd rfl h
  have hh:=Ws hg hok d0 d1 hso;have hsl:(D0 c G P f i).slots=f.slots:=(Fx hk).1 hop.2.1;have hou:(D0 c G P f i).outs=f.outs:=(Fx hk).2 hop.1;refine⟨⟨by rw[List.length_set];exact rel.xl,fun y hy=>?_,by rw[hsl];exact rel.sl,by rw[hsl];exact rel.sz,rel.ol,by rw[hou];exact rel.oo⟩,fun r hr hrl=>?_⟩
  .rcases List.mem_or_eq_of_mem_set hy with e|rfl
   .exact rel.xok y e
   .rw[hx];refine⟨hh.2.1,?_,hh.2.2⟩;show(C5 c (D0 c G P f i) i.d).pats.length<=4096;rw[hh.1];exact hg.width _
  .by_cases e:r=i.d.toNat
   .subst e;have hl:i.d.toNat<X.length:=by rw[rel.xl];omega
    refine⟨x,by rw[List.getElem?_set_self hl],?_⟩;rw[hx,show((i.d.toNat:Nat):Int)=i.d by omega];rfl
   .obtain⟨y,hy,hye⟩:=hr fun _=>e;exact⟨y,by rw[List.getElem?_set_ne (fun q=>e q.symm)];exact hy,by rw[hye,MZ hk r fun _=>e]⟩
 .have hd:¬ (A4 i.op).d≠0:=by rw[h33];decide
  obtain⟨a0,a1,n0,n1,ht,hs⟩:=nd.store h33;have hxh:x.h=C5 c f i.a:=kn_a kn (by rw[h33];decide) hxa a0;have hou:(D0 c G P f i).outs=f.outs:=(Fx hk).2 oM;have hsl:(D0 c G P f i).slots=f.slots.set i.n.toNat (C5 c f i.a):=by rw[CK h33]
  refine⟨⟨rel.xl,rel.xok,by rw[hsl,List.map_set,rel.sl,hxh],fun j hj hkd=>?_,rel.ol,by rw[hou];exact rel.oo⟩,fun r hr _=>?_⟩
  .rw[hsl];by_cases e:j=i.n.toNat
   .subst e;have hl:i.n.toNat<f.slots.length:=by rw[ok.slotsL];exact hj
    rw[List.getElem?_set_self hl,Option.getD_some];refine TF ?_;rw[<-ht];unfold Cv;rw[gB hj];exact hkd
   .rw[List.getElem?_set_ne (fun q=>e q.symm)];exact rel.sz j hj hkd
  .obtain⟨y,hy,hye⟩:=hr fun q=>absurd q hd;exact⟨y,hy,by rw[hye,MZ hk r fun q=>absurd q hd]⟩
 .have hd:¬ (A4 i.op).d≠0:=by rw[h31];decide
  obtain⟨hp,hlen⟩:=nd.out h31;have hxh:x.h=C5 c f i.a:=kn_a kn (by rw[h31];decide) hxa hp.r0;have hxv:x.h=⟨f.vecs i.a.toNat,0⟩:=by
   rw[hxh];unfold C5;rw[if_neg (by rw[hp.kind];decide),if_neg (by rw[hp.kind];decide)]
  have hsl:(D0 c G P f i).slots=f.slots:=(Fx hk).1 oM;obtain⟨p,hpp,hpl⟩:=MU hg hp.r0 hp.r1 hp.kind;have hn0:=hp.n0;have hou:(D0 c G P f i).outs=W7 f.outs p (AI c (p:Int)) i.n.toNat (f.vecs i.a.toNat):=by rw[D6 h31,hpp,Int.toNat_natCast]
  rw[hpp]at hlen hn0;rw[hpp,Int.toNat_natCast];have hnk:i.n.toNat<AI c (p:Int):=by
   unfold AI;rcases hn0 with e|⟨e,e2⟩
   .rw[e];split<;>decide
   .rw[e,if_pos e2];decide
  have hap:AI c (p:Int)<=2:=by unfold AI;split<;>decide
  refine⟨⟨rel.xl,rel.xok,by rw[hsl];exact rel.sl,by rw[hsl];exact rel.sz,by rw[List.length_set];exact rel.ol,fun q n hq hn=>?_⟩,fun r hr _=>?_⟩
  .obtain⟨o,h1,h3,h4,h5⟩:=rel.oo q n hq hn;have hq2:AI c (q:Int)<=2:=by unfold AI;split<;>decide
   rw[hou];by_cases e:2*q+n=2*p+i.n.toNat
   .have eq:q=p:=oM;have en:n=i.n.toNat:=oM;subst eq;have hol:2*q+i.n.toNat<O.length:=by rw[rel.ol];omega
    refine⟨x,by rw[e,List.getElem?_set_self hol],by rw[hxv];exact hlen,by rw[hxv];exact ok.vecs _,fun j hj=>?_⟩;rw[hxv];unfold W7;have hK:0<AI c (q:Int):=oM;have e1:(AI c (q:Int)*j+n)%AI c (q:Int)=n:=by rw[Nat.mul_add_mod,Nat.mod_eq_of_lt hn]
    have e2:(AI c (q:Int)*j+n)/AI c (q:Int)=j:=by rw[Nat.mul_add_div hK,Nat.div_eq_of_lt hn,Nat.add_zero]
    rw[if_pos ⟨rfl,by rw[e1,en],by rw[e2,hlen];exact hj⟩,e2]
   .refine⟨o,by rw[List.getElem?_set_ne (fun q=>e q.symm)];exact h1,h3,h4,fun j hj=>?_⟩;rw[h5 j hj];unfold W7;rw[if_neg];rintro⟨e1,e2,-⟩;subst e1;have e3:(AI c (q:Int)*j+n)%AI c (q:Int)=n:=by rw[Nat.mul_add_mod,Nat.mod_eq_of_lt hn]
    rw[e3]at e2;exact e (by rw[e2])
  .obtain⟨y,hy,hye⟩:=hr fun q=>absurd q hd;exact⟨y,hy,by rw[hye,MZ hk r fun q=>absurd q hd]⟩
 .rw[AM hm];exact⟨rel,fun r hr _=>hr fun q=>absurd hm ((Qq hk).1 q).2.2⟩
def UL(Q:Nat->Prop)(s:Wk)(k:Nat):Prop:=
 (k=0/\∀r∈s.set,Q r)\/(∃pre b rest,s.opens=pre++b::rest/\b.loop=false/\k=(pre.filter fun x=> !x.loop).length+1/\∀r∈s.set.take b.ahead,Q r)
theorem Md{c:Cd}{G P:List (List Int)}{s:Wk}{f:Fr}{k:Nat}{i:Ad}{Q Q':Nat->Prop}(oks:E5 c.regs.length s)(t:AG c s i=true)(sk:UL Q s k)(hdo:k=0->i.op≠34->∀r∈(Aj s i).set,Q' r)(hno:k≠0\/i.op=34->∀r,Q r->Q' r):UL Q' (Aj s i) (AK c G P (f,k) i).2:=by
 obtain⟨hkn,_,hst,_⟩:=Ao t;rcases sk with⟨rfl,hs⟩|⟨pre,b,rest,ho,hbl,rfl,hs⟩
 .by_cases h34:i.op=34
  .rw[Nc h34];by_cases hz:f.whs i.a.toNat=0
   .rw[MO c G P f 0 h34 (.inr hz)];exact .inr ⟨[],⟨false,i.n,s.set.length⟩,s.opens,rfl,rfl,rfl,fun r hr=>hno (.inr h34) r (hs r (List.mem_of_mem_take hr))⟩
   .rw[MP c G P f (fun e=>hz e.2)];exact .inl ⟨rfl,fun r hr=>hno (.inr h34) r (hs r hr)⟩
  .rw[MP c G P f (fun e=>h34 e.1)];exact .inl ⟨rfl,hdo rfl h34⟩
 .obtain⟨hah,hpre⟩:=Q7 (by have:=oks.opens;rw[ho]at this;exact this);have hs':∀r∈s.set.take b.ahead,Q' r:=fun r hr=>hno (.inl oM) r (hs r hr);obtain⟨K,hK⟩:=gA ((pre.filter fun x=> !x.loop).length)
  rw[hK];by_cases h34:i.op=34
  .rw[MO c G P f (K+1) h34 (.inl oM),Nc h34];refine .inr ⟨⟨false,i.n,s.set.length⟩::pre,b,rest,by rw[ho];rfl,hbl,?_,hs'⟩;rw[List.filter_cons_of_pos rfl,List.length_cons,hK]
  .by_cases h35:i.op=35
   .rw[VK c G P f K h35,ID (.inl h35)];have hnl:AD s=false:=by
     exact Zfq
    unfold AD at hnl;unfold AQ;rw[ho]at hnl |-;cases pre with
    |nil=>
     simp only[List.nil_append]at hnl |-;simp at hK;refine .inl ⟨hK.symm,fun r hr=>hs' r ?_⟩;rw[hbl]at hr;simpa using hr
    |cons p pre=>
     simp only[List.cons_append]at hnl |-;have hp:=hpre p sM;refine .inr ⟨pre,b,rest,rfl,hbl,?_,fun r hr=>hs' r ?_⟩
     .rw[List.filter_cons_of_pos (by rw[hnl];rfl),List.length_cons]at hK;omega
     .rw[hnl]at hr;simp only[Bool.false_eq_true,if_false,List.take_take]at hr;rw[Nat.min_eq_left hp]at hr;exact hr
   .rw[VM c G P f K h34 h35];by_cases h36:i.op=36
    .rw[Nh h36];refine .inr ⟨⟨true,i.n,s.set.length⟩::pre,b,rest,by rw[ho];rfl,hbl,?_,hs'⟩;rw[List.filter_cons_of_neg sM,hK]
    .by_cases h37:i.op=37
     .rw[ID (.inr h37)];have hnl:AD s=true:=by
       unfold Az at hst;rw[if_neg oM,if_neg oM,if_pos h37]at hst;exact hst
      unfold AD at hnl;unfold AQ;rw[ho]at hnl |-;cases pre with
      |nil=>
       simp only[List.nil_append]at hnl;rw[hbl]at hnl;cases hnl
      |cons p pre=>
       simp only[List.cons_append]at hnl |-;refine .inr ⟨pre,b,rest,rfl,hbl,?_,fun r hr=>hs' r ?_⟩
       .rw[List.filter_cons_of_neg (by rw[hnl];decide)]at hK;omega
       .rw[hnl]at hr;simpa using hr
     .rw[Fy h34 h35 h36 h37];obtain⟨h1,h2⟩:=Nm (i:=i) (r:=A4 i.op) hah;exact .inr ⟨pre,b,rest,by rw[h2];exact ho,hbl,by rw[hK],fun r hr=>hs' r (by rw[h1]at hr;exact hr)⟩
structure KV(c:Cd)(G P:List (List Int))(f0:Fr)(j k:Nat)(f:Fr)(s:Wk)(X S O:List Cl):Prop where
 go:UG c G P (f0,0) (c.list.take j)=(f,k)
 ok:KK c f
 oks:E5 c.regs.length s
 sk:Pa c s f k
 tk:AR c s (c.list.drop j)=true
 rel:P9 c f X S O
 kn:UL (QM c f X) s k
theorem KV.taken{c:Cd}{G P:List (List Int)}{f0:Fr}{j k:Nat}{f:Fr}{s:Wk}{X S O:List Cl}(g:KV c G P f0 j k f s X S O)(hj:j<c.list.length):AG c s c.list[j]=true/\AR c (Aj s c.list[j]) (c.list.drop (j+1))=true:=by
 have:=g.tk;rw[List.drop_eq_getElem_cons hj]at this;unfold AR at this;simpa using this
theorem KV.pass{c:Cd}{G P:List (List Int)}{f0:Fr}{j k:Nat}{f:Fr}{s:Wk}{X S O:List Cl}(g:KV c G P f0 j k f s X S O)(hg:Good c)(hbits:∀i∈c.list,AH i.bits)(fg:F5 c G)(fp:F5 c P)(hj:j<c.list.length){k':Nat}(hn:AK c G P (f,k) c.list[j]=(f,k'))(hno:k≠0\/c.list[j].op=34):∃s',KV c G P f0 (j+1) k' f s' X S O:=by
 obtain⟨t1,t2⟩:=g.taken hj;obtain⟨o1,o2⟩:=Rr hg g.oks t1 g.ok (hbits _ (gD hj)) fg fp g.sk;have o3:=Md (G:=G) (P:=P) (f:=f) (Q':=QM c f X) g.oks t1 g.kn (fun e1 e2=>by rcases hno with h|h;exact absurd e1 h;exact absurd h e2) (fun _ _ h=>h);rw[hn]at o1 o2 o3;exact⟨Aj s c.list[j],by rw[NP c G P _ _ hj,g.go];exact hn,o1,g.oks.step t1,o2,t2,g.rel,o3⟩
theorem KV.need{c:Cd}{G P:List (List Int)}{f0:Fr}{j:Nat}{f:Fr}{s:Wk}{X S O:List Cl}(g:KV c G P f0 j 0 f s X S O)(hj:j<c.list.length):Dx c f c.list[j]/\(∀r∈Ae c.list[j] (A4 c.list[j].op),QM c f X r.toNat):=by
 obtain⟨t1,t2⟩:=g.taken hj;have h1:∀r∈s.set,DT c f r:=by
  rcases g.sk with⟨_,h⟩|⟨pre,b,rest,_,_,h,_⟩
  .exact h
  .omega
 have h2:∀r∈s.set,QM c f X r:=by
  rcases g.kn with⟨_,h⟩|⟨pre,b,rest,_,_,h,_⟩
  .exact h
  .omega
 exact⟨Rq t1 h1,fun r hr=>h2 _ (Ok (Ao t1).2.2.2 hr)⟩
theorem KV.did{c:Cd}{G P:List (List Int)}{f0:Fr}{j:Nat}{f:Fr}{s:Wk}{X S O X' S' O':List Cl}(g:KV c G P f0 j 0 f s X S O)(hg:Good c)(hbits:∀i∈c.list,AH i.bits)(fg:F5 c G)(fp:F5 c P)(hj:j<c.list.length)(hn:¬ (c.list[j].op=34/\f.whs c.list[j].a.toNat=0))(did:Did c G P f c.list[j] X S O X' S' O'):∃f' s',KV c G P f0 (j+1) 0 f' s' X' S' O':=by
 obtain⟨t1,t2⟩:=g.taken hj;have hbi:=hbits _ (gD hj);obtain⟨o1,o2⟩:=Rr hg g.oks t1 g.ok hbi fg fp g.sk;obtain⟨nd,hr⟩:=g.need hj;obtain⟨r1,r2⟩:=YI hg g.ok t1 hbi fg fp nd g.rel hr did;have hk:∀r∈s.set,QM c f X r:=by
  rcases g.kn with⟨_,h⟩|⟨pre,b,rest,_,_,h,_⟩
  .exact h
  .omega
 have hoks:=g.oks.step t1;have o3:=Md (G:=G) (P:=P) (f:=f) (Q':=QM c (D0 c G P f c.list[j]) X') g.oks t1 g.kn (fun _ h34 r hr=>?_) (fun h r hr=>?_)
 .rw[MP c G P f hn]at o1 o2 o3;exact⟨D0 c G P f c.list[j],Aj s c.list[j],by rw[NP c G P _ _ hj,g.go];exact MP c G P f hn,o1,hoks,o2,t2,r1,o3⟩
 .refine r2 r (fun hne=>hk r ?_) (hoks.lt r hr);by_cases h35:c.list[j].op=35\/c.list[j].op=37
  .rw[ID h35]at hr;exact LG hr
  .by_cases h36:c.list[j].op=36
   .rw[Nh h36]at hr;exact hr
   .rw[Fy h34 oM h36 oM]at hr;rcases Rm hr with h|⟨h,h'⟩
    .exact h
    .exact absurd h' (hne h)
 .rcases h with h|h
  .exact absurd rfl h
  .obtain⟨y,hy,_⟩:=id hr;exact r2 r (fun _=>hr) (by have:=(List.getElem?_eq_some_iff.1 hy).1;rw[g.rel.xl]at this;exact this)
def KU(v:World)(sv:Value)(p:Option Addr)(l:List Int):Prop:=l=[]\/∃b o,p=some ⟨b,o,none⟩/\sv.ownBlock≠some b/\∀j,j<l.length->v.cell? ⟨b,o+j,none⟩=some (.int .u32 (CG l j))
theorem KU.below{v v':World}{sv:Value}{p:Option Addr}{l:List Int}(h:KU v sv p l)(k:Below v.heap.size v v'):KU v' sv p l:=by
 rcases h with rfl|⟨b,o,e,hn,h⟩
 .exact .inl rfl
 .exact .inr ⟨b,o,e,hn,fun j hj=>kc k (h j hj)⟩
theorem KU.grow{V w':World}{p:Option Addr}{n q g c' m:Nat}{pp:Option Addr}{l:List Int}(h:KU V (.slice p n q) pp l)(hk:∀b,b<V.heap.size->(Value.slice p n q).ownBlock≠some b->w'.heap[b]? =V.heap[b]?)(hg:(Value.slice p n q).ownBlock=some g\/V.heap.size<g):KU w' (.slice (some ⟨g,0,none⟩) m c') pp l:=by
 exact Zcp
structure Cu where
 p:Option Addr
 q:Nat
 l:List Int
def cuC(x:Cu):List Value:=[.slice x.p x.l.length x.q]
theorem YE(x:Cu):(cuC x).length=1:=rfl
theorem YF:∀x:Cu,∀u∈cuC x,u.oneCell'=true:=fun x u hu=>by simp[cuC]at hu;subst hu;rfl
theorem Z1:(prog.info? 78).map (fun i=>(i.zero,i.size,i.bytes))=some (some (.slice none 0 0),1,24):=kR
structure OW(B:Nat)(v:World)(sv:Value)(X:List Cu):Prop where
 own:v.ownsRow B 78 1 sv X.length (Au cuC X)
 pats:∀x∈X,KU v sv x.p x.l
 loc:∀x∈X,∀b o s,x.p=some ⟨b,o,s⟩->B<=b
theorem OW.below{B:Nat}{v v':World}{sv:Value}{X:List Cu}(h:OW B v sv X)(k:Below v.heap.size v v'):OW B v' sv X:=⟨Ak h.own k,fun x hx=>(h.pats x hx).below k,h.loc⟩
theorem OW.nil(B:Nat)(v:World):OW B v (.slice none 0 0) []:=⟨World.ownsRow_nil _ _ _ 1,fun x hx=>(by cases hx),fun x hx=>(by cases hx)⟩
theorem OW.push{B:Nat}{V:World}{p:Option Addr}{q:Nat}{X:List Cu}(h:OW B V (.slice p X.length q) X)(hB:B<=V.heap.size)(hX:X.length<=16384)(x:Cu)(hx:KU V (.slice p X.length q) x.p x.l)(hlo:∀b o s,x.p=some ⟨b,o,s⟩->B<=b)(ty:TypeId):
 ∃g c' w',(Builtin.append_ #[46,46] ty #[.slice p X.length q,.slice (some ⟨V.heap.size,0,none⟩) 1 1]).run prog (V.alloc (.cells #[.slice x.p x.l.length x.q] 78))=.ok (.slice (some ⟨g,0,none⟩) (X.length+1) c') w'/\Below B V w'/\OW B w' (.slice (some ⟨g,0,none⟩) (X.length+1) c') (X++[x]):=by
 obtain⟨g,c',w',hr,hb,ho,hk,hg⟩:=G4 (V:=V) underlying46 Z1 rfl dE h.own hB #[.slice x.p x.l.length x.q] rfl (fun u hu=>YF x u hu) mL oM ty;refine⟨g,c',w',hr,hb,⟨?_,fun y hy=>?_,fun y hy=>?_⟩⟩
 .rw[List.length_append,FS];exact ho
 .rcases List.mem_append.1 hy with e|e
  .exact(h.pats y e).grow hk hg
  .simp only[List.mem_singleton]at e;subst e;exact hx.grow hk hg
 .rcases List.mem_append.1 hy with e|e
  .exact h.loc y e
  .simp only[List.mem_singleton]at e;subst e;exact hlo
theorem OW.vs{B:Nat}{v:World}{sv:Value}{X:List Cu}(h:OW B v sv X):F7 (fun b=>b<B) v sv (X.map (·.l)):=by
 obtain⟨p,q,rfl,hr⟩:=Du YE h.own;have hlo:=EE h.own;refine⟨p,q,by rw[List.length_map],?_⟩;by_cases h0:X=[]
 .exact .inl (by rw[h0];rfl)
 .rcases hr with e|⟨b,o,e,hc⟩
  .exact absurd e h0
  .have hl:=List.length_pos_iff.2 h0;have hb:b<v.heap.size:=by
    have:=(hc 0 hl).at 0 (v:=.slice (X[0]).p (X[0]).l.length (X[0]).q) rfl;exact A8 this
   refine .inr ⟨b,o,e,fun k=>by have:=hlo b o none e;omega,hb,fun i hi=>?_⟩;rw[List.length_map]at hi;have hci:=(hc i hi).at 0 (v:=.slice (X[i]).p (X[i]).l.length (X[i]).q) rfl;rw[Nat.mul_one,Nat.add_zero]at hci;refine⟨_,hci,(X[i]).p,(X[i]).q,sM,?_⟩;rw[List.getElem_map];rcases h.pats _ (gD hi)with e2|⟨b2,o2,e2,-,h2⟩
   .exact .inl e2
   .by_cases h3:(X[i]).l=[]
    .exact .inl h3
    .refine .inr ⟨b2,o2,e2,fun k=>by have:=h.loc _ (gD hi) b2 o2 none e2;omega,A8 (h2 0 (List.length_pos_iff.2 h3)),fun k hk j hj=>?_⟩;have hj0:j=0:=by have:j<1:=hj;omega
     subst hj0;rw[Nat.mul_one,Nat.add_zero,h2 k hk];simp[ptC,CG,gB hk]
def OT(c:Cd)(f:Fr)(p:Nat):List Int:=(List.range (Ru c p)).map (f.outs p)
theorem updP_eq(c:Cd)(f:Fr):Gg c f=(List.range c.sign.length).map (OT c f):=rfl
theorem Ek{α:Type}(g:Nat->α)(n:Nat):(List.range (n+1)).map g=(List.range n).map g++[g n]:=by simp[List.range_succ]
end Go.Proofs.YtnbccaicijcklaaGreat
