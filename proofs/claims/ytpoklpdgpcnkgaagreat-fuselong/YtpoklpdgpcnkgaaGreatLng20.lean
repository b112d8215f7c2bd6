import Derived.Test.YtpoklpdgpcnkgaaGreatLng1
import Derived.Test.YtpoklpdgpcnkgaaGreatLng18
import Derived.Test.YtpoklpdgpcnkgaaGreatLng14
import Derived.Test.YtpoklpdgpcnkgaaGreatLng17
namespace Go.Proofs.YtpoklpdgpcnkgaaGreat
open Go.RowKit Go.Proofs.Tryz
set_option linter.all false
set_option maxRecDepth 100000
set_option maxHeartbeats 16000000
def f5(a b c d e:Value)(j:Nat):Value:=if j=0 then a else if j=1 then b else if j=2 then c else if j=3 then d else e
theorem Fp(a b c d e:Value):∀i,i<(#[a,b,c,d,e]:Array Value).size->(#[a,b,c,d,e]:Array Value)[i]? =some (f5 a b c d e i):=by
 intro i hi;have hi':i<5:=hi;obtain rfl|rfl|rfl|rfl|rfl:i=0\/i=1\/i=2\/i=3\/i=4:=oM
 all_goals rfl
structure NW(w:World)(v0 v1 v2 v3:Value)(R:Nat)(sv:Value)(X:List Cl)(v:World):Prop where
 cx:CX w v0 v1 v2 v3 v
 rb:v.rowIs (w.heap.size+1) 77 5 (f5 (.slice none 0 0) (.slice none 0 0) (.slice none 0 0) (.slice none 0 0) (.slice none 0 0))
 rr:v.rowIs R 77 5 (f5 v0 v1 v2 v3 sv)
 cs:JX (R+1) v sv X
 hR:w.heap.size+1<R
 ap:∀x∈X,∀b o s,x.p=some ⟨b,o,s⟩->R<b
theorem NW.next{w:World}{v0 v1 v2 v3:Value}{R:Nat}{sv:Value}{X:List Cl}{v v':World}(h:NW w v0 v1 v2 v3 R sv X v)(k:Below v.heap.size v v'):NW w v0 v1 v2 v3 R sv X v':=
 ⟨h.cx.next k,h.rb.of_block (k.block _ h.rb.lt),h.rr.of_block (k.block _ h.rr.lt),h.cs.below k,h.hR,h.ap⟩
theorem NW.put{w:World}{v0 v1 v2 v3:Value}{R:Nat}{sv:Value}{X:List Cl}{v w':World}{g n c':Nat}{Y:List Cl}(h:NW w v0 v1 v2 v3 R sv X v)(hb:Below (R+1) v w')(hc:JX (R+1) w' (.slice (some ⟨g,0,none⟩) n c') Y)(hap:∀x∈Y,∀b o s,x.p=some ⟨b,o,s⟩->R<b):
 w'.cell? ⟨R,4,none⟩=some sv/\w'.frozen? ⟨R,4,none⟩=false/\NW w v0 v1 v2 v3 R (.slice (some ⟨g,0,none⟩) n c') Y (w'.setCell ⟨R,4,none⟩ (.slice (some ⟨g,0,none⟩) n c')):=by
 have hR:=h.hR;have hr':w'.rowIs R 77 5 (f5 v0 v1 v2 v3 sv):=h.rr.of_block (hb.block R (Nat.lt_succ_self _));have ho:∀b,b≠R->(w'.setCell ⟨R,4,none⟩ (.slice (some ⟨g,0,none⟩) n c')).heap[b]? =w'.heap[b]? :=fun b hne=>gE hne;have hgR:g≠R:=fun e=>by have:=(hc.own.lt g rfl).1;omega
 refine⟨hr'.cell (i:=4) dE,hr'.frozen 4,(h.cx.on (hb.mono oM)).on ((Below.refl _ _).setCell (by show w.heap.size+1<=R;omega) _),(h.rb.of_block (hb.block _ oM)).setOther (by show w.heap.size+1≠R;omega) _,(hr'.set 4 _).congr (fun j hj=>?_),⟨Ag hc.own (fun b hbb=>ho b Zhm),fun x hx=>?_⟩,h.hR,hap⟩
 .have hj':j<5:=hj;obtain rfl|rfl|rfl|rfl|rfl:j=0\/j=1\/j=2\/j=3\/j=4:=oM
  all_goals simp[f5]
 .rcases hc.nums x hx with e|⟨b,o,e,hn,h1⟩
  .exact .inl e
  .refine .inr ⟨b,o,e,hn,fun j hj=>?_⟩;have hne:b≠R:=by have:=hap x hx b o none e;omega
   rw[gC (ho b hne)];exact h1 j hj
theorem JX.off{B:Nat}{v v':World}{sv:Value}{X:List Cl}{Z R:Nat}(h:JX B v sv X)(hZ:Z<R)(hB:R<B)(ap:∀x∈X,∀b o s,x.p=some ⟨b,o,s⟩->R<b)(k:∀b,b≠Z->v'.heap[b]? =v.heap[b]?):JX B v' sv X:=by
 refine⟨Ag h.own (fun b hb=>k b (by have:=(h.own.lt b hb).1;omega)),fun x hx=>?_⟩;rcases h.nums x hx with e|⟨b,o,e,hn,h1⟩
 .exact .inl e
 .have:=ap x hx b o none e;exact .inr ⟨b,o,e,hn,fun j hj=>by rw[gC (k b oM)];exact h1 j hj⟩
theorem Js(v0 v1 v2 v3:Value)(c:Cd)(hk:Bb c)(w:World)(hv:Dk w v0 v1 v2 v3 c)(hc:(At c).1=0):
 Calls prog 33 #[.agg #[v0,v1,v2,v3]] w fun e w'=>∃p q X,e=.returned (.tuple #[.agg #[v0,v1,v2,v3,.slice p c.slots.length q],.int .i64 0])/\X.map (·.h)=Co c/\UT w' (.slice p c.slots.length q) X/\Below w.heap.size w w'/\(∀b o s,p=some ⟨b,o,s⟩->w.heap.size<=b)/\∀x∈X,∀b o s,x.p=some ⟨b,o,s⟩->w.heap.size<=b:=by
 have hg:=(F3 hc).1;have KC:=Io v0 v1 v2 v3 c hk;rw[hc]at KC;obtain⟨F,hF⟩:∃E,(At c).2=E:=⟨_,rfl⟩
 rw[hF]at KC;have HKC:Hid (∀v,Below w.heap.size w v->Calls prog 31 #[.agg #[v0,v1,v2,v3]] v fun e w'=>e=.returned (.tuple #[.int .i64 0,.int .i64 F])/\Below v.heap.size v w'):=fun v hb=>KC v (hv.below hb);have HKF:Hid (∀s∈c.slots,∀v,Below w.heap.size w v->Calls prog 50 #[.agg #[v0,v1,v2,v3],.agg #[.int .i64 s.ty.kind,.int .i64 s.ty.par,.bool s.keep,.int .u32 s.bits,.int .i64 s.int_]] v fun e w'=>∃p q,e=.returned (.agg #[.slice p (BC c s).pats.length q,.int .i64 (BC c s).whole])/\Cs w' p (BC c s).pats/\Below v.heap.size v w'/\∀b o s,p=some ⟨b,o,s⟩->v.heap.size<=b):=fun s hs v hb=>L7 v0 v1 v2 v3 c hg s (hg.slots s hs) ⟨(hk.sbits s hs).1,(hk.sbits s hs).2⟩ v (hv.below hb);obtain⟨p0,q0,rfl,-⟩:=id hv.sign;obtain⟨p1,q1,rfl,-⟩:=id hv.regs;obtain⟨p2,q2,rfl,-⟩:=id hv.slots;obtain⟨p3,q3,rfl,-⟩:=id hv.list;have HSL:Hid (AZ 5 O0 w (.slice p2 c.slots.length q2) c.slots):=hv.slots;have hn2:=hg.slotsL;obtain⟨n2,hnn⟩:∃n,c.slots.length=n:=⟨_,rfl⟩
 have HN2:Hid (c.slots.length=n2):=hnn;rw[hnn]at hn2 HKC HKF HSL |-;obtain⟨n0,hn0⟩:∃n,c.sign.length=n:=⟨_,rfl⟩
 obtain⟨n1,hn1⟩:∃n,c.regs.length=n:=⟨_,rfl⟩
 obtain⟨n3,hn3⟩:∃n,c.list.length=n:=⟨_,rfl⟩
 rw[hn0,hn1,hn3]at HKC HKF |-;have HX0:Hid (CX w (.slice p0 n0 q0) (.slice p1 n1 q1) (.slice p2 n2 q2) (.slice p3 n3 q3) ((w.alloc (.cells #[.slice p0 n0 q0,.slice p1 n1 q1,.slice p2 n2 q2,.slice p3 n3 q3] 27)).alloc (.cells #[.slice none 0 0,.slice none 0 0,.slice none 0 0,.slice none 0 0,.slice none 0 0] 77))):=(CX.start w (.slice p0 n0 q0) (.slice p1 n1 q1) _ (.slice p3 n3 q3)).next (A0 _ _);have HRB0:Hid (((w.alloc (.cells #[.slice p0 n0 q0,.slice p1 n1 q1,.slice p2 n2 q2,.slice p3 n3 q3] 27)).alloc (.cells #[.slice none 0 0,.slice none 0 0,.slice none 0 0,.slice none 0 0,.slice none 0 0] 77)).rowIs (w.heap.size+1) 77 5 (f5 (.slice none 0 0) (.slice none 0 0) (.slice none 0 0) (.slice none 0 0) (.slice none 0 0))):=by
  have h9:=World.rowIs_alloc (w.alloc (.cells #[(.slice p0 n0 q0),(.slice p1 n1 q1),.slice p2 n2 q2,(.slice p3 n3 q3)] 27)) #[.slice none 0 0,.slice none 0 0,.slice none 0 0,.slice none 0 0,.slice none 0 0] 77 _ (Fp _ _ _ _ _);rw[show(w.alloc (.cells #[(.slice p0 n0 q0),(.slice p1 n1 q1),.slice p2 n2 q2,(.slice p3 n3 q3)] 27)).heap.size=w.heap.size+1 by simp]at h9;exact h9
 obtain⟨b1,b2,c0,c1,c2,c3⟩:=HX0.out;clear KC hF hc hv hk hnn hn0 hn1 hn3;go_enter func33,ntmps33;go_wp2_with(go_at_call 31;(with_reducible refine(HKC.out _ HX0.out.bel).mono ?_);rintro e w1 ⟨rfl,hb1⟩;have HNW:Hid (NW w (.slice p0 n0 q0) (.slice p1 n1 q1) (.slice p2 n2 q2) (.slice p3 n3 q3) w1.heap.size (.slice none 0 0) [] (w1.alloc (.cells #[(.slice p0 n0 q0),(.slice p1 n1 q1),.slice p2 n2 q2,(.slice p3 n3 q3),.slice none 0 0] 77))):=(by have hcx:=HX0.out.next hb1;have hrb:=HRB0.out.of_block (hb1.block _ HRB0.out.lt);exact⟨hcx.next (A0 _ _),hrb.alloc _,World.rowIs_alloc w1 _ _ _ (Fp _ _ _ _ _),JX.nil _ _,hrb.lt,fun x hx=>by cases hx⟩);obtain⟨-,-,c0,c1,c2,c3⟩:=HX0.out.next hb1;have a0:=(fun o=>kc (A0 w1 o) c0);have a1:=(fun o=>kc (A0 w1 o) c1);have a2:=(fun o=>kc (A0 w1 o) c2);have a3:=(fun o=>kc (A0 w1 o) c3);clear hb1);obtain⟨R,hR⟩:=gA (w1.heap.size)
 obtain⟨W1,hW1⟩:∃W,w1.alloc (.cells #[(.slice p0 n0 q0),(.slice p1 n1 q1),.slice p2 n2 q2,(.slice p3 n3 q3),.slice none 0 0] 77)=W:=⟨_,rfl⟩
 rw[hW1,hR]at HNW;try rw[hW1]
 try rw[hR]
 clear hW1 hR c0 c1 c2 c3 a0 a1 a2 a3 b1 b2 HRB0
 go_loopw [7] (fun iv wr=>∃ (j:Nat) (p:Option Addr) (q:Nat) (X:List Cl),j<=n2/\iv=.int .i64 (j:Int)/\Hid (NW w (.slice p0 n0 q0) (.slice p1 n1 q1) (.slice p2 n2 q2) (.slice p3 n3 q3) R (.slice p X.length q) X wr)/\Hid (X.map (·.h)=(Co c).take j)) (fun iv _=>n2-(intOf iv).toNat)
 case atStart=>exact⟨0,none,0,[],gI _,rfl,HNW.out,by show _=_;simp⟩
 case round=>
  obtain⟨j,p,q,X,hj,rfl,hnw,hmap⟩:=hrel;obtain⟨b1,b2,c0,c1,c2,c3⟩:=hnw.cx;have r4:wr.cell? ⟨R,4,none⟩=some (.slice p X.length q):=hnw.rr.cell (i:=4) dE;have hXl:X.length=j:=by
   have h5:=congrArg List.length hmap.out;rw[List.length_map,List.length_take,Co,List.length_map,HN2.out]at h5;omega
  clear HNW;by_cases hlt:j<n2
  .have hll:j<c.slots.length:=by rw[HN2.out];exact hlt
   obtain⟨lb,lo,rfl,hx⟩:=HSL.at hll;have KF1:=HKF.out c.slots[j] (gD hll);have HMN:Hid (∀h',h'=BC c c.slots[j]->(X.map (·.h))++[h']=(Co c).take (j+1)):=fun h' e=>by
    rw[hmap.out,List.take_succ_eq_append_getElem (by rw[Co,List.length_map];exact hll),MG _ hll,e]
   obtain⟨s9,hs9⟩:∃s,c.slots[j]=s:=⟨_,rfl⟩
   rw[hs9]at hx KF1 HMN;obtain⟨H9,hH9⟩:∃h,BC c s9=h:=⟨_,rfl⟩
   rw[hH9]at KF1 HMN;obtain⟨⟨tk,tp⟩,kp,sb,si⟩:=s9;simp only at KF1;have y0:=kc b1 (hx.at 0 rfl);have y1:=kc b1 (hx.at 1 rfl);have y2:=kc b1 (hx.at 2 rfl);have y3:=kc b1 (hx.at 3 rfl);have y4:=kc b1 (hx.at 4 rfl);rw[Nat.add_zero]at y0;simp only[O0]at hx;have HKF1:Hid _:=KF1;have HXW:Hid (Aw w lb (lo+j*5) (O0 ⟨⟨tk,tp⟩,kp,sb,si⟩)):=hx;obtain⟨N,hN⟩:=gA (X.length)
   have HNX:Hid (X.length=N):=hN;have hnw2:=hnw.out;rw[hN]at r4 hnw2;have HNW2:Hid _:=hnw2;try rw[hN]
   have i1:(0:Int)<=(j:Int):=oM;have i2:(j:Int)<(n2:Int):=oM;have wi:IntKind.i64.wrap ((j:Int)+1)=((j+1:Nat):Int):=by rw[IntKind.wrap_i64];omega
   have HXL:Hid (X.length=j):=hXl;clear KF1 hx hs9 hH9 hnw2 hN hmap hXl;go_wp2;refine rG (fun v=>v.cell? ⟨w.heap.size,0,none⟩=some (.slice p0 n0 q0)/\v.cell? ⟨w.heap.size,1,none⟩=some (.slice p1 n1 q1)/\v.cell? ⟨w.heap.size,2,none⟩=some (.slice (some ⟨lb,lo,none⟩) n2 q2)/\v.cell? ⟨w.heap.size,3,none⟩=some (.slice p3 n3 q3)/\v.cell? ⟨lb,lo+j*5,none⟩=some (.int .i64 tk)/\v.cell? ⟨lb,lo+j*5+1,none⟩=some (.int .i64 tp)/\v.cell? ⟨lb,lo+j*5+2,none⟩=some (.bool kp)/\v.cell? ⟨lb,lo+j*5+3,none⟩=some (.int .u32 sb)/\v.cell? ⟨lb,lo+j*5+4,none⟩=some (.int .i64 si)) fun yH=>?_;refine Tf 0 2 3 4 5 6 ?_;refine BU 7 ?_;clear yH;refine wpAnyH_ready (rs:=[1,8]) kR sM ?_;refine Hi 1 (fun K hK=>?_) ?_
   .go_simp;refine AF hK fun yH=>?_;clear hK K;clear yH;refine AJ 8 fun K hK=>?_;go_simp;(go_at_call 50;(with_reducible refine(HKF1.out _ (bel b1 (A7 _))).mono ?_);rintro e w2 ⟨pf,qf,rfl,hnum,hb2,hfr⟩;have hb22:Below wr.heap.size wr w2:=bel (A7 _) hb2;have h22:=hnw.out.next hb22;obtain⟨g,c',w3,hrun,hb3,hcs3,hoth⟩:=h22.cs.push (Nat.succ_le_of_lt h22.rr.lt) (by have h5:=HXL.out;omega) ⟨pf,qf,H9⟩ (hnum.apart (fun b o s e e2=>by have h5:=hfr b o s e;have h6:=(hnw.out.cs.own.lt b e2).2;have h7:wr.drew.heap.size=wr.heap.size:=rfl;omega)) 75;have hap3:∀x∈X++[(⟨pf,qf,H9⟩:Cl)],∀b o s,x.p=some ⟨b,o,s⟩->R<b:=(by intro x hx b o s e;rcases List.mem_append.1 hx with h|h;exact hnw.out.ap x h b o s e;simp only[List.mem_singleton]at h;subst h;have h5:=hfr b o s e;have h6:=hnw.out.rr.lt;have h7:wr.drew.heap.size=wr.heap.size:=rfl;omega);obtain⟨k4,z4,hnw3⟩:=h22.put hb3 hcs3 hap3;rw[HNX.out]at hrun k4 hnw3;have HRUN:Hid _:=hrun;have HNW3:Hid (NW w (.slice p0 n0 q0) (.slice p1 n1 q1) (.slice (some ⟨lb,lo,none⟩) n2 q2) (.slice p3 n3 q3) R (.slice (some ⟨g,0,none⟩) (N+1) c') (X++[(⟨pf,qf,H9⟩:Cl)]) (w3.setCell ⟨R,4,none⟩ (.slice (some ⟨g,0,none⟩) (N+1) c'))):=hnw3;have hcx2:=h22.cx;have hcx3:=hcx2.on (hb3.mono (by have:=h22.hR;omega));obtain⟨b21,-,d0,d1,d2,d3⟩:=hcx2;obtain⟨b31,-,e0,e1,e2,e3⟩:=hcx3;have u4:w2.cell? ⟨R,4,none⟩=some (.slice p N q):=Zhe;have g0:=(fun o=>kc (A0 w2 o) d0);have g1:=(fun o=>kc (A0 w2 o) d1);have g2:=(fun o=>kc (A0 w2 o) d2);have g3:=(fun o=>kc (A0 w2 o) d3);have g4:=(fun o=>kc (A0 w2 o) u4);have m0:=kc b21 (HXW.out.at 0 rfl);have m1:=kc b21 (HXW.out.at 1 rfl);have m2:=kc b21 (HXW.out.at 2 rfl);have m3:=kc b21 (HXW.out.at 3 rfl);have m4:=kc b21 (HXW.out.at 4 rfl);rw[Nat.add_zero]at m0;have l0:=(fun o=>kc (A0 w2 o) m0);have l1:=(fun o=>kc (A0 w2 o) m1);have l2:=(fun o=>kc (A0 w2 o) m2);have l3:=(fun o=>kc (A0 w2 o) m3);have l4:=(fun o=>kc (A0 w2 o) m4);have t0:=kc b31 (HXW.out.at 0 rfl);have t1:=kc b31 (HXW.out.at 1 rfl);have t2:=kc b31 (HXW.out.at 2 rfl);have t3:=kc b31 (HXW.out.at 3 rfl);have t4:=kc b31 (HXW.out.at 4 rfl);rw[Nat.add_zero]at t0;obtain⟨b41,-,o0,o1,o2,o3⟩:=HNW3.out.cx;have x0:(w3.setCell ⟨R,4,none⟩ (.slice (some ⟨g,0,none⟩) (N+1) c')).cell? ⟨lb,lo+j*5,none⟩=some (.int .i64 tk):=kc b41 (HXW.out.at 0 rfl);have x1:=kc b41 (HXW.out.at 1 rfl);have x2:=kc b41 (HXW.out.at 2 rfl);have x3:=kc b41 (HXW.out.at 3 rfl);have x4:=kc b41 (HXW.out.at 4 rfl);clear b41 hnum hb2 hfr hb22 h22 hrun hb3 hcs3 hoth hap3 hnw3 b21 b31);try(go_wp2_with fail)
    refine AF hK fun yH=>?_;clear hK K;clear yH;refine AJ 9 fun K hK=>?_;exact Zbd
   refine Hi 8 (fun K hK=>?_) AllReadyH.nil;go_simp;(go_at_call 50;(with_reducible refine(HKF1.out _ (bel b1 (A7 _))).mono ?_);rintro e w2 ⟨pf,qf,rfl,hnum,hb2,hfr⟩;have hb22:Below wr.heap.size wr w2:=bel (A7 _) hb2;have h22:=hnw.out.next hb22;obtain⟨g,c',w3,hrun,hb3,hcs3,hoth⟩:=h22.cs.push (Nat.succ_le_of_lt h22.rr.lt) (by have h5:=HXL.out;omega) ⟨pf,qf,H9⟩ (hnum.apart (fun b o s e e2=>by have h5:=hfr b o s e;have h6:=(hnw.out.cs.own.lt b e2).2;have h7:wr.drew.heap.size=wr.heap.size:=rfl;omega)) 75;have hap3:∀x∈X++[(⟨pf,qf,H9⟩:Cl)],∀b o s,x.p=some ⟨b,o,s⟩->R<b:=(by intro x hx b o s e;rcases List.mem_append.1 hx with h|h;exact hnw.out.ap x h b o s e;simp only[List.mem_singleton]at h;subst h;have h5:=hfr b o s e;have h6:=hnw.out.rr.lt;have h7:wr.drew.heap.size=wr.heap.size:=rfl;omega);obtain⟨k4,z4,hnw3⟩:=h22.put hb3 hcs3 hap3;rw[HNX.out]at hrun k4 hnw3;have HRUN:Hid _:=hrun;have HNW3:Hid (NW w (.slice p0 n0 q0) (.slice p1 n1 q1) (.slice (some ⟨lb,lo,none⟩) n2 q2) (.slice p3 n3 q3) R (.slice (some ⟨g,0,none⟩) (N+1) c') (X++[(⟨pf,qf,H9⟩:Cl)]) (w3.setCell ⟨R,4,none⟩ (.slice (some ⟨g,0,none⟩) (N+1) c'))):=hnw3;have hcx2:=h22.cx;have hcx3:=hcx2.on (hb3.mono (by have:=h22.hR;omega));obtain⟨b21,-,d0,d1,d2,d3⟩:=hcx2;obtain⟨b31,-,e0,e1,e2,e3⟩:=hcx3;have u4:w2.cell? ⟨R,4,none⟩=some (.slice p N q):=Zhe;have g0:=(fun o=>kc (A0 w2 o) d0);have g1:=(fun o=>kc (A0 w2 o) d1);have g2:=(fun o=>kc (A0 w2 o) d2);have g3:=(fun o=>kc (A0 w2 o) d3);have g4:=(fun o=>kc (A0 w2 o) u4);have m0:=kc b21 (HXW.out.at 0 rfl);have m1:=kc b21 (HXW.out.at 1 rfl);have m2:=kc b21 (HXW.out.at 2 rfl);have m3:=kc b21 (HXW.out.at 3 rfl);have m4:=kc b21 (HXW.out.at 4 rfl);rw[Nat.add_zero]at m0;have l0:=(fun o=>kc (A0 w2 o) m0);have l1:=(fun o=>kc (A0 w2 o) m1);have l2:=(fun o=>kc (A0 w2 o) m2);have l3:=(fun o=>kc (A0 w2 o) m3);have l4:=(fun o=>kc (A0 w2 o) m4);have t0:=kc b31 (HXW.out.at 0 rfl);have t1:=kc b31 (HXW.out.at 1 rfl);have t2:=kc b31 (HXW.out.at 2 rfl);have t3:=kc b31 (HXW.out.at 3 rfl);have t4:=kc b31 (HXW.out.at 4 rfl);rw[Nat.add_zero]at t0;obtain⟨b41,-,o0,o1,o2,o3⟩:=HNW3.out.cx;have x0:(w3.setCell ⟨R,4,none⟩ (.slice (some ⟨g,0,none⟩) (N+1) c')).cell? ⟨lb,lo+j*5,none⟩=some (.int .i64 tk):=kc b41 (HXW.out.at 0 rfl);have x1:=kc b41 (HXW.out.at 1 rfl);have x2:=kc b41 (HXW.out.at 2 rfl);have x3:=kc b41 (HXW.out.at 3 rfl);have x4:=kc b41 (HXW.out.at 4 rfl);clear b41 hnum hb2 hfr hb22 h22 hrun hb3 hcs3 hoth hap3 hnw3 b21 b31);try(go_wp2_with fail)
   refine AF hK fun yH=>?_;clear hK K;clear yH;refine wpAnyH_ready (rs:=[1,9]) kR sM ?_;refine Hi 1 (fun K hK=>?_) ?_
   .go_simp;refine AF hK fun yH=>?_;clear hK K;clear yH;refine AJ 9 fun K hK=>?_;exact Zbd
   refine Hi 9 (fun K hK=>?_) AllReadyH.nil;go_simp;refine AF hK fun yH=>?_;clear hK K;clear yH;refine AJ 1 fun K hK=>?_;exact Zbd
  .have hjn:j=n2:=oM;have HMF:Hid (X.map (·.h)=Co c):=by
    show _=_;have h5:=hmap.out;rw[hjn,<-HN2.out,List.take_of_length_le (by rw[Co,List.length_map];exact gF _)]at h5;exact h5
   have e1:¬ (j:Int)<(n2:Int):=oM;have r0:wr.cell? ⟨R,0,none⟩=some (.slice p0 n0 q0):=hnw.rr.cell (i:=0) dE;have r1:wr.cell? ⟨R,1,none⟩=some (.slice p1 n1 q1):=hnw.rr.cell (i:=1) dE;have r2:wr.cell? ⟨R,2,none⟩=some (.slice p2 n2 q2):=hnw.rr.cell (i:=2) dE;have r3:wr.cell? ⟨R,3,none⟩=some (.slice p3 n3 q3):=hnw.rr.cell (i:=3) dE;have k0:wr.cell? ⟨w.heap.size+1,0,none⟩=some (.slice none 0 0):=hnw.rb.cell (i:=0) dE;have k1:wr.cell? ⟨w.heap.size+1,1,none⟩=some (.slice none 0 0):=hnw.rb.cell (i:=1) dE;have k2:wr.cell? ⟨w.heap.size+1,2,none⟩=some (.slice none 0 0):=hnw.rb.cell (i:=2) dE;have k3:wr.cell? ⟨w.heap.size+1,3,none⟩=some (.slice none 0 0):=hnw.rb.cell (i:=3) dE;have k4:wr.cell? ⟨w.heap.size+1,4,none⟩=some (.slice none 0 0):=hnw.rb.cell (i:=4) dE;have z0:=hnw.rb.frozen 0;have z1:=hnw.rb.frozen 1;have z2:=hnw.rb.frozen 2;have z3:=hnw.rb.frozen 3;have z4:=hnw.rb.frozen 4;have hne:R≠w.heap.size+1:=by have:=hnw.hR;omega
   obtain⟨N,hN⟩:=gA (X.length)
   have HNX:Hid (X.length=N):=hN;rw[hN]at r4;clear hlt hmap hXl hN;go_wp2;refine bodyPost_ret (by simp[results,results33,go_sem, *];try rfl) rfl ?_;have ho:∀ (a b c d e:Value) (x:Nat),x≠w.heap.size+1->(((((wr.setCell ⟨w.heap.size+1,0,none⟩ a).setCell ⟨w.heap.size+1,1,none⟩ b).setCell ⟨w.heap.size+1,2,none⟩ c).setCell ⟨w.heap.size+1,3,none⟩ d).setCell ⟨w.heap.size+1,4,none⟩ e).heap[x]? =wr.heap[x]? :=fun a b c d e x hx=>by
    rw[gE hx,gE hx,gE hx,gE hx,gE hx]
   have HNN:N=n2:=by
    have h5:=congrArg List.length HMF.out;rw[List.length_map,Co,List.length_map,HN2.out,HNX.out]at h5;exact h5
   refine⟨p,q,by rw[HNN],X,HMF.out,?_,?_,fun b o s e=>?_,fun x hx b o s e=>by have h5:=hnw.ap x hx b o s e;have h6:=hnw.hR;omega⟩
   rotate_right 1
   .have h5:=F6 hnw.cs.own b o s e;have h6:=hnw.hR;omega
   .rw[<-HNN,<-HNX.out];exact(hnw.cs.off (Z:=w.heap.size+1) (by have:=hnw.hR;omega) (Nat.lt_succ_self _) hnw.ap (ho _ _ _ _ _)).cs
   .exact((((hnw.cx.bel.setCell N8 _).setCell N8 _).setCell N8 _).setCell N8 _).setCell N8 _
def Hf(l:List Int):List Value:=l.map fun x=>.int .u32 x
theorem FC(l:List Int)(x:Int):Hf (l++[x])=Hf l++[.int .u32 x]:=by simp[Hf]
theorem JS{w:World}{B:Nat}{p:Option Addr}{q:Nat}{l:List Int}(h:w.ownsRow B 43 1 (.slice p l.length q) l.length (Hf l)):Bh w p l.length (fun j=>.int .u32 (Cy l j)):=by
 by_cases h0:l.length=0
 .exact .inl h0
 .obtain⟨g,cap,e,_⟩:=h.form oM;simp only[Value.slice.injEq]at e;obtain⟨rfl,-,-⟩:=e;refine .inr ⟨g,0,rfl,fun j hj=>?_⟩;rw[Nat.zero_add,h.cellAt j oM];simp[Hf,Cy,hj]
theorem Gt:(prog.info? 43).map (fun i=>(i.zero,i.size,i.bytes))=some (some (.int .u32 0),1,4):=kR
theorem P2(v0 v1 v2 v3:Value)(u:Value)(X:List Cl)(hX:X.length<=16384)(k:Nat)(hk:k<X.length)(hP:∀y∈X[k].h.pats,AB y)(hl:X[k].h.pats.length<=4096)(w:World)(h:UT w u X):
 Calls prog 52 #[.agg #[v0,v1,v2,v3,u],.int .i64 (k:Int)] w fun e w'=>∃p q,e=.returned (.tuple #[.slice p X[k].h.pats.length q,.int .i64 X[k].h.whole,.int .i64 0])/\Bh w' p X[k].h.pats.length (fun j=>.int .u32 (Cy X[k].h.pats j))/\Below w.heap.size w w'/\(∀b o s,p=some ⟨b,o,s⟩->w.heap.size<=b)/\w'.ownsRow w.heap.size 43 1 (.slice p X[k].h.pats.length q) X[k].h.pats.length (Hf X[k].h.pats):=by
 obtain⟨pu,qu,rfl,-⟩:=id h.row;obtain⟨b,o,rfl,hc⟩:=h.row.at hk;have hnum:=h.nums X[k] (gD hk);obtain⟨⟨px,qx,⟨pats,wh⟩⟩,hx⟩:∃x,X[k]=x:=⟨_,rfl⟩
 rw[hx]at hc hnum hP hl |-;simp only at hnum hP hl |-;have y0:w.cell? ⟨b,o+k*2,none⟩=some (.slice px pats.length qx):=hc.at 0 rfl;have y1:w.cell? ⟨b,o+k*2+1,none⟩=some (.int .i64 wh):=hc.at 1 rfl;have HNUM:Hid (Cs w px pats):=hnum;have HP:Hid (∀j,AB (Cy pats j)):=fun j=>Cw hP j;obtain⟨N,hN⟩:=gA (X.length)
 obtain⟨M,hM⟩:=gA (pats.length)
 have HM:Hid (pats.length=M):=hM;rw[hN]at hk hX |-;rw[hM]at y0 hl |-;have HC:Hid (∀v,Below (w.alloc (.cells #[v0,v1,v2,v3,.slice (some ⟨b,o,none⟩) N qu] 77)).heap.size (w.alloc (.cells #[v0,v1,v2,v3,.slice (some ⟨b,o,none⟩) N qu] 77)) v->v.cell? ⟨w.heap.size,4,none⟩=some (.slice (some ⟨b,o,none⟩) N qu)/\v.cell? ⟨b,o+k*2,none⟩=some (.slice px M qx)/\v.cell? ⟨b,o+k*2+1,none⟩=some (.int .i64 wh)):=fun v hb=>⟨kc hb sG,kc (bel (A0 _ _) hb) y0,kc (bel (A0 _ _) hb) y1⟩
 obtain⟨W0,hW0⟩:∃W,w.alloc (.cells #[v0,v1,v2,v3,.slice (some ⟨b,o,none⟩) N qu] 77)=W:=⟨_,rfl⟩
 have HW0:Hid (Below w.heap.size w W0):=by rw[<-hW0];exact A0 _ _
 rw[hW0]at HC;have g4:=(HC.out _ (BT _)).1;have k0:(0:Int)<=(k:Int):=oM;have k1:(k:Int)<(N:Int):=oM;have hB1:decide (N<=k)=false:=sO;have hB2:decide ((k:Int)<0)=false:=sM;clear h hc hnum hP hx hN hM y0 y1;go_enter func52,ntmps52;go_wp2;try simp only[hB1,hB2,Bool.or_false]
 clear hW0 g4
 go_loopw [7,8] (fun ov iv wr=>Below W0.heap.size W0 wr/\∃ (j:Nat) (pp:Option Addr) (qq:Nat),j<=M/\iv=.int .i64 (j:Int)/\ov=.slice pp j qq/\Hid (wr.ownsRow W0.heap.size 43 1 (.slice pp j qq) j (Hf (pats.take j)))) (fun _ iv _=>M-(intOf iv).toNat)
 case atStart=>exact⟨BT _,0,none,0,gI _,rfl,rfl,World.ownsRow_nil _ _ _ 1⟩
 case round=>
  obtain⟨hb,j,pp,qq,hj,rfl,rfl,how⟩:=hrel;obtain⟨c4,d0,d1⟩:=HC.out wr hb;have HB:Hid (Below W0.heap.size W0 wr):=hb;by_cases hlt:j<M
  .have hll:j<pats.length:=by rw[HM.out];exact hlt
   rcases HNUM.out with h0|⟨bx,ox,rfl,hcell⟩
   .omega
   have hc:=hcell j hll;simp only at hc;have y:=kc (bel HW0.out hb) hc;have hP:=HP.out j;obtain⟨g,c',w8,hap,hb8,ho8,-⟩:=F5 (V:=wr) underlying70 Gt rfl dE how.out hb.size #[.int .u32 (Cy pats j)] rfl Zgd mL oM 70;have HNX:Hid (w8.ownsRow W0.heap.size 43 1 (.slice (some ⟨g,0,none⟩) (j+1) c') (j+1) (Hf (pats.take (j+1)))):=by
    show World.ownsRow _ _ _ _ _ _ _;have e9:Cy pats j=pats[j]:=by simp[Cy,hll]
    rw[List.take_succ_eq_append_getElem hll,FC,<-e9];exact ho8
   have HB8:Hid (Below W0.heap.size wr w8):=hb8;have HAP:Hid _:=hap;obtain⟨z,hz⟩:=gA (Cy pats j)
   rw[hz]at y hP HAP;have t0:(j:Int)<(M:Int):=oM;have t1:(0:Int)<=(j:Int):=oM;have t5:IntKind.i64.wrap ((j:Int)+1)=((j+1:Nat):Int):=by rw[IntKind.wrap_i64];omega
   have t6:IntKind.u32.wrap z=z:=by rw[IntKind.wrap_u32];have:=hP.1;have:=hP.2;omega
   clear hap hb8 ho8 hc hcell hz hb how hll;go_wp2_with(at_builtin;refine Au rF _ _ _ rF _ _ _ rF rF HAP.out ?_);go_roundw
   case rel=>
    exact⟨HB.trans HB8.out,j+1,_,_,oM,gN,rfl,HNX.out⟩
   case measure=>simp[intOf];omega
  have hjn:j=M:=oM;have e1:¬ (j:Int)<(M:Int):=oM;have HOW:Hid (wr.ownsRow W0.heap.size 43 1 (.slice pp pats.length qq) pats.length (Hf pats)):=by
   show World.ownsRow _ _ _ _ _ _ _;have h5:=how.out;rw[hjn,<-HM.out,List.take_length]at h5;exact h5
  have HJ:Hid (j=M):=hjn;clear how hlt hjn;go_wp2;refine rG (fun v=>v.cell? ⟨w.heap.size,4,none⟩=some (.slice (some ⟨b,o,none⟩) N qu)/\v.cell? ⟨b,o+k*2+1,none⟩=some (.int .i64 wh)) fun yH=>?_;refine Tf 0 1 2 3 4 5 ?_;refine Tc 6 7 8 ?_;refine BU 9 ?_;refine wpAnyH_done kR ?_ _;go_wp2;refine bodyPost_ret (by simp[results,results52,go_sem];try rfl) rfl ?_;have hrd:=JS HOW.out;rw[HM.out]at hrd;have hbw:Below w.heap.size w wr:=bel HW0.out HB.out;refine⟨pp,qq,by rw[HJ.out],hrd,Ds hbw,fun b o s e=>?_,?_⟩
  .have h5:=(HOW.lt b (by rw[e];rfl)).1;have h6:=HW0.size;omega
  .have h7:=As (C8 HOW.out HW0.size) (A7 wr);rw[HM.out]at h7;exact h7
def LF(w:World)(v:Value)(L:List (List Int)):Prop:=∃p c,v=.slice p L.length c/\∀i (hi:i<L.length),∃b o q d,p=some ⟨b,o,none⟩/\w.cell? ⟨b,o+i,none⟩=some (.slice q (L[i]).length d)/\Bh w q (L[i]).length (fun j=>.int .u32 (Cy L[i] j))
theorem LF.below{w w':World}{v:Value}{L:List (List Int)}(h:LF w v L)(k:Below w.heap.size w w'):LF w' v L:=by
 obtain⟨p,c,e,h⟩:=h;refine⟨p,c,e,fun i hi=>?_⟩;obtain⟨b,o,q,d,e1,e2,e3⟩:=h i hi;exact⟨b,o,q,d,e1,kc k e2,e3.below k⟩
theorem Ol:∀ {l:List Cx} {m:List Nat},m.length≠l.length->Cz l m=false
 |[],[],h=>absurd rfl h
 |[],_::_,_=>rfl
 |_::_,[],_=>rfl
 |p::l,n::m,h=>by
  have:Cz l m=false:=Ol Yd;simp[Cz,this]
theorem Ok:∀ {l:List Cx} {m:List Nat} {k:Nat} (h1:k<l.length) (h2:k<m.length),((m[k]:Nat):Int)≠DO l[k]->Cz l m=false
 |[],m,k,h,_,_=>by simp at h
 |p::l,[],k,_,h,_=>by simp at h
 |p::l,n::m,0,_,_,hne=>by
  have:decide ((n:Int)=DO p)=false:=by simpa using hne
  simp[Cz,this]
 |p::l,n::m,k+1,h1,h2,hne=>by
  have:Cz l m=false:=Ok (k:=k) (by simpa using h1) (by simpa using h2) (by simpa using hne);simp[Cz,this]
theorem M7:∀ {l:List Cx} {m:List Nat},m.length=l.length->(∀k (h1:k<l.length) (h2:k<m.length),((m[k]:Nat):Int)=DO l[k])->Cz l m=true
 |[],[],_,_=>rfl
 |[],_::_,h,_=>by simp at h
 |_::_,[],h,_=>by simp at h
 |p::l,n::m,h,ha=>by
  have h0:((n:Nat):Int)=DO p:=ha 0 sM sM;have:Cz l m=true:=M7 Yd fun k h1 h2=>by
   have:=ha (k+1) sO sO;simpa using this
  simp[Cz,h0,this]
theorem F8(v0:Value)(l:List Cx)(hl:l.length<=64)(hM:∀p∈l,p.name.size<=140737488351232)(gv:Value)(L:List (List Int))(hL:L.length<=140737488351232)(hLL:∀x∈L,x.length<=140737488351232)(w:World)(hr:AZ 3 AU w v0 l)(hg:LF w gv L):
 Calls prog 75 #[v0,gv] w fun e w'=>e=.returned (.bool (Cz l (L.map (·.length))))/\Below w.heap.size w w':=by
 obtain⟨p0,q0,rfl,-⟩:=id hr;obtain⟨pg,qg,rfl,hcell⟩:=hg;have HR:Hid (AZ 3 AU w (.slice p0 l.length q0) l):=hr;have HCELL:Hid (∀i (hi:i<L.length),∃b o q d,pg=some ⟨b,o,none⟩/\w.cell? ⟨b,o+i,none⟩=some (.slice q (L[i]).length d)/\Bh w q (L[i]).length (fun j=>.int .u32 (Cy L[i] j))):=hcell;have HNM:Hid (∀p∈l,p.name.size<=140737488351232):=hM;have HLL:Hid (∀x∈L,x.length<=140737488351232):=hLL;by_cases hne:L.length=l.length
 .obtain⟨RES,hRES⟩:∃X,Cz l (L.map (·.length))=X:=⟨_,rfl⟩
  rw[hRES];have HRES:Hid (Cz l (L.map (·.length))=RES):=hRES;have HNE:Hid (L.length=l.length):=hne;obtain⟨N,hN⟩:=gA (l.length)
  have HN:Hid (l.length=N):=hN;rw[hne];rw[hN]at hl HR |-;clear hr hcell hM hLL hRES hne hN hL;go_enter func75,ntmps75;go_wp2
  go_loopw [5] (fun iv wr=>Below w.heap.size w wr/\∃j:Nat,j<=N/\iv=.int .i64 (j:Int)/\Hid (∀k (h1:k<l.length) (h2:k<L.length),k<j->((L[k].length:Nat):Int)=DO l[k])) (fun iv _=>N-(intOf iv).toNat)
  case atStart=>exact⟨BT _,0,gI _,rfl,fun k _ _ h=>absurd h (Nat.not_lt_zero _)⟩
  case round=>
   obtain⟨hb,j,hj,rfl,hall⟩:=hrel;by_cases hlt:j<N
   .have hll:j<l.length:=by rw[HN.out];exact hlt
    have hLl:j<L.length:=by rw[HNE.out];exact hll
    obtain⟨lb,lo,rfl,hx⟩:=HR.at hll;obtain⟨gb,go,gq,gd,rfl,hgc,-⟩:=HCELL.out j hLl;have KN:=In l[j] (HNM.out _ (gD hll));have hlen:=HLL.out _ (gD hLl);have NX:Hid (((L[j].length:Nat):Int)=DO l[j]->∀k (h1:k<l.length) (h2:k<L.length),k<j+1->((L[k].length:Nat):Int)=DO l[k]):=fun h k h1 h2 h3=>by
     by_cases e:k=j
     .subst e;exact h
     .exact hall.out k h1 h2 oM
    have NB:Hid (((L[j].length:Nat):Int)≠DO l[j]->false=RES):=fun h=>by
     rw[<-HRES.out];exact(Ok (k:=j) hll (by simp;exact hLl) Yd).symm
    obtain⟨U,hU⟩:=gA (DO l[j])
    obtain⟨V,hV⟩:=gA (L[j].length)
    rw[hU]at KN NX NB;rw[hV]at hgc hlen NX NB;obtain⟨⟨nm,K9,L9⟩,hT⟩:∃T:Cx,l[j]=T:=⟨_,rfl⟩
    rw[hT]at hx KN;unfold pv at KN;simp only at KN;have HK:Hid (∀v,Calls prog 93 #[.agg #[.string nm,.int .i64 K9,.int .i64 L9]] v fun e w'=>e=.returned (.int .i64 U)/\Below v.heap.size v w'):=KN;have y0:wr.cell? ⟨lb,lo+j*3,none⟩=some (.string nm):=kc hb (hx.at 0 rfl);have y1:wr.cell? ⟨lb,lo+j*3+1,none⟩=some (.int .i64 K9):=kc hb (hx.at 1 rfl);have y2:wr.cell? ⟨lb,lo+j*3+2,none⟩=some (.int .i64 L9):=kc hb (hx.at 2 rfl);have y3:=kc hb hgc;have HB:Hid (Below w.heap.size w wr):=hb;have i1:(0:Int)<=(j:Int):=oM;have i2:(j:Int)<(N:Int):=oM;clear KN hx hgc hall hT hU hV hb;by_cases hX:((V:Nat):Int)=U
    .have hb1:((V:Int) != U)=false:=by simpa using hX
     have HNX:=NX.out hX;have HNX2:Hid _:=HNX;clear hX HNX NX NB;go_wp2;refine rG (fun v=>v.cell? ⟨gb,go+j,none⟩=some (.slice gq V gd)/\v.cell? ⟨lb,lo+j*3,none⟩=some (.string nm)/\v.cell? ⟨lb,lo+j*3+1,none⟩=some (.int .i64 K9)/\v.cell? ⟨lb,lo+j*3+2,none⟩=some (.int .i64 L9)) fun yH=>?_;refine Tf 0 1 2 3 4 5 ?_;refine Tc 6 7 8 ?_;clear yH;refine AJ 9 fun K hK=>?_;go_simp;(go_at_call 93;(with_reducible refine(HK.out _).mono ?_);rintro e w2 ⟨rfl,hb2⟩;have HB2:Hid (Below wr.heap.size wr w2):=bel (A7 _) hb2;clear hb2;have x0:=kc HB2.out y0;have x1:=kc HB2.out y1;have x2:=kc HB2.out y2;have x3:=kc HB2.out y3);try(go_wp2_with fail)
     refine AF hK fun yH=>?_;clear hK K;refine BU 10 ?_;refine wpAnyH_done kR ?_ _;go_wp2;go_roundw
     case rel=>exact⟨bel HB.out HB2.out,j+1,oM,gN,HNX2.out⟩
     case measure=>simp[intOf];omega
    .have hb1:((V:Int) != U)=true:=by simpa using hX
     have HQ:=NB.out hX;have HQF:Hid (false=RES):=HQ;clear hX HQ NX NB;go_wp2;refine rG (fun v=>v.cell? ⟨gb,go+j,none⟩=some (.slice gq V gd)/\v.cell? ⟨lb,lo+j*3,none⟩=some (.string nm)/\v.cell? ⟨lb,lo+j*3+1,none⟩=some (.int .i64 K9)/\v.cell? ⟨lb,lo+j*3+2,none⟩=some (.int .i64 L9)) fun yH=>?_;refine Tf 0 1 2 3 4 5 ?_;refine Tc 6 7 8 ?_;clear yH;refine AJ 9 fun K hK=>?_;go_simp;(go_at_call 93;(with_reducible refine(HK.out _).mono ?_);rintro e w2 ⟨rfl,hb2⟩;have HB2:Hid (Below wr.heap.size wr w2):=bel (A7 _) hb2;clear hb2;have x0:=kc HB2.out y0;have x1:=kc HB2.out y1;have x2:=kc HB2.out y2;have x3:=kc HB2.out y3);try(go_wp2_with fail)
     refine AF hK fun yH=>?_;clear hK K;refine BU 10 ?_;refine wpAnyH_done kR ?_ _;go_wp2;go_ret;exact⟨Ab HQF.out,bel HB.out HB2.out⟩
   have HQT:Hid (true=RES):=by
    show _=_;rw[<-HRES.out];refine(M7 (by rw[List.length_map];exact HNE.out) fun k h1 h2=>?_).symm;rw[List.length_map]at h2;have h5:=hall.out k h1 h2 (by have:=HN.out;omega);simpa using h5
   have e1:¬ (j:Int)<(N:Int):=oM;clear hall hlt;go_wp2;go_ret;exact⟨Ab HQT.out,hb⟩
 .rw[Ol (by rw[List.length_map];exact hne)];obtain⟨N,hN⟩:=gA (l.length)
  obtain⟨M,hM'⟩:∃N,L.length=N:=⟨_,rfl⟩
  rw[hN]at hne hl |-;rw[hM']at hne hL |-;have hb1:(((M:Nat):Int)==((N:Nat):Int))=false:=by have:((M:Nat):Int)≠(N:Int):=oM;simpa using this
  have hb2:(((M:Nat):Int) != ((N:Nat):Int))=true:=by have:((M:Nat):Int)≠(N:Int):=oM;simpa using this
  clear hr hcell hM hLL hN hM';go_enter func75,ntmps75;go_wp2;go_ret;exact⟨rfl,BT _⟩
theorem und_LL:prog.underlying 142=some (.slice (prog.elem 142)):=kR
theorem YL:prog.elem 142=87:=kR
theorem ZX(w:World):(sizeOf (prog.elem 142)).run prog w=.ok 1 w:=by rw[YL];exact Tryz.sizeOf87 w
def DY(a b c:List Int)(m:Nat):List (List Int):=[a,b,c].take m
def UQ(W:Nat)(R:List Int):List Int:=if R.length=1 then List.replicate W (Ae (R.headD 0))else R
theorem apply3(op:Int)(m:Nat)(hm:D9 op=m)(h0:m≠0)(xa xb xc:Cl)(n:Nat)(hs:Es (lF (DY xa.h.pats xb.h.pats xc.h.pats m)) (m-1)=some n)
 (pa:∀y∈xa.h.pats,AB y) (pb:∀y∈xb.h.pats,AB y) (pc:∀y∈xc.h.pats,AB y) (la:xa.h.pats.length<=4096) (lb:xb.h.pats.length<=4096) (lc:xc.h.pats.length<=4096) (g:Nat) (w:World)
 (g0:w.cell? ⟨g,0,none⟩=some (.slice xa.p xa.h.pats.length xa.q)) (g1:w.cell? ⟨g,1,none⟩=some (.slice xb.p xb.h.pats.length xb.q)) (g2:w.cell? ⟨g,2,none⟩=some (.slice xc.p xc.h.pats.length xc.q))
 (na:Cs w xa.p xa.h.pats) (nb:Cs w xb.p xb.h.pats) (nc:Cs w xc.p xc.h.pats):
 Calls prog 118 #[.int .i64 op,.slice (some ⟨g,0,none⟩) m 3] w fun e w'=>∃q cap,e=.returned (.tuple #[.slice q n cap,.int .i64 0])/\Cs w' q (Dd op (DY xa.h.pats xb.h.pats xc.h.pats m))/\(Dd op (DY xa.h.pats xb.h.pats xc.h.pats m)).length=n/\(∀y∈Dd op (DY xa.h.pats xb.h.pats xc.h.pats m),AB y)/\Below w.heap.size w w'/\∀b o s,q=some ⟨b,o,s⟩->w.heap.size<=b:=by
 have hm3:m<=3:=by rw[<-hm];exact Lx op
 have hal:(DY xa.h.pats xb.h.pats xc.h.pats m).length=m:=by unfold DY;rw[List.length_take];simp;omega
 have hv:∀i,i<m->EU (DY xa.h.pats xb.h.pats xc.h.pats m) i=if i=0 then xa.h.pats else if i=1 then xb.h.pats else xc.h.pats:=fun i hi=>by
  unfold EU DY;rw[List.getElem?_take,if_pos hi];have:i=0\/i=1\/i=2:=oM;rcases this with rfl|rfl|rfl<;>rfl
 have hvs:∀i,EU (DY xa.h.pats xb.h.pats xc.h.pats m) i=[]\/EU (DY xa.h.pats xb.h.pats xc.h.pats m) i=xa.h.pats\/EU (DY xa.h.pats xb.h.pats xc.h.pats m) i=xb.h.pats\/EU (DY xa.h.pats xb.h.pats xc.h.pats m) i=xc.h.pats:=fun i=>by
  by_cases hi:i<m
  .rw[hv i hi];split
   .exact .inr (.inl rfl)
   .split
    .exact .inr (.inr (.inl rfl))
    .exact .inr (.inr (.inr rfl))
  .left;unfold EU DY;rw[List.getElem?_take,if_neg hi];rfl
 have hP:∀i j,AB (xF (DY xa.h.pats xb.h.pats xc.h.pats m) i j):=fun i j=>by
  unfold xF;refine Cw ?_ j;rcases hvs i with e|e|e|e<;>rw[e]
  .intro y hy;cases hy
  .exact pa
  .exact pb
  .exact pc
 have hl:∀i,lF (DY xa.h.pats xb.h.pats xc.h.pats m) i<=1048576:=fun i=>by
  unfold lF;rcases hvs i with e|e|e|e<;>rw[e]<;>first|(show(0:Nat)<=_;omega)|omega
 have hL:PD .i64 w (some ⟨g,0,none⟩) m (fun i=>if i=0 then xa.p else if i=1 then xb.p else xc.p) (lF (DY xa.h.pats xb.h.pats xc.h.pats m)) (fun i=>if i=0 then xa.q else if i=1 then xb.q else xc.q) (xF (DY xa.h.pats xb.h.pats xc.h.pats m)):=by
  refine⟨.inr ⟨g,0,rfl,fun i hi=>?_⟩,fun i hi=>?_⟩
  .have:i=0\/i=1\/i=2:=oM;simp only[lF];rw[hv i hi,Nat.zero_add];rcases this with rfl|rfl|rfl
   .exact g0
   .exact g1
   .exact g2
  .have:i=0\/i=1\/i=2:=oM;simp only[lF,xF];rw[hv i hi];rcases this with rfl|rfl|rfl
   .exact na
   .exact nb
   .exact nc
 have hs':Es (lF (DY xa.h.pats xb.h.pats xc.h.pats m)) ((DY xa.h.pats xb.h.pats xc.h.pats m).length-1)=some n:=by rw[hal];exact hs
 obtain⟨a1,a2⟩:=Rs (op:=op) hs';refine(TT op oM g 0 m 3 hm n _ _ _ _ hP hl hs w hL).mono ?_;rintro e w' ⟨q,cap,rfl,hr,hb,hlo⟩;have a3:∀y∈Dd op (DY xa.h.pats xb.h.pats xc.h.pats m),AB y:=fun y hy=>by
  obtain⟨j,hj,rfl⟩:=List.mem_iff_getElem.1 hy;have h9:=a2 j oM;have h8:Cy (Dd op (DY xa.h.pats xb.h.pats xc.h.pats m)) j=(Dd op (DY xa.h.pats xb.h.pats xc.h.pats m))[j]:=by simp[Cy,hj]
  rw[<-h8,h9];exact RI _ _ _ _ (CR hP _ _ _) (CR hP _ _ _) (CR hP _ _ _)
 refine⟨q,cap,rfl,?_,a1,a3,hb,hlo⟩;unfold Cs;rw[a1];refine hr.congr fun j hj=>?_;rw[a2 j hj,hal]
def Vv(j:Nat):Value:=if j=0 then .slice none 0 0 else .int .i64 0
theorem YN:∀i,i<(#[.slice none 0 0,.int .i64 0]:Array Value).size->(#[.slice none 0 0,.int .i64 0]:Array Value)[i]? =some (Vv i):=by
 intro i hi;have hi':i<2:=hi;obtain rfl|rfl:i=0\/i=1:=oM
 all_goals rfl
theorem num_ne{v:World}{R:Nat}(h:v.rowIs R 109 2 Vv){q:Option Addr}{l:List Int}(hn:Cs v q l)(h2:2<=l.length):∀b o,q=some ⟨b,o,none⟩->b≠R:=by
 intro b o e hb;rcases hn with h0|⟨b',o',e',hc⟩
 .omega
 .rw[e]at e';simp only[Option.some.injEq,Addr.mk.injEq,true_and,and_true]at e';obtain⟨rfl,rfl⟩:b=b'/\o=o':=by first|exact e'|exact⟨e'.1,e'.2⟩
  subst hb;by_cases ho:o=0
  .have h3:=hc 0 oM;rw[ho]at h3;have h4:=h.cell (i:=0) dE;rw[Nat.add_zero]at h3;rw[h3]at h4;simp[Vv]at h4
  .have h3:=hc 1 oM;obtain⟨c,hb,hs,-⟩:=h;have h5:v.cell? ⟨b,o+1,none⟩=none:=by
    unfold World.cell?;simp only[hb];exact Array.getElem?_eq_none oM
   rw[h5]at h3;cases h3
structure Pz(w:World)(v0 v1 v2 v3 ru:Value)(op D A B C tk tp:Int)(rb oa ob oc:Nat)(ua ub uc:Value)(v:World):Prop where
 bel:Below w.heap.size w v
 a0:v.cell? ⟨w.heap.size,0,none⟩=some v0
 a1:v.cell? ⟨w.heap.size,1,none⟩=some v1
 a2:v.cell? ⟨w.heap.size,2,none⟩=some v2
 a3:v.cell? ⟨w.heap.size,3,none⟩=some v3
 a4:v.cell? ⟨w.heap.size,4,none⟩=some ru
 i0:v.cell? ⟨w.heap.size+1,0,none⟩=some (.int .i64 op)
 i1:v.cell? ⟨w.heap.size+1,1,none⟩=some (.int .i64 D)
 i2:v.cell? ⟨w.heap.size+1,2,none⟩=some (.int .i64 A)
 i3:v.cell? ⟨w.heap.size+1,3,none⟩=some (.int .i64 B)
 i4:v.cell? ⟨w.heap.size+1,4,none⟩=some (.int .i64 C)
 r0:v.cell? ⟨w.heap.size+1+1,0,none⟩=some (.slice none 0 0)
 r1:v.cell? ⟨w.heap.size+1+1,1,none⟩=some (.int .i64 0)
 rr:v.rowIs (w.heap.size+1+1) 109 2 Vv
 f0:v.frozen? ⟨w.heap.size+1+1,0,none⟩=false
 f1:v.frozen? ⟨w.heap.size+1+1,1,none⟩=false
 t0:v.cell? ⟨w.heap.size+1+1+1,0,none⟩=some (.int .i64 tk)
 t1:v.cell? ⟨w.heap.size+1+1+1,1,none⟩=some (.int .i64 tp)
 x0:v.cell? ⟨rb,oa,none⟩=some ua
 x1:v.cell? ⟨rb,ob,none⟩=some ub
 x2:v.cell? ⟨rb,oc,none⟩=some uc
theorem Pz.next{w:World}{v0 v1 v2 v3 ru:Value}{op D A B C tk tp:Int}{rb oa ob oc:Nat}{ua ub uc:Value}{v v':World}(h:Pz w v0 v1 v2 v3 ru op D A B C tk tp rb oa ob oc ua ub uc v)(k:Below v.heap.size v v'):Pz w v0 v1 v2 v3 ru op D A B C tk tp rb oa ob oc ua ub uc v':=
 ⟨Go.Proofs.YtpoklpdgpcnkgaaGreat.bel h.bel k,kc k h.a0,kc k h.a1,kc k h.a2,kc k h.a3,kc k h.a4,kc k h.i0,kc k h.i1,kc k h.i2,kc k h.i3,kc k h.i4,kc k h.r0,kc k h.r1,h.rr.of_block (k.block _ h.rr.lt),kf k h.r0 h.f0,kf k h.r1 h.f1,kc k h.t0,kc k h.t1,kc k h.x0,kc k h.x1,kc k h.x2⟩
theorem Cv(a:Int):Ae (Ae a)=Ae a:=by
 by_cases h:nan a=true
 .have e:Ae a=2143289344:=by unfold Ae;rw[if_pos h]
  rw[e];decide
 .have e:Ae a=a:=by unfold Ae;rw[if_neg h]
  rw[e,e]
theorem Ke(b:Bool):Ae (Qe b)=Qe b:=by cases b<;>decide
theorem Ij{o:Option Nat}(h:∀r,o=some r->rg r<=2139095040):Ae (RY o)=RY o:=by
 cases o with
 |none=>decide
 |some r=>exact IP (h r rfl)
theorem ON{a b:Int}(ha:0<=a)(hb:0<=b){o:Ordering}(h:Zw a b=some o):Ae a=a/\Ae b=b:=by
 rw[KH a b ha hb]at h;split at h
 .cases h
 .rename_i hn;have h1:¬nan a=true:=fun e=>hn (.inl e);have h2:¬nan b=true:=fun e=>hn (.inr e);unfold Ae;rw[if_neg h1,if_neg h2];exact⟨rfl,rfl⟩
theorem Oo(a b:Int)(ha:0<=a)(hb:0<=b):Ae (JB a b)=JB a b:=by
 unfold JB;cases e:Zw a b with
 |none=>show Ae 2143289344=2143289344;decide
 |some o=>
  obtain⟨h1,h2⟩:=ON ha hb e;cases o
  .exact h1
  .simp only;split
   .exact h1
   .exact h2
  .exact h2
theorem VA(a b:Int)(ha:0<=a)(hb:0<=b):Ae (Kg a b)=Kg a b:=by
 unfold Kg;cases e:Zw a b with
 |none=>show Ae 2143289344=2143289344;decide
 |some o=>
  obtain⟨h1,h2⟩:=ON ha hb e;cases o
  .exact h2
  .simp only;split
   .exact h2
   .exact h1
  .exact h1
theorem D7{p:Prop}[Decidable p]{x y:Int}(h:Ae x=x)(k:Ae y=y):Ae (if p then x else y)=if p then x else y:=by
 split
 .exact h
 .exact k
theorem Nz(op a b c:Int)(ha:AB a)(hb:AB b):Ae (Jo op a b c)=Jo op a b c:=by
 unfold Jo;refine D7 (Cv a) (D7 (Ij fun _ h=>(Pe h).1) (D7 (Cv _) (D7 (Cv _) (D7 (Ke _) (D7 (Ij fun _ h=>(Ro h).1) (D7 (Ij fun _ h=>(SG h).1) (D7 (Ij fun _ h=>(RN h).1) (D7 (Ij fun _ h=>(Ry h).1) (D7 (Oo a b ha.1 hb.1) (D7 (VA a b ha.1 hb.1) (D7 (Ke _) ?_)))))))))));unfold Nl;exact D7 (Cv _) (Cv _)
theorem Rr{op:Int}{args:List (List Int)}(h:∀l∈args,∀y∈l,AB y):∀y∈Dd op args,Ae y=y:=by
 have hX:∀i j,AB (xF args i j):=fun i j=>by
  exact Zee
 intro y hy;unfold Dd at hy;split at hy
 .simp only[List.mem_map]at hy;obtain⟨k,_,rfl⟩:=hy;exact Nz _ _ _ _ (CR hX _ _ _) (CR hX _ _ _)
 .cases hy
theorem el_eq{c:Cd}{f:Fr}{i:Aa}(hg:By c)(ok:Jf c f)(he:B3 i.op=true)(nd:Ee c f i)(hk:(A5 c.regs i.d).kind≠2):
 UQ (if(A5 c.regs i.d).kind=3 then lenOf c (A5 c.regs i.d).par else 1) (Dd i.op (Bu c f i))=(if(Dd i.op (Bu c f i)).length<B0 c (A5 c.regs i.d)then EZ c (A5 c.regs i.d) ((Dd i.op (Bu c f i)).headD 0)else Dd i.op (Bu c f i))/\(if(A5 c.regs i.d).kind=3 then lenOf c (A5 c.regs i.d).par else 1)=B0 c (A5 c.regs i.d):=by
 obtain⟨h1,h2,h3⟩:=GL hg ok he nd hk;obtain⟨s1,s2⟩:=FJ hg ok he nd hk;have hcan:=Rr (op:=i.op) (args:=Bu c f i) (fun l hl=>by
  unfold Bu at hl;simp only[List.mem_map]at hl;obtain⟨r,hr,rfl⟩:=hl
  exact(h2 r hr).2.2.2)
 have hw:(if(A5 c.regs i.d).kind=3 then lenOf c (A5 c.regs i.d).par else 1)=B0 c (A5 c.regs i.d):=by
  unfold B0;rcases h3 with e|e
  .rw[if_neg oM,if_neg oM,if_pos e]
  .rw[if_pos e,if_pos e]
 refine⟨?_,hw⟩;rw[hw];unfold EZ;generalize Dd i.op (Bu c f i)=R at *;generalize B0 c (A5 c.regs i.d)=W at *;unfold UQ;by_cases e:R.length=1
 .rw[if_pos e];obtain⟨x,rfl⟩:=List.length_eq_one_iff.1 e;have hx:Ae x=x:=hcan x sM;by_cases e2:W=1
  .subst e2;rw[if_neg sM];show [Ae x]=[x];rw[hx]
  .rw[if_pos sO]
 .rw[if_neg e,if_neg oM]
def DQ(c:Cd)(G P:List (List Int))(f:Fr)(i:Aa):Hd:=Bx c (CI c G P f i) i.d
section
variable {c : Cd} {G P : List (List Int)} {f : Fr} {i : Aa}
theorem IE(nd:Ee c f i)(h:Dw i.op=true):DQ c G P f i=⟨[Kx f i],0⟩:=by
 unfold DQ Bx;rw[Bz h,if_pos (nd.num h).2.2.2.2];simp only[B6]
theorem Ja(nd:Ee c f i)(h:Bq i.op=true):DQ c G P f i=⟨[],Fh f i⟩:=by
 have hk:=(nd.whole h).2.2.2.2.2.1;unfold DQ Bx;rw[AT h,if_neg oM,if_pos hk];simp only[B6]
theorem val_29(nd:Ee c f i)(h:i.op=29):DQ c G P f i=⟨Bm c G i,0⟩:=by
 have hk:=(nd.part (.inl h)).kind;unfold DQ Bx;rw[BZ h,if_neg oM,if_neg oM];simp only[B6]
theorem val_30(nd:Ee c f i)(h:i.op=30):DQ c G P f i=⟨Bm c P i,0⟩:=by
 have hk:=(nd.part (.inr h)).kind;unfold DQ Bx;rw[C5 h,if_neg oM,if_neg oM];simp only[B6]
theorem rd_st{r:Int}{h:Hd}(ho:PC c (A5 c.regs r) h)(hz:(A5 c.regs r).kind≠2->h.whole=0):Bx c (J4 c f r h) r=h:=by
 obtain⟨pats,whole⟩:=h;simp only at hz;have hl:pats.length=B0 c (A5 c.regs r):=ho.1;unfold B0 at hl;unfold Bx J4;by_cases h1:(A5 c.regs r).kind=1
 .rw[if_neg oM,if_pos h1]at hl;rw[if_pos h1,if_pos h1];obtain⟨x,rfl⟩:=List.length_eq_one_iff.1 hl;simp only[B6,List.headD_cons];rw[hz oM]
 .by_cases h2:(A5 c.regs r).kind=2
  .rw[if_neg oM,if_neg oM]at hl;rw[if_neg h1,if_pos h2,if_neg h1,if_pos h2];simp only[B6];rw[List.length_eq_zero_iff.1 hl]
  .rw[if_neg h1,if_neg h2,if_neg h1,if_neg h2];simp only[B6];rw[hz h2]
theorem val_32(ok:Jf c f)(nd:Ee c f i)(h:i.op=32)(hz:∀j (h:j<c.slots.length),c.slots[j].ty.kind≠2->((f.slots[j]?).getD ⟨[],0⟩).whole=0):DQ c G P f i=(f.slots[i.n.toNat]?).getD ⟨[],0⟩:=by
 obtain⟨d0,d1,n0,n1,ht⟩:=nd.load h;have hn:i.n.toNat<c.slots.length:=oM;have hn2:i.n.toNat<f.slots.length:=by rw[ok.slotsL];exact hn
 have hh:=ok.slots i.n.toNat hn hn2;have e:Df c.slots i.n=c.slots[i.n.toNat].ty:=by unfold Df;rw[gB hn];rfl
 unfold DQ;rw[BE h];refine rd_st ?_ fun h2=>hz _ hn (by rw[<-e,ht];exact h2);rw[gB hn2,Option.getD_some,<-ht,e];exact hh
theorem UH(h:B3 i.op=true)(hk:(A5 c.regs i.d).kind=2):DQ c G P f i=⟨[],f.whs i.a.toNat⟩:=by
 unfold DQ Bx;rw[AS h];unfold EJ;rw[if_pos hk,if_neg oM,if_pos hk];simp only[B6]
theorem Y0(hg:By c)(ok:Jf c f)(nd:Ee c f i)(h:B3 i.op=true)(hk:(A5 c.regs i.d).kind≠2):DQ c G P f i=⟨UQ (if(A5 c.regs i.d).kind=3 then lenOf c (A5 c.regs i.d).par else 1) (Dd i.op (Bu c f i)),0⟩:=by
 obtain⟨e1,e2⟩:=el_eq hg ok h nd hk;obtain⟨s1,s2⟩:=FJ hg ok h nd hk;rw[e1];unfold DQ;rw[AS h];unfold EJ;rw[if_neg hk];refine rd_st ⟨?_,fun y hy=>?_,Int.le_refl _,by show(0:Int)<=2147483647;decide⟩ fun _=>rfl
 .simp only;split
  .unfold EZ;rw[List.length_replicate]
  .rename_i hn;have h1:=(GL hg ok h nd hk).1;omega
 .simp only at hy;split at hy
  .unfold EZ at hy;rw[List.eq_of_mem_replicate hy];exact Dx _ (Km s2)
  .exact s2 y hy
theorem NE(hk:Aq i.op=true)(r:Nat)(h:(A3 i.op).d≠0->r≠i.d.toNat):Bx c (CI c G P f i) (r:Int)=Bx c f (r:Int):=by
 have hst:∀x:Hd,(A3 i.op).d≠0->Bx c (J4 c f i.d x) (r:Int)=Bx c f (r:Int):=fun x hd=>by
  have hr:=h hd;unfold J4;split
  .unfold Bx;simp only[Int.toNat_natCast,BS _ _ hr]
  .split
   .unfold Bx;simp only[Int.toNat_natCast,BS _ _ hr]
   .unfold Bx;simp only[Int.toNat_natCast,BS _ _ hr]
 rcases CE hk with e|e|e|e|e|e|e|e|e
 .have hr:=h (by unfold Dw at e;simp only[Bool.or_eq_true,beq_iff_eq]at e;have:i.op=1\/i.op=16\/i.op=17\/i.op=19\/i.op=20:=oM;rcases this with q|q|q|q|q<;>rw[q]<;>decide);rw[Bz e];unfold Bx;simp only[Int.toNat_natCast,BS _ _ hr]
 .have hr:=h (by unfold Bq at e;simp only[Bool.or_eq_true,Bool.and_eq_true,beq_iff_eq,decide_eq_true_eq]at e;have:i.op=2\/i.op=18\/i.op=21\/i.op=22\/i.op=23\/i.op=24\/i.op=25\/i.op=26\/i.op=27\/i.op=28:=oM;rcases this with q|q|q|q|q|q|q|q|q|q<;>rw[q]<;>decide);rw[AT e];unfold Bx;simp only[Int.toNat_natCast,BS _ _ hr]
 .have hr:=h Zho;rw[BZ e];unfold Bx;simp only[Int.toNat_natCast,BS _ _ hr]
 .have hr:=h Zho;rw[C5 e];unfold Bx;simp only[Int.toNat_natCast,BS _ _ hr]
 .rw[Ch e];rfl
 .rw[BE e];exact hst _ Zho
 .rw[Ci e];rfl
 .rw[AM e]
 .have hd:(A3 i.op).d≠0:=by
   unfold B3 at e;simp only[Bool.and_eq_true,decide_eq_true_eq]at e;have:i.op=3\/i.op=4\/i.op=5\/i.op=6\/i.op=7\/i.op=8\/i.op=9\/i.op=10\/i.op=11\/i.op=12\/i.op=13\/i.op=14\/i.op=15:=oM;rcases this with q|q|q|q|q|q|q|q|q|q|q|q|q<;>rw[q]<;>decide
  rw[AS e];unfold EJ;split
  .unfold Bx;simp only[Int.toNat_natCast,BS _ _ (h hd)]
  .exact hst _ hd
end
structure PF(c:Cd)(f:Fr)(X S O:List Cl):Prop where
 xl:X.length=c.regs.length
 xok:∀x∈X,(∀y∈x.h.pats,AB y)/\x.h.pats.length<=4096/\0<=x.h.whole/\x.h.whole<=2147483647
 sl:S.map (·.h)=f.slots
 sz:∀j (h:j<c.slots.length),c.slots[j].ty.kind≠2->((f.slots[j]?).getD ⟨[],0⟩).whole=0
 ol:O.length=2*c.sign.length
 oo:∀p n:Nat,p<c.sign.length->n<AP c (p:Int)->∃o,O[2*p+n]? =some o/\o.h.pats.length=lenOf c (p:Int)/\(∀y∈o.h.pats,AB y)/\∀e,e<lenOf c (p:Int)->Cy o.h.pats e=f.outs p (AP c (p:Int)*e+n)
def Rh(c:Cd)(f:Fr)(X:List Cl)(r:Nat):Prop:=∃x,X[r]? =some x/\x.h=Bx c f (r:Int)
def Did(c:Cd)(G P:List (List Int))(f:Fr)(i:Aa)(X S O X' S' O':List Cl):Prop:=
 ((A3 i.op).d≠0/\(∃x,X'=X.set i.d.toNat x/\x.h=DQ c G P f i)/\S'=S/\O'=O)
 \/(i.op=33/\X'=X/\(∃x,X[i.a.toNat]? =some x/\S'=S.set i.n.toNat x)/\O'=O)
 \/(i.op=31/\X'=X/\S'=S/\∃x,X[i.a.toNat]? =some x/\O'=O.set (2*(A5 c.regs i.a).par.toNat+i.n.toNat) x)
 \/((34<=i.op/\i.op<=37)/\X'=X/\S'=S/\O'=O)
theorem QQ{op:Int}(hk:Aq op=true):(A3 op).d≠0↔op≠31/\op≠33/\¬ (34<=op/\op<=37):=by
 unfold Aq at hk;simp only[Bool.and_eq_true,decide_eq_true_eq]at hk;have:op∈(List.range 38).map (fun n:Nat=>(n:Int)):=by
  rw[List.mem_map];exact⟨op.toNat,by rw[List.mem_range];omega,oM⟩
 have h0:op≠0:=oM;revert h0;revert op;intro op hk;simp only[List.range,List.range.loop,List.map_cons,List.map_nil,List.mem_cons,List.not_mem_nil,or_false];intro h h0;rcases h with h|h|h|h|h|h|h|h|h|h|h|h|h|h|h|h|h|h|h|h|h|h|h|h|h|h|h|h|h|h|h|h|h|h|h|h|h|h<;>(rw[h]at h0 |-;revert h0;decide)
theorem G2{c:Cd}{G P:List (List Int)}{f:Fr}{i:Aa}(hk:Aq i.op=true):(i.op≠33->(CI c G P f i).slots=f.slots)/\(i.op≠31->(CI c G P f i).outs=f.outs):=by
 have hst:∀r h,(J4 c f r h).slots=f.slots/\(J4 c f r h).outs=f.outs:=fun r h=>by
  unfold J4;split
  .exact⟨rfl,rfl⟩
  .split
   .exact⟨rfl,rfl⟩
   .exact⟨rfl,rfl⟩
 rcases CE hk with e|e|e|e|e|e|e|e|e
 .rw[Bz e];exact⟨fun _=>rfl,fun _=>rfl⟩
 .rw[AT e];exact⟨fun _=>rfl,fun _=>rfl⟩
 .rw[BZ e];exact⟨fun _=>rfl,fun _=>rfl⟩
 .rw[C5 e];exact⟨fun _=>rfl,fun _=>rfl⟩
 .exact⟨fun _=>by rw[Ch e],fun h=>absurd e h⟩
 .rw[BE e];exact⟨fun _=>(hst _ _).1,fun _=>(hst _ _).2⟩
 .exact⟨fun h=>absurd e h,fun _=>by rw[Ci e]⟩
 .rw[AM e];exact⟨fun _=>rfl,fun _=>rfl⟩
 .rw[AS e];unfold EJ;split
  .exact⟨fun _=>rfl,fun _=>rfl⟩
  .exact⟨fun _=>(hst _ _).1,fun _=>(hst _ _).2⟩
def Bf(T:Nat->Prop)(w:World)(p:Option Addr)(l:List Int):Prop:=l=[]\/∃b o,p=some ⟨b,o,none⟩/\¬T b/\b<w.heap.size/\∀j,j<l.length->w.cell? ⟨b,o+j,none⟩=some (.int .i64 (Cy l j))
section
variable {T U : Nat -> Prop} {w w' : World} {p : Option Addr} {l : List Int}
theorem Bf.num(h:Bf T w p l):Cs w p l:=by
 rcases h with rfl|⟨b,o,e,-,-,h⟩
 .exact .inl rfl
 .exact .inr ⟨b,o,e,h⟩
theorem Bf.un(h:Bf T w p l)(q:Un U w w')(hu:∀b,b<w.heap.size->U b->T b):Bf T w' p l:=
 h.imp id fun⟨b,o,e,ht,hb,h⟩=>⟨b,o,e,ht,Nat.lt_of_lt_of_le hb q.size,fun j hj=>(gC (q.block b hb fun k=>ht (hu b hb k))).trans (h j hj)⟩
theorem Bf.below(h:Bf T w p l)(q:Below w.heap.size w w'):Bf T w' p l:=h.un (U:=fun _=>False) (Un.of q) (fun _ _ e=>e.elim)
theorem Bf.mono(h:Bf T w p l)(hu:∀b,b<w.heap.size->U b->T b):Bf U w p l:=
 h.imp id fun⟨b,o,e,ht,hb,h⟩=>⟨b,o,e,fun k=>ht (hu b hb k),hb,h⟩
theorem Cs.free{B:Nat}(h:Cs w p l)(hl:∀b o s,p=some ⟨b,o,s⟩->B<=b)(ht:∀b,T b->b<B):Bf T w p l:=by
 by_cases h0:l=[]
 .exact .inl h0
 .rcases h with h|⟨b,o,e,h⟩
  .exact absurd (List.length_eq_zero_iff.1 h) h0
  .have:=List.length_pos_iff.2 h0;exact .inr ⟨b,o,e,fun k=>by have h1:=ht b k;have h2:=hl b o none e;omega,A6 (h 0 this),h⟩
end
structure AV(T:Nat->Prop)(w:World)(v:Value)(X:List Cl):Prop where
 row:Ev T 2 T8 w v X
 nums:∀x∈X,Bf T w x.p x.h.pats
structure IJ(T:Nat->Prop)(w:World)(v:Value)(X:List Cl):Prop where
 row:Ev T 1 UR w v X
 nums:∀x∈X,Bf T w x.p x.h.pats
section
variable {T U : Nat -> Prop} {w w' : World} {v : Value} {X : List Cl}
theorem AV.cs(h:AV T w v X):UT w v X:=⟨h.row.row,fun x hx=>(h.nums x hx).num⟩
theorem AV.un(h:AV T w v X)(q:Un U w w')(hu:∀b,b<w.heap.size->U b->T b):AV T w' v X:=⟨h.row.un q hu,fun x hx=>(h.nums x hx).un q hu⟩
theorem AV.below(h:AV T w v X)(q:Below w.heap.size w w'):AV T w' v X:=⟨h.row.below q,fun x hx=>(h.nums x hx).below q⟩
theorem AV.mono(h:AV T w v X)(hu:∀b,b<w.heap.size->U b->T b):AV U w v X:=⟨h.row.mono hu,fun x hx=>(h.nums x hx).mono hu⟩
theorem IJ.un(h:IJ T w v X)(q:Un U w w')(hu:∀b,b<w.heap.size->U b->T b):IJ T w' v X:=⟨h.row.un q hu,fun x hx=>(h.nums x hx).un q hu⟩
theorem IJ.below(h:IJ T w v X)(q:Below w.heap.size w w'):IJ T w' v X:=⟨h.row.below q,fun x hx=>(h.nums x hx).below q⟩
theorem IJ.mono(h:IJ T w v X)(hu:∀b,b<w.heap.size->U b->T b):IJ U w v X:=⟨h.row.mono hu,fun x hx=>(h.nums x hx).mono hu⟩
end
theorem Il{α:Type}{f:α->List Value}{k:Nat}(hf:∀x,(f x).length=k){w:World}{B:Nat}{t:TypeId}{v:Value}{l:List α}(h:w.ownsRow B t k v l.length (AG f l)){T:Nat->Prop}(ht:∀b,T b->b<B):Ev T k f w v l:=by
 have hr:=C9 hf h;obtain⟨p,c,rfl,hr⟩:=hr;refine⟨p,c,rfl,hr.imp id fun⟨b,o,e,hc⟩=>⟨b,o,e,fun k=>?_,?_,hc⟩⟩
 .have h1:=F6 h b o none e;have h2:=ht b k;omega
 .subst e;exact(h.lt b rfl).2
theorem M9(x:Cl):∀ (X:List Cl) (d:Nat),d<X.length->((AG T8 X).set (d*2) (.slice x.p x.h.pats.length x.q)).set (d*2+1) (.int .i64 x.h.whole)=AG T8 (X.set d x)
 |[],d,h=>by simp at h
 |y::X,0,h=>rfl
 |y::X,d+1,h=>by
  have ih:=M9 x X d Yd;have e:AG T8 (y::X)=.slice y.p y.h.pats.length y.q:: .int .i64 y.h.whole::AG T8 X:=rfl;rw[e,show(d+1)*2=d*2+1+1 by omega];simp only[List.set_cons_succ];rw[ih];rfl
theorem rput_T{T:Nat->Prop}(v:Value)(X:List Cl)(hX:X.length<=16384)(d:Nat)(hd:d<X.length)(x:Cl)(w:World)(hT:∀b,T b->b<w.heap.size)(h:AV T w v X)(hx:Bf T w x.p x.h.pats):
 Calls prog 106 #[v,.int .i64 (d:Int),.agg #[.slice x.p x.h.pats.length x.q,.int .i64 x.h.whole]] w fun e w'=>∃p q,e=.returned (.slice p X.length q)/\AV T w' (.slice p X.length q) (X.set d x)/\Below w.heap.size w w':=by
 obtain⟨i0,hi0,hz0,hz1,hz2⟩:=info_parts IQ;have hb0:=A0 w (.cells #[.slice x.p x.h.pats.length x.q,.int .i64 x.h.whole] 109);obtain⟨u,w',hr,hb,hown⟩:=Fm dE Ia Rv underlying75 hi0 hz0 hz1 hz2 rfl (h.row.row.below hb0) mL oM 75;obtain⟨g,cap,rfl,hg,hgl⟩:=hown.form oM;have hs0:(w.alloc (.cells #[.slice x.p x.h.pats.length x.q,.int .i64 x.h.whole] 109)).heap.size=w.heap.size+1:=sM;have s1:=hown.stored (d*2) (.slice x.p x.h.pats.length x.q);have s2:=s1.1.stored (d*2+1) (.int .i64 x.h.whole);have hfin:=s2.1;rw[M9 x X d hd]at hfin;have hfl:(AG T8 X).length=X.length*2:=Ef Ia X;have y0:∃z,w'.cell? ⟨g,d*2,none⟩=some z:=by
  refine⟨(AG T8 X)[d*2]'oM,?_⟩;rw[hown.cellAt (d*2) oM,gB]
 have y1:∃z,w'.cell? ⟨g,d*2+1,none⟩=some z:=by
  refine⟨(AG T8 X)[d*2+1]'oM,?_⟩;rw[hown.cellAt (d*2+1) oM,gB]
 have f0:=hown.frozenAt (d*2);have f1:=hown.frozenAt (d*2+1);have c0:w'.cell? ⟨w.heap.size,0,none⟩=some (.slice x.p x.h.pats.length x.q):=kc hb sG;have c1:w'.cell? ⟨w.heap.size,1,none⟩=some (.int .i64 x.h.whole):=kc hb sG;obtain⟨z0,y0⟩:=y0;obtain⟨z1,y1⟩:=y1;have hbF:Below w.heap.size w ((w'.setCell ⟨g,d*2,none⟩ (.slice x.p x.h.pats.length x.q)).setCell ⟨g,d*2+1,none⟩ (.int .i64 x.h.whole)):=((bel hb0 hb).setCell Zhq _).setCell Zhq _;have HFIN:Hid (AV T ((w'.setCell ⟨g,d*2,none⟩ (.slice x.p x.h.pats.length x.q)).setCell ⟨g,d*2+1,none⟩ (.int .i64 x.h.whole)) (.slice (some ⟨g,0,none⟩) X.length cap) (X.set d x)/\Below w.heap.size w ((w'.setCell ⟨g,d*2,none⟩ (.slice x.p x.h.pats.length x.q)).setCell ⟨g,d*2+1,none⟩ (.int .i64 x.h.whole))):=by
  refine⟨⟨Il Ia (by rw[List.length_set];exact hfin) (fun b hb=>by have:=hT b hb;omega),fun y hy=>?_⟩,hbF⟩;rcases List.mem_or_eq_of_mem_set hy with e|rfl
  .exact(h.nums y e).below hbF
  .exact hx.below hbF
 have HR:Hid _:=hr;obtain⟨p,q,rfl,-⟩:=id h.row;obtain⟨N,hN⟩:=gA (X.length)
 rw[hN]at hd hX HR HFIN |-;have d0:(0:Int)<=(d:Int):=oM;have d1:(d:Int)<(N:Int):=oM;clear hr hb hown s1 s2 hfin hfl hbF h hN hT;go_enter func106,ntmps106;go_wp2_with(at_builtin;refine Au rF _ _ _ rF _ _ _ rF rF HR.out ?_);go_ret;exact⟨_,_,rfl,HFIN.1,HFIN.2⟩
def DC(a b c d e f g h i j:Value)(k:Nat):Value:=if k=0 then a else if k=1 then b else if k=2 then c else if k=3 then d else if k=4 then e else if k=5 then f else if k=6 then g else if k=7 then h else if k=8 then i else j
theorem Nf(a b c d e f g h i j:Value):∀k,k<(#[a,b,c,d,e,f,g,h,i,j]:Array Value).size->(#[a,b,c,d,e,f,g,h,i,j]:Array Value)[k]? =some (DC a b c d e f g h i j k):=by
 intro k hk;have hk':k<10:=hk;obtain rfl|rfl|rfl|rfl|rfl|rfl|rfl|rfl|rfl|rfl:k=0\/k=1\/k=2\/k=3\/k=4\/k=5\/k=6\/k=7\/k=8\/k=9:=oM
 all_goals rfl
def f7(a b c d e f g:Value)(k:Nat):Value:=if k=0 then a else if k=1 then b else if k=2 then c else if k=3 then d else if k=4 then e else if k=5 then f else g
theorem f7_ok(a b c d e f g:Value):∀k,k<(#[a,b,c,d,e,f,g]:Array Value).size->(#[a,b,c,d,e,f,g]:Array Value)[k]? =some (f7 a b c d e f g k):=by
 intro k hk;have hk':k<7:=hk;obtain rfl|rfl|rfl|rfl|rfl|rfl|rfl:k=0\/k=1\/k=2\/k=3\/k=4\/k=5\/k=6:=oM
 all_goals rfl
def f2(a b:Value)(k:Nat):Value:=if k=0 then a else b
theorem f2_ok(a b:Value):∀k,k<(#[a,b]:Array Value).size->(#[a,b]:Array Value)[k]? =some (f2 a b k):=by
 intro k hk;have hk':k<2:=hk;obtain rfl|rfl:k=0\/k=1:=oM
 all_goals rfl
structure DW(w:World)(F I D:Nat->Value)(v:World):Prop where
 bel:Below w.heap.size w v
 f:v.rowIs w.heap.size 144 10 F
 i:v.rowIs (w.heap.size+1) 45 7 I
 r:v.rowIs (w.heap.size+1+1) 144 10 (DC (.slice none 0 0) (.slice none 0 0) (.slice none 0 0) (.slice none 0 0) (.slice none 0 0) (.slice none 0 0) (.slice none 0 0) (.slice none 0 0) (.slice none 0 0) (.int .i64 0))
 d:v.rowIs (w.heap.size+1+1+1) 109 2 D
theorem DW.next{w:World}{F I D:Nat->Value}{v v':World}(h:DW w F I D v)(k:Below v.heap.size v v'):DW w F I D v':=
 ⟨Go.Proofs.YtpoklpdgpcnkgaaGreat.bel h.bel k,h.f.of_block (k.block _ h.f.lt),h.i.of_block (k.block _ h.i.lt),h.r.of_block (k.block _ h.r.lt),h.d.of_block (k.block _ h.d.lt)⟩
theorem DW.size{w:World}{F I D:Nat->Value}{v:World}(h:DW w F I D v):w.heap.size+1+1+1<v.heap.size:=h.d.lt
theorem DW.put{w:World}{F I D:Nat->Value}{v:World}(h:DW w F I D v)(i:Nat)(x:Value):DW w F I (fun j=>if j=i then x else D j) (v.setCell ⟨w.heap.size+1+1+1,i,none⟩ x):=
 ⟨h.bel.setCell (by show w.heap.size<=w.heap.size+1+1+1;omega) _,h.f.setOther (by show w.heap.size≠w.heap.size+1+1+1;omega) _,h.i.setOther (by show w.heap.size+1≠w.heap.size+1+1+1;omega) _,h.r.setOther (by show w.heap.size+1+1≠w.heap.size+1+1+1;omega) _,h.d.set i x⟩
theorem DW.congr{w:World}{F I D D':Nat->Value}{v:World}(h:DW w F I D v)(k:∀j,j<2->D j=D' j):DW w F I D' v:=⟨h.bel,h.f,h.i,h.r,h.d.congr k⟩
theorem DW.start(w:World)(a0 a1 a2 a3 a4 a5 a6 a7 a8 a9 b0 b1 b2 b3 b4 b5 b6:Value):DW w (DC a0 a1 a2 a3 a4 a5 a6 a7 a8 a9) (f7 b0 b1 b2 b3 b4 b5 b6) (f2 (.slice none 0 0) (.int .i64 0)) ((((w.alloc (.cells #[a0,a1,a2,a3,a4,a5,a6,a7,a8,a9] 144)).alloc (.cells #[b0,b1,b2,b3,b4,b5,b6] 45)).alloc (.cells #[.slice none 0 0,.slice none 0 0,.slice none 0 0,.slice none 0 0,.slice none 0 0,.slice none 0 0,.slice none 0 0,.slice none 0 0,.slice none 0 0,.int .i64 0] 144)).alloc (.cells #[.slice none 0 0,.int .i64 0] 109)):=by
 have r1:=World.rowIs_alloc w #[a0,a1,a2,a3,a4,a5,a6,a7,a8,a9] 144 _ (Nf _ _ _ _ _ _ _ _ _ _);have r2:=World.rowIs_alloc (w.alloc (.cells #[a0,a1,a2,a3,a4,a5,a6,a7,a8,a9] 144)) #[b0,b1,b2,b3,b4,b5,b6] 45 _ (f7_ok _ _ _ _ _ _ _);have r3:=World.rowIs_alloc ((w.alloc (.cells #[a0,a1,a2,a3,a4,a5,a6,a7,a8,a9] 144)).alloc (.cells #[b0,b1,b2,b3,b4,b5,b6] 45)) #[.slice none 0 0,.slice none 0 0,.slice none 0 0,.slice none 0 0,.slice none 0 0,.slice none 0 0,.slice none 0 0,.slice none 0 0,.slice none 0 0,.int .i64 0] 144 _ (Nf _ _ _ _ _ _ _ _ _ _);have r4:=World.rowIs_alloc (((w.alloc (.cells #[a0,a1,a2,a3,a4,a5,a6,a7,a8,a9] 144)).alloc (.cells #[b0,b1,b2,b3,b4,b5,b6] 45)).alloc (.cells #[.slice none 0 0,.slice none 0 0,.slice none 0 0,.slice none 0 0,.slice none 0 0,.slice none 0 0,.slice none 0 0,.slice none 0 0,.slice none 0 0,.int .i64 0] 144)) #[.slice none 0 0,.int .i64 0] 109 _ (f2_ok _ _);simp only[World.size_alloc]at r2 r3 r4;exact⟨Go.Proofs.YtpoklpdgpcnkgaaGreat.bel (A0 _ _) (Go.Proofs.YtpoklpdgpcnkgaaGreat.bel (A0 _ _) (Go.Proofs.YtpoklpdgpcnkgaaGreat.bel (A0 _ _) (A0 _ _))),((r1.alloc _).alloc _).alloc _,(r2.alloc _).alloc _,r3.alloc _,r4⟩
theorem LP(c:Cd)(hg:By c)(v0 v1 v2 v3 ru su ou gu pu ct:Value)(X:List Cl)(hX:X.length=c.regs.length)(op nn bt:Int)(kd ka kb kk:Nat)(hd:kd<c.regs.length)(ha:ka<X.length)(hb:kb<X.length)(hc:kk<X.length)(h2:c.regs[kd].kind≠2)(ht:c.regs[kd].kind=3->Az c.regs[kd].par c.sign.length=true)
 (m:Nat) (hm:D9 op=m) (h0:m≠0) (n:Nat) (hs:Es (lF (DY X[ka].h.pats X[kb].h.pats X[kk].h.pats m)) (m-1)=some n) (hn1:1<=n) (hn:n<=4096)
 (hP:∀x∈X,∀y∈x.h.pats,AB y) (hL:∀x∈X,x.h.pats.length<=4096) (w:World) (hv:Dk w v0 v1 v2 v3 c) (hcs:UT w ru X):
 Calls prog 98 #[.agg #[v0,v1,v2,v3,ru,su,ou,gu,pu,ct],.agg #[.int .i64 op,.int .i64 (kd:Int),.int .i64 (ka:Int),.int .i64 (kb:Int),.int .i64 (kk:Int),.int .i64 nn,.int .u32 bt]] w fun e w'=>
  ∃p q,e=.returned (.agg #[.slice p (UQ (if c.regs[kd].kind=3 then lenOf c c.regs[kd].par else 1) (Dd op (DY X[ka].h.pats X[kb].h.pats X[kk].h.pats m))).length q,.int .i64 0])/\Cs w' p (UQ (if c.regs[kd].kind=3 then lenOf c c.regs[kd].par else 1) (Dd op (DY X[ka].h.pats X[kb].h.pats X[kk].h.pats m)))/\Below w.heap.size w w'/\∀b o s,p=some ⟨b,o,s⟩->w.heap.size<=b:=by
 have KW:=FS v0 v1 v2 v3 c hg c.regs[kd] ht;have hwid:(if c.regs[kd].kind=3 then lenOf c c.regs[kd].par else 1)<=4096:=by split;exact hg.lenOf _;omega
 obtain⟨p1,q1,rfl,-⟩:=id hv.regs;obtain⟨lb,lo,rfl,hreg⟩:=hv.regs.at hd;obtain⟨pr,qr,rfl,-⟩:=id hcs.row;obtain⟨rb,ro,rfl,hca⟩:=hcs.row.at ha;obtain⟨rb2,ro2,e2,hcb⟩:=hcs.row.at hb;obtain⟨rb3,ro3,e3,hcc⟩:=hcs.row.at hc;simp only[Option.some.injEq,Addr.mk.injEq,and_true]at e2 e3;obtain⟨rfl,rfl⟩:=e2;obtain⟨rfl,rfl⟩:=e3;have KA:=apply3 op m hm h0 X[ka] X[kb] X[kk] n hs (hP _ (gD ha)) (hP _ (gD hb)) (hP _ (gD hc)) (hL _ (gD ha)) (hL _ (gD hb)) (hL _ (gD hc));have na:=hcs.nums _ (gD ha);have nb:=hcs.nums _ (gD hb);have nc:=hcs.nums _ (gD hc);obtain⟨xa,hxa⟩:∃x,X[ka]=x:=⟨_,rfl⟩
 obtain⟨xb,hxb⟩:∃x,X[kb]=x:=⟨_,rfl⟩
 obtain⟨xc,hxc⟩:∃x,X[kk]=x:=⟨_,rfl⟩
 rw[hxa]at hca na;rw[hxb]at hcb nb;rw[hxc]at hcc nc;rw[hxa,hxb,hxc]at KA |-;obtain⟨RR,hRR⟩:∃R,Dd op (DY xa.h.pats xb.h.pats xc.h.pats m)=R:=⟨_,rfl⟩
 rw[hRR]at KA |-;obtain⟨⟨tk,tp⟩,hT⟩:∃t:Ty,c.regs[kd]=t:=⟨_,rfl⟩
 rw[hT]at hreg h2 KW hwid |-;unfold Fk at KW;simp only at h2 KW hwid |-;obtain⟨Wd,hWd⟩:∃W,(if tk=3 then lenOf c tp else 1)=W:=⟨_,rfl⟩
 have hWi:(if tk=3 then(lenOf c tp:Int)else 1)=(Wd:Int):=by rw[<-hWd];split<;>rfl
 rw[hWi]at KW;rw[hWd]at hwid |-;obtain⟨n1,hn1'⟩:∃n,c.regs.length=n:=⟨_,rfl⟩
 rw[hX]at ha hb hc |-;rw[hn1']at hd ha hb hc KW |-;have hregsL:=hg.regsL;rw[hn1']at hregsL;obtain⟨LA,hLA⟩:∃l,xa.h.pats.length=l:=⟨_,rfl⟩
 obtain⟨LB,hLB⟩:∃l,xb.h.pats.length=l:=⟨_,rfl⟩
 obtain⟨LC,hLC⟩:∃l,xc.h.pats.length=l:=⟨_,rfl⟩
 have y0:w.cell? ⟨rb,ro+ka*2,none⟩=some (.slice xa.p LA xa.q):=by rw[<-hLA];exact hca.at 0 rfl
 have y1:w.cell? ⟨rb,ro+kb*2,none⟩=some (.slice xb.p LB xb.q):=by rw[<-hLB];exact hcb.at 0 rfl
 have y2:w.cell? ⟨rb,ro+kk*2,none⟩=some (.slice xc.p LC xc.q):=by rw[<-hLC];exact hcc.at 0 rfl
 rw[hLA,hLB,hLC]at KA;have z0:w.cell? ⟨lb,lo+kd*2,none⟩=some (.int .i64 tk):=hreg.at 0 rfl;have z1:w.cell? ⟨lb,lo+kd*2+1,none⟩=some (.int .i64 tp):=hreg.at 1 rfl;have hba:Below w.heap.size w (((w.alloc (.cells #[v0,.slice (some ⟨lb,lo,none⟩) n1 q1,v2,v3,.slice (some ⟨rb,ro,none⟩) n1 qr,su,ou,gu,pu,ct] 144)).alloc (.cells #[.int .i64 op,.int .i64 (kd:Int),.int .i64 (ka:Int),.int .i64 (kb:Int),.int .i64 (kk:Int),.int .i64 nn,.int .u32 bt] 45)).alloc (.cells #[.slice none 0 0,.int .i64 0] 109)):=bel (A0 _ _) (bel (A0 _ _) (A0 _ _));have b1:(((w.alloc (.cells #[v0,.slice (some ⟨lb,lo,none⟩) n1 q1,v2,v3,.slice (some ⟨rb,ro,none⟩) n1 qr,su,ou,gu,pu,ct] 144)).alloc (.cells #[.int .i64 op,.int .i64 (kd:Int),.int .i64 (ka:Int),.int .i64 (kb:Int),.int .i64 (kk:Int),.int .i64 nn,.int .u32 bt] 45)).alloc (.cells #[.slice none 0 0,.int .i64 0] 109)).cell? ⟨w.heap.size,1,none⟩=some (.slice (some ⟨lb,lo,none⟩) n1 q1):=kc (A0 _ _) (kc (A0 _ _) sG);have b2:(((w.alloc (.cells #[v0,.slice (some ⟨lb,lo,none⟩) n1 q1,v2,v3,.slice (some ⟨rb,ro,none⟩) n1 qr,su,ou,gu,pu,ct] 144)).alloc (.cells #[.int .i64 op,.int .i64 (kd:Int),.int .i64 (ka:Int),.int .i64 (kb:Int),.int .i64 (kk:Int),.int .i64 nn,.int .u32 bt] 45)).alloc (.cells #[.slice none 0 0,.int .i64 0] 109)).cell? ⟨w.heap.size+1,1,none⟩=some (.int .i64 (kd:Int)):=kc (A0 _ _) sG;have b3:=kc hba z0;have b4:=kc hba z1;have HE:Hid (Pz w v0 (.slice (some ⟨lb,lo,none⟩) n1 q1) v2 v3 (.slice (some ⟨rb,ro,none⟩) n1 qr) op (kd:Int) (ka:Int) (kb:Int) (kk:Int) tk tp rb (ro+ka*2) (ro+kb*2) (ro+kk*2) (.slice xa.p LA xa.q) (.slice xb.p LB xb.q) (.slice xc.p LC xc.q) ((((w.alloc (.cells #[v0,.slice (some ⟨lb,lo,none⟩) n1 q1,v2,v3,.slice (some ⟨rb,ro,none⟩) n1 qr,su,ou,gu,pu,ct] 144)).alloc (.cells #[.int .i64 op,.int .i64 (kd:Int),.int .i64 (ka:Int),.int .i64 (kb:Int),.int .i64 (kk:Int),.int .i64 nn,.int .u32 bt] 45)).alloc (.cells #[.slice none 0 0,.int .i64 0] 109)).alloc (.cells #[.int .i64 tk,.int .i64 tp] 47))):=by
  have k4:=A0 (((w.alloc (.cells #[v0,.slice (some ⟨lb,lo,none⟩) n1 q1,v2,v3,.slice (some ⟨rb,ro,none⟩) n1 qr,su,ou,gu,pu,ct] 144)).alloc (.cells #[.int .i64 op,.int .i64 (kd:Int),.int .i64 (ka:Int),.int .i64 (kb:Int),.int .i64 (kk:Int),.int .i64 nn,.int .u32 bt] 45)).alloc (.cells #[.slice none 0 0,.int .i64 0] 109)) (.cells #[.int .i64 tk,.int .i64 tp] 47);have k3:=A0 ((w.alloc (.cells #[v0,.slice (some ⟨lb,lo,none⟩) n1 q1,v2,v3,.slice (some ⟨rb,ro,none⟩) n1 qr,su,ou,gu,pu,ct] 144)).alloc (.cells #[.int .i64 op,.int .i64 (kd:Int),.int .i64 (ka:Int),.int .i64 (kb:Int),.int .i64 (kk:Int),.int .i64 nn,.int .u32 bt] 45)) (.cells #[.slice none 0 0,.int .i64 0] 109);have k2:=A0 (w.alloc (.cells #[v0,.slice (some ⟨lb,lo,none⟩) n1 q1,v2,v3,.slice (some ⟨rb,ro,none⟩) n1 qr,su,ou,gu,pu,ct] 144)) (.cells #[.int .i64 op,.int .i64 (kd:Int),.int .i64 (ka:Int),.int .i64 (kb:Int),.int .i64 (kk:Int),.int .i64 nn,.int .u32 bt] 45);have hrr:=World.rowIs_alloc ((w.alloc (.cells #[v0,.slice (some ⟨lb,lo,none⟩) n1 q1,v2,v3,.slice (some ⟨rb,ro,none⟩) n1 qr,su,ou,gu,pu,ct] 144)).alloc (.cells #[.int .i64 op,.int .i64 (kd:Int),.int .i64 (ka:Int),.int .i64 (kb:Int),.int .i64 (kk:Int),.int .i64 nn,.int .u32 bt] 45)) #[.slice none 0 0,.int .i64 0] 109 Vv YN;rw[show((w.alloc (.cells #[v0,.slice (some ⟨lb,lo,none⟩) n1 q1,v2,v3,.slice (some ⟨rb,ro,none⟩) n1 qr,su,ou,gu,pu,ct] 144)).alloc (.cells #[.int .i64 op,.int .i64 (kd:Int),.int .i64 (ka:Int),.int .i64 (kb:Int),.int .i64 (kk:Int),.int .i64 nn,.int .u32 bt] 45)).heap.size=w.heap.size+1+1 by simp]at hrr;refine⟨bel hba k4,kc k4 (kc k3 (kc k2 ?_)),kc k4 (kc k3 (kc k2 ?_)),kc k4 (kc k3 (kc k2 ?_)),kc k4 (kc k3 (kc k2 ?_)),kc k4 (kc k3 (kc k2 ?_)),kc k4 (kc k3 ?_),kc k4 (kc k3 ?_),kc k4 (kc k3 ?_),kc k4 (kc k3 ?_),kc k4 (kc k3 ?_),kc k4 ?_,kc k4 ?_,hrr.alloc _,kf k4 (by simp[go_sem]:(((w.alloc (.cells #[v0,.slice (some ⟨lb,lo,none⟩) n1 q1,v2,v3,.slice (some ⟨rb,ro,none⟩) n1 qr,su,ou,gu,pu,ct] 144)).alloc (.cells #[.int .i64 op,.int .i64 (kd:Int),.int .i64 (ka:Int),.int .i64 (kb:Int),.int .i64 (kk:Int),.int .i64 nn,.int .u32 bt] 45)).alloc (.cells #[.slice none 0 0,.int .i64 0] 109)).cell? ⟨w.heap.size+1+1,0,none⟩=some (.slice none 0 0)) sG,kf k4 (by simp[go_sem]:(((w.alloc (.cells #[v0,.slice (some ⟨lb,lo,none⟩) n1 q1,v2,v3,.slice (some ⟨rb,ro,none⟩) n1 qr,su,ou,gu,pu,ct] 144)).alloc (.cells #[.int .i64 op,.int .i64 (kd:Int),.int .i64 (ka:Int),.int .i64 (kb:Int),.int .i64 (kk:Int),.int .i64 nn,.int .u32 bt] 45)).alloc (.cells #[.slice none 0 0,.int .i64 0] 109)).cell? ⟨w.heap.size+1+1,1,none⟩=some (.int .i64 0)) sG,?_,?_,kc (bel hba k4) y0,kc (bel hba k4) y1,kc (bel hba k4) y2⟩
  all_goals simp[go_sem]
 obtain⟨-,a0,a1,a2,a3,a4,i0,i1,i2,i3,i4,r0,r1,-,f0,f1,t0,t1,x0,x1,x2⟩:=HE.out;have d1:(0:Int)<=(kd:Int):=oM;have d2:(kd:Int)<(n1:Int):=oM;have d3:(ka:Int)<(n1:Int):=oM;have d4:(kb:Int)<(n1:Int):=oM;have d5:(kk:Int)<(n1:Int):=oM;have h2b:(tk==2)=false:=by simpa using h2
 have HKW:Hid (∀v,Below w.heap.size w v->Calls prog 74 #[.agg #[v0,.slice (some ⟨lb,lo,none⟩) n1 q1,v2,v3],.agg #[.int .i64 tk,.int .i64 tp]] v fun e w'=>e=.returned (.int .i64 (Wd:Int))/\Below v.heap.size v w'):=fun v hb=>KW v (by have h9:=hv.below hb;rw[hn1']at h9;exact h9);have HKA:Hid _:=KA;have HNA:Hid (Cs w xa.p xa.h.pats/\Cs w xb.p xb.h.pats/\Cs w xc.p xc.h.pats):=⟨na,nb,nc⟩
 have HLN:Hid (xa.h.pats.length=LA/\xb.h.pats.length=LB/\xc.h.pats.length=LC):=⟨hLA,hLB,hLC⟩
 have HTK:Hid (∀v,Calls prog 119 #[.int .i64 op] v fun e w'=>e=.returned (.int .i64 (m:Int))/\w'=v):=fun v=>by rw[<-hm];exact Lg op v
 have hm3:m<=3:=by rw[<-hm];exact Lx op
 clear KW KA hreg hca hcb hcc hcs hv hg hP hL hT hX h2 ht hs hm hRR hxa hxb hxc hWd hWi na nb nc hLA hLB hLC hn1' y0 y1 y2 z0 z1;go_enter func98,ntmps98;go_wp2;refine rG (fun v=>v.cell? ⟨w.heap.size,4,none⟩=some (.slice (some ⟨rb,ro,none⟩) n1 qr)/\v.cell? ⟨w.heap.size+1,2,none⟩=some (.int .i64 (ka:Int))/\v.cell? ⟨w.heap.size+1,3,none⟩=some (.int .i64 (kb:Int))/\v.cell? ⟨w.heap.size+1,4,none⟩=some (.int .i64 (kk:Int))/\v.cell? ⟨rb,ro+ka*2,none⟩=some (.slice xa.p LA xa.q)/\v.cell? ⟨rb,ro+kb*2,none⟩=some (.slice xb.p LB xb.q)/\v.cell? ⟨rb,ro+kk*2,none⟩=some (.slice xc.p LC xc.q)) fun yH=>?_;refine Tf 0 1 2 3 4 5 ?_;refine Tf 6 7 8 9 10 11 ?_;refine Tf 12 13 14 15 16 17 ?_;refine Tc 18 19 20 ?_;clear yH;refine AJ 21 fun K hK=>?_;go_simp;refine AF hK fun yH=>?_;clear hK K;refine BU 22 ?_;refine wpAnyH_done kR ?_ _;have HE2:Hid (Pz w v0 (.slice (some ⟨lb,lo,none⟩) n1 q1) v2 v3 (.slice (some ⟨rb,ro,none⟩) n1 qr) op (kd:Int) (ka:Int) (kb:Int) (kk:Int) tk tp rb (ro+ka*2) (ro+kb*2) (ro+kk*2) (.slice xa.p LA xa.q) (.slice xb.p LB xb.q) (.slice xc.p LC xc.q) ((((((w.alloc (.cells #[v0,.slice (some ⟨lb,lo,none⟩) n1 q1,v2,v3,.slice (some ⟨rb,ro,none⟩) n1 qr,su,ou,gu,pu,ct] 144)).alloc (.cells #[.int .i64 op,.int .i64 (kd:Int),.int .i64 (ka:Int),.int .i64 (kb:Int),.int .i64 (kk:Int),.int .i64 nn,.int .u32 bt] 45)).alloc (.cells #[.slice none 0 0,.int .i64 0] 109)).alloc (.cells #[.int .i64 tk,.int .i64 tp] 47)).alloc (.cells #[.slice xa.p LA xa.q,.slice xb.p LB xb.q,.slice xc.p LC xc.q] 87)).drew)):=(HE.next (A0 _ _)).next (A7 _);have HG:Hid (((((((w.alloc (.cells #[v0,.slice (some ⟨lb,lo,none⟩) n1 q1,v2,v3,.slice (some ⟨rb,ro,none⟩) n1 qr,su,ou,gu,pu,ct] 144)).alloc (.cells #[.int .i64 op,.int .i64 (kd:Int),.int .i64 (ka:Int),.int .i64 (kb:Int),.int .i64 (kk:Int),.int .i64 nn,.int .u32 bt] 45)).alloc (.cells #[.slice none 0 0,.int .i64 0] 109)).alloc (.cells #[.int .i64 tk,.int .i64 tp] 47)).alloc (.cells #[.slice xa.p LA xa.q,.slice xb.p LB xb.q,.slice xc.p LC xc.q] 87)).drew).cell? ⟨w.heap.size+1+1+1+1,0,none⟩=some (.slice xa.p LA xa.q)/\((((((w.alloc (.cells #[v0,.slice (some ⟨lb,lo,none⟩) n1 q1,v2,v3,.slice (some ⟨rb,ro,none⟩) n1 qr,su,ou,gu,pu,ct] 144)).alloc (.cells #[.int .i64 op,.int .i64 (kd:Int),.int .i64 (ka:Int),.int .i64 (kb:Int),.int .i64 (kk:Int),.int .i64 nn,.int .u32 bt] 45)).alloc (.cells #[.slice none 0 0,.int .i64 0] 109)).alloc (.cells #[.int .i64 tk,.int .i64 tp] 47)).alloc (.cells #[.slice xa.p LA xa.q,.slice xb.p LB xb.q,.slice xc.p LC xc.q] 87)).drew).cell? ⟨w.heap.size+1+1+1+1,1,none⟩=some (.slice xb.p LB xb.q)/\((((((w.alloc (.cells #[v0,.slice (some ⟨lb,lo,none⟩) n1 q1,v2,v3,.slice (some ⟨rb,ro,none⟩) n1 qr,su,ou,gu,pu,ct] 144)).alloc (.cells #[.int .i64 op,.int .i64 (kd:Int),.int .i64 (ka:Int),.int .i64 (kb:Int),.int .i64 (kk:Int),.int .i64 nn,.int .u32 bt] 45)).alloc (.cells #[.slice none 0 0,.int .i64 0] 109)).alloc (.cells #[.int .i64 tk,.int .i64 tp] 47)).alloc (.cells #[.slice xa.p LA xa.q,.slice xb.p LB xb.q,.slice xc.p LC xc.q] 87)).drew).cell? ⟨w.heap.size+1+1+1+1,2,none⟩=some (.slice xc.p LC xc.q)):=⟨sG,sG,sG⟩
 obtain⟨W2,hW2⟩:∃W,(((((w.alloc (.cells #[v0,.slice (some ⟨lb,lo,none⟩) n1 q1,v2,v3,.slice (some ⟨rb,ro,none⟩) n1 qr,su,ou,gu,pu,ct] 144)).alloc (.cells #[.int .i64 op,.int .i64 (kd:Int),.int .i64 (ka:Int),.int .i64 (kb:Int),.int .i64 (kk:Int),.int .i64 nn,.int .u32 bt] 45)).alloc (.cells #[.slice none 0 0,.int .i64 0] 109)).alloc (.cells #[.int .i64 tk,.int .i64 tp] 47)).alloc (.cells #[.slice xa.p LA xa.q,.slice xb.p LB xb.q,.slice xc.p LC xc.q] 87)).drew=W:=⟨_,rfl⟩
 rw[hW2]at HE2 HG;rw[hW2];clear a0 a1 a2 a3 a4 i0 i1 i2 i3 i4 r0 r1 f0 f1 t0 t1 x0 x1 x2;clear hW2 HE b1 b2 b3 b4 hba;obtain⟨-,a0,a1,a2,a3,a4,i0,i1,i2,i3,i4,r0,r1,-,f0,f1,t0,t1,x0,x1,x2⟩:=HE2.out;have HGD:Hid (W2.drew.cell? ⟨w.heap.size+1+1+1+1,0,none⟩=some (.slice xa.p LA xa.q)/\W2.drew.cell? ⟨w.heap.size+1+1+1+1,1,none⟩=some (.slice xb.p LB xb.q)/\W2.drew.cell? ⟨w.heap.size+1+1+1+1,2,none⟩=some (.slice xc.p LC xc.q)):=HG.out;have s1:=fun w9=>FD und_LL ZX (some ⟨w.heap.size+1+1+1+1,0,none⟩) 3 3 m oM w9;go_wp2;refine rG (fun v=>v.cell? ⟨w.heap.size+1,0,none⟩=some (.int .i64 op)) fun yH=>?_;refine Tc 0 1 2 ?_;refine Tb 3 4 ?_;clear yH;refine AJ 5 fun K hK=>?_;go_simp;(go_at_call 119;(with_reducible refine(HTK.out _).mono ?_);rintro e w3 ⟨rfl,rfl⟩);try(go_wp2_with fail)
 refine AF hK fun yH=>?_;clear hK K;refine BU 6 ?_;clear yH;refine AJ 7 fun K hK=>?_;go_simp;(go_at_call 118;(with_reducible refine(HKA.out (w.heap.size+1+1+1+1) W2.drew HGD.out.1 HGD.out.2.1 HGD.out.2.2 (HNA.out.1.below (bel HE2.out.bel (A7 _))) (HNA.out.2.1.below (bel HE2.out.bel (A7 _))) (HNA.out.2.2.below (bel HE2.out.bel (A7 _)))).mono ?_);rintro e w4 ⟨ql,cl,rfl,hnl,hln,hRP,hb4,hlo4⟩;have HLO4:Hid (∀b o s,ql=some ⟨b,o,s⟩->W2.drew.heap.size<=b):=hlo4;have HNL:Hid (Cs w4 ql RR):=hnl;have HLR:Hid (RR.length=n):=hln;have HRP:Hid (∀y∈RR,AB y):=hRP;have HE4:Hid (Pz w v0 (.slice (some ⟨lb,lo,none⟩) n1 q1) v2 v3 (.slice (some ⟨rb,ro,none⟩) n1 qr) op (kd:Int) (ka:Int) (kb:Int) (kk:Int) tk tp rb (ro+ka*2) (ro+kb*2) (ro+kk*2) (.slice xa.p LA xa.q) (.slice xb.p LB xb.q) (.slice xc.p LC xc.q) w4):=HE2.out.next (bel (A7 _) hb4);clear hnl hln hRP hb4 hlo4 a0 a1 a2 a3 a4 i0 i1 i2 i3 i4 r0 r1 f0 f1 t0 t1 x0 x1 x2;obtain⟨-,a0,a1,a2,a3,a4,i0,i1,i2,i3,i4,r0,r1,-,f0,f1,t0,t1,x0,x1,x2⟩:=HE4.out);try(go_wp2_with fail)
 refine AF hK fun yH=>?_;clear hK K;refine Tc 8 9 10 ?_;refine Tb 11 12 ?_;refine wpAnyH_done kR ?_ _;by_cases h1:n=1
 .have h1b:((n:Int)==1)=true:=by simp[h1]
  have hrl:RR.length=1:=by rw[HLR.out];exact h1
  have he:UQ Wd RR=List.replicate Wd (Ae (Cy RR 0)):=by
   unfold UQ;rw[if_pos hrl];cases hR9:RR with
   |nil=>rw[hR9]at hrl;simp at hrl
   |cons a r=>rfl
  have HEL:Hid (UQ Wd RR=List.replicate Wd (Ae (Cy RR 0))):=he;have hx9:∃bq oq,ql=some ⟨bq,oq,none⟩/\w4.cell? ⟨bq,oq,none⟩=some (.int .i64 (Cy RR 0)):=by
   rcases HNL.out with e|⟨bq,oq,e,hc9⟩
   .omega
   .exact⟨bq,oq,e,hc9 0 oM⟩
  obtain⟨bq,oq,rfl,hl0⟩:=hx9;have hPz:AB (Cy RR 0):=Cw HRP.out 0;have KF:=IX Wd (Cy RR 0) hPz oM;obtain⟨z9,hz9⟩:∃z,Cy RR 0=z:=⟨_,rfl⟩
  rw[hz9]at hl0 KF;have HZ9:Hid (Cy RR 0=z9):=hz9;have HKF:Hid (∀v,Calls prog 73 #[.int .i64 (Wd:Int),.int .i64 z9] v fun e w'=>∃q cap,e=.returned (.tuple #[.slice q Wd cap,.int .i64 0])/\Bh w' q Wd (fun i=>.int .i64 (Ae z9))/\Below v.heap.size v w'/\∀b o s,q=some ⟨b,o,s⟩->v.heap.size<=b):=KF;have hn0:(0:Int)<(n:Int):=oM;clear he hrl KF hz9 hPz;go_wp2;refine rG (fun v=>v.cell? ⟨w.heap.size,0,none⟩=some v0/\v.cell? ⟨w.heap.size,1,none⟩=some (.slice (some ⟨lb,lo,none⟩) n1 q1)/\v.cell? ⟨w.heap.size,2,none⟩=some v2/\v.cell? ⟨w.heap.size,3,none⟩=some v3/\v.cell? ⟨w.heap.size+1+1+1,0,none⟩=some (.int .i64 tk)/\v.cell? ⟨w.heap.size+1+1+1,1,none⟩=some (.int .i64 tp)/\v.cell? ⟨bq,oq,none⟩=some (.int .i64 z9)) fun yH=>?_;refine Tf 0 1 2 4 5 6 ?_;clear yH;refine AJ 3 fun K hK=>?_;go_simp;(go_at_call 74;(with_reducible refine(HKW.out _ (bel HE4.out.bel (A7 _))).mono ?_);rintro e w5 ⟨rfl,hb5⟩;have HB5:Hid (Below w4.heap.size w4 w5):=bel (A7 _) hb5;clear hb5 a0 a1 a2 a3 a4 i0 i1 i2 i3 i4 r0 r1 f0 f1 t0 t1 x0 x1 x2;obtain⟨-,a0,a1,a2,a3,a4,i0,i1,i2,i3,i4,r0,r1,-,f0,f1,t0,t1,x0,x1,x2⟩:=HE4.out.next HB5.out;have hl5:=kc HB5.out hl0);try(go_wp2_with fail)
  refine AF hK fun yH=>?_;clear hK K;clear yH;refine AJ 7 fun K hK=>?_;go_simp;(go_at_call 73;(with_reducible refine(HKF.out _).mono ?_);rintro e w6 ⟨pf,qf,rfl,hrf,hb6,hfr⟩;have HE6:Hid (Pz w v0 (.slice (some ⟨lb,lo,none⟩) n1 q1) v2 v3 (.slice (some ⟨rb,ro,none⟩) n1 qr) op (kd:Int) (ka:Int) (kb:Int) (kk:Int) tk tp rb (ro+ka*2) (ro+kb*2) (ro+kk*2) (.slice xa.p LA xa.q) (.slice xb.p LB xb.q) (.slice xc.p LC xc.q) w6):=(HE4.out.next HB5.out).next hb6;have HRF:Hid (Bh w6 pf Wd (fun i=>.int .i64 (Ae z9))):=hrf;have HFR:Hid (∀b o s,pf=some ⟨b,o,s⟩->w5.heap.size<=b):=hfr;have HS5:Hid (w.heap.size+1+1<w5.heap.size):=A6 r0;have hl6:=kc hb6 hl5;clear hb6 hrf hfr a0 a1 a2 a3 a4 i0 i1 i2 i3 i4 r0 r1 f0 f1 t0 t1 x0 x1 x2;obtain⟨-,a0,a1,a2,a3,a4,i0,i1,i2,i3,i4,r0,r1,-,f0,f1,t0,t1,x0,x1,x2⟩:=HE6.out);try(go_wp2_with fail)
  refine AF hK fun yH=>?_;clear hK K;refine Tc 8 9 10 ?_;refine BU 11 ?_;refine wpAnyH_done kR ?_ _;go_wp2;refine bodyPost_ret Zgr rfl ?_;have hbF:Below w.heap.size w ((w6.setCell ⟨w.heap.size+1+1,0,none⟩ (.slice pf Wd qf)).setCell ⟨w.heap.size+1+1,1,none⟩ (.int .i64 0)):=(HE6.bel.setCell Zgb _).setCell Zgb _;rw[HEL.out,HZ9.out];refine⟨pf,qf,by rw[List.length_replicate],?_,hbF,fun b o s e=>by have h3:=HFR.out b o s e;have h4:=HS5.out;omega⟩;show Bh _ _ _ _;rw[List.length_replicate];rcases HRF.out with h9|⟨b,o,rfl,h8⟩
  .exact .inl h9
  .refine .inr ⟨b,o,rfl,fun j hj=>?_⟩;have hne:b≠w.heap.size+1+1:=by have h3:=HFR.out b o none rfl;have h4:=HS5.out;omega
   rw[gC (gE hne),gC (gE hne),h8 j hj];simp only;rw[JF _ _ hj]
 .have h1b:((n:Int)==1)=false:=by have:(n:Int)≠1:=oM;simpa using this
  have HEL:Hid (UQ Wd RR=RR):=by show _=_;unfold UQ;rw[if_neg (by rw[HLR.out];exact h1)]
  have HH1:Hid (n≠1):=h1;clear h1;go_wp2;refine bodyPost_ret Zgr rfl ?_;have hbF:Below w.heap.size w ((w4.setCell ⟨w.heap.size+1+1,0,none⟩ (.slice ql n cl)).setCell ⟨w.heap.size+1+1,1,none⟩ (.int .i64 0)):=(HE4.bel.setCell Zgb _).setCell Zgb _;rw[HEL.out,HLR.out];refine⟨ql,cl,rfl,?_,hbF,fun b o s e=>by have h3:=HLO4.out b o s e;have h4:=HE2.bel.size;have h5:W2.drew.heap.size=W2.heap.size:=rfl;omega⟩;have h2l:2<=RR.length:=by rw[HLR.out];have:=HH1.out;omega
  have hne9:=num_ne HE4.rr HNL.out h2l;rcases HNL.out with h9|⟨b,o,rfl,h8⟩
  .exact .inl h9
  .refine .inr ⟨b,o,rfl,fun j hj=>?_⟩;have hne:b≠w.heap.size+1+1:=hne9 b o rfl;rw[gC (gE hne),gC (gE hne),h8 j hj]
def T2(w:World)(T:Nat->Prop)(b:Nat):Prop:=T b\/(w.heap.size<=b/\b<=w.heap.size+1+1+1)
theorem DV{w:World}{T:Nat->Prop}(hT:∀b,T b->b<w.heap.size){b:Nat}(h:T2 w T b){v:World}(hv:w.heap.size+1+1+1<v.heap.size):b<v.heap.size:=by
 rcases h with h|h
 .have:=hT b h;omega
 .omega
theorem t2_cs{T:Nat->Prop}{w v:World}{u:Value}{X:List Cl}(h:AV T w u X)(k:Below w.heap.size w v):AV (T2 w T) v u X:=(h.mono fun b hb e=>e.elim id fun e=>by omega).below k
theorem NS{T:Nat->Prop}{w v:World}{p:Option Addr}{l:List Int}(h:Bf T w p l)(k:Below w.heap.size w v):Bf (T2 w T) v p l:=(h.mono fun b hb e=>e.elim id fun e=>by omega).below k
theorem Cj{T:Nat->Prop}(ru:Value)(X:List Cl){NN:Nat}(hN:X.length=NN)(hX:NN<=16384)(kd:Nat)(hd:kd<NN)(w:World)(hT:∀b,T b->b<w.heap.size)(hcs:AV T w ru X):∀v F I D (x:Cl),DW w F I D v->Bf (T2 w T) v x.p x.h.pats->Calls prog 106 #[ru,.int .i64 (kd:Int),.agg #[.slice x.p x.h.pats.length x.q,.int .i64 x.h.whole]] v fun e w'=>∃p q,e=.returned (.slice p NN q)/\AV (T2 w T) w' (.slice p NN q) (X.set kd x)/\Below v.heap.size v w':=
 fun v F I D x h hx=>by subst hN;exact rput_T ru X hX kd hd x v (fun b hb=>DV hT hb h.size) (t2_cs hcs h.bel) hx
structure DE(w:World)(a0 a1 a2 a3 a4 a5 a6 a7 a8 a9:Value)(v:World):Prop where
 bel:Below w.heap.size w v
 c0:v.cell? ⟨w.heap.size,0,none⟩=some a0
 c1:v.cell? ⟨w.heap.size,1,none⟩=some a1
 c2:v.cell? ⟨w.heap.size,2,none⟩=some a2
 c3:v.cell? ⟨w.heap.size,3,none⟩=some a3
 c4:v.cell? ⟨w.heap.size,4,none⟩=some a4
 c5:v.cell? ⟨w.heap.size,5,none⟩=some a5
 c6:v.cell? ⟨w.heap.size,6,none⟩=some a6
 c7:v.cell? ⟨w.heap.size,7,none⟩=some a7
 c8:v.cell? ⟨w.heap.size,8,none⟩=some a8
 c9:v.cell? ⟨w.heap.size,9,none⟩=some a9
 r0:v.cell? ⟨w.heap.size+1+1,0,none⟩=some (.slice none 0 0)
 r1:v.cell? ⟨w.heap.size+1+1,1,none⟩=some (.slice none 0 0)
 r2:v.cell? ⟨w.heap.size+1+1,2,none⟩=some (.slice none 0 0)
 r3:v.cell? ⟨w.heap.size+1+1,3,none⟩=some (.slice none 0 0)
 r4:v.cell? ⟨w.heap.size+1+1,4,none⟩=some (.slice none 0 0)
 r5:v.cell? ⟨w.heap.size+1+1,5,none⟩=some (.slice none 0 0)
 r6:v.cell? ⟨w.heap.size+1+1,6,none⟩=some (.slice none 0 0)
 r7:v.cell? ⟨w.heap.size+1+1,7,none⟩=some (.slice none 0 0)
 r8:v.cell? ⟨w.heap.size+1+1,8,none⟩=some (.slice none 0 0)
 r9:v.cell? ⟨w.heap.size+1+1,9,none⟩=some (.int .i64 0)
 y0:v.frozen? ⟨w.heap.size+1+1,0,none⟩=false
 y1:v.frozen? ⟨w.heap.size+1+1,1,none⟩=false
 y2:v.frozen? ⟨w.heap.size+1+1,2,none⟩=false
 y3:v.frozen? ⟨w.heap.size+1+1,3,none⟩=false
 y4:v.frozen? ⟨w.heap.size+1+1,4,none⟩=false
 y5:v.frozen? ⟨w.heap.size+1+1,5,none⟩=false
 y6:v.frozen? ⟨w.heap.size+1+1,6,none⟩=false
 y7:v.frozen? ⟨w.heap.size+1+1,7,none⟩=false
 y8:v.frozen? ⟨w.heap.size+1+1,8,none⟩=false
 y9:v.frozen? ⟨w.heap.size+1+1,9,none⟩=false
theorem DE.of{w:World}{a0 a1 a2 a3 a4 a5 a6 a7 a8 a9:Value}{v:World}(b:Below w.heap.size w v)(f:v.rowIs w.heap.size 144 10 (DC a0 a1 a2 a3 a4 a5 a6 a7 a8 a9))(r:v.rowIs (w.heap.size+1+1) 144 10 (DC (.slice none 0 0) (.slice none 0 0) (.slice none 0 0) (.slice none 0 0) (.slice none 0 0) (.slice none 0 0) (.slice none 0 0) (.slice none 0 0) (.slice none 0 0) (.int .i64 0))):DE w a0 a1 a2 a3 a4 a5 a6 a7 a8 a9 v:=
 ⟨b,f.cell (i:=0) dE,f.cell (i:=1) dE,f.cell (i:=2) dE,f.cell (i:=3) dE,f.cell (i:=4) dE,f.cell (i:=5) dE,f.cell (i:=6) dE,f.cell (i:=7) dE,f.cell (i:=8) dE,f.cell (i:=9) dE,r.cell (i:=0) dE,r.cell (i:=1) dE,r.cell (i:=2) dE,r.cell (i:=3) dE,r.cell (i:=4) dE,r.cell (i:=5) dE,r.cell (i:=6) dE,r.cell (i:=7) dE,r.cell (i:=8) dE,r.cell (i:=9) dE,r.frozen 0,r.frozen 1,r.frozen 2,r.frozen 3,r.frozen 4,r.frozen 5,r.frozen 6,r.frozen 7,r.frozen 8,r.frozen 9⟩
theorem AO{v:World}{a b:Addr}{x:Value}(h:v.cell? a=some x)(hne:¬a.block=b.block)(u:Value):(v.setCell b u).cell? a=some x:=by
 rw[gC (gE hne)];exact h
theorem RT{T:Nat->Prop}{w W:World}(hT2:∀v:World,w.heap.size+1+1+1<v.heap.size->∀b,T2 w T b->b<v.heap.size)(hsz:w.heap.size+1+1+1<W.heap.size)(x:Int){t:TypeId}{u:Value}:Bf (T2 w T) ((W.setCell ⟨w.heap.size+1+1+1,0,none⟩ u).alloc (.cells #[.int .i64 x] t)) (some ⟨W.heap.size,0,none⟩) [x]:=by
 refine .inr ⟨W.heap.size,0,rfl,fun k=>by have:=hT2 W hsz _ k;omega,sM,fun j hj=>?_⟩;have hj0:j=0:=by have:j<1:=hj;omega
 subst hj0;have h1:(W.setCell ⟨w.heap.size+1+1+1,0,none⟩ u).heap.size=W.heap.size:=sM;have h2:=heap_alloc_new (W.setCell ⟨w.heap.size+1+1+1,0,none⟩ u) (.cells #[.int .i64 x] t);rw[h1]at h2;unfold World.cell?;simp only[h2];rfl
theorem Ky{T:Nat->Prop}{w W:World}(hT2:∀v:World,w.heap.size+1+1+1<v.heap.size->∀b,T2 w T b->b<v.heap.size)(hsz:w.heap.size+1+1+1<W.heap.size)(x:Int){t:TypeId}{u:Value}:Bf (T2 w T) ((W.alloc (.cells #[.int .i64 x] t)).setCell ⟨w.heap.size+1+1+1,0,none⟩ u) (some ⟨W.heap.size,0,none⟩) [x]:=by
 refine .inr ⟨W.heap.size,0,rfl,fun k=>by have:=hT2 W hsz _ k;omega,sM,fun j hj=>?_⟩;have hj0:j=0:=by have:j<1:=hj;omega
 subst hj0;rw[gC (gE (by show W.heap.size≠w.heap.size+1+1+1;omega))];simp[go_sem,Cy]
theorem Ii{T:Nat->Prop}{w v:World}{p:Option Addr}{l:List Int}(h:Bf (T2 w T) v p l)(i:Nat)(x:Value):Bf (T2 w T) (v.setCell ⟨w.heap.size+1+1+1,i,none⟩ x) p l:=
 h.un ((Un.refl (fun b=>b=w.heap.size+1+1+1) v).setCell rF _) fun b _ e=>.inr ⟨oM,oM⟩
theorem Gp{T:Nat->Prop}{w:World}{a0 a1 a2 a3 a4 a5 a6 a7 a8 a9 u:Value}{I D:Nat->Value}{v:World}{Y:List Cl}(h:DW w (DC a0 a1 a2 a3 a4 a5 a6 a7 a8 a9) I D v)(k:AV (T2 w T) v u Y):DE w a0 a1 a2 a3 u a5 a6 a7 a8 a9 (v.setCell ⟨w.heap.size,4,none⟩ u)/\AV (T2 w T) (v.setCell ⟨w.heap.size,4,none⟩ u) u Y:=by
 have hu:Un (fun b=>b=w.heap.size) v (v.setCell ⟨w.heap.size,4,none⟩ u):=(Un.refl _ _).setCell Zhh _;refine⟨DE.of (h.bel.setCell Zhd _) ((h.f.set 4 u).congr fun j hj=>?_) (h.r.setOther Zha _),k.un hu fun b _ e=>.inr ⟨oM,oM⟩⟩;exact Zda
theorem Th{T:Nat->Prop}{w:World}{a0 a1 a2 a3 a4 a5 a6 a7 a8 a9 u:Value}{I D:Nat->Value}{v:World}{Y:List Cl}(h:DW w (DC a0 a1 a2 a3 a4 a5 a6 a7 a8 a9) I D v)(k:AV (T2 w T) v u Y):DE w a0 a1 a2 a3 a4 u a6 a7 a8 a9 (v.setCell ⟨w.heap.size,5,none⟩ u)/\AV (T2 w T) (v.setCell ⟨w.heap.size,5,none⟩ u) u Y:=by
 have hu:Un (fun b=>b=w.heap.size) v (v.setCell ⟨w.heap.size,5,none⟩ u):=(Un.refl _ _).setCell Zhh _;refine⟨DE.of (h.bel.setCell Zhd _) ((h.f.set 5 u).congr fun j hj=>?_) (h.r.setOther Zha _),k.un hu fun b _ e=>.inr ⟨oM,oM⟩⟩;exact Zda
theorem Tg{T:Nat->Prop}{w:World}{a0 a1 a2 a3 a4 a5 a6 a7 a8 a9 u:Value}{I D:Nat->Value}{v:World}{Y:List Cl}(h:DW w (DC a0 a1 a2 a3 a4 a5 a6 a7 a8 a9) I D v)(k:IJ (T2 w T) v u Y):DE w a0 a1 a2 a3 a4 a5 u a7 a8 a9 (v.setCell ⟨w.heap.size,6,none⟩ u)/\IJ (T2 w T) (v.setCell ⟨w.heap.size,6,none⟩ u) u Y:=by
 have hu:Un (fun b=>b=w.heap.size) v (v.setCell ⟨w.heap.size,6,none⟩ u):=(Un.refl _ _).setCell Zhh _;refine⟨DE.of (h.bel.setCell Zhd _) ((h.f.set 6 u).congr fun j hj=>?_) (h.r.setOther Zha _),k.un hu fun b _ e=>.inr ⟨oM,oM⟩⟩;exact Zda
theorem M8(x:Cl):∀ (X:List Cl) (d:Nat),d<X.length->(AG UR X).set d (.slice x.p x.h.pats.length x.q)=AG UR (X.set d x)
 |[],d,h=>by simp at h
 |y::X,0,h=>rfl
 |y::X,d+1,h=>by
  have ih:=M8 x X d Yd;have e:AG UR (y::X)=.slice y.p y.h.pats.length y.q::AG UR X:=rfl;rw[e,List.set_cons_succ,ih];rfl
theorem Zz{T:Nat->Prop}{W:World}{O:List Cl}{M:Nat}(hM:O.length=M)(hl:M<=16384){p:Option Addr}{q:Nat}(h:IJ T W (.slice p M q) O)(hT:∀b,T b->b<W.heap.size)(ix:Nat)(hix:ix<M):
 ∃g cap w1,(Builtin.append_ #[142,142] 142 #[.slice none 0 0,.slice p M q]).run prog W=.ok (.slice (some ⟨g,0,none⟩) M cap) w1/\Below W.heap.size W w1/\(∃z,w1.cell? ⟨g,ix,none⟩=some z)/\w1.frozen? ⟨g,ix,none⟩=false/\W.heap.size<=g/\∀x:Cl,Bf T W x.p x.h.pats->IJ T (w1.setCell ⟨g,ix,none⟩ (.slice x.p x.h.pats.length x.q)) (.slice (some ⟨g,0,none⟩) M cap) (O.set ix x):=by
 subst hM;obtain⟨i0,hi0,hz0,hz1,hz2⟩:=info_parts Mf;obtain⟨u,w',hr,hb,hown⟩:=Fm dE JR Zx underlying142 hi0 hz0 hz1 hz2 rfl h.row.row mL oM 142;obtain⟨g,cap,rfl,hg,hgl⟩:=hown.form oM;have hfl:(AG UR O).length=O.length*1:=Ef JR O;refine⟨g,cap,w',hr,hb,⟨(AG UR O)[ix]'oM,?_⟩,hown.frozenAt ix,hg,fun x hx=>?_⟩
 .rw[hown.cellAt ix oM,gB]
 .have s1:=(hown.stored ix (.slice x.p x.h.pats.length x.q)).1;rw[M8 x O ix hix]at s1;have hbF:Below W.heap.size W (w'.setCell ⟨g,ix,none⟩ (.slice x.p x.h.pats.length x.q)):=hb.setCell hg _;refine⟨Il JR (by rw[List.length_set];exact s1) hT,fun y hy=>?_⟩;rcases List.mem_or_eq_of_mem_set hy with e|rfl
  .exact(h.nums y e).below hbF
  .exact hx.below hbF
abbrev NM(v:World)(b:Nat)(b0 b1 b2 b3 b4 b5 b6 b7 b8 b9:Value):World:=(((((((((v.setCell ⟨b,0,none⟩ b0).setCell ⟨b,1,none⟩ b1).setCell ⟨b,2,none⟩ b2).setCell ⟨b,3,none⟩ b3).setCell ⟨b,4,none⟩ b4).setCell ⟨b,5,none⟩ b5).setCell ⟨b,6,none⟩ b6).setCell ⟨b,7,none⟩ b7).setCell ⟨b,8,none⟩ b8).setCell ⟨b,9,none⟩ b9
theorem JU(v:World)(b:Nat)(b0 b1 b2 b3 b4 b5 b6 b7 b8 b9:Value):Un (fun x=>x=b) v (NM v b b0 b1 b2 b3 b4 b5 b6 b7 b8 b9):=
 ((((((((((Un.refl _ _).setCell rF _).setCell rF _).setCell rF _).setCell rF _).setCell rF _).setCell rF _).setCell rF _).setCell rF _).setCell rF _).setCell rF _
theorem K6{w:World}{a0 a1 a2 a3 a4 a5 a6 a7 a8 a9:Value}{v:World}(h:DE w a0 a1 a2 a3 a4 a5 a6 a7 a8 a9 v){b0 b1 b2 b3 b4 b5 b6 b7 b8 b9:Value}:Below w.heap.size w (NM v (w.heap.size+1+1) b0 b1 b2 b3 b4 b5 b6 b7 b8 b9):=by
 have:=JU v (w.heap.size+1+1) b0 b1 b2 b3 b4 b5 b6 b7 b8 b9;exact(Un.trans (Un.mono (T:=fun b=>b=w.heap.size+1+1) (U:=fun _=>False) ⟨h.bel.os,h.bel.tape,h.bel.output,h.bel.size,fun b hb _=>h.bel.block b hb⟩ fun _ e=>e.elim) this).below (gF _) fun b e=>by omega
theorem Nc{T:Nat->Prop}{w:World}{a0 a1 a2 a3 a4 a5 a6 a7 a8 a9 u:Value}{v:World}{Y:List Cl}(h:DE w a0 a1 a2 a3 a4 a5 a6 a7 a8 a9 v)(k:AV (T2 w T) v u Y){b0 b1 b2 b3 b4 b5 b6 b7 b8 b9:Value}:AV T (NM v (w.heap.size+1+1) b0 b1 b2 b3 b4 b5 b6 b7 b8 b9) u Y/\Below w.heap.size w (NM v (w.heap.size+1+1) b0 b1 b2 b3 b4 b5 b6 b7 b8 b9):=
 ⟨(k.un (JU v _ _ _ _ _ _ _ _ _ _ _) fun b _ e=>.inr ⟨oM,oM⟩).mono fun b _ e=>.inl e,K6 h⟩
theorem YH{T:Nat->Prop}{w:World}{a0 a1 a2 a3 a4 a5 a6 a7 a8 a9 u:Value}{v:World}{Y:List Cl}(h:DE w a0 a1 a2 a3 a4 a5 a6 a7 a8 a9 v)(k:IJ (T2 w T) v u Y){b0 b1 b2 b3 b4 b5 b6 b7 b8 b9:Value}:IJ T (NM v (w.heap.size+1+1) b0 b1 b2 b3 b4 b5 b6 b7 b8 b9) u Y/\Below w.heap.size w (NM v (w.heap.size+1+1) b0 b1 b2 b3 b4 b5 b6 b7 b8 b9):=
 ⟨(k.un (JU v _ _ _ _ _ _ _ _ _ _ _) fun b _ e=>.inr ⟨oM,oM⟩).mono fun b _ e=>.inl e,K6 h⟩
theorem JE(c:Cd)(hg:By c)(v0 v1 v2 v3 ru su ou gu pu ct:Value)(X:List Cl)(hX:X.length=c.regs.length)(op nn bt:Int)(B C:Value)(kd ka:Nat)(hd:kd<c.regs.length)(ha:ka<X.length)(h2:c.regs[kd].kind=2)(w:World)(hv:Dk w v0 v1 v2 v3 c)(hcs:UT w ru X):
 Calls prog 98 #[.agg #[v0,v1,v2,v3,ru,su,ou,gu,pu,ct],.agg #[.int .i64 op,.int .i64 (kd:Int),.int .i64 (ka:Int),B,C,.int .i64 nn,.int .u32 bt]] w fun e w'=>
  e=.returned (.agg #[.slice X[ka].p X[ka].h.pats.length X[ka].q,.int .i64 X[ka].h.whole])/\Cs w' X[ka].p X[ka].h.pats/\Below w.heap.size w w':=by
 obtain⟨p1,q1,rfl,-⟩:=id hv.regs;obtain⟨lb,lo,rfl,hreg⟩:=hv.regs.at hd;obtain⟨pr,qr,rfl,-⟩:=id hcs.row;obtain⟨rb,ro,rfl,hca⟩:=hcs.row.at ha;have na:=hcs.nums _ (gD ha);obtain⟨xa,hxa⟩:∃x,X[ka]=x:=⟨_,rfl⟩
 rw[hxa]at hca na |-;obtain⟨⟨tk,tp⟩,hT⟩:∃t:Ty,c.regs[kd]=t:=⟨_,rfl⟩
 rw[hT]at hreg h2;simp only at h2;obtain⟨n1,hn1'⟩:∃n,c.regs.length=n:=⟨_,rfl⟩
 rw[hX]at ha |-;rw[hn1']at hd ha |-;have hregsL:=hg.regsL;rw[hn1']at hregsL;obtain⟨LA,hLA⟩:∃l,xa.h.pats.length=l:=⟨_,rfl⟩
 have y0:w.cell? ⟨rb,ro+ka*2,none⟩=some (.slice xa.p LA xa.q):=by rw[<-hLA];exact hca.at 0 rfl
 have y1:w.cell? ⟨rb,ro+ka*2+1,none⟩=some (.int .i64 xa.h.whole):=hca.at 1 rfl;rw[hLA];have z0:w.cell? ⟨lb,lo+kd*2,none⟩=some (.int .i64 tk):=hreg.at 0 rfl;have z1:w.cell? ⟨lb,lo+kd*2+1,none⟩=some (.int .i64 tp):=hreg.at 1 rfl;have hba:Below w.heap.size w (((w.alloc (.cells #[v0,.slice (some ⟨lb,lo,none⟩) n1 q1,v2,v3,.slice (some ⟨rb,ro,none⟩) n1 qr,su,ou,gu,pu,ct] 144)).alloc (.cells #[.int .i64 op,.int .i64 (kd:Int),.int .i64 (ka:Int),B,C,.int .i64 nn,.int .u32 bt] 45)).alloc (.cells #[.slice none 0 0,.int .i64 0] 109)):=bel (A0 _ _) (bel (A0 _ _) (A0 _ _));have b1:(((w.alloc (.cells #[v0,.slice (some ⟨lb,lo,none⟩) n1 q1,v2,v3,.slice (some ⟨rb,ro,none⟩) n1 qr,su,ou,gu,pu,ct] 144)).alloc (.cells #[.int .i64 op,.int .i64 (kd:Int),.int .i64 (ka:Int),B,C,.int .i64 nn,.int .u32 bt] 45)).alloc (.cells #[.slice none 0 0,.int .i64 0] 109)).cell? ⟨w.heap.size,1,none⟩=some (.slice (some ⟨lb,lo,none⟩) n1 q1):=kc (A0 _ _) (kc (A0 _ _) sG);have b2:(((w.alloc (.cells #[v0,.slice (some ⟨lb,lo,none⟩) n1 q1,v2,v3,.slice (some ⟨rb,ro,none⟩) n1 qr,su,ou,gu,pu,ct] 144)).alloc (.cells #[.int .i64 op,.int .i64 (kd:Int),.int .i64 (ka:Int),B,C,.int .i64 nn,.int .u32 bt] 45)).alloc (.cells #[.slice none 0 0,.int .i64 0] 109)).cell? ⟨w.heap.size+1,1,none⟩=some (.int .i64 (kd:Int)):=kc (A0 _ _) sG;have b3:=kc hba z0;have b4:=kc hba z1;have c1:∀o,((((w.alloc (.cells #[v0,.slice (some ⟨lb,lo,none⟩) n1 q1,v2,v3,.slice (some ⟨rb,ro,none⟩) n1 qr,su,ou,gu,pu,ct] 144)).alloc (.cells #[.int .i64 op,.int .i64 (kd:Int),.int .i64 (ka:Int),B,C,.int .i64 nn,.int .u32 bt] 45)).alloc (.cells #[.slice none 0 0,.int .i64 0] 109)).alloc o).cell? ⟨w.heap.size,4,none⟩=some (.slice (some ⟨rb,ro,none⟩) n1 qr):=fun o=>kc (A0 _ _) (kc (A0 _ _) (kc (A0 _ _) sG));have c2:∀o,((((w.alloc (.cells #[v0,.slice (some ⟨lb,lo,none⟩) n1 q1,v2,v3,.slice (some ⟨rb,ro,none⟩) n1 qr,su,ou,gu,pu,ct] 144)).alloc (.cells #[.int .i64 op,.int .i64 (kd:Int),.int .i64 (ka:Int),B,C,.int .i64 nn,.int .u32 bt] 45)).alloc (.cells #[.slice none 0 0,.int .i64 0] 109)).alloc o).cell? ⟨w.heap.size+1,2,none⟩=some (.int .i64 (ka:Int)):=fun o=>kc (A0 _ _) (kc (A0 _ _) sG);have c3:=fun o=>kc (bel hba (A0 _ o)) y0;have c4:=fun o=>kc (bel hba (A0 _ o)) y1;have c5:∀o,((((w.alloc (.cells #[v0,.slice (some ⟨lb,lo,none⟩) n1 q1,v2,v3,.slice (some ⟨rb,ro,none⟩) n1 qr,su,ou,gu,pu,ct] 144)).alloc (.cells #[.int .i64 op,.int .i64 (kd:Int),.int .i64 (ka:Int),B,C,.int .i64 nn,.int .u32 bt] 45)).alloc (.cells #[.slice none 0 0,.int .i64 0] 109)).alloc o).cell? ⟨w.heap.size+1+1,0,none⟩=some (.slice none 0 0):=fun o=>kc (A0 _ _) sG;have c6:∀o,((((w.alloc (.cells #[v0,.slice (some ⟨lb,lo,none⟩) n1 q1,v2,v3,.slice (some ⟨rb,ro,none⟩) n1 qr,su,ou,gu,pu,ct] 144)).alloc (.cells #[.int .i64 op,.int .i64 (kd:Int),.int .i64 (ka:Int),B,C,.int .i64 nn,.int .u32 bt] 45)).alloc (.cells #[.slice none 0 0,.int .i64 0] 109)).alloc o).cell? ⟨w.heap.size+1+1,1,none⟩=some (.int .i64 0):=fun o=>kc (A0 _ _) sG;have c7:∀o,((((w.alloc (.cells #[v0,.slice (some ⟨lb,lo,none⟩) n1 q1,v2,v3,.slice (some ⟨rb,ro,none⟩) n1 qr,su,ou,gu,pu,ct] 144)).alloc (.cells #[.int .i64 op,.int .i64 (kd:Int),.int .i64 (ka:Int),B,C,.int .i64 nn,.int .u32 bt] 45)).alloc (.cells #[.slice none 0 0,.int .i64 0] 109)).alloc o).frozen? ⟨w.heap.size+1+1,0,none⟩=false:=fun o=>kf (A0 _ _) (by simp[go_sem]:(((w.alloc (.cells #[v0,.slice (some ⟨lb,lo,none⟩) n1 q1,v2,v3,.slice (some ⟨rb,ro,none⟩) n1 qr,su,ou,gu,pu,ct] 144)).alloc (.cells #[.int .i64 op,.int .i64 (kd:Int),.int .i64 (ka:Int),B,C,.int .i64 nn,.int .u32 bt] 45)).alloc (.cells #[.slice none 0 0,.int .i64 0] 109)).cell? ⟨w.heap.size+1+1,0,none⟩=some (.slice none 0 0)) sG;have c8:∀o,((((w.alloc (.cells #[v0,.slice (some ⟨lb,lo,none⟩) n1 q1,v2,v3,.slice (some ⟨rb,ro,none⟩) n1 qr,su,ou,gu,pu,ct] 144)).alloc (.cells #[.int .i64 op,.int .i64 (kd:Int),.int .i64 (ka:Int),B,C,.int .i64 nn,.int .u32 bt] 45)).alloc (.cells #[.slice none 0 0,.int .i64 0] 109)).alloc o).frozen? ⟨w.heap.size+1+1,1,none⟩=false:=fun o=>kf (A0 _ _) (by simp[go_sem]:(((w.alloc (.cells #[v0,.slice (some ⟨lb,lo,none⟩) n1 q1,v2,v3,.slice (some ⟨rb,ro,none⟩) n1 qr,su,ou,gu,pu,ct] 144)).alloc (.cells #[.int .i64 op,.int .i64 (kd:Int),.int .i64 (ka:Int),B,C,.int .i64 nn,.int .u32 bt] 45)).alloc (.cells #[.slice none 0 0,.int .i64 0] 109)).cell? ⟨w.heap.size+1+1,1,none⟩=some (.int .i64 0)) sG;have d1:(0:Int)<=(kd:Int):=oM;have d2:(kd:Int)<(n1:Int):=oM;have d3:(ka:Int)<(n1:Int):=oM;have h2b:(tk==2)=true:=by simpa using h2
 have HNA:Hid (Cs w xa.p xa.h.pats):=na;have HBA:Hid (∀o,Below w.heap.size w ((((w.alloc (.cells #[v0,.slice (some ⟨lb,lo,none⟩) n1 q1,v2,v3,.slice (some ⟨rb,ro,none⟩) n1 qr,su,ou,gu,pu,ct] 144)).alloc (.cells #[.int .i64 op,.int .i64 (kd:Int),.int .i64 (ka:Int),B,C,.int .i64 nn,.int .u32 bt] 45)).alloc (.cells #[.slice none 0 0,.int .i64 0] 109)).alloc o)):=fun o=>bel hba (A0 _ _);clear hreg hca hcs hv hg hT hX h2 hxa na hLA hn1' y0 y1 z0 z1 hba;go_enter func98,ntmps98;go_wp2;refine bodyPost_ret Zgr rfl ?_;have hbF:∀a b d e,Below w.heap.size w ((((w.alloc a).alloc b).alloc d).alloc e):=fun a b d e=>bel (A0 _ _) (bel (A0 _ _) (bel (A0 _ _) (A0 _ _)));exact⟨rfl,HNA.below (hbF _ _ _ _),hbF _ _ _ _⟩
theorem kn_a{c:Cd}{f:Fr}{X:List Cl}{i:Aa}(kn:∀r∈Ac i (A3 i.op),Rh c f X r.toNat)(h:(A3 i.op).a≠0){x:Cl}(hx:X[i.a.toNat]? =some x)(h0:0<=i.a):x.h=Bx c f i.a:=by
 obtain⟨y,hy,e⟩:=kn i.a (Ml h);rw[hx]at hy;cases hy
 rw[e,show((i.a.toNat:Nat):Int)=i.a by omega]
theorem TU{c:Cd}{f:Fr}{r:Int}(h:(A5 c.regs r).kind≠2):(Bx c f r).whole=0:=by
 unfold Bx;split
 .rfl
 .rfl
theorem ND{c:Cd}(hg:By c){r:Int}(h0:0<=r)(h1:r<(c.regs.length:Int))(h3:(A5 c.regs r).kind=3):∃p:Nat,(A5 c.regs r).par=(p:Int)/\p<c.sign.length:=by
 obtain⟨j,rfl⟩:∃j:Nat,r=(j:Int):=⟨r.toNat,oM⟩
 have hr:j<c.regs.length:=oM;rw[EL hr]at h3 |-;exact E4 (hg.type (gD hr) h3)
theorem YJ{c:Cd}{G P:List (List Int)}{f:Fr}{i:Aa}{s:Wk}{X S O X' S' O':List Cl}(hg:By c)(ok:Jf c f)(t:Am c s i=true)(hb:AB i.bits)(fg:DD c G)(fp:DD c P)(nd:Ee c f i)(rel:PF c f X S O)(kn:∀r∈Ac i (A3 i.op),Rh c f X r.toNat)(did:Did c G P f i X S O X' S' O'):
 PF c (CI c G P f i) X' S' O'/\∀r,(((A3 i.op).d≠0->r≠i.d.toNat)->Rh c f X r)->r<c.regs.length->Rh c (CI c G P f i) X' r:=by
 obtain⟨hk,h2,_,_⟩:=Ar t;have hok:Jf c (CI c G P f i):=do_ok hg ok hk hb nd fg fp;rcases did with⟨hd,⟨x,rfl,hx⟩,rfl,rfl⟩|⟨h33,rfl,⟨x,hxa,rfl⟩,rfl⟩|⟨h31,rfl,rfl,x,hxa,rfl⟩|⟨hm,rfl,rfl,rfl⟩
 .have hop:=(QQ hk).1 hd;obtain⟨d0,d1⟩:=Af (Dh h2) hd;have hso:DS c (CI c G P f i) i.d.toNat:=Vn hg ok hk nd fun h=>by
   rcases h with h|h
   .exact absurd h hd
   .exact absurd rfl h
  have hh:=Wv hg hok d0 d1 hso;have hsl:(CI c G P f i).slots=f.slots:=(G2 hk).1 hop.2.1;have hou:(CI c G P f i).outs=f.outs:=(G2 hk).2 hop.1;refine⟨⟨by rw[List.length_set];exact rel.xl,fun y hy=>?_,by rw[hsl];exact rel.sl,by rw[hsl];exact rel.sz,rel.ol,by rw[hou];exact rel.oo⟩,fun r hr hrl=>?_⟩
  .rcases List.mem_or_eq_of_mem_set hy with e|rfl
   .exact rel.xok y e
   .rw[hx];refine⟨hh.2.1,?_,hh.2.2⟩;show(Bx c (CI c G P f i) i.d).pats.length<=4096;rw[hh.1];exact hg.width _
  .by_cases e:r=i.d.toNat
   .subst e;have hl:i.d.toNat<X.length:=by rw[rel.xl];omega
    refine⟨x,by rw[List.getElem?_set_self hl],?_⟩;rw[hx,show((i.d.toNat:Nat):Int)=i.d by omega];rfl
   .obtain⟨y,hy,hye⟩:=hr fun _=>e;exact⟨y,by rw[List.getElem?_set_ne (fun q=>e q.symm)];exact hy,by rw[hye,NE hk r fun _=>e]⟩
 .have hd:¬ (A3 i.op).d≠0:=by rw[h33];decide
  obtain⟨a0,a1,n0,n1,ht,hs⟩:=nd.store h33;have hxh:x.h=Bx c f i.a:=kn_a kn (by rw[h33];decide) hxa a0;have hou:(CI c G P f i).outs=f.outs:=(G2 hk).2 oM;have hsl:(CI c G P f i).slots=f.slots.set i.n.toNat (Bx c f i.a):=by rw[Ci h33]
  refine⟨⟨rel.xl,rel.xok,by rw[hsl,List.map_set,rel.sl,hxh],fun j hj hkd=>?_,rel.ol,by rw[hou];exact rel.oo⟩,fun r hr _=>?_⟩
  .rw[hsl];by_cases e:j=i.n.toNat
   .subst e;have hl:i.n.toNat<f.slots.length:=by rw[ok.slotsL];exact hj
    rw[List.getElem?_set_self hl,Option.getD_some];refine TU ?_;rw[<-ht];unfold Df;rw[gB hj];exact hkd
   .rw[List.getElem?_set_ne (fun q=>e q.symm)];exact rel.sz j hj hkd
  .obtain⟨y,hy,hye⟩:=hr fun q=>absurd q hd;exact⟨y,hy,by rw[hye,NE hk r fun q=>absurd q hd]⟩
 .have hd:¬ (A3 i.op).d≠0:=by rw[h31];decide
  obtain⟨hp,hlen⟩:=nd.out h31;have hxh:x.h=Bx c f i.a:=kn_a kn (by rw[h31];decide) hxa hp.r0;have hxv:x.h=⟨f.vecs i.a.toNat,0⟩:=by
   rw[hxh];unfold Bx;rw[if_neg (by rw[hp.kind];decide),if_neg (by rw[hp.kind];decide)]
  have hsl:(CI c G P f i).slots=f.slots:=(G2 hk).1 oM;obtain⟨p,hpp,hpl⟩:=ND hg hp.r0 hp.r1 hp.kind;have hn0:=hp.n0;have hou:(CI c G P f i).outs=QF f.outs p (AP c (p:Int)) i.n.toNat (f.vecs i.a.toNat):=by rw[Ch h31,hpp,Int.toNat_natCast]
  rw[hpp]at hlen hn0;rw[hpp,Int.toNat_natCast];have hnk:i.n.toNat<AP c (p:Int):=by
   unfold AP;rcases hn0 with e|⟨e,e2⟩
   .rw[e];split<;>decide
   .rw[e,if_pos e2];decide
  have hap:AP c (p:Int)<=2:=by unfold AP;split<;>decide
  refine⟨⟨rel.xl,rel.xok,by rw[hsl];exact rel.sl,by rw[hsl];exact rel.sz,by rw[List.length_set];exact rel.ol,fun q n hq hn=>?_⟩,fun r hr _=>?_⟩
  .obtain⟨o,h1,h3,h4,h5⟩:=rel.oo q n hq hn;have hq2:AP c (q:Int)<=2:=by unfold AP;split<;>decide
   rw[hou];by_cases e:2*q+n=2*p+i.n.toNat
   .have eq:q=p:=oM;have en:n=i.n.toNat:=oM;subst eq;have hol:2*q+i.n.toNat<O.length:=by rw[rel.ol];omega
    refine⟨x,by rw[e,List.getElem?_set_self hol],by rw[hxv];exact hlen,by rw[hxv];exact ok.vecs _,fun j hj=>?_⟩;rw[hxv];unfold QF;have hK:0<AP c (q:Int):=oM;have e1:(AP c (q:Int)*j+n)%AP c (q:Int)=n:=by rw[Nat.mul_add_mod,Nat.mod_eq_of_lt hn]
    have e2:(AP c (q:Int)*j+n)/AP c (q:Int)=j:=by rw[Nat.mul_add_div hK,Nat.div_eq_of_lt hn,Nat.add_zero]
    rw[if_pos ⟨rfl,by rw[e1,en],by rw[e2,hlen];exact hj⟩,e2]
   .refine⟨o,by rw[List.getElem?_set_ne (fun q=>e q.symm)];exact h1,h3,h4,fun j hj=>?_⟩;rw[h5 j hj];unfold QF;rw[if_neg];rintro⟨e1,e2,-⟩;subst e1;have e3:(AP c (q:Int)*j+n)%AP c (q:Int)=n:=by rw[Nat.mul_add_mod,Nat.mod_eq_of_lt hn]
    rw[e3]at e2;exact e (by rw[e2])
  .obtain⟨y,hy,hye⟩:=hr fun q=>absurd q hd;exact⟨y,hy,by rw[hye,NE hk r fun q=>absurd q hd]⟩
 .rw[AM hm];exact⟨rel,fun r hr _=>hr fun q=>absurd hm ((QQ hk).1 q).2.2⟩
def UV(Q:Nat->Prop)(s:Wk)(k:Nat):Prop:=
 (k=0/\∀r∈s.set,Q r)\/(∃pre b rest,s.opens=pre++b::rest/\b.loop=false/\k=(pre.filter fun x=> !x.loop).length+1/\∀r∈s.set.take b.ahead,Q r)
theorem MF{c:Cd}{G P:List (List Int)}{s:Wk}{f:Fr}{k:Nat}{i:Aa}{Q Q':Nat->Prop}(oks:Eu c.regs.length s)(t:Am c s i=true)(sk:UV Q s k)(hdo:k=0->i.op≠34->∀r∈(Ad s i).set,Q' r)(hno:k≠0\/i.op=34->∀r,Q r->Q' r):UV Q' (Ad s i) (Ap c G P (f,k) i).2:=by
 obtain⟨hkn,_,hst,_⟩:=Ar t;rcases sk with⟨rfl,hs⟩|⟨pre,b,rest,ho,hbl,rfl,hs⟩
 .by_cases h34:i.op=34
  .rw[Lq h34];by_cases hz:f.whs i.a.toNat=0
   .rw[Nw c G P f 0 h34 (.inr hz)];exact .inr ⟨[],⟨false,i.n,s.set.length⟩,s.opens,rfl,rfl,rfl,fun r hr=>hno (.inr h34) r (hs r (List.mem_of_mem_take hr))⟩
   .rw[Nx c G P f (fun e=>hz e.2)];exact .inl ⟨rfl,fun r hr=>hno (.inr h34) r (hs r hr)⟩
  .rw[Nx c G P f (fun e=>h34 e.1)];exact .inl ⟨rfl,hdo rfl h34⟩
 .obtain⟨hah,hpre⟩:=Qz (by have:=oks.opens;rw[ho]at this;exact this);have hs':∀r∈s.set.take b.ahead,Q' r:=fun r hr=>hno (.inl oM) r (hs r hr);obtain⟨K,hK⟩:=gA ((pre.filter fun x=> !x.loop).length)
  rw[hK];by_cases h34:i.op=34
  .rw[Nw c G P f (K+1) h34 (.inl oM),Lq h34];refine .inr ⟨⟨false,i.n,s.set.length⟩::pre,b,rest,by rw[ho];rfl,hbl,?_,hs'⟩;rw[List.filter_cons_of_pos rfl,List.length_cons,hK]
  .by_cases h35:i.op=35
   .rw[We c G P f K h35,GG (.inl h35)];have hnl:Ao s=false:=by
     exact Zfh
    unfold Ao at hnl;unfold AI;rw[ho]at hnl |-;cases pre with
    |nil=>
     simp only[List.nil_append]at hnl |-;simp at hK;refine .inl ⟨hK.symm,fun r hr=>hs' r ?_⟩;rw[hbl]at hr;simpa using hr
    |cons p pre=>
     simp only[List.cons_append]at hnl |-;have hp:=hpre p sM;refine .inr ⟨pre,b,rest,rfl,hbl,?_,fun r hr=>hs' r ?_⟩
     .rw[List.filter_cons_of_pos (by rw[hnl];rfl),List.length_cons]at hK;omega
     .rw[hnl]at hr;simp only[Bool.false_eq_true,if_false,List.take_take]at hr;rw[Nat.min_eq_left hp]at hr;exact hr
   .rw[Wf c G P f K h34 h35];by_cases h36:i.op=36
    .rw[Lr h36];refine .inr ⟨⟨true,i.n,s.set.length⟩::pre,b,rest,by rw[ho];rfl,hbl,?_,hs'⟩;rw[List.filter_cons_of_neg sM,hK]
    .by_cases h37:i.op=37
     .rw[GG (.inr h37)];have hnl:Ao s=true:=by
       unfold Al at hst;rw[if_neg oM,if_neg oM,if_pos h37]at hst;exact hst
      unfold Ao at hnl;unfold AI;rw[ho]at hnl |-;cases pre with
      |nil=>
       simp only[List.nil_append]at hnl;rw[hbl]at hnl;cases hnl
      |cons p pre=>
       simp only[List.cons_append]at hnl |-;refine .inr ⟨pre,b,rest,rfl,hbl,?_,fun r hr=>hs' r ?_⟩
       .rw[List.filter_cons_of_neg (by rw[hnl];decide)]at hK;omega
       .rw[hnl]at hr;simpa using hr
     .rw[G4 h34 h35 h36 h37];obtain⟨h1,h2⟩:=O3 (i:=i) (r:=A3 i.op) hah;exact .inr ⟨pre,b,rest,by rw[h2];exact ho,hbl,by rw[hK],fun r hr=>hs' r (by rw[h1]at hr;exact hr)⟩
structure LH(c:Cd)(G P:List (List Int))(f0:Fr)(j k:Nat)(f:Fr)(s:Wk)(X S O:List Cl):Prop where
 go:En c G P (f0,0) (c.list.take j)=(f,k)
 ok:Jf c f
 oks:Eu c.regs.length s
 sk:MY c s f k
 tk:AK c s (c.list.drop j)=true
 rel:PF c f X S O
 kn:UV (Rh c f X) s k
theorem LH.taken{c:Cd}{G P:List (List Int)}{f0:Fr}{j k:Nat}{f:Fr}{s:Wk}{X S O:List Cl}(g:LH c G P f0 j k f s X S O)(hj:j<c.list.length):Am c s c.list[j]=true/\AK c (Ad s c.list[j]) (c.list.drop (j+1))=true:=by
 have:=g.tk;rw[List.drop_eq_getElem_cons hj]at this;unfold AK at this;simpa using this
theorem LH.pass{c:Cd}{G P:List (List Int)}{f0:Fr}{j k:Nat}{f:Fr}{s:Wk}{X S O:List Cl}(g:LH c G P f0 j k f s X S O)(hg:By c)(hbits:∀i∈c.list,AB i.bits)(fg:DD c G)(fp:DD c P)(hj:j<c.list.length){k':Nat}(hn:Ap c G P (f,k) c.list[j]=(f,k'))(hno:k≠0\/c.list[j].op=34):∃s',LH c G P f0 (j+1) k' f s' X S O:=by
 obtain⟨t1,t2⟩:=g.taken hj;obtain⟨o1,o2⟩:=Ih hg g.oks t1 g.ok (hbits _ (gD hj)) fg fp g.sk;have o3:=MF (G:=G) (P:=P) (f:=f) (Q':=Rh c f X) g.oks t1 g.kn (fun e1 e2=>by rcases hno with h|h;exact absurd e1 h;exact absurd h e2) (fun _ _ h=>h);rw[hn]at o1 o2 o3;exact⟨Ad s c.list[j],by rw[Oy c G P _ _ hj,g.go];exact hn,o1,g.oks.step t1,o2,t2,g.rel,o3⟩
theorem LH.need{c:Cd}{G P:List (List Int)}{f0:Fr}{j:Nat}{f:Fr}{s:Wk}{X S O:List Cl}(g:LH c G P f0 j 0 f s X S O)(hj:j<c.list.length):Ee c f c.list[j]/\(∀r∈Ac c.list[j] (A3 c.list[j].op),Rh c f X r.toNat):=by
 obtain⟨t1,t2⟩:=g.taken hj;have h1:∀r∈s.set,DS c f r:=by
  rcases g.sk with⟨_,h⟩|⟨pre,b,rest,_,_,h,_⟩
  .exact h
  .omega
 have h2:∀r∈s.set,Rh c f X r:=by
  rcases g.kn with⟨_,h⟩|⟨pre,b,rest,_,_,h,_⟩
  .exact h
  .omega
 exact⟨RO t1 h1,fun r hr=>h2 _ (OU (Ar t1).2.2.2 hr)⟩
theorem LH.did{c:Cd}{G P:List (List Int)}{f0:Fr}{j:Nat}{f:Fr}{s:Wk}{X S O X' S' O':List Cl}(g:LH c G P f0 j 0 f s X S O)(hg:By c)(hbits:∀i∈c.list,AB i.bits)(fg:DD c G)(fp:DD c P)(hj:j<c.list.length)(hn:¬ (c.list[j].op=34/\f.whs c.list[j].a.toNat=0))(did:Did c G P f c.list[j] X S O X' S' O'):∃f' s',LH c G P f0 (j+1) 0 f' s' X' S' O':=by
 obtain⟨t1,t2⟩:=g.taken hj;have hbi:=hbits _ (gD hj);obtain⟨o1,o2⟩:=Ih hg g.oks t1 g.ok hbi fg fp g.sk;obtain⟨nd,hr⟩:=g.need hj;obtain⟨r1,r2⟩:=YJ hg g.ok t1 hbi fg fp nd g.rel hr did;have hk:∀r∈s.set,Rh c f X r:=by
  rcases g.kn with⟨_,h⟩|⟨pre,b,rest,_,_,h,_⟩
  .exact h
  .omega
 have hoks:=g.oks.step t1;have o3:=MF (G:=G) (P:=P) (f:=f) (Q':=Rh c (CI c G P f c.list[j]) X') g.oks t1 g.kn (fun _ h34 r hr=>?_) (fun h r hr=>?_)
 .rw[Nx c G P f hn]at o1 o2 o3;exact⟨CI c G P f c.list[j],Ad s c.list[j],by rw[Oy c G P _ _ hj,g.go];exact Nx c G P f hn,o1,hoks,o2,t2,r1,o3⟩
 .refine r2 r (fun hne=>hk r ?_) (hoks.lt r hr);by_cases h35:c.list[j].op=35\/c.list[j].op=37
  .rw[GG h35]at hr;exact Mj hr
  .by_cases h36:c.list[j].op=36
   .rw[Lr h36]at hr;exact hr
   .rw[G4 h34 oM h36 oM]at hr;rcases RM hr with h|⟨h,h'⟩
    .exact h
    .exact absurd h' (hne h)
 .rcases h with h|h
  .exact absurd rfl h
  .obtain⟨y,hy,_⟩:=id hr;exact r2 r (fun _=>hr) (by have:=(List.getElem?_eq_some_iff.1 hy).1;rw[g.rel.xl]at this;exact this)
def Jy(v:World)(sv:Value)(p:Option Addr)(l:List Int):Prop:=l=[]\/∃b o,p=some ⟨b,o,none⟩/\sv.ownBlock≠some b/\∀j,j<l.length->v.cell? ⟨b,o+j,none⟩=some (.int .u32 (Cy l j))
theorem Jy.below{v v':World}{sv:Value}{p:Option Addr}{l:List Int}(h:Jy v sv p l)(k:Below v.heap.size v v'):Jy v' sv p l:=by
 rcases h with rfl|⟨b,o,e,hn,h⟩
 .exact .inl rfl
 .exact .inr ⟨b,o,e,hn,fun j hj=>kc k (h j hj)⟩
theorem Jy.grow{V w':World}{p:Option Addr}{n q g c' m:Nat}{pp:Option Addr}{l:List Int}(h:Jy V (.slice p n q) pp l)(hk:∀b,b<V.heap.size->(Value.slice p n q).ownBlock≠some b->w'.heap[b]? =V.heap[b]?)(hg:(Value.slice p n q).ownBlock=some g\/V.heap.size<g):Jy w' (.slice (some ⟨g,0,none⟩) m c') pp l:=by
 exact Zck
structure Cu where
 p:Option Addr
 q:Nat
 l:List Int
def cuC(x:Cu):List Value:=[.slice x.p x.l.length x.q]
theorem YE(x:Cu):(cuC x).length=1:=rfl
theorem YF:∀x:Cu,∀u∈cuC x,u.oneCell'=true:=fun x u hu=>by simp[cuC]at hu;subst hu;rfl
theorem YW:(prog.info? 70).map (fun i=>(i.zero,i.size,i.bytes))=some (some (.slice none 0 0),1,24):=kR
structure N7(B:Nat)(v:World)(sv:Value)(X:List Cu):Prop where
 own:v.ownsRow B 70 1 sv X.length (AG cuC X)
 pats:∀x∈X,Jy v sv x.p x.l
 loc:∀x∈X,∀b o s,x.p=some ⟨b,o,s⟩->B<=b
theorem N7.below{B:Nat}{v v':World}{sv:Value}{X:List Cu}(h:N7 B v sv X)(k:Below v.heap.size v v'):N7 B v' sv X:=⟨As h.own k,fun x hx=>(h.pats x hx).below k,h.loc⟩
theorem N7.nil(B:Nat)(v:World):N7 B v (.slice none 0 0) []:=⟨World.ownsRow_nil _ _ _ 1,fun x hx=>(by cases hx),fun x hx=>(by cases hx)⟩
theorem N7.push{B:Nat}{V:World}{p:Option Addr}{q:Nat}{X:List Cu}(h:N7 B V (.slice p X.length q) X)(hB:B<=V.heap.size)(hX:X.length<=16384)(x:Cu)(hx:Jy V (.slice p X.length q) x.p x.l)(hlo:∀b o s,x.p=some ⟨b,o,s⟩->B<=b)(ty:TypeId):
 ∃g c' w',(Builtin.append_ #[71,71] ty #[.slice p X.length q,.slice (some ⟨V.heap.size,0,none⟩) 1 1]).run prog (V.alloc (.cells #[.slice x.p x.l.length x.q] 70))=.ok (.slice (some ⟨g,0,none⟩) (X.length+1) c') w'/\Below B V w'/\N7 B w' (.slice (some ⟨g,0,none⟩) (X.length+1) c') (X++[x]):=by
 obtain⟨g,c',w',hr,hb,ho,hk,hg⟩:=Gz (V:=V) underlying71 YW rfl dE h.own hB #[.slice x.p x.l.length x.q] rfl (fun u hu=>YF x u hu) mL oM ty;refine⟨g,c',w',hr,hb,⟨?_,fun y hy=>?_,fun y hy=>?_⟩⟩
 .rw[List.length_append,Dt];exact ho
 .rcases List.mem_append.1 hy with e|e
  .exact(h.pats y e).grow hk hg
  .simp only[List.mem_singleton]at e;subst e;exact hx.grow hk hg
 .rcases List.mem_append.1 hy with e|e
  .exact h.loc y e
  .simp only[List.mem_singleton]at e;subst e;exact hlo
theorem N7.vs{B:Nat}{v:World}{sv:Value}{X:List Cu}(h:N7 B v sv X):Gh (fun b=>b<B) v sv (X.map (·.l)):=by
 obtain⟨p,q,rfl,hr⟩:=C9 YE h.own;have hlo:=F6 h.own;refine⟨p,q,by rw[List.length_map],?_⟩;by_cases h0:X=[]
 .exact .inl (by rw[h0];rfl)
 .rcases hr with e|⟨b,o,e,hc⟩
  .exact absurd e h0
  .have hl:=List.length_pos_iff.2 h0;have hb:b<v.heap.size:=by
    have:=(hc 0 hl).at 0 (v:=.slice (X[0]).p (X[0]).l.length (X[0]).q) rfl;exact A6 this
   refine .inr ⟨b,o,e,fun k=>by have:=hlo b o none e;omega,hb,fun i hi=>?_⟩;rw[List.length_map]at hi;have hci:=(hc i hi).at 0 (v:=.slice (X[i]).p (X[i]).l.length (X[i]).q) rfl;rw[Nat.mul_one,Nat.add_zero]at hci;refine⟨_,hci,(X[i]).p,(X[i]).q,sM,?_⟩;rw[List.getElem_map];rcases h.pats _ (gD hi)with e2|⟨b2,o2,e2,-,h2⟩
   .exact .inl e2
   .by_cases h3:(X[i]).l=[]
    .exact .inl h3
    .refine .inr ⟨b2,o2,e2,fun k=>by have:=h.loc _ (gD hi) b2 o2 none e2;omega,A6 (h2 0 (List.length_pos_iff.2 h3)),fun k hk j hj=>?_⟩;have hj0:j=0:=by have:j<1:=hj;omega
     subst hj0;rw[Nat.mul_one,Nat.add_zero,h2 k hk];simp[ptC,Cy,gB hk]
def Po(c:Cd)(f:Fr)(p:Nat):List Int:=(List.range (RS c p)).map (f.outs p)
theorem updP_eq(c:Cd)(f:Fr):Gg c f=(List.range c.sign.length).map (Po c f):=rfl
theorem ET{α:Type}(g:Nat->α)(n:Nat):(List.range (n+1)).map g=(List.range n).map g++[g n]:=by simp[List.range_succ]
theorem Nh{rs:List Ty}{l n:Int}{m:Ty}(h:Ai rs l n m=true):0<=n:=by
 by_cases hl:l=0
 .unfold Ai at h;rw[if_pos hl]at h;simp only[beq_iff_eq]at h;omega
 .exact(Af h hl).1
theorem Y2{f:Fr}{i:Aa}{a b d:Int}(ho:21<=i.op/\i.op<=28)(ha:a=f.whs i.a.toNat)(hb:(A3 i.op).b≠0->b=f.whs i.b.toNat)(hc:(A3 i.op).c≠0->d=f.whs i.c.toNat):DM i.op a b d=Fh f i:=by
 obtain⟨op,D,A,B,Ec,nn,bt⟩:=i;simp only at ho ha hb hc |-;subst ha;have:op=21\/op=22\/op=23\/op=24\/op=25\/op=26\/op=27\/op=28:=oM;rcases this with rfl|rfl|rfl|rfl|rfl|rfl|rfl|rfl
 .show min (f.whs A.toNat+1) 2147483647=min (f.whs A.toNat) 2147483646+1;omega
 .rw[hb dE];rfl
 .rw[hb dE];rfl
 .rw[hb dE];rfl
 .rfl
 .rw[hb dE,hc dE];rfl
 .rw[hb dE];rfl
 .rw[hb dE];rfl
theorem test_eq(x:Int):C7 (x%2147483648 != 0&&decide (x%2147483648<=2139095040))=C7 (Nl x 1065353216 0==1065353216):=by
 congr 1;unfold Nl;by_cases hn:nan x=true
 .rw[hn];have:2139095040<x%2147483648:=by unfold nan at hn;simpa using hn
  have e:decide (x%2147483648<=2139095040)=false:=sO;rw[e,Bool.and_false,Bool.true_or];decide
 .have hn':nan x=false:=by simpa using hn
  have:¬2139095040<x%2147483648:=by intro h;exact hn (by unfold nan;simpa using h)
  have e:decide (x%2147483648<=2139095040)=true:=sO;rw[hn',e,Bool.and_true];by_cases h0:x%2147483648=0
  .rw[h0];decide
  .have h1:(x%2147483648 != 0)=true:=by simpa using h0
   have h2:(x%2147483648==0)=false:=by simpa using h0
   rw[h1,h2];decide
theorem Yv{c:Cd}{f:Fr}{i:Aa}{xa xb xc:Cl}(he:B3 i.op=true)(ha:xa.h=Bx c f i.a)(hb:(A3 i.op).b≠0->xb.h=Bx c f i.b)(hc:(A3 i.op).c≠0->xc.h=Bx c f i.c):DY xa.h.pats xb.h.pats xc.h.pats (D9 i.op)=Bu c f i:=by
 obtain⟨op,D,A,B,Ec,nn,bt⟩:=i;unfold B3 at he;simp only[Bool.and_eq_true,decide_eq_true_eq]at he ha hb hc |-;have:op=3\/op=4\/op=5\/op=6\/op=7\/op=8\/op=9\/op=10\/op=11\/op=12\/op=13\/op=14\/op=15:=oM;rcases this with rfl|rfl|rfl|rfl|rfl|rfl|rfl|rfl|rfl|rfl|rfl|rfl|rfl
 all_goals
  first
   |(rw[ha,hb dE,hc dE];rfl)
   |(rw[ha,hb dE];rfl)
   |(rw[ha];rfl)
theorem Z7{c:Cd}{f:Fr}{X:List Cl}{i:Aa}(kn:∀r∈Ac i (A3 i.op),Rh c f X r.toNat){r:Int}(hr:r∈Ac i (A3 i.op))(h0:0<=r){x:Cl}(hx:X[r.toNat]? =some x):x.h=Bx c f r:=by
 obtain⟨y,hy,e⟩:=kn r hr;rw[hx]at hy;cases hy
 rw[e,show((r.toNat:Nat):Int)=r by omega]
theorem mem_b{i:Aa}{r:Rw}(h:r.b≠0):i.b∈Ac i r:=by unfold Ac;simp[h]
theorem mem_c{i:Aa}{r:Rw}(h:r.c≠0):i.c∈Ac i r:=by unfold Ac;simp[h]
theorem rd_1{c:Cd}{f:Fr}{r:Int}(h:(A5 c.regs r).kind=1):Bx c f r=⟨[f.nums r.toNat],0⟩:=by unfold Bx;rw[if_pos h]
theorem QK{c:Cd}{f:Fr}{r:Int}(h:(A5 c.regs r).kind=2):Bx c f r=⟨[],f.whs r.toNat⟩:=by unfold Bx;rw[if_neg oM,if_pos h]
theorem rd_3{c:Cd}{f:Fr}{r:Int}(h:(A5 c.regs r).kind=3):Bx c f r=⟨f.vecs r.toNat,0⟩:=by unfold Bx;rw[if_neg oM,if_neg oM]
end Go.Proofs.YtpoklpdgpcnkgaaGreat
