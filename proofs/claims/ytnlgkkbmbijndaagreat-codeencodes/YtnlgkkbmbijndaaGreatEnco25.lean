import Derived.Test.YtnlgkkbmbijndaaGreatEnco23
import Derived.Test.YtnlgkkbmbijndaaGreatEnco24
import Derived.Test.YtnlgkkbmbijndaaGreatEnco19
import Derived.Deep.DeepCutAuto
import Derived.Test.YtnlgkkbmbijndaaGreatEnco1
namespace Go.Proofs.YtnlgkkbmbijndaaGreat
open Go.RowKit Go.Proofs.Tryz
set_option linter.all false
set_option maxRecDepth 100000
set_option maxHeartbeats 16000000
theorem OF:prog.underlying 89=some (.slice (prog.elem 89)):=kR
theorem OV:prog.elem 89=93:=kR
theorem N8(w:World):(sizeOf (prog.elem 89)).run prog w=.ok 3 w:=by rw[OV];exact Tryz.sizeOf93 w
theorem Em{a b x y:Int}(h:(a,b)=(x,y)):(Ending.returned (.tuple #[.int .i64 a,.int .i64 b]))=.returned (.tuple #[.int .i64 x,.int .i64 y]):=by cases h;rfl
theorem Hn(v0 v1 v2 v3:Value)(c:Cd)(hk:Bd c)(w:World)(hv:CN w v0 v1 v2 v3 c)(hS:AQ c.sign=0)(h1:c.regs.length<=16384)(h3:c.list.length<=32768)(h2:c.slots.length<=4096)(RA RB:Int)(hRES:(if(Aq c&&Bi c)=true then FO c ⟨[],[]⟩ 0 c.list else(160,-1))=(RA,RB)):
 Calls prog 15 #[.agg #[v0,v1,v2,v3]] w fun e w'=>e=.returned (.tuple #[.int .i64 RA,.int .i64 RB])/\Below w.heap.size w w':=by
 have hSG:∀v,Below w.heap.size w v->Calls prog 32 #[v0] v fun e w'=>e=.returned (.int .i64 0)/\Below v.heap.size v w':=fun v hb=>by rw[<-hS];exact FA v0 c.sign hk.signL hk.names v (hv.below hb).sign.rd
 have l0:=hk.signL;obtain⟨p0,q0,rfl,-⟩:=id hv.sign;obtain⟨p1,q1,rfl,-⟩:=id hv.regs;obtain⟨p2,q2,rfl,-⟩:=id hv.slots;obtain⟨p3,q3,rfl,-⟩:=id hv.list;have HREGS:Hid (B4 2 Ey w (.slice p1 c.regs.length q1) c.regs):=hv.regs;have HSLOTS:Hid (B4 5 F8 w (.slice p2 c.slots.length q2) c.slots):=hv.slots;have HLIST:Hid (B4 7 BR w (.slice p3 c.list.length q3) c.list):=hv.list;have HMT:Hid (∀ (t:Ty) v,Calls prog 33 #[.agg #[.int .i64 t.kind,.int .i64 t.par],.slice p0 c.sign.length q0] v fun e w'=>e=.returned (.bool (AA t c.sign.length))/\Below v.heap.size v w'):=fun t v=>En t p0 _ q0 hk.signL v;have HMS:Hid (∀ (s:Sl),s∈c.slots->∀v,Calls prog 34 #[.agg #[.int .i64 s.ty.kind,.int .i64 s.ty.par,.bool s.keep,.int .u32 s.bits,.int .i64 s.int_],.slice p0 c.sign.length q0] v fun e w'=>e=.returned (.bool (B1 s c.sign.length))/\Below v.heap.size v w'):=fun s hs v=>GF s (hk.sbits s hs).1 (hk.sbits s hs).2 p0 _ q0 hk.signL v;have HCV:Hid (CN w (.slice p0 c.sign.length q0) (.slice p1 c.regs.length q1) (.slice p2 c.slots.length q2) (.slice p3 c.list.length q3) c):=hv;have HCO:Hid (Bd c):=hk;have HRES:Hid ((if(Aq c&&Bi c)=true then FO c ⟨[],[]⟩ 0 c.list else(160,-1))=(RA,RB)):=hRES;obtain⟨n0,hn0⟩:∃n,c.sign.length=n:=⟨_,rfl⟩
 obtain⟨n1,hn1⟩:∃n,c.regs.length=n:=⟨_,rfl⟩
 obtain⟨n2,hn2⟩:∃n,c.slots.length=n:=⟨_,rfl⟩
 obtain⟨n3,hn3⟩:∃n,c.list.length=n:=⟨_,rfl⟩
 have HN0:Hid (c.sign.length=n0):=hn0;have HN1:Hid (c.regs.length=n1):=hn1;have HN2:Hid (c.slots.length=n2):=hn2;have HN3:Hid (c.list.length=n3):=hn3;rw[hn0]at hSG l0 HMT HMS;rw[hn1]at h1 HREGS;rw[hn2]at h2 HSLOTS;rw[hn3]at h3 HLIST;rw[hn0,hn1,hn2,hn3]at HCV |-;have HSG:Hid _:=hSG;have g1:(n1:Int)<=16384:=oM;have g2:(n2:Int)<=4096:=oM;have g3:(n3:Int)<=32768:=oM;clear hSG hn0 hn1 hn2 hn3 hv hk hS hRES;go_enter func15,ntmps15;go_wp2_with(go_at_call 32;(with_reducible refine(HSG.out _ (A5 _ _)).mono ?_);rintro e w1 ⟨rfl,hb1⟩;have HX1:Hid (CX w (.slice p0 n0 q0) (.slice p1 n1 q1) (.slice p2 n2 q2) (.slice p3 n3 q3) w1):=(CX.start w _ _ _ _).next hb1;obtain⟨b1,b2,c0,c1,c2,c3⟩:=HX1.out;clear hb1);clear c0 c1 c2 c3 b1 b2
 go_loopw [5] (fun iv wr=>CX w (.slice p0 n0 q0) (.slice p1 n1 q1) (.slice p2 n2 q2) (.slice p3 n3 q3) wr/\∃j:Nat,j<=n1/\iv=.int .i64 (j:Int)/\Hid ((c.regs.take j).all (fun t=>AA t n0)=true)) (fun iv _=>n1-(intOf iv).toNat)
 case atStart=>exact⟨HX1.out,0,gI _,rfl,by show _=_;simp⟩
 case round=>
  obtain⟨hcx,j,hj,rfl,hall⟩:=hrel;have HCX:Hid (CX w (.slice p0 n0 q0) (.slice p1 n1 q1) (.slice p2 n2 q2) (.slice p3 n3 q3) wr):=hcx;obtain⟨b1,b2,c0,c1,c2,c3⟩:=hcx;clear HX1;by_cases hlt:j<n1
  .have hll:j<c.regs.length:=by rw[HN1.out];exact hlt
   obtain⟨b,o,rfl,hx⟩:=HREGS.at hll;have KN:=HMT.out c.regs[j];have NX:Hid (AA c.regs[j] n0=true->(c.regs.take (j+1)).all (fun t=>AA t n0)=true):=fun h=>GP _ hll hall.out h;have NB:Hid (AA c.regs[j] n0=false->(160,-1)=(RA,RB)):=fun h=>by
    have h5:Aq c=false:=by unfold Aq;rw[HN0.out];exact J2 _ hll h
    have h6:=HRES.out;rw[h5,Bool.false_and,if_neg dE]at h6;exact h6
   obtain⟨⟨K,P⟩,hT⟩:∃T:Ty,c.regs[j]=T:=⟨_,rfl⟩
   rw[hT]at hx KN NX NB;have y0:wr.cell? ⟨b,o+j*2,none⟩=some (.int .i64 K):=kc b1 (hx.at 0 rfl);have y1:wr.cell? ⟨b,o+j*2+1,none⟩=some (.int .i64 P):=kc b1 (hx.at 1 rfl);obtain⟨X,hX⟩:=gA (AA ⟨K,P⟩ n0)
   rw[hX]at NX NB;simp only[hX]at KN;have HK:Hid (∀v,Calls prog 33 #[.agg #[.int .i64 K,.int .i64 P],.slice p0 n0 q0] v fun e w'=>e=.returned (.bool X)/\Below v.heap.size v w'):=KN;have i1:(0:Int)<=(j:Int):=oM;have i2:(j:Int)<(n1:Int):=oM;clear KN hT hX hx hall;cases X
   .go_wp2;refine rG (fun v=>v.cell? ⟨w.heap.size,1,none⟩=some (.slice (some ⟨b,o,none⟩) n1 q1)/\v.cell? ⟨w.heap.size,0,none⟩=some (.slice p0 n0 q0)/\v.cell? ⟨b,o+j*2,none⟩=some (.int .i64 K)/\v.cell? ⟨b,o+j*2+1,none⟩=some (.int .i64 P)) fun hJ=>?_;refine wpAnyH_take (i:=0) (v:=?_) A7 kR kR kR A8 (Or.inl ⟨rF,?_⟩) A9 ?_
    rotate_left 1
    ·(intro wS hSw;(try dsimp only at hSw);go_simp;try(with_reducible rfl))
    try simp only[Act.put,List.setIfInBounds_toArray,List.set_cons_zero,List.set_cons_succ]
    refine wpAnyH_take (i:=1) (v:=?_) A7 kR kR kR A8 (Or.inl ⟨rF,?_⟩) A9 ?_
    rotate_left 1
    ·(intro wS hSw;(try dsimp only at hSw);go_simp;try(with_reducible rfl))
    try simp only[Act.put,List.setIfInBounds_toArray,List.set_cons_zero,List.set_cons_succ]
    refine wpAnyH_take (i:=2) (v:=?_) A7 kR kR kR A8 (Or.inl ⟨rF,?_⟩) A9 ?_
    rotate_left 1
    ·(intro wS hSw;(try dsimp only at hSw);go_simp;try(with_reducible rfl))
    try simp only[Act.put,List.setIfInBounds_toArray,List.set_cons_zero,List.set_cons_succ]
    refine wpAnyH_take (i:=3) (v:=?_) A7 kR kR kR A8 (Or.inl ⟨rF,?_⟩) A9 ?_
    rotate_left 1
    ·(intro wS hSw;(try dsimp only at hSw);go_simp;try(with_reducible rfl))
    try simp only[Act.put,List.setIfInBounds_toArray,List.set_cons_zero,List.set_cons_succ]
    refine wpAnyH_take (i:=4) (v:=?_) A7 kR kR kR A8 (Or.inl ⟨rF,?_⟩) A9 ?_
    rotate_left 1
    ·(intro wS hSw;(try dsimp only at hSw);go_simp;try(with_reducible rfl))
    try simp only[Act.put,List.setIfInBounds_toArray,List.set_cons_zero,List.set_cons_succ]
    refine wpAnyH_take (i:=5) (v:=?_) A7 kR kR kR A8 (Or.inl ⟨rF,?_⟩) A9 ?_
    rotate_left 1
    ·(intro wS hSw;(try dsimp only at hSw);go_simp;try(with_reducible rfl))
    try simp only[Act.put,List.setIfInBounds_toArray,List.set_cons_zero,List.set_cons_succ]
    refine wpAnyH_take (i:=6) (v:=?_) A7 kR kR kR A8 (Or.inl ⟨rF,?_⟩) A9 ?_
    rotate_left 1
    ·(intro wS hSw;(try dsimp only at hSw);go_simp;try(with_reducible rfl))
    try simp only[Act.put,List.setIfInBounds_toArray,List.set_cons_zero,List.set_cons_succ]
    clear hJ;refine AR 7 fun K hK=>?_;go_simp;(go_at_call 33;(with_reducible refine(HK.out _).mono ?_);rintro e w2 ⟨rfl,hb2⟩;have HB2:Hid (Below wr.heap.size wr w2):=bel (Ag _) hb2;clear hb2;obtain⟨-,-,c0,c1,c2,c3⟩:=HCX.out.next HB2.out;have x0:=kc HB2.out y0;have x1:=kc HB2.out y1);exact Rh
   .go_wp2;refine rG (fun v=>v.cell? ⟨w.heap.size,1,none⟩=some (.slice (some ⟨b,o,none⟩) n1 q1)/\v.cell? ⟨w.heap.size,0,none⟩=some (.slice p0 n0 q0)/\v.cell? ⟨b,o+j*2,none⟩=some (.int .i64 K)/\v.cell? ⟨b,o+j*2+1,none⟩=some (.int .i64 P)) fun hJ=>?_;refine wpAnyH_take (i:=0) (v:=?_) A7 kR kR kR A8 (Or.inl ⟨rF,?_⟩) A9 ?_
    rotate_left 1
    ·(intro wS hSw;(try dsimp only at hSw);go_simp;try(with_reducible rfl))
    try simp only[Act.put,List.setIfInBounds_toArray,List.set_cons_zero,List.set_cons_succ]
    refine wpAnyH_take (i:=1) (v:=?_) A7 kR kR kR A8 (Or.inl ⟨rF,?_⟩) A9 ?_
    rotate_left 1
    ·(intro wS hSw;(try dsimp only at hSw);go_simp;try(with_reducible rfl))
    try simp only[Act.put,List.setIfInBounds_toArray,List.set_cons_zero,List.set_cons_succ]
    refine wpAnyH_take (i:=2) (v:=?_) A7 kR kR kR A8 (Or.inl ⟨rF,?_⟩) A9 ?_
    rotate_left 1
    ·(intro wS hSw;(try dsimp only at hSw);go_simp;try(with_reducible rfl))
    try simp only[Act.put,List.setIfInBounds_toArray,List.set_cons_zero,List.set_cons_succ]
    refine wpAnyH_take (i:=3) (v:=?_) A7 kR kR kR A8 (Or.inl ⟨rF,?_⟩) A9 ?_
    rotate_left 1
    ·(intro wS hSw;(try dsimp only at hSw);go_simp;try(with_reducible rfl))
    try simp only[Act.put,List.setIfInBounds_toArray,List.set_cons_zero,List.set_cons_succ]
    refine wpAnyH_take (i:=4) (v:=?_) A7 kR kR kR A8 (Or.inl ⟨rF,?_⟩) A9 ?_
    rotate_left 1
    ·(intro wS hSw;(try dsimp only at hSw);go_simp;try(with_reducible rfl))
    try simp only[Act.put,List.setIfInBounds_toArray,List.set_cons_zero,List.set_cons_succ]
    refine wpAnyH_take (i:=5) (v:=?_) A7 kR kR kR A8 (Or.inl ⟨rF,?_⟩) A9 ?_
    rotate_left 1
    ·(intro wS hSw;(try dsimp only at hSw);go_simp;try(with_reducible rfl))
    try simp only[Act.put,List.setIfInBounds_toArray,List.set_cons_zero,List.set_cons_succ]
    refine wpAnyH_take (i:=6) (v:=?_) A7 kR kR kR A8 (Or.inl ⟨rF,?_⟩) A9 ?_
    rotate_left 1
    ·(intro wS hSw;(try dsimp only at hSw);go_simp;try(with_reducible rfl))
    try simp only[Act.put,List.setIfInBounds_toArray,List.set_cons_zero,List.set_cons_succ]
    clear hJ;refine AR 7 fun K hK=>?_;go_simp;(go_at_call 33;(with_reducible refine(HK.out _).mono ?_);rintro e w2 ⟨rfl,hb2⟩;have HB2:Hid (Below wr.heap.size wr w2):=bel (Ag _) hb2;clear hb2;obtain⟨-,-,c0,c1,c2,c3⟩:=HCX.out.next HB2.out;have x0:=kc HB2.out y0;have x1:=kc HB2.out y1);exact Re
  have hjn:j=n1:=oM;have HT:Hid (Aq c=true):=by
   show _=_;have h5:=hall.out;rw[hjn,<-HN1.out,List.take_length]at h5;unfold Aq;rw[HN0.out];exact h5
  have e1:¬ (j:Int)<(n1:Int):=oM;clear hall hlt;go_wp2;clear e1 c0 c1 c2 c3 b1 b2
  go_loopw [6] (fun iv wr=>CX w (.slice p0 n0 q0) (.slice p1 n1 q1) (.slice p2 n2 q2) (.slice p3 n3 q3) wr/\∃j:Nat,j<=n2/\iv=.int .i64 (j:Int)/\Hid ((c.slots.take j).all (fun s=>B1 s n0)=true)) (fun iv _=>n2-(intOf iv).toNat)
  case atStart=>exact⟨HCX.out,0,gI _,rfl,by show _=_;simp⟩
  case round=>
   obtain⟨hcx,j,hj,rfl,hall⟩:=hrel;have HCX:Hid (CX w (.slice p0 n0 q0) (.slice p1 n1 q1) (.slice p2 n2 q2) (.slice p3 n3 q3) wr):=hcx;obtain⟨b1,b2,c0,c1,c2,c3⟩:=hcx;by_cases hlt:j<n2
   .have hll:j<c.slots.length:=by rw[HN2.out];exact hlt
    obtain⟨b,o,rfl,hx⟩:=HSLOTS.at hll;have KN:=HMS.out c.slots[j] (gD hll);have NX:Hid (B1 c.slots[j] n0=true->(c.slots.take (j+1)).all (fun s=>B1 s n0)=true):=fun h=>GP _ hll hall.out h;have NB:Hid (B1 c.slots[j] n0=false->(160,-1)=(RA,RB)):=fun h=>by
     have h5:Bi c=false:=by unfold Bi;rw[HN0.out];exact J2 _ hll h
     have h6:=HRES.out;rw[h5,Bool.and_false,if_neg dE]at h6;exact h6
    obtain⟨⟨⟨K,P⟩,kp,sb,si⟩,hT⟩:∃T:Sl,c.slots[j]=T:=⟨_,rfl⟩
    rw[hT]at hx KN NX NB;have y0:wr.cell? ⟨b,o+j*5,none⟩=some (.int .i64 K):=kc b1 (hx.at 0 rfl);have y1:wr.cell? ⟨b,o+j*5+1,none⟩=some (.int .i64 P):=kc b1 (hx.at 1 rfl);have y2:wr.cell? ⟨b,o+j*5+2,none⟩=some (.bool kp):=kc b1 (hx.at 2 rfl);have y3:wr.cell? ⟨b,o+j*5+3,none⟩=some (.int .u32 sb):=kc b1 (hx.at 3 rfl);have y4:wr.cell? ⟨b,o+j*5+4,none⟩=some (.int .i64 si):=kc b1 (hx.at 4 rfl);obtain⟨X,hX⟩:=gA (B1 ⟨⟨K,P⟩,kp,sb,si⟩ n0)
    rw[hX]at NX NB;simp only[hX]at KN;have HK:Hid (∀v,Calls prog 34 #[.agg #[.int .i64 K,.int .i64 P,.bool kp,.int .u32 sb,.int .i64 si],.slice p0 n0 q0] v fun e w'=>e=.returned (.bool X)/\Below v.heap.size v w'):=KN;have i1:(0:Int)<=(j:Int):=oM;have i2:(j:Int)<(n2:Int):=oM;clear KN hT hX hx hall;cases X
    .go_wp2;refine rG (fun v=>v.cell? ⟨w.heap.size,2,none⟩=some (.slice (some ⟨b,o,none⟩) n2 q2)/\v.cell? ⟨w.heap.size,0,none⟩=some (.slice p0 n0 q0)/\v.cell? ⟨b,o+j*5,none⟩=some (.int .i64 K)/\v.cell? ⟨b,o+j*5+1,none⟩=some (.int .i64 P)/\v.cell? ⟨b,o+j*5+2,none⟩=some (.bool kp)/\v.cell? ⟨b,o+j*5+3,none⟩=some (.int .u32 sb)/\v.cell? ⟨b,o+j*5+4,none⟩=some (.int .i64 si)) fun hJ=>?_;refine wpAnyH_take (i:=0) (v:=?_) A7 kR kR kR A8 (Or.inl ⟨rF,?_⟩) A9 ?_
     rotate_left 1
     ·(intro wS hSw;(try dsimp only at hSw);go_simp;try(with_reducible rfl))
     try simp only[Act.put,List.setIfInBounds_toArray,List.set_cons_zero,List.set_cons_succ]
     refine wpAnyH_take (i:=1) (v:=?_) A7 kR kR kR A8 (Or.inl ⟨rF,?_⟩) A9 ?_
     rotate_left 1
     ·(intro wS hSw;(try dsimp only at hSw);go_simp;try(with_reducible rfl))
     try simp only[Act.put,List.setIfInBounds_toArray,List.set_cons_zero,List.set_cons_succ]
     refine wpAnyH_take (i:=2) (v:=?_) A7 kR kR kR A8 (Or.inl ⟨rF,?_⟩) A9 ?_
     rotate_left 1
     ·(intro wS hSw;(try dsimp only at hSw);go_simp;try(with_reducible rfl))
     try simp only[Act.put,List.setIfInBounds_toArray,List.set_cons_zero,List.set_cons_succ]
     refine wpAnyH_take (i:=3) (v:=?_) A7 kR kR kR A8 (Or.inl ⟨rF,?_⟩) A9 ?_
     rotate_left 1
     ·(intro wS hSw;(try dsimp only at hSw);go_simp;try(with_reducible rfl))
     try simp only[Act.put,List.setIfInBounds_toArray,List.set_cons_zero,List.set_cons_succ]
     refine wpAnyH_take (i:=4) (v:=?_) A7 kR kR kR A8 (Or.inl ⟨rF,?_⟩) A9 ?_
     rotate_left 1
     ·(intro wS hSw;(try dsimp only at hSw);go_simp;try(with_reducible rfl))
     try simp only[Act.put,List.setIfInBounds_toArray,List.set_cons_zero,List.set_cons_succ]
     refine wpAnyH_take (i:=5) (v:=?_) A7 kR kR kR A8 (Or.inl ⟨rF,?_⟩) A9 ?_
     rotate_left 1
     ·(intro wS hSw;(try dsimp only at hSw);go_simp;try(with_reducible rfl))
     try simp only[Act.put,List.setIfInBounds_toArray,List.set_cons_zero,List.set_cons_succ]
     refine wpAnyH_take (i:=6) (v:=?_) A7 kR kR kR A8 (Or.inl ⟨rF,?_⟩) A9 ?_
     rotate_left 1
     ·(intro wS hSw;(try dsimp only at hSw);go_simp;try(with_reducible rfl))
     try simp only[Act.put,List.setIfInBounds_toArray,List.set_cons_zero,List.set_cons_succ]
     clear hJ;refine AR 7 fun K hK=>?_;go_simp;(go_at_call 34;(with_reducible refine(HK.out _).mono ?_);rintro e w2 ⟨rfl,hb2⟩;have HB2:Hid (Below wr.heap.size wr w2):=bel (Ag _) hb2;clear hb2;obtain⟨-,-,c0,c1,c2,c3⟩:=HCX.out.next HB2.out;have x0:=kc HB2.out y0;have x1:=kc HB2.out y1;have x2:=kc HB2.out y2;have x3:=kc HB2.out y3;have x4:=kc HB2.out y4);exact Rh
    .go_wp2;refine rG (fun v=>v.cell? ⟨w.heap.size,2,none⟩=some (.slice (some ⟨b,o,none⟩) n2 q2)/\v.cell? ⟨w.heap.size,0,none⟩=some (.slice p0 n0 q0)/\v.cell? ⟨b,o+j*5,none⟩=some (.int .i64 K)/\v.cell? ⟨b,o+j*5+1,none⟩=some (.int .i64 P)/\v.cell? ⟨b,o+j*5+2,none⟩=some (.bool kp)/\v.cell? ⟨b,o+j*5+3,none⟩=some (.int .u32 sb)/\v.cell? ⟨b,o+j*5+4,none⟩=some (.int .i64 si)) fun hJ=>?_;refine wpAnyH_take (i:=0) (v:=?_) A7 kR kR kR A8 (Or.inl ⟨rF,?_⟩) A9 ?_
     rotate_left 1
     ·(intro wS hSw;(try dsimp only at hSw);go_simp;try(with_reducible rfl))
     try simp only[Act.put,List.setIfInBounds_toArray,List.set_cons_zero,List.set_cons_succ]
     refine wpAnyH_take (i:=1) (v:=?_) A7 kR kR kR A8 (Or.inl ⟨rF,?_⟩) A9 ?_
     rotate_left 1
     ·(intro wS hSw;(try dsimp only at hSw);go_simp;try(with_reducible rfl))
     try simp only[Act.put,List.setIfInBounds_toArray,List.set_cons_zero,List.set_cons_succ]
     refine wpAnyH_take (i:=2) (v:=?_) A7 kR kR kR A8 (Or.inl ⟨rF,?_⟩) A9 ?_
     rotate_left 1
     ·(intro wS hSw;(try dsimp only at hSw);go_simp;try(with_reducible rfl))
     try simp only[Act.put,List.setIfInBounds_toArray,List.set_cons_zero,List.set_cons_succ]
     refine wpAnyH_take (i:=3) (v:=?_) A7 kR kR kR A8 (Or.inl ⟨rF,?_⟩) A9 ?_
     rotate_left 1
     ·(intro wS hSw;(try dsimp only at hSw);go_simp;try(with_reducible rfl))
     try simp only[Act.put,List.setIfInBounds_toArray,List.set_cons_zero,List.set_cons_succ]
     refine wpAnyH_take (i:=4) (v:=?_) A7 kR kR kR A8 (Or.inl ⟨rF,?_⟩) A9 ?_
     rotate_left 1
     ·(intro wS hSw;(try dsimp only at hSw);go_simp;try(with_reducible rfl))
     try simp only[Act.put,List.setIfInBounds_toArray,List.set_cons_zero,List.set_cons_succ]
     refine wpAnyH_take (i:=5) (v:=?_) A7 kR kR kR A8 (Or.inl ⟨rF,?_⟩) A9 ?_
     rotate_left 1
     ·(intro wS hSw;(try dsimp only at hSw);go_simp;try(with_reducible rfl))
     try simp only[Act.put,List.setIfInBounds_toArray,List.set_cons_zero,List.set_cons_succ]
     refine wpAnyH_take (i:=6) (v:=?_) A7 kR kR kR A8 (Or.inl ⟨rF,?_⟩) A9 ?_
     rotate_left 1
     ·(intro wS hSw;(try dsimp only at hSw);go_simp;try(with_reducible rfl))
     try simp only[Act.put,List.setIfInBounds_toArray,List.set_cons_zero,List.set_cons_succ]
     clear hJ;refine AR 7 fun K hK=>?_;go_simp;(go_at_call 34;(with_reducible refine(HK.out _).mono ?_);rintro e w2 ⟨rfl,hb2⟩;have HB2:Hid (Below wr.heap.size wr w2):=bel (Ag _) hb2;clear hb2;obtain⟨-,-,c0,c1,c2,c3⟩:=HCX.out.next HB2.out;have x0:=kc HB2.out y0;have x1:=kc HB2.out y1;have x2:=kc HB2.out y2;have x3:=kc HB2.out y3;have x4:=kc HB2.out y4);exact Re
   have hjn2:j=n2:=oM;have HGO0:Hid (FO c ⟨[],[]⟩ 0 c.list=(RA,RB)):=by
    show _=_;have h5:=hall.out;rw[hjn2,<-HN2.out,List.take_length]at h5;have h6:Bi c=true:=by unfold Bi;rw[HN0.out];exact h5
    have h7:=HRES.out;rw[HT.out,h6,if_pos rF]at h7;exact h7
   have e1:¬ (j:Int)<(n2:Int):=oM;clear hall hlt;go_wp2;clear e1 c0 c1 c2 c3 b1 b2
   go_loopw [7,8] (fun sv iv wr=>CX w (.slice p0 n0 q0) (.slice p1 n1 q1) (.slice p2 n2 q2) (.slice p3 n3 q3) wr/\∃ (k:Nat) (p:Option Addr) (q:Nat),k<=n1/\iv=.int .i64 (k:Int)/\sv=.slice p k q/\wr.ownsRow (w.heap.size+1) 4 1 (.slice p k q) k (BT k [])) (fun _ iv _=>n1-(intOf iv).toNat)
   case atStart=>exact⟨HCX.out,0,none,0,gI _,rfl,rfl,by rw[show BT 0 []=[] from rfl];exact World.ownsRow_nil _ _ _ 1⟩
   case round=>
    obtain⟨hcx,k,p,q,hkn,rfl,rfl,how⟩:=hrel;have HCX:Hid (CX w (.slice p0 n0 q0) (.slice p1 n1 q1) (.slice p2 n2 q2) (.slice p3 n3 q3) wr):=hcx;obtain⟨b1,b2,c0,c1,c2,c3⟩:=hcx;by_cases hkl:k<n1
    .obtain⟨g,c',w8,hap,hb8,ho8⟩:=LA how oM oM;have HAP:Hid ((Builtin.append_ #[88,88] 88 #[.slice p k q,.slice (some ⟨wr.heap.size,0,none⟩) 1 1]).run prog (wr.alloc (.cells #[.bool false] 4))=.ok (.slice (some ⟨g,0,none⟩) (k+1) c') w8):=hap;have HY8:Hid (CX w (.slice p0 n0 q0) (.slice p1 n1 q1) (.slice p2 n2 q2) (.slice p3 n3 q3) w8/\w8.ownsRow (w.heap.size+1) 4 1 (.slice (some ⟨g,0,none⟩) (k+1) c') (k+1) (BT (k+1) [])):=by
      refine⟨HCX.on hb8,?_⟩;rw[Hu,List.replicate_succ',<-Hu];exact ho8
     have i2:(k:Int)<(n1:Int):=oM;have wi:IntKind.i64.wrap ((k:Int)+1)=((k+1:Nat):Int):=by rw[IntKind.wrap_i64];omega
     clear hap hb8 ho8 how;go_wp2_with(at_builtin;refine AF rF _ _ _ rF _ _ _ rF rF HAP.out ?_);go_roundw
     case rel=>exact⟨HY8.1,k+1,_,_,oM,gN,rfl,HY8.2⟩
     case measure=>simp[intOf];omega
    have hkn1:k=n1:=oM;subst hkn1;have HSK0:Hid (SK (w.heap.size+1) k wr (.slice p k q) (.slice none 0 0) ⟨[],[]⟩ []):=SK.start wr _ b2 how;have e1:¬ (k:Int)<(k:Int):=oM;clear how hkl;go_wp2;clear e1 c0 c1 c2 c3 b1 b2
    go_loopw [7,9,10] (fun sv ov iv wr=>CX w (.slice p0 n0 q0) (.slice p1 k q1) (.slice p2 n2 q2) (.slice p3 n3 q3) wr/\∃ (j:Nat) (s:Wk) (us:List Value),j<=n3/\iv=.int .i64 (j:Int)/\Hid (SK (w.heap.size+1) k wr sv ov s us)/\Hid (Cy k s)/\Hid (Cj s)/\Hid (FO c s j (c.list.drop j)=(RA,RB))) (fun _ _ iv _=>n3-(intOf iv).toNat)
    case atStart=>exact⟨HCX.out,0,⟨[],[]⟩,[],gI _,rfl,HSK0.out,Cy.start k,Cj.start,by show _=_;rw[List.drop_zero];exact HGO0.out⟩
    case round=>
     obtain⟨hcx,j,s,us,hj,rfl,hsk,hok,hpo,hgo⟩:=hrel;obtain⟨po,qo,rfl⟩:=At hsk.opn;obtain⟨ps,qs,rfl⟩:=At hsk.set;have HCX:Hid (CX w (.slice p0 n0 q0) (.slice p1 k q1) (.slice p2 n2 q2) (.slice p3 n3 q3) wr):=hcx;obtain⟨b1,b2,f0,f1,f2,f3⟩:=hcx;have hnest:=hok.nest;clear HSK0;by_cases hlt:j<n3
     .have hll:j<c.list.length:=by rw[HN3.out];exact hlt
      obtain⟨b,o,rfl,hx⟩:=HLIST.at hll;have hgo':=hgo.out;rw[List.drop_eq_getElem_cons hll]at hgo';have hgi:FO c s j (c.list[j]::c.list.drop (j+1))=if Bb c s c.list[j]then FO c (AE s c.list[j]) (j+1) (c.list.drop (j+1))else(160,(j:Int)):=rfl;rw[hgi]at hgo';have hib:=HCO.ibits c.list[j] (gD hll);have hos:Bb c s c.list[j]=true->Cy k (AE s c.list[j])/\Cj (AE s c.list[j]):=fun ht=>by
       have hq:Cy c.regs.length s:=by rw[HN1.out];exact hok.out
       have h5:=Cy.step hq ht;rw[HN1.out]at h5;exact⟨h5,hpo.step ht⟩
      have htk:Bb c s c.list[j]=true->B8 c c.list[j] (Ad c.list[j].op)=true/\AO c s c.list[j] (Ad c.list[j].op)=true:=fun ht=>by
       obtain⟨-,h5,h6,-⟩:=Df ht;exact⟨h5,h6⟩
      obtain⟨⟨op,D,A,Q,E,nn,bt⟩,hxx⟩:∃x:AB,c.list[j]=x:=⟨_,rfl⟩
      rw[hxx]at hx hgo' hos htk hib;have KS:=Hr _ _ _ _ c HCO.out HT.out (⟨op,D,A,Q,E,nn,bt⟩:AB) hib.1 hib.2 (w.heap.size+1) s (.slice ps k qs) (.slice po s.opens.length qo) us (by rw[HN1.out];exact h1) (by rw[HN1.out];exact hok.out) hpo.out (wr.alloc (.cells #[.int .i64 op,.int .i64 D,.int .i64 A,.int .i64 Q,.int .i64 E,.int .i64 nn,.int .u32 bt] 70)) ((HCV.below b1).below (A5 _ _)) (by rw[HN1.out];exact hsk.below (A5 _ _));have x0:=kc b1 (hx.at 0 rfl);have x1:=kc b1 (hx.at 1 rfl);have x2:=kc b1 (hx.at 2 rfl);have x3:=kc b1 (hx.at 3 rfl);have x4:=kc b1 (hx.at 4 rfl);have x5:=kc b1 (hx.at 5 rfl);have x6:=kc b1 (hx.at 6 rfl);rw[Nat.add_zero]at x0;obtain⟨-,-,f0',f1',f2',f3'⟩:=HCX.next (A5 wr (.cells #[.int .i64 op,.int .i64 D,.int .i64 A,.int .i64 Q,.int .i64 E,.int .i64 nn,.int .u32 bt] 70));have HIX:Hid (∀v,Below (wr.alloc (.cells #[.int .i64 op,.int .i64 D,.int .i64 A,.int .i64 Q,.int .i64 E,.int .i64 nn,.int .u32 bt] 70)).heap.size (wr.alloc (.cells #[.int .i64 op,.int .i64 D,.int .i64 A,.int .i64 Q,.int .i64 E,.int .i64 nn,.int .u32 bt] 70)) v->v.cell? ⟨wr.heap.size,0,none⟩=some (.int .i64 op)/\v.cell? ⟨wr.heap.size,1,none⟩=some (.int .i64 D)/\v.cell? ⟨wr.heap.size,2,none⟩=some (.int .i64 A)/\v.cell? ⟨wr.heap.size,3,none⟩=some (.int .i64 Q)/\v.cell? ⟨wr.heap.size,4,none⟩=some (.int .i64 E)/\v.cell? ⟨wr.heap.size,5,none⟩=some (.int .i64 nn)/\v.cell? ⟨wr.heap.size,6,none⟩=some (.int .u32 bt)):=fun v hb=>⟨kc hb sG,kc hb sG,kc hb sG,kc hb sG,kc hb sG,kc hb sG,kc hb sG⟩
      obtain⟨T,hT⟩:=gA (Bb c s (⟨op,D,A,Q,E,nn,bt⟩:AB))
      rw[hT]at hgo' hos htk KS;have HST:Hid (Calls prog 35 #[.agg #[.slice p0 n0 q0,.slice p1 k q1,.slice p2 n2 q2,.slice (some ⟨b,o,none⟩) n3 q3],.agg #[.int .i64 op,.int .i64 D,.int .i64 A,.int .i64 Q,.int .i64 E,.int .i64 nn,.int .u32 bt],.slice ps k qs,.slice po s.opens.length qo] (wr.alloc (.cells #[.int .i64 op,.int .i64 D,.int .i64 A,.int .i64 Q,.int .i64 E,.int .i64 nn,.int .u32 bt] 70)) fun e w'=>e=.returned (.bool T)/\Below (wr.alloc (.cells #[.int .i64 op,.int .i64 D,.int .i64 A,.int .i64 Q,.int .i64 E,.int .i64 nn,.int .u32 bt] 70)).heap.size (wr.alloc (.cells #[.int .i64 op,.int .i64 D,.int .i64 A,.int .i64 Q,.int .i64 E,.int .i64 nn,.int .u32 bt] 70)) w'):=KS;have HGO:Hid ((if T=true then FO c (AE s (⟨op,D,A,Q,E,nn,bt⟩:AB)) (j+1) (c.list.drop (j+1))else(160,(j:Int)))=(RA,RB)):=hgo';have HOS:Hid (T=true->Cy k (AE s (⟨op,D,A,Q,E,nn,bt⟩:AB))/\Cj (AE s (⟨op,D,A,Q,E,nn,bt⟩:AB))):=hos;have HTK:Hid (T=true->B8 c (⟨op,D,A,Q,E,nn,bt⟩:AB) (Ad op)=true/\AO c s (⟨op,D,A,Q,E,nn,bt⟩:AB) (Ad op)=true):=htk;have k1:(0:Int)<=(j:Int):=oM;have k2:(j:Int)<(n3:Int):=oM;have wj:IntKind.i64.wrap ((j:Int)+1)=((j+1:Nat):Int):=by rw[IntKind.wrap_i64];omega
      clear KS hgo hgo' hgi hos htk hT hx hxx hib hll;cases T
      .have HQ:Hid ((160,(j:Int))=(RA,RB)):=by show _=_;have:=HGO.out;rw[if_neg dE]at this;exact this
       go_wp2_with(go_at_call 35;(with_reducible refine HST.out.mono ?_);rintro e w5 ⟨rfl,hb5⟩;have HB5:Hid (Below (wr.alloc (.cells #[.int .i64 op,.int .i64 D,.int .i64 A,.int .i64 Q,.int .i64 E,.int .i64 nn,.int .u32 bt] 70)).heap.size (wr.alloc (.cells #[.int .i64 op,.int .i64 D,.int .i64 A,.int .i64 Q,.int .i64 E,.int .i64 nn,.int .u32 bt] 70)) w5):=hb5;clear hb5 f0 f1 f2 f3;obtain⟨-,-,f0,f1,f2,f3⟩:=(HCX.out.next (A5 _ _)).next HB5.out;obtain⟨i0,i1,i2,i3,i4,i5,i6⟩:=HIX.out w5 HB5.out)
       go_ret2
       exact⟨Em HQ.out,bel (bel HCX.bel (A5 _ _)) HB5.out⟩
      .have HO1:Hid (Cy k (AE s (⟨op,D,A,Q,E,nn,bt⟩:AB))/\Cj (AE s (⟨op,D,A,Q,E,nn,bt⟩:AB))):=HOS.out rfl;have HG1:Hid (FO c (AE s (⟨op,D,A,Q,E,nn,bt⟩:AB)) (j+1) (c.list.drop (j+1))=(RA,RB)):=by show _=_;have:=HGO.out;rw[if_pos rfl]at this;exact this
       have HTK1:Hid (B8 c (⟨op,D,A,Q,E,nn,bt⟩:AB) (Ad op)=true/\AO c s (⟨op,D,A,Q,E,nn,bt⟩:AB) (Ad op)=true):=HTK.out rfl;have HOB:Hid (∀g,(Value.slice po s.opens.length qo).ownBlock=some g->g<wr.heap.size):=fun g e=>(hsk.opn.lt g e).2;clear HGO HOS HTK;by_cases hop:op=34\/op=36
       .have hn64:s.opens.length<64:=E1 (i:=(⟨op,D,A,Q,E,nn,bt⟩:AB)) HTK1.2 hop;have HOP:Hid (op=34\/op=36):=hop;have HCP:Hid (∀v,Below wr.heap.size wr v->Calls prog 36 #[.slice ps k qs] v fun e w'=>∃u,e=.returned u/\w'.ownsRow v.heap.size 4 1 u k (BT k s.set)/\Below v.heap.size v w'):=fun v hb=>EU _ h1 v (AH hsk.set hb);have hq:((op==34)=true)\/((op==34)=false/\(op==36)=true):=by
         rcases hop with e|e
         .exact .inl (by simpa using e)
         .exact .inr ⟨by rw[e];decide,by simpa using e⟩
        clear hop;rcases hq with r1|⟨r1,r2⟩
        all_goals
         go_wp2_with(go_at_call 35;(with_reducible refine HST.out.mono ?_);rintro e w5 ⟨rfl,hb5⟩;have HB5:Hid (Below (wr.alloc (.cells #[.int .i64 op,.int .i64 D,.int .i64 A,.int .i64 Q,.int .i64 E,.int .i64 nn,.int .u32 bt] 70)).heap.size (wr.alloc (.cells #[.int .i64 op,.int .i64 D,.int .i64 A,.int .i64 Q,.int .i64 E,.int .i64 nn,.int .u32 bt] 70)) w5):=hb5;have HBR:Hid (Below wr.heap.size wr w5):=bel (A5 _ _) hb5;clear hb5 f0 f1 f2 f3;obtain⟨-,-,f0,f1,f2,f3⟩:=(HCX.out.next (A5 _ _)).next HB5.out;obtain⟨i0,i1,i2,i3,i4,i5,i6⟩:=HIX.out w5 HB5.out);refine rG (fun v=>v.cell? ⟨wr.heap.size,0,none⟩=some (.int .i64 op)/\v.cell? ⟨wr.heap.size,5,none⟩=some (.int .i64 nn)) fun hJ=>?_;refine wpAnyH_take (i:=0) (v:=?_) A7 kR kR kR A8 (Or.inl ⟨rF,?_⟩) A9 ?_
         rotate_left 1
         ·(intro wS hSw;(try dsimp only at hSw);go_simp;try(with_reducible rfl))
         try simp only[Act.put,List.setIfInBounds_toArray,List.set_cons_zero,List.set_cons_succ]
         refine wpAnyH_take (i:=1) (v:=?_) A7 kR kR kR A8 (Or.inl ⟨rF,?_⟩) A9 ?_
         rotate_left 1
         ·(intro wS hSw;(try dsimp only at hSw);go_simp;try(with_reducible rfl))
         try simp only[Act.put,List.setIfInBounds_toArray,List.set_cons_zero,List.set_cons_succ]
         refine wpAnyH_take (i:=2) (v:=?_) A7 kR kR kR A8 (Or.inl ⟨rF,?_⟩) A9 ?_
         rotate_left 1
         ·(intro wS hSw;(try dsimp only at hSw);go_simp;try(with_reducible rfl))
         try simp only[Act.put,List.setIfInBounds_toArray,List.set_cons_zero,List.set_cons_succ]
         refine wpAnyH_take (i:=3) (v:=?_) A7 kR kR kR A8 (Or.inl ⟨rF,?_⟩) A9 ?_
         rotate_left 1
         ·(intro wS hSw;(try dsimp only at hSw);go_simp;try(with_reducible rfl))
         try simp only[Act.put,List.setIfInBounds_toArray,List.set_cons_zero,List.set_cons_succ]
         refine wpAnyH_take (i:=4) (v:=?_) A7 kR kR kR A8 (Or.inl ⟨rF,?_⟩) A9 ?_
         rotate_left 1
         ·(intro wS hSw;(try dsimp only at hSw);go_simp;try(with_reducible rfl))
         try simp only[Act.put,List.setIfInBounds_toArray,List.set_cons_zero,List.set_cons_succ]
         refine wpAnyH_take (i:=5) (v:=?_) A7 kR kR kR A8 (Or.inl ⟨rF,?_⟩) A9 ?_
         rotate_left 1
         ·(intro wS hSw;(try dsimp only at hSw);go_simp;try(with_reducible rfl))
         try simp only[Act.put,List.setIfInBounds_toArray,List.set_cons_zero,List.set_cons_succ]
         clear hJ;refine AR 6 fun K hK=>?_;go_simp;(go_at_call 36;(with_reducible refine(HCP.out _ (bel HBR.out (Ag _))).mono ?_);rintro e w6 ⟨u,rfl,hu,hb6⟩;obtain⟨pu,qu,rfl⟩:=At hu;have hb66:Below w5.heap.size w5 w6:=bel (Ag _) hb6;obtain⟨g',c',w7,hrun,hb7,hsk7,hoth⟩:=SK.push (i:=(⟨op,D,A,Q,E,nn,bt⟩:AB)) (hsk.out.below HBR.out) hb66 hu HOP.out hn64 89;dsimp only at hrun;have HRUN:Hid _:=hrun;have HX7:Hid (CX w (.slice p0 n0 q0) (.slice p1 k q1) (.slice p2 n2 q2) (.slice (some ⟨b,o,none⟩) n3 q3) w7):=((HCX.out.next (A5 _ _)).next HB5.out).on hb7;have HS7:Hid (SK (w.heap.size+1) k w7 (.slice ps k qs) (.slice (some ⟨g',0,none⟩) (s.opens.length+1) c') (AE s (⟨op,D,A,Q,E,nn,bt⟩:AB)) (us++[.slice pu k qu])):=hsk7;have j0:=kc hb66 i0;have j5:=kc hb66 i5;have hwl:wr.heap.size<w6.heap.size:=Ae j0;have hne:(Value.slice po s.opens.length qo).ownBlock≠some wr.heap.size:=(fun e=>Nat.lt_irrefl _ (HOB.out _ e));have m0:w7.cell? ⟨wr.heap.size,0,none⟩=some (.int .i64 op):=(gC (hoth _ hwl hne)).trans j0;have m5:w7.cell? ⟨wr.heap.size,5,none⟩=some (.int .i64 nn):=(gC (hoth _ hwl hne)).trans j5;have a0:∀x,(w6.alloc x).cell? ⟨wr.heap.size,0,none⟩=some (.int .i64 op):=(fun x=>kc (A5 _ _) j0);have a5:∀x,(w6.alloc x).cell? ⟨wr.heap.size,5,none⟩=some (.int .i64 nn):=(fun x=>kc (A5 _ _) j5);clear hu hb6 hb66 hrun hb7 hsk7 hoth hne i0 i5);try(go_wp2_with fail)
         refine AX hK fun hJ=>?_;clear hK K;refine wpAnyH_take (i:=7) (v:=?_) A7 kR kR kR A8 (Or.inl ⟨rF,?_⟩) A9 ?_
         rotate_left 1
         ·(intro wS hSw;(try dsimp only at hSw);go_simp;try(with_reducible rfl))
         try simp only[Act.put,List.setIfInBounds_toArray,List.set_cons_zero,List.set_cons_succ]
         clear hJ;refine AR 8 fun K hK=>?_;go_simp;refine AX hK fun hJ=>?_;clear hK K;clear hJ;refine AR 9 fun K hK=>?_;refine IH _ _ _ rF _ _ _ rF rF HRUN.out ?_ _ rF;refine AX hK fun hJ=>?_;clear hK K;refine wpAnyH_take (i:=10) (v:=?_) A7 kR kR kR A8 (Or.inl ⟨rF,?_⟩) A9 ?_
         rotate_left 1
         ·(intro wS hSw;(try dsimp only at hSw);go_simp;try(with_reducible rfl))
         try simp only[Act.put,List.setIfInBounds_toArray,List.set_cons_zero,List.set_cons_succ]
         refine wpAnyH_done kR ?_ _;go_wp2;go_roundw
         case rel=>exact⟨HX7.out,j+1,AE s (⟨op,D,A,Q,E,nn,bt⟩:AB),us++[Value.slice pu k qu],oM,gN,HS7,HO1.1,HO1.2,HG1.out⟩
         case measure=>simp[intOf];omega
       have q34:(op==34)=false:=by have:op≠34:=fun e=>hop (.inl e);simpa using this
       have q36:(op==36)=false:=by have:op≠36:=fun e=>hop (.inr e);simpa using this
       have HNO:Hid (op≠34/\op≠36):=⟨fun e=>hop (.inl e),fun e=>hop (.inr e)⟩
       clear hop;by_cases h35:op=35
       .have hmay:=HTK1.2;unfold AO at hmay;rw[if_neg (fun e=>e.elim HNO.1 HNO.2),if_pos h35]at hmay;simp only[Bool.and_eq_true,Bool.not_eq_true']at hmay;have hn0:0<s.opens.length:=by
         rcases Nat.eq_zero_or_pos s.opens.length with e|e
         .have:=List.length_eq_zero_iff.1 e;rw[this]at hmay;exact absurd hmay.1 dE
         .exact e
        have HLP:Hid (AI s=false):=hmay.2;obtain⟨g,cap,eo,-⟩:=hsk.opn.form hn0;simp only[Value.slice.injEq]at eo;obtain⟨rfl,-,-⟩:=eo;obtain⟨X,u,hX,hu,-,-,z2⟩:=hsk.last hn0;obtain⟨pu,qu,rfl⟩:=At hu;have HXO:Hid ((FT s)[s.opens.length-1]? =some ⟨if AI s then 36 else 34,BH s,X⟩):=hX;have HCP:Hid (∀v,Below wr.heap.size wr v->Calls prog 36 #[.slice pu k qu] v fun e w'=>∃u,e=.returned u/\w'.ownsRow v.heap.size 4 1 u k (BT k X)/\Below v.heap.size v w'):=fun v hb=>EU _ h1 v (AH hu hb);have s1:=fun w=>DL OF N8 (some ⟨g,0,none⟩) s.opens.length qo (s.opens.length-1) (by have:=GA hsk.opn;omega) w;have HN0':Hid (0<s.opens.length):=hn0;obtain⟨N,hN⟩:=gA (s.opens.length)
        obtain⟨m,hm⟩:=gA (N-1)
        have HNN:Hid (s.opens.length=N):=hN;have HMM:Hid (N-1=m):=hm;rw[hN]at z2 s1 hn0 hnest;rw[hm]at z2 s1;rw[hN]at HST;rw[hN];have hw:IntKind.i64.wrap ((N:Int)-1)=(m:Int):=by rw[IntKind.wrap_i64];omega
        have r1:(0:Int)<=(m:Int):=oM;have r2:(m:Int)<(N:Int):=oM;have q35:(op==35)=true:=by simpa using h35
        have HOP:Hid (op=35\/op=37):=.inl h35;clear hmay hX hu h35 hN hm;go_wp2_with(first
         |(go_at_call 35;(with_reducible refine HST.out.mono ?_);rintro e w5 ⟨rfl,hb5⟩;have HB5:Hid (Below (wr.alloc (.cells #[.int .i64 op,.int .i64 D,.int .i64 A,.int .i64 Q,.int .i64 E,.int .i64 nn,.int .u32 bt] 70)).heap.size (wr.alloc (.cells #[.int .i64 op,.int .i64 D,.int .i64 A,.int .i64 Q,.int .i64 E,.int .i64 nn,.int .u32 bt] 70)) w5):=hb5;have HBR:Hid (Below wr.heap.size wr w5):=bel (A5 _ _) hb5;clear hb5 f0 f1 f2 f3;obtain⟨-,-,f0,f1,f2,f3⟩:=(HCX.out.next (A5 _ _)).next HB5.out;have z5:=kc HBR.out z2;obtain⟨i0,i1,i2,i3,i4,i5,i6⟩:=HIX.out w5 HB5.out)
         |(go_at_call 36;(with_reducible refine(HCP.out _ HBR.out).mono ?_);rintro e w6 ⟨u,rfl,hu,hb6⟩;have HU6:Hid (w6.ownsRow w5.heap.size 4 1 u k (BT k X)):=hu;have HB6:Hid (Below w5.heap.size w5 w6):=hb6;clear hu hb6))
        go_roundw
        case rel=>
         refine⟨((HCX.next (A5 _ _)).next HB5.out).next HB6.out,j+1,AE s (⟨op,D,A,Q,E,nn,bt⟩:AB),us.take (s.opens.length-1),oM,gN,?_,HO1.1,HO1.2,HG1.out⟩;have e1:AE s (⟨op,D,A,Q,E,nn,bt⟩:AB)=B5 s:=GK HOP.out;have h9:=SK.back (hsk.below HBR.out) hok.out HN0'.out HLP.out HB6.out HXO.out HU6.out;rw[e1,<-HMM.out,<-HNN.out];exact h9
        case measure=>simp[intOf];omega
       have q35:(op==35)=false:=by simpa using h35
       by_cases h37:op=37
       .have hmay:=HTK1.2;unfold AO at hmay;rw[if_neg (fun e=>e.elim HNO.1 HNO.2),if_neg h35,if_pos h37]at hmay;have hn0:0<s.opens.length:=by
         rcases Nat.eq_zero_or_pos s.opens.length with e|e
         .have:=List.length_eq_zero_iff.1 e;unfold AI at hmay;rw[this]at hmay;exact absurd hmay dE
         .exact e
        have HLP:Hid (AI s=true):=hmay;have s1:=fun w=>DL OF N8 po s.opens.length qo (s.opens.length-1) (by have:=GA hsk.opn;omega) w;have HN0':Hid (0<s.opens.length):=hn0;obtain⟨N,hN⟩:=gA (s.opens.length)
        obtain⟨m,hm⟩:=gA (N-1)
        have HNN:Hid (s.opens.length=N):=hN;have HMM:Hid (N-1=m):=hm;rw[hN]at s1 hn0 hnest;rw[hm]at s1;rw[hN]at HST;rw[hN];have hw:IntKind.i64.wrap ((N:Int)-1)=(m:Int):=by rw[IntKind.wrap_i64];omega
        have r1:(0:Int)<=(m:Int):=oM;have r2:(m:Int)<(N:Int):=oM;have q37:(op==37)=true:=by simpa using h37
        have HOP:Hid (op=35\/op=37):=.inr h37;clear hmay h35 h37 hN hm;go_wp2_with(go_at_call 35;(with_reducible refine HST.out.mono ?_);rintro e w5 ⟨rfl,hb5⟩;have HB5:Hid (Below (wr.alloc (.cells #[.int .i64 op,.int .i64 D,.int .i64 A,.int .i64 Q,.int .i64 E,.int .i64 nn,.int .u32 bt] 70)).heap.size (wr.alloc (.cells #[.int .i64 op,.int .i64 D,.int .i64 A,.int .i64 Q,.int .i64 E,.int .i64 nn,.int .u32 bt] 70)) w5):=hb5;have HBR:Hid (Below wr.heap.size wr w5):=bel (A5 _ _) hb5;clear hb5 f0 f1 f2 f3;obtain⟨-,-,f0,f1,f2,f3⟩:=(HCX.out.next (A5 _ _)).next HB5.out;obtain⟨i0,i1,i2,i3,i4,i5,i6⟩:=HIX.out w5 HB5.out);go_roundw
        case rel=>
         refine⟨(HCX.next (A5 _ _)).next HB5.out,j+1,AE s (⟨op,D,A,Q,E,nn,bt⟩:AB),us.take (s.opens.length-1),oM,gN,?_,HO1.1,HO1.2,HG1.out⟩;have e1:AE s (⟨op,D,A,Q,E,nn,bt⟩:AB)=B5 s:=GK HOP.out;have h9:=SK.pop (hsk.below HBR.out) hok.out HN0'.out HLP.out;rw[e1,<-HMM.out,<-HNN.out];exact h9
        case measure=>simp[intOf];omega
       have q37:(op==37)=false:=by simpa using h37
       have HNP:Hid (op≠34/\op≠35/\op≠36/\op≠37):=⟨HNO.1,h35,HNO.2,h37⟩
       have KE:=Lf (⟨op,D,A,Q,E,nn,bt⟩:AB);unfold N5 at KE;simp only at KE;have hdr:(Ad op).d≠0->0<=D/\D<(k:Int):=fun hd=>by
        have:=Bn (Gr HTK1.1) hd;rw[HN1.out]at this;exact this
       clear h35 h37;by_cases hsd:(Ad op).d=0
       .have e9:((Ad op).d != 0)=false:=by simp[hsd]
        rw[e9]at KE;have HKE:Hid (∀v,Calls prog 37 #[.agg #[.int .i64 op,.int .i64 D,.int .i64 A,.int .i64 Q,.int .i64 E,.int .i64 nn,.int .u32 bt]] v fun e w'=>e=.returned (.bool false)/\Below v.heap.size v w'):=KE;have HSD:Hid ((Ad op).d=0):=hsd;clear KE e9 hdr hsd;go_wp2_with(first
         |(go_at_call 35;(with_reducible refine HST.out.mono ?_);rintro e w5 ⟨rfl,hb5⟩;have HB5:Hid (Below (wr.alloc (.cells #[.int .i64 op,.int .i64 D,.int .i64 A,.int .i64 Q,.int .i64 E,.int .i64 nn,.int .u32 bt] 70)).heap.size (wr.alloc (.cells #[.int .i64 op,.int .i64 D,.int .i64 A,.int .i64 Q,.int .i64 E,.int .i64 nn,.int .u32 bt] 70)) w5):=hb5;have HBR:Hid (Below wr.heap.size wr w5):=bel (A5 _ _) hb5;clear hb5 f0 f1 f2 f3;obtain⟨-,-,f0,f1,f2,f3⟩:=(HCX.out.next (A5 _ _)).next HB5.out;obtain⟨i0,i1,i2,i3,i4,i5,i6⟩:=HIX.out w5 HB5.out)
         |(go_at_call 37;(with_reducible refine(HKE.out _).mono ?_);rintro e w6 ⟨rfl,hb6⟩;have HB6:Hid (Below w5.heap.size w5 w6):=hb6;clear hb6))
        go_roundw
        case rel=>exact⟨((HCX.next (A5 _ _)).next HB5.out).next HB6.out,j+1,AE s (⟨op,D,A,Q,E,nn,bt⟩:AB),us,oM,gN,SK.keep ((hsk.below HBR.out).below HB6.out) hok.out HNP.1 HNP.2.1 HNP.2.2.1 HNP.2.2.2 HSD.out,HO1.1,HO1.2,HG1.out⟩
        case measure=>simp[intOf];omega
       .have e9:((Ad op).d != 0)=true:=by simp[hsd]
        rw[e9]at KE;have HKE:Hid (∀v,Calls prog 37 #[.agg #[.int .i64 op,.int .i64 D,.int .i64 A,.int .i64 Q,.int .i64 E,.int .i64 nn,.int .u32 bt]] v fun e w'=>e=.returned (.bool true)/\Below v.heap.size v w'):=KE;have HSD:Hid ((Ad op).d≠0):=hsd;obtain⟨d,rfl⟩:∃d:Nat,D=(d:Int):=⟨D.toNat,by have:=hdr hsd;omega⟩
        have hd2:=(hdr hsd).2;obtain⟨gs,cap,eo,hgs,-⟩:=hsk.set.form oM;simp only[Value.slice.injEq]at eo;obtain⟨rfl,-,-⟩:=eo;have d0:(0:Int)<=(d:Int):=oM;have HG9:Hid (w.heap.size+1<=gs):=(hsk.set.lt gs rfl).1;have HCE:Hid (∀v,Below wr.heap.size wr v->v.cell? ⟨gs,d,none⟩=some (.bool (decide (d∈s.set)))/\v.frozen? ⟨gs,d,none⟩=false):=fun v hb=>by
         have h9:=AH hsk.set hb;exact⟨by rw[h9.cellAt d oM,Et oM],h9.frozenAt d⟩
        clear KE e9 hdr hsd;go_wp2_with(first
         |(go_at_call 35;(with_reducible refine HST.out.mono ?_);rintro e w5 ⟨rfl,hb5⟩;have HB5:Hid (Below (wr.alloc (.cells #[.int .i64 op,.int .i64 (d:Int),.int .i64 A,.int .i64 Q,.int .i64 E,.int .i64 nn,.int .u32 bt] 70)).heap.size (wr.alloc (.cells #[.int .i64 op,.int .i64 (d:Int),.int .i64 A,.int .i64 Q,.int .i64 E,.int .i64 nn,.int .u32 bt] 70)) w5):=hb5;have HBR:Hid (Below wr.heap.size wr w5):=bel (A5 _ _) hb5;clear hb5 f0 f1 f2 f3;obtain⟨-,-,f0,f1,f2,f3⟩:=(HCX.out.next (A5 _ _)).next HB5.out;obtain⟨i0,i1,i2,i3,i4,i5,i6⟩:=HIX.out w5 HB5.out)
         |(go_at_call 37;(with_reducible refine(HKE.out _).mono ?_);rintro e w6 ⟨rfl,hb6⟩;have HB6:Hid (Below w5.heap.size w5 w6):=hb6;obtain⟨y8,y9⟩:=HCE.out w6 (bel HBR.out hb6);have i1:=kc hb6 i1;clear hb6))
        go_roundw
        case rel=>exact⟨(((HCX.next (A5 _ _)).next HB5.out).next HB6.out).on ((Below.refl _ _).setCell HG9.out _),j+1,AE s ⟨op,(d:Int),A,Q,E,nn,bt⟩,us,oM,gN,SK.ins (i:=⟨op,(d:Int),A,Q,E,nn,bt⟩) ((hsk.below HBR.out).below HB6.out) hok.out HNP.1 HNP.2.1 HNP.2.2.1 HNP.2.2.2 HSD.out (by have:=hd2;show d<k;omega),HO1.1,HO1.2,HG1.out⟩
        case measure=>simp[intOf];omega
     .have hjn3:j=n3:=oM;have hgo':=hgo.out;rw[List.drop_of_length_le (by rw[HN3.out,hjn3];exact gF _)]at hgo';have hgi:FO c s j []=if s.opens.isEmpty then(0,0)else(160,(j:Int)):=rfl;rw[hgi]at hgo';obtain⟨N,hN⟩:=gA (s.opens.length)
      have hE:s.opens.isEmpty=decide (N=0):=by
       rw[<-hN];cases s.opens with
       |nil=>rfl
       |cons a l=>simp
      rw[hE]at hgo';have HGO:Hid ((if decide (N=0)=true then((0:Int),(0:Int))else(160,(j:Int)))=(RA,RB)):=hgo';rw[hN]at hnest;rw[hN];have e1:¬ (j:Int)<(n3:Int):=oM;clear hgo hgo' hgi hE hN hlt;by_cases hz:N=0
      .have HQ:Hid ((0,0)=(RA,RB)):=by show _=_;have:=HGO.out;rw[if_pos (by simpa using hz)]at this;exact this
       subst hz;go_wp2
       go_ret2
       exact⟨Em HQ.out,HCX.bel⟩
      .have HQ:Hid ((160,(j:Int))=(RA,RB)):=by show _=_;have:=HGO.out;rw[if_neg (by simpa using hz)]at this;exact this
       have hz':(0:Int)<(N:Int):=oM;have HJ:Hid ((j:Int)=(n3:Int)):=by show _=_;omega
       clear hz;go_wp2;refine rG (fun v=>v.cell? ⟨w.heap.size,3,none⟩=some (.slice p3 n3 q3)) fun hJ=>?_;refine wpAnyH_take (i:=0) (v:=?_) A7 kR kR kR A8 (Or.inl ⟨rF,?_⟩) A9 ?_
       rotate_left 1
       ·(intro wS hSw;(try dsimp only at hSw);go_simp;try(with_reducible rfl))
       try simp only[Act.put,List.setIfInBounds_toArray,List.set_cons_zero,List.set_cons_succ]
       refine wpAnyH_take (i:=1) (v:=?_) A7 kR kR kR A8 (Or.inl ⟨rF,?_⟩) A9 ?_
       rotate_left 1
       ·(intro wS hSw;(try dsimp only at hSw);go_simp;try(with_reducible rfl))
       try simp only[Act.put,List.setIfInBounds_toArray,List.set_cons_zero,List.set_cons_succ]
       refine wpAnyH_take (i:=2) (v:=?_) A7 kR kR kR A8 (Or.inl ⟨rF,?_⟩) A9 ?_
       rotate_left 1
       ·(intro wS hSw;(try dsimp only at hSw);go_simp;try(with_reducible rfl))
       try simp only[Act.put,List.setIfInBounds_toArray,List.set_cons_zero,List.set_cons_succ]
       refine wpAnyH_take (i:=3) (v:=?_) A7 kR kR kR A8 (Or.inl ⟨rF,?_⟩) A9 ?_
       rotate_left 1
       ·(intro wS hSw;(try dsimp only at hSw);go_simp;try(with_reducible rfl))
       try simp only[Act.put,List.setIfInBounds_toArray,List.set_cons_zero,List.set_cons_succ]
       refine wpAnyH_take (i:=4) (v:=?_) A7 kR kR kR A8 (Or.inl ⟨rF,?_⟩) A9 ?_
       rotate_left 1
       ·(intro wS hSw;(try dsimp only at hSw);go_simp;try(with_reducible rfl))
       try simp only[Act.put,List.setIfInBounds_toArray,List.set_cons_zero,List.set_cons_succ]
       refine wpAnyH_done kR ?_ _;go_wp2
       go_ret2
       refine⟨Em ?_,Ce HCX.bel⟩;rw[<-HJ.out];exact HQ.out
theorem PF:∀op:Nat,op<38->1<=op->((BU (op:Int)).a≠45↔Iy op=true)/\((BU (op:Int)).b≠45↔I3 op=true)/\((BU (op:Int)).c≠45↔He op=true)/\((BU (op:Int)).d≠45↔I4 op=true)/\((BU (op:Int)).e≠45↔Ft op=true):=by decide+kernel
def Lv(i:AB):List (List Nat):=[Bt (Iy i.op.toNat) i.d,Bt (I3 i.op.toNat) i.a,Bt (He i.op.toNat) i.b,Bt (I4 i.op.toNat) i.c,Bt (Ft i.op.toNat) i.n]
def E5(i:AB)(k:Nat):List Nat:=[i.op.toNat]++((Lv i).take k).flatten
theorem Jc(i:AB):Bf i=E5 i 5++EB i.op.toNat i.bits:=by
 unfold Bf E5 Lv;simp[List.append_assoc]
theorem ND{i:AB}(h:CJ i)(k:Nat):(E5 i k).length<=55:=by
 have h1:=Dq h;rw[Jc,List.length_append]at h1;have h2:(E5 i k).length<=(E5 i 5).length:=by
  unfold E5;rw[List.length_append,List.length_append];have h3:((Lv i).take 5)=Lv i:=rfl;rw[h3];have h4:(Lv i).flatten=((Lv i).take k).flatten++((Lv i).drop k).flatten:=by rw[<-List.flatten_append,List.take_append_drop]
  rw[h4,List.length_append];omega
 omega
theorem CI{b:Bool}(h:b=true)(v:Int):Bt b v=Ak v.toNat:=by rw[h];rfl
theorem Eb{b:Bool}(h:¬b=true)(v:Int):Bt b v=[]:=by unfold Bt;rw[if_neg h]
theorem Hp(i:AB)(hi:CJ i)(w:World):
 Calls prog 23 #[.agg #[.int .i64 i.op,.int .i64 i.d,.int .i64 i.a,.int .i64 i.b,.int .i64 i.c,.int .i64 i.n,.int .u32 i.bits]] w fun e w'=>e=.returned (.string (AT (Bf i)))/\Below w.heap.size w w':=by
 have HLK:=A6 (ND hi);have HFE:=A6 (Jc i);have HST:Hid (E5 i 0=[i.op.toNat]):=by show E5 i 0=_;unfold E5;simp
 have HK0:Hid (E5 i 1=E5 i 0++Bt (Iy i.op.toNat) i.d):=by show E5 i 1=_;unfold E5 Lv;simp[List.append_assoc]
 have HK1:Hid (E5 i 2=E5 i 1++Bt (I3 i.op.toNat) i.a):=by show E5 i 2=_;unfold E5 Lv;simp[List.append_assoc]
 have HK2:Hid (E5 i 3=E5 i 2++Bt (He i.op.toNat) i.b):=by show E5 i 3=_;unfold E5 Lv;simp[List.append_assoc]
 have HK3:Hid (E5 i 4=E5 i 3++Bt (I4 i.op.toNat) i.c):=by show E5 i 4=_;unfold E5 Lv;simp[List.append_assoc]
 have HK4:Hid (E5 i 5=E5 i 4++Bt (Ft i.op.toNat) i.n):=by show E5 i 5=_;unfold E5 Lv;simp[List.append_assoc]
 obtain⟨F,hF⟩:=gA (E5 i)
 rw[hF]at HLK HFE HST HK0 HK1 HK2 HK3 HK4;obtain⟨EI,hEI⟩:∃E,Bf i=E:=⟨_,rfl⟩
 rw[hEI]at HFE |-;clear hF hEI;obtain⟨op,d,a,b,c,n,z⟩:=i;obtain⟨h1,h2,⟨d1,d2,-⟩,⟨a1,a2,-⟩,⟨b1,b2,-⟩,⟨c1,c2,-⟩,⟨n1,n2,-⟩,z1,z2,z3⟩:=hi;simp only at h1 h2 d1 d2 a1 a2 b1 b2 c1 c2 n1 n2 z1 z2 z3 HFE HST HK0 HK1 HK2 HK3 HK4 |-;obtain⟨O,rfl⟩:∃O:Nat,op=(O:Int):=⟨op.toNat,oM⟩
 obtain⟨d',rfl⟩:∃O:Nat,d=(O:Int):=⟨d.toNat,oM⟩
 obtain⟨a',rfl⟩:∃O:Nat,a=(O:Int):=⟨a.toNat,oM⟩
 obtain⟨b',rfl⟩:∃O:Nat,b=(O:Int):=⟨b.toNat,oM⟩
 obtain⟨c',rfl⟩:∃O:Nat,c=(O:Int):=⟨c.toNat,oM⟩
 obtain⟨n',rfl⟩:∃O:Nat,n=(O:Int):=⟨n.toNat,oM⟩
 obtain⟨Z,rfl⟩:∃O:Nat,z=(O:Int):=⟨z.toNat,oM⟩
 simp only[Int.toNat_natCast]at HFE HST HK0 HK1 HK2 HK3 HK4 z3;obtain⟨la,lb,lc,ld,le,⟨ea,eb,ec,ed,ee⟩,hrow⟩:=GG (O:Int) (by unfold Ax;simp;omega);obtain⟨m0,m1,m2,m3,m4⟩:=PF O oM oM;rw[<-ea]at m0;rw[<-eb]at m1;rw[<-ec]at m2;rw[<-ed]at m3;rw[<-ee]at m4;have KR:=A6 hrow;obtain⟨W0,hW0⟩:∃W,w.alloc (.cells #[.int .i64 (O:Int),.int .i64 (d':Int),.int .i64 (a':Int),.int .i64 (b':Int),.int .i64 (c':Int),.int .i64 (n':Int),.int .u32 (Z:Int)] 70)=W:=⟨_,rfl⟩
 obtain⟨X,hX⟩:=gA (w.heap.size)
 have hb0:Below w.heap.size w W0:=by rw[<-hW0];exact A5 _ _
 have x0:W0.cell? ⟨X,0,none⟩=some (.int .i64 (O:Int)):=by rw[<-hW0,<-hX];simp[go_sem]
 have x1:W0.cell? ⟨X,1,none⟩=some (.int .i64 (d':Int)):=by rw[<-hW0,<-hX];simp[go_sem]
 have x2:W0.cell? ⟨X,2,none⟩=some (.int .i64 (a':Int)):=by rw[<-hW0,<-hX];simp[go_sem]
 have x3:W0.cell? ⟨X,3,none⟩=some (.int .i64 (b':Int)):=by rw[<-hW0,<-hX];simp[go_sem]
 have x4:W0.cell? ⟨X,4,none⟩=some (.int .i64 (c':Int)):=by rw[<-hW0,<-hX];simp[go_sem]
 have x5:W0.cell? ⟨X,5,none⟩=some (.int .i64 (n':Int)):=by rw[<-hW0,<-hX];simp[go_sem]
 have x6:W0.cell? ⟨X,6,none⟩=some (.int .u32 (Z:Int)):=by rw[<-hW0,<-hX];simp[go_sem]
 have w1:IntKind.u8.wrap (O:Int)=(O:Int):=by rw[IntKind.wrap_u8'];omega
 have hc1:=Dp W0 O oM;rw[<-HST.out]at hc1;obtain⟨W1,hW1⟩:∃W,W0.alloc (.cells #[.int .u8 (O:Int)] 5)=W:=⟨_,rfl⟩
 have hb1:Below W0.heap.size W0 W1:=by rw[<-hW1];exact A5 _ _
 obtain⟨LB,hLB⟩:∃L,W1.heap.size=L:=⟨_,rfl⟩
 obtain⟨V,hV⟩:∃W,W1.alloc (.cells #[.int .i64 (d':Int),.int .i64 (a':Int),.int .i64 (b':Int),.int .i64 (c':Int),.int .i64 (n':Int)] 3)=W:=⟨_,rfl⟩
 have hb2:Below W1.heap.size W1 V:=by rw[<-hV];exact A5 _ _
 have y0:=kc hb1 x0;have y1:=kc hb1 x1;have y2:=kc hb1 x2;have y3:=kc hb1 x3;have y4:=kc hb1 x4;have y5:=kc hb1 x5;have y6:=kc hb1 x6;have l0:V.cell? ⟨LB,0,none⟩=some (.int .i64 (d':Int)):=by rw[<-hV,<-hLB];simp[go_sem]
 have l1:V.cell? ⟨LB,1,none⟩=some (.int .i64 (a':Int)):=by rw[<-hV,<-hLB];simp[go_sem]
 have l2:V.cell? ⟨LB,2,none⟩=some (.int .i64 (b':Int)):=by rw[<-hV,<-hLB];simp[go_sem]
 have l3:V.cell? ⟨LB,3,none⟩=some (.int .i64 (c':Int)):=by rw[<-hV,<-hLB];simp[go_sem]
 have l4:V.cell? ⟨LB,4,none⟩=some (.int .i64 (n':Int)):=by rw[<-hV,<-hLB];simp[go_sem]
 have HBV:Hid (Below w.heap.size w V):=bel (bel hb0 hb1) hb2;have hx0:=kc hb2 y0;have hx6:=kc hb2 y6;have HC:=A6 (fun(u:World) (h:Below V.heap.size V u)=>(⟨kc h l0,kc h l1,kc h l2,kc h l3,kc h l4,kc h hx0,kc h hx6⟩:u.cell? ⟨LB,0,none⟩=some (.int .i64 (d':Int))/\u.cell? ⟨LB,1,none⟩=some (.int .i64 (a':Int))/\u.cell? ⟨LB,2,none⟩=some (.int .i64 (b':Int))/\u.cell? ⟨LB,3,none⟩=some (.int .i64 (c':Int))/\u.cell? ⟨LB,4,none⟩=some (.int .i64 (n':Int))/\u.cell? ⟨X,0,none⟩=some (.int .i64 (O:Int))/\u.cell? ⟨X,6,none⟩=some (.int .u32 (Z:Int))));have KN0:=A6 (fun v=>AP d' oM v);have KN1:=A6 (fun v=>AP a' oM v);have KN2:=A6 (fun v=>AP b' oM v);have KN3:=A6 (fun v=>AP c' oM v);have KN4:=A6 (fun v=>AP n' oM v);have KL:Hid (∀v,Calls prog 22 #[.int .u64 (Z:Int),.int .i64 4] v fun e w'=>e=.returned (.string (AT (AK 4 Z)))/\Below v.heap.size v w'):=fun v=>FE Z oM 4 dE dE v;have wZ:IntKind.u64.wrap (Z:Int)=(Z:Int):=by unfold IntKind.wrap;simp[IntKind.signed,IntKind.bits];omega
 have ix0:∀w,(Instr.index 9 (.string ⟨#[la,lb,lc,ld,le]⟩) (.int .i64 0)).run prog w=.ok (.int .u8 (la.toNat:Int)) w:=fun w=>by simp[Instr.index,run_underlying underlying9,asIntOf,go_sem];rfl
 obtain⟨n0_,hn0⟩:∃n:Nat,la.toNat=n:=⟨_,rfl⟩
 rw[hn0]at ix0 m0;have ix1:∀w,(Instr.index 9 (.string ⟨#[la,lb,lc,ld,le]⟩) (.int .i64 1)).run prog w=.ok (.int .u8 (lb.toNat:Int)) w:=fun w=>by simp[Instr.index,run_underlying underlying9,asIntOf,go_sem];rfl
 obtain⟨n1_,hn1⟩:∃n:Nat,lb.toNat=n:=⟨_,rfl⟩
 rw[hn1]at ix1 m1;have ix2:∀w,(Instr.index 9 (.string ⟨#[la,lb,lc,ld,le]⟩) (.int .i64 2)).run prog w=.ok (.int .u8 (lc.toNat:Int)) w:=fun w=>by simp[Instr.index,run_underlying underlying9,asIntOf,go_sem];rfl
 obtain⟨n2_,hn2⟩:∃n:Nat,lc.toNat=n:=⟨_,rfl⟩
 rw[hn2]at ix2 m2;have ix3:∀w,(Instr.index 9 (.string ⟨#[la,lb,lc,ld,le]⟩) (.int .i64 3)).run prog w=.ok (.int .u8 (ld.toNat:Int)) w:=fun w=>by simp[Instr.index,run_underlying underlying9,asIntOf,go_sem];rfl
 obtain⟨n3_,hn3⟩:∃n:Nat,ld.toNat=n:=⟨_,rfl⟩
 rw[hn3]at ix3 m3;have Jh:∀w,(Instr.index 9 (.string ⟨#[la,lb,lc,ld,le]⟩) (.int .i64 4)).run prog w=.ok (.int .u8 (le.toNat:Int)) w:=fun w=>by simp[Instr.index,run_underlying underlying9,asIntOf,go_sem];rfl
 obtain⟨n4_,hn4⟩:∃n:Nat,le.toNat=n:=⟨_,rfl⟩
 rw[hn4]at Jh m4;obtain⟨RS,hRS⟩:∃R:ByteArray,(⟨#[la,lb,lc,ld,le]⟩:ByteArray)=R:=⟨_,rfl⟩
 have hRz:RS.size=5:=by rw[<-hRS];rfl
 rw[hRS]at KR ix0 ix1 ix2 ix3 Jh;have HHW1:=A6 hW1;have HM0:=A6 m0;have HM1:=A6 m1;have HM2:=A6 m2;have HM3:=A6 m3;have HM4:=A6 m4;have HB5:Hid (d'<9223372036854775808/\a'<9223372036854775808/\b'<9223372036854775808/\c'<9223372036854775808/\n'<9223372036854775808):=⟨oM,oM,oM,oM,oM⟩
 have HHV:=A6 hV;clear hb0 hb1 hb2 hrow hn0 hn1 hn2 hn3 hn4 ea eb ec ed ee hRS l0 l1 l2 l3 l4 hx0 hx6 hW1 hV m0 m1 m2 m3 m4 d1 d2 a1 a2 b1 b2 c1 c2 n1 n2 z1 z2 z3 h1 h2;go_enter func23,ntmps23;go_upto_region 1 with fail;try rw[hW0]
 try rw[hX]
 go_upto_region 2 with fail;rw[HHW1.out];clear hc1 hW0 hX x0 x1 x2 x3 x4 x5 x6;go_upto_region 4 with(go_at_call 48;(with_reducible refine(KR.out _).mono ?_);rintro e9 w4 ⟨rfl,hw4⟩;have hw5:=hw4.symm;subst hw5)
 try rw[HHV.out]
 try rw[hLB]
 go_upto_block 0 with fail;go_cut [3,7] (fun sv kv wx=>sv=.string (AT (F 5))/\Hid (Below V.heap.size V wx))
 case first=>
  go_wp2_with fail
  go_loopw [3,7] (fun sv kv wx=>∃k:Nat,k<=5/\kv=.int .i64 (k:Int)/\sv=.string (AT (F k))/\Hid (Below V.heap.size V wx)) (fun _ kv _=>5-(intOf kv).toNat)
  case atStart=>exact⟨0,dE,rfl,rfl,Below.refl _ _⟩
  case round=>
   obtain⟨k,hk,rfl,rfl,HJ⟩:=hrel;obtain⟨c0,c1,c2,c3,c4,-,-⟩:=HC.out wr HJ.out;rcases(show k=0\/k=1\/k=2\/k=3\/k=4\/k=5 by omega)with rfl|rfl|rfl|rfl|rfl|rfl
   .obtain⟨S0,hS0⟩:∃S,AT (F 0)=S:=⟨_,rfl⟩
    have z0:S0.size<=55:=by rw[<-hS0,Af];exact HLK.out 0
    rw[hS0];by_cases q:(n0_:Int)=45
    .have q1:((n0_:Int) != 45)=false:=by simpa using q
     have q2:((n0_:Int)==45)=true:=by simpa using q
     have hno:¬Iy O=true:=fun h=>(HM0.2 h) q;have HF:Hid (AT (F 1)=S0):=by show _=_;rw[HK0.out,Eb hno,List.append_nil];exact hS0
     clear q hno hS0;go_wp2;go_roundw
     case rel=>exact⟨1,dE,rfl,by rw[HF.out],HJ.out⟩
     case measure=>simp[intOf]
    .have q1:((n0_:Int) != 45)=true:=by simpa using q
     have q2:((n0_:Int)==45)=false:=by simpa using q
     have hye:Iy O=true:=HM0.1 q;obtain⟨S1,hS1⟩:∃S,AT (Ak d')=S:=⟨_,rfl⟩
     have z1:S1.size<=9:=by rw[<-hS1,Af];exact Al PB
     have z2:¬9223372036854775807<S0.size+S1.size:=oM;have HF:Hid (AT (F 1)=S0++S1):=by show _=_;rw[HK0.out,CI hye,Int.toNat_natCast,B0,hS0,hS1]
     rw[hS1]at KN0;clear q hye hS0 hS1;go_wp2_with(go_at_call 20;(with_reducible refine(KN0.out _).mono ?_);rintro e9 w4 ⟨rfl,hb4⟩;have HB4:=A6 (bel HJ.out hb4);clear hb4);go_roundw
     case rel=>exact⟨1,dE,rfl,by rw[HF.out],HB4.out⟩
     case measure=>simp[intOf]
   .obtain⟨S0,hS0⟩:∃S,AT (F 1)=S:=⟨_,rfl⟩
    have z0:S0.size<=55:=by rw[<-hS0,Af];exact HLK.out 1
    rw[hS0];by_cases q:(n1_:Int)=45
    .have q1:((n1_:Int) != 45)=false:=by simpa using q
     have q2:((n1_:Int)==45)=true:=by simpa using q
     have hno:¬I3 O=true:=fun h=>(HM1.2 h) q;have HF:Hid (AT (F 2)=S0):=by show _=_;rw[HK1.out,Eb hno,List.append_nil];exact hS0
     clear q hno hS0;go_wp2;go_roundw
     case rel=>exact⟨2,dE,rfl,by rw[HF.out],HJ.out⟩
     case measure=>simp[intOf]
    .have q1:((n1_:Int) != 45)=true:=by simpa using q
     have q2:((n1_:Int)==45)=false:=by simpa using q
     have hye:I3 O=true:=HM1.1 q;obtain⟨S1,hS1⟩:∃S,AT (Ak a')=S:=⟨_,rfl⟩
     have z1:S1.size<=9:=by rw[<-hS1,Af];exact Al PB
     have z2:¬9223372036854775807<S0.size+S1.size:=oM;have HF:Hid (AT (F 2)=S0++S1):=by show _=_;rw[HK1.out,CI hye,Int.toNat_natCast,B0,hS0,hS1]
     rw[hS1]at KN1;clear q hye hS0 hS1;go_wp2_with(go_at_call 20;(with_reducible refine(KN1.out _).mono ?_);rintro e9 w4 ⟨rfl,hb4⟩;have HB4:=A6 (bel HJ.out hb4);clear hb4);go_roundw
     case rel=>exact⟨2,dE,rfl,by rw[HF.out],HB4.out⟩
     case measure=>simp[intOf]
   .obtain⟨S0,hS0⟩:∃S,AT (F 2)=S:=⟨_,rfl⟩
    have z0:S0.size<=55:=by rw[<-hS0,Af];exact HLK.out 2
    rw[hS0];by_cases q:(n2_:Int)=45
    .have q1:((n2_:Int) != 45)=false:=by simpa using q
     have q2:((n2_:Int)==45)=true:=by simpa using q
     have hno:¬He O=true:=fun h=>(HM2.2 h) q;have HF:Hid (AT (F 3)=S0):=by show _=_;rw[HK2.out,Eb hno,List.append_nil];exact hS0
     clear q hno hS0;go_wp2;go_roundw
     case rel=>exact⟨3,dE,rfl,by rw[HF.out],HJ.out⟩
     case measure=>simp[intOf]
    .have q1:((n2_:Int) != 45)=true:=by simpa using q
     have q2:((n2_:Int)==45)=false:=by simpa using q
     have hye:He O=true:=HM2.1 q;obtain⟨S1,hS1⟩:∃S,AT (Ak b')=S:=⟨_,rfl⟩
     have z1:S1.size<=9:=by rw[<-hS1,Af];exact Al PB
     have z2:¬9223372036854775807<S0.size+S1.size:=oM;have HF:Hid (AT (F 3)=S0++S1):=by show _=_;rw[HK2.out,CI hye,Int.toNat_natCast,B0,hS0,hS1]
     rw[hS1]at KN2;clear q hye hS0 hS1;go_wp2_with(go_at_call 20;(with_reducible refine(KN2.out _).mono ?_);rintro e9 w4 ⟨rfl,hb4⟩;have HB4:=A6 (bel HJ.out hb4);clear hb4);go_roundw
     case rel=>exact⟨3,dE,rfl,by rw[HF.out],HB4.out⟩
     case measure=>simp[intOf]
   .obtain⟨S0,hS0⟩:∃S,AT (F 3)=S:=⟨_,rfl⟩
    have z0:S0.size<=55:=by rw[<-hS0,Af];exact HLK.out 3
    rw[hS0];by_cases q:(n3_:Int)=45
    .have q1:((n3_:Int) != 45)=false:=by simpa using q
     have q2:((n3_:Int)==45)=true:=by simpa using q
     have hno:¬I4 O=true:=fun h=>(HM3.2 h) q;have HF:Hid (AT (F 4)=S0):=by show _=_;rw[HK3.out,Eb hno,List.append_nil];exact hS0
     clear q hno hS0;go_wp2;go_roundw
     case rel=>exact⟨4,dE,rfl,by rw[HF.out],HJ.out⟩
     case measure=>simp[intOf]
    .have q1:((n3_:Int) != 45)=true:=by simpa using q
     have q2:((n3_:Int)==45)=false:=by simpa using q
     have hye:I4 O=true:=HM3.1 q;obtain⟨S1,hS1⟩:∃S,AT (Ak c')=S:=⟨_,rfl⟩
     have z1:S1.size<=9:=by rw[<-hS1,Af];exact Al PB
     have z2:¬9223372036854775807<S0.size+S1.size:=oM;have HF:Hid (AT (F 4)=S0++S1):=by show _=_;rw[HK3.out,CI hye,Int.toNat_natCast,B0,hS0,hS1]
     rw[hS1]at KN3;clear q hye hS0 hS1;go_wp2_with(go_at_call 20;(with_reducible refine(KN3.out _).mono ?_);rintro e9 w4 ⟨rfl,hb4⟩;have HB4:=A6 (bel HJ.out hb4);clear hb4);go_roundw
     case rel=>exact⟨4,dE,rfl,by rw[HF.out],HB4.out⟩
     case measure=>simp[intOf]
   .obtain⟨S0,hS0⟩:∃S,AT (F 4)=S:=⟨_,rfl⟩
    have z0:S0.size<=55:=by rw[<-hS0,Af];exact HLK.out 4
    rw[hS0];by_cases q:(n4_:Int)=45
    .have q1:((n4_:Int) != 45)=false:=by simpa using q
     have q2:((n4_:Int)==45)=true:=by simpa using q
     have hno:¬Ft O=true:=fun h=>(HM4.2 h) q;have HF:Hid (AT (F 5)=S0):=by show _=_;rw[HK4.out,Eb hno,List.append_nil];exact hS0
     clear q hno hS0;go_wp2;go_roundw
     case rel=>exact⟨5,dE,rfl,by rw[HF.out],HJ.out⟩
     case measure=>simp[intOf]
    .have q1:((n4_:Int) != 45)=true:=by simpa using q
     have q2:((n4_:Int)==45)=false:=by simpa using q
     have hye:Ft O=true:=HM4.1 q;obtain⟨S1,hS1⟩:∃S,AT (Ak n')=S:=⟨_,rfl⟩
     have z1:S1.size<=9:=by rw[<-hS1,Af];exact Al PB
     have z2:¬9223372036854775807<S0.size+S1.size:=oM;have HF:Hid (AT (F 5)=S0++S1):=by show _=_;rw[HK4.out,CI hye,Int.toNat_natCast,B0,hS0,hS1]
     rw[hS1]at KN4;clear q hye hS0 hS1;go_wp2_with(go_at_call 20;(with_reducible refine(KN4.out _).mono ?_);rintro e9 w4 ⟨rfl,hb4⟩;have HB4:=A6 (bel HJ.out hb4);clear hb4);go_roundw
     case rel=>exact⟨5,dE,rfl,by rw[HF.out],HB4.out⟩
     case measure=>simp[intOf]
   .go_wp2;go_meet;exact⟨rfl,HJ.out⟩
 case rest=>
 obtain⟨rfl,HJ⟩:=hcut;obtain⟨-,-,-,-,-,c5,c6⟩:=HC.out wc HJ.out;obtain⟨S0,hS0⟩:∃S,AT (F 5)=S:=⟨_,rfl⟩
 have z0:S0.size<=55:=by rw[<-hS0,Af];exact HLK.out 5
 rw[hS0];by_cases q:O=1
 .have q1:((O:Int)==1)=true:=by rw[q];rfl
  obtain⟨S1,hS1⟩:∃S,AT (AK 4 Z)=S:=⟨_,rfl⟩
  have z1:S1.size=4:=by rw[<-hS1,Af,AN]
  have z2:¬9223372036854775807<S0.size+S1.size:=oM;have HF:Hid (AT EI=S0++S1):=by
   show _=_;rw[HFE.out,B0,hS0];unfold EB;rw[if_pos q,Int.toNat_natCast,hS1]
  rw[hS1]at KL;clear q hS0 hS1;go_wp2_with(go_at_call 22;(with_reducible refine(KL.out _).mono ?_);rintro e9 w4 ⟨rfl,hb4⟩;have HB4:=A6 (bel HBV.out (bel HJ.out hb4));clear hb4);refine bodyPost_ret (by simp[results,results23,go_sem, *];try rfl) rfl ?_;exact⟨by rw[HF.out],HB4.out⟩
 .have q1:((O:Int)==1)=false:=sO;have HF:Hid (AT EI=S0):=by
   show _=_;rw[HFE.out];unfold EB;rw[if_neg q,List.append_nil,hS0]
  clear q hS0;go_wp2;refine bodyPost_ret (by simp[results,results23,go_sem, *];try rfl) rfl ?_;exact⟨by rw[HF.out],bel HBV.out HJ.out⟩
end Go.Proofs.YtnlgkkbmbijndaaGreat
