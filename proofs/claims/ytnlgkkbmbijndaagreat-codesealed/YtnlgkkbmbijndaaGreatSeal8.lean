import Derived.Test.YtnlgkkbmbijndaaGreatSeal6
import Derived.Test.YtnlgkkbmbijndaaGreatSeal7
import Derived.Test.YtnlgkkbmbijndaaGreatRows
import Derived.Test.YtnlgkkbmbijndaaGreatSeal1
import Derived.Deep.DeepCutAuto
import Derived.Deep.CutBlock
namespace Go.Proofs.YtnlgkkbmbijndaaGreat
open Go.RowKit Go.Proofs.Tryz
set_option linter.all false
set_option maxRecDepth 100000
set_option maxHeartbeats 16000000
theorem MN{op:Int}(h:(Ag op).n=9):((op=29\/op=30)/\(Ag op).d=3)\/(op=31/\(Ag op).d=0/\(Ag op).a=3):=by
 have EA:∀k:Fin 38,(Ag (k.val:Int)).n=9->k.val=29\/k.val=30\/k.val=31:=by decide+kernel
 by_cases hk:AB op=true
 .have hh:1<=op/\op<=37:=by unfold AB at hk;simp at hk;exact hk
  have e:((⟨op.toNat,oM⟩:Fin 38).val:Int)=op:=by show((op.toNat:Nat):Int)=op;omega
  have:=EA ⟨op.toNat,oM⟩ (by rw[e];exact h);simp only at this;rcases this with h1|h1|h1
  .have:op=29:=oM;subst this;exact .inl ⟨.inl rfl,rfl⟩
  .have:op=30:=oM;subst this;exact .inl ⟨.inr rfl,rfl⟩
  .have:op=31:=oM;subst this;exact .inr ⟨rfl,rfl,rfl⟩
 .rw[Eu op (by simpa using hk)]at h;exact absurd h dE
theorem FF{c:Cd}{n:Int}{m:Ty}(ht:Av c=true)(h:Ao c.regs 3 n m=true):At (Ay c.regs n).par c.sign.length=true:=by
 unfold Ao at h;rw[if_neg dE]at h;simp only[Bool.and_eq_true]at h;obtain⟨h1,h2⟩:=h;obtain⟨k,hk,hl⟩:=Cy h1;rw[Di hk hl]at h2 |-;have hm:c.regs[k].kind=3:=by
  unfold Dz at h2;rw[if_neg dE,if_neg dE,if_pos rfl]at h2;simpa using h2
 have:=List.all_eq_true.1 ht c.regs[k] (gD hl);unfold AC at this;rw[if_neg oM,if_pos hm]at this;exact this
theorem Kp{c:Cd}{i:Ar}(ht:Av c=true)(hd:Ao c.regs (Ag i.op).d i.d (AJ c.regs i (Ag i.op))=true)(ha:Ao c.regs (Ag i.op).a i.a (AJ c.regs i (Ag i.op))=true)(h9:(Ag i.op).n=9):At (AJ c.regs i (Ag i.op)).par c.sign.length=true:=by
 rcases MN h9 with⟨_,e⟩|⟨_,e,e2⟩
 .rw[e]at hd;have:=FF ht hd;unfold AJ Hi;rw[e,if_neg dE];exact this
 .rw[e2]at ha;have:=FF ht ha;unfold AJ Hi;rw[e,if_pos rfl];exact this
theorem Mf{c:Cd}{i:Ar}{r:Rw}(h:Be c i r=true):∀x∈AN i r,0<=x/\x<(c.regs.length:Int):=by
 intro x hx;unfold AN at hx;rcases List.mem_append.1 hx with hx|hx
 .by_cases e:r.a=0
  .rw[if_pos e]at hx;cases hx
  .rw[if_neg e]at hx;simp at hx;subst hx;exact By (J7 h) e
 rcases List.mem_append.1 hx with hx|hx
 .by_cases e:r.b=0
  .rw[if_pos e]at hx;cases hx
  .rw[if_neg e]at hx;simp at hx;subst hx;exact By (J8 h) e
 .by_cases e:r.c=0
  .rw[if_pos e]at hx;cases hx
  .rw[if_neg e]at hx;simp at hx;subst hx;exact By (J9 h) e
theorem KY(i:Ar)(r:Rw):(AN i r).length<=3:=by
 rw[DF];simp only[List.length_append];have:=Dh r.a i.a;have:=Dh r.b i.b;have:=Dh r.c i.c;omega
theorem HY{c:Cd}{s:Wk}{i:Ar}{r:Rw}(h:AS c s i r=true)(e:i.op=35\/i.op=37):s.opens≠[]:=by
 unfold AS at h;rw[if_neg oM]at h;intro hO;rcases e with e|e
 .rw[if_pos e,hO]at h;simp at h
 .rw[if_neg oM,if_pos e]at h;unfold AM at h;rw[hO]at h;cases h
structure TK(w:World)(H G C:Nat)(L0 L1 L2 L3 L4:Int)(v:World):Prop where
 bel:Below w.heap.size w v
 r0:v.cell? ⟨H,0,none⟩=some (.int .i64 L0)
 r1:v.cell? ⟨H,1,none⟩=some (.int .i64 L1)
 r2:v.cell? ⟨H,2,none⟩=some (.int .i64 L2)
 r3:v.cell? ⟨H,3,none⟩=some (.int .i64 L3)
 r4:v.cell? ⟨H,4,none⟩=some (.int .i64 L4)
 g0:v.cell? ⟨G,0,none⟩=some (.pointer (some ⟨C,0,none⟩))
theorem TK.next{w:World}{H G C:Nat}{L0 L1 L2 L3 L4:Int}{v v':World}(h:TK w H G C L0 L1 L2 L3 L4 v)(k:Below v.heap.size v v'):TK w H G C L0 L1 L2 L3 L4 v':=
 ⟨Go.Proofs.YtnlgkkbmbijndaaGreat.bel h.bel k,kc k h.r0,kc k h.r1,kc k h.r2,kc k h.r3,kc k h.r4,kc k h.g0⟩
theorem I1(E G C n gi:Nat)(vs vo:Value)(s:Wk)(v0 v1 v2 v3:Value)(c:Cd)(hk:BF c)(b o:Nat)(i:Ar)(w:World)(h:WS E G C n gi vs vo w s)(hnn:c.regs.length=n)(ok:CH n s)(hn:n<=16384)(hc:BG w C v0 v1 v2 v3 c)(hi:Aq w b o (C2 i))(hbE:b<E)(htm:Av c=true)(hb0:0<=i.bits)(hb1:i.bits<4294967296):
 Calls prog 39 #[.pointer (some ⟨G,0,none⟩),.pointer (some ⟨b,o,none⟩)] w fun e w'=>e=.returned (.bool (Bj c s i))/\Below E w w'/\(Bj c s i=true->∃vs' vo',WS E G C n gi vs' vo' w' (AG s i)):=by
 have K1:=EL i.op w;have K2:=fun v h1 h2=>LH C v0 v1 v2 v3 c hk b o i (Ag i.op) v h1 h2 hb0 hb1 (Kp htm);have K3:=fun v h1 h2 h3=>Gz E G C n gi vs vo s v0 v1 v2 v3 c hk b o i (Ag i.op) v h1 ok.nest h2 h3;have K4:=fun v h1=>E7 b o i (Ag i.op) v h1;have K5:=fun(hf:Be c i (Ag i.op)=true) (hs:AS c s i (Ag i.op)=true) v h1 h2=>Ma E G C n gi vs vo s b o i (Ag i.op) v h1 ok hn h2 hbE (Ea hs) (HY hs) (fun hd=>by have:=By (Gv hf) hd;rw[hnn]at this;exact this);have KL:Be c i (Ag i.op)=true->∀x∈AN i (Ag i.op),0<=x/\x<(n:Int):=fun hf=>by have:=Mf hf;rw[hnn]at this;exact this
 have KN:=KY i (Ag i.op);have HC0:Hid (BG w C v0 v1 v2 v3 c):=hc;have HI0:Hid (Aq w b o (C2 i)):=hi;have HS0:Hid (WS E G C n gi vs vo w s):=h;have e0:=hi.at 0 rfl;rw[Nat.add_zero]at e0;have hE:=h.lt;have g0:=h.c0;unfold Bj AG;have hro:FE s i (Ag i.op)=(AN i (Ag i.op)).all fun n=>decide (n.toNat∈s.set):=rfl;rw[hro];obtain⟨op,hop⟩:∃x,i.op=x:=⟨_,rfl⟩
 rw[hop]at K1 K2 K3 K4 K5 KL KN e0 |-;obtain⟨r,hr⟩:=gA (Ag op)
 simp only[hr]at K1 K2 K3 K4 K5 KL KN |-;obtain⟨X0,hX0⟩:∃X,AB op=X:=⟨_,rfl⟩
 obtain⟨X1,hX1⟩:∃X,Be c i r=X:=⟨_,rfl⟩
 obtain⟨X2,hX2⟩:∃X,AS c s i r=X:=⟨_,rfl⟩
 obtain⟨RL,hRL⟩:∃X,AN i r=X:=⟨_,rfl⟩
 obtain⟨Z,hZ⟩:=gA (FB s i r)
 obtain⟨AL,hAL⟩:∃X,((AN i r).all fun n=>decide (n.toNat∈s.set))=X:=⟨_,rfl⟩
 rw[hAL];simp only[hX0]at K1 |-;simp only[hX1]at K2 K5 KL |-;simp only[hX2]at K3 K5 |-;simp only[hRL]at K4 KL KN;rw[hRL]at hAL;have HAL:Hid ((RL.all fun n=>decide (n.toNat∈s.set))=AL):=hAL;simp only[hZ]at K5 |-;obtain⟨L0,L1,L2,L3,L4⟩:=r;unfold Ch at K1 K2 K3 K4 K5;simp only at K1 K2 K3 K4 K5;have HK1:Hid (Calls prog 74 #[.int .i64 op] w fun e w'=>e=.returned (.tuple #[.agg #[.int .i64 L0,.int .i64 L1,.int .i64 L2,.int .i64 L3,.int .i64 L4],.bool X0])/\Below w.heap.size w w'):=K1;have HK2:Hid (∀v,BG v C v0 v1 v2 v3 c->Aq v b o (C2 i)->Calls prog 75 #[.pointer (some ⟨C,0,none⟩),.pointer (some ⟨b,o,none⟩),.agg #[.int .i64 L0,.int .i64 L1,.int .i64 L2,.int .i64 L3,.int .i64 L4]] v fun e w'=>e=.returned (.bool X1)/\Below v.heap.size v w'):=K2;have HK3:Hid (∀v,WS E G C n gi vs vo v s->BG v C v0 v1 v2 v3 c->Aq v b o (C2 i)->Calls prog 76 #[.pointer (some ⟨G,0,none⟩),.pointer (some ⟨b,o,none⟩),.agg #[.int .i64 L0,.int .i64 L1,.int .i64 L2,.int .i64 L3,.int .i64 L4]] v fun e w'=>e=.returned (.bool X2)/\Below v.heap.size v w'):=K3;have HK4:Hid (∀v,Aq v b o (C2 i)->Calls prog 77 #[.agg #[.int .i64 L0,.int .i64 L1,.int .i64 L2,.int .i64 L3,.int .i64 L4],.pointer (some ⟨b,o,none⟩)] v fun e w'=>∃u,e=.returned u/\w'.ownsRow v.heap.size 3 1 u RL.length (BV RL)/\Below v.heap.size v w'):=K4;have HK5:Hid (X1=true->X2=true->∀v,WS E G C n gi vs vo v s->Aq v b o (C2 i)->Calls prog 78 #[.pointer (some ⟨G,0,none⟩),.pointer (some ⟨b,o,none⟩),.agg #[.int .i64 L0,.int .i64 L1,.int .i64 L2,.int .i64 L3,.int .i64 L4]] v fun e w'=>e=.returned (.tuple #[])/\Below E v w'/\∃vs' vo',WS E G C n gi vs' vo' w' Z):=K5;have HKL:Hid (X1=true->∀x∈RL,0<=x/\x<(n:Int)):=KL;clear K1 K2 K3 K4 K5 KL h hc hi hk hro hop hr hX0 hX1 hX2 hRL hZ hAL hb0 hb1 htm ok hnn;cases X0
 .go_enter func39,ntmps39;go_wp2_with(go_at_call 74;refine HK1.mono ?_;rintro e w1 ⟨rfl,hw1⟩;have HT:Hid (TK w w1.heap.size G C L0 L1 L2 L3 L4 (w1.alloc (.cells #[.int .i64 L0,.int .i64 L1,.int .i64 L2,.int .i64 L3,.int .i64 L4] 144))):=R0);have HCX:Hid (∀v,Below (w1.alloc (.cells #[.int .i64 L0,.int .i64 L1,.int .i64 L2,.int .i64 L3,.int .i64 L4] 144)).heap.size (w1.alloc (.cells #[.int .i64 L0,.int .i64 L1,.int .i64 L2,.int .i64 L3,.int .i64 L4] 144)) v->v.cell? ⟨G,0,none⟩=some (.pointer (some ⟨C,0,none⟩))/\v.cell? ⟨w1.heap.size,0,none⟩=some (.int .i64 L0)/\v.cell? ⟨w1.heap.size,1,none⟩=some (.int .i64 L1)/\v.cell? ⟨w1.heap.size,2,none⟩=some (.int .i64 L2)/\v.cell? ⟨w1.heap.size,3,none⟩=some (.int .i64 L3)/\v.cell? ⟨w1.heap.size,4,none⟩=some (.int .i64 L4)):=fun v hv=>⟨(HT.next hv).g0,(HT.next hv).r0,(HT.next hv).r1,(HT.next hv).r2,(HT.next hv).r3,(HT.next hv).r4⟩;obtain⟨t0,t1,t2,t3,t4,t5⟩:=HCX.out _ (Cq _);refine rG (fun v=>v.cell? ⟨G,0,none⟩=some (.pointer (some ⟨C,0,none⟩))/\v.cell? ⟨w1.heap.size,0,none⟩=some (.int .i64 L0)/\v.cell? ⟨w1.heap.size,1,none⟩=some (.int .i64 L1)/\v.cell? ⟨w1.heap.size,2,none⟩=some (.int .i64 L2)/\v.cell? ⟨w1.heap.size,3,none⟩=some (.int .i64 L3)/\v.cell? ⟨w1.heap.size,4,none⟩=some (.int .i64 L4)) fun hJ=>?_;refine wpAnyH_take (i:=0) (v:=?_) A8 kR kR kR A9 (Or.inl ⟨rF,?_⟩) Aa ?_
  rotate_left 1
  ·(intro wS hSw;(try dsimp only at hSw);go_simp;try(with_reducible rfl))
  try simp only[Act.put,List.setIfInBounds_toArray,List.set_cons_zero,List.set_cons_succ]
  refine wpAnyH_take (i:=1) (v:=?_) A8 kR kR kR A9 (Or.inl ⟨rF,?_⟩) Aa ?_
  rotate_left 1
  ·(intro wS hSw;(try dsimp only at hSw);go_simp;try(with_reducible rfl))
  try simp only[Act.put,List.setIfInBounds_toArray,List.set_cons_zero,List.set_cons_succ]
  refine wpAnyH_take (i:=2) (v:=?_) A8 kR kR kR A9 (Or.inl ⟨rF,?_⟩) Aa ?_
  rotate_left 1
  ·(intro wS hSw;(try dsimp only at hSw);go_simp;try(with_reducible rfl))
  try simp only[Act.put,List.setIfInBounds_toArray,List.set_cons_zero,List.set_cons_succ]
  refine wpAnyH_take (i:=3) (v:=undef) A8 kR kR kR A9 (Or.inr ⟨rF,rfl⟩) Aa ?_;try simp only[Act.put,List.setIfInBounds_toArray,List.set_cons_zero,List.set_cons_succ]
  refine wpAnyH_take (i:=4) (v:=undef) A8 kR kR kR A9 (Or.inr ⟨rF,rfl⟩) Aa ?_;try simp only[Act.put,List.setIfInBounds_toArray,List.set_cons_zero,List.set_cons_succ]
  refine wpAnyH_take (i:=5) (v:=undef) A8 kR kR kR A9 (Or.inr ⟨rF,rfl⟩) Aa ?_;try simp only[Act.put,List.setIfInBounds_toArray,List.set_cons_zero,List.set_cons_succ]
  refine wpAnyH_take (i:=6) (v:=undef) A8 kR kR kR A9 (Or.inr ⟨rF,rfl⟩) Aa ?_;try simp only[Act.put,List.setIfInBounds_toArray,List.set_cons_zero,List.set_cons_succ]
  refine wpAnyH_take (i:=7) (v:=undef) A8 kR kR kR A9 (Or.inr ⟨rF,rfl⟩) Aa ?_;try simp only[Act.put,List.setIfInBounds_toArray,List.set_cons_zero,List.set_cons_succ]
  refine wpAnyH_take (i:=8) (v:=undef) A8 kR kR kR A9 (Or.inr ⟨rF,rfl⟩) Aa ?_;try simp only[Act.put,List.setIfInBounds_toArray,List.set_cons_zero,List.set_cons_succ]
  refine wpAnyH_take (i:=9) (v:=undef) A8 kR kR kR A9 (Or.inr ⟨rF,rfl⟩) Aa ?_;try simp only[Act.put,List.setIfInBounds_toArray,List.set_cons_zero,List.set_cons_succ]
  refine wpAnyH_take (i:=10) (v:=undef) A8 kR kR kR A9 (Or.inr ⟨rF,rfl⟩) Aa ?_;try simp only[Act.put,List.setIfInBounds_toArray,List.set_cons_zero,List.set_cons_succ]
  refine wpAnyH_take (i:=11) (v:=?_) A8 kR kR kR A9 (Or.inl ⟨rF,?_⟩) Aa ?_
  rotate_left 1
  ·(intro wS hSw;(try dsimp only at hSw);go_simp;try(with_reducible rfl))
  try simp only[Act.put,List.setIfInBounds_toArray,List.set_cons_zero,List.set_cons_succ]
  refine wpAnyH_take (i:=12) (v:=?_) A8 kR kR kR A9 (Or.inl ⟨rF,?_⟩) Aa ?_
  rotate_left 1
  ·(intro wS hSw;(try dsimp only at hSw);go_simp;try(with_reducible rfl))
  try simp only[Act.put,List.setIfInBounds_toArray,List.set_cons_zero,List.set_cons_succ]
  refine wpAnyH_take (i:=13) (v:=undef) A8 kR kR kR A9 (Or.inr ⟨rF,rfl⟩) Aa ?_;try simp only[Act.put,List.setIfInBounds_toArray,List.set_cons_zero,List.set_cons_succ]
  refine wpAnyH_take (i:=14) (v:=undef) A8 kR kR kR A9 (Or.inr ⟨rF,rfl⟩) Aa ?_;try simp only[Act.put,List.setIfInBounds_toArray,List.set_cons_zero,List.set_cons_succ]
  refine wpAnyH_take (i:=15) (v:=undef) A8 kR kR kR A9 (Or.inr ⟨rF,rfl⟩) Aa ?_;try simp only[Act.put,List.setIfInBounds_toArray,List.set_cons_zero,List.set_cons_succ]
  refine wpAnyH_take (i:=16) (v:=undef) A8 kR kR kR A9 (Or.inr ⟨rF,rfl⟩) Aa ?_;try simp only[Act.put,List.setIfInBounds_toArray,List.set_cons_zero,List.set_cons_succ]
  refine wpAnyH_take (i:=17) (v:=undef) A8 kR kR kR A9 (Or.inr ⟨rF,rfl⟩) Aa ?_;try simp only[Act.put,List.setIfInBounds_toArray,List.set_cons_zero,List.set_cons_succ]
  refine wpAnyH_take (i:=18) (v:=?_) A8 kR kR kR A9 (Or.inl ⟨rF,?_⟩) Aa ?_
  rotate_left 1
  ·(intro wS hSw;(try dsimp only at hSw);go_simp;try(with_reducible rfl))
  try simp only[Act.put,List.setIfInBounds_toArray,List.set_cons_zero,List.set_cons_succ]
  refine wpAnyH_done kR ?_ _;go_wp2;go_ret;exact⟨rfl,(bel HT.bel (Am _)).mono hE,fun e=>absurd e sM⟩
 cases X1
 .go_enter func39,ntmps39;go_wp2_with(go_at_call 74;refine HK1.mono ?_;rintro e w1 ⟨rfl,hw1⟩;have HT:Hid (TK w w1.heap.size G C L0 L1 L2 L3 L4 (w1.alloc (.cells #[.int .i64 L0,.int .i64 L1,.int .i64 L2,.int .i64 L3,.int .i64 L4] 144))):=R0);have HCX:Hid (∀v,Below (w1.alloc (.cells #[.int .i64 L0,.int .i64 L1,.int .i64 L2,.int .i64 L3,.int .i64 L4] 144)).heap.size (w1.alloc (.cells #[.int .i64 L0,.int .i64 L1,.int .i64 L2,.int .i64 L3,.int .i64 L4] 144)) v->v.cell? ⟨G,0,none⟩=some (.pointer (some ⟨C,0,none⟩))/\v.cell? ⟨w1.heap.size,0,none⟩=some (.int .i64 L0)/\v.cell? ⟨w1.heap.size,1,none⟩=some (.int .i64 L1)/\v.cell? ⟨w1.heap.size,2,none⟩=some (.int .i64 L2)/\v.cell? ⟨w1.heap.size,3,none⟩=some (.int .i64 L3)/\v.cell? ⟨w1.heap.size,4,none⟩=some (.int .i64 L4)):=fun v hv=>⟨(HT.next hv).g0,(HT.next hv).r0,(HT.next hv).r1,(HT.next hv).r2,(HT.next hv).r3,(HT.next hv).r4⟩;obtain⟨t0,t1,t2,t3,t4,t5⟩:=HCX.out _ (Cq _);refine rG (fun v=>v.cell? ⟨G,0,none⟩=some (.pointer (some ⟨C,0,none⟩))/\v.cell? ⟨w1.heap.size,0,none⟩=some (.int .i64 L0)/\v.cell? ⟨w1.heap.size,1,none⟩=some (.int .i64 L1)/\v.cell? ⟨w1.heap.size,2,none⟩=some (.int .i64 L2)/\v.cell? ⟨w1.heap.size,3,none⟩=some (.int .i64 L3)/\v.cell? ⟨w1.heap.size,4,none⟩=some (.int .i64 L4)) fun hJ=>?_;refine wpAnyH_take (i:=0) (v:=?_) A8 kR kR kR A9 (Or.inl ⟨rF,?_⟩) Aa ?_
  rotate_left 1
  ·(intro wS hSw;(try dsimp only at hSw);go_simp;try(with_reducible rfl))
  try simp only[Act.put,List.setIfInBounds_toArray,List.set_cons_zero,List.set_cons_succ]
  refine wpAnyH_take (i:=1) (v:=?_) A8 kR kR kR A9 (Or.inl ⟨rF,?_⟩) Aa ?_
  rotate_left 1
  ·(intro wS hSw;(try dsimp only at hSw);go_simp;try(with_reducible rfl))
  try simp only[Act.put,List.setIfInBounds_toArray,List.set_cons_zero,List.set_cons_succ]
  refine wpAnyH_take (i:=2) (v:=?_) A8 kR kR kR A9 (Or.inl ⟨rF,?_⟩) Aa ?_
  rotate_left 1
  ·(intro wS hSw;(try dsimp only at hSw);go_simp;try(with_reducible rfl))
  try simp only[Act.put,List.setIfInBounds_toArray,List.set_cons_zero,List.set_cons_succ]
  refine wpAnyH_take (i:=3) (v:=?_) A8 kR kR kR A9 (Or.inl ⟨rF,?_⟩) Aa ?_
  rotate_left 1
  ·(intro wS hSw;(try dsimp only at hSw);go_simp;try(with_reducible rfl))
  try simp only[Act.put,List.setIfInBounds_toArray,List.set_cons_zero,List.set_cons_succ]
  refine wpAnyH_take (i:=4) (v:=?_) A8 kR kR kR A9 (Or.inl ⟨rF,?_⟩) Aa ?_
  rotate_left 1
  ·(intro wS hSw;(try dsimp only at hSw);go_simp;try(with_reducible rfl))
  try simp only[Act.put,List.setIfInBounds_toArray,List.set_cons_zero,List.set_cons_succ]
  refine wpAnyH_take (i:=5) (v:=?_) A8 kR kR kR A9 (Or.inl ⟨rF,?_⟩) Aa ?_
  rotate_left 1
  ·(intro wS hSw;(try dsimp only at hSw);go_simp;try(with_reducible rfl))
  try simp only[Act.put,List.setIfInBounds_toArray,List.set_cons_zero,List.set_cons_succ]
  refine wpAnyH_take (i:=6) (v:=?_) A8 kR kR kR A9 (Or.inl ⟨rF,?_⟩) Aa ?_
  rotate_left 1
  ·(intro wS hSw;(try dsimp only at hSw);go_simp;try(with_reducible rfl))
  try simp only[Act.put,List.setIfInBounds_toArray,List.set_cons_zero,List.set_cons_succ]
  refine wpAnyH_take (i:=7) (v:=?_) A8 kR kR kR A9 (Or.inl ⟨rF,?_⟩) Aa ?_
  rotate_left 1
  ·(intro wS hSw;(try dsimp only at hSw);go_simp;try(with_reducible rfl))
  try simp only[Act.put,List.setIfInBounds_toArray,List.set_cons_zero,List.set_cons_succ]
  refine wpAnyH_take (i:=8) (v:=?_) A8 kR kR kR A9 (Or.inl ⟨rF,?_⟩) Aa ?_
  rotate_left 1
  ·(intro wS hSw;(try dsimp only at hSw);go_simp;try(with_reducible rfl))
  try simp only[Act.put,List.setIfInBounds_toArray,List.set_cons_zero,List.set_cons_succ]
  clear hJ;refine AP 9 fun K hK=>?_;go_simp;(go_at_call 75;refine(HK2.out _ (HC0.below (bel HT.bel (Am _))) (HI0.below (bel HT.bel (Am _)))).mono ?_;rintro e w2 ⟨rfl,hw2⟩;have HB2:=bel (Am _) hw2;obtain⟨y0,y1,y2,y3,y4,y5⟩:=HCX.out w2 HB2);try(go_wp2_with fail)
  refine AW hK fun hJ=>?_;clear hK K;refine wpAnyH_take (i:=10) (v:=?_) A8 kR kR kR A9 (Or.inl ⟨rF,?_⟩) Aa ?_
  rotate_left 1
  ·(intro wS hSw;(try dsimp only at hSw);go_simp;try(with_reducible rfl))
  try simp only[Act.put,List.setIfInBounds_toArray,List.set_cons_zero,List.set_cons_succ]
  refine wpAnyH_take (i:=11) (v:=?_) A8 kR kR kR A9 (Or.inl ⟨rF,?_⟩) Aa ?_
  rotate_left 1
  ·(intro wS hSw;(try dsimp only at hSw);go_simp;try(with_reducible rfl))
  try simp only[Act.put,List.setIfInBounds_toArray,List.set_cons_zero,List.set_cons_succ]
  refine wpAnyH_take (i:=12) (v:=?_) A8 kR kR kR A9 (Or.inl ⟨rF,?_⟩) Aa ?_
  rotate_left 1
  ·(intro wS hSw;(try dsimp only at hSw);go_simp;try(with_reducible rfl))
  try simp only[Act.put,List.setIfInBounds_toArray,List.set_cons_zero,List.set_cons_succ]
  refine wpAnyH_take (i:=13) (v:=undef) A8 kR kR kR A9 (Or.inr ⟨rF,rfl⟩) Aa ?_;try simp only[Act.put,List.setIfInBounds_toArray,List.set_cons_zero,List.set_cons_succ]
  refine wpAnyH_take (i:=14) (v:=undef) A8 kR kR kR A9 (Or.inr ⟨rF,rfl⟩) Aa ?_;try simp only[Act.put,List.setIfInBounds_toArray,List.set_cons_zero,List.set_cons_succ]
  refine wpAnyH_take (i:=15) (v:=undef) A8 kR kR kR A9 (Or.inr ⟨rF,rfl⟩) Aa ?_;try simp only[Act.put,List.setIfInBounds_toArray,List.set_cons_zero,List.set_cons_succ]
  refine wpAnyH_take (i:=16) (v:=undef) A8 kR kR kR A9 (Or.inr ⟨rF,rfl⟩) Aa ?_;try simp only[Act.put,List.setIfInBounds_toArray,List.set_cons_zero,List.set_cons_succ]
  refine wpAnyH_take (i:=17) (v:=undef) A8 kR kR kR A9 (Or.inr ⟨rF,rfl⟩) Aa ?_;try simp only[Act.put,List.setIfInBounds_toArray,List.set_cons_zero,List.set_cons_succ]
  refine wpAnyH_take (i:=18) (v:=?_) A8 kR kR kR A9 (Or.inl ⟨rF,?_⟩) Aa ?_
  rotate_left 1
  ·(intro wS hSw;(try dsimp only at hSw);go_simp;try(with_reducible rfl))
  try simp only[Act.put,List.setIfInBounds_toArray,List.set_cons_zero,List.set_cons_succ]
  refine wpAnyH_done kR ?_ _;go_wp2;go_ret;exact⟨rfl,(bel HT.bel HB2).mono hE,fun e=>absurd e sM⟩
 cases X2
 .go_enter func39,ntmps39;go_wp2_with(go_at_call 74;refine HK1.mono ?_;rintro e w1 ⟨rfl,hw1⟩;have HT:Hid (TK w w1.heap.size G C L0 L1 L2 L3 L4 (w1.alloc (.cells #[.int .i64 L0,.int .i64 L1,.int .i64 L2,.int .i64 L3,.int .i64 L4] 144))):=R0);have HCX:Hid (∀v,Below (w1.alloc (.cells #[.int .i64 L0,.int .i64 L1,.int .i64 L2,.int .i64 L3,.int .i64 L4] 144)).heap.size (w1.alloc (.cells #[.int .i64 L0,.int .i64 L1,.int .i64 L2,.int .i64 L3,.int .i64 L4] 144)) v->v.cell? ⟨G,0,none⟩=some (.pointer (some ⟨C,0,none⟩))/\v.cell? ⟨w1.heap.size,0,none⟩=some (.int .i64 L0)/\v.cell? ⟨w1.heap.size,1,none⟩=some (.int .i64 L1)/\v.cell? ⟨w1.heap.size,2,none⟩=some (.int .i64 L2)/\v.cell? ⟨w1.heap.size,3,none⟩=some (.int .i64 L3)/\v.cell? ⟨w1.heap.size,4,none⟩=some (.int .i64 L4)):=fun v hv=>⟨(HT.next hv).g0,(HT.next hv).r0,(HT.next hv).r1,(HT.next hv).r2,(HT.next hv).r3,(HT.next hv).r4⟩;obtain⟨t0,t1,t2,t3,t4,t5⟩:=HCX.out _ (Cq _);refine rG (fun v=>v.cell? ⟨G,0,none⟩=some (.pointer (some ⟨C,0,none⟩))/\v.cell? ⟨w1.heap.size,0,none⟩=some (.int .i64 L0)/\v.cell? ⟨w1.heap.size,1,none⟩=some (.int .i64 L1)/\v.cell? ⟨w1.heap.size,2,none⟩=some (.int .i64 L2)/\v.cell? ⟨w1.heap.size,3,none⟩=some (.int .i64 L3)/\v.cell? ⟨w1.heap.size,4,none⟩=some (.int .i64 L4)) fun hJ=>?_;refine wpAnyH_take (i:=0) (v:=?_) A8 kR kR kR A9 (Or.inl ⟨rF,?_⟩) Aa ?_
  rotate_left 1
  ·(intro wS hSw;(try dsimp only at hSw);go_simp;try(with_reducible rfl))
  try simp only[Act.put,List.setIfInBounds_toArray,List.set_cons_zero,List.set_cons_succ]
  refine wpAnyH_take (i:=1) (v:=?_) A8 kR kR kR A9 (Or.inl ⟨rF,?_⟩) Aa ?_
  rotate_left 1
  ·(intro wS hSw;(try dsimp only at hSw);go_simp;try(with_reducible rfl))
  try simp only[Act.put,List.setIfInBounds_toArray,List.set_cons_zero,List.set_cons_succ]
  refine wpAnyH_take (i:=2) (v:=?_) A8 kR kR kR A9 (Or.inl ⟨rF,?_⟩) Aa ?_
  rotate_left 1
  ·(intro wS hSw;(try dsimp only at hSw);go_simp;try(with_reducible rfl))
  try simp only[Act.put,List.setIfInBounds_toArray,List.set_cons_zero,List.set_cons_succ]
  refine wpAnyH_take (i:=3) (v:=?_) A8 kR kR kR A9 (Or.inl ⟨rF,?_⟩) Aa ?_
  rotate_left 1
  ·(intro wS hSw;(try dsimp only at hSw);go_simp;try(with_reducible rfl))
  try simp only[Act.put,List.setIfInBounds_toArray,List.set_cons_zero,List.set_cons_succ]
  refine wpAnyH_take (i:=4) (v:=?_) A8 kR kR kR A9 (Or.inl ⟨rF,?_⟩) Aa ?_
  rotate_left 1
  ·(intro wS hSw;(try dsimp only at hSw);go_simp;try(with_reducible rfl))
  try simp only[Act.put,List.setIfInBounds_toArray,List.set_cons_zero,List.set_cons_succ]
  refine wpAnyH_take (i:=5) (v:=?_) A8 kR kR kR A9 (Or.inl ⟨rF,?_⟩) Aa ?_
  rotate_left 1
  ·(intro wS hSw;(try dsimp only at hSw);go_simp;try(with_reducible rfl))
  try simp only[Act.put,List.setIfInBounds_toArray,List.set_cons_zero,List.set_cons_succ]
  refine wpAnyH_take (i:=6) (v:=?_) A8 kR kR kR A9 (Or.inl ⟨rF,?_⟩) Aa ?_
  rotate_left 1
  ·(intro wS hSw;(try dsimp only at hSw);go_simp;try(with_reducible rfl))
  try simp only[Act.put,List.setIfInBounds_toArray,List.set_cons_zero,List.set_cons_succ]
  refine wpAnyH_take (i:=7) (v:=?_) A8 kR kR kR A9 (Or.inl ⟨rF,?_⟩) Aa ?_
  rotate_left 1
  ·(intro wS hSw;(try dsimp only at hSw);go_simp;try(with_reducible rfl))
  try simp only[Act.put,List.setIfInBounds_toArray,List.set_cons_zero,List.set_cons_succ]
  refine wpAnyH_take (i:=8) (v:=?_) A8 kR kR kR A9 (Or.inl ⟨rF,?_⟩) Aa ?_
  rotate_left 1
  ·(intro wS hSw;(try dsimp only at hSw);go_simp;try(with_reducible rfl))
  try simp only[Act.put,List.setIfInBounds_toArray,List.set_cons_zero,List.set_cons_succ]
  clear hJ;refine AP 9 fun K hK=>?_;go_simp;(go_at_call 75;refine(HK2.out _ (HC0.below (bel HT.bel (Am _))) (HI0.below (bel HT.bel (Am _)))).mono ?_;rintro e w2 ⟨rfl,hw2⟩;have HB2:=bel (Am _) hw2;obtain⟨y0,y1,y2,y3,y4,y5⟩:=HCX.out w2 HB2);try(go_wp2_with fail)
  refine AW hK fun hJ=>?_;clear hK K;refine wpAnyH_take (i:=10) (v:=?_) A8 kR kR kR A9 (Or.inl ⟨rF,?_⟩) Aa ?_
  rotate_left 1
  ·(intro wS hSw;(try dsimp only at hSw);go_simp;try(with_reducible rfl))
  try simp only[Act.put,List.setIfInBounds_toArray,List.set_cons_zero,List.set_cons_succ]
  refine wpAnyH_take (i:=11) (v:=?_) A8 kR kR kR A9 (Or.inl ⟨rF,?_⟩) Aa ?_
  rotate_left 1
  ·(intro wS hSw;(try dsimp only at hSw);go_simp;try(with_reducible rfl))
  try simp only[Act.put,List.setIfInBounds_toArray,List.set_cons_zero,List.set_cons_succ]
  refine wpAnyH_take (i:=12) (v:=?_) A8 kR kR kR A9 (Or.inl ⟨rF,?_⟩) Aa ?_
  rotate_left 1
  ·(intro wS hSw;(try dsimp only at hSw);go_simp;try(with_reducible rfl))
  try simp only[Act.put,List.setIfInBounds_toArray,List.set_cons_zero,List.set_cons_succ]
  refine wpAnyH_take (i:=13) (v:=?_) A8 kR kR kR A9 (Or.inl ⟨rF,?_⟩) Aa ?_
  rotate_left 1
  ·(intro wS hSw;(try dsimp only at hSw);go_simp;try(with_reducible rfl))
  try simp only[Act.put,List.setIfInBounds_toArray,List.set_cons_zero,List.set_cons_succ]
  refine wpAnyH_take (i:=14) (v:=?_) A8 kR kR kR A9 (Or.inl ⟨rF,?_⟩) Aa ?_
  rotate_left 1
  ·(intro wS hSw;(try dsimp only at hSw);go_simp;try(with_reducible rfl))
  try simp only[Act.put,List.setIfInBounds_toArray,List.set_cons_zero,List.set_cons_succ]
  refine wpAnyH_take (i:=15) (v:=?_) A8 kR kR kR A9 (Or.inl ⟨rF,?_⟩) Aa ?_
  rotate_left 1
  ·(intro wS hSw;(try dsimp only at hSw);go_simp;try(with_reducible rfl))
  try simp only[Act.put,List.setIfInBounds_toArray,List.set_cons_zero,List.set_cons_succ]
  clear hJ;refine AP 16 fun K hK=>?_;go_simp;(go_at_call 76;refine(HK3.out _ (HS0.below (bel HT.bel HB2)) (HC0.below (bel HT.bel HB2)) (HI0.below (bel HT.bel HB2))).mono ?_;rintro e w3 ⟨rfl,hw3⟩;have HB3:=bel HB2 hw3;obtain⟨y0,y1,y2,y3,y4,y5⟩:=HCX.out w3 HB3);try(go_wp2_with fail)
  refine AW hK fun hJ=>?_;clear hK K;refine wpAnyH_take (i:=17) (v:=?_) A8 kR kR kR A9 (Or.inl ⟨rF,?_⟩) Aa ?_
  rotate_left 1
  ·(intro wS hSw;(try dsimp only at hSw);go_simp;try(with_reducible rfl))
  try simp only[Act.put,List.setIfInBounds_toArray,List.set_cons_zero,List.set_cons_succ]
  refine wpAnyH_take (i:=18) (v:=?_) A8 kR kR kR A9 (Or.inl ⟨rF,?_⟩) Aa ?_
  rotate_left 1
  ·(intro wS hSw;(try dsimp only at hSw);go_simp;try(with_reducible rfl))
  try simp only[Act.put,List.setIfInBounds_toArray,List.set_cons_zero,List.set_cons_succ]
  refine wpAnyH_done kR ?_ _;go_wp2;go_ret;exact⟨rfl,(bel HT.bel HB3).mono hE,fun e=>absurd e sM⟩
 go_enter func39,ntmps39;go_wp2_with(go_at_call 74;refine HK1.mono ?_;rintro e w1 ⟨rfl,hw1⟩;have HT:Hid (TK w w1.heap.size G C L0 L1 L2 L3 L4 (w1.alloc (.cells #[.int .i64 L0,.int .i64 L1,.int .i64 L2,.int .i64 L3,.int .i64 L4] 144))):=R0);have HCX:Hid (∀v,Below (w1.alloc (.cells #[.int .i64 L0,.int .i64 L1,.int .i64 L2,.int .i64 L3,.int .i64 L4] 144)).heap.size (w1.alloc (.cells #[.int .i64 L0,.int .i64 L1,.int .i64 L2,.int .i64 L3,.int .i64 L4] 144)) v->v.cell? ⟨G,0,none⟩=some (.pointer (some ⟨C,0,none⟩))/\v.cell? ⟨w1.heap.size,0,none⟩=some (.int .i64 L0)/\v.cell? ⟨w1.heap.size,1,none⟩=some (.int .i64 L1)/\v.cell? ⟨w1.heap.size,2,none⟩=some (.int .i64 L2)/\v.cell? ⟨w1.heap.size,3,none⟩=some (.int .i64 L3)/\v.cell? ⟨w1.heap.size,4,none⟩=some (.int .i64 L4)):=fun v hv=>⟨(HT.next hv).g0,(HT.next hv).r0,(HT.next hv).r1,(HT.next hv).r2,(HT.next hv).r3,(HT.next hv).r4⟩;obtain⟨t0,t1,t2,t3,t4,t5⟩:=HCX.out _ (Cq _);refine rG (fun v=>v.cell? ⟨G,0,none⟩=some (.pointer (some ⟨C,0,none⟩))/\v.cell? ⟨w1.heap.size,0,none⟩=some (.int .i64 L0)/\v.cell? ⟨w1.heap.size,1,none⟩=some (.int .i64 L1)/\v.cell? ⟨w1.heap.size,2,none⟩=some (.int .i64 L2)/\v.cell? ⟨w1.heap.size,3,none⟩=some (.int .i64 L3)/\v.cell? ⟨w1.heap.size,4,none⟩=some (.int .i64 L4)) fun hJ=>?_;refine wpAnyH_take (i:=0) (v:=?_) A8 kR kR kR A9 (Or.inl ⟨rF,?_⟩) Aa ?_
 rotate_left 1
 ·(intro wS hSw;(try dsimp only at hSw);go_simp;try(with_reducible rfl))
 try simp only[Act.put,List.setIfInBounds_toArray,List.set_cons_zero,List.set_cons_succ]
 refine wpAnyH_take (i:=1) (v:=?_) A8 kR kR kR A9 (Or.inl ⟨rF,?_⟩) Aa ?_
 rotate_left 1
 ·(intro wS hSw;(try dsimp only at hSw);go_simp;try(with_reducible rfl))
 try simp only[Act.put,List.setIfInBounds_toArray,List.set_cons_zero,List.set_cons_succ]
 refine wpAnyH_take (i:=2) (v:=?_) A8 kR kR kR A9 (Or.inl ⟨rF,?_⟩) Aa ?_
 rotate_left 1
 ·(intro wS hSw;(try dsimp only at hSw);go_simp;try(with_reducible rfl))
 try simp only[Act.put,List.setIfInBounds_toArray,List.set_cons_zero,List.set_cons_succ]
 refine wpAnyH_take (i:=3) (v:=?_) A8 kR kR kR A9 (Or.inl ⟨rF,?_⟩) Aa ?_
 rotate_left 1
 ·(intro wS hSw;(try dsimp only at hSw);go_simp;try(with_reducible rfl))
 try simp only[Act.put,List.setIfInBounds_toArray,List.set_cons_zero,List.set_cons_succ]
 refine wpAnyH_take (i:=4) (v:=?_) A8 kR kR kR A9 (Or.inl ⟨rF,?_⟩) Aa ?_
 rotate_left 1
 ·(intro wS hSw;(try dsimp only at hSw);go_simp;try(with_reducible rfl))
 try simp only[Act.put,List.setIfInBounds_toArray,List.set_cons_zero,List.set_cons_succ]
 refine wpAnyH_take (i:=5) (v:=?_) A8 kR kR kR A9 (Or.inl ⟨rF,?_⟩) Aa ?_
 rotate_left 1
 ·(intro wS hSw;(try dsimp only at hSw);go_simp;try(with_reducible rfl))
 try simp only[Act.put,List.setIfInBounds_toArray,List.set_cons_zero,List.set_cons_succ]
 refine wpAnyH_take (i:=6) (v:=?_) A8 kR kR kR A9 (Or.inl ⟨rF,?_⟩) Aa ?_
 rotate_left 1
 ·(intro wS hSw;(try dsimp only at hSw);go_simp;try(with_reducible rfl))
 try simp only[Act.put,List.setIfInBounds_toArray,List.set_cons_zero,List.set_cons_succ]
 refine wpAnyH_take (i:=7) (v:=?_) A8 kR kR kR A9 (Or.inl ⟨rF,?_⟩) Aa ?_
 rotate_left 1
 ·(intro wS hSw;(try dsimp only at hSw);go_simp;try(with_reducible rfl))
 try simp only[Act.put,List.setIfInBounds_toArray,List.set_cons_zero,List.set_cons_succ]
 refine wpAnyH_take (i:=8) (v:=?_) A8 kR kR kR A9 (Or.inl ⟨rF,?_⟩) Aa ?_
 rotate_left 1
 ·(intro wS hSw;(try dsimp only at hSw);go_simp;try(with_reducible rfl))
 try simp only[Act.put,List.setIfInBounds_toArray,List.set_cons_zero,List.set_cons_succ]
 clear hJ;refine AP 9 fun K hK=>?_;go_simp;(go_at_call 75;refine(HK2.out _ (HC0.below (bel HT.bel (Am _))) (HI0.below (bel HT.bel (Am _)))).mono ?_;rintro e w2 ⟨rfl,hw2⟩;have HB2:=bel (Am _) hw2;obtain⟨y0,y1,y2,y3,y4,y5⟩:=HCX.out w2 HB2);try(go_wp2_with fail)
 refine AW hK fun hJ=>?_;clear hK K;refine wpAnyH_take (i:=10) (v:=?_) A8 kR kR kR A9 (Or.inl ⟨rF,?_⟩) Aa ?_
 rotate_left 1
 ·(intro wS hSw;(try dsimp only at hSw);go_simp;try(with_reducible rfl))
 try simp only[Act.put,List.setIfInBounds_toArray,List.set_cons_zero,List.set_cons_succ]
 refine wpAnyH_take (i:=11) (v:=?_) A8 kR kR kR A9 (Or.inl ⟨rF,?_⟩) Aa ?_
 rotate_left 1
 ·(intro wS hSw;(try dsimp only at hSw);go_simp;try(with_reducible rfl))
 try simp only[Act.put,List.setIfInBounds_toArray,List.set_cons_zero,List.set_cons_succ]
 refine wpAnyH_take (i:=12) (v:=?_) A8 kR kR kR A9 (Or.inl ⟨rF,?_⟩) Aa ?_
 rotate_left 1
 ·(intro wS hSw;(try dsimp only at hSw);go_simp;try(with_reducible rfl))
 try simp only[Act.put,List.setIfInBounds_toArray,List.set_cons_zero,List.set_cons_succ]
 refine wpAnyH_take (i:=13) (v:=?_) A8 kR kR kR A9 (Or.inl ⟨rF,?_⟩) Aa ?_
 rotate_left 1
 ·(intro wS hSw;(try dsimp only at hSw);go_simp;try(with_reducible rfl))
 try simp only[Act.put,List.setIfInBounds_toArray,List.set_cons_zero,List.set_cons_succ]
 refine wpAnyH_take (i:=14) (v:=?_) A8 kR kR kR A9 (Or.inl ⟨rF,?_⟩) Aa ?_
 rotate_left 1
 ·(intro wS hSw;(try dsimp only at hSw);go_simp;try(with_reducible rfl))
 try simp only[Act.put,List.setIfInBounds_toArray,List.set_cons_zero,List.set_cons_succ]
 refine wpAnyH_take (i:=15) (v:=?_) A8 kR kR kR A9 (Or.inl ⟨rF,?_⟩) Aa ?_
 rotate_left 1
 ·(intro wS hSw;(try dsimp only at hSw);go_simp;try(with_reducible rfl))
 try simp only[Act.put,List.setIfInBounds_toArray,List.set_cons_zero,List.set_cons_succ]
 clear hJ;refine AP 16 fun K hK=>?_;go_simp;(go_at_call 76;refine(HK3.out _ (HS0.below (bel HT.bel HB2)) (HC0.below (bel HT.bel HB2)) (HI0.below (bel HT.bel HB2))).mono ?_;rintro e w3 ⟨rfl,hw3⟩;have HB3:=bel HB2 hw3;obtain⟨y0,y1,y2,y3,y4,y5⟩:=HCX.out w3 HB3);try(go_wp2_with fail)
 refine AW hK fun hJ=>?_;clear hK K;refine wpAnyH_take (i:=17) (v:=?_) A8 kR kR kR A9 (Or.inl ⟨rF,?_⟩) Aa ?_
 rotate_left 1
 ·(intro wS hSw;(try dsimp only at hSw);go_simp;try(with_reducible rfl))
 try simp only[Act.put,List.setIfInBounds_toArray,List.set_cons_zero,List.set_cons_succ]
 refine wpAnyH_take (i:=18) (v:=?_) A8 kR kR kR A9 (Or.inl ⟨rF,?_⟩) Aa ?_
 rotate_left 1
 ·(intro wS hSw;(try dsimp only at hSw);go_simp;try(with_reducible rfl))
 try simp only[Act.put,List.setIfInBounds_toArray,List.set_cons_zero,List.set_cons_succ]
 refine wpAnyH_done kR ?_ _;have HT3:Hid (TK w w1.heap.size G C L0 L1 L2 L3 L4 w3):=HT.next HB3;clear HB2 HB3 hw2 hw3;go_wp2_with(go_at_call 77;refine(HK4.out _ (HI0.below HT3.bel)).mono ?_;rintro e w4 ⟨u,rfl,hu,hw4⟩;obtain⟨pu,cu,hue⟩:=AF hu;subst hue;have HU:Hid (w4.ownsRow w3.heap.size 3 1 (.slice pu RL.length cu) RL.length (BV RL)):=hu;have HT4:Hid (TK w w1.heap.size G C L0 L1 L2 L3 L4 w4):=HT3.next hw4;clear hu hw4);have HSW:Hid (WS E G C n gi vs vo w4 s):=HS0.below HT4.bel;have k0:=HT4.r0;have k1:=HT4.r1;have k2:=HT4.r2;have k3:=HT4.r3;have k4:=HT4.r4;have HFX:Hid (∀j (hj:j<RL.length),∃ (gu x:Nat),pu=some ⟨gu,0,none⟩/\w4.cell? ⟨gu,j,none⟩=some (.int .i64 (x:Int))/\x<n/\w4.cell? ⟨gi,x,none⟩=some (.bool (decide (x∈s.set)))/\decide (x∈s.set)=decide (RL[j].toNat∈s.set)):=fun j hj=>by
  obtain⟨gu,cap,hv,_,_,_,_,hcl⟩:=DD HU.out oM;simp only[Value.slice.injEq]at hv;have hx:=HKL.out fT RL[j] (gD hj);refine⟨gu,RL[j].toNat,hv.1,?_,oM,HSW.i.cell oM,rfl⟩;rw[show((RL[j].toNat:Nat):Int)=RL[j] by omega];exact hcl j _ (by simp[BV,gB hj])
 have d1:=HSW.c1;obtain⟨M,hM⟩:=gA (RL.length)
 have HM:Hid (RL.length=M):=hM;rw[hM]at KN |-;clear hM
 go_loopw [40] (fun iv wr=>wr=w4/\∃j:Nat,j<=M/\iv=.int .i64 j/\Hid (∀i (h:i<RL.length),i<j->decide (RL[i].toNat∈s.set)=true)) (fun iv _=>M-(intOf iv).toNat)
 case atStart=>exact⟨rfl,0,gI _,rfl,fun i h hi=>absurd hi (Nat.not_lt_zero _)⟩
 case round=>
  clear HT HT3 HCX t0 t1 t2 t3 t4 t5 y0 y1 y2 y3 y4 y5;obtain⟨rfl,j,hj,rfl,hp⟩:=hrel;by_cases hlt:j<M
  .have hll:j<RL.length:=by rw[HM.out];exact hlt
   obtain⟨gu,x,rfl,a1,a2,a3,a4⟩:=HFX.out j hll;have NX:Hid (decide (RL[j].toNat∈s.set)=true->∀i (h:i<RL.length),i<j+1->decide (RL[i].toNat∈s.set)=true):=fun hq i h hi=>by
    exact OZ
   have NB:Hid (decide (RL[j].toNat∈s.set)=false->(RL.all fun n=>decide (n.toNat∈s.set))=false):=fun h=>List.all_eq_false.2 ⟨RL[j],gD hll,by rw[h];decide⟩;rw[<-a4]at NX NB;have i1:(0:Int)<=(j:Int):=oM;have i2:(j:Int)<(M:Int):=oM;have i3:(0:Int)<=(x:Int):=oM;have i4:(x:Int)<(n:Int):=oM;obtain⟨Y,hY⟩:=gA (decide (x∈s.set))
   rw[hY]at NX NB a3;clear hp hY a4 HFX HU;cases Y
   .go_wp2;go_ret;have hF:AL=false:=by rw[<-HAL.out];exact NB.out fT
    exact⟨by rw[hF];rfl,HT4.bel.mono hE,fun e=>absurd e (by simp[hF])⟩
   .go_wp2;go_roundw
    case rel=>exact⟨fT,j+1,oM,gN,NX.out fT⟩
    case measure=>simp[intOf];omega
  .have:j=M:=oM;subst this;have HF:Hid ((RL.all fun n=>decide (n.toNat∈s.set))=true):=List.all_eq_true.2 fun t ht=>by
    obtain⟨i,hi,rfl⟩:=List.mem_iff_getElem.1 ht;exact hp.out i hi (by rw[<-HM.out];exact hi)
   clear hp;go_wp2_with(go_at_call 78;refine(HK5.out fT fT _ HSW.out (HI0.below HT4.bel)).mono ?_;rintro e w6 ⟨rfl,hb6,hws⟩;have HB6:Hid (Below E wr w6):=hb6;have HWS:Hid (∃vs' vo',WS E G C n gi vs' vo' w6 Z):=hws;clear hb6 hws);go_ret;exact⟨by rw[<-HAL.out,HF.out];rfl,(HT4.bel.mono hE).trans HB6.out,fun _=>HWS.out⟩
theorem Gk(op:Int)(h:AB op=false)(w:World):Calls prog 48 #[.int .i64 op] w fun e w'=>e=.returned (.tuple #[.string ⟨#[]⟩,.bool false])/\w'=w:=by
 have hh:op<1\/37<op:=by unfold AB at h;simp at h;omega
 have e1:(op==1)=false:=by have:op≠1:=oM;simpa using this
 have e2:(op==2)=false:=by have:op≠2:=oM;simpa using this
 have e3:(op==3)=false:=by have:op≠3:=oM;simpa using this
 have e4:(op==4)=false:=by have:op≠4:=oM;simpa using this
 have e5:(op==5)=false:=by have:op≠5:=oM;simpa using this
 have e6:(op==6)=false:=by have:op≠6:=oM;simpa using this
 have e7:(op==7)=false:=by have:op≠7:=oM;simpa using this
 have e8:(op==8)=false:=by have:op≠8:=oM;simpa using this
 have e9:(op==9)=false:=by have:op≠9:=oM;simpa using this
 have e10:(op==10)=false:=by have:op≠10:=oM;simpa using this
 have e11:(op==11)=false:=by have:op≠11:=oM;simpa using this
 have e12:(op==12)=false:=by have:op≠12:=oM;simpa using this
 have e13:(op==13)=false:=by have:op≠13:=oM;simpa using this
 have e14:(op==14)=false:=by have:op≠14:=oM;simpa using this
 have e15:(op==15)=false:=by have:op≠15:=oM;simpa using this
 have e16:(op==16)=false:=by have:op≠16:=oM;simpa using this
 have e17:(op==17)=false:=by have:op≠17:=oM;simpa using this
 have e18:(op==18)=false:=by have:op≠18:=oM;simpa using this
 have e19:(op==19)=false:=by have:op≠19:=oM;simpa using this
 have e20:(op==20)=false:=by have:op≠20:=oM;simpa using this
 have e21:(op==21)=false:=by have:op≠21:=oM;simpa using this
 have e22:(op==22)=false:=by have:op≠22:=oM;simpa using this
 have e23:(op==23)=false:=by have:op≠23:=oM;simpa using this
 have e24:(op==24)=false:=by have:op≠24:=oM;simpa using this
 have e25:(op==25)=false:=by have:op≠25:=oM;simpa using this
 have e26:(op==26)=false:=by have:op≠26:=oM;simpa using this
 have e27:(op==27)=false:=by have:op≠27:=oM;simpa using this
 have e28:(op==28)=false:=by have:op≠28:=oM;simpa using this
 have e29:(op==29)=false:=by have:op≠29:=oM;simpa using this
 have e30:(op==30)=false:=by have:op≠30:=oM;simpa using this
 have e31:(op==31)=false:=by have:op≠31:=oM;simpa using this
 have e32:(op==32)=false:=by have:op≠32:=oM;simpa using this
 have e33:(op==33)=false:=by have:op≠33:=oM;simpa using this
 have e34:(op==34)=false:=by have:op≠34:=oM;simpa using this
 have e35:(op==35)=false:=by have:op≠35:=oM;simpa using this
 have e36:(op==36)=false:=by have:op≠36:=oM;simpa using this
 have e37:(op==37)=false:=by have:op≠37:=oM;simpa using this
 clear hh h;exact Do
structure Nt(r:Rw)(a b c d e:UInt8):Prop where
 a:(a==45)=(r.d==0)
 b:(b==45)=(r.a==0)
 c:(c==45)=(r.b==0)
 d:(d==45)=(r.c==0)
theorem FH(op:Int)(w:World):(AB op=false/\Calls prog 48 #[.int .i64 op] w fun e w'=>e=.returned (.tuple #[.string ⟨#[]⟩,.bool false])/\w'=w)\/(AB op=true/\∃a b c d e:UInt8,Nt (Ag op) a b c d e/\∀w,Calls prog 48 #[.int .i64 op] w fun x w'=>x=.returned (.tuple #[.string ⟨#[a,b,c,d,e]⟩,.bool true])/\w'=w):=by
 by_cases h:AB op=false
 .exact .inl ⟨h,Gk op h w⟩
 .have hh:1<=op/\op<=37:=by unfold AB at h;simp at h;omega
  refine .inr ⟨by simpa using h,?_⟩;clear h;by_cases k1:op=1
  .subst k1;exact⟨_,_,_,_,_,⟨rfl,rfl,rfl,rfl⟩,fun w=>MO w⟩
  by_cases k2:op=2
  .subst k2;exact⟨_,_,_,_,_,⟨rfl,rfl,rfl,rfl⟩,fun w=>MP w⟩
  by_cases k3:op=3
  .subst k3;exact⟨_,_,_,_,_,⟨rfl,rfl,rfl,rfl⟩,fun w=>MQ w⟩
  by_cases k4:op=4
  .subst k4;exact⟨_,_,_,_,_,⟨rfl,rfl,rfl,rfl⟩,fun w=>MR w⟩
  by_cases k5:op=5
  .subst k5;exact⟨_,_,_,_,_,⟨rfl,rfl,rfl,rfl⟩,fun w=>MS w⟩
  by_cases k6:op=6
  .subst k6;exact⟨_,_,_,_,_,⟨rfl,rfl,rfl,rfl⟩,fun w=>MT w⟩
  by_cases k7:op=7
  .subst k7;exact⟨_,_,_,_,_,⟨rfl,rfl,rfl,rfl⟩,fun w=>MU w⟩
  by_cases k8:op=8
  .subst k8;exact⟨_,_,_,_,_,⟨rfl,rfl,rfl,rfl⟩,fun w=>MV w⟩
  by_cases k9:op=9
  .subst k9;exact⟨_,_,_,_,_,⟨rfl,rfl,rfl,rfl⟩,fun w=>MX w⟩
  by_cases k10:op=10
  .subst k10;exact⟨_,_,_,_,_,⟨rfl,rfl,rfl,rfl⟩,fun w=>Jp w⟩
  by_cases k11:op=11
  .subst k11;exact⟨_,_,_,_,_,⟨rfl,rfl,rfl,rfl⟩,fun w=>Jq w⟩
  by_cases k12:op=12
  .subst k12;exact⟨_,_,_,_,_,⟨rfl,rfl,rfl,rfl⟩,fun w=>Jr w⟩
  by_cases k13:op=13
  .subst k13;exact⟨_,_,_,_,_,⟨rfl,rfl,rfl,rfl⟩,fun w=>Js w⟩
  by_cases k14:op=14
  .subst k14;exact⟨_,_,_,_,_,⟨rfl,rfl,rfl,rfl⟩,fun w=>Jt w⟩
  by_cases k15:op=15
  .subst k15;exact⟨_,_,_,_,_,⟨rfl,rfl,rfl,rfl⟩,fun w=>Ju w⟩
  by_cases k16:op=16
  .subst k16;exact⟨_,_,_,_,_,⟨rfl,rfl,rfl,rfl⟩,fun w=>Jv w⟩
  by_cases k17:op=17
  .subst k17;exact⟨_,_,_,_,_,⟨rfl,rfl,rfl,rfl⟩,fun w=>Jw w⟩
  by_cases k18:op=18
  .subst k18;exact⟨_,_,_,_,_,⟨rfl,rfl,rfl,rfl⟩,fun w=>Jx w⟩
  by_cases k19:op=19
  .subst k19;exact⟨_,_,_,_,_,⟨rfl,rfl,rfl,rfl⟩,fun w=>Jy w⟩
  by_cases k20:op=20
  .subst k20;exact⟨_,_,_,_,_,⟨rfl,rfl,rfl,rfl⟩,fun w=>Jz w⟩
  by_cases k21:op=21
  .subst k21;exact⟨_,_,_,_,_,⟨rfl,rfl,rfl,rfl⟩,fun w=>JA w⟩
  by_cases k22:op=22
  .subst k22;exact⟨_,_,_,_,_,⟨rfl,rfl,rfl,rfl⟩,fun w=>JB w⟩
  by_cases k23:op=23
  .subst k23;exact⟨_,_,_,_,_,⟨rfl,rfl,rfl,rfl⟩,fun w=>JC w⟩
  by_cases k24:op=24
  .subst k24;exact⟨_,_,_,_,_,⟨rfl,rfl,rfl,rfl⟩,fun w=>JD w⟩
  by_cases k25:op=25
  .subst k25;exact⟨_,_,_,_,_,⟨rfl,rfl,rfl,rfl⟩,fun w=>JE w⟩
  by_cases k26:op=26
  .subst k26;exact⟨_,_,_,_,_,⟨rfl,rfl,rfl,rfl⟩,fun w=>JF w⟩
  by_cases k27:op=27
  .subst k27;exact⟨_,_,_,_,_,⟨rfl,rfl,rfl,rfl⟩,fun w=>JG w⟩
  by_cases k28:op=28
  .subst k28;exact⟨_,_,_,_,_,⟨rfl,rfl,rfl,rfl⟩,fun w=>JH w⟩
  by_cases k29:op=29
  .subst k29;exact⟨_,_,_,_,_,⟨rfl,rfl,rfl,rfl⟩,fun w=>JI w⟩
  by_cases k30:op=30
  .subst k30;exact⟨_,_,_,_,_,⟨rfl,rfl,rfl,rfl⟩,fun w=>JJ w⟩
  by_cases k31:op=31
  .subst k31;exact⟨_,_,_,_,_,⟨rfl,rfl,rfl,rfl⟩,fun w=>JK w⟩
  by_cases k32:op=32
  .subst k32;exact⟨_,_,_,_,_,⟨rfl,rfl,rfl,rfl⟩,fun w=>JL w⟩
  by_cases k33:op=33
  .subst k33;exact⟨_,_,_,_,_,⟨rfl,rfl,rfl,rfl⟩,fun w=>JM w⟩
  by_cases k34:op=34
  .subst k34;exact⟨_,_,_,_,_,⟨rfl,rfl,rfl,rfl⟩,fun w=>JN w⟩
  by_cases k35:op=35
  .subst k35;exact⟨_,_,_,_,_,⟨rfl,rfl,rfl,rfl⟩,fun w=>JO w⟩
  by_cases k36:op=36
  .subst k36;exact⟨_,_,_,_,_,⟨rfl,rfl,rfl,rfl⟩,fun w=>JP w⟩
  by_cases k37:op=37
  .subst k37;exact⟨_,_,_,_,_,⟨rfl,rfl,rfl,rfl⟩,fun w=>JQ w⟩
  omega
def FR(op:Nat)(v:Int):List Nat:=if op=1 then B0 4 v.toNat else []
def DE(op:Nat):Pz Int:=if op=1 then Ac (C4 4) fun n=>Ax (n:Int)else Ax 0
theorem MY(op:Nat):Rt (FR op) (DE op) (fun v=>0<=v/\v<2^32/\(op≠1->v=0)):=by
 by_cases q:op=1
 .subst q;refine⟨fun v hv rest p=>?_,fun l p x l' p' hb hh=>?_⟩
  .show Ac (C4 4) (fun n=>Ax (n:Int)) (B0 4 v.toNat++rest) p=_;rw[(FI 4).go (x:=v.toNat) (by show v.toNat<256^4;have:=hv.2.1;omega)];show Except.ok ((v.toNat:Int),rest,_)=_;rw[Int.toNat_of_nonneg hv.1];rfl
  .obtain⟨n,m,k,e1,e2,e3,e4,e5⟩:=(FI 4).open hb hh;have e3':n<256^4:=e3;have e5':Except.ok ((n:Int),m,k)=Except.ok (x,l',p'):=e5;simp only[Except.ok.injEq,Prod.mk.injEq]at e5';obtain⟨rfl,rfl,rfl⟩:=e5';exact⟨by show l=B0 4 (n:Int).toNat++m;rw[Int.toNat_natCast];exact e1,by show k=p+(B0 4 (n:Int).toNat).length;rw[Int.toNat_natCast];exact e2,oM,oM,fun h=>absurd rfl h⟩
 .refine⟨fun v hv rest p=>?_,fun l p x l' p' hb hh=>?_⟩
  .have:=hv.2.2 q;subst this;unfold FR DE;rw[if_neg q,if_neg q];rfl
  .unfold DE at hh;rw[if_neg q]at hh;have e5':Except.ok ((0:Int),l,p)=Except.ok (x,l',p'):=hh;simp only[Except.ok.injEq,Prod.mk.injEq]at e5';obtain⟨rfl,rfl,rfl⟩:=e5';unfold FR;rw[if_neg q];exact⟨rfl,rfl,oM,oM,fun _=>rfl⟩
def Gg(op:Nat):Bool:=decide ((Ag (op:Int)).d≠0)
def FY(op:Nat):Bool:=decide ((Ag (op:Int)).a≠0)
def FQ(op:Nat):Bool:=decide ((Ag (op:Int)).b≠0)
def FZ(op:Nat):Bool:=decide ((Ag (op:Int)).c≠0)
def EB(op:Nat):Bool:=decide ((Ag (op:Int)).n≠0/\(Ag (op:Int)).n≠7)
def Ce(i:Ar):List Nat:=[i.op.toNat]++(CI (Gg i.op.toNat) i.d++(CI (FY i.op.toNat) i.a++(CI (FQ i.op.toNat) i.b++(CI (FZ i.op.toNat) i.c++(CI (EB i.op.toNat) i.n++FR i.op.toNat i.bits)))))
def Cw:Pz Ar:=Ac (AO 1 37) fun op=>Ac (BE (Gg op)) fun d=>Ac (BE (FY op)) fun a=>Ac (BE (FQ op)) fun b=>Ac (BE (FZ op)) fun c=>Ac (BE (EB op)) fun n=>Ac (DE op) fun z=>Ax (⟨(op:Int),d,a,b,c,n,z⟩:Ar)
def Q2(b:Bool)(v:Int):Prop:=0<=v/\v<2^63/\(b=false->v=0)
def DC(i:Ar):Prop:=1<=i.op/\i.op<=37/\Q2 (Gg i.op.toNat) i.d/\Q2 (FY i.op.toNat) i.a/\Q2 (FQ i.op.toNat) i.b/\Q2 (FZ i.op.toNat) i.c/\Q2 (EB i.op.toNat) i.n/\0<=i.bits/\i.bits<2^32/\(i.op.toNat≠1->i.bits=0)
theorem MZ:Rt Ce Cw DC:=by
 refine⟨fun s hs rest p=>?_,fun l p x l' p' hb hh=>?_⟩
 .obtain⟨op,d,a,b,c,n,z⟩:=s;obtain⟨h1,h2,h3,h4,h5,h6,h7,h8,h9,h10⟩:=hs;have b1:1<=op:=h1;have b2:op<=37:=h2;unfold Ce Cw;simp only[List.append_assoc];rw[(DR 1 37).go (x:=op.toNat) (by show 1<=op.toNat/\op.toNat<=37;omega),(Cj _).go h3,(Cj _).go h4,(Cj _).go h5,(Cj _).go h6,(Cj _).go h7,(MY _).go ⟨h8,h9,h10⟩];show Except.ok ((⟨(op.toNat:Int),d,a,b,c,n,z⟩:Ar),rest,_)=_;rw[Int.toNat_of_nonneg oM];simp only[List.length_append,Nat.add_assoc]
 .obtain⟨op,m1,j1,e1,e2,e3,e4,e5⟩:=(DR 1 37).open hb hh;obtain⟨d,m2,j2,f1,f2,f3,f4,f5⟩:=(Cj _).open e4 e5;obtain⟨a,m3,j3,g1,g2,g3,g4,g5⟩:=(Cj _).open f4 f5;obtain⟨b,m4,j4,h1,h2,h3,h4,h5⟩:=(Cj _).open g4 g5;obtain⟨c,m5,j5,i1,i2,i3,i4,i5⟩:=(Cj _).open h4 h5;obtain⟨n,m6,j6,k1,k2,k3,k4,k5⟩:=(Cj _).open i4 i5;obtain⟨z,m7,j7,n1,n2,n3,n4,n5⟩:=(MY _).open k4 k5;have n5':Except.ok ((⟨(op:Int),d,a,b,c,n,z⟩:Ar),m7,j7)=Except.ok (x,l',p'):=n5;simp only[Except.ok.injEq,Prod.mk.injEq]at n5';obtain⟨rfl,rfl,rfl⟩:=n5';refine⟨?_,?_,?_⟩
  .unfold Ce;simp only[Int.toNat_natCast,List.append_assoc];rw[e1,f1,g1,h1,i1,k1,n1]
  .unfold Ce;simp only[Int.toNat_natCast,List.length_append];rw[n2,k2,i2,h2,g2,f2,e2];omega
  .unfold DC;simp only[Int.toNat_natCast];exact⟨oM,oM,f3,g3,h3,i3,k3,n3.1,n3.2.1,n3.2.2⟩
def C1(c:Cd):List Nat:=B7 BL c.sign++(B7 Dw c.regs++(B7 Dr c.slots++B7 Ce c.list))
def Bp:Pz Cd:=Ac (Bq 64 CY) fun s=>Ac (Bq 16384 Eg) fun r=>Ac (Bq 4096 Ff) fun t=>Ac (Bq 32768 Cw) fun l=>Ax (⟨s,r,t,l⟩:Cd)
def C9(c:Cd):Prop:=(c.sign.length<=64/\∀x∈c.sign,El x)/\(c.regs.length<=16384/\∀x∈c.regs,G0 x)/\(c.slots.length<=4096/\∀x∈c.slots,Hl x)/\(c.list.length<=32768/\∀x∈c.list,DC x)
theorem Fg:Rt C1 Bp C9:=by
 refine⟨fun c hc rest p=>?_,fun l p x l' p' hb hh=>?_⟩
 .obtain⟨s,r,t,l⟩:=c;unfold C1 Bp;simp only[List.append_assoc];rw[(DG N5 dE).go (x:=s) hc.1,(DG JS dE).go (x:=r) hc.2.1,(DG OS dE).go (x:=t) hc.2.2.1,(DG MZ dE).go (x:=l) hc.2.2.2];show Except.ok ((⟨s,r,t,l⟩:Cd),rest,_)=_;simp only[List.length_append,Nat.add_assoc]
 .obtain⟨s,m1,j1,e1,e2,e3,e4,e5⟩:=(DG N5 dE).open hb hh;obtain⟨r,m2,j2,f1,f2,f3,f4,f5⟩:=(DG JS dE).open e4 e5;obtain⟨t,m3,j3,g1,g2,g3,g4,g5⟩:=(DG OS dE).open f4 f5;obtain⟨i,m4,j4,h1,h2,h3,h4,h5⟩:=(DG MZ dE).open g4 g5;have h5':Except.ok ((⟨s,r,t,i⟩:Cd),m4,j4)=Except.ok (x,l',p'):=h5;simp only[Except.ok.injEq,Prod.mk.injEq]at h5';obtain⟨rfl,rfl,rfl⟩:=h5';refine⟨?_,?_,e3,f3,g3,h3⟩
  .unfold C1;simp only[List.append_assoc];rw[e1,f1,g1,h1]
  .unfold C1;simp only[List.length_append];rw[h2,g2,f2,e2];omega
def GP:List Nat:=[108,116,104,49]
def B6(c:Cd):List Nat:=GP++C1 c
def BS(c:Cd):List Nat:=B6 c++B0 8 (EV (B6 c))
def C8(s:List Nat):Except (Int×Nat) Cd:=
 if s.take (min s.length 4)≠GP.take (min s.length 4)then .error (240,0)
 else if s.length<4 then .error (242,0)
 else match Bp (s.drop 4) 4 with
  | .error e=>.error e
  | .ok (c,l,p)=>
   if l.length<8 then .error (242,p)
   else if Bi (l.take 8)≠EV (s.take p)then .error (241,p)
   else if 8<l.length then .error (244,p+8)
   else if(AE c).1≠0 then .error ((AE c).1,0)
   else .ok c
theorem If{l:List Nat}(h:∀b∈l,b<256):EV l<256^8:=by
 have h1:I5 J2 l<2^64:=Ig l Rf h;unfold EV;exact Nat.lt_of_lt_of_eq (Nat.xor_lt_two_pow (n:=64) Rf h1) dE
theorem LD{c:Cd}(hc:C9 c)(hb:∀b∈B6 c,b<256)(rest:List Nat):C8 (BS c++rest)=if rest≠[] then .error (244,(BS c).length)else if(AE c).1≠0 then .error ((AE c).1,0)else .ok c:=by
 have hlen:(BS c++rest).length=4+(C1 c).length+8+rest.length:=by
  unfold BS B6;simp only[List.length_append,AZ];rfl
 have ht:(BS c++rest).take 4=GP:=by
  unfold BS B6;simp only[List.append_assoc];rw[List.take_append_of_le_length dE];rfl
 have hd:(BS c++rest).drop 4=C1 c++(B0 8 (EV (B6 c))++rest):=by
  unfold BS B6;simp only[List.append_assoc];rw[List.drop_append_of_le_length dE];rfl
 have hm:min (BS c++rest).length 4=4:=oM;unfold C8;rw[hm,ht,if_neg (by simp[GP]),if_neg oM,hd,Fg.fw c hc];simp only;have h8:(B0 8 (EV (B6 c))++rest).length=8+rest.length:=by rw[List.length_append,AZ]
 have hp:(BS c++rest).take (4+(C1 c).length)=B6 c:=by
  unfold BS;rw[List.append_assoc,List.take_append_of_le_length R2,List.take_of_length_le R2]
 have hl8:(B0 8 (EV (B6 c))++rest).take 8=B0 8 (EV (B6 c)):=by
  rw[List.take_append_of_le_length PZ,List.take_of_length_le PZ]
 rw[if_neg oM,hl8,EH 8 _ (If hb),hp,if_neg sM,h8];have he:(BS c).length=4+(C1 c).length+8:=by
  unfold BS B6;simp only[List.length_append,AZ];rfl
 cases rest with
 |nil=>rw[if_neg (show¬8<8+([]:List Nat).length by simp),if_neg (show¬ (([]:List Nat)≠[]) by simp)]
 |cons a r=>rw[if_pos sM,if_pos sM,he]
theorem Pa{s:List Nat}{c:Cd}(hb:∀b∈s,b<256)(h:C8 s=.ok c):s=BS c/\C9 c/\(AE c).1=0/\Bi (B0 8 (EV (B6 c)))=EV (B6 c):=by
 unfold C8 at h;split at h
 .cases h
 .rename_i h1;split at h
  .cases h
  .rename_i h2;split at h
   .cases h
   .rename_i d l p hp;obtain⟨e1,e2,e3⟩:=Fg.bw (s.drop 4) 4 d l p (fun b hx=>hb b (List.mem_of_mem_drop hx)) hp;split at h
    .cases h
    .rename_i h3;split at h
     .cases h
     .rename_i h4;split at h
      .cases h
      .rename_i h5;split at h
       .cases h
       .rename_i h6;simp only[Except.ok.injEq]at h;subst h;have hm:min s.length 4=4:=oM;rw[hm]at h1;have ht:s.take 4=GP:=by
         have h1':s.take 4=GP.take 4:=by simpa using h1
         rw[h1'];rfl
        have hl:l.length=8:=oM;have hs:s=B6 d++l:=by
         unfold B6;rw[<-ht,List.append_assoc,<-e1,List.take_append_drop]
        have hpp:s.take p=B6 d:=by
         rw[hs,e2,List.take_append_of_le_length R2,List.take_of_length_le R2]
        have h4':Bi l=EV (B6 d):=by
         have h9:Bi (l.take 8)=EV (s.take p):=by simpa using h4
         rw[List.take_of_length_le oM,hpp]at h9;exact h9
        have hlb:∀b∈l,b<256:=fun b hx=>hb b (by rw[hs];exact List.mem_append.2 (.inr hx));have e8:=EG l hlb;rw[hl,h4']at e8;refine⟨?_,e3,by simpa using h6,by rw[e8];exact h4'⟩;unfold BS;rw[e8];exact hs
theorem Px{p:Bd}(h:BC p=true):El p:=by
 unfold BC Ba at h;simp only[Bool.and_eq_true,Bool.or_eq_true,decide_eq_true_eq,beq_iff_eq]at h;obtain⟨⟨⟨⟨h1,h2⟩,h3⟩,h4⟩,h5,h6⟩:=h;exact⟨oM,oM,h2,oM,oM⟩
theorem OO{t:Ty}{n:Nat}(hn:n<=64)(h:AC t n=true):G0 t:=by
 unfold AC at h;split at h
 .rename_i q;have h':t.par=0:=by simpa using h
  exact⟨oM,oM,oM,oM,fun _=>h'⟩
 .split at h
  .rename_i q;unfold At at h;simp only[Bool.and_eq_true,decide_eq_true_eq]at h;exact⟨oM,oM,oM,oM,fun r=>absurd q r⟩
  .cases h
theorem Qv{s:Sl}{n:Nat}(hn:n<=64)(hb:0<=s.bits/\s.bits<4294967296)(h:B8 s n=true):Hl s:=by
 unfold B8 at h;simp only[Bool.and_eq_true]at h;have ht:=OO hn h.1;have hs:=h.2;unfold E0 at hs;split at hs
 .rename_i q;unfold Ca at hs;simp only[Bool.and_eq_true,decide_eq_true_eq,beq_iff_eq]at hs;exact⟨ht,oM,oM,oM,oM,fun _=>hs.1,fun r=>absurd q r⟩
 .rename_i q;simp only[Bool.and_eq_true,beq_iff_eq]at hs;exact⟨ht,oM,oM,oM,oM,fun r=>absurd r q,fun _=>hs.1⟩
theorem Gu{rs:List Ty}{l v:Int}{m:Ty}(hr:rs.length<=16384)(h:Ao rs l v m=true):Q2 (decide (l≠0)) v:=by
 unfold Ao at h;by_cases q:l=0
 .rw[if_pos q]at h;have h':v=0:=by simpa using h
  exact⟨oM,oM,fun _=>h'⟩
 .rw[if_neg q]at h;unfold At at h;simp only[Bool.and_eq_true,decide_eq_true_eq]at h;exact⟨oM,oM,fun r=>by simp[q]at r⟩
theorem L8:∀n:Nat,n<38->1<=n->((Ag (n:Int)).n=7↔n=1):=dE
theorem Pw{c:Cd}{i:Ar}(hr:c.regs.length<=16384)(hs:c.slots.length<=4096)(hg:c.sign.length<=64)(hb:0<=i.bits/\i.bits<4294967296)(hk:AB i.op=true)(hf:Be c i (Ag i.op)=true):DC i:=by
 unfold AB at hk;simp only[Bool.and_eq_true,decide_eq_true_eq]at hk;unfold Be at hf;simp only[Bool.and_eq_true]at hf;obtain⟨f1,f2,f3,f4,f5⟩:=hf;have e:((i.op.toNat:Nat):Int)=i.op:=Int.toNat_of_nonneg oM;have h7:=L8 i.op.toNat oM oM;rw[e]at h7;unfold DC Gg FY FQ FZ EB;rw[e];refine⟨hk.1,hk.2,Gu hr f1,Gu hr f2,Gu hr f3,Gu hr f4,?_,oM,oM,fun q=>?_⟩
 .unfold BM at f5;by_cases q:(Ag i.op).n=7
  .rw[if_pos q]at f5;simp only[Bool.and_eq_true,beq_iff_eq]at f5;exact⟨oM,oM,fun _=>f5.1⟩
  .rw[if_neg q]at f5;simp only[Bool.and_eq_true,beq_iff_eq]at f5;have g:=f5.2;unfold Ga at g;by_cases q8:(Ag i.op).n=8
   .rw[if_pos q8]at g;unfold Ca at g;simp only[Bool.and_eq_true,decide_eq_true_eq]at g;exact⟨oM,oM,fun r=>by simp[q8]at r⟩
   .rw[if_neg q8]at g;by_cases q9:(Ag i.op).n=9
    .rw[if_pos q9]at g;simp only[Bool.or_eq_true,Bool.and_eq_true,beq_iff_eq]at g;exact⟨oM,oM,fun r=>by simp[q9]at r⟩
    .rw[if_neg q9]at g;by_cases qa:(Ag i.op).n=10
     .rw[if_pos qa]at g;unfold At at g;simp only[Bool.and_eq_true,decide_eq_true_eq]at g;exact⟨oM,oM,fun r=>by simp[qa]at r⟩
     .rw[if_neg qa]at g;by_cases qb:(Ag i.op).n=11
      .rw[if_pos qb]at g;unfold At at g;simp only[Bool.and_eq_true,decide_eq_true_eq]at g;exact⟨oM,oM,fun r=>by simp[qb]at r⟩
      .rw[if_neg qb]at g;have g':i.n=0:=by simpa using g
       exact⟨oM,oM,fun _=>g'⟩
 .unfold BM at f5;rw[if_neg (fun r=>q (h7.1 r))]at f5;simp only[Bool.and_eq_true,beq_iff_eq]at f5;exact f5.1
theorem Db(b:Bool)(v:Int):∀x∈CI b v,x<256:=fun x hx=>by
 unfold CI at hx;split at hx
 .exact Fb _ x hx
 .cases hx
theorem F8{α:Type}{e:α->List Nat}{l:List α}(h:∀a∈l,∀x∈e a,x<256):∀x∈B7 e l,x<256:=fun x hx=>by
 unfold B7 at hx;rcases List.mem_append.1 hx with q|q
 .exact Fb _ x q
 .obtain⟨a,ha,hq⟩:=List.mem_flatMap.1 q;exact h a ha x hq
theorem NM{p:Bd}(h:El p):∀x∈BL p,x<256:=fun x hx=>by
 unfold BL Fl at hx;simp only[List.mem_append,List.mem_singleton]at hx;obtain⟨h1,h2,-⟩:=h;rcases hx with q|(q|q)|q
 .omega
 .exact Fb _ x q
 .exact BP _ x q
 .exact Db _ _ x q
theorem LF{t:Ty}(h:G0 t):∀x∈Dw t,x<256:=fun x hx=>by
 unfold Dw at hx;simp only[List.mem_append,List.mem_singleton]at hx;obtain⟨h1,h2,-⟩:=h;rcases hx with q|q
 .omega
 .exact Db _ _ x q
theorem Pc{s:Sl}(h:Hl s):∀x∈Dr s,x<256:=fun x hx=>by
 unfold Dr at hx;simp only[List.mem_append,List.mem_singleton]at hx;rcases hx with q|q|q
 .split at q<;>omega
 .exact LF h.1 x q
 .split at q
  .exact Fb _ x q
  .exact DL _ _ x q
theorem NL{i:Ar}(h:DC i):∀x∈Ce i,x<256:=fun x hx=>by
 unfold Ce at hx;simp only[List.mem_append,List.mem_singleton]at hx;obtain⟨h1,h2,-⟩:=h;rcases hx with q|q|q|q|q|q|q
 .omega
 .exact Db _ _ x q
 .exact Db _ _ x q
 .exact Db _ _ x q
 .exact Db _ _ x q
 .exact Db _ _ x q
 .unfold FR at q;split at q
  .exact DL _ _ x q
  .cases q
theorem Gp{c:Cd}(h:C9 c):∀x∈B6 c,x<256:=fun x hx=>by
 unfold B6 C1 at hx;simp only[List.mem_append]at hx;rcases hx with q|q|q|q|q
 .unfold GP at q;simp only[List.mem_cons,List.not_mem_nil,or_false]at q;omega
 .exact F8 (fun a ha=>NM (h.1.2 a ha)) x q
 .exact F8 (fun a ha=>LF (h.2.1.2 a ha)) x q
 .exact F8 (fun a ha=>Pc (h.2.2.1.2 a ha)) x q
 .exact F8 (fun a ha=>NL (h.2.2.2.2 a ha)) x q
theorem LG{c:Cd}(h:C9 c):∀x∈BS c,x<256:=fun x hx=>by
 unfold BS at hx;rcases List.mem_append.1 hx with q|q
 .exact Gp h x q
 .exact DL _ _ x q
theorem Pb{c:Cd}(h:C9 c)(hc:(AE c).1=0):C8 (BS c)=.ok c:=by
 have h9:=LD h (Gp h) [];rw[List.append_nil,if_neg sM,if_neg (by simpa using hc)]at h9;exact h9
theorem ER{c:Cd}:∀ (l:List Ar) (x:Wk),Eb c x l=true->∀i∈l,AB i.op=true/\Be c i (Ag i.op)=true
 |[],x,_,i,hi=>by cases hi
 |a::l,x,h,i,hi=>by
  have h':(Bj c x a&&Eb c (AG x a) l)=true:=h;simp only[Bool.and_eq_true]at h';rcases List.mem_cons.1 hi with e|e
  .subst e;obtain⟨k1,k2,-,-⟩:=Dl h'.1;exact⟨k1,k2⟩
  .exact ER l _ h'.2 i e
theorem Ic{c:Cd}(hsb:∀s∈c.slots,0<=s.bits/\s.bits<4294967296)(hib:∀i∈c.list,0<=i.bits/\i.bits<4294967296)(hc:(AE c).1=0):C9 c:=by
 obtain⟨h1,h2,-⟩:=Kc.1 hc;unfold C0 at h1;by_cases e1:AT c.sign=0
 .rw[if_neg (by simp[e1])]at h1;by_cases e2:16384<c.regs.length\/32768<c.list.length
  .rw[if_pos e2]at h1;cases h1
  .rw[if_neg e2]at h1;by_cases e3:4096<c.slots.length
   .rw[if_pos e3]at h1;cases h1
   .rw[if_neg e3]at h1;by_cases e4:(Av c&&Bu c)=true
    .simp only[Bool.and_eq_true]at e4;have hg:=Ke e1;have hty:∀t∈c.regs,AC t c.sign.length=true:=List.all_eq_true.1 e4.1;have hsl:∀s∈c.slots,B8 s c.sign.length=true:=List.all_eq_true.1 e4.2;exact⟨⟨hg,fun p hp=>Px (Kf e1 p hp)⟩,⟨oM,fun t ht=>OO hg (hty t ht)⟩,⟨oM,fun s hs=>Qv hg (hsb s hs) (hsl s hs)⟩,⟨oM,fun i hi=>Pw oM oM hg (hib i hi) (ER _ _ h2 i hi).1 (ER _ _ h2 i hi).2⟩⟩
    .rw[if_neg e4]at h1;cases h1
 .rw[if_pos e1]at h1;exact absurd h1 e1
theorem K6{x y:Nat}(hx:x<2^64)(hy:y<2^64):bits .xor .u64 (x:Int) (y:Int)=((x^^^y:Nat):Int):=by
 have h:(BitVec.ofInt 64 (x:Int)^^^BitVec.ofInt 64 (y:Int)).toNat=x^^^y:=by
  rw[BitVec.toNat_xor];simp only[BitVec.ofInt_natCast,BitVec.toNat_ofNat];rw[Nat.mod_eq_of_lt hx,Nat.mod_eq_of_lt hy]
 have h2:x^^^y<2^64:=Nat.xor_lt_two_pow hx hy;show IntKind.u64.wrap (((BitVec.ofInt 64 (x:Int)^^^BitVec.ofInt 64 (y:Int)).toNat:Nat):Int)=_;exact RK
theorem S0{x:Nat}(hx:x<2^64):bits .and .u64 (x:Int) 1=((x%2:Nat):Int):=by
 have h:(BitVec.ofInt 64 (x:Int)&&& BitVec.ofInt 64 1).toNat=x%2:=by
  rw[BitVec.toNat_and,show BitVec.ofInt 64 1=BitVec.ofNat 64 1 from rfl];simp only[BitVec.ofInt_natCast,BitVec.toNat_ofNat];rw[Nat.mod_eq_of_lt hx,show 1%2^64=1 by decide,Nat.and_one_is_mod]
 show IntKind.u64.wrap (((BitVec.ofInt 64 (x:Int)&&& BitVec.ofInt 64 1).toNat:Nat):Int)=_;exact RK
theorem PR{C:Nat}(hn:C<2^64):bits .xor .u64 ((C:Int)/2) (IntKind.u64.wrap (bits .and .u64 (C:Int) 1*14514072000185962306))=((J3 C:Nat):Int):=by
 rw[S0 hn,show((C:Int)/2)=((C/2:Nat):Int) by omega];unfold J3;rcases Nat.mod_two_eq_zero_or_one C with r|r
 .rw[r,if_neg dE,show IntKind.u64.wrap (((0:Nat):Int)*14514072000185962306)=((0:Nat):Int) by rfl];exact K6 oM dE
 .rw[r,if_pos rfl,show IntKind.u64.wrap (((1:Nat):Int)*14514072000185962306)=((Q1:Nat):Int) by rfl];exact K6 oM (by unfold Q1;decide)
theorem Oj{a b:Int}(h:a=b):Ending.returned (.int .u64 a)=.returned (.int .u64 b):=by rw[h]
theorem Qq{x:Nat}(hx:x<2^64):bits .xor .u64 IntKind.u64.max (x:Int)=((J2^^^x:Nat):Int):=by
 rw[show IntKind.u64.max=((J2:Nat):Int)from rfl];exact K6 Rf hx
theorem J1{s:ByteArray}{k:Nat}(h:k<s.size):(Ab s).take (k+1)=(Ab s).take k++[s[k].toNat]:=by
 have hl:k<(Ab s).length:=by rw[Ah];exact h
 rw[List.take_succ_eq_append_getElem hl];congr 2;show(s.data.toList.map UInt8.toNat)[k]'(by rw[List.length_map,Array.length_toList];exact h)=_;rw[List.getElem_map];rfl
theorem H5(c:Nat)(l:List Nat)(b:Nat):I5 c (l++[b])=Nq 8 (I5 c l^^^b):=by rw[NI];rfl
theorem Fk:∀ (n c:Nat),Nq (n+1) c=J3 (Nq n c)
 |0,c=>rfl
 |n+1,c=>Fk n (J3 c)
theorem JU(s:ByteArray)(k:Nat):I5 J2 ((Ab s).take k)<2^64:=Ig _ Rf (fun b hb=>BP s b (List.mem_of_mem_take hb))
theorem E2(s:ByteArray)(hs:s.size<=281474976710656)(w:World):
 Calls prog 19 #[.string s] w fun e w'=>e=.returned (.int .u64 ((EV (Ab s):Nat):Int))/\w'=w:=by
 obtain⟨N,hN⟩:=gA (s.size)
 go_enter func19,ntmps19;go_upto_block 0 with fail;go_wp2_with fail
 go_loopw [3,7] (fun cv iv wx=>wx=w/\∃k:Nat,k<=N/\iv=.int .i64 (k:Int)/\cv=.int .u64 ((I5 J2 ((Ab s).take k):Nat):Int)) (fun _ iv _=>N-(intOf iv).toNat)
 case atStart=>exact⟨rfl,0,gI _,rfl,rfl⟩
 case round=>
  obtain⟨rfl,k,hk,rfl,rfl⟩:=hrel;have hc:=JU s k;by_cases hlt:k<N
  .have hks:k<s.size:=oM;have hmo:=J1 hks;have hcm:=H5 J2 ((Ab s).take k) s[k].toNat;rw[<-hmo]at hcm;obtain⟨X,hX⟩:=gA (I5 J2 ((Ab s).take k))
   rw[hX]at hc hcm;obtain⟨B,hB⟩:=gA (s[k].toNat)
   have hb:B<256:=by rw[<-hB];exact s[k].toNat_lt
   rw[hB]at hcm;have i1:(0:Int)<=(k:Int):=oM;have i2:(k:Int)<(N:Int):=oM;have wi:IntKind.i64.wrap ((k:Int)+1)=((k+1:Nat):Int):=by rw[IntKind.wrap_i64];omega
   have hxb:=K6 hc (show B<2^64 by omega);have hY:X^^^B<2^64:=Nat.xor_lt_two_pow hc oM;obtain⟨Y,hYe⟩:=gA (X^^^B)
   rw[hYe]at hcm hxb hY;clear hmo hYe;go_upto_block 2 with fail;clear hX hB;go_wp2_with fail
   go_loopw [3,16] (fun cv iv wx=>wx=wr/\∃j:Nat,j<=8/\iv=.int .i64 (j:Int)/\cv=.int .u64 ((Nq j Y:Nat):Int)) (fun _ iv _=>8-(intOf iv).toNat)
   case atStart=>exact⟨rfl,0,oM,rfl,rfl⟩
   case round=>
    obtain⟨rfl,j,hj,rfl,rfl⟩:=hrel;have hn:=Gs j hY;have hm:=Fk j Y;have hst:=PR hn;by_cases hl:j<8
    .have q2:(j:Int)<8:=oM;have wj:IntKind.i64.wrap ((j:Int)+1)=((j+1:Nat):Int):=by rw[IntKind.wrap_i64];omega
     rw[<-hm]at hst;clear hm hn hcm;go_wp2;go_roundw
     case rel=>exact⟨by trivial,j+1,oM,gN,rfl⟩
     case measure=>simp[intOf];omega
    .have q2:¬ (j:Int)<8:=oM;obtain rfl:j=8:=oM;have HCM:Hid _:=hcm;clear hst hm hn hcm hl;go_wp2;go_roundw
     case rel=>exact⟨by trivial,k+1,oM,gN,by rw[HCM.out]⟩
     case measure=>simp[intOf];omega
  .exact Sz
theorem FG(s:ByteArray)(hs:s.size<=281474976710656)(w:World):
 Calls prog 24 #[.string s] w fun e w'=>e=.returned (.int .u64 ((EV (Ab s):Nat):Int))/\w'=w:=by
 obtain⟨N,hN⟩:=gA (s.size)
 go_enter func24,ntmps24;go_upto_block 0 with fail;go_wp2_with fail
 go_loopw [3,4] (fun cv iv wx=>wx=w/\∃k:Nat,k<=N/\iv=.int .i64 (k:Int)/\cv=.int .u64 ((I5 J2 ((Ab s).take k):Nat):Int)) (fun _ iv _=>N-(intOf iv).toNat)
 case atStart=>exact⟨rfl,0,gI _,rfl,rfl⟩
 case round=>
  obtain⟨rfl,k,hk,rfl,rfl⟩:=hrel;have hc:=JU s k;by_cases hlt:k<N
  .have hks:k<s.size:=oM;have hmo:=J1 hks;have hcm:=H5 J2 ((Ab s).take k) s[k].toNat;rw[<-hmo]at hcm;obtain⟨X,hX⟩:=gA (I5 J2 ((Ab s).take k))
   rw[hX]at hc hcm;obtain⟨B,hB⟩:=gA (s[k].toNat)
   have hb:B<256:=by rw[<-hB];exact s[k].toNat_lt
   rw[hB]at hcm;have i1:(0:Int)<=(k:Int):=oM;have i2:(k:Int)<(N:Int):=oM;have wi:IntKind.i64.wrap ((k:Int)+1)=((k+1:Nat):Int):=by rw[IntKind.wrap_i64];omega
   have hxb:=K6 hc (show B<2^64 by omega);have hY:X^^^B<2^64:=Nat.xor_lt_two_pow hc oM;obtain⟨Y,hYe⟩:=gA (X^^^B)
   rw[hYe]at hcm hxb hY;clear hmo hYe;go_upto_block 2 with fail;clear hX hB;go_wp2_with fail
   go_loopw [3,5] (fun cv iv wx=>wx=wr/\∃j:Nat,j<=8/\iv=.int .i64 (j:Int)/\cv=.int .u64 ((Nq j Y:Nat):Int)) (fun _ iv _=>8-(intOf iv).toNat)
   case atStart=>exact⟨rfl,0,oM,rfl,rfl⟩
   case round=>
    obtain⟨rfl,j,hj,rfl,rfl⟩:=hrel;have hn:=Gs j hY;have hm:=Fk j Y;by_cases hl:j<8
    .have q2:(j:Int)<8:=oM;have wj:IntKind.i64.wrap ((j:Int)+1)=((j+1:Nat):Int):=by rw[IntKind.wrap_i64];omega
     obtain⟨C,hC⟩:=gA (Nq j Y)
     rw[hC]at hn hm;have hx1:=K6 (show C/2<2^64 by omega) (show Q1<2^64 by unfold Q1;decide);have HM:=show Hid (Nq (j+1) Y=J3 C)from hm;clear hcm hm;rcases Nat.mod_two_eq_zero_or_one C with r|r
     .have r1:((C:Int)%2==1)=false:=by rw[show(C:Int)%2=0 by omega];rfl
      have HT:Hid (((C:Int)/2)=((J3 C:Nat):Int)):=by
       show((C:Int)/2)=((J3 C:Nat):Int);unfold J3;rw[if_neg oM,Nat.xor_zero];omega
      clear hn;exact SW
     .have r1:((C:Int)%2==1)=true:=by rw[show(C:Int)%2=1 by omega];rfl
      have HT:Hid (bits .xor .u64 ((C:Int)/2) 14514072000185962306=((J3 C:Nat):Int)):=by
       show bits .xor .u64 ((C:Int)/2) 14514072000185962306=((J3 C:Nat):Int);unfold J3;rw[if_pos r,show((C:Int)/2)=((C/2:Nat):Int) by omega];exact hx1
      clear hn hx1;exact SW
    .have q2:¬ (j:Int)<8:=oM;obtain rfl:j=8:=oM;have HCM:Hid _:=hcm;clear hm hn hcm hl;go_wp2;go_roundw
     case rel=>exact⟨by trivial,k+1,oM,gN,by rw[HCM.out]⟩
     case measure=>simp[intOf];omega
  .exact Sz
def F4(S:List Nat)(i:Ar):List Nat:=if(Ag i.op).d≠0/\i.d.toNat∉S then S++[i.d.toNat]else S
theorem Iw:∀ {r:List Bk} {n:Nat},Q3 n r->∀b∈r,b.ahead<=n
 |[],_,_,b,hb=>absurd hb sM
 |a::r,n,h,b,hb=>by
  rcases List.mem_cons.1 hb with rfl|hb
  .exact h.1
  .exact gH (Iw h.2 b hb) h.1
theorem G3{s:Wk}{i:Ar}(h:(Ag i.op).d=0):GR s i (Ag i.op)=s:=by unfold GR;rw[if_neg (fun e=>e.1 h)]
theorem Jg{S:List Nat}{i:Ar}{x:Nat}:x∈F4 S i↔x∈S\/((Ag i.op).d≠0/\x=i.d.toNat):=by
 unfold F4;by_cases h:(Ag i.op).d≠0/\i.d.toNat∉S
 .rw[if_pos h,List.mem_append];simp only[List.mem_singleton];exact⟨fun q=>q.imp id fun e=>⟨h.1,e⟩,fun q=>q.imp id fun e=>e.2⟩
 .rw[if_neg h];constructor
  .exact .inl
  .rintro(q|⟨q1,q2⟩)
   .exact q
   .rw[q2];exact Decidable.byContradiction fun e=>h ⟨q1,e⟩
end Go.Proofs.YtnlgkkbmbijndaaGreat
