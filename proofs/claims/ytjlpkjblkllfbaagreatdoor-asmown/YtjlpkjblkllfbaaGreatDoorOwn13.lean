import Derived.Test.YtjlpkjblkllfbaaGreatDoorOwn1
import Derived.Test.YtjlpkjblkllfbaaGreatDoorOwn10
import Derived.Test.YtjlpkjblkllfbaaGreatDoorOwn12
namespace Go.Proofs.YtjlpkjblkllfbaaGreatDoor
open Go.RowKit Go.Proofs.Tryz
set_option linter.all false
set_option maxRecDepth 100000
set_option maxHeartbeats 16000000
theorem R5{op:Int}(h:(A5 op).n=9):((op=29\/op=30)/\(A5 op).d=3)\/(op=31/\(A5 op).d=0/\(A5 op).a=3):=by
 have EW:∀k:Fin 38,(A5 (k.val:Int)).n=9->k.val=29\/k.val=30\/k.val=31:=by decide+kernel
 by_cases hk:AI op=true
 .have hh:1<=op/\op<=37:=by unfold AI at hk;simp at hk;exact hk
  have e:((⟨op.toNat,oM⟩:Fin 38).val:Int)=op:=by show((op.toNat:Nat):Int)=op;omega
  have:=EW ⟨op.toNat,oM⟩ (by rw[e];exact h);simp only at this;rcases this with h1|h1|h1
  .have:op=29:=oM;subst this;exact .inl ⟨.inl rfl,rfl⟩
  .have:op=30:=oM;subst this;exact .inl ⟨.inr rfl,rfl⟩
  .have:op=31:=oM;subst this;exact .inr ⟨rfl,rfl,rfl⟩
 .rw[Fr op (by simpa using hk)]at h;exact absurd h dE
theorem GZ{c:Cd}{n:Int}{m:Ty}(ht:Ap c=true)(h:Ae c.regs 3 n m=true):Am (Au c.regs n).par c.sign.length=true:=by
 unfold Ae at h;rw[if_neg dE]at h;simp only[Bool.and_eq_true]at h;obtain⟨h1,h2⟩:=h;obtain⟨k,hk,hl⟩:=CZ h1;rw[DF hk hl]at h2 |-;have hm:c.regs[k].kind=3:=by
  unfold Ed at h2;rw[if_neg dE,if_neg dE,if_pos rfl]at h2;simpa using h2
 have:=List.all_eq_true.1 ht c.regs[k] (gD hl);unfold AG at this;rw[if_neg oM,if_pos hm]at this;exact this
theorem Og{c:Cd}{i:Ax}(ht:Ap c=true)(hd:Ae c.regs (A5 i.op).d i.d (AF c.regs i (A5 i.op))=true)(ha:Ae c.regs (A5 i.op).a i.a (AF c.regs i (A5 i.op))=true)(h9:(A5 i.op).n=9):Am (AF c.regs i (A5 i.op)).par c.sign.length=true:=by
 rcases R5 h9 with⟨_,e⟩|⟨_,e,e2⟩
 .rw[e]at hd;have:=GZ ht hd;unfold AF JT;rw[e,if_neg dE];exact this
 .rw[e2]at ha;have:=GZ ht ha;unfold AF JT;rw[e,if_pos rfl];exact this
theorem Qu{c:Cd}{i:Ax}{r:Rw}(h:Bm c i r=true):∀x∈Ay i r,0<=x/\x<(c.regs.length:Int):=by
 intro x hx;unfold Ay at hx;rcases List.mem_append.1 hx with hx|hx
 .by_cases e:r.a=0
  .rw[if_pos e]at hx;cases hx
  .rw[if_neg e]at hx;simp at hx;subst hx;exact BB (Mq h) e
 rcases List.mem_append.1 hx with hx|hx
 .by_cases e:r.b=0
  .rw[if_pos e]at hx;cases hx
  .rw[if_neg e]at hx;simp at hx;subst hx;exact BB (Mr h) e
 .by_cases e:r.c=0
  .rw[if_pos e]at hx;cases hx
  .rw[if_neg e]at hx;simp at hx;subst hx;exact BB (Ms h) e
theorem Oy(i:Ax)(r:Rw):(Ay i r).length<=3:=by
 rw[Eg];simp only[List.length_append];have:=DE r.a i.a;have:=DE r.b i.b;have:=DE r.c i.c;omega
theorem Kr{c:Cd}{s:Wk}{i:Ax}{r:Rw}(h:AO c s i r=true)(e:i.op=35\/i.op=37):s.opens≠[]:=by
 unfold AO at h;rw[if_neg oM]at h;intro hO;rcases e with e|e
 .rw[if_pos e,hO]at h;simp at h
 .rw[if_neg oM,if_pos e]at h;unfold AP at h;rw[hO]at h;cases h
structure TK(w:World)(H G C:Nat)(L0 L1 L2 L3 L4:Int)(v:World):Prop where
 bel:Below w.heap.size w v
 r0:v.cell? ⟨H,0,none⟩=some (.int .i64 L0)
 r1:v.cell? ⟨H,1,none⟩=some (.int .i64 L1)
 r2:v.cell? ⟨H,2,none⟩=some (.int .i64 L2)
 r3:v.cell? ⟨H,3,none⟩=some (.int .i64 L3)
 r4:v.cell? ⟨H,4,none⟩=some (.int .i64 L4)
 g0:v.cell? ⟨G,0,none⟩=some (.pointer (some ⟨C,0,none⟩))
theorem TK.next{w:World}{H G C:Nat}{L0 L1 L2 L3 L4:Int}{v v':World}(h:TK w H G C L0 L1 L2 L3 L4 v)(k:Below v.heap.size v v'):TK w H G C L0 L1 L2 L3 L4 v':=
 ⟨Go.Proofs.YtjlpkjblkllfbaaGreatDoor.bel h.bel k,kc k h.r0,kc k h.r1,kc k h.r2,kc k h.r3,kc k h.r4,kc k h.g0⟩
theorem Kt(E G C n gi:Nat)(vs vo:Value)(s:Wk)(v0 v1 v2 v3:Value)(c:Cd)(hk:BE c)(b o:Nat)(i:Ax)(w:World)(h:WS E G C n gi vs vo w s)(hnn:c.regs.length=n)(ok:Df n s)(hn:n<=16384)(hc:BM w C v0 v1 v2 v3 c)(hi:Aq w b o (CJ i))(hbE:b<E)(htm:Ap c=true)(hb0:0<=i.bits)(hb1:i.bits<4294967296):
 Calls prog 30 #[.pointer (some ⟨G,0,none⟩),.pointer (some ⟨b,o,none⟩)] w fun e w'=>e=.returned (.bool (Bd c s i))/\Below E w w'/\(Bd c s i=true->∃vs' vo',WS E G C n gi vs' vo' w' (AM s i)):=by
 have K1:=FX i.op w;have K2:=fun v h1 h2=>Pv C v0 v1 v2 v3 c hk b o i (A5 i.op) v h1 h2 hb0 hb1 (Og htm);have K3:=fun v h1 h2 h3=>J2 E G C n gi vs vo s v0 v1 v2 v3 c hk b o i (A5 i.op) v h1 ok.nest h2 h3;have K4:=fun v h1=>F0 b o i (A5 i.op) v h1;have K5:=fun(hf:Bm c i (A5 i.op)=true) (hs:AO c s i (A5 i.op)=true) v h1 h2=>Qe E G C n gi vs vo s b o i (A5 i.op) v h1 ok hn h2 hbE (F4 hs) (Kr hs) (fun hd=>by have:=BB (IS hf) hd;rw[hnn]at this;exact this);have KL:Bm c i (A5 i.op)=true->∀x∈Ay i (A5 i.op),0<=x/\x<(n:Int):=fun hf=>by have:=Qu hf;rw[hnn]at this;exact this
 have KN:=Oy i (A5 i.op);have HC0:Hid (BM w C v0 v1 v2 v3 c):=hc;have HI0:Hid (Aq w b o (CJ i)):=hi;have HS0:Hid (WS E G C n gi vs vo w s):=h;have e0:=hi.at 0 rfl;rw[Nat.add_zero]at e0;have hE:=h.lt;have g0:=h.c0;unfold Bd AM;have hro:FU s i (A5 i.op)=(Ay i (A5 i.op)).all fun n=>decide (n.toNat∈s.set):=rfl;rw[hro];obtain⟨op,hop⟩:∃x,i.op=x:=⟨_,rfl⟩
 rw[hop]at K1 K2 K3 K4 K5 KL KN e0 |-;obtain⟨r,hr⟩:=gA (A5 op)
 simp only[hr]at K1 K2 K3 K4 K5 KL KN |-;obtain⟨X0,hX0⟩:∃X,AI op=X:=⟨_,rfl⟩
 obtain⟨X1,hX1⟩:∃X,Bm c i r=X:=⟨_,rfl⟩
 obtain⟨X2,hX2⟩:∃X,AO c s i r=X:=⟨_,rfl⟩
 obtain⟨RL,hRL⟩:∃X,Ay i r=X:=⟨_,rfl⟩
 obtain⟨Z,hZ⟩:=gA (GW s i r)
 obtain⟨AL,hAL⟩:∃X,((Ay i r).all fun n=>decide (n.toNat∈s.set))=X:=⟨_,rfl⟩
 rw[hAL];simp only[hX0]at K1 |-;simp only[hX1]at K2 K5 KL |-;simp only[hX2]at K3 K5 |-;simp only[hRL]at K4 KL KN;rw[hRL]at hAL;have HAL:Hid ((RL.all fun n=>decide (n.toNat∈s.set))=AL):=hAL;simp only[hZ]at K5 |-;obtain⟨L0,L1,L2,L3,L4⟩:=r;unfold CA at K1 K2 K3 K4 K5;simp only at K1 K2 K3 K4 K5;have HK1:Hid (Calls prog 56 #[.int .i64 op] w fun e w'=>e=.returned (.tuple #[.agg #[.int .i64 L0,.int .i64 L1,.int .i64 L2,.int .i64 L3,.int .i64 L4],.bool X0])/\Below w.heap.size w w'):=K1;have HK2:Hid (∀v,BM v C v0 v1 v2 v3 c->Aq v b o (CJ i)->Calls prog 57 #[.pointer (some ⟨C,0,none⟩),.pointer (some ⟨b,o,none⟩),.agg #[.int .i64 L0,.int .i64 L1,.int .i64 L2,.int .i64 L3,.int .i64 L4]] v fun e w'=>e=.returned (.bool X1)/\Below v.heap.size v w'):=K2;have HK3:Hid (∀v,WS E G C n gi vs vo v s->BM v C v0 v1 v2 v3 c->Aq v b o (CJ i)->Calls prog 58 #[.pointer (some ⟨G,0,none⟩),.pointer (some ⟨b,o,none⟩),.agg #[.int .i64 L0,.int .i64 L1,.int .i64 L2,.int .i64 L3,.int .i64 L4]] v fun e w'=>e=.returned (.bool X2)/\Below v.heap.size v w'):=K3;have HK4:Hid (∀v,Aq v b o (CJ i)->Calls prog 59 #[.agg #[.int .i64 L0,.int .i64 L1,.int .i64 L2,.int .i64 L3,.int .i64 L4],.pointer (some ⟨b,o,none⟩)] v fun e w'=>∃u,e=.returned u/\w'.ownsRow v.heap.size 3 1 u RL.length (Cf RL)/\Below v.heap.size v w'):=K4;have HK5:Hid (X1=true->X2=true->∀v,WS E G C n gi vs vo v s->Aq v b o (CJ i)->Calls prog 60 #[.pointer (some ⟨G,0,none⟩),.pointer (some ⟨b,o,none⟩),.agg #[.int .i64 L0,.int .i64 L1,.int .i64 L2,.int .i64 L3,.int .i64 L4]] v fun e w'=>e=.returned (.tuple #[])/\Below E v w'/\∃vs' vo',WS E G C n gi vs' vo' w' Z):=K5;have HKL:Hid (X1=true->∀x∈RL,0<=x/\x<(n:Int)):=KL;clear K1 K2 K3 K4 K5 KL h hc hi hk hro hop hr hX0 hX1 hX2 hRL hZ hAL hb0 hb1 htm ok hnn;cases X0
 .go_enter func30,ntmps30;go_wp2_with(go_at_call 56;refine HK1.mono ?_;rintro e w1 ⟨rfl,hw1⟩;have HT:Hid (TK w w1.heap.size G C L0 L1 L2 L3 L4 (w1.alloc (.cells #[.int .i64 L0,.int .i64 L1,.int .i64 L2,.int .i64 L3,.int .i64 L4] 109))):=Wi);have HCX:Hid (∀v,Below (w1.alloc (.cells #[.int .i64 L0,.int .i64 L1,.int .i64 L2,.int .i64 L3,.int .i64 L4] 109)).heap.size (w1.alloc (.cells #[.int .i64 L0,.int .i64 L1,.int .i64 L2,.int .i64 L3,.int .i64 L4] 109)) v->v.cell? ⟨G,0,none⟩=some (.pointer (some ⟨C,0,none⟩))/\v.cell? ⟨w1.heap.size,0,none⟩=some (.int .i64 L0)/\v.cell? ⟨w1.heap.size,1,none⟩=some (.int .i64 L1)/\v.cell? ⟨w1.heap.size,2,none⟩=some (.int .i64 L2)/\v.cell? ⟨w1.heap.size,3,none⟩=some (.int .i64 L3)/\v.cell? ⟨w1.heap.size,4,none⟩=some (.int .i64 L4)):=fun v hv=>⟨(HT.next hv).g0,(HT.next hv).r0,(HT.next hv).r1,(HT.next hv).r2,(HT.next hv).r3,(HT.next hv).r4⟩;obtain⟨t0,t1,t2,t3,t4,t5⟩:=HCX.out _ (BY _);refine rG (fun v=>v.cell? ⟨G,0,none⟩=some (.pointer (some ⟨C,0,none⟩))/\v.cell? ⟨w1.heap.size,0,none⟩=some (.int .i64 L0)/\v.cell? ⟨w1.heap.size,1,none⟩=some (.int .i64 L1)/\v.cell? ⟨w1.heap.size,2,none⟩=some (.int .i64 L2)/\v.cell? ⟨w1.heap.size,3,none⟩=some (.int .i64 L3)/\v.cell? ⟨w1.heap.size,4,none⟩=some (.int .i64 L4)) fun yH=>?_;refine Tc 0 1 2 ?_;refine Kd 3 4 5 6 ?_;refine Kd 7 8 9 10 ?_;refine Tb 11 12 ?_;refine Kd 13 14 15 16 ?_;refine Cu 17 ?_;refine Bn 18 ?_;refine wpAnyH_done kR ?_ _;go_wp2;go_ret;exact⟨rfl,(bel HT.bel (A4 _)).mono hE,fun e=>absurd e sM⟩
 cases X1
 .go_enter func30,ntmps30;go_wp2_with(go_at_call 56;refine HK1.mono ?_;rintro e w1 ⟨rfl,hw1⟩;have HT:Hid (TK w w1.heap.size G C L0 L1 L2 L3 L4 (w1.alloc (.cells #[.int .i64 L0,.int .i64 L1,.int .i64 L2,.int .i64 L3,.int .i64 L4] 109))):=Wi);have HCX:Hid (∀v,Below (w1.alloc (.cells #[.int .i64 L0,.int .i64 L1,.int .i64 L2,.int .i64 L3,.int .i64 L4] 109)).heap.size (w1.alloc (.cells #[.int .i64 L0,.int .i64 L1,.int .i64 L2,.int .i64 L3,.int .i64 L4] 109)) v->v.cell? ⟨G,0,none⟩=some (.pointer (some ⟨C,0,none⟩))/\v.cell? ⟨w1.heap.size,0,none⟩=some (.int .i64 L0)/\v.cell? ⟨w1.heap.size,1,none⟩=some (.int .i64 L1)/\v.cell? ⟨w1.heap.size,2,none⟩=some (.int .i64 L2)/\v.cell? ⟨w1.heap.size,3,none⟩=some (.int .i64 L3)/\v.cell? ⟨w1.heap.size,4,none⟩=some (.int .i64 L4)):=fun v hv=>⟨(HT.next hv).g0,(HT.next hv).r0,(HT.next hv).r1,(HT.next hv).r2,(HT.next hv).r3,(HT.next hv).r4⟩;obtain⟨t0,t1,t2,t3,t4,t5⟩:=HCX.out _ (BY _);refine rG (fun v=>v.cell? ⟨G,0,none⟩=some (.pointer (some ⟨C,0,none⟩))/\v.cell? ⟨w1.heap.size,0,none⟩=some (.int .i64 L0)/\v.cell? ⟨w1.heap.size,1,none⟩=some (.int .i64 L1)/\v.cell? ⟨w1.heap.size,2,none⟩=some (.int .i64 L2)/\v.cell? ⟨w1.heap.size,3,none⟩=some (.int .i64 L3)/\v.cell? ⟨w1.heap.size,4,none⟩=some (.int .i64 L4)) fun yH=>?_;refine Tf 0 1 2 3 4 5 ?_;refine Tc 6 7 8 ?_;clear yH;refine Aw 9 fun K hK=>?_;go_simp;(go_at_call 57;refine(HK2.out _ (HC0.below (bel HT.bel (A4 _))) (HI0.below (bel HT.bel (A4 _)))).mono ?_;rintro e w2 ⟨rfl,hw2⟩;have HB2:=bel (A4 _) hw2;obtain⟨y0,y1,y2,y3,y4,y5⟩:=HCX.out w2 HB2);try(go_wp2_with fail)
  refine AU hK fun yH=>?_;clear hK K;refine Tc 10 11 12 ?_;refine Kd 13 14 15 16 ?_;refine Cu 17 ?_;refine Bn 18 ?_;refine wpAnyH_done kR ?_ _;go_wp2;go_ret;exact⟨rfl,(bel HT.bel HB2).mono hE,fun e=>absurd e sM⟩
 cases X2
 .go_enter func30,ntmps30;go_wp2_with(go_at_call 56;refine HK1.mono ?_;rintro e w1 ⟨rfl,hw1⟩;have HT:Hid (TK w w1.heap.size G C L0 L1 L2 L3 L4 (w1.alloc (.cells #[.int .i64 L0,.int .i64 L1,.int .i64 L2,.int .i64 L3,.int .i64 L4] 109))):=Wi);have HCX:Hid (∀v,Below (w1.alloc (.cells #[.int .i64 L0,.int .i64 L1,.int .i64 L2,.int .i64 L3,.int .i64 L4] 109)).heap.size (w1.alloc (.cells #[.int .i64 L0,.int .i64 L1,.int .i64 L2,.int .i64 L3,.int .i64 L4] 109)) v->v.cell? ⟨G,0,none⟩=some (.pointer (some ⟨C,0,none⟩))/\v.cell? ⟨w1.heap.size,0,none⟩=some (.int .i64 L0)/\v.cell? ⟨w1.heap.size,1,none⟩=some (.int .i64 L1)/\v.cell? ⟨w1.heap.size,2,none⟩=some (.int .i64 L2)/\v.cell? ⟨w1.heap.size,3,none⟩=some (.int .i64 L3)/\v.cell? ⟨w1.heap.size,4,none⟩=some (.int .i64 L4)):=fun v hv=>⟨(HT.next hv).g0,(HT.next hv).r0,(HT.next hv).r1,(HT.next hv).r2,(HT.next hv).r3,(HT.next hv).r4⟩;obtain⟨t0,t1,t2,t3,t4,t5⟩:=HCX.out _ (BY _);refine rG (fun v=>v.cell? ⟨G,0,none⟩=some (.pointer (some ⟨C,0,none⟩))/\v.cell? ⟨w1.heap.size,0,none⟩=some (.int .i64 L0)/\v.cell? ⟨w1.heap.size,1,none⟩=some (.int .i64 L1)/\v.cell? ⟨w1.heap.size,2,none⟩=some (.int .i64 L2)/\v.cell? ⟨w1.heap.size,3,none⟩=some (.int .i64 L3)/\v.cell? ⟨w1.heap.size,4,none⟩=some (.int .i64 L4)) fun yH=>?_;refine Tf 0 1 2 3 4 5 ?_;refine Tc 6 7 8 ?_;clear yH;refine Aw 9 fun K hK=>?_;go_simp;(go_at_call 57;refine(HK2.out _ (HC0.below (bel HT.bel (A4 _))) (HI0.below (bel HT.bel (A4 _)))).mono ?_;rintro e w2 ⟨rfl,hw2⟩;have HB2:=bel (A4 _) hw2;obtain⟨y0,y1,y2,y3,y4,y5⟩:=HCX.out w2 HB2);try(go_wp2_with fail)
  refine AU hK fun yH=>?_;clear hK K;refine Tf 10 11 12 13 14 15 ?_;clear yH;refine Aw 16 fun K hK=>?_;go_simp;(go_at_call 58;refine(HK3.out _ (HS0.below (bel HT.bel HB2)) (HC0.below (bel HT.bel HB2)) (HI0.below (bel HT.bel HB2))).mono ?_;rintro e w3 ⟨rfl,hw3⟩;have HB3:=bel HB2 hw3;obtain⟨y0,y1,y2,y3,y4,y5⟩:=HCX.out w3 HB3);try(go_wp2_with fail)
  refine AU hK fun yH=>?_;clear hK K;refine Tb 17 18 ?_;refine wpAnyH_done kR ?_ _;go_wp2;go_ret;exact⟨rfl,(bel HT.bel HB3).mono hE,fun e=>absurd e sM⟩
 go_enter func30,ntmps30;go_wp2_with(go_at_call 56;refine HK1.mono ?_;rintro e w1 ⟨rfl,hw1⟩;have HT:Hid (TK w w1.heap.size G C L0 L1 L2 L3 L4 (w1.alloc (.cells #[.int .i64 L0,.int .i64 L1,.int .i64 L2,.int .i64 L3,.int .i64 L4] 109))):=Wi);have HCX:Hid (∀v,Below (w1.alloc (.cells #[.int .i64 L0,.int .i64 L1,.int .i64 L2,.int .i64 L3,.int .i64 L4] 109)).heap.size (w1.alloc (.cells #[.int .i64 L0,.int .i64 L1,.int .i64 L2,.int .i64 L3,.int .i64 L4] 109)) v->v.cell? ⟨G,0,none⟩=some (.pointer (some ⟨C,0,none⟩))/\v.cell? ⟨w1.heap.size,0,none⟩=some (.int .i64 L0)/\v.cell? ⟨w1.heap.size,1,none⟩=some (.int .i64 L1)/\v.cell? ⟨w1.heap.size,2,none⟩=some (.int .i64 L2)/\v.cell? ⟨w1.heap.size,3,none⟩=some (.int .i64 L3)/\v.cell? ⟨w1.heap.size,4,none⟩=some (.int .i64 L4)):=fun v hv=>⟨(HT.next hv).g0,(HT.next hv).r0,(HT.next hv).r1,(HT.next hv).r2,(HT.next hv).r3,(HT.next hv).r4⟩;obtain⟨t0,t1,t2,t3,t4,t5⟩:=HCX.out _ (BY _);refine rG (fun v=>v.cell? ⟨G,0,none⟩=some (.pointer (some ⟨C,0,none⟩))/\v.cell? ⟨w1.heap.size,0,none⟩=some (.int .i64 L0)/\v.cell? ⟨w1.heap.size,1,none⟩=some (.int .i64 L1)/\v.cell? ⟨w1.heap.size,2,none⟩=some (.int .i64 L2)/\v.cell? ⟨w1.heap.size,3,none⟩=some (.int .i64 L3)/\v.cell? ⟨w1.heap.size,4,none⟩=some (.int .i64 L4)) fun yH=>?_;refine Tf 0 1 2 3 4 5 ?_;refine Tc 6 7 8 ?_;clear yH;refine Aw 9 fun K hK=>?_;go_simp;(go_at_call 57;refine(HK2.out _ (HC0.below (bel HT.bel (A4 _))) (HI0.below (bel HT.bel (A4 _)))).mono ?_;rintro e w2 ⟨rfl,hw2⟩;have HB2:=bel (A4 _) hw2;obtain⟨y0,y1,y2,y3,y4,y5⟩:=HCX.out w2 HB2);try(go_wp2_with fail)
 refine AU hK fun yH=>?_;clear hK K;refine Tf 10 11 12 13 14 15 ?_;clear yH;refine Aw 16 fun K hK=>?_;go_simp;(go_at_call 58;refine(HK3.out _ (HS0.below (bel HT.bel HB2)) (HC0.below (bel HT.bel HB2)) (HI0.below (bel HT.bel HB2))).mono ?_;rintro e w3 ⟨rfl,hw3⟩;have HB3:=bel HB2 hw3;obtain⟨y0,y1,y2,y3,y4,y5⟩:=HCX.out w3 HB3);try(go_wp2_with fail)
 refine AU hK fun yH=>?_;clear hK K;refine Tb 17 18 ?_;refine wpAnyH_done kR ?_ _;have HT3:Hid (TK w w1.heap.size G C L0 L1 L2 L3 L4 w3):=HT.next HB3;clear HB2 HB3 hw2 hw3;go_wp2_with(go_at_call 59;refine(HK4.out _ (HI0.below HT3.bel)).mono ?_;rintro e w4 ⟨u,rfl,hu,hw4⟩;obtain⟨pu,cu,hue⟩:=Ac hu;subst hue;have HU:Hid (w4.ownsRow w3.heap.size 3 1 (.slice pu RL.length cu) RL.length (Cf RL)):=hu;have HT4:Hid (TK w w1.heap.size G C L0 L1 L2 L3 L4 w4):=HT3.next hw4;clear hu hw4);have HSW:Hid (WS E G C n gi vs vo w4 s):=HS0.below HT4.bel;have k0:=HT4.r0;have k1:=HT4.r1;have k2:=HT4.r2;have k3:=HT4.r3;have k4:=HT4.r4;have HFX:Hid (∀j (hj:j<RL.length),∃ (gu x:Nat),pu=some ⟨gu,0,none⟩/\w4.cell? ⟨gu,j,none⟩=some (.int .i64 (x:Int))/\x<n/\w4.cell? ⟨gi,x,none⟩=some (.bool (decide (x∈s.set)))/\decide (x∈s.set)=decide (RL[j].toNat∈s.set)):=fun j hj=>by
  obtain⟨gu,cap,hv,_,_,_,_,hcl⟩:=Ef HU.out oM;simp only[Value.slice.injEq]at hv;have hx:=HKL.out fT RL[j] (gD hj);refine⟨gu,RL[j].toNat,hv.1,?_,oM,HSW.i.cell oM,rfl⟩;rw[show((RL[j].toNat:Nat):Int)=RL[j] by omega];exact hcl j _ (by simp[Cf,gB hj])
 have d1:=HSW.c1;obtain⟨M,hM⟩:=gA (RL.length)
 have HM:Hid (RL.length=M):=hM;rw[hM]at KN |-;clear hM
 go_loopw [40] (fun iv wr=>wr=w4/\∃j:Nat,j<=M/\iv=.int .i64 j/\Hid (∀i (h:i<RL.length),i<j->decide (RL[i].toNat∈s.set)=true)) (fun iv _=>M-(intOf iv).toNat)
 case atStart=>exact⟨rfl,0,gJ _,rfl,fun i h hi=>absurd hi (Nat.not_lt_zero _)⟩
 case round=>
  clear HT HT3 HCX t0 t1 t2 t3 t4 t5 y0 y1 y2 y3 y4 y5;obtain⟨rfl,j,hj,rfl,hp⟩:=hrel;by_cases hlt:j<M
  .have hll:j<RL.length:=by rw[HM.out];exact hlt
   obtain⟨gu,x,rfl,a1,a2,a3,a4⟩:=HFX.out j hll;have NX:Hid (decide (RL[j].toNat∈s.set)=true->∀i (h:i<RL.length),i<j+1->decide (RL[i].toNat∈s.set)=true):=fun hq i h hi=>by
    exact U1
   have NB:Hid (decide (RL[j].toNat∈s.set)=false->(RL.all fun n=>decide (n.toNat∈s.set))=false):=fun h=>List.all_eq_false.2 ⟨RL[j],gD hll,by rw[h];decide⟩;rw[<-a4]at NX NB;have i1:(0:Int)<=(j:Int):=oM;have i2:(j:Int)<(M:Int):=oM;have i3:(0:Int)<=(x:Int):=oM;have i4:(x:Int)<(n:Int):=oM;obtain⟨Y,hY⟩:=gA (decide (x∈s.set))
   rw[hY]at NX NB a3;clear hp hY a4 HFX HU;cases Y
   .go_wp2;go_ret;have hF:AL=false:=by rw[<-HAL.out];exact NB.out fT
    exact⟨by rw[hF];rfl,HT4.bel.mono hE,fun e=>absurd e (by simp[hF])⟩
   .go_wp2;go_roundw
    case rel=>exact⟨fT,j+1,oM,gN,NX.out fT⟩
    case measure=>simp[intOf];omega
  .have:j=M:=oM;subst this;have HF:Hid ((RL.all fun n=>decide (n.toNat∈s.set))=true):=List.all_eq_true.2 fun t ht=>by
    obtain⟨i,hi,rfl⟩:=List.mem_iff_getElem.1 ht;exact hp.out i hi (by rw[<-HM.out];exact hi)
   clear hp;go_wp2_with(go_at_call 60;refine(HK5.out fT fT _ HSW.out (HI0.below HT4.bel)).mono ?_;rintro e w6 ⟨rfl,hb6,hws⟩;have HB6:Hid (Below E wr w6):=hb6;have HWS:Hid (∃vs' vo',WS E G C n gi vs' vo' w6 Z):=hws;clear hb6 hws);go_ret;exact⟨by rw[<-HAL.out,HF.out];rfl,(HT4.bel.mono hE).trans HB6.out,fun _=>HWS.out⟩
section
open Go.Lib (atoiAll itoa decDigits parseUint10 parseMag NumEnd)
theorem C0{n:Int}(h:0<=n):itoa n=Ao n:=by unfold itoa Ao;rw[if_neg oM]
theorem JU{s:Bs}{n:Int}(h:Af s=some n):atoiAll s=.ok n:=by
 obtain⟨⟨h0,h1⟩,rfl⟩:=CL h;obtain⟨d1,d2,_,d4⟩:=FF n.toNat;have hl:(Ao n).length<=10:=Bg h1;have hu:=VE (Ao n) 0 0 dE oM d2;have hv:Ba 0 (Ao n)=n:=by unfold Ao;rw[d4];omega
 cases hn:Ao n with
 |nil=>exact absurd hn d1
 |cons c r=>
  have hc:=d2 c (by show c∈Ao n;rw[hn];simp);unfold Gj at hc;rw[hn]at hu hv;unfold atoiAll;simp only;rw[if_neg oM,parseMag,if_neg sM,hu];simp only;have e:((Ba ((0:Nat):Int) (c::r)).toNat:Int)=n:=by
   have:Ba ((0:Nat):Int) (c::r)=Ba 0 (c::r):=rfl;omega
  rw[if_neg oM,if_neg oM,if_neg oM,e]
theorem Oj{s:Bs}{n:Int}(h:atoiAll s=.ok n):Af s=some n↔(0<=n/\n<=2147483647)/\itoa n=s:=by
 constructor
 .intro h1;obtain⟨h2,h3⟩:=CL h1;exact⟨h2,by rw[C0 h2.1,h3]⟩
 .rintro⟨h1,h2⟩;exact Cv.2 ⟨h1,by rw[<-h2,C0 h1.1]⟩
theorem Ip{s:Bs}{n m:Int}(h:atoiAll s=.ok n)(h1:Af s=some m):m=n:=by
 have:=JU h1;rw[h]at this;simpa using this.symm
theorem PY{s:Bs}(h:∀n,atoiAll s≠ .ok n):Af s=none:=Bf fun n hn=>h n (JU hn)
def Ab:List Bs->Bs×List Bs
 |[]=>([],[])
 |w::r=>(w,r)
theorem J4:Af []=none:=rfl
theorem MB:BI []=none:=rfl
theorem Qd{ws:List Bs}(h0:4<=ws.length)(ha:(Ab ws).1=AN)(m:Int)
 (n k l:Bs) (r:List Bs) (e1:n=(Ab (Ab ws).2).1) (e2:k=(Ab (Ab (Ab ws).2).2).1) (e3:l=(Ab (Ab (Ab (Ab ws).2).2).2).1) (e4:r=(Ab (Ab (Ab (Ab ws).2).2).2).2):
 (AV ws=some (B0 n k m)↔(k=Cb\/k=AE)/\Af l=some m/\AK (B0 n k m)=true/\r=[]):=by
 match ws,h0 with
 |a::b::c::d::q,_=>
  simp only[Ab]at ha e1 e2 e3 e4;subst ha e1 e2 e3 e4;cases r with
  |nil=>
   show((if AN=AN/\(k=Cb\/k=AE)then(Af l).bind fun m=>if AK (B0 n k m)=true then some (B0 n k m)else none else none)=_)↔_;constructor
   .intro h;by_cases hc:k=Cb\/k=AE
    .rw[if_pos ⟨rfl,hc⟩,Option.bind_eq_some_iff]at h;obtain⟨m',hm',h⟩:=h;by_cases hp:AK (B0 n k m')=true
     .rw[if_pos hp]at h;have h9:B0 n k m'=B0 n k m:=by simpa using h
      have h8:m'=m:=by have:=congrArg Bc.len h9;exact this
      subst h8;exact⟨hc,hm',hp,rfl⟩
     .rw[if_neg hp]at h;cases h
    .rw[if_neg (fun e=>hc e.2)]at h;cases h
   .rintro⟨hc,hm,hp,_⟩;rw[if_pos ⟨rfl,hc⟩,hm,Option.bind_some,if_pos hp]
  |cons x y=>
   constructor
   .intro h;exact absurd h (by simp[AV])
   .rintro⟨_,_,_,h⟩;cases h
theorem Qb{ws:List Bs}{p:Bc}(h:AV ws=some p):ws.length=4/\(Ab ws).1=AN:=by
 obtain⟨_,rfl⟩:=Fl h;exact⟨rfl,rfl⟩
theorem Dd:∀ (s cur:Bs),(Aj cur s).length=s.count 32+1
 |[],cur=>rfl
 |b::t,cur=>by
  unfold Aj;by_cases h:nb b=32
  .have hb:b=32:=UInt8.toNat_inj.1 (by unfold nb at h;show b.toNat=32;omega);rw[if_pos U7,List.length_cons,Dd t [],hb,List.count_cons_self]
  .have hb:b≠32:=fun e=>h (by rw[e];rfl);rw[if_neg U7,Dd t (cur++[b]),List.count_cons_of_ne hb]
def Az(ws:List Bs):Nat:=if(Ab ws).1=AN/\4<=ws.length then 0 else if(Ab ws).1=BU then 1 else if(Ab ws).1=B7 then 2 else 3
def Cl(c:Cd)(ws:List Bs):Option Cd:=
 if Az ws=0 then(AV ws).map fun p=>⟨c.sign++[p],c.regs,c.slots,c.list⟩
 else if Az ws=1 then(Bi (c.regs.length:Int) ws).map fun t=>⟨c.sign,c.regs++[t],c.slots,c.list⟩
 else if Az ws=2 then(AQ (c.slots.length:Int) ws).map fun l=>⟨c.sign,c.regs,c.slots++[l],c.list⟩
 else(B3 ws).map fun i=>⟨c.sign,c.regs,c.slots,c.list++[i]⟩
theorem OB{n:Int}{ws:List Bs}{t:Ty}(h:Bi n ws=some t):(Ab ws).1=BU:=by obtain⟨_,rfl⟩:=Jf h;rfl
theorem M8{n:Int}{ws:List Bs}{t:Sl}(h:AQ n ws=some t):(Ab ws).1=B7:=by obtain⟨_,rfl⟩:=Fu h;rfl
theorem O8{ws:List Bs}{i:Ax}(h:B3 ws=some i):(Ab ws).1≠BU/\(Ab ws).1≠B7/\((Ab ws).1=AN->ws.length=3):=by
 obtain⟨hi,rfl⟩:=ME h;obtain⟨⟨h1,h2⟩,_⟩:=hi;obtain⟨k,hk⟩:∃k:Nat,i.op=(k:Int)+1:=⟨(i.op-1).toNat,oM⟩
 have e:(Ab (AJ i)).1=DS i.op:=rfl;rw[e,hk];obtain⟨q1,q2,q3⟩:=J6 k oM;refine⟨q1,q2,fun q=>?_⟩;have hr:A5 i.op=⟨3,0,0,0,9⟩:=by rw[hk,q3 q];decide
 simp[AJ,hr,CU,DR]
theorem Dv{α:Type}{x:Option α}{P:Prop}(h:∀a,x=some a->P)(hn:¬P):x=none:=Bf fun a ha=>hn (h a ha)
theorem FZ(st:Nat)(c:Cd)(hs:st<=3)(ws:List Bs):AD (st,c) ws=if Az ws<st then none else(Cl c ws).map fun c'=>(Az ws,c'):=by
 have n0:Az ws≠0->AV ws=none:=fun h=>Dv (P:=Az ws=0) (fun p hp=>by
  obtain⟨h1,h2⟩:=Qb hp;unfold Az
  rw[if_pos ⟨h2,oM⟩]) h
 have n1:Az ws≠1->Bi (c.regs.length:Int) ws=none:=fun h=>Dv (P:=Az ws=1) (fun p hp=>by
  have h1:=OB hp;unfold Az
  rw[if_neg Xd,if_pos h1]) h
 have n2:Az ws≠2->AQ (c.slots.length:Int) ws=none:=fun h=>Dv (P:=Az ws=2) (fun p hp=>by
  have h1:=M8 hp;unfold Az
  rw[if_neg Xd,if_neg (by rw[h1];decide),if_pos h1]) h
 have n3:Az ws≠3->B3 ws=none:=fun h=>Dv (P:=Az ws=3) (fun p hp=>by
  obtain⟨h1,h2,h3⟩:=O8 hp;unfold Az
  rw[if_neg (fun e=>by have:=h3 e.1;omega),if_neg h1,if_neg h2]) h
 have hle:Az ws<=3:=by
  unfold Az;by_cases g1:(Ab ws).1=AN/\4<=ws.length
  .rw[if_pos g1];decide
  .rw[if_neg g1];by_cases g2:(Ab ws).1=BU
   .rw[if_pos g2];decide
   .rw[if_neg g2];by_cases g3:(Ab ws).1=B7
    .rw[if_pos g3];decide
    .rw[if_neg g3];decide
 unfold AD Cl;simp only;rcases(show Az ws=0\/Az ws=1\/Az ws=2\/Az ws=3 by omega)with q|q|q|q
 .rw[n1 oM,n2 oM,n3 oM,q];simp only[ite_self];rw[if_pos (show True from trivial)];by_cases h0:st=0
  .rw[if_pos h0,if_neg oM];cases AV ws<;>rfl
  .rw[if_neg h0,if_pos oM];rfl
 .rw[n0 oM,n2 oM,n3 oM,q];simp only[ite_self];rw[if_neg (show¬ (1:Nat)=0 by decide),if_pos (show True from trivial)];by_cases h0:st<=1
  .rw[if_pos h0,if_neg oM];cases Bi (c.regs.length:Int) ws<;>rfl
  .rw[if_neg h0,if_pos oM];rfl
 .rw[n0 oM,n1 oM,n3 oM,q];simp only[ite_self];rw[if_neg (show¬ (2:Nat)=0 by decide),if_neg (show¬ (2:Nat)=1 by decide),if_pos (show True from trivial)];by_cases h0:st<=2
  .rw[if_pos h0,if_neg oM];cases AQ (c.slots.length:Int) ws<;>rfl
  .rw[if_neg h0,if_pos oM];rfl
 .rw[n0 oM,n1 oM,n2 oM,q];simp only[ite_self];rw[if_neg (show¬ (3:Nat)=0 by decide),if_neg (show¬ (3:Nat)=1 by decide),if_neg (show¬ (3:Nat)=2 by decide),if_neg (show¬3<st by omega)];cases B3 ws<;>rfl
end
theorem Qv{ws:List Bs}{n:Int}(ha:(Ab ws).1=BU):Bi n ws=if Af (Ab (Ab ws).2).1=some n then(AY (Ab (Ab ws).2).2).bind E6 else none:=by
 match ws,ha with
 |[],ha=>exact absurd ha dE
 |[a],ha=>rfl
 |a::m::r,ha=>
  have ha:a=BU:=ha;subst ha;show(if BU=BU/\Af m=some n then(AY r).bind E6 else none)=if Af m=some n then(AY r).bind E6 else none;by_cases h:Af m=some n
  .rw[if_pos ⟨rfl,h⟩,if_pos h]
  .rw[if_neg (fun e=>h e.2),if_neg h]
theorem OQ{ws:List Bs}{n:Int}(ha:(Ab ws).1=B7):AQ n ws=if Af (Ab (Ab ws).2).1=some n/\((Ab (Ab (Ab ws).2).2).1=At\/(Ab (Ab (Ab ws).2).2).1=Av)then(AY (Ab (Ab (Ab ws).2).2).2).bind (EL (Ab (Ab (Ab ws).2).2).1)else none:=by
 match ws,ha with
 |[],ha=>exact absurd ha dE
 |[a],ha=>rfl
 |[a,m],ha=>
  rw[if_neg (fun e=>by rcases e.2 with q|q<;>exact absurd (show([]:Bs)=_ from q) dE)];rfl
 |a::m::k::r,ha=>
  have ha:a=B7:=ha;subst ha;show(if B7=B7/\Af m=some n/\(k=At\/k=Av)then(AY r).bind (EL k)else none)=if Af m=some n/\(k=At\/k=Av)then(AY r).bind (EL k)else none;by_cases h:Af m=some n/\(k=At\/k=Av)
  .rw[if_pos ⟨rfl,h⟩,if_pos h]
  .rw[if_neg (fun e=>h e.2),if_neg h]
theorem Rq(k:Bs)(t:Ty)(l:List Bs):EL k (t,l)=if(Ab l).2=[] then(if t.kind=2 then(Af (Ab l).1).bind fun i=>some ⟨t,decide (k=At),0,i⟩else(BI (Ab l).1).bind fun b=>some ⟨t,decide (k=At),b,0⟩)else none:=by
 match l with
 |[]=>
  rw[if_pos (show(Ab []).2=[] from rfl)];show none=if t.kind=2 then(Af []).bind _ else(BI []).bind _;rw[J4,MB];split<;>rfl
 |[x]=>rw[if_pos (show(Ab [x]).2=[] from rfl)];rfl
 |x::y::r=>rw[if_neg (by simp[Ab])];rfl
theorem Pd{α:Type}(t:α)(l:List Bs):E6 (t,l)=if l=[] then some t else none:=by
 cases l with
 |nil=>rfl
 |cons a r=>rfl
theorem Kv(ws:List Bs):AY ws=if(Ab ws).1=Bp then some (⟨1,0⟩,(Ab ws).2)else if(Ab ws).1=BV then some (⟨2,0⟩,(Ab ws).2)else if(Ab ws).1=AW then(Af (Ab (Ab ws).2).1).bind fun n=>some (⟨3,n⟩,(Ab (Ab ws).2).2)else none:=by
 match ws with
 |[]=>rw[if_neg dE,if_neg dE,if_neg dE];rfl
 |[a]=>
  show(if a=Bp then some ((⟨1,0⟩:Ty),[])else if a=BV then some (⟨2,0⟩,[])else if a=AW then none else none)=if a=Bp then some (⟨1,0⟩,[])else if a=BV then some (⟨2,0⟩,[])else if a=AW then(Af []).bind _ else none;rw[J4];rfl
 |a::m::r=>rfl
theorem Ea(l:Int)(ws:List Bs):Cn l ws=if l=0 then some (0,ws)else(FB (Ab ws).1).bind fun n=>some (n,(Ab ws).2):=by
 unfold Cn;cases ws with
 |nil=>rfl
 |cons a r=>rfl
theorem Pu(l:Int)(ws:List Bs):BZ l ws=if l=7 then(if(Ab ws).2=[] then(BI (Ab ws).1).bind fun b=>some (0,b)else none)else if l=0 then(if ws=[] then some (0,0)else none)else(if(Ab ws).2=[] then(Af (Ab ws).1).bind fun n=>some (n,0)else none):=by
 unfold BZ
 match ws with
 |[]=>
  show(if l=7 then none else if l=0 then some ((0:Int),(0:Int))else none)=if l=7 then(if([]:List Bs)=[] then(BI []).bind _ else none)else if l=0 then(if([]:List Bs)=[] then some (0,0)else none)else(if([]:List Bs)=[] then(Af []).bind _ else none);rw[J4,MB];simp
 |[x]=>
  show(if l=7 then(BI x).bind (fun b=>some ((0:Int),b))else if l=0 then none else(Af x).bind (fun n=>some (n,(0:Int))))=if l=7 then(if([]:List Bs)=[] then(BI x).bind _ else none)else if l=0 then(if [x]=[] then some (0,0)else none)else(if([]:List Bs)=[] then(Af x).bind _ else none);simp
 |x::y::r=>
  show(if l=7 then none else if l=0 then none else none)=if l=7 then(if y::r=[] then _ else none)else if l=0 then(if x::y::r=[] then some (0,0)else none)else(if y::r=[] then _ else none);simp
theorem PH(ws:List Bs):B3 ws=(KJ (Ab ws).1).bind fun k=>(Cn (A5 ((k:Int)+1)).d (Ab ws).2).bind fun d=>(Cn (A5 ((k:Int)+1)).a d.2).bind fun a=>(Cn (A5 ((k:Int)+1)).b a.2).bind fun b=>(Cn (A5 ((k:Int)+1)).c b.2).bind fun c=>(BZ (A5 ((k:Int)+1)).n c.2).bind fun e=>some ⟨(k:Int)+1,d.1,a.1,b.1,c.1,e.1,e.2⟩:=by
 cases ws with
 |nil=>
  have h:KJ (Ab []).1=none:=Bf fun k hk=>by
   obtain⟨h1,h2⟩:=FQ hk;have:∀k:Nat,k<37->DS ((k:Int)+1)≠[]:=by decide+kernel
   exact this k h1 h2.symm
  rw[h];rfl
 |cons a r=>rfl
end Go.Proofs.YtjlpkjblkllfbaaGreatDoor
