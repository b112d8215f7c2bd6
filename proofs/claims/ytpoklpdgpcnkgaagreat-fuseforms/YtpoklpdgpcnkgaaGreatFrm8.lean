import Derived.Test.YtpoklpdgpcnkgaaGreatFrm5
import Derived.Test.YtpoklpdgpcnkgaaGreatFrm7
import Derived.Test.YtpoklpdgpcnkgaaGreatFrm1
import Derived.Test.YtpoklpdgpcnkgaaGreatFrm2
import Derived.DeepKeys4
namespace Go.Proofs.YtpoklpdgpcnkgaaGreat
open Go.RowKit Go.Proofs.Tryz
set_option linter.all false
set_option maxRecDepth 100000
set_option maxHeartbeats 16000000
theorem QC(op:Int)(h:Ao op=false)(w:World):Calls prog 58 #[.int .i64 op] w fun e w'=>e=.returned (.tuple #[Ee ⟨0,0,0,0,0⟩,.bool false])/\Below w.heap.size w w':=by
 have hh:op<1\/37<op:=by unfold Ao at h;simp at h;omega
 have e1:(op==1)=false:=by have:op≠1:=oM;simpa using this
 have e2:(op==2)=false:=by have:op≠2:=oM;simpa using this
 have e3:(op==3)=false:=by have:op≠3:=oM;simpa using this
 have e4:(op==4)=false:=by have:op≠4:=oM;simpa using this
 have e5:(op==5)=false:=by have:op≠5:=oM;simpa using this
 have e6:(op==6)=false:=by have:op≠6:=oM;simpa using this
 have e7:(op==7)=false:=by have:op≠7:=oM;simpa using this
 have e8:(op==8)=false:=by have:op≠8:=oM;simpa using this
 have e9:(op==9)=false:=by have:op≠9:=oM;simpa using this
 have e10:(op==10)=false:=by have:op≠10:=oM;simpa using this
 have e11:(op==11)=false:=by have:op≠11:=oM;simpa using this
 have e12:(op==12)=false:=by have:op≠12:=oM;simpa using this
 have e13:(op==13)=false:=by have:op≠13:=oM;simpa using this
 have e14:(op==14)=false:=by have:op≠14:=oM;simpa using this
 have e15:(op==15)=false:=by have:op≠15:=oM;simpa using this
 have e16:(op==16)=false:=by have:op≠16:=oM;simpa using this
 have e17:(op==17)=false:=by have:op≠17:=oM;simpa using this
 have e18:(op==18)=false:=by have:op≠18:=oM;simpa using this
 have e19:(op==19)=false:=by have:op≠19:=oM;simpa using this
 have e20:(op==20)=false:=by have:op≠20:=oM;simpa using this
 have e21:(op==21)=false:=by have:op≠21:=oM;simpa using this
 have e22:(op==22)=false:=by have:op≠22:=oM;simpa using this
 have e23:(op==23)=false:=by have:op≠23:=oM;simpa using this
 have e24:(op==24)=false:=by have:op≠24:=oM;simpa using this
 have e25:(op==25)=false:=by have:op≠25:=oM;simpa using this
 have e26:(op==26)=false:=by have:op≠26:=oM;simpa using this
 have e27:(op==27)=false:=by have:op≠27:=oM;simpa using this
 have e28:(op==28)=false:=by have:op≠28:=oM;simpa using this
 have e29:(op==29)=false:=by have:op≠29:=oM;simpa using this
 have e30:(op==30)=false:=by have:op≠30:=oM;simpa using this
 have e31:(op==31)=false:=by have:op≠31:=oM;simpa using this
 have e32:(op==32)=false:=by have:op≠32:=oM;simpa using this
 have e33:(op==33)=false:=by have:op≠33:=oM;simpa using this
 have e34:(op==34)=false:=by have:op≠34:=oM;simpa using this
 have e35:(op==35)=false:=by have:op≠35:=oM;simpa using this
 have e36:(op==36)=false:=by have:op≠36:=oM;simpa using this
 have e37:(op==37)=false:=by have:op≠37:=oM;simpa using this
 clear hh h;exact G0
theorem Ic(op:Int)(h:Ao op=false):A3 op=⟨0,0,0,0,0⟩:=by
 have hh:op<1\/37<op:=by unfold Ao at h;simp at h;omega
 unfold A3
 repeat rw[if_neg oM]
theorem IK(op:Int)(w:World):Calls prog 58 #[.int .i64 op] w fun e w'=>e=.returned (.tuple #[Ee (A3 op),.bool (Ao op)])/\Below w.heap.size w w':=by
 by_cases h:Ao op=false
 .rw[h,Ic op h];exact QC op h w
 .have hh:1<=op/\op<=37:=by unfold Ao at h;simp at h;omega
  rw[show Ao op=true by simpa using h];clear h;by_cases k1:op=1
  .subst k1;exact ZK w
  by_cases k2:op=2
  .subst k2;exact ZL w
  by_cases k3:op=3
  .subst k3;exact ZM w
  by_cases k4:op=4
  .subst k4;exact ZN w
  by_cases k5:op=5
  .subst k5;exact ZO w
  by_cases k6:op=6
  .subst k6;exact ZP w
  by_cases k7:op=7
  .subst k7;exact ZQ w
  by_cases k8:op=8
  .subst k8;exact ZR w
  by_cases k9:op=9
  .subst k9;exact ZS w
  by_cases k10:op=10
  .subst k10;exact Wx w
  by_cases k11:op=11
  .subst k11;exact Wy w
  by_cases k12:op=12
  .subst k12;exact Wz w
  by_cases k13:op=13
  .subst k13;exact WA w
  by_cases k14:op=14
  .subst k14;exact WC w
  by_cases k15:op=15
  .subst k15;exact WD w
  by_cases k16:op=16
  .subst k16;exact WF w
  by_cases k17:op=17
  .subst k17;exact WG w
  by_cases k18:op=18
  .subst k18;exact WH w
  by_cases k19:op=19
  .subst k19;exact WI w
  by_cases k20:op=20
  .subst k20;exact WJ w
  by_cases k21:op=21
  .subst k21;exact WK w
  by_cases k22:op=22
  .subst k22;exact WL w
  by_cases k23:op=23
  .subst k23;exact WM w
  by_cases k24:op=24
  .subst k24;exact WN w
  by_cases k25:op=25
  .subst k25;exact WO w
  by_cases k26:op=26
  .subst k26;exact WP w
  by_cases k27:op=27
  .subst k27;exact WQ w
  by_cases k28:op=28
  .subst k28;exact WR w
  by_cases k29:op=29
  .subst k29;exact WT w
  by_cases k30:op=30
  .subst k30;exact WU w
  by_cases k31:op=31
  .subst k31;exact WV w
  by_cases k32:op=32
  .subst k32;exact WW w
  by_cases k33:op=33
  .subst k33;exact WY w
  by_cases k34:op=34
  .subst k34;exact WZ w
  by_cases k35:op=35
  .subst k35;exact X4 w
  by_cases k36:op=36
  .subst k36;exact X5 w
  by_cases k37:op=37
  .subst k37;exact X6 w
  omega
theorem X7{op:Int}(h:(A3 op).n=9):((op=29\/op=30)/\(A3 op).d=3)\/(op=31/\(A3 op).d=0/\(A3 op).a=3):=by
 have Bb:∀k:Fin 38,(A3 (k.val:Int)).n=9->k.val=29\/k.val=30\/k.val=31:=by decide+kernel
 by_cases hk:Ao op=true
 .have hh:1<=op/\op<=37:=by unfold Ao at hk;simp at hk;exact hk
  have e:((⟨op.toNat,oM⟩:Fin 38).val:Int)=op:=by show((op.toNat:Nat):Int)=op;omega
  have:=Bb ⟨op.toNat,oM⟩ (by rw[e];exact h);simp only at this;rcases this with h1|h1|h1
  .have:op=29:=oM;subst this;exact .inl ⟨.inl rfl,rfl⟩
  .have:op=30:=oM;subst this;exact .inl ⟨.inr rfl,rfl⟩
  .have:op=31:=oM;subst this;exact .inr ⟨rfl,rfl,rfl⟩
 .rw[Ic op (by simpa using hk)]at h;exact absurd h dE
theorem Kv{c:Cd}{n:Int}{m:Ty}(ht:Ak c=true)(h:Ah c.regs 3 n m=true):Ay (A5 c.regs n).par c.sign.length=true:=by
 unfold Ah at h;rw[if_neg dE]at h;simp only[Bool.and_eq_true]at h;obtain⟨h1,h2⟩:=h;obtain⟨k,hk,hl⟩:=DO h1;rw[FK hk hl]at h2 |-;have hm:c.regs[k].kind=3:=by
  unfold B5 at h2;rw[if_neg dE,if_neg dE,if_pos rfl]at h2;simpa using h2
 have:=List.all_eq_true.1 ht c.regs[k] (gD hl);unfold AC at this;rw[if_neg oM,if_pos hm]at this;exact this
theorem TA{c:Cd}{i:Ab}(ht:Ak c=true)(hd:Ah c.regs (A3 i.op).d i.d (Aj c.regs i (A3 i.op))=true)(ha:Ah c.regs (A3 i.op).a i.a (Aj c.regs i (A3 i.op))=true)(h9:(A3 i.op).n=9):Ay (Aj c.regs i (A3 i.op)).par c.sign.length=true:=by
 rcases X7 h9 with⟨_,e⟩|⟨_,e,e2⟩
 .rw[e]at hd;have:=Kv ht hd;unfold Aj Cx;rw[e,if_neg dE];exact this
 .rw[e2]at ha;have:=Kv ht ha;unfold Aj Cx;rw[e,if_pos rfl];exact this
theorem Kt{c:Cd}{i:Ab}{r:Rw}(h:AO c i r=true):∀x∈Ac i r,0<=x/\x<(c.regs.length:Int):=by
 intro x hx;unfold Ac at hx;rcases List.mem_append.1 hx with hx|hx
 .by_cases e:r.a=0
  .rw[if_pos e]at hx;cases hx
  .rw[if_neg e]at hx;simp at hx;subst hx;exact Af (BN h) e
 rcases List.mem_append.1 hx with hx|hx
 .by_cases e:r.b=0
  .rw[if_pos e]at hx;cases hx
  .rw[if_neg e]at hx;simp at hx;subst hx;exact Af (DT h) e
 .by_cases e:r.c=0
  .rw[if_pos e]at hx;cases hx
  .rw[if_neg e]at hx;simp at hx;subst hx;exact Af (DU h) e
theorem GL(i:Ab)(r:Rw):(Ac i r).length<=3:=by
 rw[I6];simp only[List.length_append];have:=IG r.a i.a;have:=IG r.b i.b;have:=IG r.c i.c;omega
theorem P4{c:Cd}{s:Wk}{i:Ab}{r:Rw}(h:Ai c s i r=true)(e:i.op=35\/i.op=37):s.opens≠[]:=by
 unfold Ai at h;rw[if_neg oM]at h;intro hO;rcases e with e|e
 .rw[if_pos e,hO]at h;simp at h
 .rw[if_neg oM,if_pos e]at h;unfold Am at h;rw[hO]at h;cases h
structure TK(w:World)(H G C:Nat)(L0 L1 L2 L3 L4:Int)(v:World):Prop where
 bel:Below w.heap.size w v
 r0:v.cell? ⟨H,0,none⟩=some (.int .i64 L0)
 r1:v.cell? ⟨H,1,none⟩=some (.int .i64 L1)
 r2:v.cell? ⟨H,2,none⟩=some (.int .i64 L2)
 r3:v.cell? ⟨H,3,none⟩=some (.int .i64 L3)
 r4:v.cell? ⟨H,4,none⟩=some (.int .i64 L4)
 g0:v.cell? ⟨G,0,none⟩=some (.pointer (some ⟨C,0,none⟩))
theorem TK.next{w:World}{H G C:Nat}{L0 L1 L2 L3 L4:Int}{v v':World}(h:TK w H G C L0 L1 L2 L3 L4 v)(k:Below v.heap.size v v'):TK w H G C L0 L1 L2 L3 L4 v':=
 ⟨Go.Proofs.YtpoklpdgpcnkgaaGreat.bel h.bel k,kc k h.r0,kc k h.r1,kc k h.r2,kc k h.r3,kc k h.r4,kc k h.g0⟩
theorem P9(E G C n gi:Nat)(vs vo:Value)(s:Wk)(v0 v1 v2 v3:Value)(c:Cd)(hk:AZ c)(b o:Nat)(i:Ab)(w:World)(h:WS E G C n gi vs vo w s)(hnn:c.regs.length=n)(ok:El n s)(hn:n<=16384)(hc:CI w C v0 v1 v2 v3 c)(hi:As w b o (Cv i))(hbE:b<E)(htm:Ak c=true)(hb0:0<=i.bits)(hb1:i.bits<4294967296):
 Calls prog 40 #[.pointer (some ⟨G,0,none⟩),.pointer (some ⟨b,o,none⟩)] w fun e w'=>e=.returned (.bool (Al c s i))/\Below E w w'/\(Al c s i=true->∃vs' vo',WS E G C n gi vs' vo' w' (Ad s i)):=by
 have K1:=IK i.op w;have K2:=fun v h1 h2=>Vv C v0 v1 v2 v3 c hk b o i (A3 i.op) v h1 h2 hb0 hb1 (TA htm);have K3:=fun v h1 h2 h3=>Nd E G C n gi vs vo s v0 v1 v2 v3 c hk b o i (A3 i.op) v h1 ok.nest h2 h3;have K4:=fun v h1=>Hf b o i (A3 i.op) v h1;have K5:=fun(hf:AO c i (A3 i.op)=true) (hs:Ai c s i (A3 i.op)=true) v h1 h2=>Wl E G C n gi vs vo s b o i (A3 i.op) v h1 ok hn h2 hbE (Hi hs) (P4 hs) (fun hd=>by have:=Af (D8 hf) hd;rw[hnn]at this;exact this);have KL:AO c i (A3 i.op)=true->∀x∈Ac i (A3 i.op),0<=x/\x<(n:Int):=fun hf=>by have:=Kt hf;rw[hnn]at this;exact this
 have KN:=GL i (A3 i.op);have HC0:Hid (CI w C v0 v1 v2 v3 c):=hc;have HI0:Hid (As w b o (Cv i)):=hi;have HS0:Hid (WS E G C n gi vs vo w s):=h;have e0:=hi.at 0 rfl;rw[Nat.add_zero]at e0;have hE:=h.lt;have g0:=h.c0;unfold Al Ad;have hro:D4 s i (A3 i.op)=(Ac i (A3 i.op)).all fun n=>decide (n.toNat∈s.set):=rfl;rw[hro];obtain⟨op,hop⟩:∃x,i.op=x:=⟨_,rfl⟩
 rw[hop]at K1 K2 K3 K4 K5 KL KN e0 |-;obtain⟨r,hr⟩:=gA (A3 op)
 simp only[hr]at K1 K2 K3 K4 K5 KL KN |-;obtain⟨X0,hX0⟩:∃X,Ao op=X:=⟨_,rfl⟩
 obtain⟨X1,hX1⟩:∃X,AO c i r=X:=⟨_,rfl⟩
 obtain⟨X2,hX2⟩:∃X,Ai c s i r=X:=⟨_,rfl⟩
 obtain⟨RL,hRL⟩:∃X,Ac i r=X:=⟨_,rfl⟩
 obtain⟨Z,hZ⟩:=gA (CN s i r)
 obtain⟨AL,hAL⟩:∃X,((Ac i r).all fun n=>decide (n.toNat∈s.set))=X:=⟨_,rfl⟩
 rw[hAL];simp only[hX0]at K1 |-;simp only[hX1]at K2 K5 KL |-;simp only[hX2]at K3 K5 |-;simp only[hRL]at K4 KL KN;rw[hRL]at hAL;have HAL:Hid ((RL.all fun n=>decide (n.toNat∈s.set))=AL):=hAL;simp only[hZ]at K5 |-;obtain⟨L0,L1,L2,L3,L4⟩:=r;unfold Ee at K1 K2 K3 K4 K5;simp only at K1 K2 K3 K4 K5;have HK1:Hid (Calls prog 58 #[.int .i64 op] w fun e w'=>e=.returned (.tuple #[.agg #[.int .i64 L0,.int .i64 L1,.int .i64 L2,.int .i64 L3,.int .i64 L4],.bool X0])/\Below w.heap.size w w'):=K1;have HK2:Hid (∀v,CI v C v0 v1 v2 v3 c->As v b o (Cv i)->Calls prog 59 #[.pointer (some ⟨C,0,none⟩),.pointer (some ⟨b,o,none⟩),.agg #[.int .i64 L0,.int .i64 L1,.int .i64 L2,.int .i64 L3,.int .i64 L4]] v fun e w'=>e=.returned (.bool X1)/\Below v.heap.size v w'):=K2;have HK3:Hid (∀v,WS E G C n gi vs vo v s->CI v C v0 v1 v2 v3 c->As v b o (Cv i)->Calls prog 60 #[.pointer (some ⟨G,0,none⟩),.pointer (some ⟨b,o,none⟩),.agg #[.int .i64 L0,.int .i64 L1,.int .i64 L2,.int .i64 L3,.int .i64 L4]] v fun e w'=>e=.returned (.bool X2)/\Below v.heap.size v w'):=K3;have HK4:Hid (∀v,As v b o (Cv i)->Calls prog 61 #[.agg #[.int .i64 L0,.int .i64 L1,.int .i64 L2,.int .i64 L3,.int .i64 L4],.pointer (some ⟨b,o,none⟩)] v fun e w'=>∃u,e=.returned u/\w'.ownsRow v.heap.size 3 1 u RL.length (BH RL)/\Below v.heap.size v w'):=K4;have HK5:Hid (X1=true->X2=true->∀v,WS E G C n gi vs vo v s->As v b o (Cv i)->Calls prog 62 #[.pointer (some ⟨G,0,none⟩),.pointer (some ⟨b,o,none⟩),.agg #[.int .i64 L0,.int .i64 L1,.int .i64 L2,.int .i64 L3,.int .i64 L4]] v fun e w'=>e=.returned (.tuple #[])/\Below E v w'/\∃vs' vo',WS E G C n gi vs' vo' w' Z):=K5;have HKL:Hid (X1=true->∀x∈RL,0<=x/\x<(n:Int)):=KL;clear K1 K2 K3 K4 K5 KL h hc hi hk hro hop hr hX0 hX1 hX2 hRL hZ hAL hb0 hb1 htm ok hnn;cases X0
 .go_enter func40,ntmps40;go_wp2_with(go_at_call 58;refine HK1.mono ?_;rintro e w1 ⟨rfl,hw1⟩;have HT:Hid (TK w w1.heap.size G C L0 L1 L2 L3 L4 (w1.alloc (.cells #[.int .i64 L0,.int .i64 L1,.int .i64 L2,.int .i64 L3,.int .i64 L4] 123))):=Zfx);have HCX:Hid (∀v,Below (w1.alloc (.cells #[.int .i64 L0,.int .i64 L1,.int .i64 L2,.int .i64 L3,.int .i64 L4] 123)).heap.size (w1.alloc (.cells #[.int .i64 L0,.int .i64 L1,.int .i64 L2,.int .i64 L3,.int .i64 L4] 123)) v->v.cell? ⟨G,0,none⟩=some (.pointer (some ⟨C,0,none⟩))/\v.cell? ⟨w1.heap.size,0,none⟩=some (.int .i64 L0)/\v.cell? ⟨w1.heap.size,1,none⟩=some (.int .i64 L1)/\v.cell? ⟨w1.heap.size,2,none⟩=some (.int .i64 L2)/\v.cell? ⟨w1.heap.size,3,none⟩=some (.int .i64 L3)/\v.cell? ⟨w1.heap.size,4,none⟩=some (.int .i64 L4)):=fun v hv=>⟨(HT.next hv).g0,(HT.next hv).r0,(HT.next hv).r1,(HT.next hv).r2,(HT.next hv).r3,(HT.next hv).r4⟩;obtain⟨t0,t1,t2,t3,t4,t5⟩:=HCX.out _ (BG _);refine rG (fun v=>v.cell? ⟨G,0,none⟩=some (.pointer (some ⟨C,0,none⟩))/\v.cell? ⟨w1.heap.size,0,none⟩=some (.int .i64 L0)/\v.cell? ⟨w1.heap.size,1,none⟩=some (.int .i64 L1)/\v.cell? ⟨w1.heap.size,2,none⟩=some (.int .i64 L2)/\v.cell? ⟨w1.heap.size,3,none⟩=some (.int .i64 L3)/\v.cell? ⟨w1.heap.size,4,none⟩=some (.int .i64 L4)) fun yH=>?_;refine Tc 0 1 2 ?_;refine Kd 3 4 5 6 ?_;refine Kd 7 8 9 10 ?_;refine Tb 11 12 ?_;refine Kd 13 14 15 16 ?_;refine EN 17 ?_;refine BB 18 ?_;refine wpAnyH_done kR ?_ _;go_wp2;go_ret;exact⟨rfl,(bel HT.bel (A7 _)).mono hE,fun e=>absurd e sM⟩
 cases X1
 .go_enter func40,ntmps40;go_wp2_with(go_at_call 58;refine HK1.mono ?_;rintro e w1 ⟨rfl,hw1⟩;have HT:Hid (TK w w1.heap.size G C L0 L1 L2 L3 L4 (w1.alloc (.cells #[.int .i64 L0,.int .i64 L1,.int .i64 L2,.int .i64 L3,.int .i64 L4] 123))):=Zfx);have HCX:Hid (∀v,Below (w1.alloc (.cells #[.int .i64 L0,.int .i64 L1,.int .i64 L2,.int .i64 L3,.int .i64 L4] 123)).heap.size (w1.alloc (.cells #[.int .i64 L0,.int .i64 L1,.int .i64 L2,.int .i64 L3,.int .i64 L4] 123)) v->v.cell? ⟨G,0,none⟩=some (.pointer (some ⟨C,0,none⟩))/\v.cell? ⟨w1.heap.size,0,none⟩=some (.int .i64 L0)/\v.cell? ⟨w1.heap.size,1,none⟩=some (.int .i64 L1)/\v.cell? ⟨w1.heap.size,2,none⟩=some (.int .i64 L2)/\v.cell? ⟨w1.heap.size,3,none⟩=some (.int .i64 L3)/\v.cell? ⟨w1.heap.size,4,none⟩=some (.int .i64 L4)):=fun v hv=>⟨(HT.next hv).g0,(HT.next hv).r0,(HT.next hv).r1,(HT.next hv).r2,(HT.next hv).r3,(HT.next hv).r4⟩;obtain⟨t0,t1,t2,t3,t4,t5⟩:=HCX.out _ (BG _);refine rG (fun v=>v.cell? ⟨G,0,none⟩=some (.pointer (some ⟨C,0,none⟩))/\v.cell? ⟨w1.heap.size,0,none⟩=some (.int .i64 L0)/\v.cell? ⟨w1.heap.size,1,none⟩=some (.int .i64 L1)/\v.cell? ⟨w1.heap.size,2,none⟩=some (.int .i64 L2)/\v.cell? ⟨w1.heap.size,3,none⟩=some (.int .i64 L3)/\v.cell? ⟨w1.heap.size,4,none⟩=some (.int .i64 L4)) fun yH=>?_;refine Tf 0 1 2 3 4 5 ?_;refine Tc 6 7 8 ?_;clear yH;refine AE 9 fun K hK=>?_;go_simp;(go_at_call 59;refine(HK2.out _ (HC0.below (bel HT.bel (A7 _))) (HI0.below (bel HT.bel (A7 _)))).mono ?_;rintro e w2 ⟨rfl,hw2⟩;have HB2:=bel (A7 _) hw2;obtain⟨y0,y1,y2,y3,y4,y5⟩:=HCX.out w2 HB2);try(go_wp2_with fail)
  refine AD hK fun yH=>?_;clear hK K;refine Tc 10 11 12 ?_;refine Kd 13 14 15 16 ?_;refine EN 17 ?_;refine BB 18 ?_;refine wpAnyH_done kR ?_ _;go_wp2;go_ret;exact⟨rfl,(bel HT.bel HB2).mono hE,fun e=>absurd e sM⟩
 cases X2
 .go_enter func40,ntmps40;go_wp2_with(go_at_call 58;refine HK1.mono ?_;rintro e w1 ⟨rfl,hw1⟩;have HT:Hid (TK w w1.heap.size G C L0 L1 L2 L3 L4 (w1.alloc (.cells #[.int .i64 L0,.int .i64 L1,.int .i64 L2,.int .i64 L3,.int .i64 L4] 123))):=Zfx);have HCX:Hid (∀v,Below (w1.alloc (.cells #[.int .i64 L0,.int .i64 L1,.int .i64 L2,.int .i64 L3,.int .i64 L4] 123)).heap.size (w1.alloc (.cells #[.int .i64 L0,.int .i64 L1,.int .i64 L2,.int .i64 L3,.int .i64 L4] 123)) v->v.cell? ⟨G,0,none⟩=some (.pointer (some ⟨C,0,none⟩))/\v.cell? ⟨w1.heap.size,0,none⟩=some (.int .i64 L0)/\v.cell? ⟨w1.heap.size,1,none⟩=some (.int .i64 L1)/\v.cell? ⟨w1.heap.size,2,none⟩=some (.int .i64 L2)/\v.cell? ⟨w1.heap.size,3,none⟩=some (.int .i64 L3)/\v.cell? ⟨w1.heap.size,4,none⟩=some (.int .i64 L4)):=fun v hv=>⟨(HT.next hv).g0,(HT.next hv).r0,(HT.next hv).r1,(HT.next hv).r2,(HT.next hv).r3,(HT.next hv).r4⟩;obtain⟨t0,t1,t2,t3,t4,t5⟩:=HCX.out _ (BG _);refine rG (fun v=>v.cell? ⟨G,0,none⟩=some (.pointer (some ⟨C,0,none⟩))/\v.cell? ⟨w1.heap.size,0,none⟩=some (.int .i64 L0)/\v.cell? ⟨w1.heap.size,1,none⟩=some (.int .i64 L1)/\v.cell? ⟨w1.heap.size,2,none⟩=some (.int .i64 L2)/\v.cell? ⟨w1.heap.size,3,none⟩=some (.int .i64 L3)/\v.cell? ⟨w1.heap.size,4,none⟩=some (.int .i64 L4)) fun yH=>?_;refine Tf 0 1 2 3 4 5 ?_;refine Tc 6 7 8 ?_;clear yH;refine AE 9 fun K hK=>?_;go_simp;(go_at_call 59;refine(HK2.out _ (HC0.below (bel HT.bel (A7 _))) (HI0.below (bel HT.bel (A7 _)))).mono ?_;rintro e w2 ⟨rfl,hw2⟩;have HB2:=bel (A7 _) hw2;obtain⟨y0,y1,y2,y3,y4,y5⟩:=HCX.out w2 HB2);try(go_wp2_with fail)
  refine AD hK fun yH=>?_;clear hK K;refine Tf 10 11 12 13 14 15 ?_;clear yH;refine AE 16 fun K hK=>?_;go_simp;(go_at_call 60;refine(HK3.out _ (HS0.below (bel HT.bel HB2)) (HC0.below (bel HT.bel HB2)) (HI0.below (bel HT.bel HB2))).mono ?_;rintro e w3 ⟨rfl,hw3⟩;have HB3:=bel HB2 hw3;obtain⟨y0,y1,y2,y3,y4,y5⟩:=HCX.out w3 HB3);try(go_wp2_with fail)
  refine AD hK fun yH=>?_;clear hK K;refine Tb 17 18 ?_;refine wpAnyH_done kR ?_ _;go_wp2;go_ret;exact⟨rfl,(bel HT.bel HB3).mono hE,fun e=>absurd e sM⟩
 go_enter func40,ntmps40;go_wp2_with(go_at_call 58;refine HK1.mono ?_;rintro e w1 ⟨rfl,hw1⟩;have HT:Hid (TK w w1.heap.size G C L0 L1 L2 L3 L4 (w1.alloc (.cells #[.int .i64 L0,.int .i64 L1,.int .i64 L2,.int .i64 L3,.int .i64 L4] 123))):=Zfx);have HCX:Hid (∀v,Below (w1.alloc (.cells #[.int .i64 L0,.int .i64 L1,.int .i64 L2,.int .i64 L3,.int .i64 L4] 123)).heap.size (w1.alloc (.cells #[.int .i64 L0,.int .i64 L1,.int .i64 L2,.int .i64 L3,.int .i64 L4] 123)) v->v.cell? ⟨G,0,none⟩=some (.pointer (some ⟨C,0,none⟩))/\v.cell? ⟨w1.heap.size,0,none⟩=some (.int .i64 L0)/\v.cell? ⟨w1.heap.size,1,none⟩=some (.int .i64 L1)/\v.cell? ⟨w1.heap.size,2,none⟩=some (.int .i64 L2)/\v.cell? ⟨w1.heap.size,3,none⟩=some (.int .i64 L3)/\v.cell? ⟨w1.heap.size,4,none⟩=some (.int .i64 L4)):=fun v hv=>⟨(HT.next hv).g0,(HT.next hv).r0,(HT.next hv).r1,(HT.next hv).r2,(HT.next hv).r3,(HT.next hv).r4⟩;obtain⟨t0,t1,t2,t3,t4,t5⟩:=HCX.out _ (BG _);refine rG (fun v=>v.cell? ⟨G,0,none⟩=some (.pointer (some ⟨C,0,none⟩))/\v.cell? ⟨w1.heap.size,0,none⟩=some (.int .i64 L0)/\v.cell? ⟨w1.heap.size,1,none⟩=some (.int .i64 L1)/\v.cell? ⟨w1.heap.size,2,none⟩=some (.int .i64 L2)/\v.cell? ⟨w1.heap.size,3,none⟩=some (.int .i64 L3)/\v.cell? ⟨w1.heap.size,4,none⟩=some (.int .i64 L4)) fun yH=>?_;refine Tf 0 1 2 3 4 5 ?_;refine Tc 6 7 8 ?_;clear yH;refine AE 9 fun K hK=>?_;go_simp;(go_at_call 59;refine(HK2.out _ (HC0.below (bel HT.bel (A7 _))) (HI0.below (bel HT.bel (A7 _)))).mono ?_;rintro e w2 ⟨rfl,hw2⟩;have HB2:=bel (A7 _) hw2;obtain⟨y0,y1,y2,y3,y4,y5⟩:=HCX.out w2 HB2);try(go_wp2_with fail)
 refine AD hK fun yH=>?_;clear hK K;refine Tf 10 11 12 13 14 15 ?_;clear yH;refine AE 16 fun K hK=>?_;go_simp;(go_at_call 60;refine(HK3.out _ (HS0.below (bel HT.bel HB2)) (HC0.below (bel HT.bel HB2)) (HI0.below (bel HT.bel HB2))).mono ?_;rintro e w3 ⟨rfl,hw3⟩;have HB3:=bel HB2 hw3;obtain⟨y0,y1,y2,y3,y4,y5⟩:=HCX.out w3 HB3);try(go_wp2_with fail)
 refine AD hK fun yH=>?_;clear hK K;refine Tb 17 18 ?_;refine wpAnyH_done kR ?_ _;have HT3:Hid (TK w w1.heap.size G C L0 L1 L2 L3 L4 w3):=HT.next HB3;clear HB2 HB3 hw2 hw3;go_wp2_with(go_at_call 61;refine(HK4.out _ (HI0.below HT3.bel)).mono ?_;rintro e w4 ⟨u,rfl,hu,hw4⟩;obtain⟨pu,cu,hue⟩:=AN hu;subst hue;have HU:Hid (w4.ownsRow w3.heap.size 3 1 (.slice pu RL.length cu) RL.length (BH RL)):=hu;have HT4:Hid (TK w w1.heap.size G C L0 L1 L2 L3 L4 w4):=HT3.next hw4;clear hu hw4);have HSW:Hid (WS E G C n gi vs vo w4 s):=HS0.below HT4.bel;have k0:=HT4.r0;have k1:=HT4.r1;have k2:=HT4.r2;have k3:=HT4.r3;have k4:=HT4.r4;have HFX:Hid (∀j (hj:j<RL.length),∃ (gu x:Nat),pu=some ⟨gu,0,none⟩/\w4.cell? ⟨gu,j,none⟩=some (.int .i64 (x:Int))/\x<n/\w4.cell? ⟨gi,x,none⟩=some (.bool (decide (x∈s.set)))/\decide (x∈s.set)=decide (RL[j].toNat∈s.set)):=fun j hj=>by
  obtain⟨gu,cap,hv,_,_,_,_,hcl⟩:=Ea HU.out oM;simp only[Value.slice.injEq]at hv;have hx:=HKL.out fT RL[j] (gD hj);refine⟨gu,RL[j].toNat,hv.1,?_,oM,HSW.i.cell oM,rfl⟩;rw[show((RL[j].toNat:Nat):Int)=RL[j] by omega];exact hcl j _ (by simp[BH,gB hj])
 have d1:=HSW.c1;obtain⟨M,hM⟩:=gA (RL.length)
 have HM:Hid (RL.length=M):=hM;rw[hM]at KN |-;clear hM
 go_loopw [40] (fun iv wr=>wr=w4/\∃j:Nat,j<=M/\iv=.int .i64 j/\Hid (∀i (h:i<RL.length),i<j->decide (RL[i].toNat∈s.set)=true)) (fun iv _=>M-(intOf iv).toNat)
 case atStart=>exact⟨rfl,0,gI _,rfl,fun i h hi=>absurd hi (Nat.not_lt_zero _)⟩
 case round=>
  clear HT HT3 HCX t0 t1 t2 t3 t4 t5 y0 y1 y2 y3 y4 y5;obtain⟨rfl,j,hj,rfl,hp⟩:=hrel;by_cases hlt:j<M
  .have hll:j<RL.length:=by rw[HM.out];exact hlt
   obtain⟨gu,x,rfl,a1,a2,a3,a4⟩:=HFX.out j hll;have NX:Hid (decide (RL[j].toNat∈s.set)=true->∀i (h:i<RL.length),i<j+1->decide (RL[i].toNat∈s.set)=true):=fun hq i h hi=>by
    exact Zcs
   have NB:Hid (decide (RL[j].toNat∈s.set)=false->(RL.all fun n=>decide (n.toNat∈s.set))=false):=fun h=>List.all_eq_false.2 ⟨RL[j],gD hll,by rw[h];decide⟩;rw[<-a4]at NX NB;have i1:(0:Int)<=(j:Int):=oM;have i2:(j:Int)<(M:Int):=oM;have i3:(0:Int)<=(x:Int):=oM;have i4:(x:Int)<(n:Int):=oM;obtain⟨Y,hY⟩:=gA (decide (x∈s.set))
   rw[hY]at NX NB a3;clear hp hY a4 HFX HU;cases Y
   .go_wp2;go_ret;have hF:AL=false:=by rw[<-HAL.out];exact NB.out fT
    exact⟨by rw[hF];rfl,HT4.bel.mono hE,fun e=>absurd e (by simp[hF])⟩
   .go_wp2;go_roundw
    case rel=>exact⟨fT,j+1,oM,gN,NX.out fT⟩
    case measure=>simp[intOf];omega
  .have:j=M:=oM;subst this;have HF:Hid ((RL.all fun n=>decide (n.toNat∈s.set))=true):=List.all_eq_true.2 fun t ht=>by
    obtain⟨i,hi,rfl⟩:=List.mem_iff_getElem.1 ht;exact hp.out i hi (by rw[<-HM.out];exact hi)
   clear hp;go_wp2_with(go_at_call 62;refine(HK5.out fT fT _ HSW.out (HI0.below HT4.bel)).mono ?_;rintro e w6 ⟨rfl,hb6,hws⟩;have HB6:Hid (Below E wr w6):=hb6;have HWS:Hid (∃vs' vo',WS E G C n gi vs' vo' w6 Z):=hws;clear hb6 hws);go_ret;exact⟨by rw[<-HAL.out,HF.out];rfl,(HT4.bel.mono hE).trans HB6.out,fun _=>HWS.out⟩
theorem Mo(op:Int)(h:Ao op=false)(w:World):Calls prog 53 #[.int .i64 op] w fun e w'=>e=.returned (.tuple #[.string ⟨#[]⟩,.bool false])/\w'=w:=by
 have hh:op<1\/37<op:=by unfold Ao at h;simp at h;omega
 have e1:(op==1)=false:=by have:op≠1:=oM;simpa using this
 have e2:(op==2)=false:=by have:op≠2:=oM;simpa using this
 have e3:(op==3)=false:=by have:op≠3:=oM;simpa using this
 have e4:(op==4)=false:=by have:op≠4:=oM;simpa using this
 have e5:(op==5)=false:=by have:op≠5:=oM;simpa using this
 have e6:(op==6)=false:=by have:op≠6:=oM;simpa using this
 have e7:(op==7)=false:=by have:op≠7:=oM;simpa using this
 have e8:(op==8)=false:=by have:op≠8:=oM;simpa using this
 have e9:(op==9)=false:=by have:op≠9:=oM;simpa using this
 have e10:(op==10)=false:=by have:op≠10:=oM;simpa using this
 have e11:(op==11)=false:=by have:op≠11:=oM;simpa using this
 have e12:(op==12)=false:=by have:op≠12:=oM;simpa using this
 have e13:(op==13)=false:=by have:op≠13:=oM;simpa using this
 have e14:(op==14)=false:=by have:op≠14:=oM;simpa using this
 have e15:(op==15)=false:=by have:op≠15:=oM;simpa using this
 have e16:(op==16)=false:=by have:op≠16:=oM;simpa using this
 have e17:(op==17)=false:=by have:op≠17:=oM;simpa using this
 have e18:(op==18)=false:=by have:op≠18:=oM;simpa using this
 have e19:(op==19)=false:=by have:op≠19:=oM;simpa using this
 have e20:(op==20)=false:=by have:op≠20:=oM;simpa using this
 have e21:(op==21)=false:=by have:op≠21:=oM;simpa using this
 have e22:(op==22)=false:=by have:op≠22:=oM;simpa using this
 have e23:(op==23)=false:=by have:op≠23:=oM;simpa using this
 have e24:(op==24)=false:=by have:op≠24:=oM;simpa using this
 have e25:(op==25)=false:=by have:op≠25:=oM;simpa using this
 have e26:(op==26)=false:=by have:op≠26:=oM;simpa using this
 have e27:(op==27)=false:=by have:op≠27:=oM;simpa using this
 have e28:(op==28)=false:=by have:op≠28:=oM;simpa using this
 have e29:(op==29)=false:=by have:op≠29:=oM;simpa using this
 have e30:(op==30)=false:=by have:op≠30:=oM;simpa using this
 have e31:(op==31)=false:=by have:op≠31:=oM;simpa using this
 have e32:(op==32)=false:=by have:op≠32:=oM;simpa using this
 have e33:(op==33)=false:=by have:op≠33:=oM;simpa using this
 have e34:(op==34)=false:=by have:op≠34:=oM;simpa using this
 have e35:(op==35)=false:=by have:op≠35:=oM;simpa using this
 have e36:(op==36)=false:=by have:op≠36:=oM;simpa using this
 have e37:(op==37)=false:=by have:op≠37:=oM;simpa using this
 clear hh h;exact G1
structure Yj(r:Rw)(a b c d e:UInt8):Prop where
 a:(a==45)=(r.d==0)
 b:(b==45)=(r.a==0)
 c:(c==45)=(r.b==0)
 d:(d==45)=(r.c==0)
theorem OO(op:Int)(w:World):(Ao op=false/\Calls prog 53 #[.int .i64 op] w fun e w'=>e=.returned (.tuple #[.string ⟨#[]⟩,.bool false])/\w'=w)\/(Ao op=true/\∃a b c d e:UInt8,Yj (A3 op) a b c d e/\∀w,Calls prog 53 #[.int .i64 op] w fun x w'=>x=.returned (.tuple #[.string ⟨#[a,b,c,d,e]⟩,.bool true])/\w'=w):=by
 by_cases h:Ao op=false
 .exact .inl ⟨h,Mo op h w⟩
 .have hh:1<=op/\op<=37:=by unfold Ao at h;simp at h;omega
  refine .inr ⟨by simpa using h,?_⟩;clear h;by_cases k1:op=1
  .subst k1;exact⟨_,_,_,_,_,⟨rfl,rfl,rfl,rfl⟩,fun w=>X9 w⟩
  by_cases k2:op=2
  .subst k2;exact⟨_,_,_,_,_,⟨rfl,rfl,rfl,rfl⟩,fun w=>Xa w⟩
  by_cases k3:op=3
  .subst k3;exact⟨_,_,_,_,_,⟨rfl,rfl,rfl,rfl⟩,fun w=>Xb w⟩
  by_cases k4:op=4
  .subst k4;exact⟨_,_,_,_,_,⟨rfl,rfl,rfl,rfl⟩,fun w=>Xc w⟩
  by_cases k5:op=5
  .subst k5;exact⟨_,_,_,_,_,⟨rfl,rfl,rfl,rfl⟩,fun w=>Xd w⟩
  by_cases k6:op=6
  .subst k6;exact⟨_,_,_,_,_,⟨rfl,rfl,rfl,rfl⟩,fun w=>Xe w⟩
  by_cases k7:op=7
  .subst k7;exact⟨_,_,_,_,_,⟨rfl,rfl,rfl,rfl⟩,fun w=>Xf w⟩
  by_cases k8:op=8
  .subst k8;exact⟨_,_,_,_,_,⟨rfl,rfl,rfl,rfl⟩,fun w=>Xg w⟩
  by_cases k9:op=9
  .subst k9;exact⟨_,_,_,_,_,⟨rfl,rfl,rfl,rfl⟩,fun w=>Xh w⟩
  by_cases k10:op=10
  .subst k10;exact⟨_,_,_,_,_,⟨rfl,rfl,rfl,rfl⟩,fun w=>RT w⟩
  by_cases k11:op=11
  .subst k11;exact⟨_,_,_,_,_,⟨rfl,rfl,rfl,rfl⟩,fun w=>RU w⟩
  by_cases k12:op=12
  .subst k12;exact⟨_,_,_,_,_,⟨rfl,rfl,rfl,rfl⟩,fun w=>RV w⟩
  by_cases k13:op=13
  .subst k13;exact⟨_,_,_,_,_,⟨rfl,rfl,rfl,rfl⟩,fun w=>RX w⟩
  by_cases k14:op=14
  .subst k14;exact⟨_,_,_,_,_,⟨rfl,rfl,rfl,rfl⟩,fun w=>RY w⟩
  by_cases k15:op=15
  .subst k15;exact⟨_,_,_,_,_,⟨rfl,rfl,rfl,rfl⟩,fun w=>RZ w⟩
  by_cases k16:op=16
  .subst k16;exact⟨_,_,_,_,_,⟨rfl,rfl,rfl,rfl⟩,fun w=>S4 w⟩
  by_cases k17:op=17
  .subst k17;exact⟨_,_,_,_,_,⟨rfl,rfl,rfl,rfl⟩,fun w=>S6 w⟩
  by_cases k18:op=18
  .subst k18;exact⟨_,_,_,_,_,⟨rfl,rfl,rfl,rfl⟩,fun w=>S7 w⟩
  by_cases k19:op=19
  .subst k19;exact⟨_,_,_,_,_,⟨rfl,rfl,rfl,rfl⟩,fun w=>S8 w⟩
  by_cases k20:op=20
  .subst k20;exact⟨_,_,_,_,_,⟨rfl,rfl,rfl,rfl⟩,fun w=>S9 w⟩
  by_cases k21:op=21
  .subst k21;exact⟨_,_,_,_,_,⟨rfl,rfl,rfl,rfl⟩,fun w=>Sa w⟩
  by_cases k22:op=22
  .subst k22;exact⟨_,_,_,_,_,⟨rfl,rfl,rfl,rfl⟩,fun w=>Sb w⟩
  by_cases k23:op=23
  .subst k23;exact⟨_,_,_,_,_,⟨rfl,rfl,rfl,rfl⟩,fun w=>Sc w⟩
  by_cases k24:op=24
  .subst k24;exact⟨_,_,_,_,_,⟨rfl,rfl,rfl,rfl⟩,fun w=>Sd w⟩
  by_cases k25:op=25
  .subst k25;exact⟨_,_,_,_,_,⟨rfl,rfl,rfl,rfl⟩,fun w=>Se w⟩
  by_cases k26:op=26
  .subst k26;exact⟨_,_,_,_,_,⟨rfl,rfl,rfl,rfl⟩,fun w=>Sf w⟩
  by_cases k27:op=27
  .subst k27;exact⟨_,_,_,_,_,⟨rfl,rfl,rfl,rfl⟩,fun w=>Sg w⟩
  by_cases k28:op=28
  .subst k28;exact⟨_,_,_,_,_,⟨rfl,rfl,rfl,rfl⟩,fun w=>Sh w⟩
  by_cases k29:op=29
  .subst k29;exact⟨_,_,_,_,_,⟨rfl,rfl,rfl,rfl⟩,fun w=>Si w⟩
  by_cases k30:op=30
  .subst k30;exact⟨_,_,_,_,_,⟨rfl,rfl,rfl,rfl⟩,fun w=>Sj w⟩
  by_cases k31:op=31
  .subst k31;exact⟨_,_,_,_,_,⟨rfl,rfl,rfl,rfl⟩,fun w=>Sk w⟩
  by_cases k32:op=32
  .subst k32;exact⟨_,_,_,_,_,⟨rfl,rfl,rfl,rfl⟩,fun w=>Sm w⟩
  by_cases k33:op=33
  .subst k33;exact⟨_,_,_,_,_,⟨rfl,rfl,rfl,rfl⟩,fun w=>Sn w⟩
  by_cases k34:op=34
  .subst k34;exact⟨_,_,_,_,_,⟨rfl,rfl,rfl,rfl⟩,fun w=>So w⟩
  by_cases k35:op=35
  .subst k35;exact⟨_,_,_,_,_,⟨rfl,rfl,rfl,rfl⟩,fun w=>Sp w⟩
  by_cases k36:op=36
  .subst k36;exact⟨_,_,_,_,_,⟨rfl,rfl,rfl,rfl⟩,fun w=>Sq w⟩
  by_cases k37:op=37
  .subst k37;exact⟨_,_,_,_,_,⟨rfl,rfl,rfl,rfl⟩,fun w=>Sr w⟩
  omega
theorem Nh(a:Int)(h0:0<=a)(h1:a<4294967296):Bc a=ng a.toNat:=by
 unfold Bc ng;by_cases c:2147483648<=a
 .have e1:a/2147483648=1:=oM;have e2:a.toNat/2147483648%2=1:=oM;rw[e1,e2];rfl
 .have e1:a/2147483648=0:=oM;have e2:a.toNat/2147483648%2=0:=oM;rw[e1,e2];rfl
theorem Cy(a:Int)(h0:0<=a)(h1:a<4294967296):C5 a=nan a:=by
 unfold C5 nan;by_cases c:a/8388608%256=255
 .rw[if_pos c];by_cases d:a%8388608=0
  .have:¬ (2139095040<a%2147483648):=oM;simp[d,this]
  .have:2139095040<a%2147483648:=oM;simp[d,this]
 .rw[if_neg c];have:¬ (2139095040<a%2147483648):=oM;simp[this]
theorem FJ(a:Int)(h0:0<=a)(h1:a<4294967296)(h:C5 a=true):∃s t,Ieee.single.read a.toNat=.nan s t:=by
 rw[Cy a h0 h1,Kf a h0]at h;exact⟨_,_,EJ _ Y9⟩
theorem DX(a:Int)(h0:0<=a)(h1:a<4294967296)(h:E9 a=true):Ieee.single.read a.toNat=.infinity (Bc a)/\C5 a=false/\nM a=0:=by
 have c:a/8388608%256=255/\a%8388608=0:=by
  unfold E9 at h;split at h
  .rename_i c;exact⟨c,by simpa using h⟩
  .cases h
 refine⟨?_,?_,?_⟩
 .rw[Nh a h0 h1];exact EI _ (by have:=CP a h0;omega)
 .unfold C5;simp[c]
 .unfold nM;rw[if_pos c.1]
theorem C7(a:Int)(h0:0<=a)(h1:a<4294967296)(hi:E9 a=false)(hn:C5 a=false):
 Ieee.single.read a.toNat=.number (Bc a) (nM a).toNat (nE a)/\0<=nM a/\nM a<16777216/\-149<=nE a/\nE a<=104/\(nE a= -149\/8388608<=nM a):=by
 have c:¬ (a/8388608%256=255):=by
  intro c;unfold E9 at hi;unfold C5 at hn;rw[if_pos c]at hi hn;simp at hi hn;exact hi hn
 have hf:rg a.toNat<2139095040:=by have:=CP a h0;omega
 have hr:=CP a h0;rw[CO _ hf,Nh a h0 h1];unfold nM nE mg te;rw[if_neg c,if_neg c];by_cases d:a/8388608%256=0
 .rw[if_pos d,if_pos d,if_pos oM,show rg a.toNat/8388608-1=0 by omega,show(a%8388608).toNat=rg a.toNat by omega];exact⟨rfl,oM,oM,oM,oM,oM⟩
 .rw[if_neg d,if_neg d,if_neg oM,show(8388608+a%8388608).toNat=8388608+rg a.toNat%8388608 by omega,show -149+((rg a.toNat/8388608-1:Nat):Int)=a/8388608%256-150 by omega];exact⟨rfl,oM,oM,oM,oM,oM⟩
theorem Ed(s1:Bool)(m1 e1:Int)(i1 n1 s2:Bool)(m2 e2:Int)(i2 n2:Bool)(w:World):
 Calls prog 129 #[.agg #[.bool s1,.int .u64 m1,.int .i64 e1,.bool i1,.bool n1],.agg #[.bool s2,.int .u64 m2,.int .i64 e2,.bool i2,.bool n2]] w fun e w'=>e=.returned (.bool (n1||n2))/\∃o p,w'=(w.alloc o).alloc p:=by
 cases n1<;>cases n2
 all_goals(
  go_enter func129,ntmps129;go_wp2;go_ret
  exact⟨rfl,_,_,rfl⟩)
theorem CD(s:Bool):((Ieee.single.write (.infinity s):Nat):Int)=Ig s+2139095040:=by cases s<;>decide
theorem EU(a b:Int){d e:Ieee.Datum}(h:Ieee.single.read a.toNat=d)(k:Ieee.single.read b.toNat=e):Fc a b=RP ((d.product e).map Ieee.single.write):=by
 unfold Fc Ieee.Format.mul;rw[h,k]
theorem Es(s t:Bool):(s^^t)=(s != t):=by cases s<;>cases t<;>rfl
theorem Og(a b:Int)(h0:0<=a)(h1:a<4294967296)(g0:0<=b)(g1:b<4294967296)(h:C5 a=true\/C5 b=true):Fc a b=2143289344:=by
 rcases h with h|h
 .obtain⟨s,t,e⟩:=FJ a h0 h1 h;rw[EU a b e rfl];cases Ieee.single.read b.toNat<;>rfl
 .obtain⟨s,t,e⟩:=FJ b g0 g1 h;rw[EU a b rfl e];cases Ieee.single.read a.toNat<;>rfl
theorem Kx(a:Int)(h0:0<=a)(h1:a<4294967296)(b:Int)(g0:0<=b)(g1:b<4294967296)(w:World):
 Calls prog 121 #[.int .i64 a,.int .i64 b] w fun e w'=>e=.returned (.int .i64 (Fc a b))/\Below w.heap.size w w':=by
 cases hna:C5 a
 .cases hnb:C5 b
  .cases hia:E9 a
   .obtain⟨ra,a1,a2,a3,a4,-⟩:=C7 a h0 h1 hia hna;cases hib:E9 b
    .obtain⟨rb,b1,b2,b3,b4,-⟩:=C7 b g0 g1 hib hnb;have hv:Fc a b=(Ieee.single.nearest (Bc a != Bc b) (nM a*nM b).toNat (nE a+nE b):Nat):=by
      rw[EU a b ra rb,show(nM a*nM b).toNat=(nM a).toNat*(nM b).toNat from Int.toNat_mul a1 b1,<-Es];rfl
     have hm:0<=nM a*nM b/\nM a*nM b<281474976710656:=by
      refine⟨Int.mul_nonneg a1 b1,?_⟩;have h1:nM a*nM b<=16777215*16777215:=Int.mul_le_mul oM oM b1 oM;omega
     have hw:IntKind.u64.wrap (nM a*nM b)=nM a*nM b:=by rw[IntKind.wrap_u64];omega
     rw[hv];clear hv ra rb;exact Zal
    .obtain⟨rb,-,b1⟩:=DX b g0 g1 hib;by_cases hz:nM a=0
     .have hv:Fc a b=2143289344:=by rw[EU a b ra rb,hz];rfl
      rw[hv];clear hv ra rb;exact Zal
     .have hv:Fc a b=Ig (Bc a != Bc b)+2139095040:=by
       rw[EU a b ra rb,<-CD,<-Es,Bool.xor_comm];have:(nM a).toNat≠0:=oM;simp only[Ieee.Datum.product,if_neg this];rfl
      rw[hv];clear hv ra rb;exact Zal
   .obtain⟨ra,-,a1⟩:=DX a h0 h1 hia;cases hib:E9 b
    .obtain⟨rb,b1,b2,b3,b4,-⟩:=C7 b g0 g1 hib hnb;by_cases hz:nM b=0
     .have hv:Fc a b=2143289344:=by rw[EU a b ra rb,hz];rfl
      rw[hv];clear hv ra rb;exact Zal
     .have hv:Fc a b=Ig (Bc a != Bc b)+2139095040:=by
       rw[EU a b ra rb,<-CD,<-Es];have:(nM b).toNat≠0:=oM;simp only[Ieee.Datum.product,if_neg this];rfl
      rw[hv];clear hv ra rb;exact Zal
    .obtain⟨rb,-,b1⟩:=DX b g0 g1 hib;have hv:Fc a b=Ig (Bc a != Bc b)+2139095040:=by
      rw[EU a b ra rb,<-CD,<-Es];rfl
     rw[hv];clear hv ra rb;exact Zal
  .have hv:=Og a b h0 h1 g0 g1 (Or.inr hnb);rw[hv];clear hv;exact Zal
 .have hv:=Og a b h0 h1 g0 g1 (Or.inl hna);rw[hv];clear hv;exact Zal
theorem TZ(n:Int)(h0: -9223372036854775808<=n)(h1:n<=9223372036854775807)(w:World):
 Calls prog 100 #[.int .i64 n] w fun e w'=>e=.returned (.int .i64 (DF n))/\w'=w:=by
 unfold DF;by_cases c:n<0
 .rw[decide_eq_true c,show n.natAbs=(-(n+1)+1).toNat by omega];exact Zej
 .rw[decide_eq_false c,show n.natAbs=n.toNat by omega];exact Zej
theorem GC(w:World)(v0 v1 v2 v3 v4:Value):(Instr.field 179 (.agg #[v0,v1,v2,v3,v4]) 4).run prog w=.ok v4 w:=by
 simp[Instr.field,run_underlying underlying179,asAgg,part,go_sem]
theorem Oq(a b:Nat)(ha:a<9223372036854775808)(hb:b<9223372036854775808):bits .xor .i64 (a:Int) (b:Int)=((a^^^b:Nat):Int):=by
 have hx:a^^^b<2^63:=Nat.xor_lt_two_pow oM oM;show IntKind.i64.wrap ((BitVec.ofInt 64 (a:Int)^^^BitVec.ofInt 64 (b:Int)).toNat:Int)=_;rw[BitVec.toNat_xor,ofInt_u64 a oM,ofInt_u64 b oM,IntKind.wrap_i64];omega
theorem JZ(a b:Nat)(ha:a<9223372036854775808)(hb:b<9223372036854775808):bits .andNot .i64 (a:Int) (b:Int)=((a&&& (18446744073709551615-b):Nat):Int):=by
 have hx:a&&& (18446744073709551615-b)<=a:=Nat.and_le_left;show IntKind.i64.wrap ((BitVec.ofInt 64 (a:Int)&&& ~~~BitVec.ofInt 64 (b:Int)).toNat:Int)=_;rw[BitVec.toNat_and,BitVec.toNat_not,ofInt_u64 a oM,ofInt_u64 b oM,IntKind.wrap_i64];have e:2^64-1-b=18446744073709551615-b:=oM;rw[e];omega
theorem QY(a:Int)(h0:0<=a)(h1:a<4294967296):bits .xor .i64 a 2147483648=if 2147483648<=a then a-2147483648 else a+2147483648:=by
 rw[<-Y3 a h0 h1,u32_xor a _ h0 h1 dE dE];obtain⟨A,rfl⟩:=Int.eq_ofNat_of_zero_le h0;exact Oq A 2147483648 oM dE
theorem F3(a:Int)(h0:0<=a)(h1:a<4294967296):bits .andNot .i64 a 2147483648=a%2147483648:=by
 rw[<-Tx a h0 h1,u32_andNot a _ h0 h1 dE dE];obtain⟨A,rfl⟩:=Int.eq_ofNat_of_zero_le h0;rw[show(2147483648:Int)=((2147483648:Nat):Int)from rfl,JZ A 2147483648 oM dE,Int.toNat_natCast,Int.toNat_natCast];congr 1;apply Nat.eq_of_testBit_eq;intro i;rw[Nat.testBit_and,Nat.testBit_and];rcases Nat.lt_or_ge i 32 with c|c
 .have:∀j:Fin 32,(18446744073709551615-2147483648:Nat).testBit j.val=(4294967295-2147483648:Nat).testBit j.val:=dE;rw[this ⟨i,c⟩]
 .have:A.testBit i=false:=Nat.testBit_lt_two_pow (Nat.lt_of_lt_of_le (show A<2^32 by omega) (Nat.pow_le_pow_right dE c));rw[this,Bool.false_and,Bool.false_and]
theorem OL(a:Int)(h0:0<=a)(h1:a<4294967296)(w:World):
 Calls prog 139 #[.int .i64 a] w fun e w'=>e=.returned (.int .i64 (JW a))/\Below w.heap.size w w':=by
 have hf:=GC;cases hna:C5 a
 .have hv:JW a=if 2147483648<=a then a-2147483648 else a+2147483648:=by
   rw[Oi a h0 h1 (by rw[<-Cy a h0 h1];exact hna)];unfold N7;by_cases c:2147483648<=a
   .rw[if_pos c,if_pos oM];omega
   .rw[if_neg c,if_neg oM];omega
  have hx:=QY a h0 h1;rw[hv];clear hv;generalize (if 2147483648<=a then a-2147483648 else a+2147483648)=z at *;go_enter func139,ntmps139;exact UV
 .have hv:=Oh a h0 h1 (by rw[<-Cy a h0 h1];exact hna);rw[hv];clear hv;go_enter func139,ntmps139;exact UV
theorem Wp(a:Int)(h0:0<=a)(h1:a<4294967296)(w:World):
 Calls prog 140 #[.int .i64 a] w fun e w'=>e=.returned (.int .i64 (YN a))/\Below w.heap.size w w':=by
 have hm:nan (a%2147483648)=nan a:=by unfold nan;rw[Int.emod_emod_of_dvd _ (Int.dvd_refl _)]
 unfold YN Ae;rw[hm,<-Cy a h0 h1];have hx:=F3 a h0 h1;have hf:=GC;cases hna:C5 a
 .rw[if_neg dE];go_enter func140,ntmps140;exact UV
 .rw[if_pos rfl];go_enter func140,ntmps140;exact UV
theorem M7(a:Int)(h0:0<=a)(h1:a<4294967296):(ng a.toNat=true/\Bb a= -1-(rg a.toNat:Int)/\sv a.toNat= -(mv a.toNat:Int))\/(ng a.toNat=false/\Bb a=(rg a.toNat:Int)/\sv a.toNat=(mv a.toNat:Int)):=by
 have hr:=CP a h0;rw[Qk a h0 h1];by_cases c:2147483648<=a
 .left;refine⟨by simpa using c,?_,?_⟩
  .unfold Bb;rw[if_pos c];omega
  .unfold sv sg;rw[Qk a h0 h1,if_pos (by simpa using c)]
 .right;refine⟨by simpa using c,?_,?_⟩
  .unfold Bb;rw[if_neg c];omega
  .unfold sv sg;rw[Qk a h0 h1,if_neg (by simpa using c)]
theorem Jy(x:Nat):mv x=0↔rg x=0:=by
 unfold mv;constructor
 .intro h;rw[<-MM 23]at h;exact UT 23 h
 .intro h;rw[h,MM]
theorem Qc(a b:Int)(h0:0<=a)(h1:a<4294967296)(g0:0<=b)(g1:b<4294967296):Bb a<Bb b↔(sv a.toNat<sv b.toNat\/(rg a.toNat=0/\rg b.toNat=0/\ng a.toNat=true/\ng b.toNat=false)):=by
 have ha:=M7 a h0 h1;have hb:=M7 b g0 g1;have m1:mv a.toNat<mv b.toNat↔rg a.toNat<rg b.toNat:=NK 23 _ _;have m2:mv b.toNat<mv a.toNat↔rg b.toNat<rg a.toNat:=NK 23 _ _;have z1:=Jy a.toNat;have z2:=Jy b.toNat;rcases ha with⟨p,q,r⟩|⟨p,q,r⟩<;>rcases hb with⟨p',q',r'⟩|⟨p',q',r'⟩<;>rw[p,q,r,p',q',r']<;>simp only[Bool.false_eq_true,Bool.true_eq_false,and_false,or_false,and_true]<;>omega
theorem JA(a b:Int)(h0:0<=a)(h1:a<4294967296)(g0:0<=b)(g1:b<4294967296):sv a.toNat=sv b.toNat↔(a=b\/(a%2147483648=0/\b%2147483648=0)):=by
 have hr:=CP a h0;have hs:=CP b g0;constructor
 .intro h;obtain⟨e,f⟩:=sv_inj h;rcases f with f|f
  .exact Or.inl (Zy h0 h1 g0 g1 e f)
  .right;omega
 .rintro(h|⟨h,k⟩)
  .rw[h]
  .have z1:=(Jy a.toNat).2 oM;have z2:=(Jy b.toNat).2 oM;unfold sv sg;rw[z1,z2];simp
theorem Vy(a b:Int)(h0:0<=a)(h1:a<4294967296)(g0:0<=b)(g1:b<4294967296)(hn:nan a=false)(hm:nan b=false):Jm a b=if Bb b<Bb a then b else a:=by
 unfold Jm;rw[Kn a b h0 g0,if_neg (by simp[hn,hm])];have hk:=Qc b a g0 g1 h0 h1;rcases Int.lt_trichotomy (sv a.toNat) (sv b.toNat)with c|c|c
 .have hne:¬ (Bb b<Bb a):=by
   exact Zen
  rw[PF c];simp only [];rw[if_neg hne]
 .rw[PD c];simp only [];rcases(JA a b h0 h1 g0 g1).1 c with e|⟨e,f⟩
  .subst e;split<;>simp
  .unfold Bb;by_cases d1:2147483648<=a<;>by_cases d2:2147483648<=b<;>simp only[d1,d2,if_true,if_false]
   .rw[if_neg oM]
   .rw[if_neg oM]
   .rw[if_pos oM]
   .rw[if_neg oM];omega
 .rw[PE c];simp only [];rw[if_pos (hk.2 (Or.inl c))]
theorem Vx(a b:Int)(h0:0<=a)(h1:a<4294967296)(g0:0<=b)(g1:b<4294967296)(hn:nan a=false)(hm:nan b=false):JV a b=if Bb b>Bb a then b else a:=by
 unfold JV;rw[Kn a b h0 g0,if_neg (by simp[hn,hm])];have hk:=Qc a b h0 h1 g0 g1;rcases Int.lt_trichotomy (sv a.toNat) (sv b.toNat)with c|c|c
 .rw[PF c];simp only [];rw[if_pos (show Bb b>Bb a from hk.2 (Or.inl c))]
 .rw[PD c];simp only [];rcases(JA a b h0 h1 g0 g1).1 c with e|⟨e,f⟩
  .subst e;split<;>simp
  .unfold Bb;by_cases d1:2147483648<=a<;>by_cases d2:2147483648<=b<;>simp only[d1,d2,if_true,if_false]
   .rw[if_neg oM];omega
   .rw[if_pos oM]
   .rw[if_neg oM]
   .rw[if_neg oM]
 .have hne:¬ (Bb b>Bb a):=by
   show¬ (Bb a<Bb b);exact Zen
  rw[PE c];simp only [];rw[if_neg hne]
theorem Tk(a b:Int)(h0:0<=a)(h1:a<4294967296)(g0:0<=b)(g1:b<4294967296)(hn:nan a=false)(hm:nan b=false):JU a b=(decide (Bb a<Bb b)&& !((a%2147483648==0)&&(b%2147483648==0))):=by
 have h:=Tj a b h0 g0;have hk:=Qc a b h0 h1 g0 g1;have hr:=CP a h0;have hs:=CP b g0;have hz:=JA a b h0 h1 g0 g1;simp only[hn,hm,true_and]at h;rw[Bool.eq_iff_iff,h];simp only[Bool.and_eq_true,decide_eq_true_eq,Bool.not_eq_true',Bool.and_eq_false_iff,beq_eq_false_iff_ne];constructor
 .intro c;refine⟨hk.2 (Or.inl c),?_⟩;by_cases e:a%2147483648=0
  .right;intro f;have:=hz.2 (Or.inr ⟨e,f⟩);omega
  .exact Or.inl e
 .rintro⟨c,d⟩;rcases hk.1 c with e|⟨e1,e2,-,-⟩
  .exact e
  .exfalso;rcases d with d|d<;>omega
theorem Eu(a b:Int)(h0:0<=a)(g0:0<=b)(h:nan a=true\/nan b=true):JU a b=false/\feq a b=false/\Jm a b=2143289344/\JV a b=2143289344:=by
 unfold JU feq Jm JV;rw[Kn a b h0 g0,if_pos h];exact⟨rfl,rfl,rfl,rfl⟩
theorem II(a:Int)(h0:0<=a)(h1:a<4294967296)(w:World):
 Calls prog 135 #[.int .i64 a] w fun e w'=>e=.returned (.int .i64 (Bb a))/\w'=w:=by
 have hx:=F3 a h0 h1;unfold Bb;by_cases c:2147483648<=a
 .have h2:a/2147483648=1:=oM;rw[if_pos c];go_enter func135,ntmps135;go_wp2;go_ret;exact⟨I8 oM,rfl⟩
 .have h2:a/2147483648=0:=oM;rw[if_neg c];go_enter func135,ntmps135;go_wp2;go_ret;exact⟨I8 oM,rfl⟩
theorem Gu(a:Int)(h0:0<=a)(h1:a<4294967296)(w:World):
 Calls prog 151 #[.int .i64 a] w fun e w'=>e=.returned (.bool (a%2147483648==0))/\w'=w:=by
 have hx:=F3 a h0 h1;go_enter func151,ntmps151;go_wp2;go_ret;exact⟨rfl,rfl⟩
theorem Gt(a:Int)(h0:0<=a)(h1:a<4294967296)(w:World):
 Calls prog 94 #[.int .i64 a] w fun e w'=>e=.returned (.int .i64 (Ae a))/\Below w.heap.size w w':=by
 have hf:=GC;unfold Ae;rw[<-Cy a h0 h1];cases hna:C5 a
 .rw[if_neg dE];go_enter func94,ntmps94;exact UV
 .rw[if_pos rfl];go_enter func94,ntmps94;exact UV
theorem OK(a:Int)(h0:0<=a)(h1:a<4294967296)(b:Int)(g0:0<=b)(g1:b<4294967296)(w:World):
 Calls prog 124 #[.int .i64 a,.int .i64 b] w fun e w'=>e=.returned (.int .i64 (Jm a b))/\Below w.heap.size w w':=by
 have ea:=Cy a h0 h1;have eb:=Cy b g0 g1;cases hna:C5 a
 .cases hnb:C5 b
  .rw[Vy a b h0 h1 g0 g1 Zhm Zhl];clear ea eb;by_cases c:Bb b<Bb a
   .rw[if_pos c];go_enter func124,ntmps124;exact Zas
   .rw[if_neg c];go_enter func124,ntmps124;exact Zas
  .rw[(Eu a b h0 g0 (Or.inr Zhl)).2.2.1];clear ea eb;go_enter func124,ntmps124;exact Zas
 .rw[(Eu a b h0 g0 (Or.inl Zhm)).2.2.1];clear ea eb;go_enter func124,ntmps124;exact Zas
theorem Wv(a:Int)(h0:0<=a)(h1:a<4294967296)(b:Int)(g0:0<=b)(g1:b<4294967296)(w:World):
 Calls prog 145 #[.int .i64 a,.int .i64 b] w fun e w'=>e=.returned (.int .i64 (JV a b))/\Below w.heap.size w w':=by
 have ea:=Cy a h0 h1;have eb:=Cy b g0 g1;cases hna:C5 a
 .cases hnb:C5 b
  .rw[Vx a b h0 h1 g0 g1 Zhm Zhl];clear ea eb;by_cases c:Bb b>Bb a
   .rw[if_pos c];go_enter func145,ntmps145;exact Zas
   .rw[if_neg c];go_enter func145,ntmps145;exact Zas
  .rw[(Eu a b h0 g0 (Or.inr Zhl)).2.2.2];clear ea eb;go_enter func145,ntmps145;exact Zas
 .rw[(Eu a b h0 g0 (Or.inl Zhm)).2.2.2];clear ea eb;go_enter func145,ntmps145;exact Zas
theorem U6(a:Int)(h0:0<=a)(h1:a<4294967296)(b:Int)(g0:0<=b)(g1:b<4294967296)(w:World):
 Calls prog 146 #[.int .i64 a,.int .i64 b] w fun e w'=>e=.returned (.bool (JU a b))/\Below w.heap.size w w':=by
 have ea:=Cy a h0 h1;have eb:=Cy b g0 g1;cases hna:C5 a
 .cases hnb:C5 b
  .rw[Tk a b h0 h1 g0 g1 Zhm Zhl];clear ea eb;cases za:(a%2147483648==0)<;>cases zb:(b%2147483648==0)<;>simp only[Bool.and_true,Bool.and_false,Bool.not_true,Bool.not_false]
   all_goals(
    go_enter func146,ntmps146;go_wp2_with(first
     |(go_at_call 115;refine(Dw _ oM oM _).mono ?_;rintro e w' ⟨rfl,o,rfl⟩)
     |(go_at_call 129;refine(Ed _ _ _ _ _ _ _ _ _ _ _).mono ?_;rintro e w' ⟨rfl,o,p,rfl⟩)
     |(go_at_call 135;refine(II _ oM oM _).mono ?_;rintro e w' ⟨rfl,rfl⟩)
     |(go_at_call 151;refine(Gu _ oM oM _).mono ?_;rintro e w' ⟨rfl,rfl⟩))
    go_ret
    exact⟨rfl,gG⟩)
  .rw[(Eu a b h0 g0 (Or.inr Zhl)).1];exact Zcd
 .rw[(Eu a b h0 g0 (Or.inl Zhm)).1];exact Zcd
theorem OP(c:Int)(e0:0<=c)(e1:c<4294967296)(a:Int)(h0:0<=a)(h1:a<4294967296)(b:Int)(g0:0<=b)(g1:b<4294967296)(w:World):
 Calls prog 147 #[.int .i64 c,.int .i64 a,.int .i64 b] w fun e w'=>e=.returned (.int .i64 (N9 c a b))/\Below w.heap.size w w':=by
 have hf:=GC;unfold N9;rw[<-Cy c e0 e1];cases hn:C5 c<;>cases hz:(c%2147483648==0)<;>simp only[Bool.or_true,Bool.or_false,if_true,if_false,Bool.false_eq_true]
 all_goals(
  go_enter func147,ntmps147;go_wp2_with(first
   |(go_at_call 115;refine(Dw _ oM oM _).mono ?_;rintro e w' ⟨rfl,o,rfl⟩)
   |(go_at_call 151;refine(Gu _ oM oM _).mono ?_;rintro e w' ⟨rfl,rfl⟩)
   |(go_at_call 94;refine(Gt _ oM oM _).mono ?_;rintro e w1 ⟨rfl,hb1⟩))
  go_ret
  exact⟨rfl,JL gG hb1⟩)
def rnd(x e:Int):Int:=if x=0 then 0 else(Ieee.single.nearest (decide (x<0)) x.natAbs e:Nat)
def H2(s:Bool)(x:Int):Int:=if s then -x else x
def Ux(s1:Bool)(m1 e1:Int)(s2:Bool)(m2 e2:Int):Int:=
 if e1-e2<=36 then rnd (H2 s1 (m1*2^(e1-e2).toNat)+H2 s2 m2) e2 else rnd (H2 s1 (m1*68719476736)+H2 s2 1) (e1-36)
theorem I9{s:Bool}{m m':Nat}{e e':Int}(h:m=m')(k:e=e'):Ending.returned (.int .i64 ((Ieee.single.nearest s m e:Nat):Int))=.returned (.int .i64 ((Ieee.single.nearest s m' e':Nat):Int)):=by rw[h,k]
theorem OU(s1:Bool)(m1 e1:Int)(i1 n1 s2:Bool)(m2 e2:Int)(i2 n2:Bool)(h1:0<m1)(h2:m1<16777216)(h3:0<m2)(h4:m2<16777216)(h5: -149<=e2)(h6:e2<=e1)(h7:e1<=104)(w:World):
 Calls prog 134 #[.agg #[.bool s1,.int .u64 m1,.int .i64 e1,.bool i1,.bool n1],.agg #[.bool s2,.int .u64 m2,.int .i64 e2,.bool i2,.bool n2]] w fun e w'=>e=.returned (.int .i64 (Ux s1 m1 e1 s2 m2 e2))/\Below w.heap.size w w':=by
 unfold Ux;by_cases c:e1-e2<=36
 .rw[if_pos c];generalize hd:e1-e2=d at *;have hd0:0<=d:=oM;obtain⟨X,hXX⟩:=gA (m1*2^d.toNat)
  have hX:0<X/\X<1152921504606846976:=by
   rw[<-hXX];have p1:(1:Int)<=2^d.toNat:=Int.pow_pos dE;have p2:(2:Int)^d.toNat<=68719476736:=by
    have h:2^d.toNat<=68719476736:=gH (Nat.pow_le_pow_right dE (show d.toNat<=36 by omega)) dE;have h':((2^d.toNat:Nat):Int)<=((68719476736:Nat):Int):=Int.ofNat_le.2 h;rw[Int.natCast_pow]at h';exact h'
   refine⟨Int.mul_pos h1 oM,?_⟩;have:=Int.mul_le_mul (show m1<=16777215 by omega) p2 oM oM;omega
  have hw:IntKind.u64.wrap (m1*2^d.toNat)=X:=by rw[hXX,IntKind.wrap_u64];omega
  rw[hXX];clear hXX;cases s1<;>cases s2<;>simp only[H2,if_true,if_false,Bool.false_eq_true]<;>unfold rnd
  .rw[if_neg oM,decide_eq_false oM,show(X+m2).natAbs=(X+m2).toNat by omega];exact Y4
  .rcases Int.lt_trichotomy (X+ -m2) 0 with c2|c2|c2
   .rw[if_neg oM,decide_eq_true oM,show(X+ -m2).natAbs=(-(X+ -m2)).toNat by omega];exact Y4
   .exact Zdd
   .rw[if_neg oM,decide_eq_false oM,show(X+ -m2).natAbs=(X+ -m2).toNat by omega];exact Y4
  .rcases Int.lt_trichotomy (-X+m2) 0 with c2|c2|c2
   .rw[if_neg oM,decide_eq_true oM,show(-X+m2).natAbs=(-(-X+m2)).toNat by omega];exact Y4
   .exact Zdd
   .rw[if_neg oM,decide_eq_false oM,show(-X+m2).natAbs=(-X+m2).toNat by omega];exact Y4
  .rw[if_neg oM,decide_eq_true oM,show(-X+ -m2).natAbs=(-(-X+ -m2)).toNat by omega];exact Y4
 .rw[if_neg c];obtain⟨X,hXX⟩:=gA (m1*68719476736)
  have hX:68719476736<=X/\X<1152921504606846976:=oM;have hw:IntKind.u64.wrap (m1*68719476736)=X:=by rw[hXX,IntKind.wrap_u64];omega
  rw[hXX];have hX3:m1*68719476736<18446744073709551616:=oM;cases s1<;>cases s2<;>simp only[H2,if_true,if_false,Bool.false_eq_true]<;>unfold rnd
  .rw[if_neg oM,decide_eq_false oM,show(X+1).natAbs=(X+1).toNat by omega];exact Y4
  .rw[if_neg oM,decide_eq_false oM,show(X+ -1).natAbs=(X+ -1).toNat by omega];exact Y4
  .rw[if_neg oM,decide_eq_true oM,show(-X+1).natAbs=(-(-X+1)).toNat by omega];exact Y4
  .rw[if_neg oM,decide_eq_true oM,show(-X+ -1).natAbs=(-(-X+ -1)).toNat by omega];exact Y4
def Va(w:World)(b:Nat):Nat:=match w.cell? ⟨b,1,none⟩with
 |some (.int _ x)=>x.toNat
 |_=>0
theorem J2(w:World)(v0 v2 v3 v4:Value)(X:Int)(t:TypeId)(p:Obj):Va ((w.alloc (.cells #[v0,.int .u64 X,v2,v3,v4] t)).alloc p) w.heap.size=X.toNat:=by
 have:((w.alloc (.cells #[v0,.int .u64 X,v2,v3,v4] t)).alloc p).cell? ⟨w.heap.size,1,none⟩=some (.int .u64 X):=by
  simp
 unfold Va;rw[this]
theorem ZT(s:Bool)(m e:Int)(i n:Bool)(h0:0<m)(h1:m<16777216)(e0: -149<=e)(e1:e<=104)(w:World):
 Calls prog 150 #[.agg #[.bool s,.int .u64 m,.int .i64 e,.bool i,.bool n]] w fun x w'=>(∃k:Nat,k<=23/\x=.returned (.agg #[.bool s,.int .u64 (m*2^k),.int .i64 (e-k),.bool i,.bool n])/\8388608<=m*2^k/\m*2^k<16777216)/\∃o p,w'=(w.alloc o).alloc p:=by
 go_enter func150,ntmps150;go_wp2
 go_loopw [4] (fun _ wr=>∃ (k:Nat),k<=23/\m*2^k<16777216/\wr=(w.alloc (.cells #[.bool s,.int .u64 (m*2^k),.int .i64 (e-k),.bool i,.bool n] 179)).alloc (.cells #[.bool false,.int .u64 0,.int .i64 0,.bool false,.bool false] 179)) (fun _ wr=>16777216-Va wr w.heap.size)
 case atStart=>exact⟨0,oM,by simpa using h1,sM⟩
 case round=>
  obtain⟨k,hk,hm,rfl⟩:=hrel;have hP:(1:Int)<=2^k:=Int.pow_pos dE;have hX:0<m*2^k:=Int.mul_pos h0 oM;by_cases c:m*2^k<8388608
  .have hs:m*2^(k+1)=m*2^k*2:=by rw[Int.pow_succ,<-Int.mul_assoc]
   have HS:Hid (m*2^(k+1)=m*2^k*2):=hs;have hk23:k<=22:=by
    rcases Nat.lt_or_ge 22 k with d|d
    .exfalso;have h2:8388608<=2^k:=gH (show 8388608<=2^23 by decide) (Nat.pow_le_pow_right dE oM);have h3:((8388608:Nat):Int)<=((2^k:Nat):Int):=Int.ofNat_le.2 h2;rw[Int.natCast_pow]at h3;have h4:(1:Int)*2^k<=m*2^k:=Int.mul_le_mul_of_nonneg_right oM oM;have h5:((8388608:Nat):Int)=8388608:=rfl;have h6:(((2:Nat):Int))^k=(2:Int)^k:=rfl;omega
    .exact d
   clear hs;generalize m*2^k=X at *;go_wp2;go_roundw
   case rel=>
    refine⟨k+1,oM,?_,?_⟩
    .rw[HS.out];omega
    .rw[HS.out,show e-(k:Int)-1=e-((k+1:Nat):Int) by omega]
   case measure=>rw[J2,J2];omega
  .generalize hXX:m*2^k=X at *;have HX:Hid (m*2^k=X):=hXX;clear hXX;go_wp2;go_returns;exact⟨⟨k,hk,by rw[HX.out],by rw[HX.out];omega,by rw[HX.out];omega⟩,_,_,rfl⟩
def nk(m:Int):Nat:=23-m.toNat.log2
theorem EG(k:Nat):((2^k:Nat):Int)=(2:Int)^k:=Int.natCast_pow 2 k
theorem Zk(m:Int)(k:Nat)(h0:0<m)(hk:k<=23)(h:8388608<=m*2^k)(h':m*2^k<16777216):k=nk m:=by
 obtain⟨n,rfl⟩:=Int.eq_ofNat_of_zero_le (Int.le_of_lt h0);rw[<-EG,<-Int.natCast_mul]at h h';have hn:n≠0:=oM;have e:(n*2^k).log2=n.log2+k:=by
  refine(Nat.log2_eq_iff oM).2 ⟨?_,?_⟩
  .rw[Nat.pow_add];exact Nat.mul_le_mul_right _ (Nat.log2_self_le hn)
  .rw[show n.log2+k+1=n.log2+1+k by omega,Nat.pow_add];exact Nat.mul_lt_mul_of_pos_right Nat.lt_log2_self (Nat.two_pow_pos k)
 have e2:(n*2^k).log2=23:=(Nat.log2_eq_iff oM).2 ⟨oM,oM⟩;unfold nk;rw[Int.toNat_natCast];omega
theorem QI(s:Bool)(m e:Int)(i n:Bool)(h0:0<m)(h1:m<16777216)(e0: -149<=e)(e1:e<=104)(w:World):
 Calls prog 150 #[.agg #[.bool s,.int .u64 m,.int .i64 e,.bool i,.bool n]] w fun x w'=>x=.returned (.agg #[.bool s,.int .u64 (m*2^nk m),.int .i64 (e-nk m),.bool i,.bool n])/\∃o p,w'=(w.alloc o).alloc p:=by
 refine(ZT s m e i n h0 h1 e0 e1 w).mono ?_;rintro x w' ⟨⟨k,hk,rfl,ha,hb⟩,ho⟩;have:=Zk m k h0 hk ha hb;subst this;exact⟨rfl,ho⟩
theorem Fj(m:Int)(h0:0<m)(h1:m<16777216):nk m<=23/\8388608<=m*2^nk m/\m*2^nk m<16777216:=by
 obtain⟨n,rfl⟩:=Int.eq_ofNat_of_zero_le (Int.le_of_lt h0);have hn:n≠0:=oM;have hl:n.log2<24:=(Nat.log2_lt hn).2 oM;have lo:=Nat.log2_self_le hn;have hi:n<2^(n.log2+1):=Nat.lt_log2_self;unfold nk;rw[Int.toNat_natCast,<-EG,<-Int.natCast_mul];refine⟨oM,?_,?_⟩
 .have:2^n.log2*2^(23-n.log2)<=n*2^(23-n.log2):=Nat.mul_le_mul_right _ lo;rw[<-Nat.pow_add,show n.log2+(23-n.log2)=23 by omega]at this;omega
 .have:n*2^(23-n.log2)<2^(n.log2+1)*2^(23-n.log2):=Nat.mul_lt_mul_of_pos_right hi (Nat.two_pow_pos _);rw[<-Nat.pow_add,show n.log2+1+(23-n.log2)=24 by omega]at this;omega
theorem Nu(a:Int)(h0:0<=a)(h1:a<4294967296)(hi:E9 a=false)(hn:C5 a=false):rg a.toNat<2139095040/\ng a.toNat=Bc a/\(mg a.toNat:Int)=nM a/\(te a.toNat:Int)=nE a+149:=by
 have h:=C7 a h0 h1 hi hn;have hf:rg a.toNat<2139095040:=by
  rcases Nat.lt_trichotomy (rg a.toNat) 2139095040 with c|c|c
  .exact c
  .rw[EI _ c]at h;cases h.1
  .rw[EJ _ c]at h;cases h.1
 rw[CO _ hf]at h;have e:=h.1;injection e with e1 e2 e3;exact⟨hf,e1,oM,oM⟩
theorem EQ(a b:Int){d e:Ieee.Datum}(h:Ieee.single.read a.toNat=d)(k:Ieee.single.read b.toNat=e):GS a b=RP ((d.quotient 25 e).map Ieee.single.write):=by
 unfold GS Ieee.Format.div;rw[h,k];rfl
theorem Vh(p q:Nat):(2*((p:Int)*274877906944/(q:Int))+(if(p:Int)*274877906944%(q:Int)=0 then 0 else 1)).toNat=2*((p<<<38)/q)+((p<<<38)%q != 0).toNat:=by
 have e:(p:Int)*(274877906944:Int)=((p<<<38:Nat):Int):=by
  rw[Nat.shiftLeft_eq,Int.natCast_mul,EG];rfl
 rw[e,<-Int.natCast_ediv,<-Int.natCast_emod];generalize (p<<<38)/q=x;generalize (p<<<38)%q=y;have hb:(y != 0).toNat=if y=0 then 0 else 1:=by by_cases c:y=0<;>simp[c]
 rw[hb];by_cases c:y=0
 .rw[if_pos c,if_pos oM];omega
 .rw[if_neg c,if_neg oM];omega
theorem TN(M N j k r:Nat)(E F:Int)(ta tb:Nat)(hE:(ta:Int)=E+149)(hF:(tb:Int)=F+149)(hj:j<=23)(hk:k<=23)(hM:8388608<=M*2^j)(hN:8388608<=N*2^k)(hN2:N*2^k<16777216)(hNpos:0<N)
 (hnear:GQ 23 (M*2^ta*2^149) (N*2^tb) r):
 r=CF 23 (-149) (2*(((M*2^j)<<<38)/(N*2^k))+(((M*2^j)<<<38)%(N*2^k) != 0).toNat) (E-j-(F-k)-39):=by
 have hq:0<N*2^k:=oM;have big:25<=(2*(((M*2^j)<<<38)/(N*2^k))+(((M*2^j)<<<38)%(N*2^k) != 0).toNat).log2:=by
  refine Lf hq (j:=24) ?_;exact gH (Nat.mul_le_mul_right _ (show N*2^k<=16777216 by omega)) (gH dE (Nat.mul_le_mul_right _ hM))
 obtain⟨s,hs⟩:∃s:Nat,(s:Int)=F-k+172:=⟨(F-k+172).toNat,oM⟩
 obtain⟨x,hx⟩:∃x:Nat,(x:Int)=E-j+321:=⟨(E-j+321).toNat,oM⟩
 have h2:=Mb (M*2^j) (N*2^k) 38 hq (E-j-(F-k)-39) big x s oM oM;refine hnear.unique h2 (Nat.mul_pos hNpos (Nat.two_pow_pos _)) (Nat.mul_pos hq (Nat.two_pow_pos s)) ?_;obtain⟨z,hz⟩:∃z:Nat,z=149:=⟨_,rfl⟩
 rw[<-hz];have e1:M*2^ta*2^z*(N*2^k*2^s)=M*N*2^(ta+z+k+s):=by
  rw[Nat.pow_add,Nat.pow_add,Nat.pow_add];grind
 have e2:M*2^j*2^x*(N*2^tb)=M*N*2^(j+x+tb):=by
  rw[Nat.pow_add,Nat.pow_add];grind
 rw[e1,e2,show ta+z+k+s=j+x+tb by omega]
theorem Vt(a b:Int)(h0:0<=a)(h1:a<4294967296)(g0:0<=b)(g1:b<4294967296)(hia:E9 a=false)(hna:C5 a=false)(hib:E9 b=false)(hnb:C5 b=false)(za:nM a≠0)(zb:nM b≠0)
 (A B:Int) (hA:nM a*2^nk (nM a)=A) (hB:nM b*2^nk (nM b)=B):
 GS a b=(Ieee.single.nearest (Bc a != Bc b) (2*(A*274877906944/B)+(if A*274877906944%B=0 then 0 else 1)).toNat (nE a-nk (nM a)-(nE b-nk (nM b))-39):Nat):=by
 obtain⟨fa,sa,ma,ta⟩:=Nu a h0 h1 hia hna;obtain⟨fb,sb,mb,tb⟩:=Nu b g0 g1 hib hnb;obtain⟨-,a1,a2,a3,a4,-⟩:=C7 a h0 h1 hia hna;obtain⟨-,b1,b2,b3,b4,-⟩:=C7 b g0 g1 hib hnb;obtain⟨ka,A1,A2⟩:=Fj (nM a) oM a2;obtain⟨kb,B1,B2⟩:=Fj (nM b) oM b2;obtain⟨r,hr,hnear⟩:=YJ a.toNat b.toNat fa fb oM oM;have cA:A=((mg a.toNat*2^nk (nM a):Nat):Int):=by rw[Int.natCast_mul,EG,ma,hA]
 have cB:B=((mg b.toNat*2^nk (nM b):Nat):Int):=by rw[Int.natCast_mul,EG,mb,hB]
 rw[J6,J6]at hnear;have Bb:=TN (mg a.toNat) (mg b.toNat) (nk (nM a)) (nk (nM b)) r (nE a) (nE b) (te a.toNat) (te b.toNat) ta tb ka kb oM oM oM oM hnear;unfold GS;rw[hr,sa,sb,Es];show((wd (Bc a != Bc b) r:Nat):Int)=_;rw[BJ,Dn,BV,Ip,cA,cB,Vh,<-Bb]
theorem Qj(p t k n δ:Nat)(hp:1<=p)(ht:1<=t)(hk:2^p<=k)(hk2:k<2*2^p)(h:n=k*2^t+δ\/n+δ=k*2^t)(hδ:4*δ<2^t):GQ p n 1 (t*2^p+k):=by
 have hB:0<2^p:=Nat.two_pow_pos p;have v0:V p (t*2^p+k)=k*2^t:=H6 p t k oM (Or.inr hk);have v1:V p (t*2^p+k+1)=(k+1)*2^t:=by rw[Nat.add_assoc];exact H6 p t (k+1) oM (Or.inr oM)
 have e1:(k+1)*2^t=k*2^t+2^t:=by rw[Nat.add_mul,Nat.one_mul]
 have hlow:∀q,t*2^p+k=q+1->2*(V p q)+2^t<=2*(k*2^t):=by
  intro q hq;have hst:=MK p q;rw[<-hq,v0]at hst;have:t-1<=q/2^p-1:=by
   have:t<=q/2^p:=(Nat.le_div_iff_mul_le hB).2 oM;omega
  have hle:2^(t-1)<=2^(q/2^p-1):=Nat.pow_le_pow_right dE this;have:2^t=2*2^(t-1):=by
   obtain⟨e,rfl⟩:∃e,t=e+1:=⟨t-1,oM⟩
   rw[Nat.add_sub_cancel,Nat.pow_succ,Nat.mul_comm]
  omega
 refine⟨?_,?_,?_,?_⟩
 .rw[v0,v1,e1,Nat.mul_one];omega
 .rw[v0,v1,e1,Nat.mul_one];omega
 .intro q hq;have:=hlow q hq;rw[v0,Nat.mul_one];omega
 .intro q hq;have:=hlow q hq;rw[v0,Nat.mul_one];omega
theorem O4(m:Nat)(e:Int)(x δ:Nat)(i:Int)(hm:8388608<=m)(hm2:m<16777216)(hi: -113<i)(j:Int)(hj: -149<=j)(u:Nat)(hu:(u:Int)=i-j)(hx:x=m*2^u+δ\/x+δ=m*2^u)(hδ:4*δ<2^u):
 CF 23 (-149) x j=(i+149).toNat*8388608+m:=by
 obtain⟨c,hc⟩:∃c:Nat,(c:Int)=j+149:=⟨(j+149).toNat,oM⟩
 have h1:=Gp 23 (-149) x j dE c 0 oM;have ht:(i+149).toNat=u+c:=oM;have h2:GQ 23 (x*2^c) 1 ((i+149).toNat*2^23+m):=by
  refine Qj 23 (i+149).toNat m (x*2^c) (δ*2^c) dE oM oM oM ?_ ?_
  .rw[ht,Nat.pow_add,<-Nat.mul_assoc,<-Nat.add_mul];rcases hx with hx|hx
   .left;rw[hx]
   .right;rw[<-Nat.add_mul,hx]
  .rw[ht,Nat.pow_add,<-Nat.mul_assoc];exact Nat.mul_lt_mul_of_pos_right hδ (Nat.two_pow_pos c)
 exact h1.unique h2 dE dE sM
theorem IN(s:Bool)(m u:Nat):Ieee.signed s m u=H2 s ((m:Int)*2^u):=by
 unfold Ieee.signed H2;rw[Nat.shiftLeft_eq];push_cast;rfl
theorem D7(a b:Int){d e:Ieee.Datum}(h:Ieee.single.read a.toNat=d)(k:Ieee.single.read b.toNat=e):DK a b=RP ((d.sum e).map Ieee.single.write):=by
 unfold DK Ieee.Format.add;rw[h,k]
theorem GH(s:Bool)(e:Int):((Ieee.single.nearest s 0 e:Nat):Int)=Ig s:=by
 exact Zfn
theorem P7(s1:Bool)(m1 e1:Int)(s2:Bool)(m2 e2:Int)(h1:0<m1)(h2:m1<16777216)(h3:0<m2)(h4:m2<16777216)(h5: -149<=e2)(h6:e2<=e1)(h7:e1= -149\/8388608<=m1):
 RP (((Ieee.Datum.number s1 m1.toNat e1).sum (.number s2 m2.toNat e2)).map Ieee.single.write)=Ux s1 m1 e1 s2 m2 e2:=by
 simp only[Ieee.Datum.sum,Option.map_some,Ieee.Format.write];rw[show min e1 e2=e2 by omega,show(e2-e2).toNat=0 by omega,IN,IN,Int.toNat_of_nonneg oM,Int.toNat_of_nonneg oM,Int.pow_zero,Int.mul_one];have hP:(1:Int)<=2^(e1-e2).toNat:=Int.pow_pos dE;have hX:0<m1*2^(e1-e2).toNat:=Int.mul_pos h1 oM;unfold Ux;by_cases c:e1-e2<=36
 .rw[if_pos c];generalize m1*2^(e1-e2).toNat=X at *;unfold rnd;by_cases z:H2 s1 X+H2 s2 m2=0
  .rw[if_pos z,if_pos z,z];have:(s1&&s2)=false:=by
    cases s1<;>cases s2<;>simp only[H2,if_true,if_false,Bool.false_eq_true]at z<;>first|rfl|omega
   rw[this];exact GH false e2
  .rw[if_neg z,if_neg z];rfl
 .rw[if_neg c];have hm8:8388608<=m1:=oM;have hpow:(2:Int)^(e1-e2).toNat=2^(e1-e2-37).toNat*137438953472:=by
   have:(e1-e2).toNat=(e1-e2-37).toNat+37:=oM;rw[this,Int.pow_add];rfl
  have hP2:(1:Int)<=2^(e1-e2-37).toNat:=Int.pow_pos dE;have hbig:137438953472<=(2:Int)^(e1-e2).toNat:=oM;have hXbig:137438953472<=m1*2^(e1-e2).toNat:=by
   have:=Int.mul_le_mul (show(1:Int)<=m1 by omega) hbig dE oM;omega
  have hz1:¬ (H2 s1 (m1*2^(e1-e2).toNat)+H2 s2 m2=0):=by
   generalize m1*2^(e1-e2).toNat=X at *;exact Zdi
  have hz2:¬ (H2 s1 (m1*68719476736)+H2 s2 1=0):=by
   exact Zdi
  have hs1:decide (H2 s1 (m1*2^(e1-e2).toNat)+H2 s2 m2<0)=s1:=by
   generalize m1*2^(e1-e2).toNat=X at *;cases s1<;>cases s2<;>simp only[H2,if_true,if_false,Bool.false_eq_true]<;>simp<;>omega
  have hs2:decide (H2 s1 (m1*68719476736)+H2 s2 1<0)=s1:=by
   cases s1<;>cases s2<;>simp only[H2,if_true,if_false,Bool.false_eq_true]<;>simp<;>omega
  unfold rnd;rw[if_neg hz1,if_neg hz2,hs1,hs2,BJ,BJ];have r1:CF 23 (-149) (H2 s1 (m1*2^(e1-e2).toNat)+H2 s2 m2).natAbs e2=(e1+149).toNat*8388608+m1.toNat:=by
   refine O4 m1.toNat 0 _ m2.toNat e1 oM oM oM e2 h5 (e1-e2).toNat oM ?_ ?_
   .have hcast:((m1.toNat*2^(e1-e2).toNat:Nat):Int)=m1*2^(e1-e2).toNat:=by
     rw[Int.natCast_mul,Int.natCast_pow,Int.toNat_of_nonneg oM];rfl
    generalize m1.toNat*2^(e1-e2).toNat=Y at *;generalize m1*2^(e1-e2).toNat=X at *;exact Zdi
   .have hcast:((2^(e1-e2).toNat:Nat):Int)=(2:Int)^(e1-e2).toNat:=Int.natCast_pow 2 _;omega
  have r2:CF 23 (-149) (H2 s1 (m1*68719476736)+H2 s2 1).natAbs (e1-36)=(e1+149).toNat*8388608+m1.toNat:=by
   refine O4 m1.toNat 0 _ 1 e1 oM oM oM (e1-36) oM 36 oM ?_ dE;rw[show(2:Nat)^36=68719476736 from rfl];exact Zdi
  rw[Dn,BV,r1,r2];rfl
theorem Gj(a:Int){d:Ieee.Datum}(h:Ieee.single.read a.toNat=d):E6 a=RP ((d.root 25).map Ieee.single.write):=by
 unfold E6 Ieee.Format.sqrt;rw[h];rfl
theorem Tl(a:Int)(h0:0<=a)(h1:a<4294967296)(hia:E9 a=false)(hna:C5 a=false)(za:nM a≠0)(hs:Bc a=false)(root n:Nat)(e:Int)(he:e%2=0)
 (hn:(n:Int)=nM a*2^nk (nM a)*68719476736/\e=nE a-nk (nM a)-36\/(n:Int)=nM a*2^nk (nM a)*68719476736*2/\e=nE a-nk (nM a)-37) (hr1:root*root<=n) (hr2:n<(root+1)*(root+1)):
 E6 a=(Ieee.single.nearest false (2*root+(if root*root<n then 1 else 0)) (e/2-1):Nat):=by
 obtain⟨fa,sa,ma,ta⟩:=Nu a h0 h1 hia hna;obtain⟨-,a1,a2,a3,a4,-⟩:=C7 a h0 h1 hia hna;obtain⟨ka,A1,A2⟩:=Fj (nM a) oM a2;obtain⟨r,hr,hnear⟩:=OM a.toNat fa (by rw[sa];exact hs) oM;have hst:(root*root != n).toNat=if root*root<n then 1 else 0:=by
  by_cases c:root*root=n
  .rw[if_neg oM];simp[c]
  .rw[if_pos oM];simp[c]
 obtain⟨x,hx⟩:∃x:Nat,(x:Int)=e/2+149:=⟨(e/2+149).toNat,oM⟩
 have hn59:576460752303423488<=n:=oM;have hroot:16777216<=root:=by
  rcases Nat.lt_or_ge root 16777216 with c|c
  .exfalso;have:=Nat.mul_self_le_mul_self (show root+1<=16777216 from c);omega
  .exact c
 have big:23+2<=(2*root+(root*root != n).toNat).log2:=by
  apply(Nat.le_log2 oM).2;omega
 have h2:=Mc 23 (-149) root n (e/2-1) dE hr1 hr2 big x oM;have hval:n*(2^x*2^x)=mv a.toNat*2^149:=by
  have cA:nM a*2^nk (nM a)=((mg a.toNat*2^nk (nM a):Nat):Int):=by rw[Int.natCast_mul,EG,ma]
  rw[cA]at hn;obtain⟨z,hz⟩:∃z:Nat,z=149:=⟨_,rfl⟩
  rw[J6,<-hz];rcases hn with⟨hn,hE⟩|⟨hn,hE⟩
  .have hn':n=mg a.toNat*2^nk (nM a)*2^36:=by
    have:(2:Nat)^36=68719476736:=rfl;omega
   exact Zfc
  .have hn':n=mg a.toNat*2^nk (nM a)*2^37:=by
    have:(2:Nat)^37=68719476736*2:=rfl;omega
   exact Zfc
 rw[hval,hst]at h2;have Bb:=hnear.unique h2;unfold E6;rw[hr];show((wd false r:Nat):Int)=_;rw[BJ,Dn,BV,Ip,<-Bb]
def rrel(n k root:Nat):Prop:=root*root<=n/\n<(root+2^k)*(root+2^k)/\root+2^k<=4294967296
def SP(k:Nat):Int:=if k=0 then 0 else 2^(k-1)
theorem SR(k:Nat):SP (k+1)=2^k:=by unfold SP;rw[if_neg oM];rfl
theorem SQ(k:Nat):(2:Int)^k/2=SP k:=by
 unfold SP;rcases Nat.eq_zero_or_pos k with c|c
 .subst c;rfl
 .rw[if_neg oM];obtain⟨j,rfl⟩:∃j,k=j+1:=⟨k-1,oM⟩
  rw[Int.pow_succ,Nat.add_sub_cancel];omega
theorem Ua(a:Int)(h0:0<=a)(h1:a<4294967296)(hia:E9 a=false)(hna:C5 a=false)(za:nM a≠0)(hs:Bc a=false)(w:World):
 Calls prog 138 #[.int .i64 a] w fun e w'=>e=.returned (.int .i64 (E6 a))/\Below w.heap.size w w':=by
 obtain⟨ra,a1,a2,a3,a4,a5⟩:=C7 a h0 h1 hia hna;obtain⟨ka,A1,A2⟩:=Fj (nM a) oM a2;obtain⟨A,hA⟩:=gA (nM a*2^nk (nM a))
 obtain⟨EA,hEA⟩:=gA (nE a-(nk (nM a):Int))
 have hv:=Tl a h0 h1 hia hna za hs;rw[hA,hEA]at hv;rw[hA]at A1 A2;have eb: -172<=EA/\EA<=104:=oM;clear ra a5;have HV:Hid (∀ (root n:Nat) (e:Int),e%2=0->((n:Int)=A*68719476736/\e=EA-36\/(n:Int)=A*68719476736*2/\e=EA-37)->root*root<=n->n<(root+1)*(root+1)->E6 a=(Ieee.single.nearest false (2*root+(if root*root<n then 1 else 0)) (e/2-1):Nat)):=fun root n e p q r s=>hv root n e p q r s;clear hv;generalize hF:E6 a=F at *;clear hF;by_cases c:EA%2=0
 .skip
  obtain⟨N,hN⟩:∃N:Int,A*68719476736=N:=⟨_,rfl⟩
  obtain⟨e,he⟩:∃e:Int,EA-36=e:=⟨_,rfl⟩
  obtain⟨E2,hE2⟩:∃E2:Int,e/2=E2:=⟨_,rfl⟩
  have hNb:576460752303423488<=N/\N<2305843009213693952:=oM;obtain⟨n,hn⟩:∃n:Nat,(n:Int)=N:=⟨N.toNat,oM⟩
  have hv2:=fun root=>HV.out root n e oM (Or.inl ⟨oM,oM⟩);rw[hE2]at hv2;have htd:e.tdiv 2=E2:=by rw[<-hE2,Int.tdiv_eq_ediv];split<;>omega
  have hodd:e.tmod 2=0:=by rw[Int.tmod_eq_emod];split<;>omega
  exact Zai
 .skip
  have hodd:(EA-36).tmod 2≠0:=by rw[Int.tmod_eq_emod];split<;>omega
  obtain⟨N,hN⟩:∃N:Int,A*68719476736*2=N:=⟨_,rfl⟩
  obtain⟨e,he⟩:∃e:Int,EA-36-1=e:=⟨_,rfl⟩
  obtain⟨E2,hE2⟩:∃E2:Int,e/2=E2:=⟨_,rfl⟩
  have hNb:576460752303423488<=N/\N<2305843009213693952:=oM;obtain⟨n,hn⟩:∃n:Nat,(n:Int)=N:=⟨N.toNat,oM⟩
  have hv2:=fun root=>HV.out root n e oM (Or.inr ⟨oM,oM⟩);rw[hE2]at hv2;have htd:e.tdiv 2=E2:=by rw[<-hE2,Int.tdiv_eq_ediv];split<;>omega
  exact Zai
theorem U9(a:Int)(h0:0<=a)(h1:a<4294967296)(w:World):
 Calls prog 138 #[.int .i64 a] w fun e w'=>e=.returned (.int .i64 (E6 a))/\Below w.heap.size w w':=by
 cases hna:C5 a
 .cases hia:E9 a
  .by_cases za:nM a=0
   .obtain⟨ra,a1,a2,a3,a4,a5⟩:=C7 a h0 h1 hia hna;have hv:E6 a=a:=by
     rw[Gj a ra,za];have e:((Ieee.single.nearest (Bc a) 0 (nE a):Nat):Int)=Ig (Bc a):=GH _ _;show((Ieee.single.nearest (Bc a) 0 (nE a):Nat):Int)=a;rw[e];have h2:=Nu a h0 h1 hia hna;have h3:=F0 a h0 h1;have h4:rg a.toNat=0:=by
      have:mg a.toNat=0:=oM;unfold mg at this;split at this<;>omega
     rw[h2.2.1,h4]at h3;unfold Ig;omega
    rw[hv];clear hv ra a5;go_enter func138,ntmps138;exact UV
   .cases hs:Bc a
    .exact Ua a h0 h1 hia hna za hs w
    .obtain⟨ra,a1,a2,a3,a4,a5⟩:=C7 a h0 h1 hia hna;have hv:E6 a=2143289344:=by
      rw[Gj a ra,hs];have:(nM a).toNat≠0:=oM;simp only[Ieee.Datum.root,if_neg this,if_true];rfl
     rw[hv];clear hv ra a5;go_enter func138,ntmps138;exact UV
  .obtain⟨ra,-,a1⟩:=DX a h0 h1 hia;cases hs:Bc a
   .have hv:E6 a=a:=by
     rw[Gj a ra,hs];have h2:rg a.toNat=2139095040:=by
      rcases Nat.lt_trichotomy (rg a.toNat) 2139095040 with c|c|c
      .rw[CO _ c]at ra;cases ra
      .exact c
      .rw[EJ _ c]at ra;cases ra
     have h3:=F0 a h0 h1;rw[<-Nh a h0 h1,hs,h2]at h3;show((Ieee.single.write (.infinity false):Nat):Int)=a;rw[CD];unfold Ig;omega
    rw[hv];clear hv ra;go_enter func138,ntmps138;exact UV
   .have hv:E6 a=2143289344:=by rw[Gj a ra,hs];rfl
    rw[hv];clear hv ra;go_enter func138,ntmps138;exact UV
 .have hv:E6 a=2143289344:=by
   obtain⟨s,t,e⟩:=FJ a h0 h1 hna;rw[Gj a e];rfl
  rw[hv];clear hv;go_enter func138,ntmps138;exact UV
section
open Go.Maps (Keyed)
end
end Go.Proofs.YtpoklpdgpcnkgaaGreat
