import Derived.Test.YtpoklpdgpcnkgaaGreatLng5
import Derived.Test.YtpoklpdgpcnkgaaGreatLng7
import Derived.Test.YtpoklpdgpcnkgaaGreatLng1
import Derived.Test.YtpoklpdgpcnkgaaGreatLng2
import Derived.DeepKeys4
namespace Go.Proofs.YtpoklpdgpcnkgaaGreat
open Go.RowKit Go.Proofs.Tryz
set_option linter.all false
set_option maxRecDepth 100000
set_option maxHeartbeats 16000000
theorem QP(op:Int)(h:Aq op=false)(w:World):Calls prog 58 #[.int .i64 op] w fun e w'=>e=.returned (.tuple #[Em ⟨0,0,0,0,0⟩,.bool false])/\Below w.heap.size w w':=by
 have hh:op<1\/37<op:=by unfold Aq at h;simp at h;omega
 have e1:(op==1)=false:=by have:op≠1:=oM;simpa using this
 have e2:(op==2)=false:=by have:op≠2:=oM;simpa using this
 have e3:(op==3)=false:=by have:op≠3:=oM;simpa using this
 have e4:(op==4)=false:=by have:op≠4:=oM;simpa using this
 have e5:(op==5)=false:=by have:op≠5:=oM;simpa using this
 have e6:(op==6)=false:=by have:op≠6:=oM;simpa using this
 have e7:(op==7)=false:=by have:op≠7:=oM;simpa using this
 have e8:(op==8)=false:=by have:op≠8:=oM;simpa using this
 have e9:(op==9)=false:=by have:op≠9:=oM;simpa using this
 have e10:(op==10)=false:=by have:op≠10:=oM;simpa using this
 have e11:(op==11)=false:=by have:op≠11:=oM;simpa using this
 have e12:(op==12)=false:=by have:op≠12:=oM;simpa using this
 have e13:(op==13)=false:=by have:op≠13:=oM;simpa using this
 have e14:(op==14)=false:=by have:op≠14:=oM;simpa using this
 have e15:(op==15)=false:=by have:op≠15:=oM;simpa using this
 have e16:(op==16)=false:=by have:op≠16:=oM;simpa using this
 have e17:(op==17)=false:=by have:op≠17:=oM;simpa using this
 have e18:(op==18)=false:=by have:op≠18:=oM;simpa using this
 have e19:(op==19)=false:=by have:op≠19:=oM;simpa using this
 have e20:(op==20)=false:=by have:op≠20:=oM;simpa using this
 have e21:(op==21)=false:=by have:op≠21:=oM;simpa using this
 have e22:(op==22)=false:=by have:op≠22:=oM;simpa using this
 have e23:(op==23)=false:=by have:op≠23:=oM;simpa using this
 have e24:(op==24)=false:=by have:op≠24:=oM;simpa using this
 have e25:(op==25)=false:=by have:op≠25:=oM;simpa using this
 have e26:(op==26)=false:=by have:op≠26:=oM;simpa using this
 have e27:(op==27)=false:=by have:op≠27:=oM;simpa using this
 have e28:(op==28)=false:=by have:op≠28:=oM;simpa using this
 have e29:(op==29)=false:=by have:op≠29:=oM;simpa using this
 have e30:(op==30)=false:=by have:op≠30:=oM;simpa using this
 have e31:(op==31)=false:=by have:op≠31:=oM;simpa using this
 have e32:(op==32)=false:=by have:op≠32:=oM;simpa using this
 have e33:(op==33)=false:=by have:op≠33:=oM;simpa using this
 have e34:(op==34)=false:=by have:op≠34:=oM;simpa using this
 have e35:(op==35)=false:=by have:op≠35:=oM;simpa using this
 have e36:(op==36)=false:=by have:op≠36:=oM;simpa using this
 have e37:(op==37)=false:=by have:op≠37:=oM;simpa using this
 clear hh h;exact G9
theorem Iv(op:Int)(h:Aq op=false):A3 op=⟨0,0,0,0,0⟩:=by
 have hh:op<1\/37<op:=by unfold Aq at h;simp at h;omega
 unfold A3
 repeat rw[if_neg oM]
theorem J0(op:Int)(w:World):Calls prog 58 #[.int .i64 op] w fun e w'=>e=.returned (.tuple #[Em (A3 op),.bool (Aq op)])/\Below w.heap.size w w':=by
 by_cases h:Aq op=false
 .rw[h,Iv op h];exact QP op h w
 .have hh:1<=op/\op<=37:=by unfold Aq at h;simp at h;omega
  rw[show Aq op=true by simpa using h];clear h;by_cases k1:op=1
  .subst k1;exact ZN w
  by_cases k2:op=2
  .subst k2;exact ZO w
  by_cases k3:op=3
  .subst k3;exact ZP w
  by_cases k4:op=4
  .subst k4;exact ZQ w
  by_cases k5:op=5
  .subst k5;exact ZR w
  by_cases k6:op=6
  .subst k6;exact ZS w
  by_cases k7:op=7
  .subst k7;exact ZT w
  by_cases k8:op=8
  .subst k8;exact ZU w
  by_cases k9:op=9
  .subst k9;exact ZV w
  by_cases k10:op=10
  .subst k10;exact WC w
  by_cases k11:op=11
  .subst k11;exact WD w
  by_cases k12:op=12
  .subst k12;exact WF w
  by_cases k13:op=13
  .subst k13;exact WG w
  by_cases k14:op=14
  .subst k14;exact WH w
  by_cases k15:op=15
  .subst k15;exact WI w
  by_cases k16:op=16
  .subst k16;exact WJ w
  by_cases k17:op=17
  .subst k17;exact WK w
  by_cases k18:op=18
  .subst k18;exact WL w
  by_cases k19:op=19
  .subst k19;exact WM w
  by_cases k20:op=20
  .subst k20;exact WN w
  by_cases k21:op=21
  .subst k21;exact WO w
  by_cases k22:op=22
  .subst k22;exact WP w
  by_cases k23:op=23
  .subst k23;exact WQ w
  by_cases k24:op=24
  .subst k24;exact WR w
  by_cases k25:op=25
  .subst k25;exact WT w
  by_cases k26:op=26
  .subst k26;exact WU w
  by_cases k27:op=27
  .subst k27;exact WV w
  by_cases k28:op=28
  .subst k28;exact WW w
  by_cases k29:op=29
  .subst k29;exact WY w
  by_cases k30:op=30
  .subst k30;exact WZ w
  by_cases k31:op=31
  .subst k31;exact X4 w
  by_cases k32:op=32
  .subst k32;exact X5 w
  by_cases k33:op=33
  .subst k33;exact X6 w
  by_cases k34:op=34
  .subst k34;exact X7 w
  by_cases k35:op=35
  .subst k35;exact X8 w
  by_cases k36:op=36
  .subst k36;exact X9 w
  by_cases k37:op=37
  .subst k37;exact Xa w
  omega
theorem Xb{op:Int}(h:(A3 op).n=9):((op=29\/op=30)/\(A3 op).d=3)\/(op=31/\(A3 op).d=0/\(A3 op).a=3):=by
 have Bl:∀k:Fin 38,(A3 (k.val:Int)).n=9->k.val=29\/k.val=30\/k.val=31:=by decide+kernel
 by_cases hk:Aq op=true
 .have hh:1<=op/\op<=37:=by unfold Aq at hk;simp at hk;exact hk
  have e:((⟨op.toNat,oM⟩:Fin 38).val:Int)=op:=by show((op.toNat:Nat):Int)=op;omega
  have:=Bl ⟨op.toNat,oM⟩ (by rw[e];exact h);simp only at this;rcases this with h1|h1|h1
  .have:op=29:=oM;subst this;exact .inl ⟨.inl rfl,rfl⟩
  .have:op=30:=oM;subst this;exact .inl ⟨.inr rfl,rfl⟩
  .have:op=31:=oM;subst this;exact .inr ⟨rfl,rfl,rfl⟩
 .rw[Iv op (by simpa using hk)]at h;exact absurd h dE
theorem L6{c:Cd}{n:Int}{m:Ty}(ht:Aj c=true)(h:Ai c.regs 3 n m=true):Az (A5 c.regs n).par c.sign.length=true:=by
 unfold Ai at h;rw[if_neg dE]at h;simp only[Bool.and_eq_true]at h;obtain⟨h1,h2⟩:=h;obtain⟨k,hk,hl⟩:=E4 h1;rw[FY hk hl]at h2 |-;have hm:c.regs[k].kind=3:=by
  unfold B5 at h2;rw[if_neg dE,if_neg dE,if_pos rfl]at h2;simpa using h2
 have:=List.all_eq_true.1 ht c.regs[k] (gD hl);unfold AE at this;rw[if_neg oM,if_pos hm]at this;exact this
theorem TF{c:Cd}{i:Aa}(ht:Aj c=true)(hd:Ai c.regs (A3 i.op).d i.d (Ak c.regs i (A3 i.op))=true)(ha:Ai c.regs (A3 i.op).a i.a (Ak c.regs i (A3 i.op))=true)(h9:(A3 i.op).n=9):Az (Ak c.regs i (A3 i.op)).par c.sign.length=true:=by
 rcases Xb h9 with⟨_,e⟩|⟨_,e,e2⟩
 .rw[e]at hd;have:=L6 ht hd;unfold Ak CC;rw[e,if_neg dE];exact this
 .rw[e2]at ha;have:=L6 ht ha;unfold Ak CC;rw[e,if_pos rfl];exact this
theorem L5{c:Cd}{i:Aa}{r:Rw}(h:AN c i r=true):∀x∈Ac i r,0<=x/\x<(c.regs.length:Int):=by
 intro x hx;unfold Ac at hx;rcases List.mem_append.1 hx with hx|hx
 .by_cases e:r.a=0
  .rw[if_pos e]at hx;cases hx
  .rw[if_neg e]at hx;simp at hx;subst hx;exact Af (BR h) e
 rcases List.mem_append.1 hx with hx|hx
 .by_cases e:r.b=0
  .rw[if_pos e]at hx;cases hx
  .rw[if_neg e]at hx;simp at hx;subst hx;exact Af (E8 h) e
 .by_cases e:r.c=0
  .rw[if_pos e]at hx;cases hx
  .rw[if_neg e]at hx;simp at hx;subst hx;exact Af (E9 h) e
theorem GZ(i:Aa)(r:Rw):(Ac i r).length<=3:=by
 rw[Ip];simp only[List.length_append];have:=IW r.a i.a;have:=IW r.b i.b;have:=IW r.c i.c;omega
theorem Pf{c:Cd}{s:Wk}{i:Aa}{r:Rw}(h:Al c s i r=true)(e:i.op=35\/i.op=37):s.opens≠[]:=by
 unfold Al at h;rw[if_neg oM]at h;intro hO;rcases e with e|e
 .rw[if_pos e,hO]at h;simp at h
 .rw[if_neg oM,if_pos e]at h;unfold Ao at h;rw[hO]at h;cases h
structure TK(w:World)(H G C:Nat)(L0 L1 L2 L3 L4:Int)(v:World):Prop where
 bel:Below w.heap.size w v
 r0:v.cell? ⟨H,0,none⟩=some (.int .i64 L0)
 r1:v.cell? ⟨H,1,none⟩=some (.int .i64 L1)
 r2:v.cell? ⟨H,2,none⟩=some (.int .i64 L2)
 r3:v.cell? ⟨H,3,none⟩=some (.int .i64 L3)
 r4:v.cell? ⟨H,4,none⟩=some (.int .i64 L4)
 g0:v.cell? ⟨G,0,none⟩=some (.pointer (some ⟨C,0,none⟩))
theorem TK.next{w:World}{H G C:Nat}{L0 L1 L2 L3 L4:Int}{v v':World}(h:TK w H G C L0 L1 L2 L3 L4 v)(k:Below v.heap.size v v'):TK w H G C L0 L1 L2 L3 L4 v':=
 ⟨Go.Proofs.YtpoklpdgpcnkgaaGreat.bel h.bel k,kc k h.r0,kc k h.r1,kc k h.r2,kc k h.r3,kc k h.r4,kc k h.g0⟩
theorem Pl(E G C n gi:Nat)(vs vo:Value)(s:Wk)(v0 v1 v2 v3:Value)(c:Cd)(hk:Bb c)(b o:Nat)(i:Aa)(w:World)(h:WS E G C n gi vs vo w s)(hnn:c.regs.length=n)(ok:Eu n s)(hn:n<=16384)(hc:CP w C v0 v1 v2 v3 c)(hi:Aw w b o (De i))(hbE:b<E)(htm:Aj c=true)(hb0:0<=i.bits)(hb1:i.bits<4294967296):
 Calls prog 40 #[.pointer (some ⟨G,0,none⟩),.pointer (some ⟨b,o,none⟩)] w fun e w'=>e=.returned (.bool (Am c s i))/\Below E w w'/\(Am c s i=true->∃vs' vo',WS E G C n gi vs' vo' w' (Ad s i)):=by
 have K1:=J0 i.op w;have K2:=fun v h1 h2=>Vz C v0 v1 v2 v3 c hk b o i (A3 i.op) v h1 h2 hb0 hb1 (TF htm);have K3:=fun v h1 h2 h3=>Nq E G C n gi vs vo s v0 v1 v2 v3 c hk b o i (A3 i.op) v h1 ok.nest h2 h3;have K4:=fun v h1=>Hu b o i (A3 i.op) v h1;have K5:=fun(hf:AN c i (A3 i.op)=true) (hs:Al c s i (A3 i.op)=true) v h1 h2=>Wp E G C n gi vs vo s b o i (A3 i.op) v h1 ok hn h2 hbE (Hx hs) (Pf hs) (fun hd=>by have:=Af (Dh hf) hd;rw[hnn]at this;exact this);have KL:AN c i (A3 i.op)=true->∀x∈Ac i (A3 i.op),0<=x/\x<(n:Int):=fun hf=>by have:=L5 hf;rw[hnn]at this;exact this
 have KN:=GZ i (A3 i.op);have HC0:Hid (CP w C v0 v1 v2 v3 c):=hc;have HI0:Hid (Aw w b o (De i)):=hi;have HS0:Hid (WS E G C n gi vs vo w s):=h;have e0:=hi.at 0 rfl;rw[Nat.add_zero]at e0;have hE:=h.lt;have g0:=h.c0;unfold Am Ad;have hro:Dc s i (A3 i.op)=(Ac i (A3 i.op)).all fun n=>decide (n.toNat∈s.set):=rfl;rw[hro];obtain⟨op,hop⟩:∃x,i.op=x:=⟨_,rfl⟩
 rw[hop]at K1 K2 K3 K4 K5 KL KN e0 |-;obtain⟨r,hr⟩:=gA (A3 op)
 simp only[hr]at K1 K2 K3 K4 K5 KL KN |-;obtain⟨X0,hX0⟩:∃X,Aq op=X:=⟨_,rfl⟩
 obtain⟨X1,hX1⟩:∃X,AN c i r=X:=⟨_,rfl⟩
 obtain⟨X2,hX2⟩:∃X,Al c s i r=X:=⟨_,rfl⟩
 obtain⟨RL,hRL⟩:∃X,Ac i r=X:=⟨_,rfl⟩
 obtain⟨Z,hZ⟩:=gA (CT s i r)
 obtain⟨AL,hAL⟩:∃X,((Ac i r).all fun n=>decide (n.toNat∈s.set))=X:=⟨_,rfl⟩
 rw[hAL];simp only[hX0]at K1 |-;simp only[hX1]at K2 K5 KL |-;simp only[hX2]at K3 K5 |-;simp only[hRL]at K4 KL KN;rw[hRL]at hAL;have HAL:Hid ((RL.all fun n=>decide (n.toNat∈s.set))=AL):=hAL;simp only[hZ]at K5 |-;obtain⟨L0,L1,L2,L3,L4⟩:=r;unfold Em at K1 K2 K3 K4 K5;simp only at K1 K2 K3 K4 K5;have HK1:Hid (Calls prog 58 #[.int .i64 op] w fun e w'=>e=.returned (.tuple #[.agg #[.int .i64 L0,.int .i64 L1,.int .i64 L2,.int .i64 L3,.int .i64 L4],.bool X0])/\Below w.heap.size w w'):=K1;have HK2:Hid (∀v,CP v C v0 v1 v2 v3 c->Aw v b o (De i)->Calls prog 59 #[.pointer (some ⟨C,0,none⟩),.pointer (some ⟨b,o,none⟩),.agg #[.int .i64 L0,.int .i64 L1,.int .i64 L2,.int .i64 L3,.int .i64 L4]] v fun e w'=>e=.returned (.bool X1)/\Below v.heap.size v w'):=K2;have HK3:Hid (∀v,WS E G C n gi vs vo v s->CP v C v0 v1 v2 v3 c->Aw v b o (De i)->Calls prog 60 #[.pointer (some ⟨G,0,none⟩),.pointer (some ⟨b,o,none⟩),.agg #[.int .i64 L0,.int .i64 L1,.int .i64 L2,.int .i64 L3,.int .i64 L4]] v fun e w'=>e=.returned (.bool X2)/\Below v.heap.size v w'):=K3;have HK4:Hid (∀v,Aw v b o (De i)->Calls prog 61 #[.agg #[.int .i64 L0,.int .i64 L1,.int .i64 L2,.int .i64 L3,.int .i64 L4],.pointer (some ⟨b,o,none⟩)] v fun e w'=>∃u,e=.returned u/\w'.ownsRow v.heap.size 3 1 u RL.length (BM RL)/\Below v.heap.size v w'):=K4;have HK5:Hid (X1=true->X2=true->∀v,WS E G C n gi vs vo v s->Aw v b o (De i)->Calls prog 62 #[.pointer (some ⟨G,0,none⟩),.pointer (some ⟨b,o,none⟩),.agg #[.int .i64 L0,.int .i64 L1,.int .i64 L2,.int .i64 L3,.int .i64 L4]] v fun e w'=>e=.returned (.tuple #[])/\Below E v w'/\∃vs' vo',WS E G C n gi vs' vo' w' Z):=K5;have HKL:Hid (X1=true->∀x∈RL,0<=x/\x<(n:Int)):=KL;clear K1 K2 K3 K4 K5 KL h hc hi hk hro hop hr hX0 hX1 hX2 hRL hZ hAL hb0 hb1 htm ok hnn;cases X0
 .go_enter func40,ntmps40;go_wp2_with(go_at_call 58;refine HK1.mono ?_;rintro e w1 ⟨rfl,hw1⟩;have HT:Hid (TK w w1.heap.size G C L0 L1 L2 L3 L4 (w1.alloc (.cells #[.int .i64 L0,.int .i64 L1,.int .i64 L2,.int .i64 L3,.int .i64 L4] 123))):=Zfz);have HCX:Hid (∀v,Below (w1.alloc (.cells #[.int .i64 L0,.int .i64 L1,.int .i64 L2,.int .i64 L3,.int .i64 L4] 123)).heap.size (w1.alloc (.cells #[.int .i64 L0,.int .i64 L1,.int .i64 L2,.int .i64 L3,.int .i64 L4] 123)) v->v.cell? ⟨G,0,none⟩=some (.pointer (some ⟨C,0,none⟩))/\v.cell? ⟨w1.heap.size,0,none⟩=some (.int .i64 L0)/\v.cell? ⟨w1.heap.size,1,none⟩=some (.int .i64 L1)/\v.cell? ⟨w1.heap.size,2,none⟩=some (.int .i64 L2)/\v.cell? ⟨w1.heap.size,3,none⟩=some (.int .i64 L3)/\v.cell? ⟨w1.heap.size,4,none⟩=some (.int .i64 L4)):=fun v hv=>⟨(HT.next hv).g0,(HT.next hv).r0,(HT.next hv).r1,(HT.next hv).r2,(HT.next hv).r3,(HT.next hv).r4⟩;obtain⟨t0,t1,t2,t3,t4,t5⟩:=HCX.out _ (BT _);refine rG (fun v=>v.cell? ⟨G,0,none⟩=some (.pointer (some ⟨C,0,none⟩))/\v.cell? ⟨w1.heap.size,0,none⟩=some (.int .i64 L0)/\v.cell? ⟨w1.heap.size,1,none⟩=some (.int .i64 L1)/\v.cell? ⟨w1.heap.size,2,none⟩=some (.int .i64 L2)/\v.cell? ⟨w1.heap.size,3,none⟩=some (.int .i64 L3)/\v.cell? ⟨w1.heap.size,4,none⟩=some (.int .i64 L4)) fun yH=>?_;refine Tc 0 1 2 ?_;refine Kd 3 4 5 6 ?_;refine Kd 7 8 9 10 ?_;refine Tb 11 12 ?_;refine Kd 13 14 15 16 ?_;refine EW 17 ?_;refine BU 18 ?_;refine wpAnyH_done kR ?_ _;go_wp2;go_ret;exact⟨rfl,(bel HT.bel (A7 _)).mono hE,fun e=>absurd e sM⟩
 cases X1
 .go_enter func40,ntmps40;go_wp2_with(go_at_call 58;refine HK1.mono ?_;rintro e w1 ⟨rfl,hw1⟩;have HT:Hid (TK w w1.heap.size G C L0 L1 L2 L3 L4 (w1.alloc (.cells #[.int .i64 L0,.int .i64 L1,.int .i64 L2,.int .i64 L3,.int .i64 L4] 123))):=Zfz);have HCX:Hid (∀v,Below (w1.alloc (.cells #[.int .i64 L0,.int .i64 L1,.int .i64 L2,.int .i64 L3,.int .i64 L4] 123)).heap.size (w1.alloc (.cells #[.int .i64 L0,.int .i64 L1,.int .i64 L2,.int .i64 L3,.int .i64 L4] 123)) v->v.cell? ⟨G,0,none⟩=some (.pointer (some ⟨C,0,none⟩))/\v.cell? ⟨w1.heap.size,0,none⟩=some (.int .i64 L0)/\v.cell? ⟨w1.heap.size,1,none⟩=some (.int .i64 L1)/\v.cell? ⟨w1.heap.size,2,none⟩=some (.int .i64 L2)/\v.cell? ⟨w1.heap.size,3,none⟩=some (.int .i64 L3)/\v.cell? ⟨w1.heap.size,4,none⟩=some (.int .i64 L4)):=fun v hv=>⟨(HT.next hv).g0,(HT.next hv).r0,(HT.next hv).r1,(HT.next hv).r2,(HT.next hv).r3,(HT.next hv).r4⟩;obtain⟨t0,t1,t2,t3,t4,t5⟩:=HCX.out _ (BT _);refine rG (fun v=>v.cell? ⟨G,0,none⟩=some (.pointer (some ⟨C,0,none⟩))/\v.cell? ⟨w1.heap.size,0,none⟩=some (.int .i64 L0)/\v.cell? ⟨w1.heap.size,1,none⟩=some (.int .i64 L1)/\v.cell? ⟨w1.heap.size,2,none⟩=some (.int .i64 L2)/\v.cell? ⟨w1.heap.size,3,none⟩=some (.int .i64 L3)/\v.cell? ⟨w1.heap.size,4,none⟩=some (.int .i64 L4)) fun yH=>?_;refine Tf 0 1 2 3 4 5 ?_;refine Tc 6 7 8 ?_;clear yH;refine AJ 9 fun K hK=>?_;go_simp;(go_at_call 59;refine(HK2.out _ (HC0.below (bel HT.bel (A7 _))) (HI0.below (bel HT.bel (A7 _)))).mono ?_;rintro e w2 ⟨rfl,hw2⟩;have HB2:=bel (A7 _) hw2;obtain⟨y0,y1,y2,y3,y4,y5⟩:=HCX.out w2 HB2);try(go_wp2_with fail)
  refine AF hK fun yH=>?_;clear hK K;refine Tc 10 11 12 ?_;refine Kd 13 14 15 16 ?_;refine EW 17 ?_;refine BU 18 ?_;refine wpAnyH_done kR ?_ _;go_wp2;go_ret;exact⟨rfl,(bel HT.bel HB2).mono hE,fun e=>absurd e sM⟩
 cases X2
 .go_enter func40,ntmps40;go_wp2_with(go_at_call 58;refine HK1.mono ?_;rintro e w1 ⟨rfl,hw1⟩;have HT:Hid (TK w w1.heap.size G C L0 L1 L2 L3 L4 (w1.alloc (.cells #[.int .i64 L0,.int .i64 L1,.int .i64 L2,.int .i64 L3,.int .i64 L4] 123))):=Zfz);have HCX:Hid (∀v,Below (w1.alloc (.cells #[.int .i64 L0,.int .i64 L1,.int .i64 L2,.int .i64 L3,.int .i64 L4] 123)).heap.size (w1.alloc (.cells #[.int .i64 L0,.int .i64 L1,.int .i64 L2,.int .i64 L3,.int .i64 L4] 123)) v->v.cell? ⟨G,0,none⟩=some (.pointer (some ⟨C,0,none⟩))/\v.cell? ⟨w1.heap.size,0,none⟩=some (.int .i64 L0)/\v.cell? ⟨w1.heap.size,1,none⟩=some (.int .i64 L1)/\v.cell? ⟨w1.heap.size,2,none⟩=some (.int .i64 L2)/\v.cell? ⟨w1.heap.size,3,none⟩=some (.int .i64 L3)/\v.cell? ⟨w1.heap.size,4,none⟩=some (.int .i64 L4)):=fun v hv=>⟨(HT.next hv).g0,(HT.next hv).r0,(HT.next hv).r1,(HT.next hv).r2,(HT.next hv).r3,(HT.next hv).r4⟩;obtain⟨t0,t1,t2,t3,t4,t5⟩:=HCX.out _ (BT _);refine rG (fun v=>v.cell? ⟨G,0,none⟩=some (.pointer (some ⟨C,0,none⟩))/\v.cell? ⟨w1.heap.size,0,none⟩=some (.int .i64 L0)/\v.cell? ⟨w1.heap.size,1,none⟩=some (.int .i64 L1)/\v.cell? ⟨w1.heap.size,2,none⟩=some (.int .i64 L2)/\v.cell? ⟨w1.heap.size,3,none⟩=some (.int .i64 L3)/\v.cell? ⟨w1.heap.size,4,none⟩=some (.int .i64 L4)) fun yH=>?_;refine Tf 0 1 2 3 4 5 ?_;refine Tc 6 7 8 ?_;clear yH;refine AJ 9 fun K hK=>?_;go_simp;(go_at_call 59;refine(HK2.out _ (HC0.below (bel HT.bel (A7 _))) (HI0.below (bel HT.bel (A7 _)))).mono ?_;rintro e w2 ⟨rfl,hw2⟩;have HB2:=bel (A7 _) hw2;obtain⟨y0,y1,y2,y3,y4,y5⟩:=HCX.out w2 HB2);try(go_wp2_with fail)
  refine AF hK fun yH=>?_;clear hK K;refine Tf 10 11 12 13 14 15 ?_;clear yH;refine AJ 16 fun K hK=>?_;go_simp;(go_at_call 60;refine(HK3.out _ (HS0.below (bel HT.bel HB2)) (HC0.below (bel HT.bel HB2)) (HI0.below (bel HT.bel HB2))).mono ?_;rintro e w3 ⟨rfl,hw3⟩;have HB3:=bel HB2 hw3;obtain⟨y0,y1,y2,y3,y4,y5⟩:=HCX.out w3 HB3);try(go_wp2_with fail)
  refine AF hK fun yH=>?_;clear hK K;refine Tb 17 18 ?_;refine wpAnyH_done kR ?_ _;go_wp2;go_ret;exact⟨rfl,(bel HT.bel HB3).mono hE,fun e=>absurd e sM⟩
 go_enter func40,ntmps40;go_wp2_with(go_at_call 58;refine HK1.mono ?_;rintro e w1 ⟨rfl,hw1⟩;have HT:Hid (TK w w1.heap.size G C L0 L1 L2 L3 L4 (w1.alloc (.cells #[.int .i64 L0,.int .i64 L1,.int .i64 L2,.int .i64 L3,.int .i64 L4] 123))):=Zfz);have HCX:Hid (∀v,Below (w1.alloc (.cells #[.int .i64 L0,.int .i64 L1,.int .i64 L2,.int .i64 L3,.int .i64 L4] 123)).heap.size (w1.alloc (.cells #[.int .i64 L0,.int .i64 L1,.int .i64 L2,.int .i64 L3,.int .i64 L4] 123)) v->v.cell? ⟨G,0,none⟩=some (.pointer (some ⟨C,0,none⟩))/\v.cell? ⟨w1.heap.size,0,none⟩=some (.int .i64 L0)/\v.cell? ⟨w1.heap.size,1,none⟩=some (.int .i64 L1)/\v.cell? ⟨w1.heap.size,2,none⟩=some (.int .i64 L2)/\v.cell? ⟨w1.heap.size,3,none⟩=some (.int .i64 L3)/\v.cell? ⟨w1.heap.size,4,none⟩=some (.int .i64 L4)):=fun v hv=>⟨(HT.next hv).g0,(HT.next hv).r0,(HT.next hv).r1,(HT.next hv).r2,(HT.next hv).r3,(HT.next hv).r4⟩;obtain⟨t0,t1,t2,t3,t4,t5⟩:=HCX.out _ (BT _);refine rG (fun v=>v.cell? ⟨G,0,none⟩=some (.pointer (some ⟨C,0,none⟩))/\v.cell? ⟨w1.heap.size,0,none⟩=some (.int .i64 L0)/\v.cell? ⟨w1.heap.size,1,none⟩=some (.int .i64 L1)/\v.cell? ⟨w1.heap.size,2,none⟩=some (.int .i64 L2)/\v.cell? ⟨w1.heap.size,3,none⟩=some (.int .i64 L3)/\v.cell? ⟨w1.heap.size,4,none⟩=some (.int .i64 L4)) fun yH=>?_;refine Tf 0 1 2 3 4 5 ?_;refine Tc 6 7 8 ?_;clear yH;refine AJ 9 fun K hK=>?_;go_simp;(go_at_call 59;refine(HK2.out _ (HC0.below (bel HT.bel (A7 _))) (HI0.below (bel HT.bel (A7 _)))).mono ?_;rintro e w2 ⟨rfl,hw2⟩;have HB2:=bel (A7 _) hw2;obtain⟨y0,y1,y2,y3,y4,y5⟩:=HCX.out w2 HB2);try(go_wp2_with fail)
 refine AF hK fun yH=>?_;clear hK K;refine Tf 10 11 12 13 14 15 ?_;clear yH;refine AJ 16 fun K hK=>?_;go_simp;(go_at_call 60;refine(HK3.out _ (HS0.below (bel HT.bel HB2)) (HC0.below (bel HT.bel HB2)) (HI0.below (bel HT.bel HB2))).mono ?_;rintro e w3 ⟨rfl,hw3⟩;have HB3:=bel HB2 hw3;obtain⟨y0,y1,y2,y3,y4,y5⟩:=HCX.out w3 HB3);try(go_wp2_with fail)
 refine AF hK fun yH=>?_;clear hK K;refine Tb 17 18 ?_;refine wpAnyH_done kR ?_ _;have HT3:Hid (TK w w1.heap.size G C L0 L1 L2 L3 L4 w3):=HT.next HB3;clear HB2 HB3 hw2 hw3;go_wp2_with(go_at_call 61;refine(HK4.out _ (HI0.below HT3.bel)).mono ?_;rintro e w4 ⟨u,rfl,hu,hw4⟩;obtain⟨pu,cu,hue⟩:=AD hu;subst hue;have HU:Hid (w4.ownsRow w3.heap.size 3 1 (.slice pu RL.length cu) RL.length (BM RL)):=hu;have HT4:Hid (TK w w1.heap.size G C L0 L1 L2 L3 L4 w4):=HT3.next hw4;clear hu hw4);have HSW:Hid (WS E G C n gi vs vo w4 s):=HS0.below HT4.bel;have k0:=HT4.r0;have k1:=HT4.r1;have k2:=HT4.r2;have k3:=HT4.r3;have k4:=HT4.r4;have HFX:Hid (∀j (hj:j<RL.length),∃ (gu x:Nat),pu=some ⟨gu,0,none⟩/\w4.cell? ⟨gu,j,none⟩=some (.int .i64 (x:Int))/\x<n/\w4.cell? ⟨gi,x,none⟩=some (.bool (decide (x∈s.set)))/\decide (x∈s.set)=decide (RL[j].toNat∈s.set)):=fun j hj=>by
  obtain⟨gu,cap,hv,_,_,_,_,hcl⟩:=EN HU.out oM;simp only[Value.slice.injEq]at hv;have hx:=HKL.out fT RL[j] (gD hj);refine⟨gu,RL[j].toNat,hv.1,?_,oM,HSW.i.cell oM,rfl⟩;rw[show((RL[j].toNat:Nat):Int)=RL[j] by omega];exact hcl j _ (by simp[BM,gB hj])
 have d1:=HSW.c1;obtain⟨M,hM⟩:=gA (RL.length)
 have HM:Hid (RL.length=M):=hM;rw[hM]at KN |-;clear hM
 go_loopw [40] (fun iv wr=>wr=w4/\∃j:Nat,j<=M/\iv=.int .i64 j/\Hid (∀i (h:i<RL.length),i<j->decide (RL[i].toNat∈s.set)=true)) (fun iv _=>M-(intOf iv).toNat)
 case atStart=>exact⟨rfl,0,gI _,rfl,fun i h hi=>absurd hi (Nat.not_lt_zero _)⟩
 case round=>
  clear HT HT3 HCX t0 t1 t2 t3 t4 t5 y0 y1 y2 y3 y4 y5;obtain⟨rfl,j,hj,rfl,hp⟩:=hrel;by_cases hlt:j<M
  .have hll:j<RL.length:=by rw[HM.out];exact hlt
   obtain⟨gu,x,rfl,a1,a2,a3,a4⟩:=HFX.out j hll;have NX:Hid (decide (RL[j].toNat∈s.set)=true->∀i (h:i<RL.length),i<j+1->decide (RL[i].toNat∈s.set)=true):=fun hq i h hi=>by
    exact Zct
   have NB:Hid (decide (RL[j].toNat∈s.set)=false->(RL.all fun n=>decide (n.toNat∈s.set))=false):=fun h=>List.all_eq_false.2 ⟨RL[j],gD hll,by rw[h];decide⟩;rw[<-a4]at NX NB;have i1:(0:Int)<=(j:Int):=oM;have i2:(j:Int)<(M:Int):=oM;have i3:(0:Int)<=(x:Int):=oM;have i4:(x:Int)<(n:Int):=oM;obtain⟨Y,hY⟩:=gA (decide (x∈s.set))
   rw[hY]at NX NB a3;clear hp hY a4 HFX HU;cases Y
   .go_wp2;go_ret;have hF:AL=false:=by rw[<-HAL.out];exact NB.out fT
    exact⟨by rw[hF];rfl,HT4.bel.mono hE,fun e=>absurd e (by simp[hF])⟩
   .go_wp2;go_roundw
    case rel=>exact⟨fT,j+1,oM,gN,NX.out fT⟩
    case measure=>simp[intOf];omega
  .have:j=M:=oM;subst this;have HF:Hid ((RL.all fun n=>decide (n.toNat∈s.set))=true):=List.all_eq_true.2 fun t ht=>by
    obtain⟨i,hi,rfl⟩:=List.mem_iff_getElem.1 ht;exact hp.out i hi (by rw[<-HM.out];exact hi)
   clear hp;go_wp2_with(go_at_call 62;refine(HK5.out fT fT _ HSW.out (HI0.below HT4.bel)).mono ?_;rintro e w6 ⟨rfl,hb6,hws⟩;have HB6:Hid (Below E wr w6):=hb6;have HWS:Hid (∃vs' vo',WS E G C n gi vs' vo' w6 Z):=hws;clear hb6 hws);go_ret;exact⟨by rw[<-HAL.out,HF.out];rfl,(HT4.bel.mono hE).trans HB6.out,fun _=>HWS.out⟩
theorem ME(op:Int)(h:Aq op=false)(w:World):Calls prog 53 #[.int .i64 op] w fun e w'=>e=.returned (.tuple #[.string ⟨#[]⟩,.bool false])/\w'=w:=by
 have hh:op<1\/37<op:=by unfold Aq at h;simp at h;omega
 have e1:(op==1)=false:=by have:op≠1:=oM;simpa using this
 have e2:(op==2)=false:=by have:op≠2:=oM;simpa using this
 have e3:(op==3)=false:=by have:op≠3:=oM;simpa using this
 have e4:(op==4)=false:=by have:op≠4:=oM;simpa using this
 have e5:(op==5)=false:=by have:op≠5:=oM;simpa using this
 have e6:(op==6)=false:=by have:op≠6:=oM;simpa using this
 have e7:(op==7)=false:=by have:op≠7:=oM;simpa using this
 have e8:(op==8)=false:=by have:op≠8:=oM;simpa using this
 have e9:(op==9)=false:=by have:op≠9:=oM;simpa using this
 have e10:(op==10)=false:=by have:op≠10:=oM;simpa using this
 have e11:(op==11)=false:=by have:op≠11:=oM;simpa using this
 have e12:(op==12)=false:=by have:op≠12:=oM;simpa using this
 have e13:(op==13)=false:=by have:op≠13:=oM;simpa using this
 have e14:(op==14)=false:=by have:op≠14:=oM;simpa using this
 have e15:(op==15)=false:=by have:op≠15:=oM;simpa using this
 have e16:(op==16)=false:=by have:op≠16:=oM;simpa using this
 have e17:(op==17)=false:=by have:op≠17:=oM;simpa using this
 have e18:(op==18)=false:=by have:op≠18:=oM;simpa using this
 have e19:(op==19)=false:=by have:op≠19:=oM;simpa using this
 have e20:(op==20)=false:=by have:op≠20:=oM;simpa using this
 have e21:(op==21)=false:=by have:op≠21:=oM;simpa using this
 have e22:(op==22)=false:=by have:op≠22:=oM;simpa using this
 have e23:(op==23)=false:=by have:op≠23:=oM;simpa using this
 have e24:(op==24)=false:=by have:op≠24:=oM;simpa using this
 have e25:(op==25)=false:=by have:op≠25:=oM;simpa using this
 have e26:(op==26)=false:=by have:op≠26:=oM;simpa using this
 have e27:(op==27)=false:=by have:op≠27:=oM;simpa using this
 have e28:(op==28)=false:=by have:op≠28:=oM;simpa using this
 have e29:(op==29)=false:=by have:op≠29:=oM;simpa using this
 have e30:(op==30)=false:=by have:op≠30:=oM;simpa using this
 have e31:(op==31)=false:=by have:op≠31:=oM;simpa using this
 have e32:(op==32)=false:=by have:op≠32:=oM;simpa using this
 have e33:(op==33)=false:=by have:op≠33:=oM;simpa using this
 have e34:(op==34)=false:=by have:op≠34:=oM;simpa using this
 have e35:(op==35)=false:=by have:op≠35:=oM;simpa using this
 have e36:(op==36)=false:=by have:op≠36:=oM;simpa using this
 have e37:(op==37)=false:=by have:op≠37:=oM;simpa using this
 clear hh h;exact Ga
structure Ym(r:Rw)(a b c d e:UInt8):Prop where
 a:(a==45)=(r.d==0)
 b:(b==45)=(r.a==0)
 c:(c==45)=(r.b==0)
 d:(d==45)=(r.c==0)
theorem P0(op:Int)(w:World):(Aq op=false/\Calls prog 53 #[.int .i64 op] w fun e w'=>e=.returned (.tuple #[.string ⟨#[]⟩,.bool false])/\w'=w)\/(Aq op=true/\∃a b c d e:UInt8,Ym (A3 op) a b c d e/\∀w,Calls prog 53 #[.int .i64 op] w fun x w'=>x=.returned (.tuple #[.string ⟨#[a,b,c,d,e]⟩,.bool true])/\w'=w):=by
 by_cases h:Aq op=false
 .exact .inl ⟨h,ME op h w⟩
 .have hh:1<=op/\op<=37:=by unfold Aq at h;simp at h;omega
  refine .inr ⟨by simpa using h,?_⟩;clear h;by_cases k1:op=1
  .subst k1;exact⟨_,_,_,_,_,⟨rfl,rfl,rfl,rfl⟩,fun w=>Xd w⟩
  by_cases k2:op=2
  .subst k2;exact⟨_,_,_,_,_,⟨rfl,rfl,rfl,rfl⟩,fun w=>Xe w⟩
  by_cases k3:op=3
  .subst k3;exact⟨_,_,_,_,_,⟨rfl,rfl,rfl,rfl⟩,fun w=>Xf w⟩
  by_cases k4:op=4
  .subst k4;exact⟨_,_,_,_,_,⟨rfl,rfl,rfl,rfl⟩,fun w=>Xg w⟩
  by_cases k5:op=5
  .subst k5;exact⟨_,_,_,_,_,⟨rfl,rfl,rfl,rfl⟩,fun w=>Xh w⟩
  by_cases k6:op=6
  .subst k6;exact⟨_,_,_,_,_,⟨rfl,rfl,rfl,rfl⟩,fun w=>Xi w⟩
  by_cases k7:op=7
  .subst k7;exact⟨_,_,_,_,_,⟨rfl,rfl,rfl,rfl⟩,fun w=>Xj w⟩
  by_cases k8:op=8
  .subst k8;exact⟨_,_,_,_,_,⟨rfl,rfl,rfl,rfl⟩,fun w=>Xk w⟩
  by_cases k9:op=9
  .subst k9;exact⟨_,_,_,_,_,⟨rfl,rfl,rfl,rfl⟩,fun w=>Xl w⟩
  by_cases k10:op=10
  .subst k10;exact⟨_,_,_,_,_,⟨rfl,rfl,rfl,rfl⟩,fun w=>S4 w⟩
  by_cases k11:op=11
  .subst k11;exact⟨_,_,_,_,_,⟨rfl,rfl,rfl,rfl⟩,fun w=>S6 w⟩
  by_cases k12:op=12
  .subst k12;exact⟨_,_,_,_,_,⟨rfl,rfl,rfl,rfl⟩,fun w=>S7 w⟩
  by_cases k13:op=13
  .subst k13;exact⟨_,_,_,_,_,⟨rfl,rfl,rfl,rfl⟩,fun w=>S8 w⟩
  by_cases k14:op=14
  .subst k14;exact⟨_,_,_,_,_,⟨rfl,rfl,rfl,rfl⟩,fun w=>S9 w⟩
  by_cases k15:op=15
  .subst k15;exact⟨_,_,_,_,_,⟨rfl,rfl,rfl,rfl⟩,fun w=>Sa w⟩
  by_cases k16:op=16
  .subst k16;exact⟨_,_,_,_,_,⟨rfl,rfl,rfl,rfl⟩,fun w=>Sb w⟩
  by_cases k17:op=17
  .subst k17;exact⟨_,_,_,_,_,⟨rfl,rfl,rfl,rfl⟩,fun w=>Sc w⟩
  by_cases k18:op=18
  .subst k18;exact⟨_,_,_,_,_,⟨rfl,rfl,rfl,rfl⟩,fun w=>Sd w⟩
  by_cases k19:op=19
  .subst k19;exact⟨_,_,_,_,_,⟨rfl,rfl,rfl,rfl⟩,fun w=>Se w⟩
  by_cases k20:op=20
  .subst k20;exact⟨_,_,_,_,_,⟨rfl,rfl,rfl,rfl⟩,fun w=>Sf w⟩
  by_cases k21:op=21
  .subst k21;exact⟨_,_,_,_,_,⟨rfl,rfl,rfl,rfl⟩,fun w=>Sg w⟩
  by_cases k22:op=22
  .subst k22;exact⟨_,_,_,_,_,⟨rfl,rfl,rfl,rfl⟩,fun w=>Sh w⟩
  by_cases k23:op=23
  .subst k23;exact⟨_,_,_,_,_,⟨rfl,rfl,rfl,rfl⟩,fun w=>Si w⟩
  by_cases k24:op=24
  .subst k24;exact⟨_,_,_,_,_,⟨rfl,rfl,rfl,rfl⟩,fun w=>Sj w⟩
  by_cases k25:op=25
  .subst k25;exact⟨_,_,_,_,_,⟨rfl,rfl,rfl,rfl⟩,fun w=>Sk w⟩
  by_cases k26:op=26
  .subst k26;exact⟨_,_,_,_,_,⟨rfl,rfl,rfl,rfl⟩,fun w=>Sm w⟩
  by_cases k27:op=27
  .subst k27;exact⟨_,_,_,_,_,⟨rfl,rfl,rfl,rfl⟩,fun w=>Sn w⟩
  by_cases k28:op=28
  .subst k28;exact⟨_,_,_,_,_,⟨rfl,rfl,rfl,rfl⟩,fun w=>So w⟩
  by_cases k29:op=29
  .subst k29;exact⟨_,_,_,_,_,⟨rfl,rfl,rfl,rfl⟩,fun w=>Sp w⟩
  by_cases k30:op=30
  .subst k30;exact⟨_,_,_,_,_,⟨rfl,rfl,rfl,rfl⟩,fun w=>Sq w⟩
  by_cases k31:op=31
  .subst k31;exact⟨_,_,_,_,_,⟨rfl,rfl,rfl,rfl⟩,fun w=>Sr w⟩
  by_cases k32:op=32
  .subst k32;exact⟨_,_,_,_,_,⟨rfl,rfl,rfl,rfl⟩,fun w=>Ss w⟩
  by_cases k33:op=33
  .subst k33;exact⟨_,_,_,_,_,⟨rfl,rfl,rfl,rfl⟩,fun w=>Su w⟩
  by_cases k34:op=34
  .subst k34;exact⟨_,_,_,_,_,⟨rfl,rfl,rfl,rfl⟩,fun w=>Sv w⟩
  by_cases k35:op=35
  .subst k35;exact⟨_,_,_,_,_,⟨rfl,rfl,rfl,rfl⟩,fun w=>Sw w⟩
  by_cases k36:op=36
  .subst k36;exact⟨_,_,_,_,_,⟨rfl,rfl,rfl,rfl⟩,fun w=>Sx w⟩
  by_cases k37:op=37
  .subst k37;exact⟨_,_,_,_,_,⟨rfl,rfl,rfl,rfl⟩,fun w=>Sy w⟩
  omega
theorem Nt(a:Int)(h0:0<=a)(h1:a<4294967296):Bg a=ng a.toNat:=by
 unfold Bg ng;by_cases c:2147483648<=a
 .have e1:a/2147483648=1:=oM;have e2:a.toNat/2147483648%2=1:=oM;rw[e1,e2];rfl
 .have e1:a/2147483648=0:=oM;have e2:a.toNat/2147483648%2=0:=oM;rw[e1,e2];rfl
theorem CD(a:Int)(h0:0<=a)(h1:a<4294967296):Cf a=nan a:=by
 unfold Cf nan;by_cases c:a/8388608%256=255
 .rw[if_pos c];by_cases d:a%8388608=0
  .have:¬ (2139095040<a%2147483648):=oM;simp[d,this]
  .have:2139095040<a%2147483648:=oM;simp[d,this]
 .rw[if_neg c];have:¬ (2139095040<a%2147483648):=oM;simp[this]
theorem FV(a:Int)(h0:0<=a)(h1:a<4294967296)(h:Cf a=true):∃s t,Ieee.single.read a.toNat=.nan s t:=by
 rw[CD a h0 h1,Kt a h0]at h;exact⟨_,_,ER _ Yd⟩
theorem Eb(a:Int)(h0:0<=a)(h1:a<4294967296)(h:Ej a=true):Ieee.single.read a.toNat=.infinity (Bg a)/\Cf a=false/\nM a=0:=by
 have c:a/8388608%256=255/\a%8388608=0:=by
  unfold Ej at h;split at h
  .rename_i c;exact⟨c,by simpa using h⟩
  .cases h
 refine⟨?_,?_,?_⟩
 .rw[Nt a h0 h1];exact EQ _ (by have:=CY a h0;omega)
 .unfold Cf;simp[c]
 .unfold nM;rw[if_pos c.1]
theorem Cg(a:Int)(h0:0<=a)(h1:a<4294967296)(hi:Ej a=false)(hn:Cf a=false):
 Ieee.single.read a.toNat=.number (Bg a) (nM a).toNat (nE a)/\0<=nM a/\nM a<16777216/\-149<=nE a/\nE a<=104/\(nE a= -149\/8388608<=nM a):=by
 have c:¬ (a/8388608%256=255):=by
  intro c;unfold Ej at hi;unfold Cf at hn;rw[if_pos c]at hi hn;simp at hi hn;exact hi hn
 have hf:rg a.toNat<2139095040:=by have:=CY a h0;omega
 have hr:=CY a h0;rw[CU _ hf,Nt a h0 h1];unfold nM nE mg te;rw[if_neg c,if_neg c];by_cases d:a/8388608%256=0
 .rw[if_pos d,if_pos d,if_pos oM,show rg a.toNat/8388608-1=0 by omega,show(a%8388608).toNat=rg a.toNat by omega];exact⟨rfl,oM,oM,oM,oM,oM⟩
 .rw[if_neg d,if_neg d,if_neg oM,show(8388608+a%8388608).toNat=8388608+rg a.toNat%8388608 by omega,show -149+((rg a.toNat/8388608-1:Nat):Int)=a/8388608%256-150 by omega];exact⟨rfl,oM,oM,oM,oM,oM⟩
theorem El(s1:Bool)(m1 e1:Int)(i1 n1 s2:Bool)(m2 e2:Int)(i2 n2:Bool)(w:World):
 Calls prog 129 #[.agg #[.bool s1,.int .u64 m1,.int .i64 e1,.bool i1,.bool n1],.agg #[.bool s2,.int .u64 m2,.int .i64 e2,.bool i2,.bool n2]] w fun e w'=>e=.returned (.bool (n1||n2))/\∃o p,w'=(w.alloc o).alloc p:=by
 cases n1<;>cases n2
 all_goals(
  go_enter func129,ntmps129;go_wp2;go_ret
  exact⟨rfl,_,_,rfl⟩)
theorem CM(s:Bool):((Ieee.single.write (.infinity s):Nat):Int)=Iy s+2139095040:=by cases s<;>decide
theorem F2(a b:Int){d e:Ieee.Datum}(h:Ieee.single.read a.toNat=d)(k:Ieee.single.read b.toNat=e):Fq a b=RY ((d.product e).map Ieee.single.write):=by
 unfold Fq Ieee.Format.mul;rw[h,k]
theorem Ey(s t:Bool):(s^^t)=(s != t):=by cases s<;>cases t<;>rfl
theorem Ot(a b:Int)(h0:0<=a)(h1:a<4294967296)(g0:0<=b)(g1:b<4294967296)(h:Cf a=true\/Cf b=true):Fq a b=2143289344:=by
 rcases h with h|h
 .obtain⟨s,t,e⟩:=FV a h0 h1 h;rw[F2 a b e rfl];cases Ieee.single.read b.toNat<;>rfl
 .obtain⟨s,t,e⟩:=FV b g0 g1 h;rw[F2 a b rfl e];cases Ieee.single.read a.toNat<;>rfl
theorem L8(a:Int)(h0:0<=a)(h1:a<4294967296)(b:Int)(g0:0<=b)(g1:b<4294967296)(w:World):
 Calls prog 121 #[.int .i64 a,.int .i64 b] w fun e w'=>e=.returned (.int .i64 (Fq a b))/\Below w.heap.size w w':=by
 cases hna:Cf a
 .cases hnb:Cf b
  .cases hia:Ej a
   .obtain⟨ra,a1,a2,a3,a4,-⟩:=Cg a h0 h1 hia hna;cases hib:Ej b
    .obtain⟨rb,b1,b2,b3,b4,-⟩:=Cg b g0 g1 hib hnb;have hv:Fq a b=(Ieee.single.nearest (Bg a != Bg b) (nM a*nM b).toNat (nE a+nE b):Nat):=by
      rw[F2 a b ra rb,show(nM a*nM b).toNat=(nM a).toNat*(nM b).toNat from Int.toNat_mul a1 b1,<-Ey];rfl
     have hm:0<=nM a*nM b/\nM a*nM b<281474976710656:=by
      refine⟨Int.mul_nonneg a1 b1,?_⟩;have h1:nM a*nM b<=16777215*16777215:=Int.mul_le_mul oM oM b1 oM;omega
     have hw:IntKind.u64.wrap (nM a*nM b)=nM a*nM b:=by rw[IntKind.wrap_u64];omega
     rw[hv];clear hv ra rb;exact Zal
    .obtain⟨rb,-,b1⟩:=Eb b g0 g1 hib;by_cases hz:nM a=0
     .have hv:Fq a b=2143289344:=by rw[F2 a b ra rb,hz];rfl
      rw[hv];clear hv ra rb;exact Zal
     .have hv:Fq a b=Iy (Bg a != Bg b)+2139095040:=by
       rw[F2 a b ra rb,<-CM,<-Ey,Bool.xor_comm];have:(nM a).toNat≠0:=oM;simp only[Ieee.Datum.product,if_neg this];rfl
      rw[hv];clear hv ra rb;exact Zal
   .obtain⟨ra,-,a1⟩:=Eb a h0 h1 hia;cases hib:Ej b
    .obtain⟨rb,b1,b2,b3,b4,-⟩:=Cg b g0 g1 hib hnb;by_cases hz:nM b=0
     .have hv:Fq a b=2143289344:=by rw[F2 a b ra rb,hz];rfl
      rw[hv];clear hv ra rb;exact Zal
     .have hv:Fq a b=Iy (Bg a != Bg b)+2139095040:=by
       rw[F2 a b ra rb,<-CM,<-Ey];have:(nM b).toNat≠0:=oM;simp only[Ieee.Datum.product,if_neg this];rfl
      rw[hv];clear hv ra rb;exact Zal
    .obtain⟨rb,-,b1⟩:=Eb b g0 g1 hib;have hv:Fq a b=Iy (Bg a != Bg b)+2139095040:=by
      rw[F2 a b ra rb,<-CM,<-Ey];rfl
     rw[hv];clear hv ra rb;exact Zal
  .have hv:=Ot a b h0 h1 g0 g1 (Or.inr hnb);rw[hv];clear hv;exact Zal
 .have hv:=Ot a b h0 h1 g0 g1 (Or.inl hna);rw[hv];clear hv;exact Zal
theorem U9(n:Int)(h0: -9223372036854775808<=n)(h1:n<=9223372036854775807)(w:World):
 Calls prog 100 #[.int .i64 n] w fun e w'=>e=.returned (.int .i64 (DT n))/\w'=w:=by
 unfold DT;by_cases c:n<0
 .rw[decide_eq_true c,show n.natAbs=(-(n+1)+1).toNat by omega];exact Zek
 .rw[decide_eq_false c,show n.natAbs=n.toNat by omega];exact Zek
theorem GM(w:World)(v0 v1 v2 v3 v4:Value):(Instr.field 179 (.agg #[v0,v1,v2,v3,v4]) 4).run prog w=.ok v4 w:=by
 simp[Instr.field,run_underlying underlying179,asAgg,part,go_sem]
theorem OB(a b:Nat)(ha:a<9223372036854775808)(hb:b<9223372036854775808):bits .xor .i64 (a:Int) (b:Int)=((a^^^b:Nat):Int):=by
 have hx:a^^^b<2^63:=Nat.xor_lt_two_pow oM oM;show IntKind.i64.wrap ((BitVec.ofInt 64 (a:Int)^^^BitVec.ofInt 64 (b:Int)).toNat:Int)=_;rw[BitVec.toNat_xor,ofInt_u64 a oM,ofInt_u64 b oM,IntKind.wrap_i64];omega
theorem Kl(a b:Nat)(ha:a<9223372036854775808)(hb:b<9223372036854775808):bits .andNot .i64 (a:Int) (b:Int)=((a&&& (18446744073709551615-b):Nat):Int):=by
 have hx:a&&& (18446744073709551615-b)<=a:=Nat.and_le_left;show IntKind.i64.wrap ((BitVec.ofInt 64 (a:Int)&&& ~~~BitVec.ofInt 64 (b:Int)).toNat:Int)=_;rw[BitVec.toNat_and,BitVec.toNat_not,ofInt_u64 a oM,ofInt_u64 b oM,IntKind.wrap_i64];have e:2^64-1-b=18446744073709551615-b:=oM;rw[e];omega
theorem Rf(a:Int)(h0:0<=a)(h1:a<4294967296):bits .xor .i64 a 2147483648=if 2147483648<=a then a-2147483648 else a+2147483648:=by
 rw[<-Y7 a h0 h1,u32_xor a _ h0 h1 dE dE];obtain⟨A,rfl⟩:=Int.eq_ofNat_of_zero_le h0;exact OB A 2147483648 oM dE
theorem Fc(a:Int)(h0:0<=a)(h1:a<4294967296):bits .andNot .i64 a 2147483648=a%2147483648:=by
 rw[<-TD a h0 h1,u32_andNot a _ h0 h1 dE dE];obtain⟨A,rfl⟩:=Int.eq_ofNat_of_zero_le h0;rw[show(2147483648:Int)=((2147483648:Nat):Int)from rfl,Kl A 2147483648 oM dE,Int.toNat_natCast,Int.toNat_natCast];congr 1;apply Nat.eq_of_testBit_eq;intro i;rw[Nat.testBit_and,Nat.testBit_and];rcases Nat.lt_or_ge i 32 with c|c
 .have:∀j:Fin 32,(18446744073709551615-2147483648:Nat).testBit j.val=(4294967295-2147483648:Nat).testBit j.val:=dE;rw[this ⟨i,c⟩]
 .have:A.testBit i=false:=Nat.testBit_lt_two_pow (Nat.lt_of_lt_of_le (show A<2^32 by omega) (Nat.pow_le_pow_right dE c));rw[this,Bool.false_and,Bool.false_and]
theorem OX(a:Int)(h0:0<=a)(h1:a<4294967296)(w:World):
 Calls prog 139 #[.int .i64 a] w fun e w'=>e=.returned (.int .i64 (Kh a))/\Below w.heap.size w w':=by
 have hf:=GM;cases hna:Cf a
 .have hv:Kh a=if 2147483648<=a then a-2147483648 else a+2147483648:=by
   rw[Ov a h0 h1 (by rw[<-CD a h0 h1];exact hna)];unfold Nj;by_cases c:2147483648<=a
   .rw[if_pos c,if_pos oM];omega
   .rw[if_neg c,if_neg oM];omega
  have hx:=Rf a h0 h1;rw[hv];clear hv;generalize (if 2147483648<=a then a-2147483648 else a+2147483648)=z at *;go_enter func139,ntmps139;exact UY
 .have hv:=Ou a h0 h1 (by rw[<-CD a h0 h1];exact hna);rw[hv];clear hv;go_enter func139,ntmps139;exact UY
theorem Wt(a:Int)(h0:0<=a)(h1:a<4294967296)(w:World):
 Calls prog 140 #[.int .i64 a] w fun e w'=>e=.returned (.int .i64 (YO a))/\Below w.heap.size w w':=by
 have hm:nan (a%2147483648)=nan a:=by unfold nan;rw[Int.emod_emod_of_dvd _ (Int.dvd_refl _)]
 unfold YO Ae;rw[hm,<-CD a h0 h1];have hx:=Fc a h0 h1;have hf:=GM;cases hna:Cf a
 .rw[if_neg dE];go_enter func140,ntmps140;exact UY
 .rw[if_pos rfl];go_enter func140,ntmps140;exact UY
theorem Mi(a:Int)(h0:0<=a)(h1:a<4294967296):(ng a.toNat=true/\Bl a= -1-(rg a.toNat:Int)/\sv a.toNat= -(mv a.toNat:Int))\/(ng a.toNat=false/\Bl a=(rg a.toNat:Int)/\sv a.toNat=(mv a.toNat:Int)):=by
 have hr:=CY a h0;rw[Qx a h0 h1];by_cases c:2147483648<=a
 .left;refine⟨by simpa using c,?_,?_⟩
  .unfold Bl;rw[if_pos c];omega
  .unfold sv sg;rw[Qx a h0 h1,if_pos (by simpa using c)]
 .right;refine⟨by simpa using c,?_,?_⟩
  .unfold Bl;rw[if_neg c];omega
  .unfold sv sg;rw[Qx a h0 h1,if_neg (by simpa using c)]
theorem JM(x:Nat):mv x=0↔rg x=0:=by
 unfold mv;constructor
 .intro h;rw[<-N6 23]at h;exact UW 23 h
 .intro h;rw[h,N6]
theorem Qn(a b:Int)(h0:0<=a)(h1:a<4294967296)(g0:0<=b)(g1:b<4294967296):Bl a<Bl b↔(sv a.toNat<sv b.toNat\/(rg a.toNat=0/\rg b.toNat=0/\ng a.toNat=true/\ng b.toNat=false)):=by
 have ha:=Mi a h0 h1;have hb:=Mi b g0 g1;have m1:mv a.toNat<mv b.toNat↔rg a.toNat<rg b.toNat:=O2 23 _ _;have m2:mv b.toNat<mv a.toNat↔rg b.toNat<rg a.toNat:=O2 23 _ _;have z1:=JM a.toNat;have z2:=JM b.toNat;rcases ha with⟨p,q,r⟩|⟨p,q,r⟩<;>rcases hb with⟨p',q',r'⟩|⟨p',q',r'⟩<;>rw[p,q,r,p',q',r']<;>simp only[Bool.false_eq_true,Bool.true_eq_false,and_false,or_false,and_true]<;>omega
theorem JO(a b:Int)(h0:0<=a)(h1:a<4294967296)(g0:0<=b)(g1:b<4294967296):sv a.toNat=sv b.toNat↔(a=b\/(a%2147483648=0/\b%2147483648=0)):=by
 have hr:=CY a h0;have hs:=CY b g0;constructor
 .intro h;obtain⟨e,f⟩:=sv_inj h;rcases f with f|f
  .exact Or.inl (ZB h0 h1 g0 g1 e f)
  .right;omega
 .rintro(h|⟨h,k⟩)
  .rw[h]
  .have z1:=(JM a.toNat).2 oM;have z2:=(JM b.toNat).2 oM;unfold sv sg;rw[z1,z2];simp
theorem VC(a b:Int)(h0:0<=a)(h1:a<4294967296)(g0:0<=b)(g1:b<4294967296)(hn:nan a=false)(hm:nan b=false):JB a b=if Bl b<Bl a then b else a:=by
 unfold JB;rw[KH a b h0 g0,if_neg (by simp[hn,hm])];have hk:=Qn b a g0 g1 h0 h1;rcases Int.lt_trichotomy (sv a.toNat) (sv b.toNat)with c|c|c
 .have hne:¬ (Bl b<Bl a):=by
   exact Zeo
  rw[PR c];simp only [];rw[if_neg hne]
 .rw[PP c];simp only [];rcases(JO a b h0 h1 g0 g1).1 c with e|⟨e,f⟩
  .subst e;split<;>simp
  .unfold Bl;by_cases d1:2147483648<=a<;>by_cases d2:2147483648<=b<;>simp only[d1,d2,if_true,if_false]
   .rw[if_neg oM]
   .rw[if_neg oM]
   .rw[if_pos oM]
   .rw[if_neg oM];omega
 .rw[PQ c];simp only [];rw[if_pos (hk.2 (Or.inl c))]
theorem VB(a b:Int)(h0:0<=a)(h1:a<4294967296)(g0:0<=b)(g1:b<4294967296)(hn:nan a=false)(hm:nan b=false):Kg a b=if Bl b>Bl a then b else a:=by
 unfold Kg;rw[KH a b h0 g0,if_neg (by simp[hn,hm])];have hk:=Qn a b h0 h1 g0 g1;rcases Int.lt_trichotomy (sv a.toNat) (sv b.toNat)with c|c|c
 .rw[PR c];simp only [];rw[if_pos (show Bl b>Bl a from hk.2 (Or.inl c))]
 .rw[PP c];simp only [];rcases(JO a b h0 h1 g0 g1).1 c with e|⟨e,f⟩
  .subst e;split<;>simp
  .unfold Bl;by_cases d1:2147483648<=a<;>by_cases d2:2147483648<=b<;>simp only[d1,d2,if_true,if_false]
   .rw[if_neg oM];omega
   .rw[if_pos oM]
   .rw[if_neg oM]
   .rw[if_neg oM]
 .have hne:¬ (Bl b>Bl a):=by
   show¬ (Bl a<Bl b);exact Zeo
  rw[PQ c];simp only [];rw[if_neg hne]
theorem Tq(a b:Int)(h0:0<=a)(h1:a<4294967296)(g0:0<=b)(g1:b<4294967296)(hn:nan a=false)(hm:nan b=false):Kf a b=(decide (Bl a<Bl b)&& !((a%2147483648==0)&&(b%2147483648==0))):=by
 have h:=Tp a b h0 g0;have hk:=Qn a b h0 h1 g0 g1;have hr:=CY a h0;have hs:=CY b g0;have hz:=JO a b h0 h1 g0 g1;simp only[hn,hm,true_and]at h;rw[Bool.eq_iff_iff,h];simp only[Bool.and_eq_true,decide_eq_true_eq,Bool.not_eq_true',Bool.and_eq_false_iff,beq_eq_false_iff_ne];constructor
 .intro c;refine⟨hk.2 (Or.inl c),?_⟩;by_cases e:a%2147483648=0
  .right;intro f;have:=hz.2 (Or.inr ⟨e,f⟩);omega
  .exact Or.inl e
 .rintro⟨c,d⟩;rcases hk.1 c with e|⟨e1,e2,-,-⟩
  .exact e
  .exfalso;rcases d with d|d<;>omega
theorem EC(a b:Int)(h0:0<=a)(g0:0<=b)(h:nan a=true\/nan b=true):Kf a b=false/\feq a b=false/\JB a b=2143289344/\Kg a b=2143289344:=by
 unfold Kf feq JB Kg;rw[KH a b h0 g0,if_pos h];exact⟨rfl,rfl,rfl,rfl⟩
theorem IY(a:Int)(h0:0<=a)(h1:a<4294967296)(w:World):
 Calls prog 135 #[.int .i64 a] w fun e w'=>e=.returned (.int .i64 (Bl a))/\w'=w:=by
 have hx:=Fc a h0 h1;unfold Bl;by_cases c:2147483648<=a
 .have h2:a/2147483648=1:=oM;rw[if_pos c];go_enter func135,ntmps135;go_wp2;go_ret;exact⟨Ir oM,rfl⟩
 .have h2:a/2147483648=0:=oM;rw[if_neg c];go_enter func135,ntmps135;go_wp2;go_ret;exact⟨Ir oM,rfl⟩
theorem GC(a:Int)(h0:0<=a)(h1:a<4294967296)(w:World):
 Calls prog 151 #[.int .i64 a] w fun e w'=>e=.returned (.bool (a%2147483648==0))/\w'=w:=by
 have hx:=Fc a h0 h1;go_enter func151,ntmps151;go_wp2;go_ret;exact⟨rfl,rfl⟩
theorem GB(a:Int)(h0:0<=a)(h1:a<4294967296)(w:World):
 Calls prog 94 #[.int .i64 a] w fun e w'=>e=.returned (.int .i64 (Ae a))/\Below w.heap.size w w':=by
 have hf:=GM;unfold Ae;rw[<-CD a h0 h1];cases hna:Cf a
 .rw[if_neg dE];go_enter func94,ntmps94;exact UY
 .rw[if_pos rfl];go_enter func94,ntmps94;exact UY
theorem OW(a:Int)(h0:0<=a)(h1:a<4294967296)(b:Int)(g0:0<=b)(g1:b<4294967296)(w:World):
 Calls prog 124 #[.int .i64 a,.int .i64 b] w fun e w'=>e=.returned (.int .i64 (JB a b))/\Below w.heap.size w w':=by
 have ea:=CD a h0 h1;have eb:=CD b g0 g1;cases hna:Cf a
 .cases hnb:Cf b
  .rw[VC a b h0 h1 g0 g1 Zhj Zhi];clear ea eb;by_cases c:Bl b<Bl a
   .rw[if_pos c];go_enter func124,ntmps124;exact Zas
   .rw[if_neg c];go_enter func124,ntmps124;exact Zas
  .rw[(EC a b h0 g0 (Or.inr Zhi)).2.2.1];clear ea eb;go_enter func124,ntmps124;exact Zas
 .rw[(EC a b h0 g0 (Or.inl Zhj)).2.2.1];clear ea eb;go_enter func124,ntmps124;exact Zas
theorem Wz(a:Int)(h0:0<=a)(h1:a<4294967296)(b:Int)(g0:0<=b)(g1:b<4294967296)(w:World):
 Calls prog 145 #[.int .i64 a,.int .i64 b] w fun e w'=>e=.returned (.int .i64 (Kg a b))/\Below w.heap.size w w':=by
 have ea:=CD a h0 h1;have eb:=CD b g0 g1;cases hna:Cf a
 .cases hnb:Cf b
  .rw[VB a b h0 h1 g0 g1 Zhj Zhi];clear ea eb;by_cases c:Bl b>Bl a
   .rw[if_pos c];go_enter func145,ntmps145;exact Zas
   .rw[if_neg c];go_enter func145,ntmps145;exact Zas
  .rw[(EC a b h0 g0 (Or.inr Zhi)).2.2.2];clear ea eb;go_enter func145,ntmps145;exact Zas
 .rw[(EC a b h0 g0 (Or.inl Zhj)).2.2.2];clear ea eb;go_enter func145,ntmps145;exact Zas
theorem Ua(a:Int)(h0:0<=a)(h1:a<4294967296)(b:Int)(g0:0<=b)(g1:b<4294967296)(w:World):
 Calls prog 146 #[.int .i64 a,.int .i64 b] w fun e w'=>e=.returned (.bool (Kf a b))/\Below w.heap.size w w':=by
 have ea:=CD a h0 h1;have eb:=CD b g0 g1;cases hna:Cf a
 .cases hnb:Cf b
  .rw[Tq a b h0 h1 g0 g1 Zhj Zhi];clear ea eb;cases za:(a%2147483648==0)<;>cases zb:(b%2147483648==0)<;>simp only[Bool.and_true,Bool.and_false,Bool.not_true,Bool.not_false]
   all_goals(
    go_enter func146,ntmps146;go_wp2_with(first
     |(go_at_call 115;refine(DJ _ oM oM _).mono ?_;rintro e w' ⟨rfl,o,rfl⟩)
     |(go_at_call 129;refine(El _ _ _ _ _ _ _ _ _ _ _).mono ?_;rintro e w' ⟨rfl,o,p,rfl⟩)
     |(go_at_call 135;refine(IY _ oM oM _).mono ?_;rintro e w' ⟨rfl,rfl⟩)
     |(go_at_call 151;refine(GC _ oM oM _).mono ?_;rintro e w' ⟨rfl,rfl⟩))
    go_ret
    exact⟨rfl,gG⟩)
  .rw[(EC a b h0 g0 (Or.inr Zhi)).1];exact Zce
 .rw[(EC a b h0 g0 (Or.inl Zhj)).1];exact Zce
theorem P1(c:Int)(e0:0<=c)(e1:c<4294967296)(a:Int)(h0:0<=a)(h1:a<4294967296)(b:Int)(g0:0<=b)(g1:b<4294967296)(w:World):
 Calls prog 147 #[.int .i64 c,.int .i64 a,.int .i64 b] w fun e w'=>e=.returned (.int .i64 (Nl c a b))/\Below w.heap.size w w':=by
 have hf:=GM;unfold Nl;rw[<-CD c e0 e1];cases hn:Cf c<;>cases hz:(c%2147483648==0)<;>simp only[Bool.or_true,Bool.or_false,if_true,if_false,Bool.false_eq_true]
 all_goals(
  go_enter func147,ntmps147;go_wp2_with(first
   |(go_at_call 115;refine(DJ _ oM oM _).mono ?_;rintro e w' ⟨rfl,o,rfl⟩)
   |(go_at_call 151;refine(GC _ oM oM _).mono ?_;rintro e w' ⟨rfl,rfl⟩)
   |(go_at_call 94;refine(GB _ oM oM _).mono ?_;rintro e w1 ⟨rfl,hb1⟩))
  go_ret
  exact⟨rfl,JZ gG hb1⟩)
def rnd(x e:Int):Int:=if x=0 then 0 else(Ieee.single.nearest (decide (x<0)) x.natAbs e:Nat)
def Hj(s:Bool)(x:Int):Int:=if s then -x else x
def UC(s1:Bool)(m1 e1:Int)(s2:Bool)(m2 e2:Int):Int:=
 if e1-e2<=36 then rnd (Hj s1 (m1*2^(e1-e2).toNat)+Hj s2 m2) e2 else rnd (Hj s1 (m1*68719476736)+Hj s2 1) (e1-36)
theorem Is{s:Bool}{m m':Nat}{e e':Int}(h:m=m')(k:e=e'):Ending.returned (.int .i64 ((Ieee.single.nearest s m e:Nat):Int))=.returned (.int .i64 ((Ieee.single.nearest s m' e':Nat):Int)):=by rw[h,k]
theorem P6(s1:Bool)(m1 e1:Int)(i1 n1 s2:Bool)(m2 e2:Int)(i2 n2:Bool)(h1:0<m1)(h2:m1<16777216)(h3:0<m2)(h4:m2<16777216)(h5: -149<=e2)(h6:e2<=e1)(h7:e1<=104)(w:World):
 Calls prog 134 #[.agg #[.bool s1,.int .u64 m1,.int .i64 e1,.bool i1,.bool n1],.agg #[.bool s2,.int .u64 m2,.int .i64 e2,.bool i2,.bool n2]] w fun e w'=>e=.returned (.int .i64 (UC s1 m1 e1 s2 m2 e2))/\Below w.heap.size w w':=by
 unfold UC;by_cases c:e1-e2<=36
 .rw[if_pos c];generalize hd:e1-e2=d at *;have hd0:0<=d:=oM;obtain⟨X,hXX⟩:=gA (m1*2^d.toNat)
  have hX:0<X/\X<1152921504606846976:=by
   rw[<-hXX];have p1:(1:Int)<=2^d.toNat:=Int.pow_pos dE;have p2:(2:Int)^d.toNat<=68719476736:=by
    have h:2^d.toNat<=68719476736:=gH (Nat.pow_le_pow_right dE (show d.toNat<=36 by omega)) dE;have h':((2^d.toNat:Nat):Int)<=((68719476736:Nat):Int):=Int.ofNat_le.2 h;rw[Int.natCast_pow]at h';exact h'
   refine⟨Int.mul_pos h1 oM,?_⟩;have:=Int.mul_le_mul (show m1<=16777215 by omega) p2 oM oM;omega
  have hw:IntKind.u64.wrap (m1*2^d.toNat)=X:=by rw[hXX,IntKind.wrap_u64];omega
  rw[hXX];clear hXX;cases s1<;>cases s2<;>simp only[Hj,if_true,if_false,Bool.false_eq_true]<;>unfold rnd
  .rw[if_neg oM,decide_eq_false oM,show(X+m2).natAbs=(X+m2).toNat by omega];exact Y9
  .rcases Int.lt_trichotomy (X+ -m2) 0 with c2|c2|c2
   .rw[if_neg oM,decide_eq_true oM,show(X+ -m2).natAbs=(-(X+ -m2)).toNat by omega];exact Y9
   .exact Zdg
   .rw[if_neg oM,decide_eq_false oM,show(X+ -m2).natAbs=(X+ -m2).toNat by omega];exact Y9
  .rcases Int.lt_trichotomy (-X+m2) 0 with c2|c2|c2
   .rw[if_neg oM,decide_eq_true oM,show(-X+m2).natAbs=(-(-X+m2)).toNat by omega];exact Y9
   .exact Zdg
   .rw[if_neg oM,decide_eq_false oM,show(-X+m2).natAbs=(-X+m2).toNat by omega];exact Y9
  .rw[if_neg oM,decide_eq_true oM,show(-X+ -m2).natAbs=(-(-X+ -m2)).toNat by omega];exact Y9
 .rw[if_neg c];obtain⟨X,hXX⟩:=gA (m1*68719476736)
  have hX:68719476736<=X/\X<1152921504606846976:=oM;have hw:IntKind.u64.wrap (m1*68719476736)=X:=by rw[hXX,IntKind.wrap_u64];omega
  rw[hXX];have hX3:m1*68719476736<18446744073709551616:=oM;cases s1<;>cases s2<;>simp only[Hj,if_true,if_false,Bool.false_eq_true]<;>unfold rnd
  .rw[if_neg oM,decide_eq_false oM,show(X+1).natAbs=(X+1).toNat by omega];exact Y9
  .rw[if_neg oM,decide_eq_false oM,show(X+ -1).natAbs=(X+ -1).toNat by omega];exact Y9
  .rw[if_neg oM,decide_eq_true oM,show(-X+1).natAbs=(-(-X+1)).toNat by omega];exact Y9
  .rw[if_neg oM,decide_eq_true oM,show(-X+ -1).natAbs=(-(-X+ -1)).toNat by omega];exact Y9
def Vf(w:World)(b:Nat):Nat:=match w.cell? ⟨b,1,none⟩with
 |some (.int _ x)=>x.toNat
 |_=>0
theorem Ji(w:World)(v0 v2 v3 v4:Value)(X:Int)(t:TypeId)(p:Obj):Vf ((w.alloc (.cells #[v0,.int .u64 X,v2,v3,v4] t)).alloc p) w.heap.size=X.toNat:=by
 have:((w.alloc (.cells #[v0,.int .u64 X,v2,v3,v4] t)).alloc p).cell? ⟨w.heap.size,1,none⟩=some (.int .u64 X):=by
  simp
 unfold Vf;rw[this]
theorem ZW(s:Bool)(m e:Int)(i n:Bool)(h0:0<m)(h1:m<16777216)(e0: -149<=e)(e1:e<=104)(w:World):
 Calls prog 150 #[.agg #[.bool s,.int .u64 m,.int .i64 e,.bool i,.bool n]] w fun x w'=>(∃k:Nat,k<=23/\x=.returned (.agg #[.bool s,.int .u64 (m*2^k),.int .i64 (e-k),.bool i,.bool n])/\8388608<=m*2^k/\m*2^k<16777216)/\∃o p,w'=(w.alloc o).alloc p:=by
 go_enter func150,ntmps150;go_wp2
 go_loopw [4] (fun _ wr=>∃ (k:Nat),k<=23/\m*2^k<16777216/\wr=(w.alloc (.cells #[.bool s,.int .u64 (m*2^k),.int .i64 (e-k),.bool i,.bool n] 179)).alloc (.cells #[.bool false,.int .u64 0,.int .i64 0,.bool false,.bool false] 179)) (fun _ wr=>16777216-Vf wr w.heap.size)
 case atStart=>exact⟨0,oM,by simpa using h1,sM⟩
 case round=>
  obtain⟨k,hk,hm,rfl⟩:=hrel;have hP:(1:Int)<=2^k:=Int.pow_pos dE;have hX:0<m*2^k:=Int.mul_pos h0 oM;by_cases c:m*2^k<8388608
  .have hs:m*2^(k+1)=m*2^k*2:=by rw[Int.pow_succ,<-Int.mul_assoc]
   have HS:Hid (m*2^(k+1)=m*2^k*2):=hs;have hk23:k<=22:=by
    rcases Nat.lt_or_ge 22 k with d|d
    .exfalso;have h2:8388608<=2^k:=gH (show 8388608<=2^23 by decide) (Nat.pow_le_pow_right dE oM);have h3:((8388608:Nat):Int)<=((2^k:Nat):Int):=Int.ofNat_le.2 h2;rw[Int.natCast_pow]at h3;have h4:(1:Int)*2^k<=m*2^k:=Int.mul_le_mul_of_nonneg_right oM oM;have h5:((8388608:Nat):Int)=8388608:=rfl;have h6:(((2:Nat):Int))^k=(2:Int)^k:=rfl;omega
    .exact d
   clear hs;generalize m*2^k=X at *;go_wp2;go_roundw
   case rel=>
    refine⟨k+1,oM,?_,?_⟩
    .rw[HS.out];omega
    .rw[HS.out,show e-(k:Int)-1=e-((k+1:Nat):Int) by omega]
   case measure=>rw[Ji,Ji];omega
  .generalize hXX:m*2^k=X at *;have HX:Hid (m*2^k=X):=hXX;clear hXX;go_wp2;go_returns;exact⟨⟨k,hk,by rw[HX.out],by rw[HX.out];omega,by rw[HX.out];omega⟩,_,_,rfl⟩
def nk(m:Int):Nat:=23-m.toNat.log2
theorem EO(k:Nat):((2^k:Nat):Int)=(2:Int)^k:=Int.natCast_pow 2 k
theorem Zo(m:Int)(k:Nat)(h0:0<m)(hk:k<=23)(h:8388608<=m*2^k)(h':m*2^k<16777216):k=nk m:=by
 obtain⟨n,rfl⟩:=Int.eq_ofNat_of_zero_le (Int.le_of_lt h0);rw[<-EO,<-Int.natCast_mul]at h h';have hn:n≠0:=oM;have e:(n*2^k).log2=n.log2+k:=by
  refine(Nat.log2_eq_iff oM).2 ⟨?_,?_⟩
  .rw[Nat.pow_add];exact Nat.mul_le_mul_right _ (Nat.log2_self_le hn)
  .rw[show n.log2+k+1=n.log2+1+k by omega,Nat.pow_add];exact Nat.mul_lt_mul_of_pos_right Nat.lt_log2_self (Nat.two_pow_pos k)
 have e2:(n*2^k).log2=23:=(Nat.log2_eq_iff oM).2 ⟨oM,oM⟩;unfold nk;rw[Int.toNat_natCast];omega
theorem QV(s:Bool)(m e:Int)(i n:Bool)(h0:0<m)(h1:m<16777216)(e0: -149<=e)(e1:e<=104)(w:World):
 Calls prog 150 #[.agg #[.bool s,.int .u64 m,.int .i64 e,.bool i,.bool n]] w fun x w'=>x=.returned (.agg #[.bool s,.int .u64 (m*2^nk m),.int .i64 (e-nk m),.bool i,.bool n])/\∃o p,w'=(w.alloc o).alloc p:=by
 refine(ZW s m e i n h0 h1 e0 e1 w).mono ?_;rintro x w' ⟨⟨k,hk,rfl,ha,hb⟩,ho⟩;have:=Zo m k h0 hk ha hb;subst this;exact⟨rfl,ho⟩
theorem Fv(m:Int)(h0:0<m)(h1:m<16777216):nk m<=23/\8388608<=m*2^nk m/\m*2^nk m<16777216:=by
 obtain⟨n,rfl⟩:=Int.eq_ofNat_of_zero_le (Int.le_of_lt h0);have hn:n≠0:=oM;have hl:n.log2<24:=(Nat.log2_lt hn).2 oM;have lo:=Nat.log2_self_le hn;have hi:n<2^(n.log2+1):=Nat.lt_log2_self;unfold nk;rw[Int.toNat_natCast,<-EO,<-Int.natCast_mul];refine⟨oM,?_,?_⟩
 .have:2^n.log2*2^(23-n.log2)<=n*2^(23-n.log2):=Nat.mul_le_mul_right _ lo;rw[<-Nat.pow_add,show n.log2+(23-n.log2)=23 by omega]at this;omega
 .have:n*2^(23-n.log2)<2^(n.log2+1)*2^(23-n.log2):=Nat.mul_lt_mul_of_pos_right hi (Nat.two_pow_pos _);rw[<-Nat.pow_add,show n.log2+1+(23-n.log2)=24 by omega]at this;omega
theorem NG(a:Int)(h0:0<=a)(h1:a<4294967296)(hi:Ej a=false)(hn:Cf a=false):rg a.toNat<2139095040/\ng a.toNat=Bg a/\(mg a.toNat:Int)=nM a/\(te a.toNat:Int)=nE a+149:=by
 have h:=Cg a h0 h1 hi hn;have hf:rg a.toNat<2139095040:=by
  rcases Nat.lt_trichotomy (rg a.toNat) 2139095040 with c|c|c
  .exact c
  .rw[EQ _ c]at h;cases h.1
  .rw[ER _ c]at h;cases h.1
 rw[CU _ hf]at h;have e:=h.1;injection e with e1 e2 e3;exact⟨hf,e1,oM,oM⟩
theorem EY(a b:Int){d e:Ieee.Datum}(h:Ieee.single.read a.toNat=d)(k:Ieee.single.read b.toNat=e):Ha a b=RY ((d.quotient 25 e).map Ieee.single.write):=by
 unfold Ha Ieee.Format.div;rw[h,k];rfl
theorem Vl(p q:Nat):(2*((p:Int)*274877906944/(q:Int))+(if(p:Int)*274877906944%(q:Int)=0 then 0 else 1)).toNat=2*((p<<<38)/q)+((p<<<38)%q != 0).toNat:=by
 have e:(p:Int)*(274877906944:Int)=((p<<<38:Nat):Int):=by
  rw[Nat.shiftLeft_eq,Int.natCast_mul,EO];rfl
 rw[e,<-Int.natCast_ediv,<-Int.natCast_emod];generalize (p<<<38)/q=x;generalize (p<<<38)%q=y;have hb:(y != 0).toNat=if y=0 then 0 else 1:=by by_cases c:y=0<;>simp[c]
 rw[hb];by_cases c:y=0
 .rw[if_pos c,if_pos oM];omega
 .rw[if_neg c,if_neg oM];omega
theorem TR(M N j k r:Nat)(E F:Int)(ta tb:Nat)(hE:(ta:Int)=E+149)(hF:(tb:Int)=F+149)(hj:j<=23)(hk:k<=23)(hM:8388608<=M*2^j)(hN:8388608<=N*2^k)(hN2:N*2^k<16777216)(hNpos:0<N)
 (hnear:H7 23 (M*2^ta*2^149) (N*2^tb) r):
 r=CO 23 (-149) (2*(((M*2^j)<<<38)/(N*2^k))+(((M*2^j)<<<38)%(N*2^k) != 0).toNat) (E-j-(F-k)-39):=by
 have hq:0<N*2^k:=oM;have big:25<=(2*(((M*2^j)<<<38)/(N*2^k))+(((M*2^j)<<<38)%(N*2^k) != 0).toNat).log2:=by
  refine Lu hq (j:=24) ?_;exact gH (Nat.mul_le_mul_right _ (show N*2^k<=16777216 by omega)) (gH dE (Nat.mul_le_mul_right _ hM))
 obtain⟨s,hs⟩:∃s:Nat,(s:Int)=F-k+172:=⟨(F-k+172).toNat,oM⟩
 obtain⟨x,hx⟩:∃x:Nat,(x:Int)=E-j+321:=⟨(E-j+321).toNat,oM⟩
 have h2:=Mn (M*2^j) (N*2^k) 38 hq (E-j-(F-k)-39) big x s oM oM;refine hnear.unique h2 (Nat.mul_pos hNpos (Nat.two_pow_pos _)) (Nat.mul_pos hq (Nat.two_pow_pos s)) ?_;obtain⟨z,hz⟩:∃z:Nat,z=149:=⟨_,rfl⟩
 rw[<-hz];have e1:M*2^ta*2^z*(N*2^k*2^s)=M*N*2^(ta+z+k+s):=by
  rw[Nat.pow_add,Nat.pow_add,Nat.pow_add];grind
 have e2:M*2^j*2^x*(N*2^tb)=M*N*2^(j+x+tb):=by
  rw[Nat.pow_add,Nat.pow_add];grind
 rw[e1,e2,show ta+z+k+s=j+x+tb by omega]
theorem Vx(a b:Int)(h0:0<=a)(h1:a<4294967296)(g0:0<=b)(g1:b<4294967296)(hia:Ej a=false)(hna:Cf a=false)(hib:Ej b=false)(hnb:Cf b=false)(za:nM a≠0)(zb:nM b≠0)
 (A B:Int) (hA:nM a*2^nk (nM a)=A) (hB:nM b*2^nk (nM b)=B):
 Ha a b=(Ieee.single.nearest (Bg a != Bg b) (2*(A*274877906944/B)+(if A*274877906944%B=0 then 0 else 1)).toNat (nE a-nk (nM a)-(nE b-nk (nM b))-39):Nat):=by
 obtain⟨fa,sa,ma,ta⟩:=NG a h0 h1 hia hna;obtain⟨fb,sb,mb,tb⟩:=NG b g0 g1 hib hnb;obtain⟨-,a1,a2,a3,a4,-⟩:=Cg a h0 h1 hia hna;obtain⟨-,b1,b2,b3,b4,-⟩:=Cg b g0 g1 hib hnb;obtain⟨ka,A1,A2⟩:=Fv (nM a) oM a2;obtain⟨kb,B1,B2⟩:=Fv (nM b) oM b2;obtain⟨r,hr,hnear⟩:=YK a.toNat b.toNat fa fb oM oM;have cA:A=((mg a.toNat*2^nk (nM a):Nat):Int):=by rw[Int.natCast_mul,EO,ma,hA]
 have cB:B=((mg b.toNat*2^nk (nM b):Nat):Int):=by rw[Int.natCast_mul,EO,mb,hB]
 rw[Jl,Jl]at hnear;have Bl:=TR (mg a.toNat) (mg b.toNat) (nk (nM a)) (nk (nM b)) r (nE a) (nE b) (te a.toNat) (te b.toNat) ta tb ka kb oM oM oM oM hnear;unfold Ha;rw[hr,sa,sb,Ey];show((wd (Bg a != Bg b) r:Nat):Int)=_;rw[BO,Dz,Ca,IH,cA,cB,Vl,<-Bl]
theorem Qw(p t k n δ:Nat)(hp:1<=p)(ht:1<=t)(hk:2^p<=k)(hk2:k<2*2^p)(h:n=k*2^t+δ\/n+δ=k*2^t)(hδ:4*δ<2^t):H7 p n 1 (t*2^p+k):=by
 have hB:0<2^p:=Nat.two_pow_pos p;have v0:V p (t*2^p+k)=k*2^t:=Hm p t k oM (Or.inr hk);have v1:V p (t*2^p+k+1)=(k+1)*2^t:=by rw[Nat.add_assoc];exact Hm p t (k+1) oM (Or.inr oM)
 have e1:(k+1)*2^t=k*2^t+2^t:=by rw[Nat.add_mul,Nat.one_mul]
 have hlow:∀q,t*2^p+k=q+1->2*(V p q)+2^t<=2*(k*2^t):=by
  intro q hq;have hst:=MZ p q;rw[<-hq,v0]at hst;have:t-1<=q/2^p-1:=by
   have:t<=q/2^p:=(Nat.le_div_iff_mul_le hB).2 oM;omega
  have hle:2^(t-1)<=2^(q/2^p-1):=Nat.pow_le_pow_right dE this;have:2^t=2*2^(t-1):=by
   obtain⟨e,rfl⟩:∃e,t=e+1:=⟨t-1,oM⟩
   rw[Nat.add_sub_cancel,Nat.pow_succ,Nat.mul_comm]
  omega
 refine⟨?_,?_,?_,?_⟩
 .rw[v0,v1,e1,Nat.mul_one];omega
 .rw[v0,v1,e1,Nat.mul_one];omega
 .intro q hq;have:=hlow q hq;rw[v0,Nat.mul_one];omega
 .intro q hq;have:=hlow q hq;rw[v0,Nat.mul_one];omega
theorem Og(m:Nat)(e:Int)(x δ:Nat)(i:Int)(hm:8388608<=m)(hm2:m<16777216)(hi: -113<i)(j:Int)(hj: -149<=j)(u:Nat)(hu:(u:Int)=i-j)(hx:x=m*2^u+δ\/x+δ=m*2^u)(hδ:4*δ<2^u):
 CO 23 (-149) x j=(i+149).toNat*8388608+m:=by
 obtain⟨c,hc⟩:∃c:Nat,(c:Int)=j+149:=⟨(j+149).toNat,oM⟩
 have h1:=Gw 23 (-149) x j dE c 0 oM;have ht:(i+149).toNat=u+c:=oM;have h2:H7 23 (x*2^c) 1 ((i+149).toNat*2^23+m):=by
  refine Qw 23 (i+149).toNat m (x*2^c) (δ*2^c) dE oM oM oM ?_ ?_
  .rw[ht,Nat.pow_add,<-Nat.mul_assoc,<-Nat.add_mul];rcases hx with hx|hx
   .left;rw[hx]
   .right;rw[<-Nat.add_mul,hx]
  .rw[ht,Nat.pow_add,<-Nat.mul_assoc];exact Nat.mul_lt_mul_of_pos_right hδ (Nat.two_pow_pos c)
 exact h1.unique h2 dE dE sM
theorem J3(s:Bool)(m u:Nat):Ieee.signed s m u=Hj s ((m:Int)*2^u):=by
 unfold Ieee.signed Hj;rw[Nat.shiftLeft_eq];push_cast;rfl
theorem Dg(a b:Int){d e:Ieee.Datum}(h:Ieee.single.read a.toNat=d)(k:Ieee.single.read b.toNat=e):DZ a b=RY ((d.sum e).map Ieee.single.write):=by
 unfold DZ Ieee.Format.add;rw[h,k]
theorem GW(s:Bool)(e:Int):((Ieee.single.nearest s 0 e:Nat):Int)=Iy s:=by
 exact Zfo
theorem Pj(s1:Bool)(m1 e1:Int)(s2:Bool)(m2 e2:Int)(h1:0<m1)(h2:m1<16777216)(h3:0<m2)(h4:m2<16777216)(h5: -149<=e2)(h6:e2<=e1)(h7:e1= -149\/8388608<=m1):
 RY (((Ieee.Datum.number s1 m1.toNat e1).sum (.number s2 m2.toNat e2)).map Ieee.single.write)=UC s1 m1 e1 s2 m2 e2:=by
 simp only[Ieee.Datum.sum,Option.map_some,Ieee.Format.write];rw[show min e1 e2=e2 by omega,show(e2-e2).toNat=0 by omega,J3,J3,Int.toNat_of_nonneg oM,Int.toNat_of_nonneg oM,Int.pow_zero,Int.mul_one];have hP:(1:Int)<=2^(e1-e2).toNat:=Int.pow_pos dE;have hX:0<m1*2^(e1-e2).toNat:=Int.mul_pos h1 oM;unfold UC;by_cases c:e1-e2<=36
 .rw[if_pos c];generalize m1*2^(e1-e2).toNat=X at *;unfold rnd;by_cases z:Hj s1 X+Hj s2 m2=0
  .rw[if_pos z,if_pos z,z];have:(s1&&s2)=false:=by
    cases s1<;>cases s2<;>simp only[Hj,if_true,if_false,Bool.false_eq_true]at z<;>first|rfl|omega
   rw[this];exact GW false e2
  .rw[if_neg z,if_neg z];rfl
 .rw[if_neg c];have hm8:8388608<=m1:=oM;have hpow:(2:Int)^(e1-e2).toNat=2^(e1-e2-37).toNat*137438953472:=by
   have:(e1-e2).toNat=(e1-e2-37).toNat+37:=oM;rw[this,Int.pow_add];rfl
  have hP2:(1:Int)<=2^(e1-e2-37).toNat:=Int.pow_pos dE;have hbig:137438953472<=(2:Int)^(e1-e2).toNat:=oM;have hXbig:137438953472<=m1*2^(e1-e2).toNat:=by
   have:=Int.mul_le_mul (show(1:Int)<=m1 by omega) hbig dE oM;omega
  have hz1:¬ (Hj s1 (m1*2^(e1-e2).toNat)+Hj s2 m2=0):=by
   generalize m1*2^(e1-e2).toNat=X at *;exact Zdk
  have hz2:¬ (Hj s1 (m1*68719476736)+Hj s2 1=0):=by
   exact Zdk
  have hs1:decide (Hj s1 (m1*2^(e1-e2).toNat)+Hj s2 m2<0)=s1:=by
   generalize m1*2^(e1-e2).toNat=X at *;cases s1<;>cases s2<;>simp only[Hj,if_true,if_false,Bool.false_eq_true]<;>simp<;>omega
  have hs2:decide (Hj s1 (m1*68719476736)+Hj s2 1<0)=s1:=by
   cases s1<;>cases s2<;>simp only[Hj,if_true,if_false,Bool.false_eq_true]<;>simp<;>omega
  unfold rnd;rw[if_neg hz1,if_neg hz2,hs1,hs2,BO,BO];have r1:CO 23 (-149) (Hj s1 (m1*2^(e1-e2).toNat)+Hj s2 m2).natAbs e2=(e1+149).toNat*8388608+m1.toNat:=by
   refine Og m1.toNat 0 _ m2.toNat e1 oM oM oM e2 h5 (e1-e2).toNat oM ?_ ?_
   .have hcast:((m1.toNat*2^(e1-e2).toNat:Nat):Int)=m1*2^(e1-e2).toNat:=by
     rw[Int.natCast_mul,Int.natCast_pow,Int.toNat_of_nonneg oM];rfl
    generalize m1.toNat*2^(e1-e2).toNat=Y at *;generalize m1*2^(e1-e2).toNat=X at *;exact Zdk
   .have hcast:((2^(e1-e2).toNat:Nat):Int)=(2:Int)^(e1-e2).toNat:=Int.natCast_pow 2 _;omega
  have r2:CO 23 (-149) (Hj s1 (m1*68719476736)+Hj s2 1).natAbs (e1-36)=(e1+149).toNat*8388608+m1.toNat:=by
   refine Og m1.toNat 0 _ 1 e1 oM oM oM (e1-36) oM 36 oM ?_ dE;rw[show(2:Nat)^36=68719476736 from rfl];exact Zdk
  rw[Dz,Ca,r1,r2];rfl
theorem Gr(a:Int){d:Ieee.Datum}(h:Ieee.single.read a.toNat=d):Eg a=RY ((d.root 25).map Ieee.single.write):=by
 unfold Eg Ieee.Format.sqrt;rw[h];rfl
theorem Tr(a:Int)(h0:0<=a)(h1:a<4294967296)(hia:Ej a=false)(hna:Cf a=false)(za:nM a≠0)(hs:Bg a=false)(root n:Nat)(e:Int)(he:e%2=0)
 (hn:(n:Int)=nM a*2^nk (nM a)*68719476736/\e=nE a-nk (nM a)-36\/(n:Int)=nM a*2^nk (nM a)*68719476736*2/\e=nE a-nk (nM a)-37) (hr1:root*root<=n) (hr2:n<(root+1)*(root+1)):
 Eg a=(Ieee.single.nearest false (2*root+(if root*root<n then 1 else 0)) (e/2-1):Nat):=by
 obtain⟨fa,sa,ma,ta⟩:=NG a h0 h1 hia hna;obtain⟨-,a1,a2,a3,a4,-⟩:=Cg a h0 h1 hia hna;obtain⟨ka,A1,A2⟩:=Fv (nM a) oM a2;obtain⟨r,hr,hnear⟩:=OY a.toNat fa (by rw[sa];exact hs) oM;have hst:(root*root != n).toNat=if root*root<n then 1 else 0:=by
  by_cases c:root*root=n
  .rw[if_neg oM];simp[c]
  .rw[if_pos oM];simp[c]
 obtain⟨x,hx⟩:∃x:Nat,(x:Int)=e/2+149:=⟨(e/2+149).toNat,oM⟩
 have hn59:576460752303423488<=n:=oM;have hroot:16777216<=root:=by
  rcases Nat.lt_or_ge root 16777216 with c|c
  .exfalso;have:=Nat.mul_self_le_mul_self (show root+1<=16777216 from c);omega
  .exact c
 have big:23+2<=(2*root+(root*root != n).toNat).log2:=by
  apply(Nat.le_log2 oM).2;omega
 have h2:=Mo 23 (-149) root n (e/2-1) dE hr1 hr2 big x oM;have hval:n*(2^x*2^x)=mv a.toNat*2^149:=by
  have cA:nM a*2^nk (nM a)=((mg a.toNat*2^nk (nM a):Nat):Int):=by rw[Int.natCast_mul,EO,ma]
  rw[cA]at hn;obtain⟨z,hz⟩:∃z:Nat,z=149:=⟨_,rfl⟩
  rw[Jl,<-hz];rcases hn with⟨hn,hE⟩|⟨hn,hE⟩
  .have hn':n=mg a.toNat*2^nk (nM a)*2^36:=by
    have:(2:Nat)^36=68719476736:=rfl;omega
   exact Zfd
  .have hn':n=mg a.toNat*2^nk (nM a)*2^37:=by
    have:(2:Nat)^37=68719476736*2:=rfl;omega
   exact Zfd
 rw[hval,hst]at h2;have Bl:=hnear.unique h2;unfold Eg;rw[hr];show((wd false r:Nat):Int)=_;rw[BO,Dz,Ca,IH,<-Bl]
def rrel(n k root:Nat):Prop:=root*root<=n/\n<(root+2^k)*(root+2^k)/\root+2^k<=4294967296
def SW(k:Nat):Int:=if k=0 then 0 else 2^(k-1)
theorem T0(k:Nat):SW (k+1)=2^k:=by unfold SW;rw[if_neg oM];rfl
theorem SZ(k:Nat):(2:Int)^k/2=SW k:=by
 unfold SW;rcases Nat.eq_zero_or_pos k with c|c
 .subst c;rfl
 .rw[if_neg oM];obtain⟨j,rfl⟩:∃j,k=j+1:=⟨k-1,oM⟩
  rw[Int.pow_succ,Nat.add_sub_cancel];omega
theorem Ue(a:Int)(h0:0<=a)(h1:a<4294967296)(hia:Ej a=false)(hna:Cf a=false)(za:nM a≠0)(hs:Bg a=false)(w:World):
 Calls prog 138 #[.int .i64 a] w fun e w'=>e=.returned (.int .i64 (Eg a))/\Below w.heap.size w w':=by
 obtain⟨ra,a1,a2,a3,a4,a5⟩:=Cg a h0 h1 hia hna;obtain⟨ka,A1,A2⟩:=Fv (nM a) oM a2;obtain⟨A,hA⟩:=gA (nM a*2^nk (nM a))
 obtain⟨EA,hEA⟩:=gA (nE a-(nk (nM a):Int))
 have hv:=Tr a h0 h1 hia hna za hs;rw[hA,hEA]at hv;rw[hA]at A1 A2;have eb: -172<=EA/\EA<=104:=oM;clear ra a5;have HV:Hid (∀ (root n:Nat) (e:Int),e%2=0->((n:Int)=A*68719476736/\e=EA-36\/(n:Int)=A*68719476736*2/\e=EA-37)->root*root<=n->n<(root+1)*(root+1)->Eg a=(Ieee.single.nearest false (2*root+(if root*root<n then 1 else 0)) (e/2-1):Nat)):=fun root n e p q r s=>hv root n e p q r s;clear hv;generalize hF:Eg a=F at *;clear hF;by_cases c:EA%2=0
 .skip
  obtain⟨N,hN⟩:∃N:Int,A*68719476736=N:=⟨_,rfl⟩
  obtain⟨e,he⟩:∃e:Int,EA-36=e:=⟨_,rfl⟩
  obtain⟨E2,hE2⟩:∃E2:Int,e/2=E2:=⟨_,rfl⟩
  have hNb:576460752303423488<=N/\N<2305843009213693952:=oM;obtain⟨n,hn⟩:∃n:Nat,(n:Int)=N:=⟨N.toNat,oM⟩
  have hv2:=fun root=>HV.out root n e oM (Or.inl ⟨oM,oM⟩);rw[hE2]at hv2;have htd:e.tdiv 2=E2:=by rw[<-hE2,Int.tdiv_eq_ediv];split<;>omega
  have hodd:e.tmod 2=0:=by rw[Int.tmod_eq_emod];split<;>omega
  exact Zai
 .skip
  have hodd:(EA-36).tmod 2≠0:=by rw[Int.tmod_eq_emod];split<;>omega
  obtain⟨N,hN⟩:∃N:Int,A*68719476736*2=N:=⟨_,rfl⟩
  obtain⟨e,he⟩:∃e:Int,EA-36-1=e:=⟨_,rfl⟩
  obtain⟨E2,hE2⟩:∃E2:Int,e/2=E2:=⟨_,rfl⟩
  have hNb:576460752303423488<=N/\N<2305843009213693952:=oM;obtain⟨n,hn⟩:∃n:Nat,(n:Int)=N:=⟨N.toNat,oM⟩
  have hv2:=fun root=>HV.out root n e oM (Or.inr ⟨oM,oM⟩);rw[hE2]at hv2;have htd:e.tdiv 2=E2:=by rw[<-hE2,Int.tdiv_eq_ediv];split<;>omega
  exact Zai
theorem Ud(a:Int)(h0:0<=a)(h1:a<4294967296)(w:World):
 Calls prog 138 #[.int .i64 a] w fun e w'=>e=.returned (.int .i64 (Eg a))/\Below w.heap.size w w':=by
 cases hna:Cf a
 .cases hia:Ej a
  .by_cases za:nM a=0
   .obtain⟨ra,a1,a2,a3,a4,a5⟩:=Cg a h0 h1 hia hna;have hv:Eg a=a:=by
     rw[Gr a ra,za];have e:((Ieee.single.nearest (Bg a) 0 (nE a):Nat):Int)=Iy (Bg a):=GW _ _;show((Ieee.single.nearest (Bg a) 0 (nE a):Nat):Int)=a;rw[e];have h2:=NG a h0 h1 hia hna;have h3:=F9 a h0 h1;have h4:rg a.toNat=0:=by
      have:mg a.toNat=0:=oM;unfold mg at this;split at this<;>omega
     rw[h2.2.1,h4]at h3;unfold Iy;omega
    rw[hv];clear hv ra a5;go_enter func138,ntmps138;exact UY
   .cases hs:Bg a
    .exact Ue a h0 h1 hia hna za hs w
    .obtain⟨ra,a1,a2,a3,a4,a5⟩:=Cg a h0 h1 hia hna;have hv:Eg a=2143289344:=by
      rw[Gr a ra,hs];have:(nM a).toNat≠0:=oM;simp only[Ieee.Datum.root,if_neg this,if_true];rfl
     rw[hv];clear hv ra a5;go_enter func138,ntmps138;exact UY
  .obtain⟨ra,-,a1⟩:=Eb a h0 h1 hia;cases hs:Bg a
   .have hv:Eg a=a:=by
     rw[Gr a ra,hs];have h2:rg a.toNat=2139095040:=by
      rcases Nat.lt_trichotomy (rg a.toNat) 2139095040 with c|c|c
      .rw[CU _ c]at ra;cases ra
      .exact c
      .rw[ER _ c]at ra;cases ra
     have h3:=F9 a h0 h1;rw[<-Nt a h0 h1,hs,h2]at h3;show((Ieee.single.write (.infinity false):Nat):Int)=a;rw[CM];unfold Iy;omega
    rw[hv];clear hv ra;go_enter func138,ntmps138;exact UY
   .have hv:Eg a=2143289344:=by rw[Gr a ra,hs];rfl
    rw[hv];clear hv ra;go_enter func138,ntmps138;exact UY
 .have hv:Eg a=2143289344:=by
   obtain⟨s,t,e⟩:=FV a h0 h1 hna;rw[Gr a e];rfl
  rw[hv];clear hv;go_enter func138,ntmps138;exact UY
section
open Go.Maps (Keyed)
end
end Go.Proofs.YtpoklpdgpcnkgaaGreat
