import Derived.Test.YtheanilpbnencaaGreatSpe7
import Derived.Test.YtheanilpbnencaaGreatSpe5
import Derived.Test.YtheanilpbnencaaGreatSpe1
import Derived.Test.YtheanilpbnencaaGreatSpe2
import Derived.Laws.Externs
import Derived.Below
import Derived.Test.YtheanilpbnencaaGreatSpe4
import Derived.Handy
import Derived.Deep.Draws
import Derived.Laws.ComplexArith
import Derived.Deep.RegionHeld3
import Derived.Deep.DeepCutAuto
import Derived.Deep.OwnRows
import Derived.OwnWalk
import Derived.Deep.QuietTactic
import Derived.BigQuiet
import Derived.Deep.AppendLies
namespace Go.Proofs.YtheanilpbnencaaGreat
open Go.RowKit Go.Proofs.Tryz
set_option linter.all false
set_option maxRecDepth 100000
set_option maxHeartbeats 16000000
theorem ME(op:Int)(h:An op=false)(w:World):Calls prog 48 #[.int .i64 op] w fun e w'=>e=.returned (.tuple #[CM ⟨0,0,0,0,0⟩,.bool false])/\Below w.heap.size w w':=by
 have hh:op<1\/37<op:=by unfold An at h;simp at h;omega
 have e1:(op==1)=false:=by have:op≠1:=oM;simpa using this
 have e2:(op==2)=false:=by have:op≠2:=oM;simpa using this
 have e3:(op==3)=false:=by have:op≠3:=oM;simpa using this
 have e4:(op==4)=false:=by have:op≠4:=oM;simpa using this
 have e5:(op==5)=false:=by have:op≠5:=oM;simpa using this
 have e6:(op==6)=false:=by have:op≠6:=oM;simpa using this
 have e7:(op==7)=false:=by have:op≠7:=oM;simpa using this
 have e8:(op==8)=false:=by have:op≠8:=oM;simpa using this
 have e9:(op==9)=false:=by have:op≠9:=oM;simpa using this
 have e10:(op==10)=false:=by have:op≠10:=oM;simpa using this
 have e11:(op==11)=false:=by have:op≠11:=oM;simpa using this
 have e12:(op==12)=false:=by have:op≠12:=oM;simpa using this
 have e13:(op==13)=false:=by have:op≠13:=oM;simpa using this
 have e14:(op==14)=false:=by have:op≠14:=oM;simpa using this
 have e15:(op==15)=false:=by have:op≠15:=oM;simpa using this
 have e16:(op==16)=false:=by have:op≠16:=oM;simpa using this
 have e17:(op==17)=false:=by have:op≠17:=oM;simpa using this
 have e18:(op==18)=false:=by have:op≠18:=oM;simpa using this
 have e19:(op==19)=false:=by have:op≠19:=oM;simpa using this
 have e20:(op==20)=false:=by have:op≠20:=oM;simpa using this
 have e21:(op==21)=false:=by have:op≠21:=oM;simpa using this
 have e22:(op==22)=false:=by have:op≠22:=oM;simpa using this
 have e23:(op==23)=false:=by have:op≠23:=oM;simpa using this
 have e24:(op==24)=false:=by have:op≠24:=oM;simpa using this
 have e25:(op==25)=false:=by have:op≠25:=oM;simpa using this
 have e26:(op==26)=false:=by have:op≠26:=oM;simpa using this
 have e27:(op==27)=false:=by have:op≠27:=oM;simpa using this
 have e28:(op==28)=false:=by have:op≠28:=oM;simpa using this
 have e29:(op==29)=false:=by have:op≠29:=oM;simpa using this
 have e30:(op==30)=false:=by have:op≠30:=oM;simpa using this
 have e31:(op==31)=false:=by have:op≠31:=oM;simpa using this
 have e32:(op==32)=false:=by have:op≠32:=oM;simpa using this
 have e33:(op==33)=false:=by have:op≠33:=oM;simpa using this
 have e34:(op==34)=false:=by have:op≠34:=oM;simpa using this
 have e35:(op==35)=false:=by have:op≠35:=oM;simpa using this
 have e36:(op==36)=false:=by have:op≠36:=oM;simpa using this
 have e37:(op==37)=false:=by have:op≠37:=oM;simpa using this
 clear hh h;exact Ea
theorem FU(op:Int)(h:An op=false):A5 op=⟨0,0,0,0,0⟩:=by
 have hh:op<1\/37<op:=by unfold An at h;simp at h;omega
 unfold A5
 repeat rw[if_neg oM]
theorem Pf(op:Int)(w:World):Calls prog 48 #[.int .i64 op] w fun e w'=>e=.returned (.tuple #[CM (A5 op),.bool (An op)])/\Below w.heap.size w w':=by
 by_cases h:An op=false
 .rw[h,FU op h];exact ME op h w
 .have hh:1<=op/\op<=37:=by unfold An at h;simp at h;omega
  rw[show An op=true by simpa using h];clear h;by_cases k1:op=1
  .subst k1;exact Um w
  by_cases k2:op=2
  .subst k2;exact Uo w
  by_cases k3:op=3
  .subst k3;exact Uq w
  by_cases k4:op=4
  .subst k4;exact Ur w
  by_cases k5:op=5
  .subst k5;exact Us w
  by_cases k6:op=6
  .subst k6;exact Ut w
  by_cases k7:op=7
  .subst k7;exact Uu w
  by_cases k8:op=8
  .subst k8;exact Uv w
  by_cases k9:op=9
  .subst k9;exact Uw w
  by_cases k10:op=10
  .subst k10;exact R4 w
  by_cases k11:op=11
  .subst k11;exact R5 w
  by_cases k12:op=12
  .subst k12;exact R6 w
  by_cases k13:op=13
  .subst k13;exact R7 w
  by_cases k14:op=14
  .subst k14;exact R8 w
  by_cases k15:op=15
  .subst k15;exact R9 w
  by_cases k16:op=16
  .subst k16;exact Ra w
  by_cases k17:op=17
  .subst k17;exact Rb w
  by_cases k18:op=18
  .subst k18;exact Rc w
  by_cases k19:op=19
  .subst k19;exact Re w
  by_cases k20:op=20
  .subst k20;exact Rf w
  by_cases k21:op=21
  .subst k21;exact Rg w
  by_cases k22:op=22
  .subst k22;exact Rh w
  by_cases k23:op=23
  .subst k23;exact Ri w
  by_cases k24:op=24
  .subst k24;exact Rj w
  by_cases k25:op=25
  .subst k25;exact Rl w
  by_cases k26:op=26
  .subst k26;exact Rm w
  by_cases k27:op=27
  .subst k27;exact Rn w
  by_cases k28:op=28
  .subst k28;exact Ro w
  by_cases k29:op=29
  .subst k29;exact Rp w
  by_cases k30:op=30
  .subst k30;exact Rq w
  by_cases k31:op=31
  .subst k31;exact Rr w
  by_cases k32:op=32
  .subst k32;exact Rs w
  by_cases k33:op=33
  .subst k33;exact Rt w
  by_cases k34:op=34
  .subst k34;exact Ru w
  by_cases k35:op=35
  .subst k35;exact Rv w
  by_cases k36:op=36
  .subst k36;exact Rx w
  by_cases k37:op=37
  .subst k37;exact Ry w
  omega
theorem RD{op:Int}(h:(A5 op).n=9):((op=29\/op=30)/\(A5 op).d=3)\/(op=31/\(A5 op).d=0/\(A5 op).a=3):=by
 have BD:∀k:Fin 38,(A5 (k.val:Int)).n=9->k.val=29\/k.val=30\/k.val=31:=by decide+kernel
 by_cases hk:An op=true
 .have hh:1<=op/\op<=37:=by unfold An at hk;simp at hk;exact hk
  have e:((⟨op.toNat,oM⟩:Fin 38).val:Int)=op:=by show((op.toNat:Nat):Int)=op;omega
  have:=BD ⟨op.toNat,oM⟩ (by rw[e];exact h);simp only at this;rcases this with h1|h1|h1
  .have:op=29:=oM;subst this;exact .inl ⟨.inl rfl,rfl⟩
  .have:op=30:=oM;subst this;exact .inl ⟨.inr rfl,rfl⟩
  .have:op=31:=oM;subst this;exact .inr ⟨rfl,rfl,rfl⟩
 .rw[FU op (by simpa using hk)]at h;exact absurd h dE
theorem Hz{c:Cd}{n:Int}{m:Ty}(ht:Ad c=true)(h:A8 c.regs 3 n m=true):Ab (A7 c.regs n).par c.sign.length=true:=by
 unfold A8 at h;rw[if_neg dE]at h;simp only[Bool.and_eq_true]at h;obtain⟨h1,h2⟩:=h;obtain⟨k,hk,hl⟩:=Cp h1;rw[E3 hk hl]at h2 |-;have hm:c.regs[k].kind=3:=by
  unfold AN at h2;rw[if_neg dE,if_neg dE,if_pos rfl]at h2;simpa using h2
 have:=List.all_eq_true.1 ht c.regs[k] (gD hl);unfold Ak at this;rw[if_neg oM,if_pos hm]at this;exact this
theorem OS{c:Cd}{i:Am}(ht:Ad c=true)(hd:A8 c.regs (A5 i.op).d i.d (Ap c.regs i (A5 i.op))=true)(ha:A8 c.regs (A5 i.op).a i.a (Ap c.regs i (A5 i.op))=true)(h9:(A5 i.op).n=9):Ab (Ap c.regs i (A5 i.op)).par c.sign.length=true:=by
 rcases RD h9 with⟨_,e⟩|⟨_,e,e2⟩
 .rw[e]at hd;have:=Hz ht hd;unfold Ap Eh;rw[e,if_neg dE];exact this
 .rw[e2]at ha;have:=Hz ht ha;unfold Ap Eh;rw[e,if_pos rfl];exact this
theorem QZ{c:Cd}{i:Am}{r:Rw}(h:B0 c i r=true):∀x∈Ao i r,0<=x/\x<(c.regs.length:Int):=by
 intro x hx;unfold Ao at hx;rcases List.mem_append.1 hx with hx|hx
 .by_cases e:r.a=0
  .rw[if_pos e]at hx;cases hx
  .rw[if_neg e]at hx;simp at hx;subst hx;exact Ac (CQ h) e
 rcases List.mem_append.1 hx with hx|hx
 .by_cases e:r.b=0
  .rw[if_pos e]at hx;cases hx
  .rw[if_neg e]at hx;simp at hx;subst hx;exact Ac (EU h) e
 .by_cases e:r.c=0
  .rw[if_pos e]at hx;cases hx
  .rw[if_neg e]at hx;simp at hx;subst hx;exact Ac (EV h) e
theorem P6(i:Am)(r:Rw):(Ao i r).length<=3:=by
 rw[FN];simp only[List.length_append];have:=Gd r.a i.a;have:=Gd r.b i.b;have:=Gd r.c i.c;omega
theorem Lj{c:Cd}{s:Wk}{i:Am}{r:Rw}(h:Au c s i r=true)(e:i.op=35\/i.op=37):s.opens≠[]:=by
 unfold Au at h;rw[if_neg oM]at h;intro hO;rcases e with e|e
 .rw[if_pos e,hO]at h;simp at h
 .rw[if_neg oM,if_pos e]at h;unfold Aq at h;rw[hO]at h;cases h
structure TK(w:World)(H G C:Nat)(L0 L1 L2 L3 L4:Int)(v:World):Prop where
 bel:Below w.heap.size w v
 r0:v.cell? ⟨H,0,none⟩=some (.int .i64 L0)
 r1:v.cell? ⟨H,1,none⟩=some (.int .i64 L1)
 r2:v.cell? ⟨H,2,none⟩=some (.int .i64 L2)
 r3:v.cell? ⟨H,3,none⟩=some (.int .i64 L3)
 r4:v.cell? ⟨H,4,none⟩=some (.int .i64 L4)
 g0:v.cell? ⟨G,0,none⟩=some (.pointer (some ⟨C,0,none⟩))
theorem TK.next{w:World}{H G C:Nat}{L0 L1 L2 L3 L4:Int}{v v':World}(h:TK w H G C L0 L1 L2 L3 L4 v)(k:Below v.heap.size v v'):TK w H G C L0 L1 L2 L3 L4 v':=
 ⟨Go.Proofs.YtheanilpbnencaaGreat.bel h.bel k,kc k h.r0,kc k h.r1,kc k h.r2,kc k h.r3,kc k h.r4,kc k h.g0⟩
theorem Ln(E G C n gi:Nat)(vs vo:Value)(s:Wk)(v0 v1 v2 v3:Value)(c:Cd)(hk:AZ c)(b o:Nat)(i:Am)(w:World)(h:WS E G C n gi vs vo w s)(hnn:c.regs.length=n)(ok:D4 n s)(hn:n<=16384)(hc:B7 w C v0 v1 v2 v3 c)(hi:Ai w b o (EW i))(hbE:b<E)(htm:Ad c=true)(hb0:0<=i.bits)(hb1:i.bits<4294967296):
 Calls prog 23 #[.pointer (some ⟨G,0,none⟩),.pointer (some ⟨b,o,none⟩)] w fun e w'=>e=.returned (.bool (AF c s i))/\Below E w w'/\(AF c s i=true->∃vs' vo',WS E G C n gi vs' vo' w' (Al s i)):=by
 have K1:=Pf i.op w;have K2:=fun v h1 h2=>Qm C v0 v1 v2 v3 c hk b o i (A5 i.op) v h1 h2 hb0 hb1 (OS htm);have K3:=fun v h1 h2 h3=>Jm E G C n gi vs vo s v0 v1 v2 v3 c hk b o i (A5 i.op) v h1 ok.nest h2 h3;have K4:=fun v h1=>My b o i (A5 i.op) v h1;have K5:=fun(hf:B0 c i (A5 i.op)=true) (hs:Au c s i (A5 i.op)=true) v h1 h2=>QS E G C n gi vs vo s b o i (A5 i.op) v h1 ok hn h2 hbE (Fv hs) (Lj hs) (fun hd=>by have:=Ac (Dl hf) hd;rw[hnn]at this;exact this);have KL:B0 c i (A5 i.op)=true->∀x∈Ao i (A5 i.op),0<=x/\x<(n:Int):=fun hf=>by have:=QZ hf;rw[hnn]at this;exact this
 have KN:=P6 i (A5 i.op);have HC0:Hid (B7 w C v0 v1 v2 v3 c):=hc;have HI0:Hid (Ai w b o (EW i)):=hi;have HS0:Hid (WS E G C n gi vs vo w s):=h;have e0:=hi.at 0 rfl;rw[Nat.add_zero]at e0;have hE:=h.lt;have g0:=h.c0;unfold AF Al;have hro:EK s i (A5 i.op)=(Ao i (A5 i.op)).all fun n=>decide (n.toNat∈s.set):=rfl;rw[hro];obtain⟨op,hop⟩:∃x,i.op=x:=⟨_,rfl⟩
 rw[hop]at K1 K2 K3 K4 K5 KL KN e0 |-;obtain⟨r,hr⟩:=gA (A5 op)
 simp only[hr]at K1 K2 K3 K4 K5 KL KN |-;obtain⟨X0,hX0⟩:∃X,An op=X:=⟨_,rfl⟩
 obtain⟨X1,hX1⟩:∃X,B0 c i r=X:=⟨_,rfl⟩
 obtain⟨X2,hX2⟩:∃X,Au c s i r=X:=⟨_,rfl⟩
 obtain⟨RL,hRL⟩:∃X,Ao i r=X:=⟨_,rfl⟩
 obtain⟨Z,hZ⟩:=gA (EI s i r)
 obtain⟨AL,hAL⟩:∃X,((Ao i r).all fun n=>decide (n.toNat∈s.set))=X:=⟨_,rfl⟩
 rw[hAL];simp only[hX0]at K1 |-;simp only[hX1]at K2 K5 KL |-;simp only[hX2]at K3 K5 |-;simp only[hRL]at K4 KL KN;rw[hRL]at hAL;have HAL:Hid ((RL.all fun n=>decide (n.toNat∈s.set))=AL):=hAL;simp only[hZ]at K5 |-;obtain⟨L0,L1,L2,L3,L4⟩:=r;unfold CM at K1 K2 K3 K4 K5;simp only at K1 K2 K3 K4 K5;have HK1:Hid (Calls prog 48 #[.int .i64 op] w fun e w'=>e=.returned (.tuple #[.agg #[.int .i64 L0,.int .i64 L1,.int .i64 L2,.int .i64 L3,.int .i64 L4],.bool X0])/\Below w.heap.size w w'):=K1;have HK2:Hid (∀v,B7 v C v0 v1 v2 v3 c->Ai v b o (EW i)->Calls prog 49 #[.pointer (some ⟨C,0,none⟩),.pointer (some ⟨b,o,none⟩),.agg #[.int .i64 L0,.int .i64 L1,.int .i64 L2,.int .i64 L3,.int .i64 L4]] v fun e w'=>e=.returned (.bool X1)/\Below v.heap.size v w'):=K2;have HK3:Hid (∀v,WS E G C n gi vs vo v s->B7 v C v0 v1 v2 v3 c->Ai v b o (EW i)->Calls prog 50 #[.pointer (some ⟨G,0,none⟩),.pointer (some ⟨b,o,none⟩),.agg #[.int .i64 L0,.int .i64 L1,.int .i64 L2,.int .i64 L3,.int .i64 L4]] v fun e w'=>e=.returned (.bool X2)/\Below v.heap.size v w'):=K3;have HK4:Hid (∀v,Ai v b o (EW i)->Calls prog 51 #[.agg #[.int .i64 L0,.int .i64 L1,.int .i64 L2,.int .i64 L3,.int .i64 L4],.pointer (some ⟨b,o,none⟩)] v fun e w'=>∃u,e=.returned u/\w'.ownsRow v.heap.size 3 1 u RL.length (BK RL)/\Below v.heap.size v w'):=K4;have HK5:Hid (X1=true->X2=true->∀v,WS E G C n gi vs vo v s->Ai v b o (EW i)->Calls prog 52 #[.pointer (some ⟨G,0,none⟩),.pointer (some ⟨b,o,none⟩),.agg #[.int .i64 L0,.int .i64 L1,.int .i64 L2,.int .i64 L3,.int .i64 L4]] v fun e w'=>e=.returned (.tuple #[])/\Below E v w'/\∃vs' vo',WS E G C n gi vs' vo' w' Z):=K5;have HKL:Hid (X1=true->∀x∈RL,0<=x/\x<(n:Int)):=KL;clear K1 K2 K3 K4 K5 KL h hc hi hk hro hop hr hX0 hX1 hX2 hRL hZ hAL hb0 hb1 htm ok hnn;cases X0
 .go_enter func23,ntmps23;go_wp2_with(go_at_call 48;refine HK1.mono ?_;rintro e w1 ⟨rfl,hw1⟩;have HT:Hid (TK w w1.heap.size G C L0 L1 L2 L3 L4 (w1.alloc (.cells #[.int .i64 L0,.int .i64 L1,.int .i64 L2,.int .i64 L3,.int .i64 L4] 111))):=Xg);have HCX:Hid (∀v,Below (w1.alloc (.cells #[.int .i64 L0,.int .i64 L1,.int .i64 L2,.int .i64 L3,.int .i64 L4] 111)).heap.size (w1.alloc (.cells #[.int .i64 L0,.int .i64 L1,.int .i64 L2,.int .i64 L3,.int .i64 L4] 111)) v->v.cell? ⟨G,0,none⟩=some (.pointer (some ⟨C,0,none⟩))/\v.cell? ⟨w1.heap.size,0,none⟩=some (.int .i64 L0)/\v.cell? ⟨w1.heap.size,1,none⟩=some (.int .i64 L1)/\v.cell? ⟨w1.heap.size,2,none⟩=some (.int .i64 L2)/\v.cell? ⟨w1.heap.size,3,none⟩=some (.int .i64 L3)/\v.cell? ⟨w1.heap.size,4,none⟩=some (.int .i64 L4)):=fun v hv=>⟨(HT.next hv).g0,(HT.next hv).r0,(HT.next hv).r1,(HT.next hv).r2,(HT.next hv).r3,(HT.next hv).r4⟩;obtain⟨t0,t1,t2,t3,t4,t5⟩:=HCX.out _ (BE _);refine rG (fun v=>v.cell? ⟨G,0,none⟩=some (.pointer (some ⟨C,0,none⟩))/\v.cell? ⟨w1.heap.size,0,none⟩=some (.int .i64 L0)/\v.cell? ⟨w1.heap.size,1,none⟩=some (.int .i64 L1)/\v.cell? ⟨w1.heap.size,2,none⟩=some (.int .i64 L2)/\v.cell? ⟨w1.heap.size,3,none⟩=some (.int .i64 L3)/\v.cell? ⟨w1.heap.size,4,none⟩=some (.int .i64 L4)) fun hJ=>?_;refine Tc 0 1 2 ?_;refine Kd 3 4 5 6 ?_;refine Kd 7 8 9 10 ?_;refine Tb 11 12 ?_;refine Kd 13 14 15 16 ?_;refine Di 17 ?_;refine Bm 18 ?_;refine wpAnyH_done kR ?_ _;go_wp2;go_ret;exact⟨rfl,(bel HT.bel (A4 _)).mono hE,fun e=>absurd e sM⟩
 cases X1
 .go_enter func23,ntmps23;go_wp2_with(go_at_call 48;refine HK1.mono ?_;rintro e w1 ⟨rfl,hw1⟩;have HT:Hid (TK w w1.heap.size G C L0 L1 L2 L3 L4 (w1.alloc (.cells #[.int .i64 L0,.int .i64 L1,.int .i64 L2,.int .i64 L3,.int .i64 L4] 111))):=Xg);have HCX:Hid (∀v,Below (w1.alloc (.cells #[.int .i64 L0,.int .i64 L1,.int .i64 L2,.int .i64 L3,.int .i64 L4] 111)).heap.size (w1.alloc (.cells #[.int .i64 L0,.int .i64 L1,.int .i64 L2,.int .i64 L3,.int .i64 L4] 111)) v->v.cell? ⟨G,0,none⟩=some (.pointer (some ⟨C,0,none⟩))/\v.cell? ⟨w1.heap.size,0,none⟩=some (.int .i64 L0)/\v.cell? ⟨w1.heap.size,1,none⟩=some (.int .i64 L1)/\v.cell? ⟨w1.heap.size,2,none⟩=some (.int .i64 L2)/\v.cell? ⟨w1.heap.size,3,none⟩=some (.int .i64 L3)/\v.cell? ⟨w1.heap.size,4,none⟩=some (.int .i64 L4)):=fun v hv=>⟨(HT.next hv).g0,(HT.next hv).r0,(HT.next hv).r1,(HT.next hv).r2,(HT.next hv).r3,(HT.next hv).r4⟩;obtain⟨t0,t1,t2,t3,t4,t5⟩:=HCX.out _ (BE _);refine rG (fun v=>v.cell? ⟨G,0,none⟩=some (.pointer (some ⟨C,0,none⟩))/\v.cell? ⟨w1.heap.size,0,none⟩=some (.int .i64 L0)/\v.cell? ⟨w1.heap.size,1,none⟩=some (.int .i64 L1)/\v.cell? ⟨w1.heap.size,2,none⟩=some (.int .i64 L2)/\v.cell? ⟨w1.heap.size,3,none⟩=some (.int .i64 L3)/\v.cell? ⟨w1.heap.size,4,none⟩=some (.int .i64 L4)) fun hJ=>?_;refine Tf 0 1 2 3 4 5 ?_;refine Tc 6 7 8 ?_;clear hJ;refine AC 9 fun K hK=>?_;go_simp;(go_at_call 49;refine(HK2.out _ (HC0.below (bel HT.bel (A4 _))) (HI0.below (bel HT.bel (A4 _)))).mono ?_;rintro e w2 ⟨rfl,hw2⟩;have HB2:=bel (A4 _) hw2;obtain⟨y0,y1,y2,y3,y4,y5⟩:=HCX.out w2 HB2);try(go_wp2_with fail)
  refine AB hK fun hJ=>?_;clear hK K;refine Tc 10 11 12 ?_;refine Kd 13 14 15 16 ?_;refine Di 17 ?_;refine Bm 18 ?_;refine wpAnyH_done kR ?_ _;go_wp2;go_ret;exact⟨rfl,(bel HT.bel HB2).mono hE,fun e=>absurd e sM⟩
 cases X2
 .go_enter func23,ntmps23;go_wp2_with(go_at_call 48;refine HK1.mono ?_;rintro e w1 ⟨rfl,hw1⟩;have HT:Hid (TK w w1.heap.size G C L0 L1 L2 L3 L4 (w1.alloc (.cells #[.int .i64 L0,.int .i64 L1,.int .i64 L2,.int .i64 L3,.int .i64 L4] 111))):=Xg);have HCX:Hid (∀v,Below (w1.alloc (.cells #[.int .i64 L0,.int .i64 L1,.int .i64 L2,.int .i64 L3,.int .i64 L4] 111)).heap.size (w1.alloc (.cells #[.int .i64 L0,.int .i64 L1,.int .i64 L2,.int .i64 L3,.int .i64 L4] 111)) v->v.cell? ⟨G,0,none⟩=some (.pointer (some ⟨C,0,none⟩))/\v.cell? ⟨w1.heap.size,0,none⟩=some (.int .i64 L0)/\v.cell? ⟨w1.heap.size,1,none⟩=some (.int .i64 L1)/\v.cell? ⟨w1.heap.size,2,none⟩=some (.int .i64 L2)/\v.cell? ⟨w1.heap.size,3,none⟩=some (.int .i64 L3)/\v.cell? ⟨w1.heap.size,4,none⟩=some (.int .i64 L4)):=fun v hv=>⟨(HT.next hv).g0,(HT.next hv).r0,(HT.next hv).r1,(HT.next hv).r2,(HT.next hv).r3,(HT.next hv).r4⟩;obtain⟨t0,t1,t2,t3,t4,t5⟩:=HCX.out _ (BE _);refine rG (fun v=>v.cell? ⟨G,0,none⟩=some (.pointer (some ⟨C,0,none⟩))/\v.cell? ⟨w1.heap.size,0,none⟩=some (.int .i64 L0)/\v.cell? ⟨w1.heap.size,1,none⟩=some (.int .i64 L1)/\v.cell? ⟨w1.heap.size,2,none⟩=some (.int .i64 L2)/\v.cell? ⟨w1.heap.size,3,none⟩=some (.int .i64 L3)/\v.cell? ⟨w1.heap.size,4,none⟩=some (.int .i64 L4)) fun hJ=>?_;refine Tf 0 1 2 3 4 5 ?_;refine Tc 6 7 8 ?_;clear hJ;refine AC 9 fun K hK=>?_;go_simp;(go_at_call 49;refine(HK2.out _ (HC0.below (bel HT.bel (A4 _))) (HI0.below (bel HT.bel (A4 _)))).mono ?_;rintro e w2 ⟨rfl,hw2⟩;have HB2:=bel (A4 _) hw2;obtain⟨y0,y1,y2,y3,y4,y5⟩:=HCX.out w2 HB2);try(go_wp2_with fail)
  refine AB hK fun hJ=>?_;clear hK K;refine Tf 10 11 12 13 14 15 ?_;clear hJ;refine AC 16 fun K hK=>?_;go_simp;(go_at_call 50;refine(HK3.out _ (HS0.below (bel HT.bel HB2)) (HC0.below (bel HT.bel HB2)) (HI0.below (bel HT.bel HB2))).mono ?_;rintro e w3 ⟨rfl,hw3⟩;have HB3:=bel HB2 hw3;obtain⟨y0,y1,y2,y3,y4,y5⟩:=HCX.out w3 HB3);try(go_wp2_with fail)
  refine AB hK fun hJ=>?_;clear hK K;refine Tb 17 18 ?_;refine wpAnyH_done kR ?_ _;go_wp2;go_ret;exact⟨rfl,(bel HT.bel HB3).mono hE,fun e=>absurd e sM⟩
 go_enter func23,ntmps23;go_wp2_with(go_at_call 48;refine HK1.mono ?_;rintro e w1 ⟨rfl,hw1⟩;have HT:Hid (TK w w1.heap.size G C L0 L1 L2 L3 L4 (w1.alloc (.cells #[.int .i64 L0,.int .i64 L1,.int .i64 L2,.int .i64 L3,.int .i64 L4] 111))):=Xg);have HCX:Hid (∀v,Below (w1.alloc (.cells #[.int .i64 L0,.int .i64 L1,.int .i64 L2,.int .i64 L3,.int .i64 L4] 111)).heap.size (w1.alloc (.cells #[.int .i64 L0,.int .i64 L1,.int .i64 L2,.int .i64 L3,.int .i64 L4] 111)) v->v.cell? ⟨G,0,none⟩=some (.pointer (some ⟨C,0,none⟩))/\v.cell? ⟨w1.heap.size,0,none⟩=some (.int .i64 L0)/\v.cell? ⟨w1.heap.size,1,none⟩=some (.int .i64 L1)/\v.cell? ⟨w1.heap.size,2,none⟩=some (.int .i64 L2)/\v.cell? ⟨w1.heap.size,3,none⟩=some (.int .i64 L3)/\v.cell? ⟨w1.heap.size,4,none⟩=some (.int .i64 L4)):=fun v hv=>⟨(HT.next hv).g0,(HT.next hv).r0,(HT.next hv).r1,(HT.next hv).r2,(HT.next hv).r3,(HT.next hv).r4⟩;obtain⟨t0,t1,t2,t3,t4,t5⟩:=HCX.out _ (BE _);refine rG (fun v=>v.cell? ⟨G,0,none⟩=some (.pointer (some ⟨C,0,none⟩))/\v.cell? ⟨w1.heap.size,0,none⟩=some (.int .i64 L0)/\v.cell? ⟨w1.heap.size,1,none⟩=some (.int .i64 L1)/\v.cell? ⟨w1.heap.size,2,none⟩=some (.int .i64 L2)/\v.cell? ⟨w1.heap.size,3,none⟩=some (.int .i64 L3)/\v.cell? ⟨w1.heap.size,4,none⟩=some (.int .i64 L4)) fun hJ=>?_;refine Tf 0 1 2 3 4 5 ?_;refine Tc 6 7 8 ?_;clear hJ;refine AC 9 fun K hK=>?_;go_simp;(go_at_call 49;refine(HK2.out _ (HC0.below (bel HT.bel (A4 _))) (HI0.below (bel HT.bel (A4 _)))).mono ?_;rintro e w2 ⟨rfl,hw2⟩;have HB2:=bel (A4 _) hw2;obtain⟨y0,y1,y2,y3,y4,y5⟩:=HCX.out w2 HB2);try(go_wp2_with fail)
 refine AB hK fun hJ=>?_;clear hK K;refine Tf 10 11 12 13 14 15 ?_;clear hJ;refine AC 16 fun K hK=>?_;go_simp;(go_at_call 50;refine(HK3.out _ (HS0.below (bel HT.bel HB2)) (HC0.below (bel HT.bel HB2)) (HI0.below (bel HT.bel HB2))).mono ?_;rintro e w3 ⟨rfl,hw3⟩;have HB3:=bel HB2 hw3;obtain⟨y0,y1,y2,y3,y4,y5⟩:=HCX.out w3 HB3);try(go_wp2_with fail)
 refine AB hK fun hJ=>?_;clear hK K;refine Tb 17 18 ?_;refine wpAnyH_done kR ?_ _;have HT3:Hid (TK w w1.heap.size G C L0 L1 L2 L3 L4 w3):=HT.next HB3;clear HB2 HB3 hw2 hw3;go_wp2_with(go_at_call 51;refine(HK4.out _ (HI0.below HT3.bel)).mono ?_;rintro e w4 ⟨u,rfl,hu,hw4⟩;obtain⟨pu,cu,hue⟩:=At hu;subst hue;have HU:Hid (w4.ownsRow w3.heap.size 3 1 (.slice pu RL.length cu) RL.length (BK RL)):=hu;have HT4:Hid (TK w w1.heap.size G C L0 L1 L2 L3 L4 w4):=HT3.next hw4;clear hu hw4);have HSW:Hid (WS E G C n gi vs vo w4 s):=HS0.below HT4.bel;have k0:=HT4.r0;have k1:=HT4.r1;have k2:=HT4.r2;have k3:=HT4.r3;have k4:=HT4.r4;have HFX:Hid (∀j (hj:j<RL.length),∃ (gu x:Nat),pu=some ⟨gu,0,none⟩/\w4.cell? ⟨gu,j,none⟩=some (.int .i64 (x:Int))/\x<n/\w4.cell? ⟨gi,x,none⟩=some (.bool (decide (x∈s.set)))/\decide (x∈s.set)=decide (RL[j].toNat∈s.set)):=fun j hj=>by
  obtain⟨gu,cap,hv,_,_,_,_,hcl⟩:=EH HU.out oM;simp only[Value.slice.injEq]at hv;have hx:=HKL.out fT RL[j] (gD hj);refine⟨gu,RL[j].toNat,hv.1,?_,oM,HSW.i.cell oM,rfl⟩;rw[show((RL[j].toNat:Nat):Int)=RL[j] by omega];exact hcl j _ (by simp[BK,gB hj])
 have d1:=HSW.c1;obtain⟨M,hM⟩:=gA (RL.length)
 have HM:Hid (RL.length=M):=hM;rw[hM]at KN |-;clear hM
 go_loopw [40] (fun iv wr=>wr=w4/\∃j:Nat,j<=M/\iv=.int .i64 j/\Hid (∀i (h:i<RL.length),i<j->decide (RL[i].toNat∈s.set)=true)) (fun iv _=>M-(intOf iv).toNat)
 case atStart=>exact⟨rfl,0,gI _,rfl,fun i h hi=>absurd hi (Nat.not_lt_zero _)⟩
 case round=>
  clear HT HT3 HCX t0 t1 t2 t3 t4 t5 y0 y1 y2 y3 y4 y5;obtain⟨rfl,j,hj,rfl,hp⟩:=hrel;by_cases hlt:j<M
  .have hll:j<RL.length:=by rw[HM.out];exact hlt
   obtain⟨gu,x,rfl,a1,a2,a3,a4⟩:=HFX.out j hll;have NX:Hid (decide (RL[j].toNat∈s.set)=true->∀i (h:i<RL.length),i<j+1->decide (RL[i].toNat∈s.set)=true):=fun hq i h hi=>by
    exact V8
   have NB:Hid (decide (RL[j].toNat∈s.set)=false->(RL.all fun n=>decide (n.toNat∈s.set))=false):=fun h=>List.all_eq_false.2 ⟨RL[j],gD hll,by rw[h];decide⟩;rw[<-a4]at NX NB;have i1:(0:Int)<=(j:Int):=oM;have i2:(j:Int)<(M:Int):=oM;have i3:(0:Int)<=(x:Int):=oM;have i4:(x:Int)<(n:Int):=oM;obtain⟨Y,hY⟩:=gA (decide (x∈s.set))
   rw[hY]at NX NB a3;clear hp hY a4 HFX HU;cases Y
   .go_wp2;go_ret;have hF:AL=false:=by rw[<-HAL.out];exact NB.out fT
    exact⟨by rw[hF];rfl,HT4.bel.mono hE,fun e=>absurd e (by simp[hF])⟩
   .go_wp2;go_roundw
    case rel=>exact⟨fT,j+1,oM,gN,NX.out fT⟩
    case measure=>simp[intOf];omega
  .have:j=M:=oM;subst this;have HF:Hid ((RL.all fun n=>decide (n.toNat∈s.set))=true):=List.all_eq_true.2 fun t ht=>by
    obtain⟨i,hi,rfl⟩:=List.mem_iff_getElem.1 ht;exact hp.out i hi (by rw[<-HM.out];exact hi)
   clear hp;go_wp2_with(go_at_call 52;refine(HK5.out fT fT _ HSW.out (HI0.below HT4.bel)).mono ?_;rintro e w6 ⟨rfl,hb6,hws⟩;have HB6:Hid (Below E wr w6):=hb6;have HWS:Hid (∃vs' vo',WS E G C n gi vs' vo' w6 Z):=hws;clear hb6 hws);go_ret;exact⟨by rw[<-HAL.out,HF.out];rfl,(HT4.bel.mono hE).trans HB6.out,fun _=>HWS.out⟩
theorem IY(op:Int)(h:An op=false)(w:World):Calls prog 62 #[.int .i64 op] w fun e w'=>e=.returned (.tuple #[.string ⟨#[]⟩,.bool false])/\w'=w:=by
 have hh:op<1\/37<op:=by unfold An at h;simp at h;omega
 have e1:(op==1)=false:=by have:op≠1:=oM;simpa using this
 have e2:(op==2)=false:=by have:op≠2:=oM;simpa using this
 have e3:(op==3)=false:=by have:op≠3:=oM;simpa using this
 have e4:(op==4)=false:=by have:op≠4:=oM;simpa using this
 have e5:(op==5)=false:=by have:op≠5:=oM;simpa using this
 have e6:(op==6)=false:=by have:op≠6:=oM;simpa using this
 have e7:(op==7)=false:=by have:op≠7:=oM;simpa using this
 have e8:(op==8)=false:=by have:op≠8:=oM;simpa using this
 have e9:(op==9)=false:=by have:op≠9:=oM;simpa using this
 have e10:(op==10)=false:=by have:op≠10:=oM;simpa using this
 have e11:(op==11)=false:=by have:op≠11:=oM;simpa using this
 have e12:(op==12)=false:=by have:op≠12:=oM;simpa using this
 have e13:(op==13)=false:=by have:op≠13:=oM;simpa using this
 have e14:(op==14)=false:=by have:op≠14:=oM;simpa using this
 have e15:(op==15)=false:=by have:op≠15:=oM;simpa using this
 have e16:(op==16)=false:=by have:op≠16:=oM;simpa using this
 have e17:(op==17)=false:=by have:op≠17:=oM;simpa using this
 have e18:(op==18)=false:=by have:op≠18:=oM;simpa using this
 have e19:(op==19)=false:=by have:op≠19:=oM;simpa using this
 have e20:(op==20)=false:=by have:op≠20:=oM;simpa using this
 have e21:(op==21)=false:=by have:op≠21:=oM;simpa using this
 have e22:(op==22)=false:=by have:op≠22:=oM;simpa using this
 have e23:(op==23)=false:=by have:op≠23:=oM;simpa using this
 have e24:(op==24)=false:=by have:op≠24:=oM;simpa using this
 have e25:(op==25)=false:=by have:op≠25:=oM;simpa using this
 have e26:(op==26)=false:=by have:op≠26:=oM;simpa using this
 have e27:(op==27)=false:=by have:op≠27:=oM;simpa using this
 have e28:(op==28)=false:=by have:op≠28:=oM;simpa using this
 have e29:(op==29)=false:=by have:op≠29:=oM;simpa using this
 have e30:(op==30)=false:=by have:op≠30:=oM;simpa using this
 have e31:(op==31)=false:=by have:op≠31:=oM;simpa using this
 have e32:(op==32)=false:=by have:op≠32:=oM;simpa using this
 have e33:(op==33)=false:=by have:op≠33:=oM;simpa using this
 have e34:(op==34)=false:=by have:op≠34:=oM;simpa using this
 have e35:(op==35)=false:=by have:op≠35:=oM;simpa using this
 have e36:(op==36)=false:=by have:op≠36:=oM;simpa using this
 have e37:(op==37)=false:=by have:op≠37:=oM;simpa using this
 clear hh h;exact Eb
structure SH(r:Rw)(a b c d e:UInt8):Prop where
 a:(a==45)=(r.d==0)
 b:(b==45)=(r.a==0)
 c:(c==45)=(r.b==0)
 d:(d==45)=(r.c==0)
theorem KK(op:Int)(w:World):(An op=false/\Calls prog 62 #[.int .i64 op] w fun e w'=>e=.returned (.tuple #[.string ⟨#[]⟩,.bool false])/\w'=w)\/(An op=true/\∃a b c d e:UInt8,SH (A5 op) a b c d e/\∀w,Calls prog 62 #[.int .i64 op] w fun x w'=>x=.returned (.tuple #[.string ⟨#[a,b,c,d,e]⟩,.bool true])/\w'=w):=by
 by_cases h:An op=false
 .exact .inl ⟨h,IY op h w⟩
 .have hh:1<=op/\op<=37:=by unfold An at h;simp at h;omega
  refine .inr ⟨by simpa using h,?_⟩;clear h;by_cases k1:op=1
  .subst k1;exact⟨_,_,_,_,_,⟨rfl,rfl,rfl,rfl⟩,fun w=>RF w⟩
  by_cases k2:op=2
  .subst k2;exact⟨_,_,_,_,_,⟨rfl,rfl,rfl,rfl⟩,fun w=>RG w⟩
  by_cases k3:op=3
  .subst k3;exact⟨_,_,_,_,_,⟨rfl,rfl,rfl,rfl⟩,fun w=>RH w⟩
  by_cases k4:op=4
  .subst k4;exact⟨_,_,_,_,_,⟨rfl,rfl,rfl,rfl⟩,fun w=>RI w⟩
  by_cases k5:op=5
  .subst k5;exact⟨_,_,_,_,_,⟨rfl,rfl,rfl,rfl⟩,fun w=>RJ w⟩
  by_cases k6:op=6
  .subst k6;exact⟨_,_,_,_,_,⟨rfl,rfl,rfl,rfl⟩,fun w=>RK w⟩
  by_cases k7:op=7
  .subst k7;exact⟨_,_,_,_,_,⟨rfl,rfl,rfl,rfl⟩,fun w=>RM w⟩
  by_cases k8:op=8
  .subst k8;exact⟨_,_,_,_,_,⟨rfl,rfl,rfl,rfl⟩,fun w=>RN w⟩
  by_cases k9:op=9
  .subst k9;exact⟨_,_,_,_,_,⟨rfl,rfl,rfl,rfl⟩,fun w=>RO w⟩
  by_cases k10:op=10
  .subst k10;exact⟨_,_,_,_,_,⟨rfl,rfl,rfl,rfl⟩,fun w=>ND w⟩
  by_cases k11:op=11
  .subst k11;exact⟨_,_,_,_,_,⟨rfl,rfl,rfl,rfl⟩,fun w=>NE w⟩
  by_cases k12:op=12
  .subst k12;exact⟨_,_,_,_,_,⟨rfl,rfl,rfl,rfl⟩,fun w=>NF w⟩
  by_cases k13:op=13
  .subst k13;exact⟨_,_,_,_,_,⟨rfl,rfl,rfl,rfl⟩,fun w=>NG w⟩
  by_cases k14:op=14
  .subst k14;exact⟨_,_,_,_,_,⟨rfl,rfl,rfl,rfl⟩,fun w=>NH w⟩
  by_cases k15:op=15
  .subst k15;exact⟨_,_,_,_,_,⟨rfl,rfl,rfl,rfl⟩,fun w=>NI w⟩
  by_cases k16:op=16
  .subst k16;exact⟨_,_,_,_,_,⟨rfl,rfl,rfl,rfl⟩,fun w=>NJ w⟩
  by_cases k17:op=17
  .subst k17;exact⟨_,_,_,_,_,⟨rfl,rfl,rfl,rfl⟩,fun w=>NK w⟩
  by_cases k18:op=18
  .subst k18;exact⟨_,_,_,_,_,⟨rfl,rfl,rfl,rfl⟩,fun w=>NL w⟩
  by_cases k19:op=19
  .subst k19;exact⟨_,_,_,_,_,⟨rfl,rfl,rfl,rfl⟩,fun w=>NM w⟩
  by_cases k20:op=20
  .subst k20;exact⟨_,_,_,_,_,⟨rfl,rfl,rfl,rfl⟩,fun w=>NO w⟩
  by_cases k21:op=21
  .subst k21;exact⟨_,_,_,_,_,⟨rfl,rfl,rfl,rfl⟩,fun w=>NP w⟩
  by_cases k22:op=22
  .subst k22;exact⟨_,_,_,_,_,⟨rfl,rfl,rfl,rfl⟩,fun w=>NQ w⟩
  by_cases k23:op=23
  .subst k23;exact⟨_,_,_,_,_,⟨rfl,rfl,rfl,rfl⟩,fun w=>NR w⟩
  by_cases k24:op=24
  .subst k24;exact⟨_,_,_,_,_,⟨rfl,rfl,rfl,rfl⟩,fun w=>NS w⟩
  by_cases k25:op=25
  .subst k25;exact⟨_,_,_,_,_,⟨rfl,rfl,rfl,rfl⟩,fun w=>NT w⟩
  by_cases k26:op=26
  .subst k26;exact⟨_,_,_,_,_,⟨rfl,rfl,rfl,rfl⟩,fun w=>NU w⟩
  by_cases k27:op=27
  .subst k27;exact⟨_,_,_,_,_,⟨rfl,rfl,rfl,rfl⟩,fun w=>NV w⟩
  by_cases k28:op=28
  .subst k28;exact⟨_,_,_,_,_,⟨rfl,rfl,rfl,rfl⟩,fun w=>NY w⟩
  by_cases k29:op=29
  .subst k29;exact⟨_,_,_,_,_,⟨rfl,rfl,rfl,rfl⟩,fun w=>NZ w⟩
  by_cases k30:op=30
  .subst k30;exact⟨_,_,_,_,_,⟨rfl,rfl,rfl,rfl⟩,fun w=>O0 w⟩
  by_cases k31:op=31
  .subst k31;exact⟨_,_,_,_,_,⟨rfl,rfl,rfl,rfl⟩,fun w=>O1 w⟩
  by_cases k32:op=32
  .subst k32;exact⟨_,_,_,_,_,⟨rfl,rfl,rfl,rfl⟩,fun w=>O2 w⟩
  by_cases k33:op=33
  .subst k33;exact⟨_,_,_,_,_,⟨rfl,rfl,rfl,rfl⟩,fun w=>O3 w⟩
  by_cases k34:op=34
  .subst k34;exact⟨_,_,_,_,_,⟨rfl,rfl,rfl,rfl⟩,fun w=>O4 w⟩
  by_cases k35:op=35
  .subst k35;exact⟨_,_,_,_,_,⟨rfl,rfl,rfl,rfl⟩,fun w=>O5 w⟩
  by_cases k36:op=36
  .subst k36;exact⟨_,_,_,_,_,⟨rfl,rfl,rfl,rfl⟩,fun w=>O6 w⟩
  by_cases k37:op=37
  .subst k37;exact⟨_,_,_,_,_,⟨rfl,rfl,rfl,rfl⟩,fun w=>O7 w⟩
  omega
theorem Gz(n:Nat)(h:n<2^31):n^^^2^31=2^31+n:=by
 apply Nat.eq_of_testBit_eq;intro i;rw[Nat.testBit_xor,Nat.testBit_two_pow];rcases Nat.lt_trichotomy i 31 with c|c|c
 .rw[Nat.testBit_two_pow_add_gt c,decide_eq_false (show¬ (31=i) by omega),Bool.xor_false]
 .subst c;rw[Nat.testBit_two_pow_add_eq];simp
 .have e1:n.testBit i=false:=Nat.testBit_lt_two_pow (Nat.lt_of_lt_of_le h (Nat.pow_le_pow_right dE oM));have e2:(2^31+n).testBit i=false:=Nat.testBit_lt_two_pow (Nat.lt_of_lt_of_le (show 2^31+n<2^32 by omega) (Nat.pow_le_pow_right dE oM));rw[e1,e2,decide_eq_false (show¬ (31=i) by omega),Bool.xor_false]
theorem Sv(a:Int)(h0:0<=a)(h1:a<4294967296):bits .xor .u32 a 2147483648=if 2147483648<=a then a-2147483648 else a+2147483648:=by
 rw[u32_xor a _ h0 h1 dE dE,show(2147483648:Int).toNat=2^31 from rfl];by_cases c:2147483648<=a
 .rw[if_pos c];have e:=Gz (a.toNat-2^31) oM;rw[show 2^31+(a.toNat-2^31)=a.toNat by omega]at e;rw[<-e,Nat.xor_assoc,Nat.xor_self,Nat.xor_zero];omega
 .rw[if_neg c,Gz _ oM];omega
theorem Ql(n:Int):0<=Ff n/\Ff n<4294967296:=⟨Int.natCast_nonneg _,by have:=Ieee.single.write_lt (.number (decide (n<0)) n.natAbs 0);exact Int.ofNat_lt.2 this⟩
section
variable {P : Program} (w : World)
end
theorem KG(a:Nat)(ha:rg a<2139095040)(hs:ng a=false)(h0:mg a≠0):
 ∃r,Ieee.single.sqrt a=some (wd false r)/\Gs 23 (mv a*2^149) r:=by
 unfold Ieee.Format.sqrt;rw[BB a ha,hs];simp only[Ieee.Datum.root,if_neg h0,Bool.false_eq_true,if_false,Option.map_some,Ieee.Format.write];rw[B9,Cr,Bo];have hl:(mg a).log2<=23:=by
  have:(mg a).log2<24:=(Nat.log2_lt h0).2 (Qz a);omega
 generalize hi:(-149+(te a:Int))=i;generalize hm1:2*(23+2)-(mg a).log2=more1;generalize hmore:more1+((i-(more1:Int))%2).toNat=more;have hpar:(i-(more:Int))%2=0:=oM;have hmo:27<=more/\more<=51:=oM;generalize hn:mg a<<<more=n at *;have hlo:2^(mg a).log2<=mg a:=Nat.log2_self_le h0;have hn50:2^50<=n:=by
  rw[<-hn,Nat.shiftLeft_eq]
  calc 2^50<=2^((mg a).log2+more):=Nat.pow_le_pow_right dE oM
   _=2^(mg a).log2*2^more:=Nat.pow_add ..
   _<=mg a*2^more:=Nat.mul_le_mul_right _ hlo
 have hrt:=Gg n (n.log2/2+1) 0 oM (by
  have:n<2^(n.log2+1):=Nat.lt_log2_self;rw[Nat.zero_add,<-Nat.pow_add]
  exact Nat.lt_of_lt_of_le this (Nat.pow_le_pow_right dE oM))
 generalize Ieee.Datum.rootFrom n (n.log2/2+1) 0=w at *;have hw:2^24<=w:=by
  rcases Nat.lt_or_ge w (2^24)with c|c
  .exfalso;have:=Nat.mul_self_le_mul_self (show w+1<=2^24 from c);have e:(2:Nat)^24*2^24<2^50:=dE;omega
  .exact c
 have big:23+2<=(2*w+(w*w != n).toNat).log2:=by
  apply(Nat.le_log2 oM).2;omega
 refine⟨_,rfl,?_⟩;obtain⟨x,hx⟩:∃x:Nat,(x:Int)=(i-(more:Int))/2+149:=⟨((i-(more:Int))/2+149).toNat,oM⟩
 have hnr:=IQ 23 (-149) w n ((i-(more:Int))/2-1) dE hrt.1 hrt.2 big x oM;have e:n*(2^x*2^x)=mv a*2^149:=by
  rw[Gy,<-hn,Nat.shiftLeft_eq,<-Nat.pow_add,Nat.mul_assoc,Nat.mul_assoc,<-Nat.pow_add,<-Nat.pow_add];congr 2;omega
 rw[e]at hnr;exact hnr
section
variable {P : Program} (w : World)
end
theorem Dj(a b:Int):compare a b=if a<b then .lt else if a=b then .eq else .gt:=rfl
theorem LU{a b:Int}(h:a<b):compare a b=.lt:=by rw[Dj,if_pos h]
theorem LR{a b:Int}(h:a=b):compare a b=.eq:=by rw[Dj,if_neg oM,if_pos h]
theorem LS{a b:Int}(h:b<a):compare a b=.gt:=by rw[Dj,if_neg oM,if_neg oM]
theorem Ov(a b p:Int)(hp:0<p):compare (a*p) (b*p)=compare a b:=by
 rw[Dj,Dj];have h1:a*p<b*p↔a<b:=Int.mul_lt_mul_right hp;have h2:a*p=b*p↔a=b:=⟨fun h=>Int.eq_of_mul_eq_mul_right oM h,fun h=>by rw[h]⟩
 simp only[h1,h2]
theorem Jo{x:Nat}(h:rg x=2139095040):mv x=V 23 2139095040:=by unfold mv;rw[h]
theorem Vp{x:Nat}(h:rg x<2139095040):mv x<V 23 2139095040:=G6 23 h
theorem Sm{x:Nat}(h:rg x<2139095040): -(V 23 2139095040:Int)<sv x/\sv x<(V 23 2139095040:Int):=by
 have:=Vp h;unfold sv sg;split<;>omega
theorem QO(x y:Nat):Ieee.single.order x y=if 2139095040<rg x\/2139095040<rg y then none else some (compare (sv x) (sv y)):=by
 unfold Ieee.Format.order;have hV:0<V 23 2139095040:=by have:=G6 23 (show 0<2139095040 by decide);omega
 rcases Nat.lt_trichotomy (rg x) 2139095040 with c|c|c
 .rcases Nat.lt_trichotomy (rg y) 2139095040 with d|d|d
  .rw[BB x c,BB y d,if_neg oM];simp only[Ieee.Datum.order];have hm:min (-149+(te x:Int)) (-149+(te y:Int))= -149+((min (te x) (te y):Nat):Int):=oM;rw[hm];have e1:(-149+(te x:Int)-(-149+((min (te x) (te y):Nat):Int))).toNat=te x-min (te x) (te y):=oM;have e2:(-149+(te y:Int)-(-149+((min (te x) (te y):Nat):Int))).toNat=te y-min (te x) (te y):=oM;rw[e1,e2];generalize hc:min (te x) (te y)=m;have s1:Ieee.signed (ng x) (mg x) (te x-m)*(2:Int)^m=sv x:=by
    rw[I8,show te x-m+m=te x by omega,<-Gy];rfl
   have s2:Ieee.signed (ng y) (mg y) (te y-m)*(2:Int)^m=sv y:=by
    rw[I8,show te y-m+m=te y by omega,<-Gy];rfl
   rw[<-s1,<-s2,Ov _ _ _ (Int.pow_pos dE)]
  .rw[BB x c,Dd y d,if_neg oM];simp only[Ieee.Datum.order];have h:=Sm c;have e:sv y=sg (ng y) (V 23 2139095040):=by unfold sv;rw[Jo d]
   rw[e,Dj];cases ng y
   .rw[if_neg dE,if_pos VZ]
   .rw[if_pos rfl,if_neg VZ,if_neg VZ]
  .rw[De y d,BB x c,if_pos (Or.inr d)];rfl
 .rcases Nat.lt_trichotomy (rg y) 2139095040 with d|d|d
  .rw[Dd x c,BB y d,if_neg oM];simp only[Ieee.Datum.order];have h:=Sm d;have e:sv x=sg (ng x) (V 23 2139095040):=by unfold sv;rw[Jo c]
   rw[e,Dj];cases ng x
   .rw[if_neg dE,if_neg VZ,if_neg VZ]
   .rw[if_pos rfl,if_pos VZ]
  .rw[Dd x c,Dd y d,if_neg oM];simp only[Ieee.Datum.order];have e1:sv x=sg (ng x) (V 23 2139095040):=by unfold sv;rw[Jo c]
   have e2:sv y=sg (ng y) (V 23 2139095040):=by unfold sv;rw[Jo d]
   rw[e1,e2,Dj];cases ng x<;>cases ng y
   .rw[if_neg oM,if_pos rfl];rfl
   .rw[if_neg XO,if_neg XO];rfl
   .rw[if_pos XO];rfl
   .rw[if_neg oM,if_pos rfl];rfl
  .rw[De y d,Dd x c,if_pos (Or.inr d)];rfl
 .rw[De x c,if_pos (Or.inl c)];cases Ieee.single.read y<;>rfl
theorem BC(a:Int)(h0:0<=a):(rg a.toNat:Int)=a%2147483648:=by unfold rg;omega
theorem Hq(a:Int)(h0:0<=a):nan a=decide (2139095040<rg a.toNat):=by
 unfold nan;rw[decide_eq_decide];have:=BC a h0;omega
theorem Hv(a b:Int)(h0:0<=a)(g0:0<=b):U6 a b=if nan a=true\/nan b=true then none else some (compare (sv a.toNat) (sv b.toNat)):=by
 unfold U6;rw[QO,Hq a h0,Hq b g0];simp only[decide_eq_true_eq]
theorem OF(a b:Int)(h0:0<=a)(g0:0<=b):Hf a b=true↔nan a=false/\nan b=false/\sv a.toNat<sv b.toNat:=by
 unfold Hf;rw[Hv a b h0 g0];by_cases hn:nan a=true\/nan b=true
 .rw[if_pos hn];simp;intro k1 k2;simp[k1,k2]at hn
 .rw[if_neg hn];have hn':nan a=false/\nan b=false:=by simpa using hn
  rcases Int.lt_trichotomy (sv a.toNat) (sv b.toNat)with c|c|c
  .rw[LU c];simp[hn',c]
  .rw[LR c];simp;omega
  .rw[LS c];simp;omega
theorem VO{x y:Nat}(h:sv x=sv y):rg x=rg y/\(ng x=ng y\/rg x=0):=by
 have hz:∀z,mv z=0->rg z=0:=by
  intro z hz;unfold mv at hz;rw[<-J9 23]at hz;exact PX 23 hz
 have BD:mv x=mv y/\(ng x=ng y\/mv x=0):=by
  unfold sv sg at h;cases hx:ng x<;>cases hy:ng y<;>rw[hx,hy]at h<;>simp only[if_true,if_false,Bool.false_eq_true]at h
  .exact⟨oM,Or.inl rfl⟩
  .exact⟨oM,Or.inr oM⟩
  .exact⟨oM,Or.inr oM⟩
  .exact⟨oM,Or.inl rfl⟩
 refine⟨PX 23 BD.1,?_⟩;rcases BD.2 with e|e
 .exact Or.inl e
 .exact Or.inr (hz x e)
theorem Dt(a:Int)(h0:0<=a)(h1:a<4294967296):a=(if ng a.toNat then 2147483648 else 0)+(rg a.toNat:Int):=by
 unfold ng rg;by_cases c:2147483648<=a
 .have:a.toNat/2147483648%2=1:=oM;simp[this];omega
 .have:a.toNat/2147483648%2=0:=oM;simp[this];omega
theorem Ub{a b:Int}(h0:0<=a)(h1:a<4294967296)(g0:0<=b)(g1:b<4294967296)(hr:rg a.toNat=rg b.toNat)(hs:ng a.toNat=ng b.toNat):a=b:=by
 rw[Dt a h0 h1,Dt b g0 g1,hr,hs]
theorem Mn(a:Int)(h0:0<=a)(h1:a<4294967296):ng a.toNat=decide (2147483648<=a):=by
 unfold ng;by_cases c:2147483648<=a<;>simp[c]<;>omega
theorem Sk(d e:Ieee.Datum):d.sum e=e.sum d:=by
 cases d<;>cases e<;>simp only[Ieee.Datum.sum]
 .rename_i s m i t n j;rw[Int.min_comm j i,Int.add_comm (Ieee.signed t n _),Bool.and_comm]
 .rename_i s t;by_cases h:s=t
  .rw[if_pos h,if_pos h.symm,h]
  .rw[if_neg h,if_neg (fun k=>h k.symm)]
theorem IB(a b:Int):CJ a b=CJ b a:=by unfold CJ Ieee.Format.add;rw[Sk]
def Ji(a:Nat):Nat:=if 2147483648<=a then a-2147483648 else a+2147483648
theorem NC(a:Nat)(h:a<4294967296):rg (Ji a)=rg a:=by unfold rg Ji;split<;>omega
theorem TN(a:Nat)(h:a<4294967296):ng (Ji a)= !ng a:=by
 unfold ng Ji;split
 .rename_i c;have e1:a/2147483648%2=1:=oM;have e2:(a-2147483648)/2147483648%2=0:=oM;simp[e1,e2]
 .rename_i c;have e1:a/2147483648%2=0:=oM;have e2:(a+2147483648)/2147483648%2=1:=oM;rw[e1,e2];rfl
theorem P4(a:Nat)(h:a<4294967296):Ieee.single.read (Ji a)=(Ieee.single.read a).opposite:=by
 rw[CG,CG,NC a h,TN a h];split
 .rfl
 .split
  .rfl
  .split<;>rfl
theorem Kh(a:Int)(h0:0<=a)(h1:a<4294967296)(hn:nan a=false):Hh a=(Ji a.toNat:Nat):=by
 unfold Hh Ji;have e:(if 2147483648<=a then a-2147483648 else a+2147483648)=((if 2147483648<=a.toNat then a.toNat-2147483648 else a.toNat+2147483648:Nat):Int):=by
  by_cases c:2147483648<=a
  .rw[if_pos c,if_pos oM];omega
  .rw[if_neg c,if_neg oM];omega
 rw[e];apply Ix;have:=NC a.toNat oM;unfold Ji at this;rw[this];rw[Hq a h0]at hn;simpa using hn
theorem Kg(a:Int)(h0:0<=a)(h1:a<4294967296)(hn:nan a=true):Hh a=2143289344:=by
 unfold Hh A9;rw[Jq]at hn;have:nan (if 2147483648<=a then a-2147483648 else a+2147483648)=true:=by
  rw[Jq];split<;>omega
 rw[if_pos this]
theorem Nj(a:Int)(h0:0<=a)(h1:a<4294967296):0<=Hh a/\Hh a<4294967296:=by
 have h:0<=(if 2147483648<=a then a-2147483648 else a+2147483648)/\(if 2147483648<=a then a-2147483648 else a+2147483648)<4294967296:=by split<;>omega
 exact DD _ h.1 h.2

theorem Fo(a:Int)(k:Nat)(hk:k<64)(h0:0<=a)(h1:a<18446744073709551616):bits .and .u64 a ((2^k-1:Nat):Int)=a%((2^k:Nat):Int):=by
 have hp:2^k<2^64:=Nat.pow_lt_pow_right oM hk;have hq:0<2^k:=Nat.two_pow_pos k;obtain⟨n,rfl⟩:=Int.eq_ofNat_of_zero_le h0;rw[u64_and _ _ h0 h1 oM oM,Int.toNat_natCast,Int.toNat_natCast,Nat.and_two_pow_sub_one_eq_mod];rfl
theorem SP(a:Int)(h0:0<=a)(h1:a<18446744073709551616):bits .and .u64 a 255=a%256:=Fo a 8 dE h0 h1
theorem Q4(a:Int)(h0:0<=a)(h1:a<18446744073709551616):bits .and .u64 a 8388607=a%8388608:=Fo a 23 dE h0 h1
def AK(a:Int):Bool:=a/2147483648==1
def nM(a:Int):Int:=if a/8388608%256=255 then 0 else if a/8388608%256=0 then a%8388608 else 8388608+a%8388608
def nE(a:Int):Int:=if a/8388608%256=255 then 0 else if a/8388608%256=0 then -149 else a/8388608%256-150
def CF(a:Int):Bool:=if a/8388608%256=255 then a%8388608==0 else false
def Bc(a:Int):Bool:=if a/8388608%256=255 then a%8388608 != 0 else false
theorem C8(a:Int)(h0:0<=a)(h1:a<4294967296)(w:World):
 Calls prog 91 #[.int .i64 a] w fun e w'=>e=.returned (.agg #[.bool (AK a),.int .u64 (nM a),.int .i64 (nE a),.bool (CF a),.bool (Bc a)])/\∃o,w'=(w.alloc o).alloc o:=by
 have e1:=SP (a/8388608) oM oM;have e2:=Q4 a h0 oM;by_cases c:a/8388608%256=255
 .have f1:nM a=0:=by unfold nM;rw[if_pos c]
  have f2:nE a=0:=by unfold nE;rw[if_pos c]
  have f3:CF a=(a%8388608==0):=by unfold CF;rw[if_pos c]
  have f4:Bc a=(a%8388608 != 0):=by unfold Bc;rw[if_pos c]
  exact XH
 .by_cases c2:a/8388608%256=0
  .have f1:nM a=a%8388608:=by unfold nM;rw[if_neg c,if_pos c2]
   have f2:nE a= -149:=by unfold nE;rw[if_neg c,if_pos c2]
   have f3:CF a=false:=by unfold CF;rw[if_neg c]
   have f4:Bc a=false:=by unfold Bc;rw[if_neg c]
   exact XH
  .have f1:nM a=8388608+a%8388608:=by unfold nM;rw[if_neg c,if_neg c2]
   have f2:nE a=a/8388608%256-150:=by unfold nE;rw[if_neg c,if_neg c2]
   have f3:CF a=false:=by unfold CF;rw[if_neg c]
   have f4:Bc a=false:=by unfold Bc;rw[if_neg c]
   exact XH
def FY(s:Bool):Int:=if s then 2147483648 else 0
theorem MO(s:Bool):0<=FY s/\FY s<=2147483648:=by unfold FY;split<;>decide
theorem F3(s:Bool)(w:World):
 Calls prog 96 #[.bool s] w fun e w'=>e=.returned (.int .u64 (FY s))/\w'=w:=by
 cases s
 all_goals(
  go_enter func96,ntmps96;go_wp2;go_ret
  exact⟨rfl,rfl⟩)
theorem Cq(s:Bool)(w:World):
 Calls prog 94 #[.bool s] w fun e w'=>e=.returned (.int .i64 (FY s))/\w'=w:=by
 have hl:=MO s;go_enter func94,ntmps94;go_wp2_with(go_at_call 96;refine(F3 _ _).mono ?_;rintro e w' ⟨rfl,rfl⟩);go_ret;exact⟨rfl,rfl⟩
theorem Df(s:Bool)(w:World):
 Calls prog 93 #[.bool s] w fun e w'=>e=.returned (.int .i64 (FY s+2139095040))/\w'=w:=by
 have hl:=MO s;go_enter func93,ntmps93;go_wp2_with(go_at_call 96;refine(F3 _ _).mono ?_;rintro e w' ⟨rfl,rfl⟩);go_ret;exact⟨rfl,rfl⟩
def Ce(n:Nat):Nat:=if n=0 then 0 else n.log2+1
theorem On(n:Nat)(h:n≠0):Ce n=Ce (n/2)+1:=by
 unfold Ce;rw[if_neg h];by_cases c:n/2=0
 .rw[if_pos c];have:n=1:=oM;subst this;decide
 .rw[if_neg c,Nat.log2_def n,if_pos oM]
theorem E5(m:Int)(h0:0<=m)(h1:m<18446744073709551616)(w:World):
 Calls prog 67 #[.int .u64 m] w fun e w'=>e=.returned (.int .i64 (Ce m.toNat))/\w'=w:=by
 have hb:Ce m.toNat<=64:=by
  unfold Ce;split
  .omega
  .rename_i c;have:m.toNat.log2<64:=(Nat.log2_lt c).2 oM;omega
 generalize hB:Ce m.toNat=B at *;have HB:Hid (Ce m.toNat=B):=hB;clear hB;go_enter func67,ntmps67;go_wp2;go_loop [0,3] (fun mv nv=>∃ (x:Int) (k:Nat),0<=x/\x<=m/\mv=.int .u64 x/\nv=.int .i64 k/\k+Ce x.toNat=B) (fun mv _=>(intOf mv).toNat)
 case atStart=>exact⟨m,0,h0,Int.le_refl _,rfl,rfl,by rw[HB.out];omega⟩
 case round=>
  obtain⟨x,k,hx0,hx1,rfl,rfl,hk⟩:=hrel;have HK:Hid (k+Ce x.toNat=B):=hk;by_cases hz:x=0
  .have:k=B:=by rw[<-hk,hz];rfl
   subst this;clear hk HK HB;subst hz;go_wp2;go_ret;exact⟨rfl,rfl⟩
  .have hs:=On x.toNat oM;have HS:Hid (Ce x.toNat=Ce (x.toNat/2)+1):=hs;have hkB:k<=63:=oM;clear hs hk;go_wp2;go_round
   case rel=>exact⟨x/2,k+1,oM,oM,rfl,gN,by rw[show(x/2).toNat=x.toNat/2 by omega];have:=HK.out;have:=HS.out;omega⟩
   case measure=>simp[intOf];omega
theorem Jc(neg:Bool)(n drop:Nat):Ieee.Toward.even.cut neg n drop=n/2^drop+(if 2^drop<2*(n%2^drop)\/(2^drop=2*(n%2^drop)/\n/2^drop%2=1)then 1 else 0):=by
 have BD:∀g l r:Nat,l+(decide (g<2*r)||g==2*r&&l%2==1).toNat=l+(if g<2*r\/(g=2*r/\l%2=1)then 1 else 0):=by
  intro g l r;by_cases c1:g<2*r
  .simp[c1]
  .by_cases c2:g=2*r
   .by_cases c3:l%2=1<;>simp[c2,c3]
   .simp[c1,c2]
 unfold Ieee.Toward.cut;simp only[Nat.one_shiftLeft];rcases Nat.lt_or_ge (n.log2+2) drop with c|c
 .rw[Nat.min_eq_right oM];have h1:n<2^(n.log2+1):=Nat.lt_log2_self;have h2:2^(n.log2+2)=2*2^(n.log2+1):=by rw[Nat.pow_succ];omega
  have h3:2^(n.log2+2)<=2^drop:=Nat.pow_le_pow_right oM oM;rw[BD,Nat.div_eq_of_lt oM,Nat.mod_eq_of_lt oM,Nat.div_eq_of_lt oM,Nat.mod_eq_of_lt (show n<2^drop by omega)];rw[if_neg oM,if_neg oM]
 .rw[Nat.min_eq_left oM,BD]
theorem T9(m:Int)(h0:0<=m)(d:Nat)(hd:1<=d):((Ieee.Toward.even.cut false m.toNat d:Nat):Int)=if(2:Int)^(d-1)<m%2^d\/(m%2^d=2^(d-1)/\m/2^d%2=1)then m/2^d+1 else m/2^d:=by
 obtain⟨n,rfl⟩:=Int.eq_ofNat_of_zero_le h0;rw[Jc,Int.toNat_natCast];have hG:2^d=2*2^(d-1):=by
  obtain⟨e,rfl⟩:∃e,d=e+1:=⟨d-1,oM⟩
  rw[Nat.add_sub_cancel,Nat.pow_succ,Nat.mul_comm]
 have e1:((n:Int)/2^d)=((n/2^d:Nat):Int):=by push_cast;rfl
 have e2:((n:Int)%2^d)=((n%2^d:Nat):Int):=by push_cast;rfl
 have e3:(2:Int)^(d-1)=((2^(d-1):Nat):Int):=by push_cast;rfl
 rw[e1,e2,e3];generalize n/2^d=q;generalize n%2^d=r;rw[hG];generalize 2^(d-1)=H;by_cases c:2*H<2*r\/(2*H=2*r/\q%2=1)
 .rw[if_pos c,if_pos oM];omega
 .rw[if_neg c,if_neg oM];omega
theorem Kw(m:Int)(h0:0<=m)(h1:m<18446744073709551616)(d:Nat)(g0:1<=d)(g1:d<64)(w:World):
 Calls prog 95 #[.int .u64 m,.int .i64 d] w fun e w'=>e=.returned (.int .u64 (Ieee.Toward.even.cut false m.toNat d:Nat))/\w'=w:=by
 rw[T9 m h0 d g0];have hG:(2:Int)^d=2*2^(d-1):=by
  obtain⟨e,rfl⟩:∃e,d=e+1:=⟨d-1,oM⟩
  rw[Nat.add_sub_cancel,Int.pow_succ,Int.mul_comm]
 have hle:(2:Int)^d<=9223372036854775808:=by
  have h:2^d<=9223372036854775808:=gH (Nat.pow_le_pow_right dE (show d<=63 by omega)) dE;have h':((2^d:Nat):Int)<=((9223372036854775808:Nat):Int):=Int.ofNat_le.2 h;rw[Int.natCast_pow]at h';exact h'
 have hH:(1:Int)<=2^(d-1):=Int.pow_pos dE;have f1:IntKind.u64.wrap ((2:Int)^d)=2^d:=by rw[IntKind.wrap_u64];omega
 have f4:IntKind.u64.wrap ((2:Int)^(d-1))=2^(d-1):=by rw[IntKind.wrap_u64];omega
 have f3:bits .and .u64 m ((2:Int)^d-1)=m%2^d:=by
  have:=Fo m d g1 h0 h1;have e:((2^d-1:Nat):Int)=(2:Int)^d-1:=by
   rw[Int.ofNat_sub (Nat.two_pow_pos d)];push_cast;rfl
  rw[e]at this;rw[this];push_cast;rfl
 have hr0:0<=m%2^d:=Int.emod_nonneg _ oM;have hr1:m%2^d<2^d:=Int.emod_lt_of_pos _ oM;have hq0:0<=m/2^d:=Int.ediv_nonneg h0 oM;have hq1:m/2^d<=9223372036854775807:=by
  have h2:m/2^d<=m/2:=by
   have:(2:Int)∣2^d:=⟨2^(d-1),hG⟩
   rw[hG,<-Int.ediv_ediv_of_nonneg dE];exact Int.ediv_le_self _ oM
  omega
 have f5:IntKind.u64.wrap ((2:Int)^d-1)=2^d-1:=by rw[IntKind.wrap_u64];omega
 generalize hr:m%2^d=r at *;generalize hq:m/2^d=q at *;generalize hHH:(2:Int)^(d-1)=H at *;generalize hGG:(2:Int)^d=G at *;have hG1:1<=G:=oM;clear hr hG;by_cases c1:H<r
 .rw[if_pos (Or.inl c1)];exact UQ
 .by_cases c2:r=H
  .by_cases c3:q%2=1
   .rw[if_pos (Or.inr ⟨c2,c3⟩)];exact UQ
   .rw[if_neg oM];exact UQ
  .rw[if_neg oM];exact UQ
theorem GD(m:Int)(h0:0<=m)(h1:m<18446744073709551616)(d:Int)(g0:1<=d)(g1:d<100000)(w:World):
 Calls prog 95 #[.int .u64 m,.int .i64 d] w fun e w'=>e=.returned (.int .u64 (Ieee.Toward.even.cut false m.toNat d.toNat:Nat))/\w'=w:=by
 rcases Int.lt_trichotomy d 64 with c|c|c
 .have:=Kw m h0 h1 d.toNat oM oM w;rwa[Int.toNat_of_nonneg oM]at this
 .subst c;have hv:((Ieee.Toward.even.cut false m.toNat (64:Int).toNat:Nat):Int)=if 9223372036854775808<m then 1 else 0:=by
   rw[Jc,show(64:Int).toNat=64 from rfl,show(2:Nat)^64=18446744073709551616 from rfl,Nat.div_eq_of_lt oM,Nat.mod_eq_of_lt oM];by_cases c:9223372036854775808<m
   .rw[if_pos c,if_pos oM];rfl
   .rw[if_neg c,if_neg oM];rfl
  rw[hv];clear hv;by_cases c:9223372036854775808<m
  .rw[if_pos c];exact UQ
  .rw[if_neg c];by_cases c2:m=9223372036854775808
   .subst c2;exact UQ
   .exact UQ
 .have hv:((Ieee.Toward.even.cut false m.toNat d.toNat:Nat):Int)=0:=by
   have hp:2^65<=2^d.toNat:=Nat.pow_le_pow_right dE oM;have h65:(2:Nat)^65=36893488147419103232:=rfl;rw[Jc,Nat.div_eq_of_lt oM,Nat.mod_eq_of_lt oM,if_neg oM];rfl
  rw[hv];clear hv;exact UQ
theorem Lq(s:Bool)(r:Nat):((wd s r:Nat):Int)=FY s+min (r:Int) 2139095040:=by
 unfold wd FY;cases s
 .simp only[if_false,Bool.false_eq_true];omega
 .simp only[if_true];omega
theorem Ir(s:Bool)(m:Nat)(e:Int)(h0:m≠0):∃ (U:Int) (k:Nat),U=max (e+(Ce m:Int)-24) (-149)/\
 ((Ieee.single.nearest s m e:Nat):Int)=FY s+min ((U+149)*8388608+k) 2139095040/\k<=16777216/\(U= -149\/8388608<=k)/\
 k=Ieee.Toward.even.cut false (m*2^(e-U).toNat) (U-e).toNat/\(U<=e->(k:Int)=(m:Int)*2^(e-U).toNat):=by
 have hb:(Ce m:Int)-24=m.log2-23:=by unfold Ce;rw[if_neg h0];omega
 have hn:=B9 Ieee.single s m e;rw[GZ,Cr,Bo]at hn;refine⟨max (e+(Ce m:Int)-24) (-149),Ieee.Toward.even.cut false (m*2^(e-max (e+(Ce m:Int)-24) (-149)).toNat) (max (e+(Ce m:Int)-24) (-149)-e).toNat,rfl,?_⟩;have hU:max (e+(Ce m:Int)-24) (-149)=max (e+m.log2-((23:Nat):Int)) (-149):=oM;rw[hU];generalize hUU:max (e+m.log2-((23:Nat):Int)) (-149)=U at *;have hr:Bv 23 (-149) m e=(U-(-149)).toNat*2^23+Ieee.Toward.even.cut false (m*2^(e-U).toNat) (U-e).toNat:=by
  unfold Bv;rw[if_neg h0,Nat.shiftLeft_eq,hUU]
 have hcut:=JY false (m*2^(e-U).toNat) (U-e).toNat;generalize hk:Ieee.Toward.even.cut false (m*2^(e-U).toNat) (U-e).toNat=k at *;have hlo:2^m.log2<=m:=Nat.log2_self_le h0;have hhi:m<2^(m.log2+1):=Nat.lt_log2_self;have hcs:=hcut.scale 0 0 (U-e).toNat rfl;rw[Nat.pow_zero,Nat.mul_one]at hcs;have lo:U= -149\/2^23*2^(U-e).toNat<=m*2^(e-U).toNat:=by
  rcases(show U= -149\/U=e+m.log2-23 by omega)with c|c
  .exact Or.inl c
  .right
   calc 2^23*2^(U-e).toNat=2^m.log2*2^(e-U).toNat:=by rw[<-Nat.pow_add,<-Nat.pow_add];congr 1;omega
    _<=m*2^(e-U).toNat:=Nat.mul_le_mul_right _ hlo
 have hi:m*2^(e-U).toNat<2*2^23*2^(U-e).toNat:=by
  calc m*2^(e-U).toNat<2^(m.log2+1)*2^(e-U).toNat:=Nat.mul_lt_mul_of_pos_right hhi (Nat.two_pow_pos _)
   _=2^(m.log2+1+(e-U).toNat):=(Nat.pow_add ..).symm
   _<=2^(24+(U-e).toNat):=Nat.pow_le_pow_right dE oM
   _=2*2^23*2^(U-e).toNat:=by rw[Nat.pow_add]
 have up:=hcut.up;have dn:=hcut.dn;simp only[Nat.mul_one]at up dn;have hT:0<2^(U-e).toNat:=Nat.two_pow_pos _;have hkle:k<=16777216:=by
  rcases Nat.lt_or_ge 16777216 k with c|c
  .exfalso;have:(2*16777217)*2^(U-e).toNat<=2*k*2^(U-e).toNat:=Nat.mul_le_mul_right _ oM;generalize 2^(U-e).toNat=T at *;generalize m*2^(e-U).toNat=X at *;omega
  .exact c
 have hkge:U= -149\/8388608<=k:=by
  rcases lo with c|c
  .exact Or.inl c
  .right;rcases Nat.lt_or_ge k 8388608 with d|d
   .exfalso;have:(2*k+1)*2^(U-e).toNat<=16777215*2^(U-e).toNat:=Nat.mul_le_mul_right _ oM;generalize 2^(U-e).toNat=T at *;generalize m*2^(e-U).toNat=X at *;omega
   .exact d
 refine⟨?_,hkle,hkge,rfl,?_⟩
 .rw[hn,hr,Lq];rw[Int.natCast_add,Int.natCast_mul,Int.toNat_of_nonneg oM];omega
 .intro l;rw[show(U-e).toNat=0 by omega]at hcut;have up:=hcut.up;have dn:=hcut.dn;have ue:=hcut.ue;have de:=hcut.de;have:k=m*2^(e-U).toNat:=by
   generalize m*2^(e-U).toNat=X at *;simp only[Nat.pow_zero,Nat.mul_one]at ue de up dn;omega
  rw[this];push_cast;rfl
theorem Ba(s:Bool)(m:Int)(h0:0<=m)(h1:m<18446744073709551616)(e:Int)(e0: -10000<=e)(e1:e<=10000)(w:World):
 Calls prog 69 #[.bool s,.int .u64 m,.int .i64 e] w fun x w'=>x=.returned (.int .i64 (Ieee.single.nearest s m.toNat e:Nat))/\w'=w:=by
 have hs:=MO s;by_cases hz:m=0
 .subst hz;have hv:((Ieee.single.nearest s (0:Int).toNat e:Nat):Int)=FY s:=by
   show((Ieee.single.nearest s 0 e:Nat):Int)=FY s;exact Zc
  rw[hv];clear hv;go_enter func69,ntmps69;go_wp2_with(go_at_call 94;refine(Cq _ _).mono ?_;rintro e w' ⟨rfl,rfl⟩);go_ret;exact⟨rfl,rfl⟩
 .obtain⟨U,k,hU,hv,hk1,hk2,hk3,hk4⟩:=Ir s m.toNat e oM;rw[hv];clear hv;have hB:1<=Ce m.toNat/\Ce m.toNat<=64:=by
   unfold Ce;rw[if_neg oM];have:m.toNat.log2<64:=(Nat.log2_lt oM).2 oM;omega
  generalize hBB:Ce m.toNat=B at *;have fh:e<U->((Ieee.Toward.even.cut false m.toNat (U-e).toNat:Nat):Int)=k:=by
   intro l;rw[hk3,show(e-U).toNat=0 by omega,Nat.pow_zero,Nat.mul_one]
  have fq:U<=e->IntKind.u64.wrap (m*2^(-(U-e)).toNat)=k:=by
   intro l;have:=hk4 l;rw[show(-(U-e)).toNat=(e-U).toNat by omega,show m=(m.toNat:Int) by omega,<-this,IntKind.wrap_u64];omega
  clear hk3 hk4;have hUr: -149<=U/\U<=20000:=oM;have hK0:0<=(k:Int)/\(k:Int)<=16777216/\(U= -149\/8388608<=(k:Int)):=oM;clear hk1 hk2;generalize hKK:(k:Int)=K at *;clear hKK;generalize hT:min ((U+149)*8388608+K) 2139095040=T;have cases:(K=16777216/\U<104/\T=(U+151)*8388608)\/(K=16777216/\104<=U/\T=2139095040)\/(U= -149/\K<8388608/\T=K)\/
   (8388608<=K/\K<16777216/\U<105/\T=(U+149)*8388608+K)\/(8388608<=K/\K<16777216/\105<=U/\T=2139095040):=oM
  clear hT;by_cases hu: -149>e+(B:Int)-24
  .have hU':U= -149:=oM;clear hU;subst hU';clear hUr;by_cases hsh: -149<=e
   .have fq':=fq hsh;exact Yq
   .have fh':=fh oM;exact Yq
  .have hu2:e+(B:Int)-24=U:=oM;clear hU;by_cases hsh:U<=e
   .have fq':=fq hsh;exact Yp
   .have fh':=fh oM;exact Yp
theorem Jp(a:Int)(h0:0<=a)(h1:a<4294967296):AK a=ng a.toNat:=by
 unfold AK ng;by_cases c:2147483648<=a
 .have e1:a/2147483648=1:=oM;have e2:a.toNat/2147483648%2=1:=oM;rw[e1,e2];rfl
 .have e1:a/2147483648=0:=oM;have e2:a.toNat/2147483648%2=0:=oM;rw[e1,e2];rfl
theorem Bt(a:Int)(h0:0<=a)(h1:a<4294967296):Bc a=nan a:=by
 unfold Bc nan;by_cases c:a/8388608%256=255
 .rw[if_pos c];by_cases d:a%8388608=0
  .have:¬ (2139095040<a%2147483648):=oM;simp[d,this]
  .have:2139095040<a%2147483648:=oM;simp[d,this]
 .rw[if_neg c];have:¬ (2139095040<a%2147483648):=oM;simp[this]
theorem E1(a:Int)(h0:0<=a)(h1:a<4294967296)(h:Bc a=true):∃s t,Ieee.single.read a.toNat=.nan s t:=by
 rw[Bt a h0 h1,Hq a h0]at h;exact⟨_,_,De _ SL⟩
theorem Cw(a:Int)(h0:0<=a)(h1:a<4294967296)(h:CF a=true):Ieee.single.read a.toNat=.infinity (AK a)/\Bc a=false/\nM a=0:=by
 have c:a/8388608%256=255/\a%8388608=0:=by
  unfold CF at h;split at h
  .rename_i c;exact⟨c,by simpa using h⟩
  .cases h
 refine⟨?_,?_,?_⟩
 .rw[Jp a h0 h1];exact Dd _ (by have:=BC a h0;omega)
 .unfold Bc;simp[c]
 .unfold nM;rw[if_pos c.1]
theorem Be(a:Int)(h0:0<=a)(h1:a<4294967296)(hi:CF a=false)(hn:Bc a=false):
 Ieee.single.read a.toNat=.number (AK a) (nM a).toNat (nE a)/\0<=nM a/\nM a<16777216/\-149<=nE a/\nE a<=104/\(nE a= -149\/8388608<=nM a):=by
 have c:¬ (a/8388608%256=255):=by
  intro c;unfold CF at hi;unfold Bc at hn;rw[if_pos c]at hi hn;simp at hi hn;exact hi hn
 have hf:rg a.toNat<2139095040:=by have:=BC a h0;omega
 have hr:=BC a h0;rw[BB _ hf,Jp a h0 h1];unfold nM nE mg te;rw[if_neg c,if_neg c];by_cases d:a/8388608%256=0
 .rw[if_pos d,if_pos d,if_pos oM,show rg a.toNat/8388608-1=0 by omega,show(a%8388608).toNat=rg a.toNat by omega];exact⟨rfl,oM,oM,oM,oM,oM⟩
 .rw[if_neg d,if_neg d,if_neg oM,show(8388608+a%8388608).toNat=8388608+rg a.toNat%8388608 by omega,show -149+((rg a.toNat/8388608-1:Nat):Int)=a/8388608%256-150 by omega];exact⟨rfl,oM,oM,oM,oM,oM⟩
theorem CH(s1:Bool)(m1 e1:Int)(i1 n1 s2:Bool)(m2 e2:Int)(i2 n2:Bool)(w:World):
 Calls prog 92 #[.agg #[.bool s1,.int .u64 m1,.int .i64 e1,.bool i1,.bool n1],.agg #[.bool s2,.int .u64 m2,.int .i64 e2,.bool i2,.bool n2]] w fun e w'=>e=.returned (.bool (n1||n2))/\∃o p,w'=(w.alloc o).alloc p:=by
 cases n1<;>cases n2
 all_goals(
  go_enter func92,ntmps92;go_wp2;go_ret
  exact⟨rfl,_,_,rfl⟩)
theorem Bu(s:Bool):((Ieee.single.write (.infinity s):Nat):Int)=FY s+2139095040:=by cases s<;>decide
theorem Do(a b:Int){d e:Ieee.Datum}(h:Ieee.single.read a.toNat=d)(k:Ieee.single.read b.toNat=e):Ek a b=Ny ((d.product e).map Ieee.single.write):=by
 unfold Ek Ieee.Format.mul;rw[h,k]
theorem CS(s t:Bool):(s^^t)=(s != t):=by cases s<;>cases t<;>rfl
theorem Kf(a b:Int)(h0:0<=a)(h1:a<4294967296)(g0:0<=b)(g1:b<4294967296)(h:Bc a=true\/Bc b=true):Ek a b=2143289344:=by
 rcases h with h|h
 .obtain⟨s,t,e⟩:=E1 a h0 h1 h;rw[Do a b e rfl];cases Ieee.single.read b.toNat<;>rfl
 .obtain⟨s,t,e⟩:=E1 b g0 g1 h;rw[Do a b rfl e];cases Ieee.single.read a.toNat<;>rfl
theorem I2(a:Int)(h0:0<=a)(h1:a<4294967296)(b:Int)(g0:0<=b)(g1:b<4294967296)(w:World):
 Calls prog 68 #[.int .i64 a,.int .i64 b] w fun e w'=>e=.returned (.int .i64 (Ek a b))/\Below w.heap.size w w':=by
 cases hna:Bc a
 .cases hnb:Bc b
  .cases hia:CF a
   .obtain⟨ra,a1,a2,a3,a4,-⟩:=Be a h0 h1 hia hna;cases hib:CF b
    .obtain⟨rb,b1,b2,b3,b4,-⟩:=Be b g0 g1 hib hnb;have hv:Ek a b=(Ieee.single.nearest (AK a != AK b) (nM a*nM b).toNat (nE a+nE b):Nat):=by
      rw[Do a b ra rb,show(nM a*nM b).toNat=(nM a).toNat*(nM b).toNat from Int.toNat_mul a1 b1,<-CS];rfl
     have hm:0<=nM a*nM b/\nM a*nM b<281474976710656:=by
      refine⟨Int.mul_nonneg a1 b1,?_⟩;have h1:nM a*nM b<=16777215*16777215:=Int.mul_le_mul oM oM b1 oM;omega
     have hw:IntKind.u64.wrap (nM a*nM b)=nM a*nM b:=by rw[IntKind.wrap_u64];omega
     rw[hv];clear hv ra rb;exact UN
    .obtain⟨rb,-,b1⟩:=Cw b g0 g1 hib;by_cases hz:nM a=0
     .have hv:Ek a b=2143289344:=by rw[Do a b ra rb,hz];rfl
      rw[hv];clear hv ra rb;exact UN
     .have hv:Ek a b=FY (AK a != AK b)+2139095040:=by
       rw[Do a b ra rb,<-Bu,<-CS,Bool.xor_comm];have:(nM a).toNat≠0:=oM;simp only[Ieee.Datum.product,if_neg this];rfl
      rw[hv];clear hv ra rb;exact UN
   .obtain⟨ra,-,a1⟩:=Cw a h0 h1 hia;cases hib:CF b
    .obtain⟨rb,b1,b2,b3,b4,-⟩:=Be b g0 g1 hib hnb;by_cases hz:nM b=0
     .have hv:Ek a b=2143289344:=by rw[Do a b ra rb,hz];rfl
      rw[hv];clear hv ra rb;exact UN
     .have hv:Ek a b=FY (AK a != AK b)+2139095040:=by
       rw[Do a b ra rb,<-Bu,<-CS];have:(nM b).toNat≠0:=oM;simp only[Ieee.Datum.product,if_neg this];rfl
      rw[hv];clear hv ra rb;exact UN
    .obtain⟨rb,-,b1⟩:=Cw b g0 g1 hib;have hv:Ek a b=FY (AK a != AK b)+2139095040:=by
      rw[Do a b ra rb,<-Bu,<-CS];rfl
     rw[hv];clear hv ra rb;exact UN
  .have hv:=Kf a b h0 h1 g0 g1 (Or.inr hnb);rw[hv];clear hv;exact UN
 .have hv:=Kf a b h0 h1 g0 g1 (Or.inl hna);rw[hv];clear hv;exact UN
theorem Pc(n:Int)(h0: -9223372036854775808<=n)(h1:n<=9223372036854775807)(w:World):
 Calls prog 38 #[.int .i64 n] w fun e w'=>e=.returned (.int .i64 (Ff n))/\w'=w:=by
 unfold Ff;by_cases c:n<0
 .rw[decide_eq_true c,show n.natAbs=(-(n+1)+1).toNat by omega];exact YX
 .rw[decide_eq_false c,show n.natAbs=n.toNat by omega];exact YX
theorem ET(w:World)(v0 v1 v2 v3 v4:Value):(Instr.field 152 (.agg #[v0,v1,v2,v3,v4]) 4).run prog w=.ok v4 w:=by
 simp[Instr.field,run_underlying underlying152,asAgg,part,go_sem]
theorem Kk(a b:Nat)(ha:a<9223372036854775808)(hb:b<9223372036854775808):bits .xor .i64 (a:Int) (b:Int)=((a^^^b:Nat):Int):=by
 have hx:a^^^b<2^63:=Nat.xor_lt_two_pow oM oM;show IntKind.i64.wrap ((BitVec.ofInt 64 (a:Int)^^^BitVec.ofInt 64 (b:Int)).toNat:Int)=_;rw[BitVec.toNat_xor,ofInt_u64 a oM,ofInt_u64 b oM,IntKind.wrap_i64];omega
theorem Hj(a b:Nat)(ha:a<9223372036854775808)(hb:b<9223372036854775808):bits .andNot .i64 (a:Int) (b:Int)=((a&&& (18446744073709551615-b):Nat):Int):=by
 have hx:a&&& (18446744073709551615-b)<=a:=Nat.and_le_left;show IntKind.i64.wrap ((BitVec.ofInt 64 (a:Int)&&& ~~~BitVec.ofInt 64 (b:Int)).toNat:Int)=_;rw[BitVec.toNat_and,BitVec.toNat_not,ofInt_u64 a oM,ofInt_u64 b oM,IntKind.wrap_i64];have e:2^64-1-b=18446744073709551615-b:=oM;rw[e];omega
theorem MZ(a:Int)(h0:0<=a)(h1:a<4294967296):bits .xor .i64 a 2147483648=if 2147483648<=a then a-2147483648 else a+2147483648:=by
 rw[<-Sv a h0 h1,u32_xor a _ h0 h1 dE dE];obtain⟨A,rfl⟩:=Int.eq_ofNat_of_zero_le h0;exact Kk A 2147483648 oM dE
theorem Dx(a:Int)(h0:0<=a)(h1:a<4294967296):bits .andNot .i64 a 2147483648=a%2147483648:=by
 rw[<-OQ a h0 h1,u32_andNot a _ h0 h1 dE dE];obtain⟨A,rfl⟩:=Int.eq_ofNat_of_zero_le h0;rw[show(2147483648:Int)=((2147483648:Nat):Int)from rfl,Hj A 2147483648 oM dE,Int.toNat_natCast,Int.toNat_natCast];congr 1;apply Nat.eq_of_testBit_eq;intro i;rw[Nat.testBit_and,Nat.testBit_and];rcases Nat.lt_or_ge i 32 with c|c
 .have:∀j:Fin 32,(18446744073709551615-2147483648:Nat).testBit j.val=(4294967295-2147483648:Nat).testBit j.val:=dE;rw[this ⟨i,c⟩]
 .have:A.testBit i=false:=Nat.testBit_lt_two_pow (Nat.lt_of_lt_of_le (show A<2^32 by omega) (Nat.pow_le_pow_right dE c));rw[this,Bool.false_and,Bool.false_and]
theorem Ky(a:Int)(h0:0<=a)(h1:a<4294967296)(w:World):
 Calls prog 109 #[.int .i64 a] w fun e w'=>e=.returned (.int .i64 (Hh a))/\Below w.heap.size w w':=by
 have hf:=ET;cases hna:Bc a
 .have hv:Hh a=if 2147483648<=a then a-2147483648 else a+2147483648:=by
   rw[Kh a h0 h1 (by rw[<-Bt a h0 h1];exact hna)];unfold Ji;by_cases c:2147483648<=a
   .rw[if_pos c,if_pos oM];omega
   .rw[if_neg c,if_neg oM];omega
  have hx:=MZ a h0 h1;rw[hv];clear hv;generalize (if 2147483648<=a then a-2147483648 else a+2147483648)=z at *;go_enter func109,ntmps109;exact PZ
 .have hv:=Kg a h0 h1 (by rw[<-Bt a h0 h1];exact hna);rw[hv];clear hv;go_enter func109,ntmps109;exact PZ
theorem QV(a:Int)(h0:0<=a)(h1:a<4294967296)(w:World):
 Calls prog 110 #[.int .i64 a] w fun e w'=>e=.returned (.int .i64 (Tj a))/\Below w.heap.size w w':=by
 have hm:nan (a%2147483648)=nan a:=by unfold nan;rw[Int.emod_emod_of_dvd _ (Int.dvd_refl _)]
 unfold Tj A9;rw[hm,<-Bt a h0 h1];have hx:=Dx a h0 h1;have hf:=ET;cases hna:Bc a
 .rw[if_neg dE];go_enter func110,ntmps110;exact PZ
 .rw[if_pos rfl];go_enter func110,ntmps110;exact PZ
theorem IK(a:Int)(h0:0<=a)(h1:a<4294967296):(ng a.toNat=true/\BD a= -1-(rg a.toNat:Int)/\sv a.toNat= -(mv a.toNat:Int))\/(ng a.toNat=false/\BD a=(rg a.toNat:Int)/\sv a.toNat=(mv a.toNat:Int)):=by
 have hr:=BC a h0;rw[Mn a h0 h1];by_cases c:2147483648<=a
 .left;refine⟨by simpa using c,?_,?_⟩
  .unfold BD;rw[if_pos c];omega
  .unfold sv sg;rw[Mn a h0 h1,if_pos (by simpa using c)]
 .right;refine⟨by simpa using c,?_,?_⟩
  .unfold BD;rw[if_neg c];omega
  .unfold sv sg;rw[Mn a h0 h1,if_neg (by simpa using c)]
theorem GS(x:Nat):mv x=0↔rg x=0:=by
 unfold mv;constructor
 .intro h;rw[<-J9 23]at h;exact PX 23 h
 .intro h;rw[h,J9]
theorem Mg(a b:Int)(h0:0<=a)(h1:a<4294967296)(g0:0<=b)(g1:b<4294967296):BD a<BD b↔(sv a.toNat<sv b.toNat\/(rg a.toNat=0/\rg b.toNat=0/\ng a.toNat=true/\ng b.toNat=false)):=by
 have ha:=IK a h0 h1;have hb:=IK b g0 g1;have m1:mv a.toNat<mv b.toNat↔rg a.toNat<rg b.toNat:=JP 23 _ _;have m2:mv b.toNat<mv a.toNat↔rg b.toNat<rg a.toNat:=JP 23 _ _;have z1:=GS a.toNat;have z2:=GS b.toNat;rcases ha with⟨p,q,r⟩|⟨p,q,r⟩<;>rcases hb with⟨p',q',r'⟩|⟨p',q',r'⟩<;>rw[p,q,r,p',q',r']<;>simp only[Bool.false_eq_true,Bool.true_eq_false,and_false,or_false,and_true]<;>omega
theorem GU(a b:Int)(h0:0<=a)(h1:a<4294967296)(g0:0<=b)(g1:b<4294967296):sv a.toNat=sv b.toNat↔(a=b\/(a%2147483648=0/\b%2147483648=0)):=by
 have hr:=BC a h0;have hs:=BC b g0;constructor
 .intro h;obtain⟨e,f⟩:=VO h;rcases f with f|f
  .exact Or.inl (Ub h0 h1 g0 g1 e f)
  .right;omega
 .rintro(h|⟨h,k⟩)
  .rw[h]
  .have z1:=(GS a.toNat).2 oM;have z2:=(GS b.toNat).2 oM;unfold sv sg;rw[z1,z2];simp
theorem Qq(a b:Int)(h0:0<=a)(h1:a<4294967296)(g0:0<=b)(g1:b<4294967296)(hn:nan a=false)(hm:nan b=false):GL a b=if BD b<BD a then b else a:=by
 unfold GL;rw[Hv a b h0 g0,if_neg (by simp[hn,hm])];have hk:=Mg b a g0 g1 h0 h1;rcases Int.lt_trichotomy (sv a.toNat) (sv b.toNat)with c|c|c
 .have hne:¬ (BD b<BD a):=by
   exact YY
  rw[LU c];simp only [];rw[if_neg hne]
 .rw[LR c];simp only [];rcases(GU a b h0 h1 g0 g1).1 c with e|⟨e,f⟩
  .subst e;split<;>simp
  .unfold BD;by_cases d1:2147483648<=a<;>by_cases d2:2147483648<=b<;>simp only[d1,d2,if_true,if_false]
   .rw[if_neg oM]
   .rw[if_neg oM]
   .rw[if_pos oM]
   .rw[if_neg oM];omega
 .rw[LS c];simp only [];rw[if_pos (hk.2 (Or.inl c))]
theorem Qo(a b:Int)(h0:0<=a)(h1:a<4294967296)(g0:0<=b)(g1:b<4294967296)(hn:nan a=false)(hm:nan b=false):Hg a b=if BD b>BD a then b else a:=by
 unfold Hg;rw[Hv a b h0 g0,if_neg (by simp[hn,hm])];have hk:=Mg a b h0 h1 g0 g1;rcases Int.lt_trichotomy (sv a.toNat) (sv b.toNat)with c|c|c
 .rw[LU c];simp only [];rw[if_pos (show BD b>BD a from hk.2 (Or.inl c))]
 .rw[LR c];simp only [];rcases(GU a b h0 h1 g0 g1).1 c with e|⟨e,f⟩
  .subst e;split<;>simp
  .unfold BD;by_cases d1:2147483648<=a<;>by_cases d2:2147483648<=b<;>simp only[d1,d2,if_true,if_false]
   .rw[if_neg oM];omega
   .rw[if_pos oM]
   .rw[if_neg oM]
   .rw[if_neg oM]
 .have hne:¬ (BD b>BD a):=by
   show¬ (BD a<BD b);exact YY
  rw[LS c];simp only [];rw[if_neg hne]
theorem OG(a b:Int)(h0:0<=a)(h1:a<4294967296)(g0:0<=b)(g1:b<4294967296)(hn:nan a=false)(hm:nan b=false):Hf a b=(decide (BD a<BD b)&& !((a%2147483648==0)&&(b%2147483648==0))):=by
 have h:=OF a b h0 g0;have hk:=Mg a b h0 h1 g0 g1;have hr:=BC a h0;have hs:=BC b g0;have hz:=GU a b h0 h1 g0 g1;simp only[hn,hm,true_and]at h;rw[Bool.eq_iff_iff,h];simp only[Bool.and_eq_true,decide_eq_true_eq,Bool.not_eq_true',Bool.and_eq_false_iff,beq_eq_false_iff_ne];constructor
 .intro c;refine⟨hk.2 (Or.inl c),?_⟩;by_cases e:a%2147483648=0
  .right;intro f;have:=hz.2 (Or.inr ⟨e,f⟩);omega
  .exact Or.inl e
 .rintro⟨c,d⟩;rcases hk.1 c with e|⟨e1,e2,-,-⟩
  .exact e
  .exfalso;rcases d with d|d<;>omega
theorem CY(a b:Int)(h0:0<=a)(g0:0<=b)(h:nan a=true\/nan b=true):Hf a b=false/\Zl a b=false/\GL a b=2143289344/\Hg a b=2143289344:=by
 unfold Hf Zl GL Hg;rw[Hv a b h0 g0,if_pos h];exact⟨rfl,rfl,rfl,rfl⟩
theorem Gf(a:Int)(h0:0<=a)(h1:a<4294967296)(w:World):
 Calls prog 98 #[.int .i64 a] w fun e w'=>e=.returned (.int .i64 (BD a))/\w'=w:=by
 have hx:=Dx a h0 h1;unfold BD;by_cases c:2147483648<=a
 .have h2:a/2147483648=1:=oM;rw[if_pos c];go_enter func98,ntmps98;go_wp2;go_ret;exact⟨FO oM,rfl⟩
 .have h2:a/2147483648=0:=oM;rw[if_neg c];go_enter func98,ntmps98;go_wp2;go_ret;exact⟨FO oM,rfl⟩
theorem EL(a:Int)(h0:0<=a)(h1:a<4294967296)(w:World):
 Calls prog 121 #[.int .i64 a] w fun e w'=>e=.returned (.bool (a%2147483648==0))/\w'=w:=by
 have hx:=Dx a h0 h1;go_enter func121,ntmps121;go_wp2;go_ret;exact⟨rfl,rfl⟩
theorem EJ(a:Int)(h0:0<=a)(h1:a<4294967296)(w:World):
 Calls prog 66 #[.int .i64 a] w fun e w'=>e=.returned (.int .i64 (A9 a))/\Below w.heap.size w w':=by
 have hf:=ET;unfold A9;rw[<-Bt a h0 h1];cases hna:Bc a
 .rw[if_neg dE];go_enter func66,ntmps66;exact PZ
 .rw[if_pos rfl];go_enter func66,ntmps66;exact PZ
theorem Kx(a:Int)(h0:0<=a)(h1:a<4294967296)(b:Int)(g0:0<=b)(g1:b<4294967296)(w:World):
 Calls prog 71 #[.int .i64 a,.int .i64 b] w fun e w'=>e=.returned (.int .i64 (GL a b))/\Below w.heap.size w w':=by
 have ea:=Bt a h0 h1;have eb:=Bt b g0 g1;cases hna:Bc a
 .cases hnb:Bc b
  .rw[Qq a b h0 h1 g0 g1 W5 W4];clear ea eb;by_cases c:BD b<BD a
   .rw[if_pos c];go_enter func71,ntmps71;exact UO
   .rw[if_neg c];go_enter func71,ntmps71;exact UO
  .rw[(CY a b h0 g0 (Or.inr W4)).2.2.1];clear ea eb;go_enter func71,ntmps71;exact UO
 .rw[(CY a b h0 g0 (Or.inl W5)).2.2.1];clear ea eb;go_enter func71,ntmps71;exact UO
theorem R1(a:Int)(h0:0<=a)(h1:a<4294967296)(b:Int)(g0:0<=b)(g1:b<4294967296)(w:World):
 Calls prog 115 #[.int .i64 a,.int .i64 b] w fun e w'=>e=.returned (.int .i64 (Hg a b))/\Below w.heap.size w w':=by
 have ea:=Bt a h0 h1;have eb:=Bt b g0 g1;cases hna:Bc a
 .cases hnb:Bc b
  .rw[Qo a b h0 h1 g0 g1 W5 W4];clear ea eb;by_cases c:BD b>BD a
   .rw[if_pos c];go_enter func115,ntmps115;exact UO
   .rw[if_neg c];go_enter func115,ntmps115;exact UO
  .rw[(CY a b h0 g0 (Or.inr W4)).2.2.2];clear ea eb;go_enter func115,ntmps115;exact UO
 .rw[(CY a b h0 g0 (Or.inl W5)).2.2.2];clear ea eb;go_enter func115,ntmps115;exact UO
theorem Pd(a:Int)(h0:0<=a)(h1:a<4294967296)(b:Int)(g0:0<=b)(g1:b<4294967296)(w:World):
 Calls prog 116 #[.int .i64 a,.int .i64 b] w fun e w'=>e=.returned (.bool (Hf a b))/\Below w.heap.size w w':=by
 have ea:=Bt a h0 h1;have eb:=Bt b g0 g1;cases hna:Bc a
 .cases hnb:Bc b
  .rw[OG a b h0 h1 g0 g1 W5 W4];clear ea eb;cases za:(a%2147483648==0)<;>cases zb:(b%2147483648==0)<;>simp only[Bool.and_true,Bool.and_false,Bool.not_true,Bool.not_false]
   all_goals(
    go_enter func116,ntmps116;go_wp2_with(first
     |(go_at_call 91;refine(C8 _ oM oM _).mono ?_;rintro e w' ⟨rfl,o,rfl⟩)
     |(go_at_call 92;refine(CH _ _ _ _ _ _ _ _ _ _ _).mono ?_;rintro e w' ⟨rfl,o,p,rfl⟩)
     |(go_at_call 98;refine(Gf _ oM oM _).mono ?_;rintro e w' ⟨rfl,rfl⟩)
     |(go_at_call 121;refine(EL _ oM oM _).mono ?_;rintro e w' ⟨rfl,rfl⟩))
    go_ret
    exact⟨rfl,gG⟩)
  .rw[(CY a b h0 g0 (Or.inr W4)).1];exact Yu
 .rw[(CY a b h0 g0 (Or.inl W5)).1];exact Yu
theorem KP(c:Int)(e0:0<=c)(e1:c<4294967296)(a:Int)(h0:0<=a)(h1:a<4294967296)(b:Int)(g0:0<=b)(g1:b<4294967296)(w:World):
 Calls prog 117 #[.int .i64 c,.int .i64 a,.int .i64 b] w fun e w'=>e=.returned (.int .i64 (Jj c a b))/\Below w.heap.size w w':=by
 have hf:=ET;unfold Jj;rw[<-Bt c e0 e1];cases hn:Bc c<;>cases hz:(c%2147483648==0)<;>simp only[Bool.or_true,Bool.or_false,if_true,if_false,Bool.false_eq_true]
 all_goals(
  go_enter func117,ntmps117;go_wp2_with(first
   |(go_at_call 91;refine(C8 _ oM oM _).mono ?_;rintro e w' ⟨rfl,o,rfl⟩)
   |(go_at_call 121;refine(EL _ oM oM _).mono ?_;rintro e w' ⟨rfl,rfl⟩)
   |(go_at_call 66;refine(EJ _ oM oM _).mono ?_;rintro e w1 ⟨rfl,hb1⟩))
  go_ret
  exact⟨rfl,H5 gG hb1⟩)
def Q9(w:World)(b:Nat):Nat:=match w.cell? ⟨b,1,none⟩with
 |some (.int _ x)=>x.toNat
 |_=>0
theorem Gt(w:World)(v0 v2 v3 v4:Value)(X:Int)(t:TypeId)(p:Obj):Q9 ((w.alloc (.cells #[v0,.int .u64 X,v2,v3,v4] t)).alloc p) w.heap.size=X.toNat:=by
 have:((w.alloc (.cells #[v0,.int .u64 X,v2,v3,v4] t)).alloc p).cell? ⟨w.heap.size,1,none⟩=some (.int .u64 X):=by
  simp
 unfold Q9;rw[this]
theorem Ux(s:Bool)(m e:Int)(i n:Bool)(h0:0<m)(h1:m<16777216)(e0: -149<=e)(e1:e<=104)(w:World):
 Calls prog 120 #[.agg #[.bool s,.int .u64 m,.int .i64 e,.bool i,.bool n]] w fun x w'=>(∃k:Nat,k<=23/\x=.returned (.agg #[.bool s,.int .u64 (m*2^k),.int .i64 (e-k),.bool i,.bool n])/\8388608<=m*2^k/\m*2^k<16777216)/\∃o p,w'=(w.alloc o).alloc p:=by
 go_enter func120,ntmps120;go_wp2
 go_loopw [4] (fun _ wr=>∃ (k:Nat),k<=23/\m*2^k<16777216/\wr=(w.alloc (.cells #[.bool s,.int .u64 (m*2^k),.int .i64 (e-k),.bool i,.bool n] 152)).alloc (.cells #[.bool false,.int .u64 0,.int .i64 0,.bool false,.bool false] 152)) (fun _ wr=>16777216-Q9 wr w.heap.size)
 case atStart=>exact⟨0,oM,by simpa using h1,sM⟩
 case round=>
  obtain⟨k,hk,hm,rfl⟩:=hrel;have hP:(1:Int)<=2^k:=Int.pow_pos dE;have hX:0<m*2^k:=Int.mul_pos h0 oM;by_cases c:m*2^k<8388608
  .have hs:m*2^(k+1)=m*2^k*2:=by rw[Int.pow_succ,<-Int.mul_assoc]
   have HS:Hid (m*2^(k+1)=m*2^k*2):=hs;have hk23:k<=22:=by
    rcases Nat.lt_or_ge 22 k with d|d
    .exfalso;have h2:8388608<=2^k:=gH (show 8388608<=2^23 by decide) (Nat.pow_le_pow_right dE oM);have h3:((8388608:Nat):Int)<=((2^k:Nat):Int):=Int.ofNat_le.2 h2;rw[Int.natCast_pow]at h3;have h4:(1:Int)*2^k<=m*2^k:=Int.mul_le_mul_of_nonneg_right oM oM;have h5:((8388608:Nat):Int)=8388608:=rfl;have h6:(((2:Nat):Int))^k=(2:Int)^k:=rfl;omega
    .exact d
   clear hs;generalize m*2^k=X at *;go_wp2;go_roundw
   case rel=>
    refine⟨k+1,oM,?_,?_⟩
    .rw[HS.out];omega
    .rw[HS.out,show e-(k:Int)-1=e-((k+1:Nat):Int) by omega]
   case measure=>rw[Gt,Gt];omega
  .generalize hXX:m*2^k=X at *;have HX:Hid (m*2^k=X):=hXX;clear hXX;go_wp2;go_returns;exact⟨⟨k,hk,by rw[HX.out],by rw[HX.out];omega,by rw[HX.out];omega⟩,_,_,rfl⟩
def nk(m:Int):Nat:=23-m.toNat.log2
theorem Db(k:Nat):((2^k:Nat):Int)=(2:Int)^k:=Int.natCast_pow 2 k
theorem TO(m:Int)(k:Nat)(h0:0<m)(hk:k<=23)(h:8388608<=m*2^k)(h':m*2^k<16777216):k=nk m:=by
 obtain⟨n,rfl⟩:=Int.eq_ofNat_of_zero_le (Int.le_of_lt h0);rw[<-Db,<-Int.natCast_mul]at h h';have hn:n≠0:=oM;have e:(n*2^k).log2=n.log2+k:=by
  refine(Nat.log2_eq_iff oM).2 ⟨?_,?_⟩
  .rw[Nat.pow_add];exact Nat.mul_le_mul_right _ (Nat.log2_self_le hn)
  .rw[show n.log2+k+1=n.log2+1+k by omega,Nat.pow_add];exact Nat.mul_lt_mul_of_pos_right Nat.lt_log2_self (Nat.two_pow_pos k)
 have e2:(n*2^k).log2=23:=(Nat.log2_eq_iff oM).2 ⟨oM,oM⟩;unfold nk;rw[Int.toNat_natCast];omega
theorem MJ(s:Bool)(m e:Int)(i n:Bool)(h0:0<m)(h1:m<16777216)(e0: -149<=e)(e1:e<=104)(w:World):
 Calls prog 120 #[.agg #[.bool s,.int .u64 m,.int .i64 e,.bool i,.bool n]] w fun x w'=>x=.returned (.agg #[.bool s,.int .u64 (m*2^nk m),.int .i64 (e-nk m),.bool i,.bool n])/\∃o p,w'=(w.alloc o).alloc p:=by
 refine(Ux s m e i n h0 h1 e0 e1 w).mono ?_;rintro x w' ⟨⟨k,hk,rfl,ha,hb⟩,ho⟩;have:=TO m k h0 hk ha hb;subst this;exact⟨rfl,ho⟩
theorem DH(m:Int)(h0:0<m)(h1:m<16777216):nk m<=23/\8388608<=m*2^nk m/\m*2^nk m<16777216:=by
 obtain⟨n,rfl⟩:=Int.eq_ofNat_of_zero_le (Int.le_of_lt h0);have hn:n≠0:=oM;have hl:n.log2<24:=(Nat.log2_lt hn).2 oM;have lo:=Nat.log2_self_le hn;have hi:n<2^(n.log2+1):=Nat.lt_log2_self;unfold nk;rw[Int.toNat_natCast,<-Db,<-Int.natCast_mul];refine⟨oM,?_,?_⟩
 .have:2^n.log2*2^(23-n.log2)<=n*2^(23-n.log2):=Nat.mul_le_mul_right _ lo;rw[<-Nat.pow_add,show n.log2+(23-n.log2)=23 by omega]at this;omega
 .have:n*2^(23-n.log2)<2^(n.log2+1)*2^(23-n.log2):=Nat.mul_lt_mul_of_pos_right hi (Nat.two_pow_pos _);rw[<-Nat.pow_add,show n.log2+1+(23-n.log2)=24 by omega]at this;omega
theorem JA(a:Int)(h0:0<=a)(h1:a<4294967296)(hi:CF a=false)(hn:Bc a=false):rg a.toNat<2139095040/\ng a.toNat=AK a/\(mg a.toNat:Int)=nM a/\(te a.toNat:Int)=nE a+149:=by
 have h:=Be a h0 h1 hi hn;have hf:rg a.toNat<2139095040:=by
  rcases Nat.lt_trichotomy (rg a.toNat) 2139095040 with c|c|c
  .exact c
  .rw[Dd _ c]at h;cases h.1
  .rw[De _ c]at h;cases h.1
 rw[BB _ hf]at h;have e:=h.1;injection e with e1 e2 e3;exact⟨hf,e1,oM,oM⟩
theorem Dk(a b:Int){d e:Ieee.Datum}(h:Ieee.single.read a.toNat=d)(k:Ieee.single.read b.toNat=e):F9 a b=Ny ((d.quotient 25 e).map Ieee.single.write):=by
 unfold F9 Ieee.Format.div;rw[h,k];rfl
theorem Qb(p q:Nat):(2*((p:Int)*274877906944/(q:Int))+(if(p:Int)*274877906944%(q:Int)=0 then 0 else 1)).toNat=2*((p<<<38)/q)+((p<<<38)%q != 0).toNat:=by
 have e:(p:Int)*(274877906944:Int)=((p<<<38:Nat):Int):=by
  rw[Nat.shiftLeft_eq,Int.natCast_mul,Db];rfl
 rw[e,<-Int.natCast_ediv,<-Int.natCast_emod];generalize (p<<<38)/q=x;generalize (p<<<38)%q=y;have hb:(y != 0).toNat=if y=0 then 0 else 1:=by by_cases c:y=0<;>simp[c]
 rw[hb];by_cases c:y=0
 .rw[if_pos c,if_pos oM];omega
 .rw[if_neg c,if_neg oM];omega
theorem P0(M N j k r:Nat)(E F:Int)(ta tb:Nat)(hE:(ta:Int)=E+149)(hF:(tb:Int)=F+149)(hj:j<=23)(hk:k<=23)(hM:8388608<=M*2^j)(hN:8388608<=N*2^k)(hN2:N*2^k<16777216)(hNpos:0<N)
 (hnear:F5 23 (M*2^ta*2^149) (N*2^tb) r):
 r=Bv 23 (-149) (2*(((M*2^j)<<<38)/(N*2^k))+(((M*2^j)<<<38)%(N*2^k) != 0).toNat) (E-j-(F-k)-39):=by
 have hq:0<N*2^k:=oM;have big:25<=(2*(((M*2^j)<<<38)/(N*2^k))+(((M*2^j)<<<38)%(N*2^k) != 0).toNat).log2:=by
  refine Ib hq (j:=24) ?_;exact gH (Nat.mul_le_mul_right _ (show N*2^k<=16777216 by omega)) (gH dE (Nat.mul_le_mul_right _ hM))
 obtain⟨s,hs⟩:∃s:Nat,(s:Int)=F-k+172:=⟨(F-k+172).toNat,oM⟩
 obtain⟨x,hx⟩:∃x:Nat,(x:Int)=E-j+321:=⟨(E-j+321).toNat,oM⟩
 have h2:=IP (M*2^j) (N*2^k) 38 hq (E-j-(F-k)-39) big x s oM oM;refine hnear.unique h2 (Nat.mul_pos hNpos (Nat.two_pow_pos _)) (Nat.mul_pos hq (Nat.two_pow_pos s)) ?_;obtain⟨z,hz⟩:∃z:Nat,z=149:=⟨_,rfl⟩
 rw[<-hz];have e1:M*2^ta*2^z*(N*2^k*2^s)=M*N*2^(ta+z+k+s):=by
  rw[Nat.pow_add,Nat.pow_add,Nat.pow_add];grind
 have e2:M*2^j*2^x*(N*2^tb)=M*N*2^(j+x+tb):=by
  rw[Nat.pow_add,Nat.pow_add];grind
 rw[e1,e2,show ta+z+k+s=j+x+tb by omega]
theorem Qk(a b:Int)(h0:0<=a)(h1:a<4294967296)(g0:0<=b)(g1:b<4294967296)(hia:CF a=false)(hna:Bc a=false)(hib:CF b=false)(hnb:Bc b=false)(za:nM a≠0)(zb:nM b≠0)
 (A B:Int) (hA:nM a*2^nk (nM a)=A) (hB:nM b*2^nk (nM b)=B):
 F9 a b=(Ieee.single.nearest (AK a != AK b) (2*(A*274877906944/B)+(if A*274877906944%B=0 then 0 else 1)).toNat (nE a-nk (nM a)-(nE b-nk (nM b))-39):Nat):=by
 obtain⟨fa,sa,ma,ta⟩:=JA a h0 h1 hia hna;obtain⟨fb,sb,mb,tb⟩:=JA b g0 g1 hib hnb;obtain⟨-,a1,a2,a3,a4,-⟩:=Be a h0 h1 hia hna;obtain⟨-,b1,b2,b3,b4,-⟩:=Be b g0 g1 hib hnb;obtain⟨ka,A1,A2⟩:=DH (nM a) oM a2;obtain⟨kb,B1,B2⟩:=DH (nM b) oM b2;obtain⟨r,hr,hnear⟩:=Te a.toNat b.toNat fa fb oM oM;have cA:A=((mg a.toNat*2^nk (nM a):Nat):Int):=by rw[Int.natCast_mul,Db,ma,hA]
 have cB:B=((mg b.toNat*2^nk (nM b):Nat):Int):=by rw[Int.natCast_mul,Db,mb,hB]
 rw[Gy,Gy]at hnear;have BD:=P0 (mg a.toNat) (mg b.toNat) (nk (nM a)) (nk (nM b)) r (nE a) (nE b) (te a.toNat) (te b.toNat) ta tb ka kb oM oM oM oM hnear;unfold F9;rw[hr,sa,sb,CS];show((wd (AK a != AK b) r:Nat):Int)=_;rw[B9,Cr,Bo,GZ,cA,cB,Qb,<-BD]
def dn(o:Option Nat):Nat:=match o with
 |some _=>0
 |none=>1
section
variable {P : Program} (w : World)
end
section
variable (w : World) (n : Nat)
@[go_sem] theorem alloc_drewN (o:Obj):(w.drewN n).alloc o=(w.alloc o).drewN n:=rfl
@[go_sem] theorem setCell_drewN (a:Addr) (v:Value):(w.drewN n).setCell a v=(w.setCell a v).drewN n:=rfl
end
theorem G9{w:World}{a:Addr}{v:Value}(h:w.cell? a=some v):a.block<w.heap.size:=by
 rcases Nat.lt_or_ge a.block w.heap.size with c|c
 .exact c
 .have:w.heap[a.block]? =none:=Array.getElem?_eq_none c;simp[World.cell?,this]at h
theorem Mj(w:World)(o:Obj):Below w.heap.size w (w.alloc o):=(Below.refl _ _).alloc (gF _) o
section
variable {w : World} {cs : List (Addr × Value)} {g : Nat} {x y : Value} {v v' : World}
end
def AP(w:World)(p:Option Addr)(n:Nat)(X:Nat->Value):Prop:=n=0\/∃b o,p=some ⟨b,o,none⟩/\∀i,i<n->w.cell? ⟨b,o+i,none⟩=some (X i)
theorem AP.below{w w':World}{p:Option Addr}{n:Nat}{X:Nat->Value}(h:AP w p n X)(k:Below w.heap.size w w'):AP w' p n X:=by
 rcases h with h|⟨b,o,e,h⟩
 .exact .inl h
 .exact .inr ⟨b,o,e,fun i hi=>(k.cell (G9 (h i hi))).trans (h i hi)⟩
theorem AP.congr{w:World}{p:Option Addr}{n:Nat}{X Y:Nat->Value}(h:AP w p n X)(e:∀i,i<n->X i=Y i):AP w p n Y:=by
 rcases h with h|⟨b,o,q,h⟩
 .exact .inl h
 .exact .inr ⟨b,o,q,fun i hi=>by rw[h i hi,e i hi]⟩

def nums(X:Nat->Int)(n:Nat):List Value:=(List.range n).map fun i=>.int .u32 (X i)
end Go.Proofs.YtheanilpbnencaaGreat
