import Derived.Test.YtnbccaicijcklaaGreatMns2
import Derived.Test.YtnbccaicijcklaaGreatMns1
import Derived.Test.YtnbccaicijcklaaGreatRows
import Derived.WalkKit
import Derived.WalkSpells
import Derived.WalkLawsBesides
import Derived.Test.YtnbccaicijcklaaGreatMns4
import Derived.Laws.FloatArith
import Derived.Laws.Externs
import Derived.Below
import Derived.Handy
import Derived.Deep.Draws
import Derived.Laws.ComplexArith
import Derived.Deep.RegionHeld3
import Derived.Deep.DeepCutAuto
import Derived.Deep.OwnRows
import Derived.OwnWalk
namespace Go.Proofs.YtnbccaicijcklaaGreat
open Go.RowKit Go.Proofs.Tryz
set_option linter.all false
set_option maxRecDepth 100000
set_option maxHeartbeats 16000000
theorem WP(w:World):Calls prog 48 #[.int .i64 22] w fun e w'=>e=.returned (.tuple #[DN (A4 22),.bool true])/\Below w.heap.size w w':=by
 exact FC
theorem WQ(w:World):Calls prog 48 #[.int .i64 23] w fun e w'=>e=.returned (.tuple #[DN (A4 23),.bool true])/\Below w.heap.size w w':=by
 exact FC
theorem WR(w:World):Calls prog 48 #[.int .i64 24] w fun e w'=>e=.returned (.tuple #[DN (A4 24),.bool true])/\Below w.heap.size w w':=by
 exact FC
theorem WT(w:World):Calls prog 48 #[.int .i64 25] w fun e w'=>e=.returned (.tuple #[DN (A4 25),.bool true])/\Below w.heap.size w w':=by
 exact FC
theorem WU(w:World):Calls prog 48 #[.int .i64 26] w fun e w'=>e=.returned (.tuple #[DN (A4 26),.bool true])/\Below w.heap.size w w':=by
 exact FC
theorem WV(w:World):Calls prog 48 #[.int .i64 27] w fun e w'=>e=.returned (.tuple #[DN (A4 27),.bool true])/\Below w.heap.size w w':=by
 exact FC
theorem WY(w:World):Calls prog 48 #[.int .i64 28] w fun e w'=>e=.returned (.tuple #[DN (A4 28),.bool true])/\Below w.heap.size w w':=by
 exact FC
theorem WZ(w:World):Calls prog 48 #[.int .i64 29] w fun e w'=>e=.returned (.tuple #[DN (A4 29),.bool true])/\Below w.heap.size w w':=by
 exact FC
theorem X4(w:World):Calls prog 48 #[.int .i64 30] w fun e w'=>e=.returned (.tuple #[DN (A4 30),.bool true])/\Below w.heap.size w w':=by
 exact FC
theorem X5(w:World):Calls prog 48 #[.int .i64 31] w fun e w'=>e=.returned (.tuple #[DN (A4 31),.bool true])/\Below w.heap.size w w':=by
 exact FC
theorem X6(w:World):Calls prog 48 #[.int .i64 32] w fun e w'=>e=.returned (.tuple #[DN (A4 32),.bool true])/\Below w.heap.size w w':=by
 exact FC
theorem X7(w:World):Calls prog 48 #[.int .i64 33] w fun e w'=>e=.returned (.tuple #[DN (A4 33),.bool true])/\Below w.heap.size w w':=by
 exact FC
theorem X8(w:World):Calls prog 48 #[.int .i64 34] w fun e w'=>e=.returned (.tuple #[DN (A4 34),.bool true])/\Below w.heap.size w w':=by
 exact FC
theorem X9(w:World):Calls prog 48 #[.int .i64 35] w fun e w'=>e=.returned (.tuple #[DN (A4 35),.bool true])/\Below w.heap.size w w':=by
 exact FC
theorem Xa(w:World):Calls prog 48 #[.int .i64 36] w fun e w'=>e=.returned (.tuple #[DN (A4 36),.bool true])/\Below w.heap.size w w':=by
 exact FC
theorem Xb(w:World):Calls prog 48 #[.int .i64 37] w fun e w'=>e=.returned (.tuple #[DN (A4 37),.bool true])/\Below w.heap.size w w':=by
 exact FC
theorem WG(w:World):Calls prog 48 #[.int .i64 13] w fun e w'=>e=.returned (.tuple #[DN (A4 13),.bool true])/\Below w.heap.size w w':=by
 exact FC
theorem WH(w:World):Calls prog 48 #[.int .i64 14] w fun e w'=>e=.returned (.tuple #[DN (A4 14),.bool true])/\Below w.heap.size w w':=by
 exact FC
theorem WI(w:World):Calls prog 48 #[.int .i64 15] w fun e w'=>e=.returned (.tuple #[DN (A4 15),.bool true])/\Below w.heap.size w w':=by
 exact FC
theorem WJ(w:World):Calls prog 48 #[.int .i64 16] w fun e w'=>e=.returned (.tuple #[DN (A4 16),.bool true])/\Below w.heap.size w w':=by
 exact FC
theorem WK(w:World):Calls prog 48 #[.int .i64 17] w fun e w'=>e=.returned (.tuple #[DN (A4 17),.bool true])/\Below w.heap.size w w':=by
 exact FC
theorem WL(w:World):Calls prog 48 #[.int .i64 18] w fun e w'=>e=.returned (.tuple #[DN (A4 18),.bool true])/\Below w.heap.size w w':=by
 exact FC
theorem WM(w:World):Calls prog 48 #[.int .i64 19] w fun e w'=>e=.returned (.tuple #[DN (A4 19),.bool true])/\Below w.heap.size w w':=by
 exact FC
theorem WN(w:World):Calls prog 48 #[.int .i64 20] w fun e w'=>e=.returned (.tuple #[DN (A4 20),.bool true])/\Below w.heap.size w w':=by
 exact FC
theorem WO(w:World):Calls prog 48 #[.int .i64 21] w fun e w'=>e=.returned (.tuple #[DN (A4 21),.bool true])/\Below w.heap.size w w':=by
 exact FC
theorem Qp(op:Int)(h:Al op=false)(w:World):Calls prog 48 #[.int .i64 op] w fun e w'=>e=.returned (.tuple #[DN ⟨0,0,0,0,0⟩,.bool false])/\Below w.heap.size w w':=by
 have hh:op<1\/37<op:=by unfold Al at h;simp at h;omega
 have e1:(op==1)=false:=by have:op≠1:=oM;simpa using this
 have e2:(op==2)=false:=by have:op≠2:=oM;simpa using this
 have e3:(op==3)=false:=by have:op≠3:=oM;simpa using this
 have e4:(op==4)=false:=by have:op≠4:=oM;simpa using this
 have e5:(op==5)=false:=by have:op≠5:=oM;simpa using this
 have e6:(op==6)=false:=by have:op≠6:=oM;simpa using this
 have e7:(op==7)=false:=by have:op≠7:=oM;simpa using this
 have e8:(op==8)=false:=by have:op≠8:=oM;simpa using this
 have e9:(op==9)=false:=by have:op≠9:=oM;simpa using this
 have e10:(op==10)=false:=by have:op≠10:=oM;simpa using this
 have e11:(op==11)=false:=by have:op≠11:=oM;simpa using this
 have e12:(op==12)=false:=by have:op≠12:=oM;simpa using this
 have e13:(op==13)=false:=by have:op≠13:=oM;simpa using this
 have e14:(op==14)=false:=by have:op≠14:=oM;simpa using this
 have e15:(op==15)=false:=by have:op≠15:=oM;simpa using this
 have e16:(op==16)=false:=by have:op≠16:=oM;simpa using this
 have e17:(op==17)=false:=by have:op≠17:=oM;simpa using this
 have e18:(op==18)=false:=by have:op≠18:=oM;simpa using this
 have e19:(op==19)=false:=by have:op≠19:=oM;simpa using this
 have e20:(op==20)=false:=by have:op≠20:=oM;simpa using this
 have e21:(op==21)=false:=by have:op≠21:=oM;simpa using this
 have e22:(op==22)=false:=by have:op≠22:=oM;simpa using this
 have e23:(op==23)=false:=by have:op≠23:=oM;simpa using this
 have e24:(op==24)=false:=by have:op≠24:=oM;simpa using this
 have e25:(op==25)=false:=by have:op≠25:=oM;simpa using this
 have e26:(op==26)=false:=by have:op≠26:=oM;simpa using this
 have e27:(op==27)=false:=by have:op≠27:=oM;simpa using this
 have e28:(op==28)=false:=by have:op≠28:=oM;simpa using this
 have e29:(op==29)=false:=by have:op≠29:=oM;simpa using this
 have e30:(op==30)=false:=by have:op≠30:=oM;simpa using this
 have e31:(op==31)=false:=by have:op≠31:=oM;simpa using this
 have e32:(op==32)=false:=by have:op≠32:=oM;simpa using this
 have e33:(op==33)=false:=by have:op≠33:=oM;simpa using this
 have e34:(op==34)=false:=by have:op≠34:=oM;simpa using this
 have e35:(op==35)=false:=by have:op≠35:=oM;simpa using this
 have e36:(op==36)=false:=by have:op≠36:=oM;simpa using this
 have e37:(op==37)=false:=by have:op≠37:=oM;simpa using this
 clear hh h;exact FC
theorem Hy(op:Int)(h:Al op=false):A4 op=⟨0,0,0,0,0⟩:=by
 have hh:op<1\/37<op:=by unfold Al at h;simp at h;omega
 unfold A4
 repeat rw[if_neg oM]
theorem Iy(op:Int)(w:World):Calls prog 48 #[.int .i64 op] w fun e w'=>e=.returned (.tuple #[DN (A4 op),.bool (Al op)])/\Below w.heap.size w w':=by
 by_cases h:Al op=false
 .rw[h,Hy op h];exact Qp op h w
 .have hh:1<=op/\op<=37:=by unfold Al at h;simp at h;omega
  rw[show Al op=true by simpa using h];clear h;by_cases k1:op=1
  .subst k1;exact ZZ w
  by_cases k2:op=2
  .subst k2;exact rowOf_2 w
  by_cases k3:op=3
  .subst k3;exact rowOf_3 w
  by_cases k4:op=4
  .subst k4;exact rowOf_4 w
  by_cases k5:op=5
  .subst k5;exact rowOf_5 w
  by_cases k6:op=6
  .subst k6;exact rowOf_6 w
  by_cases k7:op=7
  .subst k7;exact rowOf_7 w
  by_cases k8:op=8
  .subst k8;exact rowOf_8 w
  by_cases k9:op=9
  .subst k9;exact rowOf_9 w
  by_cases k10:op=10
  .subst k10;exact WC w
  by_cases k11:op=11
  .subst k11;exact WD w
  by_cases k12:op=12
  .subst k12;exact WF w
  by_cases k13:op=13
  .subst k13;exact WG w
  by_cases k14:op=14
  .subst k14;exact WH w
  by_cases k15:op=15
  .subst k15;exact WI w
  by_cases k16:op=16
  .subst k16;exact WJ w
  by_cases k17:op=17
  .subst k17;exact WK w
  by_cases k18:op=18
  .subst k18;exact WL w
  by_cases k19:op=19
  .subst k19;exact WM w
  by_cases k20:op=20
  .subst k20;exact WN w
  by_cases k21:op=21
  .subst k21;exact WO w
  by_cases k22:op=22
  .subst k22;exact WP w
  by_cases k23:op=23
  .subst k23;exact WQ w
  by_cases k24:op=24
  .subst k24;exact WR w
  by_cases k25:op=25
  .subst k25;exact WT w
  by_cases k26:op=26
  .subst k26;exact WU w
  by_cases k27:op=27
  .subst k27;exact WV w
  by_cases k28:op=28
  .subst k28;exact WY w
  by_cases k29:op=29
  .subst k29;exact WZ w
  by_cases k30:op=30
  .subst k30;exact X4 w
  by_cases k31:op=31
  .subst k31;exact X5 w
  by_cases k32:op=32
  .subst k32;exact X6 w
  by_cases k33:op=33
  .subst k33;exact X7 w
  by_cases k34:op=34
  .subst k34;exact X8 w
  by_cases k35:op=35
  .subst k35;exact X9 w
  by_cases k36:op=36
  .subst k36;exact Xa w
  by_cases k37:op=37
  .subst k37;exact Xb w
  omega
theorem Xg{op:Int}(h:(A4 op).n=9):((op=29\/op=30)/\(A4 op).d=3)\/(op=31/\(A4 op).d=0/\(A4 op).a=3):=by
 have Bl:∀k:Fin 38,(A4 (k.val:Int)).n=9->k.val=29\/k.val=30\/k.val=31:=by decide+kernel
 by_cases hk:Al op=true
 .have hh:1<=op/\op<=37:=by unfold Al at hk;simp at hk;exact hk
  have e:((⟨op.toNat,oM⟩:Fin 38).val:Int)=op:=by show((op.toNat:Nat):Int)=op;omega
  have:=Bl ⟨op.toNat,oM⟩ (by rw[e];exact h);simp only at this;rcases this with h1|h1|h1
  .have:op=29:=oM;subst this;exact .inl ⟨.inl rfl,rfl⟩
  .have:op=30:=oM;subst this;exact .inl ⟨.inr rfl,rfl⟩
  .have:op=31:=oM;subst this;exact .inr ⟨rfl,rfl,rfl⟩
 .rw[Hy op (by simpa using hk)]at h;exact absurd h dE
theorem Kj{c:Cd}{n:Int}{m:Ty}(ht:Ax c=true)(h:Ah c.regs 3 n m=true):Av (Aa c.regs n).par c.sign.length=true:=by
 unfold Ah at h;rw[if_neg dE]at h;simp only[Bool.and_eq_true]at h;obtain⟨h1,h2⟩:=h;obtain⟨k,hk,hl⟩:=Dq h1;rw[Ft hk hl]at h2 |-;have hm:c.regs[k].kind=3:=by
  unfold B7 at h2;rw[if_neg dE,if_neg dE,if_pos rfl]at h2;simpa using h2
 have:=List.all_eq_true.1 ht c.regs[k] (gD hl);unfold AF at this;rw[if_neg oM,if_pos hm]at this;exact this
theorem Tp{c:Cd}{i:Ad}(ht:Ax c=true)(hd:Ah c.regs (A4 i.op).d i.d (AC c.regs i (A4 i.op))=true)(ha:Ah c.regs (A4 i.op).a i.a (AC c.regs i (A4 i.op))=true)(h9:(A4 i.op).n=9):Av (AC c.regs i (A4 i.op)).par c.sign.length=true:=by
 rcases Xg h9 with⟨_,e⟩|⟨_,e,e2⟩
 .rw[e]at hd;have:=Kj ht hd;unfold AC ED;rw[e,if_neg dE];exact this
 .rw[e2]at ha;have:=Kj ht ha;unfold AC ED;rw[e,if_pos rfl];exact this
theorem Wu{c:Cd}{i:Ad}{r:Rw}(h:AS c i r=true):∀x∈Ae i r,0<=x/\x<(c.regs.length:Int):=by
 intro x hx;unfold Ae at hx;rcases List.mem_append.1 hx with hx|hx
 .by_cases e:r.a=0
  .rw[if_pos e]at hx;cases hx
  .rw[if_neg e]at hx;simp at hx;subst hx;exact Ag (BD h) e
 rcases List.mem_append.1 hx with hx|hx
 .by_cases e:r.b=0
  .rw[if_pos e]at hx;cases hx
  .rw[if_neg e]at hx;simp at hx;subst hx;exact Ag (CP h) e
 .by_cases e:r.c=0
  .rw[if_pos e]at hx;cases hx
  .rw[if_neg e]at hx;simp at hx;subst hx;exact Ag (CQ h) e
theorem TJ(i:Ad)(r:Rw):(Ae i r).length<=3:=by
 rw[F2];simp only[List.length_append];have:=DS r.a i.a;have:=DS r.b i.b;have:=DS r.c i.c;omega
theorem ON{c:Cd}{s:Wk}{i:Ad}{r:Rw}(h:Az c s i r=true)(e:i.op=35\/i.op=37):s.opens≠[]:=by
 unfold Az at h;rw[if_neg oM]at h;intro hO;rcases e with e|e
 .rw[if_pos e,hO]at h;simp at h
 .rw[if_neg oM,if_pos e]at h;unfold AD at h;rw[hO]at h;cases h
structure TK(w:World)(H G C:Nat)(L0 L1 L2 L3 L4:Int)(v:World):Prop where
 bel:Below w.heap.size w v
 r0:v.cell? ⟨H,0,none⟩=some (.int .i64 L0)
 r1:v.cell? ⟨H,1,none⟩=some (.int .i64 L1)
 r2:v.cell? ⟨H,2,none⟩=some (.int .i64 L2)
 r3:v.cell? ⟨H,3,none⟩=some (.int .i64 L3)
 r4:v.cell? ⟨H,4,none⟩=some (.int .i64 L4)
 g0:v.cell? ⟨G,0,none⟩=some (.pointer (some ⟨C,0,none⟩))
theorem TK.next{w:World}{H G C:Nat}{L0 L1 L2 L3 L4:Int}{v v':World}(h:TK w H G C L0 L1 L2 L3 L4 v)(k:Below v.heap.size v v'):TK w H G C L0 L1 L2 L3 L4 v':=
 ⟨Go.Proofs.YtnbccaicijcklaaGreat.bel h.bel k,kc k h.r0,kc k h.r1,kc k h.r2,kc k h.r3,kc k h.r4,kc k h.g0⟩
theorem OR(E G C n gi:Nat)(vs vo:Value)(s:Wk)(v0 v1 v2 v3:Value)(c:Cd)(hk:Ba c)(b o:Nat)(i:Ad)(w:World)(h:WS E G C n gi vs vo w s)(hnn:c.regs.length=n)(ok:E5 n s)(hn:n<=16384)(hc:Cm w C v0 v1 v2 v3 c)(hi:Ar w b o (C9 i))(hbE:b<E)(htm:Ax c=true)(hb0:0<=i.bits)(hb1:i.bits<4294967296):
 Calls prog 27 #[.pointer (some ⟨G,0,none⟩),.pointer (some ⟨b,o,none⟩)] w fun e w'=>e=.returned (.bool (AG c s i))/\Below E w w'/\(AG c s i=true->∃vs' vo',WS E G C n gi vs' vo' w' (Aj s i)):=by
 have K1:=Iy i.op w;have K2:=fun v h1 h2=>Vh C v0 v1 v2 v3 c hk b o i (A4 i.op) v h1 h2 hb0 hb1 (Tp htm);have K3:=fun v h1 h2 h3=>MG E G C n gi vs vo s v0 v1 v2 v3 c hk b o i (A4 i.op) v h1 ok.nest h2 h3;have K4:=fun v h1=>GU b o i (A4 i.op) v h1;have K5:=fun(hf:AS c i (A4 i.op)=true) (hs:Az c s i (A4 i.op)=true) v h1 h2=>Wc E G C n gi vs vo s b o i (A4 i.op) v h1 ok hn h2 hbE (GW hs) (ON hs) (fun hd=>by have:=Ag (Cw hf) hd;rw[hnn]at this;exact this);have KL:AS c i (A4 i.op)=true->∀x∈Ae i (A4 i.op),0<=x/\x<(n:Int):=fun hf=>by have:=Wu hf;rw[hnn]at this;exact this
 have KN:=TJ i (A4 i.op);have HC0:Hid (Cm w C v0 v1 v2 v3 c):=hc;have HI0:Hid (Ar w b o (C9 i)):=hi;have HS0:Hid (WS E G C n gi vs vo w s):=h;have e0:=hi.at 0 rfl;rw[Nat.add_zero]at e0;have hE:=h.lt;have g0:=h.c0;unfold AG Aj;have hro:EQ s i (A4 i.op)=(Ae i (A4 i.op)).all fun n=>decide (n.toNat∈s.set):=rfl;rw[hro];obtain⟨op,hop⟩:∃x,i.op=x:=⟨_,rfl⟩
 rw[hop]at K1 K2 K3 K4 K5 KL KN e0 |-;obtain⟨r,hr⟩:=gA (A4 op)
 simp only[hr]at K1 K2 K3 K4 K5 KL KN |-;obtain⟨X0,hX0⟩:∃X,Al op=X:=⟨_,rfl⟩
 obtain⟨X1,hX1⟩:∃X,AS c i r=X:=⟨_,rfl⟩
 obtain⟨X2,hX2⟩:∃X,Az c s i r=X:=⟨_,rfl⟩
 obtain⟨RL,hRL⟩:∃X,Ae i r=X:=⟨_,rfl⟩
 obtain⟨Z,hZ⟩:=gA (Dd s i r)
 obtain⟨AL,hAL⟩:∃X,((Ae i r).all fun n=>decide (n.toNat∈s.set))=X:=⟨_,rfl⟩
 rw[hAL];simp only[hX0]at K1 |-;simp only[hX1]at K2 K5 KL |-;simp only[hX2]at K3 K5 |-;simp only[hRL]at K4 KL KN;rw[hRL]at hAL;have HAL:Hid ((RL.all fun n=>decide (n.toNat∈s.set))=AL):=hAL;simp only[hZ]at K5 |-;obtain⟨L0,L1,L2,L3,L4⟩:=r;unfold DN at K1 K2 K3 K4 K5;simp only at K1 K2 K3 K4 K5;have HK1:Hid (Calls prog 48 #[.int .i64 op] w fun e w'=>e=.returned (.tuple #[.agg #[.int .i64 L0,.int .i64 L1,.int .i64 L2,.int .i64 L3,.int .i64 L4],.bool X0])/\Below w.heap.size w w'):=K1;have HK2:Hid (∀v,Cm v C v0 v1 v2 v3 c->Ar v b o (C9 i)->Calls prog 49 #[.pointer (some ⟨C,0,none⟩),.pointer (some ⟨b,o,none⟩),.agg #[.int .i64 L0,.int .i64 L1,.int .i64 L2,.int .i64 L3,.int .i64 L4]] v fun e w'=>e=.returned (.bool X1)/\Below v.heap.size v w'):=K2;have HK3:Hid (∀v,WS E G C n gi vs vo v s->Cm v C v0 v1 v2 v3 c->Ar v b o (C9 i)->Calls prog 50 #[.pointer (some ⟨G,0,none⟩),.pointer (some ⟨b,o,none⟩),.agg #[.int .i64 L0,.int .i64 L1,.int .i64 L2,.int .i64 L3,.int .i64 L4]] v fun e w'=>e=.returned (.bool X2)/\Below v.heap.size v w'):=K3;have HK4:Hid (∀v,Ar v b o (C9 i)->Calls prog 51 #[.agg #[.int .i64 L0,.int .i64 L1,.int .i64 L2,.int .i64 L3,.int .i64 L4],.pointer (some ⟨b,o,none⟩)] v fun e w'=>∃u,e=.returned u/\w'.ownsRow v.heap.size 3 1 u RL.length (Cg RL)/\Below v.heap.size v w'):=K4;have HK5:Hid (X1=true->X2=true->∀v,WS E G C n gi vs vo v s->Ar v b o (C9 i)->Calls prog 52 #[.pointer (some ⟨G,0,none⟩),.pointer (some ⟨b,o,none⟩),.agg #[.int .i64 L0,.int .i64 L1,.int .i64 L2,.int .i64 L3,.int .i64 L4]] v fun e w'=>e=.returned (.tuple #[])/\Below E v w'/\∃vs' vo',WS E G C n gi vs' vo' w' Z):=K5;have HKL:Hid (X1=true->∀x∈RL,0<=x/\x<(n:Int)):=KL;clear K1 K2 K3 K4 K5 KL h hc hi hk hro hop hr hX0 hX1 hX2 hRL hZ hAL hb0 hb1 htm ok hnn;cases X0
 .go_enter func27,ntmps27;go_wp2_with(go_at_call 48;refine HK1.mono ?_;rintro e w1 ⟨rfl,hw1⟩;have HT:Hid (TK w w1.heap.size G C L0 L1 L2 L3 L4 (w1.alloc (.cells #[.int .i64 L0,.int .i64 L1,.int .i64 L2,.int .i64 L3,.int .i64 L4] 119))):=Zge);have HCX:Hid (∀v,Below (w1.alloc (.cells #[.int .i64 L0,.int .i64 L1,.int .i64 L2,.int .i64 L3,.int .i64 L4] 119)).heap.size (w1.alloc (.cells #[.int .i64 L0,.int .i64 L1,.int .i64 L2,.int .i64 L3,.int .i64 L4] 119)) v->v.cell? ⟨G,0,none⟩=some (.pointer (some ⟨C,0,none⟩))/\v.cell? ⟨w1.heap.size,0,none⟩=some (.int .i64 L0)/\v.cell? ⟨w1.heap.size,1,none⟩=some (.int .i64 L1)/\v.cell? ⟨w1.heap.size,2,none⟩=some (.int .i64 L2)/\v.cell? ⟨w1.heap.size,3,none⟩=some (.int .i64 L3)/\v.cell? ⟨w1.heap.size,4,none⟩=some (.int .i64 L4)):=fun v hv=>⟨(HT.next hv).g0,(HT.next hv).r0,(HT.next hv).r1,(HT.next hv).r2,(HT.next hv).r3,(HT.next hv).r4⟩;obtain⟨t0,t1,t2,t3,t4,t5⟩:=HCX.out _ (BZ _);refine rG (fun v=>v.cell? ⟨G,0,none⟩=some (.pointer (some ⟨C,0,none⟩))/\v.cell? ⟨w1.heap.size,0,none⟩=some (.int .i64 L0)/\v.cell? ⟨w1.heap.size,1,none⟩=some (.int .i64 L1)/\v.cell? ⟨w1.heap.size,2,none⟩=some (.int .i64 L2)/\v.cell? ⟨w1.heap.size,3,none⟩=some (.int .i64 L3)/\v.cell? ⟨w1.heap.size,4,none⟩=some (.int .i64 L4)) fun hJ=>?_;refine Tc 0 1 2 ?_;refine Kd 3 4 5 6 ?_;refine Kd 7 8 9 10 ?_;refine Tb 11 12 ?_;refine Kd 13 14 15 16 ?_;refine Ep 17 ?_;refine Bo 18 ?_;refine wpAnyH_done kR ?_ _;go_wp2;go_ret;exact⟨rfl,(bel HT.bel (A9 _)).mono hE,fun e=>absurd e sM⟩
 cases X1
 .go_enter func27,ntmps27;go_wp2_with(go_at_call 48;refine HK1.mono ?_;rintro e w1 ⟨rfl,hw1⟩;have HT:Hid (TK w w1.heap.size G C L0 L1 L2 L3 L4 (w1.alloc (.cells #[.int .i64 L0,.int .i64 L1,.int .i64 L2,.int .i64 L3,.int .i64 L4] 119))):=Zge);have HCX:Hid (∀v,Below (w1.alloc (.cells #[.int .i64 L0,.int .i64 L1,.int .i64 L2,.int .i64 L3,.int .i64 L4] 119)).heap.size (w1.alloc (.cells #[.int .i64 L0,.int .i64 L1,.int .i64 L2,.int .i64 L3,.int .i64 L4] 119)) v->v.cell? ⟨G,0,none⟩=some (.pointer (some ⟨C,0,none⟩))/\v.cell? ⟨w1.heap.size,0,none⟩=some (.int .i64 L0)/\v.cell? ⟨w1.heap.size,1,none⟩=some (.int .i64 L1)/\v.cell? ⟨w1.heap.size,2,none⟩=some (.int .i64 L2)/\v.cell? ⟨w1.heap.size,3,none⟩=some (.int .i64 L3)/\v.cell? ⟨w1.heap.size,4,none⟩=some (.int .i64 L4)):=fun v hv=>⟨(HT.next hv).g0,(HT.next hv).r0,(HT.next hv).r1,(HT.next hv).r2,(HT.next hv).r3,(HT.next hv).r4⟩;obtain⟨t0,t1,t2,t3,t4,t5⟩:=HCX.out _ (BZ _);refine rG (fun v=>v.cell? ⟨G,0,none⟩=some (.pointer (some ⟨C,0,none⟩))/\v.cell? ⟨w1.heap.size,0,none⟩=some (.int .i64 L0)/\v.cell? ⟨w1.heap.size,1,none⟩=some (.int .i64 L1)/\v.cell? ⟨w1.heap.size,2,none⟩=some (.int .i64 L2)/\v.cell? ⟨w1.heap.size,3,none⟩=some (.int .i64 L3)/\v.cell? ⟨w1.heap.size,4,none⟩=some (.int .i64 L4)) fun hJ=>?_;refine Tf 0 1 2 3 4 5 ?_;refine Tc 6 7 8 ?_;clear hJ;refine Aw 9 fun K hK=>?_;go_simp;(go_at_call 49;refine(HK2.out _ (HC0.below (bel HT.bel (A9 _))) (HI0.below (bel HT.bel (A9 _)))).mono ?_;rintro e w2 ⟨rfl,hw2⟩;have HB2:=bel (A9 _) hw2;obtain⟨y0,y1,y2,y3,y4,y5⟩:=HCX.out w2 HB2);try(go_wp2_with fail)
  refine Aq hK fun hJ=>?_;clear hK K;refine Tc 10 11 12 ?_;refine Kd 13 14 15 16 ?_;refine Ep 17 ?_;refine Bo 18 ?_;refine wpAnyH_done kR ?_ _;go_wp2;go_ret;exact⟨rfl,(bel HT.bel HB2).mono hE,fun e=>absurd e sM⟩
 cases X2
 .go_enter func27,ntmps27;go_wp2_with(go_at_call 48;refine HK1.mono ?_;rintro e w1 ⟨rfl,hw1⟩;have HT:Hid (TK w w1.heap.size G C L0 L1 L2 L3 L4 (w1.alloc (.cells #[.int .i64 L0,.int .i64 L1,.int .i64 L2,.int .i64 L3,.int .i64 L4] 119))):=Zge);have HCX:Hid (∀v,Below (w1.alloc (.cells #[.int .i64 L0,.int .i64 L1,.int .i64 L2,.int .i64 L3,.int .i64 L4] 119)).heap.size (w1.alloc (.cells #[.int .i64 L0,.int .i64 L1,.int .i64 L2,.int .i64 L3,.int .i64 L4] 119)) v->v.cell? ⟨G,0,none⟩=some (.pointer (some ⟨C,0,none⟩))/\v.cell? ⟨w1.heap.size,0,none⟩=some (.int .i64 L0)/\v.cell? ⟨w1.heap.size,1,none⟩=some (.int .i64 L1)/\v.cell? ⟨w1.heap.size,2,none⟩=some (.int .i64 L2)/\v.cell? ⟨w1.heap.size,3,none⟩=some (.int .i64 L3)/\v.cell? ⟨w1.heap.size,4,none⟩=some (.int .i64 L4)):=fun v hv=>⟨(HT.next hv).g0,(HT.next hv).r0,(HT.next hv).r1,(HT.next hv).r2,(HT.next hv).r3,(HT.next hv).r4⟩;obtain⟨t0,t1,t2,t3,t4,t5⟩:=HCX.out _ (BZ _);refine rG (fun v=>v.cell? ⟨G,0,none⟩=some (.pointer (some ⟨C,0,none⟩))/\v.cell? ⟨w1.heap.size,0,none⟩=some (.int .i64 L0)/\v.cell? ⟨w1.heap.size,1,none⟩=some (.int .i64 L1)/\v.cell? ⟨w1.heap.size,2,none⟩=some (.int .i64 L2)/\v.cell? ⟨w1.heap.size,3,none⟩=some (.int .i64 L3)/\v.cell? ⟨w1.heap.size,4,none⟩=some (.int .i64 L4)) fun hJ=>?_;refine Tf 0 1 2 3 4 5 ?_;refine Tc 6 7 8 ?_;clear hJ;refine Aw 9 fun K hK=>?_;go_simp;(go_at_call 49;refine(HK2.out _ (HC0.below (bel HT.bel (A9 _))) (HI0.below (bel HT.bel (A9 _)))).mono ?_;rintro e w2 ⟨rfl,hw2⟩;have HB2:=bel (A9 _) hw2;obtain⟨y0,y1,y2,y3,y4,y5⟩:=HCX.out w2 HB2);try(go_wp2_with fail)
  refine Aq hK fun hJ=>?_;clear hK K;refine Tf 10 11 12 13 14 15 ?_;clear hJ;refine Aw 16 fun K hK=>?_;go_simp;(go_at_call 50;refine(HK3.out _ (HS0.below (bel HT.bel HB2)) (HC0.below (bel HT.bel HB2)) (HI0.below (bel HT.bel HB2))).mono ?_;rintro e w3 ⟨rfl,hw3⟩;have HB3:=bel HB2 hw3;obtain⟨y0,y1,y2,y3,y4,y5⟩:=HCX.out w3 HB3);try(go_wp2_with fail)
  refine Aq hK fun hJ=>?_;clear hK K;refine Tb 17 18 ?_;refine wpAnyH_done kR ?_ _;go_wp2;go_ret;exact⟨rfl,(bel HT.bel HB3).mono hE,fun e=>absurd e sM⟩
 go_enter func27,ntmps27;go_wp2_with(go_at_call 48;refine HK1.mono ?_;rintro e w1 ⟨rfl,hw1⟩;have HT:Hid (TK w w1.heap.size G C L0 L1 L2 L3 L4 (w1.alloc (.cells #[.int .i64 L0,.int .i64 L1,.int .i64 L2,.int .i64 L3,.int .i64 L4] 119))):=Zge);have HCX:Hid (∀v,Below (w1.alloc (.cells #[.int .i64 L0,.int .i64 L1,.int .i64 L2,.int .i64 L3,.int .i64 L4] 119)).heap.size (w1.alloc (.cells #[.int .i64 L0,.int .i64 L1,.int .i64 L2,.int .i64 L3,.int .i64 L4] 119)) v->v.cell? ⟨G,0,none⟩=some (.pointer (some ⟨C,0,none⟩))/\v.cell? ⟨w1.heap.size,0,none⟩=some (.int .i64 L0)/\v.cell? ⟨w1.heap.size,1,none⟩=some (.int .i64 L1)/\v.cell? ⟨w1.heap.size,2,none⟩=some (.int .i64 L2)/\v.cell? ⟨w1.heap.size,3,none⟩=some (.int .i64 L3)/\v.cell? ⟨w1.heap.size,4,none⟩=some (.int .i64 L4)):=fun v hv=>⟨(HT.next hv).g0,(HT.next hv).r0,(HT.next hv).r1,(HT.next hv).r2,(HT.next hv).r3,(HT.next hv).r4⟩;obtain⟨t0,t1,t2,t3,t4,t5⟩:=HCX.out _ (BZ _);refine rG (fun v=>v.cell? ⟨G,0,none⟩=some (.pointer (some ⟨C,0,none⟩))/\v.cell? ⟨w1.heap.size,0,none⟩=some (.int .i64 L0)/\v.cell? ⟨w1.heap.size,1,none⟩=some (.int .i64 L1)/\v.cell? ⟨w1.heap.size,2,none⟩=some (.int .i64 L2)/\v.cell? ⟨w1.heap.size,3,none⟩=some (.int .i64 L3)/\v.cell? ⟨w1.heap.size,4,none⟩=some (.int .i64 L4)) fun hJ=>?_;refine Tf 0 1 2 3 4 5 ?_;refine Tc 6 7 8 ?_;clear hJ;refine Aw 9 fun K hK=>?_;go_simp;(go_at_call 49;refine(HK2.out _ (HC0.below (bel HT.bel (A9 _))) (HI0.below (bel HT.bel (A9 _)))).mono ?_;rintro e w2 ⟨rfl,hw2⟩;have HB2:=bel (A9 _) hw2;obtain⟨y0,y1,y2,y3,y4,y5⟩:=HCX.out w2 HB2);try(go_wp2_with fail)
 refine Aq hK fun hJ=>?_;clear hK K;refine Tf 10 11 12 13 14 15 ?_;clear hJ;refine Aw 16 fun K hK=>?_;go_simp;(go_at_call 50;refine(HK3.out _ (HS0.below (bel HT.bel HB2)) (HC0.below (bel HT.bel HB2)) (HI0.below (bel HT.bel HB2))).mono ?_;rintro e w3 ⟨rfl,hw3⟩;have HB3:=bel HB2 hw3;obtain⟨y0,y1,y2,y3,y4,y5⟩:=HCX.out w3 HB3);try(go_wp2_with fail)
 refine Aq hK fun hJ=>?_;clear hK K;refine Tb 17 18 ?_;refine wpAnyH_done kR ?_ _;have HT3:Hid (TK w w1.heap.size G C L0 L1 L2 L3 L4 w3):=HT.next HB3;clear HB2 HB3 hw2 hw3;go_wp2_with(go_at_call 51;refine(HK4.out _ (HI0.below HT3.bel)).mono ?_;rintro e w4 ⟨u,rfl,hu,hw4⟩;obtain⟨pu,cu,hue⟩:=AZ hu;subst hue;have HU:Hid (w4.ownsRow w3.heap.size 3 1 (.slice pu RL.length cu) RL.length (Cg RL)):=hu;have HT4:Hid (TK w w1.heap.size G C L0 L1 L2 L3 L4 w4):=HT3.next hw4;clear hu hw4);have HSW:Hid (WS E G C n gi vs vo w4 s):=HS0.below HT4.bel;have k0:=HT4.r0;have k1:=HT4.r1;have k2:=HT4.r2;have k3:=HT4.r3;have k4:=HT4.r4;have HFX:Hid (∀j (hj:j<RL.length),∃ (gu x:Nat),pu=some ⟨gu,0,none⟩/\w4.cell? ⟨gu,j,none⟩=some (.int .i64 (x:Int))/\x<n/\w4.cell? ⟨gi,x,none⟩=some (.bool (decide (x∈s.set)))/\decide (x∈s.set)=decide (RL[j].toNat∈s.set)):=fun j hj=>by
  obtain⟨gu,cap,hv,_,_,_,_,hcl⟩:=Dc HU.out oM;simp only[Value.slice.injEq]at hv;have hx:=HKL.out fT RL[j] (gD hj);refine⟨gu,RL[j].toNat,hv.1,?_,oM,HSW.i.cell oM,rfl⟩;rw[show((RL[j].toNat:Nat):Int)=RL[j] by omega];exact hcl j _ (by simp[Cg,gB hj])
 have d1:=HSW.c1;obtain⟨M,hM⟩:=gA (RL.length)
 have HM:Hid (RL.length=M):=hM;rw[hM]at KN |-;clear hM
 go_loopw [40] (fun iv wr=>wr=w4/\∃j:Nat,j<=M/\iv=.int .i64 j/\Hid (∀i (h:i<RL.length),i<j->decide (RL[i].toNat∈s.set)=true)) (fun iv _=>M-(intOf iv).toNat)
 case atStart=>exact⟨rfl,0,gI _,rfl,fun i h hi=>absurd hi (Nat.not_lt_zero _)⟩
 case round=>
  clear HT HT3 HCX t0 t1 t2 t3 t4 t5 y0 y1 y2 y3 y4 y5;obtain⟨rfl,j,hj,rfl,hp⟩:=hrel;by_cases hlt:j<M
  .have hll:j<RL.length:=by rw[HM.out];exact hlt
   obtain⟨gu,x,rfl,a1,a2,a3,a4⟩:=HFX.out j hll;have NX:Hid (decide (RL[j].toNat∈s.set)=true->∀i (h:i<RL.length),i<j+1->decide (RL[i].toNat∈s.set)=true):=fun hq i h hi=>by
    exact Zcx
   have NB:Hid (decide (RL[j].toNat∈s.set)=false->(RL.all fun n=>decide (n.toNat∈s.set))=false):=fun h=>List.all_eq_false.2 ⟨RL[j],gD hll,by rw[h];decide⟩;rw[<-a4]at NX NB;have i1:(0:Int)<=(j:Int):=oM;have i2:(j:Int)<(M:Int):=oM;have i3:(0:Int)<=(x:Int):=oM;have i4:(x:Int)<(n:Int):=oM;obtain⟨Y,hY⟩:=gA (decide (x∈s.set))
   rw[hY]at NX NB a3;clear hp hY a4 HFX HU;cases Y
   .go_wp2;go_ret;have hF:AL=false:=by rw[<-HAL.out];exact NB.out fT
    exact⟨by rw[hF];rfl,HT4.bel.mono hE,fun e=>absurd e (by simp[hF])⟩
   .go_wp2;go_roundw
    case rel=>exact⟨fT,j+1,oM,gN,NX.out fT⟩
    case measure=>simp[intOf];omega
  .have:j=M:=oM;subst this;have HF:Hid ((RL.all fun n=>decide (n.toNat∈s.set))=true):=List.all_eq_true.2 fun t ht=>by
    obtain⟨i,hi,rfl⟩:=List.mem_iff_getElem.1 ht;exact hp.out i hi (by rw[<-HM.out];exact hi)
   clear hp;go_wp2_with(go_at_call 52;refine(HK5.out fT fT _ HSW.out (HI0.below HT4.bel)).mono ?_;rintro e w6 ⟨rfl,hb6,hws⟩;have HB6:Hid (Below E wr w6):=hb6;have HWS:Hid (∃vs' vo',WS E G C n gi vs' vo' w6 Z):=hws;clear hb6 hws);go_ret;exact⟨by rw[<-HAL.out,HF.out];rfl,(HT4.bel.mono hE).trans HB6.out,fun _=>HWS.out⟩
theorem RZ(w:World):Calls prog 38 #[.int .i64 22] w fun e w'=>e=.returned (.tuple #[.string ⟨#[119,119,119,45,45]⟩,.bool true])/\w'=w:=by
 exact FD
theorem S2(w:World):Calls prog 38 #[.int .i64 23] w fun e w'=>e=.returned (.tuple #[.string ⟨#[119,119,119,45,45]⟩,.bool true])/\w'=w:=by
 exact FD
theorem S3(w:World):Calls prog 38 #[.int .i64 24] w fun e w'=>e=.returned (.tuple #[.string ⟨#[119,119,119,45,45]⟩,.bool true])/\w'=w:=by
 exact FD
theorem S4(w:World):Calls prog 38 #[.int .i64 25] w fun e w'=>e=.returned (.tuple #[.string ⟨#[119,119,45,45,45]⟩,.bool true])/\w'=w:=by
 exact FD
theorem S6(w:World):Calls prog 38 #[.int .i64 26] w fun e w'=>e=.returned (.tuple #[.string ⟨#[119,119,119,119,45]⟩,.bool true])/\w'=w:=by
 exact FD
theorem S7(w:World):Calls prog 38 #[.int .i64 27] w fun e w'=>e=.returned (.tuple #[.string ⟨#[119,119,119,45,45]⟩,.bool true])/\w'=w:=by
 exact FD
theorem S8(w:World):Calls prog 38 #[.int .i64 28] w fun e w'=>e=.returned (.tuple #[.string ⟨#[119,119,119,45,45]⟩,.bool true])/\w'=w:=by
 exact FD
theorem S9(w:World):Calls prog 38 #[.int .i64 29] w fun e w'=>e=.returned (.tuple #[.string ⟨#[118,45,45,45,112]⟩,.bool true])/\w'=w:=by
 exact FD
theorem RO(w:World):Calls prog 38 #[.int .i64 13] w fun e w'=>e=.returned (.tuple #[.string ⟨#[100,120,45,45,45]⟩,.bool true])/\w'=w:=by
 exact FD
theorem RP(w:World):Calls prog 38 #[.int .i64 14] w fun e w'=>e=.returned (.tuple #[.string ⟨#[100,120,45,45,45]⟩,.bool true])/\w'=w:=by
 exact FD
theorem RQ(w:World):Calls prog 38 #[.int .i64 15] w fun e w'=>e=.returned (.tuple #[.string ⟨#[100,120,120,120,45]⟩,.bool true])/\w'=w:=by
 exact FD
theorem RS(w:World):Calls prog 38 #[.int .i64 16] w fun e w'=>e=.returned (.tuple #[.string ⟨#[110,110,119,45,45]⟩,.bool true])/\w'=w:=by
 exact FD
theorem RT(w:World):Calls prog 38 #[.int .i64 17] w fun e w'=>e=.returned (.tuple #[.string ⟨#[110,119,45,45,45]⟩,.bool true])/\w'=w:=by
 exact FD
theorem RU(w:World):Calls prog 38 #[.int .i64 18] w fun e w'=>e=.returned (.tuple #[.string ⟨#[119,110,45,45,45]⟩,.bool true])/\w'=w:=by
 exact FD
theorem RV(w:World):Calls prog 38 #[.int .i64 19] w fun e w'=>e=.returned (.tuple #[.string ⟨#[110,118,45,45,45]⟩,.bool true])/\w'=w:=by
 exact FD
theorem RX(w:World):Calls prog 38 #[.int .i64 20] w fun e w'=>e=.returned (.tuple #[.string ⟨#[110,118,45,45,45]⟩,.bool true])/\w'=w:=by
 exact FD
theorem RY(w:World):Calls prog 38 #[.int .i64 21] w fun e w'=>e=.returned (.tuple #[.string ⟨#[119,119,45,45,45]⟩,.bool true])/\w'=w:=by
 exact FD
theorem Xi(w:World):Calls prog 38 #[.int .i64 1] w fun e w'=>e=.returned (.tuple #[.string ⟨#[110,45,45,45,45]⟩,.bool true])/\w'=w:=by
 exact FD
theorem Xj(w:World):Calls prog 38 #[.int .i64 2] w fun e w'=>e=.returned (.tuple #[.string ⟨#[119,45,45,45,105]⟩,.bool true])/\w'=w:=by
 exact FD
theorem Xk(w:World):Calls prog 38 #[.int .i64 3] w fun e w'=>e=.returned (.tuple #[.string ⟨#[97,99,45,45,45]⟩,.bool true])/\w'=w:=by
 exact FD
theorem Xl(w:World):Calls prog 38 #[.int .i64 4] w fun e w'=>e=.returned (.tuple #[.string ⟨#[100,120,120,45,45]⟩,.bool true])/\w'=w:=by
 exact FD
theorem Xm(w:World):Calls prog 38 #[.int .i64 5] w fun e w'=>e=.returned (.tuple #[.string ⟨#[100,120,120,45,45]⟩,.bool true])/\w'=w:=by
 exact FD
theorem Xn(w:World):Calls prog 38 #[.int .i64 6] w fun e w'=>e=.returned (.tuple #[.string ⟨#[100,120,120,45,45]⟩,.bool true])/\w'=w:=by
 exact FD
theorem Xo(w:World):Calls prog 38 #[.int .i64 7] w fun e w'=>e=.returned (.tuple #[.string ⟨#[100,120,120,45,45]⟩,.bool true])/\w'=w:=by
 exact FD
theorem Xp(w:World):Calls prog 38 #[.int .i64 8] w fun e w'=>e=.returned (.tuple #[.string ⟨#[100,120,120,45,45]⟩,.bool true])/\w'=w:=by
 exact FD
theorem Xq(w:World):Calls prog 38 #[.int .i64 9] w fun e w'=>e=.returned (.tuple #[.string ⟨#[100,120,120,45,45]⟩,.bool true])/\w'=w:=by
 exact FD
theorem RK(w:World):Calls prog 38 #[.int .i64 10] w fun e w'=>e=.returned (.tuple #[.string ⟨#[100,120,120,45,45]⟩,.bool true])/\w'=w:=by
 exact FD
theorem RM(w:World):Calls prog 38 #[.int .i64 11] w fun e w'=>e=.returned (.tuple #[.string ⟨#[100,120,45,45,45]⟩,.bool true])/\w'=w:=by
 exact FD
theorem RN(w:World):Calls prog 38 #[.int .i64 12] w fun e w'=>e=.returned (.tuple #[.string ⟨#[100,120,45,45,45]⟩,.bool true])/\w'=w:=by
 exact FD
theorem M9(op:Int)(h:Al op=false)(w:World):Calls prog 38 #[.int .i64 op] w fun e w'=>e=.returned (.tuple #[.string ⟨#[]⟩,.bool false])/\w'=w:=by
 have hh:op<1\/37<op:=by unfold Al at h;simp at h;omega
 have e1:(op==1)=false:=by have:op≠1:=oM;simpa using this
 have e2:(op==2)=false:=by have:op≠2:=oM;simpa using this
 have e3:(op==3)=false:=by have:op≠3:=oM;simpa using this
 have e4:(op==4)=false:=by have:op≠4:=oM;simpa using this
 have e5:(op==5)=false:=by have:op≠5:=oM;simpa using this
 have e6:(op==6)=false:=by have:op≠6:=oM;simpa using this
 have e7:(op==7)=false:=by have:op≠7:=oM;simpa using this
 have e8:(op==8)=false:=by have:op≠8:=oM;simpa using this
 have e9:(op==9)=false:=by have:op≠9:=oM;simpa using this
 have e10:(op==10)=false:=by have:op≠10:=oM;simpa using this
 have e11:(op==11)=false:=by have:op≠11:=oM;simpa using this
 have e12:(op==12)=false:=by have:op≠12:=oM;simpa using this
 have e13:(op==13)=false:=by have:op≠13:=oM;simpa using this
 have e14:(op==14)=false:=by have:op≠14:=oM;simpa using this
 have e15:(op==15)=false:=by have:op≠15:=oM;simpa using this
 have e16:(op==16)=false:=by have:op≠16:=oM;simpa using this
 have e17:(op==17)=false:=by have:op≠17:=oM;simpa using this
 have e18:(op==18)=false:=by have:op≠18:=oM;simpa using this
 have e19:(op==19)=false:=by have:op≠19:=oM;simpa using this
 have e20:(op==20)=false:=by have:op≠20:=oM;simpa using this
 have e21:(op==21)=false:=by have:op≠21:=oM;simpa using this
 have e22:(op==22)=false:=by have:op≠22:=oM;simpa using this
 have e23:(op==23)=false:=by have:op≠23:=oM;simpa using this
 have e24:(op==24)=false:=by have:op≠24:=oM;simpa using this
 have e25:(op==25)=false:=by have:op≠25:=oM;simpa using this
 have e26:(op==26)=false:=by have:op≠26:=oM;simpa using this
 have e27:(op==27)=false:=by have:op≠27:=oM;simpa using this
 have e28:(op==28)=false:=by have:op≠28:=oM;simpa using this
 have e29:(op==29)=false:=by have:op≠29:=oM;simpa using this
 have e30:(op==30)=false:=by have:op≠30:=oM;simpa using this
 have e31:(op==31)=false:=by have:op≠31:=oM;simpa using this
 have e32:(op==32)=false:=by have:op≠32:=oM;simpa using this
 have e33:(op==33)=false:=by have:op≠33:=oM;simpa using this
 have e34:(op==34)=false:=by have:op≠34:=oM;simpa using this
 have e35:(op==35)=false:=by have:op≠35:=oM;simpa using this
 have e36:(op==36)=false:=by have:op≠36:=oM;simpa using this
 have e37:(op==37)=false:=by have:op≠37:=oM;simpa using this
 clear hh h;exact FD
structure Yn(r:Rw)(a b c d e:UInt8):Prop where
 a:(a==45)=(r.d==0)
 b:(b==45)=(r.a==0)
 c:(c==45)=(r.b==0)
 d:(d==45)=(r.c==0)
theorem Ov(op:Int)(w:World):(Al op=false/\Calls prog 38 #[.int .i64 op] w fun e w'=>e=.returned (.tuple #[.string ⟨#[]⟩,.bool false])/\w'=w)\/(Al op=true/\∃a b c d e:UInt8,Yn (A4 op) a b c d e/\∀w,Calls prog 38 #[.int .i64 op] w fun x w'=>x=.returned (.tuple #[.string ⟨#[a,b,c,d,e]⟩,.bool true])/\w'=w):=by
 by_cases h:Al op=false
 .exact .inl ⟨h,M9 op h w⟩
 .have hh:1<=op/\op<=37:=by unfold Al at h;simp at h;omega
  refine .inr ⟨by simpa using h,?_⟩;clear h;by_cases k1:op=1
  .subst k1;exact⟨_,_,_,_,_,⟨rfl,rfl,rfl,rfl⟩,fun w=>Xi w⟩
  by_cases k2:op=2
  .subst k2;exact⟨_,_,_,_,_,⟨rfl,rfl,rfl,rfl⟩,fun w=>Xj w⟩
  by_cases k3:op=3
  .subst k3;exact⟨_,_,_,_,_,⟨rfl,rfl,rfl,rfl⟩,fun w=>Xk w⟩
  by_cases k4:op=4
  .subst k4;exact⟨_,_,_,_,_,⟨rfl,rfl,rfl,rfl⟩,fun w=>Xl w⟩
  by_cases k5:op=5
  .subst k5;exact⟨_,_,_,_,_,⟨rfl,rfl,rfl,rfl⟩,fun w=>Xm w⟩
  by_cases k6:op=6
  .subst k6;exact⟨_,_,_,_,_,⟨rfl,rfl,rfl,rfl⟩,fun w=>Xn w⟩
  by_cases k7:op=7
  .subst k7;exact⟨_,_,_,_,_,⟨rfl,rfl,rfl,rfl⟩,fun w=>Xo w⟩
  by_cases k8:op=8
  .subst k8;exact⟨_,_,_,_,_,⟨rfl,rfl,rfl,rfl⟩,fun w=>Xp w⟩
  by_cases k9:op=9
  .subst k9;exact⟨_,_,_,_,_,⟨rfl,rfl,rfl,rfl⟩,fun w=>Xq w⟩
  by_cases k10:op=10
  .subst k10;exact⟨_,_,_,_,_,⟨rfl,rfl,rfl,rfl⟩,fun w=>RK w⟩
  by_cases k11:op=11
  .subst k11;exact⟨_,_,_,_,_,⟨rfl,rfl,rfl,rfl⟩,fun w=>RM w⟩
  by_cases k12:op=12
  .subst k12;exact⟨_,_,_,_,_,⟨rfl,rfl,rfl,rfl⟩,fun w=>RN w⟩
  by_cases k13:op=13
  .subst k13;exact⟨_,_,_,_,_,⟨rfl,rfl,rfl,rfl⟩,fun w=>RO w⟩
  by_cases k14:op=14
  .subst k14;exact⟨_,_,_,_,_,⟨rfl,rfl,rfl,rfl⟩,fun w=>RP w⟩
  by_cases k15:op=15
  .subst k15;exact⟨_,_,_,_,_,⟨rfl,rfl,rfl,rfl⟩,fun w=>RQ w⟩
  by_cases k16:op=16
  .subst k16;exact⟨_,_,_,_,_,⟨rfl,rfl,rfl,rfl⟩,fun w=>RS w⟩
  by_cases k17:op=17
  .subst k17;exact⟨_,_,_,_,_,⟨rfl,rfl,rfl,rfl⟩,fun w=>RT w⟩
  by_cases k18:op=18
  .subst k18;exact⟨_,_,_,_,_,⟨rfl,rfl,rfl,rfl⟩,fun w=>RU w⟩
  by_cases k19:op=19
  .subst k19;exact⟨_,_,_,_,_,⟨rfl,rfl,rfl,rfl⟩,fun w=>RV w⟩
  by_cases k20:op=20
  .subst k20;exact⟨_,_,_,_,_,⟨rfl,rfl,rfl,rfl⟩,fun w=>RX w⟩
  by_cases k21:op=21
  .subst k21;exact⟨_,_,_,_,_,⟨rfl,rfl,rfl,rfl⟩,fun w=>RY w⟩
  by_cases k22:op=22
  .subst k22;exact⟨_,_,_,_,_,⟨rfl,rfl,rfl,rfl⟩,fun w=>RZ w⟩
  by_cases k23:op=23
  .subst k23;exact⟨_,_,_,_,_,⟨rfl,rfl,rfl,rfl⟩,fun w=>S2 w⟩
  by_cases k24:op=24
  .subst k24;exact⟨_,_,_,_,_,⟨rfl,rfl,rfl,rfl⟩,fun w=>S3 w⟩
  by_cases k25:op=25
  .subst k25;exact⟨_,_,_,_,_,⟨rfl,rfl,rfl,rfl⟩,fun w=>S4 w⟩
  by_cases k26:op=26
  .subst k26;exact⟨_,_,_,_,_,⟨rfl,rfl,rfl,rfl⟩,fun w=>S6 w⟩
  by_cases k27:op=27
  .subst k27;exact⟨_,_,_,_,_,⟨rfl,rfl,rfl,rfl⟩,fun w=>S7 w⟩
  by_cases k28:op=28
  .subst k28;exact⟨_,_,_,_,_,⟨rfl,rfl,rfl,rfl⟩,fun w=>S8 w⟩
  by_cases k29:op=29
  .subst k29;exact⟨_,_,_,_,_,⟨rfl,rfl,rfl,rfl⟩,fun w=>S9 w⟩
  by_cases k30:op=30
  .subst k30;exact⟨_,_,_,_,_,⟨rfl,rfl,rfl,rfl⟩,fun w=>Sa w⟩
  by_cases k31:op=31
  .subst k31;exact⟨_,_,_,_,_,⟨rfl,rfl,rfl,rfl⟩,fun w=>Sb w⟩
  by_cases k32:op=32
  .subst k32;exact⟨_,_,_,_,_,⟨rfl,rfl,rfl,rfl⟩,fun w=>Sc w⟩
  by_cases k33:op=33
  .subst k33;exact⟨_,_,_,_,_,⟨rfl,rfl,rfl,rfl⟩,fun w=>Sd w⟩
  by_cases k34:op=34
  .subst k34;exact⟨_,_,_,_,_,⟨rfl,rfl,rfl,rfl⟩,fun w=>Se w⟩
  by_cases k35:op=35
  .subst k35;exact⟨_,_,_,_,_,⟨rfl,rfl,rfl,rfl⟩,fun w=>Sf w⟩
  by_cases k36:op=36
  .subst k36;exact⟨_,_,_,_,_,⟨rfl,rfl,rfl,rfl⟩,fun w=>Sg w⟩
  by_cases k37:op=37
  .subst k37;exact⟨_,_,_,_,_,⟨rfl,rfl,rfl,rfl⟩,fun w=>Sh w⟩
  omega
theorem Ht{k:IntKind}{a b:Int}(h:a=b):Ending.returned (.int k a)=.returned (.int k b):=by rw[h]
theorem ZW(a:Int)(h0:0<=a)(h1:a<4294967296)(w:World):
 Calls prog 89 #[.int .i64 a] w fun e w'=>e=.returned (.bool (nan a))/\w'=w:=by
 go_enter func89,ntmps89;go_wp2;go_ret;exact⟨rfl,rfl⟩
theorem Fo(a:Int)(h0:0<=a)(h1:a<4294967296)(w:World):
 Calls prog 60 #[.int .i64 a] w fun e w'=>e=.returned (.int .i64 (An a))/\w'=w:=by
 cases hn:nan a
 .have hc:An a=a:=by unfold An;simp[hn]
  exact Zer
 .have hc:An a=2143289344:=by unfold An;simp[hn]
  exact Zer
def Ry:Option Nat->Int
 |some r=>r
 |none=>2143289344
def DQ(a b:Int):Int:=Ry (Ieee.single.add a.toNat b.toNat)
def NO(a b:Int):Int:=Ry (Ieee.single.sub a.toNat b.toNat)
def FJ(a b:Int):Int:=Ry (Ieee.single.mul a.toNat b.toNat)
def GA(a b:Int):Int:=Ry (Ieee.single.div a.toNat b.toNat)
def Dz(a:Int):Int:=Ry (Ieee.single.sqrt a.toNat)
def GG(n:Int):Int:=(Ieee.single.nearest (decide (n<0)) n.natAbs 0:Nat)
def JI(a:Int):Int:=An (if 2147483648<=a then a-2147483648 else a+2147483648)
def YR(a:Int):Int:=An (a%2147483648)
def ZE(a b:Int):Option Ordering:=Ieee.single.order a.toNat b.toNat
def Jc(a b:Int):Int:=match ZE a b with
 |none=>2143289344
 |some .lt=>a
 |some .gt=>b
 |some .eq=>if 2147483648<=a then a else b
def JH(a b:Int):Int:=match ZE a b with
 |none=>2143289344
 |some .lt=>b
 |some .gt=>a
 |some .eq=>if 2147483648<=a then b else a
def JG(a b:Int):Bool:=ZE a b==some .lt
def feq(a b:Int):Bool:=ZE a b==some .eq
def ffin(a:Int):Bool:=decide (a%2147483648<2139095040)
def Mx(c a b:Int):Int:=if nan c||c%2147483648==0 then An b else An a
theorem rg_wd(s:Bool)(r:Nat):rg (wd s r)=min r 2139095040:=by
 unfold rg wd;split<;>omega
theorem Uz(d:Ieee.Datum)(h:d.isNaN=false):rg (Ieee.single.write d)<=2139095040:=by
 cases d with
 |number s m e=>show rg (Ieee.single.nearest s m e)<=_;rw[BK,Js,rg_wd];omega
 |infinity s=>show rg (wd s 2139095040)<=_;rw[rg_wd];omega
 |nan s t=>simp[Ieee.Datum.isNaN]at h
theorem Sp{d e f:Ieee.Datum}(h:d.sum e=some f):f.isNaN=false:=by
 cases d<;>cases e<;>simp[Ieee.Datum.sum]at h<;>first|(subst h;rfl)|(obtain⟨_,rfl⟩:=h;rfl)
theorem Wm{d e f:Ieee.Datum}(h:d.product e=some f):f.isNaN=false:=by
 cases d<;>cases e<;>simp[Ieee.Datum.product]at h<;>first|(subst h;rfl)|(obtain⟨_,rfl⟩:=h;rfl)
theorem Wp{k:Nat}{d e f:Ieee.Datum}(h:d.quotient k e=some f):f.isNaN=false:=by
 cases d<;>cases e<;>simp[Ieee.Datum.quotient]at h
 .split at h
  .split at h
   .cases h
   .cases h;rfl
  .cases h;rfl
 .subst h;rfl
 .subst h;rfl
theorem WA{k:Nat}{d f:Ieee.Datum}(h:d.root k=some f):f.isNaN=false:=by
 cases d<;>simp[Ieee.Datum.root]at h
 .split at h
  .cases h;rfl
  .split at h
   .cases h
   .simp only[Option.some.injEq]at h;subst h;rfl
 .obtain⟨-,rfl⟩:=h;rfl
theorem Hg{o:Option Ieee.Datum}{r:Nat}(h:o.map Ieee.single.write=some r)(k:∀f,o=some f->f.isNaN=false):rg r<=2139095040/\r<4294967296:=by
 have lt:=Ieee.single.map_write_lt h;cases o with
 |none=>simp at h
 |some d=>simp only[Option.map_some,Option.some.injEq]at h;subst h;exact⟨Uz d (k d rfl),lt⟩
theorem QP{x y r:Nat}(h:Ieee.single.add x y=some r):rg r<=2139095040/\r<4294967296:=Hg h fun _ q=>Sp q
theorem So{x y r:Nat}(h:Ieee.single.sub x y=some r):rg r<=2139095040/\r<4294967296:=Hg h fun _ q=>Sp q
theorem Rp{x y r:Nat}(h:Ieee.single.mul x y=some r):rg r<=2139095040/\r<4294967296:=Hg h fun _ q=>Wm q
theorem QY{x y r:Nat}(h:Ieee.single.div x y=some r):rg r<=2139095040/\r<4294967296:=Hg h fun _ q=>Wp q
theorem OM{x r:Nat}(h:Ieee.single.sqrt x=some r):rg r<=2139095040/\r<4294967296:=Hg h fun _ q=>WA q
theorem Zo(r:Nat):nan (r:Int)=decide (2139095040<rg r):=by unfold nan rg;rw[decide_eq_decide];omega
theorem Ln{r:Nat}(h:rg r<=2139095040):An (r:Int)=r:=by
 unfold An;rw[Zo];simp;omega
section
variable {P : Program} (w : World)
end
theorem Ka(o:Option Nat)(h:∀r,o=some r->r<4294967296):0<=Ry o/\Ry o<4294967296:=by
 cases o with
 |none=>decide
 |some r=>have:=h r rfl;show 0<=(r:Int)/\(r:Int)<_;omega
theorem R1(a b:Int):0<=DQ a b/\DQ a b<4294967296:=Ka _ fun _ h=>(QP h).2
theorem YW(a b:Int):0<=NO a b/\NO a b<4294967296:=Ka _ fun _ h=>(So h).2
theorem Fc(a b:Int):0<=FJ a b/\FJ a b<4294967296:=Ka _ fun _ h=>(Rp h).2
theorem YS(a b:Int):0<=GA a b/\GA a b<4294967296:=Ka _ fun _ h=>(QY h).2
theorem Vn(a:Int):0<=Dz a/\Dz a<4294967296:=Ka _ fun _ h=>(OM h).2
theorem IW(n:Nat)(h:n<2^31):n^^^2^31=2^31+n:=by
 apply Nat.eq_of_testBit_eq;intro i;rw[Nat.testBit_xor,Nat.testBit_two_pow];rcases Nat.lt_trichotomy i 31 with c|c|c
 .rw[Nat.testBit_two_pow_add_gt c,decide_eq_false (show¬ (31=i) by omega),Bool.xor_false]
 .subst c;rw[Nat.testBit_two_pow_add_eq];simp
 .have e1:n.testBit i=false:=Nat.testBit_lt_two_pow (Nat.lt_of_lt_of_le h (Nat.pow_le_pow_right dE oM));have e2:(2^31+n).testBit i=false:=Nat.testBit_lt_two_pow (Nat.lt_of_lt_of_le (show 2^31+n<2^32 by omega) (Nat.pow_le_pow_right dE oM));rw[e1,e2,decide_eq_false (show¬ (31=i) by omega),Bool.xor_false]
theorem Y7(a:Int)(h0:0<=a)(h1:a<4294967296):bits .xor .u32 a 2147483648=if 2147483648<=a then a-2147483648 else a+2147483648:=by
 rw[u32_xor a _ h0 h1 dE dE,show(2147483648:Int).toNat=2^31 from rfl];by_cases c:2147483648<=a
 .rw[if_pos c];have e:=IW (a.toNat-2^31) oM;rw[show 2^31+(a.toNat-2^31)=a.toNat by omega]at e;rw[<-e,Nat.xor_assoc,Nat.xor_self,Nat.xor_zero];omega
 .rw[if_neg c,IW _ oM];omega
theorem Ve(n:Int):0<=GG n/\GG n<4294967296:=⟨Int.natCast_nonneg _,by have:=Ieee.single.write_lt (.number (decide (n<0)) n.natAbs 0);exact Int.ofNat_lt.2 this⟩
section
variable {P : Program} (w : World)
end
theorem Oq(a:Nat)(ha:rg a<2139095040)(hs:ng a=false)(h0:mg a≠0):
 ∃r,Ieee.single.sqrt a=some (wd false r)/\IP 23 (mv a*2^149) r:=by
 unfold Ieee.Format.sqrt;rw[Cs a ha,hs];simp only[Ieee.Datum.root,if_neg h0,Bool.false_eq_true,if_false,Option.map_some,Ieee.Format.write];rw[BK,Ds,C3];have hl:(mg a).log2<=23:=by
  have:(mg a).log2<24:=(Nat.log2_lt h0).2 (VF a);omega
 generalize hi:(-149+(te a:Int))=i;generalize hm1:2*(23+2)-(mg a).log2=more1;generalize hmore:more1+((i-(more1:Int))%2).toNat=more;have hpar:(i-(more:Int))%2=0:=oM;have hmo:27<=more/\more<=51:=oM;generalize hn:mg a<<<more=n at *;have hlo:2^(mg a).log2<=mg a:=Nat.log2_self_le h0;have hn50:2^50<=n:=by
  rw[<-hn,Nat.shiftLeft_eq]
  calc 2^50<=2^((mg a).log2+more):=Nat.pow_le_pow_right dE oM
   _=2^(mg a).log2*2^more:=Nat.pow_add ..
   _<=mg a*2^more:=Nat.mul_le_mul_right _ hlo
 have hrt:=Ix n (n.log2/2+1) 0 oM (by
  have:n<2^(n.log2+1):=Nat.lt_log2_self;rw[Nat.zero_add,<-Nat.pow_add]
  exact Nat.lt_of_lt_of_le this (Nat.pow_le_pow_right dE oM))
 generalize Ieee.Datum.rootFrom n (n.log2/2+1) 0=w at *;have hw:2^24<=w:=by
  rcases Nat.lt_or_ge w (2^24)with c|c
  .exfalso;have:=Nat.mul_self_le_mul_self (show w+1<=2^24 from c);have e:(2:Nat)^24*2^24<2^50:=dE;omega
  .exact c
 have big:23+2<=(2*w+(w*w != n).toNat).log2:=by
  apply(Nat.le_log2 oM).2;omega
 refine⟨_,rfl,?_⟩;obtain⟨x,hx⟩:∃x:Nat,(x:Int)=(i-(more:Int))/2+149:=⟨((i-(more:Int))/2+149).toNat,oM⟩
 have hnr:=LK 23 (-149) w n ((i-(more:Int))/2-1) dE hrt.1 hrt.2 big x oM;have e:n*(2^x*2^x)=mv a*2^149:=by
  rw[IV,<-hn,Nat.shiftLeft_eq,<-Nat.pow_add,Nat.mul_assoc,Nat.mul_assoc,<-Nat.pow_add,<-Nat.pow_add];congr 2;omega
 rw[e]at hnr;exact hnr
section
variable {P : Program} (w : World)
end
theorem Et(a b:Int):compare a b=if a<b then .lt else if a=b then .eq else .gt:=rfl
theorem Pm{a b:Int}(h:a<b):compare a b=.lt:=by rw[Et,if_pos h]
theorem Pk{a b:Int}(h:a=b):compare a b=.eq:=by rw[Et,if_neg oM,if_pos h]
theorem Pl{a b:Int}(h:b<a):compare a b=.gt:=by rw[Et,if_neg oM,if_neg oM]
theorem SQ(a b p:Int)(hp:0<p):compare (a*p) (b*p)=compare a b:=by
 rw[Et,Et];have h1:a*p<b*p↔a<b:=Int.mul_lt_mul_right hp;have h2:a*p=b*p↔a=b:=⟨fun h=>Int.eq_of_mul_eq_mul_right oM h,fun h=>by rw[h]⟩
 simp only[h1,h2]
theorem MI{x:Nat}(h:rg x=2139095040):mv x=V 23 2139095040:=by unfold mv;rw[h]
theorem mv_fin{x:Nat}(h:rg x<2139095040):mv x<V 23 2139095040:=If 23 h
theorem XZ{x:Nat}(h:rg x<2139095040): -(V 23 2139095040:Int)<sv x/\sv x<(V 23 2139095040:Int):=by
 have:=mv_fin h;unfold sv sg;split<;>omega
theorem VZ(x y:Nat):Ieee.single.order x y=if 2139095040<rg x\/2139095040<rg y then none else some (compare (sv x) (sv y)):=by
 unfold Ieee.Format.order;have hV:0<V 23 2139095040:=by have:=If 23 (show 0<2139095040 by decide);omega
 rcases Nat.lt_trichotomy (rg x) 2139095040 with c|c|c
 .rcases Nat.lt_trichotomy (rg y) 2139095040 with d|d|d
  .rw[Cs x c,Cs y d,if_neg oM];simp only[Ieee.Datum.order];have hm:min (-149+(te x:Int)) (-149+(te y:Int))= -149+((min (te x) (te y):Nat):Int):=oM;rw[hm];have e1:(-149+(te x:Int)-(-149+((min (te x) (te y):Nat):Int))).toNat=te x-min (te x) (te y):=oM;have e2:(-149+(te y:Int)-(-149+((min (te x) (te y):Nat):Int))).toNat=te y-min (te x) (te y):=oM;rw[e1,e2];generalize hc:min (te x) (te y)=m;have s1:Ieee.signed (ng x) (mg x) (te x-m)*(2:Int)^m=sv x:=by
    rw[Kr,show te x-m+m=te x by omega,<-IV];rfl
   have s2:Ieee.signed (ng y) (mg y) (te y-m)*(2:Int)^m=sv y:=by
    rw[Kr,show te y-m+m=te y by omega,<-IV];rfl
   rw[<-s1,<-s2,SQ _ _ _ (Int.pow_pos dE)]
  .rw[Cs x c,Eh y d,if_neg oM];simp only[Ieee.Datum.order];have h:=XZ c;have e:sv y=sg (ng y) (V 23 2139095040):=by unfold sv;rw[MI d]
   rw[e,Et];cases ng y
   .rw[if_neg dE,if_pos Zha]
   .rw[if_pos rfl,if_neg Zha,if_neg Zha]
  .rw[Ei y d,Cs x c,if_pos (Or.inr d)];rfl
 .rcases Nat.lt_trichotomy (rg y) 2139095040 with d|d|d
  .rw[Eh x c,Cs y d,if_neg oM];simp only[Ieee.Datum.order];have h:=XZ d;have e:sv x=sg (ng x) (V 23 2139095040):=by unfold sv;rw[MI c]
   rw[e,Et];cases ng x
   .rw[if_neg dE,if_neg Zha,if_neg Zha]
   .rw[if_pos rfl,if_pos Zha]
  .rw[Eh x c,Eh y d,if_neg oM];simp only[Ieee.Datum.order];have e1:sv x=sg (ng x) (V 23 2139095040):=by unfold sv;rw[MI c]
   have e2:sv y=sg (ng y) (V 23 2139095040):=by unfold sv;rw[MI d]
   rw[e1,e2,Et];cases ng x<;>cases ng y
   .rw[if_neg oM,if_pos rfl];rfl
   .rw[if_neg Zgq,if_neg Zgq];rfl
   .rw[if_pos Zgq];rfl
   .rw[if_neg oM,if_pos rfl];rfl
  .rw[Ei y d,Eh x c,if_pos (Or.inr d)];rfl
 .rw[Ei x c,if_pos (Or.inl c)];cases Ieee.single.read y<;>rfl
theorem Ct(a:Int)(h0:0<=a):(rg a.toNat:Int)=a%2147483648:=by unfold rg;omega
theorem JV(a:Int)(h0:0<=a):nan a=decide (2139095040<rg a.toNat):=by
 unfold nan;rw[decide_eq_decide];have:=Ct a h0;omega
theorem Kc(a b:Int)(h0:0<=a)(g0:0<=b):ZE a b=if nan a=true\/nan b=true then none else some (compare (sv a.toNat) (sv b.toNat)):=by
 unfold ZE;rw[VZ,JV a h0,JV b g0];simp only[decide_eq_true_eq]
theorem T6(a b:Int)(h0:0<=a)(g0:0<=b):JG a b=true↔nan a=false/\nan b=false/\sv a.toNat<sv b.toNat:=by
 unfold JG;rw[Kc a b h0 g0];by_cases hn:nan a=true\/nan b=true
 .rw[if_pos hn];simp;intro k1 k2;simp[k1,k2]at hn
 .rw[if_neg hn];have hn':nan a=false/\nan b=false:=by simpa using hn
  rcases Int.lt_trichotomy (sv a.toNat) (sv b.toNat)with c|c|c
  .rw[Pm c];simp[hn',c]
  .rw[Pk c];simp;omega
  .rw[Pl c];simp;omega
theorem sv_inj{x y:Nat}(h:sv x=sv y):rg x=rg y/\(ng x=ng y\/rg x=0):=by
 have hz:∀z,mv z=0->rg z=0:=by
  intro z hz;unfold mv at hz;rw[<-Mo 23]at hz;exact UM 23 hz
 have Bl:mv x=mv y/\(ng x=ng y\/mv x=0):=by
  unfold sv sg at h;cases hx:ng x<;>cases hy:ng y<;>rw[hx,hy]at h<;>simp only[if_true,if_false,Bool.false_eq_true]at h
  .exact⟨oM,Or.inl rfl⟩
  .exact⟨oM,Or.inr oM⟩
  .exact⟨oM,Or.inr oM⟩
  .exact⟨oM,Or.inl rfl⟩
 refine⟨UM 23 Bl.1,?_⟩;rcases Bl.2 with e|e
 .exact Or.inl e
 .exact Or.inr (hz x e)
theorem EI(a:Int)(h0:0<=a)(h1:a<4294967296):a=(if ng a.toNat then 2147483648 else 0)+(rg a.toNat:Int):=by
 unfold ng rg;by_cases c:2147483648<=a
 .have:a.toNat/2147483648%2=1:=oM;simp[this];omega
 .have:a.toNat/2147483648%2=0:=oM;simp[this];omega
theorem ZJ{a b:Int}(h0:0<=a)(h1:a<4294967296)(g0:0<=b)(g1:b<4294967296)(hr:rg a.toNat=rg b.toNat)(hs:ng a.toNat=ng b.toNat):a=b:=by
 rw[EI a h0 h1,EI b g0 g1,hr,hs]
theorem Q5(a:Int)(h0:0<=a)(h1:a<4294967296):ng a.toNat=decide (2147483648<=a):=by
 unfold ng;by_cases c:2147483648<=a<;>simp[c]<;>omega
theorem XY(d e:Ieee.Datum):d.sum e=e.sum d:=by
 cases d<;>cases e<;>simp only[Ieee.Datum.sum]
 .rename_i s m i t n j;rw[Int.min_comm j i,Int.add_comm (Ieee.signed t n _),Bool.and_comm]
 .rename_i s t;by_cases h:s=t
  .rw[if_pos h,if_pos h.symm,h]
  .rw[if_neg h,if_neg (fun k=>h k.symm)]
theorem Lr(a b:Int):DQ a b=DQ b a:=by unfold DQ Ieee.Format.add;rw[XY]
def Mw(a:Nat):Nat:=if 2147483648<=a then a-2147483648 else a+2147483648
theorem RJ(a:Nat)(h:a<4294967296):rg (Mw a)=rg a:=by unfold rg Mw;split<;>omega
theorem Zs(a:Nat)(h:a<4294967296):ng (Mw a)= !ng a:=by
 unfold ng Mw;split
 .rename_i c;have e1:a/2147483648%2=1:=oM;have e2:(a-2147483648)/2147483648%2=0:=oM;simp[e1,e2]
 .rename_i c;have e1:a/2147483648%2=0:=oM;have e2:(a+2147483648)/2147483648%2=1:=oM;rw[e1,e2];rfl
theorem TH(a:Nat)(h:a<4294967296):Ieee.single.read (Mw a)=(Ieee.single.read a).opposite:=by
 rw[DK,DK,RJ a h,Zs a h];split
 .rfl
 .split
  .rfl
  .split<;>rfl
theorem NM(a:Int)(h0:0<=a)(h1:a<4294967296)(hn:nan a=false):JI a=(Mw a.toNat:Nat):=by
 unfold JI Mw;have e:(if 2147483648<=a then a-2147483648 else a+2147483648)=((if 2147483648<=a.toNat then a.toNat-2147483648 else a.toNat+2147483648:Nat):Int):=by
  by_cases c:2147483648<=a
  .rw[if_pos c,if_pos oM];omega
  .rw[if_neg c,if_neg oM];omega
 rw[e];apply Ln;have:=RJ a.toNat oM;unfold Mw at this;rw[this];rw[JV a h0]at hn;simpa using hn
theorem NL(a:Int)(h0:0<=a)(h1:a<4294967296)(hn:nan a=true):JI a=2143289344:=by
 unfold JI An;rw[MK]at hn;have:nan (if 2147483648<=a then a-2147483648 else a+2147483648)=true:=by
  rw[MK];split<;>omega
 rw[if_pos this]
theorem R6(a:Int)(h0:0<=a)(h1:a<4294967296):0<=JI a/\JI a<4294967296:=by
 have h:0<=(if 2147483648<=a then a-2147483648 else a+2147483648)/\(if 2147483648<=a then a-2147483648 else a+2147483648)<4294967296:=by split<;>omega
 exact ET _ h.1 h.2

theorem GL(a:Int)(k:Nat)(hk:k<64)(h0:0<=a)(h1:a<18446744073709551616):bits .and .u64 a ((2^k-1:Nat):Int)=a%((2^k:Nat):Int):=by
 have hp:2^k<2^64:=Nat.pow_lt_pow_right oM hk;have hq:0<2^k:=Nat.two_pow_pos k;obtain⟨n,rfl⟩:=Int.eq_ofNat_of_zero_le h0;rw[u64_and _ _ h0 h1 oM oM,Int.toNat_natCast,Int.toNat_natCast,Nat.and_two_pow_sub_one_eq_mod];rfl
theorem Yt(a:Int)(h0:0<=a)(h1:a<18446744073709551616):bits .and .u64 a 255=a%256:=GL a 8 dE h0 h1
theorem US(a:Int)(h0:0<=a)(h1:a<18446744073709551616):bits .and .u64 a 8388607=a%8388608:=GL a 23 dE h0 h1
def B8(a:Int):Bool:=a/2147483648==1
def nM(a:Int):Int:=if a/8388608%256=255 then 0 else if a/8388608%256=0 then a%8388608 else 8388608+a%8388608
def nE(a:Int):Int:=if a/8388608%256=255 then 0 else if a/8388608%256=0 then -149 else a/8388608%256-150
def DG(a:Int):Bool:=if a/8388608%256=255 then a%8388608==0 else false
def BQ(a:Int):Bool:=if a/8388608%256=255 then a%8388608 != 0 else false
theorem De(a:Int)(h0:0<=a)(h1:a<4294967296)(w:World):
 Calls prog 106 #[.int .i64 a] w fun e w'=>e=.returned (.agg #[.bool (B8 a),.int .u64 (nM a),.int .i64 (nE a),.bool (DG a),.bool (BQ a)])/\∃o,w'=(w.alloc o).alloc o:=by
 have e1:=Yt (a/8388608) oM oM;have e2:=US a h0 oM;by_cases c:a/8388608%256=255
 .have f1:nM a=0:=by unfold nM;rw[if_pos c]
  have f2:nE a=0:=by unfold nE;rw[if_pos c]
  have f3:DG a=(a%8388608==0):=by unfold DG;rw[if_pos c]
  have f4:BQ a=(a%8388608 != 0):=by unfold BQ;rw[if_pos c]
  exact Zdo
 .by_cases c2:a/8388608%256=0
  .have f1:nM a=a%8388608:=by unfold nM;rw[if_neg c,if_pos c2]
   have f2:nE a= -149:=by unfold nE;rw[if_neg c,if_pos c2]
   have f3:DG a=false:=by unfold DG;rw[if_neg c]
   have f4:BQ a=false:=by unfold BQ;rw[if_neg c]
   exact Zdo
  .have f1:nM a=8388608+a%8388608:=by unfold nM;rw[if_neg c,if_neg c2]
   have f2:nE a=a/8388608%256-150:=by unfold nE;rw[if_neg c,if_neg c2]
   have f3:DG a=false:=by unfold DG;rw[if_neg c]
   have f4:BQ a=false:=by unfold BQ;rw[if_neg c]
   exact Zdo
def I4(s:Bool):Int:=if s then 2147483648 else 0
theorem QC(s:Bool):0<=I4 s/\I4 s<=2147483648:=by unfold I4;split<;>decide
theorem Gt(s:Bool)(w:World):
 Calls prog 114 #[.bool s] w fun e w'=>e=.returned (.int .u64 (I4 s))/\w'=w:=by
 cases s
 all_goals(
  go_enter func114,ntmps114;go_wp2;go_ret
  exact⟨rfl,rfl⟩)
theorem Dr(s:Bool)(w:World):
 Calls prog 112 #[.bool s] w fun e w'=>e=.returned (.int .i64 (I4 s))/\w'=w:=by
 have hl:=QC s;go_enter func112,ntmps112;go_wp2_with(go_at_call 114;refine(Gt _ _).mono ?_;rintro e w' ⟨rfl,rfl⟩);go_ret;exact⟨rfl,rfl⟩
theorem Ej(s:Bool)(w:World):
 Calls prog 111 #[.bool s] w fun e w'=>e=.returned (.int .i64 (I4 s+2139095040))/\w'=w:=by
 have hl:=QC s;go_enter func111,ntmps111;go_wp2_with(go_at_call 114;refine(Gt _ _).mono ?_;rintro e w' ⟨rfl,rfl⟩);go_ret;exact⟨rfl,rfl⟩
def Dg(n:Nat):Nat:=if n=0 then 0 else n.log2+1
theorem SF(n:Nat)(h:n≠0):Dg n=Dg (n/2)+1:=by
 unfold Dg;rw[if_neg h];by_cases c:n/2=0
 .rw[if_pos c];have:n=1:=oM;subst this;decide
 .rw[if_neg c,Nat.log2_def n,if_pos oM]
theorem Fv(m:Int)(h0:0<=m)(h1:m<18446744073709551616)(w:World):
 Calls prog 92 #[.int .u64 m] w fun e w'=>e=.returned (.int .i64 (Dg m.toNat))/\w'=w:=by
 have hb:Dg m.toNat<=64:=by
  unfold Dg;split
  .omega
  .rename_i c;have:m.toNat.log2<64:=(Nat.log2_lt c).2 oM;omega
 generalize hB:Dg m.toNat=B at *;have HB:Hid (Dg m.toNat=B):=hB;clear hB;go_enter func92,ntmps92;go_wp2;go_loop [0,3] (fun mv nv=>∃ (x:Int) (k:Nat),0<=x/\x<=m/\mv=.int .u64 x/\nv=.int .i64 k/\k+Dg x.toNat=B) (fun mv _=>(intOf mv).toNat)
 case atStart=>exact⟨m,0,h0,Int.le_refl _,rfl,rfl,by rw[HB.out];omega⟩
 case round=>
  obtain⟨x,k,hx0,hx1,rfl,rfl,hk⟩:=hrel;have HK:Hid (k+Dg x.toNat=B):=hk;by_cases hz:x=0
  .have:k=B:=by rw[<-hk,hz];rfl
   subst this;clear hk HK HB;subst hz;go_wp2;go_ret;exact⟨rfl,rfl⟩
  .have hs:=SF x.toNat oM;have HS:Hid (Dg x.toNat=Dg (x.toNat/2)+1):=hs;have hkB:k<=63:=oM;clear hs hk;go_wp2;go_round
   case rel=>exact⟨x/2,k+1,oM,oM,rfl,gN,by rw[show(x/2).toNat=x.toNat/2 by omega];have:=HK.out;have:=HS.out;omega⟩
   case measure=>simp[intOf];omega
theorem Mr(neg:Bool)(n drop:Nat):Ieee.Toward.even.cut neg n drop=n/2^drop+(if 2^drop<2*(n%2^drop)\/(2^drop=2*(n%2^drop)/\n/2^drop%2=1)then 1 else 0):=by
 have Bl:∀g l r:Nat,l+(decide (g<2*r)||g==2*r&&l%2==1).toNat=l+(if g<2*r\/(g=2*r/\l%2=1)then 1 else 0):=by
  intro g l r;by_cases c1:g<2*r
  .simp[c1]
  .by_cases c2:g=2*r
   .by_cases c3:l%2=1<;>simp[c2,c3]
   .simp[c1,c2]
 unfold Ieee.Toward.cut;simp only[Nat.one_shiftLeft];rcases Nat.lt_or_ge (n.log2+2) drop with c|c
 .rw[Nat.min_eq_right oM];have h1:n<2^(n.log2+1):=Nat.lt_log2_self;have h2:2^(n.log2+2)=2*2^(n.log2+1):=by rw[Nat.pow_succ];omega
  have h3:2^(n.log2+2)<=2^drop:=Nat.pow_le_pow_right oM oM;rw[Bl,Nat.div_eq_of_lt oM,Nat.mod_eq_of_lt oM,Nat.div_eq_of_lt oM,Nat.mod_eq_of_lt (show n<2^drop by omega)];rw[if_neg oM,if_neg oM]
 .rw[Nat.min_eq_left oM,Bl]
theorem YG(m:Int)(h0:0<=m)(d:Nat)(hd:1<=d):((Ieee.Toward.even.cut false m.toNat d:Nat):Int)=if(2:Int)^(d-1)<m%2^d\/(m%2^d=2^(d-1)/\m/2^d%2=1)then m/2^d+1 else m/2^d:=by
 obtain⟨n,rfl⟩:=Int.eq_ofNat_of_zero_le h0;rw[Mr,Int.toNat_natCast];have hG:2^d=2*2^(d-1):=by
  obtain⟨e,rfl⟩:∃e,d=e+1:=⟨d-1,oM⟩
  rw[Nat.add_sub_cancel,Nat.pow_succ,Nat.mul_comm]
 have e1:((n:Int)/2^d)=((n/2^d:Nat):Int):=by push_cast;rfl
 have e2:((n:Int)%2^d)=((n%2^d:Nat):Int):=by push_cast;rfl
 have e3:(2:Int)^(d-1)=((2^(d-1):Nat):Int):=by push_cast;rfl
 rw[e1,e2,e3];generalize n/2^d=q;generalize n%2^d=r;rw[hG];generalize 2^(d-1)=H;by_cases c:2*H<2*r\/(2*H=2*r/\q%2=1)
 .rw[if_pos c,if_pos oM];omega
 .rw[if_neg c,if_neg oM];omega
theorem Om(m:Int)(h0:0<=m)(h1:m<18446744073709551616)(d:Nat)(g0:1<=d)(g1:d<64)(w:World):
 Calls prog 113 #[.int .u64 m,.int .i64 d] w fun e w'=>e=.returned (.int .u64 (Ieee.Toward.even.cut false m.toNat d:Nat))/\w'=w:=by
 rw[YG m h0 d g0];have hG:(2:Int)^d=2*2^(d-1):=by
  obtain⟨e,rfl⟩:∃e,d=e+1:=⟨d-1,oM⟩
  rw[Nat.add_sub_cancel,Int.pow_succ,Int.mul_comm]
 have hle:(2:Int)^d<=9223372036854775808:=by
  have h:2^d<=9223372036854775808:=gH (Nat.pow_le_pow_right dE (show d<=63 by omega)) dE;have h':((2^d:Nat):Int)<=((9223372036854775808:Nat):Int):=Int.ofNat_le.2 h;rw[Int.natCast_pow]at h';exact h'
 have hH:(1:Int)<=2^(d-1):=Int.pow_pos dE;have f1:IntKind.u64.wrap ((2:Int)^d)=2^d:=by rw[IntKind.wrap_u64];omega
 have f4:IntKind.u64.wrap ((2:Int)^(d-1))=2^(d-1):=by rw[IntKind.wrap_u64];omega
 have f3:bits .and .u64 m ((2:Int)^d-1)=m%2^d:=by
  have:=GL m d g1 h0 h1;have e:((2^d-1:Nat):Int)=(2:Int)^d-1:=by
   rw[Int.ofNat_sub (Nat.two_pow_pos d)];push_cast;rfl
  rw[e]at this;rw[this];push_cast;rfl
 have hr0:0<=m%2^d:=Int.emod_nonneg _ oM;have hr1:m%2^d<2^d:=Int.emod_lt_of_pos _ oM;have hq0:0<=m/2^d:=Int.ediv_nonneg h0 oM;have hq1:m/2^d<=9223372036854775807:=by
  have h2:m/2^d<=m/2:=by
   have:(2:Int)∣2^d:=⟨2^(d-1),hG⟩
   rw[hG,<-Int.ediv_ediv_of_nonneg dE];exact Int.ediv_le_self _ oM
  omega
 have f5:IntKind.u64.wrap ((2:Int)^d-1)=2^d-1:=by rw[IntKind.wrap_u64];omega
 generalize hr:m%2^d=r at *;generalize hq:m/2^d=q at *;generalize hHH:(2:Int)^(d-1)=H at *;generalize hGG:(2:Int)^d=G at *;have hG1:1<=G:=oM;clear hr hG;by_cases c1:H<r
 .rw[if_pos (Or.inl c1)];exact Zce
 .by_cases c2:r=H
  .by_cases c3:q%2=1
   .rw[if_pos (Or.inr ⟨c2,c3⟩)];exact Zce
   .rw[if_neg oM];exact Zce
  .rw[if_neg oM];exact Zce
theorem J2(m:Int)(h0:0<=m)(h1:m<18446744073709551616)(d:Int)(g0:1<=d)(g1:d<100000)(w:World):
 Calls prog 113 #[.int .u64 m,.int .i64 d] w fun e w'=>e=.returned (.int .u64 (Ieee.Toward.even.cut false m.toNat d.toNat:Nat))/\w'=w:=by
 rcases Int.lt_trichotomy d 64 with c|c|c
 .have:=Om m h0 h1 d.toNat oM oM w;rwa[Int.toNat_of_nonneg oM]at this
 .subst c;have hv:((Ieee.Toward.even.cut false m.toNat (64:Int).toNat:Nat):Int)=if 9223372036854775808<m then 1 else 0:=by
   rw[Mr,show(64:Int).toNat=64 from rfl,show(2:Nat)^64=18446744073709551616 from rfl,Nat.div_eq_of_lt oM,Nat.mod_eq_of_lt oM];by_cases c:9223372036854775808<m
   .rw[if_pos c,if_pos oM];rfl
   .rw[if_neg c,if_neg oM];rfl
  rw[hv];clear hv;by_cases c:9223372036854775808<m
  .rw[if_pos c];exact Zce
  .rw[if_neg c];by_cases c2:m=9223372036854775808
   .subst c2;exact Zce
   .exact Zce
 .have hv:((Ieee.Toward.even.cut false m.toNat d.toNat:Nat):Int)=0:=by
   have hp:2^65<=2^d.toNat:=Nat.pow_le_pow_right dE oM;have h65:(2:Nat)^65=36893488147419103232:=rfl;rw[Mr,Nat.div_eq_of_lt oM,Nat.mod_eq_of_lt oM,if_neg oM];rfl
  rw[hv];clear hv;exact Zce
theorem OV(s:Bool)(r:Nat):((wd s r:Nat):Int)=I4 s+min (r:Int) 2139095040:=by
 unfold wd I4;cases s
 .simp only[if_false,Bool.false_eq_true];omega
 .simp only[if_true];omega
theorem Lg(s:Bool)(m:Nat)(e:Int)(h0:m≠0):∃ (U:Int) (k:Nat),U=max (e+(Dg m:Int)-24) (-149)/\
 ((Ieee.single.nearest s m e:Nat):Int)=I4 s+min ((U+149)*8388608+k) 2139095040/\k<=16777216/\(U= -149\/8388608<=k)/\
 k=Ieee.Toward.even.cut false (m*2^(e-U).toNat) (U-e).toNat/\(U<=e->(k:Int)=(m:Int)*2^(e-U).toNat):=by
 have hb:(Dg m:Int)-24=m.log2-23:=by unfold Dg;rw[if_neg h0];omega
 have hn:=BK Ieee.single s m e;rw[Js,Ds,C3]at hn;refine⟨max (e+(Dg m:Int)-24) (-149),Ieee.Toward.even.cut false (m*2^(e-max (e+(Dg m:Int)-24) (-149)).toNat) (max (e+(Dg m:Int)-24) (-149)-e).toNat,rfl,?_⟩;have hU:max (e+(Dg m:Int)-24) (-149)=max (e+m.log2-((23:Nat):Int)) (-149):=oM;rw[hU];generalize hUU:max (e+m.log2-((23:Nat):Int)) (-149)=U at *;have hr:Cj 23 (-149) m e=(U-(-149)).toNat*2^23+Ieee.Toward.even.cut false (m*2^(e-U).toNat) (U-e).toNat:=by
  unfold Cj;rw[if_neg h0,Nat.shiftLeft_eq,hUU]
 have hcut:=Nx false (m*2^(e-U).toNat) (U-e).toNat;generalize hk:Ieee.Toward.even.cut false (m*2^(e-U).toNat) (U-e).toNat=k at *;have hlo:2^m.log2<=m:=Nat.log2_self_le h0;have hhi:m<2^(m.log2+1):=Nat.lt_log2_self;have hcs:=hcut.scale 0 0 (U-e).toNat rfl;rw[Nat.pow_zero,Nat.mul_one]at hcs;have lo:U= -149\/2^23*2^(U-e).toNat<=m*2^(e-U).toNat:=by
  rcases(show U= -149\/U=e+m.log2-23 by omega)with c|c
  .exact Or.inl c
  .right
   calc 2^23*2^(U-e).toNat=2^m.log2*2^(e-U).toNat:=by rw[<-Nat.pow_add,<-Nat.pow_add];congr 1;omega
    _<=m*2^(e-U).toNat:=Nat.mul_le_mul_right _ hlo
 have hi:m*2^(e-U).toNat<2*2^23*2^(U-e).toNat:=by
  calc m*2^(e-U).toNat<2^(m.log2+1)*2^(e-U).toNat:=Nat.mul_lt_mul_of_pos_right hhi (Nat.two_pow_pos _)
   _=2^(m.log2+1+(e-U).toNat):=(Nat.pow_add ..).symm
   _<=2^(24+(U-e).toNat):=Nat.pow_le_pow_right dE oM
   _=2*2^23*2^(U-e).toNat:=by rw[Nat.pow_add]
 have up:=hcut.up;have dn:=hcut.dn;simp only[Nat.mul_one]at up dn;have hT:0<2^(U-e).toNat:=Nat.two_pow_pos _;have hkle:k<=16777216:=by
  rcases Nat.lt_or_ge 16777216 k with c|c
  .exfalso;have:(2*16777217)*2^(U-e).toNat<=2*k*2^(U-e).toNat:=Nat.mul_le_mul_right _ oM;generalize 2^(U-e).toNat=T at *;generalize m*2^(e-U).toNat=X at *;omega
  .exact c
 have hkge:U= -149\/8388608<=k:=by
  rcases lo with c|c
  .exact Or.inl c
  .right;rcases Nat.lt_or_ge k 8388608 with d|d
   .exfalso;have:(2*k+1)*2^(U-e).toNat<=16777215*2^(U-e).toNat:=Nat.mul_le_mul_right _ oM;generalize 2^(U-e).toNat=T at *;generalize m*2^(e-U).toNat=X at *;omega
   .exact d
 refine⟨?_,hkle,hkge,rfl,?_⟩
 .rw[hn,hr,OV];rw[Int.natCast_add,Int.natCast_mul,Int.toNat_of_nonneg oM];omega
 .intro l;rw[show(U-e).toNat=0 by omega]at hcut;have up:=hcut.up;have dn:=hcut.dn;have ue:=hcut.ue;have de:=hcut.de;have:k=m*2^(e-U).toNat:=by
   generalize m*2^(e-U).toNat=X at *;simp only[Nat.pow_zero,Nat.mul_one]at ue de up dn;omega
  rw[this];push_cast;rfl
theorem BM(s:Bool)(m:Int)(h0:0<=m)(h1:m<18446744073709551616)(e:Int)(e0: -10000<=e)(e1:e<=10000)(w:World):
 Calls prog 94 #[.bool s,.int .u64 m,.int .i64 e] w fun x w'=>x=.returned (.int .i64 (Ieee.single.nearest s m.toNat e:Nat))/\w'=w:=by
 have hs:=QC s;by_cases hz:m=0
 .subst hz;have hv:((Ieee.single.nearest s (0:Int).toNat e:Nat):Int)=I4 s:=by
   show((Ieee.single.nearest s 0 e:Nat):Int)=I4 s;exact Zfv
  rw[hv];clear hv;go_enter func94,ntmps94;go_wp2_with(go_at_call 112;refine(Dr _ _).mono ?_;rintro e w' ⟨rfl,rfl⟩);go_ret;exact⟨rfl,rfl⟩
 .obtain⟨U,k,hU,hv,hk1,hk2,hk3,hk4⟩:=Lg s m.toNat e oM;rw[hv];clear hv;have hB:1<=Dg m.toNat/\Dg m.toNat<=64:=by
   unfold Dg;rw[if_neg oM];have:m.toNat.log2<64:=(Nat.log2_lt oM).2 oM;omega
  generalize hBB:Dg m.toNat=B at *;have fh:e<U->((Ieee.Toward.even.cut false m.toNat (U-e).toNat:Nat):Int)=k:=by
   intro l;rw[hk3,show(e-U).toNat=0 by omega,Nat.pow_zero,Nat.mul_one]
  have fq:U<=e->IntKind.u64.wrap (m*2^(-(U-e)).toNat)=k:=by
   intro l;have:=hk4 l;rw[show(-(U-e)).toNat=(e-U).toNat by omega,show m=(m.toNat:Int) by omega,<-this,IntKind.wrap_u64];omega
  clear hk3 hk4;have hUr: -149<=U/\U<=20000:=oM;have hK0:0<=(k:Int)/\(k:Int)<=16777216/\(U= -149\/8388608<=(k:Int)):=oM;clear hk1 hk2;generalize hKK:(k:Int)=K at *;clear hKK;generalize hT:min ((U+149)*8388608+K) 2139095040=T;have cases:(K=16777216/\U<104/\T=(U+151)*8388608)\/(K=16777216/\104<=U/\T=2139095040)\/(U= -149/\K<8388608/\T=K)\/
   (8388608<=K/\K<16777216/\U<105/\T=(U+149)*8388608+K)\/(8388608<=K/\K<16777216/\105<=U/\T=2139095040):=oM
  clear hT;by_cases hu: -149>e+(B:Int)-24
  .have hU':U= -149:=oM;clear hU;subst hU';clear hUr;by_cases hsh: -149<=e
   .have fq':=fq hsh;exact Zbx
   .have fh':=fh oM;exact Zbx
  .have hu2:e+(B:Int)-24=U:=oM;clear hU;by_cases hsh:U<=e
   .have fq':=fq hsh;exact Zbw
   .have fh':=fh oM;exact Zbw
theorem MJ(a:Int)(h0:0<=a)(h1:a<4294967296):B8 a=ng a.toNat:=by
 unfold B8 ng;by_cases c:2147483648<=a
 .have e1:a/2147483648=1:=oM;have e2:a.toNat/2147483648%2=1:=oM;rw[e1,e2];rfl
 .have e1:a/2147483648=0:=oM;have e2:a.toNat/2147483648%2=0:=oM;rw[e1,e2];rfl
theorem Cb(a:Int)(h0:0<=a)(h1:a<4294967296):BQ a=nan a:=by
 unfold BQ nan;by_cases c:a/8388608%256=255
 .rw[if_pos c];by_cases d:a%8388608=0
  .have:¬ (2139095040<a%2147483648):=oM;simp[d,this]
  .have:2139095040<a%2147483648:=oM;simp[d,this]
 .rw[if_neg c];have:¬ (2139095040<a%2147483648):=oM;simp[this]
theorem Fs(a:Int)(h0:0<=a)(h1:a<4294967296)(h:BQ a=true):∃s t,Ieee.single.read a.toNat=.nan s t:=by
 rw[Cb a h0 h1,JV a h0]at h;exact⟨_,_,Ei _ UQ⟩
theorem Dv(a:Int)(h0:0<=a)(h1:a<4294967296)(h:DG a=true):Ieee.single.read a.toNat=.infinity (B8 a)/\BQ a=false/\nM a=0:=by
 have c:a/8388608%256=255/\a%8388608=0:=by
  unfold DG at h;split at h
  .rename_i c;exact⟨c,by simpa using h⟩
  .cases h
 refine⟨?_,?_,?_⟩
 .rw[MJ a h0 h1];exact Eh _ (by have:=Ct a h0;omega)
 .unfold BQ;simp[c]
 .unfold nM;rw[if_pos c.1]
theorem BR(a:Int)(h0:0<=a)(h1:a<4294967296)(hi:DG a=false)(hn:BQ a=false):
 Ieee.single.read a.toNat=.number (B8 a) (nM a).toNat (nE a)/\0<=nM a/\nM a<16777216/\-149<=nE a/\nE a<=104/\(nE a= -149\/8388608<=nM a):=by
 have c:¬ (a/8388608%256=255):=by
  intro c;unfold DG at hi;unfold BQ at hn;rw[if_pos c]at hi hn;simp at hi hn;exact hi hn
 have hf:rg a.toNat<2139095040:=by have:=Ct a h0;omega
 have hr:=Ct a h0;rw[Cs _ hf,MJ a h0 h1];unfold nM nE mg te;rw[if_neg c,if_neg c];by_cases d:a/8388608%256=0
 .rw[if_pos d,if_pos d,if_pos oM,show rg a.toNat/8388608-1=0 by omega,show(a%8388608).toNat=rg a.toNat by omega];exact⟨rfl,oM,oM,oM,oM,oM⟩
 .rw[if_neg d,if_neg d,if_neg oM,show(8388608+a%8388608).toNat=8388608+rg a.toNat%8388608 by omega,show -149+((rg a.toNat/8388608-1:Nat):Int)=a/8388608%256-150 by omega];exact⟨rfl,oM,oM,oM,oM,oM⟩
theorem DM(s1:Bool)(m1 e1:Int)(i1 n1 s2:Bool)(m2 e2:Int)(i2 n2:Bool)(w:World):
 Calls prog 110 #[.agg #[.bool s1,.int .u64 m1,.int .i64 e1,.bool i1,.bool n1],.agg #[.bool s2,.int .u64 m2,.int .i64 e2,.bool i2,.bool n2]] w fun e w'=>e=.returned (.bool (n1||n2))/\∃o p,w'=(w.alloc o).alloc p:=by
 cases n1<;>cases n2
 all_goals(
  go_enter func110,ntmps110;go_wp2;go_ret
  exact⟨rfl,_,_,rfl⟩)
theorem Ce(s:Bool):((Ieee.single.write (.infinity s):Nat):Int)=I4 s+2139095040:=by cases s<;>decide
theorem Ey(a b:Int){d e:Ieee.Datum}(h:Ieee.single.read a.toNat=d)(k:Ieee.single.read b.toNat=e):FJ a b=Ry ((d.product e).map Ieee.single.write):=by
 unfold FJ Ieee.Format.mul;rw[h,k]
theorem DZ(s t:Bool):(s^^t)=(s != t):=by cases s<;>cases t<;>rfl
theorem NK(a b:Int)(h0:0<=a)(h1:a<4294967296)(g0:0<=b)(g1:b<4294967296)(h:BQ a=true\/BQ b=true):FJ a b=2143289344:=by
 rcases h with h|h
 .obtain⟨s,t,e⟩:=Fs a h0 h1 h;rw[Ey a b e rfl];cases Ieee.single.read b.toNat<;>rfl
 .obtain⟨s,t,e⟩:=Fs b g0 g1 h;rw[Ey a b rfl e];cases Ieee.single.read a.toNat<;>rfl
theorem Kl(a:Int)(h0:0<=a)(h1:a<4294967296)(b:Int)(g0:0<=b)(g1:b<4294967296)(w:World):
 Calls prog 93 #[.int .i64 a,.int .i64 b] w fun e w'=>e=.returned (.int .i64 (FJ a b))/\Below w.heap.size w w':=by
 cases hna:BQ a
 .cases hnb:BQ b
  .cases hia:DG a
   .obtain⟨ra,a1,a2,a3,a4,-⟩:=BR a h0 h1 hia hna;cases hib:DG b
    .obtain⟨rb,b1,b2,b3,b4,-⟩:=BR b g0 g1 hib hnb;have hv:FJ a b=(Ieee.single.nearest (B8 a != B8 b) (nM a*nM b).toNat (nE a+nE b):Nat):=by
      rw[Ey a b ra rb,show(nM a*nM b).toNat=(nM a).toNat*(nM b).toNat from Int.toNat_mul a1 b1,<-DZ];rfl
     have hm:0<=nM a*nM b/\nM a*nM b<281474976710656:=by
      refine⟨Int.mul_nonneg a1 b1,?_⟩;have h1:nM a*nM b<=16777215*16777215:=Int.mul_le_mul oM oM b1 oM;omega
     have hw:IntKind.u64.wrap (nM a*nM b)=nM a*nM b:=by rw[IntKind.wrap_u64];omega
     rw[hv];clear hv ra rb;exact Zam
    .obtain⟨rb,-,b1⟩:=Dv b g0 g1 hib;by_cases hz:nM a=0
     .have hv:FJ a b=2143289344:=by rw[Ey a b ra rb,hz];rfl
      rw[hv];clear hv ra rb;exact Zam
     .have hv:FJ a b=I4 (B8 a != B8 b)+2139095040:=by
       rw[Ey a b ra rb,<-Ce,<-DZ,Bool.xor_comm];have:(nM a).toNat≠0:=oM;simp only[Ieee.Datum.product,if_neg this];rfl
      rw[hv];clear hv ra rb;exact Zam
   .obtain⟨ra,-,a1⟩:=Dv a h0 h1 hia;cases hib:DG b
    .obtain⟨rb,b1,b2,b3,b4,-⟩:=BR b g0 g1 hib hnb;by_cases hz:nM b=0
     .have hv:FJ a b=2143289344:=by rw[Ey a b ra rb,hz];rfl
      rw[hv];clear hv ra rb;exact Zam
     .have hv:FJ a b=I4 (B8 a != B8 b)+2139095040:=by
       rw[Ey a b ra rb,<-Ce,<-DZ];have:(nM b).toNat≠0:=oM;simp only[Ieee.Datum.product,if_neg this];rfl
      rw[hv];clear hv ra rb;exact Zam
    .obtain⟨rb,-,b1⟩:=Dv b g0 g1 hib;have hv:FJ a b=I4 (B8 a != B8 b)+2139095040:=by
      rw[Ey a b ra rb,<-Ce,<-DZ];rfl
     rw[hv];clear hv ra rb;exact Zam
  .have hv:=NK a b h0 h1 g0 g1 (Or.inr hnb);rw[hv];clear hv;exact Zam
 .have hv:=NK a b h0 h1 g0 g1 (Or.inl hna);rw[hv];clear hv;exact Zam
theorem TQ(n:Int)(h0: -9223372036854775808<=n)(h1:n<=9223372036854775807)(w:World):
 Calls prog 64 #[.int .i64 n] w fun e w'=>e=.returned (.int .i64 (GG n))/\w'=w:=by
 unfold GG;by_cases c:n<0
 .rw[decide_eq_true c,show n.natAbs=(-(n+1)+1).toNat by omega];exact Zet
 .rw[decide_eq_false c,show n.natAbs=n.toNat by omega];exact Zet
theorem Gj(w:World)(v0 v1 v2 v3 v4:Value):(Instr.field 167 (.agg #[v0,v1,v2,v3,v4]) 4).run prog w=.ok v4 w:=by
 simp[Instr.field,run_underlying underlying167,asAgg,part,go_sem]
theorem NT(a b:Nat)(ha:a<9223372036854775808)(hb:b<9223372036854775808):bits .xor .i64 (a:Int) (b:Int)=((a^^^b:Nat):Int):=by
 have hx:a^^^b<2^63:=Nat.xor_lt_two_pow oM oM;show IntKind.i64.wrap ((BitVec.ofInt 64 (a:Int)^^^BitVec.ofInt 64 (b:Int)).toNat:Int)=_;rw[BitVec.toNat_xor,ofInt_u64 a oM,ofInt_u64 b oM,IntKind.wrap_i64];omega
theorem JK(a b:Nat)(ha:a<9223372036854775808)(hb:b<9223372036854775808):bits .andNot .i64 (a:Int) (b:Int)=((a&&& (18446744073709551615-b):Nat):Int):=by
 have hx:a&&& (18446744073709551615-b)<=a:=Nat.and_le_left;show IntKind.i64.wrap ((BitVec.ofInt 64 (a:Int)&&& ~~~BitVec.ofInt 64 (b:Int)).toNat:Int)=_;rw[BitVec.toNat_and,BitVec.toNat_not,ofInt_u64 a oM,ofInt_u64 b oM,IntKind.wrap_i64];have e:2^64-1-b=18446744073709551615-b:=oM;rw[e];omega
theorem QL(a:Int)(h0:0<=a)(h1:a<4294967296):bits .xor .i64 a 2147483648=if 2147483648<=a then a-2147483648 else a+2147483648:=by
 rw[<-Y7 a h0 h1,u32_xor a _ h0 h1 dE dE];obtain⟨A,rfl⟩:=Int.eq_ofNat_of_zero_le h0;exact NT A 2147483648 oM dE
theorem EM(a:Int)(h0:0<=a)(h1:a<4294967296):bits .andNot .i64 a 2147483648=a%2147483648:=by
 rw[<-Tn a h0 h1,u32_andNot a _ h0 h1 dE dE];obtain⟨A,rfl⟩:=Int.eq_ofNat_of_zero_le h0;rw[show(2147483648:Int)=((2147483648:Nat):Int)from rfl,JK A 2147483648 oM dE,Int.toNat_natCast,Int.toNat_natCast];congr 1;apply Nat.eq_of_testBit_eq;intro i;rw[Nat.testBit_and,Nat.testBit_and];rcases Nat.lt_or_ge i 32 with c|c
 .have:∀j:Fin 32,(18446744073709551615-2147483648:Nat).testBit j.val=(4294967295-2147483648:Nat).testBit j.val:=dE;rw[this ⟨i,c⟩]
 .have:A.testBit i=false:=Nat.testBit_lt_two_pow (Nat.lt_of_lt_of_le (show A<2^32 by omega) (Nat.pow_le_pow_right dE c));rw[this,Bool.false_and,Bool.false_and]
theorem Oo(a:Int)(h0:0<=a)(h1:a<4294967296)(w:World):
 Calls prog 120 #[.int .i64 a] w fun e w'=>e=.returned (.int .i64 (JI a))/\Below w.heap.size w w':=by
 have hf:=Gj;cases hna:BQ a
 .have hv:JI a=if 2147483648<=a then a-2147483648 else a+2147483648:=by
   rw[NM a h0 h1 (by rw[<-Cb a h0 h1];exact hna)];unfold Mw;by_cases c:2147483648<=a
   .rw[if_pos c,if_pos oM];omega
   .rw[if_neg c,if_neg oM];omega
  have hx:=QL a h0 h1;rw[hv];clear hv;generalize (if 2147483648<=a then a-2147483648 else a+2147483648)=z at *;go_enter func120,ntmps120;exact UO
 .have hv:=NL a h0 h1 (by rw[<-Cb a h0 h1];exact hna);rw[hv];clear hv;go_enter func120,ntmps120;exact UO
theorem Wq(a:Int)(h0:0<=a)(h1:a<4294967296)(w:World):
 Calls prog 121 #[.int .i64 a] w fun e w'=>e=.returned (.int .i64 (YR a))/\Below w.heap.size w w':=by
 have hm:nan (a%2147483648)=nan a:=by unfold nan;rw[Int.emod_emod_of_dvd _ (Int.dvd_refl _)]
 unfold YR An;rw[hm,<-Cb a h0 h1];have hx:=EM a h0 h1;have hf:=Gj;cases hna:BQ a
 .rw[if_neg dE];go_enter func121,ntmps121;exact UO
 .rw[if_pos rfl];go_enter func121,ntmps121;exact UO
theorem LF(a:Int)(h0:0<=a)(h1:a<4294967296):(ng a.toNat=true/\Bl a= -1-(rg a.toNat:Int)/\sv a.toNat= -(mv a.toNat:Int))\/(ng a.toNat=false/\Bl a=(rg a.toNat:Int)/\sv a.toNat=(mv a.toNat:Int)):=by
 have hr:=Ct a h0;rw[Q5 a h0 h1];by_cases c:2147483648<=a
 .left;refine⟨by simpa using c,?_,?_⟩
  .unfold Bl;rw[if_pos c];omega
  .unfold sv sg;rw[Q5 a h0 h1,if_pos (by simpa using c)]
 .right;refine⟨by simpa using c,?_,?_⟩
  .unfold Bl;rw[if_neg c];omega
  .unfold sv sg;rw[Q5 a h0 h1,if_neg (by simpa using c)]
theorem Jl(x:Nat):mv x=0↔rg x=0:=by
 unfold mv;constructor
 .intro h;rw[<-Mo 23]at h;exact UM 23 h
 .intro h;rw[h,Mo]
theorem PO(a b:Int)(h0:0<=a)(h1:a<4294967296)(g0:0<=b)(g1:b<4294967296):Bl a<Bl b↔(sv a.toNat<sv b.toNat\/(rg a.toNat=0/\rg b.toNat=0/\ng a.toNat=true/\ng b.toNat=false)):=by
 have ha:=LF a h0 h1;have hb:=LF b g0 g1;have m1:mv a.toNat<mv b.toNat↔rg a.toNat<rg b.toNat:=Nk 23 _ _;have m2:mv b.toNat<mv a.toNat↔rg b.toNat<rg a.toNat:=Nk 23 _ _;have z1:=Jl a.toNat;have z2:=Jl b.toNat;rcases ha with⟨p,q,r⟩|⟨p,q,r⟩<;>rcases hb with⟨p',q',r'⟩|⟨p',q',r'⟩<;>rw[p,q,r,p',q',r']<;>simp only[Bool.false_eq_true,Bool.true_eq_false,and_false,or_false,and_true]<;>omega
theorem Jn(a b:Int)(h0:0<=a)(h1:a<4294967296)(g0:0<=b)(g1:b<4294967296):sv a.toNat=sv b.toNat↔(a=b\/(a%2147483648=0/\b%2147483648=0)):=by
 have hr:=Ct a h0;have hs:=Ct b g0;constructor
 .intro h;obtain⟨e,f⟩:=sv_inj h;rcases f with f|f
  .exact Or.inl (ZJ h0 h1 g0 g1 e f)
  .right;omega
 .rintro(h|⟨h,k⟩)
  .rw[h]
  .have z1:=(Jl a.toNat).2 oM;have z2:=(Jl b.toNat).2 oM;unfold sv sg;rw[z1,z2];simp
theorem Vl(a b:Int)(h0:0<=a)(h1:a<4294967296)(g0:0<=b)(g1:b<4294967296)(hn:nan a=false)(hm:nan b=false):Jc a b=if Bl b<Bl a then b else a:=by
 unfold Jc;rw[Kc a b h0 g0,if_neg (by simp[hn,hm])];have hk:=PO b a g0 g1 h0 h1;rcases Int.lt_trichotomy (sv a.toNat) (sv b.toNat)with c|c|c
 .have hne:¬ (Bl b<Bl a):=by
   exact Zew
  rw[Pm c];simp only [];rw[if_neg hne]
 .rw[Pk c];simp only [];rcases(Jn a b h0 h1 g0 g1).1 c with e|⟨e,f⟩
  .subst e;split<;>simp
  .unfold Bl;by_cases d1:2147483648<=a<;>by_cases d2:2147483648<=b<;>simp only[d1,d2,if_true,if_false]
   .rw[if_neg oM]
   .rw[if_neg oM]
   .rw[if_pos oM]
   .rw[if_neg oM];omega
 .rw[Pl c];simp only [];rw[if_pos (hk.2 (Or.inl c))]
theorem Vj(a b:Int)(h0:0<=a)(h1:a<4294967296)(g0:0<=b)(g1:b<4294967296)(hn:nan a=false)(hm:nan b=false):JH a b=if Bl b>Bl a then b else a:=by
 unfold JH;rw[Kc a b h0 g0,if_neg (by simp[hn,hm])];have hk:=PO a b h0 h1 g0 g1;rcases Int.lt_trichotomy (sv a.toNat) (sv b.toNat)with c|c|c
 .rw[Pm c];simp only [];rw[if_pos (show Bl b>Bl a from hk.2 (Or.inl c))]
 .rw[Pk c];simp only [];rcases(Jn a b h0 h1 g0 g1).1 c with e|⟨e,f⟩
  .subst e;split<;>simp
  .unfold Bl;by_cases d1:2147483648<=a<;>by_cases d2:2147483648<=b<;>simp only[d1,d2,if_true,if_false]
   .rw[if_neg oM];omega
   .rw[if_pos oM]
   .rw[if_neg oM]
   .rw[if_neg oM]
 .have hne:¬ (Bl b>Bl a):=by
   show¬ (Bl a<Bl b);exact Zew
  rw[Pl c];simp only [];rw[if_neg hne]
theorem T7(a b:Int)(h0:0<=a)(h1:a<4294967296)(g0:0<=b)(g1:b<4294967296)(hn:nan a=false)(hm:nan b=false):JG a b=(decide (Bl a<Bl b)&& !((a%2147483648==0)&&(b%2147483648==0))):=by
 have h:=T6 a b h0 g0;have hk:=PO a b h0 h1 g0 g1;have hr:=Ct a h0;have hs:=Ct b g0;have hz:=Jn a b h0 h1 g0 g1;simp only[hn,hm,true_and]at h;rw[Bool.eq_iff_iff,h];simp only[Bool.and_eq_true,decide_eq_true_eq,Bool.not_eq_true',Bool.and_eq_false_iff,beq_eq_false_iff_ne];constructor
 .intro c;refine⟨hk.2 (Or.inl c),?_⟩;by_cases e:a%2147483648=0
  .right;intro f;have:=hz.2 (Or.inr ⟨e,f⟩);omega
  .exact Or.inl e
 .rintro⟨c,d⟩;rcases hk.1 c with e|⟨e1,e2,-,-⟩
  .exact e
  .exfalso;rcases d with d|d<;>omega
theorem E3(a b:Int)(h0:0<=a)(g0:0<=b)(h:nan a=true\/nan b=true):JG a b=false/\feq a b=false/\Jc a b=2143289344/\JH a b=2143289344:=by
 unfold JG feq Jc JH;rw[Kc a b h0 g0,if_pos h];exact⟨rfl,rfl,rfl,rfl⟩
theorem Iw(a:Int)(h0:0<=a)(h1:a<4294967296)(w:World):
 Calls prog 116 #[.int .i64 a] w fun e w'=>e=.returned (.int .i64 (Bl a))/\w'=w:=by
 have hx:=EM a h0 h1;unfold Bl;by_cases c:2147483648<=a
 .have h2:a/2147483648=1:=oM;rw[if_pos c];go_enter func116,ntmps116;go_wp2;go_ret;exact⟨Ht oM,rfl⟩
 .have h2:a/2147483648=0:=oM;rw[if_neg c];go_enter func116,ntmps116;go_wp2;go_ret;exact⟨Ht oM,rfl⟩
theorem Ga(a:Int)(h0:0<=a)(h1:a<4294967296)(w:World):
 Calls prog 132 #[.int .i64 a] w fun e w'=>e=.returned (.bool (a%2147483648==0))/\w'=w:=by
 have hx:=EM a h0 h1;go_enter func132,ntmps132;go_wp2;go_ret;exact⟨rfl,rfl⟩
theorem G9(a:Int)(h0:0<=a)(h1:a<4294967296)(w:World):
 Calls prog 85 #[.int .i64 a] w fun e w'=>e=.returned (.int .i64 (An a))/\Below w.heap.size w w':=by
 have hf:=Gj;unfold An;rw[<-Cb a h0 h1];cases hna:BQ a
 .rw[if_neg dE];go_enter func85,ntmps85;exact UO
 .rw[if_pos rfl];go_enter func85,ntmps85;exact UO
theorem On(a:Int)(h0:0<=a)(h1:a<4294967296)(b:Int)(g0:0<=b)(g1:b<4294967296)(w:World):
 Calls prog 96 #[.int .i64 a,.int .i64 b] w fun e w'=>e=.returned (.int .i64 (Jc a b))/\Below w.heap.size w w':=by
 have ea:=Cb a h0 h1;have eb:=Cb b g0 g1;cases hna:BQ a
 .cases hnb:BQ b
  .rw[Vl a b h0 h1 g0 g1 Zhj Zhi];clear ea eb;by_cases c:Bl b<Bl a
   .rw[if_pos c];go_enter func96,ntmps96;exact Zat
   .rw[if_neg c];go_enter func96,ntmps96;exact Zat
  .rw[(E3 a b h0 g0 (Or.inr Zhi)).2.2.1];clear ea eb;go_enter func96,ntmps96;exact Zat
 .rw[(E3 a b h0 g0 (Or.inl Zhj)).2.2.1];clear ea eb;go_enter func96,ntmps96;exact Zat
theorem Wz(a:Int)(h0:0<=a)(h1:a<4294967296)(b:Int)(g0:0<=b)(g1:b<4294967296)(w:World):
 Calls prog 126 #[.int .i64 a,.int .i64 b] w fun e w'=>e=.returned (.int .i64 (JH a b))/\Below w.heap.size w w':=by
 have ea:=Cb a h0 h1;have eb:=Cb b g0 g1;cases hna:BQ a
 .cases hnb:BQ b
  .rw[Vj a b h0 h1 g0 g1 Zhj Zhi];clear ea eb;by_cases c:Bl b>Bl a
   .rw[if_pos c];go_enter func126,ntmps126;exact Zat
   .rw[if_neg c];go_enter func126,ntmps126;exact Zat
  .rw[(E3 a b h0 g0 (Or.inr Zhi)).2.2.2];clear ea eb;go_enter func126,ntmps126;exact Zat
 .rw[(E3 a b h0 g0 (Or.inl Zhj)).2.2.2];clear ea eb;go_enter func126,ntmps126;exact Zat
theorem TR(a:Int)(h0:0<=a)(h1:a<4294967296)(b:Int)(g0:0<=b)(g1:b<4294967296)(w:World):
 Calls prog 127 #[.int .i64 a,.int .i64 b] w fun e w'=>e=.returned (.bool (JG a b))/\Below w.heap.size w w':=by
 have ea:=Cb a h0 h1;have eb:=Cb b g0 g1;cases hna:BQ a
 .cases hnb:BQ b
  .rw[T7 a b h0 h1 g0 g1 Zhj Zhi];clear ea eb;cases za:(a%2147483648==0)<;>cases zb:(b%2147483648==0)<;>simp only[Bool.and_true,Bool.and_false,Bool.not_true,Bool.not_false]
   all_goals(
    go_enter func127,ntmps127;go_wp2_with(first
     |(go_at_call 106;refine(De _ oM oM _).mono ?_;rintro e w' ⟨rfl,o,rfl⟩)
     |(go_at_call 110;refine(DM _ _ _ _ _ _ _ _ _ _ _).mono ?_;rintro e w' ⟨rfl,o,p,rfl⟩)
     |(go_at_call 116;refine(Iw _ oM oM _).mono ?_;rintro e w' ⟨rfl,rfl⟩)
     |(go_at_call 132;refine(Ga _ oM oM _).mono ?_;rintro e w' ⟨rfl,rfl⟩))
    go_ret
    exact⟨rfl,gG⟩)
  .rw[(E3 a b h0 g0 (Or.inr Zhi)).1];exact Zcg
 .rw[(E3 a b h0 g0 (Or.inl Zhj)).1];exact Zcg
theorem Ow(c:Int)(e0:0<=c)(e1:c<4294967296)(a:Int)(h0:0<=a)(h1:a<4294967296)(b:Int)(g0:0<=b)(g1:b<4294967296)(w:World):
 Calls prog 128 #[.int .i64 c,.int .i64 a,.int .i64 b] w fun e w'=>e=.returned (.int .i64 (Mx c a b))/\Below w.heap.size w w':=by
 have hf:=Gj;unfold Mx;rw[<-Cb c e0 e1];cases hn:BQ c<;>cases hz:(c%2147483648==0)<;>simp only[Bool.or_true,Bool.or_false,if_true,if_false,Bool.false_eq_true]
 all_goals(
  go_enter func128,ntmps128;go_wp2_with(first
   |(go_at_call 106;refine(De _ oM oM _).mono ?_;rintro e w' ⟨rfl,o,rfl⟩)
   |(go_at_call 132;refine(Ga _ oM oM _).mono ?_;rintro e w' ⟨rfl,rfl⟩)
   |(go_at_call 85;refine(G9 _ oM oM _).mono ?_;rintro e w1 ⟨rfl,hb1⟩))
  go_ret
  exact⟨rfl,Jx gG hb1⟩)
def rnd(x e:Int):Int:=if x=0 then 0 else(Ieee.single.nearest (decide (x<0)) x.natAbs e:Nat)
def GI(s:Bool)(x:Int):Int:=if s then -x else x
def Uo(s1:Bool)(m1 e1:Int)(s2:Bool)(m2 e2:Int):Int:=
 if e1-e2<=36 then rnd (GI s1 (m1*2^(e1-e2).toNat)+GI s2 m2) e2 else rnd (GI s1 (m1*68719476736)+GI s2 1) (e1-36)
theorem Hu{s:Bool}{m m':Nat}{e e':Int}(h:m=m')(k:e=e'):Ending.returned (.int .i64 ((Ieee.single.nearest s m e:Nat):Int))=.returned (.int .i64 ((Ieee.single.nearest s m' e':Nat):Int)):=by rw[h,k]
theorem OA(s1:Bool)(m1 e1:Int)(i1 n1 s2:Bool)(m2 e2:Int)(i2 n2:Bool)(h1:0<m1)(h2:m1<16777216)(h3:0<m2)(h4:m2<16777216)(h5: -149<=e2)(h6:e2<=e1)(h7:e1<=104)(w:World):
 Calls prog 115 #[.agg #[.bool s1,.int .u64 m1,.int .i64 e1,.bool i1,.bool n1],.agg #[.bool s2,.int .u64 m2,.int .i64 e2,.bool i2,.bool n2]] w fun e w'=>e=.returned (.int .i64 (Uo s1 m1 e1 s2 m2 e2))/\Below w.heap.size w w':=by
 unfold Uo;by_cases c:e1-e2<=36
 .rw[if_pos c];generalize hd:e1-e2=d at *;have hd0:0<=d:=oM;obtain⟨X,hXX⟩:=gA (m1*2^d.toNat)
  have hX:0<X/\X<1152921504606846976:=by
   rw[<-hXX];have p1:(1:Int)<=2^d.toNat:=Int.pow_pos dE;have p2:(2:Int)^d.toNat<=68719476736:=by
    have h:2^d.toNat<=68719476736:=gH (Nat.pow_le_pow_right dE (show d.toNat<=36 by omega)) dE;have h':((2^d.toNat:Nat):Int)<=((68719476736:Nat):Int):=Int.ofNat_le.2 h;rw[Int.natCast_pow]at h';exact h'
   refine⟨Int.mul_pos h1 oM,?_⟩;have:=Int.mul_le_mul (show m1<=16777215 by omega) p2 oM oM;omega
  have hw:IntKind.u64.wrap (m1*2^d.toNat)=X:=by rw[hXX,IntKind.wrap_u64];omega
  rw[hXX];clear hXX;cases s1<;>cases s2<;>simp only[GI,if_true,if_false,Bool.false_eq_true]<;>unfold rnd
  .rw[if_neg oM,decide_eq_false oM,show(X+m2).natAbs=(X+m2).toNat by omega];exact Y9
  .rcases Int.lt_trichotomy (X+ -m2) 0 with c2|c2|c2
   .rw[if_neg oM,decide_eq_true oM,show(X+ -m2).natAbs=(-(X+ -m2)).toNat by omega];exact Y9
   .exact Zdi
   .rw[if_neg oM,decide_eq_false oM,show(X+ -m2).natAbs=(X+ -m2).toNat by omega];exact Y9
  .rcases Int.lt_trichotomy (-X+m2) 0 with c2|c2|c2
   .rw[if_neg oM,decide_eq_true oM,show(-X+m2).natAbs=(-(-X+m2)).toNat by omega];exact Y9
   .exact Zdi
   .rw[if_neg oM,decide_eq_false oM,show(-X+m2).natAbs=(-X+m2).toNat by omega];exact Y9
  .rw[if_neg oM,decide_eq_true oM,show(-X+ -m2).natAbs=(-(-X+ -m2)).toNat by omega];exact Y9
 .rw[if_neg c];obtain⟨X,hXX⟩:=gA (m1*68719476736)
  have hX:68719476736<=X/\X<1152921504606846976:=oM;have hw:IntKind.u64.wrap (m1*68719476736)=X:=by rw[hXX,IntKind.wrap_u64];omega
  rw[hXX];have hX3:m1*68719476736<18446744073709551616:=oM;cases s1<;>cases s2<;>simp only[GI,if_true,if_false,Bool.false_eq_true]<;>unfold rnd
  .rw[if_neg oM,decide_eq_false oM,show(X+1).natAbs=(X+1).toNat by omega];exact Y9
  .rw[if_neg oM,decide_eq_false oM,show(X+ -1).natAbs=(X+ -1).toNat by omega];exact Y9
  .rw[if_neg oM,decide_eq_true oM,show(-X+1).natAbs=(-(-X+1)).toNat by omega];exact Y9
  .rw[if_neg oM,decide_eq_true oM,show(-X+ -1).natAbs=(-(-X+ -1)).toNat by omega];exact Y9
def CY:Wk->List Ad->Wk
 |s,[]=>s
 |s,i::r=>CY (Aj s i) r
def AR(c:Cd):Wk->List Ad->Bool
 |_,[]=>true
 |s,i::r=>AG c s i&&AR c (Aj s i) r
theorem EH:∀ (l m:List Ad) (s:Wk),CY s (l++m)=CY (CY s l) m
 |[],m,s=>rfl
 |i::l,m,s=>by simp only[List.cons_append,CY];exact EH l m _
theorem Dw(c:Cd):∀ (l m:List Ad) (s:Wk),AR c s (l++m)=(AR c s l&&AR c (CY s l) m)
 |[],m,s=>by simp[AR,CY]
 |i::l,m,s=>by simp only[List.cons_append,AR,CY,Dw c l m,Bool.and_assoc]
theorem Vp{c:Cd}:∀ {l:List Ad} {s:Wk} {k:Nat},(L6 c s k l).1=0↔AR c s l=true/\(CY s l).opens.isEmpty=true
 |[],s,k=>by
  simp only[L6,AR,CY,true_and];by_cases h:s.opens.isEmpty=true
  .simp[h]
  .simp[h]
 |i::l,s,k=>by
  simp only[L6,AR,CY,Bool.and_eq_true];by_cases h:AG c s i=true
  .rw[if_pos h,Vp (k:=k+1)];simp[h]
  .rw[if_neg h];simp[h]
theorem Bi{c:Cd}:(Ai c).1=0↔CF c=0/\AR c ⟨[],[]⟩ c.list=true/\(CY ⟨[],[]⟩ c.list).opens.isEmpty=true:=by
 unfold Ai;by_cases h:CF c=0
 .rw[if_neg (by simp[h]),Vp];simp[h]
 .rw[if_pos h];simp[h]
def Jd(S:List Nat)(i:Ad):List Nat:=if(A4 i.op).d≠0/\i.d.toNat∉S then S++[i.d.toNat]else S
theorem Q8:∀ {r:List Bk} {n:Nat},okO n r->∀b∈r,b.ahead<=n
 |[],_,_,b,hb=>absurd hb sM
 |a::r,n,h,b,hb=>by
  rcases List.mem_cons.1 hb with rfl|hb
  .exact h.1
  .exact gH (Q8 h.2 b hb) h.1
theorem Ll{s:Wk}{i:Ad}(h:(A4 i.op).d=0):Cf s i (A4 i.op)=s:=by unfold Cf;rw[if_neg (fun e=>e.1 h)]
theorem Ra{S:List Nat}{i:Ad}{x:Nat}:x∈Jd S i↔x∈S\/((A4 i.op).d≠0/\x=i.d.toNat):=by
 unfold Jd;by_cases h:(A4 i.op).d≠0/\i.d.toNat∉S
 .rw[if_pos h,List.mem_append];simp only[List.mem_singleton];exact⟨fun q=>q.imp id fun e=>⟨h.1,e⟩,fun q=>q.imp id fun e=>e.2⟩
 .rw[if_neg h];constructor
  .exact .inl
  .rintro(q|⟨q1,q2⟩)
   .exact q
   .rw[q2];exact Decidable.byContradiction fun e=>h ⟨q1,e⟩
def UY(w:World)(b:Nat):Nat:=match w.cell? ⟨b,1,none⟩with
 |some (.int _ x)=>x.toNat
 |_=>0
theorem IR(w:World)(v0 v2 v3 v4:Value)(X:Int)(t:TypeId)(p:Obj):UY ((w.alloc (.cells #[v0,.int .u64 X,v2,v3,v4] t)).alloc p) w.heap.size=X.toNat:=by
 have:((w.alloc (.cells #[v0,.int .u64 X,v2,v3,v4] t)).alloc p).cell? ⟨w.heap.size,1,none⟩=some (.int .u64 X):=by
  simp
 unfold UY;rw[this]
theorem rup_any(s:Bool)(m e:Int)(i n:Bool)(h0:0<m)(h1:m<16777216)(e0: -149<=e)(e1:e<=104)(w:World):
 Calls prog 131 #[.agg #[.bool s,.int .u64 m,.int .i64 e,.bool i,.bool n]] w fun x w'=>(∃k:Nat,k<=23/\x=.returned (.agg #[.bool s,.int .u64 (m*2^k),.int .i64 (e-k),.bool i,.bool n])/\8388608<=m*2^k/\m*2^k<16777216)/\∃o p,w'=(w.alloc o).alloc p:=by
 go_enter func131,ntmps131;go_wp2
 go_loopw [4] (fun _ wr=>∃ (k:Nat),k<=23/\m*2^k<16777216/\wr=(w.alloc (.cells #[.bool s,.int .u64 (m*2^k),.int .i64 (e-k),.bool i,.bool n] 167)).alloc (.cells #[.bool false,.int .u64 0,.int .i64 0,.bool false,.bool false] 167)) (fun _ wr=>16777216-UY wr w.heap.size)
 case atStart=>exact⟨0,oM,by simpa using h1,sM⟩
 case round=>
  obtain⟨k,hk,hm,rfl⟩:=hrel;have hP:(1:Int)<=2^k:=Int.pow_pos dE;have hX:0<m*2^k:=Int.mul_pos h0 oM;by_cases c:m*2^k<8388608
  .have hs:m*2^(k+1)=m*2^k*2:=by rw[Int.pow_succ,<-Int.mul_assoc]
   have HS:Hid (m*2^(k+1)=m*2^k*2):=hs;have hk23:k<=22:=by
    rcases Nat.lt_or_ge 22 k with d|d
    .exfalso;have h2:8388608<=2^k:=gH (show 8388608<=2^23 by decide) (Nat.pow_le_pow_right dE oM);have h3:((8388608:Nat):Int)<=((2^k:Nat):Int):=Int.ofNat_le.2 h2;rw[Int.natCast_pow]at h3;have h4:(1:Int)*2^k<=m*2^k:=Int.mul_le_mul_of_nonneg_right oM oM;have h5:((8388608:Nat):Int)=8388608:=rfl;have h6:(((2:Nat):Int))^k=(2:Int)^k:=rfl;omega
    .exact d
   clear hs;generalize m*2^k=X at *;go_wp2;go_roundw
   case rel=>
    refine⟨k+1,oM,?_,?_⟩
    .rw[HS.out];omega
    .rw[HS.out,show e-(k:Int)-1=e-((k+1:Nat):Int) by omega]
   case measure=>rw[IR,IR];omega
  .generalize hXX:m*2^k=X at *;have HX:Hid (m*2^k=X):=hXX;clear hXX;go_wp2;go_returns;exact⟨⟨k,hk,by rw[HX.out],by rw[HX.out];omega,by rw[HX.out];omega⟩,_,_,rfl⟩
theorem PZ(p t k n δ:Nat)(hp:1<=p)(ht:1<=t)(hk:2^p<=k)(hk2:k<2*2^p)(h:n=k*2^t+δ\/n+δ=k*2^t)(hδ:4*δ<2^t):Gy p n 1 (t*2^p+k):=by
 have hB:0<2^p:=Nat.two_pow_pos p;have v0:V p (t*2^p+k)=k*2^t:=GK p t k oM (Or.inr hk);have v1:V p (t*2^p+k+1)=(k+1)*2^t:=by rw[Nat.add_assoc];exact GK p t (k+1) oM (Or.inr oM)
 have e1:(k+1)*2^t=k*2^t+2^t:=by rw[Nat.add_mul,Nat.one_mul]
 have hlow:∀q,t*2^p+k=q+1->2*(V p q)+2^t<=2*(k*2^t):=by
  intro q hq;have hst:=Mm p q;rw[<-hq,v0]at hst;have:t-1<=q/2^p-1:=by
   have:t<=q/2^p:=(Nat.le_div_iff_mul_le hB).2 oM;omega
  have hle:2^(t-1)<=2^(q/2^p-1):=Nat.pow_le_pow_right dE this;have:2^t=2*2^(t-1):=by
   obtain⟨e,rfl⟩:∃e,t=e+1:=⟨t-1,oM⟩
   rw[Nat.add_sub_cancel,Nat.pow_succ,Nat.mul_comm]
  omega
 refine⟨?_,?_,?_,?_⟩
 .rw[v0,v1,e1,Nat.mul_one];omega
 .rw[v0,v1,e1,Nat.mul_one];omega
 .intro q hq;have:=hlow q hq;rw[v0,Nat.mul_one];omega
 .intro q hq;have:=hlow q hq;rw[v0,Nat.mul_one];omega
theorem Nz(m:Nat)(e:Int)(x δ:Nat)(i:Int)(hm:8388608<=m)(hm2:m<16777216)(hi: -113<i)(j:Int)(hj: -149<=j)(u:Nat)(hu:(u:Int)=i-j)(hx:x=m*2^u+δ\/x+δ=m*2^u)(hδ:4*δ<2^u):
 Cj 23 (-149) x j=(i+149).toNat*8388608+m:=by
 obtain⟨c,hc⟩:∃c:Nat,(c:Int)=j+149:=⟨(j+149).toNat,oM⟩
 have h1:=FY 23 (-149) x j dE c 0 oM;have ht:(i+149).toNat=u+c:=oM;have h2:Gy 23 (x*2^c) 1 ((i+149).toNat*2^23+m):=by
  refine PZ 23 (i+149).toNat m (x*2^c) (δ*2^c) dE oM oM oM ?_ ?_
  .rw[ht,Nat.pow_add,<-Nat.mul_assoc,<-Nat.add_mul];rcases hx with hx|hx
   .left;rw[hx]
   .right;rw[<-Nat.add_mul,hx]
  .rw[ht,Nat.pow_add,<-Nat.mul_assoc];exact Nat.mul_lt_mul_of_pos_right hδ (Nat.two_pow_pos c)
 exact h1.unique h2 dE dE sM
theorem IC(s:Bool)(m u:Nat):Ieee.signed s m u=GI s ((m:Int)*2^u):=by
 unfold Ieee.signed GI;rw[Nat.shiftLeft_eq];push_cast;rfl
theorem CO(a b:Int){d e:Ieee.Datum}(h:Ieee.single.read a.toNat=d)(k:Ieee.single.read b.toNat=e):DQ a b=Ry ((d.sum e).map Ieee.single.write):=by
 unfold DQ Ieee.Format.add;rw[h,k]
theorem Gm(s:Bool)(e:Int):((Ieee.single.nearest s 0 e:Nat):Int)=I4 s:=by
 exact Zfv
theorem OO(s1:Bool)(m1 e1:Int)(s2:Bool)(m2 e2:Int)(h1:0<m1)(h2:m1<16777216)(h3:0<m2)(h4:m2<16777216)(h5: -149<=e2)(h6:e2<=e1)(h7:e1= -149\/8388608<=m1):
 Ry (((Ieee.Datum.number s1 m1.toNat e1).sum (.number s2 m2.toNat e2)).map Ieee.single.write)=Uo s1 m1 e1 s2 m2 e2:=by
 simp only[Ieee.Datum.sum,Option.map_some,Ieee.Format.write];rw[show min e1 e2=e2 by omega,show(e2-e2).toNat=0 by omega,IC,IC,Int.toNat_of_nonneg oM,Int.toNat_of_nonneg oM,Int.pow_zero,Int.mul_one];have hP:(1:Int)<=2^(e1-e2).toNat:=Int.pow_pos dE;have hX:0<m1*2^(e1-e2).toNat:=Int.mul_pos h1 oM;unfold Uo;by_cases c:e1-e2<=36
 .rw[if_pos c];generalize m1*2^(e1-e2).toNat=X at *;unfold rnd;by_cases z:GI s1 X+GI s2 m2=0
  .rw[if_pos z,if_pos z,z];have:(s1&&s2)=false:=by
    cases s1<;>cases s2<;>simp only[GI,if_true,if_false,Bool.false_eq_true]at z<;>first|rfl|omega
   rw[this];exact Gm false e2
  .rw[if_neg z,if_neg z];rfl
 .rw[if_neg c];have hm8:8388608<=m1:=oM;have hpow:(2:Int)^(e1-e2).toNat=2^(e1-e2-37).toNat*137438953472:=by
   have:(e1-e2).toNat=(e1-e2-37).toNat+37:=oM;rw[this,Int.pow_add];rfl
  have hP2:(1:Int)<=2^(e1-e2-37).toNat:=Int.pow_pos dE;have hbig:137438953472<=(2:Int)^(e1-e2).toNat:=oM;have hXbig:137438953472<=m1*2^(e1-e2).toNat:=by
   have:=Int.mul_le_mul (show(1:Int)<=m1 by omega) hbig dE oM;omega
  have hz1:¬ (GI s1 (m1*2^(e1-e2).toNat)+GI s2 m2=0):=by
   generalize m1*2^(e1-e2).toNat=X at *;exact Zdp
  have hz2:¬ (GI s1 (m1*68719476736)+GI s2 1=0):=by
   exact Zdp
  have hs1:decide (GI s1 (m1*2^(e1-e2).toNat)+GI s2 m2<0)=s1:=by
   generalize m1*2^(e1-e2).toNat=X at *;cases s1<;>cases s2<;>simp only[GI,if_true,if_false,Bool.false_eq_true]<;>simp<;>omega
  have hs2:decide (GI s1 (m1*68719476736)+GI s2 1<0)=s1:=by
   cases s1<;>cases s2<;>simp only[GI,if_true,if_false,Bool.false_eq_true]<;>simp<;>omega
  unfold rnd;rw[if_neg hz1,if_neg hz2,hs1,hs2,BK,BK];have r1:Cj 23 (-149) (GI s1 (m1*2^(e1-e2).toNat)+GI s2 m2).natAbs e2=(e1+149).toNat*8388608+m1.toNat:=by
   refine Nz m1.toNat 0 _ m2.toNat e1 oM oM oM e2 h5 (e1-e2).toNat oM ?_ ?_
   .have hcast:((m1.toNat*2^(e1-e2).toNat:Nat):Int)=m1*2^(e1-e2).toNat:=by
     rw[Int.natCast_mul,Int.natCast_pow,Int.toNat_of_nonneg oM];rfl
    generalize m1.toNat*2^(e1-e2).toNat=Y at *;generalize m1*2^(e1-e2).toNat=X at *;exact Zdp
   .have hcast:((2^(e1-e2).toNat:Nat):Int)=(2:Int)^(e1-e2).toNat:=Int.natCast_pow 2 _;omega
  have r2:Cj 23 (-149) (GI s1 (m1*68719476736)+GI s2 1).natAbs (e1-36)=(e1+149).toNat*8388608+m1.toNat:=by
   refine Nz m1.toNat 0 _ 1 e1 oM oM oM (e1-36) oM 36 oM ?_ dE;rw[show(2:Nat)^36=68719476736 from rfl];exact Zdp
  rw[Ds,C3,r1,r2];rfl
def nk(m:Int):Nat:=23-m.toNat.log2
theorem Ef(k:Nat):((2^k:Nat):Int)=(2:Int)^k:=Int.natCast_pow 2 k
theorem Zt(m:Int)(k:Nat)(h0:0<m)(hk:k<=23)(h:8388608<=m*2^k)(h':m*2^k<16777216):k=nk m:=by
 obtain⟨n,rfl⟩:=Int.eq_ofNat_of_zero_le (Int.le_of_lt h0);rw[<-Ef,<-Int.natCast_mul]at h h';have hn:n≠0:=oM;have e:(n*2^k).log2=n.log2+k:=by
  refine(Nat.log2_eq_iff oM).2 ⟨?_,?_⟩
  .rw[Nat.pow_add];exact Nat.mul_le_mul_right _ (Nat.log2_self_le hn)
  .rw[show n.log2+k+1=n.log2+1+k by omega,Nat.pow_add];exact Nat.mul_lt_mul_of_pos_right Nat.lt_log2_self (Nat.two_pow_pos k)
 have e2:(n*2^k).log2=23:=(Nat.log2_eq_iff oM).2 ⟨oM,oM⟩;unfold nk;rw[Int.toNat_natCast];omega
theorem Qv(s:Bool)(m e:Int)(i n:Bool)(h0:0<m)(h1:m<16777216)(e0: -149<=e)(e1:e<=104)(w:World):
 Calls prog 131 #[.agg #[.bool s,.int .u64 m,.int .i64 e,.bool i,.bool n]] w fun x w'=>x=.returned (.agg #[.bool s,.int .u64 (m*2^nk m),.int .i64 (e-nk m),.bool i,.bool n])/\∃o p,w'=(w.alloc o).alloc p:=by
 refine(rup_any s m e i n h0 h1 e0 e1 w).mono ?_;rintro x w' ⟨⟨k,hk,rfl,ha,hb⟩,ho⟩;have:=Zt m k h0 hk ha hb;subst this;exact⟨rfl,ho⟩
theorem F0(m:Int)(h0:0<m)(h1:m<16777216):nk m<=23/\8388608<=m*2^nk m/\m*2^nk m<16777216:=by
 obtain⟨n,rfl⟩:=Int.eq_ofNat_of_zero_le (Int.le_of_lt h0);have hn:n≠0:=oM;have hl:n.log2<24:=(Nat.log2_lt hn).2 oM;have lo:=Nat.log2_self_le hn;have hi:n<2^(n.log2+1):=Nat.lt_log2_self;unfold nk;rw[Int.toNat_natCast,<-Ef,<-Int.natCast_mul];refine⟨oM,?_,?_⟩
 .have:2^n.log2*2^(23-n.log2)<=n*2^(23-n.log2):=Nat.mul_le_mul_right _ lo;rw[<-Nat.pow_add,show n.log2+(23-n.log2)=23 by omega]at this;omega
 .have:n*2^(23-n.log2)<2^(n.log2+1)*2^(23-n.log2):=Nat.mul_lt_mul_of_pos_right hi (Nat.two_pow_pos _);rw[<-Nat.pow_add,show n.log2+1+(23-n.log2)=24 by omega]at this;omega
theorem N5(a:Int)(h0:0<=a)(h1:a<4294967296)(hi:DG a=false)(hn:BQ a=false):rg a.toNat<2139095040/\ng a.toNat=B8 a/\(mg a.toNat:Int)=nM a/\(te a.toNat:Int)=nE a+149:=by
 have h:=BR a h0 h1 hi hn;have hf:rg a.toNat<2139095040:=by
  rcases Nat.lt_trichotomy (rg a.toNat) 2139095040 with c|c|c
  .exact c
  .rw[Eh _ c]at h;cases h.1
  .rw[Ei _ c]at h;cases h.1
 rw[Cs _ hf]at h;have e:=h.1;injection e with e1 e2 e3;exact⟨hf,e1,oM,oM⟩
theorem Eu(a b:Int){d e:Ieee.Datum}(h:Ieee.single.read a.toNat=d)(k:Ieee.single.read b.toNat=e):GA a b=Ry ((d.quotient 25 e).map Ieee.single.write):=by
 unfold GA Ieee.Format.div;rw[h,k];rfl
theorem V3(p q:Nat):(2*((p:Int)*274877906944/(q:Int))+(if(p:Int)*274877906944%(q:Int)=0 then 0 else 1)).toNat=2*((p<<<38)/q)+((p<<<38)%q != 0).toNat:=by
 have e:(p:Int)*(274877906944:Int)=((p<<<38:Nat):Int):=by
  rw[Nat.shiftLeft_eq,Int.natCast_mul,Ef];rfl
 rw[e,<-Int.natCast_ediv,<-Int.natCast_emod];generalize (p<<<38)/q=x;generalize (p<<<38)%q=y;have hb:(y != 0).toNat=if y=0 then 0 else 1:=by by_cases c:y=0<;>simp[c]
 rw[hb];by_cases c:y=0
 .rw[if_pos c,if_pos oM];omega
 .rw[if_neg c,if_neg oM];omega
theorem TC(M N j k r:Nat)(E F:Int)(ta tb:Nat)(hE:(ta:Int)=E+149)(hF:(tb:Int)=F+149)(hj:j<=23)(hk:k<=23)(hM:8388608<=M*2^j)(hN:8388608<=N*2^k)(hN2:N*2^k<16777216)(hNpos:0<N)
 (hnear:Gy 23 (M*2^ta*2^149) (N*2^tb) r):
 r=Cj 23 (-149) (2*(((M*2^j)<<<38)/(N*2^k))+(((M*2^j)<<<38)%(N*2^k) != 0).toNat) (E-j-(F-k)-39):=by
 have hq:0<N*2^k:=oM;have big:25<=(2*(((M*2^j)<<<38)/(N*2^k))+(((M*2^j)<<<38)%(N*2^k) != 0).toNat).log2:=by
  refine Kv hq (j:=24) ?_;exact gH (Nat.mul_le_mul_right _ (show N*2^k<=16777216 by omega)) (gH dE (Nat.mul_le_mul_right _ hM))
 obtain⟨s,hs⟩:∃s:Nat,(s:Int)=F-k+172:=⟨(F-k+172).toNat,oM⟩
 obtain⟨x,hx⟩:∃x:Nat,(x:Int)=E-j+321:=⟨(E-j+321).toNat,oM⟩
 have h2:=LJ (M*2^j) (N*2^k) 38 hq (E-j-(F-k)-39) big x s oM oM;refine hnear.unique h2 (Nat.mul_pos hNpos (Nat.two_pow_pos _)) (Nat.mul_pos hq (Nat.two_pow_pos s)) ?_;obtain⟨z,hz⟩:∃z:Nat,z=149:=⟨_,rfl⟩
 rw[<-hz];have e1:M*2^ta*2^z*(N*2^k*2^s)=M*N*2^(ta+z+k+s):=by
  rw[Nat.pow_add,Nat.pow_add,Nat.pow_add];grind
 have e2:M*2^j*2^x*(N*2^tb)=M*N*2^(j+x+tb):=by
  rw[Nat.pow_add,Nat.pow_add];grind
 rw[e1,e2,show ta+z+k+s=j+x+tb by omega]
theorem Vd(a b:Int)(h0:0<=a)(h1:a<4294967296)(g0:0<=b)(g1:b<4294967296)(hia:DG a=false)(hna:BQ a=false)(hib:DG b=false)(hnb:BQ b=false)(za:nM a≠0)(zb:nM b≠0)
 (A B:Int) (hA:nM a*2^nk (nM a)=A) (hB:nM b*2^nk (nM b)=B):
 GA a b=(Ieee.single.nearest (B8 a != B8 b) (2*(A*274877906944/B)+(if A*274877906944%B=0 then 0 else 1)).toNat (nE a-nk (nM a)-(nE b-nk (nM b))-39):Nat):=by
 obtain⟨fa,sa,ma,ta⟩:=N5 a h0 h1 hia hna;obtain⟨fb,sb,mb,tb⟩:=N5 b g0 g1 hib hnb;obtain⟨-,a1,a2,a3,a4,-⟩:=BR a h0 h1 hia hna;obtain⟨-,b1,b2,b3,b4,-⟩:=BR b g0 g1 hib hnb;obtain⟨ka,A1,A2⟩:=F0 (nM a) oM a2;obtain⟨kb,B1,B2⟩:=F0 (nM b) oM b2;obtain⟨r,hr,hnear⟩:=YJ a.toNat b.toNat fa fb oM oM;have cA:A=((mg a.toNat*2^nk (nM a):Nat):Int):=by rw[Int.natCast_mul,Ef,ma,hA]
 have cB:B=((mg b.toNat*2^nk (nM b):Nat):Int):=by rw[Int.natCast_mul,Ef,mb,hB]
 rw[IV,IV]at hnear;have Bl:=TC (mg a.toNat) (mg b.toNat) (nk (nM a)) (nk (nM b)) r (nE a) (nE b) (te a.toNat) (te b.toNat) ta tb ka kb oM oM oM oM hnear;unfold GA;rw[hr,sa,sb,DZ];show((wd (B8 a != B8 b) r:Nat):Int)=_;rw[BK,Ds,C3,Js,cA,cB,V3,<-Bl]
theorem FU(a:Int){d:Ieee.Datum}(h:Ieee.single.read a.toNat=d):Dz a=Ry ((d.root 25).map Ieee.single.write):=by
 unfold Dz Ieee.Format.sqrt;rw[h];rfl
theorem T8(a:Int)(h0:0<=a)(h1:a<4294967296)(hia:DG a=false)(hna:BQ a=false)(za:nM a≠0)(hs:B8 a=false)(root n:Nat)(e:Int)(he:e%2=0)
 (hn:(n:Int)=nM a*2^nk (nM a)*68719476736/\e=nE a-nk (nM a)-36\/(n:Int)=nM a*2^nk (nM a)*68719476736*2/\e=nE a-nk (nM a)-37) (hr1:root*root<=n) (hr2:n<(root+1)*(root+1)):
 Dz a=(Ieee.single.nearest false (2*root+(if root*root<n then 1 else 0)) (e/2-1):Nat):=by
 obtain⟨fa,sa,ma,ta⟩:=N5 a h0 h1 hia hna;obtain⟨-,a1,a2,a3,a4,-⟩:=BR a h0 h1 hia hna;obtain⟨ka,A1,A2⟩:=F0 (nM a) oM a2;obtain⟨r,hr,hnear⟩:=Oq a.toNat fa (by rw[sa];exact hs) oM;have hst:(root*root != n).toNat=if root*root<n then 1 else 0:=by
  by_cases c:root*root=n
  .rw[if_neg oM];simp[c]
  .rw[if_pos oM];simp[c]
 obtain⟨x,hx⟩:∃x:Nat,(x:Int)=e/2+149:=⟨(e/2+149).toNat,oM⟩
 have hn59:576460752303423488<=n:=oM;have hroot:16777216<=root:=by
  rcases Nat.lt_or_ge root 16777216 with c|c
  .exfalso;have:=Nat.mul_self_le_mul_self (show root+1<=16777216 from c);omega
  .exact c
 have big:23+2<=(2*root+(root*root != n).toNat).log2:=by
  apply(Nat.le_log2 oM).2;omega
 have h2:=LK 23 (-149) root n (e/2-1) dE hr1 hr2 big x oM;have hval:n*(2^x*2^x)=mv a.toNat*2^149:=by
  have cA:nM a*2^nk (nM a)=((mg a.toNat*2^nk (nM a):Nat):Int):=by rw[Int.natCast_mul,Ef,ma]
  rw[cA]at hn;obtain⟨z,hz⟩:∃z:Nat,z=149:=⟨_,rfl⟩
  rw[IV,<-hz];rcases hn with⟨hn,hE⟩|⟨hn,hE⟩
  .have hn':n=mg a.toNat*2^nk (nM a)*2^36:=by
    have:(2:Nat)^36=68719476736:=rfl;omega
   exact Zfm
  .have hn':n=mg a.toNat*2^nk (nM a)*2^37:=by
    have:(2:Nat)^37=68719476736*2:=rfl;omega
   exact Zfm
 rw[hval,hst]at h2;have Bl:=hnear.unique h2;unfold Dz;rw[hr];show((wd false r:Nat):Int)=_;rw[BK,Ds,C3,Js,<-Bl]
def rrel(n k root:Nat):Prop:=root*root<=n/\n<(root+2^k)*(root+2^k)/\root+2^k<=4294967296
def SC(k:Nat):Int:=if k=0 then 0 else 2^(k-1)
theorem SE(k:Nat):SC (k+1)=2^k:=by unfold SC;rw[if_neg oM];rfl
theorem SD(k:Nat):(2:Int)^k/2=SC k:=by
 unfold SC;rcases Nat.eq_zero_or_pos k with c|c
 .subst c;rfl
 .rw[if_neg oM];obtain⟨j,rfl⟩:∃j,k=j+1:=⟨k-1,oM⟩
  rw[Int.pow_succ,Nat.add_sub_cancel];omega
theorem TU(a:Int)(h0:0<=a)(h1:a<4294967296)(hia:DG a=false)(hna:BQ a=false)(za:nM a≠0)(hs:B8 a=false)(w:World):
 Calls prog 119 #[.int .i64 a] w fun e w'=>e=.returned (.int .i64 (Dz a))/\Below w.heap.size w w':=by
 obtain⟨ra,a1,a2,a3,a4,a5⟩:=BR a h0 h1 hia hna;obtain⟨ka,A1,A2⟩:=F0 (nM a) oM a2;obtain⟨A,hA⟩:=gA (nM a*2^nk (nM a))
 obtain⟨EA,hEA⟩:=gA (nE a-(nk (nM a):Int))
 have hv:=T8 a h0 h1 hia hna za hs;rw[hA,hEA]at hv;rw[hA]at A1 A2;have eb: -172<=EA/\EA<=104:=oM;clear ra a5;have HV:Hid (∀ (root n:Nat) (e:Int),e%2=0->((n:Int)=A*68719476736/\e=EA-36\/(n:Int)=A*68719476736*2/\e=EA-37)->root*root<=n->n<(root+1)*(root+1)->Dz a=(Ieee.single.nearest false (2*root+(if root*root<n then 1 else 0)) (e/2-1):Nat)):=fun root n e p q r s=>hv root n e p q r s;clear hv;generalize hF:Dz a=F at *;clear hF;by_cases c:EA%2=0
 .skip
  obtain⟨N,hN⟩:∃N:Int,A*68719476736=N:=⟨_,rfl⟩
  obtain⟨e,he⟩:∃e:Int,EA-36=e:=⟨_,rfl⟩
  obtain⟨E2,hE2⟩:∃E2:Int,e/2=E2:=⟨_,rfl⟩
  have hNb:576460752303423488<=N/\N<2305843009213693952:=oM;obtain⟨n,hn⟩:∃n:Nat,(n:Int)=N:=⟨N.toNat,oM⟩
  have hv2:=fun root=>HV.out root n e oM (Or.inl ⟨oM,oM⟩);rw[hE2]at hv2;have htd:e.tdiv 2=E2:=by rw[<-hE2,Int.tdiv_eq_ediv];split<;>omega
  have hodd:e.tmod 2=0:=by rw[Int.tmod_eq_emod];split<;>omega
  exact Zaj
 .skip
  have hodd:(EA-36).tmod 2≠0:=by rw[Int.tmod_eq_emod];split<;>omega
  obtain⟨N,hN⟩:∃N:Int,A*68719476736*2=N:=⟨_,rfl⟩
  obtain⟨e,he⟩:∃e:Int,EA-36-1=e:=⟨_,rfl⟩
  obtain⟨E2,hE2⟩:∃E2:Int,e/2=E2:=⟨_,rfl⟩
  have hNb:576460752303423488<=N/\N<2305843009213693952:=oM;obtain⟨n,hn⟩:∃n:Nat,(n:Int)=N:=⟨N.toNat,oM⟩
  have hv2:=fun root=>HV.out root n e oM (Or.inr ⟨oM,oM⟩);rw[hE2]at hv2;have htd:e.tdiv 2=E2:=by rw[<-hE2,Int.tdiv_eq_ediv];split<;>omega
  exact Zaj
def dn(o:Option Nat):Nat:=match o with
 |some _=>0
 |none=>1
section
variable {P : Program} (w : World)
end
section
variable (w : World) (n : Nat)
@[go_sem] theorem alloc_drewN (o:Obj):(w.drewN n).alloc o=(w.alloc o).drewN n:=rfl
@[go_sem] theorem setCell_drewN (a:Addr) (v:Value):(w.drewN n).setCell a v=(w.setCell a v).drewN n:=rfl
end
theorem Ik{w:World}{a:Addr}{v:Value}(h:w.cell? a=some v):a.block<w.heap.size:=by
 rcases Nat.lt_or_ge a.block w.heap.size with c|c
 .exact c
 .have:w.heap[a.block]? =none:=Array.getElem?_eq_none c;simp[World.cell?,this]at h
structure Kept(w:World)(cs:List (Addr×Value))(v:World):Prop where
 bel:Below w.heap.size w v
 all:∀p∈cs,v.cell? p.1=some p.2/\v.frozen? p.1=false
theorem PX(w:World)(o:Obj):Below w.heap.size w (w.alloc o):=(Below.refl _ _).alloc (gF _) o
section
variable {w : World} {cs : List (Addr × Value)} {g : Nat} {x y : Value} {v v' : World}
end
def Bb(w:World)(p:Option Addr)(n:Nat)(X:Nat->Value):Prop:=n=0\/∃b o,p=some ⟨b,o,none⟩/\∀i,i<n->w.cell? ⟨b,o+i,none⟩=some (X i)
theorem Bb.below{w w':World}{p:Option Addr}{n:Nat}{X:Nat->Value}(h:Bb w p n X)(k:Below w.heap.size w w'):Bb w' p n X:=by
 rcases h with h|⟨b,o,e,h⟩
 .exact .inl h
 .exact .inr ⟨b,o,e,fun i hi=>(k.cell (Ik (h i hi))).trans (h i hi)⟩
theorem Bb.congr{w:World}{p:Option Addr}{n:Nat}{X Y:Nat->Value}(h:Bb w p n X)(e:∀i,i<n->X i=Y i):Bb w p n Y:=by
 rcases h with h|⟨b,o,q,h⟩
 .exact .inl h
 .exact .inr ⟨b,o,q,fun i hi=>by rw[h i hi,e i hi]⟩
end Go.Proofs.YtnbccaicijcklaaGreat
