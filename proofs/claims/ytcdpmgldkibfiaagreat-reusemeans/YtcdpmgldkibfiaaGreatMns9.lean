import Derived.Test.YtcdpmgldkibfiaaGreatMns5
import Derived.Test.YtcdpmgldkibfiaaGreatMns7
import Derived.Test.YtcdpmgldkibfiaaGreatMns1
import Derived.Deep.RegionHeld3
import Derived.Deep.DeepCutAuto
import Derived.Handy
import Derived.Deep.OwnRows
import Derived.OwnWalk
import Derived.Deep.QuietTactic
import Derived.BigQuiet
import Derived.Deep.AppendLies
import Derived.Test.YtcdpmgldkibfiaaGreatMns8
import Derived.DeepKeys4
namespace Go.Proofs.YtcdpmgldkibfiaaGreat
open Go.RowKit Go.Proofs.Tryz
set_option linter.all false
set_option maxRecDepth 100000
set_option maxHeartbeats 16000000
theorem OQ(op:Int)(h:Aj op=false)(w:World):Calls prog 77 #[.int .i64 op] w fun e w'=>e=.returned (.tuple #[Du ⟨0,0,0,0,0⟩,.bool false])/\Below w.heap.size w w':=by
 have hh:op<1\/37<op:=by unfold Aj at h;simp at h;omega
 have e1:(op==1)=false:=by have:op≠1:=oM;simpa using this
 have e2:(op==2)=false:=by have:op≠2:=oM;simpa using this
 have e3:(op==3)=false:=by have:op≠3:=oM;simpa using this
 have e4:(op==4)=false:=by have:op≠4:=oM;simpa using this
 have e5:(op==5)=false:=by have:op≠5:=oM;simpa using this
 have e6:(op==6)=false:=by have:op≠6:=oM;simpa using this
 have e7:(op==7)=false:=by have:op≠7:=oM;simpa using this
 have e8:(op==8)=false:=by have:op≠8:=oM;simpa using this
 have e9:(op==9)=false:=by have:op≠9:=oM;simpa using this
 have e10:(op==10)=false:=by have:op≠10:=oM;simpa using this
 have e11:(op==11)=false:=by have:op≠11:=oM;simpa using this
 have e12:(op==12)=false:=by have:op≠12:=oM;simpa using this
 have e13:(op==13)=false:=by have:op≠13:=oM;simpa using this
 have e14:(op==14)=false:=by have:op≠14:=oM;simpa using this
 have e15:(op==15)=false:=by have:op≠15:=oM;simpa using this
 have e16:(op==16)=false:=by have:op≠16:=oM;simpa using this
 have e17:(op==17)=false:=by have:op≠17:=oM;simpa using this
 have e18:(op==18)=false:=by have:op≠18:=oM;simpa using this
 have e19:(op==19)=false:=by have:op≠19:=oM;simpa using this
 have e20:(op==20)=false:=by have:op≠20:=oM;simpa using this
 have e21:(op==21)=false:=by have:op≠21:=oM;simpa using this
 have e22:(op==22)=false:=by have:op≠22:=oM;simpa using this
 have e23:(op==23)=false:=by have:op≠23:=oM;simpa using this
 have e24:(op==24)=false:=by have:op≠24:=oM;simpa using this
 have e25:(op==25)=false:=by have:op≠25:=oM;simpa using this
 have e26:(op==26)=false:=by have:op≠26:=oM;simpa using this
 have e27:(op==27)=false:=by have:op≠27:=oM;simpa using this
 have e28:(op==28)=false:=by have:op≠28:=oM;simpa using this
 have e29:(op==29)=false:=by have:op≠29:=oM;simpa using this
 have e30:(op==30)=false:=by have:op≠30:=oM;simpa using this
 have e31:(op==31)=false:=by have:op≠31:=oM;simpa using this
 have e32:(op==32)=false:=by have:op≠32:=oM;simpa using this
 have e33:(op==33)=false:=by have:op≠33:=oM;simpa using this
 have e34:(op==34)=false:=by have:op≠34:=oM;simpa using this
 have e35:(op==35)=false:=by have:op≠35:=oM;simpa using this
 have e36:(op==36)=false:=by have:op≠36:=oM;simpa using this
 have e37:(op==37)=false:=by have:op≠37:=oM;simpa using this
 clear hh h;exact Fh
theorem GQ(op:Int)(h:Aj op=false):A4 op=⟨0,0,0,0,0⟩:=by
 have hh:op<1\/37<op:=by unfold Aj at h;simp at h;omega
 unfold A4
 repeat rw[if_neg oM]
theorem Hn(op:Int)(w:World):Calls prog 77 #[.int .i64 op] w fun e w'=>e=.returned (.tuple #[Du (A4 op),.bool (Aj op)])/\Below w.heap.size w w':=by
 by_cases h:Aj op=false
 ·rw[h,GQ op h];exact OQ op h w
 ·have hh:1<=op/\op<=37:=by unfold Aj at h;simp at h;omega
  rw[show Aj op=true by simpa using h];clear h;by_cases k1:op=1
  ·subst k1;exact XD w
  by_cases k2:op=2
  ·subst k2;exact XE w
  by_cases k3:op=3
  ·subst k3;exact XF w
  by_cases k4:op=4
  ·subst k4;exact XG w
  by_cases k5:op=5
  ·subst k5;exact XH w
  by_cases k6:op=6
  ·subst k6;exact XI w
  by_cases k7:op=7
  ·subst k7;exact XJ w
  by_cases k8:op=8
  ·subst k8;exact XK w
  by_cases k9:op=9
  ·subst k9;exact XL w
  by_cases k10:op=10
  ·subst k10;exact Ub w
  by_cases k11:op=11
  ·subst k11;exact Uc w
  by_cases k12:op=12
  ·subst k12;exact Ud w
  by_cases k13:op=13
  ·subst k13;exact Ue w
  by_cases k14:op=14
  ·subst k14;exact Uf w
  by_cases k15:op=15
  ·subst k15;exact Ug w
  by_cases k16:op=16
  ·subst k16;exact Uh w
  by_cases k17:op=17
  ·subst k17;exact Ui w
  by_cases k18:op=18
  ·subst k18;exact Uj w
  by_cases k19:op=19
  ·subst k19;exact Uk w
  by_cases k20:op=20
  ·subst k20;exact Ul w
  by_cases k21:op=21
  ·subst k21;exact Um w
  by_cases k22:op=22
  ·subst k22;exact Uo w
  by_cases k23:op=23
  ·subst k23;exact Uq w
  by_cases k24:op=24
  ·subst k24;exact Ur w
  by_cases k25:op=25
  ·subst k25;exact Us w
  by_cases k26:op=26
  ·subst k26;exact Ut w
  by_cases k27:op=27
  ·subst k27;exact Uu w
  by_cases k28:op=28
  ·subst k28;exact Uv w
  by_cases k29:op=29
  ·subst k29;exact Uw w
  by_cases k30:op=30
  ·subst k30;exact Ux w
  by_cases k31:op=31
  ·subst k31;exact Uy w
  by_cases k32:op=32
  ·subst k32;exact Uz w
  by_cases k33:op=33
  ·subst k33;exact UA w
  by_cases k34:op=34
  ·subst k34;exact UC w
  by_cases k35:op=35
  ·subst k35;exact UD w
  by_cases k36:op=36
  ·subst k36;exact UE w
  by_cases k37:op=37
  ·subst k37;exact UF w
  omega
theorem UG{op:Int}(h:(A4 op).n=9):((op=29\/op=30)/\(A4 op).d=3)\/(op=31/\(A4 op).d=0/\(A4 op).a=3):=by
 have key:∀k:Fin 38,(A4 (k.val:Int)).n=9->k.val=29\/k.val=30\/k.val=31:=by decide+kernel
 by_cases hk:Aj op=true
 ·have hh:1<=op/\op<=37:=by unfold Aj at hk;simp at hk;exact hk
  have e:((⟨op.toNat,oM⟩:Fin 38).val:Int)=op:=by show((op.toNat:Nat):Int)=op;omega
  have:=key ⟨op.toNat,oM⟩ (by rw[e];exact h);simp only at this;rcases this with h1|h1|h1
  ·have:op=29:=oM;subst this;exact .inl ⟨.inl rfl,rfl⟩
  ·have:op=30:=oM;subst this;exact .inl ⟨.inr rfl,rfl⟩
  ·have:op=31:=oM;subst this;exact .inr ⟨rfl,rfl,rfl⟩
 ·rw[GQ op (by simpa using hk)]at h;exact absurd h dE
theorem Jm{c:Cd}{n:Int}{m:Ty}(ht:Ap c=true)(h:Ad c.regs 3 n m=true):Aq (A7 c.regs n).par c.sign.length=true:=by
 unfold Ad at h;rw[if_neg dE]at h;simp only[Bool.and_eq_true]at h;obtain⟨h1,h2⟩:=h;obtain⟨k,hk,hl⟩:=De h1;rw[F6 hk hl]at h2 ⊢;have hm:c.regs[k].kind=3:=by
  unfold B3 at h2;rw[if_neg dE,if_neg dE,if_pos rfl]at h2;simpa using h2
 have:=List.all_eq_true.1 ht c.regs[k] (List.getElem_mem hl);unfold Ax at this;rw[if_neg oM,if_pos hm]at this;exact this
theorem Rg{c:Cd}{i:Af}(ht:Ap c=true)(hd:Ad c.regs (A4 i.op).d i.d (Ay c.regs i (A4 i.op))=true)(ha:Ad c.regs (A4 i.op).a i.a (Ay c.regs i (A4 i.op))=true)(h9:(A4 i.op).n=9):Aq (Ay c.regs i (A4 i.op)).par c.sign.length=true:=by
 rcases UG h9 with⟨_,e⟩|⟨_,e,e2⟩
 ·rw[e]at hd;have:=Jm ht hd;unfold Ay Ek;rw[e,if_neg dE];exact this
 ·rw[e2]at ha;have:=Jm ht ha;unfold Ay Ek;rw[e,if_pos rfl];exact this
theorem Jl{c:Cd}{i:Af}{r:Rw}(h:AJ c i r=true):∀x∈Aa i r,0<=x/\x<(c.regs.length:Int):=by
 intro x hx;unfold Aa at hx;rcases List.mem_append.1 hx with hx|hx
 ·by_cases e:r.a=0
  ·rw[if_pos e]at hx;cases hx
  ·rw[if_neg e]at hx;simp at hx;subst hx;exact Ac (BD h) e
 rcases List.mem_append.1 hx with hx|hx
 ·by_cases e:r.b=0
  ·rw[if_pos e]at hx;cases hx
  ·rw[if_neg e]at hx;simp at hx;subst hx;exact Ac (DC h) e
 ·by_cases e:r.c=0
  ·rw[if_pos e]at hx;cases hx
  ·rw[if_neg e]at hx;simp at hx;subst hx;exact Ac (DD h) e
theorem Rv(i:Af)(r:Rw):(Aa i r).length<=3:=by
 rw[GI];simp only[List.length_append];have:=Hh r.a i.a;have:=Hh r.b i.b;have:=Hh r.c i.c;omega
theorem Nv{c:Cd}{s:Wk}{i:Af}{r:Rw}(h:At c s i r=true)(e:i.op=35\/i.op=37):s.opens≠[]:=by
 unfold At at h;rw[if_neg oM]at h;intro hO;rcases e with e|e
 ·rw[if_pos e,hO]at h;simp at h
 ·rw[if_neg oM,if_pos e]at h;unfold An at h;rw[hO]at h;cases h
structure TK(w:World)(H G C:Nat)(L0 L1 L2 L3 L4:Int)(v:World):Prop where
 bel:Below w.heap.size w v
 r0:v.cell? ⟨H,0,none⟩=some (.int .i64 L0)
 r1:v.cell? ⟨H,1,none⟩=some (.int .i64 L1)
 r2:v.cell? ⟨H,2,none⟩=some (.int .i64 L2)
 r3:v.cell? ⟨H,3,none⟩=some (.int .i64 L3)
 r4:v.cell? ⟨H,4,none⟩=some (.int .i64 L4)
 g0:v.cell? ⟨G,0,none⟩=some (.pointer (some ⟨C,0,none⟩))
theorem TK.next{w:World}{H G C:Nat}{L0 L1 L2 L3 L4:Int}{v v':World}(h:TK w H G C L0 L1 L2 L3 L4 v)(k:Below v.heap.size v v'):TK w H G C L0 L1 L2 L3 L4 v':=
 ⟨Go.Proofs.YtcdpmgldkibfiaaGreat.bel h.bel k,kc k h.r0,kc k h.r1,kc k h.r2,kc k h.r3,kc k h.r4,kc k h.g0⟩
theorem NC(E G C n gi:Nat)(vs vo:Value)(s:Wk)(v0 v1 v2 v3:Value)(c:Cd)(hk:B8 c)(b o:Nat)(i:Af)(w:World)(h:WS E G C n gi vs vo w s)(hnn:c.regs.length=n)(ok:DB n s)(hn:n<=16384)(hc:Ce w C v0 v1 v2 v3 c)(hi:Ah w b o (DK i))(hbE:b<E)(htm:Ap c=true)(hb0:0<=i.bits)(hb1:i.bits<4294967296):
 Calls prog 50 #[.pointer (some ⟨G,0,none⟩),.pointer (some ⟨b,o,none⟩)] w fun e w'=>e=.returned (.bool (Ar c s i))/\Below E w w'/\(Ar c s i=true->∃vs' vo',WS E G C n gi vs' vo' w' (Ae s i)):=by
 have K1:=Hn i.op w;have K2:=fun v h1 h2=>Te C v0 v1 v2 v3 c hk b o i (A4 i.op) v h1 h2 hb0 hb1 (Rg htm);have K3:=fun v h1 h2 h3=>LQ E G C n gi vs vo s v0 v1 v2 v3 c hk b o i (A4 i.op) v h1 ok.nest h2 h3;have K4:=fun v h1=>Gn b o i (A4 i.op) v h1;have K5:=fun(hf:AJ c i (A4 i.op)=true) (hs:At c s i (A4 i.op)=true) v h1 h2=>TR E G C n gi vs vo s b o i (A4 i.op) v h1 ok hn h2 hbE (Gp hs) (Nv hs) (fun hd=>by have:=Ac (Dh hf) hd;rw[hnn]at this;exact this);have KL:AJ c i (A4 i.op)=true->∀x∈Aa i (A4 i.op),0<=x/\x<(n:Int):=fun hf=>by have:=Jl hf;rw[hnn]at this;exact this
 have KN:=Rv i (A4 i.op);have HC0:Hid (Ce w C v0 v1 v2 v3 c):=hc;have HI0:Hid (Ah w b o (DK i)):=hi;have HS0:Hid (WS E G C n gi vs vo w s):=h;have e0:=hi.at 0 rfl;rw[Nat.add_zero]at e0;have hE:=h.lt;have g0:=h.c0;unfold Ar Ae;have hro:Dy s i (A4 i.op)=(Aa i (A4 i.op)).all fun n=>decide (n.toNat∈s.set):=rfl;rw[hro];obtain⟨op,hop⟩:∃x,i.op=x:=⟨_,rfl⟩
 rw[hop]at K1 K2 K3 K4 K5 KL KN e0 ⊢;obtain⟨r,hr⟩:∃r,A4 op=r:=⟨_,rfl⟩
 simp only[hr]at K1 K2 K3 K4 K5 KL KN ⊢;obtain⟨X0,hX0⟩:∃X,Aj op=X:=⟨_,rfl⟩
 obtain⟨X1,hX1⟩:∃X,AJ c i r=X:=⟨_,rfl⟩
 obtain⟨X2,hX2⟩:∃X,At c s i r=X:=⟨_,rfl⟩
 obtain⟨RL,hRL⟩:∃X,Aa i r=X:=⟨_,rfl⟩
 obtain⟨Z,hZ⟩:∃Z,Dr s i r=Z:=⟨_,rfl⟩
 obtain⟨AL,hAL⟩:∃X,((Aa i r).all fun n=>decide (n.toNat∈s.set))=X:=⟨_,rfl⟩
 rw[hAL];simp only[hX0]at K1 ⊢;simp only[hX1]at K2 K5 KL ⊢;simp only[hX2]at K3 K5 ⊢;simp only[hRL]at K4 KL KN;rw[hRL]at hAL;have HAL:Hid ((RL.all fun n=>decide (n.toNat∈s.set))=AL):=hAL;simp only[hZ]at K5 ⊢;obtain⟨L0,L1,L2,L3,L4⟩:=r;unfold Du at K1 K2 K3 K4 K5;simp only at K1 K2 K3 K4 K5;have HK1:Hid (Calls prog 77 #[.int .i64 op] w fun e w'=>e=.returned (.tuple #[.agg #[.int .i64 L0,.int .i64 L1,.int .i64 L2,.int .i64 L3,.int .i64 L4],.bool X0])/\Below w.heap.size w w'):=K1;have HK2:Hid (∀v,Ce v C v0 v1 v2 v3 c->Ah v b o (DK i)->Calls prog 78 #[.pointer (some ⟨C,0,none⟩),.pointer (some ⟨b,o,none⟩),.agg #[.int .i64 L0,.int .i64 L1,.int .i64 L2,.int .i64 L3,.int .i64 L4]] v fun e w'=>e=.returned (.bool X1)/\Below v.heap.size v w'):=K2;have HK3:Hid (∀v,WS E G C n gi vs vo v s->Ce v C v0 v1 v2 v3 c->Ah v b o (DK i)->Calls prog 79 #[.pointer (some ⟨G,0,none⟩),.pointer (some ⟨b,o,none⟩),.agg #[.int .i64 L0,.int .i64 L1,.int .i64 L2,.int .i64 L3,.int .i64 L4]] v fun e w'=>e=.returned (.bool X2)/\Below v.heap.size v w'):=K3;have HK4:Hid (∀v,Ah v b o (DK i)->Calls prog 80 #[.agg #[.int .i64 L0,.int .i64 L1,.int .i64 L2,.int .i64 L3,.int .i64 L4],.pointer (some ⟨b,o,none⟩)] v fun e w'=>∃u,e=.returned u/\w'.ownsRow v.heap.size 3 1 u RL.length (BM RL)/\Below v.heap.size v w'):=K4;have HK5:Hid (X1=true->X2=true->∀v,WS E G C n gi vs vo v s->Ah v b o (DK i)->Calls prog 81 #[.pointer (some ⟨G,0,none⟩),.pointer (some ⟨b,o,none⟩),.agg #[.int .i64 L0,.int .i64 L1,.int .i64 L2,.int .i64 L3,.int .i64 L4]] v fun e w'=>e=.returned (.tuple #[])/\Below E v w'/\∃vs' vo',WS E G C n gi vs' vo' w' Z):=K5;have HKL:Hid (X1=true->∀x∈RL,0<=x/\x<(n:Int)):=KL;clear K1 K2 K3 K4 K5 KL h hc hi hk hro hop hr hX0 hX1 hX2 hRL hZ hAL hb0 hb1 htm ok hnn;cases X0
 ·go_enter func50,ntmps50;go_wp2_with(go_at_call 77;refine HK1.out.mono ?_;rintro e w1 ⟨rfl,hw1⟩;have HT:Hid (TK w w1.heap.size G C L0 L1 L2 L3 L4 (w1.alloc (.cells #[.int .i64 L0,.int .i64 L1,.int .i64 L2,.int .i64 L3,.int .i64 L4] 146))):=Zfj);have HCX:Hid (∀v,Below (w1.alloc (.cells #[.int .i64 L0,.int .i64 L1,.int .i64 L2,.int .i64 L3,.int .i64 L4] 146)).heap.size (w1.alloc (.cells #[.int .i64 L0,.int .i64 L1,.int .i64 L2,.int .i64 L3,.int .i64 L4] 146)) v->v.cell? ⟨G,0,none⟩=some (.pointer (some ⟨C,0,none⟩))/\v.cell? ⟨w1.heap.size,0,none⟩=some (.int .i64 L0)/\v.cell? ⟨w1.heap.size,1,none⟩=some (.int .i64 L1)/\v.cell? ⟨w1.heap.size,2,none⟩=some (.int .i64 L2)/\v.cell? ⟨w1.heap.size,3,none⟩=some (.int .i64 L3)/\v.cell? ⟨w1.heap.size,4,none⟩=some (.int .i64 L4)):=fun v hv=>⟨(HT.out.next hv).g0,(HT.out.next hv).r0,(HT.out.next hv).r1,(HT.out.next hv).r2,(HT.out.next hv).r3,(HT.out.next hv).r4⟩;obtain⟨t0,t1,t2,t3,t4,t5⟩:=HCX.out _ (Bn _);refine rG (fun v=>v.cell? ⟨G,0,none⟩=some (.pointer (some ⟨C,0,none⟩))/\v.cell? ⟨w1.heap.size,0,none⟩=some (.int .i64 L0)/\v.cell? ⟨w1.heap.size,1,none⟩=some (.int .i64 L1)/\v.cell? ⟨w1.heap.size,2,none⟩=some (.int .i64 L2)/\v.cell? ⟨w1.heap.size,3,none⟩=some (.int .i64 L3)/\v.cell? ⟨w1.heap.size,4,none⟩=some (.int .i64 L4)) fun hHeld=>?_;refine Tc 0 1 2 ?_;refine Kd 3 4 5 6 ?_;refine Kd 7 8 9 10 ?_;refine Tb 11 12 ?_;refine Kd 13 14 15 16 ?_;refine E9 17 ?_;refine Bu 18 ?_;refine wpAnyH_done kR ?_ _;go_wp2;go_ret;exact⟨rfl,(bel HT.out.bel (A6 _)).mono hE,fun e=>absurd e sM⟩
 cases X1
 ·go_enter func50,ntmps50;go_wp2_with(go_at_call 77;refine HK1.out.mono ?_;rintro e w1 ⟨rfl,hw1⟩;have HT:Hid (TK w w1.heap.size G C L0 L1 L2 L3 L4 (w1.alloc (.cells #[.int .i64 L0,.int .i64 L1,.int .i64 L2,.int .i64 L3,.int .i64 L4] 146))):=Zfj);have HCX:Hid (∀v,Below (w1.alloc (.cells #[.int .i64 L0,.int .i64 L1,.int .i64 L2,.int .i64 L3,.int .i64 L4] 146)).heap.size (w1.alloc (.cells #[.int .i64 L0,.int .i64 L1,.int .i64 L2,.int .i64 L3,.int .i64 L4] 146)) v->v.cell? ⟨G,0,none⟩=some (.pointer (some ⟨C,0,none⟩))/\v.cell? ⟨w1.heap.size,0,none⟩=some (.int .i64 L0)/\v.cell? ⟨w1.heap.size,1,none⟩=some (.int .i64 L1)/\v.cell? ⟨w1.heap.size,2,none⟩=some (.int .i64 L2)/\v.cell? ⟨w1.heap.size,3,none⟩=some (.int .i64 L3)/\v.cell? ⟨w1.heap.size,4,none⟩=some (.int .i64 L4)):=fun v hv=>⟨(HT.out.next hv).g0,(HT.out.next hv).r0,(HT.out.next hv).r1,(HT.out.next hv).r2,(HT.out.next hv).r3,(HT.out.next hv).r4⟩;obtain⟨t0,t1,t2,t3,t4,t5⟩:=HCX.out _ (Bn _);refine rG (fun v=>v.cell? ⟨G,0,none⟩=some (.pointer (some ⟨C,0,none⟩))/\v.cell? ⟨w1.heap.size,0,none⟩=some (.int .i64 L0)/\v.cell? ⟨w1.heap.size,1,none⟩=some (.int .i64 L1)/\v.cell? ⟨w1.heap.size,2,none⟩=some (.int .i64 L2)/\v.cell? ⟨w1.heap.size,3,none⟩=some (.int .i64 L3)/\v.cell? ⟨w1.heap.size,4,none⟩=some (.int .i64 L4)) fun hHeld=>?_;refine Tf 0 1 2 3 4 5 ?_;refine Tc 6 7 8 ?_;clear hHeld;refine Az 9 fun K hK=>?_;go_simp;(go_at_call 78;refine(HK2.out _ (HC0.out.below (bel HT.out.bel (A6 _))) (HI0.out.below (bel HT.out.bel (A6 _)))).mono ?_;rintro e w2 ⟨rfl,hw2⟩;have HB2:=bel (A6 _) hw2;obtain⟨y0,y1,y2,y3,y4,y5⟩:=HCX.out w2 HB2);try(go_wp2_with fail)
  refine Au hK fun hHeld=>?_;clear hK K;refine Tc 10 11 12 ?_;refine Kd 13 14 15 16 ?_;refine E9 17 ?_;refine Bu 18 ?_;refine wpAnyH_done kR ?_ _;go_wp2;go_ret;exact⟨rfl,(bel HT.out.bel HB2).mono hE,fun e=>absurd e sM⟩
 cases X2
 ·go_enter func50,ntmps50;go_wp2_with(go_at_call 77;refine HK1.out.mono ?_;rintro e w1 ⟨rfl,hw1⟩;have HT:Hid (TK w w1.heap.size G C L0 L1 L2 L3 L4 (w1.alloc (.cells #[.int .i64 L0,.int .i64 L1,.int .i64 L2,.int .i64 L3,.int .i64 L4] 146))):=Zfj);have HCX:Hid (∀v,Below (w1.alloc (.cells #[.int .i64 L0,.int .i64 L1,.int .i64 L2,.int .i64 L3,.int .i64 L4] 146)).heap.size (w1.alloc (.cells #[.int .i64 L0,.int .i64 L1,.int .i64 L2,.int .i64 L3,.int .i64 L4] 146)) v->v.cell? ⟨G,0,none⟩=some (.pointer (some ⟨C,0,none⟩))/\v.cell? ⟨w1.heap.size,0,none⟩=some (.int .i64 L0)/\v.cell? ⟨w1.heap.size,1,none⟩=some (.int .i64 L1)/\v.cell? ⟨w1.heap.size,2,none⟩=some (.int .i64 L2)/\v.cell? ⟨w1.heap.size,3,none⟩=some (.int .i64 L3)/\v.cell? ⟨w1.heap.size,4,none⟩=some (.int .i64 L4)):=fun v hv=>⟨(HT.out.next hv).g0,(HT.out.next hv).r0,(HT.out.next hv).r1,(HT.out.next hv).r2,(HT.out.next hv).r3,(HT.out.next hv).r4⟩;obtain⟨t0,t1,t2,t3,t4,t5⟩:=HCX.out _ (Bn _);refine rG (fun v=>v.cell? ⟨G,0,none⟩=some (.pointer (some ⟨C,0,none⟩))/\v.cell? ⟨w1.heap.size,0,none⟩=some (.int .i64 L0)/\v.cell? ⟨w1.heap.size,1,none⟩=some (.int .i64 L1)/\v.cell? ⟨w1.heap.size,2,none⟩=some (.int .i64 L2)/\v.cell? ⟨w1.heap.size,3,none⟩=some (.int .i64 L3)/\v.cell? ⟨w1.heap.size,4,none⟩=some (.int .i64 L4)) fun hHeld=>?_;refine Tf 0 1 2 3 4 5 ?_;refine Tc 6 7 8 ?_;clear hHeld;refine Az 9 fun K hK=>?_;go_simp;(go_at_call 78;refine(HK2.out _ (HC0.out.below (bel HT.out.bel (A6 _))) (HI0.out.below (bel HT.out.bel (A6 _)))).mono ?_;rintro e w2 ⟨rfl,hw2⟩;have HB2:=bel (A6 _) hw2;obtain⟨y0,y1,y2,y3,y4,y5⟩:=HCX.out w2 HB2);try(go_wp2_with fail)
  refine Au hK fun hHeld=>?_;clear hK K;refine Tf 10 11 12 13 14 15 ?_;clear hHeld;refine Az 16 fun K hK=>?_;go_simp;(go_at_call 79;refine(HK3.out _ (HS0.out.below (bel HT.out.bel HB2)) (HC0.out.below (bel HT.out.bel HB2)) (HI0.out.below (bel HT.out.bel HB2))).mono ?_;rintro e w3 ⟨rfl,hw3⟩;have HB3:=bel HB2 hw3;obtain⟨y0,y1,y2,y3,y4,y5⟩:=HCX.out w3 HB3);try(go_wp2_with fail)
  refine Au hK fun hHeld=>?_;clear hK K;refine Tb 17 18 ?_;refine wpAnyH_done kR ?_ _;go_wp2;go_ret;exact⟨rfl,(bel HT.out.bel HB3).mono hE,fun e=>absurd e sM⟩
 go_enter func50,ntmps50;go_wp2_with(go_at_call 77;refine HK1.out.mono ?_;rintro e w1 ⟨rfl,hw1⟩;have HT:Hid (TK w w1.heap.size G C L0 L1 L2 L3 L4 (w1.alloc (.cells #[.int .i64 L0,.int .i64 L1,.int .i64 L2,.int .i64 L3,.int .i64 L4] 146))):=Zfj);have HCX:Hid (∀v,Below (w1.alloc (.cells #[.int .i64 L0,.int .i64 L1,.int .i64 L2,.int .i64 L3,.int .i64 L4] 146)).heap.size (w1.alloc (.cells #[.int .i64 L0,.int .i64 L1,.int .i64 L2,.int .i64 L3,.int .i64 L4] 146)) v->v.cell? ⟨G,0,none⟩=some (.pointer (some ⟨C,0,none⟩))/\v.cell? ⟨w1.heap.size,0,none⟩=some (.int .i64 L0)/\v.cell? ⟨w1.heap.size,1,none⟩=some (.int .i64 L1)/\v.cell? ⟨w1.heap.size,2,none⟩=some (.int .i64 L2)/\v.cell? ⟨w1.heap.size,3,none⟩=some (.int .i64 L3)/\v.cell? ⟨w1.heap.size,4,none⟩=some (.int .i64 L4)):=fun v hv=>⟨(HT.out.next hv).g0,(HT.out.next hv).r0,(HT.out.next hv).r1,(HT.out.next hv).r2,(HT.out.next hv).r3,(HT.out.next hv).r4⟩;obtain⟨t0,t1,t2,t3,t4,t5⟩:=HCX.out _ (Bn _);refine rG (fun v=>v.cell? ⟨G,0,none⟩=some (.pointer (some ⟨C,0,none⟩))/\v.cell? ⟨w1.heap.size,0,none⟩=some (.int .i64 L0)/\v.cell? ⟨w1.heap.size,1,none⟩=some (.int .i64 L1)/\v.cell? ⟨w1.heap.size,2,none⟩=some (.int .i64 L2)/\v.cell? ⟨w1.heap.size,3,none⟩=some (.int .i64 L3)/\v.cell? ⟨w1.heap.size,4,none⟩=some (.int .i64 L4)) fun hHeld=>?_;refine Tf 0 1 2 3 4 5 ?_;refine Tc 6 7 8 ?_;clear hHeld;refine Az 9 fun K hK=>?_;go_simp;(go_at_call 78;refine(HK2.out _ (HC0.out.below (bel HT.out.bel (A6 _))) (HI0.out.below (bel HT.out.bel (A6 _)))).mono ?_;rintro e w2 ⟨rfl,hw2⟩;have HB2:=bel (A6 _) hw2;obtain⟨y0,y1,y2,y3,y4,y5⟩:=HCX.out w2 HB2);try(go_wp2_with fail)
 refine Au hK fun hHeld=>?_;clear hK K;refine Tf 10 11 12 13 14 15 ?_;clear hHeld;refine Az 16 fun K hK=>?_;go_simp;(go_at_call 79;refine(HK3.out _ (HS0.out.below (bel HT.out.bel HB2)) (HC0.out.below (bel HT.out.bel HB2)) (HI0.out.below (bel HT.out.bel HB2))).mono ?_;rintro e w3 ⟨rfl,hw3⟩;have HB3:=bel HB2 hw3;obtain⟨y0,y1,y2,y3,y4,y5⟩:=HCX.out w3 HB3);try(go_wp2_with fail)
 refine Au hK fun hHeld=>?_;clear hK K;refine Tb 17 18 ?_;refine wpAnyH_done kR ?_ _;have HT3:Hid (TK w w1.heap.size G C L0 L1 L2 L3 L4 w3):=HT.out.next HB3;clear HB2 HB3 hw2 hw3;go_wp2_with(go_at_call 80;refine(HK4.out _ (HI0.out.below HT3.out.bel)).mono ?_;rintro e w4 ⟨u,rfl,hu,hw4⟩;obtain⟨pu,cu,hue⟩:=AM hu;subst hue;have HU:Hid (w4.ownsRow w3.heap.size 3 1 (.slice pu RL.length cu) RL.length (BM RL)):=hu;have HT4:Hid (TK w w1.heap.size G C L0 L1 L2 L3 L4 w4):=HT3.out.next hw4;clear hu hw4);have HSW:Hid (WS E G C n gi vs vo w4 s):=HS0.out.below HT4.out.bel;have k0:=HT4.out.r0;have k1:=HT4.out.r1;have k2:=HT4.out.r2;have k3:=HT4.out.r3;have k4:=HT4.out.r4;have HFX:Hid (∀j (hj:j<RL.length),∃ (gu x:Nat),pu=some ⟨gu,0,none⟩/\w4.cell? ⟨gu,j,none⟩=some (.int .i64 (x:Int))/\x<n/\w4.cell? ⟨gi,x,none⟩=some (.bool (decide (x∈s.set)))/\decide (x∈s.set)=decide (RL[j].toNat∈s.set)):=fun j hj=>by
  obtain⟨gu,cap,hv,_,_,_,_,hcl⟩:=E0 HU.out oM;simp only[Value.slice.injEq]at hv;have hx:=HKL.out fT RL[j] (List.getElem_mem hj);refine⟨gu,RL[j].toNat,hv.1,?_,oM,HSW.out.i.cell oM,rfl⟩;rw[show((RL[j].toNat:Nat):Int)=RL[j] by omega];exact hcl j _ (by simp[BM,List.getElem?_eq_getElem hj])
 have d1:=HSW.out.c1;obtain⟨M,hM⟩:∃M,RL.length=M:=⟨_,rfl⟩
 have HM:Hid (RL.length=M):=hM;rw[hM]at KN ⊢;clear hM
 go_loopw [40] (fun iv wr=>wr=w4/\∃j:Nat,j<=M/\iv=.int .i64 j/\Hid (∀i (h:i<RL.length),i<j->decide (RL[i].toNat∈s.set)=true)) (fun iv _=>M-(intOf iv).toNat)
 case atStart=>exact⟨rfl,0,Nat.zero_le _,rfl,fun i h hi=>absurd hi (Nat.not_lt_zero _)⟩
 case round=>
  clear HT HT3 HCX t0 t1 t2 t3 t4 t5 y0 y1 y2 y3 y4 y5;obtain⟨rfl,j,hj,rfl,hp⟩:=hrel;by_cases hlt:j<M
  ·have hll:j<RL.length:=by rw[HM.out];exact hlt
   obtain⟨gu,x,rfl,a1,a2,a3,a4⟩:=HFX.out j hll;have NX:Hid (decide (RL[j].toNat∈s.set)=true->∀i (h:i<RL.length),i<j+1->decide (RL[i].toNat∈s.set)=true):=fun hq i h hi=>by
    exact Yp
   have NB:Hid (decide (RL[j].toNat∈s.set)=false->(RL.all fun n=>decide (n.toNat∈s.set))=false):=fun h=>List.all_eq_false.2 ⟨RL[j],List.getElem_mem hll,by rw[h];decide⟩;rw[←a4]at NX NB;have i1:(0:Int)<=(j:Int):=oM;have i2:(j:Int)<(M:Int):=oM;have i3:(0:Int)<=(x:Int):=oM;have i4:(x:Int)<(n:Int):=oM;obtain⟨Y,hY⟩:∃Y,decide (x∈s.set)=Y:=⟨_,rfl⟩
   rw[hY]at NX NB a3;clear hp hY a4 HFX HU;cases Y
   ·go_wp2;go_ret;have hF:AL=false:=by rw[←HAL.out];exact NB.out fT
    exact⟨by rw[hF];rfl,HT4.out.bel.mono hE,fun e=>absurd e (by simp[hF])⟩
   ·go_wp2;go_roundw
    case rel=>exact⟨fT,j+1,oM,gN,NX.out fT⟩
    case measure=>simp[intOf];omega
  ·have:j=M:=oM;subst this;have HF:Hid ((RL.all fun n=>decide (n.toNat∈s.set))=true):=List.all_eq_true.2 fun t ht=>by
    obtain⟨i,hi,rfl⟩:=List.mem_iff_getElem.1 ht;exact hp.out i hi (by rw[←HM.out];exact hi)
   clear hp;go_wp2_with(go_at_call 81;refine(HK5.out fT fT _ HSW.out (HI0.out.below HT4.out.bel)).mono ?_;rintro e w6 ⟨rfl,hb6,hws⟩;have HB6:Hid (Below E wr w6):=hb6;have HWS:Hid (∃vs' vo',WS E G C n gi vs' vo' w6 Z):=hws;clear hb6 hws);go_ret;exact⟨by rw[←HAL.out,HF.out];rfl,(HT4.out.bel.mono hE).trans HB6.out,fun _=>HWS.out⟩
theorem Lh(op:Int)(h:Aj op=false)(w:World):Calls prog 63 #[.int .i64 op] w fun e w'=>e=.returned (.tuple #[.string ⟨#[]⟩,.bool false])/\w'=w:=by
 have hh:op<1\/37<op:=by unfold Aj at h;simp at h;omega
 have e1:(op==1)=false:=by have:op≠1:=oM;simpa using this
 have e2:(op==2)=false:=by have:op≠2:=oM;simpa using this
 have e3:(op==3)=false:=by have:op≠3:=oM;simpa using this
 have e4:(op==4)=false:=by have:op≠4:=oM;simpa using this
 have e5:(op==5)=false:=by have:op≠5:=oM;simpa using this
 have e6:(op==6)=false:=by have:op≠6:=oM;simpa using this
 have e7:(op==7)=false:=by have:op≠7:=oM;simpa using this
 have e8:(op==8)=false:=by have:op≠8:=oM;simpa using this
 have e9:(op==9)=false:=by have:op≠9:=oM;simpa using this
 have e10:(op==10)=false:=by have:op≠10:=oM;simpa using this
 have e11:(op==11)=false:=by have:op≠11:=oM;simpa using this
 have e12:(op==12)=false:=by have:op≠12:=oM;simpa using this
 have e13:(op==13)=false:=by have:op≠13:=oM;simpa using this
 have e14:(op==14)=false:=by have:op≠14:=oM;simpa using this
 have e15:(op==15)=false:=by have:op≠15:=oM;simpa using this
 have e16:(op==16)=false:=by have:op≠16:=oM;simpa using this
 have e17:(op==17)=false:=by have:op≠17:=oM;simpa using this
 have e18:(op==18)=false:=by have:op≠18:=oM;simpa using this
 have e19:(op==19)=false:=by have:op≠19:=oM;simpa using this
 have e20:(op==20)=false:=by have:op≠20:=oM;simpa using this
 have e21:(op==21)=false:=by have:op≠21:=oM;simpa using this
 have e22:(op==22)=false:=by have:op≠22:=oM;simpa using this
 have e23:(op==23)=false:=by have:op≠23:=oM;simpa using this
 have e24:(op==24)=false:=by have:op≠24:=oM;simpa using this
 have e25:(op==25)=false:=by have:op≠25:=oM;simpa using this
 have e26:(op==26)=false:=by have:op≠26:=oM;simpa using this
 have e27:(op==27)=false:=by have:op≠27:=oM;simpa using this
 have e28:(op==28)=false:=by have:op≠28:=oM;simpa using this
 have e29:(op==29)=false:=by have:op≠29:=oM;simpa using this
 have e30:(op==30)=false:=by have:op≠30:=oM;simpa using this
 have e31:(op==31)=false:=by have:op≠31:=oM;simpa using this
 have e32:(op==32)=false:=by have:op≠32:=oM;simpa using this
 have e33:(op==33)=false:=by have:op≠33:=oM;simpa using this
 have e34:(op==34)=false:=by have:op≠34:=oM;simpa using this
 have e35:(op==35)=false:=by have:op≠35:=oM;simpa using this
 have e36:(op==36)=false:=by have:op≠36:=oM;simpa using this
 have e37:(op==37)=false:=by have:op≠37:=oM;simpa using this
 clear hh h;exact Fj
structure VR(r:Rw)(a b c d e:UInt8):Prop where
 a:(a==45)=(r.d==0)
 b:(b==45)=(r.a==0)
 c:(c==45)=(r.b==0)
 d:(d==45)=(r.c==0)
theorem Ni(op:Int)(w:World):(Aj op=false/\Calls prog 63 #[.int .i64 op] w fun e w'=>e=.returned (.tuple #[.string ⟨#[]⟩,.bool false])/\w'=w)\/(Aj op=true/\∃a b c d e:UInt8,VR (A4 op) a b c d e/\∀w,Calls prog 63 #[.int .i64 op] w fun x w'=>x=.returned (.tuple #[.string ⟨#[a,b,c,d,e]⟩,.bool true])/\w'=w):=by
 by_cases h:Aj op=false
 ·exact .inl ⟨h,Lh op h w⟩
 ·have hh:1<=op/\op<=37:=by unfold Aj at h;simp at h;omega
  refine .inr ⟨by simpa using h,?_⟩;clear h;by_cases k1:op=1
  ·subst k1;exact⟨_,_,_,_,_,⟨rfl,rfl,rfl,rfl⟩,fun w=>UI w⟩
  by_cases k2:op=2
  ·subst k2;exact⟨_,_,_,_,_,⟨rfl,rfl,rfl,rfl⟩,fun w=>UJ w⟩
  by_cases k3:op=3
  ·subst k3;exact⟨_,_,_,_,_,⟨rfl,rfl,rfl,rfl⟩,fun w=>UK w⟩
  by_cases k4:op=4
  ·subst k4;exact⟨_,_,_,_,_,⟨rfl,rfl,rfl,rfl⟩,fun w=>UL w⟩
  by_cases k5:op=5
  ·subst k5;exact⟨_,_,_,_,_,⟨rfl,rfl,rfl,rfl⟩,fun w=>UM w⟩
  by_cases k6:op=6
  ·subst k6;exact⟨_,_,_,_,_,⟨rfl,rfl,rfl,rfl⟩,fun w=>UN w⟩
  by_cases k7:op=7
  ·subst k7;exact⟨_,_,_,_,_,⟨rfl,rfl,rfl,rfl⟩,fun w=>UO w⟩
  by_cases k8:op=8
  ·subst k8;exact⟨_,_,_,_,_,⟨rfl,rfl,rfl,rfl⟩,fun w=>UP w⟩
  by_cases k9:op=9
  ·subst k9;exact⟨_,_,_,_,_,⟨rfl,rfl,rfl,rfl⟩,fun w=>UQ w⟩
  by_cases k10:op=10
  ·subst k10;exact⟨_,_,_,_,_,⟨rfl,rfl,rfl,rfl⟩,fun w=>PY w⟩
  by_cases k11:op=11
  ·subst k11;exact⟨_,_,_,_,_,⟨rfl,rfl,rfl,rfl⟩,fun w=>PZ w⟩
  by_cases k12:op=12
  ·subst k12;exact⟨_,_,_,_,_,⟨rfl,rfl,rfl,rfl⟩,fun w=>Q0 w⟩
  by_cases k13:op=13
  ·subst k13;exact⟨_,_,_,_,_,⟨rfl,rfl,rfl,rfl⟩,fun w=>Q4 w⟩
  by_cases k14:op=14
  ·subst k14;exact⟨_,_,_,_,_,⟨rfl,rfl,rfl,rfl⟩,fun w=>Q5 w⟩
  by_cases k15:op=15
  ·subst k15;exact⟨_,_,_,_,_,⟨rfl,rfl,rfl,rfl⟩,fun w=>Q6 w⟩
  by_cases k16:op=16
  ·subst k16;exact⟨_,_,_,_,_,⟨rfl,rfl,rfl,rfl⟩,fun w=>Q7 w⟩
  by_cases k17:op=17
  ·subst k17;exact⟨_,_,_,_,_,⟨rfl,rfl,rfl,rfl⟩,fun w=>Q8 w⟩
  by_cases k18:op=18
  ·subst k18;exact⟨_,_,_,_,_,⟨rfl,rfl,rfl,rfl⟩,fun w=>Q9 w⟩
  by_cases k19:op=19
  ·subst k19;exact⟨_,_,_,_,_,⟨rfl,rfl,rfl,rfl⟩,fun w=>Qa w⟩
  by_cases k20:op=20
  ·subst k20;exact⟨_,_,_,_,_,⟨rfl,rfl,rfl,rfl⟩,fun w=>Qb w⟩
  by_cases k21:op=21
  ·subst k21;exact⟨_,_,_,_,_,⟨rfl,rfl,rfl,rfl⟩,fun w=>Qc w⟩
  by_cases k22:op=22
  ·subst k22;exact⟨_,_,_,_,_,⟨rfl,rfl,rfl,rfl⟩,fun w=>Qd w⟩
  by_cases k23:op=23
  ·subst k23;exact⟨_,_,_,_,_,⟨rfl,rfl,rfl,rfl⟩,fun w=>Qe w⟩
  by_cases k24:op=24
  ·subst k24;exact⟨_,_,_,_,_,⟨rfl,rfl,rfl,rfl⟩,fun w=>Qf w⟩
  by_cases k25:op=25
  ·subst k25;exact⟨_,_,_,_,_,⟨rfl,rfl,rfl,rfl⟩,fun w=>Qg w⟩
  by_cases k26:op=26
  ·subst k26;exact⟨_,_,_,_,_,⟨rfl,rfl,rfl,rfl⟩,fun w=>Qh w⟩
  by_cases k27:op=27
  ·subst k27;exact⟨_,_,_,_,_,⟨rfl,rfl,rfl,rfl⟩,fun w=>Qi w⟩
  by_cases k28:op=28
  ·subst k28;exact⟨_,_,_,_,_,⟨rfl,rfl,rfl,rfl⟩,fun w=>Qj w⟩
  by_cases k29:op=29
  ·subst k29;exact⟨_,_,_,_,_,⟨rfl,rfl,rfl,rfl⟩,fun w=>Qk w⟩
  by_cases k30:op=30
  ·subst k30;exact⟨_,_,_,_,_,⟨rfl,rfl,rfl,rfl⟩,fun w=>Ql w⟩
  by_cases k31:op=31
  ·subst k31;exact⟨_,_,_,_,_,⟨rfl,rfl,rfl,rfl⟩,fun w=>Qm w⟩
  by_cases k32:op=32
  ·subst k32;exact⟨_,_,_,_,_,⟨rfl,rfl,rfl,rfl⟩,fun w=>Qn w⟩
  by_cases k33:op=33
  ·subst k33;exact⟨_,_,_,_,_,⟨rfl,rfl,rfl,rfl⟩,fun w=>Qo w⟩
  by_cases k34:op=34
  ·subst k34;exact⟨_,_,_,_,_,⟨rfl,rfl,rfl,rfl⟩,fun w=>Qp w⟩
  by_cases k35:op=35
  ·subst k35;exact⟨_,_,_,_,_,⟨rfl,rfl,rfl,rfl⟩,fun w=>Qq w⟩
  by_cases k36:op=36
  ·subst k36;exact⟨_,_,_,_,_,⟨rfl,rfl,rfl,rfl⟩,fun w=>Qr w⟩
  by_cases k37:op=37
  ·subst k37;exact⟨_,_,_,_,_,⟨rfl,rfl,rfl,rfl⟩,fun w=>Qs w⟩
  omega
theorem LU(a:Int)(h0:0<=a)(h1:a<4294967296):B4 a=ng a.toNat:=by
 unfold B4 ng;by_cases c:2147483648<=a
 ·have e1:a/2147483648=1:=oM;have e2:a.toNat/2147483648%2=1:=oM;rw[e1,e2];rfl
 ·have e1:a/2147483648=0:=oM;have e2:a.toNat/2147483648%2=0:=oM;rw[e1,e2];rfl
theorem C8(a:Int)(h0:0<=a)(h1:a<4294967296):BC a=nan a:=by
 unfold BC nan;by_cases c:a/8388608%256=255
 ·rw[if_pos c];by_cases d:a%8388608=0
  ·have:¬ (2139095040<a%2147483648):=oM;simp[d,this]
  ·have:2139095040<a%2147483648:=oM;simp[d,this]
 ·rw[if_neg c];have:¬ (2139095040<a%2147483648):=oM;simp[this]
theorem F5(a:Int)(h0:0<=a)(h1:a<4294967296)(h:BC a=true):∃s t,Ieee.single.read a.toNat=.nan s t:=by
 rw[C8 a h0 h1,Ja a h0]at h;exact⟨_,_,E5 _ VI⟩
theorem Dj(a:Int)(h0:0<=a)(h1:a<4294967296)(h:Dq a=true):Ieee.single.read a.toNat=.infinity (B4 a)/\BC a=false/\nM a=0:=by
 have c:a/8388608%256=255/\a%8388608=0:=by
  unfold Dq at h;split at h
  ·rename_i c;exact⟨c,by simpa using h⟩
  ·cases h
 refine⟨?_,?_,?_⟩
 ·rw[LU a h0 h1];exact E4 _ (by have:=Ck a h0;omega)
 ·unfold BC;simp[c]
 ·unfold nM;rw[if_pos c.1]
theorem BE(a:Int)(h0:0<=a)(h1:a<4294967296)(hi:Dq a=false)(hn:BC a=false):
 Ieee.single.read a.toNat=.number (B4 a) (nM a).toNat (nE a)/\0<=nM a/\nM a<16777216/\-149<=nE a/\nE a<=104/\(nE a= -149\/8388608<=nM a):=by
 have c:¬ (a/8388608%256=255):=by
  intro c;unfold Dq at hi;unfold BC at hn;rw[if_pos c]at hi hn;simp at hi hn;exact hi hn
 have hf:rg a.toNat<2139095040:=by have:=Ck a h0;omega
 have hr:=Ck a h0;rw[Cj _ hf,LU a h0 h1];unfold nM nE mg te;rw[if_neg c,if_neg c];by_cases d:a/8388608%256=0
 ·rw[if_pos d,if_pos d,if_pos oM,show rg a.toNat/8388608-1=0 by omega,show(a%8388608).toNat=rg a.toNat by omega];exact⟨rfl,oM,oM,oM,oM,oM⟩
 ·rw[if_neg d,if_neg d,if_neg oM,show(8388608+a%8388608).toNat=8388608+rg a.toNat%8388608 by omega,show -149+((rg a.toNat/8388608-1:Nat):Int)=a/8388608%256-150 by omega];exact⟨rfl,oM,oM,oM,oM,oM⟩
theorem Dt(s1:Bool)(m1 e1:Int)(i1 n1 s2:Bool)(m2 e2:Int)(i2 n2:Bool)(w:World):
 Calls prog 140 #[.agg #[.bool s1,.int .u64 m1,.int .i64 e1,.bool i1,.bool n1],.agg #[.bool s2,.int .u64 m2,.int .i64 e2,.bool i2,.bool n2]] w fun e w'=>e=.returned (.bool (n1||n2))/\∃o p,w'=(w.alloc o).alloc p:=by
 cases n1<;>cases n2
 all_goals(
  go_enter func140,ntmps140;go_wp2;go_ret
  exact⟨rfl,_,_,rfl⟩)
theorem Ca(s:Bool):((Ieee.single.write (.infinity s):Nat):Int)=GU s+2139095040:=by cases s<;>decide
theorem Eh(a b:Int){d e:Ieee.Datum}(h:Ieee.single.read a.toNat=d)(k:Ieee.single.read b.toNat=e):EJ a b=PT ((d.product e).map Ieee.single.write):=by
 unfold EJ Ieee.Format.mul;rw[h,k]
theorem DH(s t:Bool):(s^^t)=(s != t):=by cases s<;>cases t<;>rfl
theorem MG(a b:Int)(h0:0<=a)(h1:a<4294967296)(g0:0<=b)(g1:b<4294967296)(h:BC a=true\/BC b=true):EJ a b=2143289344:=by
 rcases h with h|h
 ·obtain⟨s,t,e⟩:=F5 a h0 h1 h;rw[Eh a b e rfl];cases Ieee.single.read b.toNat<;>rfl
 ·obtain⟨s,t,e⟩:=F5 b g0 g1 h;rw[Eh a b rfl e];cases Ieee.single.read a.toNat<;>rfl
theorem Jr(a:Int)(h0:0<=a)(h1:a<4294967296)(b:Int)(g0:0<=b)(g1:b<4294967296)(w:World):
 Calls prog 123 #[.int .i64 a,.int .i64 b] w fun e w'=>e=.returned (.int .i64 (EJ a b))/\Below w.heap.size w w':=by
 cases hna:BC a
 ·cases hnb:BC b
  ·cases hia:Dq a
   ·obtain⟨ra,a1,a2,a3,a4,-⟩:=BE a h0 h1 hia hna;cases hib:Dq b
    ·obtain⟨rb,b1,b2,b3,b4,-⟩:=BE b g0 g1 hib hnb;have hv:EJ a b=(Ieee.single.nearest (B4 a != B4 b) (nM a*nM b).toNat (nE a+nE b):Nat):=by
      rw[Eh a b ra rb,show(nM a*nM b).toNat=(nM a).toNat*(nM b).toNat from Int.toNat_mul a1 b1,←DH];rfl
     have hm:0<=nM a*nM b/\nM a*nM b<281474976710656:=by
      refine⟨Int.mul_nonneg a1 b1,?_⟩;have h1:nM a*nM b<=16777215*16777215:=Int.mul_le_mul oM oM b1 oM;omega
     have hw:IntKind.u64.wrap (nM a*nM b)=nM a*nM b:=by rw[IntKind.wrap_u64];omega
     rw[hv];clear hv ra rb;exact Y0
    ·obtain⟨rb,-,b1⟩:=Dj b g0 g1 hib;by_cases hz:nM a=0
     ·have hv:EJ a b=2143289344:=by rw[Eh a b ra rb,hz];rfl
      rw[hv];clear hv ra rb;exact Y0
     ·have hv:EJ a b=GU (B4 a != B4 b)+2139095040:=by
       rw[Eh a b ra rb,←Ca,←DH,Bool.xor_comm];have:(nM a).toNat≠0:=oM;simp only[Ieee.Datum.product,if_neg this];rfl
      rw[hv];clear hv ra rb;exact Y0
   ·obtain⟨ra,-,a1⟩:=Dj a h0 h1 hia;cases hib:Dq b
    ·obtain⟨rb,b1,b2,b3,b4,-⟩:=BE b g0 g1 hib hnb;by_cases hz:nM b=0
     ·have hv:EJ a b=2143289344:=by rw[Eh a b ra rb,hz];rfl
      rw[hv];clear hv ra rb;exact Y0
     ·have hv:EJ a b=GU (B4 a != B4 b)+2139095040:=by
       rw[Eh a b ra rb,←Ca,←DH];have:(nM b).toNat≠0:=oM;simp only[Ieee.Datum.product,if_neg this];rfl
      rw[hv];clear hv ra rb;exact Y0
    ·obtain⟨rb,-,b1⟩:=Dj b g0 g1 hib;have hv:EJ a b=GU (B4 a != B4 b)+2139095040:=by
      rw[Eh a b ra rb,←Ca,←DH];rfl
     rw[hv];clear hv ra rb;exact Y0
  ·have hv:=MG a b h0 h1 g0 g1 (Or.inr hnb);rw[hv];clear hv;exact Y0
 ·have hv:=MG a b h0 h1 g0 g1 (Or.inl hna);rw[hv];clear hv;exact Y0
theorem RF(n:Int)(h0: -9223372036854775808<=n)(h1:n<=9223372036854775807)(w:World):
 Calls prog 94 #[.int .i64 n] w fun e w'=>e=.returned (.int .i64 (D5 n))/\w'=w:=by
 unfold D5;by_cases c:n<0
 ·rw[decide_eq_true c,show n.natAbs=(-(n+1)+1).toNat by omega];exact Zed
 ·rw[decide_eq_false c,show n.natAbs=n.toNat by omega];exact Zed
theorem FS(w:World)(v0 v1 v2 v3 v4:Value):(Instr.field 192 (.agg #[v0,v1,v2,v3,v4]) 4).run prog w=.ok v4 w:=by
 simp[Instr.field,run_underlying underlying192,asAgg,part,go_sem]
theorem MN(a b:Nat)(ha:a<9223372036854775808)(hb:b<9223372036854775808):bits .xor .i64 (a:Int) (b:Int)=((a^^^b:Nat):Int):=by
 have hx:a^^^b<2^63:=Nat.xor_lt_two_pow oM oM;show IntKind.i64.wrap ((BitVec.ofInt 64 (a:Int)^^^BitVec.ofInt 64 (b:Int)).toNat:Int)=_;rw[BitVec.toNat_xor,ofInt_u64 a oM,ofInt_u64 b oM,IntKind.wrap_i64];omega
theorem J3(a b:Nat)(ha:a<9223372036854775808)(hb:b<9223372036854775808):bits .andNot .i64 (a:Int) (b:Int)=((a&&& (18446744073709551615-b):Nat):Int):=by
 have hx:a&&& (18446744073709551615-b)<=a:=Nat.and_le_left;show IntKind.i64.wrap ((BitVec.ofInt 64 (a:Int)&&& ~~~BitVec.ofInt 64 (b:Int)).toNat:Int)=_;rw[BitVec.toNat_and,BitVec.toNat_not,ofInt_u64 a oM,ofInt_u64 b oM,IntKind.wrap_i64];have e:2^64-1-b=18446744073709551615-b:=oM;rw[e];omega
theorem Pf(a:Int)(h0:0<=a)(h1:a<4294967296):bits .xor .i64 a 2147483648=if 2147483648<=a then a-2147483648 else a+2147483648:=by
 rw[←VB a h0 h1,u32_xor a _ h0 h1 dE dE];obtain⟨A,rfl⟩:=Int.eq_ofNat_of_zero_le h0;exact MN A 2147483648 oM dE
theorem Et(a:Int)(h0:0<=a)(h1:a<4294967296):bits .andNot .i64 a 2147483648=a%2147483648:=by
 rw[←Re a h0 h1,u32_andNot a _ h0 h1 dE dE];obtain⟨A,rfl⟩:=Int.eq_ofNat_of_zero_le h0;rw[show(2147483648:Int)=((2147483648:Nat):Int)from rfl,J3 A 2147483648 oM dE,Int.toNat_natCast,Int.toNat_natCast];congr 1;apply Nat.eq_of_testBit_eq;intro i;rw[Nat.testBit_and,Nat.testBit_and];rcases Nat.lt_or_ge i 32 with c|c
 ·have:∀j:Fin 32,(18446744073709551615-2147483648:Nat).testBit j.val=(4294967295-2147483648:Nat).testBit j.val:=dE;rw[this ⟨i,c⟩]
 ·have:A.testBit i=false:=Nat.testBit_lt_two_pow (Nat.lt_of_lt_of_le (show A<2^32 by omega) (Nat.pow_le_pow_right dE c));rw[this,Bool.false_and,Bool.false_and]
theorem Nf(a:Int)(h0:0<=a)(h1:a<4294967296)(w:World):
 Calls prog 150 #[.int .i64 a] w fun e w'=>e=.returned (.int .i64 (J2 a))/\Below w.heap.size w w':=by
 have hf:=FS;cases hna:BC a
 ·have hv:J2 a=if 2147483648<=a then a-2147483648 else a+2147483648:=by
   rw[MI a h0 h1 (by rw[←C8 a h0 h1];exact hna)];unfold LM;by_cases c:2147483648<=a
   ·rw[if_pos c,if_pos oM];omega
   ·rw[if_neg c,if_neg oM];omega
  have hx:=Pf a h0 h1;rw[hv];clear hv;generalize (if 2147483648<=a then a-2147483648 else a+2147483648)=z at *;go_enter func150,ntmps150;exact SA
 ·have hv:=MH a h0 h1 (by rw[←C8 a h0 h1];exact hna);rw[hv];clear hv;go_enter func150,ntmps150;exact SA
theorem TV(a:Int)(h0:0<=a)(h1:a<4294967296)(w:World):
 Calls prog 151 #[.int .i64 a] w fun e w'=>e=.returned (.int .i64 (Wp a))/\Below w.heap.size w w':=by
 have hm:nan (a%2147483648)=nan a:=by unfold nan;rw[Int.emod_emod_of_dvd _ (Int.dvd_refl _)]
 unfold Wp canon;rw[hm,←C8 a h0 h1];have hx:=Et a h0 h1;have hf:=FS;cases hna:BC a
 ·rw[if_neg dE];go_enter func151,ntmps151;exact SA
 ·rw[if_pos rfl];go_enter func151,ntmps151;exact SA
theorem Ks(a:Int)(h0:0<=a)(h1:a<4294967296):(ng a.toNat=true/\key a= -1-(rg a.toNat:Int)/\sv a.toNat= -(mv a.toNat:Int))\/(ng a.toNat=false/\key a=(rg a.toNat:Int)/\sv a.toNat=(mv a.toNat:Int)):=by
 have hr:=Ck a h0;rw[OB a h0 h1];by_cases c:2147483648<=a
 ·left;refine⟨by simpa using c,?_,?_⟩
  ·unfold key;rw[if_pos c];omega
  ·unfold sv sg;rw[OB a h0 h1,if_pos (by simpa using c)]
 ·right;refine⟨by simpa using c,?_,?_⟩
  ·unfold key;rw[if_neg c];omega
  ·unfold sv sg;rw[OB a h0 h1,if_neg (by simpa using c)]
theorem Ix(x:Nat):mv x=0↔rg x=0:=by
 unfold mv;constructor
 ·intro h;rw[←Ly 23]at h;exact Sy 23 h
 ·intro h;rw[h,Ly]
theorem Ov(a b:Int)(h0:0<=a)(h1:a<4294967296)(g0:0<=b)(g1:b<4294967296):key a<key b↔(sv a.toNat<sv b.toNat\/(rg a.toNat=0/\rg b.toNat=0/\ng a.toNat=true/\ng b.toNat=false)):=by
 have ha:=Ks a h0 h1;have hb:=Ks b g0 g1;have m1:mv a.toNat<mv b.toNat↔rg a.toNat<rg b.toNat:=Mh 23 _ _;have m2:mv b.toNat<mv a.toNat↔rg b.toNat<rg a.toNat:=Mh 23 _ _;have z1:=Ix a.toNat;have z2:=Ix b.toNat;rcases ha with⟨p,q,r⟩|⟨p,q,r⟩<;>rcases hb with⟨p',q',r'⟩|⟨p',q',r'⟩<;>rw[p,q,r,p',q',r']<;>simp only[Bool.false_eq_true,Bool.true_eq_false,and_false,or_false,and_true]<;>omega
theorem Iz(a b:Int)(h0:0<=a)(h1:a<4294967296)(g0:0<=b)(g1:b<4294967296):sv a.toNat=sv b.toNat↔(a=b\/(a%2147483648=0/\b%2147483648=0)):=by
 have hr:=Ck a h0;have hs:=Ck b g0;constructor
 ·intro h;obtain⟨e,f⟩:=Zc h;rcases f with f|f
  ·exact Or.inl (Xh h0 h1 g0 g1 e f)
  ·right;omega
 ·rintro(h|⟨h,k⟩)
  ·rw[h]
  ·have z1:=(Ix a.toNat).2 oM;have z2:=(Ix b.toNat).2 oM;unfold sv sg;rw[z1,z2];simp
theorem Ti(a b:Int)(h0:0<=a)(h1:a<4294967296)(g0:0<=b)(g1:b<4294967296)(hn:nan a=false)(hm:nan b=false):In a b=if key b<key a then b else a:=by
 unfold In;rw[Jh a b h0 g0,if_neg (by simp[hn,hm])];have hk:=Ov b a g0 g1 h0 h1;rcases Int.lt_trichotomy (sv a.toNat) (sv b.toNat)with c|c|c
 ·have hne:¬ (key b<key a):=by
   exact Zeh
  rw[O5 c];simp only [];rw[if_neg hne]
 ·rw[O3 c];simp only [];rcases(Iz a b h0 h1 g0 g1).1 c with e|⟨e,f⟩
  ·subst e;split<;>simp
  ·unfold key;by_cases d1:2147483648<=a<;>by_cases d2:2147483648<=b<;>simp only[d1,d2,if_true,if_false]
   ·rw[if_neg oM]
   ·rw[if_neg oM]
   ·rw[if_pos oM]
   ·rw[if_neg oM];omega
 ·rw[O4 c];simp only [];rw[if_pos (hk.2 (Or.inl c))]
theorem Th(a b:Int)(h0:0<=a)(h1:a<4294967296)(g0:0<=b)(g1:b<4294967296)(hn:nan a=false)(hm:nan b=false):J1 a b=if key b>key a then b else a:=by
 unfold J1;rw[Jh a b h0 g0,if_neg (by simp[hn,hm])];have hk:=Ov a b h0 h1 g0 g1;rcases Int.lt_trichotomy (sv a.toNat) (sv b.toNat)with c|c|c
 ·rw[O5 c];simp only [];rw[if_pos (show key b>key a from hk.2 (Or.inl c))]
 ·rw[O3 c];simp only [];rcases(Iz a b h0 h1 g0 g1).1 c with e|⟨e,f⟩
  ·subst e;split<;>simp
  ·unfold key;by_cases d1:2147483648<=a<;>by_cases d2:2147483648<=b<;>simp only[d1,d2,if_true,if_false]
   ·rw[if_neg oM];omega
   ·rw[if_pos oM]
   ·rw[if_neg oM]
   ·rw[if_neg oM]
 ·have hne:¬ (key b>key a):=by
   show¬ (key a<key b);exact Zeh
  rw[O4 c];simp only [];rw[if_neg hne]
theorem R0(a b:Int)(h0:0<=a)(h1:a<4294967296)(g0:0<=b)(g1:b<4294967296)(hn:nan a=false)(hm:nan b=false):J0 a b=(decide (key a<key b)&& !((a%2147483648==0)&&(b%2147483648==0))):=by
 have h:=QZ a b h0 g0;have hk:=Ov a b h0 h1 g0 g1;have hr:=Ck a h0;have hs:=Ck b g0;have hz:=Iz a b h0 h1 g0 g1;simp only[hn,hm,true_and]at h;rw[Bool.eq_iff_iff,h];simp only[Bool.and_eq_true,decide_eq_true_eq,Bool.not_eq_true',Bool.and_eq_false_iff,beq_eq_false_iff_ne];constructor
 ·intro c;refine⟨hk.2 (Or.inl c),?_⟩;by_cases e:a%2147483648=0
  ·right;intro f;have:=hz.2 (Or.inr ⟨e,f⟩);omega
  ·exact Or.inl e
 ·rintro⟨c,d⟩;rcases hk.1 c with e|⟨e1,e2,-,-⟩
  ·exact e
  ·exfalso;rcases d with d|d<;>omega
theorem DJ(a b:Int)(h0:0<=a)(g0:0<=b)(h:nan a=true\/nan b=true):J0 a b=false/\feq a b=false/\In a b=2143289344/\J1 a b=2143289344:=by
 unfold J0 feq In J1;rw[Jh a b h0 g0,if_pos h];exact⟨rfl,rfl,rfl,rfl⟩
theorem Hl(a:Int)(h0:0<=a)(h1:a<4294967296)(w:World):
 Calls prog 146 #[.int .i64 a] w fun e w'=>e=.returned (.int .i64 (key a))/\w'=w:=by
 have hx:=Et a h0 h1;unfold key;by_cases c:2147483648<=a
 ·have h2:a/2147483648=1:=oM;rw[if_pos c];go_enter func146,ntmps146;go_wp2;go_ret;exact⟨GL oM,rfl⟩
 ·have h2:a/2147483648=0:=oM;rw[if_neg c];go_enter func146,ntmps146;go_wp2;go_ret;exact⟨GL oM,rfl⟩
theorem FH(a:Int)(h0:0<=a)(h1:a<4294967296)(w:World):
 Calls prog 162 #[.int .i64 a] w fun e w'=>e=.returned (.bool (a%2147483648==0))/\w'=w:=by
 have hx:=Et a h0 h1;go_enter func162,ntmps162;go_wp2;go_ret;exact⟨rfl,rfl⟩
theorem FG(a:Int)(h0:0<=a)(h1:a<4294967296)(w:World):
 Calls prog 115 #[.int .i64 a] w fun e w'=>e=.returned (.int .i64 (canon a))/\Below w.heap.size w w':=by
 have hf:=FS;unfold canon;rw[←C8 a h0 h1];cases hna:BC a
 ·rw[if_neg dE];go_enter func115,ntmps115;exact SA
 ·rw[if_pos rfl];go_enter func115,ntmps115;exact SA
theorem Nd(a:Int)(h0:0<=a)(h1:a<4294967296)(b:Int)(g0:0<=b)(g1:b<4294967296)(w:World):
 Calls prog 126 #[.int .i64 a,.int .i64 b] w fun e w'=>e=.returned (.int .i64 (In a b))/\Below w.heap.size w w':=by
 have ea:=C8 a h0 h1;have eb:=C8 b g0 g1;cases hna:BC a
 ·cases hnb:BC b
  ·rw[Ti a b h0 h1 g0 g1 Zr Zq];clear ea eb;by_cases c:key b<key a
   ·rw[if_pos c];go_enter func126,ntmps126;exact Y1
   ·rw[if_neg c];go_enter func126,ntmps126;exact Y1
  ·rw[(DJ a b h0 g0 (Or.inr Zq)).2.2.1];clear ea eb;go_enter func126,ntmps126;exact Y1
 ·rw[(DJ a b h0 g0 (Or.inl Zr)).2.2.1];clear ea eb;go_enter func126,ntmps126;exact Y1
theorem U9(a:Int)(h0:0<=a)(h1:a<4294967296)(b:Int)(g0:0<=b)(g1:b<4294967296)(w:World):
 Calls prog 156 #[.int .i64 a,.int .i64 b] w fun e w'=>e=.returned (.int .i64 (J1 a b))/\Below w.heap.size w w':=by
 have ea:=C8 a h0 h1;have eb:=C8 b g0 g1;cases hna:BC a
 ·cases hnb:BC b
  ·rw[Th a b h0 h1 g0 g1 Zr Zq];clear ea eb;by_cases c:key b>key a
   ·rw[if_pos c];go_enter func156,ntmps156;exact Y1
   ·rw[if_neg c];go_enter func156,ntmps156;exact Y1
  ·rw[(DJ a b h0 g0 (Or.inr Zq)).2.2.2];clear ea eb;go_enter func156,ntmps156;exact Y1
 ·rw[(DJ a b h0 g0 (Or.inl Zr)).2.2.2];clear ea eb;go_enter func156,ntmps156;exact Y1
theorem RH(a:Int)(h0:0<=a)(h1:a<4294967296)(b:Int)(g0:0<=b)(g1:b<4294967296)(w:World):
 Calls prog 157 #[.int .i64 a,.int .i64 b] w fun e w'=>e=.returned (.bool (J0 a b))/\Below w.heap.size w w':=by
 have ea:=C8 a h0 h1;have eb:=C8 b g0 g1;cases hna:BC a
 ·cases hnb:BC b
  ·rw[R0 a b h0 h1 g0 g1 Zr Zq];clear ea eb;cases za:(a%2147483648==0)<;>cases zb:(b%2147483648==0)<;>simp only[Bool.and_true,Bool.and_false,Bool.not_true,Bool.not_false]
   all_goals(
    go_enter func157,ntmps157;go_wp2_with(first
     |(go_at_call 136;refine(CR _ oM oM _).mono ?_;rintro e w' ⟨rfl,o,rfl⟩)
     |(go_at_call 140;refine(Dt _ _ _ _ _ _ _ _ _ _ _).mono ?_;rintro e w' ⟨rfl,o,p,rfl⟩)
     |(go_at_call 146;refine(Hl _ oM oM _).mono ?_;rintro e w' ⟨rfl,rfl⟩)
     |(go_at_call 162;refine(FH _ oM oM _).mono ?_;rintro e w' ⟨rfl,rfl⟩))
    go_ret
    exact⟨rfl,gG⟩)
  ·rw[(DJ a b h0 g0 (Or.inr Zq)).1];exact Zcf
 ·rw[(DJ a b h0 g0 (Or.inl Zr)).1];exact Zcf
theorem Nj(c:Int)(e0:0<=c)(e1:c<4294967296)(a:Int)(h0:0<=a)(h1:a<4294967296)(b:Int)(g0:0<=b)(g1:b<4294967296)(w:World):
 Calls prog 158 #[.int .i64 c,.int .i64 a,.int .i64 b] w fun e w'=>e=.returned (.int .i64 (LO c a b))/\Below w.heap.size w w':=by
 have hf:=FS;unfold LO;rw[←C8 c e0 e1];cases hn:BC c<;>cases hz:(c%2147483648==0)<;>simp only[Bool.or_true,Bool.or_false,if_true,if_false,Bool.false_eq_true]
 all_goals(
  go_enter func158,ntmps158;go_wp2_with(first
   |(go_at_call 136;refine(CR _ oM oM _).mono ?_;rintro e w' ⟨rfl,o,rfl⟩)
   |(go_at_call 162;refine(FH _ oM oM _).mono ?_;rintro e w' ⟨rfl,rfl⟩)
   |(go_at_call 115;refine(FG _ oM oM _).mono ?_;rintro e w1 ⟨rfl,hb1⟩))
  go_ret
  exact⟨rfl,IQ gG hb1⟩)
def Zt(x e:Int):Int:=if x=0 then 0 else(Ieee.single.nearest (decide (x<0)) x.natAbs e:Nat)
def Ge(s:Bool)(x:Int):Int:=if s then -x else x
def Sa(s1:Bool)(m1 e1:Int)(s2:Bool)(m2 e2:Int):Int:=
 if e1-e2<=36 then Zt (Ge s1 (m1*2^(e1-e2).toNat)+Ge s2 m2) e2 else Zt (Ge s1 (m1*68719476736)+Ge s2 1) (e1-36)
theorem GM{s:Bool}{m m':Nat}{e e':Int}(h:m=m')(k:e=e'):Ending.returned (.int .i64 ((Ieee.single.nearest s m e:Nat):Int))=.returned (.int .i64 ((Ieee.single.nearest s m' e':Nat):Int)):=by rw[h,k]
theorem No(s1:Bool)(m1 e1:Int)(i1 n1 s2:Bool)(m2 e2:Int)(i2 n2:Bool)(h1:0<m1)(h2:m1<16777216)(h3:0<m2)(h4:m2<16777216)(h5: -149<=e2)(h6:e2<=e1)(h7:e1<=104)(w:World):
 Calls prog 145 #[.agg #[.bool s1,.int .u64 m1,.int .i64 e1,.bool i1,.bool n1],.agg #[.bool s2,.int .u64 m2,.int .i64 e2,.bool i2,.bool n2]] w fun e w'=>e=.returned (.int .i64 (Sa s1 m1 e1 s2 m2 e2))/\Below w.heap.size w w':=by
 unfold Sa;by_cases c:e1-e2<=36
 ·rw[if_pos c];generalize hd:e1-e2=d at *;have hd0:0<=d:=oM;obtain⟨X,hXX⟩:∃X,m1*2^d.toNat=X:=⟨_,rfl⟩
  have hX:0<X/\X<1152921504606846976:=by
   rw[←hXX];have p1:(1:Int)<=2^d.toNat:=Int.pow_pos dE;have p2:(2:Int)^d.toNat<=68719476736:=by
    have h:2^d.toNat<=68719476736:=Nat.le_trans (Nat.pow_le_pow_right dE (show d.toNat<=36 by omega)) dE;have h':((2^d.toNat:Nat):Int)<=((68719476736:Nat):Int):=Int.ofNat_le.2 h;rw[Int.natCast_pow]at h';exact h'
   refine⟨Int.mul_pos h1 oM,?_⟩;have:=Int.mul_le_mul (show m1<=16777215 by omega) p2 oM oM;omega
  have hw:IntKind.u64.wrap (m1*2^d.toNat)=X:=by rw[hXX,IntKind.wrap_u64];omega
  rw[hXX];clear hXX;cases s1<;>cases s2<;>simp only[Ge,if_true,if_false,Bool.false_eq_true]<;>unfold Zt
  ·rw[if_neg oM,decide_eq_false oM,show(X+m2).natAbs=(X+m2).toNat by omega];exact VD
  ·rcases Int.lt_trichotomy (X+ -m2) 0 with c2|c2|c2
   ·rw[if_neg oM,decide_eq_true oM,show(X+ -m2).natAbs=(-(X+ -m2)).toNat by omega];exact VD
   ·exact Zdb
   ·rw[if_neg oM,decide_eq_false oM,show(X+ -m2).natAbs=(X+ -m2).toNat by omega];exact VD
  ·rcases Int.lt_trichotomy (-X+m2) 0 with c2|c2|c2
   ·rw[if_neg oM,decide_eq_true oM,show(-X+m2).natAbs=(-(-X+m2)).toNat by omega];exact VD
   ·exact Zdb
   ·rw[if_neg oM,decide_eq_false oM,show(-X+m2).natAbs=(-X+m2).toNat by omega];exact VD
  ·rw[if_neg oM,decide_eq_true oM,show(-X+ -m2).natAbs=(-(-X+ -m2)).toNat by omega];exact VD
 ·rw[if_neg c];obtain⟨X,hXX⟩:∃X,m1*68719476736=X:=⟨_,rfl⟩
  have hX:68719476736<=X/\X<1152921504606846976:=oM;have hw:IntKind.u64.wrap (m1*68719476736)=X:=by rw[hXX,IntKind.wrap_u64];omega
  rw[hXX];have hX3:m1*68719476736<18446744073709551616:=oM;cases s1<;>cases s2<;>simp only[Ge,if_true,if_false,Bool.false_eq_true]<;>unfold Zt
  ·rw[if_neg oM,decide_eq_false oM,show(X+1).natAbs=(X+1).toNat by omega];exact VD
  ·rw[if_neg oM,decide_eq_false oM,show(X+ -1).natAbs=(X+ -1).toNat by omega];exact VD
  ·rw[if_neg oM,decide_eq_true oM,show(-X+1).natAbs=(-(-X+1)).toNat by omega];exact VD
  ·rw[if_neg oM,decide_eq_true oM,show(-X+ -1).natAbs=(-(-X+ -1)).toNat by omega];exact VD
def SL(w:World)(b:Nat):Nat:=match w.cell? ⟨b,1,none⟩with
 |some (.int _ x)=>x.toNat
 |_=>0
theorem Hz(w:World)(v0 v2 v3 v4:Value)(X:Int)(t:TypeId)(p:Obj):SL ((w.alloc (.cells #[v0,.int .u64 X,v2,v3,v4] t)).alloc p) w.heap.size=X.toNat:=by
 have:((w.alloc (.cells #[v0,.int .u64 X,v2,v3,v4] t)).alloc p).cell? ⟨w.heap.size,1,none⟩=some (.int .u64 X):=by
  simp
 unfold SL;rw[this]
theorem XN(s:Bool)(m e:Int)(i n:Bool)(h0:0<m)(h1:m<16777216)(e0: -149<=e)(e1:e<=104)(w:World):
 Calls prog 161 #[.agg #[.bool s,.int .u64 m,.int .i64 e,.bool i,.bool n]] w fun x w'=>(∃k:Nat,k<=23/\x=.returned (.agg #[.bool s,.int .u64 (m*2^k),.int .i64 (e-k),.bool i,.bool n])/\8388608<=m*2^k/\m*2^k<16777216)/\∃o p,w'=(w.alloc o).alloc p:=by
 go_enter func161,ntmps161;go_wp2
 go_loopw [4] (fun _ wr=>∃ (k:Nat),k<=23/\m*2^k<16777216/\wr=(w.alloc (.cells #[.bool s,.int .u64 (m*2^k),.int .i64 (e-k),.bool i,.bool n] 192)).alloc (.cells #[.bool false,.int .u64 0,.int .i64 0,.bool false,.bool false] 192)) (fun _ wr=>16777216-SL wr w.heap.size)
 case atStart=>exact⟨0,oM,by simpa using h1,sM⟩
 case round=>
  obtain⟨k,hk,hm,rfl⟩:=hrel;have hP:(1:Int)<=2^k:=Int.pow_pos dE;have hX:0<m*2^k:=Int.mul_pos h0 oM;by_cases c:m*2^k<8388608
  ·have hs:m*2^(k+1)=m*2^k*2:=by rw[Int.pow_succ,←Int.mul_assoc]
   have HS:Hid (m*2^(k+1)=m*2^k*2):=hs;have hk23:k<=22:=by
    rcases Nat.lt_or_ge 22 k with d|d
    ·exfalso;have h2:8388608<=2^k:=Nat.le_trans (show 8388608<=2^23 by decide) (Nat.pow_le_pow_right dE oM);have h3:((8388608:Nat):Int)<=((2^k:Nat):Int):=Int.ofNat_le.2 h2;rw[Int.natCast_pow]at h3;have h4:(1:Int)*2^k<=m*2^k:=Int.mul_le_mul_of_nonneg_right oM oM;have h5:((8388608:Nat):Int)=8388608:=rfl;have h6:(((2:Nat):Int))^k=(2:Int)^k:=rfl;omega
    ·exact d
   clear hs;generalize m*2^k=X at *;go_wp2;go_roundw
   case rel=>
    refine⟨k+1,oM,?_,?_⟩
    ·rw[HS.out];omega
    ·rw[HS.out,show e-(k:Int)-1=e-((k+1:Nat):Int) by omega]
   case measure=>rw[Hz,Hz];omega
  ·generalize hXX:m*2^k=X at *;have HX:Hid (m*2^k=X):=hXX;clear hXX;go_wp2;go_returns;exact⟨⟨k,hk,by rw[HX.out],by rw[HX.out];omega,by rw[HX.out];omega⟩,_,_,rfl⟩
theorem OA(p t k n δ:Nat)(hp:1<=p)(ht:1<=t)(hk:2^p<=k)(hk2:k<2*2^p)(h:n=k*2^t+δ\/n+δ=k*2^t)(hδ:4*δ<2^t):G6 p n 1 (t*2^p+k):=by
 have hB:0<2^p:=Nat.two_pow_pos p;have v0:V p (t*2^p+k)=k*2^t:=Gh p t k oM (Or.inr hk);have v1:V p (t*2^p+k+1)=(k+1)*2^t:=by rw[Nat.add_assoc];exact Gh p t (k+1) oM (Or.inr oM)
 have e1:(k+1)*2^t=k*2^t+2^t:=by rw[Nat.add_mul,Nat.one_mul]
 have hlow:∀q,t*2^p+k=q+1->2*(V p q)+2^t<=2*(k*2^t):=by
  intro q hq;have hst:=Lx p q;rw[←hq,v0]at hst;have:t-1<=q/2^p-1:=by
   have:t<=q/2^p:=(Nat.le_div_iff_mul_le hB).2 oM;omega
  have hle:2^(t-1)<=2^(q/2^p-1):=Nat.pow_le_pow_right dE this;have:2^t=2*2^(t-1):=by
   obtain⟨e,rfl⟩:∃e,t=e+1:=⟨t-1,oM⟩
   rw[Nat.add_sub_cancel,Nat.pow_succ,Nat.mul_comm]
  omega
 refine⟨?_,?_,?_,?_⟩
 ·rw[v0,v1,e1,Nat.mul_one];omega
 ·rw[v0,v1,e1,Nat.mul_one];omega
 ·intro q hq;have:=hlow q hq;rw[v0,Nat.mul_one];omega
 ·intro q hq;have:=hlow q hq;rw[v0,Nat.mul_one];omega
theorem Mv(m:Nat)(e:Int)(x δ:Nat)(i:Int)(hm:8388608<=m)(hm2:m<16777216)(hi: -113<i)(j:Int)(hj: -149<=j)(u:Nat)(hu:(u:Int)=i-j)(hx:x=m*2^u+δ\/x+δ=m*2^u)(hδ:4*δ<2^u):
 Cc 23 (-149) x j=(i+149).toNat*8388608+m:=by
 obtain⟨c,hc⟩:∃c:Nat,(c:Int)=j+149:=⟨(j+149).toNat,oM⟩
 have h1:=Fz 23 (-149) x j dE c 0 oM;have ht:(i+149).toNat=u+c:=oM;have h2:G6 23 (x*2^c) 1 ((i+149).toNat*2^23+m):=by
  refine OA 23 (i+149).toNat m (x*2^c) (δ*2^c) dE oM oM oM ?_ ?_
  ·rw[ht,Nat.pow_add,←Nat.mul_assoc,←Nat.add_mul];rcases hx with hx|hx
   ·left;rw[hx]
   ·right;rw[←Nat.add_mul,hx]
  ·rw[ht,Nat.pow_add,←Nat.mul_assoc];exact Nat.mul_lt_mul_of_pos_right hδ (Nat.two_pow_pos c)
 exact h1.unique h2 dE dE sM
theorem Ho(s:Bool)(m u:Nat):Ieee.signed s m u=Ge s ((m:Int)*2^u):=by
 unfold Ieee.signed Ge;rw[Nat.shiftLeft_eq];push_cast;rfl
theorem Ct(a b:Int){d e:Ieee.Datum}(h:Ieee.single.read a.toNat=d)(k:Ieee.single.read b.toNat=e):Db a b=PT ((d.sum e).map Ieee.single.write):=by
 unfold Db Ieee.Format.add;rw[h,k]
theorem FY(s:Bool)(e:Int):((Ieee.single.nearest s 0 e:Nat):Int)=GU s:=by
 exact Zez
theorem Nz(s1:Bool)(m1 e1:Int)(s2:Bool)(m2 e2:Int)(h1:0<m1)(h2:m1<16777216)(h3:0<m2)(h4:m2<16777216)(h5: -149<=e2)(h6:e2<=e1)(h7:e1= -149\/8388608<=m1):
 PT (((Ieee.Datum.number s1 m1.toNat e1).sum (.number s2 m2.toNat e2)).map Ieee.single.write)=Sa s1 m1 e1 s2 m2 e2:=by
 simp only[Ieee.Datum.sum,Option.map_some,Ieee.Format.write];rw[show min e1 e2=e2 by omega,show(e2-e2).toNat=0 by omega,Ho,Ho,Int.toNat_of_nonneg oM,Int.toNat_of_nonneg oM,Int.pow_zero,Int.mul_one];have hP:(1:Int)<=2^(e1-e2).toNat:=Int.pow_pos dE;have hX:0<m1*2^(e1-e2).toNat:=Int.mul_pos h1 oM;unfold Sa;by_cases c:e1-e2<=36
 ·rw[if_pos c];generalize m1*2^(e1-e2).toNat=X at *;unfold Zt;by_cases z:Ge s1 X+Ge s2 m2=0
  ·rw[if_pos z,if_pos z,z];have:(s1&&s2)=false:=by
    cases s1<;>cases s2<;>simp only[Ge,if_true,if_false,Bool.false_eq_true]at z<;>first|rfl|omega
   rw[this];exact FY false e2
  ·rw[if_neg z,if_neg z];rfl
 ·rw[if_neg c];have hm8:8388608<=m1:=oM;have hpow:(2:Int)^(e1-e2).toNat=2^(e1-e2-37).toNat*137438953472:=by
   have:(e1-e2).toNat=(e1-e2-37).toNat+37:=oM;rw[this,Int.pow_add];rfl
  have hP2:(1:Int)<=2^(e1-e2-37).toNat:=Int.pow_pos dE;have hbig:137438953472<=(2:Int)^(e1-e2).toNat:=oM;have hXbig:137438953472<=m1*2^(e1-e2).toNat:=by
   have:=Int.mul_le_mul (show(1:Int)<=m1 by omega) hbig dE oM;omega
  have hz1:¬ (Ge s1 (m1*2^(e1-e2).toNat)+Ge s2 m2=0):=by
   generalize m1*2^(e1-e2).toNat=X at *;exact Zdf
  have hz2:¬ (Ge s1 (m1*68719476736)+Ge s2 1=0):=by
   exact Zdf
  have hs1:decide (Ge s1 (m1*2^(e1-e2).toNat)+Ge s2 m2<0)=s1:=by
   generalize m1*2^(e1-e2).toNat=X at *;cases s1<;>cases s2<;>simp only[Ge,if_true,if_false,Bool.false_eq_true]<;>simp<;>omega
  have hs2:decide (Ge s1 (m1*68719476736)+Ge s2 1<0)=s1:=by
   cases s1<;>cases s2<;>simp only[Ge,if_true,if_false,Bool.false_eq_true]<;>simp<;>omega
  unfold Zt;rw[if_neg hz1,if_neg hz2,hs1,hs2,Bp,Bp];have r1:Cc 23 (-149) (Ge s1 (m1*2^(e1-e2).toNat)+Ge s2 m2).natAbs e2=(e1+149).toNat*8388608+m1.toNat:=by
   refine Mv m1.toNat 0 _ m2.toNat e1 oM oM oM e2 h5 (e1-e2).toNat oM ?_ ?_
   ·have hcast:((m1.toNat*2^(e1-e2).toNat:Nat):Int)=m1*2^(e1-e2).toNat:=by
     rw[Int.natCast_mul,Int.natCast_pow,Int.toNat_of_nonneg oM];rfl
    generalize m1.toNat*2^(e1-e2).toNat=Y at *;generalize m1*2^(e1-e2).toNat=X at *;exact Zdf
   ·have hcast:((2^(e1-e2).toNat:Nat):Int)=(2:Int)^(e1-e2).toNat:=Int.natCast_pow 2 _;omega
  have r2:Cc 23 (-149) (Ge s1 (m1*68719476736)+Ge s2 1).natAbs (e1-36)=(e1+149).toNat*8388608+m1.toNat:=by
   refine Mv m1.toNat 0 _ 1 e1 oM oM oM (e1-36) oM 36 oM ?_ dE;rw[show(2:Nat)^36=68719476736 from rfl];exact Zdf
  rw[CH,Bz,r1,r2];rfl
def nk(m:Int):Nat:=23-m.toNat.log2
theorem E1(k:Nat):((2^k:Nat):Int)=(2:Int)^k:=Int.natCast_pow 2 k
theorem WW(m:Int)(k:Nat)(h0:0<m)(hk:k<=23)(h:8388608<=m*2^k)(h':m*2^k<16777216):k=nk m:=by
 obtain⟨n,rfl⟩:=Int.eq_ofNat_of_zero_le (Int.le_of_lt h0);rw[←E1,←Int.natCast_mul]at h h';have hn:n≠0:=oM;have e:(n*2^k).log2=n.log2+k:=by
  refine(Nat.log2_eq_iff oM).2 ⟨?_,?_⟩
  ·rw[Nat.pow_add];exact Nat.mul_le_mul_right _ (Nat.log2_self_le hn)
  ·rw[show n.log2+k+1=n.log2+1+k by omega,Nat.pow_add];exact Nat.mul_lt_mul_of_pos_right Nat.lt_log2_self (Nat.two_pow_pos k)
 have e2:(n*2^k).log2=23:=(Nat.log2_eq_iff oM).2 ⟨oM,oM⟩;unfold nk;rw[Int.toNat_natCast];omega
theorem OW(s:Bool)(m e:Int)(i n:Bool)(h0:0<m)(h1:m<16777216)(e0: -149<=e)(e1:e<=104)(w:World):
 Calls prog 161 #[.agg #[.bool s,.int .u64 m,.int .i64 e,.bool i,.bool n]] w fun x w'=>x=.returned (.agg #[.bool s,.int .u64 (m*2^nk m),.int .i64 (e-nk m),.bool i,.bool n])/\∃o p,w'=(w.alloc o).alloc p:=by
 refine(XN s m e i n h0 h1 e0 e1 w).mono ?_;rintro x w' ⟨⟨k,hk,rfl,ha,hb⟩,ho⟩;have:=WW m k h0 hk ha hb;subst this;exact⟨rfl,ho⟩
theorem EM(m:Int)(h0:0<m)(h1:m<16777216):nk m<=23/\8388608<=m*2^nk m/\m*2^nk m<16777216:=by
 obtain⟨n,rfl⟩:=Int.eq_ofNat_of_zero_le (Int.le_of_lt h0);have hn:n≠0:=oM;have hl:n.log2<24:=(Nat.log2_lt hn).2 oM;have lo:=Nat.log2_self_le hn;have hi:n<2^(n.log2+1):=Nat.lt_log2_self;unfold nk;rw[Int.toNat_natCast,←E1,←Int.natCast_mul];refine⟨oM,?_,?_⟩
 ·have:2^n.log2*2^(23-n.log2)<=n*2^(23-n.log2):=Nat.mul_le_mul_right _ lo;rw[←Nat.pow_add,show n.log2+(23-n.log2)=23 by omega]at this;omega
 ·have:n*2^(23-n.log2)<2^(n.log2+1)*2^(23-n.log2):=Nat.mul_lt_mul_of_pos_right hi (Nat.two_pow_pos _);rw[←Nat.pow_add,show n.log2+1+(23-n.log2)=24 by omega]at this;omega
theorem M6(a:Int)(h0:0<=a)(h1:a<4294967296)(hi:Dq a=false)(hn:BC a=false):rg a.toNat<2139095040/\ng a.toNat=B4 a/\(mg a.toNat:Int)=nM a/\(te a.toNat:Int)=nE a+149:=by
 have h:=BE a h0 h1 hi hn;have hf:rg a.toNat<2139095040:=by
  rcases Nat.lt_trichotomy (rg a.toNat) 2139095040 with c|c|c
  ·exact c
  ·rw[E4 _ c]at h;cases h.1
  ·rw[E5 _ c]at h;cases h.1
 rw[Cj _ hf]at h;have e:=h.1;injection e with e1 e2 e3;exact⟨hf,e1,oM,oM⟩
theorem Ed(a b:Int){d e:Ieee.Datum}(h:Ieee.single.read a.toNat=d)(k:Ieee.single.read b.toNat=e):G8 a b=PT ((d.quotient 25 e).map Ieee.single.write):=by
 unfold G8 Ieee.Format.div;rw[h,k];rfl
theorem SU(p q:Nat):(2*((p:Int)*274877906944/(q:Int))+(if(p:Int)*274877906944%(q:Int)=0 then 0 else 1)).toNat=2*((p<<<38)/q)+((p<<<38)%q != 0).toNat:=by
 have e:(p:Int)*(274877906944:Int)=((p<<<38:Nat):Int):=by
  rw[Nat.shiftLeft_eq,Int.natCast_mul,E1];rfl
 rw[e,←Int.natCast_ediv,←Int.natCast_emod];generalize (p<<<38)/q=x;generalize (p<<<38)%q=y;have hb:(y != 0).toNat=if y=0 then 0 else 1:=by by_cases c:y=0<;>simp[c]
 rw[hb];by_cases c:y=0
 ·rw[if_pos c,if_pos oM];omega
 ·rw[if_neg c,if_neg oM];omega
theorem Rp(M N j k r:Nat)(E F:Int)(ta tb:Nat)(hE:(ta:Int)=E+149)(hF:(tb:Int)=F+149)(hj:j<=23)(hk:k<=23)(hM:8388608<=M*2^j)(hN:8388608<=N*2^k)(hN2:N*2^k<16777216)(hNpos:0<N)
 (hnear:G6 23 (M*2^ta*2^149) (N*2^tb) r):
 r=Cc 23 (-149) (2*(((M*2^j)<<<38)/(N*2^k))+(((M*2^j)<<<38)%(N*2^k) != 0).toNat) (E-j-(F-k)-39):=by
 have hq:0<N*2^k:=oM;have big:25<=(2*(((M*2^j)<<<38)/(N*2^k))+(((M*2^j)<<<38)%(N*2^k) != 0).toNat).log2:=by
  refine JE hq (j:=24) ?_;exact Nat.le_trans (Nat.mul_le_mul_right _ (show N*2^k<=16777216 by omega)) (Nat.le_trans dE (Nat.mul_le_mul_right _ hM))
 obtain⟨s,hs⟩:∃s:Nat,(s:Int)=F-k+172:=⟨(F-k+172).toNat,oM⟩
 obtain⟨x,hx⟩:∃x:Nat,(x:Int)=E-j+321:=⟨(E-j+321).toNat,oM⟩
 have h2:=Kx (M*2^j) (N*2^k) 38 hq (E-j-(F-k)-39) big x s oM oM;refine hnear.unique h2 (Nat.mul_pos hNpos (Nat.two_pow_pos _)) (Nat.mul_pos hq (Nat.two_pow_pos s)) ?_;obtain⟨z,hz⟩:∃z:Nat,z=149:=⟨_,rfl⟩
 rw[←hz];have e1:M*2^ta*2^z*(N*2^k*2^s)=M*N*2^(ta+z+k+s):=by
  rw[Nat.pow_add,Nat.pow_add,Nat.pow_add];grind
 have e2:M*2^j*2^x*(N*2^tb)=M*N*2^(j+x+tb):=by
  rw[Nat.pow_add,Nat.pow_add];grind
 rw[e1,e2,show ta+z+k+s=j+x+tb by omega]
theorem Ta(a b:Int)(h0:0<=a)(h1:a<4294967296)(g0:0<=b)(g1:b<4294967296)(hia:Dq a=false)(hna:BC a=false)(hib:Dq b=false)(hnb:BC b=false)(za:nM a≠0)(zb:nM b≠0)
 (A B:Int) (hA:nM a*2^nk (nM a)=A) (hB:nM b*2^nk (nM b)=B):
 G8 a b=(Ieee.single.nearest (B4 a != B4 b) (2*(A*274877906944/B)+(if A*274877906944%B=0 then 0 else 1)).toNat (nE a-nk (nM a)-(nE b-nk (nM b))-39):Nat):=by
 obtain⟨fa,sa,ma,ta⟩:=M6 a h0 h1 hia hna;obtain⟨fb,sb,mb,tb⟩:=M6 b g0 g1 hib hnb;obtain⟨-,a1,a2,a3,a4,-⟩:=BE a h0 h1 hia hna;obtain⟨-,b1,b2,b3,b4,-⟩:=BE b g0 g1 hib hnb;obtain⟨ka,A1,A2⟩:=EM (nM a) oM a2;obtain⟨kb,B1,B2⟩:=EM (nM b) oM b2;obtain⟨r,hr,hnear⟩:=Wl a.toNat b.toNat fa fb oM oM;have cA:A=((mg a.toNat*2^nk (nM a):Nat):Int):=by rw[Int.natCast_mul,E1,ma,hA]
 have cB:B=((mg b.toNat*2^nk (nM b):Nat):Int):=by rw[Int.natCast_mul,E1,mb,hB]
 rw[I4,I4]at hnear;have key:=Rp (mg a.toNat) (mg b.toNat) (nk (nM a)) (nk (nM b)) r (nE a) (nE b) (te a.toNat) (te b.toNat) ta tb ka kb oM oM oM oM hnear;unfold G8;rw[hr,sa,sb,DH];show((wd (B4 a != B4 b) r:Nat):Int)=_;rw[Bp,CH,Bz,H2,cA,cB,SU,←key]
theorem Fw(a:Int){d:Ieee.Datum}(h:Ieee.single.read a.toNat=d):Dn a=PT ((d.root 25).map Ieee.single.write):=by
 unfold Dn Ieee.Format.sqrt;rw[h];rfl
theorem R1(a:Int)(h0:0<=a)(h1:a<4294967296)(hia:Dq a=false)(hna:BC a=false)(za:nM a≠0)(hs:B4 a=false)(root n:Nat)(e:Int)(he:e%2=0)
 (hn:(n:Int)=nM a*2^nk (nM a)*68719476736/\e=nE a-nk (nM a)-36\/(n:Int)=nM a*2^nk (nM a)*68719476736*2/\e=nE a-nk (nM a)-37) (hr1:root*root<=n) (hr2:n<(root+1)*(root+1)):
 Dn a=(Ieee.single.nearest false (2*root+(if root*root<n then 1 else 0)) (e/2-1):Nat):=by
 obtain⟨fa,sa,ma,ta⟩:=M6 a h0 h1 hia hna;obtain⟨-,a1,a2,a3,a4,-⟩:=BE a h0 h1 hia hna;obtain⟨ka,A1,A2⟩:=EM (nM a) oM a2;obtain⟨r,hr,hnear⟩:=Ng a.toNat fa (by rw[sa];exact hs) oM;have hst:(root*root != n).toNat=if root*root<n then 1 else 0:=by
  by_cases c:root*root=n
  ·rw[if_neg oM];simp[c]
  ·rw[if_pos oM];simp[c]
 obtain⟨x,hx⟩:∃x:Nat,(x:Int)=e/2+149:=⟨(e/2+149).toNat,oM⟩
 have hn59:576460752303423488<=n:=oM;have hroot:16777216<=root:=by
  rcases Nat.lt_or_ge root 16777216 with c|c
  ·exfalso;have:=Nat.mul_self_le_mul_self (show root+1<=16777216 from c);omega
  ·exact c
 have big:23+2<=(2*root+(root*root != n).toNat).log2:=by
  apply(Nat.le_log2 oM).2;omega
 have h2:=Ky 23 (-149) root n (e/2-1) dE hr1 hr2 big x oM;have hval:n*(2^x*2^x)=mv a.toNat*2^149:=by
  have cA:nM a*2^nk (nM a)=((mg a.toNat*2^nk (nM a):Nat):Int):=by rw[Int.natCast_mul,E1,ma]
  rw[cA]at hn;obtain⟨z,hz⟩:∃z:Nat,z=149:=⟨_,rfl⟩
  rw[I4,←hz];rcases hn with⟨hn,hE⟩|⟨hn,hE⟩
  ·have hn':n=mg a.toNat*2^nk (nM a)*2^36:=by
    have:(2:Nat)^36=68719476736:=rfl;omega
   exact Zes
  ·have hn':n=mg a.toNat*2^nk (nM a)*2^37:=by
    have:(2:Nat)^37=68719476736*2:=rfl;omega
   exact Zes
 rw[hval,hst]at h2;have key:=hnear.unique h2;unfold Dn;rw[hr];show((wd false r:Nat):Int)=_;rw[Bp,CH,Bz,H2,←key]
def rrel(n k root:Nat):Prop:=root*root<=n/\n<(root+2^k)*(root+2^k)/\root+2^k<=4294967296
def QG(k:Nat):Int:=if k=0 then 0 else 2^(k-1)
theorem QI(k:Nat):QG (k+1)=2^k:=by unfold QG;rw[if_neg oM];rfl
theorem QH(k:Nat):(2:Int)^k/2=QG k:=by
 unfold QG;rcases Nat.eq_zero_or_pos k with c|c
 ·subst c;rfl
 ·rw[if_neg oM];obtain⟨j,rfl⟩:∃j,k=j+1:=⟨k-1,oM⟩
  rw[Int.pow_succ,Nat.add_sub_cancel];omega
theorem RK(a:Int)(h0:0<=a)(h1:a<4294967296)(hia:Dq a=false)(hna:BC a=false)(za:nM a≠0)(hs:B4 a=false)(w:World):
 Calls prog 149 #[.int .i64 a] w fun e w'=>e=.returned (.int .i64 (Dn a))/\Below w.heap.size w w':=by
 obtain⟨ra,a1,a2,a3,a4,a5⟩:=BE a h0 h1 hia hna;obtain⟨ka,A1,A2⟩:=EM (nM a) oM a2;obtain⟨A,hA⟩:∃A,nM a*2^nk (nM a)=A:=⟨_,rfl⟩
 obtain⟨EA,hEA⟩:∃EA,nE a-(nk (nM a):Int)=EA:=⟨_,rfl⟩
 have hv:=R1 a h0 h1 hia hna za hs;rw[hA,hEA]at hv;rw[hA]at A1 A2;have eb: -172<=EA/\EA<=104:=oM;clear ra a5;have HV:Hid (∀ (root n:Nat) (e:Int),e%2=0->((n:Int)=A*68719476736/\e=EA-36\/(n:Int)=A*68719476736*2/\e=EA-37)->root*root<=n->n<(root+1)*(root+1)->Dn a=(Ieee.single.nearest false (2*root+(if root*root<n then 1 else 0)) (e/2-1):Nat)):=fun root n e p q r s=>hv root n e p q r s;clear hv;generalize hF:Dn a=F at *;clear hF;by_cases c:EA%2=0
 ·skip
  obtain⟨N,hN⟩:∃N:Int,A*68719476736=N:=⟨_,rfl⟩
  obtain⟨e,he⟩:∃e:Int,EA-36=e:=⟨_,rfl⟩
  obtain⟨E2,hE2⟩:∃E2:Int,e/2=E2:=⟨_,rfl⟩
  have hNb:576460752303423488<=N/\N<2305843009213693952:=oM;obtain⟨n,hn⟩:∃n:Nat,(n:Int)=N:=⟨N.toNat,oM⟩
  have hv2:=fun root=>HV.out root n e oM (Or.inl ⟨oM,oM⟩);rw[hE2]at hv2;have htd:e.tdiv 2=E2:=by rw[←hE2,Int.tdiv_eq_ediv];split<;>omega
  have hodd:e.tmod 2=0:=by rw[Int.tmod_eq_emod];split<;>omega
  exact Zai
 ·skip
  have hodd:(EA-36).tmod 2≠0:=by rw[Int.tmod_eq_emod];split<;>omega
  obtain⟨N,hN⟩:∃N:Int,A*68719476736*2=N:=⟨_,rfl⟩
  obtain⟨e,he⟩:∃e:Int,EA-36-1=e:=⟨_,rfl⟩
  obtain⟨E2,hE2⟩:∃E2:Int,e/2=E2:=⟨_,rfl⟩
  have hNb:576460752303423488<=N/\N<2305843009213693952:=oM;obtain⟨n,hn⟩:∃n:Nat,(n:Int)=N:=⟨N.toNat,oM⟩
  have hv2:=fun root=>HV.out root n e oM (Or.inr ⟨oM,oM⟩);rw[hE2]at hv2;have htd:e.tdiv 2=E2:=by rw[←hE2,Int.tdiv_eq_ediv];split<;>omega
  exact Zai
theorem RJ(a:Int)(h0:0<=a)(h1:a<4294967296)(w:World):
 Calls prog 149 #[.int .i64 a] w fun e w'=>e=.returned (.int .i64 (Dn a))/\Below w.heap.size w w':=by
 cases hna:BC a
 ·cases hia:Dq a
  ·by_cases za:nM a=0
   ·obtain⟨ra,a1,a2,a3,a4,a5⟩:=BE a h0 h1 hia hna;have hv:Dn a=a:=by
     rw[Fw a ra,za];have e:((Ieee.single.nearest (B4 a) 0 (nE a):Nat):Int)=GU (B4 a):=FY _ _;show((Ieee.single.nearest (B4 a) 0 (nE a):Nat):Int)=a;rw[e];have h2:=M6 a h0 h1 hia hna;have h3:=Ep a h0 h1;have h4:rg a.toNat=0:=by
      have:mg a.toNat=0:=oM;unfold mg at this;split at this<;>omega
     rw[h2.2.1,h4]at h3;unfold GU;omega
    rw[hv];clear hv ra a5;go_enter func149,ntmps149;exact SA
   ·cases hs:B4 a
    ·exact RK a h0 h1 hia hna za hs w
    ·obtain⟨ra,a1,a2,a3,a4,a5⟩:=BE a h0 h1 hia hna;have hv:Dn a=2143289344:=by
      rw[Fw a ra,hs];have:(nM a).toNat≠0:=oM;simp only[Ieee.Datum.root,if_neg this,if_true];rfl
     rw[hv];clear hv ra a5;go_enter func149,ntmps149;exact SA
  ·obtain⟨ra,-,a1⟩:=Dj a h0 h1 hia;cases hs:B4 a
   ·have hv:Dn a=a:=by
     rw[Fw a ra,hs];have h2:rg a.toNat=2139095040:=by
      rcases Nat.lt_trichotomy (rg a.toNat) 2139095040 with c|c|c
      ·rw[Cj _ c]at ra;cases ra
      ·exact c
      ·rw[E5 _ c]at ra;cases ra
     have h3:=Ep a h0 h1;rw[←LU a h0 h1,hs,h2]at h3;show((Ieee.single.write (.infinity false):Nat):Int)=a;rw[Ca];unfold GU;omega
    rw[hv];clear hv ra;go_enter func149,ntmps149;exact SA
   ·have hv:Dn a=2143289344:=by rw[Fw a ra,hs];rfl
    rw[hv];clear hv ra;go_enter func149,ntmps149;exact SA
 ·have hv:Dn a=2143289344:=by
   obtain⟨s,t,e⟩:=F5 a h0 h1 hna;rw[Fw a e];rfl
  rw[hv];clear hv;go_enter func149,ntmps149;exact SA
theorem Hc{w:World}{a:Addr}{v:Value}(h:w.cell? a=some v):a.block<w.heap.size:=by
 rcases Nat.lt_or_ge a.block w.heap.size with c|c
 ·exact c
 ·have:w.heap[a.block]? =none:=Array.getElem?_eq_none c;simp[World.cell?,this]at h
theorem Oy(w:World)(o:Obj):Below w.heap.size w (w.alloc o):=(Below.refl _ _).alloc (Nat.le_refl _) o
section
variable {w : World} {cs : List (Addr × Value)} {g : Nat} {x y : Value} {v v' : World}
end
def B5(w:World)(p:Option Addr)(n:Nat)(X:Nat->Value):Prop:=n=0\/∃b o,p=some ⟨b,o,none⟩/\∀i,i<n->w.cell? ⟨b,o+i,none⟩=some (X i)
theorem B5.below{w w':World}{p:Option Addr}{n:Nat}{X:Nat->Value}(h:B5 w p n X)(k:Below w.heap.size w w'):B5 w' p n X:=by
 rcases h with h|⟨b,o,e,h⟩
 ·exact .inl h
 ·exact .inr ⟨b,o,e,fun i hi=>(k.cell (Hc (h i hi))).trans (h i hi)⟩
theorem B5.congr{w:World}{p:Option Addr}{n:Nat}{X Y:Nat->Value}(h:B5 w p n X)(e:∀i,i<n->X i=Y i):B5 w p n Y:=by
 rcases h with h|⟨b,o,q,h⟩
 ·exact .inl h
 ·exact .inr ⟨b,o,q,fun i hi=>by rw[h i hi,e i hi]⟩

def nums(X:Nat->Int)(n:Nat):List Value:=(List.range n).map fun i=>.int .u32 (X i)
structure Rk where
 by_:Af
 of_:Ty
 deriving DecidableEq
structure RW where
 ins:Nat->Nat
 hold:Rk->Option Nat
 reck:List Rk
 opn:List Nat
 left:List Af
def Ag(i:Af):Bool:=decide ((A4 i.op).d≠0)
def AD(l:List Af)(r:Nat):Bool:=(l.filter fun i=>Ag i&&decide (i.d.toNat=r)).length==1
def A3(s:RW)(i:Af):Af:=
 {i with a:=if(A4 i.op).a=0 then i.a else(s.ins i.a.toNat:Int),b:=if(A4 i.op).b=0 then i.b else(s.ins i.b.toNat:Int),c:=if(A4 i.op).c=0 then i.c else(s.ins i.c.toNat:Int)}
def BK(l:List Af)(i:Af):Bool:=Ag i&&(AD l i.d.toNat&&(Aa i (A4 i.op)).all fun r=>AD l r.toNat)
def EU(c:Cd)(i:Af):Rk:=⟨{i with d:=0},A7 c.regs i.d⟩
def AU(c:Cd)(s:RW)(i:Af):Option Nat:=
 if BK c.list i then
  if i.op=3 then(if A7 c.regs i.a=A7 c.regs i.d then some i.a.toNat else none)else s.hold (EU c i)
 else none
def IV(s:RW)(k:Nat):RW:={s with hold:=fun r=>if r∈s.reck.drop k then none else s.hold r,reck:=s.reck.take k}
def Dw(s:RW):RW:={IV s (s.opn.getLastD 0)with opn:=s.opn.dropLast}
def AG(c:Cd)(s:RW)(i:Af):RW:=
 if i.op=34 then{s with left:=s.left++[i],opn:=s.opn++[s.reck.length]}
 else if i.op=35 then Dw {s with left:=s.left++[i]}
 else if(i.op≠32/\i.op≠3)/\BK c.list i then{s with left:=s.left++[i],hold:=fun r=>if r=EU c i then some i.d.toNat else s.hold r,reck:=s.reck++[EU c i]}
 else{s with left:=s.left++[i]}
def Bm(c:Cd)(s:RW)(i:Af):RW:=
 match AU c s (A3 s i)with
 |some r=>{s with ins:=fun k=>if k=i.d.toNat then r else s.ins k}
 |none=>AG c s (A3 s i)
def CB:RW:=⟨id,fun _=>none,[],[],[]⟩
def CA(c:Cd):List Af:=(c.list.foldl (Bm c) CB).left
def Bd(c:Cd):Cd:={c with list:=CA c}
inductive Ph(ins:Nat->Nat)(hold:Rk->Option Nat):List Nat->List Nat->List Rk->List Bk->List Bk->List Nat->Prop where
 |nil {X X':List Nat} {K:List Rk}:Ph ins hold X X' K [] [] []
 |loop {X X':List Nat} {K:List Rk} {o o':List Bk} {k:List Nat} {p:Int} {a a':Nat} (h:Ph ins hold X X' K o o' k):Ph ins hold X X' K (⟨true,p,a⟩::o) (⟨true,p,a'⟩::o') k
 |when {X X':List Nat} {K:List Rk} {o o':List Bk} {k:List Nat} {p:Int} {a a' m:Nat} (h1:a<=X.length) (h2:a'<=X'.length) (h3:m<=K.length) (h4:∀r∈X.take a,ins r∈X'.take a') (h5:∀q∈K.take m,∃g,hold q=some g/\g∈X'.take a')
  (h:Ph ins hold (X.take a) (X'.take a') (K.take m) o o' k):Ph ins hold X X' K (⟨false,p,a⟩::o) (⟨false,p,a'⟩::o') (k++[m])
theorem Ph.grow{ins ins2:Nat->Nat}{hold hold2:Rk->Option Nat}{X X':List Nat}{K:List Rk}{o o':List Bk}{k:List Nat}(h:Ph ins hold X X' K o o' k):∀ (Y Y':List Nat) (J:List Rk),(∀r∈X,ins2 r=ins r)->(∀q∈K,hold2 q=hold q)->Ph ins2 hold2 (X++Y) (X'++Y') (K++J) o o' k:=by
 induction h with
 |nil=>exact fun _ _ _ _ _=>.nil
 |loop h ih=>exact fun Y Y' J hi hh=>.loop (ih Y Y' J hi hh)
 |@when X1 X1' K1 o1 o1' k1 p1 a1 a1' m1 h1 h2 h3 h4 h5 h ih=>
  intro Y Y' J hi hh;have hi':∀r∈X1.take a1,ins2 r=ins r:=fun r hr=>hi r (List.mem_of_mem_take hr);have hh':∀q∈K1.take m1,hold2 q=hold q:=fun q hq=>hh q (List.mem_of_mem_take hq);have h6:=ih [] [] [] hi' hh';simp only[List.append_nil]at h6;refine .when sO sO sO ?_ ?_ ?_
  ·rw[List.take_append_of_le_length h1,List.take_append_of_le_length h2];exact fun r hr=>by rw[hi' r hr];exact h4 r hr
  ·rw[List.take_append_of_le_length h3,List.take_append_of_le_length h2];exact fun q hq=>by rw[hh' q hq];exact h5 q hq
  ·rw[List.take_append_of_le_length h1,List.take_append_of_le_length h2,List.take_append_of_le_length h3];exact h6
theorem Ph.len{ins:Nat->Nat}{hold:Rk->Option Nat}{X X':List Nat}{K:List Rk}{o o':List Bk}{k:List Nat}(h:Ph ins hold X X' K o o' k):o.length=o'.length:=by
 induction h with
 |nil=>rfl
 |loop h ih=>simp[ih]
 |when h1 h2 h3 h4 h5 h ih=>simp[ih]
theorem Ph.inner{ins:Nat->Nat}{hold:Rk->Option Nat}{X X':List Nat}{K:List Rk}{o o':List Bk}{k:List Nat}(h:Ph ins hold X X' K o o' k)(U V:List Nat):An ⟨U,o⟩=An ⟨V,o'⟩/\BR ⟨U,o⟩=BR ⟨V,o'⟩/\o.isEmpty=o'.isEmpty:=by
 cases h<;>exact⟨rfl,rfl,rfl⟩
structure D9(c:Cd)(L:List Af)(s:RW)(x x':Wk):Prop where
 ty:∀r,r<c.regs.length->s.ins r<c.regs.length/\A7 c.regs (s.ins r:Int)=A7 c.regs (r:Int)
 set:∀r∈x.set,s.ins r∈x'.set
 was:∀r∈x.set,∃i∈L,Ag i=true/\i.d.toNat=r
 same:∀r,s.ins r=r\/(AD c.list r=true/\∃i∈L,Ag i=true/\i.d.toNat=r)
 reck:∀k,(s.hold k).isSome=true↔k∈s.reck
 nodup:s.reck.Nodup
 hold:∀k g,s.hold k=some g->g∈x'.set/\g<c.regs.length/\A7 c.regs (g:Int)=k.of_
 opens:Ph s.ins s.hold x.set x'.set s.reck x.opens x'.opens s.opn
theorem D9.start(c:Cd):D9 c [] CB ⟨[],[]⟩ ⟨[],[]⟩:=
 ⟨fun r h=>⟨h,rfl⟩,fun r h=>(by cases h),fun r h=>(by cases h),fun r=>.inl rfl,fun k=>(by simp[CB]),List.nodup_nil,fun k g h=>(by cases h),.nil⟩
theorem GJ{l:List Ty}{n:Int}(h:0<=n):A7 l n=A7 l (n.toNat:Int):=by rw[Int.toNat_of_nonneg h]
theorem Fc{L R:List Af}{i:Af}(hs:Ag i=true)(h:AD (L++i::R) i.d.toNat=true):∀j∈L,Ag j=true->j.d.toNat≠i.d.toNat:=by
 intro j hj hsj e;unfold AD at h;simp only[beq_iff_eq,List.filter_append,List.length_append]at h;have h1:0<(L.filter fun q=>Ag q&&decide (q.d.toNat=i.d.toNat)).length:=List.length_pos_iff.2 fun e9=>by
  have:j∈L.filter fun q=>Ag q&&decide (q.d.toNat=i.d.toNat):=List.mem_filter.2 ⟨hj,by simp[hsj,e]⟩;rw[e9]at this;cases this
 have h2:0<((i::R).filter fun q=>Ag q&&decide (q.d.toNat=i.d.toNat)).length:=List.length_pos_iff.2 fun e9=>by
  have:i∈(i::R).filter fun q=>Ag q&&decide (q.d.toNat=i.d.toNat):=List.mem_filter.2 ⟨List.mem_cons_self,by simp[hs]⟩;rw[e9]at this;cases this
 omega
theorem GS{i:Af}(h:Ag i=true):i.op≠34/\i.op≠35/\i.op≠36/\i.op≠37:=by
 unfold Ag at h;simp only[decide_eq_true_eq]at h;refine⟨?_,?_,?_,?_⟩<;>(intro e;rw[e]at h;exact h dE)
theorem RZ{s:Wk}{i:Af}(h:Ag i=true):BJ s i=s:=by
 obtain⟨h1,h2,h3,h4⟩:=GS h;unfold BJ;rw[if_neg oM,if_neg oM]
theorem IY{c:Cd}{ins:Nat->Nat}(ty:∀r,r<c.regs.length->ins r<c.regs.length/\A7 c.regs (ins r:Int)=A7 c.regs (r:Int)){l n:Int}{m:Ty}(h:Ad c.regs l n m=true):Ad c.regs l (if l=0 then n else(ins n.toNat:Int)) m=true:=by
 by_cases hl:l=0
 ·rw[if_pos hl];exact h
 ·rw[if_neg hl];obtain⟨h0,h1⟩:=Ac h hl;obtain⟨t1,t2⟩:=ty n.toNat oM;unfold Ad at h ⊢;rw[if_neg hl]at h ⊢;simp only[Bool.and_eq_true]at h ⊢;rw[t2,←GJ h0];exact⟨Bo.2 ⟨oM,oM⟩,h.2⟩
theorem Tx{c:Cd}{s:RW}(ty:∀r,r<c.regs.length->s.ins r<c.regs.length/\A7 c.regs (s.ins r:Int)=A7 c.regs (r:Int)){i:Af}(h:AJ c i (A4 i.op)=true):Ay c.regs (A3 s i) (A4 i.op)=Ay c.regs i (A4 i.op):=by
 unfold Ay Ek A3;simp only;by_cases hd:(A4 i.op).d=0
 ·rw[if_pos hd,if_pos hd];by_cases ha:(A4 i.op).a=0
  ·rw[if_pos ha]
  ·rw[if_neg ha];obtain⟨h0,h1⟩:=Ac (BD h) ha;rw[(ty i.a.toNat oM).2,←GJ h0]
 ·rw[if_neg hd,if_neg hd]
theorem DN{c:Cd}{L:List Af}{s:RW}{x x':Wk}(h:D9 c L s x x'){i:Af}(t:Ar c x i=true):Ar c x' (A3 s i)=true:=by
 obtain⟨t1,t2,t3,t4⟩:=Ai t;have hm:=Tx h.ty t2;have hop:(A3 s i).op=i.op:=rfl;unfold Ar;rw[hop];simp only[Bool.and_eq_true];refine⟨t1,?_,?_,?_⟩
 ·unfold AJ at t2 ⊢;rw[hm];simp only[Bool.and_eq_true]at t2 ⊢;obtain⟨f1,f2,f3,f4,f5⟩:=t2;exact⟨f1,IY h.ty f2,IY h.ty f3,IY h.ty f4,f5⟩
 ·obtain⟨q1,q2,q3⟩:=h.opens.inner x.set x'.set;have q4:=h.opens.len;unfold At at t3 ⊢;have e1:An x'=An x:=q1.symm;have e2:BR x'=BR x:=q2.symm;rw[hop,hm,e1,e2,←q3,←q4];exact t3
 ·unfold Dy Aa at t4 ⊢;rw[List.all_eq_true]at t4 ⊢;intro n hn;simp only[List.mem_append]at hn t4;have key:∀m:Int,(m=i.a/\(A4 i.op).a≠0\/m=i.b/\(A4 i.op).b≠0\/m=i.c/\(A4 i.op).c≠0)->s.ins m.toNat∈x'.set:=fun m hm'=>h.set _ (by
   have:=t4 m (by
    rcases hm' with⟨rfl,q⟩|⟨rfl,q⟩|⟨rfl,q⟩
    ·exact .inl Sp
    ·exact .inr (.inl Sp)
    ·exact .inr (.inr Sp))
   simpa using this)
  simp only[decide_eq_true_eq];unfold A3 at hn;simp only at hn;rcases hn with hn|hn|hn
  ·by_cases q:(A4 i.op).a=0
   ·rw[if_pos q]at hn;cases hn
   ·rw[if_neg q,if_neg q]at hn;simp at hn;subst hn;exact key i.a (.inl ⟨rfl,q⟩)
  ·by_cases q:(A4 i.op).b=0
   ·rw[if_pos q]at hn;cases hn
   ·rw[if_neg q,if_neg q]at hn;simp at hn;subst hn;exact key i.b (.inr (.inl ⟨rfl,q⟩))
  ·by_cases q:(A4 i.op).c=0
   ·rw[if_pos q]at hn;cases hn
   ·rw[if_neg q,if_neg q]at hn;simp at hn;subst hn;exact key i.c (.inr (.inr ⟨rfl,q⟩))
theorem DU{c:Cd}{s:RW}{i:Af}{g:Nat}(h:AU c s i=some g):BK c.list i=true:=by
 unfold AU at h;split at h
 ·assumption
 ·cases h
theorem B9{l:List Af}{i:Af}(h:BK l i=true):Ag i=true/\AD l i.d.toNat=true/\∀r∈Aa i (A4 i.op),AD l r.toNat=true:=by
 unfold BK at h;simp only[Bool.and_eq_true,List.all_eq_true]at h;exact h
theorem PN{c:Cd}{L R:List Af}{s:RW}{x x':Wk}{i:Af}(h:D9 c L s x x')(hl:c.list=L++i::R)(hs:Ag i=true)(hst:AD c.list i.d.toNat=true):i.d.toNat∉x.set:=fun hm=>by
 obtain⟨j,hj,h1,h2⟩:=h.was _ hm;rw[hl]at hst;exact Fc hs hst j hj h1 h2
theorem FJ{c:Cd}{x:Wk}{i:Af}(t:Ar c x i=true)(hs:Ag i=true):0<=i.d/\i.d<(c.regs.length:Int):=by
 obtain⟨_,t2,_,_⟩:=Ai t;unfold Ag at hs;exact Ac (Dh t2) (by simpa using hs)
theorem Lm{x:Wk}{i:Af}(hs:Ag i=true):Ae x i=CM x i (A4 i.op):=by
 unfold Ae Dr;rw[RZ hs]
theorem Tn{c:Cd}{L:List Af}{s:RW}{x x':Wk}{i:Af}(h:D9 c L s x x')(t:Ar c x i=true){g:Nat}(hh:AU c s (A3 s i)=some g):g∈x'.set/\g<c.regs.length/\A7 c.regs (g:Int)=A7 c.regs i.d:=by
 have hw:=DU hh;obtain⟨t1,t2,t3,t4⟩:=Ai t;unfold AU at hh;rw[if_pos hw]at hh;by_cases h3:(A3 s i).op=3
 ·rw[if_pos h3]at hh;have h3':i.op=3:=h3;have ha:(A4 i.op).a≠0:=by rw[h3'];decide
  have ea:(A3 s i).a=(s.ins i.a.toNat:Int):=by unfold A3;simp only;rw[if_neg ha]
  obtain⟨a0,a1⟩:=Ac (BD t2) ha;obtain⟨q1,q2⟩:=h.ty i.a.toNat oM;rw[ea]at hh;split at hh
  ·rename_i e;simp only[Int.toNat_natCast,Option.some.injEq]at hh;subst hh;refine⟨h.set _ ?_,q1,e⟩;unfold Dy Aa at t4;rw[List.all_eq_true]at t4;have:=t4 i.a (by rw[if_neg ha];simp);simpa using this
  ·cases hh
 ·rw[if_neg h3]at hh;exact h.hold _ _ hh
theorem Ha{c:Cd}{L R:List Af}{s:RW}{x x':Wk}{i:Af}(h:D9 c L s x x')(hl:c.list=L++i::R)(t:Ar c x i=true){g:Nat}(hh:AU c s (A3 s i)=some g):
 D9 c (L++[i]) {s with ins:=fun k=>if k=i.d.toNat then g else s.ins k} (Ae x i) x':=by
 obtain⟨w1,w2,w3⟩:=B9 (DU hh);have w1':Ag i=true:=w1;have w2':AD c.list i.d.toNat=true:=w2;obtain⟨g1,g2,g3⟩:=Tn h t hh;have hn:=PN h hl w1' w2';obtain⟨d0,d1⟩:=FJ t w1';have hst:Ae x i=⟨x.set++[i.d.toNat],x.opens⟩:=by
  rw[Lm w1'];unfold CM;rw[if_pos ⟨by unfold Ag at w1';simpa using w1',hn⟩]
 rw[hst];have hne:∀r∈x.set,(if r=i.d.toNat then g else s.ins r)=s.ins r:=fun r hr=>if_neg (fun e:r=i.d.toNat=>hn (by rw[←e];exact hr));refine⟨fun r hr=>?_,fun r hr=>?_,fun r hr=>?_,fun r=>?_,h.reck,h.nodup,h.hold,?_⟩
 ·simp only;by_cases e:r=i.d.toNat
  ·rw[if_pos e,e];exact⟨g2,by rw[g3,GJ d0]⟩
  ·rw[if_neg e];exact h.ty r hr
 ·simp only at hr ⊢;rcases List.mem_append.1 hr with hr|hr
  ·rw[hne r hr];exact h.set r hr
  ·simp at hr;rw[if_pos hr];exact g1
 ·simp only at hr;rcases List.mem_append.1 hr with hr|hr
  ·obtain⟨j,hj,q⟩:=h.was r hr;exact⟨j,List.mem_append.2 (.inl hj),q⟩
  ·simp at hr;exact⟨i,sM,w1',hr.symm⟩
 ·simp only;by_cases e:r=i.d.toNat
  ·exact .inr ⟨by rw[e];exact w2',i,sM,w1',e.symm⟩
  ·rw[if_neg e];rcases h.same r with q|⟨q,j,hj,k⟩
   ·exact .inl q
   ·exact .inr ⟨q,j,List.mem_append.2 (.inl hj),k⟩
 ·have:=h.opens.grow (ins2:=fun k=>if k=i.d.toNat then g else s.ins k) (hold2:=s.hold) [i.d.toNat] [] [] hne (fun _ _=>rfl);simpa using this
theorem G2(c:Cd)(s:RW)(i:Af):(AG c s i).left=s.left++[i]/\(AG c s i).ins=s.ins:=by
 unfold AG Dw IV;split
 ·exact⟨rfl,rfl⟩
 ·split
  ·exact⟨rfl,rfl⟩
  ·split<;>exact⟨rfl,rfl⟩
theorem D9.more{c:Cd}{L:List Af}{s:RW}{x x':Wk}(h:D9 c L s x x')(i:Af):(∀r∈x.set,∃j∈L++[i],Ag j=true/\j.d.toNat=r)/\∀r,s.ins r=r\/(AD c.list r=true/\∃j∈L++[i],Ag j=true/\j.d.toNat=r):=
 ⟨fun r hr=>by obtain⟨j,hj,q⟩:=h.was r hr;exact⟨j,List.mem_append.2 (.inl hj),q⟩,fun r=>by
  rcases h.same r with q|⟨q,j,hj,k⟩
  ·exact .inl q
  ·exact .inr ⟨q,j,List.mem_append.2 (.inl hj),k⟩⟩
theorem M0{s:Wk}{i:Af}(h:Ag i=false):CM s i (A4 i.op)=s:=by
 unfold CM;rw[if_neg];unfold Ag at h;simp only[decide_eq_false_iff_not,Decidable.not_not]at h;exact fun e=>e.1 h
theorem JF{α:Type}{l:List α}{m:Nat}{x:α}(hn:l.Nodup)(h:x∈l.take m):x∉l.drop m:=fun k=>by
 rw[←List.take_append_drop m l,List.nodup_append]at hn;exact hn.2.2 x h x k rfl
theorem Lq{s:Wk}{i:Af}(e:i.op=34):BJ s i=⟨s.set,⟨false,i.n,s.set.length⟩::s.opens⟩:=by
 unfold BJ;rw[if_pos (.inl e)];have b:(i.op==36)=false:=by rw[e];decide
 rw[b]
theorem Lp{s:Wk}{i:Af}(e:i.op=36):BJ s i=⟨s.set,⟨true,i.n,s.set.length⟩::s.opens⟩:=by
 unfold BJ;rw[if_pos (.inr e)];have b:(i.op==36)=true:=by rw[e];decide
 rw[b]
theorem Ff{s:Wk}{i:Af}(e:i.op=35\/i.op=37):BJ s i=AF s:=by
 unfold BJ;rw[if_neg oM,if_pos e]
theorem Ll(c:Cd)(s:RW){i:Af}(e:i.op=34):AG c s i={s with left:=s.left++[i],opn:=s.opn++[s.reck.length]}:=by unfold AG;rw[if_pos e]
theorem Nx(c:Cd)(s:RW){i:Af}(e:i.op=35):AG c s i=Dw {s with left:=s.left++[i]}:=by unfold AG;rw[if_neg oM,if_pos e]
theorem Ri{c:Cd}{L:List Af}{s:RW}{x x':Wk}{i i':Af}(h:D9 c L s x x')(t:Ar c x i=true)(e1:i'.op=i.op)(e2:i'.n=i.n)(ho:i.op=34\/i.op=35\/i.op=36\/i.op=37):
 D9 c (L++[i]) (AG c s i') (Ae x i) (Ae x' i'):=by
 have hns:Ag i=false:=by
  unfold Ag;rcases ho with e|e|e|e<;>(rw[e];decide)
 have hns':Ag i'=false:=by unfold Ag at hns ⊢;rw[e1];exact hns
 obtain⟨m1,m2⟩:=h.more i;have hsx:Ae x i=BJ x i:=by unfold Ae Dr;exact M0 hns
 have hsx':Ae x' i'=BJ x' i':=by unfold Ae Dr;exact M0 hns'
 rw[hsx,hsx'];obtain⟨-,-,t3,-⟩:=Ai t;rcases ho with e|e|e|e
 ·rw[Lq e,Lq (e1.trans e),Ll c s (e1.trans e),e2];refine⟨h.ty,h.set,m1,m2,h.reck,h.nodup,h.hold,.when (Nat.le_refl _) (Nat.le_refl _) (Nat.le_refl _) ?_ ?_ ?_⟩
  ·rw[List.take_length,List.take_length];exact h.set
  ·rw[List.take_length,List.take_length];intro q hq;obtain⟨g,hg⟩:=Option.isSome_iff_exists.1 ((h.reck q).2 hq);exact⟨g,hg,(h.hold q g hg).1⟩
  ·rw[List.take_length,List.take_length,List.take_length];exact h.opens
 ·rw[Ff (.inl e),Ff (.inl (e1.trans e)),Nx c s (e1.trans e)];unfold At at t3;rw[if_neg oM,if_pos e]at t3;simp only[Bool.and_eq_true,Bool.not_eq_true']at t3;obtain⟨X,O⟩:=x;obtain⟨X',O'⟩:=x';have ho:=h.opens;simp only at ho t3;obtain⟨ins,hold,reck,opn,left⟩:=s;simp only at ho;cases ho with
  |nil=>simp at t3
  |loop h9=>simp[An]at t3
  |@when _ _ _ o o' k p a a' m h1 h2 h3 h4 h5 h6=>
   have hl1:(k++[m]).getLastD 0=m:=sM;have hl2:(k++[m]).dropLast=k:=sM;unfold AF Dw IV;simp only[hl1,hl2,Bool.false_eq_true,if_false];have hnd:reck.Nodup:=h.nodup;have hk2:∀q∈reck.take m,(if q∈reck.drop m then none else hold q)=hold q:=fun q hq=>if_neg (JF hnd hq);refine⟨h.ty,h4,fun r hr=>m1 r (List.mem_of_mem_take hr),m2,fun q=>?_,(List.take_sublist _ _).nodup hnd,fun q g hq=>?_,?_⟩
   ·simp only;by_cases hd:q∈reck.drop m
    ·rw[if_pos hd];simp only[Option.isSome_none,Bool.false_eq_true,false_iff];exact fun hq=>JF hnd hq hd
    ·rw[if_neg hd];rw[h.reck q];show q∈reck↔_;rw[←List.take_append_drop m reck,List.mem_append];simp only[List.take_append_drop];exact⟨fun w=>w.resolve_right hd,.inl⟩
   ·simp only at hq;by_cases hd:q∈reck.drop m
    ·rw[if_pos hd]at hq;cases hq
    ·rw[if_neg hd]at hq;have hqr:q∈reck:=(h.reck q).1 (by show(hold q).isSome=true;rw[hq];rfl);rw[←List.take_append_drop m reck,List.mem_append]at hqr;obtain⟨g',hg',hgm⟩:=h5 q (hqr.resolve_right hd);rw[hq]at hg';obtain rfl:=Option.some.inj hg';exact⟨hgm,(h.hold q g hq).2⟩
   ·have h7:=h6.grow (ins2:=ins) (hold2:=fun q=>if q∈reck.drop m then none else hold q) [] [] [] (fun _ _=>rfl) hk2;simpa using h7
 ·have hst:AG c s i'={s with left:=s.left++[i']}:=by
   unfold AG;rw[if_neg oM,if_neg oM,if_neg];intro q;have:=(B9 q.2).1;rw[hns']at this;cases this
  rw[hst,Lp e,Lp (e1.trans e),e2];exact⟨h.ty,h.set,m1,m2,h.reck,h.nodup,h.hold,.loop h.opens⟩
 ·have hst:AG c s i'={s with left:=s.left++[i']}:=by
   unfold AG;rw[if_neg oM,if_neg oM,if_neg];intro q;have:=(B9 q.2).1;rw[hns']at this;cases this
  rw[hst,Ff (.inr e),Ff (.inr (e1.trans e))];unfold At at t3;rw[if_neg oM,if_neg oM,if_pos e]at t3;obtain⟨X,O⟩:=x;obtain⟨X',O'⟩:=x';have ho:=h.opens;simp only at ho t3;clear hst;obtain⟨ins,hold,reck,opn,left⟩:=s;simp only at ho;cases ho with
  |nil=>simp[An]at t3
  |loop h9=>exact⟨h.ty,h.set,m1,m2,h.reck,h.nodup,h.hold,h9⟩
  |when h1 h2 h3 h4 h5 h6=>simp[An]at t3
theorem G3{c:Cd}{L R:List Af}{s:RW}{x x':Wk}{i:Af}(h:D9 c L s x x')(hl:c.list=L++i::R)(t:Ar c x i=true)(hh:AU c s (A3 s i)=none):
 D9 c (L++[i]) (AG c s (A3 s i)) (Ae x i) (Ae x' (A3 s i)):=by
 by_cases ho:i.op=34\/i.op=35\/i.op=36\/i.op=37
 ·exact Ri h t rfl rfl ho
 have hop:(A3 s i).op=i.op:=rfl;have hdd:(A3 s i).d=i.d:=rfl;have hs':Ag (A3 s i)=Ag i:=rfl;obtain⟨m1,m2⟩:=h.more i;have hsx:Ae x i=CM x i (A4 i.op):=by
  unfold Ae Dr BJ;rw[if_neg oM,if_neg oM]
 have hsx':Ae x' (A3 s i)=CM x' (A3 s i) (A4 i.op):=by
  unfold Ae Dr BJ;rw[hop,if_neg oM,if_neg oM]
 rw[hsx,hsx'];cases hs:Ag i with
 |false=>
  have hst:AG c s (A3 s i)={s with left:=s.left++[A3 s i]}:=by
   unfold AG;rw[if_neg Pl,if_neg Pl,if_neg];intro q;have:=(B9 q.2).1;rw[hs',hs]at this;cases this
  have na:CM x' (A3 s i) (A4 i.op)=x':=M0 (i:=A3 s i) (by rw[hs'];exact hs);rw[hst,M0 hs,na];exact⟨h.ty,h.set,m1,m2,h.reck,h.nodup,h.hold,h.opens⟩
 |true=>
  obtain⟨d0,d1⟩:=FJ t hs;have hd0:(A4 i.op).d≠0:=by unfold Ag at hs;simpa using hs
  have hid:s.ins i.d.toNat=i.d.toNat:=by
   rcases h.same i.d.toNat with q|⟨q,j,hj,k1,k2⟩
   ·exact q
   ·rw[hl]at q;exact absurd k2 (Fc hs q j hj k1)
  obtain⟨Y,hY,hYm⟩:∃Y,CM x i (A4 i.op)=⟨x.set++Y,x.opens⟩/\∀r∈Y,r=i.d.toNat:=by
   unfold CM;split
   ·exact⟨[i.d.toNat],rfl,fun r hr=>by simpa using hr⟩
   ·exact⟨[],sM,fun r hr=>by cases hr⟩
  obtain⟨Y',hY',hYm'⟩:∃Y,CM x' (A3 s i) (A4 i.op)=⟨x'.set++Y,x'.opens⟩/\i.d.toNat∈x'.set++Y:=by
   unfold CM;rw[hdd];split
   ·exact⟨[i.d.toNat],rfl,sM⟩
   ·rename_i q;refine⟨[],sM,?_⟩;rw[List.append_nil];exact Decidable.byContradiction fun e=>q ⟨hd0,e⟩
  rw[hY,hY'];have hset:∀r∈x.set++Y,s.ins r∈x'.set++Y':=fun r hr=>by
   rcases List.mem_append.1 hr with hr|hr
   ·exact List.mem_append.2 (.inl (h.set r hr))
   ·rw[hYm r hr,hid];exact hYm'
  have hwas:∀r∈x.set++Y,∃j∈L++[i],Ag j=true/\j.d.toNat=r:=fun r hr=>by
   rcases List.mem_append.1 hr with hr|hr
   ·exact m1 r hr
   ·exact⟨i,sM,hs,(hYm r hr).symm⟩
  by_cases hw:((A3 s i).op≠32/\(A3 s i).op≠3)/\BK c.list (A3 s i)=true
  ·have hst:AG c s (A3 s i)={s with left:=s.left++[A3 s i],hold:=fun r=>if r=EU c (A3 s i)then some (A3 s i).d.toNat else s.hold r,reck:=s.reck++[EU c (A3 s i)]}:=by
    unfold AG;rw[if_neg Pl,if_neg Pl,if_pos hw]
   have hno:s.hold (EU c (A3 s i))=none:=by
    unfold AU at hh;rw[if_pos hw.2,if_neg hw.1.2]at hh;exact hh
   have hnr:EU c (A3 s i)∉s.reck:=fun q=>by
    have:=(h.reck _).2 q;rw[hno]at this;cases this
   rw[hst];refine⟨h.ty,hset,hwas,m2,fun q=>?_,?_,fun q g hq=>?_,?_⟩
   ·simp only;by_cases e:q=EU c (A3 s i)
    ·rw[if_pos e];simp[e]
    ·rw[if_neg e,h.reck q,List.mem_append];simp[e]
   ·rw[List.nodup_append];refine⟨h.nodup,sM,fun a ha b hb=>?_⟩;simp at hb;subst hb;exact fun e=>hnr (e▸ha)
   ·simp only at hq;by_cases e:q=EU c (A3 s i)
    ·rw[if_pos e,hdd]at hq;obtain rfl:=Option.some.inj hq;refine⟨hYm',oM,?_⟩;rw[e,←GJ d0];rfl
    ·rw[if_neg e]at hq;obtain⟨q1,q2⟩:=h.hold q g hq;exact⟨List.mem_append.2 (.inl q1),q2⟩
   ·exact h.opens.grow Y Y' [EU c (A3 s i)] (fun _ _=>rfl) (fun q hq=>if_neg (fun e:q=EU c (A3 s i)=>hnr (e▸hq)))
  ·have hst:AG c s (A3 s i)={s with left:=s.left++[A3 s i]}:=by
    unfold AG;rw[if_neg Pl,if_neg Pl,if_neg hw]
   rw[hst];refine⟨h.ty,hset,hwas,m2,h.reck,h.nodup,fun q g hq=>?_,?_⟩
   ·obtain⟨q1,q2⟩:=h.hold q g hq;exact⟨List.mem_append.2 (.inl q1),q2⟩
   ·have:=h.opens.grow (ins2:=s.ins) (hold2:=s.hold) Y Y' [] (fun _ _=>rfl) (fun _ _=>rfl);simpa using this
theorem Hj(c:Cd):∀ (R L:List Af) (s:RW) (x:Wk),c.list=L++R->D9 c L s x (DG ⟨[],[]⟩ s.left)->AN c ⟨[],[]⟩ s.left=true->AN c x R=true->
 D9 c c.list (R.foldl (Bm c) s) (DG x R) (DG ⟨[],[]⟩ (R.foldl (Bm c) s).left)/\AN c ⟨[],[]⟩ (R.foldl (Bm c) s).left=true
 |[],L,s,x,hl,h,ht,_=>by
  rw[List.append_nil]at hl;subst hl;exact⟨h,ht⟩
 |i::R,L,s,x,hl,h,ht,hr=>by
  have hr':Ar c x i=true/\AN c (Ae x i) R=true:=by unfold AN at hr;simpa using hr
  rw[List.foldl_cons];have hl':c.list=(L++[i])++R:=by rw[hl];simp
  unfold Bm;cases hh:AU c s (A3 s i)with
  |some g=>exact Hj c R (L++[i]) _ _ hl' (Ha h hl hr'.1 hh) ht hr'.2
  |none=>
   obtain⟨e1,e2⟩:=G2 c s (A3 s i);have h2:=G3 h hl hr'.1 hh;refine Hj c R (L++[i]) _ _ hl' ?_ ?_ hr'.2
   ·rw[e1,FI];exact h2
   ·rw[e1,Dk,ht];show AN c (DG ⟨[],[]⟩ s.left) [A3 s i]=true;unfold AN;rw[DN h hr'.1];rfl
theorem J7(c:Cd):∀ (R:List Af) (s:RW),(R.foldl (Bm c) s).left.length<=s.left.length+R.length
 |[],s=>by simp
 |i::R,s=>by
  rw[List.foldl_cons];have h:=J7 c R (Bm c s i);have h2:(Bm c s i).left.length<=s.left.length+1:=by
   unfold Bm;split
   ·simp
   ·rw[(G2 c s _).1];simp
  simp only[List.length_cons];omega
theorem Jo{c:Cd}(h:(Ao c).1=0):(Ao (Bd c)).1=0:=by
 obtain⟨h1,h2,h3⟩:=FP.1 h;obtain⟨r1,r2⟩:=Hj c c.list [] CB ⟨[],[]⟩ rfl (D9.start c) rfl h2;have hlen:=J7 c c.list CB;refine FP.2 ⟨Mk (x:=CA c) h1 (by unfold CA;simpa[CB]using hlen),?_,?_⟩
 ·show AN ⟨c.sign,c.regs,c.slots,CA c⟩ _ _=true;rw[Ie];exact r2
 ·have:=(r1.opens.inner [] []).2.2;show(DG ⟨[],[]⟩ (CA c)).opens.isEmpty=true;unfold CA;rw[←this];exact h3
section
open Go.Maps (Keyed)
theorem Xv:laidOutB prog=true:=kR
theorem Z4:(108:TypeId)<prog.types.size:=of_decide_eq_true kR
theorem Xy:(match prog.underlying 108 with |some (.array _ _)|some (.struct _)=>true|_=>false)=true:=by rw[underlying108]
theorem Zs:Keyed prog 108:=Keyed.of_law (deep_law_laid Xv (m:=3) oM Z4 kR Xy)
def OM(q:Rk):List Value:=[.int .i64 q.by_.op,.int .i64 q.by_.d,.int .i64 q.by_.a,.int .i64 q.by_.b,.int .i64 q.by_.c,.int .i64 q.by_.n,.int .u32 q.by_.bits,.int .i64 q.of_.kind,.int .i64 q.of_.par]
def JX(q:Rk):Value:=.agg #[.int .i64 q.by_.op,.int .i64 q.by_.d,.int .i64 q.by_.a,.int .i64 q.by_.b,.int .i64 q.by_.c,.int .i64 q.by_.n,.int .u32 q.by_.bits,.int .i64 q.of_.kind,.int .i64 q.of_.par]
def CO(n:Int):Prop:= -9223372036854775808<=n/\n<=9223372036854775807
def Fm(q:Rk):Prop:=CO q.by_.op/\CO q.by_.d/\CO q.by_.a/\CO q.by_.b/\CO q.by_.c/\CO q.by_.n/\(0<=q.by_.bits/\q.by_.bits<4294967296)/\CO q.of_.kind/\CO q.of_.par
theorem wf64{n:Int}(h:CO n):(Lit.int .i64 n).wf=true:=by
 have h1:IntKind.i64.min= -9223372036854775808:=dE;have h2:IntKind.i64.max=9223372036854775807:=dE;simp only[Lit.wf,Bool.and_eq_true,decide_eq_true_eq,h1,h2];exact h
theorem wf32{n:Int}(h:0<=n/\n<4294967296):(Lit.int .u32 n).wf=true:=by
 have h1:IntKind.u32.min=0:=dE;have h2:IntKind.u32.max=4294967295:=dE;simp only[Lit.wf,Bool.and_eq_true,decide_eq_true_eq,h1,h2];omega
theorem Xx:prog.keyType 108=true:=kR
theorem Nb:prog.cellsOf 108=9:=kR
theorem PX:prog.cellsOf 44=7:=kR
theorem Yf:prog.cellsOf 46=2:=kR
theorem U8:prog.cellsOf 3=1:=kR
theorem rk_F:prog.cellsOf 42=1:=kR
theorem Xw:∃m,prog.types.size+1=m+3:=⟨prog.types.size-2,by have:2<=prog.types.size:=of_decide_eq_true kR;omega⟩
theorem Tw(d:Nat){n:Int}(h:CO n):prog.keyLits (d+1) 3 [.int .i64 n]=some [.int .i64 n]:=by
 unfold Program.keyLits;rw[underlying3];simp[wf64 h]
theorem kl_F(d:Nat){n:Int}(h:0<=n/\n<4294967296):prog.keyLits (d+1) 42 [.int .u32 n]=some [.int .u32 n]:=by
 unfold Program.keyLits;rw[underlying42];simp[wf32 h]
theorem ZO(d:Nat){t:Ty}(h1:CO t.kind)(h2:CO t.par):prog.keyLits (d+2) 46 [.int .i64 t.kind,.int .i64 t.par]=some [.int .i64 t.kind,.int .i64 t.par]:=by
 unfold Program.keyLits;rw[underlying46];simp only;rw[if_pos ⟨by rw[Yf];rfl,kR⟩];simp[Tw,h1,h2,U8]
theorem WJ(d:Nat){i:Af}(h1:CO i.op)(h2:CO i.d)(h3:CO i.a)(h4:CO i.b)(h5:CO i.c)(h6:CO i.n)(h7:0<=i.bits/\i.bits<4294967296):prog.keyLits (d+2) 44 [.int .i64 i.op,.int .i64 i.d,.int .i64 i.a,.int .i64 i.b,.int .i64 i.c,.int .i64 i.n,.int .u32 i.bits]=some [.int .i64 i.op,.int .i64 i.d,.int .i64 i.a,.int .i64 i.b,.int .i64 i.c,.int .i64 i.n,.int .u32 i.bits]:=by
 unfold Program.keyLits;rw[underlying44];simp only;rw[if_pos ⟨by rw[PX];rfl,kR⟩];simp[Tw,kl_F,h1,h2,h3,h4,h5,h6,h7,U8,rk_F]
theorem YK{q:Rk}(h:Fm q):∃l,keyOf prog 108 (JX q)=some l:=by
 obtain⟨h1,h2,h3,h4,h5,h6,h7,h8,h9⟩:=h;obtain⟨m,hm⟩:=Xw;have hk:prog.keyLits (m+3) 108 (OM q)=some ([.int .i64 q.by_.op,.int .i64 q.by_.d,.int .i64 q.by_.a,.int .i64 q.by_.b,.int .i64 q.by_.c,.int .i64 q.by_.n,.int .u32 q.by_.bits,.int .i64 q.of_.kind,.int .i64 q.of_.par]):=by
  unfold Program.keyLits OM;rw[underlying108];simp only;rw[if_pos ⟨by rw[Nb];rfl,kR⟩];simp[WJ,ZO,h1,h2,h3,h4,h5,h6,h7,h8,h9,PX,Yf]
 unfold keyOf;rw[underlying108];have hf:(JX q).formed prog 108=true:=by
  unfold JX Value.formed;rw[underlying108];simp[Nb]
 simp only[Xx,hf,hm,Bool.and_self,if_true];have hc:(JX q).cells.toList=OM q:=rfl;rw[hc,hk];exact⟨_,rfl⟩
noncomputable def litR (q:Rk):Lit:=(keyOf prog 108 (JX q)).getD (.bool false)
theorem EL{q:Rk}(h:Fm q):keyOf prog 108 (JX q)=some (litR q):=by
 obtain⟨l,hl⟩:=YK h;unfold litR;rw[hl];rfl
theorem Xu{q p:Rk}(h:JX q=JX p):q=p:=by
 obtain⟨⟨o,d,a,b,c,n,z⟩,⟨k,r⟩⟩:=q;obtain⟨⟨o',d',a',b',c',n',z'⟩,⟨k',r'⟩⟩:=p;unfold JX at h;simp at h;obtain⟨rfl,rfl,rfl,rfl,rfl,rfl,rfl,rfl,rfl⟩:=h;rfl
theorem MQ{q p:Rk}(hq:Fm q)(hp:Fm p)(h:litR q=litR p):q=p:=Xu (Zs.inj (EL hq) (by rw[h];exact EL hp))
def Cx(w:World)(b n:Nat)(f:Rk->Option Value):Prop:=
 ∃D:DataW Value,w.ownsMap prog 108 hRI b n D/\∀k,Fm k->∀zd,D.atKey (litR k) zd=match f k with |some v=>.held v|none=>zd
theorem Cx.new(w:World):Cx (w.alloc (.map #[] 0)) w.heap.size 0 (fun _=>none):=⟨_,World.ownsMap_made _ _ _ _,fun k _ zd=>rfl⟩
theorem Cx.block{w w':World}{b n:Nat}{f:Rk->Option Value}(h:Cx w b n f)(hb:w'.heap[b]? =w.heap[b]?):Cx w' b n f:=by
 obtain⟨D,⟨es,clock,h0,h1⟩,h2⟩:=h;exact⟨D,⟨es,clock,hb.trans h0,h1⟩,h2⟩
theorem Cx.lt{w:World}{b n:Nat}{f:Rk->Option Value}(h:Cx w b n f):b<w.heap.size:=by
 obtain⟨D,h1,_⟩:=h;exact h1.lt
theorem Cx.below{w w':World}{b n:Nat}{f:Rk->Option Value}(h:Cx w b n f)(k:Below w.heap.size w w'):Cx w' b n f:=h.block (k.block b h.lt)
theorem YJ{q:Rk}(h:Fm q):WideAt.IsKeyLit (litR q):=Zs.key (EL h)
theorem Cx.put{w:World}{b n:Nat}{f:Rk->Option Value}(h:Cx w b n f)(hn:n<maxLen){t e:TypeId}(ht:prog.underlying t=some (.map 108 e)){k:Rk}(hk:Fm k)(v:Value):
 ∃w',(Instr.mapUpdate t (.map (some b)) (JX k) v).run prog w=.ok () w'/\Cx w' b (n+1) (fun q=>if q=k then some v else f q)/\w.grownBy w' (some b):=by
 obtain⟨D,h1,h2⟩:=h;obtain⟨w',hrun,r1,r2⟩:=h1.update Zs ht hn (EL hk) (d:=.held v) (ps:=[]) (val:=v) rfl;refine⟨w',hrun,⟨_,r1,fun j hj zd=>?_⟩,r2⟩;by_cases e:j=k
 ·subst e;rw[Maps.atKey_put_same (h1.canon Zs |>.elim fun es hes=>⟨es,hes.1⟩) (YJ hj)];simp
 ·rw[Maps.atKey_put_other (fun he=>e (MQ hj hk he)),h2 j hj];simp only[if_neg e]
theorem Cx.has{f:Rk->Option Value}{D:DataW Value}{k:Rk}(h:∀zd,D.atKey (litR k) zd=match f k with |some v=>.held v|none=>zd):Maps.has D (litR k)=(f k).isSome:=by
 cases hk:f k with
 |none=>exact Maps.has_false_of_atKey fun z=>by rw[h,hk]
 |some v=>exact Maps.has_true_of_atKey (y:=.held v) fun z=>by rw[h,hk]
theorem Cx.look2{w:World}{b n:Nat}{f:Rk->Option Value}(h:Cx w b n f){t e:TypeId}(ht:prog.underlying t=some (.map 108 e)){z:Value}(hz:(zeroValue e).run prog w=.ok z w){k:Rk}(hk:Fm k):
 (Instr.lookup t (.map (some b)) (JX k) true).run prog w=.ok (.tuple #[(f k).getD z,.bool (f k).isSome]) w:=by
 obtain⟨D,h1,h2⟩:=h;obtain⟨v,ps,hrun,hv⟩:=h1.look_ok Zs ht hz (zd:=.held z) (zp:=[]) rfl (EL hk);rw[hrun,Cx.has (h2 k hk)];simp only[hRI,Option.some.injEq,Prod.mk.injEq,h2 k hk]at hv;obtain⟨hv,-⟩:=hv;cases hf:f k with
 |none=>rw[hf]at hv;simp only[DataW.held.injEq]at hv;rw[hv];rfl
 |some u=>rw[hf]at hv;simp only[DataW.held.injEq]at hv;rw[hv];rfl
theorem Cx.del{w:World}{b n:Nat}{f:Rk->Option Value}(h:Cx w b n f){t e:TypeId}(ht:prog.underlying t=some (.map 108 e)){k:Rk}(hk:Fm k)(ty:TypeId):
 ∃w',(Builtin.delete_ #[t,108] ty #[.map (some b),JX k]).run prog w=.ok (.tuple #[]) w'/\Cx w' b n (fun q=>if q=k then none else f q)/\w.mapTurned w' b:=by
 obtain⟨D,h1,h2⟩:=h;obtain⟨w',hrun,r1,r2⟩:=h1.drop Zs ht (EL hk) ty;refine⟨w',hrun,⟨_,r1,fun j hj zd=>?_⟩,r2⟩;by_cases e:j=k
 ·subst e;rw[Maps.atKey_del_same];simp
 ·rw[Maps.atKey_del_other (fun he=>e (MQ hj hk he)),h2 j hj];simp only[if_neg e]
end
end Go.Proofs.YtcdpmgldkibfiaaGreat
