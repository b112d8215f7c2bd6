import Derived.Test.YtcdpmgldkibfiaaGreatCln5
import Derived.Test.YtcdpmgldkibfiaaGreatCln7
import Derived.Test.YtcdpmgldkibfiaaGreatCln1
import Derived.Deep.RegionHeld3
import Derived.Deep.DeepCutAuto
import Derived.Handy
import Derived.Deep.OwnRows
import Derived.OwnWalk
import Derived.Deep.QuietTactic
import Derived.BigQuiet
import Derived.Deep.AppendLies
import Derived.Test.YtcdpmgldkibfiaaGreatCln8
import Derived.DeepKeys4
namespace Go.Proofs.YtcdpmgldkibfiaaGreat
open Go.RowKit Go.Proofs.Tryz
set_option linter.all false
set_option maxRecDepth 100000
set_option maxHeartbeats 16000000
theorem PY(op:Int)(h:Ak op=false)(w:World):Calls prog 77 #[.int .i64 op] w fun e w'=>e=.returned (.tuple #[DJ ⟨0,0,0,0,0⟩,.bool false])/\Below w.heap.size w w':=by
 have hh:op<1\/37<op:=by unfold Ak at h;simp at h;omega
 have e1:(op==1)=false:=by have:op≠1:=oM;simpa using this
 have e2:(op==2)=false:=by have:op≠2:=oM;simpa using this
 have e3:(op==3)=false:=by have:op≠3:=oM;simpa using this
 have e4:(op==4)=false:=by have:op≠4:=oM;simpa using this
 have e5:(op==5)=false:=by have:op≠5:=oM;simpa using this
 have e6:(op==6)=false:=by have:op≠6:=oM;simpa using this
 have e7:(op==7)=false:=by have:op≠7:=oM;simpa using this
 have e8:(op==8)=false:=by have:op≠8:=oM;simpa using this
 have e9:(op==9)=false:=by have:op≠9:=oM;simpa using this
 have e10:(op==10)=false:=by have:op≠10:=oM;simpa using this
 have e11:(op==11)=false:=by have:op≠11:=oM;simpa using this
 have e12:(op==12)=false:=by have:op≠12:=oM;simpa using this
 have e13:(op==13)=false:=by have:op≠13:=oM;simpa using this
 have e14:(op==14)=false:=by have:op≠14:=oM;simpa using this
 have e15:(op==15)=false:=by have:op≠15:=oM;simpa using this
 have e16:(op==16)=false:=by have:op≠16:=oM;simpa using this
 have e17:(op==17)=false:=by have:op≠17:=oM;simpa using this
 have e18:(op==18)=false:=by have:op≠18:=oM;simpa using this
 have e19:(op==19)=false:=by have:op≠19:=oM;simpa using this
 have e20:(op==20)=false:=by have:op≠20:=oM;simpa using this
 have e21:(op==21)=false:=by have:op≠21:=oM;simpa using this
 have e22:(op==22)=false:=by have:op≠22:=oM;simpa using this
 have e23:(op==23)=false:=by have:op≠23:=oM;simpa using this
 have e24:(op==24)=false:=by have:op≠24:=oM;simpa using this
 have e25:(op==25)=false:=by have:op≠25:=oM;simpa using this
 have e26:(op==26)=false:=by have:op≠26:=oM;simpa using this
 have e27:(op==27)=false:=by have:op≠27:=oM;simpa using this
 have e28:(op==28)=false:=by have:op≠28:=oM;simpa using this
 have e29:(op==29)=false:=by have:op≠29:=oM;simpa using this
 have e30:(op==30)=false:=by have:op≠30:=oM;simpa using this
 have e31:(op==31)=false:=by have:op≠31:=oM;simpa using this
 have e32:(op==32)=false:=by have:op≠32:=oM;simpa using this
 have e33:(op==33)=false:=by have:op≠33:=oM;simpa using this
 have e34:(op==34)=false:=by have:op≠34:=oM;simpa using this
 have e35:(op==35)=false:=by have:op≠35:=oM;simpa using this
 have e36:(op==36)=false:=by have:op≠36:=oM;simpa using this
 have e37:(op==37)=false:=by have:op≠37:=oM;simpa using this
 clear hh h;exact FD
theorem Ho(op:Int)(h:Ak op=false):A4 op=⟨0,0,0,0,0⟩:=by
 have hh:op<1\/37<op:=by unfold Ak at h;simp at h;omega
 unfold A4
 repeat rw[if_neg oM]
theorem Ik(op:Int)(w:World):Calls prog 77 #[.int .i64 op] w fun e w'=>e=.returned (.tuple #[DJ (A4 op),.bool (Ak op)])/\Below w.heap.size w w':=by
 by_cases h:Ak op=false
 ·rw[h,Ho op h];exact PY op h w
 ·have hh:1<=op/\op<=37:=by unfold Ak at h;simp at h;omega
  rw[show Ak op=true by simpa using h];clear h;by_cases k1:op=1
  ·subst k1;exact YN w
  by_cases k2:op=2
  ·subst k2;exact YO w
  by_cases k3:op=3
  ·subst k3;exact YP w
  by_cases k4:op=4
  ·subst k4;exact YQ w
  by_cases k5:op=5
  ·subst k5;exact YR w
  by_cases k6:op=6
  ·subst k6;exact YS w
  by_cases k7:op=7
  ·subst k7;exact YT w
  by_cases k8:op=8
  ·subst k8;exact YU w
  by_cases k9:op=9
  ·subst k9;exact YV w
  by_cases k10:op=10
  ·subst k10;exact Vn w
  by_cases k11:op=11
  ·subst k11;exact Vo w
  by_cases k12:op=12
  ·subst k12;exact Vp w
  by_cases k13:op=13
  ·subst k13;exact Vq w
  by_cases k14:op=14
  ·subst k14;exact Vr w
  by_cases k15:op=15
  ·subst k15;exact Vt w
  by_cases k16:op=16
  ·subst k16;exact Vu w
  by_cases k17:op=17
  ·subst k17;exact Vv w
  by_cases k18:op=18
  ·subst k18;exact Vw w
  by_cases k19:op=19
  ·subst k19;exact Vx w
  by_cases k20:op=20
  ·subst k20;exact Vy w
  by_cases k21:op=21
  ·subst k21;exact Vz w
  by_cases k22:op=22
  ·subst k22;exact VA w
  by_cases k23:op=23
  ·subst k23;exact VB w
  by_cases k24:op=24
  ·subst k24;exact VC w
  by_cases k25:op=25
  ·subst k25;exact VD w
  by_cases k26:op=26
  ·subst k26;exact VE w
  by_cases k27:op=27
  ·subst k27;exact VF w
  by_cases k28:op=28
  ·subst k28;exact VG w
  by_cases k29:op=29
  ·subst k29;exact VH w
  by_cases k30:op=30
  ·subst k30;exact VI w
  by_cases k31:op=31
  ·subst k31;exact VJ w
  by_cases k32:op=32
  ·subst k32;exact VK w
  by_cases k33:op=33
  ·subst k33;exact VM w
  by_cases k34:op=34
  ·subst k34;exact VN w
  by_cases k35:op=35
  ·subst k35;exact VO w
  by_cases k36:op=36
  ·subst k36;exact VP w
  by_cases k37:op=37
  ·subst k37;exact VQ w
  omega
theorem VR{op:Int}(h:(A4 op).n=9):((op=29\/op=30)/\(A4 op).d=3)\/(op=31/\(A4 op).d=0/\(A4 op).a=3):=by
 have key:∀k:Fin 38,(A4 (k.val:Int)).n=9->k.val=29\/k.val=30\/k.val=31:=by decide+kernel
 by_cases hk:Ak op=true
 ·have hh:1<=op/\op<=37:=by unfold Ak at hk;simp at hk;exact hk
  have e:((⟨op.toNat,oM⟩:Fin 38).val:Int)=op:=by show((op.toNat:Nat):Int)=op;omega
  have:=key ⟨op.toNat,oM⟩ (by rw[e];exact h);simp only at this;rcases this with h1|h1|h1
  ·have:op=29:=oM;subst this;exact .inl ⟨.inl rfl,rfl⟩
  ·have:op=30:=oM;subst this;exact .inl ⟨.inr rfl,rfl⟩
  ·have:op=31:=oM;subst this;exact .inr ⟨rfl,rfl,rfl⟩
 ·rw[Ho op (by simpa using hk)]at h;exact absurd h dE
theorem JV{c:Cd}{n:Int}{m:Ty}(ht:As c=true)(h:Ag c.regs 3 n m=true):Av (A7 c.regs n).par c.sign.length=true:=by
 unfold Ag at h;rw[if_neg dE]at h;simp only[Bool.and_eq_true]at h;obtain⟨h1,h2⟩:=h;obtain⟨k,hk,hl⟩:=Dq h1;rw[Fm hk hl]at h2 ⊢;have hm:c.regs[k].kind=3:=by
  unfold B7 at h2;rw[if_neg dE,if_neg dE,if_pos rfl]at h2;simpa using h2
 have:=List.all_eq_true.1 ht c.regs[k] (List.getElem_mem hl);unfold AA at this;rw[if_neg oM,if_pos hm]at this;exact this
theorem Sx{c:Cd}{i:Ac}(ht:As c=true)(hd:Ag c.regs (A4 i.op).d i.d (AB c.regs i (A4 i.op))=true)(ha:Ag c.regs (A4 i.op).a i.a (AB c.regs i (A4 i.op))=true)(h9:(A4 i.op).n=9):Av (AB c.regs i (A4 i.op)).par c.sign.length=true:=by
 rcases VR h9 with⟨_,e⟩|⟨_,e,e2⟩
 ·rw[e]at hd;have:=JV ht hd;unfold AB Ex;rw[e,if_neg dE];exact this
 ·rw[e2]at ha;have:=JV ht ha;unfold AB Ex;rw[e,if_pos rfl];exact this
theorem JU{c:Cd}{i:Ac}{r:Rw}(h:AJ c i r=true):∀x∈Ab i r,0<=x/\x<(c.regs.length:Int):=by
 intro x hx;unfold Ab at hx;rcases List.mem_append.1 hx with hx|hx
 ·by_cases e:r.a=0
  ·rw[if_pos e]at hx;cases hx
  ·rw[if_neg e]at hx;simp at hx;subst hx;exact Ae (BD h) e
 rcases List.mem_append.1 hx with hx|hx
 ·by_cases e:r.b=0
  ·rw[if_pos e]at hx;cases hx
  ·rw[if_neg e]at hx;simp at hx;subst hx;exact Ae (DR h) e
 ·by_cases e:r.c=0
  ·rw[if_pos e]at hx;cases hx
  ·rw[if_neg e]at hx;simp at hx;subst hx;exact Ae (DS h) e
theorem SP(i:Ac)(r:Rw):(Ab i r).length<=3:=by
 rw[Hh];simp only[List.length_append];have:=If r.a i.a;have:=If r.b i.b;have:=If r.c i.c;omega
theorem Oy{c:Cd}{s:Wk}{i:Ac}{r:Rw}(h:At c s i r=true)(e:i.op=35\/i.op=37):s.opens≠[]:=by
 unfold At at h;rw[if_neg oM]at h;intro hO;rcases e with e|e
 ·rw[if_pos e,hO]at h;simp at h
 ·rw[if_neg oM,if_pos e]at h;unfold Aj at h;rw[hO]at h;cases h
structure TK(w:World)(H G C:Nat)(L0 L1 L2 L3 L4:Int)(v:World):Prop where
 bel:Below w.heap.size w v
 r0:v.cell? ⟨H,0,none⟩=some (.int .i64 L0)
 r1:v.cell? ⟨H,1,none⟩=some (.int .i64 L1)
 r2:v.cell? ⟨H,2,none⟩=some (.int .i64 L2)
 r3:v.cell? ⟨H,3,none⟩=some (.int .i64 L3)
 r4:v.cell? ⟨H,4,none⟩=some (.int .i64 L4)
 g0:v.cell? ⟨G,0,none⟩=some (.pointer (some ⟨C,0,none⟩))
theorem TK.next{w:World}{H G C:Nat}{L0 L1 L2 L3 L4:Int}{v v':World}(h:TK w H G C L0 L1 L2 L3 L4 v)(k:Below v.heap.size v v'):TK w H G C L0 L1 L2 L3 L4 v':=
 ⟨Go.Proofs.YtcdpmgldkibfiaaGreat.bel h.bel k,kc k h.r0,kc k h.r1,kc k h.r2,kc k h.r3,kc k h.r4,kc k h.g0⟩
theorem OE(E G C n gi:Nat)(vs vo:Value)(s:Wk)(v0 v1 v2 v3:Value)(c:Cd)(hk:Ba c)(b o:Nat)(i:Ac)(w:World)(h:WS E G C n gi vs vo w s)(hnn:c.regs.length=n)(ok:DQ n s)(hn:n<=16384)(hc:Ck w C v0 v1 v2 v3 c)(hi:Ai w b o (E0 i))(hbE:b<E)(htm:As c=true)(hb0:0<=i.bits)(hb1:i.bits<4294967296):
 Calls prog 50 #[.pointer (some ⟨G,0,none⟩),.pointer (some ⟨b,o,none⟩)] w fun e w'=>e=.returned (.bool (Aq c s i))/\Below E w w'/\(Aq c s i=true->∃vs' vo',WS E G C n gi vs' vo' w' (Af s i)):=by
 have K1:=Ik i.op w;have K2:=fun v h1 h2=>Uy C v0 v1 v2 v3 c hk b o i (A4 i.op) v h1 h2 hb0 hb1 (Sx htm);have K3:=fun v h1 h2 h3=>Mu E G C n gi vs vo s v0 v1 v2 v3 c hk b o i (A4 i.op) v h1 ok.nest h2 h3;have K4:=fun v h1=>GJ b o i (A4 i.op) v h1;have K5:=fun(hf:AJ c i (A4 i.op)=true) (hs:At c s i (A4 i.op)=true) v h1 h2=>Va E G C n gi vs vo s b o i (A4 i.op) v h1 ok hn h2 hbE (GL hs) (Oy hs) (fun hd=>by have:=Ae (Du hf) hd;rw[hnn]at this;exact this);have KL:AJ c i (A4 i.op)=true->∀x∈Ab i (A4 i.op),0<=x/\x<(n:Int):=fun hf=>by have:=JU hf;rw[hnn]at this;exact this
 have KN:=SP i (A4 i.op);have HC0:Hid (Ck w C v0 v1 v2 v3 c):=hc;have HI0:Hid (Ai w b o (E0 i)):=hi;have HS0:Hid (WS E G C n gi vs vo w s):=h;have e0:=hi.at 0 rfl;rw[Nat.add_zero]at e0;have hE:=h.lt;have g0:=h.c0;unfold Aq Af;have hro:Dr s i (A4 i.op)=(Ab i (A4 i.op)).all fun n=>decide (n.toNat∈s.set):=rfl;rw[hro];obtain⟨op,hop⟩:∃x,i.op=x:=⟨_,rfl⟩
 rw[hop]at K1 K2 K3 K4 K5 KL KN e0 ⊢;obtain⟨r,hr⟩:∃r,A4 op=r:=⟨_,rfl⟩
 simp only[hr]at K1 K2 K3 K4 K5 KL KN ⊢;obtain⟨X0,hX0⟩:∃X,Ak op=X:=⟨_,rfl⟩
 obtain⟨X1,hX1⟩:∃X,AJ c i r=X:=⟨_,rfl⟩
 obtain⟨X2,hX2⟩:∃X,At c s i r=X:=⟨_,rfl⟩
 obtain⟨RL,hRL⟩:∃X,Ab i r=X:=⟨_,rfl⟩
 obtain⟨Z,hZ⟩:∃Z,Di s i r=Z:=⟨_,rfl⟩
 obtain⟨AL,hAL⟩:∃X,((Ab i r).all fun n=>decide (n.toNat∈s.set))=X:=⟨_,rfl⟩
 rw[hAL];simp only[hX0]at K1 ⊢;simp only[hX1]at K2 K5 KL ⊢;simp only[hX2]at K3 K5 ⊢;simp only[hRL]at K4 KL KN;rw[hRL]at hAL;have HAL:Hid ((RL.all fun n=>decide (n.toNat∈s.set))=AL):=hAL;simp only[hZ]at K5 ⊢;obtain⟨L0,L1,L2,L3,L4⟩:=r;unfold DJ at K1 K2 K3 K4 K5;simp only at K1 K2 K3 K4 K5;have HK1:Hid (Calls prog 77 #[.int .i64 op] w fun e w'=>e=.returned (.tuple #[.agg #[.int .i64 L0,.int .i64 L1,.int .i64 L2,.int .i64 L3,.int .i64 L4],.bool X0])/\Below w.heap.size w w'):=K1;have HK2:Hid (∀v,Ck v C v0 v1 v2 v3 c->Ai v b o (E0 i)->Calls prog 78 #[.pointer (some ⟨C,0,none⟩),.pointer (some ⟨b,o,none⟩),.agg #[.int .i64 L0,.int .i64 L1,.int .i64 L2,.int .i64 L3,.int .i64 L4]] v fun e w'=>e=.returned (.bool X1)/\Below v.heap.size v w'):=K2;have HK3:Hid (∀v,WS E G C n gi vs vo v s->Ck v C v0 v1 v2 v3 c->Ai v b o (E0 i)->Calls prog 79 #[.pointer (some ⟨G,0,none⟩),.pointer (some ⟨b,o,none⟩),.agg #[.int .i64 L0,.int .i64 L1,.int .i64 L2,.int .i64 L3,.int .i64 L4]] v fun e w'=>e=.returned (.bool X2)/\Below v.heap.size v w'):=K3;have HK4:Hid (∀v,Ai v b o (E0 i)->Calls prog 80 #[.agg #[.int .i64 L0,.int .i64 L1,.int .i64 L2,.int .i64 L3,.int .i64 L4],.pointer (some ⟨b,o,none⟩)] v fun e w'=>∃u,e=.returned u/\w'.ownsRow v.heap.size 3 1 u RL.length (BQ RL)/\Below v.heap.size v w'):=K4;have HK5:Hid (X1=true->X2=true->∀v,WS E G C n gi vs vo v s->Ai v b o (E0 i)->Calls prog 81 #[.pointer (some ⟨G,0,none⟩),.pointer (some ⟨b,o,none⟩),.agg #[.int .i64 L0,.int .i64 L1,.int .i64 L2,.int .i64 L3,.int .i64 L4]] v fun e w'=>e=.returned (.tuple #[])/\Below E v w'/\∃vs' vo',WS E G C n gi vs' vo' w' Z):=K5;have HKL:Hid (X1=true->∀x∈RL,0<=x/\x<(n:Int)):=KL;clear K1 K2 K3 K4 K5 KL h hc hi hk hro hop hr hX0 hX1 hX2 hRL hZ hAL hb0 hb1 htm ok hnn;cases X0
 ·go_enter func50,ntmps50;go_wp2_with(go_at_call 77;refine HK1.out.mono ?_;rintro e w1 ⟨rfl,hw1⟩;have HT:Hid (TK w w1.heap.size G C L0 L1 L2 L3 L4 (w1.alloc (.cells #[.int .i64 L0,.int .i64 L1,.int .i64 L2,.int .i64 L3,.int .i64 L4] 146))):=Zfq);have HCX:Hid (∀v,Below (w1.alloc (.cells #[.int .i64 L0,.int .i64 L1,.int .i64 L2,.int .i64 L3,.int .i64 L4] 146)).heap.size (w1.alloc (.cells #[.int .i64 L0,.int .i64 L1,.int .i64 L2,.int .i64 L3,.int .i64 L4] 146)) v->v.cell? ⟨G,0,none⟩=some (.pointer (some ⟨C,0,none⟩))/\v.cell? ⟨w1.heap.size,0,none⟩=some (.int .i64 L0)/\v.cell? ⟨w1.heap.size,1,none⟩=some (.int .i64 L1)/\v.cell? ⟨w1.heap.size,2,none⟩=some (.int .i64 L2)/\v.cell? ⟨w1.heap.size,3,none⟩=some (.int .i64 L3)/\v.cell? ⟨w1.heap.size,4,none⟩=some (.int .i64 L4)):=fun v hv=>⟨(HT.out.next hv).g0,(HT.out.next hv).r0,(HT.out.next hv).r1,(HT.out.next hv).r2,(HT.out.next hv).r3,(HT.out.next hv).r4⟩;obtain⟨t0,t1,t2,t3,t4,t5⟩:=HCX.out _ (Be _);refine rG (fun v=>v.cell? ⟨G,0,none⟩=some (.pointer (some ⟨C,0,none⟩))/\v.cell? ⟨w1.heap.size,0,none⟩=some (.int .i64 L0)/\v.cell? ⟨w1.heap.size,1,none⟩=some (.int .i64 L1)/\v.cell? ⟨w1.heap.size,2,none⟩=some (.int .i64 L2)/\v.cell? ⟨w1.heap.size,3,none⟩=some (.int .i64 L3)/\v.cell? ⟨w1.heap.size,4,none⟩=some (.int .i64 L4)) fun hHeld=>?_;refine Tc 0 1 2 ?_;refine Kd 3 4 5 6 ?_;refine Kd 7 8 9 10 ?_;refine Tb 11 12 ?_;refine Kd 13 14 15 16 ?_;refine Da 17 ?_;refine Bq 18 ?_;refine wpAnyH_done kR ?_ _;go_wp2;go_ret;exact⟨rfl,(bel HT.out.bel (A6 _)).mono hE,fun e=>absurd e sM⟩
 cases X1
 ·go_enter func50,ntmps50;go_wp2_with(go_at_call 77;refine HK1.out.mono ?_;rintro e w1 ⟨rfl,hw1⟩;have HT:Hid (TK w w1.heap.size G C L0 L1 L2 L3 L4 (w1.alloc (.cells #[.int .i64 L0,.int .i64 L1,.int .i64 L2,.int .i64 L3,.int .i64 L4] 146))):=Zfq);have HCX:Hid (∀v,Below (w1.alloc (.cells #[.int .i64 L0,.int .i64 L1,.int .i64 L2,.int .i64 L3,.int .i64 L4] 146)).heap.size (w1.alloc (.cells #[.int .i64 L0,.int .i64 L1,.int .i64 L2,.int .i64 L3,.int .i64 L4] 146)) v->v.cell? ⟨G,0,none⟩=some (.pointer (some ⟨C,0,none⟩))/\v.cell? ⟨w1.heap.size,0,none⟩=some (.int .i64 L0)/\v.cell? ⟨w1.heap.size,1,none⟩=some (.int .i64 L1)/\v.cell? ⟨w1.heap.size,2,none⟩=some (.int .i64 L2)/\v.cell? ⟨w1.heap.size,3,none⟩=some (.int .i64 L3)/\v.cell? ⟨w1.heap.size,4,none⟩=some (.int .i64 L4)):=fun v hv=>⟨(HT.out.next hv).g0,(HT.out.next hv).r0,(HT.out.next hv).r1,(HT.out.next hv).r2,(HT.out.next hv).r3,(HT.out.next hv).r4⟩;obtain⟨t0,t1,t2,t3,t4,t5⟩:=HCX.out _ (Be _);refine rG (fun v=>v.cell? ⟨G,0,none⟩=some (.pointer (some ⟨C,0,none⟩))/\v.cell? ⟨w1.heap.size,0,none⟩=some (.int .i64 L0)/\v.cell? ⟨w1.heap.size,1,none⟩=some (.int .i64 L1)/\v.cell? ⟨w1.heap.size,2,none⟩=some (.int .i64 L2)/\v.cell? ⟨w1.heap.size,3,none⟩=some (.int .i64 L3)/\v.cell? ⟨w1.heap.size,4,none⟩=some (.int .i64 L4)) fun hHeld=>?_;refine Tf 0 1 2 3 4 5 ?_;refine Tc 6 7 8 ?_;clear hHeld;refine AC 9 fun K hK=>?_;go_simp;(go_at_call 78;refine(HK2.out _ (HC0.out.below (bel HT.out.bel (A6 _))) (HI0.out.below (bel HT.out.bel (A6 _)))).mono ?_;rintro e w2 ⟨rfl,hw2⟩;have HB2:=bel (A6 _) hw2;obtain⟨y0,y1,y2,y3,y4,y5⟩:=HCX.out w2 HB2);try(go_wp2_with fail)
  refine Ax hK fun hHeld=>?_;clear hK K;refine Tc 10 11 12 ?_;refine Kd 13 14 15 16 ?_;refine Da 17 ?_;refine Bq 18 ?_;refine wpAnyH_done kR ?_ _;go_wp2;go_ret;exact⟨rfl,(bel HT.out.bel HB2).mono hE,fun e=>absurd e sM⟩
 cases X2
 ·go_enter func50,ntmps50;go_wp2_with(go_at_call 77;refine HK1.out.mono ?_;rintro e w1 ⟨rfl,hw1⟩;have HT:Hid (TK w w1.heap.size G C L0 L1 L2 L3 L4 (w1.alloc (.cells #[.int .i64 L0,.int .i64 L1,.int .i64 L2,.int .i64 L3,.int .i64 L4] 146))):=Zfq);have HCX:Hid (∀v,Below (w1.alloc (.cells #[.int .i64 L0,.int .i64 L1,.int .i64 L2,.int .i64 L3,.int .i64 L4] 146)).heap.size (w1.alloc (.cells #[.int .i64 L0,.int .i64 L1,.int .i64 L2,.int .i64 L3,.int .i64 L4] 146)) v->v.cell? ⟨G,0,none⟩=some (.pointer (some ⟨C,0,none⟩))/\v.cell? ⟨w1.heap.size,0,none⟩=some (.int .i64 L0)/\v.cell? ⟨w1.heap.size,1,none⟩=some (.int .i64 L1)/\v.cell? ⟨w1.heap.size,2,none⟩=some (.int .i64 L2)/\v.cell? ⟨w1.heap.size,3,none⟩=some (.int .i64 L3)/\v.cell? ⟨w1.heap.size,4,none⟩=some (.int .i64 L4)):=fun v hv=>⟨(HT.out.next hv).g0,(HT.out.next hv).r0,(HT.out.next hv).r1,(HT.out.next hv).r2,(HT.out.next hv).r3,(HT.out.next hv).r4⟩;obtain⟨t0,t1,t2,t3,t4,t5⟩:=HCX.out _ (Be _);refine rG (fun v=>v.cell? ⟨G,0,none⟩=some (.pointer (some ⟨C,0,none⟩))/\v.cell? ⟨w1.heap.size,0,none⟩=some (.int .i64 L0)/\v.cell? ⟨w1.heap.size,1,none⟩=some (.int .i64 L1)/\v.cell? ⟨w1.heap.size,2,none⟩=some (.int .i64 L2)/\v.cell? ⟨w1.heap.size,3,none⟩=some (.int .i64 L3)/\v.cell? ⟨w1.heap.size,4,none⟩=some (.int .i64 L4)) fun hHeld=>?_;refine Tf 0 1 2 3 4 5 ?_;refine Tc 6 7 8 ?_;clear hHeld;refine AC 9 fun K hK=>?_;go_simp;(go_at_call 78;refine(HK2.out _ (HC0.out.below (bel HT.out.bel (A6 _))) (HI0.out.below (bel HT.out.bel (A6 _)))).mono ?_;rintro e w2 ⟨rfl,hw2⟩;have HB2:=bel (A6 _) hw2;obtain⟨y0,y1,y2,y3,y4,y5⟩:=HCX.out w2 HB2);try(go_wp2_with fail)
  refine Ax hK fun hHeld=>?_;clear hK K;refine Tf 10 11 12 13 14 15 ?_;clear hHeld;refine AC 16 fun K hK=>?_;go_simp;(go_at_call 79;refine(HK3.out _ (HS0.out.below (bel HT.out.bel HB2)) (HC0.out.below (bel HT.out.bel HB2)) (HI0.out.below (bel HT.out.bel HB2))).mono ?_;rintro e w3 ⟨rfl,hw3⟩;have HB3:=bel HB2 hw3;obtain⟨y0,y1,y2,y3,y4,y5⟩:=HCX.out w3 HB3);try(go_wp2_with fail)
  refine Ax hK fun hHeld=>?_;clear hK K;refine Tb 17 18 ?_;refine wpAnyH_done kR ?_ _;go_wp2;go_ret;exact⟨rfl,(bel HT.out.bel HB3).mono hE,fun e=>absurd e sM⟩
 go_enter func50,ntmps50;go_wp2_with(go_at_call 77;refine HK1.out.mono ?_;rintro e w1 ⟨rfl,hw1⟩;have HT:Hid (TK w w1.heap.size G C L0 L1 L2 L3 L4 (w1.alloc (.cells #[.int .i64 L0,.int .i64 L1,.int .i64 L2,.int .i64 L3,.int .i64 L4] 146))):=Zfq);have HCX:Hid (∀v,Below (w1.alloc (.cells #[.int .i64 L0,.int .i64 L1,.int .i64 L2,.int .i64 L3,.int .i64 L4] 146)).heap.size (w1.alloc (.cells #[.int .i64 L0,.int .i64 L1,.int .i64 L2,.int .i64 L3,.int .i64 L4] 146)) v->v.cell? ⟨G,0,none⟩=some (.pointer (some ⟨C,0,none⟩))/\v.cell? ⟨w1.heap.size,0,none⟩=some (.int .i64 L0)/\v.cell? ⟨w1.heap.size,1,none⟩=some (.int .i64 L1)/\v.cell? ⟨w1.heap.size,2,none⟩=some (.int .i64 L2)/\v.cell? ⟨w1.heap.size,3,none⟩=some (.int .i64 L3)/\v.cell? ⟨w1.heap.size,4,none⟩=some (.int .i64 L4)):=fun v hv=>⟨(HT.out.next hv).g0,(HT.out.next hv).r0,(HT.out.next hv).r1,(HT.out.next hv).r2,(HT.out.next hv).r3,(HT.out.next hv).r4⟩;obtain⟨t0,t1,t2,t3,t4,t5⟩:=HCX.out _ (Be _);refine rG (fun v=>v.cell? ⟨G,0,none⟩=some (.pointer (some ⟨C,0,none⟩))/\v.cell? ⟨w1.heap.size,0,none⟩=some (.int .i64 L0)/\v.cell? ⟨w1.heap.size,1,none⟩=some (.int .i64 L1)/\v.cell? ⟨w1.heap.size,2,none⟩=some (.int .i64 L2)/\v.cell? ⟨w1.heap.size,3,none⟩=some (.int .i64 L3)/\v.cell? ⟨w1.heap.size,4,none⟩=some (.int .i64 L4)) fun hHeld=>?_;refine Tf 0 1 2 3 4 5 ?_;refine Tc 6 7 8 ?_;clear hHeld;refine AC 9 fun K hK=>?_;go_simp;(go_at_call 78;refine(HK2.out _ (HC0.out.below (bel HT.out.bel (A6 _))) (HI0.out.below (bel HT.out.bel (A6 _)))).mono ?_;rintro e w2 ⟨rfl,hw2⟩;have HB2:=bel (A6 _) hw2;obtain⟨y0,y1,y2,y3,y4,y5⟩:=HCX.out w2 HB2);try(go_wp2_with fail)
 refine Ax hK fun hHeld=>?_;clear hK K;refine Tf 10 11 12 13 14 15 ?_;clear hHeld;refine AC 16 fun K hK=>?_;go_simp;(go_at_call 79;refine(HK3.out _ (HS0.out.below (bel HT.out.bel HB2)) (HC0.out.below (bel HT.out.bel HB2)) (HI0.out.below (bel HT.out.bel HB2))).mono ?_;rintro e w3 ⟨rfl,hw3⟩;have HB3:=bel HB2 hw3;obtain⟨y0,y1,y2,y3,y4,y5⟩:=HCX.out w3 HB3);try(go_wp2_with fail)
 refine Ax hK fun hHeld=>?_;clear hK K;refine Tb 17 18 ?_;refine wpAnyH_done kR ?_ _;have HT3:Hid (TK w w1.heap.size G C L0 L1 L2 L3 L4 w3):=HT.out.next HB3;clear HB2 HB3 hw2 hw3;go_wp2_with(go_at_call 80;refine(HK4.out _ (HI0.out.below HT3.out.bel)).mono ?_;rintro e w4 ⟨u,rfl,hu,hw4⟩;obtain⟨pu,cu,hue⟩:=AK hu;subst hue;have HU:Hid (w4.ownsRow w3.heap.size 3 1 (.slice pu RL.length cu) RL.length (BQ RL)):=hu;have HT4:Hid (TK w w1.heap.size G C L0 L1 L2 L3 L4 w4):=HT3.out.next hw4;clear hu hw4);have HSW:Hid (WS E G C n gi vs vo w4 s):=HS0.out.below HT4.out.bel;have k0:=HT4.out.r0;have k1:=HT4.out.r1;have k2:=HT4.out.r2;have k3:=HT4.out.r3;have k4:=HT4.out.r4;have HFX:Hid (∀j (hj:j<RL.length),∃ (gu x:Nat),pu=some ⟨gu,0,none⟩/\w4.cell? ⟨gu,j,none⟩=some (.int .i64 (x:Int))/\x<n/\w4.cell? ⟨gi,x,none⟩=some (.bool (decide (x∈s.set)))/\decide (x∈s.set)=decide (RL[j].toNat∈s.set)):=fun j hj=>by
  obtain⟨gu,cap,hv,_,_,_,_,hcl⟩:=Ee HU.out oM;simp only[Value.slice.injEq]at hv;have hx:=HKL.out fT RL[j] (List.getElem_mem hj);refine⟨gu,RL[j].toNat,hv.1,?_,oM,HSW.out.i.cell oM,rfl⟩;rw[show((RL[j].toNat:Nat):Int)=RL[j] by omega];exact hcl j _ (by simp[BQ,List.getElem?_eq_getElem hj])
 have d1:=HSW.out.c1;obtain⟨M,hM⟩:∃M,RL.length=M:=⟨_,rfl⟩
 have HM:Hid (RL.length=M):=hM;rw[hM]at KN ⊢;clear hM
 go_loopw [40] (fun iv wr=>wr=w4/\∃j:Nat,j<=M/\iv=.int .i64 j/\Hid (∀i (h:i<RL.length),i<j->decide (RL[i].toNat∈s.set)=true)) (fun iv _=>M-(intOf iv).toNat)
 case atStart=>exact⟨rfl,0,Nat.zero_le _,rfl,fun i h hi=>absurd hi (Nat.not_lt_zero _)⟩
 case round=>
  clear HT HT3 HCX t0 t1 t2 t3 t4 t5 y0 y1 y2 y3 y4 y5;obtain⟨rfl,j,hj,rfl,hp⟩:=hrel;by_cases hlt:j<M
  ·have hll:j<RL.length:=by rw[HM.out];exact hlt
   obtain⟨gu,x,rfl,a1,a2,a3,a4⟩:=HFX.out j hll;have NX:Hid (decide (RL[j].toNat∈s.set)=true->∀i (h:i<RL.length),i<j+1->decide (RL[i].toNat∈s.set)=true):=fun hq i h hi=>by
    exact Zy
   have NB:Hid (decide (RL[j].toNat∈s.set)=false->(RL.all fun n=>decide (n.toNat∈s.set))=false):=fun h=>List.all_eq_false.2 ⟨RL[j],List.getElem_mem hll,by rw[h];decide⟩;rw[←a4]at NX NB;have i1:(0:Int)<=(j:Int):=oM;have i2:(j:Int)<(M:Int):=oM;have i3:(0:Int)<=(x:Int):=oM;have i4:(x:Int)<(n:Int):=oM;obtain⟨Y,hY⟩:∃Y,decide (x∈s.set)=Y:=⟨_,rfl⟩
   rw[hY]at NX NB a3;clear hp hY a4 HFX HU;cases Y
   ·go_wp2;go_ret;have hF:AL=false:=by rw[←HAL.out];exact NB.out fT
    exact⟨by rw[hF];rfl,HT4.out.bel.mono hE,fun e=>absurd e (by simp[hF])⟩
   ·go_wp2;go_roundw
    case rel=>exact⟨fT,j+1,oM,gN,NX.out fT⟩
    case measure=>simp[intOf];omega
  ·have:j=M:=oM;subst this;have HF:Hid ((RL.all fun n=>decide (n.toNat∈s.set))=true):=List.all_eq_true.2 fun t ht=>by
    obtain⟨i,hi,rfl⟩:=List.mem_iff_getElem.1 ht;exact hp.out i hi (by rw[←HM.out];exact hi)
   clear hp;go_wp2_with(go_at_call 81;refine(HK5.out fT fT _ HSW.out (HI0.out.below HT4.out.bel)).mono ?_;rintro e w6 ⟨rfl,hb6,hws⟩;have HB6:Hid (Below E wr w6):=hb6;have HWS:Hid (∃vs' vo',WS E G C n gi vs' vo' w6 Z):=hws;clear hb6 hws);go_ret;exact⟨by rw[←HAL.out,HF.out];rfl,(HT4.out.bel.mono hE).trans HB6.out,fun _=>HWS.out⟩
theorem LZ(op:Int)(h:Ak op=false)(w:World):Calls prog 63 #[.int .i64 op] w fun e w'=>e=.returned (.tuple #[.string ⟨#[]⟩,.bool false])/\w'=w:=by
 have hh:op<1\/37<op:=by unfold Ak at h;simp at h;omega
 have e1:(op==1)=false:=by have:op≠1:=oM;simpa using this
 have e2:(op==2)=false:=by have:op≠2:=oM;simpa using this
 have e3:(op==3)=false:=by have:op≠3:=oM;simpa using this
 have e4:(op==4)=false:=by have:op≠4:=oM;simpa using this
 have e5:(op==5)=false:=by have:op≠5:=oM;simpa using this
 have e6:(op==6)=false:=by have:op≠6:=oM;simpa using this
 have e7:(op==7)=false:=by have:op≠7:=oM;simpa using this
 have e8:(op==8)=false:=by have:op≠8:=oM;simpa using this
 have e9:(op==9)=false:=by have:op≠9:=oM;simpa using this
 have e10:(op==10)=false:=by have:op≠10:=oM;simpa using this
 have e11:(op==11)=false:=by have:op≠11:=oM;simpa using this
 have e12:(op==12)=false:=by have:op≠12:=oM;simpa using this
 have e13:(op==13)=false:=by have:op≠13:=oM;simpa using this
 have e14:(op==14)=false:=by have:op≠14:=oM;simpa using this
 have e15:(op==15)=false:=by have:op≠15:=oM;simpa using this
 have e16:(op==16)=false:=by have:op≠16:=oM;simpa using this
 have e17:(op==17)=false:=by have:op≠17:=oM;simpa using this
 have e18:(op==18)=false:=by have:op≠18:=oM;simpa using this
 have e19:(op==19)=false:=by have:op≠19:=oM;simpa using this
 have e20:(op==20)=false:=by have:op≠20:=oM;simpa using this
 have e21:(op==21)=false:=by have:op≠21:=oM;simpa using this
 have e22:(op==22)=false:=by have:op≠22:=oM;simpa using this
 have e23:(op==23)=false:=by have:op≠23:=oM;simpa using this
 have e24:(op==24)=false:=by have:op≠24:=oM;simpa using this
 have e25:(op==25)=false:=by have:op≠25:=oM;simpa using this
 have e26:(op==26)=false:=by have:op≠26:=oM;simpa using this
 have e27:(op==27)=false:=by have:op≠27:=oM;simpa using this
 have e28:(op==28)=false:=by have:op≠28:=oM;simpa using this
 have e29:(op==29)=false:=by have:op≠29:=oM;simpa using this
 have e30:(op==30)=false:=by have:op≠30:=oM;simpa using this
 have e31:(op==31)=false:=by have:op≠31:=oM;simpa using this
 have e32:(op==32)=false:=by have:op≠32:=oM;simpa using this
 have e33:(op==33)=false:=by have:op≠33:=oM;simpa using this
 have e34:(op==34)=false:=by have:op≠34:=oM;simpa using this
 have e35:(op==35)=false:=by have:op≠35:=oM;simpa using this
 have e36:(op==36)=false:=by have:op≠36:=oM;simpa using this
 have e37:(op==37)=false:=by have:op≠37:=oM;simpa using this
 clear hh h;exact FE
structure Xd(r:Rw)(a b c d e:UInt8):Prop where
 a:(a==45)=(r.d==0)
 b:(b==45)=(r.a==0)
 c:(c==45)=(r.b==0)
 d:(d==45)=(r.c==0)
theorem Of(op:Int)(w:World):(Ak op=false/\Calls prog 63 #[.int .i64 op] w fun e w'=>e=.returned (.tuple #[.string ⟨#[]⟩,.bool false])/\w'=w)\/(Ak op=true/\∃a b c d e:UInt8,Xd (A4 op) a b c d e/\∀w,Calls prog 63 #[.int .i64 op] w fun x w'=>x=.returned (.tuple #[.string ⟨#[a,b,c,d,e]⟩,.bool true])/\w'=w):=by
 by_cases h:Ak op=false
 ·exact .inl ⟨h,LZ op h w⟩
 ·have hh:1<=op/\op<=37:=by unfold Ak at h;simp at h;omega
  refine .inr ⟨by simpa using h,?_⟩;clear h;by_cases k1:op=1
  ·subst k1;exact⟨_,_,_,_,_,⟨rfl,rfl,rfl,rfl⟩,fun w=>VT w⟩
  by_cases k2:op=2
  ·subst k2;exact⟨_,_,_,_,_,⟨rfl,rfl,rfl,rfl⟩,fun w=>VU w⟩
  by_cases k3:op=3
  ·subst k3;exact⟨_,_,_,_,_,⟨rfl,rfl,rfl,rfl⟩,fun w=>VV w⟩
  by_cases k4:op=4
  ·subst k4;exact⟨_,_,_,_,_,⟨rfl,rfl,rfl,rfl⟩,fun w=>VW w⟩
  by_cases k5:op=5
  ·subst k5;exact⟨_,_,_,_,_,⟨rfl,rfl,rfl,rfl⟩,fun w=>VX w⟩
  by_cases k6:op=6
  ·subst k6;exact⟨_,_,_,_,_,⟨rfl,rfl,rfl,rfl⟩,fun w=>VY w⟩
  by_cases k7:op=7
  ·subst k7;exact⟨_,_,_,_,_,⟨rfl,rfl,rfl,rfl⟩,fun w=>VZ w⟩
  by_cases k8:op=8
  ·subst k8;exact⟨_,_,_,_,_,⟨rfl,rfl,rfl,rfl⟩,fun w=>W5 w⟩
  by_cases k9:op=9
  ·subst k9;exact⟨_,_,_,_,_,⟨rfl,rfl,rfl,rfl⟩,fun w=>W6 w⟩
  by_cases k10:op=10
  ·subst k10;exact⟨_,_,_,_,_,⟨rfl,rfl,rfl,rfl⟩,fun w=>R4 w⟩
  by_cases k11:op=11
  ·subst k11;exact⟨_,_,_,_,_,⟨rfl,rfl,rfl,rfl⟩,fun w=>R5 w⟩
  by_cases k12:op=12
  ·subst k12;exact⟨_,_,_,_,_,⟨rfl,rfl,rfl,rfl⟩,fun w=>R6 w⟩
  by_cases k13:op=13
  ·subst k13;exact⟨_,_,_,_,_,⟨rfl,rfl,rfl,rfl⟩,fun w=>R7 w⟩
  by_cases k14:op=14
  ·subst k14;exact⟨_,_,_,_,_,⟨rfl,rfl,rfl,rfl⟩,fun w=>R8 w⟩
  by_cases k15:op=15
  ·subst k15;exact⟨_,_,_,_,_,⟨rfl,rfl,rfl,rfl⟩,fun w=>R9 w⟩
  by_cases k16:op=16
  ·subst k16;exact⟨_,_,_,_,_,⟨rfl,rfl,rfl,rfl⟩,fun w=>Ra w⟩
  by_cases k17:op=17
  ·subst k17;exact⟨_,_,_,_,_,⟨rfl,rfl,rfl,rfl⟩,fun w=>Rb w⟩
  by_cases k18:op=18
  ·subst k18;exact⟨_,_,_,_,_,⟨rfl,rfl,rfl,rfl⟩,fun w=>Rc w⟩
  by_cases k19:op=19
  ·subst k19;exact⟨_,_,_,_,_,⟨rfl,rfl,rfl,rfl⟩,fun w=>Re w⟩
  by_cases k20:op=20
  ·subst k20;exact⟨_,_,_,_,_,⟨rfl,rfl,rfl,rfl⟩,fun w=>Rf w⟩
  by_cases k21:op=21
  ·subst k21;exact⟨_,_,_,_,_,⟨rfl,rfl,rfl,rfl⟩,fun w=>Rg w⟩
  by_cases k22:op=22
  ·subst k22;exact⟨_,_,_,_,_,⟨rfl,rfl,rfl,rfl⟩,fun w=>Rh w⟩
  by_cases k23:op=23
  ·subst k23;exact⟨_,_,_,_,_,⟨rfl,rfl,rfl,rfl⟩,fun w=>Ri w⟩
  by_cases k24:op=24
  ·subst k24;exact⟨_,_,_,_,_,⟨rfl,rfl,rfl,rfl⟩,fun w=>Rj w⟩
  by_cases k25:op=25
  ·subst k25;exact⟨_,_,_,_,_,⟨rfl,rfl,rfl,rfl⟩,fun w=>Rl w⟩
  by_cases k26:op=26
  ·subst k26;exact⟨_,_,_,_,_,⟨rfl,rfl,rfl,rfl⟩,fun w=>Rm w⟩
  by_cases k27:op=27
  ·subst k27;exact⟨_,_,_,_,_,⟨rfl,rfl,rfl,rfl⟩,fun w=>Rn w⟩
  by_cases k28:op=28
  ·subst k28;exact⟨_,_,_,_,_,⟨rfl,rfl,rfl,rfl⟩,fun w=>Ro w⟩
  by_cases k29:op=29
  ·subst k29;exact⟨_,_,_,_,_,⟨rfl,rfl,rfl,rfl⟩,fun w=>Rp w⟩
  by_cases k30:op=30
  ·subst k30;exact⟨_,_,_,_,_,⟨rfl,rfl,rfl,rfl⟩,fun w=>Rq w⟩
  by_cases k31:op=31
  ·subst k31;exact⟨_,_,_,_,_,⟨rfl,rfl,rfl,rfl⟩,fun w=>Rr w⟩
  by_cases k32:op=32
  ·subst k32;exact⟨_,_,_,_,_,⟨rfl,rfl,rfl,rfl⟩,fun w=>Rs w⟩
  by_cases k33:op=33
  ·subst k33;exact⟨_,_,_,_,_,⟨rfl,rfl,rfl,rfl⟩,fun w=>Rt w⟩
  by_cases k34:op=34
  ·subst k34;exact⟨_,_,_,_,_,⟨rfl,rfl,rfl,rfl⟩,fun w=>Ru w⟩
  by_cases k35:op=35
  ·subst k35;exact⟨_,_,_,_,_,⟨rfl,rfl,rfl,rfl⟩,fun w=>Rv w⟩
  by_cases k36:op=36
  ·subst k36;exact⟨_,_,_,_,_,⟨rfl,rfl,rfl,rfl⟩,fun w=>Rx w⟩
  by_cases k37:op=37
  ·subst k37;exact⟨_,_,_,_,_,⟨rfl,rfl,rfl,rfl⟩,fun w=>Ry w⟩
  omega
theorem Mx(a:Int)(h0:0<=a)(h1:a<4294967296):B8 a=ng a.toNat:=by
 unfold B8 ng;by_cases c:2147483648<=a
 ·have e1:a/2147483648=1:=oM;have e2:a.toNat/2147483648%2=1:=oM;rw[e1,e2];rfl
 ·have e1:a/2147483648=0:=oM;have e2:a.toNat/2147483648%2=0:=oM;rw[e1,e2];rfl
theorem Cb(a:Int)(h0:0<=a)(h1:a<4294967296):BK a=nan a:=by
 unfold BK nan;by_cases c:a/8388608%256=255
 ·rw[if_pos c];by_cases d:a%8388608=0
  ·have:¬ (2139095040<a%2147483648):=oM;simp[d,this]
  ·have:2139095040<a%2147483648:=oM;simp[d,this]
 ·rw[if_neg c];have:¬ (2139095040<a%2147483648):=oM;simp[this]
theorem Fl(a:Int)(h0:0<=a)(h1:a<4294967296)(h:BK a=true):∃s t,Ieee.single.read a.toNat=.nan s t:=by
 rw[Cb a h0 h1,JI a h0]at h;exact⟨_,_,Ei _ X4⟩
theorem Dw(a:Int)(h0:0<=a)(h1:a<4294967296)(h:DD a=true):Ieee.single.read a.toNat=.infinity (B8 a)/\BK a=false/\nM a=0:=by
 have c:a/8388608%256=255/\a%8388608=0:=by
  unfold DD at h;split at h
  ·rename_i c;exact⟨c,by simpa using h⟩
  ·cases h
 refine⟨?_,?_,?_⟩
 ·rw[Mx a h0 h1];exact Eh _ (by have:=Cs a h0;omega)
 ·unfold BK;simp[c]
 ·unfold nM;rw[if_pos c.1]
theorem BM(a:Int)(h0:0<=a)(h1:a<4294967296)(hi:DD a=false)(hn:BK a=false):
 Ieee.single.read a.toNat=.number (B8 a) (nM a).toNat (nE a)/\0<=nM a/\nM a<16777216/\-149<=nE a/\nE a<=104/\(nE a= -149\/8388608<=nM a):=by
 have c:¬ (a/8388608%256=255):=by
  intro c;unfold DD at hi;unfold BK at hn;rw[if_pos c]at hi hn;simp at hi hn;exact hi hn
 have hf:rg a.toNat<2139095040:=by have:=Cs a h0;omega
 have hr:=Cs a h0;rw[Cr _ hf,Mx a h0 h1];unfold nM nE mg te;rw[if_neg c,if_neg c];by_cases d:a/8388608%256=0
 ·rw[if_pos d,if_pos d,if_pos oM,show rg a.toNat/8388608-1=0 by omega,show(a%8388608).toNat=rg a.toNat by omega];exact⟨rfl,oM,oM,oM,oM,oM⟩
 ·rw[if_neg d,if_neg d,if_neg oM,show(8388608+a%8388608).toNat=8388608+rg a.toNat%8388608 by omega,show -149+((rg a.toNat/8388608-1:Nat):Int)=a/8388608%256-150 by omega];exact⟨rfl,oM,oM,oM,oM,oM⟩
theorem DI(s1:Bool)(m1 e1:Int)(i1 n1 s2:Bool)(m2 e2:Int)(i2 n2:Bool)(w:World):
 Calls prog 140 #[.agg #[.bool s1,.int .u64 m1,.int .i64 e1,.bool i1,.bool n1],.agg #[.bool s2,.int .u64 m2,.int .i64 e2,.bool i2,.bool n2]] w fun e w'=>e=.returned (.bool (n1||n2))/\∃o p,w'=(w.alloc o).alloc p:=by
 cases n1<;>cases n2
 all_goals(
  go_enter func140,ntmps140;go_wp2;go_ret
  exact⟨rfl,_,_,rfl⟩)
theorem Ce(s:Bool):((Ieee.single.write (.infinity s):Nat):Int)=Hr s+2139095040:=by cases s<;>decide
theorem Ev(a b:Int){d e:Ieee.Datum}(h:Ieee.single.read a.toNat=d)(k:Ieee.single.read b.toNat=e):ET a b=IX ((d.product e).map Ieee.single.write):=by
 unfold ET Ieee.Format.mul;rw[h,k]
theorem DX(s t:Bool):(s^^t)=(s != t):=by cases s<;>cases t<;>rfl
theorem Nz(a b:Int)(h0:0<=a)(h1:a<4294967296)(g0:0<=b)(g1:b<4294967296)(h:BK a=true\/BK b=true):ET a b=2143289344:=by
 rcases h with h|h
 ·obtain⟨s,t,e⟩:=Fl a h0 h1 h;rw[Ev a b e rfl];cases Ieee.single.read b.toNat<;>rfl
 ·obtain⟨s,t,e⟩:=Fl b g0 g1 h;rw[Ev a b rfl e];cases Ieee.single.read a.toNat<;>rfl
theorem JY(a:Int)(h0:0<=a)(h1:a<4294967296)(b:Int)(g0:0<=b)(g1:b<4294967296)(w:World):
 Calls prog 123 #[.int .i64 a,.int .i64 b] w fun e w'=>e=.returned (.int .i64 (ET a b))/\Below w.heap.size w w':=by
 cases hna:BK a
 ·cases hnb:BK b
  ·cases hia:DD a
   ·obtain⟨ra,a1,a2,a3,a4,-⟩:=BM a h0 h1 hia hna;cases hib:DD b
    ·obtain⟨rb,b1,b2,b3,b4,-⟩:=BM b g0 g1 hib hnb;have hv:ET a b=(Ieee.single.nearest (B8 a != B8 b) (nM a*nM b).toNat (nE a+nE b):Nat):=by
      rw[Ev a b ra rb,show(nM a*nM b).toNat=(nM a).toNat*(nM b).toNat from Int.toNat_mul a1 b1,←DX];rfl
     have hm:0<=nM a*nM b/\nM a*nM b<281474976710656:=by
      refine⟨Int.mul_nonneg a1 b1,?_⟩;have h1:nM a*nM b<=16777215*16777215:=Int.mul_le_mul oM oM b1 oM;omega
     have hw:IntKind.u64.wrap (nM a*nM b)=nM a*nM b:=by rw[IntKind.wrap_u64];omega
     rw[hv];clear hv ra rb;exact Za
    ·obtain⟨rb,-,b1⟩:=Dw b g0 g1 hib;by_cases hz:nM a=0
     ·have hv:ET a b=2143289344:=by rw[Ev a b ra rb,hz];rfl
      rw[hv];clear hv ra rb;exact Za
     ·have hv:ET a b=Hr (B8 a != B8 b)+2139095040:=by
       rw[Ev a b ra rb,←Ce,←DX,Bool.xor_comm];have:(nM a).toNat≠0:=oM;simp only[Ieee.Datum.product,if_neg this];rfl
      rw[hv];clear hv ra rb;exact Za
   ·obtain⟨ra,-,a1⟩:=Dw a h0 h1 hia;cases hib:DD b
    ·obtain⟨rb,b1,b2,b3,b4,-⟩:=BM b g0 g1 hib hnb;by_cases hz:nM b=0
     ·have hv:ET a b=2143289344:=by rw[Ev a b ra rb,hz];rfl
      rw[hv];clear hv ra rb;exact Za
     ·have hv:ET a b=Hr (B8 a != B8 b)+2139095040:=by
       rw[Ev a b ra rb,←Ce,←DX];have:(nM b).toNat≠0:=oM;simp only[Ieee.Datum.product,if_neg this];rfl
      rw[hv];clear hv ra rb;exact Za
    ·obtain⟨rb,-,b1⟩:=Dw b g0 g1 hib;have hv:ET a b=Hr (B8 a != B8 b)+2139095040:=by
      rw[Ev a b ra rb,←Ce,←DX];rfl
     rw[hv];clear hv ra rb;exact Za
  ·have hv:=Nz a b h0 h1 g0 g1 (Or.inr hnb);rw[hv];clear hv;exact Za
 ·have hv:=Nz a b h0 h1 g0 g1 (Or.inl hna);rw[hv];clear hv;exact Za
theorem SZ(n:Int)(h0: -9223372036854775808<=n)(h1:n<=9223372036854775807)(w:World):
 Calls prog 94 #[.int .i64 n] w fun e w'=>e=.returned (.int .i64 (Dg n))/\w'=w:=by
 unfold Dg;by_cases c:n<0
 ·rw[decide_eq_true c,show n.natAbs=(-(n+1)+1).toNat by omega];exact Zej
 ·rw[decide_eq_false c,show n.natAbs=n.toNat by omega];exact Zej
theorem Gc(w:World)(v0 v1 v2 v3 v4:Value):(Instr.field 192 (.agg #[v0,v1,v2,v3,v4]) 4).run prog w=.ok v4 w:=by
 simp[Instr.field,run_underlying underlying192,asAgg,part,go_sem]
theorem NJ(a b:Nat)(ha:a<9223372036854775808)(hb:b<9223372036854775808):bits .xor .i64 (a:Int) (b:Int)=((a^^^b:Nat):Int):=by
 have hx:a^^^b<2^63:=Nat.xor_lt_two_pow oM oM;show IntKind.i64.wrap ((BitVec.ofInt 64 (a:Int)^^^BitVec.ofInt 64 (b:Int)).toNat:Int)=_;rw[BitVec.toNat_xor,ofInt_u64 a oM,ofInt_u64 b oM,IntKind.wrap_i64];omega
theorem JB(a b:Nat)(ha:a<9223372036854775808)(hb:b<9223372036854775808):bits .andNot .i64 (a:Int) (b:Int)=((a&&& (18446744073709551615-b):Nat):Int):=by
 have hx:a&&& (18446744073709551615-b)<=a:=Nat.and_le_left;show IntKind.i64.wrap ((BitVec.ofInt 64 (a:Int)&&& ~~~BitVec.ofInt 64 (b:Int)).toNat:Int)=_;rw[BitVec.toNat_and,BitVec.toNat_not,ofInt_u64 a oM,ofInt_u64 b oM,IntKind.wrap_i64];have e:2^64-1-b=18446744073709551615-b:=oM;rw[e];omega
theorem Qq(a:Int)(h0:0<=a)(h1:a<4294967296):bits .xor .i64 a 2147483648=if 2147483648<=a then a-2147483648 else a+2147483648:=by
 rw[←WR a h0 h1,u32_xor a _ h0 h1 dE dE];obtain⟨A,rfl⟩:=Int.eq_ofNat_of_zero_le h0;exact NJ A 2147483648 oM dE
theorem EG(a:Int)(h0:0<=a)(h1:a<4294967296):bits .andNot .i64 a 2147483648=a%2147483648:=by
 rw[←Sv a h0 h1,u32_andNot a _ h0 h1 dE dE];obtain⟨A,rfl⟩:=Int.eq_ofNat_of_zero_le h0;rw[show(2147483648:Int)=((2147483648:Nat):Int)from rfl,JB A 2147483648 oM dE,Int.toNat_natCast,Int.toNat_natCast];congr 1;apply Nat.eq_of_testBit_eq;intro i;rw[Nat.testBit_and,Nat.testBit_and];rcases Nat.lt_or_ge i 32 with c|c
 ·have:∀j:Fin 32,(18446744073709551615-2147483648:Nat).testBit j.val=(4294967295-2147483648:Nat).testBit j.val:=dE;rw[this ⟨i,c⟩]
 ·have:A.testBit i=false:=Nat.testBit_lt_two_pow (Nat.lt_of_lt_of_le (show A<2^32 by omega) (Nat.pow_le_pow_right dE c));rw[this,Bool.false_and,Bool.false_and]
theorem Oc(a:Int)(h0:0<=a)(h1:a<4294967296)(w:World):
 Calls prog 150 #[.int .i64 a] w fun e w'=>e=.returned (.int .i64 (JA a))/\Below w.heap.size w w':=by
 have hf:=Gc;cases hna:BK a
 ·have hv:JA a=if 2147483648<=a then a-2147483648 else a+2147483648:=by
   rw[NC a h0 h1 (by rw[←Cb a h0 h1];exact hna)];unfold Mr;by_cases c:2147483648<=a
   ·rw[if_pos c,if_pos oM];omega
   ·rw[if_neg c,if_neg oM];omega
  have hx:=Qq a h0 h1;rw[hv];clear hv;generalize (if 2147483648<=a then a-2147483648 else a+2147483648)=z at *;go_enter func150,ntmps150;exact TY
 ·have hv:=NA a h0 h1 (by rw[←Cb a h0 h1];exact hna);rw[hv];clear hv;go_enter func150,ntmps150;exact TY
theorem Ve(a:Int)(h0:0<=a)(h1:a<4294967296)(w:World):
 Calls prog 151 #[.int .i64 a] w fun e w'=>e=.returned (.int .i64 (XK a))/\Below w.heap.size w w':=by
 have hm:nan (a%2147483648)=nan a:=by unfold nan;rw[Int.emod_emod_of_dvd _ (Int.dvd_refl _)]
 unfold XK canon;rw[hm,←Cb a h0 h1];have hx:=EG a h0 h1;have hf:=Gc;cases hna:BK a
 ·rw[if_neg dE];go_enter func151,ntmps151;exact TY
 ·rw[if_pos rfl];go_enter func151,ntmps151;exact TY
theorem Lx(a:Int)(h0:0<=a)(h1:a<4294967296):(ng a.toNat=true/\key a= -1-(rg a.toNat:Int)/\sv a.toNat= -(mv a.toNat:Int))\/(ng a.toNat=false/\key a=(rg a.toNat:Int)/\sv a.toNat=(mv a.toNat:Int)):=by
 have hr:=Cs a h0;rw[PF a h0 h1];by_cases c:2147483648<=a
 ·left;refine⟨by simpa using c,?_,?_⟩
  ·unfold key;rw[if_pos c];omega
  ·unfold sv sg;rw[PF a h0 h1,if_pos (by simpa using c)]
 ·right;refine⟨by simpa using c,?_,?_⟩
  ·unfold key;rw[if_neg c];omega
  ·unfold sv sg;rw[PF a h0 h1,if_neg (by simpa using c)]
theorem J7(x:Nat):mv x=0↔rg x=0:=by
 unfold mv;constructor
 ·intro h;rw[←Mf 23]at h;exact TV 23 h
 ·intro h;rw[h,Mf]
theorem Pz(a b:Int)(h0:0<=a)(h1:a<4294967296)(g0:0<=b)(g1:b<4294967296):key a<key b↔(sv a.toNat<sv b.toNat\/(rg a.toNat=0/\rg b.toNat=0/\ng a.toNat=true/\ng b.toNat=false)):=by
 have ha:=Lx a h0 h1;have hb:=Lx b g0 g1;have m1:mv a.toNat<mv b.toNat↔rg a.toNat<rg b.toNat:=N6 23 _ _;have m2:mv b.toNat<mv a.toNat↔rg b.toNat<rg a.toNat:=N6 23 _ _;have z1:=J7 a.toNat;have z2:=J7 b.toNat;rcases ha with⟨p,q,r⟩|⟨p,q,r⟩<;>rcases hb with⟨p',q',r'⟩|⟨p',q',r'⟩<;>rw[p,q,r,p',q',r']<;>simp only[Bool.false_eq_true,Bool.true_eq_false,and_false,or_false,and_true]<;>omega
theorem J9(a b:Int)(h0:0<=a)(h1:a<4294967296)(g0:0<=b)(g1:b<4294967296):sv a.toNat=sv b.toNat↔(a=b\/(a%2147483648=0/\b%2147483648=0)):=by
 have hr:=Cs a h0;have hs:=Cs b g0;constructor
 ·intro h;obtain⟨e,f⟩:=sv_inj h;rcases f with f|f
  ·exact Or.inl (Yu h0 h1 g0 g1 e f)
  ·right;omega
 ·rintro(h|⟨h,k⟩)
  ·rw[h]
  ·have z1:=(J7 a.toNat).2 oM;have z2:=(J7 b.toNat).2 oM;unfold sv sg;rw[z1,z2];simp
theorem UC(a b:Int)(h0:0<=a)(h1:a<4294967296)(g0:0<=b)(g1:b<4294967296)(hn:nan a=false)(hm:nan b=false):IV a b=if key b<key a then b else a:=by
 unfold IV;rw[JP a b h0 g0,if_neg (by simp[hn,hm])];have hk:=Pz b a g0 g1 h0 h1;rcases Int.lt_trichotomy (sv a.toNat) (sv b.toNat)with c|c|c
 ·have hne:¬ (key b<key a):=by
   exact Zen
  rw[P9 c];simp only [];rw[if_neg hne]
 ·rw[P7 c];simp only [];rcases(J9 a b h0 h1 g0 g1).1 c with e|⟨e,f⟩
  ·subst e;split<;>simp
  ·unfold key;by_cases d1:2147483648<=a<;>by_cases d2:2147483648<=b<;>simp only[d1,d2,if_true,if_false]
   ·rw[if_neg oM]
   ·rw[if_neg oM]
   ·rw[if_pos oM]
   ·rw[if_neg oM];omega
 ·rw[P8 c];simp only [];rw[if_pos (hk.2 (Or.inl c))]
theorem UA(a b:Int)(h0:0<=a)(h1:a<4294967296)(g0:0<=b)(g1:b<4294967296)(hn:nan a=false)(hm:nan b=false):Jz a b=if key b>key a then b else a:=by
 unfold Jz;rw[JP a b h0 g0,if_neg (by simp[hn,hm])];have hk:=Pz a b h0 h1 g0 g1;rcases Int.lt_trichotomy (sv a.toNat) (sv b.toNat)with c|c|c
 ·rw[P9 c];simp only [];rw[if_pos (show key b>key a from hk.2 (Or.inl c))]
 ·rw[P7 c];simp only [];rcases(J9 a b h0 h1 g0 g1).1 c with e|⟨e,f⟩
  ·subst e;split<;>simp
  ·unfold key;by_cases d1:2147483648<=a<;>by_cases d2:2147483648<=b<;>simp only[d1,d2,if_true,if_false]
   ·rw[if_neg oM];omega
   ·rw[if_pos oM]
   ·rw[if_neg oM]
   ·rw[if_neg oM]
 ·have hne:¬ (key b>key a):=by
   show¬ (key a<key b);exact Zen
  rw[P8 c];simp only [];rw[if_neg hne]
theorem Si(a b:Int)(h0:0<=a)(h1:a<4294967296)(g0:0<=b)(g1:b<4294967296)(hn:nan a=false)(hm:nan b=false):Jy a b=(decide (key a<key b)&& !((a%2147483648==0)&&(b%2147483648==0))):=by
 have h:=Sh a b h0 g0;have hk:=Pz a b h0 h1 g0 g1;have hr:=Cs a h0;have hs:=Cs b g0;have hz:=J9 a b h0 h1 g0 g1;simp only[hn,hm,true_and]at h;rw[Bool.eq_iff_iff,h];simp only[Bool.and_eq_true,decide_eq_true_eq,Bool.not_eq_true',Bool.and_eq_false_iff,beq_eq_false_iff_ne];constructor
 ·intro c;refine⟨hk.2 (Or.inl c),?_⟩;by_cases e:a%2147483648=0
  ·right;intro f;have:=hz.2 (Or.inr ⟨e,f⟩);omega
  ·exact Or.inl e
 ·rintro⟨c,d⟩;rcases hk.1 c with e|⟨e1,e2,-,-⟩
  ·exact e
  ·exfalso;rcases d with d|d<;>omega
theorem DZ(a b:Int)(h0:0<=a)(g0:0<=b)(h:nan a=true\/nan b=true):Jy a b=false/\feq a b=false/\IV a b=2143289344/\Jz a b=2143289344:=by
 unfold Jy feq IV Jz;rw[JP a b h0 g0,if_pos h];exact⟨rfl,rfl,rfl,rfl⟩
theorem Ii(a:Int)(h0:0<=a)(h1:a<4294967296)(w:World):
 Calls prog 146 #[.int .i64 a] w fun e w'=>e=.returned (.int .i64 (key a))/\w'=w:=by
 have hx:=EG a h0 h1;unfold key;by_cases c:2147483648<=a
 ·have h2:a/2147483648=1:=oM;rw[if_pos c];go_enter func146,ntmps146;go_wp2;go_ret;exact⟨Hj oM,rfl⟩
 ·have h2:a/2147483648=0:=oM;rw[if_neg c];go_enter func146,ntmps146;go_wp2;go_ret;exact⟨Hj oM,rfl⟩
theorem G3(a:Int)(h0:0<=a)(h1:a<4294967296)(w:World):
 Calls prog 162 #[.int .i64 a] w fun e w'=>e=.returned (.bool (a%2147483648==0))/\w'=w:=by
 have hx:=EG a h0 h1;go_enter func162,ntmps162;go_wp2;go_ret;exact⟨rfl,rfl⟩
theorem G2(a:Int)(h0:0<=a)(h1:a<4294967296)(w:World):
 Calls prog 115 #[.int .i64 a] w fun e w'=>e=.returned (.int .i64 (canon a))/\Below w.heap.size w w':=by
 have hf:=Gc;unfold canon;rw[←Cb a h0 h1];cases hna:BK a
 ·rw[if_neg dE];go_enter func115,ntmps115;exact TY
 ·rw[if_pos rfl];go_enter func115,ntmps115;exact TY
theorem Oa(a:Int)(h0:0<=a)(h1:a<4294967296)(b:Int)(g0:0<=b)(g1:b<4294967296)(w:World):
 Calls prog 126 #[.int .i64 a,.int .i64 b] w fun e w'=>e=.returned (.int .i64 (IV a b))/\Below w.heap.size w w':=by
 have ea:=Cb a h0 h1;have eb:=Cb b g0 g1;cases hna:BK a
 ·cases hnb:BK b
  ·rw[UC a b h0 h1 g0 g1 Zhe Zhd];clear ea eb;by_cases c:key b<key a
   ·rw[if_pos c];go_enter func126,ntmps126;exact Zb
   ·rw[if_neg c];go_enter func126,ntmps126;exact Zb
  ·rw[(DZ a b h0 g0 (Or.inr Zhd)).2.2.1];clear ea eb;go_enter func126,ntmps126;exact Zb
 ·rw[(DZ a b h0 g0 (Or.inl Zhe)).2.2.1];clear ea eb;go_enter func126,ntmps126;exact Zb
theorem Vl(a:Int)(h0:0<=a)(h1:a<4294967296)(b:Int)(g0:0<=b)(g1:b<4294967296)(w:World):
 Calls prog 156 #[.int .i64 a,.int .i64 b] w fun e w'=>e=.returned (.int .i64 (Jz a b))/\Below w.heap.size w w':=by
 have ea:=Cb a h0 h1;have eb:=Cb b g0 g1;cases hna:BK a
 ·cases hnb:BK b
  ·rw[UA a b h0 h1 g0 g1 Zhe Zhd];clear ea eb;by_cases c:key b>key a
   ·rw[if_pos c];go_enter func156,ntmps156;exact Zb
   ·rw[if_neg c];go_enter func156,ntmps156;exact Zb
  ·rw[(DZ a b h0 g0 (Or.inr Zhd)).2.2.2];clear ea eb;go_enter func156,ntmps156;exact Zb
 ·rw[(DZ a b h0 g0 (Or.inl Zhe)).2.2.2];clear ea eb;go_enter func156,ntmps156;exact Zb
theorem T5(a:Int)(h0:0<=a)(h1:a<4294967296)(b:Int)(g0:0<=b)(g1:b<4294967296)(w:World):
 Calls prog 157 #[.int .i64 a,.int .i64 b] w fun e w'=>e=.returned (.bool (Jy a b))/\Below w.heap.size w w':=by
 have ea:=Cb a h0 h1;have eb:=Cb b g0 g1;cases hna:BK a
 ·cases hnb:BK b
  ·rw[Si a b h0 h1 g0 g1 Zhe Zhd];clear ea eb;cases za:(a%2147483648==0)<;>cases zb:(b%2147483648==0)<;>simp only[Bool.and_true,Bool.and_false,Bool.not_true,Bool.not_false]
   all_goals(
    go_enter func157,ntmps157;go_wp2_with(first
     |(go_at_call 136;refine(D7 _ oM oM _).mono ?_;rintro e w' ⟨rfl,o,rfl⟩)
     |(go_at_call 140;refine(DI _ _ _ _ _ _ _ _ _ _ _).mono ?_;rintro e w' ⟨rfl,o,p,rfl⟩)
     |(go_at_call 146;refine(Ii _ oM oM _).mono ?_;rintro e w' ⟨rfl,rfl⟩)
     |(go_at_call 162;refine(G3 _ oM oM _).mono ?_;rintro e w' ⟨rfl,rfl⟩))
    go_ret
    exact⟨rfl,gG⟩)
  ·rw[(DZ a b h0 g0 (Or.inr Zhd)).1];exact Zcj
 ·rw[(DZ a b h0 g0 (Or.inl Zhe)).1];exact Zcj
theorem Og(c:Int)(e0:0<=c)(e1:c<4294967296)(a:Int)(h0:0<=a)(h1:a<4294967296)(b:Int)(g0:0<=b)(g1:b<4294967296)(w:World):
 Calls prog 158 #[.int .i64 c,.int .i64 a,.int .i64 b] w fun e w'=>e=.returned (.int .i64 (Mt c a b))/\Below w.heap.size w w':=by
 have hf:=Gc;unfold Mt;rw[←Cb c e0 e1];cases hn:BK c<;>cases hz:(c%2147483648==0)<;>simp only[Bool.or_true,Bool.or_false,if_true,if_false,Bool.false_eq_true]
 all_goals(
  go_enter func158,ntmps158;go_wp2_with(first
   |(go_at_call 136;refine(D7 _ oM oM _).mono ?_;rintro e w' ⟨rfl,o,rfl⟩)
   |(go_at_call 162;refine(G3 _ oM oM _).mono ?_;rintro e w' ⟨rfl,rfl⟩)
   |(go_at_call 115;refine(G2 _ oM oM _).mono ?_;rintro e w1 ⟨rfl,hb1⟩))
  go_ret
  exact⟨rfl,Jp gG hb1⟩)
def rnd(x e:Int):Int:=if x=0 then 0 else(Ieee.single.nearest (decide (x<0)) x.natAbs e:Nat)
def Gx(s:Bool)(x:Int):Int:=if s then -x else x
def Tx(s1:Bool)(m1 e1:Int)(s2:Bool)(m2 e2:Int):Int:=
 if e1-e2<=36 then rnd (Gx s1 (m1*2^(e1-e2).toNat)+Gx s2 m2) e2 else rnd (Gx s1 (m1*68719476736)+Gx s2 1) (e1-36)
theorem Hk{s:Bool}{m m':Nat}{e e':Int}(h:m=m')(k:e=e'):Ending.returned (.int .i64 ((Ieee.single.nearest s m e:Nat):Int))=.returned (.int .i64 ((Ieee.single.nearest s m' e':Nat):Int)):=by rw[h,k]
theorem Ol(s1:Bool)(m1 e1:Int)(i1 n1 s2:Bool)(m2 e2:Int)(i2 n2:Bool)(h1:0<m1)(h2:m1<16777216)(h3:0<m2)(h4:m2<16777216)(h5: -149<=e2)(h6:e2<=e1)(h7:e1<=104)(w:World):
 Calls prog 145 #[.agg #[.bool s1,.int .u64 m1,.int .i64 e1,.bool i1,.bool n1],.agg #[.bool s2,.int .u64 m2,.int .i64 e2,.bool i2,.bool n2]] w fun e w'=>e=.returned (.int .i64 (Tx s1 m1 e1 s2 m2 e2))/\Below w.heap.size w w':=by
 unfold Tx;by_cases c:e1-e2<=36
 ·rw[if_pos c];generalize hd:e1-e2=d at *;have hd0:0<=d:=oM;obtain⟨X,hXX⟩:∃X,m1*2^d.toNat=X:=⟨_,rfl⟩
  have hX:0<X/\X<1152921504606846976:=by
   rw[←hXX];have p1:(1:Int)<=2^d.toNat:=Int.pow_pos dE;have p2:(2:Int)^d.toNat<=68719476736:=by
    have h:2^d.toNat<=68719476736:=Nat.le_trans (Nat.pow_le_pow_right dE (show d.toNat<=36 by omega)) dE;have h':((2^d.toNat:Nat):Int)<=((68719476736:Nat):Int):=Int.ofNat_le.2 h;rw[Int.natCast_pow]at h';exact h'
   refine⟨Int.mul_pos h1 oM,?_⟩;have:=Int.mul_le_mul (show m1<=16777215 by omega) p2 oM oM;omega
  have hw:IntKind.u64.wrap (m1*2^d.toNat)=X:=by rw[hXX,IntKind.wrap_u64];omega
  rw[hXX];clear hXX;cases s1<;>cases s2<;>simp only[Gx,if_true,if_false,Bool.false_eq_true]<;>unfold rnd
  ·rw[if_neg oM,decide_eq_false oM,show(X+m2).natAbs=(X+m2).toNat by omega];exact WU
  ·rcases Int.lt_trichotomy (X+ -m2) 0 with c2|c2|c2
   ·rw[if_neg oM,decide_eq_true oM,show(X+ -m2).natAbs=(-(X+ -m2)).toNat by omega];exact WU
   ·exact Zdh
   ·rw[if_neg oM,decide_eq_false oM,show(X+ -m2).natAbs=(X+ -m2).toNat by omega];exact WU
  ·rcases Int.lt_trichotomy (-X+m2) 0 with c2|c2|c2
   ·rw[if_neg oM,decide_eq_true oM,show(-X+m2).natAbs=(-(-X+m2)).toNat by omega];exact WU
   ·exact Zdh
   ·rw[if_neg oM,decide_eq_false oM,show(-X+m2).natAbs=(-X+m2).toNat by omega];exact WU
  ·rw[if_neg oM,decide_eq_true oM,show(-X+ -m2).natAbs=(-(-X+ -m2)).toNat by omega];exact WU
 ·rw[if_neg c];obtain⟨X,hXX⟩:∃X,m1*68719476736=X:=⟨_,rfl⟩
  have hX:68719476736<=X/\X<1152921504606846976:=oM;have hw:IntKind.u64.wrap (m1*68719476736)=X:=by rw[hXX,IntKind.wrap_u64];omega
  rw[hXX];have hX3:m1*68719476736<18446744073709551616:=oM;cases s1<;>cases s2<;>simp only[Gx,if_true,if_false,Bool.false_eq_true]<;>unfold rnd
  ·rw[if_neg oM,decide_eq_false oM,show(X+1).natAbs=(X+1).toNat by omega];exact WU
  ·rw[if_neg oM,decide_eq_false oM,show(X+ -1).natAbs=(X+ -1).toNat by omega];exact WU
  ·rw[if_neg oM,decide_eq_true oM,show(-X+1).natAbs=(-(-X+1)).toNat by omega];exact WU
  ·rw[if_neg oM,decide_eq_true oM,show(-X+ -1).natAbs=(-(-X+ -1)).toNat by omega];exact WU
def Ud(w:World)(b:Nat):Nat:=match w.cell? ⟨b,1,none⟩with
 |some (.int _ x)=>x.toNat
 |_=>0
theorem Ix(w:World)(v0 v2 v3 v4:Value)(X:Int)(t:TypeId)(p:Obj):Ud ((w.alloc (.cells #[v0,.int .u64 X,v2,v3,v4] t)).alloc p) w.heap.size=X.toNat:=by
 have:((w.alloc (.cells #[v0,.int .u64 X,v2,v3,v4] t)).alloc p).cell? ⟨w.heap.size,1,none⟩=some (.int .u64 X):=by
  simp
 unfold Ud;rw[this]
theorem YX(s:Bool)(m e:Int)(i n:Bool)(h0:0<m)(h1:m<16777216)(e0: -149<=e)(e1:e<=104)(w:World):
 Calls prog 161 #[.agg #[.bool s,.int .u64 m,.int .i64 e,.bool i,.bool n]] w fun x w'=>(∃k:Nat,k<=23/\x=.returned (.agg #[.bool s,.int .u64 (m*2^k),.int .i64 (e-k),.bool i,.bool n])/\8388608<=m*2^k/\m*2^k<16777216)/\∃o p,w'=(w.alloc o).alloc p:=by
 go_enter func161,ntmps161;go_wp2
 go_loopw [4] (fun _ wr=>∃ (k:Nat),k<=23/\m*2^k<16777216/\wr=(w.alloc (.cells #[.bool s,.int .u64 (m*2^k),.int .i64 (e-k),.bool i,.bool n] 192)).alloc (.cells #[.bool false,.int .u64 0,.int .i64 0,.bool false,.bool false] 192)) (fun _ wr=>16777216-Ud wr w.heap.size)
 case atStart=>exact⟨0,oM,by simpa using h1,sM⟩
 case round=>
  obtain⟨k,hk,hm,rfl⟩:=hrel;have hP:(1:Int)<=2^k:=Int.pow_pos dE;have hX:0<m*2^k:=Int.mul_pos h0 oM;by_cases c:m*2^k<8388608
  ·have hs:m*2^(k+1)=m*2^k*2:=by rw[Int.pow_succ,←Int.mul_assoc]
   have HS:Hid (m*2^(k+1)=m*2^k*2):=hs;have hk23:k<=22:=by
    rcases Nat.lt_or_ge 22 k with d|d
    ·exfalso;have h2:8388608<=2^k:=Nat.le_trans (show 8388608<=2^23 by decide) (Nat.pow_le_pow_right dE oM);have h3:((8388608:Nat):Int)<=((2^k:Nat):Int):=Int.ofNat_le.2 h2;rw[Int.natCast_pow]at h3;have h4:(1:Int)*2^k<=m*2^k:=Int.mul_le_mul_of_nonneg_right oM oM;have h5:((8388608:Nat):Int)=8388608:=rfl;have h6:(((2:Nat):Int))^k=(2:Int)^k:=rfl;omega
    ·exact d
   clear hs;generalize m*2^k=X at *;go_wp2;go_roundw
   case rel=>
    refine⟨k+1,oM,?_,?_⟩
    ·rw[HS.out];omega
    ·rw[HS.out,show e-(k:Int)-1=e-((k+1:Nat):Int) by omega]
   case measure=>rw[Ix,Ix];omega
  ·generalize hXX:m*2^k=X at *;have HX:Hid (m*2^k=X):=hXX;clear hXX;go_wp2;go_returns;exact⟨⟨k,hk,by rw[HX.out],by rw[HX.out];omega,by rw[HX.out];omega⟩,_,_,rfl⟩
theorem PE(p t k n δ:Nat)(hp:1<=p)(ht:1<=t)(hk:2^p<=k)(hk2:k<2*2^p)(h:n=k*2^t+δ\/n+δ=k*2^t)(hδ:4*δ<2^t):Gp p n 1 (t*2^p+k):=by
 have hB:0<2^p:=Nat.two_pow_pos p;have v0:V p (t*2^p+k)=k*2^t:=GB p t k oM (Or.inr hk);have v1:V p (t*2^p+k+1)=(k+1)*2^t:=by rw[Nat.add_assoc];exact GB p t (k+1) oM (Or.inr oM)
 have e1:(k+1)*2^t=k*2^t+2^t:=by rw[Nat.add_mul,Nat.one_mul]
 have hlow:∀q,t*2^p+k=q+1->2*(V p q)+2^t<=2*(k*2^t):=by
  intro q hq;have hst:=Me p q;rw[←hq,v0]at hst;have:t-1<=q/2^p-1:=by
   have:t<=q/2^p:=(Nat.le_div_iff_mul_le hB).2 oM;omega
  have hle:2^(t-1)<=2^(q/2^p-1):=Nat.pow_le_pow_right dE this;have:2^t=2*2^(t-1):=by
   obtain⟨e,rfl⟩:∃e,t=e+1:=⟨t-1,oM⟩
   rw[Nat.add_sub_cancel,Nat.pow_succ,Nat.mul_comm]
  omega
 refine⟨?_,?_,?_,?_⟩
 ·rw[v0,v1,e1,Nat.mul_one];omega
 ·rw[v0,v1,e1,Nat.mul_one];omega
 ·intro q hq;have:=hlow q hq;rw[v0,Nat.mul_one];omega
 ·intro q hq;have:=hlow q hq;rw[v0,Nat.mul_one];omega
theorem Nr(m:Nat)(e:Int)(x δ:Nat)(i:Int)(hm:8388608<=m)(hm2:m<16777216)(hi: -113<i)(j:Int)(hj: -149<=j)(u:Nat)(hu:(u:Int)=i-j)(hx:x=m*2^u+δ\/x+δ=m*2^u)(hδ:4*δ<2^u):
 Ch 23 (-149) x j=(i+149).toNat*8388608+m:=by
 obtain⟨c,hc⟩:∃c:Nat,(c:Int)=j+149:=⟨(j+149).toNat,oM⟩
 have h1:=FY 23 (-149) x j dE c 0 oM;have ht:(i+149).toNat=u+c:=oM;have h2:Gp 23 (x*2^c) 1 ((i+149).toNat*2^23+m):=by
  refine PE 23 (i+149).toNat m (x*2^c) (δ*2^c) dE oM oM oM ?_ ?_
  ·rw[ht,Nat.pow_add,←Nat.mul_assoc,←Nat.add_mul];rcases hx with hx|hx
   ·left;rw[hx]
   ·right;rw[←Nat.add_mul,hx]
  ·rw[ht,Nat.pow_add,←Nat.mul_assoc];exact Nat.mul_lt_mul_of_pos_right hδ (Nat.two_pow_pos c)
 exact h1.unique h2 dE dE sM
theorem Im(s:Bool)(m u:Nat):Ieee.signed s m u=Gx s ((m:Int)*2^u):=by
 unfold Ieee.signed Gx;rw[Nat.shiftLeft_eq];push_cast;rfl
theorem CC(a b:Int){d e:Ieee.Datum}(h:Ieee.single.read a.toNat=d)(k:Ieee.single.read b.toNat=e):Dm a b=IX ((d.sum e).map Ieee.single.write):=by
 unfold Dm Ieee.Format.add;rw[h,k]
theorem Gh(s:Bool)(e:Int):((Ieee.single.nearest s 0 e:Nat):Int)=Hr s:=by
 exact Zff
theorem OC(s1:Bool)(m1 e1:Int)(s2:Bool)(m2 e2:Int)(h1:0<m1)(h2:m1<16777216)(h3:0<m2)(h4:m2<16777216)(h5: -149<=e2)(h6:e2<=e1)(h7:e1= -149\/8388608<=m1):
 IX (((Ieee.Datum.number s1 m1.toNat e1).sum (.number s2 m2.toNat e2)).map Ieee.single.write)=Tx s1 m1 e1 s2 m2 e2:=by
 simp only[Ieee.Datum.sum,Option.map_some,Ieee.Format.write];rw[show min e1 e2=e2 by omega,show(e2-e2).toNat=0 by omega,Im,Im,Int.toNat_of_nonneg oM,Int.toNat_of_nonneg oM,Int.pow_zero,Int.mul_one];have hP:(1:Int)<=2^(e1-e2).toNat:=Int.pow_pos dE;have hX:0<m1*2^(e1-e2).toNat:=Int.mul_pos h1 oM;unfold Tx;by_cases c:e1-e2<=36
 ·rw[if_pos c];generalize m1*2^(e1-e2).toNat=X at *;unfold rnd;by_cases z:Gx s1 X+Gx s2 m2=0
  ·rw[if_pos z,if_pos z,z];have:(s1&&s2)=false:=by
    cases s1<;>cases s2<;>simp only[Gx,if_true,if_false,Bool.false_eq_true]at z<;>first|rfl|omega
   rw[this];exact Gh false e2
  ·rw[if_neg z,if_neg z];rfl
 ·rw[if_neg c];have hm8:8388608<=m1:=oM;have hpow:(2:Int)^(e1-e2).toNat=2^(e1-e2-37).toNat*137438953472:=by
   have:(e1-e2).toNat=(e1-e2-37).toNat+37:=oM;rw[this,Int.pow_add];rfl
  have hP2:(1:Int)<=2^(e1-e2-37).toNat:=Int.pow_pos dE;have hbig:137438953472<=(2:Int)^(e1-e2).toNat:=oM;have hXbig:137438953472<=m1*2^(e1-e2).toNat:=by
   have:=Int.mul_le_mul (show(1:Int)<=m1 by omega) hbig dE oM;omega
  have hz1:¬ (Gx s1 (m1*2^(e1-e2).toNat)+Gx s2 m2=0):=by
   generalize m1*2^(e1-e2).toNat=X at *;exact Zdl
  have hz2:¬ (Gx s1 (m1*68719476736)+Gx s2 1=0):=by
   exact Zdl
  have hs1:decide (Gx s1 (m1*2^(e1-e2).toNat)+Gx s2 m2<0)=s1:=by
   generalize m1*2^(e1-e2).toNat=X at *;cases s1<;>cases s2<;>simp only[Gx,if_true,if_false,Bool.false_eq_true]<;>simp<;>omega
  have hs2:decide (Gx s1 (m1*68719476736)+Gx s2 1<0)=s1:=by
   cases s1<;>cases s2<;>simp only[Gx,if_true,if_false,Bool.false_eq_true]<;>simp<;>omega
  unfold rnd;rw[if_neg hz1,if_neg hz2,hs1,hs2,Bt,Bt];have r1:Ch 23 (-149) (Gx s1 (m1*2^(e1-e2).toNat)+Gx s2 m2).natAbs e2=(e1+149).toNat*8388608+m1.toNat:=by
   refine Nr m1.toNat 0 _ m2.toNat e1 oM oM oM e2 h5 (e1-e2).toNat oM ?_ ?_
   ·have hcast:((m1.toNat*2^(e1-e2).toNat:Nat):Int)=m1*2^(e1-e2).toNat:=by
     rw[Int.natCast_mul,Int.natCast_pow,Int.toNat_of_nonneg oM];rfl
    generalize m1.toNat*2^(e1-e2).toNat=Y at *;generalize m1*2^(e1-e2).toNat=X at *;exact Zdl
   ·have hcast:((2^(e1-e2).toNat:Nat):Int)=(2:Int)^(e1-e2).toNat:=Int.natCast_pow 2 _;omega
  have r2:Ch 23 (-149) (Gx s1 (m1*68719476736)+Gx s2 1).natAbs (e1-36)=(e1+149).toNat*8388608+m1.toNat:=by
   refine Nr m1.toNat 0 _ 1 e1 oM oM oM (e1-36) oM 36 oM ?_ dE;rw[show(2:Nat)^36=68719476736 from rfl];exact Zdl
  rw[CP,BG,r1,r2];rfl
def nk(m:Int):Nat:=23-m.toNat.log2
theorem Ef(k:Nat):((2^k:Nat):Int)=(2:Int)^k:=Int.natCast_pow 2 k
theorem Yf(m:Int)(k:Nat)(h0:0<m)(hk:k<=23)(h:8388608<=m*2^k)(h':m*2^k<16777216):k=nk m:=by
 obtain⟨n,rfl⟩:=Int.eq_ofNat_of_zero_le (Int.le_of_lt h0);rw[←Ef,←Int.natCast_mul]at h h';have hn:n≠0:=oM;have e:(n*2^k).log2=n.log2+k:=by
  refine(Nat.log2_eq_iff oM).2 ⟨?_,?_⟩
  ·rw[Nat.pow_add];exact Nat.mul_le_mul_right _ (Nat.log2_self_le hn)
  ·rw[show n.log2+k+1=n.log2+1+k by omega,Nat.pow_add];exact Nat.mul_lt_mul_of_pos_right Nat.lt_log2_self (Nat.two_pow_pos k)
 have e2:(n*2^k).log2=23:=(Nat.log2_eq_iff oM).2 ⟨oM,oM⟩;unfold nk;rw[Int.toNat_natCast];omega
theorem Q7(s:Bool)(m e:Int)(i n:Bool)(h0:0<m)(h1:m<16777216)(e0: -149<=e)(e1:e<=104)(w:World):
 Calls prog 161 #[.agg #[.bool s,.int .u64 m,.int .i64 e,.bool i,.bool n]] w fun x w'=>x=.returned (.agg #[.bool s,.int .u64 (m*2^nk m),.int .i64 (e-nk m),.bool i,.bool n])/\∃o p,w'=(w.alloc o).alloc p:=by
 refine(YX s m e i n h0 h1 e0 e1 w).mono ?_;rintro x w' ⟨⟨k,hk,rfl,ha,hb⟩,ho⟩;have:=Yf m k h0 hk ha hb;subst this;exact⟨rfl,ho⟩
theorem EX(m:Int)(h0:0<m)(h1:m<16777216):nk m<=23/\8388608<=m*2^nk m/\m*2^nk m<16777216:=by
 obtain⟨n,rfl⟩:=Int.eq_ofNat_of_zero_le (Int.le_of_lt h0);have hn:n≠0:=oM;have hl:n.log2<24:=(Nat.log2_lt hn).2 oM;have lo:=Nat.log2_self_le hn;have hi:n<2^(n.log2+1):=Nat.lt_log2_self;unfold nk;rw[Int.toNat_natCast,←Ef,←Int.natCast_mul];refine⟨oM,?_,?_⟩
 ·have:2^n.log2*2^(23-n.log2)<=n*2^(23-n.log2):=Nat.mul_le_mul_right _ lo;rw[←Nat.pow_add,show n.log2+(23-n.log2)=23 by omega]at this;omega
 ·have:n*2^(23-n.log2)<2^(n.log2+1)*2^(23-n.log2):=Nat.mul_lt_mul_of_pos_right hi (Nat.two_pow_pos _);rw[←Nat.pow_add,show n.log2+1+(23-n.log2)=24 by omega]at this;omega
theorem MM(a:Int)(h0:0<=a)(h1:a<4294967296)(hi:DD a=false)(hn:BK a=false):rg a.toNat<2139095040/\ng a.toNat=B8 a/\(mg a.toNat:Int)=nM a/\(te a.toNat:Int)=nE a+149:=by
 have h:=BM a h0 h1 hi hn;have hf:rg a.toNat<2139095040:=by
  rcases Nat.lt_trichotomy (rg a.toNat) 2139095040 with c|c|c
  ·exact c
  ·rw[Eh _ c]at h;cases h.1
  ·rw[Ei _ c]at h;cases h.1
 rw[Cr _ hf]at h;have e:=h.1;injection e with e1 e2 e3;exact⟨hf,e1,oM,oM⟩
theorem Er(a b:Int){d e:Ieee.Datum}(h:Ieee.single.read a.toNat=d)(k:Ieee.single.read b.toNat=e):Gr a b=IX ((d.quotient 25 e).map Ieee.single.write):=by
 unfold Gr Ieee.Format.div;rw[h,k];rfl
theorem Uk(p q:Nat):(2*((p:Int)*274877906944/(q:Int))+(if(p:Int)*274877906944%(q:Int)=0 then 0 else 1)).toNat=2*((p<<<38)/q)+((p<<<38)%q != 0).toNat:=by
 have e:(p:Int)*(274877906944:Int)=((p<<<38:Nat):Int):=by
  rw[Nat.shiftLeft_eq,Int.natCast_mul,Ef];rfl
 rw[e,←Int.natCast_ediv,←Int.natCast_emod];generalize (p<<<38)/q=x;generalize (p<<<38)%q=y;have hb:(y != 0).toNat=if y=0 then 0 else 1:=by by_cases c:y=0<;>simp[c]
 rw[hb];by_cases c:y=0
 ·rw[if_pos c,if_pos oM];omega
 ·rw[if_neg c,if_neg oM];omega
theorem SG(M N j k r:Nat)(E F:Int)(ta tb:Nat)(hE:(ta:Int)=E+149)(hF:(tb:Int)=F+149)(hj:j<=23)(hk:k<=23)(hM:8388608<=M*2^j)(hN:8388608<=N*2^k)(hN2:N*2^k<16777216)(hNpos:0<N)
 (hnear:Gp 23 (M*2^ta*2^149) (N*2^tb) r):
 r=Ch 23 (-149) (2*(((M*2^j)<<<38)/(N*2^k))+(((M*2^j)<<<38)%(N*2^k) != 0).toNat) (E-j-(F-k)-39):=by
 have hq:0<N*2^k:=oM;have big:25<=(2*(((M*2^j)<<<38)/(N*2^k))+(((M*2^j)<<<38)%(N*2^k) != 0).toNat).log2:=by
  refine Kj hq (j:=24) ?_;exact Nat.le_trans (Nat.mul_le_mul_right _ (show N*2^k<=16777216 by omega)) (Nat.le_trans dE (Nat.mul_le_mul_right _ hM))
 obtain⟨s,hs⟩:∃s:Nat,(s:Int)=F-k+172:=⟨(F-k+172).toNat,oM⟩
 obtain⟨x,hx⟩:∃x:Nat,(x:Int)=E-j+321:=⟨(E-j+321).toNat,oM⟩
 have h2:=LJ (M*2^j) (N*2^k) 38 hq (E-j-(F-k)-39) big x s oM oM;refine hnear.unique h2 (Nat.mul_pos hNpos (Nat.two_pow_pos _)) (Nat.mul_pos hq (Nat.two_pow_pos s)) ?_;obtain⟨z,hz⟩:∃z:Nat,z=149:=⟨_,rfl⟩
 rw[←hz];have e1:M*2^ta*2^z*(N*2^k*2^s)=M*N*2^(ta+z+k+s):=by
  rw[Nat.pow_add,Nat.pow_add,Nat.pow_add];grind
 have e2:M*2^j*2^x*(N*2^tb)=M*N*2^(j+x+tb):=by
  rw[Nat.pow_add,Nat.pow_add];grind
 rw[e1,e2,show ta+z+k+s=j+x+tb by omega]
theorem Uw(a b:Int)(h0:0<=a)(h1:a<4294967296)(g0:0<=b)(g1:b<4294967296)(hia:DD a=false)(hna:BK a=false)(hib:DD b=false)(hnb:BK b=false)(za:nM a≠0)(zb:nM b≠0)
 (A B:Int) (hA:nM a*2^nk (nM a)=A) (hB:nM b*2^nk (nM b)=B):
 Gr a b=(Ieee.single.nearest (B8 a != B8 b) (2*(A*274877906944/B)+(if A*274877906944%B=0 then 0 else 1)).toNat (nE a-nk (nM a)-(nE b-nk (nM b))-39):Nat):=by
 obtain⟨fa,sa,ma,ta⟩:=MM a h0 h1 hia hna;obtain⟨fb,sb,mb,tb⟩:=MM b g0 g1 hib hnb;obtain⟨-,a1,a2,a3,a4,-⟩:=BM a h0 h1 hia hna;obtain⟨-,b1,b2,b3,b4,-⟩:=BM b g0 g1 hib hnb;obtain⟨ka,A1,A2⟩:=EX (nM a) oM a2;obtain⟨kb,B1,B2⟩:=EX (nM b) oM b2;obtain⟨r,hr,hnear⟩:=XG a.toNat b.toNat fa fb oM oM;have cA:A=((mg a.toNat*2^nk (nM a):Nat):Int):=by rw[Int.natCast_mul,Ef,ma,hA]
 have cB:B=((mg b.toNat*2^nk (nM b):Nat):Int):=by rw[Int.natCast_mul,Ef,mb,hB]
 rw[ID,ID]at hnear;have key:=SG (mg a.toNat) (mg b.toNat) (nk (nM a)) (nk (nM b)) r (nE a) (nE b) (te a.toNat) (te b.toNat) ta tb ka kb oM oM oM oM hnear;unfold Gr;rw[hr,sa,sb,DX];show((wd (B8 a != B8 b) r:Nat):Int)=_;rw[Bt,CP,BG,Hy,cA,cB,Uk,←key]
theorem FT(a:Int){d:Ieee.Datum}(h:Ieee.single.read a.toNat=d):DA a=IX ((d.root 25).map Ieee.single.write):=by
 unfold DA Ieee.Format.sqrt;rw[h];rfl
theorem Sj(a:Int)(h0:0<=a)(h1:a<4294967296)(hia:DD a=false)(hna:BK a=false)(za:nM a≠0)(hs:B8 a=false)(root n:Nat)(e:Int)(he:e%2=0)
 (hn:(n:Int)=nM a*2^nk (nM a)*68719476736/\e=nE a-nk (nM a)-36\/(n:Int)=nM a*2^nk (nM a)*68719476736*2/\e=nE a-nk (nM a)-37) (hr1:root*root<=n) (hr2:n<(root+1)*(root+1)):
 DA a=(Ieee.single.nearest false (2*root+(if root*root<n then 1 else 0)) (e/2-1):Nat):=by
 obtain⟨fa,sa,ma,ta⟩:=MM a h0 h1 hia hna;obtain⟨-,a1,a2,a3,a4,-⟩:=BM a h0 h1 hia hna;obtain⟨ka,A1,A2⟩:=EX (nM a) oM a2;obtain⟨r,hr,hnear⟩:=Od a.toNat fa (by rw[sa];exact hs) oM;have hst:(root*root != n).toNat=if root*root<n then 1 else 0:=by
  by_cases c:root*root=n
  ·rw[if_neg oM];simp[c]
  ·rw[if_pos oM];simp[c]
 obtain⟨x,hx⟩:∃x:Nat,(x:Int)=e/2+149:=⟨(e/2+149).toNat,oM⟩
 have hn59:576460752303423488<=n:=oM;have hroot:16777216<=root:=by
  rcases Nat.lt_or_ge root 16777216 with c|c
  ·exfalso;have:=Nat.mul_self_le_mul_self (show root+1<=16777216 from c);omega
  ·exact c
 have big:23+2<=(2*root+(root*root != n).toNat).log2:=by
  apply(Nat.le_log2 oM).2;omega
 have h2:=LK 23 (-149) root n (e/2-1) dE hr1 hr2 big x oM;have hval:n*(2^x*2^x)=mv a.toNat*2^149:=by
  have cA:nM a*2^nk (nM a)=((mg a.toNat*2^nk (nM a):Nat):Int):=by rw[Int.natCast_mul,Ef,ma]
  rw[cA]at hn;obtain⟨z,hz⟩:∃z:Nat,z=149:=⟨_,rfl⟩
  rw[ID,←hz];rcases hn with⟨hn,hE⟩|⟨hn,hE⟩
  ·have hn':n=mg a.toNat*2^nk (nM a)*2^36:=by
    have:(2:Nat)^36=68719476736:=rfl;omega
   exact Zey
  ·have hn':n=mg a.toNat*2^nk (nM a)*2^37:=by
    have:(2:Nat)^37=68719476736*2:=rfl;omega
   exact Zey
 rw[hval,hst]at h2;have key:=hnear.unique h2;unfold DA;rw[hr];show((wd false r:Nat):Int)=_;rw[Bt,CP,BG,Hy,←key]
def rrel(n k root:Nat):Prop:=root*root<=n/\n<(root+2^k)*(root+2^k)/\root+2^k<=4294967296
def RT(k:Nat):Int:=if k=0 then 0 else 2^(k-1)
theorem RV(k:Nat):RT (k+1)=2^k:=by unfold RT;rw[if_neg oM];rfl
theorem RU(k:Nat):(2:Int)^k/2=RT k:=by
 unfold RT;rcases Nat.eq_zero_or_pos k with c|c
 ·subst c;rfl
 ·rw[if_neg oM];obtain⟨j,rfl⟩:∃j,k=j+1:=⟨k-1,oM⟩
  rw[Int.pow_succ,Nat.add_sub_cancel];omega
theorem T7(a:Int)(h0:0<=a)(h1:a<4294967296)(hia:DD a=false)(hna:BK a=false)(za:nM a≠0)(hs:B8 a=false)(w:World):
 Calls prog 149 #[.int .i64 a] w fun e w'=>e=.returned (.int .i64 (DA a))/\Below w.heap.size w w':=by
 obtain⟨ra,a1,a2,a3,a4,a5⟩:=BM a h0 h1 hia hna;obtain⟨ka,A1,A2⟩:=EX (nM a) oM a2;obtain⟨A,hA⟩:∃A,nM a*2^nk (nM a)=A:=⟨_,rfl⟩
 obtain⟨EA,hEA⟩:∃EA,nE a-(nk (nM a):Int)=EA:=⟨_,rfl⟩
 have hv:=Sj a h0 h1 hia hna za hs;rw[hA,hEA]at hv;rw[hA]at A1 A2;have eb: -172<=EA/\EA<=104:=oM;clear ra a5;have HV:Hid (∀ (root n:Nat) (e:Int),e%2=0->((n:Int)=A*68719476736/\e=EA-36\/(n:Int)=A*68719476736*2/\e=EA-37)->root*root<=n->n<(root+1)*(root+1)->DA a=(Ieee.single.nearest false (2*root+(if root*root<n then 1 else 0)) (e/2-1):Nat)):=fun root n e p q r s=>hv root n e p q r s;clear hv;generalize hF:DA a=F at *;clear hF;by_cases c:EA%2=0
 ·skip
  obtain⟨N,hN⟩:∃N:Int,A*68719476736=N:=⟨_,rfl⟩
  obtain⟨e,he⟩:∃e:Int,EA-36=e:=⟨_,rfl⟩
  obtain⟨E2,hE2⟩:∃E2:Int,e/2=E2:=⟨_,rfl⟩
  have hNb:576460752303423488<=N/\N<2305843009213693952:=oM;obtain⟨n,hn⟩:∃n:Nat,(n:Int)=N:=⟨N.toNat,oM⟩
  have hv2:=fun root=>HV.out root n e oM (Or.inl ⟨oM,oM⟩);rw[hE2]at hv2;have htd:e.tdiv 2=E2:=by rw[←hE2,Int.tdiv_eq_ediv];split<;>omega
  have hodd:e.tmod 2=0:=by rw[Int.tmod_eq_emod];split<;>omega
  exact Zai
 ·skip
  have hodd:(EA-36).tmod 2≠0:=by rw[Int.tmod_eq_emod];split<;>omega
  obtain⟨N,hN⟩:∃N:Int,A*68719476736*2=N:=⟨_,rfl⟩
  obtain⟨e,he⟩:∃e:Int,EA-36-1=e:=⟨_,rfl⟩
  obtain⟨E2,hE2⟩:∃E2:Int,e/2=E2:=⟨_,rfl⟩
  have hNb:576460752303423488<=N/\N<2305843009213693952:=oM;obtain⟨n,hn⟩:∃n:Nat,(n:Int)=N:=⟨N.toNat,oM⟩
  have hv2:=fun root=>HV.out root n e oM (Or.inr ⟨oM,oM⟩);rw[hE2]at hv2;have htd:e.tdiv 2=E2:=by rw[←hE2,Int.tdiv_eq_ediv];split<;>omega
  exact Zai
theorem T6(a:Int)(h0:0<=a)(h1:a<4294967296)(w:World):
 Calls prog 149 #[.int .i64 a] w fun e w'=>e=.returned (.int .i64 (DA a))/\Below w.heap.size w w':=by
 cases hna:BK a
 ·cases hia:DD a
  ·by_cases za:nM a=0
   ·obtain⟨ra,a1,a2,a3,a4,a5⟩:=BM a h0 h1 hia hna;have hv:DA a=a:=by
     rw[FT a ra,za];have e:((Ieee.single.nearest (B8 a) 0 (nE a):Nat):Int)=Hr (B8 a):=Gh _ _;show((Ieee.single.nearest (B8 a) 0 (nE a):Nat):Int)=a;rw[e];have h2:=MM a h0 h1 hia hna;have h3:=EE a h0 h1;have h4:rg a.toNat=0:=by
      have:mg a.toNat=0:=oM;unfold mg at this;split at this<;>omega
     rw[h2.2.1,h4]at h3;unfold Hr;omega
    rw[hv];clear hv ra a5;go_enter func149,ntmps149;exact TY
   ·cases hs:B8 a
    ·exact T7 a h0 h1 hia hna za hs w
    ·obtain⟨ra,a1,a2,a3,a4,a5⟩:=BM a h0 h1 hia hna;have hv:DA a=2143289344:=by
      rw[FT a ra,hs];have:(nM a).toNat≠0:=oM;simp only[Ieee.Datum.root,if_neg this,if_true];rfl
     rw[hv];clear hv ra a5;go_enter func149,ntmps149;exact TY
  ·obtain⟨ra,-,a1⟩:=Dw a h0 h1 hia;cases hs:B8 a
   ·have hv:DA a=a:=by
     rw[FT a ra,hs];have h2:rg a.toNat=2139095040:=by
      rcases Nat.lt_trichotomy (rg a.toNat) 2139095040 with c|c|c
      ·rw[Cr _ c]at ra;cases ra
      ·exact c
      ·rw[Ei _ c]at ra;cases ra
     have h3:=EE a h0 h1;rw[←Mx a h0 h1,hs,h2]at h3;show((Ieee.single.write (.infinity false):Nat):Int)=a;rw[Ce];unfold Hr;omega
    rw[hv];clear hv ra;go_enter func149,ntmps149;exact TY
   ·have hv:DA a=2143289344:=by rw[FT a ra,hs];rfl
    rw[hv];clear hv ra;go_enter func149,ntmps149;exact TY
 ·have hv:DA a=2143289344:=by
   obtain⟨s,t,e⟩:=Fl a h0 h1 hna;rw[FT a e];rfl
  rw[hv];clear hv;go_enter func149,ntmps149;exact TY
theorem Ia{w:World}{a:Addr}{v:Value}(h:w.cell? a=some v):a.block<w.heap.size:=by
 rcases Nat.lt_or_ge a.block w.heap.size with c|c
 ·exact c
 ·have:w.heap[a.block]? =none:=Array.getElem?_eq_none c;simp[World.cell?,this]at h
theorem PC(w:World)(o:Obj):Below w.heap.size w (w.alloc o):=(Below.refl _ _).alloc (Nat.le_refl _) o
section
variable {w : World} {cs : List (Addr × Value)} {g : Nat} {x y : Value} {v v' : World}
end
def Bb(w:World)(p:Option Addr)(n:Nat)(X:Nat->Value):Prop:=n=0\/∃b o,p=some ⟨b,o,none⟩/\∀i,i<n->w.cell? ⟨b,o+i,none⟩=some (X i)
theorem Bb.below{w w':World}{p:Option Addr}{n:Nat}{X:Nat->Value}(h:Bb w p n X)(k:Below w.heap.size w w'):Bb w' p n X:=by
 rcases h with h|⟨b,o,e,h⟩
 ·exact .inl h
 ·exact .inr ⟨b,o,e,fun i hi=>(k.cell (Ia (h i hi))).trans (h i hi)⟩
theorem Bb.congr{w:World}{p:Option Addr}{n:Nat}{X Y:Nat->Value}(h:Bb w p n X)(e:∀i,i<n->X i=Y i):Bb w p n Y:=by
 rcases h with h|⟨b,o,q,h⟩
 ·exact .inl h
 ·exact .inr ⟨b,o,q,fun i hi=>by rw[h i hi,e i hi]⟩

def nums(X:Nat->Int)(n:Nat):List Value:=(List.range n).map fun i=>.int .u32 (X i)
structure Rk where
 by_:Ac
 of_:Ty
 deriving DecidableEq
structure RW where
 ins:Nat->Nat
 hold:Rk->Option Nat
 reck:List Rk
 opn:List Nat
 left:List Ac
def Aa(i:Ac):Bool:=decide ((A4 i.op).d≠0)
def Ar(l:List Ac)(r:Nat):Bool:=(l.filter fun i=>Aa i&&decide (i.d.toNat=r)).length==1
def A3(s:RW)(i:Ac):Ac:=
 {i with a:=if(A4 i.op).a=0 then i.a else(s.ins i.a.toNat:Int),b:=if(A4 i.op).b=0 then i.b else(s.ins i.b.toNat:Int),c:=if(A4 i.op).c=0 then i.c else(s.ins i.c.toNat:Int)}
def Bx(l:List Ac)(i:Ac):Bool:=Aa i&&(Ar l i.d.toNat&&(Ab i (A4 i.op)).all fun r=>Ar l r.toNat)
def DV(c:Cd)(i:Ac):Rk:=⟨{i with d:=0},A7 c.regs i.d⟩
def AR(c:Cd)(s:RW)(i:Ac):Option Nat:=
 if Bx c.list i then
  if i.op=3 then(if A7 c.regs i.a=A7 c.regs i.d then some i.a.toNat else none)else s.hold (DV c i)
 else none
def Iz(s:RW)(k:Nat):RW:={s with hold:=fun r=>if r∈s.reck.drop k then none else s.hold r,reck:=s.reck.take k}
def Do(s:RW):RW:={Iz s (s.opn.getLastD 0)with opn:=s.opn.dropLast}
def AF(c:Cd)(s:RW)(i:Ac):RW:=
 if i.op=34 then{s with left:=s.left++[i],opn:=s.opn++[s.reck.length]}
 else if i.op=35 then Do {s with left:=s.left++[i]}
 else if(i.op≠32/\i.op≠3)/\Bx c.list i then{s with left:=s.left++[i],hold:=fun r=>if r=DV c i then some i.d.toNat else s.hold r,reck:=s.reck++[DV c i]}
 else{s with left:=s.left++[i]}
def AX(c:Cd)(s:RW)(i:Ac):RW:=
 match AR c s (A3 s i)with
 |some r=>{s with ins:=fun k=>if k=i.d.toNat then r else s.ins k}
 |none=>AF c s (A3 s i)
def Ci:RW:=⟨id,fun _=>none,[],[],[]⟩
def Cg(c:Cd):List Ac:=(c.list.foldl (AX c) Ci).left
def AI(c:Cd):Cd:={c with list:=Cg c}
inductive Qs(ins:Nat->Nat)(hold:Rk->Option Nat):List Nat->List Nat->List Rk->List Bk->List Bk->List Nat->Prop where
 |nil {X X':List Nat} {K:List Rk}:Qs ins hold X X' K [] [] []
 |loop {X X':List Nat} {K:List Rk} {o o':List Bk} {k:List Nat} {p:Int} {a a':Nat} (h:Qs ins hold X X' K o o' k):Qs ins hold X X' K (⟨true,p,a⟩::o) (⟨true,p,a'⟩::o') k
 |when {X X':List Nat} {K:List Rk} {o o':List Bk} {k:List Nat} {p:Int} {a a' m:Nat} (h1:a<=X.length) (h2:a'<=X'.length) (h3:m<=K.length) (h4:∀r∈X.take a,ins r∈X'.take a') (h5:∀q∈K.take m,∃g,hold q=some g/\g∈X'.take a')
  (h:Qs ins hold (X.take a) (X'.take a') (K.take m) o o' k):Qs ins hold X X' K (⟨false,p,a⟩::o) (⟨false,p,a'⟩::o') (k++[m])
theorem Qs.grow{ins ins2:Nat->Nat}{hold hold2:Rk->Option Nat}{X X':List Nat}{K:List Rk}{o o':List Bk}{k:List Nat}(h:Qs ins hold X X' K o o' k):∀ (Y Y':List Nat) (J:List Rk),(∀r∈X,ins2 r=ins r)->(∀q∈K,hold2 q=hold q)->Qs ins2 hold2 (X++Y) (X'++Y') (K++J) o o' k:=by
 induction h with
 |nil=>exact fun _ _ _ _ _=>.nil
 |loop h ih=>exact fun Y Y' J hi hh=>.loop (ih Y Y' J hi hh)
 |@when X1 X1' K1 o1 o1' k1 p1 a1 a1' m1 h1 h2 h3 h4 h5 h ih=>
  intro Y Y' J hi hh;have hi':∀r∈X1.take a1,ins2 r=ins r:=fun r hr=>hi r (List.mem_of_mem_take hr);have hh':∀q∈K1.take m1,hold2 q=hold q:=fun q hq=>hh q (List.mem_of_mem_take hq);have h6:=ih [] [] [] hi' hh';simp only[List.append_nil]at h6;refine .when sO sO sO ?_ ?_ ?_
  ·rw[List.take_append_of_le_length h1,List.take_append_of_le_length h2];exact fun r hr=>by rw[hi' r hr];exact h4 r hr
  ·rw[List.take_append_of_le_length h3,List.take_append_of_le_length h2];exact fun q hq=>by rw[hh' q hq];exact h5 q hq
  ·rw[List.take_append_of_le_length h1,List.take_append_of_le_length h2,List.take_append_of_le_length h3];exact h6
theorem Qs.len{ins:Nat->Nat}{hold:Rk->Option Nat}{X X':List Nat}{K:List Rk}{o o':List Bk}{k:List Nat}(h:Qs ins hold X X' K o o' k):o.length=o'.length:=by
 induction h with
 |nil=>rfl
 |loop h ih=>simp[ih]
 |when h1 h2 h3 h4 h5 h ih=>simp[ih]
theorem Qs.inner{ins:Nat->Nat}{hold:Rk->Option Nat}{X X':List Nat}{K:List Rk}{o o':List Bk}{k:List Nat}(h:Qs ins hold X X' K o o' k)(U V:List Nat):Aj ⟨U,o⟩=Aj ⟨V,o'⟩/\BV ⟨U,o⟩=BV ⟨V,o'⟩/\o.isEmpty=o'.isEmpty:=by
 cases h<;>exact⟨rfl,rfl,rfl⟩
structure CF(c:Cd)(L:List Ac)(s:RW)(x x':Wk):Prop where
 ty:∀r,r<c.regs.length->s.ins r<c.regs.length/\A7 c.regs (s.ins r:Int)=A7 c.regs (r:Int)
 set:∀r∈x.set,s.ins r∈x'.set
 was:∀r∈x.set,∃i∈L,Aa i=true/\i.d.toNat=r
 same:∀r,s.ins r=r\/(Ar c.list r=true/\∃i∈L,Aa i=true/\i.d.toNat=r)
 reck:∀k,(s.hold k).isSome=true↔k∈s.reck
 nodup:s.reck.Nodup
 hold:∀k g,s.hold k=some g->g∈x'.set/\g<c.regs.length/\A7 c.regs (g:Int)=k.of_
 opens:Qs s.ins s.hold x.set x'.set s.reck x.opens x'.opens s.opn
theorem CF.start(c:Cd):CF c [] Ci ⟨[],[]⟩ ⟨[],[]⟩:=
 ⟨fun r h=>⟨h,rfl⟩,fun r h=>Xh,fun r h=>Xh,fun r=>.inl rfl,fun k=>(by simp[Ci]),List.nodup_nil,fun k g h=>Xh,.nil⟩
theorem Hi{l:List Ty}{n:Int}(h:0<=n):A7 l n=A7 l (n.toNat:Int):=by rw[Int.toNat_of_nonneg h]
theorem Fw{L R:List Ac}{i:Ac}(hs:Aa i=true)(h:Ar (L++i::R) i.d.toNat=true):∀j∈L,Aa j=true->j.d.toNat≠i.d.toNat:=by
 intro j hj hsj e;unfold Ar at h;simp only[beq_iff_eq,List.filter_append,List.length_append]at h;have h1:0<(L.filter fun q=>Aa q&&decide (q.d.toNat=i.d.toNat)).length:=List.length_pos_iff.2 fun e9=>by
  have:j∈L.filter fun q=>Aa q&&decide (q.d.toNat=i.d.toNat):=List.mem_filter.2 ⟨hj,by simp[hsj,e]⟩;rw[e9]at this;cases this
 have h2:0<((i::R).filter fun q=>Aa q&&decide (q.d.toNat=i.d.toNat)).length:=List.length_pos_iff.2 fun e9=>by
  have:i∈(i::R).filter fun q=>Aa q&&decide (q.d.toNat=i.d.toNat):=List.mem_filter.2 ⟨List.mem_cons_self,by simp[hs]⟩;rw[e9]at this;cases this
 omega
theorem Ft{i:Ac}(h:Aa i=true):i.op≠34/\i.op≠35/\i.op≠36/\i.op≠37:=by
 unfold Aa at h;simp only[decide_eq_true_eq]at h;refine⟨?_,?_,?_,?_⟩<;>(intro e;rw[e]at h;exact h dE)
theorem To{s:Wk}{i:Ac}(h:Aa i=true):BJ s i=s:=by
 obtain⟨h1,h2,h3,h4⟩:=Ft h;unfold BJ;rw[if_neg oM,if_neg oM]
theorem Jw{c:Cd}{ins:Nat->Nat}(ty:∀r,r<c.regs.length->ins r<c.regs.length/\A7 c.regs (ins r:Int)=A7 c.regs (r:Int)){l n:Int}{m:Ty}(h:Ag c.regs l n m=true):Ag c.regs l (if l=0 then n else(ins n.toNat:Int)) m=true:=by
 by_cases hl:l=0
 ·rw[if_pos hl];exact h
 ·rw[if_neg hl];obtain⟨h0,h1⟩:=Ae h hl;obtain⟨t1,t2⟩:=ty n.toNat oM;unfold Ag at h ⊢;rw[if_neg hl]at h ⊢;simp only[Bool.and_eq_true]at h ⊢;rw[t2,←Hi h0];exact⟨Br.2 ⟨oM,oM⟩,h.2⟩
theorem UO{c:Cd}{s:RW}(ty:∀r,r<c.regs.length->s.ins r<c.regs.length/\A7 c.regs (s.ins r:Int)=A7 c.regs (r:Int)){i:Ac}(h:AJ c i (A4 i.op)=true):AB c.regs (A3 s i) (A4 i.op)=AB c.regs i (A4 i.op):=by
 unfold AB Ex A3;simp only;by_cases hd:(A4 i.op).d=0
 ·rw[if_pos hd,if_pos hd];by_cases ha:(A4 i.op).a=0
  ·rw[if_pos ha]
  ·rw[if_neg ha];obtain⟨h0,h1⟩:=Ae (BD h) ha;rw[(ty i.a.toNat oM).2,←Hi h0]
 ·rw[if_neg hd,if_neg hd]
theorem E3{c:Cd}{L:List Ac}{s:RW}{x x':Wk}(h:CF c L s x x'){i:Ac}(t:Aq c x i=true):Aq c x' (A3 s i)=true:=by
 obtain⟨t1,t2,t3,t4⟩:=Ah t;have hm:=UO h.ty t2;have hop:(A3 s i).op=i.op:=rfl;unfold Aq;rw[hop];simp only[Bool.and_eq_true];refine⟨t1,?_,?_,?_⟩
 ·unfold AJ at t2 ⊢;rw[hm];simp only[Bool.and_eq_true]at t2 ⊢;obtain⟨f1,f2,f3,f4,f5⟩:=t2;exact⟨f1,Jw h.ty f2,Jw h.ty f3,Jw h.ty f4,f5⟩
 ·obtain⟨q1,q2,q3⟩:=h.opens.inner x.set x'.set;have q4:=h.opens.len;unfold At at t3 ⊢;have e1:Aj x'=Aj x:=q1.symm;have e2:BV x'=BV x:=q2.symm;rw[hop,hm,e1,e2,←q3,←q4];exact t3
 ·unfold Dr Ab at t4 ⊢;rw[List.all_eq_true]at t4 ⊢;intro n hn;simp only[List.mem_append]at hn t4;have key:∀m:Int,(m=i.a/\(A4 i.op).a≠0\/m=i.b/\(A4 i.op).b≠0\/m=i.c/\(A4 i.op).c≠0)->s.ins m.toNat∈x'.set:=fun m hm'=>h.set _ (by
   have:=t4 m (by
    rcases hm' with⟨rfl,q⟩|⟨rfl,q⟩|⟨rfl,q⟩
    ·exact .inl OV
    ·exact .inr (.inl OV)
    ·exact .inr (.inr OV))
   simpa using this)
  simp only[decide_eq_true_eq];unfold A3 at hn;simp only at hn;rcases hn with hn|hn|hn
  ·by_cases q:(A4 i.op).a=0
   ·rw[if_pos q]at hn;cases hn
   ·rw[if_neg q,if_neg q]at hn;simp at hn;subst hn;exact key i.a (.inl ⟨rfl,q⟩)
  ·by_cases q:(A4 i.op).b=0
   ·rw[if_pos q]at hn;cases hn
   ·rw[if_neg q,if_neg q]at hn;simp at hn;subst hn;exact key i.b (.inr (.inl ⟨rfl,q⟩))
  ·by_cases q:(A4 i.op).c=0
   ·rw[if_pos q]at hn;cases hn
   ·rw[if_neg q,if_neg q]at hn;simp at hn;subst hn;exact key i.c (.inr (.inr ⟨rfl,q⟩))
theorem Dn{c:Cd}{s:RW}{i:Ac}{g:Nat}(h:AR c s i=some g):Bx c.list i=true:=by
 unfold AR at h;split at h
 ·assumption
 ·cases h
theorem AQ{l:List Ac}{i:Ac}(h:Bx l i=true):Aa i=true/\Ar l i.d.toNat=true/\∀r∈Ab i (A4 i.op),Ar l r.toNat=true:=by
 unfold Bx at h;simp only[Bool.and_eq_true,List.all_eq_true]at h;exact h
theorem QV{c:Cd}{L R:List Ac}{s:RW}{x x':Wk}{i:Ac}(h:CF c L s x x')(hl:c.list=L++i::R)(hs:Aa i=true)(hst:Ar c.list i.d.toNat=true):i.d.toNat∉x.set:=fun hm=>by
 obtain⟨j,hj,h1,h2⟩:=h.was _ hm;rw[hl]at hst;exact Fw hs hst j hj h1 h2
theorem DO{c:Cd}{x:Wk}{i:Ac}(t:Aq c x i=true)(hs:Aa i=true):0<=i.d/\i.d<(c.regs.length:Int):=by
 obtain⟨_,t2,_,_⟩:=Ah t;unfold Aa at hs;exact Ae (Du t2) (by simpa using hs)
theorem M4{x:Wk}{i:Ac}(hs:Aa i=true):Af x i=CG x i (A4 i.op):=by
 unfold Af Di;rw[To hs]
theorem NH{c:Cd}{L:List Ac}{s:RW}{x x':Wk}{i:Ac}(h:CF c L s x x')(t:Aq c x i=true){g:Nat}(hh:AR c s (A3 s i)=some g):g∈x'.set/\g<c.regs.length/\A7 c.regs (g:Int)=A7 c.regs i.d:=by
 have hw:=Dn hh;obtain⟨t1,t2,t3,t4⟩:=Ah t;unfold AR at hh;rw[if_pos hw]at hh;by_cases h3:(A3 s i).op=3
 ·rw[if_pos h3]at hh;have h3':i.op=3:=h3;have ha:(A4 i.op).a≠0:=by rw[h3'];decide
  have ea:(A3 s i).a=(s.ins i.a.toNat:Int):=by unfold A3;simp only;rw[if_neg ha]
  obtain⟨a0,a1⟩:=Ae (BD t2) ha;obtain⟨q1,q2⟩:=h.ty i.a.toNat oM;rw[ea]at hh;split at hh
  ·rename_i e;simp only[Int.toNat_natCast,Option.some.injEq]at hh;subst hh;refine⟨h.set _ ?_,q1,e⟩;unfold Dr Ab at t4;rw[List.all_eq_true]at t4;have:=t4 i.a (by rw[if_neg ha];simp);simpa using this
  ·cases hh
 ·rw[if_neg h3]at hh;exact h.hold _ _ hh
theorem Gd{c:Cd}{L R:List Ac}{s:RW}{x x':Wk}{i:Ac}(h:CF c L s x x')(hl:c.list=L++i::R)(t:Aq c x i=true){g:Nat}(hh:AR c s (A3 s i)=some g):
 CF c (L++[i]) {s with ins:=fun k=>if k=i.d.toNat then g else s.ins k} (Af x i) x':=by
 obtain⟨w1,w2,w3⟩:=AQ (Dn hh);have w1':Aa i=true:=w1;have w2':Ar c.list i.d.toNat=true:=w2;obtain⟨g1,g2,g3⟩:=NH h t hh;have hn:=QV h hl w1' w2';obtain⟨d0,d1⟩:=DO t w1';have hst:Af x i=⟨x.set++[i.d.toNat],x.opens⟩:=by
  rw[M4 w1'];unfold CG;rw[if_pos ⟨by unfold Aa at w1';simpa using w1',hn⟩]
 rw[hst];have hne:∀r∈x.set,(if r=i.d.toNat then g else s.ins r)=s.ins r:=fun r hr=>if_neg (fun e:r=i.d.toNat=>hn (by rw[←e];exact hr));refine⟨fun r hr=>?_,fun r hr=>?_,fun r hr=>?_,fun r=>?_,h.reck,h.nodup,h.hold,?_⟩
 ·simp only;by_cases e:r=i.d.toNat
  ·rw[if_pos e,e];exact⟨g2,by rw[g3,Hi d0]⟩
  ·rw[if_neg e];exact h.ty r hr
 ·simp only at hr ⊢;rcases List.mem_append.1 hr with hr|hr
  ·rw[hne r hr];exact h.set r hr
  ·simp at hr;rw[if_pos hr];exact g1
 ·simp only at hr;rcases List.mem_append.1 hr with hr|hr
  ·obtain⟨j,hj,q⟩:=h.was r hr;exact⟨j,List.mem_append.2 (.inl hj),q⟩
  ·simp at hr;exact⟨i,sM,w1',hr.symm⟩
 ·simp only;by_cases e:r=i.d.toNat
  ·exact .inr ⟨by rw[e];exact w2',i,sM,w1',e.symm⟩
  ·rw[if_neg e];rcases h.same r with q|⟨q,j,hj,k⟩
   ·exact .inl q
   ·exact .inr ⟨q,j,List.mem_append.2 (.inl hj),k⟩
 ·have:=h.opens.grow (ins2:=fun k=>if k=i.d.toNat then g else s.ins k) (hold2:=s.hold) [i.d.toNat] [] [] hne (fun _ _=>rfl);simpa using this
theorem CS(c:Cd)(s:RW)(i:Ac):(AF c s i).left=s.left++[i]/\(AF c s i).ins=s.ins:=by
 unfold AF Do Iz;split
 ·exact⟨rfl,rfl⟩
 ·split
  ·exact⟨rfl,rfl⟩
  ·split<;>exact⟨rfl,rfl⟩
theorem CF.more{c:Cd}{L:List Ac}{s:RW}{x x':Wk}(h:CF c L s x x')(i:Ac):(∀r∈x.set,∃j∈L++[i],Aa j=true/\j.d.toNat=r)/\∀r,s.ins r=r\/(Ar c.list r=true/\∃j∈L++[i],Aa j=true/\j.d.toNat=r):=
 ⟨fun r hr=>by obtain⟨j,hj,q⟩:=h.was r hr;exact⟨j,List.mem_append.2 (.inl hj),q⟩,fun r=>by
  rcases h.same r with q|⟨q,j,hj,k⟩
  ·exact .inl q
  ·exact .inr ⟨q,j,List.mem_append.2 (.inl hj),k⟩⟩
theorem MF{s:Wk}{i:Ac}(h:Aa i=false):CG s i (A4 i.op)=s:=by
 unfold CG;rw[if_neg];unfold Aa at h;simp only[decide_eq_false_iff_not,Decidable.not_not]at h;exact fun e=>e.1 h
theorem Kk{α:Type}{l:List α}{m:Nat}{x:α}(hn:l.Nodup)(h:x∈l.take m):x∉l.drop m:=fun k=>by
 rw[←List.take_append_drop m l,List.nodup_append]at hn;exact hn.2.2 x h x k rfl
theorem M9{s:Wk}{i:Ac}(e:i.op=34):BJ s i=⟨s.set,⟨false,i.n,s.set.length⟩::s.opens⟩:=by
 unfold BJ;rw[if_pos (.inl e)];have b:(i.op==36)=false:=by rw[e];decide
 rw[b]
theorem M8{s:Wk}{i:Ac}(e:i.op=36):BJ s i=⟨s.set,⟨true,i.n,s.set.length⟩::s.opens⟩:=by
 unfold BJ;rw[if_pos (.inr e)];have b:(i.op==36)=true:=by rw[e];decide
 rw[b]
theorem Fy{s:Wk}{i:Ac}(e:i.op=35\/i.op=37):BJ s i=AG s:=by
 unfold BJ;rw[if_neg oM,if_pos e]
theorem M3(c:Cd)(s:RW){i:Ac}(e:i.op=34):AF c s i={s with left:=s.left++[i],opn:=s.opn++[s.reck.length]}:=by unfold AF;rw[if_pos e]
theorem OA(c:Cd)(s:RW){i:Ac}(e:i.op=35):AF c s i=Do {s with left:=s.left++[i]}:=by unfold AF;rw[if_neg oM,if_pos e]
theorem Sz{c:Cd}{L:List Ac}{s:RW}{x x':Wk}{i i':Ac}(h:CF c L s x x')(t:Aq c x i=true)(e1:i'.op=i.op)(e2:i'.n=i.n)(ho:i.op=34\/i.op=35\/i.op=36\/i.op=37):
 CF c (L++[i]) (AF c s i') (Af x i) (Af x' i'):=by
 have hns:Aa i=false:=by
  unfold Aa;rcases ho with e|e|e|e<;>(rw[e];decide)
 have hns':Aa i'=false:=by unfold Aa at hns ⊢;rw[e1];exact hns
 obtain⟨m1,m2⟩:=h.more i;have hsx:Af x i=BJ x i:=by unfold Af Di;exact MF hns
 have hsx':Af x' i'=BJ x' i':=by unfold Af Di;exact MF hns'
 rw[hsx,hsx'];obtain⟨-,-,t3,-⟩:=Ah t;rcases ho with e|e|e|e
 ·rw[M9 e,M9 (e1.trans e),M3 c s (e1.trans e),e2];refine⟨h.ty,h.set,m1,m2,h.reck,h.nodup,h.hold,.when (Nat.le_refl _) (Nat.le_refl _) (Nat.le_refl _) ?_ ?_ ?_⟩
  ·rw[List.take_length,List.take_length];exact h.set
  ·rw[List.take_length,List.take_length];intro q hq;obtain⟨g,hg⟩:=Option.isSome_iff_exists.1 ((h.reck q).2 hq);exact⟨g,hg,(h.hold q g hg).1⟩
  ·rw[List.take_length,List.take_length,List.take_length];exact h.opens
 ·rw[Fy (.inl e),Fy (.inl (e1.trans e)),OA c s (e1.trans e)];unfold At at t3;rw[if_neg oM,if_pos e]at t3;simp only[Bool.and_eq_true,Bool.not_eq_true']at t3;obtain⟨X,O⟩:=x;obtain⟨X',O'⟩:=x';have ho:=h.opens;simp only at ho t3;obtain⟨ins,hold,reck,opn,left⟩:=s;simp only at ho;cases ho with
  |nil=>simp at t3
  |loop h9=>simp[Aj]at t3
  |@when _ _ _ o o' k p a a' m h1 h2 h3 h4 h5 h6=>
   have hl1:(k++[m]).getLastD 0=m:=sM;have hl2:(k++[m]).dropLast=k:=sM;unfold AG Do Iz;simp only[hl1,hl2,Bool.false_eq_true,if_false];have hnd:reck.Nodup:=h.nodup;have hk2:∀q∈reck.take m,(if q∈reck.drop m then none else hold q)=hold q:=fun q hq=>if_neg (Kk hnd hq);refine⟨h.ty,h4,fun r hr=>m1 r (List.mem_of_mem_take hr),m2,fun q=>?_,(List.take_sublist _ _).nodup hnd,fun q g hq=>?_,?_⟩
   ·simp only;by_cases hd:q∈reck.drop m
    ·rw[if_pos hd];simp only[Option.isSome_none,Bool.false_eq_true,false_iff];exact fun hq=>Kk hnd hq hd
    ·rw[if_neg hd];rw[h.reck q];show q∈reck↔_;rw[←List.take_append_drop m reck,List.mem_append];simp only[List.take_append_drop];exact⟨fun w=>w.resolve_right hd,.inl⟩
   ·simp only at hq;by_cases hd:q∈reck.drop m
    ·rw[if_pos hd]at hq;cases hq
    ·rw[if_neg hd]at hq;have hqr:q∈reck:=(h.reck q).1 (by show(hold q).isSome=true;rw[hq];rfl);rw[←List.take_append_drop m reck,List.mem_append]at hqr;obtain⟨g',hg',hgm⟩:=h5 q (hqr.resolve_right hd);rw[hq]at hg';obtain rfl:=Option.some.inj hg';exact⟨hgm,(h.hold q g hq).2⟩
   ·have h7:=h6.grow (ins2:=ins) (hold2:=fun q=>if q∈reck.drop m then none else hold q) [] [] [] (fun _ _=>rfl) hk2;simpa using h7
 ·have hst:AF c s i'={s with left:=s.left++[i']}:=by
   unfold AF;rw[if_neg oM,if_neg oM,if_neg];intro q;have:=(AQ q.2).1;rw[hns']at this;cases this
  rw[hst,M8 e,M8 (e1.trans e),e2];exact⟨h.ty,h.set,m1,m2,h.reck,h.nodup,h.hold,.loop h.opens⟩
 ·have hst:AF c s i'={s with left:=s.left++[i']}:=by
   unfold AF;rw[if_neg oM,if_neg oM,if_neg];intro q;have:=(AQ q.2).1;rw[hns']at this;cases this
  rw[hst,Fy (.inr e),Fy (.inr (e1.trans e))];unfold At at t3;rw[if_neg oM,if_neg oM,if_pos e]at t3;obtain⟨X,O⟩:=x;obtain⟨X',O'⟩:=x';have ho:=h.opens;simp only at ho t3;clear hst;obtain⟨ins,hold,reck,opn,left⟩:=s;simp only at ho;cases ho with
  |nil=>simp[Aj]at t3
  |loop h9=>exact⟨h.ty,h.set,m1,m2,h.reck,h.nodup,h.hold,h9⟩
  |when h1 h2 h3 h4 h5 h6=>simp[Aj]at t3
theorem F3{c:Cd}{L R:List Ac}{s:RW}{x x':Wk}{i:Ac}(h:CF c L s x x')(hl:c.list=L++i::R)(t:Aq c x i=true)(hh:AR c s (A3 s i)=none):
 CF c (L++[i]) (AF c s (A3 s i)) (Af x i) (Af x' (A3 s i)):=by
 by_cases ho:i.op=34\/i.op=35\/i.op=36\/i.op=37
 ·exact Sz h t rfl rfl ho
 have hop:(A3 s i).op=i.op:=rfl;have hdd:(A3 s i).d=i.d:=rfl;have hs':Aa (A3 s i)=Aa i:=rfl;obtain⟨m1,m2⟩:=h.more i;have hsx:Af x i=CG x i (A4 i.op):=by
  unfold Af Di BJ;rw[if_neg oM,if_neg oM]
 have hsx':Af x' (A3 s i)=CG x' (A3 s i) (A4 i.op):=by
  unfold Af Di BJ;rw[hop,if_neg oM,if_neg oM]
 rw[hsx,hsx'];cases hs:Aa i with
 |false=>
  have hst:AF c s (A3 s i)={s with left:=s.left++[A3 s i]}:=by
   unfold AF;rw[if_neg Qv,if_neg Qv,if_neg];intro q;have:=(AQ q.2).1;rw[hs',hs]at this;cases this
  have na:CG x' (A3 s i) (A4 i.op)=x':=MF (i:=A3 s i) (by rw[hs'];exact hs);rw[hst,MF hs,na];exact⟨h.ty,h.set,m1,m2,h.reck,h.nodup,h.hold,h.opens⟩
 |true=>
  obtain⟨d0,d1⟩:=DO t hs;have hd0:(A4 i.op).d≠0:=by unfold Aa at hs;simpa using hs
  have hid:s.ins i.d.toNat=i.d.toNat:=by
   rcases h.same i.d.toNat with q|⟨q,j,hj,k1,k2⟩
   ·exact q
   ·rw[hl]at q;exact absurd k2 (Fw hs q j hj k1)
  obtain⟨Y,hY,hYm⟩:∃Y,CG x i (A4 i.op)=⟨x.set++Y,x.opens⟩/\∀r∈Y,r=i.d.toNat:=by
   unfold CG;split
   ·exact⟨[i.d.toNat],rfl,fun r hr=>by simpa using hr⟩
   ·exact⟨[],sM,fun r hr=>by cases hr⟩
  obtain⟨Y',hY',hYm'⟩:∃Y,CG x' (A3 s i) (A4 i.op)=⟨x'.set++Y,x'.opens⟩/\i.d.toNat∈x'.set++Y:=by
   unfold CG;rw[hdd];split
   ·exact⟨[i.d.toNat],rfl,sM⟩
   ·rename_i q;refine⟨[],sM,?_⟩;rw[List.append_nil];exact Decidable.byContradiction fun e=>q ⟨hd0,e⟩
  rw[hY,hY'];have hset:∀r∈x.set++Y,s.ins r∈x'.set++Y':=fun r hr=>by
   rcases List.mem_append.1 hr with hr|hr
   ·exact List.mem_append.2 (.inl (h.set r hr))
   ·rw[hYm r hr,hid];exact hYm'
  have hwas:∀r∈x.set++Y,∃j∈L++[i],Aa j=true/\j.d.toNat=r:=fun r hr=>by
   rcases List.mem_append.1 hr with hr|hr
   ·exact m1 r hr
   ·exact⟨i,sM,hs,(hYm r hr).symm⟩
  by_cases hw:((A3 s i).op≠32/\(A3 s i).op≠3)/\Bx c.list (A3 s i)=true
  ·have hst:AF c s (A3 s i)={s with left:=s.left++[A3 s i],hold:=fun r=>if r=DV c (A3 s i)then some (A3 s i).d.toNat else s.hold r,reck:=s.reck++[DV c (A3 s i)]}:=by
    unfold AF;rw[if_neg Qv,if_neg Qv,if_pos hw]
   have hno:s.hold (DV c (A3 s i))=none:=by
    unfold AR at hh;rw[if_pos hw.2,if_neg hw.1.2]at hh;exact hh
   have hnr:DV c (A3 s i)∉s.reck:=fun q=>by
    have:=(h.reck _).2 q;rw[hno]at this;cases this
   rw[hst];refine⟨h.ty,hset,hwas,m2,fun q=>?_,?_,fun q g hq=>?_,?_⟩
   ·simp only;by_cases e:q=DV c (A3 s i)
    ·rw[if_pos e];simp[e]
    ·rw[if_neg e,h.reck q,List.mem_append];simp[e]
   ·rw[List.nodup_append];refine⟨h.nodup,sM,fun a ha b hb=>?_⟩;simp at hb;subst hb;exact fun e=>hnr (e▸ha)
   ·simp only at hq;by_cases e:q=DV c (A3 s i)
    ·rw[if_pos e,hdd]at hq;obtain rfl:=Option.some.inj hq;refine⟨hYm',oM,?_⟩;rw[e,←Hi d0];rfl
    ·rw[if_neg e]at hq;obtain⟨q1,q2⟩:=h.hold q g hq;exact⟨List.mem_append.2 (.inl q1),q2⟩
   ·exact h.opens.grow Y Y' [DV c (A3 s i)] (fun _ _=>rfl) (fun q hq=>if_neg (fun e:q=DV c (A3 s i)=>hnr (e▸hq)))
  ·have hst:AF c s (A3 s i)={s with left:=s.left++[A3 s i]}:=by
    unfold AF;rw[if_neg Qv,if_neg Qv,if_neg hw]
   rw[hst];refine⟨h.ty,hset,hwas,m2,h.reck,h.nodup,fun q g hq=>?_,?_⟩
   ·obtain⟨q1,q2⟩:=h.hold q g hq;exact⟨List.mem_append.2 (.inl q1),q2⟩
   ·have:=h.opens.grow (ins2:=s.ins) (hold2:=s.hold) Y Y' [] (fun _ _=>rfl) (fun _ _=>rfl);simpa using this
theorem Ig(c:Cd):∀ (R L:List Ac) (s:RW) (x:Wk),c.list=L++R->CF c L s x (CT ⟨[],[]⟩ s.left)->AE c ⟨[],[]⟩ s.left=true->AE c x R=true->
 CF c c.list (R.foldl (AX c) s) (CT x R) (CT ⟨[],[]⟩ (R.foldl (AX c) s).left)/\AE c ⟨[],[]⟩ (R.foldl (AX c) s).left=true
 |[],L,s,x,hl,h,ht,_=>by
  rw[List.append_nil]at hl;subst hl;exact⟨h,ht⟩
 |i::R,L,s,x,hl,h,ht,hr=>by
  have hr':Aq c x i=true/\AE c (Af x i) R=true:=by unfold AE at hr;simpa using hr
  rw[List.foldl_cons];have hl':c.list=(L++[i])++R:=by rw[hl];simp
  unfold AX;cases hh:AR c s (A3 s i)with
  |some g=>exact Ig c R (L++[i]) _ _ hl' (Gd h hl hr'.1 hh) ht hr'.2
  |none=>
   obtain⟨e1,e2⟩:=CS c s (A3 s i);have h2:=F3 h hl hr'.1 hh;refine Ig c R (L++[i]) _ _ hl' ?_ ?_ hr'.2
   ·rw[e1,ED];exact h2
   ·rw[e1,Dx,ht];show AE c (CT ⟨[],[]⟩ s.left) [A3 s i]=true;unfold AE;rw[E3 h hr'.1];rfl
theorem JF(c:Cd):∀ (R:List Ac) (s:RW),(R.foldl (AX c) s).left.length<=s.left.length+R.length
 |[],s=>by simp
 |i::R,s=>by
  rw[List.foldl_cons];have h:=JF c R (AX c s i);have h2:(AX c s i).left.length<=s.left.length+1:=by
   unfold AX;split
   ·simp
   ·rw[(CS c s _).1];simp
  simp only[List.length_cons];omega
theorem JW{c:Cd}(h:(Am c).1=0):(Am (AI c)).1=0:=by
 obtain⟨h1,h2,h3⟩:=EP.1 h;obtain⟨r1,r2⟩:=Ig c c.list [] Ci ⟨[],[]⟩ rfl (CF.start c) rfl h2;have hlen:=JF c c.list Ci;refine EP.2 ⟨Na (x:=Cg c) h1 (by unfold Cg;simpa[Ci]using hlen),?_,?_⟩
 ·show AE ⟨c.sign,c.regs,c.slots,Cg c⟩ _ _=true;rw[IM];exact r2
 ·have:=(r1.opens.inner [] []).2.2;show(CT ⟨[],[]⟩ (Cg c)).opens.isEmpty=true;unfold Cg;rw[←this];exact h3
section
open Go.Maps (Keyed)
theorem YI:laidOutB prog=true:=kR
theorem rk_row:(108:TypeId)<prog.types.size:=of_decide_eq_true kR
theorem YL:(match prog.underlying 108 with |some (.array _ _)|some (.struct _)=>true|_=>false)=true:=by rw[underlying108]
theorem rkK:Keyed prog 108:=Keyed.of_law (deep_law_laid YI (m:=3) oM rk_row kR YL)
def PU(q:Rk):List Value:=[.int .i64 q.by_.op,.int .i64 q.by_.d,.int .i64 q.by_.a,.int .i64 q.by_.b,.int .i64 q.by_.c,.int .i64 q.by_.n,.int .u32 q.by_.bits,.int .i64 q.of_.kind,.int .i64 q.of_.par]
def KU(q:Rk):Value:=.agg #[.int .i64 q.by_.op,.int .i64 q.by_.d,.int .i64 q.by_.a,.int .i64 q.by_.b,.int .i64 q.by_.c,.int .i64 q.by_.n,.int .u32 q.by_.bits,.int .i64 q.of_.kind,.int .i64 q.of_.par]
def D4(n:Int):Prop:= -9223372036854775808<=n/\n<=9223372036854775807
def FH(q:Rk):Prop:=D4 q.by_.op/\D4 q.by_.d/\D4 q.by_.a/\D4 q.by_.b/\D4 q.by_.c/\D4 q.by_.n/\(0<=q.by_.bits/\q.by_.bits<4294967296)/\D4 q.of_.kind/\D4 q.of_.par
theorem wf64{n:Int}(h:D4 n):(Lit.int .i64 n).wf=true:=by
 have h1:IntKind.i64.min= -9223372036854775808:=dE;have h2:IntKind.i64.max=9223372036854775807:=dE;simp only[Lit.wf,Bool.and_eq_true,decide_eq_true_eq,h1,h2];exact h
theorem wf32{n:Int}(h:0<=n/\n<4294967296):(Lit.int .u32 n).wf=true:=by
 have h1:IntKind.u32.min=0:=dE;have h2:IntKind.u32.max=4294967295:=dE;simp only[Lit.wf,Bool.and_eq_true,decide_eq_true_eq,h1,h2];omega
theorem YK:prog.keyType 108=true:=kR
theorem O9:prog.cellsOf 108=9:=kR
theorem R3:prog.cellsOf 44=7:=kR
theorem Zp:prog.cellsOf 46=2:=kR
theorem Vk:prog.cellsOf 3=1:=kR
theorem rk_F:prog.cellsOf 42=1:=kR
theorem YJ:∃m,prog.types.size+1=m+3:=⟨prog.types.size-2,by have:2<=prog.types.size:=of_decide_eq_true kR;omega⟩
theorem UN(d:Nat){n:Int}(h:D4 n):prog.keyLits (d+1) 3 [.int .i64 n]=some [.int .i64 n]:=by
 unfold Program.keyLits;rw[underlying3];simp[wf64 h]
theorem kl_F(d:Nat){n:Int}(h:0<=n/\n<4294967296):prog.keyLits (d+1) 42 [.int .u32 n]=some [.int .u32 n]:=by
 unfold Program.keyLits;rw[underlying42];simp[wf32 h]
theorem kl_ty(d:Nat){t:Ty}(h1:D4 t.kind)(h2:D4 t.par):prog.keyLits (d+2) 46 [.int .i64 t.kind,.int .i64 t.par]=some [.int .i64 t.kind,.int .i64 t.par]:=by
 unfold Program.keyLits;rw[underlying46];simp only;rw[if_pos ⟨by rw[Zp];rfl,kR⟩];simp[UN,h1,h2,Vk]
theorem Y2(d:Nat){i:Ac}(h1:D4 i.op)(h2:D4 i.d)(h3:D4 i.a)(h4:D4 i.b)(h5:D4 i.c)(h6:D4 i.n)(h7:0<=i.bits/\i.bits<4294967296):prog.keyLits (d+2) 44 [.int .i64 i.op,.int .i64 i.d,.int .i64 i.a,.int .i64 i.b,.int .i64 i.c,.int .i64 i.n,.int .u32 i.bits]=some [.int .i64 i.op,.int .i64 i.d,.int .i64 i.a,.int .i64 i.b,.int .i64 i.c,.int .i64 i.n,.int .u32 i.bits]:=by
 unfold Program.keyLits;rw[underlying44];simp only;rw[if_pos ⟨by rw[R3];rfl,kR⟩];simp[UN,kl_F,h1,h2,h3,h4,h5,h6,h7,Vk,rk_F]
theorem ZS{q:Rk}(h:FH q):∃l,keyOf prog 108 (KU q)=some l:=by
 obtain⟨h1,h2,h3,h4,h5,h6,h7,h8,h9⟩:=h;obtain⟨m,hm⟩:=YJ;have hk:prog.keyLits (m+3) 108 (PU q)=some ([.int .i64 q.by_.op,.int .i64 q.by_.d,.int .i64 q.by_.a,.int .i64 q.by_.b,.int .i64 q.by_.c,.int .i64 q.by_.n,.int .u32 q.by_.bits,.int .i64 q.of_.kind,.int .i64 q.of_.par]):=by
  unfold Program.keyLits PU;rw[underlying108];simp only;rw[if_pos ⟨by rw[O9];rfl,kR⟩];simp[Y2,kl_ty,h1,h2,h3,h4,h5,h6,h7,h8,h9,R3,Zp]
 unfold keyOf;rw[underlying108];have hf:(KU q).formed prog 108=true:=by
  unfold KU Value.formed;rw[underlying108];simp[O9]
 simp only[YK,hf,hm,Bool.and_self,if_true];have hc:(KU q).cells.toList=PU q:=rfl;rw[hc,hk];exact⟨_,rfl⟩
noncomputable def litR (q:Rk):Lit:=(keyOf prog 108 (KU q)).getD (.bool false)
theorem EW{q:Rk}(h:FH q):keyOf prog 108 (KU q)=some (litR q):=by
 obtain⟨l,hl⟩:=ZS h;unfold litR;rw[hl];rfl
theorem YH{q p:Rk}(h:KU q=KU p):q=p:=by
 obtain⟨⟨o,d,a,b,c,n,z⟩,⟨k,r⟩⟩:=q;obtain⟨⟨o',d',a',b',c',n',z'⟩,⟨k',r'⟩⟩:=p;unfold KU at h;simp at h;obtain⟨rfl,rfl,rfl,rfl,rfl,rfl,rfl,rfl,rfl⟩:=h;rfl
theorem NM{q p:Rk}(hq:FH q)(hp:FH p)(h:litR q=litR p):q=p:=YH (rkK.inj (EW hq) (by rw[h];exact EW hp))
def CE(w:World)(b n:Nat)(f:Rk->Option Value):Prop:=
 ∃D:DataW Value,w.ownsMap prog 108 hRI b n D/\∀k,FH k->∀zd,D.atKey (litR k) zd=match f k with |some v=>.held v|none=>zd
theorem CE.new(w:World):CE (w.alloc (.map #[] 0)) w.heap.size 0 (fun _=>none):=⟨_,World.ownsMap_made _ _ _ _,fun k _ zd=>rfl⟩
theorem CE.block{w w':World}{b n:Nat}{f:Rk->Option Value}(h:CE w b n f)(hb:w'.heap[b]? =w.heap[b]?):CE w' b n f:=by
 obtain⟨D,⟨es,clock,h0,h1⟩,h2⟩:=h;exact⟨D,⟨es,clock,hb.trans h0,h1⟩,h2⟩
theorem CE.lt{w:World}{b n:Nat}{f:Rk->Option Value}(h:CE w b n f):b<w.heap.size:=by
 obtain⟨D,h1,_⟩:=h;exact h1.lt
theorem CE.below{w w':World}{b n:Nat}{f:Rk->Option Value}(h:CE w b n f)(k:Below w.heap.size w w'):CE w' b n f:=h.block (k.block b h.lt)
theorem ZR{q:Rk}(h:FH q):WideAt.IsKeyLit (litR q):=rkK.key (EW h)
theorem CE.put{w:World}{b n:Nat}{f:Rk->Option Value}(h:CE w b n f)(hn:n<maxLen){t e:TypeId}(ht:prog.underlying t=some (.map 108 e)){k:Rk}(hk:FH k)(v:Value):
 ∃w',(Instr.mapUpdate t (.map (some b)) (KU k) v).run prog w=.ok () w'/\CE w' b (n+1) (fun q=>if q=k then some v else f q)/\w.grownBy w' (some b):=by
 obtain⟨D,h1,h2⟩:=h;obtain⟨w',hrun,r1,r2⟩:=h1.update rkK ht hn (EW hk) (d:=.held v) (ps:=[]) (val:=v) rfl;refine⟨w',hrun,⟨_,r1,fun j hj zd=>?_⟩,r2⟩;by_cases e:j=k
 ·subst e;rw[Maps.atKey_put_same (h1.canon rkK |>.elim fun es hes=>⟨es,hes.1⟩) (ZR hj)];simp
 ·rw[Maps.atKey_put_other (fun he=>e (NM hj hk he)),h2 j hj];simp only[if_neg e]
theorem CE.has{f:Rk->Option Value}{D:DataW Value}{k:Rk}(h:∀zd,D.atKey (litR k) zd=match f k with |some v=>.held v|none=>zd):Maps.has D (litR k)=(f k).isSome:=by
 cases hk:f k with
 |none=>exact Maps.has_false_of_atKey fun z=>by rw[h,hk]
 |some v=>exact Maps.has_true_of_atKey (y:=.held v) fun z=>by rw[h,hk]
theorem CE.look2{w:World}{b n:Nat}{f:Rk->Option Value}(h:CE w b n f){t e:TypeId}(ht:prog.underlying t=some (.map 108 e)){z:Value}(hz:(zeroValue e).run prog w=.ok z w){k:Rk}(hk:FH k):
 (Instr.lookup t (.map (some b)) (KU k) true).run prog w=.ok (.tuple #[(f k).getD z,.bool (f k).isSome]) w:=by
 obtain⟨D,h1,h2⟩:=h;obtain⟨v,ps,hrun,hv⟩:=h1.look_ok rkK ht hz (zd:=.held z) (zp:=[]) rfl (EW hk);rw[hrun,CE.has (h2 k hk)];simp only[hRI,Option.some.injEq,Prod.mk.injEq,h2 k hk]at hv;obtain⟨hv,-⟩:=hv;cases hf:f k with
 |none=>rw[hf]at hv;simp only[DataW.held.injEq]at hv;rw[hv];rfl
 |some u=>rw[hf]at hv;simp only[DataW.held.injEq]at hv;rw[hv];rfl
theorem CE.del{w:World}{b n:Nat}{f:Rk->Option Value}(h:CE w b n f){t e:TypeId}(ht:prog.underlying t=some (.map 108 e)){k:Rk}(hk:FH k)(ty:TypeId):
 ∃w',(Builtin.delete_ #[t,108] ty #[.map (some b),KU k]).run prog w=.ok (.tuple #[]) w'/\CE w' b n (fun q=>if q=k then none else f q)/\w.mapTurned w' b:=by
 obtain⟨D,h1,h2⟩:=h;obtain⟨w',hrun,r1,r2⟩:=h1.drop rkK ht (EW hk) ty;refine⟨w',hrun,⟨_,r1,fun j hj zd=>?_⟩,r2⟩;by_cases e:j=k
 ·subst e;rw[Maps.atKey_del_same];simp
 ·rw[Maps.atKey_del_other (fun he=>e (NM hj hk he)),h2 j hj];simp only[if_neg e]
end
end Go.Proofs.YtcdpmgldkibfiaaGreat
