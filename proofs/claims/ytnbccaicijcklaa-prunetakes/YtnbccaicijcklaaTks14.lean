import Derived.Test.YtnbccaicijcklaaTks1
import Derived.Test.YtnbccaicijcklaaTks11
import Derived.Deep.OwnRows
import Derived.OwnWalk
import Derived.Deep.QuietTactic
import Derived.BigQuiet
import Derived.Deep.AppendLies
import Derived.Shelf.Abstract
import Derived.Maps.AppendAt
import Derived.Laws.AppendOwnNone
import Derived.Deep.RegionHeld3
import Derived.Laws.EntriesVeiled
namespace Go.Proofs.Ytnbccaicijcklaa
open Go.RowKit Go.Proofs.Try
set_option linter.all false
set_option maxRecDepth 100000
set_option maxHeartbeats 16000000
theorem Nr{op:Int}(h:(A4 op).n=9):((op=29\/op=30)/\(A4 op).d=3)\/(op=31/\(A4 op).d=0/\(A4 op).a=3):=by
 have Cc:∀k:Fin 38,(A4 (k.val:Int)).n=9->k.val=29\/k.val=30\/k.val=31:=by decide+kernel
 by_cases hk:An op=true
 ·have hh:1<=op/\op<=37:=by unfold An at hk;simp at hk;exact hk
  have e:((⟨op.toNat,oM⟩:Fin 38).val:Int)=op:=by show((op.toNat:Nat):Int)=op;omega
  have:=Cc ⟨op.toNat,oM⟩ (by rw[e];exact h);simp only at this;rcases this with h1|h1|h1
  ·have:op=29:=oM;subst this;exact .inl ⟨.inl rfl,rfl⟩
  ·have:op=30:=oM;subst this;exact .inl ⟨.inr rfl,rfl⟩
  ·have:op=31:=oM;subst this;exact .inr ⟨rfl,rfl,rfl⟩
 ·rw[EK op (by simpa using hk)]at h;exact absurd h dE
theorem G6{c:Cd}{n:Int}{m:Ty}(ht:Ap c=true)(h:Af c.regs 3 n m=true):Ar (Au c.regs n).par c.sign.length=true:=by
 unfold Af at h;rw[if_neg dE]at h;simp only[Bool.and_eq_true]at h;obtain⟨h1,h2⟩:=h;obtain⟨k,hk,hl⟩:=Cw h1;rw[Dj hk hl]at h2 ⊢;have hm:c.regs[k].kind=3:=by
  unfold DH at h2;rw[if_neg dE,if_neg dE,if_pos rfl]at h2;simpa using h2
 have:=List.all_eq_true.1 ht c.regs[k] (List.getElem_mem hl);unfold AE at this;rw[if_neg oM,if_pos hm]at this;exact this
theorem Ll{c:Cd}{i:Aa}(ht:Ap c=true)(hd:Af c.regs (A4 i.op).d i.d (Az c.regs i (A4 i.op))=true)(ha:Af c.regs (A4 i.op).a i.a (Az c.regs i (A4 i.op))=true)(h9:(A4 i.op).n=9):Ar (Az c.regs i (A4 i.op)).par c.sign.length=true:=by
 rcases Nr h9 with⟨_,e⟩|⟨_,e,e2⟩
 ·rw[e]at hd;have:=G6 ht hd;unfold Az Gw;rw[e,if_neg dE];exact this
 ·rw[e2]at ha;have:=G6 ht ha;unfold Az Gw;rw[e,if_pos rfl];exact this
theorem MI{c:Cd}{i:Aa}{r:Rw}(h:AW c i r=true):∀x∈A9 i r,0<=x/\x<(c.regs.length:Int):=by
 intro x hx;unfold A9 at hx;rcases List.mem_append.1 hx with hx|hx
 ·by_cases e:r.a=0
  ·rw[if_pos e]at hx;cases hx
  ·rw[if_neg e]at hx;simp at hx;subst hx;exact Al (Da h) e
 rcases List.mem_append.1 hx with hx|hx
 ·by_cases e:r.b=0
  ·rw[if_pos e]at hx;cases hx
  ·rw[if_neg e]at hx;simp at hx;subst hx;exact Al (DU h) e
 ·by_cases e:r.c=0
  ·rw[if_pos e]at hx;cases hx
  ·rw[if_neg e]at hx;simp at hx;subst hx;exact Al (DV h) e
theorem D6(i:Aa)(r:Rw):(A9 i r).length<=3:=by
 rw[D5];simp only[List.length_append];have:=Ck r.a i.a;have:=Ck r.b i.b;have:=Ck r.c i.c;omega
theorem Iy{c:Cd}{s:Wk}{i:Aa}{r:Rw}(h:AD c s i r=true)(e:i.op=35\/i.op=37):s.opens≠[]:=by
 unfold AD at h;rw[if_neg oM]at h;intro hO;rcases e with e|e
 ·rw[if_pos e,hO]at h;simp at h
 ·rw[if_neg oM,if_pos e]at h;unfold AA at h;rw[hO]at h;cases h
structure TK(w:World)(H G C:Nat)(L0 L1 L2 L3 L4:Int)(v:World):Prop where
 bel:Below w.heap.size w v
 r0:v.cell? ⟨H,0,none⟩=some (.int .i64 L0)
 r1:v.cell? ⟨H,1,none⟩=some (.int .i64 L1)
 r2:v.cell? ⟨H,2,none⟩=some (.int .i64 L2)
 r3:v.cell? ⟨H,3,none⟩=some (.int .i64 L3)
 r4:v.cell? ⟨H,4,none⟩=some (.int .i64 L4)
 g0:v.cell? ⟨G,0,none⟩=some (.pointer (some ⟨C,0,none⟩))
theorem TK.next{w:World}{H G C:Nat}{L0 L1 L2 L3 L4:Int}{v v':World}(h:TK w H G C L0 L1 L2 L3 L4 v)(k:Below v.heap.size v v'):TK w H G C L0 L1 L2 L3 L4 v':=
 ⟨Go.Proofs.Ytnbccaicijcklaa.bel h.bel k,kc k h.r0,kc k h.r1,kc k h.r2,kc k h.r3,kc k h.r4,kc k h.g0⟩
theorem IC(E G C n gi:Nat)(vs vo:Value)(s:Wk)(v0 v1 v2 v3:Value)(c:Cd)(hk:Ba c)(b o:Nat)(i:Aa)(w:World)(h:WS E G C n gi vs vo w s)(hnn:c.regs.length=n)(ok:CM n s)(hn:n<=16384)(hc:BC w C v0 v1 v2 v3 c)(hi:Ai w b o (Bf i))(hbE:b<E)(htm:Ap c=true)(hb0:0<=i.bits)(hb1:i.bits<4294967296):
 Calls prog 25 #[.pointer (some ⟨G,0,none⟩),.pointer (some ⟨b,o,none⟩)] w fun e w'=>e=.returned (.bool (AS c s i))/\Below E w w'/\(AS c s i=true->∃vs' vo',WS E G C n gi vs' vo' w' (As s i)):=by
 have K1:=F7 i.op w;have K2:=fun v h1 h2=>M5 C v0 v1 v2 v3 c hk b o i (A4 i.op) v h1 h2 hb0 hb1 (Ll htm);have K3:=fun v h1 h2 h3=>GY E G C n gi vs vo s v0 v1 v2 v3 c hk b o i (A4 i.op) v h1 ok.nest h2 h3;have K4:=fun v h1=>Es b o i (A4 i.op) v h1;have K5:=fun(hf:AW c i (A4 i.op)=true) (hs:AD c s i (A4 i.op)=true) v h1 h2=>Mw E G C n gi vs vo s b o i (A4 i.op) v h1 ok hn h2 hbE (Eu hs) (Iy hs) (fun hd=>by have:=Al (CF hf) hd;rw[hnn]at this;exact this);have KL:AW c i (A4 i.op)=true->∀x∈A9 i (A4 i.op),0<=x/\x<(n:Int):=fun hf=>by have:=MI hf;rw[hnn]at this;exact this
 have KN:=D6 i (A4 i.op);have HC0:Hid (BC w C v0 v1 v2 v3 c):=hc;have HI0:Hid (Ai w b o (Bf i)):=hi;have HS0:Hid (WS E G C n gi vs vo w s):=h;have e0:=hi.at 0 rfl;rw[Nat.add_zero]at e0;have hE:=h.lt;have g0:=h.c0;unfold AS As;have hro:Et s i (A4 i.op)=(A9 i (A4 i.op)).all fun n=>decide (n.toNat∈s.set):=rfl;rw[hro];obtain⟨op,hop⟩:∃x,i.op=x:=⟨_,rfl⟩
 rw[hop]at K1 K2 K3 K4 K5 KL KN e0 ⊢;obtain⟨r,hr⟩:∃r,A4 op=r:=⟨_,rfl⟩
 simp only[hr]at K1 K2 K3 K4 K5 KL KN ⊢;obtain⟨X0,hX0⟩:∃X,An op=X:=⟨_,rfl⟩
 obtain⟨X1,hX1⟩:∃X,AW c i r=X:=⟨_,rfl⟩
 obtain⟨X2,hX2⟩:∃X,AD c s i r=X:=⟨_,rfl⟩
 obtain⟨RL,hRL⟩:∃X,A9 i r=X:=⟨_,rfl⟩
 obtain⟨Z,hZ⟩:∃Z,DM s i r=Z:=⟨_,rfl⟩
 obtain⟨AL,hAL⟩:∃X,((A9 i r).all fun n=>decide (n.toNat∈s.set))=X:=⟨_,rfl⟩
 rw[hAL];simp only[hX0]at K1 ⊢;simp only[hX1]at K2 K5 KL ⊢;simp only[hX2]at K3 K5 ⊢;simp only[hRL]at K4 KL KN;rw[hRL]at hAL;have HAL:Hid ((RL.all fun n=>decide (n.toNat∈s.set))=AL):=hAL;simp only[hZ]at K5 ⊢;obtain⟨L0,L1,L2,L3,L4⟩:=r;unfold Cg at K1 K2 K3 K4 K5;simp only at K1 K2 K3 K4 K5;have HK1:Hid (Calls prog 41 #[.int .i64 op] w fun e w'=>e=.returned (.tuple #[.agg #[.int .i64 L0,.int .i64 L1,.int .i64 L2,.int .i64 L3,.int .i64 L4],.bool X0])/\Below w.heap.size w w'):=K1;have HK2:Hid (∀v,BC v C v0 v1 v2 v3 c->Ai v b o (Bf i)->Calls prog 42 #[.pointer (some ⟨C,0,none⟩),.pointer (some ⟨b,o,none⟩),.agg #[.int .i64 L0,.int .i64 L1,.int .i64 L2,.int .i64 L3,.int .i64 L4]] v fun e w'=>e=.returned (.bool X1)/\Below v.heap.size v w'):=K2;have HK3:Hid (∀v,WS E G C n gi vs vo v s->BC v C v0 v1 v2 v3 c->Ai v b o (Bf i)->Calls prog 43 #[.pointer (some ⟨G,0,none⟩),.pointer (some ⟨b,o,none⟩),.agg #[.int .i64 L0,.int .i64 L1,.int .i64 L2,.int .i64 L3,.int .i64 L4]] v fun e w'=>e=.returned (.bool X2)/\Below v.heap.size v w'):=K3;have HK4:Hid (∀v,Ai v b o (Bf i)->Calls prog 44 #[.agg #[.int .i64 L0,.int .i64 L1,.int .i64 L2,.int .i64 L3,.int .i64 L4],.pointer (some ⟨b,o,none⟩)] v fun e w'=>∃u,e=.returned u/\w'.ownsRow v.heap.size 3 1 u RL.length (B2 RL)/\Below v.heap.size v w'):=K4;have HK5:Hid (X1=true->X2=true->∀v,WS E G C n gi vs vo v s->Ai v b o (Bf i)->Calls prog 45 #[.pointer (some ⟨G,0,none⟩),.pointer (some ⟨b,o,none⟩),.agg #[.int .i64 L0,.int .i64 L1,.int .i64 L2,.int .i64 L3,.int .i64 L4]] v fun e w'=>e=.returned (.tuple #[])/\Below E v w'/\∃vs' vo',WS E G C n gi vs' vo' w' Z):=K5;have HKL:Hid (X1=true->∀x∈RL,0<=x/\x<(n:Int)):=KL;clear K1 K2 K3 K4 K5 KL h hc hi hk hro hop hr hX0 hX1 hX2 hRL hZ hAL hb0 hb1 htm ok hnn;cases X0
 ·go_enter func25,ntmps25;go_wp2_with(go_at_call 41;refine HK1.out.mono ?_;rintro e w1 ⟨rfl,hw1⟩;have HT:Hid (TK w w1.heap.size G C L0 L1 L2 L3 L4 (w1.alloc (.cells #[.int .i64 L0,.int .i64 L1,.int .i64 L2,.int .i64 L3,.int .i64 L4] 97))):=QJ);have HCX:Hid (∀v,Below (w1.alloc (.cells #[.int .i64 L0,.int .i64 L1,.int .i64 L2,.int .i64 L3,.int .i64 L4] 97)).heap.size (w1.alloc (.cells #[.int .i64 L0,.int .i64 L1,.int .i64 L2,.int .i64 L3,.int .i64 L4] 97)) v->v.cell? ⟨G,0,none⟩=some (.pointer (some ⟨C,0,none⟩))/\v.cell? ⟨w1.heap.size,0,none⟩=some (.int .i64 L0)/\v.cell? ⟨w1.heap.size,1,none⟩=some (.int .i64 L1)/\v.cell? ⟨w1.heap.size,2,none⟩=some (.int .i64 L2)/\v.cell? ⟨w1.heap.size,3,none⟩=some (.int .i64 L3)/\v.cell? ⟨w1.heap.size,4,none⟩=some (.int .i64 L4)):=fun v hv=>⟨(HT.out.next hv).g0,(HT.out.next hv).r0,(HT.out.next hv).r1,(HT.out.next hv).r2,(HT.out.next hv).r3,(HT.out.next hv).r4⟩;obtain⟨t0,t1,t2,t3,t4,t5⟩:=HCX.out _ (C9 _);refine rG (fun v=>v.cell? ⟨G,0,none⟩=some (.pointer (some ⟨C,0,none⟩))/\v.cell? ⟨w1.heap.size,0,none⟩=some (.int .i64 L0)/\v.cell? ⟨w1.heap.size,1,none⟩=some (.int .i64 L1)/\v.cell? ⟨w1.heap.size,2,none⟩=some (.int .i64 L2)/\v.cell? ⟨w1.heap.size,3,none⟩=some (.int .i64 L3)/\v.cell? ⟨w1.heap.size,4,none⟩=some (.int .i64 L4)) fun hHeld=>?_;refine Tc 0 1 2 ?_;refine Kd 3 4 5 6 ?_;refine Kd 7 8 9 10 ?_;refine Tb 11 12 ?_;refine Kd 13 14 15 16 ?_;refine CD 17 ?_;refine Bw 18 ?_;refine wpAnyH_done kR ?_ _;go_wp2;go_ret;exact⟨rfl,(bel HT.out.bel (Ae _)).mono hE,fun e=>absurd e sM⟩
 cases X1
 ·go_enter func25,ntmps25;go_wp2_with(go_at_call 41;refine HK1.out.mono ?_;rintro e w1 ⟨rfl,hw1⟩;have HT:Hid (TK w w1.heap.size G C L0 L1 L2 L3 L4 (w1.alloc (.cells #[.int .i64 L0,.int .i64 L1,.int .i64 L2,.int .i64 L3,.int .i64 L4] 97))):=QJ);have HCX:Hid (∀v,Below (w1.alloc (.cells #[.int .i64 L0,.int .i64 L1,.int .i64 L2,.int .i64 L3,.int .i64 L4] 97)).heap.size (w1.alloc (.cells #[.int .i64 L0,.int .i64 L1,.int .i64 L2,.int .i64 L3,.int .i64 L4] 97)) v->v.cell? ⟨G,0,none⟩=some (.pointer (some ⟨C,0,none⟩))/\v.cell? ⟨w1.heap.size,0,none⟩=some (.int .i64 L0)/\v.cell? ⟨w1.heap.size,1,none⟩=some (.int .i64 L1)/\v.cell? ⟨w1.heap.size,2,none⟩=some (.int .i64 L2)/\v.cell? ⟨w1.heap.size,3,none⟩=some (.int .i64 L3)/\v.cell? ⟨w1.heap.size,4,none⟩=some (.int .i64 L4)):=fun v hv=>⟨(HT.out.next hv).g0,(HT.out.next hv).r0,(HT.out.next hv).r1,(HT.out.next hv).r2,(HT.out.next hv).r3,(HT.out.next hv).r4⟩;obtain⟨t0,t1,t2,t3,t4,t5⟩:=HCX.out _ (C9 _);refine rG (fun v=>v.cell? ⟨G,0,none⟩=some (.pointer (some ⟨C,0,none⟩))/\v.cell? ⟨w1.heap.size,0,none⟩=some (.int .i64 L0)/\v.cell? ⟨w1.heap.size,1,none⟩=some (.int .i64 L1)/\v.cell? ⟨w1.heap.size,2,none⟩=some (.int .i64 L2)/\v.cell? ⟨w1.heap.size,3,none⟩=some (.int .i64 L3)/\v.cell? ⟨w1.heap.size,4,none⟩=some (.int .i64 L4)) fun hHeld=>?_;refine Tf 0 1 2 3 4 5 ?_;refine Tc 6 7 8 ?_;clear hHeld;refine Ax 9 fun K hK=>?_;go_simp;(go_at_call 42;refine(HK2.out _ (HC0.out.below (bel HT.out.bel (Ae _))) (HI0.out.below (bel HT.out.bel (Ae _)))).mono ?_;rintro e w2 ⟨rfl,hw2⟩;have HB2:=bel (Ae _) hw2;obtain⟨y0,y1,y2,y3,y4,y5⟩:=HCX.out w2 HB2);try(go_wp2_with fail)
  refine Aw hK fun hHeld=>?_;clear hK K;refine Tc 10 11 12 ?_;refine Kd 13 14 15 16 ?_;refine CD 17 ?_;refine Bw 18 ?_;refine wpAnyH_done kR ?_ _;go_wp2;go_ret;exact⟨rfl,(bel HT.out.bel HB2).mono hE,fun e=>absurd e sM⟩
 cases X2
 ·go_enter func25,ntmps25;go_wp2_with(go_at_call 41;refine HK1.out.mono ?_;rintro e w1 ⟨rfl,hw1⟩;have HT:Hid (TK w w1.heap.size G C L0 L1 L2 L3 L4 (w1.alloc (.cells #[.int .i64 L0,.int .i64 L1,.int .i64 L2,.int .i64 L3,.int .i64 L4] 97))):=QJ);have HCX:Hid (∀v,Below (w1.alloc (.cells #[.int .i64 L0,.int .i64 L1,.int .i64 L2,.int .i64 L3,.int .i64 L4] 97)).heap.size (w1.alloc (.cells #[.int .i64 L0,.int .i64 L1,.int .i64 L2,.int .i64 L3,.int .i64 L4] 97)) v->v.cell? ⟨G,0,none⟩=some (.pointer (some ⟨C,0,none⟩))/\v.cell? ⟨w1.heap.size,0,none⟩=some (.int .i64 L0)/\v.cell? ⟨w1.heap.size,1,none⟩=some (.int .i64 L1)/\v.cell? ⟨w1.heap.size,2,none⟩=some (.int .i64 L2)/\v.cell? ⟨w1.heap.size,3,none⟩=some (.int .i64 L3)/\v.cell? ⟨w1.heap.size,4,none⟩=some (.int .i64 L4)):=fun v hv=>⟨(HT.out.next hv).g0,(HT.out.next hv).r0,(HT.out.next hv).r1,(HT.out.next hv).r2,(HT.out.next hv).r3,(HT.out.next hv).r4⟩;obtain⟨t0,t1,t2,t3,t4,t5⟩:=HCX.out _ (C9 _);refine rG (fun v=>v.cell? ⟨G,0,none⟩=some (.pointer (some ⟨C,0,none⟩))/\v.cell? ⟨w1.heap.size,0,none⟩=some (.int .i64 L0)/\v.cell? ⟨w1.heap.size,1,none⟩=some (.int .i64 L1)/\v.cell? ⟨w1.heap.size,2,none⟩=some (.int .i64 L2)/\v.cell? ⟨w1.heap.size,3,none⟩=some (.int .i64 L3)/\v.cell? ⟨w1.heap.size,4,none⟩=some (.int .i64 L4)) fun hHeld=>?_;refine Tf 0 1 2 3 4 5 ?_;refine Tc 6 7 8 ?_;clear hHeld;refine Ax 9 fun K hK=>?_;go_simp;(go_at_call 42;refine(HK2.out _ (HC0.out.below (bel HT.out.bel (Ae _))) (HI0.out.below (bel HT.out.bel (Ae _)))).mono ?_;rintro e w2 ⟨rfl,hw2⟩;have HB2:=bel (Ae _) hw2;obtain⟨y0,y1,y2,y3,y4,y5⟩:=HCX.out w2 HB2);try(go_wp2_with fail)
  refine Aw hK fun hHeld=>?_;clear hK K;refine Tf 10 11 12 13 14 15 ?_;clear hHeld;refine Ax 16 fun K hK=>?_;go_simp;(go_at_call 43;refine(HK3.out _ (HS0.out.below (bel HT.out.bel HB2)) (HC0.out.below (bel HT.out.bel HB2)) (HI0.out.below (bel HT.out.bel HB2))).mono ?_;rintro e w3 ⟨rfl,hw3⟩;have HB3:=bel HB2 hw3;obtain⟨y0,y1,y2,y3,y4,y5⟩:=HCX.out w3 HB3);try(go_wp2_with fail)
  refine Aw hK fun hHeld=>?_;clear hK K;refine Tb 17 18 ?_;refine wpAnyH_done kR ?_ _;go_wp2;go_ret;exact⟨rfl,(bel HT.out.bel HB3).mono hE,fun e=>absurd e sM⟩
 go_enter func25,ntmps25;go_wp2_with(go_at_call 41;refine HK1.out.mono ?_;rintro e w1 ⟨rfl,hw1⟩;have HT:Hid (TK w w1.heap.size G C L0 L1 L2 L3 L4 (w1.alloc (.cells #[.int .i64 L0,.int .i64 L1,.int .i64 L2,.int .i64 L3,.int .i64 L4] 97))):=QJ);have HCX:Hid (∀v,Below (w1.alloc (.cells #[.int .i64 L0,.int .i64 L1,.int .i64 L2,.int .i64 L3,.int .i64 L4] 97)).heap.size (w1.alloc (.cells #[.int .i64 L0,.int .i64 L1,.int .i64 L2,.int .i64 L3,.int .i64 L4] 97)) v->v.cell? ⟨G,0,none⟩=some (.pointer (some ⟨C,0,none⟩))/\v.cell? ⟨w1.heap.size,0,none⟩=some (.int .i64 L0)/\v.cell? ⟨w1.heap.size,1,none⟩=some (.int .i64 L1)/\v.cell? ⟨w1.heap.size,2,none⟩=some (.int .i64 L2)/\v.cell? ⟨w1.heap.size,3,none⟩=some (.int .i64 L3)/\v.cell? ⟨w1.heap.size,4,none⟩=some (.int .i64 L4)):=fun v hv=>⟨(HT.out.next hv).g0,(HT.out.next hv).r0,(HT.out.next hv).r1,(HT.out.next hv).r2,(HT.out.next hv).r3,(HT.out.next hv).r4⟩;obtain⟨t0,t1,t2,t3,t4,t5⟩:=HCX.out _ (C9 _);refine rG (fun v=>v.cell? ⟨G,0,none⟩=some (.pointer (some ⟨C,0,none⟩))/\v.cell? ⟨w1.heap.size,0,none⟩=some (.int .i64 L0)/\v.cell? ⟨w1.heap.size,1,none⟩=some (.int .i64 L1)/\v.cell? ⟨w1.heap.size,2,none⟩=some (.int .i64 L2)/\v.cell? ⟨w1.heap.size,3,none⟩=some (.int .i64 L3)/\v.cell? ⟨w1.heap.size,4,none⟩=some (.int .i64 L4)) fun hHeld=>?_;refine Tf 0 1 2 3 4 5 ?_;refine Tc 6 7 8 ?_;clear hHeld;refine Ax 9 fun K hK=>?_;go_simp;(go_at_call 42;refine(HK2.out _ (HC0.out.below (bel HT.out.bel (Ae _))) (HI0.out.below (bel HT.out.bel (Ae _)))).mono ?_;rintro e w2 ⟨rfl,hw2⟩;have HB2:=bel (Ae _) hw2;obtain⟨y0,y1,y2,y3,y4,y5⟩:=HCX.out w2 HB2);try(go_wp2_with fail)
 refine Aw hK fun hHeld=>?_;clear hK K;refine Tf 10 11 12 13 14 15 ?_;clear hHeld;refine Ax 16 fun K hK=>?_;go_simp;(go_at_call 43;refine(HK3.out _ (HS0.out.below (bel HT.out.bel HB2)) (HC0.out.below (bel HT.out.bel HB2)) (HI0.out.below (bel HT.out.bel HB2))).mono ?_;rintro e w3 ⟨rfl,hw3⟩;have HB3:=bel HB2 hw3;obtain⟨y0,y1,y2,y3,y4,y5⟩:=HCX.out w3 HB3);try(go_wp2_with fail)
 refine Aw hK fun hHeld=>?_;clear hK K;refine Tb 17 18 ?_;refine wpAnyH_done kR ?_ _;have HT3:Hid (TK w w1.heap.size G C L0 L1 L2 L3 L4 w3):=HT.out.next HB3;clear HB2 HB3 hw2 hw3;go_wp2_with(go_at_call 44;refine(HK4.out _ (HI0.out.below HT3.out.bel)).mono ?_;rintro e w4 ⟨u,rfl,hu,hw4⟩;obtain⟨pu,cu,hue⟩:=Ao hu;subst hue;have HU:Hid (w4.ownsRow w3.heap.size 3 1 (.slice pu RL.length cu) RL.length (B2 RL)):=hu;have HT4:Hid (TK w w1.heap.size G C L0 L1 L2 L3 L4 w4):=HT3.out.next hw4;clear hu hw4);have HSW:Hid (WS E G C n gi vs vo w4 s):=HS0.out.below HT4.out.bel;have k0:=HT4.out.r0;have k1:=HT4.out.r1;have k2:=HT4.out.r2;have k3:=HT4.out.r3;have k4:=HT4.out.r4;have HFX:Hid (∀j (hj:j<RL.length),∃ (gu x:Nat),pu=some ⟨gu,0,none⟩/\w4.cell? ⟨gu,j,none⟩=some (.int .i64 (x:Int))/\x<n/\w4.cell? ⟨gi,x,none⟩=some (.bool (decide (x∈s.set)))/\decide (x∈s.set)=decide (RL[j].toNat∈s.set)):=fun j hj=>by
  obtain⟨gu,cap,hv,_,_,_,_,hcl⟩:=Bc HU.out oM;simp only[Value.slice.injEq]at hv;have hx:=HKL.out fT RL[j] (List.getElem_mem hj);refine⟨gu,RL[j].toNat,hv.1,?_,oM,HSW.out.i.cell oM,rfl⟩;rw[show((RL[j].toNat:Nat):Int)=RL[j] by omega];exact hcl j _ (by simp[B2,List.getElem?_eq_getElem hj])
 have d1:=HSW.out.c1;obtain⟨M,hM⟩:∃M,RL.length=M:=⟨_,rfl⟩
 have HM:Hid (RL.length=M):=hM;rw[hM]at KN ⊢;clear hM
 go_loopw [40] (fun iv wr=>wr=w4/\∃j:Nat,j<=M/\iv=.int .i64 j/\Hid (∀i (h:i<RL.length),i<j->decide (RL[i].toNat∈s.set)=true)) (fun iv _=>M-(intOf iv).toNat)
 case atStart=>exact⟨rfl,0,Nat.zero_le _,rfl,fun i h hi=>absurd hi (Nat.not_lt_zero _)⟩
 case round=>
  clear HT HT3 HCX t0 t1 t2 t3 t4 t5 y0 y1 y2 y3 y4 y5;obtain⟨rfl,j,hj,rfl,hp⟩:=hrel;by_cases hlt:j<M
  ·have hll:j<RL.length:=by rw[HM.out];exact hlt
   obtain⟨gu,x,rfl,a1,a2,a3,a4⟩:=HFX.out j hll;have NX:Hid (decide (RL[j].toNat∈s.set)=true->∀i (h:i<RL.length),i<j+1->decide (RL[i].toNat∈s.set)=true):=fun hq i h hi=>by
    exact Pp
   have NB:Hid (decide (RL[j].toNat∈s.set)=false->(RL.all fun n=>decide (n.toNat∈s.set))=false):=fun h=>List.all_eq_false.2 ⟨RL[j],List.getElem_mem hll,by rw[h];decide⟩;rw[←a4]at NX NB;have i1:(0:Int)<=(j:Int):=oM;have i2:(j:Int)<(M:Int):=oM;have i3:(0:Int)<=(x:Int):=oM;have i4:(x:Int)<(n:Int):=oM;obtain⟨Y,hY⟩:∃Y,decide (x∈s.set)=Y:=⟨_,rfl⟩
   rw[hY]at NX NB a3;clear hp hY a4 HFX HU;cases Y
   ·go_wp2;go_ret;have hF:AL=false:=by rw[←HAL.out];exact NB.out fT
    exact⟨by rw[hF];rfl,HT4.out.bel.mono hE,fun e=>absurd e (by simp[hF])⟩
   ·go_wp2;go_roundw
    case rel=>exact⟨fT,j+1,oM,gN,NX.out fT⟩
    case measure=>simp[intOf];omega
  ·have:j=M:=oM;subst this;have HF:Hid ((RL.all fun n=>decide (n.toNat∈s.set))=true):=List.all_eq_true.2 fun t ht=>by
    obtain⟨i,hi,rfl⟩:=List.mem_iff_getElem.1 ht;exact hp.out i hi (by rw[←HM.out];exact hi)
   clear hp;go_wp2_with(go_at_call 45;refine(HK5.out fT fT _ HSW.out (HI0.out.below HT4.out.bel)).mono ?_;rintro e w6 ⟨rfl,hb6,hws⟩;have HB6:Hid (Below E wr w6):=hb6;have HWS:Hid (∃vs' vo',WS E G C n gi vs' vo' w6 Z):=hws;clear hb6 hws);go_ret;exact⟨by rw[←HAL.out,HF.out];rfl,(HT4.out.bel.mono hE).trans HB6.out,fun _=>HWS.out⟩
theorem Mi(a:Int)(h0:0<=a)(h1:a<4294967296):Gk a=Jd a:=by
 unfold Gk Jd;by_cases c:a/8388608%256=255
 ·rw[if_pos c];by_cases d:a%8388608=0
  ·have:¬ (2139095040<a%2147483648):=oM;simp[d,this]
  ·have:2139095040<a%2147483648:=oM;simp[d,this]
 ·rw[if_neg c];have:¬ (2139095040<a%2147483648):=oM;simp[this]
theorem L8(w:World)(v0 v1 v2 v3 v4:Value):(Instr.field 135 (.agg #[v0,v1,v2,v3,v4]) 4).run prog w=.ok v4 w:=by
 simp[Instr.field,run_underlying underlying135,asAgg,part,go_sem]



def RG(w:World)(p:Option Addr)(n:Nat)(X:Nat->Value):Prop:=n=0\/∃b o,p=some ⟨b,o,none⟩/\∀i,i<n->w.cell? ⟨b,o+i,none⟩=some (X i)


theorem Il(a:Int)(h0:0<=a)(h1:a<4294967296)(w:World):
 Calls prog 67 #[.int .i64 a] w fun e w'=>e=.returned (.int .i64 (Cs a))/\Below w.heap.size w w':=by
 have hf:=L8;unfold Cs;rw[←Mi a h0 h1];cases hna:Gk a
 ·rw[if_neg dE];exact SG
 ·rw[if_pos rfl];exact SG

def Rx(X:Nat->Int)(n:Nat):List Value:=(List.range n).map fun i=>.int .u32 (X i)














end Go.Proofs.Ytnbccaicijcklaa
