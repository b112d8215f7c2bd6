import Derived.Test.YtbinohkcolcbfaaGreatPart1
import Derived.Test.YtbinohkcolcbfaaGreatPart2
import Derived.Handy
namespace Go.Proofs.YtbinohkcolcbfaaGreat
open Go.RowKit Go.Proofs.Tryz
set_option linter.all false
set_option maxRecDepth 100000
set_option maxHeartbeats 16000000
theorem Fc(b o:Nat)(i:At)(w:World)(hi:Aa w b o (Dt i)):
 Calls prog 93 #[.pointer (some ⟨b,o,none⟩)] w fun e w'=>e=.returned (.agg #[.int .i64 i.d,.int .i64 i.a,.int .i64 i.b,.int .i64 i.c])/\Below w.heap.size w w':=by
 have e1:=hi.at 1 rfl;have e2:=hi.at 2 rfl;have e3:=hi.at 3 rfl;have e4:=hi.at 4 rfl;have hb:=A3 e1;simp only at hb;have n1:b≠w.heap.size:=oM;have f1:(w.alloc (.cells #[.int .i64 0,.int .i64 0,.int .i64 0,.int .i64 0] 170)).cell? ⟨b,o+1,none⟩=some (.int .i64 i.d):=kc (A0 w _) e1;have f2:(w.alloc (.cells #[.int .i64 0,.int .i64 0,.int .i64 0,.int .i64 0] 170)).cell? ⟨b,o+2,none⟩=some (.int .i64 i.a):=kc (A0 w _) e2;have f3:(w.alloc (.cells #[.int .i64 0,.int .i64 0,.int .i64 0,.int .i64 0] 170)).cell? ⟨b,o+3,none⟩=some (.int .i64 i.b):=kc (A0 w _) e3;have f4:(w.alloc (.cells #[.int .i64 0,.int .i64 0,.int .i64 0,.int .i64 0] 170)).cell? ⟨b,o+4,none⟩=some (.int .i64 i.c):=kc (A0 w _) e4;clear hi;go_enter func93,ntmps93;go_wp2;refine rG (fun v=>v.cell? ⟨b,o+1,none⟩=some (.int .i64 i.d)/\v.cell? ⟨b,o+2,none⟩=some (.int .i64 i.a)/\v.cell? ⟨b,o+3,none⟩=some (.int .i64 i.b)/\v.cell? ⟨b,o+4,none⟩=some (.int .i64 i.c)) fun hHeld=>?_;refine Tf 0 1 2 3 4 5 ?_;refine Tf 6 7 8 9 10 11 ?_;refine Tc 12 13 14 ?_;refine Tb 15 16 ?_;clear hHeld;refine Ap 17 fun K hK=>?_;go_simp;refine Ao hK fun hHeld=>?_;clear hK K;refine wpAnyH_done kR ?_ _;go_wp2;refine bodyPost_ret (by simp[results,results93,go_sem, *];try rfl) rfl ?_;exact⟨rfl,gG⟩
theorem TH(D A B E:Int)(w:World):
 (Instr.index 170 (.agg #[.int .i64 D,.int .i64 A,.int .i64 B,.int .i64 E]) (.int .i64 0)).run prog w=.ok (.int .i64 D) w/\
 (Instr.index 170 (.agg #[.int .i64 D,.int .i64 A,.int .i64 B,.int .i64 E]) (.int .i64 1)).run prog w=.ok (.int .i64 A) w/\
 (Instr.index 170 (.agg #[.int .i64 D,.int .i64 A,.int .i64 B,.int .i64 E]) (.int .i64 2)).run prog w=.ok (.int .i64 B) w/\
 (Instr.index 170 (.agg #[.int .i64 D,.int .i64 A,.int .i64 B,.int .i64 E]) (.int .i64 3)).run prog w=.ok (.int .i64 E) w:=by
 refine⟨?_,?_,?_,?_⟩<;>simp[Instr.index,run_underlying underlying170,asIntOf,part,go_sem]
structure FW(w:World)(G:Nat)(L0 L1 L2 L3 L4 K P:Int)(v:World):Prop where
 bel:Below w.heap.size w v
 r0:v.cell? ⟨w.heap.size,0,none⟩=some (.int .i64 L0)
 r1:v.cell? ⟨w.heap.size,1,none⟩=some (.int .i64 L1)
 r2:v.cell? ⟨w.heap.size,2,none⟩=some (.int .i64 L2)
 r3:v.cell? ⟨w.heap.size,3,none⟩=some (.int .i64 L3)
 r4:v.cell? ⟨w.heap.size,4,none⟩=some (.int .i64 L4)
 m0:v.cell? ⟨G,0,none⟩=some (.int .i64 K)
 m1:v.cell? ⟨G,1,none⟩=some (.int .i64 P)
theorem FW.next{w:World}{G:Nat}{L0 L1 L2 L3 L4 K P:Int}{v v':World}(h:FW w G L0 L1 L2 L3 L4 K P v)(k:Below v.heap.size v v'):FW w G L0 L1 L2 L3 L4 K P v':=
 ⟨Go.Proofs.YtbinohkcolcbfaaGreat.bel h.bel k,kc k h.r0,kc k h.r1,kc k h.r2,kc k h.r3,kc k h.r4,kc k h.m0,kc k h.m1⟩
theorem Tj(C:Nat)(v0 v1 v2 v3:Value)(c:Cd)(hk:B5 c)(b o:Nat)(i:At)(r:Rw)(w:World)(hc:BZ w C v0 v1 v2 v3 c)(hi:Aa w b o (Dt i))(h0:0<=i.bits)(h1:i.bits<4294967296)
 (hp:Ab c.regs r.d i.d (Ax c.regs i r)=true->Ab c.regs r.a i.a (Ax c.regs i r)=true->r.n=9->Aj (Ax c.regs i r).par c.sign.length=true):
 Calls prog 54 #[.pointer (some ⟨C,0,none⟩),.pointer (some ⟨b,o,none⟩),Dp r] w fun e w'=>e=.returned (.bool (Bt c i r))/\Below w.heap.size w w':=by
 have KM:=fun w h k=>Gv C v0 v1 v2 v3 c hk b o i r w h k;have KR:=fun w k=>Fc b o i w k;have K0:=fun w h=>Ce C v0 v1 v2 v3 c hk r.d i.d (Ax c.regs i r) w h;have K1:=fun w h=>Ce C v0 v1 v2 v3 c hk r.a i.a (Ax c.regs i r) w h;have K2:=fun w h=>Ce C v0 v1 v2 v3 c hk r.b i.b (Ax c.regs i r) w h;have K3:=fun w h=>Ce C v0 v1 v2 v3 c hk r.c i.c (Ax c.regs i r) w h;have K4:=fun hq w h k=>Li C v0 v1 v2 v3 c hk b o i r.n (Ax c.regs i r) w h k h0 h1 hq;have HC0:Hid (BZ w C v0 v1 v2 v3 c):=hc;have HI0:Hid (Aa w b o (Dt i)):=hi;have hfc:Bt c i r=(Ab c.regs r.d i.d (Ax c.regs i r)&&(Ab c.regs r.a i.a (Ax c.regs i r)&&(Ab c.regs r.b i.b (Ax c.regs i r)&&(Ab c.regs r.c i.c (Ax c.regs i r)&&Bu c i r.n (Ax c.regs i r))))):=rfl;rw[hfc];clear hfc hc hi hk h0 h1;obtain⟨M,hM⟩:∃M,Ax c.regs i r=M:=⟨_,rfl⟩
 simp only[hM]at KM K0 K1 K2 K3 K4 hp ⊢;obtain⟨X0,hX0⟩:∃X,Ab c.regs r.d i.d M=X:=⟨_,rfl⟩
 obtain⟨X1,hX1⟩:∃X,Ab c.regs r.a i.a M=X:=⟨_,rfl⟩
 obtain⟨X2,hX2⟩:∃X,Ab c.regs r.b i.b M=X:=⟨_,rfl⟩
 obtain⟨X3,hX3⟩:∃X,Ab c.regs r.c i.c M=X:=⟨_,rfl⟩
 obtain⟨Y,hY⟩:∃X,Bu c i r.n M=X:=⟨_,rfl⟩
 simp only[hX0]at K0 hp ⊢;simp only[hX1]at K1 hp ⊢;simp only[hX2]at K2 ⊢;simp only[hX3]at K3 ⊢;simp only[hY]at K4 ⊢;obtain⟨L0,L1,L2,L3,L4⟩:=r;obtain⟨K,P⟩:=M;obtain⟨io,D,A,B,E,n,bt⟩:=i;unfold Dp at KM ⊢;unfold Dy at KM K0 K1 K2 K3 K4;simp only at KM KR K0 K1 K2 K3 K4 hp ⊢;have HKM:Hid (∀w,BZ w C v0 v1 v2 v3 c->Aa w b o (Dt ⟨io,D,A,B,E,n,bt⟩)->Calls prog 92 #[.pointer (some ⟨C,0,none⟩),.pointer (some ⟨b,o,none⟩),.agg #[.int .i64 L0,.int .i64 L1,.int .i64 L2,.int .i64 L3,.int .i64 L4]] w fun e w'=>e=.returned (.agg #[.int .i64 K,.int .i64 P])/\Below w.heap.size w w'):=KM;have HKR:Hid (∀w,Aa w b o (Dt ⟨io,D,A,B,E,n,bt⟩)->Calls prog 93 #[.pointer (some ⟨b,o,none⟩)] w fun e w'=>e=.returned (.agg #[.int .i64 D,.int .i64 A,.int .i64 B,.int .i64 E])/\Below w.heap.size w w'):=KR;have HK0:Hid (∀w,BZ w C v0 v1 v2 v3 c->Calls prog 94 #[.pointer (some ⟨C,0,none⟩),.int .i64 L0,.int .i64 D,.agg #[.int .i64 K,.int .i64 P]] w fun e w'=>e=.returned (.bool X0)/\Below w.heap.size w w'):=K0;have HK1:Hid (∀w,BZ w C v0 v1 v2 v3 c->Calls prog 94 #[.pointer (some ⟨C,0,none⟩),.int .i64 L1,.int .i64 A,.agg #[.int .i64 K,.int .i64 P]] w fun e w'=>e=.returned (.bool X1)/\Below w.heap.size w w'):=K1;have HK2:Hid (∀w,BZ w C v0 v1 v2 v3 c->Calls prog 94 #[.pointer (some ⟨C,0,none⟩),.int .i64 L2,.int .i64 B,.agg #[.int .i64 K,.int .i64 P]] w fun e w'=>e=.returned (.bool X2)/\Below w.heap.size w w'):=K2;have HK3:Hid (∀w,BZ w C v0 v1 v2 v3 c->Calls prog 94 #[.pointer (some ⟨C,0,none⟩),.int .i64 L3,.int .i64 E,.agg #[.int .i64 K,.int .i64 P]] w fun e w'=>e=.returned (.bool X3)/\Below w.heap.size w w'):=K3;have HK4:Hid ((L4=9->Aj P c.sign.length=true)->∀w,BZ w C v0 v1 v2 v3 c->Aa w b o (Dt ⟨io,D,A,B,E,n,bt⟩)->Calls prog 95 #[.pointer (some ⟨C,0,none⟩),.pointer (some ⟨b,o,none⟩),.int .i64 L4,.agg #[.int .i64 K,.int .i64 P]] w fun e w'=>e=.returned (.bool Y)/\Below w.heap.size w w'):=K4;have HP:Hid (X0=true->X1=true->L4=9->Aj P c.sign.length=true):=hp;clear KM KR K0 K1 K2 K3 K4 hp hM hX0 hX1 hX2 hX3 hY;go_enter func54,ntmps54;go_wp2_with(first
  |(go_at_call 92;refine(HKM.out _ (HC0.out.below (A0 _ _)) (HI0.out.below (A0 _ _))).mono ?_;rintro e w1 ⟨rfl,hb1⟩;have HF1:Hid (FW w w1.heap.size L0 L1 L2 L3 L4 K P (w1.alloc (.cells #[.int .i64 K,.int .i64 P] 69))):=(by exact⟨bel (bel (A0 _ _) hb1) (A0 _ _),kc (A0 _ _) (kc hb1 sG),kc (A0 _ _) (kc hb1 sG),kc (A0 _ _) (kc hb1 sG),kc (A0 _ _) (kc hb1 sG),kc (A0 _ _) (kc hb1 sG),sG,sG⟩))
  |(go_at_call 93;refine(HKR.out _ (HI0.out.below HF1.out.bel)).mono ?_;rintro e w2 ⟨rfl,hb2⟩;have HF2:Hid (FW w w1.heap.size L0 L1 L2 L3 L4 K P w2):=HF1.out.next hb2))
 obtain⟨G,hG⟩:∃G,w1.heap.size=G:=⟨_,rfl⟩
 rw[hG]at HF2 ⊢
 go_loopw [16] (fun iv wr=>FW w G L0 L1 L2 L3 L4 K P wr/\∃j:Nat,j<=4/\iv=.int .i64 j/\Hid ((0<j->X0=true)/\(1<j->X1=true)/\(2<j->X2=true)/\(3<j->X3=true))) (fun iv _=>4-(intOf iv).toNat)
 case atStart=>exact⟨HF2.out,0,oM,rfl,⟨fun h=>absurd h oM,fun h=>absurd h oM,fun h=>absurd h oM,fun h=>absurd h oM⟩⟩
 case round=>
  clear HF1 HF2 HKM HKR hb1 hb2 hG;obtain⟨hF,j,hj,rfl,hp⟩:=hrel;have m0:=hF.m0;have m1:=hF.m1;have HF:Hid (FW w G L0 L1 L2 L3 L4 K P wr):=hF;have HC:Hid (∀v,Below wr.heap.size wr v->FW w G L0 L1 L2 L3 L4 K P v):=fun v hv=>HF.out.next hv;obtain rfl|rfl|rfl|rfl|rfl:j=0\/j=1\/j=2\/j=3\/j=4:=oM
  ·have r0:=hF.r0;have ix:∀w,(Instr.index 170 (.agg #[.int .i64 D,.int .i64 A,.int .i64 B,.int .i64 E]) (.int .i64 0)).run prog w=.ok (.int .i64 D) w:=fun w=>(TH D A B E w).1;clear hF;have HC1:Hid (∀v,Below wr.heap.size wr v->v.cell? ⟨w.heap.size,0,none⟩=some (.int .i64 L0)/\v.cell? ⟨G,0,none⟩=some (.int .i64 K)/\v.cell? ⟨G,1,none⟩=some (.int .i64 P)):=fun v hv=>⟨(HC.out v hv).r0,(HC.out v hv).m0,(HC.out v hv).m1⟩
   cases X0
   ·go_wp2;refine rG (fun v=>v.cell? ⟨w.heap.size,0,none⟩=some (.int .i64 L0)/\v.cell? ⟨G,0,none⟩=some (.int .i64 K)/\v.cell? ⟨G,1,none⟩=some (.int .i64 P)) fun hHeld=>?_;refine Tf 0 1 2 3 4 5 ?_;clear hHeld;refine Ap 6 fun K hK=>?_;go_simp;(go_at_call 94;refine(HK0.out _ ((HC0.out.below HF.out.bel).below (A5 _))).mono ?_;rintro e w3 ⟨rfl,hb3⟩;have HB3:=bel (A5 _) hb3;obtain⟨y0,y1,y2⟩:=HC1.out w3 HB3);exact Zcd
   ·go_wp2;refine rG (fun v=>v.cell? ⟨w.heap.size,0,none⟩=some (.int .i64 L0)/\v.cell? ⟨G,0,none⟩=some (.int .i64 K)/\v.cell? ⟨G,1,none⟩=some (.int .i64 P)) fun hHeld=>?_;refine Tf 0 1 2 3 4 5 ?_;clear hHeld;refine Ap 6 fun K hK=>?_;go_simp;(go_at_call 94;refine(HK0.out _ ((HC0.out.below HF.out.bel).below (A5 _))).mono ?_;rintro e w3 ⟨rfl,hb3⟩;have HB3:=bel (A5 _) hb3;obtain⟨y0,y1,y2⟩:=HC1.out w3 HB3);try(go_wp2_with fail)
    refine Ao hK fun hHeld=>?_;clear hK K;refine AN 7 ?_;refine wpAnyH_done kR ?_ _;go_wp2;go_roundw
    case rel=>exact⟨HC.out w3 HB3,1,oM,by first|rfl|go_num,⟨fun _=>fT,fun h=>absurd h oM,fun h=>absurd h oM,fun h=>absurd h oM⟩⟩
    case measure=>simp[intOf]
  ·have r0:=hF.r1;have ix:∀w,(Instr.index 170 (.agg #[.int .i64 D,.int .i64 A,.int .i64 B,.int .i64 E]) (.int .i64 1)).run prog w=.ok (.int .i64 A) w:=fun w=>(TH D A B E w).2.1;clear hF;have HC1:Hid (∀v,Below wr.heap.size wr v->v.cell? ⟨w.heap.size,1,none⟩=some (.int .i64 L1)/\v.cell? ⟨G,0,none⟩=some (.int .i64 K)/\v.cell? ⟨G,1,none⟩=some (.int .i64 P)):=fun v hv=>⟨(HC.out v hv).r1,(HC.out v hv).m0,(HC.out v hv).m1⟩
   cases X1
   ·go_wp2;refine rG (fun v=>v.cell? ⟨w.heap.size,1,none⟩=some (.int .i64 L1)/\v.cell? ⟨G,0,none⟩=some (.int .i64 K)/\v.cell? ⟨G,1,none⟩=some (.int .i64 P)) fun hHeld=>?_;refine Tf 0 1 2 3 4 5 ?_;clear hHeld;refine Ap 6 fun K hK=>?_;go_simp;(go_at_call 94;refine(HK1.out _ ((HC0.out.below HF.out.bel).below (A5 _))).mono ?_;rintro e w3 ⟨rfl,hb3⟩;have HB3:=bel (A5 _) hb3;obtain⟨y0,y1,y2⟩:=HC1.out w3 HB3);exact Zcd
   ·go_wp2;refine rG (fun v=>v.cell? ⟨w.heap.size,1,none⟩=some (.int .i64 L1)/\v.cell? ⟨G,0,none⟩=some (.int .i64 K)/\v.cell? ⟨G,1,none⟩=some (.int .i64 P)) fun hHeld=>?_;refine Tf 0 1 2 3 4 5 ?_;clear hHeld;refine Ap 6 fun K hK=>?_;go_simp;(go_at_call 94;refine(HK1.out _ ((HC0.out.below HF.out.bel).below (A5 _))).mono ?_;rintro e w3 ⟨rfl,hb3⟩;have HB3:=bel (A5 _) hb3;obtain⟨y0,y1,y2⟩:=HC1.out w3 HB3);try(go_wp2_with fail)
    refine Ao hK fun hHeld=>?_;clear hK K;refine AN 7 ?_;refine wpAnyH_done kR ?_ _;go_wp2;go_roundw
    case rel=>exact⟨HC.out w3 HB3,2,oM,by first|rfl|go_num,⟨fun _=>hp.out.1 oM,fun _=>fT,fun h=>absurd h oM,fun h=>absurd h oM⟩⟩
    case measure=>simp[intOf]
  ·have r0:=hF.r2;have ix:∀w,(Instr.index 170 (.agg #[.int .i64 D,.int .i64 A,.int .i64 B,.int .i64 E]) (.int .i64 2)).run prog w=.ok (.int .i64 B) w:=fun w=>(TH D A B E w).2.2.1;clear hF;have HC1:Hid (∀v,Below wr.heap.size wr v->v.cell? ⟨w.heap.size,2,none⟩=some (.int .i64 L2)/\v.cell? ⟨G,0,none⟩=some (.int .i64 K)/\v.cell? ⟨G,1,none⟩=some (.int .i64 P)):=fun v hv=>⟨(HC.out v hv).r2,(HC.out v hv).m0,(HC.out v hv).m1⟩
   cases X2
   ·go_wp2;refine rG (fun v=>v.cell? ⟨w.heap.size,2,none⟩=some (.int .i64 L2)/\v.cell? ⟨G,0,none⟩=some (.int .i64 K)/\v.cell? ⟨G,1,none⟩=some (.int .i64 P)) fun hHeld=>?_;refine Tf 0 1 2 3 4 5 ?_;clear hHeld;refine Ap 6 fun K hK=>?_;go_simp;(go_at_call 94;refine(HK2.out _ ((HC0.out.below HF.out.bel).below (A5 _))).mono ?_;rintro e w3 ⟨rfl,hb3⟩;have HB3:=bel (A5 _) hb3;obtain⟨y0,y1,y2⟩:=HC1.out w3 HB3);exact Zcd
   ·go_wp2;refine rG (fun v=>v.cell? ⟨w.heap.size,2,none⟩=some (.int .i64 L2)/\v.cell? ⟨G,0,none⟩=some (.int .i64 K)/\v.cell? ⟨G,1,none⟩=some (.int .i64 P)) fun hHeld=>?_;refine Tf 0 1 2 3 4 5 ?_;clear hHeld;refine Ap 6 fun K hK=>?_;go_simp;(go_at_call 94;refine(HK2.out _ ((HC0.out.below HF.out.bel).below (A5 _))).mono ?_;rintro e w3 ⟨rfl,hb3⟩;have HB3:=bel (A5 _) hb3;obtain⟨y0,y1,y2⟩:=HC1.out w3 HB3);try(go_wp2_with fail)
    refine Ao hK fun hHeld=>?_;clear hK K;refine AN 7 ?_;refine wpAnyH_done kR ?_ _;go_wp2;go_roundw
    case rel=>exact⟨HC.out w3 HB3,3,oM,by first|rfl|go_num,⟨fun _=>hp.out.1 oM,fun _=>hp.out.2.1 oM,fun _=>fT,fun h=>absurd h oM⟩⟩
    case measure=>simp[intOf]
  ·have r0:=hF.r3;have ix:∀w,(Instr.index 170 (.agg #[.int .i64 D,.int .i64 A,.int .i64 B,.int .i64 E]) (.int .i64 3)).run prog w=.ok (.int .i64 E) w:=fun w=>(TH D A B E w).2.2.2;clear hF;have HC1:Hid (∀v,Below wr.heap.size wr v->v.cell? ⟨w.heap.size,3,none⟩=some (.int .i64 L3)/\v.cell? ⟨G,0,none⟩=some (.int .i64 K)/\v.cell? ⟨G,1,none⟩=some (.int .i64 P)):=fun v hv=>⟨(HC.out v hv).r3,(HC.out v hv).m0,(HC.out v hv).m1⟩
   cases X3
   ·go_wp2;refine rG (fun v=>v.cell? ⟨w.heap.size,3,none⟩=some (.int .i64 L3)/\v.cell? ⟨G,0,none⟩=some (.int .i64 K)/\v.cell? ⟨G,1,none⟩=some (.int .i64 P)) fun hHeld=>?_;refine Tf 0 1 2 3 4 5 ?_;clear hHeld;refine Ap 6 fun K hK=>?_;go_simp;(go_at_call 94;refine(HK3.out _ ((HC0.out.below HF.out.bel).below (A5 _))).mono ?_;rintro e w3 ⟨rfl,hb3⟩;have HB3:=bel (A5 _) hb3;obtain⟨y0,y1,y2⟩:=HC1.out w3 HB3);exact Zcd
   ·go_wp2;refine rG (fun v=>v.cell? ⟨w.heap.size,3,none⟩=some (.int .i64 L3)/\v.cell? ⟨G,0,none⟩=some (.int .i64 K)/\v.cell? ⟨G,1,none⟩=some (.int .i64 P)) fun hHeld=>?_;refine Tf 0 1 2 3 4 5 ?_;clear hHeld;refine Ap 6 fun K hK=>?_;go_simp;(go_at_call 94;refine(HK3.out _ ((HC0.out.below HF.out.bel).below (A5 _))).mono ?_;rintro e w3 ⟨rfl,hb3⟩;have HB3:=bel (A5 _) hb3;obtain⟨y0,y1,y2⟩:=HC1.out w3 HB3);try(go_wp2_with fail)
    refine Ao hK fun hHeld=>?_;clear hK K;refine AN 7 ?_;refine wpAnyH_done kR ?_ _;go_wp2;go_roundw
    case rel=>exact⟨HC.out w3 HB3,4,oM,by first|rfl|go_num,⟨fun _=>hp.out.1 oM,fun _=>hp.out.2.1 oM,fun _=>hp.out.2.2.1 oM,fun _=>fT⟩⟩
    case measure=>simp[intOf]
  ·have r4:=hF.r4;obtain⟨rfl,rfl,rfl,rfl⟩:X0=true/\X1=true/\X2=true/\X3=true:=⟨hp.out.1 oM,hp.out.2.1 oM,hp.out.2.2.1 oM,hp.out.2.2.2 oM⟩
   clear hF hp;go_wp2_with(go_at_call 95;refine(HK4.out (HP.out rfl rfl) _ (HC0.out.below HF.out.bel) (HI0.out.below HF.out.bel)).mono ?_;rintro e w3 ⟨rfl,hb3⟩);go_ret;exact⟨A7 sM,(HC.out w3 hb3).bel⟩
theorem G6(a:Int)(k:Nat)(hk:k<64)(h0:0<=a)(h1:a<18446744073709551616):bits .and .u64 a ((2^k-1:Nat):Int)=a%((2^k:Nat):Int):=by
 have hp:2^k<2^64:=Nat.pow_lt_pow_right oM hk;have hq:0<2^k:=Nat.two_pow_pos k;obtain⟨n,rfl⟩:=Int.eq_ofNat_of_zero_le h0;rw[u64_and _ _ h0 h1 oM oM,Int.toNat_natCast,Int.toNat_natCast,Nat.and_two_pow_sub_one_eq_mod];rfl
theorem Wf(a:Int)(h0:0<=a)(h1:a<18446744073709551616):bits .and .u64 a 255=a%256:=G6 a 8 dE h0 h1
theorem SJ(a:Int)(h0:0<=a)(h1:a<18446744073709551616):bits .and .u64 a 8388607=a%8388608:=G6 a 23 dE h0 h1
def AU(a:Int):Bool:=a/2147483648==1
def nM(a:Int):Int:=if a/8388608%256=255 then 0 else if a/8388608%256=0 then a%8388608 else 8388608+a%8388608
def nE(a:Int):Int:=if a/8388608%256=255 then 0 else if a/8388608%256=0 then -149 else a/8388608%256-150
def Dl(a:Int):Bool:=if a/8388608%256=255 then a%8388608==0 else false
def BB(a:Int):Bool:=if a/8388608%256=255 then a%8388608 != 0 else false
theorem CI(a:Int)(h0:0<=a)(h1:a<4294967296)(w:World):
 Calls prog 135 #[.int .i64 a] w fun e w'=>e=.returned (.agg #[.bool (AU a),.int .u64 (nM a),.int .i64 (nE a),.bool (Dl a),.bool (BB a)])/\∃o,w'=(w.alloc o).alloc o:=by
 have e1:=Wf (a/8388608) oM oM;have e2:=SJ a h0 oM;by_cases c:a/8388608%256=255
 ·have f1:nM a=0:=by unfold nM;rw[if_pos c]
  have f2:nE a=0:=by unfold nE;rw[if_pos c]
  have f3:Dl a=(a%8388608==0):=by unfold Dl;rw[if_pos c]
  have f4:BB a=(a%8388608 != 0):=by unfold BB;rw[if_pos c]
  exact Zdh
 ·by_cases c2:a/8388608%256=0
  ·have f1:nM a=a%8388608:=by unfold nM;rw[if_neg c,if_pos c2]
   have f2:nE a= -149:=by unfold nE;rw[if_neg c,if_pos c2]
   have f3:Dl a=false:=by unfold Dl;rw[if_neg c]
   have f4:BB a=false:=by unfold BB;rw[if_neg c]
   exact Zdh
  ·have f1:nM a=8388608+a%8388608:=by unfold nM;rw[if_neg c,if_neg c2]
   have f2:nE a=a/8388608%256-150:=by unfold nE;rw[if_neg c,if_neg c2]
   have f3:Dl a=false:=by unfold Dl;rw[if_neg c]
   have f4:BB a=false:=by unfold BB;rw[if_neg c]
   exact Zdh
def GR(s:Bool):Int:=if s then 2147483648 else 0
theorem Pa(s:Bool):0<=GR s/\GR s<=2147483648:=by unfold GR;split<;>decide
theorem FQ(s:Bool)(w:World):
 Calls prog 155 #[.bool s] w fun e w'=>e=.returned (.int .u64 (GR s))/\w'=w:=by
 cases s
 all_goals(
  go_enter func155,ntmps155;go_wp2;go_ret
  exact⟨rfl,rfl⟩)
theorem D7(s:Bool)(w:World):
 Calls prog 153 #[.bool s] w fun e w'=>e=.returned (.int .i64 (GR s))/\w'=w:=by
 have hl:=Pa s;go_enter func153,ntmps153;go_wp2_with(go_at_call 155;refine(FQ _ _).mono ?_;rintro e w' ⟨rfl,rfl⟩);go_ret;exact⟨rfl,rfl⟩
theorem DT(s:Bool)(w:World):
 Calls prog 152 #[.bool s] w fun e w'=>e=.returned (.int .i64 (GR s+2139095040))/\w'=w:=by
 have hl:=Pa s;go_enter func152,ntmps152;go_wp2_with(go_at_call 155;refine(FQ _ _).mono ?_;rintro e w' ⟨rfl,rfl⟩);go_ret;exact⟨rfl,rfl⟩
def Ca(n:Nat):Nat:=if n=0 then 0 else n.log2+1
theorem JE(n:Nat)(h:n≠0):Ca n=Ca (n/2)+1:=by
 unfold Ca;rw[if_neg h];by_cases c:n/2=0
 ·rw[if_pos c];have:n=1:=oM;subst this;decide
 ·rw[if_neg c,Nat.log2_def n,if_pos oM]
theorem F1(m:Int)(h0:0<=m)(h1:m<18446744073709551616)(w:World):
 Calls prog 122 #[.int .u64 m] w fun e w'=>e=.returned (.int .i64 (Ca m.toNat))/\w'=w:=by
 have hb:Ca m.toNat<=64:=by
  unfold Ca;split
  ·omega
  ·rename_i c;have:m.toNat.log2<64:=(Nat.log2_lt c).2 oM;omega
 generalize hB:Ca m.toNat=B at *;have HB:Hid (Ca m.toNat=B):=hB;clear hB;go_enter func122,ntmps122;go_wp2;go_loop [0,3] (fun mv nv=>∃ (x:Int) (k:Nat),0<=x/\x<=m/\mv=.int .u64 x/\nv=.int .i64 k/\k+Ca x.toNat=B) (fun mv _=>(intOf mv).toNat)
 case atStart=>exact⟨m,0,h0,Int.le_refl _,rfl,rfl,by rw[HB.out];omega⟩
 case round=>
  obtain⟨x,k,hx0,hx1,rfl,rfl,hk⟩:=hrel;have HK:Hid (k+Ca x.toNat=B):=hk;by_cases hz:x=0
  ·have:k=B:=by rw[←hk,hz];rfl
   subst this;clear hk HK HB;subst hz;go_wp2;go_ret;exact⟨rfl,rfl⟩
  ·have hs:=JE x.toNat oM;have HS:Hid (Ca x.toNat=Ca (x.toNat/2)+1):=hs;have hkB:k<=63:=oM;clear hs hk;go_wp2;go_round
   case rel=>exact⟨x/2,k+1,oM,oM,rfl,gN,by rw[show(x/2).toNat=x.toNat/2 by omega];have:=HK.out;have:=HS.out;omega⟩
   case measure=>simp[intOf];omega
theorem L6(neg:Bool)(n drop:Nat):Ieee.Toward.even.cut neg n drop=n/2^drop+(if 2^drop<2*(n%2^drop)\/(2^drop=2*(n%2^drop)/\n/2^drop%2=1)then 1 else 0):=by
 have C9:∀g l r:Nat,l+(decide (g<2*r)||g==2*r&&l%2==1).toNat=l+(if g<2*r\/(g=2*r/\l%2=1)then 1 else 0):=by
  intro g l r;by_cases c1:g<2*r
  ·simp[c1]
  ·by_cases c2:g=2*r
   ·by_cases c3:l%2=1<;>simp[c2,c3]
   ·simp[c1,c2]
 unfold Ieee.Toward.cut;simp only[Nat.one_shiftLeft];rcases Nat.lt_or_ge (n.log2+2) drop with c|c
 ·rw[Nat.min_eq_right oM];have h1:n<2^(n.log2+1):=Nat.lt_log2_self;have h2:2^(n.log2+2)=2*2^(n.log2+1):=by rw[Nat.pow_succ];omega
  have h3:2^(n.log2+2)<=2^drop:=Nat.pow_le_pow_right oM oM;rw[C9,Nat.div_eq_of_lt oM,Nat.mod_eq_of_lt oM,Nat.div_eq_of_lt oM,Nat.mod_eq_of_lt (show n<2^drop by omega)];rw[if_neg oM,if_neg oM]
 ·rw[Nat.min_eq_left oM,C9]
theorem Ws(m:Int)(h0:0<=m)(d:Nat)(hd:1<=d):((Ieee.Toward.even.cut false m.toNat d:Nat):Int)=if(2:Int)^(d-1)<m%2^d\/(m%2^d=2^(d-1)/\m/2^d%2=1)then m/2^d+1 else m/2^d:=by
 obtain⟨n,rfl⟩:=Int.eq_ofNat_of_zero_le h0;rw[L6,Int.toNat_natCast];have hG:2^d=2*2^(d-1):=by
  obtain⟨e,rfl⟩:∃e,d=e+1:=⟨d-1,oM⟩
  rw[Nat.add_sub_cancel,Nat.pow_succ,Nat.mul_comm]
 have e1:((n:Int)/2^d)=((n/2^d:Nat):Int):=by push_cast;rfl
 have e2:((n:Int)%2^d)=((n%2^d:Nat):Int):=by push_cast;rfl
 have e3:(2:Int)^(d-1)=((2^(d-1):Nat):Int):=by push_cast;rfl
 rw[e1,e2,e3];generalize n/2^d=q;generalize n%2^d=r;rw[hG];generalize 2^(d-1)=H;by_cases c:2*H<2*r\/(2*H=2*r/\q%2=1)
 ·rw[if_pos c,if_pos oM];omega
 ·rw[if_neg c,if_neg oM];omega
theorem MR(m:Int)(h0:0<=m)(h1:m<18446744073709551616)(d:Nat)(g0:1<=d)(g1:d<64)(w:World):
 Calls prog 154 #[.int .u64 m,.int .i64 d] w fun e w'=>e=.returned (.int .u64 (Ieee.Toward.even.cut false m.toNat d:Nat))/\w'=w:=by
 rw[Ws m h0 d g0];have hG:(2:Int)^d=2*2^(d-1):=by
  obtain⟨e,rfl⟩:∃e,d=e+1:=⟨d-1,oM⟩
  rw[Nat.add_sub_cancel,Int.pow_succ,Int.mul_comm]
 have hle:(2:Int)^d<=9223372036854775808:=by
  have h:2^d<=9223372036854775808:=Nat.le_trans (Nat.pow_le_pow_right dE (show d<=63 by omega)) dE;have h':((2^d:Nat):Int)<=((9223372036854775808:Nat):Int):=Int.ofNat_le.2 h;rw[Int.natCast_pow]at h';exact h'
 have hH:(1:Int)<=2^(d-1):=Int.pow_pos dE;have f1:IntKind.u64.wrap ((2:Int)^d)=2^d:=by rw[IntKind.wrap_u64];omega
 have f4:IntKind.u64.wrap ((2:Int)^(d-1))=2^(d-1):=by rw[IntKind.wrap_u64];omega
 have f3:bits .and .u64 m ((2:Int)^d-1)=m%2^d:=by
  have:=G6 m d g1 h0 h1;have e:((2^d-1:Nat):Int)=(2:Int)^d-1:=by
   rw[Int.ofNat_sub (Nat.two_pow_pos d)];push_cast;rfl
  rw[e]at this;rw[this];push_cast;rfl
 have hr0:0<=m%2^d:=Int.emod_nonneg _ oM;have hr1:m%2^d<2^d:=Int.emod_lt_of_pos _ oM;have hq0:0<=m/2^d:=Int.ediv_nonneg h0 oM;have hq1:m/2^d<=9223372036854775807:=by
  have h2:m/2^d<=m/2:=by
   have:(2:Int)∣2^d:=⟨2^(d-1),hG⟩
   rw[hG,←Int.ediv_ediv_of_nonneg dE];exact Int.ediv_le_self _ oM
  omega
 have f5:IntKind.u64.wrap ((2:Int)^d-1)=2^d-1:=by rw[IntKind.wrap_u64];omega
 generalize hr:m%2^d=r at *;generalize hq:m/2^d=q at *;generalize hHH:(2:Int)^(d-1)=H at *;generalize hGG:(2:Int)^d=G at *;have hG1:1<=G:=oM;clear hr hG;by_cases c1:H<r
 ·rw[if_pos (Or.inl c1)];exact Yk
 ·by_cases c2:r=H
  ·by_cases c3:q%2=1
   ·rw[if_pos (Or.inr ⟨c2,c3⟩)];exact Yk
   ·rw[if_neg oM];exact Yk
  ·rw[if_neg oM];exact Yk
theorem Hz(m:Int)(h0:0<=m)(h1:m<18446744073709551616)(d:Int)(g0:1<=d)(g1:d<100000)(w:World):
 Calls prog 154 #[.int .u64 m,.int .i64 d] w fun e w'=>e=.returned (.int .u64 (Ieee.Toward.even.cut false m.toNat d.toNat:Nat))/\w'=w:=by
 rcases Int.lt_trichotomy d 64 with c|c|c
 ·have:=MR m h0 h1 d.toNat oM oM w;rwa[Int.toNat_of_nonneg oM]at this
 ·subst c;have hv:((Ieee.Toward.even.cut false m.toNat (64:Int).toNat:Nat):Int)=if 9223372036854775808<m then 1 else 0:=by
   rw[L6,show(64:Int).toNat=64 from rfl,show(2:Nat)^64=18446744073709551616 from rfl,Nat.div_eq_of_lt oM,Nat.mod_eq_of_lt oM];by_cases c:9223372036854775808<m
   ·rw[if_pos c,if_pos oM];rfl
   ·rw[if_neg c,if_neg oM];rfl
  rw[hv];clear hv;by_cases c:9223372036854775808<m
  ·rw[if_pos c];exact Yk
  ·rw[if_neg c];by_cases c2:m=9223372036854775808
   ·subst c2;exact Yk
   ·exact Yk
 ·have hv:((Ieee.Toward.even.cut false m.toNat d.toNat:Nat):Int)=0:=by
   have hp:2^65<=2^d.toNat:=Nat.pow_le_pow_right dE oM;have h65:(2:Nat)^65=36893488147419103232:=rfl;rw[L6,Nat.div_eq_of_lt oM,Nat.mod_eq_of_lt oM,if_neg oM];rfl
  rw[hv];clear hv;exact Yk
theorem EE:(prog.info? 3).map (fun i=>(i.zero,i.size,i.bytes))=some (some (.int .i64 0),1,8):=kR
def BQ(l:List Int):List Value:=l.map fun x=>.int .i64 x
theorem CC(l:List Int)(x:Int):BQ (l++[x])=BQ l++[.int .i64 x]:=by simp[BQ]
theorem DQ{w:World}{B:Nat}{t:TypeId}{k:Nat}{v:Value}{n:Nat}{xs:List Value}(h:w.ownsRow B t k v n xs)(hn:0<n):
 ∃g cap,v=.slice (some ⟨g,0,none⟩) n cap/\B<=g/\g<w.heap.size/\n<=cap/\cap<=maxLen/\∀ (j:Nat) (u:Value),xs[j]? =some u->w.cell? ⟨g,j,none⟩=some u:=by
 obtain⟨hl,h⟩:=h;rcases h with⟨_,h0⟩|⟨g,cap,cur,hv,hB,hg,hc1,hc2,hsz,htk⟩
 ·omega
 ·refine⟨g,cap,hv,hB,?_,hc1,hc2,fun j u hu=>?_⟩
  ·rcases Nat.lt_or_ge g w.heap.size with c|c
   ·exact c
   ·rw[Array.getElem?_eq_none c]at hg;cases hg
  ·have hj:j<xs.length:=(List.getElem?_eq_some_iff.1 hu).1;rw[←htk,List.getElem?_take_of_lt oM]at hu;simpa[World.cell?,hg]using hu
theorem AV{w:World}{B:Nat}{t:TypeId}{k:Nat}{v:Value}{n:Nat}{xs:List Value}(h:w.ownsRow B t k v n xs):∃p cap,v=.slice p n cap:=by
 obtain⟨hl,h⟩:=h;rcases h with⟨rfl,rfl⟩|⟨g,cap,cur,hv,-⟩
 ·exact⟨none,0,rfl⟩
 ·exact⟨_,_,hv⟩
theorem AC{w w':World}{B:Nat}{t:TypeId}{k:Nat}{v:Value}{n:Nat}{xs:List Value}(h:w.ownsRow B t k v n xs)(hb:∀g,v.ownBlock=some g->w'.heap[g]? =w.heap[g]?):w'.ownsRow B t k v n xs:=by
 refine⟨h.1,?_⟩;rcases h.2 with h5|⟨g,cap,cur,hv,hB,hg,hr⟩
 ·exact .inl h5
 ·exact .inr ⟨g,cap,cur,hv,hB,(hb g (by rw[hv];rfl)).trans hg,hr⟩
theorem Az{w w':World}{B:Nat}{t:TypeId}{k:Nat}{v:Value}{n:Nat}{xs:List Value}(h:w.ownsRow B t k v n xs)(q:Below w.heap.size w w'):w'.ownsRow B t k v n xs:=AC h fun g hg=>q.block g (h.lt g hg).2
theorem Dn{w:World}{B B':Nat}{t:TypeId}{k:Nat}{v:Value}{n:Nat}{xs:List Value}(h:w.ownsRow B t k v n xs)(hB:B'<=B):w.ownsRow B' t k v n xs:=
 ⟨h.1,h.2.imp id fun⟨g,cap,cur,h1,h2,h3⟩=>⟨g,cap,cur,h1,Nat.le_trans hB h2,h3⟩⟩
def Ep(L x:Int):List Int:=if L=0 then [] else [x]
theorem GJ(i:At)(r:Rw):Ak i r=(Ep r.a i.a++Ep r.b i.b)++Ep r.c i.c:=by unfold Ak Ep;simp
theorem He(L x:Int):(Ep L x).length<=1:=by unfold Ep;split<;>simp
structure Zy(w:World)(G C:Nat)(L1 L2 L3 A B E:Int)(v:World):Prop where
 bel:Below w.heap.size w v
 hC:w.heap.size<C
 hG:G<C
 le:C<=v.heap.size
 r1:v.cell? ⟨w.heap.size,1,none⟩=some (.int .i64 L1)
 r2:v.cell? ⟨w.heap.size,2,none⟩=some (.int .i64 L2)
 r3:v.cell? ⟨w.heap.size,3,none⟩=some (.int .i64 L3)
 g1:v.cell? ⟨G,1,none⟩=some (.int .i64 A)
 g2:v.cell? ⟨G,2,none⟩=some (.int .i64 B)
 g3:v.cell? ⟨G,3,none⟩=some (.int .i64 E)
theorem Zy.next{w:World}{G C:Nat}{L1 L2 L3 A B E:Int}{v v':World}(h:Zy w G C L1 L2 L3 A B E v)(k:Below C v v'):Zy w G C L1 L2 L3 A B E v':=by
 have c1:∀ {a:Addr} {u:Value},a.block<C->v.cell? a=some u->v'.cell? a=some u:=fun ha hu=>(k.cell ha).trans hu;exact⟨h.bel.trans (k.mono (Nat.le_of_lt h.hC)),h.hC,h.hG,Nat.le_trans h.le k.size,c1 h.hC h.r1,c1 h.hC h.r2,c1 h.hC h.r3,c1 h.hG h.g1,c1 h.hG h.g2,c1 h.hG h.g3⟩
theorem Gc(b o:Nat)(i:At)(r:Rw)(w:World)(hi:Aa w b o (Dt i)):
 Calls prog 56 #[Dp r,.pointer (some ⟨b,o,none⟩)] w fun e w'=>∃v,e=.returned v/\w'.ownsRow w.heap.size 3 1 v (Ak i r).length (BQ (Ak i r))/\Below w.heap.size w w':=by
 rw[GJ];have KR:=fun w k=>Fc b o i w k;have HI0:Hid (Aa w b o (Dt i)):=hi;obtain⟨i0,hi0,hz0,hz1,hz3⟩:=info_parts EE;obtain⟨L0,L1,L2,L3,L4⟩:=r;obtain⟨io,D,A,B,E,n,bt⟩:=i;unfold Dp;simp only at KR ⊢;have HKR:Hid (∀w,Aa w b o (Dt ⟨io,D,A,B,E,n,bt⟩)->Calls prog 93 #[.pointer (some ⟨b,o,none⟩)] w fun e w'=>e=.returned (.agg #[.int .i64 D,.int .i64 A,.int .i64 B,.int .i64 E])/\Below w.heap.size w w'):=KR;clear KR hi;obtain⟨R,hR⟩:∃R,(Ep L1 A++Ep L2 B)++Ep L3 E=R:=⟨_,rfl⟩
 rw[hR];have HR:Hid ((Ep L1 A++Ep L2 B)++Ep L3 E=R):=hR;clear hR;go_enter func56,ntmps56;go_wp2_with(go_at_call 93;refine(HKR.out _ (HI0.out.below (A0 _ _))).mono ?_;rintro e w1 ⟨rfl,hb1⟩);have HF1:Hid (Zy w w1.heap.size (w1.heap.size+1) L1 L2 L3 A B E (w1.alloc (.cells #[.int .i64 D,.int .i64 A,.int .i64 B,.int .i64 E] 170))):=by
  have hs:=hb1.size;simp at hs;exact⟨bel (bel (A0 _ _) hb1) (A0 _ _),oM,oM,sM,kc (A0 _ _) (kc hb1 sG),kc (A0 _ _) (kc hb1 sG),kc (A0 _ _) (kc hb1 sG),sG,sG,sG⟩
 obtain⟨G,hG⟩:∃G,w1.heap.size=G:=⟨_,rfl⟩
 obtain⟨W,hW⟩:∃W,w1.alloc (.cells #[.int .i64 D,.int .i64 A,.int .i64 B,.int .i64 E] 170)=W:=⟨_,rfl⟩
 rw[hW]at HF1 ⊢;rw[hG]at HF1 ⊢;clear hG hW
 go_loopw [5,7] (fun lv iv wr=>Zy w G (G+1) L1 L2 L3 A B E wr/\∃ (j:Nat) (l:List Int),1<=j/\j<=4/\iv=.int .i64 j/\l.length<=j-1/\Hid (wr.ownsRow (G+1) 3 1 lv l.length (BQ l))/\Hid ((j=1->l=[])/\(j=2->l=Ep L1 A)/\(j=3->l=Ep L1 A++Ep L2 B)/\(j=4->l=(Ep L1 A++Ep L2 B)++Ep L3 E))) (fun _ iv _=>4-(intOf iv).toNat)
 case atStart=>exact⟨HF1.out,1,[],oM,oM,rfl,sM,World.ownsRow_nil _ _ _ 1,⟨fun _=>rfl,fun h=>absurd h oM,fun h=>absurd h oM,fun h=>absurd h oM⟩⟩
 case round=>
  clear HF1 HKR hb1;obtain⟨hF,j,l,hj1,hj,rfl,hll,HO,HL⟩:=hrel;have HF:Hid (Zy w G (G+1) L1 L2 L3 A B E wr):=hF;have hGw:=hF.le;have hn1:G≠wr.heap.size:=oM;have hn2:w.heap.size≠wr.heap.size:=by have:=hF.hC;omega
  obtain rfl|rfl|rfl|rfl:j=1\/j=2\/j=3\/j=4:=oM
  ·have r0:=hF.r1;have g0:=hF.g1;have f0:=kc (A0 wr (.cells #[.int .i64 A] 3)) g0;have hl0:=HL.out.1 rfl;clear hF;by_cases hz:L1=0
   ·have hz':(L1 != 0)=false:=by simpa using hz
    have hz2:(L1==0)=true:=by simpa using hz
    have HZ:Hid (L1=0):=hz;clear hz;go_wp2;go_roundw
    case rel=>exact⟨HF.out,2,l,oM,oM,by first|rfl|go_num,oM,HO,⟨fun h=>absurd h oM,fun _=>by rw[hl0];unfold Ep;simp[HZ.out],fun h=>absurd h oM,fun h=>absurd h oM⟩⟩
    case measure=>simp[intOf]
   ·have hz':(L1 != 0)=true:=by simpa using hz
    have hz2:(L1==0)=false:=by simpa using hz
    have HZ:Hid (¬L1=0):=hz;clear hz;go_wp2_with(first
     |(at_builtin;refine wpList_append_own_at _ rfl _ _ 82 rfl (G+1) 3 i0 _ 1 8 underlying82 hi0 hz0 hz1 hz3 rfl dE _ l.length (BQ l) rfl (World.ownsRow.alloc HO.out _) ⟨wr.heap.size,0,none⟩ 1 1 [.int .i64 A] rfl rfl (World.news_of_block (cs:=#[.int .i64 A]) (t:=3) (fr:=(0,0)) (heap_alloc_new wr _)) SG mL oM sO ?_;intro v' w3 hown3 hgrow hnil hat;have HO3:Hid (w3.ownsRow (G+1) 3 1 v' (l.length+1) (BQ l++[.int .i64 A])):=hown3;have HB3:Hid (Below (G+1) wr w3):=(Below.alloc (Below.refl _ _) hGw _).grown hgrow sO (fun q e=>(HO.out.lt q e).1);clear hown3 hgrow hnil hat))
    go_roundw
    case rel=>exact⟨HF.out.next HB3.out,2,l++[A],oM,oM,by first|rfl|go_num,sO,by show _;rw[List.length_append,CC];exact HO3.out,⟨fun h=>absurd h oM,fun _=>by rw[hl0,show Ep L1 A=[A]from if_neg HZ.out];try rfl,fun h=>absurd h oM,fun h=>absurd h oM⟩⟩
    case measure=>simp[intOf]
  ·have r0:=hF.r2;have g0:=hF.g2;have f0:=kc (A0 wr (.cells #[.int .i64 B] 3)) g0;have hl0:=HL.out.2.1 rfl;clear hF;by_cases hz:L2=0
   ·have hz':(L2 != 0)=false:=by simpa using hz
    have hz2:(L2==0)=true:=by simpa using hz
    have HZ:Hid (L2=0):=hz;clear hz;go_wp2;go_roundw
    case rel=>exact⟨HF.out,3,l,oM,oM,by first|rfl|go_num,oM,HO,⟨fun h=>absurd h oM,fun h=>absurd h oM,fun _=>by rw[hl0];unfold Ep;simp[HZ.out],fun h=>absurd h oM⟩⟩
    case measure=>simp[intOf]
   ·have hz':(L2 != 0)=true:=by simpa using hz
    have hz2:(L2==0)=false:=by simpa using hz
    have HZ:Hid (¬L2=0):=hz;clear hz;go_wp2_with(first
     |(at_builtin;refine wpList_append_own_at _ rfl _ _ 82 rfl (G+1) 3 i0 _ 1 8 underlying82 hi0 hz0 hz1 hz3 rfl dE _ l.length (BQ l) rfl (World.ownsRow.alloc HO.out _) ⟨wr.heap.size,0,none⟩ 1 1 [.int .i64 B] rfl rfl (World.news_of_block (cs:=#[.int .i64 B]) (t:=3) (fr:=(0,0)) (heap_alloc_new wr _)) SG mL oM sO ?_;intro v' w3 hown3 hgrow hnil hat;have HO3:Hid (w3.ownsRow (G+1) 3 1 v' (l.length+1) (BQ l++[.int .i64 B])):=hown3;have HB3:Hid (Below (G+1) wr w3):=(Below.alloc (Below.refl _ _) hGw _).grown hgrow sO (fun q e=>(HO.out.lt q e).1);clear hown3 hgrow hnil hat))
    go_roundw
    case rel=>exact⟨HF.out.next HB3.out,3,l++[B],oM,oM,by first|rfl|go_num,sO,by show _;rw[List.length_append,CC];exact HO3.out,⟨fun h=>absurd h oM,fun h=>absurd h oM,fun _=>by rw[hl0,show Ep L2 B=[B]from if_neg HZ.out];try rfl,fun h=>absurd h oM⟩⟩
    case measure=>simp[intOf]
  ·have r0:=hF.r3;have g0:=hF.g3;have f0:=kc (A0 wr (.cells #[.int .i64 E] 3)) g0;have hl0:=HL.out.2.2.1 rfl;clear hF;by_cases hz:L3=0
   ·have hz':(L3 != 0)=false:=by simpa using hz
    have hz2:(L3==0)=true:=by simpa using hz
    have HZ:Hid (L3=0):=hz;clear hz;go_wp2;go_roundw
    case rel=>exact⟨HF.out,4,l,oM,oM,by first|rfl|go_num,oM,HO,⟨fun h=>absurd h oM,fun h=>absurd h oM,fun h=>absurd h oM,fun _=>by rw[hl0];unfold Ep;simp[HZ.out]⟩⟩
    case measure=>simp[intOf]
   ·have hz':(L3 != 0)=true:=by simpa using hz
    have hz2:(L3==0)=false:=by simpa using hz
    have HZ:Hid (¬L3=0):=hz;clear hz;go_wp2_with(first
     |(at_builtin;refine wpList_append_own_at _ rfl _ _ 82 rfl (G+1) 3 i0 _ 1 8 underlying82 hi0 hz0 hz1 hz3 rfl dE _ l.length (BQ l) rfl (World.ownsRow.alloc HO.out _) ⟨wr.heap.size,0,none⟩ 1 1 [.int .i64 E] rfl rfl (World.news_of_block (cs:=#[.int .i64 E]) (t:=3) (fr:=(0,0)) (heap_alloc_new wr _)) SG mL oM sO ?_;intro v' w3 hown3 hgrow hnil hat;have HO3:Hid (w3.ownsRow (G+1) 3 1 v' (l.length+1) (BQ l++[.int .i64 E])):=hown3;have HB3:Hid (Below (G+1) wr w3):=(Below.alloc (Below.refl _ _) hGw _).grown hgrow sO (fun q e=>(HO.out.lt q e).1);clear hown3 hgrow hnil hat))
    go_roundw
    case rel=>exact⟨HF.out.next HB3.out,4,l++[E],oM,oM,by first|rfl|go_num,sO,by show _;rw[List.length_append,CC];exact HO3.out,⟨fun h=>absurd h oM,fun h=>absurd h oM,fun h=>absurd h oM,fun _=>by rw[hl0,show Ep L3 E=[E]from if_neg HZ.out];try rfl⟩⟩
    case measure=>simp[intOf]
  ·exact Zer
theorem Nq(s:Bool)(r:Nat):((wd s r:Nat):Int)=GR s+min (r:Int) 2139095040:=by
 unfold wd GR;cases s
 ·simp only[if_false,Bool.false_eq_true];omega
 ·simp only[if_true];omega
theorem Jt(s:Bool)(m:Nat)(e:Int)(h0:m≠0):∃ (U:Int) (k:Nat),U=max (e+(Ca m:Int)-24) (-149)/\
 ((Ieee.single.nearest s m e:Nat):Int)=GR s+min ((U+149)*8388608+k) 2139095040/\k<=16777216/\(U= -149\/8388608<=k)/\
 k=Ieee.Toward.even.cut false (m*2^(e-U).toNat) (U-e).toNat/\(U<=e->(k:Int)=(m:Int)*2^(e-U).toNat):=by
 have hb:(Ca m:Int)-24=m.log2-23:=by unfold Ca;rw[if_neg h0];omega
 have hn:=AY Ieee.single s m e;rw[GX,CE,By]at hn;refine⟨max (e+(Ca m:Int)-24) (-149),Ieee.Toward.even.cut false (m*2^(e-max (e+(Ca m:Int)-24) (-149)).toNat) (max (e+(Ca m:Int)-24) (-149)-e).toNat,rfl,?_⟩;have hU:max (e+(Ca m:Int)-24) (-149)=max (e+m.log2-((23:Nat):Int)) (-149):=oM;rw[hU];generalize hUU:max (e+m.log2-((23:Nat):Int)) (-149)=U at *;have hr:BR 23 (-149) m e=(U-(-149)).toNat*2^23+Ieee.Toward.even.cut false (m*2^(e-U).toNat) (U-e).toNat:=by
  unfold BR;rw[if_neg h0,Nat.shiftLeft_eq,hUU]
 have hcut:=Mh false (m*2^(e-U).toNat) (U-e).toNat;generalize hk:Ieee.Toward.even.cut false (m*2^(e-U).toNat) (U-e).toNat=k at *;have hlo:2^m.log2<=m:=Nat.log2_self_le h0;have hhi:m<2^(m.log2+1):=Nat.lt_log2_self;have hcs:=hcut.scale 0 0 (U-e).toNat rfl;rw[Nat.pow_zero,Nat.mul_one]at hcs;have lo:U= -149\/2^23*2^(U-e).toNat<=m*2^(e-U).toNat:=by
  rcases(show U= -149\/U=e+m.log2-23 by omega)with c|c
  ·exact Or.inl c
  ·right
   calc 2^23*2^(U-e).toNat=2^m.log2*2^(e-U).toNat:=by rw[←Nat.pow_add,←Nat.pow_add];congr 1;omega
    _<=m*2^(e-U).toNat:=Nat.mul_le_mul_right _ hlo
 have hi:m*2^(e-U).toNat<2*2^23*2^(U-e).toNat:=by
  calc m*2^(e-U).toNat<2^(m.log2+1)*2^(e-U).toNat:=Nat.mul_lt_mul_of_pos_right hhi (Nat.two_pow_pos _)
   _=2^(m.log2+1+(e-U).toNat):=(Nat.pow_add ..).symm
   _<=2^(24+(U-e).toNat):=Nat.pow_le_pow_right dE oM
   _=2*2^23*2^(U-e).toNat:=by rw[Nat.pow_add]
 have up:=hcut.up;have dn:=hcut.dn;simp only[Nat.mul_one]at up dn;have hT:0<2^(U-e).toNat:=Nat.two_pow_pos _;have hkle:k<=16777216:=by
  rcases Nat.lt_or_ge 16777216 k with c|c
  ·exfalso;have:(2*16777217)*2^(U-e).toNat<=2*k*2^(U-e).toNat:=Nat.mul_le_mul_right _ oM;generalize 2^(U-e).toNat=T at *;generalize m*2^(e-U).toNat=X at *;omega
  ·exact c
 have hkge:U= -149\/8388608<=k:=by
  rcases lo with c|c
  ·exact Or.inl c
  ·right;rcases Nat.lt_or_ge k 8388608 with d|d
   ·exfalso;have:(2*k+1)*2^(U-e).toNat<=16777215*2^(U-e).toNat:=Nat.mul_le_mul_right _ oM;generalize 2^(U-e).toNat=T at *;generalize m*2^(e-U).toNat=X at *;omega
   ·exact d
 refine⟨?_,hkle,hkge,rfl,?_⟩
 ·rw[hn,hr,Nq];rw[Int.natCast_add,Int.natCast_mul,Int.toNat_of_nonneg oM];omega
 ·intro l;rw[show(U-e).toNat=0 by omega]at hcut;have up:=hcut.up;have dn:=hcut.dn;have ue:=hcut.ue;have de:=hcut.de;have:k=m*2^(e-U).toNat:=by
   generalize m*2^(e-U).toNat=X at *;simp only[Nat.pow_zero,Nat.mul_one]at ue de up dn;omega
  rw[this];push_cast;rfl
theorem Bz(s:Bool)(m:Int)(h0:0<=m)(h1:m<18446744073709551616)(e:Int)(e0: -10000<=e)(e1:e<=10000)(w:World):
 Calls prog 124 #[.bool s,.int .u64 m,.int .i64 e] w fun x w'=>x=.returned (.int .i64 (Ieee.single.nearest s m.toNat e:Nat))/\w'=w:=by
 have hs:=Pa s;by_cases hz:m=0
 ·subst hz;have hv:((Ieee.single.nearest s (0:Int).toNat e:Nat):Int)=GR s:=by
   show((Ieee.single.nearest s 0 e:Nat):Int)=GR s;exact Zfo
  rw[hv];clear hv;go_enter func124,ntmps124;go_wp2_with(go_at_call 153;refine(D7 _ _).mono ?_;rintro e w' ⟨rfl,rfl⟩);go_ret;exact⟨rfl,rfl⟩
 ·obtain⟨U,k,hU,hv,hk1,hk2,hk3,hk4⟩:=Jt s m.toNat e oM;rw[hv];clear hv;have hB:1<=Ca m.toNat/\Ca m.toNat<=64:=by
   unfold Ca;rw[if_neg oM];have:m.toNat.log2<64:=(Nat.log2_lt oM).2 oM;omega
  generalize hBB:Ca m.toNat=B at *;have fh:e<U->((Ieee.Toward.even.cut false m.toNat (U-e).toNat:Nat):Int)=k:=by
   intro l;rw[hk3,show(e-U).toNat=0 by omega,Nat.pow_zero,Nat.mul_one]
  have fq:U<=e->IntKind.u64.wrap (m*2^(-(U-e)).toNat)=k:=by
   intro l;have:=hk4 l;rw[show(-(U-e)).toNat=(e-U).toNat by omega,show m=(m.toNat:Int) by omega,←this,IntKind.wrap_u64];omega
  clear hk3 hk4;have hUr: -149<=U/\U<=20000:=oM;have hK0:0<=(k:Int)/\(k:Int)<=16777216/\(U= -149\/8388608<=(k:Int)):=oM;clear hk1 hk2;generalize hKK:(k:Int)=K at *;clear hKK;generalize hT:min ((U+149)*8388608+K) 2139095040=T;have cases:(K=16777216/\U<104/\T=(U+151)*8388608)\/(K=16777216/\104<=U/\T=2139095040)\/(U= -149/\K<8388608/\T=K)\/
   (8388608<=K/\K<16777216/\U<105/\T=(U+149)*8388608+K)\/(8388608<=K/\K<16777216/\105<=U/\T=2139095040):=oM
  clear hT;by_cases hu: -149>e+(B:Int)-24
  ·have hU':U= -149:=oM;clear hU;subst hU';clear hUr;by_cases hsh: -149<=e
   ·have fq':=fq hsh;exact Zby
   ·have fh':=fh oM;exact Zby
  ·have hu2:e+(B:Int)-24=U:=oM;clear hU;by_cases hsh:U<=e
   ·have fq':=fq hsh;exact Zbx
   ·have fh':=fh oM;exact Zbx
def YH(b:Bk):List Value:=[.bool b.loop,.int .i64 b.par,.int .i64 b.ahead]
def Cv(l:List Bk):List Value:=l.flatMap YH
theorem Fp(l:List Bk)(b:Bk):Cv (l++[b])=Cv l++YH b:=by simp[Cv]
theorem DK:∀l:List Bk,(Cv l).length=l.length*3
 |[]=>rfl
 |b::l=>by
  have e:Cv (b::l)=YH b++Cv l:=by simp[Cv]
  rw[e,List.length_append,DK l];simp[YH];omega
theorem Fo(l:List Bk)(b:Bk)(j:Nat){u:Value}(h:(YH b)[j]? =some u):(Cv (l++[b]))[l.length*3+j]? =some u:=by
 rw[Fp,List.getElem?_append_right (by rw[DK];omega),DK,Nat.add_sub_cancel_left];exact h
def Gf(l:List Nat):List Value:=l.map fun(x:Nat)=>Value.int .i64 (x:Int)
theorem Sa(l:List Nat)(x:Nat):Gf (l++[x])=Gf l++[.int .i64 (x:Int)]:=by simp[Gf]
theorem Sc(l:List Nat)(n:Nat):(Gf l).take n=Gf (l.take n):=by simp[Gf,List.map_take]
def wkF(C gi n:Nat)(vs vo:Value)(j:Nat):Value:=if j=0 then .pointer (some ⟨C,0,none⟩)else if j=1 then .slice (some ⟨gi,0,none⟩) n n else if j=2 then vs else vo
structure WS(E G C n gi:Nat)(vs vo:Value)(w:World)(s:Wk):Prop where
 g:w.rowIs G 103 4 (wkF C gi n vs vo)
 i:w.rowIs gi 4 n (fun j=>.bool (decide (j∈s.set)))
 set:w.ownsRow E 3 1 vs s.set.length (Gf s.set)
 opn:w.ownsRow E 175 3 vo s.opens.length (Cv s.opens.reverse)
 hG:E<=G
 hgi:E<=gi
 n1:gi≠G
 n2:vs.ownBlock≠some G
 n3:vs.ownBlock≠some gi
 n4:vo.ownBlock≠some G
 n5:vo.ownBlock≠some gi
 n6:∀b,vs.ownBlock=some b->vo.ownBlock≠some b
section
variable {E G C n gi : Nat} {vs vo : Value} {w w' : World} {s : Wk}
theorem WS.below(h:WS E G C n gi vs vo w s)(k:Below w.heap.size w w'):WS E G C n gi vs vo w' s:=
 ⟨h.g.of_block (k.block _ h.g.lt),h.i.of_block (k.block _ h.i.lt),Az h.set k,Az h.opn k,h.hG,h.hgi,h.n1,h.n2,h.n3,h.n4,h.n5,h.n6⟩
theorem WS.c0(h:WS E G C n gi vs vo w s):w.cell? ⟨G,0,none⟩=some (.pointer (some ⟨C,0,none⟩)):=h.g.cell (i:=0) dE
theorem WS.c1(h:WS E G C n gi vs vo w s):w.cell? ⟨G,1,none⟩=some (.slice (some ⟨gi,0,none⟩) n n):=h.g.cell (i:=1) dE
theorem WS.c2(h:WS E G C n gi vs vo w s):w.cell? ⟨G,2,none⟩=some vs:=h.g.cell (i:=2) dE
theorem WS.c3(h:WS E G C n gi vs vo w s):w.cell? ⟨G,3,none⟩=some vo:=h.g.cell (i:=3) dE
theorem WS.lt(h:WS E G C n gi vs vo w s):E<=w.heap.size:=Nat.le_trans h.hG (Nat.le_of_lt h.g.lt)
end
theorem Jr(E G C n gi:Nat)(vs vo:Value)(s:Wk)(w:World)(h:WS E G C n gi vs vo w s)(hn:s.opens.length<=64):
 Calls prog 96 #[.pointer (some ⟨G,0,none⟩)] w fun e w'=>(∃A:Int,e=.returned (.tuple #[.agg #[.bool (Aw s),.int .i64 (Cx s),.int .i64 A],.bool (!s.opens.isEmpty)]))/\Below w.heap.size w w':=by
 have c3:=h.c3;have ho:=h.opn;have hG:=h.g.lt;have nG:G≠w.heap.size:=oM;obtain⟨X,O⟩:=s;cases O with
 |nil=>
  obtain⟨p,q,rfl⟩:=AV ho;unfold Aw Cx;simp only[List.isEmpty_nil,Bool.not_true]at c3 ⊢;have f3:(w.alloc (.cells #[.bool false,.int .i64 0,.int .i64 0] 175)).cell? ⟨G,3,none⟩=some (.slice p 0 q):=kc (A0 _ _) c3;clear ho h;go_enter func96,ntmps96;go_wp2;refine bodyPost_ret (by simp[results,results96,go_sem];try rfl) rfl ?_;exact⟨⟨0,rfl⟩,gG⟩
 |cons b r=>
  obtain⟨g,cap,rfl,hE,hg,hc1,hc2,hcl⟩:=DQ ho sM;unfold Aw Cx;simp only[List.isEmpty_cons,Bool.not_false]at c3 ⊢;obtain⟨L,P,A⟩:=b;simp only[List.reverse_cons]at hcl;have hl:r.reverse.length=r.length:=List.length_reverse;have x0:=hcl (r.length*3) (.bool L) Zgm;have x1:=hcl (r.length*3+1) (.int .i64 P) Zgj;have x2:=hcl (r.length*3+2) (.int .i64 A) Zgi;simp only[List.length_cons]at c3 hn hc1;obtain⟨m,hm⟩:∃m,r.length=m:=⟨_,rfl⟩
  rw[hm]at x0 x1 x2 c3 hn hc1;obtain⟨N,hN⟩:∃N,m+1=N:=⟨_,rfl⟩
  rw[hN]at c3 hn hc1;have hw:IntKind.i64.wrap ((N:Int)-1)=(m:Int):=by rw[IntKind.wrap_i64];omega
  have h0:((N:Int)==0)=false:=by have:(N:Int)≠0:=oM;simpa using this
  have h0':(N==0)=false:=by have:N≠0:=oM;simpa using this
  have i1:(0:Int)<=(m:Int):=oM;have i2:(m:Int)<(N:Int):=oM;have ng:g≠w.heap.size:=oM;have f3:(w.alloc (.cells #[.bool false,.int .i64 0,.int .i64 0] 175)).cell? ⟨G,3,none⟩=some (.slice (some ⟨g,0,none⟩) N cap):=kc (A0 _ _) c3;have y0:(w.alloc (.cells #[.bool false,.int .i64 0,.int .i64 0] 175)).cell? ⟨g,m*3,none⟩=some (.bool L):=kc (A0 _ _) x0;have y1:(w.alloc (.cells #[.bool false,.int .i64 0,.int .i64 0] 175)).cell? ⟨g,m*3+1,none⟩=some (.int .i64 P):=kc (A0 _ _) x1;have y2:(w.alloc (.cells #[.bool false,.int .i64 0,.int .i64 0] 175)).cell? ⟨g,m*3+2,none⟩=some (.int .i64 (A:Int)):=kc (A0 _ _) x2;have HN:Hid (m+1=N):=hN;clear hcl ho h hm hl hN hE;go_enter func96,ntmps96;go_wp2;refine rG (fun v=>v.cell? ⟨G,3,none⟩=some (.slice (some ⟨g,0,none⟩) N cap)/\v.cell? ⟨g,m*3,none⟩=some (.bool L)/\v.cell? ⟨g,m*3+1,none⟩=some (.int .i64 P)/\v.cell? ⟨g,m*3+2,none⟩=some (.int .i64 (A:Int))) fun hHeld=>?_;refine Tf 0 1 2 3 4 5 ?_;refine Tf 6 7 8 9 10 11 ?_;clear hHeld;refine Ap 12 fun K hK=>?_;go_simp;refine Ao hK fun hHeld=>?_;clear hK K;refine AN 13 ?_;refine wpAnyH_done kR ?_ _;go_wp2;refine bodyPost_ret (by simp[results,results96,go_sem];try rfl) rfl ?_;exact⟨⟨_,rfl⟩,gG⟩
theorem I6(op:Int)(w:World):Calls prog 133 #[.int .i64 op] w fun e w'=>e=.returned (.bool (Bi op))/\w'=w:=by
 unfold Bi;by_cases h:3<=op
 all_goals
  go_enter func133,ntmps133;exact Zdz
theorem Ou(op:Int)(w:World):Calls prog 97 #[.int .i64 op] w fun e w'=>e=.returned (.bool (Cs op))/\w'=w:=by
 have HK:Hid (∀w,Calls prog 133 #[.int .i64 op] w fun e w'=>e=.returned (.bool (Bi op))/\w'=w):=I6 op;by_cases h:29<=op/\op<=33
 ·have hl:Cs op=true:=by unfold Cs;simp;omega
  rw[hl];obtain rfl|rfl|rfl|rfl|rfl:op=29\/op=30\/op=31\/op=32\/op=33:=oM
  all_goals
   clear h hl HK;go_enter func97,ntmps97;go_wp2;go_ret;exact⟨rfl,rfl⟩
 ·have hl:Cs op=Bi op:=by
   unfold Cs;have:(decide (29<=op)&&decide (op<=33))=false:=sO;rw[this];rfl
  rw[hl];have e1:(op==29)=false:=by have:op≠29:=oM;simpa using this
  have e2:(op==30)=false:=by have:op≠30:=oM;simpa using this
  have e3:(op==31)=false:=by have:op≠31:=oM;simpa using this
  have e4:(op==32)=false:=by have:op≠32:=oM;simpa using this
  have e5:(op==33)=false:=by have:op≠33:=oM;simpa using this
  clear h hl;go_enter func97,ntmps97;go_wp2_with(go_at_call 133;refine(HK.out _).mono ?_;rintro e w1 ⟨rfl,rfl⟩);go_ret;exact⟨rfl,rfl⟩
theorem Lx(a:Int)(h0:0<=a)(h1:a<4294967296):AU a=ng a.toNat:=by
 unfold AU ng;by_cases c:2147483648<=a
 ·have e1:a/2147483648=1:=oM;have e2:a.toNat/2147483648%2=1:=oM;rw[e1,e2];rfl
 ·have e1:a/2147483648=0:=oM;have e2:a.toNat/2147483648%2=0:=oM;rw[e1,e2];rfl
theorem BT(a:Int)(h0:0<=a)(h1:a<4294967296):BB a=nan a:=by
 unfold BB nan;by_cases c:a/8388608%256=255
 ·rw[if_pos c];by_cases d:a%8388608=0
  ·have:¬ (2139095040<a%2147483648):=oM;simp[d,this]
  ·have:2139095040<a%2147483648:=oM;simp[d,this]
 ·rw[if_neg c];have:¬ (2139095040<a%2147483648):=oM;simp[this]
theorem EZ(a:Int)(h0:0<=a)(h1:a<4294967296)(h:BB a=true):∃s t,Ieee.single.read a.toNat=.nan s t:=by
 rw[BT a h0 h1,IS a h0]at h;exact⟨_,_,C7 _ SH⟩
theorem Dc(a:Int)(h0:0<=a)(h1:a<4294967296)(h:Dl a=true):Ieee.single.read a.toNat=.infinity (AU a)/\BB a=false/\nM a=0:=by
 have c:a/8388608%256=255/\a%8388608=0:=by
  unfold Dl at h;split at h
  ·rename_i c;exact⟨c,by simpa using h⟩
  ·cases h
 refine⟨?_,?_,?_⟩
 ·rw[Lx a h0 h1];exact Cp _ (by have:=C8 a h0;omega)
 ·unfold BB;simp[c]
 ·unfold nM;rw[if_pos c.1]
theorem BD(a:Int)(h0:0<=a)(h1:a<4294967296)(hi:Dl a=false)(hn:BB a=false):
 Ieee.single.read a.toNat=.number (AU a) (nM a).toNat (nE a)/\0<=nM a/\nM a<16777216/\-149<=nE a/\nE a<=104/\(nE a= -149\/8388608<=nM a):=by
 have c:¬ (a/8388608%256=255):=by
  intro c;unfold Dl at hi;unfold BB at hn;rw[if_pos c]at hi hn;simp at hi hn;exact hi hn
 have hf:rg a.toNat<2139095040:=by have:=C8 a h0;omega
 have hr:=C8 a h0;rw[Be _ hf,Lx a h0 h1];unfold nM nE mg te;rw[if_neg c,if_neg c];by_cases d:a/8388608%256=0
 ·rw[if_pos d,if_pos d,if_pos oM,show rg a.toNat/8388608-1=0 by omega,show(a%8388608).toNat=rg a.toNat by omega];exact⟨rfl,oM,oM,oM,oM,oM⟩
 ·rw[if_neg d,if_neg d,if_neg oM,show(8388608+a%8388608).toNat=8388608+rg a.toNat%8388608 by omega,show -149+((rg a.toNat/8388608-1:Nat):Int)=a/8388608%256-150 by omega];exact⟨rfl,oM,oM,oM,oM,oM⟩
theorem Do(s1:Bool)(m1 e1:Int)(i1 n1 s2:Bool)(m2 e2:Int)(i2 n2:Bool)(w:World):
 Calls prog 151 #[.agg #[.bool s1,.int .u64 m1,.int .i64 e1,.bool i1,.bool n1],.agg #[.bool s2,.int .u64 m2,.int .i64 e2,.bool i2,.bool n2]] w fun e w'=>e=.returned (.bool (n1||n2))/\∃o p,w'=(w.alloc o).alloc p:=by
 cases n1<;>cases n2
 all_goals(
  go_enter func151,ntmps151;go_wp2;go_ret
  exact⟨rfl,_,_,rfl⟩)
theorem BU(s:Bool):((Ieee.single.write (.infinity s):Nat):Int)=GR s+2139095040:=by cases s<;>decide
theorem E9(a b:Int){d e:Ieee.Datum}(h:Ieee.single.read a.toNat=d)(k:Ieee.single.read b.toNat=e):E0 a b=PO ((d.product e).map Ieee.single.write):=by
 unfold E0 Ieee.Format.mul;rw[h,k]
theorem Dz(s t:Bool):(s^^t)=(s != t):=by cases s<;>cases t<;>rfl
theorem Mr(a b:Int)(h0:0<=a)(h1:a<4294967296)(g0:0<=b)(g1:b<4294967296)(h:BB a=true\/BB b=true):E0 a b=2143289344:=by
 rcases h with h|h
 ·obtain⟨s,t,e⟩:=EZ a h0 h1 h;rw[E9 a b e rfl];cases Ieee.single.read b.toNat<;>rfl
 ·obtain⟨s,t,e⟩:=EZ b g0 g1 h;rw[E9 a b rfl e];cases Ieee.single.read a.toNat<;>rfl
theorem J2(a:Int)(h0:0<=a)(h1:a<4294967296)(b:Int)(g0:0<=b)(g1:b<4294967296)(w:World):
 Calls prog 123 #[.int .i64 a,.int .i64 b] w fun e w'=>e=.returned (.int .i64 (E0 a b))/\Below w.heap.size w w':=by
 cases hna:BB a
 ·cases hnb:BB b
  ·cases hia:Dl a
   ·obtain⟨ra,a1,a2,a3,a4,-⟩:=BD a h0 h1 hia hna;cases hib:Dl b
    ·obtain⟨rb,b1,b2,b3,b4,-⟩:=BD b g0 g1 hib hnb;have hv:E0 a b=(Ieee.single.nearest (AU a != AU b) (nM a*nM b).toNat (nE a+nE b):Nat):=by
      rw[E9 a b ra rb,show(nM a*nM b).toNat=(nM a).toNat*(nM b).toNat from Int.toNat_mul a1 b1,←Dz];rfl
     have hm:0<=nM a*nM b/\nM a*nM b<281474976710656:=by
      refine⟨Int.mul_nonneg a1 b1,?_⟩;have h1:nM a*nM b<=16777215*16777215:=Int.mul_le_mul oM oM b1 oM;omega
     have hw:IntKind.u64.wrap (nM a*nM b)=nM a*nM b:=by rw[IntKind.wrap_u64];omega
     rw[hv];clear hv ra rb;exact Yi
    ·obtain⟨rb,-,b1⟩:=Dc b g0 g1 hib;by_cases hz:nM a=0
     ·have hv:E0 a b=2143289344:=by rw[E9 a b ra rb,hz];rfl
      rw[hv];clear hv ra rb;exact Yi
     ·have hv:E0 a b=GR (AU a != AU b)+2139095040:=by
       rw[E9 a b ra rb,←BU,←Dz,Bool.xor_comm];have:(nM a).toNat≠0:=oM;simp only[Ieee.Datum.product,if_neg this];rfl
      rw[hv];clear hv ra rb;exact Yi
   ·obtain⟨ra,-,a1⟩:=Dc a h0 h1 hia;cases hib:Dl b
    ·obtain⟨rb,b1,b2,b3,b4,-⟩:=BD b g0 g1 hib hnb;by_cases hz:nM b=0
     ·have hv:E0 a b=2143289344:=by rw[E9 a b ra rb,hz];rfl
      rw[hv];clear hv ra rb;exact Yi
     ·have hv:E0 a b=GR (AU a != AU b)+2139095040:=by
       rw[E9 a b ra rb,←BU,←Dz];have:(nM b).toNat≠0:=oM;simp only[Ieee.Datum.product,if_neg this];rfl
      rw[hv];clear hv ra rb;exact Yi
    ·obtain⟨rb,-,b1⟩:=Dc b g0 g1 hib;have hv:E0 a b=GR (AU a != AU b)+2139095040:=by
      rw[E9 a b ra rb,←BU,←Dz];rfl
     rw[hv];clear hv ra rb;exact Yi
  ·have hv:=Mr a b h0 h1 g0 g1 (Or.inr hnb);rw[hv];clear hv;exact Yi
 ·have hv:=Mr a b h0 h1 g0 g1 (Or.inl hna);rw[hv];clear hv;exact Yi
theorem RU(n:Int)(h0: -9223372036854775808<=n)(h1:n<=9223372036854775807)(w:World):
 Calls prog 80 #[.int .i64 n] w fun e w'=>e=.returned (.int .i64 (Ez n))/\w'=w:=by
 unfold Ez;by_cases c:n<0
 ·rw[decide_eq_true c,show n.natAbs=(-(n+1)+1).toNat by omega];exact Zek
 ·rw[decide_eq_false c,show n.natAbs=n.toNat by omega];exact Zek
theorem FG(w:World)(v0 v1 v2 v3 v4:Value):(Instr.field 200 (.agg #[v0,v1,v2,v3,v4]) 4).run prog w=.ok v4 w:=by
 simp[Instr.field,run_underlying underlying200,asAgg,part,go_sem]
theorem Mv(a b:Nat)(ha:a<9223372036854775808)(hb:b<9223372036854775808):bits .xor .i64 (a:Int) (b:Int)=((a^^^b:Nat):Int):=by
 have hx:a^^^b<2^63:=Nat.xor_lt_two_pow oM oM;show IntKind.i64.wrap ((BitVec.ofInt 64 (a:Int)^^^BitVec.ofInt 64 (b:Int)).toNat:Int)=_;rw[BitVec.toNat_xor,ofInt_u64 a oM,ofInt_u64 b oM,IntKind.wrap_i64];omega
theorem IJ(a b:Nat)(ha:a<9223372036854775808)(hb:b<9223372036854775808):bits .andNot .i64 (a:Int) (b:Int)=((a&&& (18446744073709551615-b):Nat):Int):=by
 have hx:a&&& (18446744073709551615-b)<=a:=Nat.and_le_left;show IntKind.i64.wrap ((BitVec.ofInt 64 (a:Int)&&& ~~~BitVec.ofInt 64 (b:Int)).toNat:Int)=_;rw[BitVec.toNat_and,BitVec.toNat_not,ofInt_u64 a oM,ofInt_u64 b oM,IntKind.wrap_i64];have e:2^64-1-b=18446744073709551615-b:=oM;rw[e];omega
theorem Pj(a:Int)(h0:0<=a)(h1:a<4294967296):bits .xor .i64 a 2147483648=if 2147483648<=a then a-2147483648 else a+2147483648:=by
 rw[←Nt a h0 h1,u32_xor a _ h0 h1 dE dE];obtain⟨A,rfl⟩:=Int.eq_ofNat_of_zero_le h0;exact Mv A 2147483648 oM dE
theorem En(a:Int)(h0:0<=a)(h1:a<4294967296):bits .andNot .i64 a 2147483648=a%2147483648:=by
 rw[←Ka a h0 h1,u32_andNot a _ h0 h1 dE dE];obtain⟨A,rfl⟩:=Int.eq_ofNat_of_zero_le h0;rw[show(2147483648:Int)=((2147483648:Nat):Int)from rfl,IJ A 2147483648 oM dE,Int.toNat_natCast,Int.toNat_natCast];congr 1;apply Nat.eq_of_testBit_eq;intro i;rw[Nat.testBit_and,Nat.testBit_and];rcases Nat.lt_or_ge i 32 with c|c
 ·have:∀j:Fin 32,(18446744073709551615-2147483648:Nat).testBit j.val=(4294967295-2147483648:Nat).testBit j.val:=dE;rw[this ⟨i,c⟩]
 ·have:A.testBit i=false:=Nat.testBit_lt_two_pow (Nat.lt_of_lt_of_le (show A<2^32 by omega) (Nat.pow_le_pow_right dE c));rw[this,Bool.false_and,Bool.false_and]
theorem MT(a:Int)(h0:0<=a)(h1:a<4294967296)(w:World):
 Calls prog 179 #[.int .i64 a] w fun e w'=>e=.returned (.int .i64 (Gq a))/\Below w.heap.size w w':=by
 have hf:=FG;cases hna:BB a
 ·have hv:Gq a=if 2147483648<=a then a-2147483648 else a+2147483648:=by
   rw[Mt a h0 h1 (by rw[←BT a h0 h1];exact hna)];unfold Lj;by_cases c:2147483648<=a
   ·rw[if_pos c,if_pos oM];omega
   ·rw[if_neg c,if_neg oM];omega
  have hx:=Pj a h0 h1;rw[hv];clear hv;generalize (if 2147483648<=a then a-2147483648 else a+2147483648)=z at *;go_enter func179,ntmps179;exact SE
 ·have hv:=Ms a h0 h1 (by rw[←BT a h0 h1];exact hna);rw[hv];clear hv;go_enter func179,ntmps179;exact SE
theorem Uc(a:Int)(h0:0<=a)(h1:a<4294967296)(w:World):
 Calls prog 180 #[.int .i64 a] w fun e w'=>e=.returned (.int .i64 (O3 a))/\Below w.heap.size w w':=by
 have hm:nan (a%2147483648)=nan a:=by unfold nan;rw[Int.emod_emod_of_dvd _ (Int.dvd_refl _)]
 unfold O3 canon;rw[hm,←BT a h0 h1];have hx:=En a h0 h1;have hf:=FG;cases hna:BB a
 ·rw[if_neg dE];go_enter func180,ntmps180;exact SE
 ·rw[if_pos rfl];go_enter func180,ntmps180;exact SE
def SQ(w:World)(b:Nat):Nat:=match w.cell? ⟨b,1,none⟩with
 |some (.int _ x)=>x.toNat
 |_=>0
theorem Hr(w:World)(v0 v2 v3 v4:Value)(X:Int)(t:TypeId)(p:Obj):SQ ((w.alloc (.cells #[v0,.int .u64 X,v2,v3,v4] t)).alloc p) w.heap.size=X.toNat:=by
 have:((w.alloc (.cells #[v0,.int .u64 X,v2,v3,v4] t)).alloc p).cell? ⟨w.heap.size,1,none⟩=some (.int .u64 X):=by
  simp
 unfold SQ;rw[this]
theorem Y2(s:Bool)(m e:Int)(i n:Bool)(h0:0<m)(h1:m<16777216)(e0: -149<=e)(e1:e<=104)(w:World):
 Calls prog 193 #[.agg #[.bool s,.int .u64 m,.int .i64 e,.bool i,.bool n]] w fun x w'=>(∃k:Nat,k<=23/\x=.returned (.agg #[.bool s,.int .u64 (m*2^k),.int .i64 (e-k),.bool i,.bool n])/\8388608<=m*2^k/\m*2^k<16777216)/\∃o p,w'=(w.alloc o).alloc p:=by
 go_enter func193,ntmps193;go_wp2
 go_loopw [4] (fun _ wr=>∃ (k:Nat),k<=23/\m*2^k<16777216/\wr=(w.alloc (.cells #[.bool s,.int .u64 (m*2^k),.int .i64 (e-k),.bool i,.bool n] 200)).alloc (.cells #[.bool false,.int .u64 0,.int .i64 0,.bool false,.bool false] 200)) (fun _ wr=>16777216-SQ wr w.heap.size)
 case atStart=>exact⟨0,oM,by simpa using h1,sM⟩
 case round=>
  obtain⟨k,hk,hm,rfl⟩:=hrel;have hP:(1:Int)<=2^k:=Int.pow_pos dE;have hX:0<m*2^k:=Int.mul_pos h0 oM;by_cases c:m*2^k<8388608
  ·have hs:m*2^(k+1)=m*2^k*2:=by rw[Int.pow_succ,←Int.mul_assoc]
   have HS:Hid (m*2^(k+1)=m*2^k*2):=hs;have hk23:k<=22:=by
    rcases Nat.lt_or_ge 22 k with d|d
    ·exfalso;have h2:8388608<=2^k:=Nat.le_trans (show 8388608<=2^23 by decide) (Nat.pow_le_pow_right dE oM);have h3:((8388608:Nat):Int)<=((2^k:Nat):Int):=Int.ofNat_le.2 h2;rw[Int.natCast_pow]at h3;have h4:(1:Int)*2^k<=m*2^k:=Int.mul_le_mul_of_nonneg_right oM oM;have h5:((8388608:Nat):Int)=8388608:=rfl;have h6:(((2:Nat):Int))^k=(2:Int)^k:=rfl;omega
    ·exact d
   clear hs;generalize m*2^k=X at *;go_wp2;go_roundw
   case rel=>
    refine⟨k+1,oM,?_,?_⟩
    ·rw[HS.out];omega
    ·rw[HS.out,show e-(k:Int)-1=e-((k+1:Nat):Int) by omega]
   case measure=>rw[Hr,Hr];omega
  ·generalize hXX:m*2^k=X at *;have HX:Hid (m*2^k=X):=hXX;clear hXX;go_wp2;go_returns;exact⟨⟨k,hk,by rw[HX.out],by rw[HX.out];omega,by rw[HX.out];omega⟩,_,_,rfl⟩
def nk(m:Int):Nat:=23-m.toNat.log2
theorem DR(k:Nat):((2^k:Nat):Int)=(2:Int)^k:=Int.natCast_pow 2 k
theorem Xn(m:Int)(k:Nat)(h0:0<m)(hk:k<=23)(h:8388608<=m*2^k)(h':m*2^k<16777216):k=nk m:=by
 obtain⟨n,rfl⟩:=Int.eq_ofNat_of_zero_le (Int.le_of_lt h0);rw[←DR,←Int.natCast_mul]at h h';have hn:n≠0:=oM;have e:(n*2^k).log2=n.log2+k:=by
  refine(Nat.log2_eq_iff oM).2 ⟨?_,?_⟩
  ·rw[Nat.pow_add];exact Nat.mul_le_mul_right _ (Nat.log2_self_le hn)
  ·rw[show n.log2+k+1=n.log2+1+k by omega,Nat.pow_add];exact Nat.mul_lt_mul_of_pos_right Nat.lt_log2_self (Nat.two_pow_pos k)
 have e2:(n*2^k).log2=23:=(Nat.log2_eq_iff oM).2 ⟨oM,oM⟩;unfold nk;rw[Int.toNat_natCast];omega
theorem P5(s:Bool)(m e:Int)(i n:Bool)(h0:0<m)(h1:m<16777216)(e0: -149<=e)(e1:e<=104)(w:World):
 Calls prog 193 #[.agg #[.bool s,.int .u64 m,.int .i64 e,.bool i,.bool n]] w fun x w'=>x=.returned (.agg #[.bool s,.int .u64 (m*2^nk m),.int .i64 (e-nk m),.bool i,.bool n])/\∃o p,w'=(w.alloc o).alloc p:=by
 refine(Y2 s m e i n h0 h1 e0 e1 w).mono ?_;rintro x w' ⟨⟨k,hk,rfl,ha,hb⟩,ho⟩;have:=Xn m k h0 hk ha hb;subst this;exact⟨rfl,ho⟩
theorem EH(m:Int)(h0:0<m)(h1:m<16777216):nk m<=23/\8388608<=m*2^nk m/\m*2^nk m<16777216:=by
 obtain⟨n,rfl⟩:=Int.eq_ofNat_of_zero_le (Int.le_of_lt h0);have hn:n≠0:=oM;have hl:n.log2<24:=(Nat.log2_lt hn).2 oM;have lo:=Nat.log2_self_le hn;have hi:n<2^(n.log2+1):=Nat.lt_log2_self;unfold nk;rw[Int.toNat_natCast,←DR,←Int.natCast_mul];refine⟨oM,?_,?_⟩
 ·have:2^n.log2*2^(23-n.log2)<=n*2^(23-n.log2):=Nat.mul_le_mul_right _ lo;rw[←Nat.pow_add,show n.log2+(23-n.log2)=23 by omega]at this;omega
 ·have:n*2^(23-n.log2)<2^(n.log2+1)*2^(23-n.log2):=Nat.mul_lt_mul_of_pos_right hi (Nat.two_pow_pos _);rw[←Nat.pow_add,show n.log2+1+(23-n.log2)=24 by omega]at this;omega
theorem LN(a:Int)(h0:0<=a)(h1:a<4294967296)(hi:Dl a=false)(hn:BB a=false):rg a.toNat<2139095040/\ng a.toNat=AU a/\(mg a.toNat:Int)=nM a/\(te a.toNat:Int)=nE a+149:=by
 have h:=BD a h0 h1 hi hn;have hf:rg a.toNat<2139095040:=by
  rcases Nat.lt_trichotomy (rg a.toNat) 2139095040 with c|c|c
  ·exact c
  ·rw[Cp _ c]at h;cases h.1
  ·rw[C7 _ c]at h;cases h.1
 rw[Be _ hf]at h;have e:=h.1;injection e with e1 e2 e3;exact⟨hf,e1,oM,oM⟩
theorem E5(a b:Int){d e:Ieee.Datum}(h:Ieee.single.read a.toNat=d)(k:Ieee.single.read b.toNat=e):EQ a b=PO ((d.quotient 25 e).map Ieee.single.write):=by
 unfold EQ Ieee.Format.div;rw[h,k];rfl
theorem SU(p q:Nat):(2*((p:Int)*274877906944/(q:Int))+(if(p:Int)*274877906944%(q:Int)=0 then 0 else 1)).toNat=2*((p<<<38)/q)+((p<<<38)%q != 0).toNat:=by
 have e:(p:Int)*(274877906944:Int)=((p<<<38:Nat):Int):=by
  rw[Nat.shiftLeft_eq,Int.natCast_mul,DR];rfl
 rw[e,←Int.natCast_ediv,←Int.natCast_emod];generalize (p<<<38)/q=x;generalize (p<<<38)%q=y;have hb:(y != 0).toNat=if y=0 then 0 else 1:=by by_cases c:y=0<;>simp[c]
 rw[hb];by_cases c:y=0
 ·rw[if_pos c,if_pos oM];omega
 ·rw[if_neg c,if_neg oM];omega
theorem RE(M N j k r:Nat)(E F:Int)(ta tb:Nat)(hE:(ta:Int)=E+149)(hF:(tb:Int)=F+149)(hj:j<=23)(hk:k<=23)(hM:8388608<=M*2^j)(hN:8388608<=N*2^k)(hN2:N*2^k<16777216)(hNpos:0<N)
 (hnear:Fj 23 (M*2^ta*2^149) (N*2^tb) r):
 r=BR 23 (-149) (2*(((M*2^j)<<<38)/(N*2^k))+(((M*2^j)<<<38)%(N*2^k) != 0).toNat) (E-j-(F-k)-39):=by
 have hq:0<N*2^k:=oM;have big:25<=(2*(((M*2^j)<<<38)/(N*2^k))+(((M*2^j)<<<38)%(N*2^k) != 0).toNat).log2:=by
  refine Jh hq (j:=24) ?_;exact Nat.le_trans (Nat.mul_le_mul_right _ (show N*2^k<=16777216 by omega)) (Nat.le_trans dE (Nat.mul_le_mul_right _ hM))
 obtain⟨s,hs⟩:∃s:Nat,(s:Int)=F-k+172:=⟨(F-k+172).toNat,oM⟩
 obtain⟨x,hx⟩:∃x:Nat,(x:Int)=E-j+321:=⟨(E-j+321).toNat,oM⟩
 have h2:=Ke (M*2^j) (N*2^k) 38 hq (E-j-(F-k)-39) big x s oM oM;refine hnear.unique h2 (Nat.mul_pos hNpos (Nat.two_pow_pos _)) (Nat.mul_pos hq (Nat.two_pow_pos s)) ?_;obtain⟨z,hz⟩:∃z:Nat,z=149:=⟨_,rfl⟩
 rw[←hz];have e1:M*2^ta*2^z*(N*2^k*2^s)=M*N*2^(ta+z+k+s):=by
  rw[Nat.pow_add,Nat.pow_add,Nat.pow_add];grind
 have e2:M*2^j*2^x*(N*2^tb)=M*N*2^(j+x+tb):=by
  rw[Nat.pow_add,Nat.pow_add];grind
 rw[e1,e2,show ta+z+k+s=j+x+tb by omega]
theorem Td(a b:Int)(h0:0<=a)(h1:a<4294967296)(g0:0<=b)(g1:b<4294967296)(hia:Dl a=false)(hna:BB a=false)(hib:Dl b=false)(hnb:BB b=false)(za:nM a≠0)(zb:nM b≠0)
 (A B:Int) (hA:nM a*2^nk (nM a)=A) (hB:nM b*2^nk (nM b)=B):
 EQ a b=(Ieee.single.nearest (AU a != AU b) (2*(A*274877906944/B)+(if A*274877906944%B=0 then 0 else 1)).toNat (nE a-nk (nM a)-(nE b-nk (nM b))-39):Nat):=by
 obtain⟨fa,sa,ma,ta⟩:=LN a h0 h1 hia hna;obtain⟨fb,sb,mb,tb⟩:=LN b g0 g1 hib hnb;obtain⟨-,a1,a2,a3,a4,-⟩:=BD a h0 h1 hia hna;obtain⟨-,b1,b2,b3,b4,-⟩:=BD b g0 g1 hib hnb;obtain⟨ka,A1,A2⟩:=EH (nM a) oM a2;obtain⟨kb,B1,B2⟩:=EH (nM b) oM b2;obtain⟨r,hr,hnear⟩:=Ww a.toNat b.toNat fa fb oM oM;have cA:A=((mg a.toNat*2^nk (nM a):Nat):Int):=by rw[Int.natCast_mul,DR,ma,hA]
 have cB:B=((mg b.toNat*2^nk (nM b):Nat):Int):=by rw[Int.natCast_mul,DR,mb,hB]
 rw[Gx,Gx]at hnear;have C9:=RE (mg a.toNat) (mg b.toNat) (nk (nM a)) (nk (nM b)) r (nE a) (nE b) (te a.toNat) (te b.toNat) ta tb ka kb oM oM oM oM hnear;unfold EQ;rw[hr,sa,sb,Dz];show((wd (AU a != AU b) r:Nat):Int)=_;rw[AY,CE,By,GX,cA,cB,SU,←C9]
theorem K7(a:Int)(h0:0<=a)(h1:a<4294967296):(ng a.toNat=true/\C9 a= -1-(rg a.toNat:Int)/\sv a.toNat= -(mv a.toNat:Int))\/(ng a.toNat=false/\C9 a=(rg a.toNat:Int)/\sv a.toNat=(mv a.toNat:Int)):=by
 have hr:=C8 a h0;rw[OB a h0 h1];by_cases c:2147483648<=a
 ·left;refine⟨by simpa using c,?_,?_⟩
  ·unfold C9;rw[if_pos c];omega
  ·unfold sv sg;rw[OB a h0 h1,if_pos (by simpa using c)]
 ·right;refine⟨by simpa using c,?_,?_⟩
  ·unfold C9;rw[if_neg c];omega
  ·unfold sv sg;rw[OB a h0 h1,if_neg (by simpa using c)]
theorem Il(x:Nat):mv x=0↔rg x=0:=by
 unfold mv;constructor
 ·intro h;rw[←Fl 23]at h;exact SD 23 h
 ·intro h;rw[h,Fl]
theorem Oo(a b:Int)(h0:0<=a)(h1:a<4294967296)(g0:0<=b)(g1:b<4294967296):C9 a<C9 b↔(sv a.toNat<sv b.toNat\/(rg a.toNat=0/\rg b.toNat=0/\ng a.toNat=true/\ng b.toNat=false)):=by
 have ha:=K7 a h0 h1;have hb:=K7 b g0 g1;have m1:mv a.toNat<mv b.toNat↔rg a.toNat<rg b.toNat:=M6 23 _ _;have m2:mv b.toNat<mv a.toNat↔rg b.toNat<rg a.toNat:=M6 23 _ _;have z1:=Il a.toNat;have z2:=Il b.toNat;rcases ha with⟨p,q,r⟩|⟨p,q,r⟩<;>rcases hb with⟨p',q',r'⟩|⟨p',q',r'⟩<;>rw[p,q,r,p',q',r']<;>simp only[Bool.false_eq_true,Bool.true_eq_false,and_false,or_false,and_true]<;>omega
theorem Im(a b:Int)(h0:0<=a)(h1:a<4294967296)(g0:0<=b)(g1:b<4294967296):sv a.toNat=sv b.toNat↔(a=b\/(a%2147483648=0/\b%2147483648=0)):=by
 have hr:=C8 a h0;have hs:=C8 b g0;constructor
 ·intro h;obtain⟨e,f⟩:=Zq h;rcases f with f|f
  ·exact Or.inl (XG h0 h1 g0 g1 e f)
  ·right;omega
 ·rintro(h|⟨h,k⟩)
  ·rw[h]
  ·have z1:=(Il a.toNat).2 oM;have z2:=(Il b.toNat).2 oM;unfold sv sg;rw[z1,z2];simp
theorem Tn(a b:Int)(h0:0<=a)(h1:a<4294967296)(g0:0<=b)(g1:b<4294967296)(hn:nan a=false)(hm:nan b=false):FY a b=if C9 b<C9 a then b else a:=by
 unfold FY;rw[IW a b h0 g0,if_neg (by simp[hn,hm])];have hk:=Oo b a g0 g1 h0 h1;rcases Int.lt_trichotomy (sv a.toNat) (sv b.toNat)with c|c|c
 ·have hne:¬ (C9 b<C9 a):=by
   exact Zem
  rw[NS c];simp only [];rw[if_neg hne]
 ·rw[NQ c];simp only [];rcases(Im a b h0 h1 g0 g1).1 c with e|⟨e,f⟩
  ·subst e;split<;>simp
  ·unfold C9;by_cases d1:2147483648<=a<;>by_cases d2:2147483648<=b<;>simp only[d1,d2,if_true,if_false]
   ·rw[if_neg oM]
   ·rw[if_neg oM]
   ·rw[if_pos oM]
   ·rw[if_neg oM];omega
 ·rw[NR c];simp only [];rw[if_pos (hk.2 (Or.inl c))]
theorem Tl(a b:Int)(h0:0<=a)(h1:a<4294967296)(g0:0<=b)(g1:b<4294967296)(hn:nan a=false)(hm:nan b=false):Gp a b=if C9 b>C9 a then b else a:=by
 unfold Gp;rw[IW a b h0 g0,if_neg (by simp[hn,hm])];have hk:=Oo a b h0 h1 g0 g1;rcases Int.lt_trichotomy (sv a.toNat) (sv b.toNat)with c|c|c
 ·rw[NS c];simp only [];rw[if_pos (show C9 b>C9 a from hk.2 (Or.inl c))]
 ·rw[NQ c];simp only [];rcases(Im a b h0 h1 g0 g1).1 c with e|⟨e,f⟩
  ·subst e;split<;>simp
  ·unfold C9;by_cases d1:2147483648<=a<;>by_cases d2:2147483648<=b<;>simp only[d1,d2,if_true,if_false]
   ·rw[if_neg oM];omega
   ·rw[if_pos oM]
   ·rw[if_neg oM]
   ·rw[if_neg oM]
 ·have hne:¬ (C9 b>C9 a):=by
   show¬ (C9 a<C9 b);exact Zem
  rw[NR c];simp only [];rw[if_neg hne]
theorem R1(a b:Int)(h0:0<=a)(h1:a<4294967296)(g0:0<=b)(g1:b<4294967296)(hn:nan a=false)(hm:nan b=false):G3 a b=(decide (C9 a<C9 b)&& !((a%2147483648==0)&&(b%2147483648==0))):=by
 have h:=R0 a b h0 g0;have hk:=Oo a b h0 h1 g0 g1;have hr:=C8 a h0;have hs:=C8 b g0;have hz:=Im a b h0 h1 g0 g1;simp only[hn,hm,true_and]at h;rw[Bool.eq_iff_iff,h];simp only[Bool.and_eq_true,decide_eq_true_eq,Bool.not_eq_true',Bool.and_eq_false_iff,beq_eq_false_iff_ne];constructor
 ·intro c;refine⟨hk.2 (Or.inl c),?_⟩;by_cases e:a%2147483648=0
  ·right;intro f;have:=hz.2 (Or.inr ⟨e,f⟩);omega
  ·exact Or.inl e
 ·rintro⟨c,d⟩;rcases hk.1 c with e|⟨e1,e2,-,-⟩
  ·exact e
  ·exfalso;rcases d with d|d<;>omega
theorem DD(a b:Int)(h0:0<=a)(g0:0<=b)(h:nan a=true\/nan b=true):G3 a b=false/\feq a b=false/\FY a b=2143289344/\Gp a b=2143289344:=by
 unfold G3 feq FY Gp;rw[IW a b h0 g0,if_pos h];exact⟨rfl,rfl,rfl,rfl⟩
theorem Hg(a:Int)(h0:0<=a)(h1:a<4294967296)(w:World):
 Calls prog 157 #[.int .i64 a] w fun e w'=>e=.returned (.int .i64 (C9 a))/\w'=w:=by
 have hx:=En a h0 h1;unfold C9;by_cases c:2147483648<=a
 ·have h2:a/2147483648=1:=oM;rw[if_pos c];go_enter func157,ntmps157;go_wp2;go_ret;exact⟨GK oM,rfl⟩
 ·have h2:a/2147483648=0:=oM;rw[if_neg c];go_enter func157,ntmps157;go_wp2;go_ret;exact⟨GK oM,rfl⟩
theorem Fy(a:Int)(h0:0<=a)(h1:a<4294967296)(w:World):
 Calls prog 194 #[.int .i64 a] w fun e w'=>e=.returned (.bool (a%2147483648==0))/\w'=w:=by
 have hx:=En a h0 h1;go_enter func194,ntmps194;go_wp2;go_ret;exact⟨rfl,rfl⟩
theorem Fx(a:Int)(h0:0<=a)(h1:a<4294967296)(w:World):
 Calls prog 103 #[.int .i64 a] w fun e w'=>e=.returned (.int .i64 (canon a))/\Below w.heap.size w w':=by
 have hf:=FG;unfold canon;rw[←BT a h0 h1];cases hna:BB a
 ·rw[if_neg dE];go_enter func103,ntmps103;exact SE
 ·rw[if_pos rfl];go_enter func103,ntmps103;exact SE
theorem MS(a:Int)(h0:0<=a)(h1:a<4294967296)(b:Int)(g0:0<=b)(g1:b<4294967296)(w:World):
 Calls prog 126 #[.int .i64 a,.int .i64 b] w fun e w'=>e=.returned (.int .i64 (FY a b))/\Below w.heap.size w w':=by
 have ea:=BT a h0 h1;have eb:=BT b g0 g1;cases hna:BB a
 ·cases hnb:BB b
  ·rw[Tn a b h0 h1 g0 g1 ZJ ZI];clear ea eb;by_cases c:C9 b<C9 a
   ·rw[if_pos c];go_enter func126,ntmps126;exact Yj
   ·rw[if_neg c];go_enter func126,ntmps126;exact Yj
  ·rw[(DD a b h0 g0 (Or.inr ZI)).2.2.1];clear ea eb;go_enter func126,ntmps126;exact Yj
 ·rw[(DD a b h0 g0 (Or.inl ZJ)).2.2.1];clear ea eb;go_enter func126,ntmps126;exact Yj
theorem Uk(a:Int)(h0:0<=a)(h1:a<4294967296)(b:Int)(g0:0<=b)(g1:b<4294967296)(w:World):
 Calls prog 185 #[.int .i64 a,.int .i64 b] w fun e w'=>e=.returned (.int .i64 (Gp a b))/\Below w.heap.size w w':=by
 have ea:=BT a h0 h1;have eb:=BT b g0 g1;cases hna:BB a
 ·cases hnb:BB b
  ·rw[Tl a b h0 h1 g0 g1 ZJ ZI];clear ea eb;by_cases c:C9 b>C9 a
   ·rw[if_pos c];go_enter func185,ntmps185;exact Yj
   ·rw[if_neg c];go_enter func185,ntmps185;exact Yj
  ·rw[(DD a b h0 g0 (Or.inr ZI)).2.2.2];clear ea eb;go_enter func185,ntmps185;exact Yj
 ·rw[(DD a b h0 g0 (Or.inl ZJ)).2.2.2];clear ea eb;go_enter func185,ntmps185;exact Yj
theorem RV(a:Int)(h0:0<=a)(h1:a<4294967296)(b:Int)(g0:0<=b)(g1:b<4294967296)(w:World):
 Calls prog 186 #[.int .i64 a,.int .i64 b] w fun e w'=>e=.returned (.bool (G3 a b))/\Below w.heap.size w w':=by
 have ea:=BT a h0 h1;have eb:=BT b g0 g1;cases hna:BB a
 ·cases hnb:BB b
  ·rw[R1 a b h0 h1 g0 g1 ZJ ZI];clear ea eb;cases za:(a%2147483648==0)<;>cases zb:(b%2147483648==0)<;>simp only[Bool.and_true,Bool.and_false,Bool.not_true,Bool.not_false]
   all_goals(
    go_enter func186,ntmps186;go_wp2_with(first
     |(go_at_call 135;refine(CI _ oM oM _).mono ?_;rintro e w' ⟨rfl,o,rfl⟩)
     |(go_at_call 151;refine(Do _ _ _ _ _ _ _ _ _ _ _).mono ?_;rintro e w' ⟨rfl,o,p,rfl⟩)
     |(go_at_call 157;refine(Hg _ oM oM _).mono ?_;rintro e w' ⟨rfl,rfl⟩)
     |(go_at_call 194;refine(Fy _ oM oM _).mono ?_;rintro e w' ⟨rfl,rfl⟩))
    go_ret
    exact⟨rfl,gG⟩)
  ·rw[(DD a b h0 g0 (Or.inr ZI)).1];exact Zch
 ·rw[(DD a b h0 g0 (Or.inl ZJ)).1];exact Zch
theorem MZ(c:Int)(e0:0<=c)(e1:c<4294967296)(a:Int)(h0:0<=a)(h1:a<4294967296)(b:Int)(g0:0<=b)(g1:b<4294967296)(w:World):
 Calls prog 187 #[.int .i64 c,.int .i64 a,.int .i64 b] w fun e w'=>e=.returned (.int .i64 (G8 c a b))/\Below w.heap.size w w':=by
 have hf:=FG;unfold G8;rw[←BT c e0 e1];cases hn:BB c<;>cases hz:(c%2147483648==0)<;>simp only[Bool.or_true,Bool.or_false,if_true,if_false,Bool.false_eq_true]
 all_goals(
  go_enter func187,ntmps187;go_wp2_with(first
   |(go_at_call 135;refine(CI _ oM oM _).mono ?_;rintro e w' ⟨rfl,o,rfl⟩)
   |(go_at_call 194;refine(Fy _ oM oM _).mono ?_;rintro e w' ⟨rfl,rfl⟩)
   |(go_at_call 103;refine(Fx _ oM oM _).mono ?_;rintro e w1 ⟨rfl,hb1⟩))
  go_ret
  exact⟨rfl,Dh gG hb1⟩)
end Go.Proofs.YtbinohkcolcbfaaGreat
