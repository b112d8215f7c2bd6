import Derived.Test.YtbinohkcolcbfaaGreatPart1
import Derived.Test.YtbinohkcolcbfaaGreatPart2
import Derived.Test.YtbinohkcolcbfaaGreatPart5
import Derived.Test.YtbinohkcolcbfaaGreatPart4
namespace Go.Proofs.YtbinohkcolcbfaaGreat
open Go.RowKit Go.Proofs.Tryz
set_option linter.unusedVariables false
set_option linter.unusedSimpArgs false
set_option maxRecDepth 100000
set_option maxHeartbeats 16000000
theorem Zxh(C:Nat)(v0 v1 v2 v3:Value)(c:Cd)(hk:CdOk c)(w:World)(hc:CdAt w C v0 v1 v2 v3 c):
 Calls prog 51 #[.pointer (some ⟨C,0,none⟩)] w fun e w'=>e=.returned (.bool (Zif c))/\Below w.heap.size w w':=by
 obtain⟨hcc,hcv⟩:=hc;have c0:=hcc.at 0 rfl;have c1:=hcc.at 1 rfl;rw[Nat.zero_add]at c0 c1;have hC:=Zhr c0;simp only at hC;have hr:=hcv.regs;obtain⟨p,q,rfl,hrr⟩:=hcv.regs;obtain⟨p0,q0,rfl,hrr0⟩:=hcv.sign;have HB:=hk.regsL;have HB0:=hk.signL;unfold Zif;obtain⟨M,hM⟩:∃M,c.sign.length=M:=⟨_,rfl⟩
 rw[hM]at c0 HB0 ⊢;obtain⟨l,hl⟩:∃l,c.regs=l:=⟨_,rfl⟩
 rw[hl]at c1 hr HB ⊢;obtain⟨N,hN⟩:∃N,l.length=N:=⟨_,rfl⟩
 have HN:Hid (l.length=N):=hN;rw[hN]at c1 hr HB;have HR:Hid (RowG 2 tyC w (.slice p N q) l):=hr;clear hl hM hN hr hrr hrr0 hcc hcv hk;go_enter func51,ntmps51;go_wp2
 go_loopw [10] (fun iv wr=>Below w.heap.size w wr/\∃j:Nat,j<=N/\iv=.int .i64 j/\Hid (∀i (h:i<l.length),i<j->Zil l[i] M=true)) (fun iv _=>N-(intOf iv).toNat)
 case atStart=>exact⟨bel0 w,0,Nat.zero_le _,rfl,fun i h hi=>absurd hi (Nat.not_lt_zero _)⟩
 case round=>
  obtain⟨hb,j,hj,rfl,hp⟩:=hrel;by_cases hlt:j<N
  ·have hll:j<l.length:=by rw[HN.out];exact hlt
   obtain⟨b,o,rfl,hx⟩:=HR.out.at hll;have hx':=hx.below hb;have x0:=hx'.at 0 rfl;have x1:=hx'.at 1 rfl;rw[Nat.add_zero]at x0;have z0:=kc hb c0;have hC2:=Zhr z0;have hb2:=Zhr x0;simp only at hC2 hb2;have n1:C≠wr.heap.size:=oM;have n2:b≠wr.heap.size:=oM;have i1:(0:Int)<=(j:Int):=oM;have i2:(j:Int)<(N:Int):=oM;have KN:=Ztb l[j] p0 M q0 HB0;have NX:Hid (Zil l[j] M=true->∀i (h:i<l.length),i<j+1->Zil l[i] M=true):=fun hq i h hi=>by
    exact Zct
   have NB:Hid (Zil l[j] M=false->(l.all fun t=>Zil t M)=false):=fun h=>List.all_eq_false.2 ⟨l[j],List.getElem_mem hll,by rw[h];decide⟩;obtain⟨T,hT⟩:∃T,l[j]=T:=⟨_,rfl⟩
   rw[hT]at x0 x1 KN NX NB;obtain⟨X,hX⟩:∃X,Zil T M=X:=⟨_,rfl⟩
   rw[hX]at NX NB;simp only[hX]at KN;obtain⟨K,P⟩:=T;unfold tyV at KN;simp only at x0 x1 KN;have HK:Hid (∀w,Calls prog 90 #[.agg #[.int .i64 K,.int .i64 P],.slice p0 M q0] w fun e w'=>e=.returned (.bool X)/\Below w.heap.size w w'):=KN;have HC:Hid (∀v,Below (wr.alloc (.cells #[.int .i64 K,.int .i64 P] 69)).heap.size (wr.alloc (.cells #[.int .i64 K,.int .i64 P] 69)) v->v.cell? ⟨C,0,none⟩=some (.slice p0 M q0)/\v.cell? ⟨wr.heap.size,0,none⟩=some (.int .i64 K)/\v.cell? ⟨wr.heap.size,1,none⟩=some (.int .i64 P)):=
    fun v hv=>⟨kc hv (kc (Zhq _ _) z0),kc hv sG,kc hv sG⟩
   have f1:=(HC.out _ (bel0 _)).1;clear KN hT hX hp hx hx';cases X
   ·go_wp2;refine rG (fun v=>v.cell? ⟨C,0,none⟩=some (.slice p0 M q0)/\v.cell? ⟨wr.heap.size,0,none⟩=some (.int .i64 K)/\v.cell? ⟨wr.heap.size,1,none⟩=some (.int .i64 P)) fun hHeld=>?_;refine Tc 0 1 2 ?_;refine Tb 3 4 ?_;clear hHeld;refine ry1 5 fun K hK=>?_;go_simp;(go_at_call 90;refine(HK.out _).mono ?_;rintro e w1 ⟨rfl,hb1⟩;have HB1:=bel (Zhs _) hb1;obtain⟨y0,y1,y2⟩:=HC.out w1 HB1);try(go_wp2_with fail)
    refine okK hK fun hHeld=>?_;clear hK K;refine tkT 6 ?_;refine wpAnyH_done kR ?_ _;go_wp2;go_ret;exact⟨Zhu (NB.out sM).symm,bel hb (bel (Zhq _ _) HB1)⟩
   ·go_wp2;refine rG (fun v=>v.cell? ⟨C,0,none⟩=some (.slice p0 M q0)/\v.cell? ⟨wr.heap.size,0,none⟩=some (.int .i64 K)/\v.cell? ⟨wr.heap.size,1,none⟩=some (.int .i64 P)) fun hHeld=>?_;refine Tc 0 1 2 ?_;refine Tb 3 4 ?_;clear hHeld;refine ry1 5 fun K hK=>?_;go_simp;(go_at_call 90;refine(HK.out _).mono ?_;rintro e w1 ⟨rfl,hb1⟩;have HB1:=bel (Zhs _) hb1;obtain⟨y0,y1,y2⟩:=HC.out w1 HB1);try(go_wp2_with fail)
    refine okK hK fun hHeld=>?_;clear hK K;refine tkT 6 ?_;refine wpAnyH_done kR ?_ _;go_wp2;go_roundw
    case rel=>exact⟨bel hb (bel (Zhq _ _) HB1),j+1,oM,gN,NX.out sM⟩
    case measure=>simp[intOf];omega
  ·have:j=N:=oM;subst this;have HF:Hid ((l.all fun t=>Zil t M)=true):=List.all_eq_true.2 fun t ht=>by
    obtain⟨i,hi,rfl⟩:=List.mem_iff_getElem.1 ht;exact Zex
   clear hp;go_wp2;go_ret;exact⟨Zhu HF.out.symm,hb⟩
theorem Zxy(C:Nat)(v0 v1 v2 v3:Value)(c:Cd)(hk:CdOk c)(w:World)(hc:CdAt w C v0 v1 v2 v3 c):
 Calls prog 52 #[.pointer (some ⟨C,0,none⟩)] w fun e w'=>e=.returned (.bool (Zkb c))/\Below w.heap.size w w':=by
 obtain⟨hcc,hcv⟩:=hc;have c0:=hcc.at 0 rfl;have c1:=hcc.at 2 rfl;rw[Nat.zero_add]at c0 c1;have hC:=Zhr c0;simp only at hC;have hr:=hcv.slots;obtain⟨p,q,rfl,hrr⟩:=hcv.slots;obtain⟨p0,q0,rfl,hrr0⟩:=hcv.sign;have HB:=hk.slotsL;have HB0:=hk.signL;have HSB:Hid (∀s∈c.slots,0<=s.bits/\s.bits<4294967296):=hk.sbits;unfold Zkb;obtain⟨M,hM⟩:∃M,c.sign.length=M:=⟨_,rfl⟩
 rw[hM]at c0 HB0 ⊢;obtain⟨l,hl⟩:∃l,c.slots=l:=⟨_,rfl⟩
 rw[hl]at c1 hr HB HSB ⊢;obtain⟨N,hN⟩:∃N,l.length=N:=⟨_,rfl⟩
 have HN:Hid (l.length=N):=hN;rw[hN]at c1 hr HB;have HR:Hid (RowG 5 slC w (.slice p N q) l):=hr;clear hl hM hN hr hrr hrr0 hcc hcv hk;go_enter func52,ntmps52;go_wp2
 go_loopw [10] (fun iv wr=>Below w.heap.size w wr/\∃j:Nat,j<=N/\iv=.int .i64 j/\Hid (∀i (h:i<l.length),i<j->Zjg l[i] M=true)) (fun iv _=>N-(intOf iv).toNat)
 case atStart=>exact⟨bel0 w,0,Nat.zero_le _,rfl,fun i h hi=>absurd hi (Nat.not_lt_zero _)⟩
 case round=>
  obtain⟨hb,j,hj,rfl,hp⟩:=hrel;by_cases hlt:j<N
  ·have hll:j<l.length:=by rw[HN.out];exact hlt
   obtain⟨b,o,rfl,hx⟩:=HR.out.at hll;have hx':=hx.below hb;have x0:=hx'.at 0 rfl;have x1:=hx'.at 1 rfl;have x2:=hx'.at 2 rfl;have x3:=hx'.at 3 rfl;have x4:=hx'.at 4 rfl;rw[Nat.add_zero]at x0;have z0:=kc hb c0;have hC2:=Zhr z0;have hb2:=Zhr x0;simp only at hC2 hb2;have n1:C≠wr.heap.size:=oM;have n2:b≠wr.heap.size:=oM;have i1:(0:Int)<=(j:Int):=oM;have i2:(j:Int)<(N:Int):=oM;have KN:=Ztb l[j].ty p0 M q0 HB0;have KB:=Zaiz l[j] (HSB.out _ (List.getElem_mem hll)).1 (HSB.out _ (List.getElem_mem hll)).2;have NX:Hid (Zjg l[j] M=true->∀i (h:i<l.length),i<j+1->Zjg l[i] M=true):=fun hq i h hi=>by
    exact Zct
   have NB:Hid (Zjg l[j] M=false->(l.all fun t=>Zjg t M)=false):=fun h=>List.all_eq_false.2 ⟨l[j],List.getElem_mem hll,by rw[h];decide⟩;obtain⟨T,hT⟩:∃T,l[j]=T:=⟨_,rfl⟩
   rw[hT]at x0 x1 x2 x3 x4 KN KB NX NB;have hsm:Zjg T M=(Zil T.ty M&&Znj T):=rfl;rw[hsm]at NX NB;obtain⟨X,hX⟩:∃X,Zil T.ty M=X:=⟨_,rfl⟩
   obtain⟨Y,hY⟩:∃Y,Znj T=Y:=⟨_,rfl⟩
   rw[hX,hY]at NX NB;simp only[hX]at KN;simp only[hY]at KB;obtain⟨⟨K,P⟩,Q,B,I⟩:=T;unfold tyV at KN;unfold slV at KB;simp only at x0 x1 x2 x3 x4 KN KB;have HK:Hid (∀w,Calls prog 90 #[.agg #[.int .i64 K,.int .i64 P],.slice p0 M q0] w fun e w'=>e=.returned (.bool X)/\Below w.heap.size w w'):=KN;have HBW:Hid (∀w,Calls prog 91 #[.agg #[.int .i64 K,.int .i64 P,.bool Q,.int .u32 B,.int .i64 I]] w fun e w'=>e=.returned (.bool Y)/\Below w.heap.size w w'):=KB;have HC:Hid (∀v,Below (wr.alloc (.cells #[.int .i64 K,.int .i64 P,.bool Q,.int .u32 B,.int .i64 I] 72)).heap.size (wr.alloc (.cells #[.int .i64 K,.int .i64 P,.bool Q,.int .u32 B,.int .i64 I] 72)) v->v.cell? ⟨C,0,none⟩=some (.slice p0 M q0)/\v.cell? ⟨wr.heap.size,0,none⟩=some (.int .i64 K)/\v.cell? ⟨wr.heap.size,1,none⟩=some (.int .i64 P)/\v.cell? ⟨wr.heap.size,2,none⟩=some (.bool Q)/\v.cell? ⟨wr.heap.size,3,none⟩=some (.int .u32 B)/\v.cell? ⟨wr.heap.size,4,none⟩=some (.int .i64 I)):=
    fun v hv=>⟨kc hv (kc (Zhq _ _) z0),kc hv sG,kc hv sG,kc hv sG,kc hv sG,kc hv sG⟩
   have f1:=(HC.out _ (bel0 _)).1;clear KN KB hT hX hY hp hx hx' hsm;cases X
   ·go_wp2;refine rG (fun v=>v.cell? ⟨C,0,none⟩=some (.slice p0 M q0)/\v.cell? ⟨wr.heap.size,0,none⟩=some (.int .i64 K)/\v.cell? ⟨wr.heap.size,1,none⟩=some (.int .i64 P)/\v.cell? ⟨wr.heap.size,2,none⟩=some (.bool Q)/\v.cell? ⟨wr.heap.size,3,none⟩=some (.int .u32 B)/\v.cell? ⟨wr.heap.size,4,none⟩=some (.int .i64 I)) fun hHeld=>?_;refine Tf 0 1 2 3 4 5 ?_;clear hHeld;refine ry1 6 fun K hK=>?_;go_simp;(go_at_call 90;refine(HK.out _).mono ?_;rintro e w1 ⟨rfl,hb1⟩;have HB1:=bel (Zhs _) hb1;obtain⟨y0,y1,y2,y3,y4,y5⟩:=HC.out w1 HB1);try(go_wp2_with fail)
    refine okK hK fun hHeld=>?_;clear hK K;refine Tb 7 8 ?_;refine tkK 9 ?_;refine tkK 10 ?_;refine tkK 11 ?_;refine tkT 12 ?_;refine wpAnyH_done kR ?_ _;go_wp2;go_ret;exact⟨Zhu (NB.out sM).symm,bel hb (bel (Zhq _ _) HB1)⟩
   ·cases Y
    ·go_wp2;refine rG (fun v=>v.cell? ⟨C,0,none⟩=some (.slice p0 M q0)/\v.cell? ⟨wr.heap.size,0,none⟩=some (.int .i64 K)/\v.cell? ⟨wr.heap.size,1,none⟩=some (.int .i64 P)/\v.cell? ⟨wr.heap.size,2,none⟩=some (.bool Q)/\v.cell? ⟨wr.heap.size,3,none⟩=some (.int .u32 B)/\v.cell? ⟨wr.heap.size,4,none⟩=some (.int .i64 I)) fun hHeld=>?_;refine Tf 0 1 2 3 4 5 ?_;clear hHeld;refine ry1 6 fun K hK=>?_;go_simp;(go_at_call 90;refine(HK.out _).mono ?_;rintro e w1 ⟨rfl,hb1⟩;have HB1:=bel (Zhs _) hb1;obtain⟨y0,y1,y2,y3,y4,y5⟩:=HC.out w1 HB1);try(go_wp2_with fail)
     refine okK hK fun hHeld=>?_;clear hK K;refine Tc 7 8 9 ?_;clear hHeld;refine ry1 10 fun K hK=>?_;go_simp;(go_at_call 91;refine(HBW.out _).mono ?_;rintro e w2 ⟨rfl,hb2⟩;have HB2:=bel HB1 hb2;obtain⟨y0,y1,y2,y3,y4,y5⟩:=HC.out w2 HB2);try(go_wp2_with fail)
     refine okK hK fun hHeld=>?_;clear hK K;refine Tb 11 12 ?_;refine wpAnyH_done kR ?_ _;go_wp2;go_ret;exact⟨Zhu (NB.out sM).symm,bel hb (bel (Zhq _ _) HB2)⟩
    ·go_wp2;refine rG (fun v=>v.cell? ⟨C,0,none⟩=some (.slice p0 M q0)/\v.cell? ⟨wr.heap.size,0,none⟩=some (.int .i64 K)/\v.cell? ⟨wr.heap.size,1,none⟩=some (.int .i64 P)/\v.cell? ⟨wr.heap.size,2,none⟩=some (.bool Q)/\v.cell? ⟨wr.heap.size,3,none⟩=some (.int .u32 B)/\v.cell? ⟨wr.heap.size,4,none⟩=some (.int .i64 I)) fun hHeld=>?_;refine Tf 0 1 2 3 4 5 ?_;clear hHeld;refine ry1 6 fun K hK=>?_;go_simp;(go_at_call 90;refine(HK.out _).mono ?_;rintro e w1 ⟨rfl,hb1⟩;have HB1:=bel (Zhs _) hb1;obtain⟨y0,y1,y2,y3,y4,y5⟩:=HC.out w1 HB1);try(go_wp2_with fail)
     refine okK hK fun hHeld=>?_;clear hK K;refine Tc 7 8 9 ?_;clear hHeld;refine ry1 10 fun K hK=>?_;go_simp;(go_at_call 91;refine(HBW.out _).mono ?_;rintro e w2 ⟨rfl,hb2⟩;have HB2:=bel HB1 hb2;obtain⟨y0,y1,y2,y3,y4,y5⟩:=HC.out w2 HB2);try(go_wp2_with fail)
     refine okK hK fun hHeld=>?_;clear hK K;refine Tb 11 12 ?_;refine wpAnyH_done kR ?_ _;go_wp2;go_roundw
     case rel=>exact⟨bel hb (bel (Zhq _ _) HB2),j+1,oM,gN,NX.out sM⟩
     case measure=>simp[intOf];omega
  ·have:j=N:=oM;subst this;have HF:Hid ((l.all fun t=>Zjg t M)=true):=List.all_eq_true.2 fun t ht=>by
    obtain⟨i,hi,rfl⟩:=List.mem_iff_getElem.1 ht;exact Zex
   clear hp;go_wp2;go_ret;exact⟨Zhu HF.out.symm,hb⟩
theorem Zxg(C:Nat)(v0 v1 v2 v3:Value)(c:Cd)(hk:CdOk c)(w:World)(hc:CdAt w C v0 v1 v2 v3 c):
 Calls prog 31 #[.pointer (some ⟨C,0,none⟩)] w fun e w'=>e=.returned (.int .i64 (Zkw c))/\Below w.heap.size w w':=by
 have K1:=Zahk v0 c.sign hk.signL hk.names w hc.2.sign.rd;have K2:=fun w h=>Zxh C v0 v1 v2 v3 c hk w h;have K3:=fun w h=>Zxy C v0 v1 v2 v3 c hk w h;unfold Zkw;obtain⟨E,hE⟩:∃E,Zja c.sign=E:=⟨_,rfl⟩
 obtain⟨X,hX⟩:∃X,Zif c=X:=⟨_,rfl⟩
 obtain⟨Y,hY⟩:∃Y,Zkb c=Y:=⟨_,rfl⟩
 simp only[hE]at K1 ⊢;simp only[hX]at K2 ⊢;simp only[hY]at K3 ⊢;have HC0:Hid (CdAt w C v0 v1 v2 v3 c):=hc;obtain⟨hcc,hcv⟩:=hc;have b1:=hk.regsL;have b2:=hk.slotsL;have b3:=hk.listL;obtain⟨p1,q1,rfl,r1⟩:=hcv.regs;obtain⟨p2,q2,rfl,r2⟩:=hcv.slots;obtain⟨p3,q3,rfl,r3⟩:=hcv.list;have c0:=hcc.at 0 rfl;have c1:=hcc.at 1 rfl;have c2:=hcc.at 2 rfl;have c3:=hcc.at 3 rfl;rw[Nat.zero_add]at c0 c1 c2 c3;obtain⟨N1,h1⟩:∃N,c.regs.length=N:=⟨_,rfl⟩
 obtain⟨N2,h2⟩:∃N,c.slots.length=N:=⟨_,rfl⟩
 obtain⟨N3,h3⟩:∃N,c.list.length=N:=⟨_,rfl⟩
 rw[h1]at K2 K3 c1 b1 HC0 ⊢;rw[h2]at K2 K3 c2 b2 HC0 ⊢;rw[h3]at K2 K3 c3 b3 HC0 ⊢;have HK1:Hid (Calls prog 50 #[v0] w fun e w'=>e=.returned (.int .i64 E)/\Below w.heap.size w w'):=K1;have HK2:Hid (∀w,CdAt w C v0 (.slice p1 N1 q1) (.slice p2 N2 q2) (.slice p3 N3 q3) c->Calls prog 51 #[.pointer (some ⟨C,0,none⟩)] w fun e w'=>e=.returned (.bool X)/\Below w.heap.size w w'):=K2;have HK3:Hid (∀w,CdAt w C v0 (.slice p1 N1 q1) (.slice p2 N2 q2) (.slice p3 N3 q3) c->Calls prog 52 #[.pointer (some ⟨C,0,none⟩)] w fun e w'=>e=.returned (.bool Y)/\Below w.heap.size w w'):=K3;have HC:Hid (∀v,Below w.heap.size w v->v.cell? ⟨C,1,none⟩=some (.slice p1 N1 q1)/\v.cell? ⟨C,2,none⟩=some (.slice p2 N2 q2)/\v.cell? ⟨C,3,none⟩=some (.slice p3 N3 q3)):=fun v hv=>⟨kc hv c1,kc hv c2,kc hv c3⟩
 clear K1 K2 K3 hE hX hY h1 h2 h3 r1 r2 r3 hcc hcv hk;by_cases hE:E=0
 ·subst hE;rw[if_neg sM];by_cases s1:16384<N1\/32768<N3
  ·rw[if_pos s1];by_cases s2:16384<N1
   ·have s2':(16384:Int)<(N1:Int):=oM;clear s1 s2;exact Zco
   ·have s2':¬ (16384:Int)<(N1:Int):=oM;have s3':(32768:Int)<(N3:Int):=oM;clear s1 s2;exact Zco
  ·rw[if_neg s1];have s2':¬ (16384:Int)<(N1:Int):=oM;have s3':¬ (32768:Int)<(N3:Int):=oM;clear s1;by_cases s4:4096<N2
   ·rw[if_pos s4];have s4':(4096:Int)<(N2:Int):=oM;clear s4;exact Zco
   ·rw[if_neg s4];have s4':¬ (4096:Int)<(N2:Int):=oM;clear s4;cases X
    ·go_enter func31,ntmps31;go_wp2_with(first
      |(go_at_call 50;refine HK1.out.mono ?_;rintro e w1 ⟨rfl,hb1⟩;obtain⟨d1,d2,d3⟩:=HC.out w1 hb1)
      |(go_at_call 51;refine(HK2.out _ (HC0.out.below hb1)).mono ?_;rintro e w2 ⟨rfl,hb2⟩;have HB2:=bel hb1 hb2)
      |(go_at_call 52;refine(HK3.out _ (HC0.out.below HB2)).mono ?_;rintro e w3 ⟨rfl,hb3⟩;have HB3:=bel HB2 hb3))
     all_goals(go_ret;exact⟨rfl,HB2⟩)
    ·cases Y
     ·exact Zci
     ·exact Zci
 ·rw[if_pos hE];have hE':(E==0)=false:=by simpa using hE
  go_enter func31,ntmps31;go_wp2_with(go_at_call 50;refine HK1.out.mono ?_;rintro e w1 ⟨rfl,hb1⟩)
  all_goals(go_ret;exact⟨rfl,hb1⟩)
theorem Zqz:(prog.info? 4).map (fun i=>(i.zero,i.size,i.bytes))=some (some (.bool false),1,1):=kR
theorem make_B(m:Nat)(h:m<=70368744177664)(w:World):(Instr.makeSlice 100 (.int .i64 m) (.int .i64 m)).run prog w=.ok (.slice (some ⟨w.heap.size,0,none⟩) m m) (w.alloc (.cells (madeCells #[.bool false] m) 4)):=
 run_make_row' (P:=prog) 100 4 (.bool false) 1 underlying100 Zqz rfl .i64 .i64 m oM oM w
theorem WS.start(w:World)(C n:Nat):WS w.heap.size (w.heap.size+1) C n w.heap.size (.slice none 0 0) (.slice none 0 0) ((w.alloc (.cells (madeCells #[.bool false] n) 4)).alloc (.cells #[.pointer (some ⟨C,0,none⟩),.slice (some ⟨w.heap.size,0,none⟩) n n,.slice none 0 0,.slice none 0 0] 103)) ⟨[],[]⟩:=by
 have h1:=(World.rowIs_made w (.bool false) n 4).alloc (.cells #[.pointer (some ⟨C,0,none⟩),.slice (some ⟨w.heap.size,0,none⟩) n n,.slice none 0 0,.slice none 0 0] 103);have h2:=World.rowIs_alloc (w.alloc (.cells (madeCells #[.bool false] n) 4)) #[.pointer (some ⟨C,0,none⟩),.slice (some ⟨w.heap.size,0,none⟩) n n,.slice none 0 0,.slice none 0 0] 103 (wkF C w.heap.size n (.slice none 0 0) (.slice none 0 0)) (fun i hi=>by
  have hi':i<4:=hi;obtain rfl|rfl|rfl|rfl:i=0\/i=1\/i=2\/i=3:=oM
  all_goals rfl)
 have hs:(w.alloc (.cells (madeCells #[.bool false] n) 4)).heap.size=w.heap.size+1:=sM;rw[hs]at h2;exact⟨h2,h1.congr fun j _=>by simp,World.ownsRow_nil _ _ _ 1,World.ownsRow_nil _ _ _ 3,oM,Nat.le_refl _,oM,by simp[Value.ownBlock],by simp[Value.ownBlock],by simp[Value.ownBlock],by simp[Value.ownBlock],by simp[Value.ownBlock]⟩
theorem Zzm(v0 v1 v2 v3:Value)(c:Cd)(hk:CdOk c)(w:World)(hv:CdV w v0 v1 v2 v3 c):
 Calls prog 15 #[.agg #[v0,v1,v2,v3]] w fun e w'=>e=.returned (.tuple #[.int .i64 (Zik c).1,.int .i64 (Zik c).2])/\Below w.heap.size w w':=by
 have hat:CdAt (w.alloc (.cells #[v0,v1,v2,v3] 27)) w.heap.size v0 v1 v2 v3 c:=by
  refine⟨fun j hj=>?_,hv.below (Zhq _ _)⟩;have hj':j<4:=hj;obtain rfl|rfl|rfl|rfl:j=0\/j=1\/j=2\/j=3:=oM
  all_goals simp[go_sem]
 have K1:=Zxg w.heap.size v0 v1 v2 v3 c hk _ hat;unfold Zik;obtain⟨A,hA⟩:∃A,Zkw c=A:=⟨_,rfl⟩
 rw[hA]at K1 ⊢;have HK1:Hid (Calls prog 31 #[.pointer (some ⟨w.heap.size,0,none⟩)] (w.alloc (.cells #[v0,v1,v2,v3] 27)) fun e w'=>e=.returned (.int .i64 A)/\Below (w.alloc (.cells #[v0,v1,v2,v3] 27)).heap.size (w.alloc (.cells #[v0,v1,v2,v3] 27)) w'):=K1;clear K1;by_cases h0:A=0
 ·rw[if_neg (by simp[h0])];have hsz:c.regs.length<=16384/\c.list.length<=32768/\Zif c=true:=by
   rw[h0]at hA;unfold Zkw at hA;split at hA
   ·rename_i e1;exact absurd hA e1
   ·split at hA
    ·exact absurd hA dE
    ·split at hA
     ·exact absurd hA dE
     ·split at hA
      ·rename_i e1 e2 e3 e4;simp only[Bool.and_eq_true]at e4;exact⟨oM,oM,e4.1⟩
      ·exact absurd hA dE
  obtain⟨hn,hN,htm⟩:=hsz;clear hA;subst h0;have KT:=fun E G gi vs vo s b o i w h ok hc hi hb hb0 hb1=>Zabv E G w.heap.size c.regs.length gi vs vo s v0 v1 v2 v3 c hk b o i w h rfl ok hn hc hi hb htm hb0 hb1;clear KT;have hr:=hv.list;obtain⟨p3,q3,rfl,hr3⟩:=hv.list;obtain⟨p1,q1,rfl,hr1⟩:=hv.regs;have HAT:Hid (CdAt (w.alloc (.cells #[v0,.slice p1 c.regs.length q1,v2,.slice p3 c.list.length q3] 27)) w.heap.size v0 (.slice p1 c.regs.length q1) v2 (.slice p3 c.list.length q3) c):=hat;obtain⟨Pr,hPr⟩:∃P,goP c ⟨[],[]⟩ 0 c.list=P:=⟨_,rfl⟩
  rw[hPr];have HP:Hid (goP c ⟨[],[]⟩ 0 c.list=Pr):=hPr;have HROW:Hid (RowG 7 inC w (.slice p3 c.list.length q3) c.list):=hr;have HIB:Hid (∀i∈c.list,0<=i.bits/\i.bits<4294967296):=hk.ibits;obtain⟨n,hnn⟩:∃n,c.regs.length=n:=⟨_,rfl⟩
  obtain⟨N,hNN⟩:∃N,c.list.length=N:=⟨_,rfl⟩
  have HNE:Hid (c.regs.length=n):=hnn;have HNL:Hid (c.list.length=N):=hNN;rw[hnn]at hn HK1 HAT;rw[hNN]at hN HK1 HAT HROW;rw[hnn,hNN];have mk:=fun w=>make_B n oM w;have HOKC:Hid (CdOk c):=hk;have HTM:Hid (Zif c=true):=htm;have f1:=HAT.out.1.at 1 rfl;have f3:=HAT.out.1.at 3 rfl;rw[Nat.zero_add]at f1 f3;have HC:Hid (∀v,Below (w.alloc (.cells #[v0,.slice p1 n q1,v2,.slice p3 N q3] 27)).heap.size (w.alloc (.cells #[v0,.slice p1 n q1,v2,.slice p3 N q3] 27)) v->v.cell? ⟨w.heap.size,1,none⟩=some (.slice p1 n q1)/\v.cell? ⟨w.heap.size,3,none⟩=some (.slice p3 N q3)):=fun v hv=>⟨kc hv f1,kc hv f3⟩
  clear hat hv hr hr3 hr1 hPr hnn hNN hk htm f1 f3;go_enter func15,ntmps15;go_wp2_with(go_at_call 31;refine HK1.out.mono ?_;rintro e w1 ⟨rfl,hb1⟩;obtain⟨g1,g3⟩:=HC.out w1 hb1;have g4:((w1.alloc (.cells (madeCells #[.bool false] n) 4)).alloc (.cells #[.pointer (some ⟨w.heap.size,0,none⟩),.slice (some ⟨w1.heap.size,0,none⟩) n n,.slice none 0 0,.slice none 0 0] 103)).cell? ⟨w.heap.size,3,none⟩=some (.slice p3 N q3):=kc (Zhq _ _) (kc (Zhq _ _) g3));have HB1:Hid (Below w.heap.size w w1):=bel (Zhq _ _) hb1;have HAT1:Hid (CdAt w1 w.heap.size v0 (.slice p1 n q1) v2 (.slice p3 N q3) c):=HAT.out.below hb1;have hs1:w.heap.size<w1.heap.size:=by have:=hb1.size;simp at this;omega
  have HS0:=WS.start w1 w.heap.size n;have HB0:Below w1.heap.size w1 ((w1.alloc (.cells (madeCells #[.bool false] n) 4)).alloc (.cells #[.pointer (some ⟨w.heap.size,0,none⟩),.slice (some ⟨w1.heap.size,0,none⟩) n n,.slice none 0 0,.slice none 0 0] 103)):=bel (Zhq _ _) (Zhq _ _);obtain⟨W2,hW2⟩:∃W2,(w1.alloc (.cells (madeCells #[.bool false] n) 4)).alloc (.cells #[.pointer (some ⟨w.heap.size,0,none⟩),.slice (some ⟨w1.heap.size,0,none⟩) n n,.slice none 0 0,.slice none 0 0] 103)=W2:=⟨_,rfl⟩
  rw[hW2]at HS0 HB0;try rw[hW2]
  clear HK1 HC hb1 mk HAT g4 hW2
  go_loopw [19] (fun iv wr=>∃ (j:Nat) (s:Wk) (vs vo:Value),j<=N/\iv=.int .i64 j/\Below w1.heap.size w1 wr/\WS w1.heap.size (w1.heap.size+1) w.heap.size n w1.heap.size vs vo wr s/\OkS n s/\Hid (goP c s j (c.list.drop j)=Pr)) (fun iv _=>N-(intOf iv).toNat)
  case atStart=>exact⟨0,⟨[],[]⟩,_,_,Nat.zero_le _,rfl,HB0,HS0,OkS.start n,by show _=_;rw[List.drop_zero];exact HP.out⟩
  case round=>
   obtain⟨j,s,vs,vo,hj,rfl,hb,hws,hok,hgo⟩:=hrel;have HWS:Hid (WS w1.heap.size (w1.heap.size+1) w.heap.size n w1.heap.size vs vo wr s):=hws;have HOK:Hid (OkS n s):=hok;have HBW:Hid (Below w1.heap.size w1 wr):=hb;have d3:=kc hb g3;have l3:=hws.c3;have hol:∃p q,vo=.slice p s.opens.length q:=Zjk hws.opn;have hnest:=hok.nest;clear HS0 HB0;by_cases hlt:j<N
   ·have hll:j<c.list.length:=by rw[HNL.out];exact hlt
    have hgo':=hgo.out;rw[List.drop_eq_getElem_cons hll]at hgo';have hgi:goP c s j (c.list[j]::c.list.drop (j+1))=if Ziz c s c.list[j]then goP c (Zib s c.list[j]) (j+1) (c.list.drop (j+1))else(160,(j:Int)):=rfl;rw[hgi]at hgo';obtain⟨b,o,rfl,hx⟩:=HROW.out.at hll;have hbw:b<w.heap.size:=Zhr (hx 0 (by simp[inC]));have hxw:=(hx.below HB1.out).below hb;have KT:=Zabv w1.heap.size (w1.heap.size+1) w.heap.size n w1.heap.size vs vo s v0 (.slice p1 n q1) v2 (.slice (some ⟨b,o,none⟩) N q3) c HOKC.out b (o+j*7) c.list[j] wr hws HNE.out hok hn (HAT1.out.below hb) hxw oM HTM.out (HIB.out _ (List.getElem_mem hll)).1 (HIB.out _ (List.getElem_mem hll)).2;have hokS:Ziz c s c.list[j]=true->OkS n (Zib s c.list[j]):=fun ht=>by
     have hq:OkS c.regs.length s:=by rw[HNE.out];exact hok
     have:=OkS.step hq ht;rw[HNE.out]at this;exact this
    obtain⟨X,hX⟩:∃X,Ziz c s c.list[j]=X:=⟨_,rfl⟩
    rw[hX]at hgo' hokS;simp only[hX]at KT;have HKT:Hid (Calls prog 32 #[.pointer (some ⟨w1.heap.size+1,0,none⟩),.pointer (some ⟨b,o+j*7,none⟩)] wr fun e w'=>e=.returned (.bool X)/\Below w1.heap.size wr w'/\(X=true->∃vs' vo',WS w1.heap.size (w1.heap.size+1) w.heap.size n w1.heap.size vs' vo' w' (Zib s c.list[j]))):=KT;have HGO:Hid ((if X=true then goP c (Zib s c.list[j]) (j+1) (c.list.drop (j+1))else(160,(j:Int)))=Pr):=hgo';have HOS:Hid (X=true->OkS n (Zib s c.list[j])):=hokS;have i1:(0:Int)<=(j:Int):=oM;have i2:(j:Int)<(N:Int):=oM;clear KT hgo hgo' hgi hokS hX hx hxw hws hok hb hol l3;cases X
    ·go_wp2_with(go_at_call 32;refine HKT.out.mono ?_;rintro e w5 ⟨rfl,hb5,hw5⟩;have HB5:Hid (Below w1.heap.size wr w5):=hb5;clear hb5 hw5)
     go_ret2
     refine⟨?_,bel HB1.out (HBW.out.trans HB5.out)⟩;have:=HGO.out;rw[if_neg dE]at this;rw[←this];rfl
    ·go_wp2_with(go_at_call 32;refine HKT.out.mono ?_;rintro e w5 ⟨rfl,hb5,hw5⟩;have HB5:Hid (Below w1.heap.size wr w5):=hb5;have HW5:Hid (∃vs' vo',WS w1.heap.size (w1.heap.size+1) w.heap.size n w1.heap.size vs' vo' w5 (Zib s c.list[j])):=hw5 fT;clear hb5 hw5);go_roundw
     case rel=>
      obtain⟨vs',vo',hw5⟩:=HW5.out;exact⟨j+1,_,vs',vo',oM,gN,HBW.out.trans HB5.out,hw5,HOS.out fT,by show _=_;have:=HGO.out;rw[if_pos fT]at this;exact this⟩
     case measure=>simp[intOf];omega
   ·have:j=N:=oM;subst this;have hgo':=hgo.out;rw[List.drop_of_length_le (by rw[HNL.out];exact Nat.le_refl _)]at hgo';have hgi:goP c s j [] =if s.opens.isEmpty then(0,0)else(160,(j:Int)):=rfl;rw[hgi]at hgo';obtain⟨p,q,rfl⟩:=hol;obtain⟨M,hM⟩:∃M,s.opens.length=M:=⟨_,rfl⟩
    rw[hM]at l3 hnest;have hE:s.opens.isEmpty=decide (M=0):=by
     rw[←hM];cases s.opens with
     |nil=>rfl
     |cons a l=>simp
    rw[hE]at hgo';have HGO:Hid ((if decide (M=0)=true then((0:Int),(0:Int))else(160,(j:Int)))=Pr):=hgo';clear hgo hgo' hgi hE hM hws hok hb;by_cases hz:M=0
    ·subst hz;go_wp2
     go_ret2
     refine⟨?_,bel HB1.out HBW.out⟩;rw[←HGO.out];rfl
    ·have hz':(0:Int)<(M:Int):=oM;have hz2:0<M:=oM;have HZ:Hid (¬M=0):=hz;clear hz;go_wp2;refine rG (fun v=>v.cell? ⟨w.heap.size,3,none⟩=some (.slice p3 j q3)) fun hHeld=>?_;refine Tc 0 1 2 ?_;refine Tb 3 4 ?_;refine wpAnyH_done kR ?_ _;go_wp2
     go_ret2
     refine⟨?_,(bel HB1.out HBW.out).drew⟩;have:=HGO.out;rw[if_neg (by simpa using HZ.out)]at this;rw[←this];rfl
 ·rw[if_pos h0];have h0':(A==0)=false:=by simpa using h0
  go_enter func15,ntmps15;go_wp2_with(go_at_call 31;refine HK1.out.mono ?_;rintro e w1 ⟨rfl,hb1⟩)
  all_goals(go_ret2;exact⟨rfl,bel (Zhq _ _) hb1⟩)
def insV(i:Ins):Value:=.agg #[.int .i64 i.op,.int .i64 i.d,.int .i64 i.a,.int .i64 i.b,.int .i64 i.c,.int .i64 i.n,.int .u32 i.bits]
theorem Zajv{w v:World}{i:Ins}{t:TypeId}(k:Below (w.alloc (.cells #[.int .i64 i.op,.int .i64 i.d,.int .i64 i.a,.int .i64 i.b,.int .i64 i.c,.int .i64 i.n,.int .u32 i.bits] t)).heap.size (w.alloc (.cells #[.int .i64 i.op,.int .i64 i.d,.int .i64 i.a,.int .i64 i.b,.int .i64 i.c,.int .i64 i.n,.int .u32 i.bits] t)) v):Zhw v w.heap.size 0 (inC i):=by
 refine Zhw.below (fun j hj=>?_) k;have hj':j<7:=hj;obtain rfl|rfl|rfl|rfl|rfl|rfl|rfl:j=0\/j=1\/j=2\/j=3\/j=4\/j=5\/j=6:=oM
 all_goals simp[go_sem,inC]
theorem Zakn(i:Ins)(w:World):Calls prog 118 #[insV i] w fun e w'=>∃v,e=.returned v/\w'.ownsRow w.heap.size 3 1 v (Zid i (rowP i.op)).length (i64s (Zid i (rowP i.op)))/\Below w.heap.size w w':=by
 have K1:=fun w=>Zzo i.op w;have K2:=fun w h=>Zsv w.heap.size 0 i (rowP i.op) w h;clear K2;have K3:=fun b v h=>Zsv b 0 i (rowP i.op) v h;have HIC:=fun(v:World) k=>Zajv (w:=w) (v:=v) (i:=i) (t:=45) k;obtain⟨r,hr⟩:∃r,rowP i.op=r:=⟨_,rfl⟩
 obtain⟨X,hX⟩:∃X,Zih i.op=X:=⟨_,rfl⟩
 simp only[hr,hX]at K1 K3 ⊢;obtain⟨RL,hRL⟩:∃x,Zid i r=x:=⟨_,rfl⟩
 simp only[hRL]at K3 ⊢;obtain⟨L0,L1,L2,L3,L4⟩:=r;obtain⟨op,D,A,B,E,n,bt⟩:=i;unfold insV;unfold rwV at K1 K3;simp only at K1 K3 HIC ⊢;have HK:Hid (∀w,Calls prog 53 #[.int .i64 op] w fun e w'=>e=.returned (.tuple #[.agg #[.int .i64 L0,.int .i64 L1,.int .i64 L2,.int .i64 L3,.int .i64 L4],.bool X])/\Below w.heap.size w w'):=K1;have HK3:Hid (∀b v,Zhw v b 0 (inC ⟨op,D,A,B,E,n,bt⟩)->Calls prog 56 #[.agg #[.int .i64 L0,.int .i64 L1,.int .i64 L2,.int .i64 L3,.int .i64 L4],.pointer (some ⟨b,0,none⟩)] v fun e w'=>∃u,e=.returned u/\w'.ownsRow v.heap.size 3 1 u RL.length (i64s RL)/\Below v.heap.size v w'):=K3;have HCC:Hid (∀v,Below (w.alloc (.cells #[.int .i64 op,.int .i64 D,.int .i64 A,.int .i64 B,.int .i64 E,.int .i64 n,.int .u32 bt] 45)).heap.size (w.alloc (.cells #[.int .i64 op,.int .i64 D,.int .i64 A,.int .i64 B,.int .i64 E,.int .i64 n,.int .u32 bt] 45)) v->Zhw v w.heap.size 0 (inC ⟨op,D,A,B,E,n,bt⟩)):=HIC;clear K1 K3 HIC hr hX hRL;go_enter func118,ntmps118;go_wp2_with(first
  |(go_at_call 53;refine(HK.out _).mono ?_;rintro e w1 ⟨rfl,hb1⟩)
  |(go_at_call 56;refine(HK3.out _ _ (HCC.out _ (bel hb1 (Zhq _ _)))).mono ?_;rintro e w2 ⟨u,rfl,hu,hb2⟩;have HU:Hid (w2.ownsRow (w1.alloc (.cells #[.int .i64 L0,.int .i64 L1,.int .i64 L2,.int .i64 L3,.int .i64 L4] 134)).heap.size 3 1 u RL.length (i64s RL)):=hu;have HB2:Hid (Below w.heap.size w w2):=bel (bel (bel (Zhq _ _) hb1) (Zhq _ _)) hb2;have hs:w.heap.size<=(w1.alloc (.cells #[.int .i64 L0,.int .i64 L1,.int .i64 L2,.int .i64 L3,.int .i64 L4] 134)).heap.size:=(bel (bel (Zhq _ _) hb1) (Zhq _ _)).size;have HSZ:Hid (w.heap.size<=(w1.alloc (.cells #[.int .i64 L0,.int .i64 L1,.int .i64 L2,.int .i64 L3,.int .i64 L4] 134)).heap.size):=hs;clear hu hb2 hs))
 go_ret;exact⟨_,rfl,Zmz HU.out HSZ.out,HB2.out⟩
def flat{α:Type}(f:α->List Value)(l:List α):List Value:=l.flatMap f
theorem Zoq{α:Type}{f:α->List Value}{k:Nat}(hf:∀x,(f x).length=k):∀l:List α,(flat f l).length=l.length*k
 |[] =>by simp[flat]
 |a::l=>by
  have e:flat f (a::l)=f a++flat f l:=by simp[flat]
  rw[e,List.length_append,Zoq hf l,hf,List.length_cons,Nat.add_mul,Nat.one_mul,Nat.add_comm]
theorem Zua{α:Type}{f:α->List Value}{k:Nat}(hf:∀x,(f x).length=k):∀ (l:List α) (i j:Nat) (hi:i<l.length),j<k->(flat f l)[i*k+j]? =(f l[i])[j]?
 |[],i,j,hi,hj=>absurd hi (Nat.not_lt_zero _)
 |a::l,0,j,hi,hj=>by
  have e:flat f (a::l)=f a++flat f l:=by simp[flat]
  rw[e,Nat.zero_mul,Nat.zero_add,List.getElem?_append_left (by rw[hf];exact hj)];rfl
 |a::l,i+1,j,hi,hj=>by
  have e:flat f (a::l)=f a++flat f l:=by simp[flat]
  have e2:(i+1)*k+j-(f a).length=i*k+j:=by rw[hf,Nat.add_mul,Nat.one_mul];omega
  rw[e,List.getElem?_append_right (by rw[hf,Nat.add_mul,Nat.one_mul];omega),e2];exact Zua hf l i j (by simpa using hi) hj
theorem Zrl{α:Type}(f:α->List Value)(l m:List α):flat f (l++m)=flat f l++flat f m:=by simp[flat]
theorem Zoc{α:Type}{f:α->List Value}{k:Nat}(hf:∀x,(f x).length=k){w:World}{B:Nat}{t:TypeId}{v:Value}{l:List α}(h:w.ownsRow B t k v l.length (flat f l)):RowG k f w v l:=by
 by_cases h0:l=[]
 ·subst h0;obtain⟨p,c,hv⟩:=Zjk h;exact⟨p,c,hv,.inl rfl⟩
 ·obtain⟨g,cap,hv,_,_,_,_,hcl⟩:=Zns h (List.length_pos_iff.2 h0);refine⟨_,cap,hv,.inr ⟨g,0,rfl,fun i hi j hj=>?_⟩⟩;rw[Nat.zero_add];exact hcl _ _ (by rw[Zua hf l i j hi (by rw[←hf l[i]];exact hj)];exact List.getElem?_eq_getElem hj)
theorem Zacf(b o j:Nat):(⟨b,o,none⟩:Addr).add j=⟨b,o+j,none⟩:=by unfold Addr.add;split<;>simp_all
theorem Zzd{α:Type}{f:α->List Value}{k:Nat}(hk:0<k)(hf:∀x,(f x).length=k){w:World}{b o:Nat}{l:List α}(h:∀i (hi:i<l.length),Zhw w b (o+i*k) (f l[i]))(j:Nat)(u:Value)(hu:(flat f l)[j]? =some u):w.cell? ((⟨b,o,none⟩:Addr).add j)=some u:=by
 have hj:j<l.length*k:=by have:=(List.getElem?_eq_some_iff.1 hu).1;rwa[Zoq hf]at this
 have hi:j/k<l.length:=Nat.div_lt_of_lt_mul (by rw[Nat.mul_comm];exact hj);have hm:j%k<k:=Nat.mod_lt _ hk;have e:j=j/k*k+j%k:=by rw[Nat.mul_comm];exact(Nat.div_add_mod j k).symm
 rw[e,Zua hf l _ _ hi hm]at hu;rw[Zacf];have:=(h _ hi).at _ hu;rw[Nat.add_assoc,←e]at this;exact this
theorem Zoo{α:Type}{f:α->List Value}{k bytes:Nat}{t e:TypeId}{z:Value}{i:TypeInfo}(hk:0<k)(hf:∀x,(f x).length=k)(h1:∀x,∀u∈f x,u.oneCell'=true)(ht:prog.underlying t=some (.slice e))(hi:prog.info? e=some i)(hz:i.zero=some z)(hsize:i.size=k)(hby:i.bytes=bytes)(hzs:z.cells.size=k)
 {l:List α} {v:Value} {w:World} (h:RowG k f w v l) (hl:l.length<=maxLen) (hb:l.length*bytes<=140737488355328) (ty:TypeId):
 ∃v' w',(Builtin.append_ #[t,t] ty #[.slice none 0 0,v]).run prog w=.ok v' w'/\Below w.heap.size w w'/\w'.ownsRow w.heap.size e k v' l.length (flat f l):=by
 obtain⟨p,c,rfl,h⟩:=h;by_cases h0:l=[]
 ·subst h0;refine⟨.slice none 0 0,w,?_,Below.refl _ _,⟨by simp[flat],.inl ⟨rfl,rfl⟩⟩⟩;exact Zdg
 ·obtain⟨b,o,rfl,h2⟩:=h.resolve_left h0;have hpos:0<l.length:=List.length_pos_iff.2 h0;obtain⟨g,cap,w',hr,hown,hg,hat,hlt⟩:=run_append_lies (P:=prog) w t ty w.heap.size e i z k bytes ht hi hz hsize hby hzs hk (.slice none 0 0) 0 [] (World.ownsRow_nil w _ _ k) ⟨b,o,none⟩ l.length c (flat f l) (Zoq hf l) (Zzd hk hf h2) Zgt hpos oM (by rw[Nat.zero_add];exact hb) (Nat.le_refl _) w.heap.size rfl;rw[Nat.zero_add]at hr hown;exact⟨_,w',hr,⟨hg.os,hg.tape,hg.output,hg.size,fun j hj=>hg.block j hj (by show some j≠none;simp)⟩,by rw[List.nil_append]at hown;exact hown⟩
theorem Zir{P:Program}{w w':World}{ops:Array Oper}{rest:List Oper}{o:Oper}{a:Act}{Q:Exit->Act->World->Prop}(hgd:o.guard=none)(s x:Operand)(t:TypeId)
 (ho:o.op=.call {callee:=.builtin .append,args:=#[s,x],argTypes:=#[t,t]}) (v v2 v':Value) (hs:a.eval s=v) (hx:a.eval x=v2) (hr:(Builtin.append_ #[t,t] o.type #[v,v2]).run P w=.ok v' w')
 (h:wpList P ops Q rest (a.put o.dst v') w'):wpList P ops Q (o::rest) a w:=
 wpList_plain hgd fun _ hK=>by
  unfold Oper.wp execOp;simp only[ho,resolve,invoke,builtin,Sem.run_bind,Sem.run_pure,Result.andThen_ok,List.map_toArray,List.map_cons,List.map_nil,hs,hx,hr];exact hK _ _ h
theorem Zaft:∀x:Ins,∀u∈inC x,u.oneCell'=true:=fun x u hu=>by simp[inC]at hu;rcases hu with rfl|rfl|rfl|rfl|rfl|rfl|rfl<;>rfl
theorem Zyc:(prog.info? 45).map (fun i=>(i.zero,i.size,i.bytes))=some (some (.agg #[.int .i64 0,.int .i64 0,.int .i64 0,.int .i64 0,.int .i64 0,.int .i64 0,.int .u32 0]),7,56):=kR
theorem app_ins{l:List Ins}{v:Value}{w:World}(h:RowG 7 inC w v l)(hl:l.length*56<=140737488355328)(ty:TypeId):
 ∃v' w',(Builtin.append_ #[25,25] ty #[.slice none 0 0,v]).run prog w=.ok v' w'/\Below w.heap.size w w'/\w'.ownsRow w.heap.size 45 7 v' l.length (flat inC l):=by
 obtain⟨i0,hi0,hz0,hz1,hz2⟩:=info_parts Zyc;exact Zoo dE Zqf Zaft underlying25 hi0 hz0 hz1 hz2 rfl h mL hl ty


def setsP(i:Ins):Bool:=(rowP i.op).d != 0
theorem Zajg(op:Int)(w:World):Calls prog 106 #[.int .i64 op] w fun e w'=>e=.returned (.bool (Zji op))/\w'=w:=by
 unfold Zji;by_cases h:3<=op
 all_goals
  go_enter func106,ntmps106;exact Zdz
theorem u8ne(a:UInt8)(X:Bool)(h:(a==45)=X):((a.toNat:Int) != 45)= !X:=by
 rw[←h];have:((a.toNat:Int)==45)=(a==45):=by
  rw[Bool.eq_iff_iff];simp only[beq_iff_eq];constructor
  ·intro e;apply UInt8.toNat_inj.1;show a.toNat=45;omega
  ·intro e;subst e;rfl
 simp[bne,this]
theorem Zajs(i:Ins)(w:World):Calls prog 39 #[insV i] w fun e w'=>e=.returned (.bool (setsP i))/\Below w.heap.size w w':=by
 unfold setsP;rcases Zaak i.op (w.alloc (.cells #[.int .i64 i.op,.int .i64 i.d,.int .i64 i.a,.int .i64 i.b,.int .i64 i.c,.int .i64 i.n,.int .u32 i.bits] 45))with⟨hk,hc⟩|⟨hk,a,b,c,d,e,ht,hc⟩
 ·rw[Zsi i.op hk];obtain⟨op,D,A,B,E,n,bt⟩:=i;unfold insV;simp only at hc hk ⊢;have HK:Hid (Calls prog 67 #[.int .i64 op] (w.alloc (.cells #[.int .i64 op,.int .i64 D,.int .i64 A,.int .i64 B,.int .i64 E,.int .i64 n,.int .u32 bt] 45)) fun e w'=>e=.returned (.tuple #[.string ⟨#[]⟩,.bool false])/\w'=w.alloc (.cells #[.int .i64 op,.int .i64 D,.int .i64 A,.int .i64 B,.int .i64 E,.int .i64 n,.int .u32 bt] 45)):=hc;clear hc;go_enter func39,ntmps39;go_wp2_with(go_at_call 67;refine HK.out.mono ?_;rintro e w1 ⟨rfl,rfl⟩);go_ret;exact⟨rfl,Zhq _ _⟩
 ·have h1:=u8ne a _ ht.a;obtain⟨X,hX⟩:∃X,(rowP i.op).d=X:=⟨_,rfl⟩
  rw[hX]at h1 ⊢;obtain⟨op,D,A,B,E,n,bt⟩:=i;unfold insV;simp only at hc ⊢;have HK:Hid (∀w,Calls prog 67 #[.int .i64 op] w fun x w'=>x=.returned (.tuple #[.string ⟨#[a,b,c,d,e]⟩,.bool true])/\w'=w):=hc;have ix:∀w,(Instr.index 9 (.string ⟨#[a,b,c,d,e]⟩) (.int .i64 0)).run prog w=.ok (.int .u8 (a.toNat:Int)) w:=fun w=>by simp[Instr.index,run_underlying underlying9,asIntOf,go_sem];rfl
  clear hc ht hX;go_enter func39,ntmps39;go_wp2_with(go_at_call 67;refine(HK.out _).mono ?_;rintro e w1 ⟨rfl,rfl⟩);go_ret;refine⟨Zhu ?_,Zhq _ _⟩;first|exact h1|(simp only[h1];rfl)|simp[h1,bne]
structure RRd(w:World)(C Q:Nat)(A B E:Int)(v:World):Prop where
 bel:Below w.heap.size w v
 hC:w.heap.size<=C
 hQ:Q<C
 le:C<=v.heap.size
 g0:v.cell? ⟨Q,0,none⟩=some (.int .i64 A)
 g1:v.cell? ⟨Q,1,none⟩=some (.int .i64 B)
 g2:v.cell? ⟨Q,2,none⟩=some (.int .i64 E)
theorem RRd.next{w:World}{C Q:Nat}{A B E:Int}{v v':World}(h:RRd w C Q A B E v)(k:Below C v v'):RRd w C Q A B E v':=by
 have c1:∀ {a:Addr} {u:Value},a.block<C->v.cell? a=some u->v'.cell? a=some u:=fun ha hu=>(k.cell ha).trans hu;exact⟨h.bel.trans (k.mono h.hC),h.hC,h.hQ,Nat.le_trans h.le k.size,c1 h.hQ h.g0,c1 h.hQ h.g1,c1 h.hQ h.g2⟩
theorem Zahe(i:Ins)(w:World):Calls prog 66 #[insV i] w fun e w'=>∃v,e=.returned v/\w'.ownsRow w.heap.size 3 1 v (Zid i (rowP i.op)).length (i64s (Zid i (rowP i.op)))/\Below w.heap.size w w':=by
 rcases Zaak i.op (w.alloc (.cells #[.int .i64 i.op,.int .i64 i.d,.int .i64 i.a,.int .i64 i.b,.int .i64 i.c,.int .i64 i.n,.int .u32 i.bits] 45))with⟨hk,hc⟩|⟨hk,a,b,c,d,e,ht,hc⟩
 ·rw[Zsi i.op hk,show Zid i ⟨0,0,0,0,0⟩=[]from rfl];obtain⟨op,D,A,B,E,n,bt⟩:=i;unfold insV;simp only at hc hk ⊢;have HK:Hid (Calls prog 67 #[.int .i64 op] (w.alloc (.cells #[.int .i64 op,.int .i64 D,.int .i64 A,.int .i64 B,.int .i64 E,.int .i64 n,.int .u32 bt] 45)) fun e w'=>e=.returned (.tuple #[.string ⟨#[]⟩,.bool false])/\w'=w.alloc (.cells #[.int .i64 op,.int .i64 D,.int .i64 A,.int .i64 B,.int .i64 E,.int .i64 n,.int .u32 bt] 45)):=hc;clear hc;go_enter func66,ntmps66;go_wp2_with(go_at_call 67;refine HK.out.mono ?_;rintro e w1 ⟨rfl,rfl⟩)
  go_loopw [3,7] (fun lv iv wr=>lv=.slice none 0 0/\iv=.int .i64 0/\Below w.heap.size w wr) (fun _ iv _=>0)
  case atStart=>exact⟨rfl,rfl,bel (Zhq _ _) (Zhq _ _)⟩
  case round=>
   obtain⟨rfl,rfl,hb⟩:=hrel;go_wp2;go_ret;exact⟨_,rfl,World.ownsRow_nil _ _ _ 1,hb⟩
 ·rw[Zsl];have h1:=u8ne b _ ht.b;have h2:=u8ne c _ ht.c;have h3:=u8ne d _ ht.d;obtain⟨i0,hi0,hz0,hz1,hz3⟩:=info_parts Zoz;obtain⟨r,hr⟩:∃r,rowP i.op=r:=⟨_,rfl⟩
  rw[hr]at h1 h2 h3 ⊢;obtain⟨L0,L1,L2,L3,L4⟩:=r;obtain⟨op,D,A,B,E,n,bt⟩:=i;unfold insV;simp only at hc h1 h2 h3 ⊢;obtain⟨R,hR⟩:∃R,(rd1 L1 A++rd1 L2 B)++rd1 L3 E=R:=⟨_,rfl⟩
  rw[hR];have HR:Hid ((rd1 L1 A++rd1 L2 B)++rd1 L3 E=R):=hR;have HK:Hid (∀w,Calls prog 67 #[.int .i64 op] w fun x w'=>x=.returned (.tuple #[.string ⟨#[a,b,c,d,e]⟩,.bool true])/\w'=w):=hc;clear hc ht hr hR hk;go_enter func66,ntmps66;go_wp2_with(go_at_call 67;refine(HK.out _).mono ?_;rintro e w1 ⟨rfl,rfl⟩);have HF1:Hid (RRd w (w.heap.size+1+1) (w.heap.size+1) A B E ((w.alloc (.cells #[.int .i64 op,.int .i64 D,.int .i64 A,.int .i64 B,.int .i64 E,.int .i64 n,.int .u32 bt] 45)).alloc (.cells #[.int .i64 A,.int .i64 B,.int .i64 E] 3))):=
   ⟨bel (Zhq _ _) (Zhq _ _),oM,oM,sM,sG,sG,sG⟩
  obtain⟨W,hW⟩:∃W,(w.alloc (.cells #[.int .i64 op,.int .i64 D,.int .i64 A,.int .i64 B,.int .i64 E,.int .i64 n,.int .u32 bt] 45)).alloc (.cells #[.int .i64 A,.int .i64 B,.int .i64 E] 3)=W:=⟨_,rfl⟩
  rw[hW]at HF1 ⊢;obtain⟨Q,hQ⟩:∃Q,w.heap.size+1=Q:=⟨_,rfl⟩
  rw[hQ]at HF1;try rw[hQ]
  clear hW
  go_loopw [3,7] (fun lv iv wr=>RRd w (Q+1) Q A B E wr/\∃ (j:Nat) (l:List Int),j<=3/\iv=.int .i64 j/\l.length<=j/\Hid (wr.ownsRow (Q+1) 3 1 lv l.length (i64s l))/\Hid ((j=0->l=[])/\(j=1->l=rd1 L1 A)/\(j=2->l=rd1 L1 A++rd1 L2 B)/\(j=3->l=(rd1 L1 A++rd1 L2 B)++rd1 L3 E))) (fun _ iv _=>3-(intOf iv).toNat)
  case atStart=>exact⟨HF1.out,0,[],oM,rfl,sM,World.ownsRow_nil _ _ _ 1,⟨fun _=>rfl,fun h=>absurd h oM,fun h=>absurd h oM,fun h=>absurd h oM⟩⟩
  case round=>
   clear HF1 HK;obtain⟨hF,j,l,hj,rfl,hll,HO,HL⟩:=hrel;have HF:Hid (RRd w (Q+1) Q A B E wr):=hF;have hGw:=hF.le;have hn1:Q≠wr.heap.size:=oM;obtain rfl|rfl|rfl|rfl:j=0\/j=1\/j=2\/j=3:=oM
   ·have g0:=hF.g0;have f0:=kc (Zhq wr (.cells #[.int .i64 A] 3)) g0;have hl0:=HL.out.1 rfl;have ix:∀w,(Instr.index 9 (.string ⟨#[a,b,c,d,e]⟩) (.int .i64 1)).run prog w=.ok (.int .u8 (b.toNat:Int)) w:=fun w=>by simp[Instr.index,run_underlying underlying9,asIntOf,go_sem];rfl
    have hq:=h1;clear hF h1 h2 h3;by_cases hz:L1=0
    ·have hz':(!(L1==0))=false:=by simp[hz]
     rw[hz']at hq;have hq2:((b.toNat:Int)==45)=true:=by simpa[bne]using hq
     have HZ:Hid (L1=0):=hz;clear hz;go_wp2;go_roundw
     case rel=>exact⟨HF.out,1,l,oM,by first|rfl|go_num,oM,HO,⟨fun h=>absurd h oM,fun _=>by rw[hl0];unfold rd1;simp[HZ.out],fun h=>absurd h oM,fun h=>absurd h oM⟩⟩
     case measure=>simp[intOf]
    ·have hz':(!(L1==0))=true:=by simp[hz]
     rw[hz']at hq;have hq2:((b.toNat:Int)==45)=false:=by simpa[bne]using hq
     have HZ:Hid (¬L1=0):=hz;clear hz;go_wp2_with(first
      |(at_builtin;refine wpList_append_own_at _ rfl _ _ 82 rfl (Q+1) 3 i0 _ 1 8 underlying82 hi0 hz0 hz1 hz3 rfl dE _ l.length (i64s l) rfl (World.ownsRow.alloc HO.out _) ⟨wr.heap.size,0,none⟩ 1 1 [.int .i64 A] rfl rfl (World.news_of_block (cs:=#[.int .i64 A]) (t:=3) (fr:=(0,0)) (heap_alloc_new wr _)) Zfz mL oM sO ?_;intro v' w3 hown3 hgrow hnil hat;have HO3:Hid (w3.ownsRow (Q+1) 3 1 v' (l.length+1) (i64s l++[.int .i64 A])):=hown3;have HB3:Hid (Below (Q+1) wr w3):=(Below.alloc (Below.refl _ _) hGw _).grown hgrow sO (fun q e=>(HO.out.lt q e).1);clear hown3 hgrow hnil hat))
     go_roundw
     case rel=>exact⟨HF.out.next HB3.out,1,l++[A],oM,by first|rfl|go_num,sO,by show _;rw[List.length_append,Zma];exact HO3.out,⟨fun h=>absurd h oM,fun _=>by rw[hl0,show rd1 L1 A=[A]from if_neg HZ.out];try rfl,fun h=>absurd h oM,fun h=>absurd h oM⟩⟩
     case measure=>simp[intOf]
   ·have g0:=hF.g1;have f0:=kc (Zhq wr (.cells #[.int .i64 B] 3)) g0;have hl0:=HL.out.2.1 rfl;have ix:∀w,(Instr.index 9 (.string ⟨#[a,b,c,d,e]⟩) (.int .i64 2)).run prog w=.ok (.int .u8 (c.toNat:Int)) w:=fun w=>by simp[Instr.index,run_underlying underlying9,asIntOf,go_sem];rfl
    have hq:=h2;clear hF h1 h2 h3;by_cases hz:L2=0
    ·have hz':(!(L2==0))=false:=by simp[hz]
     rw[hz']at hq;have hq2:((c.toNat:Int)==45)=true:=by simpa[bne]using hq
     have HZ:Hid (L2=0):=hz;clear hz;go_wp2;go_roundw
     case rel=>exact⟨HF.out,2,l,oM,by first|rfl|go_num,oM,HO,⟨fun h=>absurd h oM,fun h=>absurd h oM,fun _=>by rw[hl0];unfold rd1;simp[HZ.out],fun h=>absurd h oM⟩⟩
     case measure=>simp[intOf]
    ·have hz':(!(L2==0))=true:=by simp[hz]
     rw[hz']at hq;have hq2:((c.toNat:Int)==45)=false:=by simpa[bne]using hq
     have HZ:Hid (¬L2=0):=hz;clear hz;go_wp2_with(first
      |(at_builtin;refine wpList_append_own_at _ rfl _ _ 82 rfl (Q+1) 3 i0 _ 1 8 underlying82 hi0 hz0 hz1 hz3 rfl dE _ l.length (i64s l) rfl (World.ownsRow.alloc HO.out _) ⟨wr.heap.size,0,none⟩ 1 1 [.int .i64 B] rfl rfl (World.news_of_block (cs:=#[.int .i64 B]) (t:=3) (fr:=(0,0)) (heap_alloc_new wr _)) Zfz mL oM sO ?_;intro v' w3 hown3 hgrow hnil hat;have HO3:Hid (w3.ownsRow (Q+1) 3 1 v' (l.length+1) (i64s l++[.int .i64 B])):=hown3;have HB3:Hid (Below (Q+1) wr w3):=(Below.alloc (Below.refl _ _) hGw _).grown hgrow sO (fun q e=>(HO.out.lt q e).1);clear hown3 hgrow hnil hat))
     go_roundw
     case rel=>exact⟨HF.out.next HB3.out,2,l++[B],oM,by first|rfl|go_num,sO,by show _;rw[List.length_append,Zma];exact HO3.out,⟨fun h=>absurd h oM,fun h=>absurd h oM,fun _=>by rw[hl0,show rd1 L2 B=[B]from if_neg HZ.out];try rfl,fun h=>absurd h oM⟩⟩
     case measure=>simp[intOf]
   ·have g0:=hF.g2;have f0:=kc (Zhq wr (.cells #[.int .i64 E] 3)) g0;have hl0:=HL.out.2.2.1 rfl;have ix:∀w,(Instr.index 9 (.string ⟨#[a,b,c,d,e]⟩) (.int .i64 3)).run prog w=.ok (.int .u8 (d.toNat:Int)) w:=fun w=>by simp[Instr.index,run_underlying underlying9,asIntOf,go_sem];rfl
    have hq:=h3;clear hF h1 h2 h3;by_cases hz:L3=0
    ·have hz':(!(L3==0))=false:=by simp[hz]
     rw[hz']at hq;have hq2:((d.toNat:Int)==45)=true:=by simpa[bne]using hq
     have HZ:Hid (L3=0):=hz;clear hz;go_wp2;go_roundw
     case rel=>exact⟨HF.out,3,l,oM,by first|rfl|go_num,oM,HO,⟨fun h=>absurd h oM,fun h=>absurd h oM,fun h=>absurd h oM,fun _=>by rw[hl0];unfold rd1;simp[HZ.out]⟩⟩
     case measure=>simp[intOf]
    ·have hz':(!(L3==0))=true:=by simp[hz]
     rw[hz']at hq;have hq2:((d.toNat:Int)==45)=false:=by simpa[bne]using hq
     have HZ:Hid (¬L3=0):=hz;clear hz;go_wp2_with(first
      |(at_builtin;refine wpList_append_own_at _ rfl _ _ 82 rfl (Q+1) 3 i0 _ 1 8 underlying82 hi0 hz0 hz1 hz3 rfl dE _ l.length (i64s l) rfl (World.ownsRow.alloc HO.out _) ⟨wr.heap.size,0,none⟩ 1 1 [.int .i64 E] rfl rfl (World.news_of_block (cs:=#[.int .i64 E]) (t:=3) (fr:=(0,0)) (heap_alloc_new wr _)) Zfz mL oM sO ?_;intro v' w3 hown3 hgrow hnil hat;have HO3:Hid (w3.ownsRow (Q+1) 3 1 v' (l.length+1) (i64s l++[.int .i64 E])):=hown3;have HB3:Hid (Below (Q+1) wr w3):=(Below.alloc (Below.refl _ _) hGw _).grown hgrow sO (fun q e=>(HO.out.lt q e).1);clear hown3 hgrow hnil hat))
     go_roundw
     case rel=>exact⟨HF.out.next HB3.out,3,l++[E],oM,by first|rfl|go_num,sO,by show _;rw[List.length_append,Zma];exact HO3.out,⟨fun h=>absurd h oM,fun h=>absurd h oM,fun h=>absurd h oM,fun _=>by rw[hl0,show rd1 L3 E=[E]from if_neg HZ.out];try rfl⟩⟩
     case measure=>simp[intOf]
   ·exact Zer
theorem Ztq(t:Ty)(p:Option Addr)(n c:Nat)(hn:n<=140737488351232)(w:World):Calls prog 35 #[tyV t,.slice p n c] w fun e w'=>e=.returned (.bool (Zil t n))/\Below w.heap.size w w':=by
 obtain⟨K,P⟩:=t;unfold Zil tyV isPl;simp only;by_cases h1:K=1
 ·subst h1;rw[if_pos (Or.inl rfl)];exact Zeq
 ·by_cases h2:K=2
  ·subst h2;rw[if_pos (Or.inr rfl)];exact Zeq
  ·rw[if_neg (fun e=>e.elim h1 h2)];have h1':(K==1)=false:=by simpa using h1
   have h2':(K==2)=false:=by simpa using h2
   by_cases h3:K=3
   ·subst h3;rw[if_pos rfl];by_cases h:0<=P
    all_goals
     go_enter func35,ntmps35;go_wp2;go_ret;exact⟨Zhu (by simp[h];try omega),Zhq _ _⟩
   ·rw[if_neg h3];have h3':(K==3)=false:=by simpa using h3
    clear h1 h2 h3;exact Zeq
theorem Zadv(v0 v1 v2 v3:Value)(c:Cd)(hk:CdOk c)(n:Int)(w:World)(hv:CdV w v0 v1 v2 v3 c):
 Calls prog 136 #[.agg #[v0,v1,v2,v3],.int .i64 n] w fun e w'=>e=.returned (.tuple #[tyV (regT c.regs n),.bool (isPl n c.regs.length)])/\Below w.heap.size w w':=by
 have HB:=hk.regsL;have hr:=hv.regs;obtain⟨p,q,rfl,hrr⟩:=hv.regs;clear hv hk;by_cases h0:0<=n
 ·by_cases h1:n<(c.regs.length:Int)
  ·obtain⟨k,rfl⟩:∃k:Nat,n=(k:Int):=⟨n.toNat,oM⟩
   have hk:k<c.regs.length:=oM;have e:regT c.regs (k:Int)=c.regs[k]:=Zox rfl hk;have e2:isPl (k:Int) c.regs.length=true:=Zlc.2 ⟨oM,oM⟩;rw[e,e2];obtain⟨lb,lo,rfl,hc⟩:=hr.at hk;obtain⟨⟨K,P⟩,ht⟩:∃t:Ty,c.regs[k]=t:=⟨_,rfl⟩
   rw[ht]at hc ⊢;have y0:w.cell? ⟨lb,lo+k*2,none⟩=some (.int .i64 K):=hc.at 0 rfl;have y1:w.cell? ⟨lb,lo+k*2+1,none⟩=some (.int .i64 P):=hc.at 1 rfl;have hlb:lb≠w.heap.size:=by have:=Zhr y0;simp only at this;omega
   obtain⟨N,hN⟩:∃N,c.regs.length=N:=⟨_,rfl⟩
   rw[hN]at hk HB ⊢;clear hr hrr hc ht e e2 h0 h1 hN;have g0:∀o o',((w.alloc o).alloc o').cell? ⟨lb,lo+k*2,none⟩=some (.int .i64 K):=fun o o'=>kc (bel (Zhq _ _) (Zhq _ _)) y0;have g1:∀o o',((w.alloc o).alloc o').cell? ⟨lb,lo+k*2+1,none⟩=some (.int .i64 P):=fun o o'=>kc (bel (Zhq _ _) (Zhq _ _)) y1;unfold tyV;go_enter func136,ntmps136;go_wp2;refine bodyPost_ret Zgn rfl ?_;exact Zcb
  ·have e2:isPl n c.regs.length=false:=by unfold isPl;simp;omega
   have e:regT c.regs n=⟨0,0⟩:=by unfold regT;rw[e2];rfl
   rw[e,e2];obtain⟨N,hN⟩:∃N,c.regs.length=N:=⟨_,rfl⟩
   rw[hN]at h1 HB ⊢;clear hr hrr e e2 hN;unfold tyV;go_enter func136,ntmps136;go_wp2;refine bodyPost_ret Zgn rfl ?_;exact Zcb
 ·have e2:isPl n c.regs.length=false:=by unfold isPl;simp;omega
  have e:regT c.regs n=⟨0,0⟩:=by unfold regT;rw[e2];rfl
  rw[e,e2];obtain⟨N,hN⟩:∃N,c.regs.length=N:=⟨_,rfl⟩
  rw[hN]at HB ⊢;clear hr hrr e e2 hN;unfold tyV;go_enter func136,ntmps136;go_wp2;refine bodyPost_ret Zgn rfl ?_;exact Zcb
def letR(b:Int)(t d:Ty):Bool:=
 if b=110 then t.kind==1 else if b=119 then t.kind==2 else if b=118 then t.kind==3 else if b=100 then t.kind==1||t.kind==3
 else if b=120 then t.kind==1||decide (t=d)else if b=99 then decide (t=d)||(t.kind==1&&d.kind==3)else true
def Zhz(rs:List Ty)(b n:Int)(d:Ty):Bool:=if b=45 then n==0 else isPl n rs.length&&letR b (regT rs n) d
theorem Zqn(v0 v1 v2 v3:Value)(c:Cd)(hk:CdOk c)(b n:Int)(d:Ty)(hb:b=45\/b=110\/b=119\/b=118\/b=100\/b=120\/b=99\/b=97)(w:World)(hv:CdV w v0 v1 v2 v3 c):
 Calls prog 104 #[.agg #[v0,v1,v2,v3],.int .u8 b,.int .i64 n,tyV d] w fun e w'=>e=.returned (.bool (Zhz c.regs b n d))/\Below w.heap.size w w':=by
 have KT:Hid (∀v,Below w.heap.size w v->Calls prog 136 #[.agg #[v0,v1,v2,v3],.int .i64 n] v fun e w'=>e=.returned (.tuple #[tyV (regT c.regs n),.bool (isPl n c.regs.length)])/\Below v.heap.size v w'):=fun v h=>Zadv v0 v1 v2 v3 c hk n v (hv.below h);unfold Zhz;obtain⟨X,hX⟩:∃X,isPl n c.regs.length=X:=⟨_,rfl⟩
 obtain⟨⟨K,P⟩,ht⟩:∃t:Ty,regT c.regs n=t:=⟨_,rfl⟩
 rw[hX,ht]at KT ⊢;clear hX ht hv hk;obtain⟨dk,dp⟩:=d;unfold tyV at KT ⊢;simp only at KT ⊢;by_cases h45:b=45
 ·subst h45;rw[if_pos rfl];go_enter func104,ntmps104;go_wp2;go_ret;exact Zcb
 ·rw[if_neg h45];have h45':(b==45)=false:=by simpa using h45
  cases X
  ·rw[Bool.false_and];clear hb h45;go_enter func104,ntmps104;go_wp2_with(go_at_call 136;(with_reducible refine(KT.out _ (bel (Zhq _ _) (Zhq _ _))).mono ?_);rintro e w1 ⟨rfl,hb1⟩;have f0:∀o,(w1.alloc o).cell? ⟨w.heap.size+1,0,none⟩=some (.int .i64 dk):=(fun o=>kc (bel hb1 (Zhq _ _)) sG);have f1:∀o,(w1.alloc o).cell? ⟨w.heap.size+1,1,none⟩=some (.int .i64 dp):=(fun o=>kc (bel hb1 (Zhq _ _)) sG);have HB1:Hid _:=hb1;clear hb1);go_ret;exact⟨rfl,bel (bel (Zhq _ _) (Zhq _ _)) (bel HB1.out (Zhq _ _))⟩
  ·rw[Bool.true_and];rcases hb with rfl|rfl|rfl|rfl|rfl|rfl|rfl|rfl
   ·exact absurd rfl h45
   all_goals clear h45 h45'
   all_goals
    cases h1:(K==1)
    all_goals
     by_cases hkd:K=dk
     ·subst hkd;by_cases hpd:P=dp
      ·subst hpd;go_enter func104,ntmps104;go_wp2_with(go_at_call 136;(with_reducible refine(KT.out _ (bel (Zhq _ _) (Zhq _ _))).mono ?_);rintro e w1 ⟨rfl,hb1⟩;have f0:∀o,(w1.alloc o).cell? ⟨w.heap.size+1,0,none⟩=some (.int .i64 K):=(fun o=>kc (bel hb1 (Zhq _ _)) sG);have f1:∀o,(w1.alloc o).cell? ⟨w.heap.size+1,1,none⟩=some (.int .i64 P):=(fun o=>kc (bel hb1 (Zhq _ _)) sG);have HB1:Hid _:=hb1;clear hb1);exact Zdl
      ·go_enter func104,ntmps104;go_wp2_with(go_at_call 136;(with_reducible refine(KT.out _ (bel (Zhq _ _) (Zhq _ _))).mono ?_);rintro e w1 ⟨rfl,hb1⟩;have f0:∀o,(w1.alloc o).cell? ⟨w.heap.size+1,0,none⟩=some (.int .i64 K):=(fun o=>kc (bel hb1 (Zhq _ _)) sG);have f1:∀o,(w1.alloc o).cell? ⟨w.heap.size+1,1,none⟩=some (.int .i64 dp):=(fun o=>kc (bel hb1 (Zhq _ _)) sG);have HB1:Hid _:=hb1;clear hb1);exact Zdl
     ·go_enter func104,ntmps104;go_wp2_with(go_at_call 136;(with_reducible refine(KT.out _ (bel (Zhq _ _) (Zhq _ _))).mono ?_);rintro e w1 ⟨rfl,hb1⟩;have f0:∀o,(w1.alloc o).cell? ⟨w.heap.size+1,0,none⟩=some (.int .i64 dk):=(fun o=>kc (bel hb1 (Zhq _ _)) sG);have f1:∀o,(w1.alloc o).cell? ⟨w.heap.size+1,1,none⟩=some (.int .i64 dp):=(fun o=>kc (bel hb1 (Zhq _ _)) sG);have HB1:Hid _:=hb1;clear hb1);exact Zdl
theorem Zyp(v0 v1 v2 v3:Value)(c:Cd)(hk:CdOk c)(n p:Int)(hp:n=1->isPl p c.sign.length=true)(w:World)(hv:CdV w v0 v1 v2 v3 c):
 Calls prog 105 #[.agg #[v0,v1,v2,v3],.int .i64 n,.int .i64 p] w fun e w'=>e=.returned (.bool (n==0||(n==1&&Zkv c.sign p==2)))/\Below w.heap.size w w':=by
 have HB:=hk.signL;by_cases h0:n=0
 ·subst h0;clear hp hv;go_enter func105,ntmps105;go_wp2;go_ret;exact⟨rfl,Zhq _ _⟩
 ·have h0':(n==0)=false:=by simpa using h0
  by_cases h1:n=1
  ·subst h1;obtain⟨k,rfl,hkl⟩:=Zly (hp rfl);have hr:=hv.sign;obtain⟨p,q,rfl,hrr⟩:=hv.sign;obtain⟨lb,lo,rfl,hc⟩:=hr.at hkl;have e:Zkv c.sign (k:Int)=c.sign[k].kind:=by unfold Zkv;rw[Int.toNat_natCast,List.getElem?_eq_getElem hkl];rfl
   rw[e];obtain⟨⟨nm,K,L⟩,ht⟩:∃t:Par,c.sign[k]=t:=⟨_,rfl⟩
   rw[ht]at hc ⊢;have y1:w.cell? ⟨lb,lo+k*3+1,none⟩=some (.int .i64 K):=hc.at 1 rfl;have g1:∀o,(w.alloc o).cell? ⟨lb,lo+k*3+1,none⟩=some (.int .i64 K):=fun o=>kc (Zhq _ _) y1;obtain⟨N,hN⟩:∃N,c.sign.length=N:=⟨_,rfl⟩
   rw[hN]at hkl HB ⊢;clear hr hrr hc ht e hp hv hN h0 hk;simp only;go_enter func105,ntmps105;go_wp2;go_ret;exact⟨Zhu sM,Zhq _ _⟩
  ·have h1':(n==1)=false:=by simpa using h1
   rw[h0',h1'];clear hp hv h0 h1;go_enter func105,ntmps105;go_wp2;go_ret;exact⟨rfl,Zhq _ _⟩
def vecN(i:Ins):Int:=if Zji i.op||(i.op==29||(i.op==30||i.op==32))then i.d else if i.op==31||i.op==33 then i.a else -1
def vecR(rs:List Ty)(n:Int):Int:=if isPl n rs.length&&(regT rs n).kind==3 then(regT rs n).par else -1
theorem Zadx(v0 v1 v2 v3:Value)(c:Cd)(hk:CdOk c)(i:Ins)(w:World)(hv:CdV w v0 v1 v2 v3 c):
 Calls prog 65 #[.agg #[v0,v1,v2,v3],insV i] w fun e w'=>e=.returned (.int .i64 (vecR c.regs (vecN i)))/\Below w.heap.size w w':=by
 have HB:=hk.regsL;have KE:Hid (∀v,Calls prog 106 #[.int .i64 i.op] v fun e w'=>e=.returned (.bool (Zji i.op))/\w'=v):=Zajg i.op;have hr:=hv.regs;obtain⟨p,q,rfl,hrr⟩:=hv.regs;clear hv hk hrr;obtain⟨op,D,A,B,E,nn,bb⟩:=i;unfold insV;simp only at KE ⊢;have key:∀n:Int,(isPl n c.regs.length=false/\vecR c.regs n= -1)\/∃ (k:Nat) (lb lo:Nat) (K P:Int),n=(k:Int)/\k<c.regs.length/\p=some ⟨lb,lo,none⟩/\w.cell? ⟨lb,lo+k*2,none⟩=some (.int .i64 K)/\w.cell? ⟨lb,lo+k*2+1,none⟩=some (.int .i64 P)/\vecR c.regs n=if K==3 then P else -1:=by
  intro n;cases h:isPl n c.regs.length
  ·exact .inl ⟨rfl,by unfold vecR;rw[h];rfl⟩
  ·obtain⟨k,rfl,hkl⟩:=Zly h;obtain⟨lb,lo,hp,hc⟩:=hr.at hkl;refine .inr ⟨k,lb,lo,c.regs[k].kind,c.regs[k].par,rfl,hkl,hp,hc.at 0 rfl,hc.at 1 rfl,?_⟩;unfold vecR;rw[h,Zox rfl hkl,Bool.true_and]
 obtain⟨N,hN⟩:∃N,c.regs.length=N:=⟨_,rfl⟩
 rw[hN]at HB key ⊢;clear hr;cases hX:Zji op
 ·rw[hX]at KE;by_cases a29:op=29
  ·subst a29;rw[show vecN ⟨29,D,A,B,E,nn,bb⟩=D from rfl];rcases key D with⟨hpl,e9⟩|⟨k,lb,lo,K,P,rfl,hkl,rfl,y0,y1,e9⟩
   ·rw[e9];clear key e9;by_cases h0:D<0
    ·exact Zag
    ·have h1:(N:Int)<=D:=by unfold isPl at hpl;simp at hpl;omega
     exact Zag
   ·rw[e9];clear key e9;have g0:∀o o',((w.alloc o).alloc o').cell? ⟨lb,lo+k*2,none⟩=some (.int .i64 K):=fun o o'=>kc (bel (Zhq _ _) (Zhq _ _)) y0;have g1:∀o o',((w.alloc o).alloc o').cell? ⟨lb,lo+k*2+1,none⟩=some (.int .i64 P):=fun o o'=>kc (bel (Zhq _ _) (Zhq _ _)) y1;by_cases h3:K=3
    ·subst h3;exact Zag
    ·have h3':(K==3)=false:=by simpa using h3
     have h3b:(K != 3)=true:=by simpa using h3
     rw[h3'];clear h3;exact Zag
  by_cases a30:op=30
  ·subst a30;rw[show vecN ⟨30,D,A,B,E,nn,bb⟩=D from rfl];rcases key D with⟨hpl,e9⟩|⟨k,lb,lo,K,P,rfl,hkl,rfl,y0,y1,e9⟩
   ·rw[e9];clear key e9;by_cases h0:D<0
    ·exact Zag
    ·have h1:(N:Int)<=D:=by unfold isPl at hpl;simp at hpl;omega
     exact Zag
   ·rw[e9];clear key e9;have g0:∀o o',((w.alloc o).alloc o').cell? ⟨lb,lo+k*2,none⟩=some (.int .i64 K):=fun o o'=>kc (bel (Zhq _ _) (Zhq _ _)) y0;have g1:∀o o',((w.alloc o).alloc o').cell? ⟨lb,lo+k*2+1,none⟩=some (.int .i64 P):=fun o o'=>kc (bel (Zhq _ _) (Zhq _ _)) y1;by_cases h3:K=3
    ·subst h3;exact Zag
    ·have h3':(K==3)=false:=by simpa using h3
     have h3b:(K != 3)=true:=by simpa using h3
     rw[h3'];clear h3;exact Zag
  by_cases a32:op=32
  ·subst a32;rw[show vecN ⟨32,D,A,B,E,nn,bb⟩=D from rfl];rcases key D with⟨hpl,e9⟩|⟨k,lb,lo,K,P,rfl,hkl,rfl,y0,y1,e9⟩
   ·rw[e9];clear key e9;by_cases h0:D<0
    ·exact Zag
    ·have h1:(N:Int)<=D:=by unfold isPl at hpl;simp at hpl;omega
     exact Zag
   ·rw[e9];clear key e9;have g0:∀o o',((w.alloc o).alloc o').cell? ⟨lb,lo+k*2,none⟩=some (.int .i64 K):=fun o o'=>kc (bel (Zhq _ _) (Zhq _ _)) y0;have g1:∀o o',((w.alloc o).alloc o').cell? ⟨lb,lo+k*2+1,none⟩=some (.int .i64 P):=fun o o'=>kc (bel (Zhq _ _) (Zhq _ _)) y1;by_cases h3:K=3
    ·subst h3;exact Zag
    ·have h3':(K==3)=false:=by simpa using h3
     have h3b:(K != 3)=true:=by simpa using h3
     rw[h3'];clear h3;exact Zag
  by_cases a31:op=31
  ·subst a31;rw[show vecN ⟨31,D,A,B,E,nn,bb⟩=A from rfl];rcases key A with⟨hpl,e9⟩|⟨k,lb,lo,K,P,rfl,hkl,rfl,y0,y1,e9⟩
   ·rw[e9];clear key e9;by_cases h0:A<0
    ·exact Zag
    ·have h1:(N:Int)<=A:=by unfold isPl at hpl;simp at hpl;omega
     exact Zag
   ·rw[e9];clear key e9;have g0:∀o o',((w.alloc o).alloc o').cell? ⟨lb,lo+k*2,none⟩=some (.int .i64 K):=fun o o'=>kc (bel (Zhq _ _) (Zhq _ _)) y0;have g1:∀o o',((w.alloc o).alloc o').cell? ⟨lb,lo+k*2+1,none⟩=some (.int .i64 P):=fun o o'=>kc (bel (Zhq _ _) (Zhq _ _)) y1;by_cases h3:K=3
    ·subst h3;exact Zag
    ·have h3':(K==3)=false:=by simpa using h3
     have h3b:(K != 3)=true:=by simpa using h3
     rw[h3'];clear h3;exact Zag
  by_cases a33:op=33
  ·subst a33;rw[show vecN ⟨33,D,A,B,E,nn,bb⟩=A from rfl];rcases key A with⟨hpl,e9⟩|⟨k,lb,lo,K,P,rfl,hkl,rfl,y0,y1,e9⟩
   ·rw[e9];clear key e9;by_cases h0:A<0
    ·exact Zag
    ·have h1:(N:Int)<=A:=by unfold isPl at hpl;simp at hpl;omega
     exact Zag
   ·rw[e9];clear key e9;have g0:∀o o',((w.alloc o).alloc o').cell? ⟨lb,lo+k*2,none⟩=some (.int .i64 K):=fun o o'=>kc (bel (Zhq _ _) (Zhq _ _)) y0;have g1:∀o o',((w.alloc o).alloc o').cell? ⟨lb,lo+k*2+1,none⟩=some (.int .i64 P):=fun o o'=>kc (bel (Zhq _ _) (Zhq _ _)) y1;by_cases h3:K=3
    ·subst h3;exact Zag
    ·have h3':(K==3)=false:=by simpa using h3
     have h3b:(K != 3)=true:=by simpa using h3
     rw[h3'];clear h3;exact Zag
  ·have b29:(op==29)=false:=by simpa using a29
   have b30:(op==30)=false:=by simpa using a30
   have b31:(op==31)=false:=by simpa using a31
   have b32:(op==32)=false:=by simpa using a32
   have b33:(op==33)=false:=by simpa using a33
   rw[show vecN ⟨op,D,A,B,E,nn,bb⟩= -1 by unfold vecN;simp[hX,b29,b30,b31,b32,b33]];rw[show vecR c.regs (-1)= -1 by unfold vecR isPl;simp];clear key a29 a30 a31 a32 a33;exact Zag
 ·rw[hX]at KE;rw[show vecN ⟨op,D,A,B,E,nn,bb⟩=D by unfold vecN;simp[hX]];rcases key D with⟨hpl,e9⟩|⟨k,lb,lo,K,P,rfl,hkl,rfl,y0,y1,e9⟩
  ·rw[e9];clear key e9;by_cases h0:D<0
   ·exact Zag
   ·have h1:(N:Int)<=D:=by unfold isPl at hpl;simp at hpl;omega
    exact Zag
  ·rw[e9];clear key e9;have g0:∀o o',((w.alloc o).alloc o').cell? ⟨lb,lo+k*2,none⟩=some (.int .i64 K):=fun o o'=>kc (bel (Zhq _ _) (Zhq _ _)) y0;have g1:∀o o',((w.alloc o).alloc o').cell? ⟨lb,lo+k*2+1,none⟩=some (.int .i64 P):=fun o o'=>kc (bel (Zhq _ _) (Zhq _ _)) y1;by_cases h3:K=3
   ·subst h3;exact Zag
   ·have h3':(K==3)=false:=by simpa using h3
    have h3b:(K != 3)=true:=by simpa using h3
    rw[h3'];clear h3;exact Zag
end Go.Proofs.YtbinohkcolcbfaaGreat
