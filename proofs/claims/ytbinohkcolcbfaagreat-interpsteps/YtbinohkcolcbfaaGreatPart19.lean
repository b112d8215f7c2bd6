import Derived.Test.YtbinohkcolcbfaaGreatPart1
import Derived.Test.YtbinohkcolcbfaaGreatPart18
import Derived.Test.YtbinohkcolcbfaaGreatPart17
import Derived.Test.YtbinohkcolcbfaaGreatPart16
import Derived.Deep.RegionHeld3
import Derived.Laws.EntriesVeiled
namespace Go.Proofs.YtbinohkcolcbfaaGreat
open Go.RowKit Go.Proofs.Tryz
set_option linter.unusedVariables false
set_option linter.unusedSimpArgs false
set_option maxRecDepth 100000
set_option maxHeartbeats 16000000
theorem whole_2(w:World)(FR WB N ib io A B:Nat)(ya yb nn:Int)(hN:N<=16384)(hA:A<N)(hB:B<N)(pa:0<=ya/\ya<=2147483647)(pb:0<=yb/\yb<=2147483647)
 (f3:w.cell? ⟨FR,3,none⟩=some (.slice (some ⟨WB,0,none⟩) N N)) (i0:w.cell? ⟨ib,io,none⟩=some (.int .i64 2)) (i2:w.cell? ⟨ib,io+2,none⟩=some (.int .i64 (A:Int))) (i3:w.cell? ⟨ib,io+3,none⟩=some (.int .i64 (B:Int))) (k1:w.cell? ⟨WB,A,none⟩=some (.int .i64 ya)) (k2:w.cell? ⟨WB,B,none⟩=some (.int .i64 yb)) (i5:w.cell? ⟨ib,io+5,none⟩=some (.int .i64 nn)):
 Calls prog 71 #[.pointer (some ⟨FR,0,none⟩),.pointer (some ⟨ib,io,none⟩)] w fun e w'=>e=.returned (.int .i64 nn)/\Below w.heap.size w w':=by
 go_enter func71,ntmps71;go_wp2;refine rG (fun v=>v.cell? ⟨FR,3,none⟩=some (.slice (some ⟨WB,0,none⟩) N N)/\v.cell? ⟨ib,io+2,none⟩=some (.int .i64 (A:Int))/\v.cell? ⟨WB,A,none⟩=some (.int .i64 ya)/\v.cell? ⟨ib,io+3,none⟩=some (.int .i64 (B:Int))/\v.cell? ⟨WB,B,none⟩=some (.int .i64 yb)) fun hHeld=>?_;refine Tf 0 1 2 3 4 5 ?_;refine Tf 6 7 8 9 10 11 ?_;refine Tf 12 13 14 15 16 17 ?_;refine Tc 18 19 20 ?_;refine tkT 21 ?_;refine wpAnyH_done kR ?_ _;go_wp2;go_ret;exact⟨rfl,Zht _⟩
theorem Zant(w:World)(FR WB N ib io A B:Nat)(ya yb nn:Int)(NB:Nat)(yn:Int)(pn:IsP yn)(hN:N<=16384)(hA:A<N)(hB:B<N)(pa:0<=ya/\ya<=2147483647)(pb:0<=yb/\yb<=2147483647)
 (f3:w.cell? ⟨FR,3,none⟩=some (.slice (some ⟨WB,0,none⟩) N N)) (i0:w.cell? ⟨ib,io,none⟩=some (.int .i64 18)) (i2:w.cell? ⟨ib,io+2,none⟩=some (.int .i64 (A:Int))) (i3:w.cell? ⟨ib,io+3,none⟩=some (.int .i64 (B:Int))) (k1:w.cell? ⟨WB,A,none⟩=some (.int .i64 ya)) (k2:w.cell? ⟨WB,B,none⟩=some (.int .i64 yb)) (f2:w.cell? ⟨FR,2,none⟩=some (.slice (some ⟨NB,0,none⟩) N N)) (k0:w.cell? ⟨NB,A,none⟩=some (.int .u32 yn)):
 Calls prog 71 #[.pointer (some ⟨FR,0,none⟩),.pointer (some ⟨ib,io,none⟩)] w fun e w'=>e=.returned (.int .i64 (Zja (fsel yn 1065353216 0==1065353216)))/\Below w.heap.size w w':=by
 have HP:Hid (IsP yn):=pn;clear pn;go_enter func71,ntmps71;go_wp2;refine rG (fun v=>v.cell? ⟨FR,3,none⟩=some (.slice (some ⟨WB,0,none⟩) N N)/\v.cell? ⟨ib,io+2,none⟩=some (.int .i64 (A:Int))/\v.cell? ⟨WB,A,none⟩=some (.int .i64 ya)/\v.cell? ⟨ib,io+3,none⟩=some (.int .i64 (B:Int))/\v.cell? ⟨WB,B,none⟩=some (.int .i64 yb)) fun hHeld=>?_;refine Tf 0 1 2 3 4 5 ?_;refine Tf 6 7 8 9 10 11 ?_;refine Tf 12 13 14 15 16 17 ?_;refine Tc 18 19 20 ?_;refine tkT 21 ?_;refine wpAnyH_done kR ?_ _;go_wp2;refine rG (fun v=>v.cell? ⟨FR,2,none⟩=some (.slice (some ⟨NB,0,none⟩) N N)/\v.cell? ⟨ib,io+2,none⟩=some (.int .i64 (A:Int))/\v.cell? ⟨NB,A,none⟩=some (.int .u32 yn)) fun hHeld=>?_;refine Tf 0 1 2 3 4 5 ?_;refine Tc 6 7 8 ?_;refine tkT 9 ?_;clear hHeld;refine ry1 10 fun K hK=>?_;go_simp;(go_at_call 114;refine(Zamw _ HP.out _).mono ?_;rintro e w1 ⟨rfl,hw'⟩;obtain rfl:=hw'.symm);try(go_wp2_with fail)
 refine okK hK fun hHeld=>?_;clear hK K;clear hHeld;refine ry1 11 fun K hK=>?_;go_simp;(go_at_call 113;refine(Zvq _ _).mono ?_;rintro e w1 ⟨rfl,hw'⟩;obtain rfl:=hw'.symm);try(go_wp2_with fail)
 refine okK hK fun hHeld=>?_;clear hK K;refine tkT 12 ?_;refine wpAnyH_done kR ?_ _;go_wp2;go_ret;exact⟨rfl,bel (Zht _) (Zht _)⟩
theorem Zaoh(w:World)(FR WB N ib io A B:Nat)(ya yb nn:Int)(hN:N<=16384)(hA:A<N)(hB:B<N)(pa:0<=ya/\ya<=2147483647)(pb:0<=yb/\yb<=2147483647)
 (f3:w.cell? ⟨FR,3,none⟩=some (.slice (some ⟨WB,0,none⟩) N N)) (i0:w.cell? ⟨ib,io,none⟩=some (.int .i64 22)) (i2:w.cell? ⟨ib,io+2,none⟩=some (.int .i64 (A:Int))) (i3:w.cell? ⟨ib,io+3,none⟩=some (.int .i64 (B:Int))) (k1:w.cell? ⟨WB,A,none⟩=some (.int .i64 ya)) (k2:w.cell? ⟨WB,B,none⟩=some (.int .i64 yb)):
 Calls prog 71 #[.pointer (some ⟨FR,0,none⟩),.pointer (some ⟨ib,io,none⟩)] w fun e w'=>e=.returned (.int .i64 (Zja (decide (ya<yb))))/\Below w.heap.size w w':=by
 exact Zao
theorem Zard(w:World)(FR WB N ib io A B:Nat)(ya yb nn:Int)(hN:N<=16384)(hA:A<N)(hB:B<N)(pa:0<=ya/\ya<=2147483647)(pb:0<=yb/\yb<=2147483647)
 (f3:w.cell? ⟨FR,3,none⟩=some (.slice (some ⟨WB,0,none⟩) N N)) (i0:w.cell? ⟨ib,io,none⟩=some (.int .i64 23)) (i2:w.cell? ⟨ib,io+2,none⟩=some (.int .i64 (A:Int))) (i3:w.cell? ⟨ib,io+3,none⟩=some (.int .i64 (B:Int))) (k1:w.cell? ⟨WB,A,none⟩=some (.int .i64 ya)) (k2:w.cell? ⟨WB,B,none⟩=some (.int .i64 yb)):
 Calls prog 71 #[.pointer (some ⟨FR,0,none⟩),.pointer (some ⟨ib,io,none⟩)] w fun e w'=>e=.returned (.int .i64 (Zja (ya==yb)))/\Below w.heap.size w w':=by
 exact Zao
theorem Zaox(w:World)(FR WB N ib io A B:Nat)(ya yb nn:Int)(hN:N<=16384)(hA:A<N)(hB:B<N)(pa:0<=ya/\ya<=2147483647)(pb:0<=yb/\yb<=2147483647)
 (f3:w.cell? ⟨FR,3,none⟩=some (.slice (some ⟨WB,0,none⟩) N N)) (i0:w.cell? ⟨ib,io,none⟩=some (.int .i64 25)) (i2:w.cell? ⟨ib,io+2,none⟩=some (.int .i64 (A:Int))) (i3:w.cell? ⟨ib,io+3,none⟩=some (.int .i64 (B:Int))) (k1:w.cell? ⟨WB,A,none⟩=some (.int .i64 ya)) (k2:w.cell? ⟨WB,B,none⟩=some (.int .i64 yb)):
 Calls prog 71 #[.pointer (some ⟨FR,0,none⟩),.pointer (some ⟨ib,io,none⟩)] w fun e w'=>e=.returned (.int .i64 (Zja (ya==0)))/\Below w.heap.size w w':=by
 exact Zao
theorem Zanx(w:World)(FR WB N ib io A B:Nat)(ya yb nn:Int)(hN:N<=16384)(hA:A<N)(hB:B<N)(pa:0<=ya/\ya<=2147483647)(pb:0<=yb/\yb<=2147483647)
 (f3:w.cell? ⟨FR,3,none⟩=some (.slice (some ⟨WB,0,none⟩) N N)) (i0:w.cell? ⟨ib,io,none⟩=some (.int .i64 24)) (i2:w.cell? ⟨ib,io+2,none⟩=some (.int .i64 (A:Int))) (i3:w.cell? ⟨ib,io+3,none⟩=some (.int .i64 (B:Int))) (k1:w.cell? ⟨WB,A,none⟩=some (.int .i64 ya)) (k2:w.cell? ⟨WB,B,none⟩=some (.int .i64 yb)):
 Calls prog 71 #[.pointer (some ⟨FR,0,none⟩),.pointer (some ⟨ib,io,none⟩)] w fun e w'=>e=.returned (.int .i64 (Zja (ya != 0&&yb != 0)))/\Below w.heap.size w w':=by
 by_cases hz:ya=0
 ·have e1:(ya != 0)=false:=by simpa using hz
  have e2:(ya==0)=true:=by simpa using hz
  rw[e1,Bool.false_and];clear hz;exact Zao
 ·have e1:(ya != 0)=true:=by simpa using hz
  have e2:(ya==0)=false:=by simpa using hz
  rw[e1,Bool.true_and];clear hz;exact Zao
theorem Zanc(w:World)(FR WB N ib io A B:Nat)(ya yb nn:Int)(hN:N<=16384)(hA:A<N)(hB:B<N)(pa:0<=ya/\ya<=2147483647)(pb:0<=yb/\yb<=2147483647)
 (f3:w.cell? ⟨FR,3,none⟩=some (.slice (some ⟨WB,0,none⟩) N N)) (i0:w.cell? ⟨ib,io,none⟩=some (.int .i64 21)) (i2:w.cell? ⟨ib,io+2,none⟩=some (.int .i64 (A:Int))) (i3:w.cell? ⟨ib,io+3,none⟩=some (.int .i64 (B:Int))) (k1:w.cell? ⟨WB,A,none⟩=some (.int .i64 ya)) (k2:w.cell? ⟨WB,B,none⟩=some (.int .i64 yb)):
 Calls prog 71 #[.pointer (some ⟨FR,0,none⟩),.pointer (some ⟨ib,io,none⟩)] w fun e w'=>e=.returned (.int .i64 (min ya 2147483646+1))/\Below w.heap.size w w':=by
 by_cases hz:ya<=2147483646
 ·have e1:min ya 2147483646=ya:=oM;have e2:IntKind.i64.wrap (ya+1)=ya+1:=by rw[IntKind.wrap_i64];omega
  exact Zay
 ·have e1:min ya 2147483646=2147483646:=oM;have e3:2147483646<ya:=oM;exact Zay
theorem Zaqx(w:World)(FR WB N ib io A B:Nat)(ya yb nn:Int)(Cc:Nat)(yc:Int)(hC:Cc<N)(hN:N<=16384)(hA:A<N)(hB:B<N)(pa:0<=ya/\ya<=2147483647)(pb:0<=yb/\yb<=2147483647)
 (f3:w.cell? ⟨FR,3,none⟩=some (.slice (some ⟨WB,0,none⟩) N N)) (i0:w.cell? ⟨ib,io,none⟩=some (.int .i64 26)) (i2:w.cell? ⟨ib,io+2,none⟩=some (.int .i64 (A:Int))) (i3:w.cell? ⟨ib,io+3,none⟩=some (.int .i64 (B:Int))) (k1:w.cell? ⟨WB,A,none⟩=some (.int .i64 ya)) (k2:w.cell? ⟨WB,B,none⟩=some (.int .i64 yb)) (i4:w.cell? ⟨ib,io+4,none⟩=some (.int .i64 (Cc:Int))) (k3:w.cell? ⟨WB,Cc,none⟩=some (.int .i64 yc)):
 Calls prog 71 #[.pointer (some ⟨FR,0,none⟩),.pointer (some ⟨ib,io,none⟩)] w fun e w'=>e=.returned (.int .i64 (if ya=0 then yc else yb))/\Below w.heap.size w w':=by
 have KC:=fun w=>Zaix ya yb yc w;obtain⟨R,hR⟩:∃R,(if ya=0 then yc else yb)=R:=⟨_,rfl⟩
 simp only[hR]at KC ⊢;have HKC:Hid (∀w,Calls prog 115 #[.int .i64 ya,.int .i64 yb,.int .i64 yc] w fun e w'=>e=.returned (.int .i64 R)/\w'=w):=KC;clear KC hR;go_enter func71,ntmps71;go_wp2;refine rG (fun v=>v.cell? ⟨FR,3,none⟩=some (.slice (some ⟨WB,0,none⟩) N N)/\v.cell? ⟨ib,io+2,none⟩=some (.int .i64 (A:Int))/\v.cell? ⟨WB,A,none⟩=some (.int .i64 ya)/\v.cell? ⟨ib,io+3,none⟩=some (.int .i64 (B:Int))/\v.cell? ⟨WB,B,none⟩=some (.int .i64 yb)) fun hHeld=>?_;refine Tf 0 1 2 3 4 5 ?_;refine Tf 6 7 8 9 10 11 ?_;refine Tf 12 13 14 15 16 17 ?_;refine Tc 18 19 20 ?_;refine tkT 21 ?_;refine wpAnyH_done kR ?_ _;go_wp2;refine rG (fun v=>v.cell? ⟨FR,3,none⟩=some (.slice (some ⟨WB,0,none⟩) N N)/\v.cell? ⟨ib,io+4,none⟩=some (.int .i64 (Cc:Int))/\v.cell? ⟨WB,Cc,none⟩=some (.int .i64 yc)) fun hHeld=>?_;refine Tf 0 1 2 3 4 5 ?_;refine Tf 6 7 8 9 10 11 ?_;clear hHeld;refine ry1 12 fun K hK=>?_;go_simp;(go_at_call 115;refine(HKC.out _).mono ?_;rintro e w1 ⟨rfl,hw'⟩;obtain rfl:=hw'.symm);try(go_wp2_with fail)
 refine okK hK fun hHeld=>?_;clear hK K;refine tkT 13 ?_;refine wpAnyH_done kR ?_ _;go_wp2;go_ret;exact⟨rfl,bel (Zht _) (Zht _)⟩
theorem Zapm(w:World)(FR WB N ib io A B:Nat)(ya yb nn:Int)(hN:N<=16384)(hA:A<N)(hB:B<N)(pa:0<=ya/\ya<=2147483647)(pb:0<=yb/\yb<=2147483647)
 (f3:w.cell? ⟨FR,3,none⟩=some (.slice (some ⟨WB,0,none⟩) N N)) (i0:w.cell? ⟨ib,io,none⟩=some (.int .i64 27)) (i2:w.cell? ⟨ib,io+2,none⟩=some (.int .i64 (A:Int))) (i3:w.cell? ⟨ib,io+3,none⟩=some (.int .i64 (B:Int))) (k1:w.cell? ⟨WB,A,none⟩=some (.int .i64 ya)) (k2:w.cell? ⟨WB,B,none⟩=some (.int .i64 yb)):
 Calls prog 71 #[.pointer (some ⟨FR,0,none⟩),.pointer (some ⟨ib,io,none⟩)] w fun e w'=>e=.returned (.int .i64 (max (ya-yb) 0))/\Below w.heap.size w w':=by
 have e0:IntKind.i64.wrap (ya-yb)=ya-yb:=by rw[IntKind.wrap_i64];omega
 by_cases hz:ya<=yb
 ·have e1:max (ya-yb) 0=0:=oM;exact Zay
 ·have e1:max (ya-yb) 0=ya-yb:=oM;exact Zay
theorem Zaru(w:World)(FR WB N ib io A B:Nat)(ya yb nn:Int)(hN:N<=16384)(hA:A<N)(hB:B<N)(pa:0<=ya/\ya<=2147483647)(pb:0<=yb/\yb<=2147483647)
 (f3:w.cell? ⟨FR,3,none⟩=some (.slice (some ⟨WB,0,none⟩) N N)) (i0:w.cell? ⟨ib,io,none⟩=some (.int .i64 28)) (i2:w.cell? ⟨ib,io+2,none⟩=some (.int .i64 (A:Int))) (i3:w.cell? ⟨ib,io+3,none⟩=some (.int .i64 (B:Int))) (k1:w.cell? ⟨WB,A,none⟩=some (.int .i64 ya)) (k2:w.cell? ⟨WB,B,none⟩=some (.int .i64 yb)):
 Calls prog 71 #[.pointer (some ⟨FR,0,none⟩),.pointer (some ⟨ib,io,none⟩)] w fun e w'=>e=.returned (.int .i64 (if yb=0 then 0 else ya/yb))/\Below w.heap.size w w':=by
 have KC:=fun w=>Zaoe ya yb pa pb w;obtain⟨R,hR⟩:∃R,(if yb=0 then 0 else ya/yb)=R:=⟨_,rfl⟩
 simp only[hR]at KC ⊢;have HKC:Hid (∀w,Calls prog 116 #[.int .i64 ya,.int .i64 yb] w fun e w'=>e=.returned (.int .i64 R)/\w'=w):=KC;clear KC hR;go_enter func71,ntmps71;go_wp2;refine rG (fun v=>v.cell? ⟨FR,3,none⟩=some (.slice (some ⟨WB,0,none⟩) N N)/\v.cell? ⟨ib,io+2,none⟩=some (.int .i64 (A:Int))/\v.cell? ⟨WB,A,none⟩=some (.int .i64 ya)/\v.cell? ⟨ib,io+3,none⟩=some (.int .i64 (B:Int))/\v.cell? ⟨WB,B,none⟩=some (.int .i64 yb)) fun hHeld=>?_;refine Tf 0 1 2 3 4 5 ?_;refine Tf 6 7 8 9 10 11 ?_;refine Tf 12 13 14 15 16 17 ?_;refine Tc 18 19 20 ?_;refine tkT 21 ?_;refine wpAnyH_done kR ?_ _;go_wp2_with(go_at_call 116;refine(HKC.out _).mono ?_;rintro e w1 ⟨rfl,hw'⟩;obtain rfl:=hw'.symm);go_ret;exact⟨rfl,Zht _⟩
theorem Zalp{T:Nat->Prop}{E E':Nat}{a:Lay}{c:Cd}{G P:List (List Int)}{X:Nat->Value}{M:Nat}{m:Nat->Option Value}{f:Fr}(w:World)(x:FX T E E' a c G P w)(h:FV T E E' a c w X M m f)(hg:Good c)(ok:OkF c f)(ib io:Nat)(i:Ins)(hi:Zhw w ib io (inC i))
 (hop:Zjv i.op=true) (ha:0<=i.a/\i.a<(c.regs.length:Int)) (hb:0<=i.b/\i.b<(c.regs.length:Int)) (hc:0<=i.c/\i.c<(c.regs.length:Int)):
 Calls prog 71 #[.pointer (some ⟨a.FR,0,none⟩),.pointer (some ⟨ib,io,none⟩)] w fun e w'=>e=.returned (.int .i64 (Zmt f i))/\Below w.heap.size w w':=by
 have i0:=hi.at 0 rfl;rw[Nat.add_zero]at i0;have i2:=hi.at 2 rfl;have i3:=hi.at 3 rfl;have i4:=hi.at 4 rfl;have i5:=hi.at 5 rfl;have f2:=x.f2;have f3:=x.f3;have hN:=hg.regsL;obtain⟨op,D,A,B,Ec,nn,bt⟩:=i;simp only at i0 i2 i3 i4 i5 hop ha hb hc;obtain⟨A,rfl⟩:∃j:Nat,A=(j:Int):=⟨A.toNat,oM⟩
 obtain⟨B,rfl⟩:∃j:Nat,B=(j:Int):=⟨B.toNat,oM⟩
 obtain⟨Ec,rfl⟩:∃j:Nat,Ec=(j:Int):=⟨Ec.toNat,oM⟩
 have hA:A<c.regs.length:=oM;have hB:B<c.regs.length:=oM;have hC:Ec<c.regs.length:=oM;have k0:=h.nums.cell hA;have k1:=h.whs.cell hA;have k2:=h.whs.cell hB;have k3:=h.whs.cell hC;unfold Zjv at hop;simp only[Bool.or_eq_true,Bool.and_eq_true,beq_iff_eq,decide_eq_true_eq]at hop;have hop':op=2\/op=18\/op=21\/op=22\/op=23\/op=24\/op=25\/op=26\/op=27\/op=28:=oM;rcases hop' with rfl|rfl|rfl|rfl|rfl|rfl|rfl|rfl|rfl|rfl
 ·exact whole_2 w _ _ _ ib io A B _ _ nn hN hA hB (ok.whs A) (ok.whs B) f3 i0 i2 i3 k1 k2 i5
 ·exact Zant w _ _ _ ib io A B _ _ nn _ _ (ok.nums A) hN hA hB (ok.whs A) (ok.whs B) f3 i0 i2 i3 k1 k2 f2 k0
 ·exact Zanc w _ _ _ ib io A B _ _ nn hN hA hB (ok.whs A) (ok.whs B) f3 i0 i2 i3 k1 k2
 ·exact Zaoh w _ _ _ ib io A B _ _ nn hN hA hB (ok.whs A) (ok.whs B) f3 i0 i2 i3 k1 k2
 ·exact Zard w _ _ _ ib io A B _ _ nn hN hA hB (ok.whs A) (ok.whs B) f3 i0 i2 i3 k1 k2
 ·exact Zanx w _ _ _ ib io A B _ _ nn hN hA hB (ok.whs A) (ok.whs B) f3 i0 i2 i3 k1 k2
 ·exact Zaox w _ _ _ ib io A B _ _ nn hN hA hB (ok.whs A) (ok.whs B) f3 i0 i2 i3 k1 k2
 ·exact Zaqx w _ _ _ ib io A B _ _ nn Ec _ hC hN hA hB (ok.whs A) (ok.whs B) f3 i0 i2 i3 k1 k2 i4 k3
 ·exact Zapm w _ _ _ ib io A B _ _ nn hN hA hB (ok.whs A) (ok.whs B) f3 i0 i2 i3 k1 k2
 ·exact Zaru w _ _ _ ib io A B _ _ nn hN hA hB (ok.whs A) (ok.whs B) f3 i0 i2 i3 k1 k2
structure FitV(c:Cd)(L:List (List Int)):Prop where
 len:L.length=c.sign.length
 each:∀p (h:p<L.length),(L[p]).length=Zje c p
 isP:∀l∈L,∀y∈l,IsP y
theorem Zot{c:Cd}(hg:Good c){p:Nat}(h:p<c.sign.length):Zje c p=Zia c p*lenOf c p/\lenOf c p=c.sign[p].len.toNat/\1<=c.sign[p].len/\c.sign[p].len<=4096/\(Zia c p=1\/Zia c p=2):=by
 have h1:=hg.len c.sign[p] (List.getElem_mem h);have h2:=hg.kind c.sign[p] (List.getElem_mem h);have e1:lenOf c (p:Int)=c.sign[p].len.toNat:=by unfold lenOf;simp[h]
 have e2:Zia c (p:Int)=if c.sign[p].kind=2 then 2 else 1:=by unfold Zia Zkv;simp[h]
 refine⟨?_,e1,h1.1,h1.2,?_⟩
 ·unfold Zje;rw[e1,e2];simp only[List.getElem?_eq_getElem h,Option.elim_some];unfold numL numP;rw[h2];simp only[if_true,beq_iff_eq];split<;>omega
 ·rw[e2];split<;>simp
theorem Zame(w:World)(FR C b1 o1 m1 N b0 o0 m0 Ns D p vb vo vm qb qo cap Lq K n Ln ib io:Nat)(V:Nat->Int)(hV:∀j,IsP (V j))(hN:N<=16384)(hNs:Ns<=64)(hD:D<N)(hp:p<Ns)(hLn:Ln<=4096)(hL1:1<=Ln)(hK:K=1\/K=2)(hn:n<K)(hLq:Lq=K*Ln)
 (f0:w.cell? ⟨FR,0,none⟩=some (.pointer (some ⟨C,0,none⟩))) (c0:w.cell? ⟨C,0,none⟩=some (.slice (some ⟨b0,o0,none⟩) Ns m0)) (c1:w.cell? ⟨C,1,none⟩=some (.slice (some ⟨b1,o1,none⟩) N m1))
 (r1:w.cell? ⟨b1,o1+D*2+1,none⟩=some (.int .i64 (p:Int))) (s2:w.cell? ⟨b0,o0+p*3+2,none⟩=some (.int .i64 (Ln:Int)))
 (i1:w.cell? ⟨ib,io+1,none⟩=some (.int .i64 (D:Int))) (i5:w.cell? ⟨ib,io+5,none⟩=some (.int .i64 (n:Int)))
 (v1:w.cell? ⟨vb,vo+p,none⟩=some (.slice (some ⟨qb,qo,none⟩) Lq cap)) (hq:∀j,j<Lq->w.cell? ⟨qb,qo+j,none⟩=some (.int .u32 (V j)))
 (KA:Hid (∀v,Below w.heap.size w v->Calls prog 117 #[.pointer (some ⟨FR,0,none⟩),.int .i64 (p:Int)] v fun e w'=>e=.returned (.int .i64 (K:Int))/\w'=v)):
 Calls prog 72 #[.pointer (some ⟨FR,0,none⟩),.slice (some ⟨vb,vo,none⟩) Ns vm,.pointer (some ⟨ib,io,none⟩)] w fun e w'=>∃g,e=.returned (.slice (some ⟨g,0,none⟩) Ln Ln)/\w.heap.size<=g/\w'.rowIs g 43 Ln (fun j=>.int .u32 (canon (V (K*j+n))))/\Below w.heap.size w w':=by
 have hmk:=Zwm Ln oM;have HQ:Hid (∀j,j<Lq->w.cell? ⟨qb,qo+j,none⟩=some (.int .u32 (V j))):=hq;have HV:Hid (∀j,IsP (V j)):=hV;have HLq:Hid (Lq=K*Ln):=hLq;have g2:Lq<=8192:=by rcases hK with rfl|rfl<;>omega
 clear hq hV hLq;go_enter func72,ntmps72;go_wp2;refine rG (fun v=>v.cell? ⟨FR,0,none⟩=some (.pointer (some ⟨C,0,none⟩))/\v.cell? ⟨C,1,none⟩=some (.slice (some ⟨b1,o1,none⟩) N m1)/\v.cell? ⟨ib,io+1,none⟩=some (.int .i64 (D:Int))/\v.cell? ⟨b1,o1+D*2+1,none⟩=some (.int .i64 (p:Int))) fun hHeld=>?_;refine Tf 0 1 2 3 4 5 ?_;refine Tf 6 7 8 9 10 11 ?_;refine Tc 12 13 14 ?_;refine wpAnyH_done kR ?_ _;go_wp2;refine rG (fun v=>v.cell? ⟨vb,vo+p,none⟩=some (.slice (some ⟨qb,qo,none⟩) Lq cap)) fun hHeld=>?_;refine Tf 0 1 2 3 4 5 ?_;clear hHeld;refine ry1 6 fun K hK=>?_;go_simp;(go_at_call 117;refine(KA.out _ (bel (Zht _) (Zht _))).mono ?_;rintro e w1 ⟨rfl,hw'⟩;obtain rfl:=hw'.symm);try(go_wp2_with fail)
 refine okK hK fun hHeld=>?_;clear hK K;refine Tb 7 8 ?_;refine wpAnyH_done kR ?_ _;go_wp2
 go_loopw [47] (fun iv wr=>Below w.heap.size w wr/\∃j:Nat,j<=Ln/\iv=.int .i64 j/\Hid (wr.rowIs w.heap.size 43 Ln (fun k=>.int .u32 (if k<j then canon (V (K*k+n))else 0)))) (fun iv _=>Ln-(intOf iv).toNat)
 case atStart=>
  refine⟨gG,0,Nat.zero_le _,rfl,?_⟩;have hr:=(World.rowIs_made w (.int .u32 0) Ln 43).drew.drew;exact hr.congr fun k _=>by simp
 case round=>
  obtain⟨hb,j,hj,rfl,hrow⟩:=hrel;by_cases hlt:j<Ln
  ·have hKj:K*j+n<K*Ln:=by rcases hK with rfl|rfl<;>omega
   have hKL:K*Ln<=8192:=by rw[←HLq.out];exact g2
   obtain⟨I0,hI0⟩:∃I0,K*j=I0:=⟨_,rfl⟩
   obtain⟨I,hI⟩:∃I,I0+n=I:=⟨_,rfl⟩
   have e1:IntKind.i64.wrap ((K:Int)*(j:Int))=(I0:Int):=by
    have:((K:Int)*(j:Int))=((K*j:Nat):Int):=sM;rw[this,hI0,IntKind.wrap_i64];omega
   have e2:IntKind.i64.wrap ((I0:Int)+(n:Int))=(I:Int):=by rw[IntKind.wrap_i64];omega
   have hIL:I<Lq:=by rw[HLq.out];omega
   have hIc:(I:Int)<(Lq:Int):=oM;have hI9:(0:Int)<=(I:Int):=oM;have x1:wr.cell? ⟨qb,qo+I,none⟩=some (.int .u32 (V I)):=kc hb (HQ.out I hIL);have x5:=kc hb i5;have y0:=hrow.out.cell hlt;have y1:=hrow.out.frozen j;have pI:=HV.out I;have HPI:Hid (IsP (V I)):=pI;have HI:Hid (K*j+n=I):=by rw[←hI,←hI0];exact rfl
   have n1:w.heap.size≠qb:=by have:=Zhr (HQ.out I hIL);simp at this;omega
   clear hI0 hI hKj pI hKL;go_wp2_with(go_at_call 101;refine(Zmg _ HPI.out.1 HPI.out.2 _).mono ?_;rintro e w1 ⟨rfl,hw'⟩;obtain rfl:=hw'.symm);go_roundw
   case rel=>
    refine⟨hb.setCell sM _,j+1,oM,gN,?_⟩;exact(hrow.out.set j _).congr fun k hk=>by
     by_cases e:k=j
     ·subst e;rw[if_pos rfl,if_pos oM,HI.out]
     ·rw[if_neg e];by_cases e3:k<j
      ·rw[if_pos e3,if_pos oM]
      ·rw[if_neg e3,if_neg oM]
   case measure=>simp[intOf];omega
  ·have hjL:j=Ln:=oM;subst hjL;go_wp2;go_ret;exact⟨w.heap.size,rfl,Nat.le_refl _,hrow.out.congr fun k hk=>by rw[if_pos hk],hb⟩
theorem Zxm{α:Type}(f:Nat->Int)(n j:Nat)(h:j<n):atL ((List.range n).map f) j=f j:=by
 unfold atL;simp[h]
theorem VsT.at{T:Nat->Prop}{w:World}{v:Value}{L:List (List Int)}(h:VsT T w v L){p:Nat}(hp:p<L.length):∃b o c u,v=.slice (some ⟨b,o,none⟩) L.length c/\w.cell? ⟨b,o+p,none⟩=some u/\Pt T w u L[p]:=by
 obtain⟨q,c,hv,hh⟩:=h;rcases hh with e|⟨b,o,rfl,_,_,hh⟩
 ·rw[e]at hp;exact absurd hp (Nat.not_lt_zero _)
 ·obtain⟨u,h1,h2⟩:=hh p hp;exact⟨b,o,c,u,hv,h1,h2⟩
theorem Pt.cells{T:Nat->Prop}{w:World}{v:Value}{l:List Int}(h:Pt T w v l)(hl:0<l.length):∃b o c,v=.slice (some ⟨b,o,none⟩) l.length c/\¬T b/\∀j,j<l.length->w.cell? ⟨b,o+j,none⟩=some (.int .u32 (atL l j)):=by
 obtain⟨q,c,hv,hh⟩:=h;rcases hh with e|⟨b,o,rfl,hn,_,hh⟩
 ·rw[e]at hl;exact absurd hl (Nat.not_lt_zero _)
 ·refine⟨b,o,c,hv,hn,fun j hj=>?_⟩;have:=(hh j hj).at 0 (v:=.int .u32 l[j]) rfl;rw[Nat.mul_one,Nat.add_zero]at this;rw[this];simp[atL,List.getElem?_eq_getElem hj]
structure Zpp(c:Cd)(r:Int)(n:Int):Prop where
 r0:0<=r
 r1:r<(c.regs.length:Int)
 kind:(regT c.regs r).kind=3
 n0:n=0\/(n=1/\Zkv c.sign (regT c.regs r).par=2)
theorem Zadd{T:Nat->Prop}{E E':Nat}{a:Lay}{c:Cd}{G P:List (List Int)}(w:World)(x:FX T E E' a c G P w)(hg:Good c)(v:Value)(L:List (List Int))(hv:VsT (mutT T E E') w v L)(hL:FitV c L)(ib io:Nat)(i:Ins)(hi:Zhw w ib io (inC i))(hp:Zpp c i.d i.n):
 Calls prog 72 #[.pointer (some ⟨a.FR,0,none⟩),v,.pointer (some ⟨ib,io,none⟩)] w fun e w'=>∃g,e=.returned (.slice (some ⟨g,0,none⟩) (Zir c L i).length (Zir c L i).length)/\w.heap.size<=g/\w'.rowIs g 43 (Zir c L i).length (fun j=>.int .u32 (atL (Zir c L i) j))/\Below w.heap.size w w':=by
 have i1:=hi.at 1 rfl;have i5:=hi.at 5 rfl;obtain⟨op,D,A,B,Ec,nn,bt⟩:=i;simp only at i1 i5 hp;obtain⟨D,rfl⟩:∃j:Nat,D=(j:Int):=⟨D.toNat,by have:=hp.r0;omega⟩
 have hD:D<c.regs.length:=by have:=hp.r1;omega
 have hk:=hp.kind;have hn0:=hp.n0;rw[Zkb hD]at hk hn0;have hpar:=Zlf.1 (hg.type (List.getElem_mem hD) hk);obtain⟨b1,o1,m1,hv1,-,r1⟩:=x.code.reg hD;have hPE:Zir c L ⟨op,(D:Int),A,B,Ec,nn,bt⟩=(List.range (lenOf c c.regs[D].par)).map fun e=>canon (atL (Zkt L c.regs[D].par.toNat) (Zia c c.regs[D].par*e+nn.toNat)):=by
  unfold Zir;simp only[Zkb hD]
 obtain⟨pp,hpp⟩:∃pp,c.regs[D].par=pp:=⟨_,rfl⟩
 rw[hpp]at hpar r1 hPE hn0;obtain⟨p,rfl⟩:∃j:Nat,pp=(j:Int):=⟨pp.toNat,oM⟩
 have hps:p<c.sign.length:=oM;obtain⟨b0,o0,m0,hv0,-,s2⟩:=x.code.par hps;obtain⟨e1,e2,e3,e4,e5⟩:=Zot hg hps;have f0:=x.f0;have c0:=x.code.c0;have c1:=x.code.c1;rw[hv0]at c0;rw[hv1]at c1;obtain⟨vb,vo,vm,u,rfl,v1,hu⟩:=hv.at (p:=p) Zgy;have hlen:=hL.each p Zgy;obtain⟨qb,qo,cap,rfl,-,hq⟩:=hu.cells (by rw[hlen,e1,e2];have:=Nat.mul_pos (show 0<Zia c p by omega) (show 0<c.sign[p].len.toNat by omega);exact this);have hkk:nn=0\/(nn=1/\Zia c p=2):=hn0.imp id fun⟨h1,h2⟩=>⟨h1,by unfold Zia;rw[if_pos h2]⟩
 obtain⟨n,rfl⟩:∃j:Nat,nn=(j:Int):=⟨nn.toNat,oM⟩
 have hva:Zkt L p=L[p]' Zgy:=by unfold Zkt;rw[List.getElem?_eq_getElem Zgy];rfl
 rw[Int.toNat_natCast,Int.toNat_natCast,hva]at hPE;have hPL:(Zir c L ⟨op,(D:Int),A,B,Ec,(n:Int),bt⟩).length=lenOf c p:=by rw[hPE];simp
 have s2':w.cell? ⟨b0,o0+p*3+2,none⟩=some (.int .i64 ((lenOf c p:Nat):Int)):=by rw[s2,e2];congr 2;omega
 have K:=Zame w a.FR a.C b1 o1 m1 c.regs.length b0 o0 m0 c.sign.length D p vb vo vm qb qo cap _ (Zia c p) n (lenOf c p) ib io (atL (L[p]' Zgy)) (Zke (hL.isP _ (List.getElem_mem _))) hg.regsL hg.signL hD hps (hg.lenOf _) oM e5 oM (hlen.trans e1) f0 c0 c1 r1 s2' i1 i5 v1 hq (fun v hv=>Zzv v (x.below hv) hg p hps);rw[hL.len];refine K.mono ?_;rintro e w' ⟨g,h1,h2,h3,h4⟩;rw[hPL];refine⟨g,h1,h2,h3.congr fun j hj=>?_,h4⟩;rw[hPE,Zxm (α:=Int) _ _ _ hj]
structure InsT(T:Nat->Prop)(w:World)(ib io:Nat)(i:Ins):Prop where
 not:¬T ib
 lt:ib<w.heap.size
 cells:Zhw w ib io (inC i)
theorem InsT.un{T U:Nat->Prop}{w w':World}{ib io:Nat}{i:Ins}(h:InsT T w ib io i)(q:Un U w w')(hu:∀b,b<w.heap.size->U b->T b):InsT T w' ib io i:=
 ⟨h.not,Nat.lt_of_lt_of_le h.lt q.size,h.cells.of_block (q.block _ h.lt fun e=>h.not (hu _ h.lt e))⟩
theorem InsT.below{T:Nat->Prop}{w w':World}{ib io:Nat}{i:Ins}(h:InsT T w ib io i)(q:Below w.heap.size w w'):InsT T w' ib io i:=h.un (U:=fun _=>False) (Un.of q) (fun _ _ e=>e.elim)
theorem FX.sub{T:Nat->Prop}{E E':Nat}{a:Lay}{c:Cd}{G P:List (List Int)}{w:World}(x:FX T E E' a c G P w):∀b,Zsv a E E' b->mutT T E E' b:=by
 rintro b (e|e)
 ·exact .inl (e▸x.hS)
 ·exact .inr e
def outJ(o:Nat->Nat->Int)(p k n:Nat)(l:List Int)(j:Nat):Nat->Nat->Int:=fun q i=>if q=p/\i%k=n/\i/k<j then atL l (i/k)else o q i
theorem outJ_0(o:Nat->Nat->Int)(p k n:Nat)(l:List Int):outJ o p k n l 0=o:=by
 funext q i;unfold outJ;rw[if_neg (fun h=>Nat.not_lt_zero _ h.2.2)]
theorem Zapk(o:Nat->Nat->Int)(p k n:Nat)(l:List Int):outJ o p k n l l.length=outP o p k n l:=rfl
theorem Zajs(o:Nat->Nat->Int)(p k n:Nat)(l:List Int)(j:Nat)(hn:n<k):(fun q i=>if q=p/\i=k*j+n then atL l j else outJ o p k n l j q i)=outJ o p k n l (j+1):=by
 funext q i;unfold outJ;by_cases hq:q=p
 ·by_cases hi:i=k*j+n
  ·have h1:i%k=n:=by rw[hi,Nat.mul_add_mod,Nat.mod_eq_of_lt hn]
   have h2:i/k=j:=by
    rw[hi,Nat.mul_add_div oM,Nat.div_eq_of_lt hn,Nat.add_zero]
   rw[if_pos ⟨hq,hi⟩,if_pos ⟨hq,h1,oM⟩,h2]
  ·rw[if_neg (fun h=>hi h.2)];by_cases h1:i%k=n
   ·have h3:i=k*(i/k)+i%k:=(Nat.div_add_mod i k).symm;have h2:i/k≠j:=fun e=>hi (by rw[e,h1]at h3;exact h3);by_cases h4:i/k<j
    ·rw[if_pos ⟨hq,h1,h4⟩,if_pos ⟨hq,h1,oM⟩]
    ·rw[if_neg (fun h=>h4 h.2.2),if_neg (fun h=>by have:=h.2.2;omega)]
   ·rw[if_neg (fun h=>h1 h.2.1),if_neg (fun h=>h1 h.2.1)]
 ·rw[if_neg (fun h=>hq h.1),if_neg (fun h=>hq h.1),if_neg (fun h=>hq h.1)]
theorem out_any{T:Nat->Prop}{E E':Nat}{a:Lay}{c:Cd}{G P:List (List Int)}{X:Nat->Value}{M:Nat}{m:Nat->Option Value}{f:Fr}(w:World)(x:FX T E E' a c G P w)(h:FV T E E' a c w X M m f)(hg:Good c)(ok:OkF c f)(ib io:Nat)(i:Ins)(hi:InsT (mutT T E E') w ib io i)(hp:Zpp c i.a i.n)(hl:(f.vecs i.a.toNat).length=lenOf c (regT c.regs i.a).par):
 Calls prog 73 #[.pointer (some ⟨a.FR,0,none⟩),.pointer (some ⟨ib,io,none⟩)] w fun e w'=>e=.returned (.tuple #[])/\Zhv T E E' a c G P M {f with outs:=outP f.outs (regT c.regs i.a).par.toNat (Zia c (regT c.regs i.a).par) i.n.toNat (f.vecs i.a.toNat)} w w':=by
 have i2:=hi.cells.at 2 rfl;have i5:=hi.cells.at 5 rfl;obtain⟨op,D,A,B,Ec,nn,bt⟩:=i;simp only at i2 i5 hp hl ⊢;obtain⟨A,rfl⟩:∃j:Nat,A=(j:Int):=⟨A.toNat,by have:=hp.r0;omega⟩
 have hA:A<c.regs.length:=by have:=hp.r1;omega
 have hk:=hp.kind;have hn0:=hp.n0;rw[Zkb hA]at hk hn0 hl ⊢;have hpar:=Zlf.1 (hg.type (List.getElem_mem hA) hk);obtain⟨b1,o1,m1,hv1,-,r1⟩:=x.code.reg hA;obtain⟨pp,hpp⟩:∃pp,c.regs[A].par=pp:=⟨_,rfl⟩
 rw[hpp]at hpar r1 hn0 hl ⊢;obtain⟨p,rfl⟩:∃j:Nat,pp=(j:Int):=⟨pp.toNat,oM⟩
 have hps:p<c.sign.length:=oM;obtain⟨e1,e2,e3,e4,e5⟩:=Zot hg hps;have hkk:nn=0\/(nn=1/\Zia c p=2):=hn0.imp id fun⟨h1,h2⟩=>⟨h1,by unfold Zia;rw[if_pos h2]⟩
 obtain⟨n,rfl⟩:∃j:Nat,nn=(j:Int):=⟨nn.toNat,oM⟩
 rw[Int.toNat_natCast]at hl ⊢;rw[Int.toNat_natCast,Int.toNat_natCast];have f0:=x.f0;have c1:=x.code.c1;rw[hv1]at c1;have KA:Hid (∀v,Below w.heap.size w v->Calls prog 117 #[.pointer (some ⟨a.FR,0,none⟩),.int .i64 (p:Int)] v fun e w'=>e=.returned (.int .i64 (Zia c p:Nat))/\w'=v):=fun v hv=>Zzv v (x.below hv) hg p hps;have HKn:Hid (n<Zia c p):=by show n<Zia c p;omega
 have HNum:Hid (Zje c p=Zia c p*(f.vecs A).length):=by rw[hl];exact e1
 have hLn:(f.vecs A).length<=4096:=ok.vecsL A;obtain⟨q1,q2,hmv,-,hlk⟩:=h.look hA hg.regsL;have lk:=hlk w.drew.drew (bel (Zht _) (Zht _));have HMV:Hid ((m A).getD (.slice none 0 0)=.slice q1 (f.vecs A).length q2):=hmv;have f4:=x.f4;have hNs:=hg.signL;have hN:=hg.regsL;have HX:Hid (FX T E E' a c G P w):=x;have HV:Hid (FV T E E' a c w X M m f):=h;have HI:Hid (InsT (mutT T E E') w ib io ⟨op,D,(A:Int),B,Ec,(n:Int),bt⟩):=hi;have HPS:Hid (p<c.sign.length):=hps;have HA9:Hid (A<c.regs.length):=hA;have hKK:Zia c (p:Int)<=2:=oM;obtain⟨Kk,hKk⟩:∃Kk,Zia c (p:Int)=Kk:=⟨_,rfl⟩
 obtain⟨L,hL⟩:∃L,(f.vecs A).length=L:=⟨_,rfl⟩
 obtain⟨N,hN'⟩:∃N,c.regs.length=N:=⟨_,rfl⟩
 obtain⟨Ns,hNs'⟩:∃Ns,c.sign.length=Ns:=⟨_,rfl⟩
 obtain⟨FR,hFR⟩:∃FR,a.FR=FR:=⟨_,rfl⟩
 obtain⟨MB,hMB⟩:∃MB,a.MB=MB:=⟨_,rfl⟩
 obtain⟨C,hC⟩:∃C,a.C=C:=⟨_,rfl⟩
 simp only[hKk,hL,hN',hNs',hFR,hMB,hC]at KA HKn HNum hLn lk HMV f4 hNs hN hKK f0 c1 hA hps ⊢;have HLL:Hid ((f.vecs A).length=L):=hL;have HNN:Hid (c.regs.length=N):=hN';have HNS:Hid (c.sign.length=Ns):=hNs';have HFR:Hid (a.FR=FR):=hFR;clear x h hg ok hi hp hl hk hn0 hpar hv1 e1 e2 e3 e4 e5 hkk hmv hlk hKk hL hN' hNs' hFR hMB hC hpp;go_enter func73,ntmps73;go_wp2;refine rG (fun v=>v.cell? ⟨FR,0,none⟩=some (.pointer (some ⟨C,0,none⟩))/\v.cell? ⟨C,1,none⟩=some (.slice (some ⟨b1,o1,none⟩) N m1)/\v.cell? ⟨ib,io+2,none⟩=some (.int .i64 (A:Int))/\v.cell? ⟨b1,o1+A*2+1,none⟩=some (.int .i64 (p:Int))) fun hHeld=>?_;refine Tf 0 1 2 3 4 5 ?_;refine Tf 6 7 8 9 10 11 ?_;refine Tc 12 13 14 ?_;refine wpAnyH_done kR ?_ _;go_wp2_with(go_at_call 117;refine(KA.out _ (Zht _)).mono ?_;rintro e w1 ⟨rfl,hw'⟩;obtain rfl:=hw'.symm);refine rG (fun v=>v.cell? ⟨FR,4,none⟩=some (.map (some MB))/\v.cell? ⟨ib,io+2,none⟩=some (.int .i64 (A:Int))) fun hHeld=>?_;refine Tf 0 1 2 3 4 5 ?_;refine Tc 6 7 10 ?_;clear hHeld;refine ry1 8 fun K hK=>?_;go_simp;refine okK hK fun hHeld=>?_;clear hK K;refine tkT 9 ?_;refine wpAnyH_done kR ?_ _;go_wp2
 go_loopw [35] (fun iv wr=>∃j:Nat,j<=L/\iv=.int .i64 j/\Hid (FX T E E' a c G P wr/\FV T E E' a c wr X M m {f with outs:=outJ f.outs p Kk n (f.vecs A) j}/\Un (Zsv a E E') w wr)) (fun iv _=>L-(intOf iv).toNat)
 case atStart=>
  have hb:=bel (Zht w) (Zht _);refine⟨0,Nat.zero_le _,rfl,HX.out.below hb,?_,Un.of hb⟩;rw[outJ_0];exact HV.out.below hb
 case round=>
  obtain⟨j,hj,rfl,HR⟩:=hrel;by_cases hlt:j<L
  ·have xr:=HR.out.1;have hr:=HR.out.2.1;have hP:=hr.vecs A HA9.out;rw[HMV.out]at hP;obtain⟨lb,lo,cc,hls,hln,hlc⟩:=hP.cells (by show 0<(f.vecs A).length;rw[HLL.out];omega);simp only[Value.slice.injEq]at hls;obtain⟨rfl,-,-⟩:=hls;have x1:wr.cell? ⟨lb,lo+j,none⟩=some (.int .u32 (atL (f.vecs A) j)):=hlc j (by show j<(f.vecs A).length;rw[HLL.out];exact hlt);have ir:=HI.out.un HR.out.2.2 (fun b _ e=>HX.out.sub b e);have i5:=ir.cells.at 5 rfl;have f7:=xr.f7;have u1:=xr.upd.cell HPS.out;have hNum:=HNum.out;have hKj:Kk*j+n<Kk*L:=by
    have h1:=HKn.out;have h2:Kk*(j+1)<=Kk*L:=Nat.mul_le_mul_left _ oM;rw[Nat.mul_add,Nat.mul_one]at h2;omega
   have hKL:Kk*L<=8192:=Nat.le_trans (Nat.mul_le_mul hKK hLn) dE;obtain⟨I0,hI0⟩:∃I0,Kk*j=I0:=⟨_,rfl⟩
   obtain⟨I,hI⟩:∃I,I0+n=I:=⟨_,rfl⟩
   have w1:IntKind.i64.wrap ((Kk:Int)*(j:Int))=(I0:Int):=by
    have:((Kk:Int)*(j:Int))=((Kk*j:Nat):Int):=sM;rw[this,hI0,IntKind.wrap_i64];omega
   have w2:IntKind.i64.wrap ((I0:Int)+(n:Int))=(I:Int):=by rw[IntKind.wrap_i64];omega
   obtain⟨NP,hNP⟩:∃NP,Zje c p=NP:=⟨_,rfl⟩
   rw[hNP]at u1 hNum;have hIL:I<NP:=by rw[hNum];omega
   have hIc:(I:Int)<(NP:Int):=oM;have hI9:(0:Int)<=(I:Int):=oM;have y0:=(hr.outs p HPS.out).cell (i:=I) (by rw[hNP];exact hIL);have y1:=(hr.outs p HPS.out).frozen I;obtain⟨d1,d2,d3,d4,d5⟩:=xr.d2 p HPS.out;have d6:a.ub p≠ib:=fun e=>ir.not (by rw[←e];exact .inr (xr.iub p HPS.out));have d7:a.ub p≠lb:=fun e=>hln (by rw[←e];exact .inr (xr.iub p HPS.out));obtain⟨UP,hUP⟩:∃UP,a.ub p=UP:=⟨_,rfl⟩
   obtain⟨UB,hUB⟩:∃UB,a.UB=UB:=⟨_,rfl⟩
   rw[HFR.out,hUB,HNS.out]at f7;rw[hUB,hUP]at u1;rw[hUP]at y0 y1 d1 d2 d3 d4 d5 d6 d7;rw[HFR.out]at d1;rw[hUB]at d5;have HUP:Hid (a.ub p=UP):=hUP;have HI2:Hid (Kk*j+n=I):=by rw[←hI,←hI0];exact rfl
   obtain⟨y,hy⟩:∃y,atL (f.vecs A) j=y:=⟨_,rfl⟩
   rw[hy]at x1;have HY:Hid (atL (f.vecs A) j=y):=hy;clear hI0 hI hKj hKL hUP hUB hNum hNP xr hr ir hP hlc hy d2 d3 d4 hln;go_wp2;refine rG (fun v=>v.cell? ⟨FR,7,none⟩=some (.slice (some ⟨UB,0,none⟩) Ns Ns)/\v.cell? ⟨UB,p,none⟩=some (.slice (some ⟨UP,0,none⟩) NP NP)/\v.cell? ⟨ib,io+5,none⟩=some (.int .i64 (n:Int))) fun hHeld=>?_;refine Tf 0 1 2 3 4 5 ?_;refine Tf 6 7 8 9 10 11 ?_;refine Tc 12 13 14 ?_;refine Tb 15 16 ?_;clear hHeld;refine ry1 17 fun K hK=>?_;go_simp;refine okK hK fun hHeld=>?_;clear hK K;refine wpAnyH_done kR ?_ _;go_wp2;go_roundw
   case rel=>
    refine⟨j+1,oM,gN,?_⟩;obtain⟨h1,h2,h3⟩:=FV.out HR.out.1 HR.out.2.1 HPS.out (j:=I) y rfl;rw[HUP.out]at h1 h2 h3;have hd:=Zht (wr.setCell ⟨UP,I,none⟩ (.int .u32 y));have e9:=Zajs f.outs p Kk n (f.vecs A) j HKn.out;rw[HI2.out,HY.out]at e9;rw[←e9];exact⟨h1.below hd,h2.below hd,(HR.out.2.2.trans (h3.mono fun b e=>.inr (by rw[e,←HUP.out];exact HR.out.1.iub p HPS.out))).on hd⟩
   case measure=>simp[intOf];omega
  ·have hjL:j=L:=oM;subst hjL;go_wp2
   go_end0
   refine⟨rfl,HR.out.1,⟨X,M,m,oM,?_⟩,HR.out.2.2⟩;have:=HR.out.2.1;rw[←HLL.out,Zapk]at this;exact this
theorem Zagp(D:Value)(f:Int->Int->Int->Int)(place g1 g2 b o m cq:Nat)(P:Nat->Option Addr)(l c:Nat->Nat)(X:Nat->Nat->Int)(hX:∀i j,IsP (X i j))(hm:m<=3)(hi:place<=1048576)(hl:∀i,l i<=1048576)(hpl:∀i,i<m->l i=1\/place<l i)(w:World)
 (hL:Lsts .u32 w (some ⟨b,o,none⟩) m P l c X) (hW:Zjf w D f) (hD:w.cell? ⟨g1,0,none⟩=some D) (hA:w.cell? ⟨g2,0,none⟩=some (.slice (some ⟨b,o,none⟩) m cq)):
 Calls prog 147 #[.int .i64 place,.pointer (some ⟨g1,0,none⟩),.pointer (some ⟨g2,0,none⟩)] w fun e w'=>e=.returned (.int .u32 (f (elAt l X m place 0) (elAt l X m place 1) (elAt l X m place 2)))/\Below w.heap.size w w':=by
 obtain⟨k,cap,rfl,hen,hk⟩:=hW;have HK:Hid (∀v:World,Below w.heap.size w v->Calls prog k (#[.agg #[.int .u32 (elAt l X m place 0),.int .u32 (elAt l X m place 1),.int .u32 (elAt l X m place 2)]]++cap) v fun e v'=>e=.returned (.int .u32 (f (elAt l X m place 0) (elAt l X m place 1) (elAt l X m place 2)))/\Below v.heap.size v v'):=fun v hv=>hk _ _ _ v (Zjr hX m place 0) (Zjr hX m place 1) (Zjr hX m place 2) hv;have HL:Hid (Lsts .u32 w (some ⟨b,o,none⟩) m P l c X/\(∀i,l i<=1048576)/\∀i,i<m->l i=1\/place<l i):=⟨hL,hl,hpl⟩
 have d1:=Zkj hD;have d2:=Zkj hA;unfold EntV at hen;clear hk hL hl hpl hX;go_enter func147,ntmps147;go_wp2
 go_region_held3 (fun w'=>w'.cell? ⟨g1,0,none⟩=some (.func (.func k) #[] cap)/\w'.cell? ⟨g2,0,none⟩=some (.slice (some ⟨b,o,none⟩) m cq)) (go_keep) (first
  |(go_at_call 148;refine(Zahm place b o m cq P l c X hm hi HL.out.2.1 HL.out.2.2 _ (HL.out.1.below (belD w))).mono ?_;rintro e w1 ⟨rfl,hb1⟩;have HB:Below w.heap.size w w1:=belV (belD w) hb1;have e1:w1.cell? ⟨g1,0,none⟩=some (.func (.func k) #[] cap):=(HB.cell d1).trans hD;have e2:w1.cell? ⟨g2,0,none⟩=some (.slice (some ⟨b,o,none⟩) m cq):=(HB.cell d2).trans hA)
  |((with_reducible refine(HK.out _ HB).mono ?_);rintro e w2 ⟨rfl,hb2⟩;have e3:w2.cell? ⟨g1,0,none⟩=some (.func (.func k) #[] cap):=(hb2.cell (Zkj e1)).trans e1;have e4:w2.cell? ⟨g2,0,none⟩=some (.slice (some ⟨b,o,none⟩) m cq):=(hb2.cell (Zkj e2)).trans e2))
 go_wp2;go_ret;exact⟨rfl,belV HB hb2⟩
theorem Zpn{k:IntKind}{w:World}{b o m:Nat}{P:Nat->Option Addr}{l c:Nat->Nat}{X:Nat->Nat->Int}(h:Lsts k w (some ⟨b,o,none⟩) m P l c X)(i:Nat)(hi:i<m):w.cell? ⟨b,o+i,none⟩=some (.slice (P i) (l i) (c i)):=by
 rcases h.heads with q|⟨b',o',e,hh⟩
 ·omega
 ·cases e;exact hh i hi
theorem Zyk{l:Nat->Nat}{M n i j:Nat}(h:shpV l M=some n)(hj:j<=M)(hi:i<n):l j=1\/i<l j:=by
 rcases Zacj h j hj with e|e
 ·right;omega
 ·left;exact e.1
theorem Zqq(op:Int):Zjq op<=3:=by
 unfold Zjq;split
 ·omega
 ·split
  ·omega
  ·split<;>omega
theorem Zaqa(op:Int)(h0:Zjq op≠0)(b o m cq:Nat)(hm:Zjq op=m)(n:Nat)(P:Nat->Option Addr)(l c:Nat->Nat)(X:Nat->Nat->Int)(hX:∀i j,IsP (X i j))(hl:∀i,l i<=1048576)(hc:m<=cq)(hs:shpV l (m-1)=some n)(w:World)(hL:Lsts .u32 w (some ⟨b,o,none⟩) m P l c X):
 Calls prog 119 #[.int .i64 op,.slice (some ⟨b,o,none⟩) m cq] w fun e w'=>∃g,e=.returned (.tuple #[.slice (some ⟨g,0,none⟩) n n,.int .i64 0])/\w.heap.size<=g/\w'.rowIs g 43 n (fun i=>.int .u32 (opf op (elAt l X m i 0) (elAt l X m i 1) (elAt l X m i 2)))/\Below w.heap.size w w':=by
 have HL:Hid (Lsts .u32 w (some ⟨b,o,none⟩) m P l c X/\(∀i,l i<=1048576)/\shpV l (m-1)=some n/\(∀i j,IsP (X i j))):=⟨hL,hl,hs,hX⟩
 have hn:n<=1048576:=shp_le hl hs;have hm3:m<=3:=by rw[←hm];exact Zqq op
 have ht:¬ ((m:Int)=0):=oM;have H0:Hid (Zjq op≠0):=h0;have HM:Hid (Zjq op=m):=hm;obtain⟨M,rfl⟩:∃M,m=M+1:=⟨m-1,oM⟩
 have HS:Hid (shpV l M=some n):=hs;clear hL hl hs hX h0 hm;go_enter func119,ntmps119;go_wp2_with(first
  |(go_at_call 145;refine(Zajf op H0.out _).mono ?_;rintro e w1 ⟨D,rfl,hD,hb1⟩;rw[HM.out];have hD':=hD;obtain⟨kD,capD,rfl,-,-⟩:=hD';have HD:Hid (Zjf w1 (.func (.func kD) #[] capD) (opf op)):=hD;have a1:w1.cell? ⟨w.heap.size,0,none⟩=some (.slice (some ⟨b,o,none⟩) (M+1) cq):=(hb1.cell sM).trans sM;have s1:w.heap.size<w1.heap.size:=Zkj a1;have s2:w.heap.size≠w1.heap.size:=oM;clear hD)
  |(go_at_call 146;refine(Zakx b o M cq P l c oM HL.out.2.1 hc _ (fun i hi=>Zpn (HL.out.1.below (belV (belV (Zjg w _) hb1) (Zjg w1 _))) i hi)).mono ?_;rintro e w2 ⟨rfl,hw'⟩;obtain rfl:=hw'.symm;rw[HS.out])
  |(go_at_call 99;refine(Ztx 147 (enters_of func147 kR rfl) #[.pointer (some ⟨w1.heap.size,0,none⟩),.pointer (some ⟨w.heap.size,0,none⟩)] n (fun i=>opf op (elAt l X (M+1) i 0) (elAt l X (M+1) i 1) (elAt l X (M+1) i 2)) hn _ (fun i v hi hv=>Zagp (.func (.func kD) #[] capD) (opf op) i w1.heap.size w.heap.size b o (M+1) cq P l c X HL.out.2.2.2 hm3 oM HL.out.2.1 (fun j hj=>Zyk HL.out.2.2.1 oM hi) v (HL.out.1.below (belV (belV (belV (Zjg w _) hb1) (Zjg w1 _)) hv)) (HD.out.below (belV (Zjg w1 _) hv)) ((hv.cell sM).trans sM) ((hv.cell sO).trans (((Zjg w1 _).cell s1).trans a1)))).mono ?_;rintro e w2 ⟨g,rfl,hg,hr,hb2⟩;have HR:Hid (w2.rowIs g 43 n (fun i=>.int .u32 (opf op (elAt l X (M+1) i 0) (elAt l X (M+1) i 1) (elAt l X (M+1) i 2)))):=hr;clear hr))
 go_returns;exact⟨_,rfl,by
  have:w1.heap.size+1<=g:=by simpa using hg
  omega,HR.out,belV (belV (belV (Zjg w _) hb1) (Zjg w1 _)) hb2⟩
end Go.Proofs.YtbinohkcolcbfaaGreat
