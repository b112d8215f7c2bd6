import Derived.Test.YtbinohkcolcbfaaGreatClon11
import Derived.Test.YtbinohkcolcbfaaGreatClon1
import Derived.Test.YtbinohkcolcbfaaGreatClon12
namespace Go.Proofs.YtbinohkcolcbfaaGreat
open Go.RowKit Go.Proofs.Tryz
set_option linter.all false
set_option maxRecDepth 100000
set_option maxHeartbeats 16000000
theorem Kc(v0 v1 v2 v3:Value)(c:Cd)(hk:B0 c)(n p:Int)(hp:n=1->Ak p c.sign.length=true)(w:World)(hv:Di w v0 v1 v2 v3 c):
 Calls prog 105 #[.agg #[v0,v1,v2,v3],.int .i64 n,.int .i64 p] w fun e w'=>e=.returned (.bool (n==0||(n==1&&Ce c.sign p==2)))/\Below w.heap.size w w':=by
 have HB:=hk.signL;by_cases h0:n=0
 ·subst h0;clear hp hv;go_enter func105,ntmps105;go_wp2;go_ret;exact⟨rfl,A0 _ _⟩
 ·have h0':(n==0)=false:=by simpa using h0
  by_cases h1:n=1
  ·subst h1;obtain⟨k,rfl,hkl⟩:=CZ (hp rfl);have hr:=hv.sign;obtain⟨p,q,rfl,hrr⟩:=hv.sign;obtain⟨lb,lo,rfl,hc⟩:=hr.at hkl;have e:Ce c.sign (k:Int)=c.sign[k].kind:=by unfold Ce;rw[Int.toNat_natCast,List.getElem?_eq_getElem hkl];rfl
   rw[e];obtain⟨⟨nm,K,L⟩,ht⟩:∃t:BO,c.sign[k]=t:=⟨_,rfl⟩
   rw[ht]at hc ⊢;have y1:w.cell? ⟨lb,lo+k*3+1,none⟩=some (.int .i64 K):=hc.at 1 rfl;have g1:∀o,(w.alloc o).cell? ⟨lb,lo+k*3+1,none⟩=some (.int .i64 K):=fun o=>kc (A0 _ _) y1;obtain⟨N,hN⟩:∃N,c.sign.length=N:=⟨_,rfl⟩
   rw[hN]at hkl HB ⊢;clear hr hrr hc ht e hp hv hN h0 hk;simp only;go_enter func105,ntmps105;go_wp2;go_ret;exact⟨A7 sM,A0 _ _⟩
  ·have h1':(n==1)=false:=by simpa using h1
   rw[h0',h1'];clear hp hv h0 h1;go_enter func105,ntmps105;go_wp2;go_ret;exact⟨rfl,A0 _ _⟩
def F4(i:Au):Int:=if Bg i.op||(i.op==29||(i.op==30||i.op==32))then i.d else if i.op==31||i.op==33 then i.a else -1
def FN(rs:List Ty)(n:Int):Int:=if Ak n rs.length&&(A8 rs n).kind==3 then(A8 rs n).par else -1
theorem MZ(v0 v1 v2 v3:Value)(c:Cd)(hk:B0 c)(i:Au)(w:World)(hv:Di w v0 v1 v2 v3 c):
 Calls prog 65 #[.agg #[v0,v1,v2,v3],Dk i] w fun e w'=>e=.returned (.int .i64 (FN c.regs (F4 i)))/\Below w.heap.size w w':=by
 have HB:=hk.regsL;have KE:Hid (∀v,Calls prog 106 #[.int .i64 i.op] v fun e w'=>e=.returned (.bool (Bg i.op))/\w'=v):=RP i.op;have hr:=hv.regs;obtain⟨p,q,rfl,hrr⟩:=hv.regs;clear hv hk hrr;obtain⟨op,D,A,B,E,nn,bb⟩:=i;unfold Dk;simp only at KE ⊢;have C5:∀n:Int,(Ak n c.regs.length=false/\FN c.regs n= -1)\/∃ (k:Nat) (lb lo:Nat) (K P:Int),n=(k:Int)/\k<c.regs.length/\p=some ⟨lb,lo,none⟩/\w.cell? ⟨lb,lo+k*2,none⟩=some (.int .i64 K)/\w.cell? ⟨lb,lo+k*2+1,none⟩=some (.int .i64 P)/\FN c.regs n=if K==3 then P else -1:=by
  intro n;cases h:Ak n c.regs.length
  ·exact .inl ⟨rfl,by unfold FN;rw[h];rfl⟩
  ·obtain⟨k,rfl,hkl⟩:=CZ h;obtain⟨lb,lo,hp,hc⟩:=hr.at hkl;refine .inr ⟨k,lb,lo,c.regs[k].kind,c.regs[k].par,rfl,hkl,hp,hc.at 0 rfl,hc.at 1 rfl,?_⟩;unfold FN;rw[h,EP rfl hkl,Bool.true_and]
 obtain⟨N,hN⟩:∃N,c.regs.length=N:=⟨_,rfl⟩
 rw[hN]at HB C5 ⊢;clear hr;cases hX:Bg op
 ·rw[hX]at KE;by_cases a29:op=29
  ·subst a29;rw[show F4 ⟨29,D,A,B,E,nn,bb⟩=D from rfl];rcases C5 D with⟨hpl,e9⟩|⟨k,lb,lo,K,P,rfl,hkl,rfl,y0,y1,e9⟩
   ·rw[e9];clear C5 e9;by_cases h0:D<0
    ·exact Hs
    ·have h1:(N:Int)<=D:=by unfold Ak at hpl;simp at hpl;omega
     exact Hs
   ·rw[e9];clear C5 e9;have g0:∀o o',((w.alloc o).alloc o').cell? ⟨lb,lo+k*2,none⟩=some (.int .i64 K):=fun o o'=>kc (bel (A0 _ _) (A0 _ _)) y0;have g1:∀o o',((w.alloc o).alloc o').cell? ⟨lb,lo+k*2+1,none⟩=some (.int .i64 P):=fun o o'=>kc (bel (A0 _ _) (A0 _ _)) y1;by_cases h3:K=3
    ·subst h3;exact Hs
    ·have h3':(K==3)=false:=by simpa using h3
     have h3b:(K != 3)=true:=by simpa using h3
     rw[h3'];clear h3;exact Hs
  by_cases a30:op=30
  ·subst a30;rw[show F4 ⟨30,D,A,B,E,nn,bb⟩=D from rfl];rcases C5 D with⟨hpl,e9⟩|⟨k,lb,lo,K,P,rfl,hkl,rfl,y0,y1,e9⟩
   ·rw[e9];clear C5 e9;by_cases h0:D<0
    ·exact Hs
    ·have h1:(N:Int)<=D:=by unfold Ak at hpl;simp at hpl;omega
     exact Hs
   ·rw[e9];clear C5 e9;have g0:∀o o',((w.alloc o).alloc o').cell? ⟨lb,lo+k*2,none⟩=some (.int .i64 K):=fun o o'=>kc (bel (A0 _ _) (A0 _ _)) y0;have g1:∀o o',((w.alloc o).alloc o').cell? ⟨lb,lo+k*2+1,none⟩=some (.int .i64 P):=fun o o'=>kc (bel (A0 _ _) (A0 _ _)) y1;by_cases h3:K=3
    ·subst h3;exact Hs
    ·have h3':(K==3)=false:=by simpa using h3
     have h3b:(K != 3)=true:=by simpa using h3
     rw[h3'];clear h3;exact Hs
  by_cases a32:op=32
  ·subst a32;rw[show F4 ⟨32,D,A,B,E,nn,bb⟩=D from rfl];rcases C5 D with⟨hpl,e9⟩|⟨k,lb,lo,K,P,rfl,hkl,rfl,y0,y1,e9⟩
   ·rw[e9];clear C5 e9;by_cases h0:D<0
    ·exact Hs
    ·have h1:(N:Int)<=D:=by unfold Ak at hpl;simp at hpl;omega
     exact Hs
   ·rw[e9];clear C5 e9;have g0:∀o o',((w.alloc o).alloc o').cell? ⟨lb,lo+k*2,none⟩=some (.int .i64 K):=fun o o'=>kc (bel (A0 _ _) (A0 _ _)) y0;have g1:∀o o',((w.alloc o).alloc o').cell? ⟨lb,lo+k*2+1,none⟩=some (.int .i64 P):=fun o o'=>kc (bel (A0 _ _) (A0 _ _)) y1;by_cases h3:K=3
    ·subst h3;exact Hs
    ·have h3':(K==3)=false:=by simpa using h3
     have h3b:(K != 3)=true:=by simpa using h3
     rw[h3'];clear h3;exact Hs
  by_cases a31:op=31
  ·subst a31;rw[show F4 ⟨31,D,A,B,E,nn,bb⟩=A from rfl];rcases C5 A with⟨hpl,e9⟩|⟨k,lb,lo,K,P,rfl,hkl,rfl,y0,y1,e9⟩
   ·rw[e9];clear C5 e9;by_cases h0:A<0
    ·exact Hs
    ·have h1:(N:Int)<=A:=by unfold Ak at hpl;simp at hpl;omega
     exact Hs
   ·rw[e9];clear C5 e9;have g0:∀o o',((w.alloc o).alloc o').cell? ⟨lb,lo+k*2,none⟩=some (.int .i64 K):=fun o o'=>kc (bel (A0 _ _) (A0 _ _)) y0;have g1:∀o o',((w.alloc o).alloc o').cell? ⟨lb,lo+k*2+1,none⟩=some (.int .i64 P):=fun o o'=>kc (bel (A0 _ _) (A0 _ _)) y1;by_cases h3:K=3
    ·subst h3;exact Hs
    ·have h3':(K==3)=false:=by simpa using h3
     have h3b:(K != 3)=true:=by simpa using h3
     rw[h3'];clear h3;exact Hs
  by_cases a33:op=33
  ·subst a33;rw[show F4 ⟨33,D,A,B,E,nn,bb⟩=A from rfl];rcases C5 A with⟨hpl,e9⟩|⟨k,lb,lo,K,P,rfl,hkl,rfl,y0,y1,e9⟩
   ·rw[e9];clear C5 e9;by_cases h0:A<0
    ·exact Hs
    ·have h1:(N:Int)<=A:=by unfold Ak at hpl;simp at hpl;omega
     exact Hs
   ·rw[e9];clear C5 e9;have g0:∀o o',((w.alloc o).alloc o').cell? ⟨lb,lo+k*2,none⟩=some (.int .i64 K):=fun o o'=>kc (bel (A0 _ _) (A0 _ _)) y0;have g1:∀o o',((w.alloc o).alloc o').cell? ⟨lb,lo+k*2+1,none⟩=some (.int .i64 P):=fun o o'=>kc (bel (A0 _ _) (A0 _ _)) y1;by_cases h3:K=3
    ·subst h3;exact Hs
    ·have h3':(K==3)=false:=by simpa using h3
     have h3b:(K != 3)=true:=by simpa using h3
     rw[h3'];clear h3;exact Hs
  ·have b29:(op==29)=false:=by simpa using a29
   have b30:(op==30)=false:=by simpa using a30
   have b31:(op==31)=false:=by simpa using a31
   have b32:(op==32)=false:=by simpa using a32
   have b33:(op==33)=false:=by simpa using a33
   rw[show F4 ⟨op,D,A,B,E,nn,bb⟩= -1 by unfold F4;simp[hX,b29,b30,b31,b32,b33]];rw[show FN c.regs (-1)= -1 by unfold FN Ak;simp];clear C5 a29 a30 a31 a32 a33;exact Hs
 ·rw[hX]at KE;rw[show F4 ⟨op,D,A,B,E,nn,bb⟩=D by unfold F4;simp[hX]];rcases C5 D with⟨hpl,e9⟩|⟨k,lb,lo,K,P,rfl,hkl,rfl,y0,y1,e9⟩
  ·rw[e9];clear C5 e9;by_cases h0:D<0
   ·exact Hs
   ·have h1:(N:Int)<=D:=by unfold Ak at hpl;simp at hpl;omega
    exact Hs
  ·rw[e9];clear C5 e9;have g0:∀o o',((w.alloc o).alloc o').cell? ⟨lb,lo+k*2,none⟩=some (.int .i64 K):=fun o o'=>kc (bel (A0 _ _) (A0 _ _)) y0;have g1:∀o o',((w.alloc o).alloc o').cell? ⟨lb,lo+k*2+1,none⟩=some (.int .i64 P):=fun o o'=>kc (bel (A0 _ _) (A0 _ _)) y1;by_cases h3:K=3
   ·subst h3;exact Hs
   ·have h3':(K==3)=false:=by simpa using h3
    have h3b:(K != 3)=true:=by simpa using h3
    rw[h3'];clear h3;exact Hs
theorem Ye(w:World)(FR WB N ib io A B:Nat)(ya yb nn:Int)(hN:N<=16384)(hA:A<N)(hB:B<N)(pa:0<=ya/\ya<=2147483647)(pb:0<=yb/\yb<=2147483647)
 (f3:w.cell? ⟨FR,3,none⟩=some (.slice (some ⟨WB,0,none⟩) N N)) (i0:w.cell? ⟨ib,io,none⟩=some (.int .i64 2)) (i2:w.cell? ⟨ib,io+2,none⟩=some (.int .i64 (A:Int))) (i3:w.cell? ⟨ib,io+3,none⟩=some (.int .i64 (B:Int))) (k1:w.cell? ⟨WB,A,none⟩=some (.int .i64 ya)) (k2:w.cell? ⟨WB,B,none⟩=some (.int .i64 yb)) (i5:w.cell? ⟨ib,io+5,none⟩=some (.int .i64 nn)):
 Calls prog 71 #[.pointer (some ⟨FR,0,none⟩),.pointer (some ⟨ib,io,none⟩)] w fun e w'=>e=.returned (.int .i64 nn)/\Below w.heap.size w w':=by
 go_enter func71,ntmps71;go_wp2;refine rG (fun v=>v.cell? ⟨FR,3,none⟩=some (.slice (some ⟨WB,0,none⟩) N N)/\v.cell? ⟨ib,io+2,none⟩=some (.int .i64 (A:Int))/\v.cell? ⟨WB,A,none⟩=some (.int .i64 ya)/\v.cell? ⟨ib,io+3,none⟩=some (.int .i64 (B:Int))/\v.cell? ⟨WB,B,none⟩=some (.int .i64 yb)) fun hHeld=>?_;refine Tf 0 1 2 3 4 5 ?_;refine Tf 6 7 8 9 10 11 ?_;refine Tf 12 13 14 15 16 17 ?_;refine Tc 18 19 20 ?_;refine AI 21 ?_;refine wpAnyH_done kR ?_ _;go_wp2;go_ret;exact⟨rfl,A4 _⟩
theorem VF(w:World)(FR WB N ib io A B:Nat)(ya yb nn:Int)(NB:Nat)(yn:Int)(pn:Ag yn)(hN:N<=16384)(hA:A<N)(hB:B<N)(pa:0<=ya/\ya<=2147483647)(pb:0<=yb/\yb<=2147483647)
 (f3:w.cell? ⟨FR,3,none⟩=some (.slice (some ⟨WB,0,none⟩) N N)) (i0:w.cell? ⟨ib,io,none⟩=some (.int .i64 18)) (i2:w.cell? ⟨ib,io+2,none⟩=some (.int .i64 (A:Int))) (i3:w.cell? ⟨ib,io+3,none⟩=some (.int .i64 (B:Int))) (k1:w.cell? ⟨WB,A,none⟩=some (.int .i64 ya)) (k2:w.cell? ⟨WB,B,none⟩=some (.int .i64 yb)) (f2:w.cell? ⟨FR,2,none⟩=some (.slice (some ⟨NB,0,none⟩) N N)) (k0:w.cell? ⟨NB,A,none⟩=some (.int .u32 yn)):
 Calls prog 71 #[.pointer (some ⟨FR,0,none⟩),.pointer (some ⟨ib,io,none⟩)] w fun e w'=>e=.returned (.int .i64 (B6 (FY yn 1065353216 0==1065353216)))/\Below w.heap.size w w':=by
 have HP:Hid (Ag yn):=pn;clear pn;go_enter func71,ntmps71;go_wp2;refine rG (fun v=>v.cell? ⟨FR,3,none⟩=some (.slice (some ⟨WB,0,none⟩) N N)/\v.cell? ⟨ib,io+2,none⟩=some (.int .i64 (A:Int))/\v.cell? ⟨WB,A,none⟩=some (.int .i64 ya)/\v.cell? ⟨ib,io+3,none⟩=some (.int .i64 (B:Int))/\v.cell? ⟨WB,B,none⟩=some (.int .i64 yb)) fun hHeld=>?_;refine Tf 0 1 2 3 4 5 ?_;refine Tf 6 7 8 9 10 11 ?_;refine Tf 12 13 14 15 16 17 ?_;refine Tc 18 19 20 ?_;refine AI 21 ?_;refine wpAnyH_done kR ?_ _;go_wp2;refine rG (fun v=>v.cell? ⟨FR,2,none⟩=some (.slice (some ⟨NB,0,none⟩) N N)/\v.cell? ⟨ib,io+2,none⟩=some (.int .i64 (A:Int))/\v.cell? ⟨NB,A,none⟩=some (.int .u32 yn)) fun hHeld=>?_;refine Tf 0 1 2 3 4 5 ?_;refine Tc 6 7 8 ?_;refine AI 9 ?_;clear hHeld;refine Ao 10 fun K hK=>?_;go_simp;(go_at_call 114;refine(Rh _ HP.out _).mono ?_;rintro e w1 ⟨rfl,hw'⟩;obtain rfl:=hw'.symm);try(go_wp2_with fail)
 refine An hK fun hHeld=>?_;clear hK K;clear hHeld;refine Ao 11 fun K hK=>?_;go_simp;(go_at_call 113;refine(Ix _ _).mono ?_;rintro e w1 ⟨rfl,hw'⟩;obtain rfl:=hw'.symm);try(go_wp2_with fail)
 refine An hK fun hHeld=>?_;clear hK K;refine AI 12 ?_;refine wpAnyH_done kR ?_ _;go_wp2;go_ret;exact⟨rfl,bel (A4 _) (A4 _)⟩
theorem VH(w:World)(FR WB N ib io A B:Nat)(ya yb nn:Int)(hN:N<=16384)(hA:A<N)(hB:B<N)(pa:0<=ya/\ya<=2147483647)(pb:0<=yb/\yb<=2147483647)
 (f3:w.cell? ⟨FR,3,none⟩=some (.slice (some ⟨WB,0,none⟩) N N)) (i0:w.cell? ⟨ib,io,none⟩=some (.int .i64 22)) (i2:w.cell? ⟨ib,io+2,none⟩=some (.int .i64 (A:Int))) (i3:w.cell? ⟨ib,io+3,none⟩=some (.int .i64 (B:Int))) (k1:w.cell? ⟨WB,A,none⟩=some (.int .i64 ya)) (k2:w.cell? ⟨WB,B,none⟩=some (.int .i64 yb)):
 Calls prog 71 #[.pointer (some ⟨FR,0,none⟩),.pointer (some ⟨ib,io,none⟩)] w fun e w'=>e=.returned (.int .i64 (B6 (decide (ya<yb))))/\Below w.heap.size w w':=by
 exact ZQ
theorem VI(w:World)(FR WB N ib io A B:Nat)(ya yb nn:Int)(hN:N<=16384)(hA:A<N)(hB:B<N)(pa:0<=ya/\ya<=2147483647)(pb:0<=yb/\yb<=2147483647)
 (f3:w.cell? ⟨FR,3,none⟩=some (.slice (some ⟨WB,0,none⟩) N N)) (i0:w.cell? ⟨ib,io,none⟩=some (.int .i64 23)) (i2:w.cell? ⟨ib,io+2,none⟩=some (.int .i64 (A:Int))) (i3:w.cell? ⟨ib,io+3,none⟩=some (.int .i64 (B:Int))) (k1:w.cell? ⟨WB,A,none⟩=some (.int .i64 ya)) (k2:w.cell? ⟨WB,B,none⟩=some (.int .i64 yb)):
 Calls prog 71 #[.pointer (some ⟨FR,0,none⟩),.pointer (some ⟨ib,io,none⟩)] w fun e w'=>e=.returned (.int .i64 (B6 (ya==yb)))/\Below w.heap.size w w':=by
 exact ZQ
theorem VK(w:World)(FR WB N ib io A B:Nat)(ya yb nn:Int)(hN:N<=16384)(hA:A<N)(hB:B<N)(pa:0<=ya/\ya<=2147483647)(pb:0<=yb/\yb<=2147483647)
 (f3:w.cell? ⟨FR,3,none⟩=some (.slice (some ⟨WB,0,none⟩) N N)) (i0:w.cell? ⟨ib,io,none⟩=some (.int .i64 25)) (i2:w.cell? ⟨ib,io+2,none⟩=some (.int .i64 (A:Int))) (i3:w.cell? ⟨ib,io+3,none⟩=some (.int .i64 (B:Int))) (k1:w.cell? ⟨WB,A,none⟩=some (.int .i64 ya)) (k2:w.cell? ⟨WB,B,none⟩=some (.int .i64 yb)):
 Calls prog 71 #[.pointer (some ⟨FR,0,none⟩),.pointer (some ⟨ib,io,none⟩)] w fun e w'=>e=.returned (.int .i64 (B6 (ya==0)))/\Below w.heap.size w w':=by
 exact ZQ
theorem VJ(w:World)(FR WB N ib io A B:Nat)(ya yb nn:Int)(hN:N<=16384)(hA:A<N)(hB:B<N)(pa:0<=ya/\ya<=2147483647)(pb:0<=yb/\yb<=2147483647)
 (f3:w.cell? ⟨FR,3,none⟩=some (.slice (some ⟨WB,0,none⟩) N N)) (i0:w.cell? ⟨ib,io,none⟩=some (.int .i64 24)) (i2:w.cell? ⟨ib,io+2,none⟩=some (.int .i64 (A:Int))) (i3:w.cell? ⟨ib,io+3,none⟩=some (.int .i64 (B:Int))) (k1:w.cell? ⟨WB,A,none⟩=some (.int .i64 ya)) (k2:w.cell? ⟨WB,B,none⟩=some (.int .i64 yb)):
 Calls prog 71 #[.pointer (some ⟨FR,0,none⟩),.pointer (some ⟨ib,io,none⟩)] w fun e w'=>e=.returned (.int .i64 (B6 (ya != 0&&yb != 0)))/\Below w.heap.size w w':=by
 by_cases hz:ya=0
 ·have e1:(ya != 0)=false:=by simpa using hz
  have e2:(ya==0)=true:=by simpa using hz
  rw[e1,Bool.false_and];clear hz;exact ZQ
 ·have e1:(ya != 0)=true:=by simpa using hz
  have e2:(ya==0)=false:=by simpa using hz
  rw[e1,Bool.true_and];clear hz;exact ZQ
theorem VG(w:World)(FR WB N ib io A B:Nat)(ya yb nn:Int)(hN:N<=16384)(hA:A<N)(hB:B<N)(pa:0<=ya/\ya<=2147483647)(pb:0<=yb/\yb<=2147483647)
 (f3:w.cell? ⟨FR,3,none⟩=some (.slice (some ⟨WB,0,none⟩) N N)) (i0:w.cell? ⟨ib,io,none⟩=some (.int .i64 21)) (i2:w.cell? ⟨ib,io+2,none⟩=some (.int .i64 (A:Int))) (i3:w.cell? ⟨ib,io+3,none⟩=some (.int .i64 (B:Int))) (k1:w.cell? ⟨WB,A,none⟩=some (.int .i64 ya)) (k2:w.cell? ⟨WB,B,none⟩=some (.int .i64 yb)):
 Calls prog 71 #[.pointer (some ⟨FR,0,none⟩),.pointer (some ⟨ib,io,none⟩)] w fun e w'=>e=.returned (.int .i64 (min ya 2147483646+1))/\Below w.heap.size w w':=by
 by_cases hz:ya<=2147483646
 ·have e1:min ya 2147483646=ya:=oM;have e2:IntKind.i64.wrap (ya+1)=ya+1:=by rw[IntKind.wrap_i64];omega
  exact Zay
 ·have e1:min ya 2147483646=2147483646:=oM;have e3:2147483646<ya:=oM;exact Zay
theorem VM(w:World)(FR WB N ib io A B:Nat)(ya yb nn:Int)(Cc:Nat)(yc:Int)(hC:Cc<N)(hN:N<=16384)(hA:A<N)(hB:B<N)(pa:0<=ya/\ya<=2147483647)(pb:0<=yb/\yb<=2147483647)
 (f3:w.cell? ⟨FR,3,none⟩=some (.slice (some ⟨WB,0,none⟩) N N)) (i0:w.cell? ⟨ib,io,none⟩=some (.int .i64 26)) (i2:w.cell? ⟨ib,io+2,none⟩=some (.int .i64 (A:Int))) (i3:w.cell? ⟨ib,io+3,none⟩=some (.int .i64 (B:Int))) (k1:w.cell? ⟨WB,A,none⟩=some (.int .i64 ya)) (k2:w.cell? ⟨WB,B,none⟩=some (.int .i64 yb)) (i4:w.cell? ⟨ib,io+4,none⟩=some (.int .i64 (Cc:Int))) (k3:w.cell? ⟨WB,Cc,none⟩=some (.int .i64 yc)):
 Calls prog 71 #[.pointer (some ⟨FR,0,none⟩),.pointer (some ⟨ib,io,none⟩)] w fun e w'=>e=.returned (.int .i64 (if ya=0 then yc else yb))/\Below w.heap.size w w':=by
 have KC:=fun w=>NG ya yb yc w;obtain⟨R,hR⟩:∃R,(if ya=0 then yc else yb)=R:=⟨_,rfl⟩
 simp only[hR]at KC ⊢;have HKC:Hid (∀w,Calls prog 115 #[.int .i64 ya,.int .i64 yb,.int .i64 yc] w fun e w'=>e=.returned (.int .i64 R)/\w'=w):=KC;clear KC hR;go_enter func71,ntmps71;go_wp2;refine rG (fun v=>v.cell? ⟨FR,3,none⟩=some (.slice (some ⟨WB,0,none⟩) N N)/\v.cell? ⟨ib,io+2,none⟩=some (.int .i64 (A:Int))/\v.cell? ⟨WB,A,none⟩=some (.int .i64 ya)/\v.cell? ⟨ib,io+3,none⟩=some (.int .i64 (B:Int))/\v.cell? ⟨WB,B,none⟩=some (.int .i64 yb)) fun hHeld=>?_;refine Tf 0 1 2 3 4 5 ?_;refine Tf 6 7 8 9 10 11 ?_;refine Tf 12 13 14 15 16 17 ?_;refine Tc 18 19 20 ?_;refine AI 21 ?_;refine wpAnyH_done kR ?_ _;go_wp2;refine rG (fun v=>v.cell? ⟨FR,3,none⟩=some (.slice (some ⟨WB,0,none⟩) N N)/\v.cell? ⟨ib,io+4,none⟩=some (.int .i64 (Cc:Int))/\v.cell? ⟨WB,Cc,none⟩=some (.int .i64 yc)) fun hHeld=>?_;refine Tf 0 1 2 3 4 5 ?_;refine Tf 6 7 8 9 10 11 ?_;clear hHeld;refine Ao 12 fun K hK=>?_;go_simp;(go_at_call 115;refine(HKC.out _).mono ?_;rintro e w1 ⟨rfl,hw'⟩;obtain rfl:=hw'.symm);try(go_wp2_with fail)
 refine An hK fun hHeld=>?_;clear hK K;refine AI 13 ?_;refine wpAnyH_done kR ?_ _;go_wp2;go_ret;exact⟨rfl,bel (A4 _) (A4 _)⟩
theorem VN(w:World)(FR WB N ib io A B:Nat)(ya yb nn:Int)(hN:N<=16384)(hA:A<N)(hB:B<N)(pa:0<=ya/\ya<=2147483647)(pb:0<=yb/\yb<=2147483647)
 (f3:w.cell? ⟨FR,3,none⟩=some (.slice (some ⟨WB,0,none⟩) N N)) (i0:w.cell? ⟨ib,io,none⟩=some (.int .i64 27)) (i2:w.cell? ⟨ib,io+2,none⟩=some (.int .i64 (A:Int))) (i3:w.cell? ⟨ib,io+3,none⟩=some (.int .i64 (B:Int))) (k1:w.cell? ⟨WB,A,none⟩=some (.int .i64 ya)) (k2:w.cell? ⟨WB,B,none⟩=some (.int .i64 yb)):
 Calls prog 71 #[.pointer (some ⟨FR,0,none⟩),.pointer (some ⟨ib,io,none⟩)] w fun e w'=>e=.returned (.int .i64 (max (ya-yb) 0))/\Below w.heap.size w w':=by
 have e0:IntKind.i64.wrap (ya-yb)=ya-yb:=by rw[IntKind.wrap_i64];omega
 by_cases hz:ya<=yb
 ·have e1:max (ya-yb) 0=0:=oM;exact Zay
 ·have e1:max (ya-yb) 0=ya-yb:=oM;exact Zay
theorem VO(w:World)(FR WB N ib io A B:Nat)(ya yb nn:Int)(hN:N<=16384)(hA:A<N)(hB:B<N)(pa:0<=ya/\ya<=2147483647)(pb:0<=yb/\yb<=2147483647)
 (f3:w.cell? ⟨FR,3,none⟩=some (.slice (some ⟨WB,0,none⟩) N N)) (i0:w.cell? ⟨ib,io,none⟩=some (.int .i64 28)) (i2:w.cell? ⟨ib,io+2,none⟩=some (.int .i64 (A:Int))) (i3:w.cell? ⟨ib,io+3,none⟩=some (.int .i64 (B:Int))) (k1:w.cell? ⟨WB,A,none⟩=some (.int .i64 ya)) (k2:w.cell? ⟨WB,B,none⟩=some (.int .i64 yb)):
 Calls prog 71 #[.pointer (some ⟨FR,0,none⟩),.pointer (some ⟨ib,io,none⟩)] w fun e w'=>e=.returned (.int .i64 (if yb=0 then 0 else ya/yb))/\Below w.heap.size w w':=by
 have KC:=fun w=>U2 ya yb pa pb w;obtain⟨R,hR⟩:∃R,(if yb=0 then 0 else ya/yb)=R:=⟨_,rfl⟩
 simp only[hR]at KC ⊢;have HKC:Hid (∀w,Calls prog 116 #[.int .i64 ya,.int .i64 yb] w fun e w'=>e=.returned (.int .i64 R)/\w'=w):=KC;clear KC hR;go_enter func71,ntmps71;go_wp2;refine rG (fun v=>v.cell? ⟨FR,3,none⟩=some (.slice (some ⟨WB,0,none⟩) N N)/\v.cell? ⟨ib,io+2,none⟩=some (.int .i64 (A:Int))/\v.cell? ⟨WB,A,none⟩=some (.int .i64 ya)/\v.cell? ⟨ib,io+3,none⟩=some (.int .i64 (B:Int))/\v.cell? ⟨WB,B,none⟩=some (.int .i64 yb)) fun hHeld=>?_;refine Tf 0 1 2 3 4 5 ?_;refine Tf 6 7 8 9 10 11 ?_;refine Tf 12 13 14 15 16 17 ?_;refine Tc 18 19 20 ?_;refine AI 21 ?_;refine wpAnyH_done kR ?_ _;go_wp2_with(go_at_call 116;refine(HKC.out _).mono ?_;rintro e w1 ⟨rfl,hw'⟩;obtain rfl:=hw'.symm);go_ret;exact⟨rfl,A4 _⟩
def sl:Nat->Nat:=fun i=>if i=0 then 2 else 1
end Go.Proofs.YtbinohkcolcbfaaGreat
