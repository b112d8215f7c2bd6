import Derived.Test.YtnbccaicijcklaaTks1
import Derived.Test.YtnbccaicijcklaaTks2
import Derived.ChangeKeysEq
namespace Go.Proofs.Ytnbccaicijcklaa
open Go.RowKit Go.Proofs.Try
set_option linter.all false
set_option maxRecDepth 100000
set_option maxHeartbeats 16000000
theorem Ol{l:List Bt}{n:Int}{k:Nat}(h:n=(k:Int))(hk:k<l.length):CN l n=l[k].kind:=by
 subst h;unfold CN;rw[Int.toNat_natCast,List.getElem?_eq_getElem hk];rfl
theorem NM{l:List Sl}{n:Int}{k:Nat}(h:n=(k:Int))(hk:k<l.length):CJ l n=l[k].ty:=by
 subst h;unfold CJ;rw[Int.toNat_natCast,List.getElem?_eq_getElem hk];rfl
theorem IY(C:Nat)(v0 v1 v2 v3:Value)(c:Cd)(hk:Ba c)(n:Int)(m:Ty)(w:World)(hc:BC w C v0 v1 v2 v3 c)(hp:n=1->Ar m.par c.sign.length=true):
 Calls prog 78 #[.pointer (some ⟨C,0,none⟩),.int .i64 n,.int .i64 9,CP m] w fun e w'=>e=.returned (.bool (n==0||(n==1&&CN c.sign m.par==2)))/\Below w.heap.size w w':=by
 obtain⟨hcc,hcv⟩:=hc;have c1:=hcc.at 0 rfl;rw[Nat.zero_add]at c1;have hC:=Ab c1;simp only at hC;have n1:C≠w.heap.size:=oM;obtain⟨K,P⟩:=m;unfold CP;simp only at hp ⊢;have f1:(w.alloc (.cells #[.int .i64 K,.int .i64 P] 50)).cell? ⟨C,0,none⟩=some v0:=kc (A0 _ _) c1;by_cases h0:n=0
 ·subst h0;clear hp hcv hcc;go_enter func78,ntmps78;go_wp2;refine rG (fun v=>v.cell? ⟨C,0,none⟩=some v0) fun hHeld=>?_;refine Tc 0 1 2 ?_;refine Kd 3 4 5 6 ?_;refine Kd 7 8 9 10 ?_;refine Kd 11 12 13 14 ?_;refine CD 15 ?_;refine CD 16 ?_;refine Tb 17 18 ?_;refine wpAnyH_done kR ?_ _;go_wp2;go_ret;exact⟨rfl,bel (A0 _ _) (Ae _)⟩
 have h0':(n==0)=false:=by simpa using h0
 by_cases h1:n=1
 ·subst h1;obtain⟨k,hxk,hk2⟩:=Cw (hp rfl);have hT:=Ol hxk hk2;subst hxk;have hr:=hcv.sign;obtain⟨p,q,rfl,hrr⟩:=hcv.sign;obtain⟨b,o,rfl,hx⟩:=hr.at hk2;have x1:=hx.at 1 rfl;have hb:=Ab x1;simp only at hb;have n2:b≠w.heap.size:=oM;have HB:=hk.signL;obtain⟨T,hT'⟩:∃T,c.sign[k].kind=T:=⟨_,rfl⟩
  rw[hT']at x1 hT;rw[hT];obtain⟨N,hN⟩:∃N,c.sign.length=N:=⟨_,rfl⟩
  rw[hN]at c1 HB hk2 f1;have f2:(w.alloc (.cells #[.int .i64 K,.int .i64 (k:Int)] 50)).cell? ⟨b,o+k*3+1,none⟩=some (.int .i64 T):=kc (A0 _ _) x1;have i1:(0:Int)<=(k:Int):=oM;have i2:(k:Int)<(N:Int):=oM;clear hp hcv hcc hr hrr hx hT hT' hN h0 hk;go_enter func78,ntmps78;go_wp2;refine rG (fun v=>v.cell? ⟨C,0,none⟩=some (.slice (some ⟨b,o,none⟩) N q)/\v.cell? ⟨b,o+k*3+1,none⟩=some (.int .i64 T)/\v.cell? ⟨w.heap.size,1,none⟩=some (.int .i64 (k:Int))) fun hHeld=>?_;refine Tf 0 1 2 3 4 5 ?_;refine Tf 6 7 8 9 10 11 ?_;refine Tf 12 13 14 15 16 17 ?_;refine Bw 18 ?_;refine wpAnyH_done kR ?_ _;go_wp2;go_ret;exact⟨A8 sM,bel (A0 _ _) (Ae _)⟩
 ·have h1':(n==1)=false:=by simpa using h1
  clear hp hcv hcc h0 h1;go_enter func78,ntmps78;go_wp2;refine rG (fun v=>v.cell? ⟨C,0,none⟩=some v0) fun hHeld=>?_;refine Tf 0 1 2 3 4 5 ?_;refine Kd 6 7 8 9 ?_;refine Kd 10 11 12 13 ?_;refine CD 14 ?_;refine CD 15 ?_;refine Tc 16 17 18 ?_;refine wpAnyH_done kR ?_ _;go_wp2;go_ret;exact⟨A8 (by simp[h0',h1']),bel (A0 _ _) (Ae _)⟩
theorem IZ(C:Nat)(v0 v1 v2 v3:Value)(c:Cd)(hk:Ba c)(n:Int)(m:Ty)(w:World)(hc:BC w C v0 v1 v2 v3 c):
 Calls prog 78 #[.pointer (some ⟨C,0,none⟩),.int .i64 n,.int .i64 10,CP m] w fun e w'=>e=.returned (.bool (Ar n c.slots.length&&decide (CJ c.slots n=m)))/\Below w.heap.size w w':=by
 obtain⟨hcc,hcv⟩:=hc;have c1:=hcc.at 2 rfl;rw[Nat.zero_add]at c1;have hC:=Ab c1;simp only at hC;have n1:C≠w.heap.size:=oM;have HB:=hk.slotsL;have K1:=Cb n c.slots.length;have hr:=hcv.slots;obtain⟨p,q,rfl,hrr⟩:=hcv.slots;obtain⟨X,hX⟩:∃X,Ar n c.slots.length=X:=⟨_,rfl⟩
 simp only[hX]at K1;rw[hX];obtain⟨K,P⟩:=m;unfold CP;simp only;cases X
 ·clear hr hrr hcc hcv;obtain⟨N,hN⟩:∃N,c.slots.length=N:=⟨_,rfl⟩
  rw[hN]at K1 c1 HB;have HK:Hid (∀w,Calls prog 74 #[.int .i64 n,.int .i64 N] w fun e w'=>e=.returned (.bool false)/\w'=w):=K1;clear hN K1 hX hk;have f1:(w.alloc (.cells #[.int .i64 K,.int .i64 P] 50)).cell? ⟨C,2,none⟩=some (.slice p N q):=kc (A0 _ _) c1;go_enter func78,ntmps78;go_wp2;refine rG (fun v=>v.cell? ⟨C,2,none⟩=some (.slice p N q)) fun hHeld=>?_;exact S7
 ·obtain⟨k,hnk,hkl⟩:=Cw hX;rw[NM hnk hkl];obtain⟨b,o,hp,hx⟩:=hr.at hkl;subst hp;subst hnk;have x0:=hx.at 0 rfl;have x1:=hx.at 1 rfl;rw[Nat.add_zero]at x0;have hbl:=Ab x0;simp only at hbl;have n2:b≠w.heap.size:=oM;obtain⟨T,hT⟩:∃T,c.slots[k].ty=T:=⟨_,rfl⟩
  rw[hT]at x0 x1 ⊢;obtain⟨D,E⟩:=T;simp only at x0 x1;rw[NW];obtain⟨N,hN⟩:∃N,c.slots.length=N:=⟨_,rfl⟩
  rw[hN]at K1 c1 HB hkl;have HK:Hid (∀w,Calls prog 74 #[.int .i64 (k:Int),.int .i64 N] w fun e w'=>e=.returned (.bool true)/\w'=w):=K1;have f1:(w.alloc (.cells #[.int .i64 K,.int .i64 P] 50)).cell? ⟨C,2,none⟩=some (.slice (some ⟨b,o,none⟩) N q):=kc (A0 _ _) c1;have f2:(w.alloc (.cells #[.int .i64 K,.int .i64 P] 50)).cell? ⟨b,o+k*5,none⟩=some (.int .i64 D):=kc (A0 _ _) x0;have f3:(w.alloc (.cells #[.int .i64 K,.int .i64 P] 50)).cell? ⟨b,o+k*5+1,none⟩=some (.int .i64 E):=kc (A0 _ _) x1;have i1:(0:Int)<=(k:Int):=oM;have i2:(k:Int)<(N:Int):=oM;clear hN K1 hX hr hrr hcc hcv hx hT hk;cases hl:(D==K)<;>cases hq:(E==P)
  all_goals
   go_enter func78,ntmps78;go_wp2;refine rG (fun v=>v.cell? ⟨C,2,none⟩=some (.slice (some ⟨b,o,none⟩) N q)/\v.cell? ⟨b,o+k*5,none⟩=some (.int .i64 D)/\v.cell? ⟨b,o+k*5+1,none⟩=some (.int .i64 E)/\v.cell? ⟨w.heap.size,0,none⟩=some (.int .i64 K)/\v.cell? ⟨w.heap.size,1,none⟩=some (.int .i64 P)) fun hHeld=>?_;refine Tf 0 1 2 3 4 5 ?_;clear hHeld;refine Ax 6 fun K hK=>?_;go_simp;(go_at_call 74;refine(HK.out _).mono ?_;rintro e w1 ⟨rfl,rfl⟩);try(go_wp2_with fail)
   refine Aw hK fun hHeld=>?_;clear hK K;refine Tf 7 8 9 10 11 12 ?_;refine Tf 13 14 15 16 17 18 ?_;refine Bw 19 ?_;refine wpAnyH_done kR ?_ _;go_wp2;go_ret;exact⟨A8 (by simp[hl,hq]),bel (A0 _ _) (Ae _)⟩
theorem L9(C:Nat)(v0 v1 v2 v3:Value)(c:Cd)(hk:Ba c)(n l:Int)(m:Ty)(w:World)(hc:BC w C v0 v1 v2 v3 c)(hp:l=9->Ar m.par c.sign.length=true):
 Calls prog 78 #[.pointer (some ⟨C,0,none⟩),.int .i64 n,.int .i64 l,CP m] w fun e w'=>e=.returned (.bool (Fl c n l m))/\Below w.heap.size w w':=by
 unfold Fl;by_cases h8:l=8
 ·subst h8;rw[if_pos rfl];have HK:Hid (∀w,Calls prog 75 #[.int .i64 n] w fun e w'=>e=.returned (.bool (CB n))/\w'=w):=Fm n;unfold CP;clear hp hc;go_enter func78,ntmps78;go_wp2_with(go_at_call 75;refine(HK.out _).mono ?_;rintro e w1 ⟨rfl,rfl⟩);go_ret;exact⟨rfl,A0 _ _⟩
 rw[if_neg h8];by_cases h9:l=9
 ·subst h9;rw[if_pos rfl];exact IY C v0 v1 v2 v3 c hk n m w hc fun _=>hp rfl
 rw[if_neg h9];by_cases h10:l=10
 ·subst h10;rw[if_pos rfl];exact IZ C v0 v1 v2 v3 c hk n m w hc
 rw[if_neg h10];have h8':(l==8)=false:=by simpa using h8
 have h9':(l==9)=false:=by simpa using h9
 have h10':(l==10)=false:=by simpa using h10
 clear h8 h9 h10 hp;by_cases h11:l=11
 ·subst h11;rw[if_pos rfl];have K1:=Cb n c.sign.length;have HB:=hk.signL;obtain⟨hcc,hcv⟩:=hc;have c1:=hcc.at 0 rfl;rw[Nat.zero_add]at c1;have hC:=Ab c1;simp only at hC;have n1:C≠w.heap.size:=oM;obtain⟨p,q,rfl,hrr⟩:=hcv.sign;obtain⟨X,hX⟩:∃X,Ar n c.sign.length=X:=⟨_,rfl⟩
  simp only[hX]at K1;rw[hX];obtain⟨N,hN⟩:∃N,c.sign.length=N:=⟨_,rfl⟩
  rw[hN]at K1 c1 HB;have HK:Hid (∀w,Calls prog 74 #[.int .i64 n,.int .i64 N] w fun e w'=>e=.returned (.bool X)/\w'=w):=K1;clear hN K1 hX hrr hcc hcv hk h8' h9' h10';unfold CP;go_enter func78,ntmps78;exact SU
 rw[if_neg h11];have h11':(l==11)=false:=by simpa using h11
 clear h11 hc;unfold CP;go_enter func78,ntmps78;go_wp2;go_ret;exact⟨rfl,A0 _ _⟩
theorem GS(C:Nat)(v0 v1 v2 v3:Value)(c:Cd)(hk:Ba c)(b o:Nat)(i:Aa)(l:Int)(m:Ty)(w:World)(hc:BC w C v0 v1 v2 v3 c)(hi:Ai w b o (Bf i))(h0:0<=i.bits)(h1:i.bits<4294967296)(hp:l=9->Ar m.par c.sign.length=true):
 Calls prog 61 #[.pointer (some ⟨C,0,none⟩),.pointer (some ⟨b,o,none⟩),.int .i64 l,CP m] w fun e w'=>e=.returned (.bool (BD c i l m))/\Below w.heap.size w w':=by
 have e5:=hi.at 5 rfl;have e6:=hi.at 6 rfl;have hb:=Ab e5;simp only at hb;have n1:b≠w.heap.size:=oM;have K1:=FL i.bits h0 h1;have K2:=fun w h=>L9 C v0 v1 v2 v3 c hk i.n l m w h hp;unfold BD;obtain⟨X,hX⟩:∃X,BL i.bits=X:=⟨_,rfl⟩
 obtain⟨Y,hY⟩:∃Y,Fl c i.n l m=Y:=⟨_,rfl⟩
 simp only[hX]at K1 ⊢;simp only[hY]at K2 ⊢;obtain⟨bt,hbt⟩:∃x,i.bits=x:=⟨_,rfl⟩
 obtain⟨n,hn⟩:∃x,i.n=x:=⟨_,rfl⟩
 rw[hbt]at e6 K1 ⊢;rw[hn]at e5 K2 ⊢;have HK:Hid (∀w,Calls prog 76 #[.int .u32 bt] w fun e w'=>e=.returned (.bool X)/\w'=w):=K1;obtain⟨K,P⟩:=m;unfold CP at K2 ⊢;simp only at K2 ⊢;have HN:Hid (∀w,BC w C v0 v1 v2 v3 c->Calls prog 78 #[.pointer (some ⟨C,0,none⟩),.int .i64 n,.int .i64 l,.agg #[.int .i64 K,.int .i64 P]] w fun e w'=>e=.returned (.bool Y)/\Below w.heap.size w w'):=K2;have f5:(w.alloc (.cells #[.int .i64 K,.int .i64 P] 50)).cell? ⟨b,o+5,none⟩=some (.int .i64 n):=kc (A0 _ _) e5;have f6:(w.alloc (.cells #[.int .i64 K,.int .i64 P] 50)).cell? ⟨b,o+6,none⟩=some (.int .u32 bt):=kc (A0 _ _) e6;have HC0:Hid (BC w C v0 v1 v2 v3 c):=hc;clear K1 K2 hX hY hbt hn hi hp h0 h1 hk hc;by_cases h7:l=7
 ·subst h7;rw[if_pos rfl];clear HN;cases hz:(n==0)
  all_goals
   go_enter func61,ntmps61;go_wp2_with(go_at_call 76;refine(HK.out _).mono ?_;rintro e w1 ⟨rfl,rfl⟩);go_ret;exact⟨A8 (by simp[hz]),A0 _ _⟩
 rw[if_neg h7];have h7':(l==7)=false:=by simpa using h7
 clear h7 HK;cases hz:(bt==0)
 ·go_enter func61,ntmps61;go_wp2;refine rG (fun v=>v.cell? ⟨b,o+5,none⟩=some (.int .i64 n)/\v.cell? ⟨b,o+6,none⟩=some (.int .u32 bt)) fun hHeld=>?_;refine Tf 0 1 2 3 4 5 ?_;refine Kd 6 7 8 9 ?_;refine Kd 10 11 12 13 ?_;refine Tb 14 15 ?_;refine wpAnyH_done kR ?_ _;go_wp2;go_ret;exact⟨A8 (by simp[hz]),bel (A0 _ _) (Ae _)⟩
 ·go_enter func61,ntmps61;go_wp2;have HC:Hid (∀v,Below (w.alloc (.cells #[.int .i64 K,.int .i64 P] 50)).heap.size (w.alloc (.cells #[.int .i64 K,.int .i64 P] 50)) v->v.cell? ⟨b,o+5,none⟩=some (.int .i64 n)/\v.cell? ⟨b,o+6,none⟩=some (.int .u32 bt)/\v.cell? ⟨w.heap.size,0,none⟩=some (.int .i64 K)/\v.cell? ⟨w.heap.size,1,none⟩=some (.int .i64 P)):=
   fun v hv=>⟨kc hv f5,kc hv f6,kc hv sG,kc hv sG⟩
  refine rG (fun v=>v.cell? ⟨b,o+5,none⟩=some (.int .i64 n)/\v.cell? ⟨b,o+6,none⟩=some (.int .u32 bt)/\v.cell? ⟨w.heap.size,0,none⟩=some (.int .i64 K)/\v.cell? ⟨w.heap.size,1,none⟩=some (.int .i64 P)) fun hHeld=>?_;refine Tf 0 1 2 3 4 5 ?_;refine Tf 6 7 8 9 10 11 ?_;refine Bw 12 ?_;clear hHeld;refine Ax 13 fun K hK=>?_;go_simp;(go_at_call 78;refine(HN.out _ ((HC0.out.below (A0 _ _)).below (Ae _))).mono ?_;rintro e w1 ⟨rfl,hb1⟩;have HB1:=bel (Ae _) hb1;obtain⟨y0,y1,y2,y3⟩:=HC.out w1 HB1);try(go_wp2_with fail)
  refine Aw hK fun hHeld=>?_;clear hK K;refine Tb 14 15 ?_;refine wpAnyH_done kR ?_ _;go_wp2;go_ret;exact⟨A8 (by simp[hz]),bel (A0 _ _) HB1⟩
theorem Dt(b o:Nat)(i:Aa)(w:World)(hi:Ai w b o (Bf i)):
 Calls prog 59 #[.pointer (some ⟨b,o,none⟩)] w fun e w'=>e=.returned (.agg #[.int .i64 i.d,.int .i64 i.a,.int .i64 i.b,.int .i64 i.c])/\Below w.heap.size w w':=by
 have e1:=hi.at 1 rfl;have e2:=hi.at 2 rfl;have e3:=hi.at 3 rfl;have e4:=hi.at 4 rfl;have hb:=Ab e1;simp only at hb;have n1:b≠w.heap.size:=oM;have f1:(w.alloc (.cells #[.int .i64 0,.int .i64 0,.int .i64 0,.int .i64 0] 115)).cell? ⟨b,o+1,none⟩=some (.int .i64 i.d):=kc (A0 w _) e1;have f2:(w.alloc (.cells #[.int .i64 0,.int .i64 0,.int .i64 0,.int .i64 0] 115)).cell? ⟨b,o+2,none⟩=some (.int .i64 i.a):=kc (A0 w _) e2;have f3:(w.alloc (.cells #[.int .i64 0,.int .i64 0,.int .i64 0,.int .i64 0] 115)).cell? ⟨b,o+3,none⟩=some (.int .i64 i.b):=kc (A0 w _) e3;have f4:(w.alloc (.cells #[.int .i64 0,.int .i64 0,.int .i64 0,.int .i64 0] 115)).cell? ⟨b,o+4,none⟩=some (.int .i64 i.c):=kc (A0 w _) e4;clear hi;go_enter func59,ntmps59;go_wp2;refine rG (fun v=>v.cell? ⟨b,o+1,none⟩=some (.int .i64 i.d)/\v.cell? ⟨b,o+2,none⟩=some (.int .i64 i.a)/\v.cell? ⟨b,o+3,none⟩=some (.int .i64 i.b)/\v.cell? ⟨b,o+4,none⟩=some (.int .i64 i.c)) fun hHeld=>?_;refine Tf 0 1 2 3 4 5 ?_;refine Tf 6 7 8 9 10 11 ?_;refine Tc 12 13 14 ?_;refine Tb 15 16 ?_;clear hHeld;refine Ax 17 fun K hK=>?_;go_simp;refine Aw hK fun hHeld=>?_;clear hK K;refine wpAnyH_done kR ?_ _;go_wp2;refine bodyPost_ret (by simp[results,results59,go_sem, *];try rfl) rfl ?_;exact⟨rfl,gG⟩
theorem Mb(D A B E:Int)(w:World):
 (Instr.index 115 (.agg #[.int .i64 D,.int .i64 A,.int .i64 B,.int .i64 E]) (.int .i64 0)).run prog w=.ok (.int .i64 D) w/\
 (Instr.index 115 (.agg #[.int .i64 D,.int .i64 A,.int .i64 B,.int .i64 E]) (.int .i64 1)).run prog w=.ok (.int .i64 A) w/\
 (Instr.index 115 (.agg #[.int .i64 D,.int .i64 A,.int .i64 B,.int .i64 E]) (.int .i64 2)).run prog w=.ok (.int .i64 B) w/\
 (Instr.index 115 (.agg #[.int .i64 D,.int .i64 A,.int .i64 B,.int .i64 E]) (.int .i64 3)).run prog w=.ok (.int .i64 E) w:=by
 refine⟨?_,?_,?_,?_⟩<;>simp[Instr.index,run_underlying underlying115,asIntOf,part,go_sem]
structure FW(w:World)(G:Nat)(L0 L1 L2 L3 L4 K P:Int)(v:World):Prop where
 bel:Below w.heap.size w v
 r0:v.cell? ⟨w.heap.size,0,none⟩=some (.int .i64 L0)
 r1:v.cell? ⟨w.heap.size,1,none⟩=some (.int .i64 L1)
 r2:v.cell? ⟨w.heap.size,2,none⟩=some (.int .i64 L2)
 r3:v.cell? ⟨w.heap.size,3,none⟩=some (.int .i64 L3)
 r4:v.cell? ⟨w.heap.size,4,none⟩=some (.int .i64 L4)
 m0:v.cell? ⟨G,0,none⟩=some (.int .i64 K)
 m1:v.cell? ⟨G,1,none⟩=some (.int .i64 P)
theorem FW.next{w:World}{G:Nat}{L0 L1 L2 L3 L4 K P:Int}{v v':World}(h:FW w G L0 L1 L2 L3 L4 K P v)(k:Below v.heap.size v v'):FW w G L0 L1 L2 L3 L4 K P v':=
 ⟨Go.Proofs.Ytnbccaicijcklaa.bel h.bel k,kc k h.r0,kc k h.r1,kc k h.r2,kc k h.r3,kc k h.r4,kc k h.m0,kc k h.m1⟩
theorem M5(C:Nat)(v0 v1 v2 v3:Value)(c:Cd)(hk:Ba c)(b o:Nat)(i:Aa)(r:Rw)(w:World)(hc:BC w C v0 v1 v2 v3 c)(hi:Ai w b o (Bf i))(h0:0<=i.bits)(h1:i.bits<4294967296)
 (hp:Af c.regs r.d i.d (Az c.regs i r)=true->Af c.regs r.a i.a (Az c.regs i r)=true->r.n=9->Ar (Az c.regs i r).par c.sign.length=true):
 Calls prog 42 #[.pointer (some ⟨C,0,none⟩),.pointer (some ⟨b,o,none⟩),Cg r] w fun e w'=>e=.returned (.bool (AW c i r))/\Below w.heap.size w w':=by
 have KM:=fun w h k=>Ez C v0 v1 v2 v3 c hk b o i r w h k;have KR:=fun w k=>Dt b o i w k;have K0:=fun w h=>BG C v0 v1 v2 v3 c hk r.d i.d (Az c.regs i r) w h;have K1:=fun w h=>BG C v0 v1 v2 v3 c hk r.a i.a (Az c.regs i r) w h;have K2:=fun w h=>BG C v0 v1 v2 v3 c hk r.b i.b (Az c.regs i r) w h;have K3:=fun w h=>BG C v0 v1 v2 v3 c hk r.c i.c (Az c.regs i r) w h;have K4:=fun hq w h k=>GS C v0 v1 v2 v3 c hk b o i r.n (Az c.regs i r) w h k h0 h1 hq;have HC0:Hid (BC w C v0 v1 v2 v3 c):=hc;have HI0:Hid (Ai w b o (Bf i)):=hi;have hfc:AW c i r=(Af c.regs r.d i.d (Az c.regs i r)&&(Af c.regs r.a i.a (Az c.regs i r)&&(Af c.regs r.b i.b (Az c.regs i r)&&(Af c.regs r.c i.c (Az c.regs i r)&&BD c i r.n (Az c.regs i r))))):=rfl;rw[hfc];clear hfc hc hi hk h0 h1;obtain⟨M,hM⟩:∃M,Az c.regs i r=M:=⟨_,rfl⟩
 simp only[hM]at KM K0 K1 K2 K3 K4 hp ⊢;obtain⟨X0,hX0⟩:∃X,Af c.regs r.d i.d M=X:=⟨_,rfl⟩
 obtain⟨X1,hX1⟩:∃X,Af c.regs r.a i.a M=X:=⟨_,rfl⟩
 obtain⟨X2,hX2⟩:∃X,Af c.regs r.b i.b M=X:=⟨_,rfl⟩
 obtain⟨X3,hX3⟩:∃X,Af c.regs r.c i.c M=X:=⟨_,rfl⟩
 obtain⟨Y,hY⟩:∃X,BD c i r.n M=X:=⟨_,rfl⟩
 simp only[hX0]at K0 hp ⊢;simp only[hX1]at K1 hp ⊢;simp only[hX2]at K2 ⊢;simp only[hX3]at K3 ⊢;simp only[hY]at K4 ⊢;obtain⟨L0,L1,L2,L3,L4⟩:=r;obtain⟨K,P⟩:=M;obtain⟨io,D,A,B,E,n,bt⟩:=i;unfold Cg at KM ⊢;unfold CP at KM K0 K1 K2 K3 K4;simp only at KM KR K0 K1 K2 K3 K4 hp ⊢;have HKM:Hid (∀w,BC w C v0 v1 v2 v3 c->Ai w b o (Bf ⟨io,D,A,B,E,n,bt⟩)->Calls prog 58 #[.pointer (some ⟨C,0,none⟩),.pointer (some ⟨b,o,none⟩),.agg #[.int .i64 L0,.int .i64 L1,.int .i64 L2,.int .i64 L3,.int .i64 L4]] w fun e w'=>e=.returned (.agg #[.int .i64 K,.int .i64 P])/\Below w.heap.size w w'):=KM;have HKR:Hid (∀w,Ai w b o (Bf ⟨io,D,A,B,E,n,bt⟩)->Calls prog 59 #[.pointer (some ⟨b,o,none⟩)] w fun e w'=>e=.returned (.agg #[.int .i64 D,.int .i64 A,.int .i64 B,.int .i64 E])/\Below w.heap.size w w'):=KR;have HK0:Hid (∀w,BC w C v0 v1 v2 v3 c->Calls prog 60 #[.pointer (some ⟨C,0,none⟩),.int .i64 L0,.int .i64 D,.agg #[.int .i64 K,.int .i64 P]] w fun e w'=>e=.returned (.bool X0)/\Below w.heap.size w w'):=K0;have HK1:Hid (∀w,BC w C v0 v1 v2 v3 c->Calls prog 60 #[.pointer (some ⟨C,0,none⟩),.int .i64 L1,.int .i64 A,.agg #[.int .i64 K,.int .i64 P]] w fun e w'=>e=.returned (.bool X1)/\Below w.heap.size w w'):=K1;have HK2:Hid (∀w,BC w C v0 v1 v2 v3 c->Calls prog 60 #[.pointer (some ⟨C,0,none⟩),.int .i64 L2,.int .i64 B,.agg #[.int .i64 K,.int .i64 P]] w fun e w'=>e=.returned (.bool X2)/\Below w.heap.size w w'):=K2;have HK3:Hid (∀w,BC w C v0 v1 v2 v3 c->Calls prog 60 #[.pointer (some ⟨C,0,none⟩),.int .i64 L3,.int .i64 E,.agg #[.int .i64 K,.int .i64 P]] w fun e w'=>e=.returned (.bool X3)/\Below w.heap.size w w'):=K3;have HK4:Hid ((L4=9->Ar P c.sign.length=true)->∀w,BC w C v0 v1 v2 v3 c->Ai w b o (Bf ⟨io,D,A,B,E,n,bt⟩)->Calls prog 61 #[.pointer (some ⟨C,0,none⟩),.pointer (some ⟨b,o,none⟩),.int .i64 L4,.agg #[.int .i64 K,.int .i64 P]] w fun e w'=>e=.returned (.bool Y)/\Below w.heap.size w w'):=K4;have HP:Hid (X0=true->X1=true->L4=9->Ar P c.sign.length=true):=hp;clear KM KR K0 K1 K2 K3 K4 hp hM hX0 hX1 hX2 hX3 hY;go_enter func42,ntmps42;go_wp2_with(first
  |(go_at_call 58;refine(HKM.out _ (HC0.out.below (A0 _ _)) (HI0.out.below (A0 _ _))).mono ?_;rintro e w1 ⟨rfl,hb1⟩;have HF1:Hid (FW w w1.heap.size L0 L1 L2 L3 L4 K P (w1.alloc (.cells #[.int .i64 K,.int .i64 P] 50))):=(by exact⟨bel (bel (A0 _ _) hb1) (A0 _ _),kc (A0 _ _) (kc hb1 sG),kc (A0 _ _) (kc hb1 sG),kc (A0 _ _) (kc hb1 sG),kc (A0 _ _) (kc hb1 sG),kc (A0 _ _) (kc hb1 sG),sG,sG⟩))
  |(go_at_call 59;refine(HKR.out _ (HI0.out.below HF1.out.bel)).mono ?_;rintro e w2 ⟨rfl,hb2⟩;have HF2:Hid (FW w w1.heap.size L0 L1 L2 L3 L4 K P w2):=HF1.out.next hb2))
 obtain⟨G,hG⟩:∃G,w1.heap.size=G:=⟨_,rfl⟩
 rw[hG]at HF2 ⊢
 go_loopw [16] (fun iv wr=>FW w G L0 L1 L2 L3 L4 K P wr/\∃j:Nat,j<=4/\iv=.int .i64 j/\Hid ((0<j->X0=true)/\(1<j->X1=true)/\(2<j->X2=true)/\(3<j->X3=true))) (fun iv _=>4-(intOf iv).toNat)
 case atStart=>exact⟨HF2.out,0,oM,rfl,⟨fun h=>absurd h oM,fun h=>absurd h oM,fun h=>absurd h oM,fun h=>absurd h oM⟩⟩
 case round=>
  clear HF1 HF2 HKM HKR hb1 hb2 hG;obtain⟨hF,j,hj,rfl,hp⟩:=hrel;have m0:=hF.m0;have m1:=hF.m1;have HF:Hid (FW w G L0 L1 L2 L3 L4 K P wr):=hF;have HC:Hid (∀v,Below wr.heap.size wr v->FW w G L0 L1 L2 L3 L4 K P v):=fun v hv=>HF.out.next hv;obtain rfl|rfl|rfl|rfl|rfl:j=0\/j=1\/j=2\/j=3\/j=4:=oM
  ·have r0:=hF.r0;have ix:∀w,(Instr.index 115 (.agg #[.int .i64 D,.int .i64 A,.int .i64 B,.int .i64 E]) (.int .i64 0)).run prog w=.ok (.int .i64 D) w:=fun w=>(Mb D A B E w).1;clear hF;have HC1:Hid (∀v,Below wr.heap.size wr v->v.cell? ⟨w.heap.size,0,none⟩=some (.int .i64 L0)/\v.cell? ⟨G,0,none⟩=some (.int .i64 K)/\v.cell? ⟨G,1,none⟩=some (.int .i64 P)):=fun v hv=>⟨(HC.out v hv).r0,(HC.out v hv).m0,(HC.out v hv).m1⟩
   cases X0
   ·go_wp2;refine rG (fun v=>v.cell? ⟨w.heap.size,0,none⟩=some (.int .i64 L0)/\v.cell? ⟨G,0,none⟩=some (.int .i64 K)/\v.cell? ⟨G,1,none⟩=some (.int .i64 P)) fun hHeld=>?_;refine Tf 0 1 2 3 4 5 ?_;clear hHeld;refine Ax 6 fun K hK=>?_;go_simp;(go_at_call 60;refine(HK0.out _ ((HC0.out.below HF.out.bel).below (Ae _))).mono ?_;rintro e w3 ⟨rfl,hb3⟩;have HB3:=bel (Ae _) hb3;obtain⟨y0,y1,y2⟩:=HC1.out w3 HB3);exact Qw
   ·go_wp2;refine rG (fun v=>v.cell? ⟨w.heap.size,0,none⟩=some (.int .i64 L0)/\v.cell? ⟨G,0,none⟩=some (.int .i64 K)/\v.cell? ⟨G,1,none⟩=some (.int .i64 P)) fun hHeld=>?_;refine Tf 0 1 2 3 4 5 ?_;clear hHeld;refine Ax 6 fun K hK=>?_;go_simp;(go_at_call 60;refine(HK0.out _ ((HC0.out.below HF.out.bel).below (Ae _))).mono ?_;rintro e w3 ⟨rfl,hb3⟩;have HB3:=bel (Ae _) hb3;obtain⟨y0,y1,y2⟩:=HC1.out w3 HB3);try(go_wp2_with fail)
    refine Aw hK fun hHeld=>?_;clear hK K;refine Bw 7 ?_;refine wpAnyH_done kR ?_ _;go_wp2;go_roundw
    case rel=>exact⟨HC.out w3 HB3,1,oM,by first|rfl|go_num,⟨fun _=>fT,fun h=>absurd h oM,fun h=>absurd h oM,fun h=>absurd h oM⟩⟩
    case measure=>simp[intOf]
  ·have r0:=hF.r1;have ix:∀w,(Instr.index 115 (.agg #[.int .i64 D,.int .i64 A,.int .i64 B,.int .i64 E]) (.int .i64 1)).run prog w=.ok (.int .i64 A) w:=fun w=>(Mb D A B E w).2.1;clear hF;have HC1:Hid (∀v,Below wr.heap.size wr v->v.cell? ⟨w.heap.size,1,none⟩=some (.int .i64 L1)/\v.cell? ⟨G,0,none⟩=some (.int .i64 K)/\v.cell? ⟨G,1,none⟩=some (.int .i64 P)):=fun v hv=>⟨(HC.out v hv).r1,(HC.out v hv).m0,(HC.out v hv).m1⟩
   cases X1
   ·go_wp2;refine rG (fun v=>v.cell? ⟨w.heap.size,1,none⟩=some (.int .i64 L1)/\v.cell? ⟨G,0,none⟩=some (.int .i64 K)/\v.cell? ⟨G,1,none⟩=some (.int .i64 P)) fun hHeld=>?_;refine Tf 0 1 2 3 4 5 ?_;clear hHeld;refine Ax 6 fun K hK=>?_;go_simp;(go_at_call 60;refine(HK1.out _ ((HC0.out.below HF.out.bel).below (Ae _))).mono ?_;rintro e w3 ⟨rfl,hb3⟩;have HB3:=bel (Ae _) hb3;obtain⟨y0,y1,y2⟩:=HC1.out w3 HB3);exact Qw
   ·go_wp2;refine rG (fun v=>v.cell? ⟨w.heap.size,1,none⟩=some (.int .i64 L1)/\v.cell? ⟨G,0,none⟩=some (.int .i64 K)/\v.cell? ⟨G,1,none⟩=some (.int .i64 P)) fun hHeld=>?_;refine Tf 0 1 2 3 4 5 ?_;clear hHeld;refine Ax 6 fun K hK=>?_;go_simp;(go_at_call 60;refine(HK1.out _ ((HC0.out.below HF.out.bel).below (Ae _))).mono ?_;rintro e w3 ⟨rfl,hb3⟩;have HB3:=bel (Ae _) hb3;obtain⟨y0,y1,y2⟩:=HC1.out w3 HB3);try(go_wp2_with fail)
    refine Aw hK fun hHeld=>?_;clear hK K;refine Bw 7 ?_;refine wpAnyH_done kR ?_ _;go_wp2;go_roundw
    case rel=>exact⟨HC.out w3 HB3,2,oM,by first|rfl|go_num,⟨fun _=>hp.out.1 oM,fun _=>fT,fun h=>absurd h oM,fun h=>absurd h oM⟩⟩
    case measure=>simp[intOf]
  ·have r0:=hF.r2;have ix:∀w,(Instr.index 115 (.agg #[.int .i64 D,.int .i64 A,.int .i64 B,.int .i64 E]) (.int .i64 2)).run prog w=.ok (.int .i64 B) w:=fun w=>(Mb D A B E w).2.2.1;clear hF;have HC1:Hid (∀v,Below wr.heap.size wr v->v.cell? ⟨w.heap.size,2,none⟩=some (.int .i64 L2)/\v.cell? ⟨G,0,none⟩=some (.int .i64 K)/\v.cell? ⟨G,1,none⟩=some (.int .i64 P)):=fun v hv=>⟨(HC.out v hv).r2,(HC.out v hv).m0,(HC.out v hv).m1⟩
   cases X2
   ·go_wp2;refine rG (fun v=>v.cell? ⟨w.heap.size,2,none⟩=some (.int .i64 L2)/\v.cell? ⟨G,0,none⟩=some (.int .i64 K)/\v.cell? ⟨G,1,none⟩=some (.int .i64 P)) fun hHeld=>?_;refine Tf 0 1 2 3 4 5 ?_;clear hHeld;refine Ax 6 fun K hK=>?_;go_simp;(go_at_call 60;refine(HK2.out _ ((HC0.out.below HF.out.bel).below (Ae _))).mono ?_;rintro e w3 ⟨rfl,hb3⟩;have HB3:=bel (Ae _) hb3;obtain⟨y0,y1,y2⟩:=HC1.out w3 HB3);exact Qw
   ·go_wp2;refine rG (fun v=>v.cell? ⟨w.heap.size,2,none⟩=some (.int .i64 L2)/\v.cell? ⟨G,0,none⟩=some (.int .i64 K)/\v.cell? ⟨G,1,none⟩=some (.int .i64 P)) fun hHeld=>?_;refine Tf 0 1 2 3 4 5 ?_;clear hHeld;refine Ax 6 fun K hK=>?_;go_simp;(go_at_call 60;refine(HK2.out _ ((HC0.out.below HF.out.bel).below (Ae _))).mono ?_;rintro e w3 ⟨rfl,hb3⟩;have HB3:=bel (Ae _) hb3;obtain⟨y0,y1,y2⟩:=HC1.out w3 HB3);try(go_wp2_with fail)
    refine Aw hK fun hHeld=>?_;clear hK K;refine Bw 7 ?_;refine wpAnyH_done kR ?_ _;go_wp2;go_roundw
    case rel=>exact⟨HC.out w3 HB3,3,oM,by first|rfl|go_num,⟨fun _=>hp.out.1 oM,fun _=>hp.out.2.1 oM,fun _=>fT,fun h=>absurd h oM⟩⟩
    case measure=>simp[intOf]
  ·have r0:=hF.r3;have ix:∀w,(Instr.index 115 (.agg #[.int .i64 D,.int .i64 A,.int .i64 B,.int .i64 E]) (.int .i64 3)).run prog w=.ok (.int .i64 E) w:=fun w=>(Mb D A B E w).2.2.2;clear hF;have HC1:Hid (∀v,Below wr.heap.size wr v->v.cell? ⟨w.heap.size,3,none⟩=some (.int .i64 L3)/\v.cell? ⟨G,0,none⟩=some (.int .i64 K)/\v.cell? ⟨G,1,none⟩=some (.int .i64 P)):=fun v hv=>⟨(HC.out v hv).r3,(HC.out v hv).m0,(HC.out v hv).m1⟩
   cases X3
   ·go_wp2;refine rG (fun v=>v.cell? ⟨w.heap.size,3,none⟩=some (.int .i64 L3)/\v.cell? ⟨G,0,none⟩=some (.int .i64 K)/\v.cell? ⟨G,1,none⟩=some (.int .i64 P)) fun hHeld=>?_;refine Tf 0 1 2 3 4 5 ?_;clear hHeld;refine Ax 6 fun K hK=>?_;go_simp;(go_at_call 60;refine(HK3.out _ ((HC0.out.below HF.out.bel).below (Ae _))).mono ?_;rintro e w3 ⟨rfl,hb3⟩;have HB3:=bel (Ae _) hb3;obtain⟨y0,y1,y2⟩:=HC1.out w3 HB3);exact Qw
   ·go_wp2;refine rG (fun v=>v.cell? ⟨w.heap.size,3,none⟩=some (.int .i64 L3)/\v.cell? ⟨G,0,none⟩=some (.int .i64 K)/\v.cell? ⟨G,1,none⟩=some (.int .i64 P)) fun hHeld=>?_;refine Tf 0 1 2 3 4 5 ?_;clear hHeld;refine Ax 6 fun K hK=>?_;go_simp;(go_at_call 60;refine(HK3.out _ ((HC0.out.below HF.out.bel).below (Ae _))).mono ?_;rintro e w3 ⟨rfl,hb3⟩;have HB3:=bel (Ae _) hb3;obtain⟨y0,y1,y2⟩:=HC1.out w3 HB3);try(go_wp2_with fail)
    refine Aw hK fun hHeld=>?_;clear hK K;refine Bw 7 ?_;refine wpAnyH_done kR ?_ _;go_wp2;go_roundw
    case rel=>exact⟨HC.out w3 HB3,4,oM,by first|rfl|go_num,⟨fun _=>hp.out.1 oM,fun _=>hp.out.2.1 oM,fun _=>hp.out.2.2.1 oM,fun _=>fT⟩⟩
    case measure=>simp[intOf]
  ·have r4:=hF.r4;obtain⟨rfl,rfl,rfl,rfl⟩:X0=true/\X1=true/\X2=true/\X3=true:=⟨hp.out.1 oM,hp.out.2.1 oM,hp.out.2.2.1 oM,hp.out.2.2.2 oM⟩
   clear hF hp;go_wp2_with(go_at_call 61;refine(HK4.out (HP.out rfl rfl) _ (HC0.out.below HF.out.bel) (HI0.out.below HF.out.bel)).mono ?_;rintro e w3 ⟨rfl,hb3⟩);go_ret;exact⟨A8 sM,(HC.out w3 hb3).bel⟩
theorem BJ:(prog.info? 3).map (fun i=>(i.zero,i.size,i.bytes))=some (some (.int .i64 0),1,8):=kR
def B2(l:List Int):List Value:=l.map fun x=>.int .i64 x
theorem C6(l:List Int)(x:Int):B2 (l++[x])=B2 l++[.int .i64 x]:=by simp[B2]
theorem Bc{w:World}{B:Nat}{t:TypeId}{k:Nat}{v:Value}{n:Nat}{xs:List Value}(h:w.ownsRow B t k v n xs)(hn:0<n):
 ∃g cap,v=.slice (some ⟨g,0,none⟩) n cap/\B<=g/\g<w.heap.size/\n<=cap/\cap<=maxLen/\∀ (j:Nat) (u:Value),xs[j]? =some u->w.cell? ⟨g,j,none⟩=some u:=by
 obtain⟨hl,h⟩:=h;rcases h with⟨_,h0⟩|⟨g,cap,cur,hv,hB,hg,hc1,hc2,hsz,htk⟩
 ·omega
 ·refine⟨g,cap,hv,hB,?_,hc1,hc2,fun j u hu=>?_⟩
  ·rcases Nat.lt_or_ge g w.heap.size with c|c
   ·exact c
   ·rw[Array.getElem?_eq_none c]at hg;cases hg
  ·have hj:j<xs.length:=(List.getElem?_eq_some_iff.1 hu).1;rw[←htk,List.getElem?_take_of_lt oM]at hu;simpa[World.cell?,hg]using hu
theorem Ao{w:World}{B:Nat}{t:TypeId}{k:Nat}{v:Value}{n:Nat}{xs:List Value}(h:w.ownsRow B t k v n xs):∃p cap,v=.slice p n cap:=by
 obtain⟨hl,h⟩:=h;rcases h with⟨rfl,rfl⟩|⟨g,cap,cur,hv,-⟩
 ·exact⟨none,0,rfl⟩
 ·exact⟨_,_,hv⟩
theorem A7{w w':World}{B:Nat}{t:TypeId}{k:Nat}{v:Value}{n:Nat}{xs:List Value}(h:w.ownsRow B t k v n xs)(hb:∀g,v.ownBlock=some g->w'.heap[g]? =w.heap[g]?):w'.ownsRow B t k v n xs:=by
 refine⟨h.1,?_⟩;rcases h.2 with h5|⟨g,cap,cur,hv,hB,hg,hr⟩
 ·exact .inl h5
 ·exact .inr ⟨g,cap,cur,hv,hB,(hb g (by rw[hv];rfl)).trans hg,hr⟩
theorem Ac{w w':World}{B:Nat}{t:TypeId}{k:Nat}{v:Value}{n:Nat}{xs:List Value}(h:w.ownsRow B t k v n xs)(q:Below w.heap.size w w'):w'.ownsRow B t k v n xs:=A7 h fun g hg=>q.block g (h.lt g hg).2
theorem AM{w:World}{B B':Nat}{t:TypeId}{k:Nat}{v:Value}{n:Nat}{xs:List Value}(h:w.ownsRow B t k v n xs)(hB:B'<=B):w.ownsRow B' t k v n xs:=
 ⟨h.1,h.2.imp id fun⟨g,cap,cur,h1,h2,h3⟩=>⟨g,cap,cur,h1,Nat.le_trans hB h2,h3⟩⟩
def CQ(L x:Int):List Int:=if L=0 then [] else [x]
theorem D5(i:Aa)(r:Rw):A9 i r=(CQ r.a i.a++CQ r.b i.b)++CQ r.c i.c:=by unfold A9 CQ;simp
theorem Ck(L x:Int):(CQ L x).length<=1:=by unfold CQ;split<;>simp
structure PX(w:World)(G C:Nat)(L1 L2 L3 A B E:Int)(v:World):Prop where
 bel:Below w.heap.size w v
 hC:w.heap.size<C
 hG:G<C
 le:C<=v.heap.size
 r1:v.cell? ⟨w.heap.size,1,none⟩=some (.int .i64 L1)
 r2:v.cell? ⟨w.heap.size,2,none⟩=some (.int .i64 L2)
 r3:v.cell? ⟨w.heap.size,3,none⟩=some (.int .i64 L3)
 g1:v.cell? ⟨G,1,none⟩=some (.int .i64 A)
 g2:v.cell? ⟨G,2,none⟩=some (.int .i64 B)
 g3:v.cell? ⟨G,3,none⟩=some (.int .i64 E)
theorem PX.next{w:World}{G C:Nat}{L1 L2 L3 A B E:Int}{v v':World}(h:PX w G C L1 L2 L3 A B E v)(k:Below C v v'):PX w G C L1 L2 L3 A B E v':=by
 have c1:∀ {a:Addr} {u:Value},a.block<C->v.cell? a=some u->v'.cell? a=some u:=fun ha hu=>(k.cell ha).trans hu;exact⟨h.bel.trans (k.mono (Nat.le_of_lt h.hC)),h.hC,h.hG,Nat.le_trans h.le k.size,c1 h.hC h.r1,c1 h.hC h.r2,c1 h.hC h.r3,c1 h.hG h.g1,c1 h.hG h.g2,c1 h.hG h.g3⟩
theorem Es(b o:Nat)(i:Aa)(r:Rw)(w:World)(hi:Ai w b o (Bf i)):
 Calls prog 44 #[Cg r,.pointer (some ⟨b,o,none⟩)] w fun e w'=>∃v,e=.returned v/\w'.ownsRow w.heap.size 3 1 v (A9 i r).length (B2 (A9 i r))/\Below w.heap.size w w':=by
 rw[D5];have KR:=fun w k=>Dt b o i w k;have HI0:Hid (Ai w b o (Bf i)):=hi;obtain⟨i0,hi0,hz0,hz1,hz3⟩:=info_parts BJ;obtain⟨L0,L1,L2,L3,L4⟩:=r;obtain⟨io,D,A,B,E,n,bt⟩:=i;unfold Cg;simp only at KR ⊢;have HKR:Hid (∀w,Ai w b o (Bf ⟨io,D,A,B,E,n,bt⟩)->Calls prog 59 #[.pointer (some ⟨b,o,none⟩)] w fun e w'=>e=.returned (.agg #[.int .i64 D,.int .i64 A,.int .i64 B,.int .i64 E])/\Below w.heap.size w w'):=KR;clear KR hi;obtain⟨R,hR⟩:∃R,(CQ L1 A++CQ L2 B)++CQ L3 E=R:=⟨_,rfl⟩
 rw[hR];have HR:Hid ((CQ L1 A++CQ L2 B)++CQ L3 E=R):=hR;clear hR;go_enter func44,ntmps44;go_wp2_with(go_at_call 59;refine(HKR.out _ (HI0.out.below (A0 _ _))).mono ?_;rintro e w1 ⟨rfl,hb1⟩);have HF1:Hid (PX w w1.heap.size (w1.heap.size+1) L1 L2 L3 A B E (w1.alloc (.cells #[.int .i64 D,.int .i64 A,.int .i64 B,.int .i64 E] 115))):=by
  have hs:=hb1.size;simp at hs;exact⟨bel (bel (A0 _ _) hb1) (A0 _ _),oM,oM,sM,kc (A0 _ _) (kc hb1 sG),kc (A0 _ _) (kc hb1 sG),kc (A0 _ _) (kc hb1 sG),sG,sG,sG⟩
 obtain⟨G,hG⟩:∃G,w1.heap.size=G:=⟨_,rfl⟩
 obtain⟨W,hW⟩:∃W,w1.alloc (.cells #[.int .i64 D,.int .i64 A,.int .i64 B,.int .i64 E] 115)=W:=⟨_,rfl⟩
 rw[hW]at HF1 ⊢;rw[hG]at HF1 ⊢;clear hG hW
 go_loopw [5,7] (fun lv iv wr=>PX w G (G+1) L1 L2 L3 A B E wr/\∃ (j:Nat) (l:List Int),1<=j/\j<=4/\iv=.int .i64 j/\l.length<=j-1/\Hid (wr.ownsRow (G+1) 3 1 lv l.length (B2 l))/\Hid ((j=1->l=[])/\(j=2->l=CQ L1 A)/\(j=3->l=CQ L1 A++CQ L2 B)/\(j=4->l=(CQ L1 A++CQ L2 B)++CQ L3 E))) (fun _ iv _=>4-(intOf iv).toNat)
 case atStart=>exact⟨HF1.out,1,[],oM,oM,rfl,sM,World.ownsRow_nil _ _ _ 1,⟨fun _=>rfl,fun h=>absurd h oM,fun h=>absurd h oM,fun h=>absurd h oM⟩⟩
 case round=>
  clear HF1 HKR hb1;obtain⟨hF,j,l,hj1,hj,rfl,hll,HO,HL⟩:=hrel;have HF:Hid (PX w G (G+1) L1 L2 L3 A B E wr):=hF;have hGw:=hF.le;have hn1:G≠wr.heap.size:=oM;have hn2:w.heap.size≠wr.heap.size:=by have:=hF.hC;omega
  obtain rfl|rfl|rfl|rfl:j=1\/j=2\/j=3\/j=4:=oM
  ·have r0:=hF.r1;have g0:=hF.g1;have f0:=kc (A0 wr (.cells #[.int .i64 A] 3)) g0;have hl0:=HL.out.1 rfl;clear hF;by_cases hz:L1=0
   ·have hz':(L1 != 0)=false:=by simpa using hz
    have hz2:(L1==0)=true:=by simpa using hz
    have HZ:Hid (L1=0):=hz;clear hz;go_wp2;go_roundw
    case rel=>exact⟨HF.out,2,l,oM,oM,by first|rfl|go_num,oM,HO,⟨fun h=>absurd h oM,fun _=>by rw[hl0];unfold CQ;simp[HZ.out],fun h=>absurd h oM,fun h=>absurd h oM⟩⟩
    case measure=>simp[intOf]
   ·have hz':(L1 != 0)=true:=by simpa using hz
    have hz2:(L1==0)=false:=by simpa using hz
    have HZ:Hid (¬L1=0):=hz;clear hz;go_wp2_with(first
     |(at_builtin;refine wpList_append_own_at _ rfl _ _ 61 rfl (G+1) 3 i0 _ 1 8 underlying61 hi0 hz0 hz1 hz3 rfl dE _ l.length (B2 l) rfl (World.ownsRow.alloc HO.out _) ⟨wr.heap.size,0,none⟩ 1 1 [.int .i64 A] rfl rfl (World.news_of_block (cs:=#[.int .i64 A]) (t:=3) (fr:=(0,0)) (heap_alloc_new wr _)) Jz mL oM sO ?_;intro v' w3 hown3 hgrow hnil hat;have HO3:Hid (w3.ownsRow (G+1) 3 1 v' (l.length+1) (B2 l++[.int .i64 A])):=hown3;have HB3:Hid (Below (G+1) wr w3):=(Below.alloc (Below.refl _ _) hGw _).grown hgrow sO (fun q e=>(HO.out.lt q e).1);clear hown3 hgrow hnil hat))
    go_roundw
    case rel=>exact⟨HF.out.next HB3.out,2,l++[A],oM,oM,by first|rfl|go_num,sO,by show _;rw[List.length_append,C6];exact HO3.out,⟨fun h=>absurd h oM,fun _=>by rw[hl0,show CQ L1 A=[A]from if_neg HZ.out];try rfl,fun h=>absurd h oM,fun h=>absurd h oM⟩⟩
    case measure=>simp[intOf]
  ·have r0:=hF.r2;have g0:=hF.g2;have f0:=kc (A0 wr (.cells #[.int .i64 B] 3)) g0;have hl0:=HL.out.2.1 rfl;clear hF;by_cases hz:L2=0
   ·have hz':(L2 != 0)=false:=by simpa using hz
    have hz2:(L2==0)=true:=by simpa using hz
    have HZ:Hid (L2=0):=hz;clear hz;go_wp2;go_roundw
    case rel=>exact⟨HF.out,3,l,oM,oM,by first|rfl|go_num,oM,HO,⟨fun h=>absurd h oM,fun h=>absurd h oM,fun _=>by rw[hl0];unfold CQ;simp[HZ.out],fun h=>absurd h oM⟩⟩
    case measure=>simp[intOf]
   ·have hz':(L2 != 0)=true:=by simpa using hz
    have hz2:(L2==0)=false:=by simpa using hz
    have HZ:Hid (¬L2=0):=hz;clear hz;go_wp2_with(first
     |(at_builtin;refine wpList_append_own_at _ rfl _ _ 61 rfl (G+1) 3 i0 _ 1 8 underlying61 hi0 hz0 hz1 hz3 rfl dE _ l.length (B2 l) rfl (World.ownsRow.alloc HO.out _) ⟨wr.heap.size,0,none⟩ 1 1 [.int .i64 B] rfl rfl (World.news_of_block (cs:=#[.int .i64 B]) (t:=3) (fr:=(0,0)) (heap_alloc_new wr _)) Jz mL oM sO ?_;intro v' w3 hown3 hgrow hnil hat;have HO3:Hid (w3.ownsRow (G+1) 3 1 v' (l.length+1) (B2 l++[.int .i64 B])):=hown3;have HB3:Hid (Below (G+1) wr w3):=(Below.alloc (Below.refl _ _) hGw _).grown hgrow sO (fun q e=>(HO.out.lt q e).1);clear hown3 hgrow hnil hat))
    go_roundw
    case rel=>exact⟨HF.out.next HB3.out,3,l++[B],oM,oM,by first|rfl|go_num,sO,by show _;rw[List.length_append,C6];exact HO3.out,⟨fun h=>absurd h oM,fun h=>absurd h oM,fun _=>by rw[hl0,show CQ L2 B=[B]from if_neg HZ.out];try rfl,fun h=>absurd h oM⟩⟩
    case measure=>simp[intOf]
  ·have r0:=hF.r3;have g0:=hF.g3;have f0:=kc (A0 wr (.cells #[.int .i64 E] 3)) g0;have hl0:=HL.out.2.2.1 rfl;clear hF;by_cases hz:L3=0
   ·have hz':(L3 != 0)=false:=by simpa using hz
    have hz2:(L3==0)=true:=by simpa using hz
    have HZ:Hid (L3=0):=hz;clear hz;go_wp2;go_roundw
    case rel=>exact⟨HF.out,4,l,oM,oM,by first|rfl|go_num,oM,HO,⟨fun h=>absurd h oM,fun h=>absurd h oM,fun h=>absurd h oM,fun _=>by rw[hl0];unfold CQ;simp[HZ.out]⟩⟩
    case measure=>simp[intOf]
   ·have hz':(L3 != 0)=true:=by simpa using hz
    have hz2:(L3==0)=false:=by simpa using hz
    have HZ:Hid (¬L3=0):=hz;clear hz;go_wp2_with(first
     |(at_builtin;refine wpList_append_own_at _ rfl _ _ 61 rfl (G+1) 3 i0 _ 1 8 underlying61 hi0 hz0 hz1 hz3 rfl dE _ l.length (B2 l) rfl (World.ownsRow.alloc HO.out _) ⟨wr.heap.size,0,none⟩ 1 1 [.int .i64 E] rfl rfl (World.news_of_block (cs:=#[.int .i64 E]) (t:=3) (fr:=(0,0)) (heap_alloc_new wr _)) Jz mL oM sO ?_;intro v' w3 hown3 hgrow hnil hat;have HO3:Hid (w3.ownsRow (G+1) 3 1 v' (l.length+1) (B2 l++[.int .i64 E])):=hown3;have HB3:Hid (Below (G+1) wr w3):=(Below.alloc (Below.refl _ _) hGw _).grown hgrow sO (fun q e=>(HO.out.lt q e).1);clear hown3 hgrow hnil hat))
    go_roundw
    case rel=>exact⟨HF.out.next HB3.out,4,l++[E],oM,oM,by first|rfl|go_num,sO,by show _;rw[List.length_append,C6];exact HO3.out,⟨fun h=>absurd h oM,fun h=>absurd h oM,fun h=>absurd h oM,fun _=>by rw[hl0,show CQ L3 E=[E]from if_neg HZ.out];try rfl⟩⟩
    case measure=>simp[intOf]
  ·exact SE
def Pw(b:Bk):List Value:=[.bool b.loop,.int .i64 b.par,.int .i64 b.ahead]
def BN(l:List Bk):List Value:=l.flatMap Pw
theorem DD(l:List Bk)(b:Bk):BN (l++[b])=BN l++Pw b:=by simp[BN]
theorem Ct:∀l:List Bk,(BN l).length=l.length*3
 |[]=>rfl
 |b::l=>by
  have e:BN (b::l)=Pw b++BN l:=by simp[BN]
  rw[e,List.length_append,Ct l];simp[Pw];omega
theorem DC(l:List Bk)(b:Bk)(j:Nat){u:Value}(h:(Pw b)[j]? =some u):(BN (l++[b]))[l.length*3+j]? =some u:=by
 rw[DD,List.getElem?_append_right (by rw[Ct];omega),Ct,Nat.add_sub_cancel_left];exact h
def AV(l:List Nat):List Value:=l.map fun(x:Nat)=>Value.int .i64 (x:Int)
theorem GJ(l:List Nat)(x:Nat):AV (l++[x])=AV l++[.int .i64 (x:Int)]:=by simp[AV]
theorem F8(l:List Nat)(n:Nat):(AV l).take n=AV (l.take n):=by simp[AV,List.map_take]
def Pk(C gi n:Nat)(vs vo:Value)(j:Nat):Value:=if j=0 then .pointer (some ⟨C,0,none⟩)else if j=1 then .slice (some ⟨gi,0,none⟩) n n else if j=2 then vs else vo
structure WS(E G C n gi:Nat)(vs vo:Value)(w:World)(s:Wk):Prop where
 g:w.rowIs G 69 4 (Pk C gi n vs vo)
 i:w.rowIs gi 4 n (fun j=>.bool (decide (j∈s.set)))
 set:w.ownsRow E 3 1 vs s.set.length (AV s.set)
 opn:w.ownsRow E 120 3 vo s.opens.length (BN s.opens.reverse)
 hG:E<=G
 hgi:E<=gi
 n1:gi≠G
 n2:vs.ownBlock≠some G
 n3:vs.ownBlock≠some gi
 n4:vo.ownBlock≠some G
 n5:vo.ownBlock≠some gi
 n6:∀b,vs.ownBlock=some b->vo.ownBlock≠some b
section
variable {E G C n gi : Nat} {vs vo : Value} {w w' : World} {s : Wk}
theorem WS.below(h:WS E G C n gi vs vo w s)(k:Below w.heap.size w w'):WS E G C n gi vs vo w' s:=
 ⟨h.g.of_block (k.block _ h.g.lt),h.i.of_block (k.block _ h.i.lt),Ac h.set k,Ac h.opn k,h.hG,h.hgi,h.n1,h.n2,h.n3,h.n4,h.n5,h.n6⟩
theorem WS.c0(h:WS E G C n gi vs vo w s):w.cell? ⟨G,0,none⟩=some (.pointer (some ⟨C,0,none⟩)):=h.g.cell (i:=0) dE
theorem WS.c1(h:WS E G C n gi vs vo w s):w.cell? ⟨G,1,none⟩=some (.slice (some ⟨gi,0,none⟩) n n):=h.g.cell (i:=1) dE
theorem WS.c2(h:WS E G C n gi vs vo w s):w.cell? ⟨G,2,none⟩=some vs:=h.g.cell (i:=2) dE
theorem WS.c3(h:WS E G C n gi vs vo w s):w.cell? ⟨G,3,none⟩=some vo:=h.g.cell (i:=3) dE
theorem WS.lt(h:WS E G C n gi vs vo w s):E<=w.heap.size:=Nat.le_trans h.hG (Nat.le_of_lt h.g.lt)
end
theorem Gi(E G C n gi:Nat)(vs vo:Value)(s:Wk)(w:World)(h:WS E G C n gi vs vo w s)(hn:s.opens.length<=64):
 Calls prog 62 #[.pointer (some ⟨G,0,none⟩)] w fun e w'=>(∃A:Int,e=.returned (.tuple #[.agg #[.bool (AA s),.int .i64 (BE s),.int .i64 A],.bool (!s.opens.isEmpty)]))/\Below w.heap.size w w':=by
 have c3:=h.c3;have ho:=h.opn;have hG:=h.g.lt;have nG:G≠w.heap.size:=oM;obtain⟨X,O⟩:=s;cases O with
 |nil=>
  obtain⟨p,q,rfl⟩:=Ao ho;unfold AA BE;simp only[List.isEmpty_nil,Bool.not_true]at c3 ⊢;have f3:(w.alloc (.cells #[.bool false,.int .i64 0,.int .i64 0] 120)).cell? ⟨G,3,none⟩=some (.slice p 0 q):=kc (A0 _ _) c3;clear ho h;go_enter func62,ntmps62;go_wp2;refine bodyPost_ret (by simp[results,results62,go_sem];try rfl) rfl ?_;exact⟨⟨0,rfl⟩,gG⟩
 |cons b r=>
  obtain⟨g,cap,rfl,hE,hg,hc1,hc2,hcl⟩:=Bc ho sM;unfold AA BE;simp only[List.isEmpty_cons,Bool.not_false]at c3 ⊢;obtain⟨L,P,A⟩:=b;simp only[List.reverse_cons]at hcl;have hl:r.reverse.length=r.length:=List.length_reverse;have x0:=hcl (r.length*3) (.bool L) SX;have x1:=hcl (r.length*3+1) (.int .i64 P) SW;have x2:=hcl (r.length*3+2) (.int .i64 A) SV;simp only[List.length_cons]at c3 hn hc1;obtain⟨m,hm⟩:∃m,r.length=m:=⟨_,rfl⟩
  rw[hm]at x0 x1 x2 c3 hn hc1;obtain⟨N,hN⟩:∃N,m+1=N:=⟨_,rfl⟩
  rw[hN]at c3 hn hc1;have hw:IntKind.i64.wrap ((N:Int)-1)=(m:Int):=by rw[IntKind.wrap_i64];omega
  have h0:((N:Int)==0)=false:=by have:(N:Int)≠0:=oM;simpa using this
  have h0':(N==0)=false:=by have:N≠0:=oM;simpa using this
  have i1:(0:Int)<=(m:Int):=oM;have i2:(m:Int)<(N:Int):=oM;have ng:g≠w.heap.size:=oM;have f3:(w.alloc (.cells #[.bool false,.int .i64 0,.int .i64 0] 120)).cell? ⟨G,3,none⟩=some (.slice (some ⟨g,0,none⟩) N cap):=kc (A0 _ _) c3;have y0:(w.alloc (.cells #[.bool false,.int .i64 0,.int .i64 0] 120)).cell? ⟨g,m*3,none⟩=some (.bool L):=kc (A0 _ _) x0;have y1:(w.alloc (.cells #[.bool false,.int .i64 0,.int .i64 0] 120)).cell? ⟨g,m*3+1,none⟩=some (.int .i64 P):=kc (A0 _ _) x1;have y2:(w.alloc (.cells #[.bool false,.int .i64 0,.int .i64 0] 120)).cell? ⟨g,m*3+2,none⟩=some (.int .i64 (A:Int)):=kc (A0 _ _) x2;have HN:Hid (m+1=N):=hN;clear hcl ho h hm hl hN hE;go_enter func62,ntmps62;go_wp2;refine rG (fun v=>v.cell? ⟨G,3,none⟩=some (.slice (some ⟨g,0,none⟩) N cap)/\v.cell? ⟨g,m*3,none⟩=some (.bool L)/\v.cell? ⟨g,m*3+1,none⟩=some (.int .i64 P)/\v.cell? ⟨g,m*3+2,none⟩=some (.int .i64 (A:Int))) fun hHeld=>?_;refine Tf 0 1 2 3 4 5 ?_;refine Tf 6 7 8 9 10 11 ?_;clear hHeld;refine Ax 12 fun K hK=>?_;go_simp;refine Aw hK fun hHeld=>?_;clear hK K;refine Bw 13 ?_;refine wpAnyH_done kR ?_ _;go_wp2;refine bodyPost_ret (by simp[results,results62,go_sem];try rfl) rfl ?_;exact⟨⟨_,rfl⟩,gG⟩
theorem Fu(op:Int)(w:World):Calls prog 79 #[.int .i64 op] w fun e w'=>e=.returned (.bool (DE op))/\w'=w:=by
 unfold DE;by_cases h:3<=op
 all_goals
  go_enter func79,ntmps79;exact QD
theorem J8(op:Int)(w:World):Calls prog 63 #[.int .i64 op] w fun e w'=>e=.returned (.bool (BM op))/\w'=w:=by
 have HK:Hid (∀w,Calls prog 79 #[.int .i64 op] w fun e w'=>e=.returned (.bool (DE op))/\w'=w):=Fu op;by_cases h:29<=op/\op<=33
 ·have hl:BM op=true:=by unfold BM;simp;omega
  rw[hl];obtain rfl|rfl|rfl|rfl|rfl:op=29\/op=30\/op=31\/op=32\/op=33:=oM
  all_goals
   clear h hl HK;go_enter func63,ntmps63;go_wp2;go_ret;exact⟨rfl,rfl⟩
 ·have hl:BM op=DE op:=by
   unfold BM;have:(decide (29<=op)&&decide (op<=33))=false:=sO;rw[this];rfl
  rw[hl];have e1:(op==29)=false:=by have:op≠29:=oM;simpa using this
  have e2:(op==30)=false:=by have:op≠30:=oM;simpa using this
  have e3:(op==31)=false:=by have:op≠31:=oM;simpa using this
  have e4:(op==32)=false:=by have:op≠32:=oM;simpa using this
  have e5:(op==33)=false:=by have:op≠33:=oM;simpa using this
  clear h hl;go_enter func63,ntmps63;go_wp2_with(go_at_call 79;refine(HK.out _).mono ?_;rintro e w1 ⟨rfl,rfl⟩);go_ret;exact⟨rfl,rfl⟩
structure MW(w:World)(H G C b o:Nat)(vo:Value)(L0 L1 L2 L3 L4 op:Int)(X:Bool)(P A:Int)(v:World):Prop where
 bel:Below w.heap.size w v
 r0:v.cell? ⟨w.heap.size,0,none⟩=some (.int .i64 L0)
 r1:v.cell? ⟨w.heap.size,1,none⟩=some (.int .i64 L1)
 r2:v.cell? ⟨w.heap.size,2,none⟩=some (.int .i64 L2)
 r3:v.cell? ⟨w.heap.size,3,none⟩=some (.int .i64 L3)
 r4:v.cell? ⟨w.heap.size,4,none⟩=some (.int .i64 L4)
 m0:v.cell? ⟨H,0,none⟩=some (.bool X)
 m1:v.cell? ⟨H,1,none⟩=some (.int .i64 P)
 g0:v.cell? ⟨G,0,none⟩=some (.pointer (some ⟨C,0,none⟩))
 g3:v.cell? ⟨G,3,none⟩=some vo
 e0:v.cell? ⟨b,o,none⟩=some (.int .i64 op)
theorem MW.next{w:World}{H G C b o:Nat}{vo:Value}{L0 L1 L2 L3 L4 op:Int}{X:Bool}{P A:Int}{v v':World}(h:MW w H G C b o vo L0 L1 L2 L3 L4 op X P A v)(k:Below v.heap.size v v'):MW w H G C b o vo L0 L1 L2 L3 L4 op X P A v':=
 ⟨Go.Proofs.Ytnbccaicijcklaa.bel h.bel k,kc k h.r0,kc k h.r1,kc k h.r2,kc k h.r3,kc k h.r4,kc k h.m0,kc k h.m1,kc k h.g0,kc k h.g3,kc k h.e0⟩
theorem GY(E G C n gi:Nat)(vs vo:Value)(s:Wk)(v0 v1 v2 v3:Value)(c:Cd)(hk:Ba c)(b o:Nat)(i:Aa)(r:Rw)(w:World)(h:WS E G C n gi vs vo w s)(hn:s.opens.length<=64)(hc:BC w C v0 v1 v2 v3 c)(hi:Ai w b o (Bf i)):
 Calls prog 43 #[.pointer (some ⟨G,0,none⟩),.pointer (some ⟨b,o,none⟩),Cg r] w fun e w'=>e=.returned (.bool (AD c s i r))/\Below w.heap.size w w':=by
 have KI:=Gi E G C n gi vs vo s;have KM:=fun w h k=>Ez C v0 v1 v2 v3 c hk b o i r w h k;have KL:=J8 i.op;have HC0:Hid (BC w C v0 v1 v2 v3 c):=hc;have HI0:Hid (Ai w b o (Bf i)):=hi;have HS0:Hid (WS E G C n gi vs vo w s):=h;have hlen:∃p q,vo=.slice p s.opens.length q:=Ao h.opn;obtain⟨p,q,rfl⟩:=hlen;have e0:=hi.at 0 rfl;rw[Nat.add_zero]at e0;have hop:(!s.opens.isEmpty)=false->AA s=false:=fun hh=>by
  unfold AA;cases hO:s.opens with
  |nil=>rfl
  |cons b r=>rw[hO]at hh;simp at hh
 unfold AD;obtain⟨X,hX⟩:∃X,AA s=X:=⟨_,rfl⟩
 obtain⟨Y,hY⟩:∃Y,(!s.opens.isEmpty)=Y:=⟨_,rfl⟩
 obtain⟨P,hP⟩:∃P,BE s=P:=⟨_,rfl⟩
 obtain⟨Z,hZ⟩:∃Z,BM i.op=Z:=⟨_,rfl⟩
 obtain⟨M,hM⟩:∃M,Az c.regs i r=M:=⟨_,rfl⟩
 obtain⟨N,hN⟩:∃N,s.opens.length=N:=⟨_,rfl⟩
 obtain⟨op,hopp⟩:∃x,i.op=x:=⟨_,rfl⟩
 rw[hX,hY]at hop;simp only[hX,hY,hP,hN]at KI ⊢;simp only[hM]at KM ⊢;simp only[hZ]at KL ⊢;rw[hN]at HS0 hn;rw[hopp]at e0 KL ⊢;obtain⟨L0,L1,L2,L3,L4⟩:=r;obtain⟨K,Q⟩:=M;unfold Cg at KM ⊢;unfold CP at KM;simp only at KM;rw[NW];have HKI:Hid (∀w,WS E G C n gi vs (.slice p N q) w s->Calls prog 62 #[.pointer (some ⟨G,0,none⟩)] w fun e w'=>(∃A:Int,e=.returned (.tuple #[.agg #[.bool X,.int .i64 P,.int .i64 A],.bool Y]))/\Below w.heap.size w w'):=fun w hw=>KI w hw hn;have HKM:Hid (∀w,BC w C v0 v1 v2 v3 c->Ai w b o (Bf i)->Calls prog 58 #[.pointer (some ⟨C,0,none⟩),.pointer (some ⟨b,o,none⟩),.agg #[.int .i64 L0,.int .i64 L1,.int .i64 L2,.int .i64 L3,.int .i64 L4]] w fun e w'=>e=.returned (.agg #[.int .i64 K,.int .i64 Q])/\Below w.heap.size w w'):=KM;have HKL:Hid (∀w,Calls prog 63 #[.int .i64 op] w fun e w'=>e=.returned (.bool Z)/\w'=w):=KL;have HE0:Hid (w.cell? ⟨b,o,none⟩=some (.int .i64 op)):=e0;have HOP:Hid (Y=false->X=false):=hop;clear KI KM KL h hc hi hk hX hY hP hZ hM hN hopp e0 hop hn;by_cases h34:op=34\/op=36
 ·rw[if_pos h34];cases X
  ·cases Y
   all_goals
    rcases h34 with h|h
    ·have e1:(op==34)=true:=(by have:op=34:=oM;simpa using this);have e2:(op==36)=false:=(by have:op≠36:=oM;simpa using this);have e3:(op==35)=false:=(by have:op≠35:=oM;simpa using this);have e4:(op==37)=false:=(by have:op≠37:=oM;simpa using this)
     clear h;exact Qr
    ·have e1:(op==34)=false:=(by have:op≠34:=oM;simpa using this);have e2:(op==36)=true:=(by have:op=36:=oM;simpa using this);have e3:(op==35)=false:=(by have:op≠35:=oM;simpa using this);have e4:(op==37)=false:=(by have:op≠37:=oM;simpa using this)
     clear h;exact Qr
  ·cases Y
   ·exact absurd (HOP.out rfl) dE
   ·rcases h34 with h|h
    ·have e1:(op==34)=true:=(by have:op=34:=oM;simpa using this);have e2:(op==36)=false:=(by have:op≠36:=oM;simpa using this);have e3:(op==35)=false:=(by have:op≠35:=oM;simpa using this);have e4:(op==37)=false:=(by have:op≠37:=oM;simpa using this)
     clear h;exact Qs
    ·have e1:(op==34)=false:=(by have:op≠34:=oM;simpa using this);have e2:(op==36)=true:=(by have:op=36:=oM;simpa using this);have e3:(op==35)=false:=(by have:op≠35:=oM;simpa using this);have e4:(op==37)=false:=(by have:op≠37:=oM;simpa using this)
     clear h;exact Qs
 rw[if_neg h34];by_cases h35:op=35
 ·rw[if_pos h35];have e1:(op==34)=false:=(by have:op≠34:=oM;simpa using this);have e2:(op==36)=false:=(by have:op≠36:=oM;simpa using this);have e3:(op==35)=true:=(by have:op=35:=oM;simpa using this);have e4:(op==37)=false:=(by have:op≠37:=oM;simpa using this)
  clear h34 h35;cases X
  ·cases Y
   all_goals
    exact Qr
  ·cases Y
   ·exact absurd (HOP.out rfl) dE
   ·exact Qs
 rw[if_neg h35];by_cases h37:op=37
 ·rw[if_pos h37];have e1:(op==34)=false:=(by have:op≠34:=oM;simpa using this);have e2:(op==36)=false:=(by have:op≠36:=oM;simpa using this);have e3:(op==35)=false:=(by have:op≠35:=oM;simpa using this);have e4:(op==37)=true:=(by have:op=37:=oM;simpa using this)
  clear h34 h35 h37;cases X
  ·cases Y
   all_goals
    exact Qr
  ·cases Y
   ·exact absurd (HOP.out rfl) dE
   ·exact Qs
 rw[if_neg h37];have e1:(op==34)=false:=by have:op≠34:=(fun e=>h34 (.inl e));simpa using this
 have e2:(op==36)=false:=by have:op≠36:=(fun e=>h34 (.inr e));simpa using this
 have e3:(op==35)=false:=by simpa using h35
 have e4:(op==37)=false:=by simpa using h37
 clear h34 h35 h37;cases X
 ·cases Y
  all_goals
   go_enter func43,ntmps43;go_wp2_with(go_at_call 62;refine(HKI.out _ (HS0.out.below (A0 _ _))).mono ?_;rintro e w1 ⟨⟨A,rfl⟩,hb1⟩;have HF:Hid (MW w w1.heap.size G C b o (.slice p N q) L0 L1 L2 L3 L4 op false P A (w1.alloc (.cells #[.bool false,.int .i64 P,.int .i64 A] 120))):=Re;have f0:=HF.out.m0;have f1:=HF.out.g3;have f2:=HF.out.e0;have f3:=HF.out.m1;have f4:=HF.out.g0);refine rG (fun v=>v.cell? ⟨b,o,none⟩=some (.int .i64 op)) fun hHeld=>?_;refine Tc 0 1 2 ?_;refine Kd 3 4 5 6 ?_;refine Kd 7 8 9 10 ?_;refine Kd 11 12 13 14 ?_;refine Kd 15 16 17 18 ?_;refine CD 19 ?_;refine CD 20 ?_;refine Tb 21 22 ?_;refine wpAnyH_done kR ?_ _;go_wp2;go_ret;exact⟨A8 sM,bel HF.out.bel (Ae _)⟩
 ·cases Y
  ·exact absurd (HOP.out rfl) dE
  ·cases Z
   ·go_enter func43,ntmps43;go_wp2_with(go_at_call 62;refine(HKI.out _ (HS0.out.below (A0 _ _))).mono ?_;rintro e w1 ⟨⟨A,rfl⟩,hb1⟩;have HF:Hid (MW w w1.heap.size G C b o (.slice p N q) L0 L1 L2 L3 L4 op true P A (w1.alloc (.cells #[.bool true,.int .i64 P,.int .i64 A] 120))):=Re;have f0:=HF.out.m0;have f1:=HF.out.g3;have f2:=HF.out.e0;have f3:=HF.out.m1;have f4:=HF.out.g0);refine rG (fun v=>v.cell? ⟨b,o,none⟩=some (.int .i64 op)) fun hHeld=>?_;refine Tf 0 1 2 3 4 5 ?_;refine Bw 6 ?_;clear hHeld;refine Ax 7 fun K hK=>?_;go_simp;(go_at_call 63;refine(HKL.out _).mono ?_;rintro e w3 ⟨rfl,rfl⟩);try(go_wp2_with fail)
    refine Aw hK fun hHeld=>?_;clear hK K;refine Bw 8 ?_;refine Kd 9 10 11 12 ?_;refine Kd 13 14 15 16 ?_;refine CD 17 ?_;refine CD 18 ?_;refine CD 19 ?_;refine Tc 20 21 22 ?_;refine wpAnyH_done kR ?_ _;go_wp2;go_ret;exact⟨A8 sM,bel HF.out.bel (Ae _)⟩
   ·cases hl:(K==3)<;>cases hq:(Q==P)
    all_goals
     go_enter func43,ntmps43;go_wp2_with(go_at_call 62;refine(HKI.out _ (HS0.out.below (A0 _ _))).mono ?_;rintro e w1 ⟨⟨A,rfl⟩,hb1⟩;have HF:Hid (MW w w1.heap.size G C b o (.slice p N q) L0 L1 L2 L3 L4 op true P A (w1.alloc (.cells #[.bool true,.int .i64 P,.int .i64 A] 120))):=Re;have f0:=HF.out.m0;have f1:=HF.out.g3;have f2:=HF.out.e0;have f3:=HF.out.m1;have f4:=HF.out.g0);have HCX:Hid (∀v,Below (w1.alloc (.cells #[.bool true,.int .i64 P,.int .i64 A] 120)).heap.size (w1.alloc (.cells #[.bool true,.int .i64 P,.int .i64 A] 120)) v->v.cell? ⟨b,o,none⟩=some (.int .i64 op)/\v.cell? ⟨G,0,none⟩=some (.pointer (some ⟨C,0,none⟩))/\v.cell? ⟨w1.heap.size,1,none⟩=some (.int .i64 P)/\v.cell? ⟨w.heap.size,0,none⟩=some (.int .i64 L0)/\v.cell? ⟨w.heap.size,1,none⟩=some (.int .i64 L1)/\v.cell? ⟨w.heap.size,2,none⟩=some (.int .i64 L2)/\v.cell? ⟨w.heap.size,3,none⟩=some (.int .i64 L3)/\v.cell? ⟨w.heap.size,4,none⟩=some (.int .i64 L4)):=fun v hv=>⟨(HF.out.next hv).e0,(HF.out.next hv).g0,(HF.out.next hv).m1,(HF.out.next hv).r0,(HF.out.next hv).r1,(HF.out.next hv).r2,(HF.out.next hv).r3,(HF.out.next hv).r4⟩
     have f5:=HF.out.r0;have f6:=HF.out.r1;have f7:=HF.out.r2;have f8:=HF.out.r3;have f9:=HF.out.r4;refine rG (fun v=>v.cell? ⟨b,o,none⟩=some (.int .i64 op)/\v.cell? ⟨G,0,none⟩=some (.pointer (some ⟨C,0,none⟩))/\v.cell? ⟨w1.heap.size,1,none⟩=some (.int .i64 P)/\v.cell? ⟨w.heap.size,0,none⟩=some (.int .i64 L0)/\v.cell? ⟨w.heap.size,1,none⟩=some (.int .i64 L1)/\v.cell? ⟨w.heap.size,2,none⟩=some (.int .i64 L2)/\v.cell? ⟨w.heap.size,3,none⟩=some (.int .i64 L3)/\v.cell? ⟨w.heap.size,4,none⟩=some (.int .i64 L4)) fun hHeld=>?_;refine Tf 0 1 2 3 4 5 ?_;refine Bw 6 ?_;clear hHeld;refine Ax 7 fun K hK=>?_;go_simp;(go_at_call 63;refine(HKL.out _).mono ?_;rintro e w3 ⟨rfl,rfl⟩);try(go_wp2_with fail)
     refine Aw hK fun hHeld=>?_;clear hK K;refine Tf 8 9 10 11 12 13 ?_;refine Tc 14 16 17 ?_;refine Bw 18 ?_;clear hHeld;refine Ax 15 fun K hK=>?_;go_simp;(go_at_call 58;refine(HKM.out _ (HC0.out.below (bel HF.out.bel (Ae _))) (HI0.out.below (bel HF.out.bel (Ae _)))).mono ?_;rintro e w3 ⟨rfl,hb3⟩;have HB3:=bel (Ae _) hb3;obtain⟨y0,y1,y2,y3,y4,y5,y6,y7⟩:=HCX.out w3 HB3);try(go_wp2_with fail)
     refine Aw hK fun hHeld=>?_;clear hK K;refine Tc 19 20 21 ?_;refine Bw 22 ?_;refine wpAnyH_done kR ?_ _;go_wp2;go_ret;exact⟨A8 (by simp[hl,hq]),(HF.out.next HB3).bel⟩
def F9(p:Option Addr)(c k sz:Nat):Option Addr:=if c=k then p else p.map (·.add (k*sz))
theorem LG(p:Option Addr)(h c sz:Nat):sliced p 0 h c sz=.slice p h c:=by
 unfold sliced;by_cases c0:c=0
 ·subst c0;simp
 ·rw[if_neg oM];cases p<;>simp[Addr.add]
theorem Ea{t:TypeId}{sz:Nat}(hu:prog.underlying t=some (.slice (prog.elem t)))(hz:∀w,(sizeOf (prog.elem t)).run prog w=.ok sz w)(p:Option Addr)(n c h:Nat)(hh:h<=c)(w:World):
 (Instr.sliceAt t (.slice p n c) none (some (.int .i64 h)) none).run prog w=.ok (.slice p h c) w:=by
 rw[run_sliceAt_slice (h:=hu),run_slice_h (ht:=hu) (h0:=by omega) (h2:=by omega),hz];rw[Result.andThen_ok,Int.toNat_natCast,LG p h c sz]
theorem Ix{t:TypeId}{sz:Nat}(hu:prog.underlying t=some (.slice (prog.elem t)))(hz:∀w,(sizeOf (prog.elem t)).run prog w=.ok sz w)(p:Option Addr)(n c k:Nat)(hk:k<=n)(w:World):
 (Instr.sliceAt t (.slice p n c) (some (.int .i64 k)) none none).run prog w=.ok (.slice (F9 p c k sz) (n-k) (c-k)) w:=by
 rw[run_sliceAt_slice (h:=hu),run_slice_l (ht:=hu) (h0:=by omega) (h1:=by omega),hz];rw[Result.andThen_ok,Int.toNat_natCast];unfold sliced F9;simp
theorem Pf:prog.underlying 61=some (.slice (prog.elem 61)):=kR
theorem Py:prog.elem 61=3:=kR
theorem NJ(w:World):(sizeOf (prog.elem 61)).run prog w=.ok 1 w:=by rw[Py];exact Try.sizeOf3 w
theorem Qo:prog.underlying 67=some (.slice (prog.elem 67)):=kR
theorem Px:prog.elem 67=120:=kR
theorem PT(w:World):(sizeOf (prog.elem 67)).run prog w=.ok 3 w:=by rw[Px];exact Try.sizeOf120 w
theorem J2:(prog.info? 120).map (fun i=>(i.zero,i.size,i.bytes))=some (some (.agg #[.bool false,.int .i64 0,.int .i64 0]),3,24):=kR
theorem CZ{w:World}{B:Nat}{t:TypeId}{k:Nat}{p:Option Addr}{n c:Nat}{xs:List Value}(h:w.ownsRow B t k (.slice p n c) n xs){m:Nat}(hm:m<=n):w.ownsRow B t k (.slice p m c) m (xs.take (m*k)):=by
 obtain⟨hl,h⟩:=h;have hle:m*k<=n*k:=Nat.mul_le_mul_right k hm;refine⟨by rw[List.length_take,hl];exact Nat.min_eq_left hle,?_⟩;rcases h with⟨hv,h0⟩|⟨g,cap,cur,hv,hB,hg,hc1,hc2,hsz,htk⟩
 ·left;subst h0;have:m=0:=oM;subst this;exact⟨hv,rfl⟩
 ·simp only[Value.slice.injEq]at hv;obtain⟨rfl,-,rfl⟩:=hv;refine .inr ⟨g,c,cur,rfl,hB,hg,oM,hc2,hsz,?_⟩;rw[←htk,List.take_take,Nat.min_eq_left hle]
structure WX(E G C n gi:Nat)(vs vo:Value)(w:World)(S:List Nat)(O:List Bk)(X:Nat->Bool):Prop where
 g:w.rowIs G 69 4 (Pk C gi n vs vo)
 i:w.rowIs gi 4 n (fun j=>.bool (X j))
 set:w.ownsRow E 3 1 vs S.length (AV S)
 opn:w.ownsRow E 120 3 vo O.length (BN O.reverse)
 hG:E<=G
 hgi:E<=gi
 n1:gi≠G
 n2:vs.ownBlock≠some G
 n3:vs.ownBlock≠some gi
 n4:vo.ownBlock≠some G
 n5:vo.ownBlock≠some gi
 n6:∀b,vs.ownBlock=some b->vo.ownBlock≠some b
section
variable {E G C n gi : Nat} {vs vo : Value} {w w' : World} {S : List Nat} {O : List Bk} {X : Nat -> Bool} {s : Wk}
theorem WS.x(h:WS E G C n gi vs vo w s):WX E G C n gi vs vo w s.set s.opens (fun j=>decide (j∈s.set)):=⟨h.g,h.i,h.set,h.opn,h.hG,h.hgi,h.n1,h.n2,h.n3,h.n4,h.n5,h.n6⟩
theorem WX.st(h:WX E G C n gi vs vo w s.set s.opens X)(hx:∀j,j<n->X j=decide (j∈s.set)):WS E G C n gi vs vo w s:=
 ⟨h.g,h.i.congr fun j hj=>by rw[hx j hj],h.set,h.opn,h.hG,h.hgi,h.n1,h.n2,h.n3,h.n4,h.n5,h.n6⟩
theorem WX.below(h:WX E G C n gi vs vo w S O X)(k:Below w.heap.size w w'):WX E G C n gi vs vo w' S O X:=
 ⟨h.g.of_block (k.block _ h.g.lt),h.i.of_block (k.block _ h.i.lt),Ac h.set k,Ac h.opn k,h.hG,h.hgi,h.n1,h.n2,h.n3,h.n4,h.n5,h.n6⟩
theorem WX.c1(h:WX E G C n gi vs vo w S O X):w.cell? ⟨G,1,none⟩=some (.slice (some ⟨gi,0,none⟩) n n):=h.g.cell (i:=1) dE
theorem WX.c2(h:WX E G C n gi vs vo w S O X):w.cell? ⟨G,2,none⟩=some vs:=h.g.cell (i:=2) dE
theorem WX.lt(h:WX E G C n gi vs vo w S O X):E<=w.heap.size:=Nat.le_trans h.hG (Nat.le_of_lt h.g.lt)
theorem WX.opens{vo':Value}{O':List Bk}(h:WX E G C n gi vs vo w S O X)(ho:w.ownsRow E 120 3 vo' O'.length (BN O'.reverse))(m4:vo'.ownBlock≠some G)(m5:vo'.ownBlock≠some gi)(m6:∀b,vs.ownBlock=some b->vo'.ownBlock≠some b):
 WX E G C n gi vs vo' (w.setCell ⟨G,3,none⟩ vo') S O' X:=by
 have nb:∀b,b≠G->(w.setCell ⟨G,3,none⟩ vo').heap[b]? =w.heap[b]? :=fun b hb=>Below.heap_setCell _ _ _ _ hb;refine⟨(h.g.set 3 vo').congr fun j hj=>?_,h.i.of_block (nb _ h.n1),A7 h.set fun b hb=>nb b fun e=>h.n2 (e▸hb),A7 ho fun b hb=>nb b fun e=>m4 (e▸hb),h.hG,h.hgi,h.n1,h.n2,h.n3,m4,m5,m6⟩;unfold Pk;exact Pb
theorem WX.sets{vs':Value}{S':List Nat}(h:WX E G C n gi vs vo w S O X)(hs:w.ownsRow E 3 1 vs' S'.length (AV S'))(m2:vs'.ownBlock≠some G)(m3:vs'.ownBlock≠some gi)(m6:∀b,vs'.ownBlock=some b->vo.ownBlock≠some b):
 WX E G C n gi vs' vo (w.setCell ⟨G,2,none⟩ vs') S' O X:=by
 have nb:∀b,b≠G->(w.setCell ⟨G,2,none⟩ vs').heap[b]? =w.heap[b]? :=fun b hb=>Below.heap_setCell _ _ _ _ hb;refine⟨(h.g.set 2 vs').congr fun j hj=>?_,h.i.of_block (nb _ h.n1),A7 hs fun b hb=>nb b fun e=>m2 (e▸hb),A7 h.opn fun b hb=>nb b fun e=>h.n4 (e▸hb),h.hG,h.hgi,h.n1,m2,m3,h.n4,h.n5,m6⟩;unfold Pk;exact Pb
theorem WX.put(h:WX E G C n gi vs vo w S O X)(x:Nat)(v:Bool):WX E G C n gi vs vo (w.setCell ⟨gi,x,none⟩ (.bool v)) S O (fun j=>if j=x then v else X j):=by
 have nb:∀b,b≠gi->(w.setCell ⟨gi,x,none⟩ (.bool v)).heap[b]? =w.heap[b]? :=fun b hb=>Below.heap_setCell _ _ _ _ hb;refine⟨h.g.of_block (nb _ (Ne.symm h.n1)),(h.i.set x (.bool v)).congr fun j hj=>?_,A7 h.set fun b hb=>nb b fun e=>h.n3 (e▸hb),A7 h.opn fun b hb=>nb b fun e=>h.n5 (e▸hb),h.hG,h.hgi,h.n1,h.n2,h.n3,h.n4,h.n5,h.n6⟩;show(if j=x then _ else _)=_;split<;>rfl
theorem WX.of{X':Nat->Bool}(h:WX E G C n gi vs vo w S O X)(e:∀j,j<n->X j=X' j):WX E G C n gi vs vo w S O X':=
 ⟨h.g,h.i.congr fun j hj=>by rw[e j hj],h.set,h.opn,h.hG,h.hgi,h.n1,h.n2,h.n3,h.n4,h.n5,h.n6⟩
theorem WX.grown{row:Option Nat}(h:WX E G C n gi vs vo w S O X)(hg:w.grownBy w' row)(hr:row=vo.ownBlock\/row=vs.ownBlock):
 w'.rowIs G 69 4 (Pk C gi n vs vo)/\w'.rowIs gi 4 n (fun j=>.bool (X j))/\(row=vo.ownBlock->w'.ownsRow E 3 1 vs S.length (AV S))/\(row=vs.ownBlock->w'.ownsRow E 120 3 vo O.length (BN O.reverse)):=by
 have k1:some G≠row:=fun e=>by
  rcases hr with hr|hr
  ·rw[hr]at e;exact h.n4 e.symm
  ·rw[hr]at e;exact h.n2 e.symm
 have k2:some gi≠row:=fun e=>by
  rcases hr with hr|hr
  ·rw[hr]at e;exact h.n5 e.symm
  ·rw[hr]at e;exact h.n3 e.symm
 exact⟨h.g.of_block (hg.block _ h.g.lt k1),h.i.of_block (hg.block _ h.i.lt k2),fun hr=>A7 h.set fun b hb=>hg.block b (h.set.lt b hb).2 fun e=>h.n6 b hb (by rw[←hr];exact e.symm),fun hr=>A7 h.opn fun b hb=>hg.block b (h.opn.lt b hb).2 fun e=>h.n6 b (by rw[←hr];exact e.symm) hb⟩
end
end Go.Proofs.Ytnbccaicijcklaa
