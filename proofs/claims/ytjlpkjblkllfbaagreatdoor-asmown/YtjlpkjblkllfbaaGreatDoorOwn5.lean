import Derived.Test.YtjlpkjblkllfbaaGreatDoorOwn1
import Derived.Test.YtjlpkjblkllfbaaGreatDoorOwn2
namespace Go.Proofs.YtjlpkjblkllfbaaGreatDoor
open Go.RowKit Go.Proofs.Tryz
set_option linter.all false
set_option maxRecDepth 100000
set_option maxHeartbeats 16000000
theorem Sb{l:List Bc}{n:Int}{k:Nat}(h:n=(k:Int))(hk:k<l.length):Dh l n=l[k].kind:=by
 subst h;unfold Dh;rw[Int.toNat_natCast,gB hk];rfl
theorem Rr{l:List Sl}{n:Int}{k:Nat}(h:n=(k:Int))(hk:k<l.length):El l n=l[k].ty:=by
 subst h;unfold El;rw[Int.toNat_natCast,gB hk];rfl
theorem Li(C:Nat)(v0 v1 v2 v3:Value)(c:Cd)(hk:BE c)(n:Int)(m:Ty)(w:World)(hc:BM w C v0 v1 v2 v3 c)(hp:n=1->Am m.par c.sign.length=true):
 Calls prog 131 #[.pointer (some ⟨C,0,none⟩),.int .i64 n,.int .i64 9,Dj m] w fun e w'=>e=.returned (.bool (n==0||(n==1&&Dh c.sign m.par==2)))/\Below w.heap.size w w':=by
 obtain⟨hcc,hcv⟩:=hc;have c1:=hcc.at 0 rfl;rw[Nat.zero_add]at c1;have hC:=Ad c1;simp only at hC;have n1:C≠w.heap.size:=oM;obtain⟨K,P⟩:=m;unfold Dj;simp only at hp |-;have f1:(w.alloc (.cells #[.int .i64 K,.int .i64 P] 43)).cell? ⟨C,0,none⟩=some v0:=kc (A2 _ _) c1;by_cases h0:n=0
 .subst h0;clear hp hcv hcc;go_enter func131,ntmps131;go_wp2;refine rG (fun v=>v.cell? ⟨C,0,none⟩=some v0) fun yH=>?_;refine Tc 0 1 2 ?_;refine Kd 3 4 5 6 ?_;refine Kd 7 8 9 10 ?_;refine Kd 11 12 13 14 ?_;refine Cu 15 ?_;refine Cu 16 ?_;refine Tb 17 18 ?_;refine wpAnyH_done kR ?_ _;go_wp2;go_ret;exact⟨rfl,bel (A2 _ _) (A4 _)⟩
 have h0':(n==0)=false:=by simpa using h0
 by_cases h1:n=1
 .subst h1;obtain⟨k,hxk,hk2⟩:=CZ (hp rfl);have hT:=Sb hxk hk2;subst hxk;have hr:=hcv.sign;obtain⟨p,q,rfl,hrr⟩:=hcv.sign;obtain⟨b,o,rfl,hx⟩:=hr.at hk2;have x1:=hx.at 1 rfl;have hb:=Ad x1;simp only at hb;have n2:b≠w.heap.size:=oM;have HB:=hk.signL;obtain⟨T,hT'⟩:=gA (c.sign[k].kind)
  rw[hT']at x1 hT;rw[hT];obtain⟨N,hN⟩:=gA (c.sign.length)
  rw[hN]at c1 HB hk2 f1;have f2:(w.alloc (.cells #[.int .i64 K,.int .i64 (k:Int)] 43)).cell? ⟨b,o+k*3+1,none⟩=some (.int .i64 T):=kc (A2 _ _) x1;have i1:(0:Int)<=(k:Int):=oM;have i2:(k:Int)<(N:Int):=oM;clear hp hcv hcc hr hrr hx hT hT' hN h0 hk;go_enter func131,ntmps131;go_wp2;refine rG (fun v=>v.cell? ⟨C,0,none⟩=some (.slice (some ⟨b,o,none⟩) N q)/\v.cell? ⟨b,o+k*3+1,none⟩=some (.int .i64 T)/\v.cell? ⟨w.heap.size,1,none⟩=some (.int .i64 (k:Int))) fun yH=>?_;refine Tf 0 1 2 3 4 5 ?_;refine Tf 6 7 8 9 10 11 ?_;refine Tf 12 13 14 15 16 17 ?_;refine Bn 18 ?_;refine wpAnyH_done kR ?_ _;go_wp2;go_ret;exact⟨A8 sM,bel (A2 _ _) (A4 _)⟩
 .have h1':(n==1)=false:=by simpa using h1
  clear hp hcv hcc h0 h1;go_enter func131,ntmps131;go_wp2;refine rG (fun v=>v.cell? ⟨C,0,none⟩=some v0) fun yH=>?_;refine Tf 0 1 2 3 4 5 ?_;refine Kd 6 7 8 9 ?_;refine Kd 10 11 12 13 ?_;refine Cu 14 ?_;refine Cu 15 ?_;refine Tc 16 17 18 ?_;refine wpAnyH_done kR ?_ _;go_wp2;go_ret;exact⟨A8 (by simp[h0',h1']),bel (A2 _ _) (A4 _)⟩
theorem Lj(C:Nat)(v0 v1 v2 v3:Value)(c:Cd)(hk:BE c)(n:Int)(m:Ty)(w:World)(hc:BM w C v0 v1 v2 v3 c):
 Calls prog 131 #[.pointer (some ⟨C,0,none⟩),.int .i64 n,.int .i64 10,Dj m] w fun e w'=>e=.returned (.bool (Am n c.slots.length&&decide (El c.slots n=m)))/\Below w.heap.size w w':=by
 obtain⟨hcc,hcv⟩:=hc;have c1:=hcc.at 2 rfl;rw[Nat.zero_add]at c1;have hC:=Ad c1;simp only at hC;have n1:C≠w.heap.size:=oM;have HB:=hk.slotsL;have K1:=Cz n c.slots.length;have hr:=hcv.slots;obtain⟨p,q,rfl,hrr⟩:=hcv.slots;obtain⟨X,hX⟩:=gA (Am n c.slots.length)
 simp only[hX]at K1;rw[hX];obtain⟨K,P⟩:=m;unfold Dj;simp only;cases X
 .clear hr hrr hcc hcv;obtain⟨N,hN⟩:=gA (c.slots.length)
  rw[hN]at K1 c1 HB;have HK:Hid (∀w,Calls prog 127 #[.int .i64 n,.int .i64 N] w fun e w'=>e=.returned (.bool false)/\w'=w):=K1;clear hN K1 hX hk;have f1:(w.alloc (.cells #[.int .i64 K,.int .i64 P] 43)).cell? ⟨C,2,none⟩=some (.slice p N q):=kc (A2 _ _) c1;go_enter func131,ntmps131;go_wp2;refine rG (fun v=>v.cell? ⟨C,2,none⟩=some (.slice p N q)) fun yH=>?_;exact XI
 .obtain⟨k,hnk,hkl⟩:=CZ hX;rw[Rr hnk hkl];obtain⟨b,o,hp,hx⟩:=hr.at hkl;subst hp;subst hnk;have x0:=hx.at 0 rfl;have x1:=hx.at 1 rfl;rw[Nat.add_zero]at x0;have hbl:=Ad x0;simp only at hbl;have n2:b≠w.heap.size:=oM;obtain⟨T,hT⟩:=gA (c.slots[k].ty)
  rw[hT]at x0 x1 |-;obtain⟨D,E⟩:=T;simp only at x0 x1;rw[Ry];obtain⟨N,hN⟩:=gA (c.slots.length)
  rw[hN]at K1 c1 HB hkl;have HK:Hid (∀w,Calls prog 127 #[.int .i64 (k:Int),.int .i64 N] w fun e w'=>e=.returned (.bool true)/\w'=w):=K1;have f1:(w.alloc (.cells #[.int .i64 K,.int .i64 P] 43)).cell? ⟨C,2,none⟩=some (.slice (some ⟨b,o,none⟩) N q):=kc (A2 _ _) c1;have f2:(w.alloc (.cells #[.int .i64 K,.int .i64 P] 43)).cell? ⟨b,o+k*5,none⟩=some (.int .i64 D):=kc (A2 _ _) x0;have f3:(w.alloc (.cells #[.int .i64 K,.int .i64 P] 43)).cell? ⟨b,o+k*5+1,none⟩=some (.int .i64 E):=kc (A2 _ _) x1;have i1:(0:Int)<=(k:Int):=oM;have i2:(k:Int)<(N:Int):=oM;clear hN K1 hX hr hrr hcc hcv hx hT hk;cases hl:(D==K)<;>cases hq:(E==P)
  all_goals
   go_enter func131,ntmps131;go_wp2;refine rG (fun v=>v.cell? ⟨C,2,none⟩=some (.slice (some ⟨b,o,none⟩) N q)/\v.cell? ⟨b,o+k*5,none⟩=some (.int .i64 D)/\v.cell? ⟨b,o+k*5+1,none⟩=some (.int .i64 E)/\v.cell? ⟨w.heap.size,0,none⟩=some (.int .i64 K)/\v.cell? ⟨w.heap.size,1,none⟩=some (.int .i64 P)) fun yH=>?_;refine Tf 0 1 2 3 4 5 ?_;clear yH;refine Aw 6 fun K hK=>?_;go_simp;(go_at_call 127;refine(HK.out _).mono ?_;rintro e w1 ⟨rfl,rfl⟩);try(go_wp2_with fail)
   refine AU hK fun yH=>?_;clear hK K;refine Tf 7 8 9 10 11 12 ?_;refine Tf 13 14 15 16 17 18 ?_;refine Bn 19 ?_;refine wpAnyH_done kR ?_ _;go_wp2;go_ret;exact⟨A8 (by simp[hl,hq]),bel (A2 _ _) (A4 _)⟩
theorem O1(C:Nat)(v0 v1 v2 v3:Value)(c:Cd)(hk:BE c)(n l:Int)(m:Ty)(w:World)(hc:BM w C v0 v1 v2 v3 c)(hp:l=9->Am m.par c.sign.length=true):
 Calls prog 131 #[.pointer (some ⟨C,0,none⟩),.int .i64 n,.int .i64 l,Dj m] w fun e w'=>e=.returned (.bool (I9 c n l m))/\Below w.heap.size w w':=by
 unfold I9;by_cases h8:l=8
 .subst h8;rw[if_pos rfl];have HK:Hid (∀w,Calls prog 128 #[.int .i64 n] w fun e w'=>e=.returned (.bool (wholeB n))/\w'=w):=Ga n;unfold Dj;clear hp hc;go_enter func131,ntmps131;go_wp2_with(go_at_call 128;refine(HK.out _).mono ?_;rintro e w1 ⟨rfl,rfl⟩);go_ret;exact⟨rfl,A2 _ _⟩
 rw[if_neg h8];by_cases h9:l=9
 .subst h9;rw[if_pos rfl];exact Li C v0 v1 v2 v3 c hk n m w hc fun _=>hp rfl
 rw[if_neg h9];by_cases h10:l=10
 .subst h10;rw[if_pos rfl];exact Lj C v0 v1 v2 v3 c hk n m w hc
 rw[if_neg h10];have h8':(l==8)=false:=by simpa using h8
 have h9':(l==9)=false:=by simpa using h9
 have h10':(l==10)=false:=by simpa using h10
 clear h8 h9 h10 hp;by_cases h11:l=11
 .subst h11;rw[if_pos rfl];have K1:=Cz n c.sign.length;have HB:=hk.signL;obtain⟨hcc,hcv⟩:=hc;have c1:=hcc.at 0 rfl;rw[Nat.zero_add]at c1;have hC:=Ad c1;simp only at hC;have n1:C≠w.heap.size:=oM;obtain⟨p,q,rfl,hrr⟩:=hcv.sign;obtain⟨X,hX⟩:=gA (Am n c.sign.length)
  simp only[hX]at K1;rw[hX];obtain⟨N,hN⟩:=gA (c.sign.length)
  rw[hN]at K1 c1 HB;have HK:Hid (∀w,Calls prog 127 #[.int .i64 n,.int .i64 N] w fun e w'=>e=.returned (.bool X)/\w'=w):=K1;clear hN K1 hX hrr hcc hcv hk h8' h9' h10';unfold Dj;go_enter func131,ntmps131;exact Yj
 rw[if_neg h11];have h11':(l==11)=false:=by simpa using h11
 clear h11 hc;unfold Dj;go_enter func131,ntmps131;go_wp2;go_ret;exact⟨rfl,A2 _ _⟩
theorem IT(C:Nat)(v0 v1 v2 v3:Value)(c:Cd)(hk:BE c)(b o:Nat)(i:Ax)(l:Int)(m:Ty)(w:World)(hc:BM w C v0 v1 v2 v3 c)(hi:Aq w b o (CJ i))(h0:0<=i.bits)(h1:i.bits<4294967296)(hp:l=9->Am m.par c.sign.length=true):
 Calls prog 96 #[.pointer (some ⟨C,0,none⟩),.pointer (some ⟨b,o,none⟩),.int .i64 l,Dj m] w fun e w'=>e=.returned (.bool (BO c i l m))/\Below w.heap.size w w':=by
 have e5:=hi.at 5 rfl;have e6:=hi.at 6 rfl;have hb:=Ad e5;simp only at hb;have n1:b≠w.heap.size:=oM;have K1:=GP i.bits h0 h1;have K2:=fun w h=>O1 C v0 v1 v2 v3 c hk i.n l m w h hp;unfold BO;obtain⟨X,hX⟩:=gA (C3 i.bits)
 obtain⟨Y,hY⟩:=gA (I9 c i.n l m)
 simp only[hX]at K1 |-;simp only[hY]at K2 |-;obtain⟨bt,hbt⟩:∃x,i.bits=x:=⟨_,rfl⟩
 obtain⟨n,hn⟩:∃x,i.n=x:=⟨_,rfl⟩
 rw[hbt]at e6 K1 |-;rw[hn]at e5 K2 |-;have HK:Hid (∀w,Calls prog 129 #[.int .u32 bt] w fun e w'=>e=.returned (.bool X)/\w'=w):=K1;obtain⟨K,P⟩:=m;unfold Dj at K2 |-;simp only at K2 |-;have HN:Hid (∀w,BM w C v0 v1 v2 v3 c->Calls prog 131 #[.pointer (some ⟨C,0,none⟩),.int .i64 n,.int .i64 l,.agg #[.int .i64 K,.int .i64 P]] w fun e w'=>e=.returned (.bool Y)/\Below w.heap.size w w'):=K2;have f5:(w.alloc (.cells #[.int .i64 K,.int .i64 P] 43)).cell? ⟨b,o+5,none⟩=some (.int .i64 n):=kc (A2 _ _) e5;have f6:(w.alloc (.cells #[.int .i64 K,.int .i64 P] 43)).cell? ⟨b,o+6,none⟩=some (.int .u32 bt):=kc (A2 _ _) e6;have HC0:Hid (BM w C v0 v1 v2 v3 c):=hc;clear K1 K2 hX hY hbt hn hi hp h0 h1 hk hc;by_cases h7:l=7
 .subst h7;rw[if_pos rfl];clear HN;cases hz:(n==0)
  all_goals
   go_enter func96,ntmps96;go_wp2_with(go_at_call 129;refine(HK.out _).mono ?_;rintro e w1 ⟨rfl,rfl⟩);go_ret;exact⟨A8 (by simp[hz]),A2 _ _⟩
 rw[if_neg h7];have h7':(l==7)=false:=by simpa using h7
 clear h7 HK;cases hz:(bt==0)
 .go_enter func96,ntmps96;go_wp2;refine rG (fun v=>v.cell? ⟨b,o+5,none⟩=some (.int .i64 n)/\v.cell? ⟨b,o+6,none⟩=some (.int .u32 bt)) fun yH=>?_;refine Tf 0 1 2 3 4 5 ?_;refine Kd 6 7 8 9 ?_;refine Kd 10 11 12 13 ?_;refine Tb 14 15 ?_;refine wpAnyH_done kR ?_ _;go_wp2;go_ret;exact⟨A8 (by simp[hz]),bel (A2 _ _) (A4 _)⟩
 .go_enter func96,ntmps96;go_wp2;have HC:Hid (∀v,Below (w.alloc (.cells #[.int .i64 K,.int .i64 P] 43)).heap.size (w.alloc (.cells #[.int .i64 K,.int .i64 P] 43)) v->v.cell? ⟨b,o+5,none⟩=some (.int .i64 n)/\v.cell? ⟨b,o+6,none⟩=some (.int .u32 bt)/\v.cell? ⟨w.heap.size,0,none⟩=some (.int .i64 K)/\v.cell? ⟨w.heap.size,1,none⟩=some (.int .i64 P)):=
   fun v hv=>⟨kc hv f5,kc hv f6,kc hv sG,kc hv sG⟩
  refine rG (fun v=>v.cell? ⟨b,o+5,none⟩=some (.int .i64 n)/\v.cell? ⟨b,o+6,none⟩=some (.int .u32 bt)/\v.cell? ⟨w.heap.size,0,none⟩=some (.int .i64 K)/\v.cell? ⟨w.heap.size,1,none⟩=some (.int .i64 P)) fun yH=>?_;refine Tf 0 1 2 3 4 5 ?_;refine Tf 6 7 8 9 10 11 ?_;refine Bn 12 ?_;clear yH;refine Aw 13 fun K hK=>?_;go_simp;(go_at_call 131;refine(HN.out _ ((HC0.below (A2 _ _)).below (A4 _))).mono ?_;rintro e w1 ⟨rfl,hb1⟩;have HB1:=bel (A4 _) hb1;obtain⟨y0,y1,y2,y3⟩:=HC.out w1 HB1);try(go_wp2_with fail)
  refine AU hK fun yH=>?_;clear hK K;refine Tb 14 15 ?_;refine wpAnyH_done kR ?_ _;go_wp2;go_ret;exact⟨A8 (by simp[hz]),bel (A2 _ _) HB1⟩
theorem DT(b o:Nat)(i:Ax)(w:World)(hi:Aq w b o (CJ i)):
 Calls prog 94 #[.pointer (some ⟨b,o,none⟩)] w fun e w'=>e=.returned (.agg #[.int .i64 i.d,.int .i64 i.a,.int .i64 i.b,.int .i64 i.c])/\Below w.heap.size w w':=by
 have e1:=hi.at 1 rfl;have e2:=hi.at 2 rfl;have e3:=hi.at 3 rfl;have e4:=hi.at 4 rfl;have hb:=Ad e1;simp only at hb;have n1:b≠w.heap.size:=oM;have f1:(w.alloc (.cells #[.int .i64 0,.int .i64 0,.int .i64 0,.int .i64 0] 148)).cell? ⟨b,o+1,none⟩=some (.int .i64 i.d):=kc (A2 w _) e1;have f2:(w.alloc (.cells #[.int .i64 0,.int .i64 0,.int .i64 0,.int .i64 0] 148)).cell? ⟨b,o+2,none⟩=some (.int .i64 i.a):=kc (A2 w _) e2;have f3:(w.alloc (.cells #[.int .i64 0,.int .i64 0,.int .i64 0,.int .i64 0] 148)).cell? ⟨b,o+3,none⟩=some (.int .i64 i.b):=kc (A2 w _) e3;have f4:(w.alloc (.cells #[.int .i64 0,.int .i64 0,.int .i64 0,.int .i64 0] 148)).cell? ⟨b,o+4,none⟩=some (.int .i64 i.c):=kc (A2 w _) e4;clear hi;go_enter func94,ntmps94;go_wp2;refine rG (fun v=>v.cell? ⟨b,o+1,none⟩=some (.int .i64 i.d)/\v.cell? ⟨b,o+2,none⟩=some (.int .i64 i.a)/\v.cell? ⟨b,o+3,none⟩=some (.int .i64 i.b)/\v.cell? ⟨b,o+4,none⟩=some (.int .i64 i.c)) fun yH=>?_;refine Tf 0 1 2 3 4 5 ?_;refine Tf 6 7 8 9 10 11 ?_;refine Tc 12 13 14 ?_;refine Tb 15 16 ?_;clear yH;refine Aw 17 fun K hK=>?_;go_simp;refine AU hK fun yH=>?_;clear hK K;refine wpAnyH_done kR ?_ _;go_wp2;refine bodyPost_ret (by simp[results,results94,go_sem, *];try rfl) rfl ?_;exact⟨rfl,gG⟩
theorem PJ(D A B E:Int)(w:World):
 (Instr.index 148 (.agg #[.int .i64 D,.int .i64 A,.int .i64 B,.int .i64 E]) (.int .i64 0)).run prog w=.ok (.int .i64 D) w/\
 (Instr.index 148 (.agg #[.int .i64 D,.int .i64 A,.int .i64 B,.int .i64 E]) (.int .i64 1)).run prog w=.ok (.int .i64 A) w/\
 (Instr.index 148 (.agg #[.int .i64 D,.int .i64 A,.int .i64 B,.int .i64 E]) (.int .i64 2)).run prog w=.ok (.int .i64 B) w/\
 (Instr.index 148 (.agg #[.int .i64 D,.int .i64 A,.int .i64 B,.int .i64 E]) (.int .i64 3)).run prog w=.ok (.int .i64 E) w:=by
 refine⟨?_,?_,?_,?_⟩<;>simp[Instr.index,run_underlying underlying148,asIntOf,part,go_sem]
structure FW(w:World)(G:Nat)(L0 L1 L2 L3 L4 K P:Int)(v:World):Prop where
 bel:Below w.heap.size w v
 r0:v.cell? ⟨w.heap.size,0,none⟩=some (.int .i64 L0)
 r1:v.cell? ⟨w.heap.size,1,none⟩=some (.int .i64 L1)
 r2:v.cell? ⟨w.heap.size,2,none⟩=some (.int .i64 L2)
 r3:v.cell? ⟨w.heap.size,3,none⟩=some (.int .i64 L3)
 r4:v.cell? ⟨w.heap.size,4,none⟩=some (.int .i64 L4)
 m0:v.cell? ⟨G,0,none⟩=some (.int .i64 K)
 m1:v.cell? ⟨G,1,none⟩=some (.int .i64 P)
theorem FW.next{w:World}{G:Nat}{L0 L1 L2 L3 L4 K P:Int}{v v':World}(h:FW w G L0 L1 L2 L3 L4 K P v)(k:Below v.heap.size v v'):FW w G L0 L1 L2 L3 L4 K P v':=
 ⟨Go.Proofs.YtjlpkjblkllfbaaGreatDoor.bel h.bel k,kc k h.r0,kc k h.r1,kc k h.r2,kc k h.r3,kc k h.r4,kc k h.m0,kc k h.m1⟩
theorem Pv(C:Nat)(v0 v1 v2 v3:Value)(c:Cd)(hk:BE c)(b o:Nat)(i:Ax)(r:Rw)(w:World)(hc:BM w C v0 v1 v2 v3 c)(hi:Aq w b o (CJ i))(h0:0<=i.bits)(h1:i.bits<4294967296)
 (hp:Ae c.regs r.d i.d (AF c.regs i r)=true->Ae c.regs r.a i.a (AF c.regs i r)=true->r.n=9->Am (AF c.regs i r).par c.sign.length=true):
 Calls prog 57 #[.pointer (some ⟨C,0,none⟩),.pointer (some ⟨b,o,none⟩),CA r] w fun e w'=>e=.returned (.bool (Bm c i r))/\Below w.heap.size w w':=by
 have KM:=fun w h k=>Fg C v0 v1 v2 v3 c hk b o i r w h k;have KR:=fun w k=>DT b o i w k;have K0:=fun w h=>BR C v0 v1 v2 v3 c hk r.d i.d (AF c.regs i r) w h;have K1:=fun w h=>BR C v0 v1 v2 v3 c hk r.a i.a (AF c.regs i r) w h;have K2:=fun w h=>BR C v0 v1 v2 v3 c hk r.b i.b (AF c.regs i r) w h;have K3:=fun w h=>BR C v0 v1 v2 v3 c hk r.c i.c (AF c.regs i r) w h;have K4:=fun hq w h k=>IT C v0 v1 v2 v3 c hk b o i r.n (AF c.regs i r) w h k h0 h1 hq;have HC0:Hid (BM w C v0 v1 v2 v3 c):=hc;have HI0:Hid (Aq w b o (CJ i)):=hi;have hfc:Bm c i r=(Ae c.regs r.d i.d (AF c.regs i r)&&(Ae c.regs r.a i.a (AF c.regs i r)&&(Ae c.regs r.b i.b (AF c.regs i r)&&(Ae c.regs r.c i.c (AF c.regs i r)&&BO c i r.n (AF c.regs i r))))):=rfl;rw[hfc];clear hfc hc hi hk h0 h1;obtain⟨M,hM⟩:=gA (AF c.regs i r)
 simp only[hM]at KM K0 K1 K2 K3 K4 hp |-;obtain⟨X0,hX0⟩:∃X,Ae c.regs r.d i.d M=X:=⟨_,rfl⟩
 obtain⟨X1,hX1⟩:∃X,Ae c.regs r.a i.a M=X:=⟨_,rfl⟩
 obtain⟨X2,hX2⟩:∃X,Ae c.regs r.b i.b M=X:=⟨_,rfl⟩
 obtain⟨X3,hX3⟩:∃X,Ae c.regs r.c i.c M=X:=⟨_,rfl⟩
 obtain⟨Y,hY⟩:∃X,BO c i r.n M=X:=⟨_,rfl⟩
 simp only[hX0]at K0 hp |-;simp only[hX1]at K1 hp |-;simp only[hX2]at K2 |-;simp only[hX3]at K3 |-;simp only[hY]at K4 |-;obtain⟨L0,L1,L2,L3,L4⟩:=r;obtain⟨K,P⟩:=M;obtain⟨io,D,A,B,E,n,bt⟩:=i;unfold CA at KM |-;unfold Dj at KM K0 K1 K2 K3 K4;simp only at KM KR K0 K1 K2 K3 K4 hp |-;have HKM:Hid (∀w,BM w C v0 v1 v2 v3 c->Aq w b o (CJ ⟨io,D,A,B,E,n,bt⟩)->Calls prog 93 #[.pointer (some ⟨C,0,none⟩),.pointer (some ⟨b,o,none⟩),.agg #[.int .i64 L0,.int .i64 L1,.int .i64 L2,.int .i64 L3,.int .i64 L4]] w fun e w'=>e=.returned (.agg #[.int .i64 K,.int .i64 P])/\Below w.heap.size w w'):=KM;have HKR:Hid (∀w,Aq w b o (CJ ⟨io,D,A,B,E,n,bt⟩)->Calls prog 94 #[.pointer (some ⟨b,o,none⟩)] w fun e w'=>e=.returned (.agg #[.int .i64 D,.int .i64 A,.int .i64 B,.int .i64 E])/\Below w.heap.size w w'):=KR;have HK0:Hid (∀w,BM w C v0 v1 v2 v3 c->Calls prog 95 #[.pointer (some ⟨C,0,none⟩),.int .i64 L0,.int .i64 D,.agg #[.int .i64 K,.int .i64 P]] w fun e w'=>e=.returned (.bool X0)/\Below w.heap.size w w'):=K0;have HK1:Hid (∀w,BM w C v0 v1 v2 v3 c->Calls prog 95 #[.pointer (some ⟨C,0,none⟩),.int .i64 L1,.int .i64 A,.agg #[.int .i64 K,.int .i64 P]] w fun e w'=>e=.returned (.bool X1)/\Below w.heap.size w w'):=K1;have HK2:Hid (∀w,BM w C v0 v1 v2 v3 c->Calls prog 95 #[.pointer (some ⟨C,0,none⟩),.int .i64 L2,.int .i64 B,.agg #[.int .i64 K,.int .i64 P]] w fun e w'=>e=.returned (.bool X2)/\Below w.heap.size w w'):=K2;have HK3:Hid (∀w,BM w C v0 v1 v2 v3 c->Calls prog 95 #[.pointer (some ⟨C,0,none⟩),.int .i64 L3,.int .i64 E,.agg #[.int .i64 K,.int .i64 P]] w fun e w'=>e=.returned (.bool X3)/\Below w.heap.size w w'):=K3;have HK4:Hid ((L4=9->Am P c.sign.length=true)->∀w,BM w C v0 v1 v2 v3 c->Aq w b o (CJ ⟨io,D,A,B,E,n,bt⟩)->Calls prog 96 #[.pointer (some ⟨C,0,none⟩),.pointer (some ⟨b,o,none⟩),.int .i64 L4,.agg #[.int .i64 K,.int .i64 P]] w fun e w'=>e=.returned (.bool Y)/\Below w.heap.size w w'):=K4;have HP:Hid (X0=true->X1=true->L4=9->Am P c.sign.length=true):=hp;clear KM KR K0 K1 K2 K3 K4 hp hM hX0 hX1 hX2 hX3 hY;go_enter func57,ntmps57;go_wp2_with(first
  |(go_at_call 93;refine(HKM.out _ (HC0.below (A2 _ _)) (HI0.below (A2 _ _))).mono ?_;rintro e w1 ⟨rfl,hb1⟩;have HF1:Hid (FW w w1.heap.size L0 L1 L2 L3 L4 K P (w1.alloc (.cells #[.int .i64 K,.int .i64 P] 43))):=(by exact⟨bel (bel (A2 _ _) hb1) (A2 _ _),kc (A2 _ _) (kc hb1 sG),kc (A2 _ _) (kc hb1 sG),kc (A2 _ _) (kc hb1 sG),kc (A2 _ _) (kc hb1 sG),kc (A2 _ _) (kc hb1 sG),sG,sG⟩))
  |(go_at_call 94;refine(HKR.out _ (HI0.below HF1.bel)).mono ?_;rintro e w2 ⟨rfl,hb2⟩;have HF2:Hid (FW w w1.heap.size L0 L1 L2 L3 L4 K P w2):=HF1.next hb2))
 obtain⟨G,hG⟩:=gA (w1.heap.size)
 rw[hG]at HF2 |-
 go_loopw [16] (fun iv wr=>FW w G L0 L1 L2 L3 L4 K P wr/\∃j:Nat,j<=4/\iv=.int .i64 j/\Hid ((0<j->X0=true)/\(1<j->X1=true)/\(2<j->X2=true)/\(3<j->X3=true))) (fun iv _=>4-(intOf iv).toNat)
 case atStart=>exact⟨HF2.out,0,oM,rfl,⟨fun h=>absurd h oM,fun h=>absurd h oM,fun h=>absurd h oM,fun h=>absurd h oM⟩⟩
 case round=>
  clear HF1 HF2 HKM HKR hb1 hb2 hG;obtain⟨hF,j,hj,rfl,hp⟩:=hrel;have m0:=hF.m0;have m1:=hF.m1;have HF:Hid (FW w G L0 L1 L2 L3 L4 K P wr):=hF;have HC:Hid (∀v,Below wr.heap.size wr v->FW w G L0 L1 L2 L3 L4 K P v):=fun v hv=>HF.next hv;obtain rfl|rfl|rfl|rfl|rfl:j=0\/j=1\/j=2\/j=3\/j=4:=oM
  .have r0:=hF.r0;have ix:∀w,(Instr.index 148 (.agg #[.int .i64 D,.int .i64 A,.int .i64 B,.int .i64 E]) (.int .i64 0)).run prog w=.ok (.int .i64 D) w:=fun w=>(PJ D A B E w).1;clear hF;have HC1:Hid (∀v,Below wr.heap.size wr v->v.cell? ⟨w.heap.size,0,none⟩=some (.int .i64 L0)/\v.cell? ⟨G,0,none⟩=some (.int .i64 K)/\v.cell? ⟨G,1,none⟩=some (.int .i64 P)):=fun v hv=>⟨(HC.out v hv).r0,(HC.out v hv).m0,(HC.out v hv).m1⟩
   cases X0
   .go_wp2;refine rG (fun v=>v.cell? ⟨w.heap.size,0,none⟩=some (.int .i64 L0)/\v.cell? ⟨G,0,none⟩=some (.int .i64 K)/\v.cell? ⟨G,1,none⟩=some (.int .i64 P)) fun yH=>?_;refine Tf 0 1 2 3 4 5 ?_;clear yH;refine Aw 6 fun K hK=>?_;go_simp;(go_at_call 95;refine(HK0.out _ ((HC0.below HF.bel).below (A4 _))).mono ?_;rintro e w3 ⟨rfl,hb3⟩;have HB3:=bel (A4 _) hb3;obtain⟨y0,y1,y2⟩:=HC1.out w3 HB3);exact VZ
   .go_wp2;refine rG (fun v=>v.cell? ⟨w.heap.size,0,none⟩=some (.int .i64 L0)/\v.cell? ⟨G,0,none⟩=some (.int .i64 K)/\v.cell? ⟨G,1,none⟩=some (.int .i64 P)) fun yH=>?_;refine Tf 0 1 2 3 4 5 ?_;clear yH;refine Aw 6 fun K hK=>?_;go_simp;(go_at_call 95;refine(HK0.out _ ((HC0.below HF.bel).below (A4 _))).mono ?_;rintro e w3 ⟨rfl,hb3⟩;have HB3:=bel (A4 _) hb3;obtain⟨y0,y1,y2⟩:=HC1.out w3 HB3);try(go_wp2_with fail)
    refine AU hK fun yH=>?_;clear hK K;refine Bn 7 ?_;refine wpAnyH_done kR ?_ _;go_wp2;go_roundw
    case rel=>exact⟨HC.out w3 HB3,1,oM,by first|rfl|go_num,⟨fun _=>fT,fun h=>absurd h oM,fun h=>absurd h oM,fun h=>absurd h oM⟩⟩
    case measure=>simp[intOf]
  .have r0:=hF.r1;have ix:∀w,(Instr.index 148 (.agg #[.int .i64 D,.int .i64 A,.int .i64 B,.int .i64 E]) (.int .i64 1)).run prog w=.ok (.int .i64 A) w:=fun w=>(PJ D A B E w).2.1;clear hF;have HC1:Hid (∀v,Below wr.heap.size wr v->v.cell? ⟨w.heap.size,1,none⟩=some (.int .i64 L1)/\v.cell? ⟨G,0,none⟩=some (.int .i64 K)/\v.cell? ⟨G,1,none⟩=some (.int .i64 P)):=fun v hv=>⟨(HC.out v hv).r1,(HC.out v hv).m0,(HC.out v hv).m1⟩
   cases X1
   .go_wp2;refine rG (fun v=>v.cell? ⟨w.heap.size,1,none⟩=some (.int .i64 L1)/\v.cell? ⟨G,0,none⟩=some (.int .i64 K)/\v.cell? ⟨G,1,none⟩=some (.int .i64 P)) fun yH=>?_;refine Tf 0 1 2 3 4 5 ?_;clear yH;refine Aw 6 fun K hK=>?_;go_simp;(go_at_call 95;refine(HK1.out _ ((HC0.below HF.bel).below (A4 _))).mono ?_;rintro e w3 ⟨rfl,hb3⟩;have HB3:=bel (A4 _) hb3;obtain⟨y0,y1,y2⟩:=HC1.out w3 HB3);exact VZ
   .go_wp2;refine rG (fun v=>v.cell? ⟨w.heap.size,1,none⟩=some (.int .i64 L1)/\v.cell? ⟨G,0,none⟩=some (.int .i64 K)/\v.cell? ⟨G,1,none⟩=some (.int .i64 P)) fun yH=>?_;refine Tf 0 1 2 3 4 5 ?_;clear yH;refine Aw 6 fun K hK=>?_;go_simp;(go_at_call 95;refine(HK1.out _ ((HC0.below HF.bel).below (A4 _))).mono ?_;rintro e w3 ⟨rfl,hb3⟩;have HB3:=bel (A4 _) hb3;obtain⟨y0,y1,y2⟩:=HC1.out w3 HB3);try(go_wp2_with fail)
    refine AU hK fun yH=>?_;clear hK K;refine Bn 7 ?_;refine wpAnyH_done kR ?_ _;go_wp2;go_roundw
    case rel=>exact⟨HC.out w3 HB3,2,oM,by first|rfl|go_num,⟨fun _=>hp.1 oM,fun _=>fT,fun h=>absurd h oM,fun h=>absurd h oM⟩⟩
    case measure=>simp[intOf]
  .have r0:=hF.r2;have ix:∀w,(Instr.index 148 (.agg #[.int .i64 D,.int .i64 A,.int .i64 B,.int .i64 E]) (.int .i64 2)).run prog w=.ok (.int .i64 B) w:=fun w=>(PJ D A B E w).2.2.1;clear hF;have HC1:Hid (∀v,Below wr.heap.size wr v->v.cell? ⟨w.heap.size,2,none⟩=some (.int .i64 L2)/\v.cell? ⟨G,0,none⟩=some (.int .i64 K)/\v.cell? ⟨G,1,none⟩=some (.int .i64 P)):=fun v hv=>⟨(HC.out v hv).r2,(HC.out v hv).m0,(HC.out v hv).m1⟩
   cases X2
   .go_wp2;refine rG (fun v=>v.cell? ⟨w.heap.size,2,none⟩=some (.int .i64 L2)/\v.cell? ⟨G,0,none⟩=some (.int .i64 K)/\v.cell? ⟨G,1,none⟩=some (.int .i64 P)) fun yH=>?_;refine Tf 0 1 2 3 4 5 ?_;clear yH;refine Aw 6 fun K hK=>?_;go_simp;(go_at_call 95;refine(HK2.out _ ((HC0.below HF.bel).below (A4 _))).mono ?_;rintro e w3 ⟨rfl,hb3⟩;have HB3:=bel (A4 _) hb3;obtain⟨y0,y1,y2⟩:=HC1.out w3 HB3);exact VZ
   .go_wp2;refine rG (fun v=>v.cell? ⟨w.heap.size,2,none⟩=some (.int .i64 L2)/\v.cell? ⟨G,0,none⟩=some (.int .i64 K)/\v.cell? ⟨G,1,none⟩=some (.int .i64 P)) fun yH=>?_;refine Tf 0 1 2 3 4 5 ?_;clear yH;refine Aw 6 fun K hK=>?_;go_simp;(go_at_call 95;refine(HK2.out _ ((HC0.below HF.bel).below (A4 _))).mono ?_;rintro e w3 ⟨rfl,hb3⟩;have HB3:=bel (A4 _) hb3;obtain⟨y0,y1,y2⟩:=HC1.out w3 HB3);try(go_wp2_with fail)
    refine AU hK fun yH=>?_;clear hK K;refine Bn 7 ?_;refine wpAnyH_done kR ?_ _;go_wp2;go_roundw
    case rel=>exact⟨HC.out w3 HB3,3,oM,by first|rfl|go_num,⟨fun _=>hp.1 oM,fun _=>hp.2.1 oM,fun _=>fT,fun h=>absurd h oM⟩⟩
    case measure=>simp[intOf]
  .have r0:=hF.r3;have ix:∀w,(Instr.index 148 (.agg #[.int .i64 D,.int .i64 A,.int .i64 B,.int .i64 E]) (.int .i64 3)).run prog w=.ok (.int .i64 E) w:=fun w=>(PJ D A B E w).2.2.2;clear hF;have HC1:Hid (∀v,Below wr.heap.size wr v->v.cell? ⟨w.heap.size,3,none⟩=some (.int .i64 L3)/\v.cell? ⟨G,0,none⟩=some (.int .i64 K)/\v.cell? ⟨G,1,none⟩=some (.int .i64 P)):=fun v hv=>⟨(HC.out v hv).r3,(HC.out v hv).m0,(HC.out v hv).m1⟩
   cases X3
   .go_wp2;refine rG (fun v=>v.cell? ⟨w.heap.size,3,none⟩=some (.int .i64 L3)/\v.cell? ⟨G,0,none⟩=some (.int .i64 K)/\v.cell? ⟨G,1,none⟩=some (.int .i64 P)) fun yH=>?_;refine Tf 0 1 2 3 4 5 ?_;clear yH;refine Aw 6 fun K hK=>?_;go_simp;(go_at_call 95;refine(HK3.out _ ((HC0.below HF.bel).below (A4 _))).mono ?_;rintro e w3 ⟨rfl,hb3⟩;have HB3:=bel (A4 _) hb3;obtain⟨y0,y1,y2⟩:=HC1.out w3 HB3);exact VZ
   .go_wp2;refine rG (fun v=>v.cell? ⟨w.heap.size,3,none⟩=some (.int .i64 L3)/\v.cell? ⟨G,0,none⟩=some (.int .i64 K)/\v.cell? ⟨G,1,none⟩=some (.int .i64 P)) fun yH=>?_;refine Tf 0 1 2 3 4 5 ?_;clear yH;refine Aw 6 fun K hK=>?_;go_simp;(go_at_call 95;refine(HK3.out _ ((HC0.below HF.bel).below (A4 _))).mono ?_;rintro e w3 ⟨rfl,hb3⟩;have HB3:=bel (A4 _) hb3;obtain⟨y0,y1,y2⟩:=HC1.out w3 HB3);try(go_wp2_with fail)
    refine AU hK fun yH=>?_;clear hK K;refine Bn 7 ?_;refine wpAnyH_done kR ?_ _;go_wp2;go_roundw
    case rel=>exact⟨HC.out w3 HB3,4,oM,by first|rfl|go_num,⟨fun _=>hp.1 oM,fun _=>hp.2.1 oM,fun _=>hp.2.2.1 oM,fun _=>fT⟩⟩
    case measure=>simp[intOf]
  .have r4:=hF.r4;obtain⟨rfl,rfl,rfl,rfl⟩:X0=true/\X1=true/\X2=true/\X3=true:=⟨hp.1 oM,hp.2.1 oM,hp.2.2.1 oM,hp.2.2.2 oM⟩
   clear hF hp;go_wp2_with(go_at_call 96;refine(HK4.out (HP.out rfl rfl) _ (HC0.below HF.bel) (HI0.below HF.bel)).mono ?_;rintro e w3 ⟨rfl,hb3⟩);go_ret;exact⟨A8 sM,(HC.out w3 hb3).bel⟩
theorem GO:(prog.info? 3).map (fun i=>(i.zero,i.size,i.bytes))=some (some (.int .i64 0),1,8):=kR
def Cf(l:List Int):List Value:=l.map fun x=>.int .i64 x
theorem CO(l:List Int)(x:Int):Cf (l++[x])=Cf l++[.int .i64 x]:=by simp[Cf]
theorem Ef{w:World}{B:Nat}{t:TypeId}{k:Nat}{v:Value}{n:Nat}{xs:List Value}(h:w.ownsRow B t k v n xs)(hn:0<n):
 ∃g cap,v=.slice (some ⟨g,0,none⟩) n cap/\B<=g/\g<w.heap.size/\n<=cap/\cap<=maxLen/\∀ (j:Nat) (u:Value),xs[j]? =some u->w.cell? ⟨g,j,none⟩=some u:=by
 obtain⟨hl,h⟩:=h;rcases h with⟨_,h0⟩|⟨g,cap,cur,hv,hB,hg,hc1,hc2,hsz,htk⟩
 .omega
 .refine⟨g,cap,hv,hB,?_,hc1,hc2,fun j u hu=>?_⟩
  .rcases Nat.lt_or_ge g w.heap.size with c|c
   .exact c
   .rw[Array.getElem?_eq_none c]at hg;cases hg
  .have hj:j<xs.length:=(List.getElem?_eq_some_iff.1 hu).1;rw[<-htk,List.getElem?_take_of_lt oM]at hu;simpa[World.cell?,hg]using hu
theorem Ac{w:World}{B:Nat}{t:TypeId}{k:Nat}{v:Value}{n:Nat}{xs:List Value}(h:w.ownsRow B t k v n xs):∃p cap,v=.slice p n cap:=by
 obtain⟨hl,h⟩:=h;rcases h with⟨rfl,rfl⟩|⟨g,cap,cur,hv,-⟩
 .exact⟨none,0,rfl⟩
 .exact⟨_,_,hv⟩
theorem Aa{w w':World}{B:Nat}{t:TypeId}{k:Nat}{v:Value}{n:Nat}{xs:List Value}(h:w.ownsRow B t k v n xs)(hb:∀g,v.ownBlock=some g->w'.heap[g]? =w.heap[g]?):w'.ownsRow B t k v n xs:=by
 refine⟨h.1,?_⟩;rcases h.2 with h5|⟨g,cap,cur,hv,hB,hg,hr⟩
 .exact .inl h5
 .exact .inr ⟨g,cap,cur,hv,hB,(hb g (by rw[hv];rfl)).trans hg,hr⟩
theorem Ag{w w':World}{B:Nat}{t:TypeId}{k:Nat}{v:Value}{n:Nat}{xs:List Value}(h:w.ownsRow B t k v n xs)(q:Below w.heap.size w w'):w'.ownsRow B t k v n xs:=Aa h fun g hg=>q.block g (h.lt g hg).2
theorem C2{w:World}{B B':Nat}{t:TypeId}{k:Nat}{v:Value}{n:Nat}{xs:List Value}(h:w.ownsRow B t k v n xs)(hB:B'<=B):w.ownsRow B' t k v n xs:=
 ⟨h.1,h.2.imp id fun⟨g,cap,cur,h1,h2,h3⟩=>⟨g,cap,cur,h1,gH hB h2,h3⟩⟩
def Dk(L x:Int):List Int:=if L=0 then [] else [x]
theorem Eg(i:Ax)(r:Rw):Ay i r=(Dk r.a i.a++Dk r.b i.b)++Dk r.c i.c:=by unfold Ay Dk;simp
theorem DE(L x:Int):(Dk L x).length<=1:=by unfold Dk;split<;>simp
structure V0(w:World)(G C:Nat)(L1 L2 L3 A B E:Int)(v:World):Prop where
 bel:Below w.heap.size w v
 hC:w.heap.size<C
 hG:G<C
 le:C<=v.heap.size
 r1:v.cell? ⟨w.heap.size,1,none⟩=some (.int .i64 L1)
 r2:v.cell? ⟨w.heap.size,2,none⟩=some (.int .i64 L2)
 r3:v.cell? ⟨w.heap.size,3,none⟩=some (.int .i64 L3)
 g1:v.cell? ⟨G,1,none⟩=some (.int .i64 A)
 g2:v.cell? ⟨G,2,none⟩=some (.int .i64 B)
 g3:v.cell? ⟨G,3,none⟩=some (.int .i64 E)
theorem V0.next{w:World}{G C:Nat}{L1 L2 L3 A B E:Int}{v v':World}(h:V0 w G C L1 L2 L3 A B E v)(k:Below C v v'):V0 w G C L1 L2 L3 A B E v':=by
 have c1:∀ {a:Addr} {u:Value},a.block<C->v.cell? a=some u->v'.cell? a=some u:=fun ha hu=>(k.cell ha).trans hu;exact⟨h.bel.trans (k.mono (Nat.le_of_lt h.hC)),h.hC,h.hG,gH h.le k.size,c1 h.hC h.r1,c1 h.hC h.r2,c1 h.hC h.r3,c1 h.hG h.g1,c1 h.hG h.g2,c1 h.hG h.g3⟩
theorem F0(b o:Nat)(i:Ax)(r:Rw)(w:World)(hi:Aq w b o (CJ i)):
 Calls prog 59 #[CA r,.pointer (some ⟨b,o,none⟩)] w fun e w'=>∃v,e=.returned v/\w'.ownsRow w.heap.size 3 1 v (Ay i r).length (Cf (Ay i r))/\Below w.heap.size w w':=by
 rw[Eg];have KR:=fun w k=>DT b o i w k;have HI0:Hid (Aq w b o (CJ i)):=hi;obtain⟨i0,hi0,hz0,hz1,hz3⟩:=info_parts GO;obtain⟨L0,L1,L2,L3,L4⟩:=r;obtain⟨io,D,A,B,E,n,bt⟩:=i;unfold CA;simp only at KR |-;have HKR:Hid (∀w,Aq w b o (CJ ⟨io,D,A,B,E,n,bt⟩)->Calls prog 94 #[.pointer (some ⟨b,o,none⟩)] w fun e w'=>e=.returned (.agg #[.int .i64 D,.int .i64 A,.int .i64 B,.int .i64 E])/\Below w.heap.size w w'):=KR;clear KR hi;obtain⟨R,hR⟩:=gA ((Dk L1 A++Dk L2 B)++Dk L3 E)
 rw[hR];have HR:Hid ((Dk L1 A++Dk L2 B)++Dk L3 E=R):=hR;clear hR;go_enter func59,ntmps59;go_wp2_with(go_at_call 94;refine(HKR.out _ (HI0.below (A2 _ _))).mono ?_;rintro e w1 ⟨rfl,hb1⟩);have HF1:Hid (V0 w w1.heap.size (w1.heap.size+1) L1 L2 L3 A B E (w1.alloc (.cells #[.int .i64 D,.int .i64 A,.int .i64 B,.int .i64 E] 148))):=by
  have hs:=hb1.size;simp at hs;exact⟨bel (bel (A2 _ _) hb1) (A2 _ _),oM,oM,sM,kc (A2 _ _) (kc hb1 sG),kc (A2 _ _) (kc hb1 sG),kc (A2 _ _) (kc hb1 sG),sG,sG,sG⟩
 obtain⟨G,hG⟩:=gA (w1.heap.size)
 obtain⟨W,hW⟩:=gA (w1.alloc (.cells #[.int .i64 D,.int .i64 A,.int .i64 B,.int .i64 E] 148))
 rw[hW]at HF1 |-;rw[hG]at HF1 |-;clear hG hW
 go_loopw [5,7] (fun lv iv wr=>V0 w G (G+1) L1 L2 L3 A B E wr/\∃ (j:Nat) (l:List Int),1<=j/\j<=4/\iv=.int .i64 j/\l.length<=j-1/\Hid (wr.ownsRow (G+1) 3 1 lv l.length (Cf l))/\Hid ((j=1->l=[])/\(j=2->l=Dk L1 A)/\(j=3->l=Dk L1 A++Dk L2 B)/\(j=4->l=(Dk L1 A++Dk L2 B)++Dk L3 E))) (fun _ iv _=>4-(intOf iv).toNat)
 case atStart=>exact⟨HF1.out,1,[],oM,oM,rfl,sM,World.ownsRow_nil _ _ _ 1,⟨fun _=>rfl,fun h=>absurd h oM,fun h=>absurd h oM,fun h=>absurd h oM⟩⟩
 case round=>
  clear HF1 HKR hb1;obtain⟨hF,j,l,hj1,hj,rfl,hll,HO,HL⟩:=hrel;have HF:Hid (V0 w G (G+1) L1 L2 L3 A B E wr):=hF;have hGw:=hF.le;have hn1:G≠wr.heap.size:=oM;have hn2:w.heap.size≠wr.heap.size:=by have:=hF.hC;omega
  obtain rfl|rfl|rfl|rfl:j=1\/j=2\/j=3\/j=4:=oM
  .have r0:=hF.r1;have g0:=hF.g1;have f0:=kc (A2 wr (.cells #[.int .i64 A] 3)) g0;have hl0:=HL.1 rfl;clear hF;by_cases hz:L1=0
   .have hz':(L1 != 0)=false:=by simpa using hz
    have hz2:(L1==0)=true:=by simpa using hz
    have HZ:Hid (L1=0):=hz;clear hz;go_wp2;go_roundw
    case rel=>exact⟨HF.out,2,l,oM,oM,by first|rfl|go_num,oM,HO,⟨fun h=>absurd h oM,fun _=>by rw[hl0];unfold Dk;simp[HZ.out],fun h=>absurd h oM,fun h=>absurd h oM⟩⟩
    case measure=>simp[intOf]
   .have hz':(L1 != 0)=true:=by simpa using hz
    have hz2:(L1==0)=false:=by simpa using hz
    have HZ:Hid (¬L1=0):=hz;clear hz;go_wp2_with(first
     |(at_builtin;refine wpList_append_own_at _ rfl _ _ 76 rfl (G+1) 3 i0 _ 1 8 underlying76 hi0 hz0 hz1 hz3 rfl dE _ l.length (Cf l) rfl (World.ownsRow.alloc HO.out _) ⟨wr.heap.size,0,none⟩ 1 1 [.int .i64 A] rfl rfl (World.news_of_block (cs:=#[.int .i64 A]) (t:=3) (fr:=(0,0)) (heap_alloc_new wr _)) Ny mL oM sO ?_;intro v' w3 hown3 hgrow hnil hat;have HO3:Hid (w3.ownsRow (G+1) 3 1 v' (l.length+1) (Cf l++[.int .i64 A])):=hown3;have HB3:Hid (Below (G+1) wr w3):=(Below.alloc (Below.refl _ _) hGw _).grown hgrow sO (fun q e=>(HO.lt q e).1);clear hown3 hgrow hnil hat))
    go_roundw
    case rel=>exact⟨HF.next HB3.out,2,l++[A],oM,oM,by first|rfl|go_num,sO,by show _;rw[List.length_append,CO];exact HO3.out,⟨fun h=>absurd h oM,fun _=>by rw[hl0,show Dk L1 A=[A]from if_neg HZ.out];try rfl,fun h=>absurd h oM,fun h=>absurd h oM⟩⟩
    case measure=>simp[intOf]
  .have r0:=hF.r2;have g0:=hF.g2;have f0:=kc (A2 wr (.cells #[.int .i64 B] 3)) g0;have hl0:=HL.2.1 rfl;clear hF;by_cases hz:L2=0
   .have hz':(L2 != 0)=false:=by simpa using hz
    have hz2:(L2==0)=true:=by simpa using hz
    have HZ:Hid (L2=0):=hz;clear hz;go_wp2;go_roundw
    case rel=>exact⟨HF.out,3,l,oM,oM,by first|rfl|go_num,oM,HO,⟨fun h=>absurd h oM,fun h=>absurd h oM,fun _=>by rw[hl0];unfold Dk;simp[HZ.out],fun h=>absurd h oM⟩⟩
    case measure=>simp[intOf]
   .have hz':(L2 != 0)=true:=by simpa using hz
    have hz2:(L2==0)=false:=by simpa using hz
    have HZ:Hid (¬L2=0):=hz;clear hz;go_wp2_with(first
     |(at_builtin;refine wpList_append_own_at _ rfl _ _ 76 rfl (G+1) 3 i0 _ 1 8 underlying76 hi0 hz0 hz1 hz3 rfl dE _ l.length (Cf l) rfl (World.ownsRow.alloc HO.out _) ⟨wr.heap.size,0,none⟩ 1 1 [.int .i64 B] rfl rfl (World.news_of_block (cs:=#[.int .i64 B]) (t:=3) (fr:=(0,0)) (heap_alloc_new wr _)) Ny mL oM sO ?_;intro v' w3 hown3 hgrow hnil hat;have HO3:Hid (w3.ownsRow (G+1) 3 1 v' (l.length+1) (Cf l++[.int .i64 B])):=hown3;have HB3:Hid (Below (G+1) wr w3):=(Below.alloc (Below.refl _ _) hGw _).grown hgrow sO (fun q e=>(HO.lt q e).1);clear hown3 hgrow hnil hat))
    go_roundw
    case rel=>exact⟨HF.next HB3.out,3,l++[B],oM,oM,by first|rfl|go_num,sO,by show _;rw[List.length_append,CO];exact HO3.out,⟨fun h=>absurd h oM,fun h=>absurd h oM,fun _=>by rw[hl0,show Dk L2 B=[B]from if_neg HZ.out];try rfl,fun h=>absurd h oM⟩⟩
    case measure=>simp[intOf]
  .have r0:=hF.r3;have g0:=hF.g3;have f0:=kc (A2 wr (.cells #[.int .i64 E] 3)) g0;have hl0:=HL.2.2.1 rfl;clear hF;by_cases hz:L3=0
   .have hz':(L3 != 0)=false:=by simpa using hz
    have hz2:(L3==0)=true:=by simpa using hz
    have HZ:Hid (L3=0):=hz;clear hz;go_wp2;go_roundw
    case rel=>exact⟨HF.out,4,l,oM,oM,by first|rfl|go_num,oM,HO,⟨fun h=>absurd h oM,fun h=>absurd h oM,fun h=>absurd h oM,fun _=>by rw[hl0];unfold Dk;simp[HZ.out]⟩⟩
    case measure=>simp[intOf]
   .have hz':(L3 != 0)=true:=by simpa using hz
    have hz2:(L3==0)=false:=by simpa using hz
    have HZ:Hid (¬L3=0):=hz;clear hz;go_wp2_with(first
     |(at_builtin;refine wpList_append_own_at _ rfl _ _ 76 rfl (G+1) 3 i0 _ 1 8 underlying76 hi0 hz0 hz1 hz3 rfl dE _ l.length (Cf l) rfl (World.ownsRow.alloc HO.out _) ⟨wr.heap.size,0,none⟩ 1 1 [.int .i64 E] rfl rfl (World.news_of_block (cs:=#[.int .i64 E]) (t:=3) (fr:=(0,0)) (heap_alloc_new wr _)) Ny mL oM sO ?_;intro v' w3 hown3 hgrow hnil hat;have HO3:Hid (w3.ownsRow (G+1) 3 1 v' (l.length+1) (Cf l++[.int .i64 E])):=hown3;have HB3:Hid (Below (G+1) wr w3):=(Below.alloc (Below.refl _ _) hGw _).grown hgrow sO (fun q e=>(HO.lt q e).1);clear hown3 hgrow hnil hat))
    go_roundw
    case rel=>exact⟨HF.next HB3.out,4,l++[E],oM,oM,by first|rfl|go_num,sO,by show _;rw[List.length_append,CO];exact HO3.out,⟨fun h=>absurd h oM,fun h=>absurd h oM,fun h=>absurd h oM,fun _=>by rw[hl0,show Dk L3 E=[E]from if_neg HZ.out];try rfl⟩⟩
    case measure=>simp[intOf]
  .exact Y8
def Ub(b:Bk):List Value:=[.bool b.loop,.int .i64 b.par,.int .i64 b.ahead]
def C8(l:List Bk):List Value:=l.flatMap Ub
theorem E8(l:List Bk)(b:Bk):C8 (l++[b])=C8 l++Ub b:=by simp[C8]
theorem CT:∀l:List Bk,(C8 l).length=l.length*3
 |[]=>rfl
 |b::l=>by
  have e:C8 (b::l)=Ub b++C8 l:=by simp[C8]
  rw[e,List.length_append,CT l];simp[Ub];omega
theorem E7(l:List Bk)(b:Bk)(j:Nat){u:Value}(h:(Ub b)[j]? =some u):(C8 (l++[b]))[l.length*3+j]? =some u:=by
 rw[E8,List.getElem?_append_right (by rw[CT];omega),CT,Nat.add_sub_cancel_left];exact h
def F1(l:List Nat):List Value:=l.map fun(x:Nat)=>Value.int .i64 (x:Int)
theorem ON(l:List Nat)(x:Nat):F1 (l++[x])=F1 l++[.int .i64 (x:Int)]:=by simp[F1]
theorem OO(l:List Nat)(n:Nat):(F1 l).take n=F1 (l.take n):=by simp[F1,List.map_take]
def VN(C gi n:Nat)(vs vo:Value)(j:Nat):Value:=if j=0 then .pointer (some ⟨C,0,none⟩)else if j=1 then .slice (some ⟨gi,0,none⟩) n n else if j=2 then vs else vo
structure WS(E G C n gi:Nat)(vs vo:Value)(w:World)(s:Wk):Prop where
 g:w.rowIs G 79 4 (VN C gi n vs vo)
 i:w.rowIs gi 4 n (fun j=>.bool (decide (j∈s.set)))
 set:w.ownsRow E 3 1 vs s.set.length (F1 s.set)
 opn:w.ownsRow E 153 3 vo s.opens.length (C8 s.opens.reverse)
 hG:E<=G
 hgi:E<=gi
 n1:gi≠G
 n2:vs.ownBlock≠some G
 n3:vs.ownBlock≠some gi
 n4:vo.ownBlock≠some G
 n5:vo.ownBlock≠some gi
 n6:∀b,vs.ownBlock=some b->vo.ownBlock≠some b
section
variable {E G C n gi : Nat} {vs vo : Value} {w w' : World} {s : Wk}
theorem WS.below(h:WS E G C n gi vs vo w s)(k:Below w.heap.size w w'):WS E G C n gi vs vo w' s:=
 ⟨h.g.of_block (k.block _ h.g.lt),h.i.of_block (k.block _ h.i.lt),Ag h.set k,Ag h.opn k,h.hG,h.hgi,h.n1,h.n2,h.n3,h.n4,h.n5,h.n6⟩
theorem WS.c0(h:WS E G C n gi vs vo w s):w.cell? ⟨G,0,none⟩=some (.pointer (some ⟨C,0,none⟩)):=h.g.cell (i:=0) dE
theorem WS.c1(h:WS E G C n gi vs vo w s):w.cell? ⟨G,1,none⟩=some (.slice (some ⟨gi,0,none⟩) n n):=h.g.cell (i:=1) dE
theorem WS.c2(h:WS E G C n gi vs vo w s):w.cell? ⟨G,2,none⟩=some vs:=h.g.cell (i:=2) dE
theorem WS.c3(h:WS E G C n gi vs vo w s):w.cell? ⟨G,3,none⟩=some vo:=h.g.cell (i:=3) dE
theorem WS.lt(h:WS E G C n gi vs vo w s):E<=w.heap.size:=gH h.hG (Nat.le_of_lt h.g.lt)
end
theorem Hs(E G C n gi:Nat)(vs vo:Value)(s:Wk)(w:World)(h:WS E G C n gi vs vo w s)(hn:s.opens.length<=64):
 Calls prog 97 #[.pointer (some ⟨G,0,none⟩)] w fun e w'=>(∃A:Int,e=.returned (.tuple #[.agg #[.bool (AP s),.int .i64 (C9 s),.int .i64 A],.bool (!s.opens.isEmpty)]))/\Below w.heap.size w w':=by
 have c3:=h.c3;have ho:=h.opn;have hG:=h.g.lt;have nG:G≠w.heap.size:=oM;obtain⟨X,O⟩:=s;cases O with
 |nil=>
  obtain⟨p,q,rfl⟩:=Ac ho;unfold AP C9;simp only[List.isEmpty_nil,Bool.not_true]at c3 |-;have f3:(w.alloc (.cells #[.bool false,.int .i64 0,.int .i64 0] 153)).cell? ⟨G,3,none⟩=some (.slice p 0 q):=kc (A2 _ _) c3;clear ho h;go_enter func97,ntmps97;go_wp2;refine bodyPost_ret (by simp[results,results97,go_sem];try rfl) rfl ?_;exact⟨⟨0,rfl⟩,gG⟩
 |cons b r=>
  obtain⟨g,cap,rfl,hE,hg,hc1,hc2,hcl⟩:=Ef ho sM;unfold AP C9;simp only[List.isEmpty_cons,Bool.not_false]at c3 |-;obtain⟨L,P,A⟩:=b;simp only[List.reverse_cons]at hcl;have hl:r.reverse.length=r.length:=List.length_reverse;have x0:=hcl (r.length*3) (.bool L) Ym;have x1:=hcl (r.length*3+1) (.int .i64 P) Yl;have x2:=hcl (r.length*3+2) (.int .i64 A) Yk;simp only[List.length_cons]at c3 hn hc1;obtain⟨m,hm⟩:=gA (r.length)
  rw[hm]at x0 x1 x2 c3 hn hc1;obtain⟨N,hN⟩:=gA (m+1)
  rw[hN]at c3 hn hc1;have hw:IntKind.i64.wrap ((N:Int)-1)=(m:Int):=by rw[IntKind.wrap_i64];omega
  have h0:((N:Int)==0)=false:=by have:(N:Int)≠0:=oM;simpa using this
  have h0':(N==0)=false:=by have:N≠0:=oM;simpa using this
  have i1:(0:Int)<=(m:Int):=oM;have i2:(m:Int)<(N:Int):=oM;have ng:g≠w.heap.size:=oM;have f3:(w.alloc (.cells #[.bool false,.int .i64 0,.int .i64 0] 153)).cell? ⟨G,3,none⟩=some (.slice (some ⟨g,0,none⟩) N cap):=kc (A2 _ _) c3;have y0:(w.alloc (.cells #[.bool false,.int .i64 0,.int .i64 0] 153)).cell? ⟨g,m*3,none⟩=some (.bool L):=kc (A2 _ _) x0;have y1:(w.alloc (.cells #[.bool false,.int .i64 0,.int .i64 0] 153)).cell? ⟨g,m*3+1,none⟩=some (.int .i64 P):=kc (A2 _ _) x1;have y2:(w.alloc (.cells #[.bool false,.int .i64 0,.int .i64 0] 153)).cell? ⟨g,m*3+2,none⟩=some (.int .i64 (A:Int)):=kc (A2 _ _) x2;have HN:Hid (m+1=N):=hN;clear hcl ho h hm hl hN hE;go_enter func97,ntmps97;go_wp2;refine rG (fun v=>v.cell? ⟨G,3,none⟩=some (.slice (some ⟨g,0,none⟩) N cap)/\v.cell? ⟨g,m*3,none⟩=some (.bool L)/\v.cell? ⟨g,m*3+1,none⟩=some (.int .i64 P)/\v.cell? ⟨g,m*3+2,none⟩=some (.int .i64 (A:Int))) fun yH=>?_;refine Tf 0 1 2 3 4 5 ?_;refine Tf 6 7 8 9 10 11 ?_;clear yH;refine Aw 12 fun K hK=>?_;go_simp;refine AU hK fun yH=>?_;clear hK K;refine Bn 13 ?_;refine wpAnyH_done kR ?_ _;go_wp2;refine bodyPost_ret (by simp[results,results97,go_sem];try rfl) rfl ?_;exact⟨⟨_,rfl⟩,gG⟩
theorem Gk(op:Int)(w:World):Calls prog 132 #[.int .i64 op] w fun e w'=>e=.returned (.bool (E9 op))/\w'=w:=by
 unfold E9;by_cases h:3<=op
 all_goals
  go_enter func132,ntmps132;exact We
theorem Lr(op:Int)(w:World):Calls prog 98 #[.int .i64 op] w fun e w'=>e=.returned (.bool (C5 op))/\w'=w:=by
 have HK:Hid (∀w,Calls prog 132 #[.int .i64 op] w fun e w'=>e=.returned (.bool (E9 op))/\w'=w):=Gk op;by_cases h:29<=op/\op<=33
 .have hl:C5 op=true:=by unfold C5;simp;omega
  rw[hl];obtain rfl|rfl|rfl|rfl|rfl:op=29\/op=30\/op=31\/op=32\/op=33:=oM
  all_goals
   clear h hl HK;go_enter func98,ntmps98;go_wp2;go_ret;exact⟨rfl,rfl⟩
 .have hl:C5 op=E9 op:=by
   unfold C5;have:(decide (29<=op)&&decide (op<=33))=false:=sO;rw[this];rfl
  rw[hl];have e1:(op==29)=false:=by have:op≠29:=oM;simpa using this
  have e2:(op==30)=false:=by have:op≠30:=oM;simpa using this
  have e3:(op==31)=false:=by have:op≠31:=oM;simpa using this
  have e4:(op==32)=false:=by have:op≠32:=oM;simpa using this
  have e5:(op==33)=false:=by have:op≠33:=oM;simpa using this
  clear h hl;go_enter func98,ntmps98;go_wp2_with(go_at_call 132;refine(HK.out _).mono ?_;rintro e w1 ⟨rfl,rfl⟩);go_ret;exact⟨rfl,rfl⟩
theorem QT(w:World):Calls prog 56 #[.int .i64 30] w fun e w'=>e=.returned (.tuple #[CA (A5 30),.bool true])/\Below w.heap.size w w':=by
 exact DP
theorem QU(w:World):Calls prog 56 #[.int .i64 31] w fun e w'=>e=.returned (.tuple #[CA (A5 31),.bool true])/\Below w.heap.size w w':=by
 exact DP
theorem QV(w:World):Calls prog 56 #[.int .i64 32] w fun e w'=>e=.returned (.tuple #[CA (A5 32),.bool true])/\Below w.heap.size w w':=by
 exact DP
theorem QW(w:World):Calls prog 56 #[.int .i64 33] w fun e w'=>e=.returned (.tuple #[CA (A5 33),.bool true])/\Below w.heap.size w w':=by
 exact DP
theorem QX(w:World):Calls prog 56 #[.int .i64 34] w fun e w'=>e=.returned (.tuple #[CA (A5 34),.bool true])/\Below w.heap.size w w':=by
 exact DP
theorem QY(w:World):Calls prog 56 #[.int .i64 35] w fun e w'=>e=.returned (.tuple #[CA (A5 35),.bool true])/\Below w.heap.size w w':=by
 exact DP
theorem QZ(w:World):Calls prog 56 #[.int .i64 36] w fun e w'=>e=.returned (.tuple #[CA (A5 36),.bool true])/\Below w.heap.size w w':=by
 exact DP
theorem R0(w:World):Calls prog 56 #[.int .i64 37] w fun e w'=>e=.returned (.tuple #[CA (A5 37),.bool true])/\Below w.heap.size w w':=by
 exact DP
end Go.Proofs.YtjlpkjblkllfbaaGreatDoor
