import Derived.Test.YtnlgkkbmbijndaaGreatEnco15
import Derived.Test.YtnlgkkbmbijndaaGreatEnco14
import Derived.Test.YtnlgkkbmbijndaaGreatEnco9
import Derived.Test.YtnlgkkbmbijndaaGreatEnco1
namespace Go.Proofs.YtnlgkkbmbijndaaGreat
open Go.RowKit Go.Proofs.Tryz
set_option linter.all false
set_option maxRecDepth 100000
set_option maxHeartbeats 16000000
theorem Gh(v0 v1 v2 v3:Value)(c:Cd)(hk:Bd c)(n p:Int)(hp:n=1->Ao p c.sign.length=true)(w:World)(hv:CN w v0 v1 v2 v3 c):
 Calls prog 93 #[.agg #[v0,v1,v2,v3],.int .i64 n,.int .i64 p] w fun e w'=>e=.returned (.bool (n==0||(n==1&&CA c.sign p==2)))/\Below w.heap.size w w':=by
 have HB:=hk.signL;by_cases h0:n=0
 .subst h0;clear hp hv;go_enter func93,ntmps93;go_wp2;go_ret;exact⟨rfl,A5 _ _⟩
 .have h0':(n==0)=false:=by simpa using h0
  by_cases h1:n=1
  .subst h1;obtain⟨k,rfl,hkl⟩:=Cq (hp rfl);have hr:=hv.sign;obtain⟨p,q,rfl,hrr⟩:=hv.sign;obtain⟨lb,lo,rfl,hc⟩:=hr.at hkl;have e:CA c.sign (k:Int)=c.sign[k].kind:=by unfold CA;rw[Int.toNat_natCast,gB hkl];rfl
   rw[e];obtain⟨⟨nm,K,L⟩,ht⟩:∃t:Be,c.sign[k]=t:=⟨_,rfl⟩
   rw[ht]at hc |-;have y1:w.cell? ⟨lb,lo+k*3+1,none⟩=some (.int .i64 K):=hc.at 1 rfl;have g1:∀o,(w.alloc o).cell? ⟨lb,lo+k*3+1,none⟩=some (.int .i64 K):=fun o=>kc (A5 _ _) y1;obtain⟨N,hN⟩:=gA (c.sign.length)
   rw[hN]at hkl HB |-;clear hr hrr hc ht e hp hv hN h0 hk;simp only;go_enter func93,ntmps93;go_wp2;go_ret;exact⟨Ab sM,A5 _ _⟩
  .have h1':(n==1)=false:=by simpa using h1
   rw[h0',h1'];clear hp hv h0 h1;go_enter func93,ntmps93;go_wp2;go_ret;exact⟨rfl,A5 _ _⟩
def Dl(i:AB):Int:=if Dr i.op||(i.op==29||(i.op==30||i.op==32))then i.d else if i.op==31||i.op==33 then i.a else -1
def DR(rs:List Ty)(n:Int):Int:=if Ao n rs.length&&(Av rs n).kind==3 then(Av rs n).par else -1
theorem Ht(v0 v1 v2 v3:Value)(c:Cd)(hk:Bd c)(i:AB)(w:World)(hv:CN w v0 v1 v2 v3 c):
 Calls prog 69 #[.agg #[v0,v1,v2,v3],Bo i] w fun e w'=>e=.returned (.int .i64 (DR c.regs (Dl i)))/\Below w.heap.size w w':=by
 have HB:=hk.regsL;have KE:Hid (∀v,Calls prog 94 #[.int .i64 i.op] v fun e w'=>e=.returned (.bool (Dr i.op))/\w'=v):=KY i.op;have hr:=hv.regs;obtain⟨p,q,rfl,hrr⟩:=hv.regs;clear hv hk hrr;obtain⟨op,D,A,B,E,nn,bb⟩:=i;unfold Bo;simp only at KE |-;have E6:∀n:Int,(Ao n c.regs.length=false/\DR c.regs n= -1)\/∃ (k:Nat) (lb lo:Nat) (K P:Int),n=(k:Int)/\k<c.regs.length/\p=some ⟨lb,lo,none⟩/\w.cell? ⟨lb,lo+k*2,none⟩=some (.int .i64 K)/\w.cell? ⟨lb,lo+k*2+1,none⟩=some (.int .i64 P)/\DR c.regs n=if K==3 then P else -1:=by
  intro n;cases h:Ao n c.regs.length
  .exact .inl ⟨rfl,by unfold DR;rw[h];rfl⟩
  .obtain⟨k,rfl,hkl⟩:=Cq h;obtain⟨lb,lo,hp,hc⟩:=hr.at hkl;refine .inr ⟨k,lb,lo,c.regs[k].kind,c.regs[k].par,rfl,hkl,hp,hc.at 0 rfl,hc.at 1 rfl,?_⟩;unfold DR;rw[h,Dc rfl hkl,Bool.true_and]
 obtain⟨N,hN⟩:=gA (c.regs.length)
 rw[hN]at HB E6 |-;clear hr;cases hX:Dr op
 .rw[hX]at KE;by_cases a29:op=29
  .subst a29;rw[show Dl ⟨29,D,A,B,E,nn,bb⟩=D from rfl];rcases E6 D with⟨hpl,e9⟩|⟨k,lb,lo,K,P,rfl,hkl,rfl,y0,y1,e9⟩
   .rw[e9];clear E6 e9;by_cases h0:D<0
    .exact EV
    .have h1:(N:Int)<=D:=by unfold Ao at hpl;simp at hpl;omega
     exact EV
   .rw[e9];clear E6 e9;have g0:∀o o',((w.alloc o).alloc o').cell? ⟨lb,lo+k*2,none⟩=some (.int .i64 K):=fun o o'=>kc (bel (A5 _ _) (A5 _ _)) y0;have g1:∀o o',((w.alloc o).alloc o').cell? ⟨lb,lo+k*2+1,none⟩=some (.int .i64 P):=fun o o'=>kc (bel (A5 _ _) (A5 _ _)) y1;by_cases h3:K=3
    .subst h3;exact EV
    .have h3':(K==3)=false:=by simpa using h3
     have h3b:(K != 3)=true:=by simpa using h3
     rw[h3'];clear h3;exact EV
  by_cases a30:op=30
  .subst a30;rw[show Dl ⟨30,D,A,B,E,nn,bb⟩=D from rfl];rcases E6 D with⟨hpl,e9⟩|⟨k,lb,lo,K,P,rfl,hkl,rfl,y0,y1,e9⟩
   .rw[e9];clear E6 e9;by_cases h0:D<0
    .exact EV
    .have h1:(N:Int)<=D:=by unfold Ao at hpl;simp at hpl;omega
     exact EV
   .rw[e9];clear E6 e9;have g0:∀o o',((w.alloc o).alloc o').cell? ⟨lb,lo+k*2,none⟩=some (.int .i64 K):=fun o o'=>kc (bel (A5 _ _) (A5 _ _)) y0;have g1:∀o o',((w.alloc o).alloc o').cell? ⟨lb,lo+k*2+1,none⟩=some (.int .i64 P):=fun o o'=>kc (bel (A5 _ _) (A5 _ _)) y1;by_cases h3:K=3
    .subst h3;exact EV
    .have h3':(K==3)=false:=by simpa using h3
     have h3b:(K != 3)=true:=by simpa using h3
     rw[h3'];clear h3;exact EV
  by_cases a32:op=32
  .subst a32;rw[show Dl ⟨32,D,A,B,E,nn,bb⟩=D from rfl];rcases E6 D with⟨hpl,e9⟩|⟨k,lb,lo,K,P,rfl,hkl,rfl,y0,y1,e9⟩
   .rw[e9];clear E6 e9;by_cases h0:D<0
    .exact EV
    .have h1:(N:Int)<=D:=by unfold Ao at hpl;simp at hpl;omega
     exact EV
   .rw[e9];clear E6 e9;have g0:∀o o',((w.alloc o).alloc o').cell? ⟨lb,lo+k*2,none⟩=some (.int .i64 K):=fun o o'=>kc (bel (A5 _ _) (A5 _ _)) y0;have g1:∀o o',((w.alloc o).alloc o').cell? ⟨lb,lo+k*2+1,none⟩=some (.int .i64 P):=fun o o'=>kc (bel (A5 _ _) (A5 _ _)) y1;by_cases h3:K=3
    .subst h3;exact EV
    .have h3':(K==3)=false:=by simpa using h3
     have h3b:(K != 3)=true:=by simpa using h3
     rw[h3'];clear h3;exact EV
  by_cases a31:op=31
  .subst a31;rw[show Dl ⟨31,D,A,B,E,nn,bb⟩=A from rfl];rcases E6 A with⟨hpl,e9⟩|⟨k,lb,lo,K,P,rfl,hkl,rfl,y0,y1,e9⟩
   .rw[e9];clear E6 e9;by_cases h0:A<0
    .exact EV
    .have h1:(N:Int)<=A:=by unfold Ao at hpl;simp at hpl;omega
     exact EV
   .rw[e9];clear E6 e9;have g0:∀o o',((w.alloc o).alloc o').cell? ⟨lb,lo+k*2,none⟩=some (.int .i64 K):=fun o o'=>kc (bel (A5 _ _) (A5 _ _)) y0;have g1:∀o o',((w.alloc o).alloc o').cell? ⟨lb,lo+k*2+1,none⟩=some (.int .i64 P):=fun o o'=>kc (bel (A5 _ _) (A5 _ _)) y1;by_cases h3:K=3
    .subst h3;exact EV
    .have h3':(K==3)=false:=by simpa using h3
     have h3b:(K != 3)=true:=by simpa using h3
     rw[h3'];clear h3;exact EV
  by_cases a33:op=33
  .subst a33;rw[show Dl ⟨33,D,A,B,E,nn,bb⟩=A from rfl];rcases E6 A with⟨hpl,e9⟩|⟨k,lb,lo,K,P,rfl,hkl,rfl,y0,y1,e9⟩
   .rw[e9];clear E6 e9;by_cases h0:A<0
    .exact EV
    .have h1:(N:Int)<=A:=by unfold Ao at hpl;simp at hpl;omega
     exact EV
   .rw[e9];clear E6 e9;have g0:∀o o',((w.alloc o).alloc o').cell? ⟨lb,lo+k*2,none⟩=some (.int .i64 K):=fun o o'=>kc (bel (A5 _ _) (A5 _ _)) y0;have g1:∀o o',((w.alloc o).alloc o').cell? ⟨lb,lo+k*2+1,none⟩=some (.int .i64 P):=fun o o'=>kc (bel (A5 _ _) (A5 _ _)) y1;by_cases h3:K=3
    .subst h3;exact EV
    .have h3':(K==3)=false:=by simpa using h3
     have h3b:(K != 3)=true:=by simpa using h3
     rw[h3'];clear h3;exact EV
  .have b29:(op==29)=false:=by simpa using a29
   have b30:(op==30)=false:=by simpa using a30
   have b31:(op==31)=false:=by simpa using a31
   have b32:(op==32)=false:=by simpa using a32
   have b33:(op==33)=false:=by simpa using a33
   rw[show Dl ⟨op,D,A,B,E,nn,bb⟩= -1 by unfold Dl;simp[hX,b29,b30,b31,b32,b33]];rw[show DR c.regs (-1)= -1 by unfold DR Ao;simp];clear E6 a29 a30 a31 a32 a33;exact EV
 .rw[hX]at KE;rw[show Dl ⟨op,D,A,B,E,nn,bb⟩=D by unfold Dl;simp[hX]];rcases E6 D with⟨hpl,e9⟩|⟨k,lb,lo,K,P,rfl,hkl,rfl,y0,y1,e9⟩
  .rw[e9];clear E6 e9;by_cases h0:D<0
   .exact EV
   .have h1:(N:Int)<=D:=by unfold Ao at hpl;simp at hpl;omega
    exact EV
  .rw[e9];clear E6 e9;have g0:∀o o',((w.alloc o).alloc o').cell? ⟨lb,lo+k*2,none⟩=some (.int .i64 K):=fun o o'=>kc (bel (A5 _ _) (A5 _ _)) y0;have g1:∀o o',((w.alloc o).alloc o').cell? ⟨lb,lo+k*2+1,none⟩=some (.int .i64 P):=fun o o'=>kc (bel (A5 _ _) (A5 _ _)) y1;by_cases h3:K=3
   .subst h3;exact EV
   .have h3':(K==3)=false:=by simpa using h3
    have h3b:(K != 3)=true:=by simpa using h3
    rw[h3'];clear h3;exact EV
theorem Cr(a:Int)(h0:0<=a)(h1:a<4294967296)(w:World):Calls prog 67 #[.int .u32 a] w fun e w'=>e=.returned (.bool (BE a))/\Below w.heap.size w w':=by
 have hc:BE a=(Cl a==a):=by unfold BE Cl;cases Ix a<;>rw[Bool.eq_iff_iff]<;>simp
 rw[hc];have HK:Hid (∀w,Calls prog 91 #[.int .i64 a] w fun e w'=>e=.returned (.int .i64 (Cl a))/\Below w.heap.size w w'):=Hm a h0 h1;have hw:IntKind.i64.wrap a=a:=by rw[IntKind.wrap_i64];omega
 clear hc;obtain⟨x,hx⟩:=gA (Cl a)
 rw[hx]at HK |-;clear hx;go_enter func67,ntmps67;go_wp2_with(go_at_call 91;refine(HK.out _).mono ?_;rintro e w1 ⟨rfl,hb1⟩;have HB1:Hid _:=hb1;clear hb1);go_ret;exact⟨rfl,HB1.out⟩
theorem GF(s:Sl)(h0:0<=s.bits)(h1:s.bits<4294967296)(p:Option Addr)(n c:Nat)(hn:n<=140737488351232)(w:World):
 Calls prog 34 #[FN s,.slice p n c] w fun e w'=>e=.returned (.bool (B1 s n))/\Below w.heap.size w w':=by
 have HK:Hid (∀w,Calls prog 67 #[.int .u32 s.bits] w fun e w'=>e=.returned (.bool (BE s.bits))/\Below w.heap.size w w'):=Cr s.bits h0 h1;have HT:Hid (∀w,Calls prog 33 #[Ci s.ty,.slice p n c] w fun e w'=>e=.returned (.bool (AA s.ty n))/\Below w.heap.size w w'):=En s.ty p n c hn;obtain⟨⟨K,P⟩,Q,B,I⟩:=s;unfold B1 DT FN BY;unfold Ci at HT;simp only at HK HT h0 h1 |-;obtain⟨X,hX⟩:=gA (BE B)
 obtain⟨Y,hY⟩:=gA (AA ⟨K,P⟩ n)
 rw[hX]at HK |-;rw[hY]at HT |-;clear hX hY;cases Y
 .rw[Bool.false_and];exact Rb
 .rw[Bool.true_and];by_cases h2:K=2
  .subst h2;rw[if_pos rfl];cases hb:(B==0)
   .have hb':(B != 0)=true:=by simpa using hb
    exact Rc
   .by_cases hi:0<=I
    all_goals
     exact Rc
  .rw[if_neg h2];have h2':(K==2)=false:=by simpa using h2
   clear h2;cases hi:(I==0)
   all_goals
    exact Rb
instance:DecidableEq Be:=fun a b=>by
 cases a;cases b
 simp only[Be.mk.injEq];exact inferInstanceAs (Decidable (_/\_/\_))
theorem C9{P:Program}{w:World}{ops:Array Oper}{o:Oper}{a:Act}{K:Act->World->Prop}{Q:Exit->Act->World->Prop}{E:Prop}(hgd:o.guard=none)(t:TypeId)(x y:Operand)(yt:TypeId)
 (ho:o.op=.binOp .neq t x y yt) (v1 v2 v:Value) (hx:a.eval x=v1) (hy:a.eval y=v2) (hg:(eqGuard .neq t x y v1 v2).run P w=.ok () w) (hr:(binOp .neq t v1 v2).run P w=.ok v w) (h:K (a.put o.dst v) w):
 if Region.wanted o (yielded ops a.tmps)=true then Oper.wp P o a w K Q else E:=by
 have hw:Region.wanted o (yielded ops a.tmps)=true:=by simp[Region.wanted,hgd]
 rw[if_pos hw];unfold Oper.wp execOp;simp only[ho,Sem.run_bind,Sem.run_pure,Result.andThen_ok,hx,hy,hg,hr];exact h
theorem NR(a b:Be)(w:World):(binOp .neq 59 (pv a) (pv b)).run prog w=.ok (.bool (!decide (a=b))) w:=by
 obtain⟨x0,x1,x2⟩:=a;obtain⟨y0,y1,y2⟩:=b;unfold pv;by_cases h0:x0=y0
 .subst h0;by_cases h1:x1=y1
  .subst h1;by_cases h2:x2=y2
   .subst h2;go_simp
   .go_simp
  .go_simp
 .go_simp;exact fun e=>absurd (Go.WideShapes.bytes_inj (by rwa[ByteArray.toList_eq,ByteArray.toList_eq]at e)) h0
theorem Je(p q:Operand)(a b:Be)(w:World):(eqGuard .neq 59 p q (pv a) (pv b)).run prog w=.ok () w:=by
 obtain⟨x0,x1,x2⟩:=a;obtain⟨y0,y1,y2⟩:=b;unfold pv;simp[eqGuard,go_sem]
theorem P5(a b:Ty)(w:World):(binOp .neq 62 (Ci a) (Ci b)).run prog w=.ok (.bool (!decide (a=b))) w:=by
 obtain⟨x0,x1⟩:=a;obtain⟨y0,y1⟩:=b;unfold Ci;by_cases h0:x0=y0
 .subst h0;by_cases h1:x1=y1
  .subst h1;go_simp
  .go_simp
 .go_simp
theorem LM(p q:Operand)(a b:Ty)(w:World):(eqGuard .neq 62 p q (Ci a) (Ci b)).run prog w=.ok () w:=by
 obtain⟨x0,x1⟩:=a;obtain⟨y0,y1⟩:=b;unfold Ci;simp[eqGuard,go_sem]
theorem P4(a b:Sl)(w:World):(binOp .neq 66 (FN a) (FN b)).run prog w=.ok (.bool (!decide (a=b))) w:=by
 obtain⟨⟨x0,x1⟩,x2,x3,x4⟩:=a;obtain⟨⟨y0,y1⟩,y2,y3,y4⟩:=b;unfold FN;by_cases h0:x0=y0
 .subst h0;by_cases h1:x1=y1
  .subst h1;by_cases h2:x2=y2
   .subst h2;by_cases h3:x3=y3
    .subst h3;by_cases h4:x4=y4
     .subst h4;go_simp
     .go_simp
    .go_simp
   .go_simp
  .go_simp
 .go_simp
theorem LL(p q:Operand)(a b:Sl)(w:World):(eqGuard .neq 66 p q (FN a) (FN b)).run prog w=.ok () w:=by
 obtain⟨⟨x0,x1⟩,x2,x3,x4⟩:=a;obtain⟨⟨y0,y1⟩,y2,y3,y4⟩:=b;unfold FN;simp[eqGuard,go_sem]
theorem NQ(a b:AB)(w:World):(binOp .neq 70 (Bo a) (Bo b)).run prog w=.ok (.bool (!decide (a=b))) w:=by
 obtain⟨x0,x1,x2,x3,x4,x5,x6⟩:=a;obtain⟨y0,y1,y2,y3,y4,y5,y6⟩:=b;unfold Bo;by_cases h0:x0=y0
 .subst h0;by_cases h1:x1=y1
  .subst h1;by_cases h2:x2=y2
   .subst h2;by_cases h3:x3=y3
    .subst h3;by_cases h4:x4=y4
     .subst h4;by_cases h5:x5=y5
      .subst h5;by_cases h6:x6=y6
       .subst h6;go_simp
       .go_simp
      .go_simp
     .go_simp
    .go_simp
   .go_simp
  .go_simp
 .go_simp
theorem Jd(p q:Operand)(a b:AB)(w:World):(eqGuard .neq 70 p q (Bo a) (Bo b)).run prog w=.ok () w:=by
 obtain⟨x0,x1,x2,x3,x4,x5,x6⟩:=a;obtain⟨y0,y1,y2,y3,y4,y5,y6⟩:=b;unfold Bo;simp[eqGuard,go_sem]
structure Lt where
 a:Int
 b:Int
 c:Int
 d:Int
 e:Int
def BU(op:Int):Lt:=
 if op=1 then⟨110,45,45,45,45⟩
 else if op=2 then⟨119,45,45,45,105⟩
 else if op=3 then⟨97,99,45,45,45⟩
 else if 4<=op/\op<=10 then⟨100,120,120,45,45⟩
 else if 11<=op/\op<=14 then⟨100,120,45,45,45⟩
 else if op=15 then⟨100,120,120,120,45⟩
 else if op=16 then⟨110,110,119,45,45⟩
 else if op=17 then⟨110,119,45,45,45⟩
 else if op=18 then⟨119,110,45,45,45⟩
 else if 19<=op/\op<=20 then⟨110,118,45,45,45⟩
 else if op=21\/op=25 then⟨119,119,45,45,45⟩
 else if op=26 then⟨119,119,119,119,45⟩
 else if 22<=op/\op<=28 then⟨119,119,119,45,45⟩
 else if 29<=op/\op<=30 then⟨118,45,45,45,112⟩
 else if op=31 then⟨45,118,45,45,112⟩
 else if op=32 then⟨97,45,45,45,115⟩
 else if op=33 then⟨45,97,45,45,115⟩
 else if op=34 then⟨45,119,45,45,45⟩
 else if op=36 then⟨45,45,45,45,113⟩
 else⟨45,45,45,45,45⟩
def dR(rs:List Ty)(l D:Int):Ty:=if l=45 then⟨0,0⟩else Av rs D
def tR(rs:List Ty)(l0 l1 D A:Int):Ty:=if l0=45/\l1≠45 then Av rs A else dR rs l0 D
def BV(c:Cd)(l n:Int)(t:Ty):Bool:=
 if l=105 then BY n
 else if l=112 then n==0||(n==1&&CA c.sign t.par==2)
 else if l=115 then Ao n c.slots.length&&decide (DB c.slots n=t)
 else if l=113 then Ao n c.sign.length
 else n==0
def Cu(c:Cd)(i:AB)(L:Lt):Bool:=
 (i.op==1||i.bits==0)&&(BE i.bits&&(Am c.regs L.a i.d ⟨0,0⟩&&(Am c.regs L.b i.a (dR c.regs L.a i.d)&&(Am c.regs L.c i.b (dR c.regs L.a i.d)&&(Am c.regs L.d i.c (dR c.regs L.a i.d)&&BV c L.e i.n (tR c.regs L.a L.b i.d i.a))))))
theorem Jj{c:Cd}(h:Aq c=true){n:Int}(hp:Ao n c.regs.length=true):AA (Av c.regs n) c.sign.length=true:=by
 obtain⟨k,rfl,hk⟩:=Cq hp;rw[Dc rfl hk];unfold Aq at h;exact List.all_eq_true.1 h _ (gD hk)
theorem Jk{c:Cd}(h:Aq c=true){n:Int}(hp:Ao n c.regs.length=true)(hk:(Av c.regs n).kind=1):(Av c.regs n).par=0:=by
 have:=Jj h hp;unfold AA at this;rw[if_pos (.inl hk)]at this;simpa using this
theorem QV{c:Cd}(h:Aq c=true){n m:Int}(hn:Ao n c.regs.length=true)(hm:Ao m c.regs.length=true)(hk:((Av c.regs m).kind==1||(Av c.regs m).kind==3)=true):
 ((Av c.regs n).kind==1||decide (Av c.regs n=Av c.regs m))=(decide (Av c.regs n=Av c.regs m)||((Av c.regs n).kind==1&&(Av c.regs m).kind==3)):=by
 have h1:=Jk h hn;have h2:=Jk h hm;generalize Av c.regs n=t at *;generalize Av c.regs m=d at *;obtain⟨K,P⟩:=t;obtain⟨A,B⟩:=d;simp only at h1 h2 hk |-;rw[Bool.eq_iff_iff];simp only[Bool.or_eq_true,beq_iff_eq,decide_eq_true_eq,Bool.and_eq_true,Ty.mk.injEq]at hk |-;constructor
 .rintro(e|e)
  .rcases hk with k|k
   .exact .inl ⟨oM,by rw[h1 e,h2 k]⟩
   .exact .inr ⟨e,k⟩
  .exact .inl e
 .rintro(e|e)
  .exact .inr e
  .exact .inl e.1
theorem PQ:BE 0=true:=dE
theorem CK(rs:List Ty)(n:Int)(d:Ty):Am rs 45 n d=(n==0):=if_pos rfl
theorem CQ(rs:List Ty)(n:Int)(d:Ty):Ai rs 0 n d=(n==0):=if_pos rfl
theorem Bj{l:Int}(h:l≠0)(rs:List Ty)(n:Int)(d:Ty):Ai rs l n d=(Ao n rs.length&&Dt l (Av rs n) d):=if_neg h
theorem Bg{l:Int}(h:l≠45)(rs:List Ty)(n:Int)(d:Ty):Am rs l n d=(Ao n rs.length&&DP l (Av rs n) d):=if_neg h
theorem EE(rs:List Ty)(n:Int)(d m:Ty):Am rs 110 n d=Ai rs 1 n m:=by rw[Bg dE,Bj dE];rfl
theorem BQ(rs:List Ty)(n:Int)(d m:Ty):Am rs 119 n d=Ai rs 2 n m:=by rw[Bg dE,Bj dE];rfl
theorem IC(rs:List Ty)(n:Int)(d m:Ty):Am rs 118 n d=Ai rs 3 n m:=by rw[Bg dE,Bj dE];rfl
theorem IB(rs:List Ty)(n:Int)(d m:Ty):Am rs 100 n d=Ai rs 4 n m:=by rw[Bg dE,Bj dE];rfl
theorem Ar(rs:List Ty)(n:Int)(d m:Ty):Am rs 45 n d=Ai rs 0 n m:=by rw[CK,CQ]
theorem IA(rs:List Ty)(n:Int)(d:Ty):Am rs 97 n d=Ai rs 6 n (Av rs n):=by rw[Bg dE,Bj dE];simp[DP,Dt]
theorem Pa(rs:List Ty)(n:Int)(d:Ty):Am rs 99 n d=Ai rs 5 n d:=by rw[Bg dE,Bj dE];simp[DP,Dt]
theorem Pb{c:Cd}(h:Aq c=true)(n:Int){m:Int}(hd:Ai c.regs 4 m (Av c.regs m)=true):Am c.regs 120 n (Av c.regs m)=Ai c.regs 5 n (Av c.regs m):=by
 rw[Bg dE,Bj dE];rw[Bj dE]at hd;simp only[Bool.and_eq_true]at hd;cases hn:Ao n c.regs.length
 .rfl
 .rw[Bool.true_and,Bool.true_and];exact QV h hn hd.1 hd.2
theorem AW{c:Cd}{i:AB}{L:Lt}{R:Rw}(h1:i.op≠1)(h7:R.n≠7)(ha:Am c.regs L.a i.d ⟨0,0⟩=Ai c.regs R.d i.d (AG c.regs i R))
 (hb:Ai c.regs R.d i.d (AG c.regs i R)=true->Am c.regs L.b i.a (dR c.regs L.a i.d)=Ai c.regs R.a i.a (AG c.regs i R))
 (hc:Ai c.regs R.d i.d (AG c.regs i R)=true->Am c.regs L.c i.b (dR c.regs L.a i.d)=Ai c.regs R.b i.b (AG c.regs i R))
 (hd:Ai c.regs R.d i.d (AG c.regs i R)=true->Am c.regs L.d i.c (dR c.regs L.a i.d)=Ai c.regs R.c i.c (AG c.regs i R))
 (he:BV c L.e i.n (tR c.regs L.a L.b i.d i.a)=G7 c i.n R.n (AG c.regs i R)):Cu c i L=B8 c i R:=by
 unfold Cu B8 BC;rw[if_neg h7,ha,he];have:(i.op==1)=false:=by simpa using h1
 rw[this,Bool.false_or];cases hX:Ai c.regs R.d i.d (AG c.regs i R)
 .simp
 .rw[hb hX,hc hX,hd hX];cases hb:(i.bits==0)
  .simp
  .have:i.bits=0:=by simpa using hb
   rw[this,PQ];simp
theorem H9{c:Cd}(h:Aq c=true)(i:AB):Cu c i (BU i.op)=B8 c i (Ad i.op):=by
 have x:=fun n=>@Pb c h n i.d;by_cases h1:i.op=1
 .have e1:BU i.op=⟨110,45,45,45,45⟩:=by rw[h1];rfl
  have e2:Ad i.op=⟨1,0,0,0,7⟩:=by rw[h1];rfl
  rw[e1,e2];unfold Cu B8 BC;simp only;rw[h1,EE _ _ _ (AG c.regs i ⟨1,0,0,0,7⟩),CK,CK,CK,CQ,CQ,CQ];rw[show BV c 45 i.n (tR c.regs 110 45 i.d i.a)=(i.n==0)from rfl];generalize Ai c.regs 1 i.d _=A1;cases A1<;>cases BE i.bits<;>simp
 unfold BU Ad;rw[if_neg h1,if_neg h1];by_cases h2:i.op=2
 .rw[if_pos h2,if_pos h2];exact AW h1 dE (BQ _ _ _ _) (fun _=>Ar _ _ _ _) (fun _=>Ar _ _ _ _) (fun _=>Ar _ _ _ _) rfl
 rw[if_neg h2,if_neg h2];by_cases h3:i.op=3
 .rw[if_pos h3,if_pos h3];exact AW h1 dE (IA _ _ _) (fun _=>Pa _ _ _) (fun _=>Ar _ _ _ _) (fun _=>Ar _ _ _ _) rfl
 rw[if_neg h3,if_neg h3];by_cases h4:4<=i.op/\i.op<=10
 .rw[if_pos h4,if_pos h4];exact AW h1 dE (IB _ _ _ _) (x _) (x _) (fun _=>Ar _ _ _ _) rfl
 rw[if_neg h4,if_neg h4];by_cases h5:11<=i.op/\i.op<=14
 .rw[if_pos h5,if_pos h5];exact AW h1 dE (IB _ _ _ _) (x _) (fun _=>Ar _ _ _ _) (fun _=>Ar _ _ _ _) rfl
 rw[if_neg h5,if_neg h5];by_cases h6:i.op=15
 .rw[if_pos h6,if_pos h6];exact AW h1 dE (IB _ _ _ _) (x _) (x _) (x _) rfl
 rw[if_neg h6,if_neg h6];by_cases h7:i.op=16
 .rw[if_pos h7,if_pos h7];exact AW h1 dE (EE _ _ _ _) (fun _=>EE _ _ _ _) (fun _=>BQ _ _ _ _) (fun _=>Ar _ _ _ _) rfl
 rw[if_neg h7,if_neg h7];by_cases h8:i.op=17
 .rw[if_pos h8,if_pos h8];exact AW h1 dE (EE _ _ _ _) (fun _=>BQ _ _ _ _) (fun _=>Ar _ _ _ _) (fun _=>Ar _ _ _ _) rfl
 rw[if_neg h8,if_neg h8];by_cases h9:i.op=18
 .rw[if_pos h9,if_pos h9];exact AW h1 dE (BQ _ _ _ _) (fun _=>EE _ _ _ _) (fun _=>Ar _ _ _ _) (fun _=>Ar _ _ _ _) rfl
 rw[if_neg h9,if_neg h9];by_cases h10:19<=i.op/\i.op<=20
 .rw[if_pos h10,if_pos h10];exact AW h1 dE (EE _ _ _ _) (fun _=>IC _ _ _ _) (fun _=>Ar _ _ _ _) (fun _=>Ar _ _ _ _) rfl
 rw[if_neg h10,if_neg h10];by_cases h11:i.op=21\/i.op=25
 .rw[if_pos h11,if_pos h11];exact AW h1 dE (BQ _ _ _ _) (fun _=>BQ _ _ _ _) (fun _=>Ar _ _ _ _) (fun _=>Ar _ _ _ _) rfl
 rw[if_neg h11,if_neg h11];by_cases h12:i.op=26
 .rw[if_pos h12,if_pos h12];exact AW h1 dE (BQ _ _ _ _) (fun _=>BQ _ _ _ _) (fun _=>BQ _ _ _ _) (fun _=>BQ _ _ _ _) rfl
 rw[if_neg h12,if_neg h12];by_cases h13:22<=i.op/\i.op<=28
 .rw[if_pos h13,if_pos h13];exact AW h1 dE (BQ _ _ _ _) (fun _=>BQ _ _ _ _) (fun _=>BQ _ _ _ _) (fun _=>Ar _ _ _ _) rfl
 rw[if_neg h13,if_neg h13];by_cases h14:29<=i.op/\i.op<=30
 .rw[if_pos h14,if_pos h14];exact AW h1 dE (IC _ _ _ _) (fun _=>Ar _ _ _ _) (fun _=>Ar _ _ _ _) (fun _=>Ar _ _ _ _) rfl
 rw[if_neg h14,if_neg h14];by_cases h15:i.op=31
 .rw[if_pos h15,if_pos h15];exact AW h1 dE (Ar _ _ _ _) (fun _=>IC _ _ _ _) (fun _=>Ar _ _ _ _) (fun _=>Ar _ _ _ _) rfl
 rw[if_neg h15,if_neg h15];by_cases h16:i.op=32
 .rw[if_pos h16,if_pos h16];exact AW h1 dE (IA _ _ _) (fun _=>Ar _ _ _ _) (fun _=>Ar _ _ _ _) (fun _=>Ar _ _ _ _) rfl
 rw[if_neg h16,if_neg h16];by_cases h17:i.op=33
 .rw[if_pos h17,if_pos h17];exact AW h1 dE (Ar _ _ _ _) (fun _=>IA _ _ _) (fun _=>Ar _ _ _ _) (fun _=>Ar _ _ _ _) rfl
 rw[if_neg h17,if_neg h17];by_cases h18:i.op=34
 .rw[if_pos h18,if_pos h18];exact AW h1 dE (Ar _ _ _ _) (fun _=>BQ _ _ _ _) (fun _=>Ar _ _ _ _) (fun _=>Ar _ _ _ _) rfl
 rw[if_neg h18,if_neg h18];by_cases h19:i.op=36
 .rw[if_pos h19,if_pos h19];exact RJ
 rw[if_neg h19,if_neg h19];exact RJ
def Hy(s:Wk)(op:Int):Bool:=if op=34\/op=36 then decide (s.opens.length<64)else if op=35 then decide (0<s.opens.length)&& !AI s else if op=37 then AI s else true
def Hb(c:Cd)(s:Wk)(i:AB):Bool:=AI s&&(i.op != 37&&DR c.regs (Dl i) != BH s)
def Cj(s:Wk):Prop:=∀b∈s.opens,b.loop=true->0<=b.par
theorem Cj.inner{s:Wk}(h:Cj s)(hl:AI s=true):0<=BH s:=by
 obtain⟨S,O⟩:=s;cases O with
 |nil=>exact Int.le_refl _
 |cons b r=>exact h b (List.mem_cons_self ..) hl
theorem EM{i:AB}(h:BF i.op=false):Dl i= -1:=by
 unfold BF at h;simp only[Bool.or_eq_false_iff]at h;have h1:(i.op==29)=false/\(i.op==30)=false/\(i.op==31)=false/\(i.op==32)=false/\(i.op==33)=false:=by
  have:=h.1;simp only[Bool.and_eq_false_iff,decide_eq_false_iff_not]at this;simp only[beq_eq_false_iff_ne,ne_eq];omega
 unfold Dl;rw[h.2,h1.1,h1.2.1,h1.2.2.1,h1.2.2.2.1,h1.2.2.2.2];rfl
theorem Lo{i:AB}(h:BF i.op=true):Dl i=Hd i (Ad i.op):=by
 unfold BF Dr at h;simp only[Bool.or_eq_true,Bool.and_eq_true,decide_eq_true_eq]at h;obtain⟨op,D,A,B,E,n,bb⟩:=i;simp only at h |-;have:op=3\/op=4\/op=5\/op=6\/op=7\/op=8\/op=9\/op=10\/op=11\/op=12\/op=13\/op=14\/op=15\/op=29\/op=30\/op=31\/op=32\/op=33:=oM;rcases this with rfl|rfl|rfl|rfl|rfl|rfl|rfl|rfl|rfl|rfl|rfl|rfl|rfl|rfl|rfl|rfl|rfl|rfl<;>rfl
theorem EO(rs:List Ty):DR rs (-1)= -1:=by unfold DR Ao;simp
theorem Oo{rs:List Ty}{n q:Int}(hq:0<=q):(DR rs n=q)↔Av rs n=⟨3,q⟩:=by
 unfold DR;cases h:Ao n rs.length
 .have:Av rs n=⟨0,0⟩:=by unfold Av;rw[h];rfl
  rw[this];simp;omega
 .rw[Bool.true_and];generalize Av rs n=t;obtain⟨K,P⟩:=t;simp only[Ty.mk.injEq];by_cases hk:K=3
  .subst hk;simp
  .have:(K==3)=false:=by simpa using hk
   rw[this];constructor
   .intro e;simp at e;omega
   .intro e;exact absurd e.1 hk
theorem Ll{c:Cd}{s:Wk}{i:AB}(hO:Cj s):AO c s i (Ad i.op)=(!Hb c s i&&Hy s i.op):=by
 have hO':=hO.inner;unfold AO Hb Hy;by_cases h1:i.op=34\/i.op=36
 .rw[if_pos h1,if_pos h1];have hv:DR c.regs (Dl i)= -1:=by
   rw[EM (by rcases h1 with e|e<;>rw[e]<;>decide),EO]
  have h37:(i.op != 37)=true:=by rcases h1 with e|e<;>rw[e]<;>decide
  rw[hv,h37];cases hl:AI s
  .rfl
  .have:=hO' hl;have e:((-1:Int) != BH s)=true:=sO;rw[e];rfl
 .rw[if_neg h1,if_neg h1];by_cases h2:i.op=35
  .rw[if_pos h2,if_pos h2];have hv:DR c.regs (Dl i)= -1:=by rw[EM (by rw[h2];decide),EO]
   rw[hv,h2];have hE:(!s.opens.isEmpty)=decide (0<s.opens.length):=by cases s.opens<;>simp
   rw[hE];cases hl:AI s
   .simp
   .have:=hO' hl;have e:((-1:Int) != BH s)=true:=sO;rw[e];simp
  .rw[if_neg h2,if_neg h2];by_cases h3:i.op=37
   .rw[if_pos h3,if_pos h3,h3];cases AI s<;>rfl
   .rw[if_neg h3,if_neg h3];have h37:(i.op != 37)=true:=by simpa using h3
    rw[h37,Bool.true_and,Bool.and_true];cases hl:AI s
    .rfl
    .have hq:=hO' hl;rw[Bool.not_true,Bool.false_or,Bool.true_and];cases hlp:BF i.op
     .rw[EM hlp,EO];have e:((-1:Int) != BH s)=true:=sO;rw[e];rfl
     .rw[Lo hlp,Bool.true_and];unfold AG;rw[Bool.eq_iff_iff,decide_eq_true_eq,<-Oo hq];simp
theorem Lm{c:Cd}{s:Wk}{i:AB}(hT:Aq c=true)(hO:Cj s):Bb c s i=((Ax i.op&&Cu c i (BU i.op))&&(!Hb c s i&&(FC s i (Ad i.op)&&Hy s i.op))):=by
 unfold Bb;rw[H9 hT,Ll hO];cases Ax i.op<;>cases B8 c i (Ad i.op)<;>cases Hb c s i<;>cases Hy s i.op<;>simp
structure Ob where
 op:Int
 par:Int
 set:List Nat
def P7(S:List Nat)(b:Bk):Ob:=⟨if b.loop then 36 else 34,b.par,S.take b.ahead⟩
def FT(s:Wk):List Ob:=(s.opens.map (P7 s.set)).reverse
theorem F6(s:Wk):(FT s).length=s.opens.length:=by simp[FT]
theorem Eh(S:List Nat)(b:Bk)(r:List Bk):FT ⟨S,b::r⟩=(r.map (P7 S)).reverse++[P7 S b]:=by simp[FT]
theorem LV{s:Wk}(h:0<s.opens.length):∃X,(FT s)[s.opens.length-1]? =some ⟨if AI s then 36 else 34,BH s,X⟩:=by
 obtain⟨S,O⟩:=s;cases O with
 |nil=>simp at h
 |cons b r=>
  refine⟨S.take b.ahead,?_⟩;rw[Eh];simp only[List.length_cons,Nat.add_sub_cancel];rw[List.getElem?_append_right sM];simp only[List.length_reverse,List.length_map,Nat.sub_self];rfl
theorem GJ{s:Wk}{i:AB}(h:i.op=34\/i.op=36):AE s i=⟨s.set,⟨i.op==36,i.n,s.set.length⟩::s.opens⟩:=by
 unfold AE Fz;rw[FV (by rcases h with h|h<;>rw[h]<;>rfl)];unfold Eu;rw[if_pos h]
theorem GK{s:Wk}{i:AB}(h:i.op=35\/i.op=37):AE s i=B5 s:=by
 unfold AE Fz;rw[FV (by rcases h with h|h<;>rw[h]<;>rfl)];unfold Eu;rw[if_neg oM,if_pos h]
theorem DN{s:Wk}{i:AB}(h1:i.op≠34)(h2:i.op≠35)(h3:i.op≠36)(h4:i.op≠37):AE s i=⟨EY s.set i,s.opens⟩:=by
 unfold AE Fz Eu;rw[if_neg oM,if_neg oM];unfold GN EY;split<;>rfl
theorem LX{s:Wk}{i:AB}(h:i.op=34\/i.op=36):FT (AE s i)=FT s++[⟨i.op,i.n,s.set⟩]:=by
 rw[GJ h,Eh];unfold FT P7;simp only[List.take_length];rcases h with h|h<;>rw[h]<;>rfl
theorem LY{s:Wk}{i:AB}{n:Nat}(ho:Cy n s)(h1:i.op≠34)(h2:i.op≠35)(h3:i.op≠36)(h4:i.op≠37):FT (AE s i)=FT s:=by
 rw[DN h1 h2 h3 h4];unfold FT;simp only;congr 1;apply List.map_congr_left;intro b hb;have:=Iz ho.opens b hb;have e:(EY s.set i).take b.ahead=s.set.take b.ahead:=by
  unfold EY;split
  .rw[List.take_append_of_le_length this]
  .rfl
 unfold P7;rw[e]
theorem DG{s:Wk}{n:Nat}(ho:Cy n s)(h:0<s.opens.length):FT (B5 s)=(FT s).take (s.opens.length-1):=by
 obtain⟨S,O⟩:=s;cases O with
 |nil=>simp at h
 |cons b r=>
  rw[Eh];simp only[List.length_cons,Nat.add_sub_cancel];rw[List.take_append_of_le_length sM,List.take_of_length_le sM];unfold FT B5;simp only;cases hb:b.loop
  .simp only[Bool.false_eq_true,if_false];congr 1;apply List.map_congr_left;intro a ha;have:=Iz ho.opens.2 a ha;unfold P7;rw[List.take_take,Nat.min_eq_left this]
  .simp only[if_true]
theorem Kp{s:Wk}(hl:AI s=false){o:Ob}(h:(FT s)[s.opens.length-1]? =some o)(h0:0<s.opens.length):(B5 s).set=o.set:=by
 obtain⟨S,O⟩:=s;cases O with
 |nil=>simp at h0
 |cons b r=>
  rw[Eh]at h;simp only[List.length_cons,Nat.add_sub_cancel]at h;rw[List.getElem?_append_right sM]at h;simp at h;subst h;have:b.loop=false:=hl;simp[B5,this,P7]
theorem It{s:Wk}(hl:AI s=true):(B5 s).set=s.set:=by
 obtain⟨S,O⟩:=s;cases O with
 |nil=>rfl
 |cons b r=>
  have:b.loop=true:=hl;simp[B5,this]
theorem Cv(s:Wk):(B5 s).opens.length=s.opens.length-1:=by
 obtain⟨S,O⟩:=s;cases O with
 |nil=>rfl
 |cons b r=>simp[B5]
theorem Cj.step{c:Cd}{s:Wk}{i:AB}(h:Cj s)(t:Bb c s i=true):Cj (AE s i):=by
 by_cases h1:i.op=34\/i.op=36
 .rw[GJ h1];intro b hb hl;rcases List.mem_cons.1 hb with rfl|hb
  .have h36:i.op=36:=by simpa using hl
   obtain⟨_,h2,_,_⟩:=Df t;rw[h36]at h2;unfold B8 BC at h2;simp only[Bool.and_eq_true]at h2;have h3:=h2.2.2.2.2;rw[if_neg (show(Ad 36).n≠7 by decide)]at h3;simp only[Bool.and_eq_true]at h3;have h4:Ao i.n c.sign.length=true:=h3.2;exact(Ds.1 h4).1
  .exact h b hb hl
 .by_cases h2:i.op=35\/i.op=37
  .rw[GK h2];intro b hb hl;refine h b ?_ hl;unfold B5 at hb;split at hb
   .rename_i e;rw[e];exact List.mem_cons_of_mem _ hb
   .exact hb
  .rw[DN oM oM oM oM];exact h
theorem Cj.start:Cj ⟨[],[]⟩:=fun b hb=>by cases hb
end Go.Proofs.YtnlgkkbmbijndaaGreat
