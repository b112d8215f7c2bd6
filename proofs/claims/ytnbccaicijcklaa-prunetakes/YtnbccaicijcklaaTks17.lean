import Derived.Test.YtnbccaicijcklaaTks15
import Derived.Test.YtnbccaicijcklaaTks14
import Derived.Test.YtnbccaicijcklaaTks13
import Derived.Test.YtnbccaicijcklaaTks5
import Derived.Deep.AppendLies
import Derived.Test.YtnbccaicijcklaaTks1
namespace Go.Proofs.Ytnbccaicijcklaa
open Go.RowKit Go.Proofs.Try
set_option linter.all false
set_option maxRecDepth 100000
set_option maxHeartbeats 16000000
theorem GH(v0 v1 v2 v3:Value)(c:Cd)(hk:Ba c)(n p:Int)(hp:n=1->Ar p c.sign.length=true)(w:World)(hv:BP w v0 v1 v2 v3 c):
 Calls prog 69 #[.agg #[v0,v1,v2,v3],.int .i64 n,.int .i64 p] w fun e w'=>e=.returned (.bool (n==0||(n==1&&CN c.sign p==2)))/\Below w.heap.size w w':=by
 have HB:=hk.signL;by_cases h0:n=0
 ·subst h0;clear hp hv;go_enter func69,ntmps69;go_wp2;go_ret;exact⟨rfl,A0 _ _⟩
 ·have h0':(n==0)=false:=by simpa using h0
  by_cases h1:n=1
  ·subst h1;obtain⟨k,rfl,hkl⟩:=Cw (hp rfl);have hr:=hv.sign;obtain⟨p,q,rfl,hrr⟩:=hv.sign;obtain⟨lb,lo,rfl,hc⟩:=hr.at hkl;have e:CN c.sign (k:Int)=c.sign[k].kind:=by unfold CN;rw[Int.toNat_natCast,List.getElem?_eq_getElem hkl];rfl
   rw[e];obtain⟨⟨nm,K,L⟩,ht⟩:∃t:Bt,c.sign[k]=t:=⟨_,rfl⟩
   rw[ht]at hc ⊢;have y1:w.cell? ⟨lb,lo+k*3+1,none⟩=some (.int .i64 K):=hc.at 1 rfl;have g1:∀o,(w.alloc o).cell? ⟨lb,lo+k*3+1,none⟩=some (.int .i64 K):=fun o=>kc (A0 _ _) y1;obtain⟨N,hN⟩:∃N,c.sign.length=N:=⟨_,rfl⟩
   rw[hN]at hkl HB ⊢;clear hr hrr hc ht e hp hv hN h0 hk;simp only;go_enter func69,ntmps69;go_wp2;go_ret;exact⟨A8 sM,A0 _ _⟩
  ·have h1':(n==1)=false:=by simpa using h1
   rw[h0',h1'];clear hp hv h0 h1;go_enter func69,ntmps69;go_wp2;go_ret;exact⟨rfl,A0 _ _⟩
def Dx(i:Aa):Int:=if DE i.op||(i.op==29||(i.op==30||i.op==32))then i.d else if i.op==31||i.op==33 then i.a else -1
def Eg(rs:List Ty)(n:Int):Int:=if Ar n rs.length&&(Au rs n).kind==3 then(Au rs n).par else -1
theorem Is(v0 v1 v2 v3:Value)(c:Cd)(hk:Ba c)(i:Aa)(w:World)(hv:BP w v0 v1 v2 v3 c):
 Calls prog 51 #[.agg #[v0,v1,v2,v3],B9 i] w fun e w'=>e=.returned (.int .i64 (Eg c.regs (Dx i)))/\Below w.heap.size w w':=by
 have HB:=hk.regsL;have KE:Hid (∀v,Calls prog 70 #[.int .i64 i.op] v fun e w'=>e=.returned (.bool (DE i.op))/\w'=v):=Lx i.op;have hr:=hv.regs;obtain⟨p,q,rfl,hrr⟩:=hv.regs;clear hv hk hrr;obtain⟨op,D,A,B,E,nn,bb⟩:=i;unfold B9;simp only at KE ⊢;have Cc:∀n:Int,(Ar n c.regs.length=false/\Eg c.regs n= -1)\/∃ (k:Nat) (lb lo:Nat) (K P:Int),n=(k:Int)/\k<c.regs.length/\p=some ⟨lb,lo,none⟩/\w.cell? ⟨lb,lo+k*2,none⟩=some (.int .i64 K)/\w.cell? ⟨lb,lo+k*2+1,none⟩=some (.int .i64 P)/\Eg c.regs n=if K==3 then P else -1:=by
  intro n;cases h:Ar n c.regs.length
  ·exact .inl ⟨rfl,by unfold Eg;rw[h];rfl⟩
  ·obtain⟨k,rfl,hkl⟩:=Cw h;obtain⟨lb,lo,hp,hc⟩:=hr.at hkl;refine .inr ⟨k,lb,lo,c.regs[k].kind,c.regs[k].par,rfl,hkl,hp,hc.at 0 rfl,hc.at 1 rfl,?_⟩;unfold Eg;rw[h,Dj rfl hkl,Bool.true_and]
 obtain⟨N,hN⟩:∃N,c.regs.length=N:=⟨_,rfl⟩
 rw[hN]at HB Cc ⊢;clear hr;cases hX:DE op
 ·rw[hX]at KE;by_cases a29:op=29
  ·subst a29;rw[show Dx ⟨29,D,A,B,E,nn,bb⟩=D from rfl];rcases Cc D with⟨hpl,e9⟩|⟨k,lb,lo,K,P,rfl,hkl,rfl,y0,y1,e9⟩
   ·rw[e9];clear Cc e9;by_cases h0:D<0
    ·exact Ft
    ·have h1:(N:Int)<=D:=by unfold Ar at hpl;simp at hpl;omega
     exact Ft
   ·rw[e9];clear Cc e9;have g0:∀o o',((w.alloc o).alloc o').cell? ⟨lb,lo+k*2,none⟩=some (.int .i64 K):=fun o o'=>kc (bel (A0 _ _) (A0 _ _)) y0;have g1:∀o o',((w.alloc o).alloc o').cell? ⟨lb,lo+k*2+1,none⟩=some (.int .i64 P):=fun o o'=>kc (bel (A0 _ _) (A0 _ _)) y1;by_cases h3:K=3
    ·subst h3;exact Ft
    ·have h3':(K==3)=false:=by simpa using h3
     have h3b:(K != 3)=true:=by simpa using h3
     rw[h3'];clear h3;exact Ft
  by_cases a30:op=30
  ·subst a30;rw[show Dx ⟨30,D,A,B,E,nn,bb⟩=D from rfl];rcases Cc D with⟨hpl,e9⟩|⟨k,lb,lo,K,P,rfl,hkl,rfl,y0,y1,e9⟩
   ·rw[e9];clear Cc e9;by_cases h0:D<0
    ·exact Ft
    ·have h1:(N:Int)<=D:=by unfold Ar at hpl;simp at hpl;omega
     exact Ft
   ·rw[e9];clear Cc e9;have g0:∀o o',((w.alloc o).alloc o').cell? ⟨lb,lo+k*2,none⟩=some (.int .i64 K):=fun o o'=>kc (bel (A0 _ _) (A0 _ _)) y0;have g1:∀o o',((w.alloc o).alloc o').cell? ⟨lb,lo+k*2+1,none⟩=some (.int .i64 P):=fun o o'=>kc (bel (A0 _ _) (A0 _ _)) y1;by_cases h3:K=3
    ·subst h3;exact Ft
    ·have h3':(K==3)=false:=by simpa using h3
     have h3b:(K != 3)=true:=by simpa using h3
     rw[h3'];clear h3;exact Ft
  by_cases a32:op=32
  ·subst a32;rw[show Dx ⟨32,D,A,B,E,nn,bb⟩=D from rfl];rcases Cc D with⟨hpl,e9⟩|⟨k,lb,lo,K,P,rfl,hkl,rfl,y0,y1,e9⟩
   ·rw[e9];clear Cc e9;by_cases h0:D<0
    ·exact Ft
    ·have h1:(N:Int)<=D:=by unfold Ar at hpl;simp at hpl;omega
     exact Ft
   ·rw[e9];clear Cc e9;have g0:∀o o',((w.alloc o).alloc o').cell? ⟨lb,lo+k*2,none⟩=some (.int .i64 K):=fun o o'=>kc (bel (A0 _ _) (A0 _ _)) y0;have g1:∀o o',((w.alloc o).alloc o').cell? ⟨lb,lo+k*2+1,none⟩=some (.int .i64 P):=fun o o'=>kc (bel (A0 _ _) (A0 _ _)) y1;by_cases h3:K=3
    ·subst h3;exact Ft
    ·have h3':(K==3)=false:=by simpa using h3
     have h3b:(K != 3)=true:=by simpa using h3
     rw[h3'];clear h3;exact Ft
  by_cases a31:op=31
  ·subst a31;rw[show Dx ⟨31,D,A,B,E,nn,bb⟩=A from rfl];rcases Cc A with⟨hpl,e9⟩|⟨k,lb,lo,K,P,rfl,hkl,rfl,y0,y1,e9⟩
   ·rw[e9];clear Cc e9;by_cases h0:A<0
    ·exact Ft
    ·have h1:(N:Int)<=A:=by unfold Ar at hpl;simp at hpl;omega
     exact Ft
   ·rw[e9];clear Cc e9;have g0:∀o o',((w.alloc o).alloc o').cell? ⟨lb,lo+k*2,none⟩=some (.int .i64 K):=fun o o'=>kc (bel (A0 _ _) (A0 _ _)) y0;have g1:∀o o',((w.alloc o).alloc o').cell? ⟨lb,lo+k*2+1,none⟩=some (.int .i64 P):=fun o o'=>kc (bel (A0 _ _) (A0 _ _)) y1;by_cases h3:K=3
    ·subst h3;exact Ft
    ·have h3':(K==3)=false:=by simpa using h3
     have h3b:(K != 3)=true:=by simpa using h3
     rw[h3'];clear h3;exact Ft
  by_cases a33:op=33
  ·subst a33;rw[show Dx ⟨33,D,A,B,E,nn,bb⟩=A from rfl];rcases Cc A with⟨hpl,e9⟩|⟨k,lb,lo,K,P,rfl,hkl,rfl,y0,y1,e9⟩
   ·rw[e9];clear Cc e9;by_cases h0:A<0
    ·exact Ft
    ·have h1:(N:Int)<=A:=by unfold Ar at hpl;simp at hpl;omega
     exact Ft
   ·rw[e9];clear Cc e9;have g0:∀o o',((w.alloc o).alloc o').cell? ⟨lb,lo+k*2,none⟩=some (.int .i64 K):=fun o o'=>kc (bel (A0 _ _) (A0 _ _)) y0;have g1:∀o o',((w.alloc o).alloc o').cell? ⟨lb,lo+k*2+1,none⟩=some (.int .i64 P):=fun o o'=>kc (bel (A0 _ _) (A0 _ _)) y1;by_cases h3:K=3
    ·subst h3;exact Ft
    ·have h3':(K==3)=false:=by simpa using h3
     have h3b:(K != 3)=true:=by simpa using h3
     rw[h3'];clear h3;exact Ft
  ·have b29:(op==29)=false:=by simpa using a29
   have b30:(op==30)=false:=by simpa using a30
   have b31:(op==31)=false:=by simpa using a31
   have b32:(op==32)=false:=by simpa using a32
   have b33:(op==33)=false:=by simpa using a33
   rw[show Dx ⟨op,D,A,B,E,nn,bb⟩= -1 by unfold Dx;simp[hX,b29,b30,b31,b32,b33]];rw[show Eg c.regs (-1)= -1 by unfold Eg Ar;simp];clear Cc a29 a30 a31 a32 a33;exact Ft
 ·rw[hX]at KE;rw[show Dx ⟨op,D,A,B,E,nn,bb⟩=D by unfold Dx;simp[hX]];rcases Cc D with⟨hpl,e9⟩|⟨k,lb,lo,K,P,rfl,hkl,rfl,y0,y1,e9⟩
  ·rw[e9];clear Cc e9;by_cases h0:D<0
   ·exact Ft
   ·have h1:(N:Int)<=D:=by unfold Ar at hpl;simp at hpl;omega
    exact Ft
  ·rw[e9];clear Cc e9;have g0:∀o o',((w.alloc o).alloc o').cell? ⟨lb,lo+k*2,none⟩=some (.int .i64 K):=fun o o'=>kc (bel (A0 _ _) (A0 _ _)) y0;have g1:∀o o',((w.alloc o).alloc o').cell? ⟨lb,lo+k*2+1,none⟩=some (.int .i64 P):=fun o o'=>kc (bel (A0 _ _) (A0 _ _)) y1;by_cases h3:K=3
   ·subst h3;exact Ft
   ·have h3':(K==3)=false:=by simpa using h3
    have h3b:(K != 3)=true:=by simpa using h3
    rw[h3'];clear h3;exact Ft
theorem Cy(a:Int)(h0:0<=a)(h1:a<4294967296)(w:World):Calls prog 49 #[.int .u32 a] w fun e w'=>e=.returned (.bool (BL a))/\Below w.heap.size w w':=by
 have hc:BL a=(Cs a==a):=by unfold BL Cs;cases Jd a<;>rw[Bool.eq_iff_iff]<;>simp
 rw[hc];have HK:Hid (∀w,Calls prog 67 #[.int .i64 a] w fun e w'=>e=.returned (.int .i64 (Cs a))/\Below w.heap.size w w'):=Il a h0 h1;have hw:IntKind.i64.wrap a=a:=by rw[IntKind.wrap_i64];omega
 clear hc;obtain⟨x,hx⟩:∃x,Cs a=x:=⟨_,rfl⟩
 rw[hx]at HK ⊢;clear hx;go_enter func49,ntmps49;go_wp2_with(go_at_call 67;refine(HK.out _).mono ?_;rintro e w1 ⟨rfl,hb1⟩;have HB1:Hid _:=hb1;clear hb1);go_ret;exact⟨rfl,HB1.out⟩
theorem Hg(s:Sl)(h0:0<=s.bits)(h1:s.bits<4294967296)(p:Option Addr)(n c:Nat)(hn:n<=140737488351232)(w:World):
 Calls prog 33 #[LQ s,.slice p n c] w fun e w'=>e=.returned (.bool (Bi s n))/\Below w.heap.size w w':=by
 have HK:Hid (∀w,Calls prog 49 #[.int .u32 s.bits] w fun e w'=>e=.returned (.bool (BL s.bits))/\Below w.heap.size w w'):=Cy s.bits h0 h1;have HT:Hid (∀w,Calls prog 32 #[CP s.ty,.slice p n c] w fun e w'=>e=.returned (.bool (AE s.ty n))/\Below w.heap.size w w'):=EI s.ty p n c hn;obtain⟨⟨K,P⟩,Q,B,I⟩:=s;unfold Bi ET LQ CB;unfold CP at HT;simp only at HK HT h0 h1 ⊢;obtain⟨X,hX⟩:∃X,BL B=X:=⟨_,rfl⟩
 obtain⟨Y,hY⟩:∃Y,AE ⟨K,P⟩ n=Y:=⟨_,rfl⟩
 rw[hX]at HK ⊢;rw[hY]at HT ⊢;clear hX hY;cases Y
 ·rw[Bool.false_and];exact RV
 ·rw[Bool.true_and];by_cases h2:K=2
  ·subst h2;rw[if_pos rfl];cases hb:(B==0)
   ·have hb':(B != 0)=true:=by simpa using hb
    exact RX
   ·by_cases hi:0<=I
    all_goals
     exact RX
  ·rw[if_neg h2];have h2':(K==2)=false:=by simpa using h2
   clear h2;cases hi:(I==0)
   all_goals
    exact RV
structure Lt where
 a:Int
 b:Int
 c:Int
 d:Int
 e:Int
def Cj(op:Int):Lt:=
 if op=1 then⟨110,45,45,45,45⟩
 else if op=2 then⟨119,45,45,45,105⟩
 else if op=3 then⟨97,99,45,45,45⟩
 else if 4<=op/\op<=10 then⟨100,120,120,45,45⟩
 else if 11<=op/\op<=14 then⟨100,120,45,45,45⟩
 else if op=15 then⟨100,120,120,120,45⟩
 else if op=16 then⟨110,110,119,45,45⟩
 else if op=17 then⟨110,119,45,45,45⟩
 else if op=18 then⟨119,110,45,45,45⟩
 else if 19<=op/\op<=20 then⟨110,118,45,45,45⟩
 else if op=21\/op=25 then⟨119,119,45,45,45⟩
 else if op=26 then⟨119,119,119,119,45⟩
 else if 22<=op/\op<=28 then⟨119,119,119,45,45⟩
 else if 29<=op/\op<=30 then⟨118,45,45,45,112⟩
 else if op=31 then⟨45,118,45,45,112⟩
 else if op=32 then⟨97,45,45,45,115⟩
 else if op=33 then⟨45,97,45,45,115⟩
 else if op=34 then⟨45,119,45,45,45⟩
 else if op=36 then⟨45,45,45,45,113⟩
 else⟨45,45,45,45,45⟩
def dR(rs:List Ty)(l D:Int):Ty:=if l=45 then⟨0,0⟩else Au rs D
def tR(rs:List Ty)(l0 l1 D A:Int):Ty:=if l0=45/\l1≠45 then Au rs A else dR rs l0 D
def BZ(c:Cd)(l n:Int)(t:Ty):Bool:=
 if l=105 then CB n
 else if l=112 then n==0||(n==1&&CN c.sign t.par==2)
 else if l=115 then Ar n c.slots.length&&decide (CJ c.slots n=t)
 else if l=113 then Ar n c.sign.length
 else n==0
def CG(c:Cd)(i:Aa)(L:Lt):Bool:=
 (i.op==1||i.bits==0)&&(BL i.bits&&(Aj c.regs L.a i.d ⟨0,0⟩&&(Aj c.regs L.b i.a (dR c.regs L.a i.d)&&(Aj c.regs L.c i.b (dR c.regs L.a i.d)&&(Aj c.regs L.d i.c (dR c.regs L.a i.d)&&BZ c L.e i.n (tR c.regs L.a L.b i.d i.a))))))
theorem JN{c:Cd}(h:Ap c=true){n:Int}(hp:Ar n c.regs.length=true):AE (Au c.regs n) c.sign.length=true:=by
 obtain⟨k,rfl,hk⟩:=Cw hp;rw[Dj rfl hk];unfold Ap at h;exact List.all_eq_true.1 h _ (List.getElem_mem hk)
theorem JO{c:Cd}(h:Ap c=true){n:Int}(hp:Ar n c.regs.length=true)(hk:(Au c.regs n).kind=1):(Au c.regs n).par=0:=by
 have:=JN h hp;unfold AE at this;rw[if_pos (.inl hk)]at this;simpa using this
theorem RD{c:Cd}(h:Ap c=true){n m:Int}(hn:Ar n c.regs.length=true)(hm:Ar m c.regs.length=true)(hk:((Au c.regs m).kind==1||(Au c.regs m).kind==3)=true):
 ((Au c.regs n).kind==1||decide (Au c.regs n=Au c.regs m))=(decide (Au c.regs n=Au c.regs m)||((Au c.regs n).kind==1&&(Au c.regs m).kind==3)):=by
 have h1:=JO h hn;have h2:=JO h hm;generalize Au c.regs n=t at *;generalize Au c.regs m=d at *;obtain⟨K,P⟩:=t;obtain⟨A,B⟩:=d;simp only at h1 h2 hk ⊢;rw[Bool.eq_iff_iff];simp only[Bool.or_eq_true,beq_iff_eq,decide_eq_true_eq,Bool.and_eq_true,Ty.mk.injEq]at hk ⊢;constructor
 ·rintro(e|e)
  ·rcases hk with k|k
   ·exact .inl ⟨oM,by rw[h1 e,h2 k]⟩
   ·exact .inr ⟨e,k⟩
  ·exact .inl e
 ·rintro(e|e)
  ·exact .inr e
  ·exact .inl e.1
theorem Qn:BL 0=true:=dE
theorem CY(rs:List Ty)(n:Int)(d:Ty):Aj rs 45 n d=(n==0):=if_pos rfl
theorem Db(rs:List Ty)(n:Int)(d:Ty):Af rs 0 n d=(n==0):=if_pos rfl
theorem Bo{l:Int}(h:l≠0)(rs:List Ty)(n:Int)(d:Ty):Af rs l n d=(Ar n rs.length&&DH l (Au rs n) d):=if_neg h
theorem Bm{l:Int}(h:l≠45)(rs:List Ty)(n:Int)(d:Ty):Aj rs l n d=(Ar n rs.length&&Ef l (Au rs n) d):=if_neg h
theorem F2(rs:List Ty)(n:Int)(d m:Ty):Aj rs 110 n d=Af rs 1 n m:=by rw[Bm dE,Bo dE];rfl
theorem BU(rs:List Ty)(n:Int)(d m:Ty):Aj rs 119 n d=Af rs 2 n m:=by rw[Bm dE,Bo dE];rfl
theorem Ji(rs:List Ty)(n:Int)(d m:Ty):Aj rs 118 n d=Af rs 3 n m:=by rw[Bm dE,Bo dE];rfl
theorem Jh(rs:List Ty)(n:Int)(d m:Ty):Aj rs 100 n d=Af rs 4 n m:=by rw[Bm dE,Bo dE];rfl
theorem Aq(rs:List Ty)(n:Int)(d m:Ty):Aj rs 45 n d=Af rs 0 n m:=by rw[CY,Db]
theorem Jg(rs:List Ty)(n:Int)(d:Ty):Aj rs 97 n d=Af rs 6 n (Au rs n):=by rw[Bm dE,Bo dE];simp[Ef,DH]
theorem PH(rs:List Ty)(n:Int)(d:Ty):Aj rs 99 n d=Af rs 5 n d:=by rw[Bm dE,Bo dE];simp[Ef,DH]
theorem PI{c:Cd}(h:Ap c=true)(n:Int){m:Int}(hd:Af c.regs 4 m (Au c.regs m)=true):Aj c.regs 120 n (Au c.regs m)=Af c.regs 5 n (Au c.regs m):=by
 rw[Bm dE,Bo dE];rw[Bo dE]at hd;simp only[Bool.and_eq_true]at hd;cases hn:Ar n c.regs.length
 ·rfl
 ·rw[Bool.true_and,Bool.true_and];exact RD h hn hd.1 hd.2
theorem AT{c:Cd}{i:Aa}{L:Lt}{R:Rw}(h1:i.op≠1)(h7:R.n≠7)(ha:Aj c.regs L.a i.d ⟨0,0⟩=Af c.regs R.d i.d (Az c.regs i R))
 (hb:Af c.regs R.d i.d (Az c.regs i R)=true->Aj c.regs L.b i.a (dR c.regs L.a i.d)=Af c.regs R.a i.a (Az c.regs i R))
 (hc:Af c.regs R.d i.d (Az c.regs i R)=true->Aj c.regs L.c i.b (dR c.regs L.a i.d)=Af c.regs R.b i.b (Az c.regs i R))
 (hd:Af c.regs R.d i.d (Az c.regs i R)=true->Aj c.regs L.d i.c (dR c.regs L.a i.d)=Af c.regs R.c i.c (Az c.regs i R))
 (he:BZ c L.e i.n (tR c.regs L.a L.b i.d i.a)=Fl c i.n R.n (Az c.regs i R)):CG c i L=AW c i R:=by
 unfold CG AW BD;rw[if_neg h7,ha,he];have:(i.op==1)=false:=by simpa using h1
 rw[this,Bool.false_or];cases hX:Af c.regs R.d i.d (Az c.regs i R)
 ·simp
 ·rw[hb hX,hc hX,hd hX];cases hb:(i.bits==0)
  ·simp
  ·have:i.bits=0:=by simpa using hb
   rw[this,Qn];simp
theorem I1{c:Cd}(h:Ap c=true)(i:Aa):CG c i (Cj i.op)=AW c i (A4 i.op):=by
 have x:=fun n=>@PI c h n i.d;by_cases h1:i.op=1
 ·have e1:Cj i.op=⟨110,45,45,45,45⟩:=by rw[h1];rfl
  have e2:A4 i.op=⟨1,0,0,0,7⟩:=by rw[h1];rfl
  rw[e1,e2];unfold CG AW BD;simp only;rw[h1,F2 _ _ _ (Az c.regs i ⟨1,0,0,0,7⟩),CY,CY,CY,Db,Db,Db];rw[show BZ c 45 i.n (tR c.regs 110 45 i.d i.a)=(i.n==0)from rfl];generalize Af c.regs 1 i.d _=A1;cases A1<;>cases BL i.bits<;>simp
 unfold Cj A4;rw[if_neg h1,if_neg h1];by_cases h2:i.op=2
 ·rw[if_pos h2,if_pos h2];exact AT h1 dE (BU _ _ _ _) (fun _=>Aq _ _ _ _) (fun _=>Aq _ _ _ _) (fun _=>Aq _ _ _ _) rfl
 rw[if_neg h2,if_neg h2];by_cases h3:i.op=3
 ·rw[if_pos h3,if_pos h3];exact AT h1 dE (Jg _ _ _) (fun _=>PH _ _ _) (fun _=>Aq _ _ _ _) (fun _=>Aq _ _ _ _) rfl
 rw[if_neg h3,if_neg h3];by_cases h4:4<=i.op/\i.op<=10
 ·rw[if_pos h4,if_pos h4];exact AT h1 dE (Jh _ _ _ _) (x _) (x _) (fun _=>Aq _ _ _ _) rfl
 rw[if_neg h4,if_neg h4];by_cases h5:11<=i.op/\i.op<=14
 ·rw[if_pos h5,if_pos h5];exact AT h1 dE (Jh _ _ _ _) (x _) (fun _=>Aq _ _ _ _) (fun _=>Aq _ _ _ _) rfl
 rw[if_neg h5,if_neg h5];by_cases h6:i.op=15
 ·rw[if_pos h6,if_pos h6];exact AT h1 dE (Jh _ _ _ _) (x _) (x _) (x _) rfl
 rw[if_neg h6,if_neg h6];by_cases h7:i.op=16
 ·rw[if_pos h7,if_pos h7];exact AT h1 dE (F2 _ _ _ _) (fun _=>F2 _ _ _ _) (fun _=>BU _ _ _ _) (fun _=>Aq _ _ _ _) rfl
 rw[if_neg h7,if_neg h7];by_cases h8:i.op=17
 ·rw[if_pos h8,if_pos h8];exact AT h1 dE (F2 _ _ _ _) (fun _=>BU _ _ _ _) (fun _=>Aq _ _ _ _) (fun _=>Aq _ _ _ _) rfl
 rw[if_neg h8,if_neg h8];by_cases h9:i.op=18
 ·rw[if_pos h9,if_pos h9];exact AT h1 dE (BU _ _ _ _) (fun _=>F2 _ _ _ _) (fun _=>Aq _ _ _ _) (fun _=>Aq _ _ _ _) rfl
 rw[if_neg h9,if_neg h9];by_cases h10:19<=i.op/\i.op<=20
 ·rw[if_pos h10,if_pos h10];exact AT h1 dE (F2 _ _ _ _) (fun _=>Ji _ _ _ _) (fun _=>Aq _ _ _ _) (fun _=>Aq _ _ _ _) rfl
 rw[if_neg h10,if_neg h10];by_cases h11:i.op=21\/i.op=25
 ·rw[if_pos h11,if_pos h11];exact AT h1 dE (BU _ _ _ _) (fun _=>BU _ _ _ _) (fun _=>Aq _ _ _ _) (fun _=>Aq _ _ _ _) rfl
 rw[if_neg h11,if_neg h11];by_cases h12:i.op=26
 ·rw[if_pos h12,if_pos h12];exact AT h1 dE (BU _ _ _ _) (fun _=>BU _ _ _ _) (fun _=>BU _ _ _ _) (fun _=>BU _ _ _ _) rfl
 rw[if_neg h12,if_neg h12];by_cases h13:22<=i.op/\i.op<=28
 ·rw[if_pos h13,if_pos h13];exact AT h1 dE (BU _ _ _ _) (fun _=>BU _ _ _ _) (fun _=>BU _ _ _ _) (fun _=>Aq _ _ _ _) rfl
 rw[if_neg h13,if_neg h13];by_cases h14:29<=i.op/\i.op<=30
 ·rw[if_pos h14,if_pos h14];exact AT h1 dE (Ji _ _ _ _) (fun _=>Aq _ _ _ _) (fun _=>Aq _ _ _ _) (fun _=>Aq _ _ _ _) rfl
 rw[if_neg h14,if_neg h14];by_cases h15:i.op=31
 ·rw[if_pos h15,if_pos h15];exact AT h1 dE (Aq _ _ _ _) (fun _=>Ji _ _ _ _) (fun _=>Aq _ _ _ _) (fun _=>Aq _ _ _ _) rfl
 rw[if_neg h15,if_neg h15];by_cases h16:i.op=32
 ·rw[if_pos h16,if_pos h16];exact AT h1 dE (Jg _ _ _) (fun _=>Aq _ _ _ _) (fun _=>Aq _ _ _ _) (fun _=>Aq _ _ _ _) rfl
 rw[if_neg h16,if_neg h16];by_cases h17:i.op=33
 ·rw[if_pos h17,if_pos h17];exact AT h1 dE (Aq _ _ _ _) (fun _=>Jg _ _ _) (fun _=>Aq _ _ _ _) (fun _=>Aq _ _ _ _) rfl
 rw[if_neg h17,if_neg h17];by_cases h18:i.op=34
 ·rw[if_pos h18,if_pos h18];exact AT h1 dE (Aq _ _ _ _) (fun _=>BU _ _ _ _) (fun _=>Aq _ _ _ _) (fun _=>Aq _ _ _ _) rfl
 rw[if_neg h18,if_neg h18];by_cases h19:i.op=36
 ·rw[if_pos h19,if_pos h19];exact SR
 rw[if_neg h19,if_neg h19];exact SR
theorem Ky(op:Int)(hk:An op=true):∃a b c d e:UInt8,((a.toNat:Int)=(Cj op).a/\(b.toNat:Int)=(Cj op).b/\(c.toNat:Int)=(Cj op).c/\(d.toNat:Int)=(Cj op).d/\(e.toNat:Int)=(Cj op).e)/\∀w,Calls prog 37 #[.int .i64 op] w fun x w'=>x=.returned (.tuple #[.string ⟨#[a,b,c,d,e]⟩,.bool true])/\w'=w:=by
 have hh:1<=op/\op<=37:=by unfold An at hk;simp at hk;omega
 clear hk;have:op=1\/op=2\/op=3\/op=4\/op=5\/op=6\/op=7\/op=8\/op=9\/op=10\/op=11\/op=12\/op=13\/op=14\/op=15\/op=16\/op=17\/op=18\/op=19\/op=20\/op=21\/op=22\/op=23\/op=24\/op=25\/op=26\/op=27\/op=28\/op=29\/op=30\/op=31\/op=32\/op=33\/op=34\/op=35\/op=36\/op=37:=oM;rcases this with rfl|rfl|rfl|rfl|rfl|rfl|rfl|rfl|rfl|rfl|rfl|rfl|rfl|rfl|rfl|rfl|rfl|rfl|rfl|rfl|rfl|rfl|rfl|rfl|rfl|rfl|rfl|rfl|rfl|rfl|rfl|rfl|rfl|rfl|rfl|rfl|rfl
 ·exact⟨_,_,_,_,_,⟨rfl,rfl,rfl,rfl,rfl⟩,fun w=>Ns w⟩
 ·exact⟨_,_,_,_,_,⟨rfl,rfl,rfl,rfl,rfl⟩,fun w=>Nt w⟩
 ·exact⟨_,_,_,_,_,⟨rfl,rfl,rfl,rfl,rfl⟩,fun w=>Nu w⟩
 ·exact⟨_,_,_,_,_,⟨rfl,rfl,rfl,rfl,rfl⟩,fun w=>Nv w⟩
 ·exact⟨_,_,_,_,_,⟨rfl,rfl,rfl,rfl,rfl⟩,fun w=>Nw w⟩
 ·exact⟨_,_,_,_,_,⟨rfl,rfl,rfl,rfl,rfl⟩,fun w=>Nx w⟩
 ·exact⟨_,_,_,_,_,⟨rfl,rfl,rfl,rfl,rfl⟩,fun w=>Ny w⟩
 ·exact⟨_,_,_,_,_,⟨rfl,rfl,rfl,rfl,rfl⟩,fun w=>Nz w⟩
 ·exact⟨_,_,_,_,_,⟨rfl,rfl,rfl,rfl,rfl⟩,fun w=>NA w⟩
 ·exact⟨_,_,_,_,_,⟨rfl,rfl,rfl,rfl,rfl⟩,fun w=>JZ w⟩
 ·exact⟨_,_,_,_,_,⟨rfl,rfl,rfl,rfl,rfl⟩,fun w=>K6 w⟩
 ·exact⟨_,_,_,_,_,⟨rfl,rfl,rfl,rfl,rfl⟩,fun w=>K7 w⟩
 ·exact⟨_,_,_,_,_,⟨rfl,rfl,rfl,rfl,rfl⟩,fun w=>K8 w⟩
 ·exact⟨_,_,_,_,_,⟨rfl,rfl,rfl,rfl,rfl⟩,fun w=>K9 w⟩
 ·exact⟨_,_,_,_,_,⟨rfl,rfl,rfl,rfl,rfl⟩,fun w=>Ka w⟩
 ·exact⟨_,_,_,_,_,⟨rfl,rfl,rfl,rfl,rfl⟩,fun w=>Kb w⟩
 ·exact⟨_,_,_,_,_,⟨rfl,rfl,rfl,rfl,rfl⟩,fun w=>Kc w⟩
 ·exact⟨_,_,_,_,_,⟨rfl,rfl,rfl,rfl,rfl⟩,fun w=>Ke w⟩
 ·exact⟨_,_,_,_,_,⟨rfl,rfl,rfl,rfl,rfl⟩,fun w=>Kf w⟩
 ·exact⟨_,_,_,_,_,⟨rfl,rfl,rfl,rfl,rfl⟩,fun w=>Kg w⟩
 ·exact⟨_,_,_,_,_,⟨rfl,rfl,rfl,rfl,rfl⟩,fun w=>Kh w⟩
 ·exact⟨_,_,_,_,_,⟨rfl,rfl,rfl,rfl,rfl⟩,fun w=>Ki w⟩
 ·exact⟨_,_,_,_,_,⟨rfl,rfl,rfl,rfl,rfl⟩,fun w=>Kj w⟩
 ·exact⟨_,_,_,_,_,⟨rfl,rfl,rfl,rfl,rfl⟩,fun w=>Kk w⟩
 ·exact⟨_,_,_,_,_,⟨rfl,rfl,rfl,rfl,rfl⟩,fun w=>Kl w⟩
 ·exact⟨_,_,_,_,_,⟨rfl,rfl,rfl,rfl,rfl⟩,fun w=>Km w⟩
 ·exact⟨_,_,_,_,_,⟨rfl,rfl,rfl,rfl,rfl⟩,fun w=>Kn w⟩
 ·exact⟨_,_,_,_,_,⟨rfl,rfl,rfl,rfl,rfl⟩,fun w=>Ko w⟩
 ·exact⟨_,_,_,_,_,⟨rfl,rfl,rfl,rfl,rfl⟩,fun w=>Kp w⟩
 ·exact⟨_,_,_,_,_,⟨rfl,rfl,rfl,rfl,rfl⟩,fun w=>Kq w⟩
 ·exact⟨_,_,_,_,_,⟨rfl,rfl,rfl,rfl,rfl⟩,fun w=>Kr w⟩
 ·exact⟨_,_,_,_,_,⟨rfl,rfl,rfl,rfl,rfl⟩,fun w=>Ks w⟩
 ·exact⟨_,_,_,_,_,⟨rfl,rfl,rfl,rfl,rfl⟩,fun w=>Kt w⟩
 ·exact⟨_,_,_,_,_,⟨rfl,rfl,rfl,rfl,rfl⟩,fun w=>Ku w⟩
 ·exact⟨_,_,_,_,_,⟨rfl,rfl,rfl,rfl,rfl⟩,fun w=>Kv w⟩
 ·exact⟨_,_,_,_,_,⟨rfl,rfl,rfl,rfl,rfl⟩,fun w=>Kw w⟩
 ·exact⟨_,_,_,_,_,⟨rfl,rfl,rfl,rfl,rfl⟩,fun w=>Kx w⟩
def Bu(b:Int):Prop:=b=45\/b=110\/b=119\/b=118\/b=100\/b=120\/b=99\/b=97
instance (b:Int):Decidable (Bu b):=by unfold Bu;infer_instance
def Qk(L:Lt):Bool:=decide (Bu L.a)&&(decide (Bu L.b)&&(decide (Bu L.c)&&(decide (Bu L.d)&&(decide (L.e=45\/L.e=105\/L.e=112\/L.e=115\/L.e=113)&&decide (L.e=112->L.a=118\/(L.a=45/\L.b=118))))))
theorem OE{p:Prop}[Decidable p]{x y:Lt}(h:Qk x=true)(k:Qk y=true):Qk (if p then x else y)=true:=by
 split
 ·exact h
 ·exact k
theorem Ow(op:Int):Qk (Cj op)=true:=by
 unfold Cj
 iterate 19 refine OE dE ?_
 decide
theorem PD(op:Int):Bu (Cj op).a/\Bu (Cj op).b/\Bu (Cj op).c/\Bu (Cj op).d/\((Cj op).e=45\/(Cj op).e=105\/(Cj op).e=112\/(Cj op).e=115\/(Cj op).e=113)/\((Cj op).e=112->(Cj op).a=118\/((Cj op).a=45/\(Cj op).b=118)):=by
 have:=Ow op;unfold Qk at this;simp only[Bool.and_eq_true,decide_eq_true_eq]at this;exact this
theorem MN(v0 v1 v2 v3:Value)(i:Aa)(h0:0<=i.bits)(h1:i.bits<4294967296)(h:(An i.op&&((i.op==1||i.bits==0)&&BL i.bits))=false)(w:World):
 Calls prog 50 #[.agg #[v0,v1,v2,v3],B9 i] w fun e w'=>e=.returned (.bool false)/\Below w.heap.size w w':=by
 have HCAN:Hid (∀w,Calls prog 49 #[.int .u32 i.bits] w fun e w'=>e=.returned (.bool (BL i.bits))/\Below w.heap.size w w'):=Cy i.bits h0 h1;cases hk:An i.op
 ·have HROW:Hid (∀w,Calls prog 37 #[.int .i64 i.op] w fun e w'=>e=.returned (.tuple #[.string ⟨#[]⟩,.bool false])/\w'=w):=GI i.op hk;obtain⟨op,D,A,B,E,n,bt⟩:=i;unfold B9;simp only at HROW HCAN ⊢;clear h hk;go_enter func50,ntmps50;go_wp2_with(go_at_call 37;refine(HROW.out _).mono ?_;rintro e w1 ⟨rfl,rfl⟩);go_ret;exact O1
 ·obtain⟨a,b,c,d,e,-,hc⟩:=Ky i.op hk;have HROW:Hid (∀w,Calls prog 37 #[.int .i64 i.op] w fun x w'=>x=.returned (.tuple #[.string ⟨#[a,b,c,d,e]⟩,.bool true])/\w'=w):=hc;rw[hk,Bool.true_and]at h;clear hc hk;obtain⟨op,D,A,B,E,n,bt⟩:=i;unfold B9;simp only at HROW HCAN h ⊢;cases ho:(op==1)
  ·have ho':(op != 1)=true:=by simpa using ho
   cases hz:(bt==0)
   ·have hz':(bt != 0)=true:=by simpa using hz
    clear h;go_enter func50,ntmps50;go_wp2_with(go_at_call 37;refine(HROW.out _).mono ?_;rintro e w1 ⟨rfl,rfl⟩);go_ret;exact O1
   ·rw[ho,hz,Bool.false_or,Bool.true_and]at h;rw[h]at HCAN;have hz':(bt != 0)=false:=by simpa using hz
    exact Sd
  ·rw[ho,Bool.true_or,Bool.true_and]at h;rw[h]at HCAN;have ho':(op != 1)=false:=by simpa using ho
   exact Sd
structure TW(w:World)(v0 v1 v2 v3:Value)(J:Nat)(op D A B E n bt:Int)(v:World):Prop where
 bel:Below w.heap.size w v
 c0:v.cell? ⟨w.heap.size,0,none⟩=some v0
 c1:v.cell? ⟨w.heap.size,1,none⟩=some v1
 c2:v.cell? ⟨w.heap.size,2,none⟩=some v2
 c3:v.cell? ⟨w.heap.size,3,none⟩=some v3
 i0:v.cell? ⟨J,0,none⟩=some (.int .i64 op)
 i1:v.cell? ⟨J,1,none⟩=some (.int .i64 D)
 i2:v.cell? ⟨J,2,none⟩=some (.int .i64 A)
 i3:v.cell? ⟨J,3,none⟩=some (.int .i64 B)
 i4:v.cell? ⟨J,4,none⟩=some (.int .i64 E)
 i5:v.cell? ⟨J,5,none⟩=some (.int .i64 n)
 i6:v.cell? ⟨J,6,none⟩=some (.int .u32 bt)
theorem TW.next{w:World}{v0 v1 v2 v3:Value}{J:Nat}{op D A B E n bt:Int}{v v':World}(h:TW w v0 v1 v2 v3 J op D A B E n bt v)(k:Below v.heap.size v v'):TW w v0 v1 v2 v3 J op D A B E n bt v':=
 ⟨Go.Proofs.Ytnbccaicijcklaa.bel h.bel k,kc k h.c0,kc k h.c1,kc k h.c2,kc k h.c3,kc k h.i0,kc k h.i1,kc k h.i2,kc k h.i3,kc k h.i4,kc k h.i5,kc k h.i6⟩
theorem TW.keep{w:World}{v0 v1 v2 v3:Value}{J:Nat}{op D A B E n bt:Int}{v:World}(h:TW w v0 v1 v2 v3 J op D A B E n bt v){g o:Nat}(x:Value)(h1:w.heap.size<g)(h2:g≠J):TW w v0 v1 v2 v3 J op D A B E n bt (v.setCell ⟨g,o,none⟩ x):=by
 have f1:∀j,(v.setCell ⟨g,o,none⟩ x).cell? ⟨w.heap.size,j,none⟩=v.cell? ⟨w.heap.size,j,none⟩:=fun j=>World.cell?_of_block (Below.heap_setCell _ _ _ _ (by show w.heap.size≠g;omega));have f2:∀j,(v.setCell ⟨g,o,none⟩ x).cell? ⟨J,j,none⟩=v.cell? ⟨J,j,none⟩:=fun j=>World.cell?_of_block (Below.heap_setCell _ _ _ _ (by show J≠g;omega));exact⟨h.bel.setCell (by show w.heap.size<=g;omega) _,(f1 0).trans h.c0,(f1 1).trans h.c1,(f1 2).trans h.c2,(f1 3).trans h.c3,(f2 0).trans h.i0,(f2 1).trans h.i1,(f2 2).trans h.i2,(f2 3).trans h.i3,(f2 4).trans h.i4,(f2 5).trans h.i5,(f2 6).trans h.i6⟩
theorem TW.start(w:World)(v0 v1 v2 v3:Value)(op D A B E n bt:Int):TW w v0 v1 v2 v3 (w.heap.size+1) op D A B E n bt ((w.alloc (.cells #[v0,v1,v2,v3] 27)).alloc (.cells #[.int .i64 op,.int .i64 D,.int .i64 A,.int .i64 B,.int .i64 E,.int .i64 n,.int .u32 bt] 40)):=by
 have k:=A0 (w.alloc (.cells #[v0,v1,v2,v3] 27)) (.cells #[.int .i64 op,.int .i64 D,.int .i64 A,.int .i64 B,.int .i64 E,.int .i64 n,.int .u32 bt] 40);exact⟨Go.Proofs.Ytnbccaicijcklaa.bel (A0 _ _) k,kc k sG,kc k sG,kc k sG,kc k sG,sG,sG,sG,sG,sG,sG,sG⟩
theorem Co{n:Nat}{w v:World}(h:Below n w v):Below n w v.drew:=h.drew
def IA(s:Wk)(op:Int):Bool:=if op=34\/op=36 then decide (s.opens.length<64)else if op=35 then decide (0<s.opens.length)&& !AA s else if op=37 then AA s else true
def I6(c:Cd)(s:Wk)(i:Aa):Bool:=AA s&&(i.op != 37&&Eg c.regs (Dx i) != BE s)
def Cr(s:Wk):Prop:=∀b∈s.opens,b.loop=true->0<=b.par
theorem Cr.inner{s:Wk}(h:Cr s)(hl:AA s=true):0<=BE s:=by
 obtain⟨S,O⟩:=s;cases O with
 |nil=>exact Int.le_refl _
 |cons b r=>exact h b (List.mem_cons_self ..) hl
theorem Ff{i:Aa}(h:BM i.op=false):Dx i= -1:=by
 unfold BM at h;simp only[Bool.or_eq_false_iff]at h;have h1:(i.op==29)=false/\(i.op==30)=false/\(i.op==31)=false/\(i.op==32)=false/\(i.op==33)=false:=by
  have:=h.1;simp only[Bool.and_eq_false_iff,decide_eq_false_iff_not]at this;simp only[beq_eq_false_iff_ne,ne_eq];omega
 unfold Dx;rw[h.2,h1.1,h1.2.1,h1.2.2.1,h1.2.2.2.1,h1.2.2.2.2];rfl
theorem LM{i:Aa}(h:BM i.op=true):Dx i=Gw i (A4 i.op):=by
 unfold BM DE at h;simp only[Bool.or_eq_true,Bool.and_eq_true,decide_eq_true_eq]at h;obtain⟨op,D,A,B,E,n,bb⟩:=i;simp only at h ⊢;have:op=3\/op=4\/op=5\/op=6\/op=7\/op=8\/op=9\/op=10\/op=11\/op=12\/op=13\/op=14\/op=15\/op=29\/op=30\/op=31\/op=32\/op=33:=oM;rcases this with rfl|rfl|rfl|rfl|rfl|rfl|rfl|rfl|rfl|rfl|rfl|rfl|rfl|rfl|rfl|rfl|rfl|rfl<;>rfl
theorem Fg(rs:List Ty):Eg rs (-1)= -1:=by unfold Eg Ar;simp
theorem P9{rs:List Ty}{n q:Int}(hq:0<=q):(Eg rs n=q)↔Au rs n=⟨3,q⟩:=by
 unfold Eg;cases h:Ar n rs.length
 ·have:Au rs n=⟨0,0⟩:=by unfold Au;rw[h];rfl
  rw[this];simp;omega
 ·rw[Bool.true_and];generalize Au rs n=t;obtain⟨K,P⟩:=t;simp only[Ty.mk.injEq];by_cases hk:K=3
  ·subst hk;simp
  ·have:(K==3)=false:=by simpa using hk
   rw[this];constructor
   ·intro e;simp at e;omega
   ·intro e;exact absurd e.1 hk
theorem LH{c:Cd}{s:Wk}{i:Aa}(hO:Cr s):AD c s i (A4 i.op)=(!I6 c s i&&IA s i.op):=by
 have hO':=hO.inner;unfold AD I6 IA;by_cases h1:i.op=34\/i.op=36
 ·rw[if_pos h1,if_pos h1];have hv:Eg c.regs (Dx i)= -1:=by
   rw[Ff (by rcases h1 with e|e<;>rw[e]<;>decide),Fg]
  have h37:(i.op != 37)=true:=by rcases h1 with e|e<;>rw[e]<;>decide
  rw[hv,h37];cases hl:AA s
  ·rfl
  ·have:=hO' hl;have e:((-1:Int) != BE s)=true:=sO;rw[e];rfl
 ·rw[if_neg h1,if_neg h1];by_cases h2:i.op=35
  ·rw[if_pos h2,if_pos h2];have hv:Eg c.regs (Dx i)= -1:=by rw[Ff (by rw[h2];decide),Fg]
   rw[hv,h2];have hE:(!s.opens.isEmpty)=decide (0<s.opens.length):=by cases s.opens<;>simp
   rw[hE];cases hl:AA s
   ·simp
   ·have:=hO' hl;have e:((-1:Int) != BE s)=true:=sO;rw[e];simp
  ·rw[if_neg h2,if_neg h2];by_cases h3:i.op=37
   ·rw[if_pos h3,if_pos h3,h3];cases AA s<;>rfl
   ·rw[if_neg h3,if_neg h3];have h37:(i.op != 37)=true:=by simpa using h3
    rw[h37,Bool.true_and,Bool.and_true];cases hl:AA s
    ·rfl
    ·have hq:=hO' hl;rw[Bool.not_true,Bool.false_or,Bool.true_and];cases hlp:BM i.op
     ·rw[Ff hlp,Fg];have e:((-1:Int) != BE s)=true:=sO;rw[e];rfl
     ·rw[LM hlp,Bool.true_and];unfold Az;rw[Bool.eq_iff_iff,decide_eq_true_eq,←P9 hq];simp
theorem LK{c:Cd}{s:Wk}{i:Aa}(hT:Ap c=true)(hO:Cr s):AS c s i=((An i.op&&CG c i (Cj i.op))&&(!I6 c s i&&(Et s i (A4 i.op)&&IA s i.op))):=by
 unfold AS;rw[I1 hT,LH hO];cases An i.op<;>cases AW c i (A4 i.op)<;>cases I6 c s i<;>cases IA s i.op<;>simp
structure Ob where
 op:Int
 par:Int
 set:List Nat
def PG(S:List Nat)(b:Bk):Ob:=⟨if b.loop then 36 else 34,b.par,S.take b.ahead⟩
def Gl(s:Wk):List Ob:=(s.opens.map (PG s.set)).reverse
theorem Fz(s:Wk):(Gl s).length=s.opens.length:=by simp[Gl]
theorem EC(S:List Nat)(b:Bk)(r:List Bk):Gl ⟨S,b::r⟩=(r.map (PG S)).reverse++[PG S b]:=by simp[Gl]
theorem Mr{s:Wk}(h:0<s.opens.length):∃X,(Gl s)[s.opens.length-1]? =some ⟨if AA s then 36 else 34,BE s,X⟩:=by
 obtain⟨S,O⟩:=s;cases O with
 |nil=>simp at h
 |cons b r=>
  refine⟨S.take b.ahead,?_⟩;rw[EC];simp only[List.length_cons,Nat.add_sub_cancel];rw[List.getElem?_append_right sM];simp only[List.length_reverse,List.length_map,Nat.sub_self];rfl
theorem Hj{s:Wk}{i:Aa}(h:i.op=34\/i.op=36):As s i=⟨s.set,⟨i.op==36,i.n,s.set.length⟩::s.opens⟩:=by
 unfold As DM;rw[Gr (by rcases h with h|h<;>rw[h]<;>rfl)];unfold Cm;rw[if_pos h]
theorem Hk{s:Wk}{i:Aa}(h:i.op=35\/i.op=37):As s i=AZ s:=by
 unfold As DM;rw[Gr (by rcases h with h|h<;>rw[h]<;>rfl)];unfold Cm;rw[if_neg oM,if_pos h]
theorem Eb{s:Wk}{i:Aa}(h1:i.op≠34)(h2:i.op≠35)(h3:i.op≠36)(h4:i.op≠37):As s i=⟨Fv s.set i,s.opens⟩:=by
 unfold As DM Cm;rw[if_neg oM,if_neg oM];unfold CR Fv;split<;>rfl
theorem Ms{s:Wk}{i:Aa}(h:i.op=34\/i.op=36):Gl (As s i)=Gl s++[⟨i.op,i.n,s.set⟩]:=by
 rw[Hj h,EC];unfold Gl PG;simp only[List.take_length];rcases h with h|h<;>rw[h]<;>rfl
theorem Mt{s:Wk}{i:Aa}{n:Nat}(ho:CM n s)(h1:i.op≠34)(h2:i.op≠35)(h3:i.op≠36)(h4:i.op≠37):Gl (As s i)=Gl s:=by
 rw[Eb h1 h2 h3 h4];unfold Gl;simp only;congr 1;apply List.map_congr_left;intro b hb;have:=Jf ho.opens b hb;have e:(Fv s.set i).take b.ahead=s.set.take b.ahead:=by
  unfold Fv;split
  ·rw[List.take_append_of_le_length this]
  ·rfl
 unfold PG;rw[e]
theorem E1{s:Wk}{n:Nat}(ho:CM n s)(h:0<s.opens.length):Gl (AZ s)=(Gl s).take (s.opens.length-1):=by
 obtain⟨S,O⟩:=s;cases O with
 |nil=>simp at h
 |cons b r=>
  rw[EC];simp only[List.length_cons,Nat.add_sub_cancel];rw[List.take_append_of_le_length sM,List.take_of_length_le sM];unfold Gl AZ;simp only;cases hb:b.loop
  ·simp only[Bool.false_eq_true,if_false];congr 1;apply List.map_congr_left;intro a ha;have:=Jf ho.opens.2 a ha;unfold PG;rw[List.take_take,Nat.min_eq_left this]
  ·simp only[if_true]
theorem Lk{s:Wk}(hl:AA s=false){o:Ob}(h:(Gl s)[s.opens.length-1]? =some o)(h0:0<s.opens.length):(AZ s).set=o.set:=by
 obtain⟨S,O⟩:=s;cases O with
 |nil=>simp at h0
 |cons b r=>
  rw[EC]at h;simp only[List.length_cons,Nat.add_sub_cancel]at h;rw[List.getElem?_append_right sM]at h;simp at h;subst h;have:b.loop=false:=hl;simp[AZ,this,PG]
theorem J5{s:Wk}(hl:AA s=true):(AZ s).set=s.set:=by
 obtain⟨S,O⟩:=s;cases O with
 |nil=>rfl
 |cons b r=>
  have:b.loop=true:=hl;simp[AZ,this]
theorem CH(s:Wk):(AZ s).opens.length=s.opens.length-1:=by
 obtain⟨S,O⟩:=s;cases O with
 |nil=>rfl
 |cons b r=>simp[AZ]
theorem Cr.step{c:Cd}{s:Wk}{i:Aa}(h:Cr s)(t:AS c s i=true):Cr (As s i):=by
 by_cases h1:i.op=34\/i.op=36
 ·rw[Hj h1];intro b hb hl;rcases List.mem_cons.1 hb with rfl|hb
  ·have h36:i.op=36:=by simpa using hl
   obtain⟨_,h2,_,_⟩:=AG t;rw[h36]at h2;unfold AW BD at h2;simp only[Bool.and_eq_true]at h2;have h3:=h2.2.2.2.2;rw[if_neg (show(A4 36).n≠7 by decide)]at h3;simp only[Bool.and_eq_true]at h3;have h4:Ar i.n c.sign.length=true:=h3.2;exact(BK.1 h4).1
  ·exact h b hb hl
 ·by_cases h2:i.op=35\/i.op=37
  ·rw[Hk h2];intro b hb hl;refine h b ?_ hl;unfold AZ at hb;split at hb
   ·rename_i e;rw[e];exact List.mem_cons_of_mem _ hb
   ·exact hb
  ·rw[Eb oM oM oM oM];exact h
theorem Cr.start:Cr ⟨[],[]⟩:=fun b hb=>by cases hb
theorem ED{B:Nat}{V:World}{e t:TypeId}{z:Value}{sz by':Nat}(ht:prog.underlying t=some (.slice e))(hi:(prog.info? e).map (fun i=>(i.zero,i.size,i.bytes))=some (some z,sz,by'))(hzs:z.cells.size=sz)(hsz:0<sz){p:Option Addr}{n q:Nat}{xs:List Value}(h:V.ownsRow B e sz (.slice p n q) n xs)(hB:B<=V.heap.size)
 (cs:Array Value) (hcs:cs.size=sz) (h1:∀u∈cs.toList,u.oneCell'=true) (hn:n+1<=maxLen) (hb:(n+1)*by'<=140737488355328) (ty:TypeId):
 ∃g c' w',(Builtin.append_ #[t,t] ty #[.slice p n q,.slice (some ⟨V.heap.size,0,none⟩) 1 1]).run prog (V.alloc (.cells cs e))=.ok (.slice (some ⟨g,0,none⟩) (n+1) c') w'/\Below B V w'/\w'.ownsRow B e sz (.slice (some ⟨g,0,none⟩) (n+1) c') (n+1) (xs++cs.toList)/\(∀b,b<V.heap.size->(Value.slice p n q).ownBlock≠some b->w'.heap[b]? =V.heap[b]?)/\((Value.slice p n q).ownBlock=some g\/V.heap.size<g):=by
 obtain⟨i0,hi0,hz0,hz1,hz2⟩:=info_parts hi;have hb0:Below V.heap.size V (V.alloc (.cells cs e)):=A0 _ _;have hs:(V.alloc (.cells cs e)).heap.size=V.heap.size+1:=sM;have h0:=Ac h hb0;obtain⟨g,cap,w3,hr,hown,hgrow,hat,hlt⟩:=run_append_lies (P:=prog) (V.alloc (.cells cs e)) t ty B e i0 _ sz by' ht hi0 hz0 hz1 hz2 hzs hsz (.slice p n q) n xs h0 ⟨V.heap.size,0,none⟩ 1 1 cs.toList (by simp[hcs])
  (World.news_of_block (cs:=cs) (t:=e) (fr:=(0,0)) (heap_alloc_new V _)) h1 dE hn hb oM _ rfl
 exact QY
end Go.Proofs.Ytnbccaicijcklaa
