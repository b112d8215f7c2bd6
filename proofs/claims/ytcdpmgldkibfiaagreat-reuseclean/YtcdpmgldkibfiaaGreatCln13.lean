import Derived.Test.YtcdpmgldkibfiaaGreatCln10
import Derived.Test.YtcdpmgldkibfiaaGreatCln1
namespace Go.Proofs.YtcdpmgldkibfiaaGreat
open Go.RowKit Go.Proofs.Tryz
set_option linter.all false
set_option maxRecDepth 100000
set_option maxHeartbeats 16000000
theorem LY(v0 v1 v2 v3:Value)(c:Cd)(hk:Ba c)(n p:Int)(hp:n=1->Av p c.sign.length=true)(w:World)(hv:Cj w v0 v1 v2 v3 c):
 Calls prog 117 #[.agg #[v0,v1,v2,v3],.int .i64 n,.int .i64 p] w fun e w'=>e=.returned (.bool (n==0||(n==1&&CI c.sign p==2)))/\Below w.heap.size w w':=by
 have HB:=hk.signL;by_cases h0:n=0
 ·subst h0;clear hp hv;go_enter func117,ntmps117;go_wp2;go_ret;exact⟨rfl,A0 _ _⟩
 ·have h0':(n==0)=false:=by simpa using h0
  by_cases h1:n=1
  ·subst h1;obtain⟨k,rfl,hkl⟩:=Dq (hp rfl);have hr:=hv.sign;obtain⟨p,q,rfl,hrr⟩:=hv.sign;obtain⟨lb,lo,rfl,hc⟩:=hr.at hkl;have e:CI c.sign (k:Int)=c.sign[k].kind:=by unfold CI;rw[Int.toNat_natCast,List.getElem?_eq_getElem hkl];rfl
   rw[e];obtain⟨⟨nm,K,L⟩,ht⟩:∃t:Cf,c.sign[k]=t:=⟨_,rfl⟩
   rw[ht]at hc ⊢;have y1:w.cell? ⟨lb,lo+k*3+1,none⟩=some (.int .i64 K):=hc.at 1 rfl;have g1:∀o,(w.alloc o).cell? ⟨lb,lo+k*3+1,none⟩=some (.int .i64 K):=fun o=>kc (A0 _ _) y1;obtain⟨N,hN⟩:∃N,c.sign.length=N:=⟨_,rfl⟩
   rw[hN]at hkl HB ⊢;clear hr hrr hc ht e hp hv hN h0 hk;simp only;go_enter func117,ntmps117;go_wp2;go_ret;exact⟨A9 sM,A0 _ _⟩
  ·have h1':(n==1)=false:=by simpa using h1
   rw[h0',h1'];clear hp hv h0 h1;go_enter func117,ntmps117;go_wp2;go_ret;exact⟨rfl,A0 _ _⟩
def FK(i:Ac):Int:=if Bj i.op||(i.op==29||(i.op==30||i.op==32))then i.d else if i.op==31||i.op==33 then i.a else -1
def Gw(rs:List Ty)(n:Int):Int:=if Av n rs.length&&(A7 rs n).kind==3 then(A7 rs n).par else -1
theorem On(v0 v1 v2 v3:Value)(c:Cd)(hk:Ba c)(i:Ac)(w:World)(hv:Cj w v0 v1 v2 v3 c):
 Calls prog 88 #[.agg #[v0,v1,v2,v3],AV i] w fun e w'=>e=.returned (.int .i64 (Gw c.regs (FK i)))/\Below w.heap.size w w':=by
 have HB:=hk.regsL;have KE:Hid (∀v,Calls prog 118 #[.int .i64 i.op] v fun e w'=>e=.returned (.bool (Bj i.op))/\w'=v):=SS i.op;have hr:=hv.regs;obtain⟨p,q,rfl,hrr⟩:=hv.regs;clear hv hk hrr;obtain⟨op,D,A,B,E,nn,bb⟩:=i;unfold AV;simp only at KE ⊢;have key:∀n:Int,(Av n c.regs.length=false/\Gw c.regs n= -1)\/∃ (k:Nat) (lb lo:Nat) (K P:Int),n=(k:Int)/\k<c.regs.length/\p=some ⟨lb,lo,none⟩/\w.cell? ⟨lb,lo+k*2,none⟩=some (.int .i64 K)/\w.cell? ⟨lb,lo+k*2+1,none⟩=some (.int .i64 P)/\Gw c.regs n=if K==3 then P else -1:=by
  intro n;cases h:Av n c.regs.length
  ·exact .inl ⟨rfl,by unfold Gw;rw[h];rfl⟩
  ·obtain⟨k,rfl,hkl⟩:=Dq h;obtain⟨lb,lo,hp,hc⟩:=hr.at hkl;refine .inr ⟨k,lb,lo,c.regs[k].kind,c.regs[k].par,rfl,hkl,hp,hc.at 0 rfl,hc.at 1 rfl,?_⟩;unfold Gw;rw[h,Fm rfl hkl,Bool.true_and]
 obtain⟨N,hN⟩:∃N,c.regs.length=N:=⟨_,rfl⟩
 rw[hN]at HB key ⊢;clear hr;cases hX:Bj op
 ·rw[hX]at KE;by_cases a29:op=29
  ·subst a29;rw[show FK ⟨29,D,A,B,E,nn,bb⟩=D from rfl];rcases key D with⟨hpl,e9⟩|⟨k,lb,lo,K,P,rfl,hkl,rfl,y0,y1,e9⟩
   ·rw[e9];clear key e9;by_cases h0:D<0
    ·exact IS
    ·have h1:(N:Int)<=D:=by unfold Av at hpl;simp at hpl;omega
     exact IS
   ·rw[e9];clear key e9;have g0:∀o o',((w.alloc o).alloc o').cell? ⟨lb,lo+k*2,none⟩=some (.int .i64 K):=fun o o'=>kc (bel (A0 _ _) (A0 _ _)) y0;have g1:∀o o',((w.alloc o).alloc o').cell? ⟨lb,lo+k*2+1,none⟩=some (.int .i64 P):=fun o o'=>kc (bel (A0 _ _) (A0 _ _)) y1;by_cases h3:K=3
    ·subst h3;exact IS
    ·have h3':(K==3)=false:=by simpa using h3
     have h3b:(K != 3)=true:=by simpa using h3
     rw[h3'];clear h3;exact IS
  by_cases a30:op=30
  ·subst a30;rw[show FK ⟨30,D,A,B,E,nn,bb⟩=D from rfl];rcases key D with⟨hpl,e9⟩|⟨k,lb,lo,K,P,rfl,hkl,rfl,y0,y1,e9⟩
   ·rw[e9];clear key e9;by_cases h0:D<0
    ·exact IS
    ·have h1:(N:Int)<=D:=by unfold Av at hpl;simp at hpl;omega
     exact IS
   ·rw[e9];clear key e9;have g0:∀o o',((w.alloc o).alloc o').cell? ⟨lb,lo+k*2,none⟩=some (.int .i64 K):=fun o o'=>kc (bel (A0 _ _) (A0 _ _)) y0;have g1:∀o o',((w.alloc o).alloc o').cell? ⟨lb,lo+k*2+1,none⟩=some (.int .i64 P):=fun o o'=>kc (bel (A0 _ _) (A0 _ _)) y1;by_cases h3:K=3
    ·subst h3;exact IS
    ·have h3':(K==3)=false:=by simpa using h3
     have h3b:(K != 3)=true:=by simpa using h3
     rw[h3'];clear h3;exact IS
  by_cases a32:op=32
  ·subst a32;rw[show FK ⟨32,D,A,B,E,nn,bb⟩=D from rfl];rcases key D with⟨hpl,e9⟩|⟨k,lb,lo,K,P,rfl,hkl,rfl,y0,y1,e9⟩
   ·rw[e9];clear key e9;by_cases h0:D<0
    ·exact IS
    ·have h1:(N:Int)<=D:=by unfold Av at hpl;simp at hpl;omega
     exact IS
   ·rw[e9];clear key e9;have g0:∀o o',((w.alloc o).alloc o').cell? ⟨lb,lo+k*2,none⟩=some (.int .i64 K):=fun o o'=>kc (bel (A0 _ _) (A0 _ _)) y0;have g1:∀o o',((w.alloc o).alloc o').cell? ⟨lb,lo+k*2+1,none⟩=some (.int .i64 P):=fun o o'=>kc (bel (A0 _ _) (A0 _ _)) y1;by_cases h3:K=3
    ·subst h3;exact IS
    ·have h3':(K==3)=false:=by simpa using h3
     have h3b:(K != 3)=true:=by simpa using h3
     rw[h3'];clear h3;exact IS
  by_cases a31:op=31
  ·subst a31;rw[show FK ⟨31,D,A,B,E,nn,bb⟩=A from rfl];rcases key A with⟨hpl,e9⟩|⟨k,lb,lo,K,P,rfl,hkl,rfl,y0,y1,e9⟩
   ·rw[e9];clear key e9;by_cases h0:A<0
    ·exact IS
    ·have h1:(N:Int)<=A:=by unfold Av at hpl;simp at hpl;omega
     exact IS
   ·rw[e9];clear key e9;have g0:∀o o',((w.alloc o).alloc o').cell? ⟨lb,lo+k*2,none⟩=some (.int .i64 K):=fun o o'=>kc (bel (A0 _ _) (A0 _ _)) y0;have g1:∀o o',((w.alloc o).alloc o').cell? ⟨lb,lo+k*2+1,none⟩=some (.int .i64 P):=fun o o'=>kc (bel (A0 _ _) (A0 _ _)) y1;by_cases h3:K=3
    ·subst h3;exact IS
    ·have h3':(K==3)=false:=by simpa using h3
     have h3b:(K != 3)=true:=by simpa using h3
     rw[h3'];clear h3;exact IS
  by_cases a33:op=33
  ·subst a33;rw[show FK ⟨33,D,A,B,E,nn,bb⟩=A from rfl];rcases key A with⟨hpl,e9⟩|⟨k,lb,lo,K,P,rfl,hkl,rfl,y0,y1,e9⟩
   ·rw[e9];clear key e9;by_cases h0:A<0
    ·exact IS
    ·have h1:(N:Int)<=A:=by unfold Av at hpl;simp at hpl;omega
     exact IS
   ·rw[e9];clear key e9;have g0:∀o o',((w.alloc o).alloc o').cell? ⟨lb,lo+k*2,none⟩=some (.int .i64 K):=fun o o'=>kc (bel (A0 _ _) (A0 _ _)) y0;have g1:∀o o',((w.alloc o).alloc o').cell? ⟨lb,lo+k*2+1,none⟩=some (.int .i64 P):=fun o o'=>kc (bel (A0 _ _) (A0 _ _)) y1;by_cases h3:K=3
    ·subst h3;exact IS
    ·have h3':(K==3)=false:=by simpa using h3
     have h3b:(K != 3)=true:=by simpa using h3
     rw[h3'];clear h3;exact IS
  ·have b29:(op==29)=false:=by simpa using a29
   have b30:(op==30)=false:=by simpa using a30
   have b31:(op==31)=false:=by simpa using a31
   have b32:(op==32)=false:=by simpa using a32
   have b33:(op==33)=false:=by simpa using a33
   rw[show FK ⟨op,D,A,B,E,nn,bb⟩= -1 by unfold FK;simp[hX,b29,b30,b31,b32,b33]];rw[show Gw c.regs (-1)= -1 by unfold Gw Av;simp];clear key a29 a30 a31 a32 a33;exact IS
 ·rw[hX]at KE;rw[show FK ⟨op,D,A,B,E,nn,bb⟩=D by unfold FK;simp[hX]];rcases key D with⟨hpl,e9⟩|⟨k,lb,lo,K,P,rfl,hkl,rfl,y0,y1,e9⟩
  ·rw[e9];clear key e9;by_cases h0:D<0
   ·exact IS
   ·have h1:(N:Int)<=D:=by unfold Av at hpl;simp at hpl;omega
    exact IS
  ·rw[e9];clear key e9;have g0:∀o o',((w.alloc o).alloc o').cell? ⟨lb,lo+k*2,none⟩=some (.int .i64 K):=fun o o'=>kc (bel (A0 _ _) (A0 _ _)) y0;have g1:∀o o',((w.alloc o).alloc o').cell? ⟨lb,lo+k*2+1,none⟩=some (.int .i64 P):=fun o o'=>kc (bel (A0 _ _) (A0 _ _)) y1;by_cases h3:K=3
   ·subst h3;exact IS
   ·have h3':(K==3)=false:=by simpa using h3
    have h3b:(K != 3)=true:=by simpa using h3
    rw[h3'];clear h3;exact IS
structure Lt where
 a:Int
 b:Int
 c:Int
 d:Int
 e:Int
def DM(op:Int):Lt:=
 if op=1 then⟨110,45,45,45,45⟩
 else if op=2 then⟨119,45,45,45,105⟩
 else if op=3 then⟨97,99,45,45,45⟩
 else if 4<=op/\op<=10 then⟨100,120,120,45,45⟩
 else if 11<=op/\op<=14 then⟨100,120,45,45,45⟩
 else if op=15 then⟨100,120,120,120,45⟩
 else if op=16 then⟨110,110,119,45,45⟩
 else if op=17 then⟨110,119,45,45,45⟩
 else if op=18 then⟨119,110,45,45,45⟩
 else if 19<=op/\op<=20 then⟨110,118,45,45,45⟩
 else if op=21\/op=25 then⟨119,119,45,45,45⟩
 else if op=26 then⟨119,119,119,119,45⟩
 else if 22<=op/\op<=28 then⟨119,119,119,45,45⟩
 else if 29<=op/\op<=30 then⟨118,45,45,45,112⟩
 else if op=31 then⟨45,118,45,45,112⟩
 else if op=32 then⟨97,45,45,45,115⟩
 else if op=33 then⟨45,97,45,45,115⟩
 else if op=34 then⟨45,119,45,45,45⟩
 else if op=36 then⟨45,45,45,45,113⟩
 else⟨45,45,45,45,45⟩
def dR(rs:List Ty)(l D:Int):Ty:=if l=45 then⟨0,0⟩else A7 rs D
def tR(rs:List Ty)(l0 l1 D A:Int):Ty:=if l0=45/\l1≠45 then A7 rs A else dR rs l0 D
def Dk(c:Cd)(l n:Int)(t:Ty):Bool:=
 if l=105 then D8 n
 else if l=112 then n==0||(n==1&&CI c.sign t.par==2)
 else if l=115 then Av n c.slots.length&&decide (CR c.slots n=t)
 else if l=113 then Av n c.sign.length
 else n==0
def Et(c:Cd)(i:Ac)(L:Lt):Bool:=
 (i.op==1||i.bits==0)&&(Cy i.bits&&(Ap c.regs L.a i.d ⟨0,0⟩&&(Ap c.regs L.b i.a (dR c.regs L.a i.d)&&(Ap c.regs L.c i.b (dR c.regs L.a i.d)&&(Ap c.regs L.d i.c (dR c.regs L.a i.d)&&Dk c L.e i.n (tR c.regs L.a L.b i.d i.a))))))
theorem QQ{c:Cd}(h:As c=true){n:Int}(hp:Av n c.regs.length=true):AA (A7 c.regs n) c.sign.length=true:=by
 obtain⟨k,rfl,hk⟩:=Dq hp;rw[Fm rfl hk];unfold As at h;exact List.all_eq_true.1 h _ (List.getElem_mem hk)
theorem QR{c:Cd}(h:As c=true){n:Int}(hp:Av n c.regs.length=true)(hk:(A7 c.regs n).kind=1):(A7 c.regs n).par=0:=by
 have:=QQ h hp;unfold AA at this;rw[if_pos (.inl hk)]at this;simpa using this
theorem x_eq{c:Cd}(h:As c=true){n m:Int}(hn:Av n c.regs.length=true)(hm:Av m c.regs.length=true)(hk:((A7 c.regs m).kind==1||(A7 c.regs m).kind==3)=true):
 ((A7 c.regs n).kind==1||decide (A7 c.regs n=A7 c.regs m))=(decide (A7 c.regs n=A7 c.regs m)||((A7 c.regs n).kind==1&&(A7 c.regs m).kind==3)):=by
 have h1:=QR h hn;have h2:=QR h hm;generalize A7 c.regs n=t at *;generalize A7 c.regs m=d at *;obtain⟨K,P⟩:=t;obtain⟨A,B⟩:=d;simp only at h1 h2 hk ⊢;rw[Bool.eq_iff_iff];simp only[Bool.or_eq_true,beq_iff_eq,decide_eq_true_eq,Bool.and_eq_true,Ty.mk.injEq]at hk ⊢;constructor
 ·rintro(e|e)
  ·rcases hk with k|k
   ·exact .inl ⟨oM,by rw[h1 e,h2 k]⟩
   ·exact .inr ⟨e,k⟩
  ·exact .inl e
 ·rintro(e|e)
  ·exact .inr e
  ·exact .inl e.1
theorem told0:Cy 0=true:=dE
theorem EY(rs:List Ty)(n:Int)(d:Ty):Ap rs 45 n d=(n==0):=if_pos rfl
theorem Fb(rs:List Ty)(n:Int)(d:Ty):Ag rs 0 n d=(n==0):=if_pos rfl
theorem BS{l:Int}(h:l≠0)(rs:List Ty)(n:Int)(d:Ty):Ag rs l n d=(Av n rs.length&&B7 l (A7 rs n) d):=if_neg h
theorem BO{l:Int}(h:l≠45)(rs:List Ty)(n:Int)(d:Ty):Ap rs l n d=(Av n rs.length&&Gu l (A7 rs n) d):=if_neg h
theorem Ic(rs:List Ty)(n:Int)(d m:Ty):Ap rs 110 n d=Ag rs 1 n m:=by rw[BO dE,BS dE];rfl
theorem D5(rs:List Ty)(n:Int)(d m:Ty):Ap rs 119 n d=Ag rs 2 n m:=by rw[BO dE,BS dE];rfl
theorem PK(rs:List Ty)(n:Int)(d m:Ty):Ap rs 118 n d=Ag rs 3 n m:=by rw[BO dE,BS dE];rfl
theorem PJ(rs:List Ty)(n:Int)(d m:Ty):Ap rs 100 n d=Ag rs 4 n m:=by rw[BO dE,BS dE];rfl
theorem Aw(rs:List Ty)(n:Int)(d m:Ty):Ap rs 45 n d=Ag rs 0 n m:=by rw[EY,Fb]
theorem PI(rs:List Ty)(n:Int)(d:Ty):Ap rs 97 n d=Ag rs 6 n (A7 rs n):=by rw[BO dE,BS dE];simp[Gu,B7]
theorem oper_c(rs:List Ty)(n:Int)(d:Ty):Ap rs 99 n d=Ag rs 5 n d:=by rw[BO dE,BS dE];simp[Gu,B7]
theorem oper_x{c:Cd}(h:As c=true)(n:Int){m:Int}(hd:Ag c.regs 4 m (A7 c.regs m)=true):Ap c.regs 120 n (A7 c.regs m)=Ag c.regs 5 n (A7 c.regs m):=by
 rw[BO dE,BS dE];rw[BS dE]at hd;simp only[Bool.and_eq_true]at hd;cases hn:Av n c.regs.length
 ·rfl
 ·rw[Bool.true_and,Bool.true_and];exact x_eq h hn hd.1 hd.2
theorem Bc{c:Cd}{i:Ac}{L:Lt}{R:Rw}(h1:i.op≠1)(h7:R.n≠7)(ha:Ap c.regs L.a i.d ⟨0,0⟩=Ag c.regs R.d i.d (AB c.regs i R))
 (hb:Ag c.regs R.d i.d (AB c.regs i R)=true->Ap c.regs L.b i.a (dR c.regs L.a i.d)=Ag c.regs R.a i.a (AB c.regs i R))
 (hc:Ag c.regs R.d i.d (AB c.regs i R)=true->Ap c.regs L.c i.b (dR c.regs L.a i.d)=Ag c.regs R.b i.b (AB c.regs i R))
 (hd:Ag c.regs R.d i.d (AB c.regs i R)=true->Ap c.regs L.d i.c (dR c.regs L.a i.d)=Ag c.regs R.c i.c (AB c.regs i R))
 (he:Dk c L.e i.n (tR c.regs L.a L.b i.d i.a)=FQ c i.n R.n (AB c.regs i R)):Et c i L=AJ c i R:=by
 unfold Et AJ Bh;rw[if_neg h7,ha,he];have:(i.op==1)=false:=by simpa using h1
 rw[this,Bool.false_or];cases hX:Ag c.regs R.d i.d (AB c.regs i R)
 ·simp
 ·rw[hb hX,hc hX,hd hX];cases hb:(i.bits==0)
  ·simp
  ·have:i.bits=0:=by simpa using hb
   rw[this,told0];simp
theorem Nw{c:Cd}(h:As c=true)(i:Ac):Et c i (DM i.op)=AJ c i (A4 i.op):=by
 have x:=fun n=>@oper_x c h n i.d;by_cases h1:i.op=1
 ·have e1:DM i.op=⟨110,45,45,45,45⟩:=by rw[h1];rfl
  have e2:A4 i.op=⟨1,0,0,0,7⟩:=by rw[h1];rfl
  rw[e1,e2];unfold Et AJ Bh;simp only;rw[h1,Ic _ _ _ (AB c.regs i ⟨1,0,0,0,7⟩),EY,EY,EY,Fb,Fb,Fb];rw[show Dk c 45 i.n (tR c.regs 110 45 i.d i.a)=(i.n==0)from rfl];generalize Ag c.regs 1 i.d _=A1;cases A1<;>cases Cy i.bits<;>simp
 unfold DM A4;rw[if_neg h1,if_neg h1];by_cases h2:i.op=2
 ·rw[if_pos h2,if_pos h2];exact Bc h1 dE (D5 _ _ _ _) (fun _=>Aw _ _ _ _) (fun _=>Aw _ _ _ _) (fun _=>Aw _ _ _ _) rfl
 rw[if_neg h2,if_neg h2];by_cases h3:i.op=3
 ·rw[if_pos h3,if_pos h3];exact Bc h1 dE (PI _ _ _) (fun _=>oper_c _ _ _) (fun _=>Aw _ _ _ _) (fun _=>Aw _ _ _ _) rfl
 rw[if_neg h3,if_neg h3];by_cases h4:4<=i.op/\i.op<=10
 ·rw[if_pos h4,if_pos h4];exact Bc h1 dE (PJ _ _ _ _) (x _) (x _) (fun _=>Aw _ _ _ _) rfl
 rw[if_neg h4,if_neg h4];by_cases h5:11<=i.op/\i.op<=14
 ·rw[if_pos h5,if_pos h5];exact Bc h1 dE (PJ _ _ _ _) (x _) (fun _=>Aw _ _ _ _) (fun _=>Aw _ _ _ _) rfl
 rw[if_neg h5,if_neg h5];by_cases h6:i.op=15
 ·rw[if_pos h6,if_pos h6];exact Bc h1 dE (PJ _ _ _ _) (x _) (x _) (x _) rfl
 rw[if_neg h6,if_neg h6];by_cases h7:i.op=16
 ·rw[if_pos h7,if_pos h7];exact Bc h1 dE (Ic _ _ _ _) (fun _=>Ic _ _ _ _) (fun _=>D5 _ _ _ _) (fun _=>Aw _ _ _ _) rfl
 rw[if_neg h7,if_neg h7];by_cases h8:i.op=17
 ·rw[if_pos h8,if_pos h8];exact Bc h1 dE (Ic _ _ _ _) (fun _=>D5 _ _ _ _) (fun _=>Aw _ _ _ _) (fun _=>Aw _ _ _ _) rfl
 rw[if_neg h8,if_neg h8];by_cases h9:i.op=18
 ·rw[if_pos h9,if_pos h9];exact Bc h1 dE (D5 _ _ _ _) (fun _=>Ic _ _ _ _) (fun _=>Aw _ _ _ _) (fun _=>Aw _ _ _ _) rfl
 rw[if_neg h9,if_neg h9];by_cases h10:19<=i.op/\i.op<=20
 ·rw[if_pos h10,if_pos h10];exact Bc h1 dE (Ic _ _ _ _) (fun _=>PK _ _ _ _) (fun _=>Aw _ _ _ _) (fun _=>Aw _ _ _ _) rfl
 rw[if_neg h10,if_neg h10];by_cases h11:i.op=21\/i.op=25
 ·rw[if_pos h11,if_pos h11];exact Bc h1 dE (D5 _ _ _ _) (fun _=>D5 _ _ _ _) (fun _=>Aw _ _ _ _) (fun _=>Aw _ _ _ _) rfl
 rw[if_neg h11,if_neg h11];by_cases h12:i.op=26
 ·rw[if_pos h12,if_pos h12];exact Bc h1 dE (D5 _ _ _ _) (fun _=>D5 _ _ _ _) (fun _=>D5 _ _ _ _) (fun _=>D5 _ _ _ _) rfl
 rw[if_neg h12,if_neg h12];by_cases h13:22<=i.op/\i.op<=28
 ·rw[if_pos h13,if_pos h13];exact Bc h1 dE (D5 _ _ _ _) (fun _=>D5 _ _ _ _) (fun _=>D5 _ _ _ _) (fun _=>Aw _ _ _ _) rfl
 rw[if_neg h13,if_neg h13];by_cases h14:29<=i.op/\i.op<=30
 ·rw[if_pos h14,if_pos h14];exact Bc h1 dE (PK _ _ _ _) (fun _=>Aw _ _ _ _) (fun _=>Aw _ _ _ _) (fun _=>Aw _ _ _ _) rfl
 rw[if_neg h14,if_neg h14];by_cases h15:i.op=31
 ·rw[if_pos h15,if_pos h15];exact Bc h1 dE (Aw _ _ _ _) (fun _=>PK _ _ _ _) (fun _=>Aw _ _ _ _) (fun _=>Aw _ _ _ _) rfl
 rw[if_neg h15,if_neg h15];by_cases h16:i.op=32
 ·rw[if_pos h16,if_pos h16];exact Bc h1 dE (PI _ _ _) (fun _=>Aw _ _ _ _) (fun _=>Aw _ _ _ _) (fun _=>Aw _ _ _ _) rfl
 rw[if_neg h16,if_neg h16];by_cases h17:i.op=33
 ·rw[if_pos h17,if_pos h17];exact Bc h1 dE (Aw _ _ _ _) (fun _=>PI _ _ _) (fun _=>Aw _ _ _ _) (fun _=>Aw _ _ _ _) rfl
 rw[if_neg h17,if_neg h17];by_cases h18:i.op=34
 ·rw[if_pos h18,if_pos h18];exact Bc h1 dE (Aw _ _ _ _) (fun _=>D5 _ _ _ _) (fun _=>Aw _ _ _ _) (fun _=>Aw _ _ _ _) rfl
 rw[if_neg h18,if_neg h18];by_cases h19:i.op=36
 ·rw[if_pos h19,if_pos h19];exact Zfb
 rw[if_neg h19,if_neg h19];exact Zfb
theorem Rz(op:Int)(hk:Ak op=true):∃a b c d e:UInt8,((a.toNat:Int)=(DM op).a/\(b.toNat:Int)=(DM op).b/\(c.toNat:Int)=(DM op).c/\(d.toNat:Int)=(DM op).d/\(e.toNat:Int)=(DM op).e)/\∀w,Calls prog 63 #[.int .i64 op] w fun x w'=>x=.returned (.tuple #[.string ⟨#[a,b,c,d,e]⟩,.bool true])/\w'=w:=by
 have hh:1<=op/\op<=37:=by unfold Ak at hk;simp at hk;omega
 clear hk;have:op=1\/op=2\/op=3\/op=4\/op=5\/op=6\/op=7\/op=8\/op=9\/op=10\/op=11\/op=12\/op=13\/op=14\/op=15\/op=16\/op=17\/op=18\/op=19\/op=20\/op=21\/op=22\/op=23\/op=24\/op=25\/op=26\/op=27\/op=28\/op=29\/op=30\/op=31\/op=32\/op=33\/op=34\/op=35\/op=36\/op=37:=oM;rcases this with rfl|rfl|rfl|rfl|rfl|rfl|rfl|rfl|rfl|rfl|rfl|rfl|rfl|rfl|rfl|rfl|rfl|rfl|rfl|rfl|rfl|rfl|rfl|rfl|rfl|rfl|rfl|rfl|rfl|rfl|rfl|rfl|rfl|rfl|rfl|rfl|rfl
 ·exact⟨_,_,_,_,_,⟨rfl,rfl,rfl,rfl,rfl⟩,fun w=>VT w⟩
 ·exact⟨_,_,_,_,_,⟨rfl,rfl,rfl,rfl,rfl⟩,fun w=>VU w⟩
 ·exact⟨_,_,_,_,_,⟨rfl,rfl,rfl,rfl,rfl⟩,fun w=>VV w⟩
 ·exact⟨_,_,_,_,_,⟨rfl,rfl,rfl,rfl,rfl⟩,fun w=>VW w⟩
 ·exact⟨_,_,_,_,_,⟨rfl,rfl,rfl,rfl,rfl⟩,fun w=>VX w⟩
 ·exact⟨_,_,_,_,_,⟨rfl,rfl,rfl,rfl,rfl⟩,fun w=>VY w⟩
 ·exact⟨_,_,_,_,_,⟨rfl,rfl,rfl,rfl,rfl⟩,fun w=>VZ w⟩
 ·exact⟨_,_,_,_,_,⟨rfl,rfl,rfl,rfl,rfl⟩,fun w=>W5 w⟩
 ·exact⟨_,_,_,_,_,⟨rfl,rfl,rfl,rfl,rfl⟩,fun w=>W6 w⟩
 ·exact⟨_,_,_,_,_,⟨rfl,rfl,rfl,rfl,rfl⟩,fun w=>R4 w⟩
 ·exact⟨_,_,_,_,_,⟨rfl,rfl,rfl,rfl,rfl⟩,fun w=>R5 w⟩
 ·exact⟨_,_,_,_,_,⟨rfl,rfl,rfl,rfl,rfl⟩,fun w=>R6 w⟩
 ·exact⟨_,_,_,_,_,⟨rfl,rfl,rfl,rfl,rfl⟩,fun w=>R7 w⟩
 ·exact⟨_,_,_,_,_,⟨rfl,rfl,rfl,rfl,rfl⟩,fun w=>R8 w⟩
 ·exact⟨_,_,_,_,_,⟨rfl,rfl,rfl,rfl,rfl⟩,fun w=>R9 w⟩
 ·exact⟨_,_,_,_,_,⟨rfl,rfl,rfl,rfl,rfl⟩,fun w=>Ra w⟩
 ·exact⟨_,_,_,_,_,⟨rfl,rfl,rfl,rfl,rfl⟩,fun w=>Rb w⟩
 ·exact⟨_,_,_,_,_,⟨rfl,rfl,rfl,rfl,rfl⟩,fun w=>Rc w⟩
 ·exact⟨_,_,_,_,_,⟨rfl,rfl,rfl,rfl,rfl⟩,fun w=>Re w⟩
 ·exact⟨_,_,_,_,_,⟨rfl,rfl,rfl,rfl,rfl⟩,fun w=>Rf w⟩
 ·exact⟨_,_,_,_,_,⟨rfl,rfl,rfl,rfl,rfl⟩,fun w=>Rg w⟩
 ·exact⟨_,_,_,_,_,⟨rfl,rfl,rfl,rfl,rfl⟩,fun w=>Rh w⟩
 ·exact⟨_,_,_,_,_,⟨rfl,rfl,rfl,rfl,rfl⟩,fun w=>Ri w⟩
 ·exact⟨_,_,_,_,_,⟨rfl,rfl,rfl,rfl,rfl⟩,fun w=>Rj w⟩
 ·exact⟨_,_,_,_,_,⟨rfl,rfl,rfl,rfl,rfl⟩,fun w=>Rl w⟩
 ·exact⟨_,_,_,_,_,⟨rfl,rfl,rfl,rfl,rfl⟩,fun w=>Rm w⟩
 ·exact⟨_,_,_,_,_,⟨rfl,rfl,rfl,rfl,rfl⟩,fun w=>Rn w⟩
 ·exact⟨_,_,_,_,_,⟨rfl,rfl,rfl,rfl,rfl⟩,fun w=>Ro w⟩
 ·exact⟨_,_,_,_,_,⟨rfl,rfl,rfl,rfl,rfl⟩,fun w=>Rp w⟩
 ·exact⟨_,_,_,_,_,⟨rfl,rfl,rfl,rfl,rfl⟩,fun w=>Rq w⟩
 ·exact⟨_,_,_,_,_,⟨rfl,rfl,rfl,rfl,rfl⟩,fun w=>Rr w⟩
 ·exact⟨_,_,_,_,_,⟨rfl,rfl,rfl,rfl,rfl⟩,fun w=>Rs w⟩
 ·exact⟨_,_,_,_,_,⟨rfl,rfl,rfl,rfl,rfl⟩,fun w=>Rt w⟩
 ·exact⟨_,_,_,_,_,⟨rfl,rfl,rfl,rfl,rfl⟩,fun w=>Ru w⟩
 ·exact⟨_,_,_,_,_,⟨rfl,rfl,rfl,rfl,rfl⟩,fun w=>Rv w⟩
 ·exact⟨_,_,_,_,_,⟨rfl,rfl,rfl,rfl,rfl⟩,fun w=>Rx w⟩
 ·exact⟨_,_,_,_,_,⟨rfl,rfl,rfl,rfl,rfl⟩,fun w=>Ry w⟩
def Ca(b:Int):Prop:=b=45\/b=110\/b=119\/b=118\/b=100\/b=120\/b=99\/b=97
instance (b:Int):Decidable (Ca b):=by unfold Ca;infer_instance
def okL(L:Lt):Bool:=decide (Ca L.a)&&(decide (Ca L.b)&&(decide (Ca L.c)&&(decide (Ca L.d)&&(decide (L.e=45\/L.e=105\/L.e=112\/L.e=115\/L.e=113)&&decide (L.e=112->L.a=118\/(L.a=45/\L.b=118))))))
theorem Yl{p:Prop}[Decidable p]{x y:Lt}(h:okL x=true)(k:okL y=true):okL (if p then x else y)=true:=by
 split
 ·exact h
 ·exact k
theorem Y9(op:Int):okL (DM op)=true:=by
 unfold DM
 iterate 19 refine Yl dE ?_
 decide
theorem ZV(op:Int):Ca (DM op).a/\Ca (DM op).b/\Ca (DM op).c/\Ca (DM op).d/\((DM op).e=45\/(DM op).e=105\/(DM op).e=112\/(DM op).e=115\/(DM op).e=113)/\((DM op).e=112->(DM op).a=118\/((DM op).a=45/\(DM op).b=118)):=by
 have:=Y9 op;unfold okL at this;simp only[Bool.and_eq_true,decide_eq_true_eq]at this;exact this
theorem Vj(v0 v1 v2 v3:Value)(i:Ac)(h0:0<=i.bits)(h1:i.bits<4294967296)(h:(Ak i.op&&((i.op==1||i.bits==0)&&Cy i.bits))=false)(w:World):
 Calls prog 87 #[.agg #[v0,v1,v2,v3],AV i] w fun e w'=>e=.returned (.bool false)/\Below w.heap.size w w':=by
 have HCAN:Hid (∀w,Calls prog 86 #[.int .u32 i.bits] w fun e w'=>e=.returned (.bool (Cy i.bits))/\Below w.heap.size w w'):=Eg i.bits h0 h1;cases hk:Ak i.op
 ·have HROW:Hid (∀w,Calls prog 63 #[.int .i64 i.op] w fun e w'=>e=.returned (.tuple #[.string ⟨#[]⟩,.bool false])/\w'=w):=LZ i.op hk;obtain⟨op,D,A,B,E,n,bt⟩:=i;unfold AV;simp only at HROW HCAN ⊢;clear h hk;go_enter func87,ntmps87;go_wp2_with(go_at_call 63;refine(HROW.out _).mono ?_;rintro e w1 ⟨rfl,rfl⟩);go_ret;exact TZ
 ·obtain⟨a,b,c,d,e,-,hc⟩:=Rz i.op hk;have HROW:Hid (∀w,Calls prog 63 #[.int .i64 i.op] w fun x w'=>x=.returned (.tuple #[.string ⟨#[a,b,c,d,e]⟩,.bool true])/\w'=w):=hc;rw[hk,Bool.true_and]at h;clear hc hk;obtain⟨op,D,A,B,E,n,bt⟩:=i;unfold AV;simp only at HROW HCAN h ⊢;cases ho:(op==1)
  ·have ho':(op != 1)=true:=by simpa using ho
   cases hz:(bt==0)
   ·have hz':(bt != 0)=true:=by simpa using hz
    clear h;go_enter func87,ntmps87;go_wp2_with(go_at_call 63;refine(HROW.out _).mono ?_;rintro e w1 ⟨rfl,rfl⟩);go_ret;exact TZ
   ·rw[ho,hz,Bool.false_or,Bool.true_and]at h;rw[h]at HCAN;have hz':(bt != 0)=false:=by simpa using hz
    exact Zcy
  ·rw[ho,Bool.true_or,Bool.true_and]at h;rw[h]at HCAN;have ho':(op != 1)=false:=by simpa using ho
   exact Zcy
structure TW(w:World)(v0 v1 v2 v3:Value)(J:Nat)(op D A B E n bt:Int)(v:World):Prop where
 bel:Below w.heap.size w v
 c0:v.cell? ⟨w.heap.size,0,none⟩=some v0
 c1:v.cell? ⟨w.heap.size,1,none⟩=some v1
 c2:v.cell? ⟨w.heap.size,2,none⟩=some v2
 c3:v.cell? ⟨w.heap.size,3,none⟩=some v3
 i0:v.cell? ⟨J,0,none⟩=some (.int .i64 op)
 i1:v.cell? ⟨J,1,none⟩=some (.int .i64 D)
 i2:v.cell? ⟨J,2,none⟩=some (.int .i64 A)
 i3:v.cell? ⟨J,3,none⟩=some (.int .i64 B)
 i4:v.cell? ⟨J,4,none⟩=some (.int .i64 E)
 i5:v.cell? ⟨J,5,none⟩=some (.int .i64 n)
 i6:v.cell? ⟨J,6,none⟩=some (.int .u32 bt)
theorem TW.next{w:World}{v0 v1 v2 v3:Value}{J:Nat}{op D A B E n bt:Int}{v v':World}(h:TW w v0 v1 v2 v3 J op D A B E n bt v)(k:Below v.heap.size v v'):TW w v0 v1 v2 v3 J op D A B E n bt v':=
 ⟨Go.Proofs.YtcdpmgldkibfiaaGreat.bel h.bel k,kc k h.c0,kc k h.c1,kc k h.c2,kc k h.c3,kc k h.i0,kc k h.i1,kc k h.i2,kc k h.i3,kc k h.i4,kc k h.i5,kc k h.i6⟩
theorem TW.keep{w:World}{v0 v1 v2 v3:Value}{J:Nat}{op D A B E n bt:Int}{v:World}(h:TW w v0 v1 v2 v3 J op D A B E n bt v){g o:Nat}(x:Value)(h1:w.heap.size<g)(h2:g≠J):TW w v0 v1 v2 v3 J op D A B E n bt (v.setCell ⟨g,o,none⟩ x):=by
 have f1:∀j,(v.setCell ⟨g,o,none⟩ x).cell? ⟨w.heap.size,j,none⟩=v.cell? ⟨w.heap.size,j,none⟩:=fun j=>World.cell?_of_block (Below.heap_setCell _ _ _ _ (by show w.heap.size≠g;omega));have f2:∀j,(v.setCell ⟨g,o,none⟩ x).cell? ⟨J,j,none⟩=v.cell? ⟨J,j,none⟩:=fun j=>World.cell?_of_block (Below.heap_setCell _ _ _ _ (by show J≠g;omega));exact⟨h.bel.setCell Zhl _,(f1 0).trans h.c0,(f1 1).trans h.c1,(f1 2).trans h.c2,(f1 3).trans h.c3,(f2 0).trans h.i0,(f2 1).trans h.i1,(f2 2).trans h.i2,(f2 3).trans h.i3,(f2 4).trans h.i4,(f2 5).trans h.i5,(f2 6).trans h.i6⟩
theorem TW.start(w:World)(v0 v1 v2 v3:Value)(op D A B E n bt:Int):TW w v0 v1 v2 v3 (w.heap.size+1) op D A B E n bt ((w.alloc (.cells #[v0,v1,v2,v3] 27)).alloc (.cells #[.int .i64 op,.int .i64 D,.int .i64 A,.int .i64 B,.int .i64 E,.int .i64 n,.int .u32 bt] 44)):=by
 have k:=A0 (w.alloc (.cells #[v0,v1,v2,v3] 27)) (.cells #[.int .i64 op,.int .i64 D,.int .i64 A,.int .i64 B,.int .i64 E,.int .i64 n,.int .u32 bt] 44);exact⟨Go.Proofs.YtcdpmgldkibfiaaGreat.bel (A0 _ _) k,kc k sG,kc k sG,kc k sG,kc k sG,sG,sG,sG,sG,sG,sG,sG⟩
theorem CK{n:Nat}{w v:World}(h:Below n w v):Below n w v.drew:=h.drew

end Go.Proofs.YtcdpmgldkibfiaaGreat
