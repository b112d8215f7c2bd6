import Derived.Test.YtcdpmgldkibfiaaGreatMns10
import Derived.Test.YtcdpmgldkibfiaaGreatMns1
namespace Go.Proofs.YtcdpmgldkibfiaaGreat
open Go.RowKit Go.Proofs.Tryz
set_option linter.all false
set_option maxRecDepth 100000
set_option maxHeartbeats 16000000
theorem Lg(v0 v1 v2 v3:Value)(c:Cd)(hk:B8 c)(n p:Int)(hp:n=1->Aq p c.sign.length=true)(w:World)(hv:Cs w v0 v1 v2 v3 c):
 Calls prog 117 #[.agg #[v0,v1,v2,v3],.int .i64 n,.int .i64 p] w fun e w'=>e=.returned (.bool (n==0||(n==1&&Cz c.sign p==2)))/\Below w.heap.size w w':=by
 have HB:=hk.signL;by_cases h0:n=0
 ·subst h0;clear hp hv;go_enter func117,ntmps117;go_wp2;go_ret;exact⟨rfl,A0 _ _⟩
 ·have h0':(n==0)=false:=by simpa using h0
  by_cases h1:n=1
  ·subst h1;obtain⟨k,rfl,hkl⟩:=De (hp rfl);have hr:=hv.sign;obtain⟨p,q,rfl,hrr⟩:=hv.sign;obtain⟨lb,lo,rfl,hc⟩:=hr.at hkl;have e:Cz c.sign (k:Int)=c.sign[k].kind:=by unfold Cz;rw[Int.toNat_natCast,List.getElem?_eq_getElem hkl];rfl
   rw[e];obtain⟨⟨nm,K,L⟩,ht⟩:∃t:Cb,c.sign[k]=t:=⟨_,rfl⟩
   rw[ht]at hc ⊢;have y1:w.cell? ⟨lb,lo+k*3+1,none⟩=some (.int .i64 K):=hc.at 1 rfl;have g1:∀o,(w.alloc o).cell? ⟨lb,lo+k*3+1,none⟩=some (.int .i64 K):=fun o=>kc (A0 _ _) y1;obtain⟨N,hN⟩:∃N,c.sign.length=N:=⟨_,rfl⟩
   rw[hN]at hkl HB ⊢;clear hr hrr hc ht e hp hv hN h0 hk;simp only;go_enter func117,ntmps117;go_wp2;go_ret;exact⟨A8 sM,A0 _ _⟩
  ·have h1':(n==1)=false:=by simpa using h1
   rw[h0',h1'];clear hp hv h0 h1;go_enter func117,ntmps117;go_wp2;go_ret;exact⟨rfl,A0 _ _⟩
def Fo(i:Af):Int:=if Bg i.op||(i.op==29||(i.op==30||i.op==32))then i.d else if i.op==31||i.op==33 then i.a else -1
def Gd(rs:List Ty)(n:Int):Int:=if Aq n rs.length&&(A7 rs n).kind==3 then(A7 rs n).par else -1
theorem Nq(v0 v1 v2 v3:Value)(c:Cd)(hk:B8 c)(i:Af)(w:World)(hv:Cs w v0 v1 v2 v3 c):
 Calls prog 88 #[.agg #[v0,v1,v2,v3],AY i] w fun e w'=>e=.returned (.int .i64 (Gd c.regs (Fo i)))/\Below w.heap.size w w':=by
 have HB:=hk.regsL;have KE:Hid (∀v,Calls prog 118 #[.int .i64 i.op] v fun e w'=>e=.returned (.bool (Bg i.op))/\w'=v):=Rz i.op;have hr:=hv.regs;obtain⟨p,q,rfl,hrr⟩:=hv.regs;clear hv hk hrr;obtain⟨op,D,A,B,E,nn,bb⟩:=i;unfold AY;simp only at KE ⊢;have key:∀n:Int,(Aq n c.regs.length=false/\Gd c.regs n= -1)\/∃ (k:Nat) (lb lo:Nat) (K P:Int),n=(k:Int)/\k<c.regs.length/\p=some ⟨lb,lo,none⟩/\w.cell? ⟨lb,lo+k*2,none⟩=some (.int .i64 K)/\w.cell? ⟨lb,lo+k*2+1,none⟩=some (.int .i64 P)/\Gd c.regs n=if K==3 then P else -1:=by
  intro n;cases h:Aq n c.regs.length
  ·exact .inl ⟨rfl,by unfold Gd;rw[h];rfl⟩
  ·obtain⟨k,rfl,hkl⟩:=De h;obtain⟨lb,lo,hp,hc⟩:=hr.at hkl;refine .inr ⟨k,lb,lo,c.regs[k].kind,c.regs[k].par,rfl,hkl,hp,hc.at 0 rfl,hc.at 1 rfl,?_⟩;unfold Gd;rw[h,F6 rfl hkl,Bool.true_and]
 obtain⟨N,hN⟩:∃N,c.regs.length=N:=⟨_,rfl⟩
 rw[hN]at HB key ⊢;clear hr;cases hX:Bg op
 ·rw[hX]at KE;by_cases a29:op=29
  ·subst a29;rw[show Fo ⟨29,D,A,B,E,nn,bb⟩=D from rfl];rcases key D with⟨hpl,e9⟩|⟨k,lb,lo,K,P,rfl,hkl,rfl,y0,y1,e9⟩
   ·rw[e9];clear key e9;by_cases h0:D<0
    ·exact Ik
    ·have h1:(N:Int)<=D:=by unfold Aq at hpl;simp at hpl;omega
     exact Ik
   ·rw[e9];clear key e9;have g0:∀o o',((w.alloc o).alloc o').cell? ⟨lb,lo+k*2,none⟩=some (.int .i64 K):=fun o o'=>kc (bel (A0 _ _) (A0 _ _)) y0;have g1:∀o o',((w.alloc o).alloc o').cell? ⟨lb,lo+k*2+1,none⟩=some (.int .i64 P):=fun o o'=>kc (bel (A0 _ _) (A0 _ _)) y1;by_cases h3:K=3
    ·subst h3;exact Ik
    ·have h3':(K==3)=false:=by simpa using h3
     have h3b:(K != 3)=true:=by simpa using h3
     rw[h3'];clear h3;exact Ik
  by_cases a30:op=30
  ·subst a30;rw[show Fo ⟨30,D,A,B,E,nn,bb⟩=D from rfl];rcases key D with⟨hpl,e9⟩|⟨k,lb,lo,K,P,rfl,hkl,rfl,y0,y1,e9⟩
   ·rw[e9];clear key e9;by_cases h0:D<0
    ·exact Ik
    ·have h1:(N:Int)<=D:=by unfold Aq at hpl;simp at hpl;omega
     exact Ik
   ·rw[e9];clear key e9;have g0:∀o o',((w.alloc o).alloc o').cell? ⟨lb,lo+k*2,none⟩=some (.int .i64 K):=fun o o'=>kc (bel (A0 _ _) (A0 _ _)) y0;have g1:∀o o',((w.alloc o).alloc o').cell? ⟨lb,lo+k*2+1,none⟩=some (.int .i64 P):=fun o o'=>kc (bel (A0 _ _) (A0 _ _)) y1;by_cases h3:K=3
    ·subst h3;exact Ik
    ·have h3':(K==3)=false:=by simpa using h3
     have h3b:(K != 3)=true:=by simpa using h3
     rw[h3'];clear h3;exact Ik
  by_cases a32:op=32
  ·subst a32;rw[show Fo ⟨32,D,A,B,E,nn,bb⟩=D from rfl];rcases key D with⟨hpl,e9⟩|⟨k,lb,lo,K,P,rfl,hkl,rfl,y0,y1,e9⟩
   ·rw[e9];clear key e9;by_cases h0:D<0
    ·exact Ik
    ·have h1:(N:Int)<=D:=by unfold Aq at hpl;simp at hpl;omega
     exact Ik
   ·rw[e9];clear key e9;have g0:∀o o',((w.alloc o).alloc o').cell? ⟨lb,lo+k*2,none⟩=some (.int .i64 K):=fun o o'=>kc (bel (A0 _ _) (A0 _ _)) y0;have g1:∀o o',((w.alloc o).alloc o').cell? ⟨lb,lo+k*2+1,none⟩=some (.int .i64 P):=fun o o'=>kc (bel (A0 _ _) (A0 _ _)) y1;by_cases h3:K=3
    ·subst h3;exact Ik
    ·have h3':(K==3)=false:=by simpa using h3
     have h3b:(K != 3)=true:=by simpa using h3
     rw[h3'];clear h3;exact Ik
  by_cases a31:op=31
  ·subst a31;rw[show Fo ⟨31,D,A,B,E,nn,bb⟩=A from rfl];rcases key A with⟨hpl,e9⟩|⟨k,lb,lo,K,P,rfl,hkl,rfl,y0,y1,e9⟩
   ·rw[e9];clear key e9;by_cases h0:A<0
    ·exact Ik
    ·have h1:(N:Int)<=A:=by unfold Aq at hpl;simp at hpl;omega
     exact Ik
   ·rw[e9];clear key e9;have g0:∀o o',((w.alloc o).alloc o').cell? ⟨lb,lo+k*2,none⟩=some (.int .i64 K):=fun o o'=>kc (bel (A0 _ _) (A0 _ _)) y0;have g1:∀o o',((w.alloc o).alloc o').cell? ⟨lb,lo+k*2+1,none⟩=some (.int .i64 P):=fun o o'=>kc (bel (A0 _ _) (A0 _ _)) y1;by_cases h3:K=3
    ·subst h3;exact Ik
    ·have h3':(K==3)=false:=by simpa using h3
     have h3b:(K != 3)=true:=by simpa using h3
     rw[h3'];clear h3;exact Ik
  by_cases a33:op=33
  ·subst a33;rw[show Fo ⟨33,D,A,B,E,nn,bb⟩=A from rfl];rcases key A with⟨hpl,e9⟩|⟨k,lb,lo,K,P,rfl,hkl,rfl,y0,y1,e9⟩
   ·rw[e9];clear key e9;by_cases h0:A<0
    ·exact Ik
    ·have h1:(N:Int)<=A:=by unfold Aq at hpl;simp at hpl;omega
     exact Ik
   ·rw[e9];clear key e9;have g0:∀o o',((w.alloc o).alloc o').cell? ⟨lb,lo+k*2,none⟩=some (.int .i64 K):=fun o o'=>kc (bel (A0 _ _) (A0 _ _)) y0;have g1:∀o o',((w.alloc o).alloc o').cell? ⟨lb,lo+k*2+1,none⟩=some (.int .i64 P):=fun o o'=>kc (bel (A0 _ _) (A0 _ _)) y1;by_cases h3:K=3
    ·subst h3;exact Ik
    ·have h3':(K==3)=false:=by simpa using h3
     have h3b:(K != 3)=true:=by simpa using h3
     rw[h3'];clear h3;exact Ik
  ·have b29:(op==29)=false:=by simpa using a29
   have b30:(op==30)=false:=by simpa using a30
   have b31:(op==31)=false:=by simpa using a31
   have b32:(op==32)=false:=by simpa using a32
   have b33:(op==33)=false:=by simpa using a33
   rw[show Fo ⟨op,D,A,B,E,nn,bb⟩= -1 by unfold Fo;simp[hX,b29,b30,b31,b32,b33]];rw[show Gd c.regs (-1)= -1 by unfold Gd Aq;simp];clear key a29 a30 a31 a32 a33;exact Ik
 ·rw[hX]at KE;rw[show Fo ⟨op,D,A,B,E,nn,bb⟩=D by unfold Fo;simp[hX]];rcases key D with⟨hpl,e9⟩|⟨k,lb,lo,K,P,rfl,hkl,rfl,y0,y1,e9⟩
  ·rw[e9];clear key e9;by_cases h0:D<0
   ·exact Ik
   ·have h1:(N:Int)<=D:=by unfold Aq at hpl;simp at hpl;omega
    exact Ik
  ·rw[e9];clear key e9;have g0:∀o o',((w.alloc o).alloc o').cell? ⟨lb,lo+k*2,none⟩=some (.int .i64 K):=fun o o'=>kc (bel (A0 _ _) (A0 _ _)) y0;have g1:∀o o',((w.alloc o).alloc o').cell? ⟨lb,lo+k*2+1,none⟩=some (.int .i64 P):=fun o o'=>kc (bel (A0 _ _) (A0 _ _)) y1;by_cases h3:K=3
   ·subst h3;exact Ik
   ·have h3':(K==3)=false:=by simpa using h3
    have h3b:(K != 3)=true:=by simpa using h3
    rw[h3'];clear h3;exact Ik
structure Lt where
 a:Int
 b:Int
 c:Int
 d:Int
 e:Int
def Dx(op:Int):Lt:=
 if op=1 then⟨110,45,45,45,45⟩
 else if op=2 then⟨119,45,45,45,105⟩
 else if op=3 then⟨97,99,45,45,45⟩
 else if 4<=op/\op<=10 then⟨100,120,120,45,45⟩
 else if 11<=op/\op<=14 then⟨100,120,45,45,45⟩
 else if op=15 then⟨100,120,120,120,45⟩
 else if op=16 then⟨110,110,119,45,45⟩
 else if op=17 then⟨110,119,45,45,45⟩
 else if op=18 then⟨119,110,45,45,45⟩
 else if 19<=op/\op<=20 then⟨110,118,45,45,45⟩
 else if op=21\/op=25 then⟨119,119,45,45,45⟩
 else if op=26 then⟨119,119,119,119,45⟩
 else if 22<=op/\op<=28 then⟨119,119,119,45,45⟩
 else if 29<=op/\op<=30 then⟨118,45,45,45,112⟩
 else if op=31 then⟨45,118,45,45,112⟩
 else if op=32 then⟨97,45,45,45,115⟩
 else if op=33 then⟨45,97,45,45,115⟩
 else if op=34 then⟨45,119,45,45,45⟩
 else if op=36 then⟨45,45,45,45,113⟩
 else⟨45,45,45,45,45⟩
def dR(rs:List Ty)(l D:Int):Ty:=if l=45 then⟨0,0⟩else A7 rs D
def tR(rs:List Ty)(l0 l1 D A:Int):Ty:=if l0=45/\l1≠45 then A7 rs A else dR rs l0 D
def D8(c:Cd)(l n:Int)(t:Ty):Bool:=
 if l=105 then CS n
 else if l=112 then n==0||(n==1&&Cz c.sign t.par==2)
 else if l=115 then Aq n c.slots.length&&decide (CI c.slots n=t)
 else if l=113 then Aq n c.sign.length
 else n==0
def Ef(c:Cd)(i:Af)(L:Lt):Bool:=
 (i.op==1||i.bits==0)&&(Cp i.bits&&(Am c.regs L.a i.d ⟨0,0⟩&&(Am c.regs L.b i.a (dR c.regs L.a i.d)&&(Am c.regs L.c i.b (dR c.regs L.a i.d)&&(Am c.regs L.d i.c (dR c.regs L.a i.d)&&D8 c L.e i.n (tR c.regs L.a L.b i.d i.a))))))
theorem PH{c:Cd}(h:Ap c=true){n:Int}(hp:Aq n c.regs.length=true):Ax (A7 c.regs n) c.sign.length=true:=by
 obtain⟨k,rfl,hk⟩:=De hp;rw[F6 rfl hk];unfold Ap at h;exact List.all_eq_true.1 h _ (List.getElem_mem hk)
theorem PI{c:Cd}(h:Ap c=true){n:Int}(hp:Aq n c.regs.length=true)(hk:(A7 c.regs n).kind=1):(A7 c.regs n).par=0:=by
 have:=PH h hp;unfold Ax at this;rw[if_pos (.inl hk)]at this;simpa using this
theorem x_eq{c:Cd}(h:Ap c=true){n m:Int}(hn:Aq n c.regs.length=true)(hm:Aq m c.regs.length=true)(hk:((A7 c.regs m).kind==1||(A7 c.regs m).kind==3)=true):
 ((A7 c.regs n).kind==1||decide (A7 c.regs n=A7 c.regs m))=(decide (A7 c.regs n=A7 c.regs m)||((A7 c.regs n).kind==1&&(A7 c.regs m).kind==3)):=by
 have h1:=PI h hn;have h2:=PI h hm;generalize A7 c.regs n=t at *;generalize A7 c.regs m=d at *;obtain⟨K,P⟩:=t;obtain⟨A,B⟩:=d;simp only at h1 h2 hk ⊢;rw[Bool.eq_iff_iff];simp only[Bool.or_eq_true,beq_iff_eq,decide_eq_true_eq,Bool.and_eq_true,Ty.mk.injEq]at hk ⊢;constructor
 ·rintro(e|e)
  ·rcases hk with k|k
   ·exact .inl ⟨oM,by rw[h1 e,h2 k]⟩
   ·exact .inr ⟨e,k⟩
  ·exact .inl e
 ·rintro(e|e)
  ·exact .inr e
  ·exact .inl e.1
theorem told0:Cp 0=true:=dE
theorem EN(rs:List Ty)(n:Int)(d:Ty):Am rs 45 n d=(n==0):=if_pos rfl
theorem EY(rs:List Ty)(n:Int)(d:Ty):Ad rs 0 n d=(n==0):=if_pos rfl
theorem BO{l:Int}(h:l≠0)(rs:List Ty)(n:Int)(d:Ty):Ad rs l n d=(Aq n rs.length&&B3 l (A7 rs n) d):=if_neg h
theorem BG{l:Int}(h:l≠45)(rs:List Ty)(n:Int)(d:Ty):Am rs l n d=(Aq n rs.length&&Gb l (A7 rs n) d):=if_neg h
theorem Hf(rs:List Ty)(n:Int)(d m:Ty):Am rs 110 n d=Ad rs 1 n m:=by rw[BG dE,BO dE];rfl
theorem CP(rs:List Ty)(n:Int)(d m:Ty):Am rs 119 n d=Ad rs 2 n m:=by rw[BG dE,BO dE];rfl
theorem OG(rs:List Ty)(n:Int)(d m:Ty):Am rs 118 n d=Ad rs 3 n m:=by rw[BG dE,BO dE];rfl
theorem OF(rs:List Ty)(n:Int)(d m:Ty):Am rs 100 n d=Ad rs 4 n m:=by rw[BG dE,BO dE];rfl
theorem As(rs:List Ty)(n:Int)(d m:Ty):Am rs 45 n d=Ad rs 0 n m:=by rw[EN,EY]
theorem OE(rs:List Ty)(n:Int)(d:Ty):Am rs 97 n d=Ad rs 6 n (A7 rs n):=by rw[BG dE,BO dE];simp[Gb,B3]
theorem YU(rs:List Ty)(n:Int)(d:Ty):Am rs 99 n d=Ad rs 5 n d:=by rw[BG dE,BO dE];simp[Gb,B3]
theorem YV{c:Cd}(h:Ap c=true)(n:Int){m:Int}(hd:Ad c.regs 4 m (A7 c.regs m)=true):Am c.regs 120 n (A7 c.regs m)=Ad c.regs 5 n (A7 c.regs m):=by
 rw[BG dE,BO dE];rw[BO dE]at hd;simp only[Bool.and_eq_true]at hd;cases hn:Aq n c.regs.length
 ·rfl
 ·rw[Bool.true_and,Bool.true_and];exact x_eq h hn hd.1 hd.2
theorem B6{c:Cd}{i:Af}{L:Lt}{R:Rw}(h1:i.op≠1)(h7:R.n≠7)(ha:Am c.regs L.a i.d ⟨0,0⟩=Ad c.regs R.d i.d (Ay c.regs i R))
 (hb:Ad c.regs R.d i.d (Ay c.regs i R)=true->Am c.regs L.b i.a (dR c.regs L.a i.d)=Ad c.regs R.a i.a (Ay c.regs i R))
 (hc:Ad c.regs R.d i.d (Ay c.regs i R)=true->Am c.regs L.c i.b (dR c.regs L.a i.d)=Ad c.regs R.b i.b (Ay c.regs i R))
 (hd:Ad c.regs R.d i.d (Ay c.regs i R)=true->Am c.regs L.d i.c (dR c.regs L.a i.d)=Ad c.regs R.c i.c (Ay c.regs i R))
 (he:D8 c L.e i.n (tR c.regs L.a L.b i.d i.a)=Fu c i.n R.n (Ay c.regs i R)):Ef c i L=AJ c i R:=by
 unfold Ef AJ Bc;rw[if_neg h7,ha,he];have:(i.op==1)=false:=by simpa using h1
 rw[this,Bool.false_or];cases hX:Ad c.regs R.d i.d (Ay c.regs i R)
 ·simp
 ·rw[hb hX,hc hX,hd hX];cases hb:(i.bits==0)
  ·simp
  ·have:i.bits=0:=by simpa using hb
   rw[this,told0];simp
theorem MD{c:Cd}(h:Ap c=true)(i:Af):Ef c i (Dx i.op)=AJ c i (A4 i.op):=by
 have x:=fun n=>@YV c h n i.d;by_cases h1:i.op=1
 ·have e1:Dx i.op=⟨110,45,45,45,45⟩:=by rw[h1];rfl
  have e2:A4 i.op=⟨1,0,0,0,7⟩:=by rw[h1];rfl
  rw[e1,e2];unfold Ef AJ Bc;simp only;rw[h1,Hf _ _ _ (Ay c.regs i ⟨1,0,0,0,7⟩),EN,EN,EN,EY,EY,EY];rw[show D8 c 45 i.n (tR c.regs 110 45 i.d i.a)=(i.n==0)from rfl];generalize Ad c.regs 1 i.d _=A1;cases A1<;>cases Cp i.bits<;>simp
 unfold Dx A4;rw[if_neg h1,if_neg h1];by_cases h2:i.op=2
 ·rw[if_pos h2,if_pos h2];exact B6 h1 dE (CP _ _ _ _) (fun _=>As _ _ _ _) (fun _=>As _ _ _ _) (fun _=>As _ _ _ _) rfl
 rw[if_neg h2,if_neg h2];by_cases h3:i.op=3
 ·rw[if_pos h3,if_pos h3];exact B6 h1 dE (OE _ _ _) (fun _=>YU _ _ _) (fun _=>As _ _ _ _) (fun _=>As _ _ _ _) rfl
 rw[if_neg h3,if_neg h3];by_cases h4:4<=i.op/\i.op<=10
 ·rw[if_pos h4,if_pos h4];exact B6 h1 dE (OF _ _ _ _) (x _) (x _) (fun _=>As _ _ _ _) rfl
 rw[if_neg h4,if_neg h4];by_cases h5:11<=i.op/\i.op<=14
 ·rw[if_pos h5,if_pos h5];exact B6 h1 dE (OF _ _ _ _) (x _) (fun _=>As _ _ _ _) (fun _=>As _ _ _ _) rfl
 rw[if_neg h5,if_neg h5];by_cases h6:i.op=15
 ·rw[if_pos h6,if_pos h6];exact B6 h1 dE (OF _ _ _ _) (x _) (x _) (x _) rfl
 rw[if_neg h6,if_neg h6];by_cases h7:i.op=16
 ·rw[if_pos h7,if_pos h7];exact B6 h1 dE (Hf _ _ _ _) (fun _=>Hf _ _ _ _) (fun _=>CP _ _ _ _) (fun _=>As _ _ _ _) rfl
 rw[if_neg h7,if_neg h7];by_cases h8:i.op=17
 ·rw[if_pos h8,if_pos h8];exact B6 h1 dE (Hf _ _ _ _) (fun _=>CP _ _ _ _) (fun _=>As _ _ _ _) (fun _=>As _ _ _ _) rfl
 rw[if_neg h8,if_neg h8];by_cases h9:i.op=18
 ·rw[if_pos h9,if_pos h9];exact B6 h1 dE (CP _ _ _ _) (fun _=>Hf _ _ _ _) (fun _=>As _ _ _ _) (fun _=>As _ _ _ _) rfl
 rw[if_neg h9,if_neg h9];by_cases h10:19<=i.op/\i.op<=20
 ·rw[if_pos h10,if_pos h10];exact B6 h1 dE (Hf _ _ _ _) (fun _=>OG _ _ _ _) (fun _=>As _ _ _ _) (fun _=>As _ _ _ _) rfl
 rw[if_neg h10,if_neg h10];by_cases h11:i.op=21\/i.op=25
 ·rw[if_pos h11,if_pos h11];exact B6 h1 dE (CP _ _ _ _) (fun _=>CP _ _ _ _) (fun _=>As _ _ _ _) (fun _=>As _ _ _ _) rfl
 rw[if_neg h11,if_neg h11];by_cases h12:i.op=26
 ·rw[if_pos h12,if_pos h12];exact B6 h1 dE (CP _ _ _ _) (fun _=>CP _ _ _ _) (fun _=>CP _ _ _ _) (fun _=>CP _ _ _ _) rfl
 rw[if_neg h12,if_neg h12];by_cases h13:22<=i.op/\i.op<=28
 ·rw[if_pos h13,if_pos h13];exact B6 h1 dE (CP _ _ _ _) (fun _=>CP _ _ _ _) (fun _=>CP _ _ _ _) (fun _=>As _ _ _ _) rfl
 rw[if_neg h13,if_neg h13];by_cases h14:29<=i.op/\i.op<=30
 ·rw[if_pos h14,if_pos h14];exact B6 h1 dE (OG _ _ _ _) (fun _=>As _ _ _ _) (fun _=>As _ _ _ _) (fun _=>As _ _ _ _) rfl
 rw[if_neg h14,if_neg h14];by_cases h15:i.op=31
 ·rw[if_pos h15,if_pos h15];exact B6 h1 dE (As _ _ _ _) (fun _=>OG _ _ _ _) (fun _=>As _ _ _ _) (fun _=>As _ _ _ _) rfl
 rw[if_neg h15,if_neg h15];by_cases h16:i.op=32
 ·rw[if_pos h16,if_pos h16];exact B6 h1 dE (OE _ _ _) (fun _=>As _ _ _ _) (fun _=>As _ _ _ _) (fun _=>As _ _ _ _) rfl
 rw[if_neg h16,if_neg h16];by_cases h17:i.op=33
 ·rw[if_pos h17,if_pos h17];exact B6 h1 dE (As _ _ _ _) (fun _=>OE _ _ _) (fun _=>As _ _ _ _) (fun _=>As _ _ _ _) rfl
 rw[if_neg h17,if_neg h17];by_cases h18:i.op=34
 ·rw[if_pos h18,if_pos h18];exact B6 h1 dE (As _ _ _ _) (fun _=>CP _ _ _ _) (fun _=>As _ _ _ _) (fun _=>As _ _ _ _) rfl
 rw[if_neg h18,if_neg h18];by_cases h19:i.op=36
 ·rw[if_pos h19,if_pos h19];exact Zev
 rw[if_neg h19,if_neg h19];exact Zev
theorem Qt(op:Int)(hk:Aj op=true):∃a b c d e:UInt8,((a.toNat:Int)=(Dx op).a/\(b.toNat:Int)=(Dx op).b/\(c.toNat:Int)=(Dx op).c/\(d.toNat:Int)=(Dx op).d/\(e.toNat:Int)=(Dx op).e)/\∀w,Calls prog 63 #[.int .i64 op] w fun x w'=>x=.returned (.tuple #[.string ⟨#[a,b,c,d,e]⟩,.bool true])/\w'=w:=by
 have hh:1<=op/\op<=37:=by unfold Aj at hk;simp at hk;omega
 clear hk;have:op=1\/op=2\/op=3\/op=4\/op=5\/op=6\/op=7\/op=8\/op=9\/op=10\/op=11\/op=12\/op=13\/op=14\/op=15\/op=16\/op=17\/op=18\/op=19\/op=20\/op=21\/op=22\/op=23\/op=24\/op=25\/op=26\/op=27\/op=28\/op=29\/op=30\/op=31\/op=32\/op=33\/op=34\/op=35\/op=36\/op=37:=oM;rcases this with rfl|rfl|rfl|rfl|rfl|rfl|rfl|rfl|rfl|rfl|rfl|rfl|rfl|rfl|rfl|rfl|rfl|rfl|rfl|rfl|rfl|rfl|rfl|rfl|rfl|rfl|rfl|rfl|rfl|rfl|rfl|rfl|rfl|rfl|rfl|rfl|rfl
 ·exact⟨_,_,_,_,_,⟨rfl,rfl,rfl,rfl,rfl⟩,fun w=>UI w⟩
 ·exact⟨_,_,_,_,_,⟨rfl,rfl,rfl,rfl,rfl⟩,fun w=>UJ w⟩
 ·exact⟨_,_,_,_,_,⟨rfl,rfl,rfl,rfl,rfl⟩,fun w=>UK w⟩
 ·exact⟨_,_,_,_,_,⟨rfl,rfl,rfl,rfl,rfl⟩,fun w=>UL w⟩
 ·exact⟨_,_,_,_,_,⟨rfl,rfl,rfl,rfl,rfl⟩,fun w=>UM w⟩
 ·exact⟨_,_,_,_,_,⟨rfl,rfl,rfl,rfl,rfl⟩,fun w=>UN w⟩
 ·exact⟨_,_,_,_,_,⟨rfl,rfl,rfl,rfl,rfl⟩,fun w=>UO w⟩
 ·exact⟨_,_,_,_,_,⟨rfl,rfl,rfl,rfl,rfl⟩,fun w=>UP w⟩
 ·exact⟨_,_,_,_,_,⟨rfl,rfl,rfl,rfl,rfl⟩,fun w=>UQ w⟩
 ·exact⟨_,_,_,_,_,⟨rfl,rfl,rfl,rfl,rfl⟩,fun w=>PY w⟩
 ·exact⟨_,_,_,_,_,⟨rfl,rfl,rfl,rfl,rfl⟩,fun w=>PZ w⟩
 ·exact⟨_,_,_,_,_,⟨rfl,rfl,rfl,rfl,rfl⟩,fun w=>Q0 w⟩
 ·exact⟨_,_,_,_,_,⟨rfl,rfl,rfl,rfl,rfl⟩,fun w=>Q4 w⟩
 ·exact⟨_,_,_,_,_,⟨rfl,rfl,rfl,rfl,rfl⟩,fun w=>Q5 w⟩
 ·exact⟨_,_,_,_,_,⟨rfl,rfl,rfl,rfl,rfl⟩,fun w=>Q6 w⟩
 ·exact⟨_,_,_,_,_,⟨rfl,rfl,rfl,rfl,rfl⟩,fun w=>Q7 w⟩
 ·exact⟨_,_,_,_,_,⟨rfl,rfl,rfl,rfl,rfl⟩,fun w=>Q8 w⟩
 ·exact⟨_,_,_,_,_,⟨rfl,rfl,rfl,rfl,rfl⟩,fun w=>Q9 w⟩
 ·exact⟨_,_,_,_,_,⟨rfl,rfl,rfl,rfl,rfl⟩,fun w=>Qa w⟩
 ·exact⟨_,_,_,_,_,⟨rfl,rfl,rfl,rfl,rfl⟩,fun w=>Qb w⟩
 ·exact⟨_,_,_,_,_,⟨rfl,rfl,rfl,rfl,rfl⟩,fun w=>Qc w⟩
 ·exact⟨_,_,_,_,_,⟨rfl,rfl,rfl,rfl,rfl⟩,fun w=>Qd w⟩
 ·exact⟨_,_,_,_,_,⟨rfl,rfl,rfl,rfl,rfl⟩,fun w=>Qe w⟩
 ·exact⟨_,_,_,_,_,⟨rfl,rfl,rfl,rfl,rfl⟩,fun w=>Qf w⟩
 ·exact⟨_,_,_,_,_,⟨rfl,rfl,rfl,rfl,rfl⟩,fun w=>Qg w⟩
 ·exact⟨_,_,_,_,_,⟨rfl,rfl,rfl,rfl,rfl⟩,fun w=>Qh w⟩
 ·exact⟨_,_,_,_,_,⟨rfl,rfl,rfl,rfl,rfl⟩,fun w=>Qi w⟩
 ·exact⟨_,_,_,_,_,⟨rfl,rfl,rfl,rfl,rfl⟩,fun w=>Qj w⟩
 ·exact⟨_,_,_,_,_,⟨rfl,rfl,rfl,rfl,rfl⟩,fun w=>Qk w⟩
 ·exact⟨_,_,_,_,_,⟨rfl,rfl,rfl,rfl,rfl⟩,fun w=>Ql w⟩
 ·exact⟨_,_,_,_,_,⟨rfl,rfl,rfl,rfl,rfl⟩,fun w=>Qm w⟩
 ·exact⟨_,_,_,_,_,⟨rfl,rfl,rfl,rfl,rfl⟩,fun w=>Qn w⟩
 ·exact⟨_,_,_,_,_,⟨rfl,rfl,rfl,rfl,rfl⟩,fun w=>Qo w⟩
 ·exact⟨_,_,_,_,_,⟨rfl,rfl,rfl,rfl,rfl⟩,fun w=>Qp w⟩
 ·exact⟨_,_,_,_,_,⟨rfl,rfl,rfl,rfl,rfl⟩,fun w=>Qq w⟩
 ·exact⟨_,_,_,_,_,⟨rfl,rfl,rfl,rfl,rfl⟩,fun w=>Qr w⟩
 ·exact⟨_,_,_,_,_,⟨rfl,rfl,rfl,rfl,rfl⟩,fun w=>Qs w⟩
def C7(b:Int):Prop:=b=45\/b=110\/b=119\/b=118\/b=100\/b=120\/b=99\/b=97
instance (b:Int):Decidable (C7 b):=by unfold C7;infer_instance
def ZW(L:Lt):Bool:=decide (C7 L.a)&&(decide (C7 L.b)&&(decide (C7 L.c)&&(decide (C7 L.d)&&(decide (L.e=45\/L.e=105\/L.e=112\/L.e=115\/L.e=113)&&decide (L.e=112->L.a=118\/(L.a=45/\L.b=118))))))
theorem X6{p:Prop}[Decidable p]{x y:Lt}(h:ZW x=true)(k:ZW y=true):ZW (if p then x else y)=true:=by
 split
 ·exact h
 ·exact k
theorem WQ(op:Int):ZW (Dx op)=true:=by
 unfold Dx
 iterate 19 refine X6 dE ?_
 decide
theorem YN(op:Int):C7 (Dx op).a/\C7 (Dx op).b/\C7 (Dx op).c/\C7 (Dx op).d/\((Dx op).e=45\/(Dx op).e=105\/(Dx op).e=112\/(Dx op).e=115\/(Dx op).e=113)/\((Dx op).e=112->(Dx op).a=118\/((Dx op).a=45/\(Dx op).b=118)):=by
 have:=WQ op;unfold ZW at this;simp only[Bool.and_eq_true,decide_eq_true_eq]at this;exact this
theorem U7(v0 v1 v2 v3:Value)(i:Af)(h0:0<=i.bits)(h1:i.bits<4294967296)(h:(Aj i.op&&((i.op==1||i.bits==0)&&Cp i.bits))=false)(w:World):
 Calls prog 87 #[.agg #[v0,v1,v2,v3],AY i] w fun e w'=>e=.returned (.bool false)/\Below w.heap.size w w':=by
 have HCAN:Hid (∀w,Calls prog 86 #[.int .u32 i.bits] w fun e w'=>e=.returned (.bool (Cp i.bits))/\Below w.heap.size w w'):=E3 i.bits h0 h1;cases hk:Aj i.op
 ·have HROW:Hid (∀w,Calls prog 63 #[.int .i64 i.op] w fun e w'=>e=.returned (.tuple #[.string ⟨#[]⟩,.bool false])/\w'=w):=Lh i.op hk;obtain⟨op,D,A,B,E,n,bt⟩:=i;unfold AY;simp only at HROW HCAN ⊢;clear h hk;go_enter func87,ntmps87;go_wp2_with(go_at_call 63;refine(HROW.out _).mono ?_;rintro e w1 ⟨rfl,rfl⟩);go_ret;exact SC
 ·obtain⟨a,b,c,d,e,-,hc⟩:=Qt i.op hk;have HROW:Hid (∀w,Calls prog 63 #[.int .i64 i.op] w fun x w'=>x=.returned (.tuple #[.string ⟨#[a,b,c,d,e]⟩,.bool true])/\w'=w):=hc;rw[hk,Bool.true_and]at h;clear hc hk;obtain⟨op,D,A,B,E,n,bt⟩:=i;unfold AY;simp only at HROW HCAN h ⊢;cases ho:(op==1)
  ·have ho':(op != 1)=true:=by simpa using ho
   cases hz:(bt==0)
   ·have hz':(bt != 0)=true:=by simpa using hz
    clear h;go_enter func87,ntmps87;go_wp2_with(go_at_call 63;refine(HROW.out _).mono ?_;rintro e w1 ⟨rfl,rfl⟩);go_ret;exact SC
   ·rw[ho,hz,Bool.false_or,Bool.true_and]at h;rw[h]at HCAN;have hz':(bt != 0)=false:=by simpa using hz
    exact Zcu
  ·rw[ho,Bool.true_or,Bool.true_and]at h;rw[h]at HCAN;have ho':(op != 1)=false:=by simpa using ho
   exact Zcu
structure TW(w:World)(v0 v1 v2 v3:Value)(J:Nat)(op D A B E n bt:Int)(v:World):Prop where
 bel:Below w.heap.size w v
 c0:v.cell? ⟨w.heap.size,0,none⟩=some v0
 c1:v.cell? ⟨w.heap.size,1,none⟩=some v1
 c2:v.cell? ⟨w.heap.size,2,none⟩=some v2
 c3:v.cell? ⟨w.heap.size,3,none⟩=some v3
 i0:v.cell? ⟨J,0,none⟩=some (.int .i64 op)
 i1:v.cell? ⟨J,1,none⟩=some (.int .i64 D)
 i2:v.cell? ⟨J,2,none⟩=some (.int .i64 A)
 i3:v.cell? ⟨J,3,none⟩=some (.int .i64 B)
 i4:v.cell? ⟨J,4,none⟩=some (.int .i64 E)
 i5:v.cell? ⟨J,5,none⟩=some (.int .i64 n)
 i6:v.cell? ⟨J,6,none⟩=some (.int .u32 bt)
theorem TW.next{w:World}{v0 v1 v2 v3:Value}{J:Nat}{op D A B E n bt:Int}{v v':World}(h:TW w v0 v1 v2 v3 J op D A B E n bt v)(k:Below v.heap.size v v'):TW w v0 v1 v2 v3 J op D A B E n bt v':=
 ⟨Go.Proofs.YtcdpmgldkibfiaaGreat.bel h.bel k,kc k h.c0,kc k h.c1,kc k h.c2,kc k h.c3,kc k h.i0,kc k h.i1,kc k h.i2,kc k h.i3,kc k h.i4,kc k h.i5,kc k h.i6⟩
theorem TW.keep{w:World}{v0 v1 v2 v3:Value}{J:Nat}{op D A B E n bt:Int}{v:World}(h:TW w v0 v1 v2 v3 J op D A B E n bt v){g o:Nat}(x:Value)(h1:w.heap.size<g)(h2:g≠J):TW w v0 v1 v2 v3 J op D A B E n bt (v.setCell ⟨g,o,none⟩ x):=by
 have f1:∀j,(v.setCell ⟨g,o,none⟩ x).cell? ⟨w.heap.size,j,none⟩=v.cell? ⟨w.heap.size,j,none⟩:=fun j=>World.cell?_of_block (Below.heap_setCell _ _ _ _ (by show w.heap.size≠g;omega));have f2:∀j,(v.setCell ⟨g,o,none⟩ x).cell? ⟨J,j,none⟩=v.cell? ⟨J,j,none⟩:=fun j=>World.cell?_of_block (Below.heap_setCell _ _ _ _ (by show J≠g;omega));exact⟨h.bel.setCell Zhb _,(f1 0).trans h.c0,(f1 1).trans h.c1,(f1 2).trans h.c2,(f1 3).trans h.c3,(f2 0).trans h.i0,(f2 1).trans h.i1,(f2 2).trans h.i2,(f2 3).trans h.i3,(f2 4).trans h.i4,(f2 5).trans h.i5,(f2 6).trans h.i6⟩
theorem TW.start(w:World)(v0 v1 v2 v3:Value)(op D A B E n bt:Int):TW w v0 v1 v2 v3 (w.heap.size+1) op D A B E n bt ((w.alloc (.cells #[v0,v1,v2,v3] 27)).alloc (.cells #[.int .i64 op,.int .i64 D,.int .i64 A,.int .i64 B,.int .i64 E,.int .i64 n,.int .u32 bt] 44)):=by
 have k:=A0 (w.alloc (.cells #[v0,v1,v2,v3] 27)) (.cells #[.int .i64 op,.int .i64 D,.int .i64 A,.int .i64 B,.int .i64 E,.int .i64 n,.int .u32 bt] 44);exact⟨Go.Proofs.YtcdpmgldkibfiaaGreat.bel (A0 _ _) k,kc k sG,kc k sG,kc k sG,kc k sG,sG,sG,sG,sG,sG,sG,sG⟩
theorem CD{n:Nat}{w v:World}(h:Below n w v):Below n w v.drew:=h.drew

end Go.Proofs.YtcdpmgldkibfiaaGreat
