import Derived.Test.YtpoklpdgpcnkgaaGreatLng9
import Derived.Test.YtpoklpdgpcnkgaaGreatLng7
import Derived.Test.YtpoklpdgpcnkgaaGreatLng10
import Derived.Shelf.Small.Bits
import Derived.Test.YtpoklpdgpcnkgaaGreatLng8
import Derived.Test.YtpoklpdgpcnkgaaGreatLng2
import Derived.Deep.OwnRows
import Derived.Test.YtpoklpdgpcnkgaaGreatLng1
namespace Go.Proofs.YtpoklpdgpcnkgaaGreat
open Go.RowKit Go.Proofs.Tryz
set_option linter.all false
set_option maxRecDepth 100000
set_option maxHeartbeats 16000000
theorem Mz(v0 v1 v2 v3:Value)(c:Cd)(hk:Bb c)(n p:Int)(hp:n=1->Az p c.sign.length=true)(w:World)(hv:Dk w v0 v1 v2 v3 c):
 Calls prog 96 #[.agg #[v0,v1,v2,v3],.int .i64 n,.int .i64 p] w fun e w'=>e=.returned (.bool (n==0||(n==1&&Do c.sign p==2)))/\Below w.heap.size w w':=by
 have HB:=hk.signL;by_cases h0:n=0
 .subst h0;clear hp hv;go_enter func96,ntmps96;go_wp2;go_ret;exact⟨rfl,A0 _ _⟩
 .have h0':(n==0)=false:=by simpa using h0
  by_cases h1:n=1
  .subst h1;obtain⟨k,rfl,hkl⟩:=E4 (hp rfl);have hr:=hv.sign;obtain⟨p,q,rfl,hrr⟩:=hv.sign;obtain⟨lb,lo,rfl,hc⟩:=hr.at hkl;have e:Do c.sign (k:Int)=c.sign[k].kind:=by unfold Do;rw[Int.toNat_natCast,gB hkl];rfl
   rw[e];obtain⟨⟨nm,K,L⟩,ht⟩:∃t:Cx,c.sign[k]=t:=⟨_,rfl⟩
   rw[ht]at hc |-;have y1:w.cell? ⟨lb,lo+k*3+1,none⟩=some (.int .i64 K):=hc.at 1 rfl;have g1:∀o,(w.alloc o).cell? ⟨lb,lo+k*3+1,none⟩=some (.int .i64 K):=fun o=>kc (A0 _ _) y1;obtain⟨N,hN⟩:=gA (c.sign.length)
   rw[hN]at hkl HB |-;clear hr hrr hc ht e hp hv hN h0 hk;simp only;go_enter func96,ntmps96;go_wp2;go_ret;exact⟨Ab sM,A0 _ _⟩
  .have h1':(n==1)=false:=by simpa using h1
   rw[h0',h1'];clear hp hv h0 h1;go_enter func96,ntmps96;go_wp2;go_ret;exact⟨rfl,A0 _ _⟩
def Et(i:Aa):Int:=if B3 i.op||(i.op==29||(i.op==30||i.op==32))then i.d else if i.op==31||i.op==33 then i.a else -1
def Fg(rs:List Ty)(n:Int):Int:=if Az n rs.length&&(A5 rs n).kind==3 then(A5 rs n).par else -1
theorem Jt(v0 v1 v2 v3:Value)(c:Cd)(hk:Bb c)(i:Aa)(w:World)(hv:Dk w v0 v1 v2 v3 c):
 Calls prog 38 #[.agg #[v0,v1,v2,v3],BV i] w fun e w'=>e=.returned (.int .i64 (Fg c.regs (Et i)))/\Below w.heap.size w w':=by
 have HB:=hk.regsL;have KE:Hid (∀v,Calls prog 54 #[.int .i64 i.op] v fun e w'=>e=.returned (.bool (B3 i.op))/\w'=v):=TZ i.op;have hr:=hv.regs;obtain⟨p,q,rfl,hrr⟩:=hv.regs;clear hv hk hrr;obtain⟨op,D,A,B,E,nn,bb⟩:=i;unfold BV;simp only at KE |-;have Bl:∀n:Int,(Az n c.regs.length=false/\Fg c.regs n= -1)\/∃ (k:Nat) (lb lo:Nat) (K P:Int),n=(k:Int)/\k<c.regs.length/\p=some ⟨lb,lo,none⟩/\w.cell? ⟨lb,lo+k*2,none⟩=some (.int .i64 K)/\w.cell? ⟨lb,lo+k*2+1,none⟩=some (.int .i64 P)/\Fg c.regs n=if K==3 then P else -1:=by
  intro n;cases h:Az n c.regs.length
  .exact .inl ⟨rfl,by unfold Fg;rw[h];rfl⟩
  .obtain⟨k,rfl,hkl⟩:=E4 h;obtain⟨lb,lo,hp,hc⟩:=hr.at hkl;refine .inr ⟨k,lb,lo,c.regs[k].kind,c.regs[k].par,rfl,hkl,hp,hc.at 0 rfl,hc.at 1 rfl,?_⟩;unfold Fg;rw[h,FY rfl hkl,Bool.true_and]
 obtain⟨N,hN⟩:=gA (c.regs.length)
 rw[hN]at HB Bl |-;clear hr;cases hX:B3 op
 .rw[hX]at KE;by_cases a29:op=29
  .subst a29;rw[show Et ⟨29,D,A,B,E,nn,bb⟩=D from rfl];rcases Bl D with⟨hpl,e9⟩|⟨k,lb,lo,K,P,rfl,hkl,rfl,y0,y1,e9⟩
   .rw[e9];clear Bl e9;by_cases h0:D<0
    .exact JA
    .have h1:(N:Int)<=D:=by unfold Az at hpl;simp at hpl;omega
     exact JA
   .rw[e9];clear Bl e9;have g0:∀o o',((w.alloc o).alloc o').cell? ⟨lb,lo+k*2,none⟩=some (.int .i64 K):=fun o o'=>kc (bel (A0 _ _) (A0 _ _)) y0;have g1:∀o o',((w.alloc o).alloc o').cell? ⟨lb,lo+k*2+1,none⟩=some (.int .i64 P):=fun o o'=>kc (bel (A0 _ _) (A0 _ _)) y1;by_cases h3:K=3
    .subst h3;exact JA
    .have h3':(K==3)=false:=by simpa using h3
     have h3b:(K != 3)=true:=by simpa using h3
     rw[h3'];clear h3;exact JA
  by_cases a30:op=30
  .subst a30;rw[show Et ⟨30,D,A,B,E,nn,bb⟩=D from rfl];rcases Bl D with⟨hpl,e9⟩|⟨k,lb,lo,K,P,rfl,hkl,rfl,y0,y1,e9⟩
   .rw[e9];clear Bl e9;by_cases h0:D<0
    .exact JA
    .have h1:(N:Int)<=D:=by unfold Az at hpl;simp at hpl;omega
     exact JA
   .rw[e9];clear Bl e9;have g0:∀o o',((w.alloc o).alloc o').cell? ⟨lb,lo+k*2,none⟩=some (.int .i64 K):=fun o o'=>kc (bel (A0 _ _) (A0 _ _)) y0;have g1:∀o o',((w.alloc o).alloc o').cell? ⟨lb,lo+k*2+1,none⟩=some (.int .i64 P):=fun o o'=>kc (bel (A0 _ _) (A0 _ _)) y1;by_cases h3:K=3
    .subst h3;exact JA
    .have h3':(K==3)=false:=by simpa using h3
     have h3b:(K != 3)=true:=by simpa using h3
     rw[h3'];clear h3;exact JA
  by_cases a32:op=32
  .subst a32;rw[show Et ⟨32,D,A,B,E,nn,bb⟩=D from rfl];rcases Bl D with⟨hpl,e9⟩|⟨k,lb,lo,K,P,rfl,hkl,rfl,y0,y1,e9⟩
   .rw[e9];clear Bl e9;by_cases h0:D<0
    .exact JA
    .have h1:(N:Int)<=D:=by unfold Az at hpl;simp at hpl;omega
     exact JA
   .rw[e9];clear Bl e9;have g0:∀o o',((w.alloc o).alloc o').cell? ⟨lb,lo+k*2,none⟩=some (.int .i64 K):=fun o o'=>kc (bel (A0 _ _) (A0 _ _)) y0;have g1:∀o o',((w.alloc o).alloc o').cell? ⟨lb,lo+k*2+1,none⟩=some (.int .i64 P):=fun o o'=>kc (bel (A0 _ _) (A0 _ _)) y1;by_cases h3:K=3
    .subst h3;exact JA
    .have h3':(K==3)=false:=by simpa using h3
     have h3b:(K != 3)=true:=by simpa using h3
     rw[h3'];clear h3;exact JA
  by_cases a31:op=31
  .subst a31;rw[show Et ⟨31,D,A,B,E,nn,bb⟩=A from rfl];rcases Bl A with⟨hpl,e9⟩|⟨k,lb,lo,K,P,rfl,hkl,rfl,y0,y1,e9⟩
   .rw[e9];clear Bl e9;by_cases h0:A<0
    .exact JA
    .have h1:(N:Int)<=A:=by unfold Az at hpl;simp at hpl;omega
     exact JA
   .rw[e9];clear Bl e9;have g0:∀o o',((w.alloc o).alloc o').cell? ⟨lb,lo+k*2,none⟩=some (.int .i64 K):=fun o o'=>kc (bel (A0 _ _) (A0 _ _)) y0;have g1:∀o o',((w.alloc o).alloc o').cell? ⟨lb,lo+k*2+1,none⟩=some (.int .i64 P):=fun o o'=>kc (bel (A0 _ _) (A0 _ _)) y1;by_cases h3:K=3
    .subst h3;exact JA
    .have h3':(K==3)=false:=by simpa using h3
     have h3b:(K != 3)=true:=by simpa using h3
     rw[h3'];clear h3;exact JA
  by_cases a33:op=33
  .subst a33;rw[show Et ⟨33,D,A,B,E,nn,bb⟩=A from rfl];rcases Bl A with⟨hpl,e9⟩|⟨k,lb,lo,K,P,rfl,hkl,rfl,y0,y1,e9⟩
   .rw[e9];clear Bl e9;by_cases h0:A<0
    .exact JA
    .have h1:(N:Int)<=A:=by unfold Az at hpl;simp at hpl;omega
     exact JA
   .rw[e9];clear Bl e9;have g0:∀o o',((w.alloc o).alloc o').cell? ⟨lb,lo+k*2,none⟩=some (.int .i64 K):=fun o o'=>kc (bel (A0 _ _) (A0 _ _)) y0;have g1:∀o o',((w.alloc o).alloc o').cell? ⟨lb,lo+k*2+1,none⟩=some (.int .i64 P):=fun o o'=>kc (bel (A0 _ _) (A0 _ _)) y1;by_cases h3:K=3
    .subst h3;exact JA
    .have h3':(K==3)=false:=by simpa using h3
     have h3b:(K != 3)=true:=by simpa using h3
     rw[h3'];clear h3;exact JA
  .have b29:(op==29)=false:=by simpa using a29
   have b30:(op==30)=false:=by simpa using a30
   have b31:(op==31)=false:=by simpa using a31
   have b32:(op==32)=false:=by simpa using a32
   have b33:(op==33)=false:=by simpa using a33
   rw[show Et ⟨op,D,A,B,E,nn,bb⟩= -1 by unfold Et;simp[hX,b29,b30,b31,b32,b33]];rw[show Fg c.regs (-1)= -1 by unfold Fg Az;simp];clear Bl a29 a30 a31 a32 a33;exact JA
 .rw[hX]at KE;rw[show Et ⟨op,D,A,B,E,nn,bb⟩=D by unfold Et;simp[hX]];rcases Bl D with⟨hpl,e9⟩|⟨k,lb,lo,K,P,rfl,hkl,rfl,y0,y1,e9⟩
  .rw[e9];clear Bl e9;by_cases h0:D<0
   .exact JA
   .have h1:(N:Int)<=D:=by unfold Az at hpl;simp at hpl;omega
    exact JA
  .rw[e9];clear Bl e9;have g0:∀o o',((w.alloc o).alloc o').cell? ⟨lb,lo+k*2,none⟩=some (.int .i64 K):=fun o o'=>kc (bel (A0 _ _) (A0 _ _)) y0;have g1:∀o o',((w.alloc o).alloc o').cell? ⟨lb,lo+k*2+1,none⟩=some (.int .i64 P):=fun o o'=>kc (bel (A0 _ _) (A0 _ _)) y1;by_cases h3:K=3
   .subst h3;exact JA
   .have h3':(K==3)=false:=by simpa using h3
    have h3b:(K != 3)=true:=by simpa using h3
    rw[h3'];clear h3;exact JA
structure Lt where
 a:Int
 b:Int
 c:Int
 d:Int
 e:Int
def Er(op:Int):Lt:=
 if op=1 then⟨110,45,45,45,45⟩
 else if op=2 then⟨119,45,45,45,105⟩
 else if op=3 then⟨97,99,45,45,45⟩
 else if 4<=op/\op<=10 then⟨100,120,120,45,45⟩
 else if 11<=op/\op<=14 then⟨100,120,45,45,45⟩
 else if op=15 then⟨100,120,120,120,45⟩
 else if op=16 then⟨110,110,119,45,45⟩
 else if op=17 then⟨110,119,45,45,45⟩
 else if op=18 then⟨119,110,45,45,45⟩
 else if 19<=op/\op<=20 then⟨110,118,45,45,45⟩
 else if op=21\/op=25 then⟨119,119,45,45,45⟩
 else if op=26 then⟨119,119,119,119,45⟩
 else if 22<=op/\op<=28 then⟨119,119,119,45,45⟩
 else if 29<=op/\op<=30 then⟨118,45,45,45,112⟩
 else if op=31 then⟨45,118,45,45,112⟩
 else if op=32 then⟨97,45,45,45,115⟩
 else if op=33 then⟨45,97,45,45,115⟩
 else if op=34 then⟨45,119,45,45,45⟩
 else if op=36 then⟨45,45,45,45,113⟩
 else⟨45,45,45,45,45⟩
def dR(rs:List Ty)(l D:Int):Ty:=if l=45 then⟨0,0⟩else A5 rs D
def tR(rs:List Ty)(l0 l1 D A:Int):Ty:=if l0=45/\l1≠45 then A5 rs A else dR rs l0 D
def DX(c:Cd)(l n:Int)(t:Ty):Bool:=
 if l=105 then E7 n
 else if l=112 then n==0||(n==1&&Do c.sign t.par==2)
 else if l=115 then Az n c.slots.length&&decide (Df c.slots n=t)
 else if l=113 then Az n c.sign.length
 else n==0
def F0(c:Cd)(i:Aa)(L:Lt):Bool:=
 (i.op==1||i.bits==0)&&(Da i.bits&&(Ay c.regs L.a i.d ⟨0,0⟩&&(Ay c.regs L.b i.a (dR c.regs L.a i.d)&&(Ay c.regs L.c i.b (dR c.regs L.a i.d)&&(Ay c.regs L.d i.c (dR c.regs L.a i.d)&&DX c L.e i.n (tR c.regs L.a L.b i.d i.a))))))
theorem RJ{c:Cd}(h:Aj c=true){n:Int}(hp:Az n c.regs.length=true):AE (A5 c.regs n) c.sign.length=true:=by
 obtain⟨k,rfl,hk⟩:=E4 hp;rw[FY rfl hk];unfold Aj at h;exact List.all_eq_true.1 h _ (gD hk)
theorem RK{c:Cd}(h:Aj c=true){n:Int}(hp:Az n c.regs.length=true)(hk:(A5 c.regs n).kind=1):(A5 c.regs n).par=0:=by
 have:=RJ h hp;unfold AE at this;rw[if_pos (.inl hk)]at this;simpa using this
theorem x_eq{c:Cd}(h:Aj c=true){n m:Int}(hn:Az n c.regs.length=true)(hm:Az m c.regs.length=true)(hk:((A5 c.regs m).kind==1||(A5 c.regs m).kind==3)=true):
 ((A5 c.regs n).kind==1||decide (A5 c.regs n=A5 c.regs m))=(decide (A5 c.regs n=A5 c.regs m)||((A5 c.regs n).kind==1&&(A5 c.regs m).kind==3)):=by
 have h1:=RK h hn;have h2:=RK h hm;generalize A5 c.regs n=t at *;generalize A5 c.regs m=d at *;obtain⟨K,P⟩:=t;obtain⟨A,B⟩:=d;simp only at h1 h2 hk |-;rw[Bool.eq_iff_iff];simp only[Bool.or_eq_true,beq_iff_eq,decide_eq_true_eq,Bool.and_eq_true,Ty.mk.injEq]at hk |-;constructor
 .rintro(e|e)
  .rcases hk with k|k
   .exact .inl ⟨oM,by rw[h1 e,h2 k]⟩
   .exact .inr ⟨e,k⟩
  .exact .inl e
 .rintro(e|e)
  .exact .inr e
  .exact .inl e.1
theorem told0:Da 0=true:=dE
theorem Fw(rs:List Ty)(n:Int)(d:Ty):Ay rs 45 n d=(n==0):=if_pos rfl
theorem FK(rs:List Ty)(n:Int)(d:Ty):Ai rs 0 n d=(n==0):=if_pos rfl
theorem Cq{l:Int}(h:l≠0)(rs:List Ty)(n:Int)(d:Ty):Ai rs l n d=(Az n rs.length&&B5 l (A5 rs n) d):=if_neg h
theorem Cm{l:Int}(h:l≠45)(rs:List Ty)(n:Int)(d:Ty):Ay rs l n d=(Az n rs.length&&He l (A5 rs n) d):=if_neg h
theorem IV(rs:List Ty)(n:Int)(d m:Ty):Ay rs 110 n d=Ai rs 1 n m:=by rw[Cm dE,Cq dE];rfl
theorem DI(rs:List Ty)(n:Int)(d m:Ty):Ay rs 119 n d=Ai rs 2 n m:=by rw[Cm dE,Cq dE];rfl
theorem QE(rs:List Ty)(n:Int)(d m:Ty):Ay rs 118 n d=Ai rs 3 n m:=by rw[Cm dE,Cq dE];rfl
theorem QD(rs:List Ty)(n:Int)(d m:Ty):Ay rs 100 n d=Ai rs 4 n m:=by rw[Cm dE,Cq dE];rfl
theorem AA(rs:List Ty)(n:Int)(d m:Ty):Ay rs 45 n d=Ai rs 0 n m:=by rw[Fw,FK]
theorem QC(rs:List Ty)(n:Int)(d:Ty):Ay rs 97 n d=Ai rs 6 n (A5 rs n):=by rw[Cm dE,Cq dE];simp[He,B5]
theorem oper_c(rs:List Ty)(n:Int)(d:Ty):Ay rs 99 n d=Ai rs 5 n d:=by rw[Cm dE,Cq dE];simp[He,B5]
theorem oper_x{c:Cd}(h:Aj c=true)(n:Int){m:Int}(hd:Ai c.regs 4 m (A5 c.regs m)=true):Ay c.regs 120 n (A5 c.regs m)=Ai c.regs 5 n (A5 c.regs m):=by
 rw[Cm dE,Cq dE];rw[Cq dE]at hd;simp only[Bool.and_eq_true]at hd;cases hn:Az n c.regs.length
 .rfl
 .rw[Bool.true_and,Bool.true_and];exact x_eq h hn hd.1 hd.2
theorem Bj{c:Cd}{i:Aa}{L:Lt}{R:Rw}(h1:i.op≠1)(h7:R.n≠7)(ha:Ay c.regs L.a i.d ⟨0,0⟩=Ai c.regs R.d i.d (Ak c.regs i R))
 (hb:Ai c.regs R.d i.d (Ak c.regs i R)=true->Ay c.regs L.b i.a (dR c.regs L.a i.d)=Ai c.regs R.a i.a (Ak c.regs i R))
 (hc:Ai c.regs R.d i.d (Ak c.regs i R)=true->Ay c.regs L.c i.b (dR c.regs L.a i.d)=Ai c.regs R.b i.b (Ak c.regs i R))
 (hd:Ai c.regs R.d i.d (Ak c.regs i R)=true->Ay c.regs L.d i.c (dR c.regs L.a i.d)=Ai c.regs R.c i.c (Ak c.regs i R))
 (he:DX c L.e i.n (tR c.regs L.a L.b i.d i.a)=Gd c i.n R.n (Ak c.regs i R)):F0 c i L=AN c i R:=by
 unfold F0 AN Bi;rw[if_neg h7,ha,he];have:(i.op==1)=false:=by simpa using h1
 rw[this,Bool.false_or];cases hX:Ai c.regs R.d i.d (Ak c.regs i R)
 .simp
 .rw[hb hX,hc hX,hd hX];cases hb:(i.bits==0)
  .simp
  .have:i.bits=0:=by simpa using hb
   rw[this,told0];simp
theorem Om{c:Cd}(h:Aj c=true)(i:Aa):F0 c i (Er i.op)=AN c i (A3 i.op):=by
 have x:=fun n=>@oper_x c h n i.d;by_cases h1:i.op=1
 .have e1:Er i.op=⟨110,45,45,45,45⟩:=by rw[h1];rfl
  have e2:A3 i.op=⟨1,0,0,0,7⟩:=by rw[h1];rfl
  rw[e1,e2];unfold F0 AN Bi;simp only;rw[h1,IV _ _ _ (Ak c.regs i ⟨1,0,0,0,7⟩),Fw,Fw,Fw,FK,FK,FK];rw[show DX c 45 i.n (tR c.regs 110 45 i.d i.a)=(i.n==0)from rfl];generalize Ai c.regs 1 i.d _=A1;cases A1<;>cases Da i.bits<;>simp
 unfold Er A3;rw[if_neg h1,if_neg h1];by_cases h2:i.op=2
 .rw[if_pos h2,if_pos h2];exact Bj h1 dE (DI _ _ _ _) (fun _=>AA _ _ _ _) (fun _=>AA _ _ _ _) (fun _=>AA _ _ _ _) rfl
 rw[if_neg h2,if_neg h2];by_cases h3:i.op=3
 .rw[if_pos h3,if_pos h3];exact Bj h1 dE (QC _ _ _) (fun _=>oper_c _ _ _) (fun _=>AA _ _ _ _) (fun _=>AA _ _ _ _) rfl
 rw[if_neg h3,if_neg h3];by_cases h4:4<=i.op/\i.op<=10
 .rw[if_pos h4,if_pos h4];exact Bj h1 dE (QD _ _ _ _) (x _) (x _) (fun _=>AA _ _ _ _) rfl
 rw[if_neg h4,if_neg h4];by_cases h5:11<=i.op/\i.op<=14
 .rw[if_pos h5,if_pos h5];exact Bj h1 dE (QD _ _ _ _) (x _) (fun _=>AA _ _ _ _) (fun _=>AA _ _ _ _) rfl
 rw[if_neg h5,if_neg h5];by_cases h6:i.op=15
 .rw[if_pos h6,if_pos h6];exact Bj h1 dE (QD _ _ _ _) (x _) (x _) (x _) rfl
 rw[if_neg h6,if_neg h6];by_cases h7:i.op=16
 .rw[if_pos h7,if_pos h7];exact Bj h1 dE (IV _ _ _ _) (fun _=>IV _ _ _ _) (fun _=>DI _ _ _ _) (fun _=>AA _ _ _ _) rfl
 rw[if_neg h7,if_neg h7];by_cases h8:i.op=17
 .rw[if_pos h8,if_pos h8];exact Bj h1 dE (IV _ _ _ _) (fun _=>DI _ _ _ _) (fun _=>AA _ _ _ _) (fun _=>AA _ _ _ _) rfl
 rw[if_neg h8,if_neg h8];by_cases h9:i.op=18
 .rw[if_pos h9,if_pos h9];exact Bj h1 dE (DI _ _ _ _) (fun _=>IV _ _ _ _) (fun _=>AA _ _ _ _) (fun _=>AA _ _ _ _) rfl
 rw[if_neg h9,if_neg h9];by_cases h10:19<=i.op/\i.op<=20
 .rw[if_pos h10,if_pos h10];exact Bj h1 dE (IV _ _ _ _) (fun _=>QE _ _ _ _) (fun _=>AA _ _ _ _) (fun _=>AA _ _ _ _) rfl
 rw[if_neg h10,if_neg h10];by_cases h11:i.op=21\/i.op=25
 .rw[if_pos h11,if_pos h11];exact Bj h1 dE (DI _ _ _ _) (fun _=>DI _ _ _ _) (fun _=>AA _ _ _ _) (fun _=>AA _ _ _ _) rfl
 rw[if_neg h11,if_neg h11];by_cases h12:i.op=26
 .rw[if_pos h12,if_pos h12];exact Bj h1 dE (DI _ _ _ _) (fun _=>DI _ _ _ _) (fun _=>DI _ _ _ _) (fun _=>DI _ _ _ _) rfl
 rw[if_neg h12,if_neg h12];by_cases h13:22<=i.op/\i.op<=28
 .rw[if_pos h13,if_pos h13];exact Bj h1 dE (DI _ _ _ _) (fun _=>DI _ _ _ _) (fun _=>DI _ _ _ _) (fun _=>AA _ _ _ _) rfl
 rw[if_neg h13,if_neg h13];by_cases h14:29<=i.op/\i.op<=30
 .rw[if_pos h14,if_pos h14];exact Bj h1 dE (QE _ _ _ _) (fun _=>AA _ _ _ _) (fun _=>AA _ _ _ _) (fun _=>AA _ _ _ _) rfl
 rw[if_neg h14,if_neg h14];by_cases h15:i.op=31
 .rw[if_pos h15,if_pos h15];exact Bj h1 dE (AA _ _ _ _) (fun _=>QE _ _ _ _) (fun _=>AA _ _ _ _) (fun _=>AA _ _ _ _) rfl
 rw[if_neg h15,if_neg h15];by_cases h16:i.op=32
 .rw[if_pos h16,if_pos h16];exact Bj h1 dE (QC _ _ _) (fun _=>AA _ _ _ _) (fun _=>AA _ _ _ _) (fun _=>AA _ _ _ _) rfl
 rw[if_neg h16,if_neg h16];by_cases h17:i.op=33
 .rw[if_pos h17,if_pos h17];exact Bj h1 dE (AA _ _ _ _) (fun _=>QC _ _ _) (fun _=>AA _ _ _ _) (fun _=>AA _ _ _ _) rfl
 rw[if_neg h17,if_neg h17];by_cases h18:i.op=34
 .rw[if_pos h18,if_pos h18];exact Bj h1 dE (AA _ _ _ _) (fun _=>DI _ _ _ _) (fun _=>AA _ _ _ _) (fun _=>AA _ _ _ _) rfl
 rw[if_neg h18,if_neg h18];by_cases h19:i.op=36
 .rw[if_pos h19,if_pos h19];exact Zfi
 rw[if_neg h19,if_neg h19];exact Zfi
theorem Sz(op:Int)(hk:Aq op=true):∃a b c d e:UInt8,((a.toNat:Int)=(Er op).a/\(b.toNat:Int)=(Er op).b/\(c.toNat:Int)=(Er op).c/\(d.toNat:Int)=(Er op).d/\(e.toNat:Int)=(Er op).e)/\∀w,Calls prog 53 #[.int .i64 op] w fun x w'=>x=.returned (.tuple #[.string ⟨#[a,b,c,d,e]⟩,.bool true])/\w'=w:=by
 have hh:1<=op/\op<=37:=by unfold Aq at hk;simp at hk;omega
 clear hk;have:op=1\/op=2\/op=3\/op=4\/op=5\/op=6\/op=7\/op=8\/op=9\/op=10\/op=11\/op=12\/op=13\/op=14\/op=15\/op=16\/op=17\/op=18\/op=19\/op=20\/op=21\/op=22\/op=23\/op=24\/op=25\/op=26\/op=27\/op=28\/op=29\/op=30\/op=31\/op=32\/op=33\/op=34\/op=35\/op=36\/op=37:=oM;rcases this with rfl|rfl|rfl|rfl|rfl|rfl|rfl|rfl|rfl|rfl|rfl|rfl|rfl|rfl|rfl|rfl|rfl|rfl|rfl|rfl|rfl|rfl|rfl|rfl|rfl|rfl|rfl|rfl|rfl|rfl|rfl|rfl|rfl|rfl|rfl|rfl|rfl
 .exact⟨_,_,_,_,_,⟨rfl,rfl,rfl,rfl,rfl⟩,fun w=>Xd w⟩
 .exact⟨_,_,_,_,_,⟨rfl,rfl,rfl,rfl,rfl⟩,fun w=>Xe w⟩
 .exact⟨_,_,_,_,_,⟨rfl,rfl,rfl,rfl,rfl⟩,fun w=>Xf w⟩
 .exact⟨_,_,_,_,_,⟨rfl,rfl,rfl,rfl,rfl⟩,fun w=>Xg w⟩
 .exact⟨_,_,_,_,_,⟨rfl,rfl,rfl,rfl,rfl⟩,fun w=>Xh w⟩
 .exact⟨_,_,_,_,_,⟨rfl,rfl,rfl,rfl,rfl⟩,fun w=>Xi w⟩
 .exact⟨_,_,_,_,_,⟨rfl,rfl,rfl,rfl,rfl⟩,fun w=>Xj w⟩
 .exact⟨_,_,_,_,_,⟨rfl,rfl,rfl,rfl,rfl⟩,fun w=>Xk w⟩
 .exact⟨_,_,_,_,_,⟨rfl,rfl,rfl,rfl,rfl⟩,fun w=>Xl w⟩
 .exact⟨_,_,_,_,_,⟨rfl,rfl,rfl,rfl,rfl⟩,fun w=>S4 w⟩
 .exact⟨_,_,_,_,_,⟨rfl,rfl,rfl,rfl,rfl⟩,fun w=>S6 w⟩
 .exact⟨_,_,_,_,_,⟨rfl,rfl,rfl,rfl,rfl⟩,fun w=>S7 w⟩
 .exact⟨_,_,_,_,_,⟨rfl,rfl,rfl,rfl,rfl⟩,fun w=>S8 w⟩
 .exact⟨_,_,_,_,_,⟨rfl,rfl,rfl,rfl,rfl⟩,fun w=>S9 w⟩
 .exact⟨_,_,_,_,_,⟨rfl,rfl,rfl,rfl,rfl⟩,fun w=>Sa w⟩
 .exact⟨_,_,_,_,_,⟨rfl,rfl,rfl,rfl,rfl⟩,fun w=>Sb w⟩
 .exact⟨_,_,_,_,_,⟨rfl,rfl,rfl,rfl,rfl⟩,fun w=>Sc w⟩
 .exact⟨_,_,_,_,_,⟨rfl,rfl,rfl,rfl,rfl⟩,fun w=>Sd w⟩
 .exact⟨_,_,_,_,_,⟨rfl,rfl,rfl,rfl,rfl⟩,fun w=>Se w⟩
 .exact⟨_,_,_,_,_,⟨rfl,rfl,rfl,rfl,rfl⟩,fun w=>Sf w⟩
 .exact⟨_,_,_,_,_,⟨rfl,rfl,rfl,rfl,rfl⟩,fun w=>Sg w⟩
 .exact⟨_,_,_,_,_,⟨rfl,rfl,rfl,rfl,rfl⟩,fun w=>Sh w⟩
 .exact⟨_,_,_,_,_,⟨rfl,rfl,rfl,rfl,rfl⟩,fun w=>Si w⟩
 .exact⟨_,_,_,_,_,⟨rfl,rfl,rfl,rfl,rfl⟩,fun w=>Sj w⟩
 .exact⟨_,_,_,_,_,⟨rfl,rfl,rfl,rfl,rfl⟩,fun w=>Sk w⟩
 .exact⟨_,_,_,_,_,⟨rfl,rfl,rfl,rfl,rfl⟩,fun w=>Sm w⟩
 .exact⟨_,_,_,_,_,⟨rfl,rfl,rfl,rfl,rfl⟩,fun w=>Sn w⟩
 .exact⟨_,_,_,_,_,⟨rfl,rfl,rfl,rfl,rfl⟩,fun w=>So w⟩
 .exact⟨_,_,_,_,_,⟨rfl,rfl,rfl,rfl,rfl⟩,fun w=>Sp w⟩
 .exact⟨_,_,_,_,_,⟨rfl,rfl,rfl,rfl,rfl⟩,fun w=>Sq w⟩
 .exact⟨_,_,_,_,_,⟨rfl,rfl,rfl,rfl,rfl⟩,fun w=>Sr w⟩
 .exact⟨_,_,_,_,_,⟨rfl,rfl,rfl,rfl,rfl⟩,fun w=>Ss w⟩
 .exact⟨_,_,_,_,_,⟨rfl,rfl,rfl,rfl,rfl⟩,fun w=>Su w⟩
 .exact⟨_,_,_,_,_,⟨rfl,rfl,rfl,rfl,rfl⟩,fun w=>Sv w⟩
 .exact⟨_,_,_,_,_,⟨rfl,rfl,rfl,rfl,rfl⟩,fun w=>Sw w⟩
 .exact⟨_,_,_,_,_,⟨rfl,rfl,rfl,rfl,rfl⟩,fun w=>Sx w⟩
 .exact⟨_,_,_,_,_,⟨rfl,rfl,rfl,rfl,rfl⟩,fun w=>Sy w⟩
def CA(b:Int):Prop:=b=45\/b=110\/b=119\/b=118\/b=100\/b=120\/b=99\/b=97
instance (b:Int):Decidable (CA b):=by unfold CA;infer_instance
def okL(L:Lt):Bool:=decide (CA L.a)&&(decide (CA L.b)&&(decide (CA L.c)&&(decide (CA L.d)&&(decide (L.e=45\/L.e=105\/L.e=112\/L.e=115\/L.e=113)&&decide (L.e=112->L.a=118\/(L.a=45/\L.b=118))))))
theorem Zt{p:Prop}[Decidable p]{x y:Lt}(h:okL x=true)(k:okL y=true):okL (if p then x else y)=true:=by
 split
 .exact h
 .exact k
theorem Zf(op:Int):okL (Er op)=true:=by
 unfold Er
 iterate 19 refine Zt dE ?_
 decide
theorem ltR_ok(op:Int):CA (Er op).a/\CA (Er op).b/\CA (Er op).c/\CA (Er op).d/\((Er op).e=45\/(Er op).e=105\/(Er op).e=112\/(Er op).e=115\/(Er op).e=113)/\((Er op).e=112->(Er op).a=118\/((Er op).a=45/\(Er op).b=118)):=by
 have:=Zf op;unfold okL at this;simp only[Bool.and_eq_true,decide_eq_true_eq]at this;exact this
theorem Wy(v0 v1 v2 v3:Value)(i:Aa)(h0:0<=i.bits)(h1:i.bits<4294967296)(h:(Aq i.op&&((i.op==1||i.bits==0)&&Da i.bits))=false)(w:World):
 Calls prog 71 #[.agg #[v0,v1,v2,v3],BV i] w fun e w'=>e=.returned (.bool false)/\Below w.heap.size w w':=by
 have HCAN:Hid (∀w,Calls prog 70 #[.int .u32 i.bits] w fun e w'=>e=.returned (.bool (Da i.bits))/\Below w.heap.size w w'):=EP i.bits h0 h1;cases hk:Aq i.op
 .have HROW:Hid (∀w,Calls prog 53 #[.int .i64 i.op] w fun e w'=>e=.returned (.tuple #[.string ⟨#[]⟩,.bool false])/\w'=w):=ME i.op hk;obtain⟨op,D,A,B,E,n,bt⟩:=i;unfold BV;simp only at HROW HCAN |-;clear h hk;go_enter func71,ntmps71;go_wp2_with(go_at_call 53;refine(HROW.out _).mono ?_;rintro e w1 ⟨rfl,rfl⟩);go_ret;exact V5
 .obtain⟨a,b,c,d,e,-,hc⟩:=Sz i.op hk;have HROW:Hid (∀w,Calls prog 53 #[.int .i64 i.op] w fun x w'=>x=.returned (.tuple #[.string ⟨#[a,b,c,d,e]⟩,.bool true])/\w'=w):=hc;rw[hk,Bool.true_and]at h;clear hc hk;obtain⟨op,D,A,B,E,n,bt⟩:=i;unfold BV;simp only at HROW HCAN h |-;cases ho:(op==1)
  .have ho':(op != 1)=true:=by simpa using ho
   cases hz:(bt==0)
   .have hz':(bt != 0)=true:=by simpa using hz
    clear h;go_enter func71,ntmps71;go_wp2_with(go_at_call 53;refine(HROW.out _).mono ?_;rintro e w1 ⟨rfl,rfl⟩);go_ret;exact V5
   .rw[ho,hz,Bool.false_or,Bool.true_and]at h;rw[h]at HCAN;have hz':(bt != 0)=false:=by simpa using hz
    exact Zcw
  .rw[ho,Bool.true_or,Bool.true_and]at h;rw[h]at HCAN;have ho':(op != 1)=false:=by simpa using ho
   exact Zcw
structure TW(w:World)(v0 v1 v2 v3:Value)(J:Nat)(op D A B E n bt:Int)(v:World):Prop where
 bel:Below w.heap.size w v
 c0:v.cell? ⟨w.heap.size,0,none⟩=some v0
 c1:v.cell? ⟨w.heap.size,1,none⟩=some v1
 c2:v.cell? ⟨w.heap.size,2,none⟩=some v2
 c3:v.cell? ⟨w.heap.size,3,none⟩=some v3
 i0:v.cell? ⟨J,0,none⟩=some (.int .i64 op)
 i1:v.cell? ⟨J,1,none⟩=some (.int .i64 D)
 i2:v.cell? ⟨J,2,none⟩=some (.int .i64 A)
 i3:v.cell? ⟨J,3,none⟩=some (.int .i64 B)
 i4:v.cell? ⟨J,4,none⟩=some (.int .i64 E)
 i5:v.cell? ⟨J,5,none⟩=some (.int .i64 n)
 i6:v.cell? ⟨J,6,none⟩=some (.int .u32 bt)
theorem TW.next{w:World}{v0 v1 v2 v3:Value}{J:Nat}{op D A B E n bt:Int}{v v':World}(h:TW w v0 v1 v2 v3 J op D A B E n bt v)(k:Below v.heap.size v v'):TW w v0 v1 v2 v3 J op D A B E n bt v':=
 ⟨Go.Proofs.YtpoklpdgpcnkgaaGreat.bel h.bel k,kc k h.c0,kc k h.c1,kc k h.c2,kc k h.c3,kc k h.i0,kc k h.i1,kc k h.i2,kc k h.i3,kc k h.i4,kc k h.i5,kc k h.i6⟩
theorem TW.keep{w:World}{v0 v1 v2 v3:Value}{J:Nat}{op D A B E n bt:Int}{v:World}(h:TW w v0 v1 v2 v3 J op D A B E n bt v){g o:Nat}(x:Value)(h1:w.heap.size<g)(h2:g≠J):TW w v0 v1 v2 v3 J op D A B E n bt (v.setCell ⟨g,o,none⟩ x):=by
 have f1:∀j,(v.setCell ⟨g,o,none⟩ x).cell? ⟨w.heap.size,j,none⟩=v.cell? ⟨w.heap.size,j,none⟩:=fun j=>gC (gE (by show w.heap.size≠g;omega));have f2:∀j,(v.setCell ⟨g,o,none⟩ x).cell? ⟨J,j,none⟩=v.cell? ⟨J,j,none⟩:=fun j=>gC (gE (by show J≠g;omega));exact⟨h.bel.setCell Zhq _,(f1 0).trans h.c0,(f1 1).trans h.c1,(f1 2).trans h.c2,(f1 3).trans h.c3,(f2 0).trans h.i0,(f2 1).trans h.i1,(f2 2).trans h.i2,(f2 3).trans h.i3,(f2 4).trans h.i4,(f2 5).trans h.i5,(f2 6).trans h.i6⟩
theorem TW.start(w:World)(v0 v1 v2 v3:Value)(op D A B E n bt:Int):TW w v0 v1 v2 v3 (w.heap.size+1) op D A B E n bt ((w.alloc (.cells #[v0,v1,v2,v3] 27)).alloc (.cells #[.int .i64 op,.int .i64 D,.int .i64 A,.int .i64 B,.int .i64 E,.int .i64 n,.int .u32 bt] 45)):=by
 have k:=A0 (w.alloc (.cells #[v0,v1,v2,v3] 27)) (.cells #[.int .i64 op,.int .i64 D,.int .i64 A,.int .i64 B,.int .i64 E,.int .i64 n,.int .u32 bt] 45);exact⟨Go.Proofs.YtpoklpdgpcnkgaaGreat.bel (A0 _ _) k,kc k sG,kc k sG,kc k sG,kc k sG,sG,sG,sG,sG,sG,sG,sG⟩
theorem Ds{n:Nat}{w v:World}(h:Below n w v):Below n w v.drew:=h.drew
def Pk(s:Wk)(op:Int):Bool:=if op=34\/op=36 then decide (s.opens.length<64)else if op=35 then decide (0<s.opens.length)&& !Ao s else if op=37 then Ao s else true
def OG(c:Cd)(s:Wk)(i:Aa):Bool:=Ao s&&(i.op != 37&&Fg c.regs (Et i) != BN s)
def EH(s:Wk):Prop:=∀b∈s.opens,b.loop=true->0<=b.par
theorem EH.inner{s:Wk}(h:EH s)(hl:Ao s=true):0<=BN s:=by
 obtain⟨S,O⟩:=s;cases O with
 |nil=>exact Int.le_refl _
 |cons b r=>exact h b (List.mem_cons_self ..) hl
theorem Jc{i:Aa}(h:AC i.op=false):Et i= -1:=by
 unfold AC at h;simp only[Bool.or_eq_false_iff]at h;have h1:(i.op==29)=false/\(i.op==30)=false/\(i.op==31)=false/\(i.op==32)=false/\(i.op==33)=false:=by
  have:=h.1;simp only[Bool.and_eq_false_iff,decide_eq_false_iff_not]at this;simp only[beq_eq_false_iff_ne,ne_eq];omega
 unfold Et;rw[h.2,h1.1,h1.2.1,h1.2.2.1,h1.2.2.2.1,h1.2.2.2.2];rfl
theorem UI{i:Aa}(h:AC i.op=true):Et i=CC i (A3 i.op):=by
 unfold AC B3 at h;simp only[Bool.or_eq_true,Bool.and_eq_true,decide_eq_true_eq]at h;obtain⟨op,D,A,B,E,n,bb⟩:=i;simp only at h |-;have:op=3\/op=4\/op=5\/op=6\/op=7\/op=8\/op=9\/op=10\/op=11\/op=12\/op=13\/op=14\/op=15\/op=29\/op=30\/op=31\/op=32\/op=33:=oM;rcases this with rfl|rfl|rfl|rfl|rfl|rfl|rfl|rfl|rfl|rfl|rfl|rfl|rfl|rfl|rfl|rfl|rfl|rfl<;>rfl
theorem Jd(rs:List Ty):Fg rs (-1)= -1:=by unfold Fg Az;simp
theorem vecR_eq{rs:List Ty}{n q:Int}(hq:0<=q):(Fg rs n=q)↔A5 rs n=⟨3,q⟩:=by
 unfold Fg;cases h:Az n rs.length
 .have:A5 rs n=⟨0,0⟩:=by unfold A5;rw[h];rfl
  rw[this];simp;omega
 .rw[Bool.true_and];generalize A5 rs n=t;obtain⟨K,P⟩:=t;simp only[Ty.mk.injEq];by_cases hk:K=3
  .subst hk;simp
  .have:(K==3)=false:=by simpa using hk
   rw[this];constructor
   .intro e;simp at e;omega
   .intro e;exact absurd e.1 hk
theorem Uy{c:Cd}{s:Wk}{i:Aa}(hO:EH s):Al c s i (A3 i.op)=(!OG c s i&&Pk s i.op):=by
 have hO':=hO.inner;unfold Al OG Pk;by_cases h1:i.op=34\/i.op=36
 .rw[if_pos h1,if_pos h1];have hv:Fg c.regs (Et i)= -1:=by
   rw[Jc (by rcases h1 with e|e<;>rw[e]<;>decide),Jd]
  have h37:(i.op != 37)=true:=by rcases h1 with e|e<;>rw[e]<;>decide
  rw[hv,h37];cases hl:Ao s
  .rfl
  .have:=hO' hl;have e:((-1:Int) != BN s)=true:=sO;rw[e];rfl
 .rw[if_neg h1,if_neg h1];by_cases h2:i.op=35
  .rw[if_pos h2,if_pos h2];have hv:Fg c.regs (Et i)= -1:=by rw[Jc (by rw[h2];decide),Jd]
   rw[hv,h2];have hE:(!s.opens.isEmpty)=decide (0<s.opens.length):=by cases s.opens<;>simp
   rw[hE];cases hl:Ao s
   .simp
   .have:=hO' hl;have e:((-1:Int) != BN s)=true:=sO;rw[e];simp
  .rw[if_neg h2,if_neg h2];by_cases h3:i.op=37
   .rw[if_pos h3,if_pos h3,h3];cases Ao s<;>rfl
   .rw[if_neg h3,if_neg h3];have h37:(i.op != 37)=true:=by simpa using h3
    rw[h37,Bool.true_and,Bool.and_true];cases hl:Ao s
    .rfl
    .have hq:=hO' hl;rw[Bool.not_true,Bool.false_or,Bool.true_and];cases hlp:AC i.op
     .rw[Jc hlp,Jd];have e:((-1:Int) != BN s)=true:=sO;rw[e];rfl
     .rw[UI hlp,Bool.true_and];unfold Ak;rw[Bool.eq_iff_iff,decide_eq_true_eq,<-vecR_eq hq];simp
theorem UE{c:Cd}{s:Wk}{i:Aa}(hT:Aj c=true)(hO:EH s):Am c s i=((Aq i.op&&F0 c i (Er i.op))&&(!OG c s i&&(Dc s i (A3 i.op)&&Pk s i.op))):=by
 unfold Am;rw[Om hT,Uy hO];cases Aq i.op<;>cases AN c i (A3 i.op)<;>cases OG c s i<;>cases Pk s i.op<;>simp
structure Ob where
 op:Int
 par:Int
 set:List Nat
def obR(S:List Nat)(b:Bk):Ob:=⟨if b.loop then 36 else 34,b.par,S.take b.ahead⟩
def LO(s:Wk):List Ob:=(s.opens.map (obR s.set)).reverse
theorem JQ(s:Wk):(LO s).length=s.opens.length:=by simp[LO]
theorem Ik(S:List Nat)(b:Bk)(r:List Bk):LO ⟨S,b::r⟩=(r.map (obR S)).reverse++[obR S b]:=by simp[LO]
theorem Wj{s:Wk}(h:0<s.opens.length):∃X,(LO s)[s.opens.length-1]? =some ⟨if Ao s then 36 else 34,BN s,X⟩:=by
 obtain⟨S,O⟩:=s;cases O with
 |nil=>simp at h
 |cons b r=>
  refine⟨S.take b.ahead,?_⟩;rw[Ik];simp only[List.length_cons,Nat.add_sub_cancel];rw[List.getElem?_append_right sM];simp only[List.length_reverse,List.length_map,Nat.sub_self];rfl
theorem NQ{s:Wk}{i:Aa}(h:i.op=34\/i.op=36):Ad s i=⟨s.set,⟨i.op==36,i.n,s.set.length⟩::s.opens⟩:=by
 unfold Ad CT;rw[LU Zhl];unfold BG;rw[if_pos h]
theorem NR{s:Wk}{i:Aa}(h:i.op=35\/i.op=37):Ad s i=AI s:=by
 unfold Ad CT;rw[LU Zhl];unfold BG;rw[if_neg oM,if_pos h]
theorem H5{s:Wk}{i:Aa}(h1:i.op≠34)(h2:i.op≠35)(h3:i.op≠36)(h4:i.op≠37):Ad s i=⟨JD s.set i,s.opens⟩:=by
 unfold Ad CT BG;rw[if_neg oM,if_neg oM];unfold CN JD;split<;>rfl
theorem Wl{s:Wk}{i:Aa}(h:i.op=34\/i.op=36):LO (Ad s i)=LO s++[⟨i.op,i.n,s.set⟩]:=by
 rw[NQ h,Ik];unfold LO obR;simp only[List.take_length];rcases h with h|h<;>rw[h]<;>rfl
theorem Wm{s:Wk}{i:Aa}{n:Nat}(ho:Eu n s)(h1:i.op≠34)(h2:i.op≠35)(h3:i.op≠36)(h4:i.op≠37):LO (Ad s i)=LO s:=by
 rw[H5 h1 h2 h3 h4];unfold LO;simp only;congr 1;apply List.map_congr_left;intro b hb;have:=QA ho.opens b hb;have e:(JD s.set i).take b.ahead=s.set.take b.ahead:=by
  unfold JD;split
  .rw[List.take_append_of_le_length this]
  .rfl
 unfold obR;rw[e]
theorem GX{s:Wk}{n:Nat}(ho:Eu n s)(h:0<s.opens.length):LO (AI s)=(LO s).take (s.opens.length-1):=by
 obtain⟨S,O⟩:=s;cases O with
 |nil=>simp at h
 |cons b r=>
  rw[Ik];simp only[List.length_cons,Nat.add_sub_cancel];rw[List.take_append_of_le_length sM,List.take_of_length_le sM];unfold LO AI;simp only;cases hb:b.loop
  .simp only[Bool.false_eq_true,if_false];congr 1;apply List.map_congr_left;intro a ha;have:=QA ho.opens.2 a ha;unfold obR;rw[List.take_take,Nat.min_eq_left this]
  .simp only[if_true]
theorem TC{s:Wk}(hl:Ao s=false){o:Ob}(h:(LO s)[s.opens.length-1]? =some o)(h0:0<s.opens.length):(AI s).set=o.set:=by
 obtain⟨S,O⟩:=s;cases O with
 |nil=>simp at h0
 |cons b r=>
  rw[Ik]at h;simp only[List.length_cons,Nat.add_sub_cancel]at h;rw[List.getElem?_append_right sM]at h;simp at h;subst h;have:b.loop=false:=hl;simp[AI,this,obR]
theorem Qo{s:Wk}(hl:Ao s=true):(AI s).set=s.set:=by
 obtain⟨S,O⟩:=s;cases O with
 |nil=>rfl
 |cons b r=>
  have:b.loop=true:=hl;simp[AI,this]
theorem F4(s:Wk):(AI s).opens.length=s.opens.length-1:=by
 obtain⟨S,O⟩:=s;cases O with
 |nil=>rfl
 |cons b r=>simp[AI]
theorem EH.step{c:Cd}{s:Wk}{i:Aa}(h:EH s)(t:Am c s i=true):EH (Ad s i):=by
 by_cases h1:i.op=34\/i.op=36
 .rw[NQ h1];intro b hb hl;rcases List.mem_cons.1 hb with rfl|hb
  .have h36:i.op=36:=by simpa using hl
   obtain⟨_,h2,_,_⟩:=Ar t;rw[h36]at h2;unfold AN Bi at h2;simp only[Bool.and_eq_true]at h2;have h3:=h2.2.2.2.2;rw[if_neg (show(A3 36).n≠7 by decide)]at h3;simp only[Bool.and_eq_true]at h3;have h4:Az i.n c.sign.length=true:=h3.2;exact(Bv.1 h4).1
  .exact h b hb hl
 .by_cases h2:i.op=35\/i.op=37
  .rw[NR h2];intro b hb hl;refine h b ?_ hl;unfold AI at hb;split at hb
   .rename_i e;rw[e];exact List.mem_cons_of_mem _ hb
   .exact hb
  .rw[H5 oM oM oM oM];exact h
theorem EH.start:EH ⟨[],[]⟩:=fun b hb=>by cases hb
section
open Go.RowKit Go.Shelf Go.Proofs.Tryz
end
def RE(x n:Int):Nat->Int->Int
 |0,r=>r
 |k+1,r=>RE x n k (if n/2^k%2=1 then Fq (Fq r r) x else Fq r r)
def Ic(x n:Int):Int:=if n<1 then 1065353216 else RE x n (DN n.toNat-1) (Ae x)
theorem Qf(x n:Int):∀ (k:Nat) (r:Int),0<=r->r<4294967296->0<=RE x n k r/\RE x n k r<4294967296
 |0,r,h0,h1=>⟨h0,h1⟩
 |k+1,r,h0,h1=>by
  unfold RE;split
  .exact Qf x n k _ (Ea _ _).1 (Ea _ _).2
  .exact Qf x n k _ (Ea _ _).1 (Ea _ _).2
theorem YR(x n:Int)(h0:0<=x)(h1:x<4294967296):0<=Ic x n/\Ic x n<4294967296:=by
 unfold Ic;split
 .decide
 .exact Qf x n _ _ (Fo x h0 h1).1 (Fo x h0 h1).2
theorem Yp(n:Int)(h0:0<=n)(h1:n<=9223372036854775807)(i:Nat):bits .and .i64 (n/2^i) 1=n/2^i%2:=by
 have e:n/2^i=((n.toNat/2^i:Nat):Int):=by
  rw[Int.natCast_ediv,Int.natCast_pow,Int.toNat_of_nonneg h0];rfl
 have hle:n.toNat/2^i<=n.toNat:=Nat.div_le_self ..;rw[e];generalize n.toNat/2^i=q at *;have hx:q&&& 1=q%2:=Nat.and_one_is_mod q;show IntKind.i64.wrap ((BitVec.ofInt 64 (q:Int)&&& BitVec.ofInt 64 ((1:Nat):Int)).toNat:Int)=_;rw[BitVec.toNat_and,ofInt_u64 q oM,ofInt_u64 1 dE,hx,IntKind.wrap_i64];omega
theorem Xc(x:Int)(h0:0<=x)(h1:x<4294967296)(n:Int)(n0: -9223372036854775808<=n)(n1:n<=9223372036854775807)(w:World):
 Calls prog 99 #[.int .i64 x,.int .i64 n] w fun e w'=>e=.returned (.int .i64 (Ic x n))/\Below w.heap.size w w':=by
 unfold Ic;by_cases c:n<1
 .rw[if_pos c];go_enter func99,ntmps99;go_wp2;go_ret;exact⟨rfl,LZ _⟩
 .rw[if_neg c];have hc:=Fo x h0 h1;have hc':0<=Ae x/\Ae x<4294967296:=hc;clear hc;have hB:1<=DN n.toNat/\DN n.toNat<=63:=by
   unfold DN;rw[if_neg oM];have:n.toNat.log2<63:=(Nat.log2_lt oM).2 (by have:(2:Nat)^63=9223372036854775808:=rfl;omega);omega
  generalize hBB:DN n.toNat=B at *;generalize hP:RE x n (B-1) (Ae x)=P at *;have HP:Hid (RE x n (B-1) (Ae x)=P):=hP;clear hP;go_enter func99,ntmps99;go_wp2_with(first
   |(go_at_call 94;refine(GB _ oM oM _).mono ?_;rintro e w1 ⟨rfl,hb1⟩)
   |(go_at_call 120;refine(G0 _ oM oM _).mono ?_;rintro e w' ⟨rfl,hw'⟩;obtain rfl:=hw'.symm))
  go_loopw [5,6] (fun rv pv wr=>Below w.heap.size w wr/\∃ (j:Nat) (r:Int),j<=62/\rv=.int .i64 r/\pv=.int .i64 ((j:Int)-1)/\0<=r/\r<4294967296/\RE x n j r=P) (fun _ pv _=>(intOf pv+1).toNat)
  case atStart=>exact⟨hb1,B-1,Ae x,oM,rfl,by rw[show((B-1:Nat):Int)-1=(B:Int)-2 by omega],hc'.1,hc'.2,HP.out⟩
  case round=>
   obtain⟨hbel,j,r,hj,rfl,rfl,r0,r1,hr⟩:=hrel;have HR:Hid (RE x n j r=P):=hr;clear hr;rcases Nat.eq_zero_or_pos j with hz|hz
   .subst hz;have hPr:r=P:=HR.out;subst hPr;clear HR HP;go_wp2;go_ret;exact⟨rfl,hbel⟩
   .obtain⟨i,rfl⟩:∃i,j=i+1:=⟨j-1,oM⟩
    rw[show((i+1:Nat):Int)-1=(i:Int) by omega];have hbit:=Yp n oM n1 i;have l1:=Ea r r;have l2:=Ea (Fq r r) x;by_cases cb:n/2^i%2=1
    .go_wp2_with(go_at_call 121;refine(L8 _ oM oM _ oM oM _).mono ?_;rintro e w2 ⟨rfl,hb2⟩);go_roundw
     case rel=>exact⟨by repeat(first|assumption|refine JZ ?_ (by assumption)),i,_,oM,rfl,rfl,l2.1,l2.2,by have:=HR.out;rw[RE,if_pos cb]at this;exact this⟩
     case measure=>first|(simp[intOf];done)|(simp[intOf];omega)
    .go_wp2_with(go_at_call 121;refine(L8 _ oM oM _ oM oM _).mono ?_;rintro e w2 ⟨rfl,hb2⟩);go_roundw
     case rel=>exact⟨by repeat(first|assumption|refine JZ ?_ (by assumption)),i,_,oM,rfl,rfl,l1.1,l1.2,by have:=HR.out;rw[RE,if_neg cb]at this;exact this⟩
     case measure=>first|(simp[intOf];done)|(simp[intOf];omega)
structure Hd where
 pats:List Int
 whole:Int
structure Fr where
 nums:Nat->Int
 whs:Nat->Int
 vecs:Nat->List Int
 slots:List Hd
 outs:Nat->Nat->Int
def putN{α:Type}(f:Nat->α)(k:Nat)(x:α):Nat->α:=fun j=>if j=k then x else f j
theorem B6{α:Type}(f:Nat->α)(k:Nat)(x:α):putN f k x k=x:=if_pos rfl
theorem BS{α:Type}(f:Nat->α){k j:Nat}(x:α)(h:j≠k):putN f k x j=f j:=if_neg h
theorem CF{α:Type}{Q:α->Prop}{f:Nat->α}{k:Nat}{x:α}(h:∀j,Q (f j))(hx:Q x)(j:Nat):Q (putN f k x j):=by
 unfold putN;split
 .exact hx
 .exact h j
def lenOf(c:Cd)(p:Int):Nat:=((c.sign[p.toNat]?).map fun q=>q.len.toNat).getD 0
def AP(c:Cd)(p:Int):Nat:=if Do c.sign p=2 then 2 else 1
def B0(c:Cd)(t:Ty):Nat:=if t.kind=3 then lenOf c t.par else if t.kind=1 then 1 else 0
def EZ(c:Cd)(t:Ty)(a:Int):List Int:=List.replicate (B0 c t) (Ae a)
def BC(c:Cd)(s:Sl):Hd:=⟨EZ c s.ty s.bits,s.int_⟩
def Bx(c:Cd)(f:Fr)(r:Int):Hd:=
 if(A5 c.regs r).kind=1 then⟨[f.nums r.toNat],0⟩else if(A5 c.regs r).kind=2 then⟨[],f.whs r.toNat⟩else⟨f.vecs r.toNat,0⟩
def J4(c:Cd)(f:Fr)(r:Int)(h:Hd):Fr:=
 if(A5 c.regs r).kind=1 then{f with nums:=putN f.nums r.toNat (h.pats.headD 0)}
 else if(A5 c.regs r).kind=2 then{f with whs:=putN f.whs r.toNat h.whole}
 else{f with vecs:=putN f.vecs r.toNat h.pats}
def Cy(l:List Int)(j:Nat):Int:=(l[j]?).getD 0
def EU(vs:List (List Int))(p:Nat):List Int:=(vs[p]?).getD []
def Bm(c:Cd)(vs:List (List Int))(i:Aa):List Int:=
 (List.range (lenOf c (A5 c.regs i.d).par)).map fun e=>Ae (Cy (EU vs (A5 c.regs i.d).par.toNat) (AP c (A5 c.regs i.d).par*e+i.n.toNat))
def QF(o:Nat->Nat->Int)(p k n:Nat)(l:List Int):Nat->Nat->Int:=
 fun q j=>if q=p/\j%k=n/\j/k<l.length then Cy l (j/k)else o q j
def lF(args:List (List Int))(i:Nat):Nat:=(EU args i).length
def xF(args:List (List Int))(i j:Nat):Int:=Cy (EU args i) j
def Dd(op:Int)(args:List (List Int)):List Int:=
 match Es (lF args) (args.length-1)with
 |some n=>(List.range n).map fun i=>Jo op (Gf (lF args) (xF args) args.length i 0) (Gf (lF args) (xF args) args.length i 1) (Gf (lF args) (xF args) args.length i 2)
 |none=>[]
def Bu(c:Cd)(f:Fr)(i:Aa):List (List Int):=(Ac i (A3 i.op)).map fun r=>(Bx c f r).pats
def EJ(c:Cd)(f:Fr)(i:Aa):Fr:=
 if(A5 c.regs i.d).kind=2 then{f with whs:=putN f.whs i.d.toNat (f.whs i.a.toNat)}
 else J4 c f i.d ⟨if(Dd i.op (Bu c f i)).length<B0 c (A5 c.regs i.d)then EZ c (A5 c.regs i.d) ((Dd i.op (Bu c f i)).headD 0)else Dd i.op (Bu c f i),0⟩
def Kx(f:Fr)(i:Aa):Int:=
 if i.op=16 then Ic (f.nums i.a.toNat) (f.whs i.b.toNat)else if i.op=17 then DT (f.whs i.a.toNat)
 else if i.op=19 then LI (Cy (f.vecs i.a.toNat)) (f.vecs i.a.toNat).length else if i.op=20 then Fe (Cy (f.vecs i.a.toNat)) (f.vecs i.a.toNat).length else i.bits
def C7(b:Bool):Int:=if b then 1 else 0
def Fh(f:Fr)(i:Aa):Int:=
 if i.op=18 then C7 (Nl (f.nums i.a.toNat) 1065353216 0==1065353216)
 else if i.op=21 then min (f.whs i.a.toNat) 2147483646+1
 else if i.op=22 then C7 (decide (f.whs i.a.toNat<f.whs i.b.toNat))
 else if i.op=23 then C7 (f.whs i.a.toNat==f.whs i.b.toNat)
 else if i.op=24 then C7 (f.whs i.a.toNat != 0&&f.whs i.b.toNat != 0)
 else if i.op=25 then C7 (f.whs i.a.toNat==0)
 else if i.op=26 then(if f.whs i.a.toNat=0 then f.whs i.c.toNat else f.whs i.b.toNat)
 else if i.op=27 then max (f.whs i.a.toNat-f.whs i.b.toNat) 0
 else if i.op=28 then(if f.whs i.b.toNat=0 then 0 else f.whs i.a.toNat/f.whs i.b.toNat)
 else i.n
def Dw(op:Int):Bool:=op==1||op==16||op==17||op==19||op==20
def Bq(op:Int):Bool:=op==2||op==18||(decide (21<=op)&&decide (op<=28))
def CI(c:Cd)(G P:List (List Int))(f:Fr)(i:Aa):Fr:=
 if Dw i.op then{f with nums:=putN f.nums i.d.toNat (Kx f i)}
 else if Bq i.op then{f with whs:=putN f.whs i.d.toNat (Fh f i)}
 else if i.op=29 then{f with vecs:=putN f.vecs i.d.toNat (Bm c G i)}
 else if i.op=30 then{f with vecs:=putN f.vecs i.d.toNat (Bm c P i)}
 else if i.op=31 then{f with outs:=QF f.outs (A5 c.regs i.a).par.toNat (AP c (A5 c.regs i.a).par) i.n.toNat (f.vecs i.a.toNat)}
 else if i.op=32 then J4 c f i.d ((f.slots[i.n.toNat]?).getD ⟨[],0⟩)
 else if i.op=33 then{f with slots:=f.slots.set i.n.toNat (Bx c f i.a)}
 else if 34<=i.op/\i.op<=37 then f
 else EJ c f i
def Ap(c:Cd)(G P:List (List Int))(s:Fr×Nat)(i:Aa):Fr×Nat:=
 if 0<s.2/\i.op=35 then(s.1,s.2-1)
 else if i.op=34/\(0<s.2\/s.1.whs i.a.toNat=0)then(s.1,s.2+1)
 else if s.2=0 then(CI c G P s.1 i,0)else s
def En(c:Cd)(G P:List (List Int))(s:Fr×Nat)(l:List Aa):Fr×Nat:=l.foldl (Ap c G P) s
def Co(c:Cd):List Hd:=c.slots.map (BC c)
def OL(p:Cx):Nat:=(DO p).toNat
def Gg(c:Cd)(f:Fr):List (List Int):=(List.range c.sign.length).map fun p=>(List.range ((c.sign[p]?).elim 0 OL)).map (f.outs p)
def DU(c:Cd)(G P:List (List Int)):Bool:=Cz c.sign (G.map (·.length))&&Cz c.sign (P.map (·.length))
def E1(i:Aa):Bool:=i.op==36||i.op==37
theorem IT(c:Cd)(G P:List (List Int))(s:Fr×Nat){i:Aa}(h:E1 i=true):Ap c G P s i=s:=by
 obtain⟨f,k⟩:=s;unfold E1 at h;simp only[Bool.or_eq_true,beq_iff_eq]at h;have h0:Dw i.op=false/\Bq i.op=false:=by
  unfold Dw Bq;rcases h with h|h<;>rw[h]<;>decide
 unfold Ap;have e1:¬ (0<k/\i.op=35):=oM;have e2:¬ (i.op=34/\(0<k\/f.whs i.a.toNat=0)):=oM;simp only;rw[if_neg e1,if_neg e2];split
 .rename_i hk;subst hk;unfold CI;rw[h0.1,h0.2,if_neg dE,if_neg dE,if_neg oM,if_neg oM,if_neg oM,if_neg oM,if_neg oM,if_pos oM]
 .rfl
structure Un(U:Nat->Prop)(w w':World):Prop where
 os:w'.os=w.os
 tape:w'.tape=w.tape
 output:w'.output=w.output
 size:w.heap.size<=w'.heap.size
 block:∀b,b<w.heap.size->¬U b->w'.heap[b]? =w.heap[b]?
section
variable {U T : Nat -> Prop} {w w' w'' : World}
theorem Un.refl(U:Nat->Prop)(w:World):Un U w w:=⟨rfl,rfl,rfl,gF _,fun _ _ _=>rfl⟩
theorem Un.trans(h:Un U w w')(k:Un U w' w''):Un U w w'':=
 ⟨k.os.trans h.os,k.tape.trans h.tape,k.output.trans h.output,gH h.size k.size,fun b hb hu=>(k.block b (Nat.lt_of_lt_of_le hb h.size) hu).trans (h.block b hb hu)⟩
theorem Un.of(h:Below w.heap.size w w'):Un U w w':=⟨h.os,h.tape,h.output,h.size,fun b hb _=>h.block b hb⟩
theorem Un.mono(h:Un U w w')(k:∀b,U b->T b):Un T w w':=⟨h.os,h.tape,h.output,h.size,fun b hb hu=>h.block b hb fun q=>hu (k b q)⟩
theorem Un.on(h:Un U w w')(k:Below w'.heap.size w' w''):Un U w w'':=h.trans (Un.of k)
theorem Un.below{B:Nat}(h:Un U w w')(hB:B<=w.heap.size)(k:∀b,U b->B<=b):Below B w w':=
 ⟨h.os,h.tape,h.output,h.size,fun b hb=>h.block b oM fun q=>by have:=k b q;omega⟩
theorem Un.setCell(h:Un U w w'){p:Addr}(hp:U p.block)(x:Value):Un U w (w'.setCell p x):=
 ⟨h.os,h.tape,h.output,by simpa[World.setCell]using h.size,fun b hb hu=>by
  have hne:b≠p.block:=fun e=>hu (by rw[e];exact hp)
  rw[gE (by exact hne)];exact h.block b hb hu⟩
end
def Ev{α:Type}(T:Nat->Prop)(k:Nat)(f:α->List Value)(w:World)(v:Value)(l:List α):Prop:=
 ∃p c,v=.slice p l.length c/\(l=[]\/∃b o,p=some ⟨b,o,none⟩/\¬T b/\b<w.heap.size/\∀i (h:i<l.length),Aw w b (o+i*k) (f l[i]))
section
variable {α : Type} {T U : Nat -> Prop} {k : Nat} {f : α -> List Value} {w w' : World} {v : Value} {l : List α}
theorem Ev.row(h:Ev T k f w v l):AZ k f w v l:=by
 obtain⟨p,c,hv,h⟩:=h;exact⟨p,c,hv,h.imp id fun⟨b,o,hp,_,_,h⟩=>⟨b,o,hp,h⟩⟩
theorem Ev.un(h:Ev T k f w v l)(q:Un U w w')(hu:∀b,b<w.heap.size->U b->T b):Ev T k f w' v l:=by
 obtain⟨p,c,hv,h⟩:=h;exact⟨p,c,hv,h.imp id fun⟨b,o,hp,ht,hb,h⟩=>⟨b,o,hp,ht,Nat.lt_of_lt_of_le hb q.size,fun i hi=>(h i hi).of_block (q.block b hb fun e=>ht (hu b hb e))⟩⟩
theorem Ev.below(h:Ev T k f w v l)(q:Below w.heap.size w w'):Ev T k f w' v l:=h.un (U:=fun _=>False) (Un.of q) (fun _ _ e=>e.elim)
theorem Ev.mono(h:Ev T k f w v l)(hu:∀b,b<w.heap.size->U b->T b):Ev U k f w v l:=by
 obtain⟨p,c,hv,h⟩:=h;exact⟨p,c,hv,h.imp id fun⟨b,o,hp,ht,hb,h⟩=>⟨b,o,hp,fun e=>ht (hu b hb e),hb,h⟩⟩
end
def ptC(x:Int):List Value:=[.int .u32 x]
abbrev Pt(T:Nat->Prop)(w:World)(v:Value)(l:List Int):Prop:=Ev T 1 ptC w v l
theorem Pt.reads{T:Nat->Prop}{w:World}{p:Option Addr}{n c:Nat}{l:List Int}(h:Pt T w (.slice p n c) l):n=l.length/\Bh w p n (fun j=>.int .u32 (Cy l j)):=by
 obtain⟨p',c',hv,h⟩:=h;simp only[Value.slice.injEq]at hv;obtain⟨rfl,rfl,rfl⟩:=hv;refine⟨rfl,?_⟩;rcases h with h|⟨b,o,hp,_,_,h⟩
 .exact .inl (by rw[h];rfl)
 .refine .inr ⟨b,o,hp,fun i hi=>?_⟩;have:=(h i hi).at 0 (v:=.int .u32 l[i]) rfl;rw[Nat.mul_one,Nat.add_zero]at this;rw[this];simp[Cy,gB hi]
theorem Pt.len{T:Nat->Prop}{w:World}{v:Value}{l:List Int}(h:Pt T w v l):∃p c,v=.slice p l.length c:=by
 obtain⟨p,c,hv,_⟩:=h;exact⟨p,c,hv⟩
def Gh(T:Nat->Prop)(w:World)(v:Value)(L:List (List Int)):Prop:=
 ∃p c,v=.slice p L.length c/\(L=[]\/∃b o,p=some ⟨b,o,none⟩/\¬T b/\b<w.heap.size/\∀i (h:i<L.length),∃u,w.cell? ⟨b,o+i,none⟩=some u/\Pt T w u L[i])
theorem Gh.un{T U:Nat->Prop}{w w':World}{v:Value}{L:List (List Int)}(h:Gh T w v L)(q:Un U w w')(hu:∀b,b<w.heap.size->U b->T b):Gh T w' v L:=by
 obtain⟨p,c,hv,h⟩:=h;refine⟨p,c,hv,h.imp id fun⟨b,o,hp,ht,hb,h⟩=>⟨b,o,hp,ht,Nat.lt_of_lt_of_le hb q.size,fun i hi=>?_⟩⟩;obtain⟨u,h1,h2⟩:=h i hi;exact⟨u,(gC (q.block b hb fun e=>ht (hu b hb e))).trans h1,h2.un q hu⟩
theorem Gh.below{T:Nat->Prop}{w w':World}{v:Value}{L:List (List Int)}(h:Gh T w v L)(q:Below w.heap.size w w'):Gh T w' v L:=h.un (U:=fun _=>False) (Un.of q) (fun _ _ e=>e.elim)
theorem Gh.mono{T U:Nat->Prop}{w:World}{v:Value}{L:List (List Int)}(h:Gh T w v L)(hu:∀b,b<w.heap.size->U b->T b):Gh U w v L:=by
 obtain⟨p,c,hv,h⟩:=h;refine⟨p,c,hv,h.imp id fun⟨b,o,hp,ht,hb,h⟩=>⟨b,o,hp,fun e=>ht (hu b hb e),hb,fun i hi=>?_⟩⟩;obtain⟨u,h1,h2⟩:=h i hi;exact⟨u,h1,h2.mono hu⟩
structure Lay where
 C:Nat
 S:Nat
 FR:Nat
 NB:Nat
 WB:Nat
 MB:Nat
 UB:Nat
 K:Nat
 ub:Nat->Nat
 sp:Option Addr
 sc:Nat
 v0:Value
 v1:Value
 v2:Value
 v3:Value
 gv:Value
 pv:Value

def RS(c:Cd)(p:Nat):Nat:=(c.sign[p]?).elim 0 OL
section
variable {T : Nat -> Prop} {E E' : Nat} {a : Lay} {c : Cd} {G P : List (List Int)} {w w' : World} {X : Nat -> Value} {M : Nat} {m : Nat -> Option Value} {f : Fr}
end
structure By(c:Cd):Prop where
 len:∀p∈c.sign,1<=p.len/\p.len<=4096
 kind:∀p∈c.sign,Cp p=true
 regs:∀t∈c.regs,AE t c.sign.length=true
 slots:∀s∈c.slots,Br s c.sign.length=true
 regsL:c.regs.length<=16384
 slotsL:c.slots.length<=4096
 listL:c.list.length<=32768
 signL:c.sign.length<=64
theorem By.type{c:Cd}(h:By c){t:Ty}(ht:t∈c.regs)(h3:t.kind=3):Az t.par c.sign.length=true:=by
 have:=h.regs t ht;unfold AE at this;rw[if_neg oM,if_pos h3]at this;exact this
theorem By.lenOf{c:Cd}(h:By c)(p:Int):lenOf c p<=4096:=by
 unfold Proofs.YtpoklpdgpcnkgaaGreat.lenOf;cases hp:c.sign[p.toNat]? with
 |none=>simp
 |some q=>
  have:=h.len q (List.mem_of_getElem? hp);simp only[Option.map_some,Option.getD_some];omega
theorem By.width{c:Cd}(h:By c)(t:Ty):B0 c t<=4096:=by
 unfold B0;split
 .exact h.lenOf _
 .split<;>omega
theorem EL{l:List Ty}{r:Nat}(h:r<l.length):A5 l (r:Int)=l[r]:=by
 unfold A5 Az;simp[h]
section
variable {T : Nat -> Prop} {E E' : Nat} {a : Lay} {c : Cd} {G P : List (List Int)} {w : World}
end

theorem AQ(w:World):Below w.heap.size w w.drew:=(Below.refl _ _).drew
section
variable {T : Nat -> Prop} {E E' : Nat} {a : Lay} {c : Cd} {G P : List (List Int)} {X : Nat -> Value} {M : Nat} {m : Nat -> Option Value} {f : Fr} {w w1 w2 : World}
end

def PC(c:Cd)(t:Ty)(h:Hd):Prop:=h.pats.length=B0 c t/\(∀y∈h.pats,AB y)/\0<=h.whole/\h.whole<=2147483647
structure Jf(c:Cd)(f:Fr):Prop where
 nums:∀r,AB (f.nums r)
 whs:∀r,0<=f.whs r/\f.whs r<=2147483647
 vecs:∀r,∀y∈f.vecs r,AB y
 vecsL:∀r,(f.vecs r).length<=4096
 slotsL:f.slots.length=c.slots.length
 slots:∀j (h:j<c.slots.length) (h':j<f.slots.length),PC c c.slots[j].ty f.slots[j]
theorem Cw{l:List Int}(h:∀y∈l,AB y)(j:Nat):AB (Cy l j):=by
 unfold Cy;cases e:l[j]? with
 |none=>exact Jj
 |some y=>exact h y (List.mem_of_getElem? e)

structure DD(c:Cd)(L:List (List Int)):Prop where
 len:L.length=c.sign.length
 each:∀p (h:p<L.length),(L[p]).length=RS c p
 isP:∀l∈L,∀y∈l,AB y
theorem Kw{c:Cd}(hg:By c){p:Nat}(h:p<c.sign.length):RS c p=AP c p*lenOf c p/\lenOf c p=c.sign[p].len.toNat/\1<=c.sign[p].len/\c.sign[p].len<=4096/\(AP c p=1\/AP c p=2):=by
 have h1:=hg.len c.sign[p] (gD h);have h2:=hg.kind c.sign[p] (gD h);have e1:lenOf c (p:Int)=c.sign[p].len.toNat:=by unfold lenOf;simp[h]
 have e2:AP c (p:Int)=if c.sign[p].kind=2 then 2 else 1:=by unfold AP Do;simp[h]
 refine⟨?_,e1,h1.1,h1.2,?_⟩
 .unfold RS;rw[e1,e2];simp only[gB h,Option.elim_some];unfold OL DO;rw[h2];simp only[if_true,beq_iff_eq];split<;>omega
 .rw[e2];split<;>simp
theorem Yw{α:Type}(f:Nat->Int)(n j:Nat)(h:j<n):Cy ((List.range n).map f) j=f j:=by
 unfold Cy;simp[h]
structure PE(c:Cd)(r:Int)(n:Int):Prop where
 r0:0<=r
 r1:r<(c.regs.length:Int)
 kind:(A5 c.regs r).kind=3
 n0:n=0\/(n=1/\Do c.sign (A5 c.regs r).par=2)
end Go.Proofs.YtpoklpdgpcnkgaaGreat
