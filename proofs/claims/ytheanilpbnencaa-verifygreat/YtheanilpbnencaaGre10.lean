import Derived.Test.YtheanilpbnencaaGre9
import Derived.Test.YtheanilpbnencaaGre7
import Derived.Test.YtheanilpbnencaaGre1
namespace Go.Proofs.Ytheanilpbnencaa
open Go.RowKit Go.Proofs.Try
set_option linter.all false
set_option maxRecDepth 100000
set_option maxHeartbeats 16000000
theorem DT(v0 v1 v2 v3:Value)(c:Cd)(hk:AN c)(n p:Int)(hp:n=1->Ae p c.sign.length=true)(w:World)(hv:BU w v0 v1 v2 v3 c):
 Calls prog 72 #[.agg #[v0,v1,v2,v3],.int .i64 n,.int .i64 p] w fun e w'=>e=.returned (.bool (n==0||(n==1&&BI c.sign p==2)))/\Below w.heap.size w w':=by
 have HB:=hk.signL;by_cases h0:n=0
 .subst h0;clear hp hv;go_enter func72,ntmps72;go_wp2;go_ret;exact⟨rfl,A0 _ _⟩
 .have h0':(n==0)=false:=by simpa using h0
  by_cases h1:n=1
  .subst h1;obtain⟨k,rfl,hkl⟩:=BA (hp rfl);have hr:=hv.sign;obtain⟨p,q,rfl,hrr⟩:=hv.sign;obtain⟨lb,lo,rfl,hc⟩:=hr.at hkl;have e:BI c.sign (k:Int)=c.sign[k].kind:=by unfold BI;rw[Int.toNat_natCast,gB hkl];rfl
   rw[e];obtain⟨⟨nm,K,L⟩,ht⟩:∃t:AX,c.sign[k]=t:=⟨_,rfl⟩
   rw[ht]at hc |-;have y1:w.cell? ⟨lb,lo+k*3+1,none⟩=some (.int .i64 K):=hc.at 1 rfl;have g1:∀o,(w.alloc o).cell? ⟨lb,lo+k*3+1,none⟩=some (.int .i64 K):=fun o=>kc (A0 _ _) y1;obtain⟨N,hN⟩:=gA (c.sign.length)
   rw[hN]at hkl HB |-;clear hr hrr hc ht e hp hv hN h0 hk;simp only;go_enter func72,ntmps72;go_wp2;go_ret;exact⟨A9 sM,A0 _ _⟩
  .have h1':(n==1)=false:=by simpa using h1
   rw[h0',h1'];clear hp hv h0 h1;go_enter func72,ntmps72;go_wp2;go_ret;exact⟨rfl,A0 _ _⟩
def C3(i:Ay):Int:=if Az i.op||(i.op==29||(i.op==30||i.op==32))then i.d else if i.op==31||i.op==33 then i.a else -1
def Co(rs:List Ty)(n:Int):Int:=if Ae n rs.length&&(Ak rs n).kind==3 then(Ak rs n).par else -1
theorem ED(v0 v1 v2 v3:Value)(c:Cd)(hk:AN c)(i:Ay)(w:World)(hv:BU w v0 v1 v2 v3 c):
 Calls prog 52 #[.agg #[v0,v1,v2,v3],C2 i] w fun e w'=>e=.returned (.int .i64 (Co c.regs (C3 i)))/\Below w.heap.size w w':=by
 have HB:=hk.regsL;have KE:Hid (∀v,Calls prog 38 #[.int .i64 i.op] v fun e w'=>e=.returned (.bool (Az i.op))/\w'=v):=DR i.op;have hr:=hv.regs;obtain⟨p,q,rfl,hrr⟩:=hv.regs;clear hv hk hrr;obtain⟨op,D,A,B,E,nn,bb⟩:=i;unfold C2;simp only at KE |-;have CM:∀n:Int,(Ae n c.regs.length=false/\Co c.regs n= -1)\/∃ (k:Nat) (lb lo:Nat) (K P:Int),n=(k:Int)/\k<c.regs.length/\p=some ⟨lb,lo,none⟩/\w.cell? ⟨lb,lo+k*2,none⟩=some (.int .i64 K)/\w.cell? ⟨lb,lo+k*2+1,none⟩=some (.int .i64 P)/\Co c.regs n=if K==3 then P else -1:=by
  intro n;cases h:Ae n c.regs.length
  .exact .inl ⟨rfl,by unfold Co;rw[h];rfl⟩
  .obtain⟨k,rfl,hkl⟩:=BA h;obtain⟨lb,lo,hp,hc⟩:=hr.at hkl;refine .inr ⟨k,lb,lo,c.regs[k].kind,c.regs[k].par,rfl,hkl,hp,hc.at 0 rfl,hc.at 1 rfl,?_⟩;unfold Co;rw[h,BP rfl hkl,Bool.true_and]
 obtain⟨N,hN⟩:=gA (c.regs.length)
 rw[hN]at HB CM |-;clear hr;cases hX:Az op
 .rw[hX]at KE;by_cases a29:op=29
  .subst a29;rw[show C3 ⟨29,D,A,B,E,nn,bb⟩=D from rfl];rcases CM D with⟨hpl,e9⟩|⟨k,lb,lo,K,P,rfl,hkl,rfl,y0,y1,e9⟩
   .rw[e9];clear CM e9;by_cases h0:D<0
    .exact Db
    .have h1:(N:Int)<=D:=by unfold Ae at hpl;simp at hpl;omega
     exact Db
   .rw[e9];clear CM e9;have g0:∀o o',((w.alloc o).alloc o').cell? ⟨lb,lo+k*2,none⟩=some (.int .i64 K):=fun o o'=>kc (bel (A0 _ _) (A0 _ _)) y0;have g1:∀o o',((w.alloc o).alloc o').cell? ⟨lb,lo+k*2+1,none⟩=some (.int .i64 P):=fun o o'=>kc (bel (A0 _ _) (A0 _ _)) y1;by_cases h3:K=3
    .subst h3;exact Db
    .have h3':(K==3)=false:=by simpa using h3
     have h3b:(K != 3)=true:=by simpa using h3
     rw[h3'];clear h3;exact Db
  by_cases a30:op=30
  .subst a30;rw[show C3 ⟨30,D,A,B,E,nn,bb⟩=D from rfl];rcases CM D with⟨hpl,e9⟩|⟨k,lb,lo,K,P,rfl,hkl,rfl,y0,y1,e9⟩
   .rw[e9];clear CM e9;by_cases h0:D<0
    .exact Db
    .have h1:(N:Int)<=D:=by unfold Ae at hpl;simp at hpl;omega
     exact Db
   .rw[e9];clear CM e9;have g0:∀o o',((w.alloc o).alloc o').cell? ⟨lb,lo+k*2,none⟩=some (.int .i64 K):=fun o o'=>kc (bel (A0 _ _) (A0 _ _)) y0;have g1:∀o o',((w.alloc o).alloc o').cell? ⟨lb,lo+k*2+1,none⟩=some (.int .i64 P):=fun o o'=>kc (bel (A0 _ _) (A0 _ _)) y1;by_cases h3:K=3
    .subst h3;exact Db
    .have h3':(K==3)=false:=by simpa using h3
     have h3b:(K != 3)=true:=by simpa using h3
     rw[h3'];clear h3;exact Db
  by_cases a32:op=32
  .subst a32;rw[show C3 ⟨32,D,A,B,E,nn,bb⟩=D from rfl];rcases CM D with⟨hpl,e9⟩|⟨k,lb,lo,K,P,rfl,hkl,rfl,y0,y1,e9⟩
   .rw[e9];clear CM e9;by_cases h0:D<0
    .exact Db
    .have h1:(N:Int)<=D:=by unfold Ae at hpl;simp at hpl;omega
     exact Db
   .rw[e9];clear CM e9;have g0:∀o o',((w.alloc o).alloc o').cell? ⟨lb,lo+k*2,none⟩=some (.int .i64 K):=fun o o'=>kc (bel (A0 _ _) (A0 _ _)) y0;have g1:∀o o',((w.alloc o).alloc o').cell? ⟨lb,lo+k*2+1,none⟩=some (.int .i64 P):=fun o o'=>kc (bel (A0 _ _) (A0 _ _)) y1;by_cases h3:K=3
    .subst h3;exact Db
    .have h3':(K==3)=false:=by simpa using h3
     have h3b:(K != 3)=true:=by simpa using h3
     rw[h3'];clear h3;exact Db
  by_cases a31:op=31
  .subst a31;rw[show C3 ⟨31,D,A,B,E,nn,bb⟩=A from rfl];rcases CM A with⟨hpl,e9⟩|⟨k,lb,lo,K,P,rfl,hkl,rfl,y0,y1,e9⟩
   .rw[e9];clear CM e9;by_cases h0:A<0
    .exact Db
    .have h1:(N:Int)<=A:=by unfold Ae at hpl;simp at hpl;omega
     exact Db
   .rw[e9];clear CM e9;have g0:∀o o',((w.alloc o).alloc o').cell? ⟨lb,lo+k*2,none⟩=some (.int .i64 K):=fun o o'=>kc (bel (A0 _ _) (A0 _ _)) y0;have g1:∀o o',((w.alloc o).alloc o').cell? ⟨lb,lo+k*2+1,none⟩=some (.int .i64 P):=fun o o'=>kc (bel (A0 _ _) (A0 _ _)) y1;by_cases h3:K=3
    .subst h3;exact Db
    .have h3':(K==3)=false:=by simpa using h3
     have h3b:(K != 3)=true:=by simpa using h3
     rw[h3'];clear h3;exact Db
  by_cases a33:op=33
  .subst a33;rw[show C3 ⟨33,D,A,B,E,nn,bb⟩=A from rfl];rcases CM A with⟨hpl,e9⟩|⟨k,lb,lo,K,P,rfl,hkl,rfl,y0,y1,e9⟩
   .rw[e9];clear CM e9;by_cases h0:A<0
    .exact Db
    .have h1:(N:Int)<=A:=by unfold Ae at hpl;simp at hpl;omega
     exact Db
   .rw[e9];clear CM e9;have g0:∀o o',((w.alloc o).alloc o').cell? ⟨lb,lo+k*2,none⟩=some (.int .i64 K):=fun o o'=>kc (bel (A0 _ _) (A0 _ _)) y0;have g1:∀o o',((w.alloc o).alloc o').cell? ⟨lb,lo+k*2+1,none⟩=some (.int .i64 P):=fun o o'=>kc (bel (A0 _ _) (A0 _ _)) y1;by_cases h3:K=3
    .subst h3;exact Db
    .have h3':(K==3)=false:=by simpa using h3
     have h3b:(K != 3)=true:=by simpa using h3
     rw[h3'];clear h3;exact Db
  .have b29:(op==29)=false:=by simpa using a29
   have b30:(op==30)=false:=by simpa using a30
   have b31:(op==31)=false:=by simpa using a31
   have b32:(op==32)=false:=by simpa using a32
   have b33:(op==33)=false:=by simpa using a33
   rw[show C3 ⟨op,D,A,B,E,nn,bb⟩= -1 by unfold C3;simp[hX,b29,b30,b31,b32,b33]];rw[show Co c.regs (-1)= -1 by unfold Co Ae;simp];clear CM a29 a30 a31 a32 a33;exact Db
 .rw[hX]at KE;rw[show C3 ⟨op,D,A,B,E,nn,bb⟩=D by unfold C3;simp[hX]];rcases CM D with⟨hpl,e9⟩|⟨k,lb,lo,K,P,rfl,hkl,rfl,y0,y1,e9⟩
  .rw[e9];clear CM e9;by_cases h0:D<0
   .exact Db
   .have h1:(N:Int)<=D:=by unfold Ae at hpl;simp at hpl;omega
    exact Db
  .rw[e9];clear CM e9;have g0:∀o o',((w.alloc o).alloc o').cell? ⟨lb,lo+k*2,none⟩=some (.int .i64 K):=fun o o'=>kc (bel (A0 _ _) (A0 _ _)) y0;have g1:∀o o',((w.alloc o).alloc o').cell? ⟨lb,lo+k*2+1,none⟩=some (.int .i64 P):=fun o o'=>kc (bel (A0 _ _) (A0 _ _)) y1;by_cases h3:K=3
   .subst h3;exact Db
   .have h3':(K==3)=false:=by simpa using h3
    have h3b:(K != 3)=true:=by simpa using h3
    rw[h3'];clear h3;exact Db
structure Lt where
 a:Int
 b:Int
 c:Int
 d:Int
 e:Int
def Bn(op:Int):Lt:=
 if op=1 then⟨110,45,45,45,45⟩
 else if op=2 then⟨119,45,45,45,105⟩
 else if op=3 then⟨97,99,45,45,45⟩
 else if 4<=op/\op<=10 then⟨100,120,120,45,45⟩
 else if 11<=op/\op<=14 then⟨100,120,45,45,45⟩
 else if op=15 then⟨100,120,120,120,45⟩
 else if op=16 then⟨110,110,119,45,45⟩
 else if op=17 then⟨110,119,45,45,45⟩
 else if op=18 then⟨119,110,45,45,45⟩
 else if 19<=op/\op<=20 then⟨110,118,45,45,45⟩
 else if op=21\/op=25 then⟨119,119,45,45,45⟩
 else if op=26 then⟨119,119,119,119,45⟩
 else if 22<=op/\op<=28 then⟨119,119,119,45,45⟩
 else if 29<=op/\op<=30 then⟨118,45,45,45,112⟩
 else if op=31 then⟨45,118,45,45,112⟩
 else if op=32 then⟨97,45,45,45,115⟩
 else if op=33 then⟨45,97,45,45,115⟩
 else if op=34 then⟨45,119,45,45,45⟩
 else if op=36 then⟨45,45,45,45,113⟩
 else⟨45,45,45,45,45⟩
def dR(rs:List Ty)(l D:Int):Ty:=if l=45 then⟨0,0⟩else Ak rs D
def tR(rs:List Ty)(l0 l1 D A:Int):Ty:=if l0=45/\l1≠45 then Ak rs A else dR rs l0 D
def Be(c:Cd)(l n:Int)(t:Ty):Bool:=
 if l=105 then BC n
 else if l=112 then n==0||(n==1&&BI c.sign t.par==2)
 else if l=115 then Ae n c.slots.length&&decide (Cg c.slots n=t)
 else if l=113 then Ae n c.sign.length
 else n==0
def BD(c:Cd)(i:Ay)(L:Lt):Bool:=
 (i.op==1||i.bits==0)&&(B1 i.bits&&(Ag c.regs L.a i.d ⟨0,0⟩&&(Ag c.regs L.b i.a (dR c.regs L.a i.d)&&(Ag c.regs L.c i.b (dR c.regs L.a i.d)&&(Ag c.regs L.d i.c (dR c.regs L.a i.d)&&Be c L.e i.n (tR c.regs L.a L.b i.d i.a))))))
theorem FB{c:Cd}(h:Af c=true){n:Int}(hp:Ae n c.regs.length=true):Am (Ak c.regs n) c.sign.length=true:=by
 obtain⟨k,rfl,hk⟩:=BA hp;rw[BP rfl hk];unfold Af at h;exact List.all_eq_true.1 h _ (gD hk)
theorem FC{c:Cd}(h:Af c=true){n:Int}(hp:Ae n c.regs.length=true)(hk:(Ak c.regs n).kind=1):(Ak c.regs n).par=0:=by
 have:=FB h hp;unfold Am at this;rw[if_pos (.inl hk)]at this;simpa using this
theorem L9{c:Cd}(h:Af c=true){n m:Int}(hn:Ae n c.regs.length=true)(hm:Ae m c.regs.length=true)(hk:((Ak c.regs m).kind==1||(Ak c.regs m).kind==3)=true):
 ((Ak c.regs n).kind==1||decide (Ak c.regs n=Ak c.regs m))=(decide (Ak c.regs n=Ak c.regs m)||((Ak c.regs n).kind==1&&(Ak c.regs m).kind==3)):=by
 have h1:=FC h hn;have h2:=FC h hm;generalize Ak c.regs n=t at *;generalize Ak c.regs m=d at *;obtain⟨K,P⟩:=t;obtain⟨A,B⟩:=d;simp only at h1 h2 hk |-;rw[Bool.eq_iff_iff];simp only[Bool.or_eq_true,beq_iff_eq,decide_eq_true_eq,Bool.and_eq_true,Ty.mk.injEq]at hk |-;constructor
 .rintro(e|e)
  .rcases hk with k|k
   .exact .inl ⟨oM,by rw[h1 e,h2 k]⟩
   .exact .inr ⟨e,k⟩
  .exact .inl e
 .rintro(e|e)
  .exact .inr e
  .exact .inl e.1
theorem JU:B1 0=true:=dE
theorem BK(rs:List Ty)(n:Int)(d:Ty):Ag rs 45 n d=(n==0):=if_pos rfl
theorem BL(rs:List Ty)(n:Int)(d:Ty):Ab rs 0 n d=(n==0):=if_pos rfl
theorem AS{l:Int}(h:l≠0)(rs:List Ty)(n:Int)(d:Ty):Ab rs l n d=(Ae n rs.length&&Ca l (Ak rs n) d):=if_neg h
theorem AQ{l:Int}(h:l≠45)(rs:List Ty)(n:Int)(d:Ty):Ag rs l n d=(Ae n rs.length&&Cn l (Ak rs n) d):=if_neg h
theorem CR(rs:List Ty)(n:Int)(d m:Ty):Ag rs 110 n d=Ab rs 1 n m:=by rw[AQ dE,AS dE];rfl
theorem Ba(rs:List Ty)(n:Int)(d m:Ty):Ag rs 119 n d=Ab rs 2 n m:=by rw[AQ dE,AS dE];rfl
theorem Fe(rs:List Ty)(n:Int)(d m:Ty):Ag rs 118 n d=Ab rs 3 n m:=by rw[AQ dE,AS dE];rfl
theorem Fc(rs:List Ty)(n:Int)(d m:Ty):Ag rs 100 n d=Ab rs 4 n m:=by rw[AQ dE,AS dE];rfl
theorem Aj(rs:List Ty)(n:Int)(d m:Ty):Ag rs 45 n d=Ab rs 0 n m:=by rw[BK,BL]
theorem Fb(rs:List Ty)(n:Int)(d:Ty):Ag rs 97 n d=Ab rs 6 n (Ak rs n):=by rw[AQ dE,AS dE];simp[Cn,Ca]
theorem Jx(rs:List Ty)(n:Int)(d:Ty):Ag rs 99 n d=Ab rs 5 n d:=by rw[AQ dE,AS dE];simp[Cn,Ca]
theorem Jy{c:Cd}(h:Af c=true)(n:Int){m:Int}(hd:Ab c.regs 4 m (Ak c.regs m)=true):Ag c.regs 120 n (Ak c.regs m)=Ab c.regs 5 n (Ak c.regs m):=by
 rw[AQ dE,AS dE];rw[AS dE]at hd;simp only[Bool.and_eq_true]at hd;cases hn:Ae n c.regs.length
 .rfl
 .rw[Bool.true_and,Bool.true_and];exact L9 h hn hd.1 hd.2
theorem AA{c:Cd}{i:Ay}{L:Lt}{R:Rw}(h1:i.op≠1)(h7:R.n≠7)(ha:Ag c.regs L.a i.d ⟨0,0⟩=Ab c.regs R.d i.d (Ap c.regs i R))
 (hb:Ab c.regs R.d i.d (Ap c.regs i R)=true->Ag c.regs L.b i.a (dR c.regs L.a i.d)=Ab c.regs R.a i.a (Ap c.regs i R))
 (hc:Ab c.regs R.d i.d (Ap c.regs i R)=true->Ag c.regs L.c i.b (dR c.regs L.a i.d)=Ab c.regs R.b i.b (Ap c.regs i R))
 (hd:Ab c.regs R.d i.d (Ap c.regs i R)=true->Ag c.regs L.d i.c (dR c.regs L.a i.d)=Ab c.regs R.c i.c (Ap c.regs i R))
 (he:Be c L.e i.n (tR c.regs L.a L.b i.d i.a)=En c i.n R.n (Ap c.regs i R)):BD c i L=AM c i R:=by
 unfold BD AM B9;rw[if_neg h7,ha,he];have:(i.op==1)=false:=by simpa using h1
 rw[this,Bool.false_or];cases hX:Ab c.regs R.d i.d (Ap c.regs i R)
 .simp
 .rw[hb hX,hc hX,hd hX];cases hb:(i.bits==0)
  .simp
  .have:i.bits=0:=by simpa using hb
   rw[this,JU];simp
theorem Eo{c:Cd}(h:Af c=true)(i:Ay):BD c i (Bn i.op)=AM c i (Ad i.op):=by
 have x:=fun n=>@Jy c h n i.d;by_cases h1:i.op=1
 .have e1:Bn i.op=⟨110,45,45,45,45⟩:=by rw[h1];rfl
  have e2:Ad i.op=⟨1,0,0,0,7⟩:=by rw[h1];rfl
  rw[e1,e2];unfold BD AM B9;simp only;rw[h1,CR _ _ _ (Ap c.regs i ⟨1,0,0,0,7⟩),BK,BK,BK,BL,BL,BL];rw[show Be c 45 i.n (tR c.regs 110 45 i.d i.a)=(i.n==0)from rfl];generalize Ab c.regs 1 i.d _=A1;cases A1<;>cases B1 i.bits<;>simp
 unfold Bn Ad;rw[if_neg h1,if_neg h1];by_cases h2:i.op=2
 .rw[if_pos h2,if_pos h2];exact AA h1 dE (Ba _ _ _ _) (fun _=>Aj _ _ _ _) (fun _=>Aj _ _ _ _) (fun _=>Aj _ _ _ _) rfl
 rw[if_neg h2,if_neg h2];by_cases h3:i.op=3
 .rw[if_pos h3,if_pos h3];exact AA h1 dE (Fb _ _ _) (fun _=>Jx _ _ _) (fun _=>Aj _ _ _ _) (fun _=>Aj _ _ _ _) rfl
 rw[if_neg h3,if_neg h3];by_cases h4:4<=i.op/\i.op<=10
 .rw[if_pos h4,if_pos h4];exact AA h1 dE (Fc _ _ _ _) (x _) (x _) (fun _=>Aj _ _ _ _) rfl
 rw[if_neg h4,if_neg h4];by_cases h5:11<=i.op/\i.op<=14
 .rw[if_pos h5,if_pos h5];exact AA h1 dE (Fc _ _ _ _) (x _) (fun _=>Aj _ _ _ _) (fun _=>Aj _ _ _ _) rfl
 rw[if_neg h5,if_neg h5];by_cases h6:i.op=15
 .rw[if_pos h6,if_pos h6];exact AA h1 dE (Fc _ _ _ _) (x _) (x _) (x _) rfl
 rw[if_neg h6,if_neg h6];by_cases h7:i.op=16
 .rw[if_pos h7,if_pos h7];exact AA h1 dE (CR _ _ _ _) (fun _=>CR _ _ _ _) (fun _=>Ba _ _ _ _) (fun _=>Aj _ _ _ _) rfl
 rw[if_neg h7,if_neg h7];by_cases h8:i.op=17
 .rw[if_pos h8,if_pos h8];exact AA h1 dE (CR _ _ _ _) (fun _=>Ba _ _ _ _) (fun _=>Aj _ _ _ _) (fun _=>Aj _ _ _ _) rfl
 rw[if_neg h8,if_neg h8];by_cases h9:i.op=18
 .rw[if_pos h9,if_pos h9];exact AA h1 dE (Ba _ _ _ _) (fun _=>CR _ _ _ _) (fun _=>Aj _ _ _ _) (fun _=>Aj _ _ _ _) rfl
 rw[if_neg h9,if_neg h9];by_cases h10:19<=i.op/\i.op<=20
 .rw[if_pos h10,if_pos h10];exact AA h1 dE (CR _ _ _ _) (fun _=>Fe _ _ _ _) (fun _=>Aj _ _ _ _) (fun _=>Aj _ _ _ _) rfl
 rw[if_neg h10,if_neg h10];by_cases h11:i.op=21\/i.op=25
 .rw[if_pos h11,if_pos h11];exact AA h1 dE (Ba _ _ _ _) (fun _=>Ba _ _ _ _) (fun _=>Aj _ _ _ _) (fun _=>Aj _ _ _ _) rfl
 rw[if_neg h11,if_neg h11];by_cases h12:i.op=26
 .rw[if_pos h12,if_pos h12];exact AA h1 dE (Ba _ _ _ _) (fun _=>Ba _ _ _ _) (fun _=>Ba _ _ _ _) (fun _=>Ba _ _ _ _) rfl
 rw[if_neg h12,if_neg h12];by_cases h13:22<=i.op/\i.op<=28
 .rw[if_pos h13,if_pos h13];exact AA h1 dE (Ba _ _ _ _) (fun _=>Ba _ _ _ _) (fun _=>Ba _ _ _ _) (fun _=>Aj _ _ _ _) rfl
 rw[if_neg h13,if_neg h13];by_cases h14:29<=i.op/\i.op<=30
 .rw[if_pos h14,if_pos h14];exact AA h1 dE (Fe _ _ _ _) (fun _=>Aj _ _ _ _) (fun _=>Aj _ _ _ _) (fun _=>Aj _ _ _ _) rfl
 rw[if_neg h14,if_neg h14];by_cases h15:i.op=31
 .rw[if_pos h15,if_pos h15];exact AA h1 dE (Aj _ _ _ _) (fun _=>Fe _ _ _ _) (fun _=>Aj _ _ _ _) (fun _=>Aj _ _ _ _) rfl
 rw[if_neg h15,if_neg h15];by_cases h16:i.op=32
 .rw[if_pos h16,if_pos h16];exact AA h1 dE (Fb _ _ _) (fun _=>Aj _ _ _ _) (fun _=>Aj _ _ _ _) (fun _=>Aj _ _ _ _) rfl
 rw[if_neg h16,if_neg h16];by_cases h17:i.op=33
 .rw[if_pos h17,if_pos h17];exact AA h1 dE (Aj _ _ _ _) (fun _=>Fb _ _ _) (fun _=>Aj _ _ _ _) (fun _=>Aj _ _ _ _) rfl
 rw[if_neg h17,if_neg h17];by_cases h18:i.op=34
 .rw[if_pos h18,if_pos h18];exact AA h1 dE (Aj _ _ _ _) (fun _=>Ba _ _ _ _) (fun _=>Aj _ _ _ _) (fun _=>Aj _ _ _ _) rfl
 rw[if_neg h18,if_neg h18];by_cases h19:i.op=36
 .rw[if_pos h19,if_pos h19];exact LL
 rw[if_neg h19,if_neg h19];exact LL
theorem G7(op:Int)(hk:As op=true):∃a b c d e:UInt8,((a.toNat:Int)=(Bn op).a/\(b.toNat:Int)=(Bn op).b/\(c.toNat:Int)=(Bn op).c/\(d.toNat:Int)=(Bn op).d/\(e.toNat:Int)=(Bn op).e)/\∀w,Calls prog 54 #[.int .i64 op] w fun x w'=>x=.returned (.tuple #[.string ⟨#[a,b,c,d,e]⟩,.bool true])/\w'=w:=by
 have hh:1<=op/\op<=37:=by unfold As at hk;simp at hk;omega
 clear hk;have:op=1\/op=2\/op=3\/op=4\/op=5\/op=6\/op=7\/op=8\/op=9\/op=10\/op=11\/op=12\/op=13\/op=14\/op=15\/op=16\/op=17\/op=18\/op=19\/op=20\/op=21\/op=22\/op=23\/op=24\/op=25\/op=26\/op=27\/op=28\/op=29\/op=30\/op=31\/op=32\/op=33\/op=34\/op=35\/op=36\/op=37:=oM;rcases this with rfl|rfl|rfl|rfl|rfl|rfl|rfl|rfl|rfl|rfl|rfl|rfl|rfl|rfl|rfl|rfl|rfl|rfl|rfl|rfl|rfl|rfl|rfl|rfl|rfl|rfl|rfl|rfl|rfl|rfl|rfl|rfl|rfl|rfl|rfl|rfl|rfl
 .exact⟨_,_,_,_,_,⟨rfl,rfl,rfl,rfl,rfl⟩,fun w=>I6 w⟩
 .exact⟨_,_,_,_,_,⟨rfl,rfl,rfl,rfl,rfl⟩,fun w=>I7 w⟩
 .exact⟨_,_,_,_,_,⟨rfl,rfl,rfl,rfl,rfl⟩,fun w=>I8 w⟩
 .exact⟨_,_,_,_,_,⟨rfl,rfl,rfl,rfl,rfl⟩,fun w=>I9 w⟩
 .exact⟨_,_,_,_,_,⟨rfl,rfl,rfl,rfl,rfl⟩,fun w=>Ia w⟩
 .exact⟨_,_,_,_,_,⟨rfl,rfl,rfl,rfl,rfl⟩,fun w=>Ib w⟩
 .exact⟨_,_,_,_,_,⟨rfl,rfl,rfl,rfl,rfl⟩,fun w=>Ic w⟩
 .exact⟨_,_,_,_,_,⟨rfl,rfl,rfl,rfl,rfl⟩,fun w=>Ie w⟩
 .exact⟨_,_,_,_,_,⟨rfl,rfl,rfl,rfl,rfl⟩,fun w=>If w⟩
 .exact⟨_,_,_,_,_,⟨rfl,rfl,rfl,rfl,rfl⟩,fun w=>FE w⟩
 .exact⟨_,_,_,_,_,⟨rfl,rfl,rfl,rfl,rfl⟩,fun w=>FF w⟩
 .exact⟨_,_,_,_,_,⟨rfl,rfl,rfl,rfl,rfl⟩,fun w=>FG w⟩
 .exact⟨_,_,_,_,_,⟨rfl,rfl,rfl,rfl,rfl⟩,fun w=>FH w⟩
 .exact⟨_,_,_,_,_,⟨rfl,rfl,rfl,rfl,rfl⟩,fun w=>FI w⟩
 .exact⟨_,_,_,_,_,⟨rfl,rfl,rfl,rfl,rfl⟩,fun w=>FJ w⟩
 .exact⟨_,_,_,_,_,⟨rfl,rfl,rfl,rfl,rfl⟩,fun w=>FK w⟩
 .exact⟨_,_,_,_,_,⟨rfl,rfl,rfl,rfl,rfl⟩,fun w=>FL w⟩
 .exact⟨_,_,_,_,_,⟨rfl,rfl,rfl,rfl,rfl⟩,fun w=>FM w⟩
 .exact⟨_,_,_,_,_,⟨rfl,rfl,rfl,rfl,rfl⟩,fun w=>FN w⟩
 .exact⟨_,_,_,_,_,⟨rfl,rfl,rfl,rfl,rfl⟩,fun w=>FO w⟩
 .exact⟨_,_,_,_,_,⟨rfl,rfl,rfl,rfl,rfl⟩,fun w=>FP w⟩
 .exact⟨_,_,_,_,_,⟨rfl,rfl,rfl,rfl,rfl⟩,fun w=>FQ w⟩
 .exact⟨_,_,_,_,_,⟨rfl,rfl,rfl,rfl,rfl⟩,fun w=>FR w⟩
 .exact⟨_,_,_,_,_,⟨rfl,rfl,rfl,rfl,rfl⟩,fun w=>FS w⟩
 .exact⟨_,_,_,_,_,⟨rfl,rfl,rfl,rfl,rfl⟩,fun w=>FT w⟩
 .exact⟨_,_,_,_,_,⟨rfl,rfl,rfl,rfl,rfl⟩,fun w=>FU w⟩
 .exact⟨_,_,_,_,_,⟨rfl,rfl,rfl,rfl,rfl⟩,fun w=>FV w⟩
 .exact⟨_,_,_,_,_,⟨rfl,rfl,rfl,rfl,rfl⟩,fun w=>FX w⟩
 .exact⟨_,_,_,_,_,⟨rfl,rfl,rfl,rfl,rfl⟩,fun w=>FY w⟩
 .exact⟨_,_,_,_,_,⟨rfl,rfl,rfl,rfl,rfl⟩,fun w=>FZ w⟩
 .exact⟨_,_,_,_,_,⟨rfl,rfl,rfl,rfl,rfl⟩,fun w=>G0 w⟩
 .exact⟨_,_,_,_,_,⟨rfl,rfl,rfl,rfl,rfl⟩,fun w=>G1 w⟩
 .exact⟨_,_,_,_,_,⟨rfl,rfl,rfl,rfl,rfl⟩,fun w=>G2 w⟩
 .exact⟨_,_,_,_,_,⟨rfl,rfl,rfl,rfl,rfl⟩,fun w=>G3 w⟩
 .exact⟨_,_,_,_,_,⟨rfl,rfl,rfl,rfl,rfl⟩,fun w=>G4 w⟩
 .exact⟨_,_,_,_,_,⟨rfl,rfl,rfl,rfl,rfl⟩,fun w=>G5 w⟩
 .exact⟨_,_,_,_,_,⟨rfl,rfl,rfl,rfl,rfl⟩,fun w=>G6 w⟩
def AV(b:Int):Prop:=b=45\/b=110\/b=119\/b=118\/b=100\/b=120\/b=99\/b=97
instance (b:Int):Decidable (AV b):=by unfold AV;infer_instance
def JR(L:Lt):Bool:=decide (AV L.a)&&(decide (AV L.b)&&(decide (AV L.c)&&(decide (AV L.d)&&(decide (L.e=45\/L.e=105\/L.e=112\/L.e=115\/L.e=113)&&decide (L.e=112->L.a=118\/(L.a=45/\L.b=118))))))
theorem IP{p:Prop}[Decidable p]{x y:Lt}(h:JR x=true)(k:JR y=true):JR (if p then x else y)=true:=by
 split
 .exact h
 .exact k
theorem II(op:Int):JR (Bn op)=true:=by
 unfold Bn
 iterate 19 refine IP dE ?_
 decide
theorem Ju(op:Int):AV (Bn op).a/\AV (Bn op).b/\AV (Bn op).c/\AV (Bn op).d/\((Bn op).e=45\/(Bn op).e=105\/(Bn op).e=112\/(Bn op).e=115\/(Bn op).e=113)/\((Bn op).e=112->(Bn op).a=118\/((Bn op).a=45/\(Bn op).b=118)):=by
 have:=II op;unfold JR at this;simp only[Bool.and_eq_true,decide_eq_true_eq]at this;exact this
theorem Hd(v0 v1 v2 v3:Value)(i:Ay)(h0:0<=i.bits)(h1:i.bits<4294967296)(h:(As i.op&&((i.op==1||i.bits==0)&&B1 i.bits))=false)(w:World):
 Calls prog 51 #[.agg #[v0,v1,v2,v3],C2 i] w fun e w'=>e=.returned (.bool false)/\Below w.heap.size w w':=by
 have HCAN:Hid (∀w,Calls prog 50 #[.int .u32 i.bits] w fun e w'=>e=.returned (.bool (B1 i.bits))/\Below w.heap.size w w'):=BB i.bits h0 h1;cases hk:As i.op
 .have HROW:Hid (∀w,Calls prog 54 #[.int .i64 i.op] w fun e w'=>e=.returned (.tuple #[.string ⟨#[]⟩,.bool false])/\w'=w):=DU i.op hk;obtain⟨op,D,A,B,E,n,bt⟩:=i;unfold C2;simp only at HROW HCAN |-;clear h hk;go_enter func51,ntmps51;go_wp2_with(go_at_call 54;refine(HROW.out _).mono ?_;rintro e w1 ⟨rfl,rfl⟩);go_ret;exact Ix
 .obtain⟨a,b,c,d,e,-,hc⟩:=G7 i.op hk;have HROW:Hid (∀w,Calls prog 54 #[.int .i64 i.op] w fun x w'=>x=.returned (.tuple #[.string ⟨#[a,b,c,d,e]⟩,.bool true])/\w'=w):=hc;rw[hk,Bool.true_and]at h;clear hc hk;obtain⟨op,D,A,B,E,n,bt⟩:=i;unfold C2;simp only at HROW HCAN h |-;cases ho:(op==1)
  .have ho':(op != 1)=true:=by simpa using ho
   cases hz:(bt==0)
   .have hz':(bt != 0)=true:=by simpa using hz
    clear h;go_enter func51,ntmps51;go_wp2_with(go_at_call 54;refine(HROW.out _).mono ?_;rintro e w1 ⟨rfl,rfl⟩);go_ret;exact Ix
   .rw[ho,hz,Bool.false_or,Bool.true_and]at h;rw[h]at HCAN;have hz':(bt != 0)=false:=by simpa using hz
    exact Lw
  .rw[ho,Bool.true_or,Bool.true_and]at h;rw[h]at HCAN;have ho':(op != 1)=false:=by simpa using ho
   exact Lw
structure TW(w:World)(v0 v1 v2 v3:Value)(J:Nat)(op D A B E n bt:Int)(v:World):Prop where
 bel:Below w.heap.size w v
 c0:v.cell? ⟨w.heap.size,0,none⟩=some v0
 c1:v.cell? ⟨w.heap.size,1,none⟩=some v1
 c2:v.cell? ⟨w.heap.size,2,none⟩=some v2
 c3:v.cell? ⟨w.heap.size,3,none⟩=some v3
 i0:v.cell? ⟨J,0,none⟩=some (.int .i64 op)
 i1:v.cell? ⟨J,1,none⟩=some (.int .i64 D)
 i2:v.cell? ⟨J,2,none⟩=some (.int .i64 A)
 i3:v.cell? ⟨J,3,none⟩=some (.int .i64 B)
 i4:v.cell? ⟨J,4,none⟩=some (.int .i64 E)
 i5:v.cell? ⟨J,5,none⟩=some (.int .i64 n)
 i6:v.cell? ⟨J,6,none⟩=some (.int .u32 bt)
theorem TW.next{w:World}{v0 v1 v2 v3:Value}{J:Nat}{op D A B E n bt:Int}{v v':World}(h:TW w v0 v1 v2 v3 J op D A B E n bt v)(k:Below v.heap.size v v'):TW w v0 v1 v2 v3 J op D A B E n bt v':=
 ⟨Go.Proofs.Ytheanilpbnencaa.bel h.bel k,kc k h.c0,kc k h.c1,kc k h.c2,kc k h.c3,kc k h.i0,kc k h.i1,kc k h.i2,kc k h.i3,kc k h.i4,kc k h.i5,kc k h.i6⟩
theorem TW.keep{w:World}{v0 v1 v2 v3:Value}{J:Nat}{op D A B E n bt:Int}{v:World}(h:TW w v0 v1 v2 v3 J op D A B E n bt v){g o:Nat}(x:Value)(h1:w.heap.size<g)(h2:g≠J):TW w v0 v1 v2 v3 J op D A B E n bt (v.setCell ⟨g,o,none⟩ x):=by
 have f1:∀j,(v.setCell ⟨g,o,none⟩ x).cell? ⟨w.heap.size,j,none⟩=v.cell? ⟨w.heap.size,j,none⟩:=fun j=>gC (gE (by show w.heap.size≠g;omega));have f2:∀j,(v.setCell ⟨g,o,none⟩ x).cell? ⟨J,j,none⟩=v.cell? ⟨J,j,none⟩:=fun j=>gC (gE (by show J≠g;omega));exact⟨h.bel.setCell (by show w.heap.size<=g;omega) _,(f1 0).trans h.c0,(f1 1).trans h.c1,(f1 2).trans h.c2,(f1 3).trans h.c3,(f2 0).trans h.i0,(f2 1).trans h.i1,(f2 2).trans h.i2,(f2 3).trans h.i3,(f2 4).trans h.i4,(f2 5).trans h.i5,(f2 6).trans h.i6⟩
theorem TW.start(w:World)(v0 v1 v2 v3:Value)(op D A B E n bt:Int):TW w v0 v1 v2 v3 (w.heap.size+1) op D A B E n bt ((w.alloc (.cells #[v0,v1,v2,v3] 27)).alloc (.cells #[.int .i64 op,.int .i64 D,.int .i64 A,.int .i64 B,.int .i64 E,.int .i64 n,.int .u32 bt] 53)):=by
 have k:=A0 (w.alloc (.cells #[v0,v1,v2,v3] 27)) (.cells #[.int .i64 op,.int .i64 D,.int .i64 A,.int .i64 B,.int .i64 E,.int .i64 n,.int .u32 bt] 53);exact⟨Go.Proofs.Ytheanilpbnencaa.bel (A0 _ _) k,kc k sG,kc k sG,kc k sG,kc k sG,sG,sG,sG,sG,sG,sG,sG⟩
theorem Br{n:Nat}{w v:World}(h:Below n w v):Below n w v.drew:=h.drew
def EJ(s:Wk)(op:Int):Bool:=if op=34\/op=36 then decide (s.opens.length<64)else if op=35 then decide (0<s.opens.length)&& !Av s else if op=37 then Av s else true
def Es(c:Cd)(s:Wk)(i:Ay):Bool:=Av s&&(i.op != 37&&Co c.regs (C3 i) != B5 s)
def Bv(s:Wk):Prop:=∀b∈s.opens,b.loop=true->0<=b.par
theorem Bv.inner{s:Wk}(h:Bv s)(hl:Av s=true):0<=B5 s:=by
 obtain⟨S,O⟩:=s;cases O with
 |nil=>exact Int.le_refl _
 |cons b r=>exact h b (List.mem_cons_self ..) hl
theorem D2{i:Ay}(h:B2 i.op=false):C3 i= -1:=by
 unfold B2 at h;simp only[Bool.or_eq_false_iff]at h;have h1:(i.op==29)=false/\(i.op==30)=false/\(i.op==31)=false/\(i.op==32)=false/\(i.op==33)=false:=by
  have:=h.1;simp only[Bool.and_eq_false_iff,decide_eq_false_iff_not]at this;simp only[beq_eq_false_iff_ne,ne_eq];omega
 unfold C3;rw[h.2,h1.1,h1.2.1,h1.2.2.1,h1.2.2.2.1,h1.2.2.2.2];rfl
theorem GO{i:Ay}(h:B2 i.op=true):C3 i=Et i (Ad i.op):=by
 unfold B2 Az at h;simp only[Bool.or_eq_true,Bool.and_eq_true,decide_eq_true_eq]at h;obtain⟨op,D,A,B,E,n,bb⟩:=i;simp only at h |-;have:op=3\/op=4\/op=5\/op=6\/op=7\/op=8\/op=9\/op=10\/op=11\/op=12\/op=13\/op=14\/op=15\/op=29\/op=30\/op=31\/op=32\/op=33:=oM;rcases this with rfl|rfl|rfl|rfl|rfl|rfl|rfl|rfl|rfl|rfl|rfl|rfl|rfl|rfl|rfl|rfl|rfl|rfl<;>rfl
theorem D3(rs:List Ty):Co rs (-1)= -1:=by unfold Co Ae;simp
theorem Jd{rs:List Ty}{n q:Int}(hq:0<=q):(Co rs n=q)↔Ak rs n=⟨3,q⟩:=by
 unfold Co;cases h:Ae n rs.length
 .have:Ak rs n=⟨0,0⟩:=by unfold Ak;rw[h];rfl
  rw[this];simp;omega
 .rw[Bool.true_and];generalize Ak rs n=t;obtain⟨K,P⟩:=t;simp only[Ty.mk.injEq];by_cases hk:K=3
  .subst hk;simp
  .have:(K==3)=false:=by simpa using hk
   rw[this];constructor
   .intro e;simp at e;omega
   .intro e;exact absurd e.1 hk
theorem GM{c:Cd}{s:Wk}{i:Ay}(hO:Bv s):Au c s i (Ad i.op)=(!Es c s i&&EJ s i.op):=by
 have hO':=hO.inner;unfold Au Es EJ;by_cases h1:i.op=34\/i.op=36
 .rw[if_pos h1,if_pos h1];have hv:Co c.regs (C3 i)= -1:=by
   rw[D2 (by rcases h1 with e|e<;>rw[e]<;>decide),D3]
  have h37:(i.op != 37)=true:=by rcases h1 with e|e<;>rw[e]<;>decide
  rw[hv,h37];cases hl:Av s
  .rfl
  .have:=hO' hl;have e:((-1:Int) != B5 s)=true:=sO;rw[e];rfl
 .rw[if_neg h1,if_neg h1];by_cases h2:i.op=35
  .rw[if_pos h2,if_pos h2];have hv:Co c.regs (C3 i)= -1:=by rw[D2 (by rw[h2];decide),D3]
   rw[hv,h2];have hE:(!s.opens.isEmpty)=decide (0<s.opens.length):=by cases s.opens<;>simp
   rw[hE];cases hl:Av s
   .simp
   .have:=hO' hl;have e:((-1:Int) != B5 s)=true:=sO;rw[e];simp
  .rw[if_neg h2,if_neg h2];by_cases h3:i.op=37
   .rw[if_pos h3,if_pos h3,h3];cases Av s<;>rfl
   .rw[if_neg h3,if_neg h3];have h37:(i.op != 37)=true:=by simpa using h3
    rw[h37,Bool.true_and,Bool.and_true];cases hl:Av s
    .rfl
    .have hq:=hO' hl;rw[Bool.not_true,Bool.false_or,Bool.true_and];cases hlp:B2 i.op
     .rw[D2 hlp,D3];have e:((-1:Int) != B5 s)=true:=sO;rw[e];rfl
     .rw[GO hlp,Bool.true_and];unfold Ap;rw[Bool.eq_iff_iff,decide_eq_true_eq,<-Jd hq];simp
theorem GN{c:Cd}{s:Wk}{i:Ay}(hT:Af c=true)(hO:Bv s):AH c s i=((As i.op&&BD c i (Bn i.op))&&(!Es c s i&&(CU s i (Ad i.op)&&EJ s i.op))):=by
 unfold AH;rw[Eo hT,GM hO];cases As i.op<;>cases AM c i (Ad i.op)<;>cases Es c s i<;>cases EJ s i.op<;>simp
structure Ob where
 op:Int
 par:Int
 set:List Nat
def Jw(S:List Nat)(b:Bk):Ob:=⟨if b.loop then 36 else 34,b.par,S.take b.ahead⟩
def DH(s:Wk):List Ob:=(s.opens.map (Jw s.set)).reverse
theorem Df(s:Wk):(DH s).length=s.opens.length:=by simp[DH]
theorem CA(S:List Nat)(b:Bk)(r:List Bk):DH ⟨S,b::r⟩=(r.map (Jw S)).reverse++[Jw S b]:=by simp[DH]
theorem H6{s:Wk}(h:0<s.opens.length):∃X,(DH s)[s.opens.length-1]? =some ⟨if Av s then 36 else 34,B5 s,X⟩:=by
 obtain⟨S,O⟩:=s;cases O with
 |nil=>simp at h
 |cons b r=>
  refine⟨S.take b.ahead,?_⟩;rw[CA];simp only[List.length_cons,Nat.add_sub_cancel];rw[List.getElem?_append_right sM];simp only[List.length_reverse,List.length_map,Nat.sub_self];rfl
theorem E9{s:Wk}{i:Ay}(h:i.op=34\/i.op=36):Ar s i=⟨s.set,⟨i.op==36,i.n,s.set.length⟩::s.opens⟩:=by
 unfold Ar Dp;rw[DI (by rcases h with h|h<;>rw[h]<;>rfl)];unfold CK;rw[if_pos h]
theorem Ea{s:Wk}{i:Ay}(h:i.op=35\/i.op=37):Ar s i=AC s:=by
 unfold Ar Dp;rw[DI (by rcases h with h|h<;>rw[h]<;>rfl)];unfold CK;rw[if_neg oM,if_pos h]
theorem Cl{s:Wk}{i:Ay}(h1:i.op≠34)(h2:i.op≠35)(h3:i.op≠36)(h4:i.op≠37):Ar s i=⟨Dc s.set i,s.opens⟩:=by
 unfold Ar Dp CK;rw[if_neg oM,if_neg oM];unfold Ef Dc;split<;>rfl
theorem H7{s:Wk}{i:Ay}(h:i.op=34\/i.op=36):DH (Ar s i)=DH s++[⟨i.op,i.n,s.set⟩]:=by
 rw[E9 h,CA];unfold DH Jw;simp only[List.take_length];rcases h with h|h<;>rw[h]<;>rfl
theorem H8{s:Wk}{i:Ay}{n:Nat}(ho:BG n s)(h1:i.op≠34)(h2:i.op≠35)(h3:i.op≠36)(h4:i.op≠37):DH (Ar s i)=DH s:=by
 rw[Cl h1 h2 h3 h4];unfold DH;simp only;congr 1;apply List.map_congr_left;intro b hb;have:=Fa ho.opens b hb;have e:(Dc s.set i).take b.ahead=s.set.take b.ahead:=by
  unfold Dc;split
  .rw[List.take_append_of_le_length this]
  .rfl
 unfold Jw;rw[e]
theorem Cj{s:Wk}{n:Nat}(ho:BG n s)(h:0<s.opens.length):DH (AC s)=(DH s).take (s.opens.length-1):=by
 obtain⟨S,O⟩:=s;cases O with
 |nil=>simp at h
 |cons b r=>
  rw[CA];simp only[List.length_cons,Nat.add_sub_cancel];rw[List.take_append_of_le_length sM,List.take_of_length_le sM];unfold DH AC;simp only;cases hb:b.loop
  .simp only[Bool.false_eq_true,if_false];congr 1;apply List.map_congr_left;intro a ha;have:=Fa ho.opens.2 a ha;unfold Jw;rw[List.take_take,Nat.min_eq_left this]
  .simp only[if_true]
theorem Gs{s:Wk}(hl:Av s=false){o:Ob}(h:(DH s)[s.opens.length-1]? =some o)(h0:0<s.opens.length):(AC s).set=o.set:=by
 obtain⟨S,O⟩:=s;cases O with
 |nil=>simp at h0
 |cons b r=>
  rw[CA]at h;simp only[List.length_cons,Nat.add_sub_cancel]at h;rw[List.getElem?_append_right sM]at h;simp at h;subst h;have:b.loop=false:=hl;simp[AC,this,Jw]
theorem F4{s:Wk}(hl:Av s=true):(AC s).set=s.set:=by
 obtain⟨S,O⟩:=s;cases O with
 |nil=>rfl
 |cons b r=>
  have:b.loop=true:=hl;simp[AC,this]
theorem BE(s:Wk):(AC s).opens.length=s.opens.length-1:=by
 obtain⟨S,O⟩:=s;cases O with
 |nil=>rfl
 |cons b r=>simp[AC]
theorem Bv.step{c:Cd}{s:Wk}{i:Ay}(h:Bv s)(t:AH c s i=true):Bv (Ar s i):=by
 by_cases h1:i.op=34\/i.op=36
 .rw[E9 h1];intro b hb hl;rcases List.mem_cons.1 hb with rfl|hb
  .have h36:i.op=36:=by simpa using hl
   obtain⟨_,h2,_,_⟩:=Cw t;rw[h36]at h2;unfold AM B9 at h2;simp only[Bool.and_eq_true]at h2;have h3:=h2.2.2.2.2;rw[if_neg (show(Ad 36).n≠7 by decide)]at h3;simp only[Bool.and_eq_true]at h3;have h4:Ae i.n c.sign.length=true:=h3.2;exact(C9.1 h4).1
  .exact h b hb hl
 .by_cases h2:i.op=35\/i.op=37
  .rw[Ea h2];intro b hb hl;refine h b ?_ hl;unfold AC at hb;split at hb
   .rename_i e;rw[e];exact List.mem_cons_of_mem _ hb
   .exact hb
  .rw[Cl oM oM oM oM];exact h
theorem Bv.start:Bv ⟨[],[]⟩:=fun b hb=>by cases hb
end Go.Proofs.Ytheanilpbnencaa
