import Derived.Test.YtjglaibglofddaaGreatSpe10
import Derived.Test.YtjglaibglofddaaGreatSpe11
import Derived.Test.YtjglaibglofddaaGreatSpe8
import Derived.Test.YtjglaibglofddaaGreatSpe2
import Derived.Deep.AppendLies
import Derived.Test.YtjglaibglofddaaGreatSpe1
namespace Go.Proofs.YtjglaibglofddaaGreat
open Go.RowKit Go.Proofs.Tryz
set_option linter.all false
set_option maxRecDepth 100000
set_option maxHeartbeats 16000000
theorem IW(v0 v1 v2 v3:Value)(c:Cd)(hk:AZ c)(n p:Int)(hp:n=1->Ab p c.sign.length=true)(w:World)(hv:Cy w v0 v1 v2 v3 c):
 Calls prog 87 #[.agg #[v0,v1,v2,v3],.int .i64 n,.int .i64 p] w fun e w'=>e=.returned (.bool (n==0||(n==1&&BU c.sign p==2)))/\Below w.heap.size w w':=by
 have HB:=hk.signL;by_cases h0:n=0
 .subst h0;clear hp hv;go_enter func87,ntmps87;go_wp2;go_ret;exact⟨rfl,A0 _ _⟩
 .have h0':(n==0)=false:=by simpa using h0
  by_cases h1:n=1
  .subst h1;obtain⟨k,rfl,hkl⟩:=Cp (hp rfl);have hr:=hv.sign;obtain⟨p,q,rfl,hrr⟩:=hv.sign;obtain⟨lb,lo,rfl,hc⟩:=hr.at hkl;have e:BU c.sign (k:Int)=c.sign[k].kind:=by unfold BU;rw[Int.toNat_natCast,gB hkl];rfl
   rw[e];obtain⟨⟨nm,K,L⟩,ht⟩:∃t:Bd,c.sign[k]=t:=⟨_,rfl⟩
   rw[ht]at hc |-;have y1:w.cell? ⟨lb,lo+k*3+1,none⟩=some (.int .i64 K):=hc.at 1 rfl;have g1:∀o,(w.alloc o).cell? ⟨lb,lo+k*3+1,none⟩=some (.int .i64 K):=fun o=>kc (A0 _ _) y1;obtain⟨N,hN⟩:=gA (c.sign.length)
   rw[hN]at hkl HB |-;clear hr hrr hc ht e hp hv hN h0 hk;simp only;go_enter func87,ntmps87;go_wp2;go_ret;exact⟨A6 sM,A0 _ _⟩
  .have h1':(n==1)=false:=by simpa using h1
   rw[h0',h1'];clear hp hv h0 h1;go_enter func87,ntmps87;go_wp2;go_ret;exact⟨rfl,A0 _ _⟩
def El(i:Am):Int:=if As i.op||(i.op==29||(i.op==30||i.op==32))then i.d else if i.op==31||i.op==33 then i.a else -1
def Fc(rs:List Ty)(n:Int):Int:=if Ab n rs.length&&(A7 rs n).kind==3 then(A7 rs n).par else -1
theorem L5(v0 v1 v2 v3:Value)(c:Cd)(hk:AZ c)(i:Am)(w:World)(hv:Cy w v0 v1 v2 v3 c):
 Calls prog 60 #[.agg #[v0,v1,v2,v3],Dz i] w fun e w'=>e=.returned (.int .i64 (Fc c.regs (El i)))/\Below w.heap.size w w':=by
 have HB:=hk.regsL;have KE:Hid (∀v,Calls prog 88 #[.int .i64 i.op] v fun e w'=>e=.returned (.bool (As i.op))/\w'=v):=P8 i.op;have hr:=hv.regs;obtain⟨p,q,rfl,hrr⟩:=hv.regs;clear hv hk hrr;obtain⟨op,D,A,B,E,nn,bb⟩:=i;unfold Dz;simp only at KE |-;have BD:∀n:Int,(Ab n c.regs.length=false/\Fc c.regs n= -1)\/∃ (k:Nat) (lb lo:Nat) (K P:Int),n=(k:Int)/\k<c.regs.length/\p=some ⟨lb,lo,none⟩/\w.cell? ⟨lb,lo+k*2,none⟩=some (.int .i64 K)/\w.cell? ⟨lb,lo+k*2+1,none⟩=some (.int .i64 P)/\Fc c.regs n=if K==3 then P else -1:=by
  intro n;cases h:Ab n c.regs.length
  .exact .inl ⟨rfl,by unfold Fc;rw[h];rfl⟩
  .obtain⟨k,rfl,hkl⟩:=Cp h;obtain⟨lb,lo,hp,hc⟩:=hr.at hkl;refine .inr ⟨k,lb,lo,c.regs[k].kind,c.regs[k].par,rfl,hkl,hp,hc.at 0 rfl,hc.at 1 rfl,?_⟩;unfold Fc;rw[h,E3 rfl hkl,Bool.true_and]
 obtain⟨N,hN⟩:=gA (c.regs.length)
 rw[hN]at HB BD |-;clear hr;cases hX:As op
 .rw[hX]at KE;by_cases a29:op=29
  .subst a29;rw[show El ⟨29,D,A,B,E,nn,bb⟩=D from rfl];rcases BD D with⟨hpl,e9⟩|⟨k,lb,lo,K,P,rfl,hkl,rfl,y0,y1,e9⟩
   .rw[e9];clear BD e9;by_cases h0:D<0
    .exact GK
    .have h1:(N:Int)<=D:=by unfold Ab at hpl;simp at hpl;omega
     exact GK
   .rw[e9];clear BD e9;have g0:∀o o',((w.alloc o).alloc o').cell? ⟨lb,lo+k*2,none⟩=some (.int .i64 K):=fun o o'=>kc (bel (A0 _ _) (A0 _ _)) y0;have g1:∀o o',((w.alloc o).alloc o').cell? ⟨lb,lo+k*2+1,none⟩=some (.int .i64 P):=fun o o'=>kc (bel (A0 _ _) (A0 _ _)) y1;by_cases h3:K=3
    .subst h3;exact GK
    .have h3':(K==3)=false:=by simpa using h3
     have h3b:(K != 3)=true:=by simpa using h3
     rw[h3'];clear h3;exact GK
  by_cases a30:op=30
  .subst a30;rw[show El ⟨30,D,A,B,E,nn,bb⟩=D from rfl];rcases BD D with⟨hpl,e9⟩|⟨k,lb,lo,K,P,rfl,hkl,rfl,y0,y1,e9⟩
   .rw[e9];clear BD e9;by_cases h0:D<0
    .exact GK
    .have h1:(N:Int)<=D:=by unfold Ab at hpl;simp at hpl;omega
     exact GK
   .rw[e9];clear BD e9;have g0:∀o o',((w.alloc o).alloc o').cell? ⟨lb,lo+k*2,none⟩=some (.int .i64 K):=fun o o'=>kc (bel (A0 _ _) (A0 _ _)) y0;have g1:∀o o',((w.alloc o).alloc o').cell? ⟨lb,lo+k*2+1,none⟩=some (.int .i64 P):=fun o o'=>kc (bel (A0 _ _) (A0 _ _)) y1;by_cases h3:K=3
    .subst h3;exact GK
    .have h3':(K==3)=false:=by simpa using h3
     have h3b:(K != 3)=true:=by simpa using h3
     rw[h3'];clear h3;exact GK
  by_cases a32:op=32
  .subst a32;rw[show El ⟨32,D,A,B,E,nn,bb⟩=D from rfl];rcases BD D with⟨hpl,e9⟩|⟨k,lb,lo,K,P,rfl,hkl,rfl,y0,y1,e9⟩
   .rw[e9];clear BD e9;by_cases h0:D<0
    .exact GK
    .have h1:(N:Int)<=D:=by unfold Ab at hpl;simp at hpl;omega
     exact GK
   .rw[e9];clear BD e9;have g0:∀o o',((w.alloc o).alloc o').cell? ⟨lb,lo+k*2,none⟩=some (.int .i64 K):=fun o o'=>kc (bel (A0 _ _) (A0 _ _)) y0;have g1:∀o o',((w.alloc o).alloc o').cell? ⟨lb,lo+k*2+1,none⟩=some (.int .i64 P):=fun o o'=>kc (bel (A0 _ _) (A0 _ _)) y1;by_cases h3:K=3
    .subst h3;exact GK
    .have h3':(K==3)=false:=by simpa using h3
     have h3b:(K != 3)=true:=by simpa using h3
     rw[h3'];clear h3;exact GK
  by_cases a31:op=31
  .subst a31;rw[show El ⟨31,D,A,B,E,nn,bb⟩=A from rfl];rcases BD A with⟨hpl,e9⟩|⟨k,lb,lo,K,P,rfl,hkl,rfl,y0,y1,e9⟩
   .rw[e9];clear BD e9;by_cases h0:A<0
    .exact GK
    .have h1:(N:Int)<=A:=by unfold Ab at hpl;simp at hpl;omega
     exact GK
   .rw[e9];clear BD e9;have g0:∀o o',((w.alloc o).alloc o').cell? ⟨lb,lo+k*2,none⟩=some (.int .i64 K):=fun o o'=>kc (bel (A0 _ _) (A0 _ _)) y0;have g1:∀o o',((w.alloc o).alloc o').cell? ⟨lb,lo+k*2+1,none⟩=some (.int .i64 P):=fun o o'=>kc (bel (A0 _ _) (A0 _ _)) y1;by_cases h3:K=3
    .subst h3;exact GK
    .have h3':(K==3)=false:=by simpa using h3
     have h3b:(K != 3)=true:=by simpa using h3
     rw[h3'];clear h3;exact GK
  by_cases a33:op=33
  .subst a33;rw[show El ⟨33,D,A,B,E,nn,bb⟩=A from rfl];rcases BD A with⟨hpl,e9⟩|⟨k,lb,lo,K,P,rfl,hkl,rfl,y0,y1,e9⟩
   .rw[e9];clear BD e9;by_cases h0:A<0
    .exact GK
    .have h1:(N:Int)<=A:=by unfold Ab at hpl;simp at hpl;omega
     exact GK
   .rw[e9];clear BD e9;have g0:∀o o',((w.alloc o).alloc o').cell? ⟨lb,lo+k*2,none⟩=some (.int .i64 K):=fun o o'=>kc (bel (A0 _ _) (A0 _ _)) y0;have g1:∀o o',((w.alloc o).alloc o').cell? ⟨lb,lo+k*2+1,none⟩=some (.int .i64 P):=fun o o'=>kc (bel (A0 _ _) (A0 _ _)) y1;by_cases h3:K=3
    .subst h3;exact GK
    .have h3':(K==3)=false:=by simpa using h3
     have h3b:(K != 3)=true:=by simpa using h3
     rw[h3'];clear h3;exact GK
  .have b29:(op==29)=false:=by simpa using a29
   have b30:(op==30)=false:=by simpa using a30
   have b31:(op==31)=false:=by simpa using a31
   have b32:(op==32)=false:=by simpa using a32
   have b33:(op==33)=false:=by simpa using a33
   rw[show El ⟨op,D,A,B,E,nn,bb⟩= -1 by unfold El;simp[hX,b29,b30,b31,b32,b33]];rw[show Fc c.regs (-1)= -1 by unfold Fc Ab;simp];clear BD a29 a30 a31 a32 a33;exact GK
 .rw[hX]at KE;rw[show El ⟨op,D,A,B,E,nn,bb⟩=D by unfold El;simp[hX]];rcases BD D with⟨hpl,e9⟩|⟨k,lb,lo,K,P,rfl,hkl,rfl,y0,y1,e9⟩
  .rw[e9];clear BD e9;by_cases h0:D<0
   .exact GK
   .have h1:(N:Int)<=D:=by unfold Ab at hpl;simp at hpl;omega
    exact GK
  .rw[e9];clear BD e9;have g0:∀o o',((w.alloc o).alloc o').cell? ⟨lb,lo+k*2,none⟩=some (.int .i64 K):=fun o o'=>kc (bel (A0 _ _) (A0 _ _)) y0;have g1:∀o o',((w.alloc o).alloc o').cell? ⟨lb,lo+k*2+1,none⟩=some (.int .i64 P):=fun o o'=>kc (bel (A0 _ _) (A0 _ _)) y1;by_cases h3:K=3
   .subst h3;exact GK
   .have h3':(K==3)=false:=by simpa using h3
    have h3b:(K != 3)=true:=by simpa using h3
    rw[h3'];clear h3;exact GK
theorem Dc(a:Int)(h0:0<=a)(h1:a<4294967296)(w:World):Calls prog 58 #[.int .u32 a] w fun e w'=>e=.returned (.bool (BN a))/\Below w.heap.size w w':=by
 have hc:BN a=(A9 a==a):=by unfold BN A9;cases nan a<;>rw[Bool.eq_iff_iff]<;>simp
 rw[hc];have HK:Hid (∀w,Calls prog 66 #[.int .i64 a] w fun e w'=>e=.returned (.int .i64 (A9 a))/\Below w.heap.size w w'):=EJ a h0 h1;have hw:IntKind.i64.wrap a=a:=by rw[IntKind.wrap_i64];omega
 clear hc;obtain⟨x,hx⟩:=gA (A9 a)
 rw[hx]at HK |-;clear hx;go_enter func58,ntmps58;go_wp2_with(go_at_call 66;refine(HK.out _).mono ?_;rintro e w1 ⟨rfl,hb1⟩;have HB1:Hid _:=hb1;clear hb1);go_ret;exact⟨rfl,HB1.out⟩
theorem JA(s:Sl)(h0:0<=s.bits)(h1:s.bits<4294967296)(p:Option Addr)(n c:Nat)(hn:n<=140737488351232)(w:World):
 Calls prog 29 #[VK s,.slice p n c] w fun e w'=>e=.returned (.bool (AG s n))/\Below w.heap.size w w':=by
 have HK:Hid (∀w,Calls prog 58 #[.int .u32 s.bits] w fun e w'=>e=.returned (.bool (BN s.bits))/\Below w.heap.size w w'):=Dc s.bits h0 h1;have HT:Hid (∀w,Calls prog 28 #[DB s.ty,.slice p n c] w fun e w'=>e=.returned (.bool (Ak s.ty n))/\Below w.heap.size w w'):=FS s.ty p n c hn;obtain⟨⟨K,P⟩,Q,B,I⟩:=s;unfold AG DO VK Cs;unfold DB at HT;simp only at HK HT h0 h1 |-;obtain⟨X,hX⟩:=gA (BN B)
 obtain⟨Y,hY⟩:=gA (Ak ⟨K,P⟩ n)
 rw[hX]at HK |-;rw[hY]at HT |-;clear hX hY;cases Y
 .rw[Bool.false_and];exact Yj
 .rw[Bool.true_and];by_cases h2:K=2
  .subst h2;rw[if_pos rfl];cases hb:(B==0)
   .have hb':(B != 0)=true:=by simpa using hb
    exact Yk
   .by_cases hi:0<=I
    all_goals
     exact Yk
  .rw[if_neg h2];have h2':(K==2)=false:=by simpa using h2
   clear h2;cases hi:(I==0)
   all_goals
    exact Yj
structure Lt where
 a:Int
 b:Int
 c:Int
 d:Int
 e:Int
def CK(op:Int):Lt:=
 if op=1 then⟨110,45,45,45,45⟩
 else if op=2 then⟨119,45,45,45,105⟩
 else if op=3 then⟨97,99,45,45,45⟩
 else if 4<=op/\op<=10 then⟨100,120,120,45,45⟩
 else if 11<=op/\op<=14 then⟨100,120,45,45,45⟩
 else if op=15 then⟨100,120,120,120,45⟩
 else if op=16 then⟨110,110,119,45,45⟩
 else if op=17 then⟨110,119,45,45,45⟩
 else if op=18 then⟨119,110,45,45,45⟩
 else if 19<=op/\op<=20 then⟨110,118,45,45,45⟩
 else if op=21\/op=25 then⟨119,119,45,45,45⟩
 else if op=26 then⟨119,119,119,119,45⟩
 else if 22<=op/\op<=28 then⟨119,119,119,45,45⟩
 else if 29<=op/\op<=30 then⟨118,45,45,45,112⟩
 else if op=31 then⟨45,118,45,45,112⟩
 else if op=32 then⟨97,45,45,45,115⟩
 else if op=33 then⟨45,97,45,45,115⟩
 else if op=34 then⟨45,119,45,45,45⟩
 else if op=36 then⟨45,45,45,45,113⟩
 else⟨45,45,45,45,45⟩
def dR(rs:List Ty)(l D:Int):Ty:=if l=45 then⟨0,0⟩else A7 rs D
def tR(rs:List Ty)(l0 l1 D A:Int):Ty:=if l0=45/\l1≠45 then A7 rs A else dR rs l0 D
def Ci(c:Cd)(l n:Int)(t:Ty):Bool:=
 if l=105 then Cs n
 else if l=112 then n==0||(n==1&&BU c.sign t.par==2)
 else if l=115 then Ab n c.slots.length&&decide (BZ c.slots n=t)
 else if l=113 then Ab n c.sign.length
 else n==0
def Dm(c:Cd)(i:Am)(L:Lt):Bool:=
 (i.op==1||i.bits==0)&&(BN i.bits&&(Af c.regs L.a i.d ⟨0,0⟩&&(Af c.regs L.b i.a (dR c.regs L.a i.d)&&(Af c.regs L.c i.b (dR c.regs L.a i.d)&&(Af c.regs L.d i.c (dR c.regs L.a i.d)&&Ci c L.e i.n (tR c.regs L.a L.b i.d i.a))))))
theorem Np{c:Cd}(h:Ad c=true){n:Int}(hp:Ab n c.regs.length=true):Ak (A7 c.regs n) c.sign.length=true:=by
 obtain⟨k,rfl,hk⟩:=Cp hp;rw[E3 rfl hk];unfold Ad at h;exact List.all_eq_true.1 h _ (gD hk)
theorem Nq{c:Cd}(h:Ad c=true){n:Int}(hp:Ab n c.regs.length=true)(hk:(A7 c.regs n).kind=1):(A7 c.regs n).par=0:=by
 have:=Np h hp;unfold Ak at this;rw[if_pos (.inl hk)]at this;simpa using this
theorem Y8{c:Cd}(h:Ad c=true){n m:Int}(hn:Ab n c.regs.length=true)(hm:Ab m c.regs.length=true)(hk:((A7 c.regs m).kind==1||(A7 c.regs m).kind==3)=true):
 ((A7 c.regs n).kind==1||decide (A7 c.regs n=A7 c.regs m))=(decide (A7 c.regs n=A7 c.regs m)||((A7 c.regs n).kind==1&&(A7 c.regs m).kind==3)):=by
 have h1:=Nq h hn;have h2:=Nq h hm;generalize A7 c.regs n=t at *;generalize A7 c.regs m=d at *;obtain⟨K,P⟩:=t;obtain⟨A,B⟩:=d;simp only at h1 h2 hk |-;rw[Bool.eq_iff_iff];simp only[Bool.or_eq_true,beq_iff_eq,decide_eq_true_eq,Bool.and_eq_true,Ty.mk.injEq]at hk |-;constructor
 .rintro(e|e)
  .rcases hk with k|k
   .exact .inl ⟨oM,by rw[h1 e,h2 k]⟩
   .exact .inr ⟨e,k⟩
  .exact .inl e
 .rintro(e|e)
  .exact .inr e
  .exact .inl e.1
theorem WR:BN 0=true:=dE
theorem DI(rs:List Ty)(n:Int)(d:Ty):Af rs 45 n d=(n==0):=if_pos rfl
theorem DQ(rs:List Ty)(n:Int)(d:Ty):A8 rs 0 n d=(n==0):=if_pos rfl
theorem Bl{l:Int}(h:l≠0)(rs:List Ty)(n:Int)(d:Ty):A8 rs l n d=(Ab n rs.length&&AN l (A7 rs n) d):=if_neg h
theorem Bg{l:Int}(h:l≠45)(rs:List Ty)(n:Int)(d:Ty):Af rs l n d=(Ab n rs.length&&Fb l (A7 rs n) d):=if_neg h
theorem Gb(rs:List Ty)(n:Int)(d m:Ty):Af rs 110 n d=A8 rs 1 n m:=by rw[Bg dE,Bl dE];rfl
theorem C7(rs:List Ty)(n:Int)(d m:Ty):Af rs 119 n d=A8 rs 2 n m:=by rw[Bg dE,Bl dE];rfl
theorem Ms(rs:List Ty)(n:Int)(d m:Ty):Af rs 118 n d=A8 rs 3 n m:=by rw[Bg dE,Bl dE];rfl
theorem Mr(rs:List Ty)(n:Int)(d m:Ty):Af rs 100 n d=A8 rs 4 n m:=by rw[Bg dE,Bl dE];rfl
theorem Aj(rs:List Ty)(n:Int)(d m:Ty):Af rs 45 n d=A8 rs 0 n m:=by rw[DI,DQ]
theorem Mq(rs:List Ty)(n:Int)(d:Ty):Af rs 97 n d=A8 rs 6 n (A7 rs n):=by rw[Bg dE,Bl dE];simp[Fb,AN]
theorem Vw(rs:List Ty)(n:Int)(d:Ty):Af rs 99 n d=A8 rs 5 n d:=by rw[Bg dE,Bl dE];simp[Fb,AN]
theorem Vx{c:Cd}(h:Ad c=true)(n:Int){m:Int}(hd:A8 c.regs 4 m (A7 c.regs m)=true):Af c.regs 120 n (A7 c.regs m)=A8 c.regs 5 n (A7 c.regs m):=by
 rw[Bg dE,Bl dE];rw[Bl dE]at hd;simp only[Bool.and_eq_true]at hd;cases hn:Ab n c.regs.length
 .rfl
 .rw[Bool.true_and,Bool.true_and];exact Y8 h hn hd.1 hd.2
theorem AM{c:Cd}{i:Am}{L:Lt}{R:Rw}(h1:i.op≠1)(h7:R.n≠7)(ha:Af c.regs L.a i.d ⟨0,0⟩=A8 c.regs R.d i.d (Ap c.regs i R))
 (hb:A8 c.regs R.d i.d (Ap c.regs i R)=true->Af c.regs L.b i.a (dR c.regs L.a i.d)=A8 c.regs R.a i.a (Ap c.regs i R))
 (hc:A8 c.regs R.d i.d (Ap c.regs i R)=true->Af c.regs L.c i.b (dR c.regs L.a i.d)=A8 c.regs R.b i.b (Ap c.regs i R))
 (hd:A8 c.regs R.d i.d (Ap c.regs i R)=true->Af c.regs L.d i.c (dR c.regs L.a i.d)=A8 c.regs R.c i.c (Ap c.regs i R))
 (he:Ci c L.e i.n (tR c.regs L.a L.b i.d i.a)=Fh c i.n R.n (Ap c.regs i R)):Dm c i L=B0 c i R:=by
 unfold Dm B0 AV;rw[if_neg h7,ha,he];have:(i.op==1)=false:=by simpa using h1
 rw[this,Bool.false_or];cases hX:A8 c.regs R.d i.d (Ap c.regs i R)
 .simp
 .rw[hb hX,hc hX,hd hX];cases hb:(i.bits==0)
  .simp
  .have:i.bits=0:=by simpa using hb
   rw[this,WR];simp
theorem Ke{c:Cd}(h:Ad c=true)(i:Am):Dm c i (CK i.op)=B0 c i (A5 i.op):=by
 have x:=fun n=>@Vx c h n i.d;by_cases h1:i.op=1
 .have e1:CK i.op=⟨110,45,45,45,45⟩:=by rw[h1];rfl
  have e2:A5 i.op=⟨1,0,0,0,7⟩:=by rw[h1];rfl
  rw[e1,e2];unfold Dm B0 AV;simp only;rw[h1,Gb _ _ _ (Ap c.regs i ⟨1,0,0,0,7⟩),DI,DI,DI,DQ,DQ,DQ];rw[show Ci c 45 i.n (tR c.regs 110 45 i.d i.a)=(i.n==0)from rfl];generalize A8 c.regs 1 i.d _=A1;cases A1<;>cases BN i.bits<;>simp
 unfold CK A5;rw[if_neg h1,if_neg h1];by_cases h2:i.op=2
 .rw[if_pos h2,if_pos h2];exact AM h1 dE (C7 _ _ _ _) (fun _=>Aj _ _ _ _) (fun _=>Aj _ _ _ _) (fun _=>Aj _ _ _ _) rfl
 rw[if_neg h2,if_neg h2];by_cases h3:i.op=3
 .rw[if_pos h3,if_pos h3];exact AM h1 dE (Mq _ _ _) (fun _=>Vw _ _ _) (fun _=>Aj _ _ _ _) (fun _=>Aj _ _ _ _) rfl
 rw[if_neg h3,if_neg h3];by_cases h4:4<=i.op/\i.op<=10
 .rw[if_pos h4,if_pos h4];exact AM h1 dE (Mr _ _ _ _) (x _) (x _) (fun _=>Aj _ _ _ _) rfl
 rw[if_neg h4,if_neg h4];by_cases h5:11<=i.op/\i.op<=14
 .rw[if_pos h5,if_pos h5];exact AM h1 dE (Mr _ _ _ _) (x _) (fun _=>Aj _ _ _ _) (fun _=>Aj _ _ _ _) rfl
 rw[if_neg h5,if_neg h5];by_cases h6:i.op=15
 .rw[if_pos h6,if_pos h6];exact AM h1 dE (Mr _ _ _ _) (x _) (x _) (x _) rfl
 rw[if_neg h6,if_neg h6];by_cases h7:i.op=16
 .rw[if_pos h7,if_pos h7];exact AM h1 dE (Gb _ _ _ _) (fun _=>Gb _ _ _ _) (fun _=>C7 _ _ _ _) (fun _=>Aj _ _ _ _) rfl
 rw[if_neg h7,if_neg h7];by_cases h8:i.op=17
 .rw[if_pos h8,if_pos h8];exact AM h1 dE (Gb _ _ _ _) (fun _=>C7 _ _ _ _) (fun _=>Aj _ _ _ _) (fun _=>Aj _ _ _ _) rfl
 rw[if_neg h8,if_neg h8];by_cases h9:i.op=18
 .rw[if_pos h9,if_pos h9];exact AM h1 dE (C7 _ _ _ _) (fun _=>Gb _ _ _ _) (fun _=>Aj _ _ _ _) (fun _=>Aj _ _ _ _) rfl
 rw[if_neg h9,if_neg h9];by_cases h10:19<=i.op/\i.op<=20
 .rw[if_pos h10,if_pos h10];exact AM h1 dE (Gb _ _ _ _) (fun _=>Ms _ _ _ _) (fun _=>Aj _ _ _ _) (fun _=>Aj _ _ _ _) rfl
 rw[if_neg h10,if_neg h10];by_cases h11:i.op=21\/i.op=25
 .rw[if_pos h11,if_pos h11];exact AM h1 dE (C7 _ _ _ _) (fun _=>C7 _ _ _ _) (fun _=>Aj _ _ _ _) (fun _=>Aj _ _ _ _) rfl
 rw[if_neg h11,if_neg h11];by_cases h12:i.op=26
 .rw[if_pos h12,if_pos h12];exact AM h1 dE (C7 _ _ _ _) (fun _=>C7 _ _ _ _) (fun _=>C7 _ _ _ _) (fun _=>C7 _ _ _ _) rfl
 rw[if_neg h12,if_neg h12];by_cases h13:22<=i.op/\i.op<=28
 .rw[if_pos h13,if_pos h13];exact AM h1 dE (C7 _ _ _ _) (fun _=>C7 _ _ _ _) (fun _=>C7 _ _ _ _) (fun _=>Aj _ _ _ _) rfl
 rw[if_neg h13,if_neg h13];by_cases h14:29<=i.op/\i.op<=30
 .rw[if_pos h14,if_pos h14];exact AM h1 dE (Ms _ _ _ _) (fun _=>Aj _ _ _ _) (fun _=>Aj _ _ _ _) (fun _=>Aj _ _ _ _) rfl
 rw[if_neg h14,if_neg h14];by_cases h15:i.op=31
 .rw[if_pos h15,if_pos h15];exact AM h1 dE (Aj _ _ _ _) (fun _=>Ms _ _ _ _) (fun _=>Aj _ _ _ _) (fun _=>Aj _ _ _ _) rfl
 rw[if_neg h15,if_neg h15];by_cases h16:i.op=32
 .rw[if_pos h16,if_pos h16];exact AM h1 dE (Mq _ _ _) (fun _=>Aj _ _ _ _) (fun _=>Aj _ _ _ _) (fun _=>Aj _ _ _ _) rfl
 rw[if_neg h16,if_neg h16];by_cases h17:i.op=33
 .rw[if_pos h17,if_pos h17];exact AM h1 dE (Aj _ _ _ _) (fun _=>Mq _ _ _) (fun _=>Aj _ _ _ _) (fun _=>Aj _ _ _ _) rfl
 rw[if_neg h17,if_neg h17];by_cases h18:i.op=34
 .rw[if_pos h18,if_pos h18];exact AM h1 dE (Aj _ _ _ _) (fun _=>C7 _ _ _ _) (fun _=>Aj _ _ _ _) (fun _=>Aj _ _ _ _) rfl
 rw[if_neg h18,if_neg h18];by_cases h19:i.op=36
 .rw[if_pos h19,if_pos h19];exact Z8
 rw[if_neg h19,if_neg h19];exact Z8
theorem O8(op:Int)(hk:An op=true):∃a b c d e:UInt8,((a.toNat:Int)=(CK op).a/\(b.toNat:Int)=(CK op).b/\(c.toNat:Int)=(CK op).c/\(d.toNat:Int)=(CK op).d/\(e.toNat:Int)=(CK op).e)/\∀w,Calls prog 62 #[.int .i64 op] w fun x w'=>x=.returned (.tuple #[.string ⟨#[a,b,c,d,e]⟩,.bool true])/\w'=w:=by
 have hh:1<=op/\op<=37:=by unfold An at hk;simp at hk;omega
 clear hk;have:op=1\/op=2\/op=3\/op=4\/op=5\/op=6\/op=7\/op=8\/op=9\/op=10\/op=11\/op=12\/op=13\/op=14\/op=15\/op=16\/op=17\/op=18\/op=19\/op=20\/op=21\/op=22\/op=23\/op=24\/op=25\/op=26\/op=27\/op=28\/op=29\/op=30\/op=31\/op=32\/op=33\/op=34\/op=35\/op=36\/op=37:=oM;rcases this with rfl|rfl|rfl|rfl|rfl|rfl|rfl|rfl|rfl|rfl|rfl|rfl|rfl|rfl|rfl|rfl|rfl|rfl|rfl|rfl|rfl|rfl|rfl|rfl|rfl|rfl|rfl|rfl|rfl|rfl|rfl|rfl|rfl|rfl|rfl|rfl|rfl
 .exact⟨_,_,_,_,_,⟨rfl,rfl,rfl,rfl,rfl⟩,fun w=>RF w⟩
 .exact⟨_,_,_,_,_,⟨rfl,rfl,rfl,rfl,rfl⟩,fun w=>RG w⟩
 .exact⟨_,_,_,_,_,⟨rfl,rfl,rfl,rfl,rfl⟩,fun w=>RH w⟩
 .exact⟨_,_,_,_,_,⟨rfl,rfl,rfl,rfl,rfl⟩,fun w=>RI w⟩
 .exact⟨_,_,_,_,_,⟨rfl,rfl,rfl,rfl,rfl⟩,fun w=>RJ w⟩
 .exact⟨_,_,_,_,_,⟨rfl,rfl,rfl,rfl,rfl⟩,fun w=>RK w⟩
 .exact⟨_,_,_,_,_,⟨rfl,rfl,rfl,rfl,rfl⟩,fun w=>RM w⟩
 .exact⟨_,_,_,_,_,⟨rfl,rfl,rfl,rfl,rfl⟩,fun w=>RN w⟩
 .exact⟨_,_,_,_,_,⟨rfl,rfl,rfl,rfl,rfl⟩,fun w=>RO w⟩
 .exact⟨_,_,_,_,_,⟨rfl,rfl,rfl,rfl,rfl⟩,fun w=>ND w⟩
 .exact⟨_,_,_,_,_,⟨rfl,rfl,rfl,rfl,rfl⟩,fun w=>NE w⟩
 .exact⟨_,_,_,_,_,⟨rfl,rfl,rfl,rfl,rfl⟩,fun w=>NF w⟩
 .exact⟨_,_,_,_,_,⟨rfl,rfl,rfl,rfl,rfl⟩,fun w=>NG w⟩
 .exact⟨_,_,_,_,_,⟨rfl,rfl,rfl,rfl,rfl⟩,fun w=>NH w⟩
 .exact⟨_,_,_,_,_,⟨rfl,rfl,rfl,rfl,rfl⟩,fun w=>NI w⟩
 .exact⟨_,_,_,_,_,⟨rfl,rfl,rfl,rfl,rfl⟩,fun w=>NJ w⟩
 .exact⟨_,_,_,_,_,⟨rfl,rfl,rfl,rfl,rfl⟩,fun w=>NK w⟩
 .exact⟨_,_,_,_,_,⟨rfl,rfl,rfl,rfl,rfl⟩,fun w=>NL w⟩
 .exact⟨_,_,_,_,_,⟨rfl,rfl,rfl,rfl,rfl⟩,fun w=>NM w⟩
 .exact⟨_,_,_,_,_,⟨rfl,rfl,rfl,rfl,rfl⟩,fun w=>NO w⟩
 .exact⟨_,_,_,_,_,⟨rfl,rfl,rfl,rfl,rfl⟩,fun w=>NP w⟩
 .exact⟨_,_,_,_,_,⟨rfl,rfl,rfl,rfl,rfl⟩,fun w=>NQ w⟩
 .exact⟨_,_,_,_,_,⟨rfl,rfl,rfl,rfl,rfl⟩,fun w=>NR w⟩
 .exact⟨_,_,_,_,_,⟨rfl,rfl,rfl,rfl,rfl⟩,fun w=>NS w⟩
 .exact⟨_,_,_,_,_,⟨rfl,rfl,rfl,rfl,rfl⟩,fun w=>NT w⟩
 .exact⟨_,_,_,_,_,⟨rfl,rfl,rfl,rfl,rfl⟩,fun w=>NU w⟩
 .exact⟨_,_,_,_,_,⟨rfl,rfl,rfl,rfl,rfl⟩,fun w=>NV w⟩
 .exact⟨_,_,_,_,_,⟨rfl,rfl,rfl,rfl,rfl⟩,fun w=>NY w⟩
 .exact⟨_,_,_,_,_,⟨rfl,rfl,rfl,rfl,rfl⟩,fun w=>NZ w⟩
 .exact⟨_,_,_,_,_,⟨rfl,rfl,rfl,rfl,rfl⟩,fun w=>O0 w⟩
 .exact⟨_,_,_,_,_,⟨rfl,rfl,rfl,rfl,rfl⟩,fun w=>O1 w⟩
 .exact⟨_,_,_,_,_,⟨rfl,rfl,rfl,rfl,rfl⟩,fun w=>O2 w⟩
 .exact⟨_,_,_,_,_,⟨rfl,rfl,rfl,rfl,rfl⟩,fun w=>O3 w⟩
 .exact⟨_,_,_,_,_,⟨rfl,rfl,rfl,rfl,rfl⟩,fun w=>O4 w⟩
 .exact⟨_,_,_,_,_,⟨rfl,rfl,rfl,rfl,rfl⟩,fun w=>O5 w⟩
 .exact⟨_,_,_,_,_,⟨rfl,rfl,rfl,rfl,rfl⟩,fun w=>O6 w⟩
 .exact⟨_,_,_,_,_,⟨rfl,rfl,rfl,rfl,rfl⟩,fun w=>O7 w⟩
def Br(b:Int):Prop:=b=45\/b=110\/b=119\/b=118\/b=100\/b=120\/b=99\/b=97
instance (b:Int):Decidable (Br b):=by unfold Br;infer_instance
def Ww(L:Lt):Bool:=decide (Br L.a)&&(decide (Br L.b)&&(decide (Br L.c)&&(decide (Br L.d)&&(decide (L.e=45\/L.e=105\/L.e=112\/L.e=115\/L.e=113)&&decide (L.e=112->L.a=118\/(L.a=45/\L.b=118))))))
theorem TR{p:Prop}[Decidable p]{x y:Lt}(h:Ww x=true)(k:Ww y=true):Ww (if p then x else y)=true:=by
 split
 .exact h
 .exact k
theorem TH(op:Int):Ww (CK op)=true:=by
 unfold CK
 iterate 19 refine TR dE ?_
 decide
theorem Vn(op:Int):Br (CK op).a/\Br (CK op).b/\Br (CK op).c/\Br (CK op).d/\((CK op).e=45\/(CK op).e=105\/(CK op).e=112\/(CK op).e=115\/(CK op).e=113)/\((CK op).e=112->(CK op).a=118\/((CK op).a=45/\(CK op).b=118)):=by
 have:=TH op;unfold Ww at this;simp only[Bool.and_eq_true,decide_eq_true_eq]at this;exact this
theorem R0(v0 v1 v2 v3:Value)(i:Am)(h0:0<=i.bits)(h1:i.bits<4294967296)(h:(An i.op&&((i.op==1||i.bits==0)&&BN i.bits))=false)(w:World):
 Calls prog 59 #[.agg #[v0,v1,v2,v3],Dz i] w fun e w'=>e=.returned (.bool false)/\Below w.heap.size w w':=by
 have HCAN:Hid (∀w,Calls prog 58 #[.int .u32 i.bits] w fun e w'=>e=.returned (.bool (BN i.bits))/\Below w.heap.size w w'):=Dc i.bits h0 h1;cases hk:An i.op
 .have HROW:Hid (∀w,Calls prog 62 #[.int .i64 i.op] w fun e w'=>e=.returned (.tuple #[.string ⟨#[]⟩,.bool false])/\w'=w):=IX i.op hk;obtain⟨op,D,A,B,E,n,bt⟩:=i;unfold Dz;simp only at HROW HCAN |-;clear h hk;go_enter func59,ntmps59;go_wp2_with(go_at_call 62;refine(HROW.out _).mono ?_;rintro e w1 ⟨rfl,rfl⟩);go_ret;exact PP
 .obtain⟨a,b,c,d,e,-,hc⟩:=O8 i.op hk;have HROW:Hid (∀w,Calls prog 62 #[.int .i64 i.op] w fun x w'=>x=.returned (.tuple #[.string ⟨#[a,b,c,d,e]⟩,.bool true])/\w'=w):=hc;rw[hk,Bool.true_and]at h;clear hc hk;obtain⟨op,D,A,B,E,n,bt⟩:=i;unfold Dz;simp only at HROW HCAN h |-;cases ho:(op==1)
  .have ho':(op != 1)=true:=by simpa using ho
   cases hz:(bt==0)
   .have hz':(bt != 0)=true:=by simpa using hz
    clear h;go_enter func59,ntmps59;go_wp2_with(go_at_call 62;refine(HROW.out _).mono ?_;rintro e w1 ⟨rfl,rfl⟩);go_ret;exact PP
   .rw[ho,hz,Bool.false_or,Bool.true_and]at h;rw[h]at HCAN;have hz':(bt != 0)=false:=by simpa using hz
    exact YD
  .rw[ho,Bool.true_or,Bool.true_and]at h;rw[h]at HCAN;have ho':(op != 1)=false:=by simpa using ho
   exact YD
structure TW(w:World)(v0 v1 v2 v3:Value)(J:Nat)(op D A B E n bt:Int)(v:World):Prop where
 bel:Below w.heap.size w v
 c0:v.cell? ⟨w.heap.size,0,none⟩=some v0
 c1:v.cell? ⟨w.heap.size,1,none⟩=some v1
 c2:v.cell? ⟨w.heap.size,2,none⟩=some v2
 c3:v.cell? ⟨w.heap.size,3,none⟩=some v3
 i0:v.cell? ⟨J,0,none⟩=some (.int .i64 op)
 i1:v.cell? ⟨J,1,none⟩=some (.int .i64 D)
 i2:v.cell? ⟨J,2,none⟩=some (.int .i64 A)
 i3:v.cell? ⟨J,3,none⟩=some (.int .i64 B)
 i4:v.cell? ⟨J,4,none⟩=some (.int .i64 E)
 i5:v.cell? ⟨J,5,none⟩=some (.int .i64 n)
 i6:v.cell? ⟨J,6,none⟩=some (.int .u32 bt)
theorem TW.next{w:World}{v0 v1 v2 v3:Value}{J:Nat}{op D A B E n bt:Int}{v v':World}(h:TW w v0 v1 v2 v3 J op D A B E n bt v)(k:Below v.heap.size v v'):TW w v0 v1 v2 v3 J op D A B E n bt v':=
 ⟨Go.Proofs.YtjglaibglofddaaGreat.bel h.bel k,kc k h.c0,kc k h.c1,kc k h.c2,kc k h.c3,kc k h.i0,kc k h.i1,kc k h.i2,kc k h.i3,kc k h.i4,kc k h.i5,kc k h.i6⟩
theorem TW.keep{w:World}{v0 v1 v2 v3:Value}{J:Nat}{op D A B E n bt:Int}{v:World}(h:TW w v0 v1 v2 v3 J op D A B E n bt v){g o:Nat}(x:Value)(h1:w.heap.size<g)(h2:g≠J):TW w v0 v1 v2 v3 J op D A B E n bt (v.setCell ⟨g,o,none⟩ x):=by
 have f1:∀j,(v.setCell ⟨g,o,none⟩ x).cell? ⟨w.heap.size,j,none⟩=v.cell? ⟨w.heap.size,j,none⟩:=fun j=>gC (gE (by show w.heap.size≠g;omega));have f2:∀j,(v.setCell ⟨g,o,none⟩ x).cell? ⟨J,j,none⟩=v.cell? ⟨J,j,none⟩:=fun j=>gC (gE (by show J≠g;omega));exact⟨h.bel.setCell XZ _,(f1 0).trans h.c0,(f1 1).trans h.c1,(f1 2).trans h.c2,(f1 3).trans h.c3,(f2 0).trans h.i0,(f2 1).trans h.i1,(f2 2).trans h.i2,(f2 3).trans h.i3,(f2 4).trans h.i4,(f2 5).trans h.i5,(f2 6).trans h.i6⟩
theorem TW.start(w:World)(v0 v1 v2 v3:Value)(op D A B E n bt:Int):TW w v0 v1 v2 v3 (w.heap.size+1) op D A B E n bt ((w.alloc (.cells #[v0,v1,v2,v3] 27)).alloc (.cells #[.int .i64 op,.int .i64 D,.int .i64 A,.int .i64 B,.int .i64 E,.int .i64 n,.int .u32 bt] 55)):=by
 have k:=A0 (w.alloc (.cells #[v0,v1,v2,v3] 27)) (.cells #[.int .i64 op,.int .i64 D,.int .i64 A,.int .i64 B,.int .i64 E,.int .i64 n,.int .u32 bt] 55);exact⟨Go.Proofs.YtjglaibglofddaaGreat.bel (A0 _ _) k,kc k sG,kc k sG,kc k sG,kc k sG,sG,sG,sG,sG,sG,sG,sG⟩
theorem CT{n:Nat}{w v:World}(h:Below n w v):Below n w v.drew:=h.drew
def Lm(s:Wk)(op:Int):Bool:=if op=34\/op=36 then decide (s.opens.length<64)else if op=35 then decide (0<s.opens.length)&& !Aq s else if op=37 then Aq s else true
def Kn(c:Cd)(s:Wk)(i:Am):Bool:=Aq s&&(i.op != 37&&Fc c.regs (El i) != BT s)
def D5(s:Wk):Prop:=∀b∈s.opens,b.loop=true->0<=b.par
theorem D5.inner{s:Wk}(h:D5 s)(hl:Aq s=true):0<=BT s:=by
 obtain⟨S,O⟩:=s;cases O with
 |nil=>exact Int.le_refl _
 |cons b r=>exact h b (List.mem_cons_self ..) hl
theorem Gp{i:Am}(h:BR i.op=false):El i= -1:=by
 unfold BR at h;simp only[Bool.or_eq_false_iff]at h;have h1:(i.op==29)=false/\(i.op==30)=false/\(i.op==31)=false/\(i.op==32)=false/\(i.op==33)=false:=by
  have:=h.1;simp only[Bool.and_eq_false_iff,decide_eq_false_iff_not]at this;simp only[beq_eq_false_iff_ne,ne_eq];omega
 unfold El;rw[h.2,h1.1,h1.2.1,h1.2.2.1,h1.2.2.2.1,h1.2.2.2.2];rfl
theorem PH{i:Am}(h:BR i.op=true):El i=Eh i (A5 i.op):=by
 unfold BR As at h;simp only[Bool.or_eq_true,Bool.and_eq_true,decide_eq_true_eq]at h;obtain⟨op,D,A,B,E,n,bb⟩:=i;simp only at h |-;have:op=3\/op=4\/op=5\/op=6\/op=7\/op=8\/op=9\/op=10\/op=11\/op=12\/op=13\/op=14\/op=15\/op=29\/op=30\/op=31\/op=32\/op=33:=oM;rcases this with rfl|rfl|rfl|rfl|rfl|rfl|rfl|rfl|rfl|rfl|rfl|rfl|rfl|rfl|rfl|rfl|rfl|rfl<;>rfl
theorem Gq(rs:List Ty):Fc rs (-1)= -1:=by unfold Fc Ab;simp
theorem UL{rs:List Ty}{n q:Int}(hq:0<=q):(Fc rs n=q)↔A7 rs n=⟨3,q⟩:=by
 unfold Fc;cases h:Ab n rs.length
 .have:A7 rs n=⟨0,0⟩:=by unfold A7;rw[h];rfl
  rw[this];simp;omega
 .rw[Bool.true_and];generalize A7 rs n=t;obtain⟨K,P⟩:=t;simp only[Ty.mk.injEq];by_cases hk:K=3
  .subst hk;simp
  .have:(K==3)=false:=by simpa using hk
   rw[this];constructor
   .intro e;simp at e;omega
   .intro e;exact absurd e.1 hk
theorem PD{c:Cd}{s:Wk}{i:Am}(hO:D5 s):Au c s i (A5 i.op)=(!Kn c s i&&Lm s i.op):=by
 have hO':=hO.inner;unfold Au Kn Lm;by_cases h1:i.op=34\/i.op=36
 .rw[if_pos h1,if_pos h1];have hv:Fc c.regs (El i)= -1:=by
   rw[Gp (by rcases h1 with e|e<;>rw[e]<;>decide),Gq]
  have h37:(i.op != 37)=true:=by rcases h1 with e|e<;>rw[e]<;>decide
  rw[hv,h37];cases hl:Aq s
  .rfl
  .have:=hO' hl;have e:((-1:Int) != BT s)=true:=sO;rw[e];rfl
 .rw[if_neg h1,if_neg h1];by_cases h2:i.op=35
  .rw[if_pos h2,if_pos h2];have hv:Fc c.regs (El i)= -1:=by rw[Gp (by rw[h2];decide),Gq]
   rw[hv,h2];have hE:(!s.opens.isEmpty)=decide (0<s.opens.length):=by cases s.opens<;>simp
   rw[hE];cases hl:Aq s
   .simp
   .have:=hO' hl;have e:((-1:Int) != BT s)=true:=sO;rw[e];simp
  .rw[if_neg h2,if_neg h2];by_cases h3:i.op=37
   .rw[if_pos h3,if_pos h3,h3];cases Aq s<;>rfl
   .rw[if_neg h3,if_neg h3];have h37:(i.op != 37)=true:=by simpa using h3
    rw[h37,Bool.true_and,Bool.and_true];cases hl:Aq s
    .rfl
    .have hq:=hO' hl;rw[Bool.not_true,Bool.false_or,Bool.true_and];cases hlp:BR i.op
     .rw[Gp hlp,Gq];have e:((-1:Int) != BT s)=true:=sO;rw[e];rfl
     .rw[PH hlp,Bool.true_and];unfold Ap;rw[Bool.eq_iff_iff,decide_eq_true_eq,<-UL hq];simp
theorem PF{c:Cd}{s:Wk}{i:Am}(hT:Ad c=true)(hO:D5 s):AF c s i=((An i.op&&Dm c i (CK i.op))&&(!Kn c s i&&(EK s i (A5 i.op)&&Lm s i.op))):=by
 unfold AF;rw[Ke hT,PD hO];cases An i.op<;>cases B0 c i (A5 i.op)<;>cases Kn c s i<;>cases Lm s i.op<;>simp
structure Ob where
 op:Int
 par:Int
 set:List Nat
def Vu(S:List Nat)(b:Bk):Ob:=⟨if b.loop then 36 else 34,b.par,S.take b.ahead⟩
def Is(s:Wk):List Ob:=(s.opens.map (Vu s.set)).reverse
theorem GV(s:Wk):(Is s).length=s.opens.length:=by simp[Is]
theorem FI(S:List Nat)(b:Bk)(r:List Bk):Is ⟨S,b::r⟩=(r.map (Vu S)).reverse++[Vu S b]:=by simp[Is]
theorem QI{s:Wk}(h:0<s.opens.length):∃X,(Is s)[s.opens.length-1]? =some ⟨if Aq s then 36 else 34,BT s,X⟩:=by
 obtain⟨S,O⟩:=s;cases O with
 |nil=>simp at h
 |cons b r=>
  refine⟨S.take b.ahead,?_⟩;rw[FI];simp only[List.length_cons,Nat.add_sub_cancel];rw[List.getElem?_append_right sM];simp only[List.length_reverse,List.length_map,Nat.sub_self];rfl
theorem JG{s:Wk}{i:Am}(h:i.op=34\/i.op=36):Al s i=⟨s.set,⟨i.op==36,i.n,s.set.length⟩::s.opens⟩:=by
 unfold Al EI;rw[Iu XW];unfold Du;rw[if_pos h]
theorem JH{s:Wk}{i:Am}(h:i.op=35\/i.op=37):Al s i=AE s:=by
 unfold Al EI;rw[Iu XW];unfold Du;rw[if_neg oM,if_pos h]
theorem F4{s:Wk}{i:Am}(h1:i.op≠34)(h2:i.op≠35)(h3:i.op≠36)(h4:i.op≠37):Al s i=⟨GM s.set i,s.opens⟩:=by
 unfold Al EI Du;rw[if_neg oM,if_neg oM];unfold F7 GM;split<;>rfl
theorem QJ{s:Wk}{i:Am}(h:i.op=34\/i.op=36):Is (Al s i)=Is s++[⟨i.op,i.n,s.set⟩]:=by
 rw[JG h,FI];unfold Is Vu;simp only[List.take_length];rcases h with h|h<;>rw[h]<;>rfl
theorem QK{s:Wk}{i:Am}{n:Nat}(ho:D4 n s)(h1:i.op≠34)(h2:i.op≠35)(h3:i.op≠36)(h4:i.op≠37):Is (Al s i)=Is s:=by
 rw[F4 h1 h2 h3 h4];unfold Is;simp only;congr 1;apply List.map_congr_left;intro b hb;have:=Mp ho.opens b hb;have e:(GM s.set i).take b.ahead=s.set.take b.ahead:=by
  unfold GM;split
  .rw[List.take_append_of_le_length this]
  .rfl
 unfold Vu;rw[e]
theorem F0{s:Wk}{n:Nat}(ho:D4 n s)(h:0<s.opens.length):Is (AE s)=(Is s).take (s.opens.length-1):=by
 obtain⟨S,O⟩:=s;cases O with
 |nil=>simp at h
 |cons b r=>
  rw[FI];simp only[List.length_cons,Nat.add_sub_cancel];rw[List.take_append_of_le_length sM,List.take_of_length_le sM];unfold Is AE;simp only;cases hb:b.loop
  .simp only[Bool.false_eq_true,if_false];congr 1;apply List.map_congr_left;intro a ha;have:=Mp ho.opens.2 a ha;unfold Vu;rw[List.take_take,Nat.min_eq_left this]
  .simp only[if_true]
theorem OP{s:Wk}(hl:Aq s=false){o:Ob}(h:(Is s)[s.opens.length-1]? =some o)(h0:0<s.opens.length):(AE s).set=o.set:=by
 obtain⟨S,O⟩:=s;cases O with
 |nil=>simp at h0
 |cons b r=>
  rw[FI]at h;simp only[List.length_cons,Nat.add_sub_cancel]at h;rw[List.getElem?_append_right sM]at h;simp at h;subst h;have:b.loop=false:=hl;simp[AE,this,Vu]
theorem Mh{s:Wk}(hl:Aq s=true):(AE s).set=s.set:=by
 obtain⟨S,O⟩:=s;cases O with
 |nil=>rfl
 |cons b r=>
  have:b.loop=true:=hl;simp[AE,this]
theorem Dp(s:Wk):(AE s).opens.length=s.opens.length-1:=by
 obtain⟨S,O⟩:=s;cases O with
 |nil=>rfl
 |cons b r=>simp[AE]
theorem D5.step{c:Cd}{s:Wk}{i:Am}(h:D5 s)(t:AF c s i=true):D5 (Al s i):=by
 by_cases h1:i.op=34\/i.op=36
 .rw[JG h1];intro b hb hl;rcases List.mem_cons.1 hb with rfl|hb
  .have h36:i.op=36:=by simpa using hl
   obtain⟨_,h2,_,_⟩:=AX t;rw[h36]at h2;unfold B0 AV at h2;simp only[Bool.and_eq_true]at h2;have h3:=h2.2.2.2.2;rw[if_neg (show(A5 36).n≠7 by decide)]at h3;simp only[Bool.and_eq_true]at h3;have h4:Ab i.n c.sign.length=true:=h3.2;exact(CD.1 h4).1
  .exact h b hb hl
 .by_cases h2:i.op=35\/i.op=37
  .rw[JH h2];intro b hb hl;refine h b ?_ hl;unfold AE at hb;split at hb
   .rename_i e;rw[e];exact List.mem_cons_of_mem _ hb
   .exact hb
  .rw[F4 oM oM oM oM];exact h
theorem D5.start:D5 ⟨[],[]⟩:=fun b hb=>by cases hb
theorem Kr{B:Nat}{V:World}{e t:TypeId}{z:Value}{sz by':Nat}(ht:prog.underlying t=some (.slice e))(hi:(prog.info? e).map (fun i=>(i.zero,i.size,i.bytes))=some (some z,sz,by'))(hzs:z.cells.size=sz)(hsz:0<sz){p:Option Addr}{n q:Nat}{xs:List Value}(h:V.ownsRow B e sz (.slice p n q) n xs)(hB:B<=V.heap.size)
 (cs:Array Value) (hcs:cs.size=sz) (h1:∀u∈cs.toList,u.oneCell'=true) (hn:n+1<=maxLen) (hb:(n+1)*by'<=140737488355328) (ty:TypeId):
 ∃g c' w',(Builtin.append_ #[t,t] ty #[.slice p n q,.slice (some ⟨V.heap.size,0,none⟩) 1 1]).run prog (V.alloc (.cells cs e))=.ok (.slice (some ⟨g,0,none⟩) (n+1) c') w'/\Below B V w'/\w'.ownsRow B e sz (.slice (some ⟨g,0,none⟩) (n+1) c') (n+1) (xs++cs.toList)/\(∀b,b<V.heap.size->(Value.slice p n q).ownBlock≠some b->w'.heap[b]? =V.heap[b]?)/\((Value.slice p n q).ownBlock=some g\/V.heap.size<g):=by
 obtain⟨i0,hi0,hz0,hz1,hz2⟩:=info_parts hi;have hb0:Below V.heap.size V (V.alloc (.cells cs e)):=A0 _ _;have hs:(V.alloc (.cells cs e)).heap.size=V.heap.size+1:=sM;have h0:=AA h hb0;obtain⟨g,cap,w3,hr,hown,hgrow,hat,hlt⟩:=run_append_lies (P:=prog) (V.alloc (.cells cs e)) t ty B e i0 _ sz by' ht hi0 hz0 hz1 hz2 hzs hsz (.slice p n q) n xs h0 ⟨V.heap.size,0,none⟩ 1 1 cs.toList (by simp[hcs])
  (World.news_of_block (cs:=cs) (t:=e) (fr:=(0,0)) (heap_alloc_new V _)) h1 dE hn hb oM _ rfl
 exact YL
end Go.Proofs.YtjglaibglofddaaGreat
