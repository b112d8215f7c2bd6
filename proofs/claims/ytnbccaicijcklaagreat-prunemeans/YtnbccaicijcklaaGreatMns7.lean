import Derived.Test.YtnbccaicijcklaaGreatMns5
import Derived.Test.YtnbccaicijcklaaGreatMns6
import Derived.Test.YtnbccaicijcklaaGreatMns1
import Derived.Test.YtnbccaicijcklaaGreatMns2
import Derived.Shelf.Small.Bits
import Derived.Deep.OwnRows
import Derived.Lib.LazyBuf
import Derived.Deep.DeepCutAuto
namespace Go.Proofs.YtnbccaicijcklaaGreat
open Go.RowKit Go.Proofs.Tryz
set_option linter.all false
set_option maxRecDepth 100000
set_option maxHeartbeats 16000000
theorem Eg(a:Int)(h0:0<=a)(h1:a<4294967296)(w:World):Calls prog 56 #[.int .u32 a] w fun e w'=>e=.returned (.bool (CO a))/\Below w.heap.size w w':=by
 have hc:CO a=(An a==a):=by unfold CO An;cases nan a<;>rw[Bool.eq_iff_iff]<;>simp
 rw[hc];have HK:Hid (∀w,Calls prog 85 #[.int .i64 a] w fun e w'=>e=.returned (.int .i64 (An a))/\Below w.heap.size w w'):=G9 a h0 h1;have hw:IntKind.i64.wrap a=a:=by rw[IntKind.wrap_i64];omega
 clear hc;obtain⟨x,hx⟩:=gA (An a)
 rw[hx]at HK |-;clear hx;go_enter func56,ntmps56;go_wp2_with(go_at_call 85;refine(HK.out _).mono ?_;rintro e w1 ⟨rfl,hb1⟩;have HB1:Hid _:=hb1;clear hb1);go_ret;exact⟨rfl,HB1.out⟩
theorem N8(s:Sl)(h0:0<=s.bits)(h1:s.bits<4294967296)(p:Option Addr)(n c:Nat)(hn:n<=140737488351232)(w:World):
 Calls prog 35 #[Sk s,.slice p n c] w fun e w'=>e=.returned (.bool (Be s n))/\Below w.heap.size w w':=by
 have HK:Hid (∀w,Calls prog 56 #[.int .u32 s.bits] w fun e w'=>e=.returned (.bool (CO s.bits))/\Below w.heap.size w w'):=Eg s.bits h0 h1;have HT:Hid (∀w,Calls prog 34 #[DY s.ty,.slice p n c] w fun e w'=>e=.returned (.bool (AF s.ty n))/\Below w.heap.size w w'):=Hw s.ty p n c hn;obtain⟨⟨K,P⟩,Q,B,I⟩:=s;unfold Be EN Sk Du;unfold DY at HT;simp only at HK HT h0 h1 |-;obtain⟨X,hX⟩:=gA (CO B)
 obtain⟨Y,hY⟩:=gA (AF ⟨K,P⟩ n)
 rw[hX]at HK |-;rw[hY]at HT |-;clear hX hY;cases Y
 .rw[Bool.false_and];exact Zbr
 .rw[Bool.true_and];by_cases h2:K=2
  .subst h2;rw[if_pos rfl];cases hb:(B==0)
   .have hb':(B != 0)=true:=by simpa using hb
    exact Zbs
   .by_cases hi:0<=I
    all_goals
     exact Zbs
  .rw[if_neg h2];have h2':(K==2)=false:=by simpa using h2
   clear h2;cases hi:(I==0)
   all_goals
    exact Zbr
structure Lt where
 a:Int
 b:Int
 c:Int
 d:Int
 e:Int
def DR(op:Int):Lt:=
 if op=1 then⟨110,45,45,45,45⟩
 else if op=2 then⟨119,45,45,45,105⟩
 else if op=3 then⟨97,99,45,45,45⟩
 else if 4<=op/\op<=10 then⟨100,120,120,45,45⟩
 else if 11<=op/\op<=14 then⟨100,120,45,45,45⟩
 else if op=15 then⟨100,120,120,120,45⟩
 else if op=16 then⟨110,110,119,45,45⟩
 else if op=17 then⟨110,119,45,45,45⟩
 else if op=18 then⟨119,110,45,45,45⟩
 else if 19<=op/\op<=20 then⟨110,118,45,45,45⟩
 else if op=21\/op=25 then⟨119,119,45,45,45⟩
 else if op=26 then⟨119,119,119,119,45⟩
 else if 22<=op/\op<=28 then⟨119,119,119,45,45⟩
 else if 29<=op/\op<=30 then⟨118,45,45,45,112⟩
 else if op=31 then⟨45,118,45,45,112⟩
 else if op=32 then⟨97,45,45,45,115⟩
 else if op=33 then⟨45,97,45,45,115⟩
 else if op=34 then⟨45,119,45,45,45⟩
 else if op=36 then⟨45,45,45,45,113⟩
 else⟨45,45,45,45,45⟩
def dR(rs:List Ty)(l D:Int):Ty:=if l=45 then⟨0,0⟩else Aa rs D
def tR(rs:List Ty)(l0 l1 D A:Int):Ty:=if l0=45/\l1≠45 then Aa rs A else dR rs l0 D
def Dm(c:Cd)(l n:Int)(t:Ty):Bool:=
 if l=105 then Du n
 else if l=112 then n==0||(n==1&&CV c.sign t.par==2)
 else if l=115 then Av n c.slots.length&&decide (Cw c.slots n=t)
 else if l=113 then Av n c.sign.length
 else n==0
def Ew(c:Cd)(i:Ad)(L:Lt):Bool:=
 (i.op==1||i.bits==0)&&(CO i.bits&&(At c.regs L.a i.d ⟨0,0⟩&&(At c.regs L.b i.a (dR c.regs L.a i.d)&&(At c.regs L.c i.b (dR c.regs L.a i.d)&&(At c.regs L.d i.c (dR c.regs L.a i.d)&&Dm c L.e i.n (tR c.regs L.a L.b i.d i.a))))))
theorem Rj{c:Cd}(h:Ax c=true){n:Int}(hp:Av n c.regs.length=true):AF (Aa c.regs n) c.sign.length=true:=by
 obtain⟨k,rfl,hk⟩:=Dr hp;rw[Ft rfl hk];unfold Ax at h;exact List.all_eq_true.1 h _ (gD hk)
theorem Rl{c:Cd}(h:Ax c=true){n:Int}(hp:Av n c.regs.length=true)(hk:(Aa c.regs n).kind=1):(Aa c.regs n).par=0:=by
 have:=Rj h hp;unfold AF at this;rw[if_pos (.inl hk)]at this;simpa using this
theorem x_eq{c:Cd}(h:Ax c=true){n m:Int}(hn:Av n c.regs.length=true)(hm:Av m c.regs.length=true)(hk:((Aa c.regs m).kind==1||(Aa c.regs m).kind==3)=true):
 ((Aa c.regs n).kind==1||decide (Aa c.regs n=Aa c.regs m))=(decide (Aa c.regs n=Aa c.regs m)||((Aa c.regs n).kind==1&&(Aa c.regs m).kind==3)):=by
 have h1:=Rl h hn;have h2:=Rl h hm;generalize Aa c.regs n=t at *;generalize Aa c.regs m=d at *;obtain⟨K,P⟩:=t;obtain⟨A,B⟩:=d;simp only at h1 h2 hk |-;rw[Bool.eq_iff_iff];simp only[Bool.or_eq_true,beq_iff_eq,decide_eq_true_eq,Bool.and_eq_true,Ty.mk.injEq]at hk |-;constructor
 .rintro(e|e)
  .rcases hk with k|k
   .exact .inl ⟨oM,by rw[h1 e,h2 k]⟩
   .exact .inr ⟨e,k⟩
  .exact .inl e
 .rintro(e|e)
  .exact .inr e
  .exact .inl e.1
theorem told0:CO 0=true:=dE
theorem F1(rs:List Ty)(n:Int)(d:Ty):At rs 45 n d=(n==0):=if_pos rfl
theorem Fb(rs:List Ty)(n:Int)(d:Ty):Ah rs 0 n d=(n==0):=if_pos rfl
theorem C0{l:Int}(h:l≠0)(rs:List Ty)(n:Int)(d:Ty):Ah rs l n d=(Av n rs.length&&B7 l (Aa rs n) d):=if_neg h
theorem BV{l:Int}(h:l≠45)(rs:List Ty)(n:Int)(d:Ty):At rs l n d=(Av n rs.length&&GD l (Aa rs n) d):=if_neg h
theorem Ip(rs:List Ty)(n:Int)(d m:Ty):At rs 110 n d=Ah rs 1 n m:=by rw[BV dE,C0 dE];rfl
theorem Db(rs:List Ty)(n:Int)(d m:Ty):At rs 119 n d=Ah rs 2 n m:=by rw[BV dE,C0 dE];rfl
theorem Qb(rs:List Ty)(n:Int)(d m:Ty):At rs 118 n d=Ah rs 3 n m:=by rw[BV dE,C0 dE];rfl
theorem Qa(rs:List Ty)(n:Int)(d m:Ty):At rs 100 n d=Ah rs 4 n m:=by rw[BV dE,C0 dE];rfl
theorem Ay(rs:List Ty)(n:Int)(d m:Ty):At rs 45 n d=Ah rs 0 n m:=by rw[F1,Fb]
theorem Q9(rs:List Ty)(n:Int)(d:Ty):At rs 97 n d=Ah rs 6 n (Aa rs n):=by rw[BV dE,C0 dE];simp[GD,B7]
theorem oper_c(rs:List Ty)(n:Int)(d:Ty):At rs 99 n d=Ah rs 5 n d:=by rw[BV dE,C0 dE];simp[GD,B7]
theorem oper_x{c:Cd}(h:Ax c=true)(n:Int){m:Int}(hd:Ah c.regs 4 m (Aa c.regs m)=true):At c.regs 120 n (Aa c.regs m)=Ah c.regs 5 n (Aa c.regs m):=by
 rw[BV dE,C0 dE];rw[C0 dE]at hd;simp only[Bool.and_eq_true]at hd;cases hn:Av n c.regs.length
 .rfl
 .rw[Bool.true_and,Bool.true_and];exact x_eq h hn hd.1 hd.2
theorem B9{c:Cd}{i:Ad}{L:Lt}{R:Rw}(h1:i.op≠1)(h7:R.n≠7)(ha:At c.regs L.a i.d ⟨0,0⟩=Ah c.regs R.d i.d (AC c.regs i R))
 (hb:Ah c.regs R.d i.d (AC c.regs i R)=true->At c.regs L.b i.a (dR c.regs L.a i.d)=Ah c.regs R.a i.a (AC c.regs i R))
 (hc:Ah c.regs R.d i.d (AC c.regs i R)=true->At c.regs L.c i.b (dR c.regs L.a i.d)=Ah c.regs R.b i.b (AC c.regs i R))
 (hd:Ah c.regs R.d i.d (AC c.regs i R)=true->At c.regs L.d i.c (dR c.regs L.a i.d)=Ah c.regs R.c i.c (AC c.regs i R))
 (he:Dm c L.e i.n (tR c.regs L.a L.b i.d i.a)=EW c i.n R.n (AC c.regs i R)):Ew c i L=AS c i R:=by
 unfold Ew AS Bh;rw[if_neg h7,ha,he];have:(i.op==1)=false:=by simpa using h1
 rw[this,Bool.false_or];cases hX:Ah c.regs R.d i.d (AC c.regs i R)
 .simp
 .rw[hb hX,hc hX,hd hX];cases hb:(i.bits==0)
  .simp
  .have:i.bits=0:=by simpa using hb
   rw[this,told0];simp
theorem NK{c:Cd}(h:Ax c=true)(i:Ad):Ew c i (DR i.op)=AS c i (A4 i.op):=by
 have x:=fun n=>@oper_x c h n i.d;by_cases h1:i.op=1
 .have e1:DR i.op=⟨110,45,45,45,45⟩:=by rw[h1];rfl
  have e2:A4 i.op=⟨1,0,0,0,7⟩:=by rw[h1];rfl
  rw[e1,e2];unfold Ew AS Bh;simp only;rw[h1,Ip _ _ _ (AC c.regs i ⟨1,0,0,0,7⟩),F1,F1,F1,Fb,Fb,Fb];rw[show Dm c 45 i.n (tR c.regs 110 45 i.d i.a)=(i.n==0)from rfl];generalize Ah c.regs 1 i.d _=A1;cases A1<;>cases CO i.bits<;>simp
 unfold DR A4;rw[if_neg h1,if_neg h1];by_cases h2:i.op=2
 .rw[if_pos h2,if_pos h2];exact B9 h1 dE (Db _ _ _ _) (fun _=>Ay _ _ _ _) (fun _=>Ay _ _ _ _) (fun _=>Ay _ _ _ _) rfl
 rw[if_neg h2,if_neg h2];by_cases h3:i.op=3
 .rw[if_pos h3,if_pos h3];exact B9 h1 dE (Q9 _ _ _) (fun _=>oper_c _ _ _) (fun _=>Ay _ _ _ _) (fun _=>Ay _ _ _ _) rfl
 rw[if_neg h3,if_neg h3];by_cases h4:4<=i.op/\i.op<=10
 .rw[if_pos h4,if_pos h4];exact B9 h1 dE (Qa _ _ _ _) (x _) (x _) (fun _=>Ay _ _ _ _) rfl
 rw[if_neg h4,if_neg h4];by_cases h5:11<=i.op/\i.op<=14
 .rw[if_pos h5,if_pos h5];exact B9 h1 dE (Qa _ _ _ _) (x _) (fun _=>Ay _ _ _ _) (fun _=>Ay _ _ _ _) rfl
 rw[if_neg h5,if_neg h5];by_cases h6:i.op=15
 .rw[if_pos h6,if_pos h6];exact B9 h1 dE (Qa _ _ _ _) (x _) (x _) (x _) rfl
 rw[if_neg h6,if_neg h6];by_cases h7:i.op=16
 .rw[if_pos h7,if_pos h7];exact B9 h1 dE (Ip _ _ _ _) (fun _=>Ip _ _ _ _) (fun _=>Db _ _ _ _) (fun _=>Ay _ _ _ _) rfl
 rw[if_neg h7,if_neg h7];by_cases h8:i.op=17
 .rw[if_pos h8,if_pos h8];exact B9 h1 dE (Ip _ _ _ _) (fun _=>Db _ _ _ _) (fun _=>Ay _ _ _ _) (fun _=>Ay _ _ _ _) rfl
 rw[if_neg h8,if_neg h8];by_cases h9:i.op=18
 .rw[if_pos h9,if_pos h9];exact B9 h1 dE (Db _ _ _ _) (fun _=>Ip _ _ _ _) (fun _=>Ay _ _ _ _) (fun _=>Ay _ _ _ _) rfl
 rw[if_neg h9,if_neg h9];by_cases h10:19<=i.op/\i.op<=20
 .rw[if_pos h10,if_pos h10];exact B9 h1 dE (Ip _ _ _ _) (fun _=>Qb _ _ _ _) (fun _=>Ay _ _ _ _) (fun _=>Ay _ _ _ _) rfl
 rw[if_neg h10,if_neg h10];by_cases h11:i.op=21\/i.op=25
 .rw[if_pos h11,if_pos h11];exact B9 h1 dE (Db _ _ _ _) (fun _=>Db _ _ _ _) (fun _=>Ay _ _ _ _) (fun _=>Ay _ _ _ _) rfl
 rw[if_neg h11,if_neg h11];by_cases h12:i.op=26
 .rw[if_pos h12,if_pos h12];exact B9 h1 dE (Db _ _ _ _) (fun _=>Db _ _ _ _) (fun _=>Db _ _ _ _) (fun _=>Db _ _ _ _) rfl
 rw[if_neg h12,if_neg h12];by_cases h13:22<=i.op/\i.op<=28
 .rw[if_pos h13,if_pos h13];exact B9 h1 dE (Db _ _ _ _) (fun _=>Db _ _ _ _) (fun _=>Db _ _ _ _) (fun _=>Ay _ _ _ _) rfl
 rw[if_neg h13,if_neg h13];by_cases h14:29<=i.op/\i.op<=30
 .rw[if_pos h14,if_pos h14];exact B9 h1 dE (Qb _ _ _ _) (fun _=>Ay _ _ _ _) (fun _=>Ay _ _ _ _) (fun _=>Ay _ _ _ _) rfl
 rw[if_neg h14,if_neg h14];by_cases h15:i.op=31
 .rw[if_pos h15,if_pos h15];exact B9 h1 dE (Ay _ _ _ _) (fun _=>Qb _ _ _ _) (fun _=>Ay _ _ _ _) (fun _=>Ay _ _ _ _) rfl
 rw[if_neg h15,if_neg h15];by_cases h16:i.op=32
 .rw[if_pos h16,if_pos h16];exact B9 h1 dE (Q9 _ _ _) (fun _=>Ay _ _ _ _) (fun _=>Ay _ _ _ _) (fun _=>Ay _ _ _ _) rfl
 rw[if_neg h16,if_neg h16];by_cases h17:i.op=33
 .rw[if_pos h17,if_pos h17];exact B9 h1 dE (Ay _ _ _ _) (fun _=>Q9 _ _ _) (fun _=>Ay _ _ _ _) (fun _=>Ay _ _ _ _) rfl
 rw[if_neg h17,if_neg h17];by_cases h18:i.op=34
 .rw[if_pos h18,if_pos h18];exact B9 h1 dE (Ay _ _ _ _) (fun _=>Db _ _ _ _) (fun _=>Ay _ _ _ _) (fun _=>Ay _ _ _ _) rfl
 rw[if_neg h18,if_neg h18];by_cases h19:i.op=36
 .rw[if_pos h19,if_pos h19];exact Zfu
 rw[if_neg h19,if_neg h19];exact Zfu
theorem Si(op:Int)(hk:Al op=true):∃a b c d e:UInt8,((a.toNat:Int)=(DR op).a/\(b.toNat:Int)=(DR op).b/\(c.toNat:Int)=(DR op).c/\(d.toNat:Int)=(DR op).d/\(e.toNat:Int)=(DR op).e)/\∀w,Calls prog 38 #[.int .i64 op] w fun x w'=>x=.returned (.tuple #[.string ⟨#[a,b,c,d,e]⟩,.bool true])/\w'=w:=by
 have hh:1<=op/\op<=37:=by unfold Al at hk;simp at hk;omega
 clear hk;have:op=1\/op=2\/op=3\/op=4\/op=5\/op=6\/op=7\/op=8\/op=9\/op=10\/op=11\/op=12\/op=13\/op=14\/op=15\/op=16\/op=17\/op=18\/op=19\/op=20\/op=21\/op=22\/op=23\/op=24\/op=25\/op=26\/op=27\/op=28\/op=29\/op=30\/op=31\/op=32\/op=33\/op=34\/op=35\/op=36\/op=37:=oM;rcases this with rfl|rfl|rfl|rfl|rfl|rfl|rfl|rfl|rfl|rfl|rfl|rfl|rfl|rfl|rfl|rfl|rfl|rfl|rfl|rfl|rfl|rfl|rfl|rfl|rfl|rfl|rfl|rfl|rfl|rfl|rfl|rfl|rfl|rfl|rfl|rfl|rfl
 .exact⟨_,_,_,_,_,⟨rfl,rfl,rfl,rfl,rfl⟩,fun w=>Xi w⟩
 .exact⟨_,_,_,_,_,⟨rfl,rfl,rfl,rfl,rfl⟩,fun w=>Xj w⟩
 .exact⟨_,_,_,_,_,⟨rfl,rfl,rfl,rfl,rfl⟩,fun w=>Xk w⟩
 .exact⟨_,_,_,_,_,⟨rfl,rfl,rfl,rfl,rfl⟩,fun w=>Xl w⟩
 .exact⟨_,_,_,_,_,⟨rfl,rfl,rfl,rfl,rfl⟩,fun w=>Xm w⟩
 .exact⟨_,_,_,_,_,⟨rfl,rfl,rfl,rfl,rfl⟩,fun w=>Xn w⟩
 .exact⟨_,_,_,_,_,⟨rfl,rfl,rfl,rfl,rfl⟩,fun w=>Xo w⟩
 .exact⟨_,_,_,_,_,⟨rfl,rfl,rfl,rfl,rfl⟩,fun w=>Xp w⟩
 .exact⟨_,_,_,_,_,⟨rfl,rfl,rfl,rfl,rfl⟩,fun w=>Xq w⟩
 .exact⟨_,_,_,_,_,⟨rfl,rfl,rfl,rfl,rfl⟩,fun w=>RK w⟩
 .exact⟨_,_,_,_,_,⟨rfl,rfl,rfl,rfl,rfl⟩,fun w=>RM w⟩
 .exact⟨_,_,_,_,_,⟨rfl,rfl,rfl,rfl,rfl⟩,fun w=>RN w⟩
 .exact⟨_,_,_,_,_,⟨rfl,rfl,rfl,rfl,rfl⟩,fun w=>RO w⟩
 .exact⟨_,_,_,_,_,⟨rfl,rfl,rfl,rfl,rfl⟩,fun w=>RP w⟩
 .exact⟨_,_,_,_,_,⟨rfl,rfl,rfl,rfl,rfl⟩,fun w=>RQ w⟩
 .exact⟨_,_,_,_,_,⟨rfl,rfl,rfl,rfl,rfl⟩,fun w=>RS w⟩
 .exact⟨_,_,_,_,_,⟨rfl,rfl,rfl,rfl,rfl⟩,fun w=>RT w⟩
 .exact⟨_,_,_,_,_,⟨rfl,rfl,rfl,rfl,rfl⟩,fun w=>RU w⟩
 .exact⟨_,_,_,_,_,⟨rfl,rfl,rfl,rfl,rfl⟩,fun w=>RV w⟩
 .exact⟨_,_,_,_,_,⟨rfl,rfl,rfl,rfl,rfl⟩,fun w=>RX w⟩
 .exact⟨_,_,_,_,_,⟨rfl,rfl,rfl,rfl,rfl⟩,fun w=>RY w⟩
 .exact⟨_,_,_,_,_,⟨rfl,rfl,rfl,rfl,rfl⟩,fun w=>RZ w⟩
 .exact⟨_,_,_,_,_,⟨rfl,rfl,rfl,rfl,rfl⟩,fun w=>S2 w⟩
 .exact⟨_,_,_,_,_,⟨rfl,rfl,rfl,rfl,rfl⟩,fun w=>S3 w⟩
 .exact⟨_,_,_,_,_,⟨rfl,rfl,rfl,rfl,rfl⟩,fun w=>S4 w⟩
 .exact⟨_,_,_,_,_,⟨rfl,rfl,rfl,rfl,rfl⟩,fun w=>S6 w⟩
 .exact⟨_,_,_,_,_,⟨rfl,rfl,rfl,rfl,rfl⟩,fun w=>S7 w⟩
 .exact⟨_,_,_,_,_,⟨rfl,rfl,rfl,rfl,rfl⟩,fun w=>S8 w⟩
 .exact⟨_,_,_,_,_,⟨rfl,rfl,rfl,rfl,rfl⟩,fun w=>S9 w⟩
 .exact⟨_,_,_,_,_,⟨rfl,rfl,rfl,rfl,rfl⟩,fun w=>Sa w⟩
 .exact⟨_,_,_,_,_,⟨rfl,rfl,rfl,rfl,rfl⟩,fun w=>Sb w⟩
 .exact⟨_,_,_,_,_,⟨rfl,rfl,rfl,rfl,rfl⟩,fun w=>Sc w⟩
 .exact⟨_,_,_,_,_,⟨rfl,rfl,rfl,rfl,rfl⟩,fun w=>Sd w⟩
 .exact⟨_,_,_,_,_,⟨rfl,rfl,rfl,rfl,rfl⟩,fun w=>Se w⟩
 .exact⟨_,_,_,_,_,⟨rfl,rfl,rfl,rfl,rfl⟩,fun w=>Sf w⟩
 .exact⟨_,_,_,_,_,⟨rfl,rfl,rfl,rfl,rfl⟩,fun w=>Sg w⟩
 .exact⟨_,_,_,_,_,⟨rfl,rfl,rfl,rfl,rfl⟩,fun w=>Sh w⟩
def Ca(b:Int):Prop:=b=45\/b=110\/b=119\/b=118\/b=100\/b=120\/b=99\/b=97
instance (b:Int):Decidable (Ca b):=by unfold Ca;infer_instance
def okL(L:Lt):Bool:=decide (Ca L.a)&&(decide (Ca L.b)&&(decide (Ca L.c)&&(decide (Ca L.d)&&(decide (L.e=45\/L.e=105\/L.e=112\/L.e=115\/L.e=113)&&decide (L.e=112->L.a=118\/(L.a=45/\L.b=118))))))
theorem Zx{p:Prop}[Decidable p]{x y:Lt}(h:okL x=true)(k:okL y=true):okL (if p then x else y)=true:=by
 split
 .exact h
 .exact k
theorem Zm(op:Int):okL (DR op)=true:=by
 unfold DR
 iterate 19 refine Zx dE ?_
 decide
theorem ltR_ok(op:Int):Ca (DR op).a/\Ca (DR op).b/\Ca (DR op).c/\Ca (DR op).d/\((DR op).e=45\/(DR op).e=105\/(DR op).e=112\/(DR op).e=115\/(DR op).e=113)/\((DR op).e=112->(DR op).a=118\/((DR op).a=45/\(DR op).b=118)):=by
 have:=Zm op;unfold okL at this;simp only[Bool.and_eq_true,decide_eq_true_eq]at this;exact this
theorem Wy(v0 v1 v2 v3:Value)(i:Ad)(h0:0<=i.bits)(h1:i.bits<4294967296)(h:(Al i.op&&((i.op==1||i.bits==0)&&CO i.bits))=false)(w:World):
 Calls prog 57 #[.agg #[v0,v1,v2,v3],Ch i] w fun e w'=>e=.returned (.bool false)/\Below w.heap.size w w':=by
 have HCAN:Hid (∀w,Calls prog 56 #[.int .u32 i.bits] w fun e w'=>e=.returned (.bool (CO i.bits))/\Below w.heap.size w w'):=Eg i.bits h0 h1;cases hk:Al i.op
 .have HROW:Hid (∀w,Calls prog 38 #[.int .i64 i.op] w fun e w'=>e=.returned (.tuple #[.string ⟨#[]⟩,.bool false])/\w'=w):=Ma i.op hk;obtain⟨op,D,A,B,E,n,bt⟩:=i;unfold Ch;simp only at HROW HCAN |-;clear h hk;go_enter func57,ntmps57;go_wp2_with(go_at_call 38;refine(HROW.out _).mono ?_;rintro e w1 ⟨rfl,rfl⟩);go_ret;exact UP
 .obtain⟨a,b,c,d,e,-,hc⟩:=Si i.op hk;have HROW:Hid (∀w,Calls prog 38 #[.int .i64 i.op] w fun x w'=>x=.returned (.tuple #[.string ⟨#[a,b,c,d,e]⟩,.bool true])/\w'=w):=hc;rw[hk,Bool.true_and]at h;clear hc hk;obtain⟨op,D,A,B,E,n,bt⟩:=i;unfold Ch;simp only at HROW HCAN h |-;cases ho:(op==1)
  .have ho':(op != 1)=true:=by simpa using ho
   cases hz:(bt==0)
   .have hz':(bt != 0)=true:=by simpa using hz
    clear h;go_enter func57,ntmps57;go_wp2_with(go_at_call 38;refine(HROW.out _).mono ?_;rintro e w1 ⟨rfl,rfl⟩);go_ret;exact UP
   .rw[ho,hz,Bool.false_or,Bool.true_and]at h;rw[h]at HCAN;have hz':(bt != 0)=false:=by simpa using hz
    exact Zdd
  .rw[ho,Bool.true_or,Bool.true_and]at h;rw[h]at HCAN;have ho':(op != 1)=false:=by simpa using ho
   exact Zdd
structure TW(w:World)(v0 v1 v2 v3:Value)(J:Nat)(op D A B E n bt:Int)(v:World):Prop where
 bel:Below w.heap.size w v
 c0:v.cell? ⟨w.heap.size,0,none⟩=some v0
 c1:v.cell? ⟨w.heap.size,1,none⟩=some v1
 c2:v.cell? ⟨w.heap.size,2,none⟩=some v2
 c3:v.cell? ⟨w.heap.size,3,none⟩=some v3
 i0:v.cell? ⟨J,0,none⟩=some (.int .i64 op)
 i1:v.cell? ⟨J,1,none⟩=some (.int .i64 D)
 i2:v.cell? ⟨J,2,none⟩=some (.int .i64 A)
 i3:v.cell? ⟨J,3,none⟩=some (.int .i64 B)
 i4:v.cell? ⟨J,4,none⟩=some (.int .i64 E)
 i5:v.cell? ⟨J,5,none⟩=some (.int .i64 n)
 i6:v.cell? ⟨J,6,none⟩=some (.int .u32 bt)
theorem TW.next{w:World}{v0 v1 v2 v3:Value}{J:Nat}{op D A B E n bt:Int}{v v':World}(h:TW w v0 v1 v2 v3 J op D A B E n bt v)(k:Below v.heap.size v v'):TW w v0 v1 v2 v3 J op D A B E n bt v':=
 ⟨Go.Proofs.YtnbccaicijcklaaGreat.bel h.bel k,kc k h.c0,kc k h.c1,kc k h.c2,kc k h.c3,kc k h.i0,kc k h.i1,kc k h.i2,kc k h.i3,kc k h.i4,kc k h.i5,kc k h.i6⟩
theorem TW.keep{w:World}{v0 v1 v2 v3:Value}{J:Nat}{op D A B E n bt:Int}{v:World}(h:TW w v0 v1 v2 v3 J op D A B E n bt v){g o:Nat}(x:Value)(h1:w.heap.size<g)(h2:g≠J):TW w v0 v1 v2 v3 J op D A B E n bt (v.setCell ⟨g,o,none⟩ x):=by
 have f1:∀j,(v.setCell ⟨g,o,none⟩ x).cell? ⟨w.heap.size,j,none⟩=v.cell? ⟨w.heap.size,j,none⟩:=fun j=>gC (gE (by show w.heap.size≠g;omega));have f2:∀j,(v.setCell ⟨g,o,none⟩ x).cell? ⟨J,j,none⟩=v.cell? ⟨J,j,none⟩:=fun j=>gC (gE (by show J≠g;omega));exact⟨h.bel.setCell Zhx _,(f1 0).trans h.c0,(f1 1).trans h.c1,(f1 2).trans h.c2,(f1 3).trans h.c3,(f2 0).trans h.i0,(f2 1).trans h.i1,(f2 2).trans h.i2,(f2 3).trans h.i3,(f2 4).trans h.i4,(f2 5).trans h.i5,(f2 6).trans h.i6⟩
theorem TW.start(w:World)(v0 v1 v2 v3:Value)(op D A B E n bt:Int):TW w v0 v1 v2 v3 (w.heap.size+1) op D A B E n bt ((w.alloc (.cells #[v0,v1,v2,v3] 27)).alloc (.cells #[.int .i64 op,.int .i64 D,.int .i64 A,.int .i64 B,.int .i64 E,.int .i64 n,.int .u32 bt] 40)):=by
 have k:=A0 (w.alloc (.cells #[v0,v1,v2,v3] 27)) (.cells #[.int .i64 op,.int .i64 D,.int .i64 A,.int .i64 B,.int .i64 E,.int .i64 n,.int .u32 bt] 40);exact⟨Go.Proofs.YtnbccaicijcklaaGreat.bel (A0 _ _) k,kc k sG,kc k sG,kc k sG,kc k sG,sG,sG,sG,sG,sG,sG,sG⟩
theorem E0{n:Nat}{w v:World}(h:Below n w v):Below n w v.drew:=h.drew
theorem ZU(v0 v1 v2 v3:Value)(c:Cd)(co:Ba c)(hT:Ax c=true)(op D A B E n bt La Lb Lc Ld Le:Int)(a b cc d e:UInt8)
 (HROW:Hid (∀w,Calls prog 38 #[.int .i64 op] w fun x w'=>x=.returned (.tuple #[.string ⟨#[a,b,cc,d,e]⟩,.bool true])/\w'=w))
 (HCAN:Hid (∀w,Calls prog 56 #[.int .u32 bt] w fun e w'=>e=.returned (.bool true)/\Below w.heap.size w w'))
 (ix0:∀w,(Instr.index 9 (.string ⟨#[a,b,cc,d,e]⟩) (.int .i64 0)).run prog w=.ok (.int .u8 La) w)
 (ix1:∀w,(Instr.index 9 (.string ⟨#[a,b,cc,d,e]⟩) (.int .i64 1)).run prog w=.ok (.int .u8 Lb) w)
 (ix2:∀w,(Instr.index 9 (.string ⟨#[a,b,cc,d,e]⟩) (.int .i64 2)).run prog w=.ok (.int .u8 Lc) w)
 (ix3:∀w,(Instr.index 9 (.string ⟨#[a,b,cc,d,e]⟩) (.int .i64 3)).run prog w=.ok (.int .u8 Ld) w)
 (Vz:∀w,(Instr.index 9 (.string ⟨#[a,b,cc,d,e]⟩) (.int .i64 4)).run prog w=.ok (.int .u8 Le) w)
 (oa:Ca La) (ob:Ca Lb) (oc:Ca Lc) (od:Ca Ld) (oT:Le=112->La=118\/(La=45/\Lb=118)) (o1:(op==1)=false) (o2:(op != 1)=true) (o3:(bt==0)=true) (o4:(bt != 0)=false) (hz0:La≠45) (oe:Le=45\/Le=105\/Le=112\/Le=115)
 (w:World) (hv:CE w v0 v1 v2 v3 c):
 Calls prog 57 #[.agg #[v0,v1,v2,v3],.agg #[.int .i64 op,.int .i64 D,.int .i64 A,.int .i64 B,.int .i64 E,.int .i64 n,.int .u32 bt]] w fun e w'=>e=.returned (.bool (At c.regs La D ⟨0,0⟩&&(At c.regs Lb A (dR c.regs La D)&&(At c.regs Lc B (dR c.regs La D)&&(At c.regs Ld E (dR c.regs La D)&&Dm c Le n (tR c.regs La Lb D A))))))/\Below w.heap.size w w':=by
 have KO:∀ (l n:Int) (d:Ty),Ca l->∀v,Below w.heap.size w v->Calls prog 86 #[.agg #[v0,v1,v2,v3],.int .u8 l,.int .i64 n,.agg #[.int .i64 d.kind,.int .i64 d.par]] v fun e w'=>e=.returned (.bool (At c.regs l n d))/\Below v.heap.size v w':=fun l n d hl v hb=>Fw v0 v1 v2 v3 c co l n d hl v (hv.below hb);have HT0:Hid (TW w v0 v1 v2 v3 (w.heap.size+1) op D A B E n bt ((w.alloc (.cells #[v0,v1,v2,v3] 27)).alloc (.cells #[.int .i64 op,.int .i64 D,.int .i64 A,.int .i64 B,.int .i64 E,.int .i64 n,.int .u32 bt] 40))):=TW.start w v0 v1 v2 v3 op D A B E n bt;obtain⟨p0,q0,rfl,-⟩:=id hv.sign;obtain⟨p1,q1,rfl,hr1⟩:=id hv.regs;obtain⟨p2,q2,rfl,-⟩:=id hv.slots;have hREG:∀x:Int,Av x c.regs.length=true->∃ (k lb lo:Nat),x=(k:Int)/\k<c.regs.length/\p1=some ⟨lb,lo,none⟩/\w.cell? ⟨lb,lo+k*2,none⟩=some (.int .i64 (Aa c.regs x).kind)/\w.cell? ⟨lb,lo+k*2+1,none⟩=some (.int .i64 (Aa c.regs x).par):=by
  exact Zco
 have HREG:Hid (∀x:Int,Av x c.regs.length=true->∃ (k lb lo:Nat),x=(k:Int)/\k<c.regs.length/\p1=some ⟨lb,lo,none⟩/\w.cell? ⟨lb,lo+k*2,none⟩=some (.int .i64 (Aa c.regs x).kind)/\w.cell? ⟨lb,lo+k*2+1,none⟩=some (.int .i64 (Aa c.regs x).par)):=hREG;have HCV:Hid (CE w (.slice p0 c.sign.length q0) (.slice p1 c.regs.length q1) (.slice p2 c.slots.length q2) v3 c):=hv;have HCO:Hid (Ba c):=co;have hB0:=co.signL;have hB1:=co.regsL;have hB2:=co.slotsL;have hTy:∀x:Int,Av x c.regs.length=true->GD 118 (Aa c.regs x) ⟨0,0⟩=true->Av (Aa c.regs x).par c.sign.length=true:=fun x hx hk=>by
  exact Zdh
 obtain⟨n0,hn0⟩:=gA (c.sign.length)
 obtain⟨n1,hn1⟩:=gA (c.regs.length)
 obtain⟨n2,hn2⟩:=gA (c.slots.length)
 have HN0:Hid (c.sign.length=n0):=hn0;have HN1:Hid (c.regs.length=n1):=hn1;have HN2:Hid (c.slots.length=n2):=hn2;rw[hn0]at hB0;rw[hn1]at hB1;rw[hn2]at hB2;rw[hn0,hn1,hn2]at HCV KO HT0 |-;clear hREG hv hr1 hn0 hn1 hn2 co;have HTY:Hid (∀x:Int,Av x c.regs.length=true->GD 118 (Aa c.regs x) ⟨0,0⟩=true->Av (Aa c.regs x).par c.sign.length=true):=hTy;clear hTy hT;have hKO0:=fun d=>KO La D d oa;have hKOA:=fun d=>KO Lb A d ob;have hKOB:=fun d=>KO Lc B d oc;have hKOC:=fun d=>KO Ld E d od;clear KO;have hPP0:Le=112->La=118\/(La=45/\Lb=118):=oT;clear oT oc od;obtain⟨RES,hRES⟩:∃R,(At c.regs La D ⟨0,0⟩&&(At c.regs Lb A (dR c.regs La D)&&(At c.regs Lc B (dR c.regs La D)&&(At c.regs Ld E (dR c.regs La D)&&Dm c Le n (tR c.regs La Lb D A)))))=R:=⟨_,rfl⟩
 rw[hRES];have hz1:(La==45)=false:=by simpa using hz0
 have hz2:(La != 45)=true:=by simpa using hz0
 have hPL:At c.regs La D ⟨0,0⟩=true->Av D c.regs.length=true:=fun h=>by
  rw[BV hz0]at h;simp only[Bool.and_eq_true]at h;exact h.1
 have hPV:At c.regs La D ⟨0,0⟩=true->La=118->GD 118 (Aa c.regs D) ⟨0,0⟩=true:=fun h hl=>by
  exact Zfi
 have hdR:dR c.regs La D=Aa c.regs D:=if_neg hz0;have htR:tR c.regs La Lb D A=Aa c.regs D:=by unfold tR;rw[if_neg (fun e=>hz0 e.1),hdR]
 rw[htR,hdR]at hRES;have HPP0:Hid (At c.regs La D ⟨0,0⟩=true->Le=112->Av (Aa c.regs D).par c.sign.length=true):=fun h e=>by
  rcases hPP0 e with h1|⟨h1,-⟩
  .exact HTY.out _ (hPL h) (hPV h h1)
  .exact absurd h1 hz0
 obtain⟨X0,hX0⟩:∃X,At c.regs La D ⟨0,0⟩=X:=⟨_,rfl⟩
 have HK0:Hid _:=hKO0 ⟨0,0⟩;rw[hX0]at hRES hPL HPP0 HK0;simp only at HK0;clear hX0 hPV hdR htR hKO0 hPP0 HTY;cases X0
 .exact Zal
 obtain⟨kd,lb,lo,rfl,hkd,rfl,ya0,ya1⟩:=HREG.out D (hPL rfl);obtain⟨⟨dk,dp⟩,htt⟩:∃t:Ty,Aa c.regs (kd:Int)=t:=⟨_,rfl⟩
 rw[htt]at HPP0 ya0 ya1 hRES;obtain⟨XA,hXA⟩:∃X,At c.regs Lb A ⟨dk,dp⟩=X:=⟨_,rfl⟩
 obtain⟨XB,hXB⟩:∃X,At c.regs Lc B ⟨dk,dp⟩=X:=⟨_,rfl⟩
 obtain⟨XC,hXC⟩:∃X,At c.regs Ld E ⟨dk,dp⟩=X:=⟨_,rfl⟩
 rw[hXA,hXB,hXC]at hRES;have HKA:Hid _:=hKOA ⟨dk,dp⟩;have HKB:Hid _:=hKOB ⟨dk,dp⟩;have HKC:Hid _:=hKOC ⟨dk,dp⟩;rw[hXA]at HKA;rw[hXB]at HKB;rw[hXC]at HKC;simp only at HKA HKB HKC;have HRES:Hid ((XA&&(XB&&(XC&&Dm c Le n ⟨dk,dp⟩)))=RES):=hRES;have HPP:Hid (Le=112->Av dp c.sign.length=true):=HPP0.out rfl;have ka0:(0:Int)<=(kd:Int):=oM;have ka1:(kd:Int)<(n1:Int):=by have:=HN1.out;omega
 clear hKOA hKOB hKOC hXA hXB hXC hRES HPP0 hPL htt;go_enter func57,ntmps57;go_wp2_with(first
  |(go_at_call 38;refine(HROW.out _).mono ?_;rintro e w1 ⟨rfl,rfl⟩)
  |(go_at_call 56;refine(HCAN.out _).mono ?_;rintro e w2 ⟨rfl,hb2⟩;have HT2:Hid (TW w (.slice p0 n0 q0) (.slice (some ⟨lb,lo,none⟩) n1 q1) (.slice p2 n2 q2) v3 (w.heap.size+1) op (kd:Int) A B E n bt (w2.alloc (.cells #[.int .i64 0,.int .i64 0] 59))):=(HT0.next hb2).next (A0 _ _);obtain⟨b1,c0,c1,c2,c3,i0,i1,i2,i3,i4,i5,i6⟩:=HT2.out;have HS2:Hid (w.heap.size+1<w2.heap.size):=A8 (HT0.next hb2).i0;clear hb2))
 have HTD0:Hid _:=HT2.out;have HD0:Hid ((w2.alloc (.cells #[.int .i64 0,.int .i64 0] 59)).cell? ⟨w2.heap.size,0,none⟩=some (.int .i64 0)/\(w2.alloc (.cells #[.int .i64 0,.int .i64 0] 59)).cell? ⟨w2.heap.size,1,none⟩=some (.int .i64 0)/\(w2.alloc (.cells #[.int .i64 0,.int .i64 0] 59)).frozen? ⟨w2.heap.size,0,none⟩=false/\(w2.alloc (.cells #[.int .i64 0,.int .i64 0] 59)).frozen? ⟨w2.heap.size,1,none⟩=false):=⟨sG,sG,sG,sG⟩
 have HBZ9:Hid (lb<w.heap.size):=A8 ya0;have HZ:Hid (w2.heap.size≠w.heap.size+1/\w.heap.size<w2.heap.size/\lb≠w2.heap.size):=by
  refine⟨?_,?_,?_⟩
  all_goals(have h3:=HS2.out;have h4:=HBZ9.out;omega)
 obtain⟨Z,hZ⟩:=gA (w2.heap.size)
 obtain⟨Wa,hWa⟩:∃W,w2.alloc (.cells #[.int .i64 0,.int .i64 0] 59)=W:=⟨_,rfl⟩
 rw[hZ]at HD0 HZ;rw[hWa]at HD0 HTD0 |-;try rw[hZ]
 clear hZ hWa HT2 b1 c0 c1 c2 c3 i0 i1 i2 i3 i4 i5 i6 HT0 HROW HCAN HS2;have HCD0:Hid (∀v,Below Wa.heap.size Wa v->v.cell? ⟨w.heap.size,0,none⟩=some (.slice p0 n0 q0)/\v.cell? ⟨w.heap.size,1,none⟩=some (.slice (some ⟨lb,lo,none⟩) n1 q1)/\v.cell? ⟨w.heap.size,2,none⟩=some (.slice p2 n2 q2)/\v.cell? ⟨w.heap.size,3,none⟩=some v3/\v.cell? ⟨w.heap.size+1,1,none⟩=some (.int .i64 (kd:Int))/\v.cell? ⟨w.heap.size+1,2,none⟩=some (.int .i64 A)/\v.cell? ⟨w.heap.size+1,3,none⟩=some (.int .i64 B)/\v.cell? ⟨w.heap.size+1,4,none⟩=some (.int .i64 E)/\v.cell? ⟨w.heap.size+1,5,none⟩=some (.int .i64 n)/\v.cell? ⟨Z,0,none⟩=some (.int .i64 0)/\v.cell? ⟨Z,1,none⟩=some (.int .i64 0)):=fun v hb=>⟨kc hb HTD0.c0,kc hb HTD0.c1,kc hb HTD0.c2,kc hb HTD0.c3,kc hb HTD0.i1,kc hb HTD0.i2,kc hb HTD0.i3,kc hb HTD0.i4,kc hb HTD0.i5,kc hb HD0.1,kc hb HD0.2.1⟩
 obtain⟨c0,c1,c2,c3,i1,i2,i3,i4,i5,d0,d1⟩:=HCD0.out Wa (BZ _);have HYA:Hid (∀v,Below Wa.heap.size Wa v->v.cell? ⟨lb,lo+kd*2,none⟩=some (.int .i64 dk)/\v.cell? ⟨lb,lo+kd*2+1,none⟩=some (.int .i64 dp)/\v.frozen? ⟨Z,0,none⟩=false/\v.frozen? ⟨Z,1,none⟩=false):=fun v hb=>⟨kc (bel HTD0.bel hb) ya0,kc (bel HTD0.bel hb) ya1,kf hb HD0.1 HD0.2.2.1,kf hb HD0.2.1 HD0.2.2.2⟩
 refine rG (fun v=>v.cell? ⟨w.heap.size,0,none⟩=some (.slice p0 n0 q0)/\v.cell? ⟨w.heap.size,1,none⟩=some (.slice (some ⟨lb,lo,none⟩) n1 q1)/\v.cell? ⟨w.heap.size,2,none⟩=some (.slice p2 n2 q2)/\v.cell? ⟨w.heap.size,3,none⟩=some v3/\v.cell? ⟨w.heap.size+1,1,none⟩=some (.int .i64 (kd:Int))/\v.cell? ⟨w.heap.size+1,2,none⟩=some (.int .i64 A)/\v.cell? ⟨w.heap.size+1,3,none⟩=some (.int .i64 B)/\v.cell? ⟨w.heap.size+1,4,none⟩=some (.int .i64 E)/\v.cell? ⟨w.heap.size+1,5,none⟩=some (.int .i64 n)/\v.cell? ⟨Z,0,none⟩=some (.int .i64 0)/\v.cell? ⟨Z,1,none⟩=some (.int .i64 0)) fun hJ=>?_;refine Tf 0 1 2 3 4 5 ?_;clear hJ;refine Aw 6 fun K hK=>?_;go_simp;(go_at_call 86;(with_reducible refine(HK0.out _ (bel HTD0.out.bel (A9 _))).mono ?_);rintro e w9 ⟨rfl,hb9⟩;have HB9:Hid (Below Wa.heap.size Wa w9):=bel (A9 _) hb9;clear hb9;obtain⟨ya2,ya3,fz0,fz1⟩:=HYA.out w9 HB9.out;obtain⟨c0,c1,c2,c3,i1,i2,i3,i4,i5,d0,d1⟩:=HCD0.out w9 HB9.out);try(go_wp2_with fail)
 refine Aq hK fun hJ=>?_;clear hK K;refine Bo 7 ?_;refine wpAnyH_done kR ?_ _;obtain⟨hz5,hz6,hz7⟩:=HZ.out;go_wp2;have HD:Hid (((w9.setCell ⟨Z,0,none⟩ (.int .i64 dk)).setCell ⟨Z,1,none⟩ (.int .i64 dp)).cell? ⟨Z,0,none⟩=some (.int .i64 dk)/\((w9.setCell ⟨Z,0,none⟩ (.int .i64 dk)).setCell ⟨Z,1,none⟩ (.int .i64 dp)).cell? ⟨Z,1,none⟩=some (.int .i64 dp)):=⟨by simp[go_sem,d0,d1],by simp[go_sem,d0,d1]⟩
 have HTD:Hid _:=((HTD0.next HB9.out).keep (g:=Z) (o:=0) (.int .i64 dk) hz6 hz5).keep (g:=Z) (o:=1) (.int .i64 dp) hz6 hz5;obtain⟨Wd,hWd⟩:∃W,(w9.setCell ⟨Z,0,none⟩ (.int .i64 dk)).setCell ⟨Z,1,none⟩ (.int .i64 dp)=W:=⟨_,rfl⟩
 rw[hWd]at HD HTD |-;clear hWd c0 c1 c2 c3 i1 i2 i3 i4 i5 d0 d1 ya2 ya3 fz0 fz1 HCD0 HYA HD0 HTD0 HB9 HK0 hz5 hz6 hz7 HZ;have HCD:Hid (∀v,Below Wd.heap.size Wd v->v.cell? ⟨w.heap.size,0,none⟩=some (.slice p0 n0 q0)/\v.cell? ⟨w.heap.size,1,none⟩=some (.slice (some ⟨lb,lo,none⟩) n1 q1)/\v.cell? ⟨w.heap.size,2,none⟩=some (.slice p2 n2 q2)/\v.cell? ⟨w.heap.size,3,none⟩=some v3/\v.cell? ⟨w.heap.size+1,1,none⟩=some (.int .i64 (kd:Int))/\v.cell? ⟨w.heap.size+1,2,none⟩=some (.int .i64 A)/\v.cell? ⟨w.heap.size+1,3,none⟩=some (.int .i64 B)/\v.cell? ⟨w.heap.size+1,4,none⟩=some (.int .i64 E)/\v.cell? ⟨w.heap.size+1,5,none⟩=some (.int .i64 n)/\v.cell? ⟨Z,0,none⟩=some (.int .i64 dk)/\v.cell? ⟨Z,1,none⟩=some (.int .i64 dp)):=fun v hb=>⟨kc hb HTD.c0,kc hb HTD.c1,kc hb HTD.c2,kc hb HTD.c3,kc hb HTD.i1,kc hb HTD.i2,kc hb HTD.i3,kc hb HTD.i4,kc hb HTD.i5,kc hb HD.1,kc hb HD.2⟩
 obtain⟨c0,c1,c2,c3,i1,i2,i3,i4,i5,d0,d1⟩:=HCD.out Wd (BZ _);cases XA
 .exact Zbb
 cases XB
 .have HQF:Hid (false=RES):=HRES.out;go_wp2;refine rG (fun v=>v.cell? ⟨w.heap.size,0,none⟩=some (.slice p0 n0 q0)/\v.cell? ⟨w.heap.size,1,none⟩=some (.slice (some ⟨lb,lo,none⟩) n1 q1)/\v.cell? ⟨w.heap.size,2,none⟩=some (.slice p2 n2 q2)/\v.cell? ⟨w.heap.size,3,none⟩=some v3/\v.cell? ⟨w.heap.size+1,1,none⟩=some (.int .i64 (kd:Int))/\v.cell? ⟨w.heap.size+1,2,none⟩=some (.int .i64 A)/\v.cell? ⟨w.heap.size+1,3,none⟩=some (.int .i64 B)/\v.cell? ⟨w.heap.size+1,4,none⟩=some (.int .i64 E)/\v.cell? ⟨w.heap.size+1,5,none⟩=some (.int .i64 n)/\v.cell? ⟨Z,0,none⟩=some (.int .i64 dk)/\v.cell? ⟨Z,1,none⟩=some (.int .i64 dp)) fun hJ=>?_;exact Zav
 cases XC
 .have HQF:Hid (false=RES):=HRES.out;go_wp2;refine rG (fun v=>v.cell? ⟨w.heap.size,0,none⟩=some (.slice p0 n0 q0)/\v.cell? ⟨w.heap.size,1,none⟩=some (.slice (some ⟨lb,lo,none⟩) n1 q1)/\v.cell? ⟨w.heap.size,2,none⟩=some (.slice p2 n2 q2)/\v.cell? ⟨w.heap.size,3,none⟩=some v3/\v.cell? ⟨w.heap.size+1,1,none⟩=some (.int .i64 (kd:Int))/\v.cell? ⟨w.heap.size+1,2,none⟩=some (.int .i64 A)/\v.cell? ⟨w.heap.size+1,3,none⟩=some (.int .i64 B)/\v.cell? ⟨w.heap.size+1,4,none⟩=some (.int .i64 E)/\v.cell? ⟨w.heap.size+1,5,none⟩=some (.int .i64 n)/\v.cell? ⟨Z,0,none⟩=some (.int .i64 dk)/\v.cell? ⟨Z,1,none⟩=some (.int .i64 dp)) fun hJ=>?_;exact Zan
 go_wp2;refine rG (fun v=>v.cell? ⟨w.heap.size,0,none⟩=some (.slice p0 n0 q0)/\v.cell? ⟨w.heap.size,1,none⟩=some (.slice (some ⟨lb,lo,none⟩) n1 q1)/\v.cell? ⟨w.heap.size,2,none⟩=some (.slice p2 n2 q2)/\v.cell? ⟨w.heap.size,3,none⟩=some v3/\v.cell? ⟨w.heap.size+1,1,none⟩=some (.int .i64 (kd:Int))/\v.cell? ⟨w.heap.size+1,2,none⟩=some (.int .i64 A)/\v.cell? ⟨w.heap.size+1,3,none⟩=some (.int .i64 B)/\v.cell? ⟨w.heap.size+1,4,none⟩=some (.int .i64 E)/\v.cell? ⟨w.heap.size+1,5,none⟩=some (.int .i64 n)/\v.cell? ⟨Z,0,none⟩=some (.int .i64 dk)/\v.cell? ⟨Z,1,none⟩=some (.int .i64 dp)) fun hJ=>?_;refine Tf 0 1 2 3 4 5 ?_;clear hJ;refine Aw 6 fun K hK=>?_;go_simp;(go_at_call 86;(with_reducible refine(HKA.out _ (bel HTD.out.bel (A9 _))).mono ?_);rintro e w3 ⟨rfl,hb9⟩;have HB3:Hid (Below Wd.heap.size Wd w3):=bel (A9 _) hb9;clear hb9;obtain⟨c0,c1,c2,c3,i1,i2,i3,i4,i5,d0,d1⟩:=HCD.out w3 HB3.out);try(go_wp2_with fail)
 refine Aq hK fun hJ=>?_;clear hK K;refine Tf 7 8 9 10 11 12 ?_;refine Tb 13 14 ?_;clear hJ;refine Aw 15 fun K hK=>?_;go_simp;(go_at_call 86;(with_reducible refine(HKB.out _ (bel HTD.out.bel HB3.out)).mono ?_);rintro e w4 ⟨rfl,hb9⟩;have HB4:Hid (Below Wd.heap.size Wd w4):=bel HB3.out hb9;clear hb9;clear c0 c1 c2 c3 i1 i2 i3 i4 i5 d0 d1;obtain⟨c0,c1,c2,c3,i1,i2,i3,i4,i5,d0,d1⟩:=HCD.out w4 HB4.out);try(go_wp2_with fail)
 refine Aq hK fun hJ=>?_;clear hK K;refine Tf 16 17 18 19 20 21 ?_;refine Tc 22 23 24 ?_;clear hJ;refine Aw 25 fun K hK=>?_;go_simp;(go_at_call 86;(with_reducible refine(HKC.out _ (bel HTD.out.bel HB4.out)).mono ?_);rintro e w5 ⟨rfl,hb9⟩;have HB5:Hid (Below Wd.heap.size Wd w5):=bel HB4.out hb9;clear hb9;clear c0 c1 c2 c3 i1 i2 i3 i4 i5 d0 d1;obtain⟨c0,c1,c2,c3,i1,i2,i3,i4,i5,d0,d1⟩:=HCD.out w5 HB5.out);try(go_wp2_with fail)
 refine Aq hK fun hJ=>?_;clear hK K;refine Tb 26 27 ?_;refine wpAnyH_done kR ?_ _;clear c0 c1 c2 c3 i1 i2 i3 i4 i5 d0 d1;have HT5:Hid (TW w (.slice p0 n0 q0) (.slice (some ⟨lb,lo,none⟩) n1 q1) (.slice p2 n2 q2) v3 (w.heap.size+1) op (kd:Int) A B E n bt w5):=HTD.next HB5.out;obtain⟨hb5,c0,c1,c2,c3,i0,i1,i2,i3,i4,i5,i6⟩:=HT5.out;obtain⟨-,-,-,-,-,-,-,-,-,d0,d1⟩:=HCD.out w5 HB5.out;have hs5:w5.heap.size≠w.heap.size+1/\w.heap.size<w5.heap.size:=⟨fun e=>by have:=A8 i0;simp only at this;omega,by have:=A8 c0;simp only at this;omega⟩
 have HAL:Hid (TW w (.slice p0 n0 q0) (.slice (some ⟨lb,lo,none⟩) n1 q1) (.slice p2 n2 q2) v3 (w.heap.size+1) op (kd:Int) A B E n bt (w5.alloc (.cells #[.int .i64 dk,.int .i64 dp] 59))):=HT5.next (A0 _ _);have HRT:Hid (Dm c Le n ⟨dk,dp⟩=RES):=HRES.out;clear c0 c1 c2 c3 i0 i1 i2 i3 i4 i5 i6;have t0:(w5.alloc (.cells #[.int .i64 dk,.int .i64 dp] 59)).cell? ⟨w5.heap.size,0,none⟩=some (.int .i64 dk):=sG;have t1:(w5.alloc (.cells #[.int .i64 dk,.int .i64 dp] 59)).cell? ⟨w5.heap.size,1,none⟩=some (.int .i64 dp):=sG;obtain⟨hbx,c0,c1,c2,c3,i0,i1,i2,i3,i4,i5,i6⟩:=HAL.out;clear d0 d1 HRES;have hbt:=hbx;rcases oe with rfl|rfl|rfl|rfl
 .exact Zdu
 .have HQ:Hid (Du n=RES):=HRT.out;by_cases hn0:0<=n
  all_goals
   go_wp2;go_ret;refine⟨Ab ?_,hbt⟩;rw[<-HQ.out];unfold Du;first|(simp[hn0];done)|(simp[hn0];omega)|(simp[hn0];intro h;omega)
 .have HQ:Hid ((n==0||(n==1&&CV c.sign dp==2))=RES):=HRT.out;have HPA:Hid (∀v,Below w.heap.size w v->Calls prog 87 #[.agg #[.slice p0 n0 q0,.slice (some ⟨lb,lo,none⟩) n1 q1,.slice p2 n2 q2,v3],.int .i64 n,.int .i64 dp] v fun e w'=>e=.returned (.bool RES)/\Below v.heap.size v w'):=fun v hb=>by rw[<-HQ.out];exact M9 _ _ _ _ c HCO.out n dp (fun _=>HPP.out rfl) v (HCV.below hb)
  exact Zes
 .have HQ:Hid ((Av n c.slots.length&&decide (Cw c.slots n=⟨dk,dp⟩))=RES):=HRT.out;cases hpl:Av n c.slots.length
  .exact Zax
  .obtain⟨k,rfl,hkl⟩:=Dr hpl;obtain⟨lb9,lo9,ep,hc9⟩:=AV.at (p:=p2) (n:=n2) (c:=q2) HCV.slots hkl;subst ep;have e9:Cw c.slots (k:Int)=c.slots[k].ty:=by unfold Cw;rw[Int.toNat_natCast,gB hkl];rfl
   have hq9:=HQ.out;rw[hpl,Bool.true_and,e9]at hq9;obtain⟨⟨⟨sk,sp⟩,sQ,sB,sI⟩,ht9⟩:∃t:Sl,c.slots[k]=t:=⟨_,rfl⟩
   rw[ht9]at hc9 hq9;have HQ9:Hid (decide ((⟨sk,sp⟩:Ty)=⟨dk,dp⟩)=RES):=hq9;have y0:w.cell? ⟨lb9,lo9+k*5,none⟩=some (.int .i64 sk):=hc9.at 0 rfl;have y1:w.cell? ⟨lb9,lo9+k*5+1,none⟩=some (.int .i64 sp):=hc9.at 1 rfl;have x0:=kc hbt y0;have x1:=kc hbt y1;have k0:(0:Int)<=(k:Int):=oM;have k1:(k:Int)<(n2:Int):=by have:=HN2.out;omega
   clear hc9 ht9 e9 hpl hq9 HQ;by_cases hks:sk=dk
   .obtain rfl:=hks;by_cases hps:sp=dp
    .exact Zbt
    .go_wp2;refine rG (fun v=>v.cell? ⟨w.heap.size,2,none⟩=some (.slice (some ⟨lb9,lo9,none⟩) n2 q2)/\v.cell? ⟨w.heap.size+1,5,none⟩=some (.int .i64 (k:Int))/\v.cell? ⟨lb9,lo9+k*5,none⟩=some (.int .i64 sk)/\v.cell? ⟨lb9,lo9+k*5+1,none⟩=some (.int .i64 sp)/\v.cell? ⟨w5.heap.size,0,none⟩=some (.int .i64 sk)/\v.cell? ⟨w5.heap.size,1,none⟩=some (.int .i64 dp)) fun hJ=>?_;exact Zdw
   .go_wp2;refine rG (fun v=>v.cell? ⟨w.heap.size,2,none⟩=some (.slice (some ⟨lb9,lo9,none⟩) n2 q2)/\v.cell? ⟨w.heap.size+1,5,none⟩=some (.int .i64 (k:Int))/\v.cell? ⟨lb9,lo9+k*5,none⟩=some (.int .i64 sk)/\v.cell? ⟨lb9,lo9+k*5+1,none⟩=some (.int .i64 sp)/\v.cell? ⟨w5.heap.size,0,none⟩=some (.int .i64 dk)/\v.cell? ⟨w5.heap.size,1,none⟩=some (.int .i64 dp)) fun hJ=>?_;exact Zdx
theorem ZT(v0 v1 v2 v3:Value)(c:Cd)(co:Ba c)(hT:Ax c=true)(op D A B E n bt La Lb Lc Ld Le:Int)(a b cc d e:UInt8)
 (HROW:Hid (∀w,Calls prog 38 #[.int .i64 op] w fun x w'=>x=.returned (.tuple #[.string ⟨#[a,b,cc,d,e]⟩,.bool true])/\w'=w))
 (HCAN:Hid (∀w,Calls prog 56 #[.int .u32 bt] w fun e w'=>e=.returned (.bool true)/\Below w.heap.size w w'))
 (ix0:∀w,(Instr.index 9 (.string ⟨#[a,b,cc,d,e]⟩) (.int .i64 0)).run prog w=.ok (.int .u8 La) w)
 (ix1:∀w,(Instr.index 9 (.string ⟨#[a,b,cc,d,e]⟩) (.int .i64 1)).run prog w=.ok (.int .u8 Lb) w)
 (ix2:∀w,(Instr.index 9 (.string ⟨#[a,b,cc,d,e]⟩) (.int .i64 2)).run prog w=.ok (.int .u8 Lc) w)
 (ix3:∀w,(Instr.index 9 (.string ⟨#[a,b,cc,d,e]⟩) (.int .i64 3)).run prog w=.ok (.int .u8 Ld) w)
 (Vz:∀w,(Instr.index 9 (.string ⟨#[a,b,cc,d,e]⟩) (.int .i64 4)).run prog w=.ok (.int .u8 Le) w)
 (oa:Ca La) (ob:Ca Lb) (oc:Ca Lc) (od:Ca Ld) (oT:Le=112->La=118\/(La=45/\Lb=118)) (o1:(op==1)=false) (o2:(op != 1)=true) (o3:(bt==0)=true) (o4:(bt != 0)=false) (hz0:La=45) (oA:Lb=45->Le=45\/Le=113) (oB:Lb≠45->Le=45\/Le=112\/Le=115)
 (w:World) (hv:CE w v0 v1 v2 v3 c):
 Calls prog 57 #[.agg #[v0,v1,v2,v3],.agg #[.int .i64 op,.int .i64 D,.int .i64 A,.int .i64 B,.int .i64 E,.int .i64 n,.int .u32 bt]] w fun e w'=>e=.returned (.bool (At c.regs La D ⟨0,0⟩&&(At c.regs Lb A (dR c.regs La D)&&(At c.regs Lc B (dR c.regs La D)&&(At c.regs Ld E (dR c.regs La D)&&Dm c Le n (tR c.regs La Lb D A))))))/\Below w.heap.size w w':=by
 have KO:∀ (l n:Int) (d:Ty),Ca l->∀v,Below w.heap.size w v->Calls prog 86 #[.agg #[v0,v1,v2,v3],.int .u8 l,.int .i64 n,.agg #[.int .i64 d.kind,.int .i64 d.par]] v fun e w'=>e=.returned (.bool (At c.regs l n d))/\Below v.heap.size v w':=fun l n d hl v hb=>Fw v0 v1 v2 v3 c co l n d hl v (hv.below hb);have HT0:Hid (TW w v0 v1 v2 v3 (w.heap.size+1) op D A B E n bt ((w.alloc (.cells #[v0,v1,v2,v3] 27)).alloc (.cells #[.int .i64 op,.int .i64 D,.int .i64 A,.int .i64 B,.int .i64 E,.int .i64 n,.int .u32 bt] 40))):=TW.start w v0 v1 v2 v3 op D A B E n bt;obtain⟨p0,q0,rfl,-⟩:=id hv.sign;obtain⟨p1,q1,rfl,hr1⟩:=id hv.regs;obtain⟨p2,q2,rfl,-⟩:=id hv.slots;have hREG:∀x:Int,Av x c.regs.length=true->∃ (k lb lo:Nat),x=(k:Int)/\k<c.regs.length/\p1=some ⟨lb,lo,none⟩/\w.cell? ⟨lb,lo+k*2,none⟩=some (.int .i64 (Aa c.regs x).kind)/\w.cell? ⟨lb,lo+k*2+1,none⟩=some (.int .i64 (Aa c.regs x).par):=by
  exact Zco
 have HREG:Hid (∀x:Int,Av x c.regs.length=true->∃ (k lb lo:Nat),x=(k:Int)/\k<c.regs.length/\p1=some ⟨lb,lo,none⟩/\w.cell? ⟨lb,lo+k*2,none⟩=some (.int .i64 (Aa c.regs x).kind)/\w.cell? ⟨lb,lo+k*2+1,none⟩=some (.int .i64 (Aa c.regs x).par)):=hREG;have HCV:Hid (CE w (.slice p0 c.sign.length q0) (.slice p1 c.regs.length q1) (.slice p2 c.slots.length q2) v3 c):=hv;have HCO:Hid (Ba c):=co;have hB0:=co.signL;have hB1:=co.regsL;have hB2:=co.slotsL;have hTy:∀x:Int,Av x c.regs.length=true->GD 118 (Aa c.regs x) ⟨0,0⟩=true->Av (Aa c.regs x).par c.sign.length=true:=fun x hx hk=>by
  exact Zdh
 obtain⟨n0,hn0⟩:=gA (c.sign.length)
 obtain⟨n1,hn1⟩:=gA (c.regs.length)
 obtain⟨n2,hn2⟩:=gA (c.slots.length)
 have HN0:Hid (c.sign.length=n0):=hn0;have HN1:Hid (c.regs.length=n1):=hn1;have HN2:Hid (c.slots.length=n2):=hn2;rw[hn0]at hB0;rw[hn1]at hB1;rw[hn2]at hB2;rw[hn0,hn1,hn2]at HCV KO HT0 |-;clear hREG hv hr1 hn0 hn1 hn2 co;have HTY:Hid (∀x:Int,Av x c.regs.length=true->GD 118 (Aa c.regs x) ⟨0,0⟩=true->Av (Aa c.regs x).par c.sign.length=true):=hTy;clear hTy hT;have hKO0:=fun d=>KO La D d oa;have hKOA:=fun d=>KO Lb A d ob;have hKOB:=fun d=>KO Lc B d oc;have hKOC:=fun d=>KO Ld E d od;clear KO;have hPP0:Le=112->La=118\/(La=45/\Lb=118):=oT;clear oT oc od;obtain⟨RES,hRES⟩:∃R,(At c.regs La D ⟨0,0⟩&&(At c.regs Lb A (dR c.regs La D)&&(At c.regs Lc B (dR c.regs La D)&&(At c.regs Ld E (dR c.regs La D)&&Dm c Le n (tR c.regs La Lb D A)))))=R:=⟨_,rfl⟩
 rw[hRES];subst hz0;by_cases hD:D=0
 .subst hD;rw[F1,show((0:Int)==0)=true from rfl,Bool.true_and,show dR c.regs 45 0=⟨0,0⟩from rfl]at hRES;have hXT:At c.regs Lb A ⟨0,0⟩=true->Lb≠45->Av A c.regs.length=true:=fun h hl=>by
   rw[BV hl]at h;simp only[Bool.and_eq_true]at h;exact h.1
  have hXP:At c.regs Lb A ⟨0,0⟩=true->Lb=118->GD 118 (Aa c.regs A) ⟨0,0⟩=true:=fun h hl=>by
   exact Zfi
  obtain⟨XA,hXA⟩:∃X,At c.regs Lb A ⟨0,0⟩=X:=⟨_,rfl⟩
  obtain⟨XB,hXB⟩:∃X,At c.regs Lc B ⟨0,0⟩=X:=⟨_,rfl⟩
  obtain⟨XC,hXC⟩:∃X,At c.regs Ld E ⟨0,0⟩=X:=⟨_,rfl⟩
  rw[hXA]at hXT hXP;rw[hXA,hXB,hXC]at hRES;have HKA:Hid _:=hKOA ⟨0,0⟩;have HKB:Hid _:=hKOB ⟨0,0⟩;have HKC:Hid _:=hKOC ⟨0,0⟩;rw[hXA]at HKA;rw[hXB]at HKB;rw[hXC]at HKC;simp only at HKA HKB HKC;have HXT:Hid (XA=true->Lb≠45->Av A c.regs.length=true):=hXT;have HXP:Hid (XA=true->Lb=118->GD 118 (Aa c.regs A) ⟨0,0⟩=true):=hXP;have HRES:Hid ((XA&&(XB&&(XC&&Dm c Le n (tR c.regs 45 Lb 0 A))))=RES):=hRES;clear hKO0 hKOA hKOB hKOC hXA hXB hXC hXT hXP hRES;go_enter func57,ntmps57;go_wp2_with(first
   |(go_at_call 38;refine(HROW.out _).mono ?_;rintro e w1 ⟨rfl,rfl⟩)
   |(go_at_call 56;refine(HCAN.out _).mono ?_;rintro e w2 ⟨rfl,hb2⟩;have HT2:Hid (TW w (.slice p0 n0 q0) (.slice p1 n1 q1) (.slice p2 n2 q2) v3 (w.heap.size+1) op 0 A B E n bt (w2.alloc (.cells #[.int .i64 0,.int .i64 0] 59))):=(HT0.next hb2).next (A0 _ _);obtain⟨b1,c0,c1,c2,c3,i0,i1,i2,i3,i4,i5,i6⟩:=HT2.out;have HS2:Hid (w.heap.size+1<w2.heap.size):=A8 (HT0.next hb2).i0;clear hb2))
  have HD:Hid ((w2.alloc (.cells #[.int .i64 0,.int .i64 0] 59)).cell? ⟨w2.heap.size,0,none⟩=some (.int .i64 0)/\(w2.alloc (.cells #[.int .i64 0,.int .i64 0] 59)).cell? ⟨w2.heap.size,1,none⟩=some (.int .i64 0)):=⟨sG,sG⟩
  have HTD:Hid _:=HT2.out;obtain⟨Z,hZ⟩:=gA (w2.heap.size)
  obtain⟨Wd,hWd⟩:∃W,w2.alloc (.cells #[.int .i64 0,.int .i64 0] 59)=W:=⟨_,rfl⟩
  rw[hZ]at HD;rw[hWd]at HD HTD |-;try rw[hZ]
  clear hZ hWd HT2 b1 c0 c1 c2 c3 i0 i1 i2 i3 i4 i5 i6 HT0 HROW HCAN;have HCD:Hid (∀v,Below Wd.heap.size Wd v->v.cell? ⟨w.heap.size,0,none⟩=some (.slice p0 n0 q0)/\v.cell? ⟨w.heap.size,1,none⟩=some (.slice p1 n1 q1)/\v.cell? ⟨w.heap.size,2,none⟩=some (.slice p2 n2 q2)/\v.cell? ⟨w.heap.size,3,none⟩=some v3/\v.cell? ⟨w.heap.size+1,1,none⟩=some (.int .i64 0)/\v.cell? ⟨w.heap.size+1,2,none⟩=some (.int .i64 A)/\v.cell? ⟨w.heap.size+1,3,none⟩=some (.int .i64 B)/\v.cell? ⟨w.heap.size+1,4,none⟩=some (.int .i64 E)/\v.cell? ⟨w.heap.size+1,5,none⟩=some (.int .i64 n)/\v.cell? ⟨Z,0,none⟩=some (.int .i64 0)/\v.cell? ⟨Z,1,none⟩=some (.int .i64 0)):=fun v hb=>⟨kc hb HTD.c0,kc hb HTD.c1,kc hb HTD.c2,kc hb HTD.c3,kc hb HTD.i1,kc hb HTD.i2,kc hb HTD.i3,kc hb HTD.i4,kc hb HTD.i5,kc hb HD.1,kc hb HD.2⟩
  obtain⟨c0,c1,c2,c3,i1,i2,i3,i4,i5,d0,d1⟩:=HCD.out Wd (BZ _);cases XA
  .have HQF:Hid (false=RES):=HRES.out;go_wp2;refine rG (fun v=>v.cell? ⟨w.heap.size,0,none⟩=some (.slice p0 n0 q0)/\v.cell? ⟨w.heap.size,1,none⟩=some (.slice p1 n1 q1)/\v.cell? ⟨w.heap.size,2,none⟩=some (.slice p2 n2 q2)/\v.cell? ⟨w.heap.size,3,none⟩=some v3/\v.cell? ⟨w.heap.size+1,1,none⟩=some (.int .i64 0)/\v.cell? ⟨w.heap.size+1,2,none⟩=some (.int .i64 A)/\v.cell? ⟨w.heap.size+1,3,none⟩=some (.int .i64 B)/\v.cell? ⟨w.heap.size+1,4,none⟩=some (.int .i64 E)/\v.cell? ⟨w.heap.size+1,5,none⟩=some (.int .i64 n)/\v.cell? ⟨Z,0,none⟩=some (.int .i64 0)/\v.cell? ⟨Z,1,none⟩=some (.int .i64 0)) fun hJ=>?_;refine Tf 0 1 2 3 4 5 ?_;clear hJ;refine Aw 6 fun K hK=>?_;go_simp;(go_at_call 86;(with_reducible refine(HKA.out _ (bel HTD.out.bel (A9 _))).mono ?_);rintro e w3 ⟨rfl,hb9⟩;have HB3:Hid (Below Wd.heap.size Wd w3):=bel (A9 _) hb9;clear hb9;obtain⟨c0,c1,c2,c3,i1,i2,i3,i4,i5,d0,d1⟩:=HCD.out w3 HB3.out);try(go_wp2_with fail)
   refine Aq hK fun hJ=>?_;clear hK K;refine Tb 7 8 ?_;refine Kd 9 10 11 12 ?_;refine Kd 13 14 15 16 ?_;refine Tb 17 18 ?_;refine Kd 19 20 21 22 ?_;refine Kd 23 24 25 26 ?_;refine Bo 27 ?_;refine wpAnyH_done kR ?_ _;go_wp2;go_ret;exact⟨Ab HQF.out,bel HTD.bel HB3.out⟩
  cases XB
  .have HQF:Hid (false=RES):=HRES.out;go_wp2;refine rG (fun v=>v.cell? ⟨w.heap.size,0,none⟩=some (.slice p0 n0 q0)/\v.cell? ⟨w.heap.size,1,none⟩=some (.slice p1 n1 q1)/\v.cell? ⟨w.heap.size,2,none⟩=some (.slice p2 n2 q2)/\v.cell? ⟨w.heap.size,3,none⟩=some v3/\v.cell? ⟨w.heap.size+1,1,none⟩=some (.int .i64 0)/\v.cell? ⟨w.heap.size+1,2,none⟩=some (.int .i64 A)/\v.cell? ⟨w.heap.size+1,3,none⟩=some (.int .i64 B)/\v.cell? ⟨w.heap.size+1,4,none⟩=some (.int .i64 E)/\v.cell? ⟨w.heap.size+1,5,none⟩=some (.int .i64 n)/\v.cell? ⟨Z,0,none⟩=some (.int .i64 0)/\v.cell? ⟨Z,1,none⟩=some (.int .i64 0)) fun hJ=>?_;exact Zav
  cases XC
  .have HQF:Hid (false=RES):=HRES.out;go_wp2;refine rG (fun v=>v.cell? ⟨w.heap.size,0,none⟩=some (.slice p0 n0 q0)/\v.cell? ⟨w.heap.size,1,none⟩=some (.slice p1 n1 q1)/\v.cell? ⟨w.heap.size,2,none⟩=some (.slice p2 n2 q2)/\v.cell? ⟨w.heap.size,3,none⟩=some v3/\v.cell? ⟨w.heap.size+1,1,none⟩=some (.int .i64 0)/\v.cell? ⟨w.heap.size+1,2,none⟩=some (.int .i64 A)/\v.cell? ⟨w.heap.size+1,3,none⟩=some (.int .i64 B)/\v.cell? ⟨w.heap.size+1,4,none⟩=some (.int .i64 E)/\v.cell? ⟨w.heap.size+1,5,none⟩=some (.int .i64 n)/\v.cell? ⟨Z,0,none⟩=some (.int .i64 0)/\v.cell? ⟨Z,1,none⟩=some (.int .i64 0)) fun hJ=>?_;exact Zan
  go_wp2;refine rG (fun v=>v.cell? ⟨w.heap.size,0,none⟩=some (.slice p0 n0 q0)/\v.cell? ⟨w.heap.size,1,none⟩=some (.slice p1 n1 q1)/\v.cell? ⟨w.heap.size,2,none⟩=some (.slice p2 n2 q2)/\v.cell? ⟨w.heap.size,3,none⟩=some v3/\v.cell? ⟨w.heap.size+1,1,none⟩=some (.int .i64 0)/\v.cell? ⟨w.heap.size+1,2,none⟩=some (.int .i64 A)/\v.cell? ⟨w.heap.size+1,3,none⟩=some (.int .i64 B)/\v.cell? ⟨w.heap.size+1,4,none⟩=some (.int .i64 E)/\v.cell? ⟨w.heap.size+1,5,none⟩=some (.int .i64 n)/\v.cell? ⟨Z,0,none⟩=some (.int .i64 0)/\v.cell? ⟨Z,1,none⟩=some (.int .i64 0)) fun hJ=>?_;refine Tf 0 1 2 3 4 5 ?_;clear hJ;refine Aw 6 fun K hK=>?_;go_simp;(go_at_call 86;(with_reducible refine(HKA.out _ (bel HTD.out.bel (A9 _))).mono ?_);rintro e w3 ⟨rfl,hb9⟩;have HB3:Hid (Below Wd.heap.size Wd w3):=bel (A9 _) hb9;clear hb9;obtain⟨c0,c1,c2,c3,i1,i2,i3,i4,i5,d0,d1⟩:=HCD.out w3 HB3.out);try(go_wp2_with fail)
  refine Aq hK fun hJ=>?_;clear hK K;refine Tf 7 8 9 10 11 12 ?_;refine Tb 13 14 ?_;clear hJ;refine Aw 15 fun K hK=>?_;go_simp;(go_at_call 86;(with_reducible refine(HKB.out _ (bel HTD.out.bel HB3.out)).mono ?_);rintro e w4 ⟨rfl,hb9⟩;have HB4:Hid (Below Wd.heap.size Wd w4):=bel HB3.out hb9;clear hb9;clear c0 c1 c2 c3 i1 i2 i3 i4 i5 d0 d1;obtain⟨c0,c1,c2,c3,i1,i2,i3,i4,i5,d0,d1⟩:=HCD.out w4 HB4.out);try(go_wp2_with fail)
  refine Aq hK fun hJ=>?_;clear hK K;refine Tf 16 17 18 19 20 21 ?_;refine Tc 22 23 24 ?_;clear hJ;refine Aw 25 fun K hK=>?_;go_simp;(go_at_call 86;(with_reducible refine(HKC.out _ (bel HTD.out.bel HB4.out)).mono ?_);rintro e w5 ⟨rfl,hb9⟩;have HB5:Hid (Below Wd.heap.size Wd w5):=bel HB4.out hb9;clear hb9;clear c0 c1 c2 c3 i1 i2 i3 i4 i5 d0 d1;obtain⟨c0,c1,c2,c3,i1,i2,i3,i4,i5,d0,d1⟩:=HCD.out w5 HB5.out);try(go_wp2_with fail)
  refine Aq hK fun hJ=>?_;clear hK K;refine Tb 26 27 ?_;refine wpAnyH_done kR ?_ _;clear c0 c1 c2 c3 i1 i2 i3 i4 i5 d0 d1;have HT5:Hid (TW w (.slice p0 n0 q0) (.slice p1 n1 q1) (.slice p2 n2 q2) v3 (w.heap.size+1) op 0 A B E n bt w5):=HTD.next HB5.out;obtain⟨hb5,c0,c1,c2,c3,i0,i1,i2,i3,i4,i5,i6⟩:=HT5.out;obtain⟨-,-,-,-,-,-,-,-,-,d0,d1⟩:=HCD.out w5 HB5.out;have hs5:w5.heap.size≠w.heap.size+1/\w.heap.size<w5.heap.size:=⟨fun e=>by have:=A8 i0;simp only at this;omega,by have:=A8 c0;simp only at this;omega⟩
  have HAL:Hid (TW w (.slice p0 n0 q0) (.slice p1 n1 q1) (.slice p2 n2 q2) v3 (w.heap.size+1) op 0 A B E n bt (w5.alloc (.cells #[.int .i64 0,.int .i64 0] 59))):=HT5.next (A0 _ _);by_cases hlb:Lb=45
  .have oe:=oA hlb;subst hlb;have HRT:Hid (Dm c Le n ⟨0,0⟩=RES):=HRES.out;clear c0 c1 c2 c3 i0 i1 i2 i3 i4 i5 i6;have t0:(w5.alloc (.cells #[.int .i64 0,.int .i64 0] 59)).cell? ⟨w5.heap.size,0,none⟩=some (.int .i64 0):=sG;have t1:(w5.alloc (.cells #[.int .i64 0,.int .i64 0] 59)).cell? ⟨w5.heap.size,1,none⟩=some (.int .i64 0):=sG;obtain⟨hbx,c0,c1,c2,c3,i0,i1,i2,i3,i4,i5,i6⟩:=HAL.out;clear d0 d1 hPP0 HXT HXP HRES oA oB;have hbt:=hbx;rcases oe with rfl|rfl
   .exact Zdu
   .have HQ:Hid (Av n c.sign.length=RES):=HRT.out;have hN0:=HN0.out;by_cases hn0:0<=n
    all_goals
     go_wp2;go_ret;refine⟨Ab ?_,hbt⟩;rw[<-HQ.out];unfold Av;rw[hN0];first|(simp[hn0];done)|(simp[hn0];omega)|(simp[hn0];intro h;omega)
  .have oe:=oB hlb;have hlb1:(Lb==45)=false:=by simpa using hlb
   have hlb2:(Lb != 45)=true:=by simpa using hlb
   obtain⟨ka,lb,lo,rfl,hka,rfl,ya0,ya1⟩:=HREG.out A (HXT.out fT hlb);have HRT0:Hid (Dm c Le n (Aa c.regs (ka:Int))=RES):=by
    have h1:=HRES.out;have h2:tR c.regs 45 Lb 0 (ka:Int)=Aa c.regs (ka:Int):=if_pos ⟨rfl,hlb⟩;rw[h2]at h1;exact h1
   have HPP0:Hid (Le=112->Av (Aa c.regs (ka:Int)).par c.sign.length=true):=fun e=>by
    rcases hPP0 e with h|⟨-,h⟩
    .exact absurd h dE
    .exact HTY.out _ (HXT.out fT hlb) (HXP.out fT h)
   obtain⟨⟨tk,tp⟩,htt⟩:∃t:Ty,Aa c.regs (ka:Int)=t:=⟨_,rfl⟩
   rw[htt]at HRT0 HPP0 ya0 ya1;have HRT:Hid (Dm c Le n ⟨tk,tp⟩=RES):=HRT0.out;have HPP:Hid (Le=112->Av tp c.sign.length=true):=HPP0.out;have ka0:(0:Int)<=(ka:Int):=oM;have ka1:(ka:Int)<(n1:Int):=by have:=HN1.out;omega
   clear c0 c1 c2 c3 i0 i1 i2 i3 i4 i5 i6;have hq5:=fun o=>HT5.next (A0 w5 o);have c0:=fun o=>(hq5 o).c0;have c1:=fun o=>(hq5 o).c1;have c2:=fun o=>(hq5 o).c2;have c3:=fun o=>(hq5 o).c3;have i2:=fun o=>(hq5 o).i2;have i5:=fun o=>(hq5 o).i5;have xa0:=fun o=>kc (hq5 o).bel ya0;have xa1:=fun o=>kc (hq5 o).bel ya1;have hbx:=(hq5 (.cells #[.int .i64 tk,.int .i64 tp] 59)).bel;have t0:(w5.alloc (.cells #[.int .i64 tk,.int .i64 tp] 59)).cell? ⟨w5.heap.size,0,none⟩=some (.int .i64 tk):=sG;have t1:(w5.alloc (.cells #[.int .i64 tk,.int .i64 tp] 59)).cell? ⟨w5.heap.size,1,none⟩=some (.int .i64 tp):=sG;clear d0 d1 hPP0 HXT HXP HRES oA oB hq5;have hbt:=hbx;rcases oe with rfl|rfl|rfl
   .exact Zdu
   .have HQ:Hid ((n==0||(n==1&&CV c.sign tp==2))=RES):=HRT.out;have HPA:Hid (∀v,Below w.heap.size w v->Calls prog 87 #[.agg #[.slice p0 n0 q0,.slice (some ⟨lb,lo,none⟩) n1 q1,.slice p2 n2 q2,v3],.int .i64 n,.int .i64 tp] v fun e w'=>e=.returned (.bool RES)/\Below v.heap.size v w'):=fun v hb=>by rw[<-HQ.out];exact M9 _ _ _ _ c HCO.out n tp (fun _=>HPP.out rfl) v (HCV.below hb)
    exact Zes
   .have HQ:Hid ((Av n c.slots.length&&decide (Cw c.slots n=⟨tk,tp⟩))=RES):=HRT.out;cases hpl:Av n c.slots.length
    .exact Zax
    .obtain⟨k,rfl,hkl⟩:=Dr hpl;obtain⟨lb9,lo9,ep,hc9⟩:=AV.at (p:=p2) (n:=n2) (c:=q2) HCV.slots hkl;subst ep;have e9:Cw c.slots (k:Int)=c.slots[k].ty:=by unfold Cw;rw[Int.toNat_natCast,gB hkl];rfl
     have hq9:=HQ.out;rw[hpl,Bool.true_and,e9]at hq9;obtain⟨⟨⟨sk,sp⟩,sQ,sB,sI⟩,ht9⟩:∃t:Sl,c.slots[k]=t:=⟨_,rfl⟩
     rw[ht9]at hc9 hq9;have HQ9:Hid (decide ((⟨sk,sp⟩:Ty)=⟨tk,tp⟩)=RES):=hq9;have y0:w.cell? ⟨lb9,lo9+k*5,none⟩=some (.int .i64 sk):=hc9.at 0 rfl;have y1:w.cell? ⟨lb9,lo9+k*5+1,none⟩=some (.int .i64 sp):=hc9.at 1 rfl;have x0:=kc hbt y0;have x1:=kc hbt y1;have k0:(0:Int)<=(k:Int):=oM;have k1:(k:Int)<(n2:Int):=by have:=HN2.out;omega
     clear hc9 ht9 e9 hpl hq9 HQ;by_cases hks:sk=tk
     .obtain rfl:=hks;by_cases hps:sp=tp
      .exact Zbt
      .go_wp2;refine rG (fun v=>v.cell? ⟨w.heap.size,2,none⟩=some (.slice (some ⟨lb9,lo9,none⟩) n2 q2)/\v.cell? ⟨w.heap.size+1,5,none⟩=some (.int .i64 (k:Int))/\v.cell? ⟨lb9,lo9+k*5,none⟩=some (.int .i64 sk)/\v.cell? ⟨lb9,lo9+k*5+1,none⟩=some (.int .i64 sp)/\v.cell? ⟨w5.heap.size,0,none⟩=some (.int .i64 sk)/\v.cell? ⟨w5.heap.size,1,none⟩=some (.int .i64 tp)) fun hJ=>?_;exact Zdw
     .go_wp2;refine rG (fun v=>v.cell? ⟨w.heap.size,2,none⟩=some (.slice (some ⟨lb9,lo9,none⟩) n2 q2)/\v.cell? ⟨w.heap.size+1,5,none⟩=some (.int .i64 (k:Int))/\v.cell? ⟨lb9,lo9+k*5,none⟩=some (.int .i64 sk)/\v.cell? ⟨lb9,lo9+k*5+1,none⟩=some (.int .i64 sp)/\v.cell? ⟨w5.heap.size,0,none⟩=some (.int .i64 tk)/\v.cell? ⟨w5.heap.size,1,none⟩=some (.int .i64 tp)) fun hJ=>?_;exact Zdx
 .rw[F1,show(D==0)=false by simpa using hD,Bool.false_and]at hRES;have hD1:(D==0)=false:=by simpa using hD
  have hD2:(D != 0)=true:=by simpa using hD
  have HRF:Hid (false=RES):=hRES;clear hRES;go_enter func57,ntmps57;go_wp2_with(first
   |(go_at_call 38;refine(HROW.out _).mono ?_;rintro e w1 ⟨rfl,rfl⟩)
   |(go_at_call 56;refine(HCAN.out _).mono ?_;rintro e w2 ⟨rfl,hb2⟩;have HT2:Hid (TW w (.slice p0 n0 q0) (.slice p1 n1 q1) (.slice p2 n2 q2) v3 (w.heap.size+1) op D A B E n bt (w2.alloc (.cells #[.int .i64 0,.int .i64 0] 59))):=(HT0.next hb2).next (A0 _ _);obtain⟨b1,c0,c1,c2,c3,i0,i1,i2,i3,i4,i5,i6⟩:=HT2.out;have HS2:Hid (w.heap.size+1<w2.heap.size):=A8 (HT0.next hb2).i0;clear hb2))
  go_ret;exact⟨Ab HRF.out,HT2.bel⟩
theorem ZV(v0 v1 v2 v3:Value)(c:Cd)(co:Ba c)(hT:Ax c=true)(op D A B E n bt La Lb Lc Ld Le:Int)(a b cc d e:UInt8)
 (HROW:Hid (∀w,Calls prog 38 #[.int .i64 op] w fun x w'=>x=.returned (.tuple #[.string ⟨#[a,b,cc,d,e]⟩,.bool true])/\w'=w))
 (HCAN:Hid (∀w,Calls prog 56 #[.int .u32 bt] w fun e w'=>e=.returned (.bool true)/\Below w.heap.size w w'))
 (ix0:∀w,(Instr.index 9 (.string ⟨#[a,b,cc,d,e]⟩) (.int .i64 0)).run prog w=.ok (.int .u8 La) w)
 (ix1:∀w,(Instr.index 9 (.string ⟨#[a,b,cc,d,e]⟩) (.int .i64 1)).run prog w=.ok (.int .u8 Lb) w)
 (ix2:∀w,(Instr.index 9 (.string ⟨#[a,b,cc,d,e]⟩) (.int .i64 2)).run prog w=.ok (.int .u8 Lc) w)
 (ix3:∀w,(Instr.index 9 (.string ⟨#[a,b,cc,d,e]⟩) (.int .i64 3)).run prog w=.ok (.int .u8 Ld) w)
 (Vz:∀w,(Instr.index 9 (.string ⟨#[a,b,cc,d,e]⟩) (.int .i64 4)).run prog w=.ok (.int .u8 Le) w)
 (oa:Ca La) (ob:Ca Lb) (oc:Ca Lc) (od:Ca Ld) (oT:Le=112->La=118\/(La=45/\Lb=118)) (o1:(op==1)=true) (o2:(op != 1)=false) (hz0:La≠45) (oe:Le=45)
 (w:World) (hv:CE w v0 v1 v2 v3 c):
 Calls prog 57 #[.agg #[v0,v1,v2,v3],.agg #[.int .i64 op,.int .i64 D,.int .i64 A,.int .i64 B,.int .i64 E,.int .i64 n,.int .u32 bt]] w fun e w'=>e=.returned (.bool (At c.regs La D ⟨0,0⟩&&(At c.regs Lb A (dR c.regs La D)&&(At c.regs Lc B (dR c.regs La D)&&(At c.regs Ld E (dR c.regs La D)&&Dm c Le n (tR c.regs La Lb D A))))))/\Below w.heap.size w w':=by
 have KO:∀ (l n:Int) (d:Ty),Ca l->∀v,Below w.heap.size w v->Calls prog 86 #[.agg #[v0,v1,v2,v3],.int .u8 l,.int .i64 n,.agg #[.int .i64 d.kind,.int .i64 d.par]] v fun e w'=>e=.returned (.bool (At c.regs l n d))/\Below v.heap.size v w':=fun l n d hl v hb=>Fw v0 v1 v2 v3 c co l n d hl v (hv.below hb);have HT0:Hid (TW w v0 v1 v2 v3 (w.heap.size+1) op D A B E n bt ((w.alloc (.cells #[v0,v1,v2,v3] 27)).alloc (.cells #[.int .i64 op,.int .i64 D,.int .i64 A,.int .i64 B,.int .i64 E,.int .i64 n,.int .u32 bt] 40))):=TW.start w v0 v1 v2 v3 op D A B E n bt;obtain⟨p0,q0,rfl,-⟩:=id hv.sign;obtain⟨p1,q1,rfl,hr1⟩:=id hv.regs;obtain⟨p2,q2,rfl,-⟩:=id hv.slots;have hREG:∀x:Int,Av x c.regs.length=true->∃ (k lb lo:Nat),x=(k:Int)/\k<c.regs.length/\p1=some ⟨lb,lo,none⟩/\w.cell? ⟨lb,lo+k*2,none⟩=some (.int .i64 (Aa c.regs x).kind)/\w.cell? ⟨lb,lo+k*2+1,none⟩=some (.int .i64 (Aa c.regs x).par):=by
  exact Zco
 have HREG:Hid (∀x:Int,Av x c.regs.length=true->∃ (k lb lo:Nat),x=(k:Int)/\k<c.regs.length/\p1=some ⟨lb,lo,none⟩/\w.cell? ⟨lb,lo+k*2,none⟩=some (.int .i64 (Aa c.regs x).kind)/\w.cell? ⟨lb,lo+k*2+1,none⟩=some (.int .i64 (Aa c.regs x).par)):=hREG;have HCV:Hid (CE w (.slice p0 c.sign.length q0) (.slice p1 c.regs.length q1) (.slice p2 c.slots.length q2) v3 c):=hv;have HCO:Hid (Ba c):=co;have hB0:=co.signL;have hB1:=co.regsL;have hB2:=co.slotsL;have hTy:∀x:Int,Av x c.regs.length=true->GD 118 (Aa c.regs x) ⟨0,0⟩=true->Av (Aa c.regs x).par c.sign.length=true:=fun x hx hk=>by
  exact Zdh
 obtain⟨n0,hn0⟩:=gA (c.sign.length)
 obtain⟨n1,hn1⟩:=gA (c.regs.length)
 obtain⟨n2,hn2⟩:=gA (c.slots.length)
 have HN0:Hid (c.sign.length=n0):=hn0;have HN1:Hid (c.regs.length=n1):=hn1;have HN2:Hid (c.slots.length=n2):=hn2;rw[hn0]at hB0;rw[hn1]at hB1;rw[hn2]at hB2;rw[hn0,hn1,hn2]at HCV KO HT0 |-;clear hREG hv hr1 hn0 hn1 hn2 co;have HTY:Hid (∀x:Int,Av x c.regs.length=true->GD 118 (Aa c.regs x) ⟨0,0⟩=true->Av (Aa c.regs x).par c.sign.length=true):=hTy;clear hTy hT;have hKO0:=fun d=>KO La D d oa;have hKOA:=fun d=>KO Lb A d ob;have hKOB:=fun d=>KO Lc B d oc;have hKOC:=fun d=>KO Ld E d od;clear KO;have hPP0:Le=112->La=118\/(La=45/\Lb=118):=oT;clear oT oc od;obtain⟨RES,hRES⟩:∃R,(At c.regs La D ⟨0,0⟩&&(At c.regs Lb A (dR c.regs La D)&&(At c.regs Lc B (dR c.regs La D)&&(At c.regs Ld E (dR c.regs La D)&&Dm c Le n (tR c.regs La Lb D A)))))=R:=⟨_,rfl⟩
 rw[hRES];have hz1:(La==45)=false:=by simpa using hz0
 have hz2:(La != 45)=true:=by simpa using hz0
 have hPL:At c.regs La D ⟨0,0⟩=true->Av D c.regs.length=true:=fun h=>by
  rw[BV hz0]at h;simp only[Bool.and_eq_true]at h;exact h.1
 have hPV:At c.regs La D ⟨0,0⟩=true->La=118->GD 118 (Aa c.regs D) ⟨0,0⟩=true:=fun h hl=>by
  exact Zfi
 have hdR:dR c.regs La D=Aa c.regs D:=if_neg hz0;have htR:tR c.regs La Lb D A=Aa c.regs D:=by unfold tR;rw[if_neg (fun e=>hz0 e.1),hdR]
 rw[htR,hdR]at hRES;have HPP0:Hid (At c.regs La D ⟨0,0⟩=true->Le=112->Av (Aa c.regs D).par c.sign.length=true):=fun h e=>by
  rcases hPP0 e with h1|⟨h1,-⟩
  .exact HTY.out _ (hPL h) (hPV h h1)
  .exact absurd h1 hz0
 obtain⟨X0,hX0⟩:∃X,At c.regs La D ⟨0,0⟩=X:=⟨_,rfl⟩
 have HK0:Hid _:=hKO0 ⟨0,0⟩;rw[hX0]at hRES hPL HPP0 HK0;simp only at HK0;clear hX0 hPV hdR htR hKO0 hPP0 HTY;cases X0
 .exact Zal
 obtain⟨kd,lb,lo,rfl,hkd,rfl,ya0,ya1⟩:=HREG.out D (hPL rfl);obtain⟨⟨dk,dp⟩,htt⟩:∃t:Ty,Aa c.regs (kd:Int)=t:=⟨_,rfl⟩
 rw[htt]at HPP0 ya0 ya1 hRES;obtain⟨XA,hXA⟩:∃X,At c.regs Lb A ⟨dk,dp⟩=X:=⟨_,rfl⟩
 obtain⟨XB,hXB⟩:∃X,At c.regs Lc B ⟨dk,dp⟩=X:=⟨_,rfl⟩
 obtain⟨XC,hXC⟩:∃X,At c.regs Ld E ⟨dk,dp⟩=X:=⟨_,rfl⟩
 rw[hXA,hXB,hXC]at hRES;have HKA:Hid _:=hKOA ⟨dk,dp⟩;have HKB:Hid _:=hKOB ⟨dk,dp⟩;have HKC:Hid _:=hKOC ⟨dk,dp⟩;rw[hXA]at HKA;rw[hXB]at HKB;rw[hXC]at HKC;simp only at HKA HKB HKC;have HRES:Hid ((XA&&(XB&&(XC&&Dm c Le n ⟨dk,dp⟩)))=RES):=hRES;have HPP:Hid (Le=112->Av dp c.sign.length=true):=HPP0.out rfl;have ka0:(0:Int)<=(kd:Int):=oM;have ka1:(kd:Int)<(n1:Int):=by have:=HN1.out;omega
 clear hKOA hKOB hKOC hXA hXB hXC hRES HPP0 hPL htt;go_enter func57,ntmps57;go_wp2_with(first
  |(go_at_call 38;refine(HROW.out _).mono ?_;rintro e w1 ⟨rfl,rfl⟩)
  |(go_at_call 56;refine(HCAN.out _).mono ?_;rintro e w2 ⟨rfl,hb2⟩;have HT2:Hid (TW w (.slice p0 n0 q0) (.slice (some ⟨lb,lo,none⟩) n1 q1) (.slice p2 n2 q2) v3 (w.heap.size+1) op (kd:Int) A B E n bt (w2.alloc (.cells #[.int .i64 0,.int .i64 0] 59))):=(HT0.next hb2).next (A0 _ _);obtain⟨b1,c0,c1,c2,c3,i0,i1,i2,i3,i4,i5,i6⟩:=HT2.out;have HS2:Hid (w.heap.size+1<w2.heap.size):=A8 (HT0.next hb2).i0;clear hb2))
 have HTD0:Hid _:=HT2.out;have HD0:Hid ((w2.alloc (.cells #[.int .i64 0,.int .i64 0] 59)).cell? ⟨w2.heap.size,0,none⟩=some (.int .i64 0)/\(w2.alloc (.cells #[.int .i64 0,.int .i64 0] 59)).cell? ⟨w2.heap.size,1,none⟩=some (.int .i64 0)/\(w2.alloc (.cells #[.int .i64 0,.int .i64 0] 59)).frozen? ⟨w2.heap.size,0,none⟩=false/\(w2.alloc (.cells #[.int .i64 0,.int .i64 0] 59)).frozen? ⟨w2.heap.size,1,none⟩=false):=⟨sG,sG,sG,sG⟩
 have HBZ9:Hid (lb<w.heap.size):=A8 ya0;have HZ:Hid (w2.heap.size≠w.heap.size+1/\w.heap.size<w2.heap.size/\lb≠w2.heap.size):=by
  refine⟨?_,?_,?_⟩
  all_goals(have h3:=HS2.out;have h4:=HBZ9.out;omega)
 obtain⟨Z,hZ⟩:=gA (w2.heap.size)
 obtain⟨Wa,hWa⟩:∃W,w2.alloc (.cells #[.int .i64 0,.int .i64 0] 59)=W:=⟨_,rfl⟩
 rw[hZ]at HD0 HZ;rw[hWa]at HD0 HTD0 |-;try rw[hZ]
 clear hZ hWa HT2 b1 c0 c1 c2 c3 i0 i1 i2 i3 i4 i5 i6 HT0 HROW HCAN HS2;have HCD0:Hid (∀v,Below Wa.heap.size Wa v->v.cell? ⟨w.heap.size,0,none⟩=some (.slice p0 n0 q0)/\v.cell? ⟨w.heap.size,1,none⟩=some (.slice (some ⟨lb,lo,none⟩) n1 q1)/\v.cell? ⟨w.heap.size,2,none⟩=some (.slice p2 n2 q2)/\v.cell? ⟨w.heap.size,3,none⟩=some v3/\v.cell? ⟨w.heap.size+1,1,none⟩=some (.int .i64 (kd:Int))/\v.cell? ⟨w.heap.size+1,2,none⟩=some (.int .i64 A)/\v.cell? ⟨w.heap.size+1,3,none⟩=some (.int .i64 B)/\v.cell? ⟨w.heap.size+1,4,none⟩=some (.int .i64 E)/\v.cell? ⟨w.heap.size+1,5,none⟩=some (.int .i64 n)/\v.cell? ⟨Z,0,none⟩=some (.int .i64 0)/\v.cell? ⟨Z,1,none⟩=some (.int .i64 0)):=fun v hb=>⟨kc hb HTD0.c0,kc hb HTD0.c1,kc hb HTD0.c2,kc hb HTD0.c3,kc hb HTD0.i1,kc hb HTD0.i2,kc hb HTD0.i3,kc hb HTD0.i4,kc hb HTD0.i5,kc hb HD0.1,kc hb HD0.2.1⟩
 obtain⟨c0,c1,c2,c3,i1,i2,i3,i4,i5,d0,d1⟩:=HCD0.out Wa (BZ _);have HYA:Hid (∀v,Below Wa.heap.size Wa v->v.cell? ⟨lb,lo+kd*2,none⟩=some (.int .i64 dk)/\v.cell? ⟨lb,lo+kd*2+1,none⟩=some (.int .i64 dp)/\v.frozen? ⟨Z,0,none⟩=false/\v.frozen? ⟨Z,1,none⟩=false):=fun v hb=>⟨kc (bel HTD0.bel hb) ya0,kc (bel HTD0.bel hb) ya1,kf hb HD0.1 HD0.2.2.1,kf hb HD0.2.1 HD0.2.2.2⟩
 refine rG (fun v=>v.cell? ⟨w.heap.size,0,none⟩=some (.slice p0 n0 q0)/\v.cell? ⟨w.heap.size,1,none⟩=some (.slice (some ⟨lb,lo,none⟩) n1 q1)/\v.cell? ⟨w.heap.size,2,none⟩=some (.slice p2 n2 q2)/\v.cell? ⟨w.heap.size,3,none⟩=some v3/\v.cell? ⟨w.heap.size+1,1,none⟩=some (.int .i64 (kd:Int))/\v.cell? ⟨w.heap.size+1,2,none⟩=some (.int .i64 A)/\v.cell? ⟨w.heap.size+1,3,none⟩=some (.int .i64 B)/\v.cell? ⟨w.heap.size+1,4,none⟩=some (.int .i64 E)/\v.cell? ⟨w.heap.size+1,5,none⟩=some (.int .i64 n)/\v.cell? ⟨Z,0,none⟩=some (.int .i64 0)/\v.cell? ⟨Z,1,none⟩=some (.int .i64 0)) fun hJ=>?_;refine Tf 0 1 2 3 4 5 ?_;clear hJ;refine Aw 6 fun K hK=>?_;go_simp;(go_at_call 86;(with_reducible refine(HK0.out _ (bel HTD0.out.bel (A9 _))).mono ?_);rintro e w9 ⟨rfl,hb9⟩;have HB9:Hid (Below Wa.heap.size Wa w9):=bel (A9 _) hb9;clear hb9;obtain⟨ya2,ya3,fz0,fz1⟩:=HYA.out w9 HB9.out;obtain⟨c0,c1,c2,c3,i1,i2,i3,i4,i5,d0,d1⟩:=HCD0.out w9 HB9.out);try(go_wp2_with fail)
 refine Aq hK fun hJ=>?_;clear hK K;refine Bo 7 ?_;refine wpAnyH_done kR ?_ _;obtain⟨hz5,hz6,hz7⟩:=HZ.out;go_wp2;have HD:Hid (((w9.setCell ⟨Z,0,none⟩ (.int .i64 dk)).setCell ⟨Z,1,none⟩ (.int .i64 dp)).cell? ⟨Z,0,none⟩=some (.int .i64 dk)/\((w9.setCell ⟨Z,0,none⟩ (.int .i64 dk)).setCell ⟨Z,1,none⟩ (.int .i64 dp)).cell? ⟨Z,1,none⟩=some (.int .i64 dp)):=⟨by simp[go_sem,d0,d1],by simp[go_sem,d0,d1]⟩
 have HTD:Hid _:=((HTD0.next HB9.out).keep (g:=Z) (o:=0) (.int .i64 dk) hz6 hz5).keep (g:=Z) (o:=1) (.int .i64 dp) hz6 hz5;obtain⟨Wd,hWd⟩:∃W,(w9.setCell ⟨Z,0,none⟩ (.int .i64 dk)).setCell ⟨Z,1,none⟩ (.int .i64 dp)=W:=⟨_,rfl⟩
 rw[hWd]at HD HTD |-;clear hWd c0 c1 c2 c3 i1 i2 i3 i4 i5 d0 d1 ya2 ya3 fz0 fz1 HCD0 HYA HD0 HTD0 HB9 HK0 hz5 hz6 hz7 HZ;have HCD:Hid (∀v,Below Wd.heap.size Wd v->v.cell? ⟨w.heap.size,0,none⟩=some (.slice p0 n0 q0)/\v.cell? ⟨w.heap.size,1,none⟩=some (.slice (some ⟨lb,lo,none⟩) n1 q1)/\v.cell? ⟨w.heap.size,2,none⟩=some (.slice p2 n2 q2)/\v.cell? ⟨w.heap.size,3,none⟩=some v3/\v.cell? ⟨w.heap.size+1,1,none⟩=some (.int .i64 (kd:Int))/\v.cell? ⟨w.heap.size+1,2,none⟩=some (.int .i64 A)/\v.cell? ⟨w.heap.size+1,3,none⟩=some (.int .i64 B)/\v.cell? ⟨w.heap.size+1,4,none⟩=some (.int .i64 E)/\v.cell? ⟨w.heap.size+1,5,none⟩=some (.int .i64 n)/\v.cell? ⟨Z,0,none⟩=some (.int .i64 dk)/\v.cell? ⟨Z,1,none⟩=some (.int .i64 dp)):=fun v hb=>⟨kc hb HTD.c0,kc hb HTD.c1,kc hb HTD.c2,kc hb HTD.c3,kc hb HTD.i1,kc hb HTD.i2,kc hb HTD.i3,kc hb HTD.i4,kc hb HTD.i5,kc hb HD.1,kc hb HD.2⟩
 obtain⟨c0,c1,c2,c3,i1,i2,i3,i4,i5,d0,d1⟩:=HCD.out Wd (BZ _);cases XA
 .exact Zbb
 cases XB
 .have HQF:Hid (false=RES):=HRES.out;go_wp2;refine rG (fun v=>v.cell? ⟨w.heap.size,0,none⟩=some (.slice p0 n0 q0)/\v.cell? ⟨w.heap.size,1,none⟩=some (.slice (some ⟨lb,lo,none⟩) n1 q1)/\v.cell? ⟨w.heap.size,2,none⟩=some (.slice p2 n2 q2)/\v.cell? ⟨w.heap.size,3,none⟩=some v3/\v.cell? ⟨w.heap.size+1,1,none⟩=some (.int .i64 (kd:Int))/\v.cell? ⟨w.heap.size+1,2,none⟩=some (.int .i64 A)/\v.cell? ⟨w.heap.size+1,3,none⟩=some (.int .i64 B)/\v.cell? ⟨w.heap.size+1,4,none⟩=some (.int .i64 E)/\v.cell? ⟨w.heap.size+1,5,none⟩=some (.int .i64 n)/\v.cell? ⟨Z,0,none⟩=some (.int .i64 dk)/\v.cell? ⟨Z,1,none⟩=some (.int .i64 dp)) fun hJ=>?_;exact Zav
 cases XC
 .have HQF:Hid (false=RES):=HRES.out;go_wp2;refine rG (fun v=>v.cell? ⟨w.heap.size,0,none⟩=some (.slice p0 n0 q0)/\v.cell? ⟨w.heap.size,1,none⟩=some (.slice (some ⟨lb,lo,none⟩) n1 q1)/\v.cell? ⟨w.heap.size,2,none⟩=some (.slice p2 n2 q2)/\v.cell? ⟨w.heap.size,3,none⟩=some v3/\v.cell? ⟨w.heap.size+1,1,none⟩=some (.int .i64 (kd:Int))/\v.cell? ⟨w.heap.size+1,2,none⟩=some (.int .i64 A)/\v.cell? ⟨w.heap.size+1,3,none⟩=some (.int .i64 B)/\v.cell? ⟨w.heap.size+1,4,none⟩=some (.int .i64 E)/\v.cell? ⟨w.heap.size+1,5,none⟩=some (.int .i64 n)/\v.cell? ⟨Z,0,none⟩=some (.int .i64 dk)/\v.cell? ⟨Z,1,none⟩=some (.int .i64 dp)) fun hJ=>?_;exact Zan
 go_wp2;refine rG (fun v=>v.cell? ⟨w.heap.size,0,none⟩=some (.slice p0 n0 q0)/\v.cell? ⟨w.heap.size,1,none⟩=some (.slice (some ⟨lb,lo,none⟩) n1 q1)/\v.cell? ⟨w.heap.size,2,none⟩=some (.slice p2 n2 q2)/\v.cell? ⟨w.heap.size,3,none⟩=some v3/\v.cell? ⟨w.heap.size+1,1,none⟩=some (.int .i64 (kd:Int))/\v.cell? ⟨w.heap.size+1,2,none⟩=some (.int .i64 A)/\v.cell? ⟨w.heap.size+1,3,none⟩=some (.int .i64 B)/\v.cell? ⟨w.heap.size+1,4,none⟩=some (.int .i64 E)/\v.cell? ⟨w.heap.size+1,5,none⟩=some (.int .i64 n)/\v.cell? ⟨Z,0,none⟩=some (.int .i64 dk)/\v.cell? ⟨Z,1,none⟩=some (.int .i64 dp)) fun hJ=>?_;refine Tf 0 1 2 3 4 5 ?_;clear hJ;refine Aw 6 fun K hK=>?_;go_simp;(go_at_call 86;(with_reducible refine(HKA.out _ (bel HTD.out.bel (A9 _))).mono ?_);rintro e w3 ⟨rfl,hb9⟩;have HB3:Hid (Below Wd.heap.size Wd w3):=bel (A9 _) hb9;clear hb9;obtain⟨c0,c1,c2,c3,i1,i2,i3,i4,i5,d0,d1⟩:=HCD.out w3 HB3.out);try(go_wp2_with fail)
 refine Aq hK fun hJ=>?_;clear hK K;refine Tf 7 8 9 10 11 12 ?_;refine Tb 13 14 ?_;clear hJ;refine Aw 15 fun K hK=>?_;go_simp;(go_at_call 86;(with_reducible refine(HKB.out _ (bel HTD.out.bel HB3.out)).mono ?_);rintro e w4 ⟨rfl,hb9⟩;have HB4:Hid (Below Wd.heap.size Wd w4):=bel HB3.out hb9;clear hb9;clear c0 c1 c2 c3 i1 i2 i3 i4 i5 d0 d1;obtain⟨c0,c1,c2,c3,i1,i2,i3,i4,i5,d0,d1⟩:=HCD.out w4 HB4.out);try(go_wp2_with fail)
 refine Aq hK fun hJ=>?_;clear hK K;refine Tf 16 17 18 19 20 21 ?_;refine Tc 22 23 24 ?_;clear hJ;refine Aw 25 fun K hK=>?_;go_simp;(go_at_call 86;(with_reducible refine(HKC.out _ (bel HTD.out.bel HB4.out)).mono ?_);rintro e w5 ⟨rfl,hb9⟩;have HB5:Hid (Below Wd.heap.size Wd w5):=bel HB4.out hb9;clear hb9;clear c0 c1 c2 c3 i1 i2 i3 i4 i5 d0 d1;obtain⟨c0,c1,c2,c3,i1,i2,i3,i4,i5,d0,d1⟩:=HCD.out w5 HB5.out);try(go_wp2_with fail)
 refine Aq hK fun hJ=>?_;clear hK K;refine Tb 26 27 ?_;refine wpAnyH_done kR ?_ _;clear c0 c1 c2 c3 i1 i2 i3 i4 i5 d0 d1;have HT5:Hid (TW w (.slice p0 n0 q0) (.slice (some ⟨lb,lo,none⟩) n1 q1) (.slice p2 n2 q2) v3 (w.heap.size+1) op (kd:Int) A B E n bt w5):=HTD.next HB5.out;obtain⟨hb5,c0,c1,c2,c3,i0,i1,i2,i3,i4,i5,i6⟩:=HT5.out;obtain⟨-,-,-,-,-,-,-,-,-,d0,d1⟩:=HCD.out w5 HB5.out;have hs5:w5.heap.size≠w.heap.size+1/\w.heap.size<w5.heap.size:=⟨fun e=>by have:=A8 i0;simp only at this;omega,by have:=A8 c0;simp only at this;omega⟩
 have HAL:Hid (TW w (.slice p0 n0 q0) (.slice (some ⟨lb,lo,none⟩) n1 q1) (.slice p2 n2 q2) v3 (w.heap.size+1) op (kd:Int) A B E n bt (w5.alloc (.cells #[.int .i64 dk,.int .i64 dp] 59))):=HT5.next (A0 _ _);have HRT:Hid (Dm c Le n ⟨dk,dp⟩=RES):=HRES.out;clear c0 c1 c2 c3 i0 i1 i2 i3 i4 i5 i6;have t0:(w5.alloc (.cells #[.int .i64 dk,.int .i64 dp] 59)).cell? ⟨w5.heap.size,0,none⟩=some (.int .i64 dk):=sG;have t1:(w5.alloc (.cells #[.int .i64 dk,.int .i64 dp] 59)).cell? ⟨w5.heap.size,1,none⟩=some (.int .i64 dp):=sG;obtain⟨hbx,c0,c1,c2,c3,i0,i1,i2,i3,i4,i5,i6⟩:=HAL.out;clear d0 d1 HRES;have hbt:=hbx;subst oe;exact Zdu
def OQ(s:Wk)(op:Int):Bool:=if op=34\/op=36 then decide (s.opens.length<64)else if op=35 then decide (0<s.opens.length)&& !AD s else if op=37 then AD s else true
def O2(c:Cd)(s:Wk)(i:Ad):Bool:=AD s&&(i.op != 37&&GF c.regs (FL i) != Cp s)
def E6(s:Wk):Prop:=∀b∈s.opens,b.loop=true->0<=b.par
theorem E6.inner{s:Wk}(h:E6 s)(hl:AD s=true):0<=Cp s:=by
 obtain⟨S,O⟩:=s;cases O with
 |nil=>exact Int.le_refl _
 |cons b r=>exact h b (List.mem_cons_self ..) hl
theorem IL{i:Ad}(h:CT i.op=false):FL i= -1:=by
 unfold CT at h;simp only[Bool.or_eq_false_iff]at h;have h1:(i.op==29)=false/\(i.op==30)=false/\(i.op==31)=false/\(i.op==32)=false/\(i.op==33)=false:=by
  have:=h.1;simp only[Bool.and_eq_false_iff,decide_eq_false_iff_not]at this;simp only[beq_eq_false_iff_ne,ne_eq];omega
 unfold FL;rw[h.2,h1.1,h1.2.1,h1.2.2.1,h1.2.2.2.1,h1.2.2.2.2];rfl
theorem Uw{i:Ad}(h:CT i.op=true):FL i=ED i (A4 i.op):=by
 unfold CT Bq at h;simp only[Bool.or_eq_true,Bool.and_eq_true,decide_eq_true_eq]at h;obtain⟨op,D,A,B,E,n,bb⟩:=i;simp only at h |-;have:op=3\/op=4\/op=5\/op=6\/op=7\/op=8\/op=9\/op=10\/op=11\/op=12\/op=13\/op=14\/op=15\/op=29\/op=30\/op=31\/op=32\/op=33:=oM;rcases this with rfl|rfl|rfl|rfl|rfl|rfl|rfl|rfl|rfl|rfl|rfl|rfl|rfl|rfl|rfl|rfl|rfl|rfl<;>rfl
theorem IM(rs:List Ty):GF rs (-1)= -1:=by unfold GF Av;simp
theorem vecR_eq{rs:List Ty}{n q:Int}(hq:0<=q):(GF rs n=q)↔Aa rs n=⟨3,q⟩:=by
 unfold GF;cases h:Av n rs.length
 .have:Aa rs n=⟨0,0⟩:=by unfold Aa;rw[h];rfl
  rw[this];simp;omega
 .rw[Bool.true_and];generalize Aa rs n=t;obtain⟨K,P⟩:=t;simp only[Ty.mk.injEq];by_cases hk:K=3
  .subst hk;simp
  .have:(K==3)=false:=by simpa using hk
   rw[this];constructor
   .intro e;simp at e;omega
   .intro e;exact absurd e.1 hk
theorem Uj{c:Cd}{s:Wk}{i:Ad}(hO:E6 s):Az c s i (A4 i.op)=(!O2 c s i&&OQ s i.op):=by
 have hO':=hO.inner;unfold Az O2 OQ;by_cases h1:i.op=34\/i.op=36
 .rw[if_pos h1,if_pos h1];have hv:GF c.regs (FL i)= -1:=by
   rw[IL (by rcases h1 with e|e<;>rw[e]<;>decide),IM]
  have h37:(i.op != 37)=true:=by rcases h1 with e|e<;>rw[e]<;>decide
  rw[hv,h37];cases hl:AD s
  .rfl
  .have:=hO' hl;have e:((-1:Int) != Cp s)=true:=sO;rw[e];rfl
 .rw[if_neg h1,if_neg h1];by_cases h2:i.op=35
  .rw[if_pos h2,if_pos h2];have hv:GF c.regs (FL i)= -1:=by rw[IL (by rw[h2];decide),IM]
   rw[hv,h2];have hE:(!s.opens.isEmpty)=decide (0<s.opens.length):=by cases s.opens<;>simp
   rw[hE];cases hl:AD s
   .simp
   .have:=hO' hl;have e:((-1:Int) != Cp s)=true:=sO;rw[e];simp
  .rw[if_neg h2,if_neg h2];by_cases h3:i.op=37
   .rw[if_pos h3,if_pos h3,h3];cases AD s<;>rfl
   .rw[if_neg h3,if_neg h3];have h37:(i.op != 37)=true:=by simpa using h3
    rw[h37,Bool.true_and,Bool.and_true];cases hl:AD s
    .rfl
    .have hq:=hO' hl;rw[Bool.not_true,Bool.false_or,Bool.true_and];cases hlp:CT i.op
     .rw[IL hlp,IM];have e:((-1:Int) != Cp s)=true:=sO;rw[e];rfl
     .rw[Uw hlp,Bool.true_and];unfold AC;rw[Bool.eq_iff_iff,decide_eq_true_eq,<-vecR_eq hq];simp
theorem Uq{c:Cd}{s:Wk}{i:Ad}(hT:Ax c=true)(hO:E6 s):AG c s i=((Al i.op&&Ew c i (DR i.op))&&(!O2 c s i&&(EQ s i (A4 i.op)&&OQ s i.op))):=by
 unfold AG;rw[NK hT,Uj hO];cases Al i.op<;>cases AS c i (A4 i.op)<;>cases O2 c s i<;>cases OQ s i.op<;>simp
structure Ob where
 op:Int
 par:Int
 set:List Nat
def obR(S:List Nat)(b:Bk):Ob:=⟨if b.loop then 36 else 34,b.par,S.take b.ahead⟩
def Li(s:Wk):List Ob:=(s.opens.map (obR s.set)).reverse
theorem Jo(s:Wk):(Li s).length=s.opens.length:=by simp[Li]
theorem Hk(S:List Nat)(b:Bk)(r:List Bk):Li ⟨S,b::r⟩=(r.map (obR S)).reverse++[obR S b]:=by simp[Li]
theorem VT{s:Wk}(h:0<s.opens.length):∃X,(Li s)[s.opens.length-1]? =some ⟨if AD s then 36 else 34,Cp s,X⟩:=by
 obtain⟨S,O⟩:=s;cases O with
 |nil=>simp at h
 |cons b r=>
  refine⟨S.take b.ahead,?_⟩;rw[Hk];simp only[List.length_cons,Nat.add_sub_cancel];rw[List.getElem?_append_right sM];simp only[List.length_reverse,List.length_map,Nat.sub_self];rfl
theorem Ng{s:Wk}{i:Ad}(h:i.op=34\/i.op=36):Aj s i=⟨s.set,⟨i.op==36,i.n,s.set.length⟩::s.opens⟩:=by
 unfold Aj Dd;rw[Lm Zho];unfold Bv;rw[if_pos h]
theorem Nh{s:Wk}{i:Ad}(h:i.op=35\/i.op=37):Aj s i=AQ s:=by
 unfold Aj Dd;rw[Lm Zho];unfold Bv;rw[if_neg oM,if_pos h]
theorem Gw{s:Wk}{i:Ad}(h1:i.op≠34)(h2:i.op≠35)(h3:i.op≠36)(h4:i.op≠37):Aj s i=⟨Jd s.set i,s.opens⟩:=by
 unfold Aj Dd Bv;rw[if_neg oM,if_neg oM];unfold Cf Jd;split<;>rfl
theorem VU{s:Wk}{i:Ad}(h:i.op=34\/i.op=36):Li (Aj s i)=Li s++[⟨i.op,i.n,s.set⟩]:=by
 rw[Ng h,Hk];unfold Li obR;simp only[List.take_length];rcases h with h|h<;>rw[h]<;>rfl
theorem VV{s:Wk}{i:Ad}{n:Nat}(ho:E5 n s)(h1:i.op≠34)(h2:i.op≠35)(h3:i.op≠36)(h4:i.op≠37):Li (Aj s i)=Li s:=by
 rw[Gw h1 h2 h3 h4];unfold Li;simp only;congr 1;apply List.map_congr_left;intro b hb;have:=Q8 ho.opens b hb;have e:(Jd s.set i).take b.ahead=s.set.take b.ahead:=by
  unfold Jd;split
  .rw[List.take_append_of_le_length this]
  .rfl
 unfold obR;rw[e]
theorem Gp{s:Wk}{n:Nat}(ho:E5 n s)(h:0<s.opens.length):Li (AQ s)=(Li s).take (s.opens.length-1):=by
 obtain⟨S,O⟩:=s;cases O with
 |nil=>simp at h
 |cons b r=>
  rw[Hk];simp only[List.length_cons,Nat.add_sub_cancel];rw[List.take_append_of_le_length sM,List.take_of_length_le sM];unfold Li AQ;simp only;cases hb:b.loop
  .simp only[Bool.false_eq_true,if_false];congr 1;apply List.map_congr_left;intro a ha;have:=Q8 ho.opens.2 a ha;unfold obR;rw[List.take_take,Nat.min_eq_left this]
  .simp only[if_true]
theorem Tm{s:Wk}(hl:AD s=false){o:Ob}(h:(Li s)[s.opens.length-1]? =some o)(h0:0<s.opens.length):(AQ s).set=o.set:=by
 obtain⟨S,O⟩:=s;cases O with
 |nil=>simp at h0
 |cons b r=>
  rw[Hk]at h;simp only[List.length_cons,Nat.add_sub_cancel]at h;rw[List.getElem?_append_right sM]at h;simp at h;subst h;have:b.loop=false:=hl;simp[AQ,this,obR]
theorem PQ{s:Wk}(hl:AD s=true):(AQ s).set=s.set:=by
 obtain⟨S,O⟩:=s;cases O with
 |nil=>rfl
 |cons b r=>
  have:b.loop=true:=hl;simp[AQ,this]
theorem EC(s:Wk):(AQ s).opens.length=s.opens.length-1:=by
 obtain⟨S,O⟩:=s;cases O with
 |nil=>rfl
 |cons b r=>simp[AQ]
theorem E6.step{c:Cd}{s:Wk}{i:Ad}(h:E6 s)(t:AG c s i=true):E6 (Aj s i):=by
 by_cases h1:i.op=34\/i.op=36
 .rw[Ng h1];intro b hb hl;rcases List.mem_cons.1 hb with rfl|hb
  .have h36:i.op=36:=by simpa using hl
   obtain⟨_,h2,_,_⟩:=Ao t;rw[h36]at h2;unfold AS Bh at h2;simp only[Bool.and_eq_true]at h2;have h3:=h2.2.2.2.2;rw[if_neg (show(A4 36).n≠7 by decide)]at h3;simp only[Bool.and_eq_true]at h3;have h4:Av i.n c.sign.length=true:=h3.2;exact(BU.1 h4).1
  .exact h b hb hl
 .by_cases h2:i.op=35\/i.op=37
  .rw[Nh h2];intro b hb hl;refine h b ?_ hl;unfold AQ at hb;split at hb
   .rename_i e;rw[e];exact List.mem_cons_of_mem _ hb
   .exact hb
  .rw[Gw oM oM oM oM];exact h
theorem E6.start:E6 ⟨[],[]⟩:=fun b hb=>by cases hb
def Zw(o:Ob)(u:Value):List Value:=[.int .i64 o.op,.int .i64 o.par,u]
def GP:List Ob->List Value->List Value
 |o::l,u::us=>Zw o u++GP l us
 |_,_=>[]
theorem LN(o:Ob)(u:Value):∀ {l:List Ob} {us:List Value},l.length=us.length->GP (l++[o]) (us++[u])=GP l us++Zw o u
 |[],[],_=>by simp[GP]
 |[],_::_,h=>by simp at h
 |_::_,[],h=>by simp at h
 |a::l,b::us,h=>by simp only[List.cons_append,GP];rw[LN o u UQ,List.append_assoc]
theorem Im:∀ (m:Nat) (l:List Ob) (us:List Value),(GP l us).take (m*3)=GP (l.take m) (us.take m)
 |0,l,us=>by simp[GP]
 |m+1,[],us=>by simp[GP]
 |m+1,a::l,[]=>by simp[GP]
 |m+1,a::l,b::us=>by
  simp only[List.take_succ_cons,GP];rw[show(m+1)*3=(Zw a b).length+m*3 by simp[Zw];omega,List.take_length_add_append,Im m l us]
theorem Rx(j:Nat)(hj:j<3):∀ {l:List Ob} {us:List Value} {k:Nat} {o:Ob} {u:Value},l[k]? =some o->us[k]? =some u->(GP l us)[k*3+j]? =(Zw o u)[j]?
 |[],us,k,o,u,h,_=>by simp at h
 |a::l,[],k,o,u,_,h=>by simp at h
 |a::l,b::us,0,o,u,h,h'=>by
  simp at h h';subst h h';simp only[GP];rw[Nat.zero_mul,Nat.zero_add,List.getElem?_append_left (by simpa[Zw]using hj)]
 |a::l,b::us,k+1,o,u,h,h'=>by
  simp only[GP];rw[List.getElem?_append_right (by simp[Zw];omega)];have e:(k+1)*3+j-(Zw a b).length=k*3+j:=by simp[Zw];omega
  rw[e];exact Rx j hj UQ (by simpa using h')
theorem Th:(prog.info? 102).map (fun i=>(i.zero,i.size,i.bytes))=some (some (.agg #[.int .i64 0,.int .i64 0,.slice none 0 0]),3,40):=kR
structure SK(B M:Nat)(v:World)(sv ov:Value)(s:Wk)(us:List Value):Prop where
 hB:B<=v.heap.size
 set:v.ownsRow B 4 1 sv M (Di M s.set)
 opn:v.ownsRow B 102 3 ov s.opens.length (GP (Li s) us)
 len:us.length=s.opens.length
 each:∀k (h:k<us.length) o,(Li s)[k]? =some o->v.ownsRow B 4 1 us[k] M (Di M o.set)/\∀b,sv.ownBlock=some b->us[k].ownBlock≠some b
section
variable {B M : Nat} {v v' : World} {sv ov : Value} {s : Wk} {us : List Value}
theorem SK.below(h:SK B M v sv ov s us)(k:Below v.heap.size v v'):SK B M v' sv ov s us:=
 ⟨gH h.hB k.size,Ak h.set k,Ak h.opn k,h.len,fun j hj o ho=>⟨Ak (h.each j hj o ho).1 k,(h.each j hj o ho).2⟩⟩
theorem I8:102≠4:=dE
theorem SK.ins{i:Ad}{g q n:Nat}(h:SK B M v (.slice (some ⟨g,0,none⟩) M q) ov s us)(ok:E5 n s)(h1:i.op≠34)(h2:i.op≠35)(h3:i.op≠36)(h4:i.op≠37)(hd:(A4 i.op).d≠0)(hl:i.d.toNat<M):
 SK B M (v.setCell ⟨g,i.d.toNat,none⟩ (.bool true)) (.slice (some ⟨g,0,none⟩) M q) ov (Aj s i) us:=by
 have e1:=VV (i:=i) ok h1 h2 h3 h4;have e2:(Aj s i).set=Jd s.set i/\(Aj s i).opens=s.opens:=by rw[Gw h1 h2 h3 h4];exact⟨rfl,rfl⟩
 have hne:∀b,b≠g->(v.setCell ⟨g,i.d.toNat,none⟩ (.bool true)).heap[b]? =v.heap[b]? :=fun b hb=>gE hb;refine⟨by have:=h.hB;simp;omega,?_,?_,by rw[e2.2];exact h.len,fun k hk o ho=>?_⟩
 .rw[e2.1,<-XG hd hl];exact(h.set.stored _ _).1
 .rw[e1,e2.2];exact Ac h.opn fun b hb=>hne b fun e=>Gr h.opn h.set I8 b hb (by rw[e];rfl)
 .rw[e1]at ho;obtain⟨a1,a2⟩:=h.each k hk o ho;exact⟨Ac a1 fun b hb=>hne b fun e=>a2 g rfl (by rw[<-e];exact hb),a2⟩
theorem SK.keep{i:Ad}{n:Nat}(h:SK B M v sv ov s us)(ok:E5 n s)(h1:i.op≠34)(h2:i.op≠35)(h3:i.op≠36)(h4:i.op≠37)(hd:(A4 i.op).d=0):SK B M v sv ov (Aj s i) us:=by
 have e:Aj s i=s:=by rw[Gw h1 h2 h3 h4,Ub (M:=0) hd]
 rw[e];exact h
theorem Gq{B:Nat}{V:World}{e t:TypeId}{z:Value}{sz by':Nat}(ht:prog.underlying t=some (.slice e))(hi:(prog.info? e).map (fun i=>(i.zero,i.size,i.bytes))=some (some z,sz,by'))(hzs:z.cells.size=sz)(hsz:0<sz){p:Option Addr}{n q:Nat}{xs:List Value}(h:V.ownsRow B e sz (.slice p n q) n xs)(hB:B<=V.heap.size)
 (cs:Array Value) (hcs:cs.size=sz) (h1:∀u∈cs.toList,u.oneCell'=true) (hn:n+1<=maxLen) (hb:(n+1)*by'<=140737488355328) (ty:TypeId):
 ∃g c' w',(Builtin.append_ #[t,t] ty #[.slice p n q,.slice (some ⟨V.heap.size,0,none⟩) 1 1]).run prog (V.alloc (.cells cs e))=.ok (.slice (some ⟨g,0,none⟩) (n+1) c') w'/\Below B V w'/\w'.ownsRow B e sz (.slice (some ⟨g,0,none⟩) (n+1) c') (n+1) (xs++cs.toList)/\∀b,b<V.heap.size->(Value.slice p n q).ownBlock≠some b->w'.heap[b]? =V.heap[b]? :=by
 obtain⟨i0,hi0,hz0,hz1,hz2⟩:=info_parts hi;have hb0:Below V.heap.size V (V.alloc (.cells cs e)):=A0 _ _;have hs:(V.alloc (.cells cs e)).heap.size=V.heap.size+1:=sM;have h0:=Ak h hb0;obtain⟨g,cap,w3,hr,hown,hgrow,hat,hlt⟩:=run_append_lies (P:=prog) (V.alloc (.cells cs e)) t ty B e i0 _ sz by' ht hi0 hz0 hz1 hz2 hzs hsz (.slice p n q) n xs h0 ⟨V.heap.size,0,none⟩ 1 1 cs.toList (by simp[hcs])
  (World.news_of_block (cs:=cs) (t:=e) (fr:=(0,0)) (heap_alloc_new V _)) h1 dE hn hb oM _ rfl
 refine⟨g,cap,w3,hr,(hb0.mono hB).grown hgrow oM (fun q e=>(h0.lt q e).1),hown,fun b hb hne=>?_⟩;rw[hgrow.block b oM (Ne.symm hne)];exact hb0.block b hb
theorem SK.push{i:Ad}{p:Option Addr}{q:Nat}{u:Value}(h:SK B M v sv (.slice p s.opens.length q) s us)(k:Below v.heap.size v v')(hu:v'.ownsRow v.heap.size 4 1 u M (Di M s.set))(hi:i.op=34\/i.op=36)(hn:s.opens.length<64)(ty:TypeId):
 ∃g c' w',(Builtin.append_ #[98,98] ty #[.slice p s.opens.length q,.slice (some ⟨v'.heap.size,0,none⟩) 1 1]).run prog (v'.alloc (.cells #[.int .i64 i.op,.int .i64 i.n,u] 102))=.ok (.slice (some ⟨g,0,none⟩) (s.opens.length+1) c') w'/\Below B v w'/\SK B M w' sv (.slice (some ⟨g,0,none⟩) (s.opens.length+1) c') (Aj s i) (us++[u])/\∀b,b<v'.heap.size->(Value.slice p s.opens.length q).ownBlock≠some b->w'.heap[b]? =v'.heap[b]? :=by
 have h':=h.below k;have hone:u.oneCell'=true:=by
  obtain⟨p,c,rfl⟩:=AZ hu;rfl
 obtain⟨g,c',w',hr,hb,ho,hk⟩:=Gq (V:=v') underlying98 Th rfl dE h'.opn h'.hB #[.int .i64 i.op,.int .i64 i.n,u] rfl (by intro x hx;simp at hx;rcases hx with rfl|rfl|rfl<;>first|rfl|exact hone) mL oM ty;have hs:(Aj s i).set=s.set/\(Aj s i).opens.length=s.opens.length+1:=by rw[Ng hi];exact⟨rfl,rfl⟩
 have eo:=VU (s:=s) hi;have hsz:=k.size;refine⟨g,c',w',hr,(k.mono h.hB).trans hb,⟨gH h'.hB hb.size,?_,?_,by rw[hs.2,List.length_append,h.len];rfl,fun j hj o ho'=>?_⟩,hk⟩
 .rw[hs.1];exact Ac h'.set fun b hbb=>hk b (h'.set.lt b hbb).2 (fun e=>Gr h'.opn h'.set I8 b e hbb)
 .rw[hs.2,eo,LN _ _ (by rw[Jo];exact h.len.symm)];exact ho
 .rw[eo]at ho';by_cases hlt:j<us.length
  .rw[List.getElem?_append_left (by rw[Jo,<-h.len];exact hlt)]at ho';obtain⟨a1,a2⟩:=h'.each j hlt o ho';rw[List.getElem_append_left hlt];exact⟨Ac a1 fun b hbb=>hk b (a1.lt b hbb).2 (fun e=>Gr h'.opn a1 I8 b e hbb),a2⟩
  .have hj':j=us.length:=by simp at hj;omega
   subst hj';rw[List.getElem?_append_right (by rw[Jo,h.len];exact gF _)]at ho';have e0:us.length-(Li s).length=0:=by rw[Jo,h.len];omega
   rw[e0]at ho';simp at ho';subst ho';have e1:(us++[u])[us.length]'hj=u:=sM;rw[e1];refine⟨CN (Ac hu fun b hbb=>hk b (hu.lt b hbb).2 (fun e=>?_)) h.hB,fun b hbb e=>?_⟩
   .exact Gr h'.opn hu I8 b e hbb
   .have a1:=(hu.lt b e).1;have a2:=(h.set.lt b hbb).2;omega
theorem SK.pop{p:Option Addr}{q n:Nat}(h:SK B M v sv (.slice p s.opens.length q) s us)(ok:E5 n s)(h0:0<s.opens.length)(hl:AD s=true):SK B M v sv (.slice p (s.opens.length-1) q) (AQ s) (us.take (s.opens.length-1)):=by
 refine⟨h.hB,by rw[PQ hl];exact h.set,?_,by rw[EC,List.length_take,h.len];omega,fun k hk o ho=>?_⟩
 .rw[EC,Gp ok h0,<-Im];exact G5 h.opn oM
 .rw[Gp ok h0]at ho;have hk':k<us.length:=by simp at hk;omega
  rw[List.getElem?_take]at ho;split at ho
  .obtain⟨a1,a2⟩:=h.each k hk' o ho;simp only[List.getElem_take];exact⟨a1,a2⟩
  .simp at ho
theorem SK.back{p:Option Addr}{q n:Nat}{u:Value}{o:Ob}(h:SK B M v sv (.slice p s.opens.length q) s us)(ok:E5 n s)(h0:0<s.opens.length)(hl:AD s=false)(k:Below v.heap.size v v')(ho:(Li s)[s.opens.length-1]? =some o)(hu:v'.ownsRow v.heap.size 4 1 u M (Di M o.set)):
 SK B M v' u (.slice p (s.opens.length-1) q) (AQ s) (us.take (s.opens.length-1)):=by
 refine⟨gH h.hB k.size,by rw[Tm hl ho h0];exact CN hu h.hB,?_,by rw[EC,List.length_take,h.len];omega,fun j hj x hx=>?_⟩
 .rw[EC,Gp ok h0,<-Im];exact Ak (G5 h.opn oM) k
 .rw[Gp ok h0]at hx;have hk':j<us.length:=by simp at hj;omega
  rw[List.getElem?_take]at hx;split at hx
  .obtain⟨a1,a2⟩:=h.each j hk' x hx;simp only[List.getElem_take];refine⟨Ak a1 k,fun b hb e=>?_⟩;have b1:=(hu.lt b hb).1;have b2:=(a1.lt b e).2;omega
  .simp at hx
theorem SK.last{g q:Nat}(h:SK B M v sv (.slice (some ⟨g,0,none⟩) s.opens.length q) s us)(h0:0<s.opens.length):∃ (X:List Nat) (u:Value),(Li s)[s.opens.length-1]? =some ⟨if AD s then 36 else 34,Cp s,X⟩/\v.ownsRow B 4 1 u M (Di M X)/\v.cell? ⟨g,(s.opens.length-1)*3,none⟩=some (.int .i64 (if AD s then 36 else 34))/\v.cell? ⟨g,(s.opens.length-1)*3+1,none⟩=some (.int .i64 (Cp s))/\v.cell? ⟨g,(s.opens.length-1)*3+2,none⟩=some u:=by
 obtain⟨X,hX⟩:=VT h0;have hu:s.opens.length-1<us.length:=by rw[h.len];omega
 obtain⟨a1,a2⟩:=h.each _ hu _ hX;have cl:=fun(j:Nat) (hj:j<3)=>Rx j hj hX (gB hu);have ca:=fun(j:Nat) (hj:j<3)=>h.opn.cellAt ((s.opens.length-1)*3+j) oM;refine⟨X,_,hX,a1,?_,?_,?_⟩
 .have:=ca 0 dE;rw[cl 0 dE]at this;exact this
 .have:=ca 1 dE;rw[cl 1 dE]at this;exact this
 .have:=ca 2 dE;rw[cl 2 dE]at this;exact this
theorem SK.start(w:World)(B:Nat)(h:B<=w.heap.size){sv:Value}(hs:w.ownsRow B 4 1 sv M (Di M [])):SK B M w sv (.slice none 0 0) ⟨[],[]⟩ []:=
 ⟨h,hs,World.ownsRow_nil _ _ _ 3,rfl,fun k hk=>by simp at hk⟩
end
theorem XH(M:Nat)(X:List Nat):∀u∈Di M X,u.oneCell'=true:=by
 intro u hu;unfold Di at hu;simp only[List.mem_map]at hu;obtain⟨j,-,rfl⟩:=hu;rfl
theorem Sy{t e:TypeId}{z:Value}{sz by':Nat}(ht:prog.underlying t=some (.slice e))(hi:(prog.info? e).map (fun i=>(i.zero,i.size,i.bytes))=some (some z,sz,by'))(p:Option Addr)(n c:Nat)(x:Option Addr)(d:Nat)(hn:n<=c)(ty:TypeId)(w:World):(Builtin.append_ #[t,t] ty #[.slice p n c,.slice x 0 d]).run prog w=.ok (.slice p n c) w:=by
 obtain⟨i0,hi0,hz0,hz1,hz2⟩:=info_parts hi;have h1:¬c<n:=oM;cases x with
 |none=>cases p<;>simp[Builtin.append_,run_underlying ht,sizeOf,typeInfo,hi0,Builtin.lenOf,Builtin.firstCells,storeCells,loadCells,loadCellsFrom,hn,h1]
 |some a=>cases p<;>simp[Builtin.append_,run_underlying ht,sizeOf,typeInfo,hi0,Builtin.lenOf,Builtin.firstCells,storeCells,loadCells,loadCellsFrom,hn,h1]
theorem J0{B M:Nat}{X:List Nat}(v:Value)(hM:M<=16384)(w:World)(h:w.ownsRow B 4 1 v M (Di M X)):
 Calls prog 37 #[v] w fun e w'=>∃u,e=.returned u/\w'.ownsRow w.heap.size 4 1 u M (Di M X)/\Below w.heap.size w w':=by
 obtain⟨p,q,rfl⟩:=AZ h;have Bl:∃u w',(Builtin.append_ #[36,36] 36 #[.slice none 0 0,.slice p M q]).run prog w=.ok u w'/\w'.ownsRow w.heap.size 4 1 u M (Di M X)/\Below w.heap.size w w':=by
  by_cases h0:M=0
  .subst h0;refine⟨.slice none 0 0,w,Sy underlying36 EX none 0 0 p q (gF _) _ _,?_,BZ _⟩;have:Di 0 X=[]:=by simp[Di]
   rw[this];exact World.ownsRow_nil _ _ _ 1
  .obtain⟨g,c,e,hl,hg⟩:=h.form oM;simp only[Value.slice.injEq]at e;obtain⟨rfl,-,rfl⟩:=e;obtain⟨i0,hi0,hz0,hz1,hz2⟩:=info_parts EX;obtain⟨g',cap,w',hr,hown,hgrow,hat,hlt⟩:=run_append_lies (P:=prog) w 36 36 w.heap.size 4 i0 _ 1 1 underlying36 hi0 hz0 hz1 hz2 rfl dE (.slice none 0 0) 0 [] (World.ownsRow_nil _ _ _ 1) ⟨g,0,none⟩ M q (Di M X) Zhy
    (fun j u hu=>by
     have hj:j<M:=by have:=(List.getElem?_eq_some_iff.1 hu).1;rw[Ko]at this;exact this
     have e:=h.cellAt j oM;have e2:(⟨g,0,none⟩:Addr).add j=⟨g,j,none⟩:=by simp[Addr.add];omega
     rw[e2,e,hu]) (XH M X) oM mL oM (gF _) _ rfl
   simp only[Nat.zero_add,List.nil_append]at hr hown;exact⟨_,w',hr,hown,(Below.refl _ _).grown hgrow (gF _) (fun k e=>by simp[Value.ownBlock]at e)⟩
 obtain⟨u,w',hr,ho,hb⟩:=Bl;have HR:Hid ((Builtin.append_ #[36,36] 36 #[.slice none 0 0,.slice p M q]).run prog w=.ok u w'):=hr;have HO:Hid (w'.ownsRow w.heap.size 4 1 u M (Di M X)/\Below w.heap.size w w'):=⟨ho,hb⟩
 clear h hr ho hb;go_enter func37,ntmps37;go_wp2_with(at_builtin;refine AO rF _ _ _ rF _ _ _ rF rF HR.out ?_);go_ret;exact⟨u,rfl,HO.1,HO.2⟩
theorem Fq{P:Program}{w w':World}{o:Oper}{a:Act}{K:Act->World->Prop}{Q:Exit->Act->World->Prop}(s x:Operand)(t:TypeId)
 (ho:o.op=.call {callee:=.builtin .append,args:=#[s,x],argTypes:=#[t,t]}) (v v2 v':Value) (hs:a.eval s=v) (hx:a.eval x=v2) (hr:(Builtin.append_ #[t,t] o.type #[v,v2]).run P w=.ok v' w')
 (h:K (a.put o.dst v') w') (y':Bool) (hy:y'=true):if y'=true then Oper.wp P o a w K Q else K (a.put o.dst undef) w:=by
 rw[if_pos hy];exact Zet
def okM(L:Lt):Bool:=decide (L.a=45->L.b=45->L.e=45\/L.e=113)&&(decide (L.a=45->L.b≠45->L.e=45\/L.e=112\/L.e=115)&&decide (L.a≠45->L.e=45\/L.e=105\/L.e=112\/L.e=115))
theorem Zy{p:Prop}[Decidable p]{x y:Lt}(h:okM x=true)(k:okM y=true):okM (if p then x else y)=true:=by
 split
 .exact h
 .exact k
theorem Zn(op:Int):okM (DR op)=true:=by
 unfold DR
 iterate 19 refine Zy dE ?_
 decide
theorem TP(v0 v1 v2 v3:Value)(c:Cd)(co:Ba c)(hT:Ax c=true)(i:Ad)(h0:0<=i.bits)(h1:i.bits<4294967296)(hk:Al i.op=true)(h2:(i.op==1||i.bits==0)=true)(h3:CO i.bits=true)(w:World)(hv:CE w v0 v1 v2 v3 c):
 Calls prog 57 #[.agg #[v0,v1,v2,v3],Ch i] w fun e w'=>e=.returned (.bool (Ew c i (DR i.op)))/\Below w.heap.size w w':=by
 have HCAN:Hid (∀w,Calls prog 56 #[.int .u32 i.bits] w fun e w'=>e=.returned (.bool true)/\Below w.heap.size w w'):=by rw[<-h3];exact Eg i.bits h0 h1
 obtain⟨a,b,cc,d,e,⟨ea,eb,ec,ed,ee⟩,hc⟩:=Si i.op hk;obtain⟨oa,ob,oc,od,oe,oT⟩:=ltR_ok i.op;have om:=Zn i.op;unfold okM at om;simp only[Bool.and_eq_true,decide_eq_true_eq]at om;obtain⟨m1,m2,m3⟩:=om;have hF:Ew c i (DR i.op)=(At c.regs (DR i.op).a i.d ⟨0,0⟩&&(At c.regs (DR i.op).b i.a (dR c.regs (DR i.op).a i.d)&&(At c.regs (DR i.op).c i.b (dR c.regs (DR i.op).a i.d)&&(At c.regs (DR i.op).d i.c (dR c.regs (DR i.op).a i.d)&&Dm c (DR i.op).e i.n (tR c.regs (DR i.op).a (DR i.op).b i.d i.a))))):=by
  unfold Ew;rw[h2,h3,Bool.true_and,Bool.true_and]
 rw[hF];clear hF h3;have ix0:∀w,(Instr.index 9 (.string ⟨#[a,b,cc,d,e]⟩) (.int .i64 0)).run prog w=.ok (.int .u8 (DR i.op).a) w:=fun w=>by rw[<-ea];simp[Instr.index,run_underlying underlying9,asIntOf,go_sem];rfl
 have ix1:∀w,(Instr.index 9 (.string ⟨#[a,b,cc,d,e]⟩) (.int .i64 1)).run prog w=.ok (.int .u8 (DR i.op).b) w:=fun w=>by rw[<-eb];simp[Instr.index,run_underlying underlying9,asIntOf,go_sem];rfl
 have ix2:∀w,(Instr.index 9 (.string ⟨#[a,b,cc,d,e]⟩) (.int .i64 2)).run prog w=.ok (.int .u8 (DR i.op).c) w:=fun w=>by rw[<-ec];simp[Instr.index,run_underlying underlying9,asIntOf,go_sem];rfl
 have ix3:∀w,(Instr.index 9 (.string ⟨#[a,b,cc,d,e]⟩) (.int .i64 3)).run prog w=.ok (.int .u8 (DR i.op).d) w:=fun w=>by rw[<-ed];simp[Instr.index,run_underlying underlying9,asIntOf,go_sem];rfl
 have Vz:∀w,(Instr.index 9 (.string ⟨#[a,b,cc,d,e]⟩) (.int .i64 4)).run prog w=.ok (.int .u8 (DR i.op).e) w:=fun w=>by rw[<-ee];simp[Instr.index,run_underlying underlying9,asIntOf,go_sem];rfl
 cases h:(i.op==1)
 .rw[h,Bool.false_or]at h2;have o2:(i.op != 1)=true:=by simpa using h
  have o4:(i.bits != 0)=false:=by simpa using h2
  by_cases hz:(DR i.op).a=45
  .exact ZT v0 v1 v2 v3 c co hT i.op i.d i.a i.b i.c i.n i.bits _ _ _ _ _ a b cc d e hc HCAN ix0 ix1 ix2 ix3 Vz oa ob oc od oT h o2 h2 o4 hz (m1 hz) (m2 hz) w hv
  .exact ZU v0 v1 v2 v3 c co hT i.op i.d i.a i.b i.c i.n i.bits _ _ _ _ _ a b cc d e hc HCAN ix0 ix1 ix2 ix3 Vz oa ob oc od oT h o2 h2 o4 hz (m3 hz) w hv
 .have o2:(i.op != 1)=false:=by simpa using h
  have e1:i.op=1:=by simpa using h
  have ha:(DR i.op).a≠45:=by rw[e1];decide
  have he:(DR i.op).e=45:=by rw[e1];rfl
  exact ZV v0 v1 v2 v3 c co hT i.op i.d i.a i.b i.c i.n i.bits _ _ _ _ _ a b cc d e hc HCAN ix0 ix1 ix2 ix3 Vz oa ob oc od oT h o2 ha he w hv
theorem TO(v0 v1 v2 v3:Value)(c:Cd)(co:Ba c)(hT:Ax c=true)(i:Ad)(h0:0<=i.bits)(h1:i.bits<4294967296)(w:World)(hv:CE w v0 v1 v2 v3 c):
 Calls prog 57 #[.agg #[v0,v1,v2,v3],Ch i] w fun e w'=>e=.returned (.bool (Al i.op&&Ew c i (DR i.op)))/\Below w.heap.size w w':=by
 cases hh:(Al i.op&&((i.op==1||i.bits==0)&&CO i.bits))
 .have e:(Al i.op&&Ew c i (DR i.op))=false:=by
   unfold Ew;revert hh;cases Al i.op<;>cases(i.op==1||i.bits==0)<;>cases CO i.bits<;>simp
  rw[e];exact Wy v0 v1 v2 v3 i h0 h1 hh w
 .simp only[Bool.and_eq_true]at hh;rw[hh.1,Bool.true_and];exact TP v0 v1 v2 v3 c co hT i h0 h1 hh.1 hh.2.1 hh.2.2 w hv
theorem ZR{c:Cd}{i:Ad}(h:AS c i (A4 i.op)=true):∀x∈Ae i (A4 i.op),0<=x/\x<(c.regs.length:Int):=by
 intro x hx;unfold Ae at hx;simp only[List.mem_append]at hx;rcases hx with hx|hx|hx
 .split at hx
  .simp at hx
  .rename_i e;simp at hx;subst hx;exact Ag (BF h) e
 .split at hx
  .simp at hx
  .rename_i e;simp at hx;subst hx;exact Ag (CQ h) e
 .split at hx
  .simp at hx
  .rename_i e;simp at hx;subst hx;exact Ag (CR h) e
theorem TI(i:Ad):(Ae i (A4 i.op)).length<=3:=by
 rw[F2];simp only[List.length_append];have a:=DS (A4 i.op).a i.a;have b:=DS (A4 i.op).b i.b;have d:=DS (A4 i.op).c i.c;omega
theorem Oy(v0 v1 v2 v3:Value)(c:Cd)(co:Ba c)(hT:Ax c=true)(i:Ad)(hb0:0<=i.bits)(hb1:i.bits<4294967296)(B:Nat)(s:Wk)(sv ov:Value)(us:List Value)(hM:c.regs.length<=16384)(ok:E5 c.regs.length s)(po:E6 s)(w:World)(hv:CE w v0 v1 v2 v3 c)(hs:SK B c.regs.length w sv ov s us):
 Calls prog 36 #[.agg #[v0,v1,v2,v3],Ch i,sv,ov] w fun e w'=>e=.returned (.bool (AG c s i))/\Below w.heap.size w w':=by
 rw[Uq hT po];have hfit:(Al i.op&&Ew c i (DR i.op))=true->AS c i (A4 i.op)=true:=fun h=>by simp only[Bool.and_eq_true]at h;rw[<-NK hT];exact h.2
 have HFIT:Hid (∀v,Below w.heap.size w v->Calls prog 57 #[.agg #[v0,v1,v2,v3],Ch i] v fun e w'=>e=.returned (.bool (Al i.op&&Ew c i (DR i.op)))/\Below v.heap.size v w'):=fun v hb=>TO v0 v1 v2 v3 c co hT i hb0 hb1 v (hv.below hb);have HVEC:Hid (∀v,Below w.heap.size w v->Calls prog 58 #[.agg #[v0,v1,v2,v3],Ch i] v fun e w'=>e=.returned (.int .i64 (GF c.regs (FL i)))/\Below v.heap.size v w'):=fun v hb=>OD v0 v1 v2 v3 c co i v (hv.below hb);have HRD:Hid (∀v,Calls prog 59 #[Ch i] v fun e w'=>∃u,e=.returned u/\w'.ownsRow v.heap.size 3 1 u (Ae i (A4 i.op)).length (Cg (Ae i (A4 i.op)))/\Below v.heap.size v w'):=Qr i;have hR3:=TI i;have hRP:=fun h=>ZR (hfit h);have hRO:EQ s i (A4 i.op)=(Ae i (A4 i.op)).all fun n=>decide (n.toNat∈s.set):=rfl;rw[hRO];clear hfit hRO;unfold O2 OQ;obtain⟨Fi,hFi⟩:∃F,(Al i.op&&Ew c i (DR i.op))=F:=⟨_,rfl⟩
 rw[hFi]at HFIT hRP |-;obtain⟨V,hV⟩:=gA (GF c.regs (FL i))
 rw[hV]at HVEC |-;obtain⟨R,hR⟩:=gA (Ae i (A4 i.op))
 rw[hR]at HRD hR3 hRP |-;have hnest:=ok.nest;have hlast:=fun g q (e:ov=.slice (some ⟨g,0,none⟩) s.opens.length q)=>SK.last (e▸hs);obtain⟨p,q,rfl⟩:=AZ hs.opn;have hopn:0<s.opens.length->∃g,p=some ⟨g,0,none⟩:=fun h=>by
  obtain⟨g,cap,e,_⟩:=hs.opn.form h;simp only[Value.slice.injEq]at e;exact⟨g,e.1⟩
 obtain⟨ps,qs,rfl⟩:=AZ hs.set;have HSET:Hid (∀k,k<c.regs.length->∃g,ps=some ⟨g,0,none⟩/\w.cell? ⟨g,k,none⟩=some (.bool (decide (k∈s.set)))):=fun k hk=>by
  obtain⟨g,cap,e,_⟩:=hs.set.form oM;simp only[Value.slice.injEq]at e;obtain⟨rfl,-,-⟩:=e;exact⟨g,rfl,by rw[hs.set.cellAt k oM,Hz hk]⟩
 have hz:s.opens.length=0->AD s=false:=fun h=>by
  obtain⟨S,O⟩:=s;cases O with
  |nil=>rfl
  |cons b r=>simp at h
 obtain⟨S,hS⟩:=gA (s.set)
 obtain⟨n,hn⟩:=gA (s.opens.length)
 obtain⟨lp,hlp⟩:∃l,AD s=l:=⟨_,rfl⟩
 obtain⟨par,hpar⟩:∃l,Cp s=l:=⟨_,rfl⟩
 obtain⟨M,hMM⟩:=gA (c.regs.length)
 rw[hn]at hnest hlast hopn hz |-;rw[hlp]at hlast hz |-;rw[hpar]at hlast |-;rw[hS]at HSET |-;rw[hMM]at hM HSET hRP hlast |-;clear hFi hV hR hs ok po hv co hT hS hn hlp hpar hMM;obtain⟨op,D,A,Q,E,nn,bt⟩:=i;unfold Ch at HFIT HVEC HRD |-;simp only at HFIT HVEC HRD hb0 hb1 |-;clear hb0 hb1;have HT0:Hid (TW w v0 v1 v2 v3 (w.heap.size+1) op D A Q E nn bt ((w.alloc (.cells #[v0,v1,v2,v3] 27)).alloc (.cells #[.int .i64 op,.int .i64 D,.int .i64 A,.int .i64 Q,.int .i64 E,.int .i64 nn,.int .u32 bt] 40))):=TW.start w v0 v1 v2 v3 op D A Q E nn bt;obtain⟨hb00,c0,c1,c2,c3,i0,i1,i2,i3,i4,i5,i6⟩:=HT0.out;have hcase:(n=0/\lp=false)\/(∃m g,m+1=n/\p=some ⟨g,0,none⟩/\lp=false/\w.cell? ⟨g,m*3,none⟩=some (.int .i64 34))\/(∃m g,m+1=n/\p=some ⟨g,0,none⟩/\lp=true/\w.cell? ⟨g,m*3,none⟩=some (.int .i64 36)/\w.cell? ⟨g,m*3+1,none⟩=some (.int .i64 par)):=by
  by_cases h0:n=0
  .exact .inl ⟨h0,hz h0⟩
  .obtain⟨g,rfl⟩:=hopn oM;obtain⟨X,u,-,-,a0,a1,-⟩:=hlast g q rfl oM;obtain⟨m,rfl⟩:∃m,n=m+1:=⟨n-1,oM⟩
   rw[Nat.add_sub_cancel]at a0 a1;cases lp
   .exact .inr (.inl ⟨m,g,rfl,rfl,rfl,a0⟩)
   .exact .inr (.inr ⟨m,g,rfl,rfl,rfl,a0,a1⟩)
 clear hlast hopn hz;have HRP:Hid (Fi=true->∀x∈R,0<=x/\x<(M:Int)):=hRP;clear hRP;obtain⟨RES,hRES⟩:∃X,(Fi&&(!(lp&&(op != 37&&V != par))&&((R.all fun n=>decide (n.toNat∈S))&&(if op=34\/op=36 then decide (n<64)else if op=35 then decide (0<n)&& !lp else if op=37 then lp else true))))=X:=⟨_,rfl⟩
 rw[hRES];cases Fi
 .have HQF:Hid (false=RES):=hRES;clear hRES;rcases hcase with⟨rfl,rfl⟩|⟨m,g,hm,rfl,rfl,z0⟩|⟨m,g,hm,rfl,rfl,z0,z1⟩
  .exact Zak
  .have hw:IntKind.i64.wrap ((n:Int)-1)=(m:Int):=by rw[IntKind.wrap_i64];omega
   have x0:=kc hb00 z0;have j0:(0:Int)<(n:Int):=oM;have j1:(0:Int)<=(m:Int):=oM;have j2:(m:Int)<(n:Int):=oM;exact Zak
  .have hw:IntKind.i64.wrap ((n:Int)-1)=(m:Int):=by rw[IntKind.wrap_i64];omega
   have x0:=kc hb00 z0;have j0:(0:Int)<(n:Int):=oM;have j1:(0:Int)<=(m:Int):=oM;have j2:(m:Int)<(n:Int):=oM;exact Zak
 .rw[Bool.true_and]at hRES;have HRP1:Hid (∀x∈R,0<=x/\x<(M:Int)):=HRP.out rfl;clear HRP;rcases hcase with⟨hn0,rfl⟩|⟨m,g,hm,rfl,rfl,z0⟩|⟨m,g,hm,rfl,rfl,z0,z1⟩
  .rw[Bool.false_and,Bool.not_false,Bool.true_and]at hRES;have HR2:Hid (((R.all fun n=>decide (n.toNat∈S))&&(if op=34\/op=36 then decide (n<64)else if op=35 then decide (0<n)&& !false else if op=37 then false else true))=RES):=hRES;clear hRES;have j0:¬ (0:Int)<(n:Int):=oM;go_enter func36,ntmps36;go_wp2;refine rG (fun v=>v.cell? ⟨w.heap.size,0,none⟩=some v0/\v.cell? ⟨w.heap.size,1,none⟩=some v1/\v.cell? ⟨w.heap.size,2,none⟩=some v2/\v.cell? ⟨w.heap.size,3,none⟩=some v3/\v.cell? ⟨w.heap.size+1,0,none⟩=some (.int .i64 op)/\v.cell? ⟨w.heap.size+1,1,none⟩=some (.int .i64 D)/\v.cell? ⟨w.heap.size+1,2,none⟩=some (.int .i64 A)/\v.cell? ⟨w.heap.size+1,3,none⟩=some (.int .i64 Q)/\v.cell? ⟨w.heap.size+1,4,none⟩=some (.int .i64 E)/\v.cell? ⟨w.heap.size+1,5,none⟩=some (.int .i64 nn)/\v.cell? ⟨w.heap.size+1,6,none⟩=some (.int .u32 bt)) fun hJ=>?_;refine Tb 0 1 ?_;clear hJ;refine Aw 2 fun K hK=>?_;go_simp;(go_at_call 57;(with_reducible refine(HFIT.out _ (bel HT0.out.bel (A9 _))).mono ?_);rintro e wz ⟨rfl,hbz⟩;have HBZ:Hid (Below ((w.alloc (.cells #[v0,v1,v2,v3] 27)).alloc (.cells #[.int .i64 op,.int .i64 D,.int .i64 A,.int .i64 Q,.int .i64 E,.int .i64 nn,.int .u32 bt] 40)).heap.size ((w.alloc (.cells #[v0,v1,v2,v3] 27)).alloc (.cells #[.int .i64 op,.int .i64 D,.int .i64 A,.int .i64 Q,.int .i64 E,.int .i64 nn,.int .u32 bt] 40)) wz):=bel (A9 _) hbz;clear hbz;obtain⟨-,c0,c1,c2,c3,i0,i1,i2,i3,i4,i5,i6⟩:=HT0.out.next HBZ.out);try(go_wp2_with fail)
   refine Aq hK fun hJ=>?_;clear hK K;refine Tc 3 4 5 ?_;refine Bo 6 ?_;refine Ep 7 ?_;refine Ep 8 ?_;refine Ep 9 ?_;refine Tb 10 11 ?_;refine Kd 12 13 14 15 ?_;refine Kd 16 17 18 19 ?_;refine Ep 20 ?_;refine Ep 21 ?_;refine Ep 22 ?_;refine Tb 23 24 ?_;refine wpAnyH_done kR ?_ _;clear j0;exact Zab
  .rw[Bool.false_and,Bool.not_false,Bool.true_and]at hRES;have HR2:Hid (((R.all fun n=>decide (n.toNat∈S))&&(if op=34\/op=36 then decide (n<64)else if op=35 then decide (0<n)&& !false else if op=37 then false else true))=RES):=hRES;clear hRES;have hw:IntKind.i64.wrap ((n:Int)-1)=(m:Int):=by rw[IntKind.wrap_i64];omega
   have x0:=kc hb00 z0;have j0:(0:Int)<(n:Int):=oM;have j1:(0:Int)<=(m:Int):=oM;have j2:(m:Int)<(n:Int):=oM;go_enter func36,ntmps36;go_wp2;refine rG (fun v=>v.cell? ⟨w.heap.size,0,none⟩=some v0/\v.cell? ⟨w.heap.size,1,none⟩=some v1/\v.cell? ⟨w.heap.size,2,none⟩=some v2/\v.cell? ⟨w.heap.size,3,none⟩=some v3/\v.cell? ⟨w.heap.size+1,0,none⟩=some (.int .i64 op)/\v.cell? ⟨w.heap.size+1,1,none⟩=some (.int .i64 D)/\v.cell? ⟨w.heap.size+1,2,none⟩=some (.int .i64 A)/\v.cell? ⟨w.heap.size+1,3,none⟩=some (.int .i64 Q)/\v.cell? ⟨w.heap.size+1,4,none⟩=some (.int .i64 E)/\v.cell? ⟨w.heap.size+1,5,none⟩=some (.int .i64 nn)/\v.cell? ⟨w.heap.size+1,6,none⟩=some (.int .u32 bt)) fun hJ=>?_;refine Tb 0 1 ?_;clear hJ;refine Aw 2 fun K hK=>?_;go_simp;(go_at_call 57;(with_reducible refine(HFIT.out _ (bel HT0.out.bel (A9 _))).mono ?_);rintro e wz ⟨rfl,hbz⟩;have HBZ:Hid (Below ((w.alloc (.cells #[v0,v1,v2,v3] 27)).alloc (.cells #[.int .i64 op,.int .i64 D,.int .i64 A,.int .i64 Q,.int .i64 E,.int .i64 nn,.int .u32 bt] 40)).heap.size ((w.alloc (.cells #[v0,v1,v2,v3] 27)).alloc (.cells #[.int .i64 op,.int .i64 D,.int .i64 A,.int .i64 Q,.int .i64 E,.int .i64 nn,.int .u32 bt] 40)) wz):=bel (A9 _) hbz;clear hbz;obtain⟨-,c0,c1,c2,c3,i0,i1,i2,i3,i4,i5,i6⟩:=HT0.out.next HBZ.out);try(go_wp2_with fail)
   refine Aq hK fun hJ=>?_;clear hK K;refine Tc 3 4 5 ?_;refine Bo 6 ?_;refine Ep 7 ?_;refine Ep 8 ?_;refine Ep 9 ?_;refine Tb 10 11 ?_;refine Kd 12 13 14 15 ?_;refine Kd 16 17 18 19 ?_;refine Ep 20 ?_;refine Ep 21 ?_;refine Ep 22 ?_;refine Tb 23 24 ?_;refine wpAnyH_done kR ?_ _;clear j0 j1 j2 hw;exact Zab
  .rw[Bool.true_and]at hRES;have hw:IntKind.i64.wrap ((n:Int)-1)=(m:Int):=by rw[IntKind.wrap_i64];omega
   have x0:=kc hb00 z0;have j0:(0:Int)<(n:Int):=oM;have j1:(0:Int)<=(m:Int):=oM;have j2:(m:Int)<(n:Int):=oM;have y1:=kc hb00 z1;by_cases h7:op=37
   .subst h7;rw[show((37:Int) != 37)=false from rfl,Bool.false_and,Bool.not_false,Bool.true_and]at hRES;have HR2:Hid (((R.all fun n=>decide (n.toNat∈S))&&(if(37:Int)=34\/(37:Int)=36 then decide (n<64)else if(37:Int)=35 then decide (0<n)&& !true else if(37:Int)=37 then true else true))=RES):=hRES;clear hRES;go_enter func36,ntmps36;go_wp2;refine rG (fun v=>v.cell? ⟨w.heap.size,0,none⟩=some v0/\v.cell? ⟨w.heap.size,1,none⟩=some v1/\v.cell? ⟨w.heap.size,2,none⟩=some v2/\v.cell? ⟨w.heap.size,3,none⟩=some v3/\v.cell? ⟨w.heap.size+1,0,none⟩=some (.int .i64 37)/\v.cell? ⟨w.heap.size+1,1,none⟩=some (.int .i64 D)/\v.cell? ⟨w.heap.size+1,2,none⟩=some (.int .i64 A)/\v.cell? ⟨w.heap.size+1,3,none⟩=some (.int .i64 Q)/\v.cell? ⟨w.heap.size+1,4,none⟩=some (.int .i64 E)/\v.cell? ⟨w.heap.size+1,5,none⟩=some (.int .i64 nn)/\v.cell? ⟨w.heap.size+1,6,none⟩=some (.int .u32 bt)) fun hJ=>?_;refine Tb 0 1 ?_;clear hJ;refine Aw 2 fun K hK=>?_;go_simp;(go_at_call 57;(with_reducible refine(HFIT.out _ (bel HT0.out.bel (A9 _))).mono ?_);rintro e wz ⟨rfl,hbz⟩;have HBZ:Hid (Below ((w.alloc (.cells #[v0,v1,v2,v3] 27)).alloc (.cells #[.int .i64 37,.int .i64 D,.int .i64 A,.int .i64 Q,.int .i64 E,.int .i64 nn,.int .u32 bt] 40)).heap.size ((w.alloc (.cells #[v0,v1,v2,v3] 27)).alloc (.cells #[.int .i64 37,.int .i64 D,.int .i64 A,.int .i64 Q,.int .i64 E,.int .i64 nn,.int .u32 bt] 40)) wz):=bel (A9 _) hbz;clear hbz;obtain⟨-,c0,c1,c2,c3,i0,i1,i2,i3,i4,i5,i6⟩:=HT0.out.next HBZ.out);try(go_wp2_with fail)
    refine Aq hK fun hJ=>?_;clear hK K;refine Tf 3 4 5 6 7 8 ?_;refine Tc 9 10 11 ?_;refine Kd 12 13 14 15 ?_;refine Kd 16 17 18 19 ?_;refine Ep 20 ?_;refine Ep 21 ?_;refine Ep 22 ?_;refine Tb 23 24 ?_;refine wpAnyH_done kR ?_ _;clear j0 j1 j2 hw y1;have HTZ:Hid (TW w v0 v1 v2 v3 (w.heap.size+1) 37 D A Q E nn bt wz):=HT0.out.next HBZ.out;go_wp2_with(go_at_call 59;(with_reducible refine(HRD.out _).mono ?_);rintro e w5 ⟨u,rfl,hou,hb5⟩;obtain⟨pu,qu,rfl⟩:=AZ hou;have HOU:Hid (w5.ownsRow wz.heap.size 3 1 (.slice pu R.length qu) R.length (Cg R)):=hou;have HB5:Hid (Below wz.heap.size wz w5):=hb5;clear hou hb5)
    go_loopw [11] (fun kv wr=>∃k:Nat,k<=R.length/\kv=.int .i64 (k:Int)/\wr=w5/\∀x∈R.take k,x.toNat∈S) (fun kv _=>R.length-(intOf kv).toNat)
    case atStart=>exact⟨0,gI _,rfl,rfl,fun x hx=>by simp at hx⟩
    case round=>
     obtain⟨k,hk,rfl,rfl,hin⟩:=hrel;clear c0 c1 c2 c3 i0 i1 i2 i3 i4 i5 i6;obtain⟨hbq,c0,c1,c2,c3,i0,i1,i2,i3,i4,i5,i6⟩:=HTZ.next HB5.out;by_cases hlt:k<R.length
     .have hx:=HRP1.out R[k] (gD hlt);obtain⟨d,hd⟩:∃d:Nat,R[k]=(d:Int):=⟨R[k].toNat,oM⟩
      obtain⟨gs,rfl,hcs⟩:=HSET.out d oM;have hcs':=kc hbq hcs;obtain⟨gu,cu,eu,-⟩:=HOU.form oM;simp only[Value.slice.injEq]at eu;obtain⟨rfl,-,rfl⟩:=eu;have hcu:wr.cell? ⟨gu,k,none⟩=some (.int .i64 (d:Int)):=by rw[HOU.cellAt k oM];simp[Cg,hlt,hd]
      have HMEM:Hid (R[k]=(d:Int)):=hd;have HIN:Hid (∀x∈R.take k,x.toNat∈S):=hin;have t0:(0:Int)<=(k:Int):=oM;have t1:(k:Int)<(R.length:Int):=oM;have t2:(0:Int)<=(d:Int):=oM;have t3:(d:Int)<(M:Int):=oM;have wk:IntKind.i64.wrap ((k:Int)+1)=((k+1:Nat):Int):=by rw[IntKind.wrap_i64];omega
      clear hx hd hin hcs hk;cases hX:decide (d∈S)
      .rw[hX]at hcs';have hall:(R.all fun n=>decide (n.toNat∈S))=false:=by
        rw[List.all_eq_false];exact⟨R[k],gD hlt,by rw[HMEM.out,Int.toNat_natCast,hX];decide⟩
       have HQF:Hid (false=RES):=by show _=_;have:=HR2.out;rw[hall,Bool.false_and]at this;exact this
       clear hX hall;go_wp2;go_ret;exact⟨Ab HQF.out,hbq⟩
      .rw[hX]at hcs';have HX:Hid (d∈S):=by show d∈S;exact of_decide_eq_true hX
       clear hX;go_wp2;go_roundw
       case rel=>
        refine⟨k+1,oM,gN,fT,fun x hx=>?_⟩;rw[List.take_succ_eq_append_getElem hlt,List.mem_append]at hx;rcases hx with hx|hx
        .exact HIN.out x hx
        .simp only[List.mem_singleton]at hx;rw[hx,HMEM.out,Int.toNat_natCast];exact HX.out
       case measure=>simp[intOf];omega
     .have hkk:k=R.length:=oM;have hall:(R.all fun n=>decide (n.toNat∈S))=true:=by
       rw[List.all_eq_true];intro x hx;rw[hkk,List.take_length]at hin;simpa using hin x hx
      have h9:=HR2.out;rw[hall,Bool.true_and]at h9;have HTS:Hid _:=h9;clear h9;have t1:¬ (k:Int)<(R.length:Int):=oM;clear hall hin hk hlt;have HQ:Hid (true=RES):=by show _=_;have:=HTS.out;simpa using this
      go_wp2;go_ret;exact⟨Ab HQ.out,hbq⟩
   .have h7':(op != 37)=true:=by simpa using h7
    have h7b:(op==37)=false:=by simpa using h7
    rw[h7',Bool.true_and]at hRES;cases hVV:(V != par)
    .rw[hVV,Bool.not_false,Bool.true_and]at hRES;have HR2:Hid (((R.all fun n=>decide (n.toNat∈S))&&(if op=34\/op=36 then decide (n<64)else if op=35 then decide (0<n)&& !true else if op=37 then true else true))=RES):=hRES;clear hRES;have hVb:(V==par)=true:=by simpa using hVV
     go_enter func36,ntmps36;go_wp2;refine rG (fun v=>v.cell? ⟨g,m*3+1,none⟩=some (.int .i64 par)/\v.cell? ⟨w.heap.size,0,none⟩=some v0/\v.cell? ⟨w.heap.size,1,none⟩=some v1/\v.cell? ⟨w.heap.size,2,none⟩=some v2/\v.cell? ⟨w.heap.size,3,none⟩=some v3/\v.cell? ⟨w.heap.size+1,0,none⟩=some (.int .i64 op)/\v.cell? ⟨w.heap.size+1,1,none⟩=some (.int .i64 D)/\v.cell? ⟨w.heap.size+1,2,none⟩=some (.int .i64 A)/\v.cell? ⟨w.heap.size+1,3,none⟩=some (.int .i64 Q)/\v.cell? ⟨w.heap.size+1,4,none⟩=some (.int .i64 E)/\v.cell? ⟨w.heap.size+1,5,none⟩=some (.int .i64 nn)/\v.cell? ⟨w.heap.size+1,6,none⟩=some (.int .u32 bt)) fun hJ=>?_;refine Tb 0 1 ?_;clear hJ;refine Aw 2 fun K hK=>?_;go_simp;(go_at_call 57;(with_reducible refine(HFIT.out _ (bel HT0.out.bel (A9 _))).mono ?_);rintro e w1 ⟨rfl,hb1⟩;have HB1:Hid (Below ((w.alloc (.cells #[v0,v1,v2,v3] 27)).alloc (.cells #[.int .i64 op,.int .i64 D,.int .i64 A,.int .i64 Q,.int .i64 E,.int .i64 nn,.int .u32 bt] 40)).heap.size ((w.alloc (.cells #[v0,v1,v2,v3] 27)).alloc (.cells #[.int .i64 op,.int .i64 D,.int .i64 A,.int .i64 Q,.int .i64 E,.int .i64 nn,.int .u32 bt] 40)) w1):=bel (A9 _) hb1;clear hb1;obtain⟨-,c0,c1,c2,c3,i0,i1,i2,i3,i4,i5,i6⟩:=HT0.out.next HB1.out;have y1:=kc (bel HT0.out.bel HB1.out) z1);try(go_wp2_with fail)
     refine Aq hK fun hJ=>?_;clear hK K;refine Tf 3 4 5 6 7 8 ?_;refine Tf 9 10 11 12 13 15 ?_;refine Tf 16 17 18 19 20 21 ?_;clear hJ;refine Aw 14 fun K hK=>?_;go_simp;(go_at_call 58;(with_reducible refine(HVEC.out _ (bel HT0.out.bel HB1.out)).mono ?_);rintro e wz ⟨rfl,hbz⟩;have HBZ:Hid (Below ((w.alloc (.cells #[v0,v1,v2,v3] 27)).alloc (.cells #[.int .i64 op,.int .i64 D,.int .i64 A,.int .i64 Q,.int .i64 E,.int .i64 nn,.int .u32 bt] 40)).heap.size ((w.alloc (.cells #[v0,v1,v2,v3] 27)).alloc (.cells #[.int .i64 op,.int .i64 D,.int .i64 A,.int .i64 Q,.int .i64 E,.int .i64 nn,.int .u32 bt] 40)) wz):=bel HB1.out hbz;clear hbz c0 c1 c2 c3 i0 i1 i2 i3 i4 i5 i6 y1;obtain⟨-,c0,c1,c2,c3,i0,i1,i2,i3,i4,i5,i6⟩:=HT0.out.next HBZ.out;have y1:=kc (bel HT0.out.bel HBZ.out) z1);try(go_wp2_with fail)
     refine Aq hK fun hJ=>?_;clear hK K;refine Tc 22 23 24 ?_;refine wpAnyH_done kR ?_ _;clear j0 j1 j2 hw y1 h7' h7b;exact Zab
    .rw[hVV,Bool.not_true,Bool.false_and]at hRES;have HQF:Hid (false=RES):=hRES;clear hRES;have hVb:(V==par)=false:=by simpa using hVV
     go_enter func36,ntmps36;go_wp2;refine rG (fun v=>v.cell? ⟨g,m*3+1,none⟩=some (.int .i64 par)/\v.cell? ⟨w.heap.size,0,none⟩=some v0/\v.cell? ⟨w.heap.size,1,none⟩=some v1/\v.cell? ⟨w.heap.size,2,none⟩=some v2/\v.cell? ⟨w.heap.size,3,none⟩=some v3/\v.cell? ⟨w.heap.size+1,0,none⟩=some (.int .i64 op)/\v.cell? ⟨w.heap.size+1,1,none⟩=some (.int .i64 D)/\v.cell? ⟨w.heap.size+1,2,none⟩=some (.int .i64 A)/\v.cell? ⟨w.heap.size+1,3,none⟩=some (.int .i64 Q)/\v.cell? ⟨w.heap.size+1,4,none⟩=some (.int .i64 E)/\v.cell? ⟨w.heap.size+1,5,none⟩=some (.int .i64 nn)/\v.cell? ⟨w.heap.size+1,6,none⟩=some (.int .u32 bt)) fun hJ=>?_;refine Tb 0 1 ?_;clear hJ;refine Aw 2 fun K hK=>?_;go_simp;(go_at_call 57;(with_reducible refine(HFIT.out _ (bel HT0.out.bel (A9 _))).mono ?_);rintro e w1 ⟨rfl,hb1⟩;have HB1:Hid (Below ((w.alloc (.cells #[v0,v1,v2,v3] 27)).alloc (.cells #[.int .i64 op,.int .i64 D,.int .i64 A,.int .i64 Q,.int .i64 E,.int .i64 nn,.int .u32 bt] 40)).heap.size ((w.alloc (.cells #[v0,v1,v2,v3] 27)).alloc (.cells #[.int .i64 op,.int .i64 D,.int .i64 A,.int .i64 Q,.int .i64 E,.int .i64 nn,.int .u32 bt] 40)) w1):=bel (A9 _) hb1;clear hb1;obtain⟨-,c0,c1,c2,c3,i0,i1,i2,i3,i4,i5,i6⟩:=HT0.out.next HB1.out;have y1:=kc (bel HT0.out.bel HB1.out) z1);try(go_wp2_with fail)
     refine Aq hK fun hJ=>?_;clear hK K;refine Tf 3 4 5 6 7 8 ?_;refine Tf 9 10 11 12 13 15 ?_;refine Tf 16 17 18 19 20 21 ?_;clear hJ;refine Aw 14 fun K hK=>?_;go_simp;(go_at_call 58;(with_reducible refine(HVEC.out _ (bel HT0.out.bel HB1.out)).mono ?_);rintro e wz ⟨rfl,hbz⟩;have HBZ:Hid (Below ((w.alloc (.cells #[v0,v1,v2,v3] 27)).alloc (.cells #[.int .i64 op,.int .i64 D,.int .i64 A,.int .i64 Q,.int .i64 E,.int .i64 nn,.int .u32 bt] 40)).heap.size ((w.alloc (.cells #[v0,v1,v2,v3] 27)).alloc (.cells #[.int .i64 op,.int .i64 D,.int .i64 A,.int .i64 Q,.int .i64 E,.int .i64 nn,.int .u32 bt] 40)) wz):=bel HB1.out hbz;clear hbz c0 c1 c2 c3 i0 i1 i2 i3 i4 i5 i6 y1;obtain⟨-,c0,c1,c2,c3,i0,i1,i2,i3,i4,i5,i6⟩:=HT0.out.next HBZ.out;have y1:=kc (bel HT0.out.bel HBZ.out) z1);try(go_wp2_with fail)
     refine Aq hK fun hJ=>?_;clear hK K;refine Tc 22 23 24 ?_;refine wpAnyH_done kR ?_ _;go_wp2;go_ret;exact⟨Ab HQF.out,bel hb00 HBZ.out⟩
section
open Go.RowKit Go.Shelf Go.Proofs.Tryz
end
def Vm(x n:Int):Nat->Int->Int
 |0,r=>r
 |k+1,r=>Vm x n k (if n/2^k%2=1 then FJ (FJ r r) x else FJ r r)
def JJ(x n:Int):Int:=if n<1 then 1065353216 else Vm x n (Dg n.toNat-1) (An x)
theorem PE(x n:Int):∀ (k:Nat) (r:Int),0<=r->r<4294967296->0<=Vm x n k r/\Vm x n k r<4294967296
 |0,r,h0,h1=>⟨h0,h1⟩
 |k+1,r,h0,h1=>by
  unfold Vm;split
  .exact PE x n k _ (Fc _ _).1 (Fc _ _).2
  .exact PE x n k _ (Fc _ _).1 (Fc _ _).2
theorem YU(x n:Int)(h0:0<=x)(h1:x<4294967296):0<=JJ x n/\JJ x n<4294967296:=by
 unfold JJ;split
 .decide
 .exact PE x n _ _ (ET x h0 h1).1 (ET x h0 h1).2
theorem Ys(n:Int)(h0:0<=n)(h1:n<=9223372036854775807)(i:Nat):bits .and .i64 (n/2^i) 1=n/2^i%2:=by
 have e:n/2^i=((n.toNat/2^i:Nat):Int):=by
  rw[Int.natCast_ediv,Int.natCast_pow,Int.toNat_of_nonneg h0];rfl
 have hle:n.toNat/2^i<=n.toNat:=Nat.div_le_self ..;rw[e];generalize n.toNat/2^i=q at *;have hx:q&&& 1=q%2:=Nat.and_one_is_mod q;show IntKind.i64.wrap ((BitVec.ofInt 64 (q:Int)&&& BitVec.ofInt 64 ((1:Nat):Int)).toNat:Int)=_;rw[BitVec.toNat_and,ofInt_u64 q oM,ofInt_u64 1 dE,hx,IntKind.wrap_i64];omega
theorem Xh(x:Int)(h0:0<=x)(h1:x<4294967296)(n:Int)(n0: -9223372036854775808<=n)(n1:n<=9223372036854775807)(w:World):
 Calls prog 63 #[.int .i64 x,.int .i64 n] w fun e w'=>e=.returned (.int .i64 (JJ x n))/\Below w.heap.size w w':=by
 unfold JJ;by_cases c:n<1
 .rw[if_pos c];go_enter func63,ntmps63;go_wp2;go_ret;exact⟨rfl,Ln _⟩
 .rw[if_neg c];have hc:=ET x h0 h1;have hc':0<=An x/\An x<4294967296:=hc;clear hc;have hB:1<=Dg n.toNat/\Dg n.toNat<=63:=by
   unfold Dg;rw[if_neg oM];have:n.toNat.log2<63:=(Nat.log2_lt oM).2 (by have:(2:Nat)^63=9223372036854775808:=rfl;omega);omega
  generalize hBB:Dg n.toNat=B at *;generalize hP:Vm x n (B-1) (An x)=P at *;have HP:Hid (Vm x n (B-1) (An x)=P):=hP;clear hP;go_enter func63,ntmps63;go_wp2_with(first
   |(go_at_call 85;refine(G9 _ oM oM _).mono ?_;rintro e w1 ⟨rfl,hb1⟩)
   |(go_at_call 92;refine(Fv _ oM oM _).mono ?_;rintro e w' ⟨rfl,hw'⟩;obtain rfl:=hw'.symm))
  go_loopw [5,6] (fun rv pv wr=>Below w.heap.size w wr/\∃ (j:Nat) (r:Int),j<=62/\rv=.int .i64 r/\pv=.int .i64 ((j:Int)-1)/\0<=r/\r<4294967296/\Vm x n j r=P) (fun _ pv _=>(intOf pv+1).toNat)
  case atStart=>exact⟨hb1,B-1,An x,oM,rfl,by rw[show((B-1:Nat):Int)-1=(B:Int)-2 by omega],hc'.1,hc'.2,HP.out⟩
  case round=>
   obtain⟨hbel,j,r,hj,rfl,rfl,r0,r1,hr⟩:=hrel;have HR:Hid (Vm x n j r=P):=hr;clear hr;rcases Nat.eq_zero_or_pos j with hz|hz
   .subst hz;have hPr:r=P:=HR.out;subst hPr;clear HR HP;go_wp2;go_ret;exact⟨rfl,hbel⟩
   .obtain⟨i,rfl⟩:∃i,j=i+1:=⟨j-1,oM⟩
    rw[show((i+1:Nat):Int)-1=(i:Int) by omega];have hbit:=Ys n oM n1 i;have l1:=Fc r r;have l2:=Fc (FJ r r) x;by_cases cb:n/2^i%2=1
    .go_wp2_with(go_at_call 93;refine(Kl _ oM oM _ oM oM _).mono ?_;rintro e w2 ⟨rfl,hb2⟩);go_roundw
     case rel=>exact⟨by repeat(first|assumption|refine Jx ?_ (by assumption)),i,_,oM,rfl,rfl,l2.1,l2.2,by have:=HR.out;rw[Vm,if_pos cb]at this;exact this⟩
     case measure=>first|(simp[intOf];done)|(simp[intOf];omega)
    .go_wp2_with(go_at_call 93;refine(Kl _ oM oM _ oM oM _).mono ?_;rintro e w2 ⟨rfl,hb2⟩);go_roundw
     case rel=>exact⟨by repeat(first|assumption|refine Jx ?_ (by assumption)),i,_,oM,rfl,rfl,l1.1,l1.2,by have:=HR.out;rw[Vm,if_neg cb]at this;exact this⟩
     case measure=>first|(simp[intOf];done)|(simp[intOf];omega)
structure CX(w:World)(v0 v1 v2 v3:Value)(v:World):Prop where
 bel:Below w.heap.size w v
 lt:w.heap.size<v.heap.size
 c0:v.cell? ⟨w.heap.size,0,none⟩=some v0
 c1:v.cell? ⟨w.heap.size,1,none⟩=some v1
 c2:v.cell? ⟨w.heap.size,2,none⟩=some v2
 c3:v.cell? ⟨w.heap.size,3,none⟩=some v3
theorem CX.next{w:World}{v0 v1 v2 v3:Value}{v v':World}(h:CX w v0 v1 v2 v3 v)(k:Below v.heap.size v v'):CX w v0 v1 v2 v3 v':=
 ⟨Go.Proofs.YtnbccaicijcklaaGreat.bel h.bel k,Nat.lt_of_lt_of_le h.lt k.size,kc k h.c0,kc k h.c1,kc k h.c2,kc k h.c3⟩
theorem CX.on{w:World}{v0 v1 v2 v3:Value}{v v':World}(h:CX w v0 v1 v2 v3 v)(k:Below (w.heap.size+1) v v'):CX w v0 v1 v2 v3 v':=
 have f:∀j,v'.cell? ⟨w.heap.size,j,none⟩=v.cell? ⟨w.heap.size,j,none⟩:=fun j=>k.cell (Nat.lt_succ_self _)
 ⟨h.bel.trans (k.mono (Nat.le_succ _)),Nat.lt_of_lt_of_le h.lt k.size,(f 0).trans h.c0,(f 1).trans h.c1,(f 2).trans h.c2,(f 3).trans h.c3⟩
theorem CX.start(w:World)(v0 v1 v2 v3:Value):CX w v0 v1 v2 v3 (w.alloc (.cells #[v0,v1,v2,v3] 27)):=
 ⟨A0 _ _,sM,sG,sG,sG,sG⟩
theorem Np{α:Type}(p:α->Bool){l:List α}{k:Nat}(h:k<l.length)(ht:(l.take k).all p=true)(hp:p l[k]=true):(l.take (k+1)).all p=true:=by
 rw[List.take_succ_eq_append_getElem h,List.all_append,ht];simp[hp]
theorem QQ{α:Type}(p:α->Bool){l:List α}{k:Nat}(h:k<l.length)(hp:p l[k]=false):l.all p=false:=by
 rw[List.all_eq_false];exact⟨l[k],gD h,by simp[hp]⟩
theorem Fp(v0 v1 v2 v3:Value)(c:Cd)(hk:Ba c)(w:World)(hv:CE w v0 v1 v2 v3 c)(E:Int)(hE:(B0 c.sign≠0/\E=B0 c.sign)\/(B0 c.sign=0/\(16384<c.regs.length\/32768<c.list.length)/\E=181)\/(B0 c.sign=0/\¬16384<c.regs.length/\¬32768<c.list.length/\4096<c.slots.length/\E=180)):
 Calls prog 19 #[.agg #[v0,v1,v2,v3]] w fun e w'=>e=.returned (.tuple #[.int .i64 E,.int .i64 (-1)])/\Below w.heap.size w w':=by
 have hSG:∀v,Below w.heap.size w v->Calls prog 33 #[v0] v fun e w'=>e=.returned (.int .i64 (B0 c.sign))/\Below v.heap.size v w':=fun v hb=>Kh v0 c.sign hk.signL hk.names v (hv.below hb).sign.rd;have l1:=hk.regsL;have l2:=hk.slotsL;have l3:=hk.listL;obtain⟨p0,q0,rfl,-⟩:=id hv.sign;obtain⟨p1,q1,rfl,-⟩:=id hv.regs;obtain⟨p2,q2,rfl,-⟩:=id hv.slots;obtain⟨p3,q3,rfl,-⟩:=id hv.list;obtain⟨n0,hn0⟩:∃n,c.sign.length=n:=⟨_,rfl⟩
 obtain⟨n1,hn1⟩:∃n,c.regs.length=n:=⟨_,rfl⟩
 obtain⟨n2,hn2⟩:∃n,c.slots.length=n:=⟨_,rfl⟩
 obtain⟨n3,hn3⟩:∃n,c.list.length=n:=⟨_,rfl⟩
 obtain⟨K,hK⟩:∃n,B0 c.sign=n:=⟨_,rfl⟩
 rw[hn0,hK]at hSG;rw[hK,hn1,hn2,hn3]at hE;rw[hn1]at l1;rw[hn2]at l2;rw[hn3]at l3;rw[hn0,hn1,hn2,hn3];have HSG:Hid _:=hSG;clear hSG hn0 hn1 hn2 hn3 hK hv hk;rcases hE with⟨h1,rfl⟩|⟨rfl,h2,rfl⟩|⟨rfl,h2,h3,h4,rfl⟩
 .have h1':(E==0)=false:=by simpa using h1
  have h1'':(E != 0)=true:=by simpa using h1
  exact Zbf
 .by_cases h5:16384<n1
  .have h6:(16384:Int)<(n1:Int):=oM;exact Zbf
  .have h6:(n1:Int)<=16384:=oM;have h7:(32768:Int)<(n3:Int):=oM;clear h5;exact Zbf
 .have h6:(n1:Int)<=16384:=oM;have h7:(n3:Int)<=32768:=oM;have h8:(4096:Int)<(n2:Int):=oM;exact Zbf
structure Hd where
 pats:List Int
 whole:Int
structure Fr where
 nums:Nat->Int
 whs:Nat->Int
 vecs:Nat->List Int
 slots:List Hd
 outs:Nat->Nat->Int
def Fl{α:Type}(f:Nat->α)(k:Nat)(x:α):Nat->α:=fun j=>if j=k then x else f j
theorem Bx{α:Type}(f:Nat->α)(k:Nat)(x:α):Fl f k x k=x:=if_pos rfl
theorem By{α:Type}(f:Nat->α){k j:Nat}(x:α)(h:j≠k):Fl f k x j=f j:=if_neg h
theorem Cs{α:Type}{Q:α->Prop}{f:Nat->α}{k:Nat}{x:α}(h:∀j,Q (f j))(hx:Q x)(j:Nat):Q (Fl f k x j):=by
 unfold Fl;split
 .exact hx
 .exact h j
def lenOf(c:Cd)(p:Int):Nat:=((c.sign[p.toNat]?).map fun q=>q.len.toNat).getD 0
def AI(c:Cd)(p:Int):Nat:=if CV c.sign p=2 then 2 else 1
def B4(c:Cd)(t:Ty):Nat:=if t.kind=3 then lenOf c t.par else if t.kind=1 then 1 else 0
def DU(c:Cd)(t:Ty)(a:Int):List Int:=List.replicate (B4 c t) (An a)
def Bf(c:Cd)(s:Sl):Hd:=⟨DU c s.ty s.bits,s.int_⟩
def C2(c:Cd)(f:Fr)(r:Int):Hd:=
 if(Aa c.regs r).kind=1 then⟨[f.nums r.toNat],0⟩else if(Aa c.regs r).kind=2 then⟨[],f.whs r.toNat⟩else⟨f.vecs r.toNat,0⟩
def Kt(c:Cd)(f:Fr)(r:Int)(h:Hd):Fr:=
 if(Aa c.regs r).kind=1 then{f with nums:=Fl f.nums r.toNat (h.pats.headD 0)}
 else if(Aa c.regs r).kind=2 then{f with whs:=Fl f.whs r.toNat h.whole}
 else{f with vecs:=Fl f.vecs r.toNat h.pats}
def CH(l:List Int)(j:Nat):Int:=(l[j]?).getD 0
def EK(vs:List (List Int))(p:Nat):List Int:=(vs[p]?).getD []
def BJ(c:Cd)(vs:List (List Int))(i:Ad):List Int:=
 (List.range (lenOf c (Aa c.regs i.d).par)).map fun e=>An (CH (EK vs (Aa c.regs i.d).par.toNat) (AI c (Aa c.regs i.d).par*e+i.n.toNat))
def W7(o:Nat->Nat->Int)(p k n:Nat)(l:List Int):Nat->Nat->Int:=
 fun q j=>if q=p/\j%k=n/\j/k<l.length then CH l (j/k)else o q j
def lF(args:List (List Int))(i:Nat):Nat:=(EK args i).length
def xF(args:List (List Int))(i j:Nat):Int:=CH (EK args i) j
def D4(op:Int)(args:List (List Int)):List Int:=
 match Eo (lF args) (args.length-1)with
 |some n=>(List.range n).map fun i=>Kb op (Gz (lF args) (xF args) args.length i 0) (Gz (lF args) (xF args) args.length i 1) (Gz (lF args) (xF args) args.length i 2)
 |none=>[]
def Br(c:Cd)(f:Fr)(i:Ad):List (List Int):=(Ae i (A4 i.op)).map fun r=>(C2 c f r).pats
def EU(c:Cd)(f:Fr)(i:Ad):Fr:=
 if(Aa c.regs i.d).kind=2 then{f with whs:=Fl f.whs i.d.toNat (f.whs i.a.toNat)}
 else Kt c f i.d ⟨if(D4 i.op (Br c f i)).length<B4 c (Aa c.regs i.d)then DU c (Aa c.regs i.d) ((D4 i.op (Br c f i)).headD 0)else D4 i.op (Br c f i),0⟩
def Lh(f:Fr)(i:Ad):Int:=
 if i.op=16 then JJ (f.nums i.a.toNat) (f.whs i.b.toNat)else if i.op=17 then GG (f.whs i.a.toNat)
 else if i.op=19 then L5 (CH (f.vecs i.a.toNat)) (f.vecs i.a.toNat).length else if i.op=20 then EP (CH (f.vecs i.a.toNat)) (f.vecs i.a.toNat).length else i.bits
def BI(b:Bool):Int:=if b then 1 else 0
def ER(f:Fr)(i:Ad):Int:=
 if i.op=18 then BI (My (f.nums i.a.toNat) 1065353216 0==1065353216)
 else if i.op=21 then min (f.whs i.a.toNat) 2147483646+1
 else if i.op=22 then BI (decide (f.whs i.a.toNat<f.whs i.b.toNat))
 else if i.op=23 then BI (f.whs i.a.toNat==f.whs i.b.toNat)
 else if i.op=24 then BI (f.whs i.a.toNat != 0&&f.whs i.b.toNat != 0)
 else if i.op=25 then BI (f.whs i.a.toNat==0)
 else if i.op=26 then(if f.whs i.a.toNat=0 then f.whs i.c.toNat else f.whs i.b.toNat)
 else if i.op=27 then max (f.whs i.a.toNat-f.whs i.b.toNat) 0
 else if i.op=28 then(if f.whs i.b.toNat=0 then 0 else f.whs i.a.toNat/f.whs i.b.toNat)
 else i.n
def Dk(op:Int):Bool:=op==1||op==16||op==17||op==19||op==20
def Bj(op:Int):Bool:=op==2||op==18||(decide (21<=op)&&decide (op<=28))
def D1(c:Cd)(G P:List (List Int))(f:Fr)(i:Ad):Fr:=
 if Dk i.op then{f with nums:=Fl f.nums i.d.toNat (Lh f i)}
 else if Bj i.op then{f with whs:=Fl f.whs i.d.toNat (ER f i)}
 else if i.op=29 then{f with vecs:=Fl f.vecs i.d.toNat (BJ c G i)}
 else if i.op=30 then{f with vecs:=Fl f.vecs i.d.toNat (BJ c P i)}
 else if i.op=31 then{f with outs:=W7 f.outs (Aa c.regs i.a).par.toNat (AI c (Aa c.regs i.a).par) i.n.toNat (f.vecs i.a.toNat)}
 else if i.op=32 then Kt c f i.d ((f.slots[i.n.toNat]?).getD ⟨[],0⟩)
 else if i.op=33 then{f with slots:=f.slots.set i.n.toNat (C2 c f i.a)}
 else if 34<=i.op/\i.op<=37 then f
 else EU c f i
def AK(c:Cd)(G P:List (List Int))(s:Fr×Nat)(i:Ad):Fr×Nat:=
 if 0<s.2/\i.op=35 then(s.1,s.2-1)
 else if i.op=34/\(0<s.2\/s.1.whs i.a.toNat=0)then(s.1,s.2+1)
 else if s.2=0 then(D1 c G P s.1 i,0)else s
def UG(c:Cd)(G P:List (List Int))(s:Fr×Nat)(l:List Ad):Fr×Nat:=l.foldl (AK c G P) s
def BE(c:Cd):List Hd:=c.slots.map (Bf c)
def O5(p:BM):Nat:=(Dh p).toNat
def Gg(c:Cd)(f:Fr):List (List Int):=(List.range c.sign.length).map fun p=>(List.range ((c.sign[p]?).elim 0 O5)).map (f.outs p)
def Ev(c:Cd)(G P:List (List Int)):Bool:=C8 c.sign (G.map (·.length))&&C8 c.sign (P.map (·.length))
structure Un(U:Nat->Prop)(w w':World):Prop where
 os:w'.os=w.os
 tape:w'.tape=w.tape
 output:w'.output=w.output
 size:w.heap.size<=w'.heap.size
 block:∀b,b<w.heap.size->¬U b->w'.heap[b]? =w.heap[b]?
section
variable {U T : Nat -> Prop} {w w' w'' : World}
theorem Un.refl(U:Nat->Prop)(w:World):Un U w w:=⟨rfl,rfl,rfl,gF _,fun _ _ _=>rfl⟩
theorem Un.trans(h:Un U w w')(k:Un U w' w''):Un U w w'':=
 ⟨k.os.trans h.os,k.tape.trans h.tape,k.output.trans h.output,gH h.size k.size,fun b hb hu=>(k.block b (Nat.lt_of_lt_of_le hb h.size) hu).trans (h.block b hb hu)⟩
theorem Un.of(h:Below w.heap.size w w'):Un U w w':=⟨h.os,h.tape,h.output,h.size,fun b hb _=>h.block b hb⟩
theorem Un.mono(h:Un U w w')(k:∀b,U b->T b):Un T w w':=⟨h.os,h.tape,h.output,h.size,fun b hb hu=>h.block b hb fun q=>hu (k b q)⟩
theorem Un.on(h:Un U w w')(k:Below w'.heap.size w' w''):Un U w w'':=h.trans (Un.of k)
theorem Un.below{B:Nat}(h:Un U w w')(hB:B<=w.heap.size)(k:∀b,U b->B<=b):Below B w w':=
 ⟨h.os,h.tape,h.output,h.size,fun b hb=>h.block b oM fun q=>by have:=k b q;omega⟩
theorem Un.setCell(h:Un U w w'){p:Addr}(hp:U p.block)(x:Value):Un U w (w'.setCell p x):=
 ⟨h.os,h.tape,h.output,by simpa[World.setCell]using h.size,fun b hb hu=>by
  have hne:b≠p.block:=fun e=>hu (by rw[e];exact hp)
  rw[gE (by exact hne)];exact h.block b hb hu⟩
end
def F6{α:Type}(T:Nat->Prop)(k:Nat)(f:α->List Value)(w:World)(v:Value)(l:List α):Prop:=
 ∃p c,v=.slice p l.length c/\(l=[]\/∃b o,p=some ⟨b,o,none⟩/\¬T b/\b<w.heap.size/\∀i (h:i<l.length),Ar w b (o+i*k) (f l[i]))
section
variable {α : Type} {T U : Nat -> Prop} {k : Nat} {f : α -> List Value} {w w' : World} {v : Value} {l : List α}
theorem F6.row(h:F6 T k f w v l):AV k f w v l:=by
 obtain⟨p,c,hv,h⟩:=h;exact⟨p,c,hv,h.imp id fun⟨b,o,hp,_,_,h⟩=>⟨b,o,hp,h⟩⟩
theorem F6.un(h:F6 T k f w v l)(q:Un U w w')(hu:∀b,b<w.heap.size->U b->T b):F6 T k f w' v l:=by
 obtain⟨p,c,hv,h⟩:=h;exact⟨p,c,hv,h.imp id fun⟨b,o,hp,ht,hb,h⟩=>⟨b,o,hp,ht,Nat.lt_of_lt_of_le hb q.size,fun i hi=>(h i hi).of_block (q.block b hb fun e=>ht (hu b hb e))⟩⟩
theorem F6.below(h:F6 T k f w v l)(q:Below w.heap.size w w'):F6 T k f w' v l:=h.un (U:=fun _=>False) (Un.of q) (fun _ _ e=>e.elim)
theorem F6.mono(h:F6 T k f w v l)(hu:∀b,b<w.heap.size->U b->T b):F6 U k f w v l:=by
 obtain⟨p,c,hv,h⟩:=h;exact⟨p,c,hv,h.imp id fun⟨b,o,hp,ht,hb,h⟩=>⟨b,o,hp,fun e=>ht (hu b hb e),hb,h⟩⟩
end
def ptC(x:Int):List Value:=[.int .u32 x]
abbrev Pt(T:Nat->Prop)(w:World)(v:Value)(l:List Int):Prop:=F6 T 1 ptC w v l
theorem Pt.reads{T:Nat->Prop}{w:World}{p:Option Addr}{n c:Nat}{l:List Int}(h:Pt T w (.slice p n c) l):n=l.length/\Bb w p n (fun j=>.int .u32 (CH l j)):=by
 obtain⟨p',c',hv,h⟩:=h;simp only[Value.slice.injEq]at hv;obtain⟨rfl,rfl,rfl⟩:=hv;refine⟨rfl,?_⟩;rcases h with h|⟨b,o,hp,_,_,h⟩
 .exact .inl (by rw[h];rfl)
 .refine .inr ⟨b,o,hp,fun i hi=>?_⟩;have:=(h i hi).at 0 (v:=.int .u32 l[i]) rfl;rw[Nat.mul_one,Nat.add_zero]at this;rw[this];simp[CH,gB hi]
theorem Pt.len{T:Nat->Prop}{w:World}{v:Value}{l:List Int}(h:Pt T w v l):∃p c,v=.slice p l.length c:=by
 obtain⟨p,c,hv,_⟩:=h;exact⟨p,c,hv⟩
def F7(T:Nat->Prop)(w:World)(v:Value)(L:List (List Int)):Prop:=
 ∃p c,v=.slice p L.length c/\(L=[]\/∃b o,p=some ⟨b,o,none⟩/\¬T b/\b<w.heap.size/\∀i (h:i<L.length),∃u,w.cell? ⟨b,o+i,none⟩=some u/\Pt T w u L[i])
theorem F7.un{T U:Nat->Prop}{w w':World}{v:Value}{L:List (List Int)}(h:F7 T w v L)(q:Un U w w')(hu:∀b,b<w.heap.size->U b->T b):F7 T w' v L:=by
 obtain⟨p,c,hv,h⟩:=h;refine⟨p,c,hv,h.imp id fun⟨b,o,hp,ht,hb,h⟩=>⟨b,o,hp,ht,Nat.lt_of_lt_of_le hb q.size,fun i hi=>?_⟩⟩;obtain⟨u,h1,h2⟩:=h i hi;exact⟨u,(gC (q.block b hb fun e=>ht (hu b hb e))).trans h1,h2.un q hu⟩
theorem F7.below{T:Nat->Prop}{w w':World}{v:Value}{L:List (List Int)}(h:F7 T w v L)(q:Below w.heap.size w w'):F7 T w' v L:=h.un (U:=fun _=>False) (Un.of q) (fun _ _ e=>e.elim)
theorem F7.mono{T U:Nat->Prop}{w:World}{v:Value}{L:List (List Int)}(h:F7 T w v L)(hu:∀b,b<w.heap.size->U b->T b):F7 U w v L:=by
 obtain⟨p,c,hv,h⟩:=h;refine⟨p,c,hv,h.imp id fun⟨b,o,hp,ht,hb,h⟩=>⟨b,o,hp,fun e=>ht (hu b hb e),hb,fun i hi=>?_⟩⟩;obtain⟨u,h1,h2⟩:=h i hi;exact⟨u,h1,h2.mono hu⟩
structure Lay where
 C:Nat
 S:Nat
 FR:Nat
 NB:Nat
 WB:Nat
 MB:Nat
 UB:Nat
 K:Nat
 ub:Nat->Nat
 sp:Option Addr
 sc:Nat
 v0:Value
 v1:Value
 v2:Value
 v3:Value
 gv:Value
 pv:Value

def Ru(c:Cd)(p:Nat):Nat:=(c.sign[p]?).elim 0 O5
section
variable {T : Nat -> Prop} {E E' : Nat} {a : Lay} {c : Cd} {G P : List (List Int)} {w w' : World} {X : Nat -> Value} {M : Nat} {m : Nat -> Option Value} {f : Fr}
end
structure Good(c:Cd):Prop where
 len:∀p∈c.sign,1<=p.len/\p.len<=4096
 kind:∀p∈c.sign,BP p=true
 regs:∀t∈c.regs,AF t c.sign.length=true
 slots:∀s∈c.slots,Be s c.sign.length=true
 regsL:c.regs.length<=16384
 slotsL:c.slots.length<=4096
 listL:c.list.length<=32768
 signL:c.sign.length<=64
theorem Good.type{c:Cd}(h:Good c){t:Ty}(ht:t∈c.regs)(h3:t.kind=3):Av t.par c.sign.length=true:=by
 have:=h.regs t ht;unfold AF at this;rw[if_neg oM,if_pos h3]at this;exact this
theorem Good.lenOf{c:Cd}(h:Good c)(p:Int):lenOf c p<=4096:=by
 unfold Proofs.YtnbccaicijcklaaGreat.lenOf;cases hp:c.sign[p.toNat]? with
 |none=>simp
 |some q=>
  have:=h.len q (List.mem_of_getElem? hp);simp only[Option.map_some,Option.getD_some];omega
theorem Good.width{c:Cd}(h:Good c)(t:Ty):B4 c t<=4096:=by
 unfold B4;split
 .exact h.lenOf _
 .split<;>omega
theorem Ea{l:List Ty}{r:Nat}(h:r<l.length):Aa l (r:Int)=l[r]:=by
 unfold Aa Av;simp[h]
section
variable {T : Nat -> Prop} {E E' : Nat} {a : Lay} {c : Cd} {G P : List (List Int)} {w : World}
end
theorem und_O:prog.underlying 98=some (.slice (prog.elem 98)):=kR
theorem elem_O:prog.elem 98=102:=kR
theorem XN(w:World):(sizeOf (prog.elem 98)).run prog w=.ok 3 w:=by rw[elem_O];exact Tryz.sizeOf102 w
theorem Hv{a b x y:Int}(h:(a,b)=(x,y)):(Ending.returned (.tuple #[.int .i64 a,.int .i64 b]))=.returned (.tuple #[.int .i64 x,.int .i64 y]):=by cases h;rfl
theorem Oj(v0 v1 v2 v3:Value)(c:Cd)(hk:Ba c)(w:World)(hv:CE w v0 v1 v2 v3 c)(hS:B0 c.sign=0)(h1:c.regs.length<=16384)(h3:c.list.length<=32768)(h2:c.slots.length<=4096)(RA RB:Int)(hRES:(if(Ax c&&BK c)=true then L6 c ⟨[],[]⟩ 0 c.list else(160,-1))=(RA,RB)):
 Calls prog 19 #[.agg #[v0,v1,v2,v3]] w fun e w'=>e=.returned (.tuple #[.int .i64 RA,.int .i64 RB])/\Below w.heap.size w w':=by
 have hSG:∀v,Below w.heap.size w v->Calls prog 33 #[v0] v fun e w'=>e=.returned (.int .i64 0)/\Below v.heap.size v w':=fun v hb=>by rw[<-hS];exact Kh v0 c.sign hk.signL hk.names v (hv.below hb).sign.rd
 have l0:=hk.signL;obtain⟨p0,q0,rfl,-⟩:=id hv.sign;obtain⟨p1,q1,rfl,-⟩:=id hv.regs;obtain⟨p2,q2,rfl,-⟩:=id hv.slots;obtain⟨p3,q3,rfl,-⟩:=id hv.list;have HREGS:Hid (AV 2 J6 w (.slice p1 c.regs.length q1) c.regs):=hv.regs;have HSLOTS:Hid (AV 5 Jf w (.slice p2 c.slots.length q2) c.slots):=hv.slots;have HLIST:Hid (AV 7 C9 w (.slice p3 c.list.length q3) c.list):=hv.list;have HMT:Hid (∀ (t:Ty) v,Calls prog 34 #[.agg #[.int .i64 t.kind,.int .i64 t.par],.slice p0 c.sign.length q0] v fun e w'=>e=.returned (.bool (AF t c.sign.length))/\Below v.heap.size v w'):=fun t v=>Hw t p0 _ q0 hk.signL v;have HMS:Hid (∀ (s:Sl),s∈c.slots->∀v,Calls prog 35 #[.agg #[.int .i64 s.ty.kind,.int .i64 s.ty.par,.bool s.keep,.int .u32 s.bits,.int .i64 s.int_],.slice p0 c.sign.length q0] v fun e w'=>e=.returned (.bool (Be s c.sign.length))/\Below v.heap.size v w'):=fun s hs v=>N8 s (hk.sbits s hs).1 (hk.sbits s hs).2 p0 _ q0 hk.signL v;have HCV:Hid (CE w (.slice p0 c.sign.length q0) (.slice p1 c.regs.length q1) (.slice p2 c.slots.length q2) (.slice p3 c.list.length q3) c):=hv;have HCO:Hid (Ba c):=hk;have HRES:Hid ((if(Ax c&&BK c)=true then L6 c ⟨[],[]⟩ 0 c.list else(160,-1))=(RA,RB)):=hRES;obtain⟨n0,hn0⟩:∃n,c.sign.length=n:=⟨_,rfl⟩
 obtain⟨n1,hn1⟩:∃n,c.regs.length=n:=⟨_,rfl⟩
 obtain⟨n2,hn2⟩:∃n,c.slots.length=n:=⟨_,rfl⟩
 obtain⟨n3,hn3⟩:∃n,c.list.length=n:=⟨_,rfl⟩
 have HN0:Hid (c.sign.length=n0):=hn0;have HN1:Hid (c.regs.length=n1):=hn1;have HN2:Hid (c.slots.length=n2):=hn2;have HN3:Hid (c.list.length=n3):=hn3;rw[hn0]at hSG l0 HMT HMS;rw[hn1]at h1 HREGS;rw[hn2]at h2 HSLOTS;rw[hn3]at h3 HLIST;rw[hn0,hn1,hn2,hn3]at HCV |-;have HSG:Hid _:=hSG;have g1:(n1:Int)<=16384:=oM;have g2:(n2:Int)<=4096:=oM;have g3:(n3:Int)<=32768:=oM;clear hSG hn0 hn1 hn2 hn3 hv hk hS hRES;go_enter func19,ntmps19;go_wp2_with(go_at_call 33;(with_reducible refine(HSG.out _ (A0 _ _)).mono ?_);rintro e w1 ⟨rfl,hb1⟩;have HX1:Hid (CX w (.slice p0 n0 q0) (.slice p1 n1 q1) (.slice p2 n2 q2) (.slice p3 n3 q3) w1):=(CX.start w _ _ _ _).next hb1;obtain⟨b1,b2,c0,c1,c2,c3⟩:=HX1.out;clear hb1);clear c0 c1 c2 c3 b1 b2
 go_loopw [5] (fun iv wr=>CX w (.slice p0 n0 q0) (.slice p1 n1 q1) (.slice p2 n2 q2) (.slice p3 n3 q3) wr/\∃j:Nat,j<=n1/\iv=.int .i64 (j:Int)/\Hid ((c.regs.take j).all (fun t=>AF t n0)=true)) (fun iv _=>n1-(intOf iv).toNat)
 case atStart=>exact⟨HX1.out,0,gI _,rfl,by show _=_;simp⟩
 case round=>
  obtain⟨hcx,j,hj,rfl,hall⟩:=hrel;have HCX:Hid (CX w (.slice p0 n0 q0) (.slice p1 n1 q1) (.slice p2 n2 q2) (.slice p3 n3 q3) wr):=hcx;obtain⟨b1,b2,c0,c1,c2,c3⟩:=hcx;clear HX1;by_cases hlt:j<n1
  .have hll:j<c.regs.length:=by rw[HN1.out];exact hlt
   obtain⟨b,o,rfl,hx⟩:=HREGS.at hll;have KN:=HMT.out c.regs[j];have NX:Hid (AF c.regs[j] n0=true->(c.regs.take (j+1)).all (fun t=>AF t n0)=true):=fun h=>Np _ hll hall.out h;have NB:Hid (AF c.regs[j] n0=false->(160,-1)=(RA,RB)):=fun h=>by
    have h5:Ax c=false:=by unfold Ax;rw[HN0.out];exact QQ _ hll h
    have h6:=HRES.out;rw[h5,Bool.false_and,if_neg dE]at h6;exact h6
   obtain⟨⟨K,P⟩,hT⟩:∃T:Ty,c.regs[j]=T:=⟨_,rfl⟩
   rw[hT]at hx KN NX NB;have y0:wr.cell? ⟨b,o+j*2,none⟩=some (.int .i64 K):=kc b1 (hx.at 0 rfl);have y1:wr.cell? ⟨b,o+j*2+1,none⟩=some (.int .i64 P):=kc b1 (hx.at 1 rfl);obtain⟨X,hX⟩:=gA (AF ⟨K,P⟩ n0)
   rw[hX]at NX NB;simp only[hX]at KN;have HK:Hid (∀v,Calls prog 34 #[.agg #[.int .i64 K,.int .i64 P],.slice p0 n0 q0] v fun e w'=>e=.returned (.bool X)/\Below v.heap.size v w'):=KN;have i1:(0:Int)<=(j:Int):=oM;have i2:(j:Int)<(n1:Int):=oM;clear KN hT hX hx hall;cases X
   .go_wp2;refine rG (fun v=>v.cell? ⟨w.heap.size,1,none⟩=some (.slice (some ⟨b,o,none⟩) n1 q1)/\v.cell? ⟨w.heap.size,0,none⟩=some (.slice p0 n0 q0)/\v.cell? ⟨b,o+j*2,none⟩=some (.int .i64 K)/\v.cell? ⟨b,o+j*2+1,none⟩=some (.int .i64 P)) fun hJ=>?_;refine Tf 0 1 2 3 4 5 ?_;refine Bo 6 ?_;clear hJ;refine Aw 7 fun K hK=>?_;go_simp;(go_at_call 34;(with_reducible refine(HK.out _).mono ?_);rintro e w2 ⟨rfl,hb2⟩;have HB2:Hid (Below wr.heap.size wr w2):=bel (A9 _) hb2;clear hb2;obtain⟨-,-,c0,c1,c2,c3⟩:=HCX.out.next HB2.out;have x0:=kc HB2.out y0;have x1:=kc HB2.out y1);exact Zeo
   .go_wp2;refine rG (fun v=>v.cell? ⟨w.heap.size,1,none⟩=some (.slice (some ⟨b,o,none⟩) n1 q1)/\v.cell? ⟨w.heap.size,0,none⟩=some (.slice p0 n0 q0)/\v.cell? ⟨b,o+j*2,none⟩=some (.int .i64 K)/\v.cell? ⟨b,o+j*2+1,none⟩=some (.int .i64 P)) fun hJ=>?_;refine Tf 0 1 2 3 4 5 ?_;refine Bo 6 ?_;clear hJ;refine Aw 7 fun K hK=>?_;go_simp;(go_at_call 34;(with_reducible refine(HK.out _).mono ?_);rintro e w2 ⟨rfl,hb2⟩;have HB2:Hid (Below wr.heap.size wr w2):=bel (A9 _) hb2;clear hb2;obtain⟨-,-,c0,c1,c2,c3⟩:=HCX.out.next HB2.out;have x0:=kc HB2.out y0;have x1:=kc HB2.out y1);exact Zeb
  have hjn:j=n1:=oM;have HT:Hid (Ax c=true):=by
   show _=_;have h5:=hall.out;rw[hjn,<-HN1.out,List.take_length]at h5;unfold Ax;rw[HN0.out];exact h5
  have e1:¬ (j:Int)<(n1:Int):=oM;clear hall hlt;go_wp2;clear e1 c0 c1 c2 c3 b1 b2
  go_loopw [6] (fun iv wr=>CX w (.slice p0 n0 q0) (.slice p1 n1 q1) (.slice p2 n2 q2) (.slice p3 n3 q3) wr/\∃j:Nat,j<=n2/\iv=.int .i64 (j:Int)/\Hid ((c.slots.take j).all (fun s=>Be s n0)=true)) (fun iv _=>n2-(intOf iv).toNat)
  case atStart=>exact⟨HCX.out,0,gI _,rfl,by show _=_;simp⟩
  case round=>
   obtain⟨hcx,j,hj,rfl,hall⟩:=hrel;have HCX:Hid (CX w (.slice p0 n0 q0) (.slice p1 n1 q1) (.slice p2 n2 q2) (.slice p3 n3 q3) wr):=hcx;obtain⟨b1,b2,c0,c1,c2,c3⟩:=hcx;by_cases hlt:j<n2
   .have hll:j<c.slots.length:=by rw[HN2.out];exact hlt
    obtain⟨b,o,rfl,hx⟩:=HSLOTS.at hll;have KN:=HMS.out c.slots[j] (gD hll);have NX:Hid (Be c.slots[j] n0=true->(c.slots.take (j+1)).all (fun s=>Be s n0)=true):=fun h=>Np _ hll hall.out h;have NB:Hid (Be c.slots[j] n0=false->(160,-1)=(RA,RB)):=fun h=>by
     have h5:BK c=false:=by unfold BK;rw[HN0.out];exact QQ _ hll h
     have h6:=HRES.out;rw[h5,Bool.and_false,if_neg dE]at h6;exact h6
    obtain⟨⟨⟨K,P⟩,kp,sb,si⟩,hT⟩:∃T:Sl,c.slots[j]=T:=⟨_,rfl⟩
    rw[hT]at hx KN NX NB;have y0:wr.cell? ⟨b,o+j*5,none⟩=some (.int .i64 K):=kc b1 (hx.at 0 rfl);have y1:wr.cell? ⟨b,o+j*5+1,none⟩=some (.int .i64 P):=kc b1 (hx.at 1 rfl);have y2:wr.cell? ⟨b,o+j*5+2,none⟩=some (.bool kp):=kc b1 (hx.at 2 rfl);have y3:wr.cell? ⟨b,o+j*5+3,none⟩=some (.int .u32 sb):=kc b1 (hx.at 3 rfl);have y4:wr.cell? ⟨b,o+j*5+4,none⟩=some (.int .i64 si):=kc b1 (hx.at 4 rfl);obtain⟨X,hX⟩:=gA (Be ⟨⟨K,P⟩,kp,sb,si⟩ n0)
    rw[hX]at NX NB;simp only[hX]at KN;have HK:Hid (∀v,Calls prog 35 #[.agg #[.int .i64 K,.int .i64 P,.bool kp,.int .u32 sb,.int .i64 si],.slice p0 n0 q0] v fun e w'=>e=.returned (.bool X)/\Below v.heap.size v w'):=KN;have i1:(0:Int)<=(j:Int):=oM;have i2:(j:Int)<(n2:Int):=oM;clear KN hT hX hx hall;cases X
    .go_wp2;refine rG (fun v=>v.cell? ⟨w.heap.size,2,none⟩=some (.slice (some ⟨b,o,none⟩) n2 q2)/\v.cell? ⟨w.heap.size,0,none⟩=some (.slice p0 n0 q0)/\v.cell? ⟨b,o+j*5,none⟩=some (.int .i64 K)/\v.cell? ⟨b,o+j*5+1,none⟩=some (.int .i64 P)/\v.cell? ⟨b,o+j*5+2,none⟩=some (.bool kp)/\v.cell? ⟨b,o+j*5+3,none⟩=some (.int .u32 sb)/\v.cell? ⟨b,o+j*5+4,none⟩=some (.int .i64 si)) fun hJ=>?_;refine Tf 0 1 2 3 4 5 ?_;refine Bo 6 ?_;clear hJ;refine Aw 7 fun K hK=>?_;go_simp;(go_at_call 35;(with_reducible refine(HK.out _).mono ?_);rintro e w2 ⟨rfl,hb2⟩;have HB2:Hid (Below wr.heap.size wr w2):=bel (A9 _) hb2;clear hb2;obtain⟨-,-,c0,c1,c2,c3⟩:=HCX.out.next HB2.out;have x0:=kc HB2.out y0;have x1:=kc HB2.out y1;have x2:=kc HB2.out y2;have x3:=kc HB2.out y3;have x4:=kc HB2.out y4);exact Zeo
    .go_wp2;refine rG (fun v=>v.cell? ⟨w.heap.size,2,none⟩=some (.slice (some ⟨b,o,none⟩) n2 q2)/\v.cell? ⟨w.heap.size,0,none⟩=some (.slice p0 n0 q0)/\v.cell? ⟨b,o+j*5,none⟩=some (.int .i64 K)/\v.cell? ⟨b,o+j*5+1,none⟩=some (.int .i64 P)/\v.cell? ⟨b,o+j*5+2,none⟩=some (.bool kp)/\v.cell? ⟨b,o+j*5+3,none⟩=some (.int .u32 sb)/\v.cell? ⟨b,o+j*5+4,none⟩=some (.int .i64 si)) fun hJ=>?_;refine Tf 0 1 2 3 4 5 ?_;refine Bo 6 ?_;clear hJ;refine Aw 7 fun K hK=>?_;go_simp;(go_at_call 35;(with_reducible refine(HK.out _).mono ?_);rintro e w2 ⟨rfl,hb2⟩;have HB2:Hid (Below wr.heap.size wr w2):=bel (A9 _) hb2;clear hb2;obtain⟨-,-,c0,c1,c2,c3⟩:=HCX.out.next HB2.out;have x0:=kc HB2.out y0;have x1:=kc HB2.out y1;have x2:=kc HB2.out y2;have x3:=kc HB2.out y3;have x4:=kc HB2.out y4);exact Zeb
   have hjn2:j=n2:=oM;have HGO0:Hid (L6 c ⟨[],[]⟩ 0 c.list=(RA,RB)):=by
    show _=_;have h5:=hall.out;rw[hjn2,<-HN2.out,List.take_length]at h5;have h6:BK c=true:=by unfold BK;rw[HN0.out];exact h5
    have h7:=HRES.out;rw[HT.out,h6,if_pos rF]at h7;exact h7
   have e1:¬ (j:Int)<(n2:Int):=oM;clear hall hlt;go_wp2;clear e1 c0 c1 c2 c3 b1 b2
   go_loopw [7,8] (fun sv iv wr=>CX w (.slice p0 n0 q0) (.slice p1 n1 q1) (.slice p2 n2 q2) (.slice p3 n3 q3) wr/\∃ (k:Nat) (p:Option Addr) (q:Nat),k<=n1/\iv=.int .i64 (k:Int)/\sv=.slice p k q/\wr.ownsRow (w.heap.size+1) 4 1 (.slice p k q) k (Di k [])) (fun _ iv _=>n1-(intOf iv).toNat)
   case atStart=>exact⟨HCX.out,0,none,0,gI _,rfl,rfl,by rw[show Di 0 []=[] from rfl];exact World.ownsRow_nil _ _ _ 1⟩
   case round=>
    obtain⟨hcx,k,p,q,hkn,rfl,rfl,how⟩:=hrel;have HCX:Hid (CX w (.slice p0 n0 q0) (.slice p1 n1 q1) (.slice p2 n2 q2) (.slice p3 n3 q3) wr):=hcx;obtain⟨b1,b2,c0,c1,c2,c3⟩:=hcx;by_cases hkl:k<n1
    .obtain⟨g,c',w8,hap,hb8,ho8⟩:=UU how oM oM;have HAP:Hid ((Builtin.append_ #[36,36] 36 #[.slice p k q,.slice (some ⟨wr.heap.size,0,none⟩) 1 1]).run prog (wr.alloc (.cells #[.bool false] 4))=.ok (.slice (some ⟨g,0,none⟩) (k+1) c') w8):=hap;have HY8:Hid (CX w (.slice p0 n0 q0) (.slice p1 n1 q1) (.slice p2 n2 q2) (.slice p3 n3 q3) w8/\w8.ownsRow (w.heap.size+1) 4 1 (.slice (some ⟨g,0,none⟩) (k+1) c') (k+1) (Di (k+1) [])):=by
      refine⟨HCX.on hb8,?_⟩;rw[OE,List.replicate_succ',<-OE];exact ho8
     have i2:(k:Int)<(n1:Int):=oM;have wi:IntKind.i64.wrap ((k:Int)+1)=((k+1:Nat):Int):=by rw[IntKind.wrap_i64];omega
     clear hap hb8 ho8 how;go_wp2_with(at_builtin;refine AO rF _ _ _ rF _ _ _ rF rF HAP.out ?_);go_roundw
     case rel=>exact⟨HY8.1,k+1,_,_,oM,gN,rfl,HY8.2⟩
     case measure=>simp[intOf];omega
    have hkn1:k=n1:=oM;subst hkn1;have HSK0:Hid (SK (w.heap.size+1) k wr (.slice p k q) (.slice none 0 0) ⟨[],[]⟩ []):=SK.start wr _ b2 how;have e1:¬ (k:Int)<(k:Int):=oM;clear how hkl;go_wp2;clear e1 c0 c1 c2 c3 b1 b2
    go_loopw [7,9,10] (fun sv ov iv wr=>CX w (.slice p0 n0 q0) (.slice p1 k q1) (.slice p2 n2 q2) (.slice p3 n3 q3) wr/\∃ (j:Nat) (s:Wk) (us:List Value),j<=n3/\iv=.int .i64 (j:Int)/\Hid (SK (w.heap.size+1) k wr sv ov s us)/\Hid (E5 k s)/\Hid (E6 s)/\Hid (L6 c s j (c.list.drop j)=(RA,RB))) (fun _ _ iv _=>n3-(intOf iv).toNat)
    case atStart=>exact⟨HCX.out,0,⟨[],[]⟩,[],gI _,rfl,HSK0.out,E5.start k,E6.start,by show _=_;rw[List.drop_zero];exact HGO0.out⟩
    case round=>
     obtain⟨hcx,j,s,us,hj,rfl,hsk,hok,hpo,hgo⟩:=hrel;obtain⟨po,qo,rfl⟩:=AZ hsk.opn;obtain⟨ps,qs,rfl⟩:=AZ hsk.set;have HCX:Hid (CX w (.slice p0 n0 q0) (.slice p1 k q1) (.slice p2 n2 q2) (.slice p3 n3 q3) wr):=hcx;obtain⟨b1,b2,f0,f1,f2,f3⟩:=hcx;have hnest:=hok.nest;clear HSK0;by_cases hlt:j<n3
     .have hll:j<c.list.length:=by rw[HN3.out];exact hlt
      obtain⟨b,o,rfl,hx⟩:=HLIST.at hll;have hgo':=hgo.out;rw[List.drop_eq_getElem_cons hll]at hgo';have hgi:L6 c s j (c.list[j]::c.list.drop (j+1))=if AG c s c.list[j]then L6 c (Aj s c.list[j]) (j+1) (c.list.drop (j+1))else(160,(j:Int)):=rfl;rw[hgi]at hgo';have hib:=HCO.ibits c.list[j] (gD hll);have hos:AG c s c.list[j]=true->E5 k (Aj s c.list[j])/\E6 (Aj s c.list[j]):=fun ht=>by
       have hq:E5 c.regs.length s:=by rw[HN1.out];exact hok.out
       have h5:=E5.step hq ht;rw[HN1.out]at h5;exact⟨h5,hpo.step ht⟩
      have htk:AG c s c.list[j]=true->AS c c.list[j] (A4 c.list[j].op)=true/\Az c s c.list[j] (A4 c.list[j].op)=true:=fun ht=>by
       obtain⟨-,h5,h6,-⟩:=Ao ht;exact⟨h5,h6⟩
      obtain⟨⟨op,D,A,Q,E,nn,bt⟩,hxx⟩:∃x:Ad,c.list[j]=x:=⟨_,rfl⟩
      rw[hxx]at hx hgo' hos htk hib;have KS:=Oy _ _ _ _ c HCO.out HT.out (⟨op,D,A,Q,E,nn,bt⟩:Ad) hib.1 hib.2 (w.heap.size+1) s (.slice ps k qs) (.slice po s.opens.length qo) us (by rw[HN1.out];exact h1) (by rw[HN1.out];exact hok.out) hpo.out (wr.alloc (.cells #[.int .i64 op,.int .i64 D,.int .i64 A,.int .i64 Q,.int .i64 E,.int .i64 nn,.int .u32 bt] 40)) ((HCV.below b1).below (A0 _ _)) (by rw[HN1.out];exact hsk.below (A0 _ _));have x0:=kc b1 (hx.at 0 rfl);have x1:=kc b1 (hx.at 1 rfl);have x2:=kc b1 (hx.at 2 rfl);have x3:=kc b1 (hx.at 3 rfl);have x4:=kc b1 (hx.at 4 rfl);have x5:=kc b1 (hx.at 5 rfl);have x6:=kc b1 (hx.at 6 rfl);rw[Nat.add_zero]at x0;obtain⟨-,-,f0',f1',f2',f3'⟩:=HCX.next (A0 wr (.cells #[.int .i64 op,.int .i64 D,.int .i64 A,.int .i64 Q,.int .i64 E,.int .i64 nn,.int .u32 bt] 40));have HIX:Hid (∀v,Below (wr.alloc (.cells #[.int .i64 op,.int .i64 D,.int .i64 A,.int .i64 Q,.int .i64 E,.int .i64 nn,.int .u32 bt] 40)).heap.size (wr.alloc (.cells #[.int .i64 op,.int .i64 D,.int .i64 A,.int .i64 Q,.int .i64 E,.int .i64 nn,.int .u32 bt] 40)) v->v.cell? ⟨wr.heap.size,0,none⟩=some (.int .i64 op)/\v.cell? ⟨wr.heap.size,1,none⟩=some (.int .i64 D)/\v.cell? ⟨wr.heap.size,2,none⟩=some (.int .i64 A)/\v.cell? ⟨wr.heap.size,3,none⟩=some (.int .i64 Q)/\v.cell? ⟨wr.heap.size,4,none⟩=some (.int .i64 E)/\v.cell? ⟨wr.heap.size,5,none⟩=some (.int .i64 nn)/\v.cell? ⟨wr.heap.size,6,none⟩=some (.int .u32 bt)):=fun v hb=>⟨kc hb sG,kc hb sG,kc hb sG,kc hb sG,kc hb sG,kc hb sG,kc hb sG⟩
      obtain⟨T,hT⟩:=gA (AG c s (⟨op,D,A,Q,E,nn,bt⟩:Ad))
      rw[hT]at hgo' hos htk KS;have HST:Hid (Calls prog 36 #[.agg #[.slice p0 n0 q0,.slice p1 k q1,.slice p2 n2 q2,.slice (some ⟨b,o,none⟩) n3 q3],.agg #[.int .i64 op,.int .i64 D,.int .i64 A,.int .i64 Q,.int .i64 E,.int .i64 nn,.int .u32 bt],.slice ps k qs,.slice po s.opens.length qo] (wr.alloc (.cells #[.int .i64 op,.int .i64 D,.int .i64 A,.int .i64 Q,.int .i64 E,.int .i64 nn,.int .u32 bt] 40)) fun e w'=>e=.returned (.bool T)/\Below (wr.alloc (.cells #[.int .i64 op,.int .i64 D,.int .i64 A,.int .i64 Q,.int .i64 E,.int .i64 nn,.int .u32 bt] 40)).heap.size (wr.alloc (.cells #[.int .i64 op,.int .i64 D,.int .i64 A,.int .i64 Q,.int .i64 E,.int .i64 nn,.int .u32 bt] 40)) w'):=KS;have HGO:Hid ((if T=true then L6 c (Aj s (⟨op,D,A,Q,E,nn,bt⟩:Ad)) (j+1) (c.list.drop (j+1))else(160,(j:Int)))=(RA,RB)):=hgo';have HOS:Hid (T=true->E5 k (Aj s (⟨op,D,A,Q,E,nn,bt⟩:Ad))/\E6 (Aj s (⟨op,D,A,Q,E,nn,bt⟩:Ad))):=hos;have HTK:Hid (T=true->AS c (⟨op,D,A,Q,E,nn,bt⟩:Ad) (A4 op)=true/\Az c s (⟨op,D,A,Q,E,nn,bt⟩:Ad) (A4 op)=true):=htk;have k1:(0:Int)<=(j:Int):=oM;have k2:(j:Int)<(n3:Int):=oM;have wj:IntKind.i64.wrap ((j:Int)+1)=((j+1:Nat):Int):=by rw[IntKind.wrap_i64];omega
      clear KS hgo hgo' hgi hos htk hT hx hxx hib hll;cases T
      .have HQ:Hid ((160,(j:Int))=(RA,RB)):=by show _=_;have:=HGO.out;rw[if_neg dE]at this;exact this
       go_wp2_with(go_at_call 36;(with_reducible refine HST.out.mono ?_);rintro e w5 ⟨rfl,hb5⟩;have HB5:Hid (Below (wr.alloc (.cells #[.int .i64 op,.int .i64 D,.int .i64 A,.int .i64 Q,.int .i64 E,.int .i64 nn,.int .u32 bt] 40)).heap.size (wr.alloc (.cells #[.int .i64 op,.int .i64 D,.int .i64 A,.int .i64 Q,.int .i64 E,.int .i64 nn,.int .u32 bt] 40)) w5):=hb5;clear hb5 f0 f1 f2 f3;obtain⟨-,-,f0,f1,f2,f3⟩:=(HCX.out.next (A0 _ _)).next HB5.out;obtain⟨i0,i1,i2,i3,i4,i5,i6⟩:=HIX.out w5 HB5.out)
       go_ret2
       exact⟨Hv HQ.out,bel (bel HCX.bel (A0 _ _)) HB5.out⟩
      .have HO1:Hid (E5 k (Aj s (⟨op,D,A,Q,E,nn,bt⟩:Ad))/\E6 (Aj s (⟨op,D,A,Q,E,nn,bt⟩:Ad))):=HOS.out rfl;have HG1:Hid (L6 c (Aj s (⟨op,D,A,Q,E,nn,bt⟩:Ad)) (j+1) (c.list.drop (j+1))=(RA,RB)):=by show _=_;have:=HGO.out;rw[if_pos rfl]at this;exact this
       have HTK1:Hid (AS c (⟨op,D,A,Q,E,nn,bt⟩:Ad) (A4 op)=true/\Az c s (⟨op,D,A,Q,E,nn,bt⟩:Ad) (A4 op)=true):=HTK.out rfl;have HOB:Hid (∀g,(Value.slice po s.opens.length qo).ownBlock=some g->g<wr.heap.size):=fun g e=>(hsk.opn.lt g e).2;clear HGO HOS HTK;by_cases hop:op=34\/op=36
       .have hn64:s.opens.length<64:=GW (i:=(⟨op,D,A,Q,E,nn,bt⟩:Ad)) HTK1.2 hop;have HOP:Hid (op=34\/op=36):=hop;have HCP:Hid (∀v,Below wr.heap.size wr v->Calls prog 37 #[.slice ps k qs] v fun e w'=>∃u,e=.returned u/\w'.ownsRow v.heap.size 4 1 u k (Di k s.set)/\Below v.heap.size v w'):=fun v hb=>J0 _ h1 v (Ak hsk.set hb);have hq:((op==34)=true)\/((op==34)=false/\(op==36)=true):=by
         rcases hop with e|e
         .exact .inl (by simpa using e)
         .exact .inr ⟨by rw[e];decide,by simpa using e⟩
        clear hop;rcases hq with r1|⟨r1,r2⟩
        all_goals
         go_wp2_with(go_at_call 36;(with_reducible refine HST.out.mono ?_);rintro e w5 ⟨rfl,hb5⟩;have HB5:Hid (Below (wr.alloc (.cells #[.int .i64 op,.int .i64 D,.int .i64 A,.int .i64 Q,.int .i64 E,.int .i64 nn,.int .u32 bt] 40)).heap.size (wr.alloc (.cells #[.int .i64 op,.int .i64 D,.int .i64 A,.int .i64 Q,.int .i64 E,.int .i64 nn,.int .u32 bt] 40)) w5):=hb5;have HBR:Hid (Below wr.heap.size wr w5):=bel (A0 _ _) hb5;clear hb5 f0 f1 f2 f3;obtain⟨-,-,f0,f1,f2,f3⟩:=(HCX.out.next (A0 _ _)).next HB5.out;obtain⟨i0,i1,i2,i3,i4,i5,i6⟩:=HIX.out w5 HB5.out);refine rG (fun v=>v.cell? ⟨wr.heap.size,0,none⟩=some (.int .i64 op)/\v.cell? ⟨wr.heap.size,5,none⟩=some (.int .i64 nn)) fun hJ=>?_;refine Tf 0 1 2 3 4 5 ?_;clear hJ;refine Aw 6 fun K hK=>?_;go_simp;(go_at_call 37;(with_reducible refine(HCP.out _ (bel HBR.out (A9 _))).mono ?_);rintro e w6 ⟨u,rfl,hu,hb6⟩;obtain⟨pu,qu,rfl⟩:=AZ hu;have hb66:Below w5.heap.size w5 w6:=bel (A9 _) hb6;obtain⟨g',c',w7,hrun,hb7,hsk7,hoth⟩:=SK.push (i:=(⟨op,D,A,Q,E,nn,bt⟩:Ad)) (hsk.out.below HBR.out) hb66 hu HOP.out hn64 98;dsimp only at hrun;have HRUN:Hid _:=hrun;have HX7:Hid (CX w (.slice p0 n0 q0) (.slice p1 k q1) (.slice p2 n2 q2) (.slice (some ⟨b,o,none⟩) n3 q3) w7):=((HCX.out.next (A0 _ _)).next HB5.out).on hb7;have HS7:Hid (SK (w.heap.size+1) k w7 (.slice ps k qs) (.slice (some ⟨g',0,none⟩) (s.opens.length+1) c') (Aj s (⟨op,D,A,Q,E,nn,bt⟩:Ad)) (us++[.slice pu k qu])):=hsk7;have j0:=kc hb66 i0;have j5:=kc hb66 i5;have hwl:wr.heap.size<w6.heap.size:=A8 j0;have hne:(Value.slice po s.opens.length qo).ownBlock≠some wr.heap.size:=(fun e=>Nat.lt_irrefl _ (HOB.out _ e));have m0:w7.cell? ⟨wr.heap.size,0,none⟩=some (.int .i64 op):=(gC (hoth _ hwl hne)).trans j0;have m5:w7.cell? ⟨wr.heap.size,5,none⟩=some (.int .i64 nn):=(gC (hoth _ hwl hne)).trans j5;have a0:∀x,(w6.alloc x).cell? ⟨wr.heap.size,0,none⟩=some (.int .i64 op):=(fun x=>kc (A0 _ _) j0);have a5:∀x,(w6.alloc x).cell? ⟨wr.heap.size,5,none⟩=some (.int .i64 nn):=(fun x=>kc (A0 _ _) j5);clear hu hb6 hb66 hrun hb7 hsk7 hoth hne i0 i5);try(go_wp2_with fail)
         refine Aq hK fun hJ=>?_;clear hK K;refine Bo 7 ?_;clear hJ;refine Aw 8 fun K hK=>?_;go_simp;refine Aq hK fun hJ=>?_;clear hK K;clear hJ;refine Aw 9 fun K hK=>?_;refine Fq _ _ _ rF _ _ _ rF rF HRUN.out ?_ _ rF;refine Aq hK fun hJ=>?_;clear hK K;refine Bo 10 ?_;refine wpAnyH_done kR ?_ _;go_wp2;go_roundw
         case rel=>exact⟨HX7.out,j+1,Aj s (⟨op,D,A,Q,E,nn,bt⟩:Ad),us++[Value.slice pu k qu],oM,gN,HS7,HO1.1,HO1.2,HG1.out⟩
         case measure=>simp[intOf];omega
       have q34:(op==34)=false:=by have:op≠34:=fun e=>hop (.inl e);simpa using this
       have q36:(op==36)=false:=by have:op≠36:=fun e=>hop (.inr e);simpa using this
       have HNO:Hid (op≠34/\op≠36):=⟨fun e=>hop (.inl e),fun e=>hop (.inr e)⟩
       clear hop;by_cases h35:op=35
       .have hmay:=HTK1.2;unfold Az at hmay;rw[if_neg (fun e=>e.elim HNO.1 HNO.2),if_pos h35]at hmay;simp only[Bool.and_eq_true,Bool.not_eq_true']at hmay;have hn0:0<s.opens.length:=by
         rcases Nat.eq_zero_or_pos s.opens.length with e|e
         .have:=List.length_eq_zero_iff.1 e;rw[this]at hmay;exact absurd hmay.1 dE
         .exact e
        have HLP:Hid (AD s=false):=hmay.2;obtain⟨g,cap,eo,-⟩:=hsk.opn.form hn0;simp only[Value.slice.injEq]at eo;obtain⟨rfl,-,-⟩:=eo;obtain⟨X,u,hX,hu,-,-,z2⟩:=hsk.last hn0;obtain⟨pu,qu,rfl⟩:=AZ hu;have HXO:Hid ((Li s)[s.opens.length-1]? =some ⟨if AD s then 36 else 34,Cp s,X⟩):=hX;have HCP:Hid (∀v,Below wr.heap.size wr v->Calls prog 37 #[.slice pu k qu] v fun e w'=>∃u,e=.returned u/\w'.ownsRow v.heap.size 4 1 u k (Di k X)/\Below v.heap.size v w'):=fun v hb=>J0 _ h1 v (Ak hu hb);have s1:=fun w=>F3 und_O XN (some ⟨g,0,none⟩) s.opens.length qo (s.opens.length-1) (by have:=MU hsk.opn;omega) w;have HN0':Hid (0<s.opens.length):=hn0;obtain⟨N,hN⟩:=gA (s.opens.length)
        obtain⟨m,hm⟩:=gA (N-1)
        have HNN:Hid (s.opens.length=N):=hN;have HMM:Hid (N-1=m):=hm;rw[hN]at z2 s1 hn0 hnest;rw[hm]at z2 s1;rw[hN]at HST;rw[hN];have hw:IntKind.i64.wrap ((N:Int)-1)=(m:Int):=by rw[IntKind.wrap_i64];omega
        have r1:(0:Int)<=(m:Int):=oM;have r2:(m:Int)<(N:Int):=oM;have q35:(op==35)=true:=by simpa using h35
        have HOP:Hid (op=35\/op=37):=.inl h35;clear hmay hX hu h35 hN hm;go_wp2_with(first
         |(go_at_call 36;(with_reducible refine HST.out.mono ?_);rintro e w5 ⟨rfl,hb5⟩;have HB5:Hid (Below (wr.alloc (.cells #[.int .i64 op,.int .i64 D,.int .i64 A,.int .i64 Q,.int .i64 E,.int .i64 nn,.int .u32 bt] 40)).heap.size (wr.alloc (.cells #[.int .i64 op,.int .i64 D,.int .i64 A,.int .i64 Q,.int .i64 E,.int .i64 nn,.int .u32 bt] 40)) w5):=hb5;have HBR:Hid (Below wr.heap.size wr w5):=bel (A0 _ _) hb5;clear hb5 f0 f1 f2 f3;obtain⟨-,-,f0,f1,f2,f3⟩:=(HCX.out.next (A0 _ _)).next HB5.out;have z5:=kc HBR.out z2;obtain⟨i0,i1,i2,i3,i4,i5,i6⟩:=HIX.out w5 HB5.out)
         |(go_at_call 37;(with_reducible refine(HCP.out _ HBR.out).mono ?_);rintro e w6 ⟨u,rfl,hu,hb6⟩;have HU6:Hid (w6.ownsRow w5.heap.size 4 1 u k (Di k X)):=hu;have HB6:Hid (Below w5.heap.size w5 w6):=hb6;clear hu hb6))
        go_roundw
        case rel=>
         refine⟨((HCX.next (A0 _ _)).next HB5.out).next HB6.out,j+1,Aj s (⟨op,D,A,Q,E,nn,bt⟩:Ad),us.take (s.opens.length-1),oM,gN,?_,HO1.1,HO1.2,HG1.out⟩;have e1:Aj s (⟨op,D,A,Q,E,nn,bt⟩:Ad)=AQ s:=Nh HOP.out;have h9:=SK.back (hsk.below HBR.out) hok.out HN0'.out HLP.out HB6.out HXO.out HU6.out;rw[e1,<-HMM.out,<-HNN.out];exact h9
        case measure=>simp[intOf];omega
       have q35:(op==35)=false:=by simpa using h35
       by_cases h37:op=37
       .have hmay:=HTK1.2;unfold Az at hmay;rw[if_neg (fun e=>e.elim HNO.1 HNO.2),if_neg h35,if_pos h37]at hmay;have hn0:0<s.opens.length:=by
         rcases Nat.eq_zero_or_pos s.opens.length with e|e
         .have:=List.length_eq_zero_iff.1 e;unfold AD at hmay;rw[this]at hmay;exact absurd hmay dE
         .exact e
        have HLP:Hid (AD s=true):=hmay;have s1:=fun w=>F3 und_O XN po s.opens.length qo (s.opens.length-1) (by have:=MU hsk.opn;omega) w;have HN0':Hid (0<s.opens.length):=hn0;obtain⟨N,hN⟩:=gA (s.opens.length)
        obtain⟨m,hm⟩:=gA (N-1)
        have HNN:Hid (s.opens.length=N):=hN;have HMM:Hid (N-1=m):=hm;rw[hN]at s1 hn0 hnest;rw[hm]at s1;rw[hN]at HST;rw[hN];have hw:IntKind.i64.wrap ((N:Int)-1)=(m:Int):=by rw[IntKind.wrap_i64];omega
        have r1:(0:Int)<=(m:Int):=oM;have r2:(m:Int)<(N:Int):=oM;have q37:(op==37)=true:=by simpa using h37
        have HOP:Hid (op=35\/op=37):=.inr h37;clear hmay h35 h37 hN hm;go_wp2_with(go_at_call 36;(with_reducible refine HST.out.mono ?_);rintro e w5 ⟨rfl,hb5⟩;have HB5:Hid (Below (wr.alloc (.cells #[.int .i64 op,.int .i64 D,.int .i64 A,.int .i64 Q,.int .i64 E,.int .i64 nn,.int .u32 bt] 40)).heap.size (wr.alloc (.cells #[.int .i64 op,.int .i64 D,.int .i64 A,.int .i64 Q,.int .i64 E,.int .i64 nn,.int .u32 bt] 40)) w5):=hb5;have HBR:Hid (Below wr.heap.size wr w5):=bel (A0 _ _) hb5;clear hb5 f0 f1 f2 f3;obtain⟨-,-,f0,f1,f2,f3⟩:=(HCX.out.next (A0 _ _)).next HB5.out;obtain⟨i0,i1,i2,i3,i4,i5,i6⟩:=HIX.out w5 HB5.out);go_roundw
        case rel=>
         refine⟨(HCX.next (A0 _ _)).next HB5.out,j+1,Aj s (⟨op,D,A,Q,E,nn,bt⟩:Ad),us.take (s.opens.length-1),oM,gN,?_,HO1.1,HO1.2,HG1.out⟩;have e1:Aj s (⟨op,D,A,Q,E,nn,bt⟩:Ad)=AQ s:=Nh HOP.out;have h9:=SK.pop (hsk.below HBR.out) hok.out HN0'.out HLP.out;rw[e1,<-HMM.out,<-HNN.out];exact h9
        case measure=>simp[intOf];omega
       have q37:(op==37)=false:=by simpa using h37
       have HNP:Hid (op≠34/\op≠35/\op≠36/\op≠37):=⟨HNO.1,h35,HNO.2,h37⟩
       have KE:=Mb (⟨op,D,A,Q,E,nn,bt⟩:Ad);unfold OF at KE;simp only at KE;have hdr:(A4 op).d≠0->0<=D/\D<(k:Int):=fun hd=>by
        have:=Ag (Cx HTK1.1) hd;rw[HN1.out]at this;exact this
       clear h35 h37;by_cases hsd:(A4 op).d=0
       .have e9:((A4 op).d != 0)=false:=by simp[hsd]
        rw[e9]at KE;have HKE:Hid (∀v,Calls prog 22 #[.agg #[.int .i64 op,.int .i64 D,.int .i64 A,.int .i64 Q,.int .i64 E,.int .i64 nn,.int .u32 bt]] v fun e w'=>e=.returned (.bool false)/\Below v.heap.size v w'):=KE;have HSD:Hid ((A4 op).d=0):=hsd;clear KE e9 hdr hsd;go_wp2_with(first
         |(go_at_call 36;(with_reducible refine HST.out.mono ?_);rintro e w5 ⟨rfl,hb5⟩;have HB5:Hid (Below (wr.alloc (.cells #[.int .i64 op,.int .i64 D,.int .i64 A,.int .i64 Q,.int .i64 E,.int .i64 nn,.int .u32 bt] 40)).heap.size (wr.alloc (.cells #[.int .i64 op,.int .i64 D,.int .i64 A,.int .i64 Q,.int .i64 E,.int .i64 nn,.int .u32 bt] 40)) w5):=hb5;have HBR:Hid (Below wr.heap.size wr w5):=bel (A0 _ _) hb5;clear hb5 f0 f1 f2 f3;obtain⟨-,-,f0,f1,f2,f3⟩:=(HCX.out.next (A0 _ _)).next HB5.out;obtain⟨i0,i1,i2,i3,i4,i5,i6⟩:=HIX.out w5 HB5.out)
         |(go_at_call 22;(with_reducible refine(HKE.out _).mono ?_);rintro e w6 ⟨rfl,hb6⟩;have HB6:Hid (Below w5.heap.size w5 w6):=hb6;clear hb6))
        go_roundw
        case rel=>exact⟨((HCX.next (A0 _ _)).next HB5.out).next HB6.out,j+1,Aj s (⟨op,D,A,Q,E,nn,bt⟩:Ad),us,oM,gN,SK.keep ((hsk.below HBR.out).below HB6.out) hok.out HNP.1 HNP.2.1 HNP.2.2.1 HNP.2.2.2 HSD.out,HO1.1,HO1.2,HG1.out⟩
        case measure=>simp[intOf];omega
       .have e9:((A4 op).d != 0)=true:=by simp[hsd]
        rw[e9]at KE;have HKE:Hid (∀v,Calls prog 22 #[.agg #[.int .i64 op,.int .i64 D,.int .i64 A,.int .i64 Q,.int .i64 E,.int .i64 nn,.int .u32 bt]] v fun e w'=>e=.returned (.bool true)/\Below v.heap.size v w'):=KE;have HSD:Hid ((A4 op).d≠0):=hsd;obtain⟨d,rfl⟩:∃d:Nat,D=(d:Int):=⟨D.toNat,by have:=hdr hsd;omega⟩
        have hd2:=(hdr hsd).2;obtain⟨gs,cap,eo,hgs,-⟩:=hsk.set.form oM;simp only[Value.slice.injEq]at eo;obtain⟨rfl,-,-⟩:=eo;have d0:(0:Int)<=(d:Int):=oM;have HG9:Hid (w.heap.size+1<=gs):=(hsk.set.lt gs rfl).1;have HCE:Hid (∀v,Below wr.heap.size wr v->v.cell? ⟨gs,d,none⟩=some (.bool (decide (d∈s.set)))/\v.frozen? ⟨gs,d,none⟩=false):=fun v hb=>by
         have h9:=Ak hsk.set hb;exact⟨by rw[h9.cellAt d oM,Hz oM],h9.frozenAt d⟩
        clear KE e9 hdr hsd;go_wp2_with(first
         |(go_at_call 36;(with_reducible refine HST.out.mono ?_);rintro e w5 ⟨rfl,hb5⟩;have HB5:Hid (Below (wr.alloc (.cells #[.int .i64 op,.int .i64 (d:Int),.int .i64 A,.int .i64 Q,.int .i64 E,.int .i64 nn,.int .u32 bt] 40)).heap.size (wr.alloc (.cells #[.int .i64 op,.int .i64 (d:Int),.int .i64 A,.int .i64 Q,.int .i64 E,.int .i64 nn,.int .u32 bt] 40)) w5):=hb5;have HBR:Hid (Below wr.heap.size wr w5):=bel (A0 _ _) hb5;clear hb5 f0 f1 f2 f3;obtain⟨-,-,f0,f1,f2,f3⟩:=(HCX.out.next (A0 _ _)).next HB5.out;obtain⟨i0,i1,i2,i3,i4,i5,i6⟩:=HIX.out w5 HB5.out)
         |(go_at_call 22;(with_reducible refine(HKE.out _).mono ?_);rintro e w6 ⟨rfl,hb6⟩;have HB6:Hid (Below w5.heap.size w5 w6):=hb6;obtain⟨y8,y9⟩:=HCE.out w6 (bel HBR.out hb6);have i1:=kc hb6 i1;clear hb6))
        go_roundw
        case rel=>exact⟨(((HCX.next (A0 _ _)).next HB5.out).next HB6.out).on ((Below.refl _ _).setCell HG9.out _),j+1,Aj s ⟨op,(d:Int),A,Q,E,nn,bt⟩,us,oM,gN,SK.ins (i:=⟨op,(d:Int),A,Q,E,nn,bt⟩) ((hsk.below HBR.out).below HB6.out) hok.out HNP.1 HNP.2.1 HNP.2.2.1 HNP.2.2.2 HSD.out (by have:=hd2;show d<k;omega),HO1.1,HO1.2,HG1.out⟩
        case measure=>simp[intOf];omega
     .have hjn3:j=n3:=oM;have hgo':=hgo.out;rw[List.drop_of_length_le (by rw[HN3.out,hjn3];exact gF _)]at hgo';have hgi:L6 c s j []=if s.opens.isEmpty then(0,0)else(160,(j:Int)):=rfl;rw[hgi]at hgo';obtain⟨N,hN⟩:=gA (s.opens.length)
      have hE:s.opens.isEmpty=decide (N=0):=by
       rw[<-hN];cases s.opens with
       |nil=>rfl
       |cons a l=>simp
      rw[hE]at hgo';have HGO:Hid ((if decide (N=0)=true then((0:Int),(0:Int))else(160,(j:Int)))=(RA,RB)):=hgo';rw[hN]at hnest;rw[hN];have e1:¬ (j:Int)<(n3:Int):=oM;clear hgo hgo' hgi hE hN hlt;by_cases hz:N=0
      .have HQ:Hid ((0,0)=(RA,RB)):=by show _=_;have:=HGO.out;rw[if_pos (by simpa using hz)]at this;exact this
       subst hz;go_wp2
       go_ret2
       exact⟨Hv HQ.out,HCX.bel⟩
      .have HQ:Hid ((160,(j:Int))=(RA,RB)):=by show _=_;have:=HGO.out;rw[if_neg (by simpa using hz)]at this;exact this
       have hz':(0:Int)<(N:Int):=oM;have HJ:Hid ((j:Int)=(n3:Int)):=by show _=_;omega
       clear hz;go_wp2;refine rG (fun v=>v.cell? ⟨w.heap.size,3,none⟩=some (.slice p3 n3 q3)) fun hJ=>?_;refine Tc 0 1 2 ?_;refine Tb 3 4 ?_;refine wpAnyH_done kR ?_ _;go_wp2
       go_ret2
       refine⟨Hv ?_,E0 HCX.bel⟩;rw[<-HJ.out];exact HQ.out

theorem Bg(w:World):Below w.heap.size w w.drew:=(Below.refl _ _).drew
section
variable {T : Nat -> Prop} {E E' : Nat} {a : Lay} {c : Cd} {G P : List (List Int)} {X : Nat -> Value} {M : Nat} {m : Nat -> Option Value} {f : Fr} {w w1 w2 : World}
end

def P6(c:Cd)(t:Ty)(h:Hd):Prop:=h.pats.length=B4 c t/\(∀y∈h.pats,AH y)/\0<=h.whole/\h.whole<=2147483647
structure KK(c:Cd)(f:Fr):Prop where
 nums:∀r,AH (f.nums r)
 whs:∀r,0<=f.whs r/\f.whs r<=2147483647
 vecs:∀r,∀y∈f.vecs r,AH y
 vecsL:∀r,(f.vecs r).length<=4096
 slotsL:f.slots.length=c.slots.length
 slots:∀j (h:j<c.slots.length) (h':j<f.slots.length),P6 c c.slots[j].ty f.slots[j]
theorem CS{l:List Int}(h:∀y∈l,AH y)(j:Nat):AH (CH l j):=by
 unfold CH;cases e:l[j]? with
 |none=>exact JM
 |some y=>exact h y (List.mem_of_getElem? e)

structure F5(c:Cd)(L:List (List Int)):Prop where
 len:L.length=c.sign.length
 each:∀p (h:p<L.length),(L[p]).length=Ru c p
 isP:∀l∈L,∀y∈l,AH y
theorem JX{c:Cd}(hg:Good c){p:Nat}(h:p<c.sign.length):Ru c p=AI c p*lenOf c p/\lenOf c p=c.sign[p].len.toNat/\1<=c.sign[p].len/\c.sign[p].len<=4096/\(AI c p=1\/AI c p=2):=by
 have h1:=hg.len c.sign[p] (gD h);have h2:=hg.kind c.sign[p] (gD h);have e1:lenOf c (p:Int)=c.sign[p].len.toNat:=by unfold lenOf;simp[h]
 have e2:AI c (p:Int)=if c.sign[p].kind=2 then 2 else 1:=by unfold AI CV;simp[h]
 refine⟨?_,e1,h1.1,h1.2,?_⟩
 .unfold Ru;rw[e1,e2];simp only[gB h,Option.elim_some];unfold O5 Dh;rw[h2];simp only[if_true,beq_iff_eq];split<;>omega
 .rw[e2];split<;>simp
theorem Yy{α:Type}(f:Nat->Int)(n j:Nat)(h:j<n):CH ((List.range n).map f) j=f j:=by
 unfold CH;simp[h]
structure P8(c:Cd)(r:Int)(n:Int):Prop where
 r0:0<=r
 r1:r<(c.regs.length:Int)
 kind:(Aa c.regs r).kind=3
 n0:n=0\/(n=1/\CV c.sign (Aa c.regs r).par=2)

theorem Ia{L:List (List Int)}{k:Nat}(h:k<L.length):EK L k=L[k]:=by unfold EK;rw[gB h];rfl
theorem LF{l:Nat->Nat}{W:Nat}(hW:1<=W):∀M,(∀i,i<=M->l i=1\/l i=W)->∃n,Eo l M=some n/\(n=1\/n=W):=by
 intro M;induction M with
 |zero=>intro h;exact⟨l 0,rfl,h 0 (gF _)⟩
 |succ M ih=>
  intro h;obtain⟨n,h1,h2⟩:=ih fun i hi=>h i oM;rw[I5 h1];have h3:=h (M+1) (gF _);by_cases e1:l (M+1)=n
  .exact⟨n,if_pos e1,h2⟩
  .rw[if_neg e1,if_neg oM];by_cases e2:n=1
   .rw[if_pos e2];exact⟨_,rfl,h3⟩
   .rw[if_neg e2];by_cases e3:l (M+1)=1
    .rw[if_pos e3];exact⟨_,rfl,h2⟩
    .omega
theorem Gf(i:Ad)(h:Bq i.op=true):CD i.op=(Ae i (A4 i.op)).length/\CD i.op≠0:=by
 unfold Bq at h;simp only[Bool.and_eq_true,decide_eq_true_eq]at h;have:i.op=3\/i.op=4\/i.op=5\/i.op=6\/i.op=7\/i.op=8\/i.op=9\/i.op=10\/i.op=11\/i.op=12\/i.op=13\/i.op=14\/i.op=15:=oM;obtain⟨op,D,A,B,E,n,b⟩:=i;simp only at this |-;rcases this with rfl|rfl|rfl|rfl|rfl|rfl|rfl|rfl|rfl|rfl|rfl|rfl|rfl<;>exact⟨rfl,dE⟩
theorem QR{op:Int}{args:List (List Int)}{n:Nat}(h:Eo (lF args) (args.length-1)=some n):(D4 op args).length=n/\∀j,j<n->CH (D4 op args) j=Kb op (Gz (lF args) (xF args) args.length j 0) (Gz (lF args) (xF args) args.length j 1) (Gz (lF args) (xF args) args.length j 2):=by
 unfold D4;rw[h];simp only;exact⟨sM,fun j hj=>Yy (α:=Int) _ _ _ hj⟩
theorem A7{p:Prop}(h:p):Hid p:=h


def DT(c:Cd)(f:Fr)(r:Nat):Prop:=(Aa c.regs (r:Int)).kind=3->(f.vecs r).length=lenOf c (Aa c.regs (r:Int)).par
theorem Ex{rs:List Ty}{l n:Int}{m:Ty}(h:Ah rs l n m=true)(h0:0<rs.length):0<=n/\n<(rs.length:Int):=by
 by_cases hl:l=0
 .unfold Ah at h;rw[if_pos hl]at h;simp only[beq_iff_eq]at h;omega
 .exact Ag h hl
theorem AP{rs:List Ty}{l n:Int}{m:Ty}(h:Ah rs l n m=true)(hl:l≠0):B7 l (Aa rs n) m=true:=by
 unfold Ah at h;rw[if_neg hl]at h;simp only[Bool.and_eq_true]at h;exact h.2
theorem YT{c:Cd}{i:Ad}{r:Rw}(h:AS c i r=true):Bh c i r.n (AC c.regs i r)=true:=by
 unfold AS at h;simp only[Bool.and_eq_true]at h;exact h.2.2.2.2
theorem Ok{s:Wk}{i:Ad}{r:Rw}(h:EQ s i r=true){n:Int}(hn:n∈Ae i r):n.toNat∈s.set:=by
 unfold EQ at h;have:=List.all_eq_true.1 h n hn;simpa using this
structure Dy(c:Cd)(f:Fr)(i:Ad):Prop where
 num:Dk i.op=true->0<=i.d/\i.d<(c.regs.length:Int)/\(i.op≠1->0<=i.a/\i.a<(c.regs.length:Int))/\(i.op=16->0<=i.b/\i.b<(c.regs.length:Int))/\(Aa c.regs i.d).kind=1
 whole:Bj i.op=true->0<=i.d/\i.d<(c.regs.length:Int)/\(0<=i.a/\i.a<(c.regs.length:Int))/\(0<=i.b/\i.b<(c.regs.length:Int))/\(0<=i.c/\i.c<(c.regs.length:Int))/\(Aa c.regs i.d).kind=2/\(i.op=2->0<=i.n/\i.n<=2147483647)
 part:i.op=29\/i.op=30->P8 c i.d i.n
 out:i.op=31->P8 c i.a i.n/\(f.vecs i.a.toNat).length=lenOf c (Aa c.regs i.a).par
 load:i.op=32->0<=i.d/\i.d<(c.regs.length:Int)/\0<=i.n/\i.n<(c.slots.length:Int)/\Cw c.slots i.n=Aa c.regs i.d
 store:i.op=33->0<=i.a/\i.a<(c.regs.length:Int)/\0<=i.n/\i.n<(c.slots.length:Int)/\Cw c.slots i.n=Aa c.regs i.a/\DT c f i.a.toNat
 elem:Bq i.op=true->0<=i.d/\i.d<(c.regs.length:Int)/\(0<=i.a/\i.a<(c.regs.length:Int))/\∀r∈Ae i (A4 i.op),0<=r/\r<(c.regs.length:Int)/\DT c f r.toNat/\(Aa c.regs r=Aa c.regs i.d\/((Aa c.regs r).kind=1/\(Aa c.regs i.d).kind=3))
theorem LI{i:Ad}{r:Rw}(h:r.a≠0):i.a∈Ae i r:=by unfold Ae;simp[h]
theorem Rq{c:Cd}{f:Fr}{s:Wk}{i:Ad}(t:AG c s i=true)(hs:∀r∈s.set,DT c f r):Dy c f i:=by
 obtain⟨_,h2,_,h4⟩:=Ao t;have hd:=Cx h2;have ha:=BF h2;have hb:=CQ h2;have hc:=CR h2;have hn:=YT h2;have hr:=fun{n:Int} (hn:n∈Ae i (A4 i.op))=>hs _ (Ok h4 hn);obtain⟨op,D,A,B,Ec,nn,bt⟩:=i;simp only at *;refine⟨fun h=>?_,fun h=>?_,fun h=>?_,fun h=>?_,fun h=>?_,fun h=>?_,fun h=>?_⟩
 .unfold Dk at h;simp only[Bool.or_eq_true,beq_iff_eq]at h;have hop:op=1\/op=16\/op=17\/op=19\/op=20:=oM;clear h;rcases hop with rfl|rfl|rfl|rfl|rfl
  all_goals
   have d:=Ag hd dE;have dm:=AP hd dE;have a1:=Ex ha oM;have b1:=Ex hb oM;exact⟨d.1,d.2,fun _=>a1,fun _=>b1,by simpa[B7,A4]using dm⟩
 .unfold Bj at h;simp only[Bool.or_eq_true,Bool.and_eq_true,beq_iff_eq,decide_eq_true_eq]at h;have hop:op=2\/op=18\/op=21\/op=22\/op=23\/op=24\/op=25\/op=26\/op=27\/op=28:=oM;clear h;rcases hop with rfl|rfl|rfl|rfl|rfl|rfl|rfl|rfl|rfl|rfl
  all_goals
   have d:=Ag hd dE;have dm:=AP hd dE;have a1:=Ex ha oM;have b1:=Ex hb oM;have c1:=Ex hc oM;refine⟨d.1,d.2,a1,b1,c1,by simpa[B7,A4]using dm,fun e=>?_⟩;simp[Bh,A4,EW,Du]at hn;show 0<=nn/\nn<=2147483647;omega
 .rcases h with rfl|rfl
  all_goals
   have d:=Ag hd dE;have dm:=AP hd dE;refine⟨d.1,d.2,by simpa[B7,A4]using dm,?_⟩;simp[Bh,A4,EW,AC,ED]at hn;first|exact hn.2|(simpa using hn.2)
 .subst h;have d:=Ag ha dE;have dm:=AP ha dE;have k3:(Aa c.regs A).kind=3:=by simpa[B7,A4]using dm
  refine⟨⟨d.1,d.2,k3,?_⟩,?_⟩
  .simp[Bh,A4,EW,AC,ED]at hn;first|exact hn.2|(simpa using hn.2)
  .have:=hr (n:=A) (LI (r:=A4 31) dE);have e:((A.toNat:Nat):Int)=A:=oM;unfold DT at this;rw[e]at this;exact this k3
 .subst h;have d:=Ag hd dE;simp[Bh,A4,EW,AC,ED]at hn;have:=BU.1 hn.2.1;exact⟨d.1,d.2,this.1,this.2,hn.2.2⟩
 .subst h;have d:=Ag ha dE;simp[Bh,A4,EW,AC,ED]at hn;have:=BU.1 hn.2.1;exact⟨d.1,d.2,this.1,this.2,hn.2.2,hr (n:=A) (LI (r:=A4 33) dE)⟩
 .unfold Bq at h;simp only[Bool.and_eq_true,decide_eq_true_eq]at h;have hop:op=3\/op=4\/op=5\/op=6\/op=7\/op=8\/op=9\/op=10\/op=11\/op=12\/op=13\/op=14\/op=15:=oM;clear h;rcases hop with rfl|rfl|rfl|rfl|rfl|rfl|rfl|rfl|rfl|rfl|rfl|rfl|rfl
  all_goals
   have d:=Ag hd dE;have a1:=Ag ha dE;refine⟨d.1,d.2,a1,fun r hrr=>⟨?_,?_,hr hrr,?_⟩⟩
   all_goals
    have am:=AP ha dE;simp[Ae,A4]at hrr;first
     |(
      have bm:=AP hb dE;have b1:=Ag hb dE;have cm:=AP hc dE;have c1:=Ag hc dE;simp[B7,A4,AC,ED]at am bm cm
      rcases hrr with rfl|rfl|rfl<;>first|omega|(simpa using am)|(simpa using bm)|(simpa using cm))
     |(
      have bm:=AP hb dE;have b1:=Ag hb dE;simp[B7,A4,AC,ED]at am bm
      rcases hrr with rfl|rfl<;>first|omega|(simpa using am)|(simpa using bm))
     |(
      simp[B7,A4,AC,ED]at am;subst hrr
      first|omega|(simpa using am))
theorem PK(X:Nat->Int)(n:Nat)(hX:∀i,AH (X i)):AH (EP X n):=FT MD (by unfold AH;decide) hX n
theorem DC{c:Cd}(hg:Good c){r:Int}(h0:0<=r)(h1:r<(c.regs.length:Int))(h3:(Aa c.regs r).kind=3):1<=lenOf c (Aa c.regs r).par/\B4 c (Aa c.regs r)=lenOf c (Aa c.regs r).par:=by
 obtain⟨r,rfl⟩:∃j:Nat,r=(j:Int):=⟨r.toNat,oM⟩
 have hr:r<c.regs.length:=oM;rw[Ea hr]at h3 |-;have hp:=BU.1 (hg.type (gD hr) h3);obtain⟨pp,hpp⟩:=gA (c.regs[r].par)
 refine⟨?_,by unfold B4;rw[if_pos h3]⟩;rw[hpp]at hp |-;obtain⟨p,rfl⟩:∃j:Nat,pp=(j:Int):=⟨pp.toNat,oM⟩
 obtain⟨_,e2,e3,_⟩:=JX hg (p:=p) oM;omega
theorem Ws{c:Cd}{f:Fr}(hg:Good c)(ok:KK c f){r:Int}(h0:0<=r)(h1:r<(c.regs.length:Int))(hs:DT c f r.toNat):P6 c (Aa c.regs r) (C2 c f r):=by
 have e:((r.toNat:Nat):Int)=r:=oM;unfold DT at hs;rw[e]at hs;have hty:(Aa c.regs r).kind=1\/(Aa c.regs r).kind=2\/(Aa c.regs r).kind=3:=by
  obtain⟨r,rfl⟩:∃j:Nat,r=(j:Int):=⟨r.toNat,oM⟩
  have hr:r<c.regs.length:=oM;rw[Ea hr];exact Zfr
 unfold C2 P6;rcases hty with h|h|h
 .rw[if_pos h];refine⟨by unfold B4;rw[if_neg oM,if_pos h];rfl,fun y hy=>?_,Int.le_refl _,by show(0:Int)<=2147483647;decide⟩;simp at hy;rw[hy];exact ok.nums _
 .rw[if_neg oM,if_pos h];exact⟨by unfold B4;rw[if_neg oM,if_neg oM];rfl,fun y hy=>by simp at hy,ok.whs _⟩
 .rw[if_neg oM,if_neg oM];refine⟨?_,ok.vecs _,Int.le_refl _,by show(0:Int)<=2147483647;decide⟩;rw[(DC hg h0 h1 h).2];exact hs h
theorem Yv{op:Int}{args:List (List Int)}(h:∀l∈args,∀y∈l,AH y):∀y∈D4 op args,AH y:=by
 have hX:∀i j,AH (xF args i j):=fun i j=>by
  exact Zep
 intro y hy;unfold D4 at hy;split at hy
 .simp only[List.mem_map]at hy;obtain⟨k,_,rfl⟩:=hy;exact Rc _ _ _ _ (Cq hX _ _ _) (Cq hX _ _ _) (Cq hX _ _ _)
 .cases hy
theorem Gi{c:Cd}{f:Fr}{i:Ad}(hg:Good c)(ok:KK c f)(he:Bq i.op=true)(nd:Dy c f i)(hk:(Aa c.regs i.d).kind≠2):
 1<=B4 c (Aa c.regs i.d)/\(∀r∈Ae i (A4 i.op),0<=r/\r<(c.regs.length:Int)/\((C2 c f r).pats.length=1\/(C2 c f r).pats.length=B4 c (Aa c.regs i.d))/\∀y∈(C2 c f r).pats,AH y)/\((Aa c.regs i.d).kind=1\/(Aa c.regs i.d).kind=3):=by
 obtain⟨d0,d1,_,hr⟩:=nd.elem he;have hty:(Aa c.regs i.d).kind=1\/(Aa c.regs i.d).kind=3:=by
  obtain⟨r,hrr⟩:∃j:Nat,i.d=(j:Int):=⟨i.d.toNat,oM⟩
  rw[hrr]at hk d1 |-;have hr:r<c.regs.length:=oM;rw[Ea hr]at hk |-;exact Zfr
 refine⟨?_,fun r hm=>?_,hty⟩
 .rcases hty with h|h
  .unfold B4;rw[if_neg oM,if_pos h];exact gF _
  .rw[(DC hg d0 d1 h).2];exact(DC hg d0 d1 h).1
 .obtain⟨r0,r1,hs,hm2⟩:=hr r hm;have hh:=Ws hg ok r0 r1 hs;refine⟨r0,r1,?_,hh.2.1⟩;rcases hm2 with e|⟨e,_⟩
  .right;rw[<-e];exact hh.1
  .left;rw[hh.1];unfold B4;rw[if_neg oM,if_pos e]
theorem Fa{c:Cd}{f:Fr}{i:Ad}(hg:Good c)(ok:KK c f)(he:Bq i.op=true)(nd:Dy c f i)(hk:(Aa c.regs i.d).kind≠2):
 ((D4 i.op (Br c f i)).length=1\/(D4 i.op (Br c f i)).length=B4 c (Aa c.regs i.d))/\∀y∈D4 i.op (Br c f i),AH y:=by
 obtain⟨h1,h2,_⟩:=Gi hg ok he nd hk;have hall:∀l∈Br c f i,(l.length=1\/l.length=B4 c (Aa c.regs i.d))/\∀y∈l,AH y:=by
  intro l hl;unfold Br at hl;simp only[List.mem_map]at hl;obtain⟨r,hr,rfl⟩:=hl;exact(h2 r hr).2.2
 have hne:(Br c f i).length≠0:=by
  unfold Br;rw[List.length_map,<-(Gf i he).1];exact(Gf i he).2
 obtain⟨n,hn,hn2⟩:=LF (l:=lF (Br c f i)) h1 ((Br c f i).length-1) (fun k hk=>by
  unfold lF;rw[Ia oM]
  exact(hall _ (gD _)).1)
 exact⟨by rw[(QR (op:=i.op) hn).1];exact hn2,Yv fun l hl=>(hall l hl).2⟩
theorem JN{l:List Int}(h:∀y∈l,AH y):AH (l.headD 0):=by
 cases l with
 |nil=>exact JM
 |cons y l=>exact h y sM
theorem st_ok{c:Cd}{f:Fr}(ok:KK c f){r:Int}{h:Hd}(hp:∀y∈h.pats,AH y)(hl:h.pats.length<=4096)(hw:0<=h.whole/\h.whole<=2147483647):KK c (Kt c f r h):=by
 unfold Kt;split
 .exact⟨Cs ok.nums (JN hp),ok.whs,ok.vecs,ok.vecsL,ok.slotsL,ok.slots⟩
 .split
  .exact⟨ok.nums,Cs (Q:=fun y:Int=>0<=y/\y<=2147483647) ok.whs hw,ok.vecs,ok.vecsL,ok.slotsL,ok.slots⟩
  .exact⟨ok.nums,ok.whs,Cs (Q:=fun l:List Int=>∀y∈l,AH y) ok.vecs hp,Cs (Q:=fun l:List Int=>l.length<=4096) ok.vecsL hl,ok.slotsL,ok.slots⟩
theorem XQ{c:Cd}{f:Fr}{r:Int}(hr:0<=r){h:Hd}(hl:(Aa c.regs r).kind=3->h.pats.length=lenOf c (Aa c.regs r).par){k:Nat}(hk:k≠r.toNat->DT c f k):DT c (Kt c f r h) k:=by
 intro h3;by_cases e:k=r.toNat
 .have e2:(k:Int)=r:=oM;rw[e2]at h3 |-;unfold Kt;rw[if_neg oM,if_neg oM];simp only;rw[e,Bx];exact hl h3
 .have:=hk e h3;unfold Kt;split
  .exact this
  .split
   .exact this
   .simp only;rw[By _ _ e];exact this
theorem Da{op:Int}(h:Al op=true):Dk op=true\/Bj op=true\/op=29\/op=30\/op=31\/op=32\/op=33\/(34<=op/\op<=37)\/Bq op=true:=by
 unfold Al at h;unfold Dk Bj Bq;simp only[Bool.and_eq_true,Bool.or_eq_true,decide_eq_true_eq,beq_iff_eq]at h |-;omega
theorem Va{op:Int}(h:Bq op=true):Dk op=false/\Bj op=false/\op≠29/\op≠30/\op≠31/\op≠32/\op≠33/\¬ (34<=op/\op<=37):=by
 unfold Bq at h;simp only[Bool.and_eq_true,decide_eq_true_eq]at h;exact Zcw
theorem Uy{op:Int}(h:Bj op=true):Dk op=false/\op≠29/\op≠30/\op≠31/\op≠32/\op≠33/\¬ (34<=op/\op<=37):=by
 unfold Bj at h;simp only[Bool.or_eq_true,Bool.and_eq_true,beq_iff_eq,decide_eq_true_eq]at h;have:op=2\/op=18\/op=21\/op=22\/op=23\/op=24\/op=25\/op=26\/op=27\/op=28:=oM;rcases this with rfl|rfl|rfl|rfl|rfl|rfl|rfl|rfl|rfl|rfl<;>decide
section
variable {c : Cd} {G P : List (List Int)} {f : Fr} {i : Ad}
theorem Cc(h:Dk i.op=true):D1 c G P f i={f with nums:=Fl f.nums i.d.toNat (Lh f i)}:=by unfold D1;rw[if_pos h]
theorem Bp(h:Bj i.op=true):D1 c G P f i={f with whs:=Fl f.whs i.d.toNat (ER f i)}:=by
 unfold D1;rw[(Uy h).1,if_neg dE,if_pos h]
theorem CI(h:i.op=29):D1 c G P f i={f with vecs:=Fl f.vecs i.d.toNat (BJ c G i)}:=by
 unfold D1;rw[h,if_neg dE,if_neg dE,if_pos rfl]
theorem CJ(h:i.op=30):D1 c G P f i={f with vecs:=Fl f.vecs i.d.toNat (BJ c P i)}:=by
 unfold D1;rw[h,if_neg dE,if_neg dE,if_neg dE,if_pos rfl]
theorem D7(h:i.op=31):D1 c G P f i={f with outs:=W7 f.outs (Aa c.regs i.a).par.toNat (AI c (Aa c.regs i.a).par) i.n.toNat (f.vecs i.a.toNat)}:=by
 unfold D1;rw[h,if_neg dE,if_neg dE,if_neg dE,if_neg dE,if_pos rfl]
theorem CK(h:i.op=32):D1 c G P f i=Kt c f i.d ((f.slots[i.n.toNat]?).getD ⟨[],0⟩):=by
 unfold D1;rw[h,if_neg dE,if_neg dE,if_neg dE,if_neg dE,if_neg dE,if_pos rfl]
theorem CM(h:i.op=33):D1 c G P f i={f with slots:=f.slots.set i.n.toNat (C2 c f i.a)}:=by
 unfold D1;rw[h,if_neg dE,if_neg dE,if_neg dE,if_neg dE,if_neg dE,if_neg dE,if_pos rfl]
theorem AM(h:34<=i.op/\i.op<=37):D1 c G P f i=f:=by
 have h0:Dk i.op=false/\Bj i.op=false:=by
  have:i.op=34\/i.op=35\/i.op=36\/i.op=37:=oM;rcases this with e|e|e|e<;>rw[e]<;>decide
 unfold D1;rw[h0.1,h0.2,if_neg dE,if_neg dE,if_neg oM,if_neg oM,if_neg oM,if_neg oM,if_neg oM,if_pos h]
theorem Bt(h:Bq i.op=true):D1 c G P f i=EU c f i:=by
 obtain⟨h1,h2,h3,h4,h5,h6,h7,h8⟩:=Va h;unfold D1;rw[h1,h2,if_neg dE,if_neg dE,if_neg h3,if_neg h4,if_neg h5,if_neg h6,if_neg h7,if_neg h8]
end
theorem Zv{f:Fr}{c:Cd}(ok:KK c f){i:Ad}(hb:AH i.bits):AH (Lh f i):=by
 unfold Lh;refine BG (YU _ _ (ok.nums _).1 (ok.nums _).2) (BG (Ve _) (BG (Za _ _ (CS (ok.vecs _))) (BG (PK _ _ (CS (ok.vecs _))) hb)))
theorem G3(b:Bool):0<=BI b/\BI b<=2147483647:=by cases b<;>decide
theorem Eb{p:Prop}[Decidable p]{x y:Int}(h:p->0<=x/\x<=2147483647)(k:¬p->0<=y/\y<=2147483647):0<=(if p then x else y)/\(if p then x else y)<=2147483647:=by
 split
 .rename_i e;exact h e
 .rename_i e;exact k e
theorem Y5{f:Fr}{c:Cd}(ok:KK c f){i:Ad}(hw:Bj i.op=true)(hn:i.op=2->0<=i.n/\i.n<=2147483647):0<=ER f i/\ER f i<=2147483647:=by
 have a:=ok.whs i.a.toNat;have b:=ok.whs i.b.toNat;have d:=ok.whs i.c.toNat;unfold Bj at hw;simp only[Bool.or_eq_true,Bool.and_eq_true,beq_iff_eq,decide_eq_true_eq]at hw;unfold ER;refine Eb (fun _=>G3 _) fun h1=>Eb (fun _=>by omega) fun h2=>Eb (fun _=>G3 _) fun h3=>Eb (fun _=>G3 _) fun h4=>Eb (fun _=>G3 _) fun h5=>Eb (fun _=>G3 _) fun h6=>Eb (fun _=>Eb (fun _=>d) fun _=>b) fun h7=>Eb (fun _=>by omega) fun h8=>Eb (fun _=>Eb (fun _=>by decide) fun _=>⟨Int.ediv_nonneg a.1 b.1,?_⟩) fun h9=>hn oM;have:=Int.ediv_le_self (f.whs i.b.toNat) a.1;omega
theorem do_ok{c:Cd}{G P:List (List Int)}{f:Fr}{i:Ad}(hg:Good c)(ok:KK c f)(hk:Al i.op=true)(hb:AH i.bits)(nd:Dy c f i)(fg:F5 c G)(fp:F5 c P):KK c (D1 c G P f i):=by
 have pl:∀L:List (List Int),F5 c L->(∀y∈BJ c L i,AH y)/\(BJ c L i).length<=4096:=fun L hL=>by
  refine⟨fun y hy=>?_,by unfold BJ;simp only[List.length_map,List.length_range];exact hg.lenOf _⟩;unfold BJ at hy;simp only[List.mem_map]at hy;obtain⟨k,_,rfl⟩:=hy;refine Do _ (CS ?_ _);unfold EK;cases e:L[(Aa c.regs i.d).par.toNat]? with
  |none=>intro y hy;cases hy
  |some l=>exact hL.isP l (List.mem_of_getElem? e)
 rcases Da hk with h|h|h|h|h|h|h|h|h
 .rw[Cc h];exact⟨Cs ok.nums (Zv ok hb),ok.whs,ok.vecs,ok.vecsL,ok.slotsL,ok.slots⟩
 .rw[Bp h];exact⟨ok.nums,Cs (Q:=fun y:Int=>0<=y/\y<=2147483647) ok.whs (Y5 ok h (nd.whole h).2.2.2.2.2.2),ok.vecs,ok.vecsL,ok.slotsL,ok.slots⟩
 .rw[CI h];exact⟨ok.nums,ok.whs,Cs (Q:=fun l:List Int=>∀y∈l,AH y) ok.vecs (pl G fg).1,Cs (Q:=fun l:List Int=>l.length<=4096) ok.vecsL (pl G fg).2,ok.slotsL,ok.slots⟩
 .rw[CJ h];exact⟨ok.nums,ok.whs,Cs (Q:=fun l:List Int=>∀y∈l,AH y) ok.vecs (pl P fp).1,Cs (Q:=fun l:List Int=>l.length<=4096) ok.vecsL (pl P fp).2,ok.slotsL,ok.slots⟩
 .rw[D7 h];exact⟨ok.nums,ok.whs,ok.vecs,ok.vecsL,ok.slotsL,ok.slots⟩
 .rw[CK h];obtain⟨d0,d1,n0,n1,ht⟩:=nd.load h;have hn:i.n.toNat<c.slots.length:=oM;have hn2:i.n.toNat<f.slots.length:=by rw[ok.slotsL];exact hn
  have hh:=ok.slots i.n.toNat hn hn2;rw[gB hn2,Option.getD_some];exact st_ok ok hh.2.1 (by rw[hh.1];exact hg.width _) hh.2.2
 .rw[CM h];obtain⟨a0,a1,n0,n1,ht,hs⟩:=nd.store h;have hh:=Ws hg ok a0 a1 hs;refine⟨ok.nums,ok.whs,ok.vecs,ok.vecsL,by simp[ok.slotsL],fun j h1 h2=>?_⟩;simp only[List.getElem_set];split
  .rename_i e;subst e;have:Cw c.slots i.n=c.slots[i.n.toNat].ty:=by unfold Cw;rw[gB h1];rfl
   rw[<-this,ht];exact hh
  .exact ok.slots j h1 (by simpa using h2)
 .rw[AM h];exact ok
 .rw[Bt h];obtain⟨d0,d1,a1,_⟩:=nd.elem h;unfold EU;by_cases h2:(Aa c.regs i.d).kind=2
  .rw[if_pos h2];exact⟨ok.nums,Cs (Q:=fun y:Int=>0<=y/\y<=2147483647) ok.whs (ok.whs _),ok.vecs,ok.vecsL,ok.slotsL,ok.slots⟩
  .rw[if_neg h2];obtain⟨s1,s2⟩:=Fa hg ok h nd h2;have hw:=hg.width (Aa c.regs i.d);refine st_ok ok ?_ ?_ ⟨Int.le_refl _,by show(0:Int)<=2147483647;decide⟩
   .intro y hy;dsimp only at hy;split at hy
    .unfold DU at hy;rw[List.eq_of_mem_replicate hy];exact Do _ (JN s2)
    .exact s2 y hy
   .dsimp only;split
    .unfold DU;rw[List.length_replicate];exact hw
    .omega
theorem V4{c:Cd}{G P:List (List Int)}{f:Fr}{i:Ad}(hg:Good c)(ok:KK c f)(hk:Al i.op=true)(nd:Dy c f i){r:Nat}(hr:((A4 i.op).d=0\/r≠i.d.toNat)->DT c f r):DT c (D1 c G P f i) r:=by
 have pl:∀L:List (List Int),(BJ c L i).length=lenOf c (Aa c.regs i.d).par:=fun L=>by unfold BJ;simp
 have other:∀ (f':Fr),f'.vecs=f.vecs->((A4 i.op).d≠0->(Aa c.regs i.d).kind≠3/\0<=i.d)->DT c f' r:=fun f' hv hk3 h3=>by
  rw[hv];refine hr ?_ h3;by_cases e:(A4 i.op).d=0
  .exact .inl e
  .refine .inr fun e2=>(hk3 e).1 ?_;have:=(hk3 e).2;have e3:(r:Int)=i.d:=oM;rw[e3]at h3;exact h3
 have vec:∀L:List (List Int),0<=i.d->(A4 i.op).d≠0->DT c {f with vecs:=Fl f.vecs i.d.toNat (BJ c L i)} r:=fun L h0 hd h3=>by
  by_cases e:r=i.d.toNat
  .have e3:(r:Int)=i.d:=oM;rw[e3];show(Fl f.vecs i.d.toNat (BJ c L i) r).length=_;rw[e,Bx,pl]
  .show(Fl f.vecs i.d.toNat (BJ c L i) r).length=_;rw[By _ _ e];exact hr (.inr e) h3
 rcases Da hk with h|h|h|h|h|h|h|h|h
 .rw[Cc h];exact other _ rfl fun _=>⟨by rw[(nd.num h).2.2.2.2];decide,(nd.num h).1⟩
 .rw[Bp h];exact other _ rfl fun _=>⟨by rw[(nd.whole h).2.2.2.2.2.1];decide,(nd.whole h).1⟩
 .rw[CI h];exact vec G (nd.part (.inl h)).r0 (by rw[h];decide)
 .rw[CJ h];exact vec P (nd.part (.inr h)).r0 (by rw[h];decide)
 .rw[D7 h];exact other _ rfl fun e=>absurd (by rw[h];decide) e
 .rw[CK h];obtain⟨d0,d1,n0,n1,ht⟩:=nd.load h;have hn:i.n.toNat<c.slots.length:=oM;have hn2:i.n.toNat<f.slots.length:=by rw[ok.slotsL];exact hn
  have hh:=ok.slots i.n.toNat hn hn2;rw[gB hn2,Option.getD_some];refine XQ d0 (fun h3=>?_) fun e=>hr (.inr e);have:Cw c.slots i.n=c.slots[i.n.toNat].ty:=by unfold Cw;rw[gB hn];rfl
  rw[hh.1,<-this,ht];exact(DC hg d0 d1 h3).2
 .rw[CM h];exact other _ rfl fun e=>absurd (by rw[h];decide) e
 .rw[AM h];refine hr (.inl ?_);have:i.op=34\/i.op=35\/i.op=36\/i.op=37:=oM;rcases this with e|e|e|e<;>rw[e]<;>decide
 .rw[Bt h];obtain⟨d0,d1,a1,_⟩:=nd.elem h;unfold EU;by_cases h2:(Aa c.regs i.d).kind=2
  .rw[if_pos h2];exact other _ rfl fun _=>⟨by rw[h2];decide,d0⟩
  .rw[if_neg h2];obtain⟨s1,s2⟩:=Fa hg ok h nd h2;refine XQ d0 (fun h3=>?_) fun e=>hr (.inr e);have hw:=(DC hg d0 d1 h3)
   dsimp only;rw[hw.2]at s1 |-;split
   .unfold DU;rw[List.length_replicate];exact hw.2
   .omega
def Pa(c:Cd)(s:Wk)(f:Fr)(k:Nat):Prop:=
 (k=0/\∀r∈s.set,DT c f r)\/(∃pre b rest,s.opens=pre++b::rest/\b.loop=false/\k=(pre.filter fun x=> !x.loop).length+1/\∀r∈s.set.take b.ahead,DT c f r)
theorem Q7:∀ {pre:List Bk} {b:Bk} {rest:List Bk} {n:Nat},okO n (pre++b::rest)->b.ahead<=n/\∀p∈pre,b.ahead<=p.ahead
 |[],b,rest,n,h=>⟨h.1,fun p hp=>by cases hp⟩
 |q::pre,b,rest,n,h=>by
  obtain⟨h1,h2⟩:=Q7 h.2;refine⟨gH h1 h.1,fun p hp=>?_⟩;rcases List.mem_cons.1 hp with e|e
  .rw[e];exact h1
  .exact h2 p e
theorem GN{s:Wk}{i:Ad}{r:Rw}(h:r.d=0):Cf s i r=s:=by unfold Cf;rw[if_neg (fun e=>e.1 h)]
theorem QH{s:Wk}{i:Ad}(h1:i.op≠34)(h2:i.op≠35)(h3:i.op≠36)(h4:i.op≠37):Bv s i=s:=by
 unfold Bv;rw[if_neg oM,if_neg oM]
theorem Rm{s:Wk}{i:Ad}{r:Rw}{x:Nat}(h:x∈(Cf s i r).set):x∈s.set\/(r.d≠0/\x=i.d.toNat):=by
 unfold Cf at h;split at h
 .rename_i e;rcases List.mem_append.1 h with h|h
  .exact .inl h
  .simp at h;exact .inr ⟨e.1,h⟩
 .exact .inl h
theorem Nn{s:Wk}{i:Ad}{r:Rw}{n:Nat}(h:n<=s.set.length):(Cf s i r).set.take n=s.set.take n/\(Cf s i r).opens=s.opens:=by
 unfold Cf;split
 .exact⟨List.take_append_of_le_length h,rfl⟩
 .exact⟨rfl,rfl⟩
theorem Nf{s:Wk}{i:Ad}(h:i.op=34):Aj s i=⟨s.set,⟨false,i.n,s.set.length⟩::s.opens⟩:=by
 unfold Aj Dd;rw[GN (by rw[h];rfl)];unfold Bv;rw[if_pos (.inl h),h];rfl
theorem Ni{s:Wk}{i:Ad}(h:i.op=36):Aj s i=⟨s.set,⟨true,i.n,s.set.length⟩::s.opens⟩:=by
 unfold Aj Dd;rw[GN (by rw[h];rfl)];unfold Bv;rw[if_pos (.inr h),h];rfl
theorem ID{s:Wk}{i:Ad}(h:i.op=35\/i.op=37):Aj s i=AQ s:=by
 unfold Aj Dd;rw[GN Zho];unfold Bv;rw[if_neg oM,if_pos h]
theorem Fy{s:Wk}{i:Ad}(h1:i.op≠34)(h2:i.op≠35)(h3:i.op≠36)(h4:i.op≠37):Aj s i=Cf s i (A4 i.op):=by
 unfold Aj Dd;rw[QH h1 h2 h3 h4]
theorem LH{s:Wk}{r:Nat}(h:r∈(AQ s).set):r∈s.set:=by
 unfold AQ at h;split at h
 .dsimp only at h;split at h
  .exact h
  .exact List.mem_of_mem_take h
 .exact h
theorem Rr{c:Cd}{G P:List (List Int)}{s:Wk}{f:Fr}{k:Nat}{i:Ad}(hg:Good c)(oks:E5 c.regs.length s)(t:AG c s i=true)(ok:KK c f)(hb:AH i.bits)(fg:F5 c G)(fp:F5 c P)(sk:Pa c s f k):
 KK c (AK c G P (f,k) i).1/\Pa c (Aj s i) (AK c G P (f,k) i).1 (AK c G P (f,k) i).2:=by
 obtain⟨hkn,_,hst,_⟩:=Ao t;rcases sk with⟨rfl,hs⟩|⟨pre,b,rest,ho,hbl,rfl,hs⟩
 .have nd:=Rq t hs;have hdo:KK c (D1 c G P f i):=do_ok hg ok hkn hb nd fg fp;by_cases h34:i.op=34
  .rw[Nf h34];by_cases hz:f.whs i.a.toNat=0
   .have e:AK c G P (f,0) i=(f,1):=by
     unfold AK;rw[if_neg oM,if_pos ⟨h34,.inr hz⟩]
    rw[e];refine⟨ok,.inr ⟨[],⟨false,i.n,s.set.length⟩,s.opens,rfl,rfl,rfl,fun r hr=>hs r ?_⟩⟩;exact List.mem_of_mem_take hr
   .have e:AK c G P (f,0) i=(f,0):=by
     unfold AK;rw[if_neg oM,if_neg (by simp[hz]),if_pos rfl,AM oM]
    rw[e];exact⟨ok,.inl ⟨rfl,hs⟩⟩
  .have e:AK c G P (f,0) i=(D1 c G P f i,0):=by
    unfold AK;rw[if_neg oM,if_neg oM,if_pos rfl]
   rw[e];refine⟨hdo,.inl ⟨rfl,fun r hr=>?_⟩⟩;by_cases h35:i.op=35\/i.op=37
   .rw[ID h35]at hr;rw[AM oM];exact hs r (LH hr)
   .by_cases h36:i.op=36
    .rw[Ni h36]at hr;rw[AM oM];exact hs r hr
    .rw[Fy h34 oM h36 oM]at hr;refine V4 hg ok hkn nd fun hr2=>?_;rcases Rm hr with h|⟨h,h'⟩
     .exact hs r h
     .rcases hr2 with q|q
      .exact absurd q h
      .exact absurd h' q
 .obtain⟨hah,hpre⟩:=Q7 (by have:=oks.opens;rw[ho]at this;exact this);obtain⟨K,hK⟩:=gA ((pre.filter fun x=> !x.loop).length)
  rw[hK];by_cases h34:i.op=34
  .have e:AK c G P (f,K+1) i=(f,K+2):=by
    unfold AK;rw[if_neg oM,if_pos ⟨h34,.inl (by show 0<K+1;omega)⟩]
   rw[e,Nf h34];refine⟨ok,.inr ⟨⟨false,i.n,s.set.length⟩::pre,b,rest,by rw[ho];rfl,hbl,?_,hs⟩⟩;rw[List.filter_cons_of_pos rfl,List.length_cons,hK]
  .by_cases h35:i.op=35
   .have e:AK c G P (f,K+1) i=(f,K):=by
     unfold AK;rw[if_pos ⟨by show 0<K+1;omega,h35⟩];rfl
    rw[e,ID (.inl h35)];refine⟨ok,?_⟩;have hnl:AD s=false:=by
     exact Zft
    unfold AD at hnl;unfold AQ;rw[ho]at hnl |-;cases pre with
    |nil=>
     simp only[List.nil_append]at hnl |-;simp at hK;refine .inl ⟨hK.symm,fun r hr=>hs r ?_⟩;rw[hbl]at hr;simpa using hr
    |cons p pre=>
     simp only[List.cons_append]at hnl |-;have hp:=hpre p sM;refine .inr ⟨pre,b,rest,rfl,hbl,?_,fun r hr=>hs r ?_⟩
     .rw[List.filter_cons_of_pos (by rw[hnl];rfl),List.length_cons]at hK;omega
     .rw[hnl]at hr;simp only[Bool.false_eq_true,if_false,List.take_take]at hr;rw[Nat.min_eq_left hp]at hr;exact hr
   .have e:AK c G P (f,K+1) i=(f,K+1):=by
     unfold AK;rw[if_neg oM,if_neg oM,if_neg (by show¬ (K+1=0);omega)]
    rw[e];refine⟨ok,?_⟩;by_cases h36:i.op=36
    .rw[Ni h36];refine .inr ⟨⟨true,i.n,s.set.length⟩::pre,b,rest,by rw[ho];rfl,hbl,?_,hs⟩;rw[List.filter_cons_of_neg sM,hK]
    .by_cases h37:i.op=37
     .rw[ID (.inr h37)];have hnl:AD s=true:=by
       unfold Az at hst;rw[if_neg oM,if_neg oM,if_pos h37]at hst;exact hst
      unfold AD at hnl;unfold AQ;rw[ho]at hnl |-;cases pre with
      |nil=>
       simp only[List.nil_append]at hnl;rw[hbl]at hnl;cases hnl
      |cons p pre=>
       simp only[List.cons_append]at hnl |-;refine .inr ⟨pre,b,rest,rfl,hbl,?_,fun r hr=>hs r ?_⟩
       .rw[List.filter_cons_of_neg (by rw[hnl];decide)]at hK;omega
       .rw[hnl]at hr;simpa using hr
     .rw[Fy h34 h35 h36 h37];obtain⟨h1,h2⟩:=Nn (i:=i) (r:=A4 i.op) hah;exact .inr ⟨pre,b,rest,by rw[h2];exact ho,hbl,by rw[hK],fun r hr=>hs r (by rw[h1]at hr;exact hr)⟩
theorem NQ(c:Cd)(G P:List (List Int))(s:Fr×Nat)(l:List Ad){j:Nat}(hj:j<l.length):UG c G P s (l.take (j+1))=AK c G P (UG c G P s (l.take j)) l[j]:=by
 unfold UG;exact Zfq
theorem VK(c:Cd)(G P:List (List Int))(f:Fr)(K:Nat){i:Ad}(h:i.op=35):AK c G P (f,K+1) i=(f,K):=by
 unfold AK;rw[if_pos ⟨by show 0<K+1;omega,h⟩];rfl
theorem MP(c:Cd)(G P:List (List Int))(f:Fr)(K:Nat){i:Ad}(h:i.op=34)(hz:0<K\/f.whs i.a.toNat=0):AK c G P (f,K) i=(f,K+1):=by
 unfold AK;rw[if_neg oM,if_pos ⟨h,hz⟩]
theorem MQ(c:Cd)(G P:List (List Int))(f:Fr){i:Ad}(h:¬ (i.op=34/\f.whs i.a.toNat=0)):AK c G P (f,0) i=(D1 c G P f i,0):=by
 unfold AK;rw[if_neg (fun e=>absurd e.1 (by show¬0<0;omega)),if_neg (fun e=>h ⟨e.1,e.2.resolve_left (by show¬0<0;omega)⟩),if_pos rfl]
theorem VM(c:Cd)(G P:List (List Int))(f:Fr)(K:Nat){i:Ad}(h1:i.op≠34)(h2:i.op≠35):AK c G P (f,K+1) i=(f,K+1):=by
 unfold AK;rw[if_neg (fun e=>h2 e.2),if_neg (fun e=>h1 e.1),if_neg (by show¬ (K+1=0);omega)]
theorem UV{α:Type}{f:α->List Value}{k bytes:Nat}{t e:TypeId}{z:Value}{i:TypeInfo}(hk:0<k)(hf:∀x,(f x).length=k)(h1:∀x,∀u∈f x,u.oneCell'=true)(ht:prog.underlying t=some (.slice e))(hi:prog.info? e=some i)(hz:i.zero=some z)(hsize:i.size=k)(hby:i.bytes=bytes)(hzs:z.cells.size=k)
 {l:List α} {p:Option Addr} {d:Nat} {w:World} (h:AV k f w (.slice p l.length d) l) (hl:l.length<=maxLen) (hb:l.length*bytes<=140737488355328) (ty:TypeId):
 ∃p' c' w',(Builtin.append_ #[t,t] ty #[.slice (some ⟨w.heap.size,0,none⟩) 0 0,.slice p l.length d]).run prog (w.alloc (.cells #[] e))=.ok (.slice p' l.length c') w'/\Below w.heap.size w w'/\F6 (fun b=>b<w.heap.size) k f w' (.slice p' l.length c') l/\w'.ownsRow w.heap.size e k (.slice p' l.length c') l.length (Au f l):=by
 have hown0:(w.alloc (.cells #[] e)).ownsRow w.heap.size e k (.slice (some ⟨w.heap.size,0,none⟩) 0 0) 0 []:=⟨sM,.inr ⟨w.heap.size,0,#[],rfl,gF _,heap_alloc_new w _,gF _,mL,sM,sM⟩⟩
 by_cases h0:l=[]
 .subst h0;refine⟨some ⟨w.heap.size,0,none⟩,0,w.alloc (.cells #[] e),?_,A0 _ _,⟨_,_,rfl,.inl rfl⟩,by simpa[Au]using hown0⟩;exact Zdm
 .have h':=h.below (A0 w (.cells #[] e));obtain⟨p',c',hv,h2⟩:=h';simp only[Value.slice.injEq]at hv;obtain⟨rfl,-,rfl⟩:=hv;obtain⟨b,o,rfl,h3⟩:=h2.resolve_left h0;clear h2;have hpos:0<l.length:=List.length_pos_iff.2 h0;obtain⟨g,cap,w',hr,hown,hg,hat,hlt⟩:=run_append_lies (P:=prog) (w.alloc (.cells #[] e)) t ty w.heap.size e i z k bytes ht hi hz hsize hby hzs hk (.slice (some ⟨w.heap.size,0,none⟩) 0 0) 0 [] hown0 ⟨b,o,none⟩ l.length d (Au f l) (Dz hf l) (M8 hk hf h3) Zhf hpos oM (by rw[Nat.zero_add];exact hb) sM _ rfl;rw[Nat.zero_add]at hr hown;rw[List.nil_append]at hown;have hgb:∀g',(Value.slice (some ⟨g,0,none⟩) l.length cap).ownBlock=some g'->w.heap.size<=g':=fun g' e=>(hown.lt g' e).1;refine⟨_,cap,w',hr,⟨hg.os,hg.tape,hg.output,gH sM hg.size,fun j hj=>(hg.block j sO (by show some j≠some w.heap.size;simp;omega)).trans ((A0 w (.cells #[] e)).block j hj)⟩,?_,hown⟩;obtain⟨q,cc,hq,hrow⟩:=Dv hf hown;simp only[Value.slice.injEq]at hq;obtain⟨rfl,-,rfl⟩:=hq;refine⟨_,_,rfl,hrow.imp id fun⟨b',o',hp,hh⟩=>⟨b',o',hp,?_,?_,hh⟩⟩
  .simp only[Option.some.injEq,Addr.mk.injEq]at hp;have:=hgb g rfl;omega
  .simp only[Option.some.injEq,Addr.mk.injEq]at hp;have:=(hown.lt g rfl).2;omega
theorem SP(v:Value)(l:List BM)(w:World)(h:AV 3 AY w v l)(hl:l.length<=1000000):
 Calls prog 18 #[v] w fun e w'=>∃p c,e=.returned (.slice p l.length c)/\F6 (fun b=>b<w.heap.size) 3 AY w' (.slice p l.length c) l/\w'.ownsRow w.heap.size 67 3 (.slice p l.length c) l.length (Au AY l)/\Below w.heap.size w w':=by
 obtain⟨i0,hi0,hz0,hz1,hz2⟩:=info_parts PI;have hv:=h;obtain⟨p,c,rfl,hh⟩:=h;cases p with
 |none=>
  have hn:l=[]:=by
   rcases hh with e|⟨b,o,e,_⟩
   .exact e
   .cases e
  subst hn;clear hh hv;have heq:∀ (w:World) (n:Nat),(binOp .eql 22 (.slice none n c) (.slice none 0 0)).run prog w=.ok (.bool true) w:=fun w n=>Go.run_eql_slice_nil w _ _ none n c underlying22;go_enter func18,ntmps18;go_wp2;go_ret;exact⟨none,0,rfl,⟨_,_,rfl,.inl rfl⟩,World.ownsRow_nil _ _ _ _,BZ _⟩
 |some ad=>
  obtain⟨p',c',w',hr,hb,hrow,hown⟩:=UV dE Hm Wb underlying22 hi0 hz0 hz1 hz2 rfl hv mL oM 22;have HF:Hid (F6 (fun b=>b<w.heap.size) 3 AY w' (.slice p' l.length c') l/\w'.ownsRow w.heap.size 67 3 (.slice p' l.length c') l.length (Au AY l)/\Below w.heap.size w w'):=⟨hrow,hown,hb⟩
  obtain⟨n,hn⟩:=gA (l.length)
  rw[hn]at hr HF |-;clear hh hv hb hrow hown hn;have heq:∀ (w:World),(binOp .eql 22 (.slice (some ad) n c) (.slice none 0 0)).run prog w=.ok (.bool false) w:=fun w=>Go.run_eql_slice_nil w _ _ (some ad) n c underlying22;go_enter func18,ntmps18;go_wp2_with(at_builtin;refine AO rfl _ _ 22 rfl _ _ _ rfl rfl hr ?_);go_ret;exact⟨p',c',rfl,HF.out⟩
theorem Ez{c:Cd}(h:(Ai c).1=0):Good c/\AR c ⟨[],[]⟩ c.list=true:=by
 obtain⟨h1,h2,_⟩:=Bi.1 h;refine⟨?_,h2⟩;unfold CG at h1;by_cases e1:B0 c.sign=0
 .rw[if_neg (by simp[e1])]at h1;by_cases e2:16384<c.regs.length\/32768<c.list.length
  .rw[if_pos e2]at h1;cases h1
  .rw[if_neg e2]at h1;by_cases e3:4096<c.slots.length
   .rw[if_pos e3]at h1;cases h1
   .rw[if_neg e3]at h1;by_cases e4:(Ax c&&BK c)=true
    .simp only[Bool.and_eq_true]at e4;have e5:¬c.sign.length>64/\c.sign.all BP=true:=by
      unfold B0 at e1;by_cases q1:c.sign.length>64
      .rw[if_pos q1]at e1;cases e1
      .rw[if_neg q1]at e1;refine⟨q1,?_⟩;cases q2:c.sign.all BP with
       |true=>rfl
       |false=>rw[if_pos q2]at e1;cases e1
     have hm:∀p∈c.sign,BP p=true:=List.all_eq_true.1 e5.2;refine⟨fun p hp=>?_,hm,List.all_eq_true.1 e4.1,List.all_eq_true.1 e4.2,oM,oM,oM,oM⟩;have:=hm p hp;unfold BP at this;simp only[Bool.and_eq_true,decide_eq_true_eq]at this;omega
    .rw[if_neg e4]at h1;cases h1
 .rw[if_pos e1]at h1;exact absurd h1 e1
theorem Nw{c:Cd}(hg:Good c){s:Sl}(hs:s∈c.slots)(hb:AH s.bits):P6 c s.ty (Bf c s):=by
 have hm:=hg.slots s hs;unfold Be at hm;simp only[Bool.and_eq_true]at hm;have hb2:=hm.2;unfold EN at hb2;refine⟨by unfold Bf DU;simp,fun y hy=>?_,?_⟩
 .unfold Bf DU at hy;rw[List.eq_of_mem_replicate hy];exact Do _ hb
 .show 0<=s.int_/\s.int_<=2147483647;split at hb2
  .unfold Du at hb2;simp only[Bool.and_eq_true,decide_eq_true_eq,beq_iff_eq]at hb2;exact hb2.2
  .simp only[Bool.and_eq_true,beq_iff_eq]at hb2;omega
theorem Mg{c:Cd}{k:Nat}(h:k<(BE c).length)(h':k<c.slots.length):(BE c)[k]=Bf c c.slots[k]:=by simp[BE]
section
variable {w W1 : World} {FR n C : Nat} {sv gv pv : Value}
end
def Ye(c:Cd)(l:List Hd):Nat->List Hd
 |0=>l
 |j+1=>match c.slots[j]? with
  |some s=>if s.keep then Ye c l j else(Ye c l j).set j (Bf c s)
  |none=>Ye c l j
def BY(c:Cd)(l:List Hd):Fr:=⟨fun _=>0,fun _=>0,fun _=>[],Ye c l c.slots.length,fun _ _=>0⟩
def EO(c:Cd)(l:List Hd)(G P:List (List Int)):Fr:=(UG c G P (BY c l,0) c.list).1
theorem GZ(c:Cd)(l:List Hd):∀j,(Ye c l j).length=l.length
 |0=>rfl
 |j+1=>by
  unfold Ye;split
  .split
   .exact GZ c l j
   .rw[List.length_set];exact GZ c l j
  .exact GZ c l j
structure FI(L:List (List Int)):Prop where
 len:L.length<=140737488351232
 lens:∀l∈L,l.length<=140737488351232
 isP:∀l∈L,∀y∈l,AH y
theorem R5{c:Cd}{L:List (List Int)}(h:C8 c.sign (L.map fun l=>l.length)=true)(hk:FI L)(hg:Good c):F5 c L:=by
 have Bl:∀ (ps:List BM) (M:List (List Int)),(∀p∈ps,BP p=true/\1<=p.len)->C8 ps (M.map fun l=>l.length)=true->M.length=ps.length/\∀p (h:p<M.length),(M[p]).length=(ps[p]?).elim 0 O5:=by
  intro ps;induction ps with
  |nil=>intro M _ h;cases M with
   |nil=>exact⟨rfl,fun p h=>absurd h (Nat.not_lt_zero _)⟩
   |cons a M=>simp[C8]at h
  |cons q ps ih=>
   intro M hm h;cases M with
   |nil=>simp[C8]at h
   |cons a M=>
    simp only[List.map_cons,C8,Bool.and_eq_true,decide_eq_true_eq]at h;obtain⟨i1,i2⟩:=ih M (fun p hp=>hm p (by simp[hp])) h.2;refine⟨by simp[i1],fun p hp=>?_⟩;cases p with
    |zero=>
     show a.length=O5 q;unfold O5;omega
    |succ p=>exact i2 p (by simpa using hp)
 obtain⟨k1,k2⟩:=Bl c.sign L (fun p hp=>⟨hg.kind p hp,(hg.len p hp).1⟩) h;exact⟨k1,k2,hk.isP⟩
theorem F7.cellsOf{T:Nat->Prop}{w:World}{v:Value}{L:List (List Int)}(h:F7 T w v L):∃p c,v=.slice p L.length c/\∀i (hi:i<L.length),∃b o q d,p=some ⟨b,o,none⟩/\w.cell? ⟨b,o+i,none⟩=some (.slice q (L[i]).length d)/\Bb w q (L[i]).length (fun j=>.int .u32 (CH L[i] j)):=by
 obtain⟨p,c,hv,hh⟩:=h;refine⟨p,c,hv,fun i hi=>?_⟩;rcases hh with e|⟨b,o,hp,_,_,hh⟩
 .rw[e]at hi;exact absurd hi (Nat.not_lt_zero _)
 .obtain⟨u,h1,h2⟩:=hh i hi;obtain⟨q,d,hq⟩:=h2.len;rw[hq]at h1 h2;exact⟨b,o,q,d,hp,h1,h2.reads.2⟩

def En(c:Array Value)(i:Nat):Value:=(c[i]?).getD (.int .i64 0)
theorem BS(w:World)(c:Array Value)(t:TypeId):(w.alloc (.cells c t)).rowIs w.heap.size t c.size (En c):=World.rowIs_alloc w c t _ (fun i hi=>by unfold En;simp[hi])

def UX(op d a b c n z:Int)(k:Nat):Value:=En #[.int .i64 op,.int .i64 d,.int .i64 a,.int .i64 b,.int .i64 c,.int .i64 n,.int .u32 z] k
end Go.Proofs.YtnbccaicijcklaaGreat
