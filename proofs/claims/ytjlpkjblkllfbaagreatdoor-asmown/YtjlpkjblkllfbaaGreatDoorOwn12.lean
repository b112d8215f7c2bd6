import Derived.Test.YtjlpkjblkllfbaaGreatDoorOwn7
import Derived.Test.YtjlpkjblkllfbaaGreatDoorOwn5
import Derived.Test.YtjlpkjblkllfbaaGreatDoorOwn8
import Derived.Handy
import Derived.Deep.QuietTactic
import Derived.BigQuiet
import Derived.Test.YtjlpkjblkllfbaaGreatDoorOwn1
namespace Go.Proofs.YtjlpkjblkllfbaaGreatDoor
open Go.RowKit Go.Proofs.Tryz
set_option linter.all false
set_option maxRecDepth 100000
set_option maxHeartbeats 16000000
theorem LX(op:Int)(h:AI op=false)(w:World):Calls prog 56 #[.int .i64 op] w fun e w'=>e=.returned (.tuple #[CA ⟨0,0,0,0,0⟩,.bool false])/\Below w.heap.size w w':=by
 have hh:op<1\/37<op:=by unfold AI at h;simp at h;omega
 have e1:(op==1)=false:=by have:op≠1:=oM;simpa using this
 have e2:(op==2)=false:=by have:op≠2:=oM;simpa using this
 have e3:(op==3)=false:=by have:op≠3:=oM;simpa using this
 have e4:(op==4)=false:=by have:op≠4:=oM;simpa using this
 have e5:(op==5)=false:=by have:op≠5:=oM;simpa using this
 have e6:(op==6)=false:=by have:op≠6:=oM;simpa using this
 have e7:(op==7)=false:=by have:op≠7:=oM;simpa using this
 have e8:(op==8)=false:=by have:op≠8:=oM;simpa using this
 have e9:(op==9)=false:=by have:op≠9:=oM;simpa using this
 have e10:(op==10)=false:=by have:op≠10:=oM;simpa using this
 have e11:(op==11)=false:=by have:op≠11:=oM;simpa using this
 have e12:(op==12)=false:=by have:op≠12:=oM;simpa using this
 have e13:(op==13)=false:=by have:op≠13:=oM;simpa using this
 have e14:(op==14)=false:=by have:op≠14:=oM;simpa using this
 have e15:(op==15)=false:=by have:op≠15:=oM;simpa using this
 have e16:(op==16)=false:=by have:op≠16:=oM;simpa using this
 have e17:(op==17)=false:=by have:op≠17:=oM;simpa using this
 have e18:(op==18)=false:=by have:op≠18:=oM;simpa using this
 have e19:(op==19)=false:=by have:op≠19:=oM;simpa using this
 have e20:(op==20)=false:=by have:op≠20:=oM;simpa using this
 have e21:(op==21)=false:=by have:op≠21:=oM;simpa using this
 have e22:(op==22)=false:=by have:op≠22:=oM;simpa using this
 have e23:(op==23)=false:=by have:op≠23:=oM;simpa using this
 have e24:(op==24)=false:=by have:op≠24:=oM;simpa using this
 have e25:(op==25)=false:=by have:op≠25:=oM;simpa using this
 have e26:(op==26)=false:=by have:op≠26:=oM;simpa using this
 have e27:(op==27)=false:=by have:op≠27:=oM;simpa using this
 have e28:(op==28)=false:=by have:op≠28:=oM;simpa using this
 have e29:(op==29)=false:=by have:op≠29:=oM;simpa using this
 have e30:(op==30)=false:=by have:op≠30:=oM;simpa using this
 have e31:(op==31)=false:=by have:op≠31:=oM;simpa using this
 have e32:(op==32)=false:=by have:op≠32:=oM;simpa using this
 have e33:(op==33)=false:=by have:op≠33:=oM;simpa using this
 have e34:(op==34)=false:=by have:op≠34:=oM;simpa using this
 have e35:(op==35)=false:=by have:op≠35:=oM;simpa using this
 have e36:(op==36)=false:=by have:op≠36:=oM;simpa using this
 have e37:(op==37)=false:=by have:op≠37:=oM;simpa using this
 clear hh h;exact DP
theorem Fr(op:Int)(h:AI op=false):A5 op=⟨0,0,0,0,0⟩:=by
 have hh:op<1\/37<op:=by unfold AI at h;simp at h;omega
 unfold A5
 repeat rw[if_neg oM]
theorem FX(op:Int)(w:World):Calls prog 56 #[.int .i64 op] w fun e w'=>e=.returned (.tuple #[CA (A5 op),.bool (AI op)])/\Below w.heap.size w w':=by
 by_cases h:AI op=false
 .rw[h,Fr op h];exact LX op h w
 .have hh:1<=op/\op<=37:=by unfold AI at h;simp at h;omega
  rw[show AI op=true by simpa using h];clear h;by_cases k1:op=1
  .subst k1;exact T8 w
  by_cases k2:op=2
  .subst k2;exact Ta w
  by_cases k3:op=3
  .subst k3;exact Td w
  by_cases k4:op=4
  .subst k4;exact Te w
  by_cases k5:op=5
  .subst k5;exact Tg w
  by_cases k6:op=6
  .subst k6;exact Th w
  by_cases k7:op=7
  .subst k7;exact Ti w
  by_cases k8:op=8
  .subst k8;exact Tj w
  by_cases k9:op=9
  .subst k9;exact Tl w
  by_cases k10:op=10
  .subst k10;exact Qz w
  by_cases k11:op=11
  .subst k11;exact QA w
  by_cases k12:op=12
  .subst k12;exact QB w
  by_cases k13:op=13
  .subst k13;exact QC w
  by_cases k14:op=14
  .subst k14;exact QD w
  by_cases k15:op=15
  .subst k15;exact QE w
  by_cases k16:op=16
  .subst k16;exact QF w
  by_cases k17:op=17
  .subst k17;exact QG w
  by_cases k18:op=18
  .subst k18;exact QH w
  by_cases k19:op=19
  .subst k19;exact QI w
  by_cases k20:op=20
  .subst k20;exact QJ w
  by_cases k21:op=21
  .subst k21;exact QK w
  by_cases k22:op=22
  .subst k22;exact QL w
  by_cases k23:op=23
  .subst k23;exact QM w
  by_cases k24:op=24
  .subst k24;exact QN w
  by_cases k25:op=25
  .subst k25;exact QO w
  by_cases k26:op=26
  .subst k26;exact QP w
  by_cases k27:op=27
  .subst k27;exact QQ w
  by_cases k28:op=28
  .subst k28;exact QR w
  by_cases k29:op=29
  .subst k29;exact QS w
  by_cases k30:op=30
  .subst k30;exact QT w
  by_cases k31:op=31
  .subst k31;exact QU w
  by_cases k32:op=32
  .subst k32;exact QV w
  by_cases k33:op=33
  .subst k33;exact QW w
  by_cases k34:op=34
  .subst k34;exact QX w
  by_cases k35:op=35
  .subst k35;exact QY w
  by_cases k36:op=36
  .subst k36;exact QZ w
  by_cases k37:op=37
  .subst k37;exact R0 w
  omega
theorem ID(op:Int)(h:AI op=false)(w:World):Calls prog 64 #[.int .i64 op] w fun e w'=>e=.returned (.tuple #[.string ⟨#[]⟩,.bool false])/\w'=w:=by
 have hh:op<1\/37<op:=by unfold AI at h;simp at h;omega
 have e1:(op==1)=false:=by have:op≠1:=oM;simpa using this
 have e2:(op==2)=false:=by have:op≠2:=oM;simpa using this
 have e3:(op==3)=false:=by have:op≠3:=oM;simpa using this
 have e4:(op==4)=false:=by have:op≠4:=oM;simpa using this
 have e5:(op==5)=false:=by have:op≠5:=oM;simpa using this
 have e6:(op==6)=false:=by have:op≠6:=oM;simpa using this
 have e7:(op==7)=false:=by have:op≠7:=oM;simpa using this
 have e8:(op==8)=false:=by have:op≠8:=oM;simpa using this
 have e9:(op==9)=false:=by have:op≠9:=oM;simpa using this
 have e10:(op==10)=false:=by have:op≠10:=oM;simpa using this
 have e11:(op==11)=false:=by have:op≠11:=oM;simpa using this
 have e12:(op==12)=false:=by have:op≠12:=oM;simpa using this
 have e13:(op==13)=false:=by have:op≠13:=oM;simpa using this
 have e14:(op==14)=false:=by have:op≠14:=oM;simpa using this
 have e15:(op==15)=false:=by have:op≠15:=oM;simpa using this
 have e16:(op==16)=false:=by have:op≠16:=oM;simpa using this
 have e17:(op==17)=false:=by have:op≠17:=oM;simpa using this
 have e18:(op==18)=false:=by have:op≠18:=oM;simpa using this
 have e19:(op==19)=false:=by have:op≠19:=oM;simpa using this
 have e20:(op==20)=false:=by have:op≠20:=oM;simpa using this
 have e21:(op==21)=false:=by have:op≠21:=oM;simpa using this
 have e22:(op==22)=false:=by have:op≠22:=oM;simpa using this
 have e23:(op==23)=false:=by have:op≠23:=oM;simpa using this
 have e24:(op==24)=false:=by have:op≠24:=oM;simpa using this
 have e25:(op==25)=false:=by have:op≠25:=oM;simpa using this
 have e26:(op==26)=false:=by have:op≠26:=oM;simpa using this
 have e27:(op==27)=false:=by have:op≠27:=oM;simpa using this
 have e28:(op==28)=false:=by have:op≠28:=oM;simpa using this
 have e29:(op==29)=false:=by have:op≠29:=oM;simpa using this
 have e30:(op==30)=false:=by have:op≠30:=oM;simpa using this
 have e31:(op==31)=false:=by have:op≠31:=oM;simpa using this
 have e32:(op==32)=false:=by have:op≠32:=oM;simpa using this
 have e33:(op==33)=false:=by have:op≠33:=oM;simpa using this
 have e34:(op==34)=false:=by have:op≠34:=oM;simpa using this
 have e35:(op==35)=false:=by have:op≠35:=oM;simpa using this
 have e36:(op==36)=false:=by have:op≠36:=oM;simpa using this
 have e37:(op==37)=false:=by have:op≠37:=oM;simpa using this
 clear hh h;exact DQ
structure RM(r:Rw)(a b c d e:UInt8):Prop where
 a:(a==45)=(r.d==0)
 b:(b==45)=(r.a==0)
 c:(c==45)=(r.b==0)
 d:(d==45)=(r.c==0)
theorem Ke(op:Int)(w:World):(AI op=false/\Calls prog 64 #[.int .i64 op] w fun e w'=>e=.returned (.tuple #[.string ⟨#[]⟩,.bool false])/\w'=w)\/(AI op=true/\∃a b c d e:UInt8,RM (A5 op) a b c d e/\∀w,Calls prog 64 #[.int .i64 op] w fun x w'=>x=.returned (.tuple #[.string ⟨#[a,b,c,d,e]⟩,.bool true])/\w'=w):=by
 by_cases h:AI op=false
 .exact .inl ⟨h,ID op h w⟩
 .have hh:1<=op/\op<=37:=by unfold AI at h;simp at h;omega
  refine .inr ⟨by simpa using h,?_⟩;clear h;by_cases k1:op=1
  .subst k1;exact⟨_,_,_,_,_,⟨rfl,rfl,rfl,rfl⟩,fun w=>R7 w⟩
  by_cases k2:op=2
  .subst k2;exact⟨_,_,_,_,_,⟨rfl,rfl,rfl,rfl⟩,fun w=>R8 w⟩
  by_cases k3:op=3
  .subst k3;exact⟨_,_,_,_,_,⟨rfl,rfl,rfl,rfl⟩,fun w=>R9 w⟩
  by_cases k4:op=4
  .subst k4;exact⟨_,_,_,_,_,⟨rfl,rfl,rfl,rfl⟩,fun w=>Ra w⟩
  by_cases k5:op=5
  .subst k5;exact⟨_,_,_,_,_,⟨rfl,rfl,rfl,rfl⟩,fun w=>Rb w⟩
  by_cases k6:op=6
  .subst k6;exact⟨_,_,_,_,_,⟨rfl,rfl,rfl,rfl⟩,fun w=>Rc w⟩
  by_cases k7:op=7
  .subst k7;exact⟨_,_,_,_,_,⟨rfl,rfl,rfl,rfl⟩,fun w=>Re w⟩
  by_cases k8:op=8
  .subst k8;exact⟨_,_,_,_,_,⟨rfl,rfl,rfl,rfl⟩,fun w=>Rf w⟩
  by_cases k9:op=9
  .subst k9;exact⟨_,_,_,_,_,⟨rfl,rfl,rfl,rfl⟩,fun w=>Rg w⟩
  by_cases k10:op=10
  .subst k10;exact⟨_,_,_,_,_,⟨rfl,rfl,rfl,rfl⟩,fun w=>MS w⟩
  by_cases k11:op=11
  .subst k11;exact⟨_,_,_,_,_,⟨rfl,rfl,rfl,rfl⟩,fun w=>MT w⟩
  by_cases k12:op=12
  .subst k12;exact⟨_,_,_,_,_,⟨rfl,rfl,rfl,rfl⟩,fun w=>MU w⟩
  by_cases k13:op=13
  .subst k13;exact⟨_,_,_,_,_,⟨rfl,rfl,rfl,rfl⟩,fun w=>MV w⟩
  by_cases k14:op=14
  .subst k14;exact⟨_,_,_,_,_,⟨rfl,rfl,rfl,rfl⟩,fun w=>MX w⟩
  by_cases k15:op=15
  .subst k15;exact⟨_,_,_,_,_,⟨rfl,rfl,rfl,rfl⟩,fun w=>MY w⟩
  by_cases k16:op=16
  .subst k16;exact⟨_,_,_,_,_,⟨rfl,rfl,rfl,rfl⟩,fun w=>MZ w⟩
  by_cases k17:op=17
  .subst k17;exact⟨_,_,_,_,_,⟨rfl,rfl,rfl,rfl⟩,fun w=>N4 w⟩
  by_cases k18:op=18
  .subst k18;exact⟨_,_,_,_,_,⟨rfl,rfl,rfl,rfl⟩,fun w=>N5 w⟩
  by_cases k19:op=19
  .subst k19;exact⟨_,_,_,_,_,⟨rfl,rfl,rfl,rfl⟩,fun w=>N6 w⟩
  by_cases k20:op=20
  .subst k20;exact⟨_,_,_,_,_,⟨rfl,rfl,rfl,rfl⟩,fun w=>N7 w⟩
  by_cases k21:op=21
  .subst k21;exact⟨_,_,_,_,_,⟨rfl,rfl,rfl,rfl⟩,fun w=>N8 w⟩
  by_cases k22:op=22
  .subst k22;exact⟨_,_,_,_,_,⟨rfl,rfl,rfl,rfl⟩,fun w=>N9 w⟩
  by_cases k23:op=23
  .subst k23;exact⟨_,_,_,_,_,⟨rfl,rfl,rfl,rfl⟩,fun w=>Na w⟩
  by_cases k24:op=24
  .subst k24;exact⟨_,_,_,_,_,⟨rfl,rfl,rfl,rfl⟩,fun w=>Nb w⟩
  by_cases k25:op=25
  .subst k25;exact⟨_,_,_,_,_,⟨rfl,rfl,rfl,rfl⟩,fun w=>Nc w⟩
  by_cases k26:op=26
  .subst k26;exact⟨_,_,_,_,_,⟨rfl,rfl,rfl,rfl⟩,fun w=>Nd w⟩
  by_cases k27:op=27
  .subst k27;exact⟨_,_,_,_,_,⟨rfl,rfl,rfl,rfl⟩,fun w=>Nf w⟩
  by_cases k28:op=28
  .subst k28;exact⟨_,_,_,_,_,⟨rfl,rfl,rfl,rfl⟩,fun w=>Ng w⟩
  by_cases k29:op=29
  .subst k29;exact⟨_,_,_,_,_,⟨rfl,rfl,rfl,rfl⟩,fun w=>Nh w⟩
  by_cases k30:op=30
  .subst k30;exact⟨_,_,_,_,_,⟨rfl,rfl,rfl,rfl⟩,fun w=>Ni w⟩
  by_cases k31:op=31
  .subst k31;exact⟨_,_,_,_,_,⟨rfl,rfl,rfl,rfl⟩,fun w=>Nj w⟩
  by_cases k32:op=32
  .subst k32;exact⟨_,_,_,_,_,⟨rfl,rfl,rfl,rfl⟩,fun w=>Nk w⟩
  by_cases k33:op=33
  .subst k33;exact⟨_,_,_,_,_,⟨rfl,rfl,rfl,rfl⟩,fun w=>Nl w⟩
  by_cases k34:op=34
  .subst k34;exact⟨_,_,_,_,_,⟨rfl,rfl,rfl,rfl⟩,fun w=>Nm w⟩
  by_cases k35:op=35
  .subst k35;exact⟨_,_,_,_,_,⟨rfl,rfl,rfl,rfl⟩,fun w=>Nn w⟩
  by_cases k36:op=36
  .subst k36;exact⟨_,_,_,_,_,⟨rfl,rfl,rfl,rfl⟩,fun w=>No w⟩
  by_cases k37:op=37
  .subst k37;exact⟨_,_,_,_,_,⟨rfl,rfl,rfl,rfl⟩,fun w=>Np w⟩
  omega
theorem GF(a:Int)(k:Nat)(hk:k<64)(h0:0<=a)(h1:a<18446744073709551616):bits .and .u64 a ((2^k-1:Nat):Int)=a%((2^k:Nat):Int):=by
 have hp:2^k<2^64:=Nat.pow_lt_pow_right oM hk;have hq:0<2^k:=Nat.two_pow_pos k;obtain⟨n,rfl⟩:=Int.eq_ofNat_of_zero_le h0;rw[u64_and _ _ h0 h1 oM oM,Int.toNat_natCast,Int.toNat_natCast,Nat.and_two_pow_sub_one_eq_mod];rfl
theorem RS(a:Int)(h0:0<=a)(h1:a<18446744073709551616):bits .and .u64 a 255=a%256:=GF a 8 dE h0 h1
theorem Pe(a:Int)(h0:0<=a)(h1:a<18446744073709551616):bits .and .u64 a 8388607=a%8388608:=GF a 23 dE h0 h1
def Vw(a:Int):Bool:=a/2147483648==1
def nM(a:Int):Int:=if a/8388608%256=255 then 0 else if a/8388608%256=0 then a%8388608 else 8388608+a%8388608
def nE(a:Int):Int:=if a/8388608%256=255 then 0 else if a/8388608%256=0 then -149 else a/8388608%256-150
def Ls(a:Int):Bool:=if a/8388608%256=255 then a%8388608==0 else false
def Hu(a:Int):Bool:=if a/8388608%256=255 then a%8388608 != 0 else false
theorem T7(a:Int)(h0:0<=a)(h1:a<4294967296)(w:World):
 Calls prog 133 #[.int .i64 a] w fun e w'=>e=.returned (.agg #[.bool (Vw a),.int .u64 (nM a),.int .i64 (nE a),.bool (Ls a),.bool (Hu a)])/\∃o,w'=(w.alloc o).alloc o:=by
 have e1:=RS (a/8388608) oM oM;have e2:=Pe a h0 oM;by_cases c:a/8388608%256=255
 .have f1:nM a=0:=by unfold nM;rw[if_pos c]
  have f2:nE a=0:=by unfold nE;rw[if_pos c]
  have f3:Ls a=(a%8388608==0):=by unfold Ls;rw[if_pos c]
  have f4:Hu a=(a%8388608 != 0):=by unfold Hu;rw[if_pos c]
  exact WU
 .by_cases c2:a/8388608%256=0
  .have f1:nM a=a%8388608:=by unfold nM;rw[if_neg c,if_pos c2]
   have f2:nE a= -149:=by unfold nE;rw[if_neg c,if_pos c2]
   have f3:Ls a=false:=by unfold Ls;rw[if_neg c]
   have f4:Hu a=false:=by unfold Hu;rw[if_neg c]
   exact WU
  .have f1:nM a=8388608+a%8388608:=by unfold nM;rw[if_neg c,if_neg c2]
   have f2:nE a=a/8388608%256-150:=by unfold nE;rw[if_neg c,if_neg c2]
   have f3:Ls a=false:=by unfold Ls;rw[if_neg c]
   have f4:Hu a=false:=by unfold Hu;rw[if_neg c]
   exact WU
theorem FY(s:ByteArray)(hs:s.size<=maxLen)(w:World):
 Calls prog 35 #[.string s] w fun e w'=>e=.returned (.tuple #[.int .i64 (Ka s.data.toList),.bool (B8 s.data.toList)])/\Below w.heap.size w w':=by
 unfold maxLen at hs;by_cases h8:s.size=8
 .go_enter func35,ntmps35;go_wp2
  go_loopw [4,5] (fun av iv wr=>Below w.heap.size w wr/\∃k:Nat,k<=8/\iv=.int .i64 k/\(∀c∈s.data.toList.take k,BA (c.toNat:Int)=true)/\av=.int .i64 (DZ (s.data.toList.take k))) (fun _ iv _=>8-(intOf iv).toNat)
  case atStart=>exact⟨Below.refl _ _,0,oM,rfl,sM,rfl⟩
  case round=>
   obtain⟨hbel,k,hk,rfl,hall,rfl⟩:=hrel;by_cases hlt:k<8
   .have hks:k<s.size:=oM;have hv:=Jw k (s.data.toList.take k) sO hall;have hv7:(16:Int)^k<=16^7:=by
     exact_mod_cast Nat.pow_le_pow_right oM (show k<=7 by omega)
    have hts:=G0 s k hks;have HT:Hid (s.data.toList.take (k+1)=s.data.toList.take k++[s[k]]):=hts;have HA:Hid (∀c∈s.data.toList.take k,BA (c.toNat:Int)=true):=hall;obtain⟨v,hV⟩:=gA (DZ (s.data.toList.take k))
    rw[hV]at hv |-;have HV:Hid (DZ (s.data.toList.take k)=v):=hV;have hv0:=hv.1;have hv1:v<268435456:=Int.lt_of_lt_of_le hv.2 hv7;clear hts hV hv hv7 hall;have HB:Hid (Below w.heap.size w wr):=hbel;clear hbel;obtain⟨wo,hwo⟩:∃wo:World,wo=wr:=⟨_,rfl⟩
    subst hwo;go_wp2
    go_loopw [6,7] (fun tv jv wr=>Below w.heap.size w wr/\∃j:Nat,j<=16/\jv=.int .i64 j/\tv=.int .i64 (P7 (s[k].toNat:Int) j)) (fun _ jv _=>16-(intOf jv).toNat)
    case atStart=>exact⟨HB.out,0,oM,rfl,by rw[Vm]⟩
    case round=>
     obtain⟨hbel,j,hj,rfl,rfl⟩:=hrel;by_cases hjt:j<16
     .go_wp2
      go_quiet (fail)
      go_wp2
      .have heq:(((Vr[j]'hjt).toNat:Int)==(s[k].toNat:Int))=true:=by assumption
       rw[GM j hjt,beq_iff_eq]at heq;go_roundw
       case rel=>exact⟨hbel.trans ⟨rfl,rfl,rfl,gF _,fun _ _=>rfl⟩,j+1,oM,gN,by rw[RU _ j hjt heq]⟩
       case measure=>simp[intOf];omega
      .have heq:(((Vr[j]'hjt).toNat:Int)==(s[k].toNat:Int))=false:=by assumption
       rw[GM j hjt,beq_eq_false_iff_ne]at heq;go_roundw
       case rel=>exact⟨hbel.trans ⟨rfl,rfl,rfl,gF _,fun _ _=>rfl⟩,j+1,oM,gN,by rw[Pj _ j hjt heq]⟩
       case measure=>simp[intOf];omega
     .obtain rfl:j=16:=oM;cases hx:BA (s[k].toNat:Int)
      .have ha:=NJ _ hx;go_wp2
       go_ret2
       have hg:B8 s.data.toList=false:=Ia _ s[k] (In s k hks) hx;exact⟨Jg (GY _ hg).symm hg.symm,hbel⟩
      .have ha:=KZ _ hx;have hd:=BK _ hx;go_wp2;go_roundw
       case rel=>
        refine⟨hbel,k+1,oM,gN,?_,by rw[HT.out,G3,HV.out]⟩;exact Yh
       case measure=>simp[intOf];omega
   .obtain rfl:k=8:=oM;have hl:s.data.toList.take 8=s.data.toList:=List.take_of_length_le (by simp;exact Nat.le_of_eq h8);rw[hl]at hall |-;have hg:B8 s.data.toList=true:=GL _ (by simpa using h8) hall;clear hall hl;go_wp2
    go_ret2
    exact⟨Jg (Fo _ hg).symm hg.symm,hbel⟩
 .have hg:B8 s.data.toList=false:=Ib _ (by simpa using h8);rw[GY _ hg,hg];have h8':((s.size:Int)==8)=false:=by simpa using by omega
  clear h8 hg;go_enter func35,ntmps35;go_wp2
  go_ret2
  exact⟨rfl,Below.refl _ _⟩

theorem PT(a:Int)(h0:0<=a)(h1:a<4294967296):Hu a=Lv a:=by
 unfold Hu Lv;by_cases c:a/8388608%256=255
 .rw[if_pos c];by_cases d:a%8388608=0
  .have:¬ (2139095040<a%2147483648):=oM;simp[d,this]
  .have:2139095040<a%2147483648:=oM;simp[d,this]
 .rw[if_neg c];have:¬ (2139095040<a%2147483648):=oM;simp[this]
theorem O0(w:World)(v0 v1 v2 v3 v4:Value):(Instr.field 180 (.agg #[v0,v1,v2,v3,v4]) 4).run prog w=.ok v4 w:=by
 simp[Instr.field,run_underlying underlying180,asAgg,part,go_sem]
theorem MK(x:Nat):mv x=0↔rg x=0:=by
 unfold mv;constructor
 .intro h;rw[<-KU 23]at h;exact P9 23 h
 .intro h;rw[h,KU]
theorem Wy(a b:Int)(h0:0<=a)(h1:a<4294967296)(g0:0<=b)(g1:b<4294967296):sv a.toNat=sv b.toNat↔(a=b\/(a%2147483648=0/\b%2147483648=0)):=by
 have hr:=Kc a h0;have hs:=Kc b g0;constructor
 .intro h;obtain⟨e,f⟩:=UW h;rcases f with f|f
  .exact Or.inl (SF h0 h1 g0 g1 e f)
  .right;omega
 .rintro(h|⟨h,k⟩)
  .rw[h]
  .have z1:=(MK a.toNat).2 oM;have z2:=(MK b.toNat).2 oM;unfold sv sg;rw[z1,z2];simp
theorem K8(a:Int)(h0:0<=a)(h1:a<4294967296)(w:World):
 Calls prog 102 #[.int .i64 a] w fun e w'=>e=.returned (.int .i64 (canon a))/\Below w.heap.size w w':=by
 have hf:=O0;unfold canon;rw[<-PT a h0 h1];cases hna:Hu a
 .rw[if_neg dE];exact Y9
 .rw[if_pos rfl];exact Y9
def Gm(S:List Nat)(i:Ax):List Nat:=if(A5 i.op).d≠0/\i.d.toNat∉S then S++[i.d.toNat]else S
theorem Lw:∀ {r:List Bk} {n:Nat},Vc n r->∀b∈r,b.ahead<=n
 |[],_,_,b,hb=>absurd hb sM
 |a::r,n,h,b,hb=>by
  rcases List.mem_cons.1 hb with rfl|hb
  .exact h.1
  .exact gH (Lw h.2 b hb) h.1
theorem Hz{s:Wk}{i:Ax}(h:(A5 i.op).d=0):Jz s i (A5 i.op)=s:=by unfold Jz;rw[if_neg (fun e=>e.1 h)]
theorem MD{S:List Nat}{i:Ax}{x:Nat}:x∈Gm S i↔x∈S\/((A5 i.op).d≠0/\x=i.d.toNat):=by
 unfold Gm;by_cases h:(A5 i.op).d≠0/\i.d.toNat∉S
 .rw[if_pos h,List.mem_append];simp only[List.mem_singleton];exact⟨fun q=>q.imp id fun e=>⟨h.1,e⟩,fun q=>q.imp id fun e=>e.2⟩
 .rw[if_neg h];constructor
  .exact .inl
  .rintro(q|⟨q1,q2⟩)
   .exact q
   .rw[q2];exact Decidable.byContradiction fun e=>h ⟨q1,e⟩
end Go.Proofs.YtjlpkjblkllfbaaGreatDoor
