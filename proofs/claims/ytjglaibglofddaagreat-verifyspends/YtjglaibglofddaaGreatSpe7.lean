import Derived.Test.YtjglaibglofddaaGreatSpe2
import Derived.Test.YtjglaibglofddaaGreatRows
import Derived.WalkKit
import Derived.WalkSpells
import Derived.WalkLawsBesides
import Derived.Test.YtjglaibglofddaaGreatSpe1
namespace Go.Proofs.YtjglaibglofddaaGreat
open Go.RowKit Go.Proofs.Tryz
set_option linter.all false
set_option maxRecDepth 100000
set_option maxHeartbeats 16000000
theorem Um(w:World):Calls prog 48 #[.int .i64 1] w fun e w'=>e=.returned (.tuple #[CM (A5 1),.bool true])/\Below w.heap.size w w':=by
 exact Ea
theorem Uo(w:World):Calls prog 48 #[.int .i64 2] w fun e w'=>e=.returned (.tuple #[CM (A5 2),.bool true])/\Below w.heap.size w w':=by
 exact Ea
theorem Uq(w:World):Calls prog 48 #[.int .i64 3] w fun e w'=>e=.returned (.tuple #[CM (A5 3),.bool true])/\Below w.heap.size w w':=by
 exact Ea
theorem Ur(w:World):Calls prog 48 #[.int .i64 4] w fun e w'=>e=.returned (.tuple #[CM (A5 4),.bool true])/\Below w.heap.size w w':=by
 exact Ea
theorem Us(w:World):Calls prog 48 #[.int .i64 5] w fun e w'=>e=.returned (.tuple #[CM (A5 5),.bool true])/\Below w.heap.size w w':=by
 exact Ea
theorem Ut(w:World):Calls prog 48 #[.int .i64 6] w fun e w'=>e=.returned (.tuple #[CM (A5 6),.bool true])/\Below w.heap.size w w':=by
 exact Ea
theorem Uu(w:World):Calls prog 48 #[.int .i64 7] w fun e w'=>e=.returned (.tuple #[CM (A5 7),.bool true])/\Below w.heap.size w w':=by
 exact Ea
theorem Uv(w:World):Calls prog 48 #[.int .i64 8] w fun e w'=>e=.returned (.tuple #[CM (A5 8),.bool true])/\Below w.heap.size w w':=by
 exact Ea
theorem Uw(w:World):Calls prog 48 #[.int .i64 9] w fun e w'=>e=.returned (.tuple #[CM (A5 9),.bool true])/\Below w.heap.size w w':=by
 exact Ea
theorem R4(w:World):Calls prog 48 #[.int .i64 10] w fun e w'=>e=.returned (.tuple #[CM (A5 10),.bool true])/\Below w.heap.size w w':=by
 exact Ea
theorem R5(w:World):Calls prog 48 #[.int .i64 11] w fun e w'=>e=.returned (.tuple #[CM (A5 11),.bool true])/\Below w.heap.size w w':=by
 exact Ea
theorem R6(w:World):Calls prog 48 #[.int .i64 12] w fun e w'=>e=.returned (.tuple #[CM (A5 12),.bool true])/\Below w.heap.size w w':=by
 exact Ea
theorem R7(w:World):Calls prog 48 #[.int .i64 13] w fun e w'=>e=.returned (.tuple #[CM (A5 13),.bool true])/\Below w.heap.size w w':=by
 exact Ea
theorem R8(w:World):Calls prog 48 #[.int .i64 14] w fun e w'=>e=.returned (.tuple #[CM (A5 14),.bool true])/\Below w.heap.size w w':=by
 exact Ea
theorem R9(w:World):Calls prog 48 #[.int .i64 15] w fun e w'=>e=.returned (.tuple #[CM (A5 15),.bool true])/\Below w.heap.size w w':=by
 exact Ea
theorem Ra(w:World):Calls prog 48 #[.int .i64 16] w fun e w'=>e=.returned (.tuple #[CM (A5 16),.bool true])/\Below w.heap.size w w':=by
 exact Ea
theorem Rb(w:World):Calls prog 48 #[.int .i64 17] w fun e w'=>e=.returned (.tuple #[CM (A5 17),.bool true])/\Below w.heap.size w w':=by
 exact Ea
theorem Rc(w:World):Calls prog 48 #[.int .i64 18] w fun e w'=>e=.returned (.tuple #[CM (A5 18),.bool true])/\Below w.heap.size w w':=by
 exact Ea
theorem Re(w:World):Calls prog 48 #[.int .i64 19] w fun e w'=>e=.returned (.tuple #[CM (A5 19),.bool true])/\Below w.heap.size w w':=by
 exact Ea
theorem Rf(w:World):Calls prog 48 #[.int .i64 20] w fun e w'=>e=.returned (.tuple #[CM (A5 20),.bool true])/\Below w.heap.size w w':=by
 exact Ea
theorem Rg(w:World):Calls prog 48 #[.int .i64 21] w fun e w'=>e=.returned (.tuple #[CM (A5 21),.bool true])/\Below w.heap.size w w':=by
 exact Ea
theorem Rh(w:World):Calls prog 48 #[.int .i64 22] w fun e w'=>e=.returned (.tuple #[CM (A5 22),.bool true])/\Below w.heap.size w w':=by
 exact Ea
theorem Ri(w:World):Calls prog 48 #[.int .i64 23] w fun e w'=>e=.returned (.tuple #[CM (A5 23),.bool true])/\Below w.heap.size w w':=by
 exact Ea
theorem Rj(w:World):Calls prog 48 #[.int .i64 24] w fun e w'=>e=.returned (.tuple #[CM (A5 24),.bool true])/\Below w.heap.size w w':=by
 exact Ea
theorem Rl(w:World):Calls prog 48 #[.int .i64 25] w fun e w'=>e=.returned (.tuple #[CM (A5 25),.bool true])/\Below w.heap.size w w':=by
 exact Ea
theorem Rm(w:World):Calls prog 48 #[.int .i64 26] w fun e w'=>e=.returned (.tuple #[CM (A5 26),.bool true])/\Below w.heap.size w w':=by
 exact Ea
theorem Rn(w:World):Calls prog 48 #[.int .i64 27] w fun e w'=>e=.returned (.tuple #[CM (A5 27),.bool true])/\Below w.heap.size w w':=by
 exact Ea
theorem Ro(w:World):Calls prog 48 #[.int .i64 28] w fun e w'=>e=.returned (.tuple #[CM (A5 28),.bool true])/\Below w.heap.size w w':=by
 exact Ea
theorem Rp(w:World):Calls prog 48 #[.int .i64 29] w fun e w'=>e=.returned (.tuple #[CM (A5 29),.bool true])/\Below w.heap.size w w':=by
 exact Ea
theorem Rq(w:World):Calls prog 48 #[.int .i64 30] w fun e w'=>e=.returned (.tuple #[CM (A5 30),.bool true])/\Below w.heap.size w w':=by
 exact Ea
theorem Rr(w:World):Calls prog 48 #[.int .i64 31] w fun e w'=>e=.returned (.tuple #[CM (A5 31),.bool true])/\Below w.heap.size w w':=by
 exact Ea
theorem Rs(w:World):Calls prog 48 #[.int .i64 32] w fun e w'=>e=.returned (.tuple #[CM (A5 32),.bool true])/\Below w.heap.size w w':=by
 exact Ea
theorem Rt(w:World):Calls prog 48 #[.int .i64 33] w fun e w'=>e=.returned (.tuple #[CM (A5 33),.bool true])/\Below w.heap.size w w':=by
 exact Ea
theorem Ru(w:World):Calls prog 48 #[.int .i64 34] w fun e w'=>e=.returned (.tuple #[CM (A5 34),.bool true])/\Below w.heap.size w w':=by
 exact Ea
theorem Rv(w:World):Calls prog 48 #[.int .i64 35] w fun e w'=>e=.returned (.tuple #[CM (A5 35),.bool true])/\Below w.heap.size w w':=by
 exact Ea
theorem Rx(w:World):Calls prog 48 #[.int .i64 36] w fun e w'=>e=.returned (.tuple #[CM (A5 36),.bool true])/\Below w.heap.size w w':=by
 exact Ea
theorem Ry(w:World):Calls prog 48 #[.int .i64 37] w fun e w'=>e=.returned (.tuple #[CM (A5 37),.bool true])/\Below w.heap.size w w':=by
 exact Ea
theorem ME(op:Int)(h:An op=false)(w:World):Calls prog 48 #[.int .i64 op] w fun e w'=>e=.returned (.tuple #[CM ⟨0,0,0,0,0⟩,.bool false])/\Below w.heap.size w w':=by
 have hh:op<1\/37<op:=by unfold An at h;simp at h;omega
 have e1:(op==1)=false:=by have:op≠1:=oM;simpa using this
 have e2:(op==2)=false:=by have:op≠2:=oM;simpa using this
 have e3:(op==3)=false:=by have:op≠3:=oM;simpa using this
 have e4:(op==4)=false:=by have:op≠4:=oM;simpa using this
 have e5:(op==5)=false:=by have:op≠5:=oM;simpa using this
 have e6:(op==6)=false:=by have:op≠6:=oM;simpa using this
 have e7:(op==7)=false:=by have:op≠7:=oM;simpa using this
 have e8:(op==8)=false:=by have:op≠8:=oM;simpa using this
 have e9:(op==9)=false:=by have:op≠9:=oM;simpa using this
 have e10:(op==10)=false:=by have:op≠10:=oM;simpa using this
 have e11:(op==11)=false:=by have:op≠11:=oM;simpa using this
 have e12:(op==12)=false:=by have:op≠12:=oM;simpa using this
 have e13:(op==13)=false:=by have:op≠13:=oM;simpa using this
 have e14:(op==14)=false:=by have:op≠14:=oM;simpa using this
 have e15:(op==15)=false:=by have:op≠15:=oM;simpa using this
 have e16:(op==16)=false:=by have:op≠16:=oM;simpa using this
 have e17:(op==17)=false:=by have:op≠17:=oM;simpa using this
 have e18:(op==18)=false:=by have:op≠18:=oM;simpa using this
 have e19:(op==19)=false:=by have:op≠19:=oM;simpa using this
 have e20:(op==20)=false:=by have:op≠20:=oM;simpa using this
 have e21:(op==21)=false:=by have:op≠21:=oM;simpa using this
 have e22:(op==22)=false:=by have:op≠22:=oM;simpa using this
 have e23:(op==23)=false:=by have:op≠23:=oM;simpa using this
 have e24:(op==24)=false:=by have:op≠24:=oM;simpa using this
 have e25:(op==25)=false:=by have:op≠25:=oM;simpa using this
 have e26:(op==26)=false:=by have:op≠26:=oM;simpa using this
 have e27:(op==27)=false:=by have:op≠27:=oM;simpa using this
 have e28:(op==28)=false:=by have:op≠28:=oM;simpa using this
 have e29:(op==29)=false:=by have:op≠29:=oM;simpa using this
 have e30:(op==30)=false:=by have:op≠30:=oM;simpa using this
 have e31:(op==31)=false:=by have:op≠31:=oM;simpa using this
 have e32:(op==32)=false:=by have:op≠32:=oM;simpa using this
 have e33:(op==33)=false:=by have:op≠33:=oM;simpa using this
 have e34:(op==34)=false:=by have:op≠34:=oM;simpa using this
 have e35:(op==35)=false:=by have:op≠35:=oM;simpa using this
 have e36:(op==36)=false:=by have:op≠36:=oM;simpa using this
 have e37:(op==37)=false:=by have:op≠37:=oM;simpa using this
 clear hh h;exact Ea
theorem FU(op:Int)(h:An op=false):A5 op=⟨0,0,0,0,0⟩:=by
 have hh:op<1\/37<op:=by unfold An at h;simp at h;omega
 unfold A5
 repeat rw[if_neg oM]
theorem Pf(op:Int)(w:World):Calls prog 48 #[.int .i64 op] w fun e w'=>e=.returned (.tuple #[CM (A5 op),.bool (An op)])/\Below w.heap.size w w':=by
 by_cases h:An op=false
 .rw[h,FU op h];exact ME op h w
 .have hh:1<=op/\op<=37:=by unfold An at h;simp at h;omega
  rw[show An op=true by simpa using h];clear h;by_cases k1:op=1
  .subst k1;exact Um w
  by_cases k2:op=2
  .subst k2;exact Uo w
  by_cases k3:op=3
  .subst k3;exact Uq w
  by_cases k4:op=4
  .subst k4;exact Ur w
  by_cases k5:op=5
  .subst k5;exact Us w
  by_cases k6:op=6
  .subst k6;exact Ut w
  by_cases k7:op=7
  .subst k7;exact Uu w
  by_cases k8:op=8
  .subst k8;exact Uv w
  by_cases k9:op=9
  .subst k9;exact Uw w
  by_cases k10:op=10
  .subst k10;exact R4 w
  by_cases k11:op=11
  .subst k11;exact R5 w
  by_cases k12:op=12
  .subst k12;exact R6 w
  by_cases k13:op=13
  .subst k13;exact R7 w
  by_cases k14:op=14
  .subst k14;exact R8 w
  by_cases k15:op=15
  .subst k15;exact R9 w
  by_cases k16:op=16
  .subst k16;exact Ra w
  by_cases k17:op=17
  .subst k17;exact Rb w
  by_cases k18:op=18
  .subst k18;exact Rc w
  by_cases k19:op=19
  .subst k19;exact Re w
  by_cases k20:op=20
  .subst k20;exact Rf w
  by_cases k21:op=21
  .subst k21;exact Rg w
  by_cases k22:op=22
  .subst k22;exact Rh w
  by_cases k23:op=23
  .subst k23;exact Ri w
  by_cases k24:op=24
  .subst k24;exact Rj w
  by_cases k25:op=25
  .subst k25;exact Rl w
  by_cases k26:op=26
  .subst k26;exact Rm w
  by_cases k27:op=27
  .subst k27;exact Rn w
  by_cases k28:op=28
  .subst k28;exact Ro w
  by_cases k29:op=29
  .subst k29;exact Rp w
  by_cases k30:op=30
  .subst k30;exact Rq w
  by_cases k31:op=31
  .subst k31;exact Rr w
  by_cases k32:op=32
  .subst k32;exact Rs w
  by_cases k33:op=33
  .subst k33;exact Rt w
  by_cases k34:op=34
  .subst k34;exact Ru w
  by_cases k35:op=35
  .subst k35;exact Rv w
  by_cases k36:op=36
  .subst k36;exact Rx w
  by_cases k37:op=37
  .subst k37;exact Ry w
  omega
theorem NQ(w:World):Calls prog 62 #[.int .i64 22] w fun e w'=>e=.returned (.tuple #[.string ⟨#[119,119,119,45,45]⟩,.bool true])/\w'=w:=by
 exact Eb
theorem NR(w:World):Calls prog 62 #[.int .i64 23] w fun e w'=>e=.returned (.tuple #[.string ⟨#[119,119,119,45,45]⟩,.bool true])/\w'=w:=by
 exact Eb
theorem NS(w:World):Calls prog 62 #[.int .i64 24] w fun e w'=>e=.returned (.tuple #[.string ⟨#[119,119,119,45,45]⟩,.bool true])/\w'=w:=by
 exact Eb
theorem NT(w:World):Calls prog 62 #[.int .i64 25] w fun e w'=>e=.returned (.tuple #[.string ⟨#[119,119,45,45,45]⟩,.bool true])/\w'=w:=by
 exact Eb
theorem NU(w:World):Calls prog 62 #[.int .i64 26] w fun e w'=>e=.returned (.tuple #[.string ⟨#[119,119,119,119,45]⟩,.bool true])/\w'=w:=by
 exact Eb
theorem NV(w:World):Calls prog 62 #[.int .i64 27] w fun e w'=>e=.returned (.tuple #[.string ⟨#[119,119,119,45,45]⟩,.bool true])/\w'=w:=by
 exact Eb
theorem NY(w:World):Calls prog 62 #[.int .i64 28] w fun e w'=>e=.returned (.tuple #[.string ⟨#[119,119,119,45,45]⟩,.bool true])/\w'=w:=by
 exact Eb
theorem NZ(w:World):Calls prog 62 #[.int .i64 29] w fun e w'=>e=.returned (.tuple #[.string ⟨#[118,45,45,45,112]⟩,.bool true])/\w'=w:=by
 exact Eb
theorem NG(w:World):Calls prog 62 #[.int .i64 13] w fun e w'=>e=.returned (.tuple #[.string ⟨#[100,120,45,45,45]⟩,.bool true])/\w'=w:=by
 exact Eb
theorem NH(w:World):Calls prog 62 #[.int .i64 14] w fun e w'=>e=.returned (.tuple #[.string ⟨#[100,120,45,45,45]⟩,.bool true])/\w'=w:=by
 exact Eb
theorem NI(w:World):Calls prog 62 #[.int .i64 15] w fun e w'=>e=.returned (.tuple #[.string ⟨#[100,120,120,120,45]⟩,.bool true])/\w'=w:=by
 exact Eb
theorem NJ(w:World):Calls prog 62 #[.int .i64 16] w fun e w'=>e=.returned (.tuple #[.string ⟨#[110,110,119,45,45]⟩,.bool true])/\w'=w:=by
 exact Eb
theorem NK(w:World):Calls prog 62 #[.int .i64 17] w fun e w'=>e=.returned (.tuple #[.string ⟨#[110,119,45,45,45]⟩,.bool true])/\w'=w:=by
 exact Eb
theorem NL(w:World):Calls prog 62 #[.int .i64 18] w fun e w'=>e=.returned (.tuple #[.string ⟨#[119,110,45,45,45]⟩,.bool true])/\w'=w:=by
 exact Eb
theorem NM(w:World):Calls prog 62 #[.int .i64 19] w fun e w'=>e=.returned (.tuple #[.string ⟨#[110,118,45,45,45]⟩,.bool true])/\w'=w:=by
 exact Eb
theorem NO(w:World):Calls prog 62 #[.int .i64 20] w fun e w'=>e=.returned (.tuple #[.string ⟨#[110,118,45,45,45]⟩,.bool true])/\w'=w:=by
 exact Eb
theorem NP(w:World):Calls prog 62 #[.int .i64 21] w fun e w'=>e=.returned (.tuple #[.string ⟨#[119,119,45,45,45]⟩,.bool true])/\w'=w:=by
 exact Eb
theorem FO{k:IntKind}{a b:Int}(h:a=b):Ending.returned (.int k a)=.returned (.int k b):=by rw[h]
theorem Uj(a:Int)(h0:0<=a)(h1:a<4294967296)(w:World):
 Calls prog 63 #[.int .i64 a] w fun e w'=>e=.returned (.bool (nan a))/\w'=w:=by
 go_enter func63,ntmps63;go_wp2;go_ret;exact⟨rfl,rfl⟩
theorem DY(a:Int)(h0:0<=a)(h1:a<4294967296)(w:World):
 Calls prog 35 #[.int .i64 a] w fun e w'=>e=.returned (.int .i64 (A9 a))/\w'=w:=by
 cases hn:nan a
 .have hc:A9 a=a:=by unfold A9;simp[hn]
  exact YW
 .have hc:A9 a=2143289344:=by unfold A9;simp[hn]
  exact YW
end Go.Proofs.YtjglaibglofddaaGreat
