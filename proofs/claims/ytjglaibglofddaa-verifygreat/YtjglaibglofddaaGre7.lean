import Derived.Test.YtjglaibglofddaaGre2
import Derived.Test.YtjglaibglofddaaRows
import Derived.WalkKit
import Derived.WalkSpells
import Derived.WalkLawsBesides
import Derived.Test.YtjglaibglofddaaGre1
namespace Go.Proofs.Ytjglaibglofddaa
open Go.RowKit Go.Proofs.Try
set_option linter.all false
set_option maxRecDepth 100000
set_option maxHeartbeats 16000000
theorem IZ(w:World):Calls prog 42 #[.int .i64 1] w fun e w'=>e=.returned (.tuple #[Bo (Ad 1),.bool true])/\Below w.heap.size w w':=by
 exact BV
theorem J0(w:World):Calls prog 42 #[.int .i64 2] w fun e w'=>e=.returned (.tuple #[Bo (Ad 2),.bool true])/\Below w.heap.size w w':=by
 exact BV
theorem J1(w:World):Calls prog 42 #[.int .i64 3] w fun e w'=>e=.returned (.tuple #[Bo (Ad 3),.bool true])/\Below w.heap.size w w':=by
 exact BV
theorem J2(w:World):Calls prog 42 #[.int .i64 4] w fun e w'=>e=.returned (.tuple #[Bo (Ad 4),.bool true])/\Below w.heap.size w w':=by
 exact BV
theorem J3(w:World):Calls prog 42 #[.int .i64 5] w fun e w'=>e=.returned (.tuple #[Bo (Ad 5),.bool true])/\Below w.heap.size w w':=by
 exact BV
theorem J4(w:World):Calls prog 42 #[.int .i64 6] w fun e w'=>e=.returned (.tuple #[Bo (Ad 6),.bool true])/\Below w.heap.size w w':=by
 exact BV
theorem J5(w:World):Calls prog 42 #[.int .i64 7] w fun e w'=>e=.returned (.tuple #[Bo (Ad 7),.bool true])/\Below w.heap.size w w':=by
 exact BV
theorem J6(w:World):Calls prog 42 #[.int .i64 8] w fun e w'=>e=.returned (.tuple #[Bo (Ad 8),.bool true])/\Below w.heap.size w w':=by
 exact BV
theorem J7(w:World):Calls prog 42 #[.int .i64 9] w fun e w'=>e=.returned (.tuple #[Bo (Ad 9),.bool true])/\Below w.heap.size w w':=by
 exact BV
theorem He(w:World):Calls prog 42 #[.int .i64 10] w fun e w'=>e=.returned (.tuple #[Bo (Ad 10),.bool true])/\Below w.heap.size w w':=by
 exact BV
theorem Hf(w:World):Calls prog 42 #[.int .i64 11] w fun e w'=>e=.returned (.tuple #[Bo (Ad 11),.bool true])/\Below w.heap.size w w':=by
 exact BV
theorem Hg(w:World):Calls prog 42 #[.int .i64 12] w fun e w'=>e=.returned (.tuple #[Bo (Ad 12),.bool true])/\Below w.heap.size w w':=by
 exact BV
theorem Hh(w:World):Calls prog 42 #[.int .i64 13] w fun e w'=>e=.returned (.tuple #[Bo (Ad 13),.bool true])/\Below w.heap.size w w':=by
 exact BV
theorem Hi(w:World):Calls prog 42 #[.int .i64 14] w fun e w'=>e=.returned (.tuple #[Bo (Ad 14),.bool true])/\Below w.heap.size w w':=by
 exact BV
theorem Hj(w:World):Calls prog 42 #[.int .i64 15] w fun e w'=>e=.returned (.tuple #[Bo (Ad 15),.bool true])/\Below w.heap.size w w':=by
 exact BV
theorem Hk(w:World):Calls prog 42 #[.int .i64 16] w fun e w'=>e=.returned (.tuple #[Bo (Ad 16),.bool true])/\Below w.heap.size w w':=by
 exact BV
theorem Hl(w:World):Calls prog 42 #[.int .i64 17] w fun e w'=>e=.returned (.tuple #[Bo (Ad 17),.bool true])/\Below w.heap.size w w':=by
 exact BV
theorem Hm(w:World):Calls prog 42 #[.int .i64 18] w fun e w'=>e=.returned (.tuple #[Bo (Ad 18),.bool true])/\Below w.heap.size w w':=by
 exact BV
theorem Hn(w:World):Calls prog 42 #[.int .i64 19] w fun e w'=>e=.returned (.tuple #[Bo (Ad 19),.bool true])/\Below w.heap.size w w':=by
 exact BV
theorem Ho(w:World):Calls prog 42 #[.int .i64 20] w fun e w'=>e=.returned (.tuple #[Bo (Ad 20),.bool true])/\Below w.heap.size w w':=by
 exact BV
theorem Hp(w:World):Calls prog 42 #[.int .i64 21] w fun e w'=>e=.returned (.tuple #[Bo (Ad 21),.bool true])/\Below w.heap.size w w':=by
 exact BV
theorem Hq(w:World):Calls prog 42 #[.int .i64 22] w fun e w'=>e=.returned (.tuple #[Bo (Ad 22),.bool true])/\Below w.heap.size w w':=by
 exact BV
theorem Hr(w:World):Calls prog 42 #[.int .i64 23] w fun e w'=>e=.returned (.tuple #[Bo (Ad 23),.bool true])/\Below w.heap.size w w':=by
 exact BV
theorem Hs(w:World):Calls prog 42 #[.int .i64 24] w fun e w'=>e=.returned (.tuple #[Bo (Ad 24),.bool true])/\Below w.heap.size w w':=by
 exact BV
theorem Ht(w:World):Calls prog 42 #[.int .i64 25] w fun e w'=>e=.returned (.tuple #[Bo (Ad 25),.bool true])/\Below w.heap.size w w':=by
 exact BV
theorem Hu(w:World):Calls prog 42 #[.int .i64 26] w fun e w'=>e=.returned (.tuple #[Bo (Ad 26),.bool true])/\Below w.heap.size w w':=by
 exact BV
theorem Hv(w:World):Calls prog 42 #[.int .i64 27] w fun e w'=>e=.returned (.tuple #[Bo (Ad 27),.bool true])/\Below w.heap.size w w':=by
 exact BV
theorem Hw(w:World):Calls prog 42 #[.int .i64 28] w fun e w'=>e=.returned (.tuple #[Bo (Ad 28),.bool true])/\Below w.heap.size w w':=by
 exact BV
theorem Hx(w:World):Calls prog 42 #[.int .i64 29] w fun e w'=>e=.returned (.tuple #[Bo (Ad 29),.bool true])/\Below w.heap.size w w':=by
 exact BV
theorem Hy(w:World):Calls prog 42 #[.int .i64 30] w fun e w'=>e=.returned (.tuple #[Bo (Ad 30),.bool true])/\Below w.heap.size w w':=by
 exact BV
theorem Hz(w:World):Calls prog 42 #[.int .i64 31] w fun e w'=>e=.returned (.tuple #[Bo (Ad 31),.bool true])/\Below w.heap.size w w':=by
 exact BV
theorem HH(w:World):Calls prog 42 #[.int .i64 32] w fun e w'=>e=.returned (.tuple #[Bo (Ad 32),.bool true])/\Below w.heap.size w w':=by
 exact BV
theorem HI(w:World):Calls prog 42 #[.int .i64 33] w fun e w'=>e=.returned (.tuple #[Bo (Ad 33),.bool true])/\Below w.heap.size w w':=by
 exact BV
theorem HY(w:World):Calls prog 42 #[.int .i64 34] w fun e w'=>e=.returned (.tuple #[Bo (Ad 34),.bool true])/\Below w.heap.size w w':=by
 exact BV
theorem I0(w:World):Calls prog 42 #[.int .i64 35] w fun e w'=>e=.returned (.tuple #[Bo (Ad 35),.bool true])/\Below w.heap.size w w':=by
 exact BV
theorem I1(w:World):Calls prog 42 #[.int .i64 36] w fun e w'=>e=.returned (.tuple #[Bo (Ad 36),.bool true])/\Below w.heap.size w w':=by
 exact BV
theorem I2(w:World):Calls prog 42 #[.int .i64 37] w fun e w'=>e=.returned (.tuple #[Bo (Ad 37),.bool true])/\Below w.heap.size w w':=by
 exact BV
theorem Fo(op:Int)(h:As op=false)(w:World):Calls prog 42 #[.int .i64 op] w fun e w'=>e=.returned (.tuple #[Bo ⟨0,0,0,0,0⟩,.bool false])/\Below w.heap.size w w':=by
 have hh:op<1\/37<op:=by unfold As at h;simp at h;omega
 have e1:(op==1)=false:=by have:op≠1:=oM;simpa using this
 have e2:(op==2)=false:=by have:op≠2:=oM;simpa using this
 have e3:(op==3)=false:=by have:op≠3:=oM;simpa using this
 have e4:(op==4)=false:=by have:op≠4:=oM;simpa using this
 have e5:(op==5)=false:=by have:op≠5:=oM;simpa using this
 have e6:(op==6)=false:=by have:op≠6:=oM;simpa using this
 have e7:(op==7)=false:=by have:op≠7:=oM;simpa using this
 have e8:(op==8)=false:=by have:op≠8:=oM;simpa using this
 have e9:(op==9)=false:=by have:op≠9:=oM;simpa using this
 have e10:(op==10)=false:=by have:op≠10:=oM;simpa using this
 have e11:(op==11)=false:=by have:op≠11:=oM;simpa using this
 have e12:(op==12)=false:=by have:op≠12:=oM;simpa using this
 have e13:(op==13)=false:=by have:op≠13:=oM;simpa using this
 have e14:(op==14)=false:=by have:op≠14:=oM;simpa using this
 have e15:(op==15)=false:=by have:op≠15:=oM;simpa using this
 have e16:(op==16)=false:=by have:op≠16:=oM;simpa using this
 have e17:(op==17)=false:=by have:op≠17:=oM;simpa using this
 have e18:(op==18)=false:=by have:op≠18:=oM;simpa using this
 have e19:(op==19)=false:=by have:op≠19:=oM;simpa using this
 have e20:(op==20)=false:=by have:op≠20:=oM;simpa using this
 have e21:(op==21)=false:=by have:op≠21:=oM;simpa using this
 have e22:(op==22)=false:=by have:op≠22:=oM;simpa using this
 have e23:(op==23)=false:=by have:op≠23:=oM;simpa using this
 have e24:(op==24)=false:=by have:op≠24:=oM;simpa using this
 have e25:(op==25)=false:=by have:op≠25:=oM;simpa using this
 have e26:(op==26)=false:=by have:op≠26:=oM;simpa using this
 have e27:(op==27)=false:=by have:op≠27:=oM;simpa using this
 have e28:(op==28)=false:=by have:op≠28:=oM;simpa using this
 have e29:(op==29)=false:=by have:op≠29:=oM;simpa using this
 have e30:(op==30)=false:=by have:op≠30:=oM;simpa using this
 have e31:(op==31)=false:=by have:op≠31:=oM;simpa using this
 have e32:(op==32)=false:=by have:op≠32:=oM;simpa using this
 have e33:(op==33)=false:=by have:op≠33:=oM;simpa using this
 have e34:(op==34)=false:=by have:op≠34:=oM;simpa using this
 have e35:(op==35)=false:=by have:op≠35:=oM;simpa using this
 have e36:(op==36)=false:=by have:op≠36:=oM;simpa using this
 have e37:(op==37)=false:=by have:op≠37:=oM;simpa using this
 clear hh h;exact BV
theorem CI(op:Int)(h:As op=false):Ad op=⟨0,0,0,0,0⟩:=by
 have hh:op<1\/37<op:=by unfold As at h;simp at h;omega
 unfold Ad
 repeat rw[if_neg oM]
theorem GD(op:Int)(w:World):Calls prog 42 #[.int .i64 op] w fun e w'=>e=.returned (.tuple #[Bo (Ad op),.bool (As op)])/\Below w.heap.size w w':=by
 by_cases h:As op=false
 .rw[h,CI op h];exact Fo op h w
 .have hh:1<=op/\op<=37:=by unfold As at h;simp at h;omega
  rw[show As op=true by simpa using h];clear h;by_cases k1:op=1
  .subst k1;exact IZ w
  by_cases k2:op=2
  .subst k2;exact J0 w
  by_cases k3:op=3
  .subst k3;exact J1 w
  by_cases k4:op=4
  .subst k4;exact J2 w
  by_cases k5:op=5
  .subst k5;exact J3 w
  by_cases k6:op=6
  .subst k6;exact J4 w
  by_cases k7:op=7
  .subst k7;exact J5 w
  by_cases k8:op=8
  .subst k8;exact J6 w
  by_cases k9:op=9
  .subst k9;exact J7 w
  by_cases k10:op=10
  .subst k10;exact He w
  by_cases k11:op=11
  .subst k11;exact Hf w
  by_cases k12:op=12
  .subst k12;exact Hg w
  by_cases k13:op=13
  .subst k13;exact Hh w
  by_cases k14:op=14
  .subst k14;exact Hi w
  by_cases k15:op=15
  .subst k15;exact Hj w
  by_cases k16:op=16
  .subst k16;exact Hk w
  by_cases k17:op=17
  .subst k17;exact Hl w
  by_cases k18:op=18
  .subst k18;exact Hm w
  by_cases k19:op=19
  .subst k19;exact Hn w
  by_cases k20:op=20
  .subst k20;exact Ho w
  by_cases k21:op=21
  .subst k21;exact Hp w
  by_cases k22:op=22
  .subst k22;exact Hq w
  by_cases k23:op=23
  .subst k23;exact Hr w
  by_cases k24:op=24
  .subst k24;exact Hs w
  by_cases k25:op=25
  .subst k25;exact Ht w
  by_cases k26:op=26
  .subst k26;exact Hu w
  by_cases k27:op=27
  .subst k27;exact Hv w
  by_cases k28:op=28
  .subst k28;exact Hw w
  by_cases k29:op=29
  .subst k29;exact Hx w
  by_cases k30:op=30
  .subst k30;exact Hy w
  by_cases k31:op=31
  .subst k31;exact Hz w
  by_cases k32:op=32
  .subst k32;exact HH w
  by_cases k33:op=33
  .subst k33;exact HI w
  by_cases k34:op=34
  .subst k34;exact HY w
  by_cases k35:op=35
  .subst k35;exact I0 w
  by_cases k36:op=36
  .subst k36;exact I1 w
  by_cases k37:op=37
  .subst k37;exact I2 w
  omega
theorem FQ(w:World):Calls prog 54 #[.int .i64 22] w fun e w'=>e=.returned (.tuple #[.string ⟨#[119,119,119,45,45]⟩,.bool true])/\w'=w:=by
 exact BY
theorem FR(w:World):Calls prog 54 #[.int .i64 23] w fun e w'=>e=.returned (.tuple #[.string ⟨#[119,119,119,45,45]⟩,.bool true])/\w'=w:=by
 exact BY
theorem FS(w:World):Calls prog 54 #[.int .i64 24] w fun e w'=>e=.returned (.tuple #[.string ⟨#[119,119,119,45,45]⟩,.bool true])/\w'=w:=by
 exact BY
theorem FT(w:World):Calls prog 54 #[.int .i64 25] w fun e w'=>e=.returned (.tuple #[.string ⟨#[119,119,45,45,45]⟩,.bool true])/\w'=w:=by
 exact BY
theorem FU(w:World):Calls prog 54 #[.int .i64 26] w fun e w'=>e=.returned (.tuple #[.string ⟨#[119,119,119,119,45]⟩,.bool true])/\w'=w:=by
 exact BY
theorem FV(w:World):Calls prog 54 #[.int .i64 27] w fun e w'=>e=.returned (.tuple #[.string ⟨#[119,119,119,45,45]⟩,.bool true])/\w'=w:=by
 exact BY
theorem FX(w:World):Calls prog 54 #[.int .i64 28] w fun e w'=>e=.returned (.tuple #[.string ⟨#[119,119,119,45,45]⟩,.bool true])/\w'=w:=by
 exact BY
theorem FY(w:World):Calls prog 54 #[.int .i64 29] w fun e w'=>e=.returned (.tuple #[.string ⟨#[118,45,45,45,112]⟩,.bool true])/\w'=w:=by
 exact BY
theorem FH(w:World):Calls prog 54 #[.int .i64 13] w fun e w'=>e=.returned (.tuple #[.string ⟨#[100,120,45,45,45]⟩,.bool true])/\w'=w:=by
 exact BY
theorem FI(w:World):Calls prog 54 #[.int .i64 14] w fun e w'=>e=.returned (.tuple #[.string ⟨#[100,120,45,45,45]⟩,.bool true])/\w'=w:=by
 exact BY
theorem FJ(w:World):Calls prog 54 #[.int .i64 15] w fun e w'=>e=.returned (.tuple #[.string ⟨#[100,120,120,120,45]⟩,.bool true])/\w'=w:=by
 exact BY
theorem FK(w:World):Calls prog 54 #[.int .i64 16] w fun e w'=>e=.returned (.tuple #[.string ⟨#[110,110,119,45,45]⟩,.bool true])/\w'=w:=by
 exact BY
theorem FL(w:World):Calls prog 54 #[.int .i64 17] w fun e w'=>e=.returned (.tuple #[.string ⟨#[110,119,45,45,45]⟩,.bool true])/\w'=w:=by
 exact BY
theorem FM(w:World):Calls prog 54 #[.int .i64 18] w fun e w'=>e=.returned (.tuple #[.string ⟨#[119,110,45,45,45]⟩,.bool true])/\w'=w:=by
 exact BY
theorem FN(w:World):Calls prog 54 #[.int .i64 19] w fun e w'=>e=.returned (.tuple #[.string ⟨#[110,118,45,45,45]⟩,.bool true])/\w'=w:=by
 exact BY
theorem FO(w:World):Calls prog 54 #[.int .i64 20] w fun e w'=>e=.returned (.tuple #[.string ⟨#[110,118,45,45,45]⟩,.bool true])/\w'=w:=by
 exact BY
theorem FP(w:World):Calls prog 54 #[.int .i64 21] w fun e w'=>e=.returned (.tuple #[.string ⟨#[119,119,45,45,45]⟩,.bool true])/\w'=w:=by
 exact BY

end Go.Proofs.Ytjglaibglofddaa
