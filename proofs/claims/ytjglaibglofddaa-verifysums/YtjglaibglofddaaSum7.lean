import Derived.Test.YtjglaibglofddaaSum2
import Derived.Test.YtjglaibglofddaaRows
import Derived.WalkKit
import Derived.WalkSpells
import Derived.WalkLawsBesides
import Derived.Test.YtjglaibglofddaaSum1
namespace Go.Proofs.Ytjglaibglofddaa
open Go.RowKit Go.Proofs.Try
set_option linter.all false
set_option maxRecDepth 100000
set_option maxHeartbeats 16000000
theorem Gl(w:World):Calls prog 42 #[.int .i64 1] w fun e w'=>e=.returned (.tuple #[AW (A6 1),.bool true])/\Below w.heap.size w w':=by
 exact Bn
theorem Gm(w:World):Calls prog 42 #[.int .i64 2] w fun e w'=>e=.returned (.tuple #[AW (A6 2),.bool true])/\Below w.heap.size w w':=by
 exact Bn
theorem Gn(w:World):Calls prog 42 #[.int .i64 3] w fun e w'=>e=.returned (.tuple #[AW (A6 3),.bool true])/\Below w.heap.size w w':=by
 exact Bn
theorem Gp(w:World):Calls prog 42 #[.int .i64 4] w fun e w'=>e=.returned (.tuple #[AW (A6 4),.bool true])/\Below w.heap.size w w':=by
 exact Bn
theorem Gq(w:World):Calls prog 42 #[.int .i64 5] w fun e w'=>e=.returned (.tuple #[AW (A6 5),.bool true])/\Below w.heap.size w w':=by
 exact Bn
theorem Gr(w:World):Calls prog 42 #[.int .i64 6] w fun e w'=>e=.returned (.tuple #[AW (A6 6),.bool true])/\Below w.heap.size w w':=by
 exact Bn
theorem Gs(w:World):Calls prog 42 #[.int .i64 7] w fun e w'=>e=.returned (.tuple #[AW (A6 7),.bool true])/\Below w.heap.size w w':=by
 exact Bn
theorem Gt(w:World):Calls prog 42 #[.int .i64 8] w fun e w'=>e=.returned (.tuple #[AW (A6 8),.bool true])/\Below w.heap.size w w':=by
 exact Bn
theorem Gu(w:World):Calls prog 42 #[.int .i64 9] w fun e w'=>e=.returned (.tuple #[AW (A6 9),.bool true])/\Below w.heap.size w w':=by
 exact Bn
theorem Fp(w:World):Calls prog 42 #[.int .i64 10] w fun e w'=>e=.returned (.tuple #[AW (A6 10),.bool true])/\Below w.heap.size w w':=by
 exact Bn
theorem Fq(w:World):Calls prog 42 #[.int .i64 11] w fun e w'=>e=.returned (.tuple #[AW (A6 11),.bool true])/\Below w.heap.size w w':=by
 exact Bn
theorem Fr(w:World):Calls prog 42 #[.int .i64 12] w fun e w'=>e=.returned (.tuple #[AW (A6 12),.bool true])/\Below w.heap.size w w':=by
 exact Bn
theorem Fs(w:World):Calls prog 42 #[.int .i64 13] w fun e w'=>e=.returned (.tuple #[AW (A6 13),.bool true])/\Below w.heap.size w w':=by
 exact Bn
theorem Ft(w:World):Calls prog 42 #[.int .i64 14] w fun e w'=>e=.returned (.tuple #[AW (A6 14),.bool true])/\Below w.heap.size w w':=by
 exact Bn
theorem Fu(w:World):Calls prog 42 #[.int .i64 15] w fun e w'=>e=.returned (.tuple #[AW (A6 15),.bool true])/\Below w.heap.size w w':=by
 exact Bn
theorem Fv(w:World):Calls prog 42 #[.int .i64 16] w fun e w'=>e=.returned (.tuple #[AW (A6 16),.bool true])/\Below w.heap.size w w':=by
 exact Bn
theorem Fw(w:World):Calls prog 42 #[.int .i64 17] w fun e w'=>e=.returned (.tuple #[AW (A6 17),.bool true])/\Below w.heap.size w w':=by
 exact Bn
theorem Fx(w:World):Calls prog 42 #[.int .i64 18] w fun e w'=>e=.returned (.tuple #[AW (A6 18),.bool true])/\Below w.heap.size w w':=by
 exact Bn
theorem Fy(w:World):Calls prog 42 #[.int .i64 19] w fun e w'=>e=.returned (.tuple #[AW (A6 19),.bool true])/\Below w.heap.size w w':=by
 exact Bn
theorem Fz(w:World):Calls prog 42 #[.int .i64 20] w fun e w'=>e=.returned (.tuple #[AW (A6 20),.bool true])/\Below w.heap.size w w':=by
 exact Bn
theorem FA(w:World):Calls prog 42 #[.int .i64 21] w fun e w'=>e=.returned (.tuple #[AW (A6 21),.bool true])/\Below w.heap.size w w':=by
 exact Bn
theorem FC(w:World):Calls prog 42 #[.int .i64 22] w fun e w'=>e=.returned (.tuple #[AW (A6 22),.bool true])/\Below w.heap.size w w':=by
 exact Bn
theorem FD(w:World):Calls prog 42 #[.int .i64 23] w fun e w'=>e=.returned (.tuple #[AW (A6 23),.bool true])/\Below w.heap.size w w':=by
 exact Bn
theorem FE(w:World):Calls prog 42 #[.int .i64 24] w fun e w'=>e=.returned (.tuple #[AW (A6 24),.bool true])/\Below w.heap.size w w':=by
 exact Bn
theorem FF(w:World):Calls prog 42 #[.int .i64 25] w fun e w'=>e=.returned (.tuple #[AW (A6 25),.bool true])/\Below w.heap.size w w':=by
 exact Bn
theorem FG(w:World):Calls prog 42 #[.int .i64 26] w fun e w'=>e=.returned (.tuple #[AW (A6 26),.bool true])/\Below w.heap.size w w':=by
 exact Bn
theorem FH(w:World):Calls prog 42 #[.int .i64 27] w fun e w'=>e=.returned (.tuple #[AW (A6 27),.bool true])/\Below w.heap.size w w':=by
 exact Bn
theorem FI(w:World):Calls prog 42 #[.int .i64 28] w fun e w'=>e=.returned (.tuple #[AW (A6 28),.bool true])/\Below w.heap.size w w':=by
 exact Bn
theorem FJ(w:World):Calls prog 42 #[.int .i64 29] w fun e w'=>e=.returned (.tuple #[AW (A6 29),.bool true])/\Below w.heap.size w w':=by
 exact Bn
theorem FK(w:World):Calls prog 42 #[.int .i64 30] w fun e w'=>e=.returned (.tuple #[AW (A6 30),.bool true])/\Below w.heap.size w w':=by
 exact Bn
theorem FL(w:World):Calls prog 42 #[.int .i64 31] w fun e w'=>e=.returned (.tuple #[AW (A6 31),.bool true])/\Below w.heap.size w w':=by
 exact Bn
theorem FM(w:World):Calls prog 42 #[.int .i64 32] w fun e w'=>e=.returned (.tuple #[AW (A6 32),.bool true])/\Below w.heap.size w w':=by
 exact Bn
theorem FN(w:World):Calls prog 42 #[.int .i64 33] w fun e w'=>e=.returned (.tuple #[AW (A6 33),.bool true])/\Below w.heap.size w w':=by
 exact Bn
theorem FO(w:World):Calls prog 42 #[.int .i64 34] w fun e w'=>e=.returned (.tuple #[AW (A6 34),.bool true])/\Below w.heap.size w w':=by
 exact Bn
theorem FP(w:World):Calls prog 42 #[.int .i64 35] w fun e w'=>e=.returned (.tuple #[AW (A6 35),.bool true])/\Below w.heap.size w w':=by
 exact Bn
theorem FQ(w:World):Calls prog 42 #[.int .i64 36] w fun e w'=>e=.returned (.tuple #[AW (A6 36),.bool true])/\Below w.heap.size w w':=by
 exact Bn
theorem FR(w:World):Calls prog 42 #[.int .i64 37] w fun e w'=>e=.returned (.tuple #[AW (A6 37),.bool true])/\Below w.heap.size w w':=by
 exact Bn
theorem Eh(op:Int)(h:AH op=false)(w:World):Calls prog 42 #[.int .i64 op] w fun e w'=>e=.returned (.tuple #[AW ⟨0,0,0,0,0⟩,.bool false])/\Below w.heap.size w w':=by
 have hh:op<1\/37<op:=by unfold AH at h;simp at h;omega
 have e1:(op==1)=false:=by have:op≠1:=oM;simpa using this
 have e2:(op==2)=false:=by have:op≠2:=oM;simpa using this
 have e3:(op==3)=false:=by have:op≠3:=oM;simpa using this
 have e4:(op==4)=false:=by have:op≠4:=oM;simpa using this
 have e5:(op==5)=false:=by have:op≠5:=oM;simpa using this
 have e6:(op==6)=false:=by have:op≠6:=oM;simpa using this
 have e7:(op==7)=false:=by have:op≠7:=oM;simpa using this
 have e8:(op==8)=false:=by have:op≠8:=oM;simpa using this
 have e9:(op==9)=false:=by have:op≠9:=oM;simpa using this
 have e10:(op==10)=false:=by have:op≠10:=oM;simpa using this
 have e11:(op==11)=false:=by have:op≠11:=oM;simpa using this
 have e12:(op==12)=false:=by have:op≠12:=oM;simpa using this
 have e13:(op==13)=false:=by have:op≠13:=oM;simpa using this
 have e14:(op==14)=false:=by have:op≠14:=oM;simpa using this
 have e15:(op==15)=false:=by have:op≠15:=oM;simpa using this
 have e16:(op==16)=false:=by have:op≠16:=oM;simpa using this
 have e17:(op==17)=false:=by have:op≠17:=oM;simpa using this
 have e18:(op==18)=false:=by have:op≠18:=oM;simpa using this
 have e19:(op==19)=false:=by have:op≠19:=oM;simpa using this
 have e20:(op==20)=false:=by have:op≠20:=oM;simpa using this
 have e21:(op==21)=false:=by have:op≠21:=oM;simpa using this
 have e22:(op==22)=false:=by have:op≠22:=oM;simpa using this
 have e23:(op==23)=false:=by have:op≠23:=oM;simpa using this
 have e24:(op==24)=false:=by have:op≠24:=oM;simpa using this
 have e25:(op==25)=false:=by have:op≠25:=oM;simpa using this
 have e26:(op==26)=false:=by have:op≠26:=oM;simpa using this
 have e27:(op==27)=false:=by have:op≠27:=oM;simpa using this
 have e28:(op==28)=false:=by have:op≠28:=oM;simpa using this
 have e29:(op==29)=false:=by have:op≠29:=oM;simpa using this
 have e30:(op==30)=false:=by have:op≠30:=oM;simpa using this
 have e31:(op==31)=false:=by have:op≠31:=oM;simpa using this
 have e32:(op==32)=false:=by have:op≠32:=oM;simpa using this
 have e33:(op==33)=false:=by have:op≠33:=oM;simpa using this
 have e34:(op==34)=false:=by have:op≠34:=oM;simpa using this
 have e35:(op==35)=false:=by have:op≠35:=oM;simpa using this
 have e36:(op==36)=false:=by have:op≠36:=oM;simpa using this
 have e37:(op==37)=false:=by have:op≠37:=oM;simpa using this
 clear hh h;exact Bn
theorem DL(op:Int)(h:AH op=false):A6 op=⟨0,0,0,0,0⟩:=by
 have hh:op<1\/37<op:=by unfold AH at h;simp at h;omega
 unfold A6
 repeat rw[if_neg oM]
theorem EX(op:Int)(w:World):Calls prog 42 #[.int .i64 op] w fun e w'=>e=.returned (.tuple #[AW (A6 op),.bool (AH op)])/\Below w.heap.size w w':=by
 by_cases h:AH op=false
 .rw[h,DL op h];exact Eh op h w
 .have hh:1<=op/\op<=37:=by unfold AH at h;simp at h;omega
  rw[show AH op=true by simpa using h];clear h;by_cases k1:op=1
  .subst k1;exact Gl w
  by_cases k2:op=2
  .subst k2;exact Gm w
  by_cases k3:op=3
  .subst k3;exact Gn w
  by_cases k4:op=4
  .subst k4;exact Gp w
  by_cases k5:op=5
  .subst k5;exact Gq w
  by_cases k6:op=6
  .subst k6;exact Gr w
  by_cases k7:op=7
  .subst k7;exact Gs w
  by_cases k8:op=8
  .subst k8;exact Gt w
  by_cases k9:op=9
  .subst k9;exact Gu w
  by_cases k10:op=10
  .subst k10;exact Fp w
  by_cases k11:op=11
  .subst k11;exact Fq w
  by_cases k12:op=12
  .subst k12;exact Fr w
  by_cases k13:op=13
  .subst k13;exact Fs w
  by_cases k14:op=14
  .subst k14;exact Ft w
  by_cases k15:op=15
  .subst k15;exact Fu w
  by_cases k16:op=16
  .subst k16;exact Fv w
  by_cases k17:op=17
  .subst k17;exact Fw w
  by_cases k18:op=18
  .subst k18;exact Fx w
  by_cases k19:op=19
  .subst k19;exact Fy w
  by_cases k20:op=20
  .subst k20;exact Fz w
  by_cases k21:op=21
  .subst k21;exact FA w
  by_cases k22:op=22
  .subst k22;exact FC w
  by_cases k23:op=23
  .subst k23;exact FD w
  by_cases k24:op=24
  .subst k24;exact FE w
  by_cases k25:op=25
  .subst k25;exact FF w
  by_cases k26:op=26
  .subst k26;exact FG w
  by_cases k27:op=27
  .subst k27;exact FH w
  by_cases k28:op=28
  .subst k28;exact FI w
  by_cases k29:op=29
  .subst k29;exact FJ w
  by_cases k30:op=30
  .subst k30;exact FK w
  by_cases k31:op=31
  .subst k31;exact FL w
  by_cases k32:op=32
  .subst k32;exact FM w
  by_cases k33:op=33
  .subst k33;exact FN w
  by_cases k34:op=34
  .subst k34;exact FO w
  by_cases k35:op=35
  .subst k35;exact FP w
  by_cases k36:op=36
  .subst k36;exact FQ w
  by_cases k37:op=37
  .subst k37;exact FR w
  omega



end Go.Proofs.Ytjglaibglofddaa
