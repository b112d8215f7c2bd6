import Derived.Test.YtbinohkcolcbfaaGreatClon2
import Derived.Test.YtbinohkcolcbfaaGreatClon1
namespace Go.Proofs.YtbinohkcolcbfaaGreat
open Go.RowKit Go.Proofs.Tryz
set_option linter.all false
set_option maxRecDepth 100000
set_option maxHeartbeats 16000000
theorem XQ(w:World):Calls prog 53 #[.int .i64 1] w fun e w'=>e=.returned (.tuple #[Dh (A6 1),.bool true])/\Below w.heap.size w w':=by
 exact EW
theorem XR(w:World):Calls prog 53 #[.int .i64 2] w fun e w'=>e=.returned (.tuple #[Dh (A6 2),.bool true])/\Below w.heap.size w w':=by
 exact EW
theorem XS(w:World):Calls prog 53 #[.int .i64 3] w fun e w'=>e=.returned (.tuple #[Dh (A6 3),.bool true])/\Below w.heap.size w w':=by
 exact EW
theorem XT(w:World):Calls prog 53 #[.int .i64 4] w fun e w'=>e=.returned (.tuple #[Dh (A6 4),.bool true])/\Below w.heap.size w w':=by
 exact EW
theorem XU(w:World):Calls prog 53 #[.int .i64 5] w fun e w'=>e=.returned (.tuple #[Dh (A6 5),.bool true])/\Below w.heap.size w w':=by
 exact EW
theorem XV(w:World):Calls prog 53 #[.int .i64 6] w fun e w'=>e=.returned (.tuple #[Dh (A6 6),.bool true])/\Below w.heap.size w w':=by
 exact EW
theorem XW(w:World):Calls prog 53 #[.int .i64 7] w fun e w'=>e=.returned (.tuple #[Dh (A6 7),.bool true])/\Below w.heap.size w w':=by
 exact EW
theorem XX(w:World):Calls prog 53 #[.int .i64 8] w fun e w'=>e=.returned (.tuple #[Dh (A6 8),.bool true])/\Below w.heap.size w w':=by
 exact EW
theorem XY(w:World):Calls prog 53 #[.int .i64 9] w fun e w'=>e=.returned (.tuple #[Dh (A6 9),.bool true])/\Below w.heap.size w w':=by
 exact EW
theorem Ui(w:World):Calls prog 53 #[.int .i64 10] w fun e w'=>e=.returned (.tuple #[Dh (A6 10),.bool true])/\Below w.heap.size w w':=by
 exact EW
theorem Uj(w:World):Calls prog 53 #[.int .i64 11] w fun e w'=>e=.returned (.tuple #[Dh (A6 11),.bool true])/\Below w.heap.size w w':=by
 exact EW
theorem Uk(w:World):Calls prog 53 #[.int .i64 12] w fun e w'=>e=.returned (.tuple #[Dh (A6 12),.bool true])/\Below w.heap.size w w':=by
 exact EW
theorem UF(w:World):Calls prog 53 #[.int .i64 30] w fun e w'=>e=.returned (.tuple #[Dh (A6 30),.bool true])/\Below w.heap.size w w':=by
 exact EW
theorem UG(w:World):Calls prog 53 #[.int .i64 31] w fun e w'=>e=.returned (.tuple #[Dh (A6 31),.bool true])/\Below w.heap.size w w':=by
 exact EW
theorem UH(w:World):Calls prog 53 #[.int .i64 32] w fun e w'=>e=.returned (.tuple #[Dh (A6 32),.bool true])/\Below w.heap.size w w':=by
 exact EW
theorem UI(w:World):Calls prog 53 #[.int .i64 33] w fun e w'=>e=.returned (.tuple #[Dh (A6 33),.bool true])/\Below w.heap.size w w':=by
 exact EW
theorem UJ(w:World):Calls prog 53 #[.int .i64 34] w fun e w'=>e=.returned (.tuple #[Dh (A6 34),.bool true])/\Below w.heap.size w w':=by
 exact EW
theorem UK(w:World):Calls prog 53 #[.int .i64 35] w fun e w'=>e=.returned (.tuple #[Dh (A6 35),.bool true])/\Below w.heap.size w w':=by
 exact EW
theorem UL(w:World):Calls prog 53 #[.int .i64 36] w fun e w'=>e=.returned (.tuple #[Dh (A6 36),.bool true])/\Below w.heap.size w w':=by
 exact EW
theorem UM(w:World):Calls prog 53 #[.int .i64 37] w fun e w'=>e=.returned (.tuple #[Dh (A6 37),.bool true])/\Below w.heap.size w w':=by
 exact EW
theorem Ul(w:World):Calls prog 53 #[.int .i64 13] w fun e w'=>e=.returned (.tuple #[Dh (A6 13),.bool true])/\Below w.heap.size w w':=by
 exact EW
theorem Um(w:World):Calls prog 53 #[.int .i64 14] w fun e w'=>e=.returned (.tuple #[Dh (A6 14),.bool true])/\Below w.heap.size w w':=by
 exact EW
theorem Uo(w:World):Calls prog 53 #[.int .i64 15] w fun e w'=>e=.returned (.tuple #[Dh (A6 15),.bool true])/\Below w.heap.size w w':=by
 exact EW
theorem Uq(w:World):Calls prog 53 #[.int .i64 16] w fun e w'=>e=.returned (.tuple #[Dh (A6 16),.bool true])/\Below w.heap.size w w':=by
 exact EW
theorem Ur(w:World):Calls prog 53 #[.int .i64 17] w fun e w'=>e=.returned (.tuple #[Dh (A6 17),.bool true])/\Below w.heap.size w w':=by
 exact EW
theorem Us(w:World):Calls prog 53 #[.int .i64 18] w fun e w'=>e=.returned (.tuple #[Dh (A6 18),.bool true])/\Below w.heap.size w w':=by
 exact EW
theorem Ut(w:World):Calls prog 53 #[.int .i64 19] w fun e w'=>e=.returned (.tuple #[Dh (A6 19),.bool true])/\Below w.heap.size w w':=by
 exact EW
theorem Uu(w:World):Calls prog 53 #[.int .i64 20] w fun e w'=>e=.returned (.tuple #[Dh (A6 20),.bool true])/\Below w.heap.size w w':=by
 exact EW
theorem Uv(w:World):Calls prog 53 #[.int .i64 21] w fun e w'=>e=.returned (.tuple #[Dh (A6 21),.bool true])/\Below w.heap.size w w':=by
 exact EW
theorem Uw(w:World):Calls prog 53 #[.int .i64 22] w fun e w'=>e=.returned (.tuple #[Dh (A6 22),.bool true])/\Below w.heap.size w w':=by
 exact EW
theorem Ux(w:World):Calls prog 53 #[.int .i64 23] w fun e w'=>e=.returned (.tuple #[Dh (A6 23),.bool true])/\Below w.heap.size w w':=by
 exact EW
theorem Uy(w:World):Calls prog 53 #[.int .i64 24] w fun e w'=>e=.returned (.tuple #[Dh (A6 24),.bool true])/\Below w.heap.size w w':=by
 exact EW
theorem Uz(w:World):Calls prog 53 #[.int .i64 25] w fun e w'=>e=.returned (.tuple #[Dh (A6 25),.bool true])/\Below w.heap.size w w':=by
 exact EW
theorem UA(w:World):Calls prog 53 #[.int .i64 26] w fun e w'=>e=.returned (.tuple #[Dh (A6 26),.bool true])/\Below w.heap.size w w':=by
 exact EW
theorem UC(w:World):Calls prog 53 #[.int .i64 27] w fun e w'=>e=.returned (.tuple #[Dh (A6 27),.bool true])/\Below w.heap.size w w':=by
 exact EW
theorem UD(w:World):Calls prog 53 #[.int .i64 28] w fun e w'=>e=.returned (.tuple #[Dh (A6 28),.bool true])/\Below w.heap.size w w':=by
 exact EW
theorem UE(w:World):Calls prog 53 #[.int .i64 29] w fun e w'=>e=.returned (.tuple #[Dh (A6 29),.bool true])/\Below w.heap.size w w':=by
 exact EW
theorem OS(op:Int)(h:As op=false)(w:World):Calls prog 53 #[.int .i64 op] w fun e w'=>e=.returned (.tuple #[Dh ⟨0,0,0,0,0⟩,.bool false])/\Below w.heap.size w w':=by
 have hh:op<1\/37<op:=by unfold As at h;simp at h;omega
 have e1:(op==1)=false:=by have:op≠1:=oM;simpa using this
 have e2:(op==2)=false:=by have:op≠2:=oM;simpa using this
 have e3:(op==3)=false:=by have:op≠3:=oM;simpa using this
 have e4:(op==4)=false:=by have:op≠4:=oM;simpa using this
 have e5:(op==5)=false:=by have:op≠5:=oM;simpa using this
 have e6:(op==6)=false:=by have:op≠6:=oM;simpa using this
 have e7:(op==7)=false:=by have:op≠7:=oM;simpa using this
 have e8:(op==8)=false:=by have:op≠8:=oM;simpa using this
 have e9:(op==9)=false:=by have:op≠9:=oM;simpa using this
 have e10:(op==10)=false:=by have:op≠10:=oM;simpa using this
 have e11:(op==11)=false:=by have:op≠11:=oM;simpa using this
 have e12:(op==12)=false:=by have:op≠12:=oM;simpa using this
 have e13:(op==13)=false:=by have:op≠13:=oM;simpa using this
 have e14:(op==14)=false:=by have:op≠14:=oM;simpa using this
 have e15:(op==15)=false:=by have:op≠15:=oM;simpa using this
 have e16:(op==16)=false:=by have:op≠16:=oM;simpa using this
 have e17:(op==17)=false:=by have:op≠17:=oM;simpa using this
 have e18:(op==18)=false:=by have:op≠18:=oM;simpa using this
 have e19:(op==19)=false:=by have:op≠19:=oM;simpa using this
 have e20:(op==20)=false:=by have:op≠20:=oM;simpa using this
 have e21:(op==21)=false:=by have:op≠21:=oM;simpa using this
 have e22:(op==22)=false:=by have:op≠22:=oM;simpa using this
 have e23:(op==23)=false:=by have:op≠23:=oM;simpa using this
 have e24:(op==24)=false:=by have:op≠24:=oM;simpa using this
 have e25:(op==25)=false:=by have:op≠25:=oM;simpa using this
 have e26:(op==26)=false:=by have:op≠26:=oM;simpa using this
 have e27:(op==27)=false:=by have:op≠27:=oM;simpa using this
 have e28:(op==28)=false:=by have:op≠28:=oM;simpa using this
 have e29:(op==29)=false:=by have:op≠29:=oM;simpa using this
 have e30:(op==30)=false:=by have:op≠30:=oM;simpa using this
 have e31:(op==31)=false:=by have:op≠31:=oM;simpa using this
 have e32:(op==32)=false:=by have:op≠32:=oM;simpa using this
 have e33:(op==33)=false:=by have:op≠33:=oM;simpa using this
 have e34:(op==34)=false:=by have:op≠34:=oM;simpa using this
 have e35:(op==35)=false:=by have:op≠35:=oM;simpa using this
 have e36:(op==36)=false:=by have:op≠36:=oM;simpa using this
 have e37:(op==37)=false:=by have:op≠37:=oM;simpa using this
 clear hh h;exact EW
theorem GB(op:Int)(h:As op=false):A6 op=⟨0,0,0,0,0⟩:=by
 have hh:op<1\/37<op:=by unfold As at h;simp at h;omega
 unfold A6
 repeat rw[if_neg oM]
theorem Ka(op:Int)(w:World):Calls prog 53 #[.int .i64 op] w fun e w'=>e=.returned (.tuple #[Dh (A6 op),.bool (As op)])/\Below w.heap.size w w':=by
 by_cases h:As op=false
 ·rw[h,GB op h];exact OS op h w
 ·have hh:1<=op/\op<=37:=by unfold As at h;simp at h;omega
  rw[show As op=true by simpa using h];clear h;by_cases k1:op=1
  ·subst k1;exact XQ w
  by_cases k2:op=2
  ·subst k2;exact XR w
  by_cases k3:op=3
  ·subst k3;exact XS w
  by_cases k4:op=4
  ·subst k4;exact XT w
  by_cases k5:op=5
  ·subst k5;exact XU w
  by_cases k6:op=6
  ·subst k6;exact XV w
  by_cases k7:op=7
  ·subst k7;exact XW w
  by_cases k8:op=8
  ·subst k8;exact XX w
  by_cases k9:op=9
  ·subst k9;exact XY w
  by_cases k10:op=10
  ·subst k10;exact Ui w
  by_cases k11:op=11
  ·subst k11;exact Uj w
  by_cases k12:op=12
  ·subst k12;exact Uk w
  by_cases k13:op=13
  ·subst k13;exact Ul w
  by_cases k14:op=14
  ·subst k14;exact Um w
  by_cases k15:op=15
  ·subst k15;exact Uo w
  by_cases k16:op=16
  ·subst k16;exact Uq w
  by_cases k17:op=17
  ·subst k17;exact Ur w
  by_cases k18:op=18
  ·subst k18;exact Us w
  by_cases k19:op=19
  ·subst k19;exact Ut w
  by_cases k20:op=20
  ·subst k20;exact Uu w
  by_cases k21:op=21
  ·subst k21;exact Uv w
  by_cases k22:op=22
  ·subst k22;exact Uw w
  by_cases k23:op=23
  ·subst k23;exact Ux w
  by_cases k24:op=24
  ·subst k24;exact Uy w
  by_cases k25:op=25
  ·subst k25;exact Uz w
  by_cases k26:op=26
  ·subst k26;exact UA w
  by_cases k27:op=27
  ·subst k27;exact UC w
  by_cases k28:op=28
  ·subst k28;exact UD w
  by_cases k29:op=29
  ·subst k29;exact UE w
  by_cases k30:op=30
  ·subst k30;exact UF w
  by_cases k31:op=31
  ·subst k31;exact UG w
  by_cases k32:op=32
  ·subst k32;exact UH w
  by_cases k33:op=33
  ·subst k33;exact UI w
  by_cases k34:op=34
  ·subst k34;exact UJ w
  by_cases k35:op=35
  ·subst k35;exact UK w
  by_cases k36:op=36
  ·subst k36;exact UL w
  by_cases k37:op=37
  ·subst k37;exact UM w
  omega
theorem Qf(w:World):Calls prog 67 #[.int .i64 30] w fun e w'=>e=.returned (.tuple #[.string ⟨#[118,45,45,45,112]⟩,.bool true])/\w'=w:=by
 exact EX
theorem Qg(w:World):Calls prog 67 #[.int .i64 31] w fun e w'=>e=.returned (.tuple #[.string ⟨#[45,118,45,45,112]⟩,.bool true])/\w'=w:=by
 exact EX
theorem Qh(w:World):Calls prog 67 #[.int .i64 32] w fun e w'=>e=.returned (.tuple #[.string ⟨#[97,45,45,45,115]⟩,.bool true])/\w'=w:=by
 exact EX
theorem Qi(w:World):Calls prog 67 #[.int .i64 33] w fun e w'=>e=.returned (.tuple #[.string ⟨#[45,97,45,45,115]⟩,.bool true])/\w'=w:=by
 exact EX
theorem Qj(w:World):Calls prog 67 #[.int .i64 34] w fun e w'=>e=.returned (.tuple #[.string ⟨#[45,119,45,45,45]⟩,.bool true])/\w'=w:=by
 exact EX
theorem Qk(w:World):Calls prog 67 #[.int .i64 35] w fun e w'=>e=.returned (.tuple #[.string ⟨#[45,45,45,45,45]⟩,.bool true])/\w'=w:=by
 exact EX
theorem Ql(w:World):Calls prog 67 #[.int .i64 36] w fun e w'=>e=.returned (.tuple #[.string ⟨#[45,45,45,45,113]⟩,.bool true])/\w'=w:=by
 exact EX
theorem Qm(w:World):Calls prog 67 #[.int .i64 37] w fun e w'=>e=.returned (.tuple #[.string ⟨#[45,45,45,45,45]⟩,.bool true])/\w'=w:=by
 exact EX
theorem Q7(w:World):Calls prog 67 #[.int .i64 22] w fun e w'=>e=.returned (.tuple #[.string ⟨#[119,119,119,45,45]⟩,.bool true])/\w'=w:=by
 exact EX
theorem Q8(w:World):Calls prog 67 #[.int .i64 23] w fun e w'=>e=.returned (.tuple #[.string ⟨#[119,119,119,45,45]⟩,.bool true])/\w'=w:=by
 exact EX
theorem Q9(w:World):Calls prog 67 #[.int .i64 24] w fun e w'=>e=.returned (.tuple #[.string ⟨#[119,119,119,45,45]⟩,.bool true])/\w'=w:=by
 exact EX
theorem Qa(w:World):Calls prog 67 #[.int .i64 25] w fun e w'=>e=.returned (.tuple #[.string ⟨#[119,119,45,45,45]⟩,.bool true])/\w'=w:=by
 exact EX
theorem Qb(w:World):Calls prog 67 #[.int .i64 26] w fun e w'=>e=.returned (.tuple #[.string ⟨#[119,119,119,119,45]⟩,.bool true])/\w'=w:=by
 exact EX
theorem Qc(w:World):Calls prog 67 #[.int .i64 27] w fun e w'=>e=.returned (.tuple #[.string ⟨#[119,119,119,45,45]⟩,.bool true])/\w'=w:=by
 exact EX
theorem Qd(w:World):Calls prog 67 #[.int .i64 28] w fun e w'=>e=.returned (.tuple #[.string ⟨#[119,119,119,45,45]⟩,.bool true])/\w'=w:=by
 exact EX
theorem Qe(w:World):Calls prog 67 #[.int .i64 29] w fun e w'=>e=.returned (.tuple #[.string ⟨#[118,45,45,45,112]⟩,.bool true])/\w'=w:=by
 exact EX
theorem PU(w:World):Calls prog 67 #[.int .i64 13] w fun e w'=>e=.returned (.tuple #[.string ⟨#[100,120,45,45,45]⟩,.bool true])/\w'=w:=by
 exact EX
theorem PV(w:World):Calls prog 67 #[.int .i64 14] w fun e w'=>e=.returned (.tuple #[.string ⟨#[100,120,45,45,45]⟩,.bool true])/\w'=w:=by
 exact EX
theorem PX(w:World):Calls prog 67 #[.int .i64 15] w fun e w'=>e=.returned (.tuple #[.string ⟨#[100,120,120,120,45]⟩,.bool true])/\w'=w:=by
 exact EX
theorem PY(w:World):Calls prog 67 #[.int .i64 16] w fun e w'=>e=.returned (.tuple #[.string ⟨#[110,110,119,45,45]⟩,.bool true])/\w'=w:=by
 exact EX
theorem PZ(w:World):Calls prog 67 #[.int .i64 17] w fun e w'=>e=.returned (.tuple #[.string ⟨#[110,119,45,45,45]⟩,.bool true])/\w'=w:=by
 exact EX
theorem Q0(w:World):Calls prog 67 #[.int .i64 18] w fun e w'=>e=.returned (.tuple #[.string ⟨#[119,110,45,45,45]⟩,.bool true])/\w'=w:=by
 exact EX
theorem Q4(w:World):Calls prog 67 #[.int .i64 19] w fun e w'=>e=.returned (.tuple #[.string ⟨#[110,118,45,45,45]⟩,.bool true])/\w'=w:=by
 exact EX
theorem Q5(w:World):Calls prog 67 #[.int .i64 20] w fun e w'=>e=.returned (.tuple #[.string ⟨#[110,118,45,45,45]⟩,.bool true])/\w'=w:=by
 exact EX
theorem Q6(w:World):Calls prog 67 #[.int .i64 21] w fun e w'=>e=.returned (.tuple #[.string ⟨#[119,119,45,45,45]⟩,.bool true])/\w'=w:=by
 exact EX
theorem UQ(w:World):Calls prog 67 #[.int .i64 1] w fun e w'=>e=.returned (.tuple #[.string ⟨#[110,45,45,45,45]⟩,.bool true])/\w'=w:=by
 exact EX
theorem UR(w:World):Calls prog 67 #[.int .i64 2] w fun e w'=>e=.returned (.tuple #[.string ⟨#[119,45,45,45,105]⟩,.bool true])/\w'=w:=by
 exact EX
theorem US(w:World):Calls prog 67 #[.int .i64 3] w fun e w'=>e=.returned (.tuple #[.string ⟨#[97,99,45,45,45]⟩,.bool true])/\w'=w:=by
 exact EX
theorem UT(w:World):Calls prog 67 #[.int .i64 4] w fun e w'=>e=.returned (.tuple #[.string ⟨#[100,120,120,45,45]⟩,.bool true])/\w'=w:=by
 exact EX
theorem UU(w:World):Calls prog 67 #[.int .i64 5] w fun e w'=>e=.returned (.tuple #[.string ⟨#[100,120,120,45,45]⟩,.bool true])/\w'=w:=by
 exact EX
theorem UV(w:World):Calls prog 67 #[.int .i64 6] w fun e w'=>e=.returned (.tuple #[.string ⟨#[100,120,120,45,45]⟩,.bool true])/\w'=w:=by
 exact EX
theorem UW(w:World):Calls prog 67 #[.int .i64 7] w fun e w'=>e=.returned (.tuple #[.string ⟨#[100,120,120,45,45]⟩,.bool true])/\w'=w:=by
 exact EX
theorem UX(w:World):Calls prog 67 #[.int .i64 8] w fun e w'=>e=.returned (.tuple #[.string ⟨#[100,120,120,45,45]⟩,.bool true])/\w'=w:=by
 exact EX
theorem UY(w:World):Calls prog 67 #[.int .i64 9] w fun e w'=>e=.returned (.tuple #[.string ⟨#[100,120,120,45,45]⟩,.bool true])/\w'=w:=by
 exact EX
theorem PQ(w:World):Calls prog 67 #[.int .i64 10] w fun e w'=>e=.returned (.tuple #[.string ⟨#[100,120,120,45,45]⟩,.bool true])/\w'=w:=by
 exact EX
theorem PR(w:World):Calls prog 67 #[.int .i64 11] w fun e w'=>e=.returned (.tuple #[.string ⟨#[100,120,45,45,45]⟩,.bool true])/\w'=w:=by
 exact EX
theorem PT(w:World):Calls prog 67 #[.int .i64 12] w fun e w'=>e=.returned (.tuple #[.string ⟨#[100,120,45,45,45]⟩,.bool true])/\w'=w:=by
 exact EX
def Vd:Wk->List Au->Wk
 |s,[]=>s
 |s,i::r=>Vd (Aq s i) r
def Cr(c:Cd):Wk->List Au->Bool
 |_,[]=>true
 |s,i::r=>AQ c s i&&Cr c (Aq s i) r
theorem Tp{c:Cd}:∀ {l:List Au} {s:Wk} {k:Nat},(Jd c s k l).1=0↔Cr c s l=true/\(Vd s l).opens.isEmpty=true
 |[],s,k=>by
  simp only[Jd,Cr,Vd,true_and];by_cases h:s.opens.isEmpty=true
  ·simp[h]
  ·simp[h]
 |i::l,s,k=>by
  simp only[Jd,Cr,Vd,Bool.and_eq_true];by_cases h:AQ c s i=true
  ·rw[if_pos h,Tp (k:=k+1)];simp[h]
  ·rw[if_neg h];simp[h]
theorem Jw{c:Cd}:(Ar c).1=0↔Cb c=0/\Cr c ⟨[],[]⟩ c.list=true/\(Vd ⟨[],[]⟩ c.list).opens.isEmpty=true:=by
 unfold Ar;by_cases h:Cb c=0
 ·rw[if_neg (by simp[h]),Tp];simp[h]
 ·rw[if_pos h];simp[h]
end Go.Proofs.YtbinohkcolcbfaaGreat
