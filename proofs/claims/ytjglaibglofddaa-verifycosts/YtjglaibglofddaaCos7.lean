import Derived.Test.YtjglaibglofddaaCos2
import Derived.Test.YtjglaibglofddaaRows
import Derived.WalkKit
import Derived.WalkSpells
import Derived.WalkLawsBesides
import Derived.Test.YtjglaibglofddaaCos1
namespace Go.Proofs.Ytjglaibglofddaa
open Go.RowKit Go.Proofs.Try
set_option linter.all false
set_option maxRecDepth 100000
set_option maxHeartbeats 16000000
theorem Js(w:World):Calls prog 42 #[.int .i64 1] w fun e w'=>e=.returned (.tuple #[Bn (Ad 1),.bool true])/\Below w.heap.size w w':=by
 exact BY
theorem Jt(w:World):Calls prog 42 #[.int .i64 2] w fun e w'=>e=.returned (.tuple #[Bn (Ad 2),.bool true])/\Below w.heap.size w w':=by
 exact BY
theorem Ju(w:World):Calls prog 42 #[.int .i64 3] w fun e w'=>e=.returned (.tuple #[Bn (Ad 3),.bool true])/\Below w.heap.size w w':=by
 exact BY
theorem Jv(w:World):Calls prog 42 #[.int .i64 4] w fun e w'=>e=.returned (.tuple #[Bn (Ad 4),.bool true])/\Below w.heap.size w w':=by
 exact BY
theorem Jw(w:World):Calls prog 42 #[.int .i64 5] w fun e w'=>e=.returned (.tuple #[Bn (Ad 5),.bool true])/\Below w.heap.size w w':=by
 exact BY
theorem Jx(w:World):Calls prog 42 #[.int .i64 6] w fun e w'=>e=.returned (.tuple #[Bn (Ad 6),.bool true])/\Below w.heap.size w w':=by
 exact BY
theorem Jy(w:World):Calls prog 42 #[.int .i64 7] w fun e w'=>e=.returned (.tuple #[Bn (Ad 7),.bool true])/\Below w.heap.size w w':=by
 exact BY
theorem Jz(w:World):Calls prog 42 #[.int .i64 8] w fun e w'=>e=.returned (.tuple #[Bn (Ad 8),.bool true])/\Below w.heap.size w w':=by
 exact BY
theorem JA(w:World):Calls prog 42 #[.int .i64 9] w fun e w'=>e=.returned (.tuple #[Bn (Ad 9),.bool true])/\Below w.heap.size w w':=by
 exact BY
theorem I1(w:World):Calls prog 42 #[.int .i64 10] w fun e w'=>e=.returned (.tuple #[Bn (Ad 10),.bool true])/\Below w.heap.size w w':=by
 exact BY
theorem I2(w:World):Calls prog 42 #[.int .i64 11] w fun e w'=>e=.returned (.tuple #[Bn (Ad 11),.bool true])/\Below w.heap.size w w':=by
 exact BY
theorem I3(w:World):Calls prog 42 #[.int .i64 12] w fun e w'=>e=.returned (.tuple #[Bn (Ad 12),.bool true])/\Below w.heap.size w w':=by
 exact BY
theorem I4(w:World):Calls prog 42 #[.int .i64 13] w fun e w'=>e=.returned (.tuple #[Bn (Ad 13),.bool true])/\Below w.heap.size w w':=by
 exact BY
theorem I5(w:World):Calls prog 42 #[.int .i64 14] w fun e w'=>e=.returned (.tuple #[Bn (Ad 14),.bool true])/\Below w.heap.size w w':=by
 exact BY
theorem I6(w:World):Calls prog 42 #[.int .i64 15] w fun e w'=>e=.returned (.tuple #[Bn (Ad 15),.bool true])/\Below w.heap.size w w':=by
 exact BY
theorem I7(w:World):Calls prog 42 #[.int .i64 16] w fun e w'=>e=.returned (.tuple #[Bn (Ad 16),.bool true])/\Below w.heap.size w w':=by
 exact BY
theorem I8(w:World):Calls prog 42 #[.int .i64 17] w fun e w'=>e=.returned (.tuple #[Bn (Ad 17),.bool true])/\Below w.heap.size w w':=by
 exact BY
theorem I9(w:World):Calls prog 42 #[.int .i64 18] w fun e w'=>e=.returned (.tuple #[Bn (Ad 18),.bool true])/\Below w.heap.size w w':=by
 exact BY
theorem Ia(w:World):Calls prog 42 #[.int .i64 19] w fun e w'=>e=.returned (.tuple #[Bn (Ad 19),.bool true])/\Below w.heap.size w w':=by
 exact BY
theorem Ib(w:World):Calls prog 42 #[.int .i64 20] w fun e w'=>e=.returned (.tuple #[Bn (Ad 20),.bool true])/\Below w.heap.size w w':=by
 exact BY
theorem Ic(w:World):Calls prog 42 #[.int .i64 21] w fun e w'=>e=.returned (.tuple #[Bn (Ad 21),.bool true])/\Below w.heap.size w w':=by
 exact BY
theorem Ie(w:World):Calls prog 42 #[.int .i64 22] w fun e w'=>e=.returned (.tuple #[Bn (Ad 22),.bool true])/\Below w.heap.size w w':=by
 exact BY
theorem If(w:World):Calls prog 42 #[.int .i64 23] w fun e w'=>e=.returned (.tuple #[Bn (Ad 23),.bool true])/\Below w.heap.size w w':=by
 exact BY
theorem Ig(w:World):Calls prog 42 #[.int .i64 24] w fun e w'=>e=.returned (.tuple #[Bn (Ad 24),.bool true])/\Below w.heap.size w w':=by
 exact BY
theorem Ih(w:World):Calls prog 42 #[.int .i64 25] w fun e w'=>e=.returned (.tuple #[Bn (Ad 25),.bool true])/\Below w.heap.size w w':=by
 exact BY
theorem Ii(w:World):Calls prog 42 #[.int .i64 26] w fun e w'=>e=.returned (.tuple #[Bn (Ad 26),.bool true])/\Below w.heap.size w w':=by
 exact BY
theorem Ij(w:World):Calls prog 42 #[.int .i64 27] w fun e w'=>e=.returned (.tuple #[Bn (Ad 27),.bool true])/\Below w.heap.size w w':=by
 exact BY
theorem Ik(w:World):Calls prog 42 #[.int .i64 28] w fun e w'=>e=.returned (.tuple #[Bn (Ad 28),.bool true])/\Below w.heap.size w w':=by
 exact BY
theorem Il(w:World):Calls prog 42 #[.int .i64 29] w fun e w'=>e=.returned (.tuple #[Bn (Ad 29),.bool true])/\Below w.heap.size w w':=by
 exact BY
theorem Im(w:World):Calls prog 42 #[.int .i64 30] w fun e w'=>e=.returned (.tuple #[Bn (Ad 30),.bool true])/\Below w.heap.size w w':=by
 exact BY
theorem In(w:World):Calls prog 42 #[.int .i64 31] w fun e w'=>e=.returned (.tuple #[Bn (Ad 31),.bool true])/\Below w.heap.size w w':=by
 exact BY
theorem Io(w:World):Calls prog 42 #[.int .i64 32] w fun e w'=>e=.returned (.tuple #[Bn (Ad 32),.bool true])/\Below w.heap.size w w':=by
 exact BY
theorem Ip(w:World):Calls prog 42 #[.int .i64 33] w fun e w'=>e=.returned (.tuple #[Bn (Ad 33),.bool true])/\Below w.heap.size w w':=by
 exact BY
theorem Iq(w:World):Calls prog 42 #[.int .i64 34] w fun e w'=>e=.returned (.tuple #[Bn (Ad 34),.bool true])/\Below w.heap.size w w':=by
 exact BY
theorem Ir(w:World):Calls prog 42 #[.int .i64 35] w fun e w'=>e=.returned (.tuple #[Bn (Ad 35),.bool true])/\Below w.heap.size w w':=by
 exact BY
theorem Is(w:World):Calls prog 42 #[.int .i64 36] w fun e w'=>e=.returned (.tuple #[Bn (Ad 36),.bool true])/\Below w.heap.size w w':=by
 exact BY
theorem It(w:World):Calls prog 42 #[.int .i64 37] w fun e w'=>e=.returned (.tuple #[Bn (Ad 37),.bool true])/\Below w.heap.size w w':=by
 exact BY
theorem FE(op:Int)(h:Aq op=false)(w:World):Calls prog 42 #[.int .i64 op] w fun e w'=>e=.returned (.tuple #[Bn ⟨0,0,0,0,0⟩,.bool false])/\Below w.heap.size w w':=by
 have hh:op<1\/37<op:=by unfold Aq at h;simp at h;omega
 have e1:(op==1)=false:=by have:op≠1:=oM;simpa using this
 have e2:(op==2)=false:=by have:op≠2:=oM;simpa using this
 have e3:(op==3)=false:=by have:op≠3:=oM;simpa using this
 have e4:(op==4)=false:=by have:op≠4:=oM;simpa using this
 have e5:(op==5)=false:=by have:op≠5:=oM;simpa using this
 have e6:(op==6)=false:=by have:op≠6:=oM;simpa using this
 have e7:(op==7)=false:=by have:op≠7:=oM;simpa using this
 have e8:(op==8)=false:=by have:op≠8:=oM;simpa using this
 have e9:(op==9)=false:=by have:op≠9:=oM;simpa using this
 have e10:(op==10)=false:=by have:op≠10:=oM;simpa using this
 have e11:(op==11)=false:=by have:op≠11:=oM;simpa using this
 have e12:(op==12)=false:=by have:op≠12:=oM;simpa using this
 have e13:(op==13)=false:=by have:op≠13:=oM;simpa using this
 have e14:(op==14)=false:=by have:op≠14:=oM;simpa using this
 have e15:(op==15)=false:=by have:op≠15:=oM;simpa using this
 have e16:(op==16)=false:=by have:op≠16:=oM;simpa using this
 have e17:(op==17)=false:=by have:op≠17:=oM;simpa using this
 have e18:(op==18)=false:=by have:op≠18:=oM;simpa using this
 have e19:(op==19)=false:=by have:op≠19:=oM;simpa using this
 have e20:(op==20)=false:=by have:op≠20:=oM;simpa using this
 have e21:(op==21)=false:=by have:op≠21:=oM;simpa using this
 have e22:(op==22)=false:=by have:op≠22:=oM;simpa using this
 have e23:(op==23)=false:=by have:op≠23:=oM;simpa using this
 have e24:(op==24)=false:=by have:op≠24:=oM;simpa using this
 have e25:(op==25)=false:=by have:op≠25:=oM;simpa using this
 have e26:(op==26)=false:=by have:op≠26:=oM;simpa using this
 have e27:(op==27)=false:=by have:op≠27:=oM;simpa using this
 have e28:(op==28)=false:=by have:op≠28:=oM;simpa using this
 have e29:(op==29)=false:=by have:op≠29:=oM;simpa using this
 have e30:(op==30)=false:=by have:op≠30:=oM;simpa using this
 have e31:(op==31)=false:=by have:op≠31:=oM;simpa using this
 have e32:(op==32)=false:=by have:op≠32:=oM;simpa using this
 have e33:(op==33)=false:=by have:op≠33:=oM;simpa using this
 have e34:(op==34)=false:=by have:op≠34:=oM;simpa using this
 have e35:(op==35)=false:=by have:op≠35:=oM;simpa using this
 have e36:(op==36)=false:=by have:op≠36:=oM;simpa using this
 have e37:(op==37)=false:=by have:op≠37:=oM;simpa using this
 clear hh h;exact BY
theorem CS(op:Int)(h:Aq op=false):Ad op=⟨0,0,0,0,0⟩:=by
 have hh:op<1\/37<op:=by unfold Aq at h;simp at h;omega
 unfold Ad
 repeat rw[if_neg oM]
theorem H2(op:Int)(w:World):Calls prog 42 #[.int .i64 op] w fun e w'=>e=.returned (.tuple #[Bn (Ad op),.bool (Aq op)])/\Below w.heap.size w w':=by
 by_cases h:Aq op=false
 .rw[h,CS op h];exact FE op h w
 .have hh:1<=op/\op<=37:=by unfold Aq at h;simp at h;omega
  rw[show Aq op=true by simpa using h];clear h;by_cases k1:op=1
  .subst k1;exact Js w
  by_cases k2:op=2
  .subst k2;exact Jt w
  by_cases k3:op=3
  .subst k3;exact Ju w
  by_cases k4:op=4
  .subst k4;exact Jv w
  by_cases k5:op=5
  .subst k5;exact Jw w
  by_cases k6:op=6
  .subst k6;exact Jx w
  by_cases k7:op=7
  .subst k7;exact Jy w
  by_cases k8:op=8
  .subst k8;exact Jz w
  by_cases k9:op=9
  .subst k9;exact JA w
  by_cases k10:op=10
  .subst k10;exact I1 w
  by_cases k11:op=11
  .subst k11;exact I2 w
  by_cases k12:op=12
  .subst k12;exact I3 w
  by_cases k13:op=13
  .subst k13;exact I4 w
  by_cases k14:op=14
  .subst k14;exact I5 w
  by_cases k15:op=15
  .subst k15;exact I6 w
  by_cases k16:op=16
  .subst k16;exact I7 w
  by_cases k17:op=17
  .subst k17;exact I8 w
  by_cases k18:op=18
  .subst k18;exact I9 w
  by_cases k19:op=19
  .subst k19;exact Ia w
  by_cases k20:op=20
  .subst k20;exact Ib w
  by_cases k21:op=21
  .subst k21;exact Ic w
  by_cases k22:op=22
  .subst k22;exact Ie w
  by_cases k23:op=23
  .subst k23;exact If w
  by_cases k24:op=24
  .subst k24;exact Ig w
  by_cases k25:op=25
  .subst k25;exact Ih w
  by_cases k26:op=26
  .subst k26;exact Ii w
  by_cases k27:op=27
  .subst k27;exact Ij w
  by_cases k28:op=28
  .subst k28;exact Ik w
  by_cases k29:op=29
  .subst k29;exact Il w
  by_cases k30:op=30
  .subst k30;exact Im w
  by_cases k31:op=31
  .subst k31;exact In w
  by_cases k32:op=32
  .subst k32;exact Io w
  by_cases k33:op=33
  .subst k33;exact Ip w
  by_cases k34:op=34
  .subst k34;exact Iq w
  by_cases k35:op=35
  .subst k35;exact Ir w
  by_cases k36:op=36
  .subst k36;exact Is w
  by_cases k37:op=37
  .subst k37;exact It w
  omega
theorem Gd(w:World):Calls prog 54 #[.int .i64 22] w fun e w'=>e=.returned (.tuple #[.string ⟨#[119,119,119,45,45]⟩,.bool true])/\w'=w:=by
 exact BZ
theorem Ge(w:World):Calls prog 54 #[.int .i64 23] w fun e w'=>e=.returned (.tuple #[.string ⟨#[119,119,119,45,45]⟩,.bool true])/\w'=w:=by
 exact BZ
theorem Gf(w:World):Calls prog 54 #[.int .i64 24] w fun e w'=>e=.returned (.tuple #[.string ⟨#[119,119,119,45,45]⟩,.bool true])/\w'=w:=by
 exact BZ
theorem Gg(w:World):Calls prog 54 #[.int .i64 25] w fun e w'=>e=.returned (.tuple #[.string ⟨#[119,119,45,45,45]⟩,.bool true])/\w'=w:=by
 exact BZ
theorem Gh(w:World):Calls prog 54 #[.int .i64 26] w fun e w'=>e=.returned (.tuple #[.string ⟨#[119,119,119,119,45]⟩,.bool true])/\w'=w:=by
 exact BZ
theorem Gi(w:World):Calls prog 54 #[.int .i64 27] w fun e w'=>e=.returned (.tuple #[.string ⟨#[119,119,119,45,45]⟩,.bool true])/\w'=w:=by
 exact BZ
theorem Gj(w:World):Calls prog 54 #[.int .i64 28] w fun e w'=>e=.returned (.tuple #[.string ⟨#[119,119,119,45,45]⟩,.bool true])/\w'=w:=by
 exact BZ
theorem Gk(w:World):Calls prog 54 #[.int .i64 29] w fun e w'=>e=.returned (.tuple #[.string ⟨#[118,45,45,45,112]⟩,.bool true])/\w'=w:=by
 exact BZ
theorem G4(w:World):Calls prog 54 #[.int .i64 13] w fun e w'=>e=.returned (.tuple #[.string ⟨#[100,120,45,45,45]⟩,.bool true])/\w'=w:=by
 exact BZ
theorem G5(w:World):Calls prog 54 #[.int .i64 14] w fun e w'=>e=.returned (.tuple #[.string ⟨#[100,120,45,45,45]⟩,.bool true])/\w'=w:=by
 exact BZ
theorem G6(w:World):Calls prog 54 #[.int .i64 15] w fun e w'=>e=.returned (.tuple #[.string ⟨#[100,120,120,120,45]⟩,.bool true])/\w'=w:=by
 exact BZ
theorem G7(w:World):Calls prog 54 #[.int .i64 16] w fun e w'=>e=.returned (.tuple #[.string ⟨#[110,110,119,45,45]⟩,.bool true])/\w'=w:=by
 exact BZ
theorem G8(w:World):Calls prog 54 #[.int .i64 17] w fun e w'=>e=.returned (.tuple #[.string ⟨#[110,119,45,45,45]⟩,.bool true])/\w'=w:=by
 exact BZ
theorem G9(w:World):Calls prog 54 #[.int .i64 18] w fun e w'=>e=.returned (.tuple #[.string ⟨#[119,110,45,45,45]⟩,.bool true])/\w'=w:=by
 exact BZ
theorem Ga(w:World):Calls prog 54 #[.int .i64 19] w fun e w'=>e=.returned (.tuple #[.string ⟨#[110,118,45,45,45]⟩,.bool true])/\w'=w:=by
 exact BZ
theorem Gb(w:World):Calls prog 54 #[.int .i64 20] w fun e w'=>e=.returned (.tuple #[.string ⟨#[110,118,45,45,45]⟩,.bool true])/\w'=w:=by
 exact BZ
theorem Gc(w:World):Calls prog 54 #[.int .i64 21] w fun e w'=>e=.returned (.tuple #[.string ⟨#[119,119,45,45,45]⟩,.bool true])/\w'=w:=by
 exact BZ

end Go.Proofs.Ytjglaibglofddaa
