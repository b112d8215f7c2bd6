import Derived.Test.YtbinohkcolcbfaaGreatPart7
import Derived.Laws.Externs
import Derived.Below
import Derived.Handy
import Derived.Test.YtbinohkcolcbfaaGreatPart1
set_option maxRecDepth 100000
set_option maxHeartbeats 16000000
namespace Go.Proofs.YtbinohkcolcbfaaGreat
open Go.RowKit Go.Proofs.Tryz
set_option linter.unusedVariables false
theorem belD(w:World):Below w.heap.size w w.drew:=(Below.refl _ _).drew
theorem Zalx(a:Int)(w:World):(callFunc 189 #[.int .u32 a]).run prog w=.ok (.value (.float .f32 a.toNat)) w:=by
 rw[run_callFunc_extern (e:=Extern.MathFloatBits.float32frombits) func189 kR kR kR kR];rfl
theorem to_bits(b:Nat)(w:World):(callFunc 163 #[.float .f32 b]).run prog w=.ok (.value (.int .u32 b)) w:=by
 rw[run_callFunc_extern (e:=Extern.MathFloatBits.float32bits) func163 kR kR kR kR];rfl
theorem Zlu(a:Int)(h0:0<=a)(h1:a<4294967296)(w:World):
 Calls prog 162 #[.int .u32 a] w fun e w'=>e=.returned (.float .f32 a.toNat)/\w'=w:=by
 have hx:=Zalx a w;go_enter func162,ntmps162;go_wp2;go_ret;exact⟨rfl,rfl⟩
theorem Zkm(b:Nat)(h1:b<4294967296)(w:World):
 Calls prog 140 #[.float .f32 b] w fun e w'=>e=.returned (.int .u32 (canon b))/\w'=w:=by
 have hx:=to_bits b w;go_enter func140,ntmps140;exact Zfj
theorem Zafk(a:Int)(h0:0<=a)(h1:a<4294967296)(b:Int)(g0:0<=b)(g1:b<4294967296)(w:World):
 Calls prog 142 #[.int .u32 a,.int .u32 b] w fun e w'=>e=.returned (.int .u32 (fadd a b))/\Below w.heap.size w w':=by
 unfold fadd;cases hr:Ieee.single.add a.toNat b.toNat with
 |none=>
  have hx:=Znl (P:=prog) w .add 208 .f32 a.toNat b.toNat sM hr;have hn:=Zuh a.toNat b.toNat (w.tape w.drawn (.nanBits .f32 a.toNat b.toNat));generalize (Question.nanBits .f32 a.toNat b.toNat).cut (w.tape w.drawn (.nanBits .f32 a.toNat b.toNat))=z at *;have hc:=Zmw hn.1;have hz:=hn.2;clear hr hn;go_enter func142,ntmps142;exact Zbg
 |some z=>
  have hx:=run_float_arith (P:=prog) w .add 208 .f32 a.toNat b.toNat z hr;have hn:=Zxj hr;have hc:=Zlt hn.1;have hz:=hn.2;clear hr hn;go_enter func142,ntmps142;exact Zbu
theorem sub_any(a:Int)(h0:0<=a)(h1:a<4294967296)(b:Int)(g0:0<=b)(g1:b<4294967296)(w:World):
 Calls prog 172 #[.int .u32 a,.int .u32 b] w fun e w'=>e=.returned (.int .u32 (fsub a b))/\Below w.heap.size w w':=by
 unfold fsub;cases hr:Ieee.single.sub a.toNat b.toNat with
 |none=>
  have hx:=Znl (P:=prog) w .sub 208 .f32 a.toNat b.toNat sM hr;have hn:=Zuh a.toNat b.toNat (w.tape w.drawn (.nanBits .f32 a.toNat b.toNat));generalize (Question.nanBits .f32 a.toNat b.toNat).cut (w.tape w.drawn (.nanBits .f32 a.toNat b.toNat))=z at *;have hc:=Zmw hn.1;have hz:=hn.2;clear hr hn;go_enter func172,ntmps172;exact Zbg
 |some z=>
  have hx:=run_float_arith (P:=prog) w .sub 208 .f32 a.toNat b.toNat z hr;have hn:=Zxq hr;have hc:=Zlt hn.1;have hz:=hn.2;clear hr hn;go_enter func172,ntmps172;exact Zbu
theorem Zxa(a:Int)(h0:0<=a)(h1:a<4294967296)(b:Int)(g0:0<=b)(g1:b<4294967296)(w:World):
 Calls prog 139 #[.int .u32 a,.int .u32 b] w fun e w'=>e=.returned (.int .u32 (fmul a b))/\Below w.heap.size w w':=by
 unfold fmul;cases hr:Ieee.single.mul a.toNat b.toNat with
 |none=>
  have hx:=Znl (P:=prog) w .mul 208 .f32 a.toNat b.toNat sM hr;have hn:=Zuh a.toNat b.toNat (w.tape w.drawn (.nanBits .f32 a.toNat b.toNat));generalize (Question.nanBits .f32 a.toNat b.toNat).cut (w.tape w.drawn (.nanBits .f32 a.toNat b.toNat))=z at *;have hc:=Zmw hn.1;have hz:=hn.2;clear hr hn;go_enter func139,ntmps139;exact Zbg
 |some z=>
  have hx:=run_float_arith (P:=prog) w .mul 208 .f32 a.toNat b.toNat z hr;have hn:=Zxt hr;have hc:=Zlt hn.1;have hz:=hn.2;clear hr hn;go_enter func139,ntmps139;exact Zbu
theorem div_any(a:Int)(h0:0<=a)(h1:a<4294967296)(b:Int)(g0:0<=b)(g1:b<4294967296)(w:World):
 Calls prog 173 #[.int .u32 a,.int .u32 b] w fun e w'=>e=.returned (.int .u32 (fdiv a b))/\Below w.heap.size w w':=by
 unfold fdiv;cases hr:Ieee.single.div a.toNat b.toNat with
 |none=>
  have hx:=Znl (P:=prog) w .quo 208 .f32 a.toNat b.toNat sM hr;have hn:=Zuh a.toNat b.toNat (w.tape w.drawn (.nanBits .f32 a.toNat b.toNat));generalize (Question.nanBits .f32 a.toNat b.toNat).cut (w.tape w.drawn (.nanBits .f32 a.toNat b.toNat))=z at *;have hc:=Zmw hn.1;have hz:=hn.2;clear hr hn;go_enter func173,ntmps173;exact Zbg
 |some z=>
  have hx:=run_float_arith (P:=prog) w .quo 208 .f32 a.toNat b.toNat z hr;have hn:=Zxr hr;have hc:=Zlt hn.1;have hz:=hn.2;clear hr hn;go_enter func173,ntmps173;exact Zbu
theorem Zuo(n:Nat)(h:n<2^31):n^^^2^31=2^31+n:=by
 apply Nat.eq_of_testBit_eq;intro i;rw[Nat.testBit_xor,Nat.testBit_two_pow];rcases Nat.lt_trichotomy i 31 with c|c|c
 ·rw[Nat.testBit_two_pow_add_gt c,decide_eq_false (show¬ (31=i) by omega),Bool.xor_false]
 ·subst c;rw[Nat.testBit_two_pow_add_eq];simp
 ·have e1:n.testBit i=false:=Nat.testBit_lt_two_pow (Nat.lt_of_lt_of_le h (Nat.pow_le_pow_right dE oM));have e2:(2^31+n).testBit i=false:=Nat.testBit_lt_two_pow (Nat.lt_of_lt_of_le (show 2^31+n<2^32 by omega) (Nat.pow_le_pow_right dE oM));rw[e1,e2,decide_eq_false (show¬ (31=i) by omega),Bool.xor_false]
theorem Zacg(a:Int)(h0:0<=a)(h1:a<4294967296):bits .xor .u32 a 2147483648=if 2147483648<=a then a-2147483648 else a+2147483648:=by
 rw[u32_xor a _ h0 h1 dE dE,show(2147483648:Int).toNat=2^31 from rfl];by_cases c:2147483648<=a
 ·rw[if_pos c];have e:=Zuo (a.toNat-2^31) oM;rw[show 2^31+(a.toNat-2^31)=a.toNat by omega]at e;rw[←e,Nat.xor_assoc,Nat.xor_self,Nat.xor_zero];omega
 ·rw[if_neg c,Zuo _ oM];omega
theorem neg_any(a:Int)(h0:0<=a)(h1:a<4294967296)(w:World):
 Calls prog 166 #[.int .u32 a] w fun e w'=>e=.returned (.int .u32 (fneg a))/\w'=w:=by
 unfold fneg;have e1:=Zacg a h0 h1;have hb:0<=(if 2147483648<=a then a-2147483648 else a+2147483648)/\(if 2147483648<=a then a-2147483648 else a+2147483648)<4294967296:=by split<;>omega
 generalize (if 2147483648<=a then a-2147483648 else a+2147483648)=z at *;go_enter func166,ntmps166;go_wp2_with(go_at_call 101;refine(Zmg _ hb.1 hb.2 _).mono ?_;rintro e w' ⟨rfl,rfl⟩);go_ret;exact⟨rfl,rfl⟩
theorem abs_any(a:Int)(h0:0<=a)(h1:a<4294967296)(w:World):
 Calls prog 167 #[.int .u32 a] w fun e w'=>e=.returned (.int .u32 (fabs a))/\w'=w:=by
 unfold fabs;have e1:=Zzl a h0 h1;go_enter func167,ntmps167;exact Zfj
theorem Zarq(a:Int)(h0:0<=a)(h1:a<4294967296)(b:Int)(g0:0<=b)(g1:b<4294967296)(w:World):
 Calls prog 176 #[.int .u32 a,.int .u32 b] w fun e w'=>e=.returned (.bool (Zpf a b))/\w'=w:=by
 go_enter func176,ntmps176;go_wp2_with(go_at_call 162;refine(Zlu _ oM oM _).mono ?_;rintro e w' ⟨rfl,rfl⟩);go_ret;exact⟨rfl,rfl⟩
theorem Zara(a:Int)(h0:0<=a)(h1:a<4294967296):ffin a=((cls a != 4)&&(cls a != 5)):=by
 unfold ffin cls;by_cases c:a/8388608%256=255
 ·rw[if_pos c];have:¬ (a%2147483648<2139095040):=oM;by_cases d:a%8388608=0<;>simp[this,d]
 ·rw[if_neg c];have:a%2147483648<2139095040:=oM;simp only[this,decide_true];split<;>(try split)<;>simp
theorem Zacd(a k:Int)(hk:cls a=k)(h0:0<=a)(h1:a<4294967296)(w:World):
 Calls prog 134 #[.int .u32 a] w fun e w'=>e=.returned (.int .i64 k)/\w'=w:=by
 subst hk;exact Zso a h0 h1 w
theorem Zaht(a:Int)(h0:0<=a)(h1:a<4294967296)(w:World):
 Calls prog 170 #[.int .u32 a] w fun e w'=>e=.returned (.bool (ffin a))/\w'=w:=by
 rw[Zara a h0 h1];have hc:cls a=4\/cls a=5\/cls a=1\/cls a=2\/cls a=3:=by
  unfold cls;split<;>split<;>(try split)<;>simp
 rcases hc with hc|hc|hc|hc|hc<;>rw[hc]
 all_goals(
  go_enter func170,ntmps170;go_wp2_with(go_at_call 134;refine(Zacd _ _ hc h0 h1 _).mono ?_;rintro e w' ⟨rfl,rfl⟩);go_ret
  exact⟨rfl,rfl⟩)
theorem Zang(n:Int):canon ((floatOfInt .f32 n:Nat):Int)=Znd n:=Zlt (Zyh (.number (decide (n<0)) n.natAbs 0) rfl)
theorem Zaoy(n:Int):floatOfInt .f32 n<4294967296:=Ieee.single.write_lt (.number (decide (n<0)) n.natAbs 0)
theorem Zapn(n:Int):0<=Znd n/\Znd n<4294967296:=⟨Int.natCast_nonneg _,by have:=Ieee.single.write_lt (.number (decide (n<0)) n.natAbs 0);exact Int.ofNat_lt.2 this⟩
theorem Zaov(n:Int)(h0: -9223372036854775808<=n)(h1:n<=9223372036854775807)(w:World):
 Calls prog 110 #[.int .i64 n] w fun e w'=>e=.returned (.int .u32 (Znd n))/\w'=w:=by
 have hx:=Zang n;have hl:=Zaoy n;go_enter func110,ntmps110;go_wp2_with(go_at_call 140;refine(Zkm _ hl _).mono ?_;rintro e w' ⟨rfl,rfl⟩);go_ret;exact⟨rfl,rfl⟩
theorem Zwn(c:Int)(e0:0<=c)(e1:c<4294967296)(a:Int)(h0:0<=a)(h1:a<4294967296)(b:Int)(g0:0<=b)(g1:b<4294967296)(w:World):
 Calls prog 144 #[.int .u32 c,.int .u32 a,.int .u32 b] w fun e w'=>e=.returned (.int .u32 (fsel c a b))/\w'=w:=by
 have hs:fsel c a b=if cls c=1\/cls c=5 then canon b else canon a:=by
  unfold fsel nan cls;by_cases c1:c/8388608%256=255
  ·by_cases c2:c%8388608=0
   ·have k1:¬ (2139095040<c%2147483648):=oM;have k2:¬ (c%2147483648=0):=oM;simp[c1,c2,k1,k2]
   ·have k1:2139095040<c%2147483648:=oM;simp[c1,c2,k1]
  ·by_cases c2:c/8388608%256=0
   ·by_cases c3:c%8388608=0
    ·have k2:c%2147483648=0:=oM;simp[c2,c3,k2]
    ·have k1:¬ (2139095040<c%2147483648):=oM;have k2:¬ (c%2147483648=0):=oM;simp[c2,c3,k1,k2]
   ·have k1:¬ (2139095040<c%2147483648):=oM;have k2:¬ (c%2147483648=0):=oM;simp[c1,c2,k1,k2]
 rw[hs];have hc:cls c=4\/cls c=5\/cls c=1\/cls c=2\/cls c=3:=by
  unfold cls;split<;>split<;>(try split)<;>simp
 rcases hc with hc|hc|hc|hc|hc<;>rw[hc]
 all_goals(
  go_enter func144,ntmps144;go_wp2_with(first
   |(go_at_call 134;refine(Zacd _ _ hc e0 e1 _).mono ?_;rintro e w' ⟨rfl,rfl⟩)
   |(go_at_call 101;refine(Zmg _ oM oM _).mono ?_;rintro e w' ⟨rfl,rfl⟩))
  go_ret
  exact⟨rfl,rfl⟩)
section
variable {P : Program} (w : World)
theorem Zacr(ts:Array TypeId)(t:TypeId)(x y:Nat)(h:Ieee.single.order x y=none):
 (Builtin.min_ ts t #[.float .f32 x,.float .f32 y]).run P w=.ok (.float .f32 ((Question.nanMinMax .f32 false x y).cut (w.tape w.drawn (.nanMinMax .f32 false x y)))) w.drew:=by
 have h':FloatKind.f32.format.order x y=none:=h;simp[Builtin.min_,Builtin.min2,h',choose,Sem.run,Question.forced]
theorem Zaba(ts:Array TypeId)(t:TypeId)(x y:Nat)(h:Ieee.single.order x y=none):
 (Builtin.max_ ts t #[.float .f32 x,.float .f32 y]).run P w=.ok (.float .f32 ((Question.nanMinMax .f32 true x y).cut (w.tape w.drawn (.nanMinMax .f32 true x y)))) w.drew:=by
 have h':FloatKind.f32.format.order x y=none:=h;simp[Builtin.max_,Builtin.max2,h',choose,Sem.run,Question.forced]
theorem Zagx(ts:Array TypeId)(t:TypeId)(x y:Nat)(h:Ieee.single.order x y=some .lt):(Builtin.min_ ts t #[.float .f32 x,.float .f32 y]).run P w=.ok (.float .f32 x) w:=by
 have h':FloatKind.f32.format.order x y=some .lt:=h;simp[Builtin.min_,Builtin.min2,h']
theorem Zahr(ts:Array TypeId)(t:TypeId)(x y:Nat)(h:Ieee.single.order x y=some .gt):(Builtin.min_ ts t #[.float .f32 x,.float .f32 y]).run P w=.ok (.float .f32 y) w:=by
 have h':FloatKind.f32.format.order x y=some .gt:=h;simp[Builtin.min_,Builtin.min2,h']
theorem Zaic(ts:Array TypeId)(t:TypeId)(x y:Nat)(h:Ieee.single.order x y=some .eq):(Builtin.min_ ts t #[.float .f32 x,.float .f32 y]).run P w=.ok (.float .f32 (if(Ieee.single.read x).neg then x else y)) w:=by
 have h':FloatKind.f32.format.order x y=some .eq:=h;have h2:FloatKind.f32.decode x=Ieee.single.read x:=rfl;simp[Builtin.min_,Builtin.min2,h',h2]
theorem Zagp(ts:Array TypeId)(t:TypeId)(x y:Nat)(h:Ieee.single.order x y=some .lt):(Builtin.max_ ts t #[.float .f32 x,.float .f32 y]).run P w=.ok (.float .f32 y) w:=by
 have h':FloatKind.f32.format.order x y=some .lt:=h;simp[Builtin.max_,Builtin.max2,h']
theorem Zahj(ts:Array TypeId)(t:TypeId)(x y:Nat)(h:Ieee.single.order x y=some .gt):(Builtin.max_ ts t #[.float .f32 x,.float .f32 y]).run P w=.ok (.float .f32 x) w:=by
 have h':FloatKind.f32.format.order x y=some .gt:=h;simp[Builtin.max_,Builtin.max2,h']
theorem Zaio(ts:Array TypeId)(t:TypeId)(x y:Nat)(h:Ieee.single.order x y=some .eq):(Builtin.max_ ts t #[.float .f32 x,.float .f32 y]).run P w=.ok (.float .f32 (if(Ieee.single.read x).neg then y else x)) w:=by
 have h':FloatKind.f32.format.order x y=some .eq:=h;have h2:FloatKind.f32.decode x=Ieee.single.read x:=rfl;simp[Builtin.max_,Builtin.max2,h',h2]
end
theorem Zadb(x:Nat):(Ieee.single.read x).neg=ng x:=by
 rw[Zml];split
 ·rfl
 ·split
  ·rfl
  ·split<;>rfl
theorem ng_le(a:Int)(h0:0<=a)(h1:a<4294967296):ng a.toNat=decide (2147483648<=a):=by
 unfold ng;by_cases c:2147483648<=a<;>simp[c]<;>omega
theorem Zkj{x y:Nat}{o:Ordering}(h:Ieee.single.order x y=some o):rg x<=2139095040/\rg y<=2139095040:=by
 unfold Ieee.Format.order at h;constructor
 ·rcases Nat.lt_or_ge 2139095040 (rg x)with c|c
  ·rw[Zli x c]at h;cases hy:Ieee.single.read y<;>rw[hy]at h<;>simp[Ieee.Datum.order]at h
  ·exact c
 ·rcases Nat.lt_or_ge 2139095040 (rg y)with c|c
  ·rw[Zli y c]at h;cases hx:Ieee.single.read x<;>rw[hx]at h<;>simp[Ieee.Datum.order]at h
  ·exact c
theorem Zjt{a:Int}(h0:0<=a)(h:rg a.toNat<=2139095040):canon (max a 0)=a:=by
 have:=Zlt h;rw[show((a.toNat:Nat):Int)=max a 0 by omega]at this;omega
theorem Zaeu(a:Int)(h0:0<=a)(h1:a<4294967296)(b:Int)(g0:0<=b)(g1:b<4294967296)(w:World):
 Calls prog 143 #[.int .u32 a,.int .u32 b] w fun e w'=>e=.returned (.int .u32 (fmin a b))/\Below w.heap.size w w':=by
 have ha:a.toNat<4294967296:=oM;have hb:b.toNat<4294967296:=oM;unfold fmin ord;rcases hr:Ieee.single.order a.toNat b.toNat with _|(_|_|_)<;>simp only []
 ·have hx:=Zacr (P:=prog) w #[208,208] 208 a.toNat b.toNat hr;have hn:=Zvo false a.toNat b.toNat (w.tape w.drawn (.nanMinMax .f32 false a.toNat b.toNat));generalize (Question.nanMinMax .f32 false a.toNat b.toNat).cut (w.tape w.drawn (.nanMinMax .f32 false a.toNat b.toNat))=z at *;have hc:=Zmw hn.1;have hz:=hn.2;clear hr hn;go_enter func143,ntmps143;exact Zbg
 ·have hx:=Zagx (P:=prog) w #[208,208] 208 a.toNat b.toNat hr;have hca:=Zjt h0 (Zkj hr).1;have hcb:=Zjt g0 (Zkj hr).2;clear hr;go_enter func143,ntmps143;exact Zbr
 ·have hx:=Zaic (P:=prog) w #[208,208] 208 a.toNat b.toNat hr;have hca:=Zjt h0 (Zkj hr).1;have hcb:=Zjt g0 (Zkj hr).2;rw[Zadb,ng_le a h0 h1]at hx;clear hr;by_cases c:2147483648<=a<;>simp only[c,decide_true,decide_false,if_true,if_false,Bool.false_eq_true]at hx ⊢
  all_goals(
   go_enter func143,ntmps143;go_wp2_with(first
    |(go_at_call 162;refine(Zlu _ oM oM _).mono ?_;rintro e w' ⟨rfl,rfl⟩)
    |(go_at_call 140;refine(Zkm _ (by assumption) _).mono ?_;rintro e w' ⟨rfl,rfl⟩))
   go_ret
   exact⟨rfl,Zkp _⟩)
 ·have hx:=Zahr (P:=prog) w #[208,208] 208 a.toNat b.toNat hr;have hca:=Zjt h0 (Zkj hr).1;have hcb:=Zjt g0 (Zkj hr).2;clear hr;go_enter func143,ntmps143;exact Zbr
theorem max_any(a:Int)(h0:0<=a)(h1:a<4294967296)(b:Int)(g0:0<=b)(g1:b<4294967296)(w:World):
 Calls prog 174 #[.int .u32 a,.int .u32 b] w fun e w'=>e=.returned (.int .u32 (fmax a b))/\Below w.heap.size w w':=by
 have ha:a.toNat<4294967296:=oM;have hb:b.toNat<4294967296:=oM;unfold fmax ord;rcases hr:Ieee.single.order a.toNat b.toNat with _|(_|_|_)<;>simp only []
 ·have hx:=Zaba (P:=prog) w #[208,208] 208 a.toNat b.toNat hr;have hn:=Zvo true a.toNat b.toNat (w.tape w.drawn (.nanMinMax .f32 true a.toNat b.toNat));generalize (Question.nanMinMax .f32 true a.toNat b.toNat).cut (w.tape w.drawn (.nanMinMax .f32 true a.toNat b.toNat))=z at *;have hc:=Zmw hn.1;have hz:=hn.2;clear hr hn;go_enter func174,ntmps174;exact Zbg
 ·have hx:=Zagp (P:=prog) w #[208,208] 208 a.toNat b.toNat hr;have hca:=Zjt h0 (Zkj hr).1;have hcb:=Zjt g0 (Zkj hr).2;clear hr;go_enter func174,ntmps174;exact Zbr
 ·have hx:=Zaio (P:=prog) w #[208,208] 208 a.toNat b.toNat hr;have hca:=Zjt h0 (Zkj hr).1;have hcb:=Zjt g0 (Zkj hr).2;rw[Zadb,ng_le a h0 h1]at hx;clear hr;by_cases c:2147483648<=a<;>simp only[c,decide_true,decide_false,if_true,if_false,Bool.false_eq_true]at hx ⊢
  all_goals(
   go_enter func174,ntmps174;go_wp2_with(first
    |(go_at_call 162;refine(Zlu _ oM oM _).mono ?_;rintro e w' ⟨rfl,rfl⟩)
    |(go_at_call 140;refine(Zkm _ (by assumption) _).mono ?_;rintro e w' ⟨rfl,rfl⟩))
   go_ret
   exact⟨rfl,Zkp _⟩)
 ·have hx:=Zahj (P:=prog) w #[208,208] 208 a.toNat b.toNat hr;have hca:=Zjt h0 (Zkj hr).1;have hcb:=Zjt g0 (Zkj hr).2;clear hr;go_enter func174,ntmps174;exact Zbr
end Go.Proofs.YtbinohkcolcbfaaGreat
set_option maxRecDepth 100000
set_option maxHeartbeats 16000000
namespace Go.Proofs.YtbinohkcolcbfaaGreat
open Go.RowKit Go.Proofs.Tryz
set_option linter.unusedVariables false
theorem Zup(a:Nat)(ha:rg a<2139095040)(hs:ng a=false)(h0:mg a≠0):
 ∃r,Ieee.single.sqrt a=some (wd false r)/\Zlv 23 (mv a*2^149) r:=by
 unfold Ieee.Format.sqrt;rw[Zjy a ha,hs];simp only[Ieee.Datum.root,if_neg h0,Bool.false_eq_true,if_false,Option.map_some,Ieee.Format.write];rw[Zjw,Zmb,Zkr];have hl:(mg a).log2<=23:=by
  have:(mg a).log2<24:=(Nat.log2_lt h0).2 (mg_lt a);omega
 generalize hi:(-149+(te a:Int))=i;generalize hm1:2*(23+2)-(mg a).log2=more1;generalize hmore:more1+((i-(more1:Int))%2).toNat=more;have hpar:(i-(more:Int))%2=0:=oM;have hmo:27<=more/\more<=51:=oM;generalize hn:mg a<<<more=n at *;have hlo:2^(mg a).log2<=mg a:=Nat.log2_self_le h0;have hn50:2^50<=n:=by
  rw[←hn,Nat.shiftLeft_eq]
  calc 2^50<=2^((mg a).log2+more):=Nat.pow_le_pow_right dE oM
   _=2^(mg a).log2*2^more:=Nat.pow_add ..
   _<=mg a*2^more:=Nat.mul_le_mul_right _ hlo
 have hrt:=Zrd n (n.log2/2+1) 0 oM (by
  have:n<2^(n.log2+1):=Nat.lt_log2_self;rw[Nat.zero_add,←Nat.pow_add]
  exact Nat.lt_of_lt_of_le this (Nat.pow_le_pow_right dE oM))
 generalize Ieee.Datum.rootFrom n (n.log2/2+1) 0=w at *;have hw:2^24<=w:=by
  rcases Nat.lt_or_ge w (2^24)with c|c
  ·exfalso;have:=Nat.mul_self_le_mul_self (show w+1<=2^24 from c);have e:(2:Nat)^24*2^24<2^50:=dE;omega
  ·exact c
 have big:23+2<=(2*w+(w*w != n).toNat).log2:=by
  apply(Nat.le_log2 oM).2;omega
 refine⟨_,rfl,?_⟩;obtain⟨x,hx⟩:∃x:Nat,(x:Int)=(i-(more:Int))/2+149:=⟨((i-(more:Int))/2+149).toNat,oM⟩
 have hnr:=Ztt 23 (-149) w n ((i-(more:Int))/2-1) dE hrt.1 hrt.2 big x oM;have e:n*(2^x*2^x)=mv a*2^149:=by
  rw[Zqa,←hn,Nat.shiftLeft_eq,←Nat.pow_add,Nat.mul_assoc,Nat.mul_assoc,←Nat.pow_add,←Nat.pow_add];congr 2;omega
 rw[e]at hnr;exact hnr
theorem Zalg(f:Ieee.Format)(hb:f.binade<=f.infRung)(x:Nat)(h:f.infRung<x%f.signWeight):f.read x=.nan (x/f.signWeight%2==1) (x%f.signWeight-f.infRung):=by
 unfold Ieee.Format.read;simp only [];rw[if_neg oM,if_neg oM,if_neg oM]
theorem Zzn(x y t:Nat):Ieee.double.infRung<(Question.nanBits .f64 x y).cut t%Ieee.double.signWeight:=by
 have e:(Question.nanBits .f64 x y).cut t=t%2*9223372036854775808+9218868437227405312+1+t/2%4503599627370495:=rfl;have e1:Ieee.double.infRung=9218868437227405312:=rfl;have e2:Ieee.double.signWeight=9223372036854775808:=rfl;have h2:t%2=0\/t%2=1:=oM;have h3:=Nat.mod_lt (t/2) (show 0<4503599627370495 by decide);rw[e,e1,e2];generalize t/2%4503599627370495=q at *;rcases h2 with h|h<;>rw[h]<;>omega
theorem Zahv(x t:Nat):Ieee.double.infRung<(Question.nanConv .f64 x).cut t%Ieee.double.signWeight:=Zzn 0 0 t
theorem Zvx(x:Nat)(h:Ieee.double.infRung<x%Ieee.double.signWeight):∃s f,FloatKind.f64.decode x=.nan s f:=⟨_,_,Zalg Ieee.double dE x h⟩
theorem Zwu(x:Nat)(h:Ieee.double.infRung<x%Ieee.double.signWeight):Ieee.double.sqrt x=none:=by
 obtain⟨s,f,e⟩:=Zvx x h;unfold Ieee.Format.sqrt;rw[show Ieee.double.read x=_ from e];rfl
theorem Zaif(x:Nat)(h:2139095040<rg x):∃s f,FloatKind.f32.decode x=.nan s f:=⟨_,_,Zli x h⟩
section
variable {P : Program} (w : World)
theorem Ztl(src dst:TypeId)(s k:FloatKind)(b:Nat)(hs:(P.underlying src).isSome=true)(hd:P.underlying dst=some (.float k))(hk:s≠k)(h:∃g f,s.decode b=.nan g f):
 (convert src dst (.float s b)).run P w=.ok (.float k ((Question.nanConv k b).cut (w.tape w.drawn (.nanConv k b)))) w.drew:=by
 obtain⟨u,hs'⟩:=Option.isSome_iff_exists.1 hs;obtain⟨g,f,h⟩:=h;cases u<;>simp[convert,run_underlying hs',run_underlying hd,Conv.floatToFloat,hk,h,choose,Sem.run,Question.forced]
theorem Zzx(x r:Nat)(h:Ieee.double.sqrt x=some r):(Extern.MathSqrt.sqrt #[.float .f64 x]).run P w=.ok (.float .f64 r) w:=by
 have h':FloatKind.f64.format.sqrt x=some r:=h;change Sem.run P (match FloatKind.f64.format.sqrt x with
  |some r=>pure (Value.float .f64 r)
  |none=>do pure (Value.float .f64 (←choose (.nanBits .f64 x x)))) w=_
 rw[h'];rfl
theorem Zaac(x:Nat)(h:Ieee.double.sqrt x=none):(Extern.MathSqrt.sqrt #[.float .f64 x]).run P w=.ok (.float .f64 ((Question.nanBits .f64 x x).cut (w.tape w.drawn (.nanBits .f64 x x)))) w.drew:=by
 have h':FloatKind.f64.format.sqrt x=none:=h;change Sem.run P (match FloatKind.f64.format.sqrt x with
  |some r=>pure (Value.float .f64 r)
  |none=>do pure (Value.float .f64 (←choose (.nanBits .f64 x x)))) w=_
 rw[h'];simp[choose,Sem.run,Question.forced]
end
theorem Zaiy(a:Nat)(ha:a<4294967296):
 (2139095040<rg a/\Ieee.single.sqrt a=none)\/
 (∃x,floatToFloatBits .f32 a .f64=some x/\Ieee.double.sqrt x=none/\Ieee.single.sqrt a=none)\/
 (∃x y z,floatToFloatBits .f32 a .f64=some x/\Ieee.double.sqrt x=some y/\floatToFloatBits .f64 y .f32=some z/\Ieee.single.sqrt a=some z):=by
 have eself:wd (ng a) (rg a)=wd (ng a) (rg a):=rfl;rcases Nat.lt_trichotomy (rg a) 2139095040 with c|c|c
 ·right;have hf2f:∀r,Ieee.double.nearest (ng a) (mg a) (-149+(te a:Int))=Ieee.double.word (ng a) r->r<Ieee.double.infRung->floatToFloatBits .f32 a .f64=some (Ieee.double.word (ng a) r):=by
   intro r h1 h2;obtain⟨m,t,hrd,-,-⟩:=Zpl Ieee.double (ng a) r h2;unfold floatToFloatBits;rw[if_neg dE,show FloatKind.f32.decode a=.number (ng a) (mg a) (-149+(te a:Int))from Zjy a c];simp only [];have e1:FloatKind.f64.encode (.number (ng a) (mg a) (-149+(te a:Int)))=Ieee.double.word (ng a) r:=h1;rw[e1,show FloatKind.f64.decode (Ieee.double.word (ng a) r)=_ from hrd];rfl
  by_cases h0:mg a=0
  ·right;have hr0:rg a=0:=by unfold mg at h0;split at h0<;>omega
   have e0:a=wd (ng a) 0:=by unfold wd ng rg at *;by_cases d:a/2147483648%2=1<;>simp[d]<;>omega
   have hz:Ieee.double.nearest (ng a) (mg a) (-149+(te a:Int))=Ieee.double.word (ng a) 0:=by rw[h0];rfl
   have hinf:0<Ieee.double.infRung:=dE;obtain⟨m,t,hrd,hmt,-⟩:=Zpl Ieee.double (ng a) 0 hinf;have hm:m=0:=by
    rw[Zpo]at hmt;rcases Nat.mul_eq_zero.1 hmt with e|e
    ·exact e
    ·exact absurd e (Nat.ne_of_gt (Nat.two_pow_pos t))
   subst hm;refine⟨_,Ieee.double.word (ng a) 0,a,hf2f 0 hz hinf,?_,?_,?_⟩
   ·unfold Ieee.Format.sqrt;rw[hrd];simp[Ieee.Datum.root,Ieee.Format.write,Ieee.Format.nearest]
   ·unfold floatToFloatBits;rw[if_neg dE,show FloatKind.f64.decode (Ieee.double.word (ng a) 0)=_ from hrd];simp only [];have e1:FloatKind.f32.encode (.number (ng a) 0 (Ieee.double.leastPlace+(t:Int)))=a:=by
     have:Ieee.single.nearest (ng a) 0 (Ieee.double.leastPlace+(t:Int))=wd (ng a) 0:=by
      simp only[Ieee.Format.nearest,if_true];rfl
     exact this.trans e0.symm
    rw[e1,show FloatKind.f32.decode a=_ from Zjy a c];rfl
   ·unfold Ieee.Format.sqrt;rw[Zjy a c,h0];simp only[Ieee.Datum.root,if_true,Option.map_some,Ieee.Format.write,Ieee.Format.nearest];exact congrArg some e0.symm
  ·cases hs:ng a
   ·right;obtain⟨rW,rD,mD,tD,r,h1,h2,h3,h4,h5,h6,h7,h8⟩:=Zaob a c hs h0;obtain⟨r',k1,k2⟩:=Zup a c hs h0;have hrr:=h8.unique k2;subst hrr;have hf:=hf2f rW (by rw[hs];exact h1) h2;rw[hs]at hf;refine⟨_,_,wd false r,hf,h3,?_,k1⟩;unfold floatToFloatBits;rw[if_neg dE,show FloatKind.f64.decode (Ieee.double.word false rD)=_ from h5];simp only [];have e1:FloatKind.f32.encode (.number false mD (-1074+(tD:Int)))=wd false r:=h6;rw[e1,show FloatKind.f32.decode (wd false r)=_ from Zjy _ (by rw[rg_wd];omega)];rfl
   ·left;obtain⟨r,h1,h2,h3⟩:=Zxz (mg a) (te a) true (mg_lt a) (te_le a c);have hf:=hf2f r (by rw[hs];exact h1) h3;rw[hs]at hf;obtain⟨m,t,hrd,hmt,-⟩:=Zpl Ieee.double true r h3;have hm:m≠0:=by
     intro e;subst e;rw[Zmv,h2,Nat.zero_mul]at hmt;exact absurd hmt.symm (Nat.ne_of_gt (Nat.mul_pos (Nat.pos_of_ne_zero h0) (Nat.two_pow_pos _)))
    refine⟨_,hf,?_,?_⟩
    ·unfold Ieee.Format.sqrt;rw[hrd];simp[Ieee.Datum.root,hm]
    ·unfold Ieee.Format.sqrt;rw[Zjy a c,hs];simp[Ieee.Datum.root,h0]
 ·right;have hf:floatToFloatBits .f32 a .f64=some (Ieee.double.word (ng a) Ieee.double.infRung):=by
   unfold floatToFloatBits;rw[if_neg dE,show FloatKind.f32.decode a=_ from Zlw a c];rfl
  have hrd:∀s,Ieee.double.read (Ieee.double.word s Ieee.double.infRung)=.infinity s:=dE;cases hs:ng a
  ·right;have e0:a=2139095040:=by unfold ng rg at *;simp at hs;omega
   rw[hs]at hf;refine⟨_,Ieee.double.word false Ieee.double.infRung,a,hf,?_,?_,?_⟩
   ·unfold Ieee.Format.sqrt;rw[hrd];rfl
   ·unfold floatToFloatBits;rw[if_neg dE,show FloatKind.f64.decode (Ieee.double.word false Ieee.double.infRung)=_ from hrd false,e0];rfl
   ·unfold Ieee.Format.sqrt;rw[Zlw a c,hs,e0];rfl
  ·left;rw[hs]at hf;refine⟨_,hf,?_,?_⟩
   ·unfold Ieee.Format.sqrt;rw[hrd];rfl
   ·unfold Ieee.Format.sqrt;rw[Zlw a c,hs];rfl
 ·left;refine⟨c,?_⟩;unfold Ieee.Format.sqrt;rw[Zli a c];rfl
theorem Zyl(x:Nat)(w:World):(callFunc 196 #[.float .f64 x]).run prog w=((Extern.MathSqrt.sqrt #[.float .f64 x]).run prog w).andThen fun v w'=>.ok (.value v) w':=
 run_callFunc_extern (e:=Extern.MathSqrt.sqrt) func196 kR kR kR kR _ _
theorem Zags(x r:Nat)(h:Ieee.double.sqrt x=some r)(w:World):
 Calls prog 191 #[.float .f64 x] w fun e w'=>e=.returned (.float .f64 r)/\w'=w:=by
 have hx:=Zyl x w;rw[Zzx w x r h]at hx;simp only[Result.andThen]at hx;go_enter func191,ntmps191;go_wp2;go_ret;exact⟨rfl,rfl⟩
theorem Zwg(x:Nat)(h:Ieee.double.sqrt x=none)(w:World):
 Calls prog 191 #[.float .f64 x] w fun e w'=>(∃z,e=.returned (.float .f64 z)/\Ieee.double.infRung<z%Ieee.double.signWeight)/\Below w.heap.size w w':=by
 have hx:=Zyl x w;rw[Zaac w x h]at hx;simp only[Result.andThen]at hx;have hz:=Zzn x x (w.tape w.drawn (.nanBits .f64 x x));generalize (Question.nanBits .f64 x x).cut (w.tape w.drawn (.nanBits .f64 x x))=z at *;go_enter func191,ntmps191;go_wp2;go_ret;exact⟨⟨z,rfl,hz⟩,belD _⟩
theorem Zza(w:World)(b:Nat)(h:Ieee.double.infRung<b%Ieee.double.signWeight):
 ∃z:Nat,canon (z:Int)=2143289344/\z<4294967296/\(convert 235 208 (.float .f64 b)).run prog w=.ok (.float .f32 z) w.drew:=by
 refine⟨_,Zmw ?_,?_,Ztl (P:=prog) w 235 208 .f64 .f32 b (by rw[underlying235];rfl) underlying208 dE (Zvx b h)⟩
 ·exact(Zabo _ _).1
 ·exact(Zabo _ _).2
theorem Zanj(a:Int)(h0:0<=a)(h1:a<4294967296)(w:World):
 Calls prog 165 #[.int .u32 a] w fun e w'=>e=.returned (.int .u32 (Zkt a))/\Below w.heap.size w w':=by
 unfold Zkt;rcases Zaiy a.toNat oM with⟨c,hr⟩|⟨x,hx,hq,hr⟩|⟨x,y,z,hx,hy,hz,hr⟩
 ·rw[hr];have e1:=Ztl (P:=prog) w 208 235 .f32 .f64 a.toNat Zhm underlying235 dE (Zaif _ c);have hn1:=Zahv a.toNat (w.tape w.drawn (.nanConv .f64 a.toNat));generalize (Question.nanConv .f64 a.toNat).cut (w.tape w.drawn (.nanConv .f64 a.toNat))=z1 at *;have hq:=Zwu z1 hn1;clear hr c hn1;go_enter func165,ntmps165;go_wp2_with(first
   |(go_at_call 162;refine(Zlu _ oM oM _).mono ?_;rintro e w' ⟨rfl,rfl⟩)
   |(go_at_call 191;refine(Zwg _ hq _).mono ?_;rintro e w2 ⟨⟨z2,rfl,hz2⟩,hw2⟩;obtain⟨z3,hc,hz,e3⟩:=Zza w2 z2 hz2)
   |(go_at_call 140;refine(Zkm _ hz _).mono ?_;rintro e w' ⟨rfl,rfl⟩))
  go_ret;exact⟨rfl,(belV (belD _) hw2).drew⟩
 ·rw[hr];have e1:=run_convert_float_float (P:=prog) w 208 235 .f32 .f64 a.toNat x Zhm underlying235 hx;clear hr hx;go_enter func165,ntmps165;go_wp2_with(first
   |(go_at_call 162;refine(Zlu _ oM oM _).mono ?_;rintro e w' ⟨rfl,rfl⟩)
   |(go_at_call 191;refine(Zwg _ hq _).mono ?_;rintro e w2 ⟨⟨z2,rfl,hz2⟩,hw2⟩;obtain⟨z3,hc,hz,e3⟩:=Zza w2 z2 hz2)
   |(go_at_call 140;refine(Zkm _ hz _).mono ?_;rintro e w' ⟨rfl,rfl⟩))
  go_ret;exact⟨rfl,hw2.drew⟩
 ·rw[hr];have hn:=Zuz hr;have hc:=Zlt hn.1;have hlt:=hn.2;have e1:=run_convert_float_float (P:=prog) w 208 235 .f32 .f64 a.toNat x Zhm underlying235 hx;have e2:=run_convert_float_float (P:=prog) w 235 208 .f64 .f32 y z (by rw[underlying235];rfl) underlying208 hz;clear hr hx hz hn;go_enter func165,ntmps165;go_wp2_with(first
   |(go_at_call 162;refine(Zlu _ oM oM _).mono ?_;rintro e w' ⟨rfl,rfl⟩)
   |(go_at_call 191;refine(Zags _ _ hy _).mono ?_;rintro e w2 ⟨rfl,rfl⟩)
   |(go_at_call 140;refine(Zkm _ hlt _).mono ?_;rintro e w' ⟨rfl,rfl⟩))
  go_ret;exact⟨rfl,Zkp _⟩
end Go.Proofs.YtbinohkcolcbfaaGreat
namespace Go.Proofs.YtbinohkcolcbfaaGreat
open Go.RowKit Go.Proofs.Tryz
set_option linter.unusedVariables false
set_option linter.unusedSimpArgs false
set_option maxRecDepth 100000
set_option maxHeartbeats 16000000
theorem Zny(a b:Int):compare a b=if a<b then .lt else if a=b then .eq else .gt:=rfl
theorem Zaam{a b:Int}(h:a<b):compare a b=.lt:=by rw[Zny,if_pos h]
theorem Zabk{a b:Int}(h:a=b):compare a b=.eq:=by rw[Zny,if_neg oM,if_pos h]
theorem Zacx{a b:Int}(h:b<a):compare a b=.gt:=by rw[Zny,if_neg oM,if_neg oM]
theorem Zama(a b p:Int)(hp:0<p):compare (a*p) (b*p)=compare a b:=by
 rw[Zny,Zny];have h1:a*p<b*p↔a<b:=Int.mul_lt_mul_right hp;have h2:a*p=b*p↔a=b:=⟨fun h=>Int.eq_of_mul_eq_mul_right oM h,fun h=>by rw[h]⟩
 simp only[h1,h2]
theorem Zvp{x:Nat}(h:rg x=2139095040):mv x=V 23 2139095040:=by unfold mv;rw[h]
theorem mv_fin{x:Nat}(h:rg x<2139095040):mv x<V 23 2139095040:=V_lt 23 h
theorem sv_fin{x:Nat}(h:rg x<2139095040): -(V 23 2139095040:Int)<sv x/\sv x<(V 23 2139095040:Int):=by
 have:=mv_fin h;unfold sv sg;split<;>omega
theorem Zaqd(x y:Nat):Ieee.single.order x y=if 2139095040<rg x\/2139095040<rg y then none else some (compare (sv x) (sv y)):=by
 unfold Ieee.Format.order;have hV:0<V 23 2139095040:=by have:=V_lt 23 (show 0<2139095040 by decide);omega
 rcases Nat.lt_trichotomy (rg x) 2139095040 with c|c|c
 ·rcases Nat.lt_trichotomy (rg y) 2139095040 with d|d|d
  ·rw[Zjy x c,Zjy y d,if_neg oM];simp only[Ieee.Datum.order];have hm:min (-149+(te x:Int)) (-149+(te y:Int))= -149+((min (te x) (te y):Nat):Int):=oM;rw[hm];have e1:(-149+(te x:Int)-(-149+((min (te x) (te y):Nat):Int))).toNat=te x-min (te x) (te y):=oM;have e2:(-149+(te y:Int)-(-149+((min (te x) (te y):Nat):Int))).toNat=te y-min (te x) (te y):=oM;rw[e1,e2];generalize hc:min (te x) (te y)=m;have s1:Ieee.signed (ng x) (mg x) (te x-m)*(2:Int)^m=sv x:=by
    rw[Zww,show te x-m+m=te x by omega,←Zqa];rfl
   have s2:Ieee.signed (ng y) (mg y) (te y-m)*(2:Int)^m=sv y:=by
    rw[Zww,show te y-m+m=te y by omega,←Zqa];rfl
   rw[←s1,←s2,Zama _ _ _ (Int.pow_pos dE)]
  ·rw[Zjy x c,Zlw y d,if_neg oM];simp only[Ieee.Datum.order];have h:=sv_fin c;have e:sv y=sg (ng y) (V 23 2139095040):=by unfold sv;rw[Zvp d]
   rw[e,Zny];cases ng y
   ·rw[if_neg dE,if_pos Zgo]
   ·rw[if_pos rfl,if_neg Zgo,if_neg Zgo]
  ·rw[Zli y d,Zjy x c,if_pos (Or.inr d)];rfl
 ·rcases Nat.lt_trichotomy (rg y) 2139095040 with d|d|d
  ·rw[Zlw x c,Zjy y d,if_neg oM];simp only[Ieee.Datum.order];have h:=sv_fin d;have e:sv x=sg (ng x) (V 23 2139095040):=by unfold sv;rw[Zvp c]
   rw[e,Zny];cases ng x
   ·rw[if_neg dE,if_neg Zgo,if_neg Zgo]
   ·rw[if_pos rfl,if_pos Zgo]
  ·rw[Zlw x c,Zlw y d,if_neg oM];simp only[Ieee.Datum.order];have e1:sv x=sg (ng x) (V 23 2139095040):=by unfold sv;rw[Zvp c]
   have e2:sv y=sg (ng y) (V 23 2139095040):=by unfold sv;rw[Zvp d]
   rw[e1,e2,Zny];cases ng x<;>cases ng y
   ·rw[if_neg oM,if_pos rfl];rfl
   ·rw[if_neg Zgf,if_neg Zgf];rfl
   ·rw[if_pos Zgf];rfl
   ·rw[if_neg oM,if_pos rfl];rfl
  ·rw[Zli y d,Zlw x c,if_pos (Or.inr d)];rfl
 ·rw[Zli x c,if_pos (Or.inl c)];cases Ieee.single.read y<;>rfl
theorem Zlh(a:Int)(h0:0<=a):(rg a.toNat:Int)=a%2147483648:=by unfold rg;omega
theorem Ztu(a:Int)(h0:0<=a):nan a=decide (2139095040<rg a.toNat):=by
 unfold nan;rw[decide_eq_decide];have:=Zlh a h0;omega
theorem Ztn(a b:Int)(h0:0<=a)(g0:0<=b):ord a b=if nan a=true\/nan b=true then none else some (compare (sv a.toNat) (sv b.toNat)):=by
 unfold ord;rw[Zaqd,Ztu a h0,Ztu b g0];simp only[decide_eq_true_eq]
theorem Zajw(a b:Int)(h0:0<=a)(g0:0<=b):Zpf a b=true↔nan a=false/\nan b=false/\sv a.toNat<sv b.toNat:=by
 unfold Zpf;rw[Ztn a b h0 g0];by_cases hn:nan a=true\/nan b=true
 ·rw[if_pos hn];simp;intro k1 k2;simp[k1,k2]at hn
 ·rw[if_neg hn];have hn':nan a=false/\nan b=false:=by simpa using hn
  rcases Int.lt_trichotomy (sv a.toNat) (sv b.toNat)with c|c|c
  ·rw[Zaam c];simp[hn',c]
  ·rw[Zabk c];simp;omega
  ·rw[Zacx c];simp;omega
theorem sv_inj{x y:Nat}(h:sv x=sv y):rg x=rg y/\(ng x=ng y\/rg x=0):=by
 have hz:∀z,mv z=0->rg z=0:=by
  intro z hz;unfold mv at hz;rw[←Zpo 23]at hz;exact V_inj 23 hz
 have key:mv x=mv y/\(ng x=ng y\/mv x=0):=by
  unfold sv sg at h;cases hx:ng x<;>cases hy:ng y<;>rw[hx,hy]at h<;>simp only[if_true,if_false,Bool.false_eq_true]at h
  ·exact⟨oM,Or.inl rfl⟩
  ·exact⟨oM,Or.inr oM⟩
  ·exact⟨oM,Or.inr oM⟩
  ·exact⟨oM,Or.inl rfl⟩
 refine⟨V_inj 23 key.1,?_⟩;rcases key.2 with e|e
 ·exact Or.inl e
 ·exact Or.inr (hz x e)
theorem Zph(a:Int)(h0:0<=a)(h1:a<4294967296):a=(if ng a.toNat then 2147483648 else 0)+(rg a.toNat:Int):=by
 unfold ng rg;by_cases c:2147483648<=a
 ·have:a.toNat/2147483648%2=1:=oM;simp[this];omega
 ·have:a.toNat/2147483648%2=0:=oM;simp[this];omega
theorem pat_ext{a b:Int}(h0:0<=a)(h1:a<4294967296)(g0:0<=b)(g1:b<4294967296)(hr:rg a.toNat=rg b.toNat)(hs:ng a.toNat=ng b.toNat):a=b:=by
 rw[Zph a h0 h1,Zph b g0 g1,hr,hs]
theorem Zaap(a:Int)(h0:0<=a)(h1:a<4294967296):ng a.toNat=decide (2147483648<=a):=by
 unfold ng;by_cases c:2147483648<=a<;>simp[c]<;>omega
theorem Zaoh(d e:Ieee.Datum):d.sum e=e.sum d:=by
 cases d<;>cases e<;>simp only[Ieee.Datum.sum]
 ·rename_i s m i t n j;rw[Int.min_comm j i,Int.add_comm (Ieee.signed t n _),Bool.and_comm]
 ·rename_i s t;by_cases h:s=t
  ·rw[if_pos h,if_pos h.symm,h]
  ·rw[if_neg h,if_neg (fun k=>h k.symm)]
theorem Zzg(a b:Int):fadd a b=fadd b a:=by unfold fadd Ieee.Format.add;rw[Zaoh]
def flip(a:Nat):Nat:=if 2147483648<=a then a-2147483648 else a+2147483648
theorem Zagf(a:Nat)(h:a<4294967296):rg (flip a)=rg a:=by unfold rg flip;split<;>omega
theorem ng_flip(a:Nat)(h:a<4294967296):ng (flip a)= !ng a:=by
 unfold ng flip;split
 ·rename_i c;have e1:a/2147483648%2=1:=oM;have e2:(a-2147483648)/2147483648%2=0:=oM;simp[e1,e2]
 ·rename_i c;have e1:a/2147483648%2=0:=oM;have e2:(a+2147483648)/2147483648%2=1:=oM;rw[e1,e2];rfl
theorem Zamh(a:Nat)(h:a<4294967296):Ieee.single.read (flip a)=(Ieee.single.read a).opposite:=by
 rw[Zml,Zml,Zagf a h,ng_flip a h];split
 ·rfl
 ·split
  ·rfl
  ·split<;>rfl
theorem Zacq(a:Int)(h0:0<=a)(h1:a<4294967296)(hn:nan a=false):fneg a=(flip a.toNat:Nat):=by
 unfold fneg flip;have e:(if 2147483648<=a then a-2147483648 else a+2147483648)=((if 2147483648<=a.toNat then a.toNat-2147483648 else a.toNat+2147483648:Nat):Int):=by
  by_cases c:2147483648<=a
  ·rw[if_pos c,if_pos oM];omega
  ·rw[if_neg c,if_neg oM];omega
 rw[e];apply Zlt;have:=Zagf a.toNat oM;unfold flip at this;rw[this];rw[Ztu a h0]at hn;simpa using hn
theorem Zaaw(a:Int)(h0:0<=a)(h1:a<4294967296)(hn:nan a=true):fneg a=2143289344:=by
 unfold fneg canon;rw[Zwy]at hn;have:nan (if 2147483648<=a then a-2147483648 else a+2147483648)=true:=by
  rw[Zwy];split<;>omega
 rw[if_pos this]
theorem Zafb(a:Int)(h0:0<=a)(h1:a<4294967296):0<=fneg a/\fneg a<4294967296:=by
 have h:0<=(if 2147483648<=a then a-2147483648 else a+2147483648)/\(if 2147483648<=a then a-2147483648 else a+2147483648)<4294967296:=by split<;>omega
 exact Znn _ h.1 h.2

theorem Zsj(a:Int)(k:Nat)(hk:k<64)(h0:0<=a)(h1:a<18446744073709551616):bits .and .u64 a ((2^k-1:Nat):Int)=a%((2^k:Nat):Int):=by
 have hp:2^k<2^64:=Nat.pow_lt_pow_right oM hk;have hq:0<2^k:=Nat.two_pow_pos k;obtain⟨n,rfl⟩:=Int.eq_ofNat_of_zero_le h0;rw[u64_and _ _ h0 h1 oM oM,Int.toNat_natCast,Int.toNat_natCast,Nat.and_two_pow_sub_one_eq_mod];rfl
theorem and64_8(a:Int)(h0:0<=a)(h1:a<18446744073709551616):bits .and .u64 a 255=a%256:=Zsj a 8 dE h0 h1
theorem Zanl(a:Int)(h0:0<=a)(h1:a<18446744073709551616):bits .and .u64 a 8388607=a%8388608:=Zsj a 23 dE h0 h1
def nMin(a:Int):Bool:=a/2147483648==1
def nM(a:Int):Int:=if a/8388608%256=255 then 0 else if a/8388608%256=0 then a%8388608 else 8388608+a%8388608
def nE(a:Int):Int:=if a/8388608%256=255 then 0 else if a/8388608%256=0 then -149 else a/8388608%256-150
def nInf(a:Int):Bool:=if a/8388608%256=255 then a%8388608==0 else false
def nNan(a:Int):Bool:=if a/8388608%256=255 then a%8388608 != 0 else false
theorem Zlz(a:Int)(h0:0<=a)(h1:a<4294967296)(w:World):
 Calls prog 135 #[.int .i64 a] w fun e w'=>e=.returned (.agg #[.bool (nMin a),.int .u64 (nM a),.int .i64 (nE a),.bool (nInf a),.bool (nNan a)])/\∃o,w'=(w.alloc o).alloc o:=by
 have e1:=and64_8 (a/8388608) oM oM;have e2:=Zanl a h0 oM;by_cases c:a/8388608%256=255
 ·have f1:nM a=0:=by unfold nM;rw[if_pos c]
  have f2:nE a=0:=by unfold nE;rw[if_pos c]
  have f3:nInf a=(a%8388608==0):=by unfold nInf;rw[if_pos c]
  have f4:nNan a=(a%8388608 != 0):=by unfold nNan;rw[if_pos c]
  exact Zdh
 ·by_cases c2:a/8388608%256=0
  ·have f1:nM a=a%8388608:=by unfold nM;rw[if_neg c,if_pos c2]
   have f2:nE a= -149:=by unfold nE;rw[if_neg c,if_pos c2]
   have f3:nInf a=false:=by unfold nInf;rw[if_neg c]
   have f4:nNan a=false:=by unfold nNan;rw[if_neg c]
   exact Zdh
  ·have f1:nM a=8388608+a%8388608:=by unfold nM;rw[if_neg c,if_neg c2]
   have f2:nE a=a/8388608%256-150:=by unfold nE;rw[if_neg c,if_neg c2]
   have f3:nInf a=false:=by unfold nInf;rw[if_neg c]
   have f4:nNan a=false:=by unfold nNan;rw[if_neg c]
   exact Zdh
def sgn(s:Bool):Int:=if s then 2147483648 else 0
theorem Zack(s:Bool):0<=sgn s/\sgn s<=2147483648:=by unfold sgn;split<;>decide
theorem Zqw(s:Bool)(w:World):
 Calls prog 155 #[.bool s] w fun e w'=>e=.returned (.int .u64 (sgn s))/\w'=w:=by
 cases s
 all_goals(
  go_enter func155,ntmps155;go_wp2;go_ret
  exact⟨rfl,rfl⟩)
theorem Zmy(s:Bool)(w:World):
 Calls prog 153 #[.bool s] w fun e w'=>e=.returned (.int .i64 (sgn s))/\w'=w:=by
 have hl:=Zack s;go_enter func153,ntmps153;go_wp2_with(go_at_call 155;refine(Zqw _ _).mono ?_;rintro e w' ⟨rfl,rfl⟩);go_ret;exact⟨rfl,rfl⟩
theorem Znr(s:Bool)(w:World):
 Calls prog 152 #[.bool s] w fun e w'=>e=.returned (.int .i64 (sgn s+2139095040))/\w'=w:=by
 have hl:=Zack s;go_enter func152,ntmps152;go_wp2_with(go_at_call 155;refine(Zqw _ _).mono ?_;rintro e w' ⟨rfl,rfl⟩);go_ret;exact⟨rfl,rfl⟩
def blen(n:Nat):Nat:=if n=0 then 0 else n.log2+1
theorem Zyo(n:Nat)(h:n≠0):blen n=blen (n/2)+1:=by
 unfold blen;rw[if_neg h];by_cases c:n/2=0
 ·rw[if_pos c];have:n=1:=oM;subst this;decide
 ·rw[if_neg c,Nat.log2_def n,if_pos oM]
theorem Zqp(m:Int)(h0:0<=m)(h1:m<18446744073709551616)(w:World):
 Calls prog 122 #[.int .u64 m] w fun e w'=>e=.returned (.int .i64 (blen m.toNat))/\w'=w:=by
 have hb:blen m.toNat<=64:=by
  unfold blen;split
  ·omega
  ·rename_i c;have:m.toNat.log2<64:=(Nat.log2_lt c).2 oM;omega
 generalize hB:blen m.toNat=B at *;have HB:Hid (blen m.toNat=B):=hB;clear hB;go_enter func122,ntmps122;go_wp2;go_loop [0,3] (fun mv nv=>∃ (x:Int) (k:Nat),0<=x/\x<=m/\mv=.int .u64 x/\nv=.int .i64 k/\k+blen x.toNat=B) (fun mv _=>(intOf mv).toNat)
 case atStart=>exact⟨m,0,h0,Int.le_refl _,rfl,rfl,by rw[HB.out];omega⟩
 case round=>
  obtain⟨x,k,hx0,hx1,rfl,rfl,hk⟩:=hrel;have HK:Hid (k+blen x.toNat=B):=hk;by_cases hz:x=0
  ·have:k=B:=by rw[←hk,hz];rfl
   subst this;clear hk HK HB;subst hz;go_wp2;go_ret;exact⟨rfl,rfl⟩
  ·have hs:=Zyo x.toNat oM;have HS:Hid (blen x.toNat=blen (x.toNat/2)+1):=hs;have hkB:k<=63:=oM;clear hs hk;go_wp2;go_round
   case rel=>exact⟨x/2,k+1,oM,oM,rfl,gN,by rw[show(x/2).toNat=x.toNat/2 by omega];have:=HK.out;have:=HS.out;omega⟩
   case measure=>simp[intOf];omega
theorem Zxv(neg:Bool)(n drop:Nat):Ieee.Toward.even.cut neg n drop=n/2^drop+(if 2^drop<2*(n%2^drop)\/(2^drop=2*(n%2^drop)/\n/2^drop%2=1)then 1 else 0):=by
 have key:∀g l r:Nat,l+(decide (g<2*r)||g==2*r&&l%2==1).toNat=l+(if g<2*r\/(g=2*r/\l%2=1)then 1 else 0):=by
  intro g l r;by_cases c1:g<2*r
  ·simp[c1]
  ·by_cases c2:g=2*r
   ·by_cases c3:l%2=1<;>simp[c2,c3]
   ·simp[c1,c2]
 unfold Ieee.Toward.cut;simp only[Nat.one_shiftLeft];rcases Nat.lt_or_ge (n.log2+2) drop with c|c
 ·rw[Nat.min_eq_right oM];have h1:n<2^(n.log2+1):=Nat.lt_log2_self;have h2:2^(n.log2+2)=2*2^(n.log2+1):=by rw[Nat.pow_succ];omega
  have h3:2^(n.log2+2)<=2^drop:=Nat.pow_le_pow_right oM oM;rw[key,Nat.div_eq_of_lt oM,Nat.mod_eq_of_lt oM,Nat.div_eq_of_lt oM,Nat.mod_eq_of_lt (show n<2^drop by omega)];rw[if_neg oM,if_neg oM]
 ·rw[Nat.min_eq_left oM,key]
theorem cut_int(m:Int)(h0:0<=m)(d:Nat)(hd:1<=d):((Ieee.Toward.even.cut false m.toNat d:Nat):Int)=if(2:Int)^(d-1)<m%2^d\/(m%2^d=2^(d-1)/\m/2^d%2=1)then m/2^d+1 else m/2^d:=by
 obtain⟨n,rfl⟩:=Int.eq_ofNat_of_zero_le h0;rw[Zxv,Int.toNat_natCast];have hG:2^d=2*2^(d-1):=by
  obtain⟨e,rfl⟩:∃e,d=e+1:=⟨d-1,oM⟩
  rw[Nat.add_sub_cancel,Nat.pow_succ,Nat.mul_comm]
 have e1:((n:Int)/2^d)=((n/2^d:Nat):Int):=by push_cast;rfl
 have e2:((n:Int)%2^d)=((n%2^d:Nat):Int):=by push_cast;rfl
 have e3:(2:Int)^(d-1)=((2^(d-1):Nat):Int):=by push_cast;rfl
 rw[e1,e2,e3];generalize n/2^d=q;generalize n%2^d=r;rw[hG];generalize 2^(d-1)=H;by_cases c:2*H<2*r\/(2*H=2*r/\q%2=1)
 ·rw[if_pos c,if_pos oM];omega
 ·rw[if_neg c,if_neg oM];omega
theorem Zadm(m:Int)(h0:0<=m)(h1:m<18446744073709551616)(d:Nat)(g0:1<=d)(g1:d<64)(w:World):
 Calls prog 154 #[.int .u64 m,.int .i64 d] w fun e w'=>e=.returned (.int .u64 (Ieee.Toward.even.cut false m.toNat d:Nat))/\w'=w:=by
 rw[cut_int m h0 d g0];have hG:(2:Int)^d=2*2^(d-1):=by
  obtain⟨e,rfl⟩:∃e,d=e+1:=⟨d-1,oM⟩
  rw[Nat.add_sub_cancel,Int.pow_succ,Int.mul_comm]
 have hle:(2:Int)^d<=9223372036854775808:=by
  have h:2^d<=9223372036854775808:=Nat.le_trans (Nat.pow_le_pow_right dE (show d<=63 by omega)) dE;have h':((2^d:Nat):Int)<=((9223372036854775808:Nat):Int):=Int.ofNat_le.2 h;rw[Int.natCast_pow]at h';exact h'
 have hH:(1:Int)<=2^(d-1):=Int.pow_pos dE;have f1:IntKind.u64.wrap ((2:Int)^d)=2^d:=by rw[IntKind.wrap_u64];omega
 have f4:IntKind.u64.wrap ((2:Int)^(d-1))=2^(d-1):=by rw[IntKind.wrap_u64];omega
 have f3:bits .and .u64 m ((2:Int)^d-1)=m%2^d:=by
  have:=Zsj m d g1 h0 h1;have e:((2^d-1:Nat):Int)=(2:Int)^d-1:=by
   rw[Int.ofNat_sub (Nat.two_pow_pos d)];push_cast;rfl
  rw[e]at this;rw[this];push_cast;rfl
 have hr0:0<=m%2^d:=Int.emod_nonneg _ oM;have hr1:m%2^d<2^d:=Int.emod_lt_of_pos _ oM;have hq0:0<=m/2^d:=Int.ediv_nonneg h0 oM;have hq1:m/2^d<=9223372036854775807:=by
  have h2:m/2^d<=m/2:=by
   have:(2:Int)∣2^d:=⟨2^(d-1),hG⟩
   rw[hG,←Int.ediv_ediv_of_nonneg dE];exact Int.ediv_le_self _ oM
  omega
 have f5:IntKind.u64.wrap ((2:Int)^d-1)=2^d-1:=by rw[IntKind.wrap_u64];omega
 generalize hr:m%2^d=r at *;generalize hq:m/2^d=q at *;generalize hHH:(2:Int)^(d-1)=H at *;generalize hGG:(2:Int)^d=G at *;have hG1:1<=G:=oM;clear hr hG;by_cases c1:H<r
 ·rw[if_pos (Or.inl c1)];exact Zcf
 ·by_cases c2:r=H
  ·by_cases c3:q%2=1
   ·rw[if_pos (Or.inr ⟨c2,c3⟩)];exact Zcf
   ·rw[if_neg oM];exact Zcf
  ·rw[if_neg oM];exact Zcf
theorem Zuu(m:Int)(h0:0<=m)(h1:m<18446744073709551616)(d:Int)(g0:1<=d)(g1:d<100000)(w:World):
 Calls prog 154 #[.int .u64 m,.int .i64 d] w fun e w'=>e=.returned (.int .u64 (Ieee.Toward.even.cut false m.toNat d.toNat:Nat))/\w'=w:=by
 rcases Int.lt_trichotomy d 64 with c|c|c
 ·have:=Zadm m h0 h1 d.toNat oM oM w;rwa[Int.toNat_of_nonneg oM]at this
 ·subst c;have hv:((Ieee.Toward.even.cut false m.toNat (64:Int).toNat:Nat):Int)=if 9223372036854775808<m then 1 else 0:=by
   rw[Zxv,show(64:Int).toNat=64 from rfl,show(2:Nat)^64=18446744073709551616 from rfl,Nat.div_eq_of_lt oM,Nat.mod_eq_of_lt oM];by_cases c:9223372036854775808<m
   ·rw[if_pos c,if_pos oM];rfl
   ·rw[if_neg c,if_neg oM];rfl
  rw[hv];clear hv;by_cases c:9223372036854775808<m
  ·rw[if_pos c];exact Zcf
  ·rw[if_neg c];by_cases c2:m=9223372036854775808
   ·subst c2;exact Zcf
   ·exact Zcf
 ·have hv:((Ieee.Toward.even.cut false m.toNat d.toNat:Nat):Int)=0:=by
   have hp:2^65<=2^d.toNat:=Nat.pow_le_pow_right dE oM;have h65:(2:Nat)^65=36893488147419103232:=rfl;rw[Zxv,Nat.div_eq_of_lt oM,Nat.mod_eq_of_lt oM,if_neg oM];rfl
  rw[hv];clear hv;exact Zcf
theorem Zabm(s:Bool)(r:Nat):((wd s r:Nat):Int)=sgn s+min (r:Int) 2139095040:=by
 unfold wd sgn;cases s
 ·simp only[if_false,Bool.false_eq_true];omega
 ·simp only[if_true];omega
theorem Zaad(s:Bool)(m:Nat)(e:Int)(h0:m≠0):∃ (U:Int) (k:Nat),U=max (e+(blen m:Int)-24) (-149)/\
 ((Ieee.single.nearest s m e:Nat):Int)=sgn s+min ((U+149)*8388608+k) 2139095040/\k<=16777216/\(U= -149\/8388608<=k)/\
 k=Ieee.Toward.even.cut false (m*2^(e-U).toNat) (U-e).toNat/\(U<=e->(k:Int)=(m:Int)*2^(e-U).toNat):=by
 have hb:(blen m:Int)-24=m.log2-23:=by unfold blen;rw[if_neg h0];omega
 have hn:=Zjw Ieee.single s m e;rw[Zrz,Zmb,Zkr]at hn;refine⟨max (e+(blen m:Int)-24) (-149),Ieee.Toward.even.cut false (m*2^(e-max (e+(blen m:Int)-24) (-149)).toNat) (max (e+(blen m:Int)-24) (-149)-e).toNat,rfl,?_⟩;have hU:max (e+(blen m:Int)-24) (-149)=max (e+m.log2-((23:Nat):Int)) (-149):=oM;rw[hU];generalize hUU:max (e+m.log2-((23:Nat):Int)) (-149)=U at *;have hr:Zkh 23 (-149) m e=(U-(-149)).toNat*2^23+Ieee.Toward.even.cut false (m*2^(e-U).toNat) (U-e).toNat:=by
  unfold Zkh;rw[if_neg h0,Nat.shiftLeft_eq,hUU]
 have hcut:=Zacy false (m*2^(e-U).toNat) (U-e).toNat;generalize hk:Ieee.Toward.even.cut false (m*2^(e-U).toNat) (U-e).toNat=k at *;have hlo:2^m.log2<=m:=Nat.log2_self_le h0;have hhi:m<2^(m.log2+1):=Nat.lt_log2_self;have hcs:=hcut.scale 0 0 (U-e).toNat rfl;rw[Nat.pow_zero,Nat.mul_one]at hcs;have lo:U= -149\/2^23*2^(U-e).toNat<=m*2^(e-U).toNat:=by
  rcases(show U= -149\/U=e+m.log2-23 by omega)with c|c
  ·exact Or.inl c
  ·right
   calc 2^23*2^(U-e).toNat=2^m.log2*2^(e-U).toNat:=by rw[←Nat.pow_add,←Nat.pow_add];congr 1;omega
    _<=m*2^(e-U).toNat:=Nat.mul_le_mul_right _ hlo
 have hi:m*2^(e-U).toNat<2*2^23*2^(U-e).toNat:=by
  calc m*2^(e-U).toNat<2^(m.log2+1)*2^(e-U).toNat:=Nat.mul_lt_mul_of_pos_right hhi (Nat.two_pow_pos _)
   _=2^(m.log2+1+(e-U).toNat):=(Nat.pow_add ..).symm
   _<=2^(24+(U-e).toNat):=Nat.pow_le_pow_right dE oM
   _=2*2^23*2^(U-e).toNat:=by rw[Nat.pow_add]
 have up:=hcut.up;have dn:=hcut.dn;simp only[Nat.mul_one]at up dn;have hT:0<2^(U-e).toNat:=Nat.two_pow_pos _;have hkle:k<=16777216:=by
  rcases Nat.lt_or_ge 16777216 k with c|c
  ·exfalso;have:(2*16777217)*2^(U-e).toNat<=2*k*2^(U-e).toNat:=Nat.mul_le_mul_right _ oM;generalize 2^(U-e).toNat=T at *;generalize m*2^(e-U).toNat=X at *;omega
  ·exact c
 have hkge:U= -149\/8388608<=k:=by
  rcases lo with c|c
  ·exact Or.inl c
  ·right;rcases Nat.lt_or_ge k 8388608 with d|d
   ·exfalso;have:(2*k+1)*2^(U-e).toNat<=16777215*2^(U-e).toNat:=Nat.mul_le_mul_right _ oM;generalize 2^(U-e).toNat=T at *;generalize m*2^(e-U).toNat=X at *;omega
   ·exact d
 refine⟨?_,hkle,hkge,rfl,?_⟩
 ·rw[hn,hr,Zabm];rw[Int.natCast_add,Int.natCast_mul,Int.toNat_of_nonneg oM];omega
 ·intro l;rw[show(U-e).toNat=0 by omega]at hcut;have up:=hcut.up;have dn:=hcut.dn;have ue:=hcut.ue;have de:=hcut.de;have:k=m*2^(e-U).toNat:=by
   generalize m*2^(e-U).toNat=X at *;simp only[Nat.pow_zero,Nat.mul_one]at ue de up dn;omega
  rw[this];push_cast;rfl
theorem Zkn(s:Bool)(m:Int)(h0:0<=m)(h1:m<18446744073709551616)(e:Int)(e0: -10000<=e)(e1:e<=10000)(w:World):
 Calls prog 124 #[.bool s,.int .u64 m,.int .i64 e] w fun x w'=>x=.returned (.int .i64 (Ieee.single.nearest s m.toNat e:Nat))/\w'=w:=by
 have hs:=Zack s;by_cases hz:m=0
 ·subst hz;have hv:((Ieee.single.nearest s (0:Int).toNat e:Nat):Int)=sgn s:=by
   show((Ieee.single.nearest s 0 e:Nat):Int)=sgn s;exact Zfo
  rw[hv];clear hv;go_enter func124,ntmps124;go_wp2_with(go_at_call 153;refine(Zmy _ _).mono ?_;rintro e w' ⟨rfl,rfl⟩);go_ret;exact⟨rfl,rfl⟩
 ·obtain⟨U,k,hU,hv,hk1,hk2,hk3,hk4⟩:=Zaad s m.toNat e oM;rw[hv];clear hv;have hB:1<=blen m.toNat/\blen m.toNat<=64:=by
   unfold blen;rw[if_neg oM];have:m.toNat.log2<64:=(Nat.log2_lt oM).2 oM;omega
  generalize hBB:blen m.toNat=B at *;have fh:e<U->((Ieee.Toward.even.cut false m.toNat (U-e).toNat:Nat):Int)=k:=by
   intro l;rw[hk3,show(e-U).toNat=0 by omega,Nat.pow_zero,Nat.mul_one]
  have fq:U<=e->IntKind.u64.wrap (m*2^(-(U-e)).toNat)=k:=by
   intro l;have:=hk4 l;rw[show(-(U-e)).toNat=(e-U).toNat by omega,show m=(m.toNat:Int) by omega,←this,IntKind.wrap_u64];omega
  clear hk3 hk4;have hUr: -149<=U/\U<=20000:=oM;have hK0:0<=(k:Int)/\(k:Int)<=16777216/\(U= -149\/8388608<=(k:Int)):=oM;clear hk1 hk2;generalize hKK:(k:Int)=K at *;clear hKK;generalize hT:min ((U+149)*8388608+K) 2139095040=T;have cases:(K=16777216/\U<104/\T=(U+151)*8388608)\/(K=16777216/\104<=U/\T=2139095040)\/(U= -149/\K<8388608/\T=K)\/
   (8388608<=K/\K<16777216/\U<105/\T=(U+149)*8388608+K)\/(8388608<=K/\K<16777216/\105<=U/\T=2139095040):=oM
  clear hT;by_cases hu: -149>e+(B:Int)-24
  ·have hU':U= -149:=oM;clear hU;subst hU';clear hUr;by_cases hsh: -149<=e
   ·have fq':=fq hsh;exact Zby
   ·have fh':=fh oM;exact Zby
  ·have hu2:e+(B:Int)-24=U:=oM;clear hU;by_cases hsh:U<=e
   ·have fq':=fq hsh;exact Zbx
   ·have fh':=fh oM;exact Zbx
theorem Zxb(a:Int)(h0:0<=a)(h1:a<4294967296):nMin a=ng a.toNat:=by
 unfold nMin ng;by_cases c:2147483648<=a
 ·have e1:a/2147483648=1:=oM;have e2:a.toNat/2147483648%2=1:=oM;rw[e1,e2];rfl
 ·have e1:a/2147483648=0:=oM;have e2:a.toNat/2147483648%2=0:=oM;rw[e1,e2];rfl
theorem Zku(a:Int)(h0:0<=a)(h1:a<4294967296):nNan a=nan a:=by
 unfold nNan nan;by_cases c:a/8388608%256=255
 ·rw[if_pos c];by_cases d:a%8388608=0
  ·have:¬ (2139095040<a%2147483648):=oM;simp[d,this]
  ·have:2139095040<a%2147483648:=oM;simp[d,this]
 ·rw[if_neg c];have:¬ (2139095040<a%2147483648):=oM;simp[this]
theorem Zon(a:Int)(h0:0<=a)(h1:a<4294967296)(h:nNan a=true):∃s t,Ieee.single.read a.toNat=.nan s t:=by
 rw[Zku a h0 h1,Ztu a h0]at h;exact⟨_,_,Zli _ Zgb⟩
theorem Zmk(a:Int)(h0:0<=a)(h1:a<4294967296)(h:nInf a=true):Ieee.single.read a.toNat=.infinity (nMin a)/\nNan a=false/\nM a=0:=by
 have c:a/8388608%256=255/\a%8388608=0:=by
  unfold nInf at h;split at h
  ·rename_i c;exact⟨c,by simpa using h⟩
  ·cases h
 refine⟨?_,?_,?_⟩
 ·rw[Zxb a h0 h1];exact Zlw _ (by have:=Zlh a h0;omega)
 ·unfold nNan;simp[c]
 ·unfold nM;rw[if_pos c.1]
theorem Zki(a:Int)(h0:0<=a)(h1:a<4294967296)(hi:nInf a=false)(hn:nNan a=false):
 Ieee.single.read a.toNat=.number (nMin a) (nM a).toNat (nE a)/\0<=nM a/\nM a<16777216/\-149<=nE a/\nE a<=104/\(nE a= -149\/8388608<=nM a):=by
 have c:¬ (a/8388608%256=255):=by
  intro c;unfold nInf at hi;unfold nNan at hn;rw[if_pos c]at hi hn;simp at hi hn;exact hi hn
 have hf:rg a.toNat<2139095040:=by have:=Zlh a h0;omega
 have hr:=Zlh a h0;rw[Zjy _ hf,Zxb a h0 h1];unfold nM nE mg te;rw[if_neg c,if_neg c];by_cases d:a/8388608%256=0
 ·rw[if_pos d,if_pos d,if_pos oM,show rg a.toNat/8388608-1=0 by omega,show(a%8388608).toNat=rg a.toNat by omega];exact⟨rfl,oM,oM,oM,oM,oM⟩
 ·rw[if_neg d,if_neg d,if_neg oM,show(8388608+a%8388608).toNat=8388608+rg a.toNat%8388608 by omega,show -149+((rg a.toNat/8388608-1:Nat):Int)=a/8388608%256-150 by omega];exact⟨rfl,oM,oM,oM,oM,oM⟩
theorem Zms(s1:Bool)(m1 e1:Int)(i1 n1 s2:Bool)(m2 e2:Int)(i2 n2:Bool)(w:World):
 Calls prog 151 #[.agg #[.bool s1,.int .u64 m1,.int .i64 e1,.bool i1,.bool n1],.agg #[.bool s2,.int .u64 m2,.int .i64 e2,.bool i2,.bool n2]] w fun e w'=>e=.returned (.bool (n1||n2))/\∃o p,w'=(w.alloc o).alloc p:=by
 cases n1<;>cases n2
 all_goals(
  go_enter func151,ntmps151;go_wp2;go_ret
  exact⟨rfl,_,_,rfl⟩)
theorem Zkz(s:Bool):((Ieee.single.write (.infinity s):Nat):Int)=sgn s+2139095040:=by cases s<;>decide
theorem Znt(a b:Int){d e:Ieee.Datum}(h:Ieee.single.read a.toNat=d)(k:Ieee.single.read b.toNat=e):fmul a b=op2 ((d.product e).map Ieee.single.write):=by
 unfold fmul Ieee.Format.mul;rw[h,k]
theorem Zne(s t:Bool):(s^^t)=(s != t):=by cases s<;>cases t<;>rfl
theorem Zaav(a b:Int)(h0:0<=a)(h1:a<4294967296)(g0:0<=b)(g1:b<4294967296)(h:nNan a=true\/nNan b=true):fmul a b=2143289344:=by
 rcases h with h|h
 ·obtain⟨s,t,e⟩:=Zon a h0 h1 h;rw[Znt a b e rfl];cases Ieee.single.read b.toNat<;>rfl
 ·obtain⟨s,t,e⟩:=Zon b g0 g1 h;rw[Znt a b rfl e];cases Ieee.single.read a.toNat<;>rfl
theorem Zvf(a:Int)(h0:0<=a)(h1:a<4294967296)(b:Int)(g0:0<=b)(g1:b<4294967296)(w:World):
 Calls prog 123 #[.int .i64 a,.int .i64 b] w fun e w'=>e=.returned (.int .i64 (fmul a b))/\Below w.heap.size w w':=by
 cases hna:nNan a
 ·cases hnb:nNan b
  ·cases hia:nInf a
   ·obtain⟨ra,a1,a2,a3,a4,-⟩:=Zki a h0 h1 hia hna;cases hib:nInf b
    ·obtain⟨rb,b1,b2,b3,b4,-⟩:=Zki b g0 g1 hib hnb;have hv:fmul a b=(Ieee.single.nearest (nMin a != nMin b) (nM a*nM b).toNat (nE a+nE b):Nat):=by
      rw[Znt a b ra rb,show(nM a*nM b).toNat=(nM a).toNat*(nM b).toNat from Int.toNat_mul a1 b1,←Zne];rfl
     have hm:0<=nM a*nM b/\nM a*nM b<281474976710656:=by
      refine⟨Int.mul_nonneg a1 b1,?_⟩;have h1:nM a*nM b<=16777215*16777215:=Int.mul_le_mul oM oM b1 oM;omega
     have hw:IntKind.u64.wrap (nM a*nM b)=nM a*nM b:=by rw[IntKind.wrap_u64];omega
     rw[hv];clear hv ra rb;exact Zam
    ·obtain⟨rb,-,b1⟩:=Zmk b g0 g1 hib;by_cases hz:nM a=0
     ·have hv:fmul a b=2143289344:=by rw[Znt a b ra rb,hz];rfl
      rw[hv];clear hv ra rb;exact Zam
     ·have hv:fmul a b=sgn (nMin a != nMin b)+2139095040:=by
       rw[Znt a b ra rb,←Zkz,←Zne,Bool.xor_comm];have:(nM a).toNat≠0:=oM;simp only[Ieee.Datum.product,if_neg this];rfl
      rw[hv];clear hv ra rb;exact Zam
   ·obtain⟨ra,-,a1⟩:=Zmk a h0 h1 hia;cases hib:nInf b
    ·obtain⟨rb,b1,b2,b3,b4,-⟩:=Zki b g0 g1 hib hnb;by_cases hz:nM b=0
     ·have hv:fmul a b=2143289344:=by rw[Znt a b ra rb,hz];rfl
      rw[hv];clear hv ra rb;exact Zam
     ·have hv:fmul a b=sgn (nMin a != nMin b)+2139095040:=by
       rw[Znt a b ra rb,←Zkz,←Zne];have:(nM b).toNat≠0:=oM;simp only[Ieee.Datum.product,if_neg this];rfl
      rw[hv];clear hv ra rb;exact Zam
    ·obtain⟨rb,-,b1⟩:=Zmk b g0 g1 hib;have hv:fmul a b=sgn (nMin a != nMin b)+2139095040:=by
      rw[Znt a b ra rb,←Zkz,←Zne];rfl
     rw[hv];clear hv ra rb;exact Zam
  ·have hv:=Zaav a b h0 h1 g0 g1 (Or.inr hnb);rw[hv];clear hv;exact Zam
 ·have hv:=Zaav a b h0 h1 g0 g1 (Or.inl hna);rw[hv];clear hv;exact Zam
theorem Zalb(n:Int)(h0: -9223372036854775808<=n)(h1:n<=9223372036854775807)(w:World):
 Calls prog 80 #[.int .i64 n] w fun e w'=>e=.returned (.int .i64 (Znd n))/\w'=w:=by
 unfold Znd;by_cases c:n<0
 ·rw[decide_eq_true c,show n.natAbs=(-(n+1)+1).toNat by omega];exact Zek
 ·rw[decide_eq_false c,show n.natAbs=n.toNat by omega];exact Zek
theorem Zrf(w:World)(v0 v1 v2 v3 v4:Value):(Instr.field 200 (.agg #[v0,v1,v2,v3,v4]) 4).run prog w=.ok v4 w:=by
 simp[Instr.field,run_underlying underlying200,asAgg,part,go_sem]
theorem Zadn(a b:Nat)(ha:a<9223372036854775808)(hb:b<9223372036854775808):bits .xor .i64 (a:Int) (b:Int)=((a^^^b:Nat):Int):=by
 have hx:a^^^b<2^63:=Nat.xor_lt_two_pow oM oM;show IntKind.i64.wrap ((BitVec.ofInt 64 (a:Int)^^^BitVec.ofInt 64 (b:Int)).toNat:Int)=_;rw[BitVec.toNat_xor,ofInt_u64 a oM,ofInt_u64 b oM,IntKind.wrap_i64];omega
theorem Zxk(a b:Nat)(ha:a<9223372036854775808)(hb:b<9223372036854775808):bits .andNot .i64 (a:Int) (b:Int)=((a&&& (18446744073709551615-b):Nat):Int):=by
 have hx:a&&& (18446744073709551615-b)<=a:=Nat.and_le_left;show IntKind.i64.wrap ((BitVec.ofInt 64 (a:Int)&&& ~~~BitVec.ofInt 64 (b:Int)).toNat:Int)=_;rw[BitVec.toNat_and,BitVec.toNat_not,ofInt_u64 a oM,ofInt_u64 b oM,IntKind.wrap_i64];have e:2^64-1-b=18446744073709551615-b:=oM;rw[e];omega
theorem Zagk(a:Int)(h0:0<=a)(h1:a<4294967296):bits .xor .i64 a 2147483648=if 2147483648<=a then a-2147483648 else a+2147483648:=by
 rw[←Zacg a h0 h1,u32_xor a _ h0 h1 dE dE];obtain⟨A,rfl⟩:=Int.eq_ofNat_of_zero_le h0;exact Zadn A 2147483648 oM dE
theorem Zpq(a:Int)(h0:0<=a)(h1:a<4294967296):bits .andNot .i64 a 2147483648=a%2147483648:=by
 rw[←Zzl a h0 h1,u32_andNot a _ h0 h1 dE dE];obtain⟨A,rfl⟩:=Int.eq_ofNat_of_zero_le h0;rw[show(2147483648:Int)=((2147483648:Nat):Int)from rfl,Zxk A 2147483648 oM dE,Int.toNat_natCast,Int.toNat_natCast];congr 1;apply Nat.eq_of_testBit_eq;intro i;rw[Nat.testBit_and,Nat.testBit_and];rcases Nat.lt_or_ge i 32 with c|c
 ·have:∀j:Fin 32,(18446744073709551615-2147483648:Nat).testBit j.val=(4294967295-2147483648:Nat).testBit j.val:=dE;rw[this ⟨i,c⟩]
 ·have:A.testBit i=false:=Nat.testBit_lt_two_pow (Nat.lt_of_lt_of_le (show A<2^32 by omega) (Nat.pow_le_pow_right dE c));rw[this,Bool.false_and,Bool.false_and]
theorem Zacj(a:Int)(h0:0<=a)(h1:a<4294967296)(w:World):
 Calls prog 179 #[.int .i64 a] w fun e w'=>e=.returned (.int .i64 (fneg a))/\Below w.heap.size w w':=by
 have hf:=Zrf;cases hna:nNan a
 ·have hv:fneg a=if 2147483648<=a then a-2147483648 else a+2147483648:=by
   rw[Zacq a h0 h1 (by rw[←Zku a h0 h1];exact hna)];unfold flip;by_cases c:2147483648<=a
   ·rw[if_pos c,if_pos oM];omega
   ·rw[if_neg c,if_neg oM];omega
  have hx:=Zagk a h0 h1;rw[hv];clear hv;generalize (if 2147483648<=a then a-2147483648 else a+2147483648)=z at *;go_enter func179,ntmps179;exact Zbd
 ·have hv:=Zaaw a h0 h1 (by rw[←Zku a h0 h1];exact hna);rw[hv];clear hv;go_enter func179,ntmps179;exact Zbd
theorem Zapi(a:Int)(h0:0<=a)(h1:a<4294967296)(w:World):
 Calls prog 180 #[.int .i64 a] w fun e w'=>e=.returned (.int .i64 (fabs a))/\Below w.heap.size w w':=by
 have hm:nan (a%2147483648)=nan a:=by unfold nan;rw[Int.emod_emod_of_dvd _ (Int.dvd_refl _)]
 unfold fabs canon;rw[hm,←Zku a h0 h1];have hx:=Zpq a h0 h1;have hf:=Zrf;cases hna:nNan a
 ·rw[if_neg dE];go_enter func180,ntmps180;exact Zbd
 ·rw[if_pos rfl];go_enter func180,ntmps180;exact Zbd
end Go.Proofs.YtbinohkcolcbfaaGreat
