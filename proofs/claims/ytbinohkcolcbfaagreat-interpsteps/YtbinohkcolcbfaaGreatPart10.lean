import Derived.Test.YtbinohkcolcbfaaGreatPart9
import Derived.Test.YtbinohkcolcbfaaGreatPart2
import Derived.Laws.FloatArith
import Derived.Below
import Derived.Test.YtbinohkcolcbfaaGreatPart8
import Derived.Laws.Externs
import Derived.Test.YtbinohkcolcbfaaGreatPart1
set_option maxRecDepth 100000
set_option maxHeartbeats 16000000
namespace Go.Proofs.YtbinohkcolcbfaaGreat
open Go.Proofs.Tryz
set_option linter.unusedVariables false
def op2:Option Nat->Int
 |some r=>r
 |none=>2143289344
def fadd(a b:Int):Int:=op2 (Ieee.single.add a.toNat b.toNat)
def fsub(a b:Int):Int:=op2 (Ieee.single.sub a.toNat b.toNat)
def fmul(a b:Int):Int:=op2 (Ieee.single.mul a.toNat b.toNat)
def fdiv(a b:Int):Int:=op2 (Ieee.single.div a.toNat b.toNat)
def Zks(a:Int):Int:=op2 (Ieee.single.sqrt a.toNat)
def Zne(n:Int):Int:=(Ieee.single.nearest (decide (n<0)) n.natAbs 0:Nat)
def fneg(a:Int):Int:=canon (if 2147483648<=a then a-2147483648 else a+2147483648)
def fabs(a:Int):Int:=canon (a%2147483648)
def ord(a b:Int):Option Ordering:=Ieee.single.order a.toNat b.toNat
def fmin(a b:Int):Int:=match ord a b with
 |none=>2143289344
 |some .lt=>a
 |some .gt=>b
 |some .eq=>if 2147483648<=a then a else b
def fmax(a b:Int):Int:=match ord a b with
 |none=>2143289344
 |some .lt=>b
 |some .gt=>a
 |some .eq=>if 2147483648<=a then b else a
def Zpg(a b:Int):Bool:=ord a b==some .lt
def feq(a b:Int):Bool:=ord a b==some .eq
def ffin(a:Int):Bool:=decide (a%2147483648<2139095040)
def fsel(c a b:Int):Int:=if nan c||c%2147483648==0 then canon b else canon a
theorem rg_wd(s:Bool)(r:Nat):rg (wd s r)=min r 2139095040:=by
 unfold rg wd;split<;>omega
theorem Zyr(d:Ieee.Datum)(h:d.isNaN=false):rg (Ieee.single.write d)<=2139095040:=by
 cases d with
 |number s m e=>show rg (Ieee.single.nearest s m e)<=_;rw[Zju,Zsb,rg_wd];omega
 |infinity s=>show rg (wd s 2139095040)<=_;rw[rg_wd];omega
 |nan s t=>simp[Ieee.Datum.isNaN]at h
theorem Zaee{d e f:Ieee.Datum}(h:d.sum e=some f):f.isNaN=false:=by
 cases d<;>cases e<;>simp[Ieee.Datum.sum]at h<;>first|(subst h;rfl)|(obtain⟨_,rfl⟩:=h;rfl)
theorem Zanh{d e f:Ieee.Datum}(h:d.product e=some f):f.isNaN=false:=by
 cases d<;>cases e<;>simp[Ieee.Datum.product]at h<;>first|(subst h;rfl)|(obtain⟨_,rfl⟩:=h;rfl)
theorem Zamz{k:Nat}{d e f:Ieee.Datum}(h:d.quotient k e=some f):f.isNaN=false:=by
 cases d<;>cases e<;>simp[Ieee.Datum.quotient]at h
 ·split at h
  ·split at h
   ·cases h
   ·cases h;rfl
  ·cases h;rfl
 ·subst h;rfl
 ·subst h;rfl
theorem Zaom{k:Nat}{d f:Ieee.Datum}(h:d.root k=some f):f.isNaN=false:=by
 cases d<;>simp[Ieee.Datum.root]at h
 ·split at h
  ·cases h;rfl
  ·split at h
   ·cases h
   ·simp only[Option.some.injEq]at h;subst h;rfl
 ·obtain⟨-,rfl⟩:=h;rfl
theorem Zrs{o:Option Ieee.Datum}{r:Nat}(h:o.map Ieee.single.write=some r)(k:∀f,o=some f->f.isNaN=false):rg r<=2139095040/\r<4294967296:=by
 have lt:=Ieee.single.map_write_lt h;cases o with
 |none=>simp at h
 |some d=>simp only[Option.map_some,Option.some.injEq]at h;subst h;exact⟨Zyr d (k d rfl),lt⟩
theorem Zxd{x y r:Nat}(h:Ieee.single.add x y=some r):rg r<=2139095040/\r<4294967296:=Zrs h fun _ q=>Zaee q
theorem Zxl{x y r:Nat}(h:Ieee.single.sub x y=some r):rg r<=2139095040/\r<4294967296:=Zrs h fun _ q=>Zaee q
theorem Zxw{x y r:Nat}(h:Ieee.single.mul x y=some r):rg r<=2139095040/\r<4294967296:=Zrs h fun _ q=>Zanh q
theorem Zxk{x y r:Nat}(h:Ieee.single.div x y=some r):rg r<=2139095040/\r<4294967296:=Zrs h fun _ q=>Zamz q
theorem Zux{x r:Nat}(h:Ieee.single.sqrt x=some r):rg r<=2139095040/\r<4294967296:=Zrs h fun _ q=>Zaom q
theorem Zagb(r:Nat):nan (r:Int)=decide (2139095040<rg r):=by unfold nan rg;rw[decide_eq_decide];omega
theorem Zlp{r:Nat}(h:rg r<=2139095040):canon (r:Int)=r:=by
 unfold canon;rw[Zagb];simp;omega
theorem Zmy{r:Nat}(h:2139095040<rg r):canon (r:Int)=2143289344:=by
 unfold canon;rw[Zagb];simp;omega
theorem Zuh(x y t:Nat):2139095040<rg ((Question.nanBits .f32 x y).cut t)/\(Question.nanBits .f32 x y).cut t<4294967296:=by
 have e:(Question.nanBits .f32 x y).cut t=t%2*2147483648+2139095040+1+t/2%8388607:=rfl;exact Zcv
theorem Zacd(x t:Nat):2139095040<rg ((Question.nanConv .f32 x).cut t)/\(Question.nanConv .f32 x).cut t<4294967296:=by
 have e:(Question.nanConv .f32 x).cut t=t%2*2147483648+2139095040+1+t/2%8388607:=rfl;exact Zcv
theorem Zwf(m:Bool)(x y t:Nat):2139095040<rg ((Question.nanMinMax .f32 m x y).cut t)/\(Question.nanMinMax .f32 m x y).cut t<4294967296:=by
 have e:(Question.nanMinMax .f32 m x y).cut t=t%2*2147483648+2139095040+1+t/2%8388607:=rfl;exact Zcv
section
variable {P : Program} (w : World)
theorem Znl(op:BinOp)(t:TypeId)(k:FloatKind)(x y:Nat)(hop:op=.add\/op=.sub\/op=.mul\/op=.quo)(h:floatBits op k x y=none):
 (binOp op t (.float k x) (.float k y)).run P w=.ok (.float k ((Question.nanBits k x y).cut (w.tape w.drawn (.nanBits k x y)))) w.drew:=by
 rcases hop with rfl|rfl|rfl|rfl<;>simp only[floatBits]at h<;>simp[binOp,Op.floatArith,h,choose,Sem.run,Question.forced]
end
theorem Zth(o:Option Nat)(h:∀r,o=some r->r<4294967296):0<=op2 o/\op2 o<4294967296:=by
 cases o with
 |none=>decide
 |some r=>have:=h r rfl;show 0<=(r:Int)/\(r:Int)<_;omega
theorem Zafs(a b:Int):0<=fadd a b/\fadd a b<4294967296:=Zth _ fun _ h=>(Zxd h).2
theorem fsub_lo(a b:Int):0<=fsub a b/\fsub a b<4294967296:=Zth _ fun _ h=>(Zxl h).2
theorem Znd(a b:Int):0<=fmul a b/\fmul a b<4294967296:=Zth _ fun _ h=>(Zxw h).2
theorem fdiv_lo(a b:Int):0<=fdiv a b/\fdiv a b<4294967296:=Zth _ fun _ h=>(Zxk h).2
theorem Zarx(a:Int):0<=Zks a/\Zks a<4294967296:=Zth _ fun _ h=>(Zux h).2
end Go.Proofs.YtbinohkcolcbfaaGreat
namespace Go.Proofs.YtbinohkcolcbfaaGreat
open Go.RowKit Go.Proofs.Tryz
set_option linter.unusedVariables false
set_option linter.unusedSimpArgs false
set_option maxRecDepth 100000
set_option maxHeartbeats 16000000
theorem belV{a b c:World}(h:Below a.heap.size a b)(k:Below b.heap.size b c):Below a.heap.size a c:=h.trans (k.mono h.size)
theorem Zkp(w:World):Below w.heap.size w w:=Below.refl _ _
end Go.Proofs.YtbinohkcolcbfaaGreat
set_option maxRecDepth 100000
set_option maxHeartbeats 16000000
namespace Go.Proofs.YtbinohkcolcbfaaGreat
open Go.RowKit Go.Proofs.Tryz
set_option linter.unusedVariables false
theorem belD(w:World):Below w.heap.size w w.drew:=(Below.refl _ _).drew
theorem Zamh(a:Int)(w:World):(callFunc 189 #[.int .u32 a]).run prog w=.ok (.value (.float .f32 a.toNat)) w:=by
 rw[run_callFunc_extern (e:=Extern.MathFloatBits.float32frombits) func189 kR kR kR kR];rfl
theorem to_bits(b:Nat)(w:World):(callFunc 163 #[.float .f32 b]).run prog w=.ok (.value (.int .u32 b)) w:=by
 rw[run_callFunc_extern (e:=Extern.MathFloatBits.float32bits) func163 kR kR kR kR];rfl
theorem Zls(a:Int)(h0:0<=a)(h1:a<4294967296)(w:World):
 Calls prog 162 #[.int .u32 a] w fun e w'=>e=.returned (.float .f32 a.toNat)/\w'=w:=by
 have hx:=Zamh a w;go_enter func162,ntmps162;go_wp2;go_ret;exact⟨rfl,rfl⟩
theorem Zko(b:Nat)(h1:b<4294967296)(w:World):
 Calls prog 140 #[.float .f32 b] w fun e w'=>e=.returned (.int .u32 (canon b))/\w'=w:=by
 have hx:=to_bits b w;go_enter func140,ntmps140;exact Zfj
theorem Zaem(a:Int)(h0:0<=a)(h1:a<4294967296)(b:Int)(g0:0<=b)(g1:b<4294967296)(w:World):
 Calls prog 142 #[.int .u32 a,.int .u32 b] w fun e w'=>e=.returned (.int .u32 (fadd a b))/\Below w.heap.size w w':=by
 unfold fadd;cases hr:Ieee.single.add a.toNat b.toNat with
 |none=>
  have hx:=Znl (P:=prog) w .add 208 .f32 a.toNat b.toNat sM hr;have hn:=Zuh a.toNat b.toNat (w.tape w.drawn (.nanBits .f32 a.toNat b.toNat));generalize (Question.nanBits .f32 a.toNat b.toNat).cut (w.tape w.drawn (.nanBits .f32 a.toNat b.toNat))=z at *;have hc:=Zmy hn.1;have hz:=hn.2;clear hr hn;go_enter func142,ntmps142;exact Zbg
 |some z=>
  have hx:=run_float_arith (P:=prog) w .add 208 .f32 a.toNat b.toNat z hr;have hn:=Zxd hr;have hc:=Zlp hn.1;have hz:=hn.2;clear hr hn;go_enter func142,ntmps142;exact Zbu
theorem sub_any(a:Int)(h0:0<=a)(h1:a<4294967296)(b:Int)(g0:0<=b)(g1:b<4294967296)(w:World):
 Calls prog 172 #[.int .u32 a,.int .u32 b] w fun e w'=>e=.returned (.int .u32 (fsub a b))/\Below w.heap.size w w':=by
 unfold fsub;cases hr:Ieee.single.sub a.toNat b.toNat with
 |none=>
  have hx:=Znl (P:=prog) w .sub 208 .f32 a.toNat b.toNat sM hr;have hn:=Zuh a.toNat b.toNat (w.tape w.drawn (.nanBits .f32 a.toNat b.toNat));generalize (Question.nanBits .f32 a.toNat b.toNat).cut (w.tape w.drawn (.nanBits .f32 a.toNat b.toNat))=z at *;have hc:=Zmy hn.1;have hz:=hn.2;clear hr hn;go_enter func172,ntmps172;exact Zbg
 |some z=>
  have hx:=run_float_arith (P:=prog) w .sub 208 .f32 a.toNat b.toNat z hr;have hn:=Zxl hr;have hc:=Zlp hn.1;have hz:=hn.2;clear hr hn;go_enter func172,ntmps172;exact Zbu
theorem Zxr(a:Int)(h0:0<=a)(h1:a<4294967296)(b:Int)(g0:0<=b)(g1:b<4294967296)(w:World):
 Calls prog 139 #[.int .u32 a,.int .u32 b] w fun e w'=>e=.returned (.int .u32 (fmul a b))/\Below w.heap.size w w':=by
 unfold fmul;cases hr:Ieee.single.mul a.toNat b.toNat with
 |none=>
  have hx:=Znl (P:=prog) w .mul 208 .f32 a.toNat b.toNat sM hr;have hn:=Zuh a.toNat b.toNat (w.tape w.drawn (.nanBits .f32 a.toNat b.toNat));generalize (Question.nanBits .f32 a.toNat b.toNat).cut (w.tape w.drawn (.nanBits .f32 a.toNat b.toNat))=z at *;have hc:=Zmy hn.1;have hz:=hn.2;clear hr hn;go_enter func139,ntmps139;exact Zbg
 |some z=>
  have hx:=run_float_arith (P:=prog) w .mul 208 .f32 a.toNat b.toNat z hr;have hn:=Zxw hr;have hc:=Zlp hn.1;have hz:=hn.2;clear hr hn;go_enter func139,ntmps139;exact Zbu
theorem div_any(a:Int)(h0:0<=a)(h1:a<4294967296)(b:Int)(g0:0<=b)(g1:b<4294967296)(w:World):
 Calls prog 173 #[.int .u32 a,.int .u32 b] w fun e w'=>e=.returned (.int .u32 (fdiv a b))/\Below w.heap.size w w':=by
 unfold fdiv;cases hr:Ieee.single.div a.toNat b.toNat with
 |none=>
  have hx:=Znl (P:=prog) w .quo 208 .f32 a.toNat b.toNat sM hr;have hn:=Zuh a.toNat b.toNat (w.tape w.drawn (.nanBits .f32 a.toNat b.toNat));generalize (Question.nanBits .f32 a.toNat b.toNat).cut (w.tape w.drawn (.nanBits .f32 a.toNat b.toNat))=z at *;have hc:=Zmy hn.1;have hz:=hn.2;clear hr hn;go_enter func173,ntmps173;exact Zbg
 |some z=>
  have hx:=run_float_arith (P:=prog) w .quo 208 .f32 a.toNat b.toNat z hr;have hn:=Zxk hr;have hc:=Zlp hn.1;have hz:=hn.2;clear hr hn;go_enter func173,ntmps173;exact Zbu
theorem Zus(n:Nat)(h:n<2^31):n^^^2^31=2^31+n:=by
 apply Nat.eq_of_testBit_eq;intro i;rw[Nat.testBit_xor,Nat.testBit_two_pow];rcases Nat.lt_trichotomy i 31 with c|c|c
 ·rw[Nat.testBit_two_pow_add_gt c,decide_eq_false (show¬ (31=i) by omega),Bool.xor_false]
 ·subst c;rw[Nat.testBit_two_pow_add_eq];simp
 ·have e1:n.testBit i=false:=Nat.testBit_lt_two_pow (Nat.lt_of_lt_of_le h (Nat.pow_le_pow_right dE oM));have e2:(2^31+n).testBit i=false:=Nat.testBit_lt_two_pow (Nat.lt_of_lt_of_le (show 2^31+n<2^32 by omega) (Nat.pow_le_pow_right dE oM));rw[e1,e2,decide_eq_false (show¬ (31=i) by omega),Bool.xor_false]
theorem Zaaj(a:Int)(h0:0<=a)(h1:a<4294967296):bits .xor .u32 a 2147483648=if 2147483648<=a then a-2147483648 else a+2147483648:=by
 rw[u32_xor a _ h0 h1 dE dE,show(2147483648:Int).toNat=2^31 from rfl];by_cases c:2147483648<=a
 ·rw[if_pos c];have e:=Zus (a.toNat-2^31) oM;rw[show 2^31+(a.toNat-2^31)=a.toNat by omega]at e;rw[←e,Nat.xor_assoc,Nat.xor_self,Nat.xor_zero];omega
 ·rw[if_neg c,Zus _ oM];omega
theorem neg_any(a:Int)(h0:0<=a)(h1:a<4294967296)(w:World):
 Calls prog 166 #[.int .u32 a] w fun e w'=>e=.returned (.int .u32 (fneg a))/\w'=w:=by
 unfold fneg;have e1:=Zaaj a h0 h1;have hb:0<=(if 2147483648<=a then a-2147483648 else a+2147483648)/\(if 2147483648<=a then a-2147483648 else a+2147483648)<4294967296:=by split<;>omega
 generalize (if 2147483648<=a then a-2147483648 else a+2147483648)=z at *;go_enter func166,ntmps166;go_wp2_with(go_at_call 101;refine(Zmg _ hb.1 hb.2 _).mono ?_;rintro e w' ⟨rfl,rfl⟩);go_ret;exact⟨rfl,rfl⟩
theorem abs_any(a:Int)(h0:0<=a)(h1:a<4294967296)(w:World):
 Calls prog 167 #[.int .u32 a] w fun e w'=>e=.returned (.int .u32 (fabs a))/\w'=w:=by
 unfold fabs;have e1:=Zye a h0 h1;go_enter func167,ntmps167;exact Zfj
theorem Zasa(a:Int)(h0:0<=a)(h1:a<4294967296)(b:Int)(g0:0<=b)(g1:b<4294967296)(w:World):
 Calls prog 176 #[.int .u32 a,.int .u32 b] w fun e w'=>e=.returned (.bool (Zpg a b))/\w'=w:=by
 go_enter func176,ntmps176;go_wp2_with(go_at_call 162;refine(Zls _ oM oM _).mono ?_;rintro e w' ⟨rfl,rfl⟩);go_ret;exact⟨rfl,rfl⟩
theorem Zapp(a:Int)(h0:0<=a)(h1:a<4294967296):ffin a=((cls a != 4)&&(cls a != 5)):=by
 unfold ffin cls;by_cases c:a/8388608%256=255
 ·rw[if_pos c];have:¬ (a%2147483648<2139095040):=oM;by_cases d:a%8388608=0<;>simp[this,d]
 ·rw[if_neg c];have:a%2147483648<2139095040:=oM;simp only[this,decide_true];split<;>(try split)<;>simp
theorem Zacb(a k:Int)(hk:cls a=k)(h0:0<=a)(h1:a<4294967296)(w:World):
 Calls prog 134 #[.int .u32 a] w fun e w'=>e=.returned (.int .i64 k)/\w'=w:=by
 subst hk;exact Zsk a h0 h1 w
theorem Zaht(a:Int)(h0:0<=a)(h1:a<4294967296)(w:World):
 Calls prog 170 #[.int .u32 a] w fun e w'=>e=.returned (.bool (ffin a))/\w'=w:=by
 rw[Zapp a h0 h1];have hc:cls a=4\/cls a=5\/cls a=1\/cls a=2\/cls a=3:=by
  unfold cls;split<;>split<;>(try split)<;>simp
 rcases hc with hc|hc|hc|hc|hc<;>rw[hc]
 all_goals(
  go_enter func170,ntmps170;go_wp2_with(go_at_call 134;refine(Zacb _ _ hc h0 h1 _).mono ?_;rintro e w' ⟨rfl,rfl⟩);go_ret
  exact⟨rfl,rfl⟩)
theorem Zaoo(n:Int):canon ((floatOfInt .f32 n:Nat):Int)=Zne n:=Zlp (Zyr (.number (decide (n<0)) n.natAbs 0) rfl)
theorem Zarm(n:Int):floatOfInt .f32 n<4294967296:=Ieee.single.write_lt (.number (decide (n<0)) n.natAbs 0)
theorem Zapq(n:Int):0<=Zne n/\Zne n<4294967296:=⟨Int.natCast_nonneg _,by have:=Ieee.single.write_lt (.number (decide (n<0)) n.natAbs 0);exact Int.ofNat_lt.2 this⟩
theorem Zanw(n:Int)(h0: -9223372036854775808<=n)(h1:n<=9223372036854775807)(w:World):
 Calls prog 110 #[.int .i64 n] w fun e w'=>e=.returned (.int .u32 (Zne n))/\w'=w:=by
 have hx:=Zaoo n;have hl:=Zarm n;go_enter func110,ntmps110;go_wp2_with(go_at_call 140;refine(Zko _ hl _).mono ?_;rintro e w' ⟨rfl,rfl⟩);go_ret;exact⟨rfl,rfl⟩
theorem Zwp(c:Int)(e0:0<=c)(e1:c<4294967296)(a:Int)(h0:0<=a)(h1:a<4294967296)(b:Int)(g0:0<=b)(g1:b<4294967296)(w:World):
 Calls prog 144 #[.int .u32 c,.int .u32 a,.int .u32 b] w fun e w'=>e=.returned (.int .u32 (fsel c a b))/\w'=w:=by
 have hs:fsel c a b=if cls c=1\/cls c=5 then canon b else canon a:=by
  unfold fsel nan cls;by_cases c1:c/8388608%256=255
  ·by_cases c2:c%8388608=0
   ·have k1:¬ (2139095040<c%2147483648):=oM;have k2:¬ (c%2147483648=0):=oM;simp[c1,c2,k1,k2]
   ·have k1:2139095040<c%2147483648:=oM;simp[c1,c2,k1]
  ·by_cases c2:c/8388608%256=0
   ·by_cases c3:c%8388608=0
    ·have k2:c%2147483648=0:=oM;simp[c2,c3,k2]
    ·have k1:¬ (2139095040<c%2147483648):=oM;have k2:¬ (c%2147483648=0):=oM;simp[c2,c3,k1,k2]
   ·have k1:¬ (2139095040<c%2147483648):=oM;have k2:¬ (c%2147483648=0):=oM;simp[c1,c2,k1,k2]
 rw[hs];have hc:cls c=4\/cls c=5\/cls c=1\/cls c=2\/cls c=3:=by
  unfold cls;split<;>split<;>(try split)<;>simp
 rcases hc with hc|hc|hc|hc|hc<;>rw[hc]
 all_goals(
  go_enter func144,ntmps144;go_wp2_with(first
   |(go_at_call 134;refine(Zacb _ _ hc e0 e1 _).mono ?_;rintro e w' ⟨rfl,rfl⟩)
   |(go_at_call 101;refine(Zmg _ oM oM _).mono ?_;rintro e w' ⟨rfl,rfl⟩))
  go_ret
  exact⟨rfl,rfl⟩)
section
variable {P : Program} (w : World)
theorem Zace(ts:Array TypeId)(t:TypeId)(x y:Nat)(h:Ieee.single.order x y=none):
 (Builtin.min_ ts t #[.float .f32 x,.float .f32 y]).run P w=.ok (.float .f32 ((Question.nanMinMax .f32 false x y).cut (w.tape w.drawn (.nanMinMax .f32 false x y)))) w.drew:=by
 have h':FloatKind.f32.format.order x y=none:=h;simp[Builtin.min_,Builtin.min2,h',choose,Sem.run,Question.forced]
theorem Zabz(ts:Array TypeId)(t:TypeId)(x y:Nat)(h:Ieee.single.order x y=none):
 (Builtin.max_ ts t #[.float .f32 x,.float .f32 y]).run P w=.ok (.float .f32 ((Question.nanMinMax .f32 true x y).cut (w.tape w.drawn (.nanMinMax .f32 true x y)))) w.drew:=by
 have h':FloatKind.f32.format.order x y=none:=h;simp[Builtin.max_,Builtin.max2,h',choose,Sem.run,Question.forced]
theorem Zaha(ts:Array TypeId)(t:TypeId)(x y:Nat)(h:Ieee.single.order x y=some .lt):(Builtin.min_ ts t #[.float .f32 x,.float .f32 y]).run P w=.ok (.float .f32 x) w:=by
 have h':FloatKind.f32.format.order x y=some .lt:=h;simp[Builtin.min_,Builtin.min2,h']
theorem Zahg(ts:Array TypeId)(t:TypeId)(x y:Nat)(h:Ieee.single.order x y=some .gt):(Builtin.min_ ts t #[.float .f32 x,.float .f32 y]).run P w=.ok (.float .f32 y) w:=by
 have h':FloatKind.f32.format.order x y=some .gt:=h;simp[Builtin.min_,Builtin.min2,h']
theorem Zaie(ts:Array TypeId)(t:TypeId)(x y:Nat)(h:Ieee.single.order x y=some .eq):(Builtin.min_ ts t #[.float .f32 x,.float .f32 y]).run P w=.ok (.float .f32 (if(Ieee.single.read x).neg then x else y)) w:=by
 have h':FloatKind.f32.format.order x y=some .eq:=h;have h2:FloatKind.f32.decode x=Ieee.single.read x:=rfl;simp[Builtin.min_,Builtin.min2,h',h2]
theorem Zair(ts:Array TypeId)(t:TypeId)(x y:Nat)(h:Ieee.single.order x y=some .lt):(Builtin.max_ ts t #[.float .f32 x,.float .f32 y]).run P w=.ok (.float .f32 y) w:=by
 have h':FloatKind.f32.format.order x y=some .lt:=h;simp[Builtin.max_,Builtin.max2,h']
theorem Zahe(ts:Array TypeId)(t:TypeId)(x y:Nat)(h:Ieee.single.order x y=some .gt):(Builtin.max_ ts t #[.float .f32 x,.float .f32 y]).run P w=.ok (.float .f32 x) w:=by
 have h':FloatKind.f32.format.order x y=some .gt:=h;simp[Builtin.max_,Builtin.max2,h']
theorem Zahu(ts:Array TypeId)(t:TypeId)(x y:Nat)(h:Ieee.single.order x y=some .eq):(Builtin.max_ ts t #[.float .f32 x,.float .f32 y]).run P w=.ok (.float .f32 (if(Ieee.single.read x).neg then y else x)) w:=by
 have h':FloatKind.f32.format.order x y=some .eq:=h;have h2:FloatKind.f32.decode x=Ieee.single.read x:=rfl;simp[Builtin.max_,Builtin.max2,h',h2]
end
theorem Zabk(x:Nat):(Ieee.single.read x).neg=ng x:=by
 rw[Zmm];split
 ·rfl
 ·split
  ·rfl
  ·split<;>rfl
theorem ng_le(a:Int)(h0:0<=a)(h1:a<4294967296):ng a.toNat=decide (2147483648<=a):=by
 unfold ng;by_cases c:2147483648<=a<;>simp[c]<;>omega
theorem Zkk{x y:Nat}{o:Ordering}(h:Ieee.single.order x y=some o):rg x<=2139095040/\rg y<=2139095040:=by
 unfold Ieee.Format.order at h;constructor
 ·rcases Nat.lt_or_ge 2139095040 (rg x)with c|c
  ·rw[Zlc x c]at h;cases hy:Ieee.single.read y<;>rw[hy]at h<;>simp[Ieee.Datum.order]at h
  ·exact c
 ·rcases Nat.lt_or_ge 2139095040 (rg y)with c|c
  ·rw[Zlc y c]at h;cases hx:Ieee.single.read x<;>rw[hx]at h<;>simp[Ieee.Datum.order]at h
  ·exact c
theorem Zjt{a:Int}(h0:0<=a)(h:rg a.toNat<=2139095040):canon (max a 0)=a:=by
 have:=Zlp h;rw[show((a.toNat:Nat):Int)=max a 0 by omega]at this;omega
theorem Zafv(a:Int)(h0:0<=a)(h1:a<4294967296)(b:Int)(g0:0<=b)(g1:b<4294967296)(w:World):
 Calls prog 143 #[.int .u32 a,.int .u32 b] w fun e w'=>e=.returned (.int .u32 (fmin a b))/\Below w.heap.size w w':=by
 have ha:a.toNat<4294967296:=oM;have hb:b.toNat<4294967296:=oM;unfold fmin ord;rcases hr:Ieee.single.order a.toNat b.toNat with _|(_|_|_)<;>simp only []
 ·have hx:=Zace (P:=prog) w #[208,208] 208 a.toNat b.toNat hr;have hn:=Zwf false a.toNat b.toNat (w.tape w.drawn (.nanMinMax .f32 false a.toNat b.toNat));generalize (Question.nanMinMax .f32 false a.toNat b.toNat).cut (w.tape w.drawn (.nanMinMax .f32 false a.toNat b.toNat))=z at *;have hc:=Zmy hn.1;have hz:=hn.2;clear hr hn;go_enter func143,ntmps143;exact Zbg
 ·have hx:=Zaha (P:=prog) w #[208,208] 208 a.toNat b.toNat hr;have hca:=Zjt h0 (Zkk hr).1;have hcb:=Zjt g0 (Zkk hr).2;clear hr;go_enter func143,ntmps143;exact Zbr
 ·have hx:=Zaie (P:=prog) w #[208,208] 208 a.toNat b.toNat hr;have hca:=Zjt h0 (Zkk hr).1;have hcb:=Zjt g0 (Zkk hr).2;rw[Zabk,ng_le a h0 h1]at hx;clear hr;by_cases c:2147483648<=a<;>simp only[c,decide_true,decide_false,if_true,if_false,Bool.false_eq_true]at hx ⊢
  all_goals(
   go_enter func143,ntmps143;go_wp2_with(first
    |(go_at_call 162;refine(Zls _ oM oM _).mono ?_;rintro e w' ⟨rfl,rfl⟩)
    |(go_at_call 140;refine(Zko _ (by assumption) _).mono ?_;rintro e w' ⟨rfl,rfl⟩))
   go_ret
   exact⟨rfl,Zkp _⟩)
 ·have hx:=Zahg (P:=prog) w #[208,208] 208 a.toNat b.toNat hr;have hca:=Zjt h0 (Zkk hr).1;have hcb:=Zjt g0 (Zkk hr).2;clear hr;go_enter func143,ntmps143;exact Zbr
theorem max_any(a:Int)(h0:0<=a)(h1:a<4294967296)(b:Int)(g0:0<=b)(g1:b<4294967296)(w:World):
 Calls prog 174 #[.int .u32 a,.int .u32 b] w fun e w'=>e=.returned (.int .u32 (fmax a b))/\Below w.heap.size w w':=by
 have ha:a.toNat<4294967296:=oM;have hb:b.toNat<4294967296:=oM;unfold fmax ord;rcases hr:Ieee.single.order a.toNat b.toNat with _|(_|_|_)<;>simp only []
 ·have hx:=Zabz (P:=prog) w #[208,208] 208 a.toNat b.toNat hr;have hn:=Zwf true a.toNat b.toNat (w.tape w.drawn (.nanMinMax .f32 true a.toNat b.toNat));generalize (Question.nanMinMax .f32 true a.toNat b.toNat).cut (w.tape w.drawn (.nanMinMax .f32 true a.toNat b.toNat))=z at *;have hc:=Zmy hn.1;have hz:=hn.2;clear hr hn;go_enter func174,ntmps174;exact Zbg
 ·have hx:=Zair (P:=prog) w #[208,208] 208 a.toNat b.toNat hr;have hca:=Zjt h0 (Zkk hr).1;have hcb:=Zjt g0 (Zkk hr).2;clear hr;go_enter func174,ntmps174;exact Zbr
 ·have hx:=Zahu (P:=prog) w #[208,208] 208 a.toNat b.toNat hr;have hca:=Zjt h0 (Zkk hr).1;have hcb:=Zjt g0 (Zkk hr).2;rw[Zabk,ng_le a h0 h1]at hx;clear hr;by_cases c:2147483648<=a<;>simp only[c,decide_true,decide_false,if_true,if_false,Bool.false_eq_true]at hx ⊢
  all_goals(
   go_enter func174,ntmps174;go_wp2_with(first
    |(go_at_call 162;refine(Zls _ oM oM _).mono ?_;rintro e w' ⟨rfl,rfl⟩)
    |(go_at_call 140;refine(Zko _ (by assumption) _).mono ?_;rintro e w' ⟨rfl,rfl⟩))
   go_ret
   exact⟨rfl,Zkp _⟩)
 ·have hx:=Zahe (P:=prog) w #[208,208] 208 a.toNat b.toNat hr;have hca:=Zjt h0 (Zkk hr).1;have hcb:=Zjt g0 (Zkk hr).2;clear hr;go_enter func174,ntmps174;exact Zbr
end Go.Proofs.YtbinohkcolcbfaaGreat
set_option maxRecDepth 100000
set_option maxHeartbeats 16000000
namespace Go.Proofs.YtbinohkcolcbfaaGreat
open Go.RowKit Go.Proofs.Tryz
set_option linter.unusedVariables false
theorem Zuq(a:Nat)(ha:rg a<2139095040)(hs:ng a=false)(h0:mg a≠0):
 ∃r,Ieee.single.sqrt a=some (wd false r)/\Zlq 23 (mv a*2^149) r:=by
 unfold Ieee.Format.sqrt;rw[Zjy a ha,hs];simp only[Ieee.Datum.root,if_neg h0,Bool.false_eq_true,if_false,Option.map_some,Ieee.Format.write];rw[Zju,Zmb,Zkq];have hl:(mg a).log2<=23:=by
  have:(mg a).log2<24:=(Nat.log2_lt h0).2 (mg_lt a);omega
 generalize hi:(-149+(te a:Int))=i;generalize hm1:2*(23+2)-(mg a).log2=more1;generalize hmore:more1+((i-(more1:Int))%2).toNat=more;have hpar:(i-(more:Int))%2=0:=oM;have hmo:27<=more/\more<=51:=oM;generalize hn:mg a<<<more=n at *;have hlo:2^(mg a).log2<=mg a:=Nat.log2_self_le h0;have hn50:2^50<=n:=by
  rw[←hn,Nat.shiftLeft_eq]
  calc 2^50<=2^((mg a).log2+more):=Nat.pow_le_pow_right dE oM
   _=2^(mg a).log2*2^more:=Nat.pow_add ..
   _<=mg a*2^more:=Nat.mul_le_mul_right _ hlo
 have hrt:=Zqy n (n.log2/2+1) 0 oM (by
  have:n<2^(n.log2+1):=Nat.lt_log2_self;rw[Nat.zero_add,←Nat.pow_add]
  exact Nat.lt_of_lt_of_le this (Nat.pow_le_pow_right dE oM))
 generalize Ieee.Datum.rootFrom n (n.log2/2+1) 0=w at *;have hw:2^24<=w:=by
  rcases Nat.lt_or_ge w (2^24)with c|c
  ·exfalso;have:=Nat.mul_self_le_mul_self (show w+1<=2^24 from c);have e:(2:Nat)^24*2^24<2^50:=dE;omega
  ·exact c
 have big:23+2<=(2*w+(w*w != n).toNat).log2:=by
  apply(Nat.le_log2 oM).2;omega
 refine⟨_,rfl,?_⟩;obtain⟨x,hx⟩:∃x:Nat,(x:Int)=(i-(more:Int))/2+149:=⟨((i-(more:Int))/2+149).toNat,oM⟩
 have hnr:=Zti 23 (-149) w n ((i-(more:Int))/2-1) dE hrt.1 hrt.2 big x oM;have e:n*(2^x*2^x)=mv a*2^149:=by
  rw[Zpx,←hn,Nat.shiftLeft_eq,←Nat.pow_add,Nat.mul_assoc,Nat.mul_assoc,←Nat.pow_add,←Nat.pow_add];congr 2;omega
 rw[e]at hnr;exact hnr
theorem Zalt(f:Ieee.Format)(hb:f.binade<=f.infRung)(x:Nat)(h:f.infRung<x%f.signWeight):f.read x=.nan (x/f.signWeight%2==1) (x%f.signWeight-f.infRung):=by
 unfold Ieee.Format.read;simp only [];rw[if_neg oM,if_neg oM,if_neg oM]
theorem Zxz(x y t:Nat):Ieee.double.infRung<(Question.nanBits .f64 x y).cut t%Ieee.double.signWeight:=by
 have e:(Question.nanBits .f64 x y).cut t=t%2*9223372036854775808+9218868437227405312+1+t/2%4503599627370495:=rfl;have e1:Ieee.double.infRung=9218868437227405312:=rfl;have e2:Ieee.double.signWeight=9223372036854775808:=rfl;have h2:t%2=0\/t%2=1:=oM;have h3:=Nat.mod_lt (t/2) (show 0<4503599627370495 by decide);rw[e,e1,e2];generalize t/2%4503599627370495=q at *;rcases h2 with h|h<;>rw[h]<;>omega
theorem Zaib(x t:Nat):Ieee.double.infRung<(Question.nanConv .f64 x).cut t%Ieee.double.signWeight:=Zxz 0 0 t
theorem Zvk(x:Nat)(h:Ieee.double.infRung<x%Ieee.double.signWeight):∃s f,FloatKind.f64.decode x=.nan s f:=⟨_,_,Zalt Ieee.double dE x h⟩
theorem Zwc(x:Nat)(h:Ieee.double.infRung<x%Ieee.double.signWeight):Ieee.double.sqrt x=none:=by
 obtain⟨s,f,e⟩:=Zvk x h;unfold Ieee.Format.sqrt;rw[show Ieee.double.read x=_ from e];rfl
theorem Zahj(x:Nat)(h:2139095040<rg x):∃s f,FloatKind.f32.decode x=.nan s f:=⟨_,_,Zlc x h⟩
section
variable {P : Program} (w : World)
theorem Zte(src dst:TypeId)(s k:FloatKind)(b:Nat)(hs:(P.underlying src).isSome=true)(hd:P.underlying dst=some (.float k))(hk:s≠k)(h:∃g f,s.decode b=.nan g f):
 (convert src dst (.float s b)).run P w=.ok (.float k ((Question.nanConv k b).cut (w.tape w.drawn (.nanConv k b)))) w.drew:=by
 obtain⟨u,hs'⟩:=Option.isSome_iff_exists.1 hs;obtain⟨g,f,h⟩:=h;cases u<;>simp[convert,run_underlying hs',run_underlying hd,Conv.floatToFloat,hk,h,choose,Sem.run,Question.forced]
theorem Zaae(x r:Nat)(h:Ieee.double.sqrt x=some r):(Extern.MathSqrt.sqrt #[.float .f64 x]).run P w=.ok (.float .f64 r) w:=by
 have h':FloatKind.f64.format.sqrt x=some r:=h;change Sem.run P (match FloatKind.f64.format.sqrt x with
  |some r=>pure (Value.float .f64 r)
  |none=>do pure (Value.float .f64 (←choose (.nanBits .f64 x x)))) w=_
 rw[h'];rfl
theorem Zzz(x:Nat)(h:Ieee.double.sqrt x=none):(Extern.MathSqrt.sqrt #[.float .f64 x]).run P w=.ok (.float .f64 ((Question.nanBits .f64 x x).cut (w.tape w.drawn (.nanBits .f64 x x)))) w.drew:=by
 have h':FloatKind.f64.format.sqrt x=none:=h;change Sem.run P (match FloatKind.f64.format.sqrt x with
  |some r=>pure (Value.float .f64 r)
  |none=>do pure (Value.float .f64 (←choose (.nanBits .f64 x x)))) w=_
 rw[h'];simp[choose,Sem.run,Question.forced]
end
theorem Zaiy(a:Nat)(ha:a<4294967296):
 (2139095040<rg a/\Ieee.single.sqrt a=none)\/
 (∃x,floatToFloatBits .f32 a .f64=some x/\Ieee.double.sqrt x=none/\Ieee.single.sqrt a=none)\/
 (∃x y z,floatToFloatBits .f32 a .f64=some x/\Ieee.double.sqrt x=some y/\floatToFloatBits .f64 y .f32=some z/\Ieee.single.sqrt a=some z):=by
 have eself:wd (ng a) (rg a)=wd (ng a) (rg a):=rfl;rcases Nat.lt_trichotomy (rg a) 2139095040 with c|c|c
 ·right;have hf2f:∀r,Ieee.double.nearest (ng a) (mg a) (-149+(te a:Int))=Ieee.double.word (ng a) r->r<Ieee.double.infRung->floatToFloatBits .f32 a .f64=some (Ieee.double.word (ng a) r):=by
   intro r h1 h2;obtain⟨m,t,hrd,-,-⟩:=Zpj Ieee.double (ng a) r h2;unfold floatToFloatBits;rw[if_neg dE,show FloatKind.f32.decode a=.number (ng a) (mg a) (-149+(te a:Int))from Zjy a c];simp only [];have e1:FloatKind.f64.encode (.number (ng a) (mg a) (-149+(te a:Int)))=Ieee.double.word (ng a) r:=h1;rw[e1,show FloatKind.f64.decode (Ieee.double.word (ng a) r)=_ from hrd];rfl
  by_cases h0:mg a=0
  ·right;have hr0:rg a=0:=by unfold mg at h0;split at h0<;>omega
   have e0:a=wd (ng a) 0:=by unfold wd ng rg at *;by_cases d:a/2147483648%2=1<;>simp[d]<;>omega
   have hz:Ieee.double.nearest (ng a) (mg a) (-149+(te a:Int))=Ieee.double.word (ng a) 0:=by rw[h0];rfl
   have hinf:0<Ieee.double.infRung:=dE;obtain⟨m,t,hrd,hmt,-⟩:=Zpj Ieee.double (ng a) 0 hinf;have hm:m=0:=by
    rw[Zpm]at hmt;rcases Nat.mul_eq_zero.1 hmt with e|e
    ·exact e
    ·exact absurd e (Nat.ne_of_gt (Nat.two_pow_pos t))
   subst hm;refine⟨_,Ieee.double.word (ng a) 0,a,hf2f 0 hz hinf,?_,?_,?_⟩
   ·unfold Ieee.Format.sqrt;rw[hrd];simp[Ieee.Datum.root,Ieee.Format.write,Ieee.Format.nearest]
   ·unfold floatToFloatBits;rw[if_neg dE,show FloatKind.f64.decode (Ieee.double.word (ng a) 0)=_ from hrd];simp only [];have e1:FloatKind.f32.encode (.number (ng a) 0 (Ieee.double.leastPlace+(t:Int)))=a:=by
     have:Ieee.single.nearest (ng a) 0 (Ieee.double.leastPlace+(t:Int))=wd (ng a) 0:=by
      simp only[Ieee.Format.nearest,if_true];rfl
     exact this.trans e0.symm
    rw[e1,show FloatKind.f32.decode a=_ from Zjy a c];rfl
   ·unfold Ieee.Format.sqrt;rw[Zjy a c,h0];simp only[Ieee.Datum.root,if_true,Option.map_some,Ieee.Format.write,Ieee.Format.nearest];exact congrArg some e0.symm
  ·cases hs:ng a
   ·right;obtain⟨rW,rD,mD,tD,r,h1,h2,h3,h4,h5,h6,h7,h8⟩:=Zarp a c hs h0;obtain⟨r',k1,k2⟩:=Zuq a c hs h0;have hrr:=h8.unique k2;subst hrr;have hf:=hf2f rW (by rw[hs];exact h1) h2;rw[hs]at hf;refine⟨_,_,wd false r,hf,h3,?_,k1⟩;unfold floatToFloatBits;rw[if_neg dE,show FloatKind.f64.decode (Ieee.double.word false rD)=_ from h5];simp only [];have e1:FloatKind.f32.encode (.number false mD (-1074+(tD:Int)))=wd false r:=h6;rw[e1,show FloatKind.f32.decode (wd false r)=_ from Zjy _ (by rw[rg_wd];omega)];rfl
   ·left;obtain⟨r,h1,h2,h3⟩:=Zzr (mg a) (te a) true (mg_lt a) (te_le a c);have hf:=hf2f r (by rw[hs];exact h1) h3;rw[hs]at hf;obtain⟨m,t,hrd,hmt,-⟩:=Zpj Ieee.double true r h3;have hm:m≠0:=by
     intro e;subst e;rw[Zna,h2,Nat.zero_mul]at hmt;exact absurd hmt.symm (Nat.ne_of_gt (Nat.mul_pos (Nat.pos_of_ne_zero h0) (Nat.two_pow_pos _)))
    refine⟨_,hf,?_,?_⟩
    ·unfold Ieee.Format.sqrt;rw[hrd];simp[Ieee.Datum.root,hm]
    ·unfold Ieee.Format.sqrt;rw[Zjy a c,hs];simp[Ieee.Datum.root,h0]
 ·right;have hf:floatToFloatBits .f32 a .f64=some (Ieee.double.word (ng a) Ieee.double.infRung):=by
   unfold floatToFloatBits;rw[if_neg dE,show FloatKind.f32.decode a=_ from Zlw a c];rfl
  have hrd:∀s,Ieee.double.read (Ieee.double.word s Ieee.double.infRung)=.infinity s:=dE;cases hs:ng a
  ·right;have e0:a=2139095040:=by unfold ng rg at *;simp at hs;omega
   rw[hs]at hf;refine⟨_,Ieee.double.word false Ieee.double.infRung,a,hf,?_,?_,?_⟩
   ·unfold Ieee.Format.sqrt;rw[hrd];rfl
   ·unfold floatToFloatBits;rw[if_neg dE,show FloatKind.f64.decode (Ieee.double.word false Ieee.double.infRung)=_ from hrd false,e0];rfl
   ·unfold Ieee.Format.sqrt;rw[Zlw a c,hs,e0];rfl
  ·left;rw[hs]at hf;refine⟨_,hf,?_,?_⟩
   ·unfold Ieee.Format.sqrt;rw[hrd];rfl
   ·unfold Ieee.Format.sqrt;rw[Zlw a c,hs];rfl
 ·left;refine⟨c,?_⟩;unfold Ieee.Format.sqrt;rw[Zlc a c];rfl
theorem Zyt(x:Nat)(w:World):(callFunc 196 #[.float .f64 x]).run prog w=((Extern.MathSqrt.sqrt #[.float .f64 x]).run prog w).andThen fun v w'=>.ok (.value v) w':=
 run_callFunc_extern (e:=Extern.MathSqrt.sqrt) func196 kR kR kR kR _ _
theorem Zago(x r:Nat)(h:Ieee.double.sqrt x=some r)(w:World):
 Calls prog 191 #[.float .f64 x] w fun e w'=>e=.returned (.float .f64 r)/\w'=w:=by
 have hx:=Zyt x w;rw[Zaae w x r h]at hx;simp only[Result.andThen]at hx;go_enter func191,ntmps191;go_wp2;go_ret;exact⟨rfl,rfl⟩
theorem Zwi(x:Nat)(h:Ieee.double.sqrt x=none)(w:World):
 Calls prog 191 #[.float .f64 x] w fun e w'=>(∃z,e=.returned (.float .f64 z)/\Ieee.double.infRung<z%Ieee.double.signWeight)/\Below w.heap.size w w':=by
 have hx:=Zyt x w;rw[Zzz w x h]at hx;simp only[Result.andThen]at hx;have hz:=Zxz x x (w.tape w.drawn (.nanBits .f64 x x));generalize (Question.nanBits .f64 x x).cut (w.tape w.drawn (.nanBits .f64 x x))=z at *;go_enter func191,ntmps191;go_wp2;go_ret;exact⟨⟨z,rfl,hz⟩,belD _⟩
theorem Zzf(w:World)(b:Nat)(h:Ieee.double.infRung<b%Ieee.double.signWeight):
 ∃z:Nat,canon (z:Int)=2143289344/\z<4294967296/\(convert 235 208 (.float .f64 b)).run prog w=.ok (.float .f32 z) w.drew:=by
 refine⟨_,Zmy ?_,?_,Zte (P:=prog) w 235 208 .f64 .f32 b (by rw[underlying235];rfl) underlying208 dE (Zvk b h)⟩
 ·exact(Zacd _ _).1
 ·exact(Zacd _ _).2
theorem Zapn(a:Int)(h0:0<=a)(h1:a<4294967296)(w:World):
 Calls prog 165 #[.int .u32 a] w fun e w'=>e=.returned (.int .u32 (Zks a))/\Below w.heap.size w w':=by
 unfold Zks;rcases Zaiy a.toNat oM with⟨c,hr⟩|⟨x,hx,hq,hr⟩|⟨x,y,z,hx,hy,hz,hr⟩
 ·rw[hr];have e1:=Zte (P:=prog) w 208 235 .f32 .f64 a.toNat Zhm underlying235 dE (Zahj _ c);have hn1:=Zaib a.toNat (w.tape w.drawn (.nanConv .f64 a.toNat));generalize (Question.nanConv .f64 a.toNat).cut (w.tape w.drawn (.nanConv .f64 a.toNat))=z1 at *;have hq:=Zwc z1 hn1;clear hr c hn1;go_enter func165,ntmps165;go_wp2_with(first
   |(go_at_call 162;refine(Zls _ oM oM _).mono ?_;rintro e w' ⟨rfl,rfl⟩)
   |(go_at_call 191;refine(Zwi _ hq _).mono ?_;rintro e w2 ⟨⟨z2,rfl,hz2⟩,hw2⟩;obtain⟨z3,hc,hz,e3⟩:=Zzf w2 z2 hz2)
   |(go_at_call 140;refine(Zko _ hz _).mono ?_;rintro e w' ⟨rfl,rfl⟩))
  go_ret;exact⟨rfl,(belV (belD _) hw2).drew⟩
 ·rw[hr];have e1:=run_convert_float_float (P:=prog) w 208 235 .f32 .f64 a.toNat x Zhm underlying235 hx;clear hr hx;go_enter func165,ntmps165;go_wp2_with(first
   |(go_at_call 162;refine(Zls _ oM oM _).mono ?_;rintro e w' ⟨rfl,rfl⟩)
   |(go_at_call 191;refine(Zwi _ hq _).mono ?_;rintro e w2 ⟨⟨z2,rfl,hz2⟩,hw2⟩;obtain⟨z3,hc,hz,e3⟩:=Zzf w2 z2 hz2)
   |(go_at_call 140;refine(Zko _ hz _).mono ?_;rintro e w' ⟨rfl,rfl⟩))
  go_ret;exact⟨rfl,hw2.drew⟩
 ·rw[hr];have hn:=Zux hr;have hc:=Zlp hn.1;have hlt:=hn.2;have e1:=run_convert_float_float (P:=prog) w 208 235 .f32 .f64 a.toNat x Zhm underlying235 hx;have e2:=run_convert_float_float (P:=prog) w 235 208 .f64 .f32 y z (by rw[underlying235];rfl) underlying208 hz;clear hr hx hz hn;go_enter func165,ntmps165;go_wp2_with(first
   |(go_at_call 162;refine(Zls _ oM oM _).mono ?_;rintro e w' ⟨rfl,rfl⟩)
   |(go_at_call 191;refine(Zago _ _ hy _).mono ?_;rintro e w2 ⟨rfl,rfl⟩)
   |(go_at_call 140;refine(Zko _ hlt _).mono ?_;rintro e w' ⟨rfl,rfl⟩))
  go_ret;exact⟨rfl,Zkp _⟩
end Go.Proofs.YtbinohkcolcbfaaGreat
namespace Go.Proofs.YtbinohkcolcbfaaGreat
open Go.RowKit Go.Proofs.Tryz
set_option linter.unusedVariables false
set_option linter.unusedSimpArgs false
set_option maxRecDepth 100000
set_option maxHeartbeats 16000000
theorem Zoc(a b:Int):compare a b=if a<b then .lt else if a=b then .eq else .gt:=rfl
theorem Zacy{a b:Int}(h:a<b):compare a b=.lt:=by rw[Zoc,if_pos h]
theorem Zabw{a b:Int}(h:a=b):compare a b=.eq:=by rw[Zoc,if_neg oM,if_pos h]
theorem Zabg{a b:Int}(h:b<a):compare a b=.gt:=by rw[Zoc,if_neg oM,if_neg oM]
theorem Zamv(a b p:Int)(hp:0<p):compare (a*p) (b*p)=compare a b:=by
 rw[Zoc,Zoc];have h1:a*p<b*p↔a<b:=Int.mul_lt_mul_right hp;have h2:a*p=b*p↔a=b:=⟨fun h=>Int.eq_of_mul_eq_mul_right oM h,fun h=>by rw[h]⟩
 simp only[h1,h2]
theorem Zws{x:Nat}(h:rg x=2139095040):mv x=V 23 2139095040:=by unfold mv;rw[h]
theorem mv_fin{x:Nat}(h:rg x<2139095040):mv x<V 23 2139095040:=V_lt 23 h
theorem sv_fin{x:Nat}(h:rg x<2139095040): -(V 23 2139095040:Int)<sv x/\sv x<(V 23 2139095040:Int):=by
 have:=mv_fin h;unfold sv sg;split<;>omega
theorem Zanl(x y:Nat):Ieee.single.order x y=if 2139095040<rg x\/2139095040<rg y then none else some (compare (sv x) (sv y)):=by
 unfold Ieee.Format.order;have hV:0<V 23 2139095040:=by have:=V_lt 23 (show 0<2139095040 by decide);omega
 rcases Nat.lt_trichotomy (rg x) 2139095040 with c|c|c
 ·rcases Nat.lt_trichotomy (rg y) 2139095040 with d|d|d
  ·rw[Zjy x c,Zjy y d,if_neg oM];simp only[Ieee.Datum.order];have hm:min (-149+(te x:Int)) (-149+(te y:Int))= -149+((min (te x) (te y):Nat):Int):=oM;rw[hm];have e1:(-149+(te x:Int)-(-149+((min (te x) (te y):Nat):Int))).toNat=te x-min (te x) (te y):=oM;have e2:(-149+(te y:Int)-(-149+((min (te x) (te y):Nat):Int))).toNat=te y-min (te x) (te y):=oM;rw[e1,e2];generalize hc:min (te x) (te y)=m;have s1:Ieee.signed (ng x) (mg x) (te x-m)*(2:Int)^m=sv x:=by
    rw[Zvm,show te x-m+m=te x by omega,←Zpx];rfl
   have s2:Ieee.signed (ng y) (mg y) (te y-m)*(2:Int)^m=sv y:=by
    rw[Zvm,show te y-m+m=te y by omega,←Zpx];rfl
   rw[←s1,←s2,Zamv _ _ _ (Int.pow_pos dE)]
  ·rw[Zjy x c,Zlw y d,if_neg oM];simp only[Ieee.Datum.order];have h:=sv_fin c;have e:sv y=sg (ng y) (V 23 2139095040):=by unfold sv;rw[Zws d]
   rw[e,Zoc];cases ng y
   ·rw[if_neg dE,if_pos Zgs]
   ·rw[if_pos rfl,if_neg Zgs,if_neg Zgs]
  ·rw[Zlc y d,Zjy x c,if_pos (Or.inr d)];rfl
 ·rcases Nat.lt_trichotomy (rg y) 2139095040 with d|d|d
  ·rw[Zlw x c,Zjy y d,if_neg oM];simp only[Ieee.Datum.order];have h:=sv_fin d;have e:sv x=sg (ng x) (V 23 2139095040):=by unfold sv;rw[Zws c]
   rw[e,Zoc];cases ng x
   ·rw[if_neg dE,if_neg Zgs,if_neg Zgs]
   ·rw[if_pos rfl,if_pos Zgs]
  ·rw[Zlw x c,Zlw y d,if_neg oM];simp only[Ieee.Datum.order];have e1:sv x=sg (ng x) (V 23 2139095040):=by unfold sv;rw[Zws c]
   have e2:sv y=sg (ng y) (V 23 2139095040):=by unfold sv;rw[Zws d]
   rw[e1,e2,Zoc];cases ng x<;>cases ng y
   ·rw[if_neg oM,if_pos rfl];rfl
   ·rw[if_neg Zgf,if_neg Zgf];rfl
   ·rw[if_pos Zgf];rfl
   ·rw[if_neg oM,if_pos rfl];rfl
  ·rw[Zlc y d,Zlw x c,if_pos (Or.inr d)];rfl
 ·rw[Zlc x c,if_pos (Or.inl c)];cases Ieee.single.read y<;>rfl
theorem Zlg(a:Int)(h0:0<=a):(rg a.toNat:Int)=a%2147483648:=by unfold rg;omega
theorem Ztg(a:Int)(h0:0<=a):nan a=decide (2139095040<rg a.toNat):=by
 unfold nan;rw[decide_eq_decide];have:=Zlg a h0;omega
theorem Ztm(a b:Int)(h0:0<=a)(g0:0<=b):ord a b=if nan a=true\/nan b=true then none else some (compare (sv a.toNat) (sv b.toNat)):=by
 unfold ord;rw[Zanl,Ztg a h0,Ztg b g0];simp only[decide_eq_true_eq]
theorem Zalx(a b:Int)(h0:0<=a)(g0:0<=b):Zpg a b=true↔nan a=false/\nan b=false/\sv a.toNat<sv b.toNat:=by
 unfold Zpg;rw[Ztm a b h0 g0];by_cases hn:nan a=true\/nan b=true
 ·rw[if_pos hn];simp;intro k1 k2;simp[k1,k2]at hn
 ·rw[if_neg hn];have hn':nan a=false/\nan b=false:=by simpa using hn
  rcases Int.lt_trichotomy (sv a.toNat) (sv b.toNat)with c|c|c
  ·rw[Zacy c];simp[hn',c]
  ·rw[Zabw c];simp;omega
  ·rw[Zabg c];simp;omega
theorem sv_inj{x y:Nat}(h:sv x=sv y):rg x=rg y/\(ng x=ng y\/rg x=0):=by
 have hz:∀z,mv z=0->rg z=0:=by
  intro z hz;unfold mv at hz;rw[←Zpm 23]at hz;exact V_inj 23 hz
 have key:mv x=mv y/\(ng x=ng y\/mv x=0):=by
  unfold sv sg at h;cases hx:ng x<;>cases hy:ng y<;>rw[hx,hy]at h<;>simp only[if_true,if_false,Bool.false_eq_true]at h
  ·exact⟨oM,Or.inl rfl⟩
  ·exact⟨oM,Or.inr oM⟩
  ·exact⟨oM,Or.inr oM⟩
  ·exact⟨oM,Or.inl rfl⟩
 refine⟨V_inj 23 key.1,?_⟩;rcases key.2 with e|e
 ·exact Or.inl e
 ·exact Or.inr (hz x e)
theorem Zpi(a:Int)(h0:0<=a)(h1:a<4294967296):a=(if ng a.toNat then 2147483648 else 0)+(rg a.toNat:Int):=by
 unfold ng rg;by_cases c:2147483648<=a
 ·have:a.toNat/2147483648%2=1:=oM;simp[this];omega
 ·have:a.toNat/2147483648%2=0:=oM;simp[this];omega
theorem pat_ext{a b:Int}(h0:0<=a)(h1:a<4294967296)(g0:0<=b)(g1:b<4294967296)(hr:rg a.toNat=rg b.toNat)(hs:ng a.toNat=ng b.toNat):a=b:=by
 rw[Zpi a h0 h1,Zpi b g0 g1,hr,hs]
theorem Zabd(a:Int)(h0:0<=a)(h1:a<4294967296):ng a.toNat=decide (2147483648<=a):=by
 unfold ng;by_cases c:2147483648<=a<;>simp[c]<;>omega
theorem Zaqb(d e:Ieee.Datum):d.sum e=e.sum d:=by
 cases d<;>cases e<;>simp only[Ieee.Datum.sum]
 ·rename_i s m i t n j;rw[Int.min_comm j i,Int.add_comm (Ieee.signed t n _),Bool.and_comm]
 ·rename_i s t;by_cases h:s=t
  ·rw[if_pos h,if_pos h.symm,h]
  ·rw[if_neg h,if_neg (fun k=>h k.symm)]
theorem Zyp(a b:Int):fadd a b=fadd b a:=by unfold fadd Ieee.Format.add;rw[Zaqb]
def flip(a:Nat):Nat:=if 2147483648<=a then a-2147483648 else a+2147483648
theorem Zagh(a:Nat)(h:a<4294967296):rg (flip a)=rg a:=by unfold rg flip;split<;>omega
theorem ng_flip(a:Nat)(h:a<4294967296):ng (flip a)= !ng a:=by
 unfold ng flip;split
 ·rename_i c;have e1:a/2147483648%2=1:=oM;have e2:(a-2147483648)/2147483648%2=0:=oM;simp[e1,e2]
 ·rename_i c;have e1:a/2147483648%2=0:=oM;have e2:(a+2147483648)/2147483648%2=1:=oM;rw[e1,e2];rfl
theorem Zamn(a:Nat)(h:a<4294967296):Ieee.single.read (flip a)=(Ieee.single.read a).opposite:=by
 rw[Zmm,Zmm,Zagh a h,ng_flip a h];split
 ·rfl
 ·split
  ·rfl
  ·split<;>rfl
theorem Zacl(a:Int)(h0:0<=a)(h1:a<4294967296)(hn:nan a=false):fneg a=(flip a.toNat:Nat):=by
 unfold fneg flip;have e:(if 2147483648<=a then a-2147483648 else a+2147483648)=((if 2147483648<=a.toNat then a.toNat-2147483648 else a.toNat+2147483648:Nat):Int):=by
  by_cases c:2147483648<=a
  ·rw[if_pos c,if_pos oM];omega
  ·rw[if_neg c,if_neg oM];omega
 rw[e];apply Zlp;have:=Zagh a.toNat oM;unfold flip at this;rw[this];rw[Ztg a h0]at hn;simpa using hn
theorem Zaca(a:Int)(h0:0<=a)(h1:a<4294967296)(hn:nan a=true):fneg a=2143289344:=by
 unfold fneg canon;rw[Zwy]at hn;have:nan (if 2147483648<=a then a-2147483648 else a+2147483648)=true:=by
  rw[Zwy];split<;>omega
 rw[if_pos this]
theorem Zafo(a:Int)(h0:0<=a)(h1:a<4294967296):0<=fneg a/\fneg a<4294967296:=by
 have h:0<=(if 2147483648<=a then a-2147483648 else a+2147483648)/\(if 2147483648<=a then a-2147483648 else a+2147483648)<4294967296:=by split<;>omega
 exact Zno _ h.1 h.2

end Go.Proofs.YtbinohkcolcbfaaGreat
