import Derived.Test.YtcdpmgldkibfiaaGreatAgn2
import Derived.Test.YtcdpmgldkibfiaaGreatRows
import Derived.WalkKit
import Derived.WalkSpells
import Derived.WalkLawsBesides
import Derived.Test.YtcdpmgldkibfiaaGreatAgn4
import Derived.Laws.FloatArith
import Derived.Laws.Externs
import Derived.Below
import Derived.Handy
import Derived.Deep.Draws
import Derived.Laws.ComplexArith
import Derived.Test.YtcdpmgldkibfiaaGreatAgn1
namespace Go.Proofs.YtcdpmgldkibfiaaGreat
open Go.RowKit Go.Proofs.Tryz
set_option linter.all false
set_option maxRecDepth 100000
set_option maxHeartbeats 16000000
theorem Vc(w:World):Calls prog 77 #[.int .i64 22] w fun e w'=>e=.returned (.tuple #[DG (A5 22),.bool true])/\Below w.heap.size w w':=by
 exact Fp
theorem Vd(w:World):Calls prog 77 #[.int .i64 23] w fun e w'=>e=.returned (.tuple #[DG (A5 23),.bool true])/\Below w.heap.size w w':=by
 exact Fp
theorem Ve(w:World):Calls prog 77 #[.int .i64 24] w fun e w'=>e=.returned (.tuple #[DG (A5 24),.bool true])/\Below w.heap.size w w':=by
 exact Fp
theorem Vf(w:World):Calls prog 77 #[.int .i64 25] w fun e w'=>e=.returned (.tuple #[DG (A5 25),.bool true])/\Below w.heap.size w w':=by
 exact Fp
theorem Vg(w:World):Calls prog 77 #[.int .i64 26] w fun e w'=>e=.returned (.tuple #[DG (A5 26),.bool true])/\Below w.heap.size w w':=by
 exact Fp
theorem Vh(w:World):Calls prog 77 #[.int .i64 27] w fun e w'=>e=.returned (.tuple #[DG (A5 27),.bool true])/\Below w.heap.size w w':=by
 exact Fp
theorem Vi(w:World):Calls prog 77 #[.int .i64 28] w fun e w'=>e=.returned (.tuple #[DG (A5 28),.bool true])/\Below w.heap.size w w':=by
 exact Fp
theorem Vj(w:World):Calls prog 77 #[.int .i64 29] w fun e w'=>e=.returned (.tuple #[DG (A5 29),.bool true])/\Below w.heap.size w w':=by
 exact Fp
theorem Vk(w:World):Calls prog 77 #[.int .i64 30] w fun e w'=>e=.returned (.tuple #[DG (A5 30),.bool true])/\Below w.heap.size w w':=by
 exact Fp
theorem Vl(w:World):Calls prog 77 #[.int .i64 31] w fun e w'=>e=.returned (.tuple #[DG (A5 31),.bool true])/\Below w.heap.size w w':=by
 exact Fp
theorem Vm(w:World):Calls prog 77 #[.int .i64 32] w fun e w'=>e=.returned (.tuple #[DG (A5 32),.bool true])/\Below w.heap.size w w':=by
 exact Fp
theorem Vn(w:World):Calls prog 77 #[.int .i64 33] w fun e w'=>e=.returned (.tuple #[DG (A5 33),.bool true])/\Below w.heap.size w w':=by
 exact Fp
theorem Vo(w:World):Calls prog 77 #[.int .i64 34] w fun e w'=>e=.returned (.tuple #[DG (A5 34),.bool true])/\Below w.heap.size w w':=by
 exact Fp
theorem Vp(w:World):Calls prog 77 #[.int .i64 35] w fun e w'=>e=.returned (.tuple #[DG (A5 35),.bool true])/\Below w.heap.size w w':=by
 exact Fp
theorem Vq(w:World):Calls prog 77 #[.int .i64 36] w fun e w'=>e=.returned (.tuple #[DG (A5 36),.bool true])/\Below w.heap.size w w':=by
 exact Fp
theorem Vr(w:World):Calls prog 77 #[.int .i64 37] w fun e w'=>e=.returned (.tuple #[DG (A5 37),.bool true])/\Below w.heap.size w w':=by
 exact Fp
theorem UZ(w:World):Calls prog 77 #[.int .i64 13] w fun e w'=>e=.returned (.tuple #[DG (A5 13),.bool true])/\Below w.heap.size w w':=by
 exact Fp
theorem V0(w:World):Calls prog 77 #[.int .i64 14] w fun e w'=>e=.returned (.tuple #[DG (A5 14),.bool true])/\Below w.heap.size w w':=by
 exact Fp
theorem V5(w:World):Calls prog 77 #[.int .i64 15] w fun e w'=>e=.returned (.tuple #[DG (A5 15),.bool true])/\Below w.heap.size w w':=by
 exact Fp
theorem V6(w:World):Calls prog 77 #[.int .i64 16] w fun e w'=>e=.returned (.tuple #[DG (A5 16),.bool true])/\Below w.heap.size w w':=by
 exact Fp
theorem V7(w:World):Calls prog 77 #[.int .i64 17] w fun e w'=>e=.returned (.tuple #[DG (A5 17),.bool true])/\Below w.heap.size w w':=by
 exact Fp
theorem V8(w:World):Calls prog 77 #[.int .i64 18] w fun e w'=>e=.returned (.tuple #[DG (A5 18),.bool true])/\Below w.heap.size w w':=by
 exact Fp
theorem V9(w:World):Calls prog 77 #[.int .i64 19] w fun e w'=>e=.returned (.tuple #[DG (A5 19),.bool true])/\Below w.heap.size w w':=by
 exact Fp
theorem Va(w:World):Calls prog 77 #[.int .i64 20] w fun e w'=>e=.returned (.tuple #[DG (A5 20),.bool true])/\Below w.heap.size w w':=by
 exact Fp
theorem Vb(w:World):Calls prog 77 #[.int .i64 21] w fun e w'=>e=.returned (.tuple #[DG (A5 21),.bool true])/\Below w.heap.size w w':=by
 exact Fp
theorem QQ(w:World):Calls prog 63 #[.int .i64 22] w fun e w'=>e=.returned (.tuple #[.string ⟨#[119,119,119,45,45]⟩,.bool true])/\w'=w:=by
 exact Fq
theorem QR(w:World):Calls prog 63 #[.int .i64 23] w fun e w'=>e=.returned (.tuple #[.string ⟨#[119,119,119,45,45]⟩,.bool true])/\w'=w:=by
 exact Fq
theorem QS(w:World):Calls prog 63 #[.int .i64 24] w fun e w'=>e=.returned (.tuple #[.string ⟨#[119,119,119,45,45]⟩,.bool true])/\w'=w:=by
 exact Fq
theorem QT(w:World):Calls prog 63 #[.int .i64 25] w fun e w'=>e=.returned (.tuple #[.string ⟨#[119,119,45,45,45]⟩,.bool true])/\w'=w:=by
 exact Fq
theorem QU(w:World):Calls prog 63 #[.int .i64 26] w fun e w'=>e=.returned (.tuple #[.string ⟨#[119,119,119,119,45]⟩,.bool true])/\w'=w:=by
 exact Fq
theorem QV(w:World):Calls prog 63 #[.int .i64 27] w fun e w'=>e=.returned (.tuple #[.string ⟨#[119,119,119,45,45]⟩,.bool true])/\w'=w:=by
 exact Fq
theorem QW(w:World):Calls prog 63 #[.int .i64 28] w fun e w'=>e=.returned (.tuple #[.string ⟨#[119,119,119,45,45]⟩,.bool true])/\w'=w:=by
 exact Fq
theorem QX(w:World):Calls prog 63 #[.int .i64 29] w fun e w'=>e=.returned (.tuple #[.string ⟨#[118,45,45,45,112]⟩,.bool true])/\w'=w:=by
 exact Fq
theorem Vv(w:World):Calls prog 63 #[.int .i64 1] w fun e w'=>e=.returned (.tuple #[.string ⟨#[110,45,45,45,45]⟩,.bool true])/\w'=w:=by
 exact Fq
theorem Vw(w:World):Calls prog 63 #[.int .i64 2] w fun e w'=>e=.returned (.tuple #[.string ⟨#[119,45,45,45,105]⟩,.bool true])/\w'=w:=by
 exact Fq
theorem Vx(w:World):Calls prog 63 #[.int .i64 3] w fun e w'=>e=.returned (.tuple #[.string ⟨#[97,99,45,45,45]⟩,.bool true])/\w'=w:=by
 exact Fq
theorem Vy(w:World):Calls prog 63 #[.int .i64 4] w fun e w'=>e=.returned (.tuple #[.string ⟨#[100,120,120,45,45]⟩,.bool true])/\w'=w:=by
 exact Fq
theorem Vz(w:World):Calls prog 63 #[.int .i64 5] w fun e w'=>e=.returned (.tuple #[.string ⟨#[100,120,120,45,45]⟩,.bool true])/\w'=w:=by
 exact Fq
theorem VA(w:World):Calls prog 63 #[.int .i64 6] w fun e w'=>e=.returned (.tuple #[.string ⟨#[100,120,120,45,45]⟩,.bool true])/\w'=w:=by
 exact Fq
theorem VB(w:World):Calls prog 63 #[.int .i64 7] w fun e w'=>e=.returned (.tuple #[.string ⟨#[100,120,120,45,45]⟩,.bool true])/\w'=w:=by
 exact Fq
theorem VC(w:World):Calls prog 63 #[.int .i64 8] w fun e w'=>e=.returned (.tuple #[.string ⟨#[100,120,120,45,45]⟩,.bool true])/\w'=w:=by
 exact Fq
theorem VD(w:World):Calls prog 63 #[.int .i64 9] w fun e w'=>e=.returned (.tuple #[.string ⟨#[100,120,120,45,45]⟩,.bool true])/\w'=w:=by
 exact Fq
theorem QE(w:World):Calls prog 63 #[.int .i64 10] w fun e w'=>e=.returned (.tuple #[.string ⟨#[100,120,120,45,45]⟩,.bool true])/\w'=w:=by
 exact Fq
theorem QF(w:World):Calls prog 63 #[.int .i64 11] w fun e w'=>e=.returned (.tuple #[.string ⟨#[100,120,45,45,45]⟩,.bool true])/\w'=w:=by
 exact Fq
theorem QG(w:World):Calls prog 63 #[.int .i64 12] w fun e w'=>e=.returned (.tuple #[.string ⟨#[100,120,45,45,45]⟩,.bool true])/\w'=w:=by
 exact Fq
theorem GY{k:IntKind}{a b:Int}(h:a=b):Ending.returned (.int k a)=.returned (.int k b):=by rw[h]
theorem Yi(a:Int)(h0:0<=a)(h1:a<4294967296)(w:World):
 Calls prog 119 #[.int .i64 a] w fun e w'=>e=.returned (.bool (nan a))/\w'=w:=by
 go_enter func119,ntmps119;go_wp2;go_ret;exact⟨rfl,rfl⟩
theorem F7(a:Int)(h0:0<=a)(h1:a<4294967296)(w:World):
 Calls prog 90 #[.int .i64 a] w fun e w'=>e=.returned (.int .i64 (canon a))/\w'=w:=by
 cases hn:nan a
 ·have hc:canon a=a:=by unfold canon;simp[hn]
  exact Zef
 ·have hc:canon a=2143289344:=by unfold canon;simp[hn]
  exact Zef
def QA:Option Nat->Int
 |some r=>r
 |none=>2143289344
def Di(a b:Int):Int:=QA (Ieee.single.add a.toNat b.toNat)
def Nf(a b:Int):Int:=QA (Ieee.single.sub a.toNat b.toNat)
def EP(a b:Int):Int:=QA (Ieee.single.mul a.toNat b.toNat)
def Gf(a b:Int):Int:=QA (Ieee.single.div a.toNat b.toNat)
def Dy(a:Int):Int:=QA (Ieee.single.sqrt a.toNat)
def Dc(n:Int):Int:=(Ieee.single.nearest (decide (n<0)) n.natAbs 0:Nat)
def Jh(a:Int):Int:=canon (if 2147483648<=a then a-2147483648 else a+2147483648)
def Xk(a:Int):Int:=canon (a%2147483648)
def Y2(a b:Int):Option Ordering:=Ieee.single.order a.toNat b.toNat
def IA(a b:Int):Int:=match Y2 a b with
 |none=>2143289344
 |some .lt=>a
 |some .gt=>b
 |some .eq=>if 2147483648<=a then a else b
def Jg(a b:Int):Int:=match Y2 a b with
 |none=>2143289344
 |some .lt=>b
 |some .gt=>a
 |some .eq=>if 2147483648<=a then b else a
def Jf(a b:Int):Bool:=Y2 a b==some .lt
def feq(a b:Int):Bool:=Y2 a b==some .eq
def ffin(a:Int):Bool:=decide (a%2147483648<2139095040)
def Ma(c a b:Int):Int:=if nan c||c%2147483648==0 then canon b else canon a
theorem Z3(s:Bool)(r:Nat):rg (wd s r)=min r 2139095040:=by
 unfold rg wd;split<;>omega
theorem Tj(d:Ieee.Datum)(h:d.isNaN=false):rg (Ieee.single.write d)<=2139095040:=by
 cases d with
 |number s m e=>show rg (Ieee.single.nearest s m e)<=_;rw[Bv,Hk,Z3];omega
 |infinity s=>show rg (wd s 2139095040)<=_;rw[Z3];omega
 |nan s t=>simp[Ieee.Datum.isNaN]at h
theorem Rf{d e f:Ieee.Datum}(h:d.sum e=some f):f.isNaN=false:=by
 cases d<;>cases e<;>simp[Ieee.Datum.sum]at h<;>first|(subst h;rfl)|(obtain⟨_,rfl⟩:=h;rfl)
theorem UK{d e f:Ieee.Datum}(h:d.product e=some f):f.isNaN=false:=by
 cases d<;>cases e<;>simp[Ieee.Datum.product]at h<;>first|(subst h;rfl)|(obtain⟨_,rfl⟩:=h;rfl)
theorem UL{k:Nat}{d e f:Ieee.Datum}(h:d.quotient k e=some f):f.isNaN=false:=by
 cases d<;>cases e<;>simp[Ieee.Datum.quotient]at h
 ·split at h
  ·split at h
   ·cases h
   ·cases h;rfl
  ·cases h;rfl
 ·subst h;rfl
 ·subst h;rfl
theorem UV{k:Nat}{d f:Ieee.Datum}(h:d.root k=some f):f.isNaN=false:=by
 cases d<;>simp[Ieee.Datum.root]at h
 ·split at h
  ·cases h;rfl
  ·split at h
   ·cases h
   ·simp only[Option.some.injEq]at h;subst h;rfl
 ·obtain⟨-,rfl⟩:=h;rfl
theorem GN{o:Option Ieee.Datum}{r:Nat}(h:o.map Ieee.single.write=some r)(k:∀f,o=some f->f.isNaN=false):rg r<=2139095040/\r<4294967296:=by
 have lt:=Ieee.single.map_write_lt h;cases o with
 |none=>simp at h
 |some d=>simp only[Option.map_some,Option.some.injEq]at h;subst h;exact⟨Tj d (k d rfl),lt⟩
theorem Q4{x y r:Nat}(h:Ieee.single.add x y=some r):rg r<=2139095040/\r<4294967296:=GN h fun _ q=>Rf q
theorem Re{x y r:Nat}(h:Ieee.single.sub x y=some r):rg r<=2139095040/\r<4294967296:=GN h fun _ q=>Rf q
theorem Qs{x y r:Nat}(h:Ieee.single.mul x y=some r):rg r<=2139095040/\r<4294967296:=GN h fun _ q=>UK q
theorem Qd{x y r:Nat}(h:Ieee.single.div x y=some r):rg r<=2139095040/\r<4294967296:=GN h fun _ q=>UL q
theorem O3{x r:Nat}(h:Ieee.single.sqrt x=some r):rg r<=2139095040/\r<4294967296:=GN h fun _ q=>UV q
theorem XO(r:Nat):nan (r:Int)=decide (2139095040<rg r):=by unfold nan rg;rw[decide_eq_decide];omega
theorem Hp{r:Nat}(h:rg r<=2139095040):canon (r:Int)=r:=by
 unfold canon;rw[XO];simp;omega
section
variable {P : Program} (w : World)
end
theorem Ju(o:Option Nat)(h:∀r,o=some r->r<4294967296):0<=QA o/\QA o<4294967296:=by
 cases o with
 |none=>decide
 |some r=>have:=h r rfl;show 0<=(r:Int)/\(r:Int)<_;omega
theorem M4(a b:Int):0<=Di a b/\Di a b<4294967296:=Ju _ fun _ h=>(Q4 h).2
theorem Xp(a b:Int):0<=Nf a b/\Nf a b<4294967296:=Ju _ fun _ h=>(Re h).2
theorem Dr(a b:Int):0<=EP a b/\EP a b<4294967296:=Ju _ fun _ h=>(Qs h).2
theorem Xl(a b:Int):0<=Gf a b/\Gf a b<4294967296:=Ju _ fun _ h=>(Qd h).2
theorem Uc(a:Int):0<=Dy a/\Dy a<4294967296:=Ju _ fun _ h=>(O3 h).2
theorem Ij(n:Nat)(h:n<2^31):n^^^2^31=2^31+n:=by
 apply Nat.eq_of_testBit_eq;intro i;rw[Nat.testBit_xor,Nat.testBit_two_pow];rcases Nat.lt_trichotomy i 31 with c|c|c
 ·rw[Nat.testBit_two_pow_add_gt c,decide_eq_false (show¬ (31=i) by omega),Bool.xor_false]
 ·subst c;rw[Nat.testBit_two_pow_add_eq];simp
 ·have e1:n.testBit i=false:=Nat.testBit_lt_two_pow (Nat.lt_of_lt_of_le h (Nat.pow_le_pow_right dE oM));have e2:(2^31+n).testBit i=false:=Nat.testBit_lt_two_pow (Nat.lt_of_lt_of_le (show 2^31+n<2^32 by omega) (Nat.pow_le_pow_right dE oM));rw[e1,e2,decide_eq_false (show¬ (31=i) by omega),Bool.xor_false]
theorem Wr(a:Int)(h0:0<=a)(h1:a<4294967296):bits .xor .u32 a 2147483648=if 2147483648<=a then a-2147483648 else a+2147483648:=by
 rw[u32_xor a _ h0 h1 dE dE,show(2147483648:Int).toNat=2^31 from rfl];by_cases c:2147483648<=a
 ·rw[if_pos c];have e:=Ij (a.toNat-2^31) oM;rw[show 2^31+(a.toNat-2^31)=a.toNat by omega]at e;rw[←e,Nat.xor_assoc,Nat.xor_self,Nat.xor_zero];omega
 ·rw[if_neg c,Ij _ oM];omega
theorem TZ(n:Int):0<=Dc n/\Dc n<4294967296:=⟨Int.natCast_nonneg _,by have:=Ieee.single.write_lt (.number (decide (n<0)) n.natAbs 0);exact Int.ofNat_lt.2 this⟩
section
variable {P : Program} (w : World)
end
theorem NI(a:Nat)(ha:rg a<2139095040)(hs:ng a=false)(h0:mg a≠0):
 ∃r,Ieee.single.sqrt a=some (wd false r)/\Ic 23 (mv a*2^149) r:=by
 unfold Ieee.Format.sqrt;rw[Cp a ha,hs];simp only[Ieee.Datum.root,if_neg h0,Bool.false_eq_true,if_false,Option.map_some,Ieee.Format.write];rw[Bv,CN,BG];have hl:(mg a).log2<=23:=by
  have:(mg a).log2<24:=(Nat.log2_lt h0).2 (Ur a);omega
 generalize hi:(-149+(te a:Int))=i;generalize hm1:2*(23+2)-(mg a).log2=more1;generalize hmore:more1+((i-(more1:Int))%2).toNat=more;have hpar:(i-(more:Int))%2=0:=oM;have hmo:27<=more/\more<=51:=oM;generalize hn:mg a<<<more=n at *;have hlo:2^(mg a).log2<=mg a:=Nat.log2_self_le h0;have hn50:2^50<=n:=by
  rw[←hn,Nat.shiftLeft_eq]
  calc 2^50<=2^((mg a).log2+more):=Nat.pow_le_pow_right dE oM
   _=2^(mg a).log2*2^more:=Nat.pow_add ..
   _<=mg a*2^more:=Nat.mul_le_mul_right _ hlo
 have hrt:=I0 n (n.log2/2+1) 0 oM (by
  have:n<2^(n.log2+1):=Nat.lt_log2_self;rw[Nat.zero_add,←Nat.pow_add]
  exact Nat.lt_of_lt_of_le this (Nat.pow_le_pow_right dE oM))
 generalize Ieee.Datum.rootFrom n (n.log2/2+1) 0=w at *;have hw:2^24<=w:=by
  rcases Nat.lt_or_ge w (2^24)with c|c
  ·exfalso;have:=Nat.mul_self_le_mul_self (show w+1<=2^24 from c);have e:(2:Nat)^24*2^24<2^50:=dE;omega
  ·exact c
 have big:23+2<=(2*w+(w*w != n).toNat).log2:=by
  apply(Nat.le_log2 oM).2;omega
 refine⟨_,rfl,?_⟩;obtain⟨x,hx⟩:∃x:Nat,(x:Int)=(i-(more:Int))/2+149:=⟨((i-(more:Int))/2+149).toNat,oM⟩
 have hnr:=Li 23 (-149) w n ((i-(more:Int))/2-1) dE hrt.1 hrt.2 big x oM;have e:n*(2^x*2^x)=mv a*2^149:=by
  rw[Ii,←hn,Nat.shiftLeft_eq,←Nat.pow_add,Nat.mul_assoc,Nat.mul_assoc,←Nat.pow_add,←Nat.pow_add];congr 2;omega
 rw[e]at hnr;exact hnr
section
variable {P : Program} (w : World)
end
theorem Em(a b:Int):compare a b=if a<b then .lt else if a=b then .eq else .gt:=rfl
theorem OH{a b:Int}(h:a<b):compare a b=.lt:=by rw[Em,if_pos h]
theorem OF{a b:Int}(h:a=b):compare a b=.eq:=by rw[Em,if_neg oM,if_pos h]
theorem OG{a b:Int}(h:b<a):compare a b=.gt:=by rw[Em,if_neg oM,if_neg oM]
theorem RE(a b p:Int)(hp:0<p):compare (a*p) (b*p)=compare a b:=by
 rw[Em,Em];have h1:a*p<b*p↔a<b:=Int.mul_lt_mul_right hp;have h2:a*p=b*p↔a=b:=⟨fun h=>Int.eq_of_mul_eq_mul_right oM h,fun h=>by rw[h]⟩
 simp only[h1,h2]
theorem Md{x:Nat}(h:rg x=2139095040):mv x=V 23 2139095040:=by unfold mv;rw[h]
theorem ZD{x:Nat}(h:rg x<2139095040):mv x<V 23 2139095040:=Hn 23 h
theorem Wg{x:Nat}(h:rg x<2139095040): -(V 23 2139095040:Int)<sv x/\sv x<(V 23 2139095040:Int):=by
 have:=ZD h;unfold sv sg;split<;>omega
theorem UF(x y:Nat):Ieee.single.order x y=if 2139095040<rg x\/2139095040<rg y then none else some (compare (sv x) (sv y)):=by
 unfold Ieee.Format.order;have hV:0<V 23 2139095040:=by have:=Hn 23 (show 0<2139095040 by decide);omega
 rcases Nat.lt_trichotomy (rg x) 2139095040 with c|c|c
 ·rcases Nat.lt_trichotomy (rg y) 2139095040 with d|d|d
  ·rw[Cp x c,Cp y d,if_neg oM];simp only[Ieee.Datum.order];have hm:min (-149+(te x:Int)) (-149+(te y:Int))= -149+((min (te x) (te y):Nat):Int):=oM;rw[hm];have e1:(-149+(te x:Int)-(-149+((min (te x) (te y):Nat):Int))).toNat=te x-min (te x) (te y):=oM;have e2:(-149+(te y:Int)-(-149+((min (te x) (te y):Nat):Int))).toNat=te y-min (te x) (te y):=oM;rw[e1,e2];generalize hc:min (te x) (te y)=m;have s1:Ieee.signed (ng x) (mg x) (te x-m)*(2:Int)^m=sv x:=by
    rw[JM,show te x-m+m=te x by omega,←Ii];rfl
   have s2:Ieee.signed (ng y) (mg y) (te y-m)*(2:Int)^m=sv y:=by
    rw[JM,show te y-m+m=te y by omega,←Ii];rfl
   rw[←s1,←s2,RE _ _ _ (Int.pow_pos dE)]
  ·rw[Cp x c,Ed y d,if_neg oM];simp only[Ieee.Datum.order];have h:=Wg c;have e:sv y=sg (ng y) (V 23 2139095040):=by unfold sv;rw[Md d]
   rw[e,Em];cases ng y
   ·rw[if_neg dE,if_pos Zgr]
   ·rw[if_pos rfl,if_neg Zgr,if_neg Zgr]
  ·rw[Ee y d,Cp x c,if_pos (Or.inr d)];rfl
 ·rcases Nat.lt_trichotomy (rg y) 2139095040 with d|d|d
  ·rw[Ed x c,Cp y d,if_neg oM];simp only[Ieee.Datum.order];have h:=Wg d;have e:sv x=sg (ng x) (V 23 2139095040):=by unfold sv;rw[Md c]
   rw[e,Em];cases ng x
   ·rw[if_neg dE,if_neg Zgr,if_neg Zgr]
   ·rw[if_pos rfl,if_pos Zgr]
  ·rw[Ed x c,Ed y d,if_neg oM];simp only[Ieee.Datum.order];have e1:sv x=sg (ng x) (V 23 2139095040):=by unfold sv;rw[Md c]
   have e2:sv y=sg (ng y) (V 23 2139095040):=by unfold sv;rw[Md d]
   rw[e1,e2,Em];cases ng x<;>cases ng y
   ·rw[if_neg oM,if_pos rfl];rfl
   ·rw[if_neg Zgg,if_neg Zgg];rfl
   ·rw[if_pos Zgg];rfl
   ·rw[if_neg oM,if_pos rfl];rfl
  ·rw[Ee y d,Ed x c,if_pos (Or.inr d)];rfl
 ·rw[Ee x c,if_pos (Or.inl c)];cases Ieee.single.read y<;>rfl
theorem Cq(a:Int)(h0:0<=a):(rg a.toNat:Int)=a%2147483648:=by unfold rg;omega
theorem Jo(a:Int)(h0:0<=a):nan a=decide (2139095040<rg a.toNat):=by
 unfold nan;rw[decide_eq_decide];have:=Cq a h0;omega
theorem Jv(a b:Int)(h0:0<=a)(g0:0<=b):Y2 a b=if nan a=true\/nan b=true then none else some (compare (sv a.toNat) (sv b.toNat)):=by
 unfold Y2;rw[UF,Jo a h0,Jo b g0];simp only[decide_eq_true_eq]
theorem RP(a b:Int)(h0:0<=a)(g0:0<=b):Jf a b=true↔nan a=false/\nan b=false/\sv a.toNat<sv b.toNat:=by
 unfold Jf;rw[Jv a b h0 g0];by_cases hn:nan a=true\/nan b=true
 ·rw[if_pos hn];simp;intro k1 k2;simp[k1,k2]at hn
 ·rw[if_neg hn];have hn':nan a=false/\nan b=false:=by simpa using hn
  rcases Int.lt_trichotomy (sv a.toNat) (sv b.toNat)with c|c|c
  ·rw[OH c];simp[hn',c]
  ·rw[OF c];simp;omega
  ·rw[OG c];simp;omega
theorem sv_inj{x y:Nat}(h:sv x=sv y):rg x=rg y/\(ng x=ng y\/rg x=0):=by
 have hz:∀z,mv z=0->rg z=0:=by
  intro z hz;unfold mv at hz;rw[←LR 23]at hz;exact Tt 23 hz
 have key:mv x=mv y/\(ng x=ng y\/mv x=0):=by
  unfold sv sg at h;cases hx:ng x<;>cases hy:ng y<;>rw[hx,hy]at h<;>simp only[if_true,if_false,Bool.false_eq_true]at h
  ·exact⟨oM,Or.inl rfl⟩
  ·exact⟨oM,Or.inr oM⟩
  ·exact⟨oM,Or.inr oM⟩
  ·exact⟨oM,Or.inl rfl⟩
 refine⟨Tt 23 key.1,?_⟩;rcases key.2 with e|e
 ·exact Or.inl e
 ·exact Or.inr (hz x e)
theorem Ez(a:Int)(h0:0<=a)(h1:a<4294967296):a=(if ng a.toNat then 2147483648 else 0)+(rg a.toNat:Int):=by
 unfold ng rg;by_cases c:2147483648<=a
 ·have:a.toNat/2147483648%2=1:=oM;simp[this];omega
 ·have:a.toNat/2147483648%2=0:=oM;simp[this];omega
theorem Y8{a b:Int}(h0:0<=a)(h1:a<4294967296)(g0:0<=b)(g1:b<4294967296)(hr:rg a.toNat=rg b.toNat)(hs:ng a.toNat=ng b.toNat):a=b:=by
 rw[Ez a h0 h1,Ez b g0 g1,hr,hs]
theorem P9(a:Int)(h0:0<=a)(h1:a<4294967296):ng a.toNat=decide (2147483648<=a):=by
 unfold ng;by_cases c:2147483648<=a<;>simp[c]<;>omega
theorem Wc(d e:Ieee.Datum):d.sum e=e.sum d:=by
 cases d<;>cases e<;>simp only[Ieee.Datum.sum]
 ·rename_i s m i t n j;rw[Int.min_comm j i,Int.add_comm (Ieee.signed t n _),Bool.and_comm]
 ·rename_i s t;by_cases h:s=t
  ·rw[if_pos h,if_pos h.symm,h]
  ·rw[if_neg h,if_neg (fun k=>h k.symm)]
theorem Ks(a b:Int):Di a b=Di b a:=by unfold Di Ieee.Format.add;rw[Wc]
def M8(a:Nat):Nat:=if 2147483648<=a then a-2147483648 else a+2147483648
theorem QC(a:Nat)(h:a<4294967296):rg (M8 a)=rg a:=by unfold rg M8;split<;>omega
theorem XS(a:Nat)(h:a<4294967296):ng (M8 a)= !ng a:=by
 unfold ng M8;split
 ·rename_i c;have e1:a/2147483648%2=1:=oM;have e2:(a-2147483648)/2147483648%2=0:=oM;simp[e1,e2]
 ·rename_i c;have e1:a/2147483648%2=0:=oM;have e2:(a+2147483648)/2147483648%2=1:=oM;rw[e1,e2];rfl
theorem Si(a:Nat)(h:a<4294967296):Ieee.single.read (M8 a)=(Ieee.single.read a).opposite:=by
 rw[DC,DC,QC a h,XS a h];split
 ·rfl
 ·split
  ·rfl
  ·split<;>rfl
theorem Nd(a:Int)(h0:0<=a)(h1:a<4294967296)(hn:nan a=false):Jh a=(M8 a.toNat:Nat):=by
 unfold Jh M8;have e:(if 2147483648<=a then a-2147483648 else a+2147483648)=((if 2147483648<=a.toNat then a.toNat-2147483648 else a.toNat+2147483648:Nat):Int):=by
  by_cases c:2147483648<=a
  ·rw[if_pos c,if_pos oM];omega
  ·rw[if_neg c,if_neg oM];omega
 rw[e];apply Hp;have:=QC a.toNat oM;unfold M8 at this;rw[this];rw[Jo a h0]at hn;simpa using hn
theorem Nc(a:Int)(h0:0<=a)(h1:a<4294967296)(hn:nan a=true):Jh a=2143289344:=by
 unfold Jh canon;rw[Mf]at hn;have:nan (if 2147483648<=a then a-2147483648 else a+2147483648)=true:=by
  rw[Mf];split<;>omega
 rw[if_pos this]
theorem Qh(a:Int)(h0:0<=a)(h1:a<4294967296):0<=Jh a/\Jh a<4294967296:=by
 have h:0<=(if 2147483648<=a then a-2147483648 else a+2147483648)/\(if 2147483648<=a then a-2147483648 else a+2147483648)<4294967296:=by split<;>omega
 exact EL _ h.1 h.2

theorem Gq(a:Int)(k:Nat)(hk:k<64)(h0:0<=a)(h1:a<18446744073709551616):bits .and .u64 a ((2^k-1:Nat):Int)=a%((2^k:Nat):Int):=by
 have hp:2^k<2^64:=Nat.pow_lt_pow_right oM hk;have hq:0<2^k:=Nat.two_pow_pos k;obtain⟨n,rfl⟩:=Int.eq_ofNat_of_zero_le h0;rw[u64_and _ _ h0 h1 oM oM,Int.toNat_natCast,Int.toNat_natCast,Nat.and_two_pow_sub_one_eq_mod];rfl
theorem WT(a:Int)(h0:0<=a)(h1:a<18446744073709551616):bits .and .u64 a 255=a%256:=Gq a 8 dE h0 h1
theorem TA(a:Int)(h0:0<=a)(h1:a<18446744073709551616):bits .and .u64 a 8388607=a%8388608:=Gq a 23 dE h0 h1
def Ba(a:Int):Bool:=a/2147483648==1
def nM(a:Int):Int:=if a/8388608%256=255 then 0 else if a/8388608%256=0 then a%8388608 else 8388608+a%8388608
def nE(a:Int):Int:=if a/8388608%256=255 then 0 else if a/8388608%256=0 then -149 else a/8388608%256-150
def DB(a:Int):Bool:=if a/8388608%256=255 then a%8388608==0 else false
def BK(a:Int):Bool:=if a/8388608%256=255 then a%8388608 != 0 else false
theorem D4(a:Int)(h0:0<=a)(h1:a<4294967296)(w:World):
 Calls prog 136 #[.int .i64 a] w fun e w'=>e=.returned (.agg #[.bool (Ba a),.int .u64 (nM a),.int .i64 (nE a),.bool (DB a),.bool (BK a)])/\∃o,w'=(w.alloc o).alloc o:=by
 have e1:=WT (a/8388608) oM oM;have e2:=TA a h0 oM;by_cases c:a/8388608%256=255
 ·have f1:nM a=0:=by unfold nM;rw[if_pos c]
  have f2:nE a=0:=by unfold nE;rw[if_pos c]
  have f3:DB a=(a%8388608==0):=by unfold DB;rw[if_pos c]
  have f4:BK a=(a%8388608 != 0):=by unfold BK;rw[if_pos c]
  exact Zdh
 ·by_cases c2:a/8388608%256=0
  ·have f1:nM a=a%8388608:=by unfold nM;rw[if_neg c,if_pos c2]
   have f2:nE a= -149:=by unfold nE;rw[if_neg c,if_pos c2]
   have f3:DB a=false:=by unfold DB;rw[if_neg c]
   have f4:BK a=false:=by unfold BK;rw[if_neg c]
   exact Zdh
  ·have f1:nM a=8388608+a%8388608:=by unfold nM;rw[if_neg c,if_neg c2]
   have f2:nE a=a/8388608%256-150:=by unfold nE;rw[if_neg c,if_neg c2]
   have f3:DB a=false:=by unfold DB;rw[if_neg c]
   have f4:BK a=false:=by unfold BK;rw[if_neg c]
   exact Zdh
def He(s:Bool):Int:=if s then 2147483648 else 0
theorem PD(s:Bool):0<=He s/\He s<=2147483648:=by unfold He;split<;>decide
theorem Ga(s:Bool)(w:World):
 Calls prog 144 #[.bool s] w fun e w'=>e=.returned (.int .u64 (He s))/\w'=w:=by
 cases s
 all_goals(
  go_enter func144,ntmps144;go_wp2;go_ret
  exact⟨rfl,rfl⟩)
theorem Dm(s:Bool)(w:World):
 Calls prog 142 #[.bool s] w fun e w'=>e=.returned (.int .i64 (He s))/\w'=w:=by
 have hl:=PD s;go_enter func142,ntmps142;go_wp2_with(go_at_call 144;refine(Ga _ _).mono ?_;rintro e w' ⟨rfl,rfl⟩);go_ret;exact⟨rfl,rfl⟩
theorem Ef(s:Bool)(w:World):
 Calls prog 141 #[.bool s] w fun e w'=>e=.returned (.int .i64 (He s+2139095040))/\w'=w:=by
 have hl:=PD s;go_enter func141,ntmps141;go_wp2_with(go_at_call 144;refine(Ga _ _).mono ?_;rintro e w' ⟨rfl,rfl⟩);go_ret;exact⟨rfl,rfl⟩
def D7(n:Nat):Nat:=if n=0 then 0 else n.log2+1
theorem Rv(n:Nat)(h:n≠0):D7 n=D7 (n/2)+1:=by
 unfold D7;rw[if_neg h];by_cases c:n/2=0
 ·rw[if_pos c];have:n=1:=oM;subst this;decide
 ·rw[if_neg c,Nat.log2_def n,if_pos oM]
theorem Fe(m:Int)(h0:0<=m)(h1:m<18446744073709551616)(w:World):
 Calls prog 122 #[.int .u64 m] w fun e w'=>e=.returned (.int .i64 (D7 m.toNat))/\w'=w:=by
 have hb:D7 m.toNat<=64:=by
  unfold D7;split
  ·omega
  ·rename_i c;have:m.toNat.log2<64:=(Nat.log2_lt c).2 oM;omega
 generalize hB:D7 m.toNat=B at *;have HB:Hid (D7 m.toNat=B):=hB;clear hB;go_enter func122,ntmps122;go_wp2;go_loop [0,3] (fun mv nv=>∃ (x:Int) (k:Nat),0<=x/\x<=m/\mv=.int .u64 x/\nv=.int .i64 k/\k+D7 x.toNat=B) (fun mv _=>(intOf mv).toNat)
 case atStart=>exact⟨m,0,h0,Int.le_refl _,rfl,rfl,by rw[HB.out];omega⟩
 case round=>
  obtain⟨x,k,hx0,hx1,rfl,rfl,hk⟩:=hrel;have HK:Hid (k+D7 x.toNat=B):=hk;by_cases hz:x=0
  ·have:k=B:=by rw[←hk,hz];rfl
   subst this;clear hk HK HB;subst hz;go_wp2;go_ret;exact⟨rfl,rfl⟩
  ·have hs:=Rv x.toNat oM;have HS:Hid (D7 x.toNat=D7 (x.toNat/2)+1):=hs;have hkB:k<=63:=oM;clear hs hk;go_wp2;go_round
   case rel=>exact⟨x/2,k+1,oM,oM,rfl,gN,by rw[show(x/2).toNat=x.toNat/2 by omega];have:=HK.out;have:=HS.out;omega⟩
   case measure=>simp[intOf];omega
theorem LX(neg:Bool)(n drop:Nat):Ieee.Toward.even.cut neg n drop=n/2^drop+(if 2^drop<2*(n%2^drop)\/(2^drop=2*(n%2^drop)/\n/2^drop%2=1)then 1 else 0):=by
 have key:∀g l r:Nat,l+(decide (g<2*r)||g==2*r&&l%2==1).toNat=l+(if g<2*r\/(g=2*r/\l%2=1)then 1 else 0):=by
  intro g l r;by_cases c1:g<2*r
  ·simp[c1]
  ·by_cases c2:g=2*r
   ·by_cases c3:l%2=1<;>simp[c2,c3]
   ·simp[c1,c2]
 unfold Ieee.Toward.cut;simp only[Nat.one_shiftLeft];rcases Nat.lt_or_ge (n.log2+2) drop with c|c
 ·rw[Nat.min_eq_right oM];have h1:n<2^(n.log2+1):=Nat.lt_log2_self;have h2:2^(n.log2+2)=2*2^(n.log2+1):=by rw[Nat.pow_succ];omega
  have h3:2^(n.log2+2)<=2^drop:=Nat.pow_le_pow_right oM oM;rw[key,Nat.div_eq_of_lt oM,Nat.mod_eq_of_lt oM,Nat.div_eq_of_lt oM,Nat.mod_eq_of_lt (show n<2^drop by omega)];rw[if_neg oM,if_neg oM]
 ·rw[Nat.min_eq_left oM,key]
theorem Xd(m:Int)(h0:0<=m)(d:Nat)(hd:1<=d):((Ieee.Toward.even.cut false m.toNat d:Nat):Int)=if(2:Int)^(d-1)<m%2^d\/(m%2^d=2^(d-1)/\m/2^d%2=1)then m/2^d+1 else m/2^d:=by
 obtain⟨n,rfl⟩:=Int.eq_ofNat_of_zero_le h0;rw[LX,Int.toNat_natCast];have hG:2^d=2*2^(d-1):=by
  obtain⟨e,rfl⟩:∃e,d=e+1:=⟨d-1,oM⟩
  rw[Nat.add_sub_cancel,Nat.pow_succ,Nat.mul_comm]
 have e1:((n:Int)/2^d)=((n/2^d:Nat):Int):=by push_cast;rfl
 have e2:((n:Int)%2^d)=((n%2^d:Nat):Int):=by push_cast;rfl
 have e3:(2:Int)^(d-1)=((2^(d-1):Nat):Int):=by push_cast;rfl
 rw[e1,e2,e3];generalize n/2^d=q;generalize n%2^d=r;rw[hG];generalize 2^(d-1)=H;by_cases c:2*H<2*r\/(2*H=2*r/\q%2=1)
 ·rw[if_pos c,if_pos oM];omega
 ·rw[if_neg c,if_neg oM];omega
theorem ND(m:Int)(h0:0<=m)(h1:m<18446744073709551616)(d:Nat)(g0:1<=d)(g1:d<64)(w:World):
 Calls prog 143 #[.int .u64 m,.int .i64 d] w fun e w'=>e=.returned (.int .u64 (Ieee.Toward.even.cut false m.toNat d:Nat))/\w'=w:=by
 rw[Xd m h0 d g0];have hG:(2:Int)^d=2*2^(d-1):=by
  obtain⟨e,rfl⟩:∃e,d=e+1:=⟨d-1,oM⟩
  rw[Nat.add_sub_cancel,Int.pow_succ,Int.mul_comm]
 have hle:(2:Int)^d<=9223372036854775808:=by
  have h:2^d<=9223372036854775808:=Nat.le_trans (Nat.pow_le_pow_right dE (show d<=63 by omega)) dE;have h':((2^d:Nat):Int)<=((9223372036854775808:Nat):Int):=Int.ofNat_le.2 h;rw[Int.natCast_pow]at h';exact h'
 have hH:(1:Int)<=2^(d-1):=Int.pow_pos dE;have f1:IntKind.u64.wrap ((2:Int)^d)=2^d:=by rw[IntKind.wrap_u64];omega
 have f4:IntKind.u64.wrap ((2:Int)^(d-1))=2^(d-1):=by rw[IntKind.wrap_u64];omega
 have f3:bits .and .u64 m ((2:Int)^d-1)=m%2^d:=by
  have:=Gq m d g1 h0 h1;have e:((2^d-1:Nat):Int)=(2:Int)^d-1:=by
   rw[Int.ofNat_sub (Nat.two_pow_pos d)];push_cast;rfl
  rw[e]at this;rw[this];push_cast;rfl
 have hr0:0<=m%2^d:=Int.emod_nonneg _ oM;have hr1:m%2^d<2^d:=Int.emod_lt_of_pos _ oM;have hq0:0<=m/2^d:=Int.ediv_nonneg h0 oM;have hq1:m/2^d<=9223372036854775807:=by
  have h2:m/2^d<=m/2:=by
   have:(2:Int)∣2^d:=⟨2^(d-1),hG⟩
   rw[hG,←Int.ediv_ediv_of_nonneg dE];exact Int.ediv_le_self _ oM
  omega
 have f5:IntKind.u64.wrap ((2:Int)^d-1)=2^d-1:=by rw[IntKind.wrap_u64];omega
 generalize hr:m%2^d=r at *;generalize hq:m/2^d=q at *;generalize hHH:(2:Int)^(d-1)=H at *;generalize hGG:(2:Int)^d=G at *;have hG1:1<=G:=oM;clear hr hG;by_cases c1:H<r
 ·rw[if_pos (Or.inl c1)];exact YR
 ·by_cases c2:r=H
  ·by_cases c3:q%2=1
   ·rw[if_pos (Or.inr ⟨c2,c3⟩)];exact YR
   ·rw[if_neg oM];exact YR
  ·rw[if_neg oM];exact YR
theorem In(m:Int)(h0:0<=m)(h1:m<18446744073709551616)(d:Int)(g0:1<=d)(g1:d<100000)(w:World):
 Calls prog 143 #[.int .u64 m,.int .i64 d] w fun e w'=>e=.returned (.int .u64 (Ieee.Toward.even.cut false m.toNat d.toNat:Nat))/\w'=w:=by
 rcases Int.lt_trichotomy d 64 with c|c|c
 ·have:=ND m h0 h1 d.toNat oM oM w;rwa[Int.toNat_of_nonneg oM]at this
 ·subst c;have hv:((Ieee.Toward.even.cut false m.toNat (64:Int).toNat:Nat):Int)=if 9223372036854775808<m then 1 else 0:=by
   rw[LX,show(64:Int).toNat=64 from rfl,show(2:Nat)^64=18446744073709551616 from rfl,Nat.div_eq_of_lt oM,Nat.mod_eq_of_lt oM];by_cases c:9223372036854775808<m
   ·rw[if_pos c,if_pos oM];rfl
   ·rw[if_neg c,if_neg oM];rfl
  rw[hv];clear hv;by_cases c:9223372036854775808<m
  ·rw[if_pos c];exact YR
  ·rw[if_neg c];by_cases c2:m=9223372036854775808
   ·subst c2;exact YR
   ·exact YR
 ·have hv:((Ieee.Toward.even.cut false m.toNat d.toNat:Nat):Int)=0:=by
   have hp:2^65<=2^d.toNat:=Nat.pow_le_pow_right dE oM;have h65:(2:Nat)^65=36893488147419103232:=rfl;rw[LX,Nat.div_eq_of_lt oM,Nat.mod_eq_of_lt oM,if_neg oM];rfl
  rw[hv];clear hv;exact YR
theorem Of(s:Bool)(r:Nat):((wd s r:Nat):Int)=He s+min (r:Int) 2139095040:=by
 unfold wd He;cases s
 ·simp only[if_false,Bool.false_eq_true];omega
 ·simp only[if_true];omega
theorem Ke(s:Bool)(m:Nat)(e:Int)(h0:m≠0):∃ (U:Int) (k:Nat),U=max (e+(D7 m:Int)-24) (-149)/\
 ((Ieee.single.nearest s m e:Nat):Int)=He s+min ((U+149)*8388608+k) 2139095040/\k<=16777216/\(U= -149\/8388608<=k)/\
 k=Ieee.Toward.even.cut false (m*2^(e-U).toNat) (U-e).toNat/\(U<=e->(k:Int)=(m:Int)*2^(e-U).toNat):=by
 have hb:(D7 m:Int)-24=m.log2-23:=by unfold D7;rw[if_neg h0];omega
 have hn:=Bv Ieee.single s m e;rw[Hk,CN,BG]at hn;refine⟨max (e+(D7 m:Int)-24) (-149),Ieee.Toward.even.cut false (m*2^(e-max (e+(D7 m:Int)-24) (-149)).toNat) (max (e+(D7 m:Int)-24) (-149)-e).toNat,rfl,?_⟩;have hU:max (e+(D7 m:Int)-24) (-149)=max (e+m.log2-((23:Nat):Int)) (-149):=oM;rw[hU];generalize hUU:max (e+m.log2-((23:Nat):Int)) (-149)=U at *;have hr:Ch 23 (-149) m e=(U-(-149)).toNat*2^23+Ieee.Toward.even.cut false (m*2^(e-U).toNat) (U-e).toNat:=by
  unfold Ch;rw[if_neg h0,Nat.shiftLeft_eq,hUU]
 have hcut:=MV false (m*2^(e-U).toNat) (U-e).toNat;generalize hk:Ieee.Toward.even.cut false (m*2^(e-U).toNat) (U-e).toNat=k at *;have hlo:2^m.log2<=m:=Nat.log2_self_le h0;have hhi:m<2^(m.log2+1):=Nat.lt_log2_self;have hcs:=hcut.scale 0 0 (U-e).toNat rfl;rw[Nat.pow_zero,Nat.mul_one]at hcs;have lo:U= -149\/2^23*2^(U-e).toNat<=m*2^(e-U).toNat:=by
  rcases(show U= -149\/U=e+m.log2-23 by omega)with c|c
  ·exact Or.inl c
  ·right
   calc 2^23*2^(U-e).toNat=2^m.log2*2^(e-U).toNat:=by rw[←Nat.pow_add,←Nat.pow_add];congr 1;omega
    _<=m*2^(e-U).toNat:=Nat.mul_le_mul_right _ hlo
 have hi:m*2^(e-U).toNat<2*2^23*2^(U-e).toNat:=by
  calc m*2^(e-U).toNat<2^(m.log2+1)*2^(e-U).toNat:=Nat.mul_lt_mul_of_pos_right hhi (Nat.two_pow_pos _)
   _=2^(m.log2+1+(e-U).toNat):=(Nat.pow_add ..).symm
   _<=2^(24+(U-e).toNat):=Nat.pow_le_pow_right dE oM
   _=2*2^23*2^(U-e).toNat:=by rw[Nat.pow_add]
 have up:=hcut.up;have dn:=hcut.dn;simp only[Nat.mul_one]at up dn;have hT:0<2^(U-e).toNat:=Nat.two_pow_pos _;have hkle:k<=16777216:=by
  rcases Nat.lt_or_ge 16777216 k with c|c
  ·exfalso;have:(2*16777217)*2^(U-e).toNat<=2*k*2^(U-e).toNat:=Nat.mul_le_mul_right _ oM;generalize 2^(U-e).toNat=T at *;generalize m*2^(e-U).toNat=X at *;omega
  ·exact c
 have hkge:U= -149\/8388608<=k:=by
  rcases lo with c|c
  ·exact Or.inl c
  ·right;rcases Nat.lt_or_ge k 8388608 with d|d
   ·exfalso;have:(2*k+1)*2^(U-e).toNat<=16777215*2^(U-e).toNat:=Nat.mul_le_mul_right _ oM;generalize 2^(U-e).toNat=T at *;generalize m*2^(e-U).toNat=X at *;omega
   ·exact d
 refine⟨?_,hkle,hkge,rfl,?_⟩
 ·rw[hn,hr,Of];rw[Int.natCast_add,Int.natCast_mul,Int.toNat_of_nonneg oM];omega
 ·intro l;rw[show(U-e).toNat=0 by omega]at hcut;have up:=hcut.up;have dn:=hcut.dn;have ue:=hcut.ue;have de:=hcut.de;have:k=m*2^(e-U).toNat:=by
   generalize m*2^(e-U).toNat=X at *;simp only[Nat.pow_zero,Nat.mul_one]at ue de up dn;omega
  rw[this];push_cast;rfl
theorem BI(s:Bool)(m:Int)(h0:0<=m)(h1:m<18446744073709551616)(e:Int)(e0: -10000<=e)(e1:e<=10000)(w:World):
 Calls prog 124 #[.bool s,.int .u64 m,.int .i64 e] w fun x w'=>x=.returned (.int .i64 (Ieee.single.nearest s m.toNat e:Nat))/\w'=w:=by
 have hs:=PD s;by_cases hz:m=0
 ·subst hz;have hv:((Ieee.single.nearest s (0:Int).toNat e:Nat):Int)=He s:=by
   show((Ieee.single.nearest s 0 e:Nat):Int)=He s;exact Zfd
  rw[hv];clear hv;go_enter func124,ntmps124;go_wp2_with(go_at_call 142;refine(Dm _ _).mono ?_;rintro e w' ⟨rfl,rfl⟩);go_ret;exact⟨rfl,rfl⟩
 ·obtain⟨U,k,hU,hv,hk1,hk2,hk3,hk4⟩:=Ke s m.toNat e oM;rw[hv];clear hv;have hB:1<=D7 m.toNat/\D7 m.toNat<=64:=by
   unfold D7;rw[if_neg oM];have:m.toNat.log2<64:=(Nat.log2_lt oM).2 oM;omega
  generalize hBB:D7 m.toNat=B at *;have fh:e<U->((Ieee.Toward.even.cut false m.toNat (U-e).toNat:Nat):Int)=k:=by
   intro l;rw[hk3,show(e-U).toNat=0 by omega,Nat.pow_zero,Nat.mul_one]
  have fq:U<=e->IntKind.u64.wrap (m*2^(-(U-e)).toNat)=k:=by
   intro l;have:=hk4 l;rw[show(-(U-e)).toNat=(e-U).toNat by omega,show m=(m.toNat:Int) by omega,←this,IntKind.wrap_u64];omega
  clear hk3 hk4;have hUr: -149<=U/\U<=20000:=oM;have hK0:0<=(k:Int)/\(k:Int)<=16777216/\(U= -149\/8388608<=(k:Int)):=oM;clear hk1 hk2;generalize hKK:(k:Int)=K at *;clear hKK;generalize hT:min ((U+149)*8388608+K) 2139095040=T;have cases:(K=16777216/\U<104/\T=(U+151)*8388608)\/(K=16777216/\104<=U/\T=2139095040)\/(U= -149/\K<8388608/\T=K)\/
   (8388608<=K/\K<16777216/\U<105/\T=(U+149)*8388608+K)\/(8388608<=K/\K<16777216/\105<=U/\T=2139095040):=oM
  clear hT;by_cases hu: -149>e+(B:Int)-24
  ·have hU':U= -149:=oM;clear hU;subst hU';clear hUr;by_cases hsh: -149<=e
   ·have fq':=fq hsh;exact Zbw
   ·have fh':=fh oM;exact Zbw
  ·have hu2:e+(B:Int)-24=U:=oM;clear hU;by_cases hsh:U<=e
   ·have fq':=fq hsh;exact Zbv
   ·have fh':=fh oM;exact Zbv
def DF:Wk->List Af->Wk
 |s,[]=>s
 |s,i::r=>DF (Ag s i) r
def AK(c:Cd):Wk->List Af->Bool
 |_,[]=>true
 |s,i::r=>Ar c s i&&AK c (Ag s i) r
theorem FQ:∀ (l m:List Af) (s:Wk),DF s (l++m)=DF (DF s l) m
 |[],m,s=>rfl
 |i::l,m,s=>by simp only[List.cons_append,DF];exact FQ l m _
theorem Dv(c:Cd):∀ (l m:List Af) (s:Wk),AK c s (l++m)=(AK c s l&&AK c (DF s l) m)
 |[],m,s=>by simp[AK,DF]
 |i::l,m,s=>by simp only[List.cons_append,AK,DF,Dv c l m,Bool.and_assoc]
theorem Ud{c:Cd}:∀ {l:List Af} {s:Wk} {k:Nat},(K8 c s k l).1=0↔AK c s l=true/\(DF s l).opens.isEmpty=true
 |[],s,k=>by
  simp only[K8,AK,DF,true_and];by_cases h:s.opens.isEmpty=true
  ·simp[h]
  ·simp[h]
 |i::l,s,k=>by
  simp only[K8,AK,DF,Bool.and_eq_true];by_cases h:Ar c s i=true
  ·rw[if_pos h,Ud (k:=k+1)];simp[h]
  ·rw[if_neg h];simp[h]
theorem Ir(c:Cd)(x:List Af):∀ (l:List Af) (s:Wk),AK ⟨c.sign,c.regs,c.slots,x⟩ s l=AK c s l
 |[],s=>rfl
 |i::l,s=>by simp only[AK,Ir c x l];rfl
theorem MK{c:Cd}{x:List Af}(h:Cj c=0)(hl:x.length<=c.list.length):Cj ⟨c.sign,c.regs,c.slots,x⟩=0:=by
 unfold Cj at h ⊢;have h1:AZ c.sign=0:=by
  by_cases e:AZ c.sign=0
  ·exact e
  ·rw[if_pos e]at h;exact absurd h e
 have hm:As ⟨c.sign,c.regs,c.slots,x⟩=As c:=rfl;have hs:Bw ⟨c.sign,c.regs,c.slots,x⟩=Bw c:=rfl;rw[if_neg (by simp[h1])]at h ⊢;by_cases e1:16384<c.regs.length\/32768<c.list.length
 ·rw[if_pos e1]at h;exact absurd h dE
 ·rw[if_neg e1]at h;rw[if_neg (by show¬ (16384<c.regs.length\/32768<x.length);omega)];by_cases e2:4096<c.slots.length
  ·rw[if_pos e2]at h;exact absurd h dE
  ·rw[if_neg e2]at h;rw[if_neg (by exact e2),hm,hs];exact h
theorem DT{c:Cd}:(Az c).1=0↔Cj c=0/\AK c ⟨[],[]⟩ c.list=true/\(DF ⟨[],[]⟩ c.list).opens.isEmpty=true:=by
 unfold Az;by_cases h:Cj c=0
 ·rw[if_neg (by simp[h]),Ud];simp[h]
 ·rw[if_pos h];simp[h]
def IC(S:List Nat)(i:Af):List Nat:=if(A5 i.op).d≠0/\i.d.toNat∉S then S++[i.d.toNat]else S
theorem Pb:∀ {r:List Bk} {n:Nat},ZJ n r->∀b∈r,b.ahead<=n
 |[],_,_,b,hb=>absurd hb sM
 |a::r,n,h,b,hb=>by
  rcases List.mem_cons.1 hb with rfl|hb
  ·exact h.1
  ·exact Nat.le_trans (Pb h.2 b hb) h.1
theorem Kk{s:Wk}{i:Af}(h:(A5 i.op).d=0):CP s i (A5 i.op)=s:=by unfold CP;rw[if_neg (fun e=>e.1 h)]
theorem Ql{S:List Nat}{i:Af}{x:Nat}:x∈IC S i↔x∈S\/((A5 i.op).d≠0/\x=i.d.toNat):=by
 unfold IC;by_cases h:(A5 i.op).d≠0/\i.d.toNat∉S
 ·rw[if_pos h,List.mem_append];simp only[List.mem_singleton];exact⟨fun q=>q.imp id fun e=>⟨h.1,e⟩,fun q=>q.imp id fun e=>e.2⟩
 ·rw[if_neg h];constructor
  ·exact .inl
  ·rintro(q|⟨q1,q2⟩)
   ·exact q
   ·rw[q2];exact Decidable.byContradiction fun e=>h ⟨q1,e⟩
def dn(o:Option Nat):Nat:=match o with
 |some _=>0
 |none=>1
section
variable {P : Program} (w : World)
end
section
variable (w : World) (n : Nat)
@[go_sem] theorem alloc_drewN (o:Obj):(w.drewN n).alloc o=(w.alloc o).drewN n:=rfl
@[go_sem] theorem setCell_drewN (a:Addr) (v:Value):(w.drewN n).setCell a v=(w.setCell a v).drewN n:=rfl
end
end Go.Proofs.YtcdpmgldkibfiaaGreat
