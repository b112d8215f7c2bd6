import Derived.Test.YtcdpmgldkibfiaaGreatFrm2
import Derived.Test.YtcdpmgldkibfiaaGreatRows
import Derived.WalkKit
import Derived.WalkSpells
import Derived.WalkLawsBesides
import Derived.Test.YtcdpmgldkibfiaaGreatFrm4
import Derived.Laws.FloatArith
import Derived.Laws.Externs
import Derived.Below
import Derived.Handy
import Derived.Deep.Draws
import Derived.Laws.ComplexArith
import Derived.Test.YtcdpmgldkibfiaaGreatFrm1
namespace Go.Proofs.YtcdpmgldkibfiaaGreat
open Go.RowKit Go.Proofs.Tryz
set_option linter.all false
set_option maxRecDepth 100000
set_option maxHeartbeats 16000000
theorem UF(w:World):Calls prog 77 #[.int .i64 22] w fun e w'=>e=.returned (.tuple #[Dw (A4 22),.bool true])/\Below w.heap.size w w':=by
 exact Fk
theorem UG(w:World):Calls prog 77 #[.int .i64 23] w fun e w'=>e=.returned (.tuple #[Dw (A4 23),.bool true])/\Below w.heap.size w w':=by
 exact Fk
theorem UH(w:World):Calls prog 77 #[.int .i64 24] w fun e w'=>e=.returned (.tuple #[Dw (A4 24),.bool true])/\Below w.heap.size w w':=by
 exact Fk
theorem UI(w:World):Calls prog 77 #[.int .i64 25] w fun e w'=>e=.returned (.tuple #[Dw (A4 25),.bool true])/\Below w.heap.size w w':=by
 exact Fk
theorem UJ(w:World):Calls prog 77 #[.int .i64 26] w fun e w'=>e=.returned (.tuple #[Dw (A4 26),.bool true])/\Below w.heap.size w w':=by
 exact Fk
theorem UK(w:World):Calls prog 77 #[.int .i64 27] w fun e w'=>e=.returned (.tuple #[Dw (A4 27),.bool true])/\Below w.heap.size w w':=by
 exact Fk
theorem UL(w:World):Calls prog 77 #[.int .i64 28] w fun e w'=>e=.returned (.tuple #[Dw (A4 28),.bool true])/\Below w.heap.size w w':=by
 exact Fk
theorem UM(w:World):Calls prog 77 #[.int .i64 29] w fun e w'=>e=.returned (.tuple #[Dw (A4 29),.bool true])/\Below w.heap.size w w':=by
 exact Fk
theorem UN(w:World):Calls prog 77 #[.int .i64 30] w fun e w'=>e=.returned (.tuple #[Dw (A4 30),.bool true])/\Below w.heap.size w w':=by
 exact Fk
theorem UO(w:World):Calls prog 77 #[.int .i64 31] w fun e w'=>e=.returned (.tuple #[Dw (A4 31),.bool true])/\Below w.heap.size w w':=by
 exact Fk
theorem UP(w:World):Calls prog 77 #[.int .i64 32] w fun e w'=>e=.returned (.tuple #[Dw (A4 32),.bool true])/\Below w.heap.size w w':=by
 exact Fk
theorem UQ(w:World):Calls prog 77 #[.int .i64 33] w fun e w'=>e=.returned (.tuple #[Dw (A4 33),.bool true])/\Below w.heap.size w w':=by
 exact Fk
theorem UR(w:World):Calls prog 77 #[.int .i64 34] w fun e w'=>e=.returned (.tuple #[Dw (A4 34),.bool true])/\Below w.heap.size w w':=by
 exact Fk
theorem US(w:World):Calls prog 77 #[.int .i64 35] w fun e w'=>e=.returned (.tuple #[Dw (A4 35),.bool true])/\Below w.heap.size w w':=by
 exact Fk
theorem UT(w:World):Calls prog 77 #[.int .i64 36] w fun e w'=>e=.returned (.tuple #[Dw (A4 36),.bool true])/\Below w.heap.size w w':=by
 exact Fk
theorem UU(w:World):Calls prog 77 #[.int .i64 37] w fun e w'=>e=.returned (.tuple #[Dw (A4 37),.bool true])/\Below w.heap.size w w':=by
 exact Fk
theorem Uv(w:World):Calls prog 77 #[.int .i64 13] w fun e w'=>e=.returned (.tuple #[Dw (A4 13),.bool true])/\Below w.heap.size w w':=by
 exact Fk
theorem Uw(w:World):Calls prog 77 #[.int .i64 14] w fun e w'=>e=.returned (.tuple #[Dw (A4 14),.bool true])/\Below w.heap.size w w':=by
 exact Fk
theorem Ux(w:World):Calls prog 77 #[.int .i64 15] w fun e w'=>e=.returned (.tuple #[Dw (A4 15),.bool true])/\Below w.heap.size w w':=by
 exact Fk
theorem Uy(w:World):Calls prog 77 #[.int .i64 16] w fun e w'=>e=.returned (.tuple #[Dw (A4 16),.bool true])/\Below w.heap.size w w':=by
 exact Fk
theorem Uz(w:World):Calls prog 77 #[.int .i64 17] w fun e w'=>e=.returned (.tuple #[Dw (A4 17),.bool true])/\Below w.heap.size w w':=by
 exact Fk
theorem UA(w:World):Calls prog 77 #[.int .i64 18] w fun e w'=>e=.returned (.tuple #[Dw (A4 18),.bool true])/\Below w.heap.size w w':=by
 exact Fk
theorem UC(w:World):Calls prog 77 #[.int .i64 19] w fun e w'=>e=.returned (.tuple #[Dw (A4 19),.bool true])/\Below w.heap.size w w':=by
 exact Fk
theorem UD(w:World):Calls prog 77 #[.int .i64 20] w fun e w'=>e=.returned (.tuple #[Dw (A4 20),.bool true])/\Below w.heap.size w w':=by
 exact Fk
theorem UE(w:World):Calls prog 77 #[.int .i64 21] w fun e w'=>e=.returned (.tuple #[Dw (A4 21),.bool true])/\Below w.heap.size w w':=by
 exact Fk
theorem Qp(w:World):Calls prog 63 #[.int .i64 22] w fun e w'=>e=.returned (.tuple #[.string ⟨#[119,119,119,45,45]⟩,.bool true])/\w'=w:=by
 exact Fl
theorem Qq(w:World):Calls prog 63 #[.int .i64 23] w fun e w'=>e=.returned (.tuple #[.string ⟨#[119,119,119,45,45]⟩,.bool true])/\w'=w:=by
 exact Fl
theorem Qr(w:World):Calls prog 63 #[.int .i64 24] w fun e w'=>e=.returned (.tuple #[.string ⟨#[119,119,119,45,45]⟩,.bool true])/\w'=w:=by
 exact Fl
theorem Qs(w:World):Calls prog 63 #[.int .i64 25] w fun e w'=>e=.returned (.tuple #[.string ⟨#[119,119,45,45,45]⟩,.bool true])/\w'=w:=by
 exact Fl
theorem Qt(w:World):Calls prog 63 #[.int .i64 26] w fun e w'=>e=.returned (.tuple #[.string ⟨#[119,119,119,119,45]⟩,.bool true])/\w'=w:=by
 exact Fl
theorem Qu(w:World):Calls prog 63 #[.int .i64 27] w fun e w'=>e=.returned (.tuple #[.string ⟨#[119,119,119,45,45]⟩,.bool true])/\w'=w:=by
 exact Fl
theorem Qv(w:World):Calls prog 63 #[.int .i64 28] w fun e w'=>e=.returned (.tuple #[.string ⟨#[119,119,119,45,45]⟩,.bool true])/\w'=w:=by
 exact Fl
theorem Qw(w:World):Calls prog 63 #[.int .i64 29] w fun e w'=>e=.returned (.tuple #[.string ⟨#[118,45,45,45,112]⟩,.bool true])/\w'=w:=by
 exact Fl
theorem UX(w:World):Calls prog 63 #[.int .i64 1] w fun e w'=>e=.returned (.tuple #[.string ⟨#[110,45,45,45,45]⟩,.bool true])/\w'=w:=by
 exact Fl
theorem UY(w:World):Calls prog 63 #[.int .i64 2] w fun e w'=>e=.returned (.tuple #[.string ⟨#[119,45,45,45,105]⟩,.bool true])/\w'=w:=by
 exact Fl
theorem UZ(w:World):Calls prog 63 #[.int .i64 3] w fun e w'=>e=.returned (.tuple #[.string ⟨#[97,99,45,45,45]⟩,.bool true])/\w'=w:=by
 exact Fl
theorem V0(w:World):Calls prog 63 #[.int .i64 4] w fun e w'=>e=.returned (.tuple #[.string ⟨#[100,120,120,45,45]⟩,.bool true])/\w'=w:=by
 exact Fl
theorem V5(w:World):Calls prog 63 #[.int .i64 5] w fun e w'=>e=.returned (.tuple #[.string ⟨#[100,120,120,45,45]⟩,.bool true])/\w'=w:=by
 exact Fl
theorem V6(w:World):Calls prog 63 #[.int .i64 6] w fun e w'=>e=.returned (.tuple #[.string ⟨#[100,120,120,45,45]⟩,.bool true])/\w'=w:=by
 exact Fl
theorem V7(w:World):Calls prog 63 #[.int .i64 7] w fun e w'=>e=.returned (.tuple #[.string ⟨#[100,120,120,45,45]⟩,.bool true])/\w'=w:=by
 exact Fl
theorem V8(w:World):Calls prog 63 #[.int .i64 8] w fun e w'=>e=.returned (.tuple #[.string ⟨#[100,120,120,45,45]⟩,.bool true])/\w'=w:=by
 exact Fl
theorem V9(w:World):Calls prog 63 #[.int .i64 9] w fun e w'=>e=.returned (.tuple #[.string ⟨#[100,120,120,45,45]⟩,.bool true])/\w'=w:=by
 exact Fl
theorem Qd(w:World):Calls prog 63 #[.int .i64 10] w fun e w'=>e=.returned (.tuple #[.string ⟨#[100,120,120,45,45]⟩,.bool true])/\w'=w:=by
 exact Fl
theorem Qe(w:World):Calls prog 63 #[.int .i64 11] w fun e w'=>e=.returned (.tuple #[.string ⟨#[100,120,45,45,45]⟩,.bool true])/\w'=w:=by
 exact Fl
theorem Qf(w:World):Calls prog 63 #[.int .i64 12] w fun e w'=>e=.returned (.tuple #[.string ⟨#[100,120,45,45,45]⟩,.bool true])/\w'=w:=by
 exact Fl
theorem GQ{k:IntKind}{a b:Int}(h:a=b):Ending.returned (.int k a)=.returned (.int k b):=by rw[h]
theorem XJ(a:Int)(h0:0<=a)(h1:a<4294967296)(w:World):
 Calls prog 119 #[.int .i64 a] w fun e w'=>e=.returned (.bool (nan a))/\w'=w:=by
 go_enter func119,ntmps119;go_wp2;go_ret;exact⟨rfl,rfl⟩
theorem F4(a:Int)(h0:0<=a)(h1:a<4294967296)(w:World):
 Calls prog 90 #[.int .i64 a] w fun e w'=>e=.returned (.int .i64 (canon a))/\w'=w:=by
 cases hn:nan a
 ·have hc:canon a=a:=by unfold canon;simp[hn]
  exact Zeg
 ·have hc:canon a=2143289344:=by unfold canon;simp[hn]
  exact Zeg
def Q9:Option Nat->Int
 |some r=>r
 |none=>2143289344
def Db(a b:Int):Int:=Q9 (Ieee.single.add a.toNat b.toNat)
def MT(a b:Int):Int:=Q9 (Ieee.single.sub a.toNat b.toNat)
def EI(a b:Int):Int:=Q9 (Ieee.single.mul a.toNat b.toNat)
def Gc(a b:Int):Int:=Q9 (Ieee.single.div a.toNat b.toNat)
def Dn(a:Int):Int:=Q9 (Ieee.single.sqrt a.toNat)
def D5(n:Int):Int:=(Ieee.single.nearest (decide (n<0)) n.natAbs 0:Nat)
def J9(a:Int):Int:=canon (if 2147483648<=a then a-2147483648 else a+2147483648)
def WD(a:Int):Int:=canon (a%2147483648)
def Xq(a b:Int):Option Ordering:=Ieee.single.order a.toNat b.toNat
def It(a b:Int):Int:=match Xq a b with
 |none=>2143289344
 |some .lt=>a
 |some .gt=>b
 |some .eq=>if 2147483648<=a then a else b
def J8(a b:Int):Int:=match Xq a b with
 |none=>2143289344
 |some .lt=>b
 |some .gt=>a
 |some .eq=>if 2147483648<=a then b else a
def J7(a b:Int):Bool:=Xq a b==some .lt
def feq(a b:Int):Bool:=Xq a b==some .eq
def ffin(a:Int):Bool:=decide (a%2147483648<2139095040)
def LV(c a b:Int):Int:=if nan c||c%2147483648==0 then canon b else canon a
theorem Yv(s:Bool)(r:Nat):rg (wd s r)=min r 2139095040:=by
 unfold rg wd;split<;>omega
theorem SA(d:Ieee.Datum)(h:d.isNaN=false):rg (Ieee.single.write d)<=2139095040:=by
 cases d with
 |number s m e=>show rg (Ieee.single.nearest s m e)<=_;rw[Bq,Ha,Yv];omega
 |infinity s=>show rg (wd s 2139095040)<=_;rw[Yv];omega
 |nan s t=>simp[Ieee.Datum.isNaN]at h
theorem QK{d e f:Ieee.Datum}(h:d.sum e=some f):f.isNaN=false:=by
 cases d<;>cases e<;>simp[Ieee.Datum.sum]at h<;>first|(subst h;rfl)|(obtain⟨_,rfl⟩:=h;rfl)
theorem Uf{d e f:Ieee.Datum}(h:d.product e=some f):f.isNaN=false:=by
 cases d<;>cases e<;>simp[Ieee.Datum.product]at h<;>first|(subst h;rfl)|(obtain⟨_,rfl⟩:=h;rfl)
theorem Ug{k:Nat}{d e f:Ieee.Datum}(h:d.quotient k e=some f):f.isNaN=false:=by
 cases d<;>cases e<;>simp[Ieee.Datum.quotient]at h
 ·split at h
  ·split at h
   ·cases h
   ·cases h;rfl
  ·cases h;rfl
 ·subst h;rfl
 ·subst h;rfl
theorem Ur{k:Nat}{d f:Ieee.Datum}(h:d.root k=some f):f.isNaN=false:=by
 cases d<;>simp[Ieee.Datum.root]at h
 ·split at h
  ·cases h;rfl
  ·split at h
   ·cases h
   ·simp only[Option.some.injEq]at h;subst h;rfl
 ·obtain⟨-,rfl⟩:=h;rfl
theorem GF{o:Option Ieee.Datum}{r:Nat}(h:o.map Ieee.single.write=some r)(k:∀f,o=some f->f.isNaN=false):rg r<=2139095040/\r<4294967296:=by
 have lt:=Ieee.single.map_write_lt h;cases o with
 |none=>simp at h
 |some d=>simp only[Option.map_some,Option.some.injEq]at h;subst h;exact⟨SA d (k d rfl),lt⟩
theorem Pz{x y r:Nat}(h:Ieee.single.add x y=some r):rg r<=2139095040/\r<4294967296:=GF h fun _ q=>QK q
theorem QJ{x y r:Nat}(h:Ieee.single.sub x y=some r):rg r<=2139095040/\r<4294967296:=GF h fun _ q=>QK q
theorem PZ{x y r:Nat}(h:Ieee.single.mul x y=some r):rg r<=2139095040/\r<4294967296:=GF h fun _ q=>Uf q
theorem PI{x y r:Nat}(h:Ieee.single.div x y=some r):rg r<=2139095040/\r<4294967296:=GF h fun _ q=>Ug q
theorem ND{x r:Nat}(h:Ieee.single.sqrt x=some r):rg r<=2139095040/\r<4294967296:=GF h fun _ q=>Ur q
theorem Xc(r:Nat):nan (r:Int)=decide (2139095040<rg r):=by unfold nan rg;rw[decide_eq_decide];omega
theorem Hg{r:Nat}(h:rg r<=2139095040):canon (r:Int)=r:=by
 unfold canon;rw[Xc];simp;omega
section
variable {P : Program} (w : World)
end
theorem Jn(o:Option Nat)(h:∀r,o=some r->r<4294967296):0<=Q9 o/\Q9 o<4294967296:=by
 cases o with
 |none=>decide
 |some r=>have:=h r rfl;show 0<=(r:Int)/\(r:Int)<_;omega
theorem LP(a b:Int):0<=Db a b/\Db a b<4294967296:=Jn _ fun _ h=>(Pz h).2
theorem WJ(a b:Int):0<=MT a b/\MT a b<4294967296:=Jn _ fun _ h=>(QJ h).2
theorem Dh(a b:Int):0<=EI a b/\EI a b<4294967296:=Jn _ fun _ h=>(PZ h).2
theorem WF(a b:Int):0<=Gc a b/\Gc a b<4294967296:=Jn _ fun _ h=>(PI h).2
theorem TA(a:Int):0<=Dn a/\Dn a<4294967296:=Jn _ fun _ h=>(ND h).2
theorem Ib(n:Nat)(h:n<2^31):n^^^2^31=2^31+n:=by
 apply Nat.eq_of_testBit_eq;intro i;rw[Nat.testBit_xor,Nat.testBit_two_pow];rcases Nat.lt_trichotomy i 31 with c|c|c
 ·rw[Nat.testBit_two_pow_add_gt c,decide_eq_false (show¬ (31=i) by omega),Bool.xor_false]
 ·subst c;rw[Nat.testBit_two_pow_add_eq];simp
 ·have e1:n.testBit i=false:=Nat.testBit_lt_two_pow (Nat.lt_of_lt_of_le h (Nat.pow_le_pow_right dE oM));have e2:(2^31+n).testBit i=false:=Nat.testBit_lt_two_pow (Nat.lt_of_lt_of_le (show 2^31+n<2^32 by omega) (Nat.pow_le_pow_right dE oM));rw[e1,e2,decide_eq_false (show¬ (31=i) by omega),Bool.xor_false]
theorem VP(a:Int)(h0:0<=a)(h1:a<4294967296):bits .xor .u32 a 2147483648=if 2147483648<=a then a-2147483648 else a+2147483648:=by
 rw[u32_xor a _ h0 h1 dE dE,show(2147483648:Int).toNat=2^31 from rfl];by_cases c:2147483648<=a
 ·rw[if_pos c];have e:=Ib (a.toNat-2^31) oM;rw[show 2^31+(a.toNat-2^31)=a.toNat by omega]at e;rw[←e,Nat.xor_assoc,Nat.xor_self,Nat.xor_zero];omega
 ·rw[if_neg c,Ib _ oM];omega
theorem Ts(n:Int):0<=D5 n/\D5 n<4294967296:=⟨Int.natCast_nonneg _,by have:=Ieee.single.write_lt (.number (decide (n<0)) n.natAbs 0);exact Int.ofNat_lt.2 this⟩
section
variable {P : Program} (w : World)
end
theorem No(a:Nat)(ha:rg a<2139095040)(hs:ng a=false)(h0:mg a≠0):
 ∃r,Ieee.single.sqrt a=some (wd false r)/\I5 23 (mv a*2^149) r:=by
 unfold Ieee.Format.sqrt;rw[Cm a ha,hs];simp only[Ieee.Datum.root,if_neg h0,Bool.false_eq_true,if_false,Option.map_some,Ieee.Format.write];rw[Bq,CH,BA];have hl:(mg a).log2<=23:=by
  have:(mg a).log2<24:=(Nat.log2_lt h0).2 (TP a);omega
 generalize hi:(-149+(te a:Int))=i;generalize hm1:2*(23+2)-(mg a).log2=more1;generalize hmore:more1+((i-(more1:Int))%2).toNat=more;have hpar:(i-(more:Int))%2=0:=oM;have hmo:27<=more/\more<=51:=oM;generalize hn:mg a<<<more=n at *;have hlo:2^(mg a).log2<=mg a:=Nat.log2_self_le h0;have hn50:2^50<=n:=by
  rw[←hn,Nat.shiftLeft_eq]
  calc 2^50<=2^((mg a).log2+more):=Nat.pow_le_pow_right dE oM
   _=2^(mg a).log2*2^more:=Nat.pow_add ..
   _<=mg a*2^more:=Nat.mul_le_mul_right _ hlo
 have hrt:=Ht n (n.log2/2+1) 0 oM (by
  have:n<2^(n.log2+1):=Nat.lt_log2_self;rw[Nat.zero_add,←Nat.pow_add]
  exact Nat.lt_of_lt_of_le this (Nat.pow_le_pow_right dE oM))
 generalize Ieee.Datum.rootFrom n (n.log2/2+1) 0=w at *;have hw:2^24<=w:=by
  rcases Nat.lt_or_ge w (2^24)with c|c
  ·exfalso;have:=Nat.mul_self_le_mul_self (show w+1<=2^24 from c);have e:(2:Nat)^24*2^24<2^50:=dE;omega
  ·exact c
 have big:23+2<=(2*w+(w*w != n).toNat).log2:=by
  apply(Nat.le_log2 oM).2;omega
 refine⟨_,rfl,?_⟩;obtain⟨x,hx⟩:∃x:Nat,(x:Int)=(i-(more:Int))/2+149:=⟨((i-(more:Int))/2+149).toNat,oM⟩
 have hnr:=L5 23 (-149) w n ((i-(more:Int))/2-1) dE hrt.1 hrt.2 big x oM;have e:n*(2^x*2^x)=mv a*2^149:=by
  rw[Ia,←hn,Nat.shiftLeft_eq,←Nat.pow_add,Nat.mul_assoc,Nat.mul_assoc,←Nat.pow_add,←Nat.pow_add];congr 2;omega
 rw[e]at hnr;exact hnr
section
variable {P : Program} (w : World)
end
theorem Eg(a b:Int):compare a b=if a<b then .lt else if a=b then .eq else .gt:=rfl
theorem Og{a b:Int}(h:a<b):compare a b=.lt:=by rw[Eg,if_pos h]
theorem Oe{a b:Int}(h:a=b):compare a b=.eq:=by rw[Eg,if_neg oM,if_pos h]
theorem Of{a b:Int}(h:b<a):compare a b=.gt:=by rw[Eg,if_neg oM,if_neg oM]
theorem R1(a b p:Int)(hp:0<p):compare (a*p) (b*p)=compare a b:=by
 rw[Eg,Eg];have h1:a*p<b*p↔a<b:=Int.mul_lt_mul_right hp;have h2:a*p=b*p↔a=b:=⟨fun h=>Int.eq_of_mul_eq_mul_right oM h,fun h=>by rw[h]⟩
 simp only[h1,h2]
theorem LZ{x:Nat}(h:rg x=2139095040):mv x=V 23 2139095040:=by unfold mv;rw[h]
theorem Z5{x:Nat}(h:rg x<2139095040):mv x<V 23 2139095040:=He 23 h
theorem VE{x:Nat}(h:rg x<2139095040): -(V 23 2139095040:Int)<sv x/\sv x<(V 23 2139095040:Int):=by
 have:=Z5 h;unfold sv sg;split<;>omega
theorem Ua(x y:Nat):Ieee.single.order x y=if 2139095040<rg x\/2139095040<rg y then none else some (compare (sv x) (sv y)):=by
 unfold Ieee.Format.order;have hV:0<V 23 2139095040:=by have:=He 23 (show 0<2139095040 by decide);omega
 rcases Nat.lt_trichotomy (rg x) 2139095040 with c|c|c
 ·rcases Nat.lt_trichotomy (rg y) 2139095040 with d|d|d
  ·rw[Cm x c,Cm y d,if_neg oM];simp only[Ieee.Datum.order];have hm:min (-149+(te x:Int)) (-149+(te y:Int))= -149+((min (te x) (te y):Nat):Int):=oM;rw[hm];have e1:(-149+(te x:Int)-(-149+((min (te x) (te y):Nat):Int))).toNat=te x-min (te x) (te y):=oM;have e2:(-149+(te y:Int)-(-149+((min (te x) (te y):Nat):Int))).toNat=te y-min (te x) (te y):=oM;rw[e1,e2];generalize hc:min (te x) (te y)=m;have s1:Ieee.signed (ng x) (mg x) (te x-m)*(2:Int)^m=sv x:=by
    rw[JG,show te x-m+m=te x by omega,←Ia];rfl
   have s2:Ieee.signed (ng y) (mg y) (te y-m)*(2:Int)^m=sv y:=by
    rw[JG,show te y-m+m=te y by omega,←Ia];rfl
   rw[←s1,←s2,R1 _ _ _ (Int.pow_pos dE)]
  ·rw[Cm x c,E7 y d,if_neg oM];simp only[Ieee.Datum.order];have h:=VE c;have e:sv y=sg (ng y) (V 23 2139095040):=by unfold sv;rw[LZ d]
   rw[e,Eg];cases ng y
   ·rw[if_neg dE,if_pos ZI]
   ·rw[if_pos rfl,if_neg ZI,if_neg ZI]
  ·rw[E8 y d,Cm x c,if_pos (Or.inr d)];rfl
 ·rcases Nat.lt_trichotomy (rg y) 2139095040 with d|d|d
  ·rw[E7 x c,Cm y d,if_neg oM];simp only[Ieee.Datum.order];have h:=VE d;have e:sv x=sg (ng x) (V 23 2139095040):=by unfold sv;rw[LZ c]
   rw[e,Eg];cases ng x
   ·rw[if_neg dE,if_neg ZI,if_neg ZI]
   ·rw[if_pos rfl,if_pos ZI]
  ·rw[E7 x c,E7 y d,if_neg oM];simp only[Ieee.Datum.order];have e1:sv x=sg (ng x) (V 23 2139095040):=by unfold sv;rw[LZ c]
   have e2:sv y=sg (ng y) (V 23 2139095040):=by unfold sv;rw[LZ d]
   rw[e1,e2,Eg];cases ng x<;>cases ng y
   ·rw[if_neg oM,if_pos rfl];rfl
   ·rw[if_neg Zfy,if_neg Zfy];rfl
   ·rw[if_pos Zfy];rfl
   ·rw[if_neg oM,if_pos rfl];rfl
  ·rw[E8 y d,E7 x c,if_pos (Or.inr d)];rfl
 ·rw[E8 x c,if_pos (Or.inl c)];cases Ieee.single.read y<;>rfl
theorem Cn(a:Int)(h0:0<=a):(rg a.toNat:Int)=a%2147483648:=by unfold rg;omega
theorem Jh(a:Int)(h0:0<=a):nan a=decide (2139095040<rg a.toNat):=by
 unfold nan;rw[decide_eq_decide];have:=Cn a h0;omega
theorem Jo(a b:Int)(h0:0<=a)(g0:0<=b):Xq a b=if nan a=true\/nan b=true then none else some (compare (sv a.toNat) (sv b.toNat)):=by
 unfold Xq;rw[Ua,Jh a h0,Jh b g0];simp only[decide_eq_true_eq]
theorem Rf(a b:Int)(h0:0<=a)(g0:0<=b):J7 a b=true↔nan a=false/\nan b=false/\sv a.toNat<sv b.toNat:=by
 unfold J7;rw[Jo a b h0 g0];by_cases hn:nan a=true\/nan b=true
 ·rw[if_pos hn];simp;intro k1 k2;simp[k1,k2]at hn
 ·rw[if_neg hn];have hn':nan a=false/\nan b=false:=by simpa using hn
  rcases Int.lt_trichotomy (sv a.toNat) (sv b.toNat)with c|c|c
  ·rw[Og c];simp[hn',c]
  ·rw[Oe c];simp;omega
  ·rw[Of c];simp;omega
theorem Zt{x y:Nat}(h:sv x=sv y):rg x=rg y/\(ng x=ng y\/rg x=0):=by
 have hz:∀z,mv z=0->rg z=0:=by
  intro z hz;unfold mv at hz;rw[←LI 23]at hz;exact SP 23 hz
 have key:mv x=mv y/\(ng x=ng y\/mv x=0):=by
  unfold sv sg at h;cases hx:ng x<;>cases hy:ng y<;>rw[hx,hy]at h<;>simp only[if_true,if_false,Bool.false_eq_true]at h
  ·exact⟨oM,Or.inl rfl⟩
  ·exact⟨oM,Or.inr oM⟩
  ·exact⟨oM,Or.inr oM⟩
  ·exact⟨oM,Or.inl rfl⟩
 refine⟨SP 23 key.1,?_⟩;rcases key.2 with e|e
 ·exact Or.inl e
 ·exact Or.inr (hz x e)
theorem Es(a:Int)(h0:0<=a)(h1:a<4294967296):a=(if ng a.toNat then 2147483648 else 0)+(rg a.toNat:Int):=by
 unfold ng rg;by_cases c:2147483648<=a
 ·have:a.toNat/2147483648%2=1:=oM;simp[this];omega
 ·have:a.toNat/2147483648%2=0:=oM;simp[this];omega
theorem Xw{a b:Int}(h0:0<=a)(h1:a<4294967296)(g0:0<=b)(g1:b<4294967296)(hr:rg a.toNat=rg b.toNat)(hs:ng a.toNat=ng b.toNat):a=b:=by
 rw[Es a h0 h1,Es b g0 g1,hr,hs]
theorem OM(a:Int)(h0:0<=a)(h1:a<4294967296):ng a.toNat=decide (2147483648<=a):=by
 unfold ng;by_cases c:2147483648<=a<;>simp[c]<;>omega
theorem VB(d e:Ieee.Datum):d.sum e=e.sum d:=by
 cases d<;>cases e<;>simp only[Ieee.Datum.sum]
 ·rename_i s m i t n j;rw[Int.min_comm j i,Int.add_comm (Ieee.signed t n _),Bool.and_comm]
 ·rename_i s t;by_cases h:s=t
  ·rw[if_pos h,if_pos h.symm,h]
  ·rw[if_neg h,if_neg (fun k=>h k.symm)]
theorem Kl(a b:Int):Db a b=Db b a:=by unfold Db Ieee.Format.add;rw[VB]
def LS(a:Nat):Nat:=if 2147483648<=a then a-2147483648 else a+2147483648
theorem Qb(a:Nat)(h:a<4294967296):rg (LS a)=rg a:=by unfold rg LS;split<;>omega
theorem Xg(a:Nat)(h:a<4294967296):ng (LS a)= !ng a:=by
 unfold ng LS;split
 ·rename_i c;have e1:a/2147483648%2=1:=oM;have e2:(a-2147483648)/2147483648%2=0:=oM;simp[e1,e2]
 ·rename_i c;have e1:a/2147483648%2=0:=oM;have e2:(a+2147483648)/2147483648%2=1:=oM;rw[e1,e2];rfl
theorem RJ(a:Nat)(h:a<4294967296):Ieee.single.read (LS a)=(Ieee.single.read a).opposite:=by
 rw[Dt,Dt,Qb a h,Xg a h];split
 ·rfl
 ·split
  ·rfl
  ·split<;>rfl
theorem MR(a:Int)(h0:0<=a)(h1:a<4294967296)(hn:nan a=false):J9 a=(LS a.toNat:Nat):=by
 unfold J9 LS;have e:(if 2147483648<=a then a-2147483648 else a+2147483648)=((if 2147483648<=a.toNat then a.toNat-2147483648 else a.toNat+2147483648:Nat):Int):=by
  by_cases c:2147483648<=a
  ·rw[if_pos c,if_pos oM];omega
  ·rw[if_neg c,if_neg oM];omega
 rw[e];apply Hg;have:=Qb a.toNat oM;unfold LS at this;rw[this];rw[Jh a h0]at hn;simpa using hn
theorem MQ(a:Int)(h0:0<=a)(h1:a<4294967296)(hn:nan a=true):J9 a=2143289344:=by
 unfold J9 canon;rw[M5]at hn;have:nan (if 2147483648<=a then a-2147483648 else a+2147483648)=true:=by
  rw[M5];split<;>omega
 rw[if_pos this]
theorem PN(a:Int)(h0:0<=a)(h1:a<4294967296):0<=J9 a/\J9 a<4294967296:=by
 have h:0<=(if 2147483648<=a then a-2147483648 else a+2147483648)/\(if 2147483648<=a then a-2147483648 else a+2147483648)<4294967296:=by split<;>omega
 exact EE _ h.1 h.2

theorem Gm(a:Int)(k:Nat)(hk:k<64)(h0:0<=a)(h1:a<18446744073709551616):bits .and .u64 a ((2^k-1:Nat):Int)=a%((2^k:Nat):Int):=by
 have hp:2^k<2^64:=Nat.pow_lt_pow_right oM hk;have hq:0<2^k:=Nat.two_pow_pos k;obtain⟨n,rfl⟩:=Int.eq_ofNat_of_zero_le h0;rw[u64_and _ _ h0 h1 oM oM,Int.toNat_natCast,Int.toNat_natCast,Nat.and_two_pow_sub_one_eq_mod];rfl
theorem Wf(a:Int)(h0:0<=a)(h1:a<18446744073709551616):bits .and .u64 a 255=a%256:=Gm a 8 dE h0 h1
theorem SV(a:Int)(h0:0<=a)(h1:a<18446744073709551616):bits .and .u64 a 8388607=a%8388608:=Gm a 23 dE h0 h1
def B6(a:Int):Bool:=a/2147483648==1
def nM(a:Int):Int:=if a/8388608%256=255 then 0 else if a/8388608%256=0 then a%8388608 else 8388608+a%8388608
def nE(a:Int):Int:=if a/8388608%256=255 then 0 else if a/8388608%256=0 then -149 else a/8388608%256-150
def Dr(a:Int):Bool:=if a/8388608%256=255 then a%8388608==0 else false
def BD(a:Int):Bool:=if a/8388608%256=255 then a%8388608 != 0 else false
theorem CR(a:Int)(h0:0<=a)(h1:a<4294967296)(w:World):
 Calls prog 136 #[.int .i64 a] w fun e w'=>e=.returned (.agg #[.bool (B6 a),.int .u64 (nM a),.int .i64 (nE a),.bool (Dr a),.bool (BD a)])/\∃o,w'=(w.alloc o).alloc o:=by
 have e1:=Wf (a/8388608) oM oM;have e2:=SV a h0 oM;by_cases c:a/8388608%256=255
 ·have f1:nM a=0:=by unfold nM;rw[if_pos c]
  have f2:nE a=0:=by unfold nE;rw[if_pos c]
  have f3:Dr a=(a%8388608==0):=by unfold Dr;rw[if_pos c]
  have f4:BD a=(a%8388608 != 0):=by unfold BD;rw[if_pos c]
  exact Zdh
 ·by_cases c2:a/8388608%256=0
  ·have f1:nM a=a%8388608:=by unfold nM;rw[if_neg c,if_pos c2]
   have f2:nE a= -149:=by unfold nE;rw[if_neg c,if_pos c2]
   have f3:Dr a=false:=by unfold Dr;rw[if_neg c]
   have f4:BD a=false:=by unfold BD;rw[if_neg c]
   exact Zdh
  ·have f1:nM a=8388608+a%8388608:=by unfold nM;rw[if_neg c,if_neg c2]
   have f2:nE a=a/8388608%256-150:=by unfold nE;rw[if_neg c,if_neg c2]
   have f3:Dr a=false:=by unfold Dr;rw[if_neg c]
   have f4:BD a=false:=by unfold BD;rw[if_neg c]
   exact Zdh
def H2(s:Bool):Int:=if s then 2147483648 else 0
theorem Pd(s:Bool):0<=H2 s/\H2 s<=2147483648:=by unfold H2;split<;>decide
theorem G6(s:Bool)(w:World):
 Calls prog 144 #[.bool s] w fun e w'=>e=.returned (.int .u64 (H2 s))/\w'=w:=by
 cases s
 all_goals(
  go_enter func144,ntmps144;go_wp2;go_ret
  exact⟨rfl,rfl⟩)
theorem De(s:Bool)(w:World):
 Calls prog 142 #[.bool s] w fun e w'=>e=.returned (.int .i64 (H2 s))/\w'=w:=by
 have hl:=Pd s;go_enter func142,ntmps142;go_wp2_with(go_at_call 144;refine(G6 _ _).mono ?_;rintro e w' ⟨rfl,rfl⟩);go_ret;exact⟨rfl,rfl⟩
theorem E9(s:Bool)(w:World):
 Calls prog 141 #[.bool s] w fun e w'=>e=.returned (.int .i64 (H2 s+2139095040))/\w'=w:=by
 have hl:=Pd s;go_enter func141,ntmps141;go_wp2_with(go_at_call 144;refine(G6 _ _).mono ?_;rintro e w' ⟨rfl,rfl⟩);go_ret;exact⟨rfl,rfl⟩
def CU(n:Nat):Nat:=if n=0 then 0 else n.log2+1
theorem QV(n:Nat)(h:n≠0):CU n=CU (n/2)+1:=by
 unfold CU;rw[if_neg h];by_cases c:n/2=0
 ·rw[if_pos c];have:n=1:=oM;subst this;decide
 ·rw[if_neg c,Nat.log2_def n,if_pos oM]
theorem Fa(m:Int)(h0:0<=m)(h1:m<18446744073709551616)(w:World):
 Calls prog 122 #[.int .u64 m] w fun e w'=>e=.returned (.int .i64 (CU m.toNat))/\w'=w:=by
 have hb:CU m.toNat<=64:=by
  unfold CU;split
  ·omega
  ·rename_i c;have:m.toNat.log2<64:=(Nat.log2_lt c).2 oM;omega
 generalize hB:CU m.toNat=B at *;have HB:Hid (CU m.toNat=B):=hB;clear hB;go_enter func122,ntmps122;go_wp2;go_loop [0,3] (fun mv nv=>∃ (x:Int) (k:Nat),0<=x/\x<=m/\mv=.int .u64 x/\nv=.int .i64 k/\k+CU x.toNat=B) (fun mv _=>(intOf mv).toNat)
 case atStart=>exact⟨m,0,h0,Int.le_refl _,rfl,rfl,by rw[HB.out];omega⟩
 case round=>
  obtain⟨x,k,hx0,hx1,rfl,rfl,hk⟩:=hrel;have HK:Hid (k+CU x.toNat=B):=hk;by_cases hz:x=0
  ·have:k=B:=by rw[←hk,hz];rfl
   subst this;clear hk HK HB;subst hz;go_wp2;go_ret;exact⟨rfl,rfl⟩
  ·have hs:=QV x.toNat oM;have HS:Hid (CU x.toNat=CU (x.toNat/2)+1):=hs;have hkB:k<=63:=oM;clear hs hk;go_wp2;go_round
   case rel=>exact⟨x/2,k+1,oM,oM,rfl,gN,by rw[show(x/2).toNat=x.toNat/2 by omega];have:=HK.out;have:=HS.out;omega⟩
   case measure=>simp[intOf];omega
theorem LM(neg:Bool)(n drop:Nat):Ieee.Toward.even.cut neg n drop=n/2^drop+(if 2^drop<2*(n%2^drop)\/(2^drop=2*(n%2^drop)/\n/2^drop%2=1)then 1 else 0):=by
 have key:∀g l r:Nat,l+(decide (g<2*r)||g==2*r&&l%2==1).toNat=l+(if g<2*r\/(g=2*r/\l%2=1)then 1 else 0):=by
  intro g l r;by_cases c1:g<2*r
  ·simp[c1]
  ·by_cases c2:g=2*r
   ·by_cases c3:l%2=1<;>simp[c2,c3]
   ·simp[c1,c2]
 unfold Ieee.Toward.cut;simp only[Nat.one_shiftLeft];rcases Nat.lt_or_ge (n.log2+2) drop with c|c
 ·rw[Nat.min_eq_right oM];have h1:n<2^(n.log2+1):=Nat.lt_log2_self;have h2:2^(n.log2+2)=2*2^(n.log2+1):=by rw[Nat.pow_succ];omega
  have h3:2^(n.log2+2)<=2^drop:=Nat.pow_le_pow_right oM oM;rw[key,Nat.div_eq_of_lt oM,Nat.mod_eq_of_lt oM,Nat.div_eq_of_lt oM,Nat.mod_eq_of_lt (show n<2^drop by omega)];rw[if_neg oM,if_neg oM]
 ·rw[Nat.min_eq_left oM,key]
theorem Wv(m:Int)(h0:0<=m)(d:Nat)(hd:1<=d):((Ieee.Toward.even.cut false m.toNat d:Nat):Int)=if(2:Int)^(d-1)<m%2^d\/(m%2^d=2^(d-1)/\m/2^d%2=1)then m/2^d+1 else m/2^d:=by
 obtain⟨n,rfl⟩:=Int.eq_ofNat_of_zero_le h0;rw[LM,Int.toNat_natCast];have hG:2^d=2*2^(d-1):=by
  obtain⟨e,rfl⟩:∃e,d=e+1:=⟨d-1,oM⟩
  rw[Nat.add_sub_cancel,Nat.pow_succ,Nat.mul_comm]
 have e1:((n:Int)/2^d)=((n/2^d:Nat):Int):=by push_cast;rfl
 have e2:((n:Int)%2^d)=((n%2^d:Nat):Int):=by push_cast;rfl
 have e3:(2:Int)^(d-1)=((2^(d-1):Nat):Int):=by push_cast;rfl
 rw[e1,e2,e3];generalize n/2^d=q;generalize n%2^d=r;rw[hG];generalize 2^(d-1)=H;by_cases c:2*H<2*r\/(2*H=2*r/\q%2=1)
 ·rw[if_pos c,if_pos oM];omega
 ·rw[if_neg c,if_neg oM];omega
theorem Nk(m:Int)(h0:0<=m)(h1:m<18446744073709551616)(d:Nat)(g0:1<=d)(g1:d<64)(w:World):
 Calls prog 143 #[.int .u64 m,.int .i64 d] w fun e w'=>e=.returned (.int .u64 (Ieee.Toward.even.cut false m.toNat d:Nat))/\w'=w:=by
 rw[Wv m h0 d g0];have hG:(2:Int)^d=2*2^(d-1):=by
  obtain⟨e,rfl⟩:∃e,d=e+1:=⟨d-1,oM⟩
  rw[Nat.add_sub_cancel,Int.pow_succ,Int.mul_comm]
 have hle:(2:Int)^d<=9223372036854775808:=by
  have h:2^d<=9223372036854775808:=Nat.le_trans (Nat.pow_le_pow_right dE (show d<=63 by omega)) dE;have h':((2^d:Nat):Int)<=((9223372036854775808:Nat):Int):=Int.ofNat_le.2 h;rw[Int.natCast_pow]at h';exact h'
 have hH:(1:Int)<=2^(d-1):=Int.pow_pos dE;have f1:IntKind.u64.wrap ((2:Int)^d)=2^d:=by rw[IntKind.wrap_u64];omega
 have f4:IntKind.u64.wrap ((2:Int)^(d-1))=2^(d-1):=by rw[IntKind.wrap_u64];omega
 have f3:bits .and .u64 m ((2:Int)^d-1)=m%2^d:=by
  have:=Gm m d g1 h0 h1;have e:((2^d-1:Nat):Int)=(2:Int)^d-1:=by
   rw[Int.ofNat_sub (Nat.two_pow_pos d)];push_cast;rfl
  rw[e]at this;rw[this];push_cast;rfl
 have hr0:0<=m%2^d:=Int.emod_nonneg _ oM;have hr1:m%2^d<2^d:=Int.emod_lt_of_pos _ oM;have hq0:0<=m/2^d:=Int.ediv_nonneg h0 oM;have hq1:m/2^d<=9223372036854775807:=by
  have h2:m/2^d<=m/2:=by
   have:(2:Int)∣2^d:=⟨2^(d-1),hG⟩
   rw[hG,←Int.ediv_ediv_of_nonneg dE];exact Int.ediv_le_self _ oM
  omega
 have f5:IntKind.u64.wrap ((2:Int)^d-1)=2^d-1:=by rw[IntKind.wrap_u64];omega
 generalize hr:m%2^d=r at *;generalize hq:m/2^d=q at *;generalize hHH:(2:Int)^(d-1)=H at *;generalize hGG:(2:Int)^d=G at *;have hG1:1<=G:=oM;clear hr hG;by_cases c1:H<r
 ·rw[if_pos (Or.inl c1)];exact Yh
 ·by_cases c2:r=H
  ·by_cases c3:q%2=1
   ·rw[if_pos (Or.inr ⟨c2,c3⟩)];exact Yh
   ·rw[if_neg oM];exact Yh
  ·rw[if_neg oM];exact Yh
theorem Ig(m:Int)(h0:0<=m)(h1:m<18446744073709551616)(d:Int)(g0:1<=d)(g1:d<100000)(w:World):
 Calls prog 143 #[.int .u64 m,.int .i64 d] w fun e w'=>e=.returned (.int .u64 (Ieee.Toward.even.cut false m.toNat d.toNat:Nat))/\w'=w:=by
 rcases Int.lt_trichotomy d 64 with c|c|c
 ·have:=Nk m h0 h1 d.toNat oM oM w;rwa[Int.toNat_of_nonneg oM]at this
 ·subst c;have hv:((Ieee.Toward.even.cut false m.toNat (64:Int).toNat:Nat):Int)=if 9223372036854775808<m then 1 else 0:=by
   rw[LM,show(64:Int).toNat=64 from rfl,show(2:Nat)^64=18446744073709551616 from rfl,Nat.div_eq_of_lt oM,Nat.mod_eq_of_lt oM];by_cases c:9223372036854775808<m
   ·rw[if_pos c,if_pos oM];rfl
   ·rw[if_neg c,if_neg oM];rfl
  rw[hv];clear hv;by_cases c:9223372036854775808<m
  ·rw[if_pos c];exact Yh
  ·rw[if_neg c];by_cases c2:m=9223372036854775808
   ·subst c2;exact Yh
   ·exact Yh
 ·have hv:((Ieee.Toward.even.cut false m.toNat d.toNat:Nat):Int)=0:=by
   have hp:2^65<=2^d.toNat:=Nat.pow_le_pow_right dE oM;have h65:(2:Nat)^65=36893488147419103232:=rfl;rw[LM,Nat.div_eq_of_lt oM,Nat.mod_eq_of_lt oM,if_neg oM];rfl
  rw[hv];clear hv;exact Yh
theorem NR(s:Bool)(r:Nat):((wd s r:Nat):Int)=H2 s+min (r:Int) 2139095040:=by
 unfold wd H2;cases s
 ·simp only[if_false,Bool.false_eq_true];omega
 ·simp only[if_true];omega
theorem K6(s:Bool)(m:Nat)(e:Int)(h0:m≠0):∃ (U:Int) (k:Nat),U=max (e+(CU m:Int)-24) (-149)/\
 ((Ieee.single.nearest s m e:Nat):Int)=H2 s+min ((U+149)*8388608+k) 2139095040/\k<=16777216/\(U= -149\/8388608<=k)/\
 k=Ieee.Toward.even.cut false (m*2^(e-U).toNat) (U-e).toNat/\(U<=e->(k:Int)=(m:Int)*2^(e-U).toNat):=by
 have hb:(CU m:Int)-24=m.log2-23:=by unfold CU;rw[if_neg h0];omega
 have hn:=Bq Ieee.single s m e;rw[Ha,CH,BA]at hn;refine⟨max (e+(CU m:Int)-24) (-149),Ieee.Toward.even.cut false (m*2^(e-max (e+(CU m:Int)-24) (-149)).toNat) (max (e+(CU m:Int)-24) (-149)-e).toNat,rfl,?_⟩;have hU:max (e+(CU m:Int)-24) (-149)=max (e+m.log2-((23:Nat):Int)) (-149):=oM;rw[hU];generalize hUU:max (e+m.log2-((23:Nat):Int)) (-149)=U at *;have hr:Cf 23 (-149) m e=(U-(-149)).toNat*2^23+Ieee.Toward.even.cut false (m*2^(e-U).toNat) (U-e).toNat:=by
  unfold Cf;rw[if_neg h0,Nat.shiftLeft_eq,hUU]
 have hcut:=ME false (m*2^(e-U).toNat) (U-e).toNat;generalize hk:Ieee.Toward.even.cut false (m*2^(e-U).toNat) (U-e).toNat=k at *;have hlo:2^m.log2<=m:=Nat.log2_self_le h0;have hhi:m<2^(m.log2+1):=Nat.lt_log2_self;have hcs:=hcut.scale 0 0 (U-e).toNat rfl;rw[Nat.pow_zero,Nat.mul_one]at hcs;have lo:U= -149\/2^23*2^(U-e).toNat<=m*2^(e-U).toNat:=by
  rcases(show U= -149\/U=e+m.log2-23 by omega)with c|c
  ·exact Or.inl c
  ·right
   calc 2^23*2^(U-e).toNat=2^m.log2*2^(e-U).toNat:=by rw[←Nat.pow_add,←Nat.pow_add];congr 1;omega
    _<=m*2^(e-U).toNat:=Nat.mul_le_mul_right _ hlo
 have hi:m*2^(e-U).toNat<2*2^23*2^(U-e).toNat:=by
  calc m*2^(e-U).toNat<2^(m.log2+1)*2^(e-U).toNat:=Nat.mul_lt_mul_of_pos_right hhi (Nat.two_pow_pos _)
   _=2^(m.log2+1+(e-U).toNat):=(Nat.pow_add ..).symm
   _<=2^(24+(U-e).toNat):=Nat.pow_le_pow_right dE oM
   _=2*2^23*2^(U-e).toNat:=by rw[Nat.pow_add]
 have up:=hcut.up;have dn:=hcut.dn;simp only[Nat.mul_one]at up dn;have hT:0<2^(U-e).toNat:=Nat.two_pow_pos _;have hkle:k<=16777216:=by
  rcases Nat.lt_or_ge 16777216 k with c|c
  ·exfalso;have:(2*16777217)*2^(U-e).toNat<=2*k*2^(U-e).toNat:=Nat.mul_le_mul_right _ oM;generalize 2^(U-e).toNat=T at *;generalize m*2^(e-U).toNat=X at *;omega
  ·exact c
 have hkge:U= -149\/8388608<=k:=by
  rcases lo with c|c
  ·exact Or.inl c
  ·right;rcases Nat.lt_or_ge k 8388608 with d|d
   ·exfalso;have:(2*k+1)*2^(U-e).toNat<=16777215*2^(U-e).toNat:=Nat.mul_le_mul_right _ oM;generalize 2^(U-e).toNat=T at *;generalize m*2^(e-U).toNat=X at *;omega
   ·exact d
 refine⟨?_,hkle,hkge,rfl,?_⟩
 ·rw[hn,hr,NR];rw[Int.natCast_add,Int.natCast_mul,Int.toNat_of_nonneg oM];omega
 ·intro l;rw[show(U-e).toNat=0 by omega]at hcut;have up:=hcut.up;have dn:=hcut.dn;have ue:=hcut.ue;have de:=hcut.de;have:k=m*2^(e-U).toNat:=by
   generalize m*2^(e-U).toNat=X at *;simp only[Nat.pow_zero,Nat.mul_one]at ue de up dn;omega
  rw[this];push_cast;rfl
theorem BC(s:Bool)(m:Int)(h0:0<=m)(h1:m<18446744073709551616)(e:Int)(e0: -10000<=e)(e1:e<=10000)(w:World):
 Calls prog 124 #[.bool s,.int .u64 m,.int .i64 e] w fun x w'=>x=.returned (.int .i64 (Ieee.single.nearest s m.toNat e:Nat))/\w'=w:=by
 have hs:=Pd s;by_cases hz:m=0
 ·subst hz;have hv:((Ieee.single.nearest s (0:Int).toNat e:Nat):Int)=H2 s:=by
   show((Ieee.single.nearest s 0 e:Nat):Int)=H2 s;exact Zfd
  rw[hv];clear hv;go_enter func124,ntmps124;go_wp2_with(go_at_call 142;refine(De _ _).mono ?_;rintro e w' ⟨rfl,rfl⟩);go_ret;exact⟨rfl,rfl⟩
 ·obtain⟨U,k,hU,hv,hk1,hk2,hk3,hk4⟩:=K6 s m.toNat e oM;rw[hv];clear hv;have hB:1<=CU m.toNat/\CU m.toNat<=64:=by
   unfold CU;rw[if_neg oM];have:m.toNat.log2<64:=(Nat.log2_lt oM).2 oM;omega
  generalize hBB:CU m.toNat=B at *;have fh:e<U->((Ieee.Toward.even.cut false m.toNat (U-e).toNat:Nat):Int)=k:=by
   intro l;rw[hk3,show(e-U).toNat=0 by omega,Nat.pow_zero,Nat.mul_one]
  have fq:U<=e->IntKind.u64.wrap (m*2^(-(U-e)).toNat)=k:=by
   intro l;have:=hk4 l;rw[show(-(U-e)).toNat=(e-U).toNat by omega,show m=(m.toNat:Int) by omega,←this,IntKind.wrap_u64];omega
  clear hk3 hk4;have hUr: -149<=U/\U<=20000:=oM;have hK0:0<=(k:Int)/\(k:Int)<=16777216/\(U= -149\/8388608<=(k:Int)):=oM;clear hk1 hk2;generalize hKK:(k:Int)=K at *;clear hKK;generalize hT:min ((U+149)*8388608+K) 2139095040=T;have cases:(K=16777216/\U<104/\T=(U+151)*8388608)\/(K=16777216/\104<=U/\T=2139095040)\/(U= -149/\K<8388608/\T=K)\/
   (8388608<=K/\K<16777216/\U<105/\T=(U+149)*8388608+K)\/(8388608<=K/\K<16777216/\105<=U/\T=2139095040):=oM
  clear hT;by_cases hu: -149>e+(B:Int)-24
  ·have hU':U= -149:=oM;clear hU;subst hU';clear hUr;by_cases hsh: -149<=e
   ·have fq':=fq hsh;exact Zbw
   ·have fh':=fh oM;exact Zbw
  ·have hu2:e+(B:Int)-24=U:=oM;clear hU;by_cases hsh:U<=e
   ·have fq':=fq hsh;exact Zbv
   ·have fh':=fh oM;exact Zbv
def DM:Wk->List Ae->Wk
 |s,[]=>s
 |s,i::r=>DM (Af s i) r
def AN(c:Cd):Wk->List Ae->Bool
 |_,[]=>true
 |s,i::r=>Ar c s i&&AN c (Af s i) r
theorem FM:∀ (l m:List Ae) (s:Wk),DM s (l++m)=DM (DM s l) m
 |[],m,s=>rfl
 |i::l,m,s=>by simp only[List.cons_append,DM];exact FM l m _
theorem Dk(c:Cd):∀ (l m:List Ae) (s:Wk),AN c s (l++m)=(AN c s l&&AN c (DM s l) m)
 |[],m,s=>by simp[AN,DM]
 |i::l,m,s=>by simp only[List.cons_append,AN,DM,Dk c l m,Bool.and_assoc]
theorem TB{c:Cd}:∀ {l:List Ae} {s:Wk} {k:Nat},(JW c s k l).1=0↔AN c s l=true/\(DM s l).opens.isEmpty=true
 |[],s,k=>by
  simp only[JW,AN,DM,true_and];by_cases h:s.opens.isEmpty=true
  ·simp[h]
  ·simp[h]
 |i::l,s,k=>by
  simp only[JW,AN,DM,Bool.and_eq_true];by_cases h:Ar c s i=true
  ·rw[if_pos h,TB (k:=k+1)];simp[h]
  ·rw[if_neg h];simp[h]
theorem Ik(c:Cd)(x:List Ae):∀ (l:List Ae) (s:Wk),AN ⟨c.sign,c.regs,c.slots,x⟩ s l=AN c s l
 |[],s=>rfl
 |i::l,s=>by simp only[AN,Ik c x l];rfl
theorem Ms{c:Cd}{x:List Ae}(h:Ch c=0)(hl:x.length<=c.list.length):Ch ⟨c.sign,c.regs,c.slots,x⟩=0:=by
 unfold Ch at h ⊢;have h1:AW c.sign=0:=by
  by_cases e:AW c.sign=0
  ·exact e
  ·rw[if_pos e]at h;exact absurd h e
 have hm:Ap ⟨c.sign,c.regs,c.slots,x⟩=Ap c:=rfl;have hs:Br ⟨c.sign,c.regs,c.slots,x⟩=Br c:=rfl;rw[if_neg (by simp[h1])]at h ⊢;by_cases e1:16384<c.regs.length\/32768<c.list.length
 ·rw[if_pos e1]at h;exact absurd h dE
 ·rw[if_neg e1]at h;rw[if_neg (by show¬ (16384<c.regs.length\/32768<x.length);omega)];by_cases e2:4096<c.slots.length
  ·rw[if_pos e2]at h;exact absurd h dE
  ·rw[if_neg e2]at h;rw[if_neg (by exact e2),hm,hs];exact h
theorem FU{c:Cd}:(Ao c).1=0↔Ch c=0/\AN c ⟨[],[]⟩ c.list=true/\(DM ⟨[],[]⟩ c.list).opens.isEmpty=true:=by
 unfold Ao;by_cases h:Ch c=0
 ·rw[if_neg (by simp[h]),TB];simp[h]
 ·rw[if_pos h];simp[h]
def Iu(S:List Nat)(i:Ae):List Nat:=if(A4 i.op).d≠0/\i.d.toNat∉S then S++[i.d.toNat]else S
theorem OO:∀ {r:List Bk} {n:Nat},Zb n r->∀b∈r,b.ahead<=n
 |[],_,_,b,hb=>absurd hb sM
 |a::r,n,h,b,hb=>by
  rcases List.mem_cons.1 hb with rfl|hb
  ·exact h.1
  ·exact Nat.le_trans (OO h.2 b hb) h.1
theorem Kc{s:Wk}{i:Ae}(h:(A4 i.op).d=0):CM s i (A4 i.op)=s:=by unfold CM;rw[if_neg (fun e=>e.1 h)]
theorem PR{S:List Nat}{i:Ae}{x:Nat}:x∈Iu S i↔x∈S\/((A4 i.op).d≠0/\x=i.d.toNat):=by
 unfold Iu;by_cases h:(A4 i.op).d≠0/\i.d.toNat∉S
 ·rw[if_pos h,List.mem_append];simp only[List.mem_singleton];exact⟨fun q=>q.imp id fun e=>⟨h.1,e⟩,fun q=>q.imp id fun e=>e.2⟩
 ·rw[if_neg h];constructor
  ·exact .inl
  ·rintro(q|⟨q1,q2⟩)
   ·exact q
   ·rw[q2];exact Decidable.byContradiction fun e=>h ⟨q1,e⟩
def dn(o:Option Nat):Nat:=match o with
 |some _=>0
 |none=>1
section
variable {P : Program} (w : World)
end
section
variable (w : World) (n : Nat)
@[go_sem] theorem alloc_drewN (o:Obj):(w.drewN n).alloc o=(w.alloc o).drewN n:=rfl
@[go_sem] theorem setCell_drewN (a:Addr) (v:Value):(w.drewN n).setCell a v=(w.setCell a v).drewN n:=rfl
end
end Go.Proofs.YtcdpmgldkibfiaaGreat
