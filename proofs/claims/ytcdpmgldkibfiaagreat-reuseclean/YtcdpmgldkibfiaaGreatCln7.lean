import Derived.Test.YtcdpmgldkibfiaaGreatCln2
import Derived.Test.YtcdpmgldkibfiaaGreatRows
import Derived.WalkKit
import Derived.WalkSpells
import Derived.WalkLawsBesides
import Derived.Test.YtcdpmgldkibfiaaGreatCln4
import Derived.Laws.FloatArith
import Derived.Laws.Externs
import Derived.Below
import Derived.Handy
import Derived.Deep.Draws
import Derived.Laws.ComplexArith
import Derived.Test.YtcdpmgldkibfiaaGreatCln1
namespace Go.Proofs.YtcdpmgldkibfiaaGreat
open Go.RowKit Go.Proofs.Tryz
set_option linter.all false
set_option maxRecDepth 100000
set_option maxHeartbeats 16000000
theorem VA(w:World):Calls prog 77 #[.int .i64 22] w fun e w'=>e=.returned (.tuple #[DJ (A4 22),.bool true])/\Below w.heap.size w w':=by
 exact FD
theorem VB(w:World):Calls prog 77 #[.int .i64 23] w fun e w'=>e=.returned (.tuple #[DJ (A4 23),.bool true])/\Below w.heap.size w w':=by
 exact FD
theorem VC(w:World):Calls prog 77 #[.int .i64 24] w fun e w'=>e=.returned (.tuple #[DJ (A4 24),.bool true])/\Below w.heap.size w w':=by
 exact FD
theorem VD(w:World):Calls prog 77 #[.int .i64 25] w fun e w'=>e=.returned (.tuple #[DJ (A4 25),.bool true])/\Below w.heap.size w w':=by
 exact FD
theorem VE(w:World):Calls prog 77 #[.int .i64 26] w fun e w'=>e=.returned (.tuple #[DJ (A4 26),.bool true])/\Below w.heap.size w w':=by
 exact FD
theorem VF(w:World):Calls prog 77 #[.int .i64 27] w fun e w'=>e=.returned (.tuple #[DJ (A4 27),.bool true])/\Below w.heap.size w w':=by
 exact FD
theorem VG(w:World):Calls prog 77 #[.int .i64 28] w fun e w'=>e=.returned (.tuple #[DJ (A4 28),.bool true])/\Below w.heap.size w w':=by
 exact FD
theorem VH(w:World):Calls prog 77 #[.int .i64 29] w fun e w'=>e=.returned (.tuple #[DJ (A4 29),.bool true])/\Below w.heap.size w w':=by
 exact FD
theorem VI(w:World):Calls prog 77 #[.int .i64 30] w fun e w'=>e=.returned (.tuple #[DJ (A4 30),.bool true])/\Below w.heap.size w w':=by
 exact FD
theorem VJ(w:World):Calls prog 77 #[.int .i64 31] w fun e w'=>e=.returned (.tuple #[DJ (A4 31),.bool true])/\Below w.heap.size w w':=by
 exact FD
theorem VK(w:World):Calls prog 77 #[.int .i64 32] w fun e w'=>e=.returned (.tuple #[DJ (A4 32),.bool true])/\Below w.heap.size w w':=by
 exact FD
theorem VM(w:World):Calls prog 77 #[.int .i64 33] w fun e w'=>e=.returned (.tuple #[DJ (A4 33),.bool true])/\Below w.heap.size w w':=by
 exact FD
theorem VN(w:World):Calls prog 77 #[.int .i64 34] w fun e w'=>e=.returned (.tuple #[DJ (A4 34),.bool true])/\Below w.heap.size w w':=by
 exact FD
theorem VO(w:World):Calls prog 77 #[.int .i64 35] w fun e w'=>e=.returned (.tuple #[DJ (A4 35),.bool true])/\Below w.heap.size w w':=by
 exact FD
theorem VP(w:World):Calls prog 77 #[.int .i64 36] w fun e w'=>e=.returned (.tuple #[DJ (A4 36),.bool true])/\Below w.heap.size w w':=by
 exact FD
theorem VQ(w:World):Calls prog 77 #[.int .i64 37] w fun e w'=>e=.returned (.tuple #[DJ (A4 37),.bool true])/\Below w.heap.size w w':=by
 exact FD
theorem Vq(w:World):Calls prog 77 #[.int .i64 13] w fun e w'=>e=.returned (.tuple #[DJ (A4 13),.bool true])/\Below w.heap.size w w':=by
 exact FD
theorem Vr(w:World):Calls prog 77 #[.int .i64 14] w fun e w'=>e=.returned (.tuple #[DJ (A4 14),.bool true])/\Below w.heap.size w w':=by
 exact FD
theorem Vt(w:World):Calls prog 77 #[.int .i64 15] w fun e w'=>e=.returned (.tuple #[DJ (A4 15),.bool true])/\Below w.heap.size w w':=by
 exact FD
theorem Vu(w:World):Calls prog 77 #[.int .i64 16] w fun e w'=>e=.returned (.tuple #[DJ (A4 16),.bool true])/\Below w.heap.size w w':=by
 exact FD
theorem Vv(w:World):Calls prog 77 #[.int .i64 17] w fun e w'=>e=.returned (.tuple #[DJ (A4 17),.bool true])/\Below w.heap.size w w':=by
 exact FD
theorem Vw(w:World):Calls prog 77 #[.int .i64 18] w fun e w'=>e=.returned (.tuple #[DJ (A4 18),.bool true])/\Below w.heap.size w w':=by
 exact FD
theorem Vx(w:World):Calls prog 77 #[.int .i64 19] w fun e w'=>e=.returned (.tuple #[DJ (A4 19),.bool true])/\Below w.heap.size w w':=by
 exact FD
theorem Vy(w:World):Calls prog 77 #[.int .i64 20] w fun e w'=>e=.returned (.tuple #[DJ (A4 20),.bool true])/\Below w.heap.size w w':=by
 exact FD
theorem Vz(w:World):Calls prog 77 #[.int .i64 21] w fun e w'=>e=.returned (.tuple #[DJ (A4 21),.bool true])/\Below w.heap.size w w':=by
 exact FD
theorem Rh(w:World):Calls prog 63 #[.int .i64 22] w fun e w'=>e=.returned (.tuple #[.string ⟨#[119,119,119,45,45]⟩,.bool true])/\w'=w:=by
 exact FE
theorem Ri(w:World):Calls prog 63 #[.int .i64 23] w fun e w'=>e=.returned (.tuple #[.string ⟨#[119,119,119,45,45]⟩,.bool true])/\w'=w:=by
 exact FE
theorem Rj(w:World):Calls prog 63 #[.int .i64 24] w fun e w'=>e=.returned (.tuple #[.string ⟨#[119,119,119,45,45]⟩,.bool true])/\w'=w:=by
 exact FE
theorem Rl(w:World):Calls prog 63 #[.int .i64 25] w fun e w'=>e=.returned (.tuple #[.string ⟨#[119,119,45,45,45]⟩,.bool true])/\w'=w:=by
 exact FE
theorem Rm(w:World):Calls prog 63 #[.int .i64 26] w fun e w'=>e=.returned (.tuple #[.string ⟨#[119,119,119,119,45]⟩,.bool true])/\w'=w:=by
 exact FE
theorem Rn(w:World):Calls prog 63 #[.int .i64 27] w fun e w'=>e=.returned (.tuple #[.string ⟨#[119,119,119,45,45]⟩,.bool true])/\w'=w:=by
 exact FE
theorem Ro(w:World):Calls prog 63 #[.int .i64 28] w fun e w'=>e=.returned (.tuple #[.string ⟨#[119,119,119,45,45]⟩,.bool true])/\w'=w:=by
 exact FE
theorem Rp(w:World):Calls prog 63 #[.int .i64 29] w fun e w'=>e=.returned (.tuple #[.string ⟨#[118,45,45,45,112]⟩,.bool true])/\w'=w:=by
 exact FE
theorem VT(w:World):Calls prog 63 #[.int .i64 1] w fun e w'=>e=.returned (.tuple #[.string ⟨#[110,45,45,45,45]⟩,.bool true])/\w'=w:=by
 exact FE
theorem VU(w:World):Calls prog 63 #[.int .i64 2] w fun e w'=>e=.returned (.tuple #[.string ⟨#[119,45,45,45,105]⟩,.bool true])/\w'=w:=by
 exact FE
theorem VV(w:World):Calls prog 63 #[.int .i64 3] w fun e w'=>e=.returned (.tuple #[.string ⟨#[97,99,45,45,45]⟩,.bool true])/\w'=w:=by
 exact FE
theorem VW(w:World):Calls prog 63 #[.int .i64 4] w fun e w'=>e=.returned (.tuple #[.string ⟨#[100,120,120,45,45]⟩,.bool true])/\w'=w:=by
 exact FE
theorem VX(w:World):Calls prog 63 #[.int .i64 5] w fun e w'=>e=.returned (.tuple #[.string ⟨#[100,120,120,45,45]⟩,.bool true])/\w'=w:=by
 exact FE
theorem VY(w:World):Calls prog 63 #[.int .i64 6] w fun e w'=>e=.returned (.tuple #[.string ⟨#[100,120,120,45,45]⟩,.bool true])/\w'=w:=by
 exact FE
theorem VZ(w:World):Calls prog 63 #[.int .i64 7] w fun e w'=>e=.returned (.tuple #[.string ⟨#[100,120,120,45,45]⟩,.bool true])/\w'=w:=by
 exact FE
theorem W5(w:World):Calls prog 63 #[.int .i64 8] w fun e w'=>e=.returned (.tuple #[.string ⟨#[100,120,120,45,45]⟩,.bool true])/\w'=w:=by
 exact FE
theorem W6(w:World):Calls prog 63 #[.int .i64 9] w fun e w'=>e=.returned (.tuple #[.string ⟨#[100,120,120,45,45]⟩,.bool true])/\w'=w:=by
 exact FE
theorem R4(w:World):Calls prog 63 #[.int .i64 10] w fun e w'=>e=.returned (.tuple #[.string ⟨#[100,120,120,45,45]⟩,.bool true])/\w'=w:=by
 exact FE
theorem R5(w:World):Calls prog 63 #[.int .i64 11] w fun e w'=>e=.returned (.tuple #[.string ⟨#[100,120,45,45,45]⟩,.bool true])/\w'=w:=by
 exact FE
theorem R6(w:World):Calls prog 63 #[.int .i64 12] w fun e w'=>e=.returned (.tuple #[.string ⟨#[100,120,45,45,45]⟩,.bool true])/\w'=w:=by
 exact FE
theorem Hj{k:IntKind}{a b:Int}(h:a=b):Ending.returned (.int k a)=.returned (.int k b):=by rw[h]
theorem YF(a:Int)(h0:0<=a)(h1:a<4294967296)(w:World):
 Calls prog 119 #[.int .i64 a] w fun e w'=>e=.returned (.bool (nan a))/\w'=w:=by
 go_enter func119,ntmps119;go_wp2;go_ret;exact⟨rfl,rfl⟩
theorem Fh(a:Int)(h0:0<=a)(h1:a<4294967296)(w:World):
 Calls prog 90 #[.int .i64 a] w fun e w'=>e=.returned (.int .i64 (canon a))/\w'=w:=by
 cases hn:nan a
 ·have hc:canon a=a:=by unfold canon;simp[hn]
  exact Zei
 ·have hc:canon a=2143289344:=by unfold canon;simp[hn]
  exact Zei
def IX:Option Nat->Int
 |some r=>r
 |none=>2143289344
def Dm(a b:Int):Int:=IX (Ieee.single.add a.toNat b.toNat)
def ND(a b:Int):Int:=IX (Ieee.single.sub a.toNat b.toNat)
def ET(a b:Int):Int:=IX (Ieee.single.mul a.toNat b.toNat)
def Gr(a b:Int):Int:=IX (Ieee.single.div a.toNat b.toNat)
def DA(a:Int):Int:=IX (Ieee.single.sqrt a.toNat)
def Dg(n:Int):Int:=(Ieee.single.nearest (decide (n<0)) n.natAbs 0:Nat)
def JA(a:Int):Int:=canon (if 2147483648<=a then a-2147483648 else a+2147483648)
def XK(a:Int):Int:=canon (a%2147483648)
def Yp(a b:Int):Option Ordering:=Ieee.single.order a.toNat b.toNat
def IV(a b:Int):Int:=match Yp a b with
 |none=>2143289344
 |some .lt=>a
 |some .gt=>b
 |some .eq=>if 2147483648<=a then a else b
def Jz(a b:Int):Int:=match Yp a b with
 |none=>2143289344
 |some .lt=>b
 |some .gt=>a
 |some .eq=>if 2147483648<=a then b else a
def Jy(a b:Int):Bool:=Yp a b==some .lt
def feq(a b:Int):Bool:=Yp a b==some .eq
def ffin(a:Int):Bool:=decide (a%2147483648<2139095040)
def Mt(c a b:Int):Int:=if nan c||c%2147483648==0 then canon b else canon a
theorem Zo(s:Bool)(r:Nat):rg (wd s r)=min r 2139095040:=by
 unfold rg wd;split<;>omega
theorem TJ(d:Ieee.Datum)(h:d.isNaN=false):rg (Ieee.single.write d)<=2139095040:=by
 cases d with
 |number s m e=>show rg (Ieee.single.nearest s m e)<=_;rw[Bt,Hy,Zo];omega
 |infinity s=>show rg (wd s 2139095040)<=_;rw[Zo];omega
 |nan s t=>simp[Ieee.Datum.isNaN]at h
theorem RG{d e f:Ieee.Datum}(h:d.sum e=some f):f.isNaN=false:=by
 cases d<;>cases e<;>simp[Ieee.Datum.sum]at h<;>first|(subst h;rfl)|(obtain⟨_,rfl⟩:=h;rfl)
theorem Vc{d e f:Ieee.Datum}(h:d.product e=some f):f.isNaN=false:=by
 cases d<;>cases e<;>simp[Ieee.Datum.product]at h<;>first|(subst h;rfl)|(obtain⟨_,rfl⟩:=h;rfl)
theorem Vd{k:Nat}{d e f:Ieee.Datum}(h:d.quotient k e=some f):f.isNaN=false:=by
 cases d<;>cases e<;>simp[Ieee.Datum.quotient]at h
 ·split at h
  ·split at h
   ·cases h
   ·cases h;rfl
  ·cases h;rfl
 ·subst h;rfl
 ·subst h;rfl
theorem Vm{k:Nat}{d f:Ieee.Datum}(h:d.root k=some f):f.isNaN=false:=by
 cases d<;>simp[Ieee.Datum.root]at h
 ·split at h
  ·cases h;rfl
  ·split at h
   ·cases h
   ·simp only[Option.some.injEq]at h;subst h;rfl
 ·obtain⟨-,rfl⟩:=h;rfl
theorem H5{o:Option Ieee.Datum}{r:Nat}(h:o.map Ieee.single.write=some r)(k:∀f,o=some f->f.isNaN=false):rg r<=2139095040/\r<4294967296:=by
 have lt:=Ieee.single.map_write_lt h;cases o with
 |none=>simp at h
 |some d=>simp only[Option.map_some,Option.some.injEq]at h;subst h;exact⟨TJ d (k d rfl),lt⟩
theorem Qw{x y r:Nat}(h:Ieee.single.add x y=some r):rg r<=2139095040/\r<4294967296:=H5 h fun _ q=>RG q
theorem RF{x y r:Nat}(h:Ieee.single.sub x y=some r):rg r<=2139095040/\r<4294967296:=H5 h fun _ q=>RG q
theorem QT{x y r:Nat}(h:Ieee.single.mul x y=some r):rg r<=2139095040/\r<4294967296:=H5 h fun _ q=>Vc q
theorem QG{x y r:Nat}(h:Ieee.single.div x y=some r):rg r<=2139095040/\r<4294967296:=H5 h fun _ q=>Vd q
theorem Ox{x r:Nat}(h:Ieee.single.sqrt x=some r):rg r<=2139095040/\r<4294967296:=H5 h fun _ q=>Vm q
theorem Yb(r:Nat):nan (r:Int)=decide (2139095040<rg r):=by unfold nan rg;rw[decide_eq_decide];omega
theorem I5{r:Nat}(h:rg r<=2139095040):canon (r:Int)=r:=by
 unfold canon;rw[Yb];simp;omega
section
variable {P : Program} (w : World)
end
theorem JO(o:Option Nat)(h:∀r,o=some r->r<4294967296):0<=IX o/\IX o<4294967296:=by
 cases o with
 |none=>decide
 |some r=>have:=h r rfl;show 0<=(r:Int)/\(r:Int)<_;omega
theorem Mo(a b:Int):0<=Dm a b/\Dm a b<4294967296:=JO _ fun _ h=>(Qw h).2
theorem XP(a b:Int):0<=ND a b/\ND a b<4294967296:=JO _ fun _ h=>(RF h).2
theorem Dv(a b:Int):0<=ET a b/\ET a b<4294967296:=JO _ fun _ h=>(QT h).2
theorem XL(a b:Int):0<=Gr a b/\Gr a b<4294967296:=JO _ fun _ h=>(QG h).2
theorem UF(a:Int):0<=DA a/\DA a<4294967296:=JO _ fun _ h=>(Ox h).2
theorem IE(n:Nat)(h:n<2^31):n^^^2^31=2^31+n:=by
 apply Nat.eq_of_testBit_eq;intro i;rw[Nat.testBit_xor,Nat.testBit_two_pow];rcases Nat.lt_trichotomy i 31 with c|c|c
 ·rw[Nat.testBit_two_pow_add_gt c,decide_eq_false (show¬ (31=i) by omega),Bool.xor_false]
 ·subst c;rw[Nat.testBit_two_pow_add_eq];simp
 ·have e1:n.testBit i=false:=Nat.testBit_lt_two_pow (Nat.lt_of_lt_of_le h (Nat.pow_le_pow_right dE oM));have e2:(2^31+n).testBit i=false:=Nat.testBit_lt_two_pow (Nat.lt_of_lt_of_le (show 2^31+n<2^32 by omega) (Nat.pow_le_pow_right dE oM));rw[e1,e2,decide_eq_false (show¬ (31=i) by omega),Bool.xor_false]
theorem WR(a:Int)(h0:0<=a)(h1:a<4294967296):bits .xor .u32 a 2147483648=if 2147483648<=a then a-2147483648 else a+2147483648:=by
 rw[u32_xor a _ h0 h1 dE dE,show(2147483648:Int).toNat=2^31 from rfl];by_cases c:2147483648<=a
 ·rw[if_pos c];have e:=IE (a.toNat-2^31) oM;rw[show 2^31+(a.toNat-2^31)=a.toNat by omega]at e;rw[←e,Nat.xor_assoc,Nat.xor_self,Nat.xor_zero];omega
 ·rw[if_neg c,IE _ oM];omega
theorem Ux(n:Int):0<=Dg n/\Dg n<4294967296:=⟨Int.natCast_nonneg _,by have:=Ieee.single.write_lt (.number (decide (n<0)) n.natAbs 0);exact Int.ofNat_lt.2 this⟩
section
variable {P : Program} (w : World)
end
theorem Od(a:Nat)(ha:rg a<2139095040)(hs:ng a=false)(h0:mg a≠0):
 ∃r,Ieee.single.sqrt a=some (wd false r)/\Iw 23 (mv a*2^149) r:=by
 unfold Ieee.Format.sqrt;rw[Cr a ha,hs];simp only[Ieee.Datum.root,if_neg h0,Bool.false_eq_true,if_false,Option.map_some,Ieee.Format.write];rw[Bt,CP,BG];have hl:(mg a).log2<=23:=by
  have:(mg a).log2<24:=(Nat.log2_lt h0).2 (UQ a);omega
 generalize hi:(-149+(te a:Int))=i;generalize hm1:2*(23+2)-(mg a).log2=more1;generalize hmore:more1+((i-(more1:Int))%2).toNat=more;have hpar:(i-(more:Int))%2=0:=oM;have hmo:27<=more/\more<=51:=oM;generalize hn:mg a<<<more=n at *;have hlo:2^(mg a).log2<=mg a:=Nat.log2_self_le h0;have hn50:2^50<=n:=by
  rw[←hn,Nat.shiftLeft_eq]
  calc 2^50<=2^((mg a).log2+more):=Nat.pow_le_pow_right dE oM
   _=2^(mg a).log2*2^more:=Nat.pow_add ..
   _<=mg a*2^more:=Nat.mul_le_mul_right _ hlo
 have hrt:=Ij n (n.log2/2+1) 0 oM (by
  have:n<2^(n.log2+1):=Nat.lt_log2_self;rw[Nat.zero_add,←Nat.pow_add]
  exact Nat.lt_of_lt_of_le this (Nat.pow_le_pow_right dE oM))
 generalize Ieee.Datum.rootFrom n (n.log2/2+1) 0=w at *;have hw:2^24<=w:=by
  rcases Nat.lt_or_ge w (2^24)with c|c
  ·exfalso;have:=Nat.mul_self_le_mul_self (show w+1<=2^24 from c);have e:(2:Nat)^24*2^24<2^50:=dE;omega
  ·exact c
 have big:23+2<=(2*w+(w*w != n).toNat).log2:=by
  apply(Nat.le_log2 oM).2;omega
 refine⟨_,rfl,?_⟩;obtain⟨x,hx⟩:∃x:Nat,(x:Int)=(i-(more:Int))/2+149:=⟨((i-(more:Int))/2+149).toNat,oM⟩
 have hnr:=LK 23 (-149) w n ((i-(more:Int))/2-1) dE hrt.1 hrt.2 big x oM;have e:n*(2^x*2^x)=mv a*2^149:=by
  rw[ID,←hn,Nat.shiftLeft_eq,←Nat.pow_add,Nat.mul_assoc,Nat.mul_assoc,←Nat.pow_add,←Nat.pow_add];congr 2;omega
 rw[e]at hnr;exact hnr
section
variable {P : Program} (w : World)
end
theorem Ep(a b:Int):compare a b=if a<b then .lt else if a=b then .eq else .gt:=rfl
theorem P9{a b:Int}(h:a<b):compare a b=.lt:=by rw[Ep,if_pos h]
theorem P7{a b:Int}(h:a=b):compare a b=.eq:=by rw[Ep,if_neg oM,if_pos h]
theorem P8{a b:Int}(h:b<a):compare a b=.gt:=by rw[Ep,if_neg oM,if_neg oM]
theorem S7(a b p:Int)(hp:0<p):compare (a*p) (b*p)=compare a b:=by
 rw[Ep,Ep];have h1:a*p<b*p↔a<b:=Int.mul_lt_mul_right hp;have h2:a*p=b*p↔a=b:=⟨fun h=>Int.eq_of_mul_eq_mul_right oM h,fun h=>by rw[h]⟩
 simp only[h1,h2]
theorem Mw{x:Nat}(h:rg x=2139095040):mv x=V 23 2139095040:=by unfold mv;rw[h]
theorem ZX{x:Nat}(h:rg x<2139095040):mv x<V 23 2139095040:=I1 23 h
theorem WF{x:Nat}(h:rg x<2139095040): -(V 23 2139095040:Int)<sv x/\sv x<(V 23 2139095040:Int):=by
 have:=ZX h;unfold sv sg;split<;>omega
theorem V7(x y:Nat):Ieee.single.order x y=if 2139095040<rg x\/2139095040<rg y then none else some (compare (sv x) (sv y)):=by
 unfold Ieee.Format.order;have hV:0<V 23 2139095040:=by have:=I1 23 (show 0<2139095040 by decide);omega
 rcases Nat.lt_trichotomy (rg x) 2139095040 with c|c|c
 ·rcases Nat.lt_trichotomy (rg y) 2139095040 with d|d|d
  ·rw[Cr x c,Cr y d,if_neg oM];simp only[Ieee.Datum.order];have hm:min (-149+(te x:Int)) (-149+(te y:Int))= -149+((min (te x) (te y):Nat):Int):=oM;rw[hm];have e1:(-149+(te x:Int)-(-149+((min (te x) (te y):Nat):Int))).toNat=te x-min (te x) (te y):=oM;have e2:(-149+(te y:Int)-(-149+((min (te x) (te y):Nat):Int))).toNat=te y-min (te x) (te y):=oM;rw[e1,e2];generalize hc:min (te x) (te y)=m;have s1:Ieee.signed (ng x) (mg x) (te x-m)*(2:Int)^m=sv x:=by
    rw[Kf,show te x-m+m=te x by omega,←ID];rfl
   have s2:Ieee.signed (ng y) (mg y) (te y-m)*(2:Int)^m=sv y:=by
    rw[Kf,show te y-m+m=te y by omega,←ID];rfl
   rw[←s1,←s2,S7 _ _ _ (Int.pow_pos dE)]
  ·rw[Cr x c,Eh y d,if_neg oM];simp only[Ieee.Datum.order];have h:=WF c;have e:sv y=sg (ng y) (V 23 2139095040):=by unfold sv;rw[Mw d]
   rw[e,Ep];cases ng y
   ·rw[if_neg dE,if_pos Zgv]
   ·rw[if_pos rfl,if_neg Zgv,if_neg Zgv]
  ·rw[Ei y d,Cr x c,if_pos (Or.inr d)];rfl
 ·rcases Nat.lt_trichotomy (rg y) 2139095040 with d|d|d
  ·rw[Eh x c,Cr y d,if_neg oM];simp only[Ieee.Datum.order];have h:=WF d;have e:sv x=sg (ng x) (V 23 2139095040):=by unfold sv;rw[Mw c]
   rw[e,Ep];cases ng x
   ·rw[if_neg dE,if_neg Zgv,if_neg Zgv]
   ·rw[if_pos rfl,if_pos Zgv]
  ·rw[Eh x c,Eh y d,if_neg oM];simp only[Ieee.Datum.order];have e1:sv x=sg (ng x) (V 23 2139095040):=by unfold sv;rw[Mw c]
   have e2:sv y=sg (ng y) (V 23 2139095040):=by unfold sv;rw[Mw d]
   rw[e1,e2,Ep];cases ng x<;>cases ng y
   ·rw[if_neg oM,if_pos rfl];rfl
   ·rw[if_neg Zgi,if_neg Zgi];rfl
   ·rw[if_pos Zgi];rfl
   ·rw[if_neg oM,if_pos rfl];rfl
  ·rw[Ei y d,Eh x c,if_pos (Or.inr d)];rfl
 ·rw[Ei x c,if_pos (Or.inl c)];cases Ieee.single.read y<;>rfl
theorem Cs(a:Int)(h0:0<=a):(rg a.toNat:Int)=a%2147483648:=by unfold rg;omega
theorem JI(a:Int)(h0:0<=a):nan a=decide (2139095040<rg a.toNat):=by
 unfold nan;rw[decide_eq_decide];have:=Cs a h0;omega
theorem JP(a b:Int)(h0:0<=a)(g0:0<=b):Yp a b=if nan a=true\/nan b=true then none else some (compare (sv a.toNat) (sv b.toNat)):=by
 unfold Yp;rw[V7,JI a h0,JI b g0];simp only[decide_eq_true_eq]
theorem Sh(a b:Int)(h0:0<=a)(g0:0<=b):Jy a b=true↔nan a=false/\nan b=false/\sv a.toNat<sv b.toNat:=by
 unfold Jy;rw[JP a b h0 g0];by_cases hn:nan a=true\/nan b=true
 ·rw[if_pos hn];simp;intro k1 k2;simp[k1,k2]at hn
 ·rw[if_neg hn];have hn':nan a=false/\nan b=false:=by simpa using hn
  rcases Int.lt_trichotomy (sv a.toNat) (sv b.toNat)with c|c|c
  ·rw[P9 c];simp[hn',c]
  ·rw[P7 c];simp;omega
  ·rw[P8 c];simp;omega
theorem sv_inj{x y:Nat}(h:sv x=sv y):rg x=rg y/\(ng x=ng y\/rg x=0):=by
 have hz:∀z,mv z=0->rg z=0:=by
  intro z hz;unfold mv at hz;rw[←Mf 23]at hz;exact TV 23 hz
 have key:mv x=mv y/\(ng x=ng y\/mv x=0):=by
  unfold sv sg at h;cases hx:ng x<;>cases hy:ng y<;>rw[hx,hy]at h<;>simp only[if_true,if_false,Bool.false_eq_true]at h
  ·exact⟨oM,Or.inl rfl⟩
  ·exact⟨oM,Or.inr oM⟩
  ·exact⟨oM,Or.inr oM⟩
  ·exact⟨oM,Or.inl rfl⟩
 refine⟨TV 23 key.1,?_⟩;rcases key.2 with e|e
 ·exact Or.inl e
 ·exact Or.inr (hz x e)
theorem EE(a:Int)(h0:0<=a)(h1:a<4294967296):a=(if ng a.toNat then 2147483648 else 0)+(rg a.toNat:Int):=by
 unfold ng rg;by_cases c:2147483648<=a
 ·have:a.toNat/2147483648%2=1:=oM;simp[this];omega
 ·have:a.toNat/2147483648%2=0:=oM;simp[this];omega
theorem Yu{a b:Int}(h0:0<=a)(h1:a<4294967296)(g0:0<=b)(g1:b<4294967296)(hr:rg a.toNat=rg b.toNat)(hs:ng a.toNat=ng b.toNat):a=b:=by
 rw[EE a h0 h1,EE b g0 g1,hr,hs]
theorem PF(a:Int)(h0:0<=a)(h1:a<4294967296):ng a.toNat=decide (2147483648<=a):=by
 unfold ng;by_cases c:2147483648<=a<;>simp[c]<;>omega
theorem WA(d e:Ieee.Datum):d.sum e=e.sum d:=by
 cases d<;>cases e<;>simp only[Ieee.Datum.sum]
 ·rename_i s m i t n j;rw[Int.min_comm j i,Int.add_comm (Ieee.signed t n _),Bool.and_comm]
 ·rename_i s t;by_cases h:s=t
  ·rw[if_pos h,if_pos h.symm,h]
  ·rw[if_neg h,if_neg (fun k=>h k.symm)]
theorem Lh(a b:Int):Dm a b=Dm b a:=by unfold Dm Ieee.Format.add;rw[WA]
def Mr(a:Nat):Nat:=if 2147483648<=a then a-2147483648 else a+2147483648
theorem R1(a:Nat)(h:a<4294967296):rg (Mr a)=rg a:=by unfold rg Mr;split<;>omega
theorem Ye(a:Nat)(h:a<4294967296):ng (Mr a)= !ng a:=by
 unfold ng Mr;split
 ·rename_i c;have e1:a/2147483648%2=1:=oM;have e2:(a-2147483648)/2147483648%2=0:=oM;simp[e1,e2]
 ·rename_i c;have e1:a/2147483648%2=0:=oM;have e2:(a+2147483648)/2147483648%2=1:=oM;rw[e1,e2];rfl
theorem SL(a:Nat)(h:a<4294967296):Ieee.single.read (Mr a)=(Ieee.single.read a).opposite:=by
 rw[DG,DG,R1 a h,Ye a h];split
 ·rfl
 ·split
  ·rfl
  ·split<;>rfl
theorem NC(a:Int)(h0:0<=a)(h1:a<4294967296)(hn:nan a=false):JA a=(Mr a.toNat:Nat):=by
 unfold JA Mr;have e:(if 2147483648<=a then a-2147483648 else a+2147483648)=((if 2147483648<=a.toNat then a.toNat-2147483648 else a.toNat+2147483648:Nat):Int):=by
  by_cases c:2147483648<=a
  ·rw[if_pos c,if_pos oM];omega
  ·rw[if_neg c,if_neg oM];omega
 rw[e];apply I5;have:=R1 a.toNat oM;unfold Mr at this;rw[this];rw[JI a h0]at hn;simpa using hn
theorem NA(a:Int)(h0:0<=a)(h1:a<4294967296)(hn:nan a=true):JA a=2143289344:=by
 unfold JA canon;rw[My]at hn;have:nan (if 2147483648<=a then a-2147483648 else a+2147483648)=true:=by
  rw[My];split<;>omega
 rw[if_pos this]
theorem QK(a:Int)(h0:0<=a)(h1:a<4294967296):0<=JA a/\JA a<4294967296:=by
 have h:0<=(if 2147483648<=a then a-2147483648 else a+2147483648)/\(if 2147483648<=a then a-2147483648 else a+2147483648)<4294967296:=by split<;>omega
 exact EO _ h.1 h.2

theorem GC(a:Int)(k:Nat)(hk:k<64)(h0:0<=a)(h1:a<18446744073709551616):bits .and .u64 a ((2^k-1:Nat):Int)=a%((2^k:Nat):Int):=by
 have hp:2^k<2^64:=Nat.pow_lt_pow_right oM hk;have hq:0<2^k:=Nat.two_pow_pos k;obtain⟨n,rfl⟩:=Int.eq_ofNat_of_zero_le h0;rw[u64_and _ _ h0 h1 oM oM,Int.toNat_natCast,Int.toNat_natCast,Nat.and_two_pow_sub_one_eq_mod];rfl
theorem Xj(a:Int)(h0:0<=a)(h1:a<18446744073709551616):bits .and .u64 a 255=a%256:=GC a 8 dE h0 h1
theorem U7(a:Int)(h0:0<=a)(h1:a<18446744073709551616):bits .and .u64 a 8388607=a%8388608:=GC a 23 dE h0 h1
def B8(a:Int):Bool:=a/2147483648==1
def nM(a:Int):Int:=if a/8388608%256=255 then 0 else if a/8388608%256=0 then a%8388608 else 8388608+a%8388608
def nE(a:Int):Int:=if a/8388608%256=255 then 0 else if a/8388608%256=0 then -149 else a/8388608%256-150
def DD(a:Int):Bool:=if a/8388608%256=255 then a%8388608==0 else false
def BK(a:Int):Bool:=if a/8388608%256=255 then a%8388608 != 0 else false
theorem D7(a:Int)(h0:0<=a)(h1:a<4294967296)(w:World):
 Calls prog 136 #[.int .i64 a] w fun e w'=>e=.returned (.agg #[.bool (B8 a),.int .u64 (nM a),.int .i64 (nE a),.bool (DD a),.bool (BK a)])/\∃o,w'=(w.alloc o).alloc o:=by
 have e1:=Xj (a/8388608) oM oM;have e2:=U7 a h0 oM;by_cases c:a/8388608%256=255
 ·have f1:nM a=0:=by unfold nM;rw[if_pos c]
  have f2:nE a=0:=by unfold nE;rw[if_pos c]
  have f3:DD a=(a%8388608==0):=by unfold DD;rw[if_pos c]
  have f4:BK a=(a%8388608 != 0):=by unfold BK;rw[if_pos c]
  exact Zdk
 ·by_cases c2:a/8388608%256=0
  ·have f1:nM a=a%8388608:=by unfold nM;rw[if_neg c,if_pos c2]
   have f2:nE a= -149:=by unfold nE;rw[if_neg c,if_pos c2]
   have f3:DD a=false:=by unfold DD;rw[if_neg c]
   have f4:BK a=false:=by unfold BK;rw[if_neg c]
   exact Zdk
  ·have f1:nM a=8388608+a%8388608:=by unfold nM;rw[if_neg c,if_neg c2]
   have f2:nE a=a/8388608%256-150:=by unfold nE;rw[if_neg c,if_neg c2]
   have f3:DD a=false:=by unfold DD;rw[if_neg c]
   have f4:BK a=false:=by unfold BK;rw[if_neg c]
   exact Zdk
def Hr(s:Bool):Int:=if s then 2147483648 else 0
theorem Qd(s:Bool):0<=Hr s/\Hr s<=2147483648:=by unfold Hr;split<;>decide
theorem Gl(s:Bool)(w:World):
 Calls prog 144 #[.bool s] w fun e w'=>e=.returned (.int .u64 (Hr s))/\w'=w:=by
 cases s
 all_goals(
  go_enter func144,ntmps144;go_wp2;go_ret
  exact⟨rfl,rfl⟩)
theorem Ds(s:Bool)(w:World):
 Calls prog 142 #[.bool s] w fun e w'=>e=.returned (.int .i64 (Hr s))/\w'=w:=by
 have hl:=Qd s;go_enter func142,ntmps142;go_wp2_with(go_at_call 144;refine(Gl _ _).mono ?_;rintro e w' ⟨rfl,rfl⟩);go_ret;exact⟨rfl,rfl⟩
theorem Ej(s:Bool)(w:World):
 Calls prog 141 #[.bool s] w fun e w'=>e=.returned (.int .i64 (Hr s+2139095040))/\w'=w:=by
 have hl:=Qd s;go_enter func141,ntmps141;go_wp2_with(go_at_call 144;refine(Gl _ _).mono ?_;rintro e w' ⟨rfl,rfl⟩);go_ret;exact⟨rfl,rfl⟩
def Db(n:Nat):Nat:=if n=0 then 0 else n.log2+1
theorem RX(n:Nat)(h:n≠0):Db n=Db (n/2)+1:=by
 unfold Db;rw[if_neg h];by_cases c:n/2=0
 ·rw[if_pos c];have:n=1:=oM;subst this;decide
 ·rw[if_neg c,Nat.log2_def n,if_pos oM]
theorem Fp(m:Int)(h0:0<=m)(h1:m<18446744073709551616)(w:World):
 Calls prog 122 #[.int .u64 m] w fun e w'=>e=.returned (.int .i64 (Db m.toNat))/\w'=w:=by
 have hb:Db m.toNat<=64:=by
  unfold Db;split
  ·omega
  ·rename_i c;have:m.toNat.log2<64:=(Nat.log2_lt c).2 oM;omega
 generalize hB:Db m.toNat=B at *;have HB:Hid (Db m.toNat=B):=hB;clear hB;go_enter func122,ntmps122;go_wp2;go_loop [0,3] (fun mv nv=>∃ (x:Int) (k:Nat),0<=x/\x<=m/\mv=.int .u64 x/\nv=.int .i64 k/\k+Db x.toNat=B) (fun mv _=>(intOf mv).toNat)
 case atStart=>exact⟨m,0,h0,Int.le_refl _,rfl,rfl,by rw[HB.out];omega⟩
 case round=>
  obtain⟨x,k,hx0,hx1,rfl,rfl,hk⟩:=hrel;have HK:Hid (k+Db x.toNat=B):=hk;by_cases hz:x=0
  ·have:k=B:=by rw[←hk,hz];rfl
   subst this;clear hk HK HB;subst hz;go_wp2;go_ret;exact⟨rfl,rfl⟩
  ·have hs:=RX x.toNat oM;have HS:Hid (Db x.toNat=Db (x.toNat/2)+1):=hs;have hkB:k<=63:=oM;clear hs hk;go_wp2;go_round
   case rel=>exact⟨x/2,k+1,oM,oM,rfl,gN,by rw[show(x/2).toNat=x.toNat/2 by omega];have:=HK.out;have:=HS.out;omega⟩
   case measure=>simp[intOf];omega
theorem Ml(neg:Bool)(n drop:Nat):Ieee.Toward.even.cut neg n drop=n/2^drop+(if 2^drop<2*(n%2^drop)\/(2^drop=2*(n%2^drop)/\n/2^drop%2=1)then 1 else 0):=by
 have key:∀g l r:Nat,l+(decide (g<2*r)||g==2*r&&l%2==1).toNat=l+(if g<2*r\/(g=2*r/\l%2=1)then 1 else 0):=by
  intro g l r;by_cases c1:g<2*r
  ·simp[c1]
  ·by_cases c2:g=2*r
   ·by_cases c3:l%2=1<;>simp[c2,c3]
   ·simp[c1,c2]
 unfold Ieee.Toward.cut;simp only[Nat.one_shiftLeft];rcases Nat.lt_or_ge (n.log2+2) drop with c|c
 ·rw[Nat.min_eq_right oM];have h1:n<2^(n.log2+1):=Nat.lt_log2_self;have h2:2^(n.log2+2)=2*2^(n.log2+1):=by rw[Nat.pow_succ];omega
  have h3:2^(n.log2+2)<=2^drop:=Nat.pow_le_pow_right oM oM;rw[key,Nat.div_eq_of_lt oM,Nat.mod_eq_of_lt oM,Nat.div_eq_of_lt oM,Nat.mod_eq_of_lt (show n<2^drop by omega)];rw[if_neg oM,if_neg oM]
 ·rw[Nat.min_eq_left oM,key]
theorem XD(m:Int)(h0:0<=m)(d:Nat)(hd:1<=d):((Ieee.Toward.even.cut false m.toNat d:Nat):Int)=if(2:Int)^(d-1)<m%2^d\/(m%2^d=2^(d-1)/\m/2^d%2=1)then m/2^d+1 else m/2^d:=by
 obtain⟨n,rfl⟩:=Int.eq_ofNat_of_zero_le h0;rw[Ml,Int.toNat_natCast];have hG:2^d=2*2^(d-1):=by
  obtain⟨e,rfl⟩:∃e,d=e+1:=⟨d-1,oM⟩
  rw[Nat.add_sub_cancel,Nat.pow_succ,Nat.mul_comm]
 have e1:((n:Int)/2^d)=((n/2^d:Nat):Int):=by push_cast;rfl
 have e2:((n:Int)%2^d)=((n%2^d:Nat):Int):=by push_cast;rfl
 have e3:(2:Int)^(d-1)=((2^(d-1):Nat):Int):=by push_cast;rfl
 rw[e1,e2,e3];generalize n/2^d=q;generalize n%2^d=r;rw[hG];generalize 2^(d-1)=H;by_cases c:2*H<2*r\/(2*H=2*r/\q%2=1)
 ·rw[if_pos c,if_pos oM];omega
 ·rw[if_neg c,if_neg oM];omega
theorem O8(m:Int)(h0:0<=m)(h1:m<18446744073709551616)(d:Nat)(g0:1<=d)(g1:d<64)(w:World):
 Calls prog 143 #[.int .u64 m,.int .i64 d] w fun e w'=>e=.returned (.int .u64 (Ieee.Toward.even.cut false m.toNat d:Nat))/\w'=w:=by
 rw[XD m h0 d g0];have hG:(2:Int)^d=2*2^(d-1):=by
  obtain⟨e,rfl⟩:∃e,d=e+1:=⟨d-1,oM⟩
  rw[Nat.add_sub_cancel,Int.pow_succ,Int.mul_comm]
 have hle:(2:Int)^d<=9223372036854775808:=by
  have h:2^d<=9223372036854775808:=Nat.le_trans (Nat.pow_le_pow_right dE (show d<=63 by omega)) dE;have h':((2^d:Nat):Int)<=((9223372036854775808:Nat):Int):=Int.ofNat_le.2 h;rw[Int.natCast_pow]at h';exact h'
 have hH:(1:Int)<=2^(d-1):=Int.pow_pos dE;have f1:IntKind.u64.wrap ((2:Int)^d)=2^d:=by rw[IntKind.wrap_u64];omega
 have f4:IntKind.u64.wrap ((2:Int)^(d-1))=2^(d-1):=by rw[IntKind.wrap_u64];omega
 have f3:bits .and .u64 m ((2:Int)^d-1)=m%2^d:=by
  have:=GC m d g1 h0 h1;have e:((2^d-1:Nat):Int)=(2:Int)^d-1:=by
   rw[Int.ofNat_sub (Nat.two_pow_pos d)];push_cast;rfl
  rw[e]at this;rw[this];push_cast;rfl
 have hr0:0<=m%2^d:=Int.emod_nonneg _ oM;have hr1:m%2^d<2^d:=Int.emod_lt_of_pos _ oM;have hq0:0<=m/2^d:=Int.ediv_nonneg h0 oM;have hq1:m/2^d<=9223372036854775807:=by
  have h2:m/2^d<=m/2:=by
   have:(2:Int)∣2^d:=⟨2^(d-1),hG⟩
   rw[hG,←Int.ediv_ediv_of_nonneg dE];exact Int.ediv_le_self _ oM
  omega
 have f5:IntKind.u64.wrap ((2:Int)^d-1)=2^d-1:=by rw[IntKind.wrap_u64];omega
 generalize hr:m%2^d=r at *;generalize hq:m/2^d=q at *;generalize hHH:(2:Int)^(d-1)=H at *;generalize hGG:(2:Int)^d=G at *;have hG1:1<=G:=oM;clear hr hG;by_cases c1:H<r
 ·rw[if_pos (Or.inl c1)];exact Zc
 ·by_cases c2:r=H
  ·by_cases c3:q%2=1
   ·rw[if_pos (Or.inr ⟨c2,c3⟩)];exact Zc
   ·rw[if_neg oM];exact Zc
  ·rw[if_neg oM];exact Zc
theorem II(m:Int)(h0:0<=m)(h1:m<18446744073709551616)(d:Int)(g0:1<=d)(g1:d<100000)(w:World):
 Calls prog 143 #[.int .u64 m,.int .i64 d] w fun e w'=>e=.returned (.int .u64 (Ieee.Toward.even.cut false m.toNat d.toNat:Nat))/\w'=w:=by
 rcases Int.lt_trichotomy d 64 with c|c|c
 ·have:=O8 m h0 h1 d.toNat oM oM w;rwa[Int.toNat_of_nonneg oM]at this
 ·subst c;have hv:((Ieee.Toward.even.cut false m.toNat (64:Int).toNat:Nat):Int)=if 9223372036854775808<m then 1 else 0:=by
   rw[Ml,show(64:Int).toNat=64 from rfl,show(2:Nat)^64=18446744073709551616 from rfl,Nat.div_eq_of_lt oM,Nat.mod_eq_of_lt oM];by_cases c:9223372036854775808<m
   ·rw[if_pos c,if_pos oM];rfl
   ·rw[if_neg c,if_neg oM];rfl
  rw[hv];clear hv;by_cases c:9223372036854775808<m
  ·rw[if_pos c];exact Zc
  ·rw[if_neg c];by_cases c2:m=9223372036854775808
   ·subst c2;exact Zc
   ·exact Zc
 ·have hv:((Ieee.Toward.even.cut false m.toNat d.toNat:Nat):Int)=0:=by
   have hp:2^65<=2^d.toNat:=Nat.pow_le_pow_right dE oM;have h65:(2:Nat)^65=36893488147419103232:=rfl;rw[Ml,Nat.div_eq_of_lt oM,Nat.mod_eq_of_lt oM,if_neg oM];rfl
  rw[hv];clear hv;exact Zc
theorem OK(s:Bool)(r:Nat):((wd s r:Nat):Int)=Hr s+min (r:Int) 2139095040:=by
 unfold wd Hr;cases s
 ·simp only[if_false,Bool.false_eq_true];omega
 ·simp only[if_true];omega
theorem Kz(s:Bool)(m:Nat)(e:Int)(h0:m≠0):∃ (U:Int) (k:Nat),U=max (e+(Db m:Int)-24) (-149)/\
 ((Ieee.single.nearest s m e:Nat):Int)=Hr s+min ((U+149)*8388608+k) 2139095040/\k<=16777216/\(U= -149\/8388608<=k)/\
 k=Ieee.Toward.even.cut false (m*2^(e-U).toNat) (U-e).toNat/\(U<=e->(k:Int)=(m:Int)*2^(e-U).toNat):=by
 have hb:(Db m:Int)-24=m.log2-23:=by unfold Db;rw[if_neg h0];omega
 have hn:=Bt Ieee.single s m e;rw[Hy,CP,BG]at hn;refine⟨max (e+(Db m:Int)-24) (-149),Ieee.Toward.even.cut false (m*2^(e-max (e+(Db m:Int)-24) (-149)).toNat) (max (e+(Db m:Int)-24) (-149)-e).toNat,rfl,?_⟩;have hU:max (e+(Db m:Int)-24) (-149)=max (e+m.log2-((23:Nat):Int)) (-149):=oM;rw[hU];generalize hUU:max (e+m.log2-((23:Nat):Int)) (-149)=U at *;have hr:Ch 23 (-149) m e=(U-(-149)).toNat*2^23+Ieee.Toward.even.cut false (m*2^(e-U).toNat) (U-e).toNat:=by
  unfold Ch;rw[if_neg h0,Nat.shiftLeft_eq,hUU]
 have hcut:=Np false (m*2^(e-U).toNat) (U-e).toNat;generalize hk:Ieee.Toward.even.cut false (m*2^(e-U).toNat) (U-e).toNat=k at *;have hlo:2^m.log2<=m:=Nat.log2_self_le h0;have hhi:m<2^(m.log2+1):=Nat.lt_log2_self;have hcs:=hcut.scale 0 0 (U-e).toNat rfl;rw[Nat.pow_zero,Nat.mul_one]at hcs;have lo:U= -149\/2^23*2^(U-e).toNat<=m*2^(e-U).toNat:=by
  rcases(show U= -149\/U=e+m.log2-23 by omega)with c|c
  ·exact Or.inl c
  ·right
   calc 2^23*2^(U-e).toNat=2^m.log2*2^(e-U).toNat:=by rw[←Nat.pow_add,←Nat.pow_add];congr 1;omega
    _<=m*2^(e-U).toNat:=Nat.mul_le_mul_right _ hlo
 have hi:m*2^(e-U).toNat<2*2^23*2^(U-e).toNat:=by
  calc m*2^(e-U).toNat<2^(m.log2+1)*2^(e-U).toNat:=Nat.mul_lt_mul_of_pos_right hhi (Nat.two_pow_pos _)
   _=2^(m.log2+1+(e-U).toNat):=(Nat.pow_add ..).symm
   _<=2^(24+(U-e).toNat):=Nat.pow_le_pow_right dE oM
   _=2*2^23*2^(U-e).toNat:=by rw[Nat.pow_add]
 have up:=hcut.up;have dn:=hcut.dn;simp only[Nat.mul_one]at up dn;have hT:0<2^(U-e).toNat:=Nat.two_pow_pos _;have hkle:k<=16777216:=by
  rcases Nat.lt_or_ge 16777216 k with c|c
  ·exfalso;have:(2*16777217)*2^(U-e).toNat<=2*k*2^(U-e).toNat:=Nat.mul_le_mul_right _ oM;generalize 2^(U-e).toNat=T at *;generalize m*2^(e-U).toNat=X at *;omega
  ·exact c
 have hkge:U= -149\/8388608<=k:=by
  rcases lo with c|c
  ·exact Or.inl c
  ·right;rcases Nat.lt_or_ge k 8388608 with d|d
   ·exfalso;have:(2*k+1)*2^(U-e).toNat<=16777215*2^(U-e).toNat:=Nat.mul_le_mul_right _ oM;generalize 2^(U-e).toNat=T at *;generalize m*2^(e-U).toNat=X at *;omega
   ·exact d
 refine⟨?_,hkle,hkge,rfl,?_⟩
 ·rw[hn,hr,OK];rw[Int.natCast_add,Int.natCast_mul,Int.toNat_of_nonneg oM];omega
 ·intro l;rw[show(U-e).toNat=0 by omega]at hcut;have up:=hcut.up;have dn:=hcut.dn;have ue:=hcut.ue;have de:=hcut.de;have:k=m*2^(e-U).toNat:=by
   generalize m*2^(e-U).toNat=X at *;simp only[Nat.pow_zero,Nat.mul_one]at ue de up dn;omega
  rw[this];push_cast;rfl
theorem BH(s:Bool)(m:Int)(h0:0<=m)(h1:m<18446744073709551616)(e:Int)(e0: -10000<=e)(e1:e<=10000)(w:World):
 Calls prog 124 #[.bool s,.int .u64 m,.int .i64 e] w fun x w'=>x=.returned (.int .i64 (Ieee.single.nearest s m.toNat e:Nat))/\w'=w:=by
 have hs:=Qd s;by_cases hz:m=0
 ·subst hz;have hv:((Ieee.single.nearest s (0:Int).toNat e:Nat):Int)=Hr s:=by
   show((Ieee.single.nearest s 0 e:Nat):Int)=Hr s;exact Zff
  rw[hv];clear hv;go_enter func124,ntmps124;go_wp2_with(go_at_call 142;refine(Ds _ _).mono ?_;rintro e w' ⟨rfl,rfl⟩);go_ret;exact⟨rfl,rfl⟩
 ·obtain⟨U,k,hU,hv,hk1,hk2,hk3,hk4⟩:=Kz s m.toNat e oM;rw[hv];clear hv;have hB:1<=Db m.toNat/\Db m.toNat<=64:=by
   unfold Db;rw[if_neg oM];have:m.toNat.log2<64:=(Nat.log2_lt oM).2 oM;omega
  generalize hBB:Db m.toNat=B at *;have fh:e<U->((Ieee.Toward.even.cut false m.toNat (U-e).toNat:Nat):Int)=k:=by
   intro l;rw[hk3,show(e-U).toNat=0 by omega,Nat.pow_zero,Nat.mul_one]
  have fq:U<=e->IntKind.u64.wrap (m*2^(-(U-e)).toNat)=k:=by
   intro l;have:=hk4 l;rw[show(-(U-e)).toNat=(e-U).toNat by omega,show m=(m.toNat:Int) by omega,←this,IntKind.wrap_u64];omega
  clear hk3 hk4;have hUr: -149<=U/\U<=20000:=oM;have hK0:0<=(k:Int)/\(k:Int)<=16777216/\(U= -149\/8388608<=(k:Int)):=oM;clear hk1 hk2;generalize hKK:(k:Int)=K at *;clear hKK;generalize hT:min ((U+149)*8388608+K) 2139095040=T;have cases:(K=16777216/\U<104/\T=(U+151)*8388608)\/(K=16777216/\104<=U/\T=2139095040)\/(U= -149/\K<8388608/\T=K)\/
   (8388608<=K/\K<16777216/\U<105/\T=(U+149)*8388608+K)\/(8388608<=K/\K<16777216/\105<=U/\T=2139095040):=oM
  clear hT;by_cases hu: -149>e+(B:Int)-24
  ·have hU':U= -149:=oM;clear hU;subst hU';clear hUr;by_cases hsh: -149<=e
   ·have fq':=fq hsh;exact Zbz
   ·have fh':=fh oM;exact Zbz
  ·have hu2:e+(B:Int)-24=U:=oM;clear hU;by_cases hsh:U<=e
   ·have fq':=fq hsh;exact Zby
   ·have fh':=fh oM;exact Zby
def CT:Wk->List Ac->Wk
 |s,[]=>s
 |s,i::r=>CT (Af s i) r
def AE(c:Cd):Wk->List Ac->Bool
 |_,[]=>true
 |s,i::r=>Aq c s i&&AE c (Af s i) r
theorem ED:∀ (l m:List Ac) (s:Wk),CT s (l++m)=CT (CT s l) m
 |[],m,s=>rfl
 |i::l,m,s=>by simp only[List.cons_append,CT];exact ED l m _
theorem Dx(c:Cd):∀ (l m:List Ac) (s:Wk),AE c s (l++m)=(AE c s l&&AE c (CT s l) m)
 |[],m,s=>by simp[AE,CT]
 |i::l,m,s=>by simp only[List.cons_append,AE,CT,Dx c l m,Bool.and_assoc]
theorem UG{c:Cd}:∀ {l:List Ac} {s:Wk} {k:Nat},(Ku c s k l).1=0↔AE c s l=true/\(CT s l).opens.isEmpty=true
 |[],s,k=>by
  simp only[Ku,AE,CT,true_and];by_cases h:s.opens.isEmpty=true
  ·simp[h]
  ·simp[h]
 |i::l,s,k=>by
  simp only[Ku,AE,CT,Bool.and_eq_true];by_cases h:Aq c s i=true
  ·rw[if_pos h,UG (k:=k+1)];simp[h]
  ·rw[if_neg h];simp[h]
theorem IM(c:Cd)(x:List Ac):∀ (l:List Ac) (s:Wk),AE ⟨c.sign,c.regs,c.slots,x⟩ s l=AE c s l
 |[],s=>rfl
 |i::l,s=>by simp only[AE,IM c x l];rfl
theorem Na{c:Cd}{x:List Ac}(h:Cm c=0)(hl:x.length<=c.list.length):Cm ⟨c.sign,c.regs,c.slots,x⟩=0:=by
 unfold Cm at h ⊢;have h1:AY c.sign=0:=by
  by_cases e:AY c.sign=0
  ·exact e
  ·rw[if_pos e]at h;exact absurd h e
 have hm:As ⟨c.sign,c.regs,c.slots,x⟩=As c:=rfl;have hs:Bv ⟨c.sign,c.regs,c.slots,x⟩=Bv c:=rfl;rw[if_neg (by simp[h1])]at h ⊢;by_cases e1:16384<c.regs.length\/32768<c.list.length
 ·rw[if_pos e1]at h;exact absurd h dE
 ·rw[if_neg e1]at h;rw[if_neg (by show¬ (16384<c.regs.length\/32768<x.length);omega)];by_cases e2:4096<c.slots.length
  ·rw[if_pos e2]at h;exact absurd h dE
  ·rw[if_neg e2]at h;rw[if_neg (by exact e2),hm,hs];exact h
theorem EP{c:Cd}:(Am c).1=0↔Cm c=0/\AE c ⟨[],[]⟩ c.list=true/\(CT ⟨[],[]⟩ c.list).opens.isEmpty=true:=by
 unfold Am;by_cases h:Cm c=0
 ·rw[if_neg (by simp[h]),UG];simp[h]
 ·rw[if_pos h];simp[h]
def IW(S:List Nat)(i:Ac):List Nat:=if(A4 i.op).d≠0/\i.d.toNat∉S then S++[i.d.toNat]else S
theorem PH:∀ {r:List Bk} {n:Nat},okO n r->∀b∈r,b.ahead<=n
 |[],_,_,b,hb=>absurd hb sM
 |a::r,n,h,b,hb=>by
  rcases List.mem_cons.1 hb with rfl|hb
  ·exact h.1
  ·exact Nat.le_trans (PH h.2 b hb) h.1
theorem KV{s:Wk}{i:Ac}(h:(A4 i.op).d=0):CG s i (A4 i.op)=s:=by unfold CG;rw[if_neg (fun e=>e.1 h)]
theorem QM{S:List Nat}{i:Ac}{x:Nat}:x∈IW S i↔x∈S\/((A4 i.op).d≠0/\x=i.d.toNat):=by
 unfold IW;by_cases h:(A4 i.op).d≠0/\i.d.toNat∉S
 ·rw[if_pos h,List.mem_append];simp only[List.mem_singleton];exact⟨fun q=>q.imp id fun e=>⟨h.1,e⟩,fun q=>q.imp id fun e=>e.2⟩
 ·rw[if_neg h];constructor
  ·exact .inl
  ·rintro(q|⟨q1,q2⟩)
   ·exact q
   ·rw[q2];exact Decidable.byContradiction fun e=>h ⟨q1,e⟩
def dn(o:Option Nat):Nat:=match o with
 |some _=>0
 |none=>1
section
variable {P : Program} (w : World)
end
section
variable (w : World) (n : Nat)
@[go_sem] theorem alloc_drewN (o:Obj):(w.drewN n).alloc o=(w.alloc o).drewN n:=rfl
@[go_sem] theorem setCell_drewN (a:Addr) (v:Value):(w.drewN n).setCell a v=(w.setCell a v).drewN n:=rfl
end
end Go.Proofs.YtcdpmgldkibfiaaGreat
