import Derived.Test.YtpoklpdgpcnkgaaGreatLng2
import Derived.Test.YtpoklpdgpcnkgaaGreatRows
import Derived.WalkKit
import Derived.WalkSpells
import Derived.WalkLawsBesides
import Derived.Test.YtpoklpdgpcnkgaaGreatLng4
import Derived.Laws.FloatArith
import Derived.Laws.Externs
import Derived.Below
import Derived.Handy
import Derived.Deep.Draws
import Derived.Laws.ComplexArith
import Derived.Deep.RegionHeld3
import Derived.Deep.DeepCutAuto
import Derived.Deep.OwnRows
import Derived.OwnWalk
import Derived.Deep.QuietTactic
import Derived.BigQuiet
import Derived.Deep.AppendLies
import Derived.Maps.OwnSet
import Derived.Maps.OwnOps
import Derived.Maps.Ext
import Derived.Test.YtpoklpdgpcnkgaaGreatLng1
namespace Go.Proofs.YtpoklpdgpcnkgaaGreat
open Go.RowKit Go.Proofs.Tryz
set_option linter.all false
set_option maxRecDepth 100000
set_option maxHeartbeats 16000000
theorem WZ(w:World):Calls prog 58 #[.int .i64 30] w fun e w'=>e=.returned (.tuple #[Em (A3 30),.bool true])/\Below w.heap.size w w':=by
 exact G9
theorem X4(w:World):Calls prog 58 #[.int .i64 31] w fun e w'=>e=.returned (.tuple #[Em (A3 31),.bool true])/\Below w.heap.size w w':=by
 exact G9
theorem X5(w:World):Calls prog 58 #[.int .i64 32] w fun e w'=>e=.returned (.tuple #[Em (A3 32),.bool true])/\Below w.heap.size w w':=by
 exact G9
theorem X6(w:World):Calls prog 58 #[.int .i64 33] w fun e w'=>e=.returned (.tuple #[Em (A3 33),.bool true])/\Below w.heap.size w w':=by
 exact G9
theorem X7(w:World):Calls prog 58 #[.int .i64 34] w fun e w'=>e=.returned (.tuple #[Em (A3 34),.bool true])/\Below w.heap.size w w':=by
 exact G9
theorem X8(w:World):Calls prog 58 #[.int .i64 35] w fun e w'=>e=.returned (.tuple #[Em (A3 35),.bool true])/\Below w.heap.size w w':=by
 exact G9
theorem X9(w:World):Calls prog 58 #[.int .i64 36] w fun e w'=>e=.returned (.tuple #[Em (A3 36),.bool true])/\Below w.heap.size w w':=by
 exact G9
theorem Xa(w:World):Calls prog 58 #[.int .i64 37] w fun e w'=>e=.returned (.tuple #[Em (A3 37),.bool true])/\Below w.heap.size w w':=by
 exact G9
theorem WP(w:World):Calls prog 58 #[.int .i64 22] w fun e w'=>e=.returned (.tuple #[Em (A3 22),.bool true])/\Below w.heap.size w w':=by
 exact G9
theorem WQ(w:World):Calls prog 58 #[.int .i64 23] w fun e w'=>e=.returned (.tuple #[Em (A3 23),.bool true])/\Below w.heap.size w w':=by
 exact G9
theorem WR(w:World):Calls prog 58 #[.int .i64 24] w fun e w'=>e=.returned (.tuple #[Em (A3 24),.bool true])/\Below w.heap.size w w':=by
 exact G9
theorem WT(w:World):Calls prog 58 #[.int .i64 25] w fun e w'=>e=.returned (.tuple #[Em (A3 25),.bool true])/\Below w.heap.size w w':=by
 exact G9
theorem WU(w:World):Calls prog 58 #[.int .i64 26] w fun e w'=>e=.returned (.tuple #[Em (A3 26),.bool true])/\Below w.heap.size w w':=by
 exact G9
theorem WV(w:World):Calls prog 58 #[.int .i64 27] w fun e w'=>e=.returned (.tuple #[Em (A3 27),.bool true])/\Below w.heap.size w w':=by
 exact G9
theorem WW(w:World):Calls prog 58 #[.int .i64 28] w fun e w'=>e=.returned (.tuple #[Em (A3 28),.bool true])/\Below w.heap.size w w':=by
 exact G9
theorem WY(w:World):Calls prog 58 #[.int .i64 29] w fun e w'=>e=.returned (.tuple #[Em (A3 29),.bool true])/\Below w.heap.size w w':=by
 exact G9
theorem WG(w:World):Calls prog 58 #[.int .i64 13] w fun e w'=>e=.returned (.tuple #[Em (A3 13),.bool true])/\Below w.heap.size w w':=by
 exact G9
theorem WH(w:World):Calls prog 58 #[.int .i64 14] w fun e w'=>e=.returned (.tuple #[Em (A3 14),.bool true])/\Below w.heap.size w w':=by
 exact G9
theorem WI(w:World):Calls prog 58 #[.int .i64 15] w fun e w'=>e=.returned (.tuple #[Em (A3 15),.bool true])/\Below w.heap.size w w':=by
 exact G9
theorem WJ(w:World):Calls prog 58 #[.int .i64 16] w fun e w'=>e=.returned (.tuple #[Em (A3 16),.bool true])/\Below w.heap.size w w':=by
 exact G9
theorem WK(w:World):Calls prog 58 #[.int .i64 17] w fun e w'=>e=.returned (.tuple #[Em (A3 17),.bool true])/\Below w.heap.size w w':=by
 exact G9
theorem WL(w:World):Calls prog 58 #[.int .i64 18] w fun e w'=>e=.returned (.tuple #[Em (A3 18),.bool true])/\Below w.heap.size w w':=by
 exact G9
theorem WM(w:World):Calls prog 58 #[.int .i64 19] w fun e w'=>e=.returned (.tuple #[Em (A3 19),.bool true])/\Below w.heap.size w w':=by
 exact G9
theorem WN(w:World):Calls prog 58 #[.int .i64 20] w fun e w'=>e=.returned (.tuple #[Em (A3 20),.bool true])/\Below w.heap.size w w':=by
 exact G9
theorem WO(w:World):Calls prog 58 #[.int .i64 21] w fun e w'=>e=.returned (.tuple #[Em (A3 21),.bool true])/\Below w.heap.size w w':=by
 exact G9
theorem Xd(w:World):Calls prog 53 #[.int .i64 1] w fun e w'=>e=.returned (.tuple #[.string ⟨#[110,45,45,45,45]⟩,.bool true])/\w'=w:=by
 exact Ga
theorem Xe(w:World):Calls prog 53 #[.int .i64 2] w fun e w'=>e=.returned (.tuple #[.string ⟨#[119,45,45,45,105]⟩,.bool true])/\w'=w:=by
 exact Ga
theorem Xf(w:World):Calls prog 53 #[.int .i64 3] w fun e w'=>e=.returned (.tuple #[.string ⟨#[97,99,45,45,45]⟩,.bool true])/\w'=w:=by
 exact Ga
theorem Xg(w:World):Calls prog 53 #[.int .i64 4] w fun e w'=>e=.returned (.tuple #[.string ⟨#[100,120,120,45,45]⟩,.bool true])/\w'=w:=by
 exact Ga
theorem Xh(w:World):Calls prog 53 #[.int .i64 5] w fun e w'=>e=.returned (.tuple #[.string ⟨#[100,120,120,45,45]⟩,.bool true])/\w'=w:=by
 exact Ga
theorem Xi(w:World):Calls prog 53 #[.int .i64 6] w fun e w'=>e=.returned (.tuple #[.string ⟨#[100,120,120,45,45]⟩,.bool true])/\w'=w:=by
 exact Ga
theorem Xj(w:World):Calls prog 53 #[.int .i64 7] w fun e w'=>e=.returned (.tuple #[.string ⟨#[100,120,120,45,45]⟩,.bool true])/\w'=w:=by
 exact Ga
theorem Xk(w:World):Calls prog 53 #[.int .i64 8] w fun e w'=>e=.returned (.tuple #[.string ⟨#[100,120,120,45,45]⟩,.bool true])/\w'=w:=by
 exact Ga
theorem Xl(w:World):Calls prog 53 #[.int .i64 9] w fun e w'=>e=.returned (.tuple #[.string ⟨#[100,120,120,45,45]⟩,.bool true])/\w'=w:=by
 exact Ga
theorem S4(w:World):Calls prog 53 #[.int .i64 10] w fun e w'=>e=.returned (.tuple #[.string ⟨#[100,120,120,45,45]⟩,.bool true])/\w'=w:=by
 exact Ga
theorem S6(w:World):Calls prog 53 #[.int .i64 11] w fun e w'=>e=.returned (.tuple #[.string ⟨#[100,120,45,45,45]⟩,.bool true])/\w'=w:=by
 exact Ga
theorem S7(w:World):Calls prog 53 #[.int .i64 12] w fun e w'=>e=.returned (.tuple #[.string ⟨#[100,120,45,45,45]⟩,.bool true])/\w'=w:=by
 exact Ga
theorem Ir{k:IntKind}{a b:Int}(h:a=b):Ending.returned (.int k a)=.returned (.int k b):=by rw[h]
theorem ZL(a:Int)(h0:0<=a)(h1:a<4294967296)(w:World):
 Calls prog 117 #[.int .i64 a] w fun e w'=>e=.returned (.bool (nan a))/\w'=w:=by
 go_enter func117,ntmps117;go_wp2;go_ret;exact⟨rfl,rfl⟩
theorem FT(a:Int)(h0:0<=a)(h1:a<4294967296)(w:World):
 Calls prog 97 #[.int .i64 a] w fun e w'=>e=.returned (.int .i64 (Ae a))/\w'=w:=by
 cases hn:nan a
 .have hc:Ae a=a:=by unfold Ae;simp[hn]
  exact Zei
 .have hc:Ae a=2143289344:=by unfold Ae;simp[hn]
  exact Zei
def RY:Option Nat->Int
 |some r=>r
 |none=>2143289344
def DZ(a b:Int):Int:=RY (Ieee.single.add a.toNat b.toNat)
def Ow(a b:Int):Int:=RY (Ieee.single.sub a.toNat b.toNat)
def Fq(a b:Int):Int:=RY (Ieee.single.mul a.toNat b.toNat)
def Ha(a b:Int):Int:=RY (Ieee.single.div a.toNat b.toNat)
def Eg(a:Int):Int:=RY (Ieee.single.sqrt a.toNat)
def DT(n:Int):Int:=(Ieee.single.nearest (decide (n<0)) n.natAbs 0:Nat)
def Kh(a:Int):Int:=Ae (if 2147483648<=a then a-2147483648 else a+2147483648)
def YO(a:Int):Int:=Ae (a%2147483648)
def Zw(a b:Int):Option Ordering:=Ieee.single.order a.toNat b.toNat
def JB(a b:Int):Int:=match Zw a b with
 |none=>2143289344
 |some .lt=>a
 |some .gt=>b
 |some .eq=>if 2147483648<=a then a else b
def Kg(a b:Int):Int:=match Zw a b with
 |none=>2143289344
 |some .lt=>b
 |some .gt=>a
 |some .eq=>if 2147483648<=a then b else a
def Kf(a b:Int):Bool:=Zw a b==some .lt
def feq(a b:Int):Bool:=Zw a b==some .eq
def ffin(a:Int):Bool:=decide (a%2147483648<2139095040)
def Nl(c a b:Int):Int:=if nan c||c%2147483648==0 then Ae b else Ae a
theorem rg_wd(s:Bool)(r:Nat):rg (wd s r)=min r 2139095040:=by
 unfold rg wd;split<;>omega
theorem UL(d:Ieee.Datum)(h:d.isNaN=false):rg (Ieee.single.write d)<=2139095040:=by
 cases d with
 |number s m e=>show rg (Ieee.single.nearest s m e)<=_;rw[BO,IH,rg_wd];omega
 |infinity s=>show rg (wd s 2139095040)<=_;rw[rg_wd];omega
 |nan s t=>simp[Ieee.Datum.isNaN]at h
theorem SH{d e f:Ieee.Datum}(h:d.sum e=some f):f.isNaN=false:=by
 cases d<;>cases e<;>simp[Ieee.Datum.sum]at h<;>first|(subst h;rfl)|(obtain⟨_,rfl⟩:=h;rfl)
theorem Wr{d e f:Ieee.Datum}(h:d.product e=some f):f.isNaN=false:=by
 cases d<;>cases e<;>simp[Ieee.Datum.product]at h<;>first|(subst h;rfl)|(obtain⟨_,rfl⟩:=h;rfl)
theorem Ws{k:Nat}{d e f:Ieee.Datum}(h:d.quotient k e=some f):f.isNaN=false:=by
 cases d<;>cases e<;>simp[Ieee.Datum.quotient]at h
 .split at h
  .split at h
   .cases h
   .cases h;rfl
  .cases h;rfl
 .subst h;rfl
 .subst h;rfl
theorem WA{k:Nat}{d f:Ieee.Datum}(h:d.root k=some f):f.isNaN=false:=by
 cases d<;>simp[Ieee.Datum.root]at h
 .split at h
  .cases h;rfl
  .split at h
   .cases h
   .simp only[Option.some.injEq]at h;subst h;rfl
 .obtain⟨-,rfl⟩:=h;rfl
theorem Ig{o:Option Ieee.Datum}{r:Nat}(h:o.map Ieee.single.write=some r)(k:∀f,o=some f->f.isNaN=false):rg r<=2139095040/\r<4294967296:=by
 have lt:=Ieee.single.map_write_lt h;cases o with
 |none=>simp at h
 |some d=>simp only[Option.map_some,Option.some.injEq]at h;subst h;exact⟨UL d (k d rfl),lt⟩
theorem Ro{x y r:Nat}(h:Ieee.single.add x y=some r):rg r<=2139095040/\r<4294967296:=Ig h fun _ q=>SH q
theorem SG{x y r:Nat}(h:Ieee.single.sub x y=some r):rg r<=2139095040/\r<4294967296:=Ig h fun _ q=>SH q
theorem RN{x y r:Nat}(h:Ieee.single.mul x y=some r):rg r<=2139095040/\r<4294967296:=Ig h fun _ q=>Wr q
theorem Ry{x y r:Nat}(h:Ieee.single.div x y=some r):rg r<=2139095040/\r<4294967296:=Ig h fun _ q=>Ws q
theorem Pe{x r:Nat}(h:Ieee.single.sqrt x=some r):rg r<=2139095040/\r<4294967296:=Ig h fun _ q=>WA q
theorem Zk(r:Nat):nan (r:Int)=decide (2139095040<rg r):=by unfold nan rg;rw[decide_eq_decide];omega
theorem IP{r:Nat}(h:rg r<=2139095040):Ae (r:Int)=r:=by
 unfold Ae;rw[Zk];simp;omega
section
variable {P : Program} (w : World)
end
theorem KG(o:Option Nat)(h:∀r,o=some r->r<4294967296):0<=RY o/\RY o<4294967296:=by
 cases o with
 |none=>decide
 |some r=>have:=h r rfl;show 0<=(r:Int)/\(r:Int)<_;omega
theorem Ng(a b:Int):0<=DZ a b/\DZ a b<4294967296:=KG _ fun _ h=>(Ro h).2
theorem YT(a b:Int):0<=Ow a b/\Ow a b<4294967296:=KG _ fun _ h=>(SG h).2
theorem Ea(a b:Int):0<=Fq a b/\Fq a b<4294967296:=KG _ fun _ h=>(RN h).2
theorem YP(a b:Int):0<=Ha a b/\Ha a b<4294967296:=KG _ fun _ h=>(Ry h).2
theorem VH(a:Int):0<=Eg a/\Eg a<4294967296:=KG _ fun _ h=>(Pe h).2
theorem Jm(n:Nat)(h:n<2^31):n^^^2^31=2^31+n:=by
 apply Nat.eq_of_testBit_eq;intro i;rw[Nat.testBit_xor,Nat.testBit_two_pow];rcases Nat.lt_trichotomy i 31 with c|c|c
 .rw[Nat.testBit_two_pow_add_gt c,decide_eq_false (show¬ (31=i) by omega),Bool.xor_false]
 .subst c;rw[Nat.testBit_two_pow_add_eq];simp
 .have e1:n.testBit i=false:=Nat.testBit_lt_two_pow (Nat.lt_of_lt_of_le h (Nat.pow_le_pow_right dE oM));have e2:(2^31+n).testBit i=false:=Nat.testBit_lt_two_pow (Nat.lt_of_lt_of_le (show 2^31+n<2^32 by omega) (Nat.pow_le_pow_right dE oM));rw[e1,e2,decide_eq_false (show¬ (31=i) by omega),Bool.xor_false]
theorem Y7(a:Int)(h0:0<=a)(h1:a<4294967296):bits .xor .u32 a 2147483648=if 2147483648<=a then a-2147483648 else a+2147483648:=by
 rw[u32_xor a _ h0 h1 dE dE,show(2147483648:Int).toNat=2^31 from rfl];by_cases c:2147483648<=a
 .rw[if_pos c];have e:=Jm (a.toNat-2^31) oM;rw[show 2^31+(a.toNat-2^31)=a.toNat by omega]at e;rw[<-e,Nat.xor_assoc,Nat.xor_self,Nat.xor_zero];omega
 .rw[if_neg c,Jm _ oM];omega
theorem Vy(n:Int):0<=DT n/\DT n<4294967296:=⟨Int.natCast_nonneg _,by have:=Ieee.single.write_lt (.number (decide (n<0)) n.natAbs 0);exact Int.ofNat_lt.2 this⟩
section
variable {P : Program} (w : World)
end
theorem OY(a:Nat)(ha:rg a<2139095040)(hs:ng a=false)(h0:mg a≠0):
 ∃r,Ieee.single.sqrt a=some (wd false r)/\Jh 23 (mv a*2^149) r:=by
 unfold Ieee.Format.sqrt;rw[CU a ha,hs];simp only[Ieee.Datum.root,if_neg h0,Bool.false_eq_true,if_false,Option.map_some,Ieee.Format.write];rw[BO,Dz,Ca];have hl:(mg a).log2<=23:=by
  have:(mg a).log2<24:=(Nat.log2_lt h0).2 (W8 a);omega
 generalize hi:(-149+(te a:Int))=i;generalize hm1:2*(23+2)-(mg a).log2=more1;generalize hmore:more1+((i-(more1:Int))%2).toNat=more;have hpar:(i-(more:Int))%2=0:=oM;have hmo:27<=more/\more<=51:=oM;generalize hn:mg a<<<more=n at *;have hlo:2^(mg a).log2<=mg a:=Nat.log2_self_le h0;have hn50:2^50<=n:=by
  rw[<-hn,Nat.shiftLeft_eq]
  calc 2^50<=2^((mg a).log2+more):=Nat.pow_le_pow_right dE oM
   _=2^(mg a).log2*2^more:=Nat.pow_add ..
   _<=mg a*2^more:=Nat.mul_le_mul_right _ hlo
 have hrt:=IZ n (n.log2/2+1) 0 oM (by
  have:n<2^(n.log2+1):=Nat.lt_log2_self;rw[Nat.zero_add,<-Nat.pow_add]
  exact Nat.lt_of_lt_of_le this (Nat.pow_le_pow_right dE oM))
 generalize Ieee.Datum.rootFrom n (n.log2/2+1) 0=w at *;have hw:2^24<=w:=by
  rcases Nat.lt_or_ge w (2^24)with c|c
  .exfalso;have:=Nat.mul_self_le_mul_self (show w+1<=2^24 from c);have e:(2:Nat)^24*2^24<2^50:=dE;omega
  .exact c
 have big:23+2<=(2*w+(w*w != n).toNat).log2:=by
  apply(Nat.le_log2 oM).2;omega
 refine⟨_,rfl,?_⟩;obtain⟨x,hx⟩:∃x:Nat,(x:Int)=(i-(more:Int))/2+149:=⟨((i-(more:Int))/2+149).toNat,oM⟩
 have hnr:=Mo 23 (-149) w n ((i-(more:Int))/2-1) dE hrt.1 hrt.2 big x oM;have e:n*(2^x*2^x)=mv a*2^149:=by
  rw[Jl,<-hn,Nat.shiftLeft_eq,<-Nat.pow_add,Nat.mul_assoc,Nat.mul_assoc,<-Nat.pow_add,<-Nat.pow_add];congr 2;omega
 rw[e]at hnr;exact hnr
section
variable {P : Program} (w : World)
end
theorem EX(a b:Int):compare a b=if a<b then .lt else if a=b then .eq else .gt:=rfl
theorem PR{a b:Int}(h:a<b):compare a b=.lt:=by rw[EX,if_pos h]
theorem PP{a b:Int}(h:a=b):compare a b=.eq:=by rw[EX,if_neg oM,if_pos h]
theorem PQ{a b:Int}(h:b<a):compare a b=.gt:=by rw[EX,if_neg oM,if_neg oM]
theorem Te(a b p:Int)(hp:0<p):compare (a*p) (b*p)=compare a b:=by
 rw[EX,EX];have h1:a*p<b*p↔a<b:=Int.mul_lt_mul_right hp;have h2:a*p=b*p↔a=b:=⟨fun h=>Int.eq_of_mul_eq_mul_right oM h,fun h=>by rw[h]⟩
 simp only[h1,h2]
theorem Ns{x:Nat}(h:rg x=2139095040):mv x=V 23 2139095040:=by unfold mv;rw[h]
theorem mv_fin{x:Nat}(h:rg x<2139095040):mv x<V 23 2139095040:=IL 23 h
theorem XS{x:Nat}(h:rg x<2139095040): -(V 23 2139095040:Int)<sv x/\sv x<(V 23 2139095040:Int):=by
 have:=mv_fin h;unfold sv sg;split<;>omega
theorem Wn(x y:Nat):Ieee.single.order x y=if 2139095040<rg x\/2139095040<rg y then none else some (compare (sv x) (sv y)):=by
 unfold Ieee.Format.order;have hV:0<V 23 2139095040:=by have:=IL 23 (show 0<2139095040 by decide);omega
 rcases Nat.lt_trichotomy (rg x) 2139095040 with c|c|c
 .rcases Nat.lt_trichotomy (rg y) 2139095040 with d|d|d
  .rw[CU x c,CU y d,if_neg oM];simp only[Ieee.Datum.order];have hm:min (-149+(te x:Int)) (-149+(te y:Int))= -149+((min (te x) (te y):Nat):Int):=oM;rw[hm];have e1:(-149+(te x:Int)-(-149+((min (te x) (te y):Nat):Int))).toNat=te x-min (te x) (te y):=oM;have e2:(-149+(te y:Int)-(-149+((min (te x) (te y):Nat):Int))).toNat=te y-min (te x) (te y):=oM;rw[e1,e2];generalize hc:min (te x) (te y)=m;have s1:Ieee.signed (ng x) (mg x) (te x-m)*(2:Int)^m=sv x:=by
    rw[Ln,show te x-m+m=te x by omega,<-Jl];rfl
   have s2:Ieee.signed (ng y) (mg y) (te y-m)*(2:Int)^m=sv y:=by
    rw[Ln,show te y-m+m=te y by omega,<-Jl];rfl
   rw[<-s1,<-s2,Te _ _ _ (Int.pow_pos dE)]
  .rw[CU x c,EQ y d,if_neg oM];simp only[Ieee.Datum.order];have h:=XS c;have e:sv y=sg (ng y) (V 23 2139095040):=by unfold sv;rw[Ns d]
   rw[e,EX];cases ng y
   .rw[if_neg dE,if_pos Zgv]
   .rw[if_pos rfl,if_neg Zgv,if_neg Zgv]
  .rw[ER y d,CU x c,if_pos (Or.inr d)];rfl
 .rcases Nat.lt_trichotomy (rg y) 2139095040 with d|d|d
  .rw[EQ x c,CU y d,if_neg oM];simp only[Ieee.Datum.order];have h:=XS d;have e:sv x=sg (ng x) (V 23 2139095040):=by unfold sv;rw[Ns c]
   rw[e,EX];cases ng x
   .rw[if_neg dE,if_neg Zgv,if_neg Zgv]
   .rw[if_pos rfl,if_pos Zgv]
  .rw[EQ x c,EQ y d,if_neg oM];simp only[Ieee.Datum.order];have e1:sv x=sg (ng x) (V 23 2139095040):=by unfold sv;rw[Ns c]
   have e2:sv y=sg (ng y) (V 23 2139095040):=by unfold sv;rw[Ns d]
   rw[e1,e2,EX];cases ng x<;>cases ng y
   .rw[if_neg oM,if_pos rfl];rfl
   .rw[if_neg Zgl,if_neg Zgl];rfl
   .rw[if_pos Zgl];rfl
   .rw[if_neg oM,if_pos rfl];rfl
  .rw[ER y d,EQ x c,if_pos (Or.inr d)];rfl
 .rw[ER x c,if_pos (Or.inl c)];cases Ieee.single.read y<;>rfl
theorem CY(a:Int)(h0:0<=a):(rg a.toNat:Int)=a%2147483648:=by unfold rg;omega
theorem Kt(a:Int)(h0:0<=a):nan a=decide (2139095040<rg a.toNat):=by
 unfold nan;rw[decide_eq_decide];have:=CY a h0;omega
theorem KH(a b:Int)(h0:0<=a)(g0:0<=b):Zw a b=if nan a=true\/nan b=true then none else some (compare (sv a.toNat) (sv b.toNat)):=by
 unfold Zw;rw[Wn,Kt a h0,Kt b g0];simp only[decide_eq_true_eq]
theorem Tp(a b:Int)(h0:0<=a)(g0:0<=b):Kf a b=true↔nan a=false/\nan b=false/\sv a.toNat<sv b.toNat:=by
 unfold Kf;rw[KH a b h0 g0];by_cases hn:nan a=true\/nan b=true
 .rw[if_pos hn];simp;intro k1 k2;simp[k1,k2]at hn
 .rw[if_neg hn];have hn':nan a=false/\nan b=false:=by simpa using hn
  rcases Int.lt_trichotomy (sv a.toNat) (sv b.toNat)with c|c|c
  .rw[PR c];simp[hn',c]
  .rw[PP c];simp;omega
  .rw[PQ c];simp;omega
theorem sv_inj{x y:Nat}(h:sv x=sv y):rg x=rg y/\(ng x=ng y\/rg x=0):=by
 have hz:∀z,mv z=0->rg z=0:=by
  intro z hz;unfold mv at hz;rw[<-N6 23]at hz;exact UW 23 hz
 have Bl:mv x=mv y/\(ng x=ng y\/mv x=0):=by
  unfold sv sg at h;cases hx:ng x<;>cases hy:ng y<;>rw[hx,hy]at h<;>simp only[if_true,if_false,Bool.false_eq_true]at h
  .exact⟨oM,Or.inl rfl⟩
  .exact⟨oM,Or.inr oM⟩
  .exact⟨oM,Or.inr oM⟩
  .exact⟨oM,Or.inl rfl⟩
 refine⟨UW 23 Bl.1,?_⟩;rcases Bl.2 with e|e
 .exact Or.inl e
 .exact Or.inr (hz x e)
theorem F9(a:Int)(h0:0<=a)(h1:a<4294967296):a=(if ng a.toNat then 2147483648 else 0)+(rg a.toNat:Int):=by
 unfold ng rg;by_cases c:2147483648<=a
 .have:a.toNat/2147483648%2=1:=oM;simp[this];omega
 .have:a.toNat/2147483648%2=0:=oM;simp[this];omega
theorem ZB{a b:Int}(h0:0<=a)(h1:a<4294967296)(g0:0<=b)(g1:b<4294967296)(hr:rg a.toNat=rg b.toNat)(hs:ng a.toNat=ng b.toNat):a=b:=by
 rw[F9 a h0 h1,F9 b g0 g1,hr,hs]
theorem Qx(a:Int)(h0:0<=a)(h1:a<4294967296):ng a.toNat=decide (2147483648<=a):=by
 unfold ng;by_cases c:2147483648<=a<;>simp[c]<;>omega
theorem XR(d e:Ieee.Datum):d.sum e=e.sum d:=by
 cases d<;>cases e<;>simp only[Ieee.Datum.sum]
 .rename_i s m i t n j;rw[Int.min_comm j i,Int.add_comm (Ieee.signed t n _),Bool.and_comm]
 .rename_i s t;by_cases h:s=t
  .rw[if_pos h,if_pos h.symm,h]
  .rw[if_neg h,if_neg (fun k=>h k.symm)]
theorem M3(a b:Int):DZ a b=DZ b a:=by unfold DZ Ieee.Format.add;rw[XR]
def Nj(a:Nat):Nat:=if 2147483648<=a then a-2147483648 else a+2147483648
theorem RZ(a:Nat)(h:a<4294967296):rg (Nj a)=rg a:=by unfold rg Nj;split<;>omega
theorem Zn(a:Nat)(h:a<4294967296):ng (Nj a)= !ng a:=by
 unfold ng Nj;split
 .rename_i c;have e1:a/2147483648%2=1:=oM;have e2:(a-2147483648)/2147483648%2=0:=oM;simp[e1,e2]
 .rename_i c;have e1:a/2147483648%2=0:=oM;have e2:(a+2147483648)/2147483648%2=1:=oM;rw[e1,e2];rfl
theorem TV(a:Nat)(h:a<4294967296):Ieee.single.read (Nj a)=(Ieee.single.read a).opposite:=by
 rw[Ek,Ek,RZ a h,Zn a h];split
 .rfl
 .split
  .rfl
  .split<;>rfl
theorem Ov(a:Int)(h0:0<=a)(h1:a<4294967296)(hn:nan a=false):Kh a=(Nj a.toNat:Nat):=by
 unfold Kh Nj;have e:(if 2147483648<=a then a-2147483648 else a+2147483648)=((if 2147483648<=a.toNat then a.toNat-2147483648 else a.toNat+2147483648:Nat):Int):=by
  by_cases c:2147483648<=a
  .rw[if_pos c,if_pos oM];omega
  .rw[if_neg c,if_neg oM];omega
 rw[e];apply IP;have:=RZ a.toNat oM;unfold Nj at this;rw[this];rw[Kt a h0]at hn;simpa using hn
theorem Ou(a:Int)(h0:0<=a)(h1:a<4294967296)(hn:nan a=true):Kh a=2143289344:=by
 unfold Kh Ae;rw[Nu]at hn;have:nan (if 2147483648<=a then a-2147483648 else a+2147483648)=true:=by
  rw[Nu];split<;>omega
 rw[if_pos this]
theorem RD(a:Int)(h0:0<=a)(h1:a<4294967296):0<=Kh a/\Kh a<4294967296:=by
 have h:0<=(if 2147483648<=a then a-2147483648 else a+2147483648)/\(if 2147483648<=a then a-2147483648 else a+2147483648)<4294967296:=by split<;>omega
 exact Fo _ h.1 h.2

theorem Hn(a:Int)(k:Nat)(hk:k<64)(h0:0<=a)(h1:a<18446744073709551616):bits .and .u64 a ((2^k-1:Nat):Int)=a%((2^k:Nat):Int):=by
 have hp:2^k<2^64:=Nat.pow_lt_pow_right oM hk;have hq:0<2^k:=Nat.two_pow_pos k;obtain⟨n,rfl⟩:=Int.eq_ofNat_of_zero_le h0;rw[u64_and _ _ h0 h1 oM oM,Int.toNat_natCast,Int.toNat_natCast,Nat.and_two_pow_sub_one_eq_mod];rfl
theorem Yq(a:Int)(h0:0<=a)(h1:a<18446744073709551616):bits .and .u64 a 255=a%256:=Hn a 8 dE h0 h1
theorem V9(a:Int)(h0:0<=a)(h1:a<18446744073709551616):bits .and .u64 a 8388607=a%8388608:=Hn a 23 dE h0 h1
def Bg(a:Int):Bool:=a/2147483648==1
def nM(a:Int):Int:=if a/8388608%256=255 then 0 else if a/8388608%256=0 then a%8388608 else 8388608+a%8388608
def nE(a:Int):Int:=if a/8388608%256=255 then 0 else if a/8388608%256=0 then -149 else a/8388608%256-150
def Ej(a:Int):Bool:=if a/8388608%256=255 then a%8388608==0 else false
def Cf(a:Int):Bool:=if a/8388608%256=255 then a%8388608 != 0 else false
theorem DJ(a:Int)(h0:0<=a)(h1:a<4294967296)(w:World):
 Calls prog 115 #[.int .i64 a] w fun e w'=>e=.returned (.agg #[.bool (Bg a),.int .u64 (nM a),.int .i64 (nE a),.bool (Ej a),.bool (Cf a)])/\∃o,w'=(w.alloc o).alloc o:=by
 have e1:=Yq (a/8388608) oM oM;have e2:=V9 a h0 oM;by_cases c:a/8388608%256=255
 .have f1:nM a=0:=by unfold nM;rw[if_pos c]
  have f2:nE a=0:=by unfold nE;rw[if_pos c]
  have f3:Ej a=(a%8388608==0):=by unfold Ej;rw[if_pos c]
  have f4:Cf a=(a%8388608 != 0):=by unfold Cf;rw[if_pos c]
  exact Zdj
 .by_cases c2:a/8388608%256=0
  .have f1:nM a=a%8388608:=by unfold nM;rw[if_neg c,if_pos c2]
   have f2:nE a= -149:=by unfold nE;rw[if_neg c,if_pos c2]
   have f3:Ej a=false:=by unfold Ej;rw[if_neg c]
   have f4:Cf a=false:=by unfold Cf;rw[if_neg c]
   exact Zdj
  .have f1:nM a=8388608+a%8388608:=by unfold nM;rw[if_neg c,if_neg c2]
   have f2:nE a=a/8388608%256-150:=by unfold nE;rw[if_neg c,if_neg c2]
   have f3:Ej a=false:=by unfold Ej;rw[if_neg c]
   have f4:Cf a=false:=by unfold Cf;rw[if_neg c]
   exact Zdj
def Iy(s:Bool):Int:=if s then 2147483648 else 0
theorem R4(s:Bool):0<=Iy s/\Iy s<=2147483648:=by unfold Iy;split<;>decide
theorem H4(s:Bool)(w:World):
 Calls prog 133 #[.bool s] w fun e w'=>e=.returned (.int .u64 (Iy s))/\w'=w:=by
 cases s
 all_goals(
  go_enter func133,ntmps133;go_wp2;go_ret
  exact⟨rfl,rfl⟩)
theorem E6(s:Bool)(w:World):
 Calls prog 131 #[.bool s] w fun e w'=>e=.returned (.int .i64 (Iy s))/\w'=w:=by
 have hl:=R4 s;go_enter func131,ntmps131;go_wp2_with(go_at_call 133;refine(H4 _ _).mono ?_;rintro e w' ⟨rfl,rfl⟩);go_ret;exact⟨rfl,rfl⟩
theorem ES(s:Bool)(w:World):
 Calls prog 130 #[.bool s] w fun e w'=>e=.returned (.int .i64 (Iy s+2139095040))/\w'=w:=by
 have hl:=R4 s;go_enter func130,ntmps130;go_wp2_with(go_at_call 133;refine(H4 _ _).mono ?_;rintro e w' ⟨rfl,rfl⟩);go_ret;exact⟨rfl,rfl⟩
def DN(n:Nat):Nat:=if n=0 then 0 else n.log2+1
theorem T5(n:Nat)(h:n≠0):DN n=DN (n/2)+1:=by
 unfold DN;rw[if_neg h];by_cases c:n/2=0
 .rw[if_pos c];have:n=1:=oM;subst this;decide
 .rw[if_neg c,Nat.log2_def n,if_pos oM]
theorem G0(m:Int)(h0:0<=m)(h1:m<18446744073709551616)(w:World):
 Calls prog 120 #[.int .u64 m] w fun e w'=>e=.returned (.int .i64 (DN m.toNat))/\w'=w:=by
 have hb:DN m.toNat<=64:=by
  unfold DN;split
  .omega
  .rename_i c;have:m.toNat.log2<64:=(Nat.log2_lt c).2 oM;omega
 generalize hB:DN m.toNat=B at *;have HB:Hid (DN m.toNat=B):=hB;clear hB;go_enter func120,ntmps120;go_wp2;go_loop [0,3] (fun mv nv=>∃ (x:Int) (k:Nat),0<=x/\x<=m/\mv=.int .u64 x/\nv=.int .i64 k/\k+DN x.toNat=B) (fun mv _=>(intOf mv).toNat)
 case atStart=>exact⟨m,0,h0,Int.le_refl _,rfl,rfl,by rw[HB.out];omega⟩
 case round=>
  obtain⟨x,k,hx0,hx1,rfl,rfl,hk⟩:=hrel;have HK:Hid (k+DN x.toNat=B):=hk;by_cases hz:x=0
  .have:k=B:=by rw[<-hk,hz];rfl
   subst this;clear hk HK HB;subst hz;go_wp2;go_ret;exact⟨rfl,rfl⟩
  .have hs:=T5 x.toNat oM;have HS:Hid (DN x.toNat=DN (x.toNat/2)+1):=hs;have hkB:k<=63:=oM;clear hs hk;go_wp2;go_round
   case rel=>exact⟨x/2,k+1,oM,oM,rfl,gN,by rw[show(x/2).toNat=x.toNat/2 by omega];have:=HK.out;have:=HS.out;omega⟩
   case measure=>simp[intOf];omega
theorem Nb(neg:Bool)(n drop:Nat):Ieee.Toward.even.cut neg n drop=n/2^drop+(if 2^drop<2*(n%2^drop)\/(2^drop=2*(n%2^drop)/\n/2^drop%2=1)then 1 else 0):=by
 have Bl:∀g l r:Nat,l+(decide (g<2*r)||g==2*r&&l%2==1).toNat=l+(if g<2*r\/(g=2*r/\l%2=1)then 1 else 0):=by
  intro g l r;by_cases c1:g<2*r
  .simp[c1]
  .by_cases c2:g=2*r
   .by_cases c3:l%2=1<;>simp[c2,c3]
   .simp[c1,c2]
 unfold Ieee.Toward.cut;simp only[Nat.one_shiftLeft];rcases Nat.lt_or_ge (n.log2+2) drop with c|c
 .rw[Nat.min_eq_right oM];have h1:n<2^(n.log2+1):=Nat.lt_log2_self;have h2:2^(n.log2+2)=2*2^(n.log2+1):=by rw[Nat.pow_succ];omega
  have h3:2^(n.log2+2)<=2^drop:=Nat.pow_le_pow_right oM oM;rw[Bl,Nat.div_eq_of_lt oM,Nat.mod_eq_of_lt oM,Nat.div_eq_of_lt oM,Nat.mod_eq_of_lt (show n<2^drop by omega)];rw[if_neg oM,if_neg oM]
 .rw[Nat.min_eq_left oM,Bl]
theorem YG(m:Int)(h0:0<=m)(d:Nat)(hd:1<=d):((Ieee.Toward.even.cut false m.toNat d:Nat):Int)=if(2:Int)^(d-1)<m%2^d\/(m%2^d=2^(d-1)/\m/2^d%2=1)then m/2^d+1 else m/2^d:=by
 obtain⟨n,rfl⟩:=Int.eq_ofNat_of_zero_le h0;rw[Nb,Int.toNat_natCast];have hG:2^d=2*2^(d-1):=by
  obtain⟨e,rfl⟩:∃e,d=e+1:=⟨d-1,oM⟩
  rw[Nat.add_sub_cancel,Nat.pow_succ,Nat.mul_comm]
 have e1:((n:Int)/2^d)=((n/2^d:Nat):Int):=by push_cast;rfl
 have e2:((n:Int)%2^d)=((n%2^d:Nat):Int):=by push_cast;rfl
 have e3:(2:Int)^(d-1)=((2^(d-1):Nat):Int):=by push_cast;rfl
 rw[e1,e2,e3];generalize n/2^d=q;generalize n%2^d=r;rw[hG];generalize 2^(d-1)=H;by_cases c:2*H<2*r\/(2*H=2*r/\q%2=1)
 .rw[if_pos c,if_pos oM];omega
 .rw[if_neg c,if_neg oM];omega
theorem OV(m:Int)(h0:0<=m)(h1:m<18446744073709551616)(d:Nat)(g0:1<=d)(g1:d<64)(w:World):
 Calls prog 132 #[.int .u64 m,.int .i64 d] w fun e w'=>e=.returned (.int .u64 (Ieee.Toward.even.cut false m.toNat d:Nat))/\w'=w:=by
 rw[YG m h0 d g0];have hG:(2:Int)^d=2*2^(d-1):=by
  obtain⟨e,rfl⟩:∃e,d=e+1:=⟨d-1,oM⟩
  rw[Nat.add_sub_cancel,Int.pow_succ,Int.mul_comm]
 have hle:(2:Int)^d<=9223372036854775808:=by
  have h:2^d<=9223372036854775808:=gH (Nat.pow_le_pow_right dE (show d<=63 by omega)) dE;have h':((2^d:Nat):Int)<=((9223372036854775808:Nat):Int):=Int.ofNat_le.2 h;rw[Int.natCast_pow]at h';exact h'
 have hH:(1:Int)<=2^(d-1):=Int.pow_pos dE;have f1:IntKind.u64.wrap ((2:Int)^d)=2^d:=by rw[IntKind.wrap_u64];omega
 have f4:IntKind.u64.wrap ((2:Int)^(d-1))=2^(d-1):=by rw[IntKind.wrap_u64];omega
 have f3:bits .and .u64 m ((2:Int)^d-1)=m%2^d:=by
  have:=Hn m d g1 h0 h1;have e:((2^d-1:Nat):Int)=(2:Int)^d-1:=by
   rw[Int.ofNat_sub (Nat.two_pow_pos d)];push_cast;rfl
  rw[e]at this;rw[this];push_cast;rfl
 have hr0:0<=m%2^d:=Int.emod_nonneg _ oM;have hr1:m%2^d<2^d:=Int.emod_lt_of_pos _ oM;have hq0:0<=m/2^d:=Int.ediv_nonneg h0 oM;have hq1:m/2^d<=9223372036854775807:=by
  have h2:m/2^d<=m/2:=by
   have:(2:Int)∣2^d:=⟨2^(d-1),hG⟩
   rw[hG,<-Int.ediv_ediv_of_nonneg dE];exact Int.ediv_le_self _ oM
  omega
 have f5:IntKind.u64.wrap ((2:Int)^d-1)=2^d-1:=by rw[IntKind.wrap_u64];omega
 generalize hr:m%2^d=r at *;generalize hq:m/2^d=q at *;generalize hHH:(2:Int)^(d-1)=H at *;generalize hGG:(2:Int)^d=G at *;have hG1:1<=G:=oM;clear hr hG;by_cases c1:H<r
 .rw[if_pos (Or.inl c1)];exact Zcd
 .by_cases c2:r=H
  .by_cases c3:q%2=1
   .rw[if_pos (Or.inr ⟨c2,c3⟩)];exact Zcd
   .rw[if_neg oM];exact Zcd
  .rw[if_neg oM];exact Zcd
theorem Jr(m:Int)(h0:0<=m)(h1:m<18446744073709551616)(d:Int)(g0:1<=d)(g1:d<100000)(w:World):
 Calls prog 132 #[.int .u64 m,.int .i64 d] w fun e w'=>e=.returned (.int .u64 (Ieee.Toward.even.cut false m.toNat d.toNat:Nat))/\w'=w:=by
 rcases Int.lt_trichotomy d 64 with c|c|c
 .have:=OV m h0 h1 d.toNat oM oM w;rwa[Int.toNat_of_nonneg oM]at this
 .subst c;have hv:((Ieee.Toward.even.cut false m.toNat (64:Int).toNat:Nat):Int)=if 9223372036854775808<m then 1 else 0:=by
   rw[Nb,show(64:Int).toNat=64 from rfl,show(2:Nat)^64=18446744073709551616 from rfl,Nat.div_eq_of_lt oM,Nat.mod_eq_of_lt oM];by_cases c:9223372036854775808<m
   .rw[if_pos c,if_pos oM];rfl
   .rw[if_neg c,if_neg oM];rfl
  rw[hv];clear hv;by_cases c:9223372036854775808<m
  .rw[if_pos c];exact Zcd
  .rw[if_neg c];by_cases c2:m=9223372036854775808
   .subst c2;exact Zcd
   .exact Zcd
 .have hv:((Ieee.Toward.even.cut false m.toNat d.toNat:Nat):Int)=0:=by
   have hp:2^65<=2^d.toNat:=Nat.pow_le_pow_right dE oM;have h65:(2:Nat)^65=36893488147419103232:=rfl;rw[Nb,Nat.div_eq_of_lt oM,Nat.mod_eq_of_lt oM,if_neg oM];rfl
  rw[hv];clear hv;exact Zcd
theorem Pq(s:Bool)(r:Nat):((wd s r:Nat):Int)=Iy s+min (r:Int) 2139095040:=by
 unfold wd Iy;cases s
 .simp only[if_false,Bool.false_eq_true];omega
 .simp only[if_true];omega
theorem LN(s:Bool)(m:Nat)(e:Int)(h0:m≠0):∃ (U:Int) (k:Nat),U=max (e+(DN m:Int)-24) (-149)/\
 ((Ieee.single.nearest s m e:Nat):Int)=Iy s+min ((U+149)*8388608+k) 2139095040/\k<=16777216/\(U= -149\/8388608<=k)/\
 k=Ieee.Toward.even.cut false (m*2^(e-U).toNat) (U-e).toNat/\(U<=e->(k:Int)=(m:Int)*2^(e-U).toNat):=by
 have hb:(DN m:Int)-24=m.log2-23:=by unfold DN;rw[if_neg h0];omega
 have hn:=BO Ieee.single s m e;rw[IH,Dz,Ca]at hn;refine⟨max (e+(DN m:Int)-24) (-149),Ieee.Toward.even.cut false (m*2^(e-max (e+(DN m:Int)-24) (-149)).toNat) (max (e+(DN m:Int)-24) (-149)-e).toNat,rfl,?_⟩;have hU:max (e+(DN m:Int)-24) (-149)=max (e+m.log2-((23:Nat):Int)) (-149):=oM;rw[hU];generalize hUU:max (e+m.log2-((23:Nat):Int)) (-149)=U at *;have hr:CO 23 (-149) m e=(U-(-149)).toNat*2^23+Ieee.Toward.even.cut false (m*2^(e-U).toNat) (U-e).toNat:=by
  unfold CO;rw[if_neg h0,Nat.shiftLeft_eq,hUU]
 have hcut:=Oc false (m*2^(e-U).toNat) (U-e).toNat;generalize hk:Ieee.Toward.even.cut false (m*2^(e-U).toNat) (U-e).toNat=k at *;have hlo:2^m.log2<=m:=Nat.log2_self_le h0;have hhi:m<2^(m.log2+1):=Nat.lt_log2_self;have hcs:=hcut.scale 0 0 (U-e).toNat rfl;rw[Nat.pow_zero,Nat.mul_one]at hcs;have lo:U= -149\/2^23*2^(U-e).toNat<=m*2^(e-U).toNat:=by
  rcases(show U= -149\/U=e+m.log2-23 by omega)with c|c
  .exact Or.inl c
  .right
   calc 2^23*2^(U-e).toNat=2^m.log2*2^(e-U).toNat:=by rw[<-Nat.pow_add,<-Nat.pow_add];congr 1;omega
    _<=m*2^(e-U).toNat:=Nat.mul_le_mul_right _ hlo
 have hi:m*2^(e-U).toNat<2*2^23*2^(U-e).toNat:=by
  calc m*2^(e-U).toNat<2^(m.log2+1)*2^(e-U).toNat:=Nat.mul_lt_mul_of_pos_right hhi (Nat.two_pow_pos _)
   _=2^(m.log2+1+(e-U).toNat):=(Nat.pow_add ..).symm
   _<=2^(24+(U-e).toNat):=Nat.pow_le_pow_right dE oM
   _=2*2^23*2^(U-e).toNat:=by rw[Nat.pow_add]
 have up:=hcut.up;have dn:=hcut.dn;simp only[Nat.mul_one]at up dn;have hT:0<2^(U-e).toNat:=Nat.two_pow_pos _;have hkle:k<=16777216:=by
  rcases Nat.lt_or_ge 16777216 k with c|c
  .exfalso;have:(2*16777217)*2^(U-e).toNat<=2*k*2^(U-e).toNat:=Nat.mul_le_mul_right _ oM;generalize 2^(U-e).toNat=T at *;generalize m*2^(e-U).toNat=X at *;omega
  .exact c
 have hkge:U= -149\/8388608<=k:=by
  rcases lo with c|c
  .exact Or.inl c
  .right;rcases Nat.lt_or_ge k 8388608 with d|d
   .exfalso;have:(2*k+1)*2^(U-e).toNat<=16777215*2^(U-e).toNat:=Nat.mul_le_mul_right _ oM;generalize 2^(U-e).toNat=T at *;generalize m*2^(e-U).toNat=X at *;omega
   .exact d
 refine⟨?_,hkle,hkge,rfl,?_⟩
 .rw[hn,hr,Pq];rw[Int.natCast_add,Int.natCast_mul,Int.toNat_of_nonneg oM];omega
 .intro l;rw[show(U-e).toNat=0 by omega]at hcut;have up:=hcut.up;have dn:=hcut.dn;have ue:=hcut.ue;have de:=hcut.de;have:k=m*2^(e-U).toNat:=by
   generalize m*2^(e-U).toNat=X at *;simp only[Nat.pow_zero,Nat.mul_one]at ue de up dn;omega
  rw[this];push_cast;rfl
theorem Cb(s:Bool)(m:Int)(h0:0<=m)(h1:m<18446744073709551616)(e:Int)(e0: -10000<=e)(e1:e<=10000)(w:World):
 Calls prog 122 #[.bool s,.int .u64 m,.int .i64 e] w fun x w'=>x=.returned (.int .i64 (Ieee.single.nearest s m.toNat e:Nat))/\w'=w:=by
 have hs:=R4 s;by_cases hz:m=0
 .subst hz;have hv:((Ieee.single.nearest s (0:Int).toNat e:Nat):Int)=Iy s:=by
   show((Ieee.single.nearest s 0 e:Nat):Int)=Iy s;exact Zfo
  rw[hv];clear hv;go_enter func122,ntmps122;go_wp2_with(go_at_call 131;refine(E6 _ _).mono ?_;rintro e w' ⟨rfl,rfl⟩);go_ret;exact⟨rfl,rfl⟩
 .obtain⟨U,k,hU,hv,hk1,hk2,hk3,hk4⟩:=LN s m.toNat e oM;rw[hv];clear hv;have hB:1<=DN m.toNat/\DN m.toNat<=64:=by
   unfold DN;rw[if_neg oM];have:m.toNat.log2<64:=(Nat.log2_lt oM).2 oM;omega
  generalize hBB:DN m.toNat=B at *;have fh:e<U->((Ieee.Toward.even.cut false m.toNat (U-e).toNat:Nat):Int)=k:=by
   intro l;rw[hk3,show(e-U).toNat=0 by omega,Nat.pow_zero,Nat.mul_one]
  have fq:U<=e->IntKind.u64.wrap (m*2^(-(U-e)).toNat)=k:=by
   intro l;have:=hk4 l;rw[show(-(U-e)).toNat=(e-U).toNat by omega,show m=(m.toNat:Int) by omega,<-this,IntKind.wrap_u64];omega
  clear hk3 hk4;have hUr: -149<=U/\U<=20000:=oM;have hK0:0<=(k:Int)/\(k:Int)<=16777216/\(U= -149\/8388608<=(k:Int)):=oM;clear hk1 hk2;generalize hKK:(k:Int)=K at *;clear hKK;generalize hT:min ((U+149)*8388608+K) 2139095040=T;have cases:(K=16777216/\U<104/\T=(U+151)*8388608)\/(K=16777216/\104<=U/\T=2139095040)\/(U= -149/\K<8388608/\T=K)\/
   (8388608<=K/\K<16777216/\U<105/\T=(U+149)*8388608+K)\/(8388608<=K/\K<16777216/\105<=U/\T=2139095040):=oM
  clear hT;by_cases hu: -149>e+(B:Int)-24
  .have hU':U= -149:=oM;clear hU;subst hU';clear hUr;by_cases hsh: -149<=e
   .have fq':=fq hsh;exact Zbw
   .have fh':=fh oM;exact Zbw
  .have hu2:e+(B:Int)-24=U:=oM;clear hU;by_cases hsh:U<=e
   .have fq':=fq hsh;exact Zbv
   .have fh':=fh oM;exact Zbv
def Bn:Wk->List Aa->Wk
 |s,[]=>s
 |s,i::r=>Bn (Ad s i) r
def AK(c:Cd):Wk->List Aa->Bool
 |_,[]=>true
 |s,i::r=>Am c s i&&AK c (Ad s i) r
theorem CZ:∀ (l m:List Aa) (s:Wk),Bn s (l++m)=Bn (Bn s l) m
 |[],m,s=>rfl
 |i::l,m,s=>by simp only[List.cons_append,Bn];exact CZ l m _
theorem Bt(c:Cd):∀ (l m:List Aa) (s:Wk),AK c s (l++m)=(AK c s l&&AK c (Bn s l) m)
 |[],m,s=>by simp[AK,Bn]
 |i::l,m,s=>by simp only[List.cons_append,AK,Bn,Bt c l m,Bool.and_assoc]
theorem VK{c:Cd}:∀ {l:List Aa} {s:Wk} {k:Nat},(LJ c s k l).1=0↔AK c s l=true/\(Bn s l).opens.isEmpty=true
 |[],s,k=>by
  simp only[LJ,AK,Bn,true_and];by_cases h:s.opens.isEmpty=true
  .simp[h]
  .simp[h]
 |i::l,s,k=>by
  simp only[LJ,AK,Bn,Bool.and_eq_true];by_cases h:Am c s i=true
  .rw[if_pos h,VK (k:=k+1)];simp[h]
  .rw[if_neg h];simp[h]
theorem Jv(c:Cd)(x:List Aa):∀ (l:List Aa) (s:Wk),AK ⟨c.sign,c.regs,c.slots,x⟩ s l=AK c s l
 |[],s=>rfl
 |i::l,s=>by simp only[AK,Jv c x l];rfl
theorem D4{c:Cd}:(At c).1=0↔Ct c=0/\AK c ⟨[],[]⟩ c.list=true/\(Bn ⟨[],[]⟩ c.list).opens.isEmpty=true:=by
 unfold At;by_cases h:Ct c=0
 .rw[if_neg (by simp[h]),VK];simp[h]
 .rw[if_pos h];simp[h]
def JD(S:List Nat)(i:Aa):List Nat:=if(A3 i.op).d≠0/\i.d.toNat∉S then S++[i.d.toNat]else S
theorem QA:∀ {r:List Bk} {n:Nat},okO n r->∀b∈r,b.ahead<=n
 |[],_,_,b,hb=>absurd hb sM
 |a::r,n,h,b,hb=>by
  rcases List.mem_cons.1 hb with rfl|hb
  .exact h.1
  .exact gH (QA h.2 b hb) h.1
theorem LU{s:Wk}{i:Aa}(h:(A3 i.op).d=0):CN s i (A3 i.op)=s:=by unfold CN;rw[if_neg (fun e=>e.1 h)]
theorem RG{S:List Nat}{i:Aa}{x:Nat}:x∈JD S i↔x∈S\/((A3 i.op).d≠0/\x=i.d.toNat):=by
 unfold JD;by_cases h:(A3 i.op).d≠0/\i.d.toNat∉S
 .rw[if_pos h,List.mem_append];simp only[List.mem_singleton];exact⟨fun q=>q.imp id fun e=>⟨h.1,e⟩,fun q=>q.imp id fun e=>e.2⟩
 .rw[if_neg h];constructor
  .exact .inl
  .rintro(q|⟨q1,q2⟩)
   .exact q
   .rw[q2];exact Decidable.byContradiction fun e=>h ⟨q1,e⟩
def dn(o:Option Nat):Nat:=match o with
 |some _=>0
 |none=>1
section
variable {P : Program} (w : World)
end
section
variable (w : World) (n : Nat)
@[go_sem] theorem alloc_drewN (o:Obj):(w.drewN n).alloc o=(w.alloc o).drewN n:=rfl
@[go_sem] theorem setCell_drewN (a:Addr) (v:Value):(w.drewN n).setCell a v=(w.setCell a v).drewN n:=rfl
end
theorem IS{w:World}{a:Addr}{v:Value}(h:w.cell? a=some v):a.block<w.heap.size:=by
 rcases Nat.lt_or_ge a.block w.heap.size with c|c
 .exact c
 .have:w.heap[a.block]? =none:=Array.getElem?_eq_none c;simp[World.cell?,this]at h
theorem Qt(w:World)(o:Obj):Below w.heap.size w (w.alloc o):=(Below.refl _ _).alloc (gF _) o
section
variable {w : World} {cs : List (Addr × Value)} {g : Nat} {x y : Value} {v v' : World}
end
def Bh(w:World)(p:Option Addr)(n:Nat)(X:Nat->Value):Prop:=n=0\/∃b o,p=some ⟨b,o,none⟩/\∀i,i<n->w.cell? ⟨b,o+i,none⟩=some (X i)
theorem Bh.below{w w':World}{p:Option Addr}{n:Nat}{X:Nat->Value}(h:Bh w p n X)(k:Below w.heap.size w w'):Bh w' p n X:=by
 rcases h with h|⟨b,o,e,h⟩
 .exact .inl h
 .exact .inr ⟨b,o,e,fun i hi=>(k.cell (IS (h i hi))).trans (h i hi)⟩
theorem Bh.congr{w:World}{p:Option Addr}{n:Nat}{X Y:Nat->Value}(h:Bh w p n X)(e:∀i,i<n->X i=Y i):Bh w p n Y:=by
 rcases h with h|⟨b,o,q,h⟩
 .exact .inl h
 .exact .inr ⟨b,o,q,fun i hi=>by rw[h i hi,e i hi]⟩

def nums(X:Nat->Int)(n:Nat):List Value:=(List.range n).map fun i=>.int .u32 (X i)
section
open Go.Maps (Keyed)
def OF(k:Nat):Lit:=.int .i64 (k:Int)
theorem VZ{a b:Nat}(h:OF a=OF b):a=b:=by
 unfold OF at h;simp only[Lit.int.injEq,true_and]at h;omega
theorem YX:Keyed prog 3:=Maps.int_keyed underlying3
theorem Ko{k:Nat}(h:k<=4611686018427387904):keyOf prog 3 (.int .i64 (k:Int))=some (OF k):=
 Maps.keyOf_int_mk underlying3 (by
  have h1:IntKind.i64.min<=(0:Int):=dE;have h2:(4611686018427387904:Int)<=IntKind.i64.max:=dE;simp only[Lit.wf,Bool.and_eq_true,decide_eq_true_eq]
  omega)
theorem isKeyI(k:Nat):WideAt.IsKeyLit (OF k):=by unfold OF;simp[WideAt.IsKeyLit]
end
structure Rk where
 by_:Aa
 of_:Ty
 deriving DecidableEq
structure RW where
 ins:Nat->Nat
 hold:Rk->Option Nat
 reck:List Rk
 opn:List Nat
 left:List Aa
def Ah(i:Aa):Bool:=decide ((A3 i.op).d≠0)
def Dj(l:List Aa)(r:Nat):Bool:=(l.filter fun i=>Ah i&&decide (i.d.toNat=r)).length==1
def A4(s:RW)(i:Aa):Aa:=
 {i with a:=if(A3 i.op).a=0 then i.a else(s.ins i.a.toNat:Int),b:=if(A3 i.op).b=0 then i.b else(s.ins i.b.toNat:Int),c:=if(A3 i.op).c=0 then i.c else(s.ins i.c.toNat:Int)}
def G8(l:List Aa)(i:Aa):Bool:=Ah i&&(Dj l i.d.toNat&&(Ac i (A3 i.op)).all fun r=>Dj l r.toNat)
def LG(c:Cd)(i:Aa):Rk:=⟨{i with d:=0},A5 c.regs i.d⟩
def DH(c:Cd)(s:RW)(i:Aa):Option Nat:=
 if G8 c.list i then
  if i.op=3 then(if A5 c.regs i.a=A5 c.regs i.d then some i.a.toNat else none)else s.hold (LG c i)
 else none
def Oe(s:RW)(k:Nat):RW:={s with hold:=fun r=>if r∈s.reck.drop k then none else s.hold r,reck:=s.reck.take k}
def Hq(s:RW):RW:={Oe s (s.opn.getLastD 0)with opn:=s.opn.dropLast}
def B4(c:Cd)(s:RW)(i:Aa):RW:=
 if i.op=34 then{s with left:=s.left++[i],opn:=s.opn++[s.reck.length]}
 else if i.op=35 then Hq {s with left:=s.left++[i]}
 else if(i.op≠32/\i.op≠3)/\G8 c.list i then{s with left:=s.left++[i],hold:=fun r=>if r=LG c i then some i.d.toNat else s.hold r,reck:=s.reck++[LG c i]}
 else{s with left:=s.left++[i]}
def MN(c:Cd)(s:RW)(i:Aa):RW:=
 match DH c s (A4 s i)with
 |some r=>{s with ins:=fun k=>if k=i.d.toNat then r else s.ins k}
 |none=>B4 c s (A4 s i)
def J5:RW:=⟨id,fun _=>none,[],[],[]⟩
def QL(c:Cd):List Aa:=(c.list.foldl (MN c) J5).left
def NH(c:Cd):Cd:={c with list:=QL c}
inductive Rj(ins:Nat->Nat)(hold:Rk->Option Nat):List Nat->List Nat->List Rk->List Bk->List Bk->List Nat->Prop where
 |nil {X X':List Nat} {K:List Rk}:Rj ins hold X X' K [] [] []
 |loop {X X':List Nat} {K:List Rk} {o o':List Bk} {k:List Nat} {p:Int} {a a':Nat} (h:Rj ins hold X X' K o o' k):Rj ins hold X X' K (⟨true,p,a⟩::o) (⟨true,p,a'⟩::o') k
 |when {X X':List Nat} {K:List Rk} {o o':List Bk} {k:List Nat} {p:Int} {a a' m:Nat} (h1:a<=X.length) (h2:a'<=X'.length) (h3:m<=K.length) (h4:∀r∈X.take a,ins r∈X'.take a') (h5:∀q∈K.take m,∃g,hold q=some g/\g∈X'.take a')
  (h:Rj ins hold (X.take a) (X'.take a') (K.take m) o o' k):Rj ins hold X X' K (⟨false,p,a⟩::o) (⟨false,p,a'⟩::o') (k++[m])
theorem Rj.grow{ins ins2:Nat->Nat}{hold hold2:Rk->Option Nat}{X X':List Nat}{K:List Rk}{o o':List Bk}{k:List Nat}(h:Rj ins hold X X' K o o' k):∀ (Y Y':List Nat) (J:List Rk),(∀r∈X,ins2 r=ins r)->(∀q∈K,hold2 q=hold q)->Rj ins2 hold2 (X++Y) (X'++Y') (K++J) o o' k:=by
 induction h with
 |nil=>exact fun _ _ _ _ _=>.nil
 |loop h ih=>exact fun Y Y' J hi hh=>.loop (ih Y Y' J hi hh)
 |@when X1 X1' K1 o1 o1' k1 p1 a1 a1' m1 h1 h2 h3 h4 h5 h ih=>
  intro Y Y' J hi hh;have hi':∀r∈X1.take a1,ins2 r=ins r:=fun r hr=>hi r (List.mem_of_mem_take hr);have hh':∀q∈K1.take m1,hold2 q=hold q:=fun q hq=>hh q (List.mem_of_mem_take hq);have h6:=ih [] [] [] hi' hh';simp only[List.append_nil]at h6;refine .when sO sO sO ?_ ?_ ?_
  .rw[List.take_append_of_le_length h1,List.take_append_of_le_length h2];exact fun r hr=>by rw[hi' r hr];exact h4 r hr
  .rw[List.take_append_of_le_length h3,List.take_append_of_le_length h2];exact fun q hq=>by rw[hh' q hq];exact h5 q hq
  .rw[List.take_append_of_le_length h1,List.take_append_of_le_length h2,List.take_append_of_le_length h3];exact h6
theorem Rj.len{ins:Nat->Nat}{hold:Rk->Option Nat}{X X':List Nat}{K:List Rk}{o o':List Bk}{k:List Nat}(h:Rj ins hold X X' K o o' k):o.length=o'.length:=by
 induction h with
 |nil=>rfl
 |loop h ih=>simp[ih]
 |when h1 h2 h3 h4 h5 h ih=>simp[ih]
theorem Rj.inner{ins:Nat->Nat}{hold:Rk->Option Nat}{X X':List Nat}{K:List Rk}{o o':List Bk}{k:List Nat}(h:Rj ins hold X X' K o o' k)(U V:List Nat):Ao ⟨U,o⟩=Ao ⟨V,o'⟩/\BN ⟨U,o⟩=BN ⟨V,o'⟩/\o.isEmpty=o'.isEmpty:=by
 cases h<;>exact⟨rfl,rfl,rfl⟩
structure Fb(c:Cd)(L:List Aa)(s:RW)(x x':Wk):Prop where
 ty:∀r,r<c.regs.length->s.ins r<c.regs.length/\A5 c.regs (s.ins r:Int)=A5 c.regs (r:Int)
 set:∀r∈x.set,s.ins r∈x'.set
 was:∀r∈x.set,∃i∈L,Ah i=true/\i.d.toNat=r
 same:∀r,s.ins r=r\/(Dj c.list r=true/\∃i∈L,Ah i=true/\i.d.toNat=r)
 reck:∀k,(s.hold k).isSome=true↔k∈s.reck
 nodup:s.reck.Nodup
 hold:∀k g,s.hold k=some g->g∈x'.set/\g<c.regs.length/\A5 c.regs (g:Int)=k.of_
 opens:Rj s.ins s.hold x.set x'.set s.reck x.opens x'.opens s.opn
theorem Fb.start(c:Cd):Fb c [] J5 ⟨[],[]⟩ ⟨[],[]⟩:=
 ⟨fun r h=>⟨h,rfl⟩,fun r h=>Zhx,fun r h=>Zhx,fun r=>.inl rfl,fun k=>(by simp[J5]),List.nodup_nil,fun k g h=>Zhx,.nil⟩
theorem Iq{l:List Ty}{n:Int}(h:0<=n):A5 l n=A5 l (n.toNat:Int):=by rw[Int.toNat_of_nonneg h]
theorem G3{L R:List Aa}{i:Aa}(hs:Ah i=true)(h:Dj (L++i::R) i.d.toNat=true):∀j∈L,Ah j=true->j.d.toNat≠i.d.toNat:=by
 intro j hj hsj e;unfold Dj at h;simp only[beq_iff_eq,List.filter_append,List.length_append]at h;have h1:0<(L.filter fun q=>Ah q&&decide (q.d.toNat=i.d.toNat)).length:=List.length_pos_iff.2 fun e9=>by
  have:j∈L.filter fun q=>Ah q&&decide (q.d.toNat=i.d.toNat):=List.mem_filter.2 ⟨hj,by simp[hsj,e]⟩;rw[e9]at this;cases this
 have h2:0<((i::R).filter fun q=>Ah q&&decide (q.d.toNat=i.d.toNat)).length:=List.length_pos_iff.2 fun e9=>by
  have:i∈(i::R).filter fun q=>Ah q&&decide (q.d.toNat=i.d.toNat):=List.mem_filter.2 ⟨List.mem_cons_self,by simp[hs]⟩;rw[e9]at this;cases this
 omega
theorem Ix{i:Aa}(h:Ah i=true):i.op≠34/\i.op≠35/\i.op≠36/\i.op≠37:=by
 unfold Ah at h;simp only[decide_eq_true_eq]at h;refine⟨?_,?_,?_,?_⟩<;>(intro e;rw[e]at h;exact h dE)
theorem Us{s:Wk}{i:Aa}(h:Ah i=true):BG s i=s:=by
 obtain⟨h1,h2,h3,h4⟩:=Ix h;unfold BG;rw[if_neg oM,if_neg oM]
theorem Kc{c:Cd}{ins:Nat->Nat}(ty:∀r,r<c.regs.length->ins r<c.regs.length/\A5 c.regs (ins r:Int)=A5 c.regs (r:Int)){l n:Int}{m:Ty}(h:Ai c.regs l n m=true):Ai c.regs l (if l=0 then n else(ins n.toNat:Int)) m=true:=by
 by_cases hl:l=0
 .rw[if_pos hl];exact h
 .rw[if_neg hl];obtain⟨h0,h1⟩:=Af h hl;obtain⟨t1,t2⟩:=ty n.toNat oM;unfold Ai at h |-;rw[if_neg hl]at h |-;simp only[Bool.and_eq_true]at h |-;rw[t2,<-Iq h0];exact⟨Bv.2 ⟨oM,oM⟩,h.2⟩
theorem W7{c:Cd}{s:RW}(ty:∀r,r<c.regs.length->s.ins r<c.regs.length/\A5 c.regs (s.ins r:Int)=A5 c.regs (r:Int)){i:Aa}(h:AN c i (A3 i.op)=true):Ak c.regs (A4 s i) (A3 i.op)=Ak c.regs i (A3 i.op):=by
 unfold Ak CC A4;simp only;by_cases hd:(A3 i.op).d=0
 .rw[if_pos hd,if_pos hd];by_cases ha:(A3 i.op).a=0
  .rw[if_pos ha]
  .rw[if_neg ha];obtain⟨h0,h1⟩:=Af (BR h) ha;rw[(ty i.a.toNat oM).2,<-Iq h0]
 .rw[if_neg hd,if_neg hd]
theorem J8{c:Cd}{L:List Aa}{s:RW}{x x':Wk}(h:Fb c L s x x'){i:Aa}(t:Am c x i=true):Am c x' (A4 s i)=true:=by
 obtain⟨t1,t2,t3,t4⟩:=Ar t;have hm:=W7 h.ty t2;have hop:(A4 s i).op=i.op:=rfl;unfold Am;rw[hop];simp only[Bool.and_eq_true];refine⟨t1,?_,?_,?_⟩
 .unfold AN at t2 |-;rw[hm];simp only[Bool.and_eq_true]at t2 |-;obtain⟨f1,f2,f3,f4,f5⟩:=t2;exact⟨f1,Kc h.ty f2,Kc h.ty f3,Kc h.ty f4,f5⟩
 .obtain⟨q1,q2,q3⟩:=h.opens.inner x.set x'.set;have q4:=h.opens.len;unfold Al at t3 |-;have e1:Ao x'=Ao x:=q1.symm;have e2:BN x'=BN x:=q2.symm;rw[hop,hm,e1,e2,<-q3,<-q4];exact t3
 .unfold Dc Ac at t4 |-;rw[List.all_eq_true]at t4 |-;intro n hn;simp only[List.mem_append]at hn t4;have Bl:∀m:Int,(m=i.a/\(A3 i.op).a≠0\/m=i.b/\(A3 i.op).b≠0\/m=i.c/\(A3 i.op).c≠0)->s.ins m.toNat∈x'.set:=fun m hm'=>h.set _ (by
   have:=t4 m (by
    rcases hm' with⟨rfl,q⟩|⟨rfl,q⟩|⟨rfl,q⟩
    .exact .inl UO
    .exact .inr (.inl UO)
    .exact .inr (.inr UO))
   simpa using this)
  simp only[decide_eq_true_eq];unfold A4 at hn;simp only at hn;rcases hn with hn|hn|hn
  .by_cases q:(A3 i.op).a=0
   .rw[if_pos q]at hn;cases hn
   .rw[if_neg q,if_neg q]at hn;simp at hn;subst hn;exact Bl i.a (.inl ⟨rfl,q⟩)
  .by_cases q:(A3 i.op).b=0
   .rw[if_pos q]at hn;cases hn
   .rw[if_neg q,if_neg q]at hn;simp at hn;subst hn;exact Bl i.b (.inr (.inl ⟨rfl,q⟩))
  .by_cases q:(A3 i.op).c=0
   .rw[if_pos q]at hn;cases hn
   .rw[if_neg q,if_neg q]at hn;simp at hn;subst hn;exact Bl i.c (.inr (.inr ⟨rfl,q⟩))
theorem EK{c:Cd}{s:RW}{i:Aa}{g:Nat}(h:DH c s i=some g):G8 c.list i=true:=by
 unfold DH at h;split at h
 .assumption
 .cases h
theorem Cc{l:List Aa}{i:Aa}(h:G8 l i=true):Ah i=true/\Dj l i.d.toNat=true/\∀r∈Ac i (A3 i.op),Dj l r.toNat=true:=by
 unfold G8 at h;simp only[Bool.and_eq_true,List.all_eq_true]at h;exact h
theorem RQ{c:Cd}{L R:List Aa}{s:RW}{x x':Wk}{i:Aa}(h:Fb c L s x x')(hl:c.list=L++i::R)(hs:Ah i=true)(hst:Dj c.list i.d.toNat=true):i.d.toNat∉x.set:=fun hm=>by
 obtain⟨j,hj,h1,h2⟩:=h.was _ hm;rw[hl]at hst;exact G3 hs hst j hj h1 h2
theorem J1{c:Cd}{x:Wk}{i:Aa}(t:Am c x i=true)(hs:Ah i=true):0<=i.d/\i.d<(c.regs.length:Int):=by
 obtain⟨_,t2,_,_⟩:=Ar t;unfold Ah at hs;exact Af (Dh t2) (by simpa using hs)
theorem MJ{x:Wk}{i:Aa}(hs:Ah i=true):Ad x i=CN x i (A3 i.op):=by
 unfold Ad CT;rw[Us hs]
theorem VO{c:Cd}{L:List Aa}{s:RW}{x x':Wk}{i:Aa}(h:Fb c L s x x')(t:Am c x i=true){g:Nat}(hh:DH c s (A4 s i)=some g):g∈x'.set/\g<c.regs.length/\A5 c.regs (g:Int)=A5 c.regs i.d:=by
 have hw:=EK hh;obtain⟨t1,t2,t3,t4⟩:=Ar t;unfold DH at hh;rw[if_pos hw]at hh;by_cases h3:(A4 s i).op=3
 .rw[if_pos h3]at hh;have h3':i.op=3:=h3;have ha:(A3 i.op).a≠0:=by rw[h3'];decide
  have ea:(A4 s i).a=(s.ins i.a.toNat:Int):=by unfold A4;simp only;rw[if_neg ha]
  obtain⟨a0,a1⟩:=Af (BR t2) ha;obtain⟨q1,q2⟩:=h.ty i.a.toNat oM;rw[ea]at hh;split at hh
  .rename_i e;simp only[Int.toNat_natCast,Option.some.injEq]at hh;subst hh;refine⟨h.set _ ?_,q1,e⟩;unfold Dc Ac at t4;rw[List.all_eq_true]at t4;have:=t4 i.a (by rw[if_neg ha];simp);simpa using this
  .cases hh
 .rw[if_neg h3]at hh;exact h.hold _ _ hh
theorem Tv{c:Cd}{L R:List Aa}{s:RW}{x x':Wk}{i:Aa}(h:Fb c L s x x')(hl:c.list=L++i::R)(t:Am c x i=true){g:Nat}(hh:DH c s (A4 s i)=some g):
 Fb c (L++[i]) {s with ins:=fun k=>if k=i.d.toNat then g else s.ins k} (Ad x i) x':=by
 obtain⟨w1,w2,w3⟩:=Cc (EK hh);have w1':Ah i=true:=w1;have w2':Dj c.list i.d.toNat=true:=w2;obtain⟨g1,g2,g3⟩:=VO h t hh;have hn:=RQ h hl w1' w2';obtain⟨d0,d1⟩:=J1 t w1';have hst:Ad x i=⟨x.set++[i.d.toNat],x.opens⟩:=by
  rw[MJ w1'];unfold CN;rw[if_pos ⟨by unfold Ah at w1';simpa using w1',hn⟩]
 rw[hst];have hne:∀r∈x.set,(if r=i.d.toNat then g else s.ins r)=s.ins r:=fun r hr=>if_neg (fun e:r=i.d.toNat=>hn (by rw[<-e];exact hr));refine⟨fun r hr=>?_,fun r hr=>?_,fun r hr=>?_,fun r=>?_,h.reck,h.nodup,h.hold,?_⟩
 .simp only;by_cases e:r=i.d.toNat
  .rw[if_pos e,e];exact⟨g2,by rw[g3,Iq d0]⟩
  .rw[if_neg e];exact h.ty r hr
 .simp only at hr |-;rcases List.mem_append.1 hr with hr|hr
  .rw[hne r hr];exact h.set r hr
  .simp at hr;rw[if_pos hr];exact g1
 .simp only at hr;rcases List.mem_append.1 hr with hr|hr
  .obtain⟨j,hj,q⟩:=h.was r hr;exact⟨j,List.mem_append.2 (.inl hj),q⟩
  .simp at hr;exact⟨i,sM,w1',hr.symm⟩
 .simp only;by_cases e:r=i.d.toNat
  .exact .inr ⟨by rw[e];exact w2',i,sM,w1',e.symm⟩
  .rw[if_neg e];rcases h.same r with q|⟨q,j,hj,k⟩
   .exact .inl q
   .exact .inr ⟨q,j,List.mem_append.2 (.inl hj),k⟩
 .have:=h.opens.grow (ins2:=fun k=>if k=i.d.toNat then g else s.ins k) (hold2:=s.hold) [i.d.toNat] [] [] hne (fun _ _=>rfl);simpa using this
theorem UA(c:Cd)(s:RW)(i:Aa):(B4 c s i).left=s.left++[i]/\(B4 c s i).ins=s.ins:=by
 unfold B4 Hq Oe;split
 .exact⟨rfl,rfl⟩
 .split
  .exact⟨rfl,rfl⟩
  .split<;>exact⟨rfl,rfl⟩
theorem Fb.more{c:Cd}{L:List Aa}{s:RW}{x x':Wk}(h:Fb c L s x x')(i:Aa):(∀r∈x.set,∃j∈L++[i],Ah j=true/\j.d.toNat=r)/\∀r,s.ins r=r\/(Dj c.list r=true/\∃j∈L++[i],Ah j=true/\j.d.toNat=r):=
 ⟨fun r hr=>by obtain⟨j,hj,q⟩:=h.was r hr;exact⟨j,List.mem_append.2 (.inl hj),q⟩,fun r=>by
  rcases h.same r with q|⟨q,j,hj,k⟩
  .exact .inl q
  .exact .inr ⟨q,j,List.mem_append.2 (.inl hj),k⟩⟩
theorem Ny{s:Wk}{i:Aa}(h:Ah i=false):CN s i (A3 i.op)=s:=by
 unfold CN;rw[if_neg];unfold Ah at h;simp only[decide_eq_false_iff_not,Decidable.not_not]at h;exact fun e=>e.1 h
theorem Lv{α:Type}{l:List α}{m:Nat}{x:α}(hn:l.Nodup)(h:x∈l.take m):x∉l.drop m:=fun k=>by
 rw[<-List.take_append_drop m l,List.nodup_append]at hn;exact hn.2.2 x h x k rfl
theorem MQ{s:Wk}{i:Aa}(e:i.op=34):BG s i=⟨s.set,⟨false,i.n,s.set.length⟩::s.opens⟩:=by
 unfold BG;rw[if_pos (.inl e)];have b:(i.op==36)=false:=by rw[e];decide
 rw[b]
theorem MO{s:Wk}{i:Aa}(e:i.op=36):BG s i=⟨s.set,⟨true,i.n,s.set.length⟩::s.opens⟩:=by
 unfold BG;rw[if_pos (.inr e)];have b:(i.op==36)=true:=by rw[e];decide
 rw[b]
theorem G6{s:Wk}{i:Aa}(e:i.op=35\/i.op=37):BG s i=AI s:=by
 unfold BG;rw[if_neg oM,if_pos e]
theorem MI(c:Cd)(s:RW){i:Aa}(e:i.op=34):B4 c s i={s with left:=s.left++[i],opn:=s.opn++[s.reck.length]}:=by unfold B4;rw[if_pos e]
theorem Ph(c:Cd)(s:RW){i:Aa}(e:i.op=35):B4 c s i=Hq {s with left:=s.left++[i]}:=by unfold B4;rw[if_neg oM,if_pos e]
theorem TH{c:Cd}{L:List Aa}{s:RW}{x x':Wk}{i i':Aa}(h:Fb c L s x x')(t:Am c x i=true)(e1:i'.op=i.op)(e2:i'.n=i.n)(ho:i.op=34\/i.op=35\/i.op=36\/i.op=37):
 Fb c (L++[i]) (B4 c s i') (Ad x i) (Ad x' i'):=by
 have hns:Ah i=false:=by
  unfold Ah;rcases ho with e|e|e|e<;>(rw[e];decide)
 have hns':Ah i'=false:=by unfold Ah at hns |-;rw[e1];exact hns
 obtain⟨m1,m2⟩:=h.more i;have hsx:Ad x i=BG x i:=by unfold Ad CT;exact Ny hns
 have hsx':Ad x' i'=BG x' i':=by unfold Ad CT;exact Ny hns'
 rw[hsx,hsx'];obtain⟨-,-,t3,-⟩:=Ar t;rcases ho with e|e|e|e
 .rw[MQ e,MQ (e1.trans e),MI c s (e1.trans e),e2];refine⟨h.ty,h.set,m1,m2,h.reck,h.nodup,h.hold,.when (gF _) (gF _) (gF _) ?_ ?_ ?_⟩
  .rw[List.take_length,List.take_length];exact h.set
  .rw[List.take_length,List.take_length];intro q hq;obtain⟨g,hg⟩:=Option.isSome_iff_exists.1 ((h.reck q).2 hq);exact⟨g,hg,(h.hold q g hg).1⟩
  .rw[List.take_length,List.take_length,List.take_length];exact h.opens
 .rw[G6 (.inl e),G6 (.inl (e1.trans e)),Ph c s (e1.trans e)];unfold Al at t3;rw[if_neg oM,if_pos e]at t3;simp only[Bool.and_eq_true,Bool.not_eq_true']at t3;obtain⟨X,O⟩:=x;obtain⟨X',O'⟩:=x';have ho:=h.opens;simp only at ho t3;obtain⟨ins,hold,reck,opn,left⟩:=s;simp only at ho;cases ho with
  |nil=>simp at t3
  |loop h9=>simp[Ao]at t3
  |@when _ _ _ o o' k p a a' m h1 h2 h3 h4 h5 h6=>
   have hl1:(k++[m]).getLastD 0=m:=sM;have hl2:(k++[m]).dropLast=k:=sM;unfold AI Hq Oe;simp only[hl1,hl2,Bool.false_eq_true,if_false];have hnd:reck.Nodup:=h.nodup;have hk2:∀q∈reck.take m,(if q∈reck.drop m then none else hold q)=hold q:=fun q hq=>if_neg (Lv hnd hq);refine⟨h.ty,h4,fun r hr=>m1 r (List.mem_of_mem_take hr),m2,fun q=>?_,(List.take_sublist _ _).nodup hnd,fun q g hq=>?_,?_⟩
   .simp only;by_cases hd:q∈reck.drop m
    .rw[if_pos hd];simp only[Option.isSome_none,Bool.false_eq_true,false_iff];exact fun hq=>Lv hnd hq hd
    .rw[if_neg hd];rw[h.reck q];show q∈reck↔_;rw[<-List.take_append_drop m reck,List.mem_append];simp only[List.take_append_drop];exact⟨fun w=>w.resolve_right hd,.inl⟩
   .simp only at hq;by_cases hd:q∈reck.drop m
    .rw[if_pos hd]at hq;cases hq
    .rw[if_neg hd]at hq;have hqr:q∈reck:=(h.reck q).1 (by show(hold q).isSome=true;rw[hq];rfl);rw[<-List.take_append_drop m reck,List.mem_append]at hqr;obtain⟨g',hg',hgm⟩:=h5 q (hqr.resolve_right hd);rw[hq]at hg';obtain rfl:=Option.some.inj hg';exact⟨hgm,(h.hold q g hq).2⟩
   .have h7:=h6.grow (ins2:=ins) (hold2:=fun q=>if q∈reck.drop m then none else hold q) [] [] [] (fun _ _=>rfl) hk2;simpa using h7
 .have hst:B4 c s i'={s with left:=s.left++[i']}:=by
   unfold B4;rw[if_neg oM,if_neg oM,if_neg];intro q;have:=(Cc q.2).1;rw[hns']at this;cases this
  rw[hst,MO e,MO (e1.trans e),e2];exact⟨h.ty,h.set,m1,m2,h.reck,h.nodup,h.hold,.loop h.opens⟩
 .have hst:B4 c s i'={s with left:=s.left++[i']}:=by
   unfold B4;rw[if_neg oM,if_neg oM,if_neg];intro q;have:=(Cc q.2).1;rw[hns']at this;cases this
  rw[hst,G6 (.inr e),G6 (.inr (e1.trans e))];unfold Al at t3;rw[if_neg oM,if_neg oM,if_pos e]at t3;obtain⟨X,O⟩:=x;obtain⟨X',O'⟩:=x';have ho:=h.opens;simp only at ho t3;clear hst;obtain⟨ins,hold,reck,opn,left⟩:=s;simp only at ho;cases ho with
  |nil=>simp[Ao]at t3
  |loop h9=>exact⟨h.ty,h.set,m1,m2,h.reck,h.nodup,h.hold,h9⟩
  |when h1 h2 h3 h4 h5 h6=>simp[Ao]at t3
theorem MH{c:Cd}{L R:List Aa}{s:RW}{x x':Wk}{i:Aa}(h:Fb c L s x x')(hl:c.list=L++i::R)(t:Am c x i=true)(hh:DH c s (A4 s i)=none):
 Fb c (L++[i]) (B4 c s (A4 s i)) (Ad x i) (Ad x' (A4 s i)):=by
 by_cases ho:i.op=34\/i.op=35\/i.op=36\/i.op=37
 .exact TH h t rfl rfl ho
 have hop:(A4 s i).op=i.op:=rfl;have hdd:(A4 s i).d=i.d:=rfl;have hs':Ah (A4 s i)=Ah i:=rfl;obtain⟨m1,m2⟩:=h.more i;have hsx:Ad x i=CN x i (A3 i.op):=by
  unfold Ad CT BG;rw[if_neg oM,if_neg oM]
 have hsx':Ad x' (A4 s i)=CN x' (A4 s i) (A3 i.op):=by
  unfold Ad CT BG;rw[hop,if_neg oM,if_neg oM]
 rw[hsx,hsx'];cases hs:Ah i with
 |false=>
  have hst:B4 c s (A4 s i)={s with left:=s.left++[A4 s i]}:=by
   unfold B4;rw[if_neg Rn,if_neg Rn,if_neg];intro q;have:=(Cc q.2).1;rw[hs',hs]at this;cases this
  have na:CN x' (A4 s i) (A3 i.op)=x':=Ny (i:=A4 s i) (by rw[hs'];exact hs);rw[hst,Ny hs,na];exact⟨h.ty,h.set,m1,m2,h.reck,h.nodup,h.hold,h.opens⟩
 |true=>
  obtain⟨d0,d1⟩:=J1 t hs;have hd0:(A3 i.op).d≠0:=by unfold Ah at hs;simpa using hs
  have hid:s.ins i.d.toNat=i.d.toNat:=by
   rcases h.same i.d.toNat with q|⟨q,j,hj,k1,k2⟩
   .exact q
   .rw[hl]at q;exact absurd k2 (G3 hs q j hj k1)
  obtain⟨Y,hY,hYm⟩:∃Y,CN x i (A3 i.op)=⟨x.set++Y,x.opens⟩/\∀r∈Y,r=i.d.toNat:=by
   unfold CN;split
   .exact⟨[i.d.toNat],rfl,fun r hr=>by simpa using hr⟩
   .exact⟨[],sM,fun r hr=>by cases hr⟩
  obtain⟨Y',hY',hYm'⟩:∃Y,CN x' (A4 s i) (A3 i.op)=⟨x'.set++Y,x'.opens⟩/\i.d.toNat∈x'.set++Y:=by
   unfold CN;rw[hdd];split
   .exact⟨[i.d.toNat],rfl,sM⟩
   .rename_i q;refine⟨[],sM,?_⟩;rw[List.append_nil];exact Decidable.byContradiction fun e=>q ⟨hd0,e⟩
  rw[hY,hY'];have hset:∀r∈x.set++Y,s.ins r∈x'.set++Y':=fun r hr=>by
   rcases List.mem_append.1 hr with hr|hr
   .exact List.mem_append.2 (.inl (h.set r hr))
   .rw[hYm r hr,hid];exact hYm'
  have hwas:∀r∈x.set++Y,∃j∈L++[i],Ah j=true/\j.d.toNat=r:=fun r hr=>by
   rcases List.mem_append.1 hr with hr|hr
   .exact m1 r hr
   .exact⟨i,sM,hs,(hYm r hr).symm⟩
  by_cases hw:((A4 s i).op≠32/\(A4 s i).op≠3)/\G8 c.list (A4 s i)=true
  .have hst:B4 c s (A4 s i)={s with left:=s.left++[A4 s i],hold:=fun r=>if r=LG c (A4 s i)then some (A4 s i).d.toNat else s.hold r,reck:=s.reck++[LG c (A4 s i)]}:=by
    unfold B4;rw[if_neg Rn,if_neg Rn,if_pos hw]
   have hno:s.hold (LG c (A4 s i))=none:=by
    unfold DH at hh;rw[if_pos hw.2,if_neg hw.1.2]at hh;exact hh
   have hnr:LG c (A4 s i)∉s.reck:=fun q=>by
    have:=(h.reck _).2 q;rw[hno]at this;cases this
   rw[hst];refine⟨h.ty,hset,hwas,m2,fun q=>?_,?_,fun q g hq=>?_,?_⟩
   .simp only;by_cases e:q=LG c (A4 s i)
    .rw[if_pos e];simp[e]
    .rw[if_neg e,h.reck q,List.mem_append];simp[e]
   .rw[List.nodup_append];refine⟨h.nodup,sM,fun a ha b hb=>?_⟩;simp at hb;subst hb;exact fun e=>hnr (e▸ha)
   .simp only at hq;by_cases e:q=LG c (A4 s i)
    .rw[if_pos e,hdd]at hq;obtain rfl:=Option.some.inj hq;refine⟨hYm',oM,?_⟩;rw[e,<-Iq d0];rfl
    .rw[if_neg e]at hq;obtain⟨q1,q2⟩:=h.hold q g hq;exact⟨List.mem_append.2 (.inl q1),q2⟩
   .exact h.opens.grow Y Y' [LG c (A4 s i)] (fun _ _=>rfl) (fun q hq=>if_neg (fun e:q=LG c (A4 s i)=>hnr (e▸hq)))
  .have hst:B4 c s (A4 s i)={s with left:=s.left++[A4 s i]}:=by
    unfold B4;rw[if_neg Rn,if_neg Rn,if_neg hw]
   rw[hst];refine⟨h.ty,hset,hwas,m2,h.reck,h.nodup,fun q g hq=>?_,?_⟩
   .obtain⟨q1,q2⟩:=h.hold q g hq;exact⟨List.mem_append.2 (.inl q1),q2⟩
   .have:=h.opens.grow (ins2:=s.ins) (hold2:=s.hold) Y Y' [] (fun _ _=>rfl) (fun _ _=>rfl);simpa using this
def Ib(l:List Aa):List Nat:=(l.filter Ah).map fun i=>i.d.toNat
theorem Q4(l m:List Aa):Ib (l++m)=Ib l++Ib m:=by unfold Ib;simp
end Go.Proofs.YtpoklpdgpcnkgaaGreat
