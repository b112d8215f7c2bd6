import Derived.Test.YtpoklpdgpcnkgaaGreatFrm2
import Derived.Test.YtpoklpdgpcnkgaaGreatRows
import Derived.WalkKit
import Derived.WalkSpells
import Derived.WalkLawsBesides
import Derived.Test.YtpoklpdgpcnkgaaGreatFrm4
import Derived.Laws.FloatArith
import Derived.Laws.Externs
import Derived.Below
import Derived.Handy
import Derived.Deep.Draws
import Derived.Laws.ComplexArith
import Derived.Deep.RegionHeld3
import Derived.Deep.DeepCutAuto
import Derived.Deep.OwnRows
import Derived.OwnWalk
import Derived.Deep.QuietTactic
import Derived.BigQuiet
import Derived.Deep.AppendLies
import Derived.Maps.OwnSet
import Derived.Maps.OwnOps
import Derived.Maps.Ext
import Derived.Test.YtpoklpdgpcnkgaaGreatFrm1
namespace Go.Proofs.YtpoklpdgpcnkgaaGreat
open Go.RowKit Go.Proofs.Tryz
set_option linter.all false
set_option maxRecDepth 100000
set_option maxHeartbeats 16000000
theorem WU(w:World):Calls prog 58 #[.int .i64 30] w fun e w'=>e=.returned (.tuple #[Ee (A3 30),.bool true])/\Below w.heap.size w w':=by
 exact G0
theorem WV(w:World):Calls prog 58 #[.int .i64 31] w fun e w'=>e=.returned (.tuple #[Ee (A3 31),.bool true])/\Below w.heap.size w w':=by
 exact G0
theorem WW(w:World):Calls prog 58 #[.int .i64 32] w fun e w'=>e=.returned (.tuple #[Ee (A3 32),.bool true])/\Below w.heap.size w w':=by
 exact G0
theorem WY(w:World):Calls prog 58 #[.int .i64 33] w fun e w'=>e=.returned (.tuple #[Ee (A3 33),.bool true])/\Below w.heap.size w w':=by
 exact G0
theorem WZ(w:World):Calls prog 58 #[.int .i64 34] w fun e w'=>e=.returned (.tuple #[Ee (A3 34),.bool true])/\Below w.heap.size w w':=by
 exact G0
theorem X4(w:World):Calls prog 58 #[.int .i64 35] w fun e w'=>e=.returned (.tuple #[Ee (A3 35),.bool true])/\Below w.heap.size w w':=by
 exact G0
theorem X5(w:World):Calls prog 58 #[.int .i64 36] w fun e w'=>e=.returned (.tuple #[Ee (A3 36),.bool true])/\Below w.heap.size w w':=by
 exact G0
theorem X6(w:World):Calls prog 58 #[.int .i64 37] w fun e w'=>e=.returned (.tuple #[Ee (A3 37),.bool true])/\Below w.heap.size w w':=by
 exact G0
theorem WL(w:World):Calls prog 58 #[.int .i64 22] w fun e w'=>e=.returned (.tuple #[Ee (A3 22),.bool true])/\Below w.heap.size w w':=by
 exact G0
theorem WM(w:World):Calls prog 58 #[.int .i64 23] w fun e w'=>e=.returned (.tuple #[Ee (A3 23),.bool true])/\Below w.heap.size w w':=by
 exact G0
theorem WN(w:World):Calls prog 58 #[.int .i64 24] w fun e w'=>e=.returned (.tuple #[Ee (A3 24),.bool true])/\Below w.heap.size w w':=by
 exact G0
theorem WO(w:World):Calls prog 58 #[.int .i64 25] w fun e w'=>e=.returned (.tuple #[Ee (A3 25),.bool true])/\Below w.heap.size w w':=by
 exact G0
theorem WP(w:World):Calls prog 58 #[.int .i64 26] w fun e w'=>e=.returned (.tuple #[Ee (A3 26),.bool true])/\Below w.heap.size w w':=by
 exact G0
theorem WQ(w:World):Calls prog 58 #[.int .i64 27] w fun e w'=>e=.returned (.tuple #[Ee (A3 27),.bool true])/\Below w.heap.size w w':=by
 exact G0
theorem WR(w:World):Calls prog 58 #[.int .i64 28] w fun e w'=>e=.returned (.tuple #[Ee (A3 28),.bool true])/\Below w.heap.size w w':=by
 exact G0
theorem WT(w:World):Calls prog 58 #[.int .i64 29] w fun e w'=>e=.returned (.tuple #[Ee (A3 29),.bool true])/\Below w.heap.size w w':=by
 exact G0
theorem WA(w:World):Calls prog 58 #[.int .i64 13] w fun e w'=>e=.returned (.tuple #[Ee (A3 13),.bool true])/\Below w.heap.size w w':=by
 exact G0
theorem WC(w:World):Calls prog 58 #[.int .i64 14] w fun e w'=>e=.returned (.tuple #[Ee (A3 14),.bool true])/\Below w.heap.size w w':=by
 exact G0
theorem WD(w:World):Calls prog 58 #[.int .i64 15] w fun e w'=>e=.returned (.tuple #[Ee (A3 15),.bool true])/\Below w.heap.size w w':=by
 exact G0
theorem WF(w:World):Calls prog 58 #[.int .i64 16] w fun e w'=>e=.returned (.tuple #[Ee (A3 16),.bool true])/\Below w.heap.size w w':=by
 exact G0
theorem WG(w:World):Calls prog 58 #[.int .i64 17] w fun e w'=>e=.returned (.tuple #[Ee (A3 17),.bool true])/\Below w.heap.size w w':=by
 exact G0
theorem WH(w:World):Calls prog 58 #[.int .i64 18] w fun e w'=>e=.returned (.tuple #[Ee (A3 18),.bool true])/\Below w.heap.size w w':=by
 exact G0
theorem WI(w:World):Calls prog 58 #[.int .i64 19] w fun e w'=>e=.returned (.tuple #[Ee (A3 19),.bool true])/\Below w.heap.size w w':=by
 exact G0
theorem WJ(w:World):Calls prog 58 #[.int .i64 20] w fun e w'=>e=.returned (.tuple #[Ee (A3 20),.bool true])/\Below w.heap.size w w':=by
 exact G0
theorem WK(w:World):Calls prog 58 #[.int .i64 21] w fun e w'=>e=.returned (.tuple #[Ee (A3 21),.bool true])/\Below w.heap.size w w':=by
 exact G0
theorem X9(w:World):Calls prog 53 #[.int .i64 1] w fun e w'=>e=.returned (.tuple #[.string ⟨#[110,45,45,45,45]⟩,.bool true])/\w'=w:=by
 exact G1
theorem Xa(w:World):Calls prog 53 #[.int .i64 2] w fun e w'=>e=.returned (.tuple #[.string ⟨#[119,45,45,45,105]⟩,.bool true])/\w'=w:=by
 exact G1
theorem Xb(w:World):Calls prog 53 #[.int .i64 3] w fun e w'=>e=.returned (.tuple #[.string ⟨#[97,99,45,45,45]⟩,.bool true])/\w'=w:=by
 exact G1
theorem Xc(w:World):Calls prog 53 #[.int .i64 4] w fun e w'=>e=.returned (.tuple #[.string ⟨#[100,120,120,45,45]⟩,.bool true])/\w'=w:=by
 exact G1
theorem Xd(w:World):Calls prog 53 #[.int .i64 5] w fun e w'=>e=.returned (.tuple #[.string ⟨#[100,120,120,45,45]⟩,.bool true])/\w'=w:=by
 exact G1
theorem Xe(w:World):Calls prog 53 #[.int .i64 6] w fun e w'=>e=.returned (.tuple #[.string ⟨#[100,120,120,45,45]⟩,.bool true])/\w'=w:=by
 exact G1
theorem Xf(w:World):Calls prog 53 #[.int .i64 7] w fun e w'=>e=.returned (.tuple #[.string ⟨#[100,120,120,45,45]⟩,.bool true])/\w'=w:=by
 exact G1
theorem Xg(w:World):Calls prog 53 #[.int .i64 8] w fun e w'=>e=.returned (.tuple #[.string ⟨#[100,120,120,45,45]⟩,.bool true])/\w'=w:=by
 exact G1
theorem Xh(w:World):Calls prog 53 #[.int .i64 9] w fun e w'=>e=.returned (.tuple #[.string ⟨#[100,120,120,45,45]⟩,.bool true])/\w'=w:=by
 exact G1
theorem RT(w:World):Calls prog 53 #[.int .i64 10] w fun e w'=>e=.returned (.tuple #[.string ⟨#[100,120,120,45,45]⟩,.bool true])/\w'=w:=by
 exact G1
theorem RU(w:World):Calls prog 53 #[.int .i64 11] w fun e w'=>e=.returned (.tuple #[.string ⟨#[100,120,45,45,45]⟩,.bool true])/\w'=w:=by
 exact G1
theorem RV(w:World):Calls prog 53 #[.int .i64 12] w fun e w'=>e=.returned (.tuple #[.string ⟨#[100,120,45,45,45]⟩,.bool true])/\w'=w:=by
 exact G1
theorem I8{k:IntKind}{a b:Int}(h:a=b):Ending.returned (.int k a)=.returned (.int k b):=by rw[h]
theorem ZI(a:Int)(h0:0<=a)(h1:a<4294967296)(w:World):
 Calls prog 117 #[.int .i64 a] w fun e w'=>e=.returned (.bool (nan a))/\w'=w:=by
 go_enter func117,ntmps117;go_wp2;go_ret;exact⟨rfl,rfl⟩
theorem FH(a:Int)(h0:0<=a)(h1:a<4294967296)(w:World):
 Calls prog 97 #[.int .i64 a] w fun e w'=>e=.returned (.int .i64 (Ae a))/\w'=w:=by
 cases hn:nan a
 .have hc:Ae a=a:=by unfold Ae;simp[hn]
  exact Zeh
 .have hc:Ae a=2143289344:=by unfold Ae;simp[hn]
  exact Zeh
def RP:Option Nat->Int
 |some r=>r
 |none=>2143289344
def DK(a b:Int):Int:=RP (Ieee.single.add a.toNat b.toNat)
def Ok(a b:Int):Int:=RP (Ieee.single.sub a.toNat b.toNat)
def Fc(a b:Int):Int:=RP (Ieee.single.mul a.toNat b.toNat)
def GS(a b:Int):Int:=RP (Ieee.single.div a.toNat b.toNat)
def E6(a:Int):Int:=RP (Ieee.single.sqrt a.toNat)
def DF(n:Int):Int:=(Ieee.single.nearest (decide (n<0)) n.natAbs 0:Nat)
def JW(a:Int):Int:=Ae (if 2147483648<=a then a-2147483648 else a+2147483648)
def YN(a:Int):Int:=Ae (a%2147483648)
def Zt(a b:Int):Option Ordering:=Ieee.single.order a.toNat b.toNat
def Jm(a b:Int):Int:=match Zt a b with
 |none=>2143289344
 |some .lt=>a
 |some .gt=>b
 |some .eq=>if 2147483648<=a then a else b
def JV(a b:Int):Int:=match Zt a b with
 |none=>2143289344
 |some .lt=>b
 |some .gt=>a
 |some .eq=>if 2147483648<=a then b else a
def JU(a b:Int):Bool:=Zt a b==some .lt
def feq(a b:Int):Bool:=Zt a b==some .eq
def ffin(a:Int):Bool:=decide (a%2147483648<2139095040)
def N9(c a b:Int):Int:=if nan c||c%2147483648==0 then Ae b else Ae a
theorem rg_wd(s:Bool)(r:Nat):rg (wd s r)=min r 2139095040:=by
 unfold rg wd;split<;>omega
theorem UI(d:Ieee.Datum)(h:d.isNaN=false):rg (Ieee.single.write d)<=2139095040:=by
 cases d with
 |number s m e=>show rg (Ieee.single.nearest s m e)<=_;rw[BJ,Ip,rg_wd];omega
 |infinity s=>show rg (wd s 2139095040)<=_;rw[rg_wd];omega
 |nan s t=>simp[Ieee.Datum.isNaN]at h
theorem Sy{d e f:Ieee.Datum}(h:d.sum e=some f):f.isNaN=false:=by
 cases d<;>cases e<;>simp[Ieee.Datum.sum]at h<;>first|(subst h;rfl)|(obtain⟨_,rfl⟩:=h;rfl)
theorem Wn{d e f:Ieee.Datum}(h:d.product e=some f):f.isNaN=false:=by
 cases d<;>cases e<;>simp[Ieee.Datum.product]at h<;>first|(subst h;rfl)|(obtain⟨_,rfl⟩:=h;rfl)
theorem Wo{k:Nat}{d e f:Ieee.Datum}(h:d.quotient k e=some f):f.isNaN=false:=by
 cases d<;>cases e<;>simp[Ieee.Datum.quotient]at h
 .split at h
  .split at h
   .cases h
   .cases h;rfl
  .cases h;rfl
 .subst h;rfl
 .subst h;rfl
theorem Ww{k:Nat}{d f:Ieee.Datum}(h:d.root k=some f):f.isNaN=false:=by
 cases d<;>simp[Ieee.Datum.root]at h
 .split at h
  .cases h;rfl
  .split at h
   .cases h
   .simp only[Option.some.injEq]at h;subst h;rfl
 .obtain⟨-,rfl⟩:=h;rfl
theorem Hw{o:Option Ieee.Datum}{r:Nat}(h:o.map Ieee.single.write=some r)(k:∀f,o=some f->f.isNaN=false):rg r<=2139095040/\r<4294967296:=by
 have lt:=Ieee.single.map_write_lt h;cases o with
 |none=>simp at h
 |some d=>simp only[Option.map_some,Option.some.injEq]at h;subst h;exact⟨UI d (k d rfl),lt⟩
theorem R9{x y r:Nat}(h:Ieee.single.add x y=some r):rg r<=2139095040/\r<4294967296:=Hw h fun _ q=>Sy q
theorem Sx{x y r:Nat}(h:Ieee.single.sub x y=some r):rg r<=2139095040/\r<4294967296:=Hw h fun _ q=>Sy q
theorem RE{x y r:Nat}(h:Ieee.single.mul x y=some r):rg r<=2139095040/\r<4294967296:=Hw h fun _ q=>Wn q
theorem Rp{x y r:Nat}(h:Ieee.single.div x y=some r):rg r<=2139095040/\r<4294967296:=Hw h fun _ q=>Wo q
theorem P3{x r:Nat}(h:Ieee.single.sqrt x=some r):rg r<=2139095040/\r<4294967296:=Hw h fun _ q=>Ww q
theorem Zg(r:Nat):nan (r:Int)=decide (2139095040<rg r):=by unfold nan rg;rw[decide_eq_decide];omega
theorem Iz{r:Nat}(h:rg r<=2139095040):Ae (r:Int)=r:=by
 unfold Ae;rw[Zg];simp;omega
section
variable {P : Program} (w : World)
end
theorem Km(o:Option Nat)(h:∀r,o=some r->r<4294967296):0<=RP o/\RP o<4294967296:=by
 cases o with
 |none=>decide
 |some r=>have:=h r rfl;show 0<=(r:Int)/\(r:Int)<_;omega
theorem MZ(a b:Int):0<=DK a b/\DK a b<4294967296:=Km _ fun _ h=>(R9 h).2
theorem YS(a b:Int):0<=Ok a b/\Ok a b<4294967296:=Km _ fun _ h=>(Sx h).2
theorem DV(a b:Int):0<=Fc a b/\Fc a b<4294967296:=Km _ fun _ h=>(RE h).2
theorem YO(a b:Int):0<=GS a b/\GS a b<4294967296:=Km _ fun _ h=>(Rp h).2
theorem VD(a:Int):0<=E6 a/\E6 a<4294967296:=Km _ fun _ h=>(P3 h).2
theorem J7(n:Nat)(h:n<2^31):n^^^2^31=2^31+n:=by
 apply Nat.eq_of_testBit_eq;intro i;rw[Nat.testBit_xor,Nat.testBit_two_pow];rcases Nat.lt_trichotomy i 31 with c|c|c
 .rw[Nat.testBit_two_pow_add_gt c,decide_eq_false (show¬ (31=i) by omega),Bool.xor_false]
 .subst c;rw[Nat.testBit_two_pow_add_eq];simp
 .have e1:n.testBit i=false:=Nat.testBit_lt_two_pow (Nat.lt_of_lt_of_le h (Nat.pow_le_pow_right dE oM));have e2:(2^31+n).testBit i=false:=Nat.testBit_lt_two_pow (Nat.lt_of_lt_of_le (show 2^31+n<2^32 by omega) (Nat.pow_le_pow_right dE oM));rw[e1,e2,decide_eq_false (show¬ (31=i) by omega),Bool.xor_false]
theorem Y3(a:Int)(h0:0<=a)(h1:a<4294967296):bits .xor .u32 a 2147483648=if 2147483648<=a then a-2147483648 else a+2147483648:=by
 rw[u32_xor a _ h0 h1 dE dE,show(2147483648:Int).toNat=2^31 from rfl];by_cases c:2147483648<=a
 .rw[if_pos c];have e:=J7 (a.toNat-2^31) oM;rw[show 2^31+(a.toNat-2^31)=a.toNat by omega]at e;rw[<-e,Nat.xor_assoc,Nat.xor_self,Nat.xor_zero];omega
 .rw[if_neg c,J7 _ oM];omega
theorem Vu(n:Int):0<=DF n/\DF n<4294967296:=⟨Int.natCast_nonneg _,by have:=Ieee.single.write_lt (.number (decide (n<0)) n.natAbs 0);exact Int.ofNat_lt.2 this⟩
section
variable {P : Program} (w : World)
end
theorem OM(a:Nat)(ha:rg a<2139095040)(hs:ng a=false)(h0:mg a≠0):
 ∃r,Ieee.single.sqrt a=some (wd false r)/\J1 23 (mv a*2^149) r:=by
 unfold Ieee.Format.sqrt;rw[CO a ha,hs];simp only[Ieee.Datum.root,if_neg h0,Bool.false_eq_true,if_false,Option.map_some,Ieee.Format.write];rw[BJ,Dn,BV];have hl:(mg a).log2<=23:=by
  have:(mg a).log2<24:=(Nat.log2_lt h0).2 (VW a);omega
 generalize hi:(-149+(te a:Int))=i;generalize hm1:2*(23+2)-(mg a).log2=more1;generalize hmore:more1+((i-(more1:Int))%2).toNat=more;have hpar:(i-(more:Int))%2=0:=oM;have hmo:27<=more/\more<=51:=oM;generalize hn:mg a<<<more=n at *;have hlo:2^(mg a).log2<=mg a:=Nat.log2_self_le h0;have hn50:2^50<=n:=by
  rw[<-hn,Nat.shiftLeft_eq]
  calc 2^50<=2^((mg a).log2+more):=Nat.pow_le_pow_right dE oM
   _=2^(mg a).log2*2^more:=Nat.pow_add ..
   _<=mg a*2^more:=Nat.mul_le_mul_right _ hlo
 have hrt:=IJ n (n.log2/2+1) 0 oM (by
  have:n<2^(n.log2+1):=Nat.lt_log2_self;rw[Nat.zero_add,<-Nat.pow_add]
  exact Nat.lt_of_lt_of_le this (Nat.pow_le_pow_right dE oM))
 generalize Ieee.Datum.rootFrom n (n.log2/2+1) 0=w at *;have hw:2^24<=w:=by
  rcases Nat.lt_or_ge w (2^24)with c|c
  .exfalso;have:=Nat.mul_self_le_mul_self (show w+1<=2^24 from c);have e:(2:Nat)^24*2^24<2^50:=dE;omega
  .exact c
 have big:23+2<=(2*w+(w*w != n).toNat).log2:=by
  apply(Nat.le_log2 oM).2;omega
 refine⟨_,rfl,?_⟩;obtain⟨x,hx⟩:∃x:Nat,(x:Int)=(i-(more:Int))/2+149:=⟨((i-(more:Int))/2+149).toNat,oM⟩
 have hnr:=Mc 23 (-149) w n ((i-(more:Int))/2-1) dE hrt.1 hrt.2 big x oM;have e:n*(2^x*2^x)=mv a*2^149:=by
  rw[J6,<-hn,Nat.shiftLeft_eq,<-Nat.pow_add,Nat.mul_assoc,Nat.mul_assoc,<-Nat.pow_add,<-Nat.pow_add];congr 2;omega
 rw[e]at hnr;exact hnr
section
variable {P : Program} (w : World)
end
theorem EP(a b:Int):compare a b=if a<b then .lt else if a=b then .eq else .gt:=rfl
theorem PF{a b:Int}(h:a<b):compare a b=.lt:=by rw[EP,if_pos h]
theorem PD{a b:Int}(h:a=b):compare a b=.eq:=by rw[EP,if_neg oM,if_pos h]
theorem PE{a b:Int}(h:b<a):compare a b=.gt:=by rw[EP,if_neg oM,if_neg oM]
theorem T6(a b p:Int)(hp:0<p):compare (a*p) (b*p)=compare a b:=by
 rw[EP,EP];have h1:a*p<b*p↔a<b:=Int.mul_lt_mul_right hp;have h2:a*p=b*p↔a=b:=⟨fun h=>Int.eq_of_mul_eq_mul_right oM h,fun h=>by rw[h]⟩
 simp only[h1,h2]
theorem Ng{x:Nat}(h:rg x=2139095040):mv x=V 23 2139095040:=by unfold mv;rw[h]
theorem mv_fin{x:Nat}(h:rg x<2139095040):mv x<V 23 2139095040:=Iu 23 h
theorem XO{x:Nat}(h:rg x<2139095040): -(V 23 2139095040:Int)<sv x/\sv x<(V 23 2139095040:Int):=by
 have:=mv_fin h;unfold sv sg;split<;>omega
theorem Wi(x y:Nat):Ieee.single.order x y=if 2139095040<rg x\/2139095040<rg y then none else some (compare (sv x) (sv y)):=by
 unfold Ieee.Format.order;have hV:0<V 23 2139095040:=by have:=Iu 23 (show 0<2139095040 by decide);omega
 rcases Nat.lt_trichotomy (rg x) 2139095040 with c|c|c
 .rcases Nat.lt_trichotomy (rg y) 2139095040 with d|d|d
  .rw[CO x c,CO y d,if_neg oM];simp only[Ieee.Datum.order];have hm:min (-149+(te x:Int)) (-149+(te y:Int))= -149+((min (te x) (te y):Nat):Int):=oM;rw[hm];have e1:(-149+(te x:Int)-(-149+((min (te x) (te y):Nat):Int))).toNat=te x-min (te x) (te y):=oM;have e2:(-149+(te y:Int)-(-149+((min (te x) (te y):Nat):Int))).toNat=te y-min (te x) (te y):=oM;rw[e1,e2];generalize hc:min (te x) (te y)=m;have s1:Ieee.signed (ng x) (mg x) (te x-m)*(2:Int)^m=sv x:=by
    rw[KV,show te x-m+m=te x by omega,<-J6];rfl
   have s2:Ieee.signed (ng y) (mg y) (te y-m)*(2:Int)^m=sv y:=by
    rw[KV,show te y-m+m=te y by omega,<-J6];rfl
   rw[<-s1,<-s2,T6 _ _ _ (Int.pow_pos dE)]
  .rw[CO x c,EI y d,if_neg oM];simp only[Ieee.Datum.order];have h:=XO c;have e:sv y=sg (ng y) (V 23 2139095040):=by unfold sv;rw[Ng d]
   rw[e,EP];cases ng y
   .rw[if_neg dE,if_pos Zgy]
   .rw[if_pos rfl,if_neg Zgy,if_neg Zgy]
  .rw[EJ y d,CO x c,if_pos (Or.inr d)];rfl
 .rcases Nat.lt_trichotomy (rg y) 2139095040 with d|d|d
  .rw[EI x c,CO y d,if_neg oM];simp only[Ieee.Datum.order];have h:=XO d;have e:sv x=sg (ng x) (V 23 2139095040):=by unfold sv;rw[Ng c]
   rw[e,EP];cases ng x
   .rw[if_neg dE,if_neg Zgy,if_neg Zgy]
   .rw[if_pos rfl,if_pos Zgy]
  .rw[EI x c,EI y d,if_neg oM];simp only[Ieee.Datum.order];have e1:sv x=sg (ng x) (V 23 2139095040):=by unfold sv;rw[Ng c]
   have e2:sv y=sg (ng y) (V 23 2139095040):=by unfold sv;rw[Ng d]
   rw[e1,e2,EP];cases ng x<;>cases ng y
   .rw[if_neg oM,if_pos rfl];rfl
   .rw[if_neg Zgk,if_neg Zgk];rfl
   .rw[if_pos Zgk];rfl
   .rw[if_neg oM,if_pos rfl];rfl
  .rw[EJ y d,EI x c,if_pos (Or.inr d)];rfl
 .rw[EJ x c,if_pos (Or.inl c)];cases Ieee.single.read y<;>rfl
theorem CP(a:Int)(h0:0<=a):(rg a.toNat:Int)=a%2147483648:=by unfold rg;omega
theorem Kf(a:Int)(h0:0<=a):nan a=decide (2139095040<rg a.toNat):=by
 unfold nan;rw[decide_eq_decide];have:=CP a h0;omega
theorem Kn(a b:Int)(h0:0<=a)(g0:0<=b):Zt a b=if nan a=true\/nan b=true then none else some (compare (sv a.toNat) (sv b.toNat)):=by
 unfold Zt;rw[Wi,Kf a h0,Kf b g0];simp only[decide_eq_true_eq]
theorem Tj(a b:Int)(h0:0<=a)(g0:0<=b):JU a b=true↔nan a=false/\nan b=false/\sv a.toNat<sv b.toNat:=by
 unfold JU;rw[Kn a b h0 g0];by_cases hn:nan a=true\/nan b=true
 .rw[if_pos hn];simp;intro k1 k2;simp[k1,k2]at hn
 .rw[if_neg hn];have hn':nan a=false/\nan b=false:=by simpa using hn
  rcases Int.lt_trichotomy (sv a.toNat) (sv b.toNat)with c|c|c
  .rw[PF c];simp[hn',c]
  .rw[PD c];simp;omega
  .rw[PE c];simp;omega
theorem sv_inj{x y:Nat}(h:sv x=sv y):rg x=rg y/\(ng x=ng y\/rg x=0):=by
 have hz:∀z,mv z=0->rg z=0:=by
  intro z hz;unfold mv at hz;rw[<-MM 23]at hz;exact UT 23 hz
 have Bb:mv x=mv y/\(ng x=ng y\/mv x=0):=by
  unfold sv sg at h;cases hx:ng x<;>cases hy:ng y<;>rw[hx,hy]at h<;>simp only[if_true,if_false,Bool.false_eq_true]at h
  .exact⟨oM,Or.inl rfl⟩
  .exact⟨oM,Or.inr oM⟩
  .exact⟨oM,Or.inr oM⟩
  .exact⟨oM,Or.inl rfl⟩
 refine⟨UT 23 Bb.1,?_⟩;rcases Bb.2 with e|e
 .exact Or.inl e
 .exact Or.inr (hz x e)
theorem F0(a:Int)(h0:0<=a)(h1:a<4294967296):a=(if ng a.toNat then 2147483648 else 0)+(rg a.toNat:Int):=by
 unfold ng rg;by_cases c:2147483648<=a
 .have:a.toNat/2147483648%2=1:=oM;simp[this];omega
 .have:a.toNat/2147483648%2=0:=oM;simp[this];omega
theorem Zy{a b:Int}(h0:0<=a)(h1:a<4294967296)(g0:0<=b)(g1:b<4294967296)(hr:rg a.toNat=rg b.toNat)(hs:ng a.toNat=ng b.toNat):a=b:=by
 rw[F0 a h0 h1,F0 b g0 g1,hr,hs]
theorem Qk(a:Int)(h0:0<=a)(h1:a<4294967296):ng a.toNat=decide (2147483648<=a):=by
 unfold ng;by_cases c:2147483648<=a<;>simp[c]<;>omega
theorem XN(d e:Ieee.Datum):d.sum e=e.sum d:=by
 cases d<;>cases e<;>simp only[Ieee.Datum.sum]
 .rename_i s m i t n j;rw[Int.min_comm j i,Int.add_comm (Ieee.signed t n _),Bool.and_comm]
 .rename_i s t;by_cases h:s=t
  .rw[if_pos h,if_pos h.symm,h]
  .rw[if_neg h,if_neg (fun k=>h k.symm)]
theorem LM(a b:Int):DK a b=DK b a:=by unfold DK Ieee.Format.add;rw[XN]
def N7(a:Nat):Nat:=if 2147483648<=a then a-2147483648 else a+2147483648
theorem RS(a:Nat)(h:a<4294967296):rg (N7 a)=rg a:=by unfold rg N7;split<;>omega
theorem Zj(a:Nat)(h:a<4294967296):ng (N7 a)= !ng a:=by
 unfold ng N7;split
 .rename_i c;have e1:a/2147483648%2=1:=oM;have e2:(a-2147483648)/2147483648%2=0:=oM;simp[e1,e2]
 .rename_i c;have e1:a/2147483648%2=0:=oM;have e2:(a+2147483648)/2147483648%2=1:=oM;rw[e1,e2];rfl
theorem TR(a:Nat)(h:a<4294967296):Ieee.single.read (N7 a)=(Ieee.single.read a).opposite:=by
 rw[Eb,Eb,RS a h,Zj a h];split
 .rfl
 .split
  .rfl
  .split<;>rfl
theorem Oi(a:Int)(h0:0<=a)(h1:a<4294967296)(hn:nan a=false):JW a=(N7 a.toNat:Nat):=by
 unfold JW N7;have e:(if 2147483648<=a then a-2147483648 else a+2147483648)=((if 2147483648<=a.toNat then a.toNat-2147483648 else a.toNat+2147483648:Nat):Int):=by
  by_cases c:2147483648<=a
  .rw[if_pos c,if_pos oM];omega
  .rw[if_neg c,if_neg oM];omega
 rw[e];apply Iz;have:=RS a.toNat oM;unfold N7 at this;rw[this];rw[Kf a h0]at hn;simpa using hn
theorem Oh(a:Int)(h0:0<=a)(h1:a<4294967296)(hn:nan a=true):JW a=2143289344:=by
 unfold JW Ae;rw[Ni]at hn;have:nan (if 2147483648<=a then a-2147483648 else a+2147483648)=true:=by
  rw[Ni];split<;>omega
 rw[if_pos this]
theorem Rs(a:Int)(h0:0<=a)(h1:a<4294967296):0<=JW a/\JW a<4294967296:=by
 have h:0<=(if 2147483648<=a then a-2147483648 else a+2147483648)/\(if 2147483648<=a then a-2147483648 else a+2147483648)<4294967296:=by split<;>omega
 exact Fa _ h.1 h.2

theorem H7(a:Int)(k:Nat)(hk:k<64)(h0:0<=a)(h1:a<18446744073709551616):bits .and .u64 a ((2^k-1:Nat):Int)=a%((2^k:Nat):Int):=by
 have hp:2^k<2^64:=Nat.pow_lt_pow_right oM hk;have hq:0<2^k:=Nat.two_pow_pos k;obtain⟨n,rfl⟩:=Int.eq_ofNat_of_zero_le h0;rw[u64_and _ _ h0 h1 oM oM,Int.toNat_natCast,Int.toNat_natCast,Nat.and_two_pow_sub_one_eq_mod];rfl
theorem Yo(a:Int)(h0:0<=a)(h1:a<18446744073709551616):bits .and .u64 a 255=a%256:=H7 a 8 dE h0 h1
theorem UY(a:Int)(h0:0<=a)(h1:a<18446744073709551616):bits .and .u64 a 8388607=a%8388608:=H7 a 23 dE h0 h1
def Bc(a:Int):Bool:=a/2147483648==1
def nM(a:Int):Int:=if a/8388608%256=255 then 0 else if a/8388608%256=0 then a%8388608 else 8388608+a%8388608
def nE(a:Int):Int:=if a/8388608%256=255 then 0 else if a/8388608%256=0 then -149 else a/8388608%256-150
def E9(a:Int):Bool:=if a/8388608%256=255 then a%8388608==0 else false
def C5(a:Int):Bool:=if a/8388608%256=255 then a%8388608 != 0 else false
theorem Dw(a:Int)(h0:0<=a)(h1:a<4294967296)(w:World):
 Calls prog 115 #[.int .i64 a] w fun e w'=>e=.returned (.agg #[.bool (Bc a),.int .u64 (nM a),.int .i64 (nE a),.bool (E9 a),.bool (C5 a)])/\∃o,w'=(w.alloc o).alloc o:=by
 have e1:=Yo (a/8388608) oM oM;have e2:=UY a h0 oM;by_cases c:a/8388608%256=255
 .have f1:nM a=0:=by unfold nM;rw[if_pos c]
  have f2:nE a=0:=by unfold nE;rw[if_pos c]
  have f3:E9 a=(a%8388608==0):=by unfold E9;rw[if_pos c]
  have f4:C5 a=(a%8388608 != 0):=by unfold C5;rw[if_pos c]
  exact Zdh
 .by_cases c2:a/8388608%256=0
  .have f1:nM a=a%8388608:=by unfold nM;rw[if_neg c,if_pos c2]
   have f2:nE a= -149:=by unfold nE;rw[if_neg c,if_pos c2]
   have f3:E9 a=false:=by unfold E9;rw[if_neg c]
   have f4:C5 a=false:=by unfold C5;rw[if_neg c]
   exact Zdh
  .have f1:nM a=8388608+a%8388608:=by unfold nM;rw[if_neg c,if_neg c2]
   have f2:nE a=a/8388608%256-150:=by unfold nE;rw[if_neg c,if_neg c2]
   have f3:E9 a=false:=by unfold E9;rw[if_neg c]
   have f4:C5 a=false:=by unfold C5;rw[if_neg c]
   exact Zdh
def Ig(s:Bool):Int:=if s then 2147483648 else 0
theorem QP(s:Bool):0<=Ig s/\Ig s<=2147483648:=by unfold Ig;split<;>decide
theorem GN(s:Bool)(w:World):
 Calls prog 133 #[.bool s] w fun e w'=>e=.returned (.int .u64 (Ig s))/\w'=w:=by
 cases s
 all_goals(
  go_enter func133,ntmps133;go_wp2;go_ret
  exact⟨rfl,rfl⟩)
theorem DR(s:Bool)(w:World):
 Calls prog 131 #[.bool s] w fun e w'=>e=.returned (.int .i64 (Ig s))/\w'=w:=by
 have hl:=QP s;go_enter func131,ntmps131;go_wp2_with(go_at_call 133;refine(GN _ _).mono ?_;rintro e w' ⟨rfl,rfl⟩);go_ret;exact⟨rfl,rfl⟩
theorem EK(s:Bool)(w:World):
 Calls prog 130 #[.bool s] w fun e w'=>e=.returned (.int .i64 (Ig s+2139095040))/\w'=w:=by
 have hl:=QP s;go_enter func130,ntmps130;go_wp2_with(go_at_call 133;refine(GN _ _).mono ?_;rintro e w' ⟨rfl,rfl⟩);go_ret;exact⟨rfl,rfl⟩
def Dy(n:Nat):Nat:=if n=0 then 0 else n.log2+1
theorem SS(n:Nat)(h:n≠0):Dy n=Dy (n/2)+1:=by
 unfold Dy;rw[if_neg h];by_cases c:n/2=0
 .rw[if_pos c];have:n=1:=oM;subst this;decide
 .rw[if_neg c,Nat.log2_def n,if_pos oM]
theorem FN(m:Int)(h0:0<=m)(h1:m<18446744073709551616)(w:World):
 Calls prog 120 #[.int .u64 m] w fun e w'=>e=.returned (.int .i64 (Dy m.toNat))/\w'=w:=by
 have hb:Dy m.toNat<=64:=by
  unfold Dy;split
  .omega
  .rename_i c;have:m.toNat.log2<64:=(Nat.log2_lt c).2 oM;omega
 generalize hB:Dy m.toNat=B at *;have HB:Hid (Dy m.toNat=B):=hB;clear hB;go_enter func120,ntmps120;go_wp2;go_loop [0,3] (fun mv nv=>∃ (x:Int) (k:Nat),0<=x/\x<=m/\mv=.int .u64 x/\nv=.int .i64 k/\k+Dy x.toNat=B) (fun mv _=>(intOf mv).toNat)
 case atStart=>exact⟨m,0,h0,Int.le_refl _,rfl,rfl,by rw[HB.out];omega⟩
 case round=>
  obtain⟨x,k,hx0,hx1,rfl,rfl,hk⟩:=hrel;have HK:Hid (k+Dy x.toNat=B):=hk;by_cases hz:x=0
  .have:k=B:=by rw[<-hk,hz];rfl
   subst this;clear hk HK HB;subst hz;go_wp2;go_ret;exact⟨rfl,rfl⟩
  .have hs:=SS x.toNat oM;have HS:Hid (Dy x.toNat=Dy (x.toNat/2)+1):=hs;have hkB:k<=63:=oM;clear hs hk;go_wp2;go_round
   case rel=>exact⟨x/2,k+1,oM,oM,rfl,gN,by rw[show(x/2).toNat=x.toNat/2 by omega];have:=HK.out;have:=HS.out;omega⟩
   case measure=>simp[intOf];omega
theorem MU(neg:Bool)(n drop:Nat):Ieee.Toward.even.cut neg n drop=n/2^drop+(if 2^drop<2*(n%2^drop)\/(2^drop=2*(n%2^drop)/\n/2^drop%2=1)then 1 else 0):=by
 have Bb:∀g l r:Nat,l+(decide (g<2*r)||g==2*r&&l%2==1).toNat=l+(if g<2*r\/(g=2*r/\l%2=1)then 1 else 0):=by
  intro g l r;by_cases c1:g<2*r
  .simp[c1]
  .by_cases c2:g=2*r
   .by_cases c3:l%2=1<;>simp[c2,c3]
   .simp[c1,c2]
 unfold Ieee.Toward.cut;simp only[Nat.one_shiftLeft];rcases Nat.lt_or_ge (n.log2+2) drop with c|c
 .rw[Nat.min_eq_right oM];have h1:n<2^(n.log2+1):=Nat.lt_log2_self;have h2:2^(n.log2+2)=2*2^(n.log2+1):=by rw[Nat.pow_succ];omega
  have h3:2^(n.log2+2)<=2^drop:=Nat.pow_le_pow_right oM oM;rw[Bb,Nat.div_eq_of_lt oM,Nat.mod_eq_of_lt oM,Nat.div_eq_of_lt oM,Nat.mod_eq_of_lt (show n<2^drop by omega)];rw[if_neg oM,if_neg oM]
 .rw[Nat.min_eq_left oM,Bb]
theorem YF(m:Int)(h0:0<=m)(d:Nat)(hd:1<=d):((Ieee.Toward.even.cut false m.toNat d:Nat):Int)=if(2:Int)^(d-1)<m%2^d\/(m%2^d=2^(d-1)/\m/2^d%2=1)then m/2^d+1 else m/2^d:=by
 obtain⟨n,rfl⟩:=Int.eq_ofNat_of_zero_le h0;rw[MU,Int.toNat_natCast];have hG:2^d=2*2^(d-1):=by
  obtain⟨e,rfl⟩:∃e,d=e+1:=⟨d-1,oM⟩
  rw[Nat.add_sub_cancel,Nat.pow_succ,Nat.mul_comm]
 have e1:((n:Int)/2^d)=((n/2^d:Nat):Int):=by push_cast;rfl
 have e2:((n:Int)%2^d)=((n%2^d:Nat):Int):=by push_cast;rfl
 have e3:(2:Int)^(d-1)=((2^(d-1):Nat):Int):=by push_cast;rfl
 rw[e1,e2,e3];generalize n/2^d=q;generalize n%2^d=r;rw[hG];generalize 2^(d-1)=H;by_cases c:2*H<2*r\/(2*H=2*r/\q%2=1)
 .rw[if_pos c,if_pos oM];omega
 .rw[if_neg c,if_neg oM];omega
theorem OJ(m:Int)(h0:0<=m)(h1:m<18446744073709551616)(d:Nat)(g0:1<=d)(g1:d<64)(w:World):
 Calls prog 132 #[.int .u64 m,.int .i64 d] w fun e w'=>e=.returned (.int .u64 (Ieee.Toward.even.cut false m.toNat d:Nat))/\w'=w:=by
 rw[YF m h0 d g0];have hG:(2:Int)^d=2*2^(d-1):=by
  obtain⟨e,rfl⟩:∃e,d=e+1:=⟨d-1,oM⟩
  rw[Nat.add_sub_cancel,Int.pow_succ,Int.mul_comm]
 have hle:(2:Int)^d<=9223372036854775808:=by
  have h:2^d<=9223372036854775808:=gH (Nat.pow_le_pow_right dE (show d<=63 by omega)) dE;have h':((2^d:Nat):Int)<=((9223372036854775808:Nat):Int):=Int.ofNat_le.2 h;rw[Int.natCast_pow]at h';exact h'
 have hH:(1:Int)<=2^(d-1):=Int.pow_pos dE;have f1:IntKind.u64.wrap ((2:Int)^d)=2^d:=by rw[IntKind.wrap_u64];omega
 have f4:IntKind.u64.wrap ((2:Int)^(d-1))=2^(d-1):=by rw[IntKind.wrap_u64];omega
 have f3:bits .and .u64 m ((2:Int)^d-1)=m%2^d:=by
  have:=H7 m d g1 h0 h1;have e:((2^d-1:Nat):Int)=(2:Int)^d-1:=by
   rw[Int.ofNat_sub (Nat.two_pow_pos d)];push_cast;rfl
  rw[e]at this;rw[this];push_cast;rfl
 have hr0:0<=m%2^d:=Int.emod_nonneg _ oM;have hr1:m%2^d<2^d:=Int.emod_lt_of_pos _ oM;have hq0:0<=m/2^d:=Int.ediv_nonneg h0 oM;have hq1:m/2^d<=9223372036854775807:=by
  have h2:m/2^d<=m/2:=by
   have:(2:Int)∣2^d:=⟨2^(d-1),hG⟩
   rw[hG,<-Int.ediv_ediv_of_nonneg dE];exact Int.ediv_le_self _ oM
  omega
 have f5:IntKind.u64.wrap ((2:Int)^d-1)=2^d-1:=by rw[IntKind.wrap_u64];omega
 generalize hr:m%2^d=r at *;generalize hq:m/2^d=q at *;generalize hHH:(2:Int)^(d-1)=H at *;generalize hGG:(2:Int)^d=G at *;have hG1:1<=G:=oM;clear hr hG;by_cases c1:H<r
 .rw[if_pos (Or.inl c1)];exact Zcc
 .by_cases c2:r=H
  .by_cases c3:q%2=1
   .rw[if_pos (Or.inr ⟨c2,c3⟩)];exact Zcc
   .rw[if_neg oM];exact Zcc
  .rw[if_neg oM];exact Zcc
theorem Jc(m:Int)(h0:0<=m)(h1:m<18446744073709551616)(d:Int)(g0:1<=d)(g1:d<100000)(w:World):
 Calls prog 132 #[.int .u64 m,.int .i64 d] w fun e w'=>e=.returned (.int .u64 (Ieee.Toward.even.cut false m.toNat d.toNat:Nat))/\w'=w:=by
 rcases Int.lt_trichotomy d 64 with c|c|c
 .have:=OJ m h0 h1 d.toNat oM oM w;rwa[Int.toNat_of_nonneg oM]at this
 .subst c;have hv:((Ieee.Toward.even.cut false m.toNat (64:Int).toNat:Nat):Int)=if 9223372036854775808<m then 1 else 0:=by
   rw[MU,show(64:Int).toNat=64 from rfl,show(2:Nat)^64=18446744073709551616 from rfl,Nat.div_eq_of_lt oM,Nat.mod_eq_of_lt oM];by_cases c:9223372036854775808<m
   .rw[if_pos c,if_pos oM];rfl
   .rw[if_neg c,if_neg oM];rfl
  rw[hv];clear hv;by_cases c:9223372036854775808<m
  .rw[if_pos c];exact Zcc
  .rw[if_neg c];by_cases c2:m=9223372036854775808
   .subst c2;exact Zcc
   .exact Zcc
 .have hv:((Ieee.Toward.even.cut false m.toNat d.toNat:Nat):Int)=0:=by
   have hp:2^65<=2^d.toNat:=Nat.pow_le_pow_right dE oM;have h65:(2:Nat)^65=36893488147419103232:=rfl;rw[MU,Nat.div_eq_of_lt oM,Nat.mod_eq_of_lt oM,if_neg oM];rfl
  rw[hv];clear hv;exact Zcc
theorem Pd(s:Bool)(r:Nat):((wd s r:Nat):Int)=Ig s+min (r:Int) 2139095040:=by
 unfold wd Ig;cases s
 .simp only[if_false,Bool.false_eq_true];omega
 .simp only[if_true];omega
theorem Lw(s:Bool)(m:Nat)(e:Int)(h0:m≠0):∃ (U:Int) (k:Nat),U=max (e+(Dy m:Int)-24) (-149)/\
 ((Ieee.single.nearest s m e:Nat):Int)=Ig s+min ((U+149)*8388608+k) 2139095040/\k<=16777216/\(U= -149\/8388608<=k)/\
 k=Ieee.Toward.even.cut false (m*2^(e-U).toNat) (U-e).toNat/\(U<=e->(k:Int)=(m:Int)*2^(e-U).toNat):=by
 have hb:(Dy m:Int)-24=m.log2-23:=by unfold Dy;rw[if_neg h0];omega
 have hn:=BJ Ieee.single s m e;rw[Ip,Dn,BV]at hn;refine⟨max (e+(Dy m:Int)-24) (-149),Ieee.Toward.even.cut false (m*2^(e-max (e+(Dy m:Int)-24) (-149)).toNat) (max (e+(Dy m:Int)-24) (-149)-e).toNat,rfl,?_⟩;have hU:max (e+(Dy m:Int)-24) (-149)=max (e+m.log2-((23:Nat):Int)) (-149):=oM;rw[hU];generalize hUU:max (e+m.log2-((23:Nat):Int)) (-149)=U at *;have hr:CF 23 (-149) m e=(U-(-149)).toNat*2^23+Ieee.Toward.even.cut false (m*2^(e-U).toNat) (U-e).toNat:=by
  unfold CF;rw[if_neg h0,Nat.shiftLeft_eq,hUU]
 have hcut:=O0 false (m*2^(e-U).toNat) (U-e).toNat;generalize hk:Ieee.Toward.even.cut false (m*2^(e-U).toNat) (U-e).toNat=k at *;have hlo:2^m.log2<=m:=Nat.log2_self_le h0;have hhi:m<2^(m.log2+1):=Nat.lt_log2_self;have hcs:=hcut.scale 0 0 (U-e).toNat rfl;rw[Nat.pow_zero,Nat.mul_one]at hcs;have lo:U= -149\/2^23*2^(U-e).toNat<=m*2^(e-U).toNat:=by
  rcases(show U= -149\/U=e+m.log2-23 by omega)with c|c
  .exact Or.inl c
  .right
   calc 2^23*2^(U-e).toNat=2^m.log2*2^(e-U).toNat:=by rw[<-Nat.pow_add,<-Nat.pow_add];congr 1;omega
    _<=m*2^(e-U).toNat:=Nat.mul_le_mul_right _ hlo
 have hi:m*2^(e-U).toNat<2*2^23*2^(U-e).toNat:=by
  calc m*2^(e-U).toNat<2^(m.log2+1)*2^(e-U).toNat:=Nat.mul_lt_mul_of_pos_right hhi (Nat.two_pow_pos _)
   _=2^(m.log2+1+(e-U).toNat):=(Nat.pow_add ..).symm
   _<=2^(24+(U-e).toNat):=Nat.pow_le_pow_right dE oM
   _=2*2^23*2^(U-e).toNat:=by rw[Nat.pow_add]
 have up:=hcut.up;have dn:=hcut.dn;simp only[Nat.mul_one]at up dn;have hT:0<2^(U-e).toNat:=Nat.two_pow_pos _;have hkle:k<=16777216:=by
  rcases Nat.lt_or_ge 16777216 k with c|c
  .exfalso;have:(2*16777217)*2^(U-e).toNat<=2*k*2^(U-e).toNat:=Nat.mul_le_mul_right _ oM;generalize 2^(U-e).toNat=T at *;generalize m*2^(e-U).toNat=X at *;omega
  .exact c
 have hkge:U= -149\/8388608<=k:=by
  rcases lo with c|c
  .exact Or.inl c
  .right;rcases Nat.lt_or_ge k 8388608 with d|d
   .exfalso;have:(2*k+1)*2^(U-e).toNat<=16777215*2^(U-e).toNat:=Nat.mul_le_mul_right _ oM;generalize 2^(U-e).toNat=T at *;generalize m*2^(e-U).toNat=X at *;omega
   .exact d
 refine⟨?_,hkle,hkge,rfl,?_⟩
 .rw[hn,hr,Pd];rw[Int.natCast_add,Int.natCast_mul,Int.toNat_of_nonneg oM];omega
 .intro l;rw[show(U-e).toNat=0 by omega]at hcut;have up:=hcut.up;have dn:=hcut.dn;have ue:=hcut.ue;have de:=hcut.de;have:k=m*2^(e-U).toNat:=by
   generalize m*2^(e-U).toNat=X at *;simp only[Nat.pow_zero,Nat.mul_one]at ue de up dn;omega
  rw[this];push_cast;rfl
theorem BY(s:Bool)(m:Int)(h0:0<=m)(h1:m<18446744073709551616)(e:Int)(e0: -10000<=e)(e1:e<=10000)(w:World):
 Calls prog 122 #[.bool s,.int .u64 m,.int .i64 e] w fun x w'=>x=.returned (.int .i64 (Ieee.single.nearest s m.toNat e:Nat))/\w'=w:=by
 have hs:=QP s;by_cases hz:m=0
 .subst hz;have hv:((Ieee.single.nearest s (0:Int).toNat e:Nat):Int)=Ig s:=by
   show((Ieee.single.nearest s 0 e:Nat):Int)=Ig s;exact Zfn
  rw[hv];clear hv;go_enter func122,ntmps122;go_wp2_with(go_at_call 131;refine(DR _ _).mono ?_;rintro e w' ⟨rfl,rfl⟩);go_ret;exact⟨rfl,rfl⟩
 .obtain⟨U,k,hU,hv,hk1,hk2,hk3,hk4⟩:=Lw s m.toNat e oM;rw[hv];clear hv;have hB:1<=Dy m.toNat/\Dy m.toNat<=64:=by
   unfold Dy;rw[if_neg oM];have:m.toNat.log2<64:=(Nat.log2_lt oM).2 oM;omega
  generalize hBB:Dy m.toNat=B at *;have fh:e<U->((Ieee.Toward.even.cut false m.toNat (U-e).toNat:Nat):Int)=k:=by
   intro l;rw[hk3,show(e-U).toNat=0 by omega,Nat.pow_zero,Nat.mul_one]
  have fq:U<=e->IntKind.u64.wrap (m*2^(-(U-e)).toNat)=k:=by
   intro l;have:=hk4 l;rw[show(-(U-e)).toNat=(e-U).toNat by omega,show m=(m.toNat:Int) by omega,<-this,IntKind.wrap_u64];omega
  clear hk3 hk4;have hUr: -149<=U/\U<=20000:=oM;have hK0:0<=(k:Int)/\(k:Int)<=16777216/\(U= -149\/8388608<=(k:Int)):=oM;clear hk1 hk2;generalize hKK:(k:Int)=K at *;clear hKK;generalize hT:min ((U+149)*8388608+K) 2139095040=T;have cases:(K=16777216/\U<104/\T=(U+151)*8388608)\/(K=16777216/\104<=U/\T=2139095040)\/(U= -149/\K<8388608/\T=K)\/
   (8388608<=K/\K<16777216/\U<105/\T=(U+149)*8388608+K)\/(8388608<=K/\K<16777216/\105<=U/\T=2139095040):=oM
  clear hT;by_cases hu: -149>e+(B:Int)-24
  .have hU':U= -149:=oM;clear hU;subst hU';clear hUr;by_cases hsh: -149<=e
   .have fq':=fq hsh;exact Zbu
   .have fh':=fh oM;exact Zbu
  .have hu2:e+(B:Int)-24=U:=oM;clear hU;by_cases hsh:U<=e
   .have fq':=fq hsh;exact Zbt
   .have fh':=fh oM;exact Zbt
def Bl:Wk->List Ab->Wk
 |s,[]=>s
 |s,i::r=>Bl (Ad s i) r
def AQ(c:Cd):Wk->List Ab->Bool
 |_,[]=>true
 |s,i::r=>Al c s i&&AQ c (Ad s i) r
theorem CQ:∀ (l m:List Ab) (s:Wk),Bl s (l++m)=Bl (Bl s l) m
 |[],m,s=>rfl
 |i::l,m,s=>by simp only[List.cons_append,Bl];exact CQ l m _
theorem BF(c:Cd):∀ (l m:List Ab) (s:Wk),AQ c s (l++m)=(AQ c s l&&AQ c (Bl s l) m)
 |[],m,s=>by simp[AQ,Bl]
 |i::l,m,s=>by simp only[List.cons_append,AQ,Bl,BF c l m,Bool.and_assoc]
theorem VE{c:Cd}:∀ {l:List Ab} {s:Wk} {k:Nat},(Lr c s k l).1=0↔AQ c s l=true/\(Bl s l).opens.isEmpty=true
 |[],s,k=>by
  simp only[Lr,AQ,Bl,true_and];by_cases h:s.opens.isEmpty=true
  .simp[h]
  .simp[h]
 |i::l,s,k=>by
  simp only[Lr,AQ,Bl,Bool.and_eq_true];by_cases h:Al c s i=true
  .rw[if_pos h,VE (k:=k+1)];simp[h]
  .rw[if_neg h];simp[h]
theorem Jf(c:Cd)(x:List Ab):∀ (l:List Ab) (s:Wk),AQ ⟨c.sign,c.regs,c.slots,x⟩ s l=AQ c s l
 |[],s=>rfl
 |i::l,s=>by simp only[AQ,Jf c x l];rfl
theorem Di{c:Cd}:(Ax c).1=0↔Cm c=0/\AQ c ⟨[],[]⟩ c.list=true/\(Bl ⟨[],[]⟩ c.list).opens.isEmpty=true:=by
 unfold Ax;by_cases h:Cm c=0
 .rw[if_neg (by simp[h]),VE];simp[h]
 .rw[if_pos h];simp[h]
def Jo(S:List Nat)(i:Ab):List Nat:=if(A3 i.op).d≠0/\i.d.toNat∉S then S++[i.d.toNat]else S
theorem Qn:∀ {r:List Bk} {n:Nat},okO n r->∀b∈r,b.ahead<=n
 |[],_,_,b,hb=>absurd hb sM
 |a::r,n,h,b,hb=>by
  rcases List.mem_cons.1 hb with rfl|hb
  .exact h.1
  .exact gH (Qn h.2 b hb) h.1
theorem LF{s:Wk}{i:Ab}(h:(A3 i.op).d=0):CE s i (A3 i.op)=s:=by unfold CE;rw[if_neg (fun e=>e.1 h)]
theorem Rv{S:List Nat}{i:Ab}{x:Nat}:x∈Jo S i↔x∈S\/((A3 i.op).d≠0/\x=i.d.toNat):=by
 unfold Jo;by_cases h:(A3 i.op).d≠0/\i.d.toNat∉S
 .rw[if_pos h,List.mem_append];simp only[List.mem_singleton];exact⟨fun q=>q.imp id fun e=>⟨h.1,e⟩,fun q=>q.imp id fun e=>e.2⟩
 .rw[if_neg h];constructor
  .exact .inl
  .rintro(q|⟨q1,q2⟩)
   .exact q
   .rw[q2];exact Decidable.byContradiction fun e=>h ⟨q1,e⟩
def dn(o:Option Nat):Nat:=match o with
 |some _=>0
 |none=>1
section
variable {P : Program} (w : World)
end
section
variable (w : World) (n : Nat)
@[go_sem] theorem alloc_drewN (o:Obj):(w.drewN n).alloc o=(w.alloc o).drewN n:=rfl
@[go_sem] theorem setCell_drewN (a:Addr) (v:Value):(w.drewN n).setCell a v=(w.setCell a v).drewN n:=rfl
end
theorem IC{w:World}{a:Addr}{v:Value}(h:w.cell? a=some v):a.block<w.heap.size:=by
 rcases Nat.lt_or_ge a.block w.heap.size with c|c
 .exact c
 .have:w.heap[a.block]? =none:=Array.getElem?_eq_none c;simp[World.cell?,this]at h
theorem Qg(w:World)(o:Obj):Below w.heap.size w (w.alloc o):=(Below.refl _ _).alloc (gF _) o
section
variable {w : World} {cs : List (Addr × Value)} {g : Nat} {x y : Value} {v v' : World}
end
def Be(w:World)(p:Option Addr)(n:Nat)(X:Nat->Value):Prop:=n=0\/∃b o,p=some ⟨b,o,none⟩/\∀i,i<n->w.cell? ⟨b,o+i,none⟩=some (X i)
theorem Be.below{w w':World}{p:Option Addr}{n:Nat}{X:Nat->Value}(h:Be w p n X)(k:Below w.heap.size w w'):Be w' p n X:=by
 rcases h with h|⟨b,o,e,h⟩
 .exact .inl h
 .exact .inr ⟨b,o,e,fun i hi=>(k.cell (IC (h i hi))).trans (h i hi)⟩
theorem Be.congr{w:World}{p:Option Addr}{n:Nat}{X Y:Nat->Value}(h:Be w p n X)(e:∀i,i<n->X i=Y i):Be w p n Y:=by
 rcases h with h|⟨b,o,q,h⟩
 .exact .inl h
 .exact .inr ⟨b,o,q,fun i hi=>by rw[h i hi,e i hi]⟩

def nums(X:Nat->Int)(n:Nat):List Value:=(List.range n).map fun i=>.int .u32 (X i)
section
open Go.Maps (Keyed)
def Ow(k:Nat):Lit:=.int .i64 (k:Int)
theorem VS{a b:Nat}(h:Ow a=Ow b):a=b:=by
 unfold Ow at h;simp only[Lit.int.injEq,true_and]at h;omega
theorem YW:Keyed prog 3:=Maps.int_keyed underlying3
theorem Ka{k:Nat}(h:k<=4611686018427387904):keyOf prog 3 (.int .i64 (k:Int))=some (Ow k):=
 Maps.keyOf_int_mk underlying3 (by
  have h1:IntKind.i64.min<=(0:Int):=dE;have h2:(4611686018427387904:Int)<=IntKind.i64.max:=dE;simp only[Lit.wf,Bool.and_eq_true,decide_eq_true_eq]
  omega)
theorem isKeyI(k:Nat):WideAt.IsKeyLit (Ow k):=by unfold Ow;simp[WideAt.IsKeyLit]
end
structure Rk where
 by_:Ab
 of_:Ty
 deriving DecidableEq
structure RW where
 ins:Nat->Nat
 hold:Rk->Option Nat
 reck:List Rk
 opn:List Nat
 left:List Ab
def Ag(i:Ab):Bool:=decide ((A3 i.op).d≠0)
def D9(l:List Ab)(r:Nat):Bool:=(l.filter fun i=>Ag i&&decide (i.d.toNat=r)).length==1
def A4(s:RW)(i:Ab):Ab:=
 {i with a:=if(A3 i.op).a=0 then i.a else(s.ins i.a.toNat:Int),b:=if(A3 i.op).b=0 then i.b else(s.ins i.b.toNat:Int),c:=if(A3 i.op).c=0 then i.c else(s.ins i.c.toNat:Int)}
def FZ(l:List Ab)(i:Ab):Bool:=Ag i&&(D9 l i.d.toNat&&(Ac i (A3 i.op)).all fun r=>D9 l r.toNat)
def Lo(c:Cd)(i:Ab):Rk:=⟨{i with d:=0},A5 c.regs i.d⟩
def Du(c:Cd)(s:RW)(i:Ab):Option Nat:=
 if FZ c.list i then
  if i.op=3 then(if A5 c.regs i.a=A5 c.regs i.d then some i.a.toNat else none)else s.hold (Lo c i)
 else none
def O1(s:RW)(k:Nat):RW:={s with hold:=fun r=>if r∈s.reck.drop k then none else s.hold r,reck:=s.reck.take k}
def Hb(s:RW):RW:={O1 s (s.opn.getLastD 0)with opn:=s.opn.dropLast}
def B4(c:Cd)(s:RW)(i:Ab):RW:=
 if i.op=34 then{s with left:=s.left++[i],opn:=s.opn++[s.reck.length]}
 else if i.op=35 then Hb {s with left:=s.left++[i]}
 else if(i.op≠32/\i.op≠3)/\FZ c.list i then{s with left:=s.left++[i],hold:=fun r=>if r=Lo c i then some i.d.toNat else s.hold r,reck:=s.reck++[Lo c i]}
 else{s with left:=s.left++[i]}
def Mw(c:Cd)(s:RW)(i:Ab):RW:=
 match Du c s (A4 s i)with
 |some r=>{s with ins:=fun k=>if k=i.d.toNat then r else s.ins k}
 |none=>B4 c s (A4 s i)
def IQ:RW:=⟨id,fun _=>none,[],[],[]⟩
def Qx(c:Cd):List Ab:=(c.list.foldl (Mw c) IQ).left
def Nv(c:Cd):Cd:={c with list:=Qx c}
inductive R5(ins:Nat->Nat)(hold:Rk->Option Nat):List Nat->List Nat->List Rk->List Bk->List Bk->List Nat->Prop where
 |nil {X X':List Nat} {K:List Rk}:R5 ins hold X X' K [] [] []
 |loop {X X':List Nat} {K:List Rk} {o o':List Bk} {k:List Nat} {p:Int} {a a':Nat} (h:R5 ins hold X X' K o o' k):R5 ins hold X X' K (⟨true,p,a⟩::o) (⟨true,p,a'⟩::o') k
 |when {X X':List Nat} {K:List Rk} {o o':List Bk} {k:List Nat} {p:Int} {a a' m:Nat} (h1:a<=X.length) (h2:a'<=X'.length) (h3:m<=K.length) (h4:∀r∈X.take a,ins r∈X'.take a') (h5:∀q∈K.take m,∃g,hold q=some g/\g∈X'.take a')
  (h:R5 ins hold (X.take a) (X'.take a') (K.take m) o o' k):R5 ins hold X X' K (⟨false,p,a⟩::o) (⟨false,p,a'⟩::o') (k++[m])
theorem R5.grow{ins ins2:Nat->Nat}{hold hold2:Rk->Option Nat}{X X':List Nat}{K:List Rk}{o o':List Bk}{k:List Nat}(h:R5 ins hold X X' K o o' k):∀ (Y Y':List Nat) (J:List Rk),(∀r∈X,ins2 r=ins r)->(∀q∈K,hold2 q=hold q)->R5 ins2 hold2 (X++Y) (X'++Y') (K++J) o o' k:=by
 induction h with
 |nil=>exact fun _ _ _ _ _=>.nil
 |loop h ih=>exact fun Y Y' J hi hh=>.loop (ih Y Y' J hi hh)
 |@when X1 X1' K1 o1 o1' k1 p1 a1 a1' m1 h1 h2 h3 h4 h5 h ih=>
  intro Y Y' J hi hh;have hi':∀r∈X1.take a1,ins2 r=ins r:=fun r hr=>hi r (List.mem_of_mem_take hr);have hh':∀q∈K1.take m1,hold2 q=hold q:=fun q hq=>hh q (List.mem_of_mem_take hq);have h6:=ih [] [] [] hi' hh';simp only[List.append_nil]at h6;refine .when sO sO sO ?_ ?_ ?_
  .rw[List.take_append_of_le_length h1,List.take_append_of_le_length h2];exact fun r hr=>by rw[hi' r hr];exact h4 r hr
  .rw[List.take_append_of_le_length h3,List.take_append_of_le_length h2];exact fun q hq=>by rw[hh' q hq];exact h5 q hq
  .rw[List.take_append_of_le_length h1,List.take_append_of_le_length h2,List.take_append_of_le_length h3];exact h6
theorem R5.len{ins:Nat->Nat}{hold:Rk->Option Nat}{X X':List Nat}{K:List Rk}{o o':List Bk}{k:List Nat}(h:R5 ins hold X X' K o o' k):o.length=o'.length:=by
 induction h with
 |nil=>rfl
 |loop h ih=>simp[ih]
 |when h1 h2 h3 h4 h5 h ih=>simp[ih]
theorem R5.inner{ins:Nat->Nat}{hold:Rk->Option Nat}{X X':List Nat}{K:List Rk}{o o':List Bk}{k:List Nat}(h:R5 ins hold X X' K o o' k)(U V:List Nat):Am ⟨U,o⟩=Am ⟨V,o'⟩/\BI ⟨U,o⟩=BI ⟨V,o'⟩/\o.isEmpty=o'.isEmpty:=by
 cases h<;>exact⟨rfl,rfl,rfl⟩
structure F2(c:Cd)(L:List Ab)(s:RW)(x x':Wk):Prop where
 ty:∀r,r<c.regs.length->s.ins r<c.regs.length/\A5 c.regs (s.ins r:Int)=A5 c.regs (r:Int)
 set:∀r∈x.set,s.ins r∈x'.set
 was:∀r∈x.set,∃i∈L,Ag i=true/\i.d.toNat=r
 same:∀r,s.ins r=r\/(D9 c.list r=true/\∃i∈L,Ag i=true/\i.d.toNat=r)
 reck:∀k,(s.hold k).isSome=true↔k∈s.reck
 nodup:s.reck.Nodup
 hold:∀k g,s.hold k=some g->g∈x'.set/\g<c.regs.length/\A5 c.regs (g:Int)=k.of_
 opens:R5 s.ins s.hold x.set x'.set s.reck x.opens x'.opens s.opn
theorem F2.start(c:Cd):F2 c [] IQ ⟨[],[]⟩ ⟨[],[]⟩:=
 ⟨fun r h=>⟨h,rfl⟩,fun r h=>Yl,fun r h=>Yl,fun r=>.inl rfl,fun k=>(by simp[IQ]),List.nodup_nil,fun k g h=>Yl,.nil⟩
theorem I7{l:List Ty}{n:Int}(h:0<=n):A5 l n=A5 l (n.toNat:Int):=by rw[Int.toNat_of_nonneg h]
theorem FQ{L R:List Ab}{i:Ab}(hs:Ag i=true)(h:D9 (L++i::R) i.d.toNat=true):∀j∈L,Ag j=true->j.d.toNat≠i.d.toNat:=by
 intro j hj hsj e;unfold D9 at h;simp only[beq_iff_eq,List.filter_append,List.length_append]at h;have h1:0<(L.filter fun q=>Ag q&&decide (q.d.toNat=i.d.toNat)).length:=List.length_pos_iff.2 fun e9=>by
  have:j∈L.filter fun q=>Ag q&&decide (q.d.toNat=i.d.toNat):=List.mem_filter.2 ⟨hj,by simp[hsj,e]⟩;rw[e9]at this;cases this
 have h2:0<((i::R).filter fun q=>Ag q&&decide (q.d.toNat=i.d.toNat)).length:=List.length_pos_iff.2 fun e9=>by
  have:i∈(i::R).filter fun q=>Ag q&&decide (q.d.toNat=i.d.toNat):=List.mem_filter.2 ⟨List.mem_cons_self,by simp[hs]⟩;rw[e9]at this;cases this
 omega
theorem If{i:Ab}(h:Ag i=true):i.op≠34/\i.op≠35/\i.op≠36/\i.op≠37:=by
 unfold Ag at h;simp only[decide_eq_true_eq]at h;refine⟨?_,?_,?_,?_⟩<;>(intro e;rw[e]at h;exact h dE)
theorem Um{s:Wk}{i:Ab}(h:Ag i=true):BC s i=s:=by
 obtain⟨h1,h2,h3,h4⟩:=If h;unfold BC;rw[if_neg oM,if_neg oM]
theorem JS{c:Cd}{ins:Nat->Nat}(ty:∀r,r<c.regs.length->ins r<c.regs.length/\A5 c.regs (ins r:Int)=A5 c.regs (r:Int)){l n:Int}{m:Ty}(h:Ah c.regs l n m=true):Ah c.regs l (if l=0 then n else(ins n.toNat:Int)) m=true:=by
 by_cases hl:l=0
 .rw[if_pos hl];exact h
 .rw[if_neg hl];obtain⟨h0,h1⟩:=Af h hl;obtain⟨t1,t2⟩:=ty n.toNat oM;unfold Ah at h |-;rw[if_neg hl]at h |-;simp only[Bool.and_eq_true]at h |-;rw[t2,<-I7 h0];exact⟨Bq.2 ⟨oM,oM⟩,h.2⟩
theorem VU{c:Cd}{s:RW}(ty:∀r,r<c.regs.length->s.ins r<c.regs.length/\A5 c.regs (s.ins r:Int)=A5 c.regs (r:Int)){i:Ab}(h:AO c i (A3 i.op)=true):Aj c.regs (A4 s i) (A3 i.op)=Aj c.regs i (A3 i.op):=by
 unfold Aj Cx A4;simp only;by_cases hd:(A3 i.op).d=0
 .rw[if_pos hd,if_pos hd];by_cases ha:(A3 i.op).a=0
  .rw[if_pos ha]
  .rw[if_neg ha];obtain⟨h0,h1⟩:=Af (BN h) ha;rw[(ty i.a.toNat oM).2,<-I7 h0]
 .rw[if_neg hd,if_neg hd]
theorem IS{c:Cd}{L:List Ab}{s:RW}{x x':Wk}(h:F2 c L s x x'){i:Ab}(t:Al c x i=true):Al c x' (A4 s i)=true:=by
 obtain⟨t1,t2,t3,t4⟩:=Aq t;have hm:=VU h.ty t2;have hop:(A4 s i).op=i.op:=rfl;unfold Al;rw[hop];simp only[Bool.and_eq_true];refine⟨t1,?_,?_,?_⟩
 .unfold AO at t2 |-;rw[hm];simp only[Bool.and_eq_true]at t2 |-;obtain⟨f1,f2,f3,f4,f5⟩:=t2;exact⟨f1,JS h.ty f2,JS h.ty f3,JS h.ty f4,f5⟩
 .obtain⟨q1,q2,q3⟩:=h.opens.inner x.set x'.set;have q4:=h.opens.len;unfold Ai at t3 |-;have e1:Am x'=Am x:=q1.symm;have e2:BI x'=BI x:=q2.symm;rw[hop,hm,e1,e2,<-q3,<-q4];exact t3
 .unfold D4 Ac at t4 |-;rw[List.all_eq_true]at t4 |-;intro n hn;simp only[List.mem_append]at hn t4;have Bb:∀m:Int,(m=i.a/\(A3 i.op).a≠0\/m=i.b/\(A3 i.op).b≠0\/m=i.c/\(A3 i.op).c≠0)->s.ins m.toNat∈x'.set:=fun m hm'=>h.set _ (by
   have:=t4 m (by
    rcases hm' with⟨rfl,q⟩|⟨rfl,q⟩|⟨rfl,q⟩
    .exact .inl UM
    .exact .inr (.inl UM)
    .exact .inr (.inr UM))
   simpa using this)
  simp only[decide_eq_true_eq];unfold A4 at hn;simp only at hn;rcases hn with hn|hn|hn
  .by_cases q:(A3 i.op).a=0
   .rw[if_pos q]at hn;cases hn
   .rw[if_neg q,if_neg q]at hn;simp at hn;subst hn;exact Bb i.a (.inl ⟨rfl,q⟩)
  .by_cases q:(A3 i.op).b=0
   .rw[if_pos q]at hn;cases hn
   .rw[if_neg q,if_neg q]at hn;simp at hn;subst hn;exact Bb i.b (.inr (.inl ⟨rfl,q⟩))
  .by_cases q:(A3 i.op).c=0
   .rw[if_pos q]at hn;cases hn
   .rw[if_neg q,if_neg q]at hn;simp at hn;subst hn;exact Bb i.c (.inr (.inr ⟨rfl,q⟩))
theorem ED{c:Cd}{s:RW}{i:Ab}{g:Nat}(h:Du c s i=some g):FZ c.list i=true:=by
 unfold Du at h;split at h
 .assumption
 .cases h
theorem BZ{l:List Ab}{i:Ab}(h:FZ l i=true):Ag i=true/\D9 l i.d.toNat=true/\∀r∈Ac i (A3 i.op),D9 l r.toNat=true:=by
 unfold FZ at h;simp only[Bool.and_eq_true,List.all_eq_true]at h;exact h
theorem RI{c:Cd}{L R:List Ab}{s:RW}{x x':Wk}{i:Ab}(h:F2 c L s x x')(hl:c.list=L++i::R)(hs:Ag i=true)(hst:D9 c.list i.d.toNat=true):i.d.toNat∉x.set:=fun hm=>by
 obtain⟨j,hj,h1,h2⟩:=h.was _ hm;rw[hl]at hst;exact FQ hs hst j hj h1 h2
theorem IL{c:Cd}{x:Wk}{i:Ab}(t:Al c x i=true)(hs:Ag i=true):0<=i.d/\i.d<(c.regs.length:Int):=by
 obtain⟨_,t2,_,_⟩:=Aq t;unfold Ag at hs;exact Af (D8 t2) (by simpa using hs)
theorem Mt{x:Wk}{i:Ab}(hs:Ag i=true):Ad x i=CE x i (A3 i.op):=by
 unfold Ad CN;rw[Um hs]
theorem VJ{c:Cd}{L:List Ab}{s:RW}{x x':Wk}{i:Ab}(h:F2 c L s x x')(t:Al c x i=true){g:Nat}(hh:Du c s (A4 s i)=some g):g∈x'.set/\g<c.regs.length/\A5 c.regs (g:Int)=A5 c.regs i.d:=by
 have hw:=ED hh;obtain⟨t1,t2,t3,t4⟩:=Aq t;unfold Du at hh;rw[if_pos hw]at hh;by_cases h3:(A4 s i).op=3
 .rw[if_pos h3]at hh;have h3':i.op=3:=h3;have ha:(A3 i.op).a≠0:=by rw[h3'];decide
  have ea:(A4 s i).a=(s.ins i.a.toNat:Int):=by unfold A4;simp only;rw[if_neg ha]
  obtain⟨a0,a1⟩:=Af (BN t2) ha;obtain⟨q1,q2⟩:=h.ty i.a.toNat oM;rw[ea]at hh;split at hh
  .rename_i e;simp only[Int.toNat_natCast,Option.some.injEq]at hh;subst hh;refine⟨h.set _ ?_,q1,e⟩;unfold D4 Ac at t4;rw[List.all_eq_true]at t4;have:=t4 i.a (by rw[if_neg ha];simp);simpa using this
  .cases hh
 .rw[if_neg h3]at hh;exact h.hold _ _ hh
theorem Tq{c:Cd}{L R:List Ab}{s:RW}{x x':Wk}{i:Ab}(h:F2 c L s x x')(hl:c.list=L++i::R)(t:Al c x i=true){g:Nat}(hh:Du c s (A4 s i)=some g):
 F2 c (L++[i]) {s with ins:=fun k=>if k=i.d.toNat then g else s.ins k} (Ad x i) x':=by
 obtain⟨w1,w2,w3⟩:=BZ (ED hh);have w1':Ag i=true:=w1;have w2':D9 c.list i.d.toNat=true:=w2;obtain⟨g1,g2,g3⟩:=VJ h t hh;have hn:=RI h hl w1' w2';obtain⟨d0,d1⟩:=IL t w1';have hst:Ad x i=⟨x.set++[i.d.toNat],x.opens⟩:=by
  rw[Mt w1'];unfold CE;rw[if_pos ⟨by unfold Ag at w1';simpa using w1',hn⟩]
 rw[hst];have hne:∀r∈x.set,(if r=i.d.toNat then g else s.ins r)=s.ins r:=fun r hr=>if_neg (fun e:r=i.d.toNat=>hn (by rw[<-e];exact hr));refine⟨fun r hr=>?_,fun r hr=>?_,fun r hr=>?_,fun r=>?_,h.reck,h.nodup,h.hold,?_⟩
 .simp only;by_cases e:r=i.d.toNat
  .rw[if_pos e,e];exact⟨g2,by rw[g3,I7 d0]⟩
  .rw[if_neg e];exact h.ty r hr
 .simp only at hr |-;rcases List.mem_append.1 hr with hr|hr
  .rw[hne r hr];exact h.set r hr
  .simp at hr;rw[if_pos hr];exact g1
 .simp only at hr;rcases List.mem_append.1 hr with hr|hr
  .obtain⟨j,hj,q⟩:=h.was r hr;exact⟨j,List.mem_append.2 (.inl hj),q⟩
  .simp at hr;exact⟨i,sM,w1',hr.symm⟩
 .simp only;by_cases e:r=i.d.toNat
  .exact .inr ⟨by rw[e];exact w2',i,sM,w1',e.symm⟩
  .rw[if_neg e];rcases h.same r with q|⟨q,j,hj,k⟩
   .exact .inl q
   .exact .inr ⟨q,j,List.mem_append.2 (.inl hj),k⟩
 .have:=h.opens.grow (ins2:=fun k=>if k=i.d.toNat then g else s.ins k) (hold2:=s.hold) [i.d.toNat] [] [] hne (fun _ _=>rfl);simpa using this
theorem Uw(c:Cd)(s:RW)(i:Ab):(B4 c s i).left=s.left++[i]/\(B4 c s i).ins=s.ins:=by
 unfold B4 Hb O1;split
 .exact⟨rfl,rfl⟩
 .split
  .exact⟨rfl,rfl⟩
  .split<;>exact⟨rfl,rfl⟩
theorem F2.more{c:Cd}{L:List Ab}{s:RW}{x x':Wk}(h:F2 c L s x x')(i:Ab):(∀r∈x.set,∃j∈L++[i],Ag j=true/\j.d.toNat=r)/\∀r,s.ins r=r\/(D9 c.list r=true/\∃j∈L++[i],Ag j=true/\j.d.toNat=r):=
 ⟨fun r hr=>by obtain⟨j,hj,q⟩:=h.was r hr;exact⟨j,List.mem_append.2 (.inl hj),q⟩,fun r=>by
  rcases h.same r with q|⟨q,j,hj,k⟩
  .exact .inl q
  .exact .inr ⟨q,j,List.mem_append.2 (.inl hj),k⟩⟩
theorem Nm{s:Wk}{i:Ab}(h:Ag i=false):CE s i (A3 i.op)=s:=by
 unfold CE;rw[if_neg];unfold Ag at h;simp only[decide_eq_false_iff_not,Decidable.not_not]at h;exact fun e=>e.1 h
theorem Lg{α:Type}{l:List α}{m:Nat}{x:α}(hn:l.Nodup)(h:x∈l.take m):x∉l.drop m:=fun k=>by
 rw[<-List.take_append_drop m l,List.nodup_append]at hn;exact hn.2.2 x h x k rfl
theorem Mz{s:Wk}{i:Ab}(e:i.op=34):BC s i=⟨s.set,⟨false,i.n,s.set.length⟩::s.opens⟩:=by
 unfold BC;rw[if_pos (.inl e)];have b:(i.op==36)=false:=by rw[e];decide
 rw[b]
theorem My{s:Wk}{i:Ab}(e:i.op=36):BC s i=⟨s.set,⟨true,i.n,s.set.length⟩::s.opens⟩:=by
 unfold BC;rw[if_pos (.inr e)];have b:(i.op==36)=true:=by rw[e];decide
 rw[b]
theorem FV{s:Wk}{i:Ab}(e:i.op=35\/i.op=37):BC s i=AG s:=by
 unfold BC;rw[if_neg oM,if_pos e]
theorem Ms(c:Cd)(s:RW){i:Ab}(e:i.op=34):B4 c s i={s with left:=s.left++[i],opn:=s.opn++[s.reck.length]}:=by unfold B4;rw[if_pos e]
theorem P6(c:Cd)(s:RW){i:Ab}(e:i.op=35):B4 c s i=Hb {s with left:=s.left++[i]}:=by unfold B4;rw[if_neg oM,if_pos e]
theorem TC{c:Cd}{L:List Ab}{s:RW}{x x':Wk}{i i':Ab}(h:F2 c L s x x')(t:Al c x i=true)(e1:i'.op=i.op)(e2:i'.n=i.n)(ho:i.op=34\/i.op=35\/i.op=36\/i.op=37):
 F2 c (L++[i]) (B4 c s i') (Ad x i) (Ad x' i'):=by
 have hns:Ag i=false:=by
  unfold Ag;rcases ho with e|e|e|e<;>(rw[e];decide)
 have hns':Ag i'=false:=by unfold Ag at hns |-;rw[e1];exact hns
 obtain⟨m1,m2⟩:=h.more i;have hsx:Ad x i=BC x i:=by unfold Ad CN;exact Nm hns
 have hsx':Ad x' i'=BC x' i':=by unfold Ad CN;exact Nm hns'
 rw[hsx,hsx'];obtain⟨-,-,t3,-⟩:=Aq t;rcases ho with e|e|e|e
 .rw[Mz e,Mz (e1.trans e),Ms c s (e1.trans e),e2];refine⟨h.ty,h.set,m1,m2,h.reck,h.nodup,h.hold,.when (gF _) (gF _) (gF _) ?_ ?_ ?_⟩
  .rw[List.take_length,List.take_length];exact h.set
  .rw[List.take_length,List.take_length];intro q hq;obtain⟨g,hg⟩:=Option.isSome_iff_exists.1 ((h.reck q).2 hq);exact⟨g,hg,(h.hold q g hg).1⟩
  .rw[List.take_length,List.take_length,List.take_length];exact h.opens
 .rw[FV (.inl e),FV (.inl (e1.trans e)),P6 c s (e1.trans e)];unfold Ai at t3;rw[if_neg oM,if_pos e]at t3;simp only[Bool.and_eq_true,Bool.not_eq_true']at t3;obtain⟨X,O⟩:=x;obtain⟨X',O'⟩:=x';have ho:=h.opens;simp only at ho t3;obtain⟨ins,hold,reck,opn,left⟩:=s;simp only at ho;cases ho with
  |nil=>simp at t3
  |loop h9=>simp[Am]at t3
  |@when _ _ _ o o' k p a a' m h1 h2 h3 h4 h5 h6=>
   have hl1:(k++[m]).getLastD 0=m:=sM;have hl2:(k++[m]).dropLast=k:=sM;unfold AG Hb O1;simp only[hl1,hl2,Bool.false_eq_true,if_false];have hnd:reck.Nodup:=h.nodup;have hk2:∀q∈reck.take m,(if q∈reck.drop m then none else hold q)=hold q:=fun q hq=>if_neg (Lg hnd hq);refine⟨h.ty,h4,fun r hr=>m1 r (List.mem_of_mem_take hr),m2,fun q=>?_,(List.take_sublist _ _).nodup hnd,fun q g hq=>?_,?_⟩
   .simp only;by_cases hd:q∈reck.drop m
    .rw[if_pos hd];simp only[Option.isSome_none,Bool.false_eq_true,false_iff];exact fun hq=>Lg hnd hq hd
    .rw[if_neg hd];rw[h.reck q];show q∈reck↔_;rw[<-List.take_append_drop m reck,List.mem_append];simp only[List.take_append_drop];exact⟨fun w=>w.resolve_right hd,.inl⟩
   .simp only at hq;by_cases hd:q∈reck.drop m
    .rw[if_pos hd]at hq;cases hq
    .rw[if_neg hd]at hq;have hqr:q∈reck:=(h.reck q).1 (by show(hold q).isSome=true;rw[hq];rfl);rw[<-List.take_append_drop m reck,List.mem_append]at hqr;obtain⟨g',hg',hgm⟩:=h5 q (hqr.resolve_right hd);rw[hq]at hg';obtain rfl:=Option.some.inj hg';exact⟨hgm,(h.hold q g hq).2⟩
   .have h7:=h6.grow (ins2:=ins) (hold2:=fun q=>if q∈reck.drop m then none else hold q) [] [] [] (fun _ _=>rfl) hk2;simpa using h7
 .have hst:B4 c s i'={s with left:=s.left++[i']}:=by
   unfold B4;rw[if_neg oM,if_neg oM,if_neg];intro q;have:=(BZ q.2).1;rw[hns']at this;cases this
  rw[hst,My e,My (e1.trans e),e2];exact⟨h.ty,h.set,m1,m2,h.reck,h.nodup,h.hold,.loop h.opens⟩
 .have hst:B4 c s i'={s with left:=s.left++[i']}:=by
   unfold B4;rw[if_neg oM,if_neg oM,if_neg];intro q;have:=(BZ q.2).1;rw[hns']at this;cases this
  rw[hst,FV (.inr e),FV (.inr (e1.trans e))];unfold Ai at t3;rw[if_neg oM,if_neg oM,if_pos e]at t3;obtain⟨X,O⟩:=x;obtain⟨X',O'⟩:=x';have ho:=h.opens;simp only at ho t3;clear hst;obtain⟨ins,hold,reck,opn,left⟩:=s;simp only at ho;cases ho with
  |nil=>simp[Am]at t3
  |loop h9=>exact⟨h.ty,h.set,m1,m2,h.reck,h.nodup,h.hold,h9⟩
  |when h1 h2 h3 h4 h5 h6=>simp[Am]at t3
theorem Mr{c:Cd}{L R:List Ab}{s:RW}{x x':Wk}{i:Ab}(h:F2 c L s x x')(hl:c.list=L++i::R)(t:Al c x i=true)(hh:Du c s (A4 s i)=none):
 F2 c (L++[i]) (B4 c s (A4 s i)) (Ad x i) (Ad x' (A4 s i)):=by
 by_cases ho:i.op=34\/i.op=35\/i.op=36\/i.op=37
 .exact TC h t rfl rfl ho
 have hop:(A4 s i).op=i.op:=rfl;have hdd:(A4 s i).d=i.d:=rfl;have hs':Ag (A4 s i)=Ag i:=rfl;obtain⟨m1,m2⟩:=h.more i;have hsx:Ad x i=CE x i (A3 i.op):=by
  unfold Ad CN BC;rw[if_neg oM,if_neg oM]
 have hsx':Ad x' (A4 s i)=CE x' (A4 s i) (A3 i.op):=by
  unfold Ad CN BC;rw[hop,if_neg oM,if_neg oM]
 rw[hsx,hsx'];cases hs:Ag i with
 |false=>
  have hst:B4 c s (A4 s i)={s with left:=s.left++[A4 s i]}:=by
   unfold B4;rw[if_neg R8,if_neg R8,if_neg];intro q;have:=(BZ q.2).1;rw[hs',hs]at this;cases this
  have na:CE x' (A4 s i) (A3 i.op)=x':=Nm (i:=A4 s i) (by rw[hs'];exact hs);rw[hst,Nm hs,na];exact⟨h.ty,h.set,m1,m2,h.reck,h.nodup,h.hold,h.opens⟩
 |true=>
  obtain⟨d0,d1⟩:=IL t hs;have hd0:(A3 i.op).d≠0:=by unfold Ag at hs;simpa using hs
  have hid:s.ins i.d.toNat=i.d.toNat:=by
   rcases h.same i.d.toNat with q|⟨q,j,hj,k1,k2⟩
   .exact q
   .rw[hl]at q;exact absurd k2 (FQ hs q j hj k1)
  obtain⟨Y,hY,hYm⟩:∃Y,CE x i (A3 i.op)=⟨x.set++Y,x.opens⟩/\∀r∈Y,r=i.d.toNat:=by
   unfold CE;split
   .exact⟨[i.d.toNat],rfl,fun r hr=>by simpa using hr⟩
   .exact⟨[],sM,fun r hr=>by cases hr⟩
  obtain⟨Y',hY',hYm'⟩:∃Y,CE x' (A4 s i) (A3 i.op)=⟨x'.set++Y,x'.opens⟩/\i.d.toNat∈x'.set++Y:=by
   unfold CE;rw[hdd];split
   .exact⟨[i.d.toNat],rfl,sM⟩
   .rename_i q;refine⟨[],sM,?_⟩;rw[List.append_nil];exact Decidable.byContradiction fun e=>q ⟨hd0,e⟩
  rw[hY,hY'];have hset:∀r∈x.set++Y,s.ins r∈x'.set++Y':=fun r hr=>by
   rcases List.mem_append.1 hr with hr|hr
   .exact List.mem_append.2 (.inl (h.set r hr))
   .rw[hYm r hr,hid];exact hYm'
  have hwas:∀r∈x.set++Y,∃j∈L++[i],Ag j=true/\j.d.toNat=r:=fun r hr=>by
   rcases List.mem_append.1 hr with hr|hr
   .exact m1 r hr
   .exact⟨i,sM,hs,(hYm r hr).symm⟩
  by_cases hw:((A4 s i).op≠32/\(A4 s i).op≠3)/\FZ c.list (A4 s i)=true
  .have hst:B4 c s (A4 s i)={s with left:=s.left++[A4 s i],hold:=fun r=>if r=Lo c (A4 s i)then some (A4 s i).d.toNat else s.hold r,reck:=s.reck++[Lo c (A4 s i)]}:=by
    unfold B4;rw[if_neg R8,if_neg R8,if_pos hw]
   have hno:s.hold (Lo c (A4 s i))=none:=by
    unfold Du at hh;rw[if_pos hw.2,if_neg hw.1.2]at hh;exact hh
   have hnr:Lo c (A4 s i)∉s.reck:=fun q=>by
    have:=(h.reck _).2 q;rw[hno]at this;cases this
   rw[hst];refine⟨h.ty,hset,hwas,m2,fun q=>?_,?_,fun q g hq=>?_,?_⟩
   .simp only;by_cases e:q=Lo c (A4 s i)
    .rw[if_pos e];simp[e]
    .rw[if_neg e,h.reck q,List.mem_append];simp[e]
   .rw[List.nodup_append];refine⟨h.nodup,sM,fun a ha b hb=>?_⟩;simp at hb;subst hb;exact fun e=>hnr (e▸ha)
   .simp only at hq;by_cases e:q=Lo c (A4 s i)
    .rw[if_pos e,hdd]at hq;obtain rfl:=Option.some.inj hq;refine⟨hYm',oM,?_⟩;rw[e,<-I7 d0];rfl
    .rw[if_neg e]at hq;obtain⟨q1,q2⟩:=h.hold q g hq;exact⟨List.mem_append.2 (.inl q1),q2⟩
   .exact h.opens.grow Y Y' [Lo c (A4 s i)] (fun _ _=>rfl) (fun q hq=>if_neg (fun e:q=Lo c (A4 s i)=>hnr (e▸hq)))
  .have hst:B4 c s (A4 s i)={s with left:=s.left++[A4 s i]}:=by
    unfold B4;rw[if_neg R8,if_neg R8,if_neg hw]
   rw[hst];refine⟨h.ty,hset,hwas,m2,h.reck,h.nodup,fun q g hq=>?_,?_⟩
   .obtain⟨q1,q2⟩:=h.hold q g hq;exact⟨List.mem_append.2 (.inl q1),q2⟩
   .have:=h.opens.grow (ins2:=s.ins) (hold2:=s.hold) Y Y' [] (fun _ _=>rfl) (fun _ _=>rfl);simpa using this
def Ht(l:List Ab):List Nat:=(l.filter Ag).map fun i=>i.d.toNat
theorem PM(l m:List Ab):Ht (l++m)=Ht l++Ht m:=by unfold Ht;simp
end Go.Proofs.YtpoklpdgpcnkgaaGreat
