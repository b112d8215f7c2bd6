import Derived.Test.YtpoklpdgpcnkgaaGreatAgn2
import Derived.Test.YtpoklpdgpcnkgaaGreatRows
import Derived.WalkKit
import Derived.WalkSpells
import Derived.WalkLawsBesides
import Derived.Test.YtpoklpdgpcnkgaaGreatAgn4
import Derived.Laws.FloatArith
import Derived.Laws.Externs
import Derived.Below
import Derived.Handy
import Derived.Deep.Draws
import Derived.Laws.ComplexArith
import Derived.Deep.RegionHeld3
import Derived.Deep.DeepCutAuto
import Derived.Deep.OwnRows
import Derived.OwnWalk
import Derived.Deep.QuietTactic
import Derived.BigQuiet
import Derived.Deep.AppendLies
import Derived.Maps.OwnSet
import Derived.Maps.OwnOps
import Derived.Maps.Ext
import Derived.Test.YtpoklpdgpcnkgaaGreatAgn1
namespace Go.Proofs.YtpoklpdgpcnkgaaGreat
open Go.RowKit Go.Proofs.Tryz
set_option linter.all false
set_option maxRecDepth 100000
set_option maxHeartbeats 16000000
theorem WA(w:World):Calls prog 58 #[.int .i64 30] w fun e w'=>e=.returned (.tuple #[Ea (A3 30),.bool true])/\Below w.heap.size w w':=by
 exact FQ
theorem WC(w:World):Calls prog 58 #[.int .i64 31] w fun e w'=>e=.returned (.tuple #[Ea (A3 31),.bool true])/\Below w.heap.size w w':=by
 exact FQ
theorem WD(w:World):Calls prog 58 #[.int .i64 32] w fun e w'=>e=.returned (.tuple #[Ea (A3 32),.bool true])/\Below w.heap.size w w':=by
 exact FQ
theorem WF(w:World):Calls prog 58 #[.int .i64 33] w fun e w'=>e=.returned (.tuple #[Ea (A3 33),.bool true])/\Below w.heap.size w w':=by
 exact FQ
theorem WG(w:World):Calls prog 58 #[.int .i64 34] w fun e w'=>e=.returned (.tuple #[Ea (A3 34),.bool true])/\Below w.heap.size w w':=by
 exact FQ
theorem WH(w:World):Calls prog 58 #[.int .i64 35] w fun e w'=>e=.returned (.tuple #[Ea (A3 35),.bool true])/\Below w.heap.size w w':=by
 exact FQ
theorem WI(w:World):Calls prog 58 #[.int .i64 36] w fun e w'=>e=.returned (.tuple #[Ea (A3 36),.bool true])/\Below w.heap.size w w':=by
 exact FQ
theorem WJ(w:World):Calls prog 58 #[.int .i64 37] w fun e w'=>e=.returned (.tuple #[Ea (A3 37),.bool true])/\Below w.heap.size w w':=by
 exact FQ
theorem Ws(w:World):Calls prog 58 #[.int .i64 22] w fun e w'=>e=.returned (.tuple #[Ea (A3 22),.bool true])/\Below w.heap.size w w':=by
 exact FQ
theorem Wt(w:World):Calls prog 58 #[.int .i64 23] w fun e w'=>e=.returned (.tuple #[Ea (A3 23),.bool true])/\Below w.heap.size w w':=by
 exact FQ
theorem Wu(w:World):Calls prog 58 #[.int .i64 24] w fun e w'=>e=.returned (.tuple #[Ea (A3 24),.bool true])/\Below w.heap.size w w':=by
 exact FQ
theorem Wv(w:World):Calls prog 58 #[.int .i64 25] w fun e w'=>e=.returned (.tuple #[Ea (A3 25),.bool true])/\Below w.heap.size w w':=by
 exact FQ
theorem Ww(w:World):Calls prog 58 #[.int .i64 26] w fun e w'=>e=.returned (.tuple #[Ea (A3 26),.bool true])/\Below w.heap.size w w':=by
 exact FQ
theorem Wx(w:World):Calls prog 58 #[.int .i64 27] w fun e w'=>e=.returned (.tuple #[Ea (A3 27),.bool true])/\Below w.heap.size w w':=by
 exact FQ
theorem Wy(w:World):Calls prog 58 #[.int .i64 28] w fun e w'=>e=.returned (.tuple #[Ea (A3 28),.bool true])/\Below w.heap.size w w':=by
 exact FQ
theorem Wz(w:World):Calls prog 58 #[.int .i64 29] w fun e w'=>e=.returned (.tuple #[Ea (A3 29),.bool true])/\Below w.heap.size w w':=by
 exact FQ
theorem Wi(w:World):Calls prog 58 #[.int .i64 13] w fun e w'=>e=.returned (.tuple #[Ea (A3 13),.bool true])/\Below w.heap.size w w':=by
 exact FQ
theorem Wj(w:World):Calls prog 58 #[.int .i64 14] w fun e w'=>e=.returned (.tuple #[Ea (A3 14),.bool true])/\Below w.heap.size w w':=by
 exact FQ
theorem Wl(w:World):Calls prog 58 #[.int .i64 15] w fun e w'=>e=.returned (.tuple #[Ea (A3 15),.bool true])/\Below w.heap.size w w':=by
 exact FQ
theorem Wm(w:World):Calls prog 58 #[.int .i64 16] w fun e w'=>e=.returned (.tuple #[Ea (A3 16),.bool true])/\Below w.heap.size w w':=by
 exact FQ
theorem Wn(w:World):Calls prog 58 #[.int .i64 17] w fun e w'=>e=.returned (.tuple #[Ea (A3 17),.bool true])/\Below w.heap.size w w':=by
 exact FQ
theorem Wo(w:World):Calls prog 58 #[.int .i64 18] w fun e w'=>e=.returned (.tuple #[Ea (A3 18),.bool true])/\Below w.heap.size w w':=by
 exact FQ
theorem Wp(w:World):Calls prog 58 #[.int .i64 19] w fun e w'=>e=.returned (.tuple #[Ea (A3 19),.bool true])/\Below w.heap.size w w':=by
 exact FQ
theorem Wq(w:World):Calls prog 58 #[.int .i64 20] w fun e w'=>e=.returned (.tuple #[Ea (A3 20),.bool true])/\Below w.heap.size w w':=by
 exact FQ
theorem Wr(w:World):Calls prog 58 #[.int .i64 21] w fun e w'=>e=.returned (.tuple #[Ea (A3 21),.bool true])/\Below w.heap.size w w':=by
 exact FQ
theorem WM(w:World):Calls prog 53 #[.int .i64 1] w fun e w'=>e=.returned (.tuple #[.string ⟨#[110,45,45,45,45]⟩,.bool true])/\w'=w:=by
 exact FS
theorem WN(w:World):Calls prog 53 #[.int .i64 2] w fun e w'=>e=.returned (.tuple #[.string ⟨#[119,45,45,45,105]⟩,.bool true])/\w'=w:=by
 exact FS
theorem WO(w:World):Calls prog 53 #[.int .i64 3] w fun e w'=>e=.returned (.tuple #[.string ⟨#[97,99,45,45,45]⟩,.bool true])/\w'=w:=by
 exact FS
theorem WP(w:World):Calls prog 53 #[.int .i64 4] w fun e w'=>e=.returned (.tuple #[.string ⟨#[100,120,120,45,45]⟩,.bool true])/\w'=w:=by
 exact FS
theorem WQ(w:World):Calls prog 53 #[.int .i64 5] w fun e w'=>e=.returned (.tuple #[.string ⟨#[100,120,120,45,45]⟩,.bool true])/\w'=w:=by
 exact FS
theorem WR(w:World):Calls prog 53 #[.int .i64 6] w fun e w'=>e=.returned (.tuple #[.string ⟨#[100,120,120,45,45]⟩,.bool true])/\w'=w:=by
 exact FS
theorem WT(w:World):Calls prog 53 #[.int .i64 7] w fun e w'=>e=.returned (.tuple #[.string ⟨#[100,120,120,45,45]⟩,.bool true])/\w'=w:=by
 exact FS
theorem WU(w:World):Calls prog 53 #[.int .i64 8] w fun e w'=>e=.returned (.tuple #[.string ⟨#[100,120,120,45,45]⟩,.bool true])/\w'=w:=by
 exact FS
theorem WV(w:World):Calls prog 53 #[.int .i64 9] w fun e w'=>e=.returned (.tuple #[.string ⟨#[100,120,120,45,45]⟩,.bool true])/\w'=w:=by
 exact FS
theorem RE(w:World):Calls prog 53 #[.int .i64 10] w fun e w'=>e=.returned (.tuple #[.string ⟨#[100,120,120,45,45]⟩,.bool true])/\w'=w:=by
 exact FS
theorem RF(w:World):Calls prog 53 #[.int .i64 11] w fun e w'=>e=.returned (.tuple #[.string ⟨#[100,120,45,45,45]⟩,.bool true])/\w'=w:=by
 exact FS
theorem RG(w:World):Calls prog 53 #[.int .i64 12] w fun e w'=>e=.returned (.tuple #[.string ⟨#[100,120,45,45,45]⟩,.bool true])/\w'=w:=by
 exact FS
theorem I3{k:IntKind}{a b:Int}(h:a=b):Ending.returned (.int k a)=.returned (.int k b):=by rw[h]
theorem Zp(a:Int)(h0:0<=a)(h1:a<4294967296)(w:World):
 Calls prog 117 #[.int .i64 a] w fun e w'=>e=.returned (.bool (nan a))/\w'=w:=by
 go_enter func117,ntmps117;go_wp2;go_ret;exact⟨rfl,rfl⟩
theorem Fw(a:Int)(h0:0<=a)(h1:a<4294967296)(w:World):
 Calls prog 97 #[.int .i64 a] w fun e w'=>e=.returned (.int .i64 (Af a))/\w'=w:=by
 cases hn:nan a
 .have hc:Af a=a:=by unfold Af;simp[hn]
  exact Zeg
 .have hc:Af a=2143289344:=by unfold Af;simp[hn]
  exact Zeg
def Rz:Option Nat->Int
 |some r=>r
 |none=>2143289344
def DJ(a b:Int):Int:=Rz (Ieee.single.add a.toNat b.toNat)
def O6(a b:Int):Int:=Rz (Ieee.single.sub a.toNat b.toNat)
def Fb(a b:Int):Int:=Rz (Ieee.single.mul a.toNat b.toNat)
def GO(a b:Int):Int:=Rz (Ieee.single.div a.toNat b.toNat)
def E4(a:Int):Int:=Rz (Ieee.single.sqrt a.toNat)
def DC(n:Int):Int:=(Ieee.single.nearest (decide (n<0)) n.natAbs 0:Nat)
def JO(a:Int):Int:=Af (if 2147483648<=a then a-2147483648 else a+2147483648)
def Ys(a:Int):Int:=Af (a%2147483648)
def Za(a b:Int):Option Ordering:=Ieee.single.order a.toNat b.toNat
def Jh(a b:Int):Int:=match Za a b with
 |none=>2143289344
 |some .lt=>a
 |some .gt=>b
 |some .eq=>if 2147483648<=a then a else b
def JN(a b:Int):Int:=match Za a b with
 |none=>2143289344
 |some .lt=>b
 |some .gt=>a
 |some .eq=>if 2147483648<=a then b else a
def JM(a b:Int):Bool:=Za a b==some .lt
def feq(a b:Int):Bool:=Za a b==some .eq
def ffin(a:Int):Bool:=decide (a%2147483648<2139095040)
def MO(c a b:Int):Int:=if nan c||c%2147483648==0 then Af b else Af a
theorem ZZ(s:Bool)(r:Nat):rg (wd s r)=min r 2139095040:=by
 unfold rg wd;split<;>omega
theorem Us(d:Ieee.Datum)(h:d.isNaN=false):rg (Ieee.single.write d)<=2139095040:=by
 cases d with
 |number s m e=>show rg (Ieee.single.nearest s m e)<=_;rw[BI,Ik,ZZ];omega
 |infinity s=>show rg (wd s 2139095040)<=_;rw[ZZ];omega
 |nan s t=>simp[Ieee.Datum.isNaN]at h
theorem Sj{d e f:Ieee.Datum}(h:d.sum e=some f):f.isNaN=false:=by
 cases d<;>cases e<;>simp[Ieee.Datum.sum]at h<;>first|(subst h;rfl)|(obtain⟨_,rfl⟩:=h;rfl)
theorem VX{d e f:Ieee.Datum}(h:d.product e=some f):f.isNaN=false:=by
 cases d<;>cases e<;>simp[Ieee.Datum.product]at h<;>first|(subst h;rfl)|(obtain⟨_,rfl⟩:=h;rfl)
theorem VZ{k:Nat}{d e f:Ieee.Datum}(h:d.quotient k e=some f):f.isNaN=false:=by
 cases d<;>cases e<;>simp[Ieee.Datum.quotient]at h
 .split at h
  .split at h
   .cases h
   .cases h;rfl
  .cases h;rfl
 .subst h;rfl
 .subst h;rfl
theorem We{k:Nat}{d f:Ieee.Datum}(h:d.root k=some f):f.isNaN=false:=by
 cases d<;>simp[Ieee.Datum.root]at h
 .split at h
  .cases h;rfl
  .split at h
   .cases h
   .simp only[Option.some.injEq]at h;subst h;rfl
 .obtain⟨-,rfl⟩:=h;rfl
theorem Ht{o:Option Ieee.Datum}{r:Nat}(h:o.map Ieee.single.write=some r)(k:∀f,o=some f->f.isNaN=false):rg r<=2139095040/\r<4294967296:=by
 have lt:=Ieee.single.map_write_lt h;cases o with
 |none=>simp at h
 |some d=>simp only[Option.map_some,Option.some.injEq]at h;subst h;exact⟨Us d (k d rfl),lt⟩
theorem QX{x y r:Nat}(h:Ieee.single.add x y=some r):rg r<=2139095040/\r<4294967296:=Ht h fun _ q=>Sj q
theorem Si{x y r:Nat}(h:Ieee.single.sub x y=some r):rg r<=2139095040/\r<4294967296:=Ht h fun _ q=>Sj q
theorem Rp{x y r:Nat}(h:Ieee.single.mul x y=some r):rg r<=2139095040/\r<4294967296:=Ht h fun _ q=>VX q
theorem R9{x y r:Nat}(h:Ieee.single.div x y=some r):rg r<=2139095040/\r<4294967296:=Ht h fun _ q=>VZ q
theorem OS{x r:Nat}(h:Ieee.single.sqrt x=some r):rg r<=2139095040/\r<4294967296:=Ht h fun _ q=>We q
theorem YW(r:Nat):nan (r:Int)=decide (2139095040<rg r):=by unfold nan rg;rw[decide_eq_decide];omega
theorem Is{r:Nat}(h:rg r<=2139095040):Af (r:Int)=r:=by
 unfold Af;rw[YW];simp;omega
section
variable {P : Program} (w : World)
end
theorem Kc(o:Option Nat)(h:∀r,o=some r->r<4294967296):0<=Rz o/\Rz o<4294967296:=by
 cases o with
 |none=>decide
 |some r=>have:=h r rfl;show 0<=(r:Int)/\(r:Int)<_;omega
theorem MI(a b:Int):0<=DJ a b/\DJ a b<4294967296:=Kc _ fun _ h=>(QX h).2
theorem Yx(a b:Int):0<=O6 a b/\O6 a b<4294967296:=Kc _ fun _ h=>(Si h).2
theorem DX(a b:Int):0<=Fb a b/\Fb a b<4294967296:=Kc _ fun _ h=>(Rp h).2
theorem Yt(a b:Int):0<=GO a b/\GO a b<4294967296:=Kc _ fun _ h=>(R9 h).2
theorem Vl(a:Int):0<=E4 a/\E4 a<4294967296:=Kc _ fun _ h=>(OS h).2
theorem J1(n:Nat)(h:n<2^31):n^^^2^31=2^31+n:=by
 apply Nat.eq_of_testBit_eq;intro i;rw[Nat.testBit_xor,Nat.testBit_two_pow];rcases Nat.lt_trichotomy i 31 with c|c|c
 .rw[Nat.testBit_two_pow_add_gt c,decide_eq_false (show¬ (31=i) by omega),Bool.xor_false]
 .subst c;rw[Nat.testBit_two_pow_add_eq];simp
 .have e1:n.testBit i=false:=Nat.testBit_lt_two_pow (Nat.lt_of_lt_of_le h (Nat.pow_le_pow_right dE oM));have e2:(2^31+n).testBit i=false:=Nat.testBit_lt_two_pow (Nat.lt_of_lt_of_le (show 2^31+n<2^32 by omega) (Nat.pow_le_pow_right dE oM));rw[e1,e2,decide_eq_false (show¬ (31=i) by omega),Bool.xor_false]
theorem XM(a:Int)(h0:0<=a)(h1:a<4294967296):bits .xor .u32 a 2147483648=if 2147483648<=a then a-2147483648 else a+2147483648:=by
 rw[u32_xor a _ h0 h1 dE dE,show(2147483648:Int).toNat=2^31 from rfl];by_cases c:2147483648<=a
 .rw[if_pos c];have e:=J1 (a.toNat-2^31) oM;rw[show 2^31+(a.toNat-2^31)=a.toNat by omega]at e;rw[<-e,Nat.xor_assoc,Nat.xor_self,Nat.xor_zero];omega
 .rw[if_neg c,J1 _ oM];omega
theorem Vc(n:Int):0<=DC n/\DC n<4294967296:=⟨Int.natCast_nonneg _,by have:=Ieee.single.write_lt (.number (decide (n<0)) n.natAbs 0);exact Int.ofNat_lt.2 this⟩
section
variable {P : Program} (w : World)
end
theorem OB(a:Nat)(ha:rg a<2139095040)(hs:ng a=false)(h0:mg a≠0):
 ∃r,Ieee.single.sqrt a=some (wd false r)/\IV 23 (mv a*2^149) r:=by
 unfold Ieee.Format.sqrt;rw[CK a ha,hs];simp only[Ieee.Datum.root,if_neg h0,Bool.false_eq_true,if_false,Option.map_some,Ieee.Format.write];rw[BI,Dm,BZ];have hl:(mg a).log2<=23:=by
  have:(mg a).log2<24:=(Nat.log2_lt h0).2 (VF a);omega
 generalize hi:(-149+(te a:Int))=i;generalize hm1:2*(23+2)-(mg a).log2=more1;generalize hmore:more1+((i-(more1:Int))%2).toNat=more;have hpar:(i-(more:Int))%2=0:=oM;have hmo:27<=more/\more<=51:=oM;generalize hn:mg a<<<more=n at *;have hlo:2^(mg a).log2<=mg a:=Nat.log2_self_le h0;have hn50:2^50<=n:=by
  rw[<-hn,Nat.shiftLeft_eq]
  calc 2^50<=2^((mg a).log2+more):=Nat.pow_le_pow_right dE oM
   _=2^(mg a).log2*2^more:=Nat.pow_add ..
   _<=mg a*2^more:=Nat.mul_le_mul_right _ hlo
 have hrt:=ID n (n.log2/2+1) 0 oM (by
  have:n<2^(n.log2+1):=Nat.lt_log2_self;rw[Nat.zero_add,<-Nat.pow_add]
  exact Nat.lt_of_lt_of_le this (Nat.pow_le_pow_right dE oM))
 generalize Ieee.Datum.rootFrom n (n.log2/2+1) 0=w at *;have hw:2^24<=w:=by
  rcases Nat.lt_or_ge w (2^24)with c|c
  .exfalso;have:=Nat.mul_self_le_mul_self (show w+1<=2^24 from c);have e:(2:Nat)^24*2^24<2^50:=dE;omega
  .exact c
 have big:23+2<=(2*w+(w*w != n).toNat).log2:=by
  apply(Nat.le_log2 oM).2;omega
 refine⟨_,rfl,?_⟩;obtain⟨x,hx⟩:∃x:Nat,(x:Int)=(i-(more:Int))/2+149:=⟨((i-(more:Int))/2+149).toNat,oM⟩
 have hnr:=LX 23 (-149) w n ((i-(more:Int))/2-1) dE hrt.1 hrt.2 big x oM;have e:n*(2^x*2^x)=mv a*2^149:=by
  rw[J0,<-hn,Nat.shiftLeft_eq,<-Nat.pow_add,Nat.mul_assoc,Nat.mul_assoc,<-Nat.pow_add,<-Nat.pow_add];congr 2;omega
 rw[e]at hnr;exact hnr
section
variable {P : Program} (w : World)
end
theorem EN(a b:Int):compare a b=if a<b then .lt else if a=b then .eq else .gt:=rfl
theorem Pu{a b:Int}(h:a<b):compare a b=.lt:=by rw[EN,if_pos h]
theorem Pq{a b:Int}(h:a=b):compare a b=.eq:=by rw[EN,if_neg oM,if_pos h]
theorem Ps{a b:Int}(h:b<a):compare a b=.gt:=by rw[EN,if_neg oM,if_neg oM]
theorem SG(a b p:Int)(hp:0<p):compare (a*p) (b*p)=compare a b:=by
 rw[EN,EN];have h1:a*p<b*p↔a<b:=Int.mul_lt_mul_right hp;have h2:a*p=b*p↔a=b:=⟨fun h=>Int.eq_of_mul_eq_mul_right oM h,fun h=>by rw[h]⟩
 simp only[h1,h2]
theorem MY{x:Nat}(h:rg x=2139095040):mv x=V 23 2139095040:=by unfold mv;rw[h]
theorem mv_fin{x:Nat}(h:rg x<2139095040):mv x<V 23 2139095040:=Ip 23 h
theorem Xu{x:Nat}(h:rg x<2139095040): -(V 23 2139095040:Int)<sv x/\sv x<(V 23 2139095040:Int):=by
 have:=mv_fin h;unfold sv sg;split<;>omega
theorem VT(x y:Nat):Ieee.single.order x y=if 2139095040<rg x\/2139095040<rg y then none else some (compare (sv x) (sv y)):=by
 unfold Ieee.Format.order;have hV:0<V 23 2139095040:=by have:=Ip 23 (show 0<2139095040 by decide);omega
 rcases Nat.lt_trichotomy (rg x) 2139095040 with c|c|c
 .rcases Nat.lt_trichotomy (rg y) 2139095040 with d|d|d
  .rw[CK x c,CK y d,if_neg oM];simp only[Ieee.Datum.order];have hm:min (-149+(te x:Int)) (-149+(te y:Int))= -149+((min (te x) (te y):Nat):Int):=oM;rw[hm];have e1:(-149+(te x:Int)-(-149+((min (te x) (te y):Nat):Int))).toNat=te x-min (te x) (te y):=oM;have e2:(-149+(te y:Int)-(-149+((min (te x) (te y):Nat):Int))).toNat=te y-min (te x) (te y):=oM;rw[e1,e2];generalize hc:min (te x) (te y)=m;have s1:Ieee.signed (ng x) (mg x) (te x-m)*(2:Int)^m=sv x:=by
    rw[Kw,show te x-m+m=te x by omega,<-J0];rfl
   have s2:Ieee.signed (ng y) (mg y) (te y-m)*(2:Int)^m=sv y:=by
    rw[Kw,show te y-m+m=te y by omega,<-J0];rfl
   rw[<-s1,<-s2,SG _ _ _ (Int.pow_pos dE)]
  .rw[CK x c,EF y d,if_neg oM];simp only[Ieee.Datum.order];have h:=Xu c;have e:sv y=sg (ng y) (V 23 2139095040):=by unfold sv;rw[MY d]
   rw[e,EN];cases ng y
   .rw[if_neg dE,if_pos Zgx]
   .rw[if_pos rfl,if_neg Zgx,if_neg Zgx]
  .rw[EG y d,CK x c,if_pos (Or.inr d)];rfl
 .rcases Nat.lt_trichotomy (rg y) 2139095040 with d|d|d
  .rw[EF x c,CK y d,if_neg oM];simp only[Ieee.Datum.order];have h:=Xu d;have e:sv x=sg (ng x) (V 23 2139095040):=by unfold sv;rw[MY c]
   rw[e,EN];cases ng x
   .rw[if_neg dE,if_neg Zgx,if_neg Zgx]
   .rw[if_pos rfl,if_pos Zgx]
  .rw[EF x c,EF y d,if_neg oM];simp only[Ieee.Datum.order];have e1:sv x=sg (ng x) (V 23 2139095040):=by unfold sv;rw[MY c]
   have e2:sv y=sg (ng y) (V 23 2139095040):=by unfold sv;rw[MY d]
   rw[e1,e2,EN];cases ng x<;>cases ng y
   .rw[if_neg oM,if_pos rfl];rfl
   .rw[if_neg Zgn,if_neg Zgn];rfl
   .rw[if_pos Zgn];rfl
   .rw[if_neg oM,if_pos rfl];rfl
  .rw[EG y d,EF x c,if_pos (Or.inr d)];rfl
 .rw[EG x c,if_pos (Or.inl c)];cases Ieee.single.read y<;>rfl
theorem CM(a:Int)(h0:0<=a):(rg a.toNat:Int)=a%2147483648:=by unfold rg;omega
theorem JY(a:Int)(h0:0<=a):nan a=decide (2139095040<rg a.toNat):=by
 unfold nan;rw[decide_eq_decide];have:=CM a h0;omega
theorem Ke(a b:Int)(h0:0<=a)(g0:0<=b):Za a b=if nan a=true\/nan b=true then none else some (compare (sv a.toNat) (sv b.toNat)):=by
 unfold Za;rw[VT,JY a h0,JY b g0];simp only[decide_eq_true_eq]
theorem SV(a b:Int)(h0:0<=a)(g0:0<=b):JM a b=true↔nan a=false/\nan b=false/\sv a.toNat<sv b.toNat:=by
 unfold JM;rw[Ke a b h0 g0];by_cases hn:nan a=true\/nan b=true
 .rw[if_pos hn];simp;intro k1 k2;simp[k1,k2]at hn
 .rw[if_neg hn];have hn':nan a=false/\nan b=false:=by simpa using hn
  rcases Int.lt_trichotomy (sv a.toNat) (sv b.toNat)with c|c|c
  .rw[Pu c];simp[hn',c]
  .rw[Pq c];simp;omega
  .rw[Ps c];simp;omega
theorem sv_inj{x y:Nat}(h:sv x=sv y):rg x=rg y/\(ng x=ng y\/rg x=0):=by
 have hz:∀z,mv z=0->rg z=0:=by
  intro z hz;unfold mv at hz;rw[<-Mv 23]at hz;exact UE 23 hz
 have Ba:mv x=mv y/\(ng x=ng y\/mv x=0):=by
  unfold sv sg at h;cases hx:ng x<;>cases hy:ng y<;>rw[hx,hy]at h<;>simp only[if_true,if_false,Bool.false_eq_true]at h
  .exact⟨oM,Or.inl rfl⟩
  .exact⟨oM,Or.inr oM⟩
  .exact⟨oM,Or.inr oM⟩
  .exact⟨oM,Or.inl rfl⟩
 refine⟨UE 23 Ba.1,?_⟩;rcases Ba.2 with e|e
 .exact Or.inl e
 .exact Or.inr (hz x e)
theorem EZ(a:Int)(h0:0<=a)(h1:a<4294967296):a=(if ng a.toNat then 2147483648 else 0)+(rg a.toNat:Int):=by
 unfold ng rg;by_cases c:2147483648<=a
 .have:a.toNat/2147483648%2=1:=oM;simp[this];omega
 .have:a.toNat/2147483648%2=0:=oM;simp[this];omega
theorem Zf{a b:Int}(h0:0<=a)(h1:a<4294967296)(g0:0<=b)(g1:b<4294967296)(hr:rg a.toNat=rg b.toNat)(hs:ng a.toNat=ng b.toNat):a=b:=by
 rw[EZ a h0 h1,EZ b g0 g1,hr,hs]
theorem Q9(a:Int)(h0:0<=a)(h1:a<4294967296):ng a.toNat=decide (2147483648<=a):=by
 unfold ng;by_cases c:2147483648<=a<;>simp[c]<;>omega
theorem Xt(d e:Ieee.Datum):d.sum e=e.sum d:=by
 cases d<;>cases e<;>simp only[Ieee.Datum.sum]
 .rename_i s m i t n j;rw[Int.min_comm j i,Int.add_comm (Ieee.signed t n _),Bool.and_comm]
 .rename_i s t;by_cases h:s=t
  .rw[if_pos h,if_pos h.symm,h]
  .rw[if_neg h,if_neg (fun k=>h k.symm)]
theorem Lw(a b:Int):DJ a b=DJ b a:=by unfold DJ Ieee.Format.add;rw[Xt]
def MM(a:Nat):Nat:=if 2147483648<=a then a-2147483648 else a+2147483648
theorem RD(a:Nat)(h:a<4294967296):rg (MM a)=rg a:=by unfold rg MM;split<;>omega
theorem Z0(a:Nat)(h:a<4294967296):ng (MM a)= !ng a:=by
 unfold ng MM;split
 .rename_i c;have e1:a/2147483648%2=1:=oM;have e2:(a-2147483648)/2147483648%2=0:=oM;simp[e1,e2]
 .rename_i c;have e1:a/2147483648%2=0:=oM;have e2:(a+2147483648)/2147483648%2=1:=oM;rw[e1,e2];rfl
theorem TA(a:Nat)(h:a<4294967296):Ieee.single.read (MM a)=(Ieee.single.read a).opposite:=by
 rw[E8,E8,RD a h,Z0 a h];split
 .rfl
 .split
  .rfl
  .split<;>rfl
theorem O5(a:Int)(h0:0<=a)(h1:a<4294967296)(hn:nan a=false):JO a=(MM a.toNat:Nat):=by
 unfold JO MM;have e:(if 2147483648<=a then a-2147483648 else a+2147483648)=((if 2147483648<=a.toNat then a.toNat-2147483648 else a.toNat+2147483648:Nat):Int):=by
  by_cases c:2147483648<=a
  .rw[if_pos c,if_pos oM];omega
  .rw[if_neg c,if_neg oM];omega
 rw[e];apply Is;have:=RD a.toNat oM;unfold MM at this;rw[this];rw[JY a h0]at hn;simpa using hn
theorem O4(a:Int)(h0:0<=a)(h1:a<4294967296)(hn:nan a=true):JO a=2143289344:=by
 unfold JO Af;rw[N5]at hn;have:nan (if 2147483648<=a then a-2147483648 else a+2147483648)=true:=by
  rw[N5];split<;>omega
 rw[if_pos this]
theorem Rc(a:Int)(h0:0<=a)(h1:a<4294967296):0<=JO a/\JO a<4294967296:=by
 have h:0<=(if 2147483648<=a then a-2147483648 else a+2147483648)/\(if 2147483648<=a then a-2147483648 else a+2147483648)<4294967296:=by split<;>omega
 exact F9 _ h.1 h.2

theorem H2(a:Int)(k:Nat)(hk:k<64)(h0:0<=a)(h1:a<18446744073709551616):bits .and .u64 a ((2^k-1:Nat):Int)=a%((2^k:Nat):Int):=by
 have hp:2^k<2^64:=Nat.pow_lt_pow_right oM hk;have hq:0<2^k:=Nat.two_pow_pos k;obtain⟨n,rfl⟩:=Int.eq_ofNat_of_zero_le h0;rw[u64_and _ _ h0 h1 oM oM,Int.toNat_natCast,Int.toNat_natCast,Nat.and_two_pow_sub_one_eq_mod];rfl
theorem Y4(a:Int)(h0:0<=a)(h1:a<18446744073709551616):bits .and .u64 a 255=a%256:=H2 a 8 dE h0 h1
theorem UJ(a:Int)(h0:0<=a)(h1:a<18446744073709551616):bits .and .u64 a 8388607=a%8388608:=H2 a 23 dE h0 h1
def Bb(a:Int):Bool:=a/2147483648==1
def nM(a:Int):Int:=if a/8388608%256=255 then 0 else if a/8388608%256=0 then a%8388608 else 8388608+a%8388608
def nE(a:Int):Int:=if a/8388608%256=255 then 0 else if a/8388608%256=0 then -149 else a/8388608%256-150
def E7(a:Int):Bool:=if a/8388608%256=255 then a%8388608==0 else false
def C7(a:Int):Bool:=if a/8388608%256=255 then a%8388608 != 0 else false
theorem Du(a:Int)(h0:0<=a)(h1:a<4294967296)(w:World):
 Calls prog 115 #[.int .i64 a] w fun e w'=>e=.returned (.agg #[.bool (Bb a),.int .u64 (nM a),.int .i64 (nE a),.bool (E7 a),.bool (C7 a)])/\∃o,w'=(w.alloc o).alloc o:=by
 have e1:=Y4 (a/8388608) oM oM;have e2:=UJ a h0 oM;by_cases c:a/8388608%256=255
 .have f1:nM a=0:=by unfold nM;rw[if_pos c]
  have f2:nE a=0:=by unfold nE;rw[if_pos c]
  have f3:E7 a=(a%8388608==0):=by unfold E7;rw[if_pos c]
  have f4:C7 a=(a%8388608 != 0):=by unfold C7;rw[if_pos c]
  exact Zdh
 .by_cases c2:a/8388608%256=0
  .have f1:nM a=a%8388608:=by unfold nM;rw[if_neg c,if_pos c2]
   have f2:nE a= -149:=by unfold nE;rw[if_neg c,if_pos c2]
   have f3:E7 a=false:=by unfold E7;rw[if_neg c]
   have f4:C7 a=false:=by unfold C7;rw[if_neg c]
   exact Zdh
  .have f1:nM a=8388608+a%8388608:=by unfold nM;rw[if_neg c,if_neg c2]
   have f2:nE a=a/8388608%256-150:=by unfold nE;rw[if_neg c,if_neg c2]
   have f3:E7 a=false:=by unfold E7;rw[if_neg c]
   have f4:C7 a=false:=by unfold C7;rw[if_neg c]
   exact Zdh
def Ia(s:Bool):Int:=if s then 2147483648 else 0
theorem QE(s:Bool):0<=Ia s/\Ia s<=2147483648:=by unfold Ia;split<;>decide
theorem GH(s:Bool)(w:World):
 Calls prog 133 #[.bool s] w fun e w'=>e=.returned (.int .u64 (Ia s))/\w'=w:=by
 cases s
 all_goals(
  go_enter func133,ntmps133;go_wp2;go_ret
  exact⟨rfl,rfl⟩)
theorem DS(s:Bool)(w:World):
 Calls prog 131 #[.bool s] w fun e w'=>e=.returned (.int .i64 (Ia s))/\w'=w:=by
 have hl:=QE s;go_enter func131,ntmps131;go_wp2_with(go_at_call 133;refine(GH _ _).mono ?_;rintro e w' ⟨rfl,rfl⟩);go_ret;exact⟨rfl,rfl⟩
theorem EH(s:Bool)(w:World):
 Calls prog 130 #[.bool s] w fun e w'=>e=.returned (.int .i64 (Ia s+2139095040))/\w'=w:=by
 have hl:=QE s;go_enter func130,ntmps130;go_wp2_with(go_at_call 133;refine(GH _ _).mono ?_;rintro e w' ⟨rfl,rfl⟩);go_ret;exact⟨rfl,rfl⟩
def Dw(n:Nat):Nat:=if n=0 then 0 else n.log2+1
theorem Sw(n:Nat)(h:n≠0):Dw n=Dw (n/2)+1:=by
 unfold Dw;rw[if_neg h];by_cases c:n/2=0
 .rw[if_pos c];have:n=1:=oM;subst this;decide
 .rw[if_neg c,Nat.log2_def n,if_pos oM]
theorem FF(m:Int)(h0:0<=m)(h1:m<18446744073709551616)(w:World):
 Calls prog 120 #[.int .u64 m] w fun e w'=>e=.returned (.int .i64 (Dw m.toNat))/\w'=w:=by
 have hb:Dw m.toNat<=64:=by
  unfold Dw;split
  .omega
  .rename_i c;have:m.toNat.log2<64:=(Nat.log2_lt c).2 oM;omega
 generalize hB:Dw m.toNat=B at *;have HB:Hid (Dw m.toNat=B):=hB;clear hB;go_enter func120,ntmps120;go_wp2;go_loop [0,3] (fun mv nv=>∃ (x:Int) (k:Nat),0<=x/\x<=m/\mv=.int .u64 x/\nv=.int .i64 k/\k+Dw x.toNat=B) (fun mv _=>(intOf mv).toNat)
 case atStart=>exact⟨m,0,h0,Int.le_refl _,rfl,rfl,by rw[HB.out];omega⟩
 case round=>
  obtain⟨x,k,hx0,hx1,rfl,rfl,hk⟩:=hrel;have HK:Hid (k+Dw x.toNat=B):=hk;by_cases hz:x=0
  .have:k=B:=by rw[<-hk,hz];rfl
   subst this;clear hk HK HB;subst hz;go_wp2;go_ret;exact⟨rfl,rfl⟩
  .have hs:=Sw x.toNat oM;have HS:Hid (Dw x.toNat=Dw (x.toNat/2)+1):=hs;have hkB:k<=63:=oM;clear hs hk;go_wp2;go_round
   case rel=>exact⟨x/2,k+1,oM,oM,rfl,gN,by rw[show(x/2).toNat=x.toNat/2 by omega];have:=HK.out;have:=HS.out;omega⟩
   case measure=>simp[intOf];omega
theorem ME(neg:Bool)(n drop:Nat):Ieee.Toward.even.cut neg n drop=n/2^drop+(if 2^drop<2*(n%2^drop)\/(2^drop=2*(n%2^drop)/\n/2^drop%2=1)then 1 else 0):=by
 have Ba:∀g l r:Nat,l+(decide (g<2*r)||g==2*r&&l%2==1).toNat=l+(if g<2*r\/(g=2*r/\l%2=1)then 1 else 0):=by
  intro g l r;by_cases c1:g<2*r
  .simp[c1]
  .by_cases c2:g=2*r
   .by_cases c3:l%2=1<;>simp[c2,c3]
   .simp[c1,c2]
 unfold Ieee.Toward.cut;simp only[Nat.one_shiftLeft];rcases Nat.lt_or_ge (n.log2+2) drop with c|c
 .rw[Nat.min_eq_right oM];have h1:n<2^(n.log2+1):=Nat.lt_log2_self;have h2:2^(n.log2+2)=2*2^(n.log2+1):=by rw[Nat.pow_succ];omega
  have h3:2^(n.log2+2)<=2^drop:=Nat.pow_le_pow_right oM oM;rw[Ba,Nat.div_eq_of_lt oM,Nat.mod_eq_of_lt oM,Nat.div_eq_of_lt oM,Nat.mod_eq_of_lt (show n<2^drop by omega)];rw[if_neg oM,if_neg oM]
 .rw[Nat.min_eq_left oM,Ba]
theorem Yk(m:Int)(h0:0<=m)(d:Nat)(hd:1<=d):((Ieee.Toward.even.cut false m.toNat d:Nat):Int)=if(2:Int)^(d-1)<m%2^d\/(m%2^d=2^(d-1)/\m/2^d%2=1)then m/2^d+1 else m/2^d:=by
 obtain⟨n,rfl⟩:=Int.eq_ofNat_of_zero_le h0;rw[ME,Int.toNat_natCast];have hG:2^d=2*2^(d-1):=by
  obtain⟨e,rfl⟩:∃e,d=e+1:=⟨d-1,oM⟩
  rw[Nat.add_sub_cancel,Nat.pow_succ,Nat.mul_comm]
 have e1:((n:Int)/2^d)=((n/2^d:Nat):Int):=by push_cast;rfl
 have e2:((n:Int)%2^d)=((n%2^d:Nat):Int):=by push_cast;rfl
 have e3:(2:Int)^(d-1)=((2^(d-1):Nat):Int):=by push_cast;rfl
 rw[e1,e2,e3];generalize n/2^d=q;generalize n%2^d=r;rw[hG];generalize 2^(d-1)=H;by_cases c:2*H<2*r\/(2*H=2*r/\q%2=1)
 .rw[if_pos c,if_pos oM];omega
 .rw[if_neg c,if_neg oM];omega
theorem Oy(m:Int)(h0:0<=m)(h1:m<18446744073709551616)(d:Nat)(g0:1<=d)(g1:d<64)(w:World):
 Calls prog 132 #[.int .u64 m,.int .i64 d] w fun e w'=>e=.returned (.int .u64 (Ieee.Toward.even.cut false m.toNat d:Nat))/\w'=w:=by
 rw[Yk m h0 d g0];have hG:(2:Int)^d=2*2^(d-1):=by
  obtain⟨e,rfl⟩:∃e,d=e+1:=⟨d-1,oM⟩
  rw[Nat.add_sub_cancel,Int.pow_succ,Int.mul_comm]
 have hle:(2:Int)^d<=9223372036854775808:=by
  have h:2^d<=9223372036854775808:=gH (Nat.pow_le_pow_right dE (show d<=63 by omega)) dE;have h':((2^d:Nat):Int)<=((9223372036854775808:Nat):Int):=Int.ofNat_le.2 h;rw[Int.natCast_pow]at h';exact h'
 have hH:(1:Int)<=2^(d-1):=Int.pow_pos dE;have f1:IntKind.u64.wrap ((2:Int)^d)=2^d:=by rw[IntKind.wrap_u64];omega
 have f4:IntKind.u64.wrap ((2:Int)^(d-1))=2^(d-1):=by rw[IntKind.wrap_u64];omega
 have f3:bits .and .u64 m ((2:Int)^d-1)=m%2^d:=by
  have:=H2 m d g1 h0 h1;have e:((2^d-1:Nat):Int)=(2:Int)^d-1:=by
   rw[Int.ofNat_sub (Nat.two_pow_pos d)];push_cast;rfl
  rw[e]at this;rw[this];push_cast;rfl
 have hr0:0<=m%2^d:=Int.emod_nonneg _ oM;have hr1:m%2^d<2^d:=Int.emod_lt_of_pos _ oM;have hq0:0<=m/2^d:=Int.ediv_nonneg h0 oM;have hq1:m/2^d<=9223372036854775807:=by
  have h2:m/2^d<=m/2:=by
   have:(2:Int)∣2^d:=⟨2^(d-1),hG⟩
   rw[hG,<-Int.ediv_ediv_of_nonneg dE];exact Int.ediv_le_self _ oM
  omega
 have f5:IntKind.u64.wrap ((2:Int)^d-1)=2^d-1:=by rw[IntKind.wrap_u64];omega
 generalize hr:m%2^d=r at *;generalize hq:m/2^d=q at *;generalize hHH:(2:Int)^(d-1)=H at *;generalize hGG:(2:Int)^d=G at *;have hG1:1<=G:=oM;clear hr hG;by_cases c1:H<r
 .rw[if_pos (Or.inl c1)];exact ZR
 .by_cases c2:r=H
  .by_cases c3:q%2=1
   .rw[if_pos (Or.inr ⟨c2,c3⟩)];exact ZR
   .rw[if_neg oM];exact ZR
  .rw[if_neg oM];exact ZR
theorem J6(m:Int)(h0:0<=m)(h1:m<18446744073709551616)(d:Int)(g0:1<=d)(g1:d<100000)(w:World):
 Calls prog 132 #[.int .u64 m,.int .i64 d] w fun e w'=>e=.returned (.int .u64 (Ieee.Toward.even.cut false m.toNat d.toNat:Nat))/\w'=w:=by
 rcases Int.lt_trichotomy d 64 with c|c|c
 .have:=Oy m h0 h1 d.toNat oM oM w;rwa[Int.toNat_of_nonneg oM]at this
 .subst c;have hv:((Ieee.Toward.even.cut false m.toNat (64:Int).toNat:Nat):Int)=if 9223372036854775808<m then 1 else 0:=by
   rw[ME,show(64:Int).toNat=64 from rfl,show(2:Nat)^64=18446744073709551616 from rfl,Nat.div_eq_of_lt oM,Nat.mod_eq_of_lt oM];by_cases c:9223372036854775808<m
   .rw[if_pos c,if_pos oM];rfl
   .rw[if_neg c,if_neg oM];rfl
  rw[hv];clear hv;by_cases c:9223372036854775808<m
  .rw[if_pos c];exact ZR
  .rw[if_neg c];by_cases c2:m=9223372036854775808
   .subst c2;exact ZR
   .exact ZR
 .have hv:((Ieee.Toward.even.cut false m.toNat d.toNat:Nat):Int)=0:=by
   have hp:2^65<=2^d.toNat:=Nat.pow_le_pow_right dE oM;have h65:(2:Nat)^65=36893488147419103232:=rfl;rw[ME,Nat.div_eq_of_lt oM,Nat.mod_eq_of_lt oM,if_neg oM];rfl
  rw[hv];clear hv;exact ZR
theorem P3(s:Bool)(r:Nat):((wd s r:Nat):Int)=Ia s+min (r:Int) 2139095040:=by
 unfold wd Ia;cases s
 .simp only[if_false,Bool.false_eq_true];omega
 .simp only[if_true];omega
theorem Lk(s:Bool)(m:Nat)(e:Int)(h0:m≠0):∃ (U:Int) (k:Nat),U=max (e+(Dw m:Int)-24) (-149)/\
 ((Ieee.single.nearest s m e:Nat):Int)=Ia s+min ((U+149)*8388608+k) 2139095040/\k<=16777216/\(U= -149\/8388608<=k)/\
 k=Ieee.Toward.even.cut false (m*2^(e-U).toNat) (U-e).toNat/\(U<=e->(k:Int)=(m:Int)*2^(e-U).toNat):=by
 have hb:(Dw m:Int)-24=m.log2-23:=by unfold Dw;rw[if_neg h0];omega
 have hn:=BI Ieee.single s m e;rw[Ik,Dm,BZ]at hn;refine⟨max (e+(Dw m:Int)-24) (-149),Ieee.Toward.even.cut false (m*2^(e-max (e+(Dw m:Int)-24) (-149)).toNat) (max (e+(Dw m:Int)-24) (-149)-e).toNat,rfl,?_⟩;have hU:max (e+(Dw m:Int)-24) (-149)=max (e+m.log2-((23:Nat):Int)) (-149):=oM;rw[hU];generalize hUU:max (e+m.log2-((23:Nat):Int)) (-149)=U at *;have hr:CC 23 (-149) m e=(U-(-149)).toNat*2^23+Ieee.Toward.even.cut false (m*2^(e-U).toNat) (U-e).toNat:=by
  unfold CC;rw[if_neg h0,Nat.shiftLeft_eq,hUU]
 have hcut:=NM false (m*2^(e-U).toNat) (U-e).toNat;generalize hk:Ieee.Toward.even.cut false (m*2^(e-U).toNat) (U-e).toNat=k at *;have hlo:2^m.log2<=m:=Nat.log2_self_le h0;have hhi:m<2^(m.log2+1):=Nat.lt_log2_self;have hcs:=hcut.scale 0 0 (U-e).toNat rfl;rw[Nat.pow_zero,Nat.mul_one]at hcs;have lo:U= -149\/2^23*2^(U-e).toNat<=m*2^(e-U).toNat:=by
  rcases(show U= -149\/U=e+m.log2-23 by omega)with c|c
  .exact Or.inl c
  .right
   calc 2^23*2^(U-e).toNat=2^m.log2*2^(e-U).toNat:=by rw[<-Nat.pow_add,<-Nat.pow_add];congr 1;omega
    _<=m*2^(e-U).toNat:=Nat.mul_le_mul_right _ hlo
 have hi:m*2^(e-U).toNat<2*2^23*2^(U-e).toNat:=by
  calc m*2^(e-U).toNat<2^(m.log2+1)*2^(e-U).toNat:=Nat.mul_lt_mul_of_pos_right hhi (Nat.two_pow_pos _)
   _=2^(m.log2+1+(e-U).toNat):=(Nat.pow_add ..).symm
   _<=2^(24+(U-e).toNat):=Nat.pow_le_pow_right dE oM
   _=2*2^23*2^(U-e).toNat:=by rw[Nat.pow_add]
 have up:=hcut.up;have dn:=hcut.dn;simp only[Nat.mul_one]at up dn;have hT:0<2^(U-e).toNat:=Nat.two_pow_pos _;have hkle:k<=16777216:=by
  rcases Nat.lt_or_ge 16777216 k with c|c
  .exfalso;have:(2*16777217)*2^(U-e).toNat<=2*k*2^(U-e).toNat:=Nat.mul_le_mul_right _ oM;generalize 2^(U-e).toNat=T at *;generalize m*2^(e-U).toNat=X at *;omega
  .exact c
 have hkge:U= -149\/8388608<=k:=by
  rcases lo with c|c
  .exact Or.inl c
  .right;rcases Nat.lt_or_ge k 8388608 with d|d
   .exfalso;have:(2*k+1)*2^(U-e).toNat<=16777215*2^(U-e).toNat:=Nat.mul_le_mul_right _ oM;generalize 2^(U-e).toNat=T at *;generalize m*2^(e-U).toNat=X at *;omega
   .exact d
 refine⟨?_,hkle,hkge,rfl,?_⟩
 .rw[hn,hr,P3];rw[Int.natCast_add,Int.natCast_mul,Int.toNat_of_nonneg oM];omega
 .intro l;rw[show(U-e).toNat=0 by omega]at hcut;have up:=hcut.up;have dn:=hcut.dn;have ue:=hcut.ue;have de:=hcut.de;have:k=m*2^(e-U).toNat:=by
   generalize m*2^(e-U).toNat=X at *;simp only[Nat.pow_zero,Nat.mul_one]at ue de up dn;omega
  rw[this];push_cast;rfl
theorem C5(s:Bool)(m:Int)(h0:0<=m)(h1:m<18446744073709551616)(e:Int)(e0: -10000<=e)(e1:e<=10000)(w:World):
 Calls prog 122 #[.bool s,.int .u64 m,.int .i64 e] w fun x w'=>x=.returned (.int .i64 (Ieee.single.nearest s m.toNat e:Nat))/\w'=w:=by
 have hs:=QE s;by_cases hz:m=0
 .subst hz;have hv:((Ieee.single.nearest s (0:Int).toNat e:Nat):Int)=Ia s:=by
   show((Ieee.single.nearest s 0 e:Nat):Int)=Ia s;exact Zfl
  rw[hv];clear hv;go_enter func122,ntmps122;go_wp2_with(go_at_call 131;refine(DS _ _).mono ?_;rintro e w' ⟨rfl,rfl⟩);go_ret;exact⟨rfl,rfl⟩
 .obtain⟨U,k,hU,hv,hk1,hk2,hk3,hk4⟩:=Lk s m.toNat e oM;rw[hv];clear hv;have hB:1<=Dw m.toNat/\Dw m.toNat<=64:=by
   unfold Dw;rw[if_neg oM];have:m.toNat.log2<64:=(Nat.log2_lt oM).2 oM;omega
  generalize hBB:Dw m.toNat=B at *;have fh:e<U->((Ieee.Toward.even.cut false m.toNat (U-e).toNat:Nat):Int)=k:=by
   intro l;rw[hk3,show(e-U).toNat=0 by omega,Nat.pow_zero,Nat.mul_one]
  have fq:U<=e->IntKind.u64.wrap (m*2^(-(U-e)).toNat)=k:=by
   intro l;have:=hk4 l;rw[show(-(U-e)).toNat=(e-U).toNat by omega,show m=(m.toNat:Int) by omega,<-this,IntKind.wrap_u64];omega
  clear hk3 hk4;have hUr: -149<=U/\U<=20000:=oM;have hK0:0<=(k:Int)/\(k:Int)<=16777216/\(U= -149\/8388608<=(k:Int)):=oM;clear hk1 hk2;generalize hKK:(k:Int)=K at *;clear hKK;generalize hT:min ((U+149)*8388608+K) 2139095040=T;have cases:(K=16777216/\U<104/\T=(U+151)*8388608)\/(K=16777216/\104<=U/\T=2139095040)\/(U= -149/\K<8388608/\T=K)\/
   (8388608<=K/\K<16777216/\U<105/\T=(U+149)*8388608+K)\/(8388608<=K/\K<16777216/\105<=U/\T=2139095040):=oM
  clear hT;by_cases hu: -149>e+(B:Int)-24
  .have hU':U= -149:=oM;clear hU;subst hU';clear hUr;by_cases hsh: -149<=e
   .have fq':=fq hsh;exact Zbu
   .have fh':=fh oM;exact Zbu
  .have hu2:e+(B:Int)-24=U:=oM;clear hU;by_cases hsh:U<=e
   .have fq':=fq hsh;exact Zbt
   .have fh':=fh oM;exact Zbt
def Bi:Wk->List Ad->Wk
 |s,[]=>s
 |s,i::r=>Bi (Ae s i) r
def AQ(c:Cd):Wk->List Ad->Bool
 |_,[]=>true
 |s,i::r=>Am c s i&&AQ c (Ae s i) r
theorem CN:∀ (l m:List Ad) (s:Wk),Bi s (l++m)=Bi (Bi s l) m
 |[],m,s=>rfl
 |i::l,m,s=>by simp only[List.cons_append,Bi];exact CN l m _
theorem BE(c:Cd):∀ (l m:List Ad) (s:Wk),AQ c s (l++m)=(AQ c s l&&AQ c (Bi s l) m)
 |[],m,s=>by simp[AQ,Bi]
 |i::l,m,s=>by simp only[List.cons_append,AQ,Bi,BE c l m,Bool.and_assoc]
theorem Vn{c:Cd}:∀ {l:List Ad} {s:Wk} {k:Nat},(Lg c s k l).1=0↔AQ c s l=true/\(Bi s l).opens.isEmpty=true
 |[],s,k=>by
  simp only[Lg,AQ,Bi,true_and];by_cases h:s.opens.isEmpty=true
  .simp[h]
  .simp[h]
 |i::l,s,k=>by
  simp only[Lg,AQ,Bi,Bool.and_eq_true];by_cases h:Am c s i=true
  .rw[if_pos h,Vn (k:=k+1)];simp[h]
  .rw[if_neg h];simp[h]
theorem J9(c:Cd)(x:List Ad):∀ (l:List Ad) (s:Wk),AQ ⟨c.sign,c.regs,c.slots,x⟩ s l=AQ c s l
 |[],s=>rfl
 |i::l,s=>by simp only[AQ,J9 c x l];rfl
theorem DI{c:Cd}:(AD c).1=0↔Cm c=0/\AQ c ⟨[],[]⟩ c.list=true/\(Bi ⟨[],[]⟩ c.list).opens.isEmpty=true:=by
 unfold AD;by_cases h:Cm c=0
 .rw[if_neg (by simp[h]),Vn];simp[h]
 .rw[if_pos h];simp[h]
def Jj(S:List Nat)(i:Ad):List Nat:=if(A3 i.op).d≠0/\i.d.toNat∉S then S++[i.d.toNat]else S
theorem Qc:∀ {r:List Bk} {n:Nat},okO n r->∀b∈r,b.ahead<=n
 |[],_,_,b,hb=>absurd hb sM
 |a::r,n,h,b,hb=>by
  rcases List.mem_cons.1 hb with rfl|hb
  .exact h.1
  .exact gH (Qc h.2 b hb) h.1
theorem Lo{s:Wk}{i:Ad}(h:(A3 i.op).d=0):CB s i (A3 i.op)=s:=by unfold CB;rw[if_neg (fun e=>e.1 h)]
theorem Ri{S:List Nat}{i:Ad}{x:Nat}:x∈Jj S i↔x∈S\/((A3 i.op).d≠0/\x=i.d.toNat):=by
 unfold Jj;by_cases h:(A3 i.op).d≠0/\i.d.toNat∉S
 .rw[if_pos h,List.mem_append];simp only[List.mem_singleton];exact⟨fun q=>q.imp id fun e=>⟨h.1,e⟩,fun q=>q.imp id fun e=>e.2⟩
 .rw[if_neg h];constructor
  .exact .inl
  .rintro(q|⟨q1,q2⟩)
   .exact q
   .rw[q2];exact Decidable.byContradiction fun e=>h ⟨q1,e⟩
def dn(o:Option Nat):Nat:=match o with
 |some _=>0
 |none=>1
section
variable {P : Program} (w : World)
end
section
variable (w : World) (n : Nat)
@[go_sem] theorem alloc_drewN (o:Obj):(w.drewN n).alloc o=(w.alloc o).drewN n:=rfl
@[go_sem] theorem setCell_drewN (a:Addr) (v:Value):(w.drewN n).setCell a v=(w.setCell a v).drewN n:=rfl
end
theorem Iv{w:World}{a:Addr}{v:Value}(h:w.cell? a=some v):a.block<w.heap.size:=by
 rcases Nat.lt_or_ge a.block w.heap.size with c|c
 .exact c
 .have:w.heap[a.block]? =none:=Array.getElem?_eq_none c;simp[World.cell?,this]at h
theorem Q5(w:World)(o:Obj):Below w.heap.size w (w.alloc o):=(Below.refl _ _).alloc (gF _) o
section
variable {w : World} {cs : List (Addr × Value)} {g : Nat} {x y : Value} {v v' : World}
end
def Bc(w:World)(p:Option Addr)(n:Nat)(X:Nat->Value):Prop:=n=0\/∃b o,p=some ⟨b,o,none⟩/\∀i,i<n->w.cell? ⟨b,o+i,none⟩=some (X i)
theorem Bc.below{w w':World}{p:Option Addr}{n:Nat}{X:Nat->Value}(h:Bc w p n X)(k:Below w.heap.size w w'):Bc w' p n X:=by
 rcases h with h|⟨b,o,e,h⟩
 .exact .inl h
 .exact .inr ⟨b,o,e,fun i hi=>(k.cell (Iv (h i hi))).trans (h i hi)⟩
theorem Bc.congr{w:World}{p:Option Addr}{n:Nat}{X Y:Nat->Value}(h:Bc w p n X)(e:∀i,i<n->X i=Y i):Bc w p n Y:=by
 rcases h with h|⟨b,o,q,h⟩
 .exact .inl h
 .exact .inr ⟨b,o,q,fun i hi=>by rw[h i hi,e i hi]⟩

def nums(X:Nat->Int)(n:Nat):List Value:=(List.range n).map fun i=>.int .u32 (X i)
section
open Go.Maps (Keyed)
def Oi(k:Nat):Lit:=.int .i64 (k:Int)
theorem VB{a b:Nat}(h:Oi a=Oi b):a=b:=by
 unfold Oi at h;simp only[Lit.int.injEq,true_and]at h;omega
theorem YC:Keyed prog 3:=Maps.int_keyed underlying3
theorem JU{k:Nat}(h:k<=4611686018427387904):keyOf prog 3 (.int .i64 (k:Int))=some (Oi k):=
 Maps.keyOf_int_mk underlying3 (by
  have h1:IntKind.i64.min<=(0:Int):=dE;have h2:(4611686018427387904:Int)<=IntKind.i64.max:=dE;simp only[Lit.wf,Bool.and_eq_true,decide_eq_true_eq]
  omega)
theorem isKeyI(k:Nat):WideAt.IsKeyLit (Oi k):=by unfold Oi;simp[WideAt.IsKeyLit]
end
structure Rk where
 by_:Ad
 of_:Ty
 deriving DecidableEq
structure RW where
 ins:Nat->Nat
 hold:Rk->Option Nat
 reck:List Rk
 opn:List Nat
 left:List Ad
def Ah(i:Ad):Bool:=decide ((A3 i.op).d≠0)
def D8(l:List Ad)(r:Nat):Bool:=(l.filter fun i=>Ah i&&decide (i.d.toNat=r)).length==1
def A4(s:RW)(i:Ad):Ad:=
 {i with a:=if(A3 i.op).a=0 then i.a else(s.ins i.a.toNat:Int),b:=if(A3 i.op).b=0 then i.b else(s.ins i.b.toNat:Int),c:=if(A3 i.op).c=0 then i.c else(s.ins i.c.toNat:Int)}
def FP(l:List Ad)(i:Ad):Bool:=Ah i&&(D8 l i.d.toNat&&(Ac i (A3 i.op)).all fun r=>D8 l r.toNat)
def L7(c:Cd)(i:Ad):Rk:=⟨{i with d:=0},A5 c.regs i.d⟩
def Ds(c:Cd)(s:RW)(i:Ad):Option Nat:=
 if FP c.list i then
  if i.op=3 then(if A5 c.regs i.a=A5 c.regs i.d then some i.a.toNat else none)else s.hold (L7 c i)
 else none
def NO(s:RW)(k:Nat):RW:={s with hold:=fun r=>if r∈s.reck.drop k then none else s.hold r,reck:=s.reck.take k}
def H5(s:RW):RW:={NO s (s.opn.getLastD 0)with opn:=s.opn.dropLast}
def B0(c:Cd)(s:RW)(i:Ad):RW:=
 if i.op=34 then{s with left:=s.left++[i],opn:=s.opn++[s.reck.length]}
 else if i.op=35 then H5 {s with left:=s.left++[i]}
 else if(i.op≠32/\i.op≠3)/\FP c.list i then{s with left:=s.left++[i],hold:=fun r=>if r=L7 c i then some i.d.toNat else s.hold r,reck:=s.reck++[L7 c i]}
 else{s with left:=s.left++[i]}
def Ml(c:Cd)(s:RW)(i:Ad):RW:=
 match Ds c s (A4 s i)with
 |some r=>{s with ins:=fun k=>if k=i.d.toNat then r else s.ins k}
 |none=>B0 c s (A4 s i)
def IJ:RW:=⟨id,fun _=>none,[],[],[]⟩
def Qn(c:Cd):List Ad:=(c.list.foldl (Ml c) IJ).left
def Nk(c:Cd):Cd:={c with list:=Qn c}
inductive QS(ins:Nat->Nat)(hold:Rk->Option Nat):List Nat->List Nat->List Rk->List Bk->List Bk->List Nat->Prop where
 |nil {X X':List Nat} {K:List Rk}:QS ins hold X X' K [] [] []
 |loop {X X':List Nat} {K:List Rk} {o o':List Bk} {k:List Nat} {p:Int} {a a':Nat} (h:QS ins hold X X' K o o' k):QS ins hold X X' K (⟨true,p,a⟩::o) (⟨true,p,a'⟩::o') k
 |when {X X':List Nat} {K:List Rk} {o o':List Bk} {k:List Nat} {p:Int} {a a' m:Nat} (h1:a<=X.length) (h2:a'<=X'.length) (h3:m<=K.length) (h4:∀r∈X.take a,ins r∈X'.take a') (h5:∀q∈K.take m,∃g,hold q=some g/\g∈X'.take a')
  (h:QS ins hold (X.take a) (X'.take a') (K.take m) o o' k):QS ins hold X X' K (⟨false,p,a⟩::o) (⟨false,p,a'⟩::o') (k++[m])
theorem QS.grow{ins ins2:Nat->Nat}{hold hold2:Rk->Option Nat}{X X':List Nat}{K:List Rk}{o o':List Bk}{k:List Nat}(h:QS ins hold X X' K o o' k):∀ (Y Y':List Nat) (J:List Rk),(∀r∈X,ins2 r=ins r)->(∀q∈K,hold2 q=hold q)->QS ins2 hold2 (X++Y) (X'++Y') (K++J) o o' k:=by
 induction h with
 |nil=>exact fun _ _ _ _ _=>.nil
 |loop h ih=>exact fun Y Y' J hi hh=>.loop (ih Y Y' J hi hh)
 |@when X1 X1' K1 o1 o1' k1 p1 a1 a1' m1 h1 h2 h3 h4 h5 h ih=>
  intro Y Y' J hi hh;have hi':∀r∈X1.take a1,ins2 r=ins r:=fun r hr=>hi r (List.mem_of_mem_take hr);have hh':∀q∈K1.take m1,hold2 q=hold q:=fun q hq=>hh q (List.mem_of_mem_take hq);have h6:=ih [] [] [] hi' hh';simp only[List.append_nil]at h6;refine .when sO sO sO ?_ ?_ ?_
  .rw[List.take_append_of_le_length h1,List.take_append_of_le_length h2];exact fun r hr=>by rw[hi' r hr];exact h4 r hr
  .rw[List.take_append_of_le_length h3,List.take_append_of_le_length h2];exact fun q hq=>by rw[hh' q hq];exact h5 q hq
  .rw[List.take_append_of_le_length h1,List.take_append_of_le_length h2,List.take_append_of_le_length h3];exact h6
theorem QS.len{ins:Nat->Nat}{hold:Rk->Option Nat}{X X':List Nat}{K:List Rk}{o o':List Bk}{k:List Nat}(h:QS ins hold X X' K o o' k):o.length=o'.length:=by
 induction h with
 |nil=>rfl
 |loop h ih=>simp[ih]
 |when h1 h2 h3 h4 h5 h ih=>simp[ih]
theorem QS.inner{ins:Nat->Nat}{hold:Rk->Option Nat}{X X':List Nat}{K:List Rk}{o o':List Bk}{k:List Nat}(h:QS ins hold X X' K o o' k)(U V:List Nat):An ⟨U,o⟩=An ⟨V,o'⟩/\BH ⟨U,o⟩=BH ⟨V,o'⟩/\o.isEmpty=o'.isEmpty:=by
 cases h<;>exact⟨rfl,rfl,rfl⟩
structure F1(c:Cd)(L:List Ad)(s:RW)(x x':Wk):Prop where
 ty:∀r,r<c.regs.length->s.ins r<c.regs.length/\A5 c.regs (s.ins r:Int)=A5 c.regs (r:Int)
 set:∀r∈x.set,s.ins r∈x'.set
 was:∀r∈x.set,∃i∈L,Ah i=true/\i.d.toNat=r
 same:∀r,s.ins r=r\/(D8 c.list r=true/\∃i∈L,Ah i=true/\i.d.toNat=r)
 reck:∀k,(s.hold k).isSome=true↔k∈s.reck
 nodup:s.reck.Nodup
 hold:∀k g,s.hold k=some g->g∈x'.set/\g<c.regs.length/\A5 c.regs (g:Int)=k.of_
 opens:QS s.ins s.hold x.set x'.set s.reck x.opens x'.opens s.opn
theorem F1.start(c:Cd):F1 c [] IJ ⟨[],[]⟩ ⟨[],[]⟩:=
 ⟨fun r h=>⟨h,rfl⟩,fun r h=>Zhx,fun r h=>Zhx,fun r=>.inl rfl,fun k=>(by simp[IJ]),List.nodup_nil,fun k g h=>Zhx,.nil⟩
theorem I2{l:List Ty}{n:Int}(h:0<=n):A5 l n=A5 l (n.toNat:Int):=by rw[Int.toNat_of_nonneg h]
theorem FI{L R:List Ad}{i:Ad}(hs:Ah i=true)(h:D8 (L++i::R) i.d.toNat=true):∀j∈L,Ah j=true->j.d.toNat≠i.d.toNat:=by
 intro j hj hsj e;unfold D8 at h;simp only[beq_iff_eq,List.filter_append,List.length_append]at h;have h1:0<(L.filter fun q=>Ah q&&decide (q.d.toNat=i.d.toNat)).length:=List.length_pos_iff.2 fun e9=>by
  have:j∈L.filter fun q=>Ah q&&decide (q.d.toNat=i.d.toNat):=List.mem_filter.2 ⟨hj,by simp[hsj,e]⟩;rw[e9]at this;cases this
 have h2:0<((i::R).filter fun q=>Ah q&&decide (q.d.toNat=i.d.toNat)).length:=List.length_pos_iff.2 fun e9=>by
  have:i∈(i::R).filter fun q=>Ah q&&decide (q.d.toNat=i.d.toNat):=List.mem_filter.2 ⟨List.mem_cons_self,by simp[hs]⟩;rw[e9]at this;cases this
 omega
theorem I9{i:Ad}(h:Ah i=true):i.op≠34/\i.op≠35/\i.op≠36/\i.op≠37:=by
 unfold Ah at h;simp only[decide_eq_true_eq]at h;refine⟨?_,?_,?_,?_⟩<;>(intro e;rw[e]at h;exact h dE)
theorem U6{s:Wk}{i:Ad}(h:Ah i=true):BA s i=s:=by
 obtain⟨h1,h2,h3,h4⟩:=I9 h;unfold BA;rw[if_neg oM,if_neg oM]
theorem JK{c:Cd}{ins:Nat->Nat}(ty:∀r,r<c.regs.length->ins r<c.regs.length/\A5 c.regs (ins r:Int)=A5 c.regs (r:Int)){l n:Int}{m:Ty}(h:Ai c.regs l n m=true):Ai c.regs l (if l=0 then n else(ins n.toNat:Int)) m=true:=by
 by_cases hl:l=0
 .rw[if_pos hl];exact h
 .rw[if_neg hl];obtain⟨h0,h1⟩:=Ag h hl;obtain⟨t1,t2⟩:=ty n.toNat oM;unfold Ai at h |-;rw[if_neg hl]at h |-;simp only[Bool.and_eq_true]at h |-;rw[t2,<-I2 h0];exact⟨Bn.2 ⟨oM,oM⟩,h.2⟩
theorem VD{c:Cd}{s:RW}(ty:∀r,r<c.regs.length->s.ins r<c.regs.length/\A5 c.regs (s.ins r:Int)=A5 c.regs (r:Int)){i:Ad}(h:AO c i (A3 i.op)=true):Ak c.regs (A4 s i) (A3 i.op)=Ak c.regs i (A3 i.op):=by
 unfold Ak Ct A4;simp only;by_cases hd:(A3 i.op).d=0
 .rw[if_pos hd,if_pos hd];by_cases ha:(A3 i.op).a=0
  .rw[if_pos ha]
  .rw[if_neg ha];obtain⟨h0,h1⟩:=Ag (BN h) ha;rw[(ty i.a.toNat oM).2,<-I2 h0]
 .rw[if_neg hd,if_neg hd]
theorem IL{c:Cd}{L:List Ad}{s:RW}{x x':Wk}(h:F1 c L s x x'){i:Ad}(t:Am c x i=true):Am c x' (A4 s i)=true:=by
 obtain⟨t1,t2,t3,t4⟩:=As t;have hm:=VD h.ty t2;have hop:(A4 s i).op=i.op:=rfl;unfold Am;rw[hop];simp only[Bool.and_eq_true];refine⟨t1,?_,?_,?_⟩
 .unfold AO at t2 |-;rw[hm];simp only[Bool.and_eq_true]at t2 |-;obtain⟨f1,f2,f3,f4,f5⟩:=t2;exact⟨f1,JK h.ty f2,JK h.ty f3,JK h.ty f4,f5⟩
 .obtain⟨q1,q2,q3⟩:=h.opens.inner x.set x'.set;have q4:=h.opens.len;unfold Aj at t3 |-;have e1:An x'=An x:=q1.symm;have e2:BH x'=BH x:=q2.symm;rw[hop,hm,e1,e2,<-q3,<-q4];exact t3
 .unfold CV Ac at t4 |-;rw[List.all_eq_true]at t4 |-;intro n hn;simp only[List.mem_append]at hn t4;have Ba:∀m:Int,(m=i.a/\(A3 i.op).a≠0\/m=i.b/\(A3 i.op).b≠0\/m=i.c/\(A3 i.op).c≠0)->s.ins m.toNat∈x'.set:=fun m hm'=>h.set _ (by
   have:=t4 m (by
    rcases hm' with⟨rfl,q⟩|⟨rfl,q⟩|⟨rfl,q⟩
    .exact .inl Uv
    .exact .inr (.inl Uv)
    .exact .inr (.inr Uv))
   simpa using this)
  simp only[decide_eq_true_eq];unfold A4 at hn;simp only at hn;rcases hn with hn|hn|hn
  .by_cases q:(A3 i.op).a=0
   .rw[if_pos q]at hn;cases hn
   .rw[if_neg q,if_neg q]at hn;simp at hn;subst hn;exact Ba i.a (.inl ⟨rfl,q⟩)
  .by_cases q:(A3 i.op).b=0
   .rw[if_pos q]at hn;cases hn
   .rw[if_neg q,if_neg q]at hn;simp at hn;subst hn;exact Ba i.b (.inr (.inl ⟨rfl,q⟩))
  .by_cases q:(A3 i.op).c=0
   .rw[if_pos q]at hn;cases hn
   .rw[if_neg q,if_neg q]at hn;simp at hn;subst hn;exact Ba i.c (.inr (.inr ⟨rfl,q⟩))
theorem Ex{c:Cd}{s:RW}{i:Ad}{g:Nat}(h:Ds c s i=some g):FP c.list i=true:=by
 unfold Ds at h;split at h
 .assumption
 .cases h
theorem C6{l:List Ad}{i:Ad}(h:FP l i=true):Ah i=true/\D8 l i.d.toNat=true/\∀r∈Ac i (A3 i.op),D8 l r.toNat=true:=by
 unfold FP at h;simp only[Bool.and_eq_true,List.all_eq_true]at h;exact h
theorem Rs{c:Cd}{L R:List Ad}{s:RW}{x x':Wk}{i:Ad}(h:F1 c L s x x')(hl:c.list=L++i::R)(hs:Ah i=true)(hst:D8 c.list i.d.toNat=true):i.d.toNat∉x.set:=fun hm=>by
 obtain⟨j,hj,h1,h2⟩:=h.was _ hm;rw[hl]at hst;exact FI hs hst j hj h1 h2
theorem IF{c:Cd}{x:Wk}{i:Ad}(t:Am c x i=true)(hs:Ah i=true):0<=i.d/\i.d<(c.regs.length:Int):=by
 obtain⟨_,t2,_,_⟩:=As t;unfold Ah at hs;exact Ag (D6 t2) (by simpa using hs)
theorem Mi{x:Wk}{i:Ad}(hs:Ah i=true):Ae x i=CB x i (A3 i.op):=by
 unfold Ae CJ;rw[U6 hs]
theorem Vt{c:Cd}{L:List Ad}{s:RW}{x x':Wk}{i:Ad}(h:F1 c L s x x')(t:Am c x i=true){g:Nat}(hh:Ds c s (A4 s i)=some g):g∈x'.set/\g<c.regs.length/\A5 c.regs (g:Int)=A5 c.regs i.d:=by
 have hw:=Ex hh;obtain⟨t1,t2,t3,t4⟩:=As t;unfold Ds at hh;rw[if_pos hw]at hh;by_cases h3:(A4 s i).op=3
 .rw[if_pos h3]at hh;have h3':i.op=3:=h3;have ha:(A3 i.op).a≠0:=by rw[h3'];decide
  have ea:(A4 s i).a=(s.ins i.a.toNat:Int):=by unfold A4;simp only;rw[if_neg ha]
  obtain⟨a0,a1⟩:=Ag (BN t2) ha;obtain⟨q1,q2⟩:=h.ty i.a.toNat oM;rw[ea]at hh;split at hh
  .rename_i e;simp only[Int.toNat_natCast,Option.some.injEq]at hh;subst hh;refine⟨h.set _ ?_,q1,e⟩;unfold CV Ac at t4;rw[List.all_eq_true]at t4;have:=t4 i.a (by rw[if_neg ha];simp);simpa using this
  .cases hh
 .rw[if_neg h3]at hh;exact h.hold _ _ hh
theorem T8{c:Cd}{L R:List Ad}{s:RW}{x x':Wk}{i:Ad}(h:F1 c L s x x')(hl:c.list=L++i::R)(t:Am c x i=true){g:Nat}(hh:Ds c s (A4 s i)=some g):
 F1 c (L++[i]) {s with ins:=fun k=>if k=i.d.toNat then g else s.ins k} (Ae x i) x':=by
 obtain⟨w1,w2,w3⟩:=C6 (Ex hh);have w1':Ah i=true:=w1;have w2':D8 c.list i.d.toNat=true:=w2;obtain⟨g1,g2,g3⟩:=Vt h t hh;have hn:=Rs h hl w1' w2';obtain⟨d0,d1⟩:=IF t w1';have hst:Ae x i=⟨x.set++[i.d.toNat],x.opens⟩:=by
  rw[Mi w1'];unfold CB;rw[if_pos ⟨by unfold Ah at w1';simpa using w1',hn⟩]
 rw[hst];have hne:∀r∈x.set,(if r=i.d.toNat then g else s.ins r)=s.ins r:=fun r hr=>if_neg (fun e:r=i.d.toNat=>hn (by rw[<-e];exact hr));refine⟨fun r hr=>?_,fun r hr=>?_,fun r hr=>?_,fun r=>?_,h.reck,h.nodup,h.hold,?_⟩
 .simp only;by_cases e:r=i.d.toNat
  .rw[if_pos e,e];exact⟨g2,by rw[g3,I2 d0]⟩
  .rw[if_neg e];exact h.ty r hr
 .simp only at hr |-;rcases List.mem_append.1 hr with hr|hr
  .rw[hne r hr];exact h.set r hr
  .simp at hr;rw[if_pos hr];exact g1
 .simp only at hr;rcases List.mem_append.1 hr with hr|hr
  .obtain⟨j,hj,q⟩:=h.was r hr;exact⟨j,List.mem_append.2 (.inl hj),q⟩
  .simp at hr;exact⟨i,sM,w1',hr.symm⟩
 .simp only;by_cases e:r=i.d.toNat
  .exact .inr ⟨by rw[e];exact w2',i,sM,w1',e.symm⟩
  .rw[if_neg e];rcases h.same r with q|⟨q,j,hj,k⟩
   .exact .inl q
   .exact .inr ⟨q,j,List.mem_append.2 (.inl hj),k⟩
 .have:=h.opens.grow (ins2:=fun k=>if k=i.d.toNat then g else s.ins k) (hold2:=s.hold) [i.d.toNat] [] [] hne (fun _ _=>rfl);simpa using this
theorem Ue(c:Cd)(s:RW)(i:Ad):(B0 c s i).left=s.left++[i]/\(B0 c s i).ins=s.ins:=by
 unfold B0 H5 NO;split
 .exact⟨rfl,rfl⟩
 .split
  .exact⟨rfl,rfl⟩
  .split<;>exact⟨rfl,rfl⟩
theorem F1.more{c:Cd}{L:List Ad}{s:RW}{x x':Wk}(h:F1 c L s x x')(i:Ad):(∀r∈x.set,∃j∈L++[i],Ah j=true/\j.d.toNat=r)/\∀r,s.ins r=r\/(D8 c.list r=true/\∃j∈L++[i],Ah j=true/\j.d.toNat=r):=
 ⟨fun r hr=>by obtain⟨j,hj,q⟩:=h.was r hr;exact⟨j,List.mem_append.2 (.inl hj),q⟩,fun r=>by
  rcases h.same r with q|⟨q,j,hj,k⟩
  .exact .inl q
  .exact .inr ⟨q,j,List.mem_append.2 (.inl hj),k⟩⟩
theorem N9{s:Wk}{i:Ad}(h:Ah i=false):CB s i (A3 i.op)=s:=by
 unfold CB;rw[if_neg];unfold Ah at h;simp only[decide_eq_false_iff_not,Decidable.not_not]at h;exact fun e=>e.1 h
theorem KP{α:Type}{l:List α}{m:Nat}{x:α}(hn:l.Nodup)(h:x∈l.take m):x∉l.drop m:=fun k=>by
 rw[<-List.take_append_drop m l,List.nodup_append]at hn;exact hn.2.2 x h x k rfl
theorem Mn{s:Wk}{i:Ad}(e:i.op=34):BA s i=⟨s.set,⟨false,i.n,s.set.length⟩::s.opens⟩:=by
 unfold BA;rw[if_pos (.inl e)];have b:(i.op==36)=false:=by rw[e];decide
 rw[b]
theorem Mm{s:Wk}{i:Ad}(e:i.op=36):BA s i=⟨s.set,⟨true,i.n,s.set.length⟩::s.opens⟩:=by
 unfold BA;rw[if_pos (.inr e)];have b:(i.op==36)=true:=by rw[e];decide
 rw[b]
theorem FN{s:Wk}{i:Ad}(e:i.op=35\/i.op=37):BA s i=AF s:=by
 unfold BA;rw[if_neg oM,if_pos e]
theorem Mh(c:Cd)(s:RW){i:Ad}(e:i.op=34):B0 c s i={s with left:=s.left++[i],opn:=s.opn++[s.reck.length]}:=by unfold B0;rw[if_pos e]
theorem OV(c:Cd)(s:RW){i:Ad}(e:i.op=35):B0 c s i=H5 {s with left:=s.left++[i]}:=by unfold B0;rw[if_neg oM,if_pos e]
theorem Tm{c:Cd}{L:List Ad}{s:RW}{x x':Wk}{i i':Ad}(h:F1 c L s x x')(t:Am c x i=true)(e1:i'.op=i.op)(e2:i'.n=i.n)(ho:i.op=34\/i.op=35\/i.op=36\/i.op=37):
 F1 c (L++[i]) (B0 c s i') (Ae x i) (Ae x' i'):=by
 have hns:Ah i=false:=by
  unfold Ah;rcases ho with e|e|e|e<;>(rw[e];decide)
 have hns':Ah i'=false:=by unfold Ah at hns |-;rw[e1];exact hns
 obtain⟨m1,m2⟩:=h.more i;have hsx:Ae x i=BA x i:=by unfold Ae CJ;exact N9 hns
 have hsx':Ae x' i'=BA x' i':=by unfold Ae CJ;exact N9 hns'
 rw[hsx,hsx'];obtain⟨-,-,t3,-⟩:=As t;rcases ho with e|e|e|e
 .rw[Mn e,Mn (e1.trans e),Mh c s (e1.trans e),e2];refine⟨h.ty,h.set,m1,m2,h.reck,h.nodup,h.hold,.when (gF _) (gF _) (gF _) ?_ ?_ ?_⟩
  .rw[List.take_length,List.take_length];exact h.set
  .rw[List.take_length,List.take_length];intro q hq;obtain⟨g,hg⟩:=Option.isSome_iff_exists.1 ((h.reck q).2 hq);exact⟨g,hg,(h.hold q g hg).1⟩
  .rw[List.take_length,List.take_length,List.take_length];exact h.opens
 .rw[FN (.inl e),FN (.inl (e1.trans e)),OV c s (e1.trans e)];unfold Aj at t3;rw[if_neg oM,if_pos e]at t3;simp only[Bool.and_eq_true,Bool.not_eq_true']at t3;obtain⟨X,O⟩:=x;obtain⟨X',O'⟩:=x';have ho:=h.opens;simp only at ho t3;obtain⟨ins,hold,reck,opn,left⟩:=s;simp only at ho;cases ho with
  |nil=>simp at t3
  |loop h9=>simp[An]at t3
  |@when _ _ _ o o' k p a a' m h1 h2 h3 h4 h5 h6=>
   have hl1:(k++[m]).getLastD 0=m:=sM;have hl2:(k++[m]).dropLast=k:=sM;unfold AF H5 NO;simp only[hl1,hl2,Bool.false_eq_true,if_false];have hnd:reck.Nodup:=h.nodup;have hk2:∀q∈reck.take m,(if q∈reck.drop m then none else hold q)=hold q:=fun q hq=>if_neg (KP hnd hq);refine⟨h.ty,h4,fun r hr=>m1 r (List.mem_of_mem_take hr),m2,fun q=>?_,(List.take_sublist _ _).nodup hnd,fun q g hq=>?_,?_⟩
   .simp only;by_cases hd:q∈reck.drop m
    .rw[if_pos hd];simp only[Option.isSome_none,Bool.false_eq_true,false_iff];exact fun hq=>KP hnd hq hd
    .rw[if_neg hd];rw[h.reck q];show q∈reck↔_;rw[<-List.take_append_drop m reck,List.mem_append];simp only[List.take_append_drop];exact⟨fun w=>w.resolve_right hd,.inl⟩
   .simp only at hq;by_cases hd:q∈reck.drop m
    .rw[if_pos hd]at hq;cases hq
    .rw[if_neg hd]at hq;have hqr:q∈reck:=(h.reck q).1 (by show(hold q).isSome=true;rw[hq];rfl);rw[<-List.take_append_drop m reck,List.mem_append]at hqr;obtain⟨g',hg',hgm⟩:=h5 q (hqr.resolve_right hd);rw[hq]at hg';obtain rfl:=Option.some.inj hg';exact⟨hgm,(h.hold q g hq).2⟩
   .have h7:=h6.grow (ins2:=ins) (hold2:=fun q=>if q∈reck.drop m then none else hold q) [] [] [] (fun _ _=>rfl) hk2;simpa using h7
 .have hst:B0 c s i'={s with left:=s.left++[i']}:=by
   unfold B0;rw[if_neg oM,if_neg oM,if_neg];intro q;have:=(C6 q.2).1;rw[hns']at this;cases this
  rw[hst,Mm e,Mm (e1.trans e),e2];exact⟨h.ty,h.set,m1,m2,h.reck,h.nodup,h.hold,.loop h.opens⟩
 .have hst:B0 c s i'={s with left:=s.left++[i']}:=by
   unfold B0;rw[if_neg oM,if_neg oM,if_neg];intro q;have:=(C6 q.2).1;rw[hns']at this;cases this
  rw[hst,FN (.inr e),FN (.inr (e1.trans e))];unfold Aj at t3;rw[if_neg oM,if_neg oM,if_pos e]at t3;obtain⟨X,O⟩:=x;obtain⟨X',O'⟩:=x';have ho:=h.opens;simp only at ho t3;clear hst;obtain⟨ins,hold,reck,opn,left⟩:=s;simp only at ho;cases ho with
  |nil=>simp[An]at t3
  |loop h9=>exact⟨h.ty,h.set,m1,m2,h.reck,h.nodup,h.hold,h9⟩
  |when h1 h2 h3 h4 h5 h6=>simp[An]at t3
theorem Mg{c:Cd}{L R:List Ad}{s:RW}{x x':Wk}{i:Ad}(h:F1 c L s x x')(hl:c.list=L++i::R)(t:Am c x i=true)(hh:Ds c s (A4 s i)=none):
 F1 c (L++[i]) (B0 c s (A4 s i)) (Ae x i) (Ae x' (A4 s i)):=by
 by_cases ho:i.op=34\/i.op=35\/i.op=36\/i.op=37
 .exact Tm h t rfl rfl ho
 have hop:(A4 s i).op=i.op:=rfl;have hdd:(A4 s i).d=i.d:=rfl;have hs':Ah (A4 s i)=Ah i:=rfl;obtain⟨m1,m2⟩:=h.more i;have hsx:Ae x i=CB x i (A3 i.op):=by
  unfold Ae CJ BA;rw[if_neg oM,if_neg oM]
 have hsx':Ae x' (A4 s i)=CB x' (A4 s i) (A3 i.op):=by
  unfold Ae CJ BA;rw[hop,if_neg oM,if_neg oM]
 rw[hsx,hsx'];cases hs:Ah i with
 |false=>
  have hst:B0 c s (A4 s i)={s with left:=s.left++[A4 s i]}:=by
   unfold B0;rw[if_neg QV,if_neg QV,if_neg];intro q;have:=(C6 q.2).1;rw[hs',hs]at this;cases this
  have na:CB x' (A4 s i) (A3 i.op)=x':=N9 (i:=A4 s i) (by rw[hs'];exact hs);rw[hst,N9 hs,na];exact⟨h.ty,h.set,m1,m2,h.reck,h.nodup,h.hold,h.opens⟩
 |true=>
  obtain⟨d0,d1⟩:=IF t hs;have hd0:(A3 i.op).d≠0:=by unfold Ah at hs;simpa using hs
  have hid:s.ins i.d.toNat=i.d.toNat:=by
   rcases h.same i.d.toNat with q|⟨q,j,hj,k1,k2⟩
   .exact q
   .rw[hl]at q;exact absurd k2 (FI hs q j hj k1)
  obtain⟨Y,hY,hYm⟩:∃Y,CB x i (A3 i.op)=⟨x.set++Y,x.opens⟩/\∀r∈Y,r=i.d.toNat:=by
   unfold CB;split
   .exact⟨[i.d.toNat],rfl,fun r hr=>by simpa using hr⟩
   .exact⟨[],sM,fun r hr=>by cases hr⟩
  obtain⟨Y',hY',hYm'⟩:∃Y,CB x' (A4 s i) (A3 i.op)=⟨x'.set++Y,x'.opens⟩/\i.d.toNat∈x'.set++Y:=by
   unfold CB;rw[hdd];split
   .exact⟨[i.d.toNat],rfl,sM⟩
   .rename_i q;refine⟨[],sM,?_⟩;rw[List.append_nil];exact Decidable.byContradiction fun e=>q ⟨hd0,e⟩
  rw[hY,hY'];have hset:∀r∈x.set++Y,s.ins r∈x'.set++Y':=fun r hr=>by
   rcases List.mem_append.1 hr with hr|hr
   .exact List.mem_append.2 (.inl (h.set r hr))
   .rw[hYm r hr,hid];exact hYm'
  have hwas:∀r∈x.set++Y,∃j∈L++[i],Ah j=true/\j.d.toNat=r:=fun r hr=>by
   rcases List.mem_append.1 hr with hr|hr
   .exact m1 r hr
   .exact⟨i,sM,hs,(hYm r hr).symm⟩
  by_cases hw:((A4 s i).op≠32/\(A4 s i).op≠3)/\FP c.list (A4 s i)=true
  .have hst:B0 c s (A4 s i)={s with left:=s.left++[A4 s i],hold:=fun r=>if r=L7 c (A4 s i)then some (A4 s i).d.toNat else s.hold r,reck:=s.reck++[L7 c (A4 s i)]}:=by
    unfold B0;rw[if_neg QV,if_neg QV,if_pos hw]
   have hno:s.hold (L7 c (A4 s i))=none:=by
    unfold Ds at hh;rw[if_pos hw.2,if_neg hw.1.2]at hh;exact hh
   have hnr:L7 c (A4 s i)∉s.reck:=fun q=>by
    have:=(h.reck _).2 q;rw[hno]at this;cases this
   rw[hst];refine⟨h.ty,hset,hwas,m2,fun q=>?_,?_,fun q g hq=>?_,?_⟩
   .simp only;by_cases e:q=L7 c (A4 s i)
    .rw[if_pos e];simp[e]
    .rw[if_neg e,h.reck q,List.mem_append];simp[e]
   .rw[List.nodup_append];refine⟨h.nodup,sM,fun a ha b hb=>?_⟩;simp at hb;subst hb;exact fun e=>hnr (e▸ha)
   .simp only at hq;by_cases e:q=L7 c (A4 s i)
    .rw[if_pos e,hdd]at hq;obtain rfl:=Option.some.inj hq;refine⟨hYm',oM,?_⟩;rw[e,<-I2 d0];rfl
    .rw[if_neg e]at hq;obtain⟨q1,q2⟩:=h.hold q g hq;exact⟨List.mem_append.2 (.inl q1),q2⟩
   .exact h.opens.grow Y Y' [L7 c (A4 s i)] (fun _ _=>rfl) (fun q hq=>if_neg (fun e:q=L7 c (A4 s i)=>hnr (e▸hq)))
  .have hst:B0 c s (A4 s i)={s with left:=s.left++[A4 s i]}:=by
    unfold B0;rw[if_neg QV,if_neg QV,if_neg hw]
   rw[hst];refine⟨h.ty,hset,hwas,m2,h.reck,h.nodup,fun q g hq=>?_,?_⟩
   .obtain⟨q1,q2⟩:=h.hold q g hq;exact⟨List.mem_append.2 (.inl q1),q2⟩
   .have:=h.opens.grow (ins2:=s.ins) (hold2:=s.hold) Y Y' [] (fun _ _=>rfl) (fun _ _=>rfl);simpa using this
def Hp(l:List Ad):List Nat:=(l.filter Ah).map fun i=>i.d.toNat
theorem PA(l m:List Ad):Hp (l++m)=Hp l++Hp m:=by unfold Hp;simp
end Go.Proofs.YtpoklpdgpcnkgaaGreat
