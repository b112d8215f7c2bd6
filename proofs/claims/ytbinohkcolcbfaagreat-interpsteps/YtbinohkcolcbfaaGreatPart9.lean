import Derived.Test.YtbinohkcolcbfaaGreatPart7
import Derived.Shelf.Small.Bits
import Derived.Test.YtbinohkcolcbfaaGreatPart4
import Derived.Test.YtbinohkcolcbfaaGreatPart1
namespace Go.Proofs.YtbinohkcolcbfaaGreat
open Go.RowKit Go.Proofs.Tryz
set_option linter.unusedVariables false
set_option linter.unusedSimpArgs false
set_option maxRecDepth 100000
set_option maxHeartbeats 16000000
theorem Zadg(a b:Int)(h0:0<=a)(h1:a<4294967296)(g0:0<=b)(g1:b<4294967296)(h:nNan a=true\/nNan b=true):fadd a b=2143289344:=by
 rcases h with h|h
 ·obtain⟨s,t,e⟩:=Zot a h0 h1 h;rw[Zlo a b e rfl];cases Ieee.single.read b.toNat<;>rfl
 ·obtain⟨s,t,e⟩:=Zot b g0 g1 h;rw[Zlo a b rfl e];cases Ieee.single.read a.toNat<;>rfl
theorem Zyh(a b:Int)(h0:0<=a)(h1:a<4294967296)(g0:0<=b)(g1:b<4294967296){s:Bool}{i:Int}(ra:Ieee.single.read a.toNat=.number s 0 i)(rb:Ieee.single.read b.toNat=.number (nMin b) (nM b).toNat (nE b))(hb:nM b≠0)(hb0:0<=nM b)(hi: -149<=i)(hj: -149<=nE b):
 fadd a b=(Ieee.single.nearest (nMin b) (nM b).toNat (nE b):Nat):=by
 rw[Zlo a b ra rb];simp only[Ieee.Datum.sum,Option.map_some,Ieee.Format.write];generalize hbase:min i (nE b)=base;have hz:Ieee.signed s 0 (i-base).toNat=0:=by unfold Ieee.signed;simp
 rw[hz,Int.zero_add,Ztm];have hP:(1:Int)<=2^(nE b-base).toNat:=Int.pow_pos dE;have hX:0<((nM b).toNat:Int)*2^(nE b-base).toNat:=Int.mul_pos oM oM;have e1:¬ (sgd (nMin b) (((nM b).toNat:Int)*2^(nE b-base).toNat)=0):=by
  unfold sgd;split<;>omega
 have e2:decide (sgd (nMin b) (((nM b).toNat:Int)*2^(nE b-base).toNat)<0)=nMin b:=by
  generalize ((nM b).toNat:Int)*2^(nE b-base).toNat=X at *;cases nMin b<;>simp only[sgd,if_true,if_false,Bool.false_eq_true]<;>simp<;>omega
 have e3:(sgd (nMin b) (((nM b).toNat:Int)*2^(nE b-base).toNat)).natAbs=(nM b).toNat*2^(nE b-base).toNat:=by
  have hc:(((nM b).toNat*2^(nE b-base).toNat:Nat):Int)=((nM b).toNat:Int)*2^(nE b-base).toNat:=by rw[Int.natCast_mul,Int.natCast_pow];rfl
  unfold sgd;split<;>omega
 rw[if_neg e1,e2,e3];show((Ieee.single.nearest (nMin b) _ base:Nat):Int)=_;rw[Zjw,Zjw,Zmb,Zkr];obtain⟨c,hc⟩:∃c:Nat,(c:Int)=base+149:=⟨(base+149).toNat,oM⟩
 obtain⟨d,hd⟩:∃d:Nat,(d:Int)=nE b+149:=⟨(nE b+149).toNat,oM⟩
 have r1:=Zacb ((nM b).toNat*2^(nE b-base).toNat) c;have r2:=Zacb (nM b).toNat d;rw[show -149+(c:Int)=base by omega]at r1;rw[show -149+(d:Int)=nE b by omega]at r2;rw[r1,r2,Nat.mul_assoc,←Nat.pow_add,show(nE b-base).toNat+c=d by omega]
theorem Zvg(a:Int)(h0:0<=a)(h1:a<4294967296)(b:Int)(g0:0<=b)(g1:b<4294967296)(w:World):
 Calls prog 125 #[.int .i64 a,.int .i64 b] w fun e w'=>e=.returned (.int .i64 (fadd a b))/\Below w.heap.size w w':=by
 cases hna:nNan a
 ·cases hnb:nNan b
  ·cases hia:nInf a
   ·obtain⟨ra,a1,a2,a3,a4,a5⟩:=Zki a h0 h1 hia hna;cases hib:nInf b
    ·obtain⟨rb,b1,b2,b3,b4,b5⟩:=Zki b g0 g1 hib hnb;by_cases za:nM a=0
     ·by_cases zb:nM b=0
      ·have hv:fadd a b=sgn (nMin a&&nMin b):=by
        rw[Zlo a b ra rb,za,zb];simp only[Ieee.Datum.sum,Option.map_some,Ieee.Format.write];have:Ieee.signed (nMin a) (0:Int).toNat (nE a-min (nE a) (nE b)).toNat+Ieee.signed (nMin b) (0:Int).toNat (nE b-min (nE a) (nE b)).toNat=0:=by unfold Ieee.signed;simp
        rw[this,if_pos rfl];exact Zqy _ _
       rw[hv];clear hv ra rb;cases hma:nMin a
       ·rw[Bool.false_and];exact Zad
       ·rw[Bool.true_and];exact Zad
      ·have hv:=Zyh a b h0 h1 g0 g1 (s:=nMin a) (i:=nE a) (by rw[ra,za];rfl) rb zb b1 a3 b3;rw[hv];clear hv ra rb;exact Zad
     ·by_cases zb:nM b=0
      ·have hv:=Zyh b a g0 g1 h0 h1 (s:=nMin b) (i:=nE b) (by rw[rb,zb];rfl) ra za a1 b3 a3;rw[Zzu,hv];clear hv ra rb;exact Zad
      ·by_cases hE:nE a<nE b
       ·have hv:fadd a b=sumv (nMin b) (nM b) (nE b) (nMin a) (nM a) (nE a):=by
         rw[Zzu,Zlo b a rb ra,Zaba _ _ _ _ _ _ oM b2 oM a2 a3 oM b5]
        exact Zbs
       ·have hv:fadd a b=sumv (nMin a) (nM a) (nE a) (nMin b) (nM b) (nE b):=by
         rw[Zlo a b ra rb,Zaba _ _ _ _ _ _ oM a2 oM b2 b3 oM a5]
        exact Zbs
    ·obtain⟨rb,-,b1⟩:=Zmk b g0 g1 hib;have hv:fadd a b=sgn (nMin b)+2139095040:=by rw[Zlo a b ra rb,←Zkz];rfl
     rw[hv];clear hv ra rb;exact Zad
   ·obtain⟨ra,-,a1⟩:=Zmk a h0 h1 hia;cases hib:nInf b
    ·obtain⟨rb,b1,b2,b3,b4,b5⟩:=Zki b g0 g1 hib hnb;have hv:fadd a b=sgn (nMin a)+2139095040:=by rw[Zlo a b ra rb,←Zkz];rfl
     rw[hv];clear hv ra rb;exact Zad
    ·obtain⟨rb,-,b1⟩:=Zmk b g0 g1 hib;cases hma:nMin a<;>cases hmb:nMin b<;>rw[hma]at ra<;>rw[hmb]at rb
     ·have hv:fadd a b=sgn false+2139095040:=by rw[Zlo a b ra rb,←Zkz];rfl
      rw[hv];clear hv ra rb;exact Zad
     ·have hv:fadd a b=2143289344:=by rw[Zlo a b ra rb];rfl
      rw[hv];clear hv ra rb;exact Zad
     ·have hv:fadd a b=2143289344:=by rw[Zlo a b ra rb];rfl
      rw[hv];clear hv ra rb;exact Zad
     ·have hv:fadd a b=sgn true+2139095040:=by rw[Zlo a b ra rb,←Zkz];rfl
      rw[hv];clear hv ra rb;exact Zad
  ·have hv:=Zadg a b h0 h1 g0 g1 (Or.inr hnb);rw[hv];clear hv;exact Zad
 ·have hv:=Zadg a b h0 h1 g0 g1 (Or.inl hna);rw[hv];clear hv;exact Zad
theorem Zuq(d e:Ieee.Datum)(h:d.isNaN=true):e.sum d=none:=by
 cases d<;>simp[Ieee.Datum.isNaN]at h
 cases e<;>rfl
theorem fsub_eq(a b:Int)(g0:0<=b)(g1:b<4294967296):fsub a b=fadd a (fneg b):=by
 cases hn:nan b
 ·rw[Zabw b g0 g1 hn];unfold fsub fadd Ieee.Format.sub Ieee.Format.add;rw[Int.toNat_natCast,Zalh _ oM]
 ·rw[Zabj b g0 g1 hn];have h2:2139095040<rg b.toNat:=by rw[Ztu b g0]at hn;simpa using hn
  unfold fsub fadd Ieee.Format.sub Ieee.Format.add;rw[Zli _ h2,show Ieee.single.read (2143289344:Int).toNat=.nan false 4194304 from by decide,Zuq _ _ rfl,Zuq _ _ rfl]
theorem Zapv(a:Int)(h0:0<=a)(h1:a<4294967296)(b:Int)(g0:0<=b)(g1:b<4294967296)(w:World):
 Calls prog 183 #[.int .i64 a,.int .i64 b] w fun e w'=>e=.returned (.int .i64 (fsub a b))/\Below w.heap.size w w':=by
 rw[fsub_eq a b g0 g1];have hl:=Zaeq b g0 g1;go_enter func183,ntmps183;go_wp2_with(first
  |(go_at_call 179;refine(Zaat _ g0 g1 _).mono ?_;rintro e w1 ⟨rfl,hb1⟩)
  |(go_at_call 125;refine(Zvg _ h0 h1 _ hl.1 hl.2 _).mono ?_;rintro e w2 ⟨rfl,hb2⟩))
 go_ret;exact⟨rfl,belV hb1 hb2⟩
theorem Zxl(C:Nat)(v0 v1 v2 v3:Value)(c:Cd)(hk:CdOk c)(w:World)(hc:CdAt w C v0 v1 v2 v3 c):
 Calls prog 31 #[.pointer (some ⟨C,0,none⟩)] w fun e w'=>e=.returned (.int .i64 (Zkw c))/\Below w.heap.size w w':=by
 have K1:=Zagk v0 c.sign hk.signL hk.names w hc.2.sign.rd;have K2:=fun w h=>Zxv C v0 v1 v2 v3 c hk w h;have K3:=fun w h=>Zxq C v0 v1 v2 v3 c hk w h;unfold Zkw;obtain⟨E,hE⟩:∃E,Ziz c.sign=E:=⟨_,rfl⟩
 obtain⟨X,hX⟩:∃X,Zif c=X:=⟨_,rfl⟩
 obtain⟨Y,hY⟩:∃Y,Zkc c=Y:=⟨_,rfl⟩
 simp only[hE]at K1 ⊢;simp only[hX]at K2 ⊢;simp only[hY]at K3 ⊢;have HC0:Hid (CdAt w C v0 v1 v2 v3 c):=hc;obtain⟨hcc,hcv⟩:=hc;have b1:=hk.regsL;have b2:=hk.slotsL;have b3:=hk.listL;obtain⟨p1,q1,rfl,r1⟩:=hcv.regs;obtain⟨p2,q2,rfl,r2⟩:=hcv.slots;obtain⟨p3,q3,rfl,r3⟩:=hcv.list;have c0:=hcc.at 0 rfl;have c1:=hcc.at 1 rfl;have c2:=hcc.at 2 rfl;have c3:=hcc.at 3 rfl;rw[Nat.zero_add]at c0 c1 c2 c3;obtain⟨N1,h1⟩:∃N,c.regs.length=N:=⟨_,rfl⟩
 obtain⟨N2,h2⟩:∃N,c.slots.length=N:=⟨_,rfl⟩
 obtain⟨N3,h3⟩:∃N,c.list.length=N:=⟨_,rfl⟩
 rw[h1]at K2 K3 c1 b1 HC0 ⊢;rw[h2]at K2 K3 c2 b2 HC0 ⊢;rw[h3]at K2 K3 c3 b3 HC0 ⊢;have HK1:Hid (Calls prog 50 #[v0] w fun e w'=>e=.returned (.int .i64 E)/\Below w.heap.size w w'):=K1;have HK2:Hid (∀w,CdAt w C v0 (.slice p1 N1 q1) (.slice p2 N2 q2) (.slice p3 N3 q3) c->Calls prog 51 #[.pointer (some ⟨C,0,none⟩)] w fun e w'=>e=.returned (.bool X)/\Below w.heap.size w w'):=K2;have HK3:Hid (∀w,CdAt w C v0 (.slice p1 N1 q1) (.slice p2 N2 q2) (.slice p3 N3 q3) c->Calls prog 52 #[.pointer (some ⟨C,0,none⟩)] w fun e w'=>e=.returned (.bool Y)/\Below w.heap.size w w'):=K3;have HC:Hid (∀v,Below w.heap.size w v->v.cell? ⟨C,1,none⟩=some (.slice p1 N1 q1)/\v.cell? ⟨C,2,none⟩=some (.slice p2 N2 q2)/\v.cell? ⟨C,3,none⟩=some (.slice p3 N3 q3)):=fun v hv=>⟨kc hv c1,kc hv c2,kc hv c3⟩
 clear K1 K2 K3 hE hX hY h1 h2 h3 r1 r2 r3 hcc hcv hk;by_cases hE:E=0
 ·subst hE;rw[if_neg sM];by_cases s1:16384<N1\/32768<N3
  ·rw[if_pos s1];by_cases s2:16384<N1
   ·have s2':(16384:Int)<(N1:Int):=oM;clear s1 s2;exact Zco
   ·have s2':¬ (16384:Int)<(N1:Int):=oM;have s3':(32768:Int)<(N3:Int):=oM;clear s1 s2;exact Zco
  ·rw[if_neg s1];have s2':¬ (16384:Int)<(N1:Int):=oM;have s3':¬ (32768:Int)<(N3:Int):=oM;clear s1;by_cases s4:4096<N2
   ·rw[if_pos s4];have s4':(4096:Int)<(N2:Int):=oM;clear s4;exact Zco
   ·rw[if_neg s4];have s4':¬ (4096:Int)<(N2:Int):=oM;clear s4;cases X
    ·go_enter func31,ntmps31;go_wp2_with(first
      |(go_at_call 50;refine HK1.out.mono ?_;rintro e w1 ⟨rfl,hb1⟩;obtain⟨d1,d2,d3⟩:=HC.out w1 hb1)
      |(go_at_call 51;refine(HK2.out _ (HC0.out.below hb1)).mono ?_;rintro e w2 ⟨rfl,hb2⟩;have HB2:=bel hb1 hb2)
      |(go_at_call 52;refine(HK3.out _ (HC0.out.below HB2)).mono ?_;rintro e w3 ⟨rfl,hb3⟩;have HB3:=bel HB2 hb3))
     all_goals(go_ret;exact⟨rfl,HB2⟩)
    ·cases Y
     ·exact Zci
     ·exact Zci
 ·rw[if_pos hE];have hE':(E==0)=false:=by simpa using hE
  go_enter func31,ntmps31;go_wp2_with(go_at_call 50;refine HK1.out.mono ?_;rintro e w1 ⟨rfl,hb1⟩)
  all_goals(go_ret;exact⟨rfl,hb1⟩)

end Go.Proofs.YtbinohkcolcbfaaGreat
set_option maxRecDepth 100000
set_option maxHeartbeats 16000000
namespace Go.Proofs.YtbinohkcolcbfaaGreat
open Go.RowKit Go.Shelf Go.Proofs.Tryz
set_option linter.unusedVariables false
def lenRen:Go.Shelf.Ren:=⟨fun|125=>138|128=>160|129=>161|n=>n,fun|3=>3|4=>4|5=>5|9=>9|46=>192|51=>42|53=>191|n=>n,fun n=>n⟩
theorem Zani:Lays.n125 prog lenRen where
 mixed:=kR
 f125:=func138.trans (congrArg some kR)
 f128:=func160.trans (congrArg some kR)
 f129:=func161.trans (congrArg some kR)
 t3:=underlying3
 a3:=Tryz.isAgg3
 z3:=Tryz.sizeOf3
 v3:=Tryz.zeroValue3
 t4:=underlying4
 a4:=Tryz.isAgg4
 z4:=Tryz.sizeOf4
 v4:=Tryz.zeroValue4
 t5:=underlying5
 a5:=Tryz.isAgg5
 z5:=Tryz.sizeOf5
 v5:=Tryz.zeroValue5
 t9:=underlying9
 a9:=Tryz.isAgg9
 z9:=Tryz.sizeOf9
 v9:=Tryz.zeroValue9
 t46:=underlying192
 a46:=Tryz.isAgg192
 z46:=Tryz.sizeOf192
 v46:=Tryz.zeroValue192
 t51:=underlying42
 a51:=Tryz.isAgg42
 z51:=Tryz.sizeOf42
 v51:=Tryz.zeroValue42
 t53:=underlying191
 a53:=Tryz.isAgg191
 z53:=Tryz.sizeOf191
 v53:=Tryz.zeroValue191
theorem Zaap:∀f x:Nat,x<2^f->Lib.bitLenAux f x=blen x
 |0,x,h=>by
  have:x=0:=by simpa using h
  subst this;rfl
 |f+1,x,h=>by
  unfold Lib.bitLenAux;by_cases c:x=0
  ·rw[if_pos c,c];rfl
  ·rw[if_neg c,Zaap f (x/2) (by rw[Nat.pow_succ]at h;omega),Zys x c];omega
theorem len_any(x:Int)(h0:0<=x)(h1:x<=18446744073709551615)(w:World):
 Calls prog 138 #[.int .u64 x] w fun e w'=>e=.returned (.int .i64 (blen x.toNat))/\w'=w:=by
 have h:=Any.bits_Len Zani x w h0 h1;have e:Lib.bitLen x.toNat=blen x.toNat:=by
  unfold Lib.bitLen;exact Zaap 64 _ (by have:(2:Nat)^64=18446744073709551616:=rfl;omega)
 rw[e]at h;exact h
end Go.Proofs.YtbinohkcolcbfaaGreat
namespace Go.Proofs.YtbinohkcolcbfaaGreat
open Go.RowKit Go.Proofs.Tryz
set_option linter.unusedVariables false
set_option linter.unusedSimpArgs false
set_option maxRecDepth 100000
set_option maxHeartbeats 16000000
def fpw(x n:Int):Nat->Int->Int
 |0,r=>r
 |k+1,r=>fpw x n k (if n/2^k%2=1 then fmul (fmul r r) x else fmul r r)
def fpow(x n:Int):Int:=if n<1 then 1065353216 else fpw x n (blen n.toNat-1) (canon x)
theorem Zadc(x n:Int):∀ (k:Nat) (r:Int),0<=r->r<4294967296->0<=fpw x n k r/\fpw x n k r<4294967296
 |0,r,h0,h1=>⟨h0,h1⟩
 |k+1,r,h0,h1=>by
  unfold fpw;split
  ·exact Zadc x n k _ (Znd _ _).1 (Znd _ _).2
  ·exact Zadc x n k _ (Znd _ _).1 (Znd _ _).2
theorem fpow_lo(x n:Int)(h0:0<=x)(h1:x<4294967296):0<=fpow x n/\fpow x n<4294967296:=by
 unfold fpow;split
 ·decide
 ·exact Zadc x n _ _ (Znp x h0 h1).1 (Znp x h0 h1).2
theorem Zaet(n:Int)(h0:0<=n)(h1:n<=9223372036854775807)(i:Nat):bits .and .i64 (n/2^i) 1=n/2^i%2:=by
 have e:n/2^i=((n.toNat/2^i:Nat):Int):=by
  rw[Int.natCast_ediv,Int.natCast_pow,Int.toNat_of_nonneg h0];rfl
 have hle:n.toNat/2^i<=n.toNat:=Nat.div_le_self ..;rw[e];generalize n.toNat/2^i=q at *;have hx:q&&& 1=q%2:=Nat.and_one_is_mod q;show IntKind.i64.wrap ((BitVec.ofInt 64 (q:Int)&&& BitVec.ofInt 64 ((1:Nat):Int)).toNat:Int)=_;rw[BitVec.toNat_and,ofInt_u64 q oM,ofInt_u64 1 dE,hx,IntKind.wrap_i64];omega
theorem pow_any(x:Int)(h0:0<=x)(h1:x<4294967296)(n:Int)(n0: -9223372036854775808<=n)(n1:n<=9223372036854775807)(w:World):
 Calls prog 109 #[.int .u32 x,.int .i64 n] w fun e w'=>e=.returned (.int .u32 (fpow x n))/\Below w.heap.size w w':=by
 unfold fpow;by_cases c:n<1
 ·rw[if_pos c];go_enter func109,ntmps109;go_wp2;go_ret;exact⟨rfl,Zkp _⟩
 ·rw[if_neg c];have hc:=Znp x h0 h1;have hc':0<=canon x/\canon x<4294967296:=hc;clear hc;have hB:1<=blen n.toNat/\blen n.toNat<=63:=by
   exact Zfd
  generalize hBB:blen n.toNat=B at *;generalize hP:fpw x n (B-1) (canon x)=P at *;have HP:Hid (fpw x n (B-1) (canon x)=P):=hP;clear hP;go_enter func109,ntmps109;go_wp2_with(first
   |(go_at_call 101;refine(Zmd _ oM oM _).mono ?_;rintro e w' ⟨rfl,hw'⟩;obtain rfl:=hw'.symm)
   |(go_at_call 138;refine(len_any _ oM oM _).mono ?_;rintro e w' ⟨rfl,hw'⟩;obtain rfl:=hw'.symm))
  go_loopw [5,6] (fun rv pv wr=>Below w.heap.size w wr/\∃ (j:Nat) (r:Int),j<=62/\rv=.int .u32 r/\pv=.int .i64 ((j:Int)-1)/\0<=r/\r<4294967296/\fpw x n j r=P) (fun _ pv _=>(intOf pv+1).toNat)
  case atStart=>exact⟨Zkp _,B-1,canon x,oM,rfl,by rw[show((B-1:Nat):Int)-1=(B:Int)-2 by omega],hc'.1,hc'.2,HP.out⟩
  case round=>
   obtain⟨hbel,j,r,hj,rfl,rfl,r0,r1,hr⟩:=hrel;have HR:Hid (fpw x n j r=P):=hr;clear hr;rcases Nat.eq_zero_or_pos j with hz|hz
   ·subst hz;have hPr:r=P:=HR.out;subst hPr;clear HR HP;go_wp2;go_ret;exact⟨rfl,hbel⟩
   ·obtain⟨i,rfl⟩:∃i,j=i+1:=⟨j-1,oM⟩
    rw[show((i+1:Nat):Int)-1=(i:Int) by omega];have hbit:=Zaet n oM n1 i;have l1:=Znd r r;have l2:=Znd (fmul r r) x;by_cases cb:n/2^i%2=1
    ·go_wp2_with(go_at_call 139;refine(Zwz _ oM oM _ oM oM _).mono ?_;rintro e w2 ⟨rfl,hb2⟩);exact Zdp
    ·go_wp2_with(go_at_call 139;refine(Zwz _ oM oM _ oM oM _).mono ?_;rintro e w2 ⟨rfl,hb2⟩);exact Zdq
theorem Zaqm(x:Int)(h0:0<=x)(h1:x<4294967296)(n:Int)(n0: -9223372036854775808<=n)(n1:n<=9223372036854775807)(w:World):
 Calls prog 79 #[.int .i64 x,.int .i64 n] w fun e w'=>e=.returned (.int .i64 (fpow x n))/\Below w.heap.size w w':=by
 unfold fpow;by_cases c:n<1
 ·rw[if_pos c];go_enter func79,ntmps79;go_wp2;go_ret;exact⟨rfl,Zkp _⟩
 ·rw[if_neg c];have hc:=Znp x h0 h1;have hc':0<=canon x/\canon x<4294967296:=hc;clear hc;have hB:1<=blen n.toNat/\blen n.toNat<=63:=by
   exact Zfd
  generalize hBB:blen n.toNat=B at *;generalize hP:fpw x n (B-1) (canon x)=P at *;have HP:Hid (fpw x n (B-1) (canon x)=P):=hP;clear hP;go_enter func79,ntmps79;go_wp2_with(first
   |(go_at_call 103;refine(Zrn _ oM oM _).mono ?_;rintro e w1 ⟨rfl,hb1⟩)
   |(go_at_call 122;refine(Zqj _ oM oM _).mono ?_;rintro e w' ⟨rfl,hw'⟩;obtain rfl:=hw'.symm))
  go_loopw [5,6] (fun rv pv wr=>Below w.heap.size w wr/\∃ (j:Nat) (r:Int),j<=62/\rv=.int .i64 r/\pv=.int .i64 ((j:Int)-1)/\0<=r/\r<4294967296/\fpw x n j r=P) (fun _ pv _=>(intOf pv+1).toNat)
  case atStart=>exact⟨hb1,B-1,canon x,oM,rfl,by rw[show((B-1:Nat):Int)-1=(B:Int)-2 by omega],hc'.1,hc'.2,HP.out⟩
  case round=>
   obtain⟨hbel,j,r,hj,rfl,rfl,r0,r1,hr⟩:=hrel;have HR:Hid (fpw x n j r=P):=hr;clear hr;rcases Nat.eq_zero_or_pos j with hz|hz
   ·subst hz;have hPr:r=P:=HR.out;subst hPr;clear HR HP;go_wp2;go_ret;exact⟨rfl,hbel⟩
   ·obtain⟨i,rfl⟩:∃i,j=i+1:=⟨j-1,oM⟩
    rw[show((i+1:Nat):Int)-1=(i:Int) by omega];have hbit:=Zaet n oM n1 i;have l1:=Znd r r;have l2:=Znd (fmul r r) x;by_cases cb:n/2^i%2=1
    ·go_wp2_with(go_at_call 123;refine(Zvi _ oM oM _ oM oM _).mono ?_;rintro e w2 ⟨rfl,hb2⟩);exact Zdp
    ·go_wp2_with(go_at_call 123;refine(Zvi _ oM oM _ oM oM _).mono ?_;rintro e w2 ⟨rfl,hb2⟩);exact Zdq
end Go.Proofs.YtbinohkcolcbfaaGreat
