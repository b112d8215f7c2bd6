import Derived.Test.YtbinohkcolcbfaaGreatPart12
import Derived.Test.YtbinohkcolcbfaaGreatPart8
import Derived.Deep.Draws
import Derived.Laws.ComplexArith
import Derived.Deep.RegionHeld3
import Derived.Deep.DeepCutAuto
import Derived.Handy
import Derived.Deep.OwnRows
import Derived.OwnWalk
import Derived.Deep.QuietTactic
import Derived.BigQuiet
import Derived.Deep.AppendLies
import Derived.Test.YtbinohkcolcbfaaGreatPart9
import Derived.Shelf.Abstract
import Derived.Maps.AppendAt
import Derived.Laws.AppendOwnNone
import Derived.Shelf.Small.Bits
import Derived.Test.YtbinohkcolcbfaaGreatPart2
import Derived.Test.YtbinohkcolcbfaaGreatPart1
namespace Go.Proofs.YtbinohkcolcbfaaGreat
open Go.RowKit Go.Proofs.Tryz
set_option linter.unusedVariables false
set_option linter.unusedSimpArgs false
set_option maxRecDepth 100000
set_option maxHeartbeats 16000000
theorem Zaao(a b:Int)(h0:0<=a)(h1:a<4294967296)(g0:0<=b)(g1:b<4294967296)(h:nNan a=true\/nNan b=true):fdiv a b=2143289344:=by
 rcases h with h|h
 ·obtain⟨s,t,e⟩:=Zon a h0 h1 h;rw[Zoa a b e rfl];cases Ieee.single.read b.toNat<;>rfl
 ·obtain⟨s,t,e⟩:=Zon b g0 g1 h;rw[Zoa a b rfl e];cases Ieee.single.read a.toNat<;>rfl
theorem Zaim(s:Bool):((Ieee.single.write (.number s 0 0):Nat):Int)=sgn s:=by cases s<;>decide
theorem quot_lo(A B:Int)(h1:8388608<=A)(h2:A<16777216)(h3:8388608<=B)(h4:B<16777216):0<=A*274877906944/B/\A*274877906944/B<1099511627776/\0<=A*274877906944%B/\A*274877906944%B<16777216:=by
 have e:=Int.mul_ediv_add_emod (A*274877906944) B;have r0:=Int.emod_nonneg (A*274877906944) (show B≠0 by omega);have r1:=Int.emod_lt_of_pos (A*274877906944) (show 0<B by omega);have q0:0<=A*274877906944/B:=Int.ediv_nonneg oM oM;refine⟨q0,?_,r0,oM⟩;apply Int.ediv_lt_of_lt_mul oM;omega
theorem Zapr(a:Int)(h0:0<=a)(h1:a<4294967296)(b:Int)(g0:0<=b)(g1:b<4294967296)(w:World):
 Calls prog 184 #[.int .i64 a,.int .i64 b] w fun e w'=>e=.returned (.int .i64 (fdiv a b))/\Below w.heap.size w w':=by
 cases hna:nNan a
 ·cases hnb:nNan b
  ·cases hia:nInf a
   ·obtain⟨ra,a1,a2,a3,a4,a5⟩:=Zki a h0 h1 hia hna;cases hib:nInf b
    ·obtain⟨rb,b1,b2,b3,b4,b5⟩:=Zki b g0 g1 hib hnb;by_cases zb:nM b=0
     ·by_cases za:nM a=0
      ·have hv:fdiv a b=2143289344:=by rw[Zoa a b ra rb,za,zb];rfl
       rw[hv];clear hv ra rb;exact Zah
      ·have hv:fdiv a b=sgn (nMin a != nMin b)+2139095040:=by
        rw[Zoa a b ra rb,zb,←Zkz,←Zne];have:(nM a).toNat≠0:=oM;simp only[Ieee.Datum.quotient,if_neg this,Int.toNat_zero,if_true];rfl
       rw[hv];clear hv ra rb;exact Zah
     ·by_cases za:nM a=0
      ·have hv:fdiv a b=sgn (nMin a != nMin b):=by
        rw[Zoa a b ra rb,za,←Zne];have:(nM b).toNat≠0:=oM;simp only[Ieee.Datum.quotient,if_neg this,Int.toNat_zero,Nat.zero_shiftLeft,Nat.zero_div,Nat.zero_mod];exact Zqy _ _
       rw[hv];clear hv ra rb;exact Zah
      ·obtain⟨ka,A1,A2⟩:=Zpa (nM a) oM a2;obtain⟨kb,B1,B2⟩:=Zpa (nM b) oM b2;obtain⟨A,hA⟩:∃A,nM a*2^nk (nM a)=A:=⟨_,rfl⟩
       obtain⟨B,hB⟩:∃B,nM b*2^nk (nM b)=B:=⟨_,rfl⟩
       have hv:=Zans a b h0 h1 g0 g1 hia hna hib hnb za zb A B hA hB;rw[hA]at A1 A2;rw[hB]at B1 B2;have hq:=quot_lo A B A1 A2 B1 B2;obtain⟨EA,hEA⟩:∃EA,nE a-(nk (nM a):Int)=EA:=⟨_,rfl⟩
       obtain⟨EB,hEB⟩:∃EB,nE b-(nk (nM b):Int)=EB:=⟨_,rfl⟩
       rw[hEA,hEB]at hv;have eb: -172<=EA/\EA<=104/\-172<=EB/\EB<=104:=oM;rw[hv];clear hv ra rb a5 b5;obtain⟨q,hqq⟩:∃q,A*274877906944/B=q:=⟨_,rfl⟩
       obtain⟨r,hrr⟩:∃r,A*274877906944%B=r:=⟨_,rfl⟩
       rw[hqq,hrr]at hq ⊢;have hdiv:(A*274877906944).tdiv B=q:=by rw[←hqq,Int.tdiv_eq_ediv_of_nonneg oM]
       have hmod:(A*274877906944).tmod B=r:=by rw[←hrr,Int.tmod_eq_emod_of_nonneg oM]
       by_cases zr:r=0
       ·rw[if_pos zr];exact Zbw
       ·rw[if_neg zr];exact Zbw
    ·obtain⟨rb,-,b1⟩:=Zmk b g0 g1 hib;have hv:fdiv a b=sgn (nMin a != nMin b):=by rw[Zoa a b ra rb,←Zaim,←Zne];rfl
     rw[hv];clear hv ra rb;by_cases za:nM a=0
     ·skip
      exact Zah
     ·skip
      exact Zah
   ·obtain⟨ra,-,a1⟩:=Zmk a h0 h1 hia;cases hib:nInf b
    ·obtain⟨rb,b1,b2,b3,b4,b5⟩:=Zki b g0 g1 hib hnb;have hv:fdiv a b=sgn (nMin a != nMin b)+2139095040:=by rw[Zoa a b ra rb,←Zkz,←Zne];rfl
     rw[hv];clear hv ra rb;exact Zah
    ·obtain⟨rb,-,b1⟩:=Zmk b g0 g1 hib;have hv:fdiv a b=2143289344:=by rw[Zoa a b ra rb];rfl
     rw[hv];clear hv ra rb;exact Zah
  ·have hv:=Zaao a b h0 h1 g0 g1 (Or.inr hnb);rw[hv];clear hv;exact Zah
 ·have hv:=Zaao a b h0 h1 g0 g1 (Or.inl hna);rw[hv];clear hv;exact Zah
theorem Zabf(a b:Int)(h0:0<=a)(h1:a<4294967296)(g0:0<=b)(g1:b<4294967296)(h:nNan a=true\/nNan b=true):fadd a b=2143289344:=by
 rcases h with h|h
 ·obtain⟨s,t,e⟩:=Zon a h0 h1 h;rw[Zlo a b e rfl];cases Ieee.single.read b.toNat<;>rfl
 ·obtain⟨s,t,e⟩:=Zon b g0 g1 h;rw[Zlo a b rfl e];cases Ieee.single.read a.toNat<;>rfl
theorem Zzj(a b:Int)(h0:0<=a)(h1:a<4294967296)(g0:0<=b)(g1:b<4294967296){s:Bool}{i:Int}(ra:Ieee.single.read a.toNat=.number s 0 i)(rb:Ieee.single.read b.toNat=.number (nMin b) (nM b).toNat (nE b))(hb:nM b≠0)(hb0:0<=nM b)(hi: -149<=i)(hj: -149<=nE b):
 fadd a b=(Ieee.single.nearest (nMin b) (nM b).toNat (nE b):Nat):=by
 rw[Zlo a b ra rb];simp only[Ieee.Datum.sum,Option.map_some,Ieee.Format.write];generalize hbase:min i (nE b)=base;have hz:Ieee.signed s 0 (i-base).toNat=0:=by unfold Ieee.signed;simp
 rw[hz,Int.zero_add,Ztv];have hP:(1:Int)<=2^(nE b-base).toNat:=Int.pow_pos dE;have hX:0<((nM b).toNat:Int)*2^(nE b-base).toNat:=Int.mul_pos oM oM;have e1:¬ (sgd (nMin b) (((nM b).toNat:Int)*2^(nE b-base).toNat)=0):=by
  unfold sgd;split<;>omega
 have e2:decide (sgd (nMin b) (((nM b).toNat:Int)*2^(nE b-base).toNat)<0)=nMin b:=by
  generalize ((nM b).toNat:Int)*2^(nE b-base).toNat=X at *;cases nMin b<;>simp only[sgd,if_true,if_false,Bool.false_eq_true]<;>simp<;>omega
 have e3:(sgd (nMin b) (((nM b).toNat:Int)*2^(nE b-base).toNat)).natAbs=(nM b).toNat*2^(nE b-base).toNat:=by
  have hc:(((nM b).toNat*2^(nE b-base).toNat:Nat):Int)=((nM b).toNat:Int)*2^(nE b-base).toNat:=by rw[Int.natCast_mul,Int.natCast_pow];rfl
  unfold sgd;split<;>omega
 rw[if_neg e1,e2,e3];show((Ieee.single.nearest (nMin b) _ base:Nat):Int)=_;rw[Zjw,Zjw,Zmb,Zkr];obtain⟨c,hc⟩:∃c:Nat,(c:Int)=base+149:=⟨(base+149).toNat,oM⟩
 obtain⟨d,hd⟩:∃d:Nat,(d:Int)=nE b+149:=⟨(nE b+149).toNat,oM⟩
 have r1:=Zacc ((nM b).toNat*2^(nE b-base).toNat) c;have r2:=Zacc (nM b).toNat d;rw[show -149+(c:Int)=base by omega]at r1;rw[show -149+(d:Int)=nE b by omega]at r2;rw[r1,r2,Nat.mul_assoc,←Nat.pow_add,show(nE b-base).toNat+c=d by omega]
theorem Zvd(a:Int)(h0:0<=a)(h1:a<4294967296)(b:Int)(g0:0<=b)(g1:b<4294967296)(w:World):
 Calls prog 125 #[.int .i64 a,.int .i64 b] w fun e w'=>e=.returned (.int .i64 (fadd a b))/\Below w.heap.size w w':=by
 cases hna:nNan a
 ·cases hnb:nNan b
  ·cases hia:nInf a
   ·obtain⟨ra,a1,a2,a3,a4,a5⟩:=Zki a h0 h1 hia hna;cases hib:nInf b
    ·obtain⟨rb,b1,b2,b3,b4,b5⟩:=Zki b g0 g1 hib hnb;by_cases za:nM a=0
     ·by_cases zb:nM b=0
      ·have hv:fadd a b=sgn (nMin a&&nMin b):=by
        rw[Zlo a b ra rb,za,zb];simp only[Ieee.Datum.sum,Option.map_some,Ieee.Format.write];have:Ieee.signed (nMin a) (0:Int).toNat (nE a-min (nE a) (nE b)).toNat+Ieee.signed (nMin b) (0:Int).toNat (nE b-min (nE a) (nE b)).toNat=0:=by unfold Ieee.signed;simp
        rw[this,if_pos rfl];exact Zqy _ _
       rw[hv];clear hv ra rb;cases hma:nMin a
       ·rw[Bool.false_and];exact Zad
       ·rw[Bool.true_and];exact Zad
      ·have hv:=Zzj a b h0 h1 g0 g1 (s:=nMin a) (i:=nE a) (by rw[ra,za];rfl) rb zb b1 a3 b3;rw[hv];clear hv ra rb;exact Zad
     ·by_cases zb:nM b=0
      ·have hv:=Zzj b a g0 g1 h0 h1 (s:=nMin b) (i:=nE b) (by rw[rb,zb];rfl) ra za a1 b3 a3;rw[Zzg,hv];clear hv ra rb;exact Zad
      ·by_cases hE:nE a<nE b
       ·have hv:fadd a b=sumv (nMin b) (nM b) (nE b) (nMin a) (nM a) (nE a):=by
         rw[Zzg,Zlo b a rb ra,Zadg _ _ _ _ _ _ oM b2 oM a2 a3 oM b5]
        exact Zbs
       ·have hv:fadd a b=sumv (nMin a) (nM a) (nE a) (nMin b) (nM b) (nE b):=by
         rw[Zlo a b ra rb,Zadg _ _ _ _ _ _ oM a2 oM b2 b3 oM a5]
        exact Zbs
    ·obtain⟨rb,-,b1⟩:=Zmk b g0 g1 hib;have hv:fadd a b=sgn (nMin b)+2139095040:=by rw[Zlo a b ra rb,←Zkz];rfl
     rw[hv];clear hv ra rb;exact Zad
   ·obtain⟨ra,-,a1⟩:=Zmk a h0 h1 hia;cases hib:nInf b
    ·obtain⟨rb,b1,b2,b3,b4,b5⟩:=Zki b g0 g1 hib hnb;have hv:fadd a b=sgn (nMin a)+2139095040:=by rw[Zlo a b ra rb,←Zkz];rfl
     rw[hv];clear hv ra rb;exact Zad
    ·obtain⟨rb,-,b1⟩:=Zmk b g0 g1 hib;cases hma:nMin a<;>cases hmb:nMin b<;>rw[hma]at ra<;>rw[hmb]at rb
     ·have hv:fadd a b=sgn false+2139095040:=by rw[Zlo a b ra rb,←Zkz];rfl
      rw[hv];clear hv ra rb;exact Zad
     ·have hv:fadd a b=2143289344:=by rw[Zlo a b ra rb];rfl
      rw[hv];clear hv ra rb;exact Zad
     ·have hv:fadd a b=2143289344:=by rw[Zlo a b ra rb];rfl
      rw[hv];clear hv ra rb;exact Zad
     ·have hv:fadd a b=sgn true+2139095040:=by rw[Zlo a b ra rb,←Zkz];rfl
      rw[hv];clear hv ra rb;exact Zad
  ·have hv:=Zabf a b h0 h1 g0 g1 (Or.inr hnb);rw[hv];clear hv;exact Zad
 ·have hv:=Zabf a b h0 h1 g0 g1 (Or.inl hna);rw[hv];clear hv;exact Zad
theorem Zus(d e:Ieee.Datum)(h:d.isNaN=true):e.sum d=none:=by
 cases d<;>simp[Ieee.Datum.isNaN]at h
 cases e<;>rfl
theorem fsub_eq(a b:Int)(g0:0<=b)(g1:b<4294967296):fsub a b=fadd a (fneg b):=by
 cases hn:nan b
 ·rw[Zacq b g0 g1 hn];unfold fsub fadd Ieee.Format.sub Ieee.Format.add;rw[Int.toNat_natCast,Zamh _ oM]
 ·rw[Zaaw b g0 g1 hn];have h2:2139095040<rg b.toNat:=by rw[Ztu b g0]at hn;simpa using hn
  unfold fsub fadd Ieee.Format.sub Ieee.Format.add;rw[Zli _ h2,show Ieee.single.read (2143289344:Int).toNat=.nan false 4194304 from by decide,Zus _ _ rfl,Zus _ _ rfl]
theorem Zanv(a:Int)(h0:0<=a)(h1:a<4294967296)(b:Int)(g0:0<=b)(g1:b<4294967296)(w:World):
 Calls prog 183 #[.int .i64 a,.int .i64 b] w fun e w'=>e=.returned (.int .i64 (fsub a b))/\Below w.heap.size w w':=by
 rw[fsub_eq a b g0 g1];have hl:=Zafb b g0 g1;go_enter func183,ntmps183;go_wp2_with(first
  |(go_at_call 179;refine(Zacj _ g0 g1 _).mono ?_;rintro e w1 ⟨rfl,hb1⟩)
  |(go_at_call 125;refine(Zvd _ h0 h1 _ hl.1 hl.2 _).mono ?_;rintro e w2 ⟨rfl,hb2⟩))
 go_ret;exact⟨rfl,belV hb1 hb2⟩
end Go.Proofs.YtbinohkcolcbfaaGreat
set_option maxRecDepth 100000
set_option maxHeartbeats 16000000
namespace Go.Proofs.YtbinohkcolcbfaaGreat
open Go.RowKit Go.Proofs.Tryz
set_option linter.unusedVariables false
def dn(o:Option Nat):Nat:=match o with
 |some _=>0
 |none=>1
section
variable {P : Program} (w : World)
end
section
variable (w : World) (n : Nat)
@[go_sem] theorem alloc_drewN (o:Obj):(w.drewN n).alloc o=(w.alloc o).drewN n:=rfl
@[go_sem] theorem setCell_drewN (a:Addr) (v:Value):(w.drewN n).setCell a v=(w.setCell a v).drewN n:=rfl
end
end Go.Proofs.YtbinohkcolcbfaaGreat
set_option maxRecDepth 100000
set_option maxHeartbeats 16000000
namespace Go.Proofs.YtbinohkcolcbfaaGreat
open Go.RowKit Go.Proofs.Tryz
set_option linter.unusedVariables false
theorem Zkk{w:World}{a:Addr}{v:Value}(h:w.cell? a=some v):a.block<w.heap.size:=by
 rcases Nat.lt_or_ge a.block w.heap.size with c|c
 ·exact c
 ·have:w.heap[a.block]? =none:=Array.getElem?_eq_none c;simp[World.cell?,this]at h
theorem Zjd(w:World)(o:Obj):Below w.heap.size w (w.alloc o):=(Below.refl _ _).alloc (Nat.le_refl _) o
section
variable {w : World} {cs : List (Addr × Value)} {g : Nat} {x y : Value} {v v' : World}
end
end Go.Proofs.YtbinohkcolcbfaaGreat
namespace Go.Proofs.YtbinohkcolcbfaaGreat
open Go.RowKit Go.Proofs.Tryz
set_option linter.unusedVariables false
set_option linter.unusedSimpArgs false
set_option maxRecDepth 100000
set_option maxHeartbeats 16000000
def Zio(w:World)(p:Option Addr)(n:Nat)(X:Nat->Value):Prop:=n=0\/∃b o,p=some ⟨b,o,none⟩/\∀i,i<n->w.cell? ⟨b,o+i,none⟩=some (X i)
theorem Zio.below{w w':World}{p:Option Addr}{n:Nat}{X:Nat->Value}(h:Zio w p n X)(k:Below w.heap.size w w'):Zio w' p n X:=by
 rcases h with h|⟨b,o,e,h⟩
 ·exact .inl h
 ·exact .inr ⟨b,o,e,fun i hi=>(k.cell (Zkk (h i hi))).trans (h i hi)⟩
theorem Zio.congr{w:World}{p:Option Addr}{n:Nat}{X Y:Nat->Value}(h:Zio w p n X)(e:∀i,i<n->X i=Y i):Zio w p n Y:=by
 rcases h with h|⟨b,o,q,h⟩
 ·exact .inl h
 ·exact .inr ⟨b,o,q,fun i hi=>by rw[h i hi,e i hi]⟩
theorem Zakp{w w':World}{g:Nat}{t:TypeId}{n:Nat}{X:Nat->Value}(h:w.rowIs g t n X)(k:Below w.heap.size w w'):w'.rowIs g t n X:=h.of_block (k.block g h.lt)
theorem info_F:(prog.info? 43).map (fun i=>(i.zero,i.size,i.bytes))=some (some (.int .u32 0),1,4):=kR
theorem Zwr(m:Nat)(h:m<=70368744177664)(w:World):(Instr.makeSlice 57 (.int .i64 m) (.int .i64 m)).run prog w=.ok (.slice (some ⟨w.heap.size,0,none⟩) m m) (w.alloc (.cells (madeCells #[.int .u32 0] m) 43)):=
 run_make_row' (P:=prog) 57 43 (.int .u32 0) 4 underlying57 info_F rfl .i64 .i64 m oM oM w

def nums(X:Nat->Int)(n:Nat):List Value:=(List.range n).map fun i=>.int .u32 (X i)
def IsP(a:Int):Prop:=0<=a/\a<4294967296
theorem Zna(a:Int)(h:IsP a):IsP (canon a):=Znn a h.1 h.2
theorem Zxe(a b:Int):IsP (fadd a b):=Zafm a b
theorem isP_sub(a b:Int):IsP (fsub a b):=fsub_lo a b
theorem isP_mul(a b:Int):IsP (fmul a b):=Znf a b
theorem isP_div(a b:Int):IsP (fdiv a b):=fdiv_lo a b
theorem Zano(a:Int):IsP (Zkt a):=Zamx a
theorem isP_neg(a:Int)(h:IsP a):IsP (fneg a):=Zafb a h.1 h.2
theorem isP_abs(a:Int)(h:IsP a):IsP (fabs a):=Znn _ (by have:=h.1;omega) (by have:=h.1;omega)
theorem Zug(a b:Int)(h:IsP a)(k:IsP b):IsP (fmin a b):=by
 have h1:=h.1;have h2:=h.2;have k1:=k.1;have k2:=k.2;unfold IsP fmin;split
 ·decide
 ·exact h
 ·exact k
 ·split
  ·exact h
  ·exact k
theorem isP_max(a b:Int)(h:IsP a)(k:IsP b):IsP (fmax a b):=by
 have h1:=h.1;have h2:=h.2;have k1:=k.1;have k2:=k.2;unfold IsP fmax;split
 ·decide
 ·exact k
 ·exact h
 ·split
  ·exact k
  ·exact h
theorem isP_sel(c a b:Int)(h:IsP a)(k:IsP b):IsP (fsel c a b):=by
 unfold fsel;split
 ·exact Zna b k
 ·exact Zna a h
def Zpv(f:Int->Int->Int)(s:Int)(X:Nat->Int):Nat->Int
 |0=>s
 |n+1=>f (Zpv f s X n) (X n)
theorem Zom{f:Int->Int->Int}(hf:∀a b,IsP a->IsP b->IsP (f a b)){s:Int}(hs:IsP s){X:Nat->Int}(hX:∀i,IsP (X i)):∀n,IsP (Zpv f s X n)
 |0=>hs
 |n+1=>hf _ _ (Zom hf hs hX n) (hX n)
def fsum(X:Nat->Int)(n:Nat):Int:=Zpv fadd 0 X n
def Zmh(X:Nat->Int)(n:Nat):Int:=Zpv fmin 2139095040 X n
theorem Zpw:IsP 0:=by unfold IsP;decide
theorem isP_sum(X:Nat->Int)(n:Nat)(hX:∀i,IsP (X i)):IsP (fsum X n):=Zom (fun _ _ _ _=>Zafm _ _) Zpw hX n
def Zjq(op:Int):Nat:=
 if op=3\/op=11\/op=12\/op=13\/op=14 then 1 else if op=4\/op=5\/op=6\/op=7\/op=8\/op=9\/op=10 then 2 else if op=15 then 3 else 0
def flag(b:Bool):Int:=if b then 1065353216 else 0
theorem Zaby(b:Bool):IsP (flag b):=by unfold IsP flag;cases b<;>decide
theorem Zkd{c:Prop}[Decidable c]{a b:Int}(h:IsP a)(k:IsP b):IsP (if c then a else b):=by
 split
 ·exact h
 ·exact k
def opf(op a b c:Int):Int:=
 if op=3 then canon a else if op=11 then Zkt a else if op=12 then fneg a else if op=13 then fabs a else if op=14 then flag (ffin a)
 else if op=4 then fadd a b else if op=5 then fsub a b else if op=6 then fmul a b else if op=7 then fdiv a b else if op=8 then fmin a b else if op=9 then fmax a b
 else if op=10 then flag (Zpf a b)else fsel a b c
theorem Zxw(op a b c:Int)(ha:IsP a)(hb:IsP b)(hc:IsP c):IsP (opf op a b c):=
 Zkd (Zna a ha) (Zkd (Zano a) (Zkd (isP_neg a ha) (Zkd (isP_abs a ha) (Zkd (Zaby _) (Zkd (Zxe a b) (Zkd (isP_sub a b) (Zkd (isP_mul a b)
  (Zkd (isP_div a b) (Zkd (Zug a b ha hb) (Zkd (isP_max a b ha hb) (Zkd (Zaby _) (isP_sel a b c hb hc))))))))))))
def EntV(k:Nat):Prop:=∀ (args:Array Value) (w:World),(callFunc k args).run prog w=.ok (.enter k args) w
theorem Zvz(k:Nat)(hen:EntV k)(f:Int->Int->Int)(hf:∀a b,IsP a->IsP b->IsP (f a b))
 (hk:∀a b (v:World),IsP a->IsP b->Calls prog k #[.int .u32 a,.int .u32 b] v fun e v'=>e=.returned (.int .u32 (f a b))/\Below v.heap.size v v')
 (s:Int) (hs:IsP s) (p:Option Addr) (n c:Nat) (X:Nat->Int) (hX:∀i,IsP (X i)) (hn:n<=1048576) (w:World) (hp:Zio w p n (fun i=>.int .u32 (X i))):
 Calls prog 141 #[.int .u32 s,.slice p n c,.func (.func k) #[] #[]] w fun e w'=>e=.returned (.int .u32 (Zpv f s X n))/\Below w.heap.size w w':=by
 unfold EntV at hen;go_enter func141,ntmps141;go_wp2
 go_loopw [0,11] (fun sv iv wr=>Below w.heap.size w wr/\∃j:Nat,j<=n/\iv=.int .i64 j/\sv=.int .u32 (Zpv f s X j)) (fun _ iv _=>n-(intOf iv).toNat)
 case atStart=>exact⟨Zkp w,0,Nat.zero_le _,rfl,rfl⟩
 case round=>
  obtain⟨hb,j,hj,rfl,rfl⟩:=hrel;by_cases hlt:j<n
  ·rcases hp with hp|⟨b,o,rfl,hp⟩
   ·omega
   have hbl:b<w.heap.size:=Zkk (hp j hlt);have h1:wr.cell? ⟨b,o+j,none⟩=some (.int .u32 (X j)):=(hb.cell hbl).trans (hp j hlt);have i1:(0:Int)<=(j:Int):=oM;have i2:(j:Int)<(n:Int):=oM;have hk1:=hk (Zpv f s X j) (X j) wr (Zom hf hs hX j) (hX j);have HK:Hid (Calls prog k #[.int .u32 (Zpv f s X j),.int .u32 (X j)] wr fun e v'=>e=.returned (.int .u32 (Zpv f s X (j+1)))/\Below wr.heap.size wr v'):=hk1;clear hp hk hk1;go_wp2_with((with_reducible refine HK.out.mono ?_);rintro e w1 ⟨rfl,hb1⟩);exact Zeb
  ·have:j=n:=oM;subst this;clear hp hk;go_wp2;go_ret;exact⟨rfl,hb⟩
theorem sum_any(p:Option Addr)(n c:Nat)(X:Nat->Int)(hX:∀i,IsP (X i))(hn:n<=1048576)(w:World)(hp:Zio w p n (fun i=>.int .u32 (X i))):
 Calls prog 111 #[.slice p n c] w fun e w'=>e=.returned (.int .u32 (fsum X n))/\Below w.heap.size w w':=by
 go_enter func111,ntmps111;go_wp2_with(go_at_call 141;refine(Zvz 142 (enters_of func142 kR rfl) fadd (fun _ _ _ _=>Zxe _ _) (fun a b v ha hb=>Zafk a ha.1 ha.2 b hb.1 hb.2 v) 0 Zpw _ _ _ X hX hn _ hp).mono ?_;rintro e w1 ⟨rfl,hb1⟩);go_ret;exact⟨rfl,hb1⟩
theorem Zale(p:Option Addr)(n c:Nat)(X:Nat->Int)(hX:∀i,IsP (X i))(hn:n<=1048576)(w:World)(hp:Zio w p n (fun i=>.int .u32 (X i))):
 Calls prog 112 #[.slice p n c] w fun e w'=>e=.returned (.int .u32 (Zmh X n))/\Below w.heap.size w w':=by
 go_enter func112,ntmps112;go_wp2_with(go_at_call 141;refine(Zvz 143 (enters_of func143 kR rfl) fmin Zug (fun a b v ha hb=>Zaeu a ha.1 ha.2 b hb.1 hb.2 v) 2139095040 Zgw _ _ _ X hX hn _ hp).mono ?_;rintro e w1 ⟨rfl,hb1⟩);go_ret;exact⟨rfl,hb1⟩
theorem Zth(k:Nat)(hen:EntV k)(cap:Array Value)(n:Nat)(Y:Nat->Int)(hn:n<=1048576)(w:World)
 (hk:∀ (i:Nat) (v:World),i<n->Below w.heap.size w v->Calls prog k (#[.int .i64 i]++cap) v fun e v'=>e=.returned (.int .u32 (Y i))/\Below v.heap.size v v'):
 Calls prog 99 #[.int .i64 n,.func (.func k) #[] cap] w fun e w'=>∃g,e=.returned (.slice (some ⟨g,0,none⟩) n n)/\w.heap.size<=g/\w'.rowIs g 43 n (fun i=>.int .u32 (Y i))/\Below w.heap.size w w':=by
 have hmk:=Zwr n oM;unfold EntV at hen;go_enter func99,ntmps99;go_wp2
 go_loopw [11] (fun iv wr=>Below w.heap.size w wr/\∃j:Nat,j<=n/\iv=.int .i64 j/\Hid (wr.rowIs w.heap.size 43 n (fun i=>.int .u32 (if i<j then Y i else 0)))) (fun iv _=>n-(intOf iv).toNat)
 case atStart=>exact⟨gG,0,Nat.zero_le _,rfl,(World.rowIs_made w _ n _).congr fun i hi=>by simp⟩
 case round=>
  obtain⟨hb,j,hj,rfl,hrow⟩:=hrel;clear hmk;by_cases hlt:j<n
  ·have HK:=hk j wr hlt hb;have HKH:Hid (Calls prog k (#[.int .i64 j]++cap) wr fun e v'=>e=.returned (.int .u32 (Y j))/\Below wr.heap.size wr v'):=HK;have i1:(0:Int)<=(j:Int):=oM;have i2:(j:Int)<(n:Int):=oM;clear hk HK;go_wp2_with((with_reducible refine HKH.out.mono ?_);(rintro e w1 ⟨rfl,hb1⟩;have r1:=Zakp hrow.out hb1;have c1:=r1.cell (i:=j) hlt;have f1:=r1.frozen j;have HR:Hid (w1.rowIs w.heap.size 43 n (fun i=>.int .u32 (if i<j then Y i else 0))):=r1;clear r1));go_roundw
   case rel=>exact⟨(belV hb hb1).setCell (Nat.le_refl _) _,j+1,oM,gN,(HR.out.set j _).congr fun i hi=>by by_cases e:i=j<;>by_cases e2:i<j<;>simp[e,e2]<;>omega⟩
   case measure=>simp[intOf];omega
  ·have:j=n:=oM;subst this;clear hk;go_wp2;go_ret;exact⟨_,rfl,Nat.le_refl _,hrow.out.congr fun i hi=>by rw[if_pos hi],hb⟩
def vals(X:Nat->Value)(n:Nat):List Value:=(List.range n).map X
theorem vals_at(X:Nat->Value)(n i:Nat)(h:i<n):(vals X n)[i]? =some (X i):=by simp[vals,h]
theorem Zyy(X:Nat->Value)(n:Nat):vals X (n+1)=vals X n++[X n]:=by unfold vals;rw[List.range_succ];simp
theorem Zzk{w:World}{base:Nat}{e:TypeId}{v:Value}{n:Nat}{X:Nat->Value}(h:w.ownsRow base e 1 v n (vals X n)):
 ∃q cap,v=.slice q n cap/\Zio w q n X/\(∀b o s,q=some ⟨b,o,s⟩->base<=b)/\(q=none->n=0/\cap=0)/\n<=cap:=by
 rcases h.2 with⟨rfl,hx⟩|⟨g,cap,cur,rfl,hb,hg,rest⟩
 ·subst hx;exact⟨none,0,rfl,.inl rfl,fun b o s e=>(by cases e),fun _=>⟨rfl,rfl⟩,Nat.le_refl _⟩
 ·refine⟨some ⟨g,0,none⟩,cap,rfl,.inr ⟨g,0,rfl,fun i hi=>?_⟩,fun b o s e=>(by cases e;exact hb),fun e=>(by cases e),rest.1⟩;have:=h.cells (g:=g) rfl i (X i) (vals_at X n i hi);rw[Nat.zero_add];by_cases c:i=0
  ·subst c;simpa[Addr.add]using this
  ·simpa[Addr.add,c]using this
theorem info_I:(prog.info? 3).map (fun i=>(i.zero,i.size,i.bytes))=some (some (.int .i64 0),1,8):=kR
theorem Zajl(x:Int)(hx:IsP x)(i g:Nat)(w:World)(hg:w.cell? ⟨g,0,none⟩=some (.int .u32 x)):
 Calls prog 100 #[.int .i64 i,.pointer (some ⟨g,0,none⟩)] w fun e w'=>e=.returned (.int .u32 (canon x))/\Below w.heap.size w w':=by
 go_enter func100,ntmps100;go_wp2_with(go_at_call 101;refine(Zmg _ hx.1 hx.2 _).mono ?_;rintro e w' ⟨rfl,hw'⟩;obtain rfl:=hw'.symm);go_ret;exact⟨rfl,Zkp _⟩
theorem Zaja(n:Nat)(x:Int)(hx:IsP x)(hn:n<=65536)(w:World):
 Calls prog 58 #[.int .i64 n,.int .u32 x] w fun e w'=>∃g,e=.returned (.tuple #[.slice (some ⟨g,0,none⟩) n n,.int .i64 0])/\w.heap.size<=g/\w'.rowIs g 43 n (fun i=>.int .u32 (canon x))/\Below w.heap.size w w':=by
 have h1:¬ ((n:Int)<0):=oM;have h2:(n:Int)<=65536:=oM;go_enter func58,ntmps58;go_wp2_with(go_at_call 99;refine(Zth 100 (enters_of func100 kR rfl) #[.pointer (some ⟨w.heap.size,0,none⟩)] n (fun _=>canon x) oM _ (fun i v hi hv=>Zajl x hx i w.heap.size v ((hv.cell sM).trans sM))).mono ?_;rintro e w1 ⟨g,rfl,hg,hr,hb1⟩;have HR:Hid (w1.rowIs g 43 n (fun i=>.int .u32 (canon x))):=hr;clear hr);go_returns;exact⟨_,rfl,by
  have:w.heap.size+1<=g:=by simpa using hg
  omega,HR.out,belV (Zjd w _) hb1⟩
theorem Zaki(p:Option Addr)(n c:Nat)(X:Nat->Int)(hX:∀i,IsP (X i))(hn:n<=1048576)(w:World)(hp:Zio w p n (fun i=>.int .i64 (X i))):
 Calls prog 82 #[.slice p n c] w fun e w'=>e=.returned (.int .i64 (fsum X n))/\Below w.heap.size w w':=by
 go_enter func82,ntmps82;go_wp2
 go_loopw [3,4] (fun sv iv wr=>Below w.heap.size w wr/\∃j:Nat,j<=n/\iv=.int .i64 j/\sv=.int .i64 (fsum X j)) (fun _ iv _=>n-(intOf iv).toNat)
 case atStart=>exact⟨Zkp w,0,Nat.zero_le _,rfl,rfl⟩
 case round=>
  obtain⟨hb,j,hj,rfl,rfl⟩:=hrel;by_cases hlt:j<n
  ·rcases hp with hp|⟨b,o,rfl,hp⟩
   ·omega
   have hbl:b<w.heap.size:=Zkk (hp j hlt);have h1:wr.cell? ⟨b,o+j,none⟩=some (.int .i64 (X j)):=(hb.cell hbl).trans (hp j hlt);have i1:(0:Int)<=(j:Int):=oM;have i2:(j:Int)<(n:Int):=oM;have s1:IsP (fsum X j):=Zom (fun _ _ _ _=>Zxe _ _) Zgw hX j;have x1:=hX j;clear hp hX;go_wp2_with(go_at_call 125;refine(Zvd _ s1.1 s1.2 _ x1.1 x1.2 _).mono ?_;rintro e w1 ⟨rfl,hb1⟩);exact Zeb
  ·have:j=n:=oM;subst this;clear hp hX;go_wp2;go_ret;exact⟨rfl,hb⟩
theorem Zagu(p:Option Addr)(n c:Nat)(X:Nat->Int)(hX:∀i,IsP (X i))(hn:n<=1048576)(w:World)(hp:Zio w p n (fun i=>.int .i64 (X i))):
 Calls prog 83 #[.slice p n c] w fun e w'=>e=.returned (.int .i64 (Zmh X n))/\Below w.heap.size w w':=by
 go_enter func83,ntmps83;go_wp2
 go_loopw [3,4] (fun sv iv wr=>Below w.heap.size w wr/\∃j:Nat,j<=n/\iv=.int .i64 j/\sv=.int .i64 (Zmh X j)) (fun _ iv _=>n-(intOf iv).toNat)
 case atStart=>exact⟨Zkp w,0,Nat.zero_le _,rfl,rfl⟩
 case round=>
  obtain⟨hb,j,hj,rfl,rfl⟩:=hrel;by_cases hlt:j<n
  ·rcases hp with hp|⟨b,o,rfl,hp⟩
   ·omega
   have hbl:b<w.heap.size:=Zkk (hp j hlt);have h1:wr.cell? ⟨b,o+j,none⟩=some (.int .i64 (X j)):=(hb.cell hbl).trans (hp j hlt);have i1:(0:Int)<=(j:Int):=oM;have i2:(j:Int)<(n:Int):=oM;have s1:IsP (Zmh X j):=Zom Zug Zgw hX j;have x1:=hX j;clear hp hX;go_wp2_with(go_at_call 126;refine(Zadf _ s1.1 s1.2 _ x1.1 x1.2 _).mono ?_;rintro e w1 ⟨rfl,hb1⟩);exact Zeb
  ·have:j=n:=oM;subst this;clear hp hX;go_wp2;go_ret;exact⟨rfl,hb⟩
theorem Zamt(a:Int)(h:IsP a)(w:World):
 Calls prog 182 #[.int .i64 a] w fun e w'=>e=.returned (.bool (ffin a))/\w'=w:=by
 have h0:=h.1;have h1:=h.2;have t1:a.tmod 2147483648=a%2147483648:=Int.tmod_eq_emod_of_nonneg h0;go_enter func182,ntmps182;go_wp2;go_ret;exact⟨rfl,rfl⟩
structure Lsts(k:IntKind)(w:World)(q:Option Addr)(m:Nat)(P:Nat->Option Addr)(l c:Nat->Nat)(X:Nat->Nat->Int):Prop where
 heads:Zio w q m (fun i=>.slice (P i) (l i) (c i))
 parts:∀i,i<m->Zio w (P i) (l i) (fun j=>.int k (X i j))
theorem Lsts.below{k:IntKind}{w w':World}{q:Option Addr}{m:Nat}{P:Nat->Option Addr}{l c:Nat->Nat}{X:Nat->Nat->Int}(h:Lsts k w q m P l c X)(b:Below w.heap.size w w'):Lsts k w' q m P l c X:=
 ⟨h.heads.below b,fun i hi=>(h.parts i hi).below b⟩
theorem Zaex:(prog.info? 57).map (fun i=>(i.zero,i.size,i.bytes))=some (some (.slice none 0 0),1,24):=kR
theorem Zaie{w w':World}{base:Nat}{e:TypeId}{v:Value}{n:Nat}{xs:List Value}(h:w.ownsRow base e 1 v n xs)(k:Below w.heap.size w w'):w'.ownsRow base e 1 v n xs:=by
 refine h.kept (row:=none) ⟨k.os,k.tape,k.output,k.size,fun j hj _=>k.block j hj⟩ ?_;cases v.ownBlock<;>simp
theorem Zyd(b:Bool)(w:World):Calls prog 169 #[.bool b] w fun e w'=>e=.returned (.int .u32 (flag b))/\w'=w:=by
 cases b<;>(go_enter func169,ntmps169;go_wp2;go_ret;exact⟨rfl,rfl⟩)
theorem Zalz(a:Int)(h:IsP a)(w:World):Calls prog 168 #[.int .u32 a] w fun e w'=>e=.returned (.int .u32 (flag (ffin a)))/\Below w.heap.size w w':=by
 go_enter func168,ntmps168;go_wp2_with(first
  |(go_at_call 170;refine(Zaht _ h.1 h.2 _).mono ?_;rintro e w1 ⟨rfl,hw'⟩;obtain rfl:=hw'.symm)
  |(go_at_call 169;refine(Zyd _ _).mono ?_;rintro e w1 ⟨rfl,hw'⟩;obtain rfl:=hw'.symm))
 go_ret;exact⟨rfl,Zkp _⟩
theorem Zaip(a:Int)(h:IsP a)(b:Int)(k:IsP b)(w:World):Calls prog 175 #[.int .u32 a,.int .u32 b] w fun e w'=>e=.returned (.int .u32 (flag (Zpf a b)))/\Below w.heap.size w w':=by
 go_enter func175,ntmps175;go_wp2_with(first
  |(go_at_call 176;refine(Zarq _ h.1 h.2 _ k.1 k.2 _).mono ?_;rintro e w1 ⟨rfl,hw'⟩;obtain rfl:=hw'.symm)
  |(go_at_call 169;refine(Zyd _ _).mono ?_;rintro e w1 ⟨rfl,hw'⟩;obtain rfl:=hw'.symm))
 go_ret;exact⟨rfl,Zkp _⟩
theorem Zajx(a b c:Int)(ha:IsP a)(hb:IsP b)(hc:IsP c)(w:World):Calls prog 177 #[.agg #[.int .u32 a,.int .u32 b,.int .u32 c]] w fun e w'=>e=.returned (.int .u32 (fsel a b c))/\Below w.heap.size w w':=by
 go_enter func177,ntmps177;go_wp2_with(go_at_call 144;refine(Zwn _ ha.1 ha.2 _ hb.1 hb.2 _ hc.1 hc.2 _).mono ?_;rintro e w1 ⟨rfl,hw'⟩;obtain rfl:=hw'.symm);go_ret;exact⟨rfl,Zjd w _⟩
theorem Zakr(k:Nat)(hen:EntV k)(f:Int->Int)(hk:∀ (a:Int) (v:World),IsP a->Calls prog k #[.int .u32 a] v fun e v'=>e=.returned (.int .u32 (f a))/\Below v.heap.size v v')
 (g:Nat) (a b c:Int) (ha:IsP a) (w:World) (hg:w.cell? ⟨g,0,none⟩=some (.func (.func k) #[] #[])):
 Calls prog 190 #[.agg #[.int .u32 a,.int .u32 b,.int .u32 c],.pointer (some ⟨g,0,none⟩)] w fun e w'=>e=.returned (.int .u32 (f a))/\Below w.heap.size w w':=by
 have hg2:∀o,(w.alloc o).cell? ⟨g,0,none⟩=some (.func (.func k) #[] #[]):=fun o=>((Zjd w o).cell (Zkk hg)).trans hg;have HK:Hid (∀ (v:World),Calls prog k #[.int .u32 a] v fun e v'=>e=.returned (.int .u32 (f a))/\Below v.heap.size v v'):=fun v=>hk a v ha;clear hk;unfold EntV at hen;go_enter func190,ntmps190;exact Zfb
theorem Zamf(k:Nat)(hen:EntV k)(f:Int->Int->Int)(hk:∀ (a b:Int) (v:World),IsP a->IsP b->Calls prog k #[.int .u32 a,.int .u32 b] v fun e v'=>e=.returned (.int .u32 (f a b))/\Below v.heap.size v v')
 (g:Nat) (a b c:Int) (ha:IsP a) (hb:IsP b) (w:World) (hg:w.cell? ⟨g,0,none⟩=some (.func (.func k) #[] #[])):
 Calls prog 192 #[.agg #[.int .u32 a,.int .u32 b,.int .u32 c],.pointer (some ⟨g,0,none⟩)] w fun e w'=>e=.returned (.int .u32 (f a b))/\Below w.heap.size w w':=by
 have hg2:∀o,(w.alloc o).cell? ⟨g,0,none⟩=some (.func (.func k) #[] #[]):=fun o=>((Zjd w o).cell (Zkk hg)).trans hg;have HK:Hid (∀ (v:World),Calls prog k #[.int .u32 a,.int .u32 b] v fun e v'=>e=.returned (.int .u32 (f a b))/\Below v.heap.size v v'):=fun v=>hk a b v ha hb;clear hk;unfold EntV at hen;go_enter func192,ntmps192;exact Zfb
def Zjf(w:World)(D:Value)(f:Int->Int->Int->Int):Prop:=
 ∃k cap,D=.func (.func k) #[] cap/\EntV k/\∀ (a b c:Int) (v:World),IsP a->IsP b->IsP c->Below w.heap.size w v->
  Calls prog k (#[.agg #[.int .u32 a,.int .u32 b,.int .u32 c]]++cap) v fun e v'=>e=.returned (.int .u32 (f a b c))/\Below v.heap.size v v'
theorem Zjf.below{w w':World}{D:Value}{f:Int->Int->Int->Int}(h:Zjf w D f)(hb:Below w.heap.size w w'):Zjf w' D f:=by
 obtain⟨k,cap,e,hen,h⟩:=h;exact⟨k,cap,e,hen,fun a b c v ha hb' hc hv=>h a b c v ha hb' hc (belV hb hv)⟩
theorem Zpp(k:Nat)(hen:EntV k)(f:Int->Int)(hk:∀ (a:Int) (v:World),IsP a->Calls prog k #[.int .u32 a] v fun e v'=>e=.returned (.int .u32 (f a))/\Below v.heap.size v v')(w:World):
 Calls prog 164 #[.func (.func k) #[] #[]] w fun e w'=>∃D,e=.returned D/\Zjf w' D (fun a b c=>f a)/\Below w.heap.size w w':=by
 go_enter func164,ntmps164;go_wp2;go_ret;exact⟨_,rfl,⟨190,_,rfl,enters_of func190 kR rfl,fun a b c v ha hb hc hv=>Zakr k hen f hk w.heap.size a b c ha v ((hv.cell sM).trans sM)⟩,Zjd w _⟩
theorem Zmx(k:Nat)(hen:EntV k)(f:Int->Int->Int)(hk:∀ (a b:Int) (v:World),IsP a->IsP b->Calls prog k #[.int .u32 a,.int .u32 b] v fun e v'=>e=.returned (.int .u32 (f a b))/\Below v.heap.size v v')(w:World):
 Calls prog 171 #[.func (.func k) #[] #[]] w fun e w'=>∃D,e=.returned D/\Zjf w' D (fun a b c=>f a b)/\Below w.heap.size w w':=by
 go_enter func171,ntmps171;go_wp2;go_ret;exact⟨_,rfl,⟨192,_,rfl,enters_of func192 kR rfl,fun a b c v ha hb hc hv=>Zamf k hen f hk w.heap.size a b c ha hb v ((hv.cell sM).trans sM)⟩,Zjd w _⟩
theorem instr_3(w:World):Calls prog 145 #[.int .i64 3] w fun e w'=>∃D,e=.returned (.tuple #[.int .i64 1,D])/\Zjf w' D (opf 3)/\Below w.heap.size w w':=by
 go_enter func145,ntmps145;go_wp2_with(go_at_call 164;refine(Zpp 101 (enters_of func101 kR rfl) canon (fun a v h=>((Zmg a h.1 h.2 v).mono fun e w' h=>⟨h.1,by rw[h.2];exact Zkp _⟩)) _).mono ?_;rintro e w1 ⟨D,rfl,hD,hb1⟩;have HD:Hid (Zjf w1 D (opf 3)):=hD;clear hD);go_returns;exact⟨_,rfl,HD.out,hb1⟩
theorem Zarj(w:World):Calls prog 145 #[.int .i64 11] w fun e w'=>∃D,e=.returned (.tuple #[.int .i64 1,D])/\Zjf w' D (opf 11)/\Below w.heap.size w w':=by
 go_enter func145,ntmps145;go_wp2_with(go_at_call 164;refine(Zpp 165 (enters_of func165 kR rfl) Zkt (fun a v h=>Zanj a h.1 h.2 v) _).mono ?_;rintro e w1 ⟨D,rfl,hD,hb1⟩;have HD:Hid (Zjf w1 D (opf 11)):=hD;clear hD);go_returns;exact⟨_,rfl,HD.out,hb1⟩
theorem Zaql(w:World):Calls prog 145 #[.int .i64 12] w fun e w'=>∃D,e=.returned (.tuple #[.int .i64 1,D])/\Zjf w' D (opf 12)/\Below w.heap.size w w':=by
 go_enter func145,ntmps145;go_wp2_with(go_at_call 164;refine(Zpp 166 (enters_of func166 kR rfl) fneg (fun a v h=>((neg_any a h.1 h.2 v).mono fun e w' h=>⟨h.1,by rw[h.2];exact Zkp _⟩)) _).mono ?_;rintro e w1 ⟨D,rfl,hD,hb1⟩;have HD:Hid (Zjf w1 D (opf 12)):=hD;clear hD);go_returns;exact⟨_,rfl,HD.out,hb1⟩
theorem Zarc(w:World):Calls prog 145 #[.int .i64 13] w fun e w'=>∃D,e=.returned (.tuple #[.int .i64 1,D])/\Zjf w' D (opf 13)/\Below w.heap.size w w':=by
 go_enter func145,ntmps145;go_wp2_with(go_at_call 164;refine(Zpp 167 (enters_of func167 kR rfl) fabs (fun a v h=>((abs_any a h.1 h.2 v).mono fun e w' h=>⟨h.1,by rw[h.2];exact Zkp _⟩)) _).mono ?_;rintro e w1 ⟨D,rfl,hD,hb1⟩;have HD:Hid (Zjf w1 D (opf 13)):=hD;clear hD);go_returns;exact⟨_,rfl,HD.out,hb1⟩
theorem Zann(w:World):Calls prog 145 #[.int .i64 14] w fun e w'=>∃D,e=.returned (.tuple #[.int .i64 1,D])/\Zjf w' D (opf 14)/\Below w.heap.size w w':=by
 go_enter func145,ntmps145;go_wp2_with(go_at_call 164;refine(Zpp 168 (enters_of func168 kR rfl) (fun a=>flag (ffin a)) (fun a v h=>Zalz a h v) _).mono ?_;rintro e w1 ⟨D,rfl,hD,hb1⟩;have HD:Hid (Zjf w1 D (opf 14)):=hD;clear hD);go_returns;exact⟨_,rfl,HD.out,hb1⟩
theorem instr_4(w:World):Calls prog 145 #[.int .i64 4] w fun e w'=>∃D,e=.returned (.tuple #[.int .i64 2,D])/\Zjf w' D (opf 4)/\Below w.heap.size w w':=by
 go_enter func145,ntmps145;go_wp2_with(go_at_call 171;refine(Zmx 142 (enters_of func142 kR rfl) fadd (fun a b v h k=>Zafk a h.1 h.2 b k.1 k.2 v) _).mono ?_;rintro e w1 ⟨D,rfl,hD,hb1⟩;have HD:Hid (Zjf w1 D (opf 4)):=hD;clear hD);go_returns;exact⟨_,rfl,HD.out,hb1⟩
theorem instr_5(w:World):Calls prog 145 #[.int .i64 5] w fun e w'=>∃D,e=.returned (.tuple #[.int .i64 2,D])/\Zjf w' D (opf 5)/\Below w.heap.size w w':=by
 go_enter func145,ntmps145;go_wp2_with(go_at_call 171;refine(Zmx 172 (enters_of func172 kR rfl) fsub (fun a b v h k=>sub_any a h.1 h.2 b k.1 k.2 v) _).mono ?_;rintro e w1 ⟨D,rfl,hD,hb1⟩;have HD:Hid (Zjf w1 D (opf 5)):=hD;clear hD);go_returns;exact⟨_,rfl,HD.out,hb1⟩
theorem instr_6(w:World):Calls prog 145 #[.int .i64 6] w fun e w'=>∃D,e=.returned (.tuple #[.int .i64 2,D])/\Zjf w' D (opf 6)/\Below w.heap.size w w':=by
 go_enter func145,ntmps145;go_wp2_with(go_at_call 171;refine(Zmx 139 (enters_of func139 kR rfl) fmul (fun a b v h k=>Zxa a h.1 h.2 b k.1 k.2 v) _).mono ?_;rintro e w1 ⟨D,rfl,hD,hb1⟩;have HD:Hid (Zjf w1 D (opf 6)):=hD;clear hD);go_returns;exact⟨_,rfl,HD.out,hb1⟩
theorem instr_7(w:World):Calls prog 145 #[.int .i64 7] w fun e w'=>∃D,e=.returned (.tuple #[.int .i64 2,D])/\Zjf w' D (opf 7)/\Below w.heap.size w w':=by
 go_enter func145,ntmps145;go_wp2_with(go_at_call 171;refine(Zmx 173 (enters_of func173 kR rfl) fdiv (fun a b v h k=>div_any a h.1 h.2 b k.1 k.2 v) _).mono ?_;rintro e w1 ⟨D,rfl,hD,hb1⟩;have HD:Hid (Zjf w1 D (opf 7)):=hD;clear hD);go_returns;exact⟨_,rfl,HD.out,hb1⟩
theorem instr_8(w:World):Calls prog 145 #[.int .i64 8] w fun e w'=>∃D,e=.returned (.tuple #[.int .i64 2,D])/\Zjf w' D (opf 8)/\Below w.heap.size w w':=by
 go_enter func145,ntmps145;go_wp2_with(go_at_call 171;refine(Zmx 143 (enters_of func143 kR rfl) fmin (fun a b v h k=>Zaeu a h.1 h.2 b k.1 k.2 v) _).mono ?_;rintro e w1 ⟨D,rfl,hD,hb1⟩;have HD:Hid (Zjf w1 D (opf 8)):=hD;clear hD);go_returns;exact⟨_,rfl,HD.out,hb1⟩
theorem instr_9(w:World):Calls prog 145 #[.int .i64 9] w fun e w'=>∃D,e=.returned (.tuple #[.int .i64 2,D])/\Zjf w' D (opf 9)/\Below w.heap.size w w':=by
 go_enter func145,ntmps145;go_wp2_with(go_at_call 171;refine(Zmx 174 (enters_of func174 kR rfl) fmax (fun a b v h k=>max_any a h.1 h.2 b k.1 k.2 v) _).mono ?_;rintro e w1 ⟨D,rfl,hD,hb1⟩;have HD:Hid (Zjf w1 D (opf 9)):=hD;clear hD);go_returns;exact⟨_,rfl,HD.out,hb1⟩
theorem Zaop(w:World):Calls prog 145 #[.int .i64 10] w fun e w'=>∃D,e=.returned (.tuple #[.int .i64 2,D])/\Zjf w' D (opf 10)/\Below w.heap.size w w':=by
 go_enter func145,ntmps145;go_wp2_with(go_at_call 171;refine(Zmx 175 (enters_of func175 kR rfl) (fun a b=>flag (Zpf a b)) (fun a b v h k=>Zaip a h b k v) _).mono ?_;rintro e w1 ⟨D,rfl,hD,hb1⟩;have HD:Hid (Zjf w1 D (opf 10)):=hD;clear hD);go_returns;exact⟨_,rfl,HD.out,hb1⟩
theorem Zani(w:World):Calls prog 145 #[.int .i64 15] w fun e w'=>∃D,e=.returned (.tuple #[.int .i64 3,D])/\Zjf w' D (opf 15)/\Below w.heap.size w w':=by
 go_enter func145,ntmps145;go_wp2;go_returns;exact⟨_,rfl,⟨177,#[],rfl,enters_of func177 kR rfl,fun a b c v ha hb hc hv=>Zajx a b c ha hb hc v⟩,Zkp w⟩
theorem Zrm(op:Int)(h:Zjq op≠0):op=3\/op=11\/op=12\/op=13\/op=14\/op=4\/op=5\/op=6\/op=7\/op=8\/op=9\/op=10\/op=15:=by
 unfold Zjq at h;split at h
 ·omega
 ·split at h
  ·omega
  ·split at h
   ·omega
   ·exact absurd rfl h
theorem Zalu(op:Int)(h:Zjq op≠0)(w:World):Calls prog 145 #[.int .i64 op] w fun e w'=>∃D,e=.returned (.tuple #[.int .i64 (Zjq op),D])/\Zjf w' D (opf op)/\Below w.heap.size w w':=by
 rcases Zrm op h with rfl|rfl|rfl|rfl|rfl|rfl|rfl|rfl|rfl|rfl|rfl|rfl|rfl
 ·exact instr_3 w
 ·exact Zarj w
 ·exact Zaql w
 ·exact Zarc w
 ·exact Zann w
 ·exact instr_4 w
 ·exact instr_5 w
 ·exact instr_6 w
 ·exact instr_7 w
 ·exact instr_8 w
 ·exact instr_9 w
 ·exact Zaop w
 ·exact Zani w
def shpV(l:Nat->Nat):Nat->Option Nat
 |0=>some (l 0)
 |j+1=>match shpV l j with
  |none=>none
  |some n=>if l (j+1)=n then some n else if l (j+1)=0\/n=0 then none else if n=1 then some (l (j+1))else if l (j+1)=1 then some n else none
theorem Zqm{l:Nat->Nat}{j n:Nat}(h:shpV l j=some n):shpV l (j+1)=if l (j+1)=n then some n else if l (j+1)=0\/n=0 then none else if n=1 then some (l (j+1))else if l (j+1)=1 then some n else none:=by
 show(match shpV l j with |none=>none|some n=>_)=_;rw[h]
theorem Zqu{l:Nat->Nat}{j:Nat}(h:shpV l j=none):∀M,j<=M->shpV l M=none:=by
 intro M;induction M with
 |zero=>intro hj;have:j=0:=oM
  subst this;exact h
 |succ M ih=>
  intro hj;rcases Nat.lt_or_ge M j with c|c
  ·have:j=M+1:=oM;subst this;exact h
  ·show(match shpV l M with |none=>none|some n=>_)=_;rw[ih c]
theorem shp_le{l:Nat->Nat}{N:Nat}(hl:∀i,l i<=N):∀ {M n:Nat},shpV l M=some n->n<=N:=by
 intro M;induction M with
 |zero=>intro n h;cases h;exact hl 0
 |succ M ih=>
  intro n h;cases e:shpV l M with
  |none=>rw[Zqu e (M+1) oM]at h;cases h
  |some k=>
   rw[Zqm e]at h;have:=ih e;have:=hl (M+1)
   repeat' split at h
   all_goals cases h
   all_goals omega
theorem Zacw{l:Nat->Nat}:∀ {M n:Nat},shpV l M=some n->∀i,i<=M->l i=n\/(l i=1/\n≠0):=by
 intro M;induction M with
 |zero=>intro n h i hi;cases h;have:i=0:=oM
  subst this;exact .inl rfl
 |succ M ih=>
  intro n h i hi;cases e:shpV l M with
  |none=>rw[Zqu e (M+1) oM]at h;cases h
  |some k=>
   rw[Zqm e]at h;have hi':i<=M\/i=M+1:=oM;split at h
   ·cases h
    rcases hi' with c|c
    ·exact ih e i c
    ·subst c;left;assumption
   ·split at h
    ·cases h
    ·split at h
     ·cases h
      rcases hi' with c|c
      ·have:=ih e i c;omega
      ·subst c;exact .inl rfl
     ·split at h
      ·cases h
       rcases hi' with c|c
       ·exact ih e i c
       ·subst c;right;omega
      ·cases h
theorem Zamp(b o M cq:Nat)(P:Nat->Option Addr)(l c:Nat->Nat)(hM:M<=1048576)(hl:∀i,l i<=1048576)(hc:M+1<=cq)(w:World)(hh:∀i,i<M+1->w.cell? ⟨b,o+i,none⟩=some (.slice (P i) (l i) (c i))):
 Calls prog 146 #[.slice (some ⟨b,o,none⟩) (M+1) cq] w fun e w'=>e=.returned (.tuple #[.int .i64 ((shpV l M).getD 0:Nat),.bool (shpV l M).isSome])/\w'=w:=by
 have h0:=hh 0 oM;rw[Nat.add_zero]at h0;have i1:(1:Int)<=((M+1:Nat):Int):=oM;rcases Nat.eq_zero_or_pos M with hM0|hM0
 ·subst hM0;have HS:Hid ((shpV l 0).getD 0=l 0/\(shpV l 0).isSome=true):=⟨rfl,rfl⟩
  clear hh hl;go_enter func146,ntmps146;go_wp2
  all_goals(refine wp_loop_rounds 1 ?_;rw[rounds_succ];go_wp2;go_returns;exact⟨rfl,rfl⟩)
 ·have hq:¬ (cq=1):=oM;have hq2:1<cq:=oM;have HH:Hid ((∀i,i<M+1->w.cell? ⟨b,o+i,none⟩=some (.slice (P i) (l i) (c i)))/\∀i,l i<=1048576):=⟨hh,hl⟩
  clear hh hl;go_enter func146,ntmps146;go_wp2
  go_loopw [4,14] (fun nv iv wr=>wr=w/\∃j n:Nat,j<=M/\iv=.int .i64 j/\nv=.int .i64 n/\n<=1048576/\Hid (shpV l j=some n)) (fun _ iv _=>M-(intOf iv).toNat)
  case atStart=>exact⟨rfl,0,l 0,Nat.zero_le _,rfl,rfl,HH.out.2 0,rfl⟩
  case round=>
   obtain⟨rfl,j,n,hj,rfl,rfl,hn,hs⟩:=hrel;by_cases hlt:j<M
   ·have h1:wr.cell? ⟨b,o+1+j,none⟩=some (.slice (P (j+1)) (l (j+1)) (c (j+1))):=by have:=HH.out.1 (j+1) oM;rw[show o+(j+1)=o+1+j by omega]at this;exact this
    have i2:(0:Int)<=(j:Int):=oM;have i3:(j:Int)<(M:Int):=oM;have hl1:=HH.out.2 (j+1);obtain⟨L,hL⟩:∃L,L=l (j+1):=⟨_,rfl⟩
    have HSS:Hid (shpV l (j+1)=if L=n then some n else if L=0\/n=0 then none else if n=1 then some L else if L=1 then some n else none):=by subst hL;exact Zqm hs.out
    rw[←hL]at h1 hl1;clear hL;by_cases c1:L=n
    ·subst c1;have HS1:Hid (shpV l (j+1)=some L):=by have:=HSS.out;rw[if_pos rfl]at this;exact this
     clear HSS hs;go_wp2;go_roundw
     case rel=>exact⟨fT,j+1,L,oM,gN,rfl,hn,HS1⟩
     case measure=>simp[intOf];omega
    ·have c1':¬ ((L:Int)=(n:Int)):=oM;by_cases c2:L=0\/n=0
     ·have HS1:Hid (shpV l M=none):=by have:=HSS.out;rw[if_neg c1,if_pos c2]at this;exact Zqu this M oM
      clear HSS hs;rcases c2 with c2|c2
      ·subst c2;go_wp2;go_returns;exact⟨by rw[HS1.out];rfl,rfl⟩
      ·subst c2;have c3:¬ ((L:Int)=0):=oM;go_wp2;go_returns;exact⟨by rw[HS1.out];rfl,rfl⟩
     ·have c3:¬ ((L:Int)=0):=oM;have c4:¬ ((n:Int)=0):=oM;by_cases c5:n=1
      ·have HS1:Hid (shpV l (j+1)=some L):=by have:=HSS.out;rw[if_neg c1,if_neg c2,if_pos c5]at this;exact this
       clear HSS hs;subst c5;go_wp2;go_roundw
       case rel=>exact⟨fT,j+1,L,oM,gN,rfl,hl1,HS1⟩
       case measure=>simp[intOf];omega
      ·have c6:¬ ((n:Int)=1):=oM;by_cases c7:L=1
       ·have HS1:Hid (shpV l (j+1)=some n):=by have:=HSS.out;rw[if_neg c1,if_neg c2,if_neg c5,if_pos c7]at this;exact this
        clear HSS hs;subst c7;go_wp2;go_roundw
        case rel=>exact⟨fT,j+1,n,oM,gN,rfl,hn,HS1⟩
        case measure=>simp[intOf];omega
       ·have HS1:Hid (shpV l M=none):=by have:=HSS.out;rw[if_neg c1,if_neg c2,if_neg c5,if_neg c7]at this;exact Zqu this M oM
        have c8:¬ ((L:Int)=1):=oM;have c9:((L:Int) != 1)=true:=by simp[c8]
        clear HSS hs;go_wp2
        all_goals first
         |(have hq:((L:Int) != 1)=false:=by assumption
          rw[c9]at hq;cases hq)
         |(go_returns;exact⟨by rw[HS1.out];rfl,rfl⟩)
   ·have:j=M:=oM;subst this;go_wp2;go_returns;exact⟨by rw[hs.out];rfl,rfl⟩
def elAt(l:Nat->Nat)(X:Nat->Nat->Int)(m i j:Nat):Int:=if j<m then X j (if l j=1 then 0 else i)else 0
theorem Zjr{l:Nat->Nat}{X:Nat->Nat->Int}(hX:∀i j,IsP (X i j))(m i j:Nat):IsP (elAt l X m i j):=Zkd (hX _ _) Zpw
theorem el_step(F:Nat->Int)(j k:Nat):(if k=j then Value.int .u32 (F j)else .int .u32 (if k<j then F k else 0))=.int .u32 (if k<j+1 then F k else 0):=by
 exact Zez
theorem Zaot(w:World)(t:TypeId):((w.alloc (.cells #[.int .u32 0,.int .u32 0,.int .u32 0] t)).alloc (.cells #[.int .u32 0,.int .u32 0,.int .u32 0] t)).rowIs (w.heap.size+1) t 3 (fun _=>.int .u32 0)/\((w.alloc (.cells #[.int .u32 0,.int .u32 0,.int .u32 0] t)).alloc (.cells #[.int .u32 0,.int .u32 0,.int .u32 0] t)).rowIs w.heap.size t 3 (fun _=>.int .u32 0):=by
 have h:∀i,i<3->(#[Value.int .u32 0,.int .u32 0,.int .u32 0]:Array Value)[i]? =some (.int .u32 0):=by
  intro i hi;have:i=0\/i=1\/i=2:=oM;rcases this with rfl|rfl|rfl<;>rfl
 have r1:=World.rowIs_alloc w #[.int .u32 0,.int .u32 0,.int .u32 0] t (fun _=>.int .u32 0) h;have r2:=World.rowIs_alloc (w.alloc (.cells #[.int .u32 0,.int .u32 0,.int .u32 0] t)) #[.int .u32 0,.int .u32 0,.int .u32 0] t (fun _=>.int .u32 0) h;have e:(w.alloc (.cells #[.int .u32 0,.int .u32 0,.int .u32 0] t)).heap.size=w.heap.size+1:=sM;rw[e]at r2;exact⟨r2,r1.alloc _⟩
theorem Zahp(place b o m cq:Nat)(P:Nat->Option Addr)(l c:Nat->Nat)(X:Nat->Nat->Int)(hm:m<=3)(hi:place<=1048576)(hl:∀i,l i<=1048576)(hpl:∀i,i<m->l i=1\/place<l i)(w:World)(hL:Lsts .u32 w (some ⟨b,o,none⟩) m P l c X):
 Calls prog 148 #[.int .i64 place,.slice (some ⟨b,o,none⟩) m cq] w fun e w'=>e=.returned (.agg #[.int .u32 (elAt l X m place 0),.int .u32 (elAt l X m place 1),.int .u32 (elAt l X m place 2)])/\Below w.heap.size w w':=by
 have HL:Hid (Lsts .u32 w (some ⟨b,o,none⟩) m P l c X/\(∀i,l i<=1048576)/\∀i,i<m->l i=1\/place<l i):=⟨hL,hl,hpl⟩
 obtain⟨E,HE⟩:∃E:Nat->Int,Hid (E=elAt l X m place):=⟨_,rfl⟩
 have HE0:=HE.out;rw[←HE0];have T:=Zaot w 216;have HT:Hid (((w.alloc (.cells #[.int .u32 0,.int .u32 0,.int .u32 0] 216)).alloc (.cells #[.int .u32 0,.int .u32 0,.int .u32 0] 216)).rowIs (w.heap.size+1) 216 3 (fun _=>.int .u32 0)/\((w.alloc (.cells #[.int .u32 0,.int .u32 0,.int .u32 0] 216)).alloc (.cells #[.int .u32 0,.int .u32 0,.int .u32 0] 216)).rowIs w.heap.size 216 3 (fun _=>.int .u32 0)):=T;clear hL hl hpl HE0 T;go_enter func148,ntmps148;go_wp2
 go_loopw [10] (fun iv wr=>Below w.heap.size w wr/\∃j:Nat,j<=m/\iv=.int .i64 j/\Hid (wr.rowIs (w.heap.size+1) 216 3 (fun i=>.int .u32 (if i<j then E i else 0))/\wr.rowIs w.heap.size 216 3 (fun _=>.int .u32 0))) (fun iv _=>m-(intOf iv).toNat)
 case atStart=>exact⟨gG,0,Nat.zero_le _,rfl,HT.out.1.congr fun i hi=>by simp,HT.out.2⟩
 case round=>
  obtain⟨hb,j,hj,rfl,hrow⟩:=hrel;clear HT;by_cases hlt:j<m
  ·have h1:wr.cell? ⟨b,o+j,none⟩=some (.slice (P j) (l j) (c j)):=by
    rcases HL.out.1.heads with q|⟨b',o',e,hh⟩
    ·omega
    ·cases e;exact(hb.cell (Zkk (hh j hlt))).trans (hh j hlt)
   have hpj:=HL.out.2.2 j hlt;have hlj:=HL.out.2.1 j;have HEj:E j=X j (if l j=1 then 0 else place):=by rw[HE.out];unfold elAt;rw[if_pos hlt]
   have hR:=(HL.out.1.parts j hlt).below hb;obtain⟨L,hL0⟩:∃L,L=l j:=⟨_,rfl⟩
   rw[←hL0]at h1 hpj hlj HEj hR;clear hL0;rcases hR with hR|⟨b2,o2,hP,hR⟩
   ·omega
   rw[hP]at h1;clear hP;have c1:=hrow.out.1.cell (i:=j) oM;have f1:=hrow.out.1.frozen j;have i1:(0:Int)<=(j:Int):=oM;have i2:(j:Int)<(m:Int):=oM;have i3:(j:Int)<3:=oM;have j3:j<3:=oM;have HR:Hid (∀x,(wr.setCell ⟨w.heap.size+1,j,none⟩ x).rowIs (w.heap.size+1) 216 3 (fun k=>if k=j then x else .int .u32 (if k<j then E k else 0))/\(wr.setCell ⟨w.heap.size+1,j,none⟩ x).rowIs w.heap.size 216 3 (fun _=>.int .u32 0)):=fun x=>⟨hrow.out.1.set j x,hrow.out.2.setOther sM x⟩
   by_cases hL1:L=1
   ·have h2:wr.cell? ⟨b2,o2,none⟩=some (.int .u32 (E j)):=by have:=hR 0 oM;rw[Nat.add_zero]at this;rw[this,HEj,if_pos hL1]
    subst hL1;exact Zeh
   ·have h2:wr.cell? ⟨b2,o2+place,none⟩=some (.int .u32 (E j)):=by have:=hR place oM;rw[this,HEj,if_neg hL1]
    have c9:¬ ((L:Int)=1):=oM;have i4:(0:Int)<=(place:Int):=oM;have i5:(place:Int)<(L:Int):=oM;exact Zeh
  ·have:j=m:=oM;subst this;have e0:∀k,k<3->(if k<j then E k else 0)=E k:=by
    intro k hk;by_cases q:k<j
    ·rw[if_pos q]
    ·rw[if_neg q,HE.out];unfold elAt;rw[if_neg q]
   have r1:=hrow.out.1.congr (g:=fun i=>.int .u32 (E i)) (fun i hi=>by rw[e0 i hi]);have c0:=r1.cell (i:=0) oM;have c1:=r1.cell (i:=1) oM;have c2:=r1.cell (i:=2) oM;have r0:=hrow.out.2;have d0:=r0.cell (i:=0) oM;have d1:=r0.cell (i:=1) oM;have d2:=r0.cell (i:=2) oM;have f0:=r0.frozen 0;have f1:=r0.frozen 1;have f2:=r0.frozen 2;have r3:=((r0.set 0 (.int .u32 (E 0))).set 1 (.int .u32 (E 1))).set 2 (.int .u32 (E 2));have g0:=r3.cell (i:=0) oM;have g1:=r3.cell (i:=1) oM;have g2:=r3.cell (i:=2) oM;simp only[Nat.reduceEqDiff,if_true,if_false]at g0 g1 g2;clear r1 r0 r3 e0 hrow;go_wp2;refine bodyPost_ret (by simp[results,results148,go_sem,*];try rfl) rfl ?_;exact⟨rfl,((hb.setCell (Nat.le_refl _) _).setCell (Nat.le_refl _) _).setCell (Nat.le_refl _) _⟩

end Go.Proofs.YtbinohkcolcbfaaGreat
set_option maxRecDepth 100000
set_option maxHeartbeats 16000000
namespace Go.Proofs.YtbinohkcolcbfaaGreat
open Go.RowKit Go.Shelf
set_option linter.unusedVariables false
def lenRen:Go.Shelf.Ren:=⟨fun|125=>138|128=>160|129=>161|n=>n,fun|3=>3|4=>4|5=>5|9=>9|46=>192|51=>42|53=>191|n=>n,fun n=>n⟩
theorem Zand:Lays.n125 Tryz.prog lenRen where
 mixed:=kR
 f125:=Tryz.func138.trans (congrArg some kR)
 f128:=Tryz.func160.trans (congrArg some kR)
 f129:=Tryz.func161.trans (congrArg some kR)
 t3:=Tryz.underlying3
 a3:=Tryz.isAgg3
 z3:=Tryz.sizeOf3
 v3:=Tryz.zeroValue3
 t4:=Tryz.underlying4
 a4:=Tryz.isAgg4
 z4:=Tryz.sizeOf4
 v4:=Tryz.zeroValue4
 t5:=Tryz.underlying5
 a5:=Tryz.isAgg5
 z5:=Tryz.sizeOf5
 v5:=Tryz.zeroValue5
 t9:=Tryz.underlying9
 a9:=Tryz.isAgg9
 z9:=Tryz.sizeOf9
 v9:=Tryz.zeroValue9
 t46:=Tryz.underlying192
 a46:=Tryz.isAgg192
 z46:=Tryz.sizeOf192
 v46:=Tryz.zeroValue192
 t51:=Tryz.underlying42
 a51:=Tryz.isAgg42
 z51:=Tryz.sizeOf42
 v51:=Tryz.zeroValue42
 t53:=Tryz.underlying191
 a53:=Tryz.isAgg191
 z53:=Tryz.sizeOf191
 v53:=Tryz.zeroValue191
theorem Zabd:∀f x:Nat,x<2^f->Lib.bitLenAux f x=blen x
 |0,x,h=>by
  have:x=0:=by simpa using h
  subst this;rfl
 |f+1,x,h=>by
  unfold Lib.bitLenAux;by_cases c:x=0
  ·rw[if_pos c,c];rfl
  ·rw[if_neg c,Zabd f (x/2) (by rw[Nat.pow_succ]at h;omega),Zyo x c];omega
theorem len_any(x:Int)(h0:0<=x)(h1:x<=18446744073709551615)(w:World):
 Calls Tryz.prog 138 #[.int .u64 x] w fun e w'=>e=.returned (.int .i64 (blen x.toNat))/\w'=w:=by
 have h:=Any.bits_Len Zand x w h0 h1;have e:Lib.bitLen x.toNat=blen x.toNat:=by
  unfold Lib.bitLen;exact Zabd 64 _ (by have:(2:Nat)^64=18446744073709551616:=rfl;omega)
 rw[e]at h;exact h
end Go.Proofs.YtbinohkcolcbfaaGreat
namespace Go.Proofs.YtbinohkcolcbfaaGreat
open Go.RowKit Go.Proofs.Tryz
set_option linter.unusedVariables false
set_option linter.unusedSimpArgs false
set_option maxRecDepth 100000
set_option maxHeartbeats 16000000
def fpw(x n:Int):Nat->Int->Int
 |0,r=>r
 |k+1,r=>fpw x n k (if n/2^k%2=1 then fmul (fmul r r) x else fmul r r)
def fpow(x n:Int):Int:=if n<1 then 1065353216 else fpw x n (blen n.toNat-1) (canon x)
theorem Zaau(x n:Int):∀ (k:Nat) (r:Int),0<=r->r<4294967296->0<=fpw x n k r/\fpw x n k r<4294967296
 |0,r,h0,h1=>⟨h0,h1⟩
 |k+1,r,h0,h1=>by
  unfold fpw;split
  ·exact Zaau x n k _ (Znf _ _).1 (Znf _ _).2
  ·exact Zaau x n k _ (Znf _ _).1 (Znf _ _).2
theorem fpow_lo(x n:Int)(h0:0<=x)(h1:x<4294967296):0<=fpow x n/\fpow x n<4294967296:=by
 unfold fpow;split
 ·decide
 ·exact Zaau x n _ _ (Znn x h0 h1).1 (Znn x h0 h1).2
theorem Zagh(n:Int)(h0:0<=n)(h1:n<=9223372036854775807)(i:Nat):bits .and .i64 (n/2^i) 1=n/2^i%2:=by
 have e:n/2^i=((n.toNat/2^i:Nat):Int):=by
  rw[Int.natCast_ediv,Int.natCast_pow,Int.toNat_of_nonneg h0];rfl
 have hle:n.toNat/2^i<=n.toNat:=Nat.div_le_self ..;rw[e];generalize n.toNat/2^i=q at *;have hx:q&&& 1=q%2:=Nat.and_one_is_mod q;show IntKind.i64.wrap ((BitVec.ofInt 64 (q:Int)&&& BitVec.ofInt 64 ((1:Nat):Int)).toNat:Int)=_;rw[BitVec.toNat_and,ofInt_u64 q oM,ofInt_u64 1 dE,hx,IntKind.wrap_i64];omega
theorem pow_any(x:Int)(h0:0<=x)(h1:x<4294967296)(n:Int)(n0: -9223372036854775808<=n)(n1:n<=9223372036854775807)(w:World):
 Calls prog 109 #[.int .u32 x,.int .i64 n] w fun e w'=>e=.returned (.int .u32 (fpow x n))/\Below w.heap.size w w':=by
 unfold fpow;by_cases c:n<1
 ·rw[if_pos c];go_enter func109,ntmps109;go_wp2;go_ret;exact⟨rfl,Zkp _⟩
 ·rw[if_neg c];have hc:=Znn x h0 h1;have hc':0<=canon x/\canon x<4294967296:=hc;clear hc;have hB:1<=blen n.toNat/\blen n.toNat<=63:=by
   exact Zfd
  generalize hBB:blen n.toNat=B at *;generalize hP:fpw x n (B-1) (canon x)=P at *;have HP:Hid (fpw x n (B-1) (canon x)=P):=hP;clear hP;go_enter func109,ntmps109;go_wp2_with(first
   |(go_at_call 101;refine(Zmg _ oM oM _).mono ?_;rintro e w' ⟨rfl,hw'⟩;obtain rfl:=hw'.symm)
   |(go_at_call 138;refine(len_any _ oM oM _).mono ?_;rintro e w' ⟨rfl,hw'⟩;obtain rfl:=hw'.symm))
  go_loopw [5,6] (fun rv pv wr=>Below w.heap.size w wr/\∃ (j:Nat) (r:Int),j<=62/\rv=.int .u32 r/\pv=.int .i64 ((j:Int)-1)/\0<=r/\r<4294967296/\fpw x n j r=P) (fun _ pv _=>(intOf pv+1).toNat)
  case atStart=>exact⟨Zkp _,B-1,canon x,oM,rfl,by rw[show((B-1:Nat):Int)-1=(B:Int)-2 by omega],hc'.1,hc'.2,HP.out⟩
  case round=>
   obtain⟨hbel,j,r,hj,rfl,rfl,r0,r1,hr⟩:=hrel;have HR:Hid (fpw x n j r=P):=hr;clear hr;rcases Nat.eq_zero_or_pos j with hz|hz
   ·subst hz;have hPr:r=P:=HR.out;subst hPr;clear HR HP;go_wp2;go_ret;exact⟨rfl,hbel⟩
   ·obtain⟨i,rfl⟩:∃i,j=i+1:=⟨j-1,oM⟩
    rw[show((i+1:Nat):Int)-1=(i:Int) by omega];have hbit:=Zagh n oM n1 i;have l1:=Znf r r;have l2:=Znf (fmul r r) x;by_cases cb:n/2^i%2=1
    ·go_wp2_with(go_at_call 139;refine(Zxa _ oM oM _ oM oM _).mono ?_;rintro e w2 ⟨rfl,hb2⟩);exact Zdp
    ·go_wp2_with(go_at_call 139;refine(Zxa _ oM oM _ oM oM _).mono ?_;rintro e w2 ⟨rfl,hb2⟩);exact Zdq
theorem Zamv(x:Int)(h0:0<=x)(h1:x<4294967296)(n:Int)(n0: -9223372036854775808<=n)(n1:n<=9223372036854775807)(w:World):
 Calls prog 79 #[.int .i64 x,.int .i64 n] w fun e w'=>e=.returned (.int .i64 (fpow x n))/\Below w.heap.size w w':=by
 unfold fpow;by_cases c:n<1
 ·rw[if_pos c];go_enter func79,ntmps79;go_wp2;go_ret;exact⟨rfl,Zkp _⟩
 ·rw[if_neg c];have hc:=Znn x h0 h1;have hc':0<=canon x/\canon x<4294967296:=hc;clear hc;have hB:1<=blen n.toNat/\blen n.toNat<=63:=by
   exact Zfd
  generalize hBB:blen n.toNat=B at *;generalize hP:fpw x n (B-1) (canon x)=P at *;have HP:Hid (fpw x n (B-1) (canon x)=P):=hP;clear hP;go_enter func79,ntmps79;go_wp2_with(first
   |(go_at_call 103;refine(Zro _ oM oM _).mono ?_;rintro e w1 ⟨rfl,hb1⟩)
   |(go_at_call 122;refine(Zqp _ oM oM _).mono ?_;rintro e w' ⟨rfl,hw'⟩;obtain rfl:=hw'.symm))
  go_loopw [5,6] (fun rv pv wr=>Below w.heap.size w wr/\∃ (j:Nat) (r:Int),j<=62/\rv=.int .i64 r/\pv=.int .i64 ((j:Int)-1)/\0<=r/\r<4294967296/\fpw x n j r=P) (fun _ pv _=>(intOf pv+1).toNat)
  case atStart=>exact⟨hb1,B-1,canon x,oM,rfl,by rw[show((B-1:Nat):Int)-1=(B:Int)-2 by omega],hc'.1,hc'.2,HP.out⟩
  case round=>
   obtain⟨hbel,j,r,hj,rfl,rfl,r0,r1,hr⟩:=hrel;have HR:Hid (fpw x n j r=P):=hr;clear hr;rcases Nat.eq_zero_or_pos j with hz|hz
   ·subst hz;have hPr:r=P:=HR.out;subst hPr;clear HR HP;go_wp2;go_ret;exact⟨rfl,hbel⟩
   ·obtain⟨i,rfl⟩:∃i,j=i+1:=⟨j-1,oM⟩
    rw[show((i+1:Nat):Int)-1=(i:Int) by omega];have hbit:=Zagh n oM n1 i;have l1:=Znf r r;have l2:=Znf (fmul r r) x;by_cases cb:n/2^i%2=1
    ·go_wp2_with(go_at_call 123;refine(Zvf _ oM oM _ oM oM _).mono ?_;rintro e w2 ⟨rfl,hb2⟩);exact Zdp
    ·go_wp2_with(go_at_call 123;refine(Zvf _ oM oM _ oM oM _).mono ?_;rintro e w2 ⟨rfl,hb2⟩);exact Zdq
structure Hd where
 pats:List Int
 whole:Int
structure Fr where
 nums:Nat->Int
 whs:Nat->Int
 vecs:Nat->List Int
 slots:List Hd
 outs:Nat->Nat->Int
def putN{α:Type}(f:Nat->α)(k:Nat)(x:α):Nat->α:=fun j=>if j=k then x else f j
theorem Zmi{α:Type}(f:Nat->α)(k:Nat)(x:α):putN f k x k=x:=if_pos rfl
theorem Zmn{α:Type}(f:Nat->α){k j:Nat}(x:α)(h:j≠k):putN f k x j=f j:=if_neg h
theorem Zlf{α:Type}{Q:α->Prop}{f:Nat->α}{k:Nat}{x:α}(h:∀j,Q (f j))(hx:Q x)(j:Nat):Q (putN f k x j):=by
 unfold putN;split
 ·exact hx
 ·exact h j
def lenOf(c:Cd)(p:Int):Nat:=((c.sign[p.toNat]?).map fun q=>q.len.toNat).getD 0
def Zia(c:Cd)(p:Int):Nat:=if Zkv c.sign p=2 then 2 else 1
def Zhy(c:Cd)(t:Ty):Nat:=if t.kind=3 then lenOf c t.par else if t.kind=1 then 1 else 0
def Zkf(c:Cd)(t:Ty)(a:Int):List Int:=List.replicate (Zhy c t) (canon a)
def Ziy(c:Cd)(s:Sl):Hd:=⟨Zkf c s.ty s.bits,s.int_⟩
def rdP(c:Cd)(f:Fr)(r:Int):Hd:=
 if(regT c.regs r).kind=1 then⟨[f.nums r.toNat],0⟩else if(regT c.regs r).kind=2 then⟨[],f.whs r.toNat⟩else⟨f.vecs r.toNat,0⟩
def stP(c:Cd)(f:Fr)(r:Int)(h:Hd):Fr:=
 if(regT c.regs r).kind=1 then{f with nums:=putN f.nums r.toNat (h.pats.headD 0)}
 else if(regT c.regs r).kind=2 then{f with whs:=putN f.whs r.toNat h.whole}
 else{f with vecs:=putN f.vecs r.toNat h.pats}
def atL(l:List Int)(j:Nat):Int:=(l[j]?).getD 0
def Zks(vs:List (List Int))(p:Nat):List Int:=(vs[p]?).getD []
def Ziq(c:Cd)(vs:List (List Int))(i:Ins):List Int:=
 (List.range (lenOf c (regT c.regs i.d).par)).map fun e=>canon (atL (Zks vs (regT c.regs i.d).par.toNat) (Zia c (regT c.regs i.d).par*e+i.n.toNat))
def outP(o:Nat->Nat->Int)(p k n:Nat)(l:List Int):Nat->Nat->Int:=
 fun q j=>if q=p/\j%k=n/\j/k<l.length then atL l (j/k)else o q j
def lF(args:List (List Int))(i:Nat):Nat:=(Zks args i).length
def xF(args:List (List Int))(i j:Nat):Int:=atL (Zks args i) j
def appP(op:Int)(args:List (List Int)):List Int:=
 match shpV (lF args) (args.length-1)with
 |some n=>(List.range n).map fun i=>opf op (elAt (lF args) (xF args) args.length i 0) (elAt (lF args) (xF args) args.length i 1) (elAt (lF args) (xF args) args.length i 2)
 |none=>[]
def Zjh(c:Cd)(f:Fr)(i:Ins):List (List Int):=(Zid i (rowP i.op)).map fun r=>(rdP c f r).pats
def Zll(c:Cd)(f:Fr)(i:Ins):Fr:=
 if(regT c.regs i.d).kind=2 then{f with whs:=putN f.whs i.d.toNat (f.whs i.a.toNat)}
 else stP c f i.d ⟨if(appP i.op (Zjh c f i)).length<Zhy c (regT c.regs i.d)then Zkf c (regT c.regs i.d) ((appP i.op (Zjh c f i)).headD 0)else appP i.op (Zjh c f i),0⟩
def numI(f:Fr)(i:Ins):Int:=
 if i.op=16 then fpow (f.nums i.a.toNat) (f.whs i.b.toNat)else if i.op=17 then Znd (f.whs i.a.toNat)
 else if i.op=19 then fsum (atL (f.vecs i.a.toNat)) (f.vecs i.a.toNat).length else if i.op=20 then Zmh (atL (f.vecs i.a.toNat)) (f.vecs i.a.toNat).length else i.bits
def Zjb(b:Bool):Int:=if b then 1 else 0
def Znb(f:Fr)(i:Ins):Int:=
 if i.op=18 then Zjb (fsel (f.nums i.a.toNat) 1065353216 0==1065353216)
 else if i.op=21 then min (f.whs i.a.toNat) 2147483646+1
 else if i.op=22 then Zjb (decide (f.whs i.a.toNat<f.whs i.b.toNat))
 else if i.op=23 then Zjb (f.whs i.a.toNat==f.whs i.b.toNat)
 else if i.op=24 then Zjb (f.whs i.a.toNat != 0&&f.whs i.b.toNat != 0)
 else if i.op=25 then Zjb (f.whs i.a.toNat==0)
 else if i.op=26 then(if f.whs i.a.toNat=0 then f.whs i.c.toNat else f.whs i.b.toNat)
 else if i.op=27 then max (f.whs i.a.toNat-f.whs i.b.toNat) 0
 else if i.op=28 then(if f.whs i.b.toNat=0 then 0 else f.whs i.a.toNat/f.whs i.b.toNat)
 else i.n
def Zlx(op:Int):Bool:=op==1||op==16||op==17||op==19||op==20
def Zjv(op:Int):Bool:=op==2||op==18||(decide (21<=op)&&decide (op<=28))
def doI(c:Cd)(G P:List (List Int))(f:Fr)(i:Ins):Fr:=
 if Zlx i.op then{f with nums:=putN f.nums i.d.toNat (numI f i)}
 else if Zjv i.op then{f with whs:=putN f.whs i.d.toNat (Znb f i)}
 else if i.op=29 then{f with vecs:=putN f.vecs i.d.toNat (Ziq c G i)}
 else if i.op=30 then{f with vecs:=putN f.vecs i.d.toNat (Ziq c P i)}
 else if i.op=31 then{f with outs:=outP f.outs (regT c.regs i.a).par.toNat (Zia c (regT c.regs i.a).par) i.n.toNat (f.vecs i.a.toNat)}
 else if i.op=32 then stP c f i.d ((f.slots[i.n.toNat]?).getD ⟨[],0⟩)
 else if i.op=33 then{f with slots:=f.slots.set i.n.toNat (rdP c f i.a)}
 else if 34<=i.op/\i.op<=37 then f
 else Zll c f i
def Zjm(c:Cd)(G P:List (List Int))(s:Fr×Nat)(i:Ins):Fr×Nat:=
 if 0<s.2/\i.op=35 then(s.1,s.2-1)
 else if i.op=34/\(0<s.2\/s.1.whs i.a.toNat=0)then(s.1,s.2+1)
 else if s.2=0 then(doI c G P s.1 i,0)else s
def goI(c:Cd)(G P:List (List Int))(s:Fr×Nat)(l:List Ins):Fr×Nat:=l.foldl (Zjm c G P) s
def Zjo(c:Cd):List Hd:=c.slots.map (Ziy c)
def numL(p:Par):Nat:=(numP p).toNat
def updP(c:Cd)(f:Fr):List (List Int):=(List.range c.sign.length).map fun p=>(List.range ((c.sign[p]?).elim 0 numL)).map (f.outs p)
def Zmc(c:Cd)(G P:List (List Int)):Bool:=Zin c.sign (G.map (·.length))&&Zin c.sign (P.map (·.length))
end Go.Proofs.YtbinohkcolcbfaaGreat
