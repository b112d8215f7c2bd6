import Derived.Test.YtbinohkcolcbfaaGreatClon8
import Derived.Test.YtbinohkcolcbfaaGreatClon1
namespace Go.Proofs.YtbinohkcolcbfaaGreat
open Go.RowKit Go.Proofs.Tryz
set_option linter.all false
set_option maxRecDepth 100000
set_option maxHeartbeats 16000000
theorem Md(a b:Int)(h0:0<=a)(h1:a<4294967296)(g0:0<=b)(g1:b<4294967296)(h:BC a=true\/BC b=true):CC a b=2143289344:=by
 rcases h with h|h
 ·obtain⟨s,t,e⟩:=EO a h0 h1 h;rw[Ck a b e rfl];cases Ieee.single.read b.toNat<;>rfl
 ·obtain⟨s,t,e⟩:=EO b g0 g1 h;rw[Ck a b rfl e];cases Ieee.single.read a.toNat<;>rfl
theorem JE(a b:Int)(h0:0<=a)(h1:a<4294967296)(g0:0<=b)(g1:b<4294967296){s:Bool}{i:Int}(ra:Ieee.single.read a.toNat=.number s 0 i)(rb:Ieee.single.read b.toNat=.number (AU b) (nM b).toNat (nE b))(hb:nM b≠0)(hb0:0<=nM b)(hi: -149<=i)(hj: -149<=nE b):
 CC a b=(Ieee.single.nearest (AU b) (nM b).toNat (nE b):Nat):=by
 rw[Ck a b ra rb];simp only[Ieee.Datum.sum,Option.map_some,Ieee.Format.write];generalize hbase:min i (nE b)=base;have hz:Ieee.signed s 0 (i-base).toNat=0:=by unfold Ieee.signed;simp
 rw[hz,Int.zero_add,H5];have hP:(1:Int)<=2^(nE b-base).toNat:=Int.pow_pos dE;have hX:0<((nM b).toNat:Int)*2^(nE b-base).toNat:=Int.mul_pos oM oM;have e1:¬ (FQ (AU b) (((nM b).toNat:Int)*2^(nE b-base).toNat)=0):=by
  unfold FQ;split<;>omega
 have e2:decide (FQ (AU b) (((nM b).toNat:Int)*2^(nE b-base).toNat)<0)=AU b:=by
  generalize ((nM b).toNat:Int)*2^(nE b-base).toNat=X at *;cases AU b<;>simp only[FQ,if_true,if_false,Bool.false_eq_true]<;>simp<;>omega
 have e3:(FQ (AU b) (((nM b).toNat:Int)*2^(nE b-base).toNat)).natAbs=(nM b).toNat*2^(nE b-base).toNat:=by
  have hc:(((nM b).toNat*2^(nE b-base).toNat:Nat):Int)=((nM b).toNat:Int)*2^(nE b-base).toNat:=by rw[Int.natCast_mul,Int.natCast_pow];rfl
  unfold FQ;split<;>omega
 rw[if_neg e1,e2,e3];show((Ieee.single.nearest (AU b) _ base:Nat):Int)=_;rw[AX,AX,Cz,Bz];obtain⟨c,hc⟩:∃c:Nat,(c:Int)=base+149:=⟨(base+149).toNat,oM⟩
 obtain⟨d,hd⟩:∃d:Nat,(d:Int)=nE b+149:=⟨(nE b+149).toNat,oM⟩
 have r1:=MY ((nM b).toNat*2^(nE b-base).toNat) c;have r2:=MY (nM b).toNat d;rw[show -149+(c:Int)=base by omega]at r1;rw[show -149+(d:Int)=nE b by omega]at r2;rw[r1,r2,Nat.mul_assoc,←Nat.pow_add,show(nE b-base).toNat+c=d by omega]
theorem IK(a:Int)(h0:0<=a)(h1:a<4294967296)(b:Int)(g0:0<=b)(g1:b<4294967296)(w:World):
 Calls prog 125 #[.int .i64 a,.int .i64 b] w fun e w'=>e=.returned (.int .i64 (CC a b))/\Below w.heap.size w w':=by
 cases hna:BC a
 ·cases hnb:BC b
  ·cases hia:De a
   ·obtain⟨ra,a1,a2,a3,a4,a5⟩:=BD a h0 h1 hia hna;cases hib:De b
    ·obtain⟨rb,b1,b2,b3,b4,b5⟩:=BD b g0 g1 hib hnb;by_cases za:nM a=0
     ·by_cases zb:nM b=0
      ·have hv:CC a b=GF (AU a&&AU b):=by
        rw[Ck a b ra rb,za,zb];simp only[Ieee.Datum.sum,Option.map_some,Ieee.Format.write];have:Ieee.signed (AU a) (0:Int).toNat (nE a-min (nE a) (nE b)).toNat+Ieee.signed (AU b) (0:Int).toNat (nE b-min (nE a) (nE b)).toNat=0:=by unfold Ieee.signed;simp
        rw[this,if_pos rfl];exact FA _ _
       rw[hv];clear hv ra rb;cases hma:AU a
       ·rw[Bool.false_and];exact Ss
       ·rw[Bool.true_and];exact Ss
      ·have hv:=JE a b h0 h1 g0 g1 (s:=AU a) (i:=nE a) (by rw[ra,za];rfl) rb zb b1 a3 b3;rw[hv];clear hv ra rb;exact Ss
     ·by_cases zb:nM b=0
      ·have hv:=JE b a g0 g1 h0 h1 (s:=AU b) (i:=nE b) (by rw[rb,zb];rfl) ra za a1 b3 a3;rw[JD,hv];clear hv ra rb;exact Ss
      ·by_cases hE:nE a<nE b
       ·have hv:CC a b=Sj (AU b) (nM b) (nE b) (AU a) (nM a) (nE a):=by
         rw[JD,Ck b a rb ra,Nc _ _ _ _ _ _ oM b2 oM a2 a3 oM b5]
        exact Zbt
       ·have hv:CC a b=Sj (AU a) (nM a) (nE a) (AU b) (nM b) (nE b):=by
         rw[Ck a b ra rb,Nc _ _ _ _ _ _ oM a2 oM b2 b3 oM a5]
        exact Zbt
    ·obtain⟨rb,-,b1⟩:=D5 b g0 g1 hib;have hv:CC a b=GF (AU b)+2139095040:=by rw[Ck a b ra rb,←BU];rfl
     rw[hv];clear hv ra rb;exact Ss
   ·obtain⟨ra,-,a1⟩:=D5 a h0 h1 hia;cases hib:De b
    ·obtain⟨rb,b1,b2,b3,b4,b5⟩:=BD b g0 g1 hib hnb;have hv:CC a b=GF (AU a)+2139095040:=by rw[Ck a b ra rb,←BU];rfl
     rw[hv];clear hv ra rb;exact Ss
    ·obtain⟨rb,-,b1⟩:=D5 b g0 g1 hib;cases hma:AU a<;>cases hmb:AU b<;>rw[hma]at ra<;>rw[hmb]at rb
     ·have hv:CC a b=GF false+2139095040:=by rw[Ck a b ra rb,←BU];rfl
      rw[hv];clear hv ra rb;exact Ss
     ·have hv:CC a b=2143289344:=by rw[Ck a b ra rb];rfl
      rw[hv];clear hv ra rb;exact Ss
     ·have hv:CC a b=2143289344:=by rw[Ck a b ra rb];rfl
      rw[hv];clear hv ra rb;exact Ss
     ·have hv:CC a b=GF true+2139095040:=by rw[Ck a b ra rb,←BU];rfl
      rw[hv];clear hv ra rb;exact Ss
  ·have hv:=Md a b h0 h1 g0 g1 (Or.inr hnb);rw[hv];clear hv;exact Ss
 ·have hv:=Md a b h0 h1 g0 g1 (Or.inl hna);rw[hv];clear hv;exact Ss
theorem Hq(d e:Ieee.Datum)(h:d.isNaN=true):e.sum d=none:=by
 cases d<;>simp[Ieee.Datum.isNaN]at h
 cases e<;>rfl
theorem WA(a b:Int)(g0:0<=b)(g1:b<4294967296):Is a b=CC a (Ge b):=by
 cases hn:nan b
 ·rw[Mo b g0 g1 hn];unfold Is CC Ieee.Format.sub Ieee.Format.add;rw[Int.toNat_natCast,RI _ oM]
 ·rw[Mn b g0 g1 hn];have h2:2139095040<rg b.toNat:=by rw[ID b g0]at hn;simpa using hn
  unfold Is CC Ieee.Format.sub Ieee.Format.add;rw[C3 _ h2,show Ieee.single.read (2143289344:Int).toNat=.nan false 4194304 from by decide,Hq _ _ rfl,Hq _ _ rfl]
theorem UZ(a:Int)(h0:0<=a)(h1:a<4294967296)(b:Int)(g0:0<=b)(g1:b<4294967296)(w:World):
 Calls prog 183 #[.int .i64 a,.int .i64 b] w fun e w'=>e=.returned (.int .i64 (Is a b))/\Below w.heap.size w w':=by
 rw[WA a b g0 g1];have hl:=Px b g0 g1;go_enter func183,ntmps183;go_wp2_with(first
  |(go_at_call 179;refine(ML _ g0 g1 _).mono ?_;rintro e w1 ⟨rfl,hb1⟩)
  |(go_at_call 125;refine(IK _ h0 h1 _ hl.1 hl.2 _).mono ?_;rintro e w2 ⟨rfl,hb2⟩))
 go_ret;exact⟨rfl,Da hb1 hb2⟩

end Go.Proofs.YtbinohkcolcbfaaGreat
