import Derived.Test.YtbinohkcolcbfaaGreatPart8
import Derived.Test.YtbinohkcolcbfaaGreatPart1
namespace Go.Proofs.YtbinohkcolcbfaaGreat
open Go.RowKit Go.Proofs.Tryz
set_option linter.all false
set_option maxRecDepth 100000
set_option maxHeartbeats 16000000
theorem Mi(a b:Int)(h0:0<=a)(h1:a<4294967296)(g0:0<=b)(g1:b<4294967296)(h:BB a=true\/BB b=true):CG a b=2143289344:=by
 rcases h with h|h
 ·obtain⟨s,t,e⟩:=EZ a h0 h1 h;rw[Cr a b e rfl];cases Ieee.single.read b.toNat<;>rfl
 ·obtain⟨s,t,e⟩:=EZ b g0 g1 h;rw[Cr a b rfl e];cases Ieee.single.read a.toNat<;>rfl
theorem JO(a b:Int)(h0:0<=a)(h1:a<4294967296)(g0:0<=b)(g1:b<4294967296){s:Bool}{i:Int}(ra:Ieee.single.read a.toNat=.number s 0 i)(rb:Ieee.single.read b.toNat=.number (AU b) (nM b).toNat (nE b))(hb:nM b≠0)(hb0:0<=nM b)(hi: -149<=i)(hj: -149<=nE b):
 CG a b=(Ieee.single.nearest (AU b) (nM b).toNat (nE b):Nat):=by
 rw[Cr a b ra rb];simp only[Ieee.Datum.sum,Option.map_some,Ieee.Format.write];generalize hbase:min i (nE b)=base;have hz:Ieee.signed s 0 (i-base).toNat=0:=by unfold Ieee.signed;simp
 rw[hz,Int.zero_add,Hi];have hP:(1:Int)<=2^(nE b-base).toNat:=Int.pow_pos dE;have hX:0<((nM b).toNat:Int)*2^(nE b-base).toNat:=Int.mul_pos oM oM;have e1:¬ (G4 (AU b) (((nM b).toNat:Int)*2^(nE b-base).toNat)=0):=by
  unfold G4;split<;>omega
 have e2:decide (G4 (AU b) (((nM b).toNat:Int)*2^(nE b-base).toNat)<0)=AU b:=by
  generalize ((nM b).toNat:Int)*2^(nE b-base).toNat=X at *;cases AU b<;>simp only[G4,if_true,if_false,Bool.false_eq_true]<;>simp<;>omega
 have e3:(G4 (AU b) (((nM b).toNat:Int)*2^(nE b-base).toNat)).natAbs=(nM b).toNat*2^(nE b-base).toNat:=by
  have hc:(((nM b).toNat*2^(nE b-base).toNat:Nat):Int)=((nM b).toNat:Int)*2^(nE b-base).toNat:=by rw[Int.natCast_mul,Int.natCast_pow];rfl
  unfold G4;split<;>omega
 rw[if_neg e1,e2,e3];show((Ieee.single.nearest (AU b) _ base:Nat):Int)=_;rw[AY,AY,CE,By];obtain⟨c,hc⟩:∃c:Nat,(c:Int)=base+149:=⟨(base+149).toNat,oM⟩
 obtain⟨d,hd⟩:∃d:Nat,(d:Int)=nE b+149:=⟨(nE b+149).toNat,oM⟩
 have r1:=Nb ((nM b).toNat*2^(nE b-base).toNat) c;have r2:=Nb (nM b).toNat d;rw[show -149+(c:Int)=base by omega]at r1;rw[show -149+(d:Int)=nE b by omega]at r2;rw[r1,r2,Nat.mul_assoc,←Nat.pow_add,show(nE b-base).toNat+c=d by omega]
theorem IZ(a:Int)(h0:0<=a)(h1:a<4294967296)(b:Int)(g0:0<=b)(g1:b<4294967296)(w:World):
 Calls prog 125 #[.int .i64 a,.int .i64 b] w fun e w'=>e=.returned (.int .i64 (CG a b))/\Below w.heap.size w w':=by
 cases hna:BB a
 ·cases hnb:BB b
  ·cases hia:Dl a
   ·obtain⟨ra,a1,a2,a3,a4,a5⟩:=BD a h0 h1 hia hna;cases hib:Dl b
    ·obtain⟨rb,b1,b2,b3,b4,b5⟩:=BD b g0 g1 hib hnb;by_cases za:nM a=0
     ·by_cases zb:nM b=0
      ·have hv:CG a b=GR (AU a&&AU b):=by
        rw[Cr a b ra rb,za,zb];simp only[Ieee.Datum.sum,Option.map_some,Ieee.Format.write];have:Ieee.signed (AU a) (0:Int).toNat (nE a-min (nE a) (nE b)).toNat+Ieee.signed (AU b) (0:Int).toNat (nE b-min (nE a) (nE b)).toNat=0:=by unfold Ieee.signed;simp
        rw[this,if_pos rfl];exact FL _ _
       rw[hv];clear hv ra rb;cases hma:AU a
       ·rw[Bool.false_and];exact Sw
       ·rw[Bool.true_and];exact Sw
      ·have hv:=JO a b h0 h1 g0 g1 (s:=AU a) (i:=nE a) (by rw[ra,za];rfl) rb zb b1 a3 b3;rw[hv];clear hv ra rb;exact Sw
     ·by_cases zb:nM b=0
      ·have hv:=JO b a g0 g1 h0 h1 (s:=AU b) (i:=nE b) (by rw[rb,zb];rfl) ra za a1 b3 a3;rw[JN,hv];clear hv ra rb;exact Sw
      ·by_cases hE:nE a<nE b
       ·have hv:CG a b=Sk (AU b) (nM b) (nE b) (AU a) (nM a) (nE a):=by
         rw[JN,Cr b a rb ra,Nk _ _ _ _ _ _ oM b2 oM a2 a3 oM b5]
        exact Zbs
       ·have hv:CG a b=Sk (AU a) (nM a) (nE a) (AU b) (nM b) (nE b):=by
         rw[Cr a b ra rb,Nk _ _ _ _ _ _ oM a2 oM b2 b3 oM a5]
        exact Zbs
    ·obtain⟨rb,-,b1⟩:=Dc b g0 g1 hib;have hv:CG a b=GR (AU b)+2139095040:=by rw[Cr a b ra rb,←BU];rfl
     rw[hv];clear hv ra rb;exact Sw
   ·obtain⟨ra,-,a1⟩:=Dc a h0 h1 hia;cases hib:Dl b
    ·obtain⟨rb,b1,b2,b3,b4,b5⟩:=BD b g0 g1 hib hnb;have hv:CG a b=GR (AU a)+2139095040:=by rw[Cr a b ra rb,←BU];rfl
     rw[hv];clear hv ra rb;exact Sw
    ·obtain⟨rb,-,b1⟩:=Dc b g0 g1 hib;cases hma:AU a<;>cases hmb:AU b<;>rw[hma]at ra<;>rw[hmb]at rb
     ·have hv:CG a b=GR false+2139095040:=by rw[Cr a b ra rb,←BU];rfl
      rw[hv];clear hv ra rb;exact Sw
     ·have hv:CG a b=2143289344:=by rw[Cr a b ra rb];rfl
      rw[hv];clear hv ra rb;exact Sw
     ·have hv:CG a b=2143289344:=by rw[Cr a b ra rb];rfl
      rw[hv];clear hv ra rb;exact Sw
     ·have hv:CG a b=GR true+2139095040:=by rw[Cr a b ra rb,←BU];rfl
      rw[hv];clear hv ra rb;exact Sw
  ·have hv:=Mi a b h0 h1 g0 g1 (Or.inr hnb);rw[hv];clear hv;exact Sw
 ·have hv:=Mi a b h0 h1 g0 g1 (Or.inl hna);rw[hv];clear hv;exact Sw
theorem I2(d e:Ieee.Datum)(h:d.isNaN=true):e.sum d=none:=by
 cases d<;>simp[Ieee.Datum.isNaN]at h
 cases e<;>rfl
theorem WI(a b:Int)(g0:0<=b)(g1:b<4294967296):IF a b=CG a (Gq b):=by
 cases hn:nan b
 ·rw[Mt b g0 g1 hn];unfold IF CG Ieee.Format.sub Ieee.Format.add;rw[Int.toNat_natCast,RI _ oM]
 ·rw[Ms b g0 g1 hn];have h2:2139095040<rg b.toNat:=by rw[IS b g0]at hn;simpa using hn
  unfold IF CG Ieee.Format.sub Ieee.Format.add;rw[C7 _ h2,show Ieee.single.read (2143289344:Int).toNat=.nan false 4194304 from by decide,I2 _ _ rfl,I2 _ _ rfl]
theorem V7(a:Int)(h0:0<=a)(h1:a<4294967296)(b:Int)(g0:0<=b)(g1:b<4294967296)(w:World):
 Calls prog 183 #[.int .i64 a,.int .i64 b] w fun e w'=>e=.returned (.int .i64 (IF a b))/\Below w.heap.size w w':=by
 rw[WI a b g0 g1];have hl:=PB b g0 g1;go_enter func183,ntmps183;go_wp2_with(first
  |(go_at_call 179;refine(MT _ g0 g1 _).mono ?_;rintro e w1 ⟨rfl,hb1⟩)
  |(go_at_call 125;refine(IZ _ h0 h1 _ hl.1 hl.2 _).mono ?_;rintro e w2 ⟨rfl,hb2⟩))
 go_ret;exact⟨rfl,Dh hb1 hb2⟩

end Go.Proofs.YtbinohkcolcbfaaGreat
