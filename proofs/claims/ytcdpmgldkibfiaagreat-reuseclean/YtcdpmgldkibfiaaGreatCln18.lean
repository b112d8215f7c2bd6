import Derived.Test.YtcdpmgldkibfiaaGreatCln9
import Derived.Test.YtcdpmgldkibfiaaGreatCln14
import Derived.Test.YtcdpmgldkibfiaaGreatCln1
namespace Go.Proofs.YtcdpmgldkibfiaaGreat
open Go.RowKit Go.Proofs.Tryz
set_option linter.all false
set_option maxRecDepth 100000
set_option maxHeartbeats 16000000
def Jj(c:Cd)(f f':Fr)(r r':Int):Prop:=Bl c f' r'=Bl c f r/\A7 c.regs r'=A7 c.regs r
section
variable {c : Cd} {G P : List (List Int)} {f f' : Fr} {i i' : Ac}
theorem Jj.num{r r':Int}(h:Jj c f f' r r')(k:(A7 c.regs r).kind=1):f'.nums r'.toNat=f.nums r.toNat:=by
 obtain⟨h1,h2⟩:=h;unfold Bl at h1;rw[h2,if_pos k,if_pos k]at h1;simpa using h1
theorem Jj.whs{r r':Int}(h:Jj c f f' r r')(k:(A7 c.regs r).kind=2):f'.whs r'.toNat=f.whs r.toNat:=by
 obtain⟨h1,h2⟩:=h;unfold Bl at h1;rw[h2,if_neg oM,if_pos k,if_neg oM,if_pos k]at h1;simpa using h1
theorem Jj.vec{r r':Int}(h:Jj c f f' r r')(k:(A7 c.regs r).kind=3):f'.vecs r'.toNat=f.vecs r.toNat:=by
 obtain⟨h1,h2⟩:=h;unfold Bl at h1;rw[h2,if_neg oM,if_neg oM,if_neg oM,if_neg oM]at h1;simpa using h1
structure EN(c:Cd)(f f':Fr)(i i':Ac):Prop where
 op:i'.op=i.op
 d:A7 c.regs i'.d=A7 c.regs i.d
 n:i'.n=i.n
 bits:i'.bits=i.bits
 a:(A4 i.op).a≠0->Jj c f f' i.a i'.a
 b:(A4 i.op).b≠0->Jj c f f' i.b i'.b
 c:(A4 i.op).c≠0->Jj c f f' i.c i'.c
theorem Fc(h:AJ c i (A4 i.op)=true)(l:Int)(e:(A4 i.op).a=l)(h1:1<=l)(h2:l<=3):(A7 c.regs i.a).kind=l:=by
 have:=AO (BD h) oM;exact Zcw
theorem UL(h:AJ c i (A4 i.op)=true)(l:Int)(e:(A4 i.op).b=l)(h1:1<=l)(h2:l<=3):(A7 c.regs i.b).kind=l:=by
 have:=AO (DR h) oM;exact Zcw
theorem ZT(h:AJ c i (A4 i.op)=true)(l:Int)(e:(A4 i.op).c=l)(h1:1<=l)(h2:l<=3):(A7 c.regs i.c).kind=l:=by
 have:=AO (DS h) oM;exact Zcw
theorem FV(h:AJ c i (A4 i.op)=true)(l:Int)(e:(A4 i.op).d=l)(h1:1<=l)(h2:l<=3):(A7 c.regs i.d).kind=l:=by
 have:=AO (Du h) oM;exact Zcw
theorem QY(h:AJ c i (A4 i.op)=true)(e:EN c f f' i i')(hn:Dh i.op=true):JM f' i'=JM f i:=by
 unfold Dh at hn;simp only[Bool.or_eq_true,beq_iff_eq]at hn;unfold JM;rw[e.op,e.bits];rcases(show i.op=1\/i.op=16\/i.op=17\/i.op=19\/i.op=20 by omega)with o|o|o|o|o
 ·simp[o]
 ·have r:A4 i.op=⟨1,1,2,0,0⟩:=by rw[o];decide
  simp only[o,if_true];rw[(e.a Zhr).num (Fc h 1 (by rw[r]) dE dE),(e.b Zhr).whs (UL h 2 (by rw[r]) dE dE)]
 ·have r:A4 i.op=⟨1,2,0,0,0⟩:=by rw[o];decide
  rw[if_neg oM,if_pos o,if_neg oM,if_pos o,(e.a Zhr).whs (Fc h 2 (by rw[r]) dE dE)]
 ·have r:A4 i.op=⟨1,3,0,0,0⟩:=by rw[o];decide
  rw[if_neg oM,if_neg oM,if_pos o,if_neg oM,if_neg oM,if_pos o,(e.a Zhr).vec (Fc h 3 (by rw[r]) dE dE)]
 ·have r:A4 i.op=⟨1,3,0,0,0⟩:=by rw[o];decide
  rw[if_neg oM,if_neg oM,if_neg oM,if_pos o,if_neg oM,if_neg oM,if_neg oM,if_pos o,(e.a Zhr).vec (Fc h 3 (by rw[r]) dE dE)]
theorem Mc(h:AJ c i (A4 i.op)=true)(e:EN c f f' i i')(hn:Bm i.op=true):EK f' i'=EK f i:=by
 unfold Bm at hn;simp only[Bool.or_eq_true,beq_iff_eq,Bool.and_eq_true,decide_eq_true_eq]at hn;have ka:∀l,(A4 i.op).a=l->1<=l->l<=3->(A7 c.regs i.a).kind=l:=fun l=>Fc h l;have wa:(A4 i.op).a=2->f'.whs i'.a.toNat=f.whs i.a.toNat:=fun q=>(e.a (by rw[q];decide)).whs (Fc h 2 q dE dE);have wb:(A4 i.op).b=2->f'.whs i'.b.toNat=f.whs i.b.toNat:=fun q=>(e.b (by rw[q];decide)).whs (UL h 2 q dE dE);have wc:(A4 i.op).c=2->f'.whs i'.c.toNat=f.whs i.c.toNat:=fun q=>(e.c (by rw[q];decide)).whs (ZT h 2 q dE dE);unfold EK;rw[e.op,e.n];rcases(show i.op=2\/i.op=18\/i.op=21\/i.op=22\/i.op=23\/i.op=24\/i.op=25\/i.op=26\/i.op=27\/i.op=28 by omega)with o|o|o|o|o|o|o|o|o|o
 ·simp[o]
 ·have q:(A4 i.op).a=1:=by rw[o];decide
  have q2:=(e.a (by rw[q];decide)).num (Fc h 1 q dE dE);simp only[o,if_true];rw[q2]
 ·simp[o,wa Xg]
 ·exact Zdv
 ·exact Zdv
 ·exact Zdv
 ·simp[o,wa Xg]
 ·simp[o,wa Xg,wb Xg,wc Xg]
 ·exact Zdv
 ·exact Zdv
theorem U9(e:EN c f f' i i'):Bg c f' i'=Bg c f i:=by
 unfold Bg Ab;rw[e.op];by_cases ha:(A4 i.op).a=0<;>by_cases hb:(A4 i.op).b=0<;>by_cases hc:(A4 i.op).c=0<;>simp only[ha,hb,hc,if_true,if_false,List.nil_append,List.map_append,List.map_cons,List.map_nil]
 all_goals(
  try rw[(e.a ha).1]
  try rw[(e.b hb).1]
  try rw[(e.c hc).1])
theorem E1(c:Cd)(f:Fr)(r:Int)(h:Hd):(In c f r h).slots=f.slots/\(In c f r h).outs=f.outs:=by
 unfold In;split
 ·exact⟨rfl,rfl⟩
 ·split<;>exact⟨rfl,rfl⟩
theorem PR(c:Cd)(f f':Fr){r r':Int}(h:Hd)(e:A7 c.regs r'=A7 c.regs r):Bl c (In c f' r' h) r'=Bl c (In c f r h) r:=by
 unfold Bl In;rw[e];by_cases k1:(A7 c.regs r).kind=1
 ·simp only[k1,if_true,B3]
 ·by_cases k2:(A7 c.regs r).kind=2
  ·simp only[if_neg k1,k2,if_true,B3];simp[B3]
  ·simp only[if_neg k1,if_neg k2,B3]
theorem LQ(c:Cd)(f:Fr){r d:Int}(h:Hd)(e:r.toNat≠d.toNat):Bl c (In c f d h) r=Bl c f r:=by
 unfold In;split
 ·unfold Bl;simp only[By _ _ e]
 ·split
  ·unfold Bl;simp only[By _ _ e]
  ·unfold Bl;simp only[By _ _ e]
theorem E9(c:Cd)(f:Fr)(i:Ac):(E8 c f i).slots=f.slots/\(E8 c f i).outs=f.outs:=by
 unfold E8;split
 ·exact⟨rfl,rfl⟩
 ·exact E1 _ _ _ _
theorem ZK(h:AJ c i (A4 i.op)=true)(hk:Ak i.op=true)(e:EN c f f' i i')(hsl:f'.slots=f.slots)(hou:f'.outs=f.outs):
 (CY c G P f' i').slots=(CY c G P f i).slots/\(CY c G P f' i').outs=(CY c G P f i).outs/\(Aa i=true->Bl c (CY c G P f' i') i'.d=Bl c (CY c G P f i) i.d):=by
 have eo:=e.op;rcases CB hk with o|o|o|o|o|o|o|o|o
 ·have hd:(A4 i.op).d=1:=by
   exact Zek
  have k:=FV h 1 hd dE dE;rw[BC o,BC Ze];refine⟨hsl,hou,fun _=>?_⟩;unfold Bl;rw[e.d,if_pos k,if_pos k];simp only[B3,QY h e o]
 ·have hd:(A4 i.op).d=2:=by
   exact Zdj
  have k:=FV h 2 hd dE dE;rw[B5 o,B5 Ze];refine⟨hsl,hou,fun _=>?_⟩;unfold Bl;rw[e.d,if_neg oM,if_pos k,if_neg oM,if_pos k];simp only[B3,Mc h e o]
 ·have k:=FV h 3 Xg dE dE;have hp:Bd c G i'=Bd c G i:=by unfold Bd;rw[e.d,e.n]
  rw[C6 o,C6 (eo.trans o)];refine⟨hsl,hou,fun _=>?_⟩;exact Zdm
 ·have k:=FV h 3 Xg dE dE;have hp:Bd c P i'=Bd c P i:=by unfold Bd;rw[e.d,e.n]
  rw[C7 o,C7 (eo.trans o)];refine⟨hsl,hou,fun _=>?_⟩;exact Zdm
 ·have ra:(A4 i.op).a=3:=by rw[o];decide
  have q:=e.a Zhn;rw[Cn o,Cn (eo.trans o)];refine⟨hsl,?_,fun s=>?_⟩
  ·simp only;rw[q.2,q.vec (Fc h 3 ra dE dE),hou,e.n]
  ·exact Zel
 ·rw[C8 o,C8 (eo.trans o)];obtain⟨s1,s2⟩:=E1 c f i.d ((f.slots[i.n.toNat]?).getD ⟨[],0⟩);obtain⟨s3,s4⟩:=E1 c f' i'.d ((f'.slots[i'.n.toNat]?).getD ⟨[],0⟩);refine⟨by rw[s1,s3,hsl],by rw[s2,s4,hou],fun _=>?_⟩;rw[hsl,e.n];exact PR c f f' _ e.d
 ·have ra:(A4 i.op).a=6:=by rw[o];decide
  have q:=e.a Zhn;rw[Co o,Co (eo.trans o)];refine⟨?_,hou,fun s=>?_⟩
  ·simp only;rw[hsl,e.n,q.1]
  ·exact Zel
 ·rw[AN o,AN Ze];refine⟨hsl,hou,fun s=>?_⟩;obtain⟨a1,a2,a3,a4⟩:=Ft s;omega
 ·rw[AZ o,AZ Ze];obtain⟨s1,s2⟩:=E9 c f i;obtain⟨s3,s4⟩:=E9 c f' i';refine⟨by rw[s1,s3,hsl],by rw[s2,s4,hou],fun _=>?_⟩;exact Zba
theorem Jg(h:AJ c i (A4 i.op)=true)(hk:Ak i.op=true)(e:EN c f f' i i')(hsl:i.op=32->f'.slots=f.slots):
 (Aa i=true->Bl c (CY c G P f' i') i'.d=Bl c (CY c G P f i) i.d):=by
 have eo:=e.op;rcases CB hk with o|o|o|o|o|o|o|o|o
 ·have hd:(A4 i.op).d=1:=by
   exact Zek
  have k:=FV h 1 hd dE dE;rw[BC o,BC Ze];intro _;unfold Bl;rw[e.d,if_pos k,if_pos k];simp only[B3,QY h e o]
 ·have hd:(A4 i.op).d=2:=by
   exact Zdj
  have k:=FV h 2 hd dE dE;rw[B5 o,B5 Ze];intro _;unfold Bl;rw[e.d,if_neg oM,if_pos k,if_neg oM,if_pos k];simp only[B3,Mc h e o]
 ·have k:=FV h 3 Xg dE dE;have hp:Bd c G i'=Bd c G i:=by unfold Bd;rw[e.d,e.n]
  rw[C6 o,C6 (eo.trans o)];intro _;exact Zdm
 ·have k:=FV h 3 Xg dE dE;have hp:Bd c P i'=Bd c P i:=by unfold Bd;rw[e.d,e.n]
  rw[C7 o,C7 (eo.trans o)];intro _;exact Zdm
 ·have ra:(A4 i.op).a=3:=by rw[o];decide
  have q:=e.a Zhn;rw[Cn o,Cn (eo.trans o)];intro s;exact Zel
 ·rw[C8 o,C8 (eo.trans o)];obtain⟨s1,s2⟩:=E1 c f i.d ((f.slots[i.n.toNat]?).getD ⟨[],0⟩);obtain⟨s3,s4⟩:=E1 c f' i'.d ((f'.slots[i'.n.toNat]?).getD ⟨[],0⟩);intro _;rw[hsl o,e.n];exact PR c f f' _ e.d
 ·have ra:(A4 i.op).a=6:=by rw[o];decide
  have q:=e.a Zhn;rw[Co o,Co (eo.trans o)];intro s;exact Zel
 ·rw[AN o,AN Ze];intro s;obtain⟨a1,a2,a3,a4⟩:=Ft s;omega
 ·rw[AZ o,AZ Ze];obtain⟨s1,s2⟩:=E9 c f i;obtain⟨s3,s4⟩:=E9 c f' i';intro _;exact Zba
theorem EQ(hk:Ak i.op=true){r:Int}(hr:Aa i=true->r.toNat≠i.d.toNat):Bl c (CY c G P f i) r=Bl c f r:=by
 have sb:∀q:Int,i.op=q->(A4 q).d≠0->Aa i=true:=fun q e h=>by unfold Aa;rw[e];simpa using h
 rcases CB hk with o|o|o|o|o|o|o|o|o
 ·have s:Aa i=true:=by
   unfold Dh at o;simp only[Bool.or_eq_true,beq_iff_eq]at o;rcases(show i.op=1\/i.op=16\/i.op=17\/i.op=19\/i.op=20 by omega)with q|q|q|q|q<;>exact sb _ q dE
  rw[BC o];unfold Bl;simp only[By _ _ (hr s)]
 ·have s:Aa i=true:=by
   unfold Bm at o;simp only[Bool.or_eq_true,beq_iff_eq,Bool.and_eq_true,decide_eq_true_eq]at o;rcases(show i.op=2\/i.op=18\/i.op=21\/i.op=22\/i.op=23\/i.op=24\/i.op=25\/i.op=26\/i.op=27\/i.op=28 by omega)with q|q|q|q|q|q|q|q|q|q<;>exact sb _ q dE
  rw[B5 o];unfold Bl;simp only[By _ _ (hr s)]
 ·rw[C6 o];unfold Bl;simp only[By _ _ (hr (sb _ o dE))]
 ·rw[C7 o];unfold Bl;simp only[By _ _ (hr (sb _ o dE))]
 ·rw[Cn o];rfl
 ·rw[C8 o];exact LQ c f _ (hr (sb _ o dE))
 ·rw[Co o];rfl
 ·rw[AN o]
 ·have s:Aa i=true:=by
   unfold Bj at o;simp only[Bool.and_eq_true,decide_eq_true_eq]at o;rcases(show i.op=3\/i.op=4\/i.op=5\/i.op=6\/i.op=7\/i.op=8\/i.op=9\/i.op=10\/i.op=11\/i.op=12\/i.op=13\/i.op=14\/i.op=15 by omega)with q|q|q|q|q|q|q|q|q|q|q|q|q<;>exact sb _ q dE
  rw[AZ o];unfold E8;split
  ·unfold Bl;simp only[By _ _ (hr s)]
  ·exact LQ c f _ (hr s)
theorem Qc(hk:Ak i.op=true)(s:Aa i=true):(CY c G P f i).slots=f.slots/\(CY c G P f i).outs=f.outs:=by
 rcases CB hk with o|o|o|o|o|o|o|o|o
 ·rw[BC o];exact⟨rfl,rfl⟩
 ·rw[B5 o];exact⟨rfl,rfl⟩
 ·rw[C6 o];exact⟨rfl,rfl⟩
 ·rw[C7 o];exact⟨rfl,rfl⟩
 ·exfalso;unfold Aa at s;rw[o]at s;exact absurd s dE
 ·rw[C8 o];exact E1 _ _ _ _
 ·exfalso;unfold Aa at s;rw[o]at s;exact absurd s dE
 ·rw[AN o];exact⟨rfl,rfl⟩
 ·rw[AZ o];exact E9 _ _ _
theorem EN.refl(h:∀r∈Ab i (A4 i.op),Jj c f f' r r):EN c f f' i i:=by
 unfold Ab at h;simp only[List.mem_append]at h;refine⟨rfl,rfl,rfl,rfl,fun q=>h _ (.inl OV),fun q=>h _ (.inr (.inl OV)),fun q=>h _ (.inr (.inr OV))⟩
end
end Go.Proofs.YtcdpmgldkibfiaaGreat
