import Derived.Test.YtcdpmgldkibfiaaGreatFrm9
import Derived.Test.YtcdpmgldkibfiaaGreatFrm14
import Derived.Test.YtcdpmgldkibfiaaGreatFrm1
namespace Go.Proofs.YtcdpmgldkibfiaaGreat
open Go.RowKit Go.Proofs.Tryz
set_option linter.all false
set_option maxRecDepth 100000
set_option maxHeartbeats 16000000
def IR(c:Cd)(f f':Fr)(r r':Int):Prop:=Bj c f' r'=Bj c f r/\A7 c.regs r'=A7 c.regs r
section
variable {c : Cd} {G P : List (List Int)} {f f' : Fr} {i i' : Ae}
theorem IR.num{r r':Int}(h:IR c f f' r r')(k:(A7 c.regs r).kind=1):f'.nums r'.toNat=f.nums r.toNat:=by
 obtain⟨h1,h2⟩:=h;unfold Bj at h1;rw[h2,if_pos k,if_pos k]at h1;simpa using h1
theorem IR.whs{r r':Int}(h:IR c f f' r r')(k:(A7 c.regs r).kind=2):f'.whs r'.toNat=f.whs r.toNat:=by
 obtain⟨h1,h2⟩:=h;unfold Bj at h1;rw[h2,if_neg oM,if_pos k,if_neg oM,if_pos k]at h1;simpa using h1
theorem IR.vec{r r':Int}(h:IR c f f' r r')(k:(A7 c.regs r).kind=3):f'.vecs r'.toNat=f.vecs r.toNat:=by
 obtain⟨h1,h2⟩:=h;unfold Bj at h1;rw[h2,if_neg oM,if_neg oM,if_neg oM,if_neg oM]at h1;simpa using h1
structure EC(c:Cd)(f f':Fr)(i i':Ae):Prop where
 op:i'.op=i.op
 d:A7 c.regs i'.d=A7 c.regs i.d
 n:i'.n=i.n
 bits:i'.bits=i.bits
 a:(A4 i.op).a≠0->IR c f f' i.a i'.a
 b:(A4 i.op).b≠0->IR c f f' i.b i'.b
 c:(A4 i.op).c≠0->IR c f f' i.c i'.c
theorem F0(h:AJ c i (A4 i.op)=true)(l:Int)(e:(A4 i.op).a=l)(h1:1<=l)(h2:l<=3):(A7 c.regs i.a).kind=l:=by
 have:=AK (BE h) oM;exact Zcu
theorem TJ(h:AJ c i (A4 i.op)=true)(l:Int)(e:(A4 i.op).b=l)(h1:1<=l)(h2:l<=3):(A7 c.regs i.b).kind=l:=by
 have:=AK (DH h) oM;exact Zcu
theorem Z1(h:AJ c i (A4 i.op)=true)(l:Int)(e:(A4 i.op).c=l)(h1:1<=l)(h2:l<=3):(A7 c.regs i.c).kind=l:=by
 have:=AK (DI h) oM;exact Zcu
theorem FF(h:AJ c i (A4 i.op)=true)(l:Int)(e:(A4 i.op).d=l)(h1:1<=l)(h2:l<=3):(A7 c.regs i.d).kind=l:=by
 have:=AK (Dg h) oM;exact Zcu
theorem Q7(h:AJ c i (A4 i.op)=true)(e:EC c f f' i i')(hn:D6 i.op=true):Jl f' i'=Jl f i:=by
 unfold D6 at hn;simp only[Bool.or_eq_true,beq_iff_eq]at hn;unfold Jl;rw[e.op,e.bits];rcases(show i.op=1\/i.op=16\/i.op=17\/i.op=19\/i.op=20 by omega)with o|o|o|o|o
 ·simp[o]
 ·have r:A4 i.op=⟨1,1,2,0,0⟩:=by rw[o];decide
  simp only[o,if_true];rw[(e.a Zhm).num (F0 h 1 (by rw[r]) dE dE),(e.b Zhm).whs (TJ h 2 (by rw[r]) dE dE)]
 ·have r:A4 i.op=⟨1,2,0,0,0⟩:=by rw[o];decide
  rw[if_neg oM,if_pos o,if_neg oM,if_pos o,(e.a Zhm).whs (F0 h 2 (by rw[r]) dE dE)]
 ·have r:A4 i.op=⟨1,3,0,0,0⟩:=by rw[o];decide
  rw[if_neg oM,if_neg oM,if_pos o,if_neg oM,if_neg oM,if_pos o,(e.a Zhm).vec (F0 h 3 (by rw[r]) dE dE)]
 ·have r:A4 i.op=⟨1,3,0,0,0⟩:=by rw[o];decide
  rw[if_neg oM,if_neg oM,if_neg oM,if_pos o,if_neg oM,if_neg oM,if_neg oM,if_pos o,(e.a Zhm).vec (F0 h 3 (by rw[r]) dE dE)]
theorem LF(h:AJ c i (A4 i.op)=true)(e:EC c f f' i i')(hn:Bm i.op=true):Ey f' i'=Ey f i:=by
 unfold Bm at hn;simp only[Bool.or_eq_true,beq_iff_eq,Bool.and_eq_true,decide_eq_true_eq]at hn;have ka:∀l,(A4 i.op).a=l->1<=l->l<=3->(A7 c.regs i.a).kind=l:=fun l=>F0 h l;have wa:(A4 i.op).a=2->f'.whs i'.a.toNat=f.whs i.a.toNat:=fun q=>(e.a (by rw[q];decide)).whs (F0 h 2 q dE dE);have wb:(A4 i.op).b=2->f'.whs i'.b.toNat=f.whs i.b.toNat:=fun q=>(e.b (by rw[q];decide)).whs (TJ h 2 q dE dE);have wc:(A4 i.op).c=2->f'.whs i'.c.toNat=f.whs i.c.toNat:=fun q=>(e.c (by rw[q];decide)).whs (Z1 h 2 q dE dE);unfold Ey;rw[e.op,e.n];rcases(show i.op=2\/i.op=18\/i.op=21\/i.op=22\/i.op=23\/i.op=24\/i.op=25\/i.op=26\/i.op=27\/i.op=28 by omega)with o|o|o|o|o|o|o|o|o|o
 ·simp[o]
 ·have q:(A4 i.op).a=1:=by rw[o];decide
  have q2:=(e.a (by rw[q];decide)).num (F0 h 1 q dE dE);simp only[o,if_true];rw[q2]
 ·simp[o,wa Wc]
 ·exact ZY
 ·exact ZY
 ·exact ZY
 ·simp[o,wa Wc]
 ·simp[o,wa Wc,wb Wc,wc Wc]
 ·exact ZY
 ·exact ZY
theorem T0(e:EC c f f' i i'):Be c f' i'=Be c f i:=by
 unfold Be Aa;rw[e.op];by_cases ha:(A4 i.op).a=0<;>by_cases hb:(A4 i.op).b=0<;>by_cases hc:(A4 i.op).c=0<;>simp only[ha,hb,hc,if_true,if_false,List.nil_append,List.map_append,List.map_cons,List.map_nil]
 all_goals(
  try rw[(e.a ha).1]
  try rw[(e.b hb).1]
  try rw[(e.c hc).1])
theorem DR(c:Cd)(f:Fr)(r:Int)(h:Hd):(Hw c f r h).slots=f.slots/\(Hw c f r h).outs=f.outs:=by
 unfold Hw;split
 ·exact⟨rfl,rfl⟩
 ·split<;>exact⟨rfl,rfl⟩
theorem OW(c:Cd)(f f':Fr){r r':Int}(h:Hd)(e:A7 c.regs r'=A7 c.regs r):Bj c (Hw c f' r' h) r'=Bj c (Hw c f r h) r:=by
 unfold Bj Hw;rw[e];by_cases k1:(A7 c.regs r).kind=1
 ·simp only[k1,if_true,AZ]
 ·by_cases k2:(A7 c.regs r).kind=2
  ·simp only[if_neg k1,k2,if_true,AZ];simp[AZ]
  ·simp only[if_neg k1,if_neg k2,AZ]
theorem Lh(c:Cd)(f:Fr){r d:Int}(h:Hd)(e:r.toNat≠d.toNat):Bj c (Hw c f d h) r=Bj c f r:=by
 unfold Hw;split
 ·unfold Bj;simp only[Bu _ _ e]
 ·split
  ·unfold Bj;simp only[Bu _ _ e]
  ·unfold Bj;simp only[Bu _ _ e]
theorem DY(c:Cd)(f:Fr)(i:Ae):(DX c f i).slots=f.slots/\(DX c f i).outs=f.outs:=by
 unfold DX;split
 ·exact⟨rfl,rfl⟩
 ·exact DR _ _ _ _
theorem YR(h:AJ c i (A4 i.op)=true)(hk:Aj i.op=true)(e:EC c f f' i i')(hsl:f'.slots=f.slots)(hou:f'.outs=f.outs):
 (CN c G P f' i').slots=(CN c G P f i).slots/\(CN c G P f' i').outs=(CN c G P f i).outs/\(Ag i=true->Bj c (CN c G P f' i') i'.d=Bj c (CN c G P f i) i.d):=by
 have eo:=e.op;rcases Cv hk with o|o|o|o|o|o|o|o|o
 ·have hd:(A4 i.op).d=1:=by
   exact Zei
  have k:=FF h 1 hd dE dE;rw[Bw o,Bw Yk];refine⟨hsl,hou,fun _=>?_⟩;unfold Bj;rw[e.d,if_pos k,if_pos k];simp only[AZ,Q7 h e o]
 ·have hd:(A4 i.op).d=2:=by
   exact Zdf
  have k:=FF h 2 hd dE dE;rw[B3 o,B3 Yk];refine⟨hsl,hou,fun _=>?_⟩;unfold Bj;rw[e.d,if_neg oM,if_pos k,if_neg oM,if_pos k];simp only[AZ,LF h e o]
 ·have k:=FF h 3 Wc dE dE;have hp:B9 c G i'=B9 c G i:=by unfold B9;rw[e.d,e.n]
  rw[C5 o,C5 (eo.trans o)];refine⟨hsl,hou,fun _=>?_⟩;exact Zdj
 ·have k:=FF h 3 Wc dE dE;have hp:B9 c P i'=B9 c P i:=by unfold B9;rw[e.d,e.n]
  rw[C6 o,C6 (eo.trans o)];refine⟨hsl,hou,fun _=>?_⟩;exact Zdj
 ·have ra:(A4 i.op).a=3:=by rw[o];decide
  have q:=e.a Zhi;rw[Ci o,Ci (eo.trans o)];refine⟨hsl,?_,fun s=>?_⟩
  ·simp only;rw[q.2,q.vec (F0 h 3 ra dE dE),hou,e.n]
  ·exact Zej
 ·rw[C7 o,C7 (eo.trans o)];obtain⟨s1,s2⟩:=DR c f i.d ((f.slots[i.n.toNat]?).getD ⟨[],0⟩);obtain⟨s3,s4⟩:=DR c f' i'.d ((f'.slots[i'.n.toNat]?).getD ⟨[],0⟩);refine⟨by rw[s1,s3,hsl],by rw[s2,s4,hou],fun _=>?_⟩;rw[hsl,e.n];exact OW c f f' _ e.d
 ·have ra:(A4 i.op).a=6:=by rw[o];decide
  have q:=e.a Zhi;rw[Cj o,Cj (eo.trans o)];refine⟨?_,hou,fun s=>?_⟩
  ·simp only;rw[hsl,e.n,q.1]
  ·exact Zej
 ·rw[AI o,AI Yk];refine⟨hsl,hou,fun s=>?_⟩;obtain⟨a1,a2,a3,a4⟩:=GZ s;omega
 ·rw[AX o,AX Yk];obtain⟨s1,s2⟩:=DY c f i;obtain⟨s3,s4⟩:=DY c f' i';refine⟨by rw[s1,s3,hsl],by rw[s2,s4,hou],fun _=>?_⟩;exact Zba
theorem IN(h:AJ c i (A4 i.op)=true)(hk:Aj i.op=true)(e:EC c f f' i i')(hsl:i.op=32->f'.slots=f.slots):
 (Ag i=true->Bj c (CN c G P f' i') i'.d=Bj c (CN c G P f i) i.d):=by
 have eo:=e.op;rcases Cv hk with o|o|o|o|o|o|o|o|o
 ·have hd:(A4 i.op).d=1:=by
   exact Zei
  have k:=FF h 1 hd dE dE;rw[Bw o,Bw Yk];intro _;unfold Bj;rw[e.d,if_pos k,if_pos k];simp only[AZ,Q7 h e o]
 ·have hd:(A4 i.op).d=2:=by
   exact Zdf
  have k:=FF h 2 hd dE dE;rw[B3 o,B3 Yk];intro _;unfold Bj;rw[e.d,if_neg oM,if_pos k,if_neg oM,if_pos k];simp only[AZ,LF h e o]
 ·have k:=FF h 3 Wc dE dE;have hp:B9 c G i'=B9 c G i:=by unfold B9;rw[e.d,e.n]
  rw[C5 o,C5 (eo.trans o)];intro _;exact Zdj
 ·have k:=FF h 3 Wc dE dE;have hp:B9 c P i'=B9 c P i:=by unfold B9;rw[e.d,e.n]
  rw[C6 o,C6 (eo.trans o)];intro _;exact Zdj
 ·have ra:(A4 i.op).a=3:=by rw[o];decide
  have q:=e.a Zhi;rw[Ci o,Ci (eo.trans o)];intro s;exact Zej
 ·rw[C7 o,C7 (eo.trans o)];obtain⟨s1,s2⟩:=DR c f i.d ((f.slots[i.n.toNat]?).getD ⟨[],0⟩);obtain⟨s3,s4⟩:=DR c f' i'.d ((f'.slots[i'.n.toNat]?).getD ⟨[],0⟩);intro _;rw[hsl o,e.n];exact OW c f f' _ e.d
 ·have ra:(A4 i.op).a=6:=by rw[o];decide
  have q:=e.a Zhi;rw[Cj o,Cj (eo.trans o)];intro s;exact Zej
 ·rw[AI o,AI Yk];intro s;obtain⟨a1,a2,a3,a4⟩:=GZ s;omega
 ·rw[AX o,AX Yk];obtain⟨s1,s2⟩:=DY c f i;obtain⟨s3,s4⟩:=DY c f' i';intro _;exact Zba
theorem EF(hk:Aj i.op=true){r:Int}(hr:Ag i=true->r.toNat≠i.d.toNat):Bj c (CN c G P f i) r=Bj c f r:=by
 have sb:∀q:Int,i.op=q->(A4 q).d≠0->Ag i=true:=fun q e h=>by unfold Ag;rw[e];simpa using h
 rcases Cv hk with o|o|o|o|o|o|o|o|o
 ·have s:Ag i=true:=by
   unfold D6 at o;simp only[Bool.or_eq_true,beq_iff_eq]at o;rcases(show i.op=1\/i.op=16\/i.op=17\/i.op=19\/i.op=20 by omega)with q|q|q|q|q<;>exact sb _ q dE
  rw[Bw o];unfold Bj;simp only[Bu _ _ (hr s)]
 ·have s:Ag i=true:=by
   unfold Bm at o;simp only[Bool.or_eq_true,beq_iff_eq,Bool.and_eq_true,decide_eq_true_eq]at o;rcases(show i.op=2\/i.op=18\/i.op=21\/i.op=22\/i.op=23\/i.op=24\/i.op=25\/i.op=26\/i.op=27\/i.op=28 by omega)with q|q|q|q|q|q|q|q|q|q<;>exact sb _ q dE
  rw[B3 o];unfold Bj;simp only[Bu _ _ (hr s)]
 ·rw[C5 o];unfold Bj;simp only[Bu _ _ (hr (sb _ o dE))]
 ·rw[C6 o];unfold Bj;simp only[Bu _ _ (hr (sb _ o dE))]
 ·rw[Ci o];rfl
 ·rw[C7 o];exact Lh c f _ (hr (sb _ o dE))
 ·rw[Cj o];rfl
 ·rw[AI o]
 ·have s:Ag i=true:=by
   unfold Bi at o;simp only[Bool.and_eq_true,decide_eq_true_eq]at o;rcases(show i.op=3\/i.op=4\/i.op=5\/i.op=6\/i.op=7\/i.op=8\/i.op=9\/i.op=10\/i.op=11\/i.op=12\/i.op=13\/i.op=14\/i.op=15 by omega)with q|q|q|q|q|q|q|q|q|q|q|q|q<;>exact sb _ q dE
  rw[AX o];unfold DX;split
  ·unfold Bj;simp only[Bu _ _ (hr s)]
  ·exact Lh c f _ (hr s)
theorem Pc(hk:Aj i.op=true)(s:Ag i=true):(CN c G P f i).slots=f.slots/\(CN c G P f i).outs=f.outs:=by
 rcases Cv hk with o|o|o|o|o|o|o|o|o
 ·rw[Bw o];exact⟨rfl,rfl⟩
 ·rw[B3 o];exact⟨rfl,rfl⟩
 ·rw[C5 o];exact⟨rfl,rfl⟩
 ·rw[C6 o];exact⟨rfl,rfl⟩
 ·exfalso;unfold Ag at s;rw[o]at s;exact absurd s dE
 ·rw[C7 o];exact DR _ _ _ _
 ·exfalso;unfold Ag at s;rw[o]at s;exact absurd s dE
 ·rw[AI o];exact⟨rfl,rfl⟩
 ·rw[AX o];exact DY _ _ _
theorem EC.refl(h:∀r∈Aa i (A4 i.op),IR c f f' r r):EC c f f' i i:=by
 unfold Aa at h;simp only[List.mem_append]at h;refine⟨rfl,rfl,rfl,rfl,fun q=>h _ (.inl SF),fun q=>h _ (.inr (.inl SF)),fun q=>h _ (.inr (.inr SF))⟩
end
end Go.Proofs.YtcdpmgldkibfiaaGreat
