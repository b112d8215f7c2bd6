import Derived.Test.YtcdpmgldkibfiaaGreatMns9
import Derived.Test.YtcdpmgldkibfiaaGreatMns14
import Derived.Test.YtcdpmgldkibfiaaGreatMns1
namespace Go.Proofs.YtcdpmgldkibfiaaGreat
open Go.RowKit Go.Proofs.Tryz
set_option linter.all false
set_option maxRecDepth 100000
set_option maxHeartbeats 16000000
def IJ(c:Cd)(f f':Fr)(r r':Int):Prop:=Bh c f' r'=Bh c f r/\A7 c.regs r'=A7 c.regs r
section
variable {c : Cd} {G P : List (List Int)} {f f' : Fr} {i i' : Af}
theorem IJ.num{r r':Int}(h:IJ c f f' r r')(k:(A7 c.regs r).kind=1):f'.nums r'.toNat=f.nums r.toNat:=by
 obtain⟨h1,h2⟩:=h;unfold Bh at h1;rw[h2,if_pos k,if_pos k]at h1;simpa using h1
theorem IJ.whs{r r':Int}(h:IJ c f f' r r')(k:(A7 c.regs r).kind=2):f'.whs r'.toNat=f.whs r.toNat:=by
 obtain⟨h1,h2⟩:=h;unfold Bh at h1;rw[h2,if_neg oM,if_pos k,if_neg oM,if_pos k]at h1;simpa using h1
theorem IJ.vec{r r':Int}(h:IJ c f f' r r')(k:(A7 c.regs r).kind=3):f'.vecs r'.toNat=f.vecs r.toNat:=by
 obtain⟨h1,h2⟩:=h;unfold Bh at h1;rw[h2,if_neg oM,if_neg oM,if_neg oM,if_neg oM]at h1;simpa using h1
structure EC(c:Cd)(f f':Fr)(i i':Af):Prop where
 op:i'.op=i.op
 d:A7 c.regs i'.d=A7 c.regs i.d
 n:i'.n=i.n
 bits:i'.bits=i.bits
 a:(A4 i.op).a≠0->IJ c f f' i.a i'.a
 b:(A4 i.op).b≠0->IJ c f f' i.b i'.b
 c:(A4 i.op).c≠0->IJ c f f' i.c i'.c
theorem EZ(h:AJ c i (A4 i.op)=true)(l:Int)(e:(A4 i.op).a=l)(h1:1<=l)(h2:l<=3):(A7 c.regs i.a).kind=l:=by
 have:=AK (BD h) oM;exact Zcs
theorem Tu(h:AJ c i (A4 i.op)=true)(l:Int)(e:(A4 i.op).b=l)(h1:1<=l)(h2:l<=3):(A7 c.regs i.b).kind=l:=by
 have:=AK (DC h) oM;exact Zcs
theorem YL(h:AJ c i (A4 i.op)=true)(l:Int)(e:(A4 i.op).c=l)(h1:1<=l)(h2:l<=3):(A7 c.regs i.c).kind=l:=by
 have:=AK (DD h) oM;exact Zcs
theorem Fy(h:AJ c i (A4 i.op)=true)(l:Int)(e:(A4 i.op).d=l)(h1:1<=l)(h2:l<=3):(A7 c.regs i.d).kind=l:=by
 have:=AK (Dh h) oM;exact Zcs
theorem PQ(h:AJ c i (A4 i.op)=true)(e:EC c f f' i i')(hn:D6 i.op=true):Je f' i'=Je f i:=by
 unfold D6 at hn;simp only[Bool.or_eq_true,beq_iff_eq]at hn;unfold Je;rw[e.op,e.bits];rcases(show i.op=1\/i.op=16\/i.op=17\/i.op=19\/i.op=20 by omega)with o|o|o|o|o
 ·simp[o]
 ·have r:A4 i.op=⟨1,1,2,0,0⟩:=by rw[o];decide
  simp only[o,if_true];rw[(e.a ZJ).num (EZ h 1 (by rw[r]) dE dE),(e.b ZJ).whs (Tu h 2 (by rw[r]) dE dE)]
 ·have r:A4 i.op=⟨1,2,0,0,0⟩:=by rw[o];decide
  rw[if_neg oM,if_pos o,if_neg oM,if_pos o,(e.a ZJ).whs (EZ h 2 (by rw[r]) dE dE)]
 ·have r:A4 i.op=⟨1,3,0,0,0⟩:=by rw[o];decide
  rw[if_neg oM,if_neg oM,if_pos o,if_neg oM,if_neg oM,if_pos o,(e.a ZJ).vec (EZ h 3 (by rw[r]) dE dE)]
 ·have r:A4 i.op=⟨1,3,0,0,0⟩:=by rw[o];decide
  rw[if_neg oM,if_neg oM,if_neg oM,if_pos o,if_neg oM,if_neg oM,if_neg oM,if_pos o,(e.a ZJ).vec (EZ h 3 (by rw[r]) dE dE)]
theorem Lv(h:AJ c i (A4 i.op)=true)(e:EC c f f' i i')(hn:Bi i.op=true):Ex f' i'=Ex f i:=by
 unfold Bi at hn;simp only[Bool.or_eq_true,beq_iff_eq,Bool.and_eq_true,decide_eq_true_eq]at hn;have ka:∀l,(A4 i.op).a=l->1<=l->l<=3->(A7 c.regs i.a).kind=l:=fun l=>EZ h l;have wa:(A4 i.op).a=2->f'.whs i'.a.toNat=f.whs i.a.toNat:=fun q=>(e.a (by rw[q];decide)).whs (EZ h 2 q dE dE);have wb:(A4 i.op).b=2->f'.whs i'.b.toNat=f.whs i.b.toNat:=fun q=>(e.b (by rw[q];decide)).whs (Tu h 2 q dE dE);have wc:(A4 i.op).c=2->f'.whs i'.c.toNat=f.whs i.c.toNat:=fun q=>(e.c (by rw[q];decide)).whs (YL h 2 q dE dE);unfold Ex;rw[e.op,e.n];rcases(show i.op=2\/i.op=18\/i.op=21\/i.op=22\/i.op=23\/i.op=24\/i.op=25\/i.op=26\/i.op=27\/i.op=28 by omega)with o|o|o|o|o|o|o|o|o|o
 ·simp[o]
 ·have q:(A4 i.op).a=1:=by rw[o];decide
  have q2:=(e.a (by rw[q];decide)).num (EZ h 1 q dE dE);simp only[o,if_true];rw[q2]
 ·simp[o,wa VT]
 ·exact ZG
 ·exact ZG
 ·exact ZG
 ·simp[o,wa VT]
 ·simp[o,wa VT,wb VT,wc VT]
 ·exact ZG
 ·exact ZG
theorem SH(e:EC c f f' i i'):Bb c f' i'=Bb c f i:=by
 unfold Bb Aa;rw[e.op];by_cases ha:(A4 i.op).a=0<;>by_cases hb:(A4 i.op).b=0<;>by_cases hc:(A4 i.op).c=0<;>simp only[ha,hb,hc,if_true,if_false,List.nil_append,List.map_append,List.map_cons,List.map_nil]
 all_goals(
  try rw[(e.a ha).1]
  try rw[(e.b hb).1]
  try rw[(e.c hc).1])
theorem DM(c:Cd)(f:Fr)(r:Int)(h:Hd):(Hp c f r h).slots=f.slots/\(Hp c f r h).outs=f.outs:=by
 unfold Hp;split
 ·exact⟨rfl,rfl⟩
 ·split<;>exact⟨rfl,rfl⟩
theorem OL(c:Cd)(f f':Fr){r r':Int}(h:Hd)(e:A7 c.regs r'=A7 c.regs r):Bh c (Hp c f' r' h) r'=Bh c (Hp c f r h) r:=by
 unfold Bh Hp;rw[e];by_cases k1:(A7 c.regs r).kind=1
 ·simp only[k1,if_true,AW]
 ·by_cases k2:(A7 c.regs r).kind=2
  ·simp only[if_neg k1,k2,if_true,AW];simp[AW]
  ·simp only[if_neg k1,if_neg k2,AW]
theorem KZ(c:Cd)(f:Fr){r d:Int}(h:Hd)(e:r.toNat≠d.toNat):Bh c (Hp c f d h) r=Bh c f r:=by
 unfold Hp;split
 ·unfold Bh;simp only[Bt _ _ e]
 ·split
  ·unfold Bh;simp only[Bt _ _ e]
  ·unfold Bh;simp only[Bt _ _ e]
theorem DT(c:Cd)(f:Fr)(i:Af):(DS c f i).slots=f.slots/\(DS c f i).outs=f.outs:=by
 unfold DS;split
 ·exact⟨rfl,rfl⟩
 ·exact DM _ _ _ _
theorem YA(h:AJ c i (A4 i.op)=true)(hk:Aj i.op=true)(e:EC c f f' i i')(hsl:f'.slots=f.slots)(hou:f'.outs=f.outs):
 (CN c G P f' i').slots=(CN c G P f i).slots/\(CN c G P f' i').outs=(CN c G P f i).outs/\(Ag i=true->Bh c (CN c G P f' i') i'.d=Bh c (CN c G P f i) i.d):=by
 have eo:=e.op;rcases Cr hk with o|o|o|o|o|o|o|o|o
 ·have hd:(A4 i.op).d=1:=by
   exact Zee
  have k:=Fy h 1 hd dE dE;rw[Bw o,Bw Y4];refine⟨hsl,hou,fun _=>?_⟩;unfold Bh;rw[e.d,if_pos k,if_pos k];simp only[AW,PQ h e o]
 ·have hd:(A4 i.op).d=2:=by
   exact Zdd
  have k:=Fy h 2 hd dE dE;rw[AZ o,AZ Y4];refine⟨hsl,hou,fun _=>?_⟩;unfold Bh;rw[e.d,if_neg oM,if_pos k,if_neg oM,if_pos k];simp only[AW,Lv h e o]
 ·have k:=Fy h 3 VT dE dE;have hp:B7 c G i'=B7 c G i:=by unfold B7;rw[e.d,e.n]
  rw[BY o,BY (eo.trans o)];refine⟨hsl,hou,fun _=>?_⟩;exact Zdg
 ·have k:=Fy h 3 VT dE dE;have hp:B7 c P i'=B7 c P i:=by unfold B7;rw[e.d,e.n]
  rw[BZ o,BZ (eo.trans o)];refine⟨hsl,hou,fun _=>?_⟩;exact Zdg
 ·have ra:(A4 i.op).a=3:=by rw[o];decide
  have q:=e.a ZI;rw[Cg o,Cg (eo.trans o)];refine⟨hsl,?_,fun s=>?_⟩
  ·simp only;rw[q.2,q.vec (EZ h 3 ra dE dE),hou,e.n]
  ·exact Zef
 ·rw[C5 o,C5 (eo.trans o)];obtain⟨s1,s2⟩:=DM c f i.d ((f.slots[i.n.toNat]?).getD ⟨[],0⟩);obtain⟨s3,s4⟩:=DM c f' i'.d ((f'.slots[i'.n.toNat]?).getD ⟨[],0⟩);refine⟨by rw[s1,s3,hsl],by rw[s2,s4,hou],fun _=>?_⟩;rw[hsl,e.n];exact OL c f f' _ e.d
 ·have ra:(A4 i.op).a=6:=by rw[o];decide
  have q:=e.a ZI;rw[Ch o,Ch (eo.trans o)];refine⟨?_,hou,fun s=>?_⟩
  ·simp only;rw[hsl,e.n,q.1]
  ·exact Zef
 ·rw[AI o,AI Y4];refine⟨hsl,hou,fun s=>?_⟩;obtain⟨a1,a2,a3,a4⟩:=GS s;omega
 ·rw[AT o,AT Y4];obtain⟨s1,s2⟩:=DT c f i;obtain⟨s3,s4⟩:=DT c f' i';refine⟨by rw[s1,s3,hsl],by rw[s2,s4,hou],fun _=>?_⟩;exact Zba
theorem IG(h:AJ c i (A4 i.op)=true)(hk:Aj i.op=true)(e:EC c f f' i i')(hsl:i.op=32->f'.slots=f.slots):
 (Ag i=true->Bh c (CN c G P f' i') i'.d=Bh c (CN c G P f i) i.d):=by
 have eo:=e.op;rcases Cr hk with o|o|o|o|o|o|o|o|o
 ·have hd:(A4 i.op).d=1:=by
   exact Zee
  have k:=Fy h 1 hd dE dE;rw[Bw o,Bw Y4];intro _;unfold Bh;rw[e.d,if_pos k,if_pos k];simp only[AW,PQ h e o]
 ·have hd:(A4 i.op).d=2:=by
   exact Zdd
  have k:=Fy h 2 hd dE dE;rw[AZ o,AZ Y4];intro _;unfold Bh;rw[e.d,if_neg oM,if_pos k,if_neg oM,if_pos k];simp only[AW,Lv h e o]
 ·have k:=Fy h 3 VT dE dE;have hp:B7 c G i'=B7 c G i:=by unfold B7;rw[e.d,e.n]
  rw[BY o,BY (eo.trans o)];intro _;exact Zdg
 ·have k:=Fy h 3 VT dE dE;have hp:B7 c P i'=B7 c P i:=by unfold B7;rw[e.d,e.n]
  rw[BZ o,BZ (eo.trans o)];intro _;exact Zdg
 ·have ra:(A4 i.op).a=3:=by rw[o];decide
  have q:=e.a ZI;rw[Cg o,Cg (eo.trans o)];intro s;exact Zef
 ·rw[C5 o,C5 (eo.trans o)];obtain⟨s1,s2⟩:=DM c f i.d ((f.slots[i.n.toNat]?).getD ⟨[],0⟩);obtain⟨s3,s4⟩:=DM c f' i'.d ((f'.slots[i'.n.toNat]?).getD ⟨[],0⟩);intro _;rw[hsl o,e.n];exact OL c f f' _ e.d
 ·have ra:(A4 i.op).a=6:=by rw[o];decide
  have q:=e.a ZI;rw[Ch o,Ch (eo.trans o)];intro s;exact Zef
 ·rw[AI o,AI Y4];intro s;obtain⟨a1,a2,a3,a4⟩:=GS s;omega
 ·rw[AT o,AT Y4];obtain⟨s1,s2⟩:=DT c f i;obtain⟨s3,s4⟩:=DT c f' i';intro _;exact Zba
theorem EG(hk:Aj i.op=true){r:Int}(hr:Ag i=true->r.toNat≠i.d.toNat):Bh c (CN c G P f i) r=Bh c f r:=by
 have sb:∀q:Int,i.op=q->(A4 q).d≠0->Ag i=true:=fun q e h=>by unfold Ag;rw[e];simpa using h
 rcases Cr hk with o|o|o|o|o|o|o|o|o
 ·have s:Ag i=true:=by
   unfold D6 at o;simp only[Bool.or_eq_true,beq_iff_eq]at o;rcases(show i.op=1\/i.op=16\/i.op=17\/i.op=19\/i.op=20 by omega)with q|q|q|q|q<;>exact sb _ q dE
  rw[Bw o];unfold Bh;simp only[Bt _ _ (hr s)]
 ·have s:Ag i=true:=by
   unfold Bi at o;simp only[Bool.or_eq_true,beq_iff_eq,Bool.and_eq_true,decide_eq_true_eq]at o;rcases(show i.op=2\/i.op=18\/i.op=21\/i.op=22\/i.op=23\/i.op=24\/i.op=25\/i.op=26\/i.op=27\/i.op=28 by omega)with q|q|q|q|q|q|q|q|q|q<;>exact sb _ q dE
  rw[AZ o];unfold Bh;simp only[Bt _ _ (hr s)]
 ·rw[BY o];unfold Bh;simp only[Bt _ _ (hr (sb _ o dE))]
 ·rw[BZ o];unfold Bh;simp only[Bt _ _ (hr (sb _ o dE))]
 ·rw[Cg o];rfl
 ·rw[C5 o];exact KZ c f _ (hr (sb _ o dE))
 ·rw[Ch o];rfl
 ·rw[AI o]
 ·have s:Ag i=true:=by
   unfold Bg at o;simp only[Bool.and_eq_true,decide_eq_true_eq]at o;rcases(show i.op=3\/i.op=4\/i.op=5\/i.op=6\/i.op=7\/i.op=8\/i.op=9\/i.op=10\/i.op=11\/i.op=12\/i.op=13\/i.op=14\/i.op=15 by omega)with q|q|q|q|q|q|q|q|q|q|q|q|q<;>exact sb _ q dE
  rw[AT o];unfold DS;split
  ·unfold Bh;simp only[Bt _ _ (hr s)]
  ·exact KZ c f _ (hr s)
theorem P1(hk:Aj i.op=true)(s:Ag i=true):(CN c G P f i).slots=f.slots/\(CN c G P f i).outs=f.outs:=by
 rcases Cr hk with o|o|o|o|o|o|o|o|o
 ·rw[Bw o];exact⟨rfl,rfl⟩
 ·rw[AZ o];exact⟨rfl,rfl⟩
 ·rw[BY o];exact⟨rfl,rfl⟩
 ·rw[BZ o];exact⟨rfl,rfl⟩
 ·exfalso;unfold Ag at s;rw[o]at s;exact absurd s dE
 ·rw[C5 o];exact DM _ _ _ _
 ·exfalso;unfold Ag at s;rw[o]at s;exact absurd s dE
 ·rw[AI o];exact⟨rfl,rfl⟩
 ·rw[AT o];exact DT _ _ _
theorem EC.refl(h:∀r∈Aa i (A4 i.op),IJ c f f' r r):EC c f f' i i:=by
 unfold Aa at h;simp only[List.mem_append]at h;refine⟨rfl,rfl,rfl,rfl,fun q=>h _ (.inl Sp),fun q=>h _ (.inr (.inl Sp)),fun q=>h _ (.inr (.inr Sp))⟩
end
end Go.Proofs.YtcdpmgldkibfiaaGreat
