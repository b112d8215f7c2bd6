import Derived.Test.YtcdpmgldkibfiaaGreatAgn9
import Derived.Test.YtcdpmgldkibfiaaGreatAgn14
import Derived.Test.YtcdpmgldkibfiaaGreatAgn1
namespace Go.Proofs.YtcdpmgldkibfiaaGreat
open Go.RowKit Go.Proofs.Tryz
set_option linter.all false
set_option maxRecDepth 100000
set_option maxHeartbeats 16000000
def J1(c:Cd)(f f':Fr)(r r':Int):Prop:=Bn c f' r'=Bn c f r/\A8 c.regs r'=A8 c.regs r
section
variable {c : Cd} {G P : List (List Int)} {f f' : Fr} {i i' : Af}
theorem J1.num{r r':Int}(h:J1 c f f' r r')(k:(A8 c.regs r).kind=1):f'.nums r'.toNat=f.nums r.toNat:=by
 obtain⟨h1,h2⟩:=h;unfold Bn at h1;rw[h2,if_pos k,if_pos k]at h1;simpa using h1
theorem J1.whs{r r':Int}(h:J1 c f f' r r')(k:(A8 c.regs r).kind=2):f'.whs r'.toNat=f.whs r.toNat:=by
 obtain⟨h1,h2⟩:=h;unfold Bn at h1;rw[h2,if_neg oM,if_pos k,if_neg oM,if_pos k]at h1;simpa using h1
theorem J1.vec{r r':Int}(h:J1 c f f' r r')(k:(A8 c.regs r).kind=3):f'.vecs r'.toNat=f.vecs r.toNat:=by
 obtain⟨h1,h2⟩:=h;unfold Bn at h1;rw[h2,if_neg oM,if_neg oM,if_neg oM,if_neg oM]at h1;simpa using h1
structure EJ(c:Cd)(f f':Fr)(i i':Af):Prop where
 op:i'.op=i.op
 d:A8 c.regs i'.d=A8 c.regs i.d
 n:i'.n=i.n
 bits:i'.bits=i.bits
 a:(A5 i.op).a≠0->J1 c f f' i.a i'.a
 b:(A5 i.op).b≠0->J1 c f f' i.b i'.b
 c:(A5 i.op).c≠0->J1 c f f' i.c i'.c
theorem F4(h:AO c i (A5 i.op)=true)(l:Int)(e:(A5 i.op).a=l)(h1:1<=l)(h2:l<=3):(A8 c.regs i.a).kind=l:=by
 have:=AP (BD h) oM;exact Zcu
theorem Uk(h:AO c i (A5 i.op)=true)(l:Int)(e:(A5 i.op).b=l)(h1:1<=l)(h2:l<=3):(A8 c.regs i.b).kind=l:=by
 have:=AP (Do h) oM;exact Zcu
theorem Zy(h:AO c i (A5 i.op)=true)(l:Int)(e:(A5 i.op).c=l)(h1:1<=l)(h2:l<=3):(A8 c.regs i.c).kind=l:=by
 have:=AP (Dp h) oM;exact Zcu
theorem FJ(h:AO c i (A5 i.op)=true)(l:Int)(e:(A5 i.op).d=l)(h1:1<=l)(h2:l<=3):(A8 c.regs i.d).kind=l:=by
 have:=AP (Dq h) oM;exact Zcu
theorem Qy(h:AO c i (A5 i.op)=true)(e:EJ c f f' i i')(hn:Dd i.op=true):Js f' i'=Js f i:=by
 unfold Dd at hn;simp only[Bool.or_eq_true,beq_iff_eq]at hn;unfold Js;rw[e.op,e.bits];rcases(show i.op=1\/i.op=16\/i.op=17\/i.op=19\/i.op=20 by omega)with o|o|o|o|o
 ·simp[o]
 ·have r:A5 i.op=⟨1,1,2,0,0⟩:=by rw[o];decide
  simp only[o,if_true];rw[(e.a Zhn).num (F4 h 1 (by rw[r]) dE dE),(e.b Zhn).whs (Uk h 2 (by rw[r]) dE dE)]
 ·have r:A5 i.op=⟨1,2,0,0,0⟩:=by rw[o];decide
  rw[if_neg oM,if_pos o,if_neg oM,if_pos o,(e.a Zhn).whs (F4 h 2 (by rw[r]) dE dE)]
 ·have r:A5 i.op=⟨1,3,0,0,0⟩:=by rw[o];decide
  rw[if_neg oM,if_neg oM,if_pos o,if_neg oM,if_neg oM,if_pos o,(e.a Zhn).vec (F4 h 3 (by rw[r]) dE dE)]
 ·have r:A5 i.op=⟨1,3,0,0,0⟩:=by rw[o];decide
  rw[if_neg oM,if_neg oM,if_neg oM,if_pos o,if_neg oM,if_neg oM,if_neg oM,if_pos o,(e.a Zhn).vec (F4 h 3 (by rw[r]) dE dE)]
theorem LO(h:AO c i (A5 i.op)=true)(e:EJ c f f' i i')(hn:Bp i.op=true):EH f' i'=EH f i:=by
 unfold Bp at hn;simp only[Bool.or_eq_true,beq_iff_eq,Bool.and_eq_true,decide_eq_true_eq]at hn;have ka:∀l,(A5 i.op).a=l->1<=l->l<=3->(A8 c.regs i.a).kind=l:=fun l=>F4 h l;have wa:(A5 i.op).a=2->f'.whs i'.a.toNat=f.whs i.a.toNat:=fun q=>(e.a (by rw[q];decide)).whs (F4 h 2 q dE dE);have wb:(A5 i.op).b=2->f'.whs i'.b.toNat=f.whs i.b.toNat:=fun q=>(e.b (by rw[q];decide)).whs (Uk h 2 q dE dE);have wc:(A5 i.op).c=2->f'.whs i'.c.toNat=f.whs i.c.toNat:=fun q=>(e.c (by rw[q];decide)).whs (Zy h 2 q dE dE);unfold EH;rw[e.op,e.n];rcases(show i.op=2\/i.op=18\/i.op=21\/i.op=22\/i.op=23\/i.op=24\/i.op=25\/i.op=26\/i.op=27\/i.op=28 by omega)with o|o|o|o|o|o|o|o|o|o
 ·simp[o]
 ·have q:(A5 i.op).a=1:=by rw[o];decide
  have q2:=(e.a (by rw[q];decide)).num (F4 h 1 q dE dE);simp only[o,if_true];rw[q2]
 ·simp[o,wa WQ]
 ·exact Zds
 ·exact Zds
 ·exact Zds
 ·simp[o,wa WQ]
 ·simp[o,wa WQ,wb WQ,wc WQ]
 ·exact Zds
 ·exact Zds
theorem TC(e:EJ c f f' i i'):Bg c f' i'=Bg c f i:=by
 unfold Bg Ac;rw[e.op];by_cases ha:(A5 i.op).a=0<;>by_cases hb:(A5 i.op).b=0<;>by_cases hc:(A5 i.op).c=0<;>simp only[ha,hb,hc,if_true,if_false,List.nil_append,List.map_append,List.map_cons,List.map_nil]
 all_goals(
  try rw[(e.a ha).1]
  try rw[(e.b hb).1]
  try rw[(e.c hc).1])
theorem DX(c:Cd)(f:Fr)(r:Int)(h:Hd):(I3 c f r h).slots=f.slots/\(I3 c f r h).outs=f.outs:=by
 unfold I3;split
 ·exact⟨rfl,rfl⟩
 ·split<;>exact⟨rfl,rfl⟩
theorem Pk(c:Cd)(f f':Fr){r r':Int}(h:Hd)(e:A8 c.regs r'=A8 c.regs r):Bn c (I3 c f' r' h) r'=Bn c (I3 c f r h) r:=by
 unfold Bn I3;rw[e];by_cases k1:(A8 c.regs r).kind=1
 ·simp only[k1,if_true,B3]
 ·by_cases k2:(A8 c.regs r).kind=2
  ·simp only[if_neg k1,k2,if_true,B3];simp[B3]
  ·simp only[if_neg k1,if_neg k2,B3]
theorem Lo(c:Cd)(f:Fr){r d:Int}(h:Hd)(e:r.toNat≠d.toNat):Bn c (I3 c f d h) r=Bn c f r:=by
 unfold I3;split
 ·unfold Bn;simp only[By _ _ e]
 ·split
  ·unfold Bn;simp only[By _ _ e]
  ·unfold Bn;simp only[By _ _ e]
theorem E4(c:Cd)(f:Fr)(i:Af):(E3 c f i).slots=f.slots/\(E3 c f i).outs=f.outs:=by
 unfold E3;split
 ·exact⟨rfl,rfl⟩
 ·exact DX _ _ _ _
theorem Zo(h:AO c i (A5 i.op)=true)(hk:Al i.op=true)(e:EJ c f f' i i')(hsl:f'.slots=f.slots)(hou:f'.outs=f.outs):
 (CS c G P f' i').slots=(CS c G P f i).slots/\(CS c G P f' i').outs=(CS c G P f i).outs/\(Ab i=true->Bn c (CS c G P f' i') i'.d=Bn c (CS c G P f i) i.d):=by
 have eo:=e.op;rcases Cz hk with o|o|o|o|o|o|o|o|o
 ·have hd:(A5 i.op).d=1:=by
   exact Zeh
  have k:=FJ h 1 hd dE dE;rw[BC o,BC YT];refine⟨hsl,hou,fun _=>?_⟩;unfold Bn;rw[e.d,if_pos k,if_pos k];simp only[B3,Qy h e o]
 ·have hd:(A5 i.op).d=2:=by
   exact Zdf
  have k:=FJ h 2 hd dE dE;rw[B6 o,B6 YT];refine⟨hsl,hou,fun _=>?_⟩;unfold Bn;rw[e.d,if_neg oM,if_pos k,if_neg oM,if_pos k];simp only[B3,LO h e o]
 ·have k:=FJ h 3 WQ dE dE;have hp:Bd c G i'=Bd c G i:=by unfold Bd;rw[e.d,e.n]
  rw[C8 o,C8 (eo.trans o)];refine⟨hsl,hou,fun _=>?_⟩;exact Zdj
 ·have k:=FJ h 3 WQ dE dE;have hp:Bd c P i'=Bd c P i:=by unfold Bd;rw[e.d,e.n]
  rw[C9 o,C9 (eo.trans o)];refine⟨hsl,hou,fun _=>?_⟩;exact Zdj
 ·have ra:(A5 i.op).a=3:=by rw[o];decide
  have q:=e.a Zhj;rw[Ck o,Ck (eo.trans o)];refine⟨hsl,?_,fun s=>?_⟩
  ·simp only;rw[q.2,q.vec (F4 h 3 ra dE dE),hou,e.n]
  ·exact Zei
 ·rw[Ca o,Ca (eo.trans o)];obtain⟨s1,s2⟩:=DX c f i.d ((f.slots[i.n.toNat]?).getD ⟨[],0⟩);obtain⟨s3,s4⟩:=DX c f' i'.d ((f'.slots[i'.n.toNat]?).getD ⟨[],0⟩);refine⟨by rw[s1,s3,hsl],by rw[s2,s4,hou],fun _=>?_⟩;rw[hsl,e.n];exact Pk c f f' _ e.d
 ·have ra:(A5 i.op).a=6:=by rw[o];decide
  have q:=e.a Zhj;rw[Cm o,Cm (eo.trans o)];refine⟨?_,hou,fun s=>?_⟩
  ·simp only;rw[hsl,e.n,q.1]
  ·exact Zei
 ·rw[AN o,AN YT];refine⟨hsl,hou,fun s=>?_⟩;obtain⟨a1,a2,a3,a4⟩:=Hc s;omega
 ·rw[B0 o,B0 YT];obtain⟨s1,s2⟩:=E4 c f i;obtain⟨s3,s4⟩:=E4 c f' i';refine⟨by rw[s1,s3,hsl],by rw[s2,s4,hou],fun _=>?_⟩;exact Zba
theorem IY(h:AO c i (A5 i.op)=true)(hk:Al i.op=true)(e:EJ c f f' i i')(hsl:i.op=32->f'.slots=f.slots):
 (Ab i=true->Bn c (CS c G P f' i') i'.d=Bn c (CS c G P f i) i.d):=by
 have eo:=e.op;rcases Cz hk with o|o|o|o|o|o|o|o|o
 ·have hd:(A5 i.op).d=1:=by
   exact Zeh
  have k:=FJ h 1 hd dE dE;rw[BC o,BC YT];intro _;unfold Bn;rw[e.d,if_pos k,if_pos k];simp only[B3,Qy h e o]
 ·have hd:(A5 i.op).d=2:=by
   exact Zdf
  have k:=FJ h 2 hd dE dE;rw[B6 o,B6 YT];intro _;unfold Bn;rw[e.d,if_neg oM,if_pos k,if_neg oM,if_pos k];simp only[B3,LO h e o]
 ·have k:=FJ h 3 WQ dE dE;have hp:Bd c G i'=Bd c G i:=by unfold Bd;rw[e.d,e.n]
  rw[C8 o,C8 (eo.trans o)];intro _;exact Zdj
 ·have k:=FJ h 3 WQ dE dE;have hp:Bd c P i'=Bd c P i:=by unfold Bd;rw[e.d,e.n]
  rw[C9 o,C9 (eo.trans o)];intro _;exact Zdj
 ·have ra:(A5 i.op).a=3:=by rw[o];decide
  have q:=e.a Zhj;rw[Ck o,Ck (eo.trans o)];intro s;exact Zei
 ·rw[Ca o,Ca (eo.trans o)];obtain⟨s1,s2⟩:=DX c f i.d ((f.slots[i.n.toNat]?).getD ⟨[],0⟩);obtain⟨s3,s4⟩:=DX c f' i'.d ((f'.slots[i'.n.toNat]?).getD ⟨[],0⟩);intro _;rw[hsl o,e.n];exact Pk c f f' _ e.d
 ·have ra:(A5 i.op).a=6:=by rw[o];decide
  have q:=e.a Zhj;rw[Cm o,Cm (eo.trans o)];intro s;exact Zei
 ·rw[AN o,AN YT];intro s;obtain⟨a1,a2,a3,a4⟩:=Hc s;omega
 ·rw[B0 o,B0 YT];obtain⟨s1,s2⟩:=E4 c f i;obtain⟨s3,s4⟩:=E4 c f' i';intro _;exact Zba
theorem EM(hk:Al i.op=true){r:Int}(hr:Ab i=true->r.toNat≠i.d.toNat):Bn c (CS c G P f i) r=Bn c f r:=by
 have sb:∀q:Int,i.op=q->(A5 q).d≠0->Ab i=true:=fun q e h=>by unfold Ab;rw[e];simpa using h
 rcases Cz hk with o|o|o|o|o|o|o|o|o
 ·have s:Ab i=true:=by
   unfold Dd at o;simp only[Bool.or_eq_true,beq_iff_eq]at o;rcases(show i.op=1\/i.op=16\/i.op=17\/i.op=19\/i.op=20 by omega)with q|q|q|q|q<;>exact sb _ q dE
  rw[BC o];unfold Bn;simp only[By _ _ (hr s)]
 ·have s:Ab i=true:=by
   unfold Bp at o;simp only[Bool.or_eq_true,beq_iff_eq,Bool.and_eq_true,decide_eq_true_eq]at o;rcases(show i.op=2\/i.op=18\/i.op=21\/i.op=22\/i.op=23\/i.op=24\/i.op=25\/i.op=26\/i.op=27\/i.op=28 by omega)with q|q|q|q|q|q|q|q|q|q<;>exact sb _ q dE
  rw[B6 o];unfold Bn;simp only[By _ _ (hr s)]
 ·rw[C8 o];unfold Bn;simp only[By _ _ (hr (sb _ o dE))]
 ·rw[C9 o];unfold Bn;simp only[By _ _ (hr (sb _ o dE))]
 ·rw[Ck o];rfl
 ·rw[Ca o];exact Lo c f _ (hr (sb _ o dE))
 ·rw[Cm o];rfl
 ·rw[AN o]
 ·have s:Ab i=true:=by
   unfold Bm at o;simp only[Bool.and_eq_true,decide_eq_true_eq]at o;rcases(show i.op=3\/i.op=4\/i.op=5\/i.op=6\/i.op=7\/i.op=8\/i.op=9\/i.op=10\/i.op=11\/i.op=12\/i.op=13\/i.op=14\/i.op=15 by omega)with q|q|q|q|q|q|q|q|q|q|q|q|q<;>exact sb _ q dE
  rw[B0 o];unfold E3;split
  ·unfold Bn;simp only[By _ _ (hr s)]
  ·exact Lo c f _ (hr s)
theorem PC(hk:Al i.op=true)(s:Ab i=true):(CS c G P f i).slots=f.slots/\(CS c G P f i).outs=f.outs:=by
 rcases Cz hk with o|o|o|o|o|o|o|o|o
 ·rw[BC o];exact⟨rfl,rfl⟩
 ·rw[B6 o];exact⟨rfl,rfl⟩
 ·rw[C8 o];exact⟨rfl,rfl⟩
 ·rw[C9 o];exact⟨rfl,rfl⟩
 ·exfalso;unfold Ab at s;rw[o]at s;exact absurd s dE
 ·rw[Ca o];exact DX _ _ _ _
 ·exfalso;unfold Ab at s;rw[o]at s;exact absurd s dE
 ·rw[AN o];exact⟨rfl,rfl⟩
 ·rw[B0 o];exact E4 _ _ _
theorem EJ.refl(h:∀r∈Ac i (A5 i.op),J1 c f f' r r):EJ c f f' i i:=by
 unfold Ac at h;simp only[List.mem_append]at h;refine⟨rfl,rfl,rfl,rfl,fun q=>h _ (.inl Ot),fun q=>h _ (.inr (.inl Ot)),fun q=>h _ (.inr (.inr Ot))⟩
end
end Go.Proofs.YtcdpmgldkibfiaaGreat
