import Derived.Test.YtbinohkcolcbfaaGreatClon2
import Derived.Test.YtbinohkcolcbfaaGreatClon10
import Derived.Test.YtbinohkcolcbfaaGreatClon1
import Derived.Test.YtbinohkcolcbfaaGreatClon4
import Derived.Deep.RegionHeld3
import Derived.Laws.EntriesVeiled
import Derived.Test.YtbinohkcolcbfaaGreatClon6
namespace Go.Proofs.YtbinohkcolcbfaaGreat
open Go.RowKit Go.Proofs.Tryz
set_option linter.all false
set_option maxRecDepth 100000
set_option maxHeartbeats 16000000
theorem GA(t:Ty)(p:Option Addr)(n c:Nat)(hn:n<=140737488351232)(w:World):Calls prog 35 #[Dp t,.slice p n c] w fun e w'=>e=.returned (.bool (At t n))/\Below w.heap.size w w':=by
 obtain⟨K,P⟩:=t;unfold At Dp Ak;simp only;by_cases h1:K=1
 ·subst h1;rw[if_pos (Or.inl rfl)];exact Zeq
 ·by_cases h2:K=2
  ·subst h2;rw[if_pos (Or.inr rfl)];exact Zeq
  ·rw[if_neg (fun e=>e.elim h1 h2)];have h1':(K==1)=false:=by simpa using h1
   have h2':(K==2)=false:=by simpa using h2
   by_cases h3:K=3
   ·subst h3;rw[if_pos rfl];by_cases h:0<=P
    all_goals
     go_enter func35,ntmps35;go_wp2;go_ret;exact⟨A7 (by simp[h];try omega),A0 _ _⟩
   ·rw[if_neg h3];have h3':(K==3)=false:=by simpa using h3
    clear h1 h2 h3;exact Zeq
theorem MX(v0 v1 v2 v3:Value)(c:Cd)(hk:B0 c)(n:Int)(w:World)(hv:Di w v0 v1 v2 v3 c):
 Calls prog 136 #[.agg #[v0,v1,v2,v3],.int .i64 n] w fun e w'=>e=.returned (.tuple #[Dp (A8 c.regs n),.bool (Ak n c.regs.length)])/\Below w.heap.size w w':=by
 have HB:=hk.regsL;have hr:=hv.regs;obtain⟨p,q,rfl,hrr⟩:=hv.regs;clear hv hk;by_cases h0:0<=n
 ·by_cases h1:n<(c.regs.length:Int)
  ·obtain⟨k,rfl⟩:∃k:Nat,n=(k:Int):=⟨n.toNat,oM⟩
   have hk:k<c.regs.length:=oM;have e:A8 c.regs (k:Int)=c.regs[k]:=EP rfl hk;have e2:Ak (k:Int) c.regs.length=true:=C1.2 ⟨oM,oM⟩;rw[e,e2];obtain⟨lb,lo,rfl,hc⟩:=hr.at hk;obtain⟨⟨K,P⟩,ht⟩:∃t:Ty,c.regs[k]=t:=⟨_,rfl⟩
   rw[ht]at hc ⊢;have y0:w.cell? ⟨lb,lo+k*2,none⟩=some (.int .i64 K):=hc.at 0 rfl;have y1:w.cell? ⟨lb,lo+k*2+1,none⟩=some (.int .i64 P):=hc.at 1 rfl;have hlb:lb≠w.heap.size:=by have:=A3 y0;simp only at this;omega
   obtain⟨N,hN⟩:∃N,c.regs.length=N:=⟨_,rfl⟩
   rw[hN]at hk HB ⊢;clear hr hrr hc ht e e2 h0 h1 hN;have g0:∀o o',((w.alloc o).alloc o').cell? ⟨lb,lo+k*2,none⟩=some (.int .i64 K):=fun o o'=>kc (bel (A0 _ _) (A0 _ _)) y0;have g1:∀o o',((w.alloc o).alloc o').cell? ⟨lb,lo+k*2+1,none⟩=some (.int .i64 P):=fun o o'=>kc (bel (A0 _ _) (A0 _ _)) y1;unfold Dp;go_enter func136,ntmps136;go_wp2;refine bodyPost_ret Zgl rfl ?_;exact SC
  ·have e2:Ak n c.regs.length=false:=by unfold Ak;simp;omega
   have e:A8 c.regs n=⟨0,0⟩:=by unfold A8;rw[e2];rfl
   rw[e,e2];obtain⟨N,hN⟩:∃N,c.regs.length=N:=⟨_,rfl⟩
   rw[hN]at h1 HB ⊢;clear hr hrr e e2 hN;unfold Dp;go_enter func136,ntmps136;go_wp2;refine bodyPost_ret Zgl rfl ?_;exact SC
 ·have e2:Ak n c.regs.length=false:=by unfold Ak;simp;omega
  have e:A8 c.regs n=⟨0,0⟩:=by unfold A8;rw[e2];rfl
  rw[e,e2];obtain⟨N,hN⟩:∃N,c.regs.length=N:=⟨_,rfl⟩
  rw[hN]at HB ⊢;clear hr hrr e e2 hN;unfold Dp;go_enter func136,ntmps136;go_wp2;refine bodyPost_ret Zgl rfl ?_;exact SC
def FM(b:Int)(t d:Ty):Bool:=
 if b=110 then t.kind==1 else if b=119 then t.kind==2 else if b=118 then t.kind==3 else if b=100 then t.kind==1||t.kind==3
 else if b=120 then t.kind==1||decide (t=d)else if b=99 then decide (t=d)||(t.kind==1&&d.kind==3)else true
def Aj(rs:List Ty)(b n:Int)(d:Ty):Bool:=if b=45 then n==0 else Ak n rs.length&&FM b (A8 rs n) d
theorem ER(v0 v1 v2 v3:Value)(c:Cd)(hk:B0 c)(b n:Int)(d:Ty)(hb:b=45\/b=110\/b=119\/b=118\/b=100\/b=120\/b=99\/b=97)(w:World)(hv:Di w v0 v1 v2 v3 c):
 Calls prog 104 #[.agg #[v0,v1,v2,v3],.int .u8 b,.int .i64 n,Dp d] w fun e w'=>e=.returned (.bool (Aj c.regs b n d))/\Below w.heap.size w w':=by
 have KT:Hid (∀v,Below w.heap.size w v->Calls prog 136 #[.agg #[v0,v1,v2,v3],.int .i64 n] v fun e w'=>e=.returned (.tuple #[Dp (A8 c.regs n),.bool (Ak n c.regs.length)])/\Below v.heap.size v w'):=fun v h=>MX v0 v1 v2 v3 c hk n v (hv.below h);unfold Aj;obtain⟨X,hX⟩:∃X,Ak n c.regs.length=X:=⟨_,rfl⟩
 obtain⟨⟨K,P⟩,ht⟩:∃t:Ty,A8 c.regs n=t:=⟨_,rfl⟩
 rw[hX,ht]at KT ⊢;clear hX ht hv hk;obtain⟨dk,dp⟩:=d;unfold Dp at KT ⊢;simp only at KT ⊢;by_cases h45:b=45
 ·subst h45;rw[if_pos rfl];go_enter func104,ntmps104;go_wp2;go_ret;exact SC
 ·rw[if_neg h45];have h45':(b==45)=false:=by simpa using h45
  cases X
  ·rw[Bool.false_and];clear hb h45;go_enter func104,ntmps104;go_wp2_with(go_at_call 136;(with_reducible refine(KT.out _ (bel (A0 _ _) (A0 _ _))).mono ?_);rintro e w1 ⟨rfl,hb1⟩;have f0:∀o,(w1.alloc o).cell? ⟨w.heap.size+1,0,none⟩=some (.int .i64 dk):=(fun o=>kc (bel hb1 (A0 _ _)) sG);have f1:∀o,(w1.alloc o).cell? ⟨w.heap.size+1,1,none⟩=some (.int .i64 dp):=(fun o=>kc (bel hb1 (A0 _ _)) sG);have HB1:Hid _:=hb1;clear hb1);go_ret;exact⟨rfl,bel (bel (A0 _ _) (A0 _ _)) (bel HB1.out (A0 _ _))⟩
  ·rw[Bool.true_and];rcases hb with rfl|rfl|rfl|rfl|rfl|rfl|rfl|rfl
   ·exact absurd rfl h45
   all_goals clear h45 h45'
   all_goals
    cases h1:(K==1)
    all_goals
     by_cases hkd:K=dk
     ·subst hkd;by_cases hpd:P=dp
      ·subst hpd;go_enter func104,ntmps104;go_wp2_with(go_at_call 136;(with_reducible refine(KT.out _ (bel (A0 _ _) (A0 _ _))).mono ?_);rintro e w1 ⟨rfl,hb1⟩;have f0:∀o,(w1.alloc o).cell? ⟨w.heap.size+1,0,none⟩=some (.int .i64 K):=(fun o=>kc (bel hb1 (A0 _ _)) sG);have f1:∀o,(w1.alloc o).cell? ⟨w.heap.size+1,1,none⟩=some (.int .i64 P):=(fun o=>kc (bel hb1 (A0 _ _)) sG);have HB1:Hid _:=hb1;clear hb1);exact Zdl
      ·go_enter func104,ntmps104;go_wp2_with(go_at_call 136;(with_reducible refine(KT.out _ (bel (A0 _ _) (A0 _ _))).mono ?_);rintro e w1 ⟨rfl,hb1⟩;have f0:∀o,(w1.alloc o).cell? ⟨w.heap.size+1,0,none⟩=some (.int .i64 K):=(fun o=>kc (bel hb1 (A0 _ _)) sG);have f1:∀o,(w1.alloc o).cell? ⟨w.heap.size+1,1,none⟩=some (.int .i64 dp):=(fun o=>kc (bel hb1 (A0 _ _)) sG);have HB1:Hid _:=hb1;clear hb1);exact Zdl
     ·go_enter func104,ntmps104;go_wp2_with(go_at_call 136;(with_reducible refine(KT.out _ (bel (A0 _ _) (A0 _ _))).mono ?_);rintro e w1 ⟨rfl,hb1⟩;have f0:∀o,(w1.alloc o).cell? ⟨w.heap.size+1,0,none⟩=some (.int .i64 dk):=(fun o=>kc (bel hb1 (A0 _ _)) sG);have f1:∀o,(w1.alloc o).cell? ⟨w.heap.size+1,1,none⟩=some (.int .i64 dp):=(fun o=>kc (bel hb1 (A0 _ _)) sG);have HB1:Hid _:=hb1;clear hb1);exact Zdl
def J0(a:BY)(E E':Nat):Nat->Prop:=fun b=>b=a.S\/(E<=b/\b<E')
theorem J1{a:BY}{E E' B:Nat}(h:E<=B/\B<E'):∀b,b=B->J0 a E E' b:=fun b e=>.inr (e▸h)
theorem A4(w:World):Below w.heap.size w w.drew:=(Below.refl _ _).drew
def Ab(T:Nat->Prop)(E E':Nat)(a:BY)(c:Cd)(G P:List (List Int))(M:Nat)(f:Fr)(w w':World):Prop:=
 FX T E E' a c G P w'/\(∃X M' m,M'<=M+1/\FV T E E' a c w' X M' m f)/\Un (J0 a E E') w w'
section
variable {T : Nat -> Prop} {E E' : Nat} {a : BY} {c : Cd} {G P : List (List Int)} {X : Nat -> Value} {M : Nat} {m : Nat -> Option Value} {f : Fr} {w w1 w2 : World}
theorem Ab.on(h:Ab T E E' a c G P M f w w1)(k:Below w1.heap.size w1 w2):Ab T E E' a c G P M f w w2:=by
 obtain⟨h1,⟨X,M',m,h2,h3⟩,h4⟩:=h;exact⟨h1.below k,⟨X,M',m,h2,h3.below k⟩,h4.on k⟩
theorem Ab.same(x:FX T E E' a c G P w)(h:FV T E E' a c w X M m f)(k:Below w.heap.size w w1):Ab T E E' a c G P M f w w1:=
 ⟨x.below k,⟨X,M,m,oM,h.below k⟩,Un.of k⟩
theorem Ab.pre(k:Below w.heap.size w w1)(h:Ab T E E' a c G P M f w1 w2):Ab T E E' a c G P M f w w2:=by
 obtain⟨h1,h2,h4⟩:=h;exact⟨h1,h2,(Un.of k).trans h4⟩
theorem Ab.num(x:FX T E E' a c G P w1)(h:FV T E E' a c w1 X M m f){d:Nat}(hd:d<c.regs.length)(y:Int):Ab T E E' a c G P M {f with nums:=BK f.nums d y} w1 (w1.setCell ⟨a.NB,d,none⟩ (.int .u32 y)):=by
 obtain⟨h1,h2,h3⟩:=FV.num x h hd y rfl;exact⟨h1,⟨X,M,m,oM,h2⟩,h3.mono (J1 x.iNB)⟩
theorem Ab.wh(x:FX T E E' a c G P w1)(h:FV T E E' a c w1 X M m f){d:Nat}(hd:d<c.regs.length)(y:Int):Ab T E E' a c G P M {f with whs:=BK f.whs d y} w1 (w1.setCell ⟨a.WB,d,none⟩ (.int .i64 y)):=by
 obtain⟨h1,h2,h3⟩:=FV.wh x h hd y rfl;exact⟨h1,⟨X,M,m,oM,h2⟩,h3.mono (J1 x.iWB)⟩
theorem Ab.vec(x:FX T E E' a c G P w1)(h:FV T E E' a c w1 X M m f){d:Nat}(hd:d<c.regs.length){v:Value}{l:List Int}(hv:Pt (AB T E E') w1 v l)(hm:Dv w2 a.MB (M+1) (Sm m d v))(hg:w1.grownBy w2 (some a.MB)):Ab T E E' a c G P M {f with vecs:=BK f.vecs d l} w1 w2:=by
 obtain⟨h1,h2,h3⟩:=FV.vec x h hd hv hm hg;exact⟨h1,⟨X,M+1,_,oM,h2⟩,h3.mono (J1 x.iMB)⟩
theorem Ab.slot(x:FX T E E' a c G P w1)(h:FV T E E' a c w1 X M m f){d:Nat}(hd:d<f.slots.length){v:Value}{hh:Hd}(hv:Pt (AB T E E') w1 v hh.pats):Ab T E E' a c G P M {f with slots:=f.slots.set d hh} w1 ((w1.setCell ⟨a.S,d*2,none⟩ v).setCell ⟨a.S,d*2+1,none⟩ (.int .i64 hh.whole)):=by
 obtain⟨h1,⟨X',h2⟩,h3⟩:=FV.slot x h hd hv rfl;exact⟨h1,⟨X',M,_,oM,h2⟩,h3.mono fun b e=>.inl e⟩
end
theorem O1{T:Nat->Prop}{w:World}{q:Option Addr}{L cap:Nat}{y:Int}{l:List Int}(h:Pt T w (.slice q L cap) (y::l)):∃vb vo,q=some ⟨vb,vo,none⟩/\¬T vb/\w.cell? ⟨vb,vo,none⟩=some (.int .u32 y)/\0<L:=by
 obtain⟨q',c',e,hl⟩:=h;simp only[Value.slice.injEq]at e;obtain⟨rfl,hL,rfl⟩:=e;rcases hl with hl|⟨vb,vo,rfl,hn,_,hl⟩
 ·cases hl
 ·refine⟨vb,vo,rfl,hn,?_,by rw[hL];simp⟩;have:=(hl 0 sM).at 0 (v:=.int .u32 y) rfl;simpa using this
theorem Qo{T:Nat->Prop}{E E':Nat}{a:BY}{c:Cd}{G P:List (List Int)}{X:Nat->Value}{M:Nat}{m:Nat->Option Value}{f:Fr}(w:World)(x:FX T E E' a c G P w)(h:FV T E E' a c w X M m f)(hg:Good c)(r:Nat)(hr:r<c.regs.length)(hM:M<=1000000)
 (q:Option Addr) (L cap:Nat) (hh:Hd) (hv:Pt (AB T E E') w (.slice q L cap) hh.pats) (h1:c.regs[r].kind=1->hh.pats≠[]):
 Calls prog 74 #[.pointer (some ⟨a.FR,0,none⟩),.int .i64 r,.agg #[.slice q L cap,.int .i64 hh.whole]] w fun e w'=>e=.returned (.tuple #[])/\Ab T E E' a c G P M (GG c f r hh) w w':=by
 obtain⟨W1,hW1⟩:∃W1,w.alloc (.cells #[.slice q L cap,.int .i64 hh.whole] 78)=W1:=⟨_,rfl⟩
 have hb1:Below w.heap.size w W1:=by rw[←hW1];exact A0 _ _
 have HX1:Hid (FX T E E' a c G P W1):=x.below hb1;have HV1:Hid (FV T E E' a c W1 X M m f):=h.below hb1;have HP1:Hid (Pt (AB T E E') W1 (.slice q L cap) hh.pats):=hv.below hb1;have HS:Hid (E'<=w.heap.size):=x.hE';have z0:W1.cell? ⟨w.heap.size,0,none⟩=some (.slice q L cap):=by rw[←hW1];simp[go_sem]
 have z1:W1.cell? ⟨w.heap.size,1,none⟩=some (.int .i64 hh.whole):=by rw[←hW1];simp[go_sem]
 have HB1:Hid (Below w.heap.size w W1):=hb1;have f0:=HX1.out.f0;have c1:=HX1.out.code.c1;obtain⟨b,o,mm,hv1,k0,-⟩:=HX1.out.code.reg hr;rw[hv1]at c1;have hN:=hg.regsL;have HE:Hid (GG c f r hh=if c.regs[r].kind=1 then{f with nums:=BK f.nums r (hh.pats.headD 0)}else if c.regs[r].kind=2 then{f with whs:=BK f.whs r hh.whole}else{f with vecs:=BK f.vecs r hh.pats}):=by
  show GG c f r hh=_;unfold GG;rw[Bh hr,Int.toNat_natCast]
 obtain⟨F,hF⟩:∃F,GG c f r hh=F:=⟨_,rfl⟩
 rw[hF]at HE ⊢;have H1:Hid (c.regs[r].kind=1->hh.pats≠[]):=h1;obtain⟨K,hK⟩:∃K,c.regs[r].kind=K:=⟨_,rfl⟩
 obtain⟨N,hN'⟩:∃N,c.regs.length=N:=⟨_,rfl⟩
 rw[hK]at k0 H1 HE;rw[hN']at c1 hN;have hrN:r<N:=oM;have HR:Hid (r<c.regs.length):=hr;obtain⟨C,hC⟩:∃C,a.C=C:=⟨_,rfl⟩
 obtain⟨FR,hFR⟩:∃FR,a.FR=FR:=⟨_,rfl⟩
 rw[hC]at c1 f0;rw[hFR]at f0 ⊢;have HA:Hid (a.FR=FR):=hFR;have HN:Hid (c.regs.length=N):=hN';clear hK hN' hv1 hg h x hv h1 hr hb1 hC hFR hF;by_cases h1:K=1
 ·subst h1;have f2:=HX1.out.f2;rw[HN.out,HA.out]at f2;have q0:=HV1.out.nums.frozen r;have q1:=HV1.out.nums.cell HR.out;obtain⟨NB,hNB⟩:∃NB,a.NB=NB:=⟨_,rfl⟩
  rw[hNB]at f2 q0 q1;have HNB:Hid (a.NB=NB):=hNB;obtain⟨y,l,hy⟩:∃y l,hh.pats=y::l:=by
   cases e:hh.pats with
   |nil=>exact absurd e (H1.out rfl)
   |cons y l=>exact⟨y,l,rfl⟩
  have HY:Hid (hh.pats=y::l):=hy;have hl:=HP1.out;rw[hy]at hl;obtain⟨vb,vo,rfl,hnv,y0,hL1⟩:=O1 hl;have n1:FR≠NB:=by rw[←HA.out,←HNB.out];exact HX1.out.d1.1
  have n2:w.heap.size≠NB:=by
   have i1:=HX1.out.iNB;rw[HNB.out]at i1;have:=(HS.out:E'<=w.heap.size)
   omega
  have n3:vb≠NB:=fun e=>hnv (by rw[e,←HNB.out];exact .inr HX1.out.iNB);have n1':=Ne.symm n1;have n2':=Ne.symm n2;have n3':=Ne.symm n3;have e1:(0:Int)<(L:Int):=oM;clear hl hy hNB hnv;go_enter func74,ntmps74;go_wp2;clear hW1;refine rG (fun v=>v.cell? ⟨FR,2,none⟩=some (.slice (some ⟨NB,0,none⟩) N N)/\v.cell? ⟨w.heap.size,0,none⟩=some (.slice (some ⟨vb,vo,none⟩) L cap)/\v.cell? ⟨vb,vo,none⟩=some (.int .u32 y)) fun hHeld=>?_;refine Tf 0 1 2 3 4 5 ?_;refine Tc 6 7 8 ?_;refine AI 9 ?_;clear hHeld;refine Ao 10 fun K hK=>?_;go_simp;refine An hK fun hHeld=>?_;clear hK K;refine wpAnyH_done kR ?_ _;go_wp2
  go_end0
  have hfin:=(Ab.num HX1.out HV1.out HR.out y).pre HB1.out;rw[HNB.out]at hfin;have e9:=HE.out;simp only[if_true]at e9;rw[HY.out]at e9;rw[e9];exact⟨rfl,hfin.on (A4 _)⟩
 ·have e1:(K==1)=false:=by simpa using h1
  by_cases h2:K=2
  ·subst h2;have f3:=HX1.out.f3;rw[HN.out,HA.out]at f3;have q0:=HV1.out.whs.frozen r;have q1:=HV1.out.whs.cell HR.out;obtain⟨WB,hWB⟩:∃WB,a.WB=WB:=⟨_,rfl⟩
   rw[hWB]at f3 q0 q1;have HWB:Hid (a.WB=WB):=hWB;have n1:WB≠FR:=by rw[←HA.out,←HWB.out];exact Ne.symm HX1.out.d1.2.1
   have n2:WB≠w.heap.size:=by
    have i1:=HX1.out.iWB;rw[HWB.out]at i1;have:=(HS.out:E'<=w.heap.size)
    omega
   clear hWB h1;obtain⟨hw,hhw⟩:∃hw,hh.whole=hw:=⟨_,rfl⟩
   have HHW:Hid (hh.whole=hw):=hhw;rw[hhw]at z1 hW1 ⊢;clear hhw;go_enter func74,ntmps74;go_wp2;clear hW1;refine rG (fun v=>v.cell? ⟨FR,3,none⟩=some (.slice (some ⟨WB,0,none⟩) N N)/\v.cell? ⟨w.heap.size,1,none⟩=some (.int .i64 hw)) fun hHeld=>?_;refine Tf 0 1 2 3 4 5 ?_;refine Tb 6 7 ?_;clear hHeld;refine Ao 8 fun K hK=>?_;go_simp;refine An hK fun hHeld=>?_;clear hK K;refine wpAnyH_done kR ?_ _;go_wp2
   go_end0
   have hfin:=(Ab.wh HX1.out HV1.out HR.out hw).pre HB1.out;rw[HWB.out]at hfin;have e9:=HE.out;rw[if_neg dE]at e9;simp only[if_true]at e9;rw[HHW.out]at e9;rw[e9];exact⟨rfl,hfin.on (A4 _)⟩
  ·have e2:(K==2)=false:=by simpa using h2
   have f4:=HX1.out.f4;rw[HA.out]at f4;have HX2:=HX1.out.below (A4 _);have HV2:=HV1.out.below (A4 _);obtain⟨w2,hrun,hm2,hg2⟩:=HV2.map.put mL underlying92 (k:=r) oM (.slice q L cap);obtain⟨MB,hMB⟩:∃MB,a.MB=MB:=⟨_,rfl⟩
   have hfin:=(Ab.vec HX2 HV2 HR.out (HP1.out.below (A4 _)) hm2 hg2).pre (bel HB1.out (A4 _));have r4:=HX2.f4;have r0:w2.cell? ⟨FR,4,none⟩=some (.map (some MB)):=by
    have:=hfin.1.f4;rw[HA.out,hMB]at this;exact this
   have r1:w2.cell? ⟨w.heap.size,0,none⟩=some (.slice q L cap):=by
    refine(World.cell?_of_block (hg2.block _ ?_ ?_)).trans z0
    ·have:=A3 z0;exact this
    ·intro e;have i1:=HX1.out.iMB;have:=(HS.out:E'<=w.heap.size)
     simp at e;omega
   rw[hMB]at f4 hrun hm2 hg2;have e9:=HE.out;rw[if_neg h1,if_neg h2]at e9;rw[←e9]at hfin;have HFIN:Hid (Ab T E E' a c G P M F w w2):=hfin;clear hfin e9 hMB hm2 hg2 HX2 HV2 r4 h1 h2;go_enter func74,ntmps74;go_wp2;clear hW1;refine rG (fun v=>v.cell? ⟨FR,4,none⟩=some (.map (some MB))/\v.cell? ⟨w.heap.size,0,none⟩=some (.slice q L cap)) fun hHeld=>?_;refine Tf 0 1 2 3 4 5 ?_;refine AI 6 ?_;clear hHeld;refine Ao 7 fun K hK=>?_;go_simp;refine An hK fun hHeld=>?_;clear hK K;refine wpAnyH_done kR ?_ _;go_wp2
   go_end0
   exact⟨rfl,HFIN.out⟩
def Kr(c:Cd)(t:Ty)(h:Hd):Prop:=h.pats.length=Ad c t/\(∀y∈h.pats,Ag y)/\0<=h.whole/\h.whole<=2147483647
structure EC(c:Cd)(f:Fr):Prop where
 nums:∀r,Ag (f.nums r)
 whs:∀r,0<=f.whs r/\f.whs r<=2147483647
 vecs:∀r,∀y∈f.vecs r,Ag y
 vecsL:∀r,(f.vecs r).length<=4096
 slotsL:f.slots.length=c.slots.length
 slots:∀j (h:j<c.slots.length) (h':j<f.slots.length),Kr c c.slots[j].ty f.slots[j]
theorem Bw{l:List Int}(h:∀y∈l,Ag y)(j:Nat):Ag (B7 l j):=by
 unfold B7;cases e:l[j]? with
 |none=>exact Gi
 |some y=>exact h y (List.mem_of_getElem? e)
theorem FV.look{T:Nat->Prop}{E E':Nat}{a:BY}{c:Cd}{w:World}{X:Nat->Value}{M:Nat}{m:Nat->Option Value}{f:Fr}(h:FV T E E' a c w X M m f){r:Nat}(hr:r<c.regs.length)(hn:c.regs.length<=16384):
 ∃q1 q2,(m r).getD (.slice none 0 0)=.slice q1 (f.vecs r).length q2/\AE w q1 (f.vecs r).length (fun j=>.int .u32 (B7 (f.vecs r) j))/\∀v,Below w.heap.size w v->(Instr.lookup 92 (.map (some a.MB)) (.int .i64 (r:Int)) false).run prog v=.ok (.slice q1 (f.vecs r).length q2) v:=by
 have hp:=h.vecs r hr;obtain⟨q1,q2,hq⟩:=hp.len;refine⟨q1,q2,hq,?_,fun v hv=>?_⟩
 ·rw[hq]at hp;exact hp.reads.2
 ·rw[←hq];exact(h.map.below hv).look1 underlying92 (Tryz.zeroValue57 v) oM
theorem Oz{T:Nat->Prop}{E E':Nat}{a:BY}{c:Cd}{G P:List (List Int)}{X:Nat->Value}{M:Nat}{m:Nat->Option Value}{f:Fr}(w:World)(x:FX T E E' a c G P w)(h:FV T E E' a c w X M m f)(hg:Good c)(ok:EC c f)(ib io:Nat)(i:Au)(hi:Aa w ib io (DP i))
 (hop:Dl i.op=true) (ha:i.op≠1->0<=i.a/\i.a<(c.regs.length:Int)) (hb:i.op=16->0<=i.b/\i.b<(c.regs.length:Int)):
 Calls prog 70 #[.pointer (some ⟨a.FR,0,none⟩),.pointer (some ⟨ib,io,none⟩)] w fun e w'=>e=.returned (.int .u32 (Gm f i))/\Below w.heap.size w w':=by
 have i0:=hi.at 0 rfl;rw[Nat.add_zero]at i0;have i2:=hi.at 2 rfl;have i3:=hi.at 3 rfl;have i6:=hi.at 6 rfl;have f2:=x.f2;have f3:=x.f3;have f4:=x.f4;have hN:=hg.regsL;obtain⟨op,D,A,B,Ec,nn,bt⟩:=i;simp only at i0 i2 i3 i6 hop ha hb;unfold Dl at hop;simp only[Bool.or_eq_true,beq_iff_eq]at hop;have hop':op=1\/op=16\/op=17\/op=19\/op=20:=oM;clear hop hi;obtain⟨N,hN'⟩:∃N,c.regs.length=N:=⟨_,rfl⟩
 have HN:Hid (c.regs.length=N):=hN';rw[hN']at f2 f3 hN ha hb;clear hN';rcases hop' with rfl|rfl|rfl|rfl|rfl
 ·rw[show Gm f ⟨1,D,A,B,Ec,nn,bt⟩=bt from rfl];clear ha hb f2 f3 f4 x h i2 i3 hg ok;go_enter func70,ntmps70;go_wp2;go_ret;exact⟨rfl,B8 _⟩
 ·obtain⟨a0,a1⟩:=ha dE;obtain⟨b0,b1⟩:=hb rfl;obtain⟨A,rfl⟩:∃j:Nat,A=(j:Int):=⟨A.toNat,oM⟩
  obtain⟨B,rfl⟩:∃j:Nat,B=(j:Int):=⟨B.toNat,oM⟩
  have k1:=h.nums.cell (i:=A) Zhh;have k2:=h.whs.cell (i:=B) Zhh;have p1:=ok.nums A;have p2:=ok.whs B;rw[show Gm f ⟨16,D,(A:Int),(B:Int),Ec,nn,bt⟩=Gg (f.nums A) (f.whs B)from rfl];obtain⟨y1,hy1⟩:∃y1,f.nums A=y1:=⟨_,rfl⟩
  obtain⟨y2,hy2⟩:∃y2,f.whs B=y2:=⟨_,rfl⟩
  obtain⟨FR,hFR⟩:∃FR,a.FR=FR:=⟨_,rfl⟩
  obtain⟨NB,hNB⟩:∃NB,a.NB=NB:=⟨_,rfl⟩
  obtain⟨WB,hWB⟩:∃WB,a.WB=WB:=⟨_,rfl⟩
  rw[hy1]at k1 p1 ⊢;rw[hy2]at k2 p2 ⊢;rw[hFR]at f2 f3 ⊢;rw[hNB]at f2 k1;rw[hWB]at f3 k2;have HP:Hid (Ag y1):=p1;clear ha hb f4 x h i6 hg ok hy1 hy2 hFR hNB hWB p1;go_enter func70,ntmps70;go_wp2;refine rG (fun v=>v.cell? ⟨FR,2,none⟩=some (.slice (some ⟨NB,0,none⟩) N N)/\v.cell? ⟨ib,io+2,none⟩=some (.int .i64 (A:Int))/\v.cell? ⟨NB,A,none⟩=some (.int .u32 y1)/\v.cell? ⟨FR,3,none⟩=some (.slice (some ⟨WB,0,none⟩) N N)/\v.cell? ⟨ib,io+3,none⟩=some (.int .i64 (B:Int))/\v.cell? ⟨WB,B,none⟩=some (.int .i64 y2)) fun hHeld=>?_;refine Tf 0 1 2 3 4 5 ?_;refine Tf 6 7 8 9 10 11 ?_;refine Tf 12 13 14 15 16 17 ?_;refine Tb 18 19 ?_;clear hHeld;refine Ao 20 fun K hK=>?_;go_simp;(go_at_call 109;refine(XE _ HP.out.1 HP.out.2 _ oM oM _).mono ?_;rintro e w1 ⟨rfl,hb1⟩;have HB1:=bel (A4 _) hb1;have z1:=kc HB1 f2;have z2:=kc HB1 i2;have z3:=kc HB1 k1;have z4:=kc HB1 f3;have z5:=kc HB1 i3;have z6:=kc HB1 k2);try(go_wp2_with fail)
  refine An hK fun hHeld=>?_;clear hK K;refine AI 21 ?_;refine wpAnyH_done kR ?_ _;go_wp2;go_ret;exact⟨rfl,HB1⟩
 ·obtain⟨a0,a1⟩:=ha dE;obtain⟨A,rfl⟩:∃j:Nat,A=(j:Int):=⟨A.toNat,oM⟩
  have k2:=h.whs.cell (i:=A) Zhh;have p2:=ok.whs A;rw[show Gm f ⟨17,D,(A:Int),B,Ec,nn,bt⟩=En (f.whs A)from rfl];obtain⟨y2,hy2⟩:∃y2,f.whs A=y2:=⟨_,rfl⟩
  obtain⟨FR,hFR⟩:∃FR,a.FR=FR:=⟨_,rfl⟩
  obtain⟨WB,hWB⟩:∃WB,a.WB=WB:=⟨_,rfl⟩
  rw[hy2]at k2 p2 ⊢;rw[hFR]at f3 ⊢;rw[hWB]at f3 k2;clear ha hb f4 f2 x h i6 hg ok hy2 hFR hWB;go_enter func70,ntmps70;go_wp2;refine rG (fun v=>v.cell? ⟨ib,io+2,none⟩=some (.int .i64 (A:Int))/\v.cell? ⟨FR,3,none⟩=some (.slice (some ⟨WB,0,none⟩) N N)/\v.cell? ⟨WB,A,none⟩=some (.int .i64 y2)) fun hHeld=>?_;refine Tf 0 1 2 3 4 5 ?_;refine Tc 6 7 8 ?_;refine AI 9 ?_;clear hHeld;refine Ao 10 fun K hK=>?_;go_simp;(go_at_call 110;refine(Tn _ oM oM _).mono ?_;rintro e w1 ⟨rfl,hw'⟩;obtain rfl:=hw'.symm);try(go_wp2_with fail)
  refine An hK fun hHeld=>?_;clear hK K;refine AI 11 ?_;refine wpAnyH_done kR ?_ _;go_wp2;go_ret;exact⟨rfl,A4 _⟩
 ·obtain⟨a0,a1⟩:=ha dE;obtain⟨A,rfl⟩:∃j:Nat,A=(j:Int):=⟨A.toNat,oM⟩
  have hA:A<c.regs.length:=by rw[HN.out];omega
  obtain⟨q1,q2,-,hr,hlk⟩:=h.look hA Zhh;rw[show Gm f ⟨19,D,(A:Int),B,Ec,nn,bt⟩=Hw (B7 (f.vecs A)) (f.vecs A).length from rfl];have hX:=fun j=>Bw (ok.vecs A) j;have hL9:=ok.vecsL A;obtain⟨V,hV⟩:∃V,B7 (f.vecs A)=V:=⟨_,rfl⟩
  obtain⟨L,hL⟩:∃L,(f.vecs A).length=L:=⟨_,rfl⟩
  obtain⟨FR,hFR⟩:∃FR,a.FR=FR:=⟨_,rfl⟩
  obtain⟨MB,hMB⟩:∃MB,a.MB=MB:=⟨_,rfl⟩
  simp only[hV,hL,hMB]at hX hL9 hr hlk ⊢;rw[hFR,hMB]at f4;rw[hFR];have HXX:Hid (∀j,Ag (V j)):=hX;have HRR:Hid (AE w q1 L (fun j=>.int .u32 (V j))):=hr;have lk:=hlk w.drew (A4 _);clear ha hb f3 f2 x h i6 hg ok hV hL hFR hMB hX hr hlk;go_enter func70,ntmps70;go_wp2;refine rG (fun v=>v.cell? ⟨ib,io+2,none⟩=some (.int .i64 (A:Int))/\v.cell? ⟨FR,4,none⟩=some (.map (some MB))) fun hHeld=>?_;refine Tf 0 1 2 3 4 5 ?_;refine Tb 6 7 ?_;clear hHeld;refine Ao 8 fun K hK=>?_;go_simp;refine An hK fun hHeld=>?_;clear hK K;clear hHeld;refine Ao 9 fun K hK=>?_;go_simp;(go_at_call 111;refine(Y5 q1 L q2 V HXX.out oM _ (HRR.out.below (A4 _))).mono ?_;rintro e w1 ⟨rfl,hb1⟩;have HB1:=bel (A4 _) hb1;have z1:=kc HB1 i2;have z2:=kc HB1 f4);exact Zev
 ·obtain⟨a0,a1⟩:=ha dE;obtain⟨A,rfl⟩:∃j:Nat,A=(j:Int):=⟨A.toNat,oM⟩
  have hA:A<c.regs.length:=by rw[HN.out];omega
  obtain⟨q1,q2,-,hr,hlk⟩:=h.look hA Zhh;rw[show Gm f ⟨20,D,(A:Int),B,Ec,nn,bt⟩=Dj (B7 (f.vecs A)) (f.vecs A).length from rfl];have hX:=fun j=>Bw (ok.vecs A) j;have hL9:=ok.vecsL A;obtain⟨V,hV⟩:∃V,B7 (f.vecs A)=V:=⟨_,rfl⟩
  obtain⟨L,hL⟩:∃L,(f.vecs A).length=L:=⟨_,rfl⟩
  obtain⟨FR,hFR⟩:∃FR,a.FR=FR:=⟨_,rfl⟩
  obtain⟨MB,hMB⟩:∃MB,a.MB=MB:=⟨_,rfl⟩
  simp only[hV,hL,hMB]at hX hL9 hr hlk ⊢;rw[hFR,hMB]at f4;rw[hFR];have HXX:Hid (∀j,Ag (V j)):=hX;have HRR:Hid (AE w q1 L (fun j=>.int .u32 (V j))):=hr;have lk:=hlk w.drew (A4 _);clear ha hb f3 f2 x h i6 hg ok hV hL hFR hMB hX hr hlk;go_enter func70,ntmps70;go_wp2;refine rG (fun v=>v.cell? ⟨ib,io+2,none⟩=some (.int .i64 (A:Int))/\v.cell? ⟨FR,4,none⟩=some (.map (some MB))) fun hHeld=>?_;refine Tf 0 1 2 3 4 5 ?_;refine Tb 6 7 ?_;clear hHeld;refine Ao 8 fun K hK=>?_;go_simp;refine An hK fun hHeld=>?_;clear hK K;clear hHeld;refine Ao 9 fun K hK=>?_;go_simp;(go_at_call 112;refine(Ri q1 L q2 V HXX.out oM _ (HRR.out.below (A4 _))).mono ?_;rintro e w1 ⟨rfl,hb1⟩;have HB1:=bel (A4 _) hb1;have z1:=kc HB1 i2;have z2:=kc HB1 f4);exact Zev
theorem DH(a:Int)(h0:0<=a)(h1:a<4294967296)(w:World):Calls prog 63 #[.int .u32 a] w fun e w'=>e=.returned (.bool (Cj a))/\Below w.heap.size w w':=by
 have hc:Cj a=(canon a==a):=by unfold Cj canon;cases nan a<;>rw[Bool.eq_iff_iff]<;>simp
 rw[hc];have HK:Hid (∀w,Calls prog 103 #[.int .i64 a] w fun e w'=>e=.returned (.int .i64 (canon a))/\Below w.heap.size w w'):=Fl a h0 h1;have hw:IntKind.i64.wrap a=a:=by rw[IntKind.wrap_i64];omega
 clear hc;obtain⟨x,hx⟩:∃x,canon a=x:=⟨_,rfl⟩
 rw[hx]at HK ⊢;clear hx;go_enter func63,ntmps63;go_wp2_with(go_at_call 103;refine(HK.out _).mono ?_;rintro e w1 ⟨rfl,hb1⟩;have HB1:Hid _:=hb1;clear hb1);go_ret;exact⟨rfl,HB1.out⟩
theorem LG(s:Sl)(h0:0<=s.bits)(h1:s.bits<4294967296)(p:Option Addr)(n c:Nat)(hn:n<=140737488351232)(w:World):
 Calls prog 36 #[Se s,.slice p n c] w fun e w'=>e=.returned (.bool (AP s n))/\Below w.heap.size w w':=by
 have HK:Hid (∀w,Calls prog 63 #[.int .u32 s.bits] w fun e w'=>e=.returned (.bool (Cj s.bits))/\Below w.heap.size w w'):=DH s.bits h0 h1;have HT:Hid (∀w,Calls prog 35 #[Dp s.ty,.slice p n c] w fun e w'=>e=.returned (.bool (At s.ty n))/\Below w.heap.size w w'):=GA s.ty p n c hn;obtain⟨⟨K,P⟩,Q,B,I⟩:=s;unfold AP Ed Se CF;unfold Dp at HT;simp only at HK HT h0 h1 ⊢;obtain⟨X,hX⟩:∃X,Cj B=X:=⟨_,rfl⟩
 obtain⟨Y,hY⟩:∃Y,At ⟨K,P⟩ n=Y:=⟨_,rfl⟩
 rw[hX]at HK ⊢;rw[hY]at HT ⊢;clear hX hY;cases Y
 ·rw[Bool.false_and];exact Zbp
 ·rw[Bool.true_and];by_cases h2:K=2
  ·subst h2;rw[if_pos rfl];cases hb:(B==0)
   ·have hb':(B != 0)=true:=by simpa using hb
    exact Zbq
   ·by_cases hi:0<=I
    all_goals
     exact Zbq
  ·rw[if_neg h2];have h2':(K==2)=false:=by simpa using h2
   clear h2;cases hi:(I==0)
   all_goals
    exact Zbp
theorem Ny(D:Value)(f:Int->Int->Int->Int)(place g1 g2 b o m cq:Nat)(P:Nat->Option Addr)(l c:Nat->Nat)(X:Nat->Nat->Int)(hX:∀i j,Ag (X i j))(hm:m<=3)(hi:place<=1048576)(hl:∀i,l i<=1048576)(hpl:∀i,i<m->l i=1\/place<l i)(w:World)
 (hL:G8 .u32 w (some ⟨b,o,none⟩) m P l c X) (hW:Ba w D f) (hD:w.cell? ⟨g1,0,none⟩=some D) (hA:w.cell? ⟨g2,0,none⟩=some (.slice (some ⟨b,o,none⟩) m cq)):
 Calls prog 147 #[.int .i64 place,.pointer (some ⟨g1,0,none⟩),.pointer (some ⟨g2,0,none⟩)] w fun e w'=>e=.returned (.int .u32 (f (Bd l X m place 0) (Bd l X m place 1) (Bd l X m place 2)))/\Below w.heap.size w w':=by
 obtain⟨k,cap,rfl,hen,hk⟩:=hW;have HK:Hid (∀v:World,Below w.heap.size w v->Calls prog k (#[.agg #[.int .u32 (Bd l X m place 0),.int .u32 (Bd l X m place 1),.int .u32 (Bd l X m place 2)]]++cap) v fun e v'=>e=.returned (.int .u32 (f (Bd l X m place 0) (Bd l X m place 1) (Bd l X m place 2)))/\Below v.heap.size v v'):=fun v hv=>hk _ _ _ v (B4 hX m place 0) (B4 hX m place 1) (B4 hX m place 2) hv;have HL:Hid (G8 .u32 w (some ⟨b,o,none⟩) m P l c X/\(∀i,l i<=1048576)/\∀i,i<m->l i=1\/place<l i):=⟨hL,hl,hpl⟩
 have d1:=Bp hD;have d2:=Bp hA;unfold Hr at hen;clear hk hL hl hpl hX;go_enter func147,ntmps147;go_wp2
 go_region_held3 (fun w'=>w'.cell? ⟨g1,0,none⟩=some (.func (.func k) #[] cap)/\w'.cell? ⟨g2,0,none⟩=some (.slice (some ⟨b,o,none⟩) m cq)) (go_keep) (first
  |(go_at_call 148;refine(Nz place b o m cq P l c X hm hi HL.out.2.1 HL.out.2.2 _ (HL.out.1.below (SL w))).mono ?_;rintro e w1 ⟨rfl,hb1⟩;have HB:Below w.heap.size w w1:=Da (SL w) hb1;have e1:w1.cell? ⟨g1,0,none⟩=some (.func (.func k) #[] cap):=(HB.cell d1).trans hD;have e2:w1.cell? ⟨g2,0,none⟩=some (.slice (some ⟨b,o,none⟩) m cq):=(HB.cell d2).trans hA)
  |((with_reducible refine(HK.out _ HB).mono ?_);rintro e w2 ⟨rfl,hb2⟩;have e3:w2.cell? ⟨g1,0,none⟩=some (.func (.func k) #[] cap):=(hb2.cell (Bp e1)).trans e1;have e4:w2.cell? ⟨g2,0,none⟩=some (.slice (some ⟨b,o,none⟩) m cq):=(hb2.cell (Bp e2)).trans e2))
 go_wp2;go_ret;exact⟨rfl,Da HB hb2⟩
theorem Es{k:IntKind}{w:World}{b o m:Nat}{P:Nat->Option Addr}{l c:Nat->Nat}{X:Nat->Nat->Int}(h:G8 k w (some ⟨b,o,none⟩) m P l c X)(i:Nat)(hi:i<m):w.cell? ⟨b,o+i,none⟩=some (.slice (P i) (l i) (c i)):=by
 rcases h.heads with q|⟨b',o',e,hh⟩
 ·omega
 ·cases e;exact hh i hi
theorem Kg{l:Nat->Nat}{M n i j:Nat}(h:BZ l M=some n)(hj:j<=M)(hi:i<n):l j=1\/i<l j:=by
 rcases N7 h j hj with e|e
 ·right;omega
 ·left;exact e.1
theorem Ft(op:Int):BB op<=3:=by
 unfold BB;split
 ·omega
 ·split
  ·omega
  ·split<;>omega
theorem SJ(op:Int)(h0:BB op≠0)(b o m cq:Nat)(hm:BB op=m)(n:Nat)(P:Nat->Option Addr)(l c:Nat->Nat)(X:Nat->Nat->Int)(hX:∀i j,Ag (X i j))(hl:∀i,l i<=1048576)(hc:m<=cq)(hs:BZ l (m-1)=some n)(w:World)(hL:G8 .u32 w (some ⟨b,o,none⟩) m P l c X):
 Calls prog 119 #[.int .i64 op,.slice (some ⟨b,o,none⟩) m cq] w fun e w'=>∃g,e=.returned (.tuple #[.slice (some ⟨g,0,none⟩) n n,.int .i64 0])/\w.heap.size<=g/\w'.rowIs g 43 n (fun i=>.int .u32 (CJ op (Bd l X m i 0) (Bd l X m i 1) (Bd l X m i 2)))/\Below w.heap.size w w':=by
 have HL:Hid (G8 .u32 w (some ⟨b,o,none⟩) m P l c X/\(∀i,l i<=1048576)/\BZ l (m-1)=some n/\(∀i j,Ag (X i j))):=⟨hL,hl,hs,hX⟩
 have hn:n<=1048576:=Vm hl hs;have hm3:m<=3:=by rw[←hm];exact Ft op
 have ht:¬ ((m:Int)=0):=oM;have H0:Hid (BB op≠0):=h0;have HM:Hid (BB op=m):=hm;obtain⟨M,rfl⟩:∃M,m=M+1:=⟨m-1,oM⟩
 have HS:Hid (BZ l M=some n):=hs;clear hL hl hs hX h0 hm;go_enter func119,ntmps119;go_wp2_with(first
  |(go_at_call 145;refine(Rf op H0.out _).mono ?_;rintro e w1 ⟨D,rfl,hD,hb1⟩;rw[HM.out];have hD':=hD;obtain⟨kD,capD,rfl,-,-⟩:=hD';have HD:Hid (Ba w1 (.func (.func kD) #[] capD) (CJ op)):=hD;have a1:w1.cell? ⟨w.heap.size,0,none⟩=some (.slice (some ⟨b,o,none⟩) (M+1) cq):=(hb1.cell sM).trans sM;have s1:w.heap.size<w1.heap.size:=Bp a1;have s2:w.heap.size≠w1.heap.size:=oM;clear hD)
  |(go_at_call 146;refine(Sd b o M cq P l c oM HL.out.2.1 hc _ (fun i hi=>Es (HL.out.1.below (Da (Da (AG w _) hb1) (AG w1 _))) i hi)).mono ?_;rintro e w2 ⟨rfl,hw'⟩;obtain rfl:=hw'.symm;rw[HS.out])
  |(go_at_call 99;refine(Gc 147 (enters_of func147 kR rfl) #[.pointer (some ⟨w1.heap.size,0,none⟩),.pointer (some ⟨w.heap.size,0,none⟩)] n (fun i=>CJ op (Bd l X (M+1) i 0) (Bd l X (M+1) i 1) (Bd l X (M+1) i 2)) hn _ (fun i v hi hv=>Ny (.func (.func kD) #[] capD) (CJ op) i w1.heap.size w.heap.size b o (M+1) cq P l c X HL.out.2.2.2 hm3 oM HL.out.2.1 (fun j hj=>Kg HL.out.2.2.1 oM hi) v (HL.out.1.below (Da (Da (Da (AG w _) hb1) (AG w1 _)) hv)) (HD.out.below (Da (AG w1 _) hv)) ((hv.cell sM).trans sM) ((hv.cell sO).trans (((AG w1 _).cell s1).trans a1)))).mono ?_;rintro e w2 ⟨g,rfl,hg,hr,hb2⟩;have HR:Hid (w2.rowIs g 43 n (fun i=>.int .u32 (CJ op (Bd l X (M+1) i 0) (Bd l X (M+1) i 1) (Bd l X (M+1) i 2)))):=hr;clear hr))
 go_returns;exact⟨_,rfl,by
  have:w1.heap.size+1<=g:=by simpa using hg
  omega,HR.out,Da (Da (Da (AG w _) hb1) (AG w1 _)) hb2⟩
instance:DecidableEq BO:=fun a b=>by
 cases a;cases b
 simp only[BO.mk.injEq];exact inferInstanceAs (Decidable (_/\_/\_))

theorem U4:∀x:BO,∀u∈AW x,u.oneCell'=true:=fun x u hu=>by simp[AW]at hu;rcases hu with rfl|rfl|rfl<;>rfl
theorem Y9:∀x:Ty,∀u∈Nh x,u.oneCell'=true:=fun x u hu=>by simp[Nh]at hu;rcases hu with rfl|rfl<;>rfl
theorem Y1:∀x:Sl,∀u∈LL x,u.oneCell'=true:=fun x u hu=>by simp[LL]at hu;rcases hu with rfl|rfl|rfl|rfl|rfl<;>rfl
theorem Rc:(prog.info? 69).map (fun i=>(i.zero,i.size,i.bytes))=some (some (.agg #[.int .i64 0,.int .i64 0]),2,16):=kR
theorem Rb:(prog.info? 72).map (fun i=>(i.zero,i.size,i.bytes))=some (some (.agg #[.int .i64 0,.int .i64 0,.bool false,.int .u32 0,.int .i64 0]),5,32):=kR
def f4(a b c d:Value)(j:Nat):Value:=if j=0 then a else if j=1 then b else if j=2 then c else d
structure Yz(c:Cd):Prop where
 s:c.sign.length*32<=140737488351232
 r:c.regs.length*16<=140737488351232
 l:c.slots.length*32<=140737488351232
 i:c.list.length*56<=140737488351232

end Go.Proofs.YtbinohkcolcbfaaGreat
