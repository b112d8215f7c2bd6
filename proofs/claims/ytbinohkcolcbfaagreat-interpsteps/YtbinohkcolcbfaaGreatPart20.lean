import Derived.Test.YtbinohkcolcbfaaGreatPart1
import Derived.Test.YtbinohkcolcbfaaGreatPart19
import Derived.Test.YtbinohkcolcbfaaGreatPart15
import Derived.Test.YtbinohkcolcbfaaGreatPart17
namespace Go.Proofs.YtbinohkcolcbfaaGreat
open Go.RowKit Go.Proofs.Tryz
set_option linter.unusedVariables false
set_option linter.unusedSimpArgs false
set_option maxRecDepth 100000
set_option maxHeartbeats 16000000
def patC(l:List Int):List Value:=l.map fun x=>.int .u32 x
theorem Zqx(l:List Int)(x:Int):patC (l++[x])=patC l++[.int .u32 x]:=by simp[patC]
theorem Zxc{w:World}{B:Nat}{p:Option Addr}{q:Nat}{l:List Int}(h:w.ownsRow B 43 1 (.slice p l.length q) l.length (patC l)):Zio w p l.length (fun j=>.int .u32 (atL l j)):=by
 by_cases h0:l.length=0
 ·exact .inl h0
 ·obtain⟨g,cap,e,_⟩:=h.form oM;simp only[Value.slice.injEq]at e;obtain⟨rfl,-,-⟩:=e;refine .inr ⟨g,0,rfl,fun j hj=>?_⟩;rw[Nat.zero_add,h.cellAt j oM];simp[patC,atL,hj]
theorem Zsr:(prog.info? 43).map (fun i=>(i.zero,i.size,i.bytes))=some (some (.int .u32 0),1,4):=kR
theorem Zads(v0 v1 v2 v3:Value)(p:Option Addr)(L q:Nat)(hL:L<=16384)(n:Int)(hn:n<0\/(L:Int)<=n)(w:World):
 Calls prog 24 #[.agg #[v0,v1,v2,v3,.slice p L q],.int .i64 n] w fun e w'=>e=.returned (.tuple #[.slice none 0 0,.int .i64 0,.int .i64 1])/\Below w.heap.size w w':=by
 by_cases h0:n<0
 ·clear hn;exact Zet
 ·have h1:(L:Int)<=n:=oM;have h2:0<=n:=oM;clear hn h0;exact Zet
theorem Zabi(v0 v1 v2 v3:Value)(u:Value)(X:List Cl)(hX:X.length<=16384)(k:Nat)(hk:k<X.length)(hP:∀y∈X[k].h.pats,IsP y)(hl:X[k].h.pats.length<=4096)(w:World)(h:CsV w u X):
 Calls prog 24 #[.agg #[v0,v1,v2,v3,u],.int .i64 (k:Int)] w fun e w'=>∃p q,e=.returned (.tuple #[.slice p X[k].h.pats.length q,.int .i64 X[k].h.whole,.int .i64 0])/\Zio w' p X[k].h.pats.length (fun j=>.int .u32 (atL X[k].h.pats j))/\Below w.heap.size w w'/\∀b o s,p=some ⟨b,o,s⟩->w.heap.size<=b:=by
 obtain⟨pu,qu,rfl,-⟩:=id h.row;obtain⟨b,o,rfl,hc⟩:=h.row.at hk;have hnum:=h.nums X[k] (List.getElem_mem hk);obtain⟨⟨px,qx,⟨pats,wh⟩⟩,hx⟩:∃x,X[k]=x:=⟨_,rfl⟩
 rw[hx]at hc hnum hP hl ⊢;simp only at hnum hP hl ⊢;have y0:w.cell? ⟨b,o+k*2,none⟩=some (.slice px pats.length qx):=hc.at 0 rfl;have y1:w.cell? ⟨b,o+k*2+1,none⟩=some (.int .i64 wh):=hc.at 1 rfl;have HNUM:Hid (NumR w px pats):=hnum;have HP:Hid (∀j,IsP (atL pats j)):=fun j=>Zke hP j;obtain⟨N,hN⟩:∃N,X.length=N:=⟨_,rfl⟩
 obtain⟨M,hM⟩:∃M,pats.length=M:=⟨_,rfl⟩
 have HM:Hid (pats.length=M):=hM;rw[hN]at hk hX ⊢;rw[hM]at y0 hl ⊢;have HC:Hid (∀v,Below (w.alloc (.cells #[v0,v1,v2,v3,.slice (some ⟨b,o,none⟩) N qu] 38)).heap.size (w.alloc (.cells #[v0,v1,v2,v3,.slice (some ⟨b,o,none⟩) N qu] 38)) v->v.cell? ⟨w.heap.size,4,none⟩=some (.slice (some ⟨b,o,none⟩) N qu)/\v.cell? ⟨b,o+k*2,none⟩=some (.slice px M qx)/\v.cell? ⟨b,o+k*2+1,none⟩=some (.int .i64 wh)):=fun v hb=>⟨kc hb sG,kc (bel (Zhq _ _) hb) y0,kc (bel (Zhq _ _) hb) y1⟩
 obtain⟨W0,hW0⟩:∃W,w.alloc (.cells #[v0,v1,v2,v3,.slice (some ⟨b,o,none⟩) N qu] 38)=W:=⟨_,rfl⟩
 have HW0:Hid (Below w.heap.size w W0):=by rw[←hW0];exact Zhq _ _
 rw[hW0]at HC;have g4:=(HC.out _ (bel0 _)).1;have k0:(0:Int)<=(k:Int):=oM;have k1:(k:Int)<(N:Int):=oM;have hB1:decide (N<=k)=false:=sO;have hB2:decide ((k:Int)<0)=false:=sM;clear h hc hnum hP hx hN hM y0 y1;go_enter func24,ntmps24;go_wp2;try simp only[hB1,hB2,Bool.or_false]
 clear hW0 g4
 go_loopw [7,8] (fun ov iv wr=>Below W0.heap.size W0 wr/\∃ (j:Nat) (pp:Option Addr) (qq:Nat),j<=M/\iv=.int .i64 (j:Int)/\ov=.slice pp j qq/\Hid (wr.ownsRow W0.heap.size 43 1 (.slice pp j qq) j (patC (pats.take j)))) (fun _ iv _=>M-(intOf iv).toNat)
 case atStart=>exact⟨bel0 _,0,none,0,Nat.zero_le _,rfl,rfl,World.ownsRow_nil _ _ _ 1⟩
 case round=>
  obtain⟨hb,j,pp,qq,hj,rfl,rfl,how⟩:=hrel;obtain⟨c4,d0,d1⟩:=HC.out wr hb;have HB:Hid (Below W0.heap.size W0 wr):=hb;by_cases hlt:j<M
  ·have hll:j<pats.length:=by rw[HM.out];exact hlt
   rcases HNUM.out with h0|⟨bx,ox,rfl,hcell⟩
   ·omega
   have hc:=hcell j hll;simp only at hc;have y:=kc (bel HW0.out hb) hc;have hP:=HP.out j;obtain⟨g,c',w8,hap,hb8,ho8,-⟩:=Zor (V:=wr) underlying57 Zsr rfl dE how.out hb.size #[.int .u32 (atL pats j)] rfl Zga mL oM 57;have HNX:Hid (w8.ownsRow W0.heap.size 43 1 (.slice (some ⟨g,0,none⟩) (j+1) c') (j+1) (patC (pats.take (j+1)))):=by
    show World.ownsRow _ _ _ _ _ _ _;have e9:atL pats j=pats[j]:=by simp[atL,hll]
    rw[List.take_succ_eq_append_getElem hll,Zqx,←e9];exact ho8
   have HB8:Hid (Below W0.heap.size wr w8):=hb8;have HAP:Hid _:=hap;obtain⟨z,hz⟩:∃z,atL pats j=z:=⟨_,rfl⟩
   rw[hz]at y hP HAP;have t0:(j:Int)<(M:Int):=oM;have t1:(0:Int)<=(j:Int):=oM;have t5:IntKind.i64.wrap ((j:Int)+1)=((j+1:Nat):Int):=by rw[IntKind.wrap_i64];omega
   have t6:IntKind.u32.wrap z=z:=by rw[IntKind.wrap_u32];have:=hP.1;have:=hP.2;omega
   clear hap hb8 ho8 hc hcell hz hb how hll;go_wp2_with(at_builtin;refine Zir rF _ _ _ rF _ _ _ rF rF HAP.out ?_);go_roundw
   case rel=>
    exact⟨HB.out.trans HB8.out,j+1,_,_,oM,gN,rfl,HNX.out⟩
   case measure=>simp[intOf];omega
  have hjn:j=M:=oM;have e1:¬ (j:Int)<(M:Int):=oM;have HOW:Hid (wr.ownsRow W0.heap.size 43 1 (.slice pp pats.length qq) pats.length (patC pats)):=by
   show World.ownsRow _ _ _ _ _ _ _;have h5:=how.out;rw[hjn,←HM.out,List.take_length]at h5;exact h5
  have HJ:Hid (j=M):=hjn;clear how hlt hjn;go_wp2;refine rG (fun v=>v.cell? ⟨w.heap.size,4,none⟩=some (.slice (some ⟨b,o,none⟩) N qu)/\v.cell? ⟨b,o+k*2+1,none⟩=some (.int .i64 wh)) fun hHeld=>?_;refine Tf 0 1 2 3 4 5 ?_;refine Tc 6 7 8 ?_;refine tkT 9 ?_;refine wpAnyH_done kR ?_ _;go_wp2;refine bodyPost_ret (by simp[results,results24,go_sem];try rfl) rfl ?_;have hrd:=Zxc HOW.out;rw[HM.out]at hrd;have hbw:Below w.heap.size w wr:=bel HW0.out HB.out;refine⟨pp,qq,by rw[HJ.out],hrd,Zmu hbw,fun b o s e=>?_⟩;have h5:=(HOW.out.lt b (by rw[e];rfl)).1;have h6:=HW0.out.size;omega
def VcR(w:World)(v:Value)(L:List (List Int)):Prop:=∃p c,v=.slice p L.length c/\∀i (hi:i<L.length),∃b o q d,p=some ⟨b,o,none⟩/\w.cell? ⟨b,o+i,none⟩=some (.slice q (L[i]).length d)/\Zio w q (L[i]).length (fun j=>.int .u32 (atL L[i] j))
theorem VcR.below{w w':World}{v:Value}{L:List (List Int)}(h:VcR w v L)(k:Below w.heap.size w w'):VcR w' v L:=by
 obtain⟨p,c,e,h⟩:=h;refine⟨p,c,e,fun i hi=>?_⟩;obtain⟨b,o,q,d,e1,e2,e3⟩:=h i hi;exact⟨b,o,q,d,e1,kc k e2,e3.below k⟩
theorem VsT.vc{T:Nat->Prop}{w:World}{v:Value}{L:List (List Int)}(h:VsT T w v L):VcR w v L:=h.cellsOf
theorem Zabe:∀ {l:List Par} {m:List Nat},m.length≠l.length->Zin l m=false
 |[],[],h=>absurd rfl h
 |[],_::_,_=>rfl
 |_::_,[],_=>rfl
 |p::l,n::m,h=>by
  have:Zin l m=false:=Zabe Zgb;simp[Zin,this]
theorem Zaax:∀ {l:List Par} {m:List Nat} {k:Nat} (h1:k<l.length) (h2:k<m.length),((m[k]:Nat):Int)≠numP l[k]->Zin l m=false
 |[],m,k,h,_,_=>by simp at h
 |p::l,[],k,_,h,_=>by simp at h
 |p::l,n::m,0,_,_,hne=>by
  have:decide ((n:Int)=numP p)=false:=by simpa using hne
  simp[Zin,this]
 |p::l,n::m,k+1,h1,h2,hne=>by
  have:Zin l m=false:=Zaax (k:=k) (by simpa using h1) (by simpa using h2) (by simpa using hne);simp[Zin,this]
theorem Zzc:∀ {l:List Par} {m:List Nat},m.length=l.length->(∀k (h1:k<l.length) (h2:k<m.length),((m[k]:Nat):Int)=numP l[k])->Zin l m=true
 |[],[],_,_=>rfl
 |[],_::_,h,_=>by simp at h
 |_::_,[],h,_=>by simp at h
 |p::l,n::m,h,ha=>by
  have h0:((n:Nat):Int)=numP p:=ha 0 sM sM;have:Zin l m=true:=Zzc Zgb fun k h1 h2=>by
   have:=ha (k+1) sO sO;simpa using this
  simp[Zin,h0,this]
theorem Zpi(v0:Value)(l:List Par)(hl:l.length<=64)(hM:∀p∈l,p.name.size<=140737488351232)(gv:Value)(L:List (List Int))(hL:L.length<=140737488351232)(hLL:∀x∈L,x.length<=140737488351232)(w:World)(hr:RowG 3 Zjc w v0 l)(hg:VcR w gv L):
 Calls prog 46 #[v0,gv] w fun e w'=>e=.returned (.bool (Zin l (L.map (·.length))))/\Below w.heap.size w w':=by
 obtain⟨p0,q0,rfl,-⟩:=id hr;obtain⟨pg,qg,rfl,hcell⟩:=hg;have HR:Hid (RowG 3 Zjc w (.slice p0 l.length q0) l):=hr;have HCELL:Hid (∀i (hi:i<L.length),∃b o q d,pg=some ⟨b,o,none⟩/\w.cell? ⟨b,o+i,none⟩=some (.slice q (L[i]).length d)/\Zio w q (L[i]).length (fun j=>.int .u32 (atL L[i] j))):=hcell;have HNM:Hid (∀p∈l,p.name.size<=140737488351232):=hM;have HLL:Hid (∀x∈L,x.length<=140737488351232):=hLL;by_cases hne:L.length=l.length
 ·obtain⟨RES,hRES⟩:∃X,Zin l (L.map (·.length))=X:=⟨_,rfl⟩
  rw[hRES];have HRES:Hid (Zin l (L.map (·.length))=RES):=hRES;have HNE:Hid (L.length=l.length):=hne;obtain⟨N,hN⟩:∃N,l.length=N:=⟨_,rfl⟩
  have HN:Hid (l.length=N):=hN;rw[hne];rw[hN]at hl HR ⊢;clear hr hcell hM hLL hRES hne hN hL;go_enter func46,ntmps46;go_wp2
  go_loopw [5] (fun iv wr=>Below w.heap.size w wr/\∃j:Nat,j<=N/\iv=.int .i64 (j:Int)/\Hid (∀k (h1:k<l.length) (h2:k<L.length),k<j->((L[k].length:Nat):Int)=numP l[k])) (fun iv _=>N-(intOf iv).toNat)
  case atStart=>exact⟨bel0 _,0,Nat.zero_le _,rfl,fun k _ _ h=>absurd h (Nat.not_lt_zero _)⟩
  case round=>
   obtain⟨hb,j,hj,rfl,hall⟩:=hrel;by_cases hlt:j<N
   ·have hll:j<l.length:=by rw[HN.out];exact hlt
    have hLl:j<L.length:=by rw[HNE.out];exact hll
    obtain⟨lb,lo,rfl,hx⟩:=HR.out.at hll;obtain⟨gb,go,gq,gd,rfl,hgc,-⟩:=HCELL.out j hLl;have KN:=Zte l[j] (HNM.out _ (List.getElem_mem hll));have hlen:=HLL.out _ (List.getElem_mem hLl);have NX:Hid (((L[j].length:Nat):Int)=numP l[j]->∀k (h1:k<l.length) (h2:k<L.length),k<j+1->((L[k].length:Nat):Int)=numP l[k]):=fun h k h1 h2 h3=>by
     by_cases e:k=j
     ·subst e;exact h
     ·exact hall.out k h1 h2 oM
    have NB:Hid (((L[j].length:Nat):Int)≠numP l[j]->false=RES):=fun h=>by
     rw[←HRES.out];exact(Zaax (k:=j) hll (by simp;exact hLl) Zgb).symm
    obtain⟨U,hU⟩:∃U,numP l[j]=U:=⟨_,rfl⟩
    obtain⟨V,hV⟩:∃V,L[j].length=V:=⟨_,rfl⟩
    rw[hU]at KN NX NB;rw[hV]at hgc hlen NX NB;obtain⟨⟨nm,K9,L9⟩,hT⟩:∃T:Par,l[j]=T:=⟨_,rfl⟩
    rw[hT]at hx KN;unfold pv at KN;simp only at KN;have HK:Hid (∀v,Calls prog 77 #[.agg #[.string nm,.int .i64 K9,.int .i64 L9]] v fun e w'=>e=.returned (.int .i64 U)/\Below v.heap.size v w'):=KN;have y0:wr.cell? ⟨lb,lo+j*3,none⟩=some (.string nm):=kc hb (hx.at 0 rfl);have y1:wr.cell? ⟨lb,lo+j*3+1,none⟩=some (.int .i64 K9):=kc hb (hx.at 1 rfl);have y2:wr.cell? ⟨lb,lo+j*3+2,none⟩=some (.int .i64 L9):=kc hb (hx.at 2 rfl);have y3:=kc hb hgc;have HB:Hid (Below w.heap.size w wr):=hb;have i1:(0:Int)<=(j:Int):=oM;have i2:(j:Int)<(N:Int):=oM;clear KN hx hgc hall hT hU hV hb;by_cases hX:((V:Nat):Int)=U
    ·have hb1:((V:Int) != U)=false:=by simpa using hX
     have HNX:=NX.out hX;have HNX2:Hid _:=HNX;clear hX HNX NX NB;go_wp2;refine rG (fun v=>v.cell? ⟨gb,go+j,none⟩=some (.slice gq V gd)/\v.cell? ⟨lb,lo+j*3,none⟩=some (.string nm)/\v.cell? ⟨lb,lo+j*3+1,none⟩=some (.int .i64 K9)/\v.cell? ⟨lb,lo+j*3+2,none⟩=some (.int .i64 L9)) fun hHeld=>?_;refine Tf 0 1 2 3 4 5 ?_;refine Tc 6 7 8 ?_;clear hHeld;refine ry1 9 fun K hK=>?_;go_simp;(go_at_call 77;(with_reducible refine(HK.out _).mono ?_);rintro e w2 ⟨rfl,hb2⟩;have HB2:Hid (Below wr.heap.size wr w2):=bel (Zhs _) hb2;clear hb2;have x0:=kc HB2.out y0;have x1:=kc HB2.out y1;have x2:=kc HB2.out y2;have x3:=kc HB2.out y3);try(go_wp2_with fail)
     refine okK hK fun hHeld=>?_;clear hK K;refine tkT 10 ?_;refine wpAnyH_done kR ?_ _;go_wp2;go_roundw
     case rel=>exact⟨bel HB.out HB2.out,j+1,oM,gN,HNX2.out⟩
     case measure=>simp[intOf];omega
    ·have hb1:((V:Int) != U)=true:=by simpa using hX
     have HQ:=NB.out hX;have HQF:Hid (false=RES):=HQ;clear hX HQ NX NB;go_wp2;refine rG (fun v=>v.cell? ⟨gb,go+j,none⟩=some (.slice gq V gd)/\v.cell? ⟨lb,lo+j*3,none⟩=some (.string nm)/\v.cell? ⟨lb,lo+j*3+1,none⟩=some (.int .i64 K9)/\v.cell? ⟨lb,lo+j*3+2,none⟩=some (.int .i64 L9)) fun hHeld=>?_;refine Tf 0 1 2 3 4 5 ?_;refine Tc 6 7 8 ?_;clear hHeld;refine ry1 9 fun K hK=>?_;go_simp;(go_at_call 77;(with_reducible refine(HK.out _).mono ?_);rintro e w2 ⟨rfl,hb2⟩;have HB2:Hid (Below wr.heap.size wr w2):=bel (Zhs _) hb2;clear hb2;have x0:=kc HB2.out y0;have x1:=kc HB2.out y1;have x2:=kc HB2.out y2;have x3:=kc HB2.out y3);try(go_wp2_with fail)
     refine okK hK fun hHeld=>?_;clear hK K;refine tkT 10 ?_;refine wpAnyH_done kR ?_ _;go_wp2;go_ret;exact⟨Zhu HQF.out,bel HB.out HB2.out⟩
   have HQT:Hid (true=RES):=by
    show _=_;rw[←HRES.out];refine(Zzc (by rw[List.length_map];exact HNE.out) fun k h1 h2=>?_).symm;rw[List.length_map]at h2;have h5:=hall.out k h1 h2 (by have:=HN.out;omega);simpa using h5
   have e1:¬ (j:Int)<(N:Int):=oM;clear hall hlt;go_wp2;go_ret;exact⟨Zhu HQT.out,hb⟩
 ·rw[Zabe (by rw[List.length_map];exact hne)];obtain⟨N,hN⟩:∃N,l.length=N:=⟨_,rfl⟩
  obtain⟨M,hM'⟩:∃N,L.length=N:=⟨_,rfl⟩
  rw[hN]at hne hl ⊢;rw[hM']at hne hL ⊢;have hb1:(((M:Nat):Int)==((N:Nat):Int))=false:=by have:((M:Nat):Int)≠(N:Int):=oM;simpa using this
  have hb2:(((M:Nat):Int) != ((N:Nat):Int))=true:=by have:((M:Nat):Int)≠(N:Int):=oM;simpa using this
  clear hr hcell hM hLL hN hM';go_enter func46,ntmps46;go_wp2;go_ret;exact⟨rfl,bel0 _⟩
theorem und_LL:prog.underlying 123=some (.slice (prog.elem 123)):=kR
theorem elem_LL:prog.elem 123=82:=kR
theorem size_LL(w:World):(sizeOf (prog.elem 123)).run prog w=.ok 1 w:=by rw[elem_LL];exact Tryz.sizeOf82 w
def arg3(a b c:List Int)(m:Nat):List (List Int):=[a,b,c].take m
def elR(W:Nat)(R:List Int):List Int:=if R.length=1 then List.replicate W (canon (R.headD 0))else R
theorem apply3(op:Int)(m:Nat)(hm:Zjq op=m)(h0:m≠0)(xa xb xc:Cl)(n:Nat)(hs:shpV (lF (arg3 xa.h.pats xb.h.pats xc.h.pats m)) (m-1)=some n)
 (pa:∀y∈xa.h.pats,IsP y) (pb:∀y∈xb.h.pats,IsP y) (pc:∀y∈xc.h.pats,IsP y) (la:xa.h.pats.length<=4096) (lb:xb.h.pats.length<=4096) (lc:xc.h.pats.length<=4096) (g:Nat) (w:World)
 (g0:w.cell? ⟨g,0,none⟩=some (.slice xa.p xa.h.pats.length xa.q)) (g1:w.cell? ⟨g,1,none⟩=some (.slice xb.p xb.h.pats.length xb.q)) (g2:w.cell? ⟨g,2,none⟩=some (.slice xc.p xc.h.pats.length xc.q))
 (na:NumR w xa.p xa.h.pats) (nb:NumR w xb.p xb.h.pats) (nc:NumR w xc.p xc.h.pats):
 Calls prog 120 #[.int .i64 op,.slice (some ⟨g,0,none⟩) m 3] w fun e w'=>∃q cap,e=.returned (.tuple #[.slice q n cap,.int .i64 0])/\NumR w' q (appP op (arg3 xa.h.pats xb.h.pats xc.h.pats m))/\(appP op (arg3 xa.h.pats xb.h.pats xc.h.pats m)).length=n/\(∀y∈appP op (arg3 xa.h.pats xb.h.pats xc.h.pats m),IsP y)/\Below w.heap.size w w'/\∀b o s,q=some ⟨b,o,s⟩->w.heap.size<=b:=by
 have hm3:m<=3:=by rw[←hm];exact Zqh op
 have hal:(arg3 xa.h.pats xb.h.pats xc.h.pats m).length=m:=by unfold arg3;rw[List.length_take];simp;omega
 have hv:∀i,i<m->Zks (arg3 xa.h.pats xb.h.pats xc.h.pats m) i=if i=0 then xa.h.pats else if i=1 then xb.h.pats else xc.h.pats:=fun i hi=>by
  unfold Zks arg3;rw[List.getElem?_take,if_pos hi];have:i=0\/i=1\/i=2:=oM;rcases this with rfl|rfl|rfl<;>rfl
 have hvs:∀i,Zks (arg3 xa.h.pats xb.h.pats xc.h.pats m) i=[] \/Zks (arg3 xa.h.pats xb.h.pats xc.h.pats m) i=xa.h.pats\/Zks (arg3 xa.h.pats xb.h.pats xc.h.pats m) i=xb.h.pats\/Zks (arg3 xa.h.pats xb.h.pats xc.h.pats m) i=xc.h.pats:=fun i=>by
  by_cases hi:i<m
  ·rw[hv i hi];split
   ·exact .inr (.inl rfl)
   ·split
    ·exact .inr (.inr (.inl rfl))
    ·exact .inr (.inr (.inr rfl))
  ·left;unfold Zks arg3;rw[List.getElem?_take,if_neg hi];rfl
 have hP:∀i j,IsP (xF (arg3 xa.h.pats xb.h.pats xc.h.pats m) i j):=fun i j=>by
  unfold xF;refine Zke ?_ j;rcases hvs i with e|e|e|e<;>rw[e]
  ·intro y hy;cases hy
  ·exact pa
  ·exact pb
  ·exact pc
 have hl:∀i,lF (arg3 xa.h.pats xb.h.pats xc.h.pats m) i<=1048576:=fun i=>by
  unfold lF;rcases hvs i with e|e|e|e<;>rw[e]<;>first|(show(0:Nat)<=_;omega)|omega
 have hL:Lsts .i64 w (some ⟨g,0,none⟩) m (fun i=>if i=0 then xa.p else if i=1 then xb.p else xc.p) (lF (arg3 xa.h.pats xb.h.pats xc.h.pats m)) (fun i=>if i=0 then xa.q else if i=1 then xb.q else xc.q) (xF (arg3 xa.h.pats xb.h.pats xc.h.pats m)):=by
  refine⟨.inr ⟨g,0,rfl,fun i hi=>?_⟩,fun i hi=>?_⟩
  ·have:i=0\/i=1\/i=2:=oM;simp only[lF];rw[hv i hi,Nat.zero_add];rcases this with rfl|rfl|rfl
   ·exact g0
   ·exact g1
   ·exact g2
  ·have:i=0\/i=1\/i=2:=oM;simp only[lF,xF];rw[hv i hi];rcases this with rfl|rfl|rfl
   ·exact na
   ·exact nb
   ·exact nc
 have hs':shpV (lF (arg3 xa.h.pats xb.h.pats xc.h.pats m)) ((arg3 xa.h.pats xb.h.pats xc.h.pats m).length-1)=some n:=by rw[hal];exact hs
 obtain⟨a1,a2⟩:=Zxx (op:=op) hs';refine(Zakm op oM g 0 m 3 hm n _ _ _ _ hP hl hs w hL).mono ?_;rintro e w' ⟨q,cap,rfl,hr,hb,hlo⟩;have a3:∀y∈appP op (arg3 xa.h.pats xb.h.pats xc.h.pats m),IsP y:=fun y hy=>by
  obtain⟨j,hj,rfl⟩:=List.mem_iff_getElem.1 hy;have h9:=a2 j oM;have h8:atL (appP op (arg3 xa.h.pats xb.h.pats xc.h.pats m)) j=(appP op (arg3 xa.h.pats xb.h.pats xc.h.pats m))[j]:=by simp[atL,hj]
  rw[←h8,h9];exact Zxw _ _ _ _ (Zjr hP _ _ _) (Zjr hP _ _ _) (Zjr hP _ _ _)
 refine⟨q,cap,rfl,?_,a1,a3,hb,hlo⟩;unfold NumR;rw[a1];refine hr.congr fun j hj=>?_;rw[a2 j hj,hal]
def fRes(j:Nat):Value:=if j=0 then .slice none 0 0 else .int .i64 0
theorem fRes_ok:∀i,i<(#[.slice none 0 0,.int .i64 0]:Array Value).size->(#[.slice none 0 0,.int .i64 0]:Array Value)[i]? =some (fRes i):=by
 intro i hi;have hi':i<2:=hi;obtain rfl|rfl:i=0\/i=1:=oM
 all_goals rfl
theorem num_ne{v:World}{R:Nat}(h:v.rowIs R 84 2 fRes){q:Option Addr}{l:List Int}(hn:NumR v q l)(h2:2<=l.length):∀b o,q=some ⟨b,o,none⟩->b≠R:=by
 intro b o e hb;rcases hn with h0|⟨b',o',e',hc⟩
 ·omega
 ·rw[e]at e';simp only[Option.some.injEq,Addr.mk.injEq,true_and,and_true]at e';obtain⟨rfl,rfl⟩:b=b'/\o=o':=by first|exact e'|exact⟨e'.1,e'.2⟩
  subst hb;by_cases ho:o=0
  ·have h3:=hc 0 oM;rw[ho]at h3;have h4:=h.cell (i:=0) dE;rw[Nat.add_zero]at h3;rw[h3]at h4;simp[fRes]at h4
  ·have h3:=hc 1 oM;obtain⟨c,hb,hs,-⟩:=h;have h5:v.cell? ⟨b,o+1,none⟩=none:=by
    unfold World.cell?;simp only[hb];exact Array.getElem?_eq_none oM
   rw[h5]at h3;cases h3
structure EW17(w:World)(v0 v1 v2 v3 ru:Value)(op D A B C tk tp:Int)(rb oa ob oc:Nat)(ua ub uc:Value)(v:World):Prop where
 bel:Below w.heap.size w v
 a0:v.cell? ⟨w.heap.size,0,none⟩=some v0
 a1:v.cell? ⟨w.heap.size,1,none⟩=some v1
 a2:v.cell? ⟨w.heap.size,2,none⟩=some v2
 a3:v.cell? ⟨w.heap.size,3,none⟩=some v3
 a4:v.cell? ⟨w.heap.size,4,none⟩=some ru
 i0:v.cell? ⟨w.heap.size+1,0,none⟩=some (.int .i64 op)
 i1:v.cell? ⟨w.heap.size+1,1,none⟩=some (.int .i64 D)
 i2:v.cell? ⟨w.heap.size+1,2,none⟩=some (.int .i64 A)
 i3:v.cell? ⟨w.heap.size+1,3,none⟩=some (.int .i64 B)
 i4:v.cell? ⟨w.heap.size+1,4,none⟩=some (.int .i64 C)
 r0:v.cell? ⟨w.heap.size+1+1,0,none⟩=some (.slice none 0 0)
 r1:v.cell? ⟨w.heap.size+1+1,1,none⟩=some (.int .i64 0)
 rr:v.rowIs (w.heap.size+1+1) 84 2 fRes
 f0:v.frozen? ⟨w.heap.size+1+1,0,none⟩=false
 f1:v.frozen? ⟨w.heap.size+1+1,1,none⟩=false
 t0:v.cell? ⟨w.heap.size+1+1+1,0,none⟩=some (.int .i64 tk)
 t1:v.cell? ⟨w.heap.size+1+1+1,1,none⟩=some (.int .i64 tp)
 x0:v.cell? ⟨rb,oa,none⟩=some ua
 x1:v.cell? ⟨rb,ob,none⟩=some ub
 x2:v.cell? ⟨rb,oc,none⟩=some uc
theorem EW17.next{w:World}{v0 v1 v2 v3 ru:Value}{op D A B C tk tp:Int}{rb oa ob oc:Nat}{ua ub uc:Value}{v v':World}(h:EW17 w v0 v1 v2 v3 ru op D A B C tk tp rb oa ob oc ua ub uc v)(k:Below v.heap.size v v'):EW17 w v0 v1 v2 v3 ru op D A B C tk tp rb oa ob oc ua ub uc v':=
 ⟨Go.Proofs.YtbinohkcolcbfaaGreat.bel h.bel k,kc k h.a0,kc k h.a1,kc k h.a2,kc k h.a3,kc k h.a4,kc k h.i0,kc k h.i1,kc k h.i2,kc k h.i3,kc k h.i4,kc k h.r0,kc k h.r1,h.rr.of_block (k.block _ h.rr.lt),kf k h.r0 h.f0,kf k h.r1 h.f1,kc k h.t0,kc k h.t1,kc k h.x0,kc k h.x1,kc k h.x2⟩
end Go.Proofs.YtbinohkcolcbfaaGreat
set_option maxRecDepth 100000
set_option maxHeartbeats 16000000
namespace Go.Proofs.YtbinohkcolcbfaaGreat
open Go.RowKit Go.Proofs.Tryz
set_option linter.unusedVariables false
set_option linter.unusedSimpArgs false
theorem Zol(a:Int):canon (canon a)=canon a:=by
 by_cases h:nan a=true
 ·have e:canon a=2143289344:=by unfold canon;rw[if_pos h]
  rw[e];decide
 ·have e:canon a=a:=by unfold canon;rw[if_neg h]
  rw[e,e]
theorem Zwt(b:Bool):canon (flag b)=flag b:=by cases b<;>decide
theorem Zrr{o:Option Nat}(h:∀r,o=some r->rg r<=2139095040):canon (op2 o)=op2 o:=by
 cases o with
 |none=>decide
 |some r=>exact Zlt (h r rfl)
theorem Zaai{a b:Int}(ha:0<=a)(hb:0<=b){o:Ordering}(h:ord a b=some o):canon a=a/\canon b=b:=by
 rw[Ztn a b ha hb]at h;split at h
 ·cases h
 ·rename_i hn;have h1:¬nan a=true:=fun e=>hn (.inl e);have h2:¬nan b=true:=fun e=>hn (.inr e);unfold canon;rw[if_neg h1,if_neg h2];exact⟨rfl,rfl⟩
theorem Zark(a b:Int)(ha:0<=a)(hb:0<=b):canon (fmin a b)=fmin a b:=by
 unfold fmin;cases e:ord a b with
 |none=>show canon 2143289344=2143289344;decide
 |some o=>
  obtain⟨h1,h2⟩:=Zaai ha hb e;cases o
  ·exact h1
  ·simp only;split
   ·exact h1
   ·exact h2
  ·exact h2
theorem Zaro(a b:Int)(ha:0<=a)(hb:0<=b):canon (fmax a b)=fmax a b:=by
 unfold fmax;cases e:ord a b with
 |none=>show canon 2143289344=2143289344;decide
 |some o=>
  obtain⟨h1,h2⟩:=Zaai ha hb e;cases o
  ·exact h2
  ·simp only;split
   ·exact h2
   ·exact h1
  ·exact h1
theorem Zlb{p:Prop}[Decidable p]{x y:Int}(h:canon x=x)(k:canon y=y):canon (if p then x else y)=if p then x else y:=by
 split
 ·exact h
 ·exact k
theorem opf_can(op a b c:Int)(ha:IsP a)(hb:IsP b):canon (opf op a b c)=opf op a b c:=by
 unfold opf;refine Zlb (Zol a) (Zlb (Zrr fun _ h=>(Zuz h).1) (Zlb (Zol _) (Zlb (Zol _) (Zlb (Zwt _) (Zlb (Zrr fun _ h=>(Zxj h).1) (Zlb (Zrr fun _ h=>(Zxq h).1) (Zlb (Zrr fun _ h=>(Zxt h).1) (Zlb (Zrr fun _ h=>(Zxr h).1) (Zlb (Zark a b ha.1 hb.1) (Zlb (Zaro a b ha.1 hb.1) (Zlb (Zwt _) ?_)))))))))));unfold fsel;exact Zlb (Zol _) (Zol _)
theorem app_can{op:Int}{args:List (List Int)}(h:∀l∈args,∀y∈l,IsP y):∀y∈appP op args,canon y=y:=by
 have hX:∀i j,IsP (xF args i j):=fun i j=>by
  exact Zed
 intro y hy;unfold appP at hy;split at hy
 ·simp only[List.mem_map]at hy;obtain⟨k,_,rfl⟩:=hy;exact opf_can _ _ _ _ (Zjr hX _ _ _) (Zjr hX _ _ _)
 ·cases hy
theorem el_eq{c:Cd}{f:Fr}{i:Ins}(hg:Good c)(ok:OkF c f)(he:Zji i.op=true)(nd:Zlj c f i)(hk:(regT c.regs i.d).kind≠2):
 elR (if(regT c.regs i.d).kind=3 then lenOf c (regT c.regs i.d).par else 1) (appP i.op (Zjh c f i))=(if(appP i.op (Zjh c f i)).length<Zhy c (regT c.regs i.d)then Zkf c (regT c.regs i.d) ((appP i.op (Zjh c f i)).headD 0)else appP i.op (Zjh c f i))/\(if(regT c.regs i.d).kind=3 then lenOf c (regT c.regs i.d).par else 1)=Zhy c (regT c.regs i.d):=by
 obtain⟨h1,h2,h3⟩:=Zpm hg ok he nd hk;obtain⟨s1,s2⟩:=Zps hg ok he nd hk;have hcan:=app_can (op:=i.op) (args:=Zjh c f i) (fun l hl=>by
  unfold Zjh at hl;simp only[List.mem_map]at hl;obtain⟨r,hr,rfl⟩:=hl
  exact(h2 r hr).2.2.2)
 have hw:(if(regT c.regs i.d).kind=3 then lenOf c (regT c.regs i.d).par else 1)=Zhy c (regT c.regs i.d):=by
  unfold Zhy;rcases h3 with e|e
  ·rw[if_neg oM,if_neg oM,if_pos e]
  ·rw[if_pos e,if_pos e]
 refine⟨?_,hw⟩;rw[hw];unfold Zkf;generalize appP i.op (Zjh c f i)=R at *;generalize Zhy c (regT c.regs i.d)=W at *;unfold elR;by_cases e:R.length=1
 ·rw[if_pos e];obtain⟨x,rfl⟩:=List.length_eq_one_iff.1 e;have hx:canon x=x:=hcan x sM;by_cases e2:W=1
  ·subst e2;rw[if_neg sM];show [canon x]=[x];rw[hx]
  ·rw[if_pos sO]
 ·rw[if_neg e,if_neg oM]
def valI(c:Cd)(G P:List (List Int))(f:Fr)(i:Ins):Hd:=rdP c (doI c G P f i) i.d
section
variable {c : Cd} {G P : List (List Int)} {f : Fr} {i : Ins}
theorem Zsd(nd:Zlj c f i)(h:Zlx i.op=true):valI c G P f i=⟨[numI f i],0⟩:=by
 unfold valI rdP;rw[Znu h,if_pos (nd.num h).2.2.2.2];simp only[Zmi]
theorem Ztw(nd:Zlj c f i)(h:Zjv i.op=true):valI c G P f i=⟨[],Znb f i⟩:=by
 have hk:=(nd.whole h).2.2.2.2.2.1;unfold valI rdP;rw[Zmj h,if_neg oM,if_pos hk];simp only[Zmi]
theorem val_29(nd:Zlj c f i)(h:i.op=29):valI c G P f i=⟨Ziq c G i,0⟩:=by
 have hk:=(nd.part (.inl h)).kind;unfold valI rdP;rw[Zop h,if_neg oM,if_neg oM];simp only[Zmi]
theorem val_30(nd:Zlj c f i)(h:i.op=30):valI c G P f i=⟨Ziq c P i,0⟩:=by
 have hk:=(nd.part (.inr h)).kind;unfold valI rdP;rw[Zow h,if_neg oM,if_neg oM];simp only[Zmi]
theorem rd_st{r:Int}{h:Hd}(ho:HdOK c (regT c.regs r) h)(hz:(regT c.regs r).kind≠2->h.whole=0):rdP c (stP c f r h) r=h:=by
 obtain⟨pats,whole⟩:=h;simp only at hz;have hl:pats.length=Zhy c (regT c.regs r):=ho.1;unfold Zhy at hl;unfold rdP stP;by_cases h1:(regT c.regs r).kind=1
 ·rw[if_neg oM,if_pos h1]at hl;rw[if_pos h1,if_pos h1];obtain⟨x,rfl⟩:=List.length_eq_one_iff.1 hl;simp only[Zmi,List.headD_cons];rw[hz oM]
 ·by_cases h2:(regT c.regs r).kind=2
  ·rw[if_neg oM,if_neg oM]at hl;rw[if_neg h1,if_pos h2,if_neg h1,if_pos h2];simp only[Zmi];rw[List.length_eq_zero_iff.1 hl]
  ·rw[if_neg h1,if_neg h2,if_neg h1,if_neg h2];simp only[Zmi];rw[hz h2]
theorem val_32(ok:OkF c f)(nd:Zlj c f i)(h:i.op=32)(hz:∀j (h:j<c.slots.length),c.slots[j].ty.kind≠2->((f.slots[j]?).getD ⟨[],0⟩).whole=0):valI c G P f i=(f.slots[i.n.toNat]?).getD ⟨[],0⟩:=by
 obtain⟨d0,d1,n0,n1,ht⟩:=nd.load h;have hn:i.n.toNat<c.slots.length:=oM;have hn2:i.n.toNat<f.slots.length:=by rw[ok.slotsL];exact hn
 have hh:=ok.slots i.n.toNat hn hn2;have e:slotT c.slots i.n=c.slots[i.n.toNat].ty:=by unfold slotT;rw[List.getElem?_eq_getElem hn];rfl
 unfold valI;rw[Zov h];refine rd_st ?_ fun h2=>hz _ hn (by rw[←e,ht];exact h2);rw[List.getElem?_eq_getElem hn2,Option.getD_some,←ht,e];exact hh
theorem Zajd(h:Zji i.op=true)(hk:(regT c.regs i.d).kind=2):valI c G P f i=⟨[],f.whs i.a.toNat⟩:=by
 unfold valI rdP;rw[Zmd h];unfold Zll;rw[if_pos hk,if_neg oM,if_pos hk];simp only[Zmi]
theorem Zaqk(hg:Good c)(ok:OkF c f)(nd:Zlj c f i)(h:Zji i.op=true)(hk:(regT c.regs i.d).kind≠2):valI c G P f i=⟨elR (if(regT c.regs i.d).kind=3 then lenOf c (regT c.regs i.d).par else 1) (appP i.op (Zjh c f i)),0⟩:=by
 obtain⟨e1,e2⟩:=el_eq hg ok h nd hk;obtain⟨s1,s2⟩:=Zps hg ok h nd hk;rw[e1];unfold valI;rw[Zmd h];unfold Zll;rw[if_neg hk];refine rd_st ⟨?_,fun y hy=>?_,Int.le_refl _,by show(0:Int)<=2147483647;decide⟩ fun _=>rfl
 ·simp only;split
  ·unfold Zkf;rw[List.length_replicate]
  ·rename_i hn;have h1:=(Zpm hg ok h nd hk).1;omega
 ·simp only at hy;split at hy
  ·unfold Zkf at hy;rw[List.eq_of_mem_replicate hy];exact Zna _ (Zux s2)
  ·exact s2 y hy
theorem Zxf(hk:Zih i.op=true)(r:Nat)(h:(rowP i.op).d≠0->r≠i.d.toNat):rdP c (doI c G P f i) (r:Int)=rdP c f (r:Int):=by
 have hst:∀x:Hd,(rowP i.op).d≠0->rdP c (stP c f i.d x) (r:Int)=rdP c f (r:Int):=fun x hd=>by
  have hr:=h hd;unfold stP;split
  ·unfold rdP;simp only[Int.toNat_natCast,Zmn _ _ hr]
  ·split
   ·unfold rdP;simp only[Int.toNat_natCast,Zmn _ _ hr]
   ·unfold rdP;simp only[Int.toNat_natCast,Zmn _ _ hr]
 rcases Zos hk with e|e|e|e|e|e|e|e|e
 ·have hr:=h (by unfold Zlx at e;simp only[Bool.or_eq_true,beq_iff_eq]at e;have:i.op=1\/i.op=16\/i.op=17\/i.op=19\/i.op=20:=oM;rcases this with q|q|q|q|q<;>rw[q]<;>decide);rw[Znu e];unfold rdP;simp only[Int.toNat_natCast,Zmn _ _ hr]
 ·have hr:=h (by unfold Zjv at e;simp only[Bool.or_eq_true,Bool.and_eq_true,beq_iff_eq,decide_eq_true_eq]at e;have:i.op=2\/i.op=18\/i.op=21\/i.op=22\/i.op=23\/i.op=24\/i.op=25\/i.op=26\/i.op=27\/i.op=28:=oM;rcases this with q|q|q|q|q|q|q|q|q|q<;>rw[q]<;>decide);rw[Zmj e];unfold rdP;simp only[Int.toNat_natCast,Zmn _ _ hr]
 ·have hr:=h (by rw[e];decide);rw[Zop e];unfold rdP;simp only[Int.toNat_natCast,Zmn _ _ hr]
 ·have hr:=h (by rw[e];decide);rw[Zow e];unfold rdP;simp only[Int.toNat_natCast,Zmn _ _ hr]
 ·rw[Zot e];rfl
 ·rw[Zov e];exact hst _ (by rw[e];decide)
 ·rw[Zpb e];rfl
 ·rw[Zky e]
 ·have hd:(rowP i.op).d≠0:=by
   unfold Zji at e;simp only[Bool.and_eq_true,decide_eq_true_eq]at e;have:i.op=3\/i.op=4\/i.op=5\/i.op=6\/i.op=7\/i.op=8\/i.op=9\/i.op=10\/i.op=11\/i.op=12\/i.op=13\/i.op=14\/i.op=15:=oM;rcases this with q|q|q|q|q|q|q|q|q|q|q|q|q<;>rw[q]<;>decide
  rw[Zmd e];unfold Zll;split
  ·unfold rdP;simp only[Int.toNat_natCast,Zmn _ _ (h hd)]
  ·exact hst _ hd
end
structure RelR(c:Cd)(f:Fr)(X S O:List Cl):Prop where
 xl:X.length=c.regs.length
 xok:∀x∈X,(∀y∈x.h.pats,IsP y)/\x.h.pats.length<=4096/\0<=x.h.whole/\x.h.whole<=2147483647
 sl:S.map (·.h)=f.slots
 sz:∀j (h:j<c.slots.length),c.slots[j].ty.kind≠2->((f.slots[j]?).getD ⟨[],0⟩).whole=0
 ol:O.length=2*c.sign.length
 oo:∀p n:Nat,p<c.sign.length->n<Zia c (p:Int)->∃o,O[2*p+n]? =some o/\o.h.pats.length=lenOf c (p:Int)/\(∀y∈o.h.pats,IsP y)/\∀e,e<lenOf c (p:Int)->atL o.h.pats e=f.outs p (Zia c (p:Int)*e+n)
def KnR(c:Cd)(f:Fr)(X:List Cl)(r:Nat):Prop:=∃x,X[r]? =some x/\x.h=rdP c f (r:Int)
def Did(c:Cd)(G P:List (List Int))(f:Fr)(i:Ins)(X S O X' S' O':List Cl):Prop:=
 ((rowP i.op).d≠0/\(∃x,X'=X.set i.d.toNat x/\x.h=valI c G P f i)/\S'=S/\O'=O)
 \/(i.op=33/\X'=X/\(∃x,X[i.a.toNat]? =some x/\S'=S.set i.n.toNat x)/\O'=O)
 \/(i.op=31/\X'=X/\S'=S/\∃x,X[i.a.toNat]? =some x/\O'=O.set (2*(regT c.regs i.a).par.toNat+i.n.toNat) x)
 \/((34<=i.op/\i.op<=37)/\X'=X/\S'=S/\O'=O)
theorem Zadc{op:Int}(hk:Zih op=true):(rowP op).d≠0↔op≠31/\op≠33/\¬ (34<=op/\op<=37):=by
 unfold Zih at hk;simp only[Bool.and_eq_true,decide_eq_true_eq]at hk;have:op∈(List.range 38).map (fun n:Nat=>(n:Int)):=by
  rw[List.mem_map];exact⟨op.toNat,by rw[List.mem_range];omega,oM⟩
 have h0:op≠0:=oM;revert h0;revert op;intro op hk;simp only[List.range,List.range.loop,List.map_cons,List.map_nil,List.mem_cons,List.not_mem_nil,or_false];intro h h0;rcases h with h|h|h|h|h|h|h|h|h|h|h|h|h|h|h|h|h|h|h|h|h|h|h|h|h|h|h|h|h|h|h|h|h|h|h|h|h|h<;>(rw[h]at h0 ⊢;revert h0;decide)
theorem Zpu{c:Cd}{G P:List (List Int)}{f:Fr}{i:Ins}(hk:Zih i.op=true):(i.op≠33->(doI c G P f i).slots=f.slots)/\(i.op≠31->(doI c G P f i).outs=f.outs):=by
 have hst:∀r h,(stP c f r h).slots=f.slots/\(stP c f r h).outs=f.outs:=fun r h=>by
  unfold stP;split
  ·exact⟨rfl,rfl⟩
  ·split
   ·exact⟨rfl,rfl⟩
   ·exact⟨rfl,rfl⟩
 rcases Zos hk with e|e|e|e|e|e|e|e|e
 ·rw[Znu e];exact⟨fun _=>rfl,fun _=>rfl⟩
 ·rw[Zmj e];exact⟨fun _=>rfl,fun _=>rfl⟩
 ·rw[Zop e];exact⟨fun _=>rfl,fun _=>rfl⟩
 ·rw[Zow e];exact⟨fun _=>rfl,fun _=>rfl⟩
 ·exact⟨fun _=>by rw[Zot e],fun h=>absurd e h⟩
 ·rw[Zov e];exact⟨fun _=>(hst _ _).1,fun _=>(hst _ _).2⟩
 ·exact⟨fun h=>absurd e h,fun _=>by rw[Zpb e]⟩
 ·rw[Zky e];exact⟨fun _=>rfl,fun _=>rfl⟩
 ·rw[Zmd e];unfold Zll;split
  ·exact⟨fun _=>rfl,fun _=>rfl⟩
  ·exact⟨fun _=>(hst _ _).1,fun _=>(hst _ _).2⟩
end Go.Proofs.YtbinohkcolcbfaaGreat
set_option maxRecDepth 100000
set_option maxHeartbeats 16000000
namespace Go.Proofs.YtbinohkcolcbfaaGreat
open Go.RowKit Go.Proofs.Tryz
set_option linter.unusedVariables false
set_option linter.unusedSimpArgs false
def NumT(T:Nat->Prop)(w:World)(p:Option Addr)(l:List Int):Prop:=l=[] \/∃b o,p=some ⟨b,o,none⟩/\¬T b/\b<w.heap.size/\∀j,j<l.length->w.cell? ⟨b,o+j,none⟩=some (.int .i64 (atL l j))
section
variable {T U : Nat -> Prop} {w w' : World} {p : Option Addr} {l : List Int}
theorem NumT.num(h:NumT T w p l):NumR w p l:=by
 rcases h with rfl|⟨b,o,e,-,-,h⟩
 ·exact .inl rfl
 ·exact .inr ⟨b,o,e,h⟩
theorem NumT.un(h:NumT T w p l)(q:Un U w w')(hu:∀b,b<w.heap.size->U b->T b):NumT T w' p l:=
 h.imp id fun⟨b,o,e,ht,hb,h⟩=>⟨b,o,e,ht,Nat.lt_of_lt_of_le hb q.size,fun j hj=>(World.cell?_of_block (q.block b hb fun k=>ht (hu b hb k))).trans (h j hj)⟩
theorem NumT.below(h:NumT T w p l)(q:Below w.heap.size w w'):NumT T w' p l:=h.un (U:=fun _=>False) (Un.of q) (fun _ _ e=>e.elim)
theorem NumT.mono(h:NumT T w p l)(hu:∀b,b<w.heap.size->U b->T b):NumT U w p l:=
 h.imp id fun⟨b,o,e,ht,hb,h⟩=>⟨b,o,e,fun k=>ht (hu b hb k),hb,h⟩
theorem NumR.free{B:Nat}(h:NumR w p l)(hl:∀b o s,p=some ⟨b,o,s⟩->B<=b)(ht:∀b,T b->b<B):NumT T w p l:=by
 by_cases h0:l=[]
 ·exact .inl h0
 ·rcases h with h|⟨b,o,e,h⟩
  ·exact absurd (List.length_eq_zero_iff.1 h) h0
  ·have:=List.length_pos_iff.2 h0;exact .inr ⟨b,o,e,fun k=>by have h1:=ht b k;have h2:=hl b o none e;omega,Zhr (h 0 this),h⟩
end
structure CsT(T:Nat->Prop)(w:World)(v:Value)(X:List Cl):Prop where
 row:RowT T 2 clC w v X
 nums:∀x∈X,NumT T w x.p x.h.pats
structure OuT(T:Nat->Prop)(w:World)(v:Value)(X:List Cl):Prop where
 row:RowT T 1 ouC w v X
 nums:∀x∈X,NumT T w x.p x.h.pats
section
variable {T U : Nat -> Prop} {w w' : World} {v : Value} {X : List Cl}
theorem CsT.cs(h:CsT T w v X):CsV w v X:=⟨h.row.row,fun x hx=>(h.nums x hx).num⟩
theorem CsT.un(h:CsT T w v X)(q:Un U w w')(hu:∀b,b<w.heap.size->U b->T b):CsT T w' v X:=⟨h.row.un q hu,fun x hx=>(h.nums x hx).un q hu⟩
theorem CsT.below(h:CsT T w v X)(q:Below w.heap.size w w'):CsT T w' v X:=⟨h.row.below q,fun x hx=>(h.nums x hx).below q⟩
theorem CsT.mono(h:CsT T w v X)(hu:∀b,b<w.heap.size->U b->T b):CsT U w v X:=⟨h.row.mono hu,fun x hx=>(h.nums x hx).mono hu⟩
theorem OuT.un(h:OuT T w v X)(q:Un U w w')(hu:∀b,b<w.heap.size->U b->T b):OuT T w' v X:=⟨h.row.un q hu,fun x hx=>(h.nums x hx).un q hu⟩
theorem OuT.below(h:OuT T w v X)(q:Below w.heap.size w w'):OuT T w' v X:=⟨h.row.below q,fun x hx=>(h.nums x hx).below q⟩
theorem OuT.mono(h:OuT T w v X)(hu:∀b,b<w.heap.size->U b->T b):OuT U w v X:=⟨h.row.mono hu,fun x hx=>(h.nums x hx).mono hu⟩
end
theorem Zsz{α:Type}{f:α->List Value}{k:Nat}(hf:∀x,(f x).length=k){w:World}{B:Nat}{t:TypeId}{v:Value}{l:List α}(h:w.ownsRow B t k v l.length (flat f l)){T:Nat->Prop}(ht:∀b,T b->b<B):RowT T k f w v l:=by
 have hr:=Zoc hf h;obtain⟨p,c,rfl,hr⟩:=hr;refine⟨p,c,rfl,hr.imp id fun⟨b,o,e,hc⟩=>⟨b,o,e,fun k=>?_,?_,hc⟩⟩
 ·have h1:=Zob h b o none e;have h2:=ht b k;omega
 ·subst e;exact(h.lt b rfl).2
theorem Zyt(x:Cl):∀ (X:List Cl) (d:Nat),d<X.length->((flat clC X).set (d*2) (.slice x.p x.h.pats.length x.q)).set (d*2+1) (.int .i64 x.h.whole)=flat clC (X.set d x)
 |[],d,h=>by simp at h
 |y::X,0,h=>rfl
 |y::X,d+1,h=>by
  have ih:=Zyt x X d Zgb;have e:flat clC (y::X)=.slice y.p y.h.pats.length y.q:: .int .i64 y.h.whole::flat clC X:=rfl;rw[e,show(d+1)*2=d*2+1+1 by omega];simp only[List.set_cons_succ];rw[ih];rfl
theorem rput_T{T:Nat->Prop}(v:Value)(X:List Cl)(hX:X.length<=16384)(d:Nat)(hd:d<X.length)(x:Cl)(w:World)(hT:∀b,T b->b<w.heap.size)(h:CsT T w v X)(hx:NumT T w x.p x.h.pats):
 Calls prog 86 #[v,.int .i64 (d:Int),.agg #[.slice x.p x.h.pats.length x.q,.int .i64 x.h.whole]] w fun e w'=>∃p q,e=.returned (.slice p X.length q)/\CsT T w' (.slice p X.length q) (X.set d x)/\Below w.heap.size w w':=by
 obtain⟨i0,hi0,hz0,hz1,hz2⟩:=info_parts Ztp;have hb0:=Zhq w (.cells #[.slice x.p x.h.pats.length x.q,.int .i64 x.h.whole] 84);obtain⟨u,w',hr,hb,hown⟩:=Zoo dE Zrv Zagd underlying36 hi0 hz0 hz1 hz2 rfl (h.row.row.below hb0) mL oM 36;obtain⟨g,cap,rfl,hg,hgl⟩:=hown.form oM;have hs0:(w.alloc (.cells #[.slice x.p x.h.pats.length x.q,.int .i64 x.h.whole] 84)).heap.size=w.heap.size+1:=sM;have s1:=hown.stored (d*2) (.slice x.p x.h.pats.length x.q);have s2:=s1.1.stored (d*2+1) (.int .i64 x.h.whole);have hfin:=s2.1;rw[Zyt x X d hd]at hfin;have hfl:(flat clC X).length=X.length*2:=Zoq Zrv X;have y0:∃z,w'.cell? ⟨g,d*2,none⟩=some z:=by
  refine⟨(flat clC X)[d*2]'oM,?_⟩;rw[hown.cellAt (d*2) oM,List.getElem?_eq_getElem]
 have y1:∃z,w'.cell? ⟨g,d*2+1,none⟩=some z:=by
  refine⟨(flat clC X)[d*2+1]'oM,?_⟩;rw[hown.cellAt (d*2+1) oM,List.getElem?_eq_getElem]
 have f0:=hown.frozenAt (d*2);have f1:=hown.frozenAt (d*2+1);have c0:w'.cell? ⟨w.heap.size,0,none⟩=some (.slice x.p x.h.pats.length x.q):=kc hb sG;have c1:w'.cell? ⟨w.heap.size,1,none⟩=some (.int .i64 x.h.whole):=kc hb sG;obtain⟨z0,y0⟩:=y0;obtain⟨z1,y1⟩:=y1;have hbF:Below w.heap.size w ((w'.setCell ⟨g,d*2,none⟩ (.slice x.p x.h.pats.length x.q)).setCell ⟨g,d*2+1,none⟩ (.int .i64 x.h.whole)):=((bel hb0 hb).setCell Zhl _).setCell Zhl _;have HFIN:Hid (CsT T ((w'.setCell ⟨g,d*2,none⟩ (.slice x.p x.h.pats.length x.q)).setCell ⟨g,d*2+1,none⟩ (.int .i64 x.h.whole)) (.slice (some ⟨g,0,none⟩) X.length cap) (X.set d x)/\Below w.heap.size w ((w'.setCell ⟨g,d*2,none⟩ (.slice x.p x.h.pats.length x.q)).setCell ⟨g,d*2+1,none⟩ (.int .i64 x.h.whole))):=by
  refine⟨⟨Zsz Zrv (by rw[List.length_set];exact hfin) (fun b hb=>by have:=hT b hb;omega),fun y hy=>?_⟩,hbF⟩;rcases List.mem_or_eq_of_mem_set hy with e|rfl
  ·exact(h.nums y e).below hbF
  ·exact hx.below hbF
 have HR:Hid _:=hr;obtain⟨p,q,rfl,-⟩:=id h.row;obtain⟨N,hN⟩:∃N,X.length=N:=⟨_,rfl⟩
 rw[hN]at hd hX HR HFIN ⊢;have d0:(0:Int)<=(d:Int):=oM;have d1:(d:Int)<(N:Int):=oM;clear hr hb hown s1 s2 hfin hfl hbF h hN hT;go_enter func86,ntmps86;go_wp2_with(at_builtin;refine Zir rF _ _ _ rF _ _ _ rF rF HR.out ?_);go_ret;exact⟨_,_,rfl,HFIN.out.1,HFIN.out.2⟩
def f10(a b c d e f g h i j:Value)(k:Nat):Value:=if k=0 then a else if k=1 then b else if k=2 then c else if k=3 then d else if k=4 then e else if k=5 then f else if k=6 then g else if k=7 then h else if k=8 then i else j
theorem Zwa(a b c d e f g h i j:Value):∀k,k<(#[a,b,c,d,e,f,g,h,i,j]:Array Value).size->(#[a,b,c,d,e,f,g,h,i,j]:Array Value)[k]? =some (f10 a b c d e f g h i j k):=by
 intro k hk;have hk':k<10:=hk;obtain rfl|rfl|rfl|rfl|rfl|rfl|rfl|rfl|rfl|rfl:k=0\/k=1\/k=2\/k=3\/k=4\/k=5\/k=6\/k=7\/k=8\/k=9:=oM
 all_goals rfl
def f7(a b c d e f g:Value)(k:Nat):Value:=if k=0 then a else if k=1 then b else if k=2 then c else if k=3 then d else if k=4 then e else if k=5 then f else g
theorem f7_ok(a b c d e f g:Value):∀k,k<(#[a,b,c,d,e,f,g]:Array Value).size->(#[a,b,c,d,e,f,g]:Array Value)[k]? =some (f7 a b c d e f g k):=by
 intro k hk;have hk':k<7:=hk;obtain rfl|rfl|rfl|rfl|rfl|rfl|rfl:k=0\/k=1\/k=2\/k=3\/k=4\/k=5\/k=6:=oM
 all_goals rfl
def f2(a b:Value)(k:Nat):Value:=if k=0 then a else b
theorem f2_ok(a b:Value):∀k,k<(#[a,b]:Array Value).size->(#[a,b]:Array Value)[k]? =some (f2 a b k):=by
 intro k hk;have hk':k<2:=hk;obtain rfl|rfl:k=0\/k=1:=oM
 all_goals rfl
structure DW(w:World)(F I D:Nat->Value)(v:World):Prop where
 bel:Below w.heap.size w v
 f:v.rowIs w.heap.size 125 10 F
 i:v.rowIs (w.heap.size+1) 45 7 I
 r:v.rowIs (w.heap.size+1+1) 125 10 (f10 (.slice none 0 0) (.slice none 0 0) (.slice none 0 0) (.slice none 0 0) (.slice none 0 0) (.slice none 0 0) (.slice none 0 0) (.slice none 0 0) (.slice none 0 0) (.int .i64 0))
 d:v.rowIs (w.heap.size+1+1+1) 84 2 D
theorem DW.next{w:World}{F I D:Nat->Value}{v v':World}(h:DW w F I D v)(k:Below v.heap.size v v'):DW w F I D v':=
 ⟨Go.Proofs.YtbinohkcolcbfaaGreat.bel h.bel k,h.f.of_block (k.block _ h.f.lt),h.i.of_block (k.block _ h.i.lt),h.r.of_block (k.block _ h.r.lt),h.d.of_block (k.block _ h.d.lt)⟩
theorem DW.size{w:World}{F I D:Nat->Value}{v:World}(h:DW w F I D v):w.heap.size+1+1+1<v.heap.size:=h.d.lt
theorem DW.put{w:World}{F I D:Nat->Value}{v:World}(h:DW w F I D v)(i:Nat)(x:Value):DW w F I (fun j=>if j=i then x else D j) (v.setCell ⟨w.heap.size+1+1+1,i,none⟩ x):=
 ⟨h.bel.setCell (by show w.heap.size<=w.heap.size+1+1+1;omega) _,h.f.setOther (by show w.heap.size≠w.heap.size+1+1+1;omega) _,h.i.setOther (by show w.heap.size+1≠w.heap.size+1+1+1;omega) _,h.r.setOther (by show w.heap.size+1+1≠w.heap.size+1+1+1;omega) _,h.d.set i x⟩
theorem DW.congr{w:World}{F I D D':Nat->Value}{v:World}(h:DW w F I D v)(k:∀j,j<2->D j=D' j):DW w F I D' v:=⟨h.bel,h.f,h.i,h.r,h.d.congr k⟩
theorem DW.start(w:World)(a0 a1 a2 a3 a4 a5 a6 a7 a8 a9 b0 b1 b2 b3 b4 b5 b6:Value):DW w (f10 a0 a1 a2 a3 a4 a5 a6 a7 a8 a9) (f7 b0 b1 b2 b3 b4 b5 b6) (f2 (.slice none 0 0) (.int .i64 0)) ((((w.alloc (.cells #[a0,a1,a2,a3,a4,a5,a6,a7,a8,a9] 125)).alloc (.cells #[b0,b1,b2,b3,b4,b5,b6] 45)).alloc (.cells #[.slice none 0 0,.slice none 0 0,.slice none 0 0,.slice none 0 0,.slice none 0 0,.slice none 0 0,.slice none 0 0,.slice none 0 0,.slice none 0 0,.int .i64 0] 125)).alloc (.cells #[.slice none 0 0,.int .i64 0] 84)):=by
 have r1:=World.rowIs_alloc w #[a0,a1,a2,a3,a4,a5,a6,a7,a8,a9] 125 _ (Zwa _ _ _ _ _ _ _ _ _ _);have r2:=World.rowIs_alloc (w.alloc (.cells #[a0,a1,a2,a3,a4,a5,a6,a7,a8,a9] 125)) #[b0,b1,b2,b3,b4,b5,b6] 45 _ (f7_ok _ _ _ _ _ _ _);have r3:=World.rowIs_alloc ((w.alloc (.cells #[a0,a1,a2,a3,a4,a5,a6,a7,a8,a9] 125)).alloc (.cells #[b0,b1,b2,b3,b4,b5,b6] 45)) #[.slice none 0 0,.slice none 0 0,.slice none 0 0,.slice none 0 0,.slice none 0 0,.slice none 0 0,.slice none 0 0,.slice none 0 0,.slice none 0 0,.int .i64 0] 125 _ (Zwa _ _ _ _ _ _ _ _ _ _);have r4:=World.rowIs_alloc (((w.alloc (.cells #[a0,a1,a2,a3,a4,a5,a6,a7,a8,a9] 125)).alloc (.cells #[b0,b1,b2,b3,b4,b5,b6] 45)).alloc (.cells #[.slice none 0 0,.slice none 0 0,.slice none 0 0,.slice none 0 0,.slice none 0 0,.slice none 0 0,.slice none 0 0,.slice none 0 0,.slice none 0 0,.int .i64 0] 125)) #[.slice none 0 0,.int .i64 0] 84 _ (f2_ok _ _);simp only[World.size_alloc]at r2 r3 r4;exact⟨Go.Proofs.YtbinohkcolcbfaaGreat.bel (Zhq _ _) (Go.Proofs.YtbinohkcolcbfaaGreat.bel (Zhq _ _) (Go.Proofs.YtbinohkcolcbfaaGreat.bel (Zhq _ _) (Zhq _ _))),((r1.alloc _).alloc _).alloc _,(r2.alloc _).alloc _,r3.alloc _,r4⟩
end Go.Proofs.YtbinohkcolcbfaaGreat
namespace Go.Proofs.YtbinohkcolcbfaaGreat
open Go.RowKit Go.Proofs.Tryz
set_option linter.unusedVariables false
set_option linter.unusedSimpArgs false
set_option maxRecDepth 100000
set_option maxHeartbeats 16000000
theorem kn_a{c:Cd}{f:Fr}{X:List Cl}{i:Ins}(kn:∀r∈Zid i (rowP i.op),KnR c f X r.toNat)(h:(rowP i.op).a≠0){x:Cl}(hx:X[i.a.toNat]? =some x)(h0:0<=i.a):x.h=rdP c f i.a:=by
 obtain⟨y,hy,e⟩:=kn i.a (mem_a h);rw[hx]at hy;cases hy
 rw[e,show((i.a.toNat:Nat):Int)=i.a by omega]
theorem Zajt{c:Cd}{f:Fr}{r:Int}(h:(regT c.regs r).kind≠2):(rdP c f r).whole=0:=by
 unfold rdP;split
 ·rfl
 ·rfl
theorem Zxs{c:Cd}(hg:Good c){r:Int}(h0:0<=r)(h1:r<(c.regs.length:Int))(h3:(regT c.regs r).kind=3):∃p:Nat,(regT c.regs r).par=(p:Int)/\p<c.sign.length:=by
 obtain⟨j,rfl⟩:∃j:Nat,r=(j:Int):=⟨r.toNat,oM⟩
 have hr:j<c.regs.length:=oM;rw[Zkc hr]at h3 ⊢;exact Zly (hg.type (List.getElem_mem hr) h3)
theorem did_rel{c:Cd}{G P:List (List Int)}{f:Fr}{i:Ins}{s:Wk}{X S O X' S' O':List Cl}(hg:Good c)(ok:OkF c f)(t:Ziz c s i=true)(hb:IsP i.bits)(fg:FitV c G)(fp:FitV c P)(nd:Zlj c f i)(rel:RelR c f X S O)(kn:∀r∈Zid i (rowP i.op),KnR c f X r.toNat)(did:Did c G P f i X S O X' S' O'):
 RelR c (doI c G P f i) X' S' O'/\∀r,(((rowP i.op).d≠0->r≠i.d.toNat)->KnR c f X r)->r<c.regs.length->KnR c (doI c G P f i) X' r:=by
 obtain⟨hk,h2,_,_⟩:=Zju t;have hok:OkF c (doI c G P f i):=do_ok hg ok hk hb nd fg fp;rcases did with⟨hd,⟨x,rfl,hx⟩,rfl,rfl⟩|⟨h33,rfl,⟨x,hxa,rfl⟩,rfl⟩|⟨h31,rfl,rfl,x,hxa,rfl⟩|⟨hm,rfl,rfl,rfl⟩
 ·have hop:=(Zadc hk).1 hd;obtain⟨d0,d1⟩:=Zie (Znv h2) hd;have hso:Zls c (doI c G P f i) i.d.toNat:=do_set hg ok hk nd fun h=>by
   rcases h with h|h
   ·exact absurd h hd
   ·exact absurd rfl h
  have hh:=rd_ok hg hok d0 d1 hso;have hsl:(doI c G P f i).slots=f.slots:=(Zpu hk).1 hop.2.1;have hou:(doI c G P f i).outs=f.outs:=(Zpu hk).2 hop.1;refine⟨⟨by rw[List.length_set];exact rel.xl,fun y hy=>?_,by rw[hsl];exact rel.sl,by rw[hsl];exact rel.sz,rel.ol,by rw[hou];exact rel.oo⟩,fun r hr hrl=>?_⟩
  ·rcases List.mem_or_eq_of_mem_set hy with e|rfl
   ·exact rel.xok y e
   ·rw[hx];refine⟨hh.2.1,?_,hh.2.2⟩;show(rdP c (doI c G P f i) i.d).pats.length<=4096;rw[hh.1];exact hg.width _
  ·by_cases e:r=i.d.toNat
   ·subst e;have hl:i.d.toNat<X.length:=by rw[rel.xl];omega
    refine⟨x,by rw[List.getElem?_set_self hl],?_⟩;rw[hx,show((i.d.toNat:Nat):Int)=i.d by omega];rfl
   ·obtain⟨y,hy,hye⟩:=hr fun _=>e;exact⟨y,by rw[List.getElem?_set_ne (fun q=>e q.symm)];exact hy,by rw[hye,Zxf hk r fun _=>e]⟩
 ·have hd:¬ (rowP i.op).d≠0:=by rw[h33];decide
  obtain⟨a0,a1,n0,n1,ht,hs⟩:=nd.store h33;have hxh:x.h=rdP c f i.a:=kn_a kn (by rw[h33];decide) hxa a0;have hou:(doI c G P f i).outs=f.outs:=(Zpu hk).2 oM;have hsl:(doI c G P f i).slots=f.slots.set i.n.toNat (rdP c f i.a):=by rw[Zpb h33]
  refine⟨⟨rel.xl,rel.xok,by rw[hsl,List.map_set,rel.sl,hxh],fun j hj hkd=>?_,rel.ol,by rw[hou];exact rel.oo⟩,fun r hr _=>?_⟩
  ·rw[hsl];by_cases e:j=i.n.toNat
   ·subst e;have hl:i.n.toNat<f.slots.length:=by rw[ok.slotsL];exact hj
    rw[List.getElem?_set_self hl,Option.getD_some];refine Zajt ?_;rw[←ht];unfold slotT;rw[List.getElem?_eq_getElem hj];exact hkd
   ·rw[List.getElem?_set_ne (fun q=>e q.symm)];exact rel.sz j hj hkd
  ·obtain⟨y,hy,hye⟩:=hr fun q=>absurd q hd;exact⟨y,hy,by rw[hye,Zxf hk r fun q=>absurd q hd]⟩
 ·have hd:¬ (rowP i.op).d≠0:=by rw[h31];decide
  obtain⟨hp,hlen⟩:=nd.out h31;have hxh:x.h=rdP c f i.a:=kn_a kn (by rw[h31];decide) hxa hp.r0;have hxv:x.h=⟨f.vecs i.a.toNat,0⟩:=by
   rw[hxh];unfold rdP;rw[if_neg (by rw[hp.kind];decide),if_neg (by rw[hp.kind];decide)]
  have hsl:(doI c G P f i).slots=f.slots:=(Zpu hk).1 oM;obtain⟨p,hpp,hpl⟩:=Zxs hg hp.r0 hp.r1 hp.kind;have hn0:=hp.n0;have hou:(doI c G P f i).outs=outP f.outs p (Zia c (p:Int)) i.n.toNat (f.vecs i.a.toNat):=by rw[Zot h31,hpp,Int.toNat_natCast]
  rw[hpp]at hlen hn0;rw[hpp,Int.toNat_natCast];have hnk:i.n.toNat<Zia c (p:Int):=by
   unfold Zia;rcases hn0 with e|⟨e,e2⟩
   ·rw[e];split<;>decide
   ·rw[e,if_pos e2];decide
  have hap:Zia c (p:Int)<=2:=by unfold Zia;split<;>decide
  refine⟨⟨rel.xl,rel.xok,by rw[hsl];exact rel.sl,by rw[hsl];exact rel.sz,by rw[List.length_set];exact rel.ol,fun q n hq hn=>?_⟩,fun r hr _=>?_⟩
  ·obtain⟨o,h1,h3,h4,h5⟩:=rel.oo q n hq hn;have hq2:Zia c (q:Int)<=2:=by unfold Zia;split<;>decide
   rw[hou];by_cases e:2*q+n=2*p+i.n.toNat
   ·have eq:q=p:=oM;have en:n=i.n.toNat:=oM;subst eq;have hol:2*q+i.n.toNat<O.length:=by rw[rel.ol];omega
    refine⟨x,by rw[e,List.getElem?_set_self hol],by rw[hxv];exact hlen,by rw[hxv];exact ok.vecs _,fun j hj=>?_⟩;rw[hxv];unfold outP;have hK:0<Zia c (q:Int):=oM;have e1:(Zia c (q:Int)*j+n)%Zia c (q:Int)=n:=by rw[Nat.mul_add_mod,Nat.mod_eq_of_lt hn]
    have e2:(Zia c (q:Int)*j+n)/Zia c (q:Int)=j:=by rw[Nat.mul_add_div hK,Nat.div_eq_of_lt hn,Nat.add_zero]
    rw[if_pos ⟨rfl,by rw[e1,en],by rw[e2,hlen];exact hj⟩,e2]
   ·refine⟨o,by rw[List.getElem?_set_ne (fun q=>e q.symm)];exact h1,h3,h4,fun j hj=>?_⟩;rw[h5 j hj];unfold outP;rw[if_neg];rintro⟨e1,e2,-⟩;subst e1;have e3:(Zia c (q:Int)*j+n)%Zia c (q:Int)=n:=by rw[Nat.mul_add_mod,Nat.mod_eq_of_lt hn]
    rw[e3]at e2;exact e (by rw[e2])
  ·obtain⟨y,hy,hye⟩:=hr fun q=>absurd q hd;exact⟨y,hy,by rw[hye,Zxf hk r fun q=>absurd q hd]⟩
 ·rw[Zky hm];exact⟨rel,fun r hr _=>hr fun q=>absurd hm ((Zadc hk).1 q).2.2⟩
def SkipQ(Q:Nat->Prop)(s:Wk)(k:Nat):Prop:=
 (k=0/\∀r∈s.set,Q r)\/(∃pre b rest,s.opens=pre++b::rest/\b.loop=false/\k=(pre.filter fun x=> !x.loop).length+1/\∀r∈s.set.take b.ahead,Q r)
theorem Zzr{c:Cd}{G P:List (List Int)}{s:Wk}{f:Fr}{k:Nat}{i:Ins}{Q Q':Nat->Prop}(oks:OkS c.regs.length s)(t:Ziz c s i=true)(sk:SkipQ Q s k)(hdo:k=0->i.op≠34->∀r∈(Zib s i).set,Q' r)(hno:k≠0\/i.op=34->∀r,Q r->Q' r):SkipQ Q' (Zib s i) (Zjm c G P (f,k) i).2:=by
 obtain⟨hkn,_,hst,_⟩:=Zju t;rcases sk with⟨rfl,hs⟩|⟨pre,b,rest,ho,hbl,rfl,hs⟩
 ·by_cases h34:i.op=34
  ·rw[Zvk h34];by_cases hz:f.whs i.a.toNat=0
   ·rw[Zrs c G P f 0 h34 (.inr hz)];exact .inr ⟨[],⟨false,i.n,s.set.length⟩,s.opens,rfl,rfl,rfl,fun r hr=>hno (.inr h34) r (hs r (List.mem_of_mem_take hr))⟩
   ·rw[Zry c G P f (fun e=>hz e.2)];exact .inl ⟨rfl,fun r hr=>hno (.inr h34) r (hs r hr)⟩
  ·rw[Zry c G P f (fun e=>h34 e.1)];exact .inl ⟨rfl,hdo rfl h34⟩
 ·obtain⟨hah,hpre⟩:=Zabh (by have:=oks.opens;rw[ho]at this;exact this);have hs':∀r∈s.set.take b.ahead,Q' r:=fun r hr=>hno (.inl oM) r (hs r hr);obtain⟨K,hK⟩:∃K,(pre.filter fun x=> !x.loop).length=K:=⟨_,rfl⟩
  rw[hK];by_cases h34:i.op=34
  ·rw[Zrs c G P f (K+1) h34 (.inl oM),Zvk h34];refine .inr ⟨⟨false,i.n,s.set.length⟩::pre,b,rest,by rw[ho];rfl,hbl,?_,hs'⟩;rw[List.filter_cons_of_pos rfl,List.length_cons,hK]
  ·by_cases h35:i.op=35
   ·rw[Zach c G P f K h35,Zse (.inl h35)];have hnl:Zim s=false:=by
     exact Zfg
    unfold Zim at hnl;unfold Zix;rw[ho]at hnl ⊢;cases pre with
    |nil=>
     simp only[List.nil_append]at hnl ⊢;simp at hK;refine .inl ⟨hK.symm,fun r hr=>hs' r ?_⟩;rw[hbl]at hr;simpa using hr
    |cons p pre=>
     simp only[List.cons_append]at hnl ⊢;have hp:=hpre p sM;refine .inr ⟨pre,b,rest,rfl,hbl,?_,fun r hr=>hs' r ?_⟩
     ·rw[List.filter_cons_of_pos (by rw[hnl];rfl),List.length_cons]at hK;omega
     ·rw[hnl]at hr;simp only[Bool.false_eq_true,if_false,List.take_take]at hr;rw[Nat.min_eq_left hp]at hr;exact hr
   ·rw[Zaal c G P f K h34 h35];by_cases h36:i.op=36
    ·rw[Zvr h36];refine .inr ⟨⟨true,i.n,s.set.length⟩::pre,b,rest,by rw[ho];rfl,hbl,?_,hs'⟩;rw[List.filter_cons_of_neg sM,hK]
    ·by_cases h37:i.op=37
     ·rw[Zse (.inr h37)];have hnl:Zim s=true:=by
       unfold Ziw at hst;rw[if_neg oM,if_neg oM,if_pos h37]at hst;exact hst
      unfold Zim at hnl;unfold Zix;rw[ho]at hnl ⊢;cases pre with
      |nil=>
       simp only[List.nil_append]at hnl;rw[hbl]at hnl;cases hnl
      |cons p pre=>
       simp only[List.cons_append]at hnl ⊢;refine .inr ⟨pre,b,rest,rfl,hbl,?_,fun r hr=>hs' r ?_⟩
       ·rw[List.filter_cons_of_neg (by rw[hnl];decide)]at hK;omega
       ·rw[hnl]at hr;simpa using hr
     ·rw[Zqb h34 h35 h36 h37];obtain⟨h1,h2⟩:=Zabc (i:=i) (r:=rowP i.op) hah;exact .inr ⟨pre,b,rest,by rw[h2];exact ho,hbl,by rw[hK],fun r hr=>hs' r (by rw[h1]at hr;exact hr)⟩
structure PlI(c:Cd)(G P:List (List Int))(f0:Fr)(j k:Nat)(f:Fr)(s:Wk)(X S O:List Cl):Prop where
 go:goI c G P (f0,0) (c.list.take j)=(f,k)
 ok:OkF c f
 oks:OkS c.regs.length s
 sk:Zwf c s f k
 tk:Zld c s (c.list.drop j)=true
 rel:RelR c f X S O
 kn:SkipQ (KnR c f X) s k
theorem PlI.taken{c:Cd}{G P:List (List Int)}{f0:Fr}{j k:Nat}{f:Fr}{s:Wk}{X S O:List Cl}(g:PlI c G P f0 j k f s X S O)(hj:j<c.list.length):Ziz c s c.list[j]=true/\Zld c (Zib s c.list[j]) (c.list.drop (j+1))=true:=by
 have:=g.tk;rw[List.drop_eq_getElem_cons hj]at this;unfold Zld at this;simpa using this
theorem PlI.pass{c:Cd}{G P:List (List Int)}{f0:Fr}{j k:Nat}{f:Fr}{s:Wk}{X S O:List Cl}(g:PlI c G P f0 j k f s X S O)(hg:Good c)(hbits:∀i∈c.list,IsP i.bits)(fg:FitV c G)(fp:FitV c P)(hj:j<c.list.length){k':Nat}(hn:Zjm c G P (f,k) c.list[j]=(f,k'))(hno:k≠0\/c.list[j].op=34):∃s',PlI c G P f0 (j+1) k' f s' X S O:=by
 obtain⟨t1,t2⟩:=g.taken hj;obtain⟨o1,o2⟩:=Zxm hg g.oks t1 g.ok (hbits _ (List.getElem_mem hj)) fg fp g.sk;have o3:=Zzr (G:=G) (P:=P) (f:=f) (Q':=KnR c f X) g.oks t1 g.kn (fun e1 e2=>by rcases hno with h|h;exact absurd e1 h;exact absurd h e2) (fun _ _ h=>h);rw[hn]at o1 o2 o3;exact⟨Zib s c.list[j],by rw[Zvb c G P _ _ hj,g.go];exact hn,o1,g.oks.step t1,o2,t2,g.rel,o3⟩
theorem PlI.need{c:Cd}{G P:List (List Int)}{f0:Fr}{j:Nat}{f:Fr}{s:Wk}{X S O:List Cl}(g:PlI c G P f0 j 0 f s X S O)(hj:j<c.list.length):Zlj c f c.list[j]/\(∀r∈Zid c.list[j] (rowP c.list[j].op),KnR c f X r.toNat):=by
 obtain⟨t1,t2⟩:=g.taken hj;have h1:∀r∈s.set,Zls c f r:=by
  rcases g.sk with⟨_,h⟩|⟨pre,b,rest,_,_,h,_⟩
  ·exact h
  ·omega
 have h2:∀r∈s.set,KnR c f X r:=by
  rcases g.kn with⟨_,h⟩|⟨pre,b,rest,_,_,h,_⟩
  ·exact h
  ·omega
 exact⟨Zxl t1 h1,fun r hr=>h2 _ (Zaco (Zju t1).2.2.2 hr)⟩
theorem PlI.did{c:Cd}{G P:List (List Int)}{f0:Fr}{j:Nat}{f:Fr}{s:Wk}{X S O X' S' O':List Cl}(g:PlI c G P f0 j 0 f s X S O)(hg:Good c)(hbits:∀i∈c.list,IsP i.bits)(fg:FitV c G)(fp:FitV c P)(hj:j<c.list.length)(hn:¬ (c.list[j].op=34/\f.whs c.list[j].a.toNat=0))(did:Did c G P f c.list[j] X S O X' S' O'):∃f' s',PlI c G P f0 (j+1) 0 f' s' X' S' O':=by
 obtain⟨t1,t2⟩:=g.taken hj;have hbi:=hbits _ (List.getElem_mem hj);obtain⟨o1,o2⟩:=Zxm hg g.oks t1 g.ok hbi fg fp g.sk;obtain⟨nd,hr⟩:=g.need hj;obtain⟨r1,r2⟩:=did_rel hg g.ok t1 hbi fg fp nd g.rel hr did;have hk:∀r∈s.set,KnR c f X r:=by
  rcases g.kn with⟨_,h⟩|⟨pre,b,rest,_,_,h,_⟩
  ·exact h
  ·omega
 have hoks:=g.oks.step t1;have o3:=Zzr (G:=G) (P:=P) (f:=f) (Q':=KnR c (doI c G P f c.list[j]) X') g.oks t1 g.kn (fun _ h34 r hr=>?_) (fun h r hr=>?_)
 ·rw[Zry c G P f hn]at o1 o2 o3;exact⟨doI c G P f c.list[j],Zib s c.list[j],by rw[Zvb c G P _ _ hj,g.go];exact Zry c G P f hn,o1,hoks,o2,t2,r1,o3⟩
 ·refine r2 r (fun hne=>hk r ?_) (hoks.lt r hr);by_cases h35:c.list[j].op=35\/c.list[j].op=37
  ·rw[Zse h35]at hr;exact Zyw hr
  ·by_cases h36:c.list[j].op=36
   ·rw[Zvr h36]at hr;exact hr
   ·rw[Zqb h34 oM h36 oM]at hr;rcases Zafo hr with h|⟨h,h'⟩
    ·exact h
    ·exact absurd h' (hne h)
 ·rcases h with h|h
  ·exact absurd rfl h
  ·obtain⟨y,hy,_⟩:=id hr;exact r2 r (fun _=>hr) (by have:=(List.getElem?_eq_some_iff.1 hy).1;rw[g.rel.xl]at this;exact this)
theorem Zwp{rs:List Ty}{l n:Int}{m:Ty}(h:Zhx rs l n m=true):0<=n:=by
 by_cases hl:l=0
 ·unfold Zhx at h;rw[if_pos hl]at h;simp only[beq_iff_eq]at h;omega
 ·exact(Zie h hl).1
theorem Zaow{f:Fr}{i:Ins}{a b d:Int}(ho:21<=i.op/\i.op<=28)(ha:a=f.whs i.a.toNat)(hb:(rowP i.op).b≠0->b=f.whs i.b.toNat)(hc:(rowP i.op).c≠0->d=f.whs i.c.toNat):Zlp i.op a b d=Znb f i:=by
 obtain⟨op,D,A,B,Ec,nn,bt⟩:=i;simp only at ho ha hb hc ⊢;subst ha;have:op=21\/op=22\/op=23\/op=24\/op=25\/op=26\/op=27\/op=28:=oM;rcases this with rfl|rfl|rfl|rfl|rfl|rfl|rfl|rfl
 ·show min (f.whs A.toNat+1) 2147483647=min (f.whs A.toNat) 2147483646+1;omega
 ·rw[hb dE];rfl
 ·rw[hb dE];rfl
 ·rw[hb dE];rfl
 ·rfl
 ·rw[hb dE,hc dE];rfl
 ·rw[hb dE];rfl
 ·rw[hb dE];rfl
theorem test_eq(x:Int):Zjb (x%2147483648 != 0&&decide (x%2147483648<=2139095040))=Zjb (fsel x 1065353216 0==1065353216):=by
 congr 1;unfold fsel;by_cases hn:nan x=true
 ·rw[hn];have:2139095040<x%2147483648:=by unfold nan at hn;simpa using hn
  have e:decide (x%2147483648<=2139095040)=false:=sO;rw[e,Bool.and_false,Bool.true_or];decide
 ·have hn':nan x=false:=by simpa using hn
  have:¬2139095040<x%2147483648:=by intro h;exact hn (by unfold nan;simpa using h)
  have e:decide (x%2147483648<=2139095040)=true:=sO;rw[hn',e,Bool.and_true];by_cases h0:x%2147483648=0
  ·rw[h0];decide
  ·have h1:(x%2147483648 != 0)=true:=by simpa using h0
   have h2:(x%2147483648==0)=false:=by simpa using h0
   rw[h1,h2];decide
theorem arg3_eq{c:Cd}{f:Fr}{i:Ins}{xa xb xc:Cl}(he:Zji i.op=true)(ha:xa.h=rdP c f i.a)(hb:(rowP i.op).b≠0->xb.h=rdP c f i.b)(hc:(rowP i.op).c≠0->xc.h=rdP c f i.c):arg3 xa.h.pats xb.h.pats xc.h.pats (Zjq i.op)=Zjh c f i:=by
 obtain⟨op,D,A,B,Ec,nn,bt⟩:=i;unfold Zji at he;simp only[Bool.and_eq_true,decide_eq_true_eq]at he ha hb hc ⊢;have:op=3\/op=4\/op=5\/op=6\/op=7\/op=8\/op=9\/op=10\/op=11\/op=12\/op=13\/op=14\/op=15:=oM;rcases this with rfl|rfl|rfl|rfl|rfl|rfl|rfl|rfl|rfl|rfl|rfl|rfl|rfl
 all_goals
  first
   |(rw[ha,hb dE,hc dE];rfl)
   |(rw[ha,hb dE];rfl)
   |(rw[ha];rfl)
theorem kn_r{c:Cd}{f:Fr}{X:List Cl}{i:Ins}(kn:∀r∈Zid i (rowP i.op),KnR c f X r.toNat){r:Int}(hr:r∈Zid i (rowP i.op))(h0:0<=r){x:Cl}(hx:X[r.toNat]? =some x):x.h=rdP c f r:=by
 obtain⟨y,hy,e⟩:=kn r hr;rw[hx]at hy;cases hy
 rw[e,show((r.toNat:Nat):Int)=r by omega]
theorem mem_b{i:Ins}{r:Rw}(h:r.b≠0):i.b∈Zid i r:=by unfold Zid;simp[h]
theorem mem_c{i:Ins}{r:Rw}(h:r.c≠0):i.c∈Zid i r:=by unfold Zid;simp[h]
theorem rd_1{c:Cd}{f:Fr}{r:Int}(h:(regT c.regs r).kind=1):rdP c f r=⟨[f.nums r.toNat],0⟩:=by unfold rdP;rw[if_pos h]
theorem rd_2{c:Cd}{f:Fr}{r:Int}(h:(regT c.regs r).kind=2):rdP c f r=⟨[],f.whs r.toNat⟩:=by unfold rdP;rw[if_neg oM,if_pos h]
theorem rd_3{c:Cd}{f:Fr}{r:Int}(h:(regT c.regs r).kind=3):rdP c f r=⟨f.vecs r.toNat,0⟩:=by unfold rdP;rw[if_neg oM,if_neg oM]
end Go.Proofs.YtbinohkcolcbfaaGreat
