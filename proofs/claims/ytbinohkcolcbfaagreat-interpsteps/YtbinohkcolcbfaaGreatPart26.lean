import Derived.Test.YtbinohkcolcbfaaGreatPart1
import Derived.Test.YtbinohkcolcbfaaGreatPart25
import Derived.Test.YtbinohkcolcbfaaGreatPart20
import Derived.Test.YtbinohkcolcbfaaGreatPart22
namespace Go.Proofs.YtbinohkcolcbfaaGreat
open Go.RowKit Go.Proofs.Tryz
set_option linter.unusedVariables false
set_option linter.unusedSimpArgs false
set_option maxRecDepth 100000
set_option maxHeartbeats 16000000
def VcR(w:World)(v:Value)(L:List (List Int)):Prop:=∃p c,v=.slice p L.length c/\∀i (hi:i<L.length),∃b o q d,p=some ⟨b,o,none⟩/\w.cell? ⟨b,o+i,none⟩=some (.slice q (L[i]).length d)/\Zio w q (L[i]).length (fun j=>.int .u32 (atL L[i] j))
theorem VcR.below{w w':World}{v:Value}{L:List (List Int)}(h:VcR w v L)(k:Below w.heap.size w w'):VcR w' v L:=by
 obtain⟨p,c,e,h⟩:=h;refine⟨p,c,e,fun i hi=>?_⟩;obtain⟨b,o,q,d,e1,e2,e3⟩:=h i hi;exact⟨b,o,q,d,e1,kc k e2,e3.below k⟩
theorem VsT.vc{T:Nat->Prop}{w:World}{v:Value}{L:List (List Int)}(h:VsT T w v L):VcR w v L:=h.cellsOf
theorem Zadg:∀ {l:List Par} {m:List Nat},m.length≠l.length->Zin l m=false
 |[],[],h=>absurd rfl h
 |[],_::_,_=>rfl
 |_::_,[],_=>rfl
 |p::l,n::m,h=>by
  have:Zin l m=false:=Zadg Zgb;simp[Zin,this]
theorem Zaba:∀ {l:List Par} {m:List Nat} {k:Nat} (h1:k<l.length) (h2:k<m.length),((m[k]:Nat):Int)≠numP l[k]->Zin l m=false
 |[],m,k,h,_,_=>by simp at h
 |p::l,[],k,_,h,_=>by simp at h
 |p::l,n::m,0,_,_,hne=>by
  have:decide ((n:Int)=numP p)=false:=by simpa using hne
  simp[Zin,this]
 |p::l,n::m,k+1,h1,h2,hne=>by
  have:Zin l m=false:=Zaba (k:=k) (by simpa using h1) (by simpa using h2) (by simpa using hne);simp[Zin,this]
theorem Zyb:∀ {l:List Par} {m:List Nat},m.length=l.length->(∀k (h1:k<l.length) (h2:k<m.length),((m[k]:Nat):Int)=numP l[k])->Zin l m=true
 |[],[],_,_=>rfl
 |[],_::_,h,_=>by simp at h
 |_::_,[],h,_=>by simp at h
 |p::l,n::m,h,ha=>by
  have h0:((n:Nat):Int)=numP p:=ha 0 sM sM;have:Zin l m=true:=Zyb Zgb fun k h1 h2=>by
   have:=ha (k+1) sO sO;simpa using this
  simp[Zin,h0,this]
theorem Zpe(v0:Value)(l:List Par)(hl:l.length<=64)(hM:∀p∈l,p.name.size<=140737488351232)(gv:Value)(L:List (List Int))(hL:L.length<=140737488351232)(hLL:∀x∈L,x.length<=140737488351232)(w:World)(hr:RowG 3 Zjc w v0 l)(hg:VcR w gv L):
 Calls prog 46 #[v0,gv] w fun e w'=>e=.returned (.bool (Zin l (L.map (·.length))))/\Below w.heap.size w w':=by
 obtain⟨p0,q0,rfl,-⟩:=id hr;obtain⟨pg,qg,rfl,hcell⟩:=hg;have HR:Hid (RowG 3 Zjc w (.slice p0 l.length q0) l):=hr;have HCELL:Hid (∀i (hi:i<L.length),∃b o q d,pg=some ⟨b,o,none⟩/\w.cell? ⟨b,o+i,none⟩=some (.slice q (L[i]).length d)/\Zio w q (L[i]).length (fun j=>.int .u32 (atL L[i] j))):=hcell;have HNM:Hid (∀p∈l,p.name.size<=140737488351232):=hM;have HLL:Hid (∀x∈L,x.length<=140737488351232):=hLL;by_cases hne:L.length=l.length
 ·obtain⟨RES,hRES⟩:∃X,Zin l (L.map (·.length))=X:=⟨_,rfl⟩
  rw[hRES];have HRES:Hid (Zin l (L.map (·.length))=RES):=hRES;have HNE:Hid (L.length=l.length):=hne;obtain⟨N,hN⟩:∃N,l.length=N:=⟨_,rfl⟩
  have HN:Hid (l.length=N):=hN;rw[hne];rw[hN]at hl HR ⊢;clear hr hcell hM hLL hRES hne hN hL;go_enter func46,ntmps46;go_wp2
  go_loopw [5] (fun iv wr=>Below w.heap.size w wr/\∃j:Nat,j<=N/\iv=.int .i64 (j:Int)/\Hid (∀k (h1:k<l.length) (h2:k<L.length),k<j->((L[k].length:Nat):Int)=numP l[k])) (fun iv _=>N-(intOf iv).toNat)
  case atStart=>exact⟨bel0 _,0,Nat.zero_le _,rfl,fun k _ _ h=>absurd h (Nat.not_lt_zero _)⟩
  case round=>
   obtain⟨hb,j,hj,rfl,hall⟩:=hrel;by_cases hlt:j<N
   ·have hll:j<l.length:=by rw[HN.out];exact hlt
    have hLl:j<L.length:=by rw[HNE.out];exact hll
    obtain⟨lb,lo,rfl,hx⟩:=HR.out.at hll;obtain⟨gb,go,gq,gd,rfl,hgc,-⟩:=HCELL.out j hLl;have KN:=Ztk l[j] (HNM.out _ (List.getElem_mem hll));have hlen:=HLL.out _ (List.getElem_mem hLl);have NX:Hid (((L[j].length:Nat):Int)=numP l[j]->∀k (h1:k<l.length) (h2:k<L.length),k<j+1->((L[k].length:Nat):Int)=numP l[k]):=fun h k h1 h2 h3=>by
     by_cases e:k=j
     ·subst e;exact h
     ·exact hall.out k h1 h2 oM
    have NB:Hid (((L[j].length:Nat):Int)≠numP l[j]->false=RES):=fun h=>by
     rw[←HRES.out];exact(Zaba (k:=j) hll (by simp;exact hLl) Zgb).symm
    obtain⟨U,hU⟩:∃U,numP l[j]=U:=⟨_,rfl⟩
    obtain⟨V,hV⟩:∃V,L[j].length=V:=⟨_,rfl⟩
    rw[hU]at KN NX NB;rw[hV]at hgc hlen NX NB;obtain⟨⟨nm,K9,L9⟩,hT⟩:∃T:Par,l[j]=T:=⟨_,rfl⟩
    rw[hT]at hx KN;unfold pv at KN;simp only at KN;have HK:Hid (∀v,Calls prog 77 #[.agg #[.string nm,.int .i64 K9,.int .i64 L9]] v fun e w'=>e=.returned (.int .i64 U)/\Below v.heap.size v w'):=KN;have y0:wr.cell? ⟨lb,lo+j*3,none⟩=some (.string nm):=kc hb (hx.at 0 rfl);have y1:wr.cell? ⟨lb,lo+j*3+1,none⟩=some (.int .i64 K9):=kc hb (hx.at 1 rfl);have y2:wr.cell? ⟨lb,lo+j*3+2,none⟩=some (.int .i64 L9):=kc hb (hx.at 2 rfl);have y3:=kc hb hgc;have HB:Hid (Below w.heap.size w wr):=hb;have i1:(0:Int)<=(j:Int):=oM;have i2:(j:Int)<(N:Int):=oM;clear KN hx hgc hall hT hU hV hb;by_cases hX:((V:Nat):Int)=U
    ·have hb1:((V:Int) != U)=false:=by simpa using hX
     have HNX:=NX.out hX;have HNX2:Hid _:=HNX;clear hX HNX NX NB;go_wp2;refine rG (fun v=>v.cell? ⟨gb,go+j,none⟩=some (.slice gq V gd)/\v.cell? ⟨lb,lo+j*3,none⟩=some (.string nm)/\v.cell? ⟨lb,lo+j*3+1,none⟩=some (.int .i64 K9)/\v.cell? ⟨lb,lo+j*3+2,none⟩=some (.int .i64 L9)) fun hHeld=>?_;refine Tf 0 1 2 3 4 5 ?_;refine Tc 6 7 8 ?_;clear hHeld;refine ry1 9 fun K hK=>?_;go_simp;(go_at_call 77;(with_reducible refine(HK.out _).mono ?_);rintro e w2 ⟨rfl,hb2⟩;have HB2:Hid (Below wr.heap.size wr w2):=bel (Zhs _) hb2;clear hb2;have x0:=kc HB2.out y0;have x1:=kc HB2.out y1;have x2:=kc HB2.out y2;have x3:=kc HB2.out y3);try(go_wp2_with fail)
     refine okK hK fun hHeld=>?_;clear hK K;refine tkT 10 ?_;refine wpAnyH_done kR ?_ _;go_wp2;go_roundw
     case rel=>exact⟨bel HB.out HB2.out,j+1,oM,gN,HNX2.out⟩
     case measure=>simp[intOf];omega
    ·have hb1:((V:Int) != U)=true:=by simpa using hX
     have HQ:=NB.out hX;have HQF:Hid (false=RES):=HQ;clear hX HQ NX NB;go_wp2;refine rG (fun v=>v.cell? ⟨gb,go+j,none⟩=some (.slice gq V gd)/\v.cell? ⟨lb,lo+j*3,none⟩=some (.string nm)/\v.cell? ⟨lb,lo+j*3+1,none⟩=some (.int .i64 K9)/\v.cell? ⟨lb,lo+j*3+2,none⟩=some (.int .i64 L9)) fun hHeld=>?_;refine Tf 0 1 2 3 4 5 ?_;refine Tc 6 7 8 ?_;clear hHeld;refine ry1 9 fun K hK=>?_;go_simp;(go_at_call 77;(with_reducible refine(HK.out _).mono ?_);rintro e w2 ⟨rfl,hb2⟩;have HB2:Hid (Below wr.heap.size wr w2):=bel (Zhs _) hb2;clear hb2;have x0:=kc HB2.out y0;have x1:=kc HB2.out y1;have x2:=kc HB2.out y2;have x3:=kc HB2.out y3);try(go_wp2_with fail)
     refine okK hK fun hHeld=>?_;clear hK K;refine tkT 10 ?_;refine wpAnyH_done kR ?_ _;go_wp2;go_ret;exact⟨Zhu HQF.out,bel HB.out HB2.out⟩
   have HQT:Hid (true=RES):=by
    show _=_;rw[←HRES.out];refine(Zyb (by rw[List.length_map];exact HNE.out) fun k h1 h2=>?_).symm;rw[List.length_map]at h2;have h5:=hall.out k h1 h2 (by have:=HN.out;omega);simpa using h5
   have e1:¬ (j:Int)<(N:Int):=oM;clear hall hlt;go_wp2;go_ret;exact⟨Zhu HQT.out,hb⟩
 ·rw[Zadg (by rw[List.length_map];exact hne)];obtain⟨N,hN⟩:∃N,l.length=N:=⟨_,rfl⟩
  obtain⟨M,hM'⟩:∃N,L.length=N:=⟨_,rfl⟩
  rw[hN]at hne hl ⊢;rw[hM']at hne hL ⊢;have hb1:(((M:Nat):Int)==((N:Nat):Int))=false:=by have:((M:Nat):Int)≠(N:Int):=oM;simpa using this
  have hb2:(((M:Nat):Int) != ((N:Nat):Int))=true:=by have:((M:Nat):Int)≠(N:Int):=oM;simpa using this
  clear hr hcell hM hLL hN hM';go_enter func46,ntmps46;go_wp2;go_ret;exact⟨rfl,bel0 _⟩
theorem und_LL:prog.underlying 123=some (.slice (prog.elem 123)):=kR
theorem elem_LL:prog.elem 123=82:=kR
theorem size_LL(w:World):(sizeOf (prog.elem 123)).run prog w=.ok 1 w:=by rw[elem_LL];exact Tryz.sizeOf82 w
def arg3(a b c:List Int)(m:Nat):List (List Int):=[a,b,c].take m
def elR(W:Nat)(R:List Int):List Int:=if R.length=1 then List.replicate W (canon (R.headD 0))else R
theorem apply3(op:Int)(m:Nat)(hm:Zjq op=m)(h0:m≠0)(xa xb xc:Cl)(n:Nat)(hs:shpV (lF (arg3 xa.h.pats xb.h.pats xc.h.pats m)) (m-1)=some n)
 (pa:∀y∈xa.h.pats,IsP y) (pb:∀y∈xb.h.pats,IsP y) (pc:∀y∈xc.h.pats,IsP y) (la:xa.h.pats.length<=4096) (lb:xb.h.pats.length<=4096) (lc:xc.h.pats.length<=4096) (g:Nat) (w:World)
 (g0:w.cell? ⟨g,0,none⟩=some (.slice xa.p xa.h.pats.length xa.q)) (g1:w.cell? ⟨g,1,none⟩=some (.slice xb.p xb.h.pats.length xb.q)) (g2:w.cell? ⟨g,2,none⟩=some (.slice xc.p xc.h.pats.length xc.q))
 (na:NumR w xa.p xa.h.pats) (nb:NumR w xb.p xb.h.pats) (nc:NumR w xc.p xc.h.pats):
 Calls prog 120 #[.int .i64 op,.slice (some ⟨g,0,none⟩) m 3] w fun e w'=>∃q cap,e=.returned (.tuple #[.slice q n cap,.int .i64 0])/\NumR w' q (appP op (arg3 xa.h.pats xb.h.pats xc.h.pats m))/\(appP op (arg3 xa.h.pats xb.h.pats xc.h.pats m)).length=n/\(∀y∈appP op (arg3 xa.h.pats xb.h.pats xc.h.pats m),IsP y)/\Below w.heap.size w w'/\∀b o s,q=some ⟨b,o,s⟩->w.heap.size<=b:=by
 have hm3:m<=3:=by rw[←hm];exact Zqq op
 have hal:(arg3 xa.h.pats xb.h.pats xc.h.pats m).length=m:=by unfold arg3;rw[List.length_take];simp;omega
 have hv:∀i,i<m->Zkt (arg3 xa.h.pats xb.h.pats xc.h.pats m) i=if i=0 then xa.h.pats else if i=1 then xb.h.pats else xc.h.pats:=fun i hi=>by
  unfold Zkt arg3;rw[List.getElem?_take,if_pos hi];have:i=0\/i=1\/i=2:=oM;rcases this with rfl|rfl|rfl<;>rfl
 have hvs:∀i,Zkt (arg3 xa.h.pats xb.h.pats xc.h.pats m) i=[]\/Zkt (arg3 xa.h.pats xb.h.pats xc.h.pats m) i=xa.h.pats\/Zkt (arg3 xa.h.pats xb.h.pats xc.h.pats m) i=xb.h.pats\/Zkt (arg3 xa.h.pats xb.h.pats xc.h.pats m) i=xc.h.pats:=fun i=>by
  by_cases hi:i<m
  ·rw[hv i hi];split
   ·exact .inr (.inl rfl)
   ·split
    ·exact .inr (.inr (.inl rfl))
    ·exact .inr (.inr (.inr rfl))
  ·left;unfold Zkt arg3;rw[List.getElem?_take,if_neg hi];rfl
 have hP:∀i j,IsP (xF (arg3 xa.h.pats xb.h.pats xc.h.pats m) i j):=fun i j=>by
  unfold xF;refine Zke ?_ j;rcases hvs i with e|e|e|e<;>rw[e]
  ·intro y hy;cases hy
  ·exact pa
  ·exact pb
  ·exact pc
 have hl:∀i,lF (arg3 xa.h.pats xb.h.pats xc.h.pats m) i<=1048576:=fun i=>by
  unfold lF;rcases hvs i with e|e|e|e<;>rw[e]<;>first|(show(0:Nat)<=_;omega)|omega
 have hL:Lsts .i64 w (some ⟨g,0,none⟩) m (fun i=>if i=0 then xa.p else if i=1 then xb.p else xc.p) (lF (arg3 xa.h.pats xb.h.pats xc.h.pats m)) (fun i=>if i=0 then xa.q else if i=1 then xb.q else xc.q) (xF (arg3 xa.h.pats xb.h.pats xc.h.pats m)):=by
  refine⟨.inr ⟨g,0,rfl,fun i hi=>?_⟩,fun i hi=>?_⟩
  ·have:i=0\/i=1\/i=2:=oM;simp only[lF];rw[hv i hi,Nat.zero_add];rcases this with rfl|rfl|rfl
   ·exact g0
   ·exact g1
   ·exact g2
  ·have:i=0\/i=1\/i=2:=oM;simp only[lF,xF];rw[hv i hi];rcases this with rfl|rfl|rfl
   ·exact na
   ·exact nb
   ·exact nc
 have hs':shpV (lF (arg3 xa.h.pats xb.h.pats xc.h.pats m)) ((arg3 xa.h.pats xb.h.pats xc.h.pats m).length-1)=some n:=by rw[hal];exact hs
 obtain⟨a1,a2⟩:=Zxc (op:=op) hs';refine(Zamc op oM g 0 m 3 hm n _ _ _ _ hP hl hs w hL).mono ?_;rintro e w' ⟨q,cap,rfl,hr,hb,hlo⟩;have a3:∀y∈appP op (arg3 xa.h.pats xb.h.pats xc.h.pats m),IsP y:=fun y hy=>by
  obtain⟨j,hj,rfl⟩:=List.mem_iff_getElem.1 hy;have h9:=a2 j oM;have h8:atL (appP op (arg3 xa.h.pats xb.h.pats xc.h.pats m)) j=(appP op (arg3 xa.h.pats xb.h.pats xc.h.pats m))[j]:=by simp[atL,hj]
  rw[←h8,h9];exact Zxg _ _ _ _ (Zjr hP _ _ _) (Zjr hP _ _ _) (Zjr hP _ _ _)
 refine⟨q,cap,rfl,?_,a1,a3,hb,hlo⟩;unfold NumR;rw[a1];refine hr.congr fun j hj=>?_;rw[a2 j hj,hal]
def fRes(j:Nat):Value:=if j=0 then .slice none 0 0 else .int .i64 0
theorem fRes_ok:∀i,i<(#[.slice none 0 0,.int .i64 0]:Array Value).size->(#[.slice none 0 0,.int .i64 0]:Array Value)[i]? =some (fRes i):=by
 intro i hi;have hi':i<2:=hi;obtain rfl|rfl:i=0\/i=1:=oM
 all_goals rfl
theorem num_ne{v:World}{R:Nat}(h:v.rowIs R 84 2 fRes){q:Option Addr}{l:List Int}(hn:NumR v q l)(h2:2<=l.length):∀b o,q=some ⟨b,o,none⟩->b≠R:=by
 intro b o e hb;rcases hn with h0|⟨b',o',e',hc⟩
 ·omega
 ·rw[e]at e';simp only[Option.some.injEq,Addr.mk.injEq,true_and,and_true]at e';obtain⟨rfl,rfl⟩:b=b'/\o=o':=by first|exact e'|exact⟨e'.1,e'.2⟩
  subst hb;by_cases ho:o=0
  ·have h3:=hc 0 oM;rw[ho]at h3;have h4:=h.cell (i:=0) dE;rw[Nat.add_zero]at h3;rw[h3]at h4;simp[fRes]at h4
  ·have h3:=hc 1 oM;obtain⟨c,hb,hs,-⟩:=h;have h5:v.cell? ⟨b,o+1,none⟩=none:=by
    unfold World.cell?;simp only[hb];exact Array.getElem?_eq_none oM
   rw[h5]at h3;cases h3
structure EW17(w:World)(v0 v1 v2 v3 ru:Value)(op D A B C tk tp:Int)(rb oa ob oc:Nat)(ua ub uc:Value)(v:World):Prop where
 bel:Below w.heap.size w v
 a0:v.cell? ⟨w.heap.size,0,none⟩=some v0
 a1:v.cell? ⟨w.heap.size,1,none⟩=some v1
 a2:v.cell? ⟨w.heap.size,2,none⟩=some v2
 a3:v.cell? ⟨w.heap.size,3,none⟩=some v3
 a4:v.cell? ⟨w.heap.size,4,none⟩=some ru
 i0:v.cell? ⟨w.heap.size+1,0,none⟩=some (.int .i64 op)
 i1:v.cell? ⟨w.heap.size+1,1,none⟩=some (.int .i64 D)
 i2:v.cell? ⟨w.heap.size+1,2,none⟩=some (.int .i64 A)
 i3:v.cell? ⟨w.heap.size+1,3,none⟩=some (.int .i64 B)
 i4:v.cell? ⟨w.heap.size+1,4,none⟩=some (.int .i64 C)
 r0:v.cell? ⟨w.heap.size+1+1,0,none⟩=some (.slice none 0 0)
 r1:v.cell? ⟨w.heap.size+1+1,1,none⟩=some (.int .i64 0)
 rr:v.rowIs (w.heap.size+1+1) 84 2 fRes
 f0:v.frozen? ⟨w.heap.size+1+1,0,none⟩=false
 f1:v.frozen? ⟨w.heap.size+1+1,1,none⟩=false
 t0:v.cell? ⟨w.heap.size+1+1+1,0,none⟩=some (.int .i64 tk)
 t1:v.cell? ⟨w.heap.size+1+1+1,1,none⟩=some (.int .i64 tp)
 x0:v.cell? ⟨rb,oa,none⟩=some ua
 x1:v.cell? ⟨rb,ob,none⟩=some ub
 x2:v.cell? ⟨rb,oc,none⟩=some uc
theorem EW17.next{w:World}{v0 v1 v2 v3 ru:Value}{op D A B C tk tp:Int}{rb oa ob oc:Nat}{ua ub uc:Value}{v v':World}(h:EW17 w v0 v1 v2 v3 ru op D A B C tk tp rb oa ob oc ua ub uc v)(k:Below v.heap.size v v'):EW17 w v0 v1 v2 v3 ru op D A B C tk tp rb oa ob oc ua ub uc v':=
 ⟨Go.Proofs.YtbinohkcolcbfaaGreat.bel h.bel k,kc k h.a0,kc k h.a1,kc k h.a2,kc k h.a3,kc k h.a4,kc k h.i0,kc k h.i1,kc k h.i2,kc k h.i3,kc k h.i4,kc k h.r0,kc k h.r1,h.rr.of_block (k.block _ h.rr.lt),kf k h.r0 h.f0,kf k h.r1 h.f1,kc k h.t0,kc k h.t1,kc k h.x0,kc k h.x1,kc k h.x2⟩
end Go.Proofs.YtbinohkcolcbfaaGreat
set_option maxRecDepth 100000
set_option maxHeartbeats 16000000
namespace Go.Proofs.YtbinohkcolcbfaaGreat
open Go.RowKit Go.Proofs.Tryz
set_option linter.unusedVariables false
set_option linter.unusedSimpArgs false
theorem Zok(a:Int):canon (canon a)=canon a:=by
 by_cases h:nan a=true
 ·have e:canon a=2143289344:=by unfold canon;rw[if_pos h]
  rw[e];decide
 ·have e:canon a=a:=by unfold canon;rw[if_neg h]
  rw[e,e]
theorem Zwe(b:Bool):canon (flag b)=flag b:=by cases b<;>decide
theorem Zru{o:Option Nat}(h:∀r,o=some r->rg r<=2139095040):canon (op2 o)=op2 o:=by
 cases o with
 |none=>decide
 |some r=>exact Zlp (h r rfl)
theorem Zaap{a b:Int}(ha:0<=a)(hb:0<=b){o:Ordering}(h:ord a b=some o):canon a=a/\canon b=b:=by
 rw[Ztm a b ha hb]at h;split at h
 ·cases h
 ·rename_i hn;have h1:¬nan a=true:=fun e=>hn (.inl e);have h2:¬nan b=true:=fun e=>hn (.inr e);unfold canon;rw[if_neg h1,if_neg h2];exact⟨rfl,rfl⟩
theorem Zaod(a b:Int)(ha:0<=a)(hb:0<=b):canon (fmin a b)=fmin a b:=by
 unfold fmin;cases e:ord a b with
 |none=>show canon 2143289344=2143289344;decide
 |some o=>
  obtain⟨h1,h2⟩:=Zaap ha hb e;cases o
  ·exact h1
  ·simp only;split
   ·exact h1
   ·exact h2
  ·exact h2
theorem Zapb(a b:Int)(ha:0<=a)(hb:0<=b):canon (fmax a b)=fmax a b:=by
 unfold fmax;cases e:ord a b with
 |none=>show canon 2143289344=2143289344;decide
 |some o=>
  obtain⟨h1,h2⟩:=Zaap ha hb e;cases o
  ·exact h2
  ·simp only;split
   ·exact h2
   ·exact h1
  ·exact h1
theorem Zlb{p:Prop}[Decidable p]{x y:Int}(h:canon x=x)(k:canon y=y):canon (if p then x else y)=if p then x else y:=by
 split
 ·exact h
 ·exact k
theorem opf_can(op a b c:Int)(ha:IsP a)(hb:IsP b):canon (opf op a b c)=opf op a b c:=by
 unfold opf;refine Zlb (Zok a) (Zlb (Zru fun _ h=>(Zux h).1) (Zlb (Zok _) (Zlb (Zok _) (Zlb (Zwe _) (Zlb (Zru fun _ h=>(Zxd h).1) (Zlb (Zru fun _ h=>(Zxl h).1) (Zlb (Zru fun _ h=>(Zxw h).1) (Zlb (Zru fun _ h=>(Zxk h).1) (Zlb (Zaod a b ha.1 hb.1) (Zlb (Zapb a b ha.1 hb.1) (Zlb (Zwe _) ?_)))))))))));unfold fsel;exact Zlb (Zok _) (Zok _)
theorem app_can{op:Int}{args:List (List Int)}(h:∀l∈args,∀y∈l,IsP y):∀y∈appP op args,canon y=y:=by
 have hX:∀i j,IsP (xF args i j):=fun i j=>by
  exact Zed
 intro y hy;unfold appP at hy;split at hy
 ·simp only[List.mem_map]at hy;obtain⟨k,_,rfl⟩:=hy;exact opf_can _ _ _ _ (Zjr hX _ _ _) (Zjr hX _ _ _)
 ·cases hy
theorem el_eq{c:Cd}{f:Fr}{i:Ins}(hg:Good c)(ok:OkF c f)(he:Zjj i.op=true)(nd:Zlj c f i)(hk:(regT c.regs i.d).kind≠2):
 elR (if(regT c.regs i.d).kind=3 then lenOf c (regT c.regs i.d).par else 1) (appP i.op (Zji c f i))=(if(appP i.op (Zji c f i)).length<Zhy c (regT c.regs i.d)then Zkf c (regT c.regs i.d) ((appP i.op (Zji c f i)).headD 0)else appP i.op (Zji c f i))/\(if(regT c.regs i.d).kind=3 then lenOf c (regT c.regs i.d).par else 1)=Zhy c (regT c.regs i.d):=by
 obtain⟨h1,h2,h3⟩:=Zpk hg ok he nd hk;obtain⟨s1,s2⟩:=Zpz hg ok he nd hk;have hcan:=app_can (op:=i.op) (args:=Zji c f i) (fun l hl=>by
  unfold Zji at hl;simp only[List.mem_map]at hl;obtain⟨r,hr,rfl⟩:=hl
  exact(h2 r hr).2.2.2)
 have hw:(if(regT c.regs i.d).kind=3 then lenOf c (regT c.regs i.d).par else 1)=Zhy c (regT c.regs i.d):=by
  unfold Zhy;rcases h3 with e|e
  ·rw[if_neg oM,if_neg oM,if_pos e]
  ·rw[if_pos e,if_pos e]
 refine⟨?_,hw⟩;rw[hw];unfold Zkf;generalize appP i.op (Zji c f i)=R at *;generalize Zhy c (regT c.regs i.d)=W at *;unfold elR;by_cases e:R.length=1
 ·rw[if_pos e];obtain⟨x,rfl⟩:=List.length_eq_one_iff.1 e;have hx:canon x=x:=hcan x sM;by_cases e2:W=1
  ·subst e2;rw[if_neg sM];show [canon x]=[x];rw[hx]
  ·rw[if_pos sO]
 ·rw[if_neg e,if_neg oM]
def valI(c:Cd)(G P:List (List Int))(f:Fr)(i:Ins):Hd:=rdP c (doI c G P f i) i.d
section
variable {c : Cd} {G P : List (List Int)} {f : Fr} {i : Ins}
theorem Zrp(nd:Zlj c f i)(h:Zlx i.op=true):valI c G P f i=⟨[numI f i],0⟩:=by
 unfold valI rdP;rw[Znu h,if_pos (nd.num h).2.2.2.2];simp only[Zmn]
theorem Zts(nd:Zlj c f i)(h:Zjv i.op=true):valI c G P f i=⟨[],Zmt f i⟩:=by
 have hk:=(nd.whole h).2.2.2.2.2.1;unfold valI rdP;rw[Zmi h,if_neg oM,if_pos hk];simp only[Zmn]
theorem val_29(nd:Zlj c f i)(h:i.op=29):valI c G P f i=⟨Zir c G i,0⟩:=by
 have hk:=(nd.part (.inl h)).kind;unfold valI rdP;rw[Zou h,if_neg oM,if_neg oM];simp only[Zmn]
theorem val_30(nd:Zlj c f i)(h:i.op=30):valI c G P f i=⟨Zir c P i,0⟩:=by
 have hk:=(nd.part (.inr h)).kind;unfold valI rdP;rw[Zor h,if_neg oM,if_neg oM];simp only[Zmn]
theorem rd_st{r:Int}{h:Hd}(ho:HdOK c (regT c.regs r) h)(hz:(regT c.regs r).kind≠2->h.whole=0):rdP c (stP c f r h) r=h:=by
 obtain⟨pats,whole⟩:=h;simp only at hz;have hl:pats.length=Zhy c (regT c.regs r):=ho.1;unfold Zhy at hl;unfold rdP stP;by_cases h1:(regT c.regs r).kind=1
 ·rw[if_neg oM,if_pos h1]at hl;rw[if_pos h1,if_pos h1];obtain⟨x,rfl⟩:=List.length_eq_one_iff.1 hl;simp only[Zmn,List.headD_cons];rw[hz oM]
 ·by_cases h2:(regT c.regs r).kind=2
  ·rw[if_neg oM,if_neg oM]at hl;rw[if_neg h1,if_pos h2,if_neg h1,if_pos h2];simp only[Zmn];rw[List.length_eq_zero_iff.1 hl]
  ·rw[if_neg h1,if_neg h2,if_neg h1,if_neg h2];simp only[Zmn];rw[hz h2]
theorem val_32(ok:OkF c f)(nd:Zlj c f i)(h:i.op=32)(hz:∀j (h:j<c.slots.length),c.slots[j].ty.kind≠2->((f.slots[j]?).getD ⟨[],0⟩).whole=0):valI c G P f i=(f.slots[i.n.toNat]?).getD ⟨[],0⟩:=by
 obtain⟨d0,d1,n0,n1,ht⟩:=nd.load h;have hn:i.n.toNat<c.slots.length:=oM;have hn2:i.n.toNat<f.slots.length:=by rw[ok.slotsL];exact hn
 have hh:=ok.slots i.n.toNat hn hn2;have e:slotT c.slots i.n=c.slots[i.n.toNat].ty:=by unfold slotT;rw[List.getElem?_eq_getElem hn];rfl
 unfold valI;rw[Zoo h];refine rd_st ?_ fun h2=>hz _ hn (by rw[←e,ht];exact h2);rw[List.getElem?_eq_getElem hn2,Option.getD_some,←ht,e];exact hh
theorem Zalg(h:Zjj i.op=true)(hk:(regT c.regs i.d).kind=2):valI c G P f i=⟨[],f.whs i.a.toNat⟩:=by
 unfold valI rdP;rw[Zmd h];unfold Zll;rw[if_pos hk,if_neg oM,if_pos hk];simp only[Zmn]
theorem Zane(hg:Good c)(ok:OkF c f)(nd:Zlj c f i)(h:Zjj i.op=true)(hk:(regT c.regs i.d).kind≠2):valI c G P f i=⟨elR (if(regT c.regs i.d).kind=3 then lenOf c (regT c.regs i.d).par else 1) (appP i.op (Zji c f i)),0⟩:=by
 obtain⟨e1,e2⟩:=el_eq hg ok h nd hk;obtain⟨s1,s2⟩:=Zpz hg ok h nd hk;rw[e1];unfold valI;rw[Zmd h];unfold Zll;rw[if_neg hk];refine rd_st ⟨?_,fun y hy=>?_,Int.le_refl _,by show(0:Int)<=2147483647;decide⟩ fun _=>rfl
 ·simp only;split
  ·unfold Zkf;rw[List.length_replicate]
  ·rename_i hn;have h1:=(Zpk hg ok h nd hk).1;omega
 ·simp only at hy;split at hy
  ·unfold Zkf at hy;rw[List.eq_of_mem_replicate hy];exact Zmx _ (Zuy s2)
  ·exact s2 y hy
theorem Zxt(hk:Zig i.op=true)(r:Nat)(h:(rowP i.op).d≠0->r≠i.d.toNat):rdP c (doI c G P f i) (r:Int)=rdP c f (r:Int):=by
 have hst:∀x:Hd,(rowP i.op).d≠0->rdP c (stP c f i.d x) (r:Int)=rdP c f (r:Int):=fun x hd=>by
  have hr:=h hd;unfold stP;split
  ·unfold rdP;simp only[Int.toNat_natCast,Zml _ _ hr]
  ·split
   ·unfold rdP;simp only[Int.toNat_natCast,Zml _ _ hr]
   ·unfold rdP;simp only[Int.toNat_natCast,Zml _ _ hr]
 rcases Zoz hk with e|e|e|e|e|e|e|e|e
 ·have hr:=h (by unfold Zlx at e;simp only[Bool.or_eq_true,beq_iff_eq]at e;have:i.op=1\/i.op=16\/i.op=17\/i.op=19\/i.op=20:=oM;rcases this with q|q|q|q|q<;>rw[q]<;>decide);rw[Znu e];unfold rdP;simp only[Int.toNat_natCast,Zml _ _ hr]
 ·have hr:=h (by unfold Zjv at e;simp only[Bool.or_eq_true,Bool.and_eq_true,beq_iff_eq,decide_eq_true_eq]at e;have:i.op=2\/i.op=18\/i.op=21\/i.op=22\/i.op=23\/i.op=24\/i.op=25\/i.op=26\/i.op=27\/i.op=28:=oM;rcases this with q|q|q|q|q|q|q|q|q|q<;>rw[q]<;>decide);rw[Zmi e];unfold rdP;simp only[Int.toNat_natCast,Zml _ _ hr]
 ·have hr:=h (by rw[e];decide);rw[Zou e];unfold rdP;simp only[Int.toNat_natCast,Zml _ _ hr]
 ·have hr:=h (by rw[e];decide);rw[Zor e];unfold rdP;simp only[Int.toNat_natCast,Zml _ _ hr]
 ·rw[Zop e];rfl
 ·rw[Zoo e];exact hst _ (by rw[e];decide)
 ·rw[Zon e];rfl
 ·rw[Zky e]
 ·have hd:(rowP i.op).d≠0:=by
   unfold Zjj at e;simp only[Bool.and_eq_true,decide_eq_true_eq]at e;have:i.op=3\/i.op=4\/i.op=5\/i.op=6\/i.op=7\/i.op=8\/i.op=9\/i.op=10\/i.op=11\/i.op=12\/i.op=13\/i.op=14\/i.op=15:=oM;rcases this with q|q|q|q|q|q|q|q|q|q|q|q|q<;>rw[q]<;>decide
  rw[Zmd e];unfold Zll;split
  ·unfold rdP;simp only[Int.toNat_natCast,Zml _ _ (h hd)]
  ·exact hst _ hd
end
structure RelR(c:Cd)(f:Fr)(X S O:List Cl):Prop where
 xl:X.length=c.regs.length
 xok:∀x∈X,(∀y∈x.h.pats,IsP y)/\x.h.pats.length<=4096/\0<=x.h.whole/\x.h.whole<=2147483647
 sl:S.map (·.h)=f.slots
 sz:∀j (h:j<c.slots.length),c.slots[j].ty.kind≠2->((f.slots[j]?).getD ⟨[],0⟩).whole=0
 ol:O.length=2*c.sign.length
 oo:∀p n:Nat,p<c.sign.length->n<Zia c (p:Int)->∃o,O[2*p+n]? =some o/\o.h.pats.length=lenOf c (p:Int)/\(∀y∈o.h.pats,IsP y)/\∀e,e<lenOf c (p:Int)->atL o.h.pats e=f.outs p (Zia c (p:Int)*e+n)
def KnR(c:Cd)(f:Fr)(X:List Cl)(r:Nat):Prop:=∃x,X[r]? =some x/\x.h=rdP c f (r:Int)
def Did(c:Cd)(G P:List (List Int))(f:Fr)(i:Ins)(X S O X' S' O':List Cl):Prop:=
 ((rowP i.op).d≠0/\(∃x,X'=X.set i.d.toNat x/\x.h=valI c G P f i)/\S'=S/\O'=O)
 \/(i.op=33/\X'=X/\(∃x,X[i.a.toNat]? =some x/\S'=S.set i.n.toNat x)/\O'=O)
 \/(i.op=31/\X'=X/\S'=S/\∃x,X[i.a.toNat]? =some x/\O'=O.set (2*(regT c.regs i.a).par.toNat+i.n.toNat) x)
 \/((34<=i.op/\i.op<=37)/\X'=X/\S'=S/\O'=O)
theorem Zacg{op:Int}(hk:Zig op=true):(rowP op).d≠0↔op≠31/\op≠33/\¬ (34<=op/\op<=37):=by
 unfold Zig at hk;simp only[Bool.and_eq_true,decide_eq_true_eq]at hk;have:op∈(List.range 38).map (fun n:Nat=>(n:Int)):=by
  rw[List.mem_map];exact⟨op.toNat,by rw[List.mem_range];omega,oM⟩
 have h0:op≠0:=oM;revert h0;revert op;intro op hk;simp only[List.range,List.range.loop,List.map_cons,List.map_nil,List.mem_cons,List.not_mem_nil,or_false];intro h h0;rcases h with h|h|h|h|h|h|h|h|h|h|h|h|h|h|h|h|h|h|h|h|h|h|h|h|h|h|h|h|h|h|h|h|h|h|h|h|h|h<;>(rw[h]at h0 ⊢;revert h0;decide)
theorem Zqa{c:Cd}{G P:List (List Int)}{f:Fr}{i:Ins}(hk:Zig i.op=true):(i.op≠33->(doI c G P f i).slots=f.slots)/\(i.op≠31->(doI c G P f i).outs=f.outs):=by
 have hst:∀r h,(stP c f r h).slots=f.slots/\(stP c f r h).outs=f.outs:=fun r h=>by
  unfold stP;split
  ·exact⟨rfl,rfl⟩
  ·split
   ·exact⟨rfl,rfl⟩
   ·exact⟨rfl,rfl⟩
 rcases Zoz hk with e|e|e|e|e|e|e|e|e
 ·rw[Znu e];exact⟨fun _=>rfl,fun _=>rfl⟩
 ·rw[Zmi e];exact⟨fun _=>rfl,fun _=>rfl⟩
 ·rw[Zou e];exact⟨fun _=>rfl,fun _=>rfl⟩
 ·rw[Zor e];exact⟨fun _=>rfl,fun _=>rfl⟩
 ·exact⟨fun _=>by rw[Zop e],fun h=>absurd e h⟩
 ·rw[Zoo e];exact⟨fun _=>(hst _ _).1,fun _=>(hst _ _).2⟩
 ·exact⟨fun h=>absurd e h,fun _=>by rw[Zon e]⟩
 ·rw[Zky e];exact⟨fun _=>rfl,fun _=>rfl⟩
 ·rw[Zmd e];unfold Zll;split
  ·exact⟨fun _=>rfl,fun _=>rfl⟩
  ·exact⟨fun _=>(hst _ _).1,fun _=>(hst _ _).2⟩
end Go.Proofs.YtbinohkcolcbfaaGreat
set_option maxRecDepth 100000
set_option maxHeartbeats 16000000
namespace Go.Proofs.YtbinohkcolcbfaaGreat
open Go.RowKit Go.Proofs.Tryz
set_option linter.unusedVariables false
set_option linter.unusedSimpArgs false
def NumT(T:Nat->Prop)(w:World)(p:Option Addr)(l:List Int):Prop:=l=[]\/∃b o,p=some ⟨b,o,none⟩/\¬T b/\b<w.heap.size/\∀j,j<l.length->w.cell? ⟨b,o+j,none⟩=some (.int .i64 (atL l j))
section
variable {T U : Nat -> Prop} {w w' : World} {p : Option Addr} {l : List Int}
theorem NumT.num(h:NumT T w p l):NumR w p l:=by
 rcases h with rfl|⟨b,o,e,-,-,h⟩
 ·exact .inl rfl
 ·exact .inr ⟨b,o,e,h⟩
theorem NumT.un(h:NumT T w p l)(q:Un U w w')(hu:∀b,b<w.heap.size->U b->T b):NumT T w' p l:=
 h.imp id fun⟨b,o,e,ht,hb,h⟩=>⟨b,o,e,ht,Nat.lt_of_lt_of_le hb q.size,fun j hj=>(World.cell?_of_block (q.block b hb fun k=>ht (hu b hb k))).trans (h j hj)⟩
theorem NumT.below(h:NumT T w p l)(q:Below w.heap.size w w'):NumT T w' p l:=h.un (U:=fun _=>False) (Un.of q) (fun _ _ e=>e.elim)
theorem NumT.mono(h:NumT T w p l)(hu:∀b,b<w.heap.size->U b->T b):NumT U w p l:=
 h.imp id fun⟨b,o,e,ht,hb,h⟩=>⟨b,o,e,fun k=>ht (hu b hb k),hb,h⟩
theorem NumR.free{B:Nat}(h:NumR w p l)(hl:∀b o s,p=some ⟨b,o,s⟩->B<=b)(ht:∀b,T b->b<B):NumT T w p l:=by
 by_cases h0:l=[]
 ·exact .inl h0
 ·rcases h with h|⟨b,o,e,h⟩
  ·exact absurd (List.length_eq_zero_iff.1 h) h0
  ·have:=List.length_pos_iff.2 h0;exact .inr ⟨b,o,e,fun k=>by have h1:=ht b k;have h2:=hl b o none e;omega,Zhr (h 0 this),h⟩
end
structure CsT(T:Nat->Prop)(w:World)(v:Value)(X:List Cl):Prop where
 row:RowT T 2 clC w v X
 nums:∀x∈X,NumT T w x.p x.h.pats
structure OuT(T:Nat->Prop)(w:World)(v:Value)(X:List Cl):Prop where
 row:RowT T 1 ouC w v X
 nums:∀x∈X,NumT T w x.p x.h.pats
section
variable {T U : Nat -> Prop} {w w' : World} {v : Value} {X : List Cl}
theorem CsT.cs(h:CsT T w v X):CsV w v X:=⟨h.row.row,fun x hx=>(h.nums x hx).num⟩
theorem CsT.un(h:CsT T w v X)(q:Un U w w')(hu:∀b,b<w.heap.size->U b->T b):CsT T w' v X:=⟨h.row.un q hu,fun x hx=>(h.nums x hx).un q hu⟩
theorem CsT.below(h:CsT T w v X)(q:Below w.heap.size w w'):CsT T w' v X:=⟨h.row.below q,fun x hx=>(h.nums x hx).below q⟩
theorem CsT.mono(h:CsT T w v X)(hu:∀b,b<w.heap.size->U b->T b):CsT U w v X:=⟨h.row.mono hu,fun x hx=>(h.nums x hx).mono hu⟩
theorem OuT.un(h:OuT T w v X)(q:Un U w w')(hu:∀b,b<w.heap.size->U b->T b):OuT T w' v X:=⟨h.row.un q hu,fun x hx=>(h.nums x hx).un q hu⟩
theorem OuT.below(h:OuT T w v X)(q:Below w.heap.size w w'):OuT T w' v X:=⟨h.row.below q,fun x hx=>(h.nums x hx).below q⟩
theorem OuT.mono(h:OuT T w v X)(hu:∀b,b<w.heap.size->U b->T b):OuT U w v X:=⟨h.row.mono hu,fun x hx=>(h.nums x hx).mono hu⟩
end
theorem Zsi{α:Type}{f:α->List Value}{k:Nat}(hf:∀x,(f x).length=k){w:World}{B:Nat}{t:TypeId}{v:Value}{l:List α}(h:w.ownsRow B t k v l.length (flat f l)){T:Nat->Prop}(ht:∀b,T b->b<B):RowT T k f w v l:=by
 have hr:=Zny hf h;obtain⟨p,c,rfl,hr⟩:=hr;refine⟨p,c,rfl,hr.imp id fun⟨b,o,e,hc⟩=>⟨b,o,e,fun k=>?_,?_,hc⟩⟩
 ·have h1:=Znt h b o none e;have h2:=ht b k;omega
 ·subst e;exact(h.lt b rfl).2
theorem Zyc(x:Cl):∀ (X:List Cl) (d:Nat),d<X.length->((flat clC X).set (d*2) (.slice x.p x.h.pats.length x.q)).set (d*2+1) (.int .i64 x.h.whole)=flat clC (X.set d x)
 |[],d,h=>by simp at h
 |y::X,0,h=>rfl
 |y::X,d+1,h=>by
  have ih:=Zyc x X d Zgb;have e:flat clC (y::X)=.slice y.p y.h.pats.length y.q:: .int .i64 y.h.whole::flat clC X:=rfl;rw[e,show(d+1)*2=d*2+1+1 by omega];simp only[List.set_cons_succ];rw[ih];rfl
theorem rput_T{T:Nat->Prop}(v:Value)(X:List Cl)(hX:X.length<=16384)(d:Nat)(hd:d<X.length)(x:Cl)(w:World)(hT:∀b,T b->b<w.heap.size)(h:CsT T w v X)(hx:NumT T w x.p x.h.pats):
 Calls prog 86 #[v,.int .i64 (d:Int),.agg #[.slice x.p x.h.pats.length x.q,.int .i64 x.h.whole]] w fun e w'=>∃p q,e=.returned (.slice p X.length q)/\CsT T w' (.slice p X.length q) (X.set d x)/\Below w.heap.size w w':=by
 obtain⟨i0,hi0,hz0,hz1,hz2⟩:=info_parts Ztt;have hb0:=Zhq w (.cells #[.slice x.p x.h.pats.length x.q,.int .i64 x.h.whole] 84);obtain⟨u,w',hr,hb,hown⟩:=Zoy dE Zry Zaef underlying36 hi0 hz0 hz1 hz2 rfl (h.row.row.below hb0) mL oM 36;obtain⟨g,cap,rfl,hg,hgl⟩:=hown.form oM;have hs0:(w.alloc (.cells #[.slice x.p x.h.pats.length x.q,.int .i64 x.h.whole] 84)).heap.size=w.heap.size+1:=sM;have s1:=hown.stored (d*2) (.slice x.p x.h.pats.length x.q);have s2:=s1.1.stored (d*2+1) (.int .i64 x.h.whole);have hfin:=s2.1;rw[Zyc x X d hd]at hfin;have hfl:(flat clC X).length=X.length*2:=Zov Zry X;have y0:∃z,w'.cell? ⟨g,d*2,none⟩=some z:=by
  refine⟨(flat clC X)[d*2]'oM,?_⟩;rw[hown.cellAt (d*2) oM,List.getElem?_eq_getElem]
 have y1:∃z,w'.cell? ⟨g,d*2+1,none⟩=some z:=by
  refine⟨(flat clC X)[d*2+1]'oM,?_⟩;rw[hown.cellAt (d*2+1) oM,List.getElem?_eq_getElem]
 have f0:=hown.frozenAt (d*2);have f1:=hown.frozenAt (d*2+1);have c0:w'.cell? ⟨w.heap.size,0,none⟩=some (.slice x.p x.h.pats.length x.q):=kc hb sG;have c1:w'.cell? ⟨w.heap.size,1,none⟩=some (.int .i64 x.h.whole):=kc hb sG;obtain⟨z0,y0⟩:=y0;obtain⟨z1,y1⟩:=y1;have hbF:Below w.heap.size w ((w'.setCell ⟨g,d*2,none⟩ (.slice x.p x.h.pats.length x.q)).setCell ⟨g,d*2+1,none⟩ (.int .i64 x.h.whole)):=((bel hb0 hb).setCell Zhl _).setCell Zhl _;have HFIN:Hid (CsT T ((w'.setCell ⟨g,d*2,none⟩ (.slice x.p x.h.pats.length x.q)).setCell ⟨g,d*2+1,none⟩ (.int .i64 x.h.whole)) (.slice (some ⟨g,0,none⟩) X.length cap) (X.set d x)/\Below w.heap.size w ((w'.setCell ⟨g,d*2,none⟩ (.slice x.p x.h.pats.length x.q)).setCell ⟨g,d*2+1,none⟩ (.int .i64 x.h.whole))):=by
  refine⟨⟨Zsi Zry (by rw[List.length_set];exact hfin) (fun b hb=>by have:=hT b hb;omega),fun y hy=>?_⟩,hbF⟩;rcases List.mem_or_eq_of_mem_set hy with e|rfl
  ·exact(h.nums y e).below hbF
  ·exact hx.below hbF
 have HR:Hid _:=hr;obtain⟨p,q,rfl,-⟩:=id h.row;obtain⟨N,hN⟩:∃N,X.length=N:=⟨_,rfl⟩
 rw[hN]at hd hX HR HFIN ⊢;have d0:(0:Int)<=(d:Int):=oM;have d1:(d:Int)<(N:Int):=oM;clear hr hb hown s1 s2 hfin hfl hbF h hN hT;go_enter func86,ntmps86;go_wp2_with(at_builtin;refine Zit rF _ _ _ rF _ _ _ rF rF HR.out ?_);go_ret;exact⟨_,_,rfl,HFIN.out.1,HFIN.out.2⟩
def f10(a b c d e f g h i j:Value)(k:Nat):Value:=if k=0 then a else if k=1 then b else if k=2 then c else if k=3 then d else if k=4 then e else if k=5 then f else if k=6 then g else if k=7 then h else if k=8 then i else j
theorem Zwo(a b c d e f g h i j:Value):∀k,k<(#[a,b,c,d,e,f,g,h,i,j]:Array Value).size->(#[a,b,c,d,e,f,g,h,i,j]:Array Value)[k]? =some (f10 a b c d e f g h i j k):=by
 intro k hk;have hk':k<10:=hk;obtain rfl|rfl|rfl|rfl|rfl|rfl|rfl|rfl|rfl|rfl:k=0\/k=1\/k=2\/k=3\/k=4\/k=5\/k=6\/k=7\/k=8\/k=9:=oM
 all_goals rfl
def f7(a b c d e f g:Value)(k:Nat):Value:=if k=0 then a else if k=1 then b else if k=2 then c else if k=3 then d else if k=4 then e else if k=5 then f else g
theorem f7_ok(a b c d e f g:Value):∀k,k<(#[a,b,c,d,e,f,g]:Array Value).size->(#[a,b,c,d,e,f,g]:Array Value)[k]? =some (f7 a b c d e f g k):=by
 intro k hk;have hk':k<7:=hk;obtain rfl|rfl|rfl|rfl|rfl|rfl|rfl:k=0\/k=1\/k=2\/k=3\/k=4\/k=5\/k=6:=oM
 all_goals rfl
def f2(a b:Value)(k:Nat):Value:=if k=0 then a else b
theorem f2_ok(a b:Value):∀k,k<(#[a,b]:Array Value).size->(#[a,b]:Array Value)[k]? =some (f2 a b k):=by
 intro k hk;have hk':k<2:=hk;obtain rfl|rfl:k=0\/k=1:=oM
 all_goals rfl
structure DW(w:World)(F I D:Nat->Value)(v:World):Prop where
 bel:Below w.heap.size w v
 f:v.rowIs w.heap.size 125 10 F
 i:v.rowIs (w.heap.size+1) 45 7 I
 r:v.rowIs (w.heap.size+1+1) 125 10 (f10 (.slice none 0 0) (.slice none 0 0) (.slice none 0 0) (.slice none 0 0) (.slice none 0 0) (.slice none 0 0) (.slice none 0 0) (.slice none 0 0) (.slice none 0 0) (.int .i64 0))
 d:v.rowIs (w.heap.size+1+1+1) 84 2 D
theorem DW.next{w:World}{F I D:Nat->Value}{v v':World}(h:DW w F I D v)(k:Below v.heap.size v v'):DW w F I D v':=
 ⟨Go.Proofs.YtbinohkcolcbfaaGreat.bel h.bel k,h.f.of_block (k.block _ h.f.lt),h.i.of_block (k.block _ h.i.lt),h.r.of_block (k.block _ h.r.lt),h.d.of_block (k.block _ h.d.lt)⟩
theorem DW.size{w:World}{F I D:Nat->Value}{v:World}(h:DW w F I D v):w.heap.size+1+1+1<v.heap.size:=h.d.lt
theorem DW.put{w:World}{F I D:Nat->Value}{v:World}(h:DW w F I D v)(i:Nat)(x:Value):DW w F I (fun j=>if j=i then x else D j) (v.setCell ⟨w.heap.size+1+1+1,i,none⟩ x):=
 ⟨h.bel.setCell (by show w.heap.size<=w.heap.size+1+1+1;omega) _,h.f.setOther (by show w.heap.size≠w.heap.size+1+1+1;omega) _,h.i.setOther (by show w.heap.size+1≠w.heap.size+1+1+1;omega) _,h.r.setOther (by show w.heap.size+1+1≠w.heap.size+1+1+1;omega) _,h.d.set i x⟩
theorem DW.congr{w:World}{F I D D':Nat->Value}{v:World}(h:DW w F I D v)(k:∀j,j<2->D j=D' j):DW w F I D' v:=⟨h.bel,h.f,h.i,h.r,h.d.congr k⟩
theorem DW.start(w:World)(a0 a1 a2 a3 a4 a5 a6 a7 a8 a9 b0 b1 b2 b3 b4 b5 b6:Value):DW w (f10 a0 a1 a2 a3 a4 a5 a6 a7 a8 a9) (f7 b0 b1 b2 b3 b4 b5 b6) (f2 (.slice none 0 0) (.int .i64 0)) ((((w.alloc (.cells #[a0,a1,a2,a3,a4,a5,a6,a7,a8,a9] 125)).alloc (.cells #[b0,b1,b2,b3,b4,b5,b6] 45)).alloc (.cells #[.slice none 0 0,.slice none 0 0,.slice none 0 0,.slice none 0 0,.slice none 0 0,.slice none 0 0,.slice none 0 0,.slice none 0 0,.slice none 0 0,.int .i64 0] 125)).alloc (.cells #[.slice none 0 0,.int .i64 0] 84)):=by
 have r1:=World.rowIs_alloc w #[a0,a1,a2,a3,a4,a5,a6,a7,a8,a9] 125 _ (Zwo _ _ _ _ _ _ _ _ _ _);have r2:=World.rowIs_alloc (w.alloc (.cells #[a0,a1,a2,a3,a4,a5,a6,a7,a8,a9] 125)) #[b0,b1,b2,b3,b4,b5,b6] 45 _ (f7_ok _ _ _ _ _ _ _);have r3:=World.rowIs_alloc ((w.alloc (.cells #[a0,a1,a2,a3,a4,a5,a6,a7,a8,a9] 125)).alloc (.cells #[b0,b1,b2,b3,b4,b5,b6] 45)) #[.slice none 0 0,.slice none 0 0,.slice none 0 0,.slice none 0 0,.slice none 0 0,.slice none 0 0,.slice none 0 0,.slice none 0 0,.slice none 0 0,.int .i64 0] 125 _ (Zwo _ _ _ _ _ _ _ _ _ _);have r4:=World.rowIs_alloc (((w.alloc (.cells #[a0,a1,a2,a3,a4,a5,a6,a7,a8,a9] 125)).alloc (.cells #[b0,b1,b2,b3,b4,b5,b6] 45)).alloc (.cells #[.slice none 0 0,.slice none 0 0,.slice none 0 0,.slice none 0 0,.slice none 0 0,.slice none 0 0,.slice none 0 0,.slice none 0 0,.slice none 0 0,.int .i64 0] 125)) #[.slice none 0 0,.int .i64 0] 84 _ (f2_ok _ _);simp only[World.size_alloc]at r2 r3 r4;exact⟨Go.Proofs.YtbinohkcolcbfaaGreat.bel (Zhq _ _) (Go.Proofs.YtbinohkcolcbfaaGreat.bel (Zhq _ _) (Go.Proofs.YtbinohkcolcbfaaGreat.bel (Zhq _ _) (Zhq _ _))),((r1.alloc _).alloc _).alloc _,(r2.alloc _).alloc _,r3.alloc _,r4⟩
end Go.Proofs.YtbinohkcolcbfaaGreat
