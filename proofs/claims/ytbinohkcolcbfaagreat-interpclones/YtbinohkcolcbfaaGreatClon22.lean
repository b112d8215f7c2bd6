import Derived.Test.YtbinohkcolcbfaaGreatClon1
import Derived.Test.YtbinohkcolcbfaaGreatClon21
import Derived.Test.YtbinohkcolcbfaaGreatClon13
import Derived.Test.YtbinohkcolcbfaaGreatClon19
import Derived.Test.YtbinohkcolcbfaaGreatClon20
namespace Go.Proofs.YtbinohkcolcbfaaGreat
open Go.RowKit Go.Proofs.Tryz
set_option linter.all false
set_option maxRecDepth 100000
set_option maxHeartbeats 16000000
def J8(c:Cd)(l:List Hd):Nat->List Hd
 |0=>l
 |j+1=>match c.slots[j]? with
  |some s=>if s.keep then J8 c l j else(J8 c l j).set j (AK c s)
  |none=>J8 c l j
def Cf(c:Cd)(l:List Hd):Fr:=⟨fun _=>0,fun _=>0,fun _=>[],J8 c l c.slots.length,fun _ _=>0⟩
def CI(c:Cd)(l:List Hd)(G P:List (List Int)):Fr:=(VT c G P (Cf c l,0) c.list).1
theorem Ga(c:Cd)(l:List Hd):∀j,(J8 c l j).length=l.length
 |0=>rfl
 |j+1=>by
  unfold J8;split
  ·split
   ·exact Ga c l j
   ·rw[List.length_set];exact Ga c l j
  ·exact Ga c l j
theorem Ay.put{T:Nat->Prop}{B:Nat}{w:World}{R:Nat}{a:BY}{X:Nat->Value}{c:Cd}{l:List Hd}(h:Ay T B w R a X c l){d:Nat}(hd:d<l.length){v:Value}{hh:Hd}(hv:Pt T w v hh.pats)(ho:∀h':d<c.slots.length,Kr c c.slots[d].ty hh):
 ∃X',Ay T B ((w.setCell ⟨a.S,d*2,none⟩ v).setCell ⟨a.S,d*2+1,none⟩ (.int .i64 hh.whole)) R a X' c (l.set d hh):=by
 have hU:Un (fun b=>b=a.S) w ((w.setCell ⟨a.S,d*2,none⟩ v).setCell ⟨a.S,d*2+1,none⟩ (.int .i64 hh.whole)):=((Un.refl (fun b=>b=a.S) w).setCell (p:=⟨a.S,d*2,none⟩) rF _).setCell (p:=⟨a.S,d*2+1,none⟩) rF _;have hu:∀b,b<w.heap.size->b=a.S->T b:=fun b _ e=>e▸h.hS;refine⟨fun j=>if j=d*2+1 then .int .i64 hh.whole else if j=d*2 then v else X j,h.hS,h.hR,Nat.lt_of_lt_of_le h.ltR hU.size,h.run.of_block (hU.block _ h.ltR fun e=>h.hR (hu _ h.ltR e)),h.code.un hU hu,⟨(h.slots.row.set (d*2) v).set (d*2+1) _,?_,by simpa using h.slots.le,fun j hj=>?_,fun j hj=>?_⟩,by simp[h.len],fun j h1 h2=>?_,h.bR,h.bC,h.bS⟩
 ·rcases h.slots.sp with e|e
  ·rw[e]at hd;exact absurd hd (Nat.not_lt_zero _)
  ·exact .inr e
 ·exact Zef
 ·exact Zdu
 ·simp only[List.length_set]at h2;simp only[List.getElem_set];by_cases e:d=j
  ·subst e;rw[if_pos rfl];exact ho h1
  ·rw[if_neg e];exact h.ok j h1 h2
theorem Br.vs{T:Nat->Prop}{w:World}{v:Value}{L:List (List Int)}(h:Br T w v L):Vs w v (L.map fun l=>l.length):=by
 obtain⟨p,c,hv,hh⟩:=h;refine⟨p,c,by rw[List.length_map];exact hv,?_⟩;rcases hh with e|⟨b,o,hp,_,_,hh⟩
 ·exact .inl (by rw[e];rfl)
 ·refine .inr ⟨b,o,hp,fun i hi=>?_⟩;rw[List.length_map]at hi;obtain⟨u,h1,h2⟩:=hh i hi;obtain⟨q,d,hq⟩:=h2.len;refine⟨q,d,?_⟩;rw[h1,hq];simp
structure CH(L:List (List Int)):Prop where
 len:L.length<=140737488351232
 lens:∀l∈L,l.length<=140737488351232
 isP:∀l∈L,∀y∈l,Ag y
theorem I5{c:Cd}{L:List (List Int)}(h:AC c.sign (L.map fun l=>l.length)=true)(hk:CH L)(hg:Good c):Cg c L:=by
 have C5:∀ (ps:List BO) (M:List (List Int)),(∀p∈ps,BI p=true/\1<=p.len)->AC ps (M.map fun l=>l.length)=true->M.length=ps.length/\∀p (h:p<M.length),(M[p]).length=(ps[p]?).elim 0 Jj:=by
  intro ps;induction ps with
  |nil=>intro M _ h;cases M with
   |nil=>exact⟨rfl,fun p h=>absurd h (Nat.not_lt_zero _)⟩
   |cons a M=>simp[AC]at h
  |cons q ps ih=>
   intro M hm h;cases M with
   |nil=>simp[AC]at h
   |cons a M=>
    simp only[List.map_cons,AC,Bool.and_eq_true,decide_eq_true_eq]at h;obtain⟨i1,i2⟩:=ih M (fun p hp=>hm p (by simp[hp])) h.2;refine⟨by simp[i1],fun p hp=>?_⟩;cases p with
    |zero=>
     show a.length=Jj q;unfold Jj;omega
    |succ p=>exact i2 p (by simpa using hp)
 obtain⟨k1,k2⟩:=C5 c.sign L (fun p hp=>⟨hg.kind p hp,(hg.len p hp).1⟩) h;exact⟨k1,k2,hk.isP⟩
theorem J3{T:Nat->Prop}{B:Nat}(w:World)(R:Nat)(a:BY)(X:Nat->Value)(c:Cd)(l:List Hd)(h:Ay T B w R a X c l)(hg:Good c)(hnm:∀p∈c.sign,p.name.size<=140737488351232)(gv pv:Value)(G P:List (List Int))(hgv:Br T w gv G)(hpv:Br T w pv P)(kG:CH G)(kP:CH P)(hf:Db c G P=false):
 Calls prog 10 #[.pointer (some ⟨R,0,none⟩),gv,pv] w fun e w'=>e=.returned (.tuple #[.slice none 0 0,.int .i64 170])/\Below w.heap.size w w':=by
 have r0:w.cell? ⟨R,0,none⟩=some (.pointer (some ⟨a.C,0,none⟩)):=h.run.at 0 rfl;have c0:=h.code.c0;obtain⟨p0,q0,hv0⟩:∃p q,a.v0=.slice p c.sign.length q:=by obtain⟨p,q,e,_⟩:=h.code.sign;exact⟨p,q,e⟩
 have KF:∀ (u:Value) (L:List (List Int)),Br T w u L->CH L->∀v,Below w.heap.size w v->Calls prog 25 #[a.v0,u] v fun e w'=>e=.returned (.bool (AC c.sign (L.map fun l=>l.length)))/\Below v.heap.size v w':=fun u L hu hk v hv=>Kf a.v0 u c.sign _ (by have:=hg.signL;omega) (by rw[List.length_map];exact hk.len) hnm (fun n hn=>by obtain⟨l,hl,rfl⟩:=List.mem_map.1 hn;exact hk.lens l hl) v (h.code.sign.row.rd |> fun q=>(B3.rd (h.code.sign.row.below hv))) ((hu.below hv).vs);have KG:=A9 (KF gv G hgv kG);have KP:=A9 (KF pv P hpv kP);rw[hv0]at c0;simp only[hv0]at KG KP;obtain⟨gp,gq,hgp⟩:∃p q,gv=.slice p G.length q:=by obtain⟨p,q,e,_⟩:=hgv;exact⟨p,q,e⟩
 obtain⟨pp,pq,hpp⟩:∃p q,pv=.slice p P.length q:=by obtain⟨p,q,e,_⟩:=hpv;exact⟨p,q,e⟩
 subst hgp hpp;unfold Db at hf;obtain⟨fG,hfG⟩:∃fG,AC c.sign (G.map fun l=>l.length)=fG:=⟨_,rfl⟩
 obtain⟨fP,hfP⟩:∃fP,AC c.sign (P.map fun l=>l.length)=fP:=⟨_,rfl⟩
 have e1:AC c.sign (G.map (·.length))=fG:=hfG;have e2:AC c.sign (P.map (·.length))=fP:=hfP;rw[e1,e2]at hf;simp only[hfG,hfP]at KG KP;obtain⟨N0,hN0⟩:∃N,c.sign.length=N:=⟨_,rfl⟩
 obtain⟨C,hC⟩:∃C,a.C=C:=⟨_,rfl⟩
 rw[hC]at r0 c0;rw[hN0]at c0;simp only[hN0]at KG KP;have HR:=A9 r0;have HC:=A9 c0;clear h hg hnm hgv hpv kG kP KF e1 e2 hfG hfP hv0 hN0 hC;cases fG with
 |false=>
  go_enter func10,ntmps10;go_wp2_with(go_at_call 25;with_reducible refine(KG.out _ (B8 _)).mono ?_;rintro e w1 ⟨rfl,hb1⟩);go_returns;exact⟨rfl,hb1⟩
 |true=>
  have hfp:fP=false:=by simpa using hf
  subst hfp;clear hf;go_enter func10,ntmps10;go_wp2_with(first
   |(go_at_call 25;(with_reducible refine(KG.out _ (B8 _)).mono ?_);rintro e w1 ⟨rfl,hb1⟩;have r1:=kc hb1 r0;have c1:=kc hb1 c0)
   |(go_at_call 25;(with_reducible refine(KP.out _ hb1).mono ?_);rintro e w2 ⟨rfl,hb2⟩))
  go_returns;exact⟨rfl,bel hb1 hb2⟩
def YB(T:Nat->Prop)(B:Nat)(w w':World)(R:Nat)(a:BY)(c:Cd)(f:Fr)(UB:Nat):Prop:=
 ∃ (E E':Nat) (ub:Nat->Nat) (X':Nat->Value),w.heap.size<=E/\Ay (AB T E E') B w' R a X' c f.slots/\E<=UB/\UB<E'/\E'<=w'.heap.size/\w'.rowIs UB 57 c.sign.length (fun p=>.slice (some ⟨ub p,0,none⟩) (AZ c p) (AZ c p))/\(∀p,p<c.sign.length->E<=ub p/\ub p<E'/\ub p≠UB/\w'.rowIs (ub p) 43 (AZ c p) (fun j=>.int .u32 (f.outs p j)))/\∀p q,p<c.sign.length->q<c.sign.length->ub p=ub q->p=q
theorem Vv{T:Nat->Prop}{B:Nat}{w w1 w':World}{R:Nat}{a:BY}{X1:Nat->Value}{c:Cd}{l1:List Hd}(h1:Ay T B w1 R a X1 c l1)(hT:∀b,T b->b<w.heap.size)(hu1:Un (fun b=>b=a.S) w w1){FR NB WB MB UB:Nat}{ub:Nat->Nat}{E':Nat}{gv pv:Value}{G P:List (List Int)}{f:Fr}{X:Nat->Value}{M:Nat}{m:Nat->Option Value}
 (x:FX T w1.heap.size E' {a with FR:=FR,NB:=NB,WB:=WB,MB:=MB,UB:=UB,ub:=ub,gv:=gv,pv:=pv} c G P w') (h:FV T w1.heap.size E' {a with FR:=FR,NB:=NB,WB:=WB,MB:=MB,UB:=UB,ub:=ub,gv:=gv,pv:=pv} c w' X M m f) (ok:EC c f) {w2:World} (hb2:Below w1.heap.size w1 w2) (un:Un (J0 {a with FR:=FR,NB:=NB,WB:=WB,MB:=MB,UB:=UB,ub:=ub,gv:=gv,pv:=pv} w1.heap.size E') w2 w'):
 (∃X',Ay T B w' R a X' c f.slots)/\Un (fun b=>b=a.S) w w'/\Br (fun b=>b<w.heap.size) w' (.slice (some ⟨UB,0,none⟩) c.sign.length c.sign.length) (DK c f)/\YB T B w w' R a c f UB:=by
 have hs1:=hu1.size;have hs2:=hb2.size;have hun:Un (fun b=>b=a.S) w1 w':=⟨un.os.trans hb2.os,un.tape.trans hb2.tape,un.output.trans hb2.output,Nat.le_trans hs2 un.size,fun b hb hne=>(un.block b oM (fun e=>e.elim hne fun k=>by omega)).trans (hb2.block b hb)⟩
 have hsub:∀b,b<w'.heap.size->T b->AB T w1.heap.size E' b:=fun b _ e=>.inl e;refine⟨⟨X,h1.hS,h1.hR,Nat.lt_of_lt_of_le h1.ltR hun.size,h1.run.of_block (hun.block _ h1.ltR fun e=>h1.hR (e▸h1.hS)),h1.code.un hun (fun b _ e=>e▸h1.hS),?_,h.slotsL,ok.slots,h1.bR,h1.bC,h1.bS⟩,hu1.trans hun,?_,?_⟩
 ·have:=h.slots.mono hsub;exact⟨this.row,this.sp,this.le,this.whole,this.pats⟩
 ·have hUB:=x.iUB;have hupd:w'.rowIs UB 57 c.sign.length (fun p=>.slice (some ⟨ub p,0,none⟩) (AZ c p) (AZ c p)):=x.upd;have hUB':w1.heap.size<=UB:=hUB.1;have hlen:(DK c f).length=c.sign.length:=by unfold DK;simp
  refine⟨some ⟨UB,0,none⟩,c.sign.length,by rw[hlen],.inr ⟨UB,0,rfl,oM,hupd.lt,fun i hi=>?_⟩⟩;rw[hlen]at hi;refine⟨_,by rw[Nat.zero_add];exact hupd.cell hi,?_⟩;have ho:w'.rowIs (ub i) 43 (AZ c i) (fun j=>.int .u32 (f.outs i j)):=h.outs i hi;have hub:w1.heap.size<=ub i:=(x.iub i hi).1;have hel:(DK c f)[i]'(by rw[hlen];exact hi)=(List.range (AZ c i)).map (f.outs i):=by
   unfold DK AZ;simp
  rw[hel];exact Pt.of_row ho oM sM (fun j hj=>Kv (α:=Int) _ _ _ hj) _
 ·have hs:=h.slots;refine⟨w1.heap.size,E',ub,X,hs1,⟨.inl h1.hS,?_,Nat.lt_of_lt_of_le h1.ltR hun.size,h1.run.of_block (hun.block _ h1.ltR fun e=>h1.hR (e▸h1.hS)),(h1.code.mono (fun b hb e=>e.elim id fun k=>by omega)).un hun (fun b _ e=>.inl (e▸h1.hS)),⟨hs.row,hs.sp,hs.le,hs.whole,hs.pats⟩,h.slotsL,ok.slots,h1.bR,h1.bC,h1.bS⟩,x.iUB.1,x.iUB.2,x.hE',x.upd,fun p hp=>⟨(x.iub p hp).1,(x.iub p hp).2,(x.d2 p hp).2.2.2.2,h.outs p hp⟩,x.d3⟩;exact fun e=>e.elim h1.hR fun k=>by have:=h1.ltR;omega
theorem J4{T:Nat->Prop}{B:Nat}(w:World)(R:Nat)(a:BY)(X:Nat->Value)(c:Cd)(l:List Hd)(h:Ay T B w R a X c l)(hc:(Ar c).1=0)(hk:B0 c)(hT:∀b,T b->b<w.heap.size)(gv pv:Value)(G P:List (List Int))(hgv:Br T w gv G)(hpv:Br T w pv P)(kG:CH G)(kP:CH P)(hf:Db c G P=true):
 Calls prog 10 #[.pointer (some ⟨R,0,none⟩),gv,pv] w fun e w'=>∃UB,e=.returned (.tuple #[.slice (some ⟨UB,0,none⟩) c.sign.length c.sign.length,.int .i64 0])/\(∃X',Ay T B w' R a X' c (CI c l G P).slots)/\Un (fun b=>b=a.S) w w'/\Br (fun b=>b<w.heap.size) w' (.slice (some ⟨UB,0,none⟩) c.sign.length c.sign.length) (DK c (CI c l G P))/\YB T B w w' R a c (CI c l G P) UB:=by
 obtain⟨hg,htk⟩:=D2 hc;have hnm:=hk.names;have r0:w.cell? ⟨R,0,none⟩=some (.pointer (some ⟨a.C,0,none⟩)):=h.run.at 0 rfl;have c0:=h.code.c0;have c2:w.cell? ⟨a.C,2,none⟩=some a.v2:=h.code.cells.at 2 rfl;obtain⟨p0,q0,hv0⟩:∃p q,a.v0=.slice p c.sign.length q:=by obtain⟨p,q,e,_⟩:=h.code.sign;exact⟨p,q,e⟩
 obtain⟨p2,q2,hv2⟩:∃p q,a.v2=.slice p c.slots.length q:=by obtain⟨p,q,e,_⟩:=h.code.slots;exact⟨p,q,e⟩
 have KF:∀ (u:Value) (L:List (List Int)),Br T w u L->CH L->∀v,Below w.heap.size w v->Calls prog 25 #[a.v0,u] v fun e w'=>e=.returned (.bool (AC c.sign (L.map fun l=>l.length)))/\Below v.heap.size v w':=fun u L hu hk v hv=>Kf a.v0 u c.sign _ (by have:=hg.signL;omega) (by rw[List.length_map];exact hk.len) hnm (fun n hn=>by obtain⟨l,hl,rfl⟩:=List.mem_map.1 hn;exact hk.lens l hl) v (B3.rd (h.code.sign.row.below hv)) ((hu.below hv).vs);have hfG:AC c.sign (G.map fun l=>l.length)=true:=by unfold Db at hf;simp only[Bool.and_eq_true]at hf;exact hf.1
 have hfP:AC c.sign (P.map fun l=>l.length)=true:=by unfold Db at hf;simp only[Bool.and_eq_true]at hf;exact hf.2
 have KG:=A9 (KF gv G hgv kG);have KP:=A9 (KF pv P hpv kP);simp only[hfG,hfP,hv0]at KG KP;have fg:=I5 hfG kG hg;have fp:=I5 hfP kP hg;rw[hv0]at c0;rw[hv2]at c2;obtain⟨gp,gq,hgp⟩:∃p q,gv=.slice p G.length q:=by obtain⟨p,q,e,_⟩:=hgv;exact⟨p,q,e⟩
 obtain⟨pp,pq,hpp⟩:∃p q,pv=.slice p P.length q:=by obtain⟨p,q,e,_⟩:=hpv;exact⟨p,q,e⟩
 subst hgp hpp;have HH:=A9 h;have HG:Hid (Good c/\B0 c/\(∀b,T b->b<w.heap.size)/\Cg c G/\Cg c P/\Cr c ⟨[],[]⟩ c.list=true):=⟨hg,hk,hT,fg,fp,htk⟩
 have HGV:Hid (Br T w (.slice gp G.length gq) G/\Br T w (.slice pp P.length pq) P):=⟨hgv,hpv⟩
 have HV2:=A9 hv2;have hm4:=hg.slotsL;have KNF:Hid (∀ (v:World) (X:Nat->Value) (l:List Hd),Ay T B v R a X c l->(∀b,T b->b<v.heap.size)->Br T v (.slice gp G.length gq) G->Br T v (.slice pp P.length pq) P->Calls prog 26 #[.pointer (some ⟨R,0,none⟩),.slice gp G.length gq,.slice pp P.length pq] v fun e w'=>∃FR NB WB MB UB ub E',e=.returned (.pointer (some ⟨FR,0,none⟩))/\FX T v.heap.size E' {a with FR:=FR,NB:=NB,WB:=WB,MB:=MB,UB:=UB,ub:=ub,gv:=.slice gp G.length gq,pv:=.slice pp P.length pq} c G P w'/\FV T v.heap.size E' {a with FR:=FR,NB:=NB,WB:=WB,MB:=MB,UB:=UB,ub:=ub,gv:=.slice gp G.length gq,pv:=.slice pp P.length pq} c w' X 0 (fun _=>none) ⟨fun _=>0,fun _=>0,fun _=>[],l,fun _ _=>0⟩/\Below v.heap.size v w'):=fun v X l hr ht h1 h2=>Lr v R a X c l hr hg ht hnm _ _ G P h1 h2;obtain⟨N0,hN0⟩:∃N,c.sign.length=N:=⟨_,rfl⟩
 obtain⟨N2,hN2⟩:∃N,c.slots.length=N:=⟨_,rfl⟩
 obtain⟨C,hC⟩:∃C,a.C=C:=⟨_,rfl⟩
 obtain⟨gl,hgl⟩:∃gl,G.length=gl:=⟨_,rfl⟩
 obtain⟨pl,hpl⟩:∃pl,P.length=pl:=⟨_,rfl⟩
 have HE:Hid (c.sign.length=N0/\c.slots.length=N2/\a.C=C):=⟨hN0,hN2,hC⟩
 rw[hC]at r0 c0 c2;rw[hN0]at c0;rw[hN2]at c2 hm4;simp only[hN0,hgl,hpl]at KG KP KNF HGV ⊢;have HB0:Hid (∀v,Below w.heap.size w v->v.cell? ⟨R,0,none⟩=some (.pointer (some ⟨C,0,none⟩))/\v.cell? ⟨C,0,none⟩=some (.slice p0 N0 q0)/\v.cell? ⟨C,2,none⟩=some (.slice p2 N2 q2)):=fun v hv=>⟨kc hv r0,kc hv c0,kc hv c2⟩
 clear h hc hk hT hgv hpv kG kP hf hg htk hnm KF hfG hfP fg fp hv0 hv2 hN0 hN2 hC hgl hpl;go_enter func10,ntmps10;go_wp2_with(first
  |(go_at_call 25;(with_reducible refine(KG.out _ (B8 _)).mono ?_);rintro e w1 ⟨rfl,hb1⟩;obtain⟨s0,s1,s2⟩:=HB0.out w1 hb1)
  |(go_at_call 25;(with_reducible refine(KP.out _ hb1).mono ?_);rintro e w2 ⟨rfl,hb2⟩;obtain⟨t0,t1,t2⟩:=HB0.out w2 (bel hb1 hb2)))
 have HB2:=A9 (bel hb1 hb2);clear r0 c0 c2 s0 s1 s2 t0 t1 t2 hb1 hb2 KG KP
 go_loopw [41] (fun iv wr=>∃j:Nat,j<=N2/\iv=.int .i64 j/\Hid (∃X,Ay T B wr R a X c (J8 c l j)/\Un (fun b=>b=a.S) w wr)) (fun iv _=>N2-(intOf iv).toNat)
 case atStart=>exact⟨0,Nat.zero_le _,rfl,_,HH.out.below HB2.out,Un.of HB2.out⟩
 case round=>
  obtain⟨j,hj,rfl,HR⟩:=hrel;obtain⟨X1,hrun,hun⟩:=HR.out;have HRUN:=A9 hrun;have HUN:=A9 hun;by_cases hlt:j<N2
  ·have hjc:j<c.slots.length:=by rw[HE.out.2.1];exact hlt
   have hjl:j<(J8 c l j).length:=by rw[hrun.len];exact hjc
   obtain⟨q,cap,hq,hrow⟩:=hrun.code.slots;rw[HV2.out]at hq;simp only[Value.slice.injEq,true_and]at hq;obtain⟨rfl,rfl⟩:=hq;rcases hrow with e|⟨sb,so,rfl,hnS,hsl,hcel⟩
   ·rw[e]at hjc;exact absurd hjc (Nat.not_lt_zero _)
   have hcj:=hcel j hjc;have hty:=HG.out.1.slotT (List.getElem_mem hjc);have hbit:=HG.out.2.1.sbits _ (List.getElem_mem hjc);have hbok:=Ih HG.out.1 (List.getElem_mem hjc) hbit;have r0:wr.cell? ⟨R,0,none⟩=some (.pointer (some ⟨a.C,0,none⟩)):=hrun.run.at 0 rfl;have r1:wr.cell? ⟨R,1,none⟩=some (.slice a.sp c.slots.length a.sc):=hrun.run.at 1 rfl;have hsp:a.sp=some ⟨a.S,0,none⟩:=by
    rcases hrun.slots.sp with e|e
    ·rw[e]at hjl;exact absurd hjl (Nat.not_lt_zero _)
    ·exact e
   have x0:=hrun.slots.row.cell (i:=j*2) (by have:=hrun.slots.le;omega);have x1:=hrun.slots.row.cell (i:=j*2+1) (by have:=hrun.slots.le;omega);have x2:=hrun.slots.row.frozen (j*2);have x3:=hrun.slots.row.frozen (j*2+1);rw[hsp,HE.out.2.1]at r1;rw[HE.out.2.2]at r0;obtain⟨sj,hsj⟩:∃sj,c.slots[j]=sj:=⟨_,rfl⟩
   have HAH:Hid (J8 c l (j+1)=if sj.keep then J8 c l j else(J8 c l j).set j (AK c sj)):=by
    show J8 c l (j+1)=_;rw[←hsj]
    conv=>lhs;unfold J8
    rw[List.getElem?_eq_getElem hjc]
   have HPUT:Hid (∀v u,Below wr.heap.size wr v->Pt T v u (AK c sj).pats->∃X',Ay T B ((v.setCell ⟨a.S,j*2,none⟩ u).setCell ⟨a.S,j*2+1,none⟩ (.int .i64 (AK c sj).whole)) R a X' c ((J8 c l j).set j (AK c sj))):=fun v u hv hu=>(hrun.below hv).put hjl hu (fun h'=>by rw[hsj]at hbok ⊢;exact hbok);rw[hsj]at hcj hty hbit;have KB:∀v,Below wr.heap.size wr v->Calls prog 20 #[.pointer (some ⟨a.C,0,none⟩),Se sj] v fun e w'=>∃g,e=.returned (.agg #[.slice (some ⟨g,0,none⟩) (Ad c sj.ty) (Ad c sj.ty),.int .i64 sj.int_])/\v.heap.size<=g/\w'.rowIs g 43 (Ad c sj.ty) (fun _=>.int .u32 (canon sj.bits))/\Below v.heap.size v w':=fun v hv=>Jt a c HG.out.1 sj hbit v (hrun.code.below hv) hty;obtain⟨Wd,hWd⟩:∃Wd,Ad c sj.ty=Wd:=⟨_,rfl⟩
   have HFill:Hid ((AK c sj).pats=List.replicate Wd (canon sj.bits)/\(AK c sj).whole=sj.int_):=by rw[←hWd];exact⟨rfl,rfl⟩
   rw[hWd,HE.out.2.2]at KB;obtain⟨bg,hbg⟩:∃bg,AK c sj=bg:=⟨_,rfl⟩
   rw[hbg]at HAH HPUT HFill;obtain⟨⟨tk,tp⟩,kp,bt,it⟩:=sj;unfold Se at KB;unfold LL at hcj;simp only at KB hcj HFill hbit HAH;have HKB:Hid (∀v,Below wr.heap.size wr v->Calls prog 20 #[.pointer (some ⟨C,0,none⟩),.agg #[.int .i64 tk,.int .i64 tp,.bool kp,.int .u32 bt,.int .i64 it]] v fun e w'=>∃g,e=.returned (.agg #[.slice (some ⟨g,0,none⟩) Wd Wd,.int .i64 it])/\v.heap.size<=g/\w'.rowIs g 43 Wd (fun _=>.int .u32 (canon bt))/\Below v.heap.size v w'):=KB;have y0:=hcj.at 0 (v:=.int .i64 tk) rfl;rw[Nat.add_zero]at y0;have y1:=hcj.at 1 (v:=.int .i64 tp) rfl;have y2:=hcj.at 2 (v:=.bool kp) rfl;have y3:=hcj.at 3 (v:=.int .u32 bt) rfl;have y4:=hcj.at 4 (v:=.int .i64 it) rfl;have szS:a.S<wr.heap.size:=hrun.slots.row.lt;have n1:a.S≠wr.heap.size:=oM;have n2:a.S≠R:=fun e=>hrun.hR (by rw[←e];exact hrun.hS);have HTlt:Hid (∀b,T b->b<wr.heap.size):=fun b hb=>Nat.lt_of_lt_of_le (HG.out.2.2.1 b hb) HUN.out.size;obtain⟨Sb,hSb⟩:∃Sb,a.S=Sb:=⟨_,rfl⟩
   obtain⟨sc,hsc⟩:∃sc,a.sc=sc:=⟨_,rfl⟩
   obtain⟨z0,hz0⟩:∃z0,X1 (j*2)=z0:=⟨_,rfl⟩
   obtain⟨z1,hz1⟩:∃z1,X1 (j*2+1)=z1:=⟨_,rfl⟩
   rw[hz0]at x0;rw[hz1]at x1;simp only[hSb,hsc]at x0 x1 x2 x3 r1 n1 n2 HPUT;have HSb:=A9 hSb;obtain⟨V1,hV1⟩:∃V1,wr.alloc (.cells #[.int .i64 tk,.int .i64 tp,.bool kp,.int .u32 bt,.int .i64 it] 72)=V1:=⟨_,rfl⟩
   have HB5:Hid (Below wr.heap.size wr V1):=by rw[←hV1];exact A0 _ _
   have HC5:Hid (∀v,Below V1.heap.size V1 v->v.cell? ⟨R,0,none⟩=some (.pointer (some ⟨C,0,none⟩))/\v.cell? ⟨R,1,none⟩=some (.slice (some ⟨Sb,0,none⟩) N2 sc)/\v.cell? ⟨wr.heap.size,0,none⟩=some (.int .i64 tk)/\v.cell? ⟨wr.heap.size,1,none⟩=some (.int .i64 tp)/\v.cell? ⟨wr.heap.size,2,none⟩=some (.bool kp)/\v.cell? ⟨wr.heap.size,3,none⟩=some (.int .u32 bt)/\v.cell? ⟨wr.heap.size,4,none⟩=some (.int .i64 it)/\v.cell? ⟨Sb,j*2,none⟩=some z0/\v.cell? ⟨Sb,j*2+1,none⟩=some z1/\v.frozen? ⟨Sb,j*2,none⟩=false/\v.frozen? ⟨Sb,j*2+1,none⟩=false):=by
    intro v hv;have hv2:=bel HB5.out hv;rw[←hV1]at hv;exact⟨kc hv2 r0,kc hv2 r1,kc hv sG,kc hv sG,kc hv sG,kc hv sG,kc hv sG,kc hv2 x0,kc hv2 x1,kf hv2 x0 x2,kf hv2 x1 x3⟩
   obtain⟨a0,a1,a2,a3,a4,a5,a6,a7,a8,a9,a10⟩:=HC5.out V1 (B8 _);clear KB hWd hsj hbg hcel hcj hrun hun hty hbit hbok x0 x1 x2 x3 r0 r1 hnS hsl hsp hSb hsc hz0 hz1 hjl szS;cases kp with
   |true=>
    go_wp2;clear hV1;go_roundw
    case rel=>
     refine⟨j+1,oM,gN,X1,?_,HUN.out.on HB5.out⟩;rw[HAH.out];exact HRUN.out.below HB5.out
    case measure=>simp[intOf];omega
   |false=>
    go_wp2;clear hV1;refine rG (fun v=>v.cell? ⟨R,0,none⟩=some (.pointer (some ⟨C,0,none⟩))/\v.cell? ⟨R,1,none⟩=some (.slice (some ⟨Sb,0,none⟩) N2 sc)/\v.cell? ⟨wr.heap.size,0,none⟩=some (.int .i64 tk)/\v.cell? ⟨wr.heap.size,1,none⟩=some (.int .i64 tp)/\v.cell? ⟨wr.heap.size,2,none⟩=some (.bool false)/\v.cell? ⟨wr.heap.size,3,none⟩=some (.int .u32 bt)/\v.cell? ⟨wr.heap.size,4,none⟩=some (.int .i64 it)) fun hHeld=>?_;refine Tf 0 1 2 3 4 5 ?_;refine Tc 6 7 8 ?_;refine AI 9 ?_;clear hHeld;refine Ao 10 fun K hK=>?_;go_simp;(go_at_call 20;refine(HKB.out _ (bel HB5.out (A4 _))).mono ?_;rintro e v2 ⟨g,rfl,hg2,hr2,hb6⟩;have HB6:Hid (Below V1.heap.size V1 v2):=bel (A4 _) hb6;have HR6:=A9 hr2;have HG6:Hid (V1.heap.size<=g):=hg2;obtain⟨a0,a1,a2,a3,a4,a5,a6,a7,a8,a9,a10⟩:=HC5.out v2 HB6.out;clear hr2 hg2 hb6);try(go_wp2_with fail)
    refine An hK fun hHeld=>?_;clear hK K;refine AI 11 ?_;clear hHeld;refine Ao 12 fun K hK=>?_;go_simp;refine An hK fun hHeld=>?_;clear hK K;refine wpAnyH_done kR ?_ _;go_wp2;go_roundw
    case rel=>
     have hB:=bel HB5.out HB6.out;have hgs:=HB5.out.size;have hg7:=HG6.out;have hpt:Pt T v2 (.slice (some ⟨g,0,none⟩) Wd Wd) bg.pats:=Pt.of_row HR6.out (fun e=>by have:=HTlt.out g e;omega) (by rw[HFill.out.1];simp) (fun i hi=>by rw[HFill.out.1];unfold B7;simp[hi]) Wd;obtain⟨X',hX'⟩:=HPUT.out v2 _ hB hpt;rw[HFill.out.2]at hX';refine⟨j+1,oM,gN,X',?_,?_⟩
     ·rw[HAH.out];exact hX'
     ·rw[HSb.out];have hun:=HUN.out;rw[HSb.out]at hun;exact((hun.on hB).setCell (p:=⟨Sb,j*2,none⟩) rF _).setCell (p:=⟨Sb,j*2+1,none⟩) rF _
    case measure=>simp[intOf];omega
  ·have hjN:j=N2:=oM;subst hjN;have hTw:∀b,T b->b<wr.heap.size:=fun b hb=>Nat.lt_of_lt_of_le (HG.out.2.2.1 b hb) hun.size;have hl9:c.slots.length=j:=HE.out.2.1;have KN2:=A9 (KNF.out wr X1 (J8 c l j) hrun hTw (HGV.out.1.un hun (fun b _ e=>e▸HH.out.hS)) (HGV.out.2.un hun (fun b _ e=>e▸HH.out.hS)));have HGO:Hid (∀ (v:World) (FR NB WB MB UB:Nat) (ub:Nat->Nat) (E':Nat),FX T wr.heap.size E' {a with FR:=FR,NB:=NB,WB:=WB,MB:=MB,UB:=UB,ub:=ub,gv:=.slice gp gl gq,pv:=.slice pp pl pq} c G P v->FV T wr.heap.size E' {a with FR:=FR,NB:=NB,WB:=WB,MB:=MB,UB:=UB,ub:=ub,gv:=.slice gp gl gq,pv:=.slice pp pl pq} c v X1 0 (fun _=>none) ⟨fun _=>0,fun _=>0,fun _=>[],J8 c l j,fun _ _=>0⟩->Below wr.heap.size wr v->Calls prog 27 #[.pointer (some ⟨FR,0,none⟩)] v fun e w'=>e=.returned (.tuple #[])/\w'.cell? ⟨FR,7,none⟩=some (.slice (some ⟨UB,0,none⟩) N0 N0)/\(∃X',Ay T B w' R a X' c (CI c l G P).slots)/\Un (fun b=>b=a.S) w w'/\Br (fun b=>b<w.heap.size) w' (.slice (some ⟨UB,0,none⟩) N0 N0) (DK c (CI c l G P))/\YB T B w w' R a c (CI c l G P) UB):=by
    intro v FR NB WB MB UB ub E' hx hv hb;have hok:EC c ⟨fun _=>0,fun _=>0,fun _=>[],J8 c l j,fun _ _=>0⟩:=⟨fun _=>Gi,fun _=>⟨Int.le_refl _,by show(0:Int)<=2147483647;decide⟩,fun _ y hy=>(by cases hy),fun _=>Nat.zero_le _,hrun.len,hrun.ok⟩
    have hgo:=Je v hx hv HG.out.1 hok HG.out.2.2.2.2.2 HG.out.2.1.ibits HG.out.2.2.2.1 HG.out.2.2.2.2.1;refine hgo.mono ?_;rintro e w' ⟨h1,h2,⟨X2,M2,m2,h3,h4⟩,h5⟩;have he:(VT c G P (⟨fun _=>0,fun _=>0,fun _=>[],J8 c l j,fun _ _=>0⟩,0) c.list).1=CI c l G P:=by unfold CI Cf;rw[hl9]
    rw[he]at h3 h4;have f7:=h2.f7;rw[HE.out.1]at f7;have hfin:=Vv hrun HG.out.2.2.1 hun h2 h3 h4 hb h5;rw[HE.out.1]at hfin;exact⟨h1,f7,hfin⟩
   clear hrun hun hTw KNF HGV hl9;go_wp2_with(first
    |(go_at_call 26;refine KN2.out.mono ?_;rintro e v1 ⟨FR,NB,WB,MB,UB,ub,E',rfl,hfx,hfv,hb7⟩;have HK9:=A9 (HGO.out v1 FR NB WB MB UB ub E' hfx hfv hb7);clear hfx hfv hb7)
    |(go_at_call 27;refine HK9.out.mono ?_;rintro e v2 ⟨rfl,f7,hfin⟩;have HFIN:=A9 hfin;clear hfin))
   go_returns;exact⟨UB,rfl,HFIN.out⟩
theorem Ki{T:Nat->Prop}{B:Nat}(w:World)(R:Nat)(a:BY)(X:Nat->Value)(c:Cd)(l:List Hd)(h:Ay T B w R a X c l)(hc:(Ar c).1=0)(hk:B0 c)(hT:∀b,T b->b<w.heap.size)(gv pv:Value)(G P:List (List Int))(hgv:Br T w gv G)(hpv:Br T w pv P)(kG:CH G)(kP:CH P)(hf:Db c G P=true):
 Calls prog 10 #[.pointer (some ⟨R,0,none⟩),gv,pv] w fun e w'=>∃UB,e=.returned (.tuple #[.slice (some ⟨UB,0,none⟩) c.sign.length c.sign.length,.int .i64 0])/\(∃X',Ay T B w' R a X' c (CI c l G P).slots)/\Un (fun b=>b=a.S) w w'/\Br (fun b=>b<w.heap.size) w' (.slice (some ⟨UB,0,none⟩) c.sign.length c.sign.length) (DK c (CI c l G P)):=
 (J4 w R a X c l h hc hk hT gv pv G P hgv hpv kG kP hf).mono fun _ _ ⟨UB,h1,h2,h3,h4,_⟩=>⟨UB,h1,h2,h3,h4⟩
theorem Na{T:Nat->Prop}{B:Nat}(w:World)(R:Nat)(a:BY)(X:Nat->Value)(c:Cd)(l:List Hd)(h:Ay T B w R a X c l)(hg:Good c)(n:Nat)(hn:n<l.length):
 Calls prog 14 #[.pointer (some ⟨R,0,none⟩),.int .i64 n] w fun e w'=>∃p d,e=.returned (.tuple #[.slice p (l[n]).pats.length d,.int .i64 (l[n]).whole,.int .i64 0])/\Pt (fun b=>b<w.heap.size) w' (.slice p (l[n]).pats.length d) (l[n]).pats/\Below w.heap.size w w'/\w'.ownsRow w.heap.size 43 1 (.slice p (l[n]).pats.length d) (l[n]).pats.length (AT OL (l[n]).pats):=by
 have hnc:n<c.slots.length:=by rw[←h.len];exact hn
 have r1:w.cell? ⟨R,1,none⟩=some (.slice a.sp c.slots.length a.sc):=h.run.at 1 rfl;have hsp:a.sp=some ⟨a.S,0,none⟩:=by
  rcases h.slots.sp with e|e
  ·rw[e]at hn;exact absurd hn (Nat.not_lt_zero _)
  ·exact e
 rw[hsp]at r1;have s1:=h.slots.row.cell (i:=2*n) ZG;have s2:=h.slots.row.cell (i:=2*n+1) ZG;rw[h.slots.whole n hn]at s2;have hp:=h.slots.pats n hn;have hw:=(h.ok n hnc hn).1;have hwd:=hg.width c.slots[n].ty;obtain⟨q,cap,hq⟩:=hp.len;have KC:=A9 (fun(v:World) (hv:Below w.heap.size w v)=>Wh (X (2*n)) l[n].pats v (hp.row.below hv) oM);rw[hq]at s1 KC;rw[Nat.mul_comm 2 n]at s1 s2;have hN:=hg.slotsL;obtain⟨Sb,hSb⟩:∃Sb,a.S=Sb:=⟨_,rfl⟩
 obtain⟨N,hN'⟩:∃N,c.slots.length=N:=⟨_,rfl⟩
 obtain⟨sc,hsc⟩:∃sc,a.sc=sc:=⟨_,rfl⟩
 obtain⟨pt,hpt⟩:∃pt,l[n].pats=pt:=⟨_,rfl⟩
 obtain⟨wh,hwh⟩:∃wh,l[n].whole=wh:=⟨_,rfl⟩
 rw[hpt]at KC s1;rw[hwh]at s2;rw[hpt,hwh];obtain⟨L,hL⟩:∃L,pt.length=L:=⟨_,rfl⟩
 simp only[hSb,hN',hsc,hL]at r1 s1 s2 hN hnc KC ⊢;have e1:¬ ((n:Int)<0):=oM;have e2:¬ ((N:Int)<=(n:Int)):=oM;have e3:(n:Int)<(N:Int):=oM;clear h hg hsp hp hw hwd hq hSb hN' hsc hpt hwh hL hn;go_enter func14,ntmps14;go_wp2;refine rG (fun v=>v.cell? ⟨R,1,none⟩=some (.slice (some ⟨Sb,0,none⟩) N sc)/\v.cell? ⟨Sb,n*2,none⟩=some (.slice q L cap)/\v.cell? ⟨Sb,n*2+1,none⟩=some (.int .i64 wh)) fun hHeld=>?_;refine Tf 0 1 2 3 4 5 ?_;refine Tf 6 7 9 10 11 12 ?_;refine Tc 13 14 15 ?_;refine AI 16 ?_;clear hHeld;refine Ao 8 fun K hK=>?_;go_simp;(go_at_call 30;refine(KC.out _ (A4 _)).mono ?_;rintro e w1 ⟨p,d,rfl,hr,ho1,hb1⟩;have HB1:=bel (A4 _) hb1;have HR:=A9 hr;have HO1:=A9 ho1;clear ho1;have z1:=kc HB1 r1;have z2:=kc HB1 s1;have z3:=kc HB1 s2;clear hb1 hr);try(go_wp2_with fail)
 refine An hK fun hHeld=>?_;clear hK K;refine Tc 17 18 19 ?_;refine wpAnyH_done kR ?_ _;go_wp2;go_returns;exact⟨p,d,rfl,HR.out,HB1,HO1.out⟩
theorem N9{T:Nat->Prop}{B:Nat}(w:World)(R:Nat)(a:BY)(X:Nat->Value)(c:Cd)(l:List Hd)(h:Ay T B w R a X c l)(hg:Good c)(n:Nat)(hn:n<l.length):
 Calls prog 14 #[.pointer (some ⟨R,0,none⟩),.int .i64 n] w fun e w'=>∃p d,e=.returned (.tuple #[.slice p (l[n]).pats.length d,.int .i64 (l[n]).whole,.int .i64 0])/\Pt (fun b=>b<w.heap.size) w' (.slice p (l[n]).pats.length d) (l[n]).pats/\Below w.heap.size w w':=
 (Na w R a X c l h hg n hn).mono fun _ _ ⟨p,d,h1,h2,h3,_⟩=>⟨p,d,h1,h2,h3⟩
theorem Br.cellsOf{T:Nat->Prop}{w:World}{v:Value}{L:List (List Int)}(h:Br T w v L):∃p c,v=.slice p L.length c/\∀i (hi:i<L.length),∃b o q d,p=some ⟨b,o,none⟩/\w.cell? ⟨b,o+i,none⟩=some (.slice q (L[i]).length d)/\AE w q (L[i]).length (fun j=>.int .u32 (B7 L[i] j)):=by
 obtain⟨p,c,hv,hh⟩:=h;refine⟨p,c,hv,fun i hi=>?_⟩;rcases hh with e|⟨b,o,hp,_,_,hh⟩
 ·rw[e]at hi;exact absurd hi (Nat.not_lt_zero _)
 ·obtain⟨u,h1,h2⟩:=hh i hi;obtain⟨q,d,hq⟩:=h2.len;rw[hq]at h1 h2;exact⟨b,o,q,d,hp,h1,h2.reads.2⟩
theorem IT{T T':Nat->Prop}(w:World)(u v:Value)(L:List (List Int))(hu:Br T w u L)(hv:Br T' w v L)(hL:L.length<=1048576)(hl:∀l∈L,l.length<=1048576):
 Calls prog 12 #[u,v] w fun e w'=>e=.returned (.bool true)/\Below w.heap.size w w':=by
 obtain⟨p,c,rfl,hcu⟩:=hu.cellsOf;obtain⟨p',c',rfl,hcv⟩:=hv.cellsOf;obtain⟨N,hN⟩:∃N,L.length=N:=⟨_,rfl⟩
 rw[hN]at hL ⊢;have HCU:Hid (∀i (hi:i<L.length),∃b o q d,p=some ⟨b,o,none⟩/\w.cell? ⟨b,o+i,none⟩=some (.slice q (L[i]).length d)/\AE w q (L[i]).length (fun j=>.int .u32 (B7 L[i] j))):=hcu;have HCV:Hid (∀i (hi:i<L.length),∃b o q d,p'=some ⟨b,o,none⟩/\w.cell? ⟨b,o+i,none⟩=some (.slice q (L[i]).length d)/\AE w q (L[i]).length (fun j=>.int .u32 (B7 L[i] j))):=hcv;have HN:Hid (L.length=N/\∀l∈L,l.length<=1048576):=⟨hN,hl⟩
 clear hu hv hcu hcv hN hl;go_enter func12,ntmps12;go_wp2
 go_loopw [5] (fun iv wr=>∃j:Nat,j<=N/\iv=.int .i64 j/\Hid (Below w.heap.size w wr)) (fun iv _=>N-(intOf iv).toNat)
 case atStart=>exact⟨0,Nat.zero_le _,rfl,B8 _⟩
 case round=>
  obtain⟨j,hj,rfl,HB⟩:=hrel;by_cases hlt:j<N
  ·have hjL:j<L.length:=by rw[HN.out.1];exact hlt
   obtain⟨b,o,q,d,rfl,h1,h2⟩:=HCU.out j hjL;obtain⟨b',o',q',d',rfl,h1',h2'⟩:=HCV.out j hjL;have hln:=HN.out.2 _ (List.getElem_mem hjL);obtain⟨M,hM⟩:∃M,(L[j]).length=M:=⟨_,rfl⟩
   obtain⟨Y,hY⟩:∃Y,B7 L[j]=Y:=⟨_,rfl⟩
   rw[hM]at h1 h2 h1' h2' hln;simp only[hY]at h2 h2';have k1:=kc HB.out h1;have k2:=kc HB.out h1';have HRU:=A9 (h2.below HB.out);have HRV:=A9 (h2'.below HB.out);clear h1 h1' h2 h2' hM hY;go_wp2;refine wp_region_held_drew (S:=(fun x=>x.cell? ⟨b,o+j,none⟩=some (.slice q M d)/\x.cell? ⟨b',o'+j,none⟩=some (.slice q' M d'))) kR ?_ (fun hHeld=>?_)
   ·((try dsimp only);go_keep)
   refine Tf 0 1 2 3 4 5 ?_;refine Tc 6 7 8 ?_;refine Tb 9 10 ?_;refine wpAnyH_done kR ?_ _;go_wp2;rename World=>W0
   go_loopw [6] (fun iv wr2=>∃k:Nat,k<=M/\iv=.int .i64 k/\Hid (Below W0.heap.size W0 wr2)) (fun iv _=>M-(intOf iv).toNat)
   case atStart=>exact⟨0,Nat.zero_le _,rfl,A4 _⟩
   case round=>
    obtain⟨k,hk,rfl,HB2⟩:=hrel;have m1:=kc HB2.out k1;have m2:=kc HB2.out k2;by_cases hlt2:k<M
    ·rcases HRU.out with e|⟨ub,uo,hue,hur⟩
     ·omega
     rcases HRV.out with e|⟨vb,vo,hve,hvr⟩
     ·omega
     have n1:=kc HB2.out (hur k hlt2);have n2:=kc HB2.out (hvr k hlt2);subst hue hve;clear hur hvr HRU HRV;go_wp2;refine wp_region_held_drew (S:=(fun x=>x.cell? ⟨b,o+j,none⟩=some (.slice (some ⟨ub,uo,none⟩) M d)/\x.cell? ⟨b',o'+j,none⟩=some (.slice (some ⟨vb,vo,none⟩) M d')/\x.cell? ⟨ub,uo+k,none⟩=some (.int .u32 (Y k))/\x.cell? ⟨vb,vo+k,none⟩=some (.int .u32 (Y k)))) kR ?_ (fun hHeld=>?_)
     ·((try dsimp only);go_keep)
     refine Tf 0 1 2 3 4 5 ?_;refine Tf 6 7 8 9 10 11 ?_;refine Tc 12 13 14 ?_;refine wpAnyH_done kR ?_ _;go_wp2;go_roundw
     case rel=>exact⟨k+1,oM,gN,bel HB2.out (A4 _)⟩
     case measure=>simp[intOf];omega
    ·go_wp2;go_roundw
     case rel=>exact⟨j+1,oM,gN,bel HB.out HB2.out⟩
     case measure=>simp[intOf];omega
  ·go_wp2;go_ret;exact⟨rfl,HB.out⟩
def BN(w:World)(p:Option Addr)(l:List Int):Prop:=AE w p l.length (fun j=>.int .i64 (B7 l j))
theorem BN.below{w w':World}{p:Option Addr}{l:List Int}(h:BN w p l)(k:Below w.heap.size w w'):BN w' p l:=AE.below h k
structure Cl where
 p:Option Addr
 q:Nat
 h:Hd
def QH(x:Cl):List Value:=[.slice x.p x.h.pats.length x.q,.int .i64 x.h.whole]
def Sv(x:Cl):List Value:=[.slice x.p x.h.pats.length x.q]
theorem Gb(x:Cl):(QH x).length=2:=rfl
theorem Ib(x:Cl):(Sv x).length=1:=rfl
theorem Pn:∀x:Cl,∀u∈QH x,u.oneCell'=true:=fun x u hu=>by simp[QH]at hu;rcases hu with rfl|rfl<;>rfl
theorem Xv:∀x:Cl,∀u∈Sv x,u.oneCell'=true:=fun x u hu=>by simp[Sv]at hu;subst hu;rfl
structure Sx(w:World)(v:Value)(X:List Cl):Prop where
 row:B3 2 QH w v X
 nums:∀x∈X,BN w x.p x.h.pats
theorem Sx.below{w w':World}{v:Value}{X:List Cl}(h:Sx w v X)(k:Below w.heap.size w w'):Sx w' v X:=⟨h.row.below k,fun x hx=>(h.nums x hx).below k⟩
structure OuV(w:World)(v:Value)(X:List Cl):Prop where
 row:B3 1 Sv w v X
 nums:∀x∈X,BN w x.p x.h.pats
theorem GQ:(prog.info? 84).map (fun i=>(i.zero,i.size,i.bytes))=some (some (.agg #[.slice none 0 0,.int .i64 0]),2,32):=kR
theorem JL:(prog.info? 82).map (fun i=>(i.zero,i.size,i.bytes))=some (some (.slice none 0 0),1,24):=kR
theorem IA{c:Cd}(hg:Good c){k:Nat}(h:k<c.sign.length):(lenOf c (k:Int):Int)=c.sign[k].len:=by
 unfold lenOf;rw[Int.toNat_natCast,List.getElem?_eq_getElem h];have:=(hg.len _ (List.getElem_mem h)).1;simp;omega
theorem EK(v0 v1 v2 v3:Value)(c:Cd)(hg:Good c)(t:Ty)(ht:t.kind=3->Ak t.par c.sign.length=true)(w:World)(hv:Di w v0 v1 v2 v3 c):
 Calls prog 41 #[.agg #[v0,v1,v2,v3],Dp t] w fun e w'=>e=.returned (.int .i64 (if t.kind=3 then(lenOf c t.par:Int)else 1))/\Below w.heap.size w w':=by
 obtain⟨K,P⟩:=t;unfold Dp;simp only at ht ⊢;by_cases h3:K=3
 ·subst h3;obtain⟨k,rfl,hkl⟩:=CZ (ht rfl);rw[if_pos rfl,IA hg hkl];have hr:=hv.sign;obtain⟨p,q,rfl,hrr⟩:=hv.sign;obtain⟨lb,lo,rfl,hc⟩:=hr.at hkl;obtain⟨⟨nm,K,L⟩,hT⟩:∃t:BO,c.sign[k]=t:=⟨_,rfl⟩
  rw[hT]at hc ⊢;have hlen:=hg.signL;have y2:w.cell? ⟨lb,lo+k*3+2,none⟩=some (.int .i64 L):=hc.at 2 rfl;have g2:∀o o',((w.alloc o).alloc o').cell? ⟨lb,lo+k*3+2,none⟩=some (.int .i64 L):=fun o o'=>kc (bel (A0 _ _) (A0 _ _)) y2;obtain⟨N,hN⟩:∃N,c.sign.length=N:=⟨_,rfl⟩
  rw[hN]at hkl hlen ⊢;clear hr hrr hc hT hv hN ht;simp only;go_enter func41,ntmps41;go_wp2;go_ret;exact SC
 ·rw[if_neg h3];have h3':(K==3)=false:=by simpa using h3
  clear h3 ht;go_enter func41,ntmps41;go_wp2;go_ret;exact SC
theorem Hm(b:Bool)(w:World):Calls prog 81 #[.bool b] w fun e w'=>e=.returned (.int .i64 (B6 b))/\w'=w:=by
 cases b
 all_goals
  go_enter func81,ntmps81;go_wp2;go_ret;exact⟨rfl,rfl⟩
def E3(V:List Int)(k n len:Nat):List Int:=(List.range len).map fun e=>canon (B7 V (k*e+n))
theorem K6(V:List Int)(k n len:Nat):(E3 V k n len).length=len:=by simp[E3]
theorem II(V:List Int)(k n j:Nat):E3 V k n (j+1)=E3 V k n j++[canon (B7 V (k*j+n))]:=by simp[E3,List.range_succ]
theorem Xz{w:World}{B:Nat}{p:Option Addr}{q:Nat}{l:List Int}(h:w.ownsRow B 3 1 (.slice p l.length q) l.length (BQ l)):BN w p l:=by
 by_cases h0:l.length=0
 ·exact .inl h0
 ·obtain⟨g,cap,e,_⟩:=h.form oM;simp only[Value.slice.injEq]at e;obtain⟨rfl,-,-⟩:=e;refine .inr ⟨g,0,rfl,fun j hj=>?_⟩;rw[Nat.zero_add,h.cellAt j oM];simp[BQ,B7,hj]
theorem E1{w:World}{B:Nat}{e:TypeId}{k:Nat}{p:Option Addr}{n m q:Nat}{xs:List Value}(h:w.ownsRow B e k (.slice p n q) m xs):∀b o s,p=some ⟨b,o,s⟩->B<=b:=by
 intro b o s e;subst e;rcases h.2 with⟨e1,-⟩|⟨g,cap,cur,e1,hb,-⟩
 ·simp at e1
 ·simp only[Value.slice.injEq,Option.some.injEq,Addr.mk.injEq]at e1;omega
theorem MO(nm:ByteArray)(K:Int)(len:Nat)(hlen:len<=4096)(k:Nat)(hk:k=if K=2 then 2 else 1)(V:List Int)(hV:∀y∈V,Ag y)(p:Option Addr)(q n:Nat)(hn:n<k)(hm:k*len<=V.length)(hVL:V.length<=1048576)(w:World)(hr:AE w p V.length (fun j=>.int .u32 (B7 V j))):
 Calls prog 85 #[.agg #[.string nm,.int .i64 K,.int .i64 (len:Int)],.slice p V.length q,.int .i64 (n:Int)] w fun e w'=>∃p' q',e=.returned (.slice p' len q')/\BN w' p' (E3 V k n len)/\Below w.heap.size w w'/\∀b o s,p'=some ⟨b,o,s⟩->w.heap.size<=b:=by
 have HRD:Hid (AE w p V.length (fun j=>.int .u32 (B7 V j))):=hr;have HV:Hid (∀j,Ag (B7 V j)):=fun j=>Bw hV j;obtain⟨M,hM⟩:∃M,V.length=M:=⟨_,rfl⟩
 rw[hM]at HRD hVL hm ⊢;have hC:∀v,Below (w.alloc (.cells #[.string nm,.int .i64 K,.int .i64 (len:Int)] 66)).heap.size (w.alloc (.cells #[.string nm,.int .i64 K,.int .i64 (len:Int)] 66)) v->v.cell? ⟨w.heap.size,2,none⟩=some (.int .i64 (len:Int)):=fun v hb=>kc hb sG;have HC:Hid _:=hC;have hk2:((K==2)=true/\k=2)\/((K==2)=false/\k=1):=by
  by_cases h:K=2
  ·exact .inl ⟨by simpa using h,by rw[hk,if_pos h]⟩
  ·exact .inr ⟨by simpa using h,by rw[hk,if_neg h]⟩
 clear hV hr hM hk hC;rcases hk2 with⟨hKb,rfl⟩|⟨hKb,rfl⟩
 ·go_enter func85,ntmps85;go_wp2
  go_loopw [8,9] (fun ov iv wr=>Below (w.alloc (.cells #[.string nm,.int .i64 K,.int .i64 (len:Int)] 66)).heap.size (w.alloc (.cells #[.string nm,.int .i64 K,.int .i64 (len:Int)] 66)) wr/\∃ (j:Nat) (pp:Option Addr) (qq:Nat),j<=len/\iv=.int .i64 (j:Int)/\ov=.slice pp j qq/\Hid (wr.ownsRow (w.alloc (.cells #[.string nm,.int .i64 K,.int .i64 (len:Int)] 66)).heap.size 3 1 (.slice pp j qq) j (BQ (E3 V 2 n j)))) (fun _ iv _=>len-(intOf iv).toNat)
  case atStart=>exact⟨B8 _,0,none,0,Nat.zero_le _,rfl,rfl,World.ownsRow_nil _ _ _ 1⟩
  case round=>
   obtain⟨hb,j,pp,qq,hj,rfl,rfl,how⟩:=hrel;have c2:=HC.out wr hb;have HB:Hid (Below (w.alloc (.cells #[.string nm,.int .i64 K,.int .i64 (len:Int)] 66)).heap.size (w.alloc (.cells #[.string nm,.int .i64 K,.int .i64 (len:Int)] 66)) wr):=hb;by_cases hlt:j<len
   ·have hi:2*j+n<M:=oM;rcases HRD.out with h0|⟨b,o,rfl,hcell⟩
    ·omega
    have hc:=hcell (2*j+n) hi;simp only at hc;have y:=kc (bel (A0 _ _) hb) hc;have hP:=HV.out (2*j+n);have KC:=EL (B7 V (2*j+n)) hP.1 hP.2;have KA:=fun x=>EJ (V:=wr) underlying82 Er rfl dE how.out hb.size #[.int .i64 x] rfl ZD mL oM 82;obtain⟨g,c',w8,hap,hb8,ho8,-⟩:=KA (canon (B7 V (2*j+n)));have HNX:Hid (w8.ownsRow (w.alloc (.cells #[.string nm,.int .i64 K,.int .i64 (len:Int)] 66)).heap.size 3 1 (.slice (some ⟨g,0,none⟩) (j+1) c') (j+1) (BQ (E3 V 2 n (j+1)))):=by
     show World.ownsRow _ _ _ _ _ _ _;rw[II,Cw];exact ho8
    have HB8:Hid (Below (w.alloc (.cells #[.string nm,.int .i64 K,.int .i64 (len:Int)] 66)).heap.size wr w8):=hb8;have HAP:Hid _:=hap;have HKC:Hid _:=KC;obtain⟨z,hz⟩:∃z,B7 V (2*j+n)=z:=⟨_,rfl⟩
    rw[hz]at y hP HKC HAP;have t0:(j:Int)<(len:Int):=oM;have t1:IntKind.i64.wrap (2*(j:Int))=2*(j:Int):=by rw[IntKind.wrap_i64];omega
    have t2:IntKind.i64.wrap (2*(j:Int)+(n:Int))=((2*j+n:Nat):Int):=by rw[IntKind.wrap_i64];omega
    have t3:(0:Int)<=((2*j+n:Nat):Int):=oM;have t4:((2*j+n:Nat):Int)<(M:Int):=oM;have t5:IntKind.i64.wrap ((j:Int)+1)=((j+1:Nat):Int):=by rw[IntKind.wrap_i64];omega
    have t6:IntKind.i64.wrap z=z:=by rw[IntKind.wrap_i64];have:=hP.1;have:=hP.2;omega
    obtain⟨ix,hix⟩:∃ix,2*j+n=ix:=⟨_,rfl⟩
    exact Zct
   have hjn:j=len:=oM;have e1:¬ (j:Int)<(len:Int):=oM;have HF:Hid (BN wr pp (E3 V 2 n len)):=by
    exact Zdy
   exact Zco
 ·go_enter func85,ntmps85;go_wp2
  go_loopw [8,9] (fun ov iv wr=>Below (w.alloc (.cells #[.string nm,.int .i64 K,.int .i64 (len:Int)] 66)).heap.size (w.alloc (.cells #[.string nm,.int .i64 K,.int .i64 (len:Int)] 66)) wr/\∃ (j:Nat) (pp:Option Addr) (qq:Nat),j<=len/\iv=.int .i64 (j:Int)/\ov=.slice pp j qq/\Hid (wr.ownsRow (w.alloc (.cells #[.string nm,.int .i64 K,.int .i64 (len:Int)] 66)).heap.size 3 1 (.slice pp j qq) j (BQ (E3 V 1 n j)))) (fun _ iv _=>len-(intOf iv).toNat)
  case atStart=>exact⟨B8 _,0,none,0,Nat.zero_le _,rfl,rfl,World.ownsRow_nil _ _ _ 1⟩
  case round=>
   obtain⟨hb,j,pp,qq,hj,rfl,rfl,how⟩:=hrel;have c2:=HC.out wr hb;have HB:Hid (Below (w.alloc (.cells #[.string nm,.int .i64 K,.int .i64 (len:Int)] 66)).heap.size (w.alloc (.cells #[.string nm,.int .i64 K,.int .i64 (len:Int)] 66)) wr):=hb;by_cases hlt:j<len
   ·have hi:j+n<M:=oM;rcases HRD.out with h0|⟨b,o,rfl,hcell⟩
    ·omega
    have hc:=hcell (j+n) hi;simp only at hc;have y:=kc (bel (A0 _ _) hb) hc;have hP:=HV.out (j+n);have KC:=EL (B7 V (j+n)) hP.1 hP.2;have KA:=fun x=>EJ (V:=wr) underlying82 Er rfl dE how.out hb.size #[.int .i64 x] rfl ZD mL oM 82;obtain⟨g,c',w8,hap,hb8,ho8,-⟩:=KA (canon (B7 V (j+n)));have HNX:Hid (w8.ownsRow (w.alloc (.cells #[.string nm,.int .i64 K,.int .i64 (len:Int)] 66)).heap.size 3 1 (.slice (some ⟨g,0,none⟩) (j+1) c') (j+1) (BQ (E3 V 1 n (j+1)))):=by
     show World.ownsRow _ _ _ _ _ _ _;rw[II,Nat.one_mul,Cw];exact ho8
    have HB8:Hid (Below (w.alloc (.cells #[.string nm,.int .i64 K,.int .i64 (len:Int)] 66)).heap.size wr w8):=hb8;have HAP:Hid _:=hap;have HKC:Hid _:=KC;obtain⟨z,hz⟩:∃z,B7 V (j+n)=z:=⟨_,rfl⟩
    rw[hz]at y hP HKC HAP;have t0:(j:Int)<(len:Int):=oM;have t1:IntKind.i64.wrap (j:Int)=(j:Int):=by rw[IntKind.wrap_i64];omega
    have t2:IntKind.i64.wrap ((j:Int)+(n:Int))=((j+n:Nat):Int):=by rw[IntKind.wrap_i64];omega
    have t3:(0:Int)<=((j+n:Nat):Int):=oM;have t4:((j+n:Nat):Int)<(M:Int):=oM;have t5:IntKind.i64.wrap ((j:Int)+1)=((j+1:Nat):Int):=by rw[IntKind.wrap_i64];omega
    have t6:IntKind.i64.wrap z=z:=by rw[IntKind.wrap_i64];have:=hP.1;have:=hP.2;omega
    obtain⟨ix,hix⟩:∃ix,j+n=ix:=⟨_,rfl⟩
    exact Zct
   have hjn:j=len:=oM;have e1:¬ (j:Int)<(len:Int):=oM;have HF:Hid (BN wr pp (E3 V 1 n len)):=by
    exact Zdy
   exact Zco
def CG(op a b c:Int):Int:=
 if op=21 then min (a+1) 2147483647
 else if op=22 then B6 (decide (a<b))
 else if op=23 then B6 (a==b)
 else if op=24 then B6 (a != 0&&b != 0)
 else if op=25 then B6 (a==0)
 else if op=26 then(if a=0 then c else b)
 else if op=27 then max (a-b) 0
 else if b=0 then 0 else a/b
theorem P5(op a b c:Int)(ho:21<=op/\op<=28)(ha:0<=a/\a<=2147483647)(hb:0<=b/\b<=2147483647)(w:World):
 Calls prog 84 #[.int .i64 op,.int .i64 a,.int .i64 b,.int .i64 c] w fun e w'=>e=.returned (.int .i64 (CG op a b c))/\w'=w:=by
 have KF:Hid (∀x v,Calls prog 81 #[.bool x] v fun e w'=>e=.returned (.int .i64 (B6 x))/\w'=v):=Hm;obtain⟨a0,a1⟩:=ha;obtain⟨b0,b1⟩:=hb;have:op=21\/op=22\/op=23\/op=24\/op=25\/op=26\/op=27\/op=28:=oM;rcases this with rfl|rfl|rfl|rfl|rfl|rfl|rfl|rfl
 ·rw[show CG 21 a b c=min (a+1) 2147483647 from rfl];have t:IntKind.i64.wrap (a+1)=a+1:=by rw[IntKind.wrap_i64];omega
  exact ZX
 ·rw[show CG 22 a b c=B6 (decide (a<b))from rfl];exact ZV
 ·rw[show CG 23 a b c=B6 (a==b)from rfl];exact ZV
 ·rw[show CG 24 a b c=B6 (a != 0&&b != 0)from rfl];cases hz:(a != 0)
  ·rw[Bool.false_and];have hz':(a==0)=true:=by simpa using hz
   exact ZV
  ·rw[Bool.true_and];have hz':(a==0)=false:=by simpa using hz
   exact ZV
 ·rw[show CG 25 a b c=B6 (a==0)from rfl];exact ZV
 ·rw[show CG 26 a b c=(if a=0 then c else b)from rfl];by_cases hz:a=0
  ·rw[if_pos hz];have hz':(a != 0)=false:=by simpa using hz
   have hz2:(a==0)=true:=by simpa using hz
   clear hz a0 a1;exact ZX
  ·rw[if_neg hz];have hz':(a != 0)=true:=by simpa using hz
   have hz2:(a==0)=false:=by simpa using hz
   clear hz;exact ZX
 ·rw[show CG 27 a b c=max (a-b) 0 from rfl];have t:IntKind.i64.wrap (a-b)=a-b:=by rw[IntKind.wrap_i64];omega
  exact ZX
 ·rw[show CG 28 a b c=(if b=0 then 0 else a/b)from rfl];by_cases hz:b=0
  ·rw[if_pos hz];have hz2:(b==0)=true:=by simpa using hz
   clear hz b0 b1;exact ZX
  ·rw[if_neg hz];have hz2:(b==0)=false:=by simpa using hz
   have ht:a.tdiv b=a/b:=by rw[Int.tdiv_eq_ediv_of_nonneg a0]
   have hw:IntKind.i64.wrap (a/b)=a/b:=by
    rw[IntKind.wrap_i64];have h1:=Int.ediv_nonneg a0 b0;have h2:=Int.ediv_le_self b a0;omega
   go_enter func84,ntmps84;go_wp2;go_ret;first
    |exact⟨rfl,rfl⟩
    |(refine⟨?_,rfl⟩;simp[ht,hw])
theorem I2(n:Nat)(x:Int){j:Nat}(h:j<n):B7 (List.replicate n x) j=x:=by simp[B7,h]
theorem GZ(n:Nat)(x:Int)(hx:Ag x)(hn:n<=65536)(w:World):
 Calls prog 40 #[.int .i64 n,.int .i64 x] w fun e w'=>∃q cap,e=.returned (.tuple #[.slice q n cap,.int .i64 0])/\AE w' q n (fun i=>.int .i64 (canon x))/\Below w.heap.size w w'/\∀b o s,q=some ⟨b,o,s⟩->w.heap.size<=b:=by
 obtain⟨i0,hi0,hz0,hz1,hz2⟩:=info_parts Tw;have h1:¬ ((n:Int)<0):=oM;have h2:(n:Int)<=65536:=oM;go_enter func40,ntmps40;go_wp2
 go_loopw [6,7] (fun ov iv wr=>Below w.heap.size w wr/\∃ (k:Nat) (v:Value),v=ov/\k<=n/\iv=.int .i64 k/\Hid (wr.ownsRow w.heap.size 3 1 v k (vals (fun i=>.int .i64 (canon x)) k))) (fun _ iv _=>n-(intOf iv).toNat)
 case atStart=>exact⟨B8 w,0,_,rfl,Nat.zero_le _,rfl,World.ownsRow_nil _ _ _ _⟩
 case round=>
  obtain⟨hb,k,ov,rfl,hk,rfl,hown⟩:=hrel;by_cases hlt:k<n
  ·have i1:(0:Int)<=(k:Int):=oM;have i2:(k:Int)<(n:Int):=oM;have sz:=hb.size;have hob:Hid (∀j,ov.ownBlock=some j->w.heap.size<=j/\j<wr.heap.size):=hown.out.lt;go_wp2_with(first
    |(go_at_call 68;refine(EL _ hx.1 hx.2 _).mono ?_;rintro e w0 ⟨rfl,hw'⟩;obtain rfl:=hw'.symm)
    |(at_builtin;refine wpList_append_own _ rfl _ _ 82 rfl w.heap.size 3 i0 _ 1 8 underlying82 hi0 hz0 hz1 hz2 rfl dE ov k (vals (fun i=>.int .i64 (canon x)) k) rfl (hown.out.alloc _) ⟨wr.heap.size,0,none⟩ 1 1 [.int .i64 (canon x)] rfl rfl (World.news_of_block (cs:=#[.int .i64 (canon x)]) (t:=3) (fr:=(0,0)) (heap_alloc_new wr _)) SD mL oM sO ?_;intro v' w1 hown1 hgrow hnil;have HB:Below w.heap.size w w1:=Below.grown (hb.alloc sz _) hgrow sO (fun j e=>(hob.out j e).1);have HO:Hid (w1.ownsRow w.heap.size 3 1 v' (k+1) (vals (fun i=>.int .i64 (canon x)) k++[.int .i64 (canon x)])):=hown1;clear hown1 hgrow hnil))
   go_roundw
   case rel=>exact⟨HB,k+1,_,rfl,oM,gN,by rw[Kn];exact HO⟩
   case measure=>simp[intOf];omega
  ·have:k=n:=oM;subst this;obtain⟨q,cap,rfl,hR,hg,-⟩:=JZ hown.out;have HR:Hid (AE wr q k (fun i=>.int .i64 (canon x))):=hR;have HG:Hid (∀b o s,q=some ⟨b,o,s⟩->w.heap.size<=b):=hg;clear hR hg hown;go_wp2;go_returns;first|exact⟨_,_,rfl,HR.out,hb,HG.out⟩|exact⟨_,⟨_,rfl⟩,HR.out,hb,HG.out⟩
structure Nq(w:World)(v0 v1 v2 v3:Value)(tk tp:Int)(kp:Bool)(sb si:Int)(v:World):Prop where
 bel:Below w.heap.size w v
 c0:v.cell? ⟨w.heap.size,0,none⟩=some v0
 c1:v.cell? ⟨w.heap.size,1,none⟩=some v1
 c2:v.cell? ⟨w.heap.size,2,none⟩=some v2
 c3:v.cell? ⟨w.heap.size,3,none⟩=some v3
 s0:v.cell? ⟨w.heap.size+1,0,none⟩=some (.int .i64 tk)
 s1:v.cell? ⟨w.heap.size+1,1,none⟩=some (.int .i64 tp)
 s2:v.cell? ⟨w.heap.size+1,2,none⟩=some (.bool kp)
 s3:v.cell? ⟨w.heap.size+1,3,none⟩=some (.int .u32 sb)
 s4:v.cell? ⟨w.heap.size+1,4,none⟩=some (.int .i64 si)
 r0:v.cell? ⟨w.heap.size+1+1,0,none⟩=some (.slice none 0 0)
 r1:v.cell? ⟨w.heap.size+1+1,1,none⟩=some (.int .i64 0)
 f0:v.frozen? ⟨w.heap.size+1+1,0,none⟩=false
 f1:v.frozen? ⟨w.heap.size+1+1,1,none⟩=false
theorem Nq.next{w:World}{v0 v1 v2 v3:Value}{tk tp:Int}{kp:Bool}{sb si:Int}{v v':World}(h:Nq w v0 v1 v2 v3 tk tp kp sb si v)(k:Below v.heap.size v v'):Nq w v0 v1 v2 v3 tk tp kp sb si v':=
 ⟨Go.Proofs.YtbinohkcolcbfaaGreat.bel h.bel k,kc k h.c0,kc k h.c1,kc k h.c2,kc k h.c3,kc k h.s0,kc k h.s1,kc k h.s2,kc k h.s3,kc k h.s4,kc k h.r0,kc k h.r1,kf k h.r0 h.f0,kf k h.r1 h.f1⟩
theorem Nq.start(w:World)(v0 v1 v2 v3:Value)(tk tp:Int)(kp:Bool)(sb si:Int):Nq w v0 v1 v2 v3 tk tp kp sb si (((w.alloc (.cells #[v0,v1,v2,v3] 27)).alloc (.cells #[.int .i64 tk,.int .i64 tp,.bool kp,.int .u32 sb,.int .i64 si] 72)).alloc (.cells #[.slice none 0 0,.int .i64 0] 84)):=by
 have k1:=A0 (w.alloc (.cells #[v0,v1,v2,v3] 27)) (.cells #[.int .i64 tk,.int .i64 tp,.bool kp,.int .u32 sb,.int .i64 si] 72);have k2:=A0 ((w.alloc (.cells #[v0,v1,v2,v3] 27)).alloc (.cells #[.int .i64 tk,.int .i64 tp,.bool kp,.int .u32 sb,.int .i64 si] 72)) (.cells #[.slice none 0 0,.int .i64 0] 84);refine⟨Go.Proofs.YtbinohkcolcbfaaGreat.bel (A0 _ _) (Go.Proofs.YtbinohkcolcbfaaGreat.bel k1 k2),kc k2 (kc k1 ?_),kc k2 (kc k1 ?_),kc k2 (kc k1 ?_),kc k2 (kc k1 ?_),kc k2 ?_,kc k2 ?_,kc k2 ?_,kc k2 ?_,kc k2 ?_,?_,?_,?_,?_⟩
 all_goals simp[go_sem]
theorem IM(v0 v1 v2 v3:Value)(c:Cd)(hg:Good c)(s:Sl)(hs:AP s c.sign.length=true)(hb:Ag s.bits)(w:World)(hv:Di w v0 v1 v2 v3 c):
 Calls prog 22 #[.agg #[v0,v1,v2,v3],Se s] w fun e w'=>∃p q,e=.returned (.agg #[.slice p (AK c s).pats.length q,.int .i64 (AK c s).whole])/\BN w' p (AK c s).pats/\Below w.heap.size w w'/\∀b o s,p=some ⟨b,o,s⟩->w.heap.size<=b:=by
 have hw:=hg.width s.ty;have hmay:=hs;unfold AP at hmay;simp only[Bool.and_eq_true]at hmay;obtain⟨m1,m2⟩:=hmay;have hpl:s.ty.kind=3->Ak s.ty.par c.sign.length=true:=fun h3=>by
  unfold At at m1;rw[if_neg oM,if_pos h3]at m1;exact m1
 have hkd:s.ty.kind=1\/s.ty.kind=2\/s.ty.kind=3:=by
  unfold At at m1;by_cases h1:s.ty.kind=1\/s.ty.kind=2
  ·rcases h1 with h1|h1
   ·exact .inl h1
   ·exact .inr (.inl h1)
  ·rw[if_neg h1]at m1;by_cases h3:s.ty.kind=3
   ·exact .inr (.inr h3)
   ·rw[if_neg h3]at m1;exact absurd m1 dE
 have KW:=EK v0 v1 v2 v3 c hg s.ty hpl;unfold Ed at m2;obtain⟨⟨tk,tp⟩,kp,sb,si⟩:=s;unfold AK Se BV;unfold Dp at KW;simp only at hw hpl hkd KW m2 hb ⊢;have HT0:=Nq.start w v0 v1 v2 v3 tk tp kp sb si;by_cases h2:tk=2
 ·have hw0:Ad c ⟨tk,tp⟩=0:=by unfold Ad;simp[h2]
  rw[hw0];have h2b:(tk==2)=true:=by simpa using h2
  obtain⟨-,c0,c1,c2,c3,s0,s1,s2,s3,s4,r0,r1,f0,f1⟩:=HT0;clear KW m1 m2 hpl hkd h2;go_enter func22,ntmps22;go_wp2;refine bodyPost_ret (by simp[results,results22,go_sem];try rfl) rfl ?_;exact⟨none,0,rfl,.inl rfl,gG,fun b o s e=>by simp at e⟩
 ·have h2b:(tk==2)=false:=by simpa using h2
  rw[if_neg h2]at m2;simp only[Bool.and_eq_true,beq_iff_eq]at m2;have HSI:Hid (si=0):=m2.1;obtain⟨n,hn⟩:∃n:Nat,(if tk=3 then(lenOf c tp:Int)else 1)=(n:Int)/\Ad c ⟨tk,tp⟩=n:=by
   unfold Ad;simp only;rcases hkd with e|e|e
   ·exact⟨1,by simp[e],by simp[e]⟩
   ·exact absurd e h2
   ·exact⟨lenOf c tp,by simp[e],by simp[e]⟩
  rw[hn.1]at KW;rw[hn.2]at hw ⊢;have KFI:=GZ n sb hb oM;have HKW:Hid (∀v,Below w.heap.size w v->Calls prog 41 #[.agg #[v0,v1,v2,v3],.agg #[.int .i64 tk,.int .i64 tp]] v fun e w'=>e=.returned (.int .i64 (n:Int))/\Below v.heap.size v w'):=fun v hb=>KW v (hv.below hb);have HKF:Hid (∀v,Calls prog 40 #[.int .i64 (n:Int),.int .i64 sb] v fun e w'=>∃q cap,e=.returned (.tuple #[.slice q n cap,.int .i64 0])/\AE w' q n (fun i=>.int .i64 (canon sb))/\Below v.heap.size v w'/\∀b o s,q=some ⟨b,o,s⟩->v.heap.size<=b):=KFI;have HT:Hid (Nq w v0 v1 v2 v3 tk tp kp sb si (((w.alloc (.cells #[v0,v1,v2,v3] 27)).alloc (.cells #[.int .i64 tk,.int .i64 tp,.bool kp,.int .u32 sb,.int .i64 si] 72)).alloc (.cells #[.slice none 0 0,.int .i64 0] 84))):=HT0;have hsb:IntKind.i64.wrap sb=sb:=by rw[IntKind.wrap_i64];have:=hb.1;have:=hb.2;omega
  obtain⟨-,c0,c1,c2,c3,s0,s1,s2,s3,s4,r0,r1,f0,f1⟩:=HT0;clear KW KFI m1 m2 hpl hkd h2 hn hs hv;go_enter func22,ntmps22;go_wp2;refine rG (fun v=>v.cell? ⟨w.heap.size,0,none⟩=some v0/\v.cell? ⟨w.heap.size,1,none⟩=some v1/\v.cell? ⟨w.heap.size,2,none⟩=some v2/\v.cell? ⟨w.heap.size,3,none⟩=some v3/\v.cell? ⟨w.heap.size+1,0,none⟩=some (.int .i64 tk)/\v.cell? ⟨w.heap.size+1,1,none⟩=some (.int .i64 tp)/\v.cell? ⟨w.heap.size+1,3,none⟩=some (.int .u32 sb)) fun hHeld=>?_;refine Tf 0 1 2 4 5 6 ?_;clear hHeld;refine Ao 3 fun K hK=>?_;go_simp;(go_at_call 41;(with_reducible refine(HKW.out _ (bel HT.out.bel (A5 _))).mono ?_);rintro e w1 ⟨rfl,hb1⟩;have HB1:Hid (Below (((w.alloc (.cells #[v0,v1,v2,v3] 27)).alloc (.cells #[.int .i64 tk,.int .i64 tp,.bool kp,.int .u32 sb,.int .i64 si] 72)).alloc (.cells #[.slice none 0 0,.int .i64 0] 84)).heap.size (((w.alloc (.cells #[v0,v1,v2,v3] 27)).alloc (.cells #[.int .i64 tk,.int .i64 tp,.bool kp,.int .u32 sb,.int .i64 si] 72)).alloc (.cells #[.slice none 0 0,.int .i64 0] 84)) w1):=bel (A5 _) hb1;clear hb1;obtain⟨-,c0,c1,c2,c3,s0,s1,s2,s3,s4,r0,r1,f0,f1⟩:=HT.out.next HB1.out);try(go_wp2_with fail)
  refine An hK fun hHeld=>?_;clear hK K;clear hHeld;refine Ao 7 fun K hK=>?_;go_simp;(go_at_call 40;(with_reducible refine(HKF.out _).mono ?_);rintro e w2 ⟨pf,qf,rfl,hrf,hb2,hfr⟩;have HFR:Hid (∀b o s,pf=some ⟨b,o,s⟩->w1.heap.size<=b):=hfr;clear hfr;have HS1:Hid (w.heap.size+1+1<w1.heap.size):=A3 r0;have HB2:Hid (Below (((w.alloc (.cells #[v0,v1,v2,v3] 27)).alloc (.cells #[.int .i64 tk,.int .i64 tp,.bool kp,.int .u32 sb,.int .i64 si] 72)).alloc (.cells #[.slice none 0 0,.int .i64 0] 84)).heap.size (((w.alloc (.cells #[v0,v1,v2,v3] 27)).alloc (.cells #[.int .i64 tk,.int .i64 tp,.bool kp,.int .u32 sb,.int .i64 si] 72)).alloc (.cells #[.slice none 0 0,.int .i64 0] 84)) w2):=bel HB1.out hb2;have HRF:Hid (AE w2 pf n (fun i=>.int .i64 (canon sb))):=hrf;clear hb2 hrf c0 c1 c2 c3 s0 s1 s2 s3 s4 r0 r1 f0 f1;obtain⟨-,c0,c1,c2,c3,s0,s1,s2,s3,s4,r0,r1,f0,f1⟩:=HT.out.next HB2.out);try(go_wp2_with fail)
  refine An hK fun hHeld=>?_;clear hK K;refine Tc 8 9 10 ?_;refine Tb 11 12 ?_;refine wpAnyH_done kR ?_ _;go_wp2;refine bodyPost_ret (by simp[results,results22,go_sem, *];try rfl) rfl ?_;have hbF:Below w.heap.size w ((w2.setCell ⟨w.heap.size+1+1,0,none⟩ (.slice pf n qf)).setCell ⟨w.heap.size+1+1,1,none⟩ (.int .i64 0)):=((bel HT.out.bel HB2.out).setCell ZC _).setCell ZC _;refine⟨pf,qf,by rw[List.length_replicate,HSI.out],?_,hbF,fun b o s e=>by have h3:=HFR.out b o s e;have h4:=HS1.out;omega⟩;show AE _ _ _ _;rw[List.length_replicate];rcases HRF.out with h0|⟨b,o,rfl,h1⟩
  ·exact .inl h0
  ·refine .inr ⟨b,o,rfl,fun j hj=>?_⟩;have hne:b≠w.heap.size+1+1:=by have h3:=HFR.out b o none rfl;have h4:=HS1.out;omega
   rw[World.cell?_of_block (Below.heap_setCell _ _ _ _ hne),World.cell?_of_block (Below.heap_setCell _ _ _ _ hne),h1 j hj];simp only;rw[I2 _ _ hj]
theorem Mz{B:Nat}{V:World}{e t:TypeId}{z:Value}{sz by':Nat}(ht:prog.underlying t=some (.slice e))(hi:(prog.info? e).map (fun i=>(i.zero,i.size,i.bytes))=some (some z,sz,by'))(hzs:z.cells.size=sz)(hsz:0<sz){p:Option Addr}{n q:Nat}{xs:List Value}(h:V.ownsRow B e sz (.slice p n q) n xs)(hB:B<=V.heap.size)
 (cs:Array Value) (hcs:cs.size=sz) (h1:∀u∈cs.toList,u.oneCell'=true) (hn:n+1<=maxLen) (hb:(n+1)*by'<=140737488355328) (ty:TypeId):
 ∃g c' w',(Builtin.append_ #[t,t] ty #[.slice p n q,.slice (some ⟨V.heap.size,0,none⟩) 1 1]).run prog (V.alloc (.cells cs e))=.ok (.slice (some ⟨g,0,none⟩) (n+1) c') w'/\Below B V w'/\w'.ownsRow B e sz (.slice (some ⟨g,0,none⟩) (n+1) c') (n+1) (xs++cs.toList)/\(∀b,b<V.heap.size->(Value.slice p n q).ownBlock≠some b->w'.heap[b]? =V.heap[b]?)/\((Value.slice p n q).ownBlock=some g\/V.heap.size<g):=by
 obtain⟨i0,hi0,hz0,hz1,hz2⟩:=info_parts hi;have hb0:Below V.heap.size V (V.alloc (.cells cs e)):=A0 _ _;have hs:(V.alloc (.cells cs e)).heap.size=V.heap.size+1:=sM;have h0:=AA h hb0;obtain⟨g,cap,w3,hr,hown,hgrow,hat,hlt⟩:=run_append_lies (P:=prog) (V.alloc (.cells cs e)) t ty B e i0 _ sz by' ht hi0 hz0 hz1 hz2 hzs hsz (.slice p n q) n xs h0 ⟨V.heap.size,0,none⟩ 1 1 cs.toList (by simp[hcs])
  (World.news_of_block (cs:=cs) (t:=e) (fr:=(0,0)) (heap_alloc_new V _)) h1 dE hn hb oM _ rfl
 exact Zds
def G9(v:World)(sv:Value)(p:Option Addr)(l:List Int):Prop:=l=[]\/∃b o,p=some ⟨b,o,none⟩/\sv.ownBlock≠some b/\∀j,j<l.length->v.cell? ⟨b,o+j,none⟩=some (.int .i64 (B7 l j))
theorem G9.num{v:World}{sv:Value}{p:Option Addr}{l:List Int}(h:G9 v sv p l):BN v p l:=by
 rcases h with rfl|⟨b,o,e,-,h⟩
 ·exact .inl rfl
 ·exact .inr ⟨b,o,e,h⟩
theorem G9.below{v v':World}{sv:Value}{p:Option Addr}{l:List Int}(h:G9 v sv p l)(k:Below v.heap.size v v'):G9 v' sv p l:=by
 rcases h with rfl|⟨b,o,e,hn,h⟩
 ·exact .inl rfl
 ·exact .inr ⟨b,o,e,hn,fun j hj=>kc k (h j hj)⟩
theorem BN.apart{v:World}{sv:Value}{p:Option Addr}{l:List Int}(h:BN v p l)(ha:∀b o s,p=some ⟨b,o,s⟩->sv.ownBlock≠some b):G9 v sv p l:=by
 rcases h with h|⟨b,o,e,h⟩
 ·exact .inl (List.length_eq_zero_iff.1 h)
 ·exact .inr ⟨b,o,e,ha b o none e,h⟩
theorem G9.grow{V w':World}{p:Option Addr}{n q g c' m:Nat}{pp:Option Addr}{l:List Int}(h:G9 V (.slice p n q) pp l)(hk:∀b,b<V.heap.size->(Value.slice p n q).ownBlock≠some b->w'.heap[b]? =V.heap[b]?)(hg:(Value.slice p n q).ownBlock=some g\/V.heap.size<g):G9 w' (.slice (some ⟨g,0,none⟩) m c') pp l:=by
 exact Zcn
structure If(B:Nat)(v:World)(sv:Value)(X:List Cl):Prop where
 own:v.ownsRow B 84 2 sv X.length (AT QH X)
 nums:∀x∈X,G9 v sv x.p x.h.pats
theorem If.below{B:Nat}{v v':World}{sv:Value}{X:List Cl}(h:If B v sv X)(k:Below v.heap.size v v'):If B v' sv X:=⟨AA h.own k,fun x hx=>(h.nums x hx).below k⟩
theorem If.cs{B:Nat}{v:World}{sv:Value}{X:List Cl}(h:If B v sv X):Sx v sv X:=⟨Ic Gb h.own,fun x hx=>(h.nums x hx).num⟩
theorem If.nil(B:Nat)(v:World):If B v (.slice none 0 0) []:=⟨World.ownsRow_nil _ _ _ 2,fun x hx=>by cases hx⟩
theorem If.push{B:Nat}{V:World}{p:Option Addr}{q:Nat}{X:List Cl}(h:If B V (.slice p X.length q) X)(hB:B<=V.heap.size)(hX:X.length<=16384)(x:Cl)(hx:G9 V (.slice p X.length q) x.p x.h.pats)(ty:TypeId):
 ∃g c' w',(Builtin.append_ #[36,36] ty #[.slice p X.length q,.slice (some ⟨V.heap.size,0,none⟩) 1 1]).run prog (V.alloc (.cells #[.slice x.p x.h.pats.length x.q,.int .i64 x.h.whole] 84))=.ok (.slice (some ⟨g,0,none⟩) (X.length+1) c') w'/\Below B V w'/\If B w' (.slice (some ⟨g,0,none⟩) (X.length+1) c') (X++[x])/\(∀b,b<V.heap.size->(Value.slice p X.length q).ownBlock≠some b->w'.heap[b]? =V.heap[b]?):=by
 obtain⟨g,c',w',hr,hb,ho,hk,hg⟩:=Mz (V:=V) underlying36 GQ rfl dE h.own hB #[.slice x.p x.h.pats.length x.q,.int .i64 x.h.whole] rfl (fun u hu=>Pn x u hu) mL oM ty;refine⟨g,c',w',hr,hb,⟨?_,fun y hy=>?_⟩,hk⟩
 ·rw[List.length_append,Fe];exact ho
 ·rcases List.mem_append.1 hy with e|e
  ·exact(h.nums y e).grow hk hg
  ·simp only[List.mem_singleton]at e;subst e;exact hx.grow hk hg
def f5(a b c d e:Value)(j:Nat):Value:=if j=0 then a else if j=1 then b else if j=2 then c else if j=3 then d else e
theorem Fc(a b c d e:Value):∀i,i<(#[a,b,c,d,e]:Array Value).size->(#[a,b,c,d,e]:Array Value)[i]? =some (f5 a b c d e i):=by
 intro i hi;have hi':i<5:=hi;obtain rfl|rfl|rfl|rfl|rfl:i=0\/i=1\/i=2\/i=3\/i=4:=oM
 all_goals rfl
structure NW(w:World)(v0 v1 v2 v3:Value)(R:Nat)(sv:Value)(X:List Cl)(v:World):Prop where
 cx:CX w v0 v1 v2 v3 v
 rb:v.rowIs (w.heap.size+1) 38 5 (f5 (.slice none 0 0) (.slice none 0 0) (.slice none 0 0) (.slice none 0 0) (.slice none 0 0))
 rr:v.rowIs R 38 5 (f5 v0 v1 v2 v3 sv)
 cs:If (R+1) v sv X
 hR:w.heap.size+1<R
 ap:∀x∈X,∀b o s,x.p=some ⟨b,o,s⟩->R<b
theorem NW.next{w:World}{v0 v1 v2 v3:Value}{R:Nat}{sv:Value}{X:List Cl}{v v':World}(h:NW w v0 v1 v2 v3 R sv X v)(k:Below v.heap.size v v'):NW w v0 v1 v2 v3 R sv X v':=
 ⟨h.cx.next k,h.rb.of_block (k.block _ h.rb.lt),h.rr.of_block (k.block _ h.rr.lt),h.cs.below k,h.hR,h.ap⟩
theorem NW.put{w:World}{v0 v1 v2 v3:Value}{R:Nat}{sv:Value}{X:List Cl}{v w':World}{g n c':Nat}{Y:List Cl}(h:NW w v0 v1 v2 v3 R sv X v)(hb:Below (R+1) v w')(hc:If (R+1) w' (.slice (some ⟨g,0,none⟩) n c') Y)(hap:∀x∈Y,∀b o s,x.p=some ⟨b,o,s⟩->R<b):
 w'.cell? ⟨R,4,none⟩=some sv/\w'.frozen? ⟨R,4,none⟩=false/\NW w v0 v1 v2 v3 R (.slice (some ⟨g,0,none⟩) n c') Y (w'.setCell ⟨R,4,none⟩ (.slice (some ⟨g,0,none⟩) n c')):=by
 have hR:=h.hR;have hr':w'.rowIs R 38 5 (f5 v0 v1 v2 v3 sv):=h.rr.of_block (hb.block R (Nat.lt_succ_self _));have ho:∀b,b≠R->(w'.setCell ⟨R,4,none⟩ (.slice (some ⟨g,0,none⟩) n c')).heap[b]? =w'.heap[b]? :=fun b hne=>Below.heap_setCell _ _ _ _ hne;have hgR:g≠R:=fun e=>by have:=(hc.own.lt g rfl).1;omega
 refine⟨hr'.cell (i:=4) dE,hr'.frozen 4,(h.cx.on (hb.mono oM)).on ((Below.refl _ _).setCell (by show w.heap.size+1<=R;omega) _),(h.rb.of_block (hb.block _ oM)).setOther (by show w.heap.size+1≠R;omega) _,(hr'.set 4 _).congr (fun j hj=>?_),⟨AF hc.own (fun b hbb=>ho b Zhg),fun x hx=>?_⟩,h.hR,hap⟩
 ·have hj':j<5:=hj;obtain rfl|rfl|rfl|rfl|rfl:j=0\/j=1\/j=2\/j=3\/j=4:=oM
  all_goals simp[f5]
 ·rcases hc.nums x hx with e|⟨b,o,e,hn,h1⟩
  ·exact .inl e
  ·refine .inr ⟨b,o,e,hn,fun j hj=>?_⟩;have hne:b≠R:=by have:=hap x hx b o none e;omega
   rw[World.cell?_of_block (ho b hne)];exact h1 j hj
theorem OR(v0 v1 v2 v3:Value)(c:Cd)(hk:B0 c)(w:World)(hv:Di w v0 v1 v2 v3 c)(hc:(Ar c).1≠0):
 Calls prog 7 #[.agg #[v0,v1,v2,v3]] w fun e w'=>e=.returned (.tuple #[.agg #[.slice none 0 0,.slice none 0 0,.slice none 0 0,.slice none 0 0,.slice none 0 0],.int .i64 (Ar c).1])/\Below w.heap.size w w':=by
 have KC:=Gv v0 v1 v2 v3 c hk;obtain⟨E,hE⟩:∃E,(Ar c).1=E:=⟨_,rfl⟩
 obtain⟨F,hF⟩:∃E,(Ar c).2=E:=⟨_,rfl⟩
 rw[hE,hF]at KC;rw[hE]at hc ⊢;have HKC:Hid (∀v,Below w.heap.size w v->Calls prog 21 #[.agg #[v0,v1,v2,v3]] v fun e w'=>e=.returned (.tuple #[.int .i64 E,.int .i64 F])/\Below v.heap.size v w'):=fun v hb=>KC v (hv.below hb);have h1:(E==0)=false:=by simpa using hc
 have h2:(E != 0)=true:=by simpa using hc
 have HX0:Hid (CX w v0 v1 v2 v3 ((w.alloc (.cells #[v0,v1,v2,v3] 27)).alloc (.cells #[.slice none 0 0,.slice none 0 0,.slice none 0 0,.slice none 0 0,.slice none 0 0] 38))):=(CX.start w v0 v1 v2 v3).next (A0 _ _);obtain⟨b1,b2,c0,c1,c2,c3⟩:=HX0.out;have q:∀j,j<5->((w.alloc (.cells #[v0,v1,v2,v3] 27)).alloc (.cells #[.slice none 0 0,.slice none 0 0,.slice none 0 0,.slice none 0 0,.slice none 0 0] 38)).cell? ⟨w.heap.size+1,j,none⟩=some (.slice none 0 0)/\((w.alloc (.cells #[v0,v1,v2,v3] 27)).alloc (.cells #[.slice none 0 0,.slice none 0 0,.slice none 0 0,.slice none 0 0,.slice none 0 0] 38)).frozen? ⟨w.heap.size+1,j,none⟩=false:=fun j hj=>by
  obtain rfl|rfl|rfl|rfl|rfl:j=0\/j=1\/j=2\/j=3\/j=4:=oM
  all_goals simp[go_sem]
 have HQ:Hid (∀v,Below ((w.alloc (.cells #[v0,v1,v2,v3] 27)).alloc (.cells #[.slice none 0 0,.slice none 0 0,.slice none 0 0,.slice none 0 0,.slice none 0 0] 38)).heap.size ((w.alloc (.cells #[v0,v1,v2,v3] 27)).alloc (.cells #[.slice none 0 0,.slice none 0 0,.slice none 0 0,.slice none 0 0,.slice none 0 0] 38)) v->∀j,j<5->v.cell? ⟨w.heap.size+1,j,none⟩=some (.slice none 0 0)/\v.frozen? ⟨w.heap.size+1,j,none⟩=false):=fun v hb j hj=>⟨kc hb (q j hj).1,kf hb (q j hj).1 (q j hj).2⟩
 clear KC hE hF hc q;go_enter func7,ntmps7;go_wp2_with(go_at_call 21;(with_reducible refine(HKC.out _ HX0.out.bel).mono ?_);rintro e w1 ⟨rfl,hb1⟩;have HB1:Hid (Below w.heap.size w w1):=bel HX0.out.bel hb1;obtain⟨q0,z0⟩:=HQ.out w1 hb1 0 dE;obtain⟨q1,z1⟩:=HQ.out w1 hb1 1 dE;obtain⟨q2,z2⟩:=HQ.out w1 hb1 2 dE;obtain⟨q3,z3⟩:=HQ.out w1 hb1 3 dE;obtain⟨q4,z4⟩:=HQ.out w1 hb1 4 dE;clear hb1);refine bodyPost_ret (by simp[results,results7,go_sem, *];try rfl) rfl ?_;refine⟨rfl,?_⟩;exact((((HB1.out.setCell Jq _).setCell Jq _).setCell Jq _).setCell Jq _).setCell Jq _
theorem If.off{B:Nat}{v v':World}{sv:Value}{X:List Cl}{Z R:Nat}(h:If B v sv X)(hZ:Z<R)(hB:R<B)(ap:∀x∈X,∀b o s,x.p=some ⟨b,o,s⟩->R<b)(k:∀b,b≠Z->v'.heap[b]? =v.heap[b]?):If B v' sv X:=by
 refine⟨AF h.own (fun b hb=>k b (by have:=(h.own.lt b hb).1;omega)),fun x hx=>?_⟩;rcases h.nums x hx with e|⟨b,o,e,hn,h1⟩
 ·exact .inl e
 ·have:=ap x hx b o none e;exact .inr ⟨b,o,e,hn,fun j hj=>by rw[World.cell?_of_block (k b oM)];exact h1 j hj⟩
theorem MM(v0 v1 v2 v3:Value)(c:Cd)(hk:B0 c)(w:World)(hv:Di w v0 v1 v2 v3 c)(hc:(Ar c).1=0):
 Calls prog 7 #[.agg #[v0,v1,v2,v3]] w fun e w'=>∃p q X,e=.returned (.tuple #[.agg #[v0,v1,v2,v3,.slice p c.slots.length q],.int .i64 0])/\X.map (·.h)=Bo c/\Sx w' (.slice p c.slots.length q) X/\Below w.heap.size w w'/\(∀b o s,p=some ⟨b,o,s⟩->w.heap.size<=b)/\∀x∈X,∀b o s,x.p=some ⟨b,o,s⟩->w.heap.size<=b:=by
 have hg:=(D2 hc).1;have KC:=Gv v0 v1 v2 v3 c hk;rw[hc]at KC;obtain⟨F,hF⟩:∃E,(Ar c).2=E:=⟨_,rfl⟩
 rw[hF]at KC;have HKC:Hid (∀v,Below w.heap.size w v->Calls prog 21 #[.agg #[v0,v1,v2,v3]] v fun e w'=>e=.returned (.tuple #[.int .i64 0,.int .i64 F])/\Below v.heap.size v w'):=fun v hb=>KC v (hv.below hb);have HKF:Hid (∀s∈c.slots,∀v,Below w.heap.size w v->Calls prog 22 #[.agg #[v0,v1,v2,v3],.agg #[.int .i64 s.ty.kind,.int .i64 s.ty.par,.bool s.keep,.int .u32 s.bits,.int .i64 s.int_]] v fun e w'=>∃p q,e=.returned (.agg #[.slice p (AK c s).pats.length q,.int .i64 (AK c s).whole])/\BN w' p (AK c s).pats/\Below v.heap.size v w'/\∀b o s,p=some ⟨b,o,s⟩->v.heap.size<=b):=fun s hs v hb=>IM v0 v1 v2 v3 c hg s (hg.slots s hs) ⟨(hk.sbits s hs).1,(hk.sbits s hs).2⟩ v (hv.below hb);obtain⟨p0,q0,rfl,-⟩:=id hv.sign;obtain⟨p1,q1,rfl,-⟩:=id hv.regs;obtain⟨p2,q2,rfl,-⟩:=id hv.slots;obtain⟨p3,q3,rfl,-⟩:=id hv.list;have HSL:Hid (B3 5 LL w (.slice p2 c.slots.length q2) c.slots):=hv.slots;have hn2:=hg.slotsL;obtain⟨n2,hnn⟩:∃n,c.slots.length=n:=⟨_,rfl⟩
 have HN2:Hid (c.slots.length=n2):=hnn;rw[hnn]at hn2 HKC HKF HSL ⊢;obtain⟨n0,hn0⟩:∃n,c.sign.length=n:=⟨_,rfl⟩
 obtain⟨n1,hn1⟩:∃n,c.regs.length=n:=⟨_,rfl⟩
 obtain⟨n3,hn3⟩:∃n,c.list.length=n:=⟨_,rfl⟩
 rw[hn0,hn1,hn3]at HKC HKF ⊢;have HX0:Hid (CX w (.slice p0 n0 q0) (.slice p1 n1 q1) (.slice p2 n2 q2) (.slice p3 n3 q3) ((w.alloc (.cells #[.slice p0 n0 q0,.slice p1 n1 q1,.slice p2 n2 q2,.slice p3 n3 q3] 27)).alloc (.cells #[.slice none 0 0,.slice none 0 0,.slice none 0 0,.slice none 0 0,.slice none 0 0] 38))):=(CX.start w (.slice p0 n0 q0) (.slice p1 n1 q1) _ (.slice p3 n3 q3)).next (A0 _ _);have HRB0:Hid (((w.alloc (.cells #[.slice p0 n0 q0,.slice p1 n1 q1,.slice p2 n2 q2,.slice p3 n3 q3] 27)).alloc (.cells #[.slice none 0 0,.slice none 0 0,.slice none 0 0,.slice none 0 0,.slice none 0 0] 38)).rowIs (w.heap.size+1) 38 5 (f5 (.slice none 0 0) (.slice none 0 0) (.slice none 0 0) (.slice none 0 0) (.slice none 0 0))):=by
  have h9:=World.rowIs_alloc (w.alloc (.cells #[(.slice p0 n0 q0),(.slice p1 n1 q1),.slice p2 n2 q2,(.slice p3 n3 q3)] 27)) #[.slice none 0 0,.slice none 0 0,.slice none 0 0,.slice none 0 0,.slice none 0 0] 38 _ (Fc _ _ _ _ _);rw[show(w.alloc (.cells #[(.slice p0 n0 q0),(.slice p1 n1 q1),.slice p2 n2 q2,(.slice p3 n3 q3)] 27)).heap.size=w.heap.size+1 by simp]at h9;exact h9
 obtain⟨b1,b2,c0,c1,c2,c3⟩:=HX0.out;clear KC hF hc hv hk hnn hn0 hn1 hn3;go_enter func7,ntmps7;go_wp2_with(go_at_call 21;(with_reducible refine(HKC.out _ HX0.out.bel).mono ?_);rintro e w1 ⟨rfl,hb1⟩;have HNW:Hid (NW w (.slice p0 n0 q0) (.slice p1 n1 q1) (.slice p2 n2 q2) (.slice p3 n3 q3) w1.heap.size (.slice none 0 0) [] (w1.alloc (.cells #[(.slice p0 n0 q0),(.slice p1 n1 q1),.slice p2 n2 q2,(.slice p3 n3 q3),.slice none 0 0] 38))):=(by have hcx:=HX0.out.next hb1;have hrb:=HRB0.out.of_block (hb1.block _ HRB0.out.lt);exact⟨hcx.next (A0 _ _),hrb.alloc _,World.rowIs_alloc w1 _ _ _ (Fc _ _ _ _ _),If.nil _ _,hrb.lt,fun x hx=>by cases hx⟩);obtain⟨-,-,c0,c1,c2,c3⟩:=HX0.out.next hb1;have a0:=(fun o=>kc (A0 w1 o) c0);have a1:=(fun o=>kc (A0 w1 o) c1);have a2:=(fun o=>kc (A0 w1 o) c2);have a3:=(fun o=>kc (A0 w1 o) c3);clear hb1);obtain⟨R,hR⟩:∃R,w1.heap.size=R:=⟨_,rfl⟩
 obtain⟨W1,hW1⟩:∃W,w1.alloc (.cells #[(.slice p0 n0 q0),(.slice p1 n1 q1),.slice p2 n2 q2,(.slice p3 n3 q3),.slice none 0 0] 38)=W:=⟨_,rfl⟩
 rw[hW1,hR]at HNW;try rw[hW1]
 try rw[hR]
 clear hW1 hR c0 c1 c2 c3 a0 a1 a2 a3 b1 b2 HRB0
 go_loopw [7] (fun iv wr=>∃ (j:Nat) (p:Option Addr) (q:Nat) (X:List Cl),j<=n2/\iv=.int .i64 (j:Int)/\Hid (NW w (.slice p0 n0 q0) (.slice p1 n1 q1) (.slice p2 n2 q2) (.slice p3 n3 q3) R (.slice p X.length q) X wr)/\Hid (X.map (·.h)=(Bo c).take j)) (fun iv _=>n2-(intOf iv).toNat)
 case atStart=>exact⟨0,none,0,[],Nat.zero_le _,rfl,HNW.out,by show _=_;simp⟩
 case round=>
  obtain⟨j,p,q,X,hj,rfl,hnw,hmap⟩:=hrel;obtain⟨b1,b2,c0,c1,c2,c3⟩:=hnw.out.cx;have r4:wr.cell? ⟨R,4,none⟩=some (.slice p X.length q):=hnw.out.rr.cell (i:=4) dE;have hXl:X.length=j:=by
   have h5:=congrArg List.length hmap.out;rw[List.length_map,List.length_take,Bo,List.length_map,HN2.out]at h5;omega
  clear HNW;by_cases hlt:j<n2
  ·have hll:j<c.slots.length:=by rw[HN2.out];exact hlt
   obtain⟨lb,lo,rfl,hx⟩:=HSL.out.at hll;have KF1:=HKF.out c.slots[j] (List.getElem_mem hll);have HMN:Hid (∀h',h'=AK c c.slots[j]->(X.map (·.h))++[h']=(Bo c).take (j+1)):=fun h' e=>by
    rw[hmap.out,List.take_succ_eq_append_getElem (by rw[Bo,List.length_map];exact hll),FH _ hll,e]
   obtain⟨s9,hs9⟩:∃s,c.slots[j]=s:=⟨_,rfl⟩
   rw[hs9]at hx KF1 HMN;obtain⟨H9,hH9⟩:∃h,AK c s9=h:=⟨_,rfl⟩
   rw[hH9]at KF1 HMN;obtain⟨⟨tk,tp⟩,kp,sb,si⟩:=s9;simp only at KF1;have y0:=kc b1 (hx.at 0 rfl);have y1:=kc b1 (hx.at 1 rfl);have y2:=kc b1 (hx.at 2 rfl);have y3:=kc b1 (hx.at 3 rfl);have y4:=kc b1 (hx.at 4 rfl);rw[Nat.add_zero]at y0;simp only[LL]at hx;have HKF1:Hid _:=KF1;have HXW:Hid (Aa w lb (lo+j*5) (LL ⟨⟨tk,tp⟩,kp,sb,si⟩)):=hx;obtain⟨N,hN⟩:∃N,X.length=N:=⟨_,rfl⟩
   have HNX:Hid (X.length=N):=hN;have hnw2:=hnw.out;rw[hN]at r4 hnw2;have HNW2:Hid _:=hnw2;try rw[hN]
   have i1:(0:Int)<=(j:Int):=oM;have i2:(j:Int)<(n2:Int):=oM;have wi:IntKind.i64.wrap ((j:Int)+1)=((j+1:Nat):Int):=by rw[IntKind.wrap_i64];omega
   have HXL:Hid (X.length=j):=hXl;clear KF1 hx hs9 hH9 hnw2 hN hmap hXl;go_wp2;refine rG (fun v=>v.cell? ⟨w.heap.size,0,none⟩=some (.slice p0 n0 q0)/\v.cell? ⟨w.heap.size,1,none⟩=some (.slice p1 n1 q1)/\v.cell? ⟨w.heap.size,2,none⟩=some (.slice (some ⟨lb,lo,none⟩) n2 q2)/\v.cell? ⟨w.heap.size,3,none⟩=some (.slice p3 n3 q3)/\v.cell? ⟨lb,lo+j*5,none⟩=some (.int .i64 tk)/\v.cell? ⟨lb,lo+j*5+1,none⟩=some (.int .i64 tp)/\v.cell? ⟨lb,lo+j*5+2,none⟩=some (.bool kp)/\v.cell? ⟨lb,lo+j*5+3,none⟩=some (.int .u32 sb)/\v.cell? ⟨lb,lo+j*5+4,none⟩=some (.int .i64 si)) fun hHeld=>?_;refine Tf 0 2 3 4 5 6 ?_;refine AI 7 ?_;clear hHeld;refine wpAnyH_ready (rs:=[1,8]) kR sM ?_;refine Hp 1 (fun K hK=>?_) ?_
   ·go_simp;refine An hK fun hHeld=>?_;clear hK K;clear hHeld;refine Ao 8 fun K hK=>?_;go_simp;(go_at_call 22;(with_reducible refine(HKF1.out _ (bel b1 (A5 _))).mono ?_);rintro e w2 ⟨pf,qf,rfl,hnum,hb2,hfr⟩;have hb22:Below wr.heap.size wr w2:=bel (A5 _) hb2;have h22:=hnw.out.next hb22;obtain⟨g,c',w3,hrun,hb3,hcs3,hoth⟩:=h22.cs.push (Nat.succ_le_of_lt h22.rr.lt) (by have h5:=HXL.out;omega) ⟨pf,qf,H9⟩ (hnum.apart (fun b o s e e2=>by have h5:=hfr b o s e;have h6:=(hnw.out.cs.own.lt b e2).2;have h7:wr.drew.heap.size=wr.heap.size:=rfl;omega)) 36;have hap3:∀x∈X++[(⟨pf,qf,H9⟩:Cl)],∀b o s,x.p=some ⟨b,o,s⟩->R<b:=(by intro x hx b o s e;rcases List.mem_append.1 hx with h|h;exact hnw.out.ap x h b o s e;simp only[List.mem_singleton]at h;subst h;have h5:=hfr b o s e;have h6:=hnw.out.rr.lt;have h7:wr.drew.heap.size=wr.heap.size:=rfl;omega);obtain⟨k4,z4,hnw3⟩:=h22.put hb3 hcs3 hap3;rw[HNX.out]at hrun k4 hnw3;have HRUN:Hid _:=hrun;have HNW3:Hid (NW w (.slice p0 n0 q0) (.slice p1 n1 q1) (.slice (some ⟨lb,lo,none⟩) n2 q2) (.slice p3 n3 q3) R (.slice (some ⟨g,0,none⟩) (N+1) c') (X++[(⟨pf,qf,H9⟩:Cl)]) (w3.setCell ⟨R,4,none⟩ (.slice (some ⟨g,0,none⟩) (N+1) c'))):=hnw3;have hcx2:=h22.cx;have hcx3:=hcx2.on (hb3.mono (by have:=h22.hR;omega));obtain⟨b21,-,d0,d1,d2,d3⟩:=hcx2;obtain⟨b31,-,e0,e1,e2,e3⟩:=hcx3;have u4:w2.cell? ⟨R,4,none⟩=some (.slice p N q):=Zgz;have g0:=(fun o=>kc (A0 w2 o) d0);have g1:=(fun o=>kc (A0 w2 o) d1);have g2:=(fun o=>kc (A0 w2 o) d2);have g3:=(fun o=>kc (A0 w2 o) d3);have g4:=(fun o=>kc (A0 w2 o) u4);have m0:=kc b21 (HXW.out.at 0 rfl);have m1:=kc b21 (HXW.out.at 1 rfl);have m2:=kc b21 (HXW.out.at 2 rfl);have m3:=kc b21 (HXW.out.at 3 rfl);have m4:=kc b21 (HXW.out.at 4 rfl);rw[Nat.add_zero]at m0;have l0:=(fun o=>kc (A0 w2 o) m0);have l1:=(fun o=>kc (A0 w2 o) m1);have l2:=(fun o=>kc (A0 w2 o) m2);have l3:=(fun o=>kc (A0 w2 o) m3);have l4:=(fun o=>kc (A0 w2 o) m4);have t0:=kc b31 (HXW.out.at 0 rfl);have t1:=kc b31 (HXW.out.at 1 rfl);have t2:=kc b31 (HXW.out.at 2 rfl);have t3:=kc b31 (HXW.out.at 3 rfl);have t4:=kc b31 (HXW.out.at 4 rfl);rw[Nat.add_zero]at t0;obtain⟨b41,-,o0,o1,o2,o3⟩:=HNW3.out.cx;have x0:(w3.setCell ⟨R,4,none⟩ (.slice (some ⟨g,0,none⟩) (N+1) c')).cell? ⟨lb,lo+j*5,none⟩=some (.int .i64 tk):=kc b41 (HXW.out.at 0 rfl);have x1:=kc b41 (HXW.out.at 1 rfl);have x2:=kc b41 (HXW.out.at 2 rfl);have x3:=kc b41 (HXW.out.at 3 rfl);have x4:=kc b41 (HXW.out.at 4 rfl);clear b41 hnum hb2 hfr hb22 h22 hrun hb3 hcs3 hoth hap3 hnw3 b21 b31);try(go_wp2_with fail)
    refine An hK fun hHeld=>?_;clear hK K;clear hHeld;refine Ao 9 fun K hK=>?_;exact Zbf
   refine Hp 8 (fun K hK=>?_) AllReadyH.nil;go_simp;(go_at_call 22;(with_reducible refine(HKF1.out _ (bel b1 (A5 _))).mono ?_);rintro e w2 ⟨pf,qf,rfl,hnum,hb2,hfr⟩;have hb22:Below wr.heap.size wr w2:=bel (A5 _) hb2;have h22:=hnw.out.next hb22;obtain⟨g,c',w3,hrun,hb3,hcs3,hoth⟩:=h22.cs.push (Nat.succ_le_of_lt h22.rr.lt) (by have h5:=HXL.out;omega) ⟨pf,qf,H9⟩ (hnum.apart (fun b o s e e2=>by have h5:=hfr b o s e;have h6:=(hnw.out.cs.own.lt b e2).2;have h7:wr.drew.heap.size=wr.heap.size:=rfl;omega)) 36;have hap3:∀x∈X++[(⟨pf,qf,H9⟩:Cl)],∀b o s,x.p=some ⟨b,o,s⟩->R<b:=(by intro x hx b o s e;rcases List.mem_append.1 hx with h|h;exact hnw.out.ap x h b o s e;simp only[List.mem_singleton]at h;subst h;have h5:=hfr b o s e;have h6:=hnw.out.rr.lt;have h7:wr.drew.heap.size=wr.heap.size:=rfl;omega);obtain⟨k4,z4,hnw3⟩:=h22.put hb3 hcs3 hap3;rw[HNX.out]at hrun k4 hnw3;have HRUN:Hid _:=hrun;have HNW3:Hid (NW w (.slice p0 n0 q0) (.slice p1 n1 q1) (.slice (some ⟨lb,lo,none⟩) n2 q2) (.slice p3 n3 q3) R (.slice (some ⟨g,0,none⟩) (N+1) c') (X++[(⟨pf,qf,H9⟩:Cl)]) (w3.setCell ⟨R,4,none⟩ (.slice (some ⟨g,0,none⟩) (N+1) c'))):=hnw3;have hcx2:=h22.cx;have hcx3:=hcx2.on (hb3.mono (by have:=h22.hR;omega));obtain⟨b21,-,d0,d1,d2,d3⟩:=hcx2;obtain⟨b31,-,e0,e1,e2,e3⟩:=hcx3;have u4:w2.cell? ⟨R,4,none⟩=some (.slice p N q):=Zgz;have g0:=(fun o=>kc (A0 w2 o) d0);have g1:=(fun o=>kc (A0 w2 o) d1);have g2:=(fun o=>kc (A0 w2 o) d2);have g3:=(fun o=>kc (A0 w2 o) d3);have g4:=(fun o=>kc (A0 w2 o) u4);have m0:=kc b21 (HXW.out.at 0 rfl);have m1:=kc b21 (HXW.out.at 1 rfl);have m2:=kc b21 (HXW.out.at 2 rfl);have m3:=kc b21 (HXW.out.at 3 rfl);have m4:=kc b21 (HXW.out.at 4 rfl);rw[Nat.add_zero]at m0;have l0:=(fun o=>kc (A0 w2 o) m0);have l1:=(fun o=>kc (A0 w2 o) m1);have l2:=(fun o=>kc (A0 w2 o) m2);have l3:=(fun o=>kc (A0 w2 o) m3);have l4:=(fun o=>kc (A0 w2 o) m4);have t0:=kc b31 (HXW.out.at 0 rfl);have t1:=kc b31 (HXW.out.at 1 rfl);have t2:=kc b31 (HXW.out.at 2 rfl);have t3:=kc b31 (HXW.out.at 3 rfl);have t4:=kc b31 (HXW.out.at 4 rfl);rw[Nat.add_zero]at t0;obtain⟨b41,-,o0,o1,o2,o3⟩:=HNW3.out.cx;have x0:(w3.setCell ⟨R,4,none⟩ (.slice (some ⟨g,0,none⟩) (N+1) c')).cell? ⟨lb,lo+j*5,none⟩=some (.int .i64 tk):=kc b41 (HXW.out.at 0 rfl);have x1:=kc b41 (HXW.out.at 1 rfl);have x2:=kc b41 (HXW.out.at 2 rfl);have x3:=kc b41 (HXW.out.at 3 rfl);have x4:=kc b41 (HXW.out.at 4 rfl);clear b41 hnum hb2 hfr hb22 h22 hrun hb3 hcs3 hoth hap3 hnw3 b21 b31);try(go_wp2_with fail)
   refine An hK fun hHeld=>?_;clear hK K;clear hHeld;refine wpAnyH_ready (rs:=[1,9]) kR sM ?_;refine Hp 1 (fun K hK=>?_) ?_
   ·go_simp;refine An hK fun hHeld=>?_;clear hK K;clear hHeld;refine Ao 9 fun K hK=>?_;exact Zbf
   refine Hp 9 (fun K hK=>?_) AllReadyH.nil;go_simp;refine An hK fun hHeld=>?_;clear hK K;clear hHeld;refine Ao 1 fun K hK=>?_;exact Zbf
  ·have hjn:j=n2:=oM;have HMF:Hid (X.map (·.h)=Bo c):=by
    show _=_;have h5:=hmap.out;rw[hjn,←HN2.out,List.take_of_length_le (by rw[Bo,List.length_map];exact Nat.le_refl _)]at h5;exact h5
   have e1:¬ (j:Int)<(n2:Int):=oM;have r0:wr.cell? ⟨R,0,none⟩=some (.slice p0 n0 q0):=hnw.out.rr.cell (i:=0) dE;have r1:wr.cell? ⟨R,1,none⟩=some (.slice p1 n1 q1):=hnw.out.rr.cell (i:=1) dE;have r2:wr.cell? ⟨R,2,none⟩=some (.slice p2 n2 q2):=hnw.out.rr.cell (i:=2) dE;have r3:wr.cell? ⟨R,3,none⟩=some (.slice p3 n3 q3):=hnw.out.rr.cell (i:=3) dE;have k0:wr.cell? ⟨w.heap.size+1,0,none⟩=some (.slice none 0 0):=hnw.out.rb.cell (i:=0) dE;have k1:wr.cell? ⟨w.heap.size+1,1,none⟩=some (.slice none 0 0):=hnw.out.rb.cell (i:=1) dE;have k2:wr.cell? ⟨w.heap.size+1,2,none⟩=some (.slice none 0 0):=hnw.out.rb.cell (i:=2) dE;have k3:wr.cell? ⟨w.heap.size+1,3,none⟩=some (.slice none 0 0):=hnw.out.rb.cell (i:=3) dE;have k4:wr.cell? ⟨w.heap.size+1,4,none⟩=some (.slice none 0 0):=hnw.out.rb.cell (i:=4) dE;have z0:=hnw.out.rb.frozen 0;have z1:=hnw.out.rb.frozen 1;have z2:=hnw.out.rb.frozen 2;have z3:=hnw.out.rb.frozen 3;have z4:=hnw.out.rb.frozen 4;have hne:R≠w.heap.size+1:=by have:=hnw.out.hR;omega
   obtain⟨N,hN⟩:∃N,X.length=N:=⟨_,rfl⟩
   have HNX:Hid (X.length=N):=hN;rw[hN]at r4;clear hlt hmap hXl hN;go_wp2;refine bodyPost_ret (by simp[results,results7,go_sem, *];try rfl) rfl ?_;have ho:∀ (a b c d e:Value) (x:Nat),x≠w.heap.size+1->(((((wr.setCell ⟨w.heap.size+1,0,none⟩ a).setCell ⟨w.heap.size+1,1,none⟩ b).setCell ⟨w.heap.size+1,2,none⟩ c).setCell ⟨w.heap.size+1,3,none⟩ d).setCell ⟨w.heap.size+1,4,none⟩ e).heap[x]? =wr.heap[x]? :=fun a b c d e x hx=>by
    rw[Below.heap_setCell _ _ _ _ hx,Below.heap_setCell _ _ _ _ hx,Below.heap_setCell _ _ _ _ hx,Below.heap_setCell _ _ _ _ hx,Below.heap_setCell _ _ _ _ hx]
   have HNN:N=n2:=by
    have h5:=congrArg List.length HMF.out;rw[List.length_map,Bo,List.length_map,HN2.out,HNX.out]at h5;exact h5
   refine⟨p,q,by rw[HNN],X,HMF.out,?_,?_,fun b o s e=>?_,fun x hx b o s e=>by have h5:=hnw.out.ap x hx b o s e;have h6:=hnw.out.hR;omega⟩
   rotate_right 1
   ·have h5:=E1 hnw.out.cs.own b o s e;have h6:=hnw.out.hR;omega
   ·rw[←HNN,←HNX.out];exact(hnw.out.cs.off (Z:=w.heap.size+1) (by have:=hnw.out.hR;omega) (Nat.lt_succ_self _) hnw.out.ap (ho _ _ _ _ _)).cs
   ·exact((((hnw.out.cx.bel.setCell Jq _).setCell Jq _).setCell Jq _).setCell Jq _).setCell Jq _
def Hy(l:List Int):List Value:=l.map fun x=>.int .u32 x
theorem FE(l:List Int)(x:Int):Hy (l++[x])=Hy l++[.int .u32 x]:=by simp[Hy]
theorem Ly{w:World}{B:Nat}{p:Option Addr}{q:Nat}{l:List Int}(h:w.ownsRow B 43 1 (.slice p l.length q) l.length (Hy l)):AE w p l.length (fun j=>.int .u32 (B7 l j)):=by
 by_cases h0:l.length=0
 ·exact .inl h0
 ·obtain⟨g,cap,e,_⟩:=h.form oM;simp only[Value.slice.injEq]at e;obtain⟨rfl,-,-⟩:=e;refine .inr ⟨g,0,rfl,fun j hj=>?_⟩;rw[Nat.zero_add,h.cellAt j oM];simp[Hy,B7,hj]
theorem Gh:(prog.info? 43).map (fun i=>(i.zero,i.size,i.bytes))=some (some (.int .u32 0),1,4):=kR
theorem MR(v0 v1 v2 v3:Value)(p:Option Addr)(L q:Nat)(hL:L<=16384)(n:Int)(hn:n<0\/(L:Int)<=n)(w:World):
 Calls prog 24 #[.agg #[v0,v1,v2,v3,.slice p L q],.int .i64 n] w fun e w'=>e=.returned (.tuple #[.slice none 0 0,.int .i64 0,.int .i64 1])/\Below w.heap.size w w':=by
 by_cases h0:n<0
 ·clear hn;exact Zet
 ·have h1:(L:Int)<=n:=oM;have h2:0<=n:=oM;clear hn h0;exact Zet
theorem LH(v0 v1 v2 v3:Value)(u:Value)(X:List Cl)(hX:X.length<=16384)(k:Nat)(hk:k<X.length)(hP:∀y∈X[k].h.pats,Ag y)(hl:X[k].h.pats.length<=4096)(w:World)(h:Sx w u X):
 Calls prog 24 #[.agg #[v0,v1,v2,v3,u],.int .i64 (k:Int)] w fun e w'=>∃p q,e=.returned (.tuple #[.slice p X[k].h.pats.length q,.int .i64 X[k].h.whole,.int .i64 0])/\AE w' p X[k].h.pats.length (fun j=>.int .u32 (B7 X[k].h.pats j))/\Below w.heap.size w w'/\∀b o s,p=some ⟨b,o,s⟩->w.heap.size<=b:=by
 obtain⟨pu,qu,rfl,-⟩:=id h.row;obtain⟨b,o,rfl,hc⟩:=h.row.at hk;have hnum:=h.nums X[k] (List.getElem_mem hk);obtain⟨⟨px,qx,⟨pats,wh⟩⟩,hx⟩:∃x,X[k]=x:=⟨_,rfl⟩
 rw[hx]at hc hnum hP hl ⊢;simp only at hnum hP hl ⊢;have y0:w.cell? ⟨b,o+k*2,none⟩=some (.slice px pats.length qx):=hc.at 0 rfl;have y1:w.cell? ⟨b,o+k*2+1,none⟩=some (.int .i64 wh):=hc.at 1 rfl;have HNUM:Hid (BN w px pats):=hnum;have HP:Hid (∀j,Ag (B7 pats j)):=fun j=>Bw hP j;obtain⟨N,hN⟩:∃N,X.length=N:=⟨_,rfl⟩
 obtain⟨M,hM⟩:∃M,pats.length=M:=⟨_,rfl⟩
 have HM:Hid (pats.length=M):=hM;rw[hN]at hk hX ⊢;rw[hM]at y0 hl ⊢;have HC:Hid (∀v,Below (w.alloc (.cells #[v0,v1,v2,v3,.slice (some ⟨b,o,none⟩) N qu] 38)).heap.size (w.alloc (.cells #[v0,v1,v2,v3,.slice (some ⟨b,o,none⟩) N qu] 38)) v->v.cell? ⟨w.heap.size,4,none⟩=some (.slice (some ⟨b,o,none⟩) N qu)/\v.cell? ⟨b,o+k*2,none⟩=some (.slice px M qx)/\v.cell? ⟨b,o+k*2+1,none⟩=some (.int .i64 wh)):=fun v hb=>⟨kc hb sG,kc (bel (A0 _ _) hb) y0,kc (bel (A0 _ _) hb) y1⟩
 obtain⟨W0,hW0⟩:∃W,w.alloc (.cells #[v0,v1,v2,v3,.slice (some ⟨b,o,none⟩) N qu] 38)=W:=⟨_,rfl⟩
 have HW0:Hid (Below w.heap.size w W0):=by rw[←hW0];exact A0 _ _
 rw[hW0]at HC;have g4:=(HC.out _ (B8 _)).1;have k0:(0:Int)<=(k:Int):=oM;have k1:(k:Int)<(N:Int):=oM;have hB1:decide (N<=k)=false:=sO;have hB2:decide ((k:Int)<0)=false:=sM;clear h hc hnum hP hx hN hM y0 y1;go_enter func24,ntmps24;go_wp2;try simp only[hB1,hB2,Bool.or_false]
 clear hW0 g4
 go_loopw [7,8] (fun ov iv wr=>Below W0.heap.size W0 wr/\∃ (j:Nat) (pp:Option Addr) (qq:Nat),j<=M/\iv=.int .i64 (j:Int)/\ov=.slice pp j qq/\Hid (wr.ownsRow W0.heap.size 43 1 (.slice pp j qq) j (Hy (pats.take j)))) (fun _ iv _=>M-(intOf iv).toNat)
 case atStart=>exact⟨B8 _,0,none,0,Nat.zero_le _,rfl,rfl,World.ownsRow_nil _ _ _ 1⟩
 case round=>
  obtain⟨hb,j,pp,qq,hj,rfl,rfl,how⟩:=hrel;obtain⟨c4,d0,d1⟩:=HC.out wr hb;have HB:Hid (Below W0.heap.size W0 wr):=hb;by_cases hlt:j<M
  ·have hll:j<pats.length:=by rw[HM.out];exact hlt
   rcases HNUM.out with h0|⟨bx,ox,rfl,hcell⟩
   ·omega
   have hc:=hcell j hll;simp only at hc;have y:=kc (bel HW0.out hb) hc;have hP:=HP.out j;obtain⟨g,c',w8,hap,hb8,ho8,-⟩:=EJ (V:=wr) underlying57 Gh rfl dE how.out hb.size #[.int .u32 (B7 pats j)] rfl ZD mL oM 57;have HNX:Hid (w8.ownsRow W0.heap.size 43 1 (.slice (some ⟨g,0,none⟩) (j+1) c') (j+1) (Hy (pats.take (j+1)))):=by
    show World.ownsRow _ _ _ _ _ _ _;have e9:B7 pats j=pats[j]:=by simp[B7,hll]
    rw[List.take_succ_eq_append_getElem hll,FE,←e9];exact ho8
   have HB8:Hid (Below W0.heap.size wr w8):=hb8;have HAP:Hid _:=hap;obtain⟨z,hz⟩:∃z,B7 pats j=z:=⟨_,rfl⟩
   rw[hz]at y hP HAP;have t0:(j:Int)<(M:Int):=oM;have t1:(0:Int)<=(j:Int):=oM;have t5:IntKind.i64.wrap ((j:Int)+1)=((j+1:Nat):Int):=by rw[IntKind.wrap_i64];omega
   have t6:IntKind.u32.wrap z=z:=by rw[IntKind.wrap_u32];have:=hP.1;have:=hP.2;omega
   clear hap hb8 ho8 hc hcell hz hb how hll;go_wp2_with(at_builtin;refine AD rF _ _ _ rF _ _ _ rF rF HAP.out ?_);go_roundw
   case rel=>
    exact⟨HB.out.trans HB8.out,j+1,_,_,oM,gN,rfl,HNX.out⟩
   case measure=>simp[intOf];omega
  have hjn:j=M:=oM;have e1:¬ (j:Int)<(M:Int):=oM;have HOW:Hid (wr.ownsRow W0.heap.size 43 1 (.slice pp pats.length qq) pats.length (Hy pats)):=by
   show World.ownsRow _ _ _ _ _ _ _;have h5:=how.out;rw[hjn,←HM.out,List.take_length]at h5;exact h5
  have HJ:Hid (j=M):=hjn;clear how hlt hjn;go_wp2;refine rG (fun v=>v.cell? ⟨w.heap.size,4,none⟩=some (.slice (some ⟨b,o,none⟩) N qu)/\v.cell? ⟨b,o+k*2+1,none⟩=some (.int .i64 wh)) fun hHeld=>?_;refine Tf 0 1 2 3 4 5 ?_;refine Tc 6 7 8 ?_;refine AI 9 ?_;refine wpAnyH_done kR ?_ _;go_wp2;refine bodyPost_ret (by simp[results,results24,go_sem];try rfl) rfl ?_;have hrd:=Ly HOW.out;rw[HM.out]at hrd;have hbw:Below w.heap.size w wr:=bel HW0.out HB.out;refine⟨pp,qq,by rw[HJ.out],hrd,CS hbw,fun b o s e=>?_⟩;have h5:=(HOW.out.lt b (by rw[e];rfl)).1;have h6:=HW0.out.size;omega
def J7(w:World)(v:Value)(L:List (List Int)):Prop:=∃p c,v=.slice p L.length c/\∀i (hi:i<L.length),∃b o q d,p=some ⟨b,o,none⟩/\w.cell? ⟨b,o+i,none⟩=some (.slice q (L[i]).length d)/\AE w q (L[i]).length (fun j=>.int .u32 (B7 L[i] j))
theorem J7.below{w w':World}{v:Value}{L:List (List Int)}(h:J7 w v L)(k:Below w.heap.size w w'):J7 w' v L:=by
 obtain⟨p,c,e,h⟩:=h;refine⟨p,c,e,fun i hi=>?_⟩;obtain⟨b,o,q,d,e1,e2,e3⟩:=h i hi;exact⟨b,o,q,d,e1,kc k e2,e3.below k⟩
theorem Br.vc{T:Nat->Prop}{w:World}{v:Value}{L:List (List Int)}(h:Br T w v L):J7 w v L:=h.cellsOf
theorem Mi:∀ {l:List BO} {m:List Nat},m.length≠l.length->AC l m=false
 |[],[],h=>absurd rfl h
 |[],_::_,_=>rfl
 |_::_,[],_=>rfl
 |p::l,n::m,h=>by
  have:AC l m=false:=Mi SE;simp[AC,this]
theorem Mh:∀ {l:List BO} {m:List Nat} {k:Nat} (h1:k<l.length) (h2:k<m.length),((m[k]:Nat):Int)≠BJ l[k]->AC l m=false
 |[],m,k,h,_,_=>by simp at h
 |p::l,[],k,_,h,_=>by simp at h
 |p::l,n::m,0,_,_,hne=>by
  have:decide ((n:Int)=BJ p)=false:=by simpa using hne
  simp[AC,this]
 |p::l,n::m,k+1,h1,h2,hne=>by
  have:AC l m=false:=Mh (k:=k) (by simpa using h1) (by simpa using h2) (by simpa using hne);simp[AC,this]
theorem JH:∀ {l:List BO} {m:List Nat},m.length=l.length->(∀k (h1:k<l.length) (h2:k<m.length),((m[k]:Nat):Int)=BJ l[k])->AC l m=true
 |[],[],_,_=>rfl
 |[],_::_,h,_=>by simp at h
 |_::_,[],h,_=>by simp at h
 |p::l,n::m,h,ha=>by
  have h0:((n:Nat):Int)=BJ p:=ha 0 sM sM;have:AC l m=true:=JH SE fun k h1 h2=>by
   have:=ha (k+1) sO sO;simpa using this
  simp[AC,h0,this]
theorem E5(v0:Value)(l:List BO)(hl:l.length<=64)(hM:∀p∈l,p.name.size<=140737488351232)(gv:Value)(L:List (List Int))(hL:L.length<=140737488351232)(hLL:∀x∈L,x.length<=140737488351232)(w:World)(hr:B3 3 AW w v0 l)(hg:J7 w gv L):
 Calls prog 46 #[v0,gv] w fun e w'=>e=.returned (.bool (AC l (L.map (·.length))))/\Below w.heap.size w w':=by
 obtain⟨p0,q0,rfl,-⟩:=id hr;obtain⟨pg,qg,rfl,hcell⟩:=hg;have HR:Hid (B3 3 AW w (.slice p0 l.length q0) l):=hr;have HCELL:Hid (∀i (hi:i<L.length),∃b o q d,pg=some ⟨b,o,none⟩/\w.cell? ⟨b,o+i,none⟩=some (.slice q (L[i]).length d)/\AE w q (L[i]).length (fun j=>.int .u32 (B7 L[i] j))):=hcell;have HNM:Hid (∀p∈l,p.name.size<=140737488351232):=hM;have HLL:Hid (∀x∈L,x.length<=140737488351232):=hLL;by_cases hne:L.length=l.length
 ·obtain⟨RES,hRES⟩:∃X,AC l (L.map (·.length))=X:=⟨_,rfl⟩
  rw[hRES];have HRES:Hid (AC l (L.map (·.length))=RES):=hRES;have HNE:Hid (L.length=l.length):=hne;obtain⟨N,hN⟩:∃N,l.length=N:=⟨_,rfl⟩
  have HN:Hid (l.length=N):=hN;rw[hne];rw[hN]at hl HR ⊢;clear hr hcell hM hLL hRES hne hN hL;go_enter func46,ntmps46;go_wp2
  go_loopw [5] (fun iv wr=>Below w.heap.size w wr/\∃j:Nat,j<=N/\iv=.int .i64 (j:Int)/\Hid (∀k (h1:k<l.length) (h2:k<L.length),k<j->((L[k].length:Nat):Int)=BJ l[k])) (fun iv _=>N-(intOf iv).toNat)
  case atStart=>exact⟨B8 _,0,Nat.zero_le _,rfl,fun k _ _ h=>absurd h (Nat.not_lt_zero _)⟩
  case round=>
   obtain⟨hb,j,hj,rfl,hall⟩:=hrel;by_cases hlt:j<N
   ·have hll:j<l.length:=by rw[HN.out];exact hlt
    have hLl:j<L.length:=by rw[HNE.out];exact hll
    obtain⟨lb,lo,rfl,hx⟩:=HR.out.at hll;obtain⟨gb,go,gq,gd,rfl,hgc,-⟩:=HCELL.out j hLl;have KN:=Gu l[j] (HNM.out _ (List.getElem_mem hll));have hlen:=HLL.out _ (List.getElem_mem hLl);have NX:Hid (((L[j].length:Nat):Int)=BJ l[j]->∀k (h1:k<l.length) (h2:k<L.length),k<j+1->((L[k].length:Nat):Int)=BJ l[k]):=fun h k h1 h2 h3=>by
     by_cases e:k=j
     ·subst e;exact h
     ·exact hall.out k h1 h2 oM
    have NB:Hid (((L[j].length:Nat):Int)≠BJ l[j]->false=RES):=fun h=>by
     rw[←HRES.out];exact(Mh (k:=j) hll (by simp;exact hLl) SE).symm
    obtain⟨U,hU⟩:∃U,BJ l[j]=U:=⟨_,rfl⟩
    obtain⟨V,hV⟩:∃V,L[j].length=V:=⟨_,rfl⟩
    rw[hU]at KN NX NB;rw[hV]at hgc hlen NX NB;obtain⟨⟨nm,K9,L9⟩,hT⟩:∃T:BO,l[j]=T:=⟨_,rfl⟩
    rw[hT]at hx KN;unfold pv at KN;simp only at KN;have HK:Hid (∀v,Calls prog 77 #[.agg #[.string nm,.int .i64 K9,.int .i64 L9]] v fun e w'=>e=.returned (.int .i64 U)/\Below v.heap.size v w'):=KN;have y0:wr.cell? ⟨lb,lo+j*3,none⟩=some (.string nm):=kc hb (hx.at 0 rfl);have y1:wr.cell? ⟨lb,lo+j*3+1,none⟩=some (.int .i64 K9):=kc hb (hx.at 1 rfl);have y2:wr.cell? ⟨lb,lo+j*3+2,none⟩=some (.int .i64 L9):=kc hb (hx.at 2 rfl);have y3:=kc hb hgc;have HB:Hid (Below w.heap.size w wr):=hb;have i1:(0:Int)<=(j:Int):=oM;have i2:(j:Int)<(N:Int):=oM;clear KN hx hgc hall hT hU hV hb;by_cases hX:((V:Nat):Int)=U
    ·have hb1:((V:Int) != U)=false:=by simpa using hX
     have HNX:=NX.out hX;have HNX2:Hid _:=HNX;clear hX HNX NX NB;go_wp2;refine rG (fun v=>v.cell? ⟨gb,go+j,none⟩=some (.slice gq V gd)/\v.cell? ⟨lb,lo+j*3,none⟩=some (.string nm)/\v.cell? ⟨lb,lo+j*3+1,none⟩=some (.int .i64 K9)/\v.cell? ⟨lb,lo+j*3+2,none⟩=some (.int .i64 L9)) fun hHeld=>?_;refine Tf 0 1 2 3 4 5 ?_;refine Tc 6 7 8 ?_;clear hHeld;refine Ao 9 fun K hK=>?_;go_simp;(go_at_call 77;(with_reducible refine(HK.out _).mono ?_);rintro e w2 ⟨rfl,hb2⟩;have HB2:Hid (Below wr.heap.size wr w2):=bel (A5 _) hb2;clear hb2;have x0:=kc HB2.out y0;have x1:=kc HB2.out y1;have x2:=kc HB2.out y2;have x3:=kc HB2.out y3);try(go_wp2_with fail)
     refine An hK fun hHeld=>?_;clear hK K;refine AI 10 ?_;refine wpAnyH_done kR ?_ _;go_wp2;go_roundw
     case rel=>exact⟨bel HB.out HB2.out,j+1,oM,gN,HNX2.out⟩
     case measure=>simp[intOf];omega
    ·have hb1:((V:Int) != U)=true:=by simpa using hX
     have HQ:=NB.out hX;have HQF:Hid (false=RES):=HQ;clear hX HQ NX NB;go_wp2;refine rG (fun v=>v.cell? ⟨gb,go+j,none⟩=some (.slice gq V gd)/\v.cell? ⟨lb,lo+j*3,none⟩=some (.string nm)/\v.cell? ⟨lb,lo+j*3+1,none⟩=some (.int .i64 K9)/\v.cell? ⟨lb,lo+j*3+2,none⟩=some (.int .i64 L9)) fun hHeld=>?_;refine Tf 0 1 2 3 4 5 ?_;refine Tc 6 7 8 ?_;clear hHeld;refine Ao 9 fun K hK=>?_;go_simp;(go_at_call 77;(with_reducible refine(HK.out _).mono ?_);rintro e w2 ⟨rfl,hb2⟩;have HB2:Hid (Below wr.heap.size wr w2):=bel (A5 _) hb2;clear hb2;have x0:=kc HB2.out y0;have x1:=kc HB2.out y1;have x2:=kc HB2.out y2;have x3:=kc HB2.out y3);try(go_wp2_with fail)
     refine An hK fun hHeld=>?_;clear hK K;refine AI 10 ?_;refine wpAnyH_done kR ?_ _;go_wp2;go_ret;exact⟨A7 HQF.out,bel HB.out HB2.out⟩
   have HQT:Hid (true=RES):=by
    show _=_;rw[←HRES.out];refine(JH (by rw[List.length_map];exact HNE.out) fun k h1 h2=>?_).symm;rw[List.length_map]at h2;have h5:=hall.out k h1 h2 (by have:=HN.out;omega);simpa using h5
   have e1:¬ (j:Int)<(N:Int):=oM;clear hall hlt;go_wp2;go_ret;exact⟨A7 HQT.out,hb⟩
 ·rw[Mi (by rw[List.length_map];exact hne)];obtain⟨N,hN⟩:∃N,l.length=N:=⟨_,rfl⟩
  obtain⟨M,hM'⟩:∃N,L.length=N:=⟨_,rfl⟩
  rw[hN]at hne hl ⊢;rw[hM']at hne hL ⊢;have hb1:(((M:Nat):Int)==((N:Nat):Int))=false:=by have:((M:Nat):Int)≠(N:Int):=oM;simpa using this
  have hb2:(((M:Nat):Int) != ((N:Nat):Int))=true:=by have:((M:Nat):Int)≠(N:Int):=oM;simpa using this
  clear hr hcell hM hLL hN hM';go_enter func46,ntmps46;go_wp2;go_ret;exact⟨rfl,B8 _⟩
theorem Zr:prog.underlying 123=some (.slice (prog.elem 123)):=kR
theorem Wv:prog.elem 123=82:=kR
theorem Y0(w:World):(sizeOf (prog.elem 123)).run prog w=.ok 1 w:=by rw[Wv];exact Tryz.sizeOf82 w
def CR(a b c:List Int)(m:Nat):List (List Int):=[a,b,c].take m
def Su(W:Nat)(R:List Int):List Int:=if R.length=1 then List.replicate W (canon (R.headD 0))else R
theorem YG(op:Int)(m:Nat)(hm:BB op=m)(h0:m≠0)(xa xb xc:Cl)(n:Nat)(hs:BZ (lF (CR xa.h.pats xb.h.pats xc.h.pats m)) (m-1)=some n)
 (pa:∀y∈xa.h.pats,Ag y) (pb:∀y∈xb.h.pats,Ag y) (pc:∀y∈xc.h.pats,Ag y) (la:xa.h.pats.length<=4096) (lb:xb.h.pats.length<=4096) (lc:xc.h.pats.length<=4096) (g:Nat) (w:World)
 (g0:w.cell? ⟨g,0,none⟩=some (.slice xa.p xa.h.pats.length xa.q)) (g1:w.cell? ⟨g,1,none⟩=some (.slice xb.p xb.h.pats.length xb.q)) (g2:w.cell? ⟨g,2,none⟩=some (.slice xc.p xc.h.pats.length xc.q))
 (na:BN w xa.p xa.h.pats) (nb:BN w xb.p xb.h.pats) (nc:BN w xc.p xc.h.pats):
 Calls prog 120 #[.int .i64 op,.slice (some ⟨g,0,none⟩) m 3] w fun e w'=>∃q cap,e=.returned (.tuple #[.slice q n cap,.int .i64 0])/\BN w' q (Bt op (CR xa.h.pats xb.h.pats xc.h.pats m))/\(Bt op (CR xa.h.pats xb.h.pats xc.h.pats m)).length=n/\(∀y∈Bt op (CR xa.h.pats xb.h.pats xc.h.pats m),Ag y)/\Below w.heap.size w w'/\∀b o s,q=some ⟨b,o,s⟩->w.heap.size<=b:=by
 have hm3:m<=3:=by rw[←hm];exact Ft op
 have hal:(CR xa.h.pats xb.h.pats xc.h.pats m).length=m:=by unfold CR;rw[List.length_take];simp;omega
 have hv:∀i,i<m->CA (CR xa.h.pats xb.h.pats xc.h.pats m) i=if i=0 then xa.h.pats else if i=1 then xb.h.pats else xc.h.pats:=fun i hi=>by
  unfold CA CR;rw[List.getElem?_take,if_pos hi];have:i=0\/i=1\/i=2:=oM;rcases this with rfl|rfl|rfl<;>rfl
 have hvs:∀i,CA (CR xa.h.pats xb.h.pats xc.h.pats m) i=[]\/CA (CR xa.h.pats xb.h.pats xc.h.pats m) i=xa.h.pats\/CA (CR xa.h.pats xb.h.pats xc.h.pats m) i=xb.h.pats\/CA (CR xa.h.pats xb.h.pats xc.h.pats m) i=xc.h.pats:=fun i=>by
  by_cases hi:i<m
  ·rw[hv i hi];split
   ·exact .inr (.inl rfl)
   ·split
    ·exact .inr (.inr (.inl rfl))
    ·exact .inr (.inr (.inr rfl))
  ·left;unfold CA CR;rw[List.getElem?_take,if_neg hi];rfl
 have hP:∀i j,Ag (xF (CR xa.h.pats xb.h.pats xc.h.pats m) i j):=fun i j=>by
  unfold xF;refine Bw ?_ j;rcases hvs i with e|e|e|e<;>rw[e]
  ·intro y hy;cases hy
  ·exact pa
  ·exact pb
  ·exact pc
 have hl:∀i,lF (CR xa.h.pats xb.h.pats xc.h.pats m) i<=1048576:=fun i=>by
  unfold lF;rcases hvs i with e|e|e|e<;>rw[e]<;>first|(show(0:Nat)<=_;omega)|omega
 have hL:G8 .i64 w (some ⟨g,0,none⟩) m (fun i=>if i=0 then xa.p else if i=1 then xb.p else xc.p) (lF (CR xa.h.pats xb.h.pats xc.h.pats m)) (fun i=>if i=0 then xa.q else if i=1 then xb.q else xc.q) (xF (CR xa.h.pats xb.h.pats xc.h.pats m)):=by
  refine⟨.inr ⟨g,0,rfl,fun i hi=>?_⟩,fun i hi=>?_⟩
  ·have:i=0\/i=1\/i=2:=oM;simp only[lF];rw[hv i hi,Nat.zero_add];rcases this with rfl|rfl|rfl
   ·exact g0
   ·exact g1
   ·exact g2
  ·have:i=0\/i=1\/i=2:=oM;simp only[lF,xF];rw[hv i hi];rcases this with rfl|rfl|rfl
   ·exact na
   ·exact nb
   ·exact nc
 have hs':BZ (lF (CR xa.h.pats xb.h.pats xc.h.pats m)) ((CR xa.h.pats xb.h.pats xc.h.pats m).length-1)=some n:=by rw[hal];exact hs
 obtain⟨a1,a2⟩:=Ku (op:=op) hs';refine(RG op oM g 0 m 3 hm n _ _ _ _ hP hl hs w hL).mono ?_;rintro e w' ⟨q,cap,rfl,hr,hb,hlo⟩;have a3:∀y∈Bt op (CR xa.h.pats xb.h.pats xc.h.pats m),Ag y:=fun y hy=>by
  obtain⟨j,hj,rfl⟩:=List.mem_iff_getElem.1 hy;have h9:=a2 j oM;have h8:B7 (Bt op (CR xa.h.pats xb.h.pats xc.h.pats m)) j=(Bt op (CR xa.h.pats xb.h.pats xc.h.pats m))[j]:=by simp[B7,hj]
  rw[←h8,h9];exact L8 _ _ _ _ (B4 hP _ _ _) (B4 hP _ _ _) (B4 hP _ _ _)
 refine⟨q,cap,rfl,?_,a1,a3,hb,hlo⟩;unfold BN;rw[a1];refine hr.congr fun j hj=>?_;rw[a2 j hj,hal]
def T8(j:Nat):Value:=if j=0 then .slice none 0 0 else .int .i64 0
theorem Ww:∀i,i<(#[.slice none 0 0,.int .i64 0]:Array Value).size->(#[.slice none 0 0,.int .i64 0]:Array Value)[i]? =some (T8 i):=by
 intro i hi;have hi':i<2:=hi;obtain rfl|rfl:i=0\/i=1:=oM
 all_goals rfl
theorem Z8{v:World}{R:Nat}(h:v.rowIs R 84 2 T8){q:Option Addr}{l:List Int}(hn:BN v q l)(h2:2<=l.length):∀b o,q=some ⟨b,o,none⟩->b≠R:=by
 intro b o e hb;rcases hn with h0|⟨b',o',e',hc⟩
 ·omega
 ·rw[e]at e';simp only[Option.some.injEq,Addr.mk.injEq,true_and,and_true]at e';obtain⟨rfl,rfl⟩:b=b'/\o=o':=by first|exact e'|exact⟨e'.1,e'.2⟩
  subst hb;by_cases ho:o=0
  ·have h3:=hc 0 oM;rw[ho]at h3;have h4:=h.cell (i:=0) dE;rw[Nat.add_zero]at h3;rw[h3]at h4;simp[T8]at h4
  ·have h3:=hc 1 oM;obtain⟨c,hb,hs,-⟩:=h;have h5:v.cell? ⟨b,o+1,none⟩=none:=by
    unfold World.cell?;simp only[hb];exact Array.getElem?_eq_none oM
   rw[h5]at h3;cases h3
structure Np(w:World)(v0 v1 v2 v3 ru:Value)(op D A B C tk tp:Int)(rb oa ob oc:Nat)(ua ub uc:Value)(v:World):Prop where
 bel:Below w.heap.size w v
 a0:v.cell? ⟨w.heap.size,0,none⟩=some v0
 a1:v.cell? ⟨w.heap.size,1,none⟩=some v1
 a2:v.cell? ⟨w.heap.size,2,none⟩=some v2
 a3:v.cell? ⟨w.heap.size,3,none⟩=some v3
 a4:v.cell? ⟨w.heap.size,4,none⟩=some ru
 i0:v.cell? ⟨w.heap.size+1,0,none⟩=some (.int .i64 op)
 i1:v.cell? ⟨w.heap.size+1,1,none⟩=some (.int .i64 D)
 i2:v.cell? ⟨w.heap.size+1,2,none⟩=some (.int .i64 A)
 i3:v.cell? ⟨w.heap.size+1,3,none⟩=some (.int .i64 B)
 i4:v.cell? ⟨w.heap.size+1,4,none⟩=some (.int .i64 C)
 r0:v.cell? ⟨w.heap.size+1+1,0,none⟩=some (.slice none 0 0)
 r1:v.cell? ⟨w.heap.size+1+1,1,none⟩=some (.int .i64 0)
 rr:v.rowIs (w.heap.size+1+1) 84 2 T8
 f0:v.frozen? ⟨w.heap.size+1+1,0,none⟩=false
 f1:v.frozen? ⟨w.heap.size+1+1,1,none⟩=false
 t0:v.cell? ⟨w.heap.size+1+1+1,0,none⟩=some (.int .i64 tk)
 t1:v.cell? ⟨w.heap.size+1+1+1,1,none⟩=some (.int .i64 tp)
 x0:v.cell? ⟨rb,oa,none⟩=some ua
 x1:v.cell? ⟨rb,ob,none⟩=some ub
 x2:v.cell? ⟨rb,oc,none⟩=some uc
theorem Np.next{w:World}{v0 v1 v2 v3 ru:Value}{op D A B C tk tp:Int}{rb oa ob oc:Nat}{ua ub uc:Value}{v v':World}(h:Np w v0 v1 v2 v3 ru op D A B C tk tp rb oa ob oc ua ub uc v)(k:Below v.heap.size v v'):Np w v0 v1 v2 v3 ru op D A B C tk tp rb oa ob oc ua ub uc v':=
 ⟨Go.Proofs.YtbinohkcolcbfaaGreat.bel h.bel k,kc k h.a0,kc k h.a1,kc k h.a2,kc k h.a3,kc k h.a4,kc k h.i0,kc k h.i1,kc k h.i2,kc k h.i3,kc k h.i4,kc k h.r0,kc k h.r1,h.rr.of_block (k.block _ h.rr.lt),kf k h.r0 h.f0,kf k h.r1 h.f1,kc k h.t0,kc k h.t1,kc k h.x0,kc k h.x1,kc k h.x2⟩
theorem Dx(a:Int):canon (canon a)=canon a:=by
 by_cases h:nan a=true
 ·have e:canon a=2143289344:=by unfold canon;rw[if_pos h]
  rw[e];decide
 ·have e:canon a=a:=by unfold canon;rw[if_neg h]
  rw[e,e]
theorem Ir(b:Bool):canon (Hv b)=Hv b:=by cases b<;>decide
theorem Gp{o:Option Nat}(h:∀r,o=some r->rg r<=2139095040):canon (PM o)=PM o:=by
 cases o with
 |none=>decide
 |some r=>exact C7 (h r rfl)
theorem My{a b:Int}(ha:0<=a)(hb:0<=b){o:Ordering}(h:TZ a b=some o):canon a=a/\canon b=b:=by
 rw[IH a b ha hb]at h;split at h
 ·cases h
 ·rename_i hn;have h1:¬nan a=true:=fun e=>hn (.inl e);have h2:¬nan b=true:=fun e=>hn (.inr e);unfold canon;rw[if_neg h1,if_neg h2];exact⟨rfl,rfl⟩
theorem Tk(a b:Int)(ha:0<=a)(hb:0<=b):canon (FK a b)=FK a b:=by
 unfold FK;cases e:TZ a b with
 |none=>show canon 2143289344=2143289344;decide
 |some o=>
  obtain⟨h1,h2⟩:=My ha hb e;cases o
  ·exact h1
  ·simp only;split
   ·exact h1
   ·exact h2
  ·exact h2
theorem Ti(a b:Int)(ha:0<=a)(hb:0<=b):canon (Gd a b)=Gd a b:=by
 unfold Gd;cases e:TZ a b with
 |none=>show canon 2143289344=2143289344;decide
 |some o=>
  obtain⟨h1,h2⟩:=My ha hb e;cases o
  ·exact h2
  ·simp only;split
   ·exact h2
   ·exact h1
  ·exact h1
theorem C9{p:Prop}[Decidable p]{x y:Int}(h:canon x=x)(k:canon y=y):canon (if p then x else y)=if p then x else y:=by
 split
 ·exact h
 ·exact k
theorem Xu(op a b c:Int)(ha:Ag a)(hb:Ag b):canon (CJ op a b c)=CJ op a b c:=by
 unfold CJ;refine C9 (Dx a) (C9 (Gp fun _ h=>(IZ h).1) (C9 (Dx _) (C9 (Dx _) (C9 (Ir _) (C9 (Gp fun _ h=>(Kt h).1) (C9 (Gp fun _ h=>(LQ h).1) (C9 (Gp fun _ h=>(Lj h).1) (C9 (Gp fun _ h=>(Kz h).1) (C9 (Tk a b ha.1 hb.1) (C9 (Ti a b ha.1 hb.1) (C9 (Ir _) ?_)))))))))));unfold FY;exact C9 (Dx _) (Dx _)
theorem Wb{op:Int}{args:List (List Int)}(h:∀l∈args,∀y∈l,Ag y):∀y∈Bt op args,canon y=y:=by
 have hX:∀i j,Ag (xF args i j):=fun i j=>by
  exact Zed
 intro y hy;unfold Bt at hy;split at hy
 ·simp only[List.mem_map]at hy;obtain⟨k,_,rfl⟩:=hy;exact Xu _ _ _ _ (B4 hX _ _ _) (B4 hX _ _ _)
 ·cases hy
theorem el_eq{c:Cd}{f:Fr}{i:Au}(hg:Good c)(ok:EC c f)(he:Bg i.op=true)(nd:CN c f i)(hk:(A8 c.regs i.d).kind≠2):
 Su (if(A8 c.regs i.d).kind=3 then lenOf c (A8 c.regs i.d).par else 1) (Bt i.op (Bf c f i))=(if(Bt i.op (Bf c f i)).length<Ad c (A8 c.regs i.d)then BV c (A8 c.regs i.d) ((Bt i.op (Bf c f i)).headD 0)else Bt i.op (Bf c f i))/\(if(A8 c.regs i.d).kind=3 then lenOf c (A8 c.regs i.d).par else 1)=Ad c (A8 c.regs i.d):=by
 obtain⟨h1,h2,h3⟩:=Em hg ok he nd hk;obtain⟨s1,s2⟩:=EE hg ok he nd hk;have hcan:=Wb (op:=i.op) (args:=Bf c f i) (fun l hl=>by
  unfold Bf at hl;simp only[List.mem_map]at hl;obtain⟨r,hr,rfl⟩:=hl
  exact(h2 r hr).2.2.2)
 have hw:(if(A8 c.regs i.d).kind=3 then lenOf c (A8 c.regs i.d).par else 1)=Ad c (A8 c.regs i.d):=by
  unfold Ad;rcases h3 with e|e
  ·rw[if_neg oM,if_neg oM,if_pos e]
  ·rw[if_pos e,if_pos e]
 refine⟨?_,hw⟩;rw[hw];unfold BV;generalize Bt i.op (Bf c f i)=R at *;generalize Ad c (A8 c.regs i.d)=W at *;unfold Su;by_cases e:R.length=1
 ·rw[if_pos e];obtain⟨x,rfl⟩:=List.length_eq_one_iff.1 e;have hx:canon x=x:=hcan x sM;by_cases e2:W=1
  ·subst e2;rw[if_neg sM];show [canon x]=[x];rw[hx]
  ·rw[if_pos sO]
 ·rw[if_neg e,if_neg oM]
def CM(c:Cd)(G P:List (List Int))(f:Fr)(i:Au):Hd:=BG c (DQ c G P f i) i.d
section
variable {c : Cd} {G P : List (List Int)} {f : Fr} {i : Au}
theorem GJ(nd:CN c f i)(h:Dl i.op=true):CM c G P f i=⟨[Gm f i],0⟩:=by
 unfold CM BG;rw[Dr h,if_pos (nd.num h).2.2.2.2];simp only[D3]
theorem Ha(nd:CN c f i)(h:Be i.op=true):CM c G P f i=⟨[],DN f i⟩:=by
 have hk:=(nd.whole h).2.2.2.2.2.1;unfold CM BG;rw[Ct h,if_neg oM,if_pos hk];simp only[D3]
theorem Zs(nd:CN c f i)(h:i.op=29):CM c G P f i=⟨AH c G i,0⟩:=by
 have hk:=(nd.part (.inl h)).kind;unfold CM BG;rw[Eh h,if_neg oM,if_neg oM];simp only[D3]
theorem Zt(nd:CN c f i)(h:i.op=30):CM c G P f i=⟨AH c P i,0⟩:=by
 have hk:=(nd.part (.inr h)).kind;unfold CM BG;rw[Ei h,if_neg oM,if_neg oM];simp only[D3]
theorem Ys{r:Int}{h:Hd}(ho:Kr c (A8 c.regs r) h)(hz:(A8 c.regs r).kind≠2->h.whole=0):BG c (GG c f r h) r=h:=by
 obtain⟨pats,whole⟩:=h;simp only at hz;have hl:pats.length=Ad c (A8 c.regs r):=ho.1;unfold Ad at hl;unfold BG GG;by_cases h1:(A8 c.regs r).kind=1
 ·rw[if_neg oM,if_pos h1]at hl;rw[if_pos h1,if_pos h1];obtain⟨x,rfl⟩:=List.length_eq_one_iff.1 hl;simp only[D3,List.headD_cons];rw[hz oM]
 ·by_cases h2:(A8 c.regs r).kind=2
  ·rw[if_neg oM,if_neg oM]at hl;rw[if_neg h1,if_pos h2,if_neg h1,if_pos h2];simp only[D3];rw[List.length_eq_zero_iff.1 hl]
  ·rw[if_neg h1,if_neg h2,if_neg h1,if_neg h2];simp only[D3];rw[hz h2]
theorem Zu(ok:EC c f)(nd:CN c f i)(h:i.op=32)(hz:∀j (h:j<c.slots.length),c.slots[j].ty.kind≠2->((f.slots[j]?).getD ⟨[],0⟩).whole=0):CM c G P f i=(f.slots[i.n.toNat]?).getD ⟨[],0⟩:=by
 obtain⟨d0,d1,n0,n1,ht⟩:=nd.load h;have hn:i.n.toNat<c.slots.length:=oM;have hn2:i.n.toNat<f.slots.length:=by rw[ok.slotsL];exact hn
 have hh:=ok.slots i.n.toNat hn hn2;have e:slotT c.slots i.n=c.slots[i.n.toNat].ty:=by unfold slotT;rw[List.getElem?_eq_getElem hn];rfl
 unfold CM;rw[Ek h];refine Ys ?_ fun h2=>hz _ hn (by rw[←e,ht];exact h2);rw[List.getElem?_eq_getElem hn2,Option.getD_some,←ht,e];exact hh
theorem Sn(h:Bg i.op=true)(hk:(A8 c.regs i.d).kind=2):CM c G P f i=⟨[],f.whs i.a.toNat⟩:=by
 unfold CM BG;rw[Cp h];unfold CO;rw[if_pos hk,if_neg oM,if_pos hk];simp only[D3]
theorem VC(hg:Good c)(ok:EC c f)(nd:CN c f i)(h:Bg i.op=true)(hk:(A8 c.regs i.d).kind≠2):CM c G P f i=⟨Su (if(A8 c.regs i.d).kind=3 then lenOf c (A8 c.regs i.d).par else 1) (Bt i.op (Bf c f i)),0⟩:=by
 obtain⟨e1,e2⟩:=el_eq hg ok h nd hk;obtain⟨s1,s2⟩:=EE hg ok h nd hk;rw[e1];unfold CM;rw[Cp h];unfold CO;rw[if_neg hk];refine Ys ⟨?_,fun y hy=>?_,Int.le_refl _,by show(0:Int)<=2147483647;decide⟩ fun _=>rfl
 ·simp only;split
  ·unfold BV;rw[List.length_replicate]
  ·rename_i hn;have h1:=(Em hg ok h nd hk).1;omega
 ·simp only at hy;split at hy
  ·unfold BV at hy;rw[List.eq_of_mem_replicate hy];exact CV _ (Iy s2)
  ·exact s2 y hy
theorem LD(hk:As i.op=true)(r:Nat)(h:(A6 i.op).d≠0->r≠i.d.toNat):BG c (DQ c G P f i) (r:Int)=BG c f (r:Int):=by
 have hst:∀x:Hd,(A6 i.op).d≠0->BG c (GG c f i.d x) (r:Int)=BG c f (r:Int):=fun x hd=>by
  have hr:=h hd;unfold GG;split
  ·unfold BG;simp only[Int.toNat_natCast,D4 _ _ hr]
  ·split
   ·unfold BG;simp only[Int.toNat_natCast,D4 _ _ hr]
   ·unfold BG;simp only[Int.toNat_natCast,D4 _ _ hr]
 rcases Ew hk with e|e|e|e|e|e|e|e|e
 ·have hr:=h (by unfold Dl at e;simp only[Bool.or_eq_true,beq_iff_eq]at e;have:i.op=1\/i.op=16\/i.op=17\/i.op=19\/i.op=20:=oM;rcases this with q|q|q|q|q<;>rw[q]<;>decide);rw[Dr e];unfold BG;simp only[Int.toNat_natCast,D4 _ _ hr]
 ·have hr:=h (by unfold Be at e;simp only[Bool.or_eq_true,Bool.and_eq_true,beq_iff_eq,decide_eq_true_eq]at e;have:i.op=2\/i.op=18\/i.op=21\/i.op=22\/i.op=23\/i.op=24\/i.op=25\/i.op=26\/i.op=27\/i.op=28:=oM;rcases this with q|q|q|q|q|q|q|q|q|q<;>rw[q]<;>decide);rw[Ct e];unfold BG;simp only[Int.toNat_natCast,D4 _ _ hr]
 ·have hr:=h (by rw[e];decide);rw[Eh e];unfold BG;simp only[Int.toNat_natCast,D4 _ _ hr]
 ·have hr:=h (by rw[e];decide);rw[Ei e];unfold BG;simp only[Int.toNat_natCast,D4 _ _ hr]
 ·rw[Ej e];rfl
 ·rw[Ek e];exact hst _ (by rw[e];decide)
 ·rw[El e];rfl
 ·rw[BP e]
 ·have hd:(A6 i.op).d≠0:=by
   unfold Bg at e;simp only[Bool.and_eq_true,decide_eq_true_eq]at e;have:i.op=3\/i.op=4\/i.op=5\/i.op=6\/i.op=7\/i.op=8\/i.op=9\/i.op=10\/i.op=11\/i.op=12\/i.op=13\/i.op=14\/i.op=15:=oM;rcases this with q|q|q|q|q|q|q|q|q|q|q|q|q<;>rw[q]<;>decide
  rw[Cp e];unfold CO;split
  ·unfold BG;simp only[Int.toNat_natCast,D4 _ _ (h hd)]
  ·exact hst _ hd
end
structure Nv(c:Cd)(f:Fr)(X S O:List Cl):Prop where
 xl:X.length=c.regs.length
 xok:∀x∈X,(∀y∈x.h.pats,Ag y)/\x.h.pats.length<=4096/\0<=x.h.whole/\x.h.whole<=2147483647
 sl:S.map (·.h)=f.slots
 sz:∀j (h:j<c.slots.length),c.slots[j].ty.kind≠2->((f.slots[j]?).getD ⟨[],0⟩).whole=0
 ol:O.length=2*c.sign.length
 oo:∀p n:Nat,p<c.sign.length->n<Ah c (p:Int)->∃o,O[2*p+n]? =some o/\o.h.pats.length=lenOf c (p:Int)/\(∀y∈o.h.pats,Ag y)/\∀e,e<lenOf c (p:Int)->B7 o.h.pats e=f.outs p (Ah c (p:Int)*e+n)
def Pf(c:Cd)(f:Fr)(X:List Cl)(r:Nat):Prop:=∃x,X[r]? =some x/\x.h=BG c f (r:Int)
def Zv(c:Cd)(G P:List (List Int))(f:Fr)(i:Au)(X S O X' S' O':List Cl):Prop:=
 ((A6 i.op).d≠0/\(∃x,X'=X.set i.d.toNat x/\x.h=CM c G P f i)/\S'=S/\O'=O)
 \/(i.op=33/\X'=X/\(∃x,X[i.a.toNat]? =some x/\S'=S.set i.n.toNat x)/\O'=O)
 \/(i.op=31/\X'=X/\S'=S/\∃x,X[i.a.toNat]? =some x/\O'=O.set (2*(A8 c.regs i.a).par.toNat+i.n.toNat) x)
 \/((34<=i.op/\i.op<=37)/\X'=X/\S'=S/\O'=O)
theorem OT{op:Int}(hk:As op=true):(A6 op).d≠0↔op≠31/\op≠33/\¬ (34<=op/\op<=37):=by
 unfold As at hk;simp only[Bool.and_eq_true,decide_eq_true_eq]at hk;have:op∈(List.range 38).map (fun n:Nat=>(n:Int)):=by
  rw[List.mem_map];exact⟨op.toNat,by rw[List.mem_range];omega,oM⟩
 have h0:op≠0:=oM;revert h0;revert op;intro op hk;simp only[List.range,List.range.loop,List.map_cons,List.map_nil,List.mem_cons,List.not_mem_nil,or_false];intro h h0;rcases h with h|h|h|h|h|h|h|h|h|h|h|h|h|h|h|h|h|h|h|h|h|h|h|h|h|h|h|h|h|h|h|h|h|h|h|h|h|h<;>(rw[h]at h0 ⊢;revert h0;decide)
theorem ET{c:Cd}{G P:List (List Int)}{f:Fr}{i:Au}(hk:As i.op=true):(i.op≠33->(DQ c G P f i).slots=f.slots)/\(i.op≠31->(DQ c G P f i).outs=f.outs):=by
 have hst:∀r h,(GG c f r h).slots=f.slots/\(GG c f r h).outs=f.outs:=fun r h=>by
  unfold GG;split
  ·exact⟨rfl,rfl⟩
  ·split
   ·exact⟨rfl,rfl⟩
   ·exact⟨rfl,rfl⟩
 rcases Ew hk with e|e|e|e|e|e|e|e|e
 ·rw[Dr e];exact⟨fun _=>rfl,fun _=>rfl⟩
 ·rw[Ct e];exact⟨fun _=>rfl,fun _=>rfl⟩
 ·rw[Eh e];exact⟨fun _=>rfl,fun _=>rfl⟩
 ·rw[Ei e];exact⟨fun _=>rfl,fun _=>rfl⟩
 ·exact⟨fun _=>by rw[Ej e],fun h=>absurd e h⟩
 ·rw[Ek e];exact⟨fun _=>(hst _ _).1,fun _=>(hst _ _).2⟩
 ·exact⟨fun h=>absurd e h,fun _=>by rw[El e]⟩
 ·rw[BP e];exact⟨fun _=>rfl,fun _=>rfl⟩
 ·rw[Cp e];unfold CO;split
  ·exact⟨fun _=>rfl,fun _=>rfl⟩
  ·exact⟨fun _=>(hst _ _).1,fun _=>(hst _ _).2⟩
end Go.Proofs.YtbinohkcolcbfaaGreat
