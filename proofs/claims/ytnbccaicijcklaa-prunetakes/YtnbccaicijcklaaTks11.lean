import Derived.Test.YtnbccaicijcklaaTks1
import Derived.Test.YtnbccaicijcklaaTks5
import Derived.Deep.CutBlock
import Derived.Test.YtnbccaicijcklaaTks6
import Derived.Handy
import Derived.Test.YtnbccaicijcklaaTks8
import Derived.Test.YtnbccaicijcklaaTks9
import Derived.Test.YtnbccaicijcklaaTks10
import Derived.Deep.RegionHeld3
import Derived.Deep.DeepCutAuto
namespace Go.Proofs.Ytnbccaicijcklaa
open Go.RowKit Go.Proofs.Try
set_option linter.all false
set_option maxRecDepth 100000
set_option maxHeartbeats 16000000
structure LW(E G C n gi:Nat)(vs vo:Value)(w:World)(S:List Nat)(O:List Bk)(X:Nat->Bool)(H:Nat)(L:Bool)(A:Nat)(v:World):Prop where
 bel:Below E w v
 st:WX E G C n gi vs vo v S O X
 b0:v.cell? ⟨H,0,none⟩=some (.bool L)
 b2:v.cell? ⟨H,2,none⟩=some (.int .i64 (A:Int))
 hH:H≠G
 hI:H≠gi
 off:∀k,k<w.heap.size->k≠G->k≠gi->v.heap[k]? =w.heap[k]?
section
variable {E G C n gi : Nat} {vs vo : Value} {w v v' : World} {S : List Nat} {O : List Bk} {X : Nat -> Bool} {H : Nat} {L : Bool} {A : Nat}
theorem LW.below(h:LW E G C n gi vs vo w S O X H L A v)(k:Below v.heap.size v v'):LW E G C n gi vs vo w S O X H L A v':=
 ⟨h.bel.trans (k.mono h.st.lt),h.st.below k,kc k h.b0,kc k h.b2,h.hH,h.hI,fun j hj h1 h2=>(k.block j (Nat.lt_of_lt_of_le hj h.bel.size)).trans (h.off j hj h1 h2)⟩
theorem LW.put(h:LW E G C n gi vs vo w S O X H L A v)(x:Nat)(b:Bool):LW E G C n gi vs vo w S O (fun j=>if j=x then b else X j) H L A (v.setCell ⟨gi,x,none⟩ (.bool b)):=by
 have f:∀j,(v.setCell ⟨gi,x,none⟩ (.bool b)).cell? ⟨H,j,none⟩=v.cell? ⟨H,j,none⟩:=fun j=>World.cell?_of_block (Below.heap_setCell _ _ _ _ h.hI);exact⟨h.bel.setCell h.st.hgi _,h.st.put x b,(f 0).trans h.b0,(f 2).trans h.b2,h.hH,h.hI,fun j hj h1 h2=>(Below.heap_setCell _ _ _ _ h2).trans (h.off j hj h1 h2)⟩
theorem LW.of{X':Nat->Bool}(h:LW E G C n gi vs vo w S O X H L A v)(e:∀j,j<n->X j=X' j):LW E G C n gi vs vo w S O X' H L A v:=⟨h.bel,h.st.of e,h.b0,h.b2,h.hH,h.hI,h.off⟩
end
theorem Hb{w:World}{B:Nat}{t:TypeId}{k:Nat}{p:Option Addr}{n c:Nat}{xs:List Value}(h:w.ownsRow B t k (.slice p n c) n xs):n<=c:=by
 rcases h.2 with⟨hv,h0⟩|⟨g,cap,cur,hv,hB,hg,hc1,hc2,hsz,htk⟩
 ·omega
 ·simp only[Value.slice.injEq]at hv;omega
theorem NI{w:World}{B:Nat}{t:TypeId}{p:Option Addr}{c:Nat}{S:List Nat}(h:w.ownsRow B t 1 (.slice p S.length c) S.length (AV S)){A j:Nat}(hj:A+j<S.length):
 ∃g,p=some ⟨g,0,none⟩/\F9 p c A 1=some ⟨g,A,none⟩/\w.cell? ⟨g,A+j,none⟩=some (.int .i64 (S[A+j]:Int)):=by
 obtain⟨g,cap,hv,_,_,hc1,_,hcl⟩:=Bc h oM;simp only[Value.slice.injEq]at hv;obtain⟨rfl,-,rfl⟩:=hv;refine⟨g,rfl,?_,hcl _ _ (by simp[AV,List.getElem?_eq_getElem hj])⟩;unfold F9;rw[if_neg oM];by_cases h0:A=0
 ·subst h0;simp[Addr.add]
 ·simp[Addr.add,h0]
theorem Df(p:Option Addr)(a b c:Nat):(Value.slice p a c).ownBlock=(Value.slice p b c).ownBlock:=by cases p<;>rfl
def De(S:List Nat)(A q:Nat)(j:Nat):Bool:=decide (j∈S)&& !decide (j∈(S.drop A).take q)
theorem Gz(S:List Nat)(A j:Nat):De S A 0 j=decide (j∈S):=by simp[De]
theorem Lo{S:List Nat}{A q:Nat}(h:A+q<S.length)(j:Nat):(if j=S[A+q]then false else De S A q j)=De S A (q+1) j:=by
 have e:(S.drop A).take (q+1)=(S.drop A).take q++[S[A+q]]:=by
  rw[List.take_succ_eq_append_getElem (by rw[List.length_drop];omega)];simp
 unfold De;rw[e];by_cases hj:j=S[A+q]
 ·rw[if_pos hj,hj];simp
 ·rw[if_neg hj];simp[hj]
theorem Mq{S:List Nat}{A:Nat}(hd:S.Nodup)(j:Nat):De S A (S.length-A) j=decide (j∈S.take A):=by
 have e:(S.drop A).take (S.length-A)=S.drop A:=List.take_of_length_le sM;unfold De;rw[e];have hs:S=S.take A++S.drop A:=(List.take_append_drop A S).symm;have hd':=hd;rw[hs,List.nodup_append]at hd';by_cases h1:j∈S.take A
 ·have h2:j∉S.drop A:=fun h2=>hd'.2.2 j h1 j h2 rfl;have h3:j∈S:=List.mem_of_mem_take h1;simp[h1,h2,h3]
 ·by_cases h2:j∈S.drop A
  ·simp[h1,h2]
  ·have h3:j∉S:=fun h3=>by rw[hs]at h3;exact(List.mem_append.1 h3).elim h1 h2
   simp[h1,h3]
theorem Lj(E G C n gi:Nat)(vs vo:Value)(s:Wk)(w:World)(h:WS E G C n gi vs vo w s)(ok:CM n s)(hn:n<=16384)(hop:s.opens≠[]):
 Calls prog 64 #[.pointer (some ⟨G,0,none⟩)] w fun e w'=>e=.returned (.tuple #[])/\Below E w w'/\(∀k,k<w.heap.size->k≠G->k≠gi->w'.heap[k]? =w.heap[k]?)/\∃vs' vo',WS E G C n gi vs' vo' w' (AZ s):=by
 obtain⟨S,O⟩:=s;cases O with
 |nil=>exact absurd rfl hop
 |cons bk r=>
  clear hop;obtain⟨L,P,A⟩:=bk;have hlen:=ok.len;obtain⟨hnd,hlt,⟨hA,hAr⟩,hne⟩:=ok;simp only at hnd hlt hA hAr hne hlen;have hx:=h.x;have hG:=h.g.lt;have hgi:=h.i.lt;have hE:=h.lt;obtain⟨g,cap,rfl,hE2,hg,hc1,hc2,hcl⟩:=Bc h.opn sM;obtain⟨pS,cS,rfl⟩:=Ao h.set;have hcs:=Hb h.set;simp only at hcs;have hl:r.reverse.length=r.length:=List.length_reverse;simp only[List.reverse_cons]at hcl;have x0:=hcl (r.length*3) (.bool L) SX;have x1:=hcl (r.length*3+1) (.int .i64 P) SW;have x2:=hcl (r.length*3+2) (.int .i64 A) SV;have c3:=h.c3;have HX:Hid (WX E G C n gi (.slice pS S.length cS) (.slice (some ⟨g,0,none⟩) (r.length+1) cap) w S (⟨L,P,A⟩::r) (fun j=>decide (j∈S))):=hx;simp only[List.length_cons]at c3 hne hc1;have HL1:Hid (LW E G C n gi (.slice pS S.length cS) (.slice (some ⟨g,0,none⟩) r.length cap) w S r (De S A 0) w.heap.size L A ((w.setCell ⟨G,3,none⟩ (.slice (some ⟨g,0,none⟩) r.length cap)).alloc (.cells #[.bool L,.int .i64 P,.int .i64 (A:Int)] 120))):=by
   have ho:=CZ (m:=r.length) hx.opn sM;have he:(BN ((⟨L,P,A⟩::r).reverse)).take (r.length*3)=BN r.reverse:=by
    rw[List.reverse_cons,DD,List.take_append_of_le_length (by rw[Ct,hl];exact Nat.le_refl _),List.take_of_length_le (by rw[Ct,hl];exact Nat.le_refl _)]
   rw[he]at ho;have hs:(w.setCell ⟨G,3,none⟩ (.slice (some ⟨g,0,none⟩) r.length cap)).heap.size=w.heap.size:=sM;have q:=hx.opens ho hx.n4 hx.n5 hx.n6;obtain⟨V,hV⟩:∃V,w.setCell ⟨G,3,none⟩ (.slice (some ⟨g,0,none⟩) r.length cap)=V:=⟨_,rfl⟩
   have hbV:Below E w V:=by rw[←hV];exact(Below.refl E w).setCell hx.hG _
   have hoV:∀k,k≠G->V.heap[k]? =w.heap[k]? :=fun k hk=>by rw[←hV];exact Below.heap_setCell _ _ _ _ hk
   rw[hV]at hs q ⊢;exact⟨hbV.alloc oM _,(q.below (A0 V _)).of fun j _=>(Gz S A j).symm,by rw[←hs];simp[go_sem],by rw[←hs];simp[go_sem],oM,oM,fun k hk h1 _=>(Below.heap_alloc _ _ _ oM).trans (hoV k h1)⟩
  have HOW:Hid (∀v,WX E G C n gi (.slice pS S.length cS) (.slice (some ⟨g,0,none⟩) r.length cap) v S r (De S A (S.length-A))->WS E G C n gi (.slice pS A cS) (.slice (some ⟨g,0,none⟩) r.length cap) (v.setCell ⟨G,2,none⟩ (.slice pS A cS)) ⟨S.take A,r⟩):=fun v hv=>by
   have ho:=CZ (m:=A) hv.set hA;rw[Nat.mul_one,F8]at ho;have hlA:(S.take A).length=A:=by rw[List.length_take];omega
   have ho':v.ownsRow E 3 1 (.slice pS A cS) (S.take A).length (AV (S.take A)):=by rw[hlA];exact ho
   have q:=hv.sets (vs':=.slice pS A cS) (S':=S.take A) ho' (by rw[Df pS A S.length cS];exact hv.n2) (by rw[Df pS A S.length cS];exact hv.n3) (by rw[Df pS A S.length cS];exact hv.n6);exact WX.st (s:=⟨S.take A,r⟩) q fun j _=>Mq hnd j
  have HFR:Hid (∀v:World,v.ownsRow E 3 1 (.slice pS S.length cS) S.length (AV S)->∀j,A+j<S.length->∃ (gs x:Nat),F9 pS cS A 1=some ⟨gs,A,none⟩/\v.cell? ⟨gs,A+j,none⟩=some (.int .i64 (x:Int))/\x<n/\∀i,(if i=x then false else De S A j i)=De S A (j+1) i):=fun v hv j hj=>by
   obtain⟨gs,_,h2,h3⟩:=NI hv hj;exact⟨gs,S[A+j],h2,h3,hlt _ (List.getElem_mem hj),fun i=>Lo hj i⟩
  have HLT:Hid (WX E G C n gi (.slice pS S.length cS) (.slice (some ⟨g,0,none⟩) r.length cap) w S r (De S A 0)->True):=fun _=>trivial;have HL3:Hid (∀v,WX E G C n gi (.slice pS S.length cS) (.slice (some ⟨g,0,none⟩) r.length cap) v S r (De S A 0)->WS E G C n gi (.slice pS S.length cS) (.slice (some ⟨g,0,none⟩) r.length cap) v ⟨S,r⟩):=fun v hv=>WX.st (s:=⟨S,r⟩) hv fun j _=>Gz S A j;have s1:=fun w=>Ea Qo PT (some ⟨g,0,none⟩) (r.length+1) cap r.length oM w;have s2:=fun w=>Ix Pf NJ pS S.length cS A hA w;have s3:=fun w=>Ea Pf NJ pS S.length cS A oM w;obtain⟨m,hm⟩:∃m,r.length=m:=⟨_,rfl⟩
  obtain⟨K,hK⟩:∃K,S.length=K:=⟨_,rfl⟩
  obtain⟨pF,hpF⟩:∃p,F9 pS cS A 1=p:=⟨_,rfl⟩
  simp only[AZ];rw[hm]at x0 x1 x2 c3 hne hc1 s1 HX HL1 HOW HL3;rw[hK]at s2 s3 HL1 HOW HL3 hA hlen hcs HX;simp only[hpF]at s2;simp only[hpF,hK]at HFR;have HD:Hid (K-A<=16384):=by show _<=_;omega
  obtain⟨N,hN⟩:∃N,m+1=N:=⟨_,rfl⟩
  rw[hN]at c3 hne hc1 s1 HX;obtain⟨D,hD⟩:∃D,K-A=D:=⟨_,rfl⟩
  rw[hD]at s2 HOW HD;have HDD:Hid (K-A=D):=hD;have HKK:Hid (S.length=K):=hK;have hw:IntKind.i64.wrap ((N:Int)-1)=(m:Int):=by rw[IntKind.wrap_i64];omega
  have i1:(0:Int)<=(m:Int):=oM;have i2:(m:Int)<(N:Int):=oM;have ng:g≠w.heap.size:=oM;have nG:G≠w.heap.size:=oM;have fz:=h.g.frozen 3;have HB0:Hid (D<=16384):=HD;have hDb:D<=16384:=HD.out;clear hcl hl hm hK hpF hN hD h hx hAr hlt hnd HLT HD;go_enter func64,ntmps64;go_upto_region 2 with fail;go_cut [3] (fun bv wx=>bv=.pointer (some ⟨w.heap.size,0,none⟩)/\LW E G C n gi (.slice pS K cS) (.slice (some ⟨g,0,none⟩) m cap) w S r (De S A 0) w.heap.size L A wx)
  case first=>
   go_wp2;go_meet;exact⟨rfl,HL1.out⟩
  case rest=>
   obtain⟨rfl,lw⟩:=hcut;have HLW:Hid (LW E G C n gi (.slice pS K cS) (.slice (some ⟨g,0,none⟩) m cap) w S r (De S A 0) w.heap.size L A wc):=lw;have b0:=lw.b0;have b2:=lw.b2;have d2:=lw.st.c2;clear lw HL1 HX x0 x1 x2 c3 fz;cases L
   ·go_wp2;refine rG (fun v=>v.cell? ⟨G,2,none⟩=some (.slice pS K cS)/\v.cell? ⟨w.heap.size,2,none⟩=some (.int .i64 (A:Int))) fun hHeld=>?_;refine Tf 0 1 2 3 4 5 ?_;refine Tc 6 7 8 ?_;refine wpAnyH_done kR ?_ _;go_wp2
    go_loopw [38] (fun iv wr=>∃j:Nat,j<=D/\iv=.int .i64 j/\LW E G C n gi (.slice pS K cS) (.slice (some ⟨g,0,none⟩) m cap) w S r (De S A j) w.heap.size false A wr) (fun iv _=>D-(intOf iv).toNat)
    case atStart=>exact⟨0,Nat.zero_le _,rfl,HLW.out.below (Ae _)⟩
    case round=>
     clear HLW b0 b2 d2;obtain⟨j,hj,rfl,lw⟩:=hrel;have HLW:Hid (LW E G C n gi (.slice pS K cS) (.slice (some ⟨g,0,none⟩) m cap) w S r (De S A j) w.heap.size false A wr):=lw;by_cases hlt:j<D
     ·obtain⟨gs,x,rfl,xj,hxn,hsv⟩:=HFR.out wr (by have:=lw.st.set;rw[HKK.out]at this;exact this) j (by have:=HDD.out;omega);have HSV:Hid (∀i,(if i=x then false else De S A j i)=De S A (j+1) i):=hsv;have d1:=lw.st.c1;have y1:=lw.st.i.cell hxn;have y2:=lw.st.i.frozen x;have i3:(0:Int)<=(j:Int):=oM;have i4:(j:Int)<(D:Int):=oM;have i5:(0:Int)<=(x:Int):=oM;have i6:(x:Int)<(n:Int):=oM;clear lw hsv;go_wp2;go_roundw
      case rel=>exact⟨j+1,oM,gN,(HLW.out.put x false).of fun i _=>HSV.out i⟩
      case measure=>simp[intOf];omega
     ·have:j=D:=oM;subst this;have d2:=lw.st.c2;have b2:=lw.b2;have d3:=lw.st.g.frozen 2;have hGr:G≠w.heap.size:=oM;clear lw;go_wp2;refine rG (fun v=>v.cell? ⟨w.heap.size,2,none⟩=some (.int .i64 (A:Int))) fun hHeld=>?_;refine Tf 0 1 2 3 5 6 ?_;clear hHeld;refine Ax 4 fun K hK=>?_;go_simp;refine Aw hK fun hHeld=>?_;clear hK K;refine Tc 7 8 9 ?_;clear hHeld;refine Ax 10 fun K hK=>?_;go_simp;refine Aw hK fun hHeld=>?_;clear hK K;refine wpAnyH_done kR ?_ _;go_wp2;first|go_end0|(simp only[Exit.inBlock,Exit.then];refine bodyPost_ret (results_none rfl _ _ _) rfl ?_)|refine bodyPost_ret (results_none rfl _ _ _) rfl ?_
      exact⟨rfl,(HLW.out.bel.drew).setCell HLW.out.st.hG _,fun k hk h1 h2=>(Below.heap_setCell _ _ _ _ h1).trans (HLW.out.off k hk h1 h2),_,_,HOW.out _ (HLW.out.below (Ae _)).st⟩
   ·go_wp2;first|go_end0|(simp only[Exit.inBlock,Exit.then];refine bodyPost_ret (results_none rfl _ _ _) rfl ?_)|refine bodyPost_ret (results_none rfl _ _ _) rfl ?_
    exact⟨rfl,HLW.out.bel,HLW.out.off,_,_,HL3.out _ HLW.out.st⟩
theorem DS{P:Program}{w w':World}{ops:Array Oper}{o:Oper}{a:Act}{K:Act->World->Prop}{Q:Exit->Act->World->Prop}{E:Prop}(hgd:o.guard=none)(s x:Operand)(t:TypeId)
 (ho:o.op=.call {callee:=.builtin .append,args:=#[s,x],argTypes:=#[t,t]}) (v v2 v':Value) (hs:a.eval s=v) (hx:a.eval x=v2) (hr:(Builtin.append_ #[t,t] o.type #[v,v2]).run P w=.ok v' w') (h:K (a.put o.dst v') w'):
 if Region.wanted o (yielded ops a.tmps)=true then Oper.wp P o a w K Q else E:=by
 have hw:Region.wanted o (yielded ops a.tmps)=true:=by simp[Region.wanted,hgd]
 rw[if_pos hw];exact Sz
section
variable {E G C n gi : Nat} {vs vo : Value} {V : World} {S : List Nat} {O : List Bk} {X : Nat -> Bool}
theorem O7(h:WX E G C n gi vs vo V S O X)(hS:S.length<=16384)(x:Nat):
 ∃g cap w3,(Builtin.append_ #[61,61] 61 #[vs,.slice (some ⟨V.heap.size,0,none⟩) 1 1]).run prog (V.drew.alloc (.cells #[.int .i64 (x:Int)] 3))=.ok (.slice (some ⟨g,0,none⟩) (S.length+1) cap) w3/\Below E V w3/\w3.cell? ⟨G,2,none⟩=some vs/\w3.frozen? ⟨G,2,none⟩=false/\
  WX E G C n gi (.slice (some ⟨g,0,none⟩) (S.length+1) cap) vo (w3.setCell ⟨G,2,none⟩ (.slice (some ⟨g,0,none⟩) (S.length+1) cap)) (S++[x]) O X:=by
 obtain⟨i0,hi0,hz0,hz1,hz2⟩:=info_parts BJ;have hb0:Below V.heap.size V (V.drew.alloc (.cells #[.int .i64 (x:Int)] 3)):=bel (Ae V) (A0 _ _);have h0:=h.below hb0;have hlt0:=h.lt;obtain⟨g,cap,w3,hr,hown,hgrow,hat,hlt⟩:=run_append_lies (P:=prog) (V.drew.alloc (.cells #[.int .i64 (x:Int)] 3)) 61 61 E 3 i0 _ 1 8 underlying61 hi0 hz0 hz1 hz2 rfl dE vs S.length (AV S) h0.set ⟨V.heap.size,0,none⟩ 1 1 [.int .i64 (x:Int)] rfl
  (World.news_of_block (cs:=#[.int .i64 (x:Int)]) (t:=3) (fr:=(0,0)) (heap_alloc_new V.drew _)) Jz dE mL oM sO _ rfl
 obtain⟨k1,k2,-,k4⟩:=h0.grown hgrow (.inr rfl);have hG:=h.g.lt;have hgi:=h.i.lt;have hsz:(V.drew.alloc (.cells #[.int .i64 (x:Int)] 3)).heap.size=V.heap.size+1:=sM;have m2:g≠G:=by
  rcases hat with hat|hat
  ·exact fun e=>h.n2 (e▸hat)
  ·omega
 have m3:g≠gi:=by
  rcases hat with hat|hat
  ·exact fun e=>h.n3 (e▸hat)
  ·omega
 have m6:∀b,vo.ownBlock=some b->g≠b:=fun b hb e=>by
  rcases hat with hat|hat
  ·exact h.n6 g hat (e▸hb)
  ·have:=(h.opn.lt b hb).2;omega
 have hV3:WX E G C n gi vs vo w3 S O X->True:=fun _=>trivial;have hn:(S++[x]).length=S.length+1:=sM;have o4:=k4 rfl;refine⟨g,cap,w3,hr,?_,k1.cell (i:=2) dE,k1.frozen 2,?_⟩
 ·exact(hb0.mono hlt0).grown hgrow oM (fun q e=>(h0.set.lt q e).1)
 ·have nb:∀b,b≠G->(w3.setCell ⟨G,2,none⟩ (.slice (some ⟨g,0,none⟩) (S.length+1) cap)).heap[b]? =w3.heap[b]? :=fun b hb=>Below.heap_setCell _ _ _ _ hb;refine⟨(k1.set 2 _).congr fun j hj=>?_,k2.of_block (nb _ h.n1),?_,A7 o4 fun b hb=>nb b fun e=>h.n4 (e▸hb),h.hG,h.hgi,h.n1,fun e=>m2 (Option.some.inj e),fun e=>m3 (Option.some.inj e),h.n4,h.n5,fun b e hb=>m6 b hb (Option.some.inj e)⟩
  ·unfold Pk;exact Pb
  ·rw[hn,GJ];exact A7 hown fun b hb=>nb b fun e=>m2 (by rw[←e];exact Option.some.inj hb)
theorem Hu(h:WX E G C n gi vs vo V S O X)(hO:O.length<=64)(L:Bool)(P:Int)(A:Nat):
 ∃g cap w3,(Builtin.append_ #[67,67] 67 #[vo,.slice (some ⟨V.heap.size,0,none⟩) 1 1]).run prog (V.drew.alloc (.cells #[.bool L,.int .i64 P,.int .i64 (A:Int)] 120))=.ok (.slice (some ⟨g,0,none⟩) (O.length+1) cap) w3/\Below E V w3/\w3.cell? ⟨G,3,none⟩=some vo/\w3.frozen? ⟨G,3,none⟩=false/\w3.cell? ⟨G,2,none⟩=some vs/\
  (∀a,a.block<V.heap.size->vo.ownBlock≠some a.block->w3.cell? a=V.cell? a)/\
  WX E G C n gi vs (.slice (some ⟨g,0,none⟩) (O.length+1) cap) (w3.setCell ⟨G,3,none⟩ (.slice (some ⟨g,0,none⟩) (O.length+1) cap)) S (⟨L,P,A⟩::O) X:=by
 obtain⟨i0,hi0,hz0,hz1,hz2⟩:=info_parts J2;have hb0:Below V.heap.size V (V.drew.alloc (.cells #[.bool L,.int .i64 P,.int .i64 (A:Int)] 120)):=bel (Ae V) (A0 _ _);have h0:=h.below hb0;have hlt0:=h.lt;obtain⟨g,cap,w3,hr,hown,hgrow,hat,hlt⟩:=run_append_lies (P:=prog) (V.drew.alloc (.cells #[.bool L,.int .i64 P,.int .i64 (A:Int)] 120)) 67 67 E 120 i0 _ 3 24 underlying67 hi0 hz0 hz1 hz2 rfl dE vo O.length (BN O.reverse) h0.opn ⟨V.heap.size,0,none⟩ 1 1 (Pw ⟨L,P,A⟩) rfl
  (World.news_of_block (cs:=#[.bool L,.int .i64 P,.int .i64 (A:Int)]) (t:=120) (fr:=(0,0)) (heap_alloc_new V.drew _)) (by simp[Pw,Value.oneCell']) dE mL oM sO _ rfl
 obtain⟨k1,k2,k3,-⟩:=h0.grown hgrow (.inl rfl);have hG:=h.g.lt;have hgi:=h.i.lt;have hsz:(V.drew.alloc (.cells #[.bool L,.int .i64 P,.int .i64 (A:Int)] 120)).heap.size=V.heap.size+1:=sM;have m2:g≠G:=by
  rcases hat with hat|hat
  ·exact fun e=>h.n4 (e▸hat)
  ·omega
 have m3:g≠gi:=by
  rcases hat with hat|hat
  ·exact fun e=>h.n5 (e▸hat)
  ·omega
 have m6:∀b,vs.ownBlock=some b->g≠b:=fun b hb e=>by
  rcases hat with hat|hat
  ·exact h.n6 b hb (e▸hat)
  ·have:=(h.set.lt b hb).2;omega
 have o3:=k3 rfl;refine⟨g,cap,w3,hr,?_,k1.cell (i:=3) dE,k1.frozen 3,k1.cell (i:=2) dE,fun a ha hb=>?_,?_⟩
 ·exact(hb0.mono hlt0).grown hgrow oM (fun q e=>(h0.opn.lt q e).1)
 ·rw[World.cell?_of_block (hgrow.block a.block oM (Ne.symm hb)),hb0.cell ha]
 ·have nb:∀b,b≠G->(w3.setCell ⟨G,3,none⟩ (.slice (some ⟨g,0,none⟩) (O.length+1) cap)).heap[b]? =w3.heap[b]? :=fun b hb=>Below.heap_setCell _ _ _ _ hb;refine⟨(k1.set 3 _).congr fun j hj=>?_,k2.of_block (nb _ h.n1),A7 o3 fun b hb=>nb b fun e=>h.n2 (e▸hb),?_,h.hG,h.hgi,h.n1,h.n2,h.n3,fun e=>m2 (Option.some.inj e),fun e=>m3 (Option.some.inj e),fun b hb e=>m6 b hb (Option.some.inj e)⟩
  ·unfold Pk;exact Pb
  ·rw[List.reverse_cons,DD];exact A7 hown fun b hb=>nb b fun e=>m2 (by rw[←e];exact Option.some.inj hb)
end
structure PS(E G C n gi H:Nat)(L0:Int)(w:World)(t:Wk)(vs vo:Value)(v:World):Prop where
 bel:Below E w v
 st:WS E G C n gi vs vo v t
 box:v.cell? ⟨H,0,none⟩=some (.int .i64 L0)
 n1:H≠G
 n2:H≠gi
theorem Mw(E G C n gi:Nat)(vs vo:Value)(s:Wk)(b o:Nat)(i:Aa)(r:Rw)(w:World)(h:WS E G C n gi vs vo w s)(ok:CM n s)(hn:n<=16384)(hi:Ai w b o (Bf i))(hbE:b<E)
 (hm:i.op=34\/i.op=36->s.opens.length<64) (he:i.op=35\/i.op=37->s.opens≠[]) (hd:r.d≠0->0<=i.d/\i.d<(n:Int)):
 Calls prog 45 #[.pointer (some ⟨G,0,none⟩),.pointer (some ⟨b,o,none⟩),Cg r] w fun e w'=>e=.returned (.tuple #[])/\Below E w w'/\∃vs' vo',WS E G C n gi vs' vo' w' (DM s i r):=by
 have e0:=hi.at 0 rfl;have e1:=hi.at 1 rfl;have e5:=hi.at 5 rfl;rw[Nat.add_zero]at e0;have hok:CM n (Cm s i):=ok.turn hm;unfold DM;have htu:Cm s i=if i.op=34\/i.op=36 then⟨s.set,⟨i.op==36,i.n,s.set.length⟩::s.opens⟩else if i.op=35\/i.op=37 then AZ s else s:=rfl;obtain⟨T,hT⟩:∃T,Cm s i=T:=⟨_,rfl⟩
 rw[hT]at hok htu ⊢;have HT:Hid (T=if i.op=34\/i.op=36 then⟨s.set,⟨i.op==36,i.n,s.set.length⟩::s.opens⟩else if i.op=35\/i.op=37 then AZ s else s):=htu;clear htu hT;have had:CR T i r=if r.d≠0/\i.d.toNat∉T.set then⟨T.set++[i.d.toNat],T.opens⟩else T:=rfl;obtain⟨R,hR⟩:∃R,CR T i r=R:=⟨_,rfl⟩
 rw[hR]at had ⊢;have HR:Hid (R=if r.d≠0/\i.d.toNat∉T.set then⟨T.set++[i.d.toNat],T.opens⟩else T):=had;clear had hR hi;have HOK:Hid (CM n T):=hok;obtain⟨io,D,A,B,F,N,bt⟩:=i;obtain⟨L0,L1,L2,L3,L4⟩:=r;simp only at e0 e1 e5 hm he hd HT HR hok;unfold Cg;have HD:Hid (L0≠0->0<=D/\D<(n:Int)):=hd;have HS:Hid (WS E G C n gi vs vo w s):=h;have HS1:Hid (WS E G C n gi vs vo (w.alloc (.cells #[.int .i64 L0,.int .i64 L1,.int .i64 L2,.int .i64 L3,.int .i64 L4] 97)) s):=h.below (A0 _ _);have hE:=h.lt;have hG:=h.g.lt;have hgi:=h.i.lt;have nG:G≠w.heap.size:=oM;have ngi:gi≠w.heap.size:=oM;have nbG:b≠G:=by have:=h.hG;omega
 have nbi:b≠gi:=by have:=h.hgi;omega
 have hbw:b≠w.heap.size:=oM;have nGb:G≠b:=Ne.symm nbG;have nib:gi≠b:=Ne.symm nbi;have niG:gi≠G:=h.n1;have nGi:G≠gi:=Ne.symm h.n1;have HB1:Hid (Below E w (w.alloc (.cells #[.int .i64 L0,.int .i64 L1,.int .i64 L2,.int .i64 L3,.int .i64 L4] 97))):=(Below.refl E w).alloc hE _;have HE:Hid (∀v,Below E w v->v.cell? ⟨b,o,none⟩=some (.int .i64 io)/\v.cell? ⟨b,o+1,none⟩=some (.int .i64 D)/\v.cell? ⟨b,o+5,none⟩=some (.int .i64 N)):=fun v hv=>⟨(hv.cell hbE).trans e0,(hv.cell hbE).trans e1,(hv.cell hbE).trans e5⟩
 have HVB:Hid ((w.alloc (.cells #[.int .i64 L0,.int .i64 L1,.int .i64 L2,.int .i64 L3,.int .i64 L4] 97)).cell? ⟨w.heap.size,0,none⟩=some (.int .i64 L0)):=by show _=_;simp[go_sem]
 obtain⟨z0,z1,z5⟩:=HE.out _ HB1.out;have HOS:Hid (CM n s):=ok;have HM:Hid (io=34\/io=36->s.opens.length<64):=hm;have HQ:Hid (io=35\/io=37->s.opens≠[]):=he;clear hd h hok hm he ok e0 e1 e5;go_enter func45,ntmps45;go_upto_block 0 with fail;obtain⟨V,hV⟩:∃V,w.alloc (.cells #[.int .i64 L0,.int .i64 L1,.int .i64 L2,.int .i64 L3,.int .i64 L4] 97)=V:=⟨_,rfl⟩
 have hVs:V.heap.size=w.heap.size+1:=by rw[←hV];simp
 rw[hV]at HS1 HB1 HVB z0 z1 z5 ⊢;have HVS:Hid (V.heap.size=w.heap.size+1):=hVs;clear hV hVs;go_cut [10] (fun bv wx=>∃vs1 vo1,PS E G C n gi w.heap.size L0 w T vs1 vo1 wx)
 case first=>
  have c2:=HS1.out.c2;have c3:=HS1.out.c3;by_cases h34:io=34
  ·have q1:(io==34)=true:=by simpa using h34
   have q2:(io==36)=false:=by have:io≠36:=oM;simpa using this
   obtain⟨g,cap,w3,hr,hb3,c33,f33,c32,hfar,hw3⟩:=Hu HS1.out.x (by have:=HM.out (.inl h34);omega) false N s.set.length;have HT1:Hid (T=⟨s.set,⟨false,N,s.set.length⟩::s.opens⟩):=by show _=_;rw[HT.out,if_pos (.inl h34)];rw[show(io==36)=false from q2]
   obtain⟨pS,cS,hvs⟩:=Ao HS1.out.set;obtain⟨y0,y1,y5⟩:=HE.out w3 (HB1.out.trans hb3);have HP:Hid (PS E G C n gi w.heap.size L0 w T vs (.slice (some ⟨g,0,none⟩) (s.opens.length+1) cap) (w3.setCell ⟨G,3,none⟩ (.slice (some ⟨g,0,none⟩) (s.opens.length+1) cap))):=by
    refine⟨(HB1.out.trans hb3).setCell HS.out.hG _,?_,?_,oM,oM⟩
    ·rw[HT1.out];exact WX.st (s:=⟨s.set,⟨false,N,s.set.length⟩::s.opens⟩) hw3 fun j _=>rfl
    ·exact Sk
   have HR3:Hid ((Builtin.append_ #[67,67] 67 #[vo,.slice (some ⟨V.heap.size,0,none⟩) 1 1]).run prog ((V.alloc (.cells #[.bool false,.int .i64 N,.int .i64 (s.set.length:Int)] 120)).drew)=.ok (.slice (some ⟨g,0,none⟩) (s.opens.length+1) cap) w3):=hr;subst hvs;have c5:(w3.setCell ⟨G,3,none⟩ (.slice (some ⟨g,0,none⟩) (s.opens.length+1) cap)).cell? ⟨G,2,none⟩=some (.slice pS s.set.length cS):=by rw[World.cell?_setCell_other _ _ _ _ sM];exact c32
   have nG2:G≠V.heap.size:=by have:=HVS.out;omega
   have c4:(V.alloc (.cells #[.bool false,.int .i64 N,.int .i64 (s.set.length:Int)] 120)).cell? ⟨G,3,none⟩=some vo:=kc (A0 _ _) c3;have nb2:b≠V.heap.size:=by have:=HVS.out;omega
   clear hr hb3 hfar hw3 h34;exact RR
  by_cases h36:io=36
  ·have q1:(io==34)=false:=by simpa using h34
   have q2:(io==36)=true:=by simpa using h36
   obtain⟨g,cap,w3,hr,hb3,c33,f33,c32,hfar,hw3⟩:=Hu HS1.out.x (by have:=HM.out (.inr h36);omega) true N s.set.length;have HT1:Hid (T=⟨s.set,⟨true,N,s.set.length⟩::s.opens⟩):=by show _=_;rw[HT.out,if_pos (.inr h36)];rw[show(io==36)=true from q2]
   obtain⟨pS,cS,hvs⟩:=Ao HS1.out.set;obtain⟨y0,y1,y5⟩:=HE.out w3 (HB1.out.trans hb3);have HP:Hid (PS E G C n gi w.heap.size L0 w T vs (.slice (some ⟨g,0,none⟩) (s.opens.length+1) cap) (w3.setCell ⟨G,3,none⟩ (.slice (some ⟨g,0,none⟩) (s.opens.length+1) cap))):=by
    refine⟨(HB1.out.trans hb3).setCell HS.out.hG _,?_,?_,oM,oM⟩
    ·rw[HT1.out];exact WX.st (s:=⟨s.set,⟨true,N,s.set.length⟩::s.opens⟩) hw3 fun j _=>rfl
    ·exact Sk
   have HR3:Hid ((Builtin.append_ #[67,67] 67 #[vo,.slice (some ⟨V.heap.size,0,none⟩) 1 1]).run prog ((V.alloc (.cells #[.bool true,.int .i64 N,.int .i64 (s.set.length:Int)] 120)).drew)=.ok (.slice (some ⟨g,0,none⟩) (s.opens.length+1) cap) w3):=hr;subst hvs;have c5:(w3.setCell ⟨G,3,none⟩ (.slice (some ⟨g,0,none⟩) (s.opens.length+1) cap)).cell? ⟨G,2,none⟩=some (.slice pS s.set.length cS):=by rw[World.cell?_setCell_other _ _ _ _ sM];exact c32
   have nG2:G≠V.heap.size:=by have:=HVS.out;omega
   have c4:(V.alloc (.cells #[.bool true,.int .i64 N,.int .i64 (s.set.length:Int)] 120)).cell? ⟨G,3,none⟩=some vo:=kc (A0 _ _) c3;have nb2:b≠V.heap.size:=by have:=HVS.out;omega
   clear hr hb3 hfar hw3 h34 h36;exact RR
  have q1:(io==34)=false:=by simpa using h34
  have q2:(io==36)=false:=by simpa using h36
  have hno:¬ (io=34\/io=36):=fun e=>e.elim h34 h36;by_cases h35:io=35\/io=37
  ·have HT1:Hid (T=AZ s):=by show _=_;rw[HT.out,if_neg hno,if_pos h35]
   have HK:Hid (Calls prog 64 #[.pointer (some ⟨G,0,none⟩)] V fun e w'=>e=.returned (.tuple #[])/\Below E V w'/\(∀k,k<V.heap.size->k≠G->k≠gi->w'.heap[k]? =V.heap[k]?)/\∃vs' vo',WS E G C n gi vs' vo' w' (AZ s)):=Lj E G C n gi vs vo s V HS1.out HOS.out hn (HQ.out h35);rcases h35 with h|h
   ·have q3:(io==35)=true:=by simpa using h
    exact Sa
   ·have q3:(io==35)=false:=by have:io≠35:=oM;simpa using this
    have q4:(io==37)=true:=by simpa using h
    exact Sa
  ·have HT1:Hid (T=s):=by show _=_;rw[HT.out,if_neg hno,if_neg h35]
   have q3:(io==35)=false:=by have:io≠35:=(fun e=>h35 (.inl e));simpa using this
   have q4:(io==37)=false:=by have:io≠37:=(fun e=>h35 (.inr e));simpa using this
   have HP:Hid (PS E G C n gi w.heap.size L0 w T vs vo V):=⟨HB1.out,by rw[HT1.out];exact HS1.out,HVB.out,oM,oM⟩
   clear h34 h35 h36 hno;go_wp2;go_meet;exact⟨_,_,HP.out⟩
 case rest=>
  obtain⟨vs1,vo1,ps⟩:=hcut;clear HS1 HB1 HVB z0 z1 z5 HVS HS HOS HM HQ HT;have HPS:Hid (PS E G C n gi w.heap.size L0 w T vs1 vo1 wc):=ps;have bx:=ps.box;have d1:=ps.st.c1;have hX:=ps.st.i;obtain⟨y0,y1,y5⟩:=HE.out wc ps.bel;clear ps;by_cases hz:L0=0
  ·have hz':(L0 != 0)=false:=by simpa using hz
   have hz2:(L0==0)=true:=by simpa using hz
   have HR1:Hid (R=T):=by show _=_;rw[HR.out,if_neg (fun e=>e.1 hz)]
   clear hz;go_wp2;refine rG (fun v=>v.cell? ⟨w.heap.size,0,none⟩=some (.int .i64 L0)) fun hHeld=>?_;refine Tc 0 1 2 ?_;refine Bw 3 ?_;refine Kd 4 5 6 7 ?_;refine Kd 8 9 10 11 ?_;refine CD 12 ?_;refine CD 13 ?_;refine CD 14 ?_;refine Bw 15 ?_;refine wpAnyH_done kR ?_ _;go_wp2;first|go_end0|(simp only[Exit.inBlock,Exit.then];refine bodyPost_ret (results_none rfl _ _ _) rfl ?_)|refine bodyPost_ret (results_none rfl _ _ _) rfl ?_
   exact⟨rfl,HPS.out.bel.drew,_,_,by rw[HR1.out];exact HPS.out.st.below (Ae _)⟩
  ·have hz':(L0 != 0)=true:=by simpa using hz
   have hz2:(L0==0)=false:=by simpa using hz
   obtain⟨hD0,hDn⟩:=HD.out hz;obtain⟨x,rfl⟩:∃x:Nat,D=(x:Int):=⟨D.toNat,oM⟩
   have hxn:x<n:=oM;have v1:=hX.cell hxn;have v2:=hX.frozen x;rw[Int.toNat_natCast]at HR;have HR1:Hid (R=if x∉T.set then⟨T.set++[x],T.opens⟩else T):=by
    show _=_;rw[HR.out];by_cases hx:x∈T.set
    ·rw[if_neg (fun e=>e.2 hx),if_neg (fun e=>e hx)]
    ·rw[if_pos ⟨hz,hx⟩,if_pos hx]
   clear hX HR hz;by_cases hx:x∈T.set
   ·have hdec:decide (x∈T.set)=true:=by simpa using hx
    have HR2:Hid (R=T):=by show _=_;rw[HR1.out,if_neg (fun e=>e hx)]
    rw[hdec]at v1;clear HR1 hx;go_wp2;refine rG (fun v=>v.cell? ⟨w.heap.size,0,none⟩=some (.int .i64 L0)/\v.cell? ⟨b,o+1,none⟩=some (.int .i64 (x:Int))/\v.cell? ⟨G,1,none⟩=some (.slice (some ⟨gi,0,none⟩) n n)/\v.cell? ⟨gi,x,none⟩=some (.bool true)) fun hHeld=>?_;refine Tf 0 1 2 3 4 5 ?_;refine Tf 6 7 8 9 10 11 ?_;refine Tc 12 13 14 ?_;refine Bw 15 ?_;refine wpAnyH_done kR ?_ _;go_wp2;first|go_end0|(simp only[Exit.inBlock,Exit.then];refine bodyPost_ret (results_none rfl _ _ _) rfl ?_)|refine bodyPost_ret (results_none rfl _ _ _) rfl ?_
    exact⟨rfl,HPS.out.bel.drew,_,_,by rw[HR2.out];exact HPS.out.st.below (Ae _)⟩
   ·have hdec:decide (x∈T.set)=false:=by simpa using hx
    have HR2:Hid (R=⟨T.set++[x],T.opens⟩):=by show _=_;rw[HR1.out,if_pos hx]
    rw[hdec]at v1;have HNX:Hid (x∉T.set):=hx;clear HR1 hx;obtain⟨V2,hV2⟩:∃V2,(wc.setCell ⟨gi,x,none⟩ (.bool true)).drew.drew=V2:=⟨_,rfl⟩
    have HV2:Hid ((wc.setCell ⟨gi,x,none⟩ (.bool true)).drew.drew=V2):=hV2;have hW2:WX E G C n gi vs1 vo1 V2 T.set T.opens (fun j=>if j=x then true else decide (j∈T.set)):=by rw[←hV2];exact((HPS.out.st.x.put x true).below (Ae _)).below (Ae _)
    have hB2:Below E w V2:=by rw[←hV2];exact(HPS.out.bel.setCell HPS.out.st.hgi _).drew.drew
    obtain⟨g,cap,w3,hr,hb3,c32,f32,hw3⟩:=O7 hW2 (Nat.le_trans HOK.out.len hn) x;have HR3:Hid ((Builtin.append_ #[61,61] 61 #[vs1,.slice (some ⟨V2.heap.size,0,none⟩) 1 1]).run prog ((V2.alloc (.cells #[.int .i64 (x:Int)] 3)).drew)=.ok (.slice (some ⟨g,0,none⟩) (T.set.length+1) cap) w3):=hr;obtain⟨_,u1,_⟩:=HE.out V2 hB2;obtain⟨_,u3,_⟩:=HE.out w3 (hB2.trans hb3);have u2:=hW2.c2;have u4:(V2.alloc (.cells #[.int .i64 (x:Int)] 3)).cell? ⟨G,2,none⟩=some vs1:=kc (A0 _ _) u2;have nG3:G≠V2.heap.size:=by have:=hW2.g.lt;omega
    have nb3:b≠V2.heap.size:=by have:=hW2.g.lt;have:=hW2.hG;omega
    have HF:Hid (Below E w (w3.setCell ⟨G,2,none⟩ (.slice (some ⟨g,0,none⟩) (T.set.length+1) cap))/\WS E G C n gi (.slice (some ⟨g,0,none⟩) (T.set.length+1) cap) vo1 (w3.setCell ⟨G,2,none⟩ (.slice (some ⟨g,0,none⟩) (T.set.length+1) cap)) R):=by
     refine⟨(hB2.trans hb3).setCell hW2.hG _,?_⟩;rw[HR2.out];refine WX.st (s:=⟨T.set++[x],T.opens⟩) hw3 fun j _=>?_;by_cases hj:j=x
     ·subst hj;simp
     ·rw[if_neg hj];simp[hj]
    have i5:(0:Int)<=(x:Int):=oM;have i6:(x:Int)<(n:Int):=oM;clear hr hb3 hw3 hW2 hB2 hV2;go_wp2;refine rG (fun v=>v.cell? ⟨w.heap.size,0,none⟩=some (.int .i64 L0)/\v.cell? ⟨b,o+1,none⟩=some (.int .i64 (x:Int))/\v.cell? ⟨G,1,none⟩=some (.slice (some ⟨gi,0,none⟩) n n)/\v.cell? ⟨gi,x,none⟩=some (.bool false)) fun hHeld=>?_;refine Tf 0 1 2 3 4 5 ?_;refine Tf 6 7 8 9 10 11 ?_;refine Tc 12 13 14 ?_;refine Bw 15 ?_;refine wpAnyH_done kR ?_ _;go_wp2;refine rG (fun v=>v.cell? ⟨b,o+1,none⟩=some (.int .i64 (x:Int))/\v.cell? ⟨G,1,none⟩=some (.slice (some ⟨gi,0,none⟩) n n)) fun hHeld=>?_;refine Tf 0 1 2 3 4 5 ?_;refine Tc 6 7 8 ?_;clear hHeld;refine Ax 9 fun K hK=>?_;go_simp;refine Aw hK fun hHeld=>?_;clear hK K;refine wpAnyH_done kR ?_ _;go_wp2;rw[HV2.out];refine rG (fun v=>v.cell? ⟨b,o+1,none⟩=some (.int .i64 (x:Int))) fun hHeld=>?_;refine Tf 0 1 2 3 5 6 ?_;refine Tb 7 8 ?_;clear hHeld;refine wpAnyH_ready (rs:=[4,9]) kR sM ?_;refine D8 4 (fun K hK=>?_) ?_
    ·go_simp;refine Aw hK fun hHeld=>?_;clear hK K;clear hHeld;refine Ax 9 fun K hK=>?_;exact RZ
    refine D8 9 (fun K hK=>?_) AllReadyH.nil;go_simp;refine Aw hK fun hHeld=>?_;clear hK K;clear hHeld;refine Ax 4 fun K hK=>?_;exact RZ
section
variable {P : Program} (w : World)
end

theorem FD(a:Int)(k:Nat)(hk:k<64)(h0:0<=a)(h1:a<18446744073709551616):bits .and .u64 a ((2^k-1:Nat):Int)=a%((2^k:Nat):Int):=by
 have hp:2^k<2^64:=Nat.pow_lt_pow_right oM hk;have hq:0<2^k:=Nat.two_pow_pos k;obtain⟨n,rfl⟩:=Int.eq_ofNat_of_zero_le h0;rw[u64_and _ _ h0 h1 oM oM,Int.toNat_natCast,Int.toNat_natCast,Nat.and_two_pow_sub_one_eq_mod];rfl
theorem O2(a:Int)(h0:0<=a)(h1:a<18446744073709551616):bits .and .u64 a 255=a%256:=FD a 8 dE h0 h1
theorem LU(a:Int)(h0:0<=a)(h1:a<18446744073709551616):bits .and .u64 a 8388607=a%8388608:=FD a 23 dE h0 h1
def Qf(a:Int):Bool:=a/2147483648==1
def nM(a:Int):Int:=if a/8388608%256=255 then 0 else if a/8388608%256=0 then a%8388608 else 8388608+a%8388608
def nE(a:Int):Int:=if a/8388608%256=255 then 0 else if a/8388608%256=0 then -149 else a/8388608%256-150
def Jb(a:Int):Bool:=if a/8388608%256=255 then a%8388608==0 else false
def Gk(a:Int):Bool:=if a/8388608%256=255 then a%8388608 != 0 else false
theorem OR(a:Int)(h0:0<=a)(h1:a<4294967296)(w:World):
 Calls prog 80 #[.int .i64 a] w fun e w'=>e=.returned (.agg #[.bool (Qf a),.int .u64 (nM a),.int .i64 (nE a),.bool (Jb a),.bool (Gk a)])/\∃o,w'=(w.alloc o).alloc o:=by
 have e1:=O2 (a/8388608) oM oM;have e2:=LU a h0 oM;by_cases c:a/8388608%256=255
 ·have f1:nM a=0:=by unfold nM;rw[if_pos c]
  have f2:nE a=0:=by unfold nE;rw[if_pos c]
  have f3:Jb a=(a%8388608==0):=by unfold Jb;rw[if_pos c]
  have f4:Gk a=(a%8388608 != 0):=by unfold Gk;rw[if_pos c]
  exact R3
 ·by_cases c2:a/8388608%256=0
  ·have f1:nM a=a%8388608:=by unfold nM;rw[if_neg c,if_pos c2]
   have f2:nE a= -149:=by unfold nE;rw[if_neg c,if_pos c2]
   have f3:Jb a=false:=by unfold Jb;rw[if_neg c]
   have f4:Gk a=false:=by unfold Gk;rw[if_neg c]
   exact R3
  ·have f1:nM a=8388608+a%8388608:=by unfold nM;rw[if_neg c,if_neg c2]
   have f2:nE a=a/8388608%256-150:=by unfold nE;rw[if_neg c,if_neg c2]
   have f3:Jb a=false:=by unfold Jb;rw[if_neg c]
   have f4:Gk a=false:=by unfold Gk;rw[if_neg c]
   exact R3
theorem Jq(op:Int)(h:An op=false)(w:World):Calls prog 41 #[.int .i64 op] w fun e w'=>e=.returned (.tuple #[Cg ⟨0,0,0,0,0⟩,.bool false])/\Below w.heap.size w w':=by
 have hh:op<1\/37<op:=by unfold An at h;simp at h;omega
 have e1:(op==1)=false:=by have:op≠1:=oM;simpa using this
 have e2:(op==2)=false:=by have:op≠2:=oM;simpa using this
 have e3:(op==3)=false:=by have:op≠3:=oM;simpa using this
 have e4:(op==4)=false:=by have:op≠4:=oM;simpa using this
 have e5:(op==5)=false:=by have:op≠5:=oM;simpa using this
 have e6:(op==6)=false:=by have:op≠6:=oM;simpa using this
 have e7:(op==7)=false:=by have:op≠7:=oM;simpa using this
 have e8:(op==8)=false:=by have:op≠8:=oM;simpa using this
 have e9:(op==9)=false:=by have:op≠9:=oM;simpa using this
 have e10:(op==10)=false:=by have:op≠10:=oM;simpa using this
 have e11:(op==11)=false:=by have:op≠11:=oM;simpa using this
 have e12:(op==12)=false:=by have:op≠12:=oM;simpa using this
 have e13:(op==13)=false:=by have:op≠13:=oM;simpa using this
 have e14:(op==14)=false:=by have:op≠14:=oM;simpa using this
 have e15:(op==15)=false:=by have:op≠15:=oM;simpa using this
 have e16:(op==16)=false:=by have:op≠16:=oM;simpa using this
 have e17:(op==17)=false:=by have:op≠17:=oM;simpa using this
 have e18:(op==18)=false:=by have:op≠18:=oM;simpa using this
 have e19:(op==19)=false:=by have:op≠19:=oM;simpa using this
 have e20:(op==20)=false:=by have:op≠20:=oM;simpa using this
 have e21:(op==21)=false:=by have:op≠21:=oM;simpa using this
 have e22:(op==22)=false:=by have:op≠22:=oM;simpa using this
 have e23:(op==23)=false:=by have:op≠23:=oM;simpa using this
 have e24:(op==24)=false:=by have:op≠24:=oM;simpa using this
 have e25:(op==25)=false:=by have:op≠25:=oM;simpa using this
 have e26:(op==26)=false:=by have:op≠26:=oM;simpa using this
 have e27:(op==27)=false:=by have:op≠27:=oM;simpa using this
 have e28:(op==28)=false:=by have:op≠28:=oM;simpa using this
 have e29:(op==29)=false:=by have:op≠29:=oM;simpa using this
 have e30:(op==30)=false:=by have:op≠30:=oM;simpa using this
 have e31:(op==31)=false:=by have:op≠31:=oM;simpa using this
 have e32:(op==32)=false:=by have:op≠32:=oM;simpa using this
 have e33:(op==33)=false:=by have:op≠33:=oM;simpa using this
 have e34:(op==34)=false:=by have:op≠34:=oM;simpa using this
 have e35:(op==35)=false:=by have:op≠35:=oM;simpa using this
 have e36:(op==36)=false:=by have:op≠36:=oM;simpa using this
 have e37:(op==37)=false:=by have:op≠37:=oM;simpa using this
 clear hh h;exact Dq
theorem EK(op:Int)(h:An op=false):A4 op=⟨0,0,0,0,0⟩:=by
 have hh:op<1\/37<op:=by unfold An at h;simp at h;omega
 unfold A4
 repeat rw[if_neg oM]
theorem F7(op:Int)(w:World):Calls prog 41 #[.int .i64 op] w fun e w'=>e=.returned (.tuple #[Cg (A4 op),.bool (An op)])/\Below w.heap.size w w':=by
 by_cases h:An op=false
 ·rw[h,EK op h];exact Jq op h w
 ·have hh:1<=op/\op<=37:=by unfold An at h;simp at h;omega
  rw[show An op=true by simpa using h];clear h;by_cases k1:op=1
  ·subst k1;exact OT w
  by_cases k2:op=2
  ·subst k2;exact OU w
  by_cases k3:op=3
  ·subst k3;exact OV w
  by_cases k4:op=4
  ·subst k4;exact OW w
  by_cases k5:op=5
  ·subst k5;exact OX w
  by_cases k6:op=6
  ·subst k6;exact OY w
  by_cases k7:op=7
  ·subst k7;exact OZ w
  by_cases k8:op=8
  ·subst k8;exact P2 w
  by_cases k9:op=9
  ·subst k9;exact P3 w
  by_cases k10:op=10
  ·subst k10;exact MO w
  by_cases k11:op=11
  ·subst k11;exact MP w
  by_cases k12:op=12
  ·subst k12;exact MQ w
  by_cases k13:op=13
  ·subst k13;exact MR w
  by_cases k14:op=14
  ·subst k14;exact MS w
  by_cases k15:op=15
  ·subst k15;exact MT w
  by_cases k16:op=16
  ·subst k16;exact MU w
  by_cases k17:op=17
  ·subst k17;exact MV w
  by_cases k18:op=18
  ·subst k18;exact MX w
  by_cases k19:op=19
  ·subst k19;exact MY w
  by_cases k20:op=20
  ·subst k20;exact MZ w
  by_cases k21:op=21
  ·subst k21;exact N4 w
  by_cases k22:op=22
  ·subst k22;exact N5 w
  by_cases k23:op=23
  ·subst k23;exact N6 w
  by_cases k24:op=24
  ·subst k24;exact N7 w
  by_cases k25:op=25
  ·subst k25;exact N8 w
  by_cases k26:op=26
  ·subst k26;exact N9 w
  by_cases k27:op=27
  ·subst k27;exact Na w
  by_cases k28:op=28
  ·subst k28;exact Nb w
  by_cases k29:op=29
  ·subst k29;exact Nc w
  by_cases k30:op=30
  ·subst k30;exact Nf w
  by_cases k31:op=31
  ·subst k31;exact Ng w
  by_cases k32:op=32
  ·subst k32;exact Nh w
  by_cases k33:op=33
  ·subst k33;exact Ni w
  by_cases k34:op=34
  ·subst k34;exact Nj w
  by_cases k35:op=35
  ·subst k35;exact Nk w
  by_cases k36:op=36
  ·subst k36;exact Nl w
  by_cases k37:op=37
  ·subst k37;exact Nm w
  omega

section
variable {w : World} {cs : List (Addr × Value)} {g : Nat} {x y : Value} {v v' : World}
end
end Go.Proofs.Ytnbccaicijcklaa
