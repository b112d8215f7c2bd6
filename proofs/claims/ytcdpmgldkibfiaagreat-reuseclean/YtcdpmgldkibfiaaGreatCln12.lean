import Derived.Test.YtcdpmgldkibfiaaGreatCln9
import Derived.Test.YtcdpmgldkibfiaaGreatCln1
namespace Go.Proofs.YtcdpmgldkibfiaaGreat
open Go.RowKit Go.Proofs.Tryz
set_option linter.all false
set_option maxRecDepth 100000
set_option maxHeartbeats 16000000
def GX(l:List Ac):List Nat:=(l.filter Aa).map fun i=>i.d.toNat
def B9(l:List Ac):Prop:=(GX l).Nodup
theorem Cp(l m:List Ac):GX (l++m)=GX l++GX m:=by unfold GX;simp
theorem MV(l:List Ac)(r:Nat):(l.filter fun i=>Aa i&&decide (i.d.toNat=r)).length=(GX l).count r:=by
 unfold GX;rw[List.count_eq_countP,List.countP_map,List.countP_eq_length_filter,List.filter_filter];congr 1;refine List.filter_congr fun i _=>?_;simp only[Function.comp];rw[Bool.and_comm];congr 1
theorem Gy{l:List Ac}(h:B9 l){i:Ac}(hi:i∈l)(hs:Aa i=true):Ar l i.d.toNat=true:=by
 unfold Ar;rw[MV];simp only[beq_iff_eq];have h1:=List.nodup_iff_count.1 h i.d.toNat;have h2:0<(GX l).count i.d.toNat:=List.count_pos_iff.2 (by unfold GX;exact List.mem_map.2 ⟨i,List.mem_filter.2 ⟨hi,hs⟩,rfl⟩);omega
def OW(c:Cd)(a:List Rk×List Nat)(i:Ac):List Rk×List Nat:=
 if i.op=34 then(a.1,a.2++[a.1.length])
 else if i.op=35 then(a.1.take (a.2.getLastD 0),a.2.dropLast)
 else if(i.op≠32/\i.op≠3)/\Aa i=true then(a.1++[DV c i],a.2)
 else a
def Jm(c:Cd)(l:List Ac):List Rk×List Nat:=l.foldl (OW c) ([],[])
theorem I3(c:Cd)(l:List Ac)(i:Ac):Jm c (l++[i])=OW c (Jm c l) i:=by unfold Jm;rw[List.foldl_append];rfl
def Mj(c:Cd)(l:List Ac)(i:Ac):Prop:=
 (i.op=3->A7 c.regs i.a≠A7 c.regs i.d)/\((i.op≠32/\i.op≠3)/\Aa i=true->DV c i∉(Jm c l).1)
def I6(c:Cd)(l:List Ac):Prop:=∀k (h:k<l.length),Mj c (l.take k) l[k]
theorem P5(c:Cd):I6 c []:=fun k h=>absurd h (Nat.not_lt_zero _)
theorem No{c:Cd}{l:List Ac}{i:Ac}(h:I6 c l)(hi:Mj c l i):I6 c (l++[i]):=by
 intro k hk;by_cases e:k<l.length
 ·rw[List.take_append_of_le_length oM,List.getElem_append_left e];exact h k e
 ·have e2:k=l.length:=by simp at hk;omega
  subst e2;rw[List.take_left,List.getElem_append_right (Nat.le_refl _)];simpa using hi
structure Xc(c:Cd)(s:RW):Prop where
 abv:(s.reck,s.opn)=Jm c s.left
 clean:I6 c s.left
 held:∀k g,s.hold k=some g->Ar c.list g=true
theorem ML{c:Cd}{L R:List Ac}{s:RW}{x x':Wk}{i:Ac}(hsg:B9 c.list)(hi:CF c L s x x')(hl:c.list=L++i::R)(hst:∀r,s.ins r=r\/Ar c.list (s.ins r)=true)(t:Aq c x i=true)(hs:Aa i=true):Bx c.list (A3 s i)=true:=by
 have hil:i∈c.list:=by rw[hl];simp
 obtain⟨_,t2,_,t4⟩:=Ah t;unfold Dr Ab at t4;rw[List.all_eq_true]at t4;simp only[List.mem_append]at t4;have key:∀n:Int,n.toNat∈x.set->Ar c.list (s.ins n.toNat)=true:=fun n hm=>by
  rcases hst n.toNat with q|q
  ·rw[q];obtain⟨j,hj,h1,h2⟩:=hi.was _ hm;rw[←h2];exact Gy hsg (by rw[hl];exact List.mem_append.2 (.inl hj)) h1
  ·exact q
 unfold Bx;simp only[Bool.and_eq_true,List.all_eq_true];have hsd:Ar c.list i.d.toNat=true:=Gy hsg hil hs;refine⟨hs,(show Ar c.list (A3 s i).d.toNat=true from hsd),fun r hr=>?_⟩;unfold Ab A3 at hr;simp only[List.mem_append]at hr;rcases hr with hr|hr|hr
 ·by_cases q:(A4 i.op).a=0
  ·rw[if_pos q]at hr;cases hr
  ·rw[if_neg q,if_neg q]at hr;simp at hr;subst hr;rw[Int.toNat_natCast];exact key i.a (by have:=t4 i.a (.inl OV);simpa using this)
 ·by_cases q:(A4 i.op).b=0
  ·rw[if_pos q]at hr;cases hr
  ·rw[if_neg q,if_neg q]at hr;simp at hr;subst hr;rw[Int.toNat_natCast];exact key i.b (by have:=t4 i.b (.inr (.inl OV));simpa using this)
 ·by_cases q:(A4 i.op).c=0
  ·rw[if_pos q]at hr;cases hr
  ·rw[if_neg q,if_neg q]at hr;simp at hr;subst hr;rw[Int.toNat_natCast];exact key i.c (by have:=t4 i.c (.inr (.inr OV));simpa using this)
theorem P6{c:Cd}{L:List Ac}{s:RW}{x x':Wk}{i:Ac}(hi:CF c L s x x')(hc:Xc c s)(hw:Aa i=true->Bx c.list (A3 s i)=true)(hh:AR c s (A3 s i)=none):Xc c (AF c s (A3 s i)):=by
 have hop:(A3 s i).op=i.op:=rfl;have hs':Aa (A3 s i)=Aa i:=rfl;have hat:Mj c s.left (A3 s i):=by
  refine⟨fun o e=>?_,fun q hm=>?_⟩
  ·have hs:Aa i=true:=by unfold Aa;rw[show i.op=3 from o];decide
   unfold AR at hh;rw[if_pos (hw hs),if_pos o,if_pos e]at hh;cases hh
  ·have hm':DV c (A3 s i)∈s.reck:=by
    have:=congrArg Prod.fst hc.abv;simp only at this;rw[this];exact hm
   unfold AR at hh;rw[if_pos (hw q.2),if_neg q.1.2]at hh;have:=(hi.reck _).2 hm';rw[hh]at this;cases this
 refine⟨?_,by rw[(CS c s _).1];exact No hc.clean hat,fun k g hk=>?_⟩
 rotate_left 1
 ·unfold AF Do Iz at hk;split at hk
  ·exact hc.held k g hk
  ·split at hk
   ·simp only at hk;split at hk
    ·cases hk
    ·exact hc.held k g hk
   ·split at hk
    ·rename_i q;simp only at hk;split at hk
     ·obtain rfl:=Option.some.inj hk;exact(AQ q.2).2.1
     ·exact hc.held k g hk
    ·exact hc.held k g hk
 rw[(CS c s _).1,I3,←hc.abv];unfold AF OW;simp only;by_cases o4:(A3 s i).op=34
 ·rw[if_pos o4,if_pos o4]
 ·rw[if_neg o4,if_neg o4];by_cases o5:(A3 s i).op=35
  ·rw[if_pos o5,if_pos o5];rfl
  ·rw[if_neg o5,if_neg o5];by_cases q:((A3 s i).op≠32/\(A3 s i).op≠3)/\Aa (A3 s i)=true
   ·rw[if_pos ⟨q.1,hw q.2⟩,if_pos q]
   ·rw[if_neg (fun e=>q ⟨e.1,(AQ e.2).1⟩),if_neg q]
theorem I7(c:Cd)(hsg:B9 c.list):∀ (R L:List Ac) (s:RW) (x x':Wk),c.list=L++R->CF c L s x x'->(∀r,s.ins r=r\/Ar c.list (s.ins r)=true)->Xc c s->AE c x R=true->Xc c (R.foldl (AX c) s)
 |[],L,s,x,x',hl,hi,hst,hc,ht=>hc
 |i::R,L,s,x,x',hl,hi,hst,hc,ht=>by
  have ht':Aq c x i=true/\AE c (Af x i) R=true:=by unfold AE at ht;simpa using ht
  have hl':c.list=(L++[i])++R:=by rw[hl];simp
  rw[List.foldl_cons];cases hh:AR c s (A3 s i)with
  |some g=>
   have htk:AX c s i={s with ins:=fun k=>if k=i.d.toNat then g else s.ins k}:=by unfold AX;rw[hh]
   rw[htk];refine I7 c hsg R (L++[i]) _ (Af x i) x' hl' (Gd hi hl ht'.1 hh) (fun r=>?_) ⟨hc.abv,hc.clean,hc.held⟩ ht'.2;simp only;split
   ·obtain⟨g1,g2,g3⟩:=NH hi ht'.1 hh;refine .inr ?_;have hw:=Dn hh;have hh2:=hh;unfold AR at hh2;rw[if_pos hw]at hh2;by_cases h3:(A3 s i).op=3
    ·rw[if_pos h3]at hh2;split at hh2
     ·simp only[Option.some.injEq]at hh2;rw[←hh2];have ha:(A4 i.op).a≠0:=by rw[show i.op=3 from h3];decide
      exact(AQ hw).2.2 _ (by unfold Ab;rw[show(A3 s i).op=i.op from rfl,if_neg ha];simp)
     ·cases hh2
    ·rw[if_neg h3]at hh2;exact hc.held _ _ hh2
   ·exact hst r
  |none=>
   have htk:AX c s i=AF c s (A3 s i):=by unfold AX;rw[hh]
   rw[htk];refine I7 c hsg R (L++[i]) _ (Af x i) (Af x' (A3 s i)) hl' (F3 hi hl ht'.1 hh) (fun r=>?_) (P6 hi hc (ML hsg hi hl hst ht'.1) hh) ht'.2;rw[(CS c s _).2];exact hst r
theorem O7{c:Cd}(h:(Am c).1=0)(hsg:B9 c.list):I6 c (Cg c):=by
 obtain⟨h1,h2,h3⟩:=EP.1 h;exact(I7 c hsg c.list [] Ci ⟨[],[]⟩ ⟨[],[]⟩ rfl (CF.start c) (fun r=>.inl rfl) ⟨rfl,P5 c,fun k g hk=>(by cases hk)⟩ h2).clean
theorem QP(c:Cd):∀ (R:List Ac) (s:RW),List.Sublist (GX (R.foldl (AX c) s).left) (GX s.left++GX R)
 |[],s=>by simp[GX]
 |i::R,s=>by
  rw[List.foldl_cons];refine(QP c R (AX c s i)).trans ?_;have e:GX (i::R)=GX [i]++GX R:=Cp [i] R;rw[e,←List.append_assoc];refine List.Sublist.append ?_ (List.Sublist.refl _);unfold AX;split
  ·exact List.sublist_append_left _ _
  ·have e2:GX [A3 s i]=GX [i]:=by
    unfold GX;simp only[List.filter_cons,List.filter_nil,show Aa (A3 s i)=Aa i from rfl];split<;>rfl
   rw[(CS c s _).1,Cp,e2];exact List.Sublist.refl _
theorem MN{c:Cd}(hsg:B9 c.list):B9 (Cg c):=by
 have:=QP c c.list Ci;unfold B9 Cg;exact List.Sublist.nodup (by simpa[Ci,GX]using this) hsg
theorem F5{c:Cd}{l:List Ac}(h:AE c ⟨[],[]⟩ l=true){i:Ac}(hi:i∈l):∃L R,l=L++i::R/\Aq c (CT ⟨[],[]⟩ L) i=true:=by
 obtain⟨L,R,rfl⟩:=List.append_of_mem hi;rw[Dx]at h;simp only[Bool.and_eq_true]at h;refine⟨L,R,rfl,?_⟩;have h2:=h.2;unfold AE at h2;simp only[Bool.and_eq_true]at h2;exact h2.1
def F6(o:List Nat):Int:=match o.getLast? with |some x=>(x:Int)|none=> -1
theorem El:F6 []= -1:=rfl
theorem Dt(o:List Nat)(x:Nat):F6 (o++[x])=(x:Int):=by unfold F6;simp
def FJ(s:List Int×List Nat)(i:Ac):List Int×List Nat:=
 (s.1++[F6 (if i.op=35 then s.2.dropLast else s.2)],if i.op=34 then s.2++[s.1.length]else if i.op=35 then s.2.dropLast else s.2)
def AP(l:List Ac):List Int×List Nat:=l.foldl FJ ([],[])
theorem Ga(l:List Ac)(i:Ac):AP (l++[i])=FJ (AP l) i:=by unfold AP;rw[List.foldl_append];rfl
def twP(i:Ac):Prop:=(i.op≠32/\i.op≠3)/\Aa i=true
structure BI(c:Cd)(l:List Ac)(B:List Int)(S:List Nat)(K:List Rk)(O:List Nat):Prop where
 len:B.length=l.length
 so:S.length=O.length
 inc:S.Pairwise (· < ·)
 lt:∀s∈S,s<l.length
 up:∀t (h:t<S.length),B[S[t]]? =some (F6 (S.take t))
 low:∀ (i:Nat) (x:Int),B[i]? =some x->x<(i:Int)/\-1<=x
 mono:(O++[K.length]).Pairwise (· <= ·)
 abv:∀t,t<=S.length->∀i (h:i<l.length),twP l[i]->(B[i]? =some (-1)\/∃s∈S.take t,B[i]? =some (s:Int))->DV c l[i]∈K.take ((O++[K.length]).getD t 0)
theorem BI.nil(c:Cd):BI c [] [] [] [] []:=⟨rfl,rfl,List.Pairwise.nil,fun s h=>Xh,fun t h=>absurd h (Nat.not_lt_zero _),fun i x h=>(by simp at h),sM,fun t _ i h=>absurd h (Nat.not_lt_zero _)⟩
theorem Hu{S:List Nat}{n:Nat}(h:∀s∈S,s<n):F6 S<(n:Int)/\-1<=F6 S:=by
 rcases List.eq_nil_or_concat S with e|⟨S1,s,e⟩
 ·rw[e,El];omega
 ·rw[List.concat_eq_append]at e;rw[e,Dt];have:=h s (by rw[e];simp);omega
theorem H2{B:List Int}{n:Nat}(hn:B.length=n)(h:∀ (i:Nat) (x:Int),B[i]? =some x->x<(i:Int)/\-1<=x){y:Int}(hy:y<(n:Int)/\-1<=y):∀ (i:Nat) (x:Int),(B++[y])[i]? =some x->x<(i:Int)/\-1<=x:=by
 intro i x hx;by_cases e:i<B.length
 ·rw[List.getElem?_append_left e]at hx;exact h i x hx
 ·rw[List.getElem?_append_right oM]at hx;have e2:i-B.length=0:=by
   by_cases e3:i-B.length=0
   ·exact e3
   ·rw[List.getElem?_eq_none sO]at hx;cases hx
  rw[e2]at hx;simp at hx;subst hx;have:i=n:=oM;rw[this];exact hy
theorem N5{B:List Int}{S:List Nat}(hS:∀s∈S,s<B.length)(h:∀t (h:t<S.length),B[S[t]]? =some (F6 (S.take t)))(y:Int):∀t (h:t<S.length),(B++[y])[S[t]]? =some (F6 (S.take t)):=by
 intro t ht;rw[List.getElem?_append_left (hS _ (List.getElem_mem ht))];exact h t ht
theorem NE{O:List Nat}{m t:Nat}(h:t<O.length):(O++[m]).getD t 0=O[t]:=by
 rw[List.getD_eq_getElem?_getD,List.getElem?_append_left h,List.getElem?_eq_getElem h];rfl
theorem EV{O:List Nat}{m t:Nat}(h:t=O.length):(O++[m]).getD t 0=m:=by
 subst h;rw[List.getD_eq_getElem?_getD,List.getElem?_append_right (Nat.le_refl _)];simp
theorem H6{O:List Nat}{m:Nat}(h:(O++[m]).Pairwise (· <= ·)):∀x∈O,x<=m:=fun x hx=>(List.pairwise_append.1 h).2.2 x hx m sM
theorem NS{i:Ac}(h:i.op=34\/i.op=35)(t:twP i):False:=by
 have:=Ft t.2;omega
theorem BI.step{c:Cd}{l:List Ac}{B:List Int}{S:List Nat}{K:List Rk}{O:List Nat}(h:BI c l B S K O)(i:Ac)(hb:i.op=35->O≠[]):BI c (l++[i]) (FJ (B,S) i).1 (FJ (B,S) i).2 (OW c (K,O) i).1 (OW c (K,O) i).2:=by
 have old:∀ (y:Int) (k:Nat),k<l.length->(B++[y])[k]? =B[k]? :=fun y k hk=>List.getElem?_append_left (by rw[h.len];exact hk);have new:∀ (y:Int),(B++[y])[l.length]? =some y:=fun y=>by rw[List.getElem?_append_right (by rw[h.len];exact Nat.le_refl _),h.len];simp
 have hlS:∀s∈S,s<B.length:=fun s hs=>by rw[h.len];exact h.lt s hs
 have hlt1:∀s∈S,s<(l++[i]).length:=fun s hs=>by have:=h.lt s hs;simp;omega
 unfold FJ OW;by_cases h34:i.op=34
 ·simp only[h34,if_true];try rw[if_neg (show¬ ((34:Int)=35) by decide)]
  refine⟨by simp[h.len],by simp[h.so],?_,?_,?_,H2 h.len h.low (Hu h.lt),?_,?_⟩
  ·rw[List.pairwise_append];exact⟨h.inc,sM,fun a ha b hb'=>by simp at hb';subst hb';rw[h.len];exact h.lt a ha⟩
  ·intro s hs;simp only[List.mem_append,List.mem_singleton]at hs;rcases hs with e|e
   ·exact hlt1 s e
   ·rw[e,h.len];simp
  ·intro t ht;by_cases e:t<S.length
   ·rw[List.getElem_append_left e,List.take_append_of_le_length oM];exact N5 hlS h.up _ t e
   ·have e2:t=S.length:=by simp at ht;omega
    subst e2;rw[List.getElem_append_right (Nat.le_refl _),List.take_left];simp only[Nat.sub_self,List.getElem_singleton];rw[h.len];exact new _
  ·have hm:=h.mono;rw[List.pairwise_append]at hm ⊢;refine⟨h.mono,sM,fun a ha b hb'=>?_⟩;simp at hb';subst hb';simp only[List.mem_append,List.mem_singleton]at ha;rcases ha with e|e
   ·exact H6 h.mono a e
   ·omega
  ·intro t ht k hk tw hx;by_cases hkl:k<l.length
   ·rw[List.getElem_append_left hkl]at tw ⊢;rw[old _ k hkl]at hx;by_cases e:t<=S.length
    ·rw[List.take_append_of_le_length e]at hx;have h9:=h.abv t e k hkl tw hx;rw[show(O++[K.length]++[K.length]).getD t 0=(O++[K.length]).getD t 0 by
      rw[List.getD_eq_getElem?_getD,List.getD_eq_getElem?_getD,List.getElem?_append_left (by have:=h.so;simp;omega)]]
     exact h9
    ·have e2:t=S.length+1:=by simp at ht;omega
     have hx':B[k]? =some (-1)\/∃s∈S.take S.length,B[k]? =some (s:Int):=by
      rcases hx with hx|⟨s,hs,hx⟩
      ·exact .inl hx
      ·rw[e2,List.take_of_length_le sM]at hs;simp only[List.mem_append,List.mem_singleton]at hs;rcases hs with q|q
       ·exact .inr ⟨s,by rw[List.take_length];exact q,hx⟩
       ·have:=(h.low k _ hx).1;rw[q,h.len]at this;omega
     have h9:=h.abv S.length (Nat.le_refl _) k hkl tw hx';rw[EV h.so,List.take_length]at h9;rw[EV (by simp[h.so,e2]),List.take_length];exact h9
   ·have e:k=l.length:=by simp at hk;omega
    subst e;rw[List.getElem_append_right (Nat.le_refl _)]at tw;simp only[Nat.sub_self,List.getElem_singleton]at tw;exact(NS (.inl h34) tw).elim
 ·by_cases h35:i.op=35
  ·simp only[h35,if_true];try simp only[show¬ ((35:Int)=34) by decide,if_false]
   have hO:=hb h35;obtain⟨O1,m,eO⟩:∃O1 m,O=O1++[m]:=by
    rcases List.eq_nil_or_concat O with e|⟨O1,m,e⟩
    ·exact absurd e hO
    ·exact⟨O1,m,by simpa using e⟩
   obtain⟨S1,s1,eS⟩:∃S1 s,S=S1++[s]:=by
    rcases List.eq_nil_or_concat S with e|⟨S1,s,e⟩
    ·exfalso;have:=h.so;rw[e,eO]at this;simp at this
    ·exact⟨S1,s,by simpa using e⟩
   subst eO eS;have hso:S1.length=O1.length:=by have:=h.so;simpa using this
   have hmK:m<=K.length:=H6 h.mono m sM;have hm1:∀x∈O1,x<=m:=fun x hx=>by
    have h9:=(List.pairwise_append.1 h.mono).1;exact H6 h9 x hx
   simp only[List.dropLast_concat,List.getLastD_concat];have hlS1:∀s∈S1,s<l.length:=fun s hs=>h.lt s (by simp[hs]);have hKl:(K.take m).length=m:=by rw[List.length_take];omega
   refine⟨by simp[h.len],hso,(List.pairwise_append.1 h.inc).1,fun s hs=>by have:=hlS1 s hs;simp;omega,?_,H2 h.len h.low (Hu hlS1),?_,?_⟩
   ·intro t ht;have h9:=h.up t sO;rw[List.getElem_append_left ht,List.take_append_of_le_length oM]at h9;rw[old _ _ (hlS1 _ (List.getElem_mem ht))];exact h9
   ·rw[hKl];exact(List.pairwise_append.1 h.mono).1
   ·intro t ht k hk tw hx;by_cases hkl:k<l.length
    ·rw[List.getElem_append_left hkl]at tw ⊢;rw[old _ k hkl]at hx;have h9:=h.abv t sO k hkl tw (by rw[List.take_append_of_le_length ht];exact hx);rw[NE sO]at h9;rw[hKl];have e9:(O1++[m]).getD t 0=(O1++[m])[t]'sO:=by rw[List.getD_eq_getElem?_getD,List.getElem?_eq_getElem];rfl
     rw[e9,List.take_take];have hle:(O1++[m])[t]'sO<=m:=by
      have h8:=List.getElem_mem (l:=O1++[m]) (n:=t) sO;simp only[List.mem_append,List.mem_singleton]at h8;rcases h8 with q|q
      ·exact hm1 _ q
      ·omega
     rw[Nat.min_eq_left hle];exact h9
    ·have e:k=l.length:=by simp at hk;omega
     subst e;rw[List.getElem_append_right (Nat.le_refl _)]at tw;simp only[Nat.sub_self,List.getElem_singleton]at tw;exact(NS (.inr h35) tw).elim
  ·simp only[h34,h35,if_false];by_cases htw:(i.op≠32/\i.op≠3)/\Aa i=true
   ·rw[if_pos htw];refine⟨by simp[h.len],h.so,h.inc,hlt1,N5 hlS h.up _,H2 h.len h.low (Hu h.lt),?_,?_⟩
    ·rw[List.pairwise_append];have h9:=H6 h.mono;exact⟨(List.pairwise_append.1 h.mono).1,sM,fun a ha b hb'=>by simp at hb';subst hb';have:=h9 a ha;omega⟩
    ·intro t ht k hk tw hx;by_cases hkl:k<l.length
     ·rw[List.getElem_append_left hkl]at tw ⊢;rw[old _ k hkl]at hx;have h9:=h.abv t ht k hkl tw hx;by_cases e:t<O.length
      ·rw[NE e]at h9 ⊢;rw[List.take_append_of_le_length (H6 h.mono _ (List.getElem_mem e))];exact h9
      ·have e2:t=O.length:=by have:=h.so;omega
       rw[EV e2,List.take_length]at h9;rw[EV e2,List.take_of_length_le sM];exact List.mem_append.2 (.inl h9)
     ·have e:k=l.length:=by simp at hk;omega
      subst e;rw[new]at hx;rw[List.getElem_append_right (Nat.le_refl _)];simp only[Nat.sub_self,List.getElem_singleton];by_cases e:t<S.length
      ·exfalso;obtain⟨S1,s1,eS⟩:∃S1 s,S=S1++[s]:=by
        rcases List.eq_nil_or_concat S with q|⟨S1,s,q⟩
        ·rw[q]at e;simp at e
        ·exact⟨S1,s,by simpa using q⟩
       rw[eS,Dt]at hx;rcases hx with q|⟨s,hs,q⟩
       ·simp only[Option.some.injEq]at q;omega
       ·rw[List.take_append_of_le_length (by rw[eS]at e;simp at e;omega)]at hs;simp only[Option.some.injEq]at q;have h9:=h.inc;rw[eS,List.pairwise_append]at h9;have:=h9.2.2 s (List.mem_of_mem_take hs) s1 sM;omega
      ·have e2:t=O.length:=by have:=h.so;omega
       rw[EV e2,List.take_of_length_le sM];simp
   ·rw[if_neg htw];refine⟨by simp[h.len],h.so,h.inc,hlt1,N5 hlS h.up _,H2 h.len h.low (Hu h.lt),h.mono,?_⟩;intro t ht k hk tw hx;by_cases hkl:k<l.length
    ·rw[List.getElem_append_left hkl]at tw ⊢;rw[old _ k hkl]at hx;exact h.abv t ht k hkl tw hx
    ·have e:k=l.length:=by simp at hk;omega
     subst e;rw[List.getElem_append_right (Nat.le_refl _)]at tw;simp only[Nat.sub_self,List.getElem_singleton]at tw;exact absurd tw htw
def balP(c:Cd)(l:List Ac):Prop:=∀k (h:k<l.length),l[k].op=35->(Jm c (l.take k)).2≠[]
theorem Zf{c:Cd}{l:List Ac}(hb:balP c l):∀k,k<=l.length->BI c (l.take k) (AP (l.take k)).1 (AP (l.take k)).2 (Jm c (l.take k)).1 (Jm c (l.take k)).2:=by
 intro k;induction k with
 |zero=>intro _;exact BI.nil c
 |succ k ih=>
  intro hk;have h:=ih oM;have hkl:k<l.length:=oM;rw[List.take_succ_eq_append_getElem hkl,Ga,I3];exact h.step l[k] (hb k hkl)
def GO(o:List Bk):Nat:=(o.filter fun b=> !b.loop).length
theorem RQ{c:Cd}{l:List Ac}(h:AE c ⟨[],[]⟩ l=true):∀k,k<=l.length->(Jm c (l.take k)).2.length=GO (CT ⟨[],[]⟩ (l.take k)).opens:=by
 intro k;induction k with
 |zero=>intro _;rfl
 |succ k ih=>
  intro hk;have hkl:k<l.length:=oM;have ih':=ih oM;have t:Aq c (CT ⟨[],[]⟩ (l.take k)) l[k]=true:=by
   have e:l=l.take k++l[k]::l.drop (k+1):=by rw[←List.drop_eq_getElem_cons hkl,List.take_append_drop]
   exact Zdf
  rw[List.take_succ_eq_append_getElem hkl,I3,ED];show _=GO (Af (CT ⟨[],[]⟩ (l.take k)) l[k]).opens;obtain⟨-,-,t3,-⟩:=Ah t;generalize hx:CT ⟨[],[]⟩ (l.take k)=x at ih' t3;generalize Jm c (l.take k)=a at ih';generalize l[k]=i at t3;obtain⟨X,O⟩:=x;have hop:∀y:Wk,(CG y i (A4 i.op)).opens=y.opens:=fun y=>by unfold CG;split<;>rfl
  unfold Af Di;rw[hop];unfold At at t3;unfold OW BJ;simp only at ih';by_cases h34:i.op=34
  ·rw[if_pos h34,if_pos (.inl h34)];simp only[List.length_append,List.length_singleton,ih'];unfold GO;rw[h34];simp[List.filter_cons]
  ·rw[if_neg h34];by_cases h35:i.op=35
   ·rw[if_pos h35,if_neg oM,if_pos (.inl h35)];rw[if_neg oM,if_pos h35]at t3;simp only[Bool.and_eq_true,Bool.not_eq_true']at t3;cases O with
    |nil=>simp at t3
    |cons b O=>
     have hl:b.loop=false:=by simpa[Aj]using t3.2
     unfold AG;simp only[List.length_dropLast,ih'];unfold GO;simp[List.filter_cons,hl]
   ·rw[if_neg h35];have e1:(if(i.op≠32/\i.op≠3)/\Aa i=true then(a.1++[DV c i],a.2)else a).2=a.2:=by split<;>rfl
    rw[e1,ih'];by_cases h36:i.op=36
    ·rw[if_pos (.inr h36)];unfold GO;rw[h36];simp[List.filter_cons]
    ·rw[if_neg oM];by_cases h37:i.op=37
     ·rw[if_pos (.inr h37)];rw[if_neg oM,if_neg oM,if_pos h37]at t3;cases O with
      |nil=>simp[Aj]at t3
      |cons b O=>
       have hl:b.loop=true:=by simpa[Aj]using t3
       unfold AG GO;simp[List.filter_cons,hl]
     ·rw[if_neg oM]
theorem Ua{c:Cd}{l:List Ac}(h:AE c ⟨[],[]⟩ l=true):balP c l:=by
 intro k hk h35 e;have h1:=RQ h k (Nat.le_of_lt hk);have t:Aq c (CT ⟨[],[]⟩ (l.take k)) l[k]=true:=by
  have e:l=l.take k++l[k]::l.drop (k+1):=by rw[←List.drop_eq_getElem_cons hk,List.take_append_drop]
  exact Zdf
 obtain⟨-,-,t3,-⟩:=Ah t;rw[e]at h1;unfold At at t3;rw[if_neg oM,if_pos h35]at t3;simp only[Bool.and_eq_true,Bool.not_eq_true']at t3;revert h1 t3;generalize CT ⟨[],[]⟩ (l.take k)=x;obtain⟨X,O⟩:=x;intro h1 t3;cases O with
 |nil=>simp at t3
 |cons b O=>
  have hl:b.loop=false:=by simpa[Aj]using t3.2
  unfold GO at h1;simp[List.filter_cons,hl]at h1
theorem GV(l:List Ac):(AP l).1.length=l.length:=by
 have key:∀ (m:List Ac) (s:List Int×List Nat),(m.foldl FJ s).1.length=s.1.length+m.length:=by
  intro m;induction m with
  |nil=>intro s;rfl
  |cons i m ih=>intro s;rw[List.foldl_cons,ih];unfold FJ;simp;omega
 unfold AP;rw[key];simp
theorem Mi(l:List Ac)(k:Nat)(hk:k<=l.length):∀j,j<k->(AP (l.take k)).1[j]? =(AP l).1[j]? :=by
 intro j hj;have key:∀ (m:List Ac) (s:List Int×List Nat),j<s.1.length->(m.foldl FJ s).1[j]? =s.1[j]? :=by
  intro m;induction m with
  |nil=>intro s _;rfl
  |cons i m ih=>
   intro s hs;rw[List.foldl_cons,ih _ (by unfold FJ;simp;omega)];unfold FJ;rw[List.getElem?_append_left hs]
 have e:AP l=(l.drop k).foldl FJ (AP (l.take k)):=by
  unfold AP;rw[←List.foldl_append,List.take_append_drop]
 rw[e,key _ _ (by rw[GV,List.length_take];omega)]
end Go.Proofs.YtcdpmgldkibfiaaGreat
