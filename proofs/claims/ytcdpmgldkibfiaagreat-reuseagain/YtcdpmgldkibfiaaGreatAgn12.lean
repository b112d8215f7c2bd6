import Derived.Test.YtcdpmgldkibfiaaGreatAgn9
import Derived.Test.YtcdpmgldkibfiaaGreatAgn1
namespace Go.Proofs.YtcdpmgldkibfiaaGreat
open Go.RowKit Go.Proofs.Tryz
set_option linter.all false
set_option maxRecDepth 100000
set_option maxHeartbeats 16000000
def GI(l:List Af):List Nat:=(l.filter Ab).map fun i=>i.d.toNat
def B4(l:List Af):Prop:=(GI l).Nodup
theorem Cn(l m:List Af):GI (l++m)=GI l++GI m:=by unfold GI;simp
theorem MD(l:List Af)(r:Nat):(l.filter fun i=>Ab i&&decide (i.d.toNat=r)).length=(GI l).count r:=by
 unfold GI;rw[List.count_eq_countP,List.countP_map,List.countP_eq_length_filter,List.filter_filter];congr 1;refine List.filter_congr fun i _=>?_;simp only[Function.comp];rw[Bool.and_comm];congr 1
theorem Du{l:List Af}(h:B4 l){i:Af}(hi:i∈l)(hs:Ab i=true):Aq l i.d.toNat=true:=by
 unfold Aq;rw[MD];simp only[beq_iff_eq];have h1:=List.nodup_iff_count.1 h i.d.toNat;have h2:0<(GI l).count i.d.toNat:=List.count_pos_iff.2 (by unfold GI;exact List.mem_map.2 ⟨i,List.mem_filter.2 ⟨hi,hs⟩,rfl⟩);omega
def Rp(c:Cd)(a:List Rk×List Nat)(i:Af):List Rk×List Nat:=
 if i.op=34 then(a.1,a.2++[a.1.length])
 else if i.op=35 then(a.1.take (a.2.getLastD 0),a.2.dropLast)
 else if(i.op≠32/\i.op≠3)/\Ab i=true then(a.1++[El c i],a.2)
 else a
def Ro(c:Cd)(l:List Af):List Rk×List Nat:=l.foldl (Rp c) ([],[])
theorem Kj(c:Cd)(l:List Af)(i:Af):Ro c (l++[i])=Rp c (Ro c l) i:=by unfold Ro;rw[List.foldl_append];rfl
def II(c:Cd)(l:List Af)(i:Af):Prop:=
 (i.op=3->A8 c.regs i.a≠A8 c.regs i.d)/\((i.op≠32/\i.op≠3)/\Ab i=true->El c i∉(Ro c l).1)
def Gr(c:Cd)(l:List Af):Prop:=∀k (h:k<l.length),II c (l.take k) l[k]
theorem OD(c:Cd):Gr c []:=fun k h=>absurd h (Nat.not_lt_zero _)
theorem MU{c:Cd}{l:List Af}{i:Af}(h:Gr c l)(hi:II c l i):Gr c (l++[i]):=by
 intro k hk;by_cases e:k<l.length
 ·rw[List.take_append_of_le_length oM,List.getElem_append_left e];exact h k e
 ·have e2:k=l.length:=by simp at hk;omega
  subst e2;rw[List.take_left,List.getElem_append_right (Nat.le_refl _)];simpa using hi
structure WH(c:Cd)(s:RW):Prop where
 abv:(s.reck,s.opn)=Ro c s.left
 clean:Gr c s.left
 held:∀k g,s.hold k=some g->Aq c.list g=true
theorem Mr{c:Cd}{L R:List Af}{s:RW}{x x':Wk}{i:Af}(hsg:B4 c.list)(hi:CE c L s x x')(hl:c.list=L++i::R)(hst:∀r,s.ins r=r\/Aq c.list (s.ins r)=true)(t:Ar c x i=true)(hs:Ab i=true):Bj c.list (A3 s i)=true:=by
 have hil:i∈c.list:=by rw[hl];simp
 obtain⟨_,t2,_,t4⟩:=Ai t;unfold CZ Ac at t4;rw[List.all_eq_true]at t4;simp only[List.mem_append]at t4;have key:∀n:Int,n.toNat∈x.set->Aq c.list (s.ins n.toNat)=true:=fun n hm=>by
  rcases hst n.toNat with q|q
  ·rw[q];obtain⟨j,hj,h1,h2⟩:=hi.was _ hm;rw[←h2];exact Du hsg (by rw[hl];exact List.mem_append.2 (.inl hj)) h1
  ·exact q
 unfold Bj;simp only[Bool.and_eq_true,List.all_eq_true];have hsd:Aq c.list i.d.toNat=true:=Du hsg hil hs;refine⟨hs,(show Aq c.list (A3 s i).d.toNat=true from hsd),fun r hr=>?_⟩;unfold Ac A3 at hr;simp only[List.mem_append]at hr;rcases hr with hr|hr|hr
 ·by_cases q:(A5 i.op).a=0
  ·rw[if_pos q]at hr;cases hr
  ·rw[if_neg q,if_neg q]at hr;simp at hr;subst hr;rw[Int.toNat_natCast];exact key i.a (by have:=t4 i.a (.inl Ot);simpa using this)
 ·by_cases q:(A5 i.op).b=0
  ·rw[if_pos q]at hr;cases hr
  ·rw[if_neg q,if_neg q]at hr;simp at hr;subst hr;rw[Int.toNat_natCast];exact key i.b (by have:=t4 i.b (.inr (.inl Ot));simpa using this)
 ·by_cases q:(A5 i.op).c=0
  ·rw[if_pos q]at hr;cases hr
  ·rw[if_neg q,if_neg q]at hr;simp at hr;subst hr;rw[Int.toNat_natCast];exact key i.c (by have:=t4 i.c (.inr (.inr Ot));simpa using this)
theorem OE{c:Cd}{L:List Af}{s:RW}{x x':Wk}{i:Af}(hi:CE c L s x x')(hc:WH c s)(hw:Ab i=true->Bj c.list (A3 s i)=true)(hh:AQ c s (A3 s i)=none):WH c (AF c s (A3 s i)):=by
 have hop:(A3 s i).op=i.op:=rfl;have hs':Ab (A3 s i)=Ab i:=rfl;have hat:II c s.left (A3 s i):=by
  refine⟨fun o e=>?_,fun q hm=>?_⟩
  ·have hs:Ab i=true:=by unfold Ab;rw[show i.op=3 from o];decide
   unfold AQ at hh;rw[if_pos (hw hs),if_pos o,if_pos e]at hh;cases hh
  ·have hm':El c (A3 s i)∈s.reck:=by
    have:=congrArg Prod.fst hc.abv;simp only at this;rw[this];exact hm
   unfold AQ at hh;rw[if_pos (hw q.2),if_neg q.1.2]at hh;have:=(hi.reck _).2 hm';rw[hh]at this;cases this
 refine⟨?_,by rw[(Cv c s _).1];exact MU hc.clean hat,fun k g hk=>?_⟩
 rotate_left 1
 ·unfold AF CU GH at hk;split at hk
  ·exact hc.held k g hk
  ·split at hk
   ·simp only at hk;split at hk
    ·cases hk
    ·exact hc.held k g hk
   ·split at hk
    ·rename_i q;simp only at hk;split at hk
     ·obtain rfl:=Option.some.inj hk;exact(AJ q.2).2.1
     ·exact hc.held k g hk
    ·exact hc.held k g hk
 rw[(Cv c s _).1,Kj,←hc.abv];unfold AF Rp;simp only;by_cases o4:(A3 s i).op=34
 ·rw[if_pos o4,if_pos o4]
 ·rw[if_neg o4,if_neg o4];by_cases o5:(A3 s i).op=35
  ·rw[if_pos o5,if_pos o5];rfl
  ·rw[if_neg o5,if_neg o5];by_cases q:((A3 s i).op≠32/\(A3 s i).op≠3)/\Ab (A3 s i)=true
   ·rw[if_pos ⟨q.1,hw q.2⟩,if_pos q]
   ·rw[if_neg (fun e=>q ⟨e.1,(AJ e.2).1⟩),if_neg q]
theorem Hq(c:Cd)(hsg:B4 c.list):∀ (R L:List Af) (s:RW) (x x':Wk),c.list=L++R->CE c L s x x'->(∀r,s.ins r=r\/Aq c.list (s.ins r)=true)->WH c s->AK c x R=true->WH c (R.foldl (AU c) s)
 |[],L,s,x,x',hl,hi,hst,hc,ht=>hc
 |i::R,L,s,x,x',hl,hi,hst,hc,ht=>by
  have ht':Ar c x i=true/\AK c (Ag x i) R=true:=by unfold AK at ht;simpa using ht
  have hl':c.list=(L++[i])++R:=by rw[hl];simp
  rw[List.foldl_cons];cases hh:AQ c s (A3 s i)with
  |some g=>
   have htk:AU c s i={s with ins:=fun k=>if k=i.d.toNat then g else s.ins k}:=by unfold AU;rw[hh]
   rw[htk];refine Hq c hsg R (L++[i]) _ (Ag x i) x' hl' (G1 hi hl ht'.1 hh) (fun r=>?_) ⟨hc.abv,hc.clean,hc.held⟩ ht'.2;simp only;split
   ·obtain⟨g1,g2,g3⟩:=Ni hi ht'.1 hh;refine .inr ?_;have hw:=Dj hh;have hh2:=hh;unfold AQ at hh2;rw[if_pos hw]at hh2;by_cases h3:(A3 s i).op=3
    ·rw[if_pos h3]at hh2;split at hh2
     ·simp only[Option.some.injEq]at hh2;rw[←hh2];have ha:(A5 i.op).a≠0:=by rw[show i.op=3 from h3];decide
      exact(AJ hw).2.2 _ (by unfold Ac;rw[show(A3 s i).op=i.op from rfl,if_neg ha];simp)
     ·cases hh2
    ·rw[if_neg h3]at hh2;exact hc.held _ _ hh2
   ·exact hst r
  |none=>
   have htk:AU c s i=AF c s (A3 s i):=by unfold AU;rw[hh]
   rw[htk];refine Hq c hsg R (L++[i]) _ (Ag x i) (Ag x' (A3 s i)) hl' (EZ hi hl ht'.1 hh) (fun r=>?_) (OE hi hc (Mr hsg hi hl hst ht'.1) hh) ht'.2;rw[(Cv c s _).2];exact hst r
theorem NC{c:Cd}(h:(Az c).1=0)(hsg:B4 c.list):Gr c (BA c):=by
 obtain⟨h1,h2,h3⟩:=DT.1 h;exact(Hq c hsg c.list [] BJ ⟨[],[]⟩ ⟨[],[]⟩ rfl (CE.start c) (fun r=>.inl rfl) ⟨rfl,OD c,fun k g hk=>(by cases hk)⟩ h2).clean
theorem Qo(c:Cd):∀ (R:List Af) (s:RW),List.Sublist (GI (R.foldl (AU c) s).left) (GI s.left++GI R)
 |[],s=>by simp[GI]
 |i::R,s=>by
  rw[List.foldl_cons];refine(Qo c R (AU c s i)).trans ?_;have e:GI (i::R)=GI [i]++GI R:=Cn [i] R;rw[e,←List.append_assoc];refine List.Sublist.append ?_ (List.Sublist.refl _);unfold AU;split
  ·exact List.sublist_append_left _ _
  ·have e2:GI [A3 s i]=GI [i]:=by
    unfold GI;simp only[List.filter_cons,List.filter_nil,show Ab (A3 s i)=Ab i from rfl];split<;>rfl
   rw[(Cv c s _).1,Cn,e2];exact List.Sublist.refl _
theorem Mt{c:Cd}(hsg:B4 c.list):B4 (BA c):=by
 have:=Qo c c.list BJ;unfold B4 BA;exact List.Sublist.nodup (by simpa[BJ,GI]using this) hsg
theorem Tx(c:Cd):∀ (l:List Af) (a:List Rk×List Nat),(∀k∈a.1,k.by_.op≠32)->∀k∈(l.foldl (Rp c) a).1,k.by_.op≠32
 |[],a,h=>h
 |i::l,a,h=>by
  rw[List.foldl_cons];refine Tx c l _ ?_;unfold Rp;split
  ·exact h
  ·split
   ·exact fun k hk=>h k (List.mem_of_mem_take hk)
   ·split
    ·rename_i q;intro k hk;rcases List.mem_append.1 hk with hk|hk
     ·exact h k hk
     ·simp at hk;subst hk;exact q.1.1
    ·exact h
theorem LG(d:Cd)(hcl:Gr d d.list)(hw:∀i∈d.list,Ab i=true->Bj d.list i=true)(hp:∀i∈d.list,((A5 i.op).a≠0->0<=i.a)/\((A5 i.op).b≠0->0<=i.b)/\((A5 i.op).c≠0->0<=i.c)):
 ∀ (R L:List Af) (s:RW),d.list=L++R->s.ins=id->s.left=L->(s.reck,s.opn)=Ro d L->(∀k,(s.hold k).isSome=true->k∈s.reck)->(R.foldl (AU d) s).left=d.list
 |[],L,s,hl,hi,hL,ha,hk=>by rw[hl,List.append_nil];exact hL
 |i::R,L,s,hl,hi,hL,ha,hk=>by
  have hil:i∈d.list:=by rw[hl];simp
  have hr:A3 s i=i:=by
   obtain⟨p1,p2,p3⟩:=hp i hil;unfold A3;rw[hi];obtain⟨o,d',a,b,e,n,z⟩:=i;simp only[id]at p1 p2 p3 ⊢;have e1:(if(A5 o).a=0 then a else(a.toNat:Int))=a:=by
    split
    ·rfl
    ·rename_i q;exact Int.toNat_of_nonneg (p1 q)
   have e2:(if(A5 o).b=0 then b else(b.toNat:Int))=b:=by
    split
    ·rfl
    ·rename_i q;exact Int.toNat_of_nonneg (p2 q)
   have e3:(if(A5 o).c=0 then e else(e.toNat:Int))=e:=by
    split
    ·rfl
    ·rename_i q;exact Int.toNat_of_nonneg (p3 q)
   rw[e1,e2,e3]
  have hci:II d L i:=by
   have h9:=hcl L.length (by rw[hl];simp);have e1:d.list.take L.length=L:=by rw[hl];simp
   have e2:d.list[L.length]'(by rw[hl];simp)=i:=by simp[hl]
   rw[e1,e2]at h9;exact h9
  have hno:AQ d s (A3 s i)=none:=by
   rw[hr];unfold AQ;split
   ·rename_i hwk;have hs:=(AJ hwk).1;split
    ·rename_i o3;rw[if_neg (hci.1 o3)]
    ·rename_i o3;cases hg:s.hold (El d i)with
     |none=>rfl
     |some g=>
      exfalso;have hm:=hk (El d i) (by rw[hg];rfl);have e:=congrArg Prod.fst ha;simp only at e;rw[e]at hm;by_cases o32:i.op=32
      ·exact Tx d L ([],[]) (fun k hk=>(by cases hk)) _ hm o32
      ·exact hci.2 ⟨⟨o32,o3⟩,hs⟩ hm
   ·rfl
  have htk:AU d s i=AF d s i:=by unfold AU;rw[hno,hr]
  rw[List.foldl_cons,htk];obtain⟨q1,q2⟩:=Cv d s i;refine LG d hcl hw hp R (L++[i]) _ (by rw[hl];simp) (by rw[q2];exact hi) (by rw[q1,hL]) ?_ ?_
  ·rw[Kj,←ha];unfold AF Rp;simp only;by_cases o4:i.op=34
   ·rw[if_pos o4,if_pos o4]
   ·rw[if_neg o4,if_neg o4];by_cases o5:i.op=35
    ·rw[if_pos o5,if_pos o5];rfl
    ·rw[if_neg o5,if_neg o5];by_cases q:(i.op≠32/\i.op≠3)/\Ab i=true
     ·rw[if_pos ⟨q.1,hw i hil q.2⟩,if_pos q]
     ·rw[if_neg (fun e=>q ⟨e.1,(AJ e.2).1⟩),if_neg q]
  ·intro k;unfold AF CU GH;split
   ·exact hk k
   ·split
    ·simp only;split
     ·intro h;cases h
     ·rename_i hnd;intro h;have hm:=hk k h;rw[←List.take_append_drop (s.opn.getLastD 0) s.reck,List.mem_append]at hm;exact hm.resolve_right hnd
    ·split
     ·simp only;split
      ·rename_i e;intro _;simp[e]
      ·intro h;exact List.mem_append.2 (.inl (hk k h))
     ·exact hk k
theorem R9:∀ (l:List Af) (s:Wk),∀r∈(DF s l).set,r∈s.set\/∃j∈l,Ab j=true/\j.d.toNat=r
 |[],s,r,hr=>.inl hr
 |i::l,s,r,hr=>by
  have hr':r∈(DF (Ag s i) l).set:=hr;rcases R9 l (Ag s i) r hr' with h|⟨j,hj,h⟩
  ·have h2:r∈s.set\/(Ab i=true/\i.d.toNat=r):=by
    unfold Ag De at h;have h3:r∈(BH s i).set\/(Ab i=true/\i.d.toNat=r):=by
     unfold CP at h;split at h
     ·rename_i q;rcases List.mem_append.1 h with h|h
      ·exact .inl h
      ·simp at h;exact .inr ⟨by unfold Ab;simpa using q.1,h.symm⟩
     ·exact .inl h
    rcases h3 with h3|h3
    ·left;unfold BH at h3;split at h3
     ·exact h3
     ·split at h3
      ·unfold AH at h3;split at h3
       ·split at h3
        ·exact h3
        ·exact List.mem_of_mem_take h3
       ·exact h3
      ·exact h3
    ·exact .inr h3
   rcases h2 with h2|h2
   ·exact .inl h2
   ·exact .inr ⟨i,sM,h2⟩
  ·exact .inr ⟨j,List.mem_cons_of_mem i hj,h⟩
theorem JS{c:Cd}{l:List Af}(h:AK c ⟨[],[]⟩ l=true){i:Af}(hi:i∈l):∃L R,l=L++i::R/\Ar c (DF ⟨[],[]⟩ L) i=true:=by
 obtain⟨L,R,rfl⟩:=List.append_of_mem hi;rw[Dv]at h;simp only[Bool.and_eq_true]at h;refine⟨L,R,rfl,?_⟩;have h2:=h.2;unfold AK at h2;simp only[Bool.and_eq_true]at h2;exact h2.1
theorem NA{c:Cd}(h:(Az c).1=0)(hsg:B4 c.list):BA (A4 c)=BA c:=by
 have hok:=H4 h;obtain⟨h1,h2,h3⟩:=DT.1 hok;have hs2:B4 (A4 c).list:=Mt hsg;have hcl:Gr (A4 c) (A4 c).list:=NC h hsg;have hat:=fun(i:Af) (hi:i∈(A4 c).list)=>JS h2 hi;refine LG (A4 c) hcl (fun i hi hs=>?_) (fun i hi=>?_) (A4 c).list [] BJ rfl rfl rfl rfl (fun k hk=>by cases hk)
 ·obtain⟨L,R,hl,t⟩:=hat i hi;obtain⟨_,t2,_,t4⟩:=Ai t;unfold CZ at t4;rw[List.all_eq_true]at t4;unfold Bj;simp only[Bool.and_eq_true,List.all_eq_true];refine⟨hs,Du hs2 hi hs,fun r hr=>?_⟩;have hm:=t4 r hr;simp only[decide_eq_true_eq]at hm;rcases R9 L ⟨[],[]⟩ r.toNat hm with q|⟨j,hj,k1,k2⟩
  ·cases q
  ·rw[←k2];exact Du hs2 (by rw[hl];exact List.mem_append.2 (.inl hj)) k1
 ·obtain⟨L,R,hl,t⟩:=hat i hi;obtain⟨_,t2,_,_⟩:=Ai t;exact⟨fun q=>(Ad (BD t2) q).1,fun q=>(Ad (Do t2) q).1,fun q=>(Ad (Dp t2) q).1⟩
end Go.Proofs.YtcdpmgldkibfiaaGreat
