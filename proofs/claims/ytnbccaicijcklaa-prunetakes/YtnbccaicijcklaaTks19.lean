import Derived.Test.YtnbccaicijcklaaTks13
import Derived.Test.YtnbccaicijcklaaTks16
import Derived.Test.YtnbccaicijcklaaTks8
import Derived.Lib.LazyBuf
import Derived.Test.YtnbccaicijcklaaTks15
import Derived.Deep.DeepCutAuto
import Derived.Test.YtnbccaicijcklaaTks11
import Derived.Test.YtnbccaicijcklaaTks1
namespace Go.Proofs.Ytnbccaicijcklaa
open Go.RowKit Go.Proofs.Try
set_option linter.all false
set_option maxRecDepth 100000
set_option maxHeartbeats 16000000
section
variable {c : Cd} {G P : List (List Int)} {f f' : Fr} {i i' : Aa}
end

section
variable {c c' : Cd} {G P : List (List Int)} {f f' : Fr} {i i' : Aa}
end
theorem LY{α:Type}{f:α->List Value}{k bytes:Nat}{t e:TypeId}{z:Value}{i:TypeInfo}(hk:0<k)(hf:∀x,(f x).length=k)(h1:∀x,∀u∈f x,u.oneCell'=true)(ht:prog.underlying t=some (.slice e))(hi:prog.info? e=some i)(hz:i.zero=some z)(hsize:i.size=k)(hby:i.bytes=bytes)(hzs:z.cells.size=k)
 {l:List α} {p:Option Addr} {d:Nat} {w:World} (h:AR k f w (.slice p l.length d) l) (hl:l.length<=maxLen) (hb:l.length*bytes<=140737488355328) (ty:TypeId):
 ∃p' c' w',(Builtin.append_ #[t,t] ty #[.slice (some ⟨w.heap.size,0,none⟩) 0 0,.slice p l.length d]).run prog (w.alloc (.cells #[] e))=.ok (.slice p' l.length c') w'/\Below w.heap.size w w'/\Pn (fun b=>b<w.heap.size) k f w' (.slice p' l.length c') l/\w'.ownsRow w.heap.size e k (.slice p' l.length c') l.length (Am f l):=by
 have hown0:(w.alloc (.cells #[] e)).ownsRow w.heap.size e k (.slice (some ⟨w.heap.size,0,none⟩) 0 0) 0 []:=⟨sM,.inr ⟨w.heap.size,0,#[],rfl,Nat.le_refl _,heap_alloc_new w _,Nat.le_refl _,mL,sM,sM⟩⟩
 by_cases h0:l=[]
 ·subst h0;refine⟨some ⟨w.heap.size,0,none⟩,0,w.alloc (.cells #[] e),?_,A0 _ _,⟨_,_,rfl,.inl rfl⟩,by simpa[Am]using hown0⟩;exact Sf
 ·have h':=h.below (A0 w (.cells #[] e));obtain⟨p',c',hv,h2⟩:=h';simp only[Value.slice.injEq]at hv;obtain⟨rfl,-,rfl⟩:=hv;obtain⟨b,o,rfl,h3⟩:=h2.resolve_left h0;clear h2;have hpos:0<l.length:=List.length_pos_iff.2 h0;obtain⟨g,cap,w',hr,hown,hg,hat,hlt⟩:=run_append_lies (P:=prog) (w.alloc (.cells #[] e)) t ty w.heap.size e i z k bytes ht hi hz hsize hby hzs hk (.slice (some ⟨w.heap.size,0,none⟩) 0 0) 0 [] hown0 ⟨b,o,none⟩ l.length d (Am f l) (CS hf l) (GG hk hf h3) SY hpos oM (by rw[Nat.zero_add];exact hb) sM _ rfl;rw[Nat.zero_add]at hr hown;rw[List.nil_append]at hown;have hgb:∀g',(Value.slice (some ⟨g,0,none⟩) l.length cap).ownBlock=some g'->w.heap.size<=g':=fun g' e=>(hown.lt g' e).1;refine⟨_,cap,w',hr,⟨hg.os,hg.tape,hg.output,Nat.le_trans sM hg.size,fun j hj=>(hg.block j sO (by show some j≠some w.heap.size;simp;omega)).trans ((A0 w (.cells #[] e)).block j hj)⟩,?_,hown⟩;obtain⟨q,cc,hq,hrow⟩:=BA hf hown;simp only[Value.slice.injEq]at hq;obtain⟨rfl,-,rfl⟩:=hq;refine⟨_,_,rfl,hrow.imp id fun⟨b',o',hp,hh⟩=>⟨b',o',hp,?_,?_,hh⟩⟩
  ·simp only[Option.some.injEq,Addr.mk.injEq]at hp;have:=hgb g rfl;omega
  ·simp only[Option.some.injEq,Addr.mk.injEq]at hp;have:=(hown.lt g rfl).2;omega
theorem L6(v:Value)(l:List Bt)(w:World)(h:AR 3 AP w v l)(hl:l.length<=1000000):
 Calls prog 16 #[v] w fun e w'=>∃p c,e=.returned (.slice p l.length c)/\Pn (fun b=>b<w.heap.size) 3 AP w' (.slice p l.length c) l/\w'.ownsRow w.heap.size 42 3 (.slice p l.length c) l.length (Am AP l)/\Below w.heap.size w w':=by
 obtain⟨i0,hi0,hz0,hz1,hz2⟩:=info_parts FK;have hv:=h;obtain⟨p,c,rfl,hh⟩:=h;cases p with
 |none=>
  have hn:l=[]:=by
   rcases hh with e|⟨b,o,e,_⟩
   ·exact e
   ·cases e
  subst hn;clear hh hv;have heq:∀ (w:World) (n:Nat),(binOp .eql 22 (.slice none n c) (.slice none 0 0)).run prog w=.ok (.bool true) w:=fun w n=>Go.run_eql_slice_nil w _ _ none n c underlying22;go_enter func16,ntmps16;go_wp2;go_ret;exact⟨none,0,rfl,⟨_,_,rfl,.inl rfl⟩,World.ownsRow_nil _ _ _ _,C9 _⟩
 |some ad=>
  obtain⟨p',c',w',hr,hb,hrow,hown⟩:=LY dE D4 Ie underlying22 hi0 hz0 hz1 hz2 rfl hv mL oM 22;have HF:Hid (Pn (fun b=>b<w.heap.size) 3 AP w' (.slice p' l.length c') l/\w'.ownsRow w.heap.size 42 3 (.slice p' l.length c') l.length (Am AP l)/\Below w.heap.size w w'):=⟨hrow,hown,hb⟩
  obtain⟨n,hn⟩:∃n,l.length=n:=⟨_,rfl⟩
  rw[hn]at hr HF ⊢;clear hh hv hb hrow hown hn;have heq:∀ (w:World),(binOp .eql 22 (.slice (some ad) n c) (.slice none 0 0)).run prog w=.ok (.bool false) w:=fun w=>Go.run_eql_slice_nil w _ _ (some ad) n c underlying22;go_enter func16,ntmps16;go_wp2_with(at_builtin;refine Ay rfl _ _ 22 rfl _ _ _ rfl rfl hr ?_);go_ret;exact⟨p',c',rfl,HF.out⟩
section
variable {c c' : Cd} {K U W : Nat -> Bool} {F : Aa -> Aa} {rho sig : Nat -> Nat} {G P : List (List Int)} {f f' : Fr}
theorem KH{x:Wk}{i:Aa}(t:AS c x i=true)(o:i.op=32\/i.op=33):0<=i.n/\i.n<(c.slots.length:Int):=by
 obtain⟨t1,t2,t3,t4⟩:=AG t;unfold AW at t2;simp only[Bool.and_eq_true]at t2;have h:=t2.2.2.2.2;have hn:(A4 i.op).n=10:=by rcases o with e|e<;>(rw[e];decide)
 unfold BD at h;rw[if_neg (by rw[hn];decide)]at h;simp only[Bool.and_eq_true]at h;have h2:=h.2;unfold Fl at h2;rw[if_neg (by rw[hn];decide),if_neg (by rw[hn];decide),if_pos hn]at h2;simp only[Bool.and_eq_true]at h2;exact BK.1 h2.1
end

section
variable {c c' : Cd} {K U W : Nat -> Bool} {F : Aa -> Aa} {rho sig : Nat -> Nat} {G P : List (List Int)} {f f' : Fr}
end
theorem GU{c:Cd}(h:(Ah c).1=0):Good c/\AQ c ⟨[],[]⟩ c.list=true:=by
 obtain⟨h1,h2,_⟩:=B8.1 h;refine⟨?_,h2⟩;unfold BR at h1;by_cases e1:AU c.sign=0
 ·rw[if_neg (by simp[e1])]at h1;by_cases e2:16384<c.regs.length\/32768<c.list.length
  ·rw[if_pos e2]at h1;cases h1
  ·rw[if_neg e2]at h1;by_cases e3:4096<c.slots.length
   ·rw[if_pos e3]at h1;cases h1
   ·rw[if_neg e3]at h1;by_cases e4:(Ap c&&Bn c)=true
    ·simp only[Bool.and_eq_true]at e4;have e5:¬c.sign.length>64/\c.sign.all Bl=true:=by
      unfold AU at e1;by_cases q1:c.sign.length>64
      ·rw[if_pos q1]at e1;cases e1
      ·rw[if_neg q1]at e1;refine⟨q1,?_⟩;cases q2:c.sign.all Bl with
       |true=>rfl
       |false=>rw[if_pos q2]at e1;cases e1
     have hm:∀p∈c.sign,Bl p=true:=List.all_eq_true.1 e5.2;refine⟨fun p hp=>?_,hm,List.all_eq_true.1 e4.1,List.all_eq_true.1 e4.2,oM,oM,oM,oM⟩;have:=hm p hp;unfold Bl at this;simp only[Bool.and_eq_true,decide_eq_true_eq]at this;omega
    ·rw[if_neg e4]at h1;cases h1
 ·rw[if_pos e1]at h1;exact absurd h1 e1
def BV(c:Array Value)(i:Nat):Value:=(c[i]?).getD (.int .i64 0)
theorem AN(w:World)(c:Array Value)(t:TypeId):(w.alloc (.cells c t)).rowIs w.heap.size t c.size (BV c):=World.rowIs_alloc w c t _ (fun i hi=>by unfold BV;simp[hi])
inductive Nd(l:List Aa):Nat->Prop where
 |out {k:Nat} (hk:k<l.length) (h:l[k].op=31):Nd l k
 |set {k j:Nat} (hk:k<l.length) (hj:j<l.length) (n:Nd l k) (r:Int) (hr:r∈A9 l[k] (A4 l[k].op)) (hs:Ad l[j]=true) (e:l[j].d.toNat=r.toNat):Nd l j
 |store {k j:Nat} (hk:k<l.length) (hj:j<l.length) (n:Nd l k) (h1:l[k].op=32) (h2:l[j].op=33) (e:l[j].n=l[k].n):Nd l j
 |beg {k b:Nat} (hk:k<l.length) (n:Nd l k) (hb:b∈(if l[k].op=35\/l[k].op=37 then(At (l.take k)).tail else At (l.take k))):Nd l b
 |fin {k b:Nat} (hk:k<l.length) (n:Nd l b) (hf:l[k].op=35\/l[k].op=37) (hb:(At (l.take k)).head?=some b):Nd l k
 |begE {k b:Nat} (hk:k<l.length) (n:Nd l k) (hf:l[k].op=35\/l[k].op=37) (hb:(At (l.take k)).head?=some b):Nd l b
theorem Dm(l:List Aa):∀k,k<=l.length->∀b∈At (l.take k),∃hb:b<l.length,b<k/\(l[b].op=34\/l[b].op=36):=by
 intro k;induction k with
 |zero=>intro _ b hb;cases hb
 |succ k ih=>
  intro hk b hb;have hkl:k<l.length:=oM;rw[List.take_succ_eq_append_getElem hkl,Fa,show(l.take k).length=k by rw[List.length_take];omega]at hb;have old:∀b∈At (l.take k),∃hb:b<l.length,b<k+1/\(l[b].op=34\/l[b].op=36):=fun b hb=>by
   obtain⟨h1,h2,h3⟩:=ih oM b hb;exact⟨h1,oM,h3⟩
  by_cases h1:l[k].op=34\/l[k].op=36
  ·rw[if_pos h1]at hb;rcases List.mem_cons.1 hb with e|e
   ·subst e;exact⟨hkl,oM,h1⟩
   ·exact old b e
  ·rw[if_neg h1]at hb;split at hb
   ·exact old b (List.mem_of_mem_tail hb)
   ·exact old b hb
theorem JD{i:Aa}(h:i.op=34\/i.op=36):Ad i=false/\i.op≠32/\i.op≠33:=by
 refine⟨?_,oM,oM⟩;unfold Ad;rcases h with e|e<;>(rw[e];decide)
theorem Dd{l:List Aa}{k b:Nat}(hk:k<l.length)(hb:b∈(if l[k].op=35\/l[k].op=37 then(At (l.take k)).tail else At (l.take k))):b∈At (l.take k):=by
 split at hb
 ·exact List.mem_of_mem_tail hb
 ·exact hb
theorem Nd.setter{l:List Aa}{j:Nat}(h:Nd l j)(hj:j<l.length)(hs:Ad l[j]=true):∀k (hk:k<l.length),Ad l[k]=true->l[k].d.toNat=l[j].d.toNat->Nd l k:=by
 cases h with
 |out hk o=>unfold Ad at hs;rw[o]at hs;exact absurd hs dE
 |set hk0 hj0 n r hr _ e=>exact fun k hk hsk ek=>.set hk0 hk n r hr hsk (ek.trans e)
 |store _ _ _ _ o _=>unfold Ad at hs;rw[o]at hs;exact absurd hs dE
 |beg hk n hb=>
  obtain⟨h1,-,h3⟩:=Dm l _ oM j (Dd hk hb);rw[(JD h3).1]at hs;cases hs
 |fin hk n hf hb=>unfold Ad at hs;rcases hf with e|e<;>(rw[e]at hs;exact absurd hs dE)
 |begE hk n hf hb=>
  obtain⟨h1,-,h3⟩:=Dm l _ oM j (List.mem_of_mem_head? hb);rw[(JD h3).1]at hs;cases hs
noncomputable def ndK (l:List Aa) (k:Nat):Bool:=@decide (Nd l k) (Classical.propDecidable _)
theorem B0{l:List Aa}{k:Nat}:ndK l k=true↔Nd l k:=by unfold ndK;simp
theorem DX{l:List Aa}{k:Nat}:ndK l k=false↔¬Nd l k:=by unfold ndK;simp
def RJ(l:List Aa)(r:Nat):Prop:=∃k,∃hk:k<l.length,Nd l k/\Ad l[k]=true/\l[k].d.toNat=r
def RK(l:List Aa)(n:Nat):Prop:=∃k,∃hk:k<l.length,Nd l k/\(l[k].op=32\/l[k].op=33)/\l[k].n.toNat=n
noncomputable def usR (l:List Aa) (r:Nat):Bool:=@decide (RJ l r) (Classical.propDecidable _)
noncomputable def usS (l:List Aa) (r:Nat):Bool:=@decide (RK l r) (Classical.propDecidable _)
theorem Bq{l:List Aa}{r:Nat}:usR l r=true↔RJ l r:=by unfold usR;simp
theorem Dp{l:List Aa}{r:Nat}:usS l r=true↔RK l r:=by unfold usS;simp
def Ak(p:Nat->Bool)(r:Nat):Nat:=((List.range r).filter p).length
def AO{α:Type}(p:Nat->Bool)(l:List α):List α:=((List.range l.length).filter p).filterMap fun r=>l[r]?
theorem Ep(p:Nat->Bool):∀n r,r<n->p r=true->((List.range n).filter p)[Ak p r]? =some r:=by
 intro n;induction n with
 |zero=>intro r h;omega
 |succ n ih=>
  intro r hr hp;rw[List.range_succ,List.filter_append];by_cases e:r=n
  ·subst e;unfold Ak;rw[List.getElem?_append_right (Nat.le_refl _)];simp[hp]
  ·have h:=ih r oM hp;rw[List.getElem?_append_left]
   ·exact h
   ·exact(List.getElem?_eq_some_iff.1 h).1
theorem Oa{p:Nat->Bool}{r s:Nat}(hr:p r=true)(hs:p s=true)(e:Ak p r=Ak p s):r=s:=by
 have h1:=Ep p (r+s+1) r oM hr;have h2:=Ep p (r+s+1) s oM hs;rw[e,h2]at h1;simpa using h1.symm
theorem G2{α:Type}{l:List α}:∀ (m:List Nat),(∀r∈m,r<l.length)->(m.filterMap fun r=>l[r]?).length=m.length/\∀t:Nat,(m.filterMap fun r=>l[r]?)[t]? =(m[t]?).bind fun(r:Nat)=>l[r]?
 |[],_=>⟨rfl,fun t=>by simp⟩
 |a::m,h=>by
  obtain⟨h1,h2⟩:=G2 m (fun r hr=>h r (by simp[hr]));rw[List.filterMap_cons,List.getElem?_eq_getElem (h a sM)];refine⟨by simp[h1],fun t=>?_⟩;cases t with
  |zero=>simp[h a sM]
  |succ t=>simpa using h2 t
theorem Ih{α:Type}(p:Nat->Bool)(l:List α):∀r∈(List.range l.length).filter p,r<l.length:=fun r hr=>by have:=(List.mem_filter.1 hr).1;simpa using this
theorem G1{α:Type}(p:Nat->Bool)(l:List α):(AO p l).length=((List.range l.length).filter p).length:=(G2 _ (Ih p l)).1
theorem Hc{α:Type}{p:Nat->Bool}{l:List α}{r:Nat}(hr:r<l.length)(hp:p r=true):(AO p l)[Ak p r]? =l[r]? :=by
 have h:=Ep p l.length r hr hp;have h2:=(G2 _ (Ih p l)).2 (Ak p r);rw[h]at h2;exact h2
theorem He{α:Type}(p:Nat->Bool)(l:List α):(AO p l).length<=l.length:=by
 rw[G1];have:=List.length_filter_le p (List.range l.length);simpa using this
theorem MA{α:Type}{p:Nat->Bool}{l:List α}{x:α}(h:x∈AO p l):x∈l:=by
 unfold AO at h;obtain⟨r,-,hr⟩:=List.mem_filterMap.1 h;exact List.mem_of_getElem? hr
def Cz(rho sig:Nat->Nat)(i:Aa):Aa:=
 {i with d:=if(A4 i.op).d=0 then i.d else((rho i.d.toNat:Nat):Int),a:=if(A4 i.op).a=0 then i.a else((rho i.a.toNat:Nat):Int),b:=if(A4 i.op).b=0 then i.b else((rho i.b.toNat:Nat):Int),c:=if(A4 i.op).c=0 then i.c else((rho i.c.toNat:Nat):Int),n:=if i.op=32\/i.op=33 then((sig i.n.toNat:Nat):Int)else i.n}
noncomputable def pruneC (c:Cd):Cd:=⟨c.sign,AO (usR c.list) c.regs,AO (usS c.list) c.slots,AH (ndK c.list) (Cz (Ak (usR c.list)) (Ak (usS c.list))) c.list c.list.length⟩


def AI(l:List Aa)(b k:Nat):Prop:=∃hk:k<l.length,(l[k].op=35\/l[k].op=37)/\(At (l.take k)).head?=some b
def IE(l:List Aa)(k:Nat):List Nat:=if(l[k]?.map fun i=>decide (i.op=35\/i.op=37))=some true then(At (l.take k)).tail else At (l.take k)
theorem D9{l:List Aa}{k:Nat}(hk:k<l.length):IE l k=if l[k].op=35\/l[k].op=37 then(At (l.take k)).tail else At (l.take k):=by
 unfold IE;rw[List.getElem?_eq_getElem hk];simp
theorem CO{l:List Aa}{j:Nat}(hj:j<l.length):At (l.take (j+1))=if l[j].op=34\/l[j].op=36 then j::At (l.take j)else if l[j].op=35\/l[j].op=37 then(At (l.take j)).tail else At (l.take j):=by
 rw[List.take_succ_eq_append_getElem hj,Fa,show(l.take j).length=j by rw[List.length_take];omega]
theorem D7{l:List Aa}:∀k,k<=l.length->∀b S,At (l.take k)=b::S->b<k/\At (l.take b)=S:=by
 intro k;induction k using Nat.strongRecOn with
 |ind k ih=>
  intro hk b S hs;cases k with
  |zero=>cases hs
  |succ k=>
   have hkl:k<l.length:=oM;rw[CO hkl]at hs;by_cases h1:l[k].op=34\/l[k].op=36
   ·rw[if_pos h1]at hs;simp only[List.cons.injEq]at hs;obtain⟨rfl,rfl⟩:=hs;exact⟨oM,rfl⟩
   ·rw[if_neg h1]at hs;by_cases h2:l[k].op=35\/l[k].op=37
    ·rw[if_pos h2]at hs;cases hq:At (l.take k)with
     |nil=>rw[hq]at hs;cases hs
     |cons b0 S0=>
      rw[hq]at hs;simp only[List.tail_cons]at hs;subst hs;obtain⟨g1,g2⟩:=ih k oM oM b0 _ hq;obtain⟨g3,g4⟩:=ih b0 oM oM b S g2;exact⟨oM,g4⟩
    ·rw[if_neg h2]at hs;obtain⟨g1,g2⟩:=ih k oM oM b S hs;exact⟨oM,g2⟩
theorem Gc{l:List Aa}{k:Nat}(hk:k<=l.length){b:Nat}(hb:b∈At (l.take k)):b<k:=by
 obtain⟨-,h,-⟩:=Dm l k hk b hb;exact h
theorem NP{l:List Aa}{k:Nat}(hk:k<=l.length){b:Nat}{S:List Nat}(hs:At (l.take k)=b::S):b∉S:=fun hm=>by
 obtain⟨g1,g2⟩:=D7 k hk b S hs;have:=Gc (l:=l) (k:=b) oM (by rw[g2];exact hm);omega
theorem CV{l:List Aa}{b k1 k2:Nat}(h1:AI l b k1)(h2:AI l b k2):k1=k2:=by
 have Cc:∀ {k1 k2:Nat},AI l b k1->AI l b k2->¬k1<k2:=fun{k1 k2} h1 h2 hlt=>by
  obtain⟨hk1,f1,e1⟩:=h1;obtain⟨hk2,f2,e2⟩:=h2;have hb1:b<k1:=Gc (Nat.le_of_lt hk1) (List.mem_of_mem_head? e1);have gone:∀m,k1+1<=m->m<=l.length->b∉At (l.take m):=by
   intro m;induction m with
   |zero=>intro h;omega
   |succ m ih=>
    intro hm hml;have hmm:m<l.length:=oM;rw[CO hmm];by_cases e:m=k1
    ·subst e;rw[if_neg oM,if_pos f1];cases hs:At (l.take m)with
     |nil=>simp
     |cons b0 S=>
      rw[hs]at e1;simp only[List.head?_cons,Option.some.injEq]at e1;subst e1;exact NP (Nat.le_of_lt hmm) hs
    ·have h:=ih oM oM;split
     ·intro q;rcases List.mem_cons.1 q with w|w
      ·omega
      ·exact h w
     ·split
      ·exact fun q=>h (List.mem_of_mem_tail q)
      ·exact h
  exact gone k2 oM oM (List.mem_of_mem_head? e2)
 have a:=Cc h1 h2;have b':=Cc h2 h1;omega
structure Sr where
 nd:Nat->Bool
 todo:List Nat
 sr:Nat->Bool
 ss:Nat->Bool
def need1(q:Sr)(p:Nat):Sr:=if q.nd p=true then q else{q with nd:=fun x=>if x=p then true else q.nd x,todo:=q.todo++[p]}
def needL(q:Sr)(ps:List Nat):Sr:=ps.foldl need1 q
def Gp(l:List Aa)(q:Sr)(p:Nat):Prop:=∀hp:p<l.length,(∀r∈A9 l[p] (A4 l[p].op),q.sr r.toNat=true)/\(l[p].op=32->q.ss l[p].n.toNat=true)/\∀b,(IE l p).head?=some b->q.nd b=true
structure SI(l:List Aa)(q:Sr)(X:List Nat):Prop where
 snd:∀p,q.nd p=true->p<l.length/\Nd l p
 tod:∀p∈q.todo,q.nd p=true
 don:∀p,q.nd p=true->p∉q.todo->p∉X->Gp l q p
 sr:∀r,q.sr r=true->∀j (hj:j<l.length),Ad l[j]=true->l[j].d.toNat=r->q.nd j=true
 ss:∀n,q.ss n=true->∀j (hj:j<l.length),l[j].op=33->l[j].n.toNat=n->q.nd j=true
section
variable {l : List Aa} {q : Sr} {X : List Nat}
theorem Cv(q:Sr)(p x:Nat):(need1 q p).nd x=true↔q.nd x=true\/x=p:=by
 unfold need1;split
 ·rename_i h;exact⟨.inl,fun w=>w.elim id (fun e=>e▸h)⟩
 ·simp only;by_cases e:x=p
  ·simp[e]
  ·simp[e]
theorem Fo(q:Sr)(p:Nat):(need1 q p).sr=q.sr/\(need1 q p).ss=q.ss:=by unfold need1;split<;>exact⟨rfl,rfl⟩
theorem Gp.mono{q q':Sr}{p:Nat}(h:Gp l q p)(h1:∀x,q.nd x=true->q'.nd x=true)(h2:∀x,q.sr x=true->q'.sr x=true)(h3:∀x,q.ss x=true->q'.ss x=true):Gp l q' p:=fun hp=>
 ⟨fun r hr=>h2 _ ((h hp).1 r hr),fun o=>h3 _ ((h hp).2.1 o),fun b hb=>h1 _ ((h hp).2.2 b hb)⟩
theorem SI.need1(h:SI l q X){p:Nat}(hp:p<l.length)(hn:Nd l p):SI l (need1 q p) X:=by
 obtain⟨k1,k2⟩:=Fo q p;have up:∀x,q.nd x=true->(Go.Proofs.Ytnbccaicijcklaa.need1 q p).nd x=true:=fun x hx=>(Cv q p x).2 (.inl hx);refine⟨fun x hx=>?_,fun x hx=>?_,fun x hx ht hX=>?_,fun r hr j hj hs e=>up _ (h.sr r (by rw[k1]at hr;exact hr) j hj hs e),fun n hr j hj hs e=>up _ (h.ss n (by rw[k2]at hr;exact hr) j hj hs e)⟩
 ·rcases(Cv q p x).1 hx with w|w
  ·exact h.snd x w
  ·rw[w];exact⟨hp,hn⟩
 ·unfold Go.Proofs.Ytnbccaicijcklaa.need1 at hx;split at hx
  ·exact up x (h.tod x hx)
  ·simp only at hx;rcases List.mem_append.1 hx with w|w
   ·exact up x (h.tod x w)
   ·simp only[List.mem_singleton]at w;exact(Cv q p x).2 (.inr w)
 ·have hx0:q.nd x=true/\x∉q.todo:=by
   unfold Go.Proofs.Ytnbccaicijcklaa.need1 at ht;split at ht
   ·rename_i w;rcases(Cv q p x).1 hx with e|e
    ·exact⟨e,ht⟩
    ·exact⟨e▸w,ht⟩
   ·simp only[List.mem_append,List.mem_singleton,not_or]at ht;rcases(Cv q p x).1 hx with e|e
    ·exact⟨e,ht.1⟩
    ·exact absurd e ht.2
  exact(h.don x hx0.1 hx0.2 hX).mono up (fun r hr=>by rw[k1];exact hr) (fun r hr=>by rw[k2];exact hr)
theorem EA:∀ (ps:List Nat) {q:Sr},SI l q X->(∀p∈ps,p<l.length/\Nd l p)->SI l (needL q ps) X
 |[],q,h,_=>h
 |p::ps,q,h,hp=>EA ps (h.need1 (hp p sM).1 (hp p sM).2) (fun x hx=>hp x (by simp[hx]))
theorem BT:∀ (ps:List Nat) (q:Sr) (x:Nat),(needL q ps).nd x=true↔q.nd x=true\/x∈ps
 |[],q,x=>by simp[needL]
 |p::ps,q,x=>by
  show(needL (need1 q p) ps).nd x=true↔_;rw[BT ps,Cv];simp only[List.mem_cons];exact Sw
theorem BQ:∀ (ps:List Nat) (q:Sr),(needL q ps).sr=q.sr/\(needL q ps).ss=q.ss
 |[],q=>⟨rfl,rfl⟩
 |p::ps,q=>by
  obtain⟨h1,h2⟩:=BQ ps (need1 q p);obtain⟨h3,h4⟩:=Fo q p;exact⟨h1.trans h3,h2.trans h4⟩
def CC(l:List Aa)(q:Sr):Prop:=∀b k,AI l b k->q.nd b=q.nd k
theorem Bp{b k:Nat}(h:AI l b k):∃hb:b<l.length,∃hk:k<l.length,(l[b].op=34\/l[b].op=36)/\(l[k].op=35\/l[k].op=37):=by
 obtain⟨hk,f,e⟩:=h;obtain⟨hb,-,o⟩:=Dm l k (Nat.le_of_lt hk) b (List.mem_of_mem_head? e);exact⟨hb,hk,o,f⟩
theorem CC.other(h:CC l q){ps:List Nat}(hp:∀p∈ps,∃hp:p<l.length,l[p].op<34):CC l (needL q ps):=fun b k hm=>by
 obtain⟨hb,hk,o1,o2⟩:=Bp hm;have e1:b∉ps:=fun w=>by obtain⟨_,o⟩:=hp b w;omega
 have e2:k∉ps:=fun w=>by obtain⟨_,o⟩:=hp k w;omega
 have e3:=h b k hm;rw[Bool.eq_iff_iff,BT,BT];simp only[e1,e2,or_false];rw[e3]
theorem CC.both(h:CC l q){b e:Nat}(hm:AI l b e):CC l (needL q [b,e]):=fun b' k' hm'=>by
 have e3:=h b' k' hm';rw[Bool.eq_iff_iff,BT,BT,e3];simp only[List.mem_cons,List.not_mem_nil,or_false];obtain⟨hb,hk,o1,o2⟩:=Bp hm;obtain⟨hb',hk',o1',o2'⟩:=Bp hm';have n1:b'≠e:=fun w=>by subst w;omega
 have n2:k'≠b:=fun w=>by subst w;omega
 have i1:b'=b↔k'=e:=by
  constructor
  ·intro w;subst w;exact CV hm' hm
  ·intro w;subst w;obtain⟨_,_,x1⟩:=hm;obtain⟨_,_,x2⟩:=hm';rw[x1]at x2;simpa using x2.symm
 constructor
 ·rintro(w|w|w)
  ·exact .inl w
  ·exact .inr (.inr (i1.1 w))
  ·exact absurd w n1
 ·rintro(w|w|w)
  ·exact .inl w
  ·exact absurd w n2
  ·exact .inr (.inl (i1.2 w))
theorem Jt(h:SI l q [])(ht:q.todo=[])(hpar:CC l q)(ho:∀k (hk:k<l.length),l[k].op=31->q.nd k=true){p:Nat}(n:Nd l p):q.nd p=true:=by
 have dn:∀p,q.nd p=true->Gp l q p:=fun p hp=>h.don p hp (by rw[ht];simp) sM;have anc:∀ (N k:Nat),k<l.length->(IE l k).length<=N->q.nd k=true->∀b∈IE l k,q.nd b=true:=by
  intro N;induction N with
  |zero=>
   intro k hk hl _ b hb;have:IE l k=[]:=List.eq_nil_of_length_eq_zero oM;rw[this]at hb;cases hb
  |succ N ih=>
   intro k hk hl hn b hb;cases hs:IE l k with
   |nil=>rw[hs]at hb;cases hb
   |cons b0 S=>
    have h0:=(dn k hn hk).2.2 b0 (by rw[hs];rfl);rw[hs]at hb;rcases List.mem_cons.1 hb with e|e
    ·rw[e];exact h0
    ·have hmem:b0∈At (l.take k)/\At (l.take b0)=S:=by
      rw[D9 hk]at hs;split at hs
      ·cases hq:At (l.take k)with
       |nil=>rw[hq]at hs;cases hs
       |cons x Y=>
        rw[hq]at hs;simp only[List.tail_cons]at hs;subst hs;obtain⟨g1,g2⟩:=D7 k (Nat.le_of_lt hk) x _ hq;exact⟨sM,(D7 x oM b0 S g2).2⟩
      ·exact⟨by rw[hs];simp,(D7 k (Nat.le_of_lt hk) b0 S hs).2⟩
     obtain⟨hb0,-,o0⟩:=Dm l k (Nat.le_of_lt hk) b0 hmem.1;have e0:IE l b0=S:=by rw[D9 hb0,if_neg oM];exact hmem.2
     exact ih b0 hb0 (by rw[e0];rw[hs]at hl;simpa using hl) h0 b (by rw[e0];exact e)
 induction n with
 |out hk o=>exact ho _ hk o
 |set hk hj n r hr hs e ih=>exact h.sr _ ((dn _ ih hk).1 r hr) _ hj hs e
 |store hk hj n o1 o2 e ih=>exact h.ss _ ((dn _ ih hk).2.1 o1) _ hj o2 (by rw[e])
 |@beg k b hk n hb ih=>exact anc _ k hk (Nat.le_refl _) ih b (by rw[D9 hk];exact hb)
 |@fin k b hk n hf hb ih=>rw[←hpar b k ⟨hk,hf,hb⟩];exact ih
 |@begE k b hk n hf hb ih=>rw[hpar b k ⟨hk,hf,hb⟩];exact ih
theorem LC(h:SI l q [])(ht:q.todo=[])(hpar:CC l q)(ho:∀k (hk:k<l.length),l[k].op=31->q.nd k=true)(p:Nat):q.nd p=ndK l p:=by
 rw[Bool.eq_iff_iff,B0];exact⟨fun w=>(h.snd p w).2,fun n=>Jt h ht hpar ho n⟩
end
theorem Nq:∀n:Nat,n<38->1<=n->(A4 (n:Int)).d=0->(A4 (n:Int)).a=0->35<=n:=dE
theorem PQ:∀n:Nat,n<38->((A4 (n:Int)).a=0->(A4 (n:Int)).b=0/\(A4 (n:Int)).c=0)/\((A4 (n:Int)).n=10->n=32\/n=33):=dE
theorem CU{op:Int}(h:An op=true):∃n:Nat,op=(n:Int)/\1<=n/\n<38:=by
 unfold An at h;simp only[Bool.and_eq_true,decide_eq_true_eq]at h;exact⟨op.toNat,oM,oM,oM⟩
section
variable {c : Cd}
theorem Lv(h:AQ c ⟨[],[]⟩ c.list=true){k:Nat}(hk:k<c.list.length){r:Int}(hr:r∈A9 c.list[k] (A4 c.list[k].op)):∃j,∃hj:j<c.list.length,Ad c.list[j]=true/\c.list[j].d.toNat=r.toNat:=by
 obtain⟨-,-,-,t4⟩:=AG (BH h hk);unfold Et at t4;rw[List.all_eq_true]at t4;have h4:r.toNat∈(Cl ⟨[],[]⟩ (c.list.take k)).set:=by simpa using t4 r hr
 rcases Kz _ _ _ h4 with e|⟨i,hi,h1,h2⟩
 ·cases e
 ·obtain⟨j,hj,rfl⟩:=List.mem_iff_getElem.1 (List.mem_of_mem_take hi);exact⟨j,hj,h1,h2⟩
theorem Cq(h:AQ c ⟨[],[]⟩ c.list=true){k:Nat}(hk:k<c.list.length)(n:Nd c.list k){r:Int}(hr:r∈A9 c.list[k] (A4 c.list[k].op)):usR c.list r.toNat=true:=by
 obtain⟨j,hj,h1,h2⟩:=Lv h hk hr;exact Bq.2 ⟨j,hj,.set hk hj n r hr h1 h2,h1,h2⟩
theorem P8(h:AQ c ⟨[],[]⟩ c.list=true){r:Nat}(hr:usR c.list r=true):r<c.regs.length:=by
 obtain⟨k,hk,-,hs,e⟩:=Bq.1 hr;have:=Ju (BH h hk) hs;omega
theorem Jo(h:AQ c ⟨[],[]⟩ c.list=true){r:Nat}(hr:usR c.list r=true):Ak (usR c.list) r<(AO (usR c.list) c.regs).length/\Au (AO (usR c.list) c.regs) ((Ak (usR c.list) r:Nat):Int)=Au c.regs (r:Int):=by
 have hl:=P8 h hr;have hp:=Hc (l:=c.regs) hl hr;rw[List.getElem?_eq_getElem hl]at hp;obtain⟨h1,h2⟩:=List.getElem?_eq_some_iff.1 hp;refine⟨h1,?_⟩;unfold Au;rw[if_pos (BK.2 ⟨oM,oM⟩),if_pos (BK.2 ⟨oM,oM⟩),Int.toNat_natCast,Int.toNat_natCast,hp,List.getElem?_eq_getElem hl]
theorem MM{n:Nat}(hn:n<c.slots.length)(hw:usS c.list n=true):Ak (usS c.list) n<(AO (usS c.list) c.slots).length/\(AO (usS c.list) c.slots)[Ak (usS c.list) n]? =c.slots[n]? :=by
 have hp:=Hc (l:=c.slots) hn hw;refine⟨?_,hp⟩;rw[List.getElem?_eq_getElem hn]at hp;exact(List.getElem?_eq_some_iff.1 hp).1
theorem In(h:AQ c ⟨[],[]⟩ c.list=true){k:Nat}(hk:k<c.list.length)(n:Nd c.list k)(ho:c.list[k].op<35):Az (pruneC c).regs (Cz (Ak (usR c.list)) (Ak (usS c.list)) c.list[k]) (A4 c.list[k].op)=Az c.regs c.list[k] (A4 c.list[k].op):=by
 have t:=BH h hk;obtain⟨t1,t2,-,-⟩:=AG t;unfold Az Gw Cz pruneC;simp only;by_cases hd:(A4 c.list[k].op).d=0
 ·rw[if_pos hd,if_pos hd];by_cases ha:(A4 c.list[k].op).a=0
  ·exfalso;obtain⟨m,e,m1,m2⟩:=CU t1;rw[e]at hd ha ho;have:=Nq m m2 m1 hd ha;omega
  ·rw[if_neg ha];have h0:=(Al (Da t2) ha).1;rw[(Jo h (Cq h hk n (r:=c.list[k].a) (by unfold A9;rw[if_neg ha];simp))).2,Int.toNat_of_nonneg h0]
 ·rw[if_neg hd,if_neg hd,if_neg hd];have hs:Ad c.list[k]=true:=by unfold Ad;simpa using hd
  have h0:=(Ju t hs).1;rw[(Jo h (Bq.2 ⟨k,hk,n,hs,rfl⟩)).2,Int.toNat_of_nonneg h0]
theorem ML(h:AQ c ⟨[],[]⟩ c.list=true){k:Nat}(hk:k<c.list.length)(n:Nd c.list k)(hf:AW c c.list[k] (A4 c.list[k].op)=true):AW (pruneC c) (Cz (Ak (usR c.list)) (Ak (usS c.list)) c.list[k]) (A4 c.list[k].op)=true:=by
 have t:=BH h hk;obtain⟨t1,-,-,-⟩:=AG t;obtain⟨m,em,m1,m2⟩:=CU t1;have reg:∀ (l x:Int) (M M':Ty),Af c.regs l x M=true->(l≠0->usR c.list x.toNat=true)->(c.list[k].op<35->M'=M)->(35<=c.list[k].op->l=0)->Af (AO (usR c.list) c.regs) l (if l=0 then x else((Ak (usR c.list) x.toNat:Nat):Int)) M'=true:=fun l x M M' hx hu hM h0=>by
  by_cases hl:l=0
  ·rw[if_pos hl];unfold Af at hx ⊢;rw[if_pos hl]at hx ⊢;exact hx
  ·rw[if_neg hl];have ho:c.list[k].op<35:=by
    by_cases q:c.list[k].op<35
    ·exact q
    ·exact absurd (h0 oM) hl
   obtain⟨x0,x1⟩:=Al hx hl;obtain⟨r1,r2⟩:=Jo h (hu hl);unfold Af at hx ⊢;rw[if_neg hl]at hx ⊢;simp only[Bool.and_eq_true]at hx ⊢;rw[r2,Int.toNat_of_nonneg x0,hM ho];exact⟨BK.2 ⟨oM,oM⟩,hx.2⟩
 have hmain:=In h hk n;have h35:35<=c.list[k].op->(A4 c.list[k].op).d=0/\(A4 c.list[k].op).a=0/\(A4 c.list[k].op).b=0/\(A4 c.list[k].op).c=0/\(A4 c.list[k].op).n≠9/\(A4 c.list[k].op).n≠10:=fun q=>by
  rcases(show c.list[k].op=35\/c.list[k].op=36\/c.list[k].op=37 by omega)with e|e|e<;>(rw[e];decide)
 have hrd:∀x,x∈A9 c.list[k] (A4 c.list[k].op)->usR c.list x.toNat=true:=fun x hx=>Cq h hk n hx;have hfa:=Da hf;have hfb:=DU hf;have hfc:=DV hf;have hfd:=CF hf;unfold AW at hf ⊢;simp only[Bool.and_eq_true]at hf ⊢;refine⟨reg _ _ _ _ hfd (fun q=>Bq.2 ⟨k,hk,n,by unfold Ad;simpa using q,rfl⟩) (fun o=>hmain o) (fun q=>(h35 q).1),reg _ _ _ _ hfa (fun q=>hrd _ Rn) (fun o=>hmain o) (fun q=>(h35 q).2.1),reg _ _ _ _ hfb (fun q=>hrd _ Rn) (fun o=>hmain o) (fun q=>(h35 q).2.2.1),reg _ _ _ _ hfc (fun q=>hrd _ Rn) (fun o=>hmain o) (fun q=>(h35 q).2.2.2.1),?_⟩;have hr:=hf.2.2.2.2;unfold BD at hr ⊢;have hn10:(A4 c.list[k].op).n=10->c.list[k].op=32\/c.list[k].op=33:=fun q=>by
  rw[em]at q ⊢;have:=(PQ m m2).2 q;omega
 have hnn:(A4 c.list[k].op).n≠10->(Cz (Ak (usR c.list)) (Ak (usS c.list)) c.list[k]).n=c.list[k].n:=fun q=>by
  unfold Cz;simp only;rw[if_neg (fun w=>q (by rcases w with w|w<;>(rw[w];decide)))]
 by_cases h7:(A4 c.list[k].op).n=7
 ·rw[if_pos h7]at hr ⊢;rw[hnn oM];exact hr
 ·rw[if_neg h7]at hr ⊢;simp only[Bool.and_eq_true]at hr ⊢;refine⟨hr.1,?_⟩;have h2:=hr.2;unfold Fl at h2 ⊢;by_cases h8:(A4 c.list[k].op).n=8
  ·rw[if_pos h8]at h2 ⊢;rw[hnn oM];exact h2
  ·rw[if_neg h8]at h2 ⊢;by_cases h9:(A4 c.list[k].op).n=9
   ·rw[if_pos h9]at h2 ⊢;have ho:c.list[k].op<35:=by
     by_cases q:c.list[k].op<35
     ·exact q
     ·exact absurd h9 (h35 oM).2.2.2.2.1
    rw[hnn oM,hmain ho];exact h2
   ·rw[if_neg h9]at h2 ⊢;by_cases h10:(A4 c.list[k].op).n=10
    ·rw[if_pos h10]at h2 ⊢;have ho:c.list[k].op<35:=by rcases hn10 h10 with q|q<;>omega
     obtain⟨n0,n1⟩:=KH t (hn10 h10);have hw:usS c.list c.list[k].n.toNat=true:=Dp.2 ⟨k,hk,n,hn10 h10,rfl⟩;obtain⟨s1,s2⟩:=MM (c:=c) (n:=c.list[k].n.toNat) oM hw;have en:(Cz (Ak (usR c.list)) (Ak (usS c.list)) c.list[k]).n=((Ak (usS c.list) c.list[k].n.toNat:Nat):Int):=by unfold Cz;simp only;rw[if_pos (hn10 h10)]
     rw[en,hmain ho];simp only[Bool.and_eq_true]at h2 ⊢;refine⟨BK.2 ⟨oM,by show _<((AO (usS c.list) c.slots).length:Int);omega⟩,?_⟩;have e2:CJ (pruneC c).slots ((Ak (usS c.list) c.list[k].n.toNat:Nat):Int)=CJ c.slots c.list[k].n:=by
      unfold CJ;rw[Int.toNat_natCast];show(((AO (usS c.list) c.slots)[_]?).map _).getD _=_;rw[s2]
     rw[e2];exact h2.2
    ·rw[if_neg h10]at h2 ⊢;rw[hnn h10];exact h2
theorem Ls(h:AQ c ⟨[],[]⟩ c.list=true):QR c (pruneC c) (ndK c.list) (usR c.list) (Cz (Ak (usR c.list)) (Ak (usS c.list))) (Ak (usR c.list)):=by
 refine⟨fun k hk hs=>?_,fun k hk hK r hr _=>Cq h hk (B0.1 hK) hr,fun k hk hK b hb=>B0.2 (.beg hk (B0.1 hK) hb),fun k hk hf b hb=>?_,fun r s hr hs e=>Oa hr hs e,fun i=>rfl,fun i o=>?_,fun k hk hK hf=>ML h hk (B0.1 hK) hf,fun k hk hK ho hf=>In h hk (B0.1 hK) ho,fun i=>?_,fun i hs=>?_⟩
 ·by_cases q:Nd c.list k
  ·rw[B0.2 q];exact Bq.2 ⟨k,hk,q,hs,rfl⟩
  ·rw[DX.2 q];cases hu:usR c.list c.list[k].d.toNat with
   |false=>rfl
   |true=>
    obtain⟨j,hj,hn,hsj,e⟩:=Bq.1 hu;exact absurd (hn.setter hj hsj k hk hs e.symm) q
 ·by_cases q:Nd c.list k
  ·rw[B0.2 q,B0.2 (.begE hk q hf hb)]
  ·rw[DX.2 q,DX.2 (fun w=>q (.fin hk w hf hb))]
 ·unfold Cz;simp only;rw[if_neg oM]
 ·unfold A9 Cz;simp only[List.map_append];congr 1
  ·split<;>simp_all
  ·congr 1<;>(split<;>simp_all)
 ·unfold Cz;simp only;have hd:(A4 i.op).d≠0:=by unfold Ad at hs;simpa using hs
  rw[if_neg hd,Int.toNat_natCast]
end
def Dy(op d a b c n z:Int)(k:Nat):Value:=BV #[.int .i64 op,.int .i64 d,.int .i64 a,.int .i64 b,.int .i64 c,.int .i64 n,.int .u32 z] k
theorem E4{w:World}{B B':Nat}{t t':TypeId}{k k' n n':Nat}{v v':Value}{xs xs':List Value}(h:w.ownsRow B t k v n xs)(h':w.ownsRow B' t' k' v' n' xs')(ht:t≠t'):∀b,v.ownBlock=some b->v'.ownBlock≠some b:=by
 intro b hb hb';rcases h.2 with⟨rfl,_⟩|⟨g,cap,cur,rfl,_,hg,_⟩
 ·exact absurd (show(none:Option Nat)=some b from hb) sM
 rcases h'.2 with⟨rfl,_⟩|⟨g',cap',cur',rfl,_,hg',_⟩
 ·exact absurd (show(none:Option Nat)=some b from hb') sM
 have e1:g=b:=Option.some.inj hb;have e2:g'=b:=Option.some.inj hb';rw[e1]at hg;rw[e2,hg]at hg';simp only[Option.some.injEq,Obj.cells.injEq]at hg';exact ht hg'.2.1
def PP(l:List Rk):List Value:=l.flatMap RC
section
variable {E : Nat} {c : Cd} {s : RW} {w w' : World} {B C SB IB MB nm rb ro q1 : Nat} {vk vo vl : Value} {tag : Nat -> Nat}
theorem Ag{tag:Nat->Nat}{a b m n:Nat}(ha:tag a=m)(hb:tag b=n)(h:m≠n):a≠b:=fun e=>h (by rw[←ha,←hb,e])
end
theorem FO{l:List Aa}(he:At l=[]){b:Nat}:∀m k,m=l.length-k->k<=l.length->b∈At (l.take k)->∃e,AI l b e:=by
 intro m;induction m with
 |zero=>
  intro k hm hk hb;have:k=l.length:=oM;subst this;rw[List.take_length,he]at hb;cases hb
 |succ m ih=>
  intro k hm hk hb;have hkl:k<l.length:=oM;have hn:=CO hkl;by_cases h1:l[k].op=34\/l[k].op=36
  ·rw[if_pos h1]at hn;exact ih (k+1) oM oM (by rw[hn];simp[hb])
  ·rw[if_neg h1]at hn;by_cases h2:l[k].op=35\/l[k].op=37
   ·rw[if_pos h2]at hn;cases hs:At (l.take k)with
    |nil=>rw[hs]at hb;cases hb
    |cons b0 S=>
     rw[hs]at hb hn;rcases List.mem_cons.1 hb with e|e
     ·exact⟨k,hkl,h2,by rw[hs,e];rfl⟩
     ·exact ih (k+1) oM oM (by rw[hn];exact e)
   ·rw[if_neg h2]at hn;exact ih (k+1) oM oM (by rw[hn];exact hb)
def EN(l:List Aa)(r:Nat):List Nat:=(List.range l.length).filter fun k=>(l[k]?.map fun i=>Ad i&&decide (i.d.toNat=r))==some true
def Fb(l:List Aa)(n:Nat):List Nat:=(List.range l.length).filter fun k=>(l[k]?.map fun i=>decide (i.op=33)&&decide (i.n.toNat=n))==some true
theorem EO{l:List Aa}{r k:Nat}:k∈EN l r↔∃hk:k<l.length,Ad l[k]=true/\l[k].d.toNat=r:=by
 unfold EN;exact Sn
theorem EP{l:List Aa}{r k:Nat}:k∈Fb l r↔∃hk:k<l.length,l[k].op=33/\l[k].n.toNat=r:=by
 unfold Fb;exact Sn
noncomputable def enP (l:List Aa) (b:Nat):Nat:=@dite _ (∃e,AI l b e) (Classical.propDecidable _) (fun h=>Classical.choose h) (fun _=>0)
theorem IP{l:List Aa}{b e:Nat}(h:AI l b e):enP l b=e:=by
 have hx:∃e,AI l b e:=⟨e,h⟩
 unfold enP;rw[dif_pos hx];exact CV (Classical.choose_spec hx) h
def goR(l:List Aa)(q:Sr)(r:Nat):Sr:={needL q (if q.sr r=true then [] else EN l r)with sr:=fun x=>if x=r then true else q.sr x}
def goS(l:List Aa)(q:Sr)(n:Nat):Sr:={needL q (if q.ss n=true then [] else Fb l n)with ss:=fun x=>if x=n then true else q.ss x}
noncomputable def goA (l:List Aa) (q:Sr) (p:Nat):Sr:=match (IE l p).head? with
 |some b=>needL q [b,enP l b]
 |none=>q
def Cu(l:List Aa)(q:Sr)(rs:List Int):Sr:=rs.foldl (fun q r=>goR l q r.toNat) q
noncomputable def goQ (l:List Aa) (q:Sr) (p:Nat) (i:Aa):Sr:=
 let q1:=Cu l q (A9 i (A4 i.op));let q2:=if i.op=32 then goS l q1 i.n.toNat else q1
 goA l q2 p
def BI(l:List Aa)(q:Sr):Nat:=((List.range l.length).filter fun k=> !(q.nd k)).length+q.todo.length
theorem M4(f g:Nat->Bool)(p:Nat)(h1:f p=true)(h2:g p=false)(h3:∀x,x≠p->g x=f x):∀n,p<n->((List.range n).filter g).length+1=((List.range n).filter f).length:=by
 intro n;induction n with
 |zero=>intro h;omega
 |succ n ih=>
  intro hn;rw[List.range_succ,List.filter_append,List.filter_append,List.length_append,List.length_append];by_cases e:n=p
  ·subst e;have:(List.range n).filter g=(List.range n).filter f:=List.filter_congr (fun x hx=>h3 x (by have:=List.mem_range.1 hx;omega));rw[this];simp[h1,h2]
  ·have:=ih oM;simp only[List.filter_cons,List.filter_nil,h3 n e];omega
theorem Ge{l:List Aa}(q:Sr){p:Nat}(hp:p<l.length):BI l (need1 q p)=BI l q:=by
 unfold need1;split
 ·rfl
 ·rename_i h;unfold BI;simp only[List.length_append,List.length_singleton];have:=M4 (fun k=> !(q.nd k)) (fun k=> !(if k=p then true else q.nd k)) p Q9 sM (fun x hx=>by simp[hx]) l.length hp;omega
theorem Dn{l:List Aa}:∀ (ps:List Nat) (q:Sr),(∀p∈ps,p<l.length)->BI l (needL q ps)=BI l q
 |[],q,_=>rfl
 |p::ps,q,h=>(Dn ps (need1 q p) (fun x hx=>h x (by simp[hx]))).trans (Ge q (h p sM))
section
variable {l : List Aa} {q : Sr} {X : List Nat}
theorem Iw{i:Aa}(h:Ad i=true)(hk:An i.op=true):i.op<34:=by
 obtain⟨n,e,h1,h2⟩:=CU hk;unfold Ad at h;rw[e]at h ⊢;have Cc:∀n:Nat,n<38->decide ((A4 (n:Int)).d≠0)=true->n<34:=dE;have:=Cc n h2 Q9;omega
theorem Oh(h:SI l q X)(hpar:CC l q)(hK:∀i∈l,An i.op=true)(r:Nat)(hn:∀j∈EN l r,Nd l j):SI l (goR l q r) X/\CC l (goR l q r)/\BI l (goR l q r)=BI l q/\(∀x,q.nd x=true->(goR l q r).nd x=true)/\(∀x,(goR l q r).sr x=true↔q.sr x=true\/x=r)/\(goR l q r).ss=q.ss:=by
 have hps:∀p∈(if q.sr r=true then [] else EN l r),p∈EN l r:=fun p hp=>by split at hp<;>simp_all
 have low:∀p∈(if q.sr r=true then [] else EN l r),∃hp:p<l.length,l[p].op<34:=fun p hp=>by
  obtain⟨h1,h2,-⟩:=EO.1 (hps p hp);exact⟨h1,Iw h2 (hK _ (List.getElem_mem h1))⟩
 have h1:=EA (l:=l) (X:=X) (if q.sr r=true then [] else EN l r) h (fun p hp=>⟨(low p hp).1,hn p (hps p hp)⟩);obtain⟨k1,k2⟩:=BQ (if q.sr r=true then [] else EN l r) q;have nd':=BT (if q.sr r=true then [] else EN l r) q;have up:∀x,q.nd x=true->(goR l q r).nd x=true:=fun x hx=>(nd' x).2 (.inl hx);have sr':∀x,(goR l q r).sr x=true↔q.sr x=true\/x=r:=fun x=>by
  unfold goR;simp only;by_cases e:x=r<;>simp[e]
 refine⟨⟨h1.snd,h1.tod,fun p a b c=>?_,fun x hx j hj hs e=>?_,h1.ss⟩,hpar.other low,?_,up,sr',k2⟩
 ·refine(h1.don p a b c).mono (fun x hx=>hx) (fun x hx=>(sr' x).2 (.inl (by rw[k1]at hx;exact hx))) (fun x hx=>hx)
 ·by_cases hr:q.sr r=true
  ·have:q.sr x=true:=by
    rcases(sr' x).1 hx with w|w
    ·exact w
    ·rw[w];exact hr
   exact up j (h.sr x this j hj hs e)
  ·rcases(sr' x).1 hx with w|w
   ·exact up j (h.sr x w j hj hs e)
   ·refine(nd' j).2 (.inr ?_);rw[if_neg hr,←w];exact EO.2 ⟨hj,hs,e⟩
 ·exact Dn (l:=l) _ q (fun p hp=>(low p hp).1)
theorem Oi(h:SI l q X)(hpar:CC l q)(r:Nat)(hn:∀j∈Fb l r,Nd l j):SI l (goS l q r) X/\CC l (goS l q r)/\BI l (goS l q r)=BI l q/\(∀x,q.nd x=true->(goS l q r).nd x=true)/\(∀x,(goS l q r).ss x=true↔q.ss x=true\/x=r)/\(goS l q r).sr=q.sr:=by
 have hps:∀p∈(if q.ss r=true then [] else Fb l r),p∈Fb l r:=fun p hp=>by split at hp<;>simp_all
 have low:∀p∈(if q.ss r=true then [] else Fb l r),∃hp:p<l.length,l[p].op<34:=fun p hp=>by
  obtain⟨h1,h2,-⟩:=EP.1 (hps p hp);exact⟨h1,oM⟩
 have h1:=EA (l:=l) (X:=X) (if q.ss r=true then [] else Fb l r) h (fun p hp=>⟨(low p hp).1,hn p (hps p hp)⟩);obtain⟨k1,k2⟩:=BQ (if q.ss r=true then [] else Fb l r) q;have nd':=BT (if q.ss r=true then [] else Fb l r) q;have up:∀x,q.nd x=true->(goS l q r).nd x=true:=fun x hx=>(nd' x).2 (.inl hx);have ss':∀x,(goS l q r).ss x=true↔q.ss x=true\/x=r:=fun x=>by
  unfold goS;simp only;by_cases e:x=r<;>simp[e]
 refine⟨⟨h1.snd,h1.tod,fun p a b c=>?_,h1.sr,fun x hx j hj hs e=>?_⟩,hpar.other low,?_,up,ss',k1⟩
 ·refine(h1.don p a b c).mono (fun x hx=>hx) (fun x hx=>hx) (fun x hx=>(ss' x).2 (.inl (by rw[k2]at hx;exact hx)))
 ·by_cases hr:q.ss r=true
  ·have:q.ss x=true:=by
    rcases(ss' x).1 hx with w|w
    ·exact w
    ·rw[w];exact hr
   exact up j (h.ss x this j hj hs e)
  ·rcases(ss' x).1 hx with w|w
   ·exact up j (h.ss x w j hj hs e)
   ·refine(nd' j).2 (.inr ?_);rw[if_neg hr,←w];exact EP.2 ⟨hj,hs,e⟩
 ·exact Dn (l:=l) _ q (fun p hp=>(low p hp).1)
theorem I3(hK:∀i∈l,An i.op=true):∀ (rs:List Int) {q:Sr},SI l q X->CC l q->(∀r∈rs,∀j∈EN l r.toNat,Nd l j)->SI l (Cu l q rs) X/\CC l (Cu l q rs)/\BI l (Cu l q rs)=BI l q/\(∀x,q.nd x=true->(Cu l q rs).nd x=true)/\(∀x,q.sr x=true->(Cu l q rs).sr x=true)/\(∀r∈rs,(Cu l q rs).sr r.toNat=true)/\(Cu l q rs).ss=q.ss
 |[],q,h,hp,_=>⟨h,hp,rfl,fun x hx=>hx,fun x hx=>hx,sM,rfl⟩
 |r::rs,q,h,hp,hn=>by
  obtain⟨a1,a2,a3,a4,a5,a6⟩:=Oh h hp hK r.toNat (hn r sM);obtain⟨b1,b2,b3,b4,b5,b6,b7⟩:=I3 hK rs a1 a2 (fun x hx=>hn x (by simp[hx]));refine⟨b1,b2,b3.trans a3,fun x hx=>b4 x (a4 x hx),fun x hx=>b5 x ((a5 x).2 (.inl hx)),fun x hx=>?_,b7.trans a6⟩;rcases List.mem_cons.1 hx with e|e
  ·rw[e];exact b5 _ ((a5 _).2 (.inr rfl))
  ·exact b6 x e
theorem JC{p:Nat}(hp:p<l.length){b:Nat}(hb:(IE l p).head?=some b):b∈At (l.take p):=by
 have:=List.mem_of_mem_head? hb;rw[D9 hp]at this;exact Dd hp this
theorem Of(he:At l=[])(h:SI l q X)(hpar:CC l q){p:Nat}(hp:p<l.length)(np:Nd l p):SI l (goA l q p) X/\CC l (goA l q p)/\BI l (goA l q p)=BI l q/\(∀x,q.nd x=true->(goA l q p).nd x=true)/\(goA l q p).sr=q.sr/\(goA l q p).ss=q.ss/\∀b,(IE l p).head?=some b->(goA l q p).nd b=true:=by
 unfold goA;cases hb:(IE l p).head? with
 |none=>exact⟨h,hpar,rfl,fun x hx=>hx,rfl,rfl,sM⟩
 |some b=>
  obtain⟨e,hm⟩:=FO he (l.length-p) p rfl (Nat.le_of_lt hp) (JC hp hb);simp only[IP hm];obtain⟨hb',he',-,-⟩:=Bp hm;have nb:Nd l b:=.beg hp np (by rw[←D9 hp];exact List.mem_of_mem_head? hb);have ne:Nd l e:=.fin he' nb hm.2.1 hm.2.2;have all:∀x∈[b,e],x<l.length/\Nd l x:=fun x hx=>by
   simp only[List.mem_cons,List.not_mem_nil,or_false]at hx;rcases hx with w|w<;>subst w
   ·exact⟨hb',nb⟩
   ·exact⟨he',ne⟩
  obtain⟨k1,k2⟩:=BQ [b,e] q;refine⟨EA [b,e] h all,hpar.both hm,Dn _ q (fun x hx=>(all x hx).1),fun x hx=>(BT [b,e] q x).2 (.inl hx),k1,k2,fun b' hb'=>(BT [b,e] q b').2 (.inr ?_)⟩;simp only[Option.some.injEq]at hb';simp[hb']
theorem Og(he:At l=[])(hK:∀i∈l,An i.op=true)(hN:∀j k (hj:j<l.length) (hk:k<l.length),l[j].op=33->l[k].op=32->l[j].n.toNat=l[k].n.toNat->l[j].n=l[k].n){t:List Nat}{p:Nat}(h:SI l q [])(hpar:CC l q)(ht:q.todo=t++[p])(hp:p<l.length):
 SI l (goQ l {q with todo:=t} p l[p]) []/\CC l (goQ l {q with todo:=t} p l[p])/\BI l (goQ l {q with todo:=t} p l[p])+1=BI l q/\∀x,q.nd x=true->(goQ l {q with todo:=t} p l[p]).nd x=true:=by
 have np:Nd l p:=(h.snd p (h.tod p (by rw[ht];simp))).2;have h0:SI l {q with todo:=t} [p]:=⟨h.snd,fun x hx=>h.tod x (by rw[ht];simp[hx]),fun x a b c=>h.don x a (by rw[ht];simp only[List.mem_append,not_or];exact⟨b,c⟩) sM,h.sr,h.ss⟩
 have p0:CC l {q with todo:=t}:=hpar;have d0:BI l {q with todo:=t}+1=BI l q:=by unfold BI;rw[ht];simp only[List.length_append,List.length_singleton];omega
 obtain⟨a1,a2,a3,a4,a5,a6,a7⟩:=I3 hK (A9 l[p] (A4 l[p].op)) h0 p0 (fun r hr j hj=>by
  obtain⟨g1,g2,g3⟩:=EO.1 hj
  exact .set hp g1 np r hr g2 g3)
 generalize hq1:Cu l {q with todo:=t} (A9 l[p] (A4 l[p].op))=q1 at a1 a2 a3 a4 a5 a6 a7;obtain⟨q2,hq2,b1,b2,b3,b4,b5,b6⟩:∃q2,q2=(if l[p].op=32 then goS l q1 l[p].n.toNat else q1)/\SI l q2 [p]/\CC l q2/\BI l q2=BI l q1/\(∀x,q1.nd x=true->q2.nd x=true)/\q2.sr=q1.sr/\(l[p].op=32->q2.ss l[p].n.toNat=true):=by
  refine⟨_,rfl,?_⟩;by_cases o:l[p].op=32
  ·rw[if_pos o];obtain⟨c1,c2,c3,c4,c5,c6⟩:=Oi a1 a2 l[p].n.toNat (fun j hj=>by
    obtain⟨g1,g2,g3⟩:=EP.1 hj
    exact .store hp g1 np o g2 (hN j p g1 hp g2 o g3))
   exact⟨c1,c2,c3,c4,c6,fun _=>(c5 _).2 (.inr rfl)⟩
  ·rw[if_neg o];exact⟨a1,a2,rfl,fun x hx=>hx,rfl,fun w=>absurd w o⟩
 obtain⟨c1,c2,c3,c4,c5,c6,c7⟩:=Of he b1 b2 hp np;have eg:goQ l {q with todo:=t} p l[p]=goA l q2 p:=by
  unfold goQ;simp only[hq1];rw[hq2]
 rw[eg];have hd:Gp l (goA l q2 p) p:=fun _=>⟨fun r hr=>by rw[c5,b5];exact a6 r hr,fun o=>by rw[c6];exact b6 o,c7⟩
 refine⟨⟨c1.snd,c1.tod,fun x a b _=>?_,c1.sr,c1.ss⟩,c2,oM,fun x hx=>c4 x (b4 x (a4 x hx))⟩;by_cases e:x=p
 ·subst e;exact hd
 ·exact c1.don x a b (by simpa using e)
end


section
variable {c : Cd}
theorem GM(h:AQ c ⟨[],[]⟩ c.list=true){j:Nat}(hj:j<=c.list.length):(At (c.list.take j)).length=(Cl ⟨[],[]⟩ (c.list.take j)).opens.length:=
 ((ME (Ls h) h j hj).2.opens).len
theorem Hl(hc:(Ah c).1=0):At c.list=[]:=by
 obtain⟨h1,h2,h3⟩:=B8.1 hc;have h:=GM h2 (Nat.le_refl _);rw[List.take_length]at h;rw[List.isEmpty_iff]at h3;rw[h3]at h;exact List.eq_nil_of_length_eq_zero h
theorem FM(hc:(Ah c).1=0):∀i∈c.list,An i.op=true:=fun i hi=>by
 obtain⟨h1,h2,h3⟩:=B8.1 hc;obtain⟨k,hk,e⟩:=List.mem_iff_getElem.1 hi;rw[←e];exact(AG (BH h2 hk)).1
theorem CK(hc:(Ah c).1=0){k:Nat}(hk:k<c.list.length)(o:c.list[k].op=32\/c.list[k].op=33):∃n:Nat,c.list[k].n=(n:Int)/\n<c.slots.length:=by
 obtain⟨h1,h2,h3⟩:=B8.1 hc;obtain⟨t1,t2,t3,t4⟩:=AG (BH h2 hk);unfold AW at t2;simp only[Bool.and_eq_true]at t2;have h:=t2.2.2.2.2;have e:(A4 c.list[k].op).n=10:=by rcases o with e|e<;>(rw[e];decide)
 unfold BD at h;rw[if_neg (by rw[e];decide)]at h;simp only[Bool.and_eq_true]at h;have h:=h.2;unfold Fl at h;rw[if_neg (by rw[e];decide),if_neg (by rw[e];decide),if_pos e]at h;simp only[Bool.and_eq_true]at h;have hp:=h.1;unfold Ar at hp;simp only[Bool.and_eq_true,decide_eq_true_eq]at hp;exact⟨c.list[k].n.toNat,oM,oM⟩
theorem Gb(hc:(Ah c).1=0):∀j k (hj:j<c.list.length) (hk:k<c.list.length),c.list[j].op=33->c.list[k].op=32->c.list[j].n.toNat=c.list[k].n.toNat->c.list[j].n=c.list[k].n:=fun j k hj hk o1 o2 e=>by
 obtain⟨n,e1,-⟩:=CK hc hj (.inr o1);obtain⟨m,e2,-⟩:=CK hc hk (.inl o2);omega
theorem HY(hc:(Ah c).1=0){k:Nat}(hk:k<c.list.length)(o:c.list[k].op=35\/c.list[k].op=37):∃b S,At (c.list.take k)=b::S:=by
 obtain⟨h1,h2,h3⟩:=B8.1 hc;obtain⟨t1,t2,t3,t4⟩:=AG (BH h2 hk);have hl:=GM h2 (Nat.le_of_lt hk);have hne:(Cl ⟨[],[]⟩ (c.list.take k)).opens.isEmpty=false:=by
  generalize Cl ⟨[],[]⟩ (c.list.take k)=x at t3;obtain⟨X,O⟩:=x;unfold AD at t3;rw[if_neg oM]at t3;rcases o with e|e
  ·rw[if_pos e]at t3;simp only[Bool.and_eq_true,Bool.not_eq_true']at t3;exact t3.1
  ·rw[if_neg oM,if_pos e]at t3;unfold AA at t3;cases O with
   |nil=>simp at t3
   |cons _ _=>rfl
 cases hs:At (c.list.take k)with
 |nil=>
  rw[hs]at hl;have:(Cl ⟨[],[]⟩ (c.list.take k)).opens=[]:=List.eq_nil_of_length_eq_zero hl.symm;rw[this]at hne;cases hne
 |cons b S=>exact⟨b,S,rfl⟩
end
def Ds:List Nat->Int
 |[]=> -1
 |b::_=>(b:Int)
def Fh(l:List Aa)(p:Nat):Int:=Ds (IE l p)
theorem J0(S:List Nat):(S.head?=none/\Ds S= -1)\/∃b,S.head?=some b/\Ds S=(b:Int):=by
 cases S with
 |nil=>exact .inl ⟨rfl,rfl⟩
 |cons b S=>exact .inr ⟨b,rfl,rfl⟩
section
variable {c : Cd}
theorem Oq(hc:(Ah c).1=0){k:Nat}(hk:k<c.list.length)(o:c.list[k].op=35\/c.list[k].op=37):∃b S,At (c.list.take k)=b::S/\b<k/\Fh c.list b=Ds S/\Fh c.list k=Ds S/\AI c.list b k/\At (c.list.take (k+1))=S:=by
 obtain⟨b,S,hs⟩:=HY hc hk o;obtain⟨g1,g2⟩:=D7 k (Nat.le_of_lt hk) b S hs;obtain⟨hb,-,ob⟩:=Dm c.list k (Nat.le_of_lt hk) b (by rw[hs];simp);refine⟨b,S,hs,g1,?_,?_,⟨hk,o,by rw[hs];rfl⟩,?_⟩
 ·unfold Fh;rw[D9 hb,if_neg oM,g2]
 ·unfold Fh;rw[D9 hk,if_pos o,hs];rfl
 ·rw[CO hk,if_neg oM,if_pos o,hs];rfl
theorem Oo{l:List Aa}{k:Nat}(hk:k<l.length)(o:l[k].op=34\/l[k].op=36):Fh l k=Ds (At (l.take k))/\Ds (At (l.take (k+1)))=(k:Int):=by
 constructor
 ·unfold Fh;rw[D9 hk,if_neg oM]
 ·rw[CO hk,if_pos o];rfl
theorem Ot{l:List Aa}{k:Nat}(hk:k<l.length)(o:¬ (l[k].op=34\/l[k].op=36))(o':¬ (l[k].op=35\/l[k].op=37)):Fh l k=Ds (At (l.take k))/\At (l.take (k+1))=At (l.take k):=by
 constructor
 ·unfold Fh;rw[D9 hk,if_neg o']
 ·rw[CO hk,if_neg o,if_neg o']
end
def NG(l:List Aa)(k r:Nat):List Nat:=(List.range k).filter fun k=>(l[k]?.map fun i=>Ad i&&decide (i.d.toNat=r))==some true
def NQ(l:List Aa)(k r:Nat):List Nat:=(List.range k).filter fun k=>(l[k]?.map fun i=>decide (i.op=33)&&decide (i.n.toNat=r))==some true
theorem GK{l:List Aa}{k:Nat}(hk:k<l.length)(r:Nat):NG l (k+1) r=NG l k r++(if Ad l[k]=true/\l[k].d.toNat=r then [k]else []):=by
 unfold NG;rw[List.range_succ,List.filter_append];congr 1;simp only[List.filter_cons,List.filter_nil,List.getElem?_eq_getElem hk];by_cases h1:Ad l[k]=true<;>by_cases h2:l[k].d.toNat=r<;>simp[h1,h2]
theorem GN{l:List Aa}{k:Nat}(hk:k<l.length)(r:Nat):NQ l (k+1) r=NQ l k r++(if l[k].op=33/\l[k].n.toNat=r then [k]else []):=by
 unfold NQ;rw[List.range_succ,List.filter_append];congr 1;simp only[List.filter_cons,List.filter_nil,List.getElem?_eq_getElem hk];by_cases h1:l[k].op=33<;>by_cases h2:l[k].n.toNat=r<;>simp[h1,h2]
structure LP(l:List Aa)(q:Sr):Prop where
 si:SI l q []
 par:CC l q
 out:∀k (hk:k<l.length),l[k].op=31->q.nd k=true
def QP:Sr:=⟨fun _=>false,[],fun _=>false,fun _=>false⟩
def Dw(l:List Aa):Nat->Sr
 |0=>QP
 |k+1=>match l[k]? with
  |some i=>if i.op=31 then need1 (Dw l k) k else Dw l k
  |none=>Dw l k
theorem Ib{l:List Aa}{k:Nat}(hk:k<l.length)(o:l[k].op=31):Dw l (k+1)=need1 (Dw l k) k:=by
 rw[Dw,List.getElem?_eq_getElem hk];exact if_pos o
theorem JV{l:List Aa}{k:Nat}(hk:k<l.length)(o:l[k].op≠31):Dw l (k+1)=Dw l k:=by
 rw[Dw,List.getElem?_eq_getElem hk];exact if_neg o
theorem Ha{l:List Aa}:∀k,k<=l.length->SI l (Dw l k) []/\CC l (Dw l k)/\(∀j (hj:j<l.length),j<k->l[j].op=31->(Dw l k).nd j=true)/\BI l (Dw l k)=l.length:=by
 intro k;induction k with
 |zero=>
  intro _;refine⟨⟨fun p h=>Ho,fun p h=>Ho,fun p h=>Ho,fun r h=>Ho,fun r h=>Ho⟩,fun b k _=>rfl,fun j _ h=>by omega,?_⟩;unfold BI Dw QP;simp only[Bool.not_false,List.length_nil,Nat.add_zero];rw[List.filter_eq_self.2 (fun _ _=>rfl),List.length_range]
 |succ k ih=>
  intro hk;have hkl:k<l.length:=oM;obtain⟨h1,h2,h3,h4⟩:=ih oM;by_cases o:l[k].op=31
  ·rw[Ib hkl o];refine⟨h1.need1 hkl (.out hkl o),?_,fun j hj hlt oj=>(Cv _ _ _).2 ?_,(Ge _ hkl).trans h4⟩
   ·exact h2.other (ps:=[k]) (fun p hp=>by simp only[List.mem_singleton]at hp;subst hp;exact⟨hkl,oM⟩)
   ·by_cases e:j=k
    ·exact .inr e
    ·exact .inl (h3 j hj oM oj)
  ·rw[JV hkl o];refine⟨h1,h2,fun j hj hlt oj=>?_,h4⟩;by_cases e:j=k
   ·subst e;exact absurd oj o
   ·exact h3 j hj oM oj
theorem LP.begun(l:List Aa):LP l (Dw l l.length):=by
 obtain⟨h1,h2,h3,-⟩:=Ha (l:=l) l.length (Nat.le_refl _);exact⟨h1,h2,fun k hk o=>h3 k hk hk o⟩
theorem LP.next{c:Cd}(hc:(Ah c).1=0){q:Sr}(h:LP c.list q){t:List Nat}{p:Nat}(ht:q.todo=t++[p]):∃hp:p<c.list.length,LP c.list (goQ c.list {q with todo:=t} p c.list[p])/\BI c.list (goQ c.list {q with todo:=t} p c.list[p])+1=BI c.list q:=by
 have hp:p<c.list.length:=(h.si.snd p (h.si.tod p (by rw[ht];simp))).1;obtain⟨a1,a2,a3,a4⟩:=Og (Hl hc) (FM hc) (Gb hc) h.si h.par ht hp;exact⟨hp,⟨a1,a2,fun k hk o=>a4 k (h.out k hk o)⟩,a3⟩
theorem LP.done{l:List Aa}{q:Sr}(h:LP l q)(ht:q.todo=[])(p:Nat):q.nd p=ndK l p:=LC h.si ht h.par h.out p
theorem DY{tag:Nat->Nat}{v:Value}{m g b k H:Nat}(tv:∀g,v.ownBlock=some g->tag g=m)(hat:v.ownBlock=some g\/g=H)(hb:tag b=k)(hk:k≠m)(hlt:b<H):b≠g:=by
 rcases hat with hat|hat
 ·exact Ag hb (tv g hat) hk
 ·omega
section
variable {E : Nat} {c : Cd} {s : RW} {V : World} {B C SB IB MB nm rb ro q1 : Nat} {vk vo vl : Value} {tag : Nat -> Nat}
end

end Go.Proofs.Ytnbccaicijcklaa
