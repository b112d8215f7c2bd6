import Derived.Test.YtnbccaicijcklaaGreatMns12
import Derived.Test.YtnbccaicijcklaaGreatMns11
import Derived.Test.YtnbccaicijcklaaGreatMns1
namespace Go.Proofs.YtnbccaicijcklaaGreat
open Go.RowKit Go.Proofs.Tryz
set_option linter.all false
set_option maxRecDepth 100000
set_option maxHeartbeats 16000000
section
variable {c : Cd} {G P : List (List Int)}
theorem GH:(pruneC c).list.length<=c.list.length:=G7 _ _ _ _
theorem RF{K:Nat->Bool}{f:Ad->Ad}{l:List Ad}{k:Nat}(hk:k<l.length)(hK:K k=true):∀j,k<j->j<=l.length->f l[k]∈Bc K f l j:=by
 intro j;induction j with
 |zero=>intro h;omega
 |succ j ih=>
  intro h1 h2;by_cases e:k=j
  .subst e;rw[DI hk hK];simp
  .have:=ih oM oM;show _∈Bc K f l j++_;exact List.mem_append.2 (.inl this)
theorem Ro{K:Nat->Bool}{f:Ad->Ad}{l:List Ad}{i:Ad}:∀j,j<=l.length->i∈Bc K f l j->∃k,∃hk:k<l.length,k<j/\K k=true/\i=f l[k]:=by
 intro j;induction j with
 |zero=>intro _ h;cases h
 |succ j ih=>
  intro hj h;have hjl:j<l.length:=oM;cases hK:K j with
  |true=>
   rw[DI hjl hK]at h;rcases List.mem_append.1 h with e|e
   .obtain⟨k,hk,h1,h2,h3⟩:=ih oM e;exact⟨k,hk,oM,h2,h3⟩
   .simp only[List.mem_singleton]at e;exact⟨j,hjl,oM,hK,e⟩
  |false=>
   rw[Gs hK]at h;obtain⟨k,hk,h1,h2,h3⟩:=ih oM h;exact⟨k,hk,oM,h2,h3⟩
theorem Tx{p:Nat->Bool}:∀N n,n<((List.range N).filter p).length->∃r,r<N/\p r=true/\AA p r=n:=by
 intro N;induction N with
 |zero=>intro n h;simp at h
 |succ N ih=>
  intro n h;rw[List.range_succ,List.filter_append,List.length_append]at h;by_cases q:n<((List.range N).filter p).length
  .obtain⟨r,h1,h2,h3⟩:=ih n q;exact⟨r,oM,h2,h3⟩
  .cases hp:p N with
   |false=>simp[hp]at h;omega
   |true=>
    simp[hp]at h;exact⟨N,oM,hp,by unfold AA;omega⟩
theorem Oh(hc:(Ai c).1=0){n:Nat}(hn:n<(pruneC c).slots.length):∃i∈(pruneC c).list,i.op=32/\i.n=(n:Int):=by
 obtain⟨h1,h2,h3⟩:=Bi.1 hc;have hn':n<((List.range c.slots.length).filter (usS c.list)).length:=by rw[<-Ho];exact hn
 obtain⟨m,m1,m2,m3⟩:=Tx _ _ hn';obtain⟨k,hk,hN,o,e⟩:=EJ.1 m2;have Bl:∀k (hk:k<c.list.length),Nd c.list k->c.list[k].op=32->c.list[k].n.toNat=m->∃i∈(pruneC c).list,i.op=32/\i.n=(n:Int):=fun k hk hN o e=>by
  refine⟨_,RF (f:=CV (AA (usR c.list)) (AA (usS c.list))) hk (BF.2 hN) c.list.length hk (gF _),o,?_⟩;show(CV (AA (usR c.list)) (AA (usS c.list)) c.list[k]).n=_;unfold CV;simp only;rw[if_pos (.inl o),e,m3]
 rcases o with o|o
 .exact Bl k hk hN o e
 .obtain⟨j,hj,n1,o1,e1⟩:=hN.stored hk o;exact Bl j hj n1 o1 (by rw[<-e1];exact e)
theorem MY(hc:(Ai c).1=0)(hs:Bd c.list):Bd (pruneC c).list:=by
 obtain⟨h1,h2,h3⟩:=Bi.1 hc;have Bl:∀j,j<=c.list.length->∃Y:List Nat,Y.Sublist (KJ (c.list.take j))/\KJ (Bc (ndK c.list) (CV (AA (usR c.list)) (AA (usS c.list))) c.list j)=Y.map (AA (usR c.list))/\∀y∈Y,usR c.list y=true:=by
  intro j;induction j with
  |zero=>intro _;exact⟨[],List.Sublist.refl _,rfl,fun y h=>Yr⟩
  |succ j ih=>
   intro hj;have hjl:j<c.list.length:=oM;obtain⟨Y,y1,y2,y3⟩:=ih oM;rw[List.take_succ_eq_append_getElem hjl,Cn];cases hK:ndK c.list j with
   |false=>
    rw[Gs hK];exact⟨Y,y1.trans (List.sublist_append_left _ _),y2,y3⟩
   |true=>
    rw[DI hjl hK,Cn,y2];have hop:Af (CV (AA (usR c.list)) (AA (usS c.list)) c.list[j])=Af c.list[j]:=rfl;by_cases q:Af c.list[j]=true
    .refine⟨Y++[c.list[j].d.toNat],?_,?_,?_⟩
     .have e:KJ [c.list[j]]=[c.list[j].d.toNat]:=by unfold KJ;simp[q]
      rw[e];exact List.Sublist.append y1 (List.Sublist.refl _)
     .rw[List.map_append];congr 1;unfold KJ;simp only[List.filter_cons,hop,q,if_true,List.filter_nil,List.map_cons,List.map_nil];congr 1;have hd:(A4 c.list[j].op).d≠0:=by unfold Af at q;simpa using q
      show(if _ then _ else _:Int).toNat=_;rw[if_neg hd,Int.toNat_natCast]
     .intro y hy;rcases List.mem_append.1 hy with e|e
      .exact y3 y e
      .simp only[List.mem_singleton]at e;rw[e];exact CA.2 ⟨j,hjl,BF.1 hK,q,rfl⟩
    .have q':Af c.list[j]=false:=by simpa using q
     refine⟨Y,y1.trans (List.sublist_append_left _ _),?_,y3⟩;have e:KJ [CV (AA (usR c.list)) (AA (usS c.list)) c.list[j]]=[]:=by unfold KJ;simp[hop,q']
     rw[e,List.append_nil]
 obtain⟨Y,y1,y2,y3⟩:=Bl c.list.length (gF _);rw[List.take_length]at y1;unfold Bd at hs |-;show(KJ (Bc _ _ c.list c.list.length)).Nodup;rw[y2];have hY:Y.Nodup:=List.Nodup.sublist y1 hs;have inj:∀ (Z:List Nat),Z.Nodup->(∀y∈Z,usR c.list y=true)->(Z.map (AA (usR c.list))).Nodup:=by
  intro Z;induction Z with
  |nil=>intro _ _;simp
  |cons a Z ih=>
   intro hn hu;rw[List.map_cons,List.nodup_cons];rw[List.nodup_cons]at hn;refine⟨fun hm=>?_,ih hn.2 (fun y hy=>hu y (by simp[hy]))⟩;obtain⟨b,hb,e⟩:=List.mem_map.1 hm;have:=Mp (hu b Zho) (hu a sM) e;exact hn.1 (this▸hb)
 exact inj Y hY y3
end
theorem Ih(p:Nat->Bool)(k:Nat):AA p (k+1)=AA p k+(if p k=true then 1 else 0):=by
 unfold AA;rw[List.range_succ,List.filter_append,List.length_append];congr 1;by_cases h:p k=true
 .simp[h]
 .simp[h]
theorem Ha{p:Nat->Bool}:∀r,(∀s,s<r->p s=true)->AA p r=r
 |0,_=>rfl
 |r+1,h=>by rw[Ih,Ha r (fun s hs=>h s oM),if_pos (h r oM)]
section
variable {K : Nat -> Bool} {f : Ad -> Ad} {l : List Ad}
theorem Qf:∀j,j<=l.length->(Bc K f l j).length=AA K j:=by
 intro j;induction j with
 |zero=>intro _;rfl
 |succ j ih=>
  intro hj;have h:=ih oM;rw[Ih];cases hK:K j with
  |true=>rw[DI oM hK,List.length_append,h];simp
  |false=>rw[Gs hK,h];simp
theorem ZL:∀j,j<=l.length->(∀k,k<l.length->K k=true)->(∀i∈l,f i=i)->Bc K f l j=l.take j:=by
 intro j;induction j with
 |zero=>intro _ _ _;rfl
 |succ j ih=>
  intro hj hK hf;rw[DI oM (hK j oM),ih oM hK hf,hf _ (gD oM),List.take_succ_eq_append_getElem oM]
end
section
variable {c c' : Cd} {K U : Nat -> Bool} {F : Ad -> Ad} {rho : Nat -> Nat}
end
section
variable {c : Cd}
theorem RE{α:Type}{p:Nat->Bool}{l:List α}(h:∀r,r<l.length->p r=true):AU p l=l:=by
 apply List.ext_getElem?;intro t;by_cases ht:t<l.length
 .have h9:=MX (p:=p) ht (h t ht);rw[Ha t (fun s hs=>h s oM)]at h9;exact h9
 .rw[List.getElem?_eq_none (by have:=Hn p l;omega),List.getElem?_eq_none oM]
end
section
open Go.ChangeShapes Go.WideShapes Go.ChangeAt Go.RowKit
theorem Vu:Tryz.prog.cellsOf 38=1:=kR
theorem Td:Tryz.prog.cellsOf 78=1:=kR
theorem Vt:Tryz.prog.bytesOf 38=4:=kR
theorem Ta:Tryz.prog.bytesOf 78=24:=kR
structure St where
 gv:Value
 pv:Value
 G:List (List Int)
 P:List (List Int)
def stC(s:St):List Value:=[s.gv,s.pv]
structure VL where
 v:Value
 l:List Int
def vlC(x:VL):List Value:=[x.v]
instance:Inhabited St:=⟨⟨.slice none 0 0,.slice none 0 0,[],[]⟩⟩
instance:Inhabited VL:=⟨⟨.slice none 0 0,[]⟩⟩
def UJ(w:World):Nat->Prop:=fun b=>w.heap.size<=b
def VLok(w:World)(x:VL):Prop:=Pt (UJ w) w x.v x.l/\x.l.length<=140737488351232/\∀y∈x.l,AH y
def Yo(w:World)(s:St):Prop:=F7 (UJ w) w s.gv s.G/\F7 (UJ w) w s.pv s.P/\FI s.G/\FI s.P
theorem M5{α:Type}{k:Nat}{f:α->List Value}{w:World}{v:Value}{l:List α}(hk:0<k)(hf:∀x,(f x).length=k)(h:AV k f w v l):F6 (UJ w) k f w v l:=by
 obtain⟨p,c,e,h⟩:=h;by_cases h0:l=[]
 .exact⟨p,c,e,.inl h0⟩
 .rcases h with h|⟨b,o,hp,hc⟩
  .exact absurd h h0
  .have hl:0<l.length:=List.length_pos_iff.2 h0;have hb:b<w.heap.size:=by
    have h1:=hc 0 hl;have h2:0<(f l[0]).length:=by rw[hf];exact hk
    exact A8 (h1 0 h2)
   exact⟨p,c,e,.inr ⟨b,o,hp,Nat.not_le.2 hb,hb,hc⟩⟩
section
variable {H : Type} {enc : TypeId × Value -> H} {w : World} {base : Nat} {held : Bool}
theorem ZA{fuel:Nat}{cs:List Value}{x:DataW H×List MemPlace}(h:DataW.trod enc Tryz.prog w base (fun _=>true) held fuel 38 cs=some x):∃a:Int,cs=ptC a/\AH a:=by
 obtain⟨a,c,-,w0⟩:=DataW.trod_int Tryz.underlying38 h;exact⟨a,c,(bounds_u32 w0).1,Int.lt_add_one_of_le (bounds_u32 w0).2⟩
theorem ZC{fuel:Nat}{cs:List Value}{x:DataW H×List MemPlace}(h:DataW.trod enc Tryz.prog w base (fun _=>true) held fuel 78 cs=some x)(hw:∀n∈x.1.weights Tryz.prog 78,n<=reachBytes):∃a:VL,cs=vlC a/\VLok w a:=by
 obtain⟨v,rfl⟩:∃v,cs=[v]:=by
  rcases DataW.trod_slice Tryz.underlying78 h with⟨hcs,_⟩|⟨a,len,cap,elems,rest,m,hm,hcs,_⟩
  .exact⟨_,hcs⟩
  .exact⟨_,hcs⟩
 obtain⟨l,hr,hlen,hg⟩:=Dp (f:=ptC) (k:=1) (Good:=AH) dE (fun _=>rfl) Tryz.underlying78 Vu Vt dE (fun h _=>ZA h) h hw;exact⟨⟨v,l⟩,rfl,M5 dE (fun _=>rfl) hr,by show l.length<=_;omega,hg⟩
theorem O8{fuel:Nat}{v:Value}{x:DataW H×List MemPlace}(h:DataW.trod enc Tryz.prog w base (fun _=>true) held fuel 46 [v]=some x)(hw:∀n∈x.1.weights Tryz.prog 46,n<=reachBytes):∃L,F7 (UJ w) w v L/\FI L:=by
 obtain⟨l,hr,hlen,hg⟩:=Dp (f:=vlC) (k:=1) (Good:=VLok w) dE (fun _=>rfl) Tryz.underlying46 Td Ta dE (fun h hw=>ZC h hw) h hw;obtain⟨p,c,rfl,hh⟩:=M5 (k:=1) (f:=vlC) dE (fun _=>rfl) hr;refine⟨l.map VL.l,⟨p,c,sM,?_⟩,⟨sO,?_,?_⟩⟩
 .rcases hh with rfl|⟨b,o,hp,hT,hb,hc⟩
  .exact .inl rfl
  .refine .inr ⟨b,o,hp,hT,hb,fun i hi=>?_⟩;have hi':i<l.length:=by simpa using hi
   refine⟨(l[i]).v,?_,?_⟩
   .have:=(hc i hi').at 0 rfl;simpa using this
   .simpa using(hg l[i] (gD hi')).1
 .intro y hy;obtain⟨a,ha,rfl⟩:=List.mem_map.1 hy;exact(hg a ha).2.1
 .intro y hy z hz;obtain⟨a,ha,rfl⟩:=List.mem_map.1 hy;exact(hg a ha).2.2 z hz
end
end
section
open Go.ChangeShapes Go.WideShapes Go.ChangeAt Go.RowKit
section
variable {H : Type} {enc : TypeId × Value -> H} {w : World} {base : Nat} {held : Bool}
theorem Hc:Tryz.prog.cellsOf 50=2:=kR
theorem My:Tryz.prog.bytesOf 50=48:=kR
theorem VY{fuel:Nat}{cs:List Value}{x:DataW H×List MemPlace}(h:DataW.trod enc Tryz.prog w base (fun _=>true) held fuel 50 cs=some x)(hw:∀n∈x.1.weights Tryz.prog 50,n<=reachBytes):∃s:St,cs=stC s/\Yo w s:=by
 obtain⟨xs,n,hfn,hx,hl,hxl,hf⟩:=DataW.trod_struct Tryz.underlying50 h;rw[Hc]at hl
 match cs,hl with
 |[v0,v1],_=>
 match xs,hxl with
 |[y0,y1],_=>
  have e0:DataW.trod enc Tryz.prog w base (fun _=>true) held n 46 [v0]=some y0:=hf 0 _ rfl;have e1:DataW.trod enc Tryz.prog w base (fun _=>true) held n 46 [v1]=some y1:=hf 1 _ rfl;subst hx;have hws:∀ (j:Nat) (t:TypeId) (d:DataW H),[46,46][j]? =some t->[y0.1,y1.1][j]? =some d->∀n∈d.weights Tryz.prog t,n<=reachBytes:=fun j t d ht hd n hn=>by
   refine hw n ?_;show n∈DataW.weights Tryz.prog 50 (.agg [y0.1,y1.1]);rw[DataW.weights,Tryz.underlying50];exact DataW.weights_mem_each (ts:=[46,46]) ht hd n hn
  obtain⟨G,g1,g2⟩:=O8 e0 (hws 0 _ _ rfl rfl);obtain⟨P,p1,p2⟩:=O8 e1 (hws 1 _ _ rfl rfl);exact⟨⟨v0,v1,G,P⟩,rfl,g1,p1,g2,p2⟩
theorem O7{r:Reach}{b0:Nat}{v:Value}{d:DataW H}{pl:List MemPlace}(hv:Value.okWide Tryz.prog w r b0 28 v)(h:DataW.Trod enc Tryz.prog w base (fun _=>true) held 28 v d pl)(hw:∀n∈d.weights Tryz.prog 28,n<=reachBytes):
 ∃l:List St,AV 2 stC w v l/\l.length<=140737488351232/\∀s∈l,Yo w s:=by
 obtain⟨p,n,c,rfl⟩:=okWide_slice Tryz.underlying28 hv;obtain⟨fuel,hf0⟩:=h;obtain⟨l,g1,g2,g3⟩:=Dp (f:=stC) (k:=2) (Good:=Yo w) dE (fun _=>rfl) Tryz.underlying28 Hc My dE (fun h hw=>VY h hw) (v:=.slice p n c) (x:=(d,pl)) hf0 hw;exact⟨l,g1,oM,g3⟩
end
end
end Go.Proofs.YtnbccaicijcklaaGreat
