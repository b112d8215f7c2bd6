import Derived.Test.YtbinohkcolcbfaaGreatPart26
import Derived.Test.YtbinohkcolcbfaaGreatPart1
namespace Go.Proofs.YtbinohkcolcbfaaGreat
open Go.RowKit Go.Proofs.Tryz
set_option linter.unusedVariables false
set_option linter.unusedSimpArgs false
set_option maxRecDepth 100000
set_option maxHeartbeats 16000000
theorem kn_a{c:Cd}{f:Fr}{X:List Cl}{i:Ins}(kn:∀r∈Zid i (rowP i.op),KnR c f X r.toNat)(h:(rowP i.op).a≠0){x:Cl}(hx:X[i.a.toNat]? =some x)(h0:0<=i.a):x.h=rdP c f i.a:=by
 obtain⟨y,hy,e⟩:=kn i.a (mem_a h);rw[hx]at hy;cases hy
 rw[e,show((i.a.toNat:Nat):Int)=i.a by omega]
theorem Zals{c:Cd}{f:Fr}{r:Int}(h:(regT c.regs r).kind≠2):(rdP c f r).whole=0:=by
 unfold rdP;split
 ·rfl
 ·rfl
theorem Zxf{c:Cd}(hg:Good c){r:Int}(h0:0<=r)(h1:r<(c.regs.length:Int))(h3:(regT c.regs r).kind=3):∃p:Nat,(regT c.regs r).par=(p:Int)/\p<c.sign.length:=by
 obtain⟨j,rfl⟩:∃j:Nat,r=(j:Int):=⟨r.toNat,oM⟩
 have hr:j<c.regs.length:=oM;rw[Zkb hr]at h3 ⊢;exact Zlz (hg.type (List.getElem_mem hr) h3)
theorem did_rel{c:Cd}{G P:List (List Int)}{f:Fr}{i:Ins}{s:Wk}{X S O X' S' O':List Cl}(hg:Good c)(ok:OkF c f)(t:Zjb c s i=true)(hb:IsP i.bits)(fg:FitV c G)(fp:FitV c P)(nd:Zlj c f i)(rel:RelR c f X S O)(kn:∀r∈Zid i (rowP i.op),KnR c f X r.toNat)(did:Did c G P f i X S O X' S' O'):
 RelR c (doI c G P f i) X' S' O'/\∀r,(((rowP i.op).d≠0->r≠i.d.toNat)->KnR c f X r)->r<c.regs.length->KnR c (doI c G P f i) X' r:=by
 obtain⟨hk,h2,_,_⟩:=Zjw t;have hok:OkF c (doI c G P f i):=do_ok hg ok hk hb nd fg fp;rcases did with⟨hd,⟨x,rfl,hx⟩,rfl,rfl⟩|⟨h33,rfl,⟨x,hxa,rfl⟩,rfl⟩|⟨h31,rfl,rfl,x,hxa,rfl⟩|⟨hm,rfl,rfl,rfl⟩
 ·have hop:=(Zacg hk).1 hd;obtain⟨d0,d1⟩:=Zie (Zoa h2) hd;have hso:Zlu c (doI c G P f i) i.d.toNat:=do_set hg ok hk nd fun h=>by
   rcases h with h|h
   ·exact absurd h hd
   ·exact absurd rfl h
  have hh:=rd_ok hg hok d0 d1 hso;have hsl:(doI c G P f i).slots=f.slots:=(Zqa hk).1 hop.2.1;have hou:(doI c G P f i).outs=f.outs:=(Zqa hk).2 hop.1;refine⟨⟨by rw[List.length_set];exact rel.xl,fun y hy=>?_,by rw[hsl];exact rel.sl,by rw[hsl];exact rel.sz,rel.ol,by rw[hou];exact rel.oo⟩,fun r hr hrl=>?_⟩
  ·rcases List.mem_or_eq_of_mem_set hy with e|rfl
   ·exact rel.xok y e
   ·rw[hx];refine⟨hh.2.1,?_,hh.2.2⟩;show(rdP c (doI c G P f i) i.d).pats.length<=4096;rw[hh.1];exact hg.width _
  ·by_cases e:r=i.d.toNat
   ·subst e;have hl:i.d.toNat<X.length:=by rw[rel.xl];omega
    refine⟨x,by rw[List.getElem?_set_self hl],?_⟩;rw[hx,show((i.d.toNat:Nat):Int)=i.d by omega];rfl
   ·obtain⟨y,hy,hye⟩:=hr fun _=>e;exact⟨y,by rw[List.getElem?_set_ne (fun q=>e q.symm)];exact hy,by rw[hye,Zxt hk r fun _=>e]⟩
 ·have hd:¬ (rowP i.op).d≠0:=by rw[h33];decide
  obtain⟨a0,a1,n0,n1,ht,hs⟩:=nd.store h33;have hxh:x.h=rdP c f i.a:=kn_a kn (by rw[h33];decide) hxa a0;have hou:(doI c G P f i).outs=f.outs:=(Zqa hk).2 oM;have hsl:(doI c G P f i).slots=f.slots.set i.n.toNat (rdP c f i.a):=by rw[Zon h33]
  refine⟨⟨rel.xl,rel.xok,by rw[hsl,List.map_set,rel.sl,hxh],fun j hj hkd=>?_,rel.ol,by rw[hou];exact rel.oo⟩,fun r hr _=>?_⟩
  ·rw[hsl];by_cases e:j=i.n.toNat
   ·subst e;have hl:i.n.toNat<f.slots.length:=by rw[ok.slotsL];exact hj
    rw[List.getElem?_set_self hl,Option.getD_some];refine Zals ?_;rw[←ht];unfold slotT;rw[List.getElem?_eq_getElem hj];exact hkd
   ·rw[List.getElem?_set_ne (fun q=>e q.symm)];exact rel.sz j hj hkd
  ·obtain⟨y,hy,hye⟩:=hr fun q=>absurd q hd;exact⟨y,hy,by rw[hye,Zxt hk r fun q=>absurd q hd]⟩
 ·have hd:¬ (rowP i.op).d≠0:=by rw[h31];decide
  obtain⟨hp,hlen⟩:=nd.out h31;have hxh:x.h=rdP c f i.a:=kn_a kn (by rw[h31];decide) hxa hp.r0;have hxv:x.h=⟨f.vecs i.a.toNat,0⟩:=by
   rw[hxh];unfold rdP;rw[if_neg (by rw[hp.kind];decide),if_neg (by rw[hp.kind];decide)]
  have hsl:(doI c G P f i).slots=f.slots:=(Zqa hk).1 oM;obtain⟨p,hpp,hpl⟩:=Zxf hg hp.r0 hp.r1 hp.kind;have hn0:=hp.n0;have hou:(doI c G P f i).outs=outP f.outs p (Zia c (p:Int)) i.n.toNat (f.vecs i.a.toNat):=by rw[Zop h31,hpp,Int.toNat_natCast]
  rw[hpp]at hlen hn0;rw[hpp,Int.toNat_natCast];have hnk:i.n.toNat<Zia c (p:Int):=by
   unfold Zia;rcases hn0 with e|⟨e,e2⟩
   ·rw[e];split<;>decide
   ·rw[e,if_pos e2];decide
  have hap:Zia c (p:Int)<=2:=by unfold Zia;split<;>decide
  refine⟨⟨rel.xl,rel.xok,by rw[hsl];exact rel.sl,by rw[hsl];exact rel.sz,by rw[List.length_set];exact rel.ol,fun q n hq hn=>?_⟩,fun r hr _=>?_⟩
  ·obtain⟨o,h1,h3,h4,h5⟩:=rel.oo q n hq hn;have hq2:Zia c (q:Int)<=2:=by unfold Zia;split<;>decide
   rw[hou];by_cases e:2*q+n=2*p+i.n.toNat
   ·have eq:q=p:=oM;have en:n=i.n.toNat:=oM;subst eq;have hol:2*q+i.n.toNat<O.length:=by rw[rel.ol];omega
    refine⟨x,by rw[e,List.getElem?_set_self hol],by rw[hxv];exact hlen,by rw[hxv];exact ok.vecs _,fun j hj=>?_⟩;rw[hxv];unfold outP;have hK:0<Zia c (q:Int):=oM;have e1:(Zia c (q:Int)*j+n)%Zia c (q:Int)=n:=by rw[Nat.mul_add_mod,Nat.mod_eq_of_lt hn]
    have e2:(Zia c (q:Int)*j+n)/Zia c (q:Int)=j:=by rw[Nat.mul_add_div hK,Nat.div_eq_of_lt hn,Nat.add_zero]
    rw[if_pos ⟨rfl,by rw[e1,en],by rw[e2,hlen];exact hj⟩,e2]
   ·refine⟨o,by rw[List.getElem?_set_ne (fun q=>e q.symm)];exact h1,h3,h4,fun j hj=>?_⟩;rw[h5 j hj];unfold outP;rw[if_neg];rintro⟨e1,e2,-⟩;subst e1;have e3:(Zia c (q:Int)*j+n)%Zia c (q:Int)=n:=by rw[Nat.mul_add_mod,Nat.mod_eq_of_lt hn]
    rw[e3]at e2;exact e (by rw[e2])
  ·obtain⟨y,hy,hye⟩:=hr fun q=>absurd q hd;exact⟨y,hy,by rw[hye,Zxt hk r fun q=>absurd q hd]⟩
 ·rw[Zky hm];exact⟨rel,fun r hr _=>hr fun q=>absurd hm ((Zacg hk).1 q).2.2⟩
def SkipQ(Q:Nat->Prop)(s:Wk)(k:Nat):Prop:=
 (k=0/\∀r∈s.set,Q r)\/(∃pre b rest,s.opens=pre++b::rest/\b.loop=false/\k=(pre.filter fun x=> !x.loop).length+1/\∀r∈s.set.take b.ahead,Q r)
theorem Zyd{c:Cd}{G P:List (List Int)}{s:Wk}{f:Fr}{k:Nat}{i:Ins}{Q Q':Nat->Prop}(oks:OkS c.regs.length s)(t:Zjb c s i=true)(sk:SkipQ Q s k)(hdo:k=0->i.op≠34->∀r∈(Zib s i).set,Q' r)(hno:k≠0\/i.op=34->∀r,Q r->Q' r):SkipQ Q' (Zib s i) (Zjn c G P (f,k) i).2:=by
 obtain⟨hkn,_,hst,_⟩:=Zjw t;rcases sk with⟨rfl,hs⟩|⟨pre,b,rest,ho,hbl,rfl,hs⟩
 ·by_cases h34:i.op=34
  ·rw[Zvt h34];by_cases hz:f.whs i.a.toNat=0
   ·rw[Zrx c G P f 0 h34 (.inr hz)];exact .inr ⟨[],⟨false,i.n,s.set.length⟩,s.opens,rfl,rfl,rfl,fun r hr=>hno (.inr h34) r (hs r (List.mem_of_mem_take hr))⟩
   ·rw[Zsd c G P f (fun e=>hz e.2)];exact .inl ⟨rfl,fun r hr=>hno (.inr h34) r (hs r hr)⟩
  ·rw[Zsd c G P f (fun e=>h34 e.1)];exact .inl ⟨rfl,hdo rfl h34⟩
 ·obtain⟨hah,hpre⟩:=Zabn (by have:=oks.opens;rw[ho]at this;exact this);have hs':∀r∈s.set.take b.ahead,Q' r:=fun r hr=>hno (.inl oM) r (hs r hr);obtain⟨K,hK⟩:∃K,(pre.filter fun x=> !x.loop).length=K:=⟨_,rfl⟩
  rw[hK];by_cases h34:i.op=34
  ·rw[Zrx c G P f (K+1) h34 (.inl oM),Zvt h34];refine .inr ⟨⟨false,i.n,s.set.length⟩::pre,b,rest,by rw[ho];rfl,hbl,?_,hs'⟩;rw[List.filter_cons_of_pos rfl,List.length_cons,hK]
  ·by_cases h35:i.op=35
   ·rw[Zade c G P f K h35,Zrt (.inl h35)];have hnl:Zim s=false:=by
     exact Zfg
    unfold Zim at hnl;unfold Zix;rw[ho]at hnl ⊢;cases pre with
    |nil=>
     simp only[List.nil_append]at hnl ⊢;simp at hK;refine .inl ⟨hK.symm,fun r hr=>hs' r ?_⟩;rw[hbl]at hr;simpa using hr
    |cons p pre=>
     simp only[List.cons_append]at hnl ⊢;have hp:=hpre p sM;refine .inr ⟨pre,b,rest,rfl,hbl,?_,fun r hr=>hs' r ?_⟩
     ·rw[List.filter_cons_of_pos (by rw[hnl];rfl),List.length_cons]at hK;omega
     ·rw[hnl]at hr;simp only[Bool.false_eq_true,if_false,List.take_take]at hr;rw[Nat.min_eq_left hp]at hr;exact hr
   ·rw[Zaav c G P f K h34 h35];by_cases h36:i.op=36
    ·rw[Zwh h36];refine .inr ⟨⟨true,i.n,s.set.length⟩::pre,b,rest,by rw[ho];rfl,hbl,?_,hs'⟩;rw[List.filter_cons_of_neg sM,hK]
    ·by_cases h37:i.op=37
     ·rw[Zrt (.inr h37)];have hnl:Zim s=true:=by
       unfold Ziw at hst;rw[if_neg oM,if_neg oM,if_pos h37]at hst;exact hst
      unfold Zim at hnl;unfold Zix;rw[ho]at hnl ⊢;cases pre with
      |nil=>
       simp only[List.nil_append]at hnl;rw[hbl]at hnl;cases hnl
      |cons p pre=>
       simp only[List.cons_append]at hnl ⊢;refine .inr ⟨pre,b,rest,rfl,hbl,?_,fun r hr=>hs' r ?_⟩
       ·rw[List.filter_cons_of_neg (by rw[hnl];decide)]at hK;omega
       ·rw[hnl]at hr;simpa using hr
     ·rw[Zqb h34 h35 h36 h37];obtain⟨h1,h2⟩:=Zabt (i:=i) (r:=rowP i.op) hah;exact .inr ⟨pre,b,rest,by rw[h2];exact ho,hbl,by rw[hK],fun r hr=>hs' r (by rw[h1]at hr;exact hr)⟩
structure PlI(c:Cd)(G P:List (List Int))(f0:Fr)(j k:Nat)(f:Fr)(s:Wk)(X S O:List Cl):Prop where
 go:goI c G P (f0,0) (c.list.take j)=(f,k)
 ok:OkF c f
 oks:OkS c.regs.length s
 sk:Zwu c s f k
 tk:Zld c s (c.list.drop j)=true
 rel:RelR c f X S O
 kn:SkipQ (KnR c f X) s k
theorem PlI.taken{c:Cd}{G P:List (List Int)}{f0:Fr}{j k:Nat}{f:Fr}{s:Wk}{X S O:List Cl}(g:PlI c G P f0 j k f s X S O)(hj:j<c.list.length):Zjb c s c.list[j]=true/\Zld c (Zib s c.list[j]) (c.list.drop (j+1))=true:=by
 have:=g.tk;rw[List.drop_eq_getElem_cons hj]at this;unfold Zld at this;simpa using this
theorem PlI.pass{c:Cd}{G P:List (List Int)}{f0:Fr}{j k:Nat}{f:Fr}{s:Wk}{X S O:List Cl}(g:PlI c G P f0 j k f s X S O)(hg:Good c)(hbits:∀i∈c.list,IsP i.bits)(fg:FitV c G)(fp:FitV c P)(hj:j<c.list.length){k':Nat}(hn:Zjn c G P (f,k) c.list[j]=(f,k'))(hno:k≠0\/c.list[j].op=34):∃s',PlI c G P f0 (j+1) k' f s' X S O:=by
 obtain⟨t1,t2⟩:=g.taken hj;obtain⟨o1,o2⟩:=Zxx hg g.oks t1 g.ok (hbits _ (List.getElem_mem hj)) fg fp g.sk;have o3:=Zyd (G:=G) (P:=P) (f:=f) (Q':=KnR c f X) g.oks t1 g.kn (fun e1 e2=>by rcases hno with h|h;exact absurd e1 h;exact absurd h e2) (fun _ _ h=>h);rw[hn]at o1 o2 o3;exact⟨Zib s c.list[j],by rw[Zvd c G P _ _ hj,g.go];exact hn,o1,g.oks.step t1,o2,t2,g.rel,o3⟩
theorem PlI.need{c:Cd}{G P:List (List Int)}{f0:Fr}{j:Nat}{f:Fr}{s:Wk}{X S O:List Cl}(g:PlI c G P f0 j 0 f s X S O)(hj:j<c.list.length):Zlj c f c.list[j]/\(∀r∈Zid c.list[j] (rowP c.list[j].op),KnR c f X r.toNat):=by
 obtain⟨t1,t2⟩:=g.taken hj;have h1:∀r∈s.set,Zlu c f r:=by
  rcases g.sk with⟨_,h⟩|⟨pre,b,rest,_,_,h,_⟩
  ·exact h
  ·omega
 have h2:∀r∈s.set,KnR c f X r:=by
  rcases g.kn with⟨_,h⟩|⟨pre,b,rest,_,_,h,_⟩
  ·exact h
  ·omega
 exact⟨Zxp t1 h1,fun r hr=>h2 _ (Zacu (Zjw t1).2.2.2 hr)⟩
theorem PlI.did{c:Cd}{G P:List (List Int)}{f0:Fr}{j:Nat}{f:Fr}{s:Wk}{X S O X' S' O':List Cl}(g:PlI c G P f0 j 0 f s X S O)(hg:Good c)(hbits:∀i∈c.list,IsP i.bits)(fg:FitV c G)(fp:FitV c P)(hj:j<c.list.length)(hn:¬ (c.list[j].op=34/\f.whs c.list[j].a.toNat=0))(did:Did c G P f c.list[j] X S O X' S' O'):∃f' s',PlI c G P f0 (j+1) 0 f' s' X' S' O':=by
 obtain⟨t1,t2⟩:=g.taken hj;have hbi:=hbits _ (List.getElem_mem hj);obtain⟨o1,o2⟩:=Zxx hg g.oks t1 g.ok hbi fg fp g.sk;obtain⟨nd,hr⟩:=g.need hj;obtain⟨r1,r2⟩:=did_rel hg g.ok t1 hbi fg fp nd g.rel hr did;have hk:∀r∈s.set,KnR c f X r:=by
  rcases g.kn with⟨_,h⟩|⟨pre,b,rest,_,_,h,_⟩
  ·exact h
  ·omega
 have hoks:=g.oks.step t1;have o3:=Zyd (G:=G) (P:=P) (f:=f) (Q':=KnR c (doI c G P f c.list[j]) X') g.oks t1 g.kn (fun _ h34 r hr=>?_) (fun h r hr=>?_)
 ·rw[Zsd c G P f hn]at o1 o2 o3;exact⟨doI c G P f c.list[j],Zib s c.list[j],by rw[Zvd c G P _ _ hj,g.go];exact Zsd c G P f hn,o1,hoks,o2,t2,r1,o3⟩
 ·refine r2 r (fun hne=>hk r ?_) (hoks.lt r hr);by_cases h35:c.list[j].op=35\/c.list[j].op=37
  ·rw[Zrt h35]at hr;exact Zzn hr
  ·by_cases h36:c.list[j].op=36
   ·rw[Zwh h36]at hr;exact hr
   ·rw[Zqb h34 oM h36 oM]at hr;rcases Zaex hr with h|⟨h,h'⟩
    ·exact h
    ·exact absurd h' (hne h)
 ·rcases h with h|h
  ·exact absurd rfl h
  ·obtain⟨y,hy,_⟩:=id hr;exact r2 r (fun _=>hr) (by have:=(List.getElem?_eq_some_iff.1 hy).1;rw[g.rel.xl]at this;exact this)
theorem Zwq{rs:List Ty}{l n:Int}{m:Ty}(h:Zhx rs l n m=true):0<=n:=by
 by_cases hl:l=0
 ·unfold Zhx at h;rw[if_pos hl]at h;simp only[beq_iff_eq]at h;omega
 ·exact(Zie h hl).1
theorem Zaqm{f:Fr}{i:Ins}{a b d:Int}(ho:21<=i.op/\i.op<=28)(ha:a=f.whs i.a.toNat)(hb:(rowP i.op).b≠0->b=f.whs i.b.toNat)(hc:(rowP i.op).c≠0->d=f.whs i.c.toNat):Zlt i.op a b d=Zmt f i:=by
 obtain⟨op,D,A,B,Ec,nn,bt⟩:=i;simp only at ho ha hb hc ⊢;subst ha;have:op=21\/op=22\/op=23\/op=24\/op=25\/op=26\/op=27\/op=28:=oM;rcases this with rfl|rfl|rfl|rfl|rfl|rfl|rfl|rfl
 ·show min (f.whs A.toNat+1) 2147483647=min (f.whs A.toNat) 2147483646+1;omega
 ·rw[hb dE];rfl
 ·rw[hb dE];rfl
 ·rw[hb dE];rfl
 ·rfl
 ·rw[hb dE,hc dE];rfl
 ·rw[hb dE];rfl
 ·rw[hb dE];rfl
theorem test_eq(x:Int):Zja (x%2147483648 != 0&&decide (x%2147483648<=2139095040))=Zja (fsel x 1065353216 0==1065353216):=by
 congr 1;unfold fsel;by_cases hn:nan x=true
 ·rw[hn];have:2139095040<x%2147483648:=by unfold nan at hn;simpa using hn
  have e:decide (x%2147483648<=2139095040)=false:=sO;rw[e,Bool.and_false,Bool.true_or];decide
 ·have hn':nan x=false:=by simpa using hn
  have:¬2139095040<x%2147483648:=by intro h;exact hn (by unfold nan;simpa using h)
  have e:decide (x%2147483648<=2139095040)=true:=sO;rw[hn',e,Bool.and_true];by_cases h0:x%2147483648=0
  ·rw[h0];decide
  ·have h1:(x%2147483648 != 0)=true:=by simpa using h0
   have h2:(x%2147483648==0)=false:=by simpa using h0
   rw[h1,h2];decide
theorem arg3_eq{c:Cd}{f:Fr}{i:Ins}{xa xb xc:Cl}(he:Zjj i.op=true)(ha:xa.h=rdP c f i.a)(hb:(rowP i.op).b≠0->xb.h=rdP c f i.b)(hc:(rowP i.op).c≠0->xc.h=rdP c f i.c):arg3 xa.h.pats xb.h.pats xc.h.pats (Zjq i.op)=Zji c f i:=by
 obtain⟨op,D,A,B,Ec,nn,bt⟩:=i;unfold Zjj at he;simp only[Bool.and_eq_true,decide_eq_true_eq]at he ha hb hc ⊢;have:op=3\/op=4\/op=5\/op=6\/op=7\/op=8\/op=9\/op=10\/op=11\/op=12\/op=13\/op=14\/op=15:=oM;rcases this with rfl|rfl|rfl|rfl|rfl|rfl|rfl|rfl|rfl|rfl|rfl|rfl|rfl
 all_goals
  first
   |(rw[ha,hb dE,hc dE];rfl)
   |(rw[ha,hb dE];rfl)
   |(rw[ha];rfl)
theorem kn_r{c:Cd}{f:Fr}{X:List Cl}{i:Ins}(kn:∀r∈Zid i (rowP i.op),KnR c f X r.toNat){r:Int}(hr:r∈Zid i (rowP i.op))(h0:0<=r){x:Cl}(hx:X[r.toNat]? =some x):x.h=rdP c f r:=by
 obtain⟨y,hy,e⟩:=kn r hr;rw[hx]at hy;cases hy
 rw[e,show((r.toNat:Nat):Int)=r by omega]
theorem mem_b{i:Ins}{r:Rw}(h:r.b≠0):i.b∈Zid i r:=by unfold Zid;simp[h]
theorem mem_c{i:Ins}{r:Rw}(h:r.c≠0):i.c∈Zid i r:=by unfold Zid;simp[h]
theorem rd_1{c:Cd}{f:Fr}{r:Int}(h:(regT c.regs r).kind=1):rdP c f r=⟨[f.nums r.toNat],0⟩:=by unfold rdP;rw[if_pos h]
theorem rd_2{c:Cd}{f:Fr}{r:Int}(h:(regT c.regs r).kind=2):rdP c f r=⟨[],f.whs r.toNat⟩:=by unfold rdP;rw[if_neg oM,if_pos h]
theorem rd_3{c:Cd}{f:Fr}{r:Int}(h:(regT c.regs r).kind=3):rdP c f r=⟨f.vecs r.toNat,0⟩:=by unfold rdP;rw[if_neg oM,if_neg oM]
theorem Zzw(c:Cd)(hg:Good c)(v0 v1 v2 v3 ru su ou gu pu ct:Value)(X:List Cl)(hX:X.length=c.regs.length)(op nn bt:Int)(kd ka kb kk:Nat)(hd:kd<c.regs.length)(ha:ka<X.length)(hb:kb<X.length)(hc:kk<X.length)(h2:c.regs[kd].kind≠2)(ht:c.regs[kd].kind=3->isPl c.regs[kd].par c.sign.length=true)
 (m:Nat) (hm:Zjq op=m) (h0:m≠0) (n:Nat) (hs:shpV (lF (arg3 X[ka].h.pats X[kb].h.pats X[kk].h.pats m)) (m-1)=some n) (hn1:1<=n) (hn:n<=4096)
 (hP:∀x∈X,∀y∈x.h.pats,IsP y) (hL:∀x∈X,x.h.pats.length<=4096) (w:World) (hv:CdV w v0 v1 v2 v3 c) (hcs:CsV w ru X):
 Calls prog 78 #[.agg #[v0,v1,v2,v3,ru,su,ou,gu,pu,ct],.agg #[.int .i64 op,.int .i64 (kd:Int),.int .i64 (ka:Int),.int .i64 (kb:Int),.int .i64 (kk:Int),.int .i64 nn,.int .u32 bt]] w fun e w'=>
  ∃p q,e=.returned (.agg #[.slice p (elR (if c.regs[kd].kind=3 then lenOf c c.regs[kd].par else 1) (appP op (arg3 X[ka].h.pats X[kb].h.pats X[kk].h.pats m))).length q,.int .i64 0])/\NumR w' p (elR (if c.regs[kd].kind=3 then lenOf c c.regs[kd].par else 1) (appP op (arg3 X[ka].h.pats X[kb].h.pats X[kk].h.pats m)))/\Below w.heap.size w w'/\∀b o s,p=some ⟨b,o,s⟩->w.heap.size<=b:=by
 have KW:=Zpy v0 v1 v2 v3 c hg c.regs[kd] ht;have hwid:(if c.regs[kd].kind=3 then lenOf c c.regs[kd].par else 1)<=4096:=by split;exact hg.lenOf _;omega
 obtain⟨p1,q1,rfl,-⟩:=id hv.regs;obtain⟨lb,lo,rfl,hreg⟩:=hv.regs.at hd;obtain⟨pr,qr,rfl,-⟩:=id hcs.row;obtain⟨rb,ro,rfl,hca⟩:=hcs.row.at ha;obtain⟨rb2,ro2,e2,hcb⟩:=hcs.row.at hb;obtain⟨rb3,ro3,e3,hcc⟩:=hcs.row.at hc;simp only[Option.some.injEq,Addr.mk.injEq,and_true]at e2 e3;obtain⟨rfl,rfl⟩:=e2;obtain⟨rfl,rfl⟩:=e3;have KA:=apply3 op m hm h0 X[ka] X[kb] X[kk] n hs (hP _ (List.getElem_mem ha)) (hP _ (List.getElem_mem hb)) (hP _ (List.getElem_mem hc)) (hL _ (List.getElem_mem ha)) (hL _ (List.getElem_mem hb)) (hL _ (List.getElem_mem hc));have na:=hcs.nums _ (List.getElem_mem ha);have nb:=hcs.nums _ (List.getElem_mem hb);have nc:=hcs.nums _ (List.getElem_mem hc);obtain⟨xa,hxa⟩:∃x,X[ka]=x:=⟨_,rfl⟩
 obtain⟨xb,hxb⟩:∃x,X[kb]=x:=⟨_,rfl⟩
 obtain⟨xc,hxc⟩:∃x,X[kk]=x:=⟨_,rfl⟩
 rw[hxa]at hca na;rw[hxb]at hcb nb;rw[hxc]at hcc nc;rw[hxa,hxb,hxc]at KA ⊢;obtain⟨RR,hRR⟩:∃R,appP op (arg3 xa.h.pats xb.h.pats xc.h.pats m)=R:=⟨_,rfl⟩
 rw[hRR]at KA ⊢;obtain⟨⟨tk,tp⟩,hT⟩:∃t:Ty,c.regs[kd]=t:=⟨_,rfl⟩
 rw[hT]at hreg h2 KW hwid ⊢;unfold tyV at KW;simp only at h2 KW hwid ⊢;obtain⟨Wd,hWd⟩:∃W,(if tk=3 then lenOf c tp else 1)=W:=⟨_,rfl⟩
 have hWi:(if tk=3 then(lenOf c tp:Int)else 1)=(Wd:Int):=by rw[←hWd];split<;>rfl
 rw[hWi]at KW;rw[hWd]at hwid ⊢;obtain⟨n1,hn1'⟩:∃n,c.regs.length=n:=⟨_,rfl⟩
 rw[hX]at ha hb hc ⊢;rw[hn1']at hd ha hb hc KW ⊢;have hregsL:=hg.regsL;rw[hn1']at hregsL;obtain⟨LA,hLA⟩:∃l,xa.h.pats.length=l:=⟨_,rfl⟩
 obtain⟨LB,hLB⟩:∃l,xb.h.pats.length=l:=⟨_,rfl⟩
 obtain⟨LC,hLC⟩:∃l,xc.h.pats.length=l:=⟨_,rfl⟩
 have y0:w.cell? ⟨rb,ro+ka*2,none⟩=some (.slice xa.p LA xa.q):=by rw[←hLA];exact hca.at 0 rfl
 have y1:w.cell? ⟨rb,ro+kb*2,none⟩=some (.slice xb.p LB xb.q):=by rw[←hLB];exact hcb.at 0 rfl
 have y2:w.cell? ⟨rb,ro+kk*2,none⟩=some (.slice xc.p LC xc.q):=by rw[←hLC];exact hcc.at 0 rfl
 rw[hLA,hLB,hLC]at KA;have z0:w.cell? ⟨lb,lo+kd*2,none⟩=some (.int .i64 tk):=hreg.at 0 rfl;have z1:w.cell? ⟨lb,lo+kd*2+1,none⟩=some (.int .i64 tp):=hreg.at 1 rfl;have hba:Below w.heap.size w (((w.alloc (.cells #[v0,.slice (some ⟨lb,lo,none⟩) n1 q1,v2,v3,.slice (some ⟨rb,ro,none⟩) n1 qr,su,ou,gu,pu,ct] 125)).alloc (.cells #[.int .i64 op,.int .i64 (kd:Int),.int .i64 (ka:Int),.int .i64 (kb:Int),.int .i64 (kk:Int),.int .i64 nn,.int .u32 bt] 45)).alloc (.cells #[.slice none 0 0,.int .i64 0] 84)):=bel (Zhq _ _) (bel (Zhq _ _) (Zhq _ _));have b1:(((w.alloc (.cells #[v0,.slice (some ⟨lb,lo,none⟩) n1 q1,v2,v3,.slice (some ⟨rb,ro,none⟩) n1 qr,su,ou,gu,pu,ct] 125)).alloc (.cells #[.int .i64 op,.int .i64 (kd:Int),.int .i64 (ka:Int),.int .i64 (kb:Int),.int .i64 (kk:Int),.int .i64 nn,.int .u32 bt] 45)).alloc (.cells #[.slice none 0 0,.int .i64 0] 84)).cell? ⟨w.heap.size,1,none⟩=some (.slice (some ⟨lb,lo,none⟩) n1 q1):=kc (Zhq _ _) (kc (Zhq _ _) sG);have b2:(((w.alloc (.cells #[v0,.slice (some ⟨lb,lo,none⟩) n1 q1,v2,v3,.slice (some ⟨rb,ro,none⟩) n1 qr,su,ou,gu,pu,ct] 125)).alloc (.cells #[.int .i64 op,.int .i64 (kd:Int),.int .i64 (ka:Int),.int .i64 (kb:Int),.int .i64 (kk:Int),.int .i64 nn,.int .u32 bt] 45)).alloc (.cells #[.slice none 0 0,.int .i64 0] 84)).cell? ⟨w.heap.size+1,1,none⟩=some (.int .i64 (kd:Int)):=kc (Zhq _ _) sG;have b3:=kc hba z0;have b4:=kc hba z1;have HE:Hid (EW17 w v0 (.slice (some ⟨lb,lo,none⟩) n1 q1) v2 v3 (.slice (some ⟨rb,ro,none⟩) n1 qr) op (kd:Int) (ka:Int) (kb:Int) (kk:Int) tk tp rb (ro+ka*2) (ro+kb*2) (ro+kk*2) (.slice xa.p LA xa.q) (.slice xb.p LB xb.q) (.slice xc.p LC xc.q) ((((w.alloc (.cells #[v0,.slice (some ⟨lb,lo,none⟩) n1 q1,v2,v3,.slice (some ⟨rb,ro,none⟩) n1 qr,su,ou,gu,pu,ct] 125)).alloc (.cells #[.int .i64 op,.int .i64 (kd:Int),.int .i64 (ka:Int),.int .i64 (kb:Int),.int .i64 (kk:Int),.int .i64 nn,.int .u32 bt] 45)).alloc (.cells #[.slice none 0 0,.int .i64 0] 84)).alloc (.cells #[.int .i64 tk,.int .i64 tp] 69))):=by
  have k4:=Zhq (((w.alloc (.cells #[v0,.slice (some ⟨lb,lo,none⟩) n1 q1,v2,v3,.slice (some ⟨rb,ro,none⟩) n1 qr,su,ou,gu,pu,ct] 125)).alloc (.cells #[.int .i64 op,.int .i64 (kd:Int),.int .i64 (ka:Int),.int .i64 (kb:Int),.int .i64 (kk:Int),.int .i64 nn,.int .u32 bt] 45)).alloc (.cells #[.slice none 0 0,.int .i64 0] 84)) (.cells #[.int .i64 tk,.int .i64 tp] 69);have k3:=Zhq ((w.alloc (.cells #[v0,.slice (some ⟨lb,lo,none⟩) n1 q1,v2,v3,.slice (some ⟨rb,ro,none⟩) n1 qr,su,ou,gu,pu,ct] 125)).alloc (.cells #[.int .i64 op,.int .i64 (kd:Int),.int .i64 (ka:Int),.int .i64 (kb:Int),.int .i64 (kk:Int),.int .i64 nn,.int .u32 bt] 45)) (.cells #[.slice none 0 0,.int .i64 0] 84);have k2:=Zhq (w.alloc (.cells #[v0,.slice (some ⟨lb,lo,none⟩) n1 q1,v2,v3,.slice (some ⟨rb,ro,none⟩) n1 qr,su,ou,gu,pu,ct] 125)) (.cells #[.int .i64 op,.int .i64 (kd:Int),.int .i64 (ka:Int),.int .i64 (kb:Int),.int .i64 (kk:Int),.int .i64 nn,.int .u32 bt] 45);have hrr:=World.rowIs_alloc ((w.alloc (.cells #[v0,.slice (some ⟨lb,lo,none⟩) n1 q1,v2,v3,.slice (some ⟨rb,ro,none⟩) n1 qr,su,ou,gu,pu,ct] 125)).alloc (.cells #[.int .i64 op,.int .i64 (kd:Int),.int .i64 (ka:Int),.int .i64 (kb:Int),.int .i64 (kk:Int),.int .i64 nn,.int .u32 bt] 45)) #[.slice none 0 0,.int .i64 0] 84 fRes fRes_ok;rw[show((w.alloc (.cells #[v0,.slice (some ⟨lb,lo,none⟩) n1 q1,v2,v3,.slice (some ⟨rb,ro,none⟩) n1 qr,su,ou,gu,pu,ct] 125)).alloc (.cells #[.int .i64 op,.int .i64 (kd:Int),.int .i64 (ka:Int),.int .i64 (kb:Int),.int .i64 (kk:Int),.int .i64 nn,.int .u32 bt] 45)).heap.size=w.heap.size+1+1 by simp]at hrr;refine⟨bel hba k4,kc k4 (kc k3 (kc k2 ?_)),kc k4 (kc k3 (kc k2 ?_)),kc k4 (kc k3 (kc k2 ?_)),kc k4 (kc k3 (kc k2 ?_)),kc k4 (kc k3 (kc k2 ?_)),kc k4 (kc k3 ?_),kc k4 (kc k3 ?_),kc k4 (kc k3 ?_),kc k4 (kc k3 ?_),kc k4 (kc k3 ?_),kc k4 ?_,kc k4 ?_,hrr.alloc _,kf k4 (by simp[go_sem]:(((w.alloc (.cells #[v0,.slice (some ⟨lb,lo,none⟩) n1 q1,v2,v3,.slice (some ⟨rb,ro,none⟩) n1 qr,su,ou,gu,pu,ct] 125)).alloc (.cells #[.int .i64 op,.int .i64 (kd:Int),.int .i64 (ka:Int),.int .i64 (kb:Int),.int .i64 (kk:Int),.int .i64 nn,.int .u32 bt] 45)).alloc (.cells #[.slice none 0 0,.int .i64 0] 84)).cell? ⟨w.heap.size+1+1,0,none⟩=some (.slice none 0 0)) sG,kf k4 (by simp[go_sem]:(((w.alloc (.cells #[v0,.slice (some ⟨lb,lo,none⟩) n1 q1,v2,v3,.slice (some ⟨rb,ro,none⟩) n1 qr,su,ou,gu,pu,ct] 125)).alloc (.cells #[.int .i64 op,.int .i64 (kd:Int),.int .i64 (ka:Int),.int .i64 (kb:Int),.int .i64 (kk:Int),.int .i64 nn,.int .u32 bt] 45)).alloc (.cells #[.slice none 0 0,.int .i64 0] 84)).cell? ⟨w.heap.size+1+1,1,none⟩=some (.int .i64 0)) sG,?_,?_,kc (bel hba k4) y0,kc (bel hba k4) y1,kc (bel hba k4) y2⟩
  all_goals simp[go_sem]
 obtain⟨-,a0,a1,a2,a3,a4,i0,i1,i2,i3,i4,r0,r1,-,f0,f1,t0,t1,x0,x1,x2⟩:=HE.out;have d1:(0:Int)<=(kd:Int):=oM;have d2:(kd:Int)<(n1:Int):=oM;have d3:(ka:Int)<(n1:Int):=oM;have d4:(kb:Int)<(n1:Int):=oM;have d5:(kk:Int)<(n1:Int):=oM;have h2b:(tk==2)=false:=by simpa using h2
 have HKW:Hid (∀v,Below w.heap.size w v->Calls prog 41 #[.agg #[v0,.slice (some ⟨lb,lo,none⟩) n1 q1,v2,v3],.agg #[.int .i64 tk,.int .i64 tp]] v fun e w'=>e=.returned (.int .i64 (Wd:Int))/\Below v.heap.size v w'):=fun v hb=>KW v (by have h9:=hv.below hb;rw[hn1']at h9;exact h9);have HKA:Hid _:=KA;have HNA:Hid (NumR w xa.p xa.h.pats/\NumR w xb.p xb.h.pats/\NumR w xc.p xc.h.pats):=⟨na,nb,nc⟩
 have HLN:Hid (xa.h.pats.length=LA/\xb.h.pats.length=LB/\xc.h.pats.length=LC):=⟨hLA,hLB,hLC⟩
 have HTK:Hid (∀v,Calls prog 121 #[.int .i64 op] v fun e w'=>e=.returned (.int .i64 (m:Int))/\w'=v):=fun v=>by rw[←hm];exact Zwg op v
 have hm3:m<=3:=by rw[←hm];exact Zqq op
 clear KW KA hreg hca hcb hcc hcs hv hg hP hL hT hX h2 ht hs hm hRR hxa hxb hxc hWd hWi na nb nc hLA hLB hLC hn1' y0 y1 y2 z0 z1;go_enter func78,ntmps78;go_wp2;refine rG (fun v=>v.cell? ⟨w.heap.size,4,none⟩=some (.slice (some ⟨rb,ro,none⟩) n1 qr)/\v.cell? ⟨w.heap.size+1,2,none⟩=some (.int .i64 (ka:Int))/\v.cell? ⟨w.heap.size+1,3,none⟩=some (.int .i64 (kb:Int))/\v.cell? ⟨w.heap.size+1,4,none⟩=some (.int .i64 (kk:Int))/\v.cell? ⟨rb,ro+ka*2,none⟩=some (.slice xa.p LA xa.q)/\v.cell? ⟨rb,ro+kb*2,none⟩=some (.slice xb.p LB xb.q)/\v.cell? ⟨rb,ro+kk*2,none⟩=some (.slice xc.p LC xc.q)) fun hHeld=>?_;refine Tf 0 1 2 3 4 5 ?_;refine Tf 6 7 8 9 10 11 ?_;refine Tf 12 13 14 15 16 17 ?_;refine Tc 18 19 20 ?_;clear hHeld;refine ry1 21 fun K hK=>?_;go_simp;refine okK hK fun hHeld=>?_;clear hK K;refine tkT 22 ?_;refine wpAnyH_done kR ?_ _;have HE2:Hid (EW17 w v0 (.slice (some ⟨lb,lo,none⟩) n1 q1) v2 v3 (.slice (some ⟨rb,ro,none⟩) n1 qr) op (kd:Int) (ka:Int) (kb:Int) (kk:Int) tk tp rb (ro+ka*2) (ro+kb*2) (ro+kk*2) (.slice xa.p LA xa.q) (.slice xb.p LB xb.q) (.slice xc.p LC xc.q) ((((((w.alloc (.cells #[v0,.slice (some ⟨lb,lo,none⟩) n1 q1,v2,v3,.slice (some ⟨rb,ro,none⟩) n1 qr,su,ou,gu,pu,ct] 125)).alloc (.cells #[.int .i64 op,.int .i64 (kd:Int),.int .i64 (ka:Int),.int .i64 (kb:Int),.int .i64 (kk:Int),.int .i64 nn,.int .u32 bt] 45)).alloc (.cells #[.slice none 0 0,.int .i64 0] 84)).alloc (.cells #[.int .i64 tk,.int .i64 tp] 69)).alloc (.cells #[.slice xa.p LA xa.q,.slice xb.p LB xb.q,.slice xc.p LC xc.q] 82)).drew)):=(HE.out.next (Zhq _ _)).next (Zhs _);have HG:Hid (((((((w.alloc (.cells #[v0,.slice (some ⟨lb,lo,none⟩) n1 q1,v2,v3,.slice (some ⟨rb,ro,none⟩) n1 qr,su,ou,gu,pu,ct] 125)).alloc (.cells #[.int .i64 op,.int .i64 (kd:Int),.int .i64 (ka:Int),.int .i64 (kb:Int),.int .i64 (kk:Int),.int .i64 nn,.int .u32 bt] 45)).alloc (.cells #[.slice none 0 0,.int .i64 0] 84)).alloc (.cells #[.int .i64 tk,.int .i64 tp] 69)).alloc (.cells #[.slice xa.p LA xa.q,.slice xb.p LB xb.q,.slice xc.p LC xc.q] 82)).drew).cell? ⟨w.heap.size+1+1+1+1,0,none⟩=some (.slice xa.p LA xa.q)/\((((((w.alloc (.cells #[v0,.slice (some ⟨lb,lo,none⟩) n1 q1,v2,v3,.slice (some ⟨rb,ro,none⟩) n1 qr,su,ou,gu,pu,ct] 125)).alloc (.cells #[.int .i64 op,.int .i64 (kd:Int),.int .i64 (ka:Int),.int .i64 (kb:Int),.int .i64 (kk:Int),.int .i64 nn,.int .u32 bt] 45)).alloc (.cells #[.slice none 0 0,.int .i64 0] 84)).alloc (.cells #[.int .i64 tk,.int .i64 tp] 69)).alloc (.cells #[.slice xa.p LA xa.q,.slice xb.p LB xb.q,.slice xc.p LC xc.q] 82)).drew).cell? ⟨w.heap.size+1+1+1+1,1,none⟩=some (.slice xb.p LB xb.q)/\((((((w.alloc (.cells #[v0,.slice (some ⟨lb,lo,none⟩) n1 q1,v2,v3,.slice (some ⟨rb,ro,none⟩) n1 qr,su,ou,gu,pu,ct] 125)).alloc (.cells #[.int .i64 op,.int .i64 (kd:Int),.int .i64 (ka:Int),.int .i64 (kb:Int),.int .i64 (kk:Int),.int .i64 nn,.int .u32 bt] 45)).alloc (.cells #[.slice none 0 0,.int .i64 0] 84)).alloc (.cells #[.int .i64 tk,.int .i64 tp] 69)).alloc (.cells #[.slice xa.p LA xa.q,.slice xb.p LB xb.q,.slice xc.p LC xc.q] 82)).drew).cell? ⟨w.heap.size+1+1+1+1,2,none⟩=some (.slice xc.p LC xc.q)):=⟨sG,sG,sG⟩
 obtain⟨W2,hW2⟩:∃W,(((((w.alloc (.cells #[v0,.slice (some ⟨lb,lo,none⟩) n1 q1,v2,v3,.slice (some ⟨rb,ro,none⟩) n1 qr,su,ou,gu,pu,ct] 125)).alloc (.cells #[.int .i64 op,.int .i64 (kd:Int),.int .i64 (ka:Int),.int .i64 (kb:Int),.int .i64 (kk:Int),.int .i64 nn,.int .u32 bt] 45)).alloc (.cells #[.slice none 0 0,.int .i64 0] 84)).alloc (.cells #[.int .i64 tk,.int .i64 tp] 69)).alloc (.cells #[.slice xa.p LA xa.q,.slice xb.p LB xb.q,.slice xc.p LC xc.q] 82)).drew=W:=⟨_,rfl⟩
 rw[hW2]at HE2 HG;rw[hW2];clear a0 a1 a2 a3 a4 i0 i1 i2 i3 i4 r0 r1 f0 f1 t0 t1 x0 x1 x2;clear hW2 HE b1 b2 b3 b4 hba;obtain⟨-,a0,a1,a2,a3,a4,i0,i1,i2,i3,i4,r0,r1,-,f0,f1,t0,t1,x0,x1,x2⟩:=HE2.out;have HGD:Hid (W2.drew.cell? ⟨w.heap.size+1+1+1+1,0,none⟩=some (.slice xa.p LA xa.q)/\W2.drew.cell? ⟨w.heap.size+1+1+1+1,1,none⟩=some (.slice xb.p LB xb.q)/\W2.drew.cell? ⟨w.heap.size+1+1+1+1,2,none⟩=some (.slice xc.p LC xc.q)):=HG.out;have s1:=fun w9=>Zpl und_LL size_LL (some ⟨w.heap.size+1+1+1+1,0,none⟩) 3 3 m oM w9;go_wp2;refine rG (fun v=>v.cell? ⟨w.heap.size+1,0,none⟩=some (.int .i64 op)) fun hHeld=>?_;refine Tc 0 1 2 ?_;refine Tb 3 4 ?_;clear hHeld;refine ry1 5 fun K hK=>?_;go_simp;(go_at_call 121;(with_reducible refine(HTK.out _).mono ?_);rintro e w3 ⟨rfl,rfl⟩);try(go_wp2_with fail)
 refine okK hK fun hHeld=>?_;clear hK K;refine tkT 6 ?_;clear hHeld;refine ry1 7 fun K hK=>?_;go_simp;(go_at_call 120;(with_reducible refine(HKA.out (w.heap.size+1+1+1+1) W2.drew HGD.out.1 HGD.out.2.1 HGD.out.2.2 (HNA.out.1.below (bel HE2.out.bel (Zhs _))) (HNA.out.2.1.below (bel HE2.out.bel (Zhs _))) (HNA.out.2.2.below (bel HE2.out.bel (Zhs _)))).mono ?_);rintro e w4 ⟨ql,cl,rfl,hnl,hln,hRP,hb4,hlo4⟩;have HLO4:Hid (∀b o s,ql=some ⟨b,o,s⟩->W2.drew.heap.size<=b):=hlo4;have HNL:Hid (NumR w4 ql RR):=hnl;have HLR:Hid (RR.length=n):=hln;have HRP:Hid (∀y∈RR,IsP y):=hRP;have HE4:Hid (EW17 w v0 (.slice (some ⟨lb,lo,none⟩) n1 q1) v2 v3 (.slice (some ⟨rb,ro,none⟩) n1 qr) op (kd:Int) (ka:Int) (kb:Int) (kk:Int) tk tp rb (ro+ka*2) (ro+kb*2) (ro+kk*2) (.slice xa.p LA xa.q) (.slice xb.p LB xb.q) (.slice xc.p LC xc.q) w4):=HE2.out.next (bel (Zhs _) hb4);clear hnl hln hRP hb4 hlo4 a0 a1 a2 a3 a4 i0 i1 i2 i3 i4 r0 r1 f0 f1 t0 t1 x0 x1 x2;obtain⟨-,a0,a1,a2,a3,a4,i0,i1,i2,i3,i4,r0,r1,-,f0,f1,t0,t1,x0,x1,x2⟩:=HE4.out);try(go_wp2_with fail)
 refine okK hK fun hHeld=>?_;clear hK K;refine Tc 8 9 10 ?_;refine Tb 11 12 ?_;refine wpAnyH_done kR ?_ _;by_cases h1:n=1
 ·have h1b:((n:Int)==1)=true:=by simp[h1]
  have hrl:RR.length=1:=by rw[HLR.out];exact h1
  have he:elR Wd RR=List.replicate Wd (canon (atL RR 0)):=by
   unfold elR;rw[if_pos hrl];cases hR9:RR with
   |nil=>rw[hR9]at hrl;simp at hrl
   |cons a r=>rfl
  have HEL:Hid (elR Wd RR=List.replicate Wd (canon (atL RR 0))):=he;have hx9:∃bq oq,ql=some ⟨bq,oq,none⟩/\w4.cell? ⟨bq,oq,none⟩=some (.int .i64 (atL RR 0)):=by
   rcases HNL.out with e|⟨bq,oq,e,hc9⟩
   ·omega
   ·exact⟨bq,oq,e,hc9 0 oM⟩
  obtain⟨bq,oq,rfl,hl0⟩:=hx9;have hPz:IsP (atL RR 0):=Zke HRP.out 0;have KF:=Ztw Wd (atL RR 0) hPz oM;obtain⟨z9,hz9⟩:∃z,atL RR 0=z:=⟨_,rfl⟩
  rw[hz9]at hl0 KF;have HZ9:Hid (atL RR 0=z9):=hz9;have HKF:Hid (∀v,Calls prog 40 #[.int .i64 (Wd:Int),.int .i64 z9] v fun e w'=>∃q cap,e=.returned (.tuple #[.slice q Wd cap,.int .i64 0])/\Zio w' q Wd (fun i=>.int .i64 (canon z9))/\Below v.heap.size v w'/\∀b o s,q=some ⟨b,o,s⟩->v.heap.size<=b):=KF;have hn0:(0:Int)<(n:Int):=oM;clear he hrl KF hz9 hPz;go_wp2;refine rG (fun v=>v.cell? ⟨w.heap.size,0,none⟩=some v0/\v.cell? ⟨w.heap.size,1,none⟩=some (.slice (some ⟨lb,lo,none⟩) n1 q1)/\v.cell? ⟨w.heap.size,2,none⟩=some v2/\v.cell? ⟨w.heap.size,3,none⟩=some v3/\v.cell? ⟨w.heap.size+1+1+1,0,none⟩=some (.int .i64 tk)/\v.cell? ⟨w.heap.size+1+1+1,1,none⟩=some (.int .i64 tp)/\v.cell? ⟨bq,oq,none⟩=some (.int .i64 z9)) fun hHeld=>?_;refine Tf 0 1 2 4 5 6 ?_;clear hHeld;refine ry1 3 fun K hK=>?_;go_simp;(go_at_call 41;(with_reducible refine(HKW.out _ (bel HE4.out.bel (Zhs _))).mono ?_);rintro e w5 ⟨rfl,hb5⟩;have HB5:Hid (Below w4.heap.size w4 w5):=bel (Zhs _) hb5;clear hb5 a0 a1 a2 a3 a4 i0 i1 i2 i3 i4 r0 r1 f0 f1 t0 t1 x0 x1 x2;obtain⟨-,a0,a1,a2,a3,a4,i0,i1,i2,i3,i4,r0,r1,-,f0,f1,t0,t1,x0,x1,x2⟩:=HE4.out.next HB5.out;have hl5:=kc HB5.out hl0);try(go_wp2_with fail)
  refine okK hK fun hHeld=>?_;clear hK K;clear hHeld;refine ry1 7 fun K hK=>?_;go_simp;(go_at_call 40;(with_reducible refine(HKF.out _).mono ?_);rintro e w6 ⟨pf,qf,rfl,hrf,hb6,hfr⟩;have HE6:Hid (EW17 w v0 (.slice (some ⟨lb,lo,none⟩) n1 q1) v2 v3 (.slice (some ⟨rb,ro,none⟩) n1 qr) op (kd:Int) (ka:Int) (kb:Int) (kk:Int) tk tp rb (ro+ka*2) (ro+kb*2) (ro+kk*2) (.slice xa.p LA xa.q) (.slice xb.p LB xb.q) (.slice xc.p LC xc.q) w6):=(HE4.out.next HB5.out).next hb6;have HRF:Hid (Zio w6 pf Wd (fun i=>.int .i64 (canon z9))):=hrf;have HFR:Hid (∀b o s,pf=some ⟨b,o,s⟩->w5.heap.size<=b):=hfr;have HS5:Hid (w.heap.size+1+1<w5.heap.size):=Zhr r0;have hl6:=kc hb6 hl5;clear hb6 hrf hfr a0 a1 a2 a3 a4 i0 i1 i2 i3 i4 r0 r1 f0 f1 t0 t1 x0 x1 x2;obtain⟨-,a0,a1,a2,a3,a4,i0,i1,i2,i3,i4,r0,r1,-,f0,f1,t0,t1,x0,x1,x2⟩:=HE6.out);try(go_wp2_with fail)
  refine okK hK fun hHeld=>?_;clear hK K;refine Tc 8 9 10 ?_;refine tkT 11 ?_;refine wpAnyH_done kR ?_ _;go_wp2;refine bodyPost_ret Zgo rfl ?_;have hbF:Below w.heap.size w ((w6.setCell ⟨w.heap.size+1+1,0,none⟩ (.slice pf Wd qf)).setCell ⟨w.heap.size+1+1,1,none⟩ (.int .i64 0)):=(HE6.out.bel.setCell Zfy _).setCell Zfy _;rw[HEL.out,HZ9.out];refine⟨pf,qf,by rw[List.length_replicate],?_,hbF,fun b o s e=>by have h3:=HFR.out b o s e;have h4:=HS5.out;omega⟩;show Zio _ _ _ _;rw[List.length_replicate];rcases HRF.out with h9|⟨b,o,rfl,h8⟩
  ·exact .inl h9
  ·refine .inr ⟨b,o,rfl,fun j hj=>?_⟩;have hne:b≠w.heap.size+1+1:=by have h3:=HFR.out b o none rfl;have h4:=HS5.out;omega
   rw[World.cell?_of_block (Below.heap_setCell _ _ _ _ hne),World.cell?_of_block (Below.heap_setCell _ _ _ _ hne),h8 j hj];simp only;rw[Zud _ _ hj]
 ·have h1b:((n:Int)==1)=false:=by have:(n:Int)≠1:=oM;simpa using this
  have HEL:Hid (elR Wd RR=RR):=by show _=_;unfold elR;rw[if_neg (by rw[HLR.out];exact h1)]
  have HH1:Hid (n≠1):=h1;clear h1;go_wp2;refine bodyPost_ret Zgo rfl ?_;have hbF:Below w.heap.size w ((w4.setCell ⟨w.heap.size+1+1,0,none⟩ (.slice ql n cl)).setCell ⟨w.heap.size+1+1,1,none⟩ (.int .i64 0)):=(HE4.out.bel.setCell Zfy _).setCell Zfy _;rw[HEL.out,HLR.out];refine⟨ql,cl,rfl,?_,hbF,fun b o s e=>by have h3:=HLO4.out b o s e;have h4:=HE2.out.bel.size;have h5:W2.drew.heap.size=W2.heap.size:=rfl;omega⟩;have h2l:2<=RR.length:=by rw[HLR.out];have:=HH1.out;omega
  have hne9:=num_ne HE4.out.rr HNL.out h2l;rcases HNL.out with h9|⟨b,o,rfl,h8⟩
  ·exact .inl h9
  ·refine .inr ⟨b,o,rfl,fun j hj=>?_⟩;have hne:b≠w.heap.size+1+1:=hne9 b o rfl;rw[World.cell?_of_block (Below.heap_setCell _ _ _ _ hne),World.cell?_of_block (Below.heap_setCell _ _ _ _ hne),h8 j hj]
theorem Zww(c:Cd)(hg:Good c)(v0 v1 v2 v3 ru su ou gu pu ct:Value)(X:List Cl)(hX:X.length=c.regs.length)(op nn bt:Int)(B C:Value)(kd ka:Nat)(hd:kd<c.regs.length)(ha:ka<X.length)(h2:c.regs[kd].kind=2)(w:World)(hv:CdV w v0 v1 v2 v3 c)(hcs:CsV w ru X):
 Calls prog 78 #[.agg #[v0,v1,v2,v3,ru,su,ou,gu,pu,ct],.agg #[.int .i64 op,.int .i64 (kd:Int),.int .i64 (ka:Int),B,C,.int .i64 nn,.int .u32 bt]] w fun e w'=>
  e=.returned (.agg #[.slice X[ka].p X[ka].h.pats.length X[ka].q,.int .i64 X[ka].h.whole])/\NumR w' X[ka].p X[ka].h.pats/\Below w.heap.size w w':=by
 obtain⟨p1,q1,rfl,-⟩:=id hv.regs;obtain⟨lb,lo,rfl,hreg⟩:=hv.regs.at hd;obtain⟨pr,qr,rfl,-⟩:=id hcs.row;obtain⟨rb,ro,rfl,hca⟩:=hcs.row.at ha;have na:=hcs.nums _ (List.getElem_mem ha);obtain⟨xa,hxa⟩:∃x,X[ka]=x:=⟨_,rfl⟩
 rw[hxa]at hca na ⊢;obtain⟨⟨tk,tp⟩,hT⟩:∃t:Ty,c.regs[kd]=t:=⟨_,rfl⟩
 rw[hT]at hreg h2;simp only at h2;obtain⟨n1,hn1'⟩:∃n,c.regs.length=n:=⟨_,rfl⟩
 rw[hX]at ha ⊢;rw[hn1']at hd ha ⊢;have hregsL:=hg.regsL;rw[hn1']at hregsL;obtain⟨LA,hLA⟩:∃l,xa.h.pats.length=l:=⟨_,rfl⟩
 have y0:w.cell? ⟨rb,ro+ka*2,none⟩=some (.slice xa.p LA xa.q):=by rw[←hLA];exact hca.at 0 rfl
 have y1:w.cell? ⟨rb,ro+ka*2+1,none⟩=some (.int .i64 xa.h.whole):=hca.at 1 rfl;rw[hLA];have z0:w.cell? ⟨lb,lo+kd*2,none⟩=some (.int .i64 tk):=hreg.at 0 rfl;have z1:w.cell? ⟨lb,lo+kd*2+1,none⟩=some (.int .i64 tp):=hreg.at 1 rfl;have hba:Below w.heap.size w (((w.alloc (.cells #[v0,.slice (some ⟨lb,lo,none⟩) n1 q1,v2,v3,.slice (some ⟨rb,ro,none⟩) n1 qr,su,ou,gu,pu,ct] 125)).alloc (.cells #[.int .i64 op,.int .i64 (kd:Int),.int .i64 (ka:Int),B,C,.int .i64 nn,.int .u32 bt] 45)).alloc (.cells #[.slice none 0 0,.int .i64 0] 84)):=bel (Zhq _ _) (bel (Zhq _ _) (Zhq _ _));have b1:(((w.alloc (.cells #[v0,.slice (some ⟨lb,lo,none⟩) n1 q1,v2,v3,.slice (some ⟨rb,ro,none⟩) n1 qr,su,ou,gu,pu,ct] 125)).alloc (.cells #[.int .i64 op,.int .i64 (kd:Int),.int .i64 (ka:Int),B,C,.int .i64 nn,.int .u32 bt] 45)).alloc (.cells #[.slice none 0 0,.int .i64 0] 84)).cell? ⟨w.heap.size,1,none⟩=some (.slice (some ⟨lb,lo,none⟩) n1 q1):=kc (Zhq _ _) (kc (Zhq _ _) sG);have b2:(((w.alloc (.cells #[v0,.slice (some ⟨lb,lo,none⟩) n1 q1,v2,v3,.slice (some ⟨rb,ro,none⟩) n1 qr,su,ou,gu,pu,ct] 125)).alloc (.cells #[.int .i64 op,.int .i64 (kd:Int),.int .i64 (ka:Int),B,C,.int .i64 nn,.int .u32 bt] 45)).alloc (.cells #[.slice none 0 0,.int .i64 0] 84)).cell? ⟨w.heap.size+1,1,none⟩=some (.int .i64 (kd:Int)):=kc (Zhq _ _) sG;have b3:=kc hba z0;have b4:=kc hba z1;have c1:∀o,((((w.alloc (.cells #[v0,.slice (some ⟨lb,lo,none⟩) n1 q1,v2,v3,.slice (some ⟨rb,ro,none⟩) n1 qr,su,ou,gu,pu,ct] 125)).alloc (.cells #[.int .i64 op,.int .i64 (kd:Int),.int .i64 (ka:Int),B,C,.int .i64 nn,.int .u32 bt] 45)).alloc (.cells #[.slice none 0 0,.int .i64 0] 84)).alloc o).cell? ⟨w.heap.size,4,none⟩=some (.slice (some ⟨rb,ro,none⟩) n1 qr):=fun o=>kc (Zhq _ _) (kc (Zhq _ _) (kc (Zhq _ _) sG));have c2:∀o,((((w.alloc (.cells #[v0,.slice (some ⟨lb,lo,none⟩) n1 q1,v2,v3,.slice (some ⟨rb,ro,none⟩) n1 qr,su,ou,gu,pu,ct] 125)).alloc (.cells #[.int .i64 op,.int .i64 (kd:Int),.int .i64 (ka:Int),B,C,.int .i64 nn,.int .u32 bt] 45)).alloc (.cells #[.slice none 0 0,.int .i64 0] 84)).alloc o).cell? ⟨w.heap.size+1,2,none⟩=some (.int .i64 (ka:Int)):=fun o=>kc (Zhq _ _) (kc (Zhq _ _) sG);have c3:=fun o=>kc (bel hba (Zhq _ o)) y0;have c4:=fun o=>kc (bel hba (Zhq _ o)) y1;have c5:∀o,((((w.alloc (.cells #[v0,.slice (some ⟨lb,lo,none⟩) n1 q1,v2,v3,.slice (some ⟨rb,ro,none⟩) n1 qr,su,ou,gu,pu,ct] 125)).alloc (.cells #[.int .i64 op,.int .i64 (kd:Int),.int .i64 (ka:Int),B,C,.int .i64 nn,.int .u32 bt] 45)).alloc (.cells #[.slice none 0 0,.int .i64 0] 84)).alloc o).cell? ⟨w.heap.size+1+1,0,none⟩=some (.slice none 0 0):=fun o=>kc (Zhq _ _) sG;have c6:∀o,((((w.alloc (.cells #[v0,.slice (some ⟨lb,lo,none⟩) n1 q1,v2,v3,.slice (some ⟨rb,ro,none⟩) n1 qr,su,ou,gu,pu,ct] 125)).alloc (.cells #[.int .i64 op,.int .i64 (kd:Int),.int .i64 (ka:Int),B,C,.int .i64 nn,.int .u32 bt] 45)).alloc (.cells #[.slice none 0 0,.int .i64 0] 84)).alloc o).cell? ⟨w.heap.size+1+1,1,none⟩=some (.int .i64 0):=fun o=>kc (Zhq _ _) sG;have c7:∀o,((((w.alloc (.cells #[v0,.slice (some ⟨lb,lo,none⟩) n1 q1,v2,v3,.slice (some ⟨rb,ro,none⟩) n1 qr,su,ou,gu,pu,ct] 125)).alloc (.cells #[.int .i64 op,.int .i64 (kd:Int),.int .i64 (ka:Int),B,C,.int .i64 nn,.int .u32 bt] 45)).alloc (.cells #[.slice none 0 0,.int .i64 0] 84)).alloc o).frozen? ⟨w.heap.size+1+1,0,none⟩=false:=fun o=>kf (Zhq _ _) (by simp[go_sem]:(((w.alloc (.cells #[v0,.slice (some ⟨lb,lo,none⟩) n1 q1,v2,v3,.slice (some ⟨rb,ro,none⟩) n1 qr,su,ou,gu,pu,ct] 125)).alloc (.cells #[.int .i64 op,.int .i64 (kd:Int),.int .i64 (ka:Int),B,C,.int .i64 nn,.int .u32 bt] 45)).alloc (.cells #[.slice none 0 0,.int .i64 0] 84)).cell? ⟨w.heap.size+1+1,0,none⟩=some (.slice none 0 0)) sG;have c8:∀o,((((w.alloc (.cells #[v0,.slice (some ⟨lb,lo,none⟩) n1 q1,v2,v3,.slice (some ⟨rb,ro,none⟩) n1 qr,su,ou,gu,pu,ct] 125)).alloc (.cells #[.int .i64 op,.int .i64 (kd:Int),.int .i64 (ka:Int),B,C,.int .i64 nn,.int .u32 bt] 45)).alloc (.cells #[.slice none 0 0,.int .i64 0] 84)).alloc o).frozen? ⟨w.heap.size+1+1,1,none⟩=false:=fun o=>kf (Zhq _ _) (by simp[go_sem]:(((w.alloc (.cells #[v0,.slice (some ⟨lb,lo,none⟩) n1 q1,v2,v3,.slice (some ⟨rb,ro,none⟩) n1 qr,su,ou,gu,pu,ct] 125)).alloc (.cells #[.int .i64 op,.int .i64 (kd:Int),.int .i64 (ka:Int),B,C,.int .i64 nn,.int .u32 bt] 45)).alloc (.cells #[.slice none 0 0,.int .i64 0] 84)).cell? ⟨w.heap.size+1+1,1,none⟩=some (.int .i64 0)) sG;have d1:(0:Int)<=(kd:Int):=oM;have d2:(kd:Int)<(n1:Int):=oM;have d3:(ka:Int)<(n1:Int):=oM;have h2b:(tk==2)=true:=by simpa using h2
 have HNA:Hid (NumR w xa.p xa.h.pats):=na;have HBA:Hid (∀o,Below w.heap.size w ((((w.alloc (.cells #[v0,.slice (some ⟨lb,lo,none⟩) n1 q1,v2,v3,.slice (some ⟨rb,ro,none⟩) n1 qr,su,ou,gu,pu,ct] 125)).alloc (.cells #[.int .i64 op,.int .i64 (kd:Int),.int .i64 (ka:Int),B,C,.int .i64 nn,.int .u32 bt] 45)).alloc (.cells #[.slice none 0 0,.int .i64 0] 84)).alloc o)):=fun o=>bel hba (Zhq _ _);clear hreg hca hcs hv hg hT hX h2 hxa na hLA hn1' y0 y1 z0 z1 hba;go_enter func78,ntmps78;go_wp2;refine bodyPost_ret Zgo rfl ?_;have hbF:∀a b d e,Below w.heap.size w ((((w.alloc a).alloc b).alloc d).alloc e):=fun a b d e=>bel (Zhq _ _) (bel (Zhq _ _) (bel (Zhq _ _) (Zhq _ _)));exact⟨rfl,HNA.out.below (hbF _ _ _ _),hbF _ _ _ _⟩
end Go.Proofs.YtbinohkcolcbfaaGreat
