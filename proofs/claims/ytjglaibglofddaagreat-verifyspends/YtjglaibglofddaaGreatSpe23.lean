import Derived.Test.YtjglaibglofddaaGreatSpe21
import Derived.Test.YtjglaibglofddaaGreatSpe20
import Derived.Deep.CutBlock
import Derived.Deep.DeepCutAuto
import Derived.Test.YtjglaibglofddaaGreatSpe1
namespace Go.Proofs.YtjglaibglofddaaGreat
open Go.RowKit Go.Proofs.Tryz
set_option linter.all false
set_option maxRecDepth 100000
set_option maxHeartbeats 16000000
theorem D6(a:Int):A9 (A9 a)=A9 a:=by
 by_cases h:nan a=true
 .have e:A9 a=2143289344:=by unfold A9;rw[if_pos h]
  rw[e];decide
 .have e:A9 a=a:=by unfold A9;rw[if_neg h]
  rw[e,e]
theorem He(b:Bool):A9 (M9 b)=M9 b:=by cases b<;>decide
theorem FH{o:Option Nat}(h:∀r,o=some r->rg r<=2139095040):A9 (Ny o)=Ny o:=by
 cases o with
 |none=>decide
 |some r=>exact Iw (h r rfl)
theorem Kq{a b:Int}(ha:0<=a)(hb:0<=b){o:Ordering}(h:U6 a b=some o):A9 a=a/\A9 b=b:=by
 rw[Hv a b ha hb]at h;split at h
 .cases h
 .rename_i hn;have h1:¬nan a=true:=fun e=>hn (.inl e);have h2:¬nan b=true:=fun e=>hn (.inr e);unfold A9;rw[if_neg h1,if_neg h2];exact⟨rfl,rfl⟩
theorem Qp(a b:Int)(ha:0<=a)(hb:0<=b):A9 (GL a b)=GL a b:=by
 unfold GL;cases e:U6 a b with
 |none=>show A9 2143289344=2143289344;decide
 |some o=>
  obtain⟨h1,h2⟩:=Kq ha hb e;cases o
  .exact h1
  .simp only;split
   .exact h1
   .exact h2
  .exact h2
theorem Qn(a b:Int)(ha:0<=a)(hb:0<=b):A9 (Hg a b)=Hg a b:=by
 unfold Hg;cases e:U6 a b with
 |none=>show A9 2143289344=2143289344;decide
 |some o=>
  obtain⟨h1,h2⟩:=Kq ha hb e;cases o
  .exact h2
  .simp only;split
   .exact h2
   .exact h1
  .exact h1
theorem BH{p:Prop}[Decidable p]{x y:Int}(h:A9 x=x)(k:A9 y=y):A9 (if p then x else y)=if p then x else y:=by
 split
 .exact h
 .exact k
theorem TZ(op a b c:Int)(ha:Ar a)(hb:Ar b):A9 (Hu op a b c)=Hu op a b c:=by
 unfold Hu;refine BH (D6 a) (BH (FH fun _ h=>(Li h).1) (BH (D6 _) (BH (D6 _) (BH (He _) (BH (FH fun _ h=>(N7 h).1) (BH (FH fun _ h=>(Oa h).1) (BH (FH fun _ h=>(Ns h).1) (BH (FH fun _ h=>(Nd h).1) (BH (Qp a b ha.1 hb.1) (BH (Qn a b ha.1 hb.1) (BH (He _) ?_)))))))))));unfold Ji;exact BH (D6 _) (D6 _)
theorem SR{op:Int}{args:List (List Int)}(h:∀l∈args,∀y∈l,Ar y):∀y∈C5 op args,A9 y=y:=by
 have hX:∀i j,Ar (xF args i j):=fun i j=>by
  exact YS
 intro y hy;unfold C5 at hy;split at hy
 .simp only[List.mem_map]at hy;obtain⟨k,_,rfl⟩:=hy;exact TZ _ _ _ _ (By hX _ _ _) (By hX _ _ _)
 .cases hy
theorem Wn{c:Cd}{f:Fr}{i:Am}(hg:Good c)(ok:Ij c f)(he:As i.op=true)(nd:Cz c f i)(hk:(A7 c.regs i.d).kind≠2):
 PQ (if(A7 c.regs i.d).kind=3 then lenOf c (A7 c.regs i.d).par else 1) (C5 i.op (Bb c f i))=(if(C5 i.op (Bb c f i)).length<AO c (A7 c.regs i.d)then Ef c (A7 c.regs i.d) ((C5 i.op (Bb c f i)).headD 0)else C5 i.op (Bb c f i))/\(if(A7 c.regs i.d).kind=3 then lenOf c (A7 c.regs i.d).par else 1)=AO c (A7 c.regs i.d):=by
 obtain⟨h1,h2,h3⟩:=ES hg ok he nd hk;obtain⟨s1,s2⟩:=DP hg ok he nd hk;have hcan:=SR (op:=i.op) (args:=Bb c f i) (fun l hl=>by
  unfold Bb at hl;simp only[List.mem_map]at hl;obtain⟨r,hr,rfl⟩:=hl
  exact(h2 r hr).2.2.2)
 have hw:(if(A7 c.regs i.d).kind=3 then lenOf c (A7 c.regs i.d).par else 1)=AO c (A7 c.regs i.d):=by
  unfold AO;rcases h3 with e|e
  .rw[if_neg oM,if_neg oM,if_pos e]
  .rw[if_pos e,if_pos e]
 refine⟨?_,hw⟩;rw[hw];unfold Ef;generalize C5 i.op (Bb c f i)=R at *;generalize AO c (A7 c.regs i.d)=W at *;unfold PQ;by_cases e:R.length=1
 .rw[if_pos e];obtain⟨x,rfl⟩:=List.length_eq_one_iff.1 e;have hx:A9 x=x:=hcan x sM;by_cases e2:W=1
  .subst e2;rw[if_neg sM];show [A9 x]=[x];rw[hx]
  .rw[if_pos sO]
 .rw[if_neg e,if_neg oM]
def Cg(c:Cd)(G P:List (List Int))(f:Fr)(i:Am):Hd:=CP c (DF c G P f i) i.d
section
variable {c : Cd} {G P : List (List Int)} {f : Fr} {i : Am}
theorem G1(nd:Cz c f i)(h:Eg i.op=true):Cg c G P f i=⟨[QF f i],0⟩:=by
 unfold Cg CP;rw[DG h,if_pos (nd.num h).2.2.2.2];simp only[Ct]
theorem Gm(nd:Cz c f i)(h:Bn i.op=true):Cg c G P f i=⟨[],Fx f i⟩:=by
 have hk:=(nd.whole h).2.2.2.2.2.1;unfold Cg CP;rw[CA h,if_neg oM,if_pos hk];simp only[Ct]
theorem VR(nd:Cz c f i)(h:i.op=29):Cg c G P f i=⟨Bz c G i,0⟩:=by
 have hk:=(nd.part (.inl h)).kind;unfold Cg CP;rw[Ep h,if_neg oM,if_neg oM];simp only[Ct]
theorem VS(nd:Cz c f i)(h:i.op=30):Cg c G P f i=⟨Bz c P i,0⟩:=by
 have hk:=(nd.part (.inr h)).kind;unfold Cg CP;rw[Er h,if_neg oM,if_neg oM];simp only[Ct]
theorem UV{r:Int}{h:Hd}(ho:LD c (A7 c.regs r) h)(hz:(A7 c.regs r).kind≠2->h.whole=0):CP c (MR c f r h) r=h:=by
 obtain⟨pats,whole⟩:=h;simp only at hz;have hl:pats.length=AO c (A7 c.regs r):=ho.1;unfold AO at hl;unfold CP MR;by_cases h1:(A7 c.regs r).kind=1
 .rw[if_neg oM,if_pos h1]at hl;rw[if_pos h1,if_pos h1];obtain⟨x,rfl⟩:=List.length_eq_one_iff.1 hl;simp only[Ct,List.headD_cons];rw[hz oM]
 .by_cases h2:(A7 c.regs r).kind=2
  .rw[if_neg oM,if_neg oM]at hl;rw[if_neg h1,if_pos h2,if_neg h1,if_pos h2];simp only[Ct];rw[List.length_eq_zero_iff.1 hl]
  .rw[if_neg h1,if_neg h2,if_neg h1,if_neg h2];simp only[Ct];rw[hz h2]
theorem VT(ok:Ij c f)(nd:Cz c f i)(h:i.op=32)(hz:∀j (h:j<c.slots.length),c.slots[j].ty.kind≠2->((f.slots[j]?).getD ⟨[],0⟩).whole=0):Cg c G P f i=(f.slots[i.n.toNat]?).getD ⟨[],0⟩:=by
 obtain⟨d0,d1,n0,n1,ht⟩:=nd.load h;have hn:i.n.toNat<c.slots.length:=oM;have hn2:i.n.toNat<f.slots.length:=by rw[ok.slotsL];exact hn
 have hh:=ok.slots i.n.toNat hn hn2;have e:BZ c.slots i.n=c.slots[i.n.toNat].ty:=by unfold BZ;rw[gB hn];rfl
 unfold Cg;rw[Et h];refine UV ?_ fun h2=>hz _ hn (by rw[<-e,ht];exact h2);rw[gB hn2,Option.getD_some,<-ht,e];exact hh
theorem PG(h:As i.op=true)(hk:(A7 c.regs i.d).kind=2):Cg c G P f i=⟨[],f.whs i.a.toNat⟩:=by
 unfold Cg CP;rw[Ck h];unfold Gv;rw[if_pos hk,if_neg oM,if_pos hk];simp only[Ct]
theorem Sq(hg:Good c)(ok:Ij c f)(nd:Cz c f i)(h:As i.op=true)(hk:(A7 c.regs i.d).kind≠2):Cg c G P f i=⟨PQ (if(A7 c.regs i.d).kind=3 then lenOf c (A7 c.regs i.d).par else 1) (C5 i.op (Bb c f i)),0⟩:=by
 obtain⟨e1,e2⟩:=Wn hg ok h nd hk;obtain⟨s1,s2⟩:=DP hg ok h nd hk;rw[e1];unfold Cg;rw[Ck h];unfold Gv;rw[if_neg hk];refine UV ⟨?_,fun y hy=>?_,Int.le_refl _,by show(0:Int)<=2147483647;decide⟩ fun _=>rfl
 .simp only;split
  .unfold Ef;rw[List.length_replicate]
  .rename_i hn;have h1:=(ES hg ok h nd hk).1;omega
 .simp only at hy;split at hy
  .unfold Ef at hy;rw[List.eq_of_mem_replicate hy];exact Cm _ (Hm s2)
  .exact s2 y hy
theorem Jy(hk:An i.op=true)(r:Nat)(h:(A5 i.op).d≠0->r≠i.d.toNat):CP c (DF c G P f i) (r:Int)=CP c f (r:Int):=by
 have hst:∀x:Hd,(A5 i.op).d≠0->CP c (MR c f i.d x) (r:Int)=CP c f (r:Int):=fun x hd=>by
  have hr:=h hd;unfold MR;split
  .unfold CP;simp only[Int.toNat_natCast,Cv _ _ hr]
  .split
   .unfold CP;simp only[Int.toNat_natCast,Cv _ _ hr]
   .unfold CP;simp only[Int.toNat_natCast,Cv _ _ hr]
 rcases EG hk with e|e|e|e|e|e|e|e|e
 .have hr:=h (by unfold Eg at e;simp only[Bool.or_eq_true,beq_iff_eq]at e;have:i.op=1\/i.op=16\/i.op=17\/i.op=19\/i.op=20:=oM;rcases this with q|q|q|q|q<;>rw[q]<;>decide);rw[DG e];unfold CP;simp only[Int.toNat_natCast,Cv _ _ hr]
 .have hr:=h (by unfold Bn at e;simp only[Bool.or_eq_true,Bool.and_eq_true,beq_iff_eq,decide_eq_true_eq]at e;have:i.op=2\/i.op=18\/i.op=21\/i.op=22\/i.op=23\/i.op=24\/i.op=25\/i.op=26\/i.op=27\/i.op=28:=oM;rcases this with q|q|q|q|q|q|q|q|q|q<;>rw[q]<;>decide);rw[CA e];unfold CP;simp only[Int.toNat_natCast,Cv _ _ hr]
 .have hr:=h (by rw[e];decide);rw[Ep e];unfold CP;simp only[Int.toNat_natCast,Cv _ _ hr]
 .have hr:=h (by rw[e];decide);rw[Er e];unfold CP;simp only[Int.toNat_natCast,Cv _ _ hr]
 .rw[Es e];rfl
 .rw[Et e];exact hst _ (by rw[e];decide)
 .rw[Eu e];rfl
 .rw[Bx e]
 .have hd:(A5 i.op).d≠0:=by
   unfold As at e;simp only[Bool.and_eq_true,decide_eq_true_eq]at e;have:i.op=3\/i.op=4\/i.op=5\/i.op=6\/i.op=7\/i.op=8\/i.op=9\/i.op=10\/i.op=11\/i.op=12\/i.op=13\/i.op=14\/i.op=15:=oM;rcases this with q|q|q|q|q|q|q|q|q|q|q|q|q<;>rw[q]<;>decide
  rw[Ck e];unfold Gv;split
  .unfold CP;simp only[Int.toNat_natCast,Cv _ _ (h hd)]
  .exact hst _ hd
end
structure LH(c:Cd)(f:Fr)(X S O:List Cl):Prop where
 xl:X.length=c.regs.length
 xok:∀x∈X,(∀y∈x.h.pats,Ar y)/\x.h.pats.length<=4096/\0<=x.h.whole/\x.h.whole<=2147483647
 sl:S.map (·.h)=f.slots
 sz:∀j (h:j<c.slots.length),c.slots[j].ty.kind≠2->((f.slots[j]?).getD ⟨[],0⟩).whole=0
 ol:O.length=2*c.sign.length
 oo:∀p n:Nat,p<c.sign.length->n<Ax c (p:Int)->∃o,O[2*p+n]? =some o/\o.h.pats.length=lenOf c (p:Int)/\(∀y∈o.h.pats,Ar y)/\∀e,e<lenOf c (p:Int)->BO o.h.pats e=f.outs p (Ax c (p:Int)*e+n)
def N0(c:Cd)(f:Fr)(X:List Cl)(r:Nat):Prop:=∃x,X[r]? =some x/\x.h=CP c f (r:Int)
def VV(c:Cd)(G P:List (List Int))(f:Fr)(i:Am)(X S O X' S' O':List Cl):Prop:=
 ((A5 i.op).d≠0/\(∃x,X'=X.set i.d.toNat x/\x.h=Cg c G P f i)/\S'=S/\O'=O)
 \/(i.op=33/\X'=X/\(∃x,X[i.a.toNat]? =some x/\S'=S.set i.n.toNat x)/\O'=O)
 \/(i.op=31/\X'=X/\S'=S/\∃x,X[i.a.toNat]? =some x/\O'=O.set (2*(A7 c.regs i.a).par.toNat+i.n.toNat) x)
 \/((34<=i.op/\i.op<=37)/\X'=X/\S'=S/\O'=O)
theorem MF{op:Int}(hk:An op=true):(A5 op).d≠0↔op≠31/\op≠33/\¬ (34<=op/\op<=37):=by
 unfold An at hk;simp only[Bool.and_eq_true,decide_eq_true_eq]at hk;have:op∈(List.range 38).map (fun n:Nat=>(n:Int)):=by
  rw[List.mem_map];exact⟨op.toNat,by rw[List.mem_range];omega,oM⟩
 have h0:op≠0:=oM;revert h0;revert op;intro op hk;simp only[List.range,List.range.loop,List.map_cons,List.map_nil,List.mem_cons,List.not_mem_nil,or_false];intro h h0;rcases h with h|h|h|h|h|h|h|h|h|h|h|h|h|h|h|h|h|h|h|h|h|h|h|h|h|h|h|h|h|h|h|h|h|h|h|h|h|h<;>(rw[h]at h0 |-;revert h0;decide)
theorem E7{c:Cd}{G P:List (List Int)}{f:Fr}{i:Am}(hk:An i.op=true):(i.op≠33->(DF c G P f i).slots=f.slots)/\(i.op≠31->(DF c G P f i).outs=f.outs):=by
 have hst:∀r h,(MR c f r h).slots=f.slots/\(MR c f r h).outs=f.outs:=fun r h=>by
  unfold MR;split
  .exact⟨rfl,rfl⟩
  .split
   .exact⟨rfl,rfl⟩
   .exact⟨rfl,rfl⟩
 rcases EG hk with e|e|e|e|e|e|e|e|e
 .rw[DG e];exact⟨fun _=>rfl,fun _=>rfl⟩
 .rw[CA e];exact⟨fun _=>rfl,fun _=>rfl⟩
 .rw[Ep e];exact⟨fun _=>rfl,fun _=>rfl⟩
 .rw[Er e];exact⟨fun _=>rfl,fun _=>rfl⟩
 .exact⟨fun _=>by rw[Es e],fun h=>absurd e h⟩
 .rw[Et e];exact⟨fun _=>(hst _ _).1,fun _=>(hst _ _).2⟩
 .exact⟨fun h=>absurd e h,fun _=>by rw[Eu e]⟩
 .rw[Bx e];exact⟨fun _=>rfl,fun _=>rfl⟩
 .rw[Ck e];unfold Gv;split
  .exact⟨fun _=>rfl,fun _=>rfl⟩
  .exact⟨fun _=>(hst _ _).1,fun _=>(hst _ _).2⟩
def AJ(T:Nat->Prop)(w:World)(p:Option Addr)(l:List Int):Prop:=l=[]\/∃b o,p=some ⟨b,o,none⟩/\¬T b/\b<w.heap.size/\∀j,j<l.length->w.cell? ⟨b,o+j,none⟩=some (.int .i64 (BO l j))
section
variable {T U : Nat -> Prop} {w w' : World} {p : Option Addr} {l : List Int}
theorem AJ.num(h:AJ T w p l):Bp w p l:=by
 rcases h with rfl|⟨b,o,e,-,-,h⟩
 .exact .inl rfl
 .exact .inr ⟨b,o,e,h⟩
theorem AJ.un(h:AJ T w p l)(q:Un U w w')(hu:∀b,b<w.heap.size->U b->T b):AJ T w' p l:=
 h.imp id fun⟨b,o,e,ht,hb,h⟩=>⟨b,o,e,ht,Nat.lt_of_lt_of_le hb q.size,fun j hj=>(gC (q.block b hb fun k=>ht (hu b hb k))).trans (h j hj)⟩
theorem AJ.below(h:AJ T w p l)(q:Below w.heap.size w w'):AJ T w' p l:=h.un (U:=fun _=>False) (Un.of q) (fun _ _ e=>e.elim)
theorem AJ.mono(h:AJ T w p l)(hu:∀b,b<w.heap.size->U b->T b):AJ U w p l:=
 h.imp id fun⟨b,o,e,ht,hb,h⟩=>⟨b,o,e,fun k=>ht (hu b hb k),hb,h⟩
theorem Bp.free{B:Nat}(h:Bp w p l)(hl:∀b o s,p=some ⟨b,o,s⟩->B<=b)(ht:∀b,T b->b<B):AJ T w p l:=by
 by_cases h0:l=[]
 .exact .inl h0
 .rcases h with h|⟨b,o,e,h⟩
  .exact absurd (List.length_eq_zero_iff.1 h) h0
  .have:=List.length_pos_iff.2 h0;exact .inr ⟨b,o,e,fun k=>by have h1:=ht b k;have h2:=hl b o none e;omega,A3 (h 0 this),h⟩
end
structure AI(T:Nat->Prop)(w:World)(v:Value)(X:List Cl):Prop where
 row:F6 T 2 Ot w v X
 nums:∀x∈X,AJ T w x.p x.h.pats
structure G5(T:Nat->Prop)(w:World)(v:Value)(X:List Cl):Prop where
 row:F6 T 1 PR w v X
 nums:∀x∈X,AJ T w x.p x.h.pats
section
variable {T U : Nat -> Prop} {w w' : World} {v : Value} {X : List Cl}
theorem AI.cs(h:AI T w v X):SC w v X:=⟨h.row.row,fun x hx=>(h.nums x hx).num⟩
theorem AI.un(h:AI T w v X)(q:Un U w w')(hu:∀b,b<w.heap.size->U b->T b):AI T w' v X:=⟨h.row.un q hu,fun x hx=>(h.nums x hx).un q hu⟩
theorem AI.below(h:AI T w v X)(q:Below w.heap.size w w'):AI T w' v X:=⟨h.row.below q,fun x hx=>(h.nums x hx).below q⟩
theorem AI.mono(h:AI T w v X)(hu:∀b,b<w.heap.size->U b->T b):AI U w v X:=⟨h.row.mono hu,fun x hx=>(h.nums x hx).mono hu⟩
theorem G5.un(h:G5 T w v X)(q:Un U w w')(hu:∀b,b<w.heap.size->U b->T b):G5 T w' v X:=⟨h.row.un q hu,fun x hx=>(h.nums x hx).un q hu⟩
theorem G5.below(h:G5 T w v X)(q:Below w.heap.size w w'):G5 T w' v X:=⟨h.row.below q,fun x hx=>(h.nums x hx).below q⟩
theorem G5.mono(h:G5 T w v X)(hu:∀b,b<w.heap.size->U b->T b):G5 U w v X:=⟨h.row.mono hu,fun x hx=>(h.nums x hx).mono hu⟩
end
theorem FJ{α:Type}{f:α->List Value}{k:Nat}(hf:∀x,(f x).length=k){w:World}{B:Nat}{t:TypeId}{v:Value}{l:List α}(h:w.ownsRow B t k v l.length (AT f l)){T:Nat->Prop}(ht:∀b,T b->b<B):F6 T k f w v l:=by
 have hr:=DU hf h;obtain⟨p,c,rfl,hr⟩:=hr;refine⟨p,c,rfl,hr.imp id fun⟨b,o,e,hc⟩=>⟨b,o,e,fun k=>?_,?_,hc⟩⟩
 .have h1:=Dq h b o none e;have h2:=ht b k;omega
 .subst e;exact(h.lt b rfl).2
theorem IG(x:Cl):∀ (X:List Cl) (d:Nat),d<X.length->((AT Ot X).set (d*2) (.slice x.p x.h.pats.length x.q)).set (d*2+1) (.int .i64 x.h.whole)=AT Ot (X.set d x)
 |[],d,h=>by simp at h
 |y::X,0,h=>rfl
 |y::X,d+1,h=>by
  have ih:=IG x X d SL;have e:AT Ot (y::X)=.slice y.p y.h.pats.length y.q:: .int .i64 y.h.whole::AT Ot X:=rfl;rw[e,show(d+1)*2=d*2+1+1 by omega];simp only[List.set_cons_succ];rw[ih];rfl
theorem VH{T:Nat->Prop}(v:Value)(X:List Cl)(hX:X.length<=16384)(d:Nat)(hd:d<X.length)(x:Cl)(w:World)(hT:∀b,T b->b<w.heap.size)(h:AI T w v X)(hx:AJ T w x.p x.h.pats):
 Calls prog 44 #[v,.int .i64 (d:Int),.agg #[.slice x.p x.h.pats.length x.q,.int .i64 x.h.whole]] w fun e w'=>∃p q,e=.returned (.slice p X.length q)/\AI T w' (.slice p X.length q) (X.set d x)/\Below w.heap.size w w':=by
 obtain⟨i0,hi0,hz0,hz1,hz2⟩:=info_parts G8;have hb0:=A0 w (.cells #[.slice x.p x.h.pats.length x.q,.int .i64 x.h.whole] 60);obtain⟨u,w',hr,hb,hown⟩:=DC dE FA Nb underlying34 hi0 hz0 hz1 hz2 rfl (h.row.row.below hb0) mL oM 34;obtain⟨g,cap,rfl,hg,hgl⟩:=hown.form oM;have hs0:(w.alloc (.cells #[.slice x.p x.h.pats.length x.q,.int .i64 x.h.whole] 60)).heap.size=w.heap.size+1:=sM;have s1:=hown.stored (d*2) (.slice x.p x.h.pats.length x.q);have s2:=s1.1.stored (d*2+1) (.int .i64 x.h.whole);have hfin:=s2.1;rw[IG x X d hd]at hfin;have hfl:(AT Ot X).length=X.length*2:=Ex FA X;have y0:∃z,w'.cell? ⟨g,d*2,none⟩=some z:=by
  refine⟨(AT Ot X)[d*2]'oM,?_⟩;rw[hown.cellAt (d*2) oM,gB]
 have y1:∃z,w'.cell? ⟨g,d*2+1,none⟩=some z:=by
  refine⟨(AT Ot X)[d*2+1]'oM,?_⟩;rw[hown.cellAt (d*2+1) oM,gB]
 have f0:=hown.frozenAt (d*2);have f1:=hown.frozenAt (d*2+1);have c0:w'.cell? ⟨w.heap.size,0,none⟩=some (.slice x.p x.h.pats.length x.q):=kc hb sG;have c1:w'.cell? ⟨w.heap.size,1,none⟩=some (.int .i64 x.h.whole):=kc hb sG;obtain⟨z0,y0⟩:=y0;obtain⟨z1,y1⟩:=y1;have hbF:Below w.heap.size w ((w'.setCell ⟨g,d*2,none⟩ (.slice x.p x.h.pats.length x.q)).setCell ⟨g,d*2+1,none⟩ (.int .i64 x.h.whole)):=((bel hb0 hb).setCell XZ _).setCell XZ _;have HFIN:Hid (AI T ((w'.setCell ⟨g,d*2,none⟩ (.slice x.p x.h.pats.length x.q)).setCell ⟨g,d*2+1,none⟩ (.int .i64 x.h.whole)) (.slice (some ⟨g,0,none⟩) X.length cap) (X.set d x)/\Below w.heap.size w ((w'.setCell ⟨g,d*2,none⟩ (.slice x.p x.h.pats.length x.q)).setCell ⟨g,d*2+1,none⟩ (.int .i64 x.h.whole))):=by
  refine⟨⟨FJ FA (by rw[List.length_set];exact hfin) (fun b hb=>by have:=hT b hb;omega),fun y hy=>?_⟩,hbF⟩;rcases List.mem_or_eq_of_mem_set hy with e|rfl
  .exact(h.nums y e).below hbF
  .exact hx.below hbF
 have HR:Hid _:=hr;obtain⟨p,q,rfl,-⟩:=id h.row;obtain⟨N,hN⟩:=gA (X.length)
 rw[hN]at hd hX HR HFIN |-;have d0:(0:Int)<=(d:Int):=oM;have d1:(d:Int)<(N:Int):=oM;clear hr hb hown s1 s2 hfin hfl hbF h hN hT;go_enter func44,ntmps44;go_wp2_with(at_builtin;refine AH rF _ _ _ rF _ _ _ rF rF HR.out ?_);go_ret;exact⟨_,_,rfl,HFIN.1,HFIN.2⟩
def C6(a b c d e f g h i j:Value)(k:Nat):Value:=if k=0 then a else if k=1 then b else if k=2 then c else if k=3 then d else if k=4 then e else if k=5 then f else if k=6 then g else if k=7 then h else if k=8 then i else j
theorem Jd(a b c d e f g h i j:Value):∀k,k<(#[a,b,c,d,e,f,g,h,i,j]:Array Value).size->(#[a,b,c,d,e,f,g,h,i,j]:Array Value)[k]? =some (C6 a b c d e f g h i j k):=by
 intro k hk;have hk':k<10:=hk;obtain rfl|rfl|rfl|rfl|rfl|rfl|rfl|rfl|rfl|rfl:k=0\/k=1\/k=2\/k=3\/k=4\/k=5\/k=6\/k=7\/k=8\/k=9:=oM
 all_goals rfl
def f7(a b c d e f g:Value)(k:Nat):Value:=if k=0 then a else if k=1 then b else if k=2 then c else if k=3 then d else if k=4 then e else if k=5 then f else g
theorem UT(a b c d e f g:Value):∀k,k<(#[a,b,c,d,e,f,g]:Array Value).size->(#[a,b,c,d,e,f,g]:Array Value)[k]? =some (f7 a b c d e f g k):=by
 intro k hk;have hk':k<7:=hk;obtain rfl|rfl|rfl|rfl|rfl|rfl|rfl:k=0\/k=1\/k=2\/k=3\/k=4\/k=5\/k=6:=oM
 all_goals rfl
def f2(a b:Value)(k:Nat):Value:=if k=0 then a else b
theorem Wq(a b:Value):∀k,k<(#[a,b]:Array Value).size->(#[a,b]:Array Value)[k]? =some (f2 a b k):=by
 intro k hk;have hk':k<2:=hk;obtain rfl|rfl:k=0\/k=1:=oM
 all_goals rfl
structure DW(w:World)(F I D:Nat->Value)(v:World):Prop where
 bel:Below w.heap.size w v
 f:v.rowIs w.heap.size 69 10 F
 i:v.rowIs (w.heap.size+1) 55 7 I
 r:v.rowIs (w.heap.size+1+1) 69 10 (C6 (.slice none 0 0) (.slice none 0 0) (.slice none 0 0) (.slice none 0 0) (.slice none 0 0) (.slice none 0 0) (.slice none 0 0) (.slice none 0 0) (.slice none 0 0) (.int .i64 0))
 d:v.rowIs (w.heap.size+1+1+1) 60 2 D
theorem DW.next{w:World}{F I D:Nat->Value}{v v':World}(h:DW w F I D v)(k:Below v.heap.size v v'):DW w F I D v':=
 ⟨Go.Proofs.YtjglaibglofddaaGreat.bel h.bel k,h.f.of_block (k.block _ h.f.lt),h.i.of_block (k.block _ h.i.lt),h.r.of_block (k.block _ h.r.lt),h.d.of_block (k.block _ h.d.lt)⟩
theorem DW.size{w:World}{F I D:Nat->Value}{v:World}(h:DW w F I D v):w.heap.size+1+1+1<v.heap.size:=h.d.lt
theorem DW.put{w:World}{F I D:Nat->Value}{v:World}(h:DW w F I D v)(i:Nat)(x:Value):DW w F I (fun j=>if j=i then x else D j) (v.setCell ⟨w.heap.size+1+1+1,i,none⟩ x):=
 ⟨h.bel.setCell (by show w.heap.size<=w.heap.size+1+1+1;omega) _,h.f.setOther (by show w.heap.size≠w.heap.size+1+1+1;omega) _,h.i.setOther (by show w.heap.size+1≠w.heap.size+1+1+1;omega) _,h.r.setOther (by show w.heap.size+1+1≠w.heap.size+1+1+1;omega) _,h.d.set i x⟩
theorem DW.congr{w:World}{F I D D':Nat->Value}{v:World}(h:DW w F I D v)(k:∀j,j<2->D j=D' j):DW w F I D' v:=⟨h.bel,h.f,h.i,h.r,h.d.congr k⟩
theorem DW.start(w:World)(a0 a1 a2 a3 a4 a5 a6 a7 a8 a9 b0 b1 b2 b3 b4 b5 b6:Value):DW w (C6 a0 a1 a2 a3 a4 a5 a6 a7 a8 a9) (f7 b0 b1 b2 b3 b4 b5 b6) (f2 (.slice none 0 0) (.int .i64 0)) ((((w.alloc (.cells #[a0,a1,a2,a3,a4,a5,a6,a7,a8,a9] 69)).alloc (.cells #[b0,b1,b2,b3,b4,b5,b6] 55)).alloc (.cells #[.slice none 0 0,.slice none 0 0,.slice none 0 0,.slice none 0 0,.slice none 0 0,.slice none 0 0,.slice none 0 0,.slice none 0 0,.slice none 0 0,.int .i64 0] 69)).alloc (.cells #[.slice none 0 0,.int .i64 0] 60)):=by
 have r1:=World.rowIs_alloc w #[a0,a1,a2,a3,a4,a5,a6,a7,a8,a9] 69 _ (Jd _ _ _ _ _ _ _ _ _ _);have r2:=World.rowIs_alloc (w.alloc (.cells #[a0,a1,a2,a3,a4,a5,a6,a7,a8,a9] 69)) #[b0,b1,b2,b3,b4,b5,b6] 55 _ (UT _ _ _ _ _ _ _);have r3:=World.rowIs_alloc ((w.alloc (.cells #[a0,a1,a2,a3,a4,a5,a6,a7,a8,a9] 69)).alloc (.cells #[b0,b1,b2,b3,b4,b5,b6] 55)) #[.slice none 0 0,.slice none 0 0,.slice none 0 0,.slice none 0 0,.slice none 0 0,.slice none 0 0,.slice none 0 0,.slice none 0 0,.slice none 0 0,.int .i64 0] 69 _ (Jd _ _ _ _ _ _ _ _ _ _);have r4:=World.rowIs_alloc (((w.alloc (.cells #[a0,a1,a2,a3,a4,a5,a6,a7,a8,a9] 69)).alloc (.cells #[b0,b1,b2,b3,b4,b5,b6] 55)).alloc (.cells #[.slice none 0 0,.slice none 0 0,.slice none 0 0,.slice none 0 0,.slice none 0 0,.slice none 0 0,.slice none 0 0,.slice none 0 0,.slice none 0 0,.int .i64 0] 69)) #[.slice none 0 0,.int .i64 0] 60 _ (Wq _ _);simp only[World.size_alloc]at r2 r3 r4;exact⟨Go.Proofs.YtjglaibglofddaaGreat.bel (A0 _ _) (Go.Proofs.YtjglaibglofddaaGreat.bel (A0 _ _) (Go.Proofs.YtjglaibglofddaaGreat.bel (A0 _ _) (A0 _ _))),((r1.alloc _).alloc _).alloc _,(r2.alloc _).alloc _,r3.alloc _,r4⟩
def T2(w:World)(T:Nat->Prop)(b:Nat):Prop:=T b\/(w.heap.size<=b/\b<=w.heap.size+1+1+1)
theorem Ch{w:World}{T:Nat->Prop}(hT:∀b,T b->b<w.heap.size){b:Nat}(h:T2 w T b){v:World}(hv:w.heap.size+1+1+1<v.heap.size):b<v.heap.size:=by
 rcases h with h|h
 .have:=hT b h;omega
 .omega
theorem WQ{T:Nat->Prop}{w v:World}{u:Value}{X:List Cl}(h:AI T w u X)(k:Below w.heap.size w v):AI (T2 w T) v u X:=(h.mono fun b hb e=>e.elim id fun e=>by omega).below k
theorem JJ{T:Nat->Prop}{w v:World}{p:Option Addr}{l:List Int}(h:AJ T w p l)(k:Below w.heap.size w v):AJ (T2 w T) v p l:=(h.mono fun b hb e=>e.elim id fun e=>by omega).below k
theorem Bf{T:Nat->Prop}(ru:Value)(X:List Cl){NN:Nat}(hN:X.length=NN)(hX:NN<=16384)(kd:Nat)(hd:kd<NN)(w:World)(hT:∀b,T b->b<w.heap.size)(hcs:AI T w ru X):∀v F I D (x:Cl),DW w F I D v->AJ (T2 w T) v x.p x.h.pats->Calls prog 44 #[ru,.int .i64 (kd:Int),.agg #[.slice x.p x.h.pats.length x.q,.int .i64 x.h.whole]] v fun e w'=>∃p q,e=.returned (.slice p NN q)/\AI (T2 w T) w' (.slice p NN q) (X.set kd x)/\Below v.heap.size v w':=
 fun v F I D x h hx=>by subst hN;exact VH ru X hX kd hd x v (fun b hb=>Ch hT hb h.size) (WQ hcs h.bel) hx
structure DE(w:World)(a0 a1 a2 a3 a4 a5 a6 a7 a8 a9:Value)(v:World):Prop where
 bel:Below w.heap.size w v
 c0:v.cell? ⟨w.heap.size,0,none⟩=some a0
 c1:v.cell? ⟨w.heap.size,1,none⟩=some a1
 c2:v.cell? ⟨w.heap.size,2,none⟩=some a2
 c3:v.cell? ⟨w.heap.size,3,none⟩=some a3
 c4:v.cell? ⟨w.heap.size,4,none⟩=some a4
 c5:v.cell? ⟨w.heap.size,5,none⟩=some a5
 c6:v.cell? ⟨w.heap.size,6,none⟩=some a6
 c7:v.cell? ⟨w.heap.size,7,none⟩=some a7
 c8:v.cell? ⟨w.heap.size,8,none⟩=some a8
 c9:v.cell? ⟨w.heap.size,9,none⟩=some a9
 r0:v.cell? ⟨w.heap.size+1+1,0,none⟩=some (.slice none 0 0)
 r1:v.cell? ⟨w.heap.size+1+1,1,none⟩=some (.slice none 0 0)
 r2:v.cell? ⟨w.heap.size+1+1,2,none⟩=some (.slice none 0 0)
 r3:v.cell? ⟨w.heap.size+1+1,3,none⟩=some (.slice none 0 0)
 r4:v.cell? ⟨w.heap.size+1+1,4,none⟩=some (.slice none 0 0)
 r5:v.cell? ⟨w.heap.size+1+1,5,none⟩=some (.slice none 0 0)
 r6:v.cell? ⟨w.heap.size+1+1,6,none⟩=some (.slice none 0 0)
 r7:v.cell? ⟨w.heap.size+1+1,7,none⟩=some (.slice none 0 0)
 r8:v.cell? ⟨w.heap.size+1+1,8,none⟩=some (.slice none 0 0)
 r9:v.cell? ⟨w.heap.size+1+1,9,none⟩=some (.int .i64 0)
 y0:v.frozen? ⟨w.heap.size+1+1,0,none⟩=false
 y1:v.frozen? ⟨w.heap.size+1+1,1,none⟩=false
 y2:v.frozen? ⟨w.heap.size+1+1,2,none⟩=false
 y3:v.frozen? ⟨w.heap.size+1+1,3,none⟩=false
 y4:v.frozen? ⟨w.heap.size+1+1,4,none⟩=false
 y5:v.frozen? ⟨w.heap.size+1+1,5,none⟩=false
 y6:v.frozen? ⟨w.heap.size+1+1,6,none⟩=false
 y7:v.frozen? ⟨w.heap.size+1+1,7,none⟩=false
 y8:v.frozen? ⟨w.heap.size+1+1,8,none⟩=false
 y9:v.frozen? ⟨w.heap.size+1+1,9,none⟩=false
theorem DE.of{w:World}{a0 a1 a2 a3 a4 a5 a6 a7 a8 a9:Value}{v:World}(b:Below w.heap.size w v)(f:v.rowIs w.heap.size 69 10 (C6 a0 a1 a2 a3 a4 a5 a6 a7 a8 a9))(r:v.rowIs (w.heap.size+1+1) 69 10 (C6 (.slice none 0 0) (.slice none 0 0) (.slice none 0 0) (.slice none 0 0) (.slice none 0 0) (.slice none 0 0) (.slice none 0 0) (.slice none 0 0) (.slice none 0 0) (.int .i64 0))):DE w a0 a1 a2 a3 a4 a5 a6 a7 a8 a9 v:=
 ⟨b,f.cell (i:=0) dE,f.cell (i:=1) dE,f.cell (i:=2) dE,f.cell (i:=3) dE,f.cell (i:=4) dE,f.cell (i:=5) dE,f.cell (i:=6) dE,f.cell (i:=7) dE,f.cell (i:=8) dE,f.cell (i:=9) dE,r.cell (i:=0) dE,r.cell (i:=1) dE,r.cell (i:=2) dE,r.cell (i:=3) dE,r.cell (i:=4) dE,r.cell (i:=5) dE,r.cell (i:=6) dE,r.cell (i:=7) dE,r.cell (i:=8) dE,r.cell (i:=9) dE,r.frozen 0,r.frozen 1,r.frozen 2,r.frozen 3,r.frozen 4,r.frozen 5,r.frozen 6,r.frozen 7,r.frozen 8,r.frozen 9⟩
theorem Av{v:World}{a b:Addr}{x:Value}(h:v.cell? a=some x)(hne:¬a.block=b.block)(u:Value):(v.setCell b u).cell? a=some x:=by
 rw[gC (gE hne)];exact h
theorem Nw{T:Nat->Prop}{w W:World}(hT2:∀v:World,w.heap.size+1+1+1<v.heap.size->∀b,T2 w T b->b<v.heap.size)(hsz:w.heap.size+1+1+1<W.heap.size)(x:Int){t:TypeId}{u:Value}:AJ (T2 w T) ((W.setCell ⟨w.heap.size+1+1+1,0,none⟩ u).alloc (.cells #[.int .i64 x] t)) (some ⟨W.heap.size,0,none⟩) [x]:=by
 refine .inr ⟨W.heap.size,0,rfl,fun k=>by have:=hT2 W hsz _ k;omega,sM,fun j hj=>?_⟩;have hj0:j=0:=by have:j<1:=hj;omega
 subst hj0;have h1:(W.setCell ⟨w.heap.size+1+1+1,0,none⟩ u).heap.size=W.heap.size:=sM;have h2:=heap_alloc_new (W.setCell ⟨w.heap.size+1+1+1,0,none⟩ u) (.cells #[.int .i64 x] t);rw[h1]at h2;unfold World.cell?;simp only[h2];rfl
theorem Hs{T:Nat->Prop}{w W:World}(hT2:∀v:World,w.heap.size+1+1+1<v.heap.size->∀b,T2 w T b->b<v.heap.size)(hsz:w.heap.size+1+1+1<W.heap.size)(x:Int){t:TypeId}{u:Value}:AJ (T2 w T) ((W.alloc (.cells #[.int .i64 x] t)).setCell ⟨w.heap.size+1+1+1,0,none⟩ u) (some ⟨W.heap.size,0,none⟩) [x]:=by
 refine .inr ⟨W.heap.size,0,rfl,fun k=>by have:=hT2 W hsz _ k;omega,sM,fun j hj=>?_⟩;have hj0:j=0:=by have:j<1:=hj;omega
 subst hj0;rw[gC (gE (by show W.heap.size≠w.heap.size+1+1+1;omega))];simp[go_sem,BO]
theorem FG{T:Nat->Prop}{w v:World}{p:Option Addr}{l:List Int}(h:AJ (T2 w T) v p l)(i:Nat)(x:Value):AJ (T2 w T) (v.setCell ⟨w.heap.size+1+1+1,i,none⟩ x) p l:=
 h.un ((Un.refl (fun b=>b=w.heap.size+1+1+1) v).setCell rF _) fun b _ e=>.inr ⟨oM,oM⟩
theorem Ev{T:Nat->Prop}{w:World}{a0 a1 a2 a3 a4 a5 a6 a7 a8 a9 u:Value}{I D:Nat->Value}{v:World}{Y:List Cl}(h:DW w (C6 a0 a1 a2 a3 a4 a5 a6 a7 a8 a9) I D v)(k:AI (T2 w T) v u Y):DE w a0 a1 a2 a3 u a5 a6 a7 a8 a9 (v.setCell ⟨w.heap.size,4,none⟩ u)/\AI (T2 w T) (v.setCell ⟨w.heap.size,4,none⟩ u) u Y:=by
 have hu:Un (fun b=>b=w.heap.size) v (v.setCell ⟨w.heap.size,4,none⟩ u):=(Un.refl _ _).setCell XV _;refine⟨DE.of (h.bel.setCell XU _) ((h.f.set 4 u).congr fun j hj=>?_) (h.r.setOther XT _),k.un hu fun b _ e=>.inr ⟨oM,oM⟩⟩;exact XF
theorem Ox{T:Nat->Prop}{w:World}{a0 a1 a2 a3 a4 a5 a6 a7 a8 a9 u:Value}{I D:Nat->Value}{v:World}{Y:List Cl}(h:DW w (C6 a0 a1 a2 a3 a4 a5 a6 a7 a8 a9) I D v)(k:AI (T2 w T) v u Y):DE w a0 a1 a2 a3 a4 u a6 a7 a8 a9 (v.setCell ⟨w.heap.size,5,none⟩ u)/\AI (T2 w T) (v.setCell ⟨w.heap.size,5,none⟩ u) u Y:=by
 have hu:Un (fun b=>b=w.heap.size) v (v.setCell ⟨w.heap.size,5,none⟩ u):=(Un.refl _ _).setCell XV _;refine⟨DE.of (h.bel.setCell XU _) ((h.f.set 5 u).congr fun j hj=>?_) (h.r.setOther XT _),k.un hu fun b _ e=>.inr ⟨oM,oM⟩⟩;exact XF
theorem Ow{T:Nat->Prop}{w:World}{a0 a1 a2 a3 a4 a5 a6 a7 a8 a9 u:Value}{I D:Nat->Value}{v:World}{Y:List Cl}(h:DW w (C6 a0 a1 a2 a3 a4 a5 a6 a7 a8 a9) I D v)(k:G5 (T2 w T) v u Y):DE w a0 a1 a2 a3 a4 a5 u a7 a8 a9 (v.setCell ⟨w.heap.size,6,none⟩ u)/\G5 (T2 w T) (v.setCell ⟨w.heap.size,6,none⟩ u) u Y:=by
 have hu:Un (fun b=>b=w.heap.size) v (v.setCell ⟨w.heap.size,6,none⟩ u):=(Un.refl _ _).setCell XV _;refine⟨DE.of (h.bel.setCell XU _) ((h.f.set 6 u).congr fun j hj=>?_) (h.r.setOther XT _),k.un hu fun b _ e=>.inr ⟨oM,oM⟩⟩;exact XF
theorem IF(x:Cl):∀ (X:List Cl) (d:Nat),d<X.length->(AT PR X).set d (.slice x.p x.h.pats.length x.q)=AT PR (X.set d x)
 |[],d,h=>by simp at h
 |y::X,0,h=>rfl
 |y::X,d+1,h=>by
  have ih:=IF x X d SL;have e:AT PR (y::X)=.slice y.p y.h.pats.length y.q::AT PR X:=rfl;rw[e,List.set_cons_succ,ih];rfl
theorem U9{T:Nat->Prop}{W:World}{O:List Cl}{M:Nat}(hM:O.length=M)(hl:M<=16384){p:Option Addr}{q:Nat}(h:G5 T W (.slice p M q) O)(hT:∀b,T b->b<W.heap.size)(ix:Nat)(hix:ix<M):
 ∃g cap w1,(Builtin.append_ #[67,67] 67 #[.slice none 0 0,.slice p M q]).run prog W=.ok (.slice (some ⟨g,0,none⟩) M cap) w1/\Below W.heap.size W w1/\(∃z,w1.cell? ⟨g,ix,none⟩=some z)/\w1.frozen? ⟨g,ix,none⟩=false/\W.heap.size<=g/\∀x:Cl,AJ T W x.p x.h.pats->G5 T (w1.setCell ⟨g,ix,none⟩ (.slice x.p x.h.pats.length x.q)) (.slice (some ⟨g,0,none⟩) M cap) (O.set ix x):=by
 subst hM;obtain⟨i0,hi0,hz0,hz1,hz2⟩:=info_parts IH;obtain⟨u,w',hr,hb,hown⟩:=DC dE GW U7 underlying67 hi0 hz0 hz1 hz2 rfl h.row.row mL oM 67;obtain⟨g,cap,rfl,hg,hgl⟩:=hown.form oM;have hfl:(AT PR O).length=O.length*1:=Ex GW O;refine⟨g,cap,w',hr,hb,⟨(AT PR O)[ix]'oM,?_⟩,hown.frozenAt ix,hg,fun x hx=>?_⟩
 .rw[hown.cellAt ix oM,gB]
 .have s1:=(hown.stored ix (.slice x.p x.h.pats.length x.q)).1;rw[IF x O ix hix]at s1;have hbF:Below W.heap.size W (w'.setCell ⟨g,ix,none⟩ (.slice x.p x.h.pats.length x.q)):=hb.setCell hg _;refine⟨FJ GW (by rw[List.length_set];exact s1) hT,fun y hy=>?_⟩;rcases List.mem_or_eq_of_mem_set hy with e|rfl
  .exact(h.nums y e).below hbF
  .exact hx.below hbF
abbrev JC(v:World)(b:Nat)(b0 b1 b2 b3 b4 b5 b6 b7 b8 b9:Value):World:=(((((((((v.setCell ⟨b,0,none⟩ b0).setCell ⟨b,1,none⟩ b1).setCell ⟨b,2,none⟩ b2).setCell ⟨b,3,none⟩ b3).setCell ⟨b,4,none⟩ b4).setCell ⟨b,5,none⟩ b5).setCell ⟨b,6,none⟩ b6).setCell ⟨b,7,none⟩ b7).setCell ⟨b,8,none⟩ b8).setCell ⟨b,9,none⟩ b9
theorem GX(v:World)(b:Nat)(b0 b1 b2 b3 b4 b5 b6 b7 b8 b9:Value):Un (fun x=>x=b) v (JC v b b0 b1 b2 b3 b4 b5 b6 b7 b8 b9):=
 ((((((((((Un.refl _ _).setCell rF _).setCell rF _).setCell rF _).setCell rF _).setCell rF _).setCell rF _).setCell rF _).setCell rF _).setCell rF _).setCell rF _
theorem Hb{w:World}{a0 a1 a2 a3 a4 a5 a6 a7 a8 a9:Value}{v:World}(h:DE w a0 a1 a2 a3 a4 a5 a6 a7 a8 a9 v){b0 b1 b2 b3 b4 b5 b6 b7 b8 b9:Value}:Below w.heap.size w (JC v (w.heap.size+1+1) b0 b1 b2 b3 b4 b5 b6 b7 b8 b9):=by
 have:=GX v (w.heap.size+1+1) b0 b1 b2 b3 b4 b5 b6 b7 b8 b9;exact(Un.trans (Un.mono (T:=fun b=>b=w.heap.size+1+1) (U:=fun _=>False) ⟨h.bel.os,h.bel.tape,h.bel.output,h.bel.size,fun b hb _=>h.bel.block b hb⟩ fun _ e=>e.elim) this).below (gF _) fun b e=>by omega
theorem Jc{T:Nat->Prop}{w:World}{a0 a1 a2 a3 a4 a5 a6 a7 a8 a9 u:Value}{v:World}{Y:List Cl}(h:DE w a0 a1 a2 a3 a4 a5 a6 a7 a8 a9 v)(k:AI (T2 w T) v u Y){b0 b1 b2 b3 b4 b5 b6 b7 b8 b9:Value}:AI T (JC v (w.heap.size+1+1) b0 b1 b2 b3 b4 b5 b6 b7 b8 b9) u Y/\Below w.heap.size w (JC v (w.heap.size+1+1) b0 b1 b2 b3 b4 b5 b6 b7 b8 b9):=
 ⟨(k.un (GX v _ _ _ _ _ _ _ _ _ _ _) fun b _ e=>.inr ⟨oM,oM⟩).mono fun b _ e=>.inl e,Hb h⟩
theorem Ta{T:Nat->Prop}{w:World}{a0 a1 a2 a3 a4 a5 a6 a7 a8 a9 u:Value}{v:World}{Y:List Cl}(h:DE w a0 a1 a2 a3 a4 a5 a6 a7 a8 a9 v)(k:G5 (T2 w T) v u Y){b0 b1 b2 b3 b4 b5 b6 b7 b8 b9:Value}:G5 T (JC v (w.heap.size+1+1) b0 b1 b2 b3 b4 b5 b6 b7 b8 b9) u Y/\Below w.heap.size w (JC v (w.heap.size+1+1) b0 b1 b2 b3 b4 b5 b6 b7 b8 b9):=
 ⟨(k.un (GX v _ _ _ _ _ _ _ _ _ _ _) fun b _ e=>.inr ⟨oM,oM⟩).mono fun b _ e=>.inl e,Hb h⟩
theorem Oy{T:Nat->Prop}(p0 p1 p2 p3 p5 p6 p7 p8:Option Addr)(n0 q0 n1 q1 n2 q2 n3 q3 n5 q5 n6 q6 n7 q7 n8 q8:Nat)(ct:Int)(pr:Option Addr)(qr:Nat)(X:List Cl)(N:Nat)(hN:X.length=N)(hX:N<=16384)(nn bt:Int)(kd ka kb kk:Nat)(hd:kd<N)(w:World)(hT:∀b,T b->b<w.heap.size)(hcs:AI T w (.slice pr N qr) X)(xa:Cl)(hxa:X[ka]? =some xa)(hw:0<=xa.h.whole/\xa.h.whole<=2147483647):
 Calls prog 20 #[.agg #[(.slice p0 n0 q0),(.slice p1 n1 q1),(.slice p2 n2 q2),(.slice p3 n3 q3),.slice pr N qr,(.slice p5 n5 q5),(.slice p6 n6 q6),(.slice p7 n7 q7),(.slice p8 n8 q8),(.int .i64 ct)],.agg #[.int .i64 17,.int .i64 (kd:Int),.int .i64 (ka:Int),.int .i64 (kb:Int),.int .i64 (kk:Int),.int .i64 nn,.int .u32 bt]] w fun e w'=>∃p9 q9 x,e=.returned (.agg #[(.slice p0 n0 q0),(.slice p1 n1 q1),(.slice p2 n2 q2),(.slice p3 n3 q3),.slice p9 N q9,(.slice p5 n5 q5),(.slice p6 n6 q6),(.slice p7 n7 q7),(.slice p8 n8 q8),(.int .i64 ct)])/\x.h=⟨[Ff xa.h.whole],0⟩/\AI T w' (.slice p9 N q9) (X.set kd x)/\Below w.heap.size w w':=by
 have HPUT:Hid (∀v F I D (x:Cl),DW w F I D v->AJ (T2 w T) v x.p x.h.pats->Calls prog 44 #[.slice pr N qr,.int .i64 (kd:Int),.agg #[.slice x.p x.h.pats.length x.q,.int .i64 x.h.whole]] v fun e w'=>∃p q,e=.returned (.slice p N q)/\AI (T2 w T) w' (.slice p N q) (X.set kd x)/\Below v.heap.size v w'):=Bf (.slice pr N qr) X hN hX kd hd w hT hcs;have HT2:Hid (∀v:World,w.heap.size+1+1+1<v.heap.size->∀b,T2 w T b->b<v.heap.size):=fun v hv b hb=>Ch hT hb hv;have HXA:Hid (X[ka]? =some xa):=hxa;obtain⟨hal,hax⟩:=List.getElem?_eq_some_iff.1 hxa;obtain⟨rb,ro,rfl,hca⟩:=hcs.row.row.at hal;rw[hax]at hca;have x0:w.cell? ⟨rb,ro+ka*2,none⟩=some (.slice xa.p xa.h.pats.length xa.q):=hca.at 0 rfl;have x1:w.cell? ⟨rb,ro+ka*2+1,none⟩=some (.int .i64 xa.h.whole):=hca.at 1 rfl;have ha0:(0:Int)<=(ka:Int):=oM;have ha1:(ka:Int)<(N:Int):=oM;have hrb1:¬rb=w.heap.size:=by have:=A3 x0;intro e;simp only at this;omega
 have hrb2:¬rb=w.heap.size+1+1+1:=by have:=A3 x0;intro e;simp only at this;omega
 have HKF:Hid (∀v,Calls prog 38 #[.int .i64 xa.h.whole] v fun e w'=>e=.returned (.int .i64 (Ff xa.h.whole))/\w'=v):=fun v=>Pc _ oM oM v;have HD0:Hid (DW w (C6 (.slice p0 n0 q0) (.slice p1 n1 q1) (.slice p2 n2 q2) (.slice p3 n3 q3) (.slice (some ⟨rb,ro,none⟩) N qr) (.slice p5 n5 q5) (.slice p6 n6 q6) (.slice p7 n7 q7) (.slice p8 n8 q8) (.int .i64 ct)) (f7 (.int .i64 17) (.int .i64 (kd:Int)) (.int .i64 (ka:Int)) (.int .i64 (kb:Int)) (.int .i64 (kk:Int)) (.int .i64 nn) (.int .u32 bt)) (f2 (.slice none 0 0) (.int .i64 0)) _):=DW.start w (.slice p0 n0 q0) (.slice p1 n1 q1) (.slice p2 n2 q2) (.slice p3 n3 q3) (.slice (some ⟨rb,ro,none⟩) N qr) (.slice p5 n5 q5) (.slice p6 n6 q6) (.slice p7 n7 q7) (.slice p8 n8 q8) (.int .i64 ct) (.int .i64 17) (.int .i64 (kd:Int)) (.int .i64 (ka:Int)) (.int .i64 (kb:Int)) (.int .i64 (kk:Int)) (.int .i64 nn) (.int .u32 bt);clear hT hcs hN hxa hca hal hax;go_enter func20,ntmps20;go_upto_block 0 with fail;go_cut [] (fun wx=>∃x:Cl,Hid (x.h=⟨[Ff xa.h.whole],0⟩)/\Hid (DW w (C6 (.slice p0 n0 q0) (.slice p1 n1 q1) (.slice p2 n2 q2) (.slice p3 n3 q3) (.slice (some ⟨rb,ro,none⟩) N qr) (.slice p5 n5 q5) (.slice p6 n6 q6) (.slice p7 n7 q7) (.slice p8 n8 q8) (.int .i64 ct)) (f7 (.int .i64 17) (.int .i64 (kd:Int)) (.int .i64 (ka:Int)) (.int .i64 (kb:Int)) (.int .i64 (kk:Int)) (.int .i64 nn) (.int .u32 bt)) (f2 (.slice x.p x.h.pats.length x.q) (.int .i64 x.h.whole)) wx)/\Hid (AJ (T2 w T) wx x.p x.h.pats))
 case first=>
  obtain⟨W,hW⟩:=gA (((((w.alloc (.cells #[(.slice p0 n0 q0),(.slice p1 n1 q1),(.slice p2 n2 q2),(.slice p3 n3 q3),.slice (some ⟨rb,ro,none⟩) N qr,(.slice p5 n5 q5),(.slice p6 n6 q6),(.slice p7 n7 q7),(.slice p8 n8 q8),(.int .i64 ct)] 69)).alloc (.cells #[.int .i64 17,.int .i64 (kd:Int),.int .i64 (ka:Int),.int .i64 (kb:Int),.int .i64 (kk:Int),.int .i64 nn,.int .u32 bt] 55)).alloc (.cells #[.slice none 0 0,.slice none 0 0,.slice none 0 0,.slice none 0 0,.slice none 0 0,.slice none 0 0,.slice none 0 0,.slice none 0 0,.slice none 0 0,.int .i64 0] 69)).alloc (.cells #[.slice none 0 0,.int .i64 0] 60)))
  rw[hW]at HD0;rw[hW];clear hW;have hsz:=HD0.out.size;have f0:W.cell? ⟨w.heap.size,4,none⟩=some (.slice (some ⟨rb,ro,none⟩) N qr):=HD0.out.f.cell (i:=4) dE;have i0:W.cell? ⟨w.heap.size+1,0,none⟩=some (.int .i64 17):=HD0.out.i.cell (i:=0) dE;have i1:W.cell? ⟨w.heap.size+1,1,none⟩=some (.int .i64 (kd:Int)):=HD0.out.i.cell (i:=1) dE;have i2:W.cell? ⟨w.heap.size+1,2,none⟩=some (.int .i64 (ka:Int)):=HD0.out.i.cell (i:=2) dE;have i3:W.cell? ⟨w.heap.size+1,3,none⟩=some (.int .i64 (kb:Int)):=HD0.out.i.cell (i:=3) dE;have i4:W.cell? ⟨w.heap.size+1,4,none⟩=some (.int .i64 (kk:Int)):=HD0.out.i.cell (i:=4) dE;have i5:W.cell? ⟨w.heap.size+1,5,none⟩=some (.int .i64 nn):=HD0.out.i.cell (i:=5) dE;have i6:W.cell? ⟨w.heap.size+1,6,none⟩=some (.int .u32 bt):=HD0.out.i.cell (i:=6) dE;have d0:W.cell? ⟨w.heap.size+1+1+1,0,none⟩=some (.slice none 0 0):=HD0.out.d.cell (i:=0) dE;have d1:W.cell? ⟨w.heap.size+1+1+1,1,none⟩=some (.int .i64 0):=HD0.out.d.cell (i:=1) dE;have z0:=HD0.out.d.frozen 0;have z1:=HD0.out.d.frozen 1;have x2:=kc HD0.out.bel x0;have x3:=kc HD0.out.bel x1;have d2:=fun o=>kc (A0 W o) d0;have z2:=fun o=>kf (A0 W o) d0 z0;go_wp2_with(go_at_call 38;(with_reducible refine(HKF.out _).mono ?_);rintro e w3 ⟨rfl,hw3⟩;obtain rfl:=hw3.symm);go_meet;exact⟨⟨some ⟨W.heap.size,0,none⟩,1,⟨[Ff xa.h.whole],0⟩⟩,rfl,((HD0.out.put 0 _).next (A0 _ _)).congr (fun j hj=>by obtain rfl|rfl:j=0\/j=1:=oM;all_goals rfl),Nw HT2.out (HD0.out.size) _⟩
 case rest=>
  exact VY
theorem Qg{T:Nat->Prop}(p0 p1 p2 p3 p5 p6 p7 p8:Option Addr)(n0 q0 n1 q1 n2 q2 n3 q3 n5 q5 n6 q6 n7 q7 n8 q8:Nat)(ct:Int)(pr:Option Addr)(qr:Nat)(X:List Cl)(N:Nat)(hN:X.length=N)(hX:N<=16384)(nn bt:Int)(kd ka kb kk:Nat)(hd:kd<N)(w:World)(hT:∀b,T b->b<w.heap.size)(hcs:AI T w (.slice pr N qr) X)(xa:Cl)(hxa:X[ka]? =some xa)(hp:∀y∈xa.h.pats,Ar y)(hl:xa.h.pats.length<=4096):
 Calls prog 20 #[.agg #[(.slice p0 n0 q0),(.slice p1 n1 q1),(.slice p2 n2 q2),(.slice p3 n3 q3),.slice pr N qr,(.slice p5 n5 q5),(.slice p6 n6 q6),(.slice p7 n7 q7),(.slice p8 n8 q8),(.int .i64 ct)],.agg #[.int .i64 19,.int .i64 (kd:Int),.int .i64 (ka:Int),.int .i64 (kb:Int),.int .i64 (kk:Int),.int .i64 nn,.int .u32 bt]] w fun e w'=>∃p9 q9 x,e=.returned (.agg #[(.slice p0 n0 q0),(.slice p1 n1 q1),(.slice p2 n2 q2),(.slice p3 n3 q3),.slice p9 N q9,(.slice p5 n5 q5),(.slice p6 n6 q6),(.slice p7 n7 q7),(.slice p8 n8 q8),(.int .i64 ct)])/\x.h=⟨[Im (BO xa.h.pats) xa.h.pats.length],0⟩/\AI T w' (.slice p9 N q9) (X.set kd x)/\Below w.heap.size w w':=by
 have HPUT:Hid (∀v F I D (x:Cl),DW w F I D v->AJ (T2 w T) v x.p x.h.pats->Calls prog 44 #[.slice pr N qr,.int .i64 (kd:Int),.agg #[.slice x.p x.h.pats.length x.q,.int .i64 x.h.whole]] v fun e w'=>∃p q,e=.returned (.slice p N q)/\AI (T2 w T) w' (.slice p N q) (X.set kd x)/\Below v.heap.size v w'):=Bf (.slice pr N qr) X hN hX kd hd w hT hcs;have HT2:Hid (∀v:World,w.heap.size+1+1+1<v.heap.size->∀b,T2 w T b->b<v.heap.size):=fun v hv b hb=>Ch hT hb hv;have HXA:Hid (X[ka]? =some xa):=hxa;obtain⟨hal,hax⟩:=List.getElem?_eq_some_iff.1 hxa;obtain⟨rb,ro,rfl,hca⟩:=hcs.row.row.at hal;rw[hax]at hca;have x0:w.cell? ⟨rb,ro+ka*2,none⟩=some (.slice xa.p xa.h.pats.length xa.q):=hca.at 0 rfl;have x1:w.cell? ⟨rb,ro+ka*2+1,none⟩=some (.int .i64 xa.h.whole):=hca.at 1 rfl;have ha0:(0:Int)<=(ka:Int):=oM;have ha1:(ka:Int)<(N:Int):=oM;have hrb1:¬rb=w.heap.size:=by have:=A3 x0;intro e;simp only at this;omega
 have hrb2:¬rb=w.heap.size+1+1+1:=by have:=A3 x0;intro e;simp only at this;omega
 have hna:=(hcs.nums xa (List.mem_of_getElem? hxa)).num;have HKF:Hid (∀v,Below w.heap.size w v->Calls prog 40 #[.slice xa.p xa.h.pats.length xa.q] v fun e w'=>e=.returned (.int .i64 (Im (BO xa.h.pats) xa.h.pats.length))/\Below v.heap.size v w'):=fun v hb=>PJ xa.p xa.h.pats.length xa.q (BO xa.h.pats) (BQ hp) oM v (hna.below hb);have HD0:Hid (DW w (C6 (.slice p0 n0 q0) (.slice p1 n1 q1) (.slice p2 n2 q2) (.slice p3 n3 q3) (.slice (some ⟨rb,ro,none⟩) N qr) (.slice p5 n5 q5) (.slice p6 n6 q6) (.slice p7 n7 q7) (.slice p8 n8 q8) (.int .i64 ct)) (f7 (.int .i64 19) (.int .i64 (kd:Int)) (.int .i64 (ka:Int)) (.int .i64 (kb:Int)) (.int .i64 (kk:Int)) (.int .i64 nn) (.int .u32 bt)) (f2 (.slice none 0 0) (.int .i64 0)) _):=DW.start w (.slice p0 n0 q0) (.slice p1 n1 q1) (.slice p2 n2 q2) (.slice p3 n3 q3) (.slice (some ⟨rb,ro,none⟩) N qr) (.slice p5 n5 q5) (.slice p6 n6 q6) (.slice p7 n7 q7) (.slice p8 n8 q8) (.int .i64 ct) (.int .i64 19) (.int .i64 (kd:Int)) (.int .i64 (ka:Int)) (.int .i64 (kb:Int)) (.int .i64 (kk:Int)) (.int .i64 nn) (.int .u32 bt);clear hT hcs hN hxa hca hal hax hna hp;go_enter func20,ntmps20;go_upto_block 0 with fail;go_cut [] (fun wx=>∃x:Cl,Hid (x.h=⟨[Im (BO xa.h.pats) xa.h.pats.length],0⟩)/\Hid (DW w (C6 (.slice p0 n0 q0) (.slice p1 n1 q1) (.slice p2 n2 q2) (.slice p3 n3 q3) (.slice (some ⟨rb,ro,none⟩) N qr) (.slice p5 n5 q5) (.slice p6 n6 q6) (.slice p7 n7 q7) (.slice p8 n8 q8) (.int .i64 ct)) (f7 (.int .i64 19) (.int .i64 (kd:Int)) (.int .i64 (ka:Int)) (.int .i64 (kb:Int)) (.int .i64 (kk:Int)) (.int .i64 nn) (.int .u32 bt)) (f2 (.slice x.p x.h.pats.length x.q) (.int .i64 x.h.whole)) wx)/\Hid (AJ (T2 w T) wx x.p x.h.pats))
 case first=>
  obtain⟨W,hW⟩:=gA (((((w.alloc (.cells #[(.slice p0 n0 q0),(.slice p1 n1 q1),(.slice p2 n2 q2),(.slice p3 n3 q3),.slice (some ⟨rb,ro,none⟩) N qr,(.slice p5 n5 q5),(.slice p6 n6 q6),(.slice p7 n7 q7),(.slice p8 n8 q8),(.int .i64 ct)] 69)).alloc (.cells #[.int .i64 19,.int .i64 (kd:Int),.int .i64 (ka:Int),.int .i64 (kb:Int),.int .i64 (kk:Int),.int .i64 nn,.int .u32 bt] 55)).alloc (.cells #[.slice none 0 0,.slice none 0 0,.slice none 0 0,.slice none 0 0,.slice none 0 0,.slice none 0 0,.slice none 0 0,.slice none 0 0,.slice none 0 0,.int .i64 0] 69)).alloc (.cells #[.slice none 0 0,.int .i64 0] 60)))
  rw[hW]at HD0;rw[hW];clear hW;have hsz:=HD0.out.size;have f0:W.cell? ⟨w.heap.size,4,none⟩=some (.slice (some ⟨rb,ro,none⟩) N qr):=HD0.out.f.cell (i:=4) dE;have i0:W.cell? ⟨w.heap.size+1,0,none⟩=some (.int .i64 19):=HD0.out.i.cell (i:=0) dE;have i1:W.cell? ⟨w.heap.size+1,1,none⟩=some (.int .i64 (kd:Int)):=HD0.out.i.cell (i:=1) dE;have i2:W.cell? ⟨w.heap.size+1,2,none⟩=some (.int .i64 (ka:Int)):=HD0.out.i.cell (i:=2) dE;have i3:W.cell? ⟨w.heap.size+1,3,none⟩=some (.int .i64 (kb:Int)):=HD0.out.i.cell (i:=3) dE;have i4:W.cell? ⟨w.heap.size+1,4,none⟩=some (.int .i64 (kk:Int)):=HD0.out.i.cell (i:=4) dE;have i5:W.cell? ⟨w.heap.size+1,5,none⟩=some (.int .i64 nn):=HD0.out.i.cell (i:=5) dE;have i6:W.cell? ⟨w.heap.size+1,6,none⟩=some (.int .u32 bt):=HD0.out.i.cell (i:=6) dE;have d0:W.cell? ⟨w.heap.size+1+1+1,0,none⟩=some (.slice none 0 0):=HD0.out.d.cell (i:=0) dE;have d1:W.cell? ⟨w.heap.size+1+1+1,1,none⟩=some (.int .i64 0):=HD0.out.d.cell (i:=1) dE;have z0:=HD0.out.d.frozen 0;have z1:=HD0.out.d.frozen 1;have x2:=kc HD0.out.bel x0;have x3:=kc HD0.out.bel x1;go_wp2_with(go_at_call 40;(with_reducible refine(HKF.out _ HD0.out.bel).mono ?_);rintro e w3 ⟨rfl,hb3⟩;have HD3:Hid (DW w (C6 (.slice p0 n0 q0) (.slice p1 n1 q1) (.slice p2 n2 q2) (.slice p3 n3 q3) (.slice (some ⟨rb,ro,none⟩) N qr) (.slice p5 n5 q5) (.slice p6 n6 q6) (.slice p7 n7 q7) (.slice p8 n8 q8) (.int .i64 ct)) _ _ w3):=HD0.out.next hb3;clear hb3 d0 d1 z0 z1;have d0:w3.cell? ⟨w.heap.size+1+1+1,0,none⟩=some (.slice none 0 0):=HD3.out.d.cell (i:=0) dE;have d1:w3.cell? ⟨w.heap.size+1+1+1,1,none⟩=some (.int .i64 0):=HD3.out.d.cell (i:=1) dE;have z0:=HD3.out.d.frozen 0;have z1:=HD3.out.d.frozen 1;have d2:=(fun o=>kc (A0 w3 o) d0);have z2:=(fun o=>kf (A0 w3 o) d0 z0));go_meet;exact⟨⟨some ⟨w3.heap.size,0,none⟩,1,⟨[Im (BO xa.h.pats) xa.h.pats.length],0⟩⟩,rfl,((HD3.out.next (A0 _ _)).put 0 _).congr (fun j hj=>by obtain rfl|rfl:j=0\/j=1:=oM;all_goals rfl),Hs HT2.out (HD3.out.size) _⟩
 case rest=>
  exact VY
theorem LV{T:Nat->Prop}(p0 p1 p2 p3 p5 p6 p7 p8:Option Addr)(n0 q0 n1 q1 n2 q2 n3 q3 n5 q5 n6 q6 n7 q7 n8 q8:Nat)(ct:Int)(pr:Option Addr)(qr:Nat)(X:List Cl)(N:Nat)(hN:X.length=N)(hX:N<=16384)(nn bt:Int)(kd ka kb kk:Nat)(hd:kd<N)(w:World)(hT:∀b,T b->b<w.heap.size)(hcs:AI T w (.slice pr N qr) X)(xa:Cl)(hxa:X[ka]? =some xa)(hp:∀y∈xa.h.pats,Ar y)(hl:xa.h.pats.length<=4096):
 Calls prog 20 #[.agg #[(.slice p0 n0 q0),(.slice p1 n1 q1),(.slice p2 n2 q2),(.slice p3 n3 q3),.slice pr N qr,(.slice p5 n5 q5),(.slice p6 n6 q6),(.slice p7 n7 q7),(.slice p8 n8 q8),(.int .i64 ct)],.agg #[.int .i64 20,.int .i64 (kd:Int),.int .i64 (ka:Int),.int .i64 (kb:Int),.int .i64 (kk:Int),.int .i64 nn,.int .u32 bt]] w fun e w'=>∃p9 q9 x,e=.returned (.agg #[(.slice p0 n0 q0),(.slice p1 n1 q1),(.slice p2 n2 q2),(.slice p3 n3 q3),.slice p9 N q9,(.slice p5 n5 q5),(.slice p6 n6 q6),(.slice p7 n7 q7),(.slice p8 n8 q8),(.int .i64 ct)])/\x.h=⟨[Dy (BO xa.h.pats) xa.h.pats.length],0⟩/\AI T w' (.slice p9 N q9) (X.set kd x)/\Below w.heap.size w w':=by
 have HPUT:Hid (∀v F I D (x:Cl),DW w F I D v->AJ (T2 w T) v x.p x.h.pats->Calls prog 44 #[.slice pr N qr,.int .i64 (kd:Int),.agg #[.slice x.p x.h.pats.length x.q,.int .i64 x.h.whole]] v fun e w'=>∃p q,e=.returned (.slice p N q)/\AI (T2 w T) w' (.slice p N q) (X.set kd x)/\Below v.heap.size v w'):=Bf (.slice pr N qr) X hN hX kd hd w hT hcs;have HT2:Hid (∀v:World,w.heap.size+1+1+1<v.heap.size->∀b,T2 w T b->b<v.heap.size):=fun v hv b hb=>Ch hT hb hv;have HXA:Hid (X[ka]? =some xa):=hxa;obtain⟨hal,hax⟩:=List.getElem?_eq_some_iff.1 hxa;obtain⟨rb,ro,rfl,hca⟩:=hcs.row.row.at hal;rw[hax]at hca;have x0:w.cell? ⟨rb,ro+ka*2,none⟩=some (.slice xa.p xa.h.pats.length xa.q):=hca.at 0 rfl;have x1:w.cell? ⟨rb,ro+ka*2+1,none⟩=some (.int .i64 xa.h.whole):=hca.at 1 rfl;have ha0:(0:Int)<=(ka:Int):=oM;have ha1:(ka:Int)<(N:Int):=oM;have hrb1:¬rb=w.heap.size:=by have:=A3 x0;intro e;simp only at this;omega
 have hrb2:¬rb=w.heap.size+1+1+1:=by have:=A3 x0;intro e;simp only at this;omega
 have hna:=(hcs.nums xa (List.mem_of_getElem? hxa)).num;have HKF:Hid (∀v,Below w.heap.size w v->Calls prog 41 #[.slice xa.p xa.h.pats.length xa.q] v fun e w'=>e=.returned (.int .i64 (Dy (BO xa.h.pats) xa.h.pats.length))/\Below v.heap.size v w'):=fun v hb=>Mz xa.p xa.h.pats.length xa.q (BO xa.h.pats) (BQ hp) oM v (hna.below hb);have HD0:Hid (DW w (C6 (.slice p0 n0 q0) (.slice p1 n1 q1) (.slice p2 n2 q2) (.slice p3 n3 q3) (.slice (some ⟨rb,ro,none⟩) N qr) (.slice p5 n5 q5) (.slice p6 n6 q6) (.slice p7 n7 q7) (.slice p8 n8 q8) (.int .i64 ct)) (f7 (.int .i64 20) (.int .i64 (kd:Int)) (.int .i64 (ka:Int)) (.int .i64 (kb:Int)) (.int .i64 (kk:Int)) (.int .i64 nn) (.int .u32 bt)) (f2 (.slice none 0 0) (.int .i64 0)) _):=DW.start w (.slice p0 n0 q0) (.slice p1 n1 q1) (.slice p2 n2 q2) (.slice p3 n3 q3) (.slice (some ⟨rb,ro,none⟩) N qr) (.slice p5 n5 q5) (.slice p6 n6 q6) (.slice p7 n7 q7) (.slice p8 n8 q8) (.int .i64 ct) (.int .i64 20) (.int .i64 (kd:Int)) (.int .i64 (ka:Int)) (.int .i64 (kb:Int)) (.int .i64 (kk:Int)) (.int .i64 nn) (.int .u32 bt);clear hT hcs hN hxa hca hal hax hna hp;go_enter func20,ntmps20;go_upto_block 0 with fail;go_cut [] (fun wx=>∃x:Cl,Hid (x.h=⟨[Dy (BO xa.h.pats) xa.h.pats.length],0⟩)/\Hid (DW w (C6 (.slice p0 n0 q0) (.slice p1 n1 q1) (.slice p2 n2 q2) (.slice p3 n3 q3) (.slice (some ⟨rb,ro,none⟩) N qr) (.slice p5 n5 q5) (.slice p6 n6 q6) (.slice p7 n7 q7) (.slice p8 n8 q8) (.int .i64 ct)) (f7 (.int .i64 20) (.int .i64 (kd:Int)) (.int .i64 (ka:Int)) (.int .i64 (kb:Int)) (.int .i64 (kk:Int)) (.int .i64 nn) (.int .u32 bt)) (f2 (.slice x.p x.h.pats.length x.q) (.int .i64 x.h.whole)) wx)/\Hid (AJ (T2 w T) wx x.p x.h.pats))
 case first=>
  obtain⟨W,hW⟩:=gA (((((w.alloc (.cells #[(.slice p0 n0 q0),(.slice p1 n1 q1),(.slice p2 n2 q2),(.slice p3 n3 q3),.slice (some ⟨rb,ro,none⟩) N qr,(.slice p5 n5 q5),(.slice p6 n6 q6),(.slice p7 n7 q7),(.slice p8 n8 q8),(.int .i64 ct)] 69)).alloc (.cells #[.int .i64 20,.int .i64 (kd:Int),.int .i64 (ka:Int),.int .i64 (kb:Int),.int .i64 (kk:Int),.int .i64 nn,.int .u32 bt] 55)).alloc (.cells #[.slice none 0 0,.slice none 0 0,.slice none 0 0,.slice none 0 0,.slice none 0 0,.slice none 0 0,.slice none 0 0,.slice none 0 0,.slice none 0 0,.int .i64 0] 69)).alloc (.cells #[.slice none 0 0,.int .i64 0] 60)))
  rw[hW]at HD0;rw[hW];clear hW;have hsz:=HD0.out.size;have f0:W.cell? ⟨w.heap.size,4,none⟩=some (.slice (some ⟨rb,ro,none⟩) N qr):=HD0.out.f.cell (i:=4) dE;have i0:W.cell? ⟨w.heap.size+1,0,none⟩=some (.int .i64 20):=HD0.out.i.cell (i:=0) dE;have i1:W.cell? ⟨w.heap.size+1,1,none⟩=some (.int .i64 (kd:Int)):=HD0.out.i.cell (i:=1) dE;have i2:W.cell? ⟨w.heap.size+1,2,none⟩=some (.int .i64 (ka:Int)):=HD0.out.i.cell (i:=2) dE;have i3:W.cell? ⟨w.heap.size+1,3,none⟩=some (.int .i64 (kb:Int)):=HD0.out.i.cell (i:=3) dE;have i4:W.cell? ⟨w.heap.size+1,4,none⟩=some (.int .i64 (kk:Int)):=HD0.out.i.cell (i:=4) dE;have i5:W.cell? ⟨w.heap.size+1,5,none⟩=some (.int .i64 nn):=HD0.out.i.cell (i:=5) dE;have i6:W.cell? ⟨w.heap.size+1,6,none⟩=some (.int .u32 bt):=HD0.out.i.cell (i:=6) dE;have d0:W.cell? ⟨w.heap.size+1+1+1,0,none⟩=some (.slice none 0 0):=HD0.out.d.cell (i:=0) dE;have d1:W.cell? ⟨w.heap.size+1+1+1,1,none⟩=some (.int .i64 0):=HD0.out.d.cell (i:=1) dE;have z0:=HD0.out.d.frozen 0;have z1:=HD0.out.d.frozen 1;have x2:=kc HD0.out.bel x0;have x3:=kc HD0.out.bel x1;go_wp2_with(go_at_call 41;(with_reducible refine(HKF.out _ HD0.out.bel).mono ?_);rintro e w3 ⟨rfl,hb3⟩;have HD3:Hid (DW w (C6 (.slice p0 n0 q0) (.slice p1 n1 q1) (.slice p2 n2 q2) (.slice p3 n3 q3) (.slice (some ⟨rb,ro,none⟩) N qr) (.slice p5 n5 q5) (.slice p6 n6 q6) (.slice p7 n7 q7) (.slice p8 n8 q8) (.int .i64 ct)) _ _ w3):=HD0.out.next hb3;clear hb3 d0 d1 z0 z1;have d0:w3.cell? ⟨w.heap.size+1+1+1,0,none⟩=some (.slice none 0 0):=HD3.out.d.cell (i:=0) dE;have d1:w3.cell? ⟨w.heap.size+1+1+1,1,none⟩=some (.int .i64 0):=HD3.out.d.cell (i:=1) dE;have z0:=HD3.out.d.frozen 0;have z1:=HD3.out.d.frozen 1;have d2:=(fun o=>kc (A0 w3 o) d0);have z2:=(fun o=>kf (A0 w3 o) d0 z0));go_meet;exact⟨⟨some ⟨w3.heap.size,0,none⟩,1,⟨[Dy (BO xa.h.pats) xa.h.pats.length],0⟩⟩,rfl,((HD3.out.next (A0 _ _)).put 0 _).congr (fun j hj=>by obtain rfl|rfl:j=0\/j=1:=oM;all_goals rfl),Hs HT2.out (HD3.out.size) _⟩
 case rest=>
  exact VY
end Go.Proofs.YtjglaibglofddaaGreat
