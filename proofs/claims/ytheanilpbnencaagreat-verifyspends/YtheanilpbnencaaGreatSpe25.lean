import Derived.Test.YtheanilpbnencaaGreatSpe1
import Derived.Test.YtheanilpbnencaaGreatSpe21
import Derived.Test.YtheanilpbnencaaGreatSpe7
import Derived.Test.YtheanilpbnencaaGreatSpe22
import Derived.Test.YtheanilpbnencaaGreatSpe23
import Derived.Test.YtheanilpbnencaaGreatSpe24
import Derived.Test.YtheanilpbnencaaGreatSpe19
import Derived.Deep.DeepCutAuto
namespace Go.Proofs.YtheanilpbnencaaGreat
open Go.RowKit Go.Proofs.Tryz
set_option linter.all false
set_option maxRecDepth 100000
set_option maxHeartbeats 16000000
theorem Sr{c:Cd}(hg:Good c){t:Ty}(ht:t.kind=3->Ab t.par c.sign.length=true):DM c.sign t=if t.kind=3 then(lenOf c t.par:Int)else 1:=by
 unfold DM;by_cases h3:t.kind=3
 .rw[if_neg (fun e=>e h3),if_pos (ht h3),if_pos h3];obtain⟨h0,h1⟩:=AR.1 (ht h3);have hl:t.par.toNat<c.sign.length:=oM;unfold lenOf;rw[gB hl];have:=hg.len _ (gD hl);show c.sign[t.par.toNat].len=((c.sign[t.par.toNat].len.toNat:Nat):Int);omega
 .rw[if_pos h3,if_neg h3]
theorem S6(c:Cd)(hg:Good c)(v0 v1 v2 v3:Value)(op A B C nn bt:Int)(ho:(3<=op/\op<=15)\/op=29\/op=30\/op=32)(k:Nat)(hk:k<c.regs.length)(w:World)(hv:Cy w v0 v1 v2 v3 c):
 Calls prog 19 #[.agg #[v0,v1,v2,v3],.agg #[.int .i64 op,.int .i64 (k:Int),.int .i64 A,.int .i64 B,.int .i64 C,.int .i64 nn,.int .u32 bt]] w fun e w'=>e=.returned (.int .i64 (DM c.sign c.regs[k]))/\Below w.heap.size w w':=by
 rw[Sr hg (fun h=>hg.type (gD hk) h)];have KW:=DX v0 v1 v2 v3 c hg c.regs[k] (fun h=>hg.type (gD hk) h);obtain⟨p1,q1,rfl,-⟩:=id hv.regs;obtain⟨lb,lo,rfl,hreg⟩:=hv.regs.at hk;obtain⟨⟨tk,tp⟩,hT⟩:∃t:Ty,c.regs[k]=t:=⟨_,rfl⟩
 rw[hT]at hreg KW |-;unfold DB at KW;simp only at KW |-;obtain⟨Wd,hWd⟩:∃W,(if tk=3 then lenOf c tp else 1)=W:=⟨_,rfl⟩
 have hWi:(if tk=3 then(lenOf c tp:Int)else 1)=(Wd:Int):=by rw[<-hWd];split<;>rfl
 rw[hWi]at KW |-;obtain⟨n1,hn1⟩:∃n,c.regs.length=n:=⟨_,rfl⟩
 rw[hn1]at hk KW |-;obtain⟨D,hD⟩:∃d:Int,(k:Int)=d:=⟨_,rfl⟩
 rw[hD];have z0:w.cell? ⟨lb,lo+k*2,none⟩=some (.int .i64 tk):=hreg.at 0 rfl;have z1:w.cell? ⟨lb,lo+k*2+1,none⟩=some (.int .i64 tp):=hreg.at 1 rfl;have HKW:Hid (∀v,Below w.heap.size w v->Calls prog 33 #[.agg #[v0,.slice (some ⟨lb,lo,none⟩) n1 q1,v2,v3],.agg #[.int .i64 tk,.int .i64 tp]] v fun e w'=>e=.returned (.int .i64 (Wd:Int))/\Below v.heap.size v w'):=fun v hb=>KW v (by have h9:=hv.below hb;rw[hn1]at h9;exact h9);subst hD;have HT:Hid (TW w v0 (.slice (some ⟨lb,lo,none⟩) n1 q1) v2 v3 (w.heap.size+1) op (k:Int) A B C nn bt _):=TW.start w v0 _ v2 v3 op (k:Int) A B C nn bt;obtain⟨hb00,c0,c1,c2,c3,i0,i1,i2,i3,i4,i5,i6⟩:=HT.out;have x0:=kc hb00 z0;have x1:=kc hb00 z1;have d1:(0:Int)<=(k:Int):=oM;have d2:(k:Int)<(n1:Int):=oM;have hrl:=hg.regsL;rw[hn1]at hrl;clear KW hreg hT hWd hWi hn1 hv hg;rcases ho with⟨o1,o2⟩|rfl|rfl|rfl
 all_goals
  go_enter func19,ntmps19;go_wp2;refine rG (fun v=>v.cell? ⟨w.heap.size,0,none⟩=some v0/\v.cell? ⟨w.heap.size,1,none⟩=some (.slice (some ⟨lb,lo,none⟩) n1 q1)/\v.cell? ⟨w.heap.size,2,none⟩=some v2/\v.cell? ⟨w.heap.size,3,none⟩=some v3/\v.cell? ⟨w.heap.size+1,1,none⟩=some (.int .i64 (k:Int))/\v.cell? ⟨lb,lo+k*2,none⟩=some (.int .i64 tk)/\v.cell? ⟨lb,lo+k*2+1,none⟩=some (.int .i64 tp)) fun hJ=>?_;refine Tf 0 1 2 3 4 5 ?_;refine Bm 6 ?_;clear hJ;refine AC 7 fun K hK=>?_;go_simp;(go_at_call 33;(with_reducible refine(HKW.out _ (bel HT.out.bel (A4 _))).mono ?_);rintro e w2 ⟨rfl,hb2⟩;have HT2:Hid (TW w v0 (.slice (some ⟨lb,lo,none⟩) n1 q1) v2 v3 (w.heap.size+1) _ (k:Int) A B C nn bt w2):=HT.out.next (bel (A4 _) hb2);clear hb2 c0 c1 c2 c3 i0 i1 i2 i3 i4 i5 i6 x0 x1;obtain⟨hb02,c0,c1,c2,c3,i0,i1,i2,i3,i4,i5,i6⟩:=HT2.out;have x0:=kc hb02 z0;have x1:=kc hb02 z1);exact Z2
theorem S4(c:Cd)(hg:Good c)(v0 v1 v2 v3:Value)(op A B C nn bt:Int)(ho:op=31\/op=33\/op=19\/op=20)(k:Nat)(hk:k<c.regs.length)(w:World)(hv:Cy w v0 v1 v2 v3 c):
 Calls prog 19 #[.agg #[v0,v1,v2,v3],.agg #[.int .i64 op,.int .i64 A,.int .i64 (k:Int),.int .i64 B,.int .i64 C,.int .i64 nn,.int .u32 bt]] w fun e w'=>e=.returned (.int .i64 (DM c.sign c.regs[k]))/\Below w.heap.size w w':=by
 rw[Sr hg (fun h=>hg.type (gD hk) h)];have KW:=DX v0 v1 v2 v3 c hg c.regs[k] (fun h=>hg.type (gD hk) h);obtain⟨p1,q1,rfl,-⟩:=id hv.regs;obtain⟨lb,lo,rfl,hreg⟩:=hv.regs.at hk;obtain⟨⟨tk,tp⟩,hT⟩:∃t:Ty,c.regs[k]=t:=⟨_,rfl⟩
 rw[hT]at hreg KW |-;unfold DB at KW;simp only at KW |-;obtain⟨Wd,hWd⟩:∃W,(if tk=3 then lenOf c tp else 1)=W:=⟨_,rfl⟩
 have hWi:(if tk=3 then(lenOf c tp:Int)else 1)=(Wd:Int):=by rw[<-hWd];split<;>rfl
 rw[hWi]at KW |-;obtain⟨n1,hn1⟩:∃n,c.regs.length=n:=⟨_,rfl⟩
 rw[hn1]at hk KW |-;obtain⟨D,hD⟩:∃d:Int,(k:Int)=d:=⟨_,rfl⟩
 rw[hD];have z0:w.cell? ⟨lb,lo+k*2,none⟩=some (.int .i64 tk):=hreg.at 0 rfl;have z1:w.cell? ⟨lb,lo+k*2+1,none⟩=some (.int .i64 tp):=hreg.at 1 rfl;have HKW:Hid (∀v,Below w.heap.size w v->Calls prog 33 #[.agg #[v0,.slice (some ⟨lb,lo,none⟩) n1 q1,v2,v3],.agg #[.int .i64 tk,.int .i64 tp]] v fun e w'=>e=.returned (.int .i64 (Wd:Int))/\Below v.heap.size v w'):=fun v hb=>KW v (by have h9:=hv.below hb;rw[hn1]at h9;exact h9);subst hD;have HT:Hid (TW w v0 (.slice (some ⟨lb,lo,none⟩) n1 q1) v2 v3 (w.heap.size+1) op A (k:Int) B C nn bt _):=TW.start w v0 _ v2 v3 op A (k:Int) B C nn bt;obtain⟨hb00,c0,c1,c2,c3,i0,i1,i2,i3,i4,i5,i6⟩:=HT.out;have x0:=kc hb00 z0;have x1:=kc hb00 z1;have d1:(0:Int)<=(k:Int):=oM;have d2:(k:Int)<(n1:Int):=oM;have hrl:=hg.regsL;rw[hn1]at hrl;clear KW hreg hT hWd hWi hn1 hv hg;rcases ho with rfl|rfl|rfl|rfl
 all_goals
  go_enter func19,ntmps19;go_wp2;refine rG (fun v=>v.cell? ⟨w.heap.size,0,none⟩=some v0/\v.cell? ⟨w.heap.size,1,none⟩=some (.slice (some ⟨lb,lo,none⟩) n1 q1)/\v.cell? ⟨w.heap.size,2,none⟩=some v2/\v.cell? ⟨w.heap.size,3,none⟩=some v3/\v.cell? ⟨w.heap.size+1,2,none⟩=some (.int .i64 (k:Int))/\v.cell? ⟨lb,lo+k*2,none⟩=some (.int .i64 tk)/\v.cell? ⟨lb,lo+k*2+1,none⟩=some (.int .i64 tp)) fun hJ=>?_;refine Tf 0 1 2 3 4 5 ?_;refine Bm 6 ?_;clear hJ;refine AC 7 fun K hK=>?_;go_simp;(go_at_call 33;(with_reducible refine(HKW.out _ (bel HT.out.bel (A4 _))).mono ?_);rintro e w2 ⟨rfl,hb2⟩;have HT2:Hid (TW w v0 (.slice (some ⟨lb,lo,none⟩) n1 q1) v2 v3 (w.heap.size+1) _ A (k:Int) B C nn bt w2):=HT.out.next (bel (A4 _) hb2);clear hb2 c0 c1 c2 c3 i0 i1 i2 i3 i4 i5 i6 x0 x1;obtain⟨hb02,c0,c1,c2,c3,i0,i1,i2,i3,i4,i5,i6⟩:=HT2.out;have x0:=kc hb02 z0;have x1:=kc hb02 z1);exact Z2
theorem S3(v0 v1 v2 v3:Value)(op D A B C nn bt:Int)(ho:op=1\/op=2\/op=16\/op=17\/op=18\/op=21\/op=22\/op=23\/op=24\/op=25\/op=26\/op=27\/op=28\/op=34\/op=35\/op=36\/op=37)(w:World):
 Calls prog 19 #[.agg #[v0,v1,v2,v3],.agg #[.int .i64 op,.int .i64 D,.int .i64 A,.int .i64 B,.int .i64 C,.int .i64 nn,.int .u32 bt]] w fun e w'=>e=.returned (.int .i64 (if op=16 then 62 else 1))/\Below w.heap.size w w':=by
 rcases ho with rfl|rfl|rfl|rfl|rfl|rfl|rfl|rfl|rfl|rfl|rfl|rfl|rfl|rfl|rfl|rfl|rfl
 all_goals
  first
   |rw[if_pos rfl]
   |rw[if_neg dE]
  go_enter func19,ntmps19;go_wp2;go_ret;exact PP
def Ik(v:World)(sv:Value)(p:Option Addr)(l:List Int):Prop:=l=[]\/∃b o,p=some ⟨b,o,none⟩/\sv.ownBlock≠some b/\∀j,j<l.length->v.cell? ⟨b,o+j,none⟩=some (.int .u32 (BO l j))
theorem Ik.below{v v':World}{sv:Value}{p:Option Addr}{l:List Int}(h:Ik v sv p l)(k:Below v.heap.size v v'):Ik v' sv p l:=by
 rcases h with rfl|⟨b,o,e,hn,h⟩
 .exact .inl rfl
 .exact .inr ⟨b,o,e,hn,fun j hj=>kc k (h j hj)⟩
theorem Ik.grow{V w':World}{p:Option Addr}{n q g c' m:Nat}{pp:Option Addr}{l:List Int}(h:Ik V (.slice p n q) pp l)(hk:∀b,b<V.heap.size->(Value.slice p n q).ownBlock≠some b->w'.heap[b]? =V.heap[b]?)(hg:(Value.slice p n q).ownBlock=some g\/V.heap.size<g):Ik w' (.slice (some ⟨g,0,none⟩) m c') pp l:=by
 exact Yy
structure Cu where
 p:Option Addr
 q:Nat
 l:List Int
def Xl(x:Cu):List Value:=[.slice x.p x.l.length x.q]
theorem T7(x:Cu):(Xl x).length=1:=rfl
theorem T8:∀x:Cu,∀u∈Xl x,u.oneCell'=true:=fun x u hu=>by simp[Xl]at hu;subst hu;rfl
theorem Ts:(prog.info? 96).map (fun i=>(i.zero,i.size,i.bytes))=some (some (.slice none 0 0),1,24):=kR
structure Ls(B:Nat)(v:World)(sv:Value)(X:List Cu):Prop where
 own:v.ownsRow B 96 1 sv X.length (AT Xl X)
 pats:∀x∈X,Ik v sv x.p x.l
 loc:∀x∈X,∀b o s,x.p=some ⟨b,o,s⟩->B<=b
theorem Ls.below{B:Nat}{v v':World}{sv:Value}{X:List Cu}(h:Ls B v sv X)(k:Below v.heap.size v v'):Ls B v' sv X:=⟨AA h.own k,fun x hx=>(h.pats x hx).below k,h.loc⟩
theorem Ls.nil(B:Nat)(v:World):Ls B v (.slice none 0 0) []:=⟨World.ownsRow_nil _ _ _ 1,fun x hx=>(by cases hx),fun x hx=>(by cases hx)⟩
theorem Ls.push{B:Nat}{V:World}{p:Option Addr}{q:Nat}{X:List Cu}(h:Ls B V (.slice p X.length q) X)(hB:B<=V.heap.size)(hX:X.length<=16384)(x:Cu)(hx:Ik V (.slice p X.length q) x.p x.l)(hlo:∀b o s,x.p=some ⟨b,o,s⟩->B<=b)(ty:TypeId):
 ∃g c' w',(Builtin.append_ #[39,39] ty #[.slice p X.length q,.slice (some ⟨V.heap.size,0,none⟩) 1 1]).run prog (V.alloc (.cells #[.slice x.p x.l.length x.q] 96))=.ok (.slice (some ⟨g,0,none⟩) (X.length+1) c') w'/\Below B V w'/\Ls B w' (.slice (some ⟨g,0,none⟩) (X.length+1) c') (X++[x]):=by
 obtain⟨g,c',w',hr,hb,ho,hk,hg⟩:=Kr (V:=V) underlying39 Ts rfl dE h.own hB #[.slice x.p x.l.length x.q] rfl (fun u hu=>T8 x u hu) mL oM ty;refine⟨g,c',w',hr,hb,⟨?_,fun y hy=>?_,fun y hy=>?_⟩⟩
 .rw[List.length_append,Ew];exact ho
 .rcases List.mem_append.1 hy with e|e
  .exact(h.pats y e).grow hk hg
  .simp only[List.mem_singleton]at e;subst e;exact hx.grow hk hg
 .rcases List.mem_append.1 hy with e|e
  .exact h.loc y e
  .simp only[List.mem_singleton]at e;subst e;exact hlo
theorem Ls.vs{B:Nat}{v:World}{sv:Value}{X:List Cu}(h:Ls B v sv X):Fe (fun b=>b<B) v sv (X.map (·.l)):=by
 obtain⟨p,q,rfl,hr⟩:=DU T7 h.own;have hlo:=Dq h.own;refine⟨p,q,by rw[List.length_map],?_⟩;by_cases h0:X=[]
 .exact .inl (by rw[h0];rfl)
 .rcases hr with e|⟨b,o,e,hc⟩
  .exact absurd e h0
  .have hl:=List.length_pos_iff.2 h0;have hb:b<v.heap.size:=by
    have:=(hc 0 hl).at 0 (v:=.slice (X[0]).p (X[0]).l.length (X[0]).q) rfl;exact A3 this
   refine .inr ⟨b,o,e,fun k=>by have:=hlo b o none e;omega,hb,fun i hi=>?_⟩;rw[List.length_map]at hi;have hci:=(hc i hi).at 0 (v:=.slice (X[i]).p (X[i]).l.length (X[i]).q) rfl;rw[Nat.mul_one,Nat.add_zero]at hci;refine⟨_,hci,(X[i]).p,(X[i]).q,sM,?_⟩;rw[List.getElem_map];rcases h.pats _ (gD hi)with e2|⟨b2,o2,e2,-,h2⟩
   .exact .inl e2
   .by_cases h3:(X[i]).l=[]
    .exact .inl h3
    .refine .inr ⟨b2,o2,e2,fun k=>by have:=h.loc _ (gD hi) b2 o2 none e2;omega,A3 (h2 0 (List.length_pos_iff.2 h3)),fun k hk j hj=>?_⟩;have hj0:j=0:=by have:j<1:=hj;omega
     subst hj0;rw[Nat.mul_one,Nat.add_zero,h2 k hk];simp[Xm,BO,gB hk]
def Lp(c:Cd)(f:Fr)(p:Nat):List Int:=(List.range (Nv c p)).map (f.outs p)
theorem UJ(c:Cd)(f:Fr):MV c f=(List.range c.sign.length).map (Lp c f):=rfl
theorem Dg{α:Type}(g:Nat->α)(n:Nat):(List.range (n+1)).map g=(List.range n).map g++[g n]:=by simp[List.range_succ]
theorem S2(c:Cd)(hg:Good c)(v0 v1 v2 v3 ru su ou gu pu ct:Value)(f:Fr)(X S O:List Cl)(rel:LH c f X S O)(w:World)(hv:Cy w v0 v1 v2 v3 c)(hou:Y9 w ou O):
 Calls prog 21 #[.agg #[v0,v1,v2,v3,ru,su,ou,gu,pu,ct]] w fun e w'=>∃p q,e=.returned (.slice p c.sign.length q)/\Fe (fun b=>b<w.heap.size) w' (.slice p c.sign.length q) (MV c f)/\Below w.heap.size w w':=by
 have hsl:=hg.signL;have hol:=rel.ol;obtain⟨p0,q0,rfl,-⟩:=id hv.sign;obtain⟨po,qo,rfl,-⟩:=id hou.row;have HSG:Hid (Bj 3 Bh w (.slice p0 c.sign.length q0) c.sign):=hv.sign;have HOU:Hid (Y9 w (.slice po O.length qo) O):=hou;have HRL:Hid (Good c/\LH c f X S O):=⟨hg,rel⟩
 obtain⟨n0,hn0⟩:∃n,c.sign.length=n:=⟨_,rfl⟩
 have HN0:Hid (c.sign.length=n0):=hn0;obtain⟨M,hM⟩:∃n,O.length=n:=⟨_,rfl⟩
 have HM:Hid (O.length=M/\M=2*n0):=⟨hM,oM⟩
 rw[hn0]at hsl HSG |-;rw[hM]at HOU |-;have HC:Hid (∀v,Below (w.alloc (.cells #[.slice p0 n0 q0,v1,v2,v3,ru,su,.slice po M qo,gu,pu,ct] 69)).heap.size (w.alloc (.cells #[.slice p0 n0 q0,v1,v2,v3,ru,su,.slice po M qo,gu,pu,ct] 69)) v->v.cell? ⟨w.heap.size,0,none⟩=some (.slice p0 n0 q0)/\v.cell? ⟨w.heap.size,6,none⟩=some (.slice po M qo)):=fun v hb=>⟨kc hb sG,kc hb sG⟩
 have hM2:M<=128:=oM;clear hg rel hol hv hou hn0 hM;go_enter func21,ntmps21;go_wp2
 go_loopw [3,4] (fun ov iv wr=>Below (w.alloc (.cells #[.slice p0 n0 q0,v1,v2,v3,ru,su,.slice po M qo,gu,pu,ct] 69)).heap.size (w.alloc (.cells #[.slice p0 n0 q0,v1,v2,v3,ru,su,.slice po M qo,gu,pu,ct] 69)) wr/\∃ (j:Nat) (p:Option Addr) (q:Nat) (Y:List Cu),j<=n0/\iv=.int .i64 (j:Int)/\ov=.slice p j q/\Hid (Ls (w.alloc (.cells #[.slice p0 n0 q0,v1,v2,v3,ru,su,.slice po M qo,gu,pu,ct] 69)).heap.size wr (.slice p j q) Y)/\Hid (Y.map (·.l)=(List.range j).map (Lp c f))) (fun _ iv _=>n0-(intOf iv).toNat)
 case atStart=>exact⟨BE _,0,none,0,[],gI _,rfl,rfl,Ls.nil _ _,rfl⟩
 case round=>
  obtain⟨hb,j,p,q,Y,hj,rfl,rfl,hvs,hmap⟩:=hrel;obtain⟨c0,c6⟩:=HC.out wr hb;have HYL:Hid (Y.length=j):=by
   have h5:=congrArg List.length hmap.out;rw[List.length_map,List.length_map,List.length_range]at h5;exact h5
  by_cases hlt:j<n0
  .have hjl:j<c.sign.length:=by rw[HN0.out];exact hlt
   have hol:2*j<O.length:=by rw[HM.1,HM.2];omega
   obtain⟨lb,lo,rfl,hx⟩:=HSG.at hjl;obtain⟨ob,oo,rfl,hxo⟩:=HOU.row.at hol;have HB:Hid (Below (w.alloc (.cells #[.slice (some ⟨lb,lo,none⟩) n0 q0,v1,v2,v3,ru,su,.slice (some ⟨ob,oo,none⟩) M qo,gu,pu,ct] 69)).heap.size (w.alloc (.cells #[.slice (some ⟨lb,lo,none⟩) n0 q0,v1,v2,v3,ru,su,.slice (some ⟨ob,oo,none⟩) M qo,gu,pu,ct] 69)) wr):=hb;have HBW:Hid (Below w.heap.size w wr):=bel (A0 _ _) hb;have hln:=Ho HRL.1 hjl;obtain⟨hnum,-,hl1,hl2,hap⟩:=Hr HRL.1 hjl;have hk2:Ax c (j:Int)=if c.sign[j].kind=2 then 2 else 1:=by unfold Ax BU;simp[hjl]
   obtain⟨o1,ho1,ho2,ho3,ho4⟩:=HRL.2.oo j 0 hjl oM;rw[Nat.add_zero,gB hol]at ho1;simp only[Option.some.injEq]at ho1;rw[ho1]at hxo;have hno:=HOU.nums o1 (by rw[<-ho1];exact gD hol);obtain⟨⟨nm,K,L⟩,hT⟩:∃t:Bd,c.sign[j]=t:=⟨_,rfl⟩
   rw[hT]at hx hln hl1 hl2 hk2;simp only at hln hl1 hl2 hk2;obtain⟨ln,hlnn⟩:∃n,lenOf c (j:Int)=n:=⟨_,rfl⟩
   rw[hlnn]at ho2 ho4 hln hnum;subst hln;have hlnb:ln<=4096:=oM;have u1:wr.cell? ⟨ob,oo+2*j,none⟩=some (.slice o1.p ln o1.q):=by
    have h1:=kc HBW.out (hxo.at 0 (v:=.slice o1.p o1.h.pats.length o1.q) rfl);rw[Nat.mul_one,Nat.add_zero,ho2]at h1;exact h1
   obtain⟨nb,no,hpe,hnc⟩:∃b o,o1.p=some ⟨b,o,none⟩/\∀m,m<o1.h.pats.length->w.cell? ⟨b,o+m,none⟩=some (.int .i64 (BO o1.h.pats m)):=by
    rcases hno with e|⟨b,o,e,h⟩
    .omega
    .exact⟨b,o,e,h⟩
   rw[hpe]at u1;have y0:=kc HBW.out (hx.at 0 rfl);have y1:=kc HBW.out (hx.at 1 rfl);have y2:=kc HBW.out (hx.at 2 rfl);rw[Nat.add_zero]at y0;have i1:(0:Int)<=(j:Int):=oM;have i2:(j:Int)<(n0:Int):=oM;have w1:IntKind.i64.wrap (2*(j:Int))=((2*j:Nat):Int):=by rw[IntKind.wrap_i64];omega
   have i3:(0:Int)<=((2*j:Nat):Int):=oM;have i4:((2*j:Nat):Int)<(M:Int):=by have:=HM.2;omega
   clear hb ho1 hol hxo hno hl1 hl2 hlnn hpe;by_cases hK:K=2
   .rw[if_pos hK]at hk2;have hKb:(K==2)=true:=by simpa using hK
    have hol2:2*j+1<O.length:=by rw[HM.1,HM.2];omega
    obtain⟨ob',oo',hpo',hxo2⟩:=HOU.row.at hol2;simp only[Option.some.injEq,Addr.mk.injEq,and_true]at hpo';obtain⟨rfl,rfl⟩:=hpo';obtain⟨o2,ho1',hp2,hp3,hp4⟩:=HRL.2.oo j 1 hjl oM;rw[gB hol2]at ho1';simp only[Option.some.injEq]at ho1';rw[ho1']at hxo2;have hno2:=HOU.nums o2 (by rw[<-ho1'];exact gD hol2);have hlnn:lenOf c (j:Int)=ln:=by have h1:=hnum;first|(have:=Ho HRL.1 hjl;rw[hT]at this;simp only at this;omega)
    rw[hlnn]at hp2 hp4;have u2:wr.cell? ⟨ob,oo+(2*j+1),none⟩=some (.slice o2.p ln o2.q):=by
     have h1:=kc HBW.out (hxo2.at 0 (v:=.slice o2.p o2.h.pats.length o2.q) rfl);rw[Nat.mul_one,Nat.add_zero,hp2]at h1;exact h1
    obtain⟨nb2,no2,hpe2,hnc2⟩:∃b o,o2.p=some ⟨b,o,none⟩/\∀m,m<o2.h.pats.length->w.cell? ⟨b,o+m,none⟩=some (.int .i64 (BO o2.h.pats m)):=by
     rcases hno2 with e|⟨b,o,e,h⟩
     .have:=HRL.1.len _ (gD hjl);rw[hT]at this;simp only at this;omega
     .exact⟨b,o,e,h⟩
    rw[hpe2]at u2;have w2:IntKind.i64.wrap (((2*j:Nat):Int)+1)=((2*j+1:Nat):Int):=by rw[IntKind.wrap_i64];omega
    have i5:(0:Int)<=((2*j+1:Nat):Int):=oM;have i6:((2*j+1:Nat):Int)<(M:Int):=by have:=HM.2;omega
    replace hap:Ax c (j:Int)=2:=hk2
    clear ho1' hol2 hxo2 hno2 hlnn hpe2 hk2 hK hT hjl;have HV1:Hid (∀m,m<ln->wr.cell? ⟨nb,no+m,none⟩=some (.int .i64 (f.outs j (2*m)))):=fun m hm=>by
     have h1:=kc HBW.out (hnc m (by rw[ho2];exact hm));rw[ho4 m hm]at h1;rw[hap]at h1;exact h1
    have HP1:Hid (∀m,m<ln->Ar (f.outs j (2*m))):=fun m hm=>by
     have h1:=BQ ho3 m;rw[ho4 m hm]at h1;rw[hap]at h1;exact h1
    have HV2:Hid (∀m,m<ln->wr.cell? ⟨nb2,no2+m,none⟩=some (.int .i64 (f.outs j (2*m+1)))):=fun m hm=>by
     have h1:=kc HBW.out (hnc2 m (by rw[hp2];exact hm));rw[hp4 m hm,hap]at h1;exact h1
    have HP2:Hid (∀m,m<ln->Ar (f.outs j (2*m+1))):=fun m hm=>by
     have h1:=BQ hp3 m;rw[hp4 m hm,hap]at h1;exact h1
    have HUU:Hid (Lp c f j=(List.range (2*ln)).map (f.outs j)):=by
     show _=_;unfold Lp;rw[hnum,hap]
    have b6:=fun v (hb:Below wr.heap.size wr v)=>kc hb c6;have b7:=fun v (hb:Below wr.heap.size wr v)=>kc hb u1;have b8:=fun v (hb:Below wr.heap.size wr v)=>kc hb u2;have HB6:Hid _:=b6;have HB7:Hid _:=b7;have HB8:Hid _:=b8;clear ho2 ho3 ho4 hnc hx hap hnum b6 b7 hp2 hp3 hp4 hnc2 b8;go_wp2;have HEC:Hid (∀v,Below (wr.alloc (.cells #[.string nm,.int .i64 K,.int .i64 (ln:Int)] 73)).heap.size (wr.alloc (.cells #[.string nm,.int .i64 K,.int .i64 (ln:Int)] 73)) v->v.cell? ⟨wr.heap.size,1,none⟩=some (.int .i64 K)/\v.cell? ⟨wr.heap.size,2,none⟩=some (.int .i64 (ln:Int))/\Below wr.heap.size wr v):=fun v hb=>⟨kc hb sG,kc hb sG,bel (A0 _ _) hb⟩
    have hEs:wr.heap.size<(wr.alloc (.cells #[.string nm,.int .i64 K,.int .i64 (ln:Int)] 73)).heap.size:=sM;obtain⟨WE,hWE⟩:∃W,(wr.alloc (.cells #[.string nm,.int .i64 K,.int .i64 (ln:Int)] 73))=W:=⟨_,rfl⟩
    rw[hWE]at HEC hEs;try rw[hWE]
    clear hWE c0 c6 y0 y1 y2 u1 u2
    go_loopw [6,7] (fun vv kv wx=>Below WE.heap.size WE wx/\∃ (m:Nat) (pv:Option Addr) (qv:Nat),m<=ln/\kv=.int .i64 (m:Int)/\vv=.slice pv (2*m) qv/\Hid (wx.ownsRow WE.heap.size 53 1 (.slice pv (2*m) qv) (2*m) (Jx ((List.range (2*m)).map (f.outs j))))) (fun _ kv _=>ln-(intOf kv).toNat)
    case atStart=>exact⟨BE _,0,none,0,gI _,rfl,rfl,World.ownsRow_nil _ _ _ 1⟩
    case round=>
     obtain⟨hbx,m,pv,qv,hm,rfl,rfl,how⟩:=hrel;rename World=>wx;obtain⟨e1,e2,hbw⟩:=HEC.out wx hbx;have HBX:Hid (Below WE.heap.size WE wx):=hbx;have c6:=HB6.out wx hbw;have u1:=HB7.out wx hbw;have u2:=HB8.out wx hbw;by_cases hml:m<ln
     .have a1:=kc hbw (HV1.out m hml);have hPz:=HP1.out m hml;have a2:=kc hbw (HV2.out m hml);have hPy:=HP2.out m hml;obtain⟨z,hz⟩:=gA (f.outs j (2*m))
      have HZ:Hid (f.outs j (2*m)=z):=hz;rw[hz]at a1 hPz;have tz:IntKind.u32.wrap z=z:=by rw[IntKind.wrap_u32];have:=hPz.1;have:=hPz.2;omega
      obtain⟨g,c',w8,hap1,hb8,ho8,-⟩:=F1 (V:=wx) underlying96 Hk rfl dE how.out hbx.size #[.int .u32 z] rfl Wl mL oM 96;have HAP1:Hid _:=hap1;obtain⟨y,hy⟩:∃z,f.outs j (2*m+1)=z:=⟨_,rfl⟩
      have HY:Hid (f.outs j (2*m+1)=y):=hy;rw[hy]at a2 hPy;have ty:IntKind.u32.wrap y=y:=by rw[IntKind.wrap_u32];have:=hPy.1;have:=hPy.2;omega
      have hb8':=hbx.trans hb8;obtain⟨g2,c2,w9,hap2,hb9,ho9,-⟩:=F1 (V:=w8) underlying96 Hk rfl dE ho8 hb8'.size #[.int .u32 y] rfl Wl mL oM 96;have HAP2:Hid _:=hap2;have HNX:Hid (w9.ownsRow WE.heap.size 53 1 (.slice (some ⟨g2,0,none⟩) (2*(m+1)) c2) (2*(m+1)) (Jx ((List.range (2*(m+1))).map (f.outs j)))):=by
       show World.ownsRow _ _ _ _ _ _ _;rw[show 2*(m+1)=2*m+1+1 by omega,Dg,Dg,Gc,Gc,HZ.out,HY.out];exact ho9
      have HB9:Hid (Below WE.heap.size WE w9):=hb8'.trans hb9;obtain⟨e3,e4,hbw8⟩:=HEC.out w8 hb8';have k6:=HB6.out w8 hbw8;have k7:=HB8.out w8 hbw8;have k8:=kc hbw8 (HV2.out m hml);rw[hy]at k8;have t0:(m:Int)<(ln:Int):=oM;have t5:IntKind.i64.wrap ((m:Int)+1)=((m+1:Nat):Int):=by rw[IntKind.wrap_i64];omega
      clear hap1 hb8 ho8 hz how hbx hbw hbw8 hap2 hb8' hb9 ho9 hy;go_upto_region 12 with(at_builtin;refine AH rF _ _ _ rF _ _ _ rF rF HAP1.out ?_)
      go_wp2_with(at_builtin;refine AH rF _ _ _ rF _ _ _ rF rF HAP2.out ?_);go_roundw
      case rel=>exact⟨HB9.out,m+1,_,_,oM,gN,rfl,HNX.out⟩
      case measure=>simp[intOf];omega
     .have hme:m=ln:=oM;have e9:¬ (m:Int)<(ln:Int):=oM;have hvx:=hvs.below hbw;have hlt2:=hvs.own.lt;have HJ2:Hid (m=ln):=hme;have hPA:Ik wx (.slice p j q) pv ((List.range (2*m)).map (f.outs j)):=by
       rcases NA (l:=(List.range (2*m)).map (f.outs j)) Zj with h|⟨b,o,e,h⟩
       .exact .inl (List.length_eq_zero_iff.1 h)
       .refine .inr ⟨b,o,e,fun e5=>?_,h⟩;have h6:=Dq how.out b o none e;have h7:=(hlt2 b e5).2;omega
      have hlY:Y.length=j:=HYL.out;have hvx':Ls (w.alloc (.cells #[.slice (some ⟨lb,lo,none⟩) n0 q0,v1,v2,v3,ru,su,.slice (some ⟨ob,oo,none⟩) M qo,gu,pu,ct] 69)).heap.size wx (.slice p Y.length q) Y:=by rw[hlY];exact hvx
      obtain⟨g3,c3,w7,hrun,hb7,hvs7⟩:=hvx'.push (by have h1:=HB.size;have h2:=hbw.size;omega) oM ⟨pv,qv,(List.range (2*m)).map (f.outs j)⟩ (by rw[hlY];exact hPA) (fun b o s e=>by have h6:=Dq how.out b o s e;have h7:=HB.size;omega) 39;rw[hlY]at hrun hvs7;simp only[List.length_map,List.length_range]at hrun;have HRUN:Hid _:=hrun;have HV7:Hid (Ls (w.alloc (.cells #[.slice (some ⟨lb,lo,none⟩) n0 q0,v1,v2,v3,ru,su,.slice (some ⟨ob,oo,none⟩) M qo,gu,pu,ct] 69)).heap.size w7 (.slice (some ⟨g3,0,none⟩) (j+1) c3) (Y++[⟨pv,qv,(List.range (2*m)).map (f.outs j)⟩])):=hvs7;have HB7':Hid (Below (w.alloc (.cells #[.slice (some ⟨lb,lo,none⟩) n0 q0,v1,v2,v3,ru,su,.slice (some ⟨ob,oo,none⟩) M qo,gu,pu,ct] 69)).heap.size (w.alloc (.cells #[.slice (some ⟨lb,lo,none⟩) n0 q0,v1,v2,v3,ru,su,.slice (some ⟨ob,oo,none⟩) M qo,gu,pu,ct] 69)) w7):=(HB.trans (hbw.mono HB.size)).trans hb7;have HM7:Hid ((Y++[(⟨pv,qv,(List.range (2*m)).map (f.outs j)⟩:Cu)]).map (·.l)=(List.range (j+1)).map (Lp c f)):=by
       show _=_;rw[List.map_append,hmap.out,Dg,HUU.out,HJ2.out];rfl
      exact YA
   .rw[if_neg hK]at hk2;have hKb:(K==2)=false:=by simpa using hK
    replace hap:Ax c (j:Int)=1:=hk2
    clear hk2 hK hT hjl;have HV1:Hid (∀m,m<ln->wr.cell? ⟨nb,no+m,none⟩=some (.int .i64 (f.outs j m))):=fun m hm=>by
     have h1:=kc HBW.out (hnc m (by rw[ho2];exact hm));rw[ho4 m hm]at h1;rw[hap,Nat.one_mul]at h1;exact h1
    have HP1:Hid (∀m,m<ln->Ar (f.outs j m)):=fun m hm=>by
     have h1:=BQ ho3 m;rw[ho4 m hm]at h1;rw[hap,Nat.one_mul]at h1;exact h1
    have HUU:Hid (Lp c f j=(List.range (ln)).map (f.outs j)):=by
     show _=_;unfold Lp;rw[hnum,hap,Nat.one_mul]
    have b6:=fun v (hb:Below wr.heap.size wr v)=>kc hb c6;have b7:=fun v (hb:Below wr.heap.size wr v)=>kc hb u1;have HB6:Hid _:=b6;have HB7:Hid _:=b7;clear ho2 ho3 ho4 hnc hx hap hnum b6 b7;go_wp2;have HEC:Hid (∀v,Below (wr.alloc (.cells #[.string nm,.int .i64 K,.int .i64 (ln:Int)] 73)).heap.size (wr.alloc (.cells #[.string nm,.int .i64 K,.int .i64 (ln:Int)] 73)) v->v.cell? ⟨wr.heap.size,1,none⟩=some (.int .i64 K)/\v.cell? ⟨wr.heap.size,2,none⟩=some (.int .i64 (ln:Int))/\Below wr.heap.size wr v):=fun v hb=>⟨kc hb sG,kc hb sG,bel (A0 _ _) hb⟩
    have hEs:wr.heap.size<(wr.alloc (.cells #[.string nm,.int .i64 K,.int .i64 (ln:Int)] 73)).heap.size:=sM;obtain⟨WE,hWE⟩:∃W,(wr.alloc (.cells #[.string nm,.int .i64 K,.int .i64 (ln:Int)] 73))=W:=⟨_,rfl⟩
    rw[hWE]at HEC hEs;try rw[hWE]
    clear hWE c0 c6 y0 y1 y2 u1
    go_loopw [6,7] (fun vv kv wx=>Below WE.heap.size WE wx/\∃ (m:Nat) (pv:Option Addr) (qv:Nat),m<=ln/\kv=.int .i64 (m:Int)/\vv=.slice pv (m) qv/\Hid (wx.ownsRow WE.heap.size 53 1 (.slice pv (m) qv) (m) (Jx ((List.range (m)).map (f.outs j))))) (fun _ kv _=>ln-(intOf kv).toNat)
    case atStart=>exact⟨BE _,0,none,0,gI _,rfl,rfl,World.ownsRow_nil _ _ _ 1⟩
    case round=>
     obtain⟨hbx,m,pv,qv,hm,rfl,rfl,how⟩:=hrel;rename World=>wx;obtain⟨e1,e2,hbw⟩:=HEC.out wx hbx;have HBX:Hid (Below WE.heap.size WE wx):=hbx;have c6:=HB6.out wx hbw;have u1:=HB7.out wx hbw;by_cases hml:m<ln
     .have a1:=kc hbw (HV1.out m hml);have hPz:=HP1.out m hml;obtain⟨z,hz⟩:=gA (f.outs j m)
      have HZ:Hid (f.outs j m=z):=hz;rw[hz]at a1 hPz;have tz:IntKind.u32.wrap z=z:=by rw[IntKind.wrap_u32];have:=hPz.1;have:=hPz.2;omega
      obtain⟨g,c',w8,hap1,hb8,ho8,-⟩:=F1 (V:=wx) underlying96 Hk rfl dE how.out hbx.size #[.int .u32 z] rfl Wl mL oM 96;have HAP1:Hid _:=hap1;have HNX:Hid (w8.ownsRow WE.heap.size 53 1 (.slice (some ⟨g,0,none⟩) (m+1) c') (m+1) (Jx ((List.range (m+1)).map (f.outs j)))):=by
       show World.ownsRow _ _ _ _ _ _ _;rw[Dg,Gc,HZ.out];exact ho8
      have HB9:Hid (Below WE.heap.size WE w8):=hbx.trans hb8;obtain⟨e3,e4,hbw8⟩:=HEC.out w8 (hbx.trans hb8);have t0:(m:Int)<(ln:Int):=oM;have t5:IntKind.i64.wrap ((m:Int)+1)=((m+1:Nat):Int):=by rw[IntKind.wrap_i64];omega
      clear hap1 hb8 ho8 hz how hbx hbw hbw8;go_wp2_with(at_builtin;refine AH rF _ _ _ rF _ _ _ rF rF HAP1.out ?_);go_roundw
      case rel=>exact⟨HB9.out,m+1,_,_,oM,gN,rfl,HNX.out⟩
      case measure=>simp[intOf];omega
     .have hme:m=ln:=oM;have e9:¬ (m:Int)<(ln:Int):=oM;have hvx:=hvs.below hbw;have hlt2:=hvs.own.lt;have HJ2:Hid (m=ln):=hme;have hPA:Ik wx (.slice p j q) pv ((List.range (m)).map (f.outs j)):=by
       rcases NA (l:=(List.range (m)).map (f.outs j)) Zj with h|⟨b,o,e,h⟩
       .exact .inl (List.length_eq_zero_iff.1 h)
       .refine .inr ⟨b,o,e,fun e5=>?_,h⟩;have h6:=Dq how.out b o none e;have h7:=(hlt2 b e5).2;omega
      have hlY:Y.length=j:=HYL.out;have hvx':Ls (w.alloc (.cells #[.slice (some ⟨lb,lo,none⟩) n0 q0,v1,v2,v3,ru,su,.slice (some ⟨ob,oo,none⟩) M qo,gu,pu,ct] 69)).heap.size wx (.slice p Y.length q) Y:=by rw[hlY];exact hvx
      obtain⟨g3,c3,w7,hrun,hb7,hvs7⟩:=hvx'.push (by have h1:=HB.size;have h2:=hbw.size;omega) oM ⟨pv,qv,(List.range (m)).map (f.outs j)⟩ (by rw[hlY];exact hPA) (fun b o s e=>by have h6:=Dq how.out b o s e;have h7:=HB.size;omega) 39;rw[hlY]at hrun hvs7;simp only[List.length_map,List.length_range]at hrun;have HRUN:Hid _:=hrun;have HV7:Hid (Ls (w.alloc (.cells #[.slice (some ⟨lb,lo,none⟩) n0 q0,v1,v2,v3,ru,su,.slice (some ⟨ob,oo,none⟩) M qo,gu,pu,ct] 69)).heap.size w7 (.slice (some ⟨g3,0,none⟩) (j+1) c3) (Y++[⟨pv,qv,(List.range (m)).map (f.outs j)⟩])):=hvs7;have HB7':Hid (Below (w.alloc (.cells #[.slice (some ⟨lb,lo,none⟩) n0 q0,v1,v2,v3,ru,su,.slice (some ⟨ob,oo,none⟩) M qo,gu,pu,ct] 69)).heap.size (w.alloc (.cells #[.slice (some ⟨lb,lo,none⟩) n0 q0,v1,v2,v3,ru,su,.slice (some ⟨ob,oo,none⟩) M qo,gu,pu,ct] 69)) w7):=(HB.trans (hbw.mono HB.size)).trans hb7;have HM7:Hid ((Y++[(⟨pv,qv,(List.range (m)).map (f.outs j)⟩:Cu)]).map (·.l)=(List.range (j+1)).map (Lp c f)):=by
       show _=_;rw[List.map_append,hmap.out,Dg,HUU.out,HJ2.out];rfl
      exact YA
  .have hjn:j=n0:=oM;have e1:¬ (j:Int)<(n0:Int):=oM;have HF:Hid (Fe (fun b=>b<w.heap.size) wr (.slice p n0 q) (MV c f)):=by
    show Fe _ _ _ _;rw[UJ,HN0.out,<-hjn,<-hmap.out];exact hvs.vs.mono (fun b _ e=>by simp only[World.size_alloc];omega)
   have HJ:Hid (j=n0):=hjn;have HB:Hid (Below w.heap.size w wr):=bel (A0 _ _) hb;clear hvs hmap hlt hjn hb;go_wp2;go_ret;exact⟨p,q,by rw[HJ.out];rfl,HF.out,HB.out⟩
theorem Jf{rs:List Ty}{l n:Int}{m:Ty}(h:A8 rs l n m=true):0<=n:=by
 by_cases hl:l=0
 .unfold A8 at h;rw[if_pos hl]at h;simp only[beq_iff_eq]at h;omega
 .exact(Ac h hl).1
theorem Ss{f:Fr}{i:Am}{a b d:Int}(ho:21<=i.op/\i.op<=28)(ha:a=f.whs i.a.toNat)(hb:(A5 i.op).b≠0->b=f.whs i.b.toNat)(hc:(A5 i.op).c≠0->d=f.whs i.c.toNat):Cc i.op a b d=Fx f i:=by
 obtain⟨op,D,A,B,Ec,nn,bt⟩:=i;simp only at ho ha hb hc |-;subst ha;have:op=21\/op=22\/op=23\/op=24\/op=25\/op=26\/op=27\/op=28:=oM;rcases this with rfl|rfl|rfl|rfl|rfl|rfl|rfl|rfl
 .show min (f.whs A.toNat+1) 2147483647=min (f.whs A.toNat) 2147483646+1;omega
 .rw[hb dE];rfl
 .rw[hb dE];rfl
 .rw[hb dE];rfl
 .rfl
 .rw[hb dE,hc dE];rfl
 .rw[hb dE];rfl
 .rw[hb dE];rfl
theorem UG(x:Int):B6 (x%2147483648 != 0&&decide (x%2147483648<=2139095040))=B6 (Jj x 1065353216 0==1065353216):=by
 congr 1;unfold Jj;by_cases hn:nan x=true
 .rw[hn];have:2139095040<x%2147483648:=by unfold nan at hn;simpa using hn
  have e:decide (x%2147483648<=2139095040)=false:=sO;rw[e,Bool.and_false,Bool.true_or];decide
 .have hn':nan x=false:=by simpa using hn
  have:¬2139095040<x%2147483648:=by intro h;exact hn (by unfold nan;simpa using h)
  have e:decide (x%2147483648<=2139095040)=true:=sO;rw[hn',e,Bool.and_true];by_cases h0:x%2147483648=0
  .rw[h0];decide
  .have h1:(x%2147483648 != 0)=true:=by simpa using h0
   have h2:(x%2147483648==0)=false:=by simpa using h0
   rw[h1,h2];decide
theorem SW{c:Cd}{f:Fr}{i:Am}{xa xb xc:Cl}(he:As i.op=true)(ha:xa.h=CP c f i.a)(hb:(A5 i.op).b≠0->xb.h=CP c f i.b)(hc:(A5 i.op).c≠0->xc.h=CP c f i.c):Cj xa.h.pats xb.h.pats xc.h.pats (BI i.op)=Bb c f i:=by
 obtain⟨op,D,A,B,Ec,nn,bt⟩:=i;unfold As at he;simp only[Bool.and_eq_true,decide_eq_true_eq]at he ha hb hc |-;have:op=3\/op=4\/op=5\/op=6\/op=7\/op=8\/op=9\/op=10\/op=11\/op=12\/op=13\/op=14\/op=15:=oM;rcases this with rfl|rfl|rfl|rfl|rfl|rfl|rfl|rfl|rfl|rfl|rfl|rfl|rfl
 all_goals
  first
   |(rw[ha,hb dE,hc dE];rfl)
   |(rw[ha,hb dE];rfl)
   |(rw[ha];rfl)
theorem TD{c:Cd}{f:Fr}{X:List Cl}{i:Am}(kn:∀r∈Ao i (A5 i.op),N0 c f X r.toNat){r:Int}(hr:r∈Ao i (A5 i.op))(h0:0<=r){x:Cl}(hx:X[r.toNat]? =some x):x.h=CP c f r:=by
 obtain⟨y,hy,e⟩:=kn r hr;rw[hx]at hy;cases hy
 rw[e,show((r.toNat:Nat):Int)=r by omega]
theorem Wt{i:Am}{r:Rw}(h:r.b≠0):i.b∈Ao i r:=by unfold Ao;simp[h]
theorem Wu{i:Am}{r:Rw}(h:r.c≠0):i.c∈Ao i r:=by unfold Ao;simp[h]
theorem Wz{c:Cd}{f:Fr}{r:Int}(h:(A7 c.regs r).kind=1):CP c f r=⟨[f.nums r.toNat],0⟩:=by unfold CP;rw[if_pos h]
theorem Mx{c:Cd}{f:Fr}{r:Int}(h:(A7 c.regs r).kind=2):CP c f r=⟨[],f.whs r.toNat⟩:=by unfold CP;rw[if_neg oM,if_pos h]
theorem WA{c:Cd}{f:Fr}{r:Int}(h:(A7 c.regs r).kind=3):CP c f r=⟨f.vecs r.toNat,0⟩:=by unfold CP;rw[if_neg oM,if_neg oM]
abbrev Xn(p0 p1 p2 p3 pr p5 p6 p7 p8:Option Addr)(n0 q0 n1 q1 n2 q2 n3 q3 N qr n5 q5 n6 q6 n7 q7 n8 q8:Nat)(ct:Int):Value:=.agg #[.slice p0 n0 q0,.slice p1 n1 q1,.slice p2 n2 q2,.slice p3 n3 q3,.slice pr N qr,.slice p5 n5 q5,.slice p6 n6 q6,.slice p7 n7 q7,.slice p8 n8 q8,.int .i64 ct]
theorem IA{T:Nat->Prop}{c:Cd}{f:Fr}{i:Am}(hg:Good c)(L:List (List Int))(hL:DN c L)(hp:LG c i.d i.n)(p0 p1 p7:Option Addr)(q0 q1 n7 q7:Nat)(v2 v3:Value)(w:World)(hv:Cy w (.slice p0 c.sign.length q0) (.slice p1 c.regs.length q1) v2 v3 c)(hvc:JN w (.slice p7 n7 q7) L):
 ∃ (par sb so:Nat) (nm:ByteArray) (K:Int) (len lb lo:Nat) (tk:Int) (vb vo:Nat) (px:Option Addr) (M qx:Nat),p0=some ⟨sb,so,none⟩/\p1=some ⟨lb,lo,none⟩/\par<c.sign.length/\p7=some ⟨vb,vo,none⟩/\par<n7/\n7<=64/\w.cell? ⟨sb,so+par*3,none⟩=some (.string nm)/\w.cell? ⟨sb,so+par*3+1,none⟩=some (.int .i64 K)/\w.cell? ⟨sb,so+par*3+2,none⟩=some (.int .i64 (len:Int))/\w.cell? ⟨lb,lo+i.d.toNat*2,none⟩=some (.int .i64 tk)/\w.cell? ⟨lb,lo+i.d.toNat*2+1,none⟩=some (.int .i64 (par:Int))/\w.cell? ⟨vb,vo+par,none⟩=some (.slice px M qx)/\
  ∀v,Below w.heap.size w v->Calls prog 43 #[.agg #[.string nm,.int .i64 K,.int .i64 (len:Int)],.slice px M qx,.int .i64 i.n] v fun e w'=>∃p' q',e=.returned (.slice p' (Bz c L i).length q')/\Bp w' p' (Bz c L i)/\Below v.heap.size v w'/\∀b o s,p'=some ⟨b,o,s⟩->v.heap.size<=b:=by
 obtain⟨par,hpar,hpl⟩:=Jw hg hp.r0 hp.r1 hp.kind;have hdl:i.d.toNat<c.regs.length:=by have:=hp.r0;have:=hp.r1;omega
 obtain⟨sb,so,rfl,hs⟩:=hv.sign.at hpl;obtain⟨lb,lo,rfl,hl⟩:=hv.regs.at hdl;obtain⟨p7',c7,e7,hvv⟩:=hvc;simp only[Value.slice.injEq]at e7;obtain⟨rfl,rfl,rfl⟩:=e7;have hpL:par<L.length:=by rw[hL.len];exact hpl
 obtain⟨vb,vo,px,qx,rfl,hcell,hrd⟩:=hvv par hpL;have hln:=Ho hg hpl;obtain⟨hnum,hlen2,hl1,hl2,hap⟩:=Hr hg hpl;have hk2:Ax c (par:Int)=if c.sign[par].kind=2 then 2 else 1:=by unfold Ax BU;simp[hpl]
 have hreg:c.regs[i.d.toNat].par=(par:Int):=by
  have h1:=D8 hdl;rw[show((i.d.toNat:Nat):Int)=i.d by have:=hp.r0;omega]at h1;rw[<-h1];exact hpar
 have hn0:=hp.n0;rw[hpar]at hn0;have hlv:=hL.each par hpL;obtain⟨nn,hnn⟩:∃n:Nat,i.n=(n:Int):=⟨i.n.toNat,oM⟩
 have hnk:nn<Ax c (par:Int):=by
  unfold Ax;rcases hn0 with e|⟨e,e2⟩
  .have:nn=0:=oM;subst this;split<;>decide
  .have:nn=1:=oM;subst this;rw[if_pos e2];decide
 refine⟨par,sb,so,c.sign[par].name,c.sign[par].kind,lenOf c (par:Int),lb,lo,c.regs[i.d.toNat].kind,vb,vo,px,L[par].length,qx,rfl,rfl,hpl,rfl,hpL,by rw[hL.len];exact hg.signL,hs.at 0 rfl,hs.at 1 rfl,by rw[hln];exact hs.at 2 rfl,hl.at 0 rfl,by rw[<-hreg];exact hl.at 1 rfl,hcell,fun v hb=>?_⟩;have hpp:Bz c L i=Dr L[par] (Ax c (par:Int)) nn (lenOf c (par:Int)):=by
  unfold Bz Dr;rw[hpar,hnn];simp only[Int.toNat_natCast];rw[G2 hpL]
 rw[hpp,IU,hnn];refine(KH c.sign[par].name c.sign[par].kind (lenOf c (par:Int)) oM (Ax c (par:Int)) hk2 L[par] (hL.isP _ (gD hpL)) px qx nn hnk (by rw[hlv,hnum];exact gF _) (by rw[hlv,hnum];rcases hap with e|e<;>rw[e]<;>omega) v (hrd.below hb)).mono ?_;exact fun e w' h=>h
theorem Qd{T:Nat->Prop}{c:Cd}{G P:List (List Int)}{f:Fr}{i:Am}{s:Wk}{X S O:List Cl}(hg:Good c)(ok:Ij c f)(t:AF c s i=true)(hb:Ar i.bits)(fg:DN c G)(fp:DN c P)(nd:Cz c f i)(rel:LH c f X S O)(kn:∀r∈Ao i (A5 i.op),N0 c f X r.toNat)
 (p0 p1 p2 p3 pr p5 p6 p7 p8:Option Addr) (q0 q1 q2 q3 qr q5 q6 q7 q8:Nat) (ct:Int) (w:World) (hT:∀b,T b->b<w.heap.size) (hv:Cy w (.slice p0 c.sign.length q0) (.slice p1 c.regs.length q1) (.slice p2 c.slots.length q2) (.slice p3 c.list.length q3) c) (hcs:AI T w (.slice pr c.regs.length qr) X) (hss:AI T w (.slice p5 c.slots.length q5) S) (hoo:G5 T w (.slice p6 O.length q6) O) (hgu:JN w (.slice p7 G.length q7) G) (hpu:JN w (.slice p8 P.length q8) P):
 Calls prog 20 #[Xn p0 p1 p2 p3 pr p5 p6 p7 p8 c.sign.length q0 c.regs.length q1 c.slots.length q2 c.list.length q3 c.regs.length qr c.slots.length q5 O.length q6 G.length q7 P.length q8 ct,Dz i] w fun e w'=>∃pr' qr' p5' q5' p6' q6' X' S' O',e=.returned (Xn p0 p1 p2 p3 pr' p5' p6' p7 p8 c.sign.length q0 c.regs.length q1 c.slots.length q2 c.list.length q3 c.regs.length qr' c.slots.length q5' O.length q6' G.length q7 P.length q8 ct)/\AI T w' (.slice pr' c.regs.length qr') X'/\AI T w' (.slice p5' c.slots.length q5') S'/\G5 T w' (.slice p6' O.length q6') O'/\O'.length=O.length/\VV c G P f i X S O X' S' O'/\Below w.heap.size w w':=by
 obtain⟨hk,h2,_,h4⟩:=AX t;have hX:=rel.xl;have hXl:=hg.regsL;have hSl:S.length=c.slots.length:=by have h1:=congrArg List.length rel.sl;rw[List.length_map,ok.slotsL]at h1;exact h1
 have nD:=Jf (Dl h2);have nA:=Jf (CQ h2);have nB:=Jf (EU h2);have nC:=Jf (EV h2);obtain⟨op,D,A,B,Ec,nn,bt⟩:=i;unfold Xn Dz;simp only at hb hk nD nA nB nC;obtain⟨kd,rfl⟩:∃n:Nat,D=(n:Int):=⟨D.toNat,oM⟩
 obtain⟨ka,rfl⟩:∃n:Nat,A=(n:Int):=⟨A.toNat,oM⟩
 obtain⟨kb,rfl⟩:∃n:Nat,B=(n:Int):=⟨B.toNat,oM⟩
 obtain⟨kk,rfl⟩:∃n:Nat,Ec=(n:Int):=⟨Ec.toNat,oM⟩
 have AL:0<c.regs.length->ka<c.regs.length:=fun h=>by have:=(Dn (CQ h2) h).2;simp only at this;omega
 have BL:0<c.regs.length->kb<c.regs.length:=fun h=>by have:=(Dn (EU h2) h).2;simp only at this;omega
 have CL:0<c.regs.length->kk<c.regs.length:=fun h=>by have:=(Dn (EV h2) h).2;simp only at this;omega
 have KA:∀x,(A5 op).a≠0->X[ka]? =some x->x.h=CP c f (ka:Int):=fun x h hx=>TD kn (r:=(ka:Int)) (IM h) oM hx;have KB:∀x,(A5 op).b≠0->X[kb]? =some x->x.h=CP c f (kb:Int):=fun x h hx=>TD kn (r:=(kb:Int)) (Wt h) oM hx;have KC:∀x,(A5 op).c≠0->X[kk]? =some x->x.h=CP c f (kk:Int):=fun x h hx=>TD kn (r:=(kk:Int)) (Wu h) oM hx;have MA:=fun(h:(A5 op).a≠0)=>AQ (CQ h2) h;have MB:=fun(h:(A5 op).b≠0)=>AQ (EU h2) h;have MC:=fun(h:(A5 op).c≠0)=>AQ (EV h2) h;have DL:(A5 op).d≠0->kd<c.regs.length:=fun h=>by have:=(Ac (Dl h2) h).2;simp only at this;omega
 simp only at MA MB MC;rcases EG hk with e|e|e|e|e|e|e|e|e
 .have hop:op=1\/op=16\/op=17\/op=19\/op=20:=by unfold Eg at e;simp only[Bool.or_eq_true,beq_iff_eq]at e;omega
  rcases hop with rfl|rfl|rfl|rfl|rfl
  .have hd:(A5 1).d≠0:=dE;have dl:=DL hd;have hval:(⟨[bt],0⟩:Hd)=Cg c G P f ⟨1,(kd:Int),(ka:Int),(kb:Int),(kk:Int),nn,bt⟩:=by rw[G1 nd rF];rfl
   refine(Qe p0 p1 p2 p3 p5 p6 p7 p8 c.sign.length q0 c.regs.length q1 c.slots.length q2 c.list.length q3 c.slots.length q5 O.length q6 G.length q7 P.length q8 ct pr qr X c.regs.length hX hXl nn bt kd ka kb kk dl w hT hcs hb).mono ?_;exact Oi
  .have hd:(A5 16).d≠0:=dE;have dl:=DL hd;have al:=AL oM;have hxa:X[ka]? =some (X[ka]'oM):=gB oM;have hah:=KA _ dE hxa;have hma:=MA dE;have bl:=BL oM;have hxb:X[kb]? =some (X[kb]'oM):=gB oM;have hbh:=KB _ dE hxb;have hmb:=MB dE;have ka1:(A7 c.regs (ka:Int)).kind=1:=by simpa[AN,A5]using hma
   have kb2:(A7 c.regs (kb:Int)).kind=2:=by simpa[AN,A5]using hmb
   rw[Wz ka1,Int.toNat_natCast]at hah;rw[Mx kb2,Int.toNat_natCast]at hbh;have hval:(⟨[Hi (f.nums ka) (X[kb]'oM).h.whole],0⟩:Hd)=Cg c G P f ⟨16,(kd:Int),(ka:Int),(kb:Int),(kk:Int),nn,bt⟩:=by rw[G1 nd rF,hbh];rfl
   refine(LY p0 p1 p2 p3 p5 p6 p7 p8 c.sign.length q0 c.regs.length q1 c.slots.length q2 c.list.length q3 c.slots.length q5 O.length q6 G.length q7 P.length q8 ct pr qr X c.regs.length hX hXl nn bt kd ka kb kk dl w hT hcs _ hxa _ hxb (f.nums ka) (by rw[hah]) (ok.nums ka) (by rw[hbh];exact ok.whs kb)).mono ?_;exact Oi
  .have hd:(A5 17).d≠0:=dE;have dl:=DL hd;have al:=AL oM;have hxa:X[ka]? =some (X[ka]'oM):=gB oM;have hah:=KA _ dE hxa;have hma:=MA dE;have ka2:(A7 c.regs (ka:Int)).kind=2:=by simpa[AN,A5]using hma
   rw[Mx ka2,Int.toNat_natCast]at hah;have hval:(⟨[Ff (X[ka]'oM).h.whole],0⟩:Hd)=Cg c G P f ⟨17,(kd:Int),(ka:Int),(kb:Int),(kk:Int),nn,bt⟩:=by rw[G1 nd rF,hah];rfl
   refine(Oy p0 p1 p2 p3 p5 p6 p7 p8 c.sign.length q0 c.regs.length q1 c.slots.length q2 c.list.length q3 c.slots.length q5 O.length q6 G.length q7 P.length q8 ct pr qr X c.regs.length hX hXl nn bt kd ka kb kk dl w hT hcs _ hxa (by rw[hah];exact ok.whs ka)).mono ?_;exact Oi
  .have hd:(A5 19).d≠0:=dE;have dl:=DL hd;have al:=AL oM;have hxa:X[ka]? =some (X[ka]'oM):=gB oM;have hah:=KA _ dE hxa;have hma:=MA dE;have ka3:(A7 c.regs (ka:Int)).kind=3:=by simpa[AN,A5]using hma
   rw[WA ka3,Int.toNat_natCast]at hah;have hval:(⟨[Im (BO (X[ka]'oM).h.pats) (X[ka]'oM).h.pats.length],0⟩:Hd)=Cg c G P f ⟨19,(kd:Int),(ka:Int),(kb:Int),(kk:Int),nn,bt⟩:=by rw[G1 nd rF,hah];rfl
   refine(Qg p0 p1 p2 p3 p5 p6 p7 p8 c.sign.length q0 c.regs.length q1 c.slots.length q2 c.list.length q3 c.slots.length q5 O.length q6 G.length q7 P.length q8 ct pr qr X c.regs.length hX hXl nn bt kd ka kb kk dl w hT hcs _ hxa (by rw[hah];exact ok.vecs ka) (by rw[hah];exact ok.vecsL ka)).mono ?_;exact Oi
  .have hd:(A5 20).d≠0:=dE;have dl:=DL hd;have al:=AL oM;have hxa:X[ka]? =some (X[ka]'oM):=gB oM;have hah:=KA _ dE hxa;have hma:=MA dE;have ka3:(A7 c.regs (ka:Int)).kind=3:=by simpa[AN,A5]using hma
   rw[WA ka3,Int.toNat_natCast]at hah;have hval:(⟨[Dy (BO (X[ka]'oM).h.pats) (X[ka]'oM).h.pats.length],0⟩:Hd)=Cg c G P f ⟨20,(kd:Int),(ka:Int),(kb:Int),(kk:Int),nn,bt⟩:=by rw[G1 nd rF,hah];rfl
   refine(LV p0 p1 p2 p3 p5 p6 p7 p8 c.sign.length q0 c.regs.length q1 c.slots.length q2 c.list.length q3 c.slots.length q5 O.length q6 G.length q7 P.length q8 ct pr qr X c.regs.length hX hXl nn bt kd ka kb kk dl w hT hcs _ hxa (by rw[hah];exact ok.vecs ka) (by rw[hah];exact ok.vecsL ka)).mono ?_;exact Oi
 .have hop:op=2\/op=18\/(21<=op/\op<=28):=by unfold Bn at e;simp only[Bool.or_eq_true,Bool.and_eq_true,beq_iff_eq,decide_eq_true_eq]at e;omega
  rcases hop with rfl|rfl|⟨o1,o2⟩
  .have hd:(A5 2).d≠0:=dE;have dl:=DL hd;have hval:(⟨[],nn⟩:Hd)=Cg c G P f ⟨2,(kd:Int),(ka:Int),(kb:Int),(kk:Int),nn,bt⟩:=by rw[Gm nd rF];rfl
   refine(Qh p0 p1 p2 p3 p5 p6 p7 p8 c.sign.length q0 c.regs.length q1 c.slots.length q2 c.list.length q3 c.slots.length q5 O.length q6 G.length q7 P.length q8 ct pr qr X c.regs.length hX hXl nn bt kd ka kb kk dl w hT hcs).mono ?_;exact Oi
  .have hd:(A5 18).d≠0:=dE;have dl:=DL hd;have al:=AL oM;have hxa:X[ka]? =some (X[ka]'oM):=gB oM;have hah:=KA _ dE hxa;have hma:=MA dE;have ka1:(A7 c.regs (ka:Int)).kind=1:=by simpa[AN,A5]using hma
   rw[Wz ka1,Int.toNat_natCast]at hah;have hval:(⟨[],B6 (f.nums ka%2147483648 != 0&&decide (f.nums ka%2147483648<=2139095040))⟩:Hd)=Cg c G P f ⟨18,(kd:Int),(ka:Int),(kb:Int),(kk:Int),nn,bt⟩:=by rw[Gm nd rF,UG];rfl
   refine(OC p0 p1 p2 p3 p5 p6 p7 p8 c.sign.length q0 c.regs.length q1 c.slots.length q2 c.list.length q3 c.slots.length q5 O.length q6 G.length q7 P.length q8 ct pr qr X c.regs.length hX hXl nn bt kd ka kb kk dl w hT hcs _ hxa (f.nums ka) (by rw[hah]) (ok.nums ka)).mono ?_;exact Oi
  .have hrow:(A5 op).d=2/\(A5 op).a=2/\((A5 op).b=0\/(A5 op).b=2)/\((A5 op).c=0\/(A5 op).c=2):=by
    have:op=21\/op=22\/op=23\/op=24\/op=25\/op=26\/op=27\/op=28:=oM;rcases this with rfl|rfl|rfl|rfl|rfl|rfl|rfl|rfl<;>decide
   have hd:(A5 op).d≠0:=by rw[hrow.1];decide
   have dl:=DL hd;have ha0:(A5 op).a≠0:=by rw[hrow.2.1];decide
   have al:=AL oM;have hxa:X[ka]? =some (X[ka]'oM):=gB oM;have hah:=KA _ ha0 hxa;have hma:=MA ha0;rw[hrow.2.1]at hma;have ka2:(A7 c.regs (ka:Int)).kind=2:=by simpa[AN]using hma
   rw[Mx ka2,Int.toNat_natCast]at hah;have bl:=BL oM;have hxb:X[kb]? =some (X[kb]'oM):=gB oM;have cl:=CL oM;have hxc:X[kk]? =some (X[kk]'oM):=gB oM;have hbw:(A5 op).b≠0->(X[kb]'oM).h.whole=f.whs kb:=fun h=>by
    have h1:=MB h;rw[hrow.2.2.1.resolve_left h]at h1;rw[KB _ h hxb,Mx (by simpa[AN]using h1),Int.toNat_natCast]
   have hcw:(A5 op).c≠0->(X[kk]'oM).h.whole=f.whs kk:=fun h=>by
    have h1:=MC h;rw[hrow.2.2.2.resolve_left h]at h1;rw[KC _ h hxc,Mx (by simpa[AN]using h1),Int.toNat_natCast]
   have hwa:=(rel.xok _ (List.mem_of_getElem? hxa)).2.2;have hwb:=(rel.xok _ (List.mem_of_getElem? hxb)).2.2;have hval:(⟨[],Cc op (X[ka]'oM).h.whole (X[kb]'oM).h.whole (X[kk]'oM).h.whole⟩:Hd)=Cg c G P f ⟨op,(kd:Int),(ka:Int),(kb:Int),(kk:Int),nn,bt⟩:=by rw[Gm nd e,Ss (i:=⟨op,(kd:Int),(ka:Int),(kb:Int),(kk:Int),nn,bt⟩) (f:=f) ⟨o1,o2⟩ (by rw[hah];rfl) hbw hcw]
   refine(M0 p0 p1 p2 p3 p5 p6 p7 p8 c.sign.length q0 c.regs.length q1 c.slots.length q2 c.list.length q3 c.slots.length q5 O.length q6 G.length q7 P.length q8 ct pr qr X c.regs.length hX hXl op o1 o2 nn bt kd ka kb kk dl w hT hcs _ hxa _ hxb _ hxc hwa hwb).mono ?_;exact Oi
 .subst e;have hd:(A5 29).d≠0:=dE;have dl:=DL hd;obtain⟨par,sb,so,nm,K,len,lb,lo,tk,vb,vo,px,M,qx,e0,e1,e2,e3,e4,e5,s0,s1,s2,t0,t1,u0,hkp⟩:=IA (T:=T) (f:=f) (i:=⟨29,(kd:Int),(ka:Int),(kb:Int),(kk:Int),nn,bt⟩) hg G fg (nd.part (.inl rfl)) _ _ _ _ _ _ _ _ _ w hv hgu;simp only[Int.toNat_natCast]at t0 t1 hkp;have hval:(⟨Bz c G ⟨29,(kd:Int),(ka:Int),(kb:Int),(kk:Int),nn,bt⟩,0⟩:Hd)=Cg c G P f ⟨29,(kd:Int),(ka:Int),(kb:Int),(kk:Int),nn,bt⟩:=by rw[VR nd rfl]
  refine(Oz p0 p1 p2 p3 p5 p6 p7 p8 c.sign.length q0 c.regs.length q1 c.slots.length q2 c.list.length q3 c.slots.length q5 O.length q6 G.length q7 P.length q8 ct pr qr X c.regs.length hX hXl nn bt kd ka kb kk dl w hT hcs par sb so nm K len lb lo tk vb vo px M qx (Bz c G ⟨29,(kd:Int),(ka:Int),(kb:Int),(kk:Int),nn,bt⟩) e0 e1 e2 dl e3 e4 s0 s1 s2 t0 t1 u0 hXl hg.signL e5 hkp).mono ?_;exact Oi
 .subst e;have hd:(A5 30).d≠0:=dE;have dl:=DL hd;obtain⟨par,sb,so,nm,K,len,lb,lo,tk,vb,vo,px,M,qx,e0,e1,e2,e3,e4,e5,s0,s1,s2,t0,t1,u0,hkp⟩:=IA (T:=T) (f:=f) (i:=⟨30,(kd:Int),(ka:Int),(kb:Int),(kk:Int),nn,bt⟩) hg P fp (nd.part (.inr rfl)) _ _ _ _ _ _ _ _ _ w hv hpu;simp only[Int.toNat_natCast]at t0 t1 hkp;have hval:(⟨Bz c P ⟨30,(kd:Int),(ka:Int),(kb:Int),(kk:Int),nn,bt⟩,0⟩:Hd)=Cg c G P f ⟨30,(kd:Int),(ka:Int),(kb:Int),(kk:Int),nn,bt⟩:=by rw[VS nd rfl]
  refine(LX p0 p1 p2 p3 p5 p6 p7 p8 c.sign.length q0 c.regs.length q1 c.slots.length q2 c.list.length q3 c.slots.length q5 O.length q6 G.length q7 P.length q8 ct pr qr X c.regs.length hX hXl nn bt kd ka kb kk dl w hT hcs par sb so nm K len lb lo tk vb vo px M qx (Bz c P ⟨30,(kd:Int),(ka:Int),(kb:Int),(kk:Int),nn,bt⟩) e0 e1 e2 dl e3 e4 s0 s1 s2 t0 t1 u0 hXl hg.signL e5 hkp).mono ?_;exact Oi
 .subst e;obtain⟨hp,hlen⟩:=nd.out rfl;obtain⟨par,hpar,hpl⟩:=Jw hg hp.r0 hp.r1 hp.kind;simp only at hp hpar;have al:ka<c.regs.length:=by have:=hp.r1;omega
  have hxa:X[ka]? =some (X[ka]'oM):=gB oM;have hn0:=hp.n0;obtain⟨kq,rfl⟩:∃n:Nat,nn=(n:Int):=⟨nn.toNat,oM⟩
  obtain⟨lb,lo,e1,hl⟩:=hv.regs.at al;have hreg:c.regs[ka].par=(par:Int):=by rw[<-D8 al];exact hpar
  refine(Qf p0 p1 p2 p3 p5 p6 p7 p8 c.sign.length q0 c.regs.length q1 c.slots.length q2 c.list.length q3 c.slots.length q5 O.length q6 G.length q7 P.length q8 ct pr qr X c.regs.length hX hXl (kq:Int) bt kd ka kb kk w hT hcs _ hxa kq rfl oM par lb lo (c.regs[ka].kind) e1 al (by rw[<-hreg];exact hl.at 1 rfl) O rfl (by rw[rel.ol];have:=hg.signL;omega) (by rw[rel.ol];omega) hoo).mono ?_;rintro e w' ⟨p9,q9,rfl,hc,hbl⟩;exact⟨pr,qr,p5,q5,p9,q9,X,S,_,rfl,hcs.below hbl,hss.below hbl,hc,by rw[List.length_set],.inr (.inr (.inl ⟨rfl,rfl,rfl,_,hxa,by simp only[hpar,Int.toNat_natCast]⟩)),hbl⟩
 .subst e;have hd:(A5 32).d≠0:=dE;have dl:=DL hd;obtain⟨d0,d1,m0,m1,ht⟩:=nd.load rfl;simp only at m0 m1;obtain⟨ks,hks⟩:∃n:Nat,nn=(n:Int):=⟨nn.toNat,oM⟩
  have hksl:ks<S.length:=oM;have hxs:S[ks]? =some (S[ks]'hksl):=gB hksl;have hval:(S[ks]'hksl).h=Cg c G P f ⟨32,(kd:Int),(ka:Int),(kb:Int),(kk:Int),nn,bt⟩:=by
   rw[VT ok nd rfl rel.sz,<-rel.sl];simp only[hks,Int.toNat_natCast,List.getElem?_map,hxs,Option.map_some,Option.getD_some]
  refine(OA p0 p1 p2 p3 p5 p6 p7 p8 c.sign.length q0 c.regs.length q1 c.slots.length q2 c.list.length q3 c.slots.length q5 O.length q6 G.length q7 P.length q8 ct pr qr X c.regs.length hX hXl nn bt kd ka kb kk dl w hT hcs ks hks _ S hSl hg.slotsL hss hxs).mono ?_;exact Oi
 .subst e;obtain⟨a0,a1,m0,m1,ht,hs⟩:=nd.store rfl;simp only at a0 a1 m0 m1;have al:ka<c.regs.length:=oM;have hxa:X[ka]? =some (X[ka]'oM):=gB oM;obtain⟨ks,hks⟩:∃n:Nat,nn=(n:Int):=⟨nn.toNat,oM⟩
  refine(LZ p0 p1 p2 p3 p5 p6 p7 p8 c.sign.length q0 c.regs.length q1 c.slots.length q2 c.list.length q3 c.slots.length q5 O.length q6 G.length q7 P.length q8 ct pr qr X c.regs.length hX hXl nn bt kd ka kb kk w hT hcs _ hxa ks hks S hSl hg.slotsL oM hss).mono ?_;rintro e w' ⟨p9,q9,rfl,hc,hbl⟩;exact⟨pr,qr,p9,q9,p6,q6,X,_,O,rfl,hcs.below hbl,hc,hoo.below hbl,rfl,.inr (.inl ⟨rfl,rfl,⟨_,hxa,by simp only[hks,Int.toNat_natCast]⟩,rfl⟩),hbl⟩
 .refine(OB p0 p1 p2 p3 p5 p6 p7 p8 c.sign.length q0 c.regs.length q1 c.slots.length q2 c.list.length q3 c.slots.length q5 O.length q6 G.length q7 P.length q8 ct pr qr X c.regs.length hX hXl op e.1 e.2 nn bt kd ka kb kk w hT hcs).mono ?_;rintro e' w' ⟨rfl,hbl⟩;exact⟨pr,qr,p5,q5,p6,q6,X,S,O,rfl,hcs.below hbl,hss.below hbl,hoo.below hbl,rfl,.inr (.inr (.inr ⟨e,rfl,rfl,rfl⟩)),hbl⟩
 .have hop:3<=op/\op<=15:=by unfold As at e;simpa using e
  obtain⟨o1,o2⟩:=hop;have hd:(A5 op).d≠0:=by
   exact XD
  have ha0:(A5 op).a≠0:=by
   exact XD
  have dl:=DL hd;have al:=AL oM;have bl:=BL oM;have cl:=CL oM;have hxa:X[ka]? =some (X[ka]'oM):=gB oM;have hxb:X[kb]? =some (X[kb]'oM):=gB oM;have hxc:X[kk]? =some (X[kk]'oM):=gB oM;have hah:=KA _ ha0 hxa;have hty:A7 c.regs (kd:Int)=c.regs[kd]:=D8 dl;by_cases hk2:(A7 c.regs (kd:Int)).kind=2
  .have hra:(A7 c.regs (ka:Int)).kind=2:=by
    obtain⟨_,_,_,hr⟩:=nd.elem e;obtain⟨_,_,_,h⟩:=hr (ka:Int) (IM ha0);rcases h with h|⟨_,h⟩
    .rw[h];exact hk2
    .simp only at h;omega
   have hval:(X[ka]'oM).h=Cg c G P f ⟨op,(kd:Int),(ka:Int),(kb:Int),(kk:Int),nn,bt⟩:=by
    rw[PG e hk2,hah,Mx hra]
   refine(Nf p0 p1 p2 p3 p5 p6 p7 p8 c.sign.length q0 c.regs.length q1 c.slots.length q2 c.list.length q3 c.slots.length q5 O.length q6 G.length q7 P.length q8 ct pr qr X c.regs.length hX hXl op o1 o2 nn bt kd ka kb kk dl w hT hcs (X[ka]'oM).h (fun v hbv hsv=>?_)).mono ?_
   .refine(GN c hg _ _ _ _ _ _ _ _ _ _ X hX op nn bt _ _ kd ka dl oM (by rw[<-hty];exact hk2) v (hv.below hbv) (hcs.cs.below hbv)).mono ?_;rintro e' w' ⟨rfl,-,hbl⟩;exact⟨X[ka]'oM,rfl,rfl,(JK (hcs.nums _ (List.mem_of_getElem? hxa)) hbv).below hbl,hbl⟩
   .exact Oi
  .obtain⟨w1,w2,w3⟩:=ES hg ok e nd hk2;have hargs:=SW (i:=⟨op,(kd:Int),(ka:Int),(kb:Int),(kk:Int),nn,bt⟩) (c:=c) (f:=f) e hah (fun h=>KB _ h hxb) (fun h=>KC _ h hxc);have htr:=EO ⟨op,(kd:Int),(ka:Int),(kb:Int),(kk:Int),nn,bt⟩ e;have hal:(Bb c f ⟨op,(kd:Int),(ka:Int),(kb:Int),(kk:Int),nn,bt⟩).length=BI op:=by unfold Bb;rw[List.length_map];exact htr.1.symm
   obtain⟨n,hn,hn2⟩:=IJ (l:=lF (Bb c f ⟨op,(kd:Int),(ka:Int),(kb:Int),(kk:Int),nn,bt⟩)) w1 ((Bb c f ⟨op,(kd:Int),(ka:Int),(kb:Int),(kk:Int),nn,bt⟩).length-1) (fun k hk=>by
    have htn:=htr.2;simp only at htn;unfold lF;rw[G2 oM];unfold Bb;rw[List.getElem_map]
    exact(w2 _ (gD _)).2.2.1)
   have hwd:=hg.width (A7 c.regs (kd:Int));simp only at w1 hn2;have hval:(⟨PQ (if(A7 c.regs (kd:Int)).kind=3 then lenOf c (A7 c.regs (kd:Int)).par else 1) (C5 op (Bb c f ⟨op,(kd:Int),(ka:Int),(kb:Int),(kk:Int),nn,bt⟩)),0⟩:Hd)=Cg c G P f ⟨op,(kd:Int),(ka:Int),(kb:Int),(kk:Int),nn,bt⟩:=by
    rw[Sq hg ok nd e hk2]
   refine(Nf p0 p1 p2 p3 p5 p6 p7 p8 c.sign.length q0 c.regs.length q1 c.slots.length q2 c.list.length q3 c.slots.length q5 O.length q6 G.length q7 P.length q8 ct pr qr X c.regs.length hX hXl op o1 o2 nn bt kd ka kb kk dl w hT hcs ⟨PQ (if(A7 c.regs (kd:Int)).kind=3 then lenOf c (A7 c.regs (kd:Int)).par else 1) (C5 op (Bb c f ⟨op,(kd:Int),(ka:Int),(kb:Int),(kk:Int),nn,bt⟩)),0⟩ (fun v hbv hsv=>?_)).mono ?_
   .rw[hal,<-hargs]at hn;have K:=It c hg (.slice p0 c.sign.length q0) (.slice p1 c.regs.length q1) (.slice p2 c.slots.length q2) (.slice p3 c.list.length q3) (.slice pr c.regs.length qr) (.slice p5 c.slots.length q5) (.slice p6 O.length q6) (.slice p7 G.length q7) (.slice p8 P.length q8) (.int .i64 ct) X hX op nn bt kd ka kb kk dl oM oM oM (by rw[<-hty];exact hk2) (fun h=>hg.type (gD dl) h) (BI op) rfl htr.2 n hn oM oM (fun x hx=>(rel.xok x hx).1) (fun x hx=>(rel.xok x hx).2.1) v (hv.below hbv) (hcs.cs.below hbv);simp only at hargs;rw[hargs,<-hty]at K;refine K.mono ?_;rintro e' w' ⟨pe,qe,rfl,hne,hbl,hle⟩;exact⟨⟨pe,qe,⟨_,0⟩⟩,rfl,rfl,Bp.free (B:=v.heap.size) hne hle (fun b hb=>Ch hT hb hsv),hbl⟩
   .exact Oi
def Ya(c:Cd)(l:List Hd):Prop:=∀j (h:j<c.slots.length),c.slots[j].ty.kind≠2->((l[j]?).getD ⟨[],0⟩).whole=0
structure J7(c:Cd)(l:List Hd):Prop where
 len:l.length=c.slots.length
 ok:∀j (h:j<c.slots.length) (h':j<l.length),LD c c.slots[j].ty l[j]
 z:Ya c l
theorem Na{c:Cd}(hg:Good c){s:Sl}(hs:s∈c.slots)(h2:s.ty.kind≠2):(AU c s).whole=0:=by
 have h1:=hg.slots s hs;unfold AG DO at h1;rw[if_neg h2]at h1;simp only[Bool.and_eq_true,beq_iff_eq]at h1;exact h1.2.1
theorem UE{c:Cd}(hg:Good c):Ya c (BM c):=fun j h h2=>by
 rw[BM,List.getElem?_map,gB h,Option.map_some,Option.getD_some];exact Na hg (gD h) h2
theorem Q0(c:Cd)(l:List Hd)(hl:l.length=c.slots.length):∀ (j:Nat),j<=c.slots.length->∀k (h:k<c.slots.length),(SA c l j)[k]? =if k<j/\c.slots[k].keep=false then some (AU c c.slots[k])else l[k]?
 |0,_,k,h=>by simp[SA]
 |j+1,hj,k,h=>by
  have ih:=Q0 c l hl j oM;unfold SA;rw[gB (show j<c.slots.length by omega)];simp only;cases hkp:c.slots[j].keep with
  |true=>
   simp only[if_true];rw[ih k h];by_cases e:k=j
   .subst e;rw[hkp];simp
   .have:k<j+1↔k<j:=oM;simp only[this]
  |false=>
   simp only[Bool.false_eq_true,if_false];by_cases e:k=j
   .subst e;rw[List.getElem?_set_self (by rw[Fz,hl];exact h),if_pos ⟨oM,hkp⟩]
   .rw[List.getElem?_set_ne (fun q=>e q.symm),ih k h];have:k<j+1↔k<j:=oM;simp only[this]
def LJ(c:Cd)(l:List Hd):List Hd:=SA c l c.slots.length
theorem EQ{c:Cd}{l:List Hd}(hl:l.length=c.slots.length):(LJ c l).length=c.slots.length:=by unfold LJ;rw[Fz,hl]
theorem LK{c:Cd}{l:List Hd}(hl:l.length=c.slots.length){k:Nat}(h:k<c.slots.length)(h':k<(LJ c l).length):(LJ c l)[k]=if c.slots[k].keep then l[k]'oM else AU c c.slots[k]:=by
 have h1:=Q0 c l hl c.slots.length (gF _) k h;have h2:(LJ c l)[k]? =some ((LJ c l)[k]):=gB h';unfold LJ at h2 |-;rw[h2]at h1;cases hkp:c.slots[k].keep with
 |true=>
  rw[hkp,if_neg sM,gB oM]at h1;simp only[Option.some.injEq]at h1;simp only[if_true];exact h1
 |false=>
  rw[if_pos ⟨h,hkp⟩]at h1;simp only[Option.some.injEq]at h1;simp only[Bool.false_eq_true,if_false];exact h1
def Zk(a b c d:Value)(k:Nat):Value:=if k=0 then a else if k=1 then b else if k=2 then c else d
theorem Vl(a b c d:Value):∀k,k<(#[a,b,c,d]:Array Value).size->(#[a,b,c,d]:Array Value)[k]? =some (Zk a b c d k):=by
 intro k hk;have hk':k<4:=hk;obtain rfl|rfl|rfl|rfl:k=0\/k=1\/k=2\/k=3:=oM
 all_goals rfl
structure SB(w:World)(a0 a1 a2 a3 a4:Value)(v:World):Prop where
 bel:Below w.heap.size w v
 r:v.rowIs w.heap.size 36 5 (f5 a0 a1 a2 a3 a4)
 q:v.rowIs (w.heap.size+1) 36 5 (f5 (.slice none 0 0) (.slice none 0 0) (.slice none 0 0) (.slice none 0 0) (.slice none 0 0))
 c:v.rowIs (w.heap.size+1+1) 27 4 (Zk a0 a1 a2 a3)
theorem SB.next{w:World}{a0 a1 a2 a3 a4:Value}{v v':World}(h:SB w a0 a1 a2 a3 a4 v)(k:Below v.heap.size v v'):SB w a0 a1 a2 a3 a4 v':=
 ⟨Go.Proofs.YtheanilpbnencaaGreat.bel h.bel k,h.r.of_block (k.block _ h.r.lt),h.q.of_block (k.block _ h.q.lt),h.c.of_block (k.block _ h.c.lt)⟩
theorem SB.start(w:World)(a0 a1 a2 a3 a4:Value):SB w a0 a1 a2 a3 a4 (((w.alloc (.cells #[a0,a1,a2,a3,a4] 36)).alloc (.cells #[.slice none 0 0,.slice none 0 0,.slice none 0 0,.slice none 0 0,.slice none 0 0] 36)).alloc (.cells #[a0,a1,a2,a3] 27)):=by
 have r1:=World.rowIs_alloc w #[a0,a1,a2,a3,a4] 36 _ (Gw _ _ _ _ _);have r2:=World.rowIs_alloc (w.alloc (.cells #[a0,a1,a2,a3,a4] 36)) #[.slice none 0 0,.slice none 0 0,.slice none 0 0,.slice none 0 0,.slice none 0 0] 36 _ (Gw _ _ _ _ _);have r3:=World.rowIs_alloc ((w.alloc (.cells #[a0,a1,a2,a3,a4] 36)).alloc (.cells #[.slice none 0 0,.slice none 0 0,.slice none 0 0,.slice none 0 0,.slice none 0 0] 36)) #[a0,a1,a2,a3] 27 _ (Vl _ _ _ _);simp only[World.size_alloc]at r2 r3;exact⟨Go.Proofs.YtheanilpbnencaaGreat.bel (A0 _ _) (Go.Proofs.YtheanilpbnencaaGreat.bel (A0 _ _) (A0 _ _)),(r1.alloc _).alloc _,r2.alloc _,r3⟩
theorem SB.size{w:World}{a0 a1 a2 a3 a4:Value}{v:World}(h:SB w a0 a1 a2 a3 a4 v):w.heap.size+1+1<v.heap.size:=h.c.lt
structure H4(w:World)(a0 a1 a2 a3 a4:Value)(FB:Nat)(F:Nat->Value)(v:World):Prop where
 b:SB w a0 a1 a2 a3 a4 v
 f:v.rowIs FB 69 10 F
 hF:w.heap.size+1+1<FB
theorem H4.next{w:World}{a0 a1 a2 a3 a4:Value}{FB:Nat}{F:Nat->Value}{v v':World}(h:H4 w a0 a1 a2 a3 a4 FB F v)(k:Below v.heap.size v v'):H4 w a0 a1 a2 a3 a4 FB F v':=⟨h.b.next k,h.f.of_block (k.block _ h.f.lt),h.hF⟩
theorem H4.below{w:World}{a0 a1 a2 a3 a4:Value}{FB B:Nat}{F:Nat->Value}{v v':World}(h:H4 w a0 a1 a2 a3 a4 FB F v)(k:Below B v v')(hB:FB<B):H4 w a0 a1 a2 a3 a4 FB F v':=by
 have hF:=h.hF;have hs:=h.b.bel.size;have hlt:=h.f.lt;refine⟨⟨⟨k.os.trans h.b.bel.os,k.tape.trans h.b.bel.tape,k.output.trans h.b.bel.output,gH hs k.size,fun x hx=>(k.block x oM).trans (h.b.bel.block x hx)⟩,h.b.r.of_block (k.block _ oM),h.b.q.of_block (k.block _ oM),h.b.c.of_block (k.block _ oM)⟩,h.f.of_block (k.block _ hB),h.hF⟩
theorem H4.put{w:World}{a0 a1 a2 a3 a4:Value}{FB:Nat}{F:Nat->Value}{v:World}(h:H4 w a0 a1 a2 a3 a4 FB F v)(i:Nat)(x:Value):H4 w a0 a1 a2 a3 a4 FB (fun j=>if j=i then x else F j) (v.setCell ⟨FB,i,none⟩ x):=by
 have hF:=h.hF;exact⟨⟨h.b.bel.setCell (by show w.heap.size<=FB;omega) _,h.b.r.setOther (by show w.heap.size≠FB;omega) _,h.b.q.setOther (by show w.heap.size+1≠FB;omega) _,h.b.c.setOther (by show w.heap.size+1+1≠FB;omega) _⟩,h.f.set i x,h.hF⟩
theorem H4.congr{w:World}{a0 a1 a2 a3 a4:Value}{FB:Nat}{F F':Nat->Value}{v:World}(h:H4 w a0 a1 a2 a3 a4 FB F v)(k:∀j,j<10->F j=F' j):H4 w a0 a1 a2 a3 a4 FB F' v:=⟨h.b,h.f.congr k,h.hF⟩
theorem CZ{P:Nat->Prop}(h0:P 0)(h1:P 1)(h2:P 2)(h3:P 3)(h4:P 4)(h5:P 5)(h6:P 6)(h7:P 7)(h8:P 8)(h9:P 9):∀j,j<10->P j:=by
 intro j hj;obtain rfl|rfl|rfl|rfl|rfl|rfl|rfl|rfl|rfl|rfl:j=0\/j=1\/j=2\/j=3\/j=4\/j=5\/j=6\/j=7\/j=8\/j=9:=oM
 all_goals assumption
theorem H4.putT{w:World}{a0 a1 a2 a3 a4:Value}{FB:Nat}{F:Nat->Value}{v:World}(h:H4 w a0 a1 a2 a3 a4 FB F v)(b0 b1 b2 b3 b4 b5 b6 b7 b8 b9:Value):H4 w a0 a1 a2 a3 a4 FB (C6 b0 b1 b2 b3 b4 b5 b6 b7 b8 b9) (JD v FB b0 b1 b2 b3 b4 b5 b6 b7 b8 b9):=
 ((((((((((h.put 0 b0).put 1 b1).put 2 b2).put 3 b3).put 4 b4).put 5 b5).put 6 b6).put 7 b7).put 8 b8).put 9 b9).congr (CZ rfl rfl rfl rfl rfl rfl rfl rfl rfl rfl)
def T4(w:World)(T:Nat->Prop)(FB:Nat)(b:Nat):Prop:=T b\/(w.heap.size<=b/\b<=w.heap.size+1+1)\/b=FB
theorem J3{w:World}{T:Nat->Prop}{FB:Nat}(hT:∀b,T b->b<w.heap.size)(hF:w.heap.size+1+1<FB){B:Nat}(hB:FB<B){b:Nat}(h:T4 w T FB b):b<B:=by
 rcases h with h|h|h
 .have:=hT b h;omega
 .omega
 .omega
theorem VP{w:World}{T:Nat->Prop}{FB b:Nat}(hF:w.heap.size+1+1<FB)(hb:b<w.heap.size)(h:T4 w T FB b):T b:=by
 rcases h with h|h|h
 .exact h
 .omega
 .omega
theorem OT(m:Nat)(h:m<=16384)(w:World):(Instr.makeSlice 34 (.int .i64 m) (.int .i64 m)).run prog w=.ok (.slice (some ⟨w.heap.size,0,none⟩) m m) (w.alloc (.cells (madeCells #[.slice none 0 0,.int .i64 0] (m*2)) 60)):=by
 obtain⟨i,hi,hz,hs,hb⟩:=info_parts G8;have hr:=run_make (P:=prog) w 34 60 i _ underlying34 hi hz .i64 .i64 m m oM (Int.le_refl _) (by rw[hb];omega) oM;rw[hs,show(Value.agg #[.slice none 0 0,.int .i64 0]).cells=#[.slice none 0 0,.int .i64 0]from rfl]at hr;simpa using hr
theorem OR(m i:Nat)(hi:i<m*2):(madeCells #[.slice none 0 0,.int .i64 0] (m*2))[i]? =some (f2 (.slice none 0 0) (.int .i64 0) (i%2)):=by
 unfold madeCells;rw[Array.getElem?_map,Array.getElem?_range];simp[hi];have h2:i%2=0\/i%2=1:=oM;rcases h2 with h|h<;>rw[h]<;>rfl
def Og(n:Nat):List Cl:=List.replicate n ⟨none,0,⟨[],0⟩⟩
theorem Nc{T:Nat->Prop}{v:World}{RB m:Nat}(h:v.heap[RB]? =some (.cells (madeCells #[.slice none 0 0,.int .i64 0] (m*2)) 60 (0,0)))(hT:¬T RB):AI T v (.slice (some ⟨RB,0,none⟩) m m) (Og m):=by
 have hlt:RB<v.heap.size:=by
  rcases Nat.lt_or_ge RB v.heap.size with h1|h1
  .exact h1
  .rw[Array.getElem?_eq_none h1]at h;cases h
 refine⟨⟨_,m,by rw[Og,List.length_replicate],.inr ⟨RB,0,rfl,hT,hlt,fun i hi j hj=>?_⟩⟩,fun x hx=>?_⟩
 .rw[Og,List.length_replicate]at hi;have hj2:j<2:=hj;have hc:v.cell? ⟨RB,0+i*2+j,none⟩=some (f2 (.slice none 0 0) (.int .i64 0) ((0+i*2+j)%2)):=by
   unfold World.cell?;simp only[h];exact OR m _ oM
  rw[hc];simp only[Og,List.getElem_replicate];obtain rfl|rfl:j=0\/j=1:=oM
  .rw[show(0+i*2+0)%2=0 by omega];rfl
  .rw[show(0+i*2+1)%2=1 by omega];rfl
 .rw[Og]at hx;rw[List.eq_of_mem_replicate hx];exact .inl rfl
theorem QQ{B:Nat}{V:World}{e t:TypeId}{z:Value}{sz by':Nat}(ht:prog.underlying t=some (.slice e))(hi:(prog.info? e).map (fun i=>(i.zero,i.size,i.bytes))=some (some z,sz,by'))(hzs:z.cells.size=sz)(hsz:0<sz){p:Option Addr}{n q m:Nat}{xs:List Value}(h:V.ownsRow B e sz (.slice p n q) n xs)(hB:B<=V.heap.size)
 (cs:Array Value) (hm:0<m) (hcs:cs.size=m*sz) (h1:∀u∈cs.toList,u.oneCell'=true) (hn:n+m<=maxLen) (hb:(n+m)*by'<=140737488355328) (ty:TypeId):
 ∃g c' w',(Builtin.append_ #[t,t] ty #[.slice p n q,.slice (some ⟨V.heap.size,0,none⟩) m m]).run prog (V.alloc (.cells cs e))=.ok (.slice (some ⟨g,0,none⟩) (n+m) c') w'/\Below B V w'/\w'.ownsRow B e sz (.slice (some ⟨g,0,none⟩) (n+m) c') (n+m) (xs++cs.toList)/\(∀b,b<V.heap.size->(Value.slice p n q).ownBlock≠some b->w'.heap[b]? =V.heap[b]?)/\((Value.slice p n q).ownBlock=some g\/V.heap.size<g):=by
 obtain⟨i0,hi0,hz0,hz1,hz2⟩:=info_parts hi;have hb0:Below V.heap.size V (V.alloc (.cells cs e)):=A0 _ _;have hs:(V.alloc (.cells cs e)).heap.size=V.heap.size+1:=sM;have h0:=AA h hb0;obtain⟨g,cap,w3,hr,hown,hgrow,hat,hlt⟩:=run_append_lies (P:=prog) (V.alloc (.cells cs e)) t ty B e i0 _ sz by' ht hi0 hz0 hz1 hz2 hzs hsz (.slice p n q) n xs h0 ⟨V.heap.size,0,none⟩ m m cs.toList (by simp[hcs])
  (World.news_of_block (cs:=cs) (t:=e) (fr:=(0,0)) (heap_alloc_new V _)) h1 hm hn hb oM _ rfl
 exact YL
theorem WN{T:Nat->Prop}{w:World}{a0 a1 a2 a3 a4:Value}{v:World}{m:Nat}(h:SB w a0 a1 a2 a3 a4 v)(hT:∀b,T b->b<w.heap.size)(b0 b1 b2 b3 b5 b6 b7 b8 b9:Value):
 H4 w a0 a1 a2 a3 a4 (v.heap.size+1) (C6 b0 b1 b2 b3 (.slice (some ⟨v.heap.size,0,none⟩) m m) b5 b6 b7 b8 b9) ((v.alloc (.cells (madeCells #[.slice none 0 0,.int .i64 0] (m*2)) 60)).alloc (.cells #[b0,b1,b2,b3,.slice (some ⟨v.heap.size,0,none⟩) m m,b5,b6,b7,b8,b9] 69))/\AI (T4 w T (v.heap.size+1)) ((v.alloc (.cells (madeCells #[.slice none 0 0,.int .i64 0] (m*2)) 60)).alloc (.cells #[b0,b1,b2,b3,.slice (some ⟨v.heap.size,0,none⟩) m m,b5,b6,b7,b8,b9] 69)) (.slice (some ⟨v.heap.size,0,none⟩) m m) (Og m):=by
 have hsz:=h.size;have r1:=World.rowIs_alloc (v.alloc (.cells (madeCells #[.slice none 0 0,.int .i64 0] (m*2)) 60)) #[b0,b1,b2,b3,.slice (some ⟨v.heap.size,0,none⟩) m m,b5,b6,b7,b8,b9] 69 _ (Je _ _ _ _ _ _ _ _ _ _);simp only[World.size_alloc]at r1;refine⟨⟨h.next (bel (A0 _ _) (A0 _ _)),r1,oM⟩,Nc ?_ ?_⟩
 .rw[(A0 (v.alloc (.cells (madeCells #[.slice none 0 0,.int .i64 0] (m*2)) 60)) _).block _ sM];exact heap_alloc_new v _
 .rintro(k|k|k)
  .have:=hT _ k;omega
  .omega
  .omega
theorem WO{T:Nat->Prop}{w:World}{a0 a1 a2 a3 a4:Value}{v:World}{m:Nat}(h:SB w a0 a1 a2 a3 a4 v)(hT:∀b,T b->b<w.heap.size)(b0 b1 b2 b3 b5 b6 b7 b8 b9:Value):
 H4 w a0 a1 a2 a3 a4 v.heap.size (C6 b0 b1 b2 b3 (.slice (some ⟨v.heap.size+1,0,none⟩) m m) b5 b6 b7 b8 b9) ((v.alloc (.cells #[b0,b1,b2,b3,.slice (some ⟨v.heap.size+1,0,none⟩) m m,b5,b6,b7,b8,b9] 69)).alloc (.cells (madeCells #[.slice none 0 0,.int .i64 0] (m*2)) 60))/\AI (T4 w T v.heap.size) ((v.alloc (.cells #[b0,b1,b2,b3,.slice (some ⟨v.heap.size+1,0,none⟩) m m,b5,b6,b7,b8,b9] 69)).alloc (.cells (madeCells #[.slice none 0 0,.int .i64 0] (m*2)) 60)) (.slice (some ⟨v.heap.size+1,0,none⟩) m m) (Og m):=by
 have hsz:=h.size;have r1:=World.rowIs_alloc v #[b0,b1,b2,b3,.slice (some ⟨v.heap.size+1,0,none⟩) m m,b5,b6,b7,b8,b9] 69 _ (Je _ _ _ _ _ _ _ _ _ _);refine⟨⟨h.next (bel (A0 _ _) (A0 _ _)),r1.alloc _,oM⟩,Nc ?_ ?_⟩
 .have h1:=heap_alloc_new (v.alloc (.cells #[b0,b1,b2,b3,.slice (some ⟨v.heap.size+1,0,none⟩) m m,b5,b6,b7,b8,b9] 69)) (.cells (madeCells #[.slice none 0 0,.int .i64 0] (m*2)) 60);simp only[World.size_alloc]at h1;exact h1
 .rintro(k|k|k)
  .have:=hT _ k;omega
  .omega
  .omega
structure L1(T:Nat->Prop)(w:World)(a0 a1 a2 a3 a4:Value)(FB E:Nat)(F:Nat->Value)(v:World)(sv:Value)(Y:List Cl):Prop where
 sp:H4 w a0 a1 a2 a3 a4 FB F v
 be:E<=v.heap.size
 cs:H2 E v sv Y
 loc:∀x∈Y,∀b o s,x.p=some ⟨b,o,s⟩->x.h.pats≠[]->¬T4 w T FB b
theorem L1.next{T:Nat->Prop}{w:World}{a0 a1 a2 a3 a4:Value}{FB E:Nat}{F:Nat->Value}{v v':World}{sv:Value}{Y:List Cl}(h:L1 T w a0 a1 a2 a3 a4 FB E F v sv Y)(k:Below v.heap.size v v'):L1 T w a0 a1 a2 a3 a4 FB E F v' sv Y:=⟨h.sp.next k,gH h.be k.size,h.cs.below k,h.loc⟩
theorem L1.put{T:Nat->Prop}{w:World}{a0 a1 a2 a3 a4:Value}{FB E:Nat}{F:Nat->Value}{v v':World}{sv:Value}{Y:List Cl}(h:L1 T w a0 a1 a2 a3 a4 FB E F v sv Y)(hFE:FB<E)(k:Below E v v'){g n c':Nat}{Y':List Cl}(hc:H2 E v' (.slice (some ⟨g,0,none⟩) n c') Y')(hloc:∀x∈Y',∀b o s,x.p=some ⟨b,o,s⟩->x.h.pats≠[]->¬T4 w T FB b):
 v'.cell? ⟨FB,5,none⟩=some (F 5)/\v'.frozen? ⟨FB,5,none⟩=false/\L1 T w a0 a1 a2 a3 a4 FB E (fun j=>if j=5 then .slice (some ⟨g,0,none⟩) n c' else F j) (v'.setCell ⟨FB,5,none⟩ (.slice (some ⟨g,0,none⟩) n c')) (.slice (some ⟨g,0,none⟩) n c') Y':=by
 have hs:=h.sp.below k hFE;have ho:∀b,b≠FB->(v'.setCell ⟨FB,5,none⟩ (.slice (some ⟨g,0,none⟩) n c')).heap[b]? =v'.heap[b]? :=fun b hne=>gE hne;refine⟨hs.f.cell (i:=5) dE,hs.f.frozen 5,hs.put 5 _,?_,⟨Az hc.own (fun b hbb=>ho b XX),fun x hx=>?_⟩,hloc⟩
 .have h1:=h.be;have h2:=k.size;simp only[World.size_setCell];omega
 .exact YF
structure Oh(B:Nat)(v:World)(sv:Value)(X:List Cl):Prop where
 own:v.ownsRow B 58 1 sv X.length (AT PR X)
 nums:∀x∈X,Fy v sv x.p x.h.pats
theorem Oh.below{B:Nat}{v v':World}{sv:Value}{X:List Cl}(h:Oh B v sv X)(k:Below v.heap.size v v'):Oh B v' sv X:=⟨AA h.own k,fun x hx=>(h.nums x hx).below k⟩
theorem Oh.nil(B:Nat)(v:World):Oh B v (.slice none 0 0) []:=⟨World.ownsRow_nil _ _ _ 1,fun x hx=>by cases hx⟩
theorem Oh.push{B:Nat}{V:World}{p:Option Addr}{q:Nat}{X:List Cl}(h:Oh B V (.slice p X.length q) X)(hB:B<=V.heap.size)(hX:X.length<=16384)(x:Cl)(hx:Fy V (.slice p X.length q) x.p x.h.pats)(ty:TypeId):
 ∃g c' w',(Builtin.append_ #[67,67] ty #[.slice p X.length q,.slice (some ⟨V.heap.size,0,none⟩) 2 2]).run prog (V.alloc (.cells #[.slice x.p x.h.pats.length x.q,.slice x.p x.h.pats.length x.q] 58))=.ok (.slice (some ⟨g,0,none⟩) (X.length+2) c') w'/\Below B V w'/\Oh B w' (.slice (some ⟨g,0,none⟩) (X.length+2) c') (X++[x,x]):=by
 obtain⟨g,c',w',hr,hb,ho,hk,hg⟩:=QQ (V:=V) (m:=2) underlying67 II rfl dE h.own hB #[.slice x.p x.h.pats.length x.q,.slice x.p x.h.pats.length x.q] dE rfl (fun u hu=>by simp at hu;subst hu;rfl) mL oM ty;refine⟨g,c',w',hr,hb,⟨?_,fun y hy=>?_⟩⟩
 .rw[List.length_append,Ew];exact ho
 .rcases List.mem_append.1 hy with e|e
  .exact(h.nums y e).grow hk hg
  .simp only[List.mem_cons,List.not_mem_nil,or_false,or_self]at e;subst e;exact hx.grow hk hg
structure L2(T:Nat->Prop)(w:World)(a0 a1 a2 a3 a4:Value)(FB E:Nat)(F:Nat->Value)(v:World)(sv:Value)(Y:List Cl):Prop where
 sp:H4 w a0 a1 a2 a3 a4 FB F v
 be:E<=v.heap.size
 cs:Oh E v sv Y
 loc:∀x∈Y,∀b o s,x.p=some ⟨b,o,s⟩->x.h.pats≠[]->¬T4 w T FB b
theorem L2.next{T:Nat->Prop}{w:World}{a0 a1 a2 a3 a4:Value}{FB E:Nat}{F:Nat->Value}{v v':World}{sv:Value}{Y:List Cl}(h:L2 T w a0 a1 a2 a3 a4 FB E F v sv Y)(k:Below v.heap.size v v'):L2 T w a0 a1 a2 a3 a4 FB E F v' sv Y:=⟨h.sp.next k,gH h.be k.size,h.cs.below k,h.loc⟩
theorem L2.put{T:Nat->Prop}{w:World}{a0 a1 a2 a3 a4:Value}{FB E:Nat}{F:Nat->Value}{v v':World}{sv:Value}{Y:List Cl}(h:L2 T w a0 a1 a2 a3 a4 FB E F v sv Y)(hFE:FB<E)(k:Below E v v'){g n c':Nat}{Y':List Cl}(hc:Oh E v' (.slice (some ⟨g,0,none⟩) n c') Y')(hloc:∀x∈Y',∀b o s,x.p=some ⟨b,o,s⟩->x.h.pats≠[]->¬T4 w T FB b):
 v'.cell? ⟨FB,6,none⟩=some (F 6)/\v'.frozen? ⟨FB,6,none⟩=false/\L2 T w a0 a1 a2 a3 a4 FB E (fun j=>if j=6 then .slice (some ⟨g,0,none⟩) n c' else F j) (v'.setCell ⟨FB,6,none⟩ (.slice (some ⟨g,0,none⟩) n c')) (.slice (some ⟨g,0,none⟩) n c') Y':=by
 have hs:=h.sp.below k hFE;have ho:∀b,b≠FB->(v'.setCell ⟨FB,6,none⟩ (.slice (some ⟨g,0,none⟩) n c')).heap[b]? =v'.heap[b]? :=fun b hne=>gE hne;refine⟨hs.f.cell (i:=6) dE,hs.f.frozen 6,hs.put 6 _,?_,⟨Az hc.own (fun b hbb=>ho b XX),fun x hx=>?_⟩,hloc⟩
 .have h1:=h.be;have h2:=k.size;simp only[World.size_setCell];omega
 .exact YF
theorem U8{T:Nat->Prop}{E:Nat}{v:World}{sv:Value}{Y:List Cl}(h:Oh E v sv Y)(hT:∀b,T b->b<E)(hl:∀x∈Y,∀b o s,x.p=some ⟨b,o,s⟩->x.h.pats≠[]->¬T b):G5 T v sv Y:=by
 refine⟨FJ GW h.own hT,fun x hx=>?_⟩;exact YN
def Ju(c:Cd)(j:Nat):List Hd:=(List.range (2*j)).map fun i=>⟨List.replicate (lenOf c ((i/2:Nat):Int)) 0,0⟩
theorem OY(c:Cd)(j:Nat):Ju c (j+1)=Ju c j++[⟨List.replicate (lenOf c (j:Int)) 0,0⟩,⟨List.replicate (lenOf c (j:Int)) 0,0⟩]:=by
 unfold Ju;rw[show 2*(j+1)=2*j+1+1 by omega,Dg,Dg,List.append_assoc,show 2*j/2=j by omega,show(2*j+1)/2=j by omega];rfl
theorem P7{c:Cd}{l:List Hd}{Y O:List Cl}(hg:Good c)(hso:J7 c l)(hY:Y.map (·.h)=LJ c l)(hO:O.map (·.h)=Ju c c.sign.length):LH c (Bi c l) (Og c.regs.length) Y O:=by
 have hol:O.length=2*c.sign.length:=by have h1:=congrArg List.length hO;rw[List.length_map,Ju,List.length_map,List.length_range]at h1;exact h1
 refine⟨by rw[Og,List.length_replicate],fun x hx=>?_,hY,fun j h h2=>?_,hol,fun p n hp hn=>?_⟩
 .rw[Og]at hx;rw[List.eq_of_mem_replicate hx];exact⟨fun y hy=>(by cases hy),gI _,Int.le_refl _,by show(0:Int)<=2147483647;decide⟩
 .show(((LJ c l)[j]?).getD ⟨[],0⟩).whole=0;have hjl:j<(LJ c l).length:=by rw[EQ hso.len];exact h
  rw[gB hjl,Option.getD_some,LK hso.len h hjl];split
  .have h3:=hso.z j h h2;rw[gB (by rw[hso.len];exact h),Option.getD_some]at h3;exact h3
  .exact Na hg (gD h) h2
 .have hn2:n<2:=by unfold Ax at hn;split at hn<;>omega
  have hil:2*p+n<O.length:=by rw[hol];omega
  have hoh:(O[2*p+n]).h=⟨List.replicate (lenOf c (p:Int)) 0,0⟩:=by
   have h5:(O.map (·.h))[2*p+n]? =some (O[2*p+n]).h:=by rw[List.getElem?_map,gB hil];rfl
   rw[hO,Ju,List.getElem?_map,List.getElem?_range oM]at h5;simp only[Option.map_some,Option.some.injEq]at h5;rw[<-h5,show(2*p+n)/2=p by omega]
  refine⟨O[2*p+n],gB hil,by rw[hoh];simp,fun y hy=>?_,fun e he=>?_⟩
  .rw[hoh]at hy;simp only at hy;rw[List.eq_of_mem_replicate hy];exact Hl
  .rw[hoh];show BO (List.replicate (lenOf c (p:Int)) 0) e=0;rw[GO _ _ he]
theorem QH{c:Cd}{l:List Hd}(hg:Good c)(hk:AZ c)(hso:J7 c l):Ij c (Bi c l):=by
 refine⟨fun _=>Hl,fun _=>⟨Int.le_refl _,by show(0:Int)<=2147483647;decide⟩,fun _ y hy=>(by cases hy),fun _=>gI _,EQ hso.len,fun j h h'=>?_⟩;have h3:j<(LJ c l).length:=h';show LD c c.slots[j].ty ((LJ c l)[j]'h3);rw[LK hso.len h h3];split
 .exact hso.ok j h (by rw[hso.len];exact h)
 .exact JW hg (gD h) (hk.sbits _ (gD h))
theorem B8{p:Prop}(h:p):Hid p:=h
theorem Y7{c:Cd}{op A B C nn bt:Int}{k:Nat}(ho:(3<=op/\op<=15)\/op=29\/op=30\/op=32)(hk:k<c.regs.length):CI c ⟨op,(k:Int),A,B,C,nn,bt⟩=DM c.sign c.regs[k]:=by
 unfold CI;rw[if_neg (by show¬op=16;omega),if_pos (by show As op=true\/op=29\/op=30\/op=32;unfold As;simp only[Bool.and_eq_true,decide_eq_true_eq];exact ho)];exact Z4
theorem Y5{c:Cd}{op A B C nn bt:Int}{k:Nat}(ho:op=31\/op=33\/op=19\/op=20)(hk:k<c.regs.length):CI c ⟨op,A,(k:Int),B,C,nn,bt⟩=DM c.sign c.regs[k]:=by
 unfold CI;rw[if_neg (by show¬op=16;omega),if_neg (by show¬ (As op=true\/op=29\/op=30\/op=32);unfold As;simp only[Bool.and_eq_true,decide_eq_true_eq];omega),if_pos (by exact ho)];exact Z4
theorem Y4{c:Cd}{op D A B C nn bt:Int}(h1:¬ ((3<=op/\op<=15)\/op=29\/op=30\/op=32))(h3:¬ (op=31\/op=33\/op=19\/op=20)):CI c ⟨op,D,A,B,C,nn,bt⟩=if op=16 then 62 else 1:=by
 unfold CI;by_cases h:op=16
 .rw[if_pos h,if_pos h]
 .rw[if_neg h,if_neg h,if_neg (by show¬ (As op=true\/op=29\/op=30\/op=32);unfold As;simp only[Bool.and_eq_true,decide_eq_true_eq];exact h1),if_neg h3]
theorem MK{c:Cd}(hg:Good c){i:Am}{s:Wk}(t:AF c s i=true)(v0 v1 v2 v3:Value)(w:World)(hv:Cy w v0 v1 v2 v3 c):
 Calls prog 19 #[.agg #[v0,v1,v2,v3],.agg #[.int .i64 i.op,.int .i64 i.d,.int .i64 i.a,.int .i64 i.b,.int .i64 i.c,.int .i64 i.n,.int .u32 i.bits]] w fun e w'=>e=.returned (.int .i64 (CI c i))/\Below w.heap.size w w':=by
 obtain⟨hk,h2,_,_⟩:=AX t;obtain⟨op,D,A,B,Ec,nn,bt⟩:=i;simp only at hk |-;have hk':=hk;unfold An at hk';simp only[Bool.and_eq_true,decide_eq_true_eq]at hk';by_cases h1:(3<=op/\op<=15)\/op=29\/op=30\/op=32
 .have hd:(A5 op).d≠0:=(MF hk).2 oM;have:=Ac (Dl h2) hd;simp only at this;obtain⟨kd,rfl⟩:∃n:Nat,D=(n:Int):=⟨D.toNat,oM⟩
  rw[Y7 h1 oM];exact S6 c hg v0 v1 v2 v3 op A B Ec nn bt h1 kd oM w hv
 .by_cases h3:op=31\/op=33\/op=19\/op=20
  .have ha:(A5 op).a≠0:=by rcases h3 with rfl|rfl|rfl|rfl<;>decide
   have:=Ac (CQ h2) ha;simp only at this;obtain⟨ka,rfl⟩:∃n:Nat,A=(n:Int):=⟨A.toNat,oM⟩
   rw[Y5 h3 oM];exact S4 c hg v0 v1 v2 v3 op D B Ec nn bt h3 ka oM w hv
  .rw[Y4 h1 h3];exact S3 v0 v1 v2 v3 op D A B Ec nn bt oM w
def Lg(c:Cd)(G P:List (List Int)):Fr×Nat->List Am->Int
 |_,[]=>0
 |s,i::l=>(if s.2=0 then CI c i else 0)+Lg c G P (AS c G P s i) l
def WM(c:Cd)(l:List Hd)(G P:List (List Int)):Int:=Lg c G P (Bi c l,0) c.list
theorem Lh(c:Cd)(G P:List (List Int)):∀ (l:List Am) (s:Fr×Nat) (i:Am),Lg c G P s (l++[i])=Lg c G P s l+(if(Tq c G P s l).2=0 then CI c i else 0)
 |[],s,i=>by
  show(if s.2=0 then CI c i else 0)+0=0+(if s.2=0 then CI c i else 0);omega
 |a::l,s,i=>by
  simp only[List.cons_append,Lg];rw[Lh c G P l (AS c G P s a) i,show Tq c G P s (a::l)=Tq c G P (AS c G P s a) l from rfl];omega
theorem VM{c:Cd}{G P:List (List Int)}{s:Fr×Nat}{f:Fr}{j k:Nat}(hj:j<c.list.length)(h:Tq c G P s (c.list.take j)=(f,k)):Lg c G P s (c.list.take (j+1))=Lg c G P s (c.list.take j)+(if k=0 then CI c c.list[j]else 0):=by
 rw[List.take_succ_eq_append_getElem hj,Lh,h]
theorem JF{c:Cd}{G P:List (List Int)}:∀ (l:List Am) (s:Fr×Nat),(∀i∈l,1<=CI c i/\CI c i<=4096)->0<=Lg c G P s l/\Lg c G P s l<=Bw c l/\Lg c G P s l<=4096*(l.length:Int)
 |[],s,_=>by simp[Lg,Bw]
 |i::l,s,h=>by
  have h1:=h i sM;have h2:=JF (G:=G) (P:=P) l (AS c G P s i) (fun j hj=>h j (List.mem_cons_of_mem _ hj));simp only[Lg,Bw,List.length_cons];split<;>omega
theorem UD{c:Cd}{G P:List (List Int)}(hc:(Ag c).1=0)(s:Fr×Nat)(k:Nat):0<=Lg c G P s (c.list.take k)/\Lg c G P s (c.list.take k)<=4096*(k:Int):=by
 have h:=JF (G:=G) (P:=P) (c.list.take k) s (fun i hi=>DK hc i (List.mem_of_mem_take hi));have hl:(c.list.take k).length<=k:=by rw[List.length_take];omega
 omega
theorem Sh{c:Cd}{l:List Hd}{G P:List (List Int)}(hc:(Ag c).1=0):WM c l G P<=Ed c:=(JF c.list _ (fun i hi=>DK hc i hi)).2.1
structure L3(T:Nat->Prop)(w:World)(a0 a1 a2 a3 a4:Value)(FB:Nat)(pr p5 p6:Option Addr)(n1 qr n2 q5 no q6:Nat)(gv pv:Value)(ct:Int)(X S O:List Cl)(v:World):Prop where
 sp:H4 w a0 a1 a2 a3 a4 FB (C6 a0 a1 a2 a3 (.slice pr n1 qr) (.slice p5 n2 q5) (.slice p6 no q6) gv pv (.int .i64 ct)) v
 cr:AI (T4 w T FB) v (.slice pr n1 qr) X
 cs:AI (T4 w T FB) v (.slice p5 n2 q5) S
 co:G5 (T4 w T FB) v (.slice p6 no q6) O
 ol:O.length=no
section
variable {T : Nat -> Prop} {w : World} {a0 a1 a2 a3 a4 : Value} {FB : Nat} {pr p5 p6 : Option Addr} {n1 qr n2 q5 no q6 : Nat} {gv pv : Value} {ct : Int} {X S O : List Cl} {v v' : World}
theorem L3.next(h:L3 T w a0 a1 a2 a3 a4 FB pr p5 p6 n1 qr n2 q5 no q6 gv pv ct X S O v)(k:Below v.heap.size v v'):L3 T w a0 a1 a2 a3 a4 FB pr p5 p6 n1 qr n2 q5 no q6 gv pv ct X S O v':=⟨h.sp.next k,h.cr.below k,h.cs.below k,h.co.below k,h.ol⟩
theorem L3.cost(h:L3 T w a0 a1 a2 a3 a4 FB pr p5 p6 n1 qr n2 q5 no q6 gv pv ct X S O v)(ct':Int):L3 T w a0 a1 a2 a3 a4 FB pr p5 p6 n1 qr n2 q5 no q6 gv pv ct' X S O (v.setCell ⟨FB,9,none⟩ (.int .i64 ct')):=by
 have hu:Un (fun b=>b=FB) v (v.setCell ⟨FB,9,none⟩ (.int .i64 ct')):=(Un.refl _ _).setCell rF _;exact⟨(h.sp.put 9 _).congr (CZ rfl rfl rfl rfl rfl rfl rfl rfl rfl rfl),h.cr.un hu (fun b _ e=>.inr (.inr e)),h.cs.un hu (fun b _ e=>.inr (.inr e)),h.co.un hu (fun b _ e=>.inr (.inr e)),h.ol⟩
theorem L3.put(h:L3 T w a0 a1 a2 a3 a4 FB pr p5 p6 n1 qr n2 q5 no q6 gv pv ct X S O v)(k:Below v.heap.size v v'){pr' p5' p6':Option Addr}{qr' q5' q6':Nat}{X' S' O':List Cl}(h1:AI (T4 w T FB) v' (.slice pr' n1 qr') X')(h2:AI (T4 w T FB) v' (.slice p5' n2 q5') S')(h3:G5 (T4 w T FB) v' (.slice p6' no q6') O')(hl:O'.length=O.length):
 L3 T w a0 a1 a2 a3 a4 FB pr' p5' p6' n1 qr' n2 q5' no q6' gv pv ct X' S' O' (JD v' FB a0 a1 a2 a3 (.slice pr' n1 qr') (.slice p5' n2 q5') (.slice p6' no q6') gv pv (.int .i64 ct)):=by
 have hu:=GX v' FB a0 a1 a2 a3 (.slice pr' n1 qr') (.slice p5' n2 q5') (.slice p6' no q6') gv pv (.int .i64 ct);exact⟨(h.sp.next k).putT _ _ _ _ _ _ _ _ _ _,h1.un hu (fun b _ e=>.inr (.inr e)),h2.un hu (fun b _ e=>.inr (.inr e)),h3.un hu (fun b _ e=>.inr (.inr e)),hl.trans h.ol⟩
theorem L3.cells(h:L3 T w a0 a1 a2 a3 a4 FB pr p5 p6 n1 qr n2 q5 no q6 gv pv ct X S O v):v.cell? ⟨FB,0,none⟩=some a0/\v.cell? ⟨FB,1,none⟩=some a1/\v.cell? ⟨FB,2,none⟩=some a2/\v.cell? ⟨FB,3,none⟩=some a3/\v.cell? ⟨FB,4,none⟩=some (.slice pr n1 qr)/\v.cell? ⟨FB,5,none⟩=some (.slice p5 n2 q5)/\v.cell? ⟨FB,6,none⟩=some (.slice p6 no q6)/\v.cell? ⟨FB,7,none⟩=some gv/\v.cell? ⟨FB,8,none⟩=some pv/\v.cell? ⟨FB,9,none⟩=some (.int .i64 ct):=
 ⟨h.sp.f.cell (i:=0) dE,h.sp.f.cell (i:=1) dE,h.sp.f.cell (i:=2) dE,h.sp.f.cell (i:=3) dE,h.sp.f.cell (i:=4) dE,h.sp.f.cell (i:=5) dE,h.sp.f.cell (i:=6) dE,h.sp.f.cell (i:=7) dE,h.sp.f.cell (i:=8) dE,h.sp.f.cell (i:=9) dE⟩
theorem L3.frz(h:L3 T w a0 a1 a2 a3 a4 FB pr p5 p6 n1 qr n2 q5 no q6 gv pv ct X S O v):∀i,v.frozen? ⟨FB,i,none⟩=false:=fun i=>h.sp.f.frozen i
theorem L3.code(h:L3 T w a0 a1 a2 a3 a4 FB pr p5 p6 n1 qr n2 q5 no q6 gv pv ct X S O v):v.cell? ⟨w.heap.size+1+1,0,none⟩=some a0/\v.cell? ⟨w.heap.size+1+1,1,none⟩=some a1/\v.cell? ⟨w.heap.size+1+1,2,none⟩=some a2/\v.cell? ⟨w.heap.size+1+1,3,none⟩=some a3:=
 ⟨h.sp.b.c.cell (i:=0) dE,h.sp.b.c.cell (i:=1) dE,h.sp.b.c.cell (i:=2) dE,h.sp.b.c.cell (i:=3) dE⟩
end
theorem SZ{v:World}{XB:Nat}{b0 b1 b2 b3 b4 b5 b6:Value}(h:v.rowIs XB 55 7 (f7 b0 b1 b2 b3 b4 b5 b6)):v.cell? ⟨XB,0,none⟩=some b0/\v.cell? ⟨XB,1,none⟩=some b1/\v.cell? ⟨XB,2,none⟩=some b2/\v.cell? ⟨XB,3,none⟩=some b3/\v.cell? ⟨XB,4,none⟩=some b4/\v.cell? ⟨XB,5,none⟩=some b5/\v.cell? ⟨XB,6,none⟩=some b6:=
 ⟨h.cell (i:=0) dE,h.cell (i:=1) dE,h.cell (i:=2) dE,h.cell (i:=3) dE,h.cell (i:=4) dE,h.cell (i:=5) dE,h.cell (i:=6) dE⟩


end Go.Proofs.YtheanilpbnencaaGreat
