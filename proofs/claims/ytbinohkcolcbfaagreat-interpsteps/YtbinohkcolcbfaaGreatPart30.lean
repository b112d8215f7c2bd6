import Derived.Test.YtbinohkcolcbfaaGreatPart27
import Derived.Test.YtbinohkcolcbfaaGreatPart23
import Derived.Test.YtbinohkcolcbfaaGreatPart28
import Derived.Test.YtbinohkcolcbfaaGreatPart29
import Derived.Test.YtbinohkcolcbfaaGreatPart25
import Derived.Test.YtbinohkcolcbfaaGreatPart26
import Derived.Test.YtbinohkcolcbfaaGreatPart1
namespace Go.Proofs.YtbinohkcolcbfaaGreat
open Go.RowKit Go.Proofs.Tryz
set_option linter.all false
set_option maxRecDepth 100000
set_option maxHeartbeats 16000000
def Jl(v:World)(sv:Value)(p:Option Addr)(l:List Int):Prop:=l=[]\/∃b o,p=some ⟨b,o,none⟩/\sv.ownBlock≠some b/\∀j,j<l.length->v.cell? ⟨b,o+j,none⟩=some (.int .u32 (B7 l j))
theorem Jl.below{v v':World}{sv:Value}{p:Option Addr}{l:List Int}(h:Jl v sv p l)(k:Below v.heap.size v v'):Jl v' sv p l:=by
 rcases h with rfl|⟨b,o,e,hn,h⟩
 ·exact .inl rfl
 ·exact .inr ⟨b,o,e,hn,fun j hj=>kc k (h j hj)⟩
theorem Jl.grow{V w':World}{p:Option Addr}{n q g c' m:Nat}{pp:Option Addr}{l:List Int}(h:Jl V (.slice p n q) pp l)(hk:∀b,b<V.heap.size->(Value.slice p n q).ownBlock≠some b->w'.heap[b]? =V.heap[b]?)(hg:(Value.slice p n q).ownBlock=some g\/V.heap.size<g):Jl w' (.slice (some ⟨g,0,none⟩) m c') pp l:=by
 exact Zcm
structure Cu where
 p:Option Addr
 q:Nat
 l:List Int
def cuC(x:Cu):List Value:=[.slice x.p x.l.length x.q]
theorem Wq(x:Cu):(cuC x).length=1:=rfl
theorem Wr:∀x:Cu,∀u∈cuC x,u.oneCell'=true:=fun x u hu=>by simp[cuC]at hu;subst hu;rfl
theorem WM:(prog.info? 57).map (fun i=>(i.zero,i.size,i.bytes))=some (some (.slice none 0 0),1,24):=kR
structure Nu(B:Nat)(v:World)(sv:Value)(X:List Cu):Prop where
 own:v.ownsRow B 57 1 sv X.length (AJ cuC X)
 pats:∀x∈X,Jl v sv x.p x.l
 loc:∀x∈X,∀b o s,x.p=some ⟨b,o,s⟩->B<=b
theorem Nu.below{B:Nat}{v v':World}{sv:Value}{X:List Cu}(h:Nu B v sv X)(k:Below v.heap.size v v'):Nu B v' sv X:=⟨Az h.own k,fun x hx=>(h.pats x hx).below k,h.loc⟩
theorem Nu.nil(B:Nat)(v:World):Nu B v (.slice none 0 0) []:=⟨World.ownsRow_nil _ _ _ 1,fun x hx=>(by cases hx),fun x hx=>(by cases hx)⟩
theorem Nu.push{B:Nat}{V:World}{p:Option Addr}{q:Nat}{X:List Cu}(h:Nu B V (.slice p X.length q) X)(hB:B<=V.heap.size)(hX:X.length<=16384)(x:Cu)(hx:Jl V (.slice p X.length q) x.p x.l)(hlo:∀b o s,x.p=some ⟨b,o,s⟩->B<=b)(ty:TypeId):
 ∃g c' w',(Builtin.append_ #[47,47] ty #[.slice p X.length q,.slice (some ⟨V.heap.size,0,none⟩) 1 1]).run prog (V.alloc (.cells #[.slice x.p x.l.length x.q] 57))=.ok (.slice (some ⟨g,0,none⟩) (X.length+1) c') w'/\Below B V w'/\Nu B w' (.slice (some ⟨g,0,none⟩) (X.length+1) c') (X++[x]):=by
 obtain⟨g,c',w',hr,hb,ho,hk,hg⟩:=MJ (V:=V) underlying47 WM rfl dE h.own hB #[.slice x.p x.l.length x.q] rfl (fun u hu=>Wr x u hu) mL oM ty;refine⟨g,c',w',hr,hb,⟨?_,fun y hy=>?_,fun y hy=>?_⟩⟩
 ·rw[List.length_append,Fs];exact ho
 ·rcases List.mem_append.1 hy with e|e
  ·exact(h.pats y e).grow hk hg
  ·simp only[List.mem_singleton]at e;subst e;exact hx.grow hk hg
 ·rcases List.mem_append.1 hy with e|e
  ·exact h.loc y e
  ·simp only[List.mem_singleton]at e;subst e;exact hlo
theorem Nu.vs{B:Nat}{v:World}{sv:Value}{X:List Cu}(h:Nu B v sv X):BC (fun b=>b<B) v sv (X.map (·.l)):=by
 obtain⟨p,q,rfl,hr⟩:=Ee Wq h.own;have hlo:=Ed h.own;refine⟨p,q,by rw[List.length_map],?_⟩;by_cases h0:X=[]
 ·exact .inl (by rw[h0];rfl)
 ·rcases hr with e|⟨b,o,e,hc⟩
  ·exact absurd e h0
  ·have hl:=List.length_pos_iff.2 h0;have hb:b<v.heap.size:=by
    have:=(hc 0 hl).at 0 (v:=.slice (X[0]).p (X[0]).l.length (X[0]).q) rfl;exact A3 this
   refine .inr ⟨b,o,e,fun k=>by have:=hlo b o none e;omega,hb,fun i hi=>?_⟩;rw[List.length_map]at hi;have hci:=(hc i hi).at 0 (v:=.slice (X[i]).p (X[i]).l.length (X[i]).q) rfl;rw[Nat.mul_one,Nat.add_zero]at hci;refine⟨_,hci,(X[i]).p,(X[i]).q,sM,?_⟩;rw[List.getElem_map];rcases h.pats _ (List.getElem_mem hi)with e2|⟨b2,o2,e2,-,h2⟩
   ·exact .inl e2
   ·by_cases h3:(X[i]).l=[]
    ·exact .inl h3
    ·refine .inr ⟨b2,o2,e2,fun k=>by have:=h.loc _ (List.getElem_mem hi) b2 o2 none e2;omega,A3 (h2 0 (List.length_pos_iff.2 h3)),fun k hk j hj=>?_⟩;have hj0:j=0:=by have:j<1:=hj;omega
     subst hj0;rw[Nat.mul_one,Nat.add_zero,h2 k hk];simp[ON,B7,List.getElem?_eq_getElem hk]
def Np(c:Cd)(f:Fr)(p:Nat):List Int:=(List.range (Bd c p)).map (f.outs p)
theorem Yc(c:Cd)(f:Fr):E1 c f=(List.range c.sign.length).map (Np c f):=rfl
theorem DU{α:Type}(g:Nat->α)(n:Nat):(List.range (n+1)).map g=(List.range n).map g++[g n]:=by simp[List.range_succ]
theorem Vj(c:Cd)(hg:Good c)(v0 v1 v2 v3 ru su ou gu pu ct:Value)(f:Fr)(X S O:List Cl)(rel:NC c f X S O)(w:World)(hv:D8 w v0 v1 v2 v3 c)(hou:OuV w ou O):
 Calls prog 49 #[.agg #[v0,v1,v2,v3,ru,su,ou,gu,pu,ct]] w fun e w'=>∃p q,e=.returned (.slice p c.sign.length q)/\BC (fun b=>b<w.heap.size) w' (.slice p c.sign.length q) (E1 c f)/\Below w.heap.size w w':=by
 have hsl:=hg.signL;have hol:=rel.ol;obtain⟨p0,q0,rfl,-⟩:=id hv.sign;obtain⟨po,qo,rfl,-⟩:=id hou.row;have HSG:Hid (B6 3 AG w (.slice p0 c.sign.length q0) c.sign):=hv.sign;have HOU:Hid (OuV w (.slice po O.length qo) O):=hou;have HRL:Hid (Good c/\NC c f X S O):=⟨hg,rel⟩
 obtain⟨n0,hn0⟩:∃n,c.sign.length=n:=⟨_,rfl⟩
 have HN0:Hid (c.sign.length=n0):=hn0;obtain⟨M,hM⟩:∃n,O.length=n:=⟨_,rfl⟩
 have HM:Hid (O.length=M/\M=2*n0):=⟨hM,oM⟩
 rw[hn0]at hsl HSG ⊢;rw[hM]at HOU ⊢;have HC:Hid (∀v,Below (w.alloc (.cells #[.slice p0 n0 q0,v1,v2,v3,ru,su,.slice po M qo,gu,pu,ct] 125)).heap.size (w.alloc (.cells #[.slice p0 n0 q0,v1,v2,v3,ru,su,.slice po M qo,gu,pu,ct] 125)) v->v.cell? ⟨w.heap.size,0,none⟩=some (.slice p0 n0 q0)/\v.cell? ⟨w.heap.size,6,none⟩=some (.slice po M qo)):=fun v hb=>⟨kc hb sG,kc hb sG⟩
 have hM2:M<=128:=oM;clear hg rel hol hv hou hn0 hM;go_enter func49,ntmps49;go_wp2
 go_loopw [3,4] (fun ov iv wr=>Below (w.alloc (.cells #[.slice p0 n0 q0,v1,v2,v3,ru,su,.slice po M qo,gu,pu,ct] 125)).heap.size (w.alloc (.cells #[.slice p0 n0 q0,v1,v2,v3,ru,su,.slice po M qo,gu,pu,ct] 125)) wr/\∃ (j:Nat) (p:Option Addr) (q:Nat) (Y:List Cu),j<=n0/\iv=.int .i64 (j:Int)/\ov=.slice p j q/\Hid (Nu (w.alloc (.cells #[.slice p0 n0 q0,v1,v2,v3,ru,su,.slice po M qo,gu,pu,ct] 125)).heap.size wr (.slice p j q) Y)/\Hid (Y.map (·.l)=(List.range j).map (Np c f))) (fun _ iv _=>n0-(intOf iv).toNat)
 case atStart=>exact⟨B8 _,0,none,0,[],Nat.zero_le _,rfl,rfl,Nu.nil _ _,rfl⟩
 case round=>
  obtain⟨hb,j,p,q,Y,hj,rfl,rfl,hvs,hmap⟩:=hrel;obtain⟨c0,c6⟩:=HC.out wr hb;have HYL:Hid (Y.length=j):=by
   have h5:=congrArg List.length hmap.out;rw[List.length_map,List.length_map,List.length_range]at h5;exact h5
  by_cases hlt:j<n0
  ·have hjl:j<c.sign.length:=by rw[HN0.out];exact hlt
   have hol:2*j<O.length:=by rw[HM.out.1,HM.out.2];omega
   obtain⟨lb,lo,rfl,hx⟩:=HSG.out.at hjl;obtain⟨ob,oo,rfl,hxo⟩:=HOU.out.row.at hol;have HB:Hid (Below (w.alloc (.cells #[.slice (some ⟨lb,lo,none⟩) n0 q0,v1,v2,v3,ru,su,.slice (some ⟨ob,oo,none⟩) M qo,gu,pu,ct] 125)).heap.size (w.alloc (.cells #[.slice (some ⟨lb,lo,none⟩) n0 q0,v1,v2,v3,ru,su,.slice (some ⟨ob,oo,none⟩) M qo,gu,pu,ct] 125)) wr):=hb;have HBW:Hid (Below w.heap.size w wr):=bel (A0 _ _) hb;have hln:=IP HRL.out.1 hjl;obtain⟨hnum,-,hl1,hl2,hap⟩:=EI HRL.out.1 hjl;have hk2:Ag c (j:Int)=if c.sign[j].kind=2 then 2 else 1:=by unfold Ag Ci;simp[hjl]
   obtain⟨o1,ho1,ho2,ho3,ho4⟩:=HRL.out.2.oo j 0 hjl oM;rw[Nat.add_zero,List.getElem?_eq_getElem hol]at ho1;simp only[Option.some.injEq]at ho1;rw[ho1]at hxo;have hno:=HOU.out.nums o1 (by rw[←ho1];exact List.getElem_mem hol);obtain⟨⟨nm,K,L⟩,hT⟩:∃t:BM,c.sign[j]=t:=⟨_,rfl⟩
   rw[hT]at hx hln hl1 hl2 hk2;simp only at hln hl1 hl2 hk2;obtain⟨ln,hlnn⟩:∃n,lenOf c (j:Int)=n:=⟨_,rfl⟩
   rw[hlnn]at ho2 ho4 hln hnum;subst hln;have hlnb:ln<=4096:=oM;have u1:wr.cell? ⟨ob,oo+2*j,none⟩=some (.slice o1.p ln o1.q):=by
    have h1:=kc HBW.out (hxo.at 0 (v:=.slice o1.p o1.h.pats.length o1.q) rfl);rw[Nat.mul_one,Nat.add_zero,ho2]at h1;exact h1
   obtain⟨nb,no,hpe,hnc⟩:∃b o,o1.p=some ⟨b,o,none⟩/\∀m,m<o1.h.pats.length->w.cell? ⟨b,o+m,none⟩=some (.int .i64 (B7 o1.h.pats m)):=by
    rcases hno with e|⟨b,o,e,h⟩
    ·omega
    ·exact⟨b,o,e,h⟩
   rw[hpe]at u1;have y0:=kc HBW.out (hx.at 0 rfl);have y1:=kc HBW.out (hx.at 1 rfl);have y2:=kc HBW.out (hx.at 2 rfl);rw[Nat.add_zero]at y0;have i1:(0:Int)<=(j:Int):=oM;have i2:(j:Int)<(n0:Int):=oM;have w1:IntKind.i64.wrap (2*(j:Int))=((2*j:Nat):Int):=by rw[IntKind.wrap_i64];omega
   have i3:(0:Int)<=((2*j:Nat):Int):=oM;have i4:((2*j:Nat):Int)<(M:Int):=by have:=HM.out.2;omega
   clear hb ho1 hol hxo hno hl1 hl2 hlnn hpe;by_cases hK:K=2
   ·rw[if_pos hK]at hk2;have hKb:(K==2)=true:=by simpa using hK
    have hol2:2*j+1<O.length:=by rw[HM.out.1,HM.out.2];omega
    obtain⟨ob',oo',hpo',hxo2⟩:=HOU.out.row.at hol2;simp only[Option.some.injEq,Addr.mk.injEq,and_true]at hpo';obtain⟨rfl,rfl⟩:=hpo';obtain⟨o2,ho1',hp2,hp3,hp4⟩:=HRL.out.2.oo j 1 hjl oM;rw[List.getElem?_eq_getElem hol2]at ho1';simp only[Option.some.injEq]at ho1';rw[ho1']at hxo2;have hno2:=HOU.out.nums o2 (by rw[←ho1'];exact List.getElem_mem hol2);have hlnn:lenOf c (j:Int)=ln:=by have h1:=hnum;first|(have:=IP HRL.out.1 hjl;rw[hT]at this;simp only at this;omega)
    rw[hlnn]at hp2 hp4;have u2:wr.cell? ⟨ob,oo+(2*j+1),none⟩=some (.slice o2.p ln o2.q):=by
     have h1:=kc HBW.out (hxo2.at 0 (v:=.slice o2.p o2.h.pats.length o2.q) rfl);rw[Nat.mul_one,Nat.add_zero,hp2]at h1;exact h1
    obtain⟨nb2,no2,hpe2,hnc2⟩:∃b o,o2.p=some ⟨b,o,none⟩/\∀m,m<o2.h.pats.length->w.cell? ⟨b,o+m,none⟩=some (.int .i64 (B7 o2.h.pats m)):=by
     rcases hno2 with e|⟨b,o,e,h⟩
     ·have:=HRL.out.1.len _ (List.getElem_mem hjl);rw[hT]at this;simp only at this;omega
     ·exact⟨b,o,e,h⟩
    rw[hpe2]at u2;have w2:IntKind.i64.wrap (((2*j:Nat):Int)+1)=((2*j+1:Nat):Int):=by rw[IntKind.wrap_i64];omega
    have i5:(0:Int)<=((2*j+1:Nat):Int):=oM;have i6:((2*j+1:Nat):Int)<(M:Int):=by have:=HM.out.2;omega
    replace hap:Ag c (j:Int)=2:=hk2
    clear ho1' hol2 hxo2 hno2 hlnn hpe2 hk2 hK hT hjl;have HV1:Hid (∀m,m<ln->wr.cell? ⟨nb,no+m,none⟩=some (.int .i64 (f.outs j (2*m)))):=fun m hm=>by
     have h1:=kc HBW.out (hnc m (by rw[ho2];exact hm));rw[ho4 m hm]at h1;rw[hap]at h1;exact h1
    have HP1:Hid (∀m,m<ln->Af (f.outs j (2*m))):=fun m hm=>by
     have h1:=Bv ho3 m;rw[ho4 m hm]at h1;rw[hap]at h1;exact h1
    have HV2:Hid (∀m,m<ln->wr.cell? ⟨nb2,no2+m,none⟩=some (.int .i64 (f.outs j (2*m+1)))):=fun m hm=>by
     have h1:=kc HBW.out (hnc2 m (by rw[hp2];exact hm));rw[hp4 m hm,hap]at h1;exact h1
    have HP2:Hid (∀m,m<ln->Af (f.outs j (2*m+1))):=fun m hm=>by
     have h1:=Bv hp3 m;rw[hp4 m hm,hap]at h1;exact h1
    have HUU:Hid (Np c f j=(List.range (2*ln)).map (f.outs j)):=by
     show _=_;unfold Np;rw[hnum,hap]
    have b6:=fun v (hb:Below wr.heap.size wr v)=>kc hb c6;have b7:=fun v (hb:Below wr.heap.size wr v)=>kc hb u1;have b8:=fun v (hb:Below wr.heap.size wr v)=>kc hb u2;have HB6:Hid _:=b6;have HB7:Hid _:=b7;have HB8:Hid _:=b8;clear ho2 ho3 ho4 hnc hx hap hnum b6 b7 hp2 hp3 hp4 hnc2 b8;go_wp2;have HEC:Hid (∀v,Below (wr.alloc (.cells #[.string nm,.int .i64 K,.int .i64 (ln:Int)] 66)).heap.size (wr.alloc (.cells #[.string nm,.int .i64 K,.int .i64 (ln:Int)] 66)) v->v.cell? ⟨wr.heap.size,1,none⟩=some (.int .i64 K)/\v.cell? ⟨wr.heap.size,2,none⟩=some (.int .i64 (ln:Int))/\Below wr.heap.size wr v):=fun v hb=>⟨kc hb sG,kc hb sG,bel (A0 _ _) hb⟩
    have hEs:wr.heap.size<(wr.alloc (.cells #[.string nm,.int .i64 K,.int .i64 (ln:Int)] 66)).heap.size:=sM;obtain⟨WE,hWE⟩:∃W,(wr.alloc (.cells #[.string nm,.int .i64 K,.int .i64 (ln:Int)] 66))=W:=⟨_,rfl⟩
    rw[hWE]at HEC hEs;try rw[hWE]
    clear hWE c0 c6 y0 y1 y2 u1 u2
    go_loopw [6,7] (fun vv kv wx=>Below WE.heap.size WE wx/\∃ (m:Nat) (pv:Option Addr) (qv:Nat),m<=ln/\kv=.int .i64 (m:Int)/\vv=.slice pv (2*m) qv/\Hid (wx.ownsRow WE.heap.size 43 1 (.slice pv (2*m) qv) (2*m) (Ia ((List.range (2*m)).map (f.outs j))))) (fun _ kv _=>ln-(intOf kv).toNat)
    case atStart=>exact⟨B8 _,0,none,0,Nat.zero_le _,rfl,rfl,World.ownsRow_nil _ _ _ 1⟩
    case round=>
     obtain⟨hbx,m,pv,qv,hm,rfl,rfl,how⟩:=hrel;rename World=>wx;obtain⟨e1,e2,hbw⟩:=HEC.out wx hbx;have HBX:Hid (Below WE.heap.size WE wx):=hbx;have c6:=HB6.out wx hbw;have u1:=HB7.out wx hbw;have u2:=HB8.out wx hbw;by_cases hml:m<ln
     ·have a1:=kc hbw (HV1.out m hml);have hPz:=HP1.out m hml;have a2:=kc hbw (HV2.out m hml);have hPy:=HP2.out m hml;obtain⟨z,hz⟩:∃z,f.outs j (2*m)=z:=⟨_,rfl⟩
      have HZ:Hid (f.outs j (2*m)=z):=hz;rw[hz]at a1 hPz;have tz:IntKind.u32.wrap z=z:=by rw[IntKind.wrap_u32];have:=hPz.1;have:=hPz.2;omega
      obtain⟨g,c',w8,hap1,hb8,ho8,-⟩:=EU (V:=wx) underlying57 Gt rfl dE how.out hbx.size #[.int .u32 z] rfl ZC mL oM 57;have HAP1:Hid _:=hap1;obtain⟨y,hy⟩:∃z,f.outs j (2*m+1)=z:=⟨_,rfl⟩
      have HY:Hid (f.outs j (2*m+1)=y):=hy;rw[hy]at a2 hPy;have ty:IntKind.u32.wrap y=y:=by rw[IntKind.wrap_u32];have:=hPy.1;have:=hPy.2;omega
      have hb8':=hbx.trans hb8;obtain⟨g2,c2,w9,hap2,hb9,ho9,-⟩:=EU (V:=w8) underlying57 Gt rfl dE ho8 hb8'.size #[.int .u32 y] rfl ZC mL oM 57;have HAP2:Hid _:=hap2;have HNX:Hid (w9.ownsRow WE.heap.size 43 1 (.slice (some ⟨g2,0,none⟩) (2*(m+1)) c2) (2*(m+1)) (Ia ((List.range (2*(m+1))).map (f.outs j)))):=by
       show World.ownsRow _ _ _ _ _ _ _;rw[show 2*(m+1)=2*m+1+1 by omega,DU,DU,FO,FO,HZ.out,HY.out];exact ho9
      have HB9:Hid (Below WE.heap.size WE w9):=hb8'.trans hb9;obtain⟨e3,e4,hbw8⟩:=HEC.out w8 hb8';have k6:=HB6.out w8 hbw8;have k7:=HB8.out w8 hbw8;have k8:=kc hbw8 (HV2.out m hml);rw[hy]at k8;have t0:(m:Int)<(ln:Int):=oM;have t5:IntKind.i64.wrap ((m:Int)+1)=((m+1:Nat):Int):=by rw[IntKind.wrap_i64];omega
      clear hap1 hb8 ho8 hz how hbx hbw hbw8 hap2 hb8' hb9 ho9 hy;go_upto_region 12 with(at_builtin;refine Av rF _ _ _ rF _ _ _ rF rF HAP1.out ?_)
      go_wp2_with(at_builtin;refine Av rF _ _ _ rF _ _ _ rF rF HAP2.out ?_);go_roundw
      case rel=>exact⟨HB9.out,m+1,_,_,oM,gN,rfl,HNX.out⟩
      case measure=>simp[intOf];omega
     ·have hme:m=ln:=oM;have e9:¬ (m:Int)<(ln:Int):=oM;have hvx:=hvs.out.below hbw;have hlt2:=hvs.out.own.lt;have HJ2:Hid (m=ln):=hme;have hPA:Jl wx (.slice p j q) pv ((List.range (2*m)).map (f.outs j)):=by
       rcases LK (l:=(List.range (2*m)).map (f.outs j)) Zhc with h|⟨b,o,e,h⟩
       ·exact .inl (List.length_eq_zero_iff.1 h)
       ·refine .inr ⟨b,o,e,fun e5=>?_,h⟩;have h6:=Ed how.out b o none e;have h7:=(hlt2 b e5).2;omega
      have hlY:Y.length=j:=HYL.out;have hvx':Nu (w.alloc (.cells #[.slice (some ⟨lb,lo,none⟩) n0 q0,v1,v2,v3,ru,su,.slice (some ⟨ob,oo,none⟩) M qo,gu,pu,ct] 125)).heap.size wx (.slice p Y.length q) Y:=by rw[hlY];exact hvx
      obtain⟨g3,c3,w7,hrun,hb7,hvs7⟩:=hvx'.push (by have h1:=HB.out.size;have h2:=hbw.size;omega) oM ⟨pv,qv,(List.range (2*m)).map (f.outs j)⟩ (by rw[hlY];exact hPA) (fun b o s e=>by have h6:=Ed how.out b o s e;have h7:=HB.out.size;omega) 47;rw[hlY]at hrun hvs7;simp only[List.length_map,List.length_range]at hrun;have HRUN:Hid _:=hrun;have HV7:Hid (Nu (w.alloc (.cells #[.slice (some ⟨lb,lo,none⟩) n0 q0,v1,v2,v3,ru,su,.slice (some ⟨ob,oo,none⟩) M qo,gu,pu,ct] 125)).heap.size w7 (.slice (some ⟨g3,0,none⟩) (j+1) c3) (Y++[⟨pv,qv,(List.range (2*m)).map (f.outs j)⟩])):=hvs7;have HB7':Hid (Below (w.alloc (.cells #[.slice (some ⟨lb,lo,none⟩) n0 q0,v1,v2,v3,ru,su,.slice (some ⟨ob,oo,none⟩) M qo,gu,pu,ct] 125)).heap.size (w.alloc (.cells #[.slice (some ⟨lb,lo,none⟩) n0 q0,v1,v2,v3,ru,su,.slice (some ⟨ob,oo,none⟩) M qo,gu,pu,ct] 125)) w7):=(HB.out.trans (hbw.mono HB.out.size)).trans hb7;have HM7:Hid ((Y++[(⟨pv,qv,(List.range (2*m)).map (f.outs j)⟩:Cu)]).map (·.l)=(List.range (j+1)).map (Np c f)):=by
       show _=_;rw[List.map_append,hmap.out,DU,HUU.out,HJ2.out];rfl
      exact Zcr
   ·rw[if_neg hK]at hk2;have hKb:(K==2)=false:=by simpa using hK
    replace hap:Ag c (j:Int)=1:=hk2
    clear hk2 hK hT hjl;have HV1:Hid (∀m,m<ln->wr.cell? ⟨nb,no+m,none⟩=some (.int .i64 (f.outs j m))):=fun m hm=>by
     have h1:=kc HBW.out (hnc m (by rw[ho2];exact hm));rw[ho4 m hm]at h1;rw[hap,Nat.one_mul]at h1;exact h1
    have HP1:Hid (∀m,m<ln->Af (f.outs j m)):=fun m hm=>by
     have h1:=Bv ho3 m;rw[ho4 m hm]at h1;rw[hap,Nat.one_mul]at h1;exact h1
    have HUU:Hid (Np c f j=(List.range (ln)).map (f.outs j)):=by
     show _=_;unfold Np;rw[hnum,hap,Nat.one_mul]
    have b6:=fun v (hb:Below wr.heap.size wr v)=>kc hb c6;have b7:=fun v (hb:Below wr.heap.size wr v)=>kc hb u1;have HB6:Hid _:=b6;have HB7:Hid _:=b7;clear ho2 ho3 ho4 hnc hx hap hnum b6 b7;go_wp2;have HEC:Hid (∀v,Below (wr.alloc (.cells #[.string nm,.int .i64 K,.int .i64 (ln:Int)] 66)).heap.size (wr.alloc (.cells #[.string nm,.int .i64 K,.int .i64 (ln:Int)] 66)) v->v.cell? ⟨wr.heap.size,1,none⟩=some (.int .i64 K)/\v.cell? ⟨wr.heap.size,2,none⟩=some (.int .i64 (ln:Int))/\Below wr.heap.size wr v):=fun v hb=>⟨kc hb sG,kc hb sG,bel (A0 _ _) hb⟩
    have hEs:wr.heap.size<(wr.alloc (.cells #[.string nm,.int .i64 K,.int .i64 (ln:Int)] 66)).heap.size:=sM;obtain⟨WE,hWE⟩:∃W,(wr.alloc (.cells #[.string nm,.int .i64 K,.int .i64 (ln:Int)] 66))=W:=⟨_,rfl⟩
    rw[hWE]at HEC hEs;try rw[hWE]
    clear hWE c0 c6 y0 y1 y2 u1
    go_loopw [6,7] (fun vv kv wx=>Below WE.heap.size WE wx/\∃ (m:Nat) (pv:Option Addr) (qv:Nat),m<=ln/\kv=.int .i64 (m:Int)/\vv=.slice pv (m) qv/\Hid (wx.ownsRow WE.heap.size 43 1 (.slice pv (m) qv) (m) (Ia ((List.range (m)).map (f.outs j))))) (fun _ kv _=>ln-(intOf kv).toNat)
    case atStart=>exact⟨B8 _,0,none,0,Nat.zero_le _,rfl,rfl,World.ownsRow_nil _ _ _ 1⟩
    case round=>
     obtain⟨hbx,m,pv,qv,hm,rfl,rfl,how⟩:=hrel;rename World=>wx;obtain⟨e1,e2,hbw⟩:=HEC.out wx hbx;have HBX:Hid (Below WE.heap.size WE wx):=hbx;have c6:=HB6.out wx hbw;have u1:=HB7.out wx hbw;by_cases hml:m<ln
     ·have a1:=kc hbw (HV1.out m hml);have hPz:=HP1.out m hml;obtain⟨z,hz⟩:∃z,f.outs j m=z:=⟨_,rfl⟩
      have HZ:Hid (f.outs j m=z):=hz;rw[hz]at a1 hPz;have tz:IntKind.u32.wrap z=z:=by rw[IntKind.wrap_u32];have:=hPz.1;have:=hPz.2;omega
      obtain⟨g,c',w8,hap1,hb8,ho8,-⟩:=EU (V:=wx) underlying57 Gt rfl dE how.out hbx.size #[.int .u32 z] rfl ZC mL oM 57;have HAP1:Hid _:=hap1;have HNX:Hid (w8.ownsRow WE.heap.size 43 1 (.slice (some ⟨g,0,none⟩) (m+1) c') (m+1) (Ia ((List.range (m+1)).map (f.outs j)))):=by
       show World.ownsRow _ _ _ _ _ _ _;rw[DU,FO,HZ.out];exact ho8
      have HB9:Hid (Below WE.heap.size WE w8):=hbx.trans hb8;obtain⟨e3,e4,hbw8⟩:=HEC.out w8 (hbx.trans hb8);have t0:(m:Int)<(ln:Int):=oM;have t5:IntKind.i64.wrap ((m:Int)+1)=((m+1:Nat):Int):=by rw[IntKind.wrap_i64];omega
      clear hap1 hb8 ho8 hz how hbx hbw hbw8;go_wp2_with(at_builtin;refine Av rF _ _ _ rF _ _ _ rF rF HAP1.out ?_);go_roundw
      case rel=>exact⟨HB9.out,m+1,_,_,oM,gN,rfl,HNX.out⟩
      case measure=>simp[intOf];omega
     ·have hme:m=ln:=oM;have e9:¬ (m:Int)<(ln:Int):=oM;have hvx:=hvs.out.below hbw;have hlt2:=hvs.out.own.lt;have HJ2:Hid (m=ln):=hme;have hPA:Jl wx (.slice p j q) pv ((List.range (m)).map (f.outs j)):=by
       rcases LK (l:=(List.range (m)).map (f.outs j)) Zhc with h|⟨b,o,e,h⟩
       ·exact .inl (List.length_eq_zero_iff.1 h)
       ·refine .inr ⟨b,o,e,fun e5=>?_,h⟩;have h6:=Ed how.out b o none e;have h7:=(hlt2 b e5).2;omega
      have hlY:Y.length=j:=HYL.out;have hvx':Nu (w.alloc (.cells #[.slice (some ⟨lb,lo,none⟩) n0 q0,v1,v2,v3,ru,su,.slice (some ⟨ob,oo,none⟩) M qo,gu,pu,ct] 125)).heap.size wx (.slice p Y.length q) Y:=by rw[hlY];exact hvx
      obtain⟨g3,c3,w7,hrun,hb7,hvs7⟩:=hvx'.push (by have h1:=HB.out.size;have h2:=hbw.size;omega) oM ⟨pv,qv,(List.range (m)).map (f.outs j)⟩ (by rw[hlY];exact hPA) (fun b o s e=>by have h6:=Ed how.out b o s e;have h7:=HB.out.size;omega) 47;rw[hlY]at hrun hvs7;simp only[List.length_map,List.length_range]at hrun;have HRUN:Hid _:=hrun;have HV7:Hid (Nu (w.alloc (.cells #[.slice (some ⟨lb,lo,none⟩) n0 q0,v1,v2,v3,ru,su,.slice (some ⟨ob,oo,none⟩) M qo,gu,pu,ct] 125)).heap.size w7 (.slice (some ⟨g3,0,none⟩) (j+1) c3) (Y++[⟨pv,qv,(List.range (m)).map (f.outs j)⟩])):=hvs7;have HB7':Hid (Below (w.alloc (.cells #[.slice (some ⟨lb,lo,none⟩) n0 q0,v1,v2,v3,ru,su,.slice (some ⟨ob,oo,none⟩) M qo,gu,pu,ct] 125)).heap.size (w.alloc (.cells #[.slice (some ⟨lb,lo,none⟩) n0 q0,v1,v2,v3,ru,su,.slice (some ⟨ob,oo,none⟩) M qo,gu,pu,ct] 125)) w7):=(HB.out.trans (hbw.mono HB.out.size)).trans hb7;have HM7:Hid ((Y++[(⟨pv,qv,(List.range (m)).map (f.outs j)⟩:Cu)]).map (·.l)=(List.range (j+1)).map (Np c f)):=by
       show _=_;rw[List.map_append,hmap.out,DU,HUU.out,HJ2.out];rfl
      exact Zcr
  ·have hjn:j=n0:=oM;have e1:¬ (j:Int)<(n0:Int):=oM;have HF:Hid (BC (fun b=>b<w.heap.size) wr (.slice p n0 q) (E1 c f)):=by
    show BC _ _ _ _;rw[Yc,HN0.out,←hjn,←hmap.out];exact hvs.out.vs.mono (fun b _ e=>by simp only[World.size_alloc];omega)
   have HJ:Hid (j=n0):=hjn;have HB:Hid (Below w.heap.size w wr):=bel (A0 _ _) hb;clear hvs hmap hlt hjn hb;go_wp2;go_ret;exact⟨p,q,by rw[HJ.out];rfl,HF.out,HB.out⟩
theorem Lh{rs:List Ty}{l n:Int}{m:Ty}(h:Ab rs l n m=true):0<=n:=by
 by_cases hl:l=0
 ·unfold Ab at h;rw[if_pos hl]at h;simp only[beq_iff_eq]at h;omega
 ·exact(Ae h hl).1
theorem VU{f:Fr}{i:At}{a b d:Int}(ho:21<=i.op/\i.op<=28)(ha:a=f.whs i.a.toNat)(hb:(A6 i.op).b≠0->b=f.whs i.b.toNat)(hc:(A6 i.op).c≠0->d=f.whs i.c.toNat):CK i.op a b d=DX f i:=by
 obtain⟨op,D,A,B,Ec,nn,bt⟩:=i;simp only at ho ha hb hc ⊢;subst ha;have:op=21\/op=22\/op=23\/op=24\/op=25\/op=26\/op=27\/op=28:=oM;rcases this with rfl|rfl|rfl|rfl|rfl|rfl|rfl|rfl
 ·show min (f.whs A.toNat+1) 2147483647=min (f.whs A.toNat) 2147483646+1;omega
 ·rw[hb dE];rfl
 ·rw[hb dE];rfl
 ·rw[hb dE];rfl
 ·rfl
 ·rw[hb dE,hc dE];rfl
 ·rw[hb dE];rfl
 ·rw[hb dE];rfl
theorem Y9(x:Int):B4 (x%2147483648 != 0&&decide (x%2147483648<=2139095040))=B4 (G8 x 1065353216 0==1065353216):=by
 congr 1;unfold G8;by_cases hn:nan x=true
 ·rw[hn];have:2139095040<x%2147483648:=by unfold nan at hn;simpa using hn
  have e:decide (x%2147483648<=2139095040)=false:=sO;rw[e,Bool.and_false,Bool.true_or];decide
 ·have hn':nan x=false:=by simpa using hn
  have:¬2139095040<x%2147483648:=by intro h;exact hn (by unfold nan;simpa using h)
  have e:decide (x%2147483648<=2139095040)=true:=sO;rw[hn',e,Bool.and_true];by_cases h0:x%2147483648=0
  ·rw[h0];decide
  ·have h1:(x%2147483648 != 0)=true:=by simpa using h0
   have h2:(x%2147483648==0)=false:=by simpa using h0
   rw[h1,h2];decide
theorem Wm{c:Cd}{f:Fr}{i:At}{xa xb xc:Cl}(he:Bi i.op=true)(ha:xa.h=BG c f i.a)(hb:(A6 i.op).b≠0->xb.h=BG c f i.b)(hc:(A6 i.op).c≠0->xc.h=BG c f i.c):CT xa.h.pats xb.h.pats xc.h.pats (BA i.op)=Bh c f i:=by
 obtain⟨op,D,A,B,Ec,nn,bt⟩:=i;unfold Bi at he;simp only[Bool.and_eq_true,decide_eq_true_eq]at he ha hb hc ⊢;have:op=3\/op=4\/op=5\/op=6\/op=7\/op=8\/op=9\/op=10\/op=11\/op=12\/op=13\/op=14\/op=15:=oM;rcases this with rfl|rfl|rfl|rfl|rfl|rfl|rfl|rfl|rfl|rfl|rfl|rfl|rfl
 all_goals
  first
   |(rw[ha,hb dE,hc dE];rfl)
   |(rw[ha,hb dE];rfl)
   |(rw[ha];rfl)
theorem Xa{c:Cd}{f:Fr}{X:List Cl}{i:At}(kn:∀r∈Ak i (A6 i.op),Pk c f X r.toNat){r:Int}(hr:r∈Ak i (A6 i.op))(h0:0<=r){x:Cl}(hx:X[r.toNat]? =some x):x.h=BG c f r:=by
 obtain⟨y,hy,e⟩:=kn r hr;rw[hx]at hy;cases hy
 rw[e,show((r.toNat:Nat):Int)=r by omega]
theorem mem_b{i:At}{r:Rw}(h:r.b≠0):i.b∈Ak i r:=by unfold Ak;simp[h]
theorem mem_c{i:At}{r:Rw}(h:r.c≠0):i.c∈Ak i r:=by unfold Ak;simp[h]
theorem rd_1{c:Cd}{f:Fr}{r:Int}(h:(A8 c.regs r).kind=1):BG c f r=⟨[f.nums r.toNat],0⟩:=by unfold BG;rw[if_pos h]
theorem OQ{c:Cd}{f:Fr}{r:Int}(h:(A8 c.regs r).kind=2):BG c f r=⟨[],f.whs r.toNat⟩:=by unfold BG;rw[if_neg oM,if_pos h]
theorem rd_3{c:Cd}{f:Fr}{r:Int}(h:(A8 c.regs r).kind=3):BG c f r=⟨f.vecs r.toNat,0⟩:=by unfold BG;rw[if_neg oM,if_neg oM]
abbrev rfV(p0 p1 p2 p3 pr p5 p6 p7 p8:Option Addr)(n0 q0 n1 q1 n2 q2 n3 q3 N qr n5 q5 n6 q6 n7 q7 n8 q8:Nat)(ct:Int):Value:=.agg #[.slice p0 n0 q0,.slice p1 n1 q1,.slice p2 n2 q2,.slice p3 n3 q3,.slice pr N qr,.slice p5 n5 q5,.slice p6 n6 q6,.slice p7 n7 q7,.slice p8 n8 q8,.int .i64 ct]
theorem JL{T:Nat->Prop}{c:Cd}{f:Fr}{i:At}(hg:Good c)(L:List (List Int))(hL:Cm c L)(hp:Fk c i.d i.n)(p0 p1 p7:Option Addr)(q0 q1 n7 q7:Nat)(v2 v3:Value)(w:World)(hv:D8 w (.slice p0 c.sign.length q0) (.slice p1 c.regs.length q1) v2 v3 c)(hvc:JA w (.slice p7 n7 q7) L):
 ∃ (par sb so:Nat) (nm:ByteArray) (K:Int) (len lb lo:Nat) (tk:Int) (vb vo:Nat) (px:Option Addr) (M qx:Nat),p0=some ⟨sb,so,none⟩/\p1=some ⟨lb,lo,none⟩/\par<c.sign.length/\p7=some ⟨vb,vo,none⟩/\par<n7/\n7<=64/\w.cell? ⟨sb,so+par*3,none⟩=some (.string nm)/\w.cell? ⟨sb,so+par*3+1,none⟩=some (.int .i64 K)/\w.cell? ⟨sb,so+par*3+2,none⟩=some (.int .i64 (len:Int))/\w.cell? ⟨lb,lo+i.d.toNat*2,none⟩=some (.int .i64 tk)/\w.cell? ⟨lb,lo+i.d.toNat*2+1,none⟩=some (.int .i64 (par:Int))/\w.cell? ⟨vb,vo+par,none⟩=some (.slice px M qx)/\
  ∀v,Below w.heap.size w v->Calls prog 85 #[.agg #[.string nm,.int .i64 K,.int .i64 (len:Int)],.slice px M qx,.int .i64 i.n] v fun e w'=>∃p' q',e=.returned (.slice p' (AH c L i).length q')/\BO w' p' (AH c L i)/\Below v.heap.size v w'/\∀b o s,p'=some ⟨b,o,s⟩->v.heap.size<=b:=by
 obtain⟨par,hpar,hpl⟩:=LL hg hp.r0 hp.r1 hp.kind;have hdl:i.d.toNat<c.regs.length:=by have:=hp.r0;have:=hp.r1;omega
 obtain⟨sb,so,rfl,hs⟩:=hv.sign.at hpl;obtain⟨lb,lo,rfl,hl⟩:=hv.regs.at hdl;obtain⟨p7',c7,e7,hvv⟩:=hvc;simp only[Value.slice.injEq]at e7;obtain⟨rfl,rfl,rfl⟩:=e7;have hpL:par<L.length:=by rw[hL.len];exact hpl
 obtain⟨vb,vo,px,qx,rfl,hcell,hrd⟩:=hvv par hpL;have hln:=IP hg hpl;obtain⟨hnum,hlen2,hl1,hl2,hap⟩:=EI hg hpl;have hk2:Ag c (par:Int)=if c.sign[par].kind=2 then 2 else 1:=by unfold Ag Ci;simp[hpl]
 have hreg:c.regs[i.d.toNat].par=(par:Int):=by
  have h1:=Bj hdl;rw[show((i.d.toNat:Nat):Int)=i.d by have:=hp.r0;omega]at h1;rw[←h1];exact hpar
 have hn0:=hp.n0;rw[hpar]at hn0;have hlv:=hL.each par hpL;obtain⟨nn,hnn⟩:∃n:Nat,i.n=(n:Int):=⟨i.n.toNat,oM⟩
 have hnk:nn<Ag c (par:Int):=by
  unfold Ag;rcases hn0 with e|⟨e,e2⟩
  ·have:nn=0:=oM;subst this;split<;>decide
  ·have:nn=1:=oM;subst this;rw[if_pos e2];decide
 refine⟨par,sb,so,c.sign[par].name,c.sign[par].kind,lenOf c (par:Int),lb,lo,c.regs[i.d.toNat].kind,vb,vo,px,L[par].length,qx,rfl,rfl,hpl,rfl,hpL,by rw[hL.len];exact hg.signL,hs.at 0 rfl,hs.at 1 rfl,by rw[hln];exact hs.at 2 rfl,hl.at 0 rfl,by rw[←hreg];exact hl.at 1 rfl,hcell,fun v hb=>?_⟩;have hpp:AH c L i=Ef L[par] (Ag c (par:Int)) nn (lenOf c (par:Int)):=by
  unfold AH Ef;rw[hpar,hnn];simp only[Int.toNat_natCast];rw[DV hpL]
 rw[hpp,Kj,hnn];refine(MX c.sign[par].name c.sign[par].kind (lenOf c (par:Int)) oM (Ag c (par:Int)) hk2 L[par] (hL.isP _ (List.getElem_mem hpL)) px qx nn hnk (by rw[hlv,hnum];exact Nat.le_refl _) (by rw[hlv,hnum];rcases hap with e|e<;>rw[e]<;>omega) v (hrd.below hb)).mono ?_;exact fun e w' h=>h
theorem SZ{T:Nat->Prop}{c:Cd}{G P:List (List Int)}{f:Fr}{i:At}{s:Wk}{X S O:List Cl}(hg:Good c)(ok:EN c f)(t:AR c s i=true)(hb:Af i.bits)(fg:Cm c G)(fp:Cm c P)(nd:CP c f i)(rel:NC c f X S O)(kn:∀r∈Ak i (A6 i.op),Pk c f X r.toNat)
 (p0 p1 p2 p3 pr p5 p6 p7 p8:Option Addr) (q0 q1 q2 q3 qr q5 q6 q7 q8:Nat) (ct:Int) (w:World) (hT:∀b,T b->b<w.heap.size) (hv:D8 w (.slice p0 c.sign.length q0) (.slice p1 c.regs.length q1) (.slice p2 c.slots.length q2) (.slice p3 c.list.length q3) c) (hcs:AO T w (.slice pr c.regs.length qr) X) (hss:AO T w (.slice p5 c.slots.length q5) S) (hoo:GZ T w (.slice p6 O.length q6) O) (hgu:JA w (.slice p7 G.length q7) G) (hpu:JA w (.slice p8 P.length q8) P):
 Calls prog 48 #[rfV p0 p1 p2 p3 pr p5 p6 p7 p8 c.sign.length q0 c.regs.length q1 c.slots.length q2 c.list.length q3 c.regs.length qr c.slots.length q5 O.length q6 G.length q7 P.length q8 ct,Dr i] w fun e w'=>∃pr' qr' p5' q5' p6' q6' X' S' O',e=.returned (rfV p0 p1 p2 p3 pr' p5' p6' p7 p8 c.sign.length q0 c.regs.length q1 c.slots.length q2 c.list.length q3 c.regs.length qr' c.slots.length q5' O.length q6' G.length q7 P.length q8 ct)/\AO T w' (.slice pr' c.regs.length qr') X'/\AO T w' (.slice p5' c.slots.length q5') S'/\GZ T w' (.slice p6' O.length q6') O'/\O'.length=O.length/\Zw c G P f i X S O X' S' O'/\Below w.heap.size w w':=by
 obtain⟨hk,h2,_,h4⟩:=AZ t;have hX:=rel.xl;have hXl:=hg.regsL;have hSl:S.length=c.slots.length:=by have h1:=congrArg List.length rel.sl;rw[List.length_map,ok.slotsL]at h1;exact h1
 have nD:=Lh (E6 h2);have nA:=Lh (D9 h2);have nB:=Lh (FH h2);have nC:=Lh (FI h2);obtain⟨op,D,A,B,Ec,nn,bt⟩:=i;unfold rfV Dr;simp only at hb hk nD nA nB nC;obtain⟨kd,rfl⟩:∃n:Nat,D=(n:Int):=⟨D.toNat,oM⟩
 obtain⟨ka,rfl⟩:∃n:Nat,A=(n:Int):=⟨A.toNat,oM⟩
 obtain⟨kb,rfl⟩:∃n:Nat,B=(n:Int):=⟨B.toNat,oM⟩
 obtain⟨kk,rfl⟩:∃n:Nat,Ec=(n:Int):=⟨Ec.toNat,oM⟩
 have AL:0<c.regs.length->ka<c.regs.length:=fun h=>by have:=(E8 (D9 h2) h).2;simp only at this;omega
 have BL:0<c.regs.length->kb<c.regs.length:=fun h=>by have:=(E8 (FH h2) h).2;simp only at this;omega
 have CL:0<c.regs.length->kk<c.regs.length:=fun h=>by have:=(E8 (FI h2) h).2;simp only at this;omega
 have KA:∀x,(A6 op).a≠0->X[ka]? =some x->x.h=BG c f (ka:Int):=fun x h hx=>Xa kn (r:=(ka:Int)) (Kb h) oM hx;have KB:∀x,(A6 op).b≠0->X[kb]? =some x->x.h=BG c f (kb:Int):=fun x h hx=>Xa kn (r:=(kb:Int)) (mem_b h) oM hx;have KC:∀x,(A6 op).c≠0->X[kk]? =some x->x.h=BG c f (kk:Int):=fun x h hx=>Xa kn (r:=(kk:Int)) (mem_c h) oM hx;have MA:=fun(h:(A6 op).a≠0)=>B9 (D9 h2) h;have MB:=fun(h:(A6 op).b≠0)=>B9 (FH h2) h;have MC:=fun(h:(A6 op).c≠0)=>B9 (FI h2) h;have DL:(A6 op).d≠0->kd<c.regs.length:=fun h=>by have:=(Ae (E6 h2) h).2;simp only at this;omega
 simp only at MA MB MC;rcases EJ hk with e|e|e|e|e|e|e|e|e
 ·have hop:op=1\/op=16\/op=17\/op=19\/op=20:=by unfold Du at e;simp only[Bool.or_eq_true,beq_iff_eq]at e;omega
  rcases hop with rfl|rfl|rfl|rfl|rfl
  ·have hd:(A6 1).d≠0:=dE;have dl:=DL hd;have hval:(⟨[bt],0⟩:Hd)=CO c G P f ⟨1,(kd:Int),(ka:Int),(kb:Int),(kk:Int),nn,bt⟩:=by rw[GW nd rF];rfl
   refine(T0 p0 p1 p2 p3 p5 p6 p7 p8 c.sign.length q0 c.regs.length q1 c.slots.length q2 c.list.length q3 c.slots.length q5 O.length q6 G.length q7 P.length q8 ct pr qr X c.regs.length hX hXl nn bt kd ka kb kk dl w hT hcs hb).mono ?_;exact QB
  ·have hd:(A6 16).d≠0:=dE;have dl:=DL hd;have al:=AL oM;have hxa:X[ka]? =some (X[ka]'oM):=List.getElem?_eq_getElem oM;have hah:=KA _ dE hxa;have hma:=MA dE;have bl:=BL oM;have hxb:X[kb]? =some (X[kb]'oM):=List.getElem?_eq_getElem oM;have hbh:=KB _ dE hxb;have hmb:=MB dE;have ka1:(A8 c.regs (ka:Int)).kind=1:=by simpa[B3,A6]using hma
   have kb2:(A8 c.regs (kb:Int)).kind=2:=by simpa[B3,A6]using hmb
   rw[rd_1 ka1,Int.toNat_natCast]at hah;rw[OQ kb2,Int.toNat_natCast]at hbh;have hval:(⟨[Gs (f.nums ka) (X[kb]'oM).h.whole],0⟩:Hd)=CO c G P f ⟨16,(kd:Int),(ka:Int),(kb:Int),(kk:Int),nn,bt⟩:=by rw[GW nd rF,hbh];rfl
   refine(NY p0 p1 p2 p3 p5 p6 p7 p8 c.sign.length q0 c.regs.length q1 c.slots.length q2 c.list.length q3 c.slots.length q5 O.length q6 G.length q7 P.length q8 ct pr qr X c.regs.length hX hXl nn bt kd ka kb kk dl w hT hcs _ hxa _ hxb (f.nums ka) (by rw[hah]) (ok.nums ka) (by rw[hbh];exact ok.whs kb)).mono ?_;exact QB
  ·have hd:(A6 17).d≠0:=dE;have dl:=DL hd;have al:=AL oM;have hxa:X[ka]? =some (X[ka]'oM):=List.getElem?_eq_getElem oM;have hah:=KA _ dE hxa;have hma:=MA dE;have ka2:(A8 c.regs (ka:Int)).kind=2:=by simpa[B3,A6]using hma
   rw[OQ ka2,Int.toNat_natCast]at hah;have hval:(⟨[Ez (X[ka]'oM).h.whole],0⟩:Hd)=CO c G P f ⟨17,(kd:Int),(ka:Int),(kb:Int),(kk:Int),nn,bt⟩:=by rw[GW nd rF,hah];rfl
   refine(QQ p0 p1 p2 p3 p5 p6 p7 p8 c.sign.length q0 c.regs.length q1 c.slots.length q2 c.list.length q3 c.slots.length q5 O.length q6 G.length q7 P.length q8 ct pr qr X c.regs.length hX hXl nn bt kd ka kb kk dl w hT hcs _ hxa (by rw[hah];exact ok.whs ka)).mono ?_;exact QB
  ·have hd:(A6 19).d≠0:=dE;have dl:=DL hd;have al:=AL oM;have hxa:X[ka]? =some (X[ka]'oM):=List.getElem?_eq_getElem oM;have hah:=KA _ dE hxa;have hma:=MA dE;have ka3:(A8 c.regs (ka:Int)).kind=3:=by simpa[B3,A6]using hma
   rw[rd_3 ka3,Int.toNat_natCast]at hah;have hval:(⟨[I8 (B7 (X[ka]'oM).h.pats) (X[ka]'oM).h.pats.length],0⟩:Hd)=CO c G P f ⟨19,(kd:Int),(ka:Int),(kb:Int),(kk:Int),nn,bt⟩:=by rw[GW nd rF,hah];rfl
   refine(T6 p0 p1 p2 p3 p5 p6 p7 p8 c.sign.length q0 c.regs.length q1 c.slots.length q2 c.list.length q3 c.slots.length q5 O.length q6 G.length q7 P.length q8 ct pr qr X c.regs.length hX hXl nn bt kd ka kb kk dl w hT hcs _ hxa (by rw[hah];exact ok.vecs ka) (by rw[hah];exact ok.vecsL ka)).mono ?_;exact QB
  ·have hd:(A6 20).d≠0:=dE;have dl:=DL hd;have al:=AL oM;have hxa:X[ka]? =some (X[ka]'oM):=List.getElem?_eq_getElem oM;have hah:=KA _ dE hxa;have hma:=MA dE;have ka3:(A8 c.regs (ka:Int)).kind=3:=by simpa[B3,A6]using hma
   rw[rd_3 ka3,Int.toNat_natCast]at hah;have hval:(⟨[Dq (B7 (X[ka]'oM).h.pats) (X[ka]'oM).h.pats.length],0⟩:Hd)=CO c G P f ⟨20,(kd:Int),(ka:Int),(kb:Int),(kk:Int),nn,bt⟩:=by rw[GW nd rF,hah];rfl
   refine(NU p0 p1 p2 p3 p5 p6 p7 p8 c.sign.length q0 c.regs.length q1 c.slots.length q2 c.list.length q3 c.slots.length q5 O.length q6 G.length q7 P.length q8 ct pr qr X c.regs.length hX hXl nn bt kd ka kb kk dl w hT hcs _ hxa (by rw[hah];exact ok.vecs ka) (by rw[hah];exact ok.vecsL ka)).mono ?_;exact QB
 ·have hop:op=2\/op=18\/(21<=op/\op<=28):=by unfold Bg at e;simp only[Bool.or_eq_true,Bool.and_eq_true,beq_iff_eq,decide_eq_true_eq]at e;omega
  rcases hop with rfl|rfl|⟨o1,o2⟩
  ·have hd:(A6 2).d≠0:=dE;have dl:=DL hd;have hval:(⟨[],nn⟩:Hd)=CO c G P f ⟨2,(kd:Int),(ka:Int),(kb:Int),(kk:Int),nn,bt⟩:=by rw[Hm nd rF];rfl
   refine(T7 p0 p1 p2 p3 p5 p6 p7 p8 c.sign.length q0 c.regs.length q1 c.slots.length q2 c.list.length q3 c.slots.length q5 O.length q6 G.length q7 P.length q8 ct pr qr X c.regs.length hX hXl nn bt kd ka kb kk dl w hT hcs).mono ?_;exact QB
  ·have hd:(A6 18).d≠0:=dE;have dl:=DL hd;have al:=AL oM;have hxa:X[ka]? =some (X[ka]'oM):=List.getElem?_eq_getElem oM;have hah:=KA _ dE hxa;have hma:=MA dE;have ka1:(A8 c.regs (ka:Int)).kind=1:=by simpa[B3,A6]using hma
   rw[rd_1 ka1,Int.toNat_natCast]at hah;have hval:(⟨[],B4 (f.nums ka%2147483648 != 0&&decide (f.nums ka%2147483648<=2139095040))⟩:Hd)=CO c G P f ⟨18,(kd:Int),(ka:Int),(kb:Int),(kk:Int),nn,bt⟩:=by rw[Hm nd rF,Y9];rfl
   refine(QU p0 p1 p2 p3 p5 p6 p7 p8 c.sign.length q0 c.regs.length q1 c.slots.length q2 c.list.length q3 c.slots.length q5 O.length q6 G.length q7 P.length q8 ct pr qr X c.regs.length hX hXl nn bt kd ka kb kk dl w hT hcs _ hxa (f.nums ka) (by rw[hah]) (ok.nums ka)).mono ?_;exact QB
  ·have hrow:(A6 op).d=2/\(A6 op).a=2/\((A6 op).b=0\/(A6 op).b=2)/\((A6 op).c=0\/(A6 op).c=2):=by
    have:op=21\/op=22\/op=23\/op=24\/op=25\/op=26\/op=27\/op=28:=oM;rcases this with rfl|rfl|rfl|rfl|rfl|rfl|rfl|rfl<;>decide
   have hd:(A6 op).d≠0:=by rw[hrow.1];decide
   have dl:=DL hd;have ha0:(A6 op).a≠0:=by rw[hrow.2.1];decide
   have al:=AL oM;have hxa:X[ka]? =some (X[ka]'oM):=List.getElem?_eq_getElem oM;have hah:=KA _ ha0 hxa;have hma:=MA ha0;rw[hrow.2.1]at hma;have ka2:(A8 c.regs (ka:Int)).kind=2:=by simpa[B3]using hma
   rw[OQ ka2,Int.toNat_natCast]at hah;have bl:=BL oM;have hxb:X[kb]? =some (X[kb]'oM):=List.getElem?_eq_getElem oM;have cl:=CL oM;have hxc:X[kk]? =some (X[kk]'oM):=List.getElem?_eq_getElem oM;have hbw:(A6 op).b≠0->(X[kb]'oM).h.whole=f.whs kb:=fun h=>by
    have h1:=MB h;rw[hrow.2.2.1.resolve_left h]at h1;rw[KB _ h hxb,OQ (by simpa[B3]using h1),Int.toNat_natCast]
   have hcw:(A6 op).c≠0->(X[kk]'oM).h.whole=f.whs kk:=fun h=>by
    have h1:=MC h;rw[hrow.2.2.2.resolve_left h]at h1;rw[KC _ h hxc,OQ (by simpa[B3]using h1),Int.toNat_natCast]
   have hwa:=(rel.xok _ (List.mem_of_getElem? hxa)).2.2;have hwb:=(rel.xok _ (List.mem_of_getElem? hxb)).2.2;have hval:(⟨[],CK op (X[ka]'oM).h.whole (X[kb]'oM).h.whole (X[kk]'oM).h.whole⟩:Hd)=CO c G P f ⟨op,(kd:Int),(ka:Int),(kb:Int),(kk:Int),nn,bt⟩:=by rw[Hm nd e,VU (i:=⟨op,(kd:Int),(ka:Int),(kb:Int),(kk:Int),nn,bt⟩) (f:=f) ⟨o1,o2⟩ (by rw[hah];rfl) hbw hcw]
   refine(O0 p0 p1 p2 p3 p5 p6 p7 p8 c.sign.length q0 c.regs.length q1 c.slots.length q2 c.list.length q3 c.slots.length q5 O.length q6 G.length q7 P.length q8 ct pr qr X c.regs.length hX hXl op o1 o2 nn bt kd ka kb kk dl w hT hcs _ hxa _ hxb _ hxc hwa hwb).mono ?_;exact QB
 ·subst e;have hd:(A6 29).d≠0:=dE;have dl:=DL hd;obtain⟨par,sb,so,nm,K,len,lb,lo,tk,vb,vo,px,M,qx,e0,e1,e2,e3,e4,e5,s0,s1,s2,t0,t1,u0,hkp⟩:=JL (T:=T) (f:=f) (i:=⟨29,(kd:Int),(ka:Int),(kb:Int),(kk:Int),nn,bt⟩) hg G fg (nd.part (.inl rfl)) _ _ _ _ _ _ _ _ _ w hv hgu;simp only[Int.toNat_natCast]at t0 t1 hkp;have hval:(⟨AH c G ⟨29,(kd:Int),(ka:Int),(kb:Int),(kk:Int),nn,bt⟩,0⟩:Hd)=CO c G P f ⟨29,(kd:Int),(ka:Int),(kb:Int),(kk:Int),nn,bt⟩:=by rw[Zt nd rfl]
  refine(QR p0 p1 p2 p3 p5 p6 p7 p8 c.sign.length q0 c.regs.length q1 c.slots.length q2 c.list.length q3 c.slots.length q5 O.length q6 G.length q7 P.length q8 ct pr qr X c.regs.length hX hXl nn bt kd ka kb kk dl w hT hcs par sb so nm K len lb lo tk vb vo px M qx (AH c G ⟨29,(kd:Int),(ka:Int),(kb:Int),(kk:Int),nn,bt⟩) e0 e1 e2 dl e3 e4 s0 s1 s2 t0 t1 u0 hXl hg.signL e5 hkp).mono ?_;exact QB
 ·subst e;have hd:(A6 30).d≠0:=dE;have dl:=DL hd;obtain⟨par,sb,so,nm,K,len,lb,lo,tk,vb,vo,px,M,qx,e0,e1,e2,e3,e4,e5,s0,s1,s2,t0,t1,u0,hkp⟩:=JL (T:=T) (f:=f) (i:=⟨30,(kd:Int),(ka:Int),(kb:Int),(kk:Int),nn,bt⟩) hg P fp (nd.part (.inr rfl)) _ _ _ _ _ _ _ _ _ w hv hpu;simp only[Int.toNat_natCast]at t0 t1 hkp;have hval:(⟨AH c P ⟨30,(kd:Int),(ka:Int),(kb:Int),(kk:Int),nn,bt⟩,0⟩:Hd)=CO c G P f ⟨30,(kd:Int),(ka:Int),(kb:Int),(kk:Int),nn,bt⟩:=by rw[Zu nd rfl]
  refine(NV p0 p1 p2 p3 p5 p6 p7 p8 c.sign.length q0 c.regs.length q1 c.slots.length q2 c.list.length q3 c.slots.length q5 O.length q6 G.length q7 P.length q8 ct pr qr X c.regs.length hX hXl nn bt kd ka kb kk dl w hT hcs par sb so nm K len lb lo tk vb vo px M qx (AH c P ⟨30,(kd:Int),(ka:Int),(kb:Int),(kk:Int),nn,bt⟩) e0 e1 e2 dl e3 e4 s0 s1 s2 t0 t1 u0 hXl hg.signL e5 hkp).mono ?_;exact QB
 ·subst e;obtain⟨hp,hlen⟩:=nd.out rfl;obtain⟨par,hpar,hpl⟩:=LL hg hp.r0 hp.r1 hp.kind;simp only at hp hpar;have al:ka<c.regs.length:=by have:=hp.r1;omega
  have hxa:X[ka]? =some (X[ka]'oM):=List.getElem?_eq_getElem oM;have hn0:=hp.n0;obtain⟨kq,rfl⟩:∃n:Nat,nn=(n:Int):=⟨nn.toNat,oM⟩
  obtain⟨lb,lo,e1,hl⟩:=hv.regs.at al;have hreg:c.regs[ka].par=(par:Int):=by rw[←Bj al];exact hpar
  refine(T5 p0 p1 p2 p3 p5 p6 p7 p8 c.sign.length q0 c.regs.length q1 c.slots.length q2 c.list.length q3 c.slots.length q5 O.length q6 G.length q7 P.length q8 ct pr qr X c.regs.length hX hXl (kq:Int) bt kd ka kb kk w hT hcs _ hxa kq rfl oM par lb lo (c.regs[ka].kind) e1 al (by rw[←hreg];exact hl.at 1 rfl) O rfl (by rw[rel.ol];have:=hg.signL;omega) (by rw[rel.ol];omega) hoo).mono ?_;rintro e w' ⟨p9,q9,rfl,hc,hbl⟩;exact⟨pr,qr,p5,q5,p9,q9,X,S,_,rfl,hcs.below hbl,hss.below hbl,hc,by rw[List.length_set],.inr (.inr (.inl ⟨rfl,rfl,rfl,_,hxa,by simp only[hpar,Int.toNat_natCast]⟩)),hbl⟩
 ·subst e;have hd:(A6 32).d≠0:=dE;have dl:=DL hd;obtain⟨d0,d1,m0,m1,ht⟩:=nd.load rfl;simp only at m0 m1;obtain⟨ks,hks⟩:∃n:Nat,nn=(n:Int):=⟨nn.toNat,oM⟩
  have hksl:ks<S.length:=oM;have hxs:S[ks]? =some (S[ks]'hksl):=List.getElem?_eq_getElem hksl;have hval:(S[ks]'hksl).h=CO c G P f ⟨32,(kd:Int),(ka:Int),(kb:Int),(kk:Int),nn,bt⟩:=by
   rw[Zv ok nd rfl rel.sz,←rel.sl];simp only[hks,Int.toNat_natCast,List.getElem?_map,hxs,Option.map_some,Option.getD_some]
  refine(QS p0 p1 p2 p3 p5 p6 p7 p8 c.sign.length q0 c.regs.length q1 c.slots.length q2 c.list.length q3 c.slots.length q5 O.length q6 G.length q7 P.length q8 ct pr qr X c.regs.length hX hXl nn bt kd ka kb kk dl w hT hcs ks hks _ S hSl hg.slotsL hss hxs).mono ?_;exact QB
 ·subst e;obtain⟨a0,a1,m0,m1,ht,hs⟩:=nd.store rfl;simp only at a0 a1 m0 m1;have al:ka<c.regs.length:=oM;have hxa:X[ka]? =some (X[ka]'oM):=List.getElem?_eq_getElem oM;obtain⟨ks,hks⟩:∃n:Nat,nn=(n:Int):=⟨nn.toNat,oM⟩
  refine(NZ p0 p1 p2 p3 p5 p6 p7 p8 c.sign.length q0 c.regs.length q1 c.slots.length q2 c.list.length q3 c.slots.length q5 O.length q6 G.length q7 P.length q8 ct pr qr X c.regs.length hX hXl nn bt kd ka kb kk w hT hcs _ hxa ks hks S hSl hg.slotsL oM hss).mono ?_;rintro e w' ⟨p9,q9,rfl,hc,hbl⟩;exact⟨pr,qr,p9,q9,p6,q6,X,_,O,rfl,hcs.below hbl,hc,hoo.below hbl,rfl,.inr (.inl ⟨rfl,rfl,⟨_,hxa,by simp only[hks,Int.toNat_natCast]⟩,rfl⟩),hbl⟩
 ·refine(QT p0 p1 p2 p3 p5 p6 p7 p8 c.sign.length q0 c.regs.length q1 c.slots.length q2 c.list.length q3 c.slots.length q5 O.length q6 G.length q7 P.length q8 ct pr qr X c.regs.length hX hXl op e.1 e.2 nn bt kd ka kb kk w hT hcs).mono ?_;rintro e' w' ⟨rfl,hbl⟩;exact⟨pr,qr,p5,q5,p6,q6,X,S,O,rfl,hcs.below hbl,hss.below hbl,hoo.below hbl,rfl,.inr (.inr (.inr ⟨e,rfl,rfl,rfl⟩)),hbl⟩
 ·have hop:3<=op/\op<=15:=by unfold Bi at e;simpa using e
  obtain⟨o1,o2⟩:=hop;have hd:(A6 op).d≠0:=by
   exact Zcq
  have ha0:(A6 op).a≠0:=by
   exact Zcq
  have dl:=DL hd;have al:=AL oM;have bl:=BL oM;have cl:=CL oM;have hxa:X[ka]? =some (X[ka]'oM):=List.getElem?_eq_getElem oM;have hxb:X[kb]? =some (X[kb]'oM):=List.getElem?_eq_getElem oM;have hxc:X[kk]? =some (X[kk]'oM):=List.getElem?_eq_getElem oM;have hah:=KA _ ha0 hxa;have hty:A8 c.regs (kd:Int)=c.regs[kd]:=Bj dl;by_cases hk2:(A8 c.regs (kd:Int)).kind=2
  ·have hra:(A8 c.regs (ka:Int)).kind=2:=by
    obtain⟨_,_,_,hr⟩:=nd.elem e;obtain⟨_,_,_,h⟩:=hr (ka:Int) (Kb ha0);rcases h with h|⟨_,h⟩
    ·rw[h];exact hk2
    ·simp only at h;omega
   have hval:(X[ka]'oM).h=CO c G P f ⟨op,(kd:Int),(ka:Int),(kb:Int),(kk:Int),nn,bt⟩:=by
    rw[Sp e hk2,hah,OQ hra]
   refine(Py p0 p1 p2 p3 p5 p6 p7 p8 c.sign.length q0 c.regs.length q1 c.slots.length q2 c.list.length q3 c.slots.length q5 O.length q6 G.length q7 P.length q8 ct pr qr X c.regs.length hX hXl op o1 o2 nn bt kd ka kb kk dl w hT hcs (X[ka]'oM).h (fun v hbv hsv=>?_)).mono ?_
   ·refine(Ib c hg _ _ _ _ _ _ _ _ _ _ X hX op nn bt _ _ kd ka dl oM (by rw[←hty];exact hk2) v (hv.below hbv) (hcs.cs.below hbv)).mono ?_;rintro e' w' ⟨rfl,-,hbl⟩;exact⟨X[ka]'oM,rfl,rfl,(M3 (hcs.nums _ (List.mem_of_getElem? hxa)) hbv).below hbl,hbl⟩
   ·exact QB
  ·obtain⟨w1,w2,w3⟩:=Ey hg ok e nd hk2;have hargs:=Wm (i:=⟨op,(kd:Int),(ka:Int),(kb:Int),(kk:Int),nn,bt⟩) (c:=c) (f:=f) e hah (fun h=>KB _ h hxb) (fun h=>KC _ h hxc);have htr:=Ei ⟨op,(kd:Int),(ka:Int),(kb:Int),(kk:Int),nn,bt⟩ e;have hal:(Bh c f ⟨op,(kd:Int),(ka:Int),(kb:Int),(kk:Int),nn,bt⟩).length=BA op:=by unfold Bh;rw[List.length_map];exact htr.1.symm
   obtain⟨n,hn,hn2⟩:=H6 (l:=lF (Bh c f ⟨op,(kd:Int),(ka:Int),(kb:Int),(kk:Int),nn,bt⟩)) w1 ((Bh c f ⟨op,(kd:Int),(ka:Int),(kb:Int),(kk:Int),nn,bt⟩).length-1) (fun k hk=>by
    have htn:=htr.2;simp only at htn;unfold lF;rw[DV oM];unfold Bh;rw[List.getElem_map]
    exact(w2 _ (List.getElem_mem _)).2.2.1)
   have hwd:=hg.width (A8 c.regs (kd:Int));simp only at w1 hn2;have hval:(⟨Sx (if(A8 c.regs (kd:Int)).kind=3 then lenOf c (A8 c.regs (kd:Int)).par else 1) (Br op (Bh c f ⟨op,(kd:Int),(ka:Int),(kb:Int),(kk:Int),nn,bt⟩)),0⟩:Hd)=CO c G P f ⟨op,(kd:Int),(ka:Int),(kb:Int),(kk:Int),nn,bt⟩:=by
    rw[VH hg ok nd e hk2]
   refine(Py p0 p1 p2 p3 p5 p6 p7 p8 c.sign.length q0 c.regs.length q1 c.slots.length q2 c.list.length q3 c.slots.length q5 O.length q6 G.length q7 P.length q8 ct pr qr X c.regs.length hX hXl op o1 o2 nn bt kd ka kb kk dl w hT hcs ⟨Sx (if(A8 c.regs (kd:Int)).kind=3 then lenOf c (A8 c.regs (kd:Int)).par else 1) (Br op (Bh c f ⟨op,(kd:Int),(ka:Int),(kb:Int),(kk:Int),nn,bt⟩)),0⟩ (fun v hbv hsv=>?_)).mono ?_
   ·rw[hal,←hargs]at hn;have K:=Jw c hg (.slice p0 c.sign.length q0) (.slice p1 c.regs.length q1) (.slice p2 c.slots.length q2) (.slice p3 c.list.length q3) (.slice pr c.regs.length qr) (.slice p5 c.slots.length q5) (.slice p6 O.length q6) (.slice p7 G.length q7) (.slice p8 P.length q8) (.int .i64 ct) X hX op nn bt kd ka kb kk dl oM oM oM (by rw[←hty];exact hk2) (fun h=>hg.type (List.getElem_mem dl) h) (BA op) rfl htr.2 n hn oM oM (fun x hx=>(rel.xok x hx).1) (fun x hx=>(rel.xok x hx).2.1) v (hv.below hbv) (hcs.cs.below hbv);simp only at hargs;rw[hargs,←hty]at K;refine K.mono ?_;rintro e' w' ⟨pe,qe,rfl,hne,hbl,hle⟩;exact⟨⟨pe,qe,⟨_,0⟩⟩,rfl,rfl,BO.free (B:=v.heap.size) hne hle (fun b hb=>CR hT hb hsv),hbl⟩
   ·exact QB
def ZOk(c:Cd)(l:List Hd):Prop:=∀j (h:j<c.slots.length),c.slots[j].ty.kind≠2->((l[j]?).getD ⟨[],0⟩).whole=0
structure Jz(c:Cd)(l:List Hd):Prop where
 len:l.length=c.slots.length
 ok:∀j (h:j<c.slots.length) (h':j<l.length),KU c c.slots[j].ty l[j]
 z:ZOk c l
theorem Pq{c:Cd}(hg:Good c){s:Sl}(hs:s∈c.slots)(h2:s.ty.kind≠2):(AK c s).whole=0:=by
 have h1:=hg.slots s hs;unfold AQ Eo at h1;rw[if_neg h2]at h1;simp only[Bool.and_eq_true,beq_iff_eq]at h1;exact h1.2.1
theorem Y4{c:Cd}(hg:Good c):ZOk c (Ba c):=fun j h h2=>by
 rw[Ba,List.getElem?_map,List.getElem?_eq_getElem h,Option.map_some,Option.getD_some];exact Pq hg (List.getElem_mem h) h2
theorem SI(c:Cd)(l:List Hd)(hl:l.length=c.slots.length):∀ (j:Nat),j<=c.slots.length->∀k (h:k<c.slots.length),(Jj c l j)[k]? =if k<j/\c.slots[k].keep=false then some (AK c c.slots[k])else l[k]?
 |0,_,k,h=>by simp[Jj]
 |j+1,hj,k,h=>by
  have ih:=SI c l hl j oM;unfold Jj;rw[List.getElem?_eq_getElem (show j<c.slots.length by omega)];simp only;cases hkp:c.slots[j].keep with
  |true=>
   simp only[if_true];rw[ih k h];by_cases e:k=j
   ·subst e;rw[hkp];simp
   ·have:k<j+1↔k<j:=oM;simp only[this]
  |false=>
   simp only[Bool.false_eq_true,if_false];by_cases e:k=j
   ·subst e;rw[List.getElem?_set_self (by rw[Gk,hl];exact h),if_pos ⟨oM,hkp⟩]
   ·rw[List.getElem?_set_ne (fun q=>e q.symm),ih k h];have:k<j+1↔k<j:=oM;simp only[this]
def ND(c:Cd)(l:List Hd):List Hd:=Jj c l c.slots.length
theorem FF{c:Cd}{l:List Hd}(hl:l.length=c.slots.length):(ND c l).length=c.slots.length:=by unfold ND;rw[Gk,hl]
theorem NE{c:Cd}{l:List Hd}(hl:l.length=c.slots.length){k:Nat}(h:k<c.slots.length)(h':k<(ND c l).length):(ND c l)[k]=if c.slots[k].keep then l[k]'oM else AK c c.slots[k]:=by
 have h1:=SI c l hl c.slots.length (Nat.le_refl _) k h;have h2:(ND c l)[k]? =some ((ND c l)[k]):=List.getElem?_eq_getElem h';unfold ND at h2 ⊢;rw[h2]at h1;cases hkp:c.slots[k].keep with
 |true=>
  rw[hkp,if_neg sM,List.getElem?_eq_getElem oM]at h1;simp only[Option.some.injEq]at h1;simp only[if_true];exact h1
 |false=>
  rw[if_pos ⟨h,hkp⟩]at h1;simp only[Option.some.injEq]at h1;simp only[Bool.false_eq_true,if_false];exact h1
def f4v(a b c d:Value)(k:Nat):Value:=if k=0 then a else if k=1 then b else if k=2 then c else d
theorem YS(a b c d:Value):∀k,k<(#[a,b,c,d]:Array Value).size->(#[a,b,c,d]:Array Value)[k]? =some (f4v a b c d k):=by
 intro k hk;have hk':k<4:=hk;obtain rfl|rfl|rfl|rfl:k=0\/k=1\/k=2\/k=3:=oM
 all_goals rfl
structure SB(w:World)(a0 a1 a2 a3 a4:Value)(v:World):Prop where
 bel:Below w.heap.size w v
 r:v.rowIs w.heap.size 38 5 (f5 a0 a1 a2 a3 a4)
 q:v.rowIs (w.heap.size+1) 38 5 (f5 (.slice none 0 0) (.slice none 0 0) (.slice none 0 0) (.slice none 0 0) (.slice none 0 0))
 c:v.rowIs (w.heap.size+1+1) 27 4 (f4v a0 a1 a2 a3)
theorem SB.next{w:World}{a0 a1 a2 a3 a4:Value}{v v':World}(h:SB w a0 a1 a2 a3 a4 v)(k:Below v.heap.size v v'):SB w a0 a1 a2 a3 a4 v':=
 ⟨Go.Proofs.YtbinohkcolcbfaaGreat.bel h.bel k,h.r.of_block (k.block _ h.r.lt),h.q.of_block (k.block _ h.q.lt),h.c.of_block (k.block _ h.c.lt)⟩
theorem SB.start(w:World)(a0 a1 a2 a3 a4:Value):SB w a0 a1 a2 a3 a4 (((w.alloc (.cells #[a0,a1,a2,a3,a4] 38)).alloc (.cells #[.slice none 0 0,.slice none 0 0,.slice none 0 0,.slice none 0 0,.slice none 0 0] 38)).alloc (.cells #[a0,a1,a2,a3] 27)):=by
 have r1:=World.rowIs_alloc w #[a0,a1,a2,a3,a4] 38 _ (Gn _ _ _ _ _);have r2:=World.rowIs_alloc (w.alloc (.cells #[a0,a1,a2,a3,a4] 38)) #[.slice none 0 0,.slice none 0 0,.slice none 0 0,.slice none 0 0,.slice none 0 0] 38 _ (Gn _ _ _ _ _);have r3:=World.rowIs_alloc ((w.alloc (.cells #[a0,a1,a2,a3,a4] 38)).alloc (.cells #[.slice none 0 0,.slice none 0 0,.slice none 0 0,.slice none 0 0,.slice none 0 0] 38)) #[a0,a1,a2,a3] 27 _ (YS _ _ _ _);simp only[World.size_alloc]at r2 r3;exact⟨Go.Proofs.YtbinohkcolcbfaaGreat.bel (A0 _ _) (Go.Proofs.YtbinohkcolcbfaaGreat.bel (A0 _ _) (A0 _ _)),(r1.alloc _).alloc _,r2.alloc _,r3⟩
theorem SB.size{w:World}{a0 a1 a2 a3 a4:Value}{v:World}(h:SB w a0 a1 a2 a3 a4 v):w.heap.size+1+1<v.heap.size:=h.c.lt
structure It(w:World)(a0 a1 a2 a3 a4:Value)(FB:Nat)(F:Nat->Value)(v:World):Prop where
 b:SB w a0 a1 a2 a3 a4 v
 f:v.rowIs FB 125 10 F
 hF:w.heap.size+1+1<FB
theorem It.next{w:World}{a0 a1 a2 a3 a4:Value}{FB:Nat}{F:Nat->Value}{v v':World}(h:It w a0 a1 a2 a3 a4 FB F v)(k:Below v.heap.size v v'):It w a0 a1 a2 a3 a4 FB F v':=⟨h.b.next k,h.f.of_block (k.block _ h.f.lt),h.hF⟩
theorem It.below{w:World}{a0 a1 a2 a3 a4:Value}{FB B:Nat}{F:Nat->Value}{v v':World}(h:It w a0 a1 a2 a3 a4 FB F v)(k:Below B v v')(hB:FB<B):It w a0 a1 a2 a3 a4 FB F v':=by
 have hF:=h.hF;have hs:=h.b.bel.size;have hlt:=h.f.lt;refine⟨⟨⟨k.os.trans h.b.bel.os,k.tape.trans h.b.bel.tape,k.output.trans h.b.bel.output,Nat.le_trans hs k.size,fun x hx=>(k.block x oM).trans (h.b.bel.block x hx)⟩,h.b.r.of_block (k.block _ oM),h.b.q.of_block (k.block _ oM),h.b.c.of_block (k.block _ oM)⟩,h.f.of_block (k.block _ hB),h.hF⟩
theorem It.put{w:World}{a0 a1 a2 a3 a4:Value}{FB:Nat}{F:Nat->Value}{v:World}(h:It w a0 a1 a2 a3 a4 FB F v)(i:Nat)(x:Value):It w a0 a1 a2 a3 a4 FB (fun j=>if j=i then x else F j) (v.setCell ⟨FB,i,none⟩ x):=by
 have hF:=h.hF;exact⟨⟨h.b.bel.setCell (by show w.heap.size<=FB;omega) _,h.b.r.setOther (by show w.heap.size≠FB;omega) _,h.b.q.setOther (by show w.heap.size+1≠FB;omega) _,h.b.c.setOther (by show w.heap.size+1+1≠FB;omega) _⟩,h.f.set i x,h.hF⟩
theorem It.congr{w:World}{a0 a1 a2 a3 a4:Value}{FB:Nat}{F F':Nat->Value}{v:World}(h:It w a0 a1 a2 a3 a4 FB F v)(k:∀j,j<10->F j=F' j):It w a0 a1 a2 a3 a4 FB F' v:=⟨h.b,h.f.congr k,h.hF⟩
theorem DF{P:Nat->Prop}(h0:P 0)(h1:P 1)(h2:P 2)(h3:P 3)(h4:P 4)(h5:P 5)(h6:P 6)(h7:P 7)(h8:P 8)(h9:P 9):∀j,j<10->P j:=by
 intro j hj;obtain rfl|rfl|rfl|rfl|rfl|rfl|rfl|rfl|rfl|rfl:j=0\/j=1\/j=2\/j=3\/j=4\/j=5\/j=6\/j=7\/j=8\/j=9:=oM
 all_goals assumption
theorem It.putT{w:World}{a0 a1 a2 a3 a4:Value}{FB:Nat}{F:Nat->Value}{v:World}(h:It w a0 a1 a2 a3 a4 FB F v)(b0 b1 b2 b3 b4 b5 b6 b7 b8 b9:Value):It w a0 a1 a2 a3 a4 FB (Ck b0 b1 b2 b3 b4 b5 b6 b7 b8 b9) (LS v FB b0 b1 b2 b3 b4 b5 b6 b7 b8 b9):=
 ((((((((((h.put 0 b0).put 1 b1).put 2 b2).put 3 b3).put 4 b4).put 5 b5).put 6 b6).put 7 b7).put 8 b8).put 9 b9).congr (DF rfl rfl rfl rfl rfl rfl rfl rfl rfl rfl)
def T4(w:World)(T:Nat->Prop)(FB:Nat)(b:Nat):Prop:=T b\/(w.heap.size<=b/\b<=w.heap.size+1+1)\/b=FB
theorem Kv{w:World}{T:Nat->Prop}{FB:Nat}(hT:∀b,T b->b<w.heap.size)(hF:w.heap.size+1+1<FB){B:Nat}(hB:FB<B){b:Nat}(h:T4 w T FB b):b<B:=by
 rcases h with h|h|h
 ·have:=hT b h;omega
 ·omega
 ·omega
theorem Zr{w:World}{T:Nat->Prop}{FB b:Nat}(hF:w.heap.size+1+1<FB)(hb:b<w.heap.size)(h:T4 w T FB b):T b:=by
 rcases h with h|h|h
 ·exact h
 ·omega
 ·omega
theorem Rn(m:Nat)(h:m<=16384)(w:World):(Instr.makeSlice 36 (.int .i64 m) (.int .i64 m)).run prog w=.ok (.slice (some ⟨w.heap.size,0,none⟩) m m) (w.alloc (.cells (madeCells #[.slice none 0 0,.int .i64 0] (m*2)) 84)):=by
 obtain⟨i,hi,hz,hs,hb⟩:=info_parts H5;have hr:=run_make (P:=prog) w 36 84 i _ underlying36 hi hz .i64 .i64 m m oM (Int.le_refl _) (by rw[hb];omega) oM;exact Zfh
theorem Rl(m i:Nat)(hi:i<m*2):(madeCells #[.slice none 0 0,.int .i64 0] (m*2))[i]? =some (f2 (.slice none 0 0) (.int .i64 0) (i%2)):=by
 unfold madeCells;rw[Array.getElem?_map,Array.getElem?_range];simp[hi];have h2:i%2=0\/i%2=1:=oM;rcases h2 with h|h<;>rw[h]<;>rfl
def Qw(n:Nat):List Cl:=List.replicate n ⟨none,0,⟨[],0⟩⟩
theorem Pw{T:Nat->Prop}{v:World}{RB m:Nat}(h:v.heap[RB]? =some (.cells (madeCells #[.slice none 0 0,.int .i64 0] (m*2)) 84 (0,0)))(hT:¬T RB):AO T v (.slice (some ⟨RB,0,none⟩) m m) (Qw m):=by
 have hlt:RB<v.heap.size:=by
  rcases Nat.lt_or_ge RB v.heap.size with h1|h1
  ·exact h1
  ·rw[Array.getElem?_eq_none h1]at h;cases h
 refine⟨⟨_,m,by rw[Qw,List.length_replicate],.inr ⟨RB,0,rfl,hT,hlt,fun i hi j hj=>?_⟩⟩,fun x hx=>?_⟩
 ·rw[Qw,List.length_replicate]at hi;have hj2:j<2:=hj;have hc:v.cell? ⟨RB,0+i*2+j,none⟩=some (f2 (.slice none 0 0) (.int .i64 0) ((0+i*2+j)%2)):=by
   unfold World.cell?;simp only[h];exact Rl m _ oM
  rw[hc];simp only[Qw,List.getElem_replicate];obtain rfl|rfl:j=0\/j=1:=oM
  ·rw[show(0+i*2+0)%2=0 by omega];rfl
  ·rw[show(0+i*2+1)%2=1 by omega];rfl
 ·rw[Qw]at hx;rw[List.eq_of_mem_replicate hx];exact .inl rfl
theorem U8{B:Nat}{V:World}{e t:TypeId}{z:Value}{sz by':Nat}(ht:prog.underlying t=some (.slice e))(hi:(prog.info? e).map (fun i=>(i.zero,i.size,i.bytes))=some (some z,sz,by'))(hzs:z.cells.size=sz)(hsz:0<sz){p:Option Addr}{n q m:Nat}{xs:List Value}(h:V.ownsRow B e sz (.slice p n q) n xs)(hB:B<=V.heap.size)
 (cs:Array Value) (hm:0<m) (hcs:cs.size=m*sz) (h1:∀u∈cs.toList,u.oneCell'=true) (hn:n+m<=maxLen) (hb:(n+m)*by'<=140737488355328) (ty:TypeId):
 ∃g c' w',(Builtin.append_ #[t,t] ty #[.slice p n q,.slice (some ⟨V.heap.size,0,none⟩) m m]).run prog (V.alloc (.cells cs e))=.ok (.slice (some ⟨g,0,none⟩) (n+m) c') w'/\Below B V w'/\w'.ownsRow B e sz (.slice (some ⟨g,0,none⟩) (n+m) c') (n+m) (xs++cs.toList)/\(∀b,b<V.heap.size->(Value.slice p n q).ownBlock≠some b->w'.heap[b]? =V.heap[b]?)/\((Value.slice p n q).ownBlock=some g\/V.heap.size<g):=by
 obtain⟨i0,hi0,hz0,hz1,hz2⟩:=info_parts hi;have hb0:Below V.heap.size V (V.alloc (.cells cs e)):=A0 _ _;have hs:(V.alloc (.cells cs e)).heap.size=V.heap.size+1:=sM;have h0:=Az h hb0;obtain⟨g,cap,w3,hr,hown,hgrow,hat,hlt⟩:=run_append_lies (P:=prog) (V.alloc (.cells cs e)) t ty B e i0 _ sz by' ht hi0 hz0 hz1 hz2 hzs hsz (.slice p n q) n xs h0 ⟨V.heap.size,0,none⟩ m m cs.toList (by simp[hcs])
  (World.news_of_block (cs:=cs) (t:=e) (fr:=(0,0)) (heap_alloc_new V _)) h1 hm hn hb oM _ rfl
 exact Zds
theorem sp_A{T:Nat->Prop}{w:World}{a0 a1 a2 a3 a4:Value}{v:World}{m:Nat}(h:SB w a0 a1 a2 a3 a4 v)(hT:∀b,T b->b<w.heap.size)(b0 b1 b2 b3 b5 b6 b7 b8 b9:Value):
 It w a0 a1 a2 a3 a4 (v.heap.size+1) (Ck b0 b1 b2 b3 (.slice (some ⟨v.heap.size,0,none⟩) m m) b5 b6 b7 b8 b9) ((v.alloc (.cells (madeCells #[.slice none 0 0,.int .i64 0] (m*2)) 84)).alloc (.cells #[b0,b1,b2,b3,.slice (some ⟨v.heap.size,0,none⟩) m m,b5,b6,b7,b8,b9] 125))/\AO (T4 w T (v.heap.size+1)) ((v.alloc (.cells (madeCells #[.slice none 0 0,.int .i64 0] (m*2)) 84)).alloc (.cells #[b0,b1,b2,b3,.slice (some ⟨v.heap.size,0,none⟩) m m,b5,b6,b7,b8,b9] 125)) (.slice (some ⟨v.heap.size,0,none⟩) m m) (Qw m):=by
 have hsz:=h.size;have r1:=World.rowIs_alloc (v.alloc (.cells (madeCells #[.slice none 0 0,.int .i64 0] (m*2)) 84)) #[b0,b1,b2,b3,.slice (some ⟨v.heap.size,0,none⟩) m m,b5,b6,b7,b8,b9] 125 _ (Lg _ _ _ _ _ _ _ _ _ _);simp only[World.size_alloc]at r1;refine⟨⟨h.next (bel (A0 _ _) (A0 _ _)),r1,oM⟩,Pw ?_ ?_⟩
 ·rw[(A0 (v.alloc (.cells (madeCells #[.slice none 0 0,.int .i64 0] (m*2)) 84)) _).block _ sM];exact heap_alloc_new v _
 ·rintro(k|k|k)
  ·have:=hT _ k;omega
  ·omega
  ·omega
theorem sp_B{T:Nat->Prop}{w:World}{a0 a1 a2 a3 a4:Value}{v:World}{m:Nat}(h:SB w a0 a1 a2 a3 a4 v)(hT:∀b,T b->b<w.heap.size)(b0 b1 b2 b3 b5 b6 b7 b8 b9:Value):
 It w a0 a1 a2 a3 a4 v.heap.size (Ck b0 b1 b2 b3 (.slice (some ⟨v.heap.size+1,0,none⟩) m m) b5 b6 b7 b8 b9) ((v.alloc (.cells #[b0,b1,b2,b3,.slice (some ⟨v.heap.size+1,0,none⟩) m m,b5,b6,b7,b8,b9] 125)).alloc (.cells (madeCells #[.slice none 0 0,.int .i64 0] (m*2)) 84))/\AO (T4 w T v.heap.size) ((v.alloc (.cells #[b0,b1,b2,b3,.slice (some ⟨v.heap.size+1,0,none⟩) m m,b5,b6,b7,b8,b9] 125)).alloc (.cells (madeCells #[.slice none 0 0,.int .i64 0] (m*2)) 84)) (.slice (some ⟨v.heap.size+1,0,none⟩) m m) (Qw m):=by
 have hsz:=h.size;have r1:=World.rowIs_alloc v #[b0,b1,b2,b3,.slice (some ⟨v.heap.size+1,0,none⟩) m m,b5,b6,b7,b8,b9] 125 _ (Lg _ _ _ _ _ _ _ _ _ _);refine⟨⟨h.next (bel (A0 _ _) (A0 _ _)),r1.alloc _,oM⟩,Pw ?_ ?_⟩
 ·have h1:=heap_alloc_new (v.alloc (.cells #[b0,b1,b2,b3,.slice (some ⟨v.heap.size+1,0,none⟩) m m,b5,b6,b7,b8,b9] 125)) (.cells (madeCells #[.slice none 0 0,.int .i64 0] (m*2)) 84);simp only[World.size_alloc]at h1;exact h1
 ·rintro(k|k|k)
  ·have:=hT _ k;omega
  ·omega
  ·omega
structure L1(T:Nat->Prop)(w:World)(a0 a1 a2 a3 a4:Value)(FB E:Nat)(F:Nat->Value)(v:World)(sv:Value)(Y:List Cl):Prop where
 sp:It w a0 a1 a2 a3 a4 FB F v
 be:E<=v.heap.size
 cs:Is E v sv Y
 loc:∀x∈Y,∀b o s,x.p=some ⟨b,o,s⟩->x.h.pats≠[]->¬T4 w T FB b
theorem L1.next{T:Nat->Prop}{w:World}{a0 a1 a2 a3 a4:Value}{FB E:Nat}{F:Nat->Value}{v v':World}{sv:Value}{Y:List Cl}(h:L1 T w a0 a1 a2 a3 a4 FB E F v sv Y)(k:Below v.heap.size v v'):L1 T w a0 a1 a2 a3 a4 FB E F v' sv Y:=⟨h.sp.next k,Nat.le_trans h.be k.size,h.cs.below k,h.loc⟩
theorem L1.put{T:Nat->Prop}{w:World}{a0 a1 a2 a3 a4:Value}{FB E:Nat}{F:Nat->Value}{v v':World}{sv:Value}{Y:List Cl}(h:L1 T w a0 a1 a2 a3 a4 FB E F v sv Y)(hFE:FB<E)(k:Below E v v'){g n c':Nat}{Y':List Cl}(hc:Is E v' (.slice (some ⟨g,0,none⟩) n c') Y')(hloc:∀x∈Y',∀b o s,x.p=some ⟨b,o,s⟩->x.h.pats≠[]->¬T4 w T FB b):
 v'.cell? ⟨FB,5,none⟩=some (F 5)/\v'.frozen? ⟨FB,5,none⟩=false/\L1 T w a0 a1 a2 a3 a4 FB E (fun j=>if j=5 then .slice (some ⟨g,0,none⟩) n c' else F j) (v'.setCell ⟨FB,5,none⟩ (.slice (some ⟨g,0,none⟩) n c')) (.slice (some ⟨g,0,none⟩) n c') Y':=by
 have hs:=h.sp.below k hFE;have ho:∀b,b≠FB->(v'.setCell ⟨FB,5,none⟩ (.slice (some ⟨g,0,none⟩) n c')).heap[b]? =v'.heap[b]? :=fun b hne=>Below.heap_setCell _ _ _ _ hne;refine⟨hs.f.cell (i:=5) dE,hs.f.frozen 5,hs.put 5 _,?_,⟨AC hc.own (fun b hbb=>ho b Zhh),fun x hx=>?_⟩,hloc⟩
 ·have h1:=h.be;have h2:=k.size;simp only[World.size_setCell];omega
 ·exact Zdd
structure Qz(B:Nat)(v:World)(sv:Value)(X:List Cl):Prop where
 own:v.ownsRow B 82 1 sv X.length (AJ Sy X)
 nums:∀x∈X,Gj v sv x.p x.h.pats
theorem Qz.below{B:Nat}{v v':World}{sv:Value}{X:List Cl}(h:Qz B v sv X)(k:Below v.heap.size v v'):Qz B v' sv X:=⟨Az h.own k,fun x hx=>(h.nums x hx).below k⟩
theorem Qz.nil(B:Nat)(v:World):Qz B v (.slice none 0 0) []:=⟨World.ownsRow_nil _ _ _ 1,fun x hx=>by cases hx⟩
theorem Qz.push{B:Nat}{V:World}{p:Option Addr}{q:Nat}{X:List Cl}(h:Qz B V (.slice p X.length q) X)(hB:B<=V.heap.size)(hX:X.length<=16384)(x:Cl)(hx:Gj V (.slice p X.length q) x.p x.h.pats)(ty:TypeId):
 ∃g c' w',(Builtin.append_ #[123,123] ty #[.slice p X.length q,.slice (some ⟨V.heap.size,0,none⟩) 2 2]).run prog (V.alloc (.cells #[.slice x.p x.h.pats.length x.q,.slice x.p x.h.pats.length x.q] 82))=.ok (.slice (some ⟨g,0,none⟩) (X.length+2) c') w'/\Below B V w'/\Qz B w' (.slice (some ⟨g,0,none⟩) (X.length+2) c') (X++[x,x]):=by
 obtain⟨g,c',w',hr,hb,ho,hk,hg⟩:=U8 (V:=V) (m:=2) underlying123 JW rfl dE h.own hB #[.slice x.p x.h.pats.length x.q,.slice x.p x.h.pats.length x.q] dE rfl (fun u hu=>by simp at hu;subst hu;rfl) mL oM ty;refine⟨g,c',w',hr,hb,⟨?_,fun y hy=>?_⟩⟩
 ·rw[List.length_append,Fs];exact ho
 ·rcases List.mem_append.1 hy with e|e
  ·exact(h.nums y e).grow hk hg
  ·simp only[List.mem_cons,List.not_mem_nil,or_false,or_self]at e;subst e;exact hx.grow hk hg
structure L2(T:Nat->Prop)(w:World)(a0 a1 a2 a3 a4:Value)(FB E:Nat)(F:Nat->Value)(v:World)(sv:Value)(Y:List Cl):Prop where
 sp:It w a0 a1 a2 a3 a4 FB F v
 be:E<=v.heap.size
 cs:Qz E v sv Y
 loc:∀x∈Y,∀b o s,x.p=some ⟨b,o,s⟩->x.h.pats≠[]->¬T4 w T FB b
theorem L2.next{T:Nat->Prop}{w:World}{a0 a1 a2 a3 a4:Value}{FB E:Nat}{F:Nat->Value}{v v':World}{sv:Value}{Y:List Cl}(h:L2 T w a0 a1 a2 a3 a4 FB E F v sv Y)(k:Below v.heap.size v v'):L2 T w a0 a1 a2 a3 a4 FB E F v' sv Y:=⟨h.sp.next k,Nat.le_trans h.be k.size,h.cs.below k,h.loc⟩
theorem L2.put{T:Nat->Prop}{w:World}{a0 a1 a2 a3 a4:Value}{FB E:Nat}{F:Nat->Value}{v v':World}{sv:Value}{Y:List Cl}(h:L2 T w a0 a1 a2 a3 a4 FB E F v sv Y)(hFE:FB<E)(k:Below E v v'){g n c':Nat}{Y':List Cl}(hc:Qz E v' (.slice (some ⟨g,0,none⟩) n c') Y')(hloc:∀x∈Y',∀b o s,x.p=some ⟨b,o,s⟩->x.h.pats≠[]->¬T4 w T FB b):
 v'.cell? ⟨FB,6,none⟩=some (F 6)/\v'.frozen? ⟨FB,6,none⟩=false/\L2 T w a0 a1 a2 a3 a4 FB E (fun j=>if j=6 then .slice (some ⟨g,0,none⟩) n c' else F j) (v'.setCell ⟨FB,6,none⟩ (.slice (some ⟨g,0,none⟩) n c')) (.slice (some ⟨g,0,none⟩) n c') Y':=by
 have hs:=h.sp.below k hFE;have ho:∀b,b≠FB->(v'.setCell ⟨FB,6,none⟩ (.slice (some ⟨g,0,none⟩) n c')).heap[b]? =v'.heap[b]? :=fun b hne=>Below.heap_setCell _ _ _ _ hne;refine⟨hs.f.cell (i:=6) dE,hs.f.frozen 6,hs.put 6 _,?_,⟨AC hc.own (fun b hbb=>ho b Zhh),fun x hx=>?_⟩,hloc⟩
 ·have h1:=h.be;have h2:=k.size;simp only[World.size_setCell];omega
 ·exact Zdd
theorem Xz{T:Nat->Prop}{E:Nat}{v:World}{sv:Value}{Y:List Cl}(h:Qz E v sv Y)(hT:∀b,T b->b<E)(hl:∀x∈Y,∀b o s,x.p=some ⟨b,o,s⟩->x.h.pats≠[]->¬T b):GZ T v sv Y:=by
 refine⟨GC Io h.own hT,fun x hx=>?_⟩;exact Zdx
def LH(c:Cd)(j:Nat):List Hd:=(List.range (2*j)).map fun i=>⟨List.replicate (lenOf c ((i/2:Nat):Int)) 0,0⟩
theorem Ry(c:Cd)(j:Nat):LH c (j+1)=LH c j++[⟨List.replicate (lenOf c (j:Int)) 0,0⟩,⟨List.replicate (lenOf c (j:Int)) 0,0⟩]:=by
 unfold LH;rw[show 2*(j+1)=2*j+1+1 by omega,DU,DU,List.append_assoc,show 2*j/2=j by omega,show(2*j+1)/2=j by omega];rfl
theorem RO{c:Cd}{l:List Hd}{Y O:List Cl}(hg:Good c)(hso:Jz c l)(hY:Y.map (·.h)=ND c l)(hO:O.map (·.h)=LH c c.sign.length):NC c (Cj c l) (Qw c.regs.length) Y O:=by
 have hol:O.length=2*c.sign.length:=by have h1:=congrArg List.length hO;rw[List.length_map,LH,List.length_map,List.length_range]at h1;exact h1
 refine⟨by rw[Qw,List.length_replicate],fun x hx=>?_,hY,fun j h h2=>?_,hol,fun p n hp hn=>?_⟩
 ·rw[Qw]at hx;rw[List.eq_of_mem_replicate hx];exact⟨fun y hy=>(by cases hy),Nat.zero_le _,Int.le_refl _,by show(0:Int)<=2147483647;decide⟩
 ·show(((ND c l)[j]?).getD ⟨[],0⟩).whole=0;have hjl:j<(ND c l).length:=by rw[FF hso.len];exact h
  rw[List.getElem?_eq_getElem hjl,Option.getD_some,NE hso.len h hjl];split
  ·have h3:=hso.z j h h2;rw[List.getElem?_eq_getElem (by rw[hso.len];exact h),Option.getD_some]at h3;exact h3
  ·exact Pq hg (List.getElem_mem h) h2
 ·have hn2:n<2:=by unfold Ag at hn;split at hn<;>omega
  have hil:2*p+n<O.length:=by rw[hol];omega
  have hoh:(O[2*p+n]).h=⟨List.replicate (lenOf c (p:Int)) 0,0⟩:=by
   have h5:(O.map (·.h))[2*p+n]? =some (O[2*p+n]).h:=by rw[List.getElem?_map,List.getElem?_eq_getElem hil];rfl
   rw[hO,LH,List.getElem?_map,List.getElem?_range oM]at h5;simp only[Option.map_some,Option.some.injEq]at h5;rw[←h5,show(2*p+n)/2=p by omega]
  refine⟨O[2*p+n],List.getElem?_eq_getElem hil,by rw[hoh];simp,fun y hy=>?_,fun e he=>?_⟩
  ·rw[hoh]at hy;simp only at hy;rw[List.eq_of_mem_replicate hy];exact Gu
  ·rw[hoh];show B7 (List.replicate (lenOf c (p:Int)) 0) e=0;rw[If _ _ he]
theorem TR{c:Cd}{l:List Hd}(hg:Good c)(hk:B5 c)(hso:Jz c l):EN c (Cj c l):=by
 refine⟨fun _=>Gu,fun _=>⟨Int.le_refl _,by show(0:Int)<=2147483647;decide⟩,fun _ y hy=>(by cases hy),fun _=>Nat.zero_le _,FF hso.len,fun j h h'=>?_⟩;have h3:j<(ND c l).length:=h';show KU c c.slots[j].ty ((ND c l)[j]'h3);rw[NE hso.len h h3];split
 ·exact hso.ok j h (by rw[hso.len];exact h)
 ·exact Iu hg (List.getElem_mem h) (hk.sbits _ (List.getElem_mem h))
theorem P6{c:Cd}(hg:Good c){i:At}{s:Wk}(t:AR c s i=true)(v0 v1 v2 v3:Value)(w:World)(hv:D8 w v0 v1 v2 v3 c):
 Calls prog 47 #[.agg #[v0,v1,v2,v3],.agg #[.int .i64 i.op,.int .i64 i.d,.int .i64 i.a,.int .i64 i.b,.int .i64 i.c,.int .i64 i.n,.int .u32 i.bits]] w fun e w'=>(∃n:Nat,n<=4096/\e=.returned (.int .i64 (n:Int)))/\Below w.heap.size w w':=by
 obtain⟨hk,h2,_,_⟩:=AZ t;obtain⟨op,D,A,B,Ec,nn,bt⟩:=i;simp only at hk ⊢;have hk':=hk;unfold Aq at hk';simp only[Bool.and_eq_true,decide_eq_true_eq]at hk';by_cases h1:(3<=op/\op<=15)\/op=29\/op=30\/op=32
 ·have hd:(A6 op).d≠0:=(OV hk).2 oM;have:=Ae (E6 h2) hd;simp only at this;obtain⟨kd,rfl⟩:∃n:Nat,D=(n:Int):=⟨D.toNat,oM⟩
  exact Vm c hg v0 v1 v2 v3 op A B Ec nn bt h1 kd oM w hv
 ·by_cases h3:op=31\/op=33\/op=19\/op=20
  ·have ha:(A6 op).a≠0:=by rcases h3 with rfl|rfl|rfl|rfl<;>decide
   have:=Ae (D9 h2) ha;simp only at this;obtain⟨ka,rfl⟩:∃n:Nat,A=(n:Int):=⟨A.toNat,oM⟩
   exact Vl c hg v0 v1 v2 v3 op D B Ec nn bt h3 ka oM w hv
  ·exact Vk v0 v1 v2 v3 op D A B Ec nn bt oM w
structure L3(T:Nat->Prop)(w:World)(a0 a1 a2 a3 a4:Value)(FB:Nat)(pr p5 p6:Option Addr)(n1 qr n2 q5 no q6:Nat)(gv pv:Value)(ct:Int)(X S O:List Cl)(v:World):Prop where
 sp:It w a0 a1 a2 a3 a4 FB (Ck a0 a1 a2 a3 (.slice pr n1 qr) (.slice p5 n2 q5) (.slice p6 no q6) gv pv (.int .i64 ct)) v
 cr:AO (T4 w T FB) v (.slice pr n1 qr) X
 cs:AO (T4 w T FB) v (.slice p5 n2 q5) S
 co:GZ (T4 w T FB) v (.slice p6 no q6) O
 ol:O.length=no
section
variable {T : Nat -> Prop} {w : World} {a0 a1 a2 a3 a4 : Value} {FB : Nat} {pr p5 p6 : Option Addr} {n1 qr n2 q5 no q6 : Nat} {gv pv : Value} {ct : Int} {X S O : List Cl} {v v' : World}
theorem L3.next(h:L3 T w a0 a1 a2 a3 a4 FB pr p5 p6 n1 qr n2 q5 no q6 gv pv ct X S O v)(k:Below v.heap.size v v'):L3 T w a0 a1 a2 a3 a4 FB pr p5 p6 n1 qr n2 q5 no q6 gv pv ct X S O v':=⟨h.sp.next k,h.cr.below k,h.cs.below k,h.co.below k,h.ol⟩
theorem L3.cost(h:L3 T w a0 a1 a2 a3 a4 FB pr p5 p6 n1 qr n2 q5 no q6 gv pv ct X S O v)(ct':Int):L3 T w a0 a1 a2 a3 a4 FB pr p5 p6 n1 qr n2 q5 no q6 gv pv ct' X S O (v.setCell ⟨FB,9,none⟩ (.int .i64 ct')):=by
 have hu:Un (fun b=>b=FB) v (v.setCell ⟨FB,9,none⟩ (.int .i64 ct')):=(Un.refl _ _).setCell rF _;exact⟨(h.sp.put 9 _).congr (DF rfl rfl rfl rfl rfl rfl rfl rfl rfl rfl),h.cr.un hu (fun b _ e=>.inr (.inr e)),h.cs.un hu (fun b _ e=>.inr (.inr e)),h.co.un hu (fun b _ e=>.inr (.inr e)),h.ol⟩
theorem L3.put(h:L3 T w a0 a1 a2 a3 a4 FB pr p5 p6 n1 qr n2 q5 no q6 gv pv ct X S O v)(k:Below v.heap.size v v'){pr' p5' p6':Option Addr}{qr' q5' q6':Nat}{X' S' O':List Cl}(h1:AO (T4 w T FB) v' (.slice pr' n1 qr') X')(h2:AO (T4 w T FB) v' (.slice p5' n2 q5') S')(h3:GZ (T4 w T FB) v' (.slice p6' no q6') O')(hl:O'.length=O.length):
 L3 T w a0 a1 a2 a3 a4 FB pr' p5' p6' n1 qr' n2 q5' no q6' gv pv ct X' S' O' (LS v' FB a0 a1 a2 a3 (.slice pr' n1 qr') (.slice p5' n2 q5') (.slice p6' no q6') gv pv (.int .i64 ct)):=by
 have hu:=Iq v' FB a0 a1 a2 a3 (.slice pr' n1 qr') (.slice p5' n2 q5') (.slice p6' no q6') gv pv (.int .i64 ct);exact⟨(h.sp.next k).putT _ _ _ _ _ _ _ _ _ _,h1.un hu (fun b _ e=>.inr (.inr e)),h2.un hu (fun b _ e=>.inr (.inr e)),h3.un hu (fun b _ e=>.inr (.inr e)),hl.trans h.ol⟩
theorem L3.cells(h:L3 T w a0 a1 a2 a3 a4 FB pr p5 p6 n1 qr n2 q5 no q6 gv pv ct X S O v):v.cell? ⟨FB,0,none⟩=some a0/\v.cell? ⟨FB,1,none⟩=some a1/\v.cell? ⟨FB,2,none⟩=some a2/\v.cell? ⟨FB,3,none⟩=some a3/\v.cell? ⟨FB,4,none⟩=some (.slice pr n1 qr)/\v.cell? ⟨FB,5,none⟩=some (.slice p5 n2 q5)/\v.cell? ⟨FB,6,none⟩=some (.slice p6 no q6)/\v.cell? ⟨FB,7,none⟩=some gv/\v.cell? ⟨FB,8,none⟩=some pv/\v.cell? ⟨FB,9,none⟩=some (.int .i64 ct):=
 ⟨h.sp.f.cell (i:=0) dE,h.sp.f.cell (i:=1) dE,h.sp.f.cell (i:=2) dE,h.sp.f.cell (i:=3) dE,h.sp.f.cell (i:=4) dE,h.sp.f.cell (i:=5) dE,h.sp.f.cell (i:=6) dE,h.sp.f.cell (i:=7) dE,h.sp.f.cell (i:=8) dE,h.sp.f.cell (i:=9) dE⟩
theorem L3.frz(h:L3 T w a0 a1 a2 a3 a4 FB pr p5 p6 n1 qr n2 q5 no q6 gv pv ct X S O v):∀i,v.frozen? ⟨FB,i,none⟩=false:=fun i=>h.sp.f.frozen i
theorem L3.code(h:L3 T w a0 a1 a2 a3 a4 FB pr p5 p6 n1 qr n2 q5 no q6 gv pv ct X S O v):v.cell? ⟨w.heap.size+1+1,0,none⟩=some a0/\v.cell? ⟨w.heap.size+1+1,1,none⟩=some a1/\v.cell? ⟨w.heap.size+1+1,2,none⟩=some a2/\v.cell? ⟨w.heap.size+1+1,3,none⟩=some a3:=
 ⟨h.sp.b.c.cell (i:=0) dE,h.sp.b.c.cell (i:=1) dE,h.sp.b.c.cell (i:=2) dE,h.sp.b.c.cell (i:=3) dE⟩
end
theorem Wn{v:World}{XB:Nat}{b0 b1 b2 b3 b4 b5 b6:Value}(h:v.rowIs XB 45 7 (f7 b0 b1 b2 b3 b4 b5 b6)):v.cell? ⟨XB,0,none⟩=some b0/\v.cell? ⟨XB,1,none⟩=some b1/\v.cell? ⟨XB,2,none⟩=some b2/\v.cell? ⟨XB,3,none⟩=some b3/\v.cell? ⟨XB,4,none⟩=some b4/\v.cell? ⟨XB,5,none⟩=some b5/\v.cell? ⟨XB,6,none⟩=some b6:=
 ⟨h.cell (i:=0) dE,h.cell (i:=1) dE,h.cell (i:=2) dE,h.cell (i:=3) dE,h.cell (i:=4) dE,h.cell (i:=5) dE,h.cell (i:=6) dE⟩
end Go.Proofs.YtbinohkcolcbfaaGreat
