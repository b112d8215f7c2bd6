import Derived.Test.YtjlpkjblkllfbaaGreatDoorOwn16
import Derived.Deep.DeepCutAuto
import Derived.Test.YtjlpkjblkllfbaaGreatDoorOwn1
import Derived.OrdersHeld
import Derived.Test.YtjlpkjblkllfbaaGreatDoorOwn3
import Derived.Test.YtjlpkjblkllfbaaGreatDoorOwn11
import Derived.Lib.CountLaws
namespace Go.Proofs.YtjlpkjblkllfbaaGreatDoor
open Go.RowKit Go.Proofs.Tryz
set_option linter.all false
set_option maxRecDepth 100000
set_option maxHeartbeats 16000000
def CR(o:Option Cd)(c':Cd)(ws':List Bs)(b':Bool):Prop:=
 match o with
 |some x=>ws'=[]/\b'=false/\c'=x
 |none=>¬ (ws'=[]/\b'=false)
theorem CR.bad(o:Option Cd){c':Cd}{ws':List Bs}{b':Bool}(h:o=none)(hb:b'=true):CR o c' ws' b':=by
 subst h hb;exact fun h=>by cases h.2
theorem T2{ws:List Bs}{n:Int}{c c':Cd}{ws':List Bs}{b':Bool}(h:RK ws n c c' ws' b'):CR ((Bi n ws).map fun t=>⟨c.sign,c.regs++[t],c.slots,c.list⟩) c' ws' b':=by
 unfold RK at h;cases e:Bi n ws with
 |none=>rw[e]at h;exact h
 |some t=>rw[e]at h;exact h
theorem Ik(x:Bs):As Co 2 x=if x=At then some 1 else if x=Av then some 0 else none:=by
 by_cases h1:x=At
 .subst h1;decide
 by_cases h2:x=Av
 .subst h2;decide
 simp[As,Co,h1,h2]
theorem Il(x:Bs):As CH 3 x=if x=AE then some 2 else if x=Cb then some 1 else none:=by
 by_cases h1:x=AE
 .subst h1;decide
 by_cases h2:x=Cb
 .subst h2;decide
 simp[As,CH,h1,h2]
theorem IN.on{α:Type}{o:Option (α×List Bs)}{a:α}{ws':List Bs}{b':Bool}(h:IN true o a ws' b'):b'=true:=by
 unfold IN at h;cases o with
 |none=>exact h
 |some p=>exact h.1
theorem Kl{ws:List Bs}{n m:Int}{c:Cd}{t:Ty}{s:Sl}{ws4 ws':List Bs}{b4 b':Bool}(ha:(Ab ws).1=B7)(hm:∀x,Af (Ab (Ab ws).2).1=some x->m=x)
 (ht:IN (((false|| !(Af (Ab (Ab ws).2).1).isSome)|| !(m==n))|| !(As Co 2 (Ab (Ab (Ab ws).2).2).1).isSome) (AY (Ab (Ab (Ab ws).2).2).2) t ws4 b4)
 (hs:s.ty=t) (hk:s.keep=decide ((As Co 2 (Ab (Ab (Ab ws).2).2).1).getD 0=1))
 (hv:if t.kind=2 then(∀x,Af (Ab ws4).1=some x->s.int_=x)/\s.bits=0/\ws'=(Ab ws4).2/\b'=(b4|| !(Af (Ab ws4).1).isSome)else(∀x,BI (Ab ws4).1=some x->s.bits=x)/\s.int_=0/\ws'=(Ab ws4).2/\b'=(b4|| !(BI (Ab ws4).1).isSome)):
 CR ((AQ n ws).map fun l=>⟨c.sign,c.regs,c.slots++[l],c.list⟩) ⟨c.sign,c.regs,c.slots++[s],c.list⟩ ws' b':=by
 rw[OQ ha];generalize (Ab (Ab (Ab ws).2).2).1=K at *;generalize (Ab (Ab (Ab ws).2).2).2=R at *;generalize Af (Ab (Ab ws).2).1=N at *;have hbb:b4=true->b'=true:=fun h=>by
  by_cases q:t.kind=2
  .rw[if_pos q]at hv;rw[hv.2.2.2,h];rfl
  .rw[if_neg q]at hv;rw[hv.2.2.2,h];rfl
 by_cases h1:N=some n/\(K=At\/K=Av)
 .rw[if_pos h1];obtain⟨h1,h2⟩:=h1;have hmn:=hm n h1;have hkm:(As Co 2 K).isSome=true/\decide ((As Co 2 K).getD 0=1)=decide (K=At):=by
   rw[Ik];rcases h2 with rfl|rfl
   .decide
   .decide
  rw[h1,hmn,hkm.1]at ht;have e0:((false|| !(some n:Option Int).isSome)|| !(n==n)|| !true)=false:=sM;rw[e0]at ht;rw[hkm.2]at hk;cases hT:AY R with
  |none=>
   rw[hT]at ht;exact CR.bad _ rfl (hbb ht)
  |some p=>
   obtain⟨t',r⟩:=p;rw[hT]at ht;obtain⟨g1,g2,g3⟩:=ht;subst g1 g2 g3;rw[Option.bind_some,Rq];obtain⟨st,sk,sb,si⟩:=s;simp only at hs hk hv;subst hs hk;by_cases q:st.kind=2
   .rw[if_pos q]at hv |-;obtain⟨v1,v2,v3,v4⟩:=hv;subst v2 v3;by_cases hr:(Ab ws4).2=[]
    .rw[if_pos hr];cases hN:Af (Ab ws4).1 with
     |none=>rw[hN]at v4;exact CR.bad _ rfl (by rw[v4];rfl)
     |some x=>rw[hN]at v4;rw[v1 x hN];exact⟨hr,by rw[v4];rfl,rfl⟩
    .rw[if_neg hr];exact fun h=>hr h.1
   .rw[if_neg q]at hv |-;obtain⟨v1,v2,v3,v4⟩:=hv;subst v2 v3;by_cases hr:(Ab ws4).2=[]
    .rw[if_pos hr];cases hN:BI (Ab ws4).1 with
     |none=>rw[hN]at v4;exact CR.bad _ rfl (by rw[v4];rfl)
     |some x=>rw[hN]at v4;rw[v1 x hN];exact⟨hr,by rw[v4];rfl,rfl⟩
    .rw[if_neg hr];exact fun h=>hr h.1
 .rw[if_neg h1];have hf:((false|| !N.isSome)|| !(m==n)|| !(As Co 2 K).isSome)=true:=by
   by_cases h2:N=some n
   .have h3:¬ (K=At\/K=Av):=fun e=>h1 ⟨h2,e⟩;have:As Co 2 K=none:=by rw[Ik,if_neg (fun e=>h3 (.inl e)),if_neg (fun e=>h3 (.inr e))]
    rw[this];simp
   .cases e:N with
    |none=>simp
    |some x=>
     have hx:=hm x e;subst hx;have:¬m=n:=fun q=>h2 (by rw[e,q]);simp[this]
  rw[hf]at ht;exact CR.bad _ rfl (hbb ht.on)
theorem FD(p:Bc):(AC [p]=0)↔AK p=true:=by
 unfold AC;cases h:AK p with
 |false=>simp[h]
 |true=>
  have hl:p.len<=4096/\(p.kind=1\/p.kind=2):=by
   unfold AK at h;simp only[Bool.and_eq_true,Bool.or_eq_true,decide_eq_true_eq,beq_iff_eq]at h;exact⟨h.2.2,h.1.2⟩
  have ht:C4 [p]<=65536:=by
   have:=(Dw p).2;show EC p+0<=65536;omega
  simp[h,B6];omega
theorem Qc{p:ByteArray}{n:Bs}(h:bs p=n):p=⟨n.toArray⟩:=by subst h;cases p;simp[bs]
theorem SD{ws:List Bs}{m kv:Int}{c:Cd}{p:Bc}{ws':List Bs}{b':Bool}(h4:4<=ws.length)(ha:(Ab ws).1=AN)
 (hn:bs p.name=(Ab (Ab ws).2).1) (hk:p.kind=(((As CH 3 (Ab (Ab (Ab ws).2).2).1).getD 0:Nat):Int)) (hm:∀x,Af (Ab (Ab (Ab (Ab ws).2).2).2).1=some x->p.len=x)
 (hw:ws'=(Ab (Ab (Ab (Ab ws).2).2).2).2) (hb:b'=(((false|| !(As CH 3 (Ab (Ab (Ab ws).2).2).1).isSome)|| !(Af (Ab (Ab (Ab (Ab ws).2).2).2).1).isSome)|| !(decide (AC [p]=0)))):
 CR ((AV ws).map fun p=>⟨c.sign++[p],c.regs,c.slots,c.list⟩) ⟨c.sign++[p],c.regs,c.slots,c.list⟩ ws' b':=by
 have hpt:=fun m=>Qd h4 ha m _ _ _ _ rfl rfl rfl rfl;have hpar:∀q,AV ws=some q->∃m,q=B0 (Ab (Ab ws).2).1 (Ab (Ab (Ab ws).2).2).1 m:=fun q hq=>by
  unfold AV at hq;split at hq
  .rename_i a n k l;by_cases hc:a=AN/\(k=Cb\/k=AE)
   .rw[if_pos hc,Option.bind_eq_some_iff]at hq;obtain⟨m',-,h⟩:=hq;by_cases hp:AK (B0 n k m')=true
    .rw[if_pos hp]at h;exact⟨m',(Option.some.inj h).symm⟩
    .rw[if_neg hp]at h;cases h
   .rw[if_neg hc]at hq;cases hq
  .cases hq
 generalize (Ab (Ab ws).2).1=n at *;generalize (Ab (Ab (Ab ws).2).2).1=k at *;generalize (Ab (Ab (Ab (Ab ws).2).2).2).1=l at *;generalize (Ab (Ab (Ab (Ab ws).2).2).2).2=r at *;obtain⟨pn,pk,pl⟩:=p;simp only at hn hk hm;have hpn:=Qc hn;by_cases hc:(k=Cb\/k=AE)/\(Af l).isSome=true
 .obtain⟨hc,hl⟩:=hc;obtain⟨x,hx⟩:=Option.isSome_iff_exists.1 hl;have hlen:=hm x hx;subst hlen;have hkk:(As CH 3 k).isSome=true/\pk=if k=AE then 2 else 1:=by
   rw[hk,Il];rcases hc with rfl|rfl
   .decide
   .decide
  have hpo:(⟨pn,pk,pl⟩:Bc)=B0 n k pl:=by unfold B0;rw[hpn,hkk.2]
  rw[hkk.1,hx,hpo]at hb;have hb2:b'= !(decide (AC [B0 n k pl]=0)):=by rw[hb];simp
  have hd:decide (AC [B0 n k pl]=0)=AK (B0 n k pl):=by
   have:=FD (B0 n k pl);cases h:AK (B0 n k pl)with
   |true=>rw[h]at this;simpa using this
   |false=>rw[h]at this;simpa using this
  rw[hd]at hb2;rw[hpo];by_cases hr:AK (B0 n k pl)=true/\r=[]
  .rw[(hpt pl).2 ⟨hc,hx,hr.1,hr.2⟩];exact⟨by rw[hw,hr.2],by rw[hb2,hr.1];rfl,rfl⟩
  .have hno:AV ws=none:=Bf fun q hq=>by
    obtain⟨m',rfl⟩:=hpar q hq;obtain⟨_,g1,g2,g3⟩:=(hpt m').1 hq;rw[hx]at g1;have:=Option.some.inj g1;subst this;exact hr ⟨g2,g3⟩
   rw[hno];intro h;refine hr ⟨?_,by rw[<-hw];exact h.1⟩;rw[hb2]at h;simpa using h.2
 .have hno:AV ws=none:=Bf fun q hq=>by
   obtain⟨m',rfl⟩:=hpar q hq;obtain⟨g0,g1,-,-⟩:=(hpt m').1 hq;exact hc ⟨g0,by rw[g1];rfl⟩
  refine CR.bad _ (by rw[hno];rfl) ?_;rw[hb];by_cases h1:k=Cb\/k=AE
  .have h2:(Af l).isSome=false:=by
    cases e:(Af l).isSome with
    |false=>rfl
    |true=>exact absurd ⟨h1,e⟩ hc
   rw[h2];simp
  .have:As CH 3 k=none:=by rw[Il,if_neg (fun e=>h1 (.inr e)),if_neg (fun e=>h1 (.inl e))]
   rw[this];simp
def Mh(E B WB m0 m1 m2 m3 m4:Nat)(ln st:Int)(o:Option Cd)(w:World)(e:Ending)(w':World):Prop:=
 e=.returned (.tuple #[])/\∃ (c':Cd) (u0 u1 u2 u3:Value) (ws':List Bs) (b':Bool),Cq E B m0 m1 m2 m3 m4 w' c' ln st u0 u1 u2 u3/\CD WB ws' b' w'/\Below E w w'/\CR o c' ws' b'
theorem Cq.len{E B m0 m1 m2 m3 m4:Nat}{w:World}{c:Cd}{ln st:Int}{u0 u1 u2 u3:Value}(h:Cq E B m0 m1 m2 m3 m4 w c ln st u0 u1 u2 u3):∃p q,u1=.slice p c.regs.length q:=Ac h.own.regs
theorem R6(E B WB m0 m1 m2 m3 m4:Nat)(c:Cd)(ln st:Int)(u0 u1 u2 u3:Value)(ws:List Bs)(w:World)(hL:BF E w)(hE:E<=WB)(h:Cq E B m0 m1 m2 m3 m4 w c ln st u0 u1 u2 u3)(hw:CD WB ws false w)(ha:(Ab ws).1=BU)(hl:c.regs.length<=4194304):
 Calls prog 49 #[.pointer (some ⟨B,0,none⟩),.pointer (some ⟨WB,0,none⟩)] w fun e w'=>Mh E B WB m0 m1 m2 m3 m4 ln st ((Bi c.regs.length ws).map fun t=>⟨c.sign,c.regs++[t],c.slots,c.list⟩) w e w':=by
 have HA:=A3 ha;have HLn:=A3 hl;have HX:=A3 (And.intro hE (And.intro hL h));have K1:=A3 (Cc WB ws false w hL.laid hw);have hlE:=hL.le;have HLE:=A3 hlE;have HW:=A3 hw;clear h hw hL hE ha hl hlE;go_enter func49,ntmps49;go_upto_region 1 with(go_at_call 76;(with_reducible refine K1.out.mono ?_);rintro e w1 ⟨U,rfl,hU,hU2,h1,k1⟩;have H1:=A3 (And.intro h1 k1);clear h1 k1 hU hU2)
 obtain⟨T0,-,-,hrow0⟩:=HW.row;have hd1:=H1.1.below (A4 w1);have hR1:=(HX.2.2.ofB hrow0 H1.2).below (A4 w1);have hL1:=(HX.2.1.ofB HX.1 H1.2).below ((A4 w1).mono (HX.2.1.ofB HX.1 H1.2).le);have KN:=A3 (Dq WB (Ab ws).2 false w1.drew hL1.laid hd1 (fun v k=>(hL1.ofB HX.1 k).laid));have HO1:=A3 (And.intro hd1 (And.intro hR1 hL1));obtain⟨N,hN⟩:=gA (c.regs.length)
 obtain⟨p1,q1,hu1⟩:=hR1.len;rw[hN]at hu1;have v1:w1.drew.cell? ⟨B,1,none⟩=some (.slice p1 N q1):=by rw[hR1.row.cell (i:=1) dE,<-hu1];rfl
 have HN:=A3 (And.intro hN hu1);clear hd1 hR1 hL1 hrow0 hN hu1;have v1':w1.cell? ⟨B,1,none⟩=some (.slice p1 N q1):=by simpa using v1
 refine rG (fun v=>v.cell? ⟨B,1,none⟩=some (.slice p1 N q1)) fun yH=>?_;refine Tf 0 1 3 4 5 6 ?_;refine Tb 7 8 ?_;clear yH;refine Aw 2 fun K hK=>?_;go_simp;(go_at_call 79;(with_reducible refine KN.out.mono ?_);rintro e w2 ⟨n,rfl,hm,h2,k2⟩;have H2:=A3 (And.intro h2 (And.intro k2 hm));clear h2 k2 hm);have hR2:=A3 (HO1.out.2.1.ofB (HO1.out.1.row.choose_spec.2.2) H2.out.2.1);have v2:w2.cell? ⟨B,1,none⟩=some (.slice p1 N q1):=by rw[hR2.out.row.cell (i:=1) dE,<-HN.out.2];rfl
 clear v1 v1';try(go_wp2_with fail)
 refine AU hK fun yH=>?_;clear hK K;refine Bn 9 ?_;clear yH;refine Aw 10 fun K hK=>?_;go_simp;(go_at_call 80;(with_reducible refine(BH WB _ _ _ _ H2.out.1).mono ?_);rintro e w3 ⟨rfl,h3,k3⟩;have H3:=A3 (And.intro h3 k3);clear h3 k3);have hR3:=A3 (hR2.out.ofB (H2.out.1.row.choose_spec.2.2) H3.out.2);have v3:w3.cell? ⟨B,1,none⟩=some (.slice p1 N q1):=by rw[hR3.out.row.cell (i:=1) dE,<-HN.out.2];rfl
 clear v2;try(go_wp2_with fail)
 refine AU hK fun yH=>?_;clear hK K;refine wpAnyH_done kR ?_ _;have hd3:=H3.1.below (A4 w3);have hR3d:=hR3.below (A4 w3);have hL3:=(HO1.2.2.ofB HX.1 H2.2.1).ofB HX.1 H3.2;have HL3:=A3 (hL3.below ((A4 w3).mono hL3.le));have HD3:=A3 hd3;have HR3d:=A3 hR3d;have KT:=A3 (IJ E B WB m0 m1 m2 m3 m4 c ln st u0 u1 u2 u3 _ _ w3.drew HL3.out HX.1 hR3d hd3);have v3d:w3.drew.cell? ⟨B,1,none⟩=some (.slice p1 N q1):=by simpa using v3
 clear hd3 hR3d hL3 v3;go_upto_region 2 with fail;refine wp_region_held_drew (S:=(fun _=>True)) kR ?_ (fun yH=>?_)
 .trivial
 refine Tf 0 1 2 3 4 6 ?_;refine Bn 7 ?_;clear yH;refine wpAnyH_ready (rs:=[5,8]) kR sM ?_;refine GB 5 (fun K hK=>?_) ?_
 .go_simp;refine hK.out _ _ ?_ (fun yH=>?_)
  .trivial
  clear hK K;try simp only[Act.put,List.setIfInBounds_toArray,List.set_cons_zero,List.set_cons_succ]
  clear yH;refine Aw 8 fun K hK=>?_;go_simp;(go_at_call 81;(with_reducible refine KT.out.mono ?_);rintro e w4 ⟨⟨tk,tp⟩,ws4,b4,rfl,h4,k4,ht4⟩;have H4:=A3 (And.intro h4 (And.intro k4 ht4));clear h4 k4 ht4);have hR4:=A3 (HR3d.out.ofB (HD3.out.row.choose_spec.2.2) H4.out.2.1);obtain⟨g,q,w5,hrun,hrow5,hrd5,hwd5,hbe5⟩:=hR4.out.reg H4.out.1 ⟨tk,tp⟩ TD 23;have H5:=A3 (And.intro hrd5 (And.intro hwd5 hbe5));clear hrd5 hwd5 hbe5;rw[HN.out.2,HN.out.1]at hrun;have hrun5:(Builtin.append_ #[23,23] 23 #[.slice p1 N q1,.slice (some ⟨w4.heap.size,0,none⟩) 1 1]).run prog (w4.alloc (.cells #[.int .i64 tk,.int .i64 tp] 43))=.ok (.slice (some ⟨g,0,none⟩) (N+1) q) w5:=hrun;have HRUN:=A3 hrun5;clear hrun hrun5;have z5:=hrow5.frozen 1;have c5:=hrow5.cell (i:=1) dE;have c5':w5.cell? ⟨B,1,none⟩=some u1:=c5;rw[HN.out.2]at c5';clear c5 hrow5;have v4:w4.cell? ⟨B,1,none⟩=some (.slice p1 N q1):=by rw[hR4.out.row.cell (i:=1) dE,<-HN.out.2];rfl
  have v4':(w4.alloc (.cells #[.int .i64 tk,.int .i64 tp] 43)).cell? ⟨B,1,none⟩=some (.slice p1 N q1):=kc (A2 _ _) v4;try(go_wp2_with fail)
  refine hK.out _ _ ?_ (fun yH=>?_)
  .trivial
  clear hK K;try simp only[Act.put,List.setIfInBounds_toArray,List.set_cons_zero,List.set_cons_succ]
  clear yH;refine Aw 9 fun K hK=>?_;exact WF
 refine GB 8 (fun K hK=>?_) AllReadyH.nil;go_simp;(go_at_call 81;(with_reducible refine KT.out.mono ?_);rintro e w4 ⟨⟨tk,tp⟩,ws4,b4,rfl,h4,k4,ht4⟩;have H4:=A3 (And.intro h4 (And.intro k4 ht4));clear h4 k4 ht4);have hR4:=A3 (HR3d.out.ofB (HD3.out.row.choose_spec.2.2) H4.out.2.1);obtain⟨g,q,w5,hrun,hrow5,hrd5,hwd5,hbe5⟩:=hR4.out.reg H4.out.1 ⟨tk,tp⟩ TD 23;have H5:=A3 (And.intro hrd5 (And.intro hwd5 hbe5));clear hrd5 hwd5 hbe5;rw[HN.out.2,HN.out.1]at hrun;have hrun5:(Builtin.append_ #[23,23] 23 #[.slice p1 N q1,.slice (some ⟨w4.heap.size,0,none⟩) 1 1]).run prog (w4.alloc (.cells #[.int .i64 tk,.int .i64 tp] 43))=.ok (.slice (some ⟨g,0,none⟩) (N+1) q) w5:=hrun;have HRUN:=A3 hrun5;clear hrun hrun5;have z5:=hrow5.frozen 1;have c5:=hrow5.cell (i:=1) dE;have c5':w5.cell? ⟨B,1,none⟩=some u1:=c5;rw[HN.out.2]at c5';clear c5 hrow5;have v4:w4.cell? ⟨B,1,none⟩=some (.slice p1 N q1):=by rw[hR4.out.row.cell (i:=1) dE,<-HN.out.2];rfl
 have v4':(w4.alloc (.cells #[.int .i64 tk,.int .i64 tp] 43)).cell? ⟨B,1,none⟩=some (.slice p1 N q1):=kc (A2 _ _) v4;try(go_wp2_with fail)
 refine hK.out _ _ ?_ (fun yH=>?_)
 .trivial
 clear hK K;try simp only[Act.put,List.setIfInBounds_toArray,List.set_cons_zero,List.set_cons_succ]
 clear yH;refine wpAnyH_ready (rs:=[5,9]) kR sM ?_;refine GB 5 (fun K hK=>?_) ?_
 .go_simp;refine hK.out _ _ ?_ (fun yH=>?_)
  .trivial
  clear hK K;try simp only[Act.put,List.setIfInBounds_toArray,List.set_cons_zero,List.set_cons_succ]
  clear yH;refine Aw 9 fun K hK=>?_;exact WF
 refine GB 9 (fun K hK=>?_) AllReadyH.nil;go_simp;refine hK.out _ _ ?_ (fun yH=>?_)
 .trivial
 clear hK K;try simp only[Act.put,List.setIfInBounds_toArray,List.set_cons_zero,List.set_cons_succ]
 clear yH;refine Aw 5 fun K hK=>?_;exact WF
theorem Cq.lenS{E B m0 m1 m2 m3 m4:Nat}{w:World}{c:Cd}{ln st:Int}{u0 u1 u2 u3:Value}(h:Cq E B m0 m1 m2 m3 m4 w c ln st u0 u1 u2 u3):∃p q,u2=.slice p c.slots.length q:=Ac h.own.slots
theorem SU{V:World}{C:Nat}{t:TypeId}{a0 a1 a2 a3 a4:Value}(rc:V.rowIs C t 5 (g5 a0 a1 a2 a3 a4))(v v':Value):((V.setCell ⟨C,0,none⟩ v).setCell ⟨C,1,none⟩ v').rowIs C t 5 (g5 v v' a2 a3 a4)/\AA C V ((V.setCell ⟨C,0,none⟩ v).setCell ⟨C,1,none⟩ v'):=by
 refine⟨((rc.set 0 v).set 1 v').congr fun j hj=>?_,(AA.one C 0 V v).trans (AA.one C 1 _ v')⟩;exact WW
theorem OJ(E B WB m0 m1 m2 m3 m4:Nat)(c:Cd)(ln st:Int)(u0 u1 u2 u3:Value)(ws:List Bs)(w:World)(hL:BF E w)(hE:E<=WB)(h:Cq E B m0 m1 m2 m3 m4 w c ln st u0 u1 u2 u3)(hw:CD WB ws false w)(ha:(Ab ws).1=B7)(hl:c.slots.length<=4194304):
 Calls prog 50 #[.pointer (some ⟨B,0,none⟩),.pointer (some ⟨WB,0,none⟩)] w (Mh E B WB m0 m1 m2 m3 m4 ln st ((AQ c.slots.length ws).map fun l=>⟨c.sign,c.regs,c.slots++[l],c.list⟩) w):=by
 have HA:=A3 ha;have HLn:=A3 hl;have HX:=A3 (And.intro hE (And.intro hL h));have K1:=A3 (Cc WB ws false w hL.laid hw);have hlE:=hL.le;have HLE:=A3 hlE;have HW:=A3 hw;clear h hw hL hE ha hl hlE;go_enter func50,ntmps50;go_upto_region 1 with(go_at_call 76;(with_reducible refine K1.out.mono ?_);rintro e w1 ⟨U,rfl,hU,hU2,h1,k1⟩;have H1:=A3 (And.intro h1 k1);clear h1 k1 hU hU2)
 obtain⟨T0,-,-,hrow0⟩:=HW.row;have hd1:=H1.1.below (A4 w1);have hR1:=(HX.2.2.ofB hrow0 H1.2).below (A4 w1);have hL1:=(HX.2.1.ofB HX.1 H1.2).below ((A4 w1).mono (HX.2.1.ofB HX.1 H1.2).le);have KN:=A3 (Dq WB (Ab ws).2 false w1.drew hL1.laid hd1 (fun v k=>(hL1.ofB HX.1 k).laid));have HO1:=A3 (And.intro hd1 (And.intro hR1 hL1));obtain⟨N,hN⟩:=gA (c.slots.length)
 obtain⟨p1,q1,hu1⟩:=hR1.lenS;rw[hN]at hu1;have v1:w1.drew.cell? ⟨B,2,none⟩=some (.slice p1 N q1):=by rw[hR1.row.cell (i:=2) dE,<-hu1];rfl
 have HN:=A3 (And.intro hN hu1);clear hd1 hR1 hL1 hrow0 hN hu1;have v1':w1.cell? ⟨B,2,none⟩=some (.slice p1 N q1):=by simpa using v1
 refine rG (fun v=>v.cell? ⟨B,2,none⟩=some (.slice p1 N q1)) fun yH=>?_;refine Tf 0 1 3 4 5 6 ?_;refine Tb 7 8 ?_;clear yH;refine Aw 2 fun K hK=>?_;go_simp;(go_at_call 79;(with_reducible refine KN.out.mono ?_);rintro e w2 ⟨n,rfl,hm,h2,k2⟩;have H2:=A3 (And.intro h2 (And.intro k2 hm));clear h2 k2 hm);have hR2:=A3 (HO1.out.2.1.ofB (HO1.out.1.row.choose_spec.2.2) H2.out.2.1);have v2:w2.cell? ⟨B,2,none⟩=some (.slice p1 N q1):=by rw[hR2.out.row.cell (i:=2) dE,<-HN.out.2];rfl
 clear v1 v1';try(go_wp2_with fail)
 refine AU hK fun yH=>?_;clear hK K;refine Bn 9 ?_;clear yH;refine Aw 10 fun K hK=>?_;go_simp;(go_at_call 80;(with_reducible refine(BH WB _ _ _ _ H2.out.1).mono ?_);rintro e w3 ⟨rfl,h3,k3⟩;have H3:=A3 (And.intro h3 k3);clear h3 k3);have hR3:=A3 (hR2.out.ofB (H2.out.1.row.choose_spec.2.2) H3.out.2);have v3:w3.cell? ⟨B,2,none⟩=some (.slice p1 N q1):=by rw[hR3.out.row.cell (i:=2) dE,<-HN.out.2];rfl
 clear v2;try(go_wp2_with fail)
 refine AU hK fun yH=>?_;clear hK K;refine wpAnyH_done kR ?_ _;obtain⟨T9,-,-,hrow9⟩:=HW.row;have HROW0:=A3 hrow9;clear hrow9 v3;have HO3:Hid (BS WB w w3):=((H1.2.trans (BS.of (A4 w1))).trans H2.2.1).trans H3.2;have HL3:=A3 (HX.2.1.ofB HX.1 HO3.out);have hR3':=HX.2.2.ofB HROW0.out HO3.out;have KM:=Ey WB m3 _ _ (As Co 2) w3 HL3.laid H3.1 hR3'.maps.keeps.1;have v9:w3.cell? ⟨B,9,none⟩=some (.map (some m3)):=hR3'.row.cell (i:=9) dE;obtain⟨n2,hn2⟩:∃n2:Int,(((As Co 2 (Ab (Ab (Ab ws).2).2).1).getD 0:Nat):Int)=n2:=⟨_,rfl⟩
 rw[hn2]at KM;have HKM:=A3 KM;have HN2:=A3 hn2;clear KM hn2 hR3';go_upto_region 3 with(go_at_call 78;(with_reducible refine HKM.out.mono ?_);rintro e w4 ⟨rfl,h4,k4⟩;have H4:=A3 (And.intro h4 k4);clear h4 k4;clear v9)
 obtain⟨kb,hkb⟩:=gA ((n2==1))
 try simp only[hkb]
 obtain⟨V4,hV4⟩:∃V,w4.alloc (.cells #[.int .i64 0,.int .i64 0,.bool kb,.int .u32 0,.int .i64 0] 59)=V:=⟨_,rfl⟩
 rw[hV4];have hp:=CG w4 59 (.int .i64 0) (.int .i64 0) (.bool kb) (.int .u32 0) (.int .i64 0);have hb:=A2 w4 (.cells #[.int .i64 0,.int .i64 0,.bool kb,.int .u32 0,.int .i64 0] 59);rw[hV4]at hp hb;have HO4:Hid (BS WB w V4):=(HO3.trans H4.2).trans (BS.of hb);have HW4:=A3 (H4.1.below hb);have l4:w.heap.size<=w4.heap.size:=(HO3.trans H4.2).size;have lW:=HW.lt;obtain⟨X,hX⟩:=gA (w4.heap.size)
 rw[hX]at hp l4;simp only[hX];have HXW:Hid (w.heap.size<=X/\WB<X/\X≠WB):=⟨l4,oM,oM⟩
 have HRX:=A3 hp;have HKB:Hid (kb=decide ((As Co 2 (Ab (Ab (Ab ws).2).2).1).getD 0=1)):=by
  show kb=_;rw[<-hkb,<-HN2.out];generalize (As Co 2 (Ab (Ab (Ab ws).2).2).1).getD 0=j;by_cases q:j=1
  .subst q;rfl
  .simp[q];omega
 have HL4:=A3 (HX.out.2.1.ofB HX.out.1 HO4.out);have KT:=A3 (IJ E B WB m0 m1 m2 m3 m4 c ln st u0 u1 u2 u3 _ _ V4 HL4.out HX.out.1 (HX.out.2.2.ofB HROW0.out HO4.out) HW4.out);clear hp hb l4 lW hkb hX hV4;go_upto_region 4 with(go_at_call 81;(with_reducible refine KT.out.mono ?_);rintro e w5 ⟨⟨tk,tp⟩,ws5,b5,rfl,h5,k5,ht5⟩;have H5:=A3 (And.intro h5 (And.intro k5 ht5));clear h5 k5 ht5;have y5:=HRX.out.of_block (H5.out.2.1.oth _ HRX.out.lt HXW.out.2.2);have HY5:=A3 y5;obtain⟨x0,x1,x2,x3,x4⟩:=c5 y5;obtain⟨f0,f1,f2,f3,f4⟩:=z5 y5;clear y5)
 obtain⟨V5,hV5⟩:∃V,(w5.setCell ⟨X,0,none⟩ (.int .i64 tk)).setCell ⟨X,1,none⟩ (.int .i64 tp)=V:=⟨_,rfl⟩
 rw[hV5];have hp5:=SU HY5.out (.int .i64 tk) (.int .i64 tp);rw[hV5]at hp5;have HO5:Hid (BS WB w V5):=(HO4.trans H5.2.1).putN hp5.2 HXW.1;have HW5:=A3 (H5.1.putN hp5.2 (Ne.symm HXW.2.2));have HRX5:=A3 hp5.1;have HL5:=A3 (HX.2.1.ofB HX.1 HO5.out);have HT5:=A3 H5.2.2;clear x0 x1 x2 x3 x4 f0 f1 f2 f3 f4 hV5 hp5;obtain⟨x0,-,-,-,-⟩:=c5 HRX5.out;by_cases q2:tk=2
 .subst q2;have HQ:Hid ((2:Int)=2):=rfl;have KN:=A3 (Dq WB ws5 b5 V5 HL5.out.laid HW5.out (fun v k=>(HL5.out.ofB HX.out.1 k).laid));go_upto_region 7 with(go_at_call 79;(with_reducible refine KN.out.mono ?_);rintro e w6 ⟨m,rfl,hm,h6,k6⟩;have H6:=A3 (And.intro h6 (And.intro k6 hm));clear h6 k6 hm;have y6:=HRX5.out.of_block (H6.out.2.1.oth _ HRX5.out.lt HXW.out.2.2);have HY6:=A3 y6;clear x0;obtain⟨x0,x1,x2,x3,x4⟩:=c5 y6;obtain⟨f0,f1,f2,f3,f4⟩:=z5 y6;clear y6)
  obtain⟨V,hV⟩:=gA (w6.setCell ⟨X,4,none⟩ (.int .i64 m))
  have hp6:=LG HY6.out (.int .i64 m);rw[hV]at hp6;rw[hV];have HO6:Hid (BS WB w V):=(HO5.trans H6.2.1).putN hp6.2 HXW.1;have HWD6:Hid (CD WB (Ab ws5).2 (b5|| !(Af (Ab ws5).1).isSome) V):=H6.1.putN hp6.2 (Ne.symm HXW.2.2);have hpd:=hp6.1.of_block (w':=V.drew) rfl;clear x0 x1 x2 x3 x4 f0 f1 f2 f3 f4 hV;obtain⟨x0,x1,x2,x3,x4⟩:=c5 hpd;have HOD:Hid (BS WB w V.drew):=HO6.trans (BS.of (A4 V));have HWDd:Hid (CD WB (Ab ws5).2 (b5|| !(Af (Ab ws5).1).isSome) V.drew):=HWD6.below (A4 V);have HRD:Hid (Cq E B m0 m1 m2 m3 m4 V.drew c ln st u0 u1 u2 u3):=HX.2.2.ofB HROW0.out HOD.out;have bx0:(V.drew.alloc (.cells #[.int .i64 2,.int .i64 tp,.bool kb,.int .u32 0,.int .i64 m] 59)).cell? ⟨X,0,none⟩=some (.int .i64 2):=kc (A2 _ _) x0;have HEND:Hid (CR ((AQ c.slots.length ws).map fun l=>⟨c.sign,c.regs,c.slots++[l],c.list⟩) ⟨c.sign,c.regs,c.slots++[⟨⟨2,tp⟩,kb,0,m⟩],c.list⟩ (Ab ws5).2 (b5|| !(Af (Ab ws5).1).isSome)):=by
   refine Kl (m:=n) (t:=⟨2,tp⟩) HA.out H2.2.2 (by rw[HN.1];exact HT5.out) rfl HKB.out ?_;refine(if_pos (show(2:Int)=2 from rfl)).mpr ?_;exact⟨H6.2.2,rfl,rfl,rfl⟩
  clear hpd hp6;obtain⟨g,q,w8,hrun,hrow8,hrd8,hwd8,hbe8⟩:=HRD.slot HWDd.out ⟨⟨2,tp⟩,kb,0,m⟩ TD 24;have H8:=A3 (And.intro hrd8 (And.intro hwd8 hbe8));clear hrd8 hwd8 hbe8;rw[HN.2,HN.1]at hrun;have hrun5:(Builtin.append_ #[24,24] 24 #[.slice p1 N q1,.slice (some ⟨V.drew.heap.size,0,none⟩) 1 1]).run prog (V.drew.alloc (.cells #[.int .i64 2,.int .i64 tp,.bool kb,.int .u32 0,.int .i64 m] 59))=.ok (.slice (some ⟨g,0,none⟩) (N+1) q) w8:=hrun;have HRUN:=A3 hrun5;clear hrun hrun5;have z8:=hrow8.frozen 2;have c8:=hrow8.cell (i:=2) dE;have c8':w8.cell? ⟨B,2,none⟩=some u2:=c8;rw[HN.2]at c8';clear c8 hrow8;have vd:V.drew.cell? ⟨B,2,none⟩=some (.slice p1 N q1):=by rw[HRD.row.cell (i:=2) dE,<-HN.2];rfl
  have va:(V.drew.alloc (.cells #[.int .i64 2,.int .i64 tp,.bool kb,.int .u32 0,.int .i64 m] 59)).cell? ⟨B,2,none⟩=some (.slice p1 N q1):=kc (A2 _ _) vd;have va':(V.alloc (.cells #[.int .i64 2,.int .i64 tp,.bool kb,.int .u32 0,.int .i64 m] 59)).drew.cell? ⟨B,2,none⟩=some (.slice p1 N q1):=va;refine wp_region_held_drew (S:=(fun _=>True)) kR ?_ (fun yH=>?_)
  .trivial
  refine Tc 0 1 2 ?_;refine Tb 3 4 ?_;clear yH;refine wpAnyH_ready (rs:=[5,6]) kR sM ?_;refine GB 5 (fun K hK=>?_) ?_
  .go_simp;refine hK.out _ _ ?_ (fun yH=>?_)
   .trivial
   clear hK K;try simp only[Act.put,List.setIfInBounds_toArray,List.set_cons_zero,List.set_cons_succ]
   clear yH;refine Aw 6 fun K hK=>?_;go_simp;refine hK.out _ _ ?_ (fun yH=>?_)
   .trivial
   clear hK K;try simp only[Act.put,List.setIfInBounds_toArray,List.set_cons_zero,List.set_cons_succ]
   clear yH;refine Aw 7 fun K hK=>?_;exact V8
  refine GB 6 (fun K hK=>?_) AllReadyH.nil;go_simp;refine hK.out _ _ ?_ (fun yH=>?_)
  .trivial
  clear hK K;try simp only[Act.put,List.setIfInBounds_toArray,List.set_cons_zero,List.set_cons_succ]
  clear yH;refine wpAnyH_ready (rs:=[5,7]) kR sM ?_;refine GB 5 (fun K hK=>?_) ?_
  .go_simp;refine hK.out _ _ ?_ (fun yH=>?_)
   .trivial
   clear hK K;try simp only[Act.put,List.setIfInBounds_toArray,List.set_cons_zero,List.set_cons_succ]
   clear yH;refine Aw 7 fun K hK=>?_;exact V8
  refine GB 7 (fun K hK=>?_) AllReadyH.nil;go_simp;refine hK.out _ _ ?_ (fun yH=>?_)
  .trivial
  clear hK K;try simp only[Act.put,List.setIfInBounds_toArray,List.set_cons_zero,List.set_cons_succ]
  clear yH;refine Aw 5 fun K hK=>?_;exact V8
 .have HQ:Hid (¬tk=2):=q2;have e2:(tk==2)=false:=by simpa using q2
  clear q2;have KN:=A3 (Kz WB ws5 b5 V5 HL5.out.laid HW5.out);go_upto_region 7 with(go_at_call 82;(with_reducible refine KN.out.mono ?_);rintro e w6 ⟨m,rfl,hm,h6,k6⟩;have H6:=A3 (And.intro h6 (And.intro k6 hm));clear h6 k6 hm;have y6:=HRX5.out.of_block (H6.out.2.1.oth _ HRX5.out.lt HXW.out.2.2);have HY6:=A3 y6;clear x0;obtain⟨x0,x1,x2,x3,x4⟩:=c5 y6;obtain⟨f0,f1,f2,f3,f4⟩:=z5 y6;clear y6)
  obtain⟨V,hV⟩:=gA (w6.setCell ⟨X,3,none⟩ (.int .u32 m))
  have hp6:=LF HY6.out (.int .u32 m);rw[hV]at hp6;rw[hV];have HO6:Hid (BS WB w V):=(HO5.trans H6.2.1).putN hp6.2 HXW.1;have HWD6:Hid (CD WB (Ab ws5).2 (b5|| !(BI (Ab ws5).1).isSome) V):=H6.1.putN hp6.2 (Ne.symm HXW.2.2);have hpd:=hp6.1.of_block (w':=V.drew) rfl;clear x0 x1 x2 x3 x4 f0 f1 f2 f3 f4 hV;obtain⟨x0,x1,x2,x3,x4⟩:=c5 hpd;have HOD:Hid (BS WB w V.drew):=HO6.trans (BS.of (A4 V));have HWDd:Hid (CD WB (Ab ws5).2 (b5|| !(BI (Ab ws5).1).isSome) V.drew):=HWD6.below (A4 V);have HRD:Hid (Cq E B m0 m1 m2 m3 m4 V.drew c ln st u0 u1 u2 u3):=HX.2.2.ofB HROW0.out HOD.out;have bx0:(V.drew.alloc (.cells #[.int .i64 tk,.int .i64 tp,.bool kb,.int .u32 m,.int .i64 0] 59)).cell? ⟨X,0,none⟩=some (.int .i64 tk):=kc (A2 _ _) x0;have HEND:Hid (CR ((AQ c.slots.length ws).map fun l=>⟨c.sign,c.regs,c.slots++[l],c.list⟩) ⟨c.sign,c.regs,c.slots++[⟨⟨tk,tp⟩,kb,m,0⟩],c.list⟩ (Ab ws5).2 (b5|| !(BI (Ab ws5).1).isSome)):=by
   refine Kl (m:=n) (t:=⟨tk,tp⟩) HA.out H2.2.2 (by rw[HN.1];exact HT5.out) rfl HKB.out ?_;rw[if_neg HQ.out];exact⟨H6.2.2,rfl,rfl,rfl⟩
  clear hpd hp6;obtain⟨g,q,w8,hrun,hrow8,hrd8,hwd8,hbe8⟩:=HRD.slot HWDd.out ⟨⟨tk,tp⟩,kb,m,0⟩ TD 24;have H8:=A3 (And.intro hrd8 (And.intro hwd8 hbe8));clear hrd8 hwd8 hbe8;rw[HN.2,HN.1]at hrun;have hrun5:(Builtin.append_ #[24,24] 24 #[.slice p1 N q1,.slice (some ⟨V.drew.heap.size,0,none⟩) 1 1]).run prog (V.drew.alloc (.cells #[.int .i64 tk,.int .i64 tp,.bool kb,.int .u32 m,.int .i64 0] 59))=.ok (.slice (some ⟨g,0,none⟩) (N+1) q) w8:=hrun;have HRUN:=A3 hrun5;clear hrun hrun5;have z8:=hrow8.frozen 2;have c8:=hrow8.cell (i:=2) dE;have c8':w8.cell? ⟨B,2,none⟩=some u2:=c8;rw[HN.2]at c8';clear c8 hrow8;have vd:V.drew.cell? ⟨B,2,none⟩=some (.slice p1 N q1):=by rw[HRD.row.cell (i:=2) dE,<-HN.2];rfl
  have va:(V.drew.alloc (.cells #[.int .i64 tk,.int .i64 tp,.bool kb,.int .u32 m,.int .i64 0] 59)).cell? ⟨B,2,none⟩=some (.slice p1 N q1):=kc (A2 _ _) vd;have va':(V.alloc (.cells #[.int .i64 tk,.int .i64 tp,.bool kb,.int .u32 m,.int .i64 0] 59)).drew.cell? ⟨B,2,none⟩=some (.slice p1 N q1):=va;refine wp_region_held_drew (S:=(fun _=>True)) kR ?_ (fun yH=>?_)
  .trivial
  refine Tc 0 1 2 ?_;refine Tb 3 4 ?_;clear yH;refine wpAnyH_ready (rs:=[5,6]) kR sM ?_;refine GB 5 (fun K hK=>?_) ?_
  .go_simp;refine hK.out _ _ ?_ (fun yH=>?_)
   .trivial
   clear hK K;try simp only[Act.put,List.setIfInBounds_toArray,List.set_cons_zero,List.set_cons_succ]
   clear yH;refine Aw 6 fun K hK=>?_;go_simp;refine hK.out _ _ ?_ (fun yH=>?_)
   .trivial
   clear hK K;try simp only[Act.put,List.setIfInBounds_toArray,List.set_cons_zero,List.set_cons_succ]
   clear yH;refine Aw 7 fun K hK=>?_;exact V8
  refine GB 6 (fun K hK=>?_) AllReadyH.nil;go_simp;refine hK.out _ _ ?_ (fun yH=>?_)
  .trivial
  clear hK K;try simp only[Act.put,List.setIfInBounds_toArray,List.set_cons_zero,List.set_cons_succ]
  clear yH;refine wpAnyH_ready (rs:=[5,7]) kR sM ?_;refine GB 5 (fun K hK=>?_) ?_
  .go_simp;refine hK.out _ _ ?_ (fun yH=>?_)
   .trivial
   clear hK K;try simp only[Act.put,List.setIfInBounds_toArray,List.set_cons_zero,List.set_cons_succ]
   clear yH;refine Aw 7 fun K hK=>?_;exact V8
  refine GB 7 (fun K hK=>?_) AllReadyH.nil;go_simp;refine hK.out _ _ ?_ (fun yH=>?_)
  .trivial
  clear hK K;try simp only[Act.put,List.setIfInBounds_toArray,List.set_cons_zero,List.set_cons_succ]
  clear yH;refine Aw 5 fun K hK=>?_;exact V8
def D2(i:Ax)(o:Nat)(v:Int):Ax:=if o=1 then{i with d:=v}else if o=2 then{i with a:=v}else if o=3 then{i with b:=v}else{i with c:=v}
def Ai(op:Nat):Ax:=⟨(op:Int),0,0,0,0,0,0⟩
def Dl(i:Ax):List Nat:=(if(A5 i.op).d != 0 then [1]else [])++[2,3,4].take (Ay i (A5 i.op)).length
def KG:List Nat->Ax->List Bs->Option (Ax×List Bs)
 |[],i,ws=>some (i,ws)
 |o::os,i,ws=>(FB (Ab ws).1).bind fun n=>KG os (D2 i o n) (Ab ws).2
theorem MR:∀n:Nat,n<38->((A5 (n:Int)).a=0->(A5 (n:Int)).b=0)/\((A5 (n:Int)).b=0->(A5 (n:Int)).c=0):=by decide+kernel
theorem S3{α:Type}(op:Nat)(hop:op<38)(ws:List Bs)(G:Int->Int->Int->Int->List Bs->Option α):
 ((Cn (A5 (op:Int)).d ws).bind fun d=>(Cn (A5 (op:Int)).a d.2).bind fun a=>(Cn (A5 (op:Int)).b a.2).bind fun b=>(Cn (A5 (op:Int)).c b.2).bind fun c=>G d.1 a.1 b.1 c.1 c.2)=(KG (Dl (Ai op)) (Ai op) ws).bind fun x=>G x.1.d x.1.a x.1.b x.1.c x.2:=by
 obtain⟨h1,h2⟩:=MR op hop;unfold Dl Ay Ai;simp only;generalize (A5 (op:Int)).d=D at *;generalize (A5 (op:Int)).a=A at *;generalize (A5 (op:Int)).b=B at *;generalize (A5 (op:Int)).c=C at *;by_cases hd:D=0<;>by_cases ha:A=0
 .simp[Ea,hd,ha,h1 ha,h2 (h1 ha),KG]
 .exact XX
 .simp[Ea,hd,ha,h1 ha,h2 (h1 ha),KG,D2,Option.bind_assoc]
 .exact XX
theorem IZ(ws:List Bs):B3 ws=(KJ (Ab ws).1).bind fun k=>(KG (Dl (Ai (k+1))) (Ai (k+1)) (Ab ws).2).bind fun x=>(BZ (A5 ((k:Int)+1)).n x.2).bind fun e=>some ⟨(k:Int)+1,x.1.d,x.1.a,x.1.b,x.1.c,e.1,e.2⟩:=by
 rw[PH];cases h:KJ (Ab ws).1 with
 |none=>rfl
 |some k=>
  rw[Option.bind_some,Option.bind_some];have hk:=(FQ h).1;have e:=S3 (k+1) oM (Ab ws).2 (fun d a b c l=>(BZ (A5 ((k:Int)+1)).n l).bind fun e=>some (⟨(k:Int)+1,d,a,b,c,e.1,e.2⟩:Ax));rw[show(((k+1:Nat):Int))=(k:Int)+1 by omega]at e;exact e
theorem EX{L:List Bs}:∀ {n j:Nat} {s:Bs},As L n s=some j->j<n/\s=(L[j]?).getD []/\s≠[]
 |0,j,s,h=>by cases h
 |n+1,j,s,h=>by
  rw[As]at h;by_cases q:s=(L[n]?).getD []/\s≠[]
  .rw[if_pos q]at h;have:=Option.some.inj h;subst this;exact⟨oM,q.1,q.2⟩
  .rw[if_neg q]at h;obtain⟨h1,h2⟩:=EX h;exact⟨oM,h2⟩
theorem Sz:∀k:Nat,k<37->As Dy 38 (DS ((k:Int)+1))=some (k+1):=by decide+kernel
theorem Q7(x:Bs):As Dy 38 x=(KJ x).map fun k=>k+1:=by
 cases h:KJ x with
 |some k=>
  obtain⟨h1,rfl⟩:=FQ h;exact Sz k h1
 |none=>
  show As Dy 38 x=none;refine Bf fun j hj=>?_;obtain⟨h1,h2,h3⟩:=EX hj;cases j with
  |zero=>exact h3 (by rw[h2];rfl)
  |succ k=>
   have e:x=DS ((k:Int)+1):=by rw[h2];unfold DS;rw[show((k:Int)+1).toNat=k+1 by omega]
   rw[e,Lx k oM]at h;cases h
def EY(op:Nat):Bool:=decide (op=2\/op=29\/op=30\/op=31\/op=32\/op=33\/op=36)
theorem R1:∀op:Nat,op<38->EY op=true->(A5 (op:Int)).n≠0:=by decide+kernel
theorem R2:∀op:Nat,op<38->EY op=true->(A5 (op:Int)).n≠7:=by decide+kernel
theorem R3:∀op:Nat,op<38->EY op=false->op=0\/op=1\/(A5 (op:Int)).n=0:=by decide+kernel
theorem Jk(op:Nat)(h:op<38)(h1:1<=op):(EY op=true->(A5 (op:Int)).n≠0/\(A5 (op:Int)).n≠7)/\(op=1->(A5 (op:Int)).n=7/\EY op=false)/\(EY op=false->op≠1->(A5 (op:Int)).n=0):=by
 refine⟨fun q=>⟨R1 op h q,R2 op h q⟩,fun q=>by subst q;decide,fun q q1=>?_⟩;rcases R3 op h q with e|e|e
 .omega
 .exact absurd e q1
 .exact e
structure GC(F:List Nat)(i0:Ax)(ws0:List Bs)(bad:Bool)(j:Nat)(i:Ax)(ws:List Bs)(b:Bool):Prop where
 good:b=false->bad=false/\KG F i0 ws0=KG (F.drop j) i ws
 wrong:b=true->bad=true\/KG F i0 ws0=none
 rest:i.op=i0.op/\i.n=i0.n/\i.bits=i0.bits
theorem GC.start(F:List Nat)(i0:Ax)(ws0:List Bs)(bad:Bool):GC F i0 ws0 bad 0 i0 ws0 bad:=⟨fun h=>⟨h,rfl⟩,fun h=>.inl h,rfl,rfl,rfl⟩
theorem GC.step{F:List Nat}{i0 i:Ax}{ws0 ws:List Bs}{bad b:Bool}{j:Nat}(h:GC F i0 ws0 bad j i ws b)(hj:j<F.length){n:Int}(hn:∀m,FB (Ab ws).1=some m->n=m):
 GC F i0 ws0 bad (j+1) (D2 i F[j] n) (Ab ws).2 (b|| !(FB (Ab ws).1).isSome):=by
 have hd:KG (F.drop j) i ws=(FB (Ab ws).1).bind fun n=>KG (F.drop (j+1)) (D2 i F[j] n) (Ab ws).2:=by
  rw[List.drop_eq_getElem_cons hj];rfl
 refine⟨fun hb=>?_,fun hb=>?_,?_⟩
 .cases hb0:b with
  |true=>rw[hb0]at hb;cases hb
  |false=>
   obtain⟨h1,h2⟩:=h.good hb0;cases e:FB (Ab ws).1 with
   |none=>rw[hb0,e]at hb;cases hb
   |some m=>
    rw[hd,e]at h2;rw[hn m e];exact⟨h1,h2⟩
 .cases hb0:b with
  |true=>exact h.wrong hb0
  |false=>
   obtain⟨h1,h2⟩:=h.good hb0;cases e:FB (Ab ws).1 with
   |none=>rw[hd,e]at h2;exact .inr h2
   |some m=>rw[hb0,e]at hb;cases hb
 .obtain⟨h1,h2,h3⟩:=h.rest;unfold D2;split
  .exact⟨h1,h2,h3⟩
  split
  .exact⟨h1,h2,h3⟩
  split
  .exact⟨h1,h2,h3⟩
  .exact⟨h1,h2,h3⟩
theorem IY{ws:List Bs}{c:Cd}{O:Nat}{i i':Ax}{ws2 ws':List Bs}{b2 b':Bool}(hO:(As Dy 38 (Ab ws).1).getD 0=O)
 (hI:GC (Dl (Ai O)) (Ai O) (Ab ws).2 (false|| !(As Dy 38 (Ab ws).1).isSome) (Dl (Ai O)).length i ws2 b2)
 (hE:(i'.op=i.op/\i'.d=i.d/\i'.a=i.a/\i'.b=i.b/\i'.c=i.c)/\if EY O=true then(∀x,Af (Ab ws2).1=some x->i'.n=x)/\i'.bits=0/\ws'=(Ab ws2).2/\b'=(b2|| !(Af (Ab ws2).1).isSome)else if O=1 then(∀x,BI (Ab ws2).1=some x->i'.bits=x)/\i'.n=0/\ws'=(Ab ws2).2/\b'=(b2|| !(BI (Ab ws2).1).isSome)else i'.n=0/\i'.bits=0/\ws'=ws2/\b'=b2):
 CR ((B3 ws).map fun i=>⟨c.sign,c.regs,c.slots,c.list++[i]⟩) ⟨c.sign,c.regs,c.slots,c.list++[i']⟩ ws' b':=by
 obtain⟨hF,hE⟩:=hE;have hbb:b2=true->b'=true:=fun h=>by
  by_cases q:EY O=true
  .rw[if_pos q]at hE;rw[hE.2.2.2,h];rfl
  .rw[if_neg q]at hE;by_cases q1:O=1
   .rw[if_pos q1]at hE;rw[hE.2.2.2,h];rfl
   .rw[if_neg q1]at hE;rw[hE.2.2.2,h]
 rw[IZ];rw[Q7]at hO hI;cases hop:KJ (Ab ws).1 with
 |none=>
  refine CR.bad _ rfl (hbb ?_);cases hb:b2 with
  |true=>rfl
  |false=>
   have:=(hI.good hb).1;rw[hop]at this;cases this
 |some k=>
  have hk:=(FQ hop).1;rw[hop]at hO hI;have hO:k+1=O:=hO;subst hO;rw[Option.bind_some];have hI:GC (Dl (Ai (k+1))) (Ai (k+1)) (Ab ws).2 false (Dl (Ai (k+1))).length i ws2 b2:=hI;cases hb:b2 with
  |true=>
   rcases hI.wrong hb with h|h
   .cases h
   .rw[h];exact CR.bad _ rfl (hbb hb)
  |false=>
   have h:=(hI.good hb).2;rw[List.drop_eq_nil_of_le (gF _)]at h;rw[h,KG,Option.bind_some];obtain⟨r1,r2,r3⟩:=Jk (k+1) oM oM;rw[show(((k+1:Nat):Int))=(k:Int)+1 by omega]at r1 r2 r3;obtain⟨o1,o2,o3⟩:=hI.rest;have o1:i.op=(k:Int)+1:=by rw[o1];show((k+1:Nat):Int)=_;omega
   obtain⟨f0,f1,f2,f3,f4⟩:=hF;obtain⟨xo,xd,xa,xb,xc,xn,xz⟩:=i';simp only at f0 f1 f2 f3 f4 hE;subst f1 f2 f3 f4;rw[o1]at f0;subst f0;rw[Pu];by_cases q:EY (k+1)=true
   .rw[if_pos q,hb]at hE;obtain⟨e1,e2,e3,e4⟩:=hE;subst e2 e3;rw[if_neg (r1 q).2,if_neg (r1 q).1];by_cases hr:(Ab ws2).2=[]
    .rw[if_pos hr];cases hN:Af (Ab ws2).1 with
     |none=>rw[hN]at e4;exact CR.bad _ rfl (by rw[e4];rfl)
     |some x=>rw[hN]at e4;rw[e1 x hN];exact⟨hr,by rw[e4];rfl,rfl⟩
    .rw[if_neg hr];exact fun h=>hr h.1
   .rw[if_neg q,hb]at hE;by_cases q1:k+1=1
    .rw[if_pos q1]at hE;obtain⟨e1,e2,e3,e4⟩:=hE;subst e2 e3;rw[if_pos (r2 q1).1];by_cases hr:(Ab ws2).2=[]
     .rw[if_pos hr];cases hN:BI (Ab ws2).1 with
      |none=>rw[hN]at e4;exact CR.bad _ rfl (by rw[e4];rfl)
      |some x=>rw[hN]at e4;rw[e1 x hN];exact⟨hr,by rw[e4];rfl,rfl⟩
     .rw[if_neg hr];exact fun h=>hr h.1
    .rw[if_neg q1]at hE;obtain⟨e1,e2,e3,e4⟩:=hE;subst e1 e2 e3;have h0:=r3 (by simpa using q) q1;rw[if_neg (by rw[h0];decide),if_pos h0];by_cases hr:ws'=[]
     .rw[if_pos hr];exact⟨hr,e4,rfl⟩
     .rw[if_neg hr];exact fun h=>hr h.1
structure Hp(c:Cd)(n:Nat):Prop where
 len:c.sign.length+c.regs.length+c.slots.length+c.list.length<=n
 sign:∀p∈c.sign,AK p=true
 slots:∀s∈c.slots,Hv s
 list:∀i∈c.list,ED i
theorem Hp.none:Hp BD 0:=⟨gF _,fun _ h=>(nomatch h),fun _ h=>(nomatch h),fun _ h=>(nomatch h)⟩
theorem Tm{c c':Cd}{n:Nat}{ws:List Bs}(h:Hp c n)(hs:Cl c ws=some c'):Hp c' (n+1):=by
 have hl:=h.len;unfold Cl at hs;split at hs
 .obtain⟨p,hp,rfl⟩:=Option.map_eq_some_iff.1 hs;refine⟨by simp only[List.length_append,List.length_singleton];omega,fun q hq=>?_,h.slots,h.list⟩;rcases List.mem_append.1 hq with hq|hq
  .exact h.sign q hq
  .rw[List.mem_singleton.1 hq];exact(Fl hp).1
 split at hs
 .obtain⟨p,hp,rfl⟩:=Option.map_eq_some_iff.1 hs;exact⟨by simp only[List.length_append,List.length_singleton];omega,h.sign,h.slots,h.list⟩
 split at hs
 .obtain⟨p,hp,rfl⟩:=Option.map_eq_some_iff.1 hs;refine⟨by simp only[List.length_append,List.length_singleton];omega,h.sign,fun q hq=>?_,h.list⟩;rcases List.mem_append.1 hq with hq|hq
  .exact h.slots q hq
  .rw[List.mem_singleton.1 hq];exact(Fu hp).1
 .obtain⟨p,hp,rfl⟩:=Option.map_eq_some_iff.1 hs;refine⟨by simp only[List.length_append,List.length_singleton];omega,h.sign,h.slots,fun q hq=>?_⟩;rcases List.mem_append.1 hq with hq|hq
  .exact h.list q hq
  .rw[List.mem_singleton.1 hq];exact(ME hp).1
theorem JV{l n b:Int}(h:Ol l n b):0<=b/\b<4294967296:=by
 unfold Ol at h;split at h
 .exact h.2
 split at h
 .rw[h.2];decide
 .rw[h.1];decide
theorem Is{s:Sl}(h:Hv s):0<=s.bits/\s.bits<4294967296:=by
 obtain⟨_,h⟩:=h;split at h
 .rw[h.1];decide
 .exact h.2
theorem Hp.cd{c:Cd}{n:Nat}(h:Hp c n)(hn:n<=140737488351232):BE c:=by
 have hl:=h.len;refine⟨oM,fun p hp=>?_,oM,oM,oM,fun s hs=>Is (h.slots s hs),fun i hi=>JV (h.list i hi).2.2.2.2.2⟩;have:=h.sign p hp;unfold AK B1 at this;simp only[Bool.and_eq_true,decide_eq_true_eq]at this;have:=this.1.1.1.2;omega
theorem JG:∀ (s cur:Bs),(∀b∈s,b≠10)->Bw cur s=([],cur++s)
 |[],cur,_=>by simp[Bw]
 |b::t,cur,h=>by
  have hb:¬nb b=10:=fun e=>h b sM (UInt8.toNat_inj.1 (by unfold nb at e;show b.toNat=10;omega));rw[Bw,if_neg (by simpa using hb),JG t (cur++[b]) (fun x hx=>h x (List.mem_cons_of_mem _ hx))];simp
theorem Vx{b:UInt8}(h:b≠10):nb b≠10:=fun e=>h (UInt8.toNat_inj.1 (by unfold nb at e;show b.toNat=10;omega))
structure F9(t:Bs)(ln st:Nat)(c:Cd)(s:Bs):Prop where
 text:∃ls,(Bw [] t).1=ls++(Bw [] s).1/\(Bw [] t).2=(Bw [] s).2/\ls.length=ln/\(ln≠0->∃d,ls=B5::d/\FA (0,BD) 2 d=.ok (st,c))
 zero:ln=0->st=0/\c=BD
 left:ln≠0->s≠[]
 size:ln+s.length<=t.length
 ok:Hp c ln
 sort:st<=3
theorem F9.start(t:Bs):F9 t 0 0 BD t:=⟨⟨[],sM,rfl,rfl,fun h=>absurd rfl h⟩,fun _=>⟨rfl,rfl⟩,fun h=>absurd rfl h,oM,Hp.none,oM⟩
def E4(t:Bs)(b:Bool)(ln:Nat)(c:Cd):Prop:=
 match b with
 |false=>E5 (Bw [] t).2 (Bw [] t).1=(BD,250,(ln:Int))
 |true=>Hp c ln/\ln<=t.length/\E5 (Bw [] t).2 (Bw [] t).1=if(AH c).1≠0 then(BD,160,CV (ln:Int) c (AH c).2)else(c,0,0)
theorem F9.open{t:Bs}{ln st:Nat}{c c':Cd}{s:Bs}(h:F9 t ln st c s)(hs:∀b∈s,b≠10):E4 t false (ln+1) c':=by
 obtain⟨ls,h1,h2,h3,h4⟩:=h.text;have hc:=JG s [] hs;rw[List.nil_append]at hc;rw[hc,List.append_nil]at h1;rw[hc]at h2;show E5 _ _=_;rw[h1,h2];by_cases h0:ln=0
 .have:ls=[]:=List.length_eq_zero_iff.1 oM;rw[this,h0];rfl
 .obtain⟨d,rfl,hd⟩:=h4 h0;have hl:=h.left h0;show(if B5≠B5 then(BD,250,1)else NY d s (FA (0,BD) 2 d))=_;rw[if_neg (fun e=>e rfl),hd];show(if s≠[] then(BD,250,(d.length:Int)+2)else _)=_;rw[if_pos hl];rw[List.length_cons]at h3;rw[show((ln+1:Nat):Int)=(d.length:Int)+2 by omega]
theorem F9.split{t:Bs}{ln st:Nat}{c:Cd}{x y:Bs}(h:F9 t ln st c (x++10::y))(hx:∀b∈x,b≠10):∃ls,(Bw [] t).1=(ls++[x])++(Bw [] y).1/\(Bw [] t).2=(Bw [] y).2/\ls.length=ln/\(ln≠0->∃d,ls=B5::d/\FA (0,BD) 2 d=.ok (st,c)):=by
 obtain⟨ls,h1,h2,h3,h4⟩:=h.text;have hc:=IQ x [] y (fun b hb=>Vx (hx b hb));rw[List.nil_append]at hc;rw[hc]at h1 h2;exact⟨ls,by rw[h1];simp,h2,h3,h4⟩
theorem F9.head{t:Bs}{st:Nat}{c c':Cd}{x y:Bs}(h:F9 t 0 st c (x++10::y))(hx:∀b∈x,b≠10)(hb:x≠B5):E4 t false 1 c':=by
 obtain⟨ls,h1,h2,h3,h4⟩:=h.split hx;have:ls=[]:=List.length_eq_zero_iff.1 h3;subst this;show E5 _ _=_;rw[h1,List.nil_append,List.singleton_append];show(if x≠B5 then(BD,250,1)else _)=_;rw[if_pos hb];rfl
theorem F9.wrong{t:Bs}{ln st:Nat}{c c':Cd}{x y:Bs}(h:F9 t ln st c (x++10::y))(hx:∀b∈x,b≠10)(h0:ln≠0)(hb:AD (st,c) (Aj [] x)=none):E4 t false (ln+1) c':=by
 obtain⟨ls,h1,h2,h3,h4⟩:=h.split hx;obtain⟨d,rfl,hd⟩:=h4 h0;show E5 _ _=_;rw[h1];show(if B5≠B5 then(BD,250,1)else NY (d++[x]++(Bw [] y).1) (Bw [] t).2 (FA (0,BD) 2 (d++[x]++(Bw [] y).1)))=_;rw[if_neg (fun e=>e rfl),List.append_assoc,FH d _ _ _ _ hd];have:FA (st,c) (2+d.length) ([x]++(Bw [] y).1)=.error (2+d.length):=by
  show(match AD (st,c) (Aj [] x)with |some s'=>FA s' (2+d.length+1) (Bw [] y).1|none=>.error (2+d.length))=_;rw[hb]
 rw[this];rw[List.length_cons]at h3;show(BD,(250:Int),((2+d.length:Nat):Int))=_;rw[show((2+d.length:Nat):Int)=((ln+1:Nat):Int) by omega]
theorem F9.first{t:Bs}{st:Nat}{c:Cd}{y:Bs}(h:F9 t 0 st c (B5++10::y))(hy:y≠[]):F9 t 1 st c y:=by
 obtain⟨ls,h1,h2,h3,h4⟩:=h.split dE;have:ls=[]:=List.length_eq_zero_iff.1 h3;subst this;obtain⟨rfl,rfl⟩:=h.zero rfl;have hsz:=h.size;simp only[List.length_append,List.length_cons]at hsz;exact⟨⟨[B5],h1,h2,rfl,fun _=>⟨[],rfl,rfl⟩⟩,fun e=>by omega,fun _=>hy,oM,⟨by have:=h.ok.len;omega,h.ok.sign,h.ok.slots,h.ok.list⟩,h.sort⟩
theorem F9.firstEnd{t:Bs}{st:Nat}{c:Cd}(h:F9 t 0 st c (B5++10::[])):E4 t true 1 c:=by
 obtain⟨ls,h1,h2,h3,h4⟩:=h.split dE;have:ls=[]:=List.length_eq_zero_iff.1 h3;subst this;obtain⟨rfl,rfl⟩:=h.zero rfl;have hsz:=h.size;simp only[List.length_append,List.length_cons]at hsz;refine⟨⟨by have:=h.ok.len;omega,h.ok.sign,h.ok.slots,h.ok.list⟩,oM,?_⟩;rw[h1,h2];rfl
theorem OU{st:Nat}{c:Cd}(hs:st<=3){ws:List Bs}{s':Nat×Cd}(h:AD (st,c) ws=some s'):¬Az ws<st/\s'.1=Az ws/\Cl c ws=some s'.2:=by
 rw[FZ st c hs]at h;by_cases q:Az ws<st
 .rw[if_pos q]at h;cases h
 .rw[if_neg q]at h;obtain⟨c',hc,rfl⟩:=Option.map_eq_some_iff.1 h;exact⟨q,rfl,hc⟩
theorem Ns(ws:List Bs):Az ws<=3:=by
 unfold Az;split
 .decide
 split
 .decide
 split
 .decide
 .decide
theorem F9.more{t:Bs}{ln st:Nat}{c:Cd}{x y:Bs}{s':Nat×Cd}(h:F9 t ln st c (x++10::y))(hx:∀b∈x,b≠10)(h0:ln≠0)(hb:AD (st,c) (Aj [] x)=some s'):
 ∃d,(Bw [] t).1=(B5::(d++[x]))++(Bw [] y).1/\(Bw [] t).2=(Bw [] y).2/\d.length+1=ln/\FA (0,BD) 2 (d++[x])=.ok s'/\Hp s'.2 (ln+1)/\s'.1<=3:=by
 obtain⟨ls,h1,h2,h3,h4⟩:=h.split hx;obtain⟨d,rfl,hd⟩:=h4 h0;obtain⟨g1,g2,g3⟩:=OU h.sort hb;refine⟨d,by rw[h1];rfl,h2,by rw[<-h3];rfl,?_,Tm h.ok g3,by rw[g2];exact Ns _⟩;rw[FH d _ _ _ _ hd];show(match AD (st,c) (Aj [] x)with |some s'=>FA s' (2+d.length+1) [] |none=>.error (2+d.length))=_;rw[hb];rfl
theorem F9.next{t:Bs}{ln st:Nat}{c:Cd}{x y:Bs}{s':Nat×Cd}(h:F9 t ln st c (x++10::y))(hx:∀b∈x,b≠10)(h0:ln≠0)(hb:AD (st,c) (Aj [] x)=some s')(hy:y≠[]):F9 t (ln+1) s'.1 s'.2 y:=by
 obtain⟨d,h1,h2,h3,h4,h5,h6⟩:=h.more hx h0 hb;have hsz:=h.size;simp only[List.length_append,List.length_cons]at hsz;exact⟨⟨_,h1,h2,sO,fun _=>⟨_,rfl,h4⟩⟩,fun e=>by omega,fun _=>hy,oM,h5,h6⟩
theorem F9.last{t:Bs}{ln st:Nat}{c:Cd}{x:Bs}{s':Nat×Cd}(h:F9 t ln st c (x++10::[]))(hx:∀b∈x,b≠10)(h0:ln≠0)(hb:AD (st,c) (Aj [] x)=some s'):E4 t true (ln+1) s'.2:=by
 obtain⟨d,h1,h2,h3,h4,h5,h6⟩:=h.more hx h0 hb;have hsz:=h.size;simp only[List.length_append,List.length_cons]at hsz;refine⟨h5,oM,?_⟩;rw[h1,h2];show(if B5≠B5 then(BD,250,1)else NY (d++[x]++[]) [] (FA (0,BD) 2 (d++[x]++[])))=_;rw[if_neg (fun e=>e rfl),List.append_nil,h4];show(if([]:Bs)≠[] then(BD,(250:Int),((d++[x]).length:Int)+2)else if(AH s'.2).1≠0 then(BD,160,CV (((d++[x]).length:Int)+1) s'.2 (AH s'.2).2)else(s'.2,0,0))=_;rw[if_neg (fun e=>e rfl),show(((d++[x]).length:Int)+1)=((ln+1:Nat):Int) by simp;omega]
theorem I0(op:Nat)(w:World):
 Calls prog 85 #[.int .i64 (op:Int)] w fun e w'=>e=.returned (.bool (EY op))/\w'=w:=by
 by_cases q:op=2\/op=29\/op=30\/op=31\/op=32\/op=33\/op=36
 .have HT:Hid (EY op=true):=by show EY op=_;unfold EY;simp[q]
  rw[HT.out];clear HT;rcases q with rfl|rfl|rfl|rfl|rfl|rfl|rfl
  all_goals
   exact Yd
 .have HT:Hid (EY op=false):=by show EY op=_;unfold EY;simp[q]
  rw[HT.out];have a1:((op:Int)==2)=false:=sO;have a2:((op:Int)==29)=false:=sO;have a3:((op:Int)==30)=false:=sO;have a4:((op:Int)==31)=false:=sO;have a5:((op:Int)==32)=false:=sO;have a6:((op:Int)==33)=false:=sO;have a7:((op:Int)==36)=false:=sO;clear HT q;exact Yd
theorem HY(op:Nat)(w:World):
 Calls prog 86 #[.int .i64 (op:Int)] w fun e w'=>e=.returned (.bool (decide (op=1)))/\w'=w:=by
 have e1:((op:Int)==1)=decide (op=1):=by
  by_cases q:op=1
  .subst q;rfl
  .simp[q];omega
 go_enter func86,ntmps86;go_wp2;refine bodyPost_ret (by simp[results,results86,go_sem, *];try rfl) rfl ?_;exact⟨by first|rfl|rw[<-e1],rfl⟩
def Di(LB:Nat)(os:List Nat):List Value:=os.map fun o=>.pointer (some ⟨LB,o,none⟩)
theorem Ql(LB:Nat)(a b:List Nat):Di LB (a++b)=Di LB a++Di LB b:=by simp[Di]
theorem O5:(prog.info? 143).map (fun i=>(i.zero,i.size,i.bytes))=some (some (.pointer none),1,8):=kR
theorem JD{E LB:Nat}{V:World}{p:Option Addr}{q:Nat}{os:List Nat}(h:V.ownsRow E 143 1 (.slice p os.length q) os.length (Di LB os))(hE:E<=V.heap.size){RB d:Nat}(ns:List Nat)(hn:∀j (hj:j<ns.length),V.cell? ⟨RB,j,none⟩=some (.pointer (some ⟨LB,ns[j],none⟩)))(hl:os.length+ns.length<=1000000)(ty:TypeId):
 ∃p' q' w',(Builtin.append_ #[141,141] ty #[.slice p os.length q,.slice (some ⟨RB,0,none⟩) ns.length d]).run prog V=.ok (.slice p' (os.length+ns.length) q') w'/\w'.ownsRow E 143 1 (.slice p' (os++ns).length q') (os++ns).length (Di LB (os++ns))/\Below E V w':=by
 obtain⟨i0,hi0,hz0,hz1,hz2⟩:=info_parts O5;obtain⟨v',w',hr,h2,h3,-,-⟩:=run_append_own_at (P:=prog) V E 141 ty 143 i0 _ 1 8 underlying141 hi0 hz0 hz1 hz2 rfl dE (.slice p os.length q) os.length (Di LB os) h ⟨RB,0,none⟩ ns.length d (Di LB ns) (by simp[Di]) (fun j u hu=>by
  have hj:j<ns.length:=by have:=(List.getElem?_eq_some_iff.1 hu).1;simpa[Di]using this
  have hadd:(⟨RB,0,none⟩:Addr).add j=⟨RB,j,none⟩:=by unfold Addr.add;split<;>simp_all
  rw[hadd,hn j hj]
  simpa[Di,hj]using hu) (by simp[Di,Value.oneCell']) mL oM hE
 obtain⟨p',q',rfl⟩:=Ac h2;refine⟨p',q',w',hr,?_,(Below.refl E V).grown h3 hE (fun b e=>(h.lt b e).1)⟩;rw[List.length_append,Ql];exact h2
theorem NH{E LB:Nat}{V:World}{p:Option Addr}{q:Nat}{os:List Nat}(h:V.ownsRow E 143 1 (.slice p os.length q) os.length (Di LB os))(hE:E<=V.heap.size)(o:Nat)(hl:os.length+1<=1000000)(ty:TypeId):
 ∃p' q' w',(Builtin.append_ #[141,141] ty #[.slice p os.length q,.slice (some ⟨V.heap.size,0,none⟩) 1 1]).run prog (V.alloc (.cells #[.pointer (some ⟨LB,o,none⟩)] 143))=.ok (.slice p' (os.length+1) q') w'/\w'.ownsRow E 143 1 (.slice p' (os++[o]).length q') (os++[o]).length (Di LB (os++[o]))/\Below E V w':=by
 have hb0:Below V.heap.size V (V.alloc (.cells #[.pointer (some ⟨LB,o,none⟩)] 143)):=A2 _ _;obtain⟨p',q',w',h1,h2,h3⟩:=JD (LB:=LB) (Ag h hb0) (gH hE hb0.size) (RB:=V.heap.size) (d:=1) [o] (fun j hj=>by
  have:j=0:=by simp only[List.length_cons,List.length_nil]at hj;omega
  subst this
  simp[go_sem]) hl ty
 exact⟨p',q',w',h1,h2,(hb0.mono hE).trans h3⟩
theorem Ox(i:Ax):(Ay i (A5 i.op)).length<=3:=by
 rw[Eg];have h1:=DE (A5 i.op).a i.a;have h2:=DE (A5 i.op).b i.b;have h3:=DE (A5 i.op).c i.c;simp only[List.length_append];omega
theorem H0(X:Nat)(i:Ax)(h1:0<=i.op)(w:World)(hc:Aq w X 0 (CJ i)):
 Calls prog 83 #[.pointer (some ⟨X,0,none⟩)] w fun e w'=>∃q d,e=.returned (.slice q (Dl i).length d)/\w'.ownsRow w.heap.size 143 1 (.slice q (Dl i).length d) (Dl i).length (Di X (Dl i))/\Below w.heap.size w w':=by
 obtain⟨E,hE⟩:=gA (w.heap.size)
 have HE:=A3 hE;simp only[hE];have HRL:=A3 (Ox i);obtain⟨F,hF⟩:=gA (Dl i)
 rw[hF];have HF:Hid ((if(A5 i.op).d != 0 then [1]else [])++[2,3,4].take (Ay i (A5 i.op)).length=F):=hF;clear hF;obtain⟨op,d,a,b,e,n,z⟩:=i;simp only at h1 HRL HF;obtain⟨O,hO⟩:∃O:Nat,op=(O:Int):=⟨op.toNat,oM⟩
 subst hO;have HYY:Hid (∀v,Below E w v->v.cell? ⟨X,0,none⟩=some (.int .i64 (O:Int))/\v.cell? ⟨X,1,none⟩=some (.int .i64 d)/\v.cell? ⟨X,2,none⟩=some (.int .i64 a)/\v.cell? ⟨X,3,none⟩=some (.int .i64 b)/\v.cell? ⟨X,4,none⟩=some (.int .i64 e)/\v.cell? ⟨X,5,none⟩=some (.int .i64 n)/\v.cell? ⟨X,6,none⟩=some (.int .u32 z)):=fun v hv=>by
  rw[<-hE]at hv;have g:∀k x,(CJ ⟨(O:Int),d,a,b,e,n,z⟩)[k]? =some x->v.cell? ⟨X,k,none⟩=some x:=fun k x hx=>by
   have h9:=hc.at k hx;rw[Nat.zero_add]at h9;exact kc hv h9
  exact⟨g 0 _ rfl,g 1 _ rfl,g 2 _ rfl,g 3 _ rfl,g 4 _ rfl,g 5 _ rfl,g 6 _ rfl⟩
 obtain⟨y0,y1,y2,y3,y4,y5,y6⟩:=HYY.out w (Below.refl _ _);have KS:=A3 (fun v=>Rm ⟨(O:Int),d,a,b,e,n,z⟩ v);have KR:=A3 (fun v=>Ov ⟨(O:Int),d,a,b,e,n,z⟩ v);unfold Cg at KS KR;simp only at KS KR;obtain⟨rs,hrs⟩:=gA (Ay (⟨(O:Int),d,a,b,e,n,z⟩:Ax) (A5 (O:Int)))
 simp only[hrs]at KR HRL HF;obtain⟨sb,hsb⟩:=gA (((A5 (O:Int)).d != 0))
 simp only[hsb]at KS HF;obtain⟨P1,hP1⟩:∃P,(if sb=true then [1]else []:List Nat)=P:=⟨_,rfl⟩
 have HP1L:Hid (P1.length<=1):=by rw[<-hP1];show _<=_;split<;>simp
 have HP1:=A3 hP1;rw[hP1]at HF;obtain⟨P2,hP2⟩:∃P,P1++[2,3,4].take rs.length=P:=⟨_,rfl⟩
 have HP2:=A3 hP2;rw[hP2]at HF;have HP2L:Hid (P2.length<=4):=by
  rw[<-hP2,List.length_append,List.length_take];have:=HP1L.out;show _<=_;simp only[List.length_cons,List.length_nil];omega
 have HEW:Hid (E<=w.heap.size):=by rw[hE];exact gF _
 clear hc hE hrs hsb hP1 hP2 h1;go_enter func83,ntmps83;go_upto_if 8 with(go_at_call 121;(with_reducible refine(KS.out _).mono ?_);rintro e9 w4 ⟨rfl,hb4⟩;have HB4:Hid (Below E w w4):=(by have h9:=hb4;rw[HE.out]at h9;exact h9);clear hb4)
 go_cut [3] (fun lv wx=>∃ (q:Option Addr) (d':Nat),lv=.slice q P1.length d'/\Hid (Below E w wx/\E<=wx.heap.size/\wx.ownsRow E 143 1 (.slice q P1.length d') P1.length (Di X P1)))
 case first=>
  cases sb with
  |false=>
   obtain rfl:[]=P1:=HP1.out;go_wp2;go_meet;exact⟨none,0,rfl,HB4.out,gH HEW.out HB4.size,World.ownsRow_nil _ _ _ 1⟩
  |true=>
   obtain rfl:[1]=P1:=HP1.out;obtain⟨p',q',w5,r1,r2,r3⟩:=NH (E:=E) (LB:=X) (V:=w4) (p:=none) (q:=0) (os:=[]) (World.ownsRow_nil _ _ _ 1) (gH HEW.out HB4.size) 1 dE 141;have HR1:=A3 r1;have HR2:=A3 r2;have HR3:=A3 r3;clear r1 r2 r3;go_wp2_with(at_builtin;refine Bl rF _ _ _ rF _ _ _ rF rF HR1.out ?_);go_meet;exact⟨p',q',rfl,HB4.trans HR3.out,gH (gH HEW.out HB4.size) HR3.size,HR2.out⟩
 case rest=>
  obtain⟨q5,d5,rfl,HC5⟩:=hcut;obtain⟨hb5,hE5,ho5⟩:=HC5.out;have HB5:=A3 hb5;have HE5:=A3 hE5;have HO5:=A3 ho5;obtain⟨u0,-⟩:=HYY.out wc hb5;have lLB:X<wc.heap.size:=Ad u0;have nLB:¬X=wc.heap.size:=oM;have k0:∀o,(wc.alloc o).cell? ⟨X,0,none⟩=some (.int .i64 (O:Int)):=fun o=>kc (A2 _ _) u0;clear HC5 hb5 hE5 ho5 y0 y1 y2 y3 y4 y5 y6 KS HB4;go_upto_region 4 with fail;refine rG (fun v=>v.cell? ⟨X,0,none⟩=some (.int .i64 (O:Int))) fun yH=>?_;refine Tf 0 1 2 3 4 5 ?_;refine Tc 6 7 8 ?_;refine Bn 9 ?_;clear yH;refine Aw 10 fun K hK=>?_;go_simp;refine AU hK fun yH=>?_;clear hK K;clear yH;refine Aw 11 fun K hK=>?_;go_simp;refine AU hK fun yH=>?_;clear hK K;refine wpAnyH_done kR ?_ _;obtain⟨W6,hW6⟩:∃W,(wc.alloc (.cells #[.pointer (some ⟨X,2,none⟩),.pointer (some ⟨X,3,none⟩),.pointer (some ⟨X,4,none⟩)] 172)).drew=W:=⟨_,rfl⟩
  rw[hW6];have HB6:Hid (Below wc.heap.size wc W6):=by rw[<-hW6];exact bel (A2 _ _) (Below.refl _ _).drew
  have HX6:Hid (∀k (hk:k<3),W6.cell? ⟨wc.heap.size,k,none⟩=some (.pointer (some ⟨X,[2,3,4][k],none⟩))):=fun k hk=>by
   rw[<-hW6];rcases(show k=0\/k=1\/k=2 by omega)with rfl|rfl|rfl<;>simp[go_sem]
  have HBW:Hid (Below E w W6):=HB5.trans (HB6.mono HE5.out);obtain⟨y0,y1,y2,y3,y4,y5,y6⟩:=HYY.out W6 HBW.out;obtain⟨m,hm⟩:=gA (rs.length)
  have HNS:Hid (([2,3,4].take rs.length).length=m):=by show _=_;have:=HRL.out;rw[List.length_take];simp only[List.length_cons,List.length_nil];omega
  have HMM:Hid (m<=3):=by rw[<-hm];exact HRL.out
  have m3:(m:Int)<=3:=by have:=HMM.out;omega
  have m4:m<=3:=HMM.out;have m5:(0:Int)<=(m:Int):=oM;simp only[hm]at KR;clear hW6 hm u0 k0;go_upto_region 5 with fail;go_wp2_with(first
   |(go_at_call 122;(with_reducible refine(KR.out _).mono ?_);rintro e9 w7 ⟨v7,rfl,ho7,hb7⟩;obtain⟨p7,q7,rfl⟩:=Ac ho7;have HB7:=A3 hb7;obtain⟨p',q',w8,r1,r2,r3⟩:=JD (LB:=X) (RB:=wc.heap.size) (d:=3) (Ag HO5.out (bel HB6.out HB7.out)) (gH HE5.out (bel HB6.out HB7.out).size) ([2,3,4].take rs.length) (fun k hk=>by
    have h9:k<3:=by have:=HNS.out;have:=HMM.out;omega
    rw[List.getElem_take]
    exact kc HB7.out (HX6.out k h9)) (by have:=HNS.out;have:=HMM.out;have:=HP1L.out;omega) 141;rw[HP2.out]at r2;rw[HNS.out]at r1;have HR1:=A3 r1;have HR2:=A3 r2;have HR3:=A3 r3;clear r1 r2 r3 ho7 hb7)
   |(at_builtin;refine Bl rF _ _ _ rF _ _ _ rF rF HR1.out ?_))
  have HBX:Hid (Below E w w8):=(HBW.trans (HB7.mono (gH HE5.out HB6.size))).trans HR3.out;have hpl:P1.length+m=P2.length:=by rw[<-HP2.out,List.length_append,HNS.out]
  have HFF:Hid (F=P2):=HF.symm;have HPL:=A3 hpl;clear hpl;refine bodyPost_ret (by simp[results,results83,go_sem, *];try rfl) rfl ?_;rw[HFF.out];exact⟨_,_,by rw[HPL.out],HR2.out,HBX.out⟩
def GN(i:Ax)(j:Nat):Value:=if j=0 then .int .i64 i.op else if j=1 then .int .i64 i.d else if j=2 then .int .i64 i.a else if j=3 then .int .i64 i.b else if j=4 then .int .i64 i.c else if j=5 then .int .i64 i.n else .int .u32 i.bits
theorem PE(i:Ax){o:Nat}(h1:1<=o)(h2:o<=4)(v:Int)(j:Nat)(hj:j<7):(if j=o then Value.int .i64 v else GN i j)=GN (D2 i o v) j:=by
 rcases(show o=1\/o=2\/o=3\/o=4 by omega)with rfl|rfl|rfl|rfl<;>rcases(show j=0\/j=1\/j=2\/j=3\/j=4\/j=5\/j=6 by omega)with rfl|rfl|rfl|rfl|rfl|rfl|rfl<;>rfl
theorem Vt(i:Ax)(v:Int)(j:Nat)(hj:j<7):(if j=5 then Value.int .i64 v else GN i j)=GN {i with n:=v} j:=by
 exact RQ
theorem PD(i:Ax)(v:Int)(j:Nat)(hj:j<7):(if j=6 then Value.int .u32 v else GN i j)=GN {i with bits:=v} j:=by
 exact RQ
theorem Ic{w:World}{X:Nat}{i:Ax}(h:w.rowIs X 39 7 (GN i)):Aq w X 0 (CJ i):=fun j hj=>by
 have hj':j<7:=hj;have h9:=h.cell hj';rw[Nat.zero_add,h9];exact RQ
theorem Um{w:World}{X:Nat}{i:Ax}(h:w.rowIs X 39 7 (GN i)){o:Nat}(h1:1<=o)(h2:o<=4):∃v,w.cell? ⟨X,o,none⟩=some (.int .i64 v):=by
 have h9:=h.cell (i:=o) oM;rcases(show o=1\/o=2\/o=3\/o=4 by omega)with rfl|rfl|rfl|rfl<;>exact⟨_,h9⟩
theorem Ca{w:World}{X:Nat}{i:Ax}(h:w.rowIs X 39 7 (GN i)):w.cell? ⟨X,0,none⟩=some (.int .i64 i.op)/\w.cell? ⟨X,1,none⟩=some (.int .i64 i.d)/\w.cell? ⟨X,2,none⟩=some (.int .i64 i.a)/\w.cell? ⟨X,3,none⟩=some (.int .i64 i.b)/\w.cell? ⟨X,4,none⟩=some (.int .i64 i.c)/\w.cell? ⟨X,5,none⟩=some (.int .i64 i.n)/\w.cell? ⟨X,6,none⟩=some (.int .u32 i.bits):=
 ⟨h.cell (i:=0) dE,h.cell (i:=1) dE,h.cell (i:=2) dE,h.cell (i:=3) dE,h.cell (i:=4) dE,h.cell (i:=5) dE,h.cell (i:=6) dE⟩
theorem Qx{i:Ax}:∀o∈Dl i,1<=o/\o<=4:=fun o ho=>by
 unfold Dl at ho;rcases List.mem_append.1 ho with ho|ho
 .split at ho<;>simp at ho;omega
 .have:=List.mem_of_mem_take ho;simp at this;omega
theorem Jh(i:Ax):(Dl i).length<=4:=by
 unfold Dl;rw[List.length_append];have h1:(if(A5 i.op).d != 0 then [1]else []:List Nat).length<=1:=by split<;>simp
 have h2:([2,3,4].take (Ay i (A5 i.op)).length).length<=3:=by rw[List.length_take];simp;omega
 omega
theorem PP{L:List Bs}{n:Nat}{s:Bs}(h:0<n):(As L n s).getD 0<n:=by
 cases e:As L n s with
 |none=>exact h
 |some j=>exact(EX e).1
theorem Cq.lenI{E B m0 m1 m2 m3 m4:Nat}{w:World}{c:Cd}{ln st:Int}{u0 u1 u2 u3:Value}(h:Cq E B m0 m1 m2 m3 m4 w c ln st u0 u1 u2 u3):∃p q,u3=.slice p c.list.length q:=Ac h.own.list
theorem OG(E B WB m0 m1 m2 m3 m4:Nat)(c:Cd)(ln st:Int)(u0 u1 u2 u3:Value)(ws:List Bs)(w:World)(hL:BF E w)(hE:E<=WB)(h:Cq E B m0 m1 m2 m3 m4 w c ln st u0 u1 u2 u3)(hw:CD WB ws false w)(hl:c.list.length<=4194304):
 Calls prog 51 #[.pointer (some ⟨B,0,none⟩),.pointer (some ⟨WB,0,none⟩)] w (Mh E B WB m0 m1 m2 m3 m4 ln st ((B3 ws).map fun i=>⟨c.sign,c.regs,c.slots,c.list++[i]⟩) w):=by
 obtain⟨N,hN⟩:=gA (c.list.length)
 obtain⟨p1,q1,hu1⟩:=h.lenI;rw[hN]at hu1;have HN:=A3 (And.intro hN hu1);have HLn:=A3 hl;have HX:=A3 (And.intro hE (And.intro hL h));have HW:=A3 hw;obtain⟨T9,-,-,hrow9⟩:=hw.row;have HROW0:=A3 hrow9;have v10:w.cell? ⟨B,10,none⟩=some (.map (some m4)):=h.row.cell (i:=10) dE;obtain⟨O,hO⟩:=gA ((As Dy 38 (Ab ws).1).getD 0)
 have HOO:=A3 hO;have HO38:Hid (O<38):=by rw[<-hO];exact PP dE
 have KM:=Ey WB m4 ws false (As Dy 38) w hL.laid hw h.maps.ops.1;rw[hO]at KM;have HKM:=A3 KM;clear hN hu1 hl hE hL h hw hrow9 hO KM;go_enter func51,ntmps51;go_upto_region 1 with(go_at_call 78;(with_reducible refine HKM.out.mono ?_);rintro e w4 ⟨rfl,h4,k4⟩;have H4:=A3 (And.intro h4 k4);clear h4 k4;clear v10)
 obtain⟨X,hX⟩:=gA (w4.heap.size)
 obtain⟨V4,hV4⟩:∃V,w4.alloc (.cells #[.int .i64 (O:Int),.int .i64 0,.int .i64 0,.int .i64 0,.int .i64 0,.int .i64 0,.int .u32 0] 39)=V:=⟨_,rfl⟩
 have hb:Below w4.heap.size w4 V4:=by rw[<-hV4];exact A2 _ _
 have hr4:V4.rowIs X 39 7 (GN (Ai O)):=by
  rw[<-hV4,<-hX];exact World.rowIs_alloc w4 #[.int .i64 (O:Int),.int .i64 0,.int .i64 0,.int .i64 0,.int .i64 0,.int .i64 0,.int .u32 0] 39 _ (fun i hi=>by
   rcases(show i=0\/i=1\/i=2\/i=3\/i=4\/i=5\/i=6 by have:i<7:=hi;omega)with rfl|rfl|rfl|rfl|rfl|rfl|rfl<;>rfl)
 have HO4:Hid (BS WB w V4):=H4.2.trans (BS.of hb);have HW4:=A3 (H4.1.below hb);have l4:=H4.2.size;have lW:=HW.lt;have HXW:Hid (w.heap.size<=X/\WB<X/\X≠WB):=by refine⟨?_,?_,?_⟩<;>omega
 have HR4:=A3 hr4;have KF:=H0 X (Ai O) (by show(0:Int)<=(O:Int);omega) V4 (Ic hr4);obtain⟨ws0,hws0⟩:∃r,(Ab ws).2=r:=⟨_,rfl⟩
 obtain⟨bad,hbad⟩:∃r,(false|| !(As Dy 38 (Ab ws).1).isSome)=r:=⟨_,rfl⟩
 rw[hws0,hbad]at HW4;have HWS:=A3 (And.intro hws0 hbad);obtain⟨F,hF⟩:=gA (Dl (Ai O))
 rw[hF]at KF;have HFI:Hid ((∀o∈F,1<=o/\o<=4)/\Dl (Ai O)=F):=by rw[<-hF];exact⟨Qx,rfl⟩
 have hF4:F.length<=4:=by rw[<-hF];exact Jh _
 obtain⟨NF,hNF⟩:∃N,F.length=N:=⟨_,rfl⟩
 rw[hNF]at KF hF4;have HNF:=A3 hNF;have KF':=A3 KF;try rw[hV4]
 try rw[hX]
 clear hX hV4 hb hr4 l4 lW KF hF hNF hws0 hbad;go_upto_block 0 with(go_at_call 83;(with_reducible refine KF'.out.mono ?_);rintro e9 w5 ⟨q5,d5,rfl,ho5,hb5⟩;have HB5:=A3 hb5;have HF5:=A3 ho5;clear hb5 ho5)
 have HPC:Hid (∀ (u:World),(∀b,V4.heap.size<=b->b<w5.heap.size->u.heap[b]? =w5.heap[b]?)->∀j (hj:j<F.length),∃gb,q5=some ⟨gb,0,none⟩/\u.cell? ⟨gb,j,none⟩=some (.pointer (some ⟨X,F[j],none⟩))):=fun u hu j hj=>by
  have hF5:=HF5.out;rcases hF5.2 with⟨e1,e2⟩|⟨gb,cap,cur,e1,-,-⟩
  .exact absurd e2 (by have:=HNF.out;omega)
  .simp only[Value.slice.injEq]at e1;have hq:q5=some ⟨gb,0,none⟩:=e1.1;have hob:(Value.slice q5 NF d5).ownBlock=some gb:=by rw[hq];rfl
   have hlt:=hF5.lt gb hob;have hc:=hF5.cells hob j (.pointer (some ⟨X,F[j],none⟩)) (by simp[Di,hj]);have hadd:(⟨gb,0,none⟩:Addr).add j=⟨gb,j,none⟩:=by unfold Addr.add;split<;>simp_all
   rw[hadd]at hc;exact⟨gb,hq,(gC (hu gb hlt.1 hlt.2) (a:=⟨gb,j,none⟩)).trans hc⟩
 have HST:Hid (BS WB w w5/\CD WB ws0 bad w5/\w5.rowIs X 39 7 (GN (Ai O))):=⟨HO4.trans (BS.of HB5.out),HW4.below HB5.out,HR4.of_block (HB5.block _ HR4.lt)⟩
 have HRV:Hid (X<V4.heap.size/\V4.heap.size<=w5.heap.size):=⟨HR4.lt,HB5.size⟩
 clear HB5 HF5 HR4 KF' HW4 HO4;go_wp2_with fail
 go_loopw [16] (fun iv wx=>∃ (j:Nat) (i:Ax) (ws':List Bs) (b':Bool),j<=NF/\iv=.int .i64 (j:Int)/\Hid (GC F (Ai O) ws0 bad j i ws' b'/\BS WB w wx/\CD WB ws' b' wx/\wx.rowIs X 39 7 (GN i)/\(∀b,V4.heap.size<=b->b<w5.heap.size->wx.heap[b]? =w5.heap[b]?)/\w5.heap.size<=wx.heap.size)) (fun iv _=>NF-(intOf iv).toNat)
 case atStart=>exact⟨0,Ai O,ws0,bad,gJ _,rfl,GC.start _ _ _ _,HST.1,HST.2.1,HST.2.2,fun _ _ _=>rfl,gF _⟩
 case round=>
  clear HST;obtain⟨j,i,ws1,b1,hj,rfl,HJ⟩:=hrel;obtain⟨j0,j1,j2,j3,j4,j5⟩:=HJ.out;by_cases hlt:j<NF
  .have hjl:j<F.length:=by have:=HNF.out;omega
   have e1:(j:Int)<(NF:Int):=oM;have i1:(0:Int)<=(j:Int):=oM;obtain⟨gb,rfl,hgc⟩:=HPC.out wr j4 j hjl;obtain⟨ho1,ho2⟩:=HFI.1 F[j] (gD hjl);obtain⟨o,hoe⟩:=gA (F[j])
   have HOE:=A3 hoe;rw[hoe]at hgc ho1 ho2;have KN:=A3 (RE E WB ws1 b1 wr (HX.2.1.ofB HX.1 j1) HX.1 j2);have HG:Hid (∀ (n:Int) (w':World),BS WB wr w'->w'.rowIs X 39 7 (GN i)/\(∀b,V4.heap.size<=b->b<w5.heap.size->w'.heap[b]? =w5.heap[b]?)/\w5.heap.size<=w'.heap.size/\BS WB w w'):=fun n w' k=>⟨j3.of_block (k.oth _ j3.lt HXW.2.2),fun x h1 h2=>(k.oth x oM (by have:=HXW.2.1;have:=HRV.1;omega)).trans (j4 x h1 h2),gH j5 k.size,j1.trans k⟩
   have HI:=A3 j0;have wi:IntKind.i64.wrap ((j:Int)+1)=((j+1:Nat):Int):=by rw[IntKind.wrap_i64];omega
   clear j0 j1 j2 j3 j4 j5 HJ hoe HPC;go_wp2_with(go_at_call 84;(with_reducible refine KN.out.mono ?_);rintro e9 w7 ⟨n,rfl,hm,h7,k7⟩;obtain⟨z7,u7,s7,o7⟩:=HG.out n _ k7;have H7:=A3 (And.intro h7 hm);have HO7:=A3 o7;obtain⟨vo,y7⟩:=Um z7 ho1 ho2;have f7:=z7.frozen o;have pz:Hid (AA X w7 (w7.setCell ⟨X,o,none⟩ (.int .i64 n))):=AA.one X o w7 (.int .i64 n);have HZ7:Hid ((w7.setCell ⟨X,o,none⟩ (.int .i64 n)).rowIs X 39 7 (GN (D2 i o n))):=(z7.set o (.int .i64 n)).congr (PE i ho1 ho2 n);have HU7:Hid ((∀b,V4.heap.size<=b->b<w5.heap.size->(w7.setCell ⟨X,o,none⟩ (.int .i64 n)).heap[b]? =w5.heap[b]?)/\w5.heap.size<=(w7.setCell ⟨X,o,none⟩ (.int .i64 n)).heap.size):=⟨fun b h1 h2=>(gE (by show b≠X;have:=HRV.out.1;omega)).trans (u7 b h1 h2),by simpa using s7⟩;clear h7 k7 hm z7 u7 s7 o7);go_roundw
   case rel=>exact⟨j+1,D2 i o n,_,_,oM,gN,by rw[<-HOE.out];exact HI.step hjl H7.2,HO7.putN pz.out HXW.1,H7.1.putN pz.out (Ne.symm HXW.2.2),HZ7.out,HU7.1,HU7.2⟩
   case measure=>simp[intOf];omega
  .have e1:¬ (j:Int)<(NF:Int):=oM;have hjN:j=F.length:=by have:=HNF.out;omega
   have HIE:Hid (GC (Dl (Ai O)) (Ai O) (Ab ws).2 (false|| !(As Dy 38 (Ab ws).1).isSome) (Dl (Ai O)).length i ws1 b1):=by
    show GC _ _ _ _ _ _ _ _;rw[HWS.1,HWS.2,HFI.2,<-hjN];exact j0
   have HRS:=A3 j0.rest;have HRS:Hid (i.op=(O:Int)/\i.n=0/\i.bits=0):=HRS.out;have HL:=A3 (HX.2.1.ofB HX.1 j1);have HV0:=A3 (And.intro j1 (And.intro j2 j3));have HRW:=A3 j3;have KH:=A3 (fun v=>I0 O v);have KB:=A3 (fun v=>HY O v);obtain⟨iop,d,a,b,e,n,z⟩:=i;have hop:iop=(O:Int):=HRS.1;have hn0:n=0:=HRS.2.1;have hz0:z=0:=HRS.2.2;subst hop hn0 hz0;obtain⟨x0,x1,x2,x3,x4,x5,x6⟩:=Ca j3;clear hjN HJ HPC hlt j0 j1 j2 j3 j4 j5;cases hnb:EY O with
   |true=>
    have hO1:decide (O=1)=false:=by
     by_cases q:O=1
     .subst q;exact absurd hnb dE
     .simpa using q
    have HNB:=A3 hnb;rw[hnb]at KH;rw[hO1]at KB;clear hnb hO1;have KN:=A3 (Dq WB ws1 b1 wr HL.laid HV0.2.1 (fun v k=>(HL.ofB HX.1 k).laid));go_upto_region 8 with(first
     |(go_at_call 79;(with_reducible refine KN.out.mono ?_);rintro e9 w6 ⟨m,rfl,hm,h6,k6⟩;have H6:=A3 (And.intro h6 (And.intro k6 hm));clear h6 k6 hm;have y6:=HRW.out.of_block (H6.out.2.1.oth _ HRW.out.lt HXW.out.2.2);have HY6:=A3 y6;clear x0;obtain⟨x0,x1,x2,x3,x4,x5,x6⟩:=Ca y6;have f5:=y6.frozen 5;clear y6)
     |(go_at_call 85;(with_reducible refine(KH.out _).mono ?_);rintro e9 w7 ⟨rfl,hw7⟩;have hw8:=hw7.symm;subst hw8)
     |(go_at_call 86;(with_reducible refine(KB.out _).mono ?_);rintro e9 w7 ⟨rfl,hw7⟩;have hw8:=hw7.symm;subst hw8))
    obtain⟨V,hV⟩:=gA (w6.setCell ⟨X,5,none⟩ (.int .i64 m))
    have pz:AA X w6 V:=by rw[<-hV];exact AA.one X 5 w6 (.int .i64 m)
    have hz7:V.rowIs X 39 7 (GN ⟨(O:Int),d,a,b,e,m,0⟩):=by rw[<-hV];exact(HY6.set 5 (.int .i64 m)).congr (Vt _ m)
    have HV:Hid (BS WB w V/\CD WB (Ab ws1).2 (b1|| !(Af (Ab ws1).1).isSome) V/\V.rowIs X 39 7 (GN ⟨(O:Int),d,a,b,e,m,0⟩)):=⟨(HV0.1.trans H6.2.1).putN pz HXW.1,H6.1.putN pz (Ne.symm HXW.2.2),hz7⟩
    try rw[hV]
    clear x0 x1 x2 x3 x4 x5 x6 f5 pz hV hz7;obtain⟨x0,x1,x2,x3,x4,x5,x6⟩:=Ca HV.out.2.2;go_upto_region 10 with(go_at_call 86;(with_reducible refine(KB.out _).mono ?_);rintro e9 w7 ⟨rfl,hw7⟩;have hw8:=hw7.symm;subst hw8)
    clear x0 x1 x2 x3 x4 x5 x6;have hpd:=HV.2.2.of_block (w':=V.drew) rfl;obtain⟨x0,x1,x2,x3,x4,x5,x6⟩:=Ca hpd;have HOD:Hid (BS WB w V.drew):=HV.1.trans (BS.of (A4 V));have HWDd:Hid (CD WB ((Ab ws1).2) (b1|| !(Af (Ab ws1).1).isSome) V.drew):=HV.2.1.below (A4 V);have HRD:Hid (Cq E B m0 m1 m2 m3 m4 V.drew c ln st u0 u1 u2 u3):=HX.2.2.ofB HROW0.out HOD.out;have bx0:(V.drew.alloc (.cells #[.int .i64 (O:Int),.int .i64 d,.int .i64 a,.int .i64 b,.int .i64 e,.int .i64 m,.int .u32 0] 39)).cell? ⟨X,0,none⟩=some (.int .i64 (O:Int)):=kc (A2 _ _) x0;have HEND:Hid (CR ((B3 ws).map fun i=>⟨c.sign,c.regs,c.slots,c.list++[i]⟩) ⟨c.sign,c.regs,c.slots,c.list++[⟨(O:Int),d,a,b,e,m,0⟩]⟩ ((Ab ws1).2) (b1|| !(Af (Ab ws1).1).isSome)):=IY HOO.out HIE.out ⟨⟨rfl,rfl,rfl,rfl,rfl⟩,by
     rw[if_pos HNB.out];exact⟨H6.2.2,rfl,rfl,rfl⟩⟩
    clear hpd;obtain⟨g,q,w8,hrun,hrow8,hrd8,hwd8,hbe8⟩:=HRD.ins HWDd.out ⟨(O:Int),d,a,b,e,m,0⟩ TD 25;have H8:=A3 (And.intro hrd8 (And.intro hwd8 hbe8));clear hrd8 hwd8 hbe8;rw[HN.2,HN.1]at hrun;have hrun5:(Builtin.append_ #[25,25] 25 #[.slice p1 N q1,.slice (some ⟨V.drew.heap.size,0,none⟩) 1 1]).run prog (V.drew.alloc (.cells #[.int .i64 (O:Int),.int .i64 d,.int .i64 a,.int .i64 b,.int .i64 e,.int .i64 m,.int .u32 0] 39))=.ok (.slice (some ⟨g,0,none⟩) (N+1) q) w8:=hrun;have HRUN:=A3 hrun5;clear hrun hrun5;have z8:=hrow8.frozen 3;have c8:=hrow8.cell (i:=3) dE;have c8':w8.cell? ⟨B,3,none⟩=some u3:=c8;rw[HN.2]at c8';clear c8 hrow8;have vd:V.drew.cell? ⟨B,3,none⟩=some (.slice p1 N q1):=by rw[HRD.row.cell (i:=3) dE,<-HN.2];rfl
    have va:(V.drew.alloc (.cells #[.int .i64 (O:Int),.int .i64 d,.int .i64 a,.int .i64 b,.int .i64 e,.int .i64 m,.int .u32 0] 39)).cell? ⟨B,3,none⟩=some (.slice p1 N q1):=kc (A2 _ _) vd;have va':(V.alloc (.cells #[.int .i64 (O:Int),.int .i64 d,.int .i64 a,.int .i64 b,.int .i64 e,.int .i64 m,.int .u32 0] 39)).drew.cell? ⟨B,3,none⟩=some (.slice p1 N q1):=va;exact WC
   |false=>
    have HNB:=A3 hnb;rw[hnb]at KH;clear hnb;by_cases q1:O=1
    .have HQ:=A3 q1;have hO1:decide (O=1)=true:=by simpa using q1
     rw[hO1]at KB;clear q1 hO1;have KN:=A3 (Kz WB ws1 b1 wr HL.laid HV0.2.1);go_upto_region 10 with(first
      |(go_at_call 82;(with_reducible refine KN.out.mono ?_);rintro e9 w6 ⟨m,rfl,hm,h6,k6⟩;have H6:=A3 (And.intro h6 (And.intro k6 hm));clear h6 k6 hm;have y6:=HRW.out.of_block (H6.out.2.1.oth _ HRW.out.lt HXW.out.2.2);have HY6:=A3 y6;clear x0;obtain⟨x0,x1,x2,x3,x4,x5,x6⟩:=Ca y6;have f6:=y6.frozen 6;clear y6)
      |(go_at_call 85;(with_reducible refine(KH.out _).mono ?_);rintro e9 w7 ⟨rfl,hw7⟩;have hw8:=hw7.symm;subst hw8)
      |(go_at_call 86;(with_reducible refine(KB.out _).mono ?_);rintro e9 w7 ⟨rfl,hw7⟩;have hw8:=hw7.symm;subst hw8))
     obtain⟨V,hV⟩:=gA (w6.setCell ⟨X,6,none⟩ (.int .u32 m))
     have pz:AA X w6 V:=by rw[<-hV];exact AA.one X 6 w6 (.int .u32 m)
     have hz7:V.rowIs X 39 7 (GN ⟨(O:Int),d,a,b,e,0,m⟩):=by rw[<-hV];exact(HY6.set 6 (.int .u32 m)).congr (PD _ m)
     have HV:Hid (BS WB w V/\CD WB (Ab ws1).2 (b1|| !(BI (Ab ws1).1).isSome) V/\V.rowIs X 39 7 (GN ⟨(O:Int),d,a,b,e,0,m⟩)):=⟨(HV0.1.trans H6.2.1).putN pz HXW.1,H6.1.putN pz (Ne.symm HXW.2.2),hz7⟩
     try rw[hV]
     clear x0 x1 x2 x3 x4 x5 x6 f6 pz hV hz7;have hpd:=HV.2.2.of_block (w':=V.drew) rfl;obtain⟨x0,x1,x2,x3,x4,x5,x6⟩:=Ca hpd;have HOD:Hid (BS WB w V.drew):=HV.1.trans (BS.of (A4 V));have HWDd:Hid (CD WB ((Ab ws1).2) (b1|| !(BI (Ab ws1).1).isSome) V.drew):=HV.2.1.below (A4 V);have HRD:Hid (Cq E B m0 m1 m2 m3 m4 V.drew c ln st u0 u1 u2 u3):=HX.2.2.ofB HROW0.out HOD.out;have bx0:(V.drew.alloc (.cells #[.int .i64 (O:Int),.int .i64 d,.int .i64 a,.int .i64 b,.int .i64 e,.int .i64 0,.int .u32 m] 39)).cell? ⟨X,0,none⟩=some (.int .i64 (O:Int)):=kc (A2 _ _) x0;have HEND:Hid (CR ((B3 ws).map fun i=>⟨c.sign,c.regs,c.slots,c.list++[i]⟩) ⟨c.sign,c.regs,c.slots,c.list++[⟨(O:Int),d,a,b,e,0,m⟩]⟩ ((Ab ws1).2) (b1|| !(BI (Ab ws1).1).isSome)):=IY HOO.out HIE.out ⟨⟨rfl,rfl,rfl,rfl,rfl⟩,by
      rw[if_neg (by rw[HNB.out];decide),if_pos HQ.out];exact⟨H6.2.2,rfl,rfl,rfl⟩⟩
     clear hpd;obtain⟨g,q,w8,hrun,hrow8,hrd8,hwd8,hbe8⟩:=HRD.ins HWDd.out ⟨(O:Int),d,a,b,e,0,m⟩ TD 25;have H8:=A3 (And.intro hrd8 (And.intro hwd8 hbe8));clear hrd8 hwd8 hbe8;rw[HN.2,HN.1]at hrun;have hrun5:(Builtin.append_ #[25,25] 25 #[.slice p1 N q1,.slice (some ⟨V.drew.heap.size,0,none⟩) 1 1]).run prog (V.drew.alloc (.cells #[.int .i64 (O:Int),.int .i64 d,.int .i64 a,.int .i64 b,.int .i64 e,.int .i64 0,.int .u32 m] 39))=.ok (.slice (some ⟨g,0,none⟩) (N+1) q) w8:=hrun;have HRUN:=A3 hrun5;clear hrun hrun5;have z8:=hrow8.frozen 3;have c8:=hrow8.cell (i:=3) dE;have c8':w8.cell? ⟨B,3,none⟩=some u3:=c8;rw[HN.2]at c8';clear c8 hrow8;have vd:V.drew.cell? ⟨B,3,none⟩=some (.slice p1 N q1):=by rw[HRD.row.cell (i:=3) dE,<-HN.2];rfl
     have va:(V.drew.alloc (.cells #[.int .i64 (O:Int),.int .i64 d,.int .i64 a,.int .i64 b,.int .i64 e,.int .i64 0,.int .u32 m] 39)).cell? ⟨B,3,none⟩=some (.slice p1 N q1):=kc (A2 _ _) vd;have va':(V.alloc (.cells #[.int .i64 (O:Int),.int .i64 d,.int .i64 a,.int .i64 b,.int .i64 e,.int .i64 0,.int .u32 m] 39)).drew.cell? ⟨B,3,none⟩=some (.slice p1 N q1):=va;exact WC
    .have HQ:=A3 q1;have hO1:decide (O=1)=false:=by simpa using q1
     rw[hO1]at KB;clear q1 hO1;go_upto_region 10 with(first
      |(go_at_call 85;(with_reducible refine(KH.out _).mono ?_);rintro e9 w7 ⟨rfl,hw7⟩;have hw8:=hw7.symm;subst hw8)
      |(go_at_call 86;(with_reducible refine(KB.out _).mono ?_);rintro e9 w7 ⟨rfl,hw7⟩;have hw8:=hw7.symm;subst hw8))
     have HV:=HV0;obtain⟨V,hV⟩:=gA wr
     rw[hV]at HV |-;clear x0 x1 x2 x3 x4 x5 x6 hV;have hpd:=HV.2.2.of_block (w':=V.drew) rfl;obtain⟨x0,x1,x2,x3,x4,x5,x6⟩:=Ca hpd;have HOD:Hid (BS WB w V.drew):=HV.1.trans (BS.of (A4 V));have HWDd:Hid (CD WB (ws1) (b1) V.drew):=HV.2.1.below (A4 V);have HRD:Hid (Cq E B m0 m1 m2 m3 m4 V.drew c ln st u0 u1 u2 u3):=HX.2.2.ofB HROW0.out HOD.out;have bx0:(V.drew.alloc (.cells #[.int .i64 (O:Int),.int .i64 d,.int .i64 a,.int .i64 b,.int .i64 e,.int .i64 0,.int .u32 0] 39)).cell? ⟨X,0,none⟩=some (.int .i64 (O:Int)):=kc (A2 _ _) x0;have HEND:Hid (CR ((B3 ws).map fun i=>⟨c.sign,c.regs,c.slots,c.list++[i]⟩) ⟨c.sign,c.regs,c.slots,c.list++[⟨(O:Int),d,a,b,e,0,0⟩]⟩ (ws1) (b1)):=IY HOO.out HIE.out ⟨⟨rfl,rfl,rfl,rfl,rfl⟩,by
      rw[if_neg (by rw[HNB.out];decide),if_neg HQ.out];exact⟨rfl,rfl,rfl,rfl⟩⟩
     clear hpd;obtain⟨g,q,w8,hrun,hrow8,hrd8,hwd8,hbe8⟩:=HRD.ins HWDd.out ⟨(O:Int),d,a,b,e,0,0⟩ TD 25;have H8:=A3 (And.intro hrd8 (And.intro hwd8 hbe8));clear hrd8 hwd8 hbe8;rw[HN.2,HN.1]at hrun;have hrun5:(Builtin.append_ #[25,25] 25 #[.slice p1 N q1,.slice (some ⟨V.drew.heap.size,0,none⟩) 1 1]).run prog (V.drew.alloc (.cells #[.int .i64 (O:Int),.int .i64 d,.int .i64 a,.int .i64 b,.int .i64 e,.int .i64 0,.int .u32 0] 39))=.ok (.slice (some ⟨g,0,none⟩) (N+1) q) w8:=hrun;have HRUN:=A3 hrun5;clear hrun hrun5;have z8:=hrow8.frozen 3;have c8:=hrow8.cell (i:=3) dE;have c8':w8.cell? ⟨B,3,none⟩=some u3:=c8;rw[HN.2]at c8';clear c8 hrow8;have vd:V.drew.cell? ⟨B,3,none⟩=some (.slice p1 N q1):=by rw[HRD.row.cell (i:=3) dE,<-HN.2];rfl
     have va:(V.drew.alloc (.cells #[.int .i64 (O:Int),.int .i64 d,.int .i64 a,.int .i64 b,.int .i64 e,.int .i64 0,.int .u32 0] 39)).cell? ⟨B,3,none⟩=some (.slice p1 N q1):=kc (A2 _ _) vd;have va':(V.alloc (.cells #[.int .i64 (O:Int),.int .i64 d,.int .i64 a,.int .i64 b,.int .i64 e,.int .i64 0,.int .u32 0] 39)).drew.cell? ⟨B,3,none⟩=some (.slice p1 N q1):=va;exact WC
theorem Nq(op:Int)(hk:AI op=true):∃a b c d e:UInt8,((a.toNat:Int)=(CF op).a/\(b.toNat:Int)=(CF op).b/\(c.toNat:Int)=(CF op).c/\(d.toNat:Int)=(CF op).d/\(e.toNat:Int)=(CF op).e)/\∀w,Calls prog 64 #[.int .i64 op] w fun x w'=>x=.returned (.tuple #[.string ⟨#[a,b,c,d,e]⟩,.bool true])/\w'=w:=by
 have hh:1<=op/\op<=37:=by unfold AI at hk;simp at hk;omega
 clear hk;have:op=1\/op=2\/op=3\/op=4\/op=5\/op=6\/op=7\/op=8\/op=9\/op=10\/op=11\/op=12\/op=13\/op=14\/op=15\/op=16\/op=17\/op=18\/op=19\/op=20\/op=21\/op=22\/op=23\/op=24\/op=25\/op=26\/op=27\/op=28\/op=29\/op=30\/op=31\/op=32\/op=33\/op=34\/op=35\/op=36\/op=37:=oM;rcases this with rfl|rfl|rfl|rfl|rfl|rfl|rfl|rfl|rfl|rfl|rfl|rfl|rfl|rfl|rfl|rfl|rfl|rfl|rfl|rfl|rfl|rfl|rfl|rfl|rfl|rfl|rfl|rfl|rfl|rfl|rfl|rfl|rfl|rfl|rfl|rfl|rfl
 .exact⟨_,_,_,_,_,⟨rfl,rfl,rfl,rfl,rfl⟩,fun w=>R7 w⟩
 .exact⟨_,_,_,_,_,⟨rfl,rfl,rfl,rfl,rfl⟩,fun w=>R8 w⟩
 .exact⟨_,_,_,_,_,⟨rfl,rfl,rfl,rfl,rfl⟩,fun w=>R9 w⟩
 .exact⟨_,_,_,_,_,⟨rfl,rfl,rfl,rfl,rfl⟩,fun w=>Ra w⟩
 .exact⟨_,_,_,_,_,⟨rfl,rfl,rfl,rfl,rfl⟩,fun w=>Rb w⟩
 .exact⟨_,_,_,_,_,⟨rfl,rfl,rfl,rfl,rfl⟩,fun w=>Rc w⟩
 .exact⟨_,_,_,_,_,⟨rfl,rfl,rfl,rfl,rfl⟩,fun w=>Re w⟩
 .exact⟨_,_,_,_,_,⟨rfl,rfl,rfl,rfl,rfl⟩,fun w=>Rf w⟩
 .exact⟨_,_,_,_,_,⟨rfl,rfl,rfl,rfl,rfl⟩,fun w=>Rg w⟩
 .exact⟨_,_,_,_,_,⟨rfl,rfl,rfl,rfl,rfl⟩,fun w=>MS w⟩
 .exact⟨_,_,_,_,_,⟨rfl,rfl,rfl,rfl,rfl⟩,fun w=>MT w⟩
 .exact⟨_,_,_,_,_,⟨rfl,rfl,rfl,rfl,rfl⟩,fun w=>MU w⟩
 .exact⟨_,_,_,_,_,⟨rfl,rfl,rfl,rfl,rfl⟩,fun w=>MV w⟩
 .exact⟨_,_,_,_,_,⟨rfl,rfl,rfl,rfl,rfl⟩,fun w=>MX w⟩
 .exact⟨_,_,_,_,_,⟨rfl,rfl,rfl,rfl,rfl⟩,fun w=>MY w⟩
 .exact⟨_,_,_,_,_,⟨rfl,rfl,rfl,rfl,rfl⟩,fun w=>MZ w⟩
 .exact⟨_,_,_,_,_,⟨rfl,rfl,rfl,rfl,rfl⟩,fun w=>N4 w⟩
 .exact⟨_,_,_,_,_,⟨rfl,rfl,rfl,rfl,rfl⟩,fun w=>N5 w⟩
 .exact⟨_,_,_,_,_,⟨rfl,rfl,rfl,rfl,rfl⟩,fun w=>N6 w⟩
 .exact⟨_,_,_,_,_,⟨rfl,rfl,rfl,rfl,rfl⟩,fun w=>N7 w⟩
 .exact⟨_,_,_,_,_,⟨rfl,rfl,rfl,rfl,rfl⟩,fun w=>N8 w⟩
 .exact⟨_,_,_,_,_,⟨rfl,rfl,rfl,rfl,rfl⟩,fun w=>N9 w⟩
 .exact⟨_,_,_,_,_,⟨rfl,rfl,rfl,rfl,rfl⟩,fun w=>Na w⟩
 .exact⟨_,_,_,_,_,⟨rfl,rfl,rfl,rfl,rfl⟩,fun w=>Nb w⟩
 .exact⟨_,_,_,_,_,⟨rfl,rfl,rfl,rfl,rfl⟩,fun w=>Nc w⟩
 .exact⟨_,_,_,_,_,⟨rfl,rfl,rfl,rfl,rfl⟩,fun w=>Nd w⟩
 .exact⟨_,_,_,_,_,⟨rfl,rfl,rfl,rfl,rfl⟩,fun w=>Nf w⟩
 .exact⟨_,_,_,_,_,⟨rfl,rfl,rfl,rfl,rfl⟩,fun w=>Ng w⟩
 .exact⟨_,_,_,_,_,⟨rfl,rfl,rfl,rfl,rfl⟩,fun w=>Nh w⟩
 .exact⟨_,_,_,_,_,⟨rfl,rfl,rfl,rfl,rfl⟩,fun w=>Ni w⟩
 .exact⟨_,_,_,_,_,⟨rfl,rfl,rfl,rfl,rfl⟩,fun w=>Nj w⟩
 .exact⟨_,_,_,_,_,⟨rfl,rfl,rfl,rfl,rfl⟩,fun w=>Nk w⟩
 .exact⟨_,_,_,_,_,⟨rfl,rfl,rfl,rfl,rfl⟩,fun w=>Nl w⟩
 .exact⟨_,_,_,_,_,⟨rfl,rfl,rfl,rfl,rfl⟩,fun w=>Nm w⟩
 .exact⟨_,_,_,_,_,⟨rfl,rfl,rfl,rfl,rfl⟩,fun w=>Nn w⟩
 .exact⟨_,_,_,_,_,⟨rfl,rfl,rfl,rfl,rfl⟩,fun w=>No w⟩
 .exact⟨_,_,_,_,_,⟨rfl,rfl,rfl,rfl,rfl⟩,fun w=>Np w⟩
def BG(b:Int):Prop:=b=45\/b=110\/b=119\/b=118\/b=100\/b=120\/b=99\/b=97
instance (b:Int):Decidable (BG b):=by unfold BG;infer_instance
def Vz(L:Lt):Bool:=decide (BG L.a)&&(decide (BG L.b)&&(decide (BG L.c)&&(decide (BG L.d)&&(decide (L.e=45\/L.e=105\/L.e=112\/L.e=115\/L.e=113)&&decide (L.e=112->L.a=118\/(L.a=45/\L.b=118))))))
theorem St{p:Prop}[Decidable p]{x y:Lt}(h:Vz x=true)(k:Vz y=true):Vz (if p then x else y)=true:=by
 split
 .exact h
 .exact k
theorem Si(op:Int):Vz (CF op)=true:=by
 unfold CF
 iterate 19 refine St dE ?_
 decide
theorem Uu(op:Int):BG (CF op).a/\BG (CF op).b/\BG (CF op).c/\BG (CF op).d/\((CF op).e=45\/(CF op).e=105\/(CF op).e=112\/(CF op).e=115\/(CF op).e=113)/\((CF op).e=112->(CF op).a=118\/((CF op).a=45/\(CF op).b=118)):=by
 have:=Si op;unfold Vz at this;simp only[Bool.and_eq_true,decide_eq_true_eq]at this;exact this
theorem Qw(v0 v1 v2 v3:Value)(i:Ax)(h0:0<=i.bits)(h1:i.bits<4294967296)(h:(AI i.op&&((i.op==1||i.bits==0)&&C3 i.bits))=false)(w:World):
 Calls prog 66 #[.agg #[v0,v1,v2,v3],Cg i] w fun e w'=>e=.returned (.bool false)/\Below w.heap.size w w':=by
 have HCAN:Hid (∀w,Calls prog 65 #[.int .u32 i.bits] w fun e w'=>e=.returned (.bool (C3 i.bits))/\Below w.heap.size w w'):=D0 i.bits h0 h1;cases hk:AI i.op
 .have HROW:Hid (∀w,Calls prog 64 #[.int .i64 i.op] w fun e w'=>e=.returned (.tuple #[.string ⟨#[]⟩,.bool false])/\w'=w):=ID i.op hk;obtain⟨op,D,A,B,E,n,bt⟩:=i;unfold Cg;simp only at HROW HCAN |-;clear h hk;go_enter func66,ntmps66;go_wp2_with(go_at_call 64;refine(HROW.out _).mono ?_;rintro e w1 ⟨rfl,rfl⟩);go_ret;exact RR
 .obtain⟨a,b,c,d,e,-,hc⟩:=Nq i.op hk;have HROW:Hid (∀w,Calls prog 64 #[.int .i64 i.op] w fun x w'=>x=.returned (.tuple #[.string ⟨#[a,b,c,d,e]⟩,.bool true])/\w'=w):=hc;rw[hk,Bool.true_and]at h;clear hc hk;obtain⟨op,D,A,B,E,n,bt⟩:=i;unfold Cg;simp only at HROW HCAN h |-;cases ho:(op==1)
  .have ho':(op != 1)=true:=by simpa using ho
   cases hz:(bt==0)
   .have hz':(bt != 0)=true:=by simpa using hz
    clear h;go_enter func66,ntmps66;go_wp2_with(go_at_call 64;refine(HROW.out _).mono ?_;rintro e w1 ⟨rfl,rfl⟩);go_ret;exact RR
   .rw[ho,hz,Bool.false_or,Bool.true_and]at h;rw[h]at HCAN;have hz':(bt != 0)=false:=by simpa using hz
    exact XN
  .rw[ho,Bool.true_or,Bool.true_and]at h;rw[h]at HCAN;have ho':(op != 1)=false:=by simpa using ho
   exact XN
structure TW(w:World)(v0 v1 v2 v3:Value)(J:Nat)(op D A B E n bt:Int)(v:World):Prop where
 bel:Below w.heap.size w v
 c0:v.cell? ⟨w.heap.size,0,none⟩=some v0
 c1:v.cell? ⟨w.heap.size,1,none⟩=some v1
 c2:v.cell? ⟨w.heap.size,2,none⟩=some v2
 c3:v.cell? ⟨w.heap.size,3,none⟩=some v3
 i0:v.cell? ⟨J,0,none⟩=some (.int .i64 op)
 i1:v.cell? ⟨J,1,none⟩=some (.int .i64 D)
 i2:v.cell? ⟨J,2,none⟩=some (.int .i64 A)
 i3:v.cell? ⟨J,3,none⟩=some (.int .i64 B)
 i4:v.cell? ⟨J,4,none⟩=some (.int .i64 E)
 i5:v.cell? ⟨J,5,none⟩=some (.int .i64 n)
 i6:v.cell? ⟨J,6,none⟩=some (.int .u32 bt)
theorem TW.next{w:World}{v0 v1 v2 v3:Value}{J:Nat}{op D A B E n bt:Int}{v v':World}(h:TW w v0 v1 v2 v3 J op D A B E n bt v)(k:Below v.heap.size v v'):TW w v0 v1 v2 v3 J op D A B E n bt v':=
 ⟨Go.Proofs.YtjlpkjblkllfbaaGreatDoor.bel h.bel k,kc k h.c0,kc k h.c1,kc k h.c2,kc k h.c3,kc k h.i0,kc k h.i1,kc k h.i2,kc k h.i3,kc k h.i4,kc k h.i5,kc k h.i6⟩
theorem TW.keep{w:World}{v0 v1 v2 v3:Value}{J:Nat}{op D A B E n bt:Int}{v:World}(h:TW w v0 v1 v2 v3 J op D A B E n bt v){g o:Nat}(x:Value)(h1:w.heap.size<g)(h2:g≠J):TW w v0 v1 v2 v3 J op D A B E n bt (v.setCell ⟨g,o,none⟩ x):=by
 have f1:∀j,(v.setCell ⟨g,o,none⟩ x).cell? ⟨w.heap.size,j,none⟩=v.cell? ⟨w.heap.size,j,none⟩:=fun j=>gC (gE (by show w.heap.size≠g;omega));have f2:∀j,(v.setCell ⟨g,o,none⟩ x).cell? ⟨J,j,none⟩=v.cell? ⟨J,j,none⟩:=fun j=>gC (gE (by show J≠g;omega));exact⟨h.bel.setCell (by show w.heap.size<=g;omega) _,(f1 0).trans h.c0,(f1 1).trans h.c1,(f1 2).trans h.c2,(f1 3).trans h.c3,(f2 0).trans h.i0,(f2 1).trans h.i1,(f2 2).trans h.i2,(f2 3).trans h.i3,(f2 4).trans h.i4,(f2 5).trans h.i5,(f2 6).trans h.i6⟩
theorem TW.start(w:World)(v0 v1 v2 v3:Value)(op D A B E n bt:Int):TW w v0 v1 v2 v3 (w.heap.size+1) op D A B E n bt ((w.alloc (.cells #[v0,v1,v2,v3] 27)).alloc (.cells #[.int .i64 op,.int .i64 D,.int .i64 A,.int .i64 B,.int .i64 E,.int .i64 n,.int .u32 bt] 39)):=by
 have k:=A2 (w.alloc (.cells #[v0,v1,v2,v3] 27)) (.cells #[.int .i64 op,.int .i64 D,.int .i64 A,.int .i64 B,.int .i64 E,.int .i64 n,.int .u32 bt] 39);exact⟨Go.Proofs.YtjlpkjblkllfbaaGreatDoor.bel (A2 _ _) k,kc k sG,kc k sG,kc k sG,kc k sG,sG,sG,sG,sG,sG,sG,sG⟩
theorem CM{n:Nat}{w v:World}(h:Below n w v):Below n w v.drew:=h.drew
theorem KV(s:ByteArray)(hs:s.size<=4194304)(w:World):
 Calls prog 77 #[.string s] w fun e w'=>e=.returned (.string s)/\Below w.heap.size w w':=by
 go_enter func77,ntmps77;go_wp2_with(go_at_call 118;refine(Ek s _ oM).mono ?_;rintro e w1 ⟨rfl,hb⟩);refine bodyPost_ret (by simp[results,results77,go_sem, *];try rfl) rfl ?_;exact⟨rfl,hb⟩
theorem LP(w:World)(p:Bc):Rd (w.alloc (.cells (AB p).toArray 41)) (.slice (some ⟨w.heap.size,0,none⟩) 1 1) [p]:=by
 refine⟨_,_,rfl,.inr ⟨w.heap.size,0,rfl,fun i hi=>?_⟩⟩;have:i=0:=by simpa using hi
 subst this;have h:=Cs w 41 (.string p.name) (.int .i64 p.kind) (.int .i64 p.len);exact⟨h.cell (i:=0) dE,h.cell (i:=1) dE,h.cell (i:=2) dE⟩
theorem Cq.lenP{E B m0 m1 m2 m3 m4:Nat}{w:World}{c:Cd}{ln st:Int}{u0 u1 u2 u3:Value}(h:Cq E B m0 m1 m2 m3 m4 w c ln st u0 u1 u2 u3):∃p q,u0=.slice p c.sign.length q:=Ac h.own.sign
theorem OI(E B WB m0 m1 m2 m3 m4:Nat)(c:Cd)(ln st:Int)(u0 u1 u2 u3:Value)(ws:List Bs)(w:World)(hL:BF E w)(hE:E<=WB)(h:Cq E B m0 m1 m2 m3 m4 w c ln st u0 u1 u2 u3)(hw:CD WB ws false w)(h4:4<=ws.length)(ha:(Ab ws).1=AN)(hl:c.sign.length<=4194304):
 Calls prog 48 #[.pointer (some ⟨B,0,none⟩),.pointer (some ⟨WB,0,none⟩)] w (Mh E B WB m0 m1 m2 m3 m4 ln st ((AV ws).map fun p=>⟨c.sign++[p],c.regs,c.slots,c.list⟩) w):=by
 obtain⟨N,hN⟩:=gA (c.sign.length)
 obtain⟨p1,q1,hu1⟩:=h.lenP;rw[hN]at hu1;have HN:=A3 (And.intro hN hu1);have HLn:=A3 hl;have HA:=A3 (And.intro h4 ha);have HX:=A3 (And.intro hE (And.intro hL h));have HW:=A3 hw;obtain⟨T9,-,-,hrow9⟩:=hw.row;have HROW0:=A3 hrow9;have K1:=A3 (Cc WB ws false w hL.laid hw);clear hN hu1 hl hE hL h hw hrow9 h4 ha;go_enter func48,ntmps48;go_upto_region 1 with(go_at_call 76;(with_reducible refine K1.out.mono ?_);rintro e w1 ⟨U0,rfl,hU,hU2,h1,k1⟩;have H1:=A3 (And.intro h1 k1);clear h1 k1 hU hU2)
 have HL1:=A3 (HX.2.1.ofB HX.1 H1.2);have K2:=A3 (Cc WB _ false w1 HL1.laid H1.1);go_upto_region 2 with(first
  |(go_at_call 76;(with_reducible refine K2.out.mono ?_);rintro e w2 ⟨U,rfl,hU,hU2,h2,k2⟩;have H2:=A3 (And.intro h2 (And.intro k2 (And.intro hU hU2)));clear h2 k2 hU hU2)
  |(go_at_call 77;(with_reducible refine(KV U H2.out.2.2.2 _).mono ?_);rintro e w3 ⟨rfl,hb3⟩;have HB3:=A3 hb3;clear hb3))
 obtain⟨V,hV⟩:=gA (w3.alloc (.cells #[.string U,.int .i64 0,.int .i64 0] 41))
 rw[hV];have hp:=Cs w3 41 (.string U) (.int .i64 0) (.int .i64 0);have hb:=A2 w3 (.cells #[.string U,.int .i64 0,.int .i64 0] 41);rw[hV]at hp hb;have HO3:Hid (BS WB w w3):=(H1.2.trans H2.2.1).trans (BS.of HB3.out);have HO4:Hid (BS WB w V):=HO3.trans (BS.of hb);have HW4:=A3 ((H2.1.below HB3.out).below hb);have l4:=HO3.size;have lW:=HW.lt;obtain⟨X,hX⟩:=gA (w3.heap.size)
 rw[hX]at hp l4;simp only[hX];have HXW:Hid (w.heap.size<=X/\WB<X/\X≠WB):=by refine⟨l4,?_,?_⟩<;>omega
 have HRX:=A3 hp;have HL4:=A3 (HX.2.1.ofB HX.1 HO4.out);have hR4:=HX.2.2.ofB HROW0.out HO4.out;have KM:=Ey WB m1 _ _ (As CH 3) V HL4.laid HW4.out hR4.maps.kinds.1;have v7:V.cell? ⟨B,7,none⟩=some (.map (some m1)):=hR4.row.cell (i:=7) dE;obtain⟨kd,hkd⟩:∃n2:Int,(((As CH 3 (Ab (Ab (Ab ws).2).2).1).getD 0:Nat):Int)=n2:=⟨_,rfl⟩
 rw[hkd]at KM;have HKM:=A3 KM;have HKD:=A3 hkd;clear hp hb l4 lW hX hV KM hkd hR4;go_upto_region 3 with(go_at_call 78;(with_reducible refine HKM.out.mono ?_);rintro e w5 ⟨rfl,h5,k5⟩;have H5:=A3 (And.intro h5 k5);have y5:=HRX.out.of_block (k5.oth _ HRX.out.lt HXW.out.2.2);have HY5:=A3 y5;clear h5 k5 v7;obtain⟨x0,x1,x2⟩:=c3 y5;obtain⟨f0,f1,f2⟩:=z3 y5;clear y5)
 obtain⟨V5,hV5⟩:∃V,w5.setCell ⟨X,1,none⟩ (.int .i64 kd)=V:=⟨_,rfl⟩
 rw[hV5];have hp5:=LD HY5.out (.int .i64 kd);rw[hV5]at hp5;have HO5:Hid (BS WB w V5):=(HO4.out.trans H5.out.2).putN hp5.2 HXW.out.1;have HW5:=A3 (H5.out.1.putN hp5.2 (Ne.symm HXW.out.2.2));have HRX5:=A3 hp5.1;have HL5:=A3 (HX.out.2.1.ofB HX.out.1 HO5.out);have KN:=A3 (Dq WB _ _ V5 HL5.out.laid HW5.out (fun v k=>(HL5.out.ofB HX.out.1 k).laid));clear x0 x1 x2 f0 f1 f2 hV5 hp5;go_upto_region 4 with(go_at_call 79;(with_reducible refine KN.out.mono ?_);rintro e w6 ⟨m,rfl,hm,h6,k6⟩;have H6:=A3 (And.intro h6 (And.intro k6 hm));have y6:=HRX5.out.of_block (k6.oth _ HRX5.out.lt HXW.out.2.2);have HY6:=A3 y6;clear h6 k6 hm;obtain⟨x0,x1,x2⟩:=c3 y6;obtain⟨f0,f1,f2⟩:=z3 y6;clear y6)
 obtain⟨V6,hV6⟩:∃V,w6.setCell ⟨X,2,none⟩ (.int .i64 m)=V:=⟨_,rfl⟩
 rw[hV6];have hp6:=J8 HY6.out (.int .i64 m);rw[hV6]at hp6;have HO6:Hid (BS WB w V6):=(HO5.trans H6.2.1).putN hp6.2 HXW.1;have HW6:=A3 (H6.1.putN hp6.2 (Ne.symm HXW.2.2));have HRX6:=A3 hp6.1;obtain⟨p,hp⟩:∃p:Bc,(⟨U,kd,m⟩:Bc)=p:=⟨_,rfl⟩
 have HP:=A3 hp;obtain⟨ck,hck⟩:=gA (AC [p])
 have KC:=Hb (.slice (some ⟨V6.heap.size,0,none⟩) 1 1) [p] Xe (fun q hq=>by rw[List.mem_singleton.1 hq,<-hp];exact gH H2.2.2.2 dE) (V6.alloc (.cells (AB p).toArray 41)) (LP V6 p);have hcells:(AB p).toArray=#[.string U,.int .i64 kd,.int .i64 m]:=by rw[<-hp];rfl
 rw[hck,hcells]at KC;have HKC:=A3 KC;have HCK:=A3 hck;clear x0 x1 x2 f0 f1 f2 hV6 hp6 KC hck hp hcells;obtain⟨x0,x1,x2⟩:=c3 HRX6.out;go_upto_region 5 with(first
  |(go_at_call 53;(with_reducible refine HKC.out.mono ?_);rintro e w7 ⟨rfl,hb7⟩;have HB7:=A3 (bel (A2 V6 _) hb7);clear hb7)
  |(go_at_call 80;(with_reducible refine(BH WB _ _ _ _ (HW6.out.below HB7.out)).mono ?_);rintro e w8 ⟨rfl,h8,k8⟩;have H7:=A3 (And.intro h8 k8);clear h8 k8))
 clear x0 x1 x2;obtain⟨V,hV⟩:=gA w8
 rw[hV]at H7 |-;clear hV;have HO7:Hid (BS WB w V):=(HO6.trans (BS.of HB7.out)).trans H7.2;have hrx7:=(HRX6.of_block (HB7.block _ HRX6.lt))
 have hrx8:=hrx7.of_block (H7.2.oth _ hrx7.lt HXW.2.2);have hpd:=hrx8.of_block (w':=V.drew) rfl;obtain⟨x0,x1,x2⟩:=c3 hpd;obtain⟨wsx,hwsx⟩:∃x,(Ab (Ab (Ab (Ab ws).2).2).2).2=x:=⟨_,rfl⟩
 obtain⟨bx,hbx⟩:∃x,(((false|| !(As CH 3 (Ab (Ab (Ab ws).2).2).1).isSome)|| !(Af (Ab (Ab (Ab (Ab ws).2).2).2).1).isSome)|| !(ck==0))=x:=⟨_,rfl⟩
 have hw7:=H7.1;rw[hwsx,hbx]at hw7;have HOD:Hid (BS WB w V.drew):=HO7.trans (BS.of (A4 V));have HWDd:Hid (CD WB wsx bx V.drew):=hw7.below (A4 V);have HRD:Hid (Cq E B m0 m1 m2 m3 m4 V.drew c ln st u0 u1 u2 u3):=HX.2.2.ofB HROW0.out HOD.out;have bx0:(V.drew.alloc (.cells #[.string U,.int .i64 kd,.int .i64 m] 41)).cell? ⟨X,0,none⟩=some (.string U):=kc (A2 _ _) x0;have HEND:Hid (CR ((AV ws).map fun p=>⟨c.sign++[p],c.regs,c.slots,c.list⟩) ⟨c.sign++[⟨U,kd,m⟩],c.regs,c.slots,c.list⟩ wsx bx):=by
  refine SD (m:=0) (kv:=0) HA.1 HA.2 H2.2.2.1 HKD.symm H6.2.2 hwsx.symm ?_;rw[<-hbx,HP.out,HCK.out];congr 2
 clear hrx7 hrx8 hpd hwsx hbx hw7;obtain⟨g,q,w8,hrun,hrow8,hrd8,hwd8,hbe8⟩:=HRD.par HWDd.out ⟨U,kd,m⟩ TD 22;have H8:=A3 (And.intro hrd8 (And.intro hwd8 hbe8));clear hrd8 hwd8 hbe8;rw[HN.2,HN.1]at hrun;have hrun5:(Builtin.append_ #[22,22] 22 #[.slice p1 N q1,.slice (some ⟨V.drew.heap.size,0,none⟩) 1 1]).run prog (V.drew.alloc (.cells #[.string U,.int .i64 kd,.int .i64 m] 41))=.ok (.slice (some ⟨g,0,none⟩) (N+1) q) w8:=hrun;have HRUN:=A3 hrun5;clear hrun hrun5;have z8:=hrow8.frozen 0;have c8:=hrow8.cell (i:=0) dE;have c8':w8.cell? ⟨B,0,none⟩=some u0:=c8;rw[HN.2]at c8';clear c8 hrow8;have vd:V.drew.cell? ⟨B,0,none⟩=some (.slice p1 N q1):=by rw[HRD.row.cell (i:=0) dE,<-HN.2];rfl
 have va:(V.drew.alloc (.cells #[.string U,.int .i64 kd,.int .i64 m] 41)).cell? ⟨B,0,none⟩=some (.slice p1 N q1):=kc (A2 _ _) vd;have va':(V.alloc (.cells #[.string U,.int .i64 kd,.int .i64 m] 41)).drew.cell? ⟨B,0,none⟩=some (.slice p1 N q1):=va;refine wp_region_held_drew (S:=(fun _=>True)) kR ?_ (fun yH=>?_)
 .trivial
 refine Tc 0 1 2 ?_;refine Tb 3 4 ?_;clear yH;refine wpAnyH_ready (rs:=[5,6]) kR sM ?_;refine GB 5 (fun K hK=>?_) ?_
 .go_simp;refine hK.out _ _ ?_ (fun yH=>?_)
  .trivial
  clear hK K;try simp only[Act.put,List.setIfInBounds_toArray,List.set_cons_zero,List.set_cons_succ]
  clear yH;refine Aw 6 fun K hK=>?_;go_simp;refine hK.out _ _ ?_ (fun yH=>?_)
  .trivial
  clear hK K;try simp only[Act.put,List.setIfInBounds_toArray,List.set_cons_zero,List.set_cons_succ]
  clear yH;refine Aw 7 fun K hK=>?_;go_simp;refine hK.out _ _ ?_ (fun yH=>?_)
  .trivial
  clear hK K;try simp only[Act.put,List.setIfInBounds_toArray,List.set_cons_zero,List.set_cons_succ]
  clear yH;refine Aw 8 fun K hK=>?_;refine BP _ _ _ _ rF _ _ _ rF rF HRUN.out ?_ _ rF;refine hK.out _ _ ?_ (fun yH=>?_)
  .trivial
  clear hK K;try simp only[Act.put,List.setIfInBounds_toArray,List.set_cons_zero,List.set_cons_succ]
  refine Tc 9 10 11 ?_;clear yH;refine Aw 12 fun K hK=>?_;go_simp;refine hK.out _ _ ?_ (fun yH=>?_)
  .trivial
  clear hK K;try simp only[Act.put,List.setIfInBounds_toArray,List.set_cons_zero,List.set_cons_succ]
  refine wpAnyH_done kR ?_ _;refine bodyPost_end Xb rfl ?_;exact WE
 refine GB 6 (fun K hK=>?_) AllReadyH.nil;go_simp;refine hK.out _ _ ?_ (fun yH=>?_)
 .trivial
 clear hK K;try simp only[Act.put,List.setIfInBounds_toArray,List.set_cons_zero,List.set_cons_succ]
 clear yH;refine wpAnyH_ready (rs:=[5,7]) kR sM ?_;refine GB 5 (fun K hK=>?_) ?_
 .go_simp;refine hK.out _ _ ?_ (fun yH=>?_)
  .trivial
  clear hK K;try simp only[Act.put,List.setIfInBounds_toArray,List.set_cons_zero,List.set_cons_succ]
  clear yH;refine Aw 7 fun K hK=>?_;go_simp;refine hK.out _ _ ?_ (fun yH=>?_)
  .trivial
  clear hK K;try simp only[Act.put,List.setIfInBounds_toArray,List.set_cons_zero,List.set_cons_succ]
  clear yH;refine Aw 8 fun K hK=>?_;refine BP _ _ _ _ rF _ _ _ rF rF HRUN.out ?_ _ rF;refine hK.out _ _ ?_ (fun yH=>?_)
  .trivial
  clear hK K;try simp only[Act.put,List.setIfInBounds_toArray,List.set_cons_zero,List.set_cons_succ]
  refine Tc 9 10 11 ?_;clear yH;refine Aw 12 fun K hK=>?_;go_simp;refine hK.out _ _ ?_ (fun yH=>?_)
  .trivial
  clear hK K;try simp only[Act.put,List.setIfInBounds_toArray,List.set_cons_zero,List.set_cons_succ]
  refine wpAnyH_done kR ?_ _;refine bodyPost_end Xb rfl ?_;exact WE
 refine GB 7 (fun K hK=>?_) AllReadyH.nil;go_simp;refine hK.out _ _ ?_ (fun yH=>?_)
 .trivial
 clear hK K;try simp only[Act.put,List.setIfInBounds_toArray,List.set_cons_zero,List.set_cons_succ]
 clear yH;refine Aw 5 fun K hK=>?_;go_simp;refine hK.out _ _ ?_ (fun yH=>?_)
 .trivial
 clear hK K;try simp only[Act.put,List.setIfInBounds_toArray,List.set_cons_zero,List.set_cons_succ]
 clear yH;refine Aw 8 fun K hK=>?_;refine BP _ _ _ _ rF _ _ _ rF rF HRUN.out ?_ _ rF;refine hK.out _ _ ?_ (fun yH=>?_)
 .trivial
 clear hK K;try simp only[Act.put,List.setIfInBounds_toArray,List.set_cons_zero,List.set_cons_succ]
 refine Tc 9 10 11 ?_;clear yH;refine Aw 12 fun K hK=>?_;go_simp;refine hK.out _ _ ?_ (fun yH=>?_)
 .trivial
 clear hK K;try simp only[Act.put,List.setIfInBounds_toArray,List.set_cons_zero,List.set_cons_succ]
 refine wpAnyH_done kR ?_ _;refine bodyPost_end Xb rfl ?_;exact WE
theorem Cq.put4{E B m0 m1 m2 m3 m4:Nat}{w:World}{c:Cd}{ln st:Int}{u0 u1 u2 u3:Value}(h:Cq E B m0 m1 m2 m3 m4 w c ln st u0 u1 u2 u3)(v:Int):Cq E B m0 m1 m2 m3 m4 (w.setCell ⟨B,4,none⟩ (.int .i64 v)) c v st u0 u1 u2 u3/\Below E w (w.setCell ⟨B,4,none⟩ (.int .i64 v)):=by
 have hp:=SR h.row (.int .i64 v);exact XR
theorem Cq.put5{E B m0 m1 m2 m3 m4:Nat}{w:World}{c:Cd}{ln st:Int}{u0 u1 u2 u3:Value}(h:Cq E B m0 m1 m2 m3 m4 w c ln st u0 u1 u2 u3)(v:Int):Cq E B m0 m1 m2 m3 m4 (w.setCell ⟨B,5,none⟩ (.int .i64 v)) c ln v u0 u1 u2 u3/\Below E w (w.setCell ⟨B,5,none⟩ (.int .i64 v)):=by
 have hp:=SS h.row (.int .i64 v);exact XR
theorem OR(x:Bs):As Fv 3 x=if x=B7 then some 2 else if x=BU then some 1 else if x=AN then some 0 else none:=by
 by_cases h1:x=B7
 .subst h1;decide
 by_cases h2:x=BU
 .subst h2;decide
 by_cases h3:x=AN
 .subst h3;decide
 simp[As,Fv,h1,h2,h3]
theorem JF{x:Bs}(h:∀c∈x,nb c≠32):x.count 32=0:=List.count_eq_zero.2 fun hm=>h 32 hm rfl
theorem GQ:∀ (ws:List Bs),(∀x∈ws,∀c∈x,nb c≠32)->(A7 ws).count 32=ws.length-1
 |[],_=>rfl
 |[a],h=>JF (h a sM)
 |a::b::r,h=>by
  rw[Be sM,List.count_append,List.count_cons,JF (h a sM),GQ (b::r) (fun x hx=>h x (List.mem_cons_of_mem _ hx))];simp
def Km(Q:Option Nat)(k:Nat):Nat:=if Q=none then 3 else if Q=some 0 then(if k<2 then 3 else 0)else Q.getD 0
theorem KW(s:ByteArray)(w:World):
 Calls prog 75 #[.string s,.string ⟨#[32]⟩] w fun e w'=>e=.returned (.int .i64 ((bs s).count 32:Nat))/\w'=w:=by
 go_enter func75,ntmps75;go_wp2;rw[run_callFunc_extern func116 kR kR kR (e:=Extern.BytealgCount.count) kR,Lib.run_countString];simp only[Result.andThen];rw[Oper.upon_value];go_wp2;go_ret;exact⟨rfl,rfl⟩
theorem OK(E B m0 m1 m2 m3 m4:Nat)(c:Cd)(ln st:Int)(u0 u1 u2 u3:Value)(T:ByteArray)(hT:T.size<=4194304)(w:World)(hL:BF E w)(h:Cq E B m0 m1 m2 m3 m4 w c ln st u0 u1 u2 u3):
 Calls prog 47 #[.pointer (some ⟨B,0,none⟩),.string T] w fun e w'=>e=.returned (.int .i64 (Az (Aj [] (bs T)):Nat))/\Below w.heap.size w w':=by
 obtain⟨ws,hws⟩:=gA (Aj [] (bs T))
 have hno:∀x∈ws,∀c∈x,nb c≠32:=by rw[<-hws];exact DL (bs T) [] (fun b hb=>by cases hb)
 have hj:A7 ws=bs T:=by rw[<-hws];simpa using Du (bs T) []
 rw[hws];have K:=A3 (Mj T hT w hL.laid);rw[<-hj,Pp hno]at K;obtain⟨U,hU⟩:∃U:ByteArray,A6 (Ab ws).1=U:=⟨_,rfl⟩
 obtain⟨R,hR⟩:∃U:ByteArray,A6 (A7 (Ab ws).2)=U:=⟨_,rfl⟩
 have hbU:bs U=(Ab ws).1:=by rw[<-hU];exact AZ _
 have hbR:bs R=A7 (Ab ws).2:=by rw[<-hR];exact AZ _
 simp only at K;rw[hU,hR]at K;obtain⟨D,hD⟩:∃d,decide ((Ab ws).2=[])=d:=⟨_,rfl⟩
 rw[hD]at K;have hsU:U.size<=4194304:=by rw[<-A9,hbU];have:=(FN ws).2;rw[hj,A9]at this;omega
 have hcnt:(bs R).count 32=(Ab ws).2.length-1:=by rw[hbR];exact GQ _ (fun x hx=>hno x (PZ hx))
 have hlen:ws.length=(Ab ws).2.length+1:=by
  have:=Fz (bs T) [];rw[hws]at this;cases ws with
  |nil=>exact absurd rfl this
  |cons a r=>rfl
 have KC:=A3 (fun v=>KW R v);obtain⟨k,hk⟩:=gA ((bs R).count 32)
 rw[hk]at KC;obtain⟨Q,hQ⟩:=gA (As Fv 3 (Ab ws).1)
 have HLK:Hid (∀v,Below w.heap.size w v->(Instr.lookup 46 (.map (some m0)) (.string U) true).run prog v=.ok (.tuple #[.int .i64 ((Q.getD 0:Nat):Int),.bool Q.isSome]) v):=fun v hv=>by
  obtain⟨n,hf⟩:=h.maps.sorts.1.below hv;have h9:=hf.look2 (k:=U) underlying46 (Pl v) mL;rw[h9];simp only[hbU,hQ];cases Q<;>rfl
 have H6:Hid (∀v,Below w.heap.size w v->v.cell? ⟨B,6,none⟩=some (.map (some m0))):=fun v hv=>(h.below hv).row.cell (i:=6) dE;have HS:Hid (Az ws=Km Q k):=by
  show Az ws=_;have hm:=OR (Ab ws).1;rw[hQ]at hm;unfold Az Km;have h4:4<=ws.length↔¬k<2:=oM;by_cases h1:(Ab ws).1=B7
  .rw[if_pos h1]at hm;rw[if_neg Xd,if_neg (by rw[h1];decide),if_pos h1,hm];rfl
  by_cases h2:(Ab ws).1=BU
  .rw[if_neg h1,if_pos h2]at hm;rw[if_neg (by rw[h2];exact fun e=>absurd e.1 dE),if_pos h2,hm];rfl
  by_cases h3:(Ab ws).1=AN
  .rw[if_neg h1,if_neg h2,if_pos h3]at hm;rw[hm,if_neg (by simp:¬ (some 0=(none:Option Nat))),if_pos rfl];by_cases h5:k<2
   .rw[if_neg (fun e=>(h4.1 e.2) h5),if_neg h2,if_neg h1,if_pos h5]
   .rw[if_pos ⟨h3,h4.2 h5⟩,if_neg h5]
  .rw[if_neg h1,if_neg h2,if_neg h3]at hm;rw[if_neg (fun e=>h3 e.1),if_neg h2,if_neg h1,hm,if_pos rfl]
 clear h hL hws hno hj hU hR hbU hbR hcnt hlen hk hQ hD hsU;cases Q with
 |none=>
  rw[HS.out];show Calls _ _ _ _ (fun e w'=>e=.returned (.int .i64 ((3:Nat):Int))/\_);exact XZ
 |some j=>
  cases j with
  |zero=>
   by_cases h5:k<2
   .have e1:(k:Int)<2:=oM;have HS':Hid (Az ws=3):=by show Az ws=_;have:=HS.out;unfold Km at this;simpa[h5]using this
    exact XM
   .have e1:¬ (k:Int)<2:=oM;have HS':Hid (Az ws=0):=by show Az ws=_;have:=HS.out;unfold Km at this;simpa[h5]using this
    exact XM
  |succ j=>
   have HS':Hid (Az ws=j+1):=by show Az ws=_;have:=HS.out;unfold Km at this;simpa using this
   have e1:(((j+1:Nat):Int)==0)=false:=sO;have e2:((some (j+1)).getD 0)=j+1:=rfl;rw[e2]at HLK;rw[HS'.out];obtain⟨J,hJ⟩:=gA (j+1)
   rw[hJ]at e1 HLK |-;clear HS hJ;exact XZ
theorem Kn{ws:List Bs}(h:Az ws=0):4<=ws.length/\(Ab ws).1=AN:=by
 unfold Az at h;by_cases q:(Ab ws).1=AN/\4<=ws.length
 .exact⟨q.2,q.1⟩
 .rw[if_neg q]at h;split at h
  .cases h
  split at h
  .cases h
  .cases h
theorem Ko{ws:List Bs}(h:Az ws=1):(Ab ws).1=BU:=by
 unfold Az at h;split at h
 .cases h
 split at h
 .assumption
 split at h
 .cases h
 .cases h
theorem Kp{ws:List Bs}(h:Az ws=2):(Ab ws).1=B7:=by
 unfold Az at h;split at h
 .cases h
 split at h
 .cases h
 split at h
 .assumption
 .cases h
theorem Kq{ws:List Bs}(h:Az ws=3):True:=trivial
def Jy(st:Nat)(c:Cd)(ws:List Bs)(ok:Bool)(c':Cd)(st':Int):Prop:=
 (∀s',AD (st,c) ws=some s'->ok=true/\st'=(s'.1:Int)/\c'=s'.2)/\(AD (st,c) ws=none->ok=false)
theorem Ri{st:Nat}{c c':Cd}{ws ws':List Bs}{b':Bool}(h:¬Az ws<st)(h3:st<=3)(hs:CR (Cl c ws) c' ws' b'):Jy st c ws (decide (ws'=[])&& !b') c' ((Az ws:Nat):Int):=by
 unfold Jy;rw[FZ st c h3 ws,if_neg h];cases e:Cl c ws with
 |none=>
  rw[e]at hs;refine⟨fun s' hs'=>(by cases hs'),fun _=>?_⟩;have:¬ (ws'=[]/\b'=false):=hs;by_cases q:ws'=[]
  .cases hb:b' with
   |true=>simp
   |false=>exact absurd ⟨q,hb⟩ this
  .simp[q]
 |some x=>
  rw[e]at hs;obtain⟨h1,h2,h4⟩:=hs;refine⟨fun s' hs'=>?_,fun hn=>(by cases hn)⟩;have:=Option.some.inj hs';subst this;exact⟨by rw[h1,h2];rfl,rfl,h4⟩
theorem NU{st:Nat}{c:Cd}{ws:List Bs}{c':Cd}{st':Int}(h:Az ws<st)(h3:st<=3):Jy st c ws false c' st':=by
 unfold Jy;rw[FZ st c h3 ws,if_pos h];exact⟨fun s' hs'=>(by cases hs'),fun _=>rfl⟩
theorem NK(E B m0 m1 m2 m3 m4:Nat)(c:Cd)(ln st:Nat)(u0 u1 u2 u3:Value)(T:ByteArray)(hT:T.size<=4194304)(w:World)(hL:BF E w)(h:Cq E B m0 m1 m2 m3 m4 w c (ln:Int) (st:Int) u0 u1 u2 u3)(hln:ln<=4194304)(h3:st<=3)
 (hb:c.sign.length<=4194304/\c.regs.length<=4194304/\c.slots.length<=4194304/\c.list.length<=4194304):
 Calls prog 28 #[.pointer (some ⟨B,0,none⟩),.string T] w fun e w'=>∃ (ok:Bool) (c':Cd) (st':Int) (y0 y1 y2 y3:Value),e=.returned (.bool ok)/\Cq E B m0 m1 m2 m3 m4 w' c' ((ln+1:Nat):Int) st' y0 y1 y2 y3/\Below E w w'/\(ln=0->ok=decide (bs T=B5)/\c'=c/\st'=(st:Int))/\(ln≠0->Jy st c (Aj [] (bs T)) ok c' st'):=by
 obtain⟨L,hLL⟩:=gA (ln+1)
 rw[hLL];obtain⟨ws,hws⟩:=gA (Aj [] (bs T))
 rw[hws];have HWS:=A3 hws;clear hws;have wi:IntKind.i64.wrap ((ln:Int)+1)=(L:Int):=by rw[IntKind.wrap_i64];omega
 have v4:w.cell? ⟨B,4,none⟩=some (.int .i64 (ln:Int)):=h.row.cell (i:=4) dE;have f4:=h.row.frozen 4;have hp:=h.put4 (L:Int);obtain⟨W1,hW1⟩:∃W,w.setCell ⟨B,4,none⟩ (.int .i64 (L:Int))=W:=⟨_,rfl⟩
 rw[hW1]at hp;have HP:=A3 hp;have HB3:=A3 hb;have HTT:=A3 hT;have HLL:=A3 hL;have HLE:=A3 h.le;have HS3:=A3 h3;have HBD:=A3 hb;have HLQ:=A3 hLL;clear hb hT h3 hp h hL;go_enter func28,ntmps28;go_upto_region 2 with fail;try rw[hW1]
 clear v4 f4 hW1;have v4:W1.cell? ⟨B,4,none⟩=some (.int .i64 (L:Int)):=HP.1.row.cell (i:=4) dE;by_cases q:ln=0
 .have HQ:=A3 q;have e1:((L:Int)==1)=true:=by rw[<-hLL,q];rfl
  obtain⟨dd,hdd⟩:∃d,decide (bs T=B5)=d:=⟨_,rfl⟩
  have e2:(T.toList==([108,97,116,104,101,32,49]:List UInt8))=dd:=by
   rw[<-hdd,ByteArray.toList_eq];by_cases q:bs T=B5
   .rw[decide_eq_true q];show(bs T==B5)=true;rw[q];rfl
   .rw[decide_eq_false q];show(bs T==B5)=false;simpa using q
  have e3:(T.toList==(⟨#[108,97,116,104,101,32,49]⟩:ByteArray).toList)=dd:=by rw[<-e2,ByteArray.toList_eq (⟨#[108,97,116,104,101,32,49]⟩:ByteArray)]
  have HDD:=A3 hdd;clear q hdd hLL;go_wp2;go_ret;exact⟨dd,c,_,u0,u1,u2,u3,by first|rfl|simp[e2],HP.1,HP.2,fun _=>⟨HDD.symm,rfl,rfl⟩,fun e=>absurd HQ.out e⟩
 .have HLN:=A3 q;have e1:((L:Int)==1)=false:=by
   rw[<-hLL];simp;omega
  have KS:=OK E B m0 m1 m2 m3 m4 c (L:Int) (st:Int) u0 u1 u2 u3 T HTT.out W1 (HLL.below HP.2) HP.1;rw[HWS.out]at KS;obtain⟨S,hS⟩:=gA (Az ws)
  rw[hS]at KS;have HKS:=A3 KS;have HSS:Hid (Az ws=S):=hS;clear KS hS q hLL;by_cases q:S<st
  .have e2:((S:Int)<(st:Int)):=oM;have HEA:Hid (Az ws<st):=by show Az ws<st;rw[HSS.out];exact q
   clear q;go_wp2_with(go_at_call 47;(with_reducible refine HKS.out.mono ?_);rintro e w2 ⟨rfl,hb2⟩;have HB2:=A3 hb2;have v5:w2.cell? ⟨B,5,none⟩=some (.int .i64 (st:Int)):=(HP.out.1.below hb2).row.cell (i:=5) dE;clear hb2 v4);go_ret;exact⟨false,c,_,u0,u1,u2,u3,rfl,HP.out.1.below HB2.out,HP.out.2.trans (HB2.out.mono (HLL.out.below HP.out.2).le),fun e=>absurd e HLN.out,fun _=>NU HEA.out HS3.out⟩
  have e2:¬ ((S:Int)<(st:Int)):=oM;have HSL:Hid (¬Az ws<st):=by show¬Az ws<st;rw[HSS.out];exact q
  have hS3:S<=3:=by rw[<-HSS.out];exact Ns ws
  clear q;go_upto_region 5 with(go_at_call 47;(with_reducible refine HKS.out.mono ?_);rintro e w2 ⟨rfl,hb2⟩;have HB2:=A3 hb2;clear hb2 v4)
  have hR2:=HP.1.below HB2.out;have v5:w2.cell? ⟨B,5,none⟩=some (.int .i64 (st:Int)):=hR2.row.cell (i:=5) dE;have f5:=hR2.row.frozen 5;have hp5:=hR2.put5 (S:Int);obtain⟨W3,hW3⟩:∃W,w2.setCell ⟨B,5,none⟩ (.int .i64 (S:Int))=W:=⟨_,rfl⟩
  rw[hW3]at hp5;have HP5:=A3 hp5;have HB3':Hid (Below E w W3):=(HP.2.trans (HB2.mono (HLL.below HP.2).le)).trans hp5.2;clear hp5 hR2;go_upto_region 8 with fail;try rw[hW3]
  clear v5 f5 hW3;go_upto_region 9 with fail;obtain⟨V,hV⟩:=gA (W3.alloc (.cells #[.string T,.bool false,.bool false] 102))
  try rw[hV]
  have hq:=Cs W3 102 (.string T) (.bool false) (.bool false);have hb:=A2 W3 (.cells #[.string T,.bool false,.bool false] 102);rw[hV]at hq hb;have lE:E<=W3.heap.size:=(HLL.below HB3'.out).le;obtain⟨WB,hWB⟩:∃X,W3.heap.size=X:=⟨_,rfl⟩
  rw[hWB]at hq lE;simp only[hWB];have HXW:Hid (E<=WB):=lE;have HRV:=A3 (HP5.1.below hb);have HWV:Hid (CD WB ws false V):=by
   have hne:decide (ws=[])=false:=by
    have:=Fz (bs T) [];rw[HWS.out]at this;simpa using this
   refine⟨⟨T,?_,HTT.out,by rw[hne];exact hq⟩,?_⟩
   .rw[<-HWS.out];simpa using(Du (bs T) []).symm
   .rw[<-HWS.out];exact DL (bs T) [] (fun b hb=>by cases hb)
  have HBV:Hid (Below E w V):=HB3'.trans (hb.mono (HLL.below HB3'.out).le);have HLV:=A3 (HLL.below HBV.out);clear hq hb lE hWB hV;have HSC:Hid (((Az ws:Nat):Int)=(S:Int)):=by show _=_;rw[HSS.out]
  rcases(show S=0\/S=1\/S=2\/S=3 by omega)with rfl|rfl|rfl|rfl
  .clear hS3 e2;have HSF:Hid (4<=ws.length/\(Ab ws).1=AN):=Kn HSS.out;have HSY:Hid (Cl c ws=(AV ws).map fun p=>⟨c.sign++[p],c.regs,c.slots,c.list⟩):=by show Cl c ws=_;unfold Cl;rw[HSS.out];rfl
   have KL:=OI E B WB m0 m1 m2 m3 m4 c _ _ u0 u1 u2 u3 ws V HLV.out HXW.out HRV.out HWV.out HSF.1 HSF.2 HBD.1;rw[<-HSY.out]at KL;have HKL:=A3 KL;clear KL;go_wp2_with(first
    |(go_at_call 48;(with_reducible refine HKL.out.mono ?_);rintro e w5 ⟨rfl,c',y0,y1,y2,y3,ws',b',h5,d5,k5,s5⟩;have H5:=A3 (And.intro h5 (And.intro d5 (And.intro k5 s5)));clear h5 d5 k5 s5)
    |(go_at_call 52;(with_reducible refine(DM WB _ _ _ H5.out.2.1).mono ?_);rintro e w6 ⟨rfl,hw7⟩;have hw8:=hw7.symm;subst hw8))
   exact VW
  .clear hS3 e2;have HSF:Hid ((Ab ws).1=BU):=Ko HSS.out;have HSY:Hid (Cl c ws=(Bi (c.regs.length:Int) ws).map fun t=>⟨c.sign,c.regs++[t],c.slots,c.list⟩):=by show Cl c ws=_;unfold Cl;rw[HSS.out];rfl
   have KL:=R6 E B WB m0 m1 m2 m3 m4 c _ _ u0 u1 u2 u3 ws V HLV.out HXW.out HRV.out HWV.out HSF.out HBD.2.1;rw[<-HSY.out]at KL;have HKL:=A3 KL;clear KL;go_wp2_with(first
    |(go_at_call 49;(with_reducible refine HKL.out.mono ?_);rintro e w5 ⟨rfl,c',y0,y1,y2,y3,ws',b',h5,d5,k5,s5⟩;have H5:=A3 (And.intro h5 (And.intro d5 (And.intro k5 s5)));clear h5 d5 k5 s5)
    |(go_at_call 52;(with_reducible refine(DM WB _ _ _ H5.out.2.1).mono ?_);rintro e w6 ⟨rfl,hw7⟩;have hw8:=hw7.symm;subst hw8))
   exact VW
  .clear hS3 e2;have HSF:Hid ((Ab ws).1=B7):=Kp HSS.out;have HSY:Hid (Cl c ws=(AQ (c.slots.length:Int) ws).map fun l=>⟨c.sign,c.regs,c.slots++[l],c.list⟩):=by show Cl c ws=_;unfold Cl;rw[HSS.out];rfl
   have KL:=OJ E B WB m0 m1 m2 m3 m4 c _ _ u0 u1 u2 u3 ws V HLV.out HXW.out HRV.out HWV.out HSF.out HBD.2.2.1;rw[<-HSY.out]at KL;have HKL:=A3 KL;clear KL;go_wp2_with(first
    |(go_at_call 50;(with_reducible refine HKL.out.mono ?_);rintro e w5 ⟨rfl,c',y0,y1,y2,y3,ws',b',h5,d5,k5,s5⟩;have H5:=A3 (And.intro h5 (And.intro d5 (And.intro k5 s5)));clear h5 d5 k5 s5)
    |(go_at_call 52;(with_reducible refine(DM WB _ _ _ H5.out.2.1).mono ?_);rintro e w6 ⟨rfl,hw7⟩;have hw8:=hw7.symm;subst hw8))
   exact VW
  .clear hS3 e2;have HSF:Hid True:=Kq HSS.out;have HSY:Hid (Cl c ws=(B3 ws).map fun i=>⟨c.sign,c.regs,c.slots,c.list++[i]⟩):=by show Cl c ws=_;unfold Cl;rw[HSS.out];rfl
   have KL:=OG E B WB m0 m1 m2 m3 m4 c _ _ u0 u1 u2 u3 ws V HLV.out HXW.out HRV.out HWV.out HBD.2.2.2;rw[<-HSY.out]at KL;have HKL:=A3 KL;clear KL;go_wp2_with(first
    |(go_at_call 51;(with_reducible refine HKL.out.mono ?_);rintro e w5 ⟨rfl,c',y0,y1,y2,y3,ws',b',h5,d5,k5,s5⟩;have H5:=A3 (And.intro h5 (And.intro d5 (And.intro k5 s5)));clear h5 d5 k5 s5)
    |(go_at_call 52;(with_reducible refine(DM WB _ _ _ H5.out.2.1).mono ?_);rintro e w6 ⟨rfl,hw7⟩;have hw8:=hw7.symm;subst hw8))
   exact VW
end Go.Proofs.YtjlpkjblkllfbaaGreatDoor
