import Derived.Test.YtbinohkcolcbfaaGreatPart27
import Derived.Test.YtbinohkcolcbfaaGreatPart28
import Derived.Test.YtbinohkcolcbfaaGreatPart29
import Derived.Test.YtbinohkcolcbfaaGreatPart30
import Derived.Test.YtbinohkcolcbfaaGreatPart1
namespace Go.Proofs.YtbinohkcolcbfaaGreat
open Go.RowKit Go.Proofs.Tryz
set_option linter.unusedVariables false
set_option linter.unusedSimpArgs false
set_option maxRecDepth 100000
set_option maxHeartbeats 16000000
abbrev rfV(p0 p1 p2 p3 pr p5 p6 p7 p8:Option Addr)(n0 q0 n1 q1 n2 q2 n3 q3 N qr n5 q5 n6 q6 n7 q7 n8 q8:Nat)(ct:Int):Value:=.agg #[.slice p0 n0 q0,.slice p1 n1 q1,.slice p2 n2 q2,.slice p3 n3 q3,.slice pr N qr,.slice p5 n5 q5,.slice p6 n6 q6,.slice p7 n7 q7,.slice p8 n8 q8,.int .i64 ct]
theorem Zyo{T:Nat->Prop}{c:Cd}{f:Fr}{i:Ins}(hg:Good c)(L:List (List Int))(hL:FitV c L)(hp:Zpp c i.d i.n)(p0 p1 p7:Option Addr)(q0 q1 n7 q7:Nat)(v2 v3:Value)(w:World)(hv:CdV w (.slice p0 c.sign.length q0) (.slice p1 c.regs.length q1) v2 v3 c)(hvc:VcR w (.slice p7 n7 q7) L):
 ∃ (par sb so:Nat) (nm:ByteArray) (K:Int) (len lb lo:Nat) (tk:Int) (vb vo:Nat) (px:Option Addr) (M qx:Nat),p0=some ⟨sb,so,none⟩/\p1=some ⟨lb,lo,none⟩/\par<c.sign.length/\p7=some ⟨vb,vo,none⟩/\par<n7/\n7<=64/\w.cell? ⟨sb,so+par*3,none⟩=some (.string nm)/\w.cell? ⟨sb,so+par*3+1,none⟩=some (.int .i64 K)/\w.cell? ⟨sb,so+par*3+2,none⟩=some (.int .i64 (len:Int))/\w.cell? ⟨lb,lo+i.d.toNat*2,none⟩=some (.int .i64 tk)/\w.cell? ⟨lb,lo+i.d.toNat*2+1,none⟩=some (.int .i64 (par:Int))/\w.cell? ⟨vb,vo+par,none⟩=some (.slice px M qx)/\
  ∀v,Below w.heap.size w v->Calls prog 85 #[.agg #[.string nm,.int .i64 K,.int .i64 (len:Int)],.slice px M qx,.int .i64 i.n] v fun e w'=>∃p' q',e=.returned (.slice p' (Zir c L i).length q')/\NumR w' p' (Zir c L i)/\Below v.heap.size v w'/\∀b o s,p'=some ⟨b,o,s⟩->v.heap.size<=b:=by
 obtain⟨par,hpar,hpl⟩:=Zxf hg hp.r0 hp.r1 hp.kind;have hdl:i.d.toNat<c.regs.length:=by have:=hp.r0;have:=hp.r1;omega
 obtain⟨sb,so,rfl,hs⟩:=hv.sign.at hpl;obtain⟨lb,lo,rfl,hl⟩:=hv.regs.at hdl;obtain⟨p7',c7,e7,hvv⟩:=hvc;simp only[Value.slice.injEq]at e7;obtain⟨rfl,rfl,rfl⟩:=e7;have hpL:par<L.length:=by rw[hL.len];exact hpl
 obtain⟨vb,vo,px,qx,rfl,hcell,hrd⟩:=hvv par hpL;have hln:=Ztu hg hpl;obtain⟨hnum,hlen2,hl1,hl2,hap⟩:=Zot hg hpl;have hk2:Zia c (par:Int)=if c.sign[par].kind=2 then 2 else 1:=by unfold Zia Zkv;simp[hpl]
 have hreg:c.regs[i.d.toNat].par=(par:Int):=by
  have h1:=Zkb hdl;rw[show((i.d.toNat:Nat):Int)=i.d by have:=hp.r0;omega]at h1;rw[←h1];exact hpar
 have hn0:=hp.n0;rw[hpar]at hn0;have hlv:=hL.each par hpL;obtain⟨nn,hnn⟩:∃n:Nat,i.n=(n:Int):=⟨i.n.toNat,oM⟩
 have hnk:nn<Zia c (par:Int):=by
  unfold Zia;rcases hn0 with e|⟨e,e2⟩
  ·have:nn=0:=oM;subst this;split<;>decide
  ·have:nn=1:=oM;subst this;rw[if_pos e2];decide
 refine⟨par,sb,so,c.sign[par].name,c.sign[par].kind,lenOf c (par:Int),lb,lo,c.regs[i.d.toNat].kind,vb,vo,px,L[par].length,qx,rfl,rfl,hpl,rfl,hpL,by rw[hL.len];exact hg.signL,hs.at 0 rfl,hs.at 1 rfl,by rw[hln];exact hs.at 2 rfl,hl.at 0 rfl,by rw[←hreg];exact hl.at 1 rfl,hcell,fun v hb=>?_⟩;have hpp:Zir c L i=Zmp L[par] (Zia c (par:Int)) nn (lenOf c (par:Int)):=by
  unfold Zir Zmp;rw[hpar,hnn];simp only[Int.toNat_natCast];rw[Znq hpL]
 rw[hpp,Zze,hnn];refine(Zadi c.sign[par].name c.sign[par].kind (lenOf c (par:Int)) oM (Zia c (par:Int)) hk2 L[par] (hL.isP _ (List.getElem_mem hpL)) px qx nn hnk (by rw[hlv,hnum];exact Nat.le_refl _) (by rw[hlv,hnum];rcases hap with e|e<;>rw[e]<;>omega) v (hrd.below hb)).mono ?_;exact fun e w' h=>h
theorem Zans{T:Nat->Prop}{c:Cd}{G P:List (List Int)}{f:Fr}{i:Ins}{s:Wk}{X S O:List Cl}(hg:Good c)(ok:OkF c f)(t:Zjb c s i=true)(hb:IsP i.bits)(fg:FitV c G)(fp:FitV c P)(nd:Zlj c f i)(rel:RelR c f X S O)(kn:∀r∈Zid i (rowP i.op),KnR c f X r.toNat)
 (p0 p1 p2 p3 pr p5 p6 p7 p8:Option Addr) (q0 q1 q2 q3 qr q5 q6 q7 q8:Nat) (ct:Int) (w:World) (hT:∀b,T b->b<w.heap.size) (hv:CdV w (.slice p0 c.sign.length q0) (.slice p1 c.regs.length q1) (.slice p2 c.slots.length q2) (.slice p3 c.list.length q3) c) (hcs:CsT T w (.slice pr c.regs.length qr) X) (hss:CsT T w (.slice p5 c.slots.length q5) S) (hoo:OuT T w (.slice p6 O.length q6) O) (hgu:VcR w (.slice p7 G.length q7) G) (hpu:VcR w (.slice p8 P.length q8) P):
 Calls prog 48 #[rfV p0 p1 p2 p3 pr p5 p6 p7 p8 c.sign.length q0 c.regs.length q1 c.slots.length q2 c.list.length q3 c.regs.length qr c.slots.length q5 O.length q6 G.length q7 P.length q8 ct,insV i] w fun e w'=>∃pr' qr' p5' q5' p6' q6' X' S' O',e=.returned (rfV p0 p1 p2 p3 pr' p5' p6' p7 p8 c.sign.length q0 c.regs.length q1 c.slots.length q2 c.list.length q3 c.regs.length qr' c.slots.length q5' O.length q6' G.length q7 P.length q8 ct)/\CsT T w' (.slice pr' c.regs.length qr') X'/\CsT T w' (.slice p5' c.slots.length q5') S'/\OuT T w' (.slice p6' O.length q6') O'/\O'.length=O.length/\Did c G P f i X S O X' S' O'/\Below w.heap.size w w':=by
 obtain⟨hk,h2,_,h4⟩:=Zjw t;have hX:=rel.xl;have hXl:=hg.regsL;have hSl:S.length=c.slots.length:=by have h1:=congrArg List.length rel.sl;rw[List.length_map,ok.slotsL]at h1;exact h1
 have nD:=Zwq (Zoa h2);have nA:=Zwq (Zmj h2);have nB:=Zwq (Zqd h2);have nC:=Zwq (Zqe h2);obtain⟨op,D,A,B,Ec,nn,bt⟩:=i;unfold rfV insV;simp only at hb hk nD nA nB nC;obtain⟨kd,rfl⟩:∃n:Nat,D=(n:Int):=⟨D.toNat,oM⟩
 obtain⟨ka,rfl⟩:∃n:Nat,A=(n:Int):=⟨A.toNat,oM⟩
 obtain⟨kb,rfl⟩:∃n:Nat,B=(n:Int):=⟨B.toNat,oM⟩
 obtain⟨kk,rfl⟩:∃n:Nat,Ec=(n:Int):=⟨Ec.toNat,oM⟩
 have AL:0<c.regs.length->ka<c.regs.length:=fun h=>by have:=(Znx (Zmj h2) h).2;simp only at this;omega
 have BL:0<c.regs.length->kb<c.regs.length:=fun h=>by have:=(Znx (Zqd h2) h).2;simp only at this;omega
 have CL:0<c.regs.length->kk<c.regs.length:=fun h=>by have:=(Znx (Zqe h2) h).2;simp only at this;omega
 have KA:∀x,(rowP op).a≠0->X[ka]? =some x->x.h=rdP c f (ka:Int):=fun x h hx=>kn_r kn (r:=(ka:Int)) (mem_a h) oM hx;have KB:∀x,(rowP op).b≠0->X[kb]? =some x->x.h=rdP c f (kb:Int):=fun x h hx=>kn_r kn (r:=(kb:Int)) (mem_b h) oM hx;have KC:∀x,(rowP op).c≠0->X[kk]? =some x->x.h=rdP c f (kk:Int):=fun x h hx=>kn_r kn (r:=(kk:Int)) (mem_c h) oM hx;have MA:=fun(h:(rowP op).a≠0)=>Zka (Zmj h2) h;have MB:=fun(h:(rowP op).b≠0)=>Zka (Zqd h2) h;have MC:=fun(h:(rowP op).c≠0)=>Zka (Zqe h2) h;have DL:(rowP op).d≠0->kd<c.regs.length:=fun h=>by have:=(Zie (Zoa h2) h).2;simp only at this;omega
 simp only at MA MB MC;rcases Zoz hk with e|e|e|e|e|e|e|e|e
 ·have hop:op=1\/op=16\/op=17\/op=19\/op=20:=by unfold Zlx at e;simp only[Bool.or_eq_true,beq_iff_eq]at e;omega
  rcases hop with rfl|rfl|rfl|rfl|rfl
  ·have hd:(rowP 1).d≠0:=dE;have dl:=DL hd;have hval:(⟨[bt],0⟩:Hd)=valI c G P f ⟨1,(kd:Int),(ka:Int),(kb:Int),(kk:Int),nn,bt⟩:=by rw[Zrp nd rF];rfl
   refine(Zanz p0 p1 p2 p3 p5 p6 p7 p8 c.sign.length q0 c.regs.length q1 c.slots.length q2 c.list.length q3 c.slots.length q5 O.length q6 G.length q7 P.length q8 ct pr qr X c.regs.length hX hXl nn bt kd ka kb kk dl w hT hcs hb).mono ?_;exact Zas
  ·have hd:(rowP 16).d≠0:=dE;have dl:=DL hd;have al:=AL oM;have hxa:X[ka]? =some (X[ka]'oM):=List.getElem?_eq_getElem oM;have hah:=KA _ dE hxa;have hma:=MA dE;have bl:=BL oM;have hxb:X[kb]? =some (X[kb]'oM):=List.getElem?_eq_getElem oM;have hbh:=KB _ dE hxb;have hmb:=MB dE;have ka1:(regT c.regs (ka:Int)).kind=1:=by simpa[Zjk,rowP]using hma
   have kb2:(regT c.regs (kb:Int)).kind=2:=by simpa[Zjk,rowP]using hmb
   rw[rd_1 ka1,Int.toNat_natCast]at hah;rw[rd_2 kb2,Int.toNat_natCast]at hbh;have hval:(⟨[fpow (f.nums ka) (X[kb]'oM).h.whole],0⟩:Hd)=valI c G P f ⟨16,(kd:Int),(ka:Int),(kb:Int),(kk:Int),nn,bt⟩:=by rw[Zrp nd rF,hbh];rfl
   refine(Zaiz p0 p1 p2 p3 p5 p6 p7 p8 c.sign.length q0 c.regs.length q1 c.slots.length q2 c.list.length q3 c.slots.length q5 O.length q6 G.length q7 P.length q8 ct pr qr X c.regs.length hX hXl nn bt kd ka kb kk dl w hT hcs _ hxa _ hxb (f.nums ka) (by rw[hah]) (ok.nums ka) (by rw[hbh];exact ok.whs kb)).mono ?_;exact Zas
  ·have hd:(rowP 17).d≠0:=dE;have dl:=DL hd;have al:=AL oM;have hxa:X[ka]? =some (X[ka]'oM):=List.getElem?_eq_getElem oM;have hah:=KA _ dE hxa;have hma:=MA dE;have ka2:(regT c.regs (ka:Int)).kind=2:=by simpa[Zjk,rowP]using hma
   rw[rd_2 ka2,Int.toNat_natCast]at hah;have hval:(⟨[Zne (X[ka]'oM).h.whole],0⟩:Hd)=valI c G P f ⟨17,(kd:Int),(ka:Int),(kb:Int),(kk:Int),nn,bt⟩:=by rw[Zrp nd rF,hah];rfl
   refine(Zamr p0 p1 p2 p3 p5 p6 p7 p8 c.sign.length q0 c.regs.length q1 c.slots.length q2 c.list.length q3 c.slots.length q5 O.length q6 G.length q7 P.length q8 ct pr qr X c.regs.length hX hXl nn bt kd ka kb kk dl w hT hcs _ hxa (by rw[hah];exact ok.whs ka)).mono ?_;exact Zas
  ·have hd:(rowP 19).d≠0:=dE;have dl:=DL hd;have al:=AL oM;have hxa:X[ka]? =some (X[ka]'oM):=List.getElem?_eq_getElem oM;have hah:=KA _ dE hxa;have hma:=MA dE;have ka3:(regT c.regs (ka:Int)).kind=3:=by simpa[Zjk,rowP]using hma
   rw[rd_3 ka3,Int.toNat_natCast]at hah;have hval:(⟨[fsum (atL (X[ka]'oM).h.pats) (X[ka]'oM).h.pats.length],0⟩:Hd)=valI c G P f ⟨19,(kd:Int),(ka:Int),(kb:Int),(kk:Int),nn,bt⟩:=by rw[Zrp nd rF,hah];rfl
   refine(Zare p0 p1 p2 p3 p5 p6 p7 p8 c.sign.length q0 c.regs.length q1 c.slots.length q2 c.list.length q3 c.slots.length q5 O.length q6 G.length q7 P.length q8 ct pr qr X c.regs.length hX hXl nn bt kd ka kb kk dl w hT hcs _ hxa (by rw[hah];exact ok.vecs ka) (by rw[hah];exact ok.vecsL ka)).mono ?_;exact Zas
  ·have hd:(rowP 20).d≠0:=dE;have dl:=DL hd;have al:=AL oM;have hxa:X[ka]? =some (X[ka]'oM):=List.getElem?_eq_getElem oM;have hah:=KA _ dE hxa;have hma:=MA dE;have ka3:(regT c.regs (ka:Int)).kind=3:=by simpa[Zjk,rowP]using hma
   rw[rd_3 ka3,Int.toNat_natCast]at hah;have hval:(⟨[Zmh (atL (X[ka]'oM).h.pats) (X[ka]'oM).h.pats.length],0⟩:Hd)=valI c G P f ⟨20,(kd:Int),(ka:Int),(kb:Int),(kk:Int),nn,bt⟩:=by rw[Zrp nd rF,hah];rfl
   refine(Zaip p0 p1 p2 p3 p5 p6 p7 p8 c.sign.length q0 c.regs.length q1 c.slots.length q2 c.list.length q3 c.slots.length q5 O.length q6 G.length q7 P.length q8 ct pr qr X c.regs.length hX hXl nn bt kd ka kb kk dl w hT hcs _ hxa (by rw[hah];exact ok.vecs ka) (by rw[hah];exact ok.vecsL ka)).mono ?_;exact Zas
 ·have hop:op=2\/op=18\/(21<=op/\op<=28):=by unfold Zjv at e;simp only[Bool.or_eq_true,Bool.and_eq_true,beq_iff_eq,decide_eq_true_eq]at e;omega
  rcases hop with rfl|rfl|⟨o1,o2⟩
  ·have hd:(rowP 2).d≠0:=dE;have dl:=DL hd;have hval:(⟨[],nn⟩:Hd)=valI c G P f ⟨2,(kd:Int),(ka:Int),(kb:Int),(kk:Int),nn,bt⟩:=by rw[Zts nd rF];rfl
   refine(Zaoj p0 p1 p2 p3 p5 p6 p7 p8 c.sign.length q0 c.regs.length q1 c.slots.length q2 c.list.length q3 c.slots.length q5 O.length q6 G.length q7 P.length q8 ct pr qr X c.regs.length hX hXl nn bt kd ka kb kk dl w hT hcs).mono ?_;exact Zas
  ·have hd:(rowP 18).d≠0:=dE;have dl:=DL hd;have al:=AL oM;have hxa:X[ka]? =some (X[ka]'oM):=List.getElem?_eq_getElem oM;have hah:=KA _ dE hxa;have hma:=MA dE;have ka1:(regT c.regs (ka:Int)).kind=1:=by simpa[Zjk,rowP]using hma
   rw[rd_1 ka1,Int.toNat_natCast]at hah;have hval:(⟨[],Zja (f.nums ka%2147483648 != 0&&decide (f.nums ka%2147483648<=2139095040))⟩:Hd)=valI c G P f ⟨18,(kd:Int),(ka:Int),(kb:Int),(kk:Int),nn,bt⟩:=by rw[Zts nd rF,test_eq];rfl
   refine(Zakn p0 p1 p2 p3 p5 p6 p7 p8 c.sign.length q0 c.regs.length q1 c.slots.length q2 c.list.length q3 c.slots.length q5 O.length q6 G.length q7 P.length q8 ct pr qr X c.regs.length hX hXl nn bt kd ka kb kk dl w hT hcs _ hxa (f.nums ka) (by rw[hah]) (ok.nums ka)).mono ?_;exact Zas
  ·have hrow:(rowP op).d=2/\(rowP op).a=2/\((rowP op).b=0\/(rowP op).b=2)/\((rowP op).c=0\/(rowP op).c=2):=by
    have:op=21\/op=22\/op=23\/op=24\/op=25\/op=26\/op=27\/op=28:=oM;rcases this with rfl|rfl|rfl|rfl|rfl|rfl|rfl|rfl<;>decide
   have hd:(rowP op).d≠0:=by rw[hrow.1];decide
   have dl:=DL hd;have ha0:(rowP op).a≠0:=by rw[hrow.2.1];decide
   have al:=AL oM;have hxa:X[ka]? =some (X[ka]'oM):=List.getElem?_eq_getElem oM;have hah:=KA _ ha0 hxa;have hma:=MA ha0;rw[hrow.2.1]at hma;have ka2:(regT c.regs (ka:Int)).kind=2:=by simpa[Zjk]using hma
   rw[rd_2 ka2,Int.toNat_natCast]at hah;have bl:=BL oM;have hxb:X[kb]? =some (X[kb]'oM):=List.getElem?_eq_getElem oM;have cl:=CL oM;have hxc:X[kk]? =some (X[kk]'oM):=List.getElem?_eq_getElem oM;have hbw:(rowP op).b≠0->(X[kb]'oM).h.whole=f.whs kb:=fun h=>by
    have h1:=MB h;rw[hrow.2.2.1.resolve_left h]at h1;rw[KB _ h hxb,rd_2 (by simpa[Zjk]using h1),Int.toNat_natCast]
   have hcw:(rowP op).c≠0->(X[kk]'oM).h.whole=f.whs kk:=fun h=>by
    have h1:=MC h;rw[hrow.2.2.2.resolve_left h]at h1;rw[KC _ h hxc,rd_2 (by simpa[Zjk]using h1),Int.toNat_natCast]
   have hwa:=(rel.xok _ (List.mem_of_getElem? hxa)).2.2;have hwb:=(rel.xok _ (List.mem_of_getElem? hxb)).2.2;have hval:(⟨[],Zlt op (X[ka]'oM).h.whole (X[kb]'oM).h.whole (X[kk]'oM).h.whole⟩:Hd)=valI c G P f ⟨op,(kd:Int),(ka:Int),(kb:Int),(kk:Int),nn,bt⟩:=by rw[Zts nd e,Zaqm (i:=⟨op,(kd:Int),(ka:Int),(kb:Int),(kk:Int),nn,bt⟩) (f:=f) ⟨o1,o2⟩ (by rw[hah];rfl) hbw hcw]
   refine(Zaim p0 p1 p2 p3 p5 p6 p7 p8 c.sign.length q0 c.regs.length q1 c.slots.length q2 c.list.length q3 c.slots.length q5 O.length q6 G.length q7 P.length q8 ct pr qr X c.regs.length hX hXl op o1 o2 nn bt kd ka kb kk dl w hT hcs _ hxa _ hxb _ hxc hwa hwb).mono ?_;exact Zas
 ·subst e;have hd:(rowP 29).d≠0:=dE;have dl:=DL hd;obtain⟨par,sb,so,nm,K,len,lb,lo,tk,vb,vo,px,M,qx,e0,e1,e2,e3,e4,e5,s0,s1,s2,t0,t1,u0,hkp⟩:=Zyo (T:=T) (f:=f) (i:=⟨29,(kd:Int),(ka:Int),(kb:Int),(kk:Int),nn,bt⟩) hg G fg (nd.part (.inl rfl)) _ _ _ _ _ _ _ _ _ w hv hgu;simp only[Int.toNat_natCast]at t0 t1 hkp;have hval:(⟨Zir c G ⟨29,(kd:Int),(ka:Int),(kb:Int),(kk:Int),nn,bt⟩,0⟩:Hd)=valI c G P f ⟨29,(kd:Int),(ka:Int),(kb:Int),(kk:Int),nn,bt⟩:=by rw[val_29 nd rfl]
  refine(Zajp p0 p1 p2 p3 p5 p6 p7 p8 c.sign.length q0 c.regs.length q1 c.slots.length q2 c.list.length q3 c.slots.length q5 O.length q6 G.length q7 P.length q8 ct pr qr X c.regs.length hX hXl nn bt kd ka kb kk dl w hT hcs par sb so nm K len lb lo tk vb vo px M qx (Zir c G ⟨29,(kd:Int),(ka:Int),(kb:Int),(kk:Int),nn,bt⟩) e0 e1 e2 dl e3 e4 s0 s1 s2 t0 t1 u0 hXl hg.signL e5 hkp).mono ?_;exact Zas
 ·subst e;have hd:(rowP 30).d≠0:=dE;have dl:=DL hd;obtain⟨par,sb,so,nm,K,len,lb,lo,tk,vb,vo,px,M,qx,e0,e1,e2,e3,e4,e5,s0,s1,s2,t0,t1,u0,hkp⟩:=Zyo (T:=T) (f:=f) (i:=⟨30,(kd:Int),(ka:Int),(kb:Int),(kk:Int),nn,bt⟩) hg P fp (nd.part (.inr rfl)) _ _ _ _ _ _ _ _ _ w hv hpu;simp only[Int.toNat_natCast]at t0 t1 hkp;have hval:(⟨Zir c P ⟨30,(kd:Int),(ka:Int),(kb:Int),(kk:Int),nn,bt⟩,0⟩:Hd)=valI c G P f ⟨30,(kd:Int),(ka:Int),(kb:Int),(kk:Int),nn,bt⟩:=by rw[val_30 nd rfl]
  refine(Zaid p0 p1 p2 p3 p5 p6 p7 p8 c.sign.length q0 c.regs.length q1 c.slots.length q2 c.list.length q3 c.slots.length q5 O.length q6 G.length q7 P.length q8 ct pr qr X c.regs.length hX hXl nn bt kd ka kb kk dl w hT hcs par sb so nm K len lb lo tk vb vo px M qx (Zir c P ⟨30,(kd:Int),(ka:Int),(kb:Int),(kk:Int),nn,bt⟩) e0 e1 e2 dl e3 e4 s0 s1 s2 t0 t1 u0 hXl hg.signL e5 hkp).mono ?_;exact Zas
 ·subst e;obtain⟨hp,hlen⟩:=nd.out rfl;obtain⟨par,hpar,hpl⟩:=Zxf hg hp.r0 hp.r1 hp.kind;simp only at hp hpar;have al:ka<c.regs.length:=by have:=hp.r1;omega
  have hxa:X[ka]? =some (X[ka]'oM):=List.getElem?_eq_getElem oM;have hn0:=hp.n0;obtain⟨kq,rfl⟩:∃n:Nat,nn=(n:Int):=⟨nn.toNat,oM⟩
  obtain⟨lb,lo,e1,hl⟩:=hv.regs.at al;have hreg:c.regs[ka].par=(par:Int):=by rw[←Zkb al];exact hpar
  refine(Zaoa p0 p1 p2 p3 p5 p6 p7 p8 c.sign.length q0 c.regs.length q1 c.slots.length q2 c.list.length q3 c.slots.length q5 O.length q6 G.length q7 P.length q8 ct pr qr X c.regs.length hX hXl (kq:Int) bt kd ka kb kk w hT hcs _ hxa kq rfl oM par lb lo (c.regs[ka].kind) e1 al (by rw[←hreg];exact hl.at 1 rfl) O rfl (by rw[rel.ol];have:=hg.signL;omega) (by rw[rel.ol];omega) hoo).mono ?_;rintro e w' ⟨p9,q9,rfl,hc,hbl⟩;exact⟨pr,qr,p5,q5,p9,q9,X,S,_,rfl,hcs.below hbl,hss.below hbl,hc,by rw[List.length_set],.inr (.inr (.inl ⟨rfl,rfl,rfl,_,hxa,by simp only[hpar,Int.toNat_natCast]⟩)),hbl⟩
 ·subst e;have hd:(rowP 32).d≠0:=dE;have dl:=DL hd;obtain⟨d0,d1,m0,m1,ht⟩:=nd.load rfl;simp only at m0 m1;obtain⟨ks,hks⟩:∃n:Nat,nn=(n:Int):=⟨nn.toNat,oM⟩
  have hksl:ks<S.length:=oM;have hxs:S[ks]? =some (S[ks]'hksl):=List.getElem?_eq_getElem hksl;have hval:(S[ks]'hksl).h=valI c G P f ⟨32,(kd:Int),(ka:Int),(kb:Int),(kk:Int),nn,bt⟩:=by
   rw[val_32 ok nd rfl rel.sz,←rel.sl];simp only[hks,Int.toNat_natCast,List.getElem?_map,hxs,Option.map_some,Option.getD_some]
  refine(Zalw p0 p1 p2 p3 p5 p6 p7 p8 c.sign.length q0 c.regs.length q1 c.slots.length q2 c.list.length q3 c.slots.length q5 O.length q6 G.length q7 P.length q8 ct pr qr X c.regs.length hX hXl nn bt kd ka kb kk dl w hT hcs ks hks _ S hSl hg.slotsL hss hxs).mono ?_;exact Zas
 ·subst e;obtain⟨a0,a1,m0,m1,ht,hs⟩:=nd.store rfl;simp only at a0 a1 m0 m1;have al:ka<c.regs.length:=oM;have hxa:X[ka]? =some (X[ka]'oM):=List.getElem?_eq_getElem oM;obtain⟨ks,hks⟩:∃n:Nat,nn=(n:Int):=⟨nn.toNat,oM⟩
  refine(Zahk p0 p1 p2 p3 p5 p6 p7 p8 c.sign.length q0 c.regs.length q1 c.slots.length q2 c.list.length q3 c.slots.length q5 O.length q6 G.length q7 P.length q8 ct pr qr X c.regs.length hX hXl nn bt kd ka kb kk w hT hcs _ hxa ks hks S hSl hg.slotsL oM hss).mono ?_;rintro e w' ⟨p9,q9,rfl,hc,hbl⟩;exact⟨pr,qr,p9,q9,p6,q6,X,_,O,rfl,hcs.below hbl,hc,hoo.below hbl,rfl,.inr (.inl ⟨rfl,rfl,⟨_,hxa,by simp only[hks,Int.toNat_natCast]⟩,rfl⟩),hbl⟩
 ·refine(Zaji p0 p1 p2 p3 p5 p6 p7 p8 c.sign.length q0 c.regs.length q1 c.slots.length q2 c.list.length q3 c.slots.length q5 O.length q6 G.length q7 P.length q8 ct pr qr X c.regs.length hX hXl op e.1 e.2 nn bt kd ka kb kk w hT hcs).mono ?_;rintro e' w' ⟨rfl,hbl⟩;exact⟨pr,qr,p5,q5,p6,q6,X,S,O,rfl,hcs.below hbl,hss.below hbl,hoo.below hbl,rfl,.inr (.inr (.inr ⟨e,rfl,rfl,rfl⟩)),hbl⟩
 ·have hop:3<=op/\op<=15:=by unfold Zjj at e;simpa using e
  obtain⟨o1,o2⟩:=hop;have hd:(rowP op).d≠0:=by
   exact Zcq
  have ha0:(rowP op).a≠0:=by
   exact Zcq
  have dl:=DL hd;have al:=AL oM;have bl:=BL oM;have cl:=CL oM;have hxa:X[ka]? =some (X[ka]'oM):=List.getElem?_eq_getElem oM;have hxb:X[kb]? =some (X[kb]'oM):=List.getElem?_eq_getElem oM;have hxc:X[kk]? =some (X[kk]'oM):=List.getElem?_eq_getElem oM;have hah:=KA _ ha0 hxa;have hty:regT c.regs (kd:Int)=c.regs[kd]:=Zkb dl;by_cases hk2:(regT c.regs (kd:Int)).kind=2
  ·have hra:(regT c.regs (ka:Int)).kind=2:=by
    obtain⟨_,_,_,hr⟩:=nd.elem e;obtain⟨_,_,_,h⟩:=hr (ka:Int) (mem_a ha0);rcases h with h|⟨_,h⟩
    ·rw[h];exact hk2
    ·simp only at h;omega
   have hval:(X[ka]'oM).h=valI c G P f ⟨op,(kd:Int),(ka:Int),(kb:Int),(kk:Int),nn,bt⟩:=by
    rw[Zalg e hk2,hah,rd_2 hra]
   refine(Zaep p0 p1 p2 p3 p5 p6 p7 p8 c.sign.length q0 c.regs.length q1 c.slots.length q2 c.list.length q3 c.slots.length q5 O.length q6 G.length q7 P.length q8 ct pr qr X c.regs.length hX hXl op o1 o2 nn bt kd ka kb kk dl w hT hcs (X[ka]'oM).h (fun v hbv hsv=>?_)).mono ?_
   ·refine(Zww c hg _ _ _ _ _ _ _ _ _ _ X hX op nn bt _ _ kd ka dl oM (by rw[←hty];exact hk2) v (hv.below hbv) (hcs.cs.below hbv)).mono ?_;rintro e' w' ⟨rfl,-,hbl⟩;exact⟨X[ka]'oM,rfl,rfl,(Zvr (hcs.nums _ (List.mem_of_getElem? hxa)) hbv).below hbl,hbl⟩
   ·exact Zas
  ·obtain⟨w1,w2,w3⟩:=Zpk hg ok e nd hk2;have hargs:=arg3_eq (i:=⟨op,(kd:Int),(ka:Int),(kb:Int),(kk:Int),nn,bt⟩) (c:=c) (f:=f) e hah (fun h=>KB _ h hxb) (fun h=>KC _ h hxc);have htr:=Zpf ⟨op,(kd:Int),(ka:Int),(kb:Int),(kk:Int),nn,bt⟩ e;have hal:(Zji c f ⟨op,(kd:Int),(ka:Int),(kb:Int),(kk:Int),nn,bt⟩).length=Zjq op:=by unfold Zji;rw[List.length_map];exact htr.1.symm
   obtain⟨n,hn,hn2⟩:=Ztp (l:=lF (Zji c f ⟨op,(kd:Int),(ka:Int),(kb:Int),(kk:Int),nn,bt⟩)) w1 ((Zji c f ⟨op,(kd:Int),(ka:Int),(kb:Int),(kk:Int),nn,bt⟩).length-1) (fun k hk=>by
    have htn:=htr.2;simp only at htn;unfold lF;rw[Znq oM];unfold Zji;rw[List.getElem_map]
    exact(w2 _ (List.getElem_mem _)).2.2.1)
   have hwd:=hg.width (regT c.regs (kd:Int));simp only at w1 hn2;have hval:(⟨elR (if(regT c.regs (kd:Int)).kind=3 then lenOf c (regT c.regs (kd:Int)).par else 1) (appP op (Zji c f ⟨op,(kd:Int),(ka:Int),(kb:Int),(kk:Int),nn,bt⟩)),0⟩:Hd)=valI c G P f ⟨op,(kd:Int),(ka:Int),(kb:Int),(kk:Int),nn,bt⟩:=by
    rw[Zane hg ok nd e hk2]
   refine(Zaep p0 p1 p2 p3 p5 p6 p7 p8 c.sign.length q0 c.regs.length q1 c.slots.length q2 c.list.length q3 c.slots.length q5 O.length q6 G.length q7 P.length q8 ct pr qr X c.regs.length hX hXl op o1 o2 nn bt kd ka kb kk dl w hT hcs ⟨elR (if(regT c.regs (kd:Int)).kind=3 then lenOf c (regT c.regs (kd:Int)).par else 1) (appP op (Zji c f ⟨op,(kd:Int),(ka:Int),(kb:Int),(kk:Int),nn,bt⟩)),0⟩ (fun v hbv hsv=>?_)).mono ?_
   ·rw[hal,←hargs]at hn;have K:=Zzw c hg (.slice p0 c.sign.length q0) (.slice p1 c.regs.length q1) (.slice p2 c.slots.length q2) (.slice p3 c.list.length q3) (.slice pr c.regs.length qr) (.slice p5 c.slots.length q5) (.slice p6 O.length q6) (.slice p7 G.length q7) (.slice p8 P.length q8) (.int .i64 ct) X hX op nn bt kd ka kb kk dl oM oM oM (by rw[←hty];exact hk2) (fun h=>hg.type (List.getElem_mem dl) h) (Zjq op) rfl htr.2 n hn oM oM (fun x hx=>(rel.xok x hx).1) (fun x hx=>(rel.xok x hx).2.1) v (hv.below hbv) (hcs.cs.below hbv);simp only at hargs;rw[hargs,←hty]at K;refine K.mono ?_;rintro e' w' ⟨pe,qe,rfl,hne,hbl,hle⟩;exact⟨⟨pe,qe,⟨_,0⟩⟩,rfl,rfl,NumR.free (B:=v.heap.size) hne hle (fun b hb=>Zlk hT hb hsv),hbl⟩
   ·exact Zas
def PatA(v:World)(sv:Value)(p:Option Addr)(l:List Int):Prop:=l=[]\/∃b o,p=some ⟨b,o,none⟩/\sv.ownBlock≠some b/\∀j,j<l.length->v.cell? ⟨b,o+j,none⟩=some (.int .u32 (atL l j))
theorem PatA.below{v v':World}{sv:Value}{p:Option Addr}{l:List Int}(h:PatA v sv p l)(k:Below v.heap.size v v'):PatA v' sv p l:=by
 rcases h with rfl|⟨b,o,e,hn,h⟩
 ·exact .inl rfl
 ·exact .inr ⟨b,o,e,hn,fun j hj=>kc k (h j hj)⟩
theorem PatA.grow{V w':World}{p:Option Addr}{n q g c' m:Nat}{pp:Option Addr}{l:List Int}(h:PatA V (.slice p n q) pp l)(hk:∀b,b<V.heap.size->(Value.slice p n q).ownBlock≠some b->w'.heap[b]? =V.heap[b]?)(hg:(Value.slice p n q).ownBlock=some g\/V.heap.size<g):PatA w' (.slice (some ⟨g,0,none⟩) m c') pp l:=by
 exact Zcm
structure Cu where
 p:Option Addr
 q:Nat
 l:List Int
def cuC(x:Cu):List Value:=[.slice x.p x.l.length x.q]
theorem cuC_len(x:Cu):(cuC x).length=1:=rfl
theorem cuC_one:∀x:Cu,∀u∈cuC x,u.oneCell'=true:=fun x u hu=>by simp[cuC]at hu;subst hu;rfl
theorem info_Fs:(prog.info? 57).map (fun i=>(i.zero,i.size,i.bytes))=some (some (.slice none 0 0),1,24):=kR
structure VsO(B:Nat)(v:World)(sv:Value)(X:List Cu):Prop where
 own:v.ownsRow B 57 1 sv X.length (flat cuC X)
 pats:∀x∈X,PatA v sv x.p x.l
 loc:∀x∈X,∀b o s,x.p=some ⟨b,o,s⟩->B<=b
theorem VsO.below{B:Nat}{v v':World}{sv:Value}{X:List Cu}(h:VsO B v sv X)(k:Below v.heap.size v v'):VsO B v' sv X:=⟨Ziu h.own k,fun x hx=>(h.pats x hx).below k,h.loc⟩
theorem VsO.nil(B:Nat)(v:World):VsO B v (.slice none 0 0) []:=⟨World.ownsRow_nil _ _ _ 1,fun x hx=>(by cases hx),fun x hx=>(by cases hx)⟩
theorem VsO.push{B:Nat}{V:World}{p:Option Addr}{q:Nat}{X:List Cu}(h:VsO B V (.slice p X.length q) X)(hB:B<=V.heap.size)(hX:X.length<=16384)(x:Cu)(hx:PatA V (.slice p X.length q) x.p x.l)(hlo:∀b o s,x.p=some ⟨b,o,s⟩->B<=b)(ty:TypeId):
 ∃g c' w',(Builtin.append_ #[47,47] ty #[.slice p X.length q,.slice (some ⟨V.heap.size,0,none⟩) 1 1]).run prog (V.alloc (.cells #[.slice x.p x.l.length x.q] 57))=.ok (.slice (some ⟨g,0,none⟩) (X.length+1) c') w'/\Below B V w'/\VsO B w' (.slice (some ⟨g,0,none⟩) (X.length+1) c') (X++[x]):=by
 obtain⟨g,c',w',hr,hb,ho,hk,hg⟩:=Zaat (V:=V) underlying47 info_Fs rfl dE h.own hB #[.slice x.p x.l.length x.q] rfl (fun u hu=>cuC_one x u hu) mL oM ty;refine⟨g,c',w',hr,hb,⟨?_,fun y hy=>?_,fun y hy=>?_⟩⟩
 ·rw[List.length_append,Zrj];exact ho
 ·rcases List.mem_append.1 hy with e|e
  ·exact(h.pats y e).grow hk hg
  ·simp only[List.mem_singleton]at e;subst e;exact hx.grow hk hg
 ·rcases List.mem_append.1 hy with e|e
  ·exact h.loc y e
  ·simp only[List.mem_singleton]at e;subst e;exact hlo
theorem VsO.vs{B:Nat}{v:World}{sv:Value}{X:List Cu}(h:VsO B v sv X):VsT (fun b=>b<B) v sv (X.map (·.l)):=by
 obtain⟨p,q,rfl,hr⟩:=Zny cuC_len h.own;have hlo:=Znt h.own;refine⟨p,q,by rw[List.length_map],?_⟩;by_cases h0:X=[]
 ·exact .inl (by rw[h0];rfl)
 ·rcases hr with e|⟨b,o,e,hc⟩
  ·exact absurd e h0
  ·have hl:=List.length_pos_iff.2 h0;have hb:b<v.heap.size:=by
    have:=(hc 0 hl).at 0 (v:=.slice (X[0]).p (X[0]).l.length (X[0]).q) rfl;exact Zhr this
   refine .inr ⟨b,o,e,fun k=>by have:=hlo b o none e;omega,hb,fun i hi=>?_⟩;rw[List.length_map]at hi;have hci:=(hc i hi).at 0 (v:=.slice (X[i]).p (X[i]).l.length (X[i]).q) rfl;rw[Nat.mul_one,Nat.add_zero]at hci;refine⟨_,hci,(X[i]).p,(X[i]).q,sM,?_⟩;rw[List.getElem_map];rcases h.pats _ (List.getElem_mem hi)with e2|⟨b2,o2,e2,-,h2⟩
   ·exact .inl e2
   ·by_cases h3:(X[i]).l=[]
    ·exact .inl h3
    ·refine .inr ⟨b2,o2,e2,fun k=>by have:=h.loc _ (List.getElem_mem hi) b2 o2 none e2;omega,Zhr (h2 0 (List.length_pos_iff.2 h3)),fun k hk j hj=>?_⟩;have hj0:j=0:=by have:j<1:=hj;omega
     subst hj0;rw[Nat.mul_one,Nat.add_zero,h2 k hk];simp[ptC,atL,List.getElem?_eq_getElem hk]
def updU(c:Cd)(f:Fr)(p:Nat):List Int:=(List.range (Zje c p)).map (f.outs p)
theorem updP_eq(c:Cd)(f:Fr):updP c f=(List.range c.sign.length).map (updU c f):=rfl
theorem Znp{α:Type}(g:Nat->α)(n:Nat):(List.range (n+1)).map g=(List.range n).map g++[g n]:=by simp[List.range_succ]
theorem Zaol(c:Cd)(hg:Good c)(v0 v1 v2 v3 ru su ou gu pu ct:Value)(f:Fr)(X S O:List Cl)(rel:RelR c f X S O)(w:World)(hv:CdV w v0 v1 v2 v3 c)(hou:OuV w ou O):
 Calls prog 49 #[.agg #[v0,v1,v2,v3,ru,su,ou,gu,pu,ct]] w fun e w'=>∃p q,e=.returned (.slice p c.sign.length q)/\VsT (fun b=>b<w.heap.size) w' (.slice p c.sign.length q) (updP c f)/\Below w.heap.size w w':=by
 have hsl:=hg.signL;have hol:=rel.ol;obtain⟨p0,q0,rfl,-⟩:=id hv.sign;obtain⟨po,qo,rfl,-⟩:=id hou.row;have HSG:Hid (RowG 3 Zjc w (.slice p0 c.sign.length q0) c.sign):=hv.sign;have HOU:Hid (OuV w (.slice po O.length qo) O):=hou;have HRL:Hid (Good c/\RelR c f X S O):=⟨hg,rel⟩
 obtain⟨n0,hn0⟩:∃n,c.sign.length=n:=⟨_,rfl⟩
 have HN0:Hid (c.sign.length=n0):=hn0;obtain⟨M,hM⟩:∃n,O.length=n:=⟨_,rfl⟩
 have HM:Hid (O.length=M/\M=2*n0):=⟨hM,oM⟩
 rw[hn0]at hsl HSG ⊢;rw[hM]at HOU ⊢;have HC:Hid (∀v,Below (w.alloc (.cells #[.slice p0 n0 q0,v1,v2,v3,ru,su,.slice po M qo,gu,pu,ct] 125)).heap.size (w.alloc (.cells #[.slice p0 n0 q0,v1,v2,v3,ru,su,.slice po M qo,gu,pu,ct] 125)) v->v.cell? ⟨w.heap.size,0,none⟩=some (.slice p0 n0 q0)/\v.cell? ⟨w.heap.size,6,none⟩=some (.slice po M qo)):=fun v hb=>⟨kc hb sG,kc hb sG⟩
 have hM2:M<=128:=oM;clear hg rel hol hv hou hn0 hM;go_enter func49,ntmps49;go_wp2
 go_loopw [3,4] (fun ov iv wr=>Below (w.alloc (.cells #[.slice p0 n0 q0,v1,v2,v3,ru,su,.slice po M qo,gu,pu,ct] 125)).heap.size (w.alloc (.cells #[.slice p0 n0 q0,v1,v2,v3,ru,su,.slice po M qo,gu,pu,ct] 125)) wr/\∃ (j:Nat) (p:Option Addr) (q:Nat) (Y:List Cu),j<=n0/\iv=.int .i64 (j:Int)/\ov=.slice p j q/\Hid (VsO (w.alloc (.cells #[.slice p0 n0 q0,v1,v2,v3,ru,su,.slice po M qo,gu,pu,ct] 125)).heap.size wr (.slice p j q) Y)/\Hid (Y.map (·.l)=(List.range j).map (updU c f))) (fun _ iv _=>n0-(intOf iv).toNat)
 case atStart=>exact⟨bel0 _,0,none,0,[],Nat.zero_le _,rfl,rfl,VsO.nil _ _,rfl⟩
 case round=>
  obtain⟨hb,j,p,q,Y,hj,rfl,rfl,hvs,hmap⟩:=hrel;obtain⟨c0,c6⟩:=HC.out wr hb;have HYL:Hid (Y.length=j):=by
   have h5:=congrArg List.length hmap.out;rw[List.length_map,List.length_map,List.length_range]at h5;exact h5
  by_cases hlt:j<n0
  ·have hjl:j<c.sign.length:=by rw[HN0.out];exact hlt
   have hol:2*j<O.length:=by rw[HM.out.1,HM.out.2];omega
   obtain⟨lb,lo,rfl,hx⟩:=HSG.out.at hjl;obtain⟨ob,oo,rfl,hxo⟩:=HOU.out.row.at hol;have HB:Hid (Below (w.alloc (.cells #[.slice (some ⟨lb,lo,none⟩) n0 q0,v1,v2,v3,ru,su,.slice (some ⟨ob,oo,none⟩) M qo,gu,pu,ct] 125)).heap.size (w.alloc (.cells #[.slice (some ⟨lb,lo,none⟩) n0 q0,v1,v2,v3,ru,su,.slice (some ⟨ob,oo,none⟩) M qo,gu,pu,ct] 125)) wr):=hb;have HBW:Hid (Below w.heap.size w wr):=bel (Zhq _ _) hb;have hln:=Ztu HRL.out.1 hjl;obtain⟨hnum,-,hl1,hl2,hap⟩:=Zot HRL.out.1 hjl;have hk2:Zia c (j:Int)=if c.sign[j].kind=2 then 2 else 1:=by unfold Zia Zkv;simp[hjl]
   obtain⟨o1,ho1,ho2,ho3,ho4⟩:=HRL.out.2.oo j 0 hjl oM;rw[Nat.add_zero,List.getElem?_eq_getElem hol]at ho1;simp only[Option.some.injEq]at ho1;rw[ho1]at hxo;have hno:=HOU.out.nums o1 (by rw[←ho1];exact List.getElem_mem hol);obtain⟨⟨nm,K,L⟩,hT⟩:∃t:Par,c.sign[j]=t:=⟨_,rfl⟩
   rw[hT]at hx hln hl1 hl2 hk2;simp only at hln hl1 hl2 hk2;obtain⟨ln,hlnn⟩:∃n,lenOf c (j:Int)=n:=⟨_,rfl⟩
   rw[hlnn]at ho2 ho4 hln hnum;subst hln;have hlnb:ln<=4096:=oM;have u1:wr.cell? ⟨ob,oo+2*j,none⟩=some (.slice o1.p ln o1.q):=by
    have h1:=kc HBW.out (hxo.at 0 (v:=.slice o1.p o1.h.pats.length o1.q) rfl);rw[Nat.mul_one,Nat.add_zero,ho2]at h1;exact h1
   obtain⟨nb,no,hpe,hnc⟩:∃b o,o1.p=some ⟨b,o,none⟩/\∀m,m<o1.h.pats.length->w.cell? ⟨b,o+m,none⟩=some (.int .i64 (atL o1.h.pats m)):=by
    rcases hno with e|⟨b,o,e,h⟩
    ·omega
    ·exact⟨b,o,e,h⟩
   rw[hpe]at u1;have y0:=kc HBW.out (hx.at 0 rfl);have y1:=kc HBW.out (hx.at 1 rfl);have y2:=kc HBW.out (hx.at 2 rfl);rw[Nat.add_zero]at y0;have i1:(0:Int)<=(j:Int):=oM;have i2:(j:Int)<(n0:Int):=oM;have w1:IntKind.i64.wrap (2*(j:Int))=((2*j:Nat):Int):=by rw[IntKind.wrap_i64];omega
   have i3:(0:Int)<=((2*j:Nat):Int):=oM;have i4:((2*j:Nat):Int)<(M:Int):=by have:=HM.out.2;omega
   clear hb ho1 hol hxo hno hl1 hl2 hlnn hpe;by_cases hK:K=2
   ·rw[if_pos hK]at hk2;have hKb:(K==2)=true:=by simpa using hK
    have hol2:2*j+1<O.length:=by rw[HM.out.1,HM.out.2];omega
    obtain⟨ob',oo',hpo',hxo2⟩:=HOU.out.row.at hol2;simp only[Option.some.injEq,Addr.mk.injEq,and_true]at hpo';obtain⟨rfl,rfl⟩:=hpo';obtain⟨o2,ho1',hp2,hp3,hp4⟩:=HRL.out.2.oo j 1 hjl oM;rw[List.getElem?_eq_getElem hol2]at ho1';simp only[Option.some.injEq]at ho1';rw[ho1']at hxo2;have hno2:=HOU.out.nums o2 (by rw[←ho1'];exact List.getElem_mem hol2);have hlnn:lenOf c (j:Int)=ln:=by have h1:=hnum;first|(have:=Ztu HRL.out.1 hjl;rw[hT]at this;simp only at this;omega)
    rw[hlnn]at hp2 hp4;have u2:wr.cell? ⟨ob,oo+(2*j+1),none⟩=some (.slice o2.p ln o2.q):=by
     have h1:=kc HBW.out (hxo2.at 0 (v:=.slice o2.p o2.h.pats.length o2.q) rfl);rw[Nat.mul_one,Nat.add_zero,hp2]at h1;exact h1
    obtain⟨nb2,no2,hpe2,hnc2⟩:∃b o,o2.p=some ⟨b,o,none⟩/\∀m,m<o2.h.pats.length->w.cell? ⟨b,o+m,none⟩=some (.int .i64 (atL o2.h.pats m)):=by
     rcases hno2 with e|⟨b,o,e,h⟩
     ·have:=HRL.out.1.len _ (List.getElem_mem hjl);rw[hT]at this;simp only at this;omega
     ·exact⟨b,o,e,h⟩
    rw[hpe2]at u2;have w2:IntKind.i64.wrap (((2*j:Nat):Int)+1)=((2*j+1:Nat):Int):=by rw[IntKind.wrap_i64];omega
    have i5:(0:Int)<=((2*j+1:Nat):Int):=oM;have i6:((2*j+1:Nat):Int)<(M:Int):=by have:=HM.out.2;omega
    replace hap:Zia c (j:Int)=2:=hk2
    clear ho1' hol2 hxo2 hno2 hlnn hpe2 hk2 hK hT hjl;have HV1:Hid (∀m,m<ln->wr.cell? ⟨nb,no+m,none⟩=some (.int .i64 (f.outs j (2*m)))):=fun m hm=>by
     have h1:=kc HBW.out (hnc m (by rw[ho2];exact hm));rw[ho4 m hm]at h1;rw[hap]at h1;exact h1
    have HP1:Hid (∀m,m<ln->IsP (f.outs j (2*m))):=fun m hm=>by
     have h1:=Zke ho3 m;rw[ho4 m hm]at h1;rw[hap]at h1;exact h1
    have HV2:Hid (∀m,m<ln->wr.cell? ⟨nb2,no2+m,none⟩=some (.int .i64 (f.outs j (2*m+1)))):=fun m hm=>by
     have h1:=kc HBW.out (hnc2 m (by rw[hp2];exact hm));rw[hp4 m hm,hap]at h1;exact h1
    have HP2:Hid (∀m,m<ln->IsP (f.outs j (2*m+1))):=fun m hm=>by
     have h1:=Zke hp3 m;rw[hp4 m hm,hap]at h1;exact h1
    have HUU:Hid (updU c f j=(List.range (2*ln)).map (f.outs j)):=by
     show _=_;unfold updU;rw[hnum,hap]
    have b6:=fun v (hb:Below wr.heap.size wr v)=>kc hb c6;have b7:=fun v (hb:Below wr.heap.size wr v)=>kc hb u1;have b8:=fun v (hb:Below wr.heap.size wr v)=>kc hb u2;have HB6:Hid _:=b6;have HB7:Hid _:=b7;have HB8:Hid _:=b8;clear ho2 ho3 ho4 hnc hx hap hnum b6 b7 hp2 hp3 hp4 hnc2 b8;go_wp2;have HEC:Hid (∀v,Below (wr.alloc (.cells #[.string nm,.int .i64 K,.int .i64 (ln:Int)] 66)).heap.size (wr.alloc (.cells #[.string nm,.int .i64 K,.int .i64 (ln:Int)] 66)) v->v.cell? ⟨wr.heap.size,1,none⟩=some (.int .i64 K)/\v.cell? ⟨wr.heap.size,2,none⟩=some (.int .i64 (ln:Int))/\Below wr.heap.size wr v):=fun v hb=>⟨kc hb sG,kc hb sG,bel (Zhq _ _) hb⟩
    have hEs:wr.heap.size<(wr.alloc (.cells #[.string nm,.int .i64 K,.int .i64 (ln:Int)] 66)).heap.size:=sM;obtain⟨WE,hWE⟩:∃W,(wr.alloc (.cells #[.string nm,.int .i64 K,.int .i64 (ln:Int)] 66))=W:=⟨_,rfl⟩
    rw[hWE]at HEC hEs;try rw[hWE]
    clear hWE c0 c6 y0 y1 y2 u1 u2
    go_loopw [6,7] (fun vv kv wx=>Below WE.heap.size WE wx/\∃ (m:Nat) (pv:Option Addr) (qv:Nat),m<=ln/\kv=.int .i64 (m:Int)/\vv=.slice pv (2*m) qv/\Hid (wx.ownsRow WE.heap.size 43 1 (.slice pv (2*m) qv) (2*m) (patC ((List.range (2*m)).map (f.outs j))))) (fun _ kv _=>ln-(intOf kv).toNat)
    case atStart=>exact⟨bel0 _,0,none,0,Nat.zero_le _,rfl,rfl,World.ownsRow_nil _ _ _ 1⟩
    case round=>
     obtain⟨hbx,m,pv,qv,hm,rfl,rfl,how⟩:=hrel;rename World=>wx;obtain⟨e1,e2,hbw⟩:=HEC.out wx hbx;have HBX:Hid (Below WE.heap.size WE wx):=hbx;have c6:=HB6.out wx hbw;have u1:=HB7.out wx hbw;have u2:=HB8.out wx hbw;by_cases hml:m<ln
     ·have a1:=kc hbw (HV1.out m hml);have hPz:=HP1.out m hml;have a2:=kc hbw (HV2.out m hml);have hPy:=HP2.out m hml;obtain⟨z,hz⟩:∃z,f.outs j (2*m)=z:=⟨_,rfl⟩
      have HZ:Hid (f.outs j (2*m)=z):=hz;rw[hz]at a1 hPz;have tz:IntKind.u32.wrap z=z:=by rw[IntKind.wrap_u32];have:=hPz.1;have:=hPz.2;omega
      obtain⟨g,c',w8,hap1,hb8,ho8,-⟩:=Zpb (V:=wx) underlying57 Zsr rfl dE how.out hbx.size #[.int .u32 z] rfl Zga mL oM 57;have HAP1:Hid _:=hap1;obtain⟨y,hy⟩:∃z,f.outs j (2*m+1)=z:=⟨_,rfl⟩
      have HY:Hid (f.outs j (2*m+1)=y):=hy;rw[hy]at a2 hPy;have ty:IntKind.u32.wrap y=y:=by rw[IntKind.wrap_u32];have:=hPy.1;have:=hPy.2;omega
      have hb8':=hbx.trans hb8;obtain⟨g2,c2,w9,hap2,hb9,ho9,-⟩:=Zpb (V:=w8) underlying57 Zsr rfl dE ho8 hb8'.size #[.int .u32 y] rfl Zga mL oM 57;have HAP2:Hid _:=hap2;have HNX:Hid (w9.ownsRow WE.heap.size 43 1 (.slice (some ⟨g2,0,none⟩) (2*(m+1)) c2) (2*(m+1)) (patC ((List.range (2*(m+1))).map (f.outs j)))):=by
       show World.ownsRow _ _ _ _ _ _ _;rw[show 2*(m+1)=2*m+1+1 by omega,Znp,Znp,Zra,Zra,HZ.out,HY.out];exact ho9
      have HB9:Hid (Below WE.heap.size WE w9):=hb8'.trans hb9;obtain⟨e3,e4,hbw8⟩:=HEC.out w8 hb8';have k6:=HB6.out w8 hbw8;have k7:=HB8.out w8 hbw8;have k8:=kc hbw8 (HV2.out m hml);rw[hy]at k8;have t0:(m:Int)<(ln:Int):=oM;have t5:IntKind.i64.wrap ((m:Int)+1)=((m+1:Nat):Int):=by rw[IntKind.wrap_i64];omega
      clear hap1 hb8 ho8 hz how hbx hbw hbw8 hap2 hb8' hb9 ho9 hy;go_upto_region 12 with(at_builtin;refine Zit rF _ _ _ rF _ _ _ rF rF HAP1.out ?_)
      go_wp2_with(at_builtin;refine Zit rF _ _ _ rF _ _ _ rF rF HAP2.out ?_);go_roundw
      case rel=>exact⟨HB9.out,m+1,_,_,oM,gN,rfl,HNX.out⟩
      case measure=>simp[intOf];omega
     ·have hme:m=ln:=oM;have e9:¬ (m:Int)<(ln:Int):=oM;have hvx:=hvs.out.below hbw;have hlt2:=hvs.out.own.lt;have HJ2:Hid (m=ln):=hme;have hPA:PatA wx (.slice p j q) pv ((List.range (2*m)).map (f.outs j)):=by
       rcases Zxs (l:=(List.range (2*m)).map (f.outs j)) Zhc with h|⟨b,o,e,h⟩
       ·exact .inl (List.length_eq_zero_iff.1 h)
       ·refine .inr ⟨b,o,e,fun e5=>?_,h⟩;have h6:=Znt how.out b o none e;have h7:=(hlt2 b e5).2;omega
      have hlY:Y.length=j:=HYL.out;have hvx':VsO (w.alloc (.cells #[.slice (some ⟨lb,lo,none⟩) n0 q0,v1,v2,v3,ru,su,.slice (some ⟨ob,oo,none⟩) M qo,gu,pu,ct] 125)).heap.size wx (.slice p Y.length q) Y:=by rw[hlY];exact hvx
      obtain⟨g3,c3,w7,hrun,hb7,hvs7⟩:=hvx'.push (by have h1:=HB.out.size;have h2:=hbw.size;omega) oM ⟨pv,qv,(List.range (2*m)).map (f.outs j)⟩ (by rw[hlY];exact hPA) (fun b o s e=>by have h6:=Znt how.out b o s e;have h7:=HB.out.size;omega) 47;rw[hlY]at hrun hvs7;simp only[List.length_map,List.length_range]at hrun;have HRUN:Hid _:=hrun;have HV7:Hid (VsO (w.alloc (.cells #[.slice (some ⟨lb,lo,none⟩) n0 q0,v1,v2,v3,ru,su,.slice (some ⟨ob,oo,none⟩) M qo,gu,pu,ct] 125)).heap.size w7 (.slice (some ⟨g3,0,none⟩) (j+1) c3) (Y++[⟨pv,qv,(List.range (2*m)).map (f.outs j)⟩])):=hvs7;have HB7':Hid (Below (w.alloc (.cells #[.slice (some ⟨lb,lo,none⟩) n0 q0,v1,v2,v3,ru,su,.slice (some ⟨ob,oo,none⟩) M qo,gu,pu,ct] 125)).heap.size (w.alloc (.cells #[.slice (some ⟨lb,lo,none⟩) n0 q0,v1,v2,v3,ru,su,.slice (some ⟨ob,oo,none⟩) M qo,gu,pu,ct] 125)) w7):=(HB.out.trans (hbw.mono HB.out.size)).trans hb7;have HM7:Hid ((Y++[(⟨pv,qv,(List.range (2*m)).map (f.outs j)⟩:Cu)]).map (·.l)=(List.range (j+1)).map (updU c f)):=by
       show _=_;rw[List.map_append,hmap.out,Znp,HUU.out,HJ2.out];rfl
      exact Zcr
   ·rw[if_neg hK]at hk2;have hKb:(K==2)=false:=by simpa using hK
    replace hap:Zia c (j:Int)=1:=hk2
    clear hk2 hK hT hjl;have HV1:Hid (∀m,m<ln->wr.cell? ⟨nb,no+m,none⟩=some (.int .i64 (f.outs j m))):=fun m hm=>by
     have h1:=kc HBW.out (hnc m (by rw[ho2];exact hm));rw[ho4 m hm]at h1;rw[hap,Nat.one_mul]at h1;exact h1
    have HP1:Hid (∀m,m<ln->IsP (f.outs j m)):=fun m hm=>by
     have h1:=Zke ho3 m;rw[ho4 m hm]at h1;rw[hap,Nat.one_mul]at h1;exact h1
    have HUU:Hid (updU c f j=(List.range (ln)).map (f.outs j)):=by
     show _=_;unfold updU;rw[hnum,hap,Nat.one_mul]
    have b6:=fun v (hb:Below wr.heap.size wr v)=>kc hb c6;have b7:=fun v (hb:Below wr.heap.size wr v)=>kc hb u1;have HB6:Hid _:=b6;have HB7:Hid _:=b7;clear ho2 ho3 ho4 hnc hx hap hnum b6 b7;go_wp2;have HEC:Hid (∀v,Below (wr.alloc (.cells #[.string nm,.int .i64 K,.int .i64 (ln:Int)] 66)).heap.size (wr.alloc (.cells #[.string nm,.int .i64 K,.int .i64 (ln:Int)] 66)) v->v.cell? ⟨wr.heap.size,1,none⟩=some (.int .i64 K)/\v.cell? ⟨wr.heap.size,2,none⟩=some (.int .i64 (ln:Int))/\Below wr.heap.size wr v):=fun v hb=>⟨kc hb sG,kc hb sG,bel (Zhq _ _) hb⟩
    have hEs:wr.heap.size<(wr.alloc (.cells #[.string nm,.int .i64 K,.int .i64 (ln:Int)] 66)).heap.size:=sM;obtain⟨WE,hWE⟩:∃W,(wr.alloc (.cells #[.string nm,.int .i64 K,.int .i64 (ln:Int)] 66))=W:=⟨_,rfl⟩
    rw[hWE]at HEC hEs;try rw[hWE]
    clear hWE c0 c6 y0 y1 y2 u1
    go_loopw [6,7] (fun vv kv wx=>Below WE.heap.size WE wx/\∃ (m:Nat) (pv:Option Addr) (qv:Nat),m<=ln/\kv=.int .i64 (m:Int)/\vv=.slice pv (m) qv/\Hid (wx.ownsRow WE.heap.size 43 1 (.slice pv (m) qv) (m) (patC ((List.range (m)).map (f.outs j))))) (fun _ kv _=>ln-(intOf kv).toNat)
    case atStart=>exact⟨bel0 _,0,none,0,Nat.zero_le _,rfl,rfl,World.ownsRow_nil _ _ _ 1⟩
    case round=>
     obtain⟨hbx,m,pv,qv,hm,rfl,rfl,how⟩:=hrel;rename World=>wx;obtain⟨e1,e2,hbw⟩:=HEC.out wx hbx;have HBX:Hid (Below WE.heap.size WE wx):=hbx;have c6:=HB6.out wx hbw;have u1:=HB7.out wx hbw;by_cases hml:m<ln
     ·have a1:=kc hbw (HV1.out m hml);have hPz:=HP1.out m hml;obtain⟨z,hz⟩:∃z,f.outs j m=z:=⟨_,rfl⟩
      have HZ:Hid (f.outs j m=z):=hz;rw[hz]at a1 hPz;have tz:IntKind.u32.wrap z=z:=by rw[IntKind.wrap_u32];have:=hPz.1;have:=hPz.2;omega
      obtain⟨g,c',w8,hap1,hb8,ho8,-⟩:=Zpb (V:=wx) underlying57 Zsr rfl dE how.out hbx.size #[.int .u32 z] rfl Zga mL oM 57;have HAP1:Hid _:=hap1;have HNX:Hid (w8.ownsRow WE.heap.size 43 1 (.slice (some ⟨g,0,none⟩) (m+1) c') (m+1) (patC ((List.range (m+1)).map (f.outs j)))):=by
       show World.ownsRow _ _ _ _ _ _ _;rw[Znp,Zra,HZ.out];exact ho8
      have HB9:Hid (Below WE.heap.size WE w8):=hbx.trans hb8;obtain⟨e3,e4,hbw8⟩:=HEC.out w8 (hbx.trans hb8);have t0:(m:Int)<(ln:Int):=oM;have t5:IntKind.i64.wrap ((m:Int)+1)=((m+1:Nat):Int):=by rw[IntKind.wrap_i64];omega
      clear hap1 hb8 ho8 hz how hbx hbw hbw8;go_wp2_with(at_builtin;refine Zit rF _ _ _ rF _ _ _ rF rF HAP1.out ?_);go_roundw
      case rel=>exact⟨HB9.out,m+1,_,_,oM,gN,rfl,HNX.out⟩
      case measure=>simp[intOf];omega
     ·have hme:m=ln:=oM;have e9:¬ (m:Int)<(ln:Int):=oM;have hvx:=hvs.out.below hbw;have hlt2:=hvs.out.own.lt;have HJ2:Hid (m=ln):=hme;have hPA:PatA wx (.slice p j q) pv ((List.range (m)).map (f.outs j)):=by
       rcases Zxs (l:=(List.range (m)).map (f.outs j)) Zhc with h|⟨b,o,e,h⟩
       ·exact .inl (List.length_eq_zero_iff.1 h)
       ·refine .inr ⟨b,o,e,fun e5=>?_,h⟩;have h6:=Znt how.out b o none e;have h7:=(hlt2 b e5).2;omega
      have hlY:Y.length=j:=HYL.out;have hvx':VsO (w.alloc (.cells #[.slice (some ⟨lb,lo,none⟩) n0 q0,v1,v2,v3,ru,su,.slice (some ⟨ob,oo,none⟩) M qo,gu,pu,ct] 125)).heap.size wx (.slice p Y.length q) Y:=by rw[hlY];exact hvx
      obtain⟨g3,c3,w7,hrun,hb7,hvs7⟩:=hvx'.push (by have h1:=HB.out.size;have h2:=hbw.size;omega) oM ⟨pv,qv,(List.range (m)).map (f.outs j)⟩ (by rw[hlY];exact hPA) (fun b o s e=>by have h6:=Znt how.out b o s e;have h7:=HB.out.size;omega) 47;rw[hlY]at hrun hvs7;simp only[List.length_map,List.length_range]at hrun;have HRUN:Hid _:=hrun;have HV7:Hid (VsO (w.alloc (.cells #[.slice (some ⟨lb,lo,none⟩) n0 q0,v1,v2,v3,ru,su,.slice (some ⟨ob,oo,none⟩) M qo,gu,pu,ct] 125)).heap.size w7 (.slice (some ⟨g3,0,none⟩) (j+1) c3) (Y++[⟨pv,qv,(List.range (m)).map (f.outs j)⟩])):=hvs7;have HB7':Hid (Below (w.alloc (.cells #[.slice (some ⟨lb,lo,none⟩) n0 q0,v1,v2,v3,ru,su,.slice (some ⟨ob,oo,none⟩) M qo,gu,pu,ct] 125)).heap.size (w.alloc (.cells #[.slice (some ⟨lb,lo,none⟩) n0 q0,v1,v2,v3,ru,su,.slice (some ⟨ob,oo,none⟩) M qo,gu,pu,ct] 125)) w7):=(HB.out.trans (hbw.mono HB.out.size)).trans hb7;have HM7:Hid ((Y++[(⟨pv,qv,(List.range (m)).map (f.outs j)⟩:Cu)]).map (·.l)=(List.range (j+1)).map (updU c f)):=by
       show _=_;rw[List.map_append,hmap.out,Znp,HUU.out,HJ2.out];rfl
      exact Zcr
  ·have hjn:j=n0:=oM;have e1:¬ (j:Int)<(n0:Int):=oM;have HF:Hid (VsT (fun b=>b<w.heap.size) wr (.slice p n0 q) (updP c f)):=by
    show VsT _ _ _ _;rw[updP_eq,HN0.out,←hjn,←hmap.out];exact hvs.out.vs.mono (fun b _ e=>by simp only[World.size_alloc];omega)
   have HJ:Hid (j=n0):=hjn;have HB:Hid (Below w.heap.size w wr):=bel (Zhq _ _) hb;clear hvs hmap hlt hjn hb;go_wp2;go_ret;exact⟨p,q,by rw[HJ.out];rfl,HF.out,HB.out⟩
end Go.Proofs.YtbinohkcolcbfaaGreat
