import Derived.Test.YtcdpmgldkibfiaaGreatCln22
import Derived.Test.YtcdpmgldkibfiaaGreatCln26
import Derived.Test.YtcdpmgldkibfiaaGreatCln27
import Derived.Test.YtcdpmgldkibfiaaGreatCln28
import Derived.Test.YtcdpmgldkibfiaaGreatCln24
import Derived.Test.YtcdpmgldkibfiaaGreatCln25
import Derived.Test.YtcdpmgldkibfiaaGreatCln1
namespace Go.Proofs.YtcdpmgldkibfiaaGreat
open Go.RowKit Go.Proofs.Tryz
set_option linter.all false
set_option maxRecDepth 100000
set_option maxHeartbeats 16000000
abbrev rfV(p0 p1 p2 p3 pr p5 p6 p7 p8:Option Addr)(n0 q0 n1 q1 n2 q2 n3 q3 N qr n5 q5 n6 q6 n7 q7 n8 q8:Nat)(ct:Int):Value:=.agg #[.slice p0 n0 q0,.slice p1 n1 q1,.slice p2 n2 q2,.slice p3 n3 q3,.slice pr N qr,.slice p5 n5 q5,.slice p6 n6 q6,.slice p7 n7 q7,.slice p8 n8 q8,.int .i64 ct]
theorem Lg{T:Nat->Prop}{c:Cd}{f:Fr}{i:Ac}(hg:Good c)(L:List (List Int))(hL:CV c L)(hp:OT c i.d i.n)(p0 p1 p7:Option Addr)(q0 q1 n7 q7:Nat)(v2 v3:Value)(w:World)(hv:Cj w (.slice p0 c.sign.length q0) (.slice p1 c.regs.length q1) v2 v3 c)(hvc:Ko w (.slice p7 n7 q7) L):
 ∃ (par sb so:Nat) (nm:ByteArray) (K:Int) (len lb lo:Nat) (tk:Int) (vb vo:Nat) (px:Option Addr) (M qx:Nat),p0=some ⟨sb,so,none⟩/\p1=some ⟨lb,lo,none⟩/\par<c.sign.length/\p7=some ⟨vb,vo,none⟩/\par<n7/\n7<=64/\w.cell? ⟨sb,so+par*3,none⟩=some (.string nm)/\w.cell? ⟨sb,so+par*3+1,none⟩=some (.int .i64 K)/\w.cell? ⟨sb,so+par*3+2,none⟩=some (.int .i64 (len:Int))/\w.cell? ⟨lb,lo+i.d.toNat*2,none⟩=some (.int .i64 tk)/\w.cell? ⟨lb,lo+i.d.toNat*2+1,none⟩=some (.int .i64 (par:Int))/\w.cell? ⟨vb,vo+par,none⟩=some (.slice px M qx)/\
  ∀v,Below w.heap.size w v->Calls prog 99 #[.agg #[.string nm,.int .i64 K,.int .i64 (len:Int)],.slice px M qx,.int .i64 i.n] v fun e w'=>∃p' q',e=.returned (.slice p' (Bd c L i).length q')/\BT w' p' (Bd c L i)/\Below v.heap.size v w'/\∀b o s,p'=some ⟨b,o,s⟩->v.heap.size<=b:=by
 obtain⟨par,hpar,hpl⟩:=MJ hg hp.r0 hp.r1 hp.kind;have hdl:i.d.toNat<c.regs.length:=by have:=hp.r0;have:=hp.r1;omega
 obtain⟨sb,so,rfl,hs⟩:=hv.sign.at hpl;obtain⟨lb,lo,rfl,hl⟩:=hv.regs.at hdl;obtain⟨p7',c7,e7,hvv⟩:=hvc;simp only[Value.slice.injEq]at e7;obtain⟨rfl,rfl,rfl⟩:=e7;have hpL:par<L.length:=by rw[hL.len];exact hpl
 obtain⟨vb,vo,px,qx,rfl,hcell,hrd⟩:=hvv par hpL;have hln:=JG hg hpl;obtain⟨hnum,hlen2,hl1,hl2,hap⟩:=JL hg hpl;have hk2:AM c (par:Int)=if c.sign[par].kind=2 then 2 else 1:=by unfold AM CI;simp[hpl]
 have hreg:c.regs[i.d.toNat].par=(par:Int):=by
  have h1:=Eb hdl;rw[show((i.d.toNat:Nat):Int)=i.d by have:=hp.r0;omega]at h1;rw[←h1];exact hpar
 have hn0:=hp.n0;rw[hpar]at hn0;have hlv:=hL.each par hpL;obtain⟨nn,hnn⟩:∃n:Nat,i.n=(n:Int):=⟨i.n.toNat,oM⟩
 have hnk:nn<AM c (par:Int):=by
  unfold AM;rcases hn0 with e|⟨e,e2⟩
  ·have:nn=0:=oM;subst this;split<;>decide
  ·have:nn=1:=oM;subst this;rw[if_pos e2];decide
 refine⟨par,sb,so,c.sign[par].name,c.sign[par].kind,lenOf c (par:Int),lb,lo,c.regs[i.d.toNat].kind,vb,vo,px,L[par].length,qx,rfl,rfl,hpl,rfl,hpL,by rw[hL.len];exact hg.signL,hs.at 0 rfl,hs.at 1 rfl,by rw[hln];exact hs.at 2 rfl,hl.at 0 rfl,by rw[←hreg];exact hl.at 1 rfl,hcell,fun v hb=>?_⟩;have hpp:Bd c L i=Ez L[par] (AM c (par:Int)) nn (lenOf c (par:Int)):=by
  unfold Bd Ez;rw[hpar,hnn];simp only[Int.toNat_natCast];rw[Hx hpL]
 rw[hpp,LP,hnn];refine(Oe c.sign[par].name c.sign[par].kind (lenOf c (par:Int)) oM (AM c (par:Int)) hk2 L[par] (hL.isP _ (List.getElem_mem hpL)) px qx nn hnk (by rw[hlv,hnum];exact Nat.le_refl _) (by rw[hlv,hnum];rcases hap with e|e<;>rw[e]<;>omega) v (hrd.below hb)).mono ?_;exact fun e w' h=>h
theorem Um{T:Nat->Prop}{c:Cd}{G P:List (List Int)}{f:Fr}{i:Ac}{s:Wk}{X S O:List Cl}(hg:Good c)(ok:Iu c f)(t:Aq c s i=true)(hb:Az i.bits)(fg:CV c G)(fp:CV c P)(nd:Dy c f i)(rel:OU c f X S O)(kn:∀r∈Ab i (A4 i.op),Qr c f X r.toNat)
 (p0 p1 p2 p3 pr p5 p6 p7 p8:Option Addr) (q0 q1 q2 q3 qr q5 q6 q7 q8:Nat) (ct:Int) (w:World) (hT:∀b,T b->b<w.heap.size) (hv:Cj w (.slice p0 c.sign.length q0) (.slice p1 c.regs.length q1) (.slice p2 c.slots.length q2) (.slice p3 c.list.length q3) c) (hcs:AS T w (.slice pr c.regs.length qr) X) (hss:AS T w (.slice p5 c.slots.length q5) S) (hoo:I0 T w (.slice p6 O.length q6) O) (hgu:Ko w (.slice p7 G.length q7) G) (hpu:Ko w (.slice p8 P.length q8) P):
 Calls prog 72 #[rfV p0 p1 p2 p3 pr p5 p6 p7 p8 c.sign.length q0 c.regs.length q1 c.slots.length q2 c.list.length q3 c.regs.length qr c.slots.length q5 O.length q6 G.length q7 P.length q8 ct,AV i] w fun e w'=>∃pr' qr' p5' q5' p6' q6' X' S' O',e=.returned (rfV p0 p1 p2 p3 pr' p5' p6' p7 p8 c.sign.length q0 c.regs.length q1 c.slots.length q2 c.list.length q3 c.regs.length qr' c.slots.length q5' O.length q6' G.length q7 P.length q8 ct)/\AS T w' (.slice pr' c.regs.length qr') X'/\AS T w' (.slice p5' c.slots.length q5') S'/\I0 T w' (.slice p6' O.length q6') O'/\O'.length=O.length/\Did c G P f i X S O X' S' O'/\Below w.heap.size w w':=by
 obtain⟨hk,h2,_,h4⟩:=Ah t;have hX:=rel.xl;have hXl:=hg.regsL;have hSl:S.length=c.slots.length:=by have h1:=congrArg List.length rel.sl;rw[List.length_map,ok.slotsL]at h1;exact h1
 have nD:=Mp (Du h2);have nA:=Mp (BD h2);have nB:=Mp (DR h2);have nC:=Mp (DS h2);obtain⟨op,D,A,B,Ec,nn,bt⟩:=i;unfold rfV AV;simp only at hb hk nD nA nB nC;obtain⟨kd,rfl⟩:∃n:Nat,D=(n:Int):=⟨D.toNat,oM⟩
 obtain⟨ka,rfl⟩:∃n:Nat,A=(n:Int):=⟨A.toNat,oM⟩
 obtain⟨kb,rfl⟩:∃n:Nat,B=(n:Int):=⟨B.toNat,oM⟩
 obtain⟨kk,rfl⟩:∃n:Nat,Ec=(n:Int):=⟨Ec.toNat,oM⟩
 have AL:0<c.regs.length->ka<c.regs.length:=fun h=>by have:=(Eu (BD h2) h).2;simp only at this;omega
 have BL:0<c.regs.length->kb<c.regs.length:=fun h=>by have:=(Eu (DR h2) h).2;simp only at this;omega
 have CL:0<c.regs.length->kk<c.regs.length:=fun h=>by have:=(Eu (DS h2) h).2;simp only at this;omega
 have KA:∀x,(A4 op).a≠0->X[ka]? =some x->x.h=Bl c f (ka:Int):=fun x h hx=>Y3 kn (r:=(ka:Int)) (LD h) oM hx;have KB:∀x,(A4 op).b≠0->X[kb]? =some x->x.h=Bl c f (kb:Int):=fun x h hx=>Y3 kn (r:=(kb:Int)) (mem_b h) oM hx;have KC:∀x,(A4 op).c≠0->X[kk]? =some x->x.h=Bl c f (kk:Int):=fun x h hx=>Y3 kn (r:=(kk:Int)) (mem_c h) oM hx;have MA:=fun(h:(A4 op).a≠0)=>AO (BD h2) h;have MB:=fun(h:(A4 op).b≠0)=>AO (DR h2) h;have MC:=fun(h:(A4 op).c≠0)=>AO (DS h2) h;have DL:(A4 op).d≠0->kd<c.regs.length:=fun h=>by have:=(Ae (Du h2) h).2;simp only at this;omega
 simp only at MA MB MC;rcases CB hk with e|e|e|e|e|e|e|e|e
 ·have hop:op=1\/op=16\/op=17\/op=19\/op=20:=by unfold Dh at e;simp only[Bool.or_eq_true,beq_iff_eq]at e;omega
  rcases hop with rfl|rfl|rfl|rfl|rfl
  ·have hd:(A4 1).d≠0:=dE;have dl:=DL hd;have hval:(⟨[bt],0⟩:Hd)=De c G P f ⟨1,(kd:Int),(ka:Int),(kb:Int),(kk:Int),nn,bt⟩:=by rw[Hw nd rF];rfl
   refine(Uo p0 p1 p2 p3 p5 p6 p7 p8 c.sign.length q0 c.regs.length q1 c.slots.length q2 c.list.length q3 c.slots.length q5 O.length q6 G.length q7 P.length q8 ct pr qr X c.regs.length hX hXl nn bt kd ka kb kk dl w hT hcs hb).mono ?_;exact RN
  ·have hd:(A4 16).d≠0:=dE;have dl:=DL hd;have al:=AL oM;have hxa:X[ka]? =some (X[ka]'oM):=List.getElem?_eq_getElem oM;have hah:=KA _ dE hxa;have hma:=MA dE;have bl:=BL oM;have hxb:X[kb]? =some (X[kb]'oM):=List.getElem?_eq_getElem oM;have hbh:=KB _ dE hxb;have hmb:=MB dE;have ka1:(A7 c.regs (ka:Int)).kind=1:=by simpa[B7,A4]using hma
   have kb2:(A7 c.regs (kb:Int)).kind=2:=by simpa[B7,A4]using hmb
   rw[rd_1 ka1,Int.toNat_natCast]at hah;rw[PQ kb2,Int.toNat_natCast]at hbh;have hval:(⟨[GZ (f.nums ka) (X[kb]'oM).h.whole],0⟩:Hd)=De c G P f ⟨16,(kd:Int),(ka:Int),(kb:Int),(kk:Int),nn,bt⟩:=by rw[Hw nd rF,hbh];rfl
   refine(Pc p0 p1 p2 p3 p5 p6 p7 p8 c.sign.length q0 c.regs.length q1 c.slots.length q2 c.list.length q3 c.slots.length q5 O.length q6 G.length q7 P.length q8 ct pr qr X c.regs.length hX hXl nn bt kd ka kb kk dl w hT hcs _ hxa _ hxb (f.nums ka) (by rw[hah]) (ok.nums ka) (by rw[hbh];exact ok.whs kb)).mono ?_;exact RN
  ·have hd:(A4 17).d≠0:=dE;have dl:=DL hd;have al:=AL oM;have hxa:X[ka]? =some (X[ka]'oM):=List.getElem?_eq_getElem oM;have hah:=KA _ dE hxa;have hma:=MA dE;have ka2:(A7 c.regs (ka:Int)).kind=2:=by simpa[B7,A4]using hma
   rw[PQ ka2,Int.toNat_natCast]at hah;have hval:(⟨[Dg (X[ka]'oM).h.whole],0⟩:Hd)=De c G P f ⟨17,(kd:Int),(ka:Int),(kb:Int),(kk:Int),nn,bt⟩:=by rw[Hw nd rF,hah];rfl
   refine(Sa p0 p1 p2 p3 p5 p6 p7 p8 c.sign.length q0 c.regs.length q1 c.slots.length q2 c.list.length q3 c.slots.length q5 O.length q6 G.length q7 P.length q8 ct pr qr X c.regs.length hX hXl nn bt kd ka kb kk dl w hT hcs _ hxa (by rw[hah];exact ok.whs ka)).mono ?_;exact RN
  ·have hd:(A4 19).d≠0:=dE;have dl:=DL hd;have al:=AL oM;have hxa:X[ka]? =some (X[ka]'oM):=List.getElem?_eq_getElem oM;have hah:=KA _ dE hxa;have hma:=MA dE;have ka3:(A7 c.regs (ka:Int)).kind=3:=by simpa[B7,A4]using hma
   rw[rd_3 ka3,Int.toNat_natCast]at hah;have hval:(⟨[Kt (BZ (X[ka]'oM).h.pats) (X[ka]'oM).h.pats.length],0⟩:Hd)=De c G P f ⟨19,(kd:Int),(ka:Int),(kb:Int),(kk:Int),nn,bt⟩:=by rw[Hw nd rF,hah];rfl
   refine(Ur p0 p1 p2 p3 p5 p6 p7 p8 c.sign.length q0 c.regs.length q1 c.slots.length q2 c.list.length q3 c.slots.length q5 O.length q6 G.length q7 P.length q8 ct pr qr X c.regs.length hX hXl nn bt kd ka kb kk dl w hT hcs _ hxa (by rw[hah];exact ok.vecs ka) (by rw[hah];exact ok.vecsL ka)).mono ?_;exact RN
  ·have hd:(A4 20).d≠0:=dE;have dl:=DL hd;have al:=AL oM;have hxa:X[ka]? =some (X[ka]'oM):=List.getElem?_eq_getElem oM;have hah:=KA _ dE hxa;have hma:=MA dE;have ka3:(A7 c.regs (ka:Int)).kind=3:=by simpa[B7,A4]using hma
   rw[rd_3 ka3,Int.toNat_natCast]at hah;have hval:(⟨[EI (BZ (X[ka]'oM).h.pats) (X[ka]'oM).h.pats.length],0⟩:Hd)=De c G P f ⟨20,(kd:Int),(ka:Int),(kb:Int),(kk:Int),nn,bt⟩:=by rw[Hw nd rF,hah];rfl
   refine(Pa p0 p1 p2 p3 p5 p6 p7 p8 c.sign.length q0 c.regs.length q1 c.slots.length q2 c.list.length q3 c.slots.length q5 O.length q6 G.length q7 P.length q8 ct pr qr X c.regs.length hX hXl nn bt kd ka kb kk dl w hT hcs _ hxa (by rw[hah];exact ok.vecs ka) (by rw[hah];exact ok.vecsL ka)).mono ?_;exact RN
 ·have hop:op=2\/op=18\/(21<=op/\op<=28):=by unfold Bm at e;simp only[Bool.or_eq_true,Bool.and_eq_true,beq_iff_eq,decide_eq_true_eq]at e;omega
  rcases hop with rfl|rfl|⟨o1,o2⟩
  ·have hd:(A4 2).d≠0:=dE;have dl:=DL hd;have hval:(⟨[],nn⟩:Hd)=De c G P f ⟨2,(kd:Int),(ka:Int),(kb:Int),(kk:Int),nn,bt⟩:=by rw[Iq nd rF];rfl
   refine(Us p0 p1 p2 p3 p5 p6 p7 p8 c.sign.length q0 c.regs.length q1 c.slots.length q2 c.list.length q3 c.slots.length q5 O.length q6 G.length q7 P.length q8 ct pr qr X c.regs.length hX hXl nn bt kd ka kb kk dl w hT hcs).mono ?_;exact RN
  ·have hd:(A4 18).d≠0:=dE;have dl:=DL hd;have al:=AL oM;have hxa:X[ka]? =some (X[ka]'oM):=List.getElem?_eq_getElem oM;have hah:=KA _ dE hxa;have hma:=MA dE;have ka1:(A7 c.regs (ka:Int)).kind=1:=by simpa[B7,A4]using hma
   rw[rd_1 ka1,Int.toNat_natCast]at hah;have hval:(⟨[],BF (f.nums ka%2147483648 != 0&&decide (f.nums ka%2147483648<=2139095040))⟩:Hd)=De c G P f ⟨18,(kd:Int),(ka:Int),(kb:Int),(kk:Int),nn,bt⟩:=by rw[Iq nd rF,Z2];rfl
   refine(Se p0 p1 p2 p3 p5 p6 p7 p8 c.sign.length q0 c.regs.length q1 c.slots.length q2 c.list.length q3 c.slots.length q5 O.length q6 G.length q7 P.length q8 ct pr qr X c.regs.length hX hXl nn bt kd ka kb kk dl w hT hcs _ hxa (f.nums ka) (by rw[hah]) (ok.nums ka)).mono ?_;exact RN
  ·have hrow:(A4 op).d=2/\(A4 op).a=2/\((A4 op).b=0\/(A4 op).b=2)/\((A4 op).c=0\/(A4 op).c=2):=by
    have:op=21\/op=22\/op=23\/op=24\/op=25\/op=26\/op=27\/op=28:=oM;rcases this with rfl|rfl|rfl|rfl|rfl|rfl|rfl|rfl<;>decide
   have hd:(A4 op).d≠0:=by rw[hrow.1];decide
   have dl:=DL hd;have ha0:(A4 op).a≠0:=by rw[hrow.2.1];decide
   have al:=AL oM;have hxa:X[ka]? =some (X[ka]'oM):=List.getElem?_eq_getElem oM;have hah:=KA _ ha0 hxa;have hma:=MA ha0;rw[hrow.2.1]at hma;have ka2:(A7 c.regs (ka:Int)).kind=2:=by simpa[B7]using hma
   rw[PQ ka2,Int.toNat_natCast]at hah;have bl:=BL oM;have hxb:X[kb]? =some (X[kb]'oM):=List.getElem?_eq_getElem oM;have cl:=CL oM;have hxc:X[kk]? =some (X[kk]'oM):=List.getElem?_eq_getElem oM;have hbw:(A4 op).b≠0->(X[kb]'oM).h.whole=f.whs kb:=fun h=>by
    have h1:=MB h;rw[hrow.2.2.1.resolve_left h]at h1;rw[KB _ h hxb,PQ (by simpa[B7]using h1),Int.toNat_natCast]
   have hcw:(A4 op).c≠0->(X[kk]'oM).h.whole=f.whs kk:=fun h=>by
    have h1:=MC h;rw[hrow.2.2.2.resolve_left h]at h1;rw[KC _ h hxc,PQ (by simpa[B7]using h1),Int.toNat_natCast]
   have hwa:=(rel.xok _ (List.mem_of_getElem? hxa)).2.2;have hwb:=(rel.xok _ (List.mem_of_getElem? hxb)).2.2;have hval:(⟨[],D9 op (X[ka]'oM).h.whole (X[kb]'oM).h.whole (X[kk]'oM).h.whole⟩:Hd)=De c G P f ⟨op,(kd:Int),(ka:Int),(kb:Int),(kk:Int),nn,bt⟩:=by rw[Iq nd e,WO (i:=⟨op,(kd:Int),(ka:Int),(kb:Int),(kk:Int),nn,bt⟩) (f:=f) ⟨o1,o2⟩ (by rw[hah];rfl) hbw hcw]
   refine(Pe p0 p1 p2 p3 p5 p6 p7 p8 c.sign.length q0 c.regs.length q1 c.slots.length q2 c.list.length q3 c.slots.length q5 O.length q6 G.length q7 P.length q8 ct pr qr X c.regs.length hX hXl op o1 o2 nn bt kd ka kb kk dl w hT hcs _ hxa _ hxb _ hxc hwa hwb).mono ?_;exact RN
 ·subst e;have hd:(A4 29).d≠0:=dE;have dl:=DL hd;obtain⟨par,sb,so,nm,K,len,lb,lo,tk,vb,vo,px,M,qx,e0,e1,e2,e3,e4,e5,s0,s1,s2,t0,t1,u0,hkp⟩:=Lg (T:=T) (f:=f) (i:=⟨29,(kd:Int),(ka:Int),(kb:Int),(kk:Int),nn,bt⟩) hg G fg (nd.part (.inl rfl)) _ _ _ _ _ _ _ _ _ w hv hgu;simp only[Int.toNat_natCast]at t0 t1 hkp;have hval:(⟨Bd c G ⟨29,(kd:Int),(ka:Int),(kb:Int),(kk:Int),nn,bt⟩,0⟩:Hd)=De c G P f ⟨29,(kd:Int),(ka:Int),(kb:Int),(kk:Int),nn,bt⟩:=by rw[val_29 nd rfl]
  refine(Sb p0 p1 p2 p3 p5 p6 p7 p8 c.sign.length q0 c.regs.length q1 c.slots.length q2 c.list.length q3 c.slots.length q5 O.length q6 G.length q7 P.length q8 ct pr qr X c.regs.length hX hXl nn bt kd ka kb kk dl w hT hcs par sb so nm K len lb lo tk vb vo px M qx (Bd c G ⟨29,(kd:Int),(ka:Int),(kb:Int),(kk:Int),nn,bt⟩) e0 e1 e2 dl e3 e4 s0 s1 s2 t0 t1 u0 hXl hg.signL e5 hkp).mono ?_;exact RN
 ·subst e;have hd:(A4 30).d≠0:=dE;have dl:=DL hd;obtain⟨par,sb,so,nm,K,len,lb,lo,tk,vb,vo,px,M,qx,e0,e1,e2,e3,e4,e5,s0,s1,s2,t0,t1,u0,hkp⟩:=Lg (T:=T) (f:=f) (i:=⟨30,(kd:Int),(ka:Int),(kb:Int),(kk:Int),nn,bt⟩) hg P fp (nd.part (.inr rfl)) _ _ _ _ _ _ _ _ _ w hv hpu;simp only[Int.toNat_natCast]at t0 t1 hkp;have hval:(⟨Bd c P ⟨30,(kd:Int),(ka:Int),(kb:Int),(kk:Int),nn,bt⟩,0⟩:Hd)=De c G P f ⟨30,(kd:Int),(ka:Int),(kb:Int),(kk:Int),nn,bt⟩:=by rw[val_30 nd rfl]
  refine(Pb p0 p1 p2 p3 p5 p6 p7 p8 c.sign.length q0 c.regs.length q1 c.slots.length q2 c.list.length q3 c.slots.length q5 O.length q6 G.length q7 P.length q8 ct pr qr X c.regs.length hX hXl nn bt kd ka kb kk dl w hT hcs par sb so nm K len lb lo tk vb vo px M qx (Bd c P ⟨30,(kd:Int),(ka:Int),(kb:Int),(kk:Int),nn,bt⟩) e0 e1 e2 dl e3 e4 s0 s1 s2 t0 t1 u0 hXl hg.signL e5 hkp).mono ?_;exact RN
 ·subst e;obtain⟨hp,hlen⟩:=nd.out rfl;obtain⟨par,hpar,hpl⟩:=MJ hg hp.r0 hp.r1 hp.kind;simp only at hp hpar;have al:ka<c.regs.length:=by have:=hp.r1;omega
  have hxa:X[ka]? =some (X[ka]'oM):=List.getElem?_eq_getElem oM;have hn0:=hp.n0;obtain⟨kq,rfl⟩:∃n:Nat,nn=(n:Int):=⟨nn.toNat,oM⟩
  obtain⟨lb,lo,e1,hl⟩:=hv.regs.at al;have hreg:c.regs[ka].par=(par:Int):=by rw[←Eb al];exact hpar
  refine(Uq p0 p1 p2 p3 p5 p6 p7 p8 c.sign.length q0 c.regs.length q1 c.slots.length q2 c.list.length q3 c.slots.length q5 O.length q6 G.length q7 P.length q8 ct pr qr X c.regs.length hX hXl (kq:Int) bt kd ka kb kk w hT hcs _ hxa kq rfl oM par lb lo (c.regs[ka].kind) e1 al (by rw[←hreg];exact hl.at 1 rfl) O rfl (by rw[rel.ol];have:=hg.signL;omega) (by rw[rel.ol];omega) hoo).mono ?_;rintro e w' ⟨p9,q9,rfl,hc,hbl⟩;exact⟨pr,qr,p5,q5,p9,q9,X,S,_,rfl,hcs.below hbl,hss.below hbl,hc,by rw[List.length_set],.inr (.inr (.inl ⟨rfl,rfl,rfl,_,hxa,by simp only[hpar,Int.toNat_natCast]⟩)),hbl⟩
 ·subst e;have hd:(A4 32).d≠0:=dE;have dl:=DL hd;obtain⟨d0,d1,m0,m1,ht⟩:=nd.load rfl;simp only at m0 m1;obtain⟨ks,hks⟩:∃n:Nat,nn=(n:Int):=⟨nn.toNat,oM⟩
  have hksl:ks<S.length:=oM;have hxs:S[ks]? =some (S[ks]'hksl):=List.getElem?_eq_getElem hksl;have hval:(S[ks]'hksl).h=De c G P f ⟨32,(kd:Int),(ka:Int),(kb:Int),(kk:Int),nn,bt⟩:=by
   rw[val_32 ok nd rfl rel.sz,←rel.sl];simp only[hks,Int.toNat_natCast,List.getElem?_map,hxs,Option.map_some,Option.getD_some]
  refine(Sc p0 p1 p2 p3 p5 p6 p7 p8 c.sign.length q0 c.regs.length q1 c.slots.length q2 c.list.length q3 c.slots.length q5 O.length q6 G.length q7 P.length q8 ct pr qr X c.regs.length hX hXl nn bt kd ka kb kk dl w hT hcs ks hks _ S hSl hg.slotsL hss hxs).mono ?_;exact RN
 ·subst e;obtain⟨a0,a1,m0,m1,ht,hs⟩:=nd.store rfl;simp only at a0 a1 m0 m1;have al:ka<c.regs.length:=oM;have hxa:X[ka]? =some (X[ka]'oM):=List.getElem?_eq_getElem oM;obtain⟨ks,hks⟩:∃n:Nat,nn=(n:Int):=⟨nn.toNat,oM⟩
  refine(Pd p0 p1 p2 p3 p5 p6 p7 p8 c.sign.length q0 c.regs.length q1 c.slots.length q2 c.list.length q3 c.slots.length q5 O.length q6 G.length q7 P.length q8 ct pr qr X c.regs.length hX hXl nn bt kd ka kb kk w hT hcs _ hxa ks hks S hSl hg.slotsL oM hss).mono ?_;rintro e w' ⟨p9,q9,rfl,hc,hbl⟩;exact⟨pr,qr,p9,q9,p6,q6,X,_,O,rfl,hcs.below hbl,hc,hoo.below hbl,rfl,.inr (.inl ⟨rfl,rfl,⟨_,hxa,by simp only[hks,Int.toNat_natCast]⟩,rfl⟩),hbl⟩
 ·refine(Sd p0 p1 p2 p3 p5 p6 p7 p8 c.sign.length q0 c.regs.length q1 c.slots.length q2 c.list.length q3 c.slots.length q5 O.length q6 G.length q7 P.length q8 ct pr qr X c.regs.length hX hXl op e.1 e.2 nn bt kd ka kb kk w hT hcs).mono ?_;rintro e' w' ⟨rfl,hbl⟩;exact⟨pr,qr,p5,q5,p6,q6,X,S,O,rfl,hcs.below hbl,hss.below hbl,hoo.below hbl,rfl,.inr (.inr (.inr ⟨e,rfl,rfl,rfl⟩)),hbl⟩
 ·have hop:3<=op/\op<=15:=by unfold Bj at e;simpa using e
  obtain⟨o1,o2⟩:=hop;have hd:(A4 op).d≠0:=by
   exact Zcr
  have ha0:(A4 op).a≠0:=by
   exact Zcr
  have dl:=DL hd;have al:=AL oM;have bl:=BL oM;have cl:=CL oM;have hxa:X[ka]? =some (X[ka]'oM):=List.getElem?_eq_getElem oM;have hxb:X[kb]? =some (X[kb]'oM):=List.getElem?_eq_getElem oM;have hxc:X[kk]? =some (X[kk]'oM):=List.getElem?_eq_getElem oM;have hah:=KA _ ha0 hxa;have hty:A7 c.regs (kd:Int)=c.regs[kd]:=Eb dl;by_cases hk2:(A7 c.regs (kd:Int)).kind=2
  ·have hra:(A7 c.regs (ka:Int)).kind=2:=by
    obtain⟨_,_,_,hr⟩:=nd.elem e;obtain⟨_,_,_,h⟩:=hr (ka:Int) (LD ha0);rcases h with h|⟨_,h⟩
    ·rw[h];exact hk2
    ·simp only at h;omega
   have hval:(X[ka]'oM).h=De c G P f ⟨op,(kd:Int),(ka:Int),(kb:Int),(kk:Int),nn,bt⟩:=by
    rw[TF e hk2,hah,PQ hra]
   refine(QH p0 p1 p2 p3 p5 p6 p7 p8 c.sign.length q0 c.regs.length q1 c.slots.length q2 c.list.length q3 c.slots.length q5 O.length q6 G.length q7 P.length q8 ct pr qr X c.regs.length hX hXl op o1 o2 nn bt kd ka kb kk dl w hT hcs (X[ka]'oM).h (fun v hbv hsv=>?_)).mono ?_
   ·refine(IY c hg _ _ _ _ _ _ _ _ _ _ X hX op nn bt _ _ kd ka dl oM (by rw[←hty];exact hk2) v (hv.below hbv) (hcs.cs.below hbv)).mono ?_;rintro e' w' ⟨rfl,-,hbl⟩;exact⟨X[ka]'oM,rfl,rfl,(MZ (hcs.nums _ (List.mem_of_getElem? hxa)) hbv).below hbl,hbl⟩
   ·exact RN
  ·obtain⟨w1,w2,w3⟩:=Gb hg ok e nd hk2;have hargs:=Xo (i:=⟨op,(kd:Int),(ka:Int),(kb:Int),(kk:Int),nn,bt⟩) (c:=c) (f:=f) e hah (fun h=>KB _ h hxb) (fun h=>KC _ h hxc);have htr:=G6 ⟨op,(kd:Int),(ka:Int),(kb:Int),(kk:Int),nn,bt⟩ e;have hal:(Bg c f ⟨op,(kd:Int),(ka:Int),(kb:Int),(kk:Int),nn,bt⟩).length=Cx op:=by unfold Bg;rw[List.length_map];exact htr.1.symm
   obtain⟨n,hn,hn2⟩:=Lw (l:=lF (Bg c f ⟨op,(kd:Int),(ka:Int),(kb:Int),(kk:Int),nn,bt⟩)) w1 ((Bg c f ⟨op,(kd:Int),(ka:Int),(kb:Int),(kk:Int),nn,bt⟩).length-1) (fun k hk=>by
    have htn:=htr.2;simp only at htn;unfold lF;rw[Hx oM];unfold Bg;rw[List.getElem_map]
    exact(w2 _ (List.getElem_mem _)).2.2.1)
   have hwd:=hg.width (A7 c.regs (kd:Int));simp only at w1 hn2;have hval:(⟨TO (if(A7 c.regs (kd:Int)).kind=3 then lenOf c (A7 c.regs (kd:Int)).par else 1) (Cz op (Bg c f ⟨op,(kd:Int),(ka:Int),(kb:Int),(kk:Int),nn,bt⟩)),0⟩:Hd)=De c G P f ⟨op,(kd:Int),(ka:Int),(kb:Int),(kk:Int),nn,bt⟩:=by
    rw[WN hg ok nd e hk2]
   refine(QH p0 p1 p2 p3 p5 p6 p7 p8 c.sign.length q0 c.regs.length q1 c.slots.length q2 c.list.length q3 c.slots.length q5 O.length q6 G.length q7 P.length q8 ct pr qr X c.regs.length hX hXl op o1 o2 nn bt kd ka kb kk dl w hT hcs ⟨TO (if(A7 c.regs (kd:Int)).kind=3 then lenOf c (A7 c.regs (kd:Int)).par else 1) (Cz op (Bg c f ⟨op,(kd:Int),(ka:Int),(kb:Int),(kk:Int),nn,bt⟩)),0⟩ (fun v hbv hsv=>?_)).mono ?_
   ·rw[hal,←hargs]at hn;have K:=KP c hg (.slice p0 c.sign.length q0) (.slice p1 c.regs.length q1) (.slice p2 c.slots.length q2) (.slice p3 c.list.length q3) (.slice pr c.regs.length qr) (.slice p5 c.slots.length q5) (.slice p6 O.length q6) (.slice p7 G.length q7) (.slice p8 P.length q8) (.int .i64 ct) X hX op nn bt kd ka kb kk dl oM oM oM (by rw[←hty];exact hk2) (fun h=>hg.type (List.getElem_mem dl) h) (Cx op) rfl htr.2 n hn oM oM (fun x hx=>(rel.xok x hx).1) (fun x hx=>(rel.xok x hx).2.1) v (hv.below hbv) (hcs.cs.below hbv);simp only at hargs;rw[hargs,←hty]at K;refine K.mono ?_;rintro e' w' ⟨pe,qe,rfl,hne,hbl,hle⟩;exact⟨⟨pe,qe,⟨_,0⟩⟩,rfl,rfl,BT.free (B:=v.heap.size) hne hle (fun b hb=>Dj hT hb hsv),hbl⟩
   ·exact RN
def ZOk(c:Cd)(l:List Hd):Prop:=∀j (h:j<c.slots.length),c.slots[j].ty.kind≠2->((l[j]?).getD ⟨[],0⟩).whole=0
structure Gq(c:Cd)(l:List Hd):Prop where
 len:l.length=c.slots.length
 ok:∀j (h:j<c.slots.length) (h':j<l.length),OR c c.slots[j].ty l[j]
 z:ZOk c l
theorem QC{c:Cd}(hg:Good c){s:Sl}(hs:s∈c.slots)(h2:s.ty.kind≠2):(Bi c s).whole=0:=by
 have h1:=hg.slots s hs;unfold Bf F8 at h1;rw[if_neg h2]at h1;simp only[Bool.and_eq_true,beq_iff_eq]at h1;exact h1.2.1
theorem Z1{c:Cd}(hg:Good c):ZOk c (BP c):=fun j h h2=>by
 rw[BP,List.getElem?_map,List.getElem?_eq_getElem h,Option.map_some,Option.getD_some];exact QC hg (List.getElem_mem h) h2
theorem U6(c:Cd)(l:List Hd)(hl:l.length=c.slots.length):∀ (j:Nat),j<=c.slots.length->∀k (h:k<c.slots.length),(OZ c l j)[k]? =if k<j/\c.slots[k].keep=false then some (Bi c c.slots[k])else l[k]?
 |0,_,k,h=>by simp[OZ]
 |j+1,hj,k,h=>by
  have ih:=U6 c l hl j oM;unfold OZ;rw[List.getElem?_eq_getElem (show j<c.slots.length by omega)];simp only;cases hkp:c.slots[j].keep with
  |true=>
   simp only[if_true];rw[ih k h];by_cases e:k=j
   ·subst e;rw[hkp];simp
   ·have:k<j+1↔k<j:=oM;simp only[this]
  |false=>
   simp only[Bool.false_eq_true,if_false];by_cases e:k=j
   ·subst e;rw[List.getElem?_set_self (by rw[GS,hl];exact h),if_pos ⟨oM,hkp⟩]
   ·rw[List.getElem?_set_ne (fun q=>e q.symm),ih k h];have:k<j+1↔k<j:=oM;simp only[this]
def OX(c:Cd)(l:List Hd):List Hd:=OZ c l c.slots.length
theorem G9{c:Cd}{l:List Hd}(hl:l.length=c.slots.length):(OX c l).length=c.slots.length:=by unfold OX;rw[GS,hl]
theorem OY{c:Cd}{l:List Hd}(hl:l.length=c.slots.length){k:Nat}(h:k<c.slots.length)(h':k<(OX c l).length):(OX c l)[k]=if c.slots[k].keep then l[k]'oM else Bi c c.slots[k]:=by
 have h1:=U6 c l hl c.slots.length (Nat.le_refl _) k h;have h2:(OX c l)[k]? =some ((OX c l)[k]):=List.getElem?_eq_getElem h';unfold OX at h2 ⊢;rw[h2]at h1;cases hkp:c.slots[k].keep with
 |true=>
  rw[hkp,if_neg sM,List.getElem?_eq_getElem oM]at h1;simp only[Option.some.injEq]at h1;simp only[if_true];exact h1
 |false=>
  rw[if_pos ⟨h,hkp⟩]at h1;simp only[Option.some.injEq]at h1;simp only[Bool.false_eq_true,if_false];exact h1
def f4v(a b c d:Value)(k:Nat):Value:=if k=0 then a else if k=1 then b else if k=2 then c else d
theorem ZQ(a b c d:Value):∀k,k<(#[a,b,c,d]:Array Value).size->(#[a,b,c,d]:Array Value)[k]? =some (f4v a b c d k):=by
 intro k hk;have hk':k<4:=hk;obtain rfl|rfl|rfl|rfl:k=0\/k=1\/k=2\/k=3:=oM
 all_goals rfl
structure SB(w:World)(a0 a1 a2 a3 a4:Value)(v:World):Prop where
 bel:Below w.heap.size w v
 r:v.rowIs w.heap.size 55 5 (f5 a0 a1 a2 a3 a4)
 q:v.rowIs (w.heap.size+1) 55 5 (f5 (.slice none 0 0) (.slice none 0 0) (.slice none 0 0) (.slice none 0 0) (.slice none 0 0))
 c:v.rowIs (w.heap.size+1+1) 27 4 (f4v a0 a1 a2 a3)
theorem SB.next{w:World}{a0 a1 a2 a3 a4:Value}{v v':World}(h:SB w a0 a1 a2 a3 a4 v)(k:Below v.heap.size v v'):SB w a0 a1 a2 a3 a4 v':=
 ⟨Go.Proofs.YtcdpmgldkibfiaaGreat.bel h.bel k,h.r.of_block (k.block _ h.r.lt),h.q.of_block (k.block _ h.q.lt),h.c.of_block (k.block _ h.c.lt)⟩
theorem SB.start(w:World)(a0 a1 a2 a3 a4:Value):SB w a0 a1 a2 a3 a4 (((w.alloc (.cells #[a0,a1,a2,a3,a4] 55)).alloc (.cells #[.slice none 0 0,.slice none 0 0,.slice none 0 0,.slice none 0 0,.slice none 0 0] 55)).alloc (.cells #[a0,a1,a2,a3] 27)):=by
 have r1:=World.rowIs_alloc w #[a0,a1,a2,a3,a4] 55 _ (ER _ _ _ _ _);have r2:=World.rowIs_alloc (w.alloc (.cells #[a0,a1,a2,a3,a4] 55)) #[.slice none 0 0,.slice none 0 0,.slice none 0 0,.slice none 0 0,.slice none 0 0] 55 _ (ER _ _ _ _ _);have r3:=World.rowIs_alloc ((w.alloc (.cells #[a0,a1,a2,a3,a4] 55)).alloc (.cells #[.slice none 0 0,.slice none 0 0,.slice none 0 0,.slice none 0 0,.slice none 0 0] 55)) #[a0,a1,a2,a3] 27 _ (ZQ _ _ _ _);simp only[World.size_alloc]at r2 r3;exact⟨Go.Proofs.YtcdpmgldkibfiaaGreat.bel (A0 _ _) (Go.Proofs.YtcdpmgldkibfiaaGreat.bel (A0 _ _) (A0 _ _)),(r1.alloc _).alloc _,r2.alloc _,r3⟩
theorem SB.size{w:World}{a0 a1 a2 a3 a4:Value}{v:World}(h:SB w a0 a1 a2 a3 a4 v):w.heap.size+1+1<v.heap.size:=h.c.lt
structure Jl(w:World)(a0 a1 a2 a3 a4:Value)(FB:Nat)(F:Nat->Value)(v:World):Prop where
 b:SB w a0 a1 a2 a3 a4 v
 f:v.rowIs FB 137 10 F
 hF:w.heap.size+1+1<FB
theorem Jl.next{w:World}{a0 a1 a2 a3 a4:Value}{FB:Nat}{F:Nat->Value}{v v':World}(h:Jl w a0 a1 a2 a3 a4 FB F v)(k:Below v.heap.size v v'):Jl w a0 a1 a2 a3 a4 FB F v':=⟨h.b.next k,h.f.of_block (k.block _ h.f.lt),h.hF⟩
theorem Jl.below{w:World}{a0 a1 a2 a3 a4:Value}{FB B:Nat}{F:Nat->Value}{v v':World}(h:Jl w a0 a1 a2 a3 a4 FB F v)(k:Below B v v')(hB:FB<B):Jl w a0 a1 a2 a3 a4 FB F v':=by
 have hF:=h.hF;have hs:=h.b.bel.size;have hlt:=h.f.lt;refine⟨⟨⟨k.os.trans h.b.bel.os,k.tape.trans h.b.bel.tape,k.output.trans h.b.bel.output,Nat.le_trans hs k.size,fun x hx=>(k.block x oM).trans (h.b.bel.block x hx)⟩,h.b.r.of_block (k.block _ oM),h.b.q.of_block (k.block _ oM),h.b.c.of_block (k.block _ oM)⟩,h.f.of_block (k.block _ hB),h.hF⟩
theorem Jl.put{w:World}{a0 a1 a2 a3 a4:Value}{FB:Nat}{F:Nat->Value}{v:World}(h:Jl w a0 a1 a2 a3 a4 FB F v)(i:Nat)(x:Value):Jl w a0 a1 a2 a3 a4 FB (fun j=>if j=i then x else F j) (v.setCell ⟨FB,i,none⟩ x):=by
 have hF:=h.hF;exact⟨⟨h.b.bel.setCell (by show w.heap.size<=FB;omega) _,h.b.r.setOther (by show w.heap.size≠FB;omega) _,h.b.q.setOther (by show w.heap.size+1≠FB;omega) _,h.b.c.setOther (by show w.heap.size+1+1≠FB;omega) _⟩,h.f.set i x,h.hF⟩
theorem Jl.congr{w:World}{a0 a1 a2 a3 a4:Value}{FB:Nat}{F F':Nat->Value}{v:World}(h:Jl w a0 a1 a2 a3 a4 FB F v)(k:∀j,j<10->F j=F' j):Jl w a0 a1 a2 a3 a4 FB F' v:=⟨h.b,h.f.congr k,h.hF⟩
theorem E4{P:Nat->Prop}(h0:P 0)(h1:P 1)(h2:P 2)(h3:P 3)(h4:P 4)(h5:P 5)(h6:P 6)(h7:P 7)(h8:P 8)(h9:P 9):∀j,j<10->P j:=by
 intro j hj;obtain rfl|rfl|rfl|rfl|rfl|rfl|rfl|rfl|rfl|rfl:j=0\/j=1\/j=2\/j=3\/j=4\/j=5\/j=6\/j=7\/j=8\/j=9:=oM
 all_goals assumption
theorem Jl.putT{w:World}{a0 a1 a2 a3 a4:Value}{FB:Nat}{F:Nat->Value}{v:World}(h:Jl w a0 a1 a2 a3 a4 FB F v)(b0 b1 b2 b3 b4 b5 b6 b7 b8 b9:Value):Jl w a0 a1 a2 a3 a4 FB (CU b0 b1 b2 b3 b4 b5 b6 b7 b8 b9) (MR v FB b0 b1 b2 b3 b4 b5 b6 b7 b8 b9):=
 ((((((((((h.put 0 b0).put 1 b1).put 2 b2).put 3 b3).put 4 b4).put 5 b5).put 6 b6).put 7 b7).put 8 b8).put 9 b9).congr (E4 rfl rfl rfl rfl rfl rfl rfl rfl rfl rfl)
def T4(w:World)(T:Nat->Prop)(FB:Nat)(b:Nat):Prop:=T b\/(w.heap.size<=b/\b<=w.heap.size+1+1)\/b=FB
theorem M6{w:World}{T:Nat->Prop}{FB:Nat}(hT:∀b,T b->b<w.heap.size)(hF:w.heap.size+1+1<FB){B:Nat}(hB:FB<B){b:Nat}(h:T4 w T FB b):b<B:=by
 rcases h with h|h|h
 ·have:=hT b h;omega
 ·omega
 ·omega
theorem t4_old{w:World}{T:Nat->Prop}{FB b:Nat}(hF:w.heap.size+1+1<FB)(hb:b<w.heap.size)(h:T4 w T FB b):T b:=by
 rcases h with h|h|h
 ·exact h
 ·omega
 ·omega
theorem Sy(m:Nat)(h:m<=16384)(w:World):(Instr.makeSlice 53 (.int .i64 m) (.int .i64 m)).run prog w=.ok (.slice (some ⟨w.heap.size,0,none⟩) m m) (w.alloc (.cells (madeCells #[.slice none 0 0,.int .i64 0] (m*2)) 94)):=by
 obtain⟨i,hi,hz,hs,hb⟩:=info_parts I8;have hr:=run_make (P:=prog) w 53 94 i _ underlying53 hi hz .i64 .i64 m m oM (Int.le_refl _) (by rw[hb];omega) oM;rw[hs,show(Value.agg #[.slice none 0 0,.int .i64 0]).cells=#[.slice none 0 0,.int .i64 0]from rfl]at hr;simpa using hr
theorem Sw(m i:Nat)(hi:i<m*2):(madeCells #[.slice none 0 0,.int .i64 0] (m*2))[i]? =some (f2 (.slice none 0 0) (.int .i64 0) (i%2)):=by
 unfold madeCells;rw[Array.getElem?_map,Array.getElem?_range];simp[hi];have h2:i%2=0\/i%2=1:=oM;rcases h2 with h|h<;>rw[h]<;>rfl
def RK(n:Nat):List Cl:=List.replicate n ⟨none,0,⟨[],0⟩⟩
theorem QF{T:Nat->Prop}{v:World}{RB m:Nat}(h:v.heap[RB]? =some (.cells (madeCells #[.slice none 0 0,.int .i64 0] (m*2)) 94 (0,0)))(hT:¬T RB):AS T v (.slice (some ⟨RB,0,none⟩) m m) (RK m):=by
 have hlt:RB<v.heap.size:=by
  rcases Nat.lt_or_ge RB v.heap.size with h1|h1
  ·exact h1
  ·rw[Array.getElem?_eq_none h1]at h;cases h
 refine⟨⟨_,m,by rw[RK,List.length_replicate],.inr ⟨RB,0,rfl,hT,hlt,fun i hi j hj=>?_⟩⟩,fun x hx=>?_⟩
 ·rw[RK,List.length_replicate]at hi;have hj2:j<2:=hj;have hc:v.cell? ⟨RB,0+i*2+j,none⟩=some (f2 (.slice none 0 0) (.int .i64 0) ((0+i*2+j)%2)):=by
   unfold World.cell?;simp only[h];exact Sw m _ oM
  rw[hc];simp only[RK,List.getElem_replicate];obtain rfl|rfl:j=0\/j=1:=oM
  ·rw[show(0+i*2+0)%2=0 by omega];rfl
  ·rw[show(0+i*2+1)%2=1 by omega];rfl
 ·rw[RK]at hx;rw[List.eq_of_mem_replicate hx];exact .inl rfl
theorem V9{B:Nat}{V:World}{e t:TypeId}{z:Value}{sz by':Nat}(ht:prog.underlying t=some (.slice e))(hi:(prog.info? e).map (fun i=>(i.zero,i.size,i.bytes))=some (some z,sz,by'))(hzs:z.cells.size=sz)(hsz:0<sz){p:Option Addr}{n q m:Nat}{xs:List Value}(h:V.ownsRow B e sz (.slice p n q) n xs)(hB:B<=V.heap.size)
 (cs:Array Value) (hm:0<m) (hcs:cs.size=m*sz) (h1:∀u∈cs.toList,u.oneCell'=true) (hn:n+m<=maxLen) (hb:(n+m)*by'<=140737488355328) (ty:TypeId):
 ∃g c' w',(Builtin.append_ #[t,t] ty #[.slice p n q,.slice (some ⟨V.heap.size,0,none⟩) m m]).run prog (V.alloc (.cells cs e))=.ok (.slice (some ⟨g,0,none⟩) (n+m) c') w'/\Below B V w'/\w'.ownsRow B e sz (.slice (some ⟨g,0,none⟩) (n+m) c') (n+m) (xs++cs.toList)/\(∀b,b<V.heap.size->(Value.slice p n q).ownBlock≠some b->w'.heap[b]? =V.heap[b]?)/\((Value.slice p n q).ownBlock=some g\/V.heap.size<g):=by
 obtain⟨i0,hi0,hz0,hz1,hz2⟩:=info_parts hi;have hb0:Below V.heap.size V (V.alloc (.cells cs e)):=A0 _ _;have hs:(V.alloc (.cells cs e)).heap.size=V.heap.size+1:=sM;have h0:=Au h hb0;obtain⟨g,cap,w3,hr,hown,hgrow,hat,hlt⟩:=run_append_lies (P:=prog) (V.alloc (.cells cs e)) t ty B e i0 _ sz by' ht hi0 hz0 hz1 hz2 hzs hsz (.slice p n q) n xs h0 ⟨V.heap.size,0,none⟩ m m cs.toList (by simp[hcs])
  (World.news_of_block (cs:=cs) (t:=e) (fr:=(0,0)) (heap_alloc_new V _)) h1 hm hn hb oM _ rfl
 exact Zdt
theorem sp_A{T:Nat->Prop}{w:World}{a0 a1 a2 a3 a4:Value}{v:World}{m:Nat}(h:SB w a0 a1 a2 a3 a4 v)(hT:∀b,T b->b<w.heap.size)(b0 b1 b2 b3 b5 b6 b7 b8 b9:Value):
 Jl w a0 a1 a2 a3 a4 (v.heap.size+1) (CU b0 b1 b2 b3 (.slice (some ⟨v.heap.size,0,none⟩) m m) b5 b6 b7 b8 b9) ((v.alloc (.cells (madeCells #[.slice none 0 0,.int .i64 0] (m*2)) 94)).alloc (.cells #[b0,b1,b2,b3,.slice (some ⟨v.heap.size,0,none⟩) m m,b5,b6,b7,b8,b9] 137))/\AS (T4 w T (v.heap.size+1)) ((v.alloc (.cells (madeCells #[.slice none 0 0,.int .i64 0] (m*2)) 94)).alloc (.cells #[b0,b1,b2,b3,.slice (some ⟨v.heap.size,0,none⟩) m m,b5,b6,b7,b8,b9] 137)) (.slice (some ⟨v.heap.size,0,none⟩) m m) (RK m):=by
 have hsz:=h.size;have r1:=World.rowIs_alloc (v.alloc (.cells (madeCells #[.slice none 0 0,.int .i64 0] (m*2)) 94)) #[b0,b1,b2,b3,.slice (some ⟨v.heap.size,0,none⟩) m m,b5,b6,b7,b8,b9] 137 _ (Mn _ _ _ _ _ _ _ _ _ _);simp only[World.size_alloc]at r1;refine⟨⟨h.next (bel (A0 _ _) (A0 _ _)),r1,oM⟩,QF ?_ ?_⟩
 ·rw[(A0 (v.alloc (.cells (madeCells #[.slice none 0 0,.int .i64 0] (m*2)) 94)) _).block _ sM];exact heap_alloc_new v _
 ·rintro(k|k|k)
  ·have:=hT _ k;omega
  ·omega
  ·omega
theorem sp_B{T:Nat->Prop}{w:World}{a0 a1 a2 a3 a4:Value}{v:World}{m:Nat}(h:SB w a0 a1 a2 a3 a4 v)(hT:∀b,T b->b<w.heap.size)(b0 b1 b2 b3 b5 b6 b7 b8 b9:Value):
 Jl w a0 a1 a2 a3 a4 v.heap.size (CU b0 b1 b2 b3 (.slice (some ⟨v.heap.size+1,0,none⟩) m m) b5 b6 b7 b8 b9) ((v.alloc (.cells #[b0,b1,b2,b3,.slice (some ⟨v.heap.size+1,0,none⟩) m m,b5,b6,b7,b8,b9] 137)).alloc (.cells (madeCells #[.slice none 0 0,.int .i64 0] (m*2)) 94))/\AS (T4 w T v.heap.size) ((v.alloc (.cells #[b0,b1,b2,b3,.slice (some ⟨v.heap.size+1,0,none⟩) m m,b5,b6,b7,b8,b9] 137)).alloc (.cells (madeCells #[.slice none 0 0,.int .i64 0] (m*2)) 94)) (.slice (some ⟨v.heap.size+1,0,none⟩) m m) (RK m):=by
 have hsz:=h.size;have r1:=World.rowIs_alloc v #[b0,b1,b2,b3,.slice (some ⟨v.heap.size+1,0,none⟩) m m,b5,b6,b7,b8,b9] 137 _ (Mn _ _ _ _ _ _ _ _ _ _);refine⟨⟨h.next (bel (A0 _ _) (A0 _ _)),r1.alloc _,oM⟩,QF ?_ ?_⟩
 ·have h1:=heap_alloc_new (v.alloc (.cells #[b0,b1,b2,b3,.slice (some ⟨v.heap.size+1,0,none⟩) m m,b5,b6,b7,b8,b9] 137)) (.cells (madeCells #[.slice none 0 0,.int .i64 0] (m*2)) 94);simp only[World.size_alloc]at h1;exact h1
 ·rintro(k|k|k)
  ·have:=hT _ k;omega
  ·omega
  ·omega
structure L1(T:Nat->Prop)(w:World)(a0 a1 a2 a3 a4:Value)(FB E:Nat)(F:Nat->Value)(v:World)(sv:Value)(Y:List Cl):Prop where
 sp:Jl w a0 a1 a2 a3 a4 FB F v
 be:E<=v.heap.size
 cs:Ji E v sv Y
 loc:∀x∈Y,∀b o s,x.p=some ⟨b,o,s⟩->x.h.pats≠[]->¬T4 w T FB b
theorem L1.next{T:Nat->Prop}{w:World}{a0 a1 a2 a3 a4:Value}{FB E:Nat}{F:Nat->Value}{v v':World}{sv:Value}{Y:List Cl}(h:L1 T w a0 a1 a2 a3 a4 FB E F v sv Y)(k:Below v.heap.size v v'):L1 T w a0 a1 a2 a3 a4 FB E F v' sv Y:=⟨h.sp.next k,Nat.le_trans h.be k.size,h.cs.below k,h.loc⟩
theorem L1.put{T:Nat->Prop}{w:World}{a0 a1 a2 a3 a4:Value}{FB E:Nat}{F:Nat->Value}{v v':World}{sv:Value}{Y:List Cl}(h:L1 T w a0 a1 a2 a3 a4 FB E F v sv Y)(hFE:FB<E)(k:Below E v v'){g n c':Nat}{Y':List Cl}(hc:Ji E v' (.slice (some ⟨g,0,none⟩) n c') Y')(hloc:∀x∈Y',∀b o s,x.p=some ⟨b,o,s⟩->x.h.pats≠[]->¬T4 w T FB b):
 v'.cell? ⟨FB,5,none⟩=some (F 5)/\v'.frozen? ⟨FB,5,none⟩=false/\L1 T w a0 a1 a2 a3 a4 FB E (fun j=>if j=5 then .slice (some ⟨g,0,none⟩) n c' else F j) (v'.setCell ⟨FB,5,none⟩ (.slice (some ⟨g,0,none⟩) n c')) (.slice (some ⟨g,0,none⟩) n c') Y':=by
 have hs:=h.sp.below k hFE;have ho:∀b,b≠FB->(v'.setCell ⟨FB,5,none⟩ (.slice (some ⟨g,0,none⟩) n c')).heap[b]? =v'.heap[b]? :=fun b hne=>Below.heap_setCell _ _ _ _ hne;refine⟨hs.f.cell (i:=5) dE,hs.f.frozen 5,hs.put 5 _,?_,⟨Ad hc.own (fun b hbb=>ho b Zhg),fun x hx=>?_⟩,hloc⟩
 ·have h1:=h.be;have h2:=k.size;simp only[World.size_setCell];omega
 ·exact Zde
structure RM(B:Nat)(v:World)(sv:Value)(X:List Cl):Prop where
 own:v.ownsRow B 36 1 sv X.length (AU TP X)
 nums:∀x∈X,GQ v sv x.p x.h.pats
theorem RM.below{B:Nat}{v v':World}{sv:Value}{X:List Cl}(h:RM B v sv X)(k:Below v.heap.size v v'):RM B v' sv X:=⟨Au h.own k,fun x hx=>(h.nums x hx).below k⟩
theorem RM.nil(B:Nat)(v:World):RM B v (.slice none 0 0) []:=⟨World.ownsRow_nil _ _ _ 1,fun x hx=>by cases hx⟩
theorem RM.push{B:Nat}{V:World}{p:Option Addr}{q:Nat}{X:List Cl}(h:RM B V (.slice p X.length q) X)(hB:B<=V.heap.size)(hX:X.length<=16384)(x:Cl)(hx:GQ V (.slice p X.length q) x.p x.h.pats)(ty:TypeId):
 ∃g c' w',(Builtin.append_ #[125,125] ty #[.slice p X.length q,.slice (some ⟨V.heap.size,0,none⟩) 2 2]).run prog (V.alloc (.cells #[.slice x.p x.h.pats.length x.q,.slice x.p x.h.pats.length x.q] 36))=.ok (.slice (some ⟨g,0,none⟩) (X.length+2) c') w'/\Below B V w'/\RM B w' (.slice (some ⟨g,0,none⟩) (X.length+2) c') (X++[x,x]):=by
 obtain⟨g,c',w',hr,hb,ho,hk,hg⟩:=V9 (V:=V) (m:=2) underlying125 Ls rfl dE h.own hB #[.slice x.p x.h.pats.length x.q,.slice x.p x.h.pats.length x.q] dE rfl (fun u hu=>by simp at hu;subst hu;rfl) mL oM ty;refine⟨g,c',w',hr,hb,⟨?_,fun y hy=>?_⟩⟩
 ·rw[List.length_append,FS];exact ho
 ·rcases List.mem_append.1 hy with e|e
  ·exact(h.nums y e).grow hk hg
  ·simp only[List.mem_cons,List.not_mem_nil,or_false,or_self]at e;subst e;exact hx.grow hk hg
structure L2(T:Nat->Prop)(w:World)(a0 a1 a2 a3 a4:Value)(FB E:Nat)(F:Nat->Value)(v:World)(sv:Value)(Y:List Cl):Prop where
 sp:Jl w a0 a1 a2 a3 a4 FB F v
 be:E<=v.heap.size
 cs:RM E v sv Y
 loc:∀x∈Y,∀b o s,x.p=some ⟨b,o,s⟩->x.h.pats≠[]->¬T4 w T FB b
theorem L2.next{T:Nat->Prop}{w:World}{a0 a1 a2 a3 a4:Value}{FB E:Nat}{F:Nat->Value}{v v':World}{sv:Value}{Y:List Cl}(h:L2 T w a0 a1 a2 a3 a4 FB E F v sv Y)(k:Below v.heap.size v v'):L2 T w a0 a1 a2 a3 a4 FB E F v' sv Y:=⟨h.sp.next k,Nat.le_trans h.be k.size,h.cs.below k,h.loc⟩
theorem L2.put{T:Nat->Prop}{w:World}{a0 a1 a2 a3 a4:Value}{FB E:Nat}{F:Nat->Value}{v v':World}{sv:Value}{Y:List Cl}(h:L2 T w a0 a1 a2 a3 a4 FB E F v sv Y)(hFE:FB<E)(k:Below E v v'){g n c':Nat}{Y':List Cl}(hc:RM E v' (.slice (some ⟨g,0,none⟩) n c') Y')(hloc:∀x∈Y',∀b o s,x.p=some ⟨b,o,s⟩->x.h.pats≠[]->¬T4 w T FB b):
 v'.cell? ⟨FB,6,none⟩=some (F 6)/\v'.frozen? ⟨FB,6,none⟩=false/\L2 T w a0 a1 a2 a3 a4 FB E (fun j=>if j=6 then .slice (some ⟨g,0,none⟩) n c' else F j) (v'.setCell ⟨FB,6,none⟩ (.slice (some ⟨g,0,none⟩) n c')) (.slice (some ⟨g,0,none⟩) n c') Y':=by
 have hs:=h.sp.below k hFE;have ho:∀b,b≠FB->(v'.setCell ⟨FB,6,none⟩ (.slice (some ⟨g,0,none⟩) n c')).heap[b]? =v'.heap[b]? :=fun b hne=>Below.heap_setCell _ _ _ _ hne;refine⟨hs.f.cell (i:=6) dE,hs.f.frozen 6,hs.put 6 _,?_,⟨Ad hc.own (fun b hbb=>ho b Zhg),fun x hx=>?_⟩,hloc⟩
 ·have h1:=h.be;have h2:=k.size;simp only[World.size_setCell];omega
 ·exact Zde
theorem Yr{T:Nat->Prop}{E:Nat}{v:World}{sv:Value}{Y:List Cl}(h:RM E v sv Y)(hT:∀b,T b->b<E)(hl:∀x∈Y,∀b o s,x.p=some ⟨b,o,s⟩->x.h.pats≠[]->¬T b):I0 T v sv Y:=by
 refine⟨He Jb h.own hT,fun x hx=>?_⟩;exact Zdw
def MI(c:Cd)(j:Nat):List Hd:=(List.range (2*j)).map fun i=>⟨List.replicate (lenOf c ((i/2:Nat):Int)) 0,0⟩
theorem SE(c:Cd)(j:Nat):MI c (j+1)=MI c j++[⟨List.replicate (lenOf c (j:Int)) 0,0⟩,⟨List.replicate (lenOf c (j:Int)) 0,0⟩]:=by
 unfold MI;rw[show 2*(j+1)=2*j+1+1 by omega,Ek,Ek,List.append_assoc,show 2*j/2=j by omega,show(2*j+1)/2=j by omega];rfl
theorem SR{c:Cd}{l:List Hd}{Y O:List Cl}(hg:Good c)(hso:Gq c l)(hY:Y.map (·.h)=OX c l)(hO:O.map (·.h)=MI c c.sign.length):OU c (Bo c l) (RK c.regs.length) Y O:=by
 have hol:O.length=2*c.sign.length:=by have h1:=congrArg List.length hO;rw[List.length_map,MI,List.length_map,List.length_range]at h1;exact h1
 refine⟨by rw[RK,List.length_replicate],fun x hx=>?_,hY,fun j h h2=>?_,hol,fun p n hp hn=>?_⟩
 ·rw[RK]at hx;rw[List.eq_of_mem_replicate hx];exact⟨fun y hy=>(by cases hy),Nat.zero_le _,Int.le_refl _,by show(0:Int)<=2147483647;decide⟩
 ·show(((OX c l)[j]?).getD ⟨[],0⟩).whole=0;have hjl:j<(OX c l).length:=by rw[G9 hso.len];exact h
  rw[List.getElem?_eq_getElem hjl,Option.getD_some,OY hso.len h hjl];split
  ·have h3:=hso.z j h h2;rw[List.getElem?_eq_getElem (by rw[hso.len];exact h),Option.getD_some]at h3;exact h3
  ·exact QC hg (List.getElem_mem h) h2
 ·have hn2:n<2:=by unfold AM at hn;split at hn<;>omega
  have hil:2*p+n<O.length:=by rw[hol];omega
  have hoh:(O[2*p+n]).h=⟨List.replicate (lenOf c (p:Int)) 0,0⟩:=by
   have h5:(O.map (·.h))[2*p+n]? =some (O[2*p+n]).h:=by rw[List.getElem?_map,List.getElem?_eq_getElem hil];rfl
   rw[hO,MI,List.getElem?_map,List.getElem?_range oM]at h5;simp only[Option.map_some,Option.some.injEq]at h5;rw[←h5,show(2*p+n)/2=p by omega]
  refine⟨O[2*p+n],List.getElem?_eq_getElem hil,by rw[hoh];simp,fun y hy=>?_,fun e he=>?_⟩
  ·rw[hoh]at hy;simp only at hy;rw[List.eq_of_mem_replicate hy];exact IA
  ·rw[hoh];show BZ (List.replicate (lenOf c (p:Int)) 0) e=0;rw[J2 _ _ he]
theorem NU{c:Cd}{l:List Hd}(hg:Good c)(hk:Ba c)(hso:Gq c l):Iu c (Bo c l):=by
 refine⟨fun _=>IA,fun _=>⟨Int.le_refl _,by show(0:Int)<=2147483647;decide⟩,fun _ y hy=>(by cases hy),fun _=>Nat.zero_le _,G9 hso.len,fun j h h'=>?_⟩;have h3:j<(OX c l).length:=h';show OR c c.slots[j].ty ((OX c l)[j]'h3);rw[OY hso.len h h3];split
 ·exact hso.ok j h (by rw[hso.len];exact h)
 ·exact Nj hg (List.getElem_mem h) (hk.sbits _ (List.getElem_mem h))
theorem Q8{c:Cd}(hg:Good c){i:Ac}{s:Wk}(t:Aq c s i=true)(v0 v1 v2 v3:Value)(w:World)(hv:Cj w v0 v1 v2 v3 c):
 Calls prog 71 #[.agg #[v0,v1,v2,v3],.agg #[.int .i64 i.op,.int .i64 i.d,.int .i64 i.a,.int .i64 i.b,.int .i64 i.c,.int .i64 i.n,.int .u32 i.bits]] w fun e w'=>(∃n:Nat,n<=4096/\e=.returned (.int .i64 (n:Int)))/\Below w.heap.size w w':=by
 obtain⟨hk,h2,_,_⟩:=Ah t;obtain⟨op,D,A,B,Ec,nn,bt⟩:=i;simp only at hk ⊢;have hk':=hk;unfold Ak at hk';simp only[Bool.and_eq_true,decide_eq_true_eq]at hk';by_cases h1:(3<=op/\op<=15)\/op=29\/op=30\/op=32
 ·have hd:(A4 op).d≠0:=(PZ hk).2 oM;have:=Ae (Du h2) hd;simp only at this;obtain⟨kd,rfl⟩:∃n:Nat,D=(n:Int):=⟨D.toNat,oM⟩
  exact Wm c hg v0 v1 v2 v3 op A B Ec nn bt h1 kd oM w hv
 ·by_cases h3:op=31\/op=33\/op=19\/op=20
  ·have ha:(A4 op).a≠0:=by rcases h3 with rfl|rfl|rfl|rfl<;>decide
   have:=Ae (BD h2) ha;simp only at this;obtain⟨ka,rfl⟩:∃n:Nat,A=(n:Int):=⟨A.toNat,oM⟩
   exact Wl c hg v0 v1 v2 v3 op D B Ec nn bt h3 ka oM w hv
  ·exact Wj v0 v1 v2 v3 op D A B Ec nn bt oM w
structure L3(T:Nat->Prop)(w:World)(a0 a1 a2 a3 a4:Value)(FB:Nat)(pr p5 p6:Option Addr)(n1 qr n2 q5 no q6:Nat)(gv pv:Value)(ct:Int)(X S O:List Cl)(v:World):Prop where
 sp:Jl w a0 a1 a2 a3 a4 FB (CU a0 a1 a2 a3 (.slice pr n1 qr) (.slice p5 n2 q5) (.slice p6 no q6) gv pv (.int .i64 ct)) v
 cr:AS (T4 w T FB) v (.slice pr n1 qr) X
 cs:AS (T4 w T FB) v (.slice p5 n2 q5) S
 co:I0 (T4 w T FB) v (.slice p6 no q6) O
 ol:O.length=no
section
variable {T : Nat -> Prop} {w : World} {a0 a1 a2 a3 a4 : Value} {FB : Nat} {pr p5 p6 : Option Addr} {n1 qr n2 q5 no q6 : Nat} {gv pv : Value} {ct : Int} {X S O : List Cl} {v v' : World}
theorem L3.next(h:L3 T w a0 a1 a2 a3 a4 FB pr p5 p6 n1 qr n2 q5 no q6 gv pv ct X S O v)(k:Below v.heap.size v v'):L3 T w a0 a1 a2 a3 a4 FB pr p5 p6 n1 qr n2 q5 no q6 gv pv ct X S O v':=⟨h.sp.next k,h.cr.below k,h.cs.below k,h.co.below k,h.ol⟩
theorem L3.cost(h:L3 T w a0 a1 a2 a3 a4 FB pr p5 p6 n1 qr n2 q5 no q6 gv pv ct X S O v)(ct':Int):L3 T w a0 a1 a2 a3 a4 FB pr p5 p6 n1 qr n2 q5 no q6 gv pv ct' X S O (v.setCell ⟨FB,9,none⟩ (.int .i64 ct')):=by
 have hu:Un (fun b=>b=FB) v (v.setCell ⟨FB,9,none⟩ (.int .i64 ct')):=(Un.refl _ _).setCell rF _;exact⟨(h.sp.put 9 _).congr (E4 rfl rfl rfl rfl rfl rfl rfl rfl rfl rfl),h.cr.un hu (fun b _ e=>.inr (.inr e)),h.cs.un hu (fun b _ e=>.inr (.inr e)),h.co.un hu (fun b _ e=>.inr (.inr e)),h.ol⟩
theorem L3.put(h:L3 T w a0 a1 a2 a3 a4 FB pr p5 p6 n1 qr n2 q5 no q6 gv pv ct X S O v)(k:Below v.heap.size v v'){pr' p5' p6':Option Addr}{qr' q5' q6':Nat}{X' S' O':List Cl}(h1:AS (T4 w T FB) v' (.slice pr' n1 qr') X')(h2:AS (T4 w T FB) v' (.slice p5' n2 q5') S')(h3:I0 (T4 w T FB) v' (.slice p6' no q6') O')(hl:O'.length=O.length):
 L3 T w a0 a1 a2 a3 a4 FB pr' p5' p6' n1 qr' n2 q5' no q6' gv pv ct X' S' O' (MR v' FB a0 a1 a2 a3 (.slice pr' n1 qr') (.slice p5' n2 q5') (.slice p6' no q6') gv pv (.int .i64 ct)):=by
 have hu:=Jf v' FB a0 a1 a2 a3 (.slice pr' n1 qr') (.slice p5' n2 q5') (.slice p6' no q6') gv pv (.int .i64 ct);exact⟨(h.sp.next k).putT _ _ _ _ _ _ _ _ _ _,h1.un hu (fun b _ e=>.inr (.inr e)),h2.un hu (fun b _ e=>.inr (.inr e)),h3.un hu (fun b _ e=>.inr (.inr e)),hl.trans h.ol⟩
theorem L3.cells(h:L3 T w a0 a1 a2 a3 a4 FB pr p5 p6 n1 qr n2 q5 no q6 gv pv ct X S O v):v.cell? ⟨FB,0,none⟩=some a0/\v.cell? ⟨FB,1,none⟩=some a1/\v.cell? ⟨FB,2,none⟩=some a2/\v.cell? ⟨FB,3,none⟩=some a3/\v.cell? ⟨FB,4,none⟩=some (.slice pr n1 qr)/\v.cell? ⟨FB,5,none⟩=some (.slice p5 n2 q5)/\v.cell? ⟨FB,6,none⟩=some (.slice p6 no q6)/\v.cell? ⟨FB,7,none⟩=some gv/\v.cell? ⟨FB,8,none⟩=some pv/\v.cell? ⟨FB,9,none⟩=some (.int .i64 ct):=
 ⟨h.sp.f.cell (i:=0) dE,h.sp.f.cell (i:=1) dE,h.sp.f.cell (i:=2) dE,h.sp.f.cell (i:=3) dE,h.sp.f.cell (i:=4) dE,h.sp.f.cell (i:=5) dE,h.sp.f.cell (i:=6) dE,h.sp.f.cell (i:=7) dE,h.sp.f.cell (i:=8) dE,h.sp.f.cell (i:=9) dE⟩
theorem L3.frz(h:L3 T w a0 a1 a2 a3 a4 FB pr p5 p6 n1 qr n2 q5 no q6 gv pv ct X S O v):∀i,v.frozen? ⟨FB,i,none⟩=false:=fun i=>h.sp.f.frozen i
theorem L3.code(h:L3 T w a0 a1 a2 a3 a4 FB pr p5 p6 n1 qr n2 q5 no q6 gv pv ct X S O v):v.cell? ⟨w.heap.size+1+1,0,none⟩=some a0/\v.cell? ⟨w.heap.size+1+1,1,none⟩=some a1/\v.cell? ⟨w.heap.size+1+1,2,none⟩=some a2/\v.cell? ⟨w.heap.size+1+1,3,none⟩=some a3:=
 ⟨h.sp.b.c.cell (i:=0) dE,h.sp.b.c.cell (i:=1) dE,h.sp.b.c.cell (i:=2) dE,h.sp.b.c.cell (i:=3) dE⟩
end
theorem Xt{v:World}{XB:Nat}{b0 b1 b2 b3 b4 b5 b6:Value}(h:v.rowIs XB 44 7 (f7 b0 b1 b2 b3 b4 b5 b6)):v.cell? ⟨XB,0,none⟩=some b0/\v.cell? ⟨XB,1,none⟩=some b1/\v.cell? ⟨XB,2,none⟩=some b2/\v.cell? ⟨XB,3,none⟩=some b3/\v.cell? ⟨XB,4,none⟩=some b4/\v.cell? ⟨XB,5,none⟩=some b5/\v.cell? ⟨XB,6,none⟩=some b6:=
 ⟨h.cell (i:=0) dE,h.cell (i:=1) dE,h.cell (i:=2) dE,h.cell (i:=3) dE,h.cell (i:=4) dE,h.cell (i:=5) dE,h.cell (i:=6) dE⟩
theorem KZ(c:Cd)(L:List Ac)(l:List Hd):∀j,OZ {c with list:=L} l j=OZ c l j
 |0=>rfl
 |j+1=>by
  unfold OZ;rw[KZ c L l j];rfl
def Kq(l:List Hd):Prop:=∀h∈l,∀y∈h.pats,canon y=y
theorem L5(c:Cd)(s:Sl):∀y∈(Bi c s).pats,canon y=y:=by
 intro y hy;unfold Bi Es at hy;rw[List.eq_of_mem_replicate hy];exact BU _
theorem Tv(c:Cd):Kq (BP c):=by
 intro h hh;unfold BP at hh;obtain⟨s,-,rfl⟩:=List.mem_map.1 hh;exact L5 c s
theorem Qx{c:Cd}{l:List Hd}(h:Kq l):∀j,Kq (OZ c l j)
 |0=>h
 |j+1=>by
  have ih:=Qx h j (c:=c);unfold OZ;split
  ·split
   ·exact ih
   ·intro x hx;rcases List.mem_or_eq_of_mem_set hx with e|e
    ·exact ih x e
    ·rw[e];exact L5 c _
  ·exact ih
theorem Qh{c:Cd}{l:List Hd}(h:Kq l):Jh (Bo c l):=
 ⟨fun _=>(by show canon 0=0;decide),fun _ y hy=>(by cases hy),fun x hx=>Qx h _ x hx⟩
structure Jk(c d:Cd):Prop where
 sign:d.sign=c.sign
 slots:d.slots=c.slots
 step:∀ (l:List Hd) (G P:List (List Int)),Gq c l->Kq l->FI G->FI P->Dz c G P=true->(Eo d l G P).slots=(Eo c l G P).slots/\G7 d (Eo d l G P)=G7 c (Eo c l G P)/\Kq (Eo c l G P).slots
theorem Gq.same{c d:Cd}(h:Jk c d){l:List Hd}(hs:Gq c l):Gq d l:=by
 exact Zev
theorem Wx{c d:Cd}(h:Jk c d){l:List Hd}(hs:Gq d l):Gq c l:=by
 exact Zev
theorem Ts{c:Cd}(hg:Good c)(hk:Ba c):Gq c (BP c):=
 ⟨(by unfold BP;simp),fun j h h'=>(by rw[M2 h' h];exact Nj hg (List.getElem_mem h) (hk.sbits _ (List.getElem_mem h))),Z1 hg⟩
theorem Oz{c d:Cd}(h:Jk c d):BP d=BP c:=by
 obtain⟨s0,r0,t0,l0⟩:=c;obtain⟨s1,r1,t1,l1⟩:=d;obtain⟨h1,h2,-⟩:=h;simp only at h1 h2;subst h1 h2;rfl
theorem Pm{c d:Cd}(h:Jk c d)(G P:List (List Int)):Dz d G P=Dz c G P:=by unfold Dz;rw[h.sign]
theorem PT{c:Cd}(hc:(Am c).1=0)(hk:Ba c):Jk c (AI c):=by
 refine⟨rfl,rfl,fun l G P hs cl kG kP hf=>?_⟩;obtain⟨hg,-⟩:=CZ hc;have hf':=hf;unfold Dz at hf';simp only[Bool.and_eq_true]at hf';have fg:CV c G:=J4 hf'.1 kG hg;have fp:CV c P:=J4 hf'.2 kP hg;have ok:=NU hg hk hs;have cf:Jh (Bo c l):=Qh cl;have hb:∀i∈c.list,Az i.bits:=hk.ibits;obtain⟨h1,h2,h3⟩:=EP.1 hc;have hsr:IR c G P [] Ci ⟨[],[]⟩ ⟨[],[]⟩ (Bo c l) (Bo c l) 0:=⟨CF.start c,GR.start c,rfl,rfl,by unfold Bp;exact⟨fun r hr=>(by cases hr),fun q hq=>(by cases hq)⟩,ok,.inl ⟨rfl,fun r hr=>(by cases hr)⟩,cf,DQ.start _⟩
 obtain⟨f2,f2',k2,s2,x2,x2',r1,r2,r3,r4⟩:=MS hg fg fp c.list [] Ci _ _ _ _ 0 (Bo c l) rfl hb h2 hsr rfl;have e:Cg c=s2.left:=by rw[r2];rfl
 have e1:Eo c l G P=f2:=by unfold Eo;rw[r1]
 have e2:Eo (AI c) l G P=f2':=by
  unfold Eo;have e9:Bo (AI c) l=Bo c l:=by unfold Bo AI;rw[KZ]
  rw[e9];show(Sk c G P (Bo c l,0) (Cg c)).1=_;rw[e,r3]
 rw[e1,e2];refine⟨r4.slots,?_,r4.can.slots⟩;show G7 c f2'=G7 c f2;unfold G7;rw[r4.outs]
end Go.Proofs.YtcdpmgldkibfiaaGreat
