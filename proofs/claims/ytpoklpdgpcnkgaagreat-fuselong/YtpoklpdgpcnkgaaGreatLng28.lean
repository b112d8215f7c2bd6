import Derived.Test.YtpoklpdgpcnkgaaGreatLng20
import Derived.Test.YtpoklpdgpcnkgaaGreatLng24
import Derived.Test.YtpoklpdgpcnkgaaGreatLng22
import Derived.Test.YtpoklpdgpcnkgaaGreatLng26
import Derived.Test.YtpoklpdgpcnkgaaGreatLng23
import Derived.Test.YtpoklpdgpcnkgaaGreatLng25
import Derived.Test.YtpoklpdgpcnkgaaGreatLng17
import Derived.Test.YtpoklpdgpcnkgaaGreatLng7
import Derived.Test.YtpoklpdgpcnkgaaGreatLng9
import Derived.Maps.OwnSet
import Derived.Maps.OwnOps
import Derived.Test.YtpoklpdgpcnkgaaGreatLng1
import Derived.Test.YtpoklpdgpcnkgaaGreatLng2
import Derived.Test.YtpoklpdgpcnkgaaGreatLng18
import Derived.Deep.DeepCutAuto
import Derived.Test.YtpoklpdgpcnkgaaGreatLng12
namespace Go.Proofs.YtpoklpdgpcnkgaaGreat
open Go.RowKit Go.Proofs.Tryz
set_option linter.all false
set_option maxRecDepth 100000
set_option maxHeartbeats 16000000
abbrev rfV(p0 p1 p2 p3 pr p5 p6 p7 p8:Option Addr)(n0 q0 n1 q1 n2 q2 n3 q3 N qr n5 q5 n6 q6 n7 q7 n8 q8:Nat)(ct:Int):Value:=.agg #[.slice p0 n0 q0,.slice p1 n1 q1,.slice p2 n2 q2,.slice p3 n3 q3,.slice pr N qr,.slice p5 n5 q5,.slice p6 n6 q6,.slice p7 n7 q7,.slice p8 n8 q8,.int .i64 ct]
theorem M2{T:Nat->Prop}{c:Cd}{f:Fr}{i:Aa}(hg:By c)(L:List (List Int))(hL:DD c L)(hp:PE c i.d i.n)(p0 p1 p7:Option Addr)(q0 q1 n7 q7:Nat)(v2 v3:Value)(w:World)(hv:Dk w (.slice p0 c.sign.length q0) (.slice p1 c.regs.length q1) v2 v3 c)(hvc:LF w (.slice p7 n7 q7) L):
 ∃ (par sb so:Nat) (nm:ByteArray) (K:Int) (len lb lo:Nat) (tk:Int) (vb vo:Nat) (px:Option Addr) (M qx:Nat),p0=some ⟨sb,so,none⟩/\p1=some ⟨lb,lo,none⟩/\par<c.sign.length/\p7=some ⟨vb,vo,none⟩/\par<n7/\n7<=64/\w.cell? ⟨sb,so+par*3,none⟩=some (.string nm)/\w.cell? ⟨sb,so+par*3+1,none⟩=some (.int .i64 K)/\w.cell? ⟨sb,so+par*3+2,none⟩=some (.int .i64 (len:Int))/\w.cell? ⟨lb,lo+i.d.toNat*2,none⟩=some (.int .i64 tk)/\w.cell? ⟨lb,lo+i.d.toNat*2+1,none⟩=some (.int .i64 (par:Int))/\w.cell? ⟨vb,vo+par,none⟩=some (.slice px M qx)/\
  ∀v,Below w.heap.size w v->Calls prog 105 #[.agg #[.string nm,.int .i64 K,.int .i64 (len:Int)],.slice px M qx,.int .i64 i.n] v fun e w'=>∃p' q',e=.returned (.slice p' (Bm c L i).length q')/\Cs w' p' (Bm c L i)/\Below v.heap.size v w'/\∀b o s,p'=some ⟨b,o,s⟩->v.heap.size<=b:=by
 obtain⟨par,hpar,hpl⟩:=ND hg hp.r0 hp.r1 hp.kind;have hdl:i.d.toNat<c.regs.length:=by have:=hp.r0;have:=hp.r1;omega
 obtain⟨sb,so,rfl,hs⟩:=hv.sign.at hpl;obtain⟨lb,lo,rfl,hl⟩:=hv.regs.at hdl;obtain⟨p7',c7,e7,hvv⟩:=hvc;simp only[Value.slice.injEq]at e7;obtain⟨rfl,rfl,rfl⟩:=e7;have hpL:par<L.length:=by rw[hL.len];exact hpl
 obtain⟨vb,vo,px,qx,rfl,hcell,hrd⟩:=hvv par hpL;have hln:=Kq hg hpl;obtain⟨hnum,hlen2,hl1,hl2,hap⟩:=Kw hg hpl;have hk2:AP c (par:Int)=if c.sign[par].kind=2 then 2 else 1:=by unfold AP Do;simp[hpl]
 have hreg:c.regs[i.d.toNat].par=(par:Int):=by
  have h1:=EL hdl;rw[show((i.d.toNat:Nat):Int)=i.d by have:=hp.r0;omega]at h1;rw[<-h1];exact hpar
 have hn0:=hp.n0;rw[hpar]at hn0;have hlv:=hL.each par hpL;obtain⟨nn,hnn⟩:∃n:Nat,i.n=(n:Int):=⟨i.n.toNat,oM⟩
 have hnk:nn<AP c (par:Int):=by
  unfold AP;rcases hn0 with e|⟨e,e2⟩
  .have:nn=0:=oM;subst this;split<;>decide
  .have:nn=1:=oM;subst this;rw[if_pos e2];decide
 refine⟨par,sb,so,c.sign[par].name,c.sign[par].kind,lenOf c (par:Int),lb,lo,c.regs[i.d.toNat].kind,vb,vo,px,L[par].length,qx,rfl,rfl,hpl,rfl,hpL,by rw[hL.len];exact hg.signL,hs.at 0 rfl,hs.at 1 rfl,by rw[hln];exact hs.at 2 rfl,hl.at 0 rfl,by rw[<-hreg];exact hl.at 1 rfl,hcell,fun v hb=>?_⟩;have hpp:Bm c L i=F7 L[par] (AP c (par:Int)) nn (lenOf c (par:Int)):=by
  unfold Bm F7;rw[hpar,hnn];simp only[Int.toNat_natCast];rw[IG hpL]
 rw[hpp,Mv,hnn];refine(OZ c.sign[par].name c.sign[par].kind (lenOf c (par:Int)) oM (AP c (par:Int)) hk2 L[par] (hL.isP _ (gD hpL)) px qx nn hnk (by rw[hlv,hnum];exact gF _) (by rw[hlv,hnum];rcases hap with e|e<;>rw[e]<;>omega) v (hrd.below hb)).mono ?_;exact fun e w' h=>h
theorem Vo{T:Nat->Prop}{c:Cd}{G P:List (List Int)}{f:Fr}{i:Aa}{s:Wk}{X S O:List Cl}(hg:By c)(ok:Jf c f)(t:Am c s i=true)(hb:AB i.bits)(fg:DD c G)(fp:DD c P)(nd:Ee c f i)(rel:PF c f X S O)(kn:∀r∈Ac i (A3 i.op),Rh c f X r.toNat)
 (p0 p1 p2 p3 pr p5 p6 p7 p8:Option Addr) (q0 q1 q2 q3 qr q5 q6 q7 q8:Nat) (ct:Int) (w:World) (hT:∀b,T b->b<w.heap.size) (hv:Dk w (.slice p0 c.sign.length q0) (.slice p1 c.regs.length q1) (.slice p2 c.slots.length q2) (.slice p3 c.list.length q3) c) (hcs:AV T w (.slice pr c.regs.length qr) X) (hss:AV T w (.slice p5 c.slots.length q5) S) (hoo:IJ T w (.slice p6 O.length q6) O) (hgu:LF w (.slice p7 G.length q7) G) (hpu:LF w (.slice p8 P.length q8) P):
 Calls prog 77 #[rfV p0 p1 p2 p3 pr p5 p6 p7 p8 c.sign.length q0 c.regs.length q1 c.slots.length q2 c.list.length q3 c.regs.length qr c.slots.length q5 O.length q6 G.length q7 P.length q8 ct,BV i] w fun e w'=>∃pr' qr' p5' q5' p6' q6' X' S' O',e=.returned (rfV p0 p1 p2 p3 pr' p5' p6' p7 p8 c.sign.length q0 c.regs.length q1 c.slots.length q2 c.list.length q3 c.regs.length qr' c.slots.length q5' O.length q6' G.length q7 P.length q8 ct)/\AV T w' (.slice pr' c.regs.length qr') X'/\AV T w' (.slice p5' c.slots.length q5') S'/\IJ T w' (.slice p6' O.length q6') O'/\O'.length=O.length/\Did c G P f i X S O X' S' O'/\Below w.heap.size w w':=by
 obtain⟨hk,h2,_,h4⟩:=Ar t;have hX:=rel.xl;have hXl:=hg.regsL;have hSl:S.length=c.slots.length:=by have h1:=congrArg List.length rel.sl;rw[List.length_map,ok.slotsL]at h1;exact h1
 have nD:=Nh (Dh h2);have nA:=Nh (BR h2);have nB:=Nh (E8 h2);have nC:=Nh (E9 h2);obtain⟨op,D,A,B,Ec,nn,bt⟩:=i;unfold rfV BV;simp only at hb hk nD nA nB nC;obtain⟨kd,rfl⟩:∃n:Nat,D=(n:Int):=⟨D.toNat,oM⟩
 obtain⟨ka,rfl⟩:∃n:Nat,A=(n:Int):=⟨A.toNat,oM⟩
 obtain⟨kb,rfl⟩:∃n:Nat,B=(n:Int):=⟨B.toNat,oM⟩
 obtain⟨kk,rfl⟩:∃n:Nat,Ec=(n:Int):=⟨Ec.toNat,oM⟩
 have AL:0<c.regs.length->ka<c.regs.length:=fun h=>by have:=(F1 (BR h2) h).2;simp only at this;omega
 have BL:0<c.regs.length->kb<c.regs.length:=fun h=>by have:=(F1 (E8 h2) h).2;simp only at this;omega
 have CL:0<c.regs.length->kk<c.regs.length:=fun h=>by have:=(F1 (E9 h2) h).2;simp only at this;omega
 have KA:∀x,(A3 op).a≠0->X[ka]? =some x->x.h=Bx c f (ka:Int):=fun x h hx=>Z7 kn (r:=(ka:Int)) (Ml h) oM hx;have KB:∀x,(A3 op).b≠0->X[kb]? =some x->x.h=Bx c f (kb:Int):=fun x h hx=>Z7 kn (r:=(kb:Int)) (mem_b h) oM hx;have KC:∀x,(A3 op).c≠0->X[kk]? =some x->x.h=Bx c f (kk:Int):=fun x h hx=>Z7 kn (r:=(kk:Int)) (mem_c h) oM hx;have MA:=fun(h:(A3 op).a≠0)=>AR (BR h2) h;have MB:=fun(h:(A3 op).b≠0)=>AR (E8 h2) h;have MC:=fun(h:(A3 op).c≠0)=>AR (E9 h2) h;have DL:(A3 op).d≠0->kd<c.regs.length:=fun h=>by have:=(Af (Dh h2) h).2;simp only at this;omega
 simp only at MA MB MC;rcases CE hk with e|e|e|e|e|e|e|e|e
 .have hop:op=1\/op=16\/op=17\/op=19\/op=20:=by unfold Dw at e;simp only[Bool.or_eq_true,beq_iff_eq]at e;omega
  rcases hop with rfl|rfl|rfl|rfl|rfl
  .have hd:(A3 1).d≠0:=dE;have dl:=DL hd;have hval:(⟨[bt],0⟩:Hd)=DQ c G P f ⟨1,(kd:Int),(ka:Int),(kb:Int),(kk:Int),nn,bt⟩:=by rw[IE nd rF];rfl
   refine(Vp p0 p1 p2 p3 p5 p6 p7 p8 c.sign.length q0 c.regs.length q1 c.slots.length q2 c.list.length q3 c.slots.length q5 O.length q6 G.length q7 P.length q8 ct pr qr X c.regs.length hX hXl nn bt kd ka kb kk dl w hT hcs hb).mono ?_;exact SP
  .have hd:(A3 16).d≠0:=dE;have dl:=DL hd;have al:=AL oM;have hxa:X[ka]? =some (X[ka]'oM):=gB oM;have hah:=KA _ dE hxa;have hma:=MA dE;have bl:=BL oM;have hxb:X[kb]? =some (X[kb]'oM):=gB oM;have hbh:=KB _ dE hxb;have hmb:=MB dE;have ka1:(A5 c.regs (ka:Int)).kind=1:=by simpa[B5,A3]using hma
   have kb2:(A5 c.regs (kb:Int)).kind=2:=by simpa[B5,A3]using hmb
   rw[rd_1 ka1,Int.toNat_natCast]at hah;rw[QK kb2,Int.toNat_natCast]at hbh;have hval:(⟨[Ic (f.nums ka) (X[kb]'oM).h.whole],0⟩:Hd)=DQ c G P f ⟨16,(kd:Int),(ka:Int),(kb:Int),(kk:Int),nn,bt⟩:=by rw[IE nd rF,hbh];rfl
   refine(PX p0 p1 p2 p3 p5 p6 p7 p8 c.sign.length q0 c.regs.length q1 c.slots.length q2 c.list.length q3 c.slots.length q5 O.length q6 G.length q7 P.length q8 ct pr qr X c.regs.length hX hXl nn bt kd ka kb kk dl w hT hcs _ hxa _ hxb (f.nums ka) (by rw[hah]) (ok.nums ka) (by rw[hbh];exact ok.whs kb)).mono ?_;exact SP
  .have hd:(A3 17).d≠0:=dE;have dl:=DL hd;have al:=AL oM;have hxa:X[ka]? =some (X[ka]'oM):=gB oM;have hah:=KA _ dE hxa;have hma:=MA dE;have ka2:(A5 c.regs (ka:Int)).kind=2:=by simpa[B5,A3]using hma
   rw[QK ka2,Int.toNat_natCast]at hah;have hval:(⟨[DT (X[ka]'oM).h.whole],0⟩:Hd)=DQ c G P f ⟨17,(kd:Int),(ka:Int),(kb:Int),(kk:Int),nn,bt⟩:=by rw[IE nd rF,hah];rfl
   refine(Ti p0 p1 p2 p3 p5 p6 p7 p8 c.sign.length q0 c.regs.length q1 c.slots.length q2 c.list.length q3 c.slots.length q5 O.length q6 G.length q7 P.length q8 ct pr qr X c.regs.length hX hXl nn bt kd ka kb kk dl w hT hcs _ hxa (by rw[hah];exact ok.whs ka)).mono ?_;exact SP
  .have hd:(A3 19).d≠0:=dE;have dl:=DL hd;have al:=AL oM;have hxa:X[ka]? =some (X[ka]'oM):=gB oM;have hah:=KA _ dE hxa;have hma:=MA dE;have ka3:(A5 c.regs (ka:Int)).kind=3:=by simpa[B5,A3]using hma
   rw[rd_3 ka3,Int.toNat_natCast]at hah;have hval:(⟨[LI (Cy (X[ka]'oM).h.pats) (X[ka]'oM).h.pats.length],0⟩:Hd)=DQ c G P f ⟨19,(kd:Int),(ka:Int),(kb:Int),(kk:Int),nn,bt⟩:=by rw[IE nd rF,hah];rfl
   refine(Vr p0 p1 p2 p3 p5 p6 p7 p8 c.sign.length q0 c.regs.length q1 c.slots.length q2 c.list.length q3 c.slots.length q5 O.length q6 G.length q7 P.length q8 ct pr qr X c.regs.length hX hXl nn bt kd ka kb kk dl w hT hcs _ hxa (by rw[hah];exact ok.vecs ka) (by rw[hah];exact ok.vecsL ka)).mono ?_;exact SP
  .have hd:(A3 20).d≠0:=dE;have dl:=DL hd;have al:=AL oM;have hxa:X[ka]? =some (X[ka]'oM):=gB oM;have hah:=KA _ dE hxa;have hma:=MA dE;have ka3:(A5 c.regs (ka:Int)).kind=3:=by simpa[B5,A3]using hma
   rw[rd_3 ka3,Int.toNat_natCast]at hah;have hval:(⟨[Fe (Cy (X[ka]'oM).h.pats) (X[ka]'oM).h.pats.length],0⟩:Hd)=DQ c G P f ⟨20,(kd:Int),(ka:Int),(kb:Int),(kk:Int),nn,bt⟩:=by rw[IE nd rF,hah];rfl
   refine(PU p0 p1 p2 p3 p5 p6 p7 p8 c.sign.length q0 c.regs.length q1 c.slots.length q2 c.list.length q3 c.slots.length q5 O.length q6 G.length q7 P.length q8 ct pr qr X c.regs.length hX hXl nn bt kd ka kb kk dl w hT hcs _ hxa (by rw[hah];exact ok.vecs ka) (by rw[hah];exact ok.vecsL ka)).mono ?_;exact SP
 .have hop:op=2\/op=18\/(21<=op/\op<=28):=by unfold Bq at e;simp only[Bool.or_eq_true,Bool.and_eq_true,beq_iff_eq,decide_eq_true_eq]at e;omega
  rcases hop with rfl|rfl|⟨o1,o2⟩
  .have hd:(A3 2).d≠0:=dE;have dl:=DL hd;have hval:(⟨[],nn⟩:Hd)=DQ c G P f ⟨2,(kd:Int),(ka:Int),(kb:Int),(kk:Int),nn,bt⟩:=by rw[Ja nd rF];rfl
   refine(Vt p0 p1 p2 p3 p5 p6 p7 p8 c.sign.length q0 c.regs.length q1 c.slots.length q2 c.list.length q3 c.slots.length q5 O.length q6 G.length q7 P.length q8 ct pr qr X c.regs.length hX hXl nn bt kd ka kb kk dl w hT hcs).mono ?_;exact SP
  .have hd:(A3 18).d≠0:=dE;have dl:=DL hd;have al:=AL oM;have hxa:X[ka]? =some (X[ka]'oM):=gB oM;have hah:=KA _ dE hxa;have hma:=MA dE;have ka1:(A5 c.regs (ka:Int)).kind=1:=by simpa[B5,A3]using hma
   rw[rd_1 ka1,Int.toNat_natCast]at hah;have hval:(⟨[],C7 (f.nums ka%2147483648 != 0&&decide (f.nums ka%2147483648<=2139095040))⟩:Hd)=DQ c G P f ⟨18,(kd:Int),(ka:Int),(kb:Int),(kk:Int),nn,bt⟩:=by rw[Ja nd rF,test_eq];rfl
   refine(Tm p0 p1 p2 p3 p5 p6 p7 p8 c.sign.length q0 c.regs.length q1 c.slots.length q2 c.list.length q3 c.slots.length q5 O.length q6 G.length q7 P.length q8 ct pr qr X c.regs.length hX hXl nn bt kd ka kb kk dl w hT hcs _ hxa (f.nums ka) (by rw[hah]) (ok.nums ka)).mono ?_;exact SP
  .have hrow:(A3 op).d=2/\(A3 op).a=2/\((A3 op).b=0\/(A3 op).b=2)/\((A3 op).c=0\/(A3 op).c=2):=by
    have:op=21\/op=22\/op=23\/op=24\/op=25\/op=26\/op=27\/op=28:=oM;rcases this with rfl|rfl|rfl|rfl|rfl|rfl|rfl|rfl<;>decide
   have hd:(A3 op).d≠0:=by rw[hrow.1];decide
   have dl:=DL hd;have ha0:(A3 op).a≠0:=by rw[hrow.2.1];decide
   have al:=AL oM;have hxa:X[ka]? =some (X[ka]'oM):=gB oM;have hah:=KA _ ha0 hxa;have hma:=MA ha0;rw[hrow.2.1]at hma;have ka2:(A5 c.regs (ka:Int)).kind=2:=by simpa[B5]using hma
   rw[QK ka2,Int.toNat_natCast]at hah;have bl:=BL oM;have hxb:X[kb]? =some (X[kb]'oM):=gB oM;have cl:=CL oM;have hxc:X[kk]? =some (X[kk]'oM):=gB oM;have hbw:(A3 op).b≠0->(X[kb]'oM).h.whole=f.whs kb:=fun h=>by
    have h1:=MB h;rw[hrow.2.2.1.resolve_left h]at h1;rw[KB _ h hxb,QK (by simpa[B5]using h1),Int.toNat_natCast]
   have hcw:(A3 op).c≠0->(X[kk]'oM).h.whole=f.whs kk:=fun h=>by
    have h1:=MC h;rw[hrow.2.2.2.resolve_left h]at h1;rw[KC _ h hxc,QK (by simpa[B5]using h1),Int.toNat_natCast]
   have hwa:=(rel.xok _ (List.mem_of_getElem? hxa)).2.2;have hwb:=(rel.xok _ (List.mem_of_getElem? hxb)).2.2;have hval:(⟨[],DM op (X[ka]'oM).h.whole (X[kb]'oM).h.whole (X[kk]'oM).h.whole⟩:Hd)=DQ c G P f ⟨op,(kd:Int),(ka:Int),(kb:Int),(kk:Int),nn,bt⟩:=by rw[Ja nd e,Y2 (i:=⟨op,(kd:Int),(ka:Int),(kb:Int),(kk:Int),nn,bt⟩) (f:=f) ⟨o1,o2⟩ (by rw[hah];rfl) hbw hcw]
   refine(Q0 p0 p1 p2 p3 p5 p6 p7 p8 c.sign.length q0 c.regs.length q1 c.slots.length q2 c.list.length q3 c.slots.length q5 O.length q6 G.length q7 P.length q8 ct pr qr X c.regs.length hX hXl op o1 o2 nn bt kd ka kb kk dl w hT hcs _ hxa _ hxb _ hxc hwa hwb).mono ?_;exact SP
 .subst e;have hd:(A3 29).d≠0:=dE;have dl:=DL hd;obtain⟨par,sb,so,nm,K,len,lb,lo,tk,vb,vo,px,M,qx,e0,e1,e2,e3,e4,e5,s0,s1,s2,t0,t1,u0,hkp⟩:=M2 (T:=T) (f:=f) (i:=⟨29,(kd:Int),(ka:Int),(kb:Int),(kk:Int),nn,bt⟩) hg G fg (nd.part (.inl rfl)) _ _ _ _ _ _ _ _ _ w hv hgu;simp only[Int.toNat_natCast]at t0 t1 hkp;have hval:(⟨Bm c G ⟨29,(kd:Int),(ka:Int),(kb:Int),(kk:Int),nn,bt⟩,0⟩:Hd)=DQ c G P f ⟨29,(kd:Int),(ka:Int),(kb:Int),(kk:Int),nn,bt⟩:=by rw[val_29 nd rfl]
  refine(Tj p0 p1 p2 p3 p5 p6 p7 p8 c.sign.length q0 c.regs.length q1 c.slots.length q2 c.list.length q3 c.slots.length q5 O.length q6 G.length q7 P.length q8 ct pr qr X c.regs.length hX hXl nn bt kd ka kb kk dl w hT hcs par sb so nm K len lb lo tk vb vo px M qx (Bm c G ⟨29,(kd:Int),(ka:Int),(kb:Int),(kk:Int),nn,bt⟩) e0 e1 e2 dl e3 e4 s0 s1 s2 t0 t1 u0 hXl hg.signL e5 hkp).mono ?_;exact SP
 .subst e;have hd:(A3 30).d≠0:=dE;have dl:=DL hd;obtain⟨par,sb,so,nm,K,len,lb,lo,tk,vb,vo,px,M,qx,e0,e1,e2,e3,e4,e5,s0,s1,s2,t0,t1,u0,hkp⟩:=M2 (T:=T) (f:=f) (i:=⟨30,(kd:Int),(ka:Int),(kb:Int),(kk:Int),nn,bt⟩) hg P fp (nd.part (.inr rfl)) _ _ _ _ _ _ _ _ _ w hv hpu;simp only[Int.toNat_natCast]at t0 t1 hkp;have hval:(⟨Bm c P ⟨30,(kd:Int),(ka:Int),(kb:Int),(kk:Int),nn,bt⟩,0⟩:Hd)=DQ c G P f ⟨30,(kd:Int),(ka:Int),(kb:Int),(kk:Int),nn,bt⟩:=by rw[val_30 nd rfl]
  refine(PV p0 p1 p2 p3 p5 p6 p7 p8 c.sign.length q0 c.regs.length q1 c.slots.length q2 c.list.length q3 c.slots.length q5 O.length q6 G.length q7 P.length q8 ct pr qr X c.regs.length hX hXl nn bt kd ka kb kk dl w hT hcs par sb so nm K len lb lo tk vb vo px M qx (Bm c P ⟨30,(kd:Int),(ka:Int),(kb:Int),(kk:Int),nn,bt⟩) e0 e1 e2 dl e3 e4 s0 s1 s2 t0 t1 u0 hXl hg.signL e5 hkp).mono ?_;exact SP
 .subst e;obtain⟨hp,hlen⟩:=nd.out rfl;obtain⟨par,hpar,hpl⟩:=ND hg hp.r0 hp.r1 hp.kind;simp only at hp hpar;have al:ka<c.regs.length:=by have:=hp.r1;omega
  have hxa:X[ka]? =some (X[ka]'oM):=gB oM;have hn0:=hp.n0;obtain⟨kq,rfl⟩:∃n:Nat,nn=(n:Int):=⟨nn.toNat,oM⟩
  obtain⟨lb,lo,e1,hl⟩:=hv.regs.at al;have hreg:c.regs[ka].par=(par:Int):=by rw[<-EL al];exact hpar
  refine(Vq p0 p1 p2 p3 p5 p6 p7 p8 c.sign.length q0 c.regs.length q1 c.slots.length q2 c.list.length q3 c.slots.length q5 O.length q6 G.length q7 P.length q8 ct pr qr X c.regs.length hX hXl (kq:Int) bt kd ka kb kk w hT hcs _ hxa kq rfl oM par lb lo (c.regs[ka].kind) e1 al (by rw[<-hreg];exact hl.at 1 rfl) O rfl (by rw[rel.ol];have:=hg.signL;omega) (by rw[rel.ol];omega) hoo).mono ?_;rintro e w' ⟨p9,q9,rfl,hc,hbl⟩;exact⟨pr,qr,p5,q5,p9,q9,X,S,_,rfl,hcs.below hbl,hss.below hbl,hc,by rw[List.length_set],.inr (.inr (.inl ⟨rfl,rfl,rfl,_,hxa,by simp only[hpar,Int.toNat_natCast]⟩)),hbl⟩
 .subst e;have hd:(A3 32).d≠0:=dE;have dl:=DL hd;obtain⟨d0,d1,m0,m1,ht⟩:=nd.load rfl;simp only at m0 m1;obtain⟨ks,hks⟩:∃n:Nat,nn=(n:Int):=⟨nn.toNat,oM⟩
  have hksl:ks<S.length:=oM;have hxs:S[ks]? =some (S[ks]'hksl):=gB hksl;have hval:(S[ks]'hksl).h=DQ c G P f ⟨32,(kd:Int),(ka:Int),(kb:Int),(kk:Int),nn,bt⟩:=by
   rw[val_32 ok nd rfl rel.sz,<-rel.sl];simp only[hks,Int.toNat_natCast,List.getElem?_map,hxs,Option.map_some,Option.getD_some]
  refine(Tk p0 p1 p2 p3 p5 p6 p7 p8 c.sign.length q0 c.regs.length q1 c.slots.length q2 c.list.length q3 c.slots.length q5 O.length q6 G.length q7 P.length q8 ct pr qr X c.regs.length hX hXl nn bt kd ka kb kk dl w hT hcs ks hks _ S hSl hg.slotsL hss hxs).mono ?_;exact SP
 .subst e;obtain⟨a0,a1,m0,m1,ht,hs⟩:=nd.store rfl;simp only at a0 a1 m0 m1;have al:ka<c.regs.length:=oM;have hxa:X[ka]? =some (X[ka]'oM):=gB oM;obtain⟨ks,hks⟩:∃n:Nat,nn=(n:Int):=⟨nn.toNat,oM⟩
  refine(PY p0 p1 p2 p3 p5 p6 p7 p8 c.sign.length q0 c.regs.length q1 c.slots.length q2 c.list.length q3 c.slots.length q5 O.length q6 G.length q7 P.length q8 ct pr qr X c.regs.length hX hXl nn bt kd ka kb kk w hT hcs _ hxa ks hks S hSl hg.slotsL oM hss).mono ?_;rintro e w' ⟨p9,q9,rfl,hc,hbl⟩;exact⟨pr,qr,p9,q9,p6,q6,X,_,O,rfl,hcs.below hbl,hc,hoo.below hbl,rfl,.inr (.inl ⟨rfl,rfl,⟨_,hxa,by simp only[hks,Int.toNat_natCast]⟩,rfl⟩),hbl⟩
 .refine(Tl p0 p1 p2 p3 p5 p6 p7 p8 c.sign.length q0 c.regs.length q1 c.slots.length q2 c.list.length q3 c.slots.length q5 O.length q6 G.length q7 P.length q8 ct pr qr X c.regs.length hX hXl op e.1 e.2 nn bt kd ka kb kk w hT hcs).mono ?_;rintro e' w' ⟨rfl,hbl⟩;exact⟨pr,qr,p5,q5,p6,q6,X,S,O,rfl,hcs.below hbl,hss.below hbl,hoo.below hbl,rfl,.inr (.inr (.inr ⟨e,rfl,rfl,rfl⟩)),hbl⟩
 .have hop:3<=op/\op<=15:=by unfold B3 at e;simpa using e
  obtain⟨o1,o2⟩:=hop;have hd:(A3 op).d≠0:=by
   exact Zcn
  have ha0:(A3 op).a≠0:=by
   exact Zcn
  have dl:=DL hd;have al:=AL oM;have bl:=BL oM;have cl:=CL oM;have hxa:X[ka]? =some (X[ka]'oM):=gB oM;have hxb:X[kb]? =some (X[kb]'oM):=gB oM;have hxc:X[kk]? =some (X[kk]'oM):=gB oM;have hah:=KA _ ha0 hxa;have hty:A5 c.regs (kd:Int)=c.regs[kd]:=EL dl;by_cases hk2:(A5 c.regs (kd:Int)).kind=2
  .have hra:(A5 c.regs (ka:Int)).kind=2:=by
    obtain⟨_,_,_,hr⟩:=nd.elem e;obtain⟨_,_,_,h⟩:=hr (ka:Int) (Ml ha0);rcases h with h|⟨_,h⟩
    .rw[h];exact hk2
    .simp only at h;omega
   have hval:(X[ka]'oM).h=DQ c G P f ⟨op,(kd:Int),(ka:Int),(kb:Int),(kk:Int),nn,bt⟩:=by
    rw[UH e hk2,hah,QK hra]
   refine(Rz p0 p1 p2 p3 p5 p6 p7 p8 c.sign.length q0 c.regs.length q1 c.slots.length q2 c.list.length q3 c.slots.length q5 O.length q6 G.length q7 P.length q8 ct pr qr X c.regs.length hX hXl op o1 o2 nn bt kd ka kb kk dl w hT hcs (X[ka]'oM).h (fun v hbv hsv=>?_)).mono ?_
   .refine(JE c hg _ _ _ _ _ _ _ _ _ _ X hX op nn bt _ _ kd ka dl oM (by rw[<-hty];exact hk2) v (hv.below hbv) (hcs.cs.below hbv)).mono ?_;rintro e' w' ⟨rfl,-,hbl⟩;exact⟨X[ka]'oM,rfl,rfl,(NS (hcs.nums _ (List.mem_of_getElem? hxa)) hbv).below hbl,hbl⟩
   .exact SP
  .obtain⟨w1,w2,w3⟩:=GL hg ok e nd hk2;have hargs:=Yv (i:=⟨op,(kd:Int),(ka:Int),(kb:Int),(kk:Int),nn,bt⟩) (c:=c) (f:=f) e hah (fun h=>KB _ h hxb) (fun h=>KC _ h hxc);have htr:=GH ⟨op,(kd:Int),(ka:Int),(kb:Int),(kk:Int),nn,bt⟩ e;have hal:(Bu c f ⟨op,(kd:Int),(ka:Int),(kb:Int),(kk:Int),nn,bt⟩).length=D9 op:=by unfold Bu;rw[List.length_map];exact htr.1.symm
   obtain⟨n,hn,hn2⟩:=Mh (l:=lF (Bu c f ⟨op,(kd:Int),(ka:Int),(kb:Int),(kk:Int),nn,bt⟩)) w1 ((Bu c f ⟨op,(kd:Int),(ka:Int),(kb:Int),(kk:Int),nn,bt⟩).length-1) (fun k hk=>by
    have htn:=htr.2;simp only at htn;unfold lF;rw[IG oM];unfold Bu;rw[List.getElem_map]
    exact(w2 _ (gD _)).2.2.1)
   have hwd:=hg.width (A5 c.regs (kd:Int));simp only at w1 hn2;have hval:(⟨UQ (if(A5 c.regs (kd:Int)).kind=3 then lenOf c (A5 c.regs (kd:Int)).par else 1) (Dd op (Bu c f ⟨op,(kd:Int),(ka:Int),(kb:Int),(kk:Int),nn,bt⟩)),0⟩:Hd)=DQ c G P f ⟨op,(kd:Int),(ka:Int),(kb:Int),(kk:Int),nn,bt⟩:=by
    rw[Y0 hg ok nd e hk2]
   refine(Rz p0 p1 p2 p3 p5 p6 p7 p8 c.sign.length q0 c.regs.length q1 c.slots.length q2 c.list.length q3 c.slots.length q5 O.length q6 G.length q7 P.length q8 ct pr qr X c.regs.length hX hXl op o1 o2 nn bt kd ka kb kk dl w hT hcs ⟨UQ (if(A5 c.regs (kd:Int)).kind=3 then lenOf c (A5 c.regs (kd:Int)).par else 1) (Dd op (Bu c f ⟨op,(kd:Int),(ka:Int),(kb:Int),(kk:Int),nn,bt⟩)),0⟩ (fun v hbv hsv=>?_)).mono ?_
   .rw[hal,<-hargs]at hn;have K:=LP c hg (.slice p0 c.sign.length q0) (.slice p1 c.regs.length q1) (.slice p2 c.slots.length q2) (.slice p3 c.list.length q3) (.slice pr c.regs.length qr) (.slice p5 c.slots.length q5) (.slice p6 O.length q6) (.slice p7 G.length q7) (.slice p8 P.length q8) (.int .i64 ct) X hX op nn bt kd ka kb kk dl oM oM oM (by rw[<-hty];exact hk2) (fun h=>hg.type (gD dl) h) (D9 op) rfl htr.2 n hn oM oM (fun x hx=>(rel.xok x hx).1) (fun x hx=>(rel.xok x hx).2.1) v (hv.below hbv) (hcs.cs.below hbv);simp only at hargs;rw[hargs,<-hty]at K;refine K.mono ?_;rintro e' w' ⟨pe,qe,rfl,hne,hbl,hle⟩;exact⟨⟨pe,qe,⟨_,0⟩⟩,rfl,rfl,Cs.free (B:=v.heap.size) hne hle (fun b hb=>DV hT hb hsv),hbl⟩
   .exact SP
theorem QW{c:Cd}(hg:By c){i:Aa}{s:Wk}(t:Am c s i=true)(v0 v1 v2 v3:Value)(w:World)(hv:Dk w v0 v1 v2 v3 c):
 Calls prog 76 #[.agg #[v0,v1,v2,v3],.agg #[.int .i64 i.op,.int .i64 i.d,.int .i64 i.a,.int .i64 i.b,.int .i64 i.c,.int .i64 i.n,.int .u32 i.bits]] w fun e w'=>(∃n:Nat,n<=4096/\e=.returned (.int .i64 (n:Int)))/\Below w.heap.size w w':=by
 obtain⟨hk,h2,_,_⟩:=Ar t;obtain⟨op,D,A,B,Ec,nn,bt⟩:=i;simp only at hk |-;have hk':=hk;unfold Aq at hk';simp only[Bool.and_eq_true,decide_eq_true_eq]at hk';by_cases h1:(3<=op/\op<=15)\/op=29\/op=30\/op=32
 .have hd:(A3 op).d≠0:=(QQ hk).2 oM;have:=Af (Dh h2) hd;simp only at this;obtain⟨kd,rfl⟩:∃n:Nat,D=(n:Int):=⟨D.toNat,oM⟩
  exact XD c hg v0 v1 v2 v3 op A B Ec nn bt h1 kd oM w hv
 .by_cases h3:op=31\/op=33\/op=19\/op=20
  .have ha:(A3 op).a≠0:=by rcases h3 with rfl|rfl|rfl|rfl<;>decide
   have:=Af (BR h2) ha;simp only at this;obtain⟨ka,rfl⟩:∃n:Nat,A=(n:Int):=⟨A.toNat,oM⟩
   exact Xz c hg v0 v1 v2 v3 op D B Ec nn bt h3 ka oM w hv
  .exact Xy v0 v1 v2 v3 op D A B Ec nn bt oM w
structure L3(T:Nat->Prop)(w:World)(a0 a1 a2 a3 a4:Value)(FB:Nat)(pr p5 p6:Option Addr)(n1 qr n2 q5 no q6:Nat)(gv pv:Value)(ct:Int)(X S O:List Cl)(v:World):Prop where
 sp:JY w a0 a1 a2 a3 a4 FB (DC a0 a1 a2 a3 (.slice pr n1 qr) (.slice p5 n2 q5) (.slice p6 no q6) gv pv (.int .i64 ct)) v
 cr:AV (T4 w T FB) v (.slice pr n1 qr) X
 cs:AV (T4 w T FB) v (.slice p5 n2 q5) S
 co:IJ (T4 w T FB) v (.slice p6 no q6) O
 ol:O.length=no
section
variable {T : Nat -> Prop} {w : World} {a0 a1 a2 a3 a4 : Value} {FB : Nat} {pr p5 p6 : Option Addr} {n1 qr n2 q5 no q6 : Nat} {gv pv : Value} {ct : Int} {X S O : List Cl} {v v' : World}
theorem L3.next(h:L3 T w a0 a1 a2 a3 a4 FB pr p5 p6 n1 qr n2 q5 no q6 gv pv ct X S O v)(k:Below v.heap.size v v'):L3 T w a0 a1 a2 a3 a4 FB pr p5 p6 n1 qr n2 q5 no q6 gv pv ct X S O v':=⟨h.sp.next k,h.cr.below k,h.cs.below k,h.co.below k,h.ol⟩
theorem L3.cost(h:L3 T w a0 a1 a2 a3 a4 FB pr p5 p6 n1 qr n2 q5 no q6 gv pv ct X S O v)(ct':Int):L3 T w a0 a1 a2 a3 a4 FB pr p5 p6 n1 qr n2 q5 no q6 gv pv ct' X S O (v.setCell ⟨FB,9,none⟩ (.int .i64 ct')):=by
 have hu:Un (fun b=>b=FB) v (v.setCell ⟨FB,9,none⟩ (.int .i64 ct')):=(Un.refl _ _).setCell rF _;exact⟨(h.sp.put 9 _).congr (EG rfl rfl rfl rfl rfl rfl rfl rfl rfl rfl),h.cr.un hu (fun b _ e=>.inr (.inr e)),h.cs.un hu (fun b _ e=>.inr (.inr e)),h.co.un hu (fun b _ e=>.inr (.inr e)),h.ol⟩
theorem L3.put(h:L3 T w a0 a1 a2 a3 a4 FB pr p5 p6 n1 qr n2 q5 no q6 gv pv ct X S O v)(k:Below v.heap.size v v'){pr' p5' p6':Option Addr}{qr' q5' q6':Nat}{X' S' O':List Cl}(h1:AV (T4 w T FB) v' (.slice pr' n1 qr') X')(h2:AV (T4 w T FB) v' (.slice p5' n2 q5') S')(h3:IJ (T4 w T FB) v' (.slice p6' no q6') O')(hl:O'.length=O.length):
 L3 T w a0 a1 a2 a3 a4 FB pr' p5' p6' n1 qr' n2 q5' no q6' gv pv ct X' S' O' (NM v' FB a0 a1 a2 a3 (.slice pr' n1 qr') (.slice p5' n2 q5') (.slice p6' no q6') gv pv (.int .i64 ct)):=by
 have hu:=JU v' FB a0 a1 a2 a3 (.slice pr' n1 qr') (.slice p5' n2 q5') (.slice p6' no q6') gv pv (.int .i64 ct);exact⟨(h.sp.next k).putT _ _ _ _ _ _ _ _ _ _,h1.un hu (fun b _ e=>.inr (.inr e)),h2.un hu (fun b _ e=>.inr (.inr e)),h3.un hu (fun b _ e=>.inr (.inr e)),hl.trans h.ol⟩
theorem L3.cells(h:L3 T w a0 a1 a2 a3 a4 FB pr p5 p6 n1 qr n2 q5 no q6 gv pv ct X S O v):v.cell? ⟨FB,0,none⟩=some a0/\v.cell? ⟨FB,1,none⟩=some a1/\v.cell? ⟨FB,2,none⟩=some a2/\v.cell? ⟨FB,3,none⟩=some a3/\v.cell? ⟨FB,4,none⟩=some (.slice pr n1 qr)/\v.cell? ⟨FB,5,none⟩=some (.slice p5 n2 q5)/\v.cell? ⟨FB,6,none⟩=some (.slice p6 no q6)/\v.cell? ⟨FB,7,none⟩=some gv/\v.cell? ⟨FB,8,none⟩=some pv/\v.cell? ⟨FB,9,none⟩=some (.int .i64 ct):=
 ⟨h.sp.f.cell (i:=0) dE,h.sp.f.cell (i:=1) dE,h.sp.f.cell (i:=2) dE,h.sp.f.cell (i:=3) dE,h.sp.f.cell (i:=4) dE,h.sp.f.cell (i:=5) dE,h.sp.f.cell (i:=6) dE,h.sp.f.cell (i:=7) dE,h.sp.f.cell (i:=8) dE,h.sp.f.cell (i:=9) dE⟩
theorem L3.frz(h:L3 T w a0 a1 a2 a3 a4 FB pr p5 p6 n1 qr n2 q5 no q6 gv pv ct X S O v):∀i,v.frozen? ⟨FB,i,none⟩=false:=fun i=>h.sp.f.frozen i
theorem L3.code(h:L3 T w a0 a1 a2 a3 a4 FB pr p5 p6 n1 qr n2 q5 no q6 gv pv ct X S O v):v.cell? ⟨w.heap.size+1+1,0,none⟩=some a0/\v.cell? ⟨w.heap.size+1+1,1,none⟩=some a1/\v.cell? ⟨w.heap.size+1+1,2,none⟩=some a2/\v.cell? ⟨w.heap.size+1+1,3,none⟩=some a3:=
 ⟨h.sp.b.c.cell (i:=0) dE,h.sp.b.c.cell (i:=1) dE,h.sp.b.c.cell (i:=2) dE,h.sp.b.c.cell (i:=3) dE⟩
end
theorem Yz{v:World}{XB:Nat}{b0 b1 b2 b3 b4 b5 b6:Value}(h:v.rowIs XB 45 7 (f7 b0 b1 b2 b3 b4 b5 b6)):v.cell? ⟨XB,0,none⟩=some b0/\v.cell? ⟨XB,1,none⟩=some b1/\v.cell? ⟨XB,2,none⟩=some b2/\v.cell? ⟨XB,3,none⟩=some b3/\v.cell? ⟨XB,4,none⟩=some b4/\v.cell? ⟨XB,5,none⟩=some b5/\v.cell? ⟨XB,6,none⟩=some b6:=
 ⟨h.cell (i:=0) dE,h.cell (i:=1) dE,h.cell (i:=2) dE,h.cell (i:=3) dE,h.cell (i:=4) dE,h.cell (i:=5) dE,h.cell (i:=6) dE⟩
def Hl(c:Cd)(L:List Aa)(r:Nat):Prop:=Dj c.list r=true/\∃j∈L,Ah j=true/\j.d.toNat=r
theorem Hl.more{c:Cd}{L:List Aa}{r:Nat}(h:Hl c L r)(i:Aa):Hl c (L++[i]) r:=by
 obtain⟨h1,j,hj,h2⟩:=h;exact⟨h1,j,List.mem_append.2 (.inl hj),h2⟩
theorem Hl.ne{c:Cd}{L R:List Aa}{r:Nat}{i:Aa}(h:Hl c L r)(hl:c.list=L++i::R)(hs:Ah i=true):r≠i.d.toNat:=by
 obtain⟨h1,j,hj,h2,h3⟩:=h;intro e;rw[hl,e]at h1;exact G3 hs h1 j hj h2 (h3.trans e)
def Rt(q:Rk)(g:Nat):Aa:={q.by_ with d:=(g:Int)}
structure I4(c:Cd)(L:List Aa)(s:RW):Prop where
 inst:∀r,s.ins r=r\/Hl c L (s.ins r)
 hold:∀q g,s.hold q=some g->Hl c L g/\A5 c.regs (g:Int)=q.of_/\q.by_.op≠32/\Ah (Rt q g)=true/\Aq q.by_.op=true/\AN c (Rt q g) (A3 q.by_.op)=true/\∀r∈Ac (Rt q g) (A3 q.by_.op),Hl c L r.toNat
theorem I4.start(c:Cd):I4 c [] J5:=⟨fun r=>.inl rfl,fun q g h=>Zhx⟩
def HoldV(c:Cd)(G P:List (List Int))(f:Fr)(hold:Rk->Option Nat)(q:Rk):Prop:=∀g,hold q=some g->Bx c (CI c G P f (Rt q g)) (g:Int)=Bx c f (g:Int)
def BI(c:Cd)(G P:List (List Int))(f f':Fr)(ins:Nat->Nat)(hold:Rk->Option Nat):Nat->List Nat->List Rk->List Bk->List Nat->Prop
 |0,X,K,_,_=>(∀r∈X,Bx c f' (ins r:Int)=Bx c f (r:Int))/\∀q∈K,HoldV c G P f' hold q
 |_+1,_,_,[],_=>False
 |k+1,X,K,b::o,opn=>if b.loop then BI c G P f f' ins hold (k+1) X K o opn else BI c G P f f' ins hold k (X.take b.ahead) (K.take (opn.getLastD 0)) o opn.dropLast
section
variable {c : Cd} {G P : List (List Int)} {f f' : Fr}
theorem BI.congr{ins ins2:Nat->Nat}{hold hold2:Rk->Option Nat}:∀ {o:List Bk} {k:Nat} {X:List Nat} {K:List Rk} {opn:List Nat},BI c G P f f' ins hold k X K o opn->(∀r∈X,ins2 r=ins r)->(∀q∈K,hold2 q=hold q)->BI c G P f f' ins2 hold2 k X K o opn
 |o,0,X,K,opn,h,hi,hh=>by
  unfold BI at h |-;exact⟨fun r hr=>by rw[hi r hr];exact h.1 r hr,fun q hq g hg=>h.2 q hq g (by rw[<-hh q hq];exact hg)⟩
 |[],k+1,X,K,opn,h,hi,hh=>by unfold BI at h;exact h.elim
 |b::o,k+1,X,K,opn,h,hi,hh=>by
  unfold BI at h |-;split
  .rename_i hb;rw[if_pos hb]at h;exact BI.congr h hi hh
  .rename_i hb;rw[if_neg hb]at h;exact BI.congr h (fun r hr=>hi r (List.mem_of_mem_take hr)) (fun q hq=>hh q (List.mem_of_mem_take hq))
theorem BI.grow{ins ins2:Nat->Nat}{hold hold2:Rk->Option Nat}{X X':List Nat}{K:List Rk}{o o':List Bk}{opn:List Nat}(hr:Rj ins hold X X' K o o' opn):∀ (k:Nat) (Y:List Nat) (J:List Rk),BI c G P f f' ins hold (k+1) X K o opn->(∀r∈X,ins2 r=ins r)->(∀q∈K,hold2 q=hold q)->BI c G P f f' ins2 hold2 (k+1) (X++Y) (K++J) o opn:=by
 induction hr with
 |nil=>intro k Y J h _ _;unfold BI at h;exact h.elim
 |loop h ih=>
  intro k Y J hs hi hh;unfold BI at hs |-;simp only[if_true]at hs |-;exact ih k Y J hs hi hh
 |@when X1 X1' K1 o1 o1' k1 p1 a1 a1' m1 h1 h2 h3 h4 h5 h ih=>
  intro k Y J hs hi hh;unfold BI at hs |-;simp only[Bool.false_eq_true,if_false,List.getLastD_concat,List.dropLast_concat]at hs |-;rw[List.take_append_of_le_length h1,List.take_append_of_le_length h3];exact hs.congr (fun r hr=>hi r (List.mem_of_mem_take hr)) (fun q hq=>hh q (List.mem_of_mem_take hq))
end
structure Jz(c:Cd)(G P:List (List Int))(L:List Aa)(s:RW)(x x':Wk)(f f':Fr)(k:Nat):Prop where
 i:Fb c L s x x'
 j:I4 c L s
 slots:f'.slots=f.slots
 outs:f'.outs=f.outs
 sim:BI c G P f f' s.ins s.hold k x.set s.reck x.opens s.opn
 ok:Jf c f
 sk:MY c x f k
 can:JW f
 oks:Eu c.regs.length x
section
variable {c : Cd} {G P : List (List Int)} {f f' : Fr} {i : Aa} {L R : List Aa} {s : RW} {x x' : Wk} {k : Nat}
theorem VW(hg:By c){r:Int}(h0:0<=r)(h1:r<(c.regs.length:Int)):(A5 c.regs r).kind=1\/(A5 c.regs r).kind=2\/(A5 c.regs r).kind=3:=by
 have hm:AE (A5 c.regs r) c.sign.length=true:=by
  unfold A5;rw[if_pos (Bv.2 ⟨h0,h1⟩),gB oM];exact hg.regs _ (gD _)
 unfold AE at hm;split at hm
 .omega
 .split at hm
  .omega
  .cases hm
theorem Jz.reads(h:Jz c G P L s x x' f f' 0)(t:Am c x i=true):Ed c f f' i (A4 s i):=by
 obtain⟨_,t2,_,t4⟩:=Ar t;have hs:=h.sim;unfold BI at hs;unfold Dc Ac at t4;rw[List.all_eq_true]at t4;simp only[List.mem_append]at t4;have Bl:∀n:Int,0<=n->n<(c.regs.length:Int)->n.toNat∈x.set->IK c f f' n (s.ins n.toNat:Int):=fun n h0 h1 hm=>by
  have h3:=hs.1 _ hm;rw[Int.toNat_of_nonneg h0]at h3;refine⟨h3,?_⟩;rw[(h.i.ty n.toNat oM).2,Int.toNat_of_nonneg h0]
 refine⟨rfl,rfl,rfl,rfl,fun q=>?_,fun q=>?_,fun q=>?_⟩
 .obtain⟨h0,h1⟩:=Af (BR t2) q;have e:(A4 s i).a=(s.ins i.a.toNat:Int):=by unfold A4;simp only;rw[if_neg q]
  rw[e];exact Bl _ h0 h1 (by have:=t4 i.a (.inl UO);simpa using this)
 .obtain⟨h0,h1⟩:=Af (E8 t2) q;have e:(A4 s i).b=(s.ins i.b.toNat:Int):=by unfold A4;simp only;rw[if_neg q]
  rw[e];exact Bl _ h0 h1 (by have:=t4 i.b (.inr (.inl UO));simpa using this)
 .obtain⟨h0,h1⟩:=Af (E9 t2) q;have e:(A4 s i).c=(s.ins i.c.toNat:Int):=by unfold A4;simp only;rw[if_neg q]
  rw[e];exact Bl _ h0 h1 (by have:=t4 i.c (.inr (.inr UO));simpa using this)
theorem JN{k:Nat}{f:Fr}(hk:k=0)(h5:i.op≠35)(h4:i.op≠34):Ap c G P (f,k) i=(CI c G P f i,0):=by
 unfold Ap;rw[if_neg oM,if_neg oM,if_pos hk]
theorem Dy{k:Nat}{f:Fr}(hk:0<k)(h5:i.op≠35)(h4:i.op≠34):Ap c G P (f,k) i=(f,k):=by
 unfold Ap;rw[if_neg oM,if_neg oM,if_neg (by simp only;omega)]
theorem Kv(h:AN c i (A3 i.op)=true)(hk:Aq i.op=true)(ok:Jf c f)(cf:JW f):JW (Ap c G P (f,k) i).1:=by
 unfold Ap;split
 .exact cf
 .split
  .exact cf
  .split
   .exact do_can VG h hk ok cf
   .exact cf
theorem I0(hi:Fb c L s x x')(hj:I4 c L s)(t:Am c x i=true)(hw:G8 c.list (A4 s i)=true):∀r∈Ac (A4 s i) (A3 i.op),Hl c L r.toNat:=by
 obtain⟨_,_,w3⟩:=Cc hw;obtain⟨_,t2,_,t4⟩:=Ar t;unfold Dc Ac at t4;rw[List.all_eq_true]at t4;simp only[List.mem_append]at t4;intro r hr;have hst:Dj c.list r.toNat=true:=w3 r hr;have Bl:∀n:Int,n.toNat∈x.set->r=(s.ins n.toNat:Int)->Hl c L r.toNat:=fun n hm e=>by
  rw[e,Int.toNat_natCast]at hst |-;rcases hj.inst n.toNat with q|q
  .rw[q]at hst |-;exact⟨hst,hi.was _ hm⟩
  .exact q
 unfold Ac A4 at hr;simp only[List.mem_append]at hr;rcases hr with hr|hr|hr
 .by_cases q:(A3 i.op).a=0
  .rw[if_pos q]at hr;cases hr
  .rw[if_neg q,if_neg q]at hr;simp at hr;exact Bl i.a (by have:=t4 i.a (.inl UO);simpa using this) hr
 .by_cases q:(A3 i.op).b=0
  .rw[if_pos q]at hr;cases hr
  .rw[if_neg q,if_neg q]at hr;simp at hr;exact Bl i.b (by have:=t4 i.b (.inr (.inl UO));simpa using this) hr
 .by_cases q:(A3 i.op).c=0
  .rw[if_pos q]at hr;cases hr
  .rw[if_neg q,if_neg q]at hr;simp at hr;exact Bl i.c (by have:=t4 i.c (.inr (.inr UO));simpa using this) hr
theorem I4.moreJ(hj:I4 c L s)(i:Aa):(∀r,s.ins r=r\/Hl c (L++[i]) (s.ins r))/\∀q g,s.hold q=some g->Hl c (L++[i]) g/\A5 c.regs (g:Int)=q.of_/\q.by_.op≠32/\Ah (Rt q g)=true/\Aq q.by_.op=true/\AN c (Rt q g) (A3 q.by_.op)=true/\∀r∈Ac (Rt q g) (A3 q.by_.op),Hl c (L++[i]) r.toNat:=
 ⟨fun r=>(hj.inst r).imp id fun q=>q.more i,fun q g h=>by
  obtain⟨h1,h2,h3,h4,h5,h6,h7⟩:=hj.hold q g h
  exact⟨h1.more i,h2,h3,h4,h5,h6,fun r hr=>(h7 r hr).more i⟩⟩
theorem Tu(hi:Fb c L s x x')(hj:I4 c L s)(t:Am c x i=true){g:Nat}(hh:DH c s (A4 s i)=some g):Hl c L g:=by
 have hw:=EK hh;unfold DH at hh;rw[if_pos hw]at hh;by_cases h3:(A4 s i).op=3
 .rw[if_pos h3]at hh;split at hh
  .simp only[Option.some.injEq]at hh;rw[<-hh];have ha:(A3 i.op).a≠0:=by rw[show i.op=3 from h3];decide
   exact I0 hi hj t hw _ (by unfold Ac;rw[if_neg ha];simp)
  .cases hh
 .rw[if_neg h3]at hh;exact(hj.hold _ _ hh).1
theorem I4.heldS(hi:Fb c L s x x')(hj:I4 c L s)(t:Am c x i=true){g:Nat}(hh:DH c s (A4 s i)=some g):I4 c (L++[i]) {s with ins:=fun k=>if k=i.d.toNat then g else s.ins k}:=by
 obtain⟨m1,m2⟩:=hj.moreJ i;refine⟨fun r=>?_,m2⟩;simp only;split
 .exact .inr ((Tu hi hj t hh).more i)
 .exact m1 r
theorem O9{i':Aa}(h:0<=i'.d):Rt (LG c i') i'.d.toNat=i':=by
 obtain⟨o,d,a,b,e,n,z⟩:=i';unfold Rt LG;simp only at h |-;rw[Int.toNat_of_nonneg h]
theorem I4.stayS(hi:Fb c L s x x')(hj:I4 c L s)(t:Am c x i=true):I4 c (L++[i]) (B4 c s (A4 s i)):=by
 obtain⟨m1,m2⟩:=hj.moreJ i;unfold B4;split
 .exact⟨m1,m2⟩
 .split
  .unfold Hq Oe;refine⟨m1,fun q g hq=>?_⟩;simp only at hq;split at hq
   .cases hq
   .exact m2 q g hq
  .split
   .rename_i hw;refine⟨m1,fun q g hq=>?_⟩;simp only at hq;split at hq
    .rename_i e;obtain rfl:=Option.some.inj hq;obtain⟨w1,w2,w3⟩:=Cc hw.2;obtain⟨t1,t2,_,_⟩:=Ar (J8 hi t);have w1':Ah i=true:=w1;obtain⟨d0,d1⟩:=J1 t w1';have hd0:0<=(A4 s i).d:=d0;rw[e,O9 hd0];refine⟨⟨w2,i,sM,w1',rfl⟩,?_,hw.1.1,w1,t1,t2,fun r hr=>(I0 hi hj t hw.2 r hr).more i⟩;rw[Int.toNat_of_nonneg hd0];rfl
    .exact m2 q g hq
   .exact⟨m1,m2⟩
theorem OA(hi:Fb c L s x x')(hl:c.list=L++i::R){g:Nat}(hh:DH c s (A4 s i)=some g):Ah i=true/\i.d.toNat∉x.set/\Ad x i=⟨x.set++[i.d.toNat],x.opens⟩:=by
 obtain⟨w1,w2,w3⟩:=Cc (EK hh);have w1':Ah i=true:=w1;have hn:=RQ hi hl w1' w2;refine⟨w1',hn,?_⟩;rw[MJ w1'];unfold CN;rw[if_pos ⟨by unfold Ah at w1';simpa using w1',hn⟩]
theorem XI(hg:By c)(fg:DD c G)(fp:DD c P)(hb:AB i.bits)(h:Jz c G P L s x x' f f' k)(hl:c.list=L++i::R)(t:Am c x i=true){g:Nat}(hh:DH c s (A4 s i)=some g):
 Jz c G P (L++[i]) {s with ins:=fun k=>if k=i.d.toNat then g else s.ins k} (Ad x i) x' (Ap c G P (f,k) i).1 f' (Ap c G P (f,k) i).2:=by
 obtain⟨hs,hn,hst⟩:=OA h.i hl hh;obtain⟨o4,o5,o6,o7⟩:=Ix hs;obtain⟨hkn,t2,_,_⟩:=Ar t;obtain⟨n1,n2⟩:=Ih hg h.oks t h.ok hb fg fp h.sk;have hne:∀r∈x.set,(if r=i.d.toNat then g else s.ins r)=s.ins r:=fun r hr=>if_neg (fun e:r=i.d.toNat=>hn (by rw[<-e];exact hr));obtain⟨d0,d1⟩:=J1 t hs;have hcan:=Kv (G:=G) (P:=P) (k:=k) t2 hkn h.ok h.can;have hi2:=Tv h.i hl t hh;have hj2:=h.j.heldS h.i t hh;have hoks:=h.oks.step t;cases k with
 |zero=>
  have hdo:=JN (c:=c) (G:=G) (P:=P) (f:=f) (rfl:(0:Nat)=0) o5 o4;rw[hdo]at n1 n2 hcan |-;obtain⟨k1,k2⟩:=R0 (c:=c) (G:=G) (P:=P) (f:=f) hkn hs;refine⟨hi2,hj2,by rw[h.slots,k1],by rw[h.outs,k2],?_,n1,n2,hcan,hoks⟩;have hsim:=h.sim;unfold BI at hsim |-;rw[hst];refine⟨fun r hr=>?_,hsim.2⟩;simp only at hr |-;rcases List.mem_append.1 hr with hr|hr
  .rw[hne r hr,BD (r:=(r:Int)) hkn (fun _ e=>hn (by rw[Int.toNat_natCast]at e;rw[<-e];exact hr))];exact hsim.1 r hr
  .simp only[List.mem_singleton]at hr;rw[if_pos hr,hr,Int.toNat_of_nonneg d0];have hre:=h.reads t;have hw:=EK hh;have hh2:=hh;unfold DH at hh2;rw[if_pos hw]at hh2;by_cases h3:(A4 s i).op=3
   .rw[if_pos h3]at hh2;have h3':i.op=3:=h3;have ha:(A3 i.op).a≠0:=by rw[h3'];decide
    obtain⟨q1,q2⟩:=hre.a ha;split at hh2
    .rename_i e;simp only[Option.some.injEq]at hh2;have hta:A5 c.regs i.a=A5 c.regs i.d:=q2.symm.trans e;obtain⟨a0,a1⟩:=Af (BR t2) ha;have hsk:=h.sk;have hset:DS c f i.a.toNat:=by
      rcases hsk with⟨_,hsk⟩|⟨pre,b,rest,_,_,hk0,_⟩
      .refine hsk _ ?_;obtain⟨_,_,_,t4⟩:=Ar t;unfold Dc Ac at t4;rw[List.all_eq_true]at t4;have:=t4 i.a (by rw[if_neg ha];simp);simpa using this
      .omega
     rw[Vi h3' hta (VW hg d0 d1) h.can (fun q=>by
      unfold DS at hset;rw[Int.toNat_of_nonneg a0]at hset
      exact hset q)]
     have ea:(A4 s i).a=(s.ins i.a.toNat:Int):=by unfold A4;simp only;rw[if_neg ha]
     rw[<-hh2,ea,Int.toNat_natCast,<-ea];exact q1
    .cases hh2
   .rw[if_neg h3]at hh2;obtain⟨j1,j2,j3,j4,j5,j6,j7⟩:=h.j.hold _ _ hh2;have hkm:=(h.i.reck _).1 (by rw[hh2];rfl);have hv:=hsim.2 _ hkm g hh2;obtain⟨u1,u2,_,_⟩:=Ar (J8 h.i t);have e1:=IF (G:=G) (P:=P) t2 hkn hre (fun _=>h.slots) hs;have hie:Ed c f' f' (A4 s i) (Rt (LG c (A4 s i)) g):=⟨rfl,j2,rfl,rfl,fun _=>⟨rfl,rfl⟩,fun _=>⟨rfl,rfl⟩,fun _=>⟨rfl,rfl⟩⟩
    have e2:=IF (G:=G) (P:=P) u2 u1 hie (fun _=>rfl) hs;rw[<-hv];exact e2.trans e1
 |succ k=>
  have hdo:=Dy (c:=c) (G:=G) (P:=P) (f:=f) (Nat.succ_pos k) o5 o4;rw[hdo]at n1 n2 hcan |-;refine⟨hi2,hj2,h.slots,h.outs,?_,n1,n2,hcan,hoks⟩;rw[hst];have:=BI.grow (f:=f) (f':=f') (G:=G) (P:=P) (c:=c) (ins2:=fun k=>if k=i.d.toNat then g else s.ins k) (hold2:=s.hold) h.i.opens k [i.d.toNat] [] h.sim hne (fun _ _=>rfl);simpa using this
theorem R8(hi:Fb c L s x x')(hh:DH c s (A4 s i)=none)(ho:¬ (i.op=34\/i.op=35\/i.op=36\/i.op=37)):
 ∃Y J,Ad x i=⟨x.set++Y,x.opens⟩/\(∀r∈Y,Ah i=true/\r=i.d.toNat)/\(B4 c s (A4 s i)).reck=s.reck++J/\(B4 c s (A4 s i)).opn=s.opn/\(B4 c s (A4 s i)).ins=s.ins/\(∀q∈s.reck,(B4 c s (A4 s i)).hold q=s.hold q)/\
  ∀q∈J,q=LG c (A4 s i)/\i.op≠32/\G8 c.list (A4 s i)=true/\(B4 c s (A4 s i)).hold q=some i.d.toNat:=by
 have hop:(A4 s i).op=i.op:=rfl;obtain⟨Y,hY,hYm⟩:∃Y,Ad x i=⟨x.set++Y,x.opens⟩/\∀r∈Y,Ah i=true/\r=i.d.toNat:=by
  unfold Ad CT BG;rw[if_neg oM,if_neg oM];unfold CN;split
  .rename_i q;exact⟨[i.d.toNat],rfl,fun r hr=>⟨by unfold Ah;simpa using q.1,by simpa using hr⟩⟩
  .exact⟨[],sM,fun r hr=>by cases hr⟩
 by_cases hw:((A4 s i).op≠32/\(A4 s i).op≠3)/\G8 c.list (A4 s i)=true
 .have hst:B4 c s (A4 s i)={s with left:=s.left++[A4 s i],hold:=fun r=>if r=LG c (A4 s i)then some (A4 s i).d.toNat else s.hold r,reck:=s.reck++[LG c (A4 s i)]}:=by
   unfold B4;rw[if_neg Rn,if_neg Rn,if_pos hw]
  have hno:s.hold (LG c (A4 s i))=none:=by
   unfold DH at hh;rw[if_pos hw.2,if_neg hw.1.2]at hh;exact hh
  have hnr:LG c (A4 s i)∉s.reck:=fun q=>by
   have:=(hi.reck _).2 q;rw[hno]at this;cases this
  rw[hst];refine⟨Y,[LG c (A4 s i)],hY,hYm,rfl,rfl,rfl,fun q hq=>if_neg (fun e:q=LG c (A4 s i)=>hnr (e▸hq)),fun q hq=>?_⟩;simp only[List.mem_singleton]at hq;exact⟨hq,hw.1.1,hw.2,by simp only;rw[if_pos hq];rfl⟩
 .have hst:B4 c s (A4 s i)={s with left:=s.left++[A4 s i]}:=by
   unfold B4;rw[if_neg Rn,if_neg Rn,if_neg hw]
  rw[hst];exact⟨Y,[],hY,hYm,sM,rfl,rfl,fun q _=>rfl,fun q hq=>by cases hq⟩
theorem Uu(hg:By c)(fg:DD c G)(fp:DD c P)(hb:AB i.bits)(h:Jz c G P L s x x' f f' k)(hl:c.list=L++i::R)(t:Am c x i=true)(hh:DH c s (A4 s i)=none)(ho:¬ (i.op=34\/i.op=35\/i.op=36\/i.op=37)):
 (Ap c G P (f',k) (A4 s i)).2=(Ap c G P (f,k) i).2/\Jz c G P (L++[i]) (B4 c s (A4 s i)) (Ad x i) (Ad x' (A4 s i)) (Ap c G P (f,k) i).1 (Ap c G P (f',k) (A4 s i)).1 (Ap c G P (f,k) i).2:=by
 have hop:(A4 s i).op=i.op:=rfl;obtain⟨hkn,t2,_,_⟩:=Ar t;obtain⟨n1,n2⟩:=Ih hg h.oks t h.ok hb fg fp h.sk;have hcan:=Kv (G:=G) (P:=P) (k:=k) t2 hkn h.ok h.can;have hi2:=MH h.i hl t hh;have hj2:=h.j.stayS h.i t;have hoks:=h.oks.step t;obtain⟨Y,J,hst,hY,hK,hopn,hins,hhold,hJ⟩:=R8 h.i hh ho;cases k with
 |succ k=>
  have e1:=Dy (c:=c) (G:=G) (P:=P) (i:=i) (f:=f) (Nat.succ_pos k) oM oM;have e2:=Dy (c:=c) (G:=G) (P:=P) (i:=A4 s i) (f:=f') (Nat.succ_pos k) Rn Rn;rw[e1]at n1 n2 hcan |-;rw[e2];refine⟨rfl,hi2,hj2,h.slots,h.outs,?_,n1,n2,hcan,hoks⟩;rw[hst,hK,hopn,hins];exact BI.grow h.i.opens k Y J h.sim (fun _ _=>rfl) hhold
 |zero=>
  have e1:=JN (c:=c) (G:=G) (P:=P) (i:=i) (f:=f) (rfl:(0:Nat)=0) oM oM;have e2:=JN (c:=c) (G:=G) (P:=P) (i:=A4 s i) (f:=f') (rfl:(0:Nat)=0) Rn Rn;rw[e1]at n1 n2 hcan |-;rw[e2];have hre:=h.reads t;obtain⟨r1,r2,r3⟩:=Vm (G:=G) (P:=P) t2 hkn hre h.slots h.outs;refine⟨rfl,hi2,hj2,r1,r2,?_,n1,n2,hcan,hoks⟩;have hsim:=h.sim;unfold BI at hsim |-;rw[hst,hK,hins];have hkn':Aq (A4 s i).op=true:=hkn;have hfr:∀g:Nat,Hl c L g->Bx c (CI c G P f' (A4 s i)) (g:Int)=Bx c f' (g:Int):=fun g hg'=>BD (r:=(g:Int)) hkn' (fun hs e=>by
   rw[Int.toNat_natCast]at e
   exact hg'.ne hl hs e)
  obtain⟨u1,u2,_,_⟩:=Ar (J8 h.i t);refine⟨fun r hr=>?_,fun q hq=>?_⟩
  .simp only at hr;by_cases hD:Ah i=true/\r=i.d.toNat
   .obtain⟨hs,rfl⟩:=hD;obtain⟨d0,d1⟩:=J1 t hs;have hid:s.ins i.d.toNat=i.d.toNat:=by
     rcases h.i.same i.d.toNat with q|⟨q,j,hj,k1,k2⟩
     .exact q
     .rw[hl]at q;exact absurd k2 (G3 hs q j hj k1)
    rw[hid,Int.toNat_of_nonneg d0];exact r3 hs
   .have hrX:r∈x.set:=by
     rcases List.mem_append.1 hr with hr|hr
     .exact hr
     .exact absurd (hY r hr) hD
    rw[BD (r:=(r:Int)) hkn (fun hs e=>hD ⟨hs,by rw[Int.toNat_natCast]at e;exact e⟩)];rw[<-hsim.1 r hrX];rcases h.j.inst r with q|q
    .exact BD (r:=(s.ins r:Int)) hkn' (fun hs e=>hD ⟨hs,by rw[Int.toNat_natCast,q]at e;exact e⟩)
    .exact hfr _ q
  .rcases List.mem_append.1 hq with hq|hq
   .intro g hg';rw[hhold q hq]at hg';obtain⟨j1,j2,j3,j4,j5,j6,j7⟩:=h.j.hold q g hg';rw[hfr g j1,<-hsim.2 q hq g hg'];have hie:Ed c f' (CI c G P f' (A4 s i)) (Rt q g) (Rt q g):=Ed.refl (fun r hr=>⟨by
     have hr':=j7 r hr
     exact BD (r:=r) hkn' (fun hs e=>hr'.ne hl hs e),rfl⟩)
    exact IF (G:=G) (P:=P) (i:=Rt q g) j6 j5 hie (fun e=>absurd e j3) j4
   .obtain⟨rfl,h32,hw,hgq⟩:=hJ q hq;intro g hg';rw[hgq]at hg';obtain rfl:=Option.some.inj hg';obtain⟨w1,w2,w3⟩:=Cc hw;have w1':Ah i=true:=w1;obtain⟨d0,d1⟩:=J1 t w1';have hd0:0<=(A4 s i).d:=d0;have ea:Rt (LG c (A4 s i)) i.d.toNat=A4 s i:=O9 (c:=c) hd0;rw[ea,Int.toNat_of_nonneg d0];have hset:=I0 h.i h.j t hw;have hie:Ed c f' (CI c G P f' (A4 s i)) (A4 s i) (A4 s i):=Ed.refl (fun r hr=>⟨BD (r:=r) hkn' (fun hs e=>(hset r hr).ne hl hs e),rfl⟩);exact IF (G:=G) (P:=P) (i:=A4 s i) u2 u1 hie (fun e=>absurd e h32) w1
theorem E3{f:Fr}(o:i.op=35\/i.op=36\/i.op=37):Ap c G P (f,0) i=(f,0):=by
 unfold Ap;rw[if_neg sM,if_neg oM,if_pos rfl,AM oM]
theorem Mp{f:Fr}{k:Nat}(o:i.op=34):Ap c G P (f,k) i=if 0<k\/f.whs i.a.toNat=0 then(f,k+1)else(f,0):=by
 unfold Ap;rw[if_neg oM];by_cases q:0<k\/f.whs i.a.toNat=0
 .rw[if_pos ⟨o,q⟩,if_pos q]
 .rw[if_neg (fun e=>q e.2),if_neg q,if_pos (by simp only;omega),AM oM]
theorem OK{f:Fr}{k:Nat}(o:i.op=35):Ap c G P (f,k+1) i=(f,k):=by
 unfold Ap;rw[if_pos ⟨sM,o⟩];rfl
theorem XJ(hg:By c)(fg:DD c G)(fp:DD c P)(hb:AB i.bits)(h:Jz c G P L s x x' f f' k)(hl:c.list=L++i::R)(t:Am c x i=true)(hh:DH c s (A4 s i)=none)(ho:i.op=34\/i.op=35\/i.op=36\/i.op=37):
 (Ap c G P (f',k) (A4 s i)).2=(Ap c G P (f,k) i).2/\Jz c G P (L++[i]) (B4 c s (A4 s i)) (Ad x i) (Ad x' (A4 s i)) (Ap c G P (f,k) i).1 (Ap c G P (f',k) (A4 s i)).1 (Ap c G P (f,k) i).2:=by
 have hop:(A4 s i).op=i.op:=rfl;obtain⟨hkn,t2,t3,_⟩:=Ar t;obtain⟨n1,n2⟩:=Ih hg h.oks t h.ok hb fg fp h.sk;have hcan:=Kv (G:=G) (P:=P) (k:=k) t2 hkn h.ok h.can;have hi2:=MH h.i hl t hh;have hj2:=h.j.stayS h.i t;have hoks:=h.oks.step t;have hsim:=h.sim;rcases ho with o|o|o|o
 .have o':(A4 s i).op=34:=o;have hst:=Lq (s:=x) o;have hsy:=MI c s o';have hX:∀k',BI c G P f f' s.ins s.hold k' x.set s.reck x.opens s.opn->BI c G P f f' s.ins s.hold (k'+1) x.set s.reck (⟨false,i.n,x.set.length⟩::x.opens) (s.opn++[s.reck.length]):=fun k' q=>by
   unfold BI;simp only[Bool.false_eq_true,if_false,List.getLastD_concat,List.dropLast_concat,List.take_length];exact q
  have hw:k=0->f'.whs (A4 s i).a.toNat=f.whs i.a.toNat:=fun hk=>by
   subst hk;have ra:(A3 i.op).a=2:=by rw[o];decide
   exact((h.reads t).a Zhs).whs (Ep t2 2 ra dE dE)
  have e1:=Mp (c:=c) (G:=G) (P:=P) (f:=f) (k:=k) o;have e2:=Mp (c:=c) (G:=G) (P:=P) (f:=f') (k:=k) o';by_cases q:0<k\/f.whs i.a.toNat=0
  .have q':0<k\/f'.whs (A4 s i).a.toNat=0:=by
    rcases Nat.eq_zero_or_pos k with e|e
    .rw[hw e];exact q
    .exact .inl e
   rw[if_pos q]at e1;rw[if_pos q']at e2;rw[e1]at n1 n2 hcan |-;rw[e2];refine⟨rfl,hi2,hj2,h.slots,h.outs,?_,n1,n2,hcan,hoks⟩;rw[hst,hsy];exact hX k hsim
  .have hk:k=0:=oM;subst hk;have q':¬ (0<0\/f'.whs (A4 s i).a.toNat=0):=by rw[hw rfl];exact q
   rw[if_neg q]at e1;rw[if_neg q']at e2;exact Zew
 .have o':(A4 s i).op=35:=o;have hst:=GG (s:=x) (.inl o:i.op=35\/i.op=37);have hsy:=Ph c s o';unfold Al at t3;rw[if_neg oM,if_pos o]at t3;simp only[Bool.and_eq_true,Bool.not_eq_true']at t3;have hnd:=h.i.nodup;obtain⟨a,m,oo,kk,p,hxo,hso,ha,hm⟩:∃a m oo kk p,x.opens=⟨false,p,a⟩::oo/\s.opn=kk++[m]/\a<=x.set.length/\m<=s.reck.length:=by
   have hop9:=h.i.opens;obtain⟨X,O⟩:=x;obtain⟨X',O'⟩:=x';obtain⟨ins,hold,reck,opn,left⟩:=s;simp only at hop9 t3 |-;cases hop9 with
   |nil=>simp at t3
   |loop h9=>simp[Ao]at t3
   |@when _ _ _ o o' k p a a' m h1 h2 h3 h4 h5 h6=>exact⟨a,m,o,k,p,rfl,rfl,h1,h3⟩
  have hlv:AI x=⟨x.set.take a,oo⟩:=by
   unfold AI;rw[hxo];simp
  have hk2:∀q∈s.reck.take m,(if q∈s.reck.drop m then none else s.hold q)=s.hold q:=fun q hq=>if_neg (Lv hnd hq);have hlw:Hq {s with left:=s.left++[A4 s i]}={s with left:=s.left++[A4 s i],hold:=fun r=>if r∈s.reck.drop m then none else s.hold r,reck:=s.reck.take m,opn:=kk}:=by
   unfold Hq Oe;simp only;rw[hso];simp
  cases k with
  |zero=>
   have e1:=E3 (c:=c) (G:=G) (P:=P) (f:=f) (.inl o:i.op=35\/i.op=36\/i.op=37);have e2:=E3 (c:=c) (G:=G) (P:=P) (f:=f') (.inl o':(A4 s i).op=35\/(A4 s i).op=36\/(A4 s i).op=37);rw[e1]at n1 n2 hcan |-;rw[e2];refine⟨rfl,hi2,hj2,h.slots,h.outs,?_,n1,n2,hcan,hoks⟩;rw[hst,hsy,hlv,hlw];unfold BI at hsim |-;exact⟨fun r hr=>hsim.1 r (List.mem_of_mem_take hr),fun q hq g hg'=>hsim.2 q (List.mem_of_mem_take hq) g (by simp only at hg';rw[hk2 q hq]at hg';exact hg')⟩
  |succ k=>
   have e1:=OK (c:=c) (G:=G) (P:=P) (f:=f) (k:=k) o;have e2:=OK (c:=c) (G:=G) (P:=P) (f:=f') (k:=k) o';rw[e1]at n1 n2 hcan |-;rw[e2];refine⟨rfl,hi2,hj2,h.slots,h.outs,?_,n1,n2,hcan,hoks⟩;rw[hst,hsy,hlv,hlw];rw[hxo,hso]at hsim;unfold BI at hsim;simp only[Bool.false_eq_true,if_false,List.getLastD_concat,List.dropLast_concat]at hsim;exact hsim.congr (fun _ _=>rfl) hk2
 .have o':(A4 s i).op=36:=o;have hst:=Lr (s:=x) o;have hns:Ah (A4 s i)=false:=by unfold Ah;rw[o'];decide
  have hsy:B4 c s (A4 s i)={s with left:=s.left++[A4 s i]}:=by
   unfold B4;rw[if_neg oM,if_neg oM,if_neg];intro q;have:=(Cc q.2).1;rw[hns]at this;cases this
  cases k with
  |zero=>
   have e1:=E3 (c:=c) (G:=G) (P:=P) (f:=f) (.inr (.inl o):i.op=35\/i.op=36\/i.op=37);have e2:=E3 (c:=c) (G:=G) (P:=P) (f:=f') (.inr (.inl o'):(A4 s i).op=35\/(A4 s i).op=36\/(A4 s i).op=37);exact Zew
  |succ k=>
   have e1:=Dy (c:=c) (G:=G) (P:=P) (i:=i) (f:=f) (Nat.succ_pos k) oM oM;have e2:=Dy (c:=c) (G:=G) (P:=P) (i:=A4 s i) (f:=f') (Nat.succ_pos k) oM oM;rw[e1]at n1 n2 hcan |-;rw[e2];refine⟨rfl,hi2,hj2,h.slots,h.outs,?_,n1,n2,hcan,hoks⟩;rw[hst,hsy];unfold BI;simp only[if_true];exact hsim
 .have o':(A4 s i).op=37:=o;have hst:=GG (s:=x) (.inr o:i.op=35\/i.op=37);have hns:Ah (A4 s i)=false:=by unfold Ah;rw[o'];decide
  have hsy:B4 c s (A4 s i)={s with left:=s.left++[A4 s i]}:=by
   unfold B4;rw[if_neg oM,if_neg oM,if_neg];intro q;have:=(Cc q.2).1;rw[hns]at this;cases this
  unfold Al at t3;rw[if_neg oM,if_neg oM,if_pos o]at t3;obtain⟨p,a,oo,hxo⟩:∃p a oo,x.opens=⟨true,p,a⟩::oo:=by
   obtain⟨X,O⟩:=x;simp only at t3 |-;cases O with
   |nil=>simp[Ao]at t3
   |cons bk oo=>
    obtain⟨lp,p,a⟩:=bk;simp[Ao]at t3;subst t3;exact⟨p,a,oo,rfl⟩
  have hlv:AI x=⟨x.set,oo⟩:=by
   unfold AI;rw[hxo];simp
  cases k with
  |zero=>
   have e1:=E3 (c:=c) (G:=G) (P:=P) (f:=f) (.inr (.inr o):i.op=35\/i.op=36\/i.op=37);have e2:=E3 (c:=c) (G:=G) (P:=P) (f:=f') (.inr (.inr o'):(A4 s i).op=35\/(A4 s i).op=36\/(A4 s i).op=37);rw[e1]at n1 n2 hcan |-;rw[e2];refine⟨rfl,hi2,hj2,h.slots,h.outs,?_,n1,n2,hcan,hoks⟩;rw[hst,hsy,hlv];unfold BI at hsim |-;exact hsim
  |succ k=>
   have e1:=Dy (c:=c) (G:=G) (P:=P) (i:=i) (f:=f) (Nat.succ_pos k) oM oM;have e2:=Dy (c:=c) (G:=G) (P:=P) (i:=A4 s i) (f:=f') (Nat.succ_pos k) oM oM;rw[e1]at n1 n2 hcan |-;rw[e2];refine⟨rfl,hi2,hj2,h.slots,h.outs,?_,n1,n2,hcan,hoks⟩;rw[hst,hsy,hlv];rw[hxo]at hsim;unfold BI at hsim;simp only[if_true]at hsim;exact hsim
theorem NP(hg:By c)(fg:DD c G)(fp:DD c P):∀ (R L:List Aa) (s:RW) (x x':Wk) (f f':Fr) (k:Nat) (f0:Fr),c.list=L++R->(∀i∈R,AB i.bits)->AK c x R=true->Jz c G P L s x x' f f' k->En c G P (f0,0) s.left=(f',k)->
 ∃f2 f2' k2 s2 x2 x2',En c G P (f,k) R=(f2,k2)/\s2=R.foldl (MN c) s/\En c G P (f0,0) s2.left=(f2',k2)/\Jz c G P c.list s2 x2 x2' f2 f2' k2
 |[],L,s,x,x',f,f',k,f0,hl,hb,ht,h,hgo=>by
  rw[List.append_nil]at hl;subst hl;exact⟨f,f',k,s,x,x',rfl,rfl,hgo,h⟩
 |i::R,L,s,x,x',f,f',k,f0,hl,hb,ht,h,hgo=>by
  have ht':Am c x i=true/\AK c (Ad x i) R=true:=by unfold AK at ht;simpa using ht
  have hl':c.list=(L++[i])++R:=by rw[hl];simp
  have hbi:=hb i sM;have hbR:=fun j hj=>hb j (List.mem_cons_of_mem i hj);have hgoc:En c G P (f,k) (i::R)=En c G P (Ap c G P (f,k) i) R:=rfl;cases hh:DH c s (A4 s i)with
  |some g=>
   have htk:MN c s i={s with ins:=fun k=>if k=i.d.toNat then g else s.ins k}:=by unfold MN;rw[hh]
   have h2:=XI hg fg fp hbi h hl ht'.1 hh;have hk2:(Ap c G P (f,k) i).2=k:=by
    obtain⟨hs,-,-⟩:=OA h.i hl hh;obtain⟨o4,o5,o6,o7⟩:=Ix hs;rcases Nat.eq_zero_or_pos k with e|e
    .rw[JN e o5 o4,e]
    .rw[Dy e o5 o4]
   obtain⟨f2,f2',k2,s2,x2,x2',r1,r2,r3,r4⟩:=NP hg fg fp R (L++[i]) _ _ _ _ f' _ f0 hl' hbR ht'.2 h2 (by rw[hk2];exact hgo);refine⟨f2,f2',k2,s2,x2,x2',by rw[hgoc];exact r1,?_,r3,r4⟩;rw[r2,List.foldl_cons,htk]
  |none=>
   have htk:MN c s i=B4 c s (A4 s i):=by unfold MN;rw[hh]
   have h2:(Ap c G P (f',k) (A4 s i)).2=(Ap c G P (f,k) i).2/\Jz c G P (L++[i]) (B4 c s (A4 s i)) (Ad x i) (Ad x' (A4 s i)) (Ap c G P (f,k) i).1 (Ap c G P (f',k) (A4 s i)).1 (Ap c G P (f,k) i).2:=by
    by_cases ho:i.op=34\/i.op=35\/i.op=36\/i.op=37
    .exact XJ hg fg fp hbi h hl ht'.1 hh ho
    .exact Uu hg fg fp hbi h hl ht'.1 hh ho
   have hgo2:En c G P (f0,0) (B4 c s (A4 s i)).left=((Ap c G P (f',k) (A4 s i)).1,(Ap c G P (f,k) i).2):=by
    rw[(UA c s _).1];unfold En at hgo |-;rw[List.foldl_append,hgo,<-h2.1];rfl
   obtain⟨f2,f2',k2,s2,x2,x2',r1,r2,r3,r4⟩:=NP hg fg fp R (L++[i]) _ _ _ _ _ _ f0 hl' hbR ht'.2 h2.2 hgo2;refine⟨f2,f2',k2,s2,x2,x2',by rw[hgoc];exact r1,?_,r3,r4⟩;rw[r2,List.foldl_cons,htk]
end
theorem IN(c:Cd)(L:List Aa)(l:List Hd):∀j,PJ {c with list:=L} l j=PJ c l j
 |0=>rfl
 |j+1=>by
  unfold PJ;rw[IN c L l j];rfl
def Jx(l:List Hd):Prop:=∀h∈l,∀y∈h.pats,Ae y=y
theorem LY(c:Cd)(s:Sl):∀y∈(BC c s).pats,Ae y=y:=by
 intro y hy;unfold BC EZ at hy;rw[List.eq_of_mem_replicate hy];exact Cv _
theorem Uz(c:Cd):Jx (Co c):=by
 intro h hh;unfold Co at hh;obtain⟨s,-,rfl⟩:=List.mem_map.1 hh;exact LY c s
theorem Rp{c:Cd}{l:List Hd}(h:Jx l):∀j,Jx (PJ c l j)
 |0=>h
 |j+1=>by
  have ih:=Rp h j (c:=c);unfold PJ;split
  .split
   .exact ih
   .intro x hx;rcases List.mem_or_eq_of_mem_set hx with e|e
    .exact ih x e
    .rw[e];exact LY c _
  .exact ih
theorem R7{c:Cd}{l:List Hd}(h:Jx l):JW (B8 c l):=
 ⟨fun _=>(by show Ae 0=0;decide),fun _ y hy=>(by cases hy),fun x hx=>Rp h _ x hx⟩
structure I5(c d:Cd):Prop where
 sign:d.sign=c.sign
 slots:d.slots=c.slots
 step:∀ (l:List Hd) (G P:List (List Int)),GJ c l->Jx l->Fl G->Fl P->DU c G P=true->(Eo d l G P).slots=(Eo c l G P).slots/\Gg d (Eo d l G P)=Gg c (Eo c l G P)/\Jx (Eo c l G P).slots
theorem GJ.same{c d:Cd}(h:I5 c d){l:List Hd}(hs:GJ c l):GJ d l:=by
 exact Zex
theorem XO{c d:Cd}(h:I5 c d){l:List Hd}(hs:GJ d l):GJ c l:=by
 exact Zex
theorem Uw{c:Cd}(hg:By c)(hk:Bb c):GJ c (Co c):=
 ⟨(by unfold Co;simp),fun j h h'=>(by rw[MG h' h];exact Oa hg (gD h) (hk.sbits _ (gD h))),start_z hg⟩
theorem Pg{c d:Cd}(h:I5 c d):Co d=Co c:=by
 obtain⟨s0,r0,t0,l0⟩:=c;obtain⟨s1,r1,t1,l1⟩:=d;obtain⟨h1,h2,-⟩:=h;simp only at h1 h2;subst h1 h2;rfl
theorem Qb{c d:Cd}(h:I5 c d)(G P:List (List Int)):DU d G P=DU c G P:=by unfold DU;rw[h.sign]
theorem QM{c:Cd}(hc:(At c).1=0)(hk:Bb c):I5 c (NH c):=by
 refine⟨rfl,rfl,fun l G P hs cl kG kP hf=>?_⟩;obtain⟨hg,-⟩:=F3 hc;have hf':=hf;unfold DU at hf';simp only[Bool.and_eq_true]at hf';have fg:DD c G:=JJ hf'.1 kG hg;have fp:DD c P:=JJ hf'.2 kP hg;have ok:=OM hg hk hs;have cf:JW (B8 c l):=R7 cl;have hb:∀i∈c.list,AB i.bits:=hk.ibits;obtain⟨h1,h2,h3⟩:=D4.1 hc;have hsr:Jz c G P [] J5 ⟨[],[]⟩ ⟨[],[]⟩ (B8 c l) (B8 c l) 0:=⟨Fb.start c,I4.start c,rfl,rfl,by unfold BI;exact⟨fun r hr=>(by cases hr),fun q hq=>(by cases hq)⟩,ok,.inl ⟨rfl,fun r hr=>(by cases hr)⟩,cf,Eu.start _⟩
 obtain⟨f2,f2',k2,s2,x2,x2',r1,r2,r3,r4⟩:=NP hg fg fp c.list [] J5 _ _ _ _ 0 (B8 c l) rfl hb h2 hsr rfl;have e:QL c=s2.left:=by rw[r2];rfl
 have e1:Eo c l G P=f2:=by unfold Eo;rw[r1]
 have e2:Eo (NH c) l G P=f2':=by
  unfold Eo;have e9:B8 (NH c) l=B8 c l:=by unfold B8 NH;rw[IN]
  rw[e9];show(En c G P (B8 c l,0) (QL c)).1=_;rw[e,r3]
 rw[e1,e2];refine⟨r4.slots,?_,r4.can.slots⟩;show Gg c f2'=Gg c f2;unfold Gg;rw[r4.outs]
def AW(c:Cd)(i:Aa):Bool:=AC i.op&&((Ak c.regs i (A3 i.op)).kind==3)
def BH(c:Cd)(i:Aa):Nat:=(Ak c.regs i (A3 i.op)).par.toNat
structure Fz where
 left:List Aa
 wait:Nat->List Aa
 dep:Nat
def Ew(ns:List Nat)(r:Nat):List Nat:=if r∈ns then ns else ns++[r]
def Zp(c:Cd)(i:Aa):List Nat:=((Ac i (A3 i.op)).filter fun r=>(A5 c.regs r).kind==1).map Int.toNat
def RV(c:Cd)(ns:List Nat)(i:Aa):List Nat:=(Zp c i).foldl Ew ns
def BF(c:Cd)(ws:List Aa):List Nat:=ws.foldl (RV c) []
def Db(c:Cd)(ws:List Aa)(i:Aa):Bool:=((Ac i (A3 i.op)).any fun r=>decide (r.toNat∈Ib ws))||(Ah i&&((A5 c.regs i.d).kind==1&&(decide (i.d.toNat∈BF c ws)||decide (16<=(BF c ws).length))))
def AY(p:Nat):Aa:=⟨36,0,0,0,0,(p:Int),0⟩
def Bw:Aa:=⟨37,0,0,0,0,0,0⟩
def Be(dep p:Nat)(ws:List Aa):List Aa:=if ws=[] then [] else if dep=64 then ws else AY p::(ws++[Bw])
def Ba(s:Fz)(p:Nat):Fz:={s with left:=s.left++Be s.dep p (s.wait p),wait:=fun x=>if x=p then [] else s.wait x}
def A9(q:List Aa->Bool)(s:Fz):Nat->Fz
 |0=>s
 |n+1=>if q ((A9 q s n).wait n)=true then Ba (A9 q s n) n else A9 q s n
def Bc(_:List Aa):Bool:=true
def QH(c:Cd)(s:Fz)(i:Aa):Fz:={s with wait:=fun x=>if x=BH c i then s.wait x++[i]else s.wait x}
def I8(s:Fz)(i:Aa)(d:Nat):Fz:={s with left:=s.left++[i],dep:=d}
def Ce(c:Cd)(s:Fz)(i:Aa):Fz:=
 if i.op=36\/i.op=37 then s
 else if AW c i=true then QH c s i
 else if i.op=34 then I8 (A9 Bc s c.sign.length) i (s.dep+1)
 else if i.op=35 then I8 (A9 Bc s c.sign.length) i (s.dep-1)
 else I8 (A9 (fun ws=>Db c ws i) s c.sign.length) i s.dep
def GF:Fz:=⟨[],fun _=>[],0⟩
def CG(c:Cd)(l:List Aa):Fz:=l.foldl (Ce c) GF
theorem EE(c:Cd)(l:List Aa)(i:Aa):CG c (l++[i])=Ce c (CG c l) i:=by unfold CG;rw[List.foldl_append];rfl
def BK(c:Cd):List Aa:=(A9 Bc (CG c c.list) c.sign.length).left
def Bd(c:Cd):Cd:=if 32768<(BK c).length then c else⟨c.sign,c.regs,c.slots,BK c⟩
structure Rg(c:Cd)(f f':Fr):Prop where
 rd:∀r:Nat,Bx c f' (r:Int)=Bx c f (r:Int)
 sl:f'.slots=f.slots
 ou:f'.outs=f.outs
def Bp(c:Cd)(i:Aa):Prop:=Aq i.op=true/\AN c i (A3 i.op)=true
section
variable {c : Cd} {G P : List (List Int)} {f f' : Fr} {i w : Aa}
theorem Rg.refl(c:Cd)(f:Fr):Rg c f f:=⟨fun _=>rfl,rfl,rfl⟩
theorem Rg.trans{f1 f2 f3:Fr}(h:Rg c f1 f2)(g:Rg c f2 f3):Rg c f1 f3:=⟨fun r=>(g.rd r).trans (h.rd r),g.sl.trans h.sl,g.ou.trans h.ou⟩
theorem E5(h:Bp c i){r:Int}(hr:r∈Ac i (A3 i.op)):r=((r.toNat:Nat):Int):=by
 have Bl:∀ {l n:Int},Ai c.regs l n (Ak c.regs i (A3 i.op))=true->l≠0->n=((n.toNat:Nat):Int):=fun g hl=>by have:=Af g hl;omega
 unfold Ac at hr;simp only[List.mem_append]at hr;rcases hr with hr|hr|hr
 .split at hr
  .cases hr
  .rename_i hl;simp only[List.mem_singleton]at hr;subst hr;exact Bl (BR h.2) hl
 .split at hr
  .cases hr
  .rename_i hl;simp only[List.mem_singleton]at hr;subst hr;exact Bl (E8 h.2) hl
 .split at hr
  .cases hr
  .rename_i hl;simp only[List.mem_singleton]at hr;subst hr;exact Bl (E9 h.2) hl
theorem Gb(h:Bp c i)(hs:Ah i=true):i.d=((i.d.toNat:Nat):Int)/\i.d.toNat<c.regs.length:=by
 unfold Ah at hs;have:=Af (Dh h.2) (by simpa using hs);exact⟨oM,oM⟩
theorem Rg.ins(h:Rg c f f')(hi:Bp c i):Ed c f f' i i:=Ed.refl fun r hr=>⟨by rw[E5 hi hr];exact h.rd _,rfl⟩
theorem Rg.do_(h:Rg c f f')(hi:Bp c i):Rg c (CI c G P f i) (CI c G P f' i):=by
 obtain⟨h1,h2,h3⟩:=Vm (G:=G) (P:=P) hi.2 hi.1 (h.ins hi) h.sl h.ou;refine⟨fun r=>?_,h1,h2⟩;by_cases e:Ah i=true/\r=i.d.toNat
 .obtain⟨e1,e2⟩:=e;have h4:=h3 e1;rw[(Gb hi e1).1]at h4;rw[e2];exact h4
 .have hr:Ah i=true->((r:Nat):Int).toNat≠i.d.toNat:=fun s q=>e ⟨s,by simpa using q⟩;rw[BD hi.1 hr,BD hi.1 hr];exact h.rd r
structure DR(c:Cd)(i w:Aa):Prop where
 rw_:Ah w=true->∀r∈Ac i (A3 i.op),r.toNat≠w.d.toNat
 wr:Ah i=true->∀r∈Ac w (A3 w.op),r.toNat≠i.d.toNat
 dd:Ah i=true->Ah w=true->i.d.toNat≠w.d.toNat
 sl:(i.op=32\/i.op=33)->(w.op=32\/w.op=33)->i.n.toNat≠w.n.toNat
 ou:i.op=31->w.op=31->(A5 c.regs i.a).par.toNat≠(A5 c.regs w.a).par.toNat
theorem DR.symm(h:DR c i w):DR c w i:=⟨h.wr,h.rw_,fun a b=>(h.dd b a).symm,fun a b=>(h.sl b a).symm,fun a b=>(h.ou b a).symm⟩
theorem Yo(o:i.op=31\/i.op=33):i.a∈Ac i (A3 i.op):=by
 unfold Ac;rcases o with e|e<;>(rw[e];rw[if_neg dE];simp)
theorem DR.ins(h:DR c i w)(hw:Bp c w):Ed c f (CI c G P f w) i i:=Ed.refl fun r hr=>⟨BD hw.1 fun s=>h.rw_ s r hr,rfl⟩
theorem Gn(hk:Aq i.op=true):(CI c G P f i).slots=if i.op=33 then f.slots.set i.n.toNat (Bx c f i.a)else f.slots:=by
 by_cases e:i.op=33
 .rw[if_pos e,Ci e]
 .rw[if_neg e];rcases CE hk with o|o|o|o|o|o|o|o|o
  .rw[Bz o]
  .rw[AT o]
  .rw[BZ o]
  .rw[C5 o]
  .rw[Ch o]
  .rw[BE o];exact(DA _ _ _ _).1
  .exact absurd o e
  .rw[AM o]
  .rw[AS o];exact(Dm _ _ _).1
theorem JH(hk:Aq i.op=true):(CI c G P f i).outs=if i.op=31 then QF f.outs (A5 c.regs i.a).par.toNat (AP c (A5 c.regs i.a).par) i.n.toNat (f.vecs i.a.toNat)else f.outs:=by
 by_cases e:i.op=31
 .rw[if_pos e,Ch e]
 .rw[if_neg e];rcases CE hk with o|o|o|o|o|o|o|o|o
  .rw[Bz o]
  .rw[AT o]
  .rw[BZ o]
  .rw[C5 o]
  .exact absurd o e
  .rw[BE o];exact(DA _ _ _ _).2
  .rw[Ci o]
  .rw[AM o]
  .rw[AS o];exact(Dm _ _ _).2
theorem DR.val(h:DR c i w)(hi:Bp c i)(hw:Bp c w)(hs:Ah i=true):Bx c (CI c G P (CI c G P f w) i) i.d=Bx c (CI c G P f i) i.d:=by
 by_cases o:i.op=32
 .have e:(CI c G P f w).slots[i.n.toNat]? =f.slots[i.n.toNat]? :=by
   rw[Gn hw.1];split
   .rename_i o';exact List.getElem?_set_ne (fun q=>h.sl (.inl o) (.inr o') q.symm)
   .rfl
  rw[BE o,BE o,e];exact NF c _ _ _ rfl
 .exact IF hi.2 hi.1 (h.ins hw) (fun q=>absurd q o) hs
theorem DR.rdA(h:DR c i w)(hw:Bp c w)(o:i.op=31\/i.op=33):Bx c (CI c G P f w) i.a=Bx c f i.a:=BD hw.1 fun s=>h.rw_ s _ (Yo o)
theorem DR.vecA(h:DR c i w)(hi:Bp c i)(hw:Bp c w)(o:i.op=31):(CI c G P f w).vecs i.a.toNat=f.vecs i.a.toNat:=by
 have hk:(A5 c.regs i.a).kind=3:=Ep hi.2 3 UP dE dE;exact IK.vec (r:=i.a) (r':=i.a) ⟨h.rdA hw (.inl o),rfl⟩ hk
theorem DR.swap(h:DR c i w)(hi:Bp c i)(hw:Bp c w)(f:Fr):Rg c (CI c G P (CI c G P f i) w) (CI c G P (CI c G P f w) i):=by
 refine⟨fun r=>?_,?_,?_⟩
 .by_cases e1:Ah i=true/\r=i.d.toNat
  .obtain⟨s1,q⟩:=e1;have h9:=h.val (f:=f) (G:=G) (P:=P) hi hw s1;have hn:=(Gb hi s1).1;rw[hn]at h9;rw[<-q]at h9;rw[h9];exact(BD hw.1 fun s2=>by rw[q];exact h.dd s1 s2).symm
  .by_cases e2:Ah w=true/\r=w.d.toNat
   .obtain⟨s2,q⟩:=e2;have h9:=h.symm.val (f:=f) (G:=G) (P:=P) hw hi s2;have hn:=(Gb hw s2).1;rw[hn]at h9;rw[<-q]at h9;rw[h9];exact BD hi.1 fun s1=>by rw[q];exact(h.dd s1 s2).symm
   .have g1:Ah i=true->((r:Nat):Int).toNat≠i.d.toNat:=fun s q=>e1 ⟨s,by simpa using q⟩;have g2:Ah w=true->((r:Nat):Int).toNat≠w.d.toNat:=fun s q=>e2 ⟨s,by simpa using q⟩;rw[BD hi.1 g1,BD hw.1 g2,BD hw.1 g2,BD hi.1 g1]
 .rw[Gn hi.1,Gn hw.1,Gn hw.1,Gn hi.1];by_cases o1:i.op=33
  .rw[if_pos o1,if_pos o1,h.rdA hw (.inr o1)];by_cases o2:w.op=33
   .rw[if_pos o2,if_pos o2,h.symm.rdA hi (.inr o2)];exact List.set_comm _ _ (fun q=>h.sl (.inr o1) (.inr o2) q.symm)
   .rw[if_neg o2,if_neg o2]
  .rw[if_neg o1,if_neg o1];by_cases o2:w.op=33
   .rw[if_pos o2,if_pos o2,h.symm.rdA hi (.inr o2)]
   .rw[if_neg o2,if_neg o2]
 .rw[JH hi.1,JH hw.1,JH hw.1,JH hi.1];by_cases o1:i.op=31
  .rw[if_pos o1,if_pos o1,h.vecA hi hw o1];by_cases o2:w.op=31
   .rw[if_pos o2,if_pos o2,h.symm.vecA hw hi o2];have hp:=h.ou o1 o2;unfold QF;funext q j;by_cases q1:q=(A5 c.regs i.a).par.toNat
    .have q2:¬q=(A5 c.regs w.a).par.toNat:=fun e=>hp (q1.symm.trans e);simp only[q2,false_and,if_false]
    .simp only[q1,false_and,if_false]
   .rw[if_neg o2,if_neg o2]
  .rw[if_neg o1,if_neg o1];by_cases o2:w.op=31
   .rw[if_pos o2,if_pos o2,h.symm.vecA hw hi o2]
   .rw[if_neg o2,if_neg o2]
def SE(c:Cd)(s s':Fr×Nat):Prop:=s'.2=s.2/\Rg c s.1 s'.1
theorem SE.refl(c:Cd)(s:Fr×Nat):SE c s s:=⟨rfl,Rg.refl c _⟩
theorem SE.trans{s1 s2 s3:Fr×Nat}(h:SE c s1 s2)(g:SE c s2 s3):SE c s1 s3:=⟨g.1.trans h.1,h.2.trans g.2⟩
theorem SE.next{s s':Fr×Nat}(h:SE c s s')(hi:Bp c i):SE c (Ap c G P s i) (Ap c G P s' i):=by
 obtain⟨f,k⟩:=s;obtain⟨f',k'⟩:=s';obtain⟨h1,h2⟩:=h;simp only at h1 h2;subst h1;unfold Ap;simp only;by_cases a1:0<k'/\i.op=35
 .rw[if_pos a1,if_pos a1];exact⟨rfl,h2⟩
 .rw[if_neg a1,if_neg a1];by_cases o:i.op=34
  .have hk:(A5 c.regs i.a).kind=2:=Ep hi.2 2 UP dE dE;have hr:i.a∈Ac i (A3 i.op):=by unfold Ac;rw[o,if_neg dE];simp
   have e:f'.whs i.a.toNat=f.whs i.a.toNat:=IK.whs (r:=i.a) (r':=i.a) ⟨by rw[E5 hi hr];exact h2.rd _,rfl⟩ hk;rw[e];by_cases a2:i.op=34/\(0<k'\/f.whs i.a.toNat=0)
   .rw[if_pos a2,if_pos a2];exact⟨rfl,h2⟩
   .rw[if_neg a2,if_neg a2];exact Zfn
  .have a3:∀Q:Prop,¬ (i.op=34/\Q):=fun Q q=>o q.1;rw[if_neg (a3 _),if_neg (a3 _)];exact Zfn
theorem SE.go:∀ {l:List Aa} {s s':Fr×Nat},(∀i∈l,Bp c i)->SE c s s'->SE c (En c G P s l) (En c G P s' l)
 |[],_,_,_,h=>h
 |i::l,s,s',hl,h=>SE.go (l:=l) (fun x hx=>hl x Ye) (h.next (hl i sM))
theorem BA(s:Fr×Nat)(l m:List Aa):En c G P s (l++m)=En c G P (En c G P s l) m:=by unfold En;rw[List.foldl_append]
def Yh(i:Aa):Prop:=i.op≠34/\i.op≠35
theorem FO(h:Yh i)(s:Fr×Nat):Ap c G P s i=if s.2=0 then(CI c G P s.1 i,0)else s:=by
 unfold Ap;rw[if_neg (fun q=>h.2 q.2),if_neg (fun q=>h.1 q.1)]
theorem TM(h:DR c i w)(hi:Bp c i)(hw:Bp c w)(bi:Yh i)(bw:Yh w)(s:Fr×Nat):SE c (Ap c G P (Ap c G P s i) w) (Ap c G P (Ap c G P s w) i):=by
 rw[FO bw,FO bi,FO bi,FO bw];by_cases k:s.2=0
 .simp only[k,if_true];exact⟨rfl,h.swap hi hw s.1⟩
 .simp only[if_neg k];exact SE.refl c s
theorem No{l:List Aa}(hi:Bp c i)(bi:Yh i):∀ (s:Fr×Nat),(∀w∈l,Bp c w/\Yh w/\DR c i w)->SE c (En c G P s (l++[i])) (En c G P s (i::l)):=by
 induction l with
 |nil=>intro s _;exact SE.refl c _
 |cons w l ih=>
  intro s h;have h1:=ih (Ap c G P s w) (fun x hx=>h x Ye);obtain⟨fw,bw,aw⟩:=h w sM;have h2:SE c (En c G P (Ap c G P (Ap c G P s w) i) l) (En c G P (Ap c G P (Ap c G P s i) w) l):=SE.go (fun x hx=>(h x Ye).1) (TM aw.symm fw hi bw bi s);exact h1.trans h2
theorem VM{A B:List Aa}:∀ (s:Fr×Nat),(∀i∈B,Bp c i/\Yh i)->(∀w∈A,Bp c w/\Yh w)->(∀i∈B,∀w∈A,DR c i w)->SE c (En c G P s (A++B)) (En c G P s (B++A)):=by
 induction B generalizing A with
 |nil=>intro s _ _ _;rw[List.append_nil];exact SE.refl c _
 |cons i B ih=>
  intro s hB hA h;obtain⟨fi,bi⟩:=hB i sM;have h1:SE c (En c G P s (A++[i])) (En c G P s (i::A)):=No fi bi s (fun w hw=>⟨(hA w hw).1,(hA w hw).2,h i sM w hw⟩);have h2:SE c (En c G P s (A++i::B)) (En c G P s (i::A++B)):=by
   rw[show A++i::B=(A++[i])++B by simp,BA,BA s (i::A) B];exact SE.go (fun x hx=>(hB x Ye).1) h1
  have h3:=ih (A:=A) (Ap c G P s i) (fun x hx=>hB x Ye) hA (fun x hx=>h x Ye);exact h2.trans h3
end
def B9(wt:Nat->List Aa):Nat->List Aa
 |0=>[]
 |n+1=>B9 wt n++wt n
theorem Je{wt:Nat->List Aa}{w:Aa}:∀ {n:Nat},w∈B9 wt n->∃p,p<n/\w∈wt p
 |0,h=>by cases h
 |n+1,h=>by
  rcases List.mem_append.1 h with e|e
  .obtain⟨p,h1,h2⟩:=Je e;exact⟨p,oM,h2⟩
  .exact⟨n,oM,e⟩
theorem TL{wt:Nat->List Aa}{w:Aa}{p:Nat}(hw:w∈wt p):∀ {n:Nat},p<n->w∈B9 wt n
 |0,h=>by omega
 |n+1,h=>by
  by_cases e:p=n
  .subst e;exact List.mem_append_right _ hw
  .exact List.mem_append_left _ (TL hw oM)
theorem GI{wt wt':Nat->List Aa}:∀ {n:Nat},(∀p,p<n->wt p=wt' p)->B9 wt n=B9 wt' n
 |0,_=>rfl
 |n+1,h=>by
  show B9 wt n++wt n=B9 wt' n++wt' n;rw[GI (fun p hp=>h p oM),h n oM]
theorem FG{wt:Nat->List Aa}:∀ {n:Nat},(∀p,p<n->wt p=[])->B9 wt n=[]
 |0,_=>rfl
 |n+1,h=>by
  show B9 wt n++wt n=[];rw[FG (fun p hp=>h p oM),h n oM];rfl
theorem DB{wt:Nat->List Aa}{p:Nat}:∀ {n:Nat},p<n->∃A B,(∀x:List Aa,B9 (fun q=>if q=p then x else wt q) n=A++(x++B))/\B9 wt n=A++(wt p++B)/\(∀a∈A++B,∃q,q≠p/\q<n/\a∈wt q)
 |0,h=>by omega
 |n+1,h=>by
  by_cases e:p=n
  .subst e;refine⟨B9 wt p,[],fun x=>?_,by simp[B9],fun a ha=>?_⟩
   .show B9 _ p++(if p=p then x else wt p)=_;rw[GI (wt':=wt) (fun q hq=>if_neg oM),if_pos rfl,List.append_nil]
   .rw[List.append_nil]at ha;obtain⟨q,h1,h2⟩:=Je ha;exact⟨q,oM,oM,h2⟩
  .obtain⟨A,B,h1,h2,h3⟩:=DB (wt:=wt) (p:=p) (n:=n) oM;refine⟨A,B++wt n,fun x=>?_,?_,fun a ha=>?_⟩
   .show B9 _ n++(if n=p then x else wt n)=_;rw[h1 x,if_neg (fun(q:n=p)=>e q.symm)];simp
   .show B9 wt n++wt n=_;rw[h2];simp
   .rw[<-List.append_assoc]at ha;rcases List.mem_append.1 ha with q|q
    .obtain⟨r,g1,g2,g3⟩:=h3 a q;exact⟨r,g1,oM,g3⟩
    .exact⟨n,fun q=>e q.symm,oM,q⟩
theorem Kp{op:Int}(h:Aq op=true):∃n:Nat,op=(n:Int)/\1<=n/\n<38:=by
 unfold Aq at h;simp only[Bool.and_eq_true,decide_eq_true_eq]at h;exact⟨op.toNat,oM,oM,oM⟩
def I1(c:Cd)(wt:Nat->List Aa):Prop:=∀p,∀w∈wt p,Bp c w/\AW c w=true/\Ak c.regs w (A3 w.op)=⟨3,(p:Int)⟩
section
variable {c : Cd} {G P : List (List Int)} {i w : Aa}
theorem CS(h:AC i.op=true):i.op=29\/i.op=30\/i.op=31\/i.op=32\/i.op=33\/(3<=i.op/\i.op<=15):=by
 unfold AC B3 at h;simp only[Bool.or_eq_true,Bool.and_eq_true,decide_eq_true_eq]at h;omega
theorem Gu(h:AW c i=true):Yh i:=by
 unfold AW at h;simp only[Bool.and_eq_true]at h;have:=CS h.1;exact⟨oM,oM⟩
theorem GV(h:AW c i=true):(Ak c.regs i (A3 i.op)).kind=3:=by
 unfold AW at h;simp only[Bool.and_eq_true,beq_iff_eq]at h;exact h.2
theorem ED(h:AW c i=true):AC i.op=true:=by
 unfold AW at h;simp only[Bool.and_eq_true]at h;exact h.1
theorem EF(hs:Ah i=true):Ak c.regs i (A3 i.op)=A5 c.regs i.d:=by
 unfold Ah at hs;unfold Ak CC;rw[if_neg (by simpa using hs)]
theorem Hv(hi:Bp c i)(hm:AW c i=true){r:Int}(hr:r∈Ac i (A3 i.op)):A5 c.regs r=Ak c.regs i (A3 i.op)\/(A5 c.regs r).kind=1:=by
 have hk:=GV hm;have Bl:∀ {n l:Int},(l=5\/l=3\/l=6)->(l=3->n=i.a/\(A3 i.op).d=0)->Ai c.regs l n (Ak c.regs i (A3 i.op))=true->A5 c.regs n=Ak c.regs i (A3 i.op)\/(A5 c.regs n).kind=1:=fun{n l} hl h3 hf=>by
  unfold Ai at hf;rw[if_neg oM]at hf;simp only[Bool.and_eq_true]at hf;have hf:=hf.2;unfold B5 at hf;rcases hl with e|e|e
  .subst e;rw[if_neg dE,if_neg dE,if_neg dE,if_neg dE,if_pos rfl]at hf;simp only[Bool.or_eq_true,decide_eq_true_eq,Bool.and_eq_true,beq_iff_eq]at hf;rcases hf with q|q
   .exact .inl q
   .exact .inr q.1
  .obtain⟨h1,h2⟩:=h3 e;left;unfold Ak CC;rw[if_pos h2,h1]
  .subst e;rw[if_neg dE,if_neg dE,if_neg dE,if_neg dE,if_neg dE]at hf;left;simpa using hf
 have rows:((A3 i.op).a=0\/((A3 i.op).a=5\/(A3 i.op).a=3\/(A3 i.op).a=6))/\((A3 i.op).a=3->(A3 i.op).d=0)/\((A3 i.op).b=0\/(A3 i.op).b=5)/\((A3 i.op).c=0\/(A3 i.op).c=5):=by
  have h9:=CS (ED hm);have h8:∃n:Nat,i.op=(n:Int)/\n<34/\(n=29\/n=30\/n=31\/n=32\/n=33\/(3<=n/\n<=15)):=⟨i.op.toNat,oM,oM,oM⟩
  obtain⟨n,e,h1,h2⟩:=h8;rw[e];have Bl:∀n:Nat,n<34->(n=29\/n=30\/n=31\/n=32\/n=33\/(3<=n/\n<=15))->((A3 (n:Int)).a=0\/((A3 (n:Int)).a=5\/(A3 (n:Int)).a=3\/(A3 (n:Int)).a=6))/\((A3 (n:Int)).a=3->(A3 (n:Int)).d=0)/\((A3 (n:Int)).b=0\/(A3 (n:Int)).b=5)/\((A3 (n:Int)).c=0\/(A3 (n:Int)).c=5):=dE;exact Bl n h1 h2
 obtain⟨ra,rd,rb,rc⟩:=rows;unfold Ac at hr;simp only[List.mem_append]at hr;rcases hr with hr|hr|hr
 .split at hr
  .cases hr
  .rename_i hl;simp only[List.mem_singleton]at hr;subst hr;exact Bl (ra.resolve_left hl) (fun e=>⟨rfl,rd e⟩) (BR hi.2)
 .split at hr
  .cases hr
  .rename_i hl;simp only[List.mem_singleton]at hr;subst hr;exact Bl (.inl (rb.resolve_left hl)) (fun e=>by have:=rb.resolve_left hl;omega) (E8 hi.2)
 .split at hr
  .cases hr
  .rename_i hl;simp only[List.mem_singleton]at hr;subst hr;exact Bl (.inl (rc.resolve_left hl)) (fun e=>by have:=rc.resolve_left hl;omega) (E9 hi.2)
theorem Oj(hi:Bp c i)(o:i.op=32\/i.op=33):Df c.slots i.n=Ak c.regs i (A3 i.op)/\0<=i.n/\i.n<(c.slots.length:Int):=by
 have h:=hi.2;unfold AN at h;simp only[Bool.and_eq_true]at h;have h:=h.2.2.2.2;have e:(A3 i.op).n=10:=by rcases o with e|e<;>(rw[e];decide)
 unfold Bi at h;rw[if_neg Zho]at h;simp only[Bool.and_eq_true]at h;have h:=h.2;unfold Gd at h;rw[if_neg Zho,if_neg Zho,if_pos e]at h;simp only[Bool.and_eq_true,decide_eq_true_eq]at h;exact⟨h.2,(Bv.1 h.1).1,(Bv.1 h.1).2⟩
theorem Lo(hi:Bp c i)(hw:Bp c w)(hne:Ak c.regs i (A3 i.op)≠Ak c.regs w (A3 w.op))(o1:i.op=32\/i.op=33)(o2:w.op=32\/w.op=33):i.n.toNat≠w.n.toNat:=fun e=>by
 obtain⟨h1,h2,h3⟩:=Oj hi o1;obtain⟨g1,g2,g3⟩:=Oj hw o2;have:i.n=w.n:=oM;rw[this,g1]at h1;exact hne h1.symm
theorem KK(o:i.op=31):Ak c.regs i (A3 i.op)=A5 c.regs i.a:=by
 unfold Ak CC;rw[if_pos UP]
theorem LV(hi:Bp c i)(hw:Bp c w)(mi:AW c i=true)(mw:AW c w=true){p q:Nat}(hp:Ak c.regs i (A3 i.op)=⟨3,(p:Int)⟩)(hq:Ak c.regs w (A3 w.op)=⟨3,(q:Int)⟩)(hne:p≠q):DR c i w:=by
 have ne:Ak c.regs i (A3 i.op)≠Ak c.regs w (A3 w.op):=fun e=>by
  rw[hp,hq]at e;simp only[Ty.mk.injEq]at e;omega
 have Bl:∀ {i w:Aa},Bp c i->Bp c w->AW c i=true->AW c w=true->Ak c.regs i (A3 i.op)≠Ak c.regs w (A3 w.op)->Ah w=true->∀r∈Ac i (A3 i.op),r.toNat≠w.d.toNat:=fun{i w} hi hw mi mw ne s r hr e=>by
  have h1:=EF (c:=c) s;have h2:=GV mw;have e':r=w.d:=by rw[E5 hi hr,(Gb hw s).1,e]
  rcases Hv hi mi hr with q|q
  .rw[e',<-h1]at q;exact ne q.symm
  .rw[e',<-h1]at q;omega
 refine⟨Bl hi hw mi mw ne,Bl hw hi mw mi (fun e=>ne e.symm),fun s1 s2 e=>?_,Lo hi hw ne,fun o1 o2 e=>?_⟩
 .have:i.d=w.d:=by rw[(Gb hi s1).1,(Gb hw s2).1,e]
  exact ne (by rw[EF s1,EF s2,this])
 .rw[KK o1]at hp;rw[KK o2]at hq;rw[hp,hq]at e;simp only[Int.toNat_natCast]at e;exact hne e
theorem Mr(ns:List Nat):∀ (rs:List Nat),(∀r∈ns,r∈rs.foldl Ew ns)/\∀r∈rs,r∈rs.foldl Ew ns
 |[]=>⟨fun r h=>h,fun r h=>by cases h⟩
 |a::rs=>by
  obtain⟨h1,h2⟩:=Mr (Ew ns a) rs;have up:∀r∈ns,r∈Ew ns a:=fun r hr=>by unfold Ew;split<;>simp[hr]
  have own:a∈Ew ns a:=by unfold Ew;split<;>simp_all
  refine⟨fun r hr=>h1 r (up r hr),fun r hr=>?_⟩;rcases List.mem_cons.1 hr with e|e
  .rw[e];exact h1 a own
  .exact h2 r e
theorem Kz(c:Cd):∀ (ws:List Aa) (ns:List Nat),(∀r∈ns,r∈ws.foldl (RV c) ns)/\∀w∈ws,∀r∈Zp c w,r∈ws.foldl (RV c) ns
 |[],ns=>⟨fun r h=>h,fun w h=>by cases h⟩
 |a::ws,ns=>by
  obtain⟨h1,h2⟩:=Kz c ws (RV c ns a);obtain⟨g1,g2⟩:=Mr ns (Zp c a);refine⟨fun r hr=>h1 r (g1 r hr),fun w hw r hr=>?_⟩;rcases List.mem_cons.1 hw with e|e
  .subst e;exact h1 r (g2 r hr)
  .exact h2 w e r hr
theorem PK(hi:Bp c i)(mi:AW c i=false)(bi:Yh i){ws:List Aa}(hb:Db c ws i=false)(hw:w∈ws)(fw:Bp c w)(mw:AW c w=true):DR c i w:=by
 unfold Db at hb;simp only[Bool.or_eq_false_iff,List.any_eq_false,decide_eq_true_eq]at hb;obtain⟨b1,b2⟩:=hb;have kw:=GV mw;have ki:(AC i.op=true)->(Ak c.regs i (A3 i.op)).kind≠3:=fun hl q=>by
  unfold AW at mi;rw[hl]at mi;simp only[Bool.true_and,beq_eq_false_iff_ne]at mi;exact mi q
 have kd:Ah i=true->(A5 c.regs i.d).kind≠3:=fun s q=>by
  by_cases hl:AC i.op=true
  .exact ki hl (by rw[EF s];exact q)
  .obtain⟨n,e,h1,h2⟩:=Kp hi.1;have Bl:∀n:Nat,n<38->1<=n->AC (n:Int)=false->(A3 (n:Int)).d=0\/(A3 (n:Int)).d=1\/(A3 (n:Int)).d=2:=dE;rw[e]at hl;have h3:=Bl n h2 h1 (by simpa using hl);rw[<-e]at h3;unfold Ah at s;have s':(A3 i.op).d≠0:=by simpa using s
   rcases h3 with h3|h3|h3
   .exact s' h3
   .have:=Ff hi.2 1 h3 dE dE;omega
   .have:=Ff hi.2 2 h3 dE dE;omega
 refine⟨fun s r hr e=>?_,fun s r hr e=>?_,fun s1 s2 e=>?_,fun o1 o2=>?_,fun o1 o2=>?_⟩
 .refine b1 r hr ?_;unfold Ib;rw[e];exact List.mem_map.2 ⟨w,List.mem_filter.2 ⟨hw,s⟩,rfl⟩
 .have e':r=i.d:=by rw[E5 fw hr,(Gb hi s).1,e]
  rcases Hv fw mw hr with q|q
  .rw[e']at q;exact kd s (by rw[q];exact kw)
  .rw[e']at q;have hm:i.d.toNat∈BF c ws:=(Kz c ws []).2 w hw _ (by
    unfold Zp;refine List.mem_map.2 ⟨r,List.mem_filter.2 ⟨hr,?_⟩,e⟩;rw[e']
    simpa using q)
   rw[s,q]at b2;simp[hm]at b2
 .have e':i.d=w.d:=by rw[(Gb hi s1).1,(Gb fw s2).1,e]
  refine kd s1 ?_;rw[e',<-EF s2];exact kw
 .refine Lo hi fw (fun q=>?_) o1 o2;rw[<-q]at kw;exact ki (by unfold AC;rcases o1 with e|e<;>(rw[e];decide)) kw
 .exact absurd (Ep hi.2 3 (by rw[o1];decide) dE dE) (fun q=>ki (by unfold AC;rw[o1];decide) (by rw[KK o1];exact q))
theorem YV(s:Fr×Nat)(d p:Nat)(ws:List Aa):En c G P s (Be d p ws)=En c G P s ws:=by
 unfold Be;split
 .rename_i e;rw[e]
 .split
  .rfl
  .show En c G P (Ap c G P s (AY p)) (ws++[Bw])=_;rw[IT c G P s (i:=AY p) rfl,BA];show Ap c G P _ Bw=_;rw[IT c G P _ (i:=Bw) rfl]
theorem I1.write{s:Fz}(h:I1 c s.wait)(p:Nat):I1 c (Ba s p).wait:=fun q w hw=>by
 have hw:w∈(if q=p then [] else s.wait q):=hw;split at hw
 .cases hw
 .exact h q w hw
theorem Rc{s:Fz}(h:I1 c s.wait){p n:Nat}(hp:p<n)(x:Fr×Nat):SE c (En c G P x (s.left++B9 s.wait n)) (En c G P x ((Ba s p).left++B9 (Ba s p).wait n)):=by
 obtain⟨A,B,h1,h2,h3⟩:=DB (wt:=s.wait) (p:=p) hp;have e:B9 (Ba s p).wait n=A++B:=by
  have:=h1 [];rw[List.nil_append]at this;exact this
 rw[e,h2];show SE c _ (En c G P x ((s.left++Be s.dep p (s.wait p))++(A++B)));rw[BA,BA x (s.left++_),BA x s.left,YV,<-BA _ (s.wait p)];have k:=VM (c:=c) (G:=G) (P:=P) (A:=A) (B:=s.wait p) (En c G P x s.left) (fun i hi=>⟨(h p i hi).1,Gu (h p i hi).2.1⟩) (fun w hw=>by
  obtain⟨q,g1,g2,g3⟩:=h3 w (by simp[hw])
  exact⟨(h q w g3).1,Gu (h q w g3).2.1⟩) (fun i hi w hw=>by
  obtain⟨q,g1,g2,g3⟩:=h3 w (by simp[hw])
  exact LV (h p i hi).1 (h q w g3).1 (h p i hi).2.1 (h q w g3).2.1 (h p i hi).2.2 (h q w g3).2.2 (fun w=>g1 w.symm))
 rw[<-List.append_assoc,<-List.append_assoc,BA,BA _ (s.wait p++A)];exact SE.go (fun w hw=>by
  obtain⟨q,g1,g2,g3⟩:=h3 w (by simp[hw])
  exact(h q w g3).1) k
theorem CJ{q:List Aa->Bool}{s:Fz}(h:I1 c s.wait):∀m,I1 c (A9 q s m).wait
 |0=>h
 |m+1=>by
  show I1 c (if q ((A9 q s m).wait m)=true then Ba (A9 q s m) m else A9 q s m).wait;split
  .exact(CJ h m).write m
  .exact CJ h m
theorem FM{q:List Aa->Bool}{s:Fz}(h:I1 c s.wait){n:Nat}(x:Fr×Nat):∀m,m<=n->SE c (En c G P x (s.left++B9 s.wait n)) (En c G P x ((A9 q s m).left++B9 (A9 q s m).wait n))
 |0,_=>SE.refl c _
 |m+1,hm=>by
  have ih:=FM (q:=q) h x m oM (n:=n);show SE c _ (En c G P x ((if q ((A9 q s m).wait m)=true then Ba (A9 q s m) m else A9 q s m).left++B9 (if q ((A9 q s m).wait m)=true then Ba (A9 q s m) m else A9 q s m).wait n));split
  .exact ih.trans (Rc (CJ h m) oM x)
  .exact ih
theorem Du{q:List Aa->Bool}{s:Fz}:∀m,(A9 q s m).dep=s.dep
 |0=>rfl
 |m+1=>by
  show(if q ((A9 q s m).wait m)=true then Ba (A9 q s m) m else A9 q s m).dep=_;split
  .exact Du m
  .exact Du m
theorem Dn{q:List Aa->Bool}{s:Fz}:∀m p,(A9 q s m).wait p=if p<m/\q (s.wait p)=true then [] else s.wait p
 |0,p=>by rw[if_neg oM];rfl
 |m+1,p=>by
  show(if q ((A9 q s m).wait m)=true then Ba (A9 q s m) m else A9 q s m).wait p=_;have em:(A9 q s m).wait m=s.wait m:=by rw[Dn m m,if_neg oM]
  rw[em];by_cases hq:q (s.wait m)=true
  .rw[if_pos hq];show(if p=m then [] else(A9 q s m).wait p)=_;by_cases e:p=m
   .subst e;rw[if_pos rfl,if_pos ⟨oM,hq⟩]
   .rw[if_neg e,Dn m p];by_cases h9:p<m/\q (s.wait p)=true
    .rw[if_pos h9,if_pos ⟨oM,h9.2⟩]
    .rw[if_neg h9,if_neg (fun w=>h9 ⟨oM,w.2⟩)]
  .rw[if_neg hq,Dn m p];by_cases h9:p<m/\q (s.wait p)=true
   .rw[if_pos h9,if_pos ⟨oM,h9.2⟩]
   .rw[if_neg h9,if_neg (fun w=>h9 ⟨by
     rcases Nat.lt_or_ge p m with q1|q1
     .exact q1
     .exfalso;have:p=m:=oM;subst this
      exact hq w.2,w.2⟩)]
end
section
variable {c : Cd} {G P : List (List Int)} {i w : Aa}
theorem Ft(ht:Aj c=true)(hi:Bp c i)(hm:AW c i=true):Ak c.regs i (A3 i.op)=⟨3,((BH c i:Nat):Int)⟩/\BH c i<c.sign.length:=by
 have hk:=GV hm;have hreg:∃n:Nat,CC i (A3 i.op)=(n:Int)/\n<c.regs.length:=by
  have h0:Az (CC i (A3 i.op)) c.regs.length=true:=by
   by_cases h9:Az (CC i (A3 i.op)) c.regs.length=true
   .exact h9
   .unfold Ak A5 at hk;rw[if_neg h9]at hk;exact absurd hk dE
  obtain⟨h1,h2⟩:=Bv.1 h0;exact⟨(CC i (A3 i.op)).toNat,oM,oM⟩
 obtain⟨n,e,hn⟩:=hreg;have e1:Ak c.regs i (A3 i.op)=c.regs[n]:=by
  unfold Ak A5;rw[e,if_pos (Bv.2 ⟨oM,oM⟩),Int.toNat_natCast,gB hn];rfl
 unfold Aj at ht;rw[List.all_eq_true]at ht;have h2:=ht _ (gD hn);rw[<-e1]at h2;unfold AE at h2;rw[if_neg oM,if_pos hk]at h2;obtain⟨h3,h4⟩:=Bv.1 h2;unfold BH;generalize Ak c.regs i (A3 i.op)=m at hk h3 h4;obtain⟨k,p⟩:=m;simp only at hk h3 h4 |-;subst hk;exact⟨by rw[show((p.toNat:Nat):Int)=p by omega],oM⟩
theorem I1.put{s:Fz}(h:I1 c s.wait)(ht:Aj c=true)(hi:Bp c i)(hm:AW c i=true):I1 c (QH c s i).wait:=fun q w hw=>by
 have hw:w∈(if q=BH c i then s.wait q++[i]else s.wait q):=hw;split at hw
 .rename_i e;rcases List.mem_append.1 hw with g|g
  .exact h q w g
  .simp only[List.mem_singleton]at g;subst g;rw[e];exact⟨hi,hm,(Ft ht hi hm).1⟩
 .exact h q w hw
theorem OR(s:Fz)(i:Aa):(QH c s i).wait=fun q=>if q=BH c i then s.wait (BH c i)++[i]else s.wait q:=by
 funext q;show(if q=BH c i then s.wait q++[i]else s.wait q)=_;split
 .rename_i e;rw[e]
 .rfl
def FzS(c:Cd)(G P:List (List Int))(l:List Aa)(s:Fz):Prop:=∀x,SE c (En c G P x l) (En c G P x (s.left++B9 s.wait c.sign.length))
theorem Nm(x:Fr×Nat)(l:List Aa)(i:Aa):En c G P x (l++[i])=Ap c G P (En c G P x l) i:=by rw[BA];rfl
theorem GN(s:Fz)(n:Nat):B9 (A9 Bc s n).wait n=[]:=FG fun p hp=>by rw[Dn,if_pos ⟨hp,rfl⟩]
theorem Lw{s:Fz}(ht:Aj c=true)(hi:Bp c i)(h:I1 c s.wait):I1 c (Ce c s i).wait:=by
 unfold Ce;split
 .exact h
 .split
  .rename_i hm;exact h.put ht hi hm
  .split
   .exact CJ h _
   .split
    .exact CJ h _
    .exact CJ h _
theorem UD{l:List Aa}{s:Fz}(ht:Aj c=true)(hi:Bp c i)(hw:I1 c s.wait)(h:FzS c G P l s):FzS c G P (l++[i]) (Ce c s i):=by
 intro x;have h0:=h x;rw[Nm];unfold Ce;by_cases o1:i.op=36\/i.op=37
 .rw[if_pos o1,IT c G P _ (by unfold E1;rcases o1 with e|e<;>(rw[e];rfl))];exact h0
 .rw[if_neg o1];have h1:=h0.next (G:=G) (P:=P) hi;by_cases hm:AW c i=true
  .rw[if_pos hm];obtain⟨m1,m2⟩:=Ft ht hi hm;obtain⟨A,B,g1,g2,g3⟩:=DB (wt:=s.wait) (p:=BH c i) m2;rw[OR,g1];show SE c _ (En c G P x (s.left++_));rw[g2]at h1;refine h1.trans ?_;rw[<-Nm];rw[show s.left++(A++(s.wait (BH c i)++B))++[i]=(s.left++A++s.wait (BH c i))++(B++[i]) by simp,show s.left++(A++(s.wait (BH c i)++[i]++B))=(s.left++A++s.wait (BH c i))++(i::B) by simp,BA,BA x _ (i::B)];refine No hi (Gu hm) _ (fun w hwB=>?_);obtain⟨q,e1,e2,e3⟩:=g3 w (by simp[hwB]);obtain⟨f1,f2,f3⟩:=hw q w e3;exact⟨f1,Gu f2,LV hi f1 hm f2 m1 f3 (fun e=>e1 e.symm)⟩
  .rw[if_neg hm];have Bl:∀d,SE c (Ap c G P (En c G P x l) i) (En c G P x ((I8 (A9 Bc s c.sign.length) i d).left++B9 (I8 (A9 Bc s c.sign.length) i d).wait c.sign.length)):=fun d=>by
    have h2:=FM (q:=Bc) (G:=G) (P:=P) hw x c.sign.length (gF _);rw[GN,List.append_nil]at h2;show SE c _ (En c G P x (((A9 Bc s c.sign.length).left++[i])++B9 (A9 Bc s c.sign.length).wait c.sign.length));rw[GN,List.append_nil,Nm];exact(h0.trans h2).next hi
   by_cases o2:i.op=34
   .rw[if_pos o2];exact Bl _
   .rw[if_neg o2];by_cases o3:i.op=35
    .rw[if_pos o3];exact Bl _
    .rw[if_neg o3];have h2:=FM (q:=fun ws=>Db c ws i) (G:=G) (P:=P) hw x c.sign.length (gF _);have h3:=(h0.trans h2).next (G:=G) (P:=P) hi;refine h3.trans ?_;generalize hf:A9 (fun ws=>Db c ws i) s c.sign.length=t;show SE c _ (En c G P x ((t.left++[i])++B9 t.wait c.sign.length));rw[<-Nm,show t.left++B9 t.wait c.sign.length++[i]=t.left++(B9 t.wait c.sign.length++[i]) by simp,show t.left++[i]++B9 t.wait c.sign.length=t.left++(i::B9 t.wait c.sign.length) by simp,BA,BA x t.left (i::_)];have ht':I1 c t.wait:=by rw[<-hf];exact CJ hw _
     refine No hi ⟨o2,o3⟩ _ (fun w hwW=>?_);obtain⟨p,e1,e2⟩:=Je hwW;obtain⟨f1,f2,f3⟩:=ht' p w e2;refine⟨f1,Gu f2,?_⟩;rw[<-hf,Dn]at e2;by_cases hb:Db c (s.wait p) i=true
     .rw[if_pos ⟨e1,hb⟩]at e2;cases e2
     .rw[if_neg (fun q=>hb q.2)]at e2;exact PK hi (by simpa using hm) ⟨o2,o3⟩ (by simpa using hb) e2 f1 f2
theorem DK{α:Type}{Q:List α->Prop}(h0:Q [])(h1:∀l i,Q l->Q (l++[i]))(l:List α):Q l:=by
 have Bl:∀r:List α,Q r.reverse:=fun r=>by
  induction r with
  |nil=>exact h0
  |cons a r ih=>rw[List.reverse_cons];exact h1 _ _ ih
 have:=Bl l.reverse;rwa[List.reverse_reverse]at this
theorem Xw(ht:Aj c=true)(l:List Aa):(∀i∈l,Bp c i)->I1 c (CG c l).wait/\FzS c G P l (CG c l):=by
 refine DK (Q:=fun l=>(∀i∈l,Bp c i)->I1 c (CG c l).wait/\FzS c G P l (CG c l)) ?_ ?_ l
 .intro _;exact⟨fun p w hw=>(by cases hw),fun x=>by
   show SE c _ (En c G P x ([]++B9 (fun _=>[]) c.sign.length));rw[FG (fun _ _=>rfl)]
   exact SE.refl c _⟩
 .intro l i ih h;obtain⟨h1,h2⟩:=ih (fun x hx=>h x Ye);have hi:=h i sM;rw[EE];exact⟨Lw ht hi h1,UD ht hi h1 h2⟩
theorem YU(ht:Aj c=true)(hl:∀i∈c.list,Bp c i)(x:Fr×Nat):SE c (En c G P x c.list) (En c G P x (BK c)):=by
 obtain⟨h1,h2⟩:=Xw (G:=G) (P:=P) ht c.list hl;have h3:=FM (q:=Bc) (G:=G) (P:=P) h1 x c.sign.length (gF _);rw[GN,List.append_nil]at h3;exact(h2 x).trans h3
end
def O1(S:Nat->Prop):List Aa->Prop
 |[]=>True
 |w::ws=>(∀r∈Ac w (A3 w.op),S r.toNat)/\O1 (fun x=>S x\/(Ah w=true/\x=w.d.toNat)) ws
theorem Gq(w:Aa)(ws:List Aa)(x:Nat):x∈Ib (w::ws)↔(Ah w=true/\x=w.d.toNat)\/x∈Ib ws:=by
 unfold Ib;cases h:Ah w<;>simp[List.filter_cons,h]
theorem O1.mono:∀ {ws:List Aa} {S T:Nat->Prop},(∀x,S x->T x)->O1 S ws->O1 T ws
 |[],_,_,_,_=>trivial
 |w::ws,S,T,h,k=>⟨fun r hr=>h _ (k.1 r hr),O1.mono (fun x hx=>hx.imp (h x) id) k.2⟩
theorem O1.snoc{i:Aa}:∀ {ws:List Aa} {S:Nat->Prop},O1 S ws->(∀r∈Ac i (A3 i.op),S r.toNat\/r.toNat∈Ib ws)->O1 S (ws++[i])
 |[],S,_,h=>⟨fun r hr=>(h r hr).elim id (fun q=>by cases q),trivial⟩
 |w::ws,S,k,h=>⟨k.1,O1.snoc k.2 fun r hr=>by
  rcases h r hr with q|q
  .exact .inl (.inl q)
  .rcases(Gq w ws _).1 q with g|g
   .exact .inl (.inr g)
   .exact .inr g⟩
section
variable {c : Cd} {i w : Aa}
theorem G5{x:Wk}(h4:¬ (i.op=34\/i.op=36))(h5:¬ (i.op=35\/i.op=37)):(Ad x i).opens=x.opens/\(∃Y,(Ad x i).set=x.set++Y)/\∀r,r∈(Ad x i).set↔r∈x.set\/(Ah i=true/\r=i.d.toNat):=by
 have e:Ad x i=CN x i (A3 i.op):=by unfold Ad CT BG;rw[if_neg h4,if_neg h5]
 rw[e];unfold CN Ah;split
 .rename_i hd;refine⟨rfl,⟨[i.d.toNat],rfl⟩,fun r=>?_⟩;simp[hd.1]
 .rename_i hd;refine⟨rfl,⟨[],sM⟩,fun r=>⟨.inl,fun q=>q.elim id fun g=>?_⟩⟩;obtain⟨g1,g2⟩:=g;rw[g2];simp only[ne_eq,decide_eq_true_eq]at g1;by_cases hm:i.d.toNat∈x.set
  .exact hm
  .exact absurd ⟨g1,hm⟩ hd
theorem NU{p:Int}:∀ (ws:List Aa) (x:Wk),(∀w∈ws,Bp c w/\AW c w=true/\Ak c.regs w (A3 w.op)=⟨3,p⟩)->(Ao x=true->BN x=p)->O1 (· ∈x.set) ws->
 AK c x ws=true/\(Bn x ws).opens=x.opens/\(∃Y,(Bn x ws).set=x.set++Y)/\∀r,r∈(Bn x ws).set↔r∈x.set\/r∈Ib ws
 |[],x,_,_,_=>⟨rfl,rfl,⟨[],by simp[Bn]⟩,fun r=>by simp[Bn,Ib]⟩
 |w::ws,x,h,hl,hr=>by
  obtain⟨f1,f2,f3⟩:=h w sM;have ol:=CS (ED f2);obtain⟨s1,⟨Y,s2⟩,s3⟩:=G5 (x:=x) (i:=w) oM oM;have tk:Am c x w=true:=by
   unfold Am;rw[f1.1,f1.2];simp only[Bool.true_and,Bool.and_eq_true];constructor
   .unfold Al;rw[if_neg oM,if_neg oM,if_neg oM,ED f2];cases hx:Ao x with
    |false=>rfl
    |true=>rw[hl hx,f3];simp
   .unfold Dc;rw[List.all_eq_true];exact fun r hr'=>by simpa using hr.1 r hr'
  have hio:Ao (Ad x w)=Ao x/\BN (Ad x w)=BN x:=by unfold Ao BN;rw[s1];exact⟨rfl,rfl⟩
  obtain⟨t1,t2,⟨Z,t3⟩,t4⟩:=NU ws (Ad x w) (fun y hy=>h y (by simp[hy])) (fun q=>by rw[hio.2];exact hl (by rw[<-hio.1];exact q)) (hr.2.mono fun y hy=>(s3 y).2 hy);refine⟨by show(Am c x w&&AK c (Ad x w) ws)=true;rw[tk,t1];rfl,t2.trans s1,⟨Y++Z,by show(Bn (Ad x w) ws).set=_;rw[t3,s2,List.append_assoc]⟩,fun r=>?_⟩;show r∈(Bn (Ad x w) ws).set↔_;rw[t4,s3,Gq];exact or_assoc
theorem Xv(x:Wk)(i:Aa)(l:List Aa):Bn x (i::l)=Bn (Ad x i) l:=rfl
theorem Hy(x:Wk)(i:Aa)(l:List Aa):AK c x (i::l)=(Am c x i&&AK c (Ad x i) l):=rfl
theorem Nd(a b:List Aa)(r:Nat):r∈Ib (a++b)↔r∈Ib a\/r∈Ib b:=by rw[Q4,List.mem_append]
theorem Y5{p:Nat}(hp:p<c.sign.length){ws:List Aa}{x:Wk}(h:∀w∈ws,Bp c w/\AW c w=true/\Ak c.regs w (A3 w.op)=⟨3,(p:Int)⟩)(hl:Ao x=false)(hn:x.opens.length<=64)(hr:O1 (· ∈x.set) ws):
 AK c x (Be x.opens.length p ws)=true/\(Bn x (Be x.opens.length p ws)).opens=x.opens/\(∃Y,(Bn x (Be x.opens.length p ws)).set=x.set++Y)/\∀r,r∈(Bn x (Be x.opens.length p ws)).set↔r∈x.set\/r∈Ib ws:=by
 unfold Be;split
 .rename_i e;subst e;exact NU (p:=(p:Int)) [] x h (fun q=>by rw[hl]at q;cases q) hr
 .split
  .exact NU ws x h (fun q=>by rw[hl]at q;cases q) hr
  .rename_i h1 h2;have tk:Am c x (AY p)=true:=by
    unfold Am;have e1:Aq (AY p).op=true:=rfl;have e2:AN c (AY p) (A3 (AY p).op)=true:=by
     unfold AN Ai Bi Gd AY;simp only;rw[show A3 36=⟨0,0,0,0,11⟩ by decide];simp only[if_true];rw[if_neg dE,if_neg dE,if_neg dE,if_neg dE];simpa using Bv.2 ⟨oM,oM⟩
    have e3:Al c x (AY p) (A3 (AY p).op)=true:=by
     unfold Al;rw[if_pos (.inr rfl),hl];simp only[Bool.not_false,Bool.true_and,decide_eq_true_eq];omega
    rw[e1,e2,e3];rfl
   have es:Ad x (AY p)=⟨x.set,⟨true,(p:Int),x.set.length⟩::x.opens⟩:=by
    unfold Ad CT BG;rw[if_pos (.inr rfl)];unfold CN;rw[if_neg (fun q=>q.1 (by show(A3 36).d=0;decide))];rfl
   obtain⟨t1,t2,⟨Y,t3⟩,t4⟩:=NU (c:=c) (p:=(p:Int)) ws ⟨x.set,⟨true,(p:Int),x.set.length⟩::x.opens⟩ h (fun _=>rfl) hr;generalize hy:Bn ⟨x.set,⟨true,(p:Int),x.set.length⟩::x.opens⟩ ws=y at t2 t3 t4;have tn:Am c y Bw=true:=by
    unfold Am;have e1:Aq Bw.op=true:=rfl;have e2:AN c Bw (A3 Bw.op)=true:=rfl;have e3:Al c y Bw (A3 Bw.op)=true:=by
     unfold Al;rw[if_neg dE,if_neg dE,if_pos (show Bw.op=37 from rfl)];unfold Ao;rw[t2]
    rw[e1,e2,e3];rfl
   have en:Ad y Bw=⟨y.set,x.opens⟩:=by
    unfold Ad CT BG;rw[if_neg dE,if_pos (.inr rfl)];unfold AI;rw[t2];unfold CN;rw[if_neg (fun q=>q.1 (by show(A3 37).d=0;decide))];rfl
   have er:Bn x (AY p::(ws++[Bw]))=⟨y.set,x.opens⟩:=by
    rw[Xv,es,CZ,hy];exact en
   rw[er];refine⟨?_,rfl,⟨Y,t3⟩,t4⟩;rw[Hy,tk,es,Bt,t1,hy];show(true&&(true&&(Am c y Bw&&true)))=true;rw[tn];rfl
inductive Ri:List Nat->List Nat->List Bk->List Bk->Prop where
 |nil {X X':List Nat}:Ri X X' [] []
 |cons {X X':List Nat} {b b':Bk} {O O':List Bk} (h1:b.loop=false) (h2:b'.loop=false) (h3:b.ahead<=X.length) (h4:b'.ahead<=X'.length) (h5:∀r,r∈X.take b.ahead↔r∈X'.take b'.ahead) (h6:Ri (X.take b.ahead) (X'.take b'.ahead) O O'):Ri X X' (b::O) (b'::O')
theorem Ri.grow{X X':List Nat}{O O':List Bk}(h:Ri X X' O O')(Y Y':List Nat):Ri (X++Y) (X'++Y') O O':=by
 cases h with
 |nil=>exact .nil
 |cons h1 h2 h3 h4 h5 h6=>
  refine .cons h1 h2 sO sO ?_ ?_
  .rw[List.take_append_of_le_length h3,List.take_append_of_le_length h4];exact h5
  .rw[List.take_append_of_le_length h3,List.take_append_of_le_length h4];exact h6
theorem Ri.len{X X':List Nat}{O O':List Bk}(h:Ri X X' O O'):O.length=O'.length:=by
 induction h with
 |nil=>rfl
 |cons _ _ _ _ _ _ ih=>simp[ih]
theorem Ri.noLoop{X X':List Nat}{O O':List Bk}(h:Ri X X' O O')(Z:List Nat):Ao ⟨Z,O'⟩=false:=by
 cases h with
 |nil=>rfl
 |cons _ h2 _ _ _ _=>exact h2
theorem Ri.noLoopL{X X':List Nat}{O O':List Bk}(h:Ri X X' O O')(Z:List Nat):Ao ⟨Z,O⟩=false:=by
 cases h with
 |nil=>rfl
 |cons h1 _ _ _ _ _=>exact h1
def Cr(x:Wk):List Bk:=if Ao x=true then x.opens.tail else x.opens
structure PB(c:Cd)(x:Wk)(s:Fz):Prop where
 tk:AK c ⟨[],[]⟩ s.left=true
 ops:Ri x.set (Bn ⟨[],[]⟩ s.left).set (Cr x) (Bn ⟨[],[]⟩ s.left).opens
 set_:∀r,r∈x.set↔r∈(Bn ⟨[],[]⟩ s.left).set\/∃p,p<c.sign.length/\r∈Ib (s.wait p)
 rd:∀p,p<c.sign.length->O1 (· ∈(Bn ⟨[],[]⟩ s.left).set) (s.wait p)
 dep:s.dep=(Bn ⟨[],[]⟩ s.left).opens.length
 le:s.dep<=64
theorem PB.write{x:Wk}{s:Fz}(h:PB c x s)(hw:I1 c s.wait){p:Nat}(hp:p<c.sign.length):PB c x (Ba s p):=by
 obtain⟨t1,t2,⟨Y,t3⟩,t4⟩:=Y5 hp (hw p) (h.ops.noLoop (Bn ⟨[],[]⟩ s.left).set) (by rw[<-h.dep];exact h.le) (h.rd p hp);rw[<-h.dep]at t1 t2 t3 t4;have er:Bn ⟨[],[]⟩ (Ba s p).left=Bn (Bn ⟨[],[]⟩ s.left) (Be s.dep p (s.wait p)):=CZ _ _ _;refine⟨?_,?_,fun r=>?_,fun q hq=>?_,?_,h.le⟩
 .show AK c ⟨[],[]⟩ (s.left++Be s.dep p (s.wait p))=true;rw[Bt,h.tk];exact t1
 .rw[er,t2,t3];have:=h.ops.grow [] Y;rw[List.append_nil]at this;exact this
 .rw[er,t4,h.set_ r];constructor
  .rintro(q|⟨k,k1,k2⟩)
   .exact .inl (.inl q)
   .by_cases e:k=p
    .subst e;exact .inl (.inr k2)
    .exact .inr ⟨k,k1,by show r∈Ib (if k=p then [] else s.wait k);rw[if_neg e];exact k2⟩
  .rintro((q|q)|⟨k,k1,k2⟩)
   .exact .inl q
   .exact .inr ⟨p,hp,q⟩
   .have k2:r∈Ib (if k=p then [] else s.wait k):=k2;split at k2
    .cases k2
    .exact .inr ⟨k,k1,k2⟩
 .rw[er];show O1 _ (if q=p then [] else s.wait q);split
  .trivial
  .exact(h.rd q hq).mono fun y hy=>by rw[t3];simp[hy]
 .rw[er,t2];exact h.dep
theorem PB.flush{x:Wk}{s:Fz}(h:PB c x s)(hw:I1 c s.wait)(q:List Aa->Bool):∀m,m<=c.sign.length->PB c x (A9 q s m)
 |0,_=>h
 |m+1,hm=>by
  have ih:=h.flush hw q m oM;show PB c x (if q ((A9 q s m).wait m)=true then Ba (A9 q s m) m else A9 q s m);split
  .exact ih.write (CJ hw m) oM
  .exact ih
theorem KP{x y:Wk}(h:y.opens=x.opens):Cr y=Cr x:=by unfold Cr Ao;rw[h]
theorem PB.take{x:Wk}{s:Fz}(ht:Aj c=true)(h:PB c x s)(hw:I1 c s.wait)(tk:Am c x i=true):PB c (Ad x i) (Ce c s i):=by
 obtain⟨k1,k2,k3,k4⟩:=Ar tk;have hi:Bp c i:=⟨k1,k2⟩
 unfold Dc at k4;rw[List.all_eq_true]at k4;have k4:∀r∈Ac i (A3 i.op),r.toNat∈x.set:=fun r hr=>by simpa using k4 r hr
 unfold Ce;by_cases o1:i.op=36\/i.op=37
 .rw[if_pos o1];have hd:(A3 i.op).d=0:=by rcases o1 with e|e<;>(rw[e];decide)
  have Bl:(Ad x i).set=x.set/\Cr (Ad x i)=Cr x:=by
   unfold Ad CT;have ea:∀y:Wk,CN y i (A3 i.op)=y:=fun y=>by unfold CN;rw[if_neg (fun q=>q.1 hd)]
   rw[ea];unfold Al at k3;unfold BG;rcases o1 with e|e
   .rw[if_pos (.inr e)]at k3 |-;simp only[Bool.and_eq_true,Bool.not_eq_true']at k3;refine⟨rfl,?_⟩;have e1:Cr x=x.opens:=by unfold Cr;rw[k3.1,if_neg dE]
    have e2:Cr ⟨x.set,⟨i.op==36,i.n,x.set.length⟩::x.opens⟩=x.opens:=by unfold Cr;rw[if_pos (by show(i.op==36)=true;simp[e])];rfl
    rw[e1];exact e2
   .rw[if_neg oM,if_neg oM,if_pos e]at k3;rw[if_neg oM,if_pos (.inr e)];obtain⟨X,O⟩:=x;cases O with
    |nil=>cases k3
    |cons b O=>
     have hb:b.loop=true:=k3;have e1:AI ⟨X,b::O⟩=⟨X,O⟩:=by unfold AI;simp[hb]
     rw[e1];refine⟨rfl,?_⟩;have e2:Cr ⟨X,b::O⟩=O:=by unfold Cr;rw[if_pos k3];rfl
     have h9:=h.ops;rw[e2]at h9 |-;have:Ao ⟨X,O⟩=false:=h9.noLoopL X;unfold Cr;rw[this,if_neg dE]
  exact⟨h.tk,by rw[Bl.1,Bl.2];exact h.ops,by rw[Bl.1];exact h.set_,h.rd,h.dep,h.le⟩
 .rw[if_neg o1];by_cases hm:AW c i=true
  .rw[if_pos hm];obtain⟨m1,m2⟩:=Ft ht hi hm;have ol:=CS (ED hm);obtain⟨s1,⟨Y,s2⟩,s3⟩:=G5 (x:=x) (i:=i) oM oM;refine⟨h.tk,?_,fun r=>?_,fun q hq=>?_,h.dep,h.le⟩
   .rw[s2,KP s1];have:=h.ops.grow Y [];rw[List.append_nil]at this;exact this
   .show _↔r∈(Bn ⟨[],[]⟩ s.left).set\/∃p,p<c.sign.length/\r∈Ib ((QH c s i).wait p);rw[s3,h.set_ r];constructor
    .rintro((q|⟨k,g1,g2⟩)|g)
     .exact .inl q
     .refine .inr ⟨k,g1,?_⟩;show r∈Ib (if k=BH c i then s.wait k++[i]else s.wait k);split
      .rw[Nd];exact .inl g2
      .exact g2
     .refine .inr ⟨BH c i,m2,?_⟩;show r∈Ib (if BH c i=BH c i then s.wait (BH c i)++[i]else _);rw[if_pos rfl,Nd];exact .inr ((Gq i [] r).2 (.inl g))
    .rintro(q|⟨k,g1,g2⟩)
     .exact .inl (.inl q)
     .have g2:r∈Ib (if k=BH c i then s.wait k++[i]else s.wait k):=g2;split at g2
      .rcases(Nd _ _ _).1 g2 with g|g
       .exact .inl (.inr ⟨k,g1,g⟩)
       .rcases(Gq i [] r).1 g with g|g
        .exact .inr g
        .cases g
      .exact .inl (.inr ⟨k,g1,g2⟩)
   .show O1 (· ∈(Bn ⟨[],[]⟩ s.left).set) (if q=BH c i then s.wait q++[i]else s.wait q);split
    .rename_i e;refine(h.rd q hq).snoc fun r hr=>?_;rcases(h.set_ r.toNat).1 (k4 r hr)with g|⟨k,g1,g2⟩
     .exact .inl g
     ·--what a waiting instruction sets is a vector of its own parameter
      obtain⟨w,hw1,hw2⟩:=List.mem_map.1 (show r.toNat∈(List.filter Ah (s.wait k)).map fun i=>i.d.toNat from g2);obtain⟨hw3,hw4⟩:=List.mem_filter.1 hw1;obtain⟨w1,w2,w3⟩:=hw k w hw3;have e1:r=w.d:=by rw[E5 hi hr,(Gb w1 hw4).1,hw2]
      rw[EF hw4,<-e1]at w3;rcases Hv hi hm hr with t|t
      .rw[t,m1]at w3;simp only[Ty.mk.injEq]at w3;have:k=q:=oM;subst this;exact .inr g2
      .rw[w3]at t;exact absurd t (by show¬ (3:Int)=1;decide)
    .exact h.rd q hq
  .rw[if_neg hm];have fl:=h.flush hw;have noW:∀p,p<c.sign.length->(A9 Bc s c.sign.length).wait p=[]:=fun p hp=>by rw[Dn,if_pos ⟨hp,rfl⟩]
   by_cases o2:i.op=34
   .rw[if_pos o2];have f:=fl Bc c.sign.length (gF _);have dp:(A9 Bc s c.sign.length).dep=s.dep:=Du _;generalize A9 Bc s c.sign.length=t at f noW dp;have sets:∀r,r∈x.set↔r∈(Bn ⟨[],[]⟩ t.left).set:=fun r=>(f.set_ r).trans ⟨fun q=>q.elim id fun⟨p,g1,g2⟩=>(by rw[noW p g1]at g2;cases g2),.inl⟩;unfold Al at k3;rw[if_pos (.inl o2)]at k3;simp only[Bool.and_eq_true,Bool.not_eq_true',decide_eq_true_eq]at k3;have ho:Cr x=x.opens:=by unfold Cr;rw[k3.1,if_neg dE]
    have hops:=f.ops;rw[ho]at hops;have hlen:=hops.len;generalize hy:Bn ⟨[],[]⟩ t.left=y at hops hlen sets;have hin:Ao y=false:=by have:=hops.noLoop y.set;exact this
    have tk':Am c y i=true:=by
     unfold Am;rw[k1,k2];have e3:Al c y i (A3 i.op)=true:=by
      unfold Al;rw[if_pos (.inl o2),hin];simp only[Bool.not_false,Bool.true_and,decide_eq_true_eq];omega
     exact Zfj
    have e34:∀z:Wk,Ad z i=⟨z.set,⟨false,i.n,z.set.length⟩::z.opens⟩:=fun z=>by
     unfold Ad CT BG;rw[if_pos (.inl o2)];unfold CN;rw[if_neg (fun q=>q.1 (by rw[o2];decide)),o2];rfl
    have er:Bn ⟨[],[]⟩ (I8 t i (s.dep+1)).left=Ad y i:=by
     show Bn ⟨[],[]⟩ (t.left++[i])=_;rw[CZ,hy];rfl
    refine⟨?_,?_,fun r=>?_,fun q hq=>?_,?_,?_⟩
    .exact Zfg
    .rw[er,e34,e34];show Ri x.set y.set (Cr ⟨x.set,⟨false,i.n,x.set.length⟩::x.opens⟩) _;have:Cr ⟨x.set,⟨false,i.n,x.set.length⟩::x.opens⟩=⟨false,i.n,x.set.length⟩::x.opens:=by unfold Cr;rw[if_neg (by show¬false=true;decide)]
     rw[this];refine .cons rfl rfl (gF _) (gF _) ?_ ?_
     .simp only[List.take_length];exact sets
     .simp only[List.take_length];exact hops
    .rw[er,e34,e34];show r∈x.set↔r∈y.set\/_;rw[sets];exact⟨.inl,fun q=>q.elim id fun⟨p,g1,g2⟩=>by
      have g2:r∈Ib (t.wait p):=g2
      rw[noW p g1]at g2;cases g2⟩
    .show O1 _ (t.wait q);rw[noW q hq];trivial
    .rw[er,e34];show s.dep+1=(⟨false,i.n,y.set.length⟩::y.opens).length;have h8:=f.dep;rw[hy,dp]at h8;rw[h8];rfl
    .show s.dep+1<=64;have h8:=f.dep;rw[hy,dp]at h8;omega
   .rw[if_neg o2];by_cases o3:i.op=35
    .rw[if_pos o3];have f:=fl Bc c.sign.length (gF _);have dp:(A9 Bc s c.sign.length).dep=s.dep:=Du _;generalize A9 Bc s c.sign.length=t at f noW dp;have sets:∀r,r∈x.set↔r∈(Bn ⟨[],[]⟩ t.left).set:=fun r=>(f.set_ r).trans ⟨fun q=>q.elim id fun⟨p,g1,g2⟩=>(by rw[noW p g1]at g2;cases g2),.inl⟩;unfold Al at k3;rw[if_neg oM,if_pos o3]at k3;simp only[Bool.and_eq_true,Bool.not_eq_true']at k3;have ho:Cr x=x.opens:=by unfold Cr;rw[k3.2,if_neg dE]
     have hops:=f.ops;rw[ho]at hops;have h8:=f.dep;have hle:=f.le;rw[dp]at h8 hle;generalize hy:Bn ⟨[],[]⟩ t.left=y at hops sets h8;obtain⟨X,O⟩:=x;obtain⟨X',O'⟩:=y;cases hops with
     |nil=>cases k3.1
     |@cons _ _ b b' O O' g1 g2 g3 g4 g5 g6=>
      have e35:∀ (X:List Nat) (b:Bk) (O:List Bk),b.loop=false->Ad ⟨X,b::O⟩ i=⟨X.take b.ahead,O⟩:=fun X b O hb=>by
       unfold Ad CT BG;rw[if_neg oM,if_pos (.inl o3)];unfold CN;rw[if_neg (fun q=>q.1 (by rw[o3];decide))];unfold AI;simp[hb]
      have tk':Am c ⟨X',b'::O'⟩ i=true:=by
       unfold Am;rw[k1,k2];have e3:Al c ⟨X',b'::O'⟩ i (A3 i.op)=true:=by
        unfold Al;rw[if_neg oM,if_pos o3];show(true&& !b'.loop)=true;rw[g2];rfl
       exact Zfj
      have er:Bn ⟨[],[]⟩ (I8 t i (s.dep-1)).left=⟨X'.take b'.ahead,O'⟩:=by
       show Bn ⟨[],[]⟩ (t.left++[i])=_;rw[CZ,hy];show Ad _ i=_;exact e35 X' b' O' g2
      refine⟨?_,?_,fun r=>?_,fun q hq=>?_,?_,?_⟩
      .show AK c ⟨[],[]⟩ (t.left++[i])=true;rw[Bt,f.tk,hy];show(true&&(Am c _ i&&true))=true;rw[tk'];rfl
      .rw[er,e35 X b O g1];have:Cr ⟨X.take b.ahead,O⟩=O:=by
        have:Ao ⟨X.take b.ahead,O⟩=false:=g6.noLoopL _;unfold Cr;rw[this,if_neg dE]
       rw[this];exact g6
      .rw[er,e35 X b O g1];show r∈X.take b.ahead↔r∈X'.take b'.ahead\/_;rw[g5];exact⟨.inl,fun q=>q.elim id fun⟨p,q1,q2⟩=>by
        have q2:r∈Ib (t.wait p):=q2
        rw[noW p q1]at q2;cases q2⟩
      .show O1 _ (t.wait q);rw[noW q hq];trivial
      .rw[er];show s.dep-1=O'.length;rw[h8];rfl
      .show s.dep-1<=64;omega
    .rw[if_neg o3];have f:=fl (fun ws=>Db c ws i) c.sign.length (gF _);have dp:(A9 (fun ws=>Db c ws i) s c.sign.length).dep=s.dep:=Du _;have wt:∀p,p<c.sign.length->(A9 (fun ws=>Db c ws i) s c.sign.length).wait p=if Db c (s.wait p) i=true then [] else s.wait p:=fun p hp=>by
      rw[Dn];by_cases hb:Db c (s.wait p) i=true
      .rw[if_pos ⟨hp,hb⟩,if_pos hb]
      .rw[if_neg (fun q=>hb q.2),if_neg hb]
     generalize A9 (fun ws=>Db c ws i) s c.sign.length=t at f dp wt;have h8:=f.dep;have hops:=f.ops;have hset:=f.set_;have hrd:=f.rd;generalize hy:Bn ⟨[],[]⟩ t.left=y at hops hset h8 hrd;obtain⟨s1,⟨Y,s2⟩,s3⟩:=G5 (x:=x) (i:=i) oM oM;obtain⟨u1,⟨Z,u2⟩,u3⟩:=G5 (x:=y) (i:=i) oM oM;have tk':Am c y i=true:=by
      unfold Am;rw[k1,k2];have e3:Al c y i (A3 i.op)=true:=by
       unfold Al;rw[if_neg oM,if_neg oM,if_neg oM];have:=hops.noLoop y.set;rw[show Ao y=false from this];rfl
      rw[e3];simp only[Bool.true_and];unfold Dc;rw[List.all_eq_true];refine fun r hr=>?_;have h7:r.toNat∈y.set:=by
       rcases(hset _).1 (k4 r hr)with g|⟨p,g1,g2⟩
       .exact g
       .rw[wt p g1]at g2;split at g2
        .cases g2
        .rename_i hb;exfalso;refine hb ?_;unfold Db;rw[Bool.or_eq_true];exact .inl (List.any_eq_true.2 ⟨r,hr,by simpa using g2⟩)
      simpa using h7
     have er:Bn ⟨[],[]⟩ (I8 t i s.dep).left=Ad y i:=by
      show Bn ⟨[],[]⟩ (t.left++[i])=_;rw[CZ,hy];rfl
     refine⟨?_,?_,fun r=>?_,fun q hq=>?_,?_,h.le⟩
     .exact Zfg
     .rw[er,s2,u2,u1,KP s1];exact hops.grow Y Z
     .rw[er,s3,u3,hset];show _↔_\/∃p,p<c.sign.length/\r∈Ib (t.wait p);constructor
      .rintro((q|q)|q)
       .exact .inl (.inl q)
       .exact .inr q
       .exact .inl (.inr q)
      .rintro((q|q)|q)
       .exact .inl (.inl q)
       .exact .inr q
       .exact .inl (.inr q)
     .rw[er];show O1 _ (t.wait q);exact(hrd q hq).mono fun y' hy'=>(u3 y').2 (.inl hy')
     .rw[er,u1];show s.dep=_;rw[<-h8,dp]
end
section
variable {c : Cd} {G P : List (List Int)} {i w : Aa}
theorem J7{l:List Aa}{x:Wk}(h:AK c x l=true):∀i∈l,Bp c i:=by
 induction l generalizing x with
 |nil=>intro i hi;cases hi
 |cons a l ih=>
  rw[Hy]at h;simp only[Bool.and_eq_true]at h;intro i hi;rcases List.mem_cons.1 hi with e|e
  .subst e;obtain⟨k1,k2,-,-⟩:=Ar h.1;exact⟨k1,k2⟩
  .exact ih h.2 i e
theorem ZZ(c:Cd):PB c ⟨[],[]⟩ GF:=⟨rfl,.nil,fun r=>⟨fun h=>Zhx,fun h=>h.elim (fun q=>(by cases q)) (fun⟨p,_,q⟩=>(by cases q))⟩,fun p _=>trivial,rfl,gI _⟩
theorem SA(ht:Aj c=true)(l:List Aa):AK c ⟨[],[]⟩ l=true->I1 c (CG c l).wait/\PB c (Bn ⟨[],[]⟩ l) (CG c l):=by
 refine DK (Q:=fun l=>AK c ⟨[],[]⟩ l=true->I1 c (CG c l).wait/\PB c (Bn ⟨[],[]⟩ l) (CG c l)) ?_ ?_ l
 .intro _;exact⟨fun p w hw=>(by cases hw),ZZ c⟩
 .intro l i ih h;rw[Bt]at h;simp only[Bool.and_eq_true]at h;obtain⟨h1,h2⟩:=ih h.1;have h3:Am c (Bn ⟨[],[]⟩ l) i=true:=by
   have h4:=h.2;exact Zfb
  obtain⟨k1,k2,-,-⟩:=Ar h3;rw[EE,CZ];exact⟨Lw ht ⟨k1,k2⟩ h1,h2.take ht h1 h3⟩
theorem Qi(ht:Aj c=true)(h:AK c ⟨[],[]⟩ c.list=true)(ho:(Bn ⟨[],[]⟩ c.list).opens.isEmpty=true):AK c ⟨[],[]⟩ (BK c)=true/\(Bn ⟨[],[]⟩ (BK c)).opens.isEmpty=true:=by
 obtain⟨h1,h2⟩:=SA ht c.list h;have f:=h2.flush h1 Bc c.sign.length (gF _);refine⟨f.tk,?_⟩;have h3:=f.ops;rw[List.isEmpty_iff]at ho;have e:Cr (Bn ⟨[],[]⟩ c.list)=[]:=by
  unfold Cr;rw[ho];split<;>rfl
 rw[e]at h3;have:=h3.len;rw[List.isEmpty_iff];exact List.eq_nil_of_length_eq_zero this.symm
theorem Dr(h:Ct c=0):Aj c=true:=by
 unfold Ct at h;split at h
 .rename_i q;exact absurd h q
 .split at h
  .cases h
  .split at h
   .cases h
   .split at h
    .rename_i q;simp only[Bool.and_eq_true]at q;exact q.1
    .cases h
theorem SS{x:List Aa}(h:Ct c=0)(hl:x.length<=32768):Ct ⟨c.sign,c.regs,c.slots,x⟩=0:=by
 unfold Ct at h |-;split at h
 .rename_i q;exact absurd h q
 .rename_i q;rw[if_neg q];split at h
  .cases h
  .rename_i q1;rw[if_neg (by simp only;omega)];exact h
theorem Ie(hc:(At c).1=0):(At (Bd c)).1=0:=by
 unfold Bd;split
 .exact hc
 .rename_i hl;obtain⟨h1,h2,h3⟩:=D4.1 hc;obtain⟨g1,g2⟩:=Qi (Dr h1) h2 h3;exact D4.2 ⟨SS h1 oM,(Jv c (BK c) (BK c) ⟨[],[]⟩).trans g1,g2⟩
theorem Tt(hc:(At c).1=0)(hk:Bb c)(canE:∀ (l:List Hd) (G P:List (List Int)),GJ c l->Jx l->Fl G->Fl P->DU c G P=true->Jx (Eo c l G P).slots):I5 c (Bd c):=by
 obtain⟨h1,h2,h3⟩:=D4.1 hc;unfold Bd;split
 .exact⟨rfl,rfl,fun l G P a b d e f=>⟨rfl,rfl,canE l G P a b d e f⟩⟩
 .refine⟨rfl,rfl,fun l G P a b d e f=>?_⟩;have Bl:=YU (G:=G) (P:=P) (Dr h1) (J7 h2) (B8 c l,0);have e1:Eo ⟨c.sign,c.regs,c.slots,BK c⟩ l G P=(En c G P (B8 c l,0) (BK c)).1:=by
   unfold Eo;have e9:B8 ⟨c.sign,c.regs,c.slots,BK c⟩ l=B8 c l:=by unfold B8;rw[IN]
   rw[e9];rfl
  rw[e1];refine⟨Bl.2.sl,?_,canE l G P a b d e f⟩;unfold Gg;rw[Bl.2.ou];rfl
def BJ(l:List Aa):List Aa:=l.filter fun i=> !E1 i
theorem DG(a b:List Aa):BJ (a++b)=BJ a++BJ b:=by unfold BJ;rw[List.filter_append]
theorem JG{l:List Aa}(h:∀i∈l,E1 i=false):BJ l=l:=by
 unfold BJ;exact List.filter_eq_self.2 fun i hi=>by rw[h i hi];rfl
theorem Mk(h:AW c i=true):E1 i=false:=by
 have:=CS (ED h);unfold E1;simp only[Bool.or_eq_false_iff,beq_eq_false_iff_ne];exact⟨oM,oM⟩
theorem LX{d p:Nat}{ws:List Aa}(h:∀w∈ws,AW c w=true):BJ (Be d p ws)=ws:=by
 have hb:BJ ws=ws:=JG fun w hw=>Mk (h w hw);unfold Be;split
 .rename_i e;rw[e];rfl
 .split
  .exact hb
  .show BJ ([AY p]++(ws++[Bw]))=ws;rw[DG,DG,hb];show []++(ws++[])=ws;simp
def LR(c:Cd)(l:List Aa)(s:Fz):Prop:=(BJ s.left++B9 s.wait c.sign.length).Perm (BJ l)
theorem LR.write{l:List Aa}{s:Fz}(hw:I1 c s.wait)(h:LR c l s){p:Nat}(hp:p<c.sign.length):LR c l (Ba s p):=by
 obtain⟨A,B,h1,h2,-⟩:=DB (wt:=s.wait) (p:=p) hp;unfold LR at h |-;have e:B9 (Ba s p).wait c.sign.length=A++B:=by have:=h1 [];rw[List.nil_append]at this;exact this
 rw[e];rw[h2]at h;show(BJ (s.left++Be s.dep p (s.wait p))++(A++B)).Perm _;rw[DG,LX (c:=c) (fun w hw'=>(hw p w hw').2.1),List.append_assoc];refine(List.Perm.append_left _ ?_).trans h;rw[<-List.append_assoc,<-List.append_assoc];exact List.Perm.append_right _ List.perm_append_comm
theorem LR.flush{l:List Aa}{s:Fz}(hw:I1 c s.wait)(h:LR c l s)(q:List Aa->Bool):∀m,m<=c.sign.length->LR c l (A9 q s m)
 |0,_=>h
 |m+1,hm=>by
  have ih:=h.flush hw q m oM;show LR c l (if q ((A9 q s m).wait m)=true then Ba (A9 q s m) m else A9 q s m);split
  .exact ih.write (CJ hw m) oM
  .exact ih
theorem LR.app{l:List Aa}{s:Fz}(h:LR c l s)(hm:E1 i=false)(d:Nat):LR c (l++[i]) (I8 s i d):=by
 unfold LR at h |-;show(BJ (s.left++[i])++B9 s.wait c.sign.length).Perm (BJ (l++[i]));rw[DG,DG,JG (l:=[i]) (fun x hx=>by simp only[List.mem_singleton]at hx;rw[hx];exact hm),List.append_assoc];refine(List.Perm.append_left _ List.perm_append_comm).trans ?_;rw[<-List.append_assoc];exact List.Perm.append_right _ h
theorem LR.take{l:List Aa}{s:Fz}(ht:Aj c=true)(hi:Bp c i)(hw:I1 c s.wait)(h:LR c l s):LR c (l++[i]) (Ce c s i):=by
 unfold Ce;by_cases o1:i.op=36\/i.op=37
 .rw[if_pos o1];have hm:E1 i=true:=by unfold E1;rcases o1 with e|e<;>(rw[e];rfl)
  unfold LR at h |-;rw[DG,show BJ [i]=[] by unfold BJ;simp[hm],List.append_nil];exact h
 .rw[if_neg o1];have hmk:E1 i=false:=by unfold E1;simp only[Bool.or_eq_false_iff,beq_eq_false_iff_ne];exact⟨fun e=>o1 (.inl e),fun e=>o1 (.inr e)⟩
  by_cases hm:AW c i=true
  .rw[if_pos hm];obtain⟨m1,m2⟩:=Ft ht hi hm;obtain⟨A,B,g1,g2,-⟩:=DB (wt:=s.wait) (p:=BH c i) m2;unfold LR at h |-;rw[OR,g1,DG,JG (l:=[i]) (fun x hx=>by simp only[List.mem_singleton]at hx;rw[hx];exact hmk)];rw[g2]at h;show(BJ s.left++(A++(s.wait (BH c i)++[i]++B))).Perm _;refine List.Perm.trans ?_ (List.Perm.append_right [i] h);rw[List.append_assoc,List.append_assoc];refine List.Perm.append_left _ ?_;rw[List.append_assoc,List.append_assoc];refine List.Perm.append_left _ (List.Perm.append_left _ ?_);exact List.perm_append_comm
  .rw[if_neg hm];split
   .exact(h.flush hw Bc _ (gF _)).app hmk _
   .split
    .exact(h.flush hw Bc _ (gF _)).app hmk _
    .exact(h.flush hw _ _ (gF _)).app hmk _
theorem run_Pm(ht:Aj c=true)(l:List Aa):(∀i∈l,Bp c i)->I1 c (CG c l).wait/\LR c l (CG c l):=by
 refine DK (Q:=fun l=>(∀i∈l,Bp c i)->I1 c (CG c l).wait/\LR c l (CG c l)) ?_ ?_ l
 .intro _;refine⟨fun p w hw=>(by cases hw),?_⟩;show(BJ []++B9 (fun _=>[]) c.sign.length).Perm (BJ []);rw[FG (fun _ _=>rfl)];exact List.Perm.refl _
 .intro l i ih h;obtain⟨h1,h2⟩:=ih (fun x hx=>h x Ye);have hi:=h i sM;rw[EE];exact⟨Lw ht hi h1,h2.take ht hi h1⟩
end
def Hh(c:Cd)(x:Nat×Bool)(i:Aa):Nat×Bool:=
 let b:=if i.op=36 then true else if i.op=37 then false else x.2
 (if b=false/\AW c i=true then x.1+1 else x.1,b)
def Hr(c:Cd)(l:List Aa):Nat:=(l.foldl (Hh c) (0,false)).1
def Gv(x:Nat×Bool×Int)(i:Aa):Nat×Bool×Int:=
 if i.op=36 then(if x.2.1=true/\x.2.2=i.n then x.1+1 else x.1,false,i.n)else(x.1,i.op==37,x.2.2)
def nbN(l:List Aa):Nat:=(l.foldl Gv (0,false,-1)).1
def Dp(l:List Aa):Nat:=(l.filter fun i=>i.op==36).length
def D8(c:Cd)(l:List Aa):Nat:=(l.filter fun i=>AW c i).length
def K7(x:Int×Int)(i:Aa):Int×Int:=
 let n:=if i.op=34 then x.1+1 else if i.op=35 then x.1-1 else x.1
 (n,max x.2 n)
def Od(l:List Aa):Int:=(l.foldl K7 (0,0)).2
section
variable {c : Cd} {i : Aa}
theorem Fu(h:AW c i=true):i.op≠34/\i.op≠35/\i.op≠36/\i.op≠37:=by
 have:=CS (ED h);omega
theorem Qs(c:Cd)(p:Nat):AW c (AY p)=false:=by
 cases h:AW c (AY p)with
 |false=>rfl
 |true=>exact absurd rfl (Fu h).2.2.1
theorem Kr(c:Cd):AW c Bw=false:=by
 cases h:AW c Bw with
 |false=>rfl
 |true=>exact absurd rfl (Fu h).2.2.2
theorem ls_in:∀ (ws:List Aa) (n:Nat),(∀w∈ws,AW c w=true)->ws.foldl (Hh c) (n,true)=(n,true)
 |[],n,_=>rfl
 |w::ws,n,h=>by
  obtain⟨-,-,h1,h2⟩:=Fu (h w sM);have e:Hh c (n,true) w=(n,true):=by
   unfold Hh;simp only[if_neg h1,if_neg h2];rw[if_neg (fun q=>by cases q.1)]
  rw[List.foldl_cons,e];exact ls_in ws n fun x hx=>h x Ye
theorem Ze{d p:Nat}{ws:List Aa}(h:∀w∈ws,AW c w=true)(hd:d≠64)(n:Nat):(Be d p ws).foldl (Hh c) (n,false)=(n,false):=by
 unfold Be;split
 .rfl
 .try rw[if_neg hd]
  rw[List.foldl_cons,List.foldl_append];have e:Hh c (n,false) (AY p)=(n,true):=by
   unfold Hh;simp only[show(AY p).op=36 from rfl,if_true];rw[if_neg (fun q=>by cases q.1)]
  rw[e,ls_in ws n h];show Hh c (n,true) Bw=_;unfold Hh;simp only[show Bw.op=37 from rfl,show¬ ((37:Int)=36) by decide,if_false,if_true];rw[if_neg (fun q=>by rw[Kr]at q;cases q.2)]
theorem nb_in:∀ (ws:List Aa) (k:Int),(∀w∈ws,AW c w=true)->ws.foldl Gv (0,false,k)=(0,false,k)
 |[],k,_=>rfl
 |w::ws,k,h=>by
  obtain⟨-,-,h1,h2⟩:=Fu (h w sM);have e:Gv (0,false,k) w=(0,false,k):=by
   unfold Gv;rw[if_neg h1];simp[h2]
  rw[List.foldl_cons,e];exact nb_in ws k fun x hx=>h x Ye
def Y8(l:List Aa)(m:Nat):Prop:=(l.foldl Gv (0,false,-1)).1=0/\((l.foldl Gv (0,false,-1)).2.1=true->∃k:Nat,(l.foldl Gv (0,false,-1)).2.2=(k:Int)/\k<m)
theorem Y8.mono{l:List Aa}{m n:Nat}(h:Y8 l m)(hm:m<=n):Y8 l n:=⟨h.1,fun q=>by obtain⟨k,h1,h2⟩:=h.2 q;exact⟨k,h1,oM⟩⟩
theorem Y8.wrap{l ws:List Aa}{d p:Nat}(h:Y8 l p)(hw:∀w∈ws,AW c w=true)(hd:d≠64):Y8 (l++Be d p ws) (p+1):=by
 unfold Be;split
 .rw[List.append_nil];exact h.mono (Nat.le_succ _)
 .try rw[if_neg hd]
  have e:(l++AY p::(ws++[Bw])).foldl Gv (0,false,-1)=(0,true,(p:Int)):=by
   rw[List.foldl_append,List.foldl_cons,List.foldl_append];have e1:Gv (l.foldl Gv (0,false,-1)) (AY p)=(0,false,(p:Int)):=by
    obtain⟨h0,h9⟩:=h;obtain⟨r,hr⟩:=gA (l.foldl Gv (0,false,-1))
    rw[hr]at h0 h9 |-;unfold Gv;rw[if_pos (show(AY p).op=36 from rfl),if_neg (fun q=>by
     obtain⟨k,h1,h2⟩:=h9 q.1;have h3:=q.2;rw[h1]at h3;have h4:(k:Int)=(p:Int):=h3
     omega),h0]
    rfl
   rw[e1,nb_in ws _ hw];rfl
  refine⟨by rw[e],fun _=>⟨p,by rw[e],Nat.lt_succ_self p⟩⟩
theorem Y8.app{l:List Aa}{m:Nat}(h:Y8 l m)(h1:i.op≠36)(h2:i.op≠37):Y8 (l++[i]) 0:=by
 have e:(l++[i]).foldl Gv (0,false,-1)=(0,false,(l.foldl Gv (0,false,-1)).2.2):=by
  rw[List.foldl_append];have h0:=h.1;obtain⟨r,hr⟩:=gA (l.foldl Gv (0,false,-1))
  rw[hr]at h0 |-;show Gv r i=_;unfold Gv;rw[if_neg h1,h0];simp[h2]
 exact⟨by rw[e],fun q=>by rw[e]at q;cases q⟩
theorem GS(a b:List Aa):Dp (a++b)=Dp a+Dp b:=by unfold Dp;rw[List.filter_append,List.length_append]
theorem I6(c:Cd)(a b:List Aa):D8 c (a++b)=D8 c a+D8 c b:=by unfold D8;rw[List.filter_append,List.length_append]
theorem V6{ws:List Aa}(h:∀w∈ws,AW c w=true):D8 c ws=ws.length/\Dp ws=0:=by
 refine⟨?_,?_⟩
 .unfold D8;rw[List.filter_eq_self.2 h]
 .unfold Dp;rw[List.length_eq_zero_iff,List.filter_eq_nil_iff];intro w hw;have:=(Fu (h w hw)).2.2.1;simpa using this
theorem SR{ws:List Aa}(h:∀w∈ws,AW c w=true)(d p:Nat):Dp (Be d p ws)<=D8 c (Be d p ws)/\(Be d p ws).length<=3*(BJ (Be d p ws)).length:=by
 obtain⟨e1,e2⟩:=V6 h;have eb:=LX (d:=d) (p:=p) h;rw[eb];unfold Be;split
 .exact⟨gI _,gI _⟩
 .rename_i hne;have hpos:0<ws.length:=List.length_pos_iff.2 hne;split
  .exact⟨by rw[e2];exact gI _,oM⟩
  .refine⟨?_,?_⟩
   .have a1:Dp (AY p::(ws++[Bw]))=1:=by
     rw[show AY p::(ws++[Bw])=[AY p]++(ws++[Bw])from rfl,GS,GS,e2];rfl
    have a2:D8 c (AY p::(ws++[Bw]))=ws.length:=by
     rw[show AY p::(ws++[Bw])=[AY p]++(ws++[Bw])from rfl,I6,I6,e1];have z1:D8 c [AY p]=0:=by unfold D8;simp[Qs]
     have z2:D8 c [Bw]=0:=by unfold D8;simp[Kr]
     omega
    omega
   .rw[List.length_cons,List.length_append];simp only[List.length_cons,List.length_nil];omega
structure LD(c:Cd)(m:Nat)(s:Fz):Prop where
 ls:s.left.foldl (Hh c) (0,false)=(0,false)
 nb:Y8 s.left m
 lp:Dp s.left<=D8 c s.left
 len:s.left.length<=3*(BJ s.left).length
theorem LD.zero(c:Cd):LD c 0 GF:=⟨rfl,⟨rfl,fun h=>by cases h⟩,gI _,gI _⟩
theorem LD.mono{s:Fz}{m n:Nat}(h:LD c m s)(hm:m<=n):LD c n s:=⟨h.ls,h.nb.mono hm,h.lp,h.len⟩
theorem LD.write{s:Fz}{p:Nat}(h:LD c p s)(hw:I1 c s.wait)(hd:s.dep≠64):LD c (p+1) (Ba s p):=by
 have hm:∀w∈s.wait p,AW c w=true:=fun w hx=>(hw p w hx).2.1;obtain⟨a1,a2⟩:=SR hm s.dep p;refine⟨?_,h.nb.wrap hm hd,?_,?_⟩
 .show(s.left++Be s.dep p (s.wait p)).foldl (Hh c) (0,false)=_;rw[List.foldl_append,h.ls];exact Ze hm hd 0
 .show Dp (s.left++Be s.dep p (s.wait p))<=D8 c (s.left++Be s.dep p (s.wait p));rw[GS,I6];have:=h.lp;omega
 .show(s.left++Be s.dep p (s.wait p)).length<=3*(BJ (s.left++Be s.dep p (s.wait p))).length;rw[DG,List.length_append,List.length_append];have:=h.len;omega
theorem LD.flush{s:Fz}(h:LD c 0 s)(hw:I1 c s.wait)(hd:s.dep≠64)(q:List Aa->Bool):∀m,LD c m (A9 q s m)
 |0=>h
 |m+1=>by
  have ih:=LD.flush h hw hd q m;unfold A9;split
  .exact ih.write (CJ hw m) (by rw[Du];exact hd)
  .exact ih.mono (Nat.le_succ _)
theorem LD.app{s:Fz}{m:Nat}(h:LD c m s)(hm:AW c i=false)(h1:i.op≠36)(h2:i.op≠37)(d:Nat):LD c 0 (I8 s i d):=by
 refine⟨?_,h.nb.app h1 h2,?_,?_⟩
 .show(s.left++[i]).foldl (Hh c) (0,false)=_;rw[List.foldl_append,h.ls];show Hh c (0,false) i=_;unfold Hh;simp only[if_neg h1,if_neg h2];rw[if_neg (fun q=>by rw[hm]at q;cases q.2)]
 .show Dp (s.left++[i])<=D8 c (s.left++[i]);rw[GS,I6];have z:Dp [i]=0:=by unfold Dp;simp[h1]
  have:=h.lp;omega
 .show(s.left++[i]).length<=3*(BJ (s.left++[i])).length;have z:BJ [i]=[i]:=JG fun x hx=>by
   simp only[List.mem_singleton]at hx;subst hx;unfold E1;simp[h1,h2]
  rw[DG,z,List.length_append,List.length_append];have:=h.len;simp only[List.length_cons,List.length_nil];omega
theorem LD.take{s:Fz}(h:LD c 0 s)(hw:I1 c s.wait)(hd:s.dep≠64):LD c 0 (Ce c s i):=by
 unfold Ce;by_cases o1:i.op=36\/i.op=37
 .rw[if_pos o1];exact h
 .rw[if_neg o1];cases hm:AW c i with
  |true=>rw[if_pos rfl];exact⟨h.ls,h.nb,h.lp,h.len⟩
  |false=>
   rw[if_neg dE];split
   .exact(h.flush hw hd Bc _).app hm oM oM _
   .split
    .exact(h.flush hw hd Bc _).app hm oM oM _
    .exact(h.flush hw hd _ _).app hm oM oM _
theorem YI{x:Wk}{s:Fz}(h:PB c x s):s.dep=(Cr x).length:=by rw[h.dep,<-h.ops.len]
theorem Pm{x:Wk}{s:Fz}(h:PB c x s)(tk:Am c x i=true):((Ce c s i).dep:Int)=if i.op=34 then(s.dep:Int)+1 else if i.op=35 then(s.dep:Int)-1 else(s.dep:Int):=by
 obtain⟨k1,k2,k3,k4⟩:=Ar tk;unfold Ce;by_cases o1:i.op=36\/i.op=37
 .rw[if_pos o1,if_neg oM,if_neg oM]
 .rw[if_neg o1];cases hm:AW c i with
  |true=>
   obtain⟨a1,a2,-,-⟩:=Fu hm;rw[if_pos rfl,if_neg a1,if_neg a2];rfl
  |false=>
   rw[if_neg dE];by_cases o2:i.op=34
   .rw[if_pos o2,if_pos o2];show((s.dep+1:Nat):Int)=_;omega
   .rw[if_neg o2,if_neg o2];by_cases o3:i.op=35
    .rw[if_pos o3,if_pos o3];have hp:0<s.dep:=by
      unfold Al at k3;rw[if_neg oM,if_pos o3]at k3;simp only[Bool.and_eq_true,Bool.not_eq_true',List.isEmpty_eq_false_iff]at k3;rw[YI h];unfold Cr;rw[k3.2,if_neg dE];exact List.length_pos_iff.2 k3.1
     show((s.dep-1:Nat):Int)=_;omega
    .rw[if_neg o3,if_neg o3];rfl
theorem run_L(ht:Aj c=true)(l:List Aa):AK c ⟨[],[]⟩ l=true->(l.foldl K7 (0,0)).2<64->((CG c l).dep:Int)=(l.foldl K7 (0,0)).1/\(l.foldl K7 (0,0)).1<=(l.foldl K7 (0,0)).2/\LD c 0 (CG c l):=by
 refine DK (Q:=fun l=>AK c ⟨[],[]⟩ l=true->(l.foldl K7 (0,0)).2<64->((CG c l).dep:Int)=(l.foldl K7 (0,0)).1/\(l.foldl K7 (0,0)).1<=(l.foldl K7 (0,0)).2/\LD c 0 (CG c l)) (fun _ _=>⟨rfl,dE,LD.zero c⟩) (fun l i ih h hd=>?_) l;have hsp:AK c ⟨[],[]⟩ l=true/\Am c (Bn ⟨[],[]⟩ l) i=true:=by
  rw[Bt]at h;simp only[Bool.and_eq_true]at h;refine⟨h.1,?_⟩;have h4:=h.2;exact Zfb
 have hf:(l++[i]).foldl K7 (0,0)=K7 (l.foldl K7 (0,0)) i:=by rw[List.foldl_append];rfl
 rw[hf]at hd |-;obtain⟨⟨n,m⟩,hx⟩:∃x,l.foldl K7 (0,0)=x:=⟨_,rfl⟩
 rw[hx]at ih hd |-;have hm2:m<64:=by
  have:m<=(K7 (n,m) i).2:=Int.le_max_left _ _;omega
 obtain⟨i1,i2,i3⟩:=ih hsp.1 hm2;obtain⟨w1,w2⟩:=SA ht l hsp.1;have hdep:(CG c l).dep≠64:=fun e=>by
  rw[e]at i1;simp only at i1 i2;omega
 rw[EE];refine⟨?_,Int.le_max_right _ _,i3.take w1 hdep⟩;rw[Pm w2 hsp.2];simp only at i1;rw[i1];rfl
theorem LS(c:Cd)(l:List Aa):D8 c (BJ l)=D8 c l:=by
 unfold D8 BJ;rw[List.filter_filter];congr 1;refine List.filter_congr fun i _=>?_;cases h:AW c i with
 |false=>rfl
 |true=>
  have:=Mk h;simp[this]
theorem SQ{a b:List Aa}(h:a.Perm b):D8 c a=D8 c b:=(h.filter _).length_eq
theorem TI(c:Cd)(i:Aa):AW (Bd c) i=AW c i:=by
 unfold Bd;split<;>rfl
theorem Qg(hc:(At c).1=0)(hb:(BJ c.list).length<=10922)(hd:Od c.list<64):(Bd c).list=BK c/\Hr c (BK c)=0/\nbN (BK c)=0/\Dp (BK c)<=D8 c c.list:=by
 obtain⟨h1,h2,h3⟩:=D4.1 hc;have ht:=Dr h1;obtain⟨d1,d2,d3⟩:=run_L ht c.list h2 hd;obtain⟨w1,w2⟩:=SA ht c.list h2;have hdep:(CG c c.list).dep≠64:=fun e=>by
  rw[e]at d1;unfold Od at hd;omega
 have f:LD c c.sign.length (A9 Bc (CG c c.list) c.sign.length):=d3.flush w1 hdep Bc _;have hpm:(BJ (BK c)).Perm (BJ c.list):=by
  obtain⟨-,p2⟩:=run_Pm ht c.list (J7 h2);have p3:=p2.flush w1 Bc c.sign.length (gF _);unfold LR at p3;rw[GN,List.append_nil]at p3;exact p3
 have hlen:(BK c).length<=32768:=by
  have e:=hpm.length_eq;have l:=f.len;have l':(BK c).length<=3*(BJ (BK c)).length:=l;omega
 refine⟨?_,?_,f.nb.1,?_⟩
 .unfold Bd;rw[if_neg oM]
 .unfold Hr;have e:(BK c).foldl (Hh c) (0,false)=(0,false):=f.ls;rw[e]
 .have l:Dp (BK c)<=D8 c (BK c):=f.lp;rw[<-LS c (BK c),SQ hpm,LS]at l;exact l
end
section
open Go.Maps (Keyed)
def hRU:Value->Option (DataW Value×List MemPlace)
 | .agg a=>if a.size=0 then some (.held (.agg #[]),[])else none
 |_=>none
theorem VN{v:Value}{x:DataW Value×List MemPlace}(h:hRU v=some x):v=.agg #[]:=by
 unfold hRU at h;split at h
 .rename_i a;split at h
  .rename_i e;rw[Array.size_eq_zero_iff.1 e]
  .cases h
 .cases h
def DF(w:World)(b:Nat)(S:List Nat):Prop:=∃D:DataW Value,w.ownsMap prog 3 hRU b S.length D/\(∀k,Maps.has D (OF k)=decide (k∈S))/\Maps.size D=S.length
theorem TP{w:World}{k:TypeId}{R:Value->Option (DataW Value×List MemPlace)}{b n:Nat}{D:DataW Value}(h:w.ownsMap prog k R b n D):w.ownsMap prog k R b (Maps.size D) D:=by
 obtain⟨es,clock,hb,F,hs,rfl⟩:=h;exact⟨es,clock,hb,F,by simp[Maps.size,length_sorted],rfl⟩
theorem DF.new(w:World):DF (w.alloc (.map #[] 0)) w.heap.size []:=⟨_,World.ownsMap_made _ _ _ _,fun k=>rfl,rfl⟩
theorem DF.block{w w':World}{b:Nat}{S:List Nat}(h:DF w b S)(hb:w'.heap[b]? =w.heap[b]?):DF w' b S:=by
 obtain⟨D,⟨es,clock,h0,h1⟩,h2⟩:=h;exact⟨D,⟨es,clock,hb.trans h0,h1⟩,h2⟩
theorem DF.lt{w:World}{b:Nat}{S:List Nat}(h:DF w b S):b<w.heap.size:=by
 obtain⟨D,h1,_⟩:=h;exact h1.lt
theorem DF.below{w w':World}{b:Nat}{S:List Nat}(h:DF w b S)(k:Below w.heap.size w w'):DF w' b S:=h.block (k.block b h.lt)
theorem DF.obj{w:World}{b:Nat}{S:List Nat}(h:DF w b S):∃es clock,w.heap[b]? =some (.map es clock):=by
 obtain⟨D,⟨es,clock,h0,h1⟩,h2⟩:=h;exact⟨es,clock,h0⟩
theorem FF:prog.underlying 95=some (.map 3 131):=underlying95
theorem MV(w:World):(zeroValue 131).run prog w=.ok (.agg #[]) w:=by
 have h:(prog.info? 131).map (fun i=>(i.zero,i.size,i.bytes))=some (some (.agg #[]),0,0):=kR;obtain⟨i0,hi0,hz0,hz1,hz2⟩:=info_parts h;simp[zeroValue,typeInfo,hi0,hz0]
theorem DF.look{w:World}{b:Nat}{S:List Nat}(h:DF w b S){k:Nat}(hk:k<=4611686018427387904):
 (Instr.lookup 95 (.map (some b)) (.int .i64 (k:Int)) true).run prog w=.ok (.tuple #[.agg #[],.bool (decide (k∈S))]) w:=by
 obtain⟨D,h1,h2,h3⟩:=h;obtain⟨v,ps,hrun,hv⟩:=h1.look_ok YX FF (MV w) (zd:=.held (.agg #[])) (zp:=[]) (by simp[hRU]) (Ko hk);rw[hrun,VN hv,h2]
theorem NO(w:World){k:Nat}(hk:k<=4611686018427387904):(Instr.lookup 95 (.map none) (.int .i64 (k:Int)) true).run prog w=.ok (.tuple #[.agg #[],.bool false]) w:=by
 have h:=Maps.look_nil (w:=w) (P:=prog) true YX FF (MV w) (Ko hk);exact h
theorem DF.len{w:World}{b:Nat}{S:List Nat}(h:DF w b S)(ty:TypeId):(Builtin.len_ #[95] ty #[.map (some b)]).run prog w=.ok (.int .i64 (S.length:Int)) w:=by
 obtain⟨D,h1,h2,h3⟩:=h;rw[h1.len FF ty,h3]
theorem P9(w:World)(ty:TypeId):(Builtin.len_ #[95] ty #[.map none]).run prog w=.ok (.int .i64 0) w:=Maps.len_nil FF ty
theorem DF.put{w:World}{b:Nat}{S:List Nat}(h:DF w b S)(hn:S.length<1000000){k:Nat}(hk:k<=4611686018427387904):
 ∃w',(Instr.mapUpdate 95 (.map (some b)) (.int .i64 (k:Int)) (.agg #[])).run prog w=.ok () w'/\DF w' b (Ew S k)/\w.mapTurned w' b:=by
 obtain⟨D,h1,h2,h3⟩:=h;have hT:=h1.tidy YX;obtain⟨w',hrun,r1,r2⟩:=h1.store YX FF mL (Ko hk) (val:=.agg #[]) (d:=.held (.agg #[])) (ps:=[]) (by simp[hRU]);have hsz:Maps.size (D.put (OF k) (.held (.agg #[])))=(Ew S k).length:=by
  rw[Maps.size_put hT,h2,h3];unfold Ew;by_cases e:k∈S
  .simp[e]
  .simp[e]
 refine⟨w',hrun,⟨_,by have h9:=TP r1;rw[hsz]at h9;exact h9,fun j=>?_,hsz⟩,r2⟩;by_cases e:j=k
 .subst e;rw[Maps.has_put_same hT.isMap (isKeyI j)];unfold Ew;by_cases q:j∈S
  .simp[q]
  .simp[q]
 .rw[Maps.has_put_other (fun he=>e (VZ he)),h2];unfold Ew;by_cases q:k∈S
  .simp[q]
  .simp[q,e]
theorem IA{w w':World}{b B:Nat}(h:w.mapTurned w' b)(hB:B<=b)(hs:B<=w.heap.size):Below B w w':=(Below.refl B w).grown h.grown hs (fun q e=>by simp only[Option.some.injEq]at e;omega)
theorem IC{w w':World}{b:Nat}(h:w.mapTurned w' b):∀i,i<w.heap.size->i≠b->w'.heap[i]? =w.heap[i]? :=fun i hi hne=>h.grown.block i hi (fun e=>hne (Option.some.inj e))
end
theorem Zh{c:Cd}{i:Aa}{r:Nat}(hr:r<c.regs.length)(e:CC i (A3 i.op)=(r:Int)):Ak c.regs i (A3 i.op)=c.regs[r]:=by
 unfold Ak;rw[e];unfold A5 Az;rw[if_pos sO];simp[hr]
theorem OH{c:Cd}{i:Aa}(hi:Bp c i)(hl:AC i.op=true):∃r:Nat,r<c.regs.length/\CC i (A3 i.op)=(r:Int)/\((i.op=31\/i.op=33)->i.a=(r:Int))/\(¬ (i.op=31\/i.op=33)->i.d=(r:Int)):=by
 have o:=CS (i:=i) hl;by_cases e:i.op=31\/i.op=33
 .have hd:(A3 i.op).d=0:=by rcases e with q|q<;>(rw[q];decide)
  have ha:(A3 i.op).a≠0:=by rcases e with q|q<;>(rw[q];decide)
  have h9:=Af (BR hi.2) ha;refine⟨i.a.toNat,oM,?_,fun _=>by omega,fun q=>absurd e q⟩;unfold CC;rw[if_pos hd];omega
 .have hd:(A3 i.op).d≠0:=by
   obtain⟨n,en,h1,h2⟩:=Kp hi.1;rw[en]at o e |-;have Bl:∀n:Nat,n<38->((n:Int)=29\/(n:Int)=30\/(n:Int)=32\/(3<=(n:Int)/\(n:Int)<=15))->(A3 (n:Int)).d≠0:=dE;exact Bl n h2 oM
  have h9:=Af (Dh hi.2) hd;refine⟨i.d.toNat,oM,?_,fun q=>absurd q e,fun _=>by omega⟩;unfold CC;rw[if_neg hd];omega
theorem On(c:Cd)(i:Aa)(hi:Bp c i)(B C:Nat)(p1:Option Addr)(q1:Nat)(w:World)(hB:w.cell? ⟨B,0,none⟩=some (.pointer (some ⟨C,0,none⟩)))(hC:w.cell? ⟨C,1,none⟩=some (.slice p1 c.regs.length q1))(hr:AZ 2 I2 w (.slice p1 c.regs.length q1) c.regs):
 Calls prog 41 #[.pointer (some ⟨B,0,none⟩),BV i] w fun e w'=>∃q:Int,e=.returned (.tuple #[.int .i64 q,.bool (AW c i)])/\(AW c i=true->q=((BH c i:Nat):Int)\/q=(Ak c.regs i (A3 i.op)).par)/\Below w.heap.size w w':=by
 have KE:Hid (∀w,Calls prog 63 #[.int .i64 i.op] w fun e w'=>e=.returned (.bool (B3 i.op))/\w'=w):=Gc i.op;have HLR:=A8 (fun hl=>OH hi hl);have HMA:=A8 (fun(r:Nat) (h:r<c.regs.length) e=>Zh (i:=i) h e);have HML:Hid (AW c i=(AC i.op&&((Ak c.regs i (A3 i.op)).kind==3))):=rfl;have HPR:Hid (∀v,Below w.heap.size w v->AZ 2 I2 v (.slice p1 c.regs.length q1) c.regs):=fun v hb=>hr.below hb;obtain⟨ML,hML⟩:∃b,AW c i=b:=⟨_,rfl⟩
 obtain⟨MT,hMT⟩:∃t,Ak c.regs i (A3 i.op)=t:=⟨_,rfl⟩
 obtain⟨PZ,hPZ⟩:∃t,BH c i=t:=⟨_,rfl⟩
 rw[hML,hMT]at HML;simp only[hMT]at HMA;rw[hML,hMT,hPZ];clear hML hMT hPZ;obtain⟨N,hN⟩:=gA (c.regs.length)
 have HN:=A8 hN;rw[hN]at hC;simp only[hN]at HPR;obtain⟨op,d,a,b,e,n,z⟩:=i;unfold BV;simp only at KE HLR HML HMA |-;obtain⟨W0,hW0⟩:∃W,w.alloc (.cells #[.int .i64 op,.int .i64 d,.int .i64 a,.int .i64 b,.int .i64 e,.int .i64 n,.int .u32 z] 45)=W:=⟨_,rfl⟩
 have hb0:Below w.heap.size w W0:=by rw[<-hW0];exact A0 _ _
 have HB0:=A8 hb0;have hX:W0.rowIs w.heap.size 45 7 (bxF op d a b e n z):=by rw[<-hW0];exact Di w _ _
 have x0:W0.cell? ⟨w.heap.size,0,none⟩=some (.int .i64 op):=hX.cell (i:=0) dE;have x1:W0.cell? ⟨w.heap.size,1,none⟩=some (.int .i64 d):=hX.cell (i:=1) dE;have x2:W0.cell? ⟨w.heap.size,2,none⟩=some (.int .i64 a):=hX.cell (i:=2) dE;have cB:=kc hb0 hB;have cC:=kc hb0 hC;clear hB hC hX hb0 hr hN hi;go_enter func41,ntmps41;go_upto_region 2 with fail;try rw[hW0]
 clear hW0;cases hl:AC op with
 |false=>
  have HMF:Hid (ML=false):=by have h9:=HML.out;rw[hl]at h9;show ML=false;simpa using h9
  have n29:(op==29)=false:=by unfold AC at hl;simp at hl |-;omega
  have n30:(op==30)=false:=by unfold AC at hl;simp at hl |-;omega
  have n31:(op==31)=false:=by unfold AC at hl;simp at hl |-;omega
  have n32:(op==32)=false:=by unfold AC at hl;simp at hl |-;omega
  have n33:(op==33)=false:=by unfold AC at hl;simp at hl |-;omega
  have he:B3 op=false:=by unfold AC at hl;simp at hl;exact hl.2
  rw[he]at KE;clear hl he HLR HMA;go_wp2_with(go_at_call 63;(with_reducible refine(KE.out _).mono ?_);rintro e9 w1 ⟨rfl,rfl⟩);refine bodyPost_ret (by simp[results,results41,go_sem];try rfl) rfl ?_;exact⟨0,by rw[HMF.out],fun h=>(by rw[HMF.out]at h;cases h),HB0.out⟩
 |true=>
  obtain⟨r,hr1,hr2,hr3,hr4⟩:=HLR.out hl;have hmt:=HMA.out r hr1 hr2;have hmk:ML=(MT.kind==3):=by have h9:=HML.out;rw[hl,Bool.true_and]at h9;exact h9
  obtain⟨rb,ro,rfl,hcl⟩:=(HPR.out W0 HB0.out).at hr1;obtain⟨⟨tk,tp⟩,ht⟩:∃t,c.regs[r]=t:=⟨_,rfl⟩
  rw[ht]at hcl hmt;have y0:=hcl.at 0 (v:=.int .i64 tk) rfl;rw[Nat.add_zero]at y0;have y1:=hcl.at 1 (v:=.int .i64 tp) rfl;have j1:(0:Int)<=(r:Int):=oM;have j2:(r:Int)<(N:Int):=by have:=HN.out;omega
  subst hmt;simp only at hmk;have HMK:=A8 hmk;have hcut0:op=29\/op=30\/op=32\/op=31\/op=33\/(B3 op=true/\op≠29/\op≠30/\op≠31/\op≠32/\op≠33):=by
   unfold AC at hl;simp at hl;rcases hl with h|h
   .omega
   .by_cases q:op=29\/op=30\/op=32\/op=31\/op=33
    .omega
    .exact .inr (.inr (.inr (.inr (.inr ⟨h,oM,oM,oM,oM,oM⟩))))
  clear hl HLR HMA HML hmk hcl ht hr2 hr1 HPR;go_upto_block 0 with fail;go_cut [6] (fun rv wx=>rv=.int .i64 (r:Int)/\wx=W0)
  case first=>
   rcases hcut0 with o|o|o|o|o|⟨he,o29,o30,o31,o32,o33⟩
   .subst o;have hd:=hr4 dE;exact Zdr
   .subst o;have hd:=hr4 dE;exact Zdr
   .subst o;have hd:=hr4 dE;exact Zdr
   .subst o;have hd:=hr3 dE;exact Zdr
   .subst o;have hd:=hr3 dE;exact Zdr
   .have hd:=hr4 oM;subst hd;have n29:(op==29)=false:=by simpa using o29
    have n30:(op==30)=false:=by simpa using o30
    have n31:(op==31)=false:=by simpa using o31
    have n32:(op==32)=false:=by simpa using o32
    have n33:(op==33)=false:=by simpa using o33
    rw[he]at KE;clear hr3 hr4 he o29 o30 o31 o32 o33;go_wp2_with(go_at_call 63;(with_reducible refine(KE.out _).mono ?_);rintro e9 w1 ⟨rfl,rfl⟩);go_meet;exact⟨rfl,rfl⟩
  case rest=>
   obtain⟨rfl,rfl⟩:=hcut;rename World=>V2;clear hr3 hr4 hcut0 KE x0 x1 x2;obtain⟨V3,hV3⟩:∃V,V2.alloc (.cells #[.int .i64 tk,.int .i64 tp] 47)=V:=⟨_,rfl⟩
   have HB3:Hid (Below V2.heap.size V2 V3):=by rw[<-hV3];exact A0 _ _
   have hX3:=Di V2 #[.int .i64 tk,.int .i64 tp] 47;rw[hV3]at hX3;obtain⟨X,hXe⟩:=gA (V2.heap.size)
   rw[hXe]at hX3;have z0:V3.cell? ⟨X,0,none⟩=some (.int .i64 tk):=hX3.cell (i:=0) sM;have z1:V3.cell? ⟨X,1,none⟩=some (.int .i64 tp):=hX3.cell (i:=1) sM;have HW3:=A8 hV3;have HXE:=A8 hXe;clear hV3 hX3 hXe;go_upto_region 12 with fail;rw[HW3.out];try rw[HXE.out]
   refine rG (fun v=>v.cell? ⟨X,0,none⟩=some (.int .i64 tk)/\v.cell? ⟨X,1,none⟩=some (.int .i64 tp)) fun yH=>?_;refine Tf 0 1 2 3 4 5 ?_;refine BU 6 ?_;refine wpAnyH_done kR ?_ _;go_wp2;refine bodyPost_ret (by simp[results,results41,go_sem];try rfl) rfl ?_;exact⟨tp,by rw[HMK.out],fun _=>.inr rfl,bel (bel HB0.out HB3.out) (AQ _)⟩
def H8(w:World)(m:Option Nat)(S:List Nat):Prop:=(m=none/\S=[])\/∃b,m=some b/\DF w b S
theorem H8.below{w w':World}{m:Option Nat}{S:List Nat}(h:H8 w m S)(k:Below w.heap.size w w'):H8 w' m S:=h.imp id fun⟨b,e,q⟩=>⟨b,e,q.below k⟩
theorem H8.look{w:World}{m:Option Nat}{S:List Nat}(h:H8 w m S){k:Nat}(hk:k<=4611686018427387904):(Instr.lookup 95 (.map m) (.int .i64 (k:Int)) true).run prog w=.ok (.tuple #[.agg #[],.bool (decide (k∈S))]) w:=by
 rcases h with⟨rfl,rfl⟩|⟨b,rfl,h⟩
 .rw[NO w hk];simp
 .exact h.look hk
theorem H8.len{w:World}{m:Option Nat}{S:List Nat}(h:H8 w m S)(ty:TypeId):(Builtin.len_ #[95] ty #[.map m]).run prog w=.ok (.int .i64 (S.length:Int)) w:=by
 rcases h with⟨rfl,rfl⟩|⟨b,rfl,h⟩
 .exact P9 w ty
 .exact h.len ty
def ahB(c:Cd)(V Nn:List Nat)(i:Aa):Bool:=((Ac i (A3 i.op)).any fun r=>decide (r.toNat∈V))||(Ah i&&((A5 c.regs i.d).kind==1&&(decide (i.d.toNat∈Nn)||decide (16<=Nn.length))))
theorem Pb(i:Aa):((A3 i.op).d != 0)=Ah i:=by
 unfold Ah;by_cases h:(A3 i.op).d=0
 .simp[h]
 .simp[h]
theorem Q6(c:Cd)(i:Aa)(hi:Bp c i)(V Nn:List Nat)(hNn:Nn.length<=100000)(WB o:Nat)(mv mn:Option Nat)(p1:Option Addr)(q1:Nat)(w:World)(hm:w.cell? ⟨WB,o+1,none⟩=some (.map mv))(hn:w.cell? ⟨WB,o+2,none⟩=some (.map mn))(sv:H8 w mv V)(sn:H8 w mn Nn)(hr:AZ 2 I2 w (.slice p1 c.regs.length q1) c.regs)(hR:c.regs.length<=16384):
 Calls prog 66 #[.pointer (some ⟨WB,o,none⟩),BV i,.slice p1 c.regs.length q1] w fun e w'=>e=.returned (.bool (ahB c V Nn i))/\Below w.heap.size w w':=by
 have KS:Hid (∀v,Calls prog 64 #[BV i] v fun e w'=>e=.returned (.bool (Ah i))/\Below v.heap.size v w'):=fun v=>by rw[<-Pb];exact Pa i v
 have KR:Hid (∀v,Calls prog 65 #[BV i] v fun e w'=>∃u,e=.returned u/\w'.ownsRow v.heap.size 3 1 u (Ac i (A3 i.op)).length (BM (Ac i (A3 i.op)))/\Below v.heap.size v w'):=fun v=>Mx i v;have HRD:Hid (∀r∈Ac i (A3 i.op),∃n:Nat,r=(n:Int)/\n<=16384):=fun r hx=>by
  have h1:=E5 hi hx;have h2:=L5 hi.2 r hx;exact⟨r.toNat,h1,oM⟩
 have HDD:=A8 (fun hs=>Gb hi hs);have HVL:Hid (∀v,Below w.heap.size w v->∀k:Nat,k<=16384->(Instr.lookup 95 (.map mv) (.int .i64 (k:Int)) true).run prog v=.ok (.tuple #[.agg #[],.bool (decide (k∈V))]) v):=fun v hb k hk=>(sv.below hb).look oM;have HNL:Hid (∀v,Below w.heap.size w v->(∀k:Nat,k<=16384->(Instr.lookup 95 (.map mn) (.int .i64 (k:Int)) true).run prog v=.ok (.tuple #[.agg #[],.bool (decide (k∈Nn))]) v)/\(Builtin.len_ #[95] 3 #[.map mn]).run prog v=.ok (.int .i64 (Nn.length:Int)) v):=fun v hb=>⟨fun k hk=>(sn.below hb).look oM,(sn.below hb).len _⟩
 have HCM:Hid (∀v,Below w.heap.size w v->v.cell? ⟨WB,o+1,none⟩=some (.map mv)/\v.cell? ⟨WB,o+2,none⟩=some (.map mn)/\AZ 2 I2 v (.slice p1 c.regs.length q1) c.regs):=fun v hb=>⟨kc hb hm,kc hb hn,hr.below hb⟩
 have HAH:Hid (ahB c V Nn i=(((Ac i (A3 i.op)).any fun r=>decide (r.toNat∈V))||(Ah i&&((A5 c.regs i.d).kind==1&&(decide (i.d.toNat∈Nn)||decide (16<=Nn.length)))))):=rfl;obtain⟨AH,hAH⟩:∃b,ahB c V Nn i=b:=⟨_,rfl⟩
 rw[hAH]at HAH |-;obtain⟨N,hN⟩:=gA (c.regs.length)
 have HN:=A8 hN;simp only[hN]at HCM HDD hR |-;have hrl:(Ac i (A3 i.op)).length<=3:=GZ _ _;obtain⟨rs,hrs⟩:∃r,Ac i (A3 i.op)=r:=⟨_,rfl⟩
 rw[hrs]at HAH HRD KR hrl;obtain⟨RL,hRL⟩:∃r,rs.length=r:=⟨_,rfl⟩
 have HRL:=A8 hRL;rw[hRL]at hrl KR;obtain⟨SD,hSD⟩:∃s,Ah i=s:=⟨_,rfl⟩
 rw[hSD]at HAH KS HDD;obtain⟨NL,hNL⟩:∃n,Nn.length=n:=⟨_,rfl⟩
 rw[hNL]at HAH HNL hNn;obtain⟨op,d,a,b,e,n,z⟩:=i;unfold BV at KS KR |-;simp only at KS KR HAH HDD |-;obtain⟨W0,hW0⟩:∃W,w.alloc (.cells #[.int .i64 op,.int .i64 d,.int .i64 a,.int .i64 b,.int .i64 e,.int .i64 n,.int .u32 z] 45)=W:=⟨_,rfl⟩
 have HB0:Hid (Below w.heap.size w W0):=by rw[<-hW0];exact A0 _ _
 have hX:W0.rowIs w.heap.size 45 7 (bxF op d a b e n z):=by rw[<-hW0];exact Di w _ _
 obtain⟨X,hXe⟩:=gA (w.heap.size)
 have HXE:=A8 hXe;rw[hXe]at hX;have HX:Hid (∀v,Below W0.heap.size W0 v->v.cell? ⟨X,0,none⟩=some (.int .i64 op)/\v.cell? ⟨X,1,none⟩=some (.int .i64 d)/\v.cell? ⟨X,2,none⟩=some (.int .i64 a)/\v.cell? ⟨X,3,none⟩=some (.int .i64 b)/\v.cell? ⟨X,4,none⟩=some (.int .i64 e)/\v.cell? ⟨X,5,none⟩=some (.int .i64 n)/\v.cell? ⟨X,6,none⟩=some (.int .u32 z)):=fun v hb=>by
  have h:=hX.of_block (hb.block _ hX.lt);exact⟨h.cell (i:=0) dE,h.cell (i:=1) dE,h.cell (i:=2) dE,h.cell (i:=3) dE,h.cell (i:=4) dE,h.cell (i:=5) dE,h.cell (i:=6) dE⟩
 obtain⟨x0,x1,x2,x3,x4,x5,x6⟩:=HX.out W0 (BT _);clear hm hn sv sn hr hi hN hAH hrs hRL hSD hNL hX;go_enter func66,ntmps66;go_upto_region 1 with fail;try rw[hW0]
 try rw[hXe]
 clear hW0 hXe;go_upto_block 0 with(go_at_call 65;(with_reducible refine(KR.out _).mono ?_);rintro e9 w1 ⟨u,rfl,ho1,hb1⟩;obtain⟨pu,qu,rfl⟩:=AD ho1;have HO1:=A8 ho1;have HB1:=A8 hb1;clear ho1 hb1)
 have HJ0:Hid (Below W0.heap.size W0 w1/\w1.ownsRow W0.heap.size 3 1 (.slice pu RL qu) RL (BM rs)/\∀x,x<0->∀ (h:x<rs.length),¬rs[x].toNat∈V):=⟨HB1.out,HO1.out,fun x hx=>absurd hx oM⟩
 clear x0 x1 x2 x3 x4 x5 x6 HB1 HO1 KR;go_wp2_with fail
 go_loopw [16] (fun iv wx=>∃u:Nat,u<=RL/\iv=.int .i64 (u:Int)/\Hid (Below W0.heap.size W0 wx/\wx.ownsRow W0.heap.size 3 1 (.slice pu RL qu) RL (BM rs)/\∀x,x<u->∀ (h:x<rs.length),¬rs[x].toNat∈V)) (fun iv _=>RL-(intOf iv).toNat)
 case atStart=>exact⟨0,gI _,rfl,HJ0.out⟩
 case round=>
  clear HJ0;rename World=>wa;obtain⟨u,hu,rfl,HJ⟩:=hrel;by_cases hul:u<RL
  .have hur:u<rs.length:=by have:=HRL.out;omega
   obtain⟨rn,hrn,hr3⟩:=HRD.out _ (gD hur);obtain⟨g,cap,e9,g1,g2,g3,g4,g5⟩:=EN HJ.2.1 oM;simp only[Value.slice.injEq]at e9;obtain⟨rfl,-,rfl⟩:=e9;have z0:=g5 u (.int .i64 rs[u]) (by simp[BM,hur]);rw[hrn]at z0;obtain⟨cm,-,-⟩:=HCM.out wa (bel HB0.out HJ.1);have hlk:=HVL.out wa (bel HB0.out HJ.1) rn oM;have j1:(0:Int)<=(u:Int):=oM;have j2:(u:Int)<(RL:Int):=oM;have wj:IntKind.i64.wrap ((u:Int)+1)=((u+1:Nat):Int):=by rw[IntKind.wrap_i64];omega
   have HBA:Hid (Below W0.heap.size W0 (wa.alloc (.cells #[] 131))/\Below wa.heap.size wa (wa.alloc (.cells #[] 131))):=⟨bel HJ.1 (A0 _ _),A0 _ _⟩
   by_cases hin:rn∈V
   .rw[decide_eq_true hin]at hlk;have HAT:Hid (AH=true):=by
     show AH=true;rw[HAH.out,Bool.or_eq_true];exact .inl (List.any_eq_true.2 ⟨rs[u],gD hur,by rw[hrn];simpa using hin⟩)
    clear hin hr3 g1 g2 g3 g4 g5 hrn hur HJ;go_wp2;go_ret;exact⟨by rw[HAT.out];try rfl,bel HB0.out HBA.1⟩
   .rw[decide_eq_false hin]at hlk;have HQ:Hid (Below W0.heap.size W0 (wa.alloc (.cells #[] 131))/\(wa.alloc (.cells #[] 131)).ownsRow W0.heap.size 3 1 (.slice (some ⟨g,0,none⟩) RL qu) RL (BM rs)/\∀x,x<u+1->∀ (h:x<rs.length),¬rs[x].toNat∈V):=by
     refine⟨HBA.1,As HJ.2.1 HBA.2,fun x hx h=>?_⟩;by_cases q:x=u
     .subst q;rw[hrn];simpa using hin
     .exact HJ.2.2 x oM h
    clear hin hr3 g1 g2 g3 g4 g5 hrn hur HJ;exact Zef
  .have j9:¬ (u:Int)<(RL:Int):=oM;have hue:u=RL:=oM;have HAN:Hid (AH=(SD&&((A5 c.regs d).kind==1&&(decide (d.toNat∈Nn)||decide (16<=NL))))):=by
    show AH=_;have h9:(rs.any fun r=>decide (r.toNat∈V))=false:=by
     rw[List.any_eq_false];intro r hr;obtain⟨x,hx,ex⟩:=List.mem_iff_getElem.1 hr;rw[<-ex];simpa using HJ.2.2 x (by have:=HRL.out;omega) hx
    rw[HAH.out,h9,Bool.false_or]
   have HBJ:=A8 HJ.1;obtain⟨x0,x1,x2,x3,x4,x5,x6⟩:=HX.out wa HBJ.out;clear hul hue HJ HAH;cases SD with
   |false=>
    have HAF:Hid (AH=false):=by show AH=false;rw[HAN.out];rfl
    go_wp2_with(go_at_call 64;(with_reducible refine(KS.out _).mono ?_);rintro e9 w4 ⟨rfl,hb4⟩;have HB4:=A8 hb4;clear hb4);go_ret;exact⟨by rw[HAF.out];try rfl,bel HB0.out (bel HBJ.out HB4.out)⟩
   |true=>
    obtain⟨d0,d1⟩:=HDD.out rfl;obtain⟨D,hD⟩:=gA (d.toNat)
    rw[hD]at d0 d1;subst d0;have hDl:D<c.regs.length:=by have:=HN.out;omega
    have HC4:Hid (∀v,Below W0.heap.size W0 v->v.cell? ⟨X,1,none⟩=some (.int .i64 (D:Int))/\v.cell? ⟨WB,o+2,none⟩=some (.map mn)/\AZ 2 I2 v (.slice p1 N q1) c.regs/\(Instr.lookup 95 (.map mn) (.int .i64 (D:Int)) true).run prog v=.ok (.tuple #[.agg #[],.bool (decide (D∈Nn))]) v/\(Builtin.len_ #[95] 3 #[.map mn]).run prog v=.ok (.int .i64 (NL:Int)) v):=fun v hb=>by
     have hbw:=bel HB0.out hb;exact⟨(HX.out v hb).2.1,(HCM.out v hbw).2.1,(HCM.out v hbw).2.2,(HNL.out v hbw).1 D oM,(HNL.out v hbw).2⟩
    have hrg:=Wx hDl;have HAN2:Hid (AH=((c.regs[D].kind==1)&&(decide (D∈Nn)||decide (16<=NL)))):=by
     show AH=_;have h9:=HAN.out;rw[hrg]at h9;simpa using h9
    have j1:(0:Int)<=(D:Int):=oM;have j2:(D:Int)<(N:Int):=oM;obtain⟨-,-,hrow,-⟩:=HC4.out wa HBJ.out;obtain⟨rb,ro,rfl,-⟩:=hrow.at hDl;obtain⟨⟨tk,tp⟩,ht⟩:∃t,c.regs[D]=t:=⟨_,rfl⟩
    have HY:Hid (∀v,Below W0.heap.size W0 v->v.cell? ⟨rb,ro+D*2,none⟩=some (.int .i64 tk)):=fun v hb=>by
     obtain⟨rb',ro',e8,hcl⟩:=(HC4.out v hb).2.2.1.at hDl;simp only[Option.some.injEq,Addr.mk.injEq,and_true]at e8;obtain⟨rfl,rfl⟩:=e8;rw[ht]at hcl;have y0:=hcl.at 0 (v:=.int .i64 tk) rfl;rw[Nat.add_zero]at y0;exact y0
    rw[ht]at HAN2;simp only at HAN2;clear hrow ht hrg HAN hDl hD HDD;by_cases hk1:tk=1
    .have k1:(tk==1)=true:=by simpa using hk1
     have k2:(tk != 1)=false:=by simpa using hk1
     have HAN3:Hid (AH=(decide (D∈Nn)||decide (16<=NL))):=by show AH=_;rw[HAN2.out,k1,Bool.true_and]
     clear hk1 HAN2;go_upto_region 10 with(go_at_call 64;(with_reducible refine(KS.out _).mono ?_);rintro e9 w4 ⟨rfl,hb4⟩;have HB4:Hid (Below W0.heap.size W0 w4):=bel HBJ.out hb4;obtain⟨q1',q2',-,q4',q5'⟩:=HC4.out w4 HB4.out;have q6':=HY.out w4 HB4.out;clear hb4)
     have HBD:Hid (Below W0.heap.size W0 (w4.alloc (.cells #[] 131)).drew):=bel HB4.out (bel (A0 _ _) (AQ _));obtain⟨r1',r2',-,r4',r5'⟩:=HC4.out _ HBD.out;have HBE:Hid (Below W0.heap.size W0 w4.drew):=bel HB4.out (AQ _);obtain⟨s1',s2',-,s4',s5'⟩:=HC4.out _ HBE.out;refine rG (fun v=>v.cell? ⟨X,1,none⟩=some (.int .i64 (D:Int))/\v.cell? ⟨WB,o+2,none⟩=some (.map mn)/\(Instr.lookup 95 (.map mn) (.int .i64 (D:Int)) true).run prog v=.ok (.tuple #[.agg #[],.bool (decide (D∈Nn))]) v) fun yH=>?_;refine Tf 0 1 2 3 4 5 ?_;refine Tc 6 7 8 ?_;refine BU 9 ?_;clear yH;refine AJ 10 fun K hK=>?_;go_simp;refine AF hK fun yH=>?_;clear hK K;clear yH;refine AJ 11 fun K hK=>?_;go_simp;refine AF hK fun yH=>?_;clear hK K;refine BU 12 ?_;refine wpAnyH_done kR ?_ _;by_cases hin:D∈Nn
     .rw[decide_eq_true hin]at *;have HAT:Hid (AH=true):=by show AH=true;rw[HAN3.out];rfl
      exact Zfa
     .rw[decide_eq_false hin]at *;by_cases hle:16<=NL
      .have t1:(NL:Int)≥16:=oM;have t2:(16:Int)<=(NL:Int):=oM;have HAT:Hid (AH=true):=by show AH=true;rw[HAN3.out,decide_eq_true hle];simp
       exact Zfa
      .have t1:¬ (NL:Int)≥16:=oM;have t2:¬ (16:Int)<=(NL:Int):=oM;have HAT:Hid (AH=false):=by show AH=false;rw[HAN3.out,decide_eq_false hle];rfl
       exact Zfa
    .have k1:(tk==1)=false:=by simpa using hk1
     have k2:(tk != 1)=true:=by simpa using hk1
     have HAF:Hid (AH=false):=by show AH=false;rw[HAN2.out,k1];rfl
     clear hk1 HAN2;go_wp2_with(go_at_call 64;(with_reducible refine(KS.out _).mono ?_);rintro e9 w4 ⟨rfl,hb4⟩;have HB4:Hid (Below W0.heap.size W0 w4):=bel HBJ.out hb4;obtain⟨q1',q2',-,q4',q5'⟩:=HC4.out w4 HB4.out;have q6':=HY.out w4 HB4.out;clear hb4);go_ret;exact⟨by rw[HAF.out];try rfl,bel HB0.out HB4.out⟩
theorem JT{w:World}{b b' n n':Nat}{t t':TypeId}{f f':Nat->Value}(h:w.rowIs b t n f)(h':w.rowIs b' t' n' f')(ht:t≠t'):b≠b':=fun e=>by
 subst e;obtain⟨c,hc,-⟩:=h;obtain⟨c',hc',-⟩:=h';rw[hc]at hc';simp only[Option.some.injEq,Obj.cells.injEq]at hc';exact ht hc'.2.1
theorem An{w:World}{B:Nat}{t t':TypeId}{k n n' b:Nat}{v:Value}{xs:List Value}{f:Nat->Value}(h:w.ownsRow B t k v n xs)(h':w.rowIs b t' n' f)(ht:t≠t'):v.ownBlock≠some b:=by
 intro hb;rcases h.2 with⟨rfl,_⟩|⟨g,cap,cur,rfl,_,hg,_⟩
 .exact absurd (show(none:Option Nat)=some b from hb) sM
 obtain⟨c,hc,-⟩:=h';have e1:g=b:=Option.some.inj hb;rw[e1,hc]at hg;simp only[Option.some.injEq,Obj.cells.injEq]at hg;exact ht hg.2.1.symm
theorem B7{w:World}{b b' n:Nat}{t:TypeId}{f:Nat->Value}{S:List Nat}(h:DF w b S)(h':w.rowIs b' t n f):b≠b':=fun e=>by
 subst e;obtain⟨es,ck,h0⟩:=h.obj;obtain⟨c,hc,-⟩:=h';rw[hc]at h0;cases h0
theorem BP{w:World}{b B k n:Nat}{t:TypeId}{v:Value}{xs:List Value}{S:List Nat}(h:DF w b S)(h':w.ownsRow B t k v n xs):v.ownBlock≠some b:=fun hb=>by
 obtain⟨es,ck,h0⟩:=h.obj;rcases h'.2 with⟨rfl,_⟩|⟨g,cap,cur,rfl,_,hg,_⟩
 .exact absurd (show(none:Option Nat)=some b from hb) sM
 have e1:g=b:=Option.some.inj hb;rw[e1,h0]at hg;cases hg
def vecA(S:List Nat)(i:Aa):List Nat:=if Ah i=true then Ew S i.d.toNat else S
def vecsL(ws:List Aa):List Nat:=ws.foldl vecA []
theorem VS(S:List Nat)(k r:Nat):r∈Ew S k↔r∈S\/r=k:=by
 unfold Ew;split
 .rename_i h;exact⟨.inl,fun q=>q.elim id fun e=>e▸h⟩
 .simp
theorem Pp(r:Nat):∀ (ws:List Aa) (S:List Nat),r∈ws.foldl vecA S↔r∈S\/r∈Ib ws
 |[],S=>by simp[Ib]
 |w::ws,S=>by
  rw[List.foldl_cons,Pp r ws,Gq];unfold vecA;by_cases h:Ah w=true
  .rw[if_pos h,VS];constructor
   .rintro((q|q)|q)
    .exact .inl q
    .exact .inr (.inl ⟨h,q⟩)
    .exact .inr (.inr q)
   .rintro(q|q|q)
    .exact .inl (.inl q)
    .exact .inl (.inr q.2)
    .exact .inr q
  .rw[if_neg h];constructor
   .rintro(q|q)
    .exact .inl q
    .exact .inr (.inr q)
   .rintro(q|q|q)
    .exact .inl q
    .exact absurd q.1 h
    .exact .inr q
theorem ah_beh(c:Cd)(ws:List Aa)(i:Aa):ahB c (vecsL ws) (BF c ws) i=Db c ws i:=by
 unfold ahB Db;congr 1;refine congrArg (fun f=>(Ac i (A3 i.op)).any f) (funext fun r=>?_);have:r.toNat∈vecsL ws↔r.toNat∈Ib ws:=by unfold vecsL;rw[Pp];simp
 simp only[this]
structure LpM(E:Nat)(c:Cd)(ws:List Aa)(w:World)(vl:Value)(mv mn:Option Nat):Prop where
 l:w.ownsRow E 45 7 vl ws.length (AG De ws)
 v:H8 w mv (vecsL ws)
 n:H8 w mn (BF c ws)
 z:ws=[]->vl=.slice none 0 0/\mv=none/\mn=none
 s:ws≠[]->(∃a,mv=some a/\E<=a)/\∃b,mn=some b/\E<=b
def Yf(vl:Nat->Value)(mv mn:Nat->Option Nat)(j:Nat):Value:=if j%3=0 then vl (j/3)else if j%3=1 then .map (mv (j/3))else .map (mn (j/3))
structure CQ(E:Nat)(c:Cd)(n:Nat)(s:Fz)(w:World)(B C WB:Nat)(lv:Value)(vl:Nat->Value)(mv mn:Nat->Option Nat)(tag:Nat->Nat):Prop where
 b:w.rowIs B 63 4 (f4 (.pointer (some ⟨C,0,none⟩)) (.slice (some ⟨WB,0,none⟩) n n) (.int .i64 (s.dep:Int)) lv)
 wt:w.rowIs WB 97 (n*3) (Yf vl mv mn)
 lp:∀p,p<n->LpM E c (s.wait p) w (vl p) (mv p) (mn p)
 lf:w.ownsRow E 45 7 lv s.left.length (AG De s.left)
 tl:∀g,lv.ownBlock=some g->tag g=0
 tp:∀p g,p<n->(vl p).ownBlock=some g->tag g=3*p+1
 tv:∀p g,p<n->mv p=some g->tag g=3*p+2
 tn:∀p g,p<n->mn p=some g->tag g=3*p+3
 geB:E<=B
 geW:E<=WB
 le:E<=w.heap.size
section
variable {E : Nat} {c : Cd} {n : Nat} {s : Fz} {w w' : World} {B C WB : Nat} {lv : Value} {vl : Nat -> Value} {mv mn : Nat -> Option Nat} {tag : Nat -> Nat}
theorem LpM.below{ws:List Aa}{v:Value}{a b:Option Nat}(h:LpM E c ws w v a b)(k:Below w.heap.size w w'):LpM E c ws w' v a b:=⟨As h.l k,h.v.below k,h.n.below k,h.z,h.s⟩
theorem H8.keep{m:Option Nat}{S:List Nat}(h:H8 w m S)(hb:∀g,m=some g->w'.heap[g]? =w.heap[g]?):H8 w' m S:=h.imp id fun⟨b,e,q⟩=>⟨b,e,q.block (hb b e)⟩
theorem LpM.keep{ws:List Aa}{v:Value}{a b:Option Nat}(h:LpM E c ws w v a b)(h1:∀g,v.ownBlock=some g->w'.heap[g]? =w.heap[g]?)(h2:∀g,a=some g->w'.heap[g]? =w.heap[g]?)(h3:∀g,b=some g->w'.heap[g]? =w.heap[g]?):LpM E c ws w' v a b:=⟨Ag h.l h1,h.v.keep h2,h.n.keep h3,h.z,h.s⟩
theorem CQ.below(h:CQ E c n s w B C WB lv vl mv mn tag)(k:Below w.heap.size w w'):CQ E c n s w' B C WB lv vl mv mn tag:=
 ⟨h.b.of_block (k.block _ h.b.lt),h.wt.of_block (k.block _ h.wt.lt),fun p hp=>(h.lp p hp).below k,As h.lf k,h.tl,h.tp,h.tv,h.tn,h.geB,h.geW,gH h.le k.size⟩
theorem H8.lt{m:Option Nat}{S:List Nat}(h:H8 w m S){g:Nat}(e:m=some g):DF w g S:=by
 rcases h with⟨q,-⟩|⟨b,q,hb⟩
 .rw[q]at e;cases e
 .rw[q]at e;simp only[Option.some.injEq]at e;exact e▸hb
theorem CQ.cellL(h:CQ E c n s w B C WB lv vl mv mn tag){p:Nat}(hp:p<n):w.cell? ⟨WB,3*p,none⟩=some (vl p)/\w.cell? ⟨WB,3*p+1,none⟩=some (.map (mv p))/\w.cell? ⟨WB,3*p+2,none⟩=some (.map (mn p)):=by
 have f0:=h.wt.cell (i:=3*p) oM;have f1:=h.wt.cell (i:=3*p+1) oM;have f2:=h.wt.cell (i:=3*p+2) oM;unfold Yf at f0 f1 f2;rw[if_pos oM,show 3*p/3=p by omega]at f0;rw[if_neg oM,if_pos oM,show(3*p+1)/3=p by omega]at f1;rw[if_neg oM,if_neg oM,show(3*p+2)/3=p by omega]at f2;exact⟨f0,f1,f2⟩
theorem CQ.clear(h:CQ E c n s w B C WB lv vl mv mn tag){p:Nat}(hp:p<n):CQ E c n {s with wait:=fun x=>if x=p then [] else s.wait x} (((w.setCell ⟨WB,3*p,none⟩ (.slice none 0 0)).setCell ⟨WB,3*p+1,none⟩ (.map none)).setCell ⟨WB,3*p+2,none⟩ (.map none)) B C WB lv (fun x=>if x=p then .slice none 0 0 else vl x) (fun x=>if x=p then none else mv x) (fun x=>if x=p then none else mn x) tag:=by
 have k3:∀g,g≠WB->(((w.setCell ⟨WB,3*p,none⟩ (.slice none 0 0)).setCell ⟨WB,3*p+1,none⟩ (.map none)).setCell ⟨WB,3*p+2,none⟩ (.map none)).heap[g]? =w.heap[g]? :=fun g hg=>(gE hg).trans ((gE hg).trans (gE hg));refine⟨h.b.of_block (k3 _ (JT h.b h.wt dE)),(((h.wt.set _ _).set _ _).set _ _).congr fun j hj=>?_,fun x hx=>?_,Ag h.lf fun g hg=>k3 g (fun e=>An h.lf h.wt dE (hg.trans (congrArg some e))),h.tl,fun x g hx hg=>?_,fun x g hx hg=>?_,fun x g hx hg=>?_,h.geB,h.geW,by simpa using h.le⟩
 .exact Zcp
 .by_cases e:x=p
  .simp only[e,if_true];exact⟨World.ownsRow_nil _ _ _ 7,.inl ⟨rfl,rfl⟩,.inl ⟨rfl,rfl⟩,fun _=>⟨rfl,rfl,rfl⟩,fun q=>absurd rfl q⟩
  .simp only[e,if_false];have hl:=h.lp x hx;exact hl.keep (fun g hg=>k3 g (fun q=>An hl.l h.wt dE (hg.trans (congrArg some q)))) (fun g hg=>k3 g (fun q=>B7 (hl.v.lt hg) h.wt q)) (fun g hg=>k3 g (fun q=>B7 (hl.n.lt hg) h.wt q))
 .by_cases e:x=p
  .simp only[e,if_true]at hg;cases hg
  .simp only[e,if_false]at hg;exact h.tp x g hx hg
 .by_cases e:x=p
  .simp only[e,if_true]at hg;cases hg
  .simp only[e,if_false]at hg;exact h.tv x g hx hg
 .by_cases e:x=p
  .simp only[e,if_true]at hg;cases hg
  .simp only[e,if_false]at hg;exact h.tn x g hx hg
end
section
variable {E : Nat} {c : Cd} {n : Nat} {s : Fz} {w w' : World} {B C WB : Nat} {lv : Value} {vl : Nat -> Value} {mv mn : Nat -> Option Nat} {tag : Nat -> Nat}
theorem CQ.app(h:CQ E c n s w B C WB lv vl mv mn tag){m:List Aa}(hm:m≠[]){x:Option Addr}{d:Nat}(hr:AZ 7 De w (.slice x m.length d) m)(hl:s.left.length+m.length<=1000000):
 ∃g cap w',(Builtin.append_ #[25,25] 25 #[lv,.slice x m.length d]).run prog w=.ok (.slice (some ⟨g,0,none⟩) (s.left.length+m.length) cap) w'/\w'.cell? ⟨B,3,none⟩=some lv/\w'.frozen? ⟨B,3,none⟩=false/\(∀b,b<w.heap.size->lv.ownBlock≠some b->w'.heap[b]? =w.heap[b]?)/\Below E w w'/\CQ E c n {s with left:=s.left++m} (w'.setCell ⟨B,3,none⟩ (.slice (some ⟨g,0,none⟩) (s.left.length+m.length) cap)) B C WB (.slice (some ⟨g,0,none⟩) (s.left.length+m.length) cap) vl mv mn (fun y=>if y<w.heap.size then tag y else 0):=by
 obtain⟨i0,hi0,hz0,hz1,hz2⟩:=info_parts E0;obtain⟨p',c',hv,h9⟩:=hr;simp only[Value.slice.injEq]at hv;obtain⟨rfl,-,rfl⟩:=hv;obtain⟨b,o,rfl,h2⟩:=h9.resolve_left hm;have hpos:0<m.length:=List.length_pos_iff.2 hm;obtain⟨g,cap,w',hrun,hown,hg,hat,hlt⟩:=run_append_lies (P:=prog) w 25 25 E 45 i0 _ 7 56 underlying25 hi0 hz0 hz1 hz2 rfl dE lv s.left.length (AG De s.left) h.lf ⟨b,o,none⟩ m.length d (AG De m) (Ef D6 m) (fun j u hu=>H2 (w:=w) dE D6 h2 j u hu) Zgp hpos mL oM h.le _ rfl;have hoth:∀b,b<w.heap.size->lv.ownBlock≠some b->w'.heap[b]? =w.heap[b]? :=fun k hk hne=>hg.block k hk (Ne.symm hne);have hbel:Below E w w':=(Below.refl E w).grown hg h.le (fun k e=>(h.lf.lt k e).1);have hb':=h.b.of_block (hoth _ h.b.lt (An h.lf h.b dE));have hw':=h.wt.of_block (hoth _ h.wt.lt (An h.lf h.wt dE));have kL:∀p,p<n->LpM E c (s.wait p) w' (vl p) (mv p) (mn p):=fun p hp=>by
  have hq:=h.lp p hp;refine hq.keep (fun k hk=>hoth k (hq.l.lt k hk).2 (fun e=>?_)) (fun k hk=>hoth k (hq.v.lt hk).lt (BP (hq.v.lt hk) h.lf)) (fun k hk=>hoth k (hq.n.lt hk).lt (BP (hq.n.lt hk) h.lf));have t1:=h.tp p k hp hk;have t2:=h.tl k e;omega
 have k3:∀k,k≠B->(w'.setCell ⟨B,3,none⟩ (.slice (some ⟨g,0,none⟩) (s.left.length+m.length) cap)).heap[k]? =w'.heap[k]? :=fun k hk=>gE hk;refine⟨g,cap,w',hrun,hb'.cell (i:=3) dE,hb'.frozen 3,hoth,hbel,⟨(hb'.set 3 _).congr fun j hj=>?_,hw'.of_block (k3 _ (JT hw' hb' dE)),fun p hp=>?_,?_,fun k hk=>?_,fun p k hp hk=>?_,fun p k hp hk=>?_,fun p k hp hk=>?_,h.geB,h.geW,by simpa using gH h.le hbel.size⟩⟩
 .exact UZ
 .have hq:=kL p hp;exact hq.keep (fun k hk=>k3 k (fun e=>An hq.l hb' dE (hk.trans (congrArg some e)))) (fun k hk=>k3 k (fun e=>B7 (hq.v.lt hk) hb' e)) (fun k hk=>k3 k (fun e=>B7 (hq.n.lt hk) hb' e))
 .show World.ownsRow _ _ _ _ _ (s.left++m).length (AG De (s.left++m));rw[List.length_append,Dt];exact Ag hown fun k hk=>k3 k (fun e=>An hown hb' dE (hk.trans (congrArg some e)))
 .have e1:g=k:=by simpa[Value.ownBlock]using hk
  subst e1;rcases hat with q|q
  .try simp only
   rw[if_pos (h.lf.lt _ q).2];exact h.tl _ q
  .try simp only
   rw[if_neg oM]
 .try simp only
  rw[if_pos ((h.lp p hp).l.lt k hk).2];exact h.tp p k hp hk
 .try simp only
  rw[if_pos ((h.lp p hp).v.lt hk).lt];exact h.tv p k hp hk
 .try simp only
  rw[if_pos ((h.lp p hp).n.lt hk).lt];exact h.tn p k hp hk
end
section
variable {E : Nat} {c : Cd} {n : Nat} {s : Fz} {w w' : World} {B C WB : Nat} {lv : Value} {vl : Nat -> Value} {mv mn : Nat -> Option Nat} {tag : Nat -> Nat}
structure FzR(E:Nat)(c:Cd)(n:Nat)(s:Fz)(w:World)(B C WB:Nat)(ws:List Aa)(lw:Value)(w0:World)(tg:Nat->Nat):Prop where
 m:∃lv vl mv mn tag,CQ E c n s w B C WB lv vl mv mn tag/\(∀g,lw.ownBlock=some g->tag g≠0)/\∀b,b<w0.heap.size->tag b=tg b
 f:∀b,b<w0.heap.size->b≠B->b≠WB->tg b≠0->w.heap[b]? =w0.heap[b]?
 z:w0.heap.size<=w.heap.size
 l:w.ownsRow E 45 7 lw ws.length (AG De ws)
theorem FzR.below{ws:List Aa}{lw:Value}{w0:World}{tg:Nat->Nat}(h:FzR E c n s w B C WB ws lw w0 tg)(k:Below w.heap.size w w'):FzR E c n s w' B C WB ws lw w0 tg:=by
 obtain⟨⟨lv,vl,mv,mn,tag,h1,h2,h4⟩,h5,h6,h3⟩:=h;exact⟨⟨lv,vl,mv,mn,tag,h1.below k,h2,h4⟩,fun b a1 a2 a3 a4=>(k.block b oM).trans (h5 b a1 a2 a3 a4),gH h6 k.size,As h3 k⟩
theorem FzR.grow{ws:List Aa}{lw:Value}{w0:World}{tg:Nat->Nat}(h:FzR E c n s w B C WB ws lw w0 tg){m:List Aa}(hm:m≠[]){x:Option Addr}{d:Nat}(hr:AZ 7 De w (.slice x m.length d) m)(hl:s.left.length+m.length<=1000000):
 ∃p q g cap w',w.cell? ⟨B,3,none⟩=some (.slice p s.left.length q)/\(Builtin.append_ #[25,25] 25 #[.slice p s.left.length q,.slice x m.length d]).run prog w=.ok (.slice (some ⟨g,0,none⟩) (s.left.length+m.length) cap) w'/\w'.cell? ⟨B,3,none⟩=some (.slice p s.left.length q)/\w'.frozen? ⟨B,3,none⟩=false/\Below E w (w'.setCell ⟨B,3,none⟩ (.slice (some ⟨g,0,none⟩) (s.left.length+m.length) cap))/\FzR E c n {s with left:=s.left++m} (w'.setCell ⟨B,3,none⟩ (.slice (some ⟨g,0,none⟩) (s.left.length+m.length) cap)) B C WB ws lw w0 tg:=by
 obtain⟨⟨lv,vl,mv,mn,tag,h1,h2,h4⟩,h5,h6,h3⟩:=h;obtain⟨g,cap,w',a1,a2,a3,a4,a5,a6⟩:=h1.app hm hr hl;obtain⟨p,q,rfl⟩:=AD h1.lf;have hb':=h1.b.of_block (a4 _ h1.b.lt (An h1.lf h1.b dE));have ho:w'.ownsRow E 45 7 lw ws.length (AG De ws):=Ag h3 fun k hk=>a4 k (h3.lt k hk).2 (fun e=>h2 k hk (h1.tl k e));refine⟨p,q,g,cap,w',h1.b.cell (i:=3) dE,a1,a2,a3,a5.setCell h1.geB _,⟨⟨_,_,_,_,_,a6,fun k hk=>?_,fun k hk=>?_⟩,fun k x1 x2 x3 x4=>?_,by simpa using gH h6 a5.size,Ag ho fun k hk=>gE (fun e=>An ho hb' dE (hk.trans (congrArg some e)))⟩⟩
 .rw[if_pos (h3.lt k hk).2];exact h2 k hk
 .rw[if_pos oM];exact h4 k hk
 .rw[gE x2,a4 k oM (fun e=>x4 (by rw[<-h4 k x1];exact h1.tl k e))];exact h5 k x1 x2 x3 x4
theorem CQ.toR(h:CQ E c n s w B C WB lv vl mv mn tag){p:Nat}(hp:p<n):FzR E c n {s with wait:=fun x=>if x=p then [] else s.wait x} (((w.setCell ⟨WB,3*p,none⟩ (.slice none 0 0)).setCell ⟨WB,3*p+1,none⟩ (.map none)).setCell ⟨WB,3*p+2,none⟩ (.map none)) B C WB (s.wait p) (vl p) w tag:=by
 have k3:∀g,g≠WB->(((w.setCell ⟨WB,3*p,none⟩ (.slice none 0 0)).setCell ⟨WB,3*p+1,none⟩ (.map none)).setCell ⟨WB,3*p+2,none⟩ (.map none)).heap[g]? =w.heap[g]? :=fun g hg=>(gE hg).trans ((gE hg).trans (gE hg));have hl:=(h.lp p hp).l;refine⟨⟨lv,_,_,_,tag,h.clear hp,fun g hg=>by rw[h.tp p g hp hg];omega,fun _ _=>rfl⟩,fun b _ _ hb _=>k3 b hb,sM,?_⟩;exact Ag hl fun g hg=>k3 g (fun e=>An hl h.wt dE (hg.trans (congrArg some e)))
end
end Go.Proofs.YtpoklpdgpcnkgaaGreat
