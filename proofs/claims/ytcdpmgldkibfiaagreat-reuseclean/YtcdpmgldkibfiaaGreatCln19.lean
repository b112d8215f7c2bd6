import Derived.Test.YtcdpmgldkibfiaaGreatCln17
import Derived.Test.YtcdpmgldkibfiaaGreatCln16
import Derived.Test.YtcdpmgldkibfiaaGreatCln1
import Derived.Test.YtcdpmgldkibfiaaGreatCln2
import Derived.Test.YtcdpmgldkibfiaaGreatCln14
import Derived.Lib.LazyBuf
import Derived.Deep.DeepCutAuto
namespace Go.Proofs.YtcdpmgldkibfiaaGreat
open Go.RowKit Go.Proofs.Tryz
set_option linter.all false
set_option maxRecDepth 100000
set_option maxHeartbeats 16000000
def okM(L:Lt):Bool:=decide (L.a=45->L.b=45->L.e=45\/L.e=113)&&(decide (L.a=45->L.b≠45->L.e=45\/L.e=112\/L.e=115)&&decide (L.a≠45->L.e=45\/L.e=105\/L.e=112\/L.e=115))
theorem Ym{p:Prop}[Decidable p]{x y:Lt}(h:okM x=true)(k:okM y=true):okM (if p then x else y)=true:=by
 split
 ·exact h
 ·exact k
theorem Ya(op:Int):okM (DM op)=true:=by
 unfold DM
 iterate 19 refine Ym dE ?_
 decide
theorem SW(v0 v1 v2 v3:Value)(c:Cd)(co:Ba c)(hT:As c=true)(i:Ac)(h0:0<=i.bits)(h1:i.bits<4294967296)(hk:Ak i.op=true)(h2:(i.op==1||i.bits==0)=true)(h3:Cy i.bits=true)(w:World)(hv:Cj w v0 v1 v2 v3 c):
 Calls prog 87 #[.agg #[v0,v1,v2,v3],AV i] w fun e w'=>e=.returned (.bool (Et c i (DM i.op)))/\Below w.heap.size w w':=by
 have HCAN:Hid (∀w,Calls prog 86 #[.int .u32 i.bits] w fun e w'=>e=.returned (.bool true)/\Below w.heap.size w w'):=by rw[←h3];exact Eg i.bits h0 h1
 obtain⟨a,b,cc,d,e,⟨ea,eb,ec,ed,ee⟩,hc⟩:=Rz i.op hk;obtain⟨oa,ob,oc,od,oe,oT⟩:=ZV i.op;have om:=Ya i.op;unfold okM at om;simp only[Bool.and_eq_true,decide_eq_true_eq]at om;obtain⟨m1,m2,m3⟩:=om;have hF:Et c i (DM i.op)=(Ap c.regs (DM i.op).a i.d ⟨0,0⟩&&(Ap c.regs (DM i.op).b i.a (dR c.regs (DM i.op).a i.d)&&(Ap c.regs (DM i.op).c i.b (dR c.regs (DM i.op).a i.d)&&(Ap c.regs (DM i.op).d i.c (dR c.regs (DM i.op).a i.d)&&Dk c (DM i.op).e i.n (tR c.regs (DM i.op).a (DM i.op).b i.d i.a))))):=by
  unfold Et;rw[h2,h3,Bool.true_and,Bool.true_and]
 rw[hF];clear hF h3;have ix0:∀w,(Instr.index 9 (.string ⟨#[a,b,cc,d,e]⟩) (.int .i64 0)).run prog w=.ok (.int .u8 (DM i.op).a) w:=fun w=>by rw[←ea];simp[Instr.index,run_underlying underlying9,asIntOf,go_sem];rfl
 have ix1:∀w,(Instr.index 9 (.string ⟨#[a,b,cc,d,e]⟩) (.int .i64 1)).run prog w=.ok (.int .u8 (DM i.op).b) w:=fun w=>by rw[←eb];simp[Instr.index,run_underlying underlying9,asIntOf,go_sem];rfl
 have ix2:∀w,(Instr.index 9 (.string ⟨#[a,b,cc,d,e]⟩) (.int .i64 2)).run prog w=.ok (.int .u8 (DM i.op).c) w:=fun w=>by rw[←ec];simp[Instr.index,run_underlying underlying9,asIntOf,go_sem];rfl
 have ix3:∀w,(Instr.index 9 (.string ⟨#[a,b,cc,d,e]⟩) (.int .i64 3)).run prog w=.ok (.int .u8 (DM i.op).d) w:=fun w=>by rw[←ed];simp[Instr.index,run_underlying underlying9,asIntOf,go_sem];rfl
 have UK:∀w,(Instr.index 9 (.string ⟨#[a,b,cc,d,e]⟩) (.int .i64 4)).run prog w=.ok (.int .u8 (DM i.op).e) w:=fun w=>by rw[←ee];simp[Instr.index,run_underlying underlying9,asIntOf,go_sem];rfl
 cases h:(i.op==1)
 ·rw[h,Bool.false_or]at h2;have o2:(i.op != 1)=true:=by simpa using h
  have o4:(i.bits != 0)=false:=by simpa using h2
  by_cases hz:(DM i.op).a=45
  ·exact YC v0 v1 v2 v3 c co hT i.op i.d i.a i.b i.c i.n i.bits _ _ _ _ _ a b cc d e hc HCAN ix0 ix1 ix2 ix3 UK oa ob oc od oT h o2 h2 o4 hz (m1 hz) (m2 hz) w hv
  ·exact YD v0 v1 v2 v3 c co hT i.op i.d i.a i.b i.c i.n i.bits _ _ _ _ _ a b cc d e hc HCAN ix0 ix1 ix2 ix3 UK oa ob oc od oT h o2 h2 o4 hz (m3 hz) w hv
 ·have o2:(i.op != 1)=false:=by simpa using h
  have e1:i.op=1:=by simpa using h
  have ha:(DM i.op).a≠45:=by rw[e1];decide
  have he:(DM i.op).e=45:=by rw[e1];rfl
  exact YE v0 v1 v2 v3 c co hT i.op i.d i.a i.b i.c i.n i.bits _ _ _ _ _ a b cc d e hc HCAN ix0 ix1 ix2 ix3 UK oa ob oc od oT h o2 ha he w hv
theorem SV(v0 v1 v2 v3:Value)(c:Cd)(co:Ba c)(hT:As c=true)(i:Ac)(h0:0<=i.bits)(h1:i.bits<4294967296)(w:World)(hv:Cj w v0 v1 v2 v3 c):
 Calls prog 87 #[.agg #[v0,v1,v2,v3],AV i] w fun e w'=>e=.returned (.bool (Ak i.op&&Et c i (DM i.op)))/\Below w.heap.size w w':=by
 cases hh:(Ak i.op&&((i.op==1||i.bits==0)&&Cy i.bits))
 ·have e:(Ak i.op&&Et c i (DM i.op))=false:=by
   unfold Et;revert hh;cases Ak i.op<;>cases(i.op==1||i.bits==0)<;>cases Cy i.bits<;>simp
  rw[e];exact Vj v0 v1 v2 v3 i h0 h1 hh w
 ·simp only[Bool.and_eq_true]at hh;rw[hh.1,Bool.true_and];exact SW v0 v1 v2 v3 c co hT i h0 h1 hh.1 hh.2.1 hh.2.2 w hv
theorem YA{c:Cd}{i:Ac}(h:AJ c i (A4 i.op)=true):∀x∈Ab i (A4 i.op),0<=x/\x<(c.regs.length:Int):=by
 intro x hx;unfold Ab at hx;simp only[List.mem_append]at hx;rcases hx with hx|hx|hx
 ·split at hx
  ·simp at hx
  ·rename_i e;simp at hx;subst hx;exact Ae (BD h) e
 ·split at hx
  ·simp at hx
  ·rename_i e;simp at hx;subst hx;exact Ae (DR h) e
 ·split at hx
  ·simp at hx
  ·rename_i e;simp at hx;subst hx;exact Ae (DS h) e
theorem SO(i:Ac):(Ab i (A4 i.op)).length<=3:=by
 rw[Hh];simp only[List.length_append];have a:=If (A4 i.op).a i.a;have b:=If (A4 i.op).b i.b;have d:=If (A4 i.op).c i.c;omega
theorem Oj(v0 v1 v2 v3:Value)(c:Cd)(co:Ba c)(hT:As c=true)(i:Ac)(hb0:0<=i.bits)(hb1:i.bits<4294967296)(B:Nat)(s:Wk)(sv ov:Value)(us:List Value)(hM:c.regs.length<=16384)(ok:DQ c.regs.length s)(po:E5 s)(w:World)(hv:Cj w v0 v1 v2 v3 c)(hs:SK B c.regs.length w sv ov s us):
 Calls prog 60 #[.agg #[v0,v1,v2,v3],AV i,sv,ov] w fun e w'=>e=.returned (.bool (Aq c s i))/\Below w.heap.size w w':=by
 rw[TC hT po];have hfit:(Ak i.op&&Et c i (DM i.op))=true->AJ c i (A4 i.op)=true:=fun h=>by simp only[Bool.and_eq_true]at h;rw[←Nw hT];exact h.2
 have HFIT:Hid (∀v,Below w.heap.size w v->Calls prog 87 #[.agg #[v0,v1,v2,v3],AV i] v fun e w'=>e=.returned (.bool (Ak i.op&&Et c i (DM i.op)))/\Below v.heap.size v w'):=fun v hb=>SV v0 v1 v2 v3 c co hT i hb0 hb1 v (hv.below hb);have HVEC:Hid (∀v,Below w.heap.size w v->Calls prog 88 #[.agg #[v0,v1,v2,v3],AV i] v fun e w'=>e=.returned (.int .i64 (Gw c.regs (FK i)))/\Below v.heap.size v w'):=fun v hb=>On v0 v1 v2 v3 c co i v (hv.below hb);have HRD:Hid (∀v,Calls prog 89 #[AV i] v fun e w'=>∃u,e=.returned u/\w'.ownsRow v.heap.size 3 1 u (Ab i (A4 i.op)).length (BQ (Ab i (A4 i.op)))/\Below v.heap.size v w'):=Q0 i;have hR3:=SO i;have hRP:=fun h=>YA (hfit h);have hRO:Dr s i (A4 i.op)=(Ab i (A4 i.op)).all fun n=>decide (n.toNat∈s.set):=rfl;rw[hRO];clear hfit hRO;unfold NO OD;obtain⟨Fi,hFi⟩:∃F,(Ak i.op&&Et c i (DM i.op))=F:=⟨_,rfl⟩
 rw[hFi]at HFIT hRP ⊢;obtain⟨V,hV⟩:∃V,Gw c.regs (FK i)=V:=⟨_,rfl⟩
 rw[hV]at HVEC ⊢;obtain⟨R,hR⟩:∃R,Ab i (A4 i.op)=R:=⟨_,rfl⟩
 rw[hR]at HRD hR3 hRP ⊢;have hnest:=ok.nest;have hlast:=fun g q (e:ov=.slice (some ⟨g,0,none⟩) s.opens.length q)=>SK.last (e▸hs);obtain⟨p,q,rfl⟩:=AK hs.opn;have hopn:0<s.opens.length->∃g,p=some ⟨g,0,none⟩:=fun h=>by
  obtain⟨g,cap,e,_⟩:=hs.opn.form h;simp only[Value.slice.injEq]at e;exact⟨g,e.1⟩
 obtain⟨ps,qs,rfl⟩:=AK hs.set;have HSET:Hid (∀k,k<c.regs.length->∃g,ps=some ⟨g,0,none⟩/\w.cell? ⟨g,k,none⟩=some (.bool (decide (k∈s.set)))):=fun k hk=>by
  obtain⟨g,cap,e,_⟩:=hs.set.form oM;simp only[Value.slice.injEq]at e;obtain⟨rfl,-,-⟩:=e;exact⟨g,rfl,by rw[hs.set.cellAt k oM,Hp hk]⟩
 have hz:s.opens.length=0->Aj s=false:=fun h=>by
  obtain⟨S,O⟩:=s;cases O with
  |nil=>rfl
  |cons b r=>simp at h
 obtain⟨S,hS⟩:∃S,s.set=S:=⟨_,rfl⟩
 obtain⟨n,hn⟩:∃n,s.opens.length=n:=⟨_,rfl⟩
 obtain⟨lp,hlp⟩:∃l,Aj s=l:=⟨_,rfl⟩
 obtain⟨par,hpar⟩:∃l,BV s=l:=⟨_,rfl⟩
 obtain⟨M,hMM⟩:∃M,c.regs.length=M:=⟨_,rfl⟩
 rw[hn]at hnest hlast hopn hz ⊢;rw[hlp]at hlast hz ⊢;rw[hpar]at hlast ⊢;rw[hS]at HSET ⊢;rw[hMM]at hM HSET hRP hlast ⊢;clear hFi hV hR hs ok po hv co hT hS hn hlp hpar hMM;obtain⟨op,D,A,Q,E,nn,bt⟩:=i;unfold AV at HFIT HVEC HRD ⊢;simp only at HFIT HVEC HRD hb0 hb1 ⊢;clear hb0 hb1;have HT0:Hid (TW w v0 v1 v2 v3 (w.heap.size+1) op D A Q E nn bt ((w.alloc (.cells #[v0,v1,v2,v3] 27)).alloc (.cells #[.int .i64 op,.int .i64 D,.int .i64 A,.int .i64 Q,.int .i64 E,.int .i64 nn,.int .u32 bt] 44))):=TW.start w v0 v1 v2 v3 op D A Q E nn bt;obtain⟨hb00,c0,c1,c2,c3,i0,i1,i2,i3,i4,i5,i6⟩:=HT0.out;have hcase:(n=0/\lp=false)\/(∃m g,m+1=n/\p=some ⟨g,0,none⟩/\lp=false/\w.cell? ⟨g,m*3,none⟩=some (.int .i64 34))\/(∃m g,m+1=n/\p=some ⟨g,0,none⟩/\lp=true/\w.cell? ⟨g,m*3,none⟩=some (.int .i64 36)/\w.cell? ⟨g,m*3+1,none⟩=some (.int .i64 par)):=by
  by_cases h0:n=0
  ·exact .inl ⟨h0,hz h0⟩
  ·obtain⟨g,rfl⟩:=hopn oM;obtain⟨X,u,-,-,a0,a1,-⟩:=hlast g q rfl oM;obtain⟨m,rfl⟩:∃m,n=m+1:=⟨n-1,oM⟩
   rw[Nat.add_sub_cancel]at a0 a1;cases lp
   ·exact .inr (.inl ⟨m,g,rfl,rfl,rfl,a0⟩)
   ·exact .inr (.inr ⟨m,g,rfl,rfl,rfl,a0,a1⟩)
 clear hlast hopn hz;have HRP:Hid (Fi=true->∀x∈R,0<=x/\x<(M:Int)):=hRP;clear hRP;obtain⟨RES,hRES⟩:∃X,(Fi&&(!(lp&&(op != 37&&V != par))&&((R.all fun n=>decide (n.toNat∈S))&&(if op=34\/op=36 then decide (n<64)else if op=35 then decide (0<n)&& !lp else if op=37 then lp else true))))=X:=⟨_,rfl⟩
 rw[hRES];cases Fi
 ·have HQF:Hid (false=RES):=hRES;clear hRES;rcases hcase with⟨rfl,rfl⟩|⟨m,g,hm,rfl,rfl,z0⟩|⟨m,g,hm,rfl,rfl,z0,z1⟩
  ·exact Zaj
  ·have hw:IntKind.i64.wrap ((n:Int)-1)=(m:Int):=by rw[IntKind.wrap_i64];omega
   have x0:=kc hb00 z0;have j0:(0:Int)<(n:Int):=oM;have j1:(0:Int)<=(m:Int):=oM;have j2:(m:Int)<(n:Int):=oM;exact Zaj
  ·have hw:IntKind.i64.wrap ((n:Int)-1)=(m:Int):=by rw[IntKind.wrap_i64];omega
   have x0:=kc hb00 z0;have j0:(0:Int)<(n:Int):=oM;have j1:(0:Int)<=(m:Int):=oM;have j2:(m:Int)<(n:Int):=oM;exact Zaj
 ·rw[Bool.true_and]at hRES;have HRP1:Hid (∀x∈R,0<=x/\x<(M:Int)):=HRP.out rfl;clear HRP;rcases hcase with⟨hn0,rfl⟩|⟨m,g,hm,rfl,rfl,z0⟩|⟨m,g,hm,rfl,rfl,z0,z1⟩
  ·rw[Bool.false_and,Bool.not_false,Bool.true_and]at hRES;have HR2:Hid (((R.all fun n=>decide (n.toNat∈S))&&(if op=34\/op=36 then decide (n<64)else if op=35 then decide (0<n)&& !false else if op=37 then false else true))=RES):=hRES;clear hRES;have j0:¬ (0:Int)<(n:Int):=oM;go_enter func60,ntmps60;go_wp2;refine rG (fun v=>v.cell? ⟨w.heap.size,0,none⟩=some v0/\v.cell? ⟨w.heap.size,1,none⟩=some v1/\v.cell? ⟨w.heap.size,2,none⟩=some v2/\v.cell? ⟨w.heap.size,3,none⟩=some v3/\v.cell? ⟨w.heap.size+1,0,none⟩=some (.int .i64 op)/\v.cell? ⟨w.heap.size+1,1,none⟩=some (.int .i64 D)/\v.cell? ⟨w.heap.size+1,2,none⟩=some (.int .i64 A)/\v.cell? ⟨w.heap.size+1,3,none⟩=some (.int .i64 Q)/\v.cell? ⟨w.heap.size+1,4,none⟩=some (.int .i64 E)/\v.cell? ⟨w.heap.size+1,5,none⟩=some (.int .i64 nn)/\v.cell? ⟨w.heap.size+1,6,none⟩=some (.int .u32 bt)) fun hHeld=>?_;refine Tb 0 1 ?_;clear hHeld;refine AC 2 fun K hK=>?_;go_simp;(go_at_call 87;(with_reducible refine(HFIT.out _ (bel HT0.out.bel (A6 _))).mono ?_);rintro e wz ⟨rfl,hbz⟩;have HBZ:Hid (Below ((w.alloc (.cells #[v0,v1,v2,v3] 27)).alloc (.cells #[.int .i64 op,.int .i64 D,.int .i64 A,.int .i64 Q,.int .i64 E,.int .i64 nn,.int .u32 bt] 44)).heap.size ((w.alloc (.cells #[v0,v1,v2,v3] 27)).alloc (.cells #[.int .i64 op,.int .i64 D,.int .i64 A,.int .i64 Q,.int .i64 E,.int .i64 nn,.int .u32 bt] 44)) wz):=bel (A6 _) hbz;clear hbz;obtain⟨-,c0,c1,c2,c3,i0,i1,i2,i3,i4,i5,i6⟩:=HT0.out.next HBZ.out);try(go_wp2_with fail)
   refine Ax hK fun hHeld=>?_;clear hK K;refine Tc 3 4 5 ?_;refine Bq 6 ?_;refine Da 7 ?_;refine Da 8 ?_;refine Da 9 ?_;refine Tb 10 11 ?_;refine Kd 12 13 14 15 ?_;refine Kd 16 17 18 19 ?_;refine Da 20 ?_;refine Da 21 ?_;refine Da 22 ?_;refine Tb 23 24 ?_;refine wpAnyH_done kR ?_ _;clear j0;exact Zab
  ·rw[Bool.false_and,Bool.not_false,Bool.true_and]at hRES;have HR2:Hid (((R.all fun n=>decide (n.toNat∈S))&&(if op=34\/op=36 then decide (n<64)else if op=35 then decide (0<n)&& !false else if op=37 then false else true))=RES):=hRES;clear hRES;have hw:IntKind.i64.wrap ((n:Int)-1)=(m:Int):=by rw[IntKind.wrap_i64];omega
   have x0:=kc hb00 z0;have j0:(0:Int)<(n:Int):=oM;have j1:(0:Int)<=(m:Int):=oM;have j2:(m:Int)<(n:Int):=oM;go_enter func60,ntmps60;go_wp2;refine rG (fun v=>v.cell? ⟨w.heap.size,0,none⟩=some v0/\v.cell? ⟨w.heap.size,1,none⟩=some v1/\v.cell? ⟨w.heap.size,2,none⟩=some v2/\v.cell? ⟨w.heap.size,3,none⟩=some v3/\v.cell? ⟨w.heap.size+1,0,none⟩=some (.int .i64 op)/\v.cell? ⟨w.heap.size+1,1,none⟩=some (.int .i64 D)/\v.cell? ⟨w.heap.size+1,2,none⟩=some (.int .i64 A)/\v.cell? ⟨w.heap.size+1,3,none⟩=some (.int .i64 Q)/\v.cell? ⟨w.heap.size+1,4,none⟩=some (.int .i64 E)/\v.cell? ⟨w.heap.size+1,5,none⟩=some (.int .i64 nn)/\v.cell? ⟨w.heap.size+1,6,none⟩=some (.int .u32 bt)) fun hHeld=>?_;refine Tb 0 1 ?_;clear hHeld;refine AC 2 fun K hK=>?_;go_simp;(go_at_call 87;(with_reducible refine(HFIT.out _ (bel HT0.out.bel (A6 _))).mono ?_);rintro e wz ⟨rfl,hbz⟩;have HBZ:Hid (Below ((w.alloc (.cells #[v0,v1,v2,v3] 27)).alloc (.cells #[.int .i64 op,.int .i64 D,.int .i64 A,.int .i64 Q,.int .i64 E,.int .i64 nn,.int .u32 bt] 44)).heap.size ((w.alloc (.cells #[v0,v1,v2,v3] 27)).alloc (.cells #[.int .i64 op,.int .i64 D,.int .i64 A,.int .i64 Q,.int .i64 E,.int .i64 nn,.int .u32 bt] 44)) wz):=bel (A6 _) hbz;clear hbz;obtain⟨-,c0,c1,c2,c3,i0,i1,i2,i3,i4,i5,i6⟩:=HT0.out.next HBZ.out);try(go_wp2_with fail)
   refine Ax hK fun hHeld=>?_;clear hK K;refine Tc 3 4 5 ?_;refine Bq 6 ?_;refine Da 7 ?_;refine Da 8 ?_;refine Da 9 ?_;refine Tb 10 11 ?_;refine Kd 12 13 14 15 ?_;refine Kd 16 17 18 19 ?_;refine Da 20 ?_;refine Da 21 ?_;refine Da 22 ?_;refine Tb 23 24 ?_;refine wpAnyH_done kR ?_ _;clear j0 j1 j2 hw;exact Zab
  ·rw[Bool.true_and]at hRES;have hw:IntKind.i64.wrap ((n:Int)-1)=(m:Int):=by rw[IntKind.wrap_i64];omega
   have x0:=kc hb00 z0;have j0:(0:Int)<(n:Int):=oM;have j1:(0:Int)<=(m:Int):=oM;have j2:(m:Int)<(n:Int):=oM;have y1:=kc hb00 z1;by_cases h7:op=37
   ·subst h7;rw[show((37:Int) != 37)=false from rfl,Bool.false_and,Bool.not_false,Bool.true_and]at hRES;have HR2:Hid (((R.all fun n=>decide (n.toNat∈S))&&(if(37:Int)=34\/(37:Int)=36 then decide (n<64)else if(37:Int)=35 then decide (0<n)&& !true else if(37:Int)=37 then true else true))=RES):=hRES;clear hRES;go_enter func60,ntmps60;go_wp2;refine rG (fun v=>v.cell? ⟨w.heap.size,0,none⟩=some v0/\v.cell? ⟨w.heap.size,1,none⟩=some v1/\v.cell? ⟨w.heap.size,2,none⟩=some v2/\v.cell? ⟨w.heap.size,3,none⟩=some v3/\v.cell? ⟨w.heap.size+1,0,none⟩=some (.int .i64 37)/\v.cell? ⟨w.heap.size+1,1,none⟩=some (.int .i64 D)/\v.cell? ⟨w.heap.size+1,2,none⟩=some (.int .i64 A)/\v.cell? ⟨w.heap.size+1,3,none⟩=some (.int .i64 Q)/\v.cell? ⟨w.heap.size+1,4,none⟩=some (.int .i64 E)/\v.cell? ⟨w.heap.size+1,5,none⟩=some (.int .i64 nn)/\v.cell? ⟨w.heap.size+1,6,none⟩=some (.int .u32 bt)) fun hHeld=>?_;refine Tb 0 1 ?_;clear hHeld;refine AC 2 fun K hK=>?_;go_simp;(go_at_call 87;(with_reducible refine(HFIT.out _ (bel HT0.out.bel (A6 _))).mono ?_);rintro e wz ⟨rfl,hbz⟩;have HBZ:Hid (Below ((w.alloc (.cells #[v0,v1,v2,v3] 27)).alloc (.cells #[.int .i64 37,.int .i64 D,.int .i64 A,.int .i64 Q,.int .i64 E,.int .i64 nn,.int .u32 bt] 44)).heap.size ((w.alloc (.cells #[v0,v1,v2,v3] 27)).alloc (.cells #[.int .i64 37,.int .i64 D,.int .i64 A,.int .i64 Q,.int .i64 E,.int .i64 nn,.int .u32 bt] 44)) wz):=bel (A6 _) hbz;clear hbz;obtain⟨-,c0,c1,c2,c3,i0,i1,i2,i3,i4,i5,i6⟩:=HT0.out.next HBZ.out);try(go_wp2_with fail)
    refine Ax hK fun hHeld=>?_;clear hK K;refine Tf 3 4 5 6 7 8 ?_;refine Tc 9 10 11 ?_;refine Kd 12 13 14 15 ?_;refine Kd 16 17 18 19 ?_;refine Da 20 ?_;refine Da 21 ?_;refine Da 22 ?_;refine Tb 23 24 ?_;refine wpAnyH_done kR ?_ _;clear j0 j1 j2 hw y1;have HTZ:Hid (TW w v0 v1 v2 v3 (w.heap.size+1) 37 D A Q E nn bt wz):=HT0.out.next HBZ.out;go_wp2_with(go_at_call 89;(with_reducible refine(HRD.out _).mono ?_);rintro e w5 ⟨u,rfl,hou,hb5⟩;obtain⟨pu,qu,rfl⟩:=AK hou;have HOU:Hid (w5.ownsRow wz.heap.size 3 1 (.slice pu R.length qu) R.length (BQ R)):=hou;have HB5:Hid (Below wz.heap.size wz w5):=hb5;clear hou hb5)
    go_loopw [11] (fun kv wr=>∃k:Nat,k<=R.length/\kv=.int .i64 (k:Int)/\wr=w5/\∀x∈R.take k,x.toNat∈S) (fun kv _=>R.length-(intOf kv).toNat)
    case atStart=>exact⟨0,Nat.zero_le _,rfl,rfl,fun x hx=>by simp at hx⟩
    case round=>
     obtain⟨k,hk,rfl,rfl,hin⟩:=hrel;clear c0 c1 c2 c3 i0 i1 i2 i3 i4 i5 i6;obtain⟨hbq,c0,c1,c2,c3,i0,i1,i2,i3,i4,i5,i6⟩:=HTZ.out.next HB5.out;by_cases hlt:k<R.length
     ·have hx:=HRP1.out R[k] (List.getElem_mem hlt);obtain⟨d,hd⟩:∃d:Nat,R[k]=(d:Int):=⟨R[k].toNat,oM⟩
      obtain⟨gs,rfl,hcs⟩:=HSET.out d oM;have hcs':=kc hbq hcs;obtain⟨gu,cu,eu,-⟩:=HOU.out.form oM;simp only[Value.slice.injEq]at eu;obtain⟨rfl,-,rfl⟩:=eu;have hcu:wr.cell? ⟨gu,k,none⟩=some (.int .i64 (d:Int)):=by rw[HOU.out.cellAt k oM];simp[BQ,hlt,hd]
      have HMEM:Hid (R[k]=(d:Int)):=hd;have HIN:Hid (∀x∈R.take k,x.toNat∈S):=hin;have t0:(0:Int)<=(k:Int):=oM;have t1:(k:Int)<(R.length:Int):=oM;have t2:(0:Int)<=(d:Int):=oM;have t3:(d:Int)<(M:Int):=oM;have wk:IntKind.i64.wrap ((k:Int)+1)=((k+1:Nat):Int):=by rw[IntKind.wrap_i64];omega
      clear hx hd hin hcs hk;cases hX:decide (d∈S)
      ·rw[hX]at hcs';have hall:(R.all fun n=>decide (n.toNat∈S))=false:=by
        rw[List.all_eq_false];exact⟨R[k],List.getElem_mem hlt,by rw[HMEM.out,Int.toNat_natCast,hX];decide⟩
       have HQF:Hid (false=RES):=by show _=_;have:=HR2.out;rw[hall,Bool.false_and]at this;exact this
       clear hX hall;go_wp2;go_ret;exact⟨A9 HQF.out,hbq⟩
      ·rw[hX]at hcs';have HX:Hid (d∈S):=by show d∈S;exact of_decide_eq_true hX
       clear hX;go_wp2;go_roundw
       case rel=>
        refine⟨k+1,oM,gN,fT,fun x hx=>?_⟩;rw[List.take_succ_eq_append_getElem hlt,List.mem_append]at hx;rcases hx with hx|hx
        ·exact HIN.out x hx
        ·simp only[List.mem_singleton]at hx;rw[hx,HMEM.out,Int.toNat_natCast];exact HX.out
       case measure=>simp[intOf];omega
     ·have hkk:k=R.length:=oM;have hall:(R.all fun n=>decide (n.toNat∈S))=true:=by
       rw[List.all_eq_true];intro x hx;rw[hkk,List.take_length]at hin;simpa using hin x hx
      have h9:=HR2.out;rw[hall,Bool.true_and]at h9;have HTS:Hid _:=h9;clear h9;have t1:¬ (k:Int)<(R.length:Int):=oM;clear hall hin hk hlt;have HQ:Hid (true=RES):=by show _=_;have:=HTS.out;simpa using this
      go_wp2;go_ret;exact⟨A9 HQ.out,hbq⟩
   ·have h7':(op != 37)=true:=by simpa using h7
    have h7b:(op==37)=false:=by simpa using h7
    rw[h7',Bool.true_and]at hRES;cases hVV:(V != par)
    ·rw[hVV,Bool.not_false,Bool.true_and]at hRES;have HR2:Hid (((R.all fun n=>decide (n.toNat∈S))&&(if op=34\/op=36 then decide (n<64)else if op=35 then decide (0<n)&& !true else if op=37 then true else true))=RES):=hRES;clear hRES;have hVb:(V==par)=true:=by simpa using hVV
     go_enter func60,ntmps60;go_wp2;refine rG (fun v=>v.cell? ⟨g,m*3+1,none⟩=some (.int .i64 par)/\v.cell? ⟨w.heap.size,0,none⟩=some v0/\v.cell? ⟨w.heap.size,1,none⟩=some v1/\v.cell? ⟨w.heap.size,2,none⟩=some v2/\v.cell? ⟨w.heap.size,3,none⟩=some v3/\v.cell? ⟨w.heap.size+1,0,none⟩=some (.int .i64 op)/\v.cell? ⟨w.heap.size+1,1,none⟩=some (.int .i64 D)/\v.cell? ⟨w.heap.size+1,2,none⟩=some (.int .i64 A)/\v.cell? ⟨w.heap.size+1,3,none⟩=some (.int .i64 Q)/\v.cell? ⟨w.heap.size+1,4,none⟩=some (.int .i64 E)/\v.cell? ⟨w.heap.size+1,5,none⟩=some (.int .i64 nn)/\v.cell? ⟨w.heap.size+1,6,none⟩=some (.int .u32 bt)) fun hHeld=>?_;refine Tb 0 1 ?_;clear hHeld;refine AC 2 fun K hK=>?_;go_simp;(go_at_call 87;(with_reducible refine(HFIT.out _ (bel HT0.out.bel (A6 _))).mono ?_);rintro e w1 ⟨rfl,hb1⟩;have HB1:Hid (Below ((w.alloc (.cells #[v0,v1,v2,v3] 27)).alloc (.cells #[.int .i64 op,.int .i64 D,.int .i64 A,.int .i64 Q,.int .i64 E,.int .i64 nn,.int .u32 bt] 44)).heap.size ((w.alloc (.cells #[v0,v1,v2,v3] 27)).alloc (.cells #[.int .i64 op,.int .i64 D,.int .i64 A,.int .i64 Q,.int .i64 E,.int .i64 nn,.int .u32 bt] 44)) w1):=bel (A6 _) hb1;clear hb1;obtain⟨-,c0,c1,c2,c3,i0,i1,i2,i3,i4,i5,i6⟩:=HT0.out.next HB1.out;have y1:=kc (bel HT0.out.bel HB1.out) z1);try(go_wp2_with fail)
     refine Ax hK fun hHeld=>?_;clear hK K;refine Tf 3 4 5 6 7 8 ?_;refine Tf 9 10 11 12 13 15 ?_;refine Tf 16 17 18 19 20 21 ?_;clear hHeld;refine AC 14 fun K hK=>?_;go_simp;(go_at_call 88;(with_reducible refine(HVEC.out _ (bel HT0.out.bel HB1.out)).mono ?_);rintro e wz ⟨rfl,hbz⟩;have HBZ:Hid (Below ((w.alloc (.cells #[v0,v1,v2,v3] 27)).alloc (.cells #[.int .i64 op,.int .i64 D,.int .i64 A,.int .i64 Q,.int .i64 E,.int .i64 nn,.int .u32 bt] 44)).heap.size ((w.alloc (.cells #[v0,v1,v2,v3] 27)).alloc (.cells #[.int .i64 op,.int .i64 D,.int .i64 A,.int .i64 Q,.int .i64 E,.int .i64 nn,.int .u32 bt] 44)) wz):=bel HB1.out hbz;clear hbz c0 c1 c2 c3 i0 i1 i2 i3 i4 i5 i6 y1;obtain⟨-,c0,c1,c2,c3,i0,i1,i2,i3,i4,i5,i6⟩:=HT0.out.next HBZ.out;have y1:=kc (bel HT0.out.bel HBZ.out) z1);try(go_wp2_with fail)
     refine Ax hK fun hHeld=>?_;clear hK K;refine Tc 22 23 24 ?_;refine wpAnyH_done kR ?_ _;clear j0 j1 j2 hw y1 h7' h7b;exact Zab
    ·rw[hVV,Bool.not_true,Bool.false_and]at hRES;have HQF:Hid (false=RES):=hRES;clear hRES;have hVb:(V==par)=false:=by simpa using hVV
     go_enter func60,ntmps60;go_wp2;refine rG (fun v=>v.cell? ⟨g,m*3+1,none⟩=some (.int .i64 par)/\v.cell? ⟨w.heap.size,0,none⟩=some v0/\v.cell? ⟨w.heap.size,1,none⟩=some v1/\v.cell? ⟨w.heap.size,2,none⟩=some v2/\v.cell? ⟨w.heap.size,3,none⟩=some v3/\v.cell? ⟨w.heap.size+1,0,none⟩=some (.int .i64 op)/\v.cell? ⟨w.heap.size+1,1,none⟩=some (.int .i64 D)/\v.cell? ⟨w.heap.size+1,2,none⟩=some (.int .i64 A)/\v.cell? ⟨w.heap.size+1,3,none⟩=some (.int .i64 Q)/\v.cell? ⟨w.heap.size+1,4,none⟩=some (.int .i64 E)/\v.cell? ⟨w.heap.size+1,5,none⟩=some (.int .i64 nn)/\v.cell? ⟨w.heap.size+1,6,none⟩=some (.int .u32 bt)) fun hHeld=>?_;refine Tb 0 1 ?_;clear hHeld;refine AC 2 fun K hK=>?_;go_simp;(go_at_call 87;(with_reducible refine(HFIT.out _ (bel HT0.out.bel (A6 _))).mono ?_);rintro e w1 ⟨rfl,hb1⟩;have HB1:Hid (Below ((w.alloc (.cells #[v0,v1,v2,v3] 27)).alloc (.cells #[.int .i64 op,.int .i64 D,.int .i64 A,.int .i64 Q,.int .i64 E,.int .i64 nn,.int .u32 bt] 44)).heap.size ((w.alloc (.cells #[v0,v1,v2,v3] 27)).alloc (.cells #[.int .i64 op,.int .i64 D,.int .i64 A,.int .i64 Q,.int .i64 E,.int .i64 nn,.int .u32 bt] 44)) w1):=bel (A6 _) hb1;clear hb1;obtain⟨-,c0,c1,c2,c3,i0,i1,i2,i3,i4,i5,i6⟩:=HT0.out.next HB1.out;have y1:=kc (bel HT0.out.bel HB1.out) z1);try(go_wp2_with fail)
     refine Ax hK fun hHeld=>?_;clear hK K;refine Tf 3 4 5 6 7 8 ?_;refine Tf 9 10 11 12 13 15 ?_;refine Tf 16 17 18 19 20 21 ?_;clear hHeld;refine AC 14 fun K hK=>?_;go_simp;(go_at_call 88;(with_reducible refine(HVEC.out _ (bel HT0.out.bel HB1.out)).mono ?_);rintro e wz ⟨rfl,hbz⟩;have HBZ:Hid (Below ((w.alloc (.cells #[v0,v1,v2,v3] 27)).alloc (.cells #[.int .i64 op,.int .i64 D,.int .i64 A,.int .i64 Q,.int .i64 E,.int .i64 nn,.int .u32 bt] 44)).heap.size ((w.alloc (.cells #[v0,v1,v2,v3] 27)).alloc (.cells #[.int .i64 op,.int .i64 D,.int .i64 A,.int .i64 Q,.int .i64 E,.int .i64 nn,.int .u32 bt] 44)) wz):=bel HB1.out hbz;clear hbz c0 c1 c2 c3 i0 i1 i2 i3 i4 i5 i6 y1;obtain⟨-,c0,c1,c2,c3,i0,i1,i2,i3,i4,i5,i6⟩:=HT0.out.next HBZ.out;have y1:=kc (bel HT0.out.bel HBZ.out) z1);try(go_wp2_with fail)
     refine Ax hK fun hHeld=>?_;clear hK K;refine Tc 22 23 24 ?_;refine wpAnyH_done kR ?_ _;go_wp2;go_ret;exact⟨A9 HQF.out,bel hb00 HBZ.out⟩
structure CX(w:World)(v0 v1 v2 v3:Value)(v:World):Prop where
 bel:Below w.heap.size w v
 lt:w.heap.size<v.heap.size
 c0:v.cell? ⟨w.heap.size,0,none⟩=some v0
 c1:v.cell? ⟨w.heap.size,1,none⟩=some v1
 c2:v.cell? ⟨w.heap.size,2,none⟩=some v2
 c3:v.cell? ⟨w.heap.size,3,none⟩=some v3
theorem CX.next{w:World}{v0 v1 v2 v3:Value}{v v':World}(h:CX w v0 v1 v2 v3 v)(k:Below v.heap.size v v'):CX w v0 v1 v2 v3 v':=
 ⟨Go.Proofs.YtcdpmgldkibfiaaGreat.bel h.bel k,Nat.lt_of_lt_of_le h.lt k.size,kc k h.c0,kc k h.c1,kc k h.c2,kc k h.c3⟩
theorem CX.on{w:World}{v0 v1 v2 v3:Value}{v v':World}(h:CX w v0 v1 v2 v3 v)(k:Below (w.heap.size+1) v v'):CX w v0 v1 v2 v3 v':=
 have f:∀j,v'.cell? ⟨w.heap.size,j,none⟩=v.cell? ⟨w.heap.size,j,none⟩:=fun j=>k.cell (Nat.lt_succ_self _)
 ⟨h.bel.trans (k.mono (Nat.le_succ _)),Nat.lt_of_lt_of_le h.lt k.size,(f 0).trans h.c0,(f 1).trans h.c1,(f 2).trans h.c2,(f 3).trans h.c3⟩
theorem CX.start(w:World)(v0 v1 v2 v3:Value):CX w v0 v1 v2 v3 (w.alloc (.cells #[v0,v1,v2,v3] 27)):=
 ⟨A0 _ _,sM,sG,sG,sG,sG⟩
theorem Nb{α:Type}(p:α->Bool){l:List α}{k:Nat}(h:k<l.length)(ht:(l.take k).all p=true)(hp:p l[k]=true):(l.take (k+1)).all p=true:=by
 rw[List.take_succ_eq_append_getElem h,List.all_append,ht];simp[hp]
theorem Qy{α:Type}(p:α->Bool){l:List α}{k:Nat}(h:k<l.length)(hp:p l[k]=false):l.all p=false:=by
 rw[List.all_eq_false];exact⟨l[k],List.getElem_mem h,by simp[hp]⟩
theorem Fj(v0 v1 v2 v3:Value)(c:Cd)(hk:Ba c)(w:World)(hv:Cj w v0 v1 v2 v3 c)(E:Int)(hE:(AY c.sign≠0/\E=AY c.sign)\/(AY c.sign=0/\(16384<c.regs.length\/32768<c.list.length)/\E=181)\/(AY c.sign=0/\¬16384<c.regs.length/\¬32768<c.list.length/\4096<c.slots.length/\E=180)):
 Calls prog 32 #[.agg #[v0,v1,v2,v3]] w fun e w'=>e=.returned (.tuple #[.int .i64 E,.int .i64 (-1)])/\Below w.heap.size w w':=by
 have hSG:∀v,Below w.heap.size w v->Calls prog 57 #[v0] v fun e w'=>e=.returned (.int .i64 (AY c.sign))/\Below v.heap.size v w':=fun v hb=>JS v0 c.sign hk.signL hk.names v (hv.below hb).sign.rd;have l1:=hk.regsL;have l2:=hk.slotsL;have l3:=hk.listL;obtain⟨p0,q0,rfl,-⟩:=id hv.sign;obtain⟨p1,q1,rfl,-⟩:=id hv.regs;obtain⟨p2,q2,rfl,-⟩:=id hv.slots;obtain⟨p3,q3,rfl,-⟩:=id hv.list;obtain⟨n0,hn0⟩:∃n,c.sign.length=n:=⟨_,rfl⟩
 obtain⟨n1,hn1⟩:∃n,c.regs.length=n:=⟨_,rfl⟩
 obtain⟨n2,hn2⟩:∃n,c.slots.length=n:=⟨_,rfl⟩
 obtain⟨n3,hn3⟩:∃n,c.list.length=n:=⟨_,rfl⟩
 obtain⟨K,hK⟩:∃n,AY c.sign=n:=⟨_,rfl⟩
 rw[hn0,hK]at hSG;rw[hK,hn1,hn2,hn3]at hE;rw[hn1]at l1;rw[hn2]at l2;rw[hn3]at l3;rw[hn0,hn1,hn2,hn3];have HSG:Hid _:=hSG;clear hSG hn0 hn1 hn2 hn3 hK hv hk;rcases hE with⟨h1,rfl⟩|⟨rfl,h2,rfl⟩|⟨rfl,h2,h3,h4,rfl⟩
 ·have h1':(E==0)=false:=by simpa using h1
  have h1'':(E != 0)=true:=by simpa using h1
  exact Zbd
 ·by_cases h5:16384<n1
  ·have h6:(16384:Int)<(n1:Int):=oM;exact Zbd
  ·have h6:(n1:Int)<=16384:=oM;have h7:(32768:Int)<(n3:Int):=oM;clear h5;exact Zbd
 ·have h6:(n1:Int)<=16384:=oM;have h7:(n3:Int)<=32768:=oM;have h8:(4096:Int)<(n2:Int):=oM;exact Zbd
theorem Jn{α:Type}{f:α->List Value}{k bytes:Nat}{t e:TypeId}{z:Value}{i:TypeInfo}(hk:0<k)(hf:∀x,(f x).length=k)(h1:∀x,∀u∈f x,u.oneCell'=true)(ht:prog.underlying t=some (.slice e))(hi:prog.info? e=some i)(hz:i.zero=some z)(hsize:i.size=k)(hby:i.bytes=bytes)(hzs:z.cells.size=k)
 {l:List α} {p:Option Addr} {d:Nat} {w:World} (h:Bz k f w (.slice p l.length d) l) (hl:l.length<=maxLen) (hb:l.length*bytes<=140737488355328) (ty:TypeId):
 ∃p' c' w',(Builtin.append_ #[t,t] ty #[.slice (some ⟨w.heap.size,0,none⟩) 0 0,.slice p l.length d]).run prog (w.alloc (.cells #[] e))=.ok (.slice p' l.length c') w'/\Below w.heap.size w w'/\En (fun b=>b<w.heap.size) k f w' (.slice p' l.length c') l/\w'.ownsRow w.heap.size e k (.slice p' l.length c') l.length (AU f l):=by
 have hown0:(w.alloc (.cells #[] e)).ownsRow w.heap.size e k (.slice (some ⟨w.heap.size,0,none⟩) 0 0) 0 []:=⟨sM,.inr ⟨w.heap.size,0,#[],rfl,Nat.le_refl _,heap_alloc_new w _,Nat.le_refl _,mL,sM,sM⟩⟩
 by_cases h0:l=[]
 ·subst h0;refine⟨some ⟨w.heap.size,0,none⟩,0,w.alloc (.cells #[] e),?_,A0 _ _,⟨_,_,rfl,.inl rfl⟩,by simpa[AU]using hown0⟩;exact Zdi
 ·have h':=h.below (A0 w (.cells #[] e));obtain⟨p',c',hv,h2⟩:=h';simp only[Value.slice.injEq]at hv;obtain⟨rfl,-,rfl⟩:=hv;obtain⟨b,o,rfl,h3⟩:=h2.resolve_left h0;clear h2;have hpos:0<l.length:=List.length_pos_iff.2 h0;obtain⟨g,cap,w',hr,hown,hg,hat,hlt⟩:=run_append_lies (P:=prog) (w.alloc (.cells #[] e)) t ty w.heap.size e i z k bytes ht hi hz hsize hby hzs hk (.slice (some ⟨w.heap.size,0,none⟩) 0 0) 0 [] hown0 ⟨b,o,none⟩ l.length d (AU f l) (ES hf l) (LX hk hf h3) Zgw hpos oM (by rw[Nat.zero_add];exact hb) sM _ rfl;rw[Nat.zero_add]at hr hown;rw[List.nil_append]at hown;have hgb:∀g',(Value.slice (some ⟨g,0,none⟩) l.length cap).ownBlock=some g'->w.heap.size<=g':=fun g' e=>(hown.lt g' e).1;refine⟨_,cap,w',hr,⟨hg.os,hg.tape,hg.output,Nat.le_trans sM hg.size,fun j hj=>(hg.block j sO (by show some j≠some w.heap.size;simp;omega)).trans ((A0 w (.cells #[] e)).block j hj)⟩,?_,hown⟩;obtain⟨q,cc,hq,hrow⟩:=Cw hf hown;simp only[Value.slice.injEq]at hq;obtain⟨rfl,-,rfl⟩:=hq;refine⟨_,_,rfl,hrow.imp id fun⟨b',o',hp,hh⟩=>⟨b',o',hp,?_,?_,hh⟩⟩
  ·simp only[Option.some.injEq,Addr.mk.injEq]at hp;have:=hgb g rfl;omega
  ·simp only[Option.some.injEq,Addr.mk.injEq]at hp;have:=(hown.lt g rfl).2;omega
theorem S6(v:Value)(l:List Cf)(w:World)(h:Bz 3 B0 w v l)(hl:l.length<=1000000):
 Calls prog 29 #[v] w fun e w'=>∃p c,e=.returned (.slice p l.length c)/\En (fun b=>b<w.heap.size) 3 B0 w' (.slice p l.length c) l/\w'.ownsRow w.heap.size 73 3 (.slice p l.length c) l.length (AU B0 l)/\Below w.heap.size w w':=by
 obtain⟨i0,hi0,hz0,hz1,hz2⟩:=info_parts JC;have hv:=h;obtain⟨p,c,rfl,hh⟩:=h;cases p with
 |none=>
  have hn:l=[]:=by
   rcases hh with e|⟨b,o,e,_⟩
   ·exact e
   ·cases e
  subst hn;clear hh hv;have heq:∀ (w:World) (n:Nat),(binOp .eql 22 (.slice none n c) (.slice none 0 0)).run prog w=.ok (.bool true) w:=fun w n=>Go.run_eql_slice_nil w _ _ none n c underlying22;go_enter func29,ntmps29;exact Zdz
 |some ad=>
  obtain⟨p',c',w',hr,hb,hrow,hown⟩:=Jn dE EZ NZ underlying22 hi0 hz0 hz1 hz2 rfl hv mL oM 22;have HF:Hid (En (fun b=>b<w.heap.size) 3 B0 w' (.slice p' l.length c') l/\w'.ownsRow w.heap.size 73 3 (.slice p' l.length c') l.length (AU B0 l)/\Below w.heap.size w w'):=⟨hrow,hown,hb⟩
  obtain⟨n,hn⟩:∃n,l.length=n:=⟨_,rfl⟩
  rw[hn]at hr HF ⊢;clear hh hv hb hrow hown hn;have heq:∀ (w:World),(binOp .eql 22 (.slice (some ad) n c) (.slice none 0 0)).run prog w=.ok (.bool false) w:=fun w=>Go.run_eql_slice_nil w _ _ (some ad) n c underlying22;go_enter func29,ntmps29;go_wp2_with(at_builtin;refine An rfl _ _ 22 rfl _ _ _ rfl rfl hr ?_);go_ret;exact⟨p',c',rfl,HF.out⟩
theorem Ug(v:Value)(l:List Ty)(w:World)(h:Bz 2 Kp w v l)(hl:l.length<=1000000):
 Calls prog 30 #[v] w fun e w'=>∃p c,e=.returned (.slice p l.length c)/\En (fun b=>b<w.heap.size) 2 Kp w' (.slice p l.length c) l/\w'.ownsRow w.heap.size 46 2 (.slice p l.length c) l.length (AU Kp l)/\Below w.heap.size w w':=by
 obtain⟨i0,hi0,hz0,hz1,hz2⟩:=info_parts Lv;have hv:=h;obtain⟨p,c,rfl,hh⟩:=h;cases p with
 |none=>
  have hn:l=[]:=by
   rcases hh with e|⟨b,o,e,_⟩
   ·exact e
   ·cases e
  subst hn;clear hh hv;have heq:∀ (w:World) (n:Nat),(binOp .eql 23 (.slice none n c) (.slice none 0 0)).run prog w=.ok (.bool true) w:=fun w n=>Go.run_eql_slice_nil w _ _ none n c underlying23;go_enter func30,ntmps30;exact Zdz
 |some ad=>
  obtain⟨p',c',w',hr,hb,hrow,hown⟩:=Jn dE Gn RH underlying23 hi0 hz0 hz1 hz2 rfl hv mL oM 23;have HF:Hid (En (fun b=>b<w.heap.size) 2 Kp w' (.slice p' l.length c') l/\w'.ownsRow w.heap.size 46 2 (.slice p' l.length c') l.length (AU Kp l)/\Below w.heap.size w w'):=⟨hrow,hown,hb⟩
  obtain⟨n,hn⟩:∃n,l.length=n:=⟨_,rfl⟩
  rw[hn]at hr HF ⊢;clear hh hv hb hrow hown hn;have heq:∀ (w:World),(binOp .eql 23 (.slice (some ad) n c) (.slice none 0 0)).run prog w=.ok (.bool false) w:=fun w=>Go.run_eql_slice_nil w _ _ (some ad) n c underlying23;go_enter func30,ntmps30;go_wp2_with(at_builtin;refine An rfl _ _ 23 rfl _ _ _ rfl rfl hr ?_);go_ret;exact⟨p',c',rfl,HF.out⟩
theorem Uf(v:Value)(l:List Sl)(w:World)(h:Bz 5 MU w v l)(hl:l.length<=1000000):
 Calls prog 31 #[v] w fun e w'=>∃p c,e=.returned (.slice p l.length c)/\En (fun b=>b<w.heap.size) 5 MU w' (.slice p l.length c) l/\w'.ownsRow w.heap.size 48 5 (.slice p l.length c) l.length (AU MU l)/\Below w.heap.size w w':=by
 obtain⟨i0,hi0,hz0,hz1,hz2⟩:=info_parts Lu;have hv:=h;obtain⟨p,c,rfl,hh⟩:=h;cases p with
 |none=>
  have hn:l=[]:=by
   rcases hh with e|⟨b,o,e,_⟩
   ·exact e
   ·cases e
  subst hn;clear hh hv;have heq:∀ (w:World) (n:Nat),(binOp .eql 24 (.slice none n c) (.slice none 0 0)).run prog w=.ok (.bool true) w:=fun w n=>Go.run_eql_slice_nil w _ _ none n c underlying24;go_enter func31,ntmps31;exact Zdz
 |some ad=>
  obtain⟨p',c',w',hr,hb,hrow,hown⟩:=Jn dE Ht RD underlying24 hi0 hz0 hz1 hz2 rfl hv mL oM 24;have HF:Hid (En (fun b=>b<w.heap.size) 5 MU w' (.slice p' l.length c') l/\w'.ownsRow w.heap.size 48 5 (.slice p' l.length c') l.length (AU MU l)/\Below w.heap.size w w'):=⟨hrow,hown,hb⟩
  obtain⟨n,hn⟩:∃n,l.length=n:=⟨_,rfl⟩
  rw[hn]at hr HF ⊢;clear hh hv hb hrow hown hn;have heq:∀ (w:World),(binOp .eql 24 (.slice (some ad) n c) (.slice none 0 0)).run prog w=.ok (.bool false) w:=fun w=>Go.run_eql_slice_nil w _ _ (some ad) n c underlying24;go_enter func31,ntmps31;go_wp2_with(at_builtin;refine An rfl _ _ 24 rfl _ _ _ rfl rfl hr ?_);go_ret;exact⟨p',c',rfl,HF.out⟩
theorem CZ{c:Cd}(h:(Am c).1=0):Good c/\AE c ⟨[],[]⟩ c.list=true:=by
 obtain⟨h1,h2,_⟩:=EP.1 h;refine⟨?_,h2⟩;unfold Cm at h1;by_cases e1:AY c.sign=0
 ·rw[if_neg (by simp[e1])]at h1;by_cases e2:16384<c.regs.length\/32768<c.list.length
  ·rw[if_pos e2]at h1;cases h1
  ·rw[if_neg e2]at h1;by_cases e3:4096<c.slots.length
   ·rw[if_pos e3]at h1;cases h1
   ·rw[if_neg e3]at h1;by_cases e4:(As c&&Bv c)=true
    ·simp only[Bool.and_eq_true]at e4;have e5:¬c.sign.length>64/\c.sign.all BR=true:=by
      unfold AY at e1;by_cases q1:c.sign.length>64
      ·rw[if_pos q1]at e1;cases e1
      ·rw[if_neg q1]at e1;refine⟨q1,?_⟩;cases q2:c.sign.all BR with
       |true=>rfl
       |false=>rw[if_pos q2]at e1;cases e1
     have hm:∀p∈c.sign,BR p=true:=List.all_eq_true.1 e5.2;refine⟨fun p hp=>?_,hm,List.all_eq_true.1 e4.1,List.all_eq_true.1 e4.2,oM,oM,oM,oM⟩;have:=hm p hp;unfold BR at this;simp only[Bool.and_eq_true,decide_eq_true_eq]at this;omega
    ·rw[if_neg e4]at h1;cases h1
 ·rw[if_pos e1]at h1;exact absurd h1 e1
theorem Nj{c:Cd}(hg:Good c){s:Sl}(hs:s∈c.slots)(hb:Az s.bits):OR c s.ty (Bi c s):=by
 have hm:=hg.slots s hs;unfold Bf at hm;simp only[Bool.and_eq_true]at hm;have hb2:=hm.2;unfold F8 at hb2;refine⟨by unfold Bi Es;simp,fun y hy=>?_,?_⟩
 ·unfold Bi Es at hy;rw[List.eq_of_mem_replicate hy];exact CN _ hb
 ·show 0<=s.int_/\s.int_<=2147483647;split at hb2
  ·unfold D8 at hb2;simp only[Bool.and_eq_true,decide_eq_true_eq,beq_iff_eq]at hb2;exact hb2.2
  ·simp only[Bool.and_eq_true,beq_iff_eq]at hb2;omega
theorem M2{c:Cd}{k:Nat}(h:k<(BP c).length)(h':k<c.slots.length):(BP c)[k]=Bi c c.slots[k]:=by simp[BP]
section
variable {w W1 : World} {FR n C : Nat} {sv gv pv : Value}
end
def OZ(c:Cd)(l:List Hd):Nat->List Hd
 |0=>l
 |j+1=>match c.slots[j]? with
  |some s=>if s.keep then OZ c l j else(OZ c l j).set j (Bi c s)
  |none=>OZ c l j
def Bo(c:Cd)(l:List Hd):Fr:=⟨fun _=>0,fun _=>0,fun _=>[],OZ c l c.slots.length,fun _ _=>0⟩
def Eo(c:Cd)(l:List Hd)(G P:List (List Int)):Fr:=(Sk c G P (Bo c l,0) c.list).1
theorem GS(c:Cd)(l:List Hd):∀j,(OZ c l j).length=l.length
 |0=>rfl
 |j+1=>by
  unfold OZ;split
  ·split
   ·exact GS c l j
   ·rw[List.length_set];exact GS c l j
  ·exact GS c l j
structure FI(L:List (List Int)):Prop where
 len:L.length<=140737488351232
 lens:∀l∈L,l.length<=140737488351232
 isP:∀l∈L,∀y∈l,Az y
theorem J4{c:Cd}{L:List (List Int)}(h:C9 c.sign (L.map fun l=>l.length)=true)(hk:FI L)(hg:Good c):CV c L:=by
 have key:∀ (ps:List Cf) (M:List (List Int)),(∀p∈ps,BR p=true/\1<=p.len)->C9 ps (M.map fun l=>l.length)=true->M.length=ps.length/\∀p (h:p<M.length),(M[p]).length=(ps[p]?).elim 0 NT:=by
  intro ps;induction ps with
  |nil=>intro M _ h;cases M with
   |nil=>exact⟨rfl,fun p h=>absurd h (Nat.not_lt_zero _)⟩
   |cons a M=>simp[C9]at h
  |cons q ps ih=>
   intro M hm h;cases M with
   |nil=>simp[C9]at h
   |cons a M=>
    simp only[List.map_cons,C9,Bool.and_eq_true,decide_eq_true_eq]at h;obtain⟨i1,i2⟩:=ih M (fun p hp=>hm p (by simp[hp])) h.2;refine⟨by simp[i1],fun p hp=>?_⟩;cases p with
    |zero=>
     show a.length=NT q;unfold NT;omega
    |succ p=>exact i2 p (by simpa using hp)
 obtain⟨k1,k2⟩:=key c.sign L (fun p hp=>⟨hg.kind p hp,(hg.len p hp).1⟩) h;exact⟨k1,k2,hk.isP⟩
theorem FL.cellsOf{T:Nat->Prop}{w:World}{v:Value}{L:List (List Int)}(h:FL T w v L):∃p c,v=.slice p L.length c/\∀i (hi:i<L.length),∃b o q d,p=some ⟨b,o,none⟩/\w.cell? ⟨b,o+i,none⟩=some (.slice q (L[i]).length d)/\Bb w q (L[i]).length (fun j=>.int .u32 (BZ L[i] j)):=by
 obtain⟨p,c,hv,hh⟩:=h;refine⟨p,c,hv,fun i hi=>?_⟩;rcases hh with e|⟨b,o,hp,_,_,hh⟩
 ·rw[e]at hi;exact absurd hi (Nat.not_lt_zero _)
 ·obtain⟨u,h1,h2⟩:=hh i hi;obtain⟨q,d,hq⟩:=h2.len;rw[hq]at h1 h2;exact⟨b,o,q,d,hp,h1,h2.reads.2⟩
theorem MG{tag:Nat->Nat}{v:Value}{m g b k H:Nat}(tv:∀g,v.ownBlock=some g->tag g=m)(hat:v.ownBlock=some g\/g=H)(hb:tag b=k)(hk:k≠m)(hlt:b<H):b≠g:=by
 rcases hat with hat|hat
 ·exact AD hb (tv g hat) hk
 ·omega
section
variable {E : Nat} {c : Cd} {s : RW} {V : World} {B C SB IB MB nm rb ro q1 : Nat} {vk vo vl : Value} {tag : Nat -> Nat}
theorem WK.growReck(h:WK E c s V B C SB IB MB nm rb ro q1 vk vo vl tag){w3:World}{g cap:Nat}{L:List Rk}(hg:V.grownBy w3 vk.ownBlock)(hat:vk.ownBlock=some g\/g=V.heap.size)(hown:w3.ownsRow E 108 9 (.slice (some ⟨g,0,none⟩) L.length cap) L.length (F2 L)):
 WK E c {s with reck:=L} (w3.setCell ⟨B,4,none⟩ (.slice (some ⟨g,0,none⟩) L.length cap)) B C SB IB MB nm rb ro q1 (.slice (some ⟨g,0,none⟩) L.length cap) vo vl (fun b=>if b=g then 5 else tag b)/\w3.cell? ⟨B,4,none⟩=some vk/\w3.frozen? ⟨B,4,none⟩=false/\Below E V w3:=by
 have hne:∀b k,b<V.heap.size->tag b=k->k≠5->b≠g:=fun b k hb hk hm=>MG h.tk hat hk hm hb;have k3:∀b k,b<V.heap.size->tag b=k->k≠5->w3.heap[b]? =V.heap[b]? :=fun b k hb hk hm=>hg.block b hb fun e=>hm (by rw[←hk];exact h.tk b e.symm);have kE:∀b,b<E->(w3.setCell ⟨B,4,none⟩ (.slice (some ⟨g,0,none⟩) L.length cap)).heap[b]? =V.heap[b]? :=fun b hb=>(Below.heap_setCell _ _ _ _ Zhj).trans (hg.block b (Nat.lt_of_lt_of_le hb h.lt) fun e=>by have:=(h.reck.lt b e.symm).1;omega);have kk:∀b k,b<V.heap.size->tag b=k->k≠5->k≠1->(w3.setCell ⟨B,4,none⟩ (.slice (some ⟨g,0,none⟩) L.length cap)).heap[b]? =V.heap[b]? :=fun b k hb hk hm h1=>(Below.heap_setCell _ _ _ _ (AD hk h.tB h1)).trans (k3 b k hb hk hm);have hB3:=h.b.of_block (k3 B 1 h.b.lt h.tB dE);refine⟨?_,hB3.cell (i:=4) dE,hB3.frozen 4,(Below.refl E V).grown hg h.lt (fun q e=>(h.reck.lt q e).1)⟩;exact{h with
  b:=(hB3.set 4 _).congr fun j hj=>by
   exact Zx
  c1:=fun h0=>by rw[World.cell?_of_block (a:=⟨C,1,none⟩) (kE C h.hC)];exact h.c1 h0
  regs:=fun r hr=>(h.regs r hr).of_block (kE rb (by have:=h.hR;omega))
  st:=h.st.of_block (kk _ 2 h.st.lt h.tS dE dE)
  ir:=h.ir.of_block (kk _ 3 h.ir.lt h.tI dE dE)
  map:=h.map.block (kk _ 4 h.map.lt h.tM dE dE)
  reck:=Ad hown fun q hq=>Below.heap_setCell _ _ _ _ (by have e:g=q:=Option.some.inj hq;show q≠B;rw[←e];exact(hne B 1 h.b.lt h.tB dE).symm)
  opn:=Ad h.opn fun q hq=>kk q 6 (h.opn.lt q hq).2 (h.tO q hq) dE dE
  left:=Ad h.left fun q hq=>kk q 7 (h.left.lt q hq).2 (h.tl q hq) dE dE
  tB:=by show(if B=g then _ else _)=_;rw[if_neg (hne _ 1 h.b.lt h.tB dE)];exact h.tB
  tS:=by show(if SB=g then _ else _)=_;rw[if_neg (hne _ 2 h.st.lt h.tS dE)];exact h.tS
  tI:=by show(if IB=g then _ else _)=_;rw[if_neg (hne _ 3 h.ir.lt h.tI dE)];exact h.tI
  tM:=by show(if MB=g then _ else _)=_;rw[if_neg (hne _ 4 h.map.lt h.tM dE)];exact h.tM
  tk:=fun q hq=>by show(if q=g then _ else _)=_;rw[if_pos (Option.some.inj hq).symm]
  tO:=fun q hq=>by show(if q=g then _ else _)=_;rw[if_neg (hne _ 6 (h.opn.lt q hq).2 (h.tO q hq) dE)];exact h.tO q hq
  tl:=fun q hq=>by show(if q=g then _ else _)=_;rw[if_neg (hne _ 7 (h.left.lt q hq).2 (h.tl q hq) dE)];exact h.tl q hq}
theorem WK.growOpen(h:WK E c s V B C SB IB MB nm rb ro q1 vk vo vl tag){w3:World}{g cap:Nat}{L:List Nat}(hg:V.grownBy w3 vo.ownBlock)(hat:vo.ownBlock=some g\/g=V.heap.size)(hown:w3.ownsRow E 3 1 (.slice (some ⟨g,0,none⟩) L.length cap) L.length (DK L)):
 WK E c {s with opn:=L} (w3.setCell ⟨B,5,none⟩ (.slice (some ⟨g,0,none⟩) L.length cap)) B C SB IB MB nm rb ro q1 vk (.slice (some ⟨g,0,none⟩) L.length cap) vl (fun b=>if b=g then 6 else tag b)/\w3.cell? ⟨B,5,none⟩=some vo/\w3.frozen? ⟨B,5,none⟩=false/\Below E V w3:=by
 have hne:∀b k,b<V.heap.size->tag b=k->k≠6->b≠g:=fun b k hb hk hm=>MG h.tO hat hk hm hb;have k3:∀b k,b<V.heap.size->tag b=k->k≠6->w3.heap[b]? =V.heap[b]? :=fun b k hb hk hm=>hg.block b hb fun e=>hm (by rw[←hk];exact h.tO b e.symm);have kE:∀b,b<E->(w3.setCell ⟨B,5,none⟩ (.slice (some ⟨g,0,none⟩) L.length cap)).heap[b]? =V.heap[b]? :=fun b hb=>(Below.heap_setCell _ _ _ _ Zhj).trans (hg.block b (Nat.lt_of_lt_of_le hb h.lt) fun e=>by have:=(h.opn.lt b e.symm).1;omega);have kk:∀b k,b<V.heap.size->tag b=k->k≠6->k≠1->(w3.setCell ⟨B,5,none⟩ (.slice (some ⟨g,0,none⟩) L.length cap)).heap[b]? =V.heap[b]? :=fun b k hb hk hm h1=>(Below.heap_setCell _ _ _ _ (AD hk h.tB h1)).trans (k3 b k hb hk hm);have hB3:=h.b.of_block (k3 B 1 h.b.lt h.tB dE);refine⟨?_,hB3.cell (i:=5) dE,hB3.frozen 5,(Below.refl E V).grown hg h.lt (fun q e=>(h.opn.lt q e).1)⟩;exact{h with
  b:=(hB3.set 5 _).congr fun j hj=>by
   exact Zx
  c1:=fun h0=>by rw[World.cell?_of_block (a:=⟨C,1,none⟩) (kE C h.hC)];exact h.c1 h0
  regs:=fun r hr=>(h.regs r hr).of_block (kE rb (by have:=h.hR;omega))
  st:=h.st.of_block (kk _ 2 h.st.lt h.tS dE dE)
  ir:=h.ir.of_block (kk _ 3 h.ir.lt h.tI dE dE)
  map:=h.map.block (kk _ 4 h.map.lt h.tM dE dE)
  reck:=Ad h.reck fun q hq=>kk q 5 (h.reck.lt q hq).2 (h.tk q hq) dE dE
  opn:=Ad hown fun q hq=>Below.heap_setCell _ _ _ _ (by have e:g=q:=Option.some.inj hq;show q≠B;rw[←e];exact(hne B 1 h.b.lt h.tB dE).symm)
  left:=Ad h.left fun q hq=>kk q 7 (h.left.lt q hq).2 (h.tl q hq) dE dE
  tB:=by show(if B=g then _ else _)=_;rw[if_neg (hne _ 1 h.b.lt h.tB dE)];exact h.tB
  tS:=by show(if SB=g then _ else _)=_;rw[if_neg (hne _ 2 h.st.lt h.tS dE)];exact h.tS
  tI:=by show(if IB=g then _ else _)=_;rw[if_neg (hne _ 3 h.ir.lt h.tI dE)];exact h.tI
  tM:=by show(if MB=g then _ else _)=_;rw[if_neg (hne _ 4 h.map.lt h.tM dE)];exact h.tM
  tk:=fun q hq=>by show(if q=g then _ else _)=_;rw[if_neg (hne _ 5 (h.reck.lt q hq).2 (h.tk q hq) dE)];exact h.tk q hq
  tO:=fun q hq=>by show(if q=g then _ else _)=_;rw[if_pos (Option.some.inj hq).symm]
  tl:=fun q hq=>by show(if q=g then _ else _)=_;rw[if_neg (hne _ 7 (h.left.lt q hq).2 (h.tl q hq) dE)];exact h.tl q hq}
theorem WK.growLeft(h:WK E c s V B C SB IB MB nm rb ro q1 vk vo vl tag){w3:World}{g cap:Nat}{L:List Ac}(hg:V.grownBy w3 vl.ownBlock)(hat:vl.ownBlock=some g\/g=V.heap.size)(hown:w3.ownsRow E 44 7 (.slice (some ⟨g,0,none⟩) L.length cap) L.length (L.flatMap E0)):
 WK E c {s with left:=L} (w3.setCell ⟨B,6,none⟩ (.slice (some ⟨g,0,none⟩) L.length cap)) B C SB IB MB nm rb ro q1 vk vo (.slice (some ⟨g,0,none⟩) L.length cap) (fun b=>if b=g then 7 else tag b)/\w3.cell? ⟨B,6,none⟩=some vl/\w3.frozen? ⟨B,6,none⟩=false/\Below E V w3:=by
 have hne:∀b k,b<V.heap.size->tag b=k->k≠7->b≠g:=fun b k hb hk hm=>MG h.tl hat hk hm hb;have k3:∀b k,b<V.heap.size->tag b=k->k≠7->w3.heap[b]? =V.heap[b]? :=fun b k hb hk hm=>hg.block b hb fun e=>hm (by rw[←hk];exact h.tl b e.symm);have kE:∀b,b<E->(w3.setCell ⟨B,6,none⟩ (.slice (some ⟨g,0,none⟩) L.length cap)).heap[b]? =V.heap[b]? :=fun b hb=>(Below.heap_setCell _ _ _ _ Zhj).trans (hg.block b (Nat.lt_of_lt_of_le hb h.lt) fun e=>by have:=(h.left.lt b e.symm).1;omega);have kk:∀b k,b<V.heap.size->tag b=k->k≠7->k≠1->(w3.setCell ⟨B,6,none⟩ (.slice (some ⟨g,0,none⟩) L.length cap)).heap[b]? =V.heap[b]? :=fun b k hb hk hm h1=>(Below.heap_setCell _ _ _ _ (AD hk h.tB h1)).trans (k3 b k hb hk hm);have hB3:=h.b.of_block (k3 B 1 h.b.lt h.tB dE);refine⟨?_,hB3.cell (i:=6) dE,hB3.frozen 6,(Below.refl E V).grown hg h.lt (fun q e=>(h.left.lt q e).1)⟩;exact{h with
  b:=(hB3.set 6 _).congr fun j hj=>by
   exact Zx
  c1:=fun h0=>by rw[World.cell?_of_block (a:=⟨C,1,none⟩) (kE C h.hC)];exact h.c1 h0
  regs:=fun r hr=>(h.regs r hr).of_block (kE rb (by have:=h.hR;omega))
  st:=h.st.of_block (kk _ 2 h.st.lt h.tS dE dE)
  ir:=h.ir.of_block (kk _ 3 h.ir.lt h.tI dE dE)
  map:=h.map.block (kk _ 4 h.map.lt h.tM dE dE)
  reck:=Ad h.reck fun q hq=>kk q 5 (h.reck.lt q hq).2 (h.tk q hq) dE dE
  opn:=Ad h.opn fun q hq=>kk q 6 (h.opn.lt q hq).2 (h.tO q hq) dE dE
  left:=Ad hown fun q hq=>Below.heap_setCell _ _ _ _ (by have e:g=q:=Option.some.inj hq;show q≠B;rw[←e];exact(hne B 1 h.b.lt h.tB dE).symm)
  tB:=by show(if B=g then _ else _)=_;rw[if_neg (hne _ 1 h.b.lt h.tB dE)];exact h.tB
  tS:=by show(if SB=g then _ else _)=_;rw[if_neg (hne _ 2 h.st.lt h.tS dE)];exact h.tS
  tI:=by show(if IB=g then _ else _)=_;rw[if_neg (hne _ 3 h.ir.lt h.tI dE)];exact h.tI
  tM:=by show(if MB=g then _ else _)=_;rw[if_neg (hne _ 4 h.map.lt h.tM dE)];exact h.tM
  tk:=fun q hq=>by show(if q=g then _ else _)=_;rw[if_neg (hne _ 5 (h.reck.lt q hq).2 (h.tk q hq) dE)];exact h.tk q hq
  tO:=fun q hq=>by show(if q=g then _ else _)=_;rw[if_neg (hne _ 6 (h.opn.lt q hq).2 (h.tO q hq) dE)];exact h.tO q hq
  tl:=fun q hq=>by show(if q=g then _ else _)=_;rw[if_pos (Option.some.inj hq).symm]}
theorem XS:(prog.info? 108).map (fun i=>(i.zero,i.size,i.bytes))=some (some (.agg #[.int .i64 0,.int .i64 0,.int .i64 0,.int .i64 0,.int .i64 0,.int .i64 0,.int .u32 0,.int .i64 0,.int .i64 0]),9,72):=kR
theorem WK.appReck(h:WK E c s V B C SB IB MB nm rb ro q1 vk vo vl tag)(hl:s.reck.length<=1000000)(x:Rk):
 ∃g cap w3,(Builtin.append_ #[77,77] 77 #[vk,.slice (some ⟨V.heap.size,0,none⟩) 1 1]).run prog (V.alloc (.cells #[.int .i64 x.by_.op,.int .i64 x.by_.d,.int .i64 x.by_.a,.int .i64 x.by_.b,.int .i64 x.by_.c,.int .i64 x.by_.n,.int .u32 x.by_.bits,.int .i64 x.of_.kind,.int .i64 x.of_.par] 108)).drew=.ok (.slice (some ⟨g,0,none⟩) (s.reck.length+1) cap) w3/\WK E c {s with reck:=s.reck++[x]} (w3.setCell ⟨B,4,none⟩ (.slice (some ⟨g,0,none⟩) (s.reck.length+1) cap)) B C SB IB MB nm rb ro q1 (.slice (some ⟨g,0,none⟩) (s.reck.length+1) cap) vo vl (fun b=>if b=g then 5 else tag b)/\w3.cell? ⟨B,4,none⟩=some vk/\w3.frozen? ⟨B,4,none⟩=false/\Below E V w3/\∀b,b<V.heap.size->vk.ownBlock≠some b->w3.heap[b]? =V.heap[b]? :=by
 obtain⟨i0,hi0,hz0,hz1,hz2⟩:=info_parts XS;have hb0:Below V.heap.size V (V.alloc (.cells #[.int .i64 x.by_.op,.int .i64 x.by_.d,.int .i64 x.by_.a,.int .i64 x.by_.b,.int .i64 x.by_.c,.int .i64 x.by_.n,.int .u32 x.by_.bits,.int .i64 x.of_.kind,.int .i64 x.of_.par] 108)).drew:=bel (A0 _ _) (C5 _);have h0:=h.below hb0;have hsz:(V.alloc (.cells #[.int .i64 x.by_.op,.int .i64 x.by_.d,.int .i64 x.by_.a,.int .i64 x.by_.b,.int .i64 x.by_.c,.int .i64 x.by_.n,.int .u32 x.by_.bits,.int .i64 x.of_.kind,.int .i64 x.of_.par] 108)).drew.heap.size=V.heap.size+1:=by show(V.alloc (.cells #[.int .i64 x.by_.op,.int .i64 x.by_.d,.int .i64 x.by_.a,.int .i64 x.by_.b,.int .i64 x.by_.c,.int .i64 x.by_.n,.int .u32 x.by_.bits,.int .i64 x.of_.kind,.int .i64 x.of_.par] 108)).heap.size=_;simp
 obtain⟨g,cap,w3,hr,hown,hgrow,hat,hlt⟩:=run_append_lies (P:=prog) (V.alloc (.cells #[.int .i64 x.by_.op,.int .i64 x.by_.d,.int .i64 x.by_.a,.int .i64 x.by_.b,.int .i64 x.by_.c,.int .i64 x.by_.n,.int .u32 x.by_.bits,.int .i64 x.of_.kind,.int .i64 x.of_.par] 108)).drew 77 77 E 108 i0 _ 9 72 underlying77 hi0 hz0 hz1 hz2 rfl dE vk s.reck.length (F2 s.reck) h0.reck ⟨V.heap.size,0,none⟩ 1 1 (PU x) rfl
  (World.news_of_block (cs:=#[.int .i64 x.by_.op,.int .i64 x.by_.d,.int .i64 x.by_.a,.int .i64 x.by_.b,.int .i64 x.by_.c,.int .i64 x.by_.n,.int .u32 x.by_.bits,.int .i64 x.of_.kind,.int .i64 x.of_.par]) (t:=108) (fr:=(0,0)) (heap_alloc_new V _)) Zhi dE mL oM h0.lt _ rfl
 have hn:(s.reck++[x]).length=s.reck.length+1:=sM;have ho:w3.ownsRow E 108 9 (.slice (some ⟨g,0,none⟩) (s.reck++[x]).length cap) (s.reck++[x]).length (F2 (s.reck++[x])):=by
  rw[hn];have e9:F2 (s.reck++[x])=(F2 s.reck)++(PU x):=by simp[DK,F2]
  rw[e9];exact hown
 obtain⟨k1,k2,k3,k4⟩:=h0.growReck hgrow hat ho;exact Zda
theorem WK.appOpen(h:WK E c s V B C SB IB MB nm rb ro q1 vk vo vl tag)(hl:s.opn.length<=1000000)(x:Nat):
 ∃g cap w3,(Builtin.append_ #[36,36] 36 #[vo,.slice (some ⟨V.heap.size,0,none⟩) 1 1]).run prog (V.alloc (.cells #[.int .i64 (x:Int)] 3)).drew=.ok (.slice (some ⟨g,0,none⟩) (s.opn.length+1) cap) w3/\WK E c {s with opn:=s.opn++[x]} (w3.setCell ⟨B,5,none⟩ (.slice (some ⟨g,0,none⟩) (s.opn.length+1) cap)) B C SB IB MB nm rb ro q1 vk (.slice (some ⟨g,0,none⟩) (s.opn.length+1) cap) vl (fun b=>if b=g then 6 else tag b)/\w3.cell? ⟨B,5,none⟩=some vo/\w3.frozen? ⟨B,5,none⟩=false/\Below E V w3/\∀b,b<V.heap.size->vo.ownBlock≠some b->w3.heap[b]? =V.heap[b]? :=by
 obtain⟨i0,hi0,hz0,hz1,hz2⟩:=info_parts CA;have hb0:Below V.heap.size V (V.alloc (.cells #[.int .i64 (x:Int)] 3)).drew:=bel (A0 _ _) (C5 _);have h0:=h.below hb0;have hsz:(V.alloc (.cells #[.int .i64 (x:Int)] 3)).drew.heap.size=V.heap.size+1:=by show(V.alloc (.cells #[.int .i64 (x:Int)] 3)).heap.size=_;simp
 obtain⟨g,cap,w3,hr,hown,hgrow,hat,hlt⟩:=run_append_lies (P:=prog) (V.alloc (.cells #[.int .i64 (x:Int)] 3)).drew 36 36 E 3 i0 _ 1 8 underlying36 hi0 hz0 hz1 hz2 rfl dE vo s.opn.length (DK s.opn) h0.opn ⟨V.heap.size,0,none⟩ 1 1 ([Value.int .i64 (x:Int)]) rfl
  (World.news_of_block (cs:=#[.int .i64 (x:Int)]) (t:=3) (fr:=(0,0)) (heap_alloc_new V _)) Zhi dE mL oM h0.lt _ rfl
 have hn:(s.opn++[x]).length=s.opn.length+1:=sM;have ho:w3.ownsRow E 3 1 (.slice (some ⟨g,0,none⟩) (s.opn++[x]).length cap) (s.opn++[x]).length (DK (s.opn++[x])):=by
  rw[hn];have e9:DK (s.opn++[x])=(DK s.opn)++([Value.int .i64 (x:Int)]):=by simp[DK,F2]
  rw[e9];exact hown
 obtain⟨k1,k2,k3,k4⟩:=h0.growOpen hgrow hat ho;exact Zda
theorem WK.appLeft(h:WK E c s V B C SB IB MB nm rb ro q1 vk vo vl tag)(hl:s.left.length<=1000000)(x:Ac):
 ∃g cap w3,(Builtin.append_ #[25,25] 25 #[vl,.slice (some ⟨V.heap.size,0,none⟩) 1 1]).run prog (V.alloc (.cells #[.int .i64 x.op,.int .i64 x.d,.int .i64 x.a,.int .i64 x.b,.int .i64 x.c,.int .i64 x.n,.int .u32 x.bits] 44)).drew=.ok (.slice (some ⟨g,0,none⟩) (s.left.length+1) cap) w3/\WK E c {s with left:=s.left++[x]} (w3.setCell ⟨B,6,none⟩ (.slice (some ⟨g,0,none⟩) (s.left.length+1) cap)) B C SB IB MB nm rb ro q1 vk vo (.slice (some ⟨g,0,none⟩) (s.left.length+1) cap) (fun b=>if b=g then 7 else tag b)/\w3.cell? ⟨B,6,none⟩=some vl/\w3.frozen? ⟨B,6,none⟩=false/\Below E V w3/\∀b,b<V.heap.size->vl.ownBlock≠some b->w3.heap[b]? =V.heap[b]? :=by
 obtain⟨i0,hi0,hz0,hz1,hz2⟩:=info_parts Lq;have hb0:Below V.heap.size V (V.alloc (.cells #[.int .i64 x.op,.int .i64 x.d,.int .i64 x.a,.int .i64 x.b,.int .i64 x.c,.int .i64 x.n,.int .u32 x.bits] 44)).drew:=bel (A0 _ _) (C5 _);have h0:=h.below hb0;have hsz:(V.alloc (.cells #[.int .i64 x.op,.int .i64 x.d,.int .i64 x.a,.int .i64 x.b,.int .i64 x.c,.int .i64 x.n,.int .u32 x.bits] 44)).drew.heap.size=V.heap.size+1:=by show(V.alloc (.cells #[.int .i64 x.op,.int .i64 x.d,.int .i64 x.a,.int .i64 x.b,.int .i64 x.c,.int .i64 x.n,.int .u32 x.bits] 44)).heap.size=_;simp
 obtain⟨g,cap,w3,hr,hown,hgrow,hat,hlt⟩:=run_append_lies (P:=prog) (V.alloc (.cells #[.int .i64 x.op,.int .i64 x.d,.int .i64 x.a,.int .i64 x.b,.int .i64 x.c,.int .i64 x.n,.int .u32 x.bits] 44)).drew 25 25 E 44 i0 _ 7 56 underlying25 hi0 hz0 hz1 hz2 rfl dE vl s.left.length (s.left.flatMap E0) h0.left ⟨V.heap.size,0,none⟩ 1 1 (E0 x) rfl
  (World.news_of_block (cs:=#[.int .i64 x.op,.int .i64 x.d,.int .i64 x.a,.int .i64 x.b,.int .i64 x.c,.int .i64 x.n,.int .u32 x.bits]) (t:=44) (fr:=(0,0)) (heap_alloc_new V _)) Zhi dE mL oM h0.lt _ rfl
 have hn:(s.left++[x]).length=s.left.length+1:=sM;have ho:w3.ownsRow E 44 7 (.slice (some ⟨g,0,none⟩) (s.left++[x]).length cap) (s.left++[x]).length ((s.left++[x]).flatMap E0):=by
  rw[hn];have e9:(s.left++[x]).flatMap E0=(s.left.flatMap E0)++(E0 x):=by simp[DK,F2]
  rw[e9];exact hown
 obtain⟨k1,k2,k3,k4⟩:=h0.growLeft hgrow hat ho;exact Zda
theorem WK.setIns(h:WK E c s V B C SB IB MB nm rb ro q1 vk vo vl tag)(d r:Nat):
 WK E c {s with ins:=fun k=>if k=d then r else s.ins k} (V.setCell ⟨IB,d,none⟩ (.int .i64 (r:Int))) B C SB IB MB nm rb ro q1 vk vo vl tag:=by
 have kk:∀b,b≠IB->(V.setCell ⟨IB,d,none⟩ (.int .i64 (r:Int))).heap[b]? =V.heap[b]? :=fun b hb=>Below.heap_setCell _ _ _ _ hb;exact{h with
  b:=h.b.of_block (kk _ (AD h.tB h.tI dE))
  c1:=fun h0=>by rw[World.cell?_of_block (a:=⟨C,1,none⟩) (kk C (by have:=h.hC;have:=h.hI;omega))];exact h.c1 h0
  regs:=fun q hq=>(h.regs q hq).of_block (kk rb (by have:=h.hR;have:=h.hI;omega))
  st:=h.st.of_block (kk _ (AD h.tS h.tI dE))
  ir:=(h.ir.set d _).congr fun j hj=>by
   show _=Value.int .i64 ((if j=d then r else s.ins j:Nat):Int);by_cases e:j=d
   ·rw[if_pos e,if_pos e]
   ·rw[if_neg e,if_neg e]
  map:=h.map.block (kk _ (AD h.tM h.tI dE))
  reck:=Ad h.reck fun q hq=>kk q (AD (h.tk q hq) h.tI dE)
  opn:=Ad h.opn fun q hq=>kk q (AD (h.tO q hq) h.tI dE)
  left:=Ad h.left fun q hq=>kk q (AD (h.tl q hq) h.tI dE)}
end
structure TU(c:Cd)(s:RW)(i:Ac)(nm:Nat):Prop where
 hN:c.regs.length<=16384
 hd:Aa i=true->0<=i.d/\i.d<(c.regs.length:Int)
 hr:∀r∈Ab i (A4 i.op),0<=r/\r<(c.regs.length:Int)
 hr2:∀r∈Ab (A3 s i) (A4 i.op),0<=r/\r<(c.regs.length:Int)
 hok:FH (DV c (A3 s i))
 hop:i.op=35->∃O A,s.opn=O++[A]/\A<=s.reck.length
 hoks:∀q∈s.reck,FH q
 l1:s.reck.length<=900000
 l2:s.opn.length<=900000
 l3:s.left.length<=900000
 l4:nm<=900000
theorem Qn(g0:Nat)(E:Nat)(c:Cd)(s:RW)(w:World)(B C SB IB MB nm rb ro q1:Nat)(vk vo vl:Value)(tag:Nat->Nat)(i:Ac)(h:WK E c s w B C SB IB MB nm rb ro q1 vk vo vl tag)(hk:TU c s i nm)(hheld:AR c s (A3 s i)=some g0):
 Calls prog 28 #[.pointer (some ⟨B,0,none⟩),AV i] w fun e w'=>e=.returned (.tuple #[])/\Below E w w'/\∃nm' vk' vo' vl' tag',nm'<=nm+1/\WK E c (AX c s i) w' B C SB IB MB nm' rb ro q1 vk' vo' vl' tag':=by
 have KR:Hid (∀v,Below w.heap.size w v->Calls prog 52 #[.pointer (some ⟨B,0,none⟩),AV i] v fun e w'=>e=.returned (AV (A3 s i))/\Below v.heap.size v w'):=fun v hv=>Kn s B IB c.regs.length i v hk.hN (h.below hv).b2 (h.below hv).ir hk.hr;have KH:Hid (∀v,WK E c s v B C SB IB MB nm rb ro q1 vk vo vl tag->Calls prog 53 #[.pointer (some ⟨B,0,none⟩),AV (A3 s i)] v fun e w'=>∃x:Int,e=.returned (.tuple #[.int .i64 x,.bool (AR c s (A3 s i)).isSome])/\(∀g,AR c s (A3 s i)=some g->x=(g:Int))/\Below v.heap.size v w'):=fun v hv=>Mb c s B C SB MB nm rb ro q1 (A3 s i) v hk.hN hv.wm hk.hd hk.hr2 hk.hok;have HH:=A8 h;have HK:=A8 hk;have HT:Hid (AX c s i=match AR c s (A3 s i)with |some r=>{s with ins:=fun k=>if k=i.d.toNat then r else s.ins k}|none=>AF c s (A3 s i)):=rfl;have hop0:(A3 s i).op=i.op:=rfl;have hd0:(A3 s i).d=i.d:=rfl;obtain⟨i',hi'⟩:∃x,A3 s i=x:=⟨_,rfl⟩
 obtain⟨T,hTT⟩:∃T,AX c s i=T:=⟨_,rfl⟩
 rw[hTT];rw[hTT,hi']at HT;simp only[hi']at KR KH hheld;rw[hi']at hop0 hd0;have HI':=A8 (And.intro hi' (And.intro hop0 hd0));clear h hk hTT hi' hop0 hd0;obtain⟨op,d,a,b,e,n,z⟩:=i;obtain⟨op',d',a',b',e',n',z'⟩:=i';unfold AV at KR KH ⊢;simp only at KR KH ⊢;obtain⟨W1,hW1⟩:∃W,w.alloc (.cells #[.int .i64 op,.int .i64 d,.int .i64 a,.int .i64 b,.int .i64 e,.int .i64 n,.int .u32 z] 44)=W:=⟨_,rfl⟩
 have HB1:Hid (Below w.heap.size w W1):=by rw[←hW1];exact A0 _ _
 have HX1:Hid (W1.rowIs w.heap.size 44 7 (I4 op d a b e n z)):=by rw[←hW1];exact Bn w _ _
 have c0:W1.cell? ⟨w.heap.size,0,none⟩=some (.int .i64 op):=HX1.out.cell (i:=0) dE;have c1:W1.cell? ⟨w.heap.size,1,none⟩=some (.int .i64 d):=HX1.out.cell (i:=1) dE;have c2:W1.cell? ⟨w.heap.size,2,none⟩=some (.int .i64 a):=HX1.out.cell (i:=2) dE;have c3:W1.cell? ⟨w.heap.size,3,none⟩=some (.int .i64 b):=HX1.out.cell (i:=3) dE;have c4:W1.cell? ⟨w.heap.size,4,none⟩=some (.int .i64 e):=HX1.out.cell (i:=4) dE;have c5:W1.cell? ⟨w.heap.size,5,none⟩=some (.int .i64 n):=HX1.out.cell (i:=5) dE;have c6:W1.cell? ⟨w.heap.size,6,none⟩=some (.int .u32 z):=HX1.out.cell (i:=6) dE;go_enter func28,ntmps28;go_upto_region 2 with(go_at_call 52;(with_reducible refine(KR.out _ HB1.out).mono ?_);rintro e9 w2 ⟨rfl,hb2⟩;have HB2:=A8 hb2;have HX2:=A8 (HX1.out.of_block (hb2.block _ HX1.out.lt));have y0:w2.cell? ⟨w.heap.size,0,none⟩=some (.int .i64 op):=HX2.out.cell (i:=0) dE;have y1:w2.cell? ⟨w.heap.size,1,none⟩=some (.int .i64 d):=HX2.out.cell (i:=1) dE;have y2:w2.cell? ⟨w.heap.size,2,none⟩=some (.int .i64 a):=HX2.out.cell (i:=2) dE;have y3:w2.cell? ⟨w.heap.size,3,none⟩=some (.int .i64 b):=HX2.out.cell (i:=3) dE;have y4:w2.cell? ⟨w.heap.size,4,none⟩=some (.int .i64 e):=HX2.out.cell (i:=4) dE;have y5:w2.cell? ⟨w.heap.size,5,none⟩=some (.int .i64 n):=HX2.out.cell (i:=5) dE;have y6:w2.cell? ⟨w.heap.size,6,none⟩=some (.int .u32 z):=HX2.out.cell (i:=6) dE;have k0:=HX2.out.frozen 0;have k1:=HX2.out.frozen 1;have k2:=HX2.out.frozen 2;have k3:=HX2.out.frozen 3;have k4:=HX2.out.frozen 4;have k5:=HX2.out.frozen 5;have k6:=HX2.out.frozen 6;clear hb2 c0 c1 c2 c3 c4 c5 c6)
 obtain⟨W3,hW3⟩:∃W,(((((((w2.setCell ⟨w.heap.size,0,none⟩ (.int .i64 op')).setCell ⟨w.heap.size,1,none⟩ (.int .i64 d')).setCell ⟨w.heap.size,2,none⟩ (.int .i64 a')).setCell ⟨w.heap.size,3,none⟩ (.int .i64 b')).setCell ⟨w.heap.size,4,none⟩ (.int .i64 e')).setCell ⟨w.heap.size,5,none⟩ (.int .i64 n')).setCell ⟨w.heap.size,6,none⟩ (.int .u32 z'))=W:=⟨_,rfl⟩
 have HB3:Hid (Below w.heap.size w W3):=by rw[←hW3];exact((((((((bel HB1.out HB2.out).setCell (Nat.le_refl _) _).setCell (Nat.le_refl _) _).setCell (Nat.le_refl _) _).setCell (Nat.le_refl _) _).setCell (Nat.le_refl _) _).setCell (Nat.le_refl _) _).setCell (Nat.le_refl _) _)
 have HX3:Hid (W3.rowIs w.heap.size 44 7 (I4 op' d' a' b' e' n' z')):=by
  rw[←hW3];exact(((((((HX2.out.set 0 _).set 1 _).set 2 _).set 3 _).set 4 _).set 5 _).set 6 _).congr fun j hj=>by
   exact Zx
 rw[hW3];have HH3:Hid (WK E c s W3 B C SB IB MB nm rb ro q1 vk vo vl tag):=HH.out.below HB3.out;have HCX:Hid (∀v,Below W3.heap.size W3 v->v.cell? ⟨w.heap.size,0,none⟩=some (.int .i64 op')/\v.cell? ⟨w.heap.size,1,none⟩=some (.int .i64 d')/\v.cell? ⟨w.heap.size,2,none⟩=some (.int .i64 a')/\v.cell? ⟨w.heap.size,3,none⟩=some (.int .i64 b')/\v.cell? ⟨w.heap.size,4,none⟩=some (.int .i64 e')/\v.cell? ⟨w.heap.size,5,none⟩=some (.int .i64 n')/\v.cell? ⟨w.heap.size,6,none⟩=some (.int .u32 z')):=fun v hv=>by
  exact Zdx
 obtain⟨c0,c1,c2,c3,c4,c5,c6⟩:=HCX.out W3 (Be _);clear hW3 y0 y1 y2 y3 y4 y5 y6 k0 k1 k2 k3 k4 k5 k6 HX2 HB2 hW1 HX1 HB1 KR;rw[hheld]at KH HT;have HG:Hid (AR c s ⟨op',d',a',b',e',n',z'⟩=some g0):=hheld;have hdd:Aa (⟨op',d',a',b',e',n',z'⟩:Ac)=true:=by
  unfold AR at hheld;by_cases q:Bx c.list ⟨op',d',a',b',e',n',z'⟩=true
  ·exact(AQ q).1
  ·rw[if_neg q]at hheld;cases hheld
 have hset:Aa (⟨op,d,a,b,e,n,z⟩:Ac)=true:=by
  have h8:op'=op:=HI'.out.2.1;subst h8;exact hdd
 obtain⟨d0,d1⟩:=HK.out.hd hset;have hde:d'=d:=HI'.out.2.2;simp only at d0 d1;obtain⟨D,rfl⟩:=Int.eq_ofNat_of_zero_le d0;subst hde;have hDN:D<c.regs.length:=oM;have HT2:Hid (T={s with ins:=fun k=>if k=D then g0 else s.ins k}):=HT.out;obtain⟨N,hNe⟩:∃N,c.regs.length=N:=⟨_,rfl⟩
 have HNE:=A8 hNe;have e1:(0:Int)<=(D:Int):=oM;have e2:(D:Int)<(N:Int):=oM;clear hheld hdd hset d0 d1 hNe HT HI';go_upto_region 4 with(go_at_call 53;(with_reducible refine(KH.out _ HH3.out).mono ?_);rintro e9 w4 ⟨x,rfl,hx,hb4⟩;have hx0:=hx g0 rfl;subst hx0;have HB4:=A8 hb4;clear c0 c1 c2 c3 c4 c5 c6;obtain⟨c0,c1,c2,c3,c4,c5,c6⟩:=HCX.out w4 hb4;have HH4:=A8 (HH3.out.below hb4);have g2:=HH4.out.b2;rw[HNE.out]at g2;have g3:=HH4.out.ir.cell hDN;have g4:=HH4.out.ir.frozen D;clear hx hb4)
 have n1:¬B=IB:=AD HH4.out.tB HH4.out.tI dE;have n2:¬IB=B:=fun e=>n1 e.symm;have n3:¬w.heap.size=IB:=fun e=>by have:=HH.out.ir.lt;omega
 have n4:¬IB=w.heap.size:=fun e=>n3 e.symm;refine rG (fun v=>v.cell? ⟨B,2,none⟩=some (.slice (some ⟨IB,0,none⟩) N N)/\v.cell? ⟨w.heap.size,1,none⟩=some (.int .i64 (D:Int))) fun hHeld=>?_;refine Tf 0 1 2 3 4 5 ?_;refine Tb 6 7 ?_;clear hHeld;refine AC 8 fun K hK=>?_;go_simp;refine Ax hK fun hHeld=>?_;clear hK K;refine wpAnyH_done kR ?_ _;go_wp2;first|go_end0|(simp only[Exit.inBlock,Exit.then];refine bodyPost_ret (results_none rfl _ _ _) rfl ?_)|refine bodyPost_ret (results_none rfl _ _ _) rfl ?_
 refine⟨rfl,?_,nm,vk,vo,vl,tag,oM,?_⟩
 ·exact(((bel HB3.out (bel HB4.out (A6 _))).mono HH.out.lt).setCell HH.out.hI _)
 ·rw[HT2.out];exact(HH4.out.below (A6 _)).setIns D g0
theorem Qo(E:Nat)(c:Cd)(s:RW)(w:World)(B C SB IB MB nm rb ro q1:Nat)(vk vo vl:Value)(tag:Nat->Nat)(i:Ac)(h:WK E c s w B C SB IB MB nm rb ro q1 vk vo vl tag)(hk:TU c s i nm)(hheld:AR c s (A3 s i)=none):
 Calls prog 28 #[.pointer (some ⟨B,0,none⟩),AV i] w fun e w'=>e=.returned (.tuple #[])/\Below E w w'/\∃nm' vk' vo' vl' tag',nm'<=nm+1/\WK E c (AX c s i) w' B C SB IB MB nm' rb ro q1 vk' vo' vl' tag':=by
 have KR:Hid (∀v,Below w.heap.size w v->Calls prog 52 #[.pointer (some ⟨B,0,none⟩),AV i] v fun e w'=>e=.returned (AV (A3 s i))/\Below v.heap.size v w'):=fun v hv=>Kn s B IB c.regs.length i v hk.hN (h.below hv).b2 (h.below hv).ir hk.hr;have KH:Hid (∀v,WK E c s v B C SB IB MB nm rb ro q1 vk vo vl tag->Calls prog 53 #[.pointer (some ⟨B,0,none⟩),AV (A3 s i)] v fun e w'=>∃x:Int,e=.returned (.tuple #[.int .i64 x,.bool (AR c s (A3 s i)).isSome])/\(∀g,AR c s (A3 s i)=some g->x=(g:Int))/\Below v.heap.size v w'):=fun v hv=>Mb c s B C SB MB nm rb ro q1 (A3 s i) v hk.hN hv.wm hk.hd hk.hr2 hk.hok;have HH:=A8 h;have HK:=A8 hk;have HT:Hid (AX c s i=match AR c s (A3 s i)with |some r=>{s with ins:=fun k=>if k=i.d.toNat then r else s.ins k}|none=>AF c s (A3 s i)):=rfl;have hop0:(A3 s i).op=i.op:=rfl;have hd0:(A3 s i).d=i.d:=rfl;obtain⟨i',hi'⟩:∃x,A3 s i=x:=⟨_,rfl⟩
 obtain⟨T,hTT⟩:∃T,AX c s i=T:=⟨_,rfl⟩
 rw[hTT];rw[hTT,hi']at HT;simp only[hi']at KR KH hheld;rw[hi']at hop0 hd0;have HI':=A8 (And.intro hi' (And.intro hop0 hd0));clear h hk hTT hi' hop0 hd0;obtain⟨op,d,a,b,e,n,z⟩:=i;obtain⟨op',d',a',b',e',n',z'⟩:=i';unfold AV at KR KH ⊢;simp only at KR KH ⊢;obtain⟨W1,hW1⟩:∃W,w.alloc (.cells #[.int .i64 op,.int .i64 d,.int .i64 a,.int .i64 b,.int .i64 e,.int .i64 n,.int .u32 z] 44)=W:=⟨_,rfl⟩
 have HB1:Hid (Below w.heap.size w W1):=by rw[←hW1];exact A0 _ _
 have HX1:Hid (W1.rowIs w.heap.size 44 7 (I4 op d a b e n z)):=by rw[←hW1];exact Bn w _ _
 have c0:W1.cell? ⟨w.heap.size,0,none⟩=some (.int .i64 op):=HX1.out.cell (i:=0) dE;have c1:W1.cell? ⟨w.heap.size,1,none⟩=some (.int .i64 d):=HX1.out.cell (i:=1) dE;have c2:W1.cell? ⟨w.heap.size,2,none⟩=some (.int .i64 a):=HX1.out.cell (i:=2) dE;have c3:W1.cell? ⟨w.heap.size,3,none⟩=some (.int .i64 b):=HX1.out.cell (i:=3) dE;have c4:W1.cell? ⟨w.heap.size,4,none⟩=some (.int .i64 e):=HX1.out.cell (i:=4) dE;have c5:W1.cell? ⟨w.heap.size,5,none⟩=some (.int .i64 n):=HX1.out.cell (i:=5) dE;have c6:W1.cell? ⟨w.heap.size,6,none⟩=some (.int .u32 z):=HX1.out.cell (i:=6) dE;go_enter func28,ntmps28;go_upto_region 2 with(go_at_call 52;(with_reducible refine(KR.out _ HB1.out).mono ?_);rintro e9 w2 ⟨rfl,hb2⟩;have HB2:=A8 hb2;have HX2:=A8 (HX1.out.of_block (hb2.block _ HX1.out.lt));have y0:w2.cell? ⟨w.heap.size,0,none⟩=some (.int .i64 op):=HX2.out.cell (i:=0) dE;have y1:w2.cell? ⟨w.heap.size,1,none⟩=some (.int .i64 d):=HX2.out.cell (i:=1) dE;have y2:w2.cell? ⟨w.heap.size,2,none⟩=some (.int .i64 a):=HX2.out.cell (i:=2) dE;have y3:w2.cell? ⟨w.heap.size,3,none⟩=some (.int .i64 b):=HX2.out.cell (i:=3) dE;have y4:w2.cell? ⟨w.heap.size,4,none⟩=some (.int .i64 e):=HX2.out.cell (i:=4) dE;have y5:w2.cell? ⟨w.heap.size,5,none⟩=some (.int .i64 n):=HX2.out.cell (i:=5) dE;have y6:w2.cell? ⟨w.heap.size,6,none⟩=some (.int .u32 z):=HX2.out.cell (i:=6) dE;have k0:=HX2.out.frozen 0;have k1:=HX2.out.frozen 1;have k2:=HX2.out.frozen 2;have k3:=HX2.out.frozen 3;have k4:=HX2.out.frozen 4;have k5:=HX2.out.frozen 5;have k6:=HX2.out.frozen 6;clear hb2 c0 c1 c2 c3 c4 c5 c6)
 obtain⟨W3,hW3⟩:∃W,(((((((w2.setCell ⟨w.heap.size,0,none⟩ (.int .i64 op')).setCell ⟨w.heap.size,1,none⟩ (.int .i64 d')).setCell ⟨w.heap.size,2,none⟩ (.int .i64 a')).setCell ⟨w.heap.size,3,none⟩ (.int .i64 b')).setCell ⟨w.heap.size,4,none⟩ (.int .i64 e')).setCell ⟨w.heap.size,5,none⟩ (.int .i64 n')).setCell ⟨w.heap.size,6,none⟩ (.int .u32 z'))=W:=⟨_,rfl⟩
 have HB3:Hid (Below w.heap.size w W3):=by rw[←hW3];exact((((((((bel HB1.out HB2.out).setCell (Nat.le_refl _) _).setCell (Nat.le_refl _) _).setCell (Nat.le_refl _) _).setCell (Nat.le_refl _) _).setCell (Nat.le_refl _) _).setCell (Nat.le_refl _) _).setCell (Nat.le_refl _) _)
 have HX3:Hid (W3.rowIs w.heap.size 44 7 (I4 op' d' a' b' e' n' z')):=by
  rw[←hW3];exact(((((((HX2.out.set 0 _).set 1 _).set 2 _).set 3 _).set 4 _).set 5 _).set 6 _).congr fun j hj=>by
   exact Zx
 rw[hW3];have HH3:Hid (WK E c s W3 B C SB IB MB nm rb ro q1 vk vo vl tag):=HH.out.below HB3.out;have HCX:Hid (∀v,Below W3.heap.size W3 v->v.cell? ⟨w.heap.size,0,none⟩=some (.int .i64 op')/\v.cell? ⟨w.heap.size,1,none⟩=some (.int .i64 d')/\v.cell? ⟨w.heap.size,2,none⟩=some (.int .i64 a')/\v.cell? ⟨w.heap.size,3,none⟩=some (.int .i64 b')/\v.cell? ⟨w.heap.size,4,none⟩=some (.int .i64 e')/\v.cell? ⟨w.heap.size,5,none⟩=some (.int .i64 n')/\v.cell? ⟨w.heap.size,6,none⟩=some (.int .u32 z')):=fun v hv=>by
  exact Zdx
 obtain⟨c0,c1,c2,c3,c4,c5,c6⟩:=HCX.out W3 (Be _);clear hW3 y0 y1 y2 y3 y4 y5 y6 k0 k1 k2 k3 k4 k5 k6 HX2 HB2 hW1 HX1 HB1 KR;rw[hheld]at KH HT;have HT2:Hid (T=AF c s ⟨op',d',a',b',e',n',z'⟩):=HT.out;clear hheld HT;go_upto_region 5 with(go_at_call 53;(with_reducible refine(KH.out _ HH3.out).mono ?_);rintro e9 w4 ⟨x,rfl,hx,hb4⟩;have HB4:=A8 hb4;clear c0 c1 c2 c3 c4 c5 c6;obtain⟨c0,c1,c2,c3,c4,c5,c6⟩:=HCX.out w4 hb4;have HH4:=A8 (HH3.out.below hb4);clear hx hb4)
 obtain⟨g,cap,w5,hr,hk5,k2,k3,hb5,hoth⟩:=HH4.out.appLeft (by have:=HK.out.l3;omega) ⟨op',d',a',b',e',n',z'⟩;simp only at hr;obtain⟨M,hM⟩:∃M,s.left.length+1=M:=⟨_,rfl⟩
 rw[hM]at hr hk5;have HR:=A8 hr;have HX4:=A8 (HX3.out.of_block (HB4.out.block _ HX3.out.lt));have hX5:=HX4.out.of_block (hoth w.heap.size HX4.out.lt (fun e=>by have:=(HH.out.left.lt _ e).2;omega));have nX:¬w.heap.size=B:=fun e=>by have:=HH.out.b.lt;omega
 have nX':¬B=w.heap.size:=fun e=>nX e.symm;have HP:Hid (∃vl' tag',WK E c {s with left:=s.left++[⟨op',d',a',b',e',n',z'⟩]} (w5.setCell ⟨B,6,none⟩ (.slice (some ⟨g,0,none⟩) M cap)) B C SB IB MB nm rb ro q1 vk vo vl' tag'/\Below E w (w5.setCell ⟨B,6,none⟩ (.slice (some ⟨g,0,none⟩) M cap))/\(w5.setCell ⟨B,6,none⟩ (.slice (some ⟨g,0,none⟩) M cap)).rowIs w.heap.size 44 7 (I4 op' d' a' b' e' n' z')):=⟨_,_,hk5,((((bel HB3.out HB4.out).mono HH.out.lt).trans hb5).setCell HH.out.hB _),hX5.setOther nX _⟩
 have u0:w5.cell? ⟨w.heap.size,0,none⟩=some (.int .i64 op'):=hX5.cell (i:=0) dE;have u1:w5.cell? ⟨w.heap.size,1,none⟩=some (.int .i64 d'):=hX5.cell (i:=1) dE;have u2:w5.cell? ⟨w.heap.size,2,none⟩=some (.int .i64 a'):=hX5.cell (i:=2) dE;have u3:w5.cell? ⟨w.heap.size,3,none⟩=some (.int .i64 b'):=hX5.cell (i:=3) dE;have u4:w5.cell? ⟨w.heap.size,4,none⟩=some (.int .i64 e'):=hX5.cell (i:=4) dE;have u5:w5.cell? ⟨w.heap.size,5,none⟩=some (.int .i64 n'):=hX5.cell (i:=5) dE;have u6:w5.cell? ⟨w.heap.size,6,none⟩=some (.int .u32 z'):=hX5.cell (i:=6) dE;have b6:=HH4.out.b6;have nB4:¬B=w4.heap.size:=fun e=>by have:=HH4.out.b.lt;omega
 have nX4:¬w.heap.size=w4.heap.size:=fun e=>by have:=HX4.out.lt;omega
 have b6':(w4.alloc (.cells #[.int .i64 op',.int .i64 d',.int .i64 a',.int .i64 b',.int .i64 e',.int .i64 n',.int .u32 z'] 44)).cell? ⟨B,6,none⟩=some vl:=kc (A0 _ _) b6;clear hr hk5 hb5 hoth hX5 hM;go_cut [3] (fun bv wx=>bv=.pointer (some ⟨w.heap.size,0,none⟩)/\∃vl' tag',WK E c {s with left:=s.left++[⟨op',d',a',b',e',n',z'⟩]} wx B C SB IB MB nm rb ro q1 vk vo vl' tag'/\Below E w wx/\wx.rowIs w.heap.size 44 7 (I4 op' d' a' b' e' n' z'))
 case first=>
  refine rG (fun v=>v.cell? ⟨w.heap.size,0,none⟩=some (.int .i64 op')/\v.cell? ⟨w.heap.size,1,none⟩=some (.int .i64 d')/\v.cell? ⟨w.heap.size,2,none⟩=some (.int .i64 a')/\v.cell? ⟨w.heap.size,3,none⟩=some (.int .i64 b')/\v.cell? ⟨w.heap.size,4,none⟩=some (.int .i64 e')/\v.cell? ⟨w.heap.size,5,none⟩=some (.int .i64 n')/\v.cell? ⟨w.heap.size,6,none⟩=some (.int .u32 z')) fun hHeld=>?_;refine Tc 0 1 2 ?_;refine Tb 3 5 ?_;clear hHeld;refine wpAnyH_ready (rs:=[4,6]) kR sM ?_;refine Fs 4 (fun K hK=>?_) ?_
  ·go_simp;refine Ax hK fun hHeld=>?_;clear hK K;clear hHeld;refine AC 6 fun K hK=>?_;exact Zcu
  refine Fs 6 (fun K hK=>?_) AllReadyH.nil;go_simp;refine Ax hK fun hHeld=>?_;clear hK K;clear hHeld;refine AC 4 fun K hK=>?_;exact Zcu
 case rest=>
  obtain⟨rfl,vl',tag',hk6,hb6,hx6⟩:=hcut;have HK6:=A8 hk6;have HB6:=A8 hb6;have HX6:=A8 hx6;have t0:wc.cell? ⟨w.heap.size,0,none⟩=some (.int .i64 op'):=hx6.cell (i:=0) dE;have t1:wc.cell? ⟨w.heap.size,1,none⟩=some (.int .i64 d'):=hx6.cell (i:=1) dE;have t2:wc.cell? ⟨w.heap.size,2,none⟩=some (.int .i64 a'):=hx6.cell (i:=2) dE;have t3:wc.cell? ⟨w.heap.size,3,none⟩=some (.int .i64 b'):=hx6.cell (i:=3) dE;have t4:wc.cell? ⟨w.heap.size,4,none⟩=some (.int .i64 e'):=hx6.cell (i:=4) dE;have t5:wc.cell? ⟨w.heap.size,5,none⟩=some (.int .i64 n'):=hx6.cell (i:=5) dE;have t6:wc.cell? ⟨w.heap.size,6,none⟩=some (.int .u32 z'):=hx6.cell (i:=6) dE;clear hk6 hb6 hx6 u0 u1 u2 u3 u4 u5 u6 b6 b6' k2 k3 c0 c1 c2 c3 c4 c5 c6 HP HR nB4 nX4 HX4 HB4 HH4 HCX HH3 HX3 HB3 KH;by_cases h34:op'=34
  ·have qa:(op'==34)=true:=by simpa using h34
   obtain⟨pK,cK,hvk⟩:=AK HK6.out.reck;simp only at hvk;obtain⟨g7,cap7,w7,hr,hk7,k2,k3,hb7,hoth⟩:=HK6.out.appOpen (by have:=HK.out.l2;show s.opn.length<=_;omega) s.reck.length;simp only at hr hk7;have HT3:Hid (T={s with left:=s.left++[⟨op',d',a',b',e',n',z'⟩],opn:=s.opn++[s.reck.length]}):=by show _=_;rw[HT2.out];unfold AF;rw[if_pos h34]
   have hB7:=HK6.out.b.of_block (hoth B HK6.out.b.lt (fun e=>(AD HK6.out.tB (HK6.out.tO B e) dE) rfl));have p4:=HK6.out.b4;have p5:=HK6.out.b5;have p4':w7.cell? ⟨B,4,none⟩=some vk:=hB7.cell (i:=4) dE;obtain⟨M7,hM7⟩:∃M,s.opn.length+1=M:=⟨_,rfl⟩
   rw[hM7]at hr hk7;obtain⟨KK,hKK⟩:∃K,s.reck.length=K:=⟨_,rfl⟩
   subst hvk;have HR7:=A8 hr;have HP7:Hid (∃nm' vk' vo' vl' tag',nm'<=nm+1/\WK E c T (w7.setCell ⟨B,5,none⟩ (.slice (some ⟨g7,0,none⟩) M7 cap7)) B C SB IB MB nm' rb ro q1 vk' vo' vl' tag'):=⟨nm,_,_,_,_,oM,by rw[HT3.out];exact hk7⟩
   have HB7:Hid (Below E w (w7.setCell ⟨B,5,none⟩ (.slice (some ⟨g7,0,none⟩) M7 cap7))):=((HB6.out.trans hb7).setCell HH.out.hB _)
   have nBc:¬B=wc.heap.size:=fun e=>by have:=HK6.out.b.lt;omega
   have p5':(wc.alloc (.cells #[.int .i64 (s.reck.length:Int)] 3)).cell? ⟨B,5,none⟩=some vo:=kc (A0 _ _) p5;have p4s:(w7.setCell ⟨B,5,none⟩ (.slice (some ⟨g7,0,none⟩) M7 cap7)).cell? ⟨B,4,none⟩=some (.slice pK s.reck.length cK):=by rw[World.cell?_setCell_other _ _ _ _ sM];exact p4'
   clear hr hk7 hb7 hoth hB7 hM7 hKK;go_upto_region 7 with fail;refine rG (fun v=>v.cell? ⟨B,4,none⟩=some (.slice pK s.reck.length cK)) fun hHeld=>?_;refine Tf 0 1 2 3 5 6 ?_;refine Tc 7 8 9 ?_;clear hHeld;refine wpAnyH_ready (rs:=[4,10]) kR sM ?_;refine Fs 4 (fun K hK=>?_) ?_
   ·go_simp;refine Ax hK fun hHeld=>?_;clear hK K;clear hHeld;refine AC 10 fun K hK=>?_;exact Zcd
   refine Fs 10 (fun K hK=>?_) AllReadyH.nil;go_simp;refine Ax hK fun hHeld=>?_;clear hK K;clear hHeld;refine AC 4 fun K hK=>?_;exact Zcd
  ·have qa:(op'==34)=false:=by simpa using h34
   by_cases h35:op'=35
   ·have qb:(op'==35)=true:=by simpa using h35
    obtain⟨O,A,ho,hA⟩:=HK.out.hop (by have:=HI'.out.2.1;show op=35;omega);have HT3:Hid (T=Do {s with left:=s.left++[⟨op',d',a',b',e',n',z'⟩]}):=by show _=_;rw[HT2.out];unfold AF;rw[if_neg h34,if_pos h35]
    have hOl:O.length<=1000000:=by have h9:=HK.out.l2;rw[ho]at h9;simp at h9;omega
    have KL:=A8 (Qk E c {s with left:=s.left++[⟨op',d',a',b',e',n',z'⟩]} wc B C SB IB MB nm rb ro q1 vk vo vl' tag' O A HK6.out ho hA HK.out.hoks hOl (by have:=HK.out.l1;show s.reck.length<=_;omega));clear ho hA hOl;go_wp2_with(go_at_call 54;(with_reducible refine(KL.out).mono ?_);rintro e9 w8 ⟨rfl,hb8,vk',vo',hk8⟩);first|go_end0|(simp only[Exit.inBlock,Exit.then];refine bodyPost_ret (results_none rfl _ _ _) rfl ?_)|refine bodyPost_ret (results_none rfl _ _ _) rfl ?_
    exact⟨rfl,HB6.out.trans hb8,nm,vk',vo',vl',tag',oM,by rw[HT3.out];exact hk8⟩
   ·have qb:(op'==35)=false:=by simpa using h35
    have hset:Aa (⟨op',d',a',b',e',n',z'⟩:Ac)=true->0<=d'/\d'<(c.regs.length:Int):=fun hq=>by
     have h8:op'=op:=HI'.out.2.1;have h7:d'=d:=HI'.out.2.2;rw[h7];exact HK.out.hd (by subst h8;exact hq)
    have hrd:∀r∈Ab (⟨op',d',a',b',e',n',z'⟩:Ac) (A4 op'),0<=r/\r<(c.regs.length:Int):=by
     have h9:=HK.out.hr2;rw[HI'.out.1]at h9;have h8:op'=op:=HI'.out.2.1;rw[h8];rw[h8]at h9;exact h9
    have KT:=A8 (Qp B SB c.regs.length c.list ⟨op',d',a',b',e',n',z'⟩ wc HK.out.hN HK6.out.wm.b1 HK6.out.st hset hrd);cases hX:(decide (op'≠32/\op'≠3)&&Bx c.list ⟨op',d',a',b',e',n',z'⟩)with
    |false=>
     have HT3:Hid (T={s with left:=s.left++[⟨op',d',a',b',e',n',z'⟩]}):=by
      show _=_;rw[HT2.out];unfold AF;rw[if_neg h34,if_neg h35,if_neg];rintro⟨g1,g2⟩;rw[g2]at hX;simp only[Bool.and_true,decide_eq_false_iff_not]at hX;exact hX g1
     unfold AV at KT;simp only[hX]at KT;clear hX hset hrd;go_wp2_with(go_at_call 55;(with_reducible refine(KT.out).mono ?_);rintro e9 w8 ⟨rfl,hb8⟩);first|go_end0|(simp only[Exit.inBlock,Exit.then];refine bodyPost_ret (results_none rfl _ _ _) rfl ?_)|refine bodyPost_ret (results_none rfl _ _ _) rfl ?_
     exact⟨rfl,HB6.out.trans (hb8.mono HK6.out.lt),nm,vk,vo,vl',tag',oM,by rw[HT3.out];exact HK6.out.below hb8⟩
    |true=>
     have hw9:Bx c.list ⟨op',d',a',b',e',n',z'⟩=true:=by cases hq:Bx c.list ⟨op',d',a',b',e',n',z'⟩with |true=>rfl|false=>rw[hq]at hX;simp at hX
     have hop9:op'≠32/\op'≠3:=by rw[hw9]at hX;simpa using hX
     obtain⟨d0,d1⟩:=hset (AQ hw9).1;obtain⟨D,rfl⟩:=Int.eq_ofNat_of_zero_le d0;have hDN:D<c.regs.length:=oM;obtain⟨⟨tk,tp⟩,ht⟩:∃t,c.regs[D]=t:=⟨_,rfl⟩
     have hrk:DV c ⟨op',(D:Int),a',b',e',n',z'⟩=⟨⟨op',0,a',b',e',n',z'⟩,⟨tk,tp⟩⟩:=by unfold DV;rw[DH hDN,ht]
     have HT3:Hid (T={s with left:=s.left++[⟨op',(D:Int),a',b',e',n',z'⟩],hold:=fun r=>if r=⟨⟨op',0,a',b',e',n',z'⟩,⟨tk,tp⟩⟩then some D else s.hold r,reck:=s.reck++[⟨⟨op',0,a',b',e',n',z'⟩,⟨tk,tp⟩⟩]}):=by
      show _=_;rw[HT2.out];unfold AF;rw[if_neg h34,if_neg h35,if_pos ⟨hop9,hw9⟩,hrk];rfl
     have hok9:FH ⟨⟨op',0,a',b',e',n',z'⟩,⟨tk,tp⟩⟩:=by
      have h9:=HK.out.hok;rw[HI'.out.1,hrk]at h9;exact h9
     have HOK:=A8 hok9;have KQ:Hid (∀v,Below wc.heap.size wc v->Calls prog 56 #[.pointer (some ⟨B,0,none⟩),AV ⟨op',(D:Int),a',b',e',n',z'⟩] v fun e w'=>e=.returned (KU ⟨⟨op',0,a',b',e',n',z'⟩,⟨tk,tp⟩⟩)/\Below v.heap.size v w'):=fun v hv=>by
      have h9:=RJ B C rb ro c.regs.length q1 D c.regs[D] ⟨op',(D:Int),a',b',e',n',z'⟩ v (HK6.out.below hv).wm.b0 ((HK6.out.below hv).c1 oM) hDN HK.out.hN rfl ((HK6.out.below hv).regs D hDN);rw[ht]at h9;exact h9
     unfold AV at KT KQ;unfold KU at KQ;simp only[hX]at KT;simp only at KQ;clear hX hset hrd hw9 hop9 d0 d1 hrk hok9 HT2 HI';go_upto_region 12 with first
      |(go_at_call 55;(with_reducible refine(KT.out).mono ?_);rintro e9 w8 ⟨rfl,hb8⟩;have HB8:=A8 hb8;have HX8:=A8 (HX6.out.of_block (hb8.block _ HX6.out.lt));clear t0 t1 t2 t3 t4 t5 t6 hb8;have t0:w8.cell? ⟨w.heap.size,0,none⟩=some (.int .i64 op'):=HX8.out.cell (i:=0) dE;have t1:w8.cell? ⟨w.heap.size,1,none⟩=some (.int .i64 (D:Int)):=HX8.out.cell (i:=1) dE;have t2:w8.cell? ⟨w.heap.size,2,none⟩=some (.int .i64 a'):=HX8.out.cell (i:=2) dE;have t3:w8.cell? ⟨w.heap.size,3,none⟩=some (.int .i64 b'):=HX8.out.cell (i:=3) dE;have t4:w8.cell? ⟨w.heap.size,4,none⟩=some (.int .i64 e'):=HX8.out.cell (i:=4) dE;have t5:w8.cell? ⟨w.heap.size,5,none⟩=some (.int .i64 n'):=HX8.out.cell (i:=5) dE;have t6:w8.cell? ⟨w.heap.size,6,none⟩=some (.int .u32 z'):=HX8.out.cell (i:=6) dE)
      |(go_at_call 56;(with_reducible refine(KQ.out _ HB8.out).mono ?_);rintro e9 w9 ⟨rfl,hb9⟩;have HB9:=A8 (bel HB8.out hb9);have HX9:=A8 (HX8.out.of_block (hb9.block _ HX8.out.lt));clear t0 t1 t2 t3 t4 t5 t6 hb9)
     obtain⟨V,hV⟩:∃V,w9.alloc (.cells #[.int .i64 op',.int .i64 0,.int .i64 a',.int .i64 b',.int .i64 e',.int .i64 n',.int .u32 z',.int .i64 tk,.int .i64 tp] 108)=V:=⟨_,rfl⟩
     rw[hV];have HBV:Hid (Below wc.heap.size wc V):=by rw[←hV];exact bel HB9.out (A0 _ _)
     have HKV:=A8 (HK6.out.below HBV.out);have hYV:V.rowIs w9.heap.size 108 9 (F7 #[.int .i64 op',.int .i64 0,.int .i64 a',.int .i64 b',.int .i64 e',.int .i64 n',.int .u32 z',.int .i64 tk,.int .i64 tp]):=by rw[←hV];exact Bn w9 _ _
     have hXV:V.rowIs w.heap.size 44 7 (I4 op' (D:Int) a' b' e' n' z'):=by rw[←hV];exact HX9.out.alloc _
     have lX9:w.heap.size<w9.heap.size:=HX9.out.lt;have lMc:=HK6.out.map.lt;have lM9:MB<w9.heap.size:=Nat.lt_of_lt_of_le lMc HB9.out.size;have lMw:=HH.out.map.lt;have lBw:=HH.out.b.lt;clear hV;obtain⟨w10,hrun,hm10,hg10⟩:=((HKV.out.below (A6 V)).map).put (by have:=HK.out.l4;unfold maxLen;omega) underlying76 HOK.out (.int .i64 (D:Int));simp only[KU]at hrun;have hun:Un (fun b=>b=MB) V.drew w10:=(Un.refl _ _).grown rfl hg10;have hY10:=(World.rowIs.drew hYV).of_block (hun.block _ (World.rowIs.drew hYV).lt oM);have hX10:=(World.rowIs.drew hXV).of_block (hun.block _ (World.rowIs.drew hXV).lt oM);have HK10:Hid (WK E c {s with left:=s.left++[⟨op',(D:Int),a',b',e',n',z'⟩],hold:=fun r=>if r=⟨⟨op',0,a',b',e',n',z'⟩,⟨tk,tp⟩⟩then some D else s.hold r} w10 B C SB IB MB (nm+1) rb ro q1 vk vo vl' tag'):=by
      have e9:(fun r=>if r=(⟨⟨op',0,a',b',e',n',z'⟩,⟨tk,tp⟩⟩:Rk)then some (Value.int .i64 (D:Int))else(s.hold r).map fun(g:Nat)=>Value.int .i64 (g:Int))=fun r=>(if r=(⟨⟨op',0,a',b',e',n',z'⟩,⟨tk,tp⟩⟩:Rk)then some D else s.hold r).map fun(g:Nat)=>Value.int .i64 (g:Int):=by
       funext r;by_cases q:r=(⟨⟨op',0,a',b',e',n',z'⟩,⟨tk,tp⟩⟩:Rk)
       ·rw[if_pos q,if_pos q];rfl
       ·rw[if_neg q,if_neg q]
      rw[e9]at hm10;exact(HKV.out.below (A6 V)).setMap hm10 (fun b hb hne=>hun.block b hb hne)
     have HB10:Hid (Below E w w10):=by
      have h1:Below E wc V.drew:=(bel HBV.out (A6 V)).mono HK6.out.lt;exact(HB6.out.trans h1).trans (hun.below (HKV.out.below (A6 V)).lt (fun b q=>by rw[q];exact HK6.out.hM))
     have v3:=HKV.out.b3;have v3':=HK10.out.b3;have x1:V.cell? ⟨w.heap.size,1,none⟩=some (.int .i64 (D:Int)):=hXV.cell (i:=1) dE;have x1':w10.cell? ⟨w.heap.size,1,none⟩=some (.int .i64 (D:Int)):=hX10.cell (i:=1) dE;have r0:V.cell? ⟨w9.heap.size,0,none⟩=some (.int .i64 op'):=hYV.cell (i:=0) dE;have r1:V.cell? ⟨w9.heap.size,1,none⟩=some (.int .i64 0):=hYV.cell (i:=1) dE;have r2:V.cell? ⟨w9.heap.size,2,none⟩=some (.int .i64 a'):=hYV.cell (i:=2) dE;have r3:V.cell? ⟨w9.heap.size,3,none⟩=some (.int .i64 b'):=hYV.cell (i:=3) dE;have r4:V.cell? ⟨w9.heap.size,4,none⟩=some (.int .i64 e'):=hYV.cell (i:=4) dE;have r5:V.cell? ⟨w9.heap.size,5,none⟩=some (.int .i64 n'):=hYV.cell (i:=5) dE;have r6:V.cell? ⟨w9.heap.size,6,none⟩=some (.int .u32 z'):=hYV.cell (i:=6) dE;have r7:V.cell? ⟨w9.heap.size,7,none⟩=some (.int .i64 tk):=hYV.cell (i:=7) dE;have r8:V.cell? ⟨w9.heap.size,8,none⟩=some (.int .i64 tp):=hYV.cell (i:=8) dE;have r'0:w10.cell? ⟨w9.heap.size,0,none⟩=some (.int .i64 op'):=hY10.cell (i:=0) dE;have r'1:w10.cell? ⟨w9.heap.size,1,none⟩=some (.int .i64 0):=hY10.cell (i:=1) dE;have r'2:w10.cell? ⟨w9.heap.size,2,none⟩=some (.int .i64 a'):=hY10.cell (i:=2) dE;have r'3:w10.cell? ⟨w9.heap.size,3,none⟩=some (.int .i64 b'):=hY10.cell (i:=3) dE;have r'4:w10.cell? ⟨w9.heap.size,4,none⟩=some (.int .i64 e'):=hY10.cell (i:=4) dE;have r'5:w10.cell? ⟨w9.heap.size,5,none⟩=some (.int .i64 n'):=hY10.cell (i:=5) dE;have r'6:w10.cell? ⟨w9.heap.size,6,none⟩=some (.int .u32 z'):=hY10.cell (i:=6) dE;have r'7:w10.cell? ⟨w9.heap.size,7,none⟩=some (.int .i64 tk):=hY10.cell (i:=7) dE;have r'8:w10.cell? ⟨w9.heap.size,8,none⟩=some (.int .i64 tp):=hY10.cell (i:=8) dE;have HY10:=A8 hY10;clear hYV hXV hY10 hX10 hm10 hg10 hun;refine rG (fun v=>v.cell? ⟨B,3,none⟩=some (.map (some MB))/\v.cell? ⟨w.heap.size,1,none⟩=some (.int .i64 (D:Int))/\v.cell? ⟨w9.heap.size,0,none⟩=some (.int .i64 op')/\v.cell? ⟨w9.heap.size,1,none⟩=some (.int .i64 0)/\v.cell? ⟨w9.heap.size,2,none⟩=some (.int .i64 a')/\v.cell? ⟨w9.heap.size,3,none⟩=some (.int .i64 b')/\v.cell? ⟨w9.heap.size,4,none⟩=some (.int .i64 e')/\v.cell? ⟨w9.heap.size,5,none⟩=some (.int .i64 n')/\v.cell? ⟨w9.heap.size,6,none⟩=some (.int .u32 z')/\v.cell? ⟨w9.heap.size,7,none⟩=some (.int .i64 tk)/\v.cell? ⟨w9.heap.size,8,none⟩=some (.int .i64 tp)) fun hHeld=>?_;refine Tf 0 1 2 3 4 5 ?_;refine Bq 6 ?_;clear hHeld;refine AC 7 fun K hK=>?_;go_simp;refine Ax hK fun hHeld=>?_;clear hK K;refine wpAnyH_done kR ?_ _;clear hrun v3 v3' x1 x1' r0 r1 r2 r3 r4 r5 r6 r7 r8;obtain⟨gA,capA,w11,hr,hk11,k2,k3,hb11,hoth⟩:=HK10.out.appReck (by have:=HK.out.l1;show s.reck.length<=_;omega) ⟨⟨op',0,a',b',e',n',z'⟩,⟨tk,tp⟩⟩;simp only at hr hk11;obtain⟨MA,hMA⟩:∃M,s.reck.length+1=M:=⟨_,rfl⟩
     rw[hMA]at hr hk11;have hY11:=HY10.out.of_block (hoth w9.heap.size HY10.out.lt (fun e=>by have:=(HK6.out.reck.lt _ e).2;have:=HB9.out.size;omega));have nYB:¬w9.heap.size=B:=oM;have nBY:¬B=w9.heap.size:=oM;have HRA:=A8 hr;have HPA:Hid (∃nm' vk' vo' vl' tag',nm'<=nm+1/\WK E c T (w11.setCell ⟨B,4,none⟩ (.slice (some ⟨gA,0,none⟩) MA capA)) B C SB IB MB nm' rb ro q1 vk' vo' vl' tag'):=⟨nm+1,_,_,_,_,Nat.le_refl _,by rw[HT3.out];exact hk11⟩
     have HBA:Hid (Below E w (w11.setCell ⟨B,4,none⟩ (.slice (some ⟨gA,0,none⟩) MA capA))):=((HB10.out.trans hb11).setCell HH.out.hB _)
     have p4:=HK10.out.b4;have p4':(w10.alloc (.cells #[.int .i64 op',.int .i64 0,.int .i64 a',.int .i64 b',.int .i64 e',.int .i64 n',.int .u32 z',.int .i64 tk,.int .i64 tp] 108)).cell? ⟨B,4,none⟩=some vk:=kc (A0 _ _) p4;have nBc:¬B=w10.heap.size:=fun e=>by have:=HK10.out.b.lt;omega
     have nYc:¬w9.heap.size=w10.heap.size:=fun e=>by have:=HY10.out.lt;omega
     have m0:w11.cell? ⟨w9.heap.size,0,none⟩=some (.int .i64 op'):=hY11.cell (i:=0) dE;have m1:w11.cell? ⟨w9.heap.size,1,none⟩=some (.int .i64 0):=hY11.cell (i:=1) dE;have m2:w11.cell? ⟨w9.heap.size,2,none⟩=some (.int .i64 a'):=hY11.cell (i:=2) dE;have m3:w11.cell? ⟨w9.heap.size,3,none⟩=some (.int .i64 b'):=hY11.cell (i:=3) dE;have m4:w11.cell? ⟨w9.heap.size,4,none⟩=some (.int .i64 e'):=hY11.cell (i:=4) dE;have m5:w11.cell? ⟨w9.heap.size,5,none⟩=some (.int .i64 n'):=hY11.cell (i:=5) dE;have m6:w11.cell? ⟨w9.heap.size,6,none⟩=some (.int .u32 z'):=hY11.cell (i:=6) dE;have m7:w11.cell? ⟨w9.heap.size,7,none⟩=some (.int .i64 tk):=hY11.cell (i:=7) dE;have m8:w11.cell? ⟨w9.heap.size,8,none⟩=some (.int .i64 tp):=hY11.cell (i:=8) dE;clear hr hk11 hb11 hoth hY11 hMA lX9 lMc lM9 lMw lBw;go_upto_region 13 with fail;refine rG (fun v=>v.cell? ⟨w9.heap.size,0,none⟩=some (.int .i64 op')/\v.cell? ⟨w9.heap.size,1,none⟩=some (.int .i64 0)/\v.cell? ⟨w9.heap.size,2,none⟩=some (.int .i64 a')/\v.cell? ⟨w9.heap.size,3,none⟩=some (.int .i64 b')/\v.cell? ⟨w9.heap.size,4,none⟩=some (.int .i64 e')/\v.cell? ⟨w9.heap.size,5,none⟩=some (.int .i64 n')/\v.cell? ⟨w9.heap.size,6,none⟩=some (.int .u32 z')/\v.cell? ⟨w9.heap.size,7,none⟩=some (.int .i64 tk)/\v.cell? ⟨w9.heap.size,8,none⟩=some (.int .i64 tp)) fun hHeld=>?_;refine Tc 0 1 2 ?_;refine Tb 3 5 ?_;clear hHeld;refine wpAnyH_ready (rs:=[4,6]) kR sM ?_;refine Fs 4 (fun K hK=>?_) ?_
     ·go_simp;refine Ax hK fun hHeld=>?_;clear hK K;clear hHeld;refine AC 6 fun K hK=>?_;exact Zce
     refine Fs 6 (fun K hK=>?_) AllReadyH.nil;go_simp;refine Ax hK fun hHeld=>?_;clear hK K;clear hHeld;refine AC 4 fun K hK=>?_;exact Zce
end Go.Proofs.YtcdpmgldkibfiaaGreat
