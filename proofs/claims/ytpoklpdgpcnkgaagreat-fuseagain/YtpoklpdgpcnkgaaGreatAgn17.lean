import Derived.Test.YtpoklpdgpcnkgaaGreatAgn14
import Derived.Test.YtpoklpdgpcnkgaaGreatAgn15
import Derived.Test.YtpoklpdgpcnkgaaGreatAgn16
import Derived.Test.YtpoklpdgpcnkgaaGreatAgn1
import Derived.Test.YtpoklpdgpcnkgaaGreatAgn2
import Derived.Test.YtpoklpdgpcnkgaaGreatAgn7
import Derived.Test.YtpoklpdgpcnkgaaGreatAgn12
import Derived.Lib.LazyBuf
import Derived.Test.YtpoklpdgpcnkgaaGreatAgn8
import Derived.Test.YtpoklpdgpcnkgaaGreatAgn9
import Derived.Deep.DeepCutAuto
namespace Go.Proofs.YtpoklpdgpcnkgaaGreat
open Go.RowKit Go.Proofs.Tryz
set_option linter.all false
set_option maxRecDepth 100000
set_option maxHeartbeats 16000000
def okM(L:Lt):Bool:=decide (L.a=45->L.b=45->L.e=45\/L.e=113)&&(decide (L.a=45->L.b≠45->L.e=45\/L.e=112\/L.e=115)&&decide (L.a≠45->L.e=45\/L.e=105\/L.e=112\/L.e=115))
theorem Z7{p:Prop}[Decidable p]{x y:Lt}(h:okM x=true)(k:okM y=true):okM (if p then x else y)=true:=by
 split
 .exact h
 .exact k
theorem YS(op:Int):okM (Eg op)=true:=by
 unfold Eg
 iterate 19 refine Z7 dE ?_
 decide
theorem TG(v0 v1 v2 v3:Value)(c:Cd)(co:B3 c)(hT:Al c=true)(i:Ad)(h0:0<=i.bits)(h1:i.bits<4294967296)(hk:Ar i.op=true)(h2:(i.op==1||i.bits==0)=true)(h3:CT i.bits=true)(w:World)(hv:D9 w v0 v1 v2 v3 c):
 Calls prog 71 #[.agg #[v0,v1,v2,v3],By i] w fun e w'=>e=.returned (.bool (EQ c i (Eg i.op)))/\Below w.heap.size w w':=by
 have HCAN:Hid (∀w,Calls prog 70 #[.int .u32 i.bits] w fun e w'=>e=.returned (.bool true)/\Below w.heap.size w w'):=by rw[<-h3];exact EE i.bits h0 h1
 obtain⟨a,b,cc,d,e,⟨ea,eb,ec,ed,ee⟩,hc⟩:=Se i.op hk;obtain⟨oa,ob,oc,od,oe,oT⟩:=ltR_ok i.op;have om:=YS i.op;unfold okM at om;simp only[Bool.and_eq_true,decide_eq_true_eq]at om;obtain⟨m1,m2,m3⟩:=om;have hF:EQ c i (Eg i.op)=(Aw c.regs (Eg i.op).a i.d ⟨0,0⟩&&(Aw c.regs (Eg i.op).b i.a (dR c.regs (Eg i.op).a i.d)&&(Aw c.regs (Eg i.op).c i.b (dR c.regs (Eg i.op).a i.d)&&(Aw c.regs (Eg i.op).d i.c (dR c.regs (Eg i.op).a i.d)&&DG c (Eg i.op).e i.n (tR c.regs (Eg i.op).a (Eg i.op).b i.d i.a))))):=by
  unfold EQ;rw[h2,h3,Bool.true_and,Bool.true_and]
 rw[hF];clear hF h3;have ix0:∀w,(Instr.index 9 (.string ⟨#[a,b,cc,d,e]⟩) (.int .i64 0)).run prog w=.ok (.int .u8 (Eg i.op).a) w:=fun w=>by rw[<-ea];simp[Instr.index,run_underlying underlying9,asIntOf,go_sem];rfl
 have ix1:∀w,(Instr.index 9 (.string ⟨#[a,b,cc,d,e]⟩) (.int .i64 1)).run prog w=.ok (.int .u8 (Eg i.op).b) w:=fun w=>by rw[<-eb];simp[Instr.index,run_underlying underlying9,asIntOf,go_sem];rfl
 have ix2:∀w,(Instr.index 9 (.string ⟨#[a,b,cc,d,e]⟩) (.int .i64 2)).run prog w=.ok (.int .u8 (Eg i.op).c) w:=fun w=>by rw[<-ec];simp[Instr.index,run_underlying underlying9,asIntOf,go_sem];rfl
 have ix3:∀w,(Instr.index 9 (.string ⟨#[a,b,cc,d,e]⟩) (.int .i64 3)).run prog w=.ok (.int .u8 (Eg i.op).d) w:=fun w=>by rw[<-ed];simp[Instr.index,run_underlying underlying9,asIntOf,go_sem];rfl
 have Vy:∀w,(Instr.index 9 (.string ⟨#[a,b,cc,d,e]⟩) (.int .i64 4)).run prog w=.ok (.int .u8 (Eg i.op).e) w:=fun w=>by rw[<-ee];simp[Instr.index,run_underlying underlying9,asIntOf,go_sem];rfl
 cases h:(i.op==1)
 .rw[h,Bool.false_or]at h2;have o2:(i.op != 1)=true:=by simpa using h
  have o4:(i.bits != 0)=false:=by simpa using h2
  by_cases hz:(Eg i.op).a=45
  .exact Zm v0 v1 v2 v3 c co hT i.op i.d i.a i.b i.c i.n i.bits _ _ _ _ _ a b cc d e hc HCAN ix0 ix1 ix2 ix3 Vy oa ob oc od oT h o2 h2 o4 hz (m1 hz) (m2 hz) w hv
  .exact Zn v0 v1 v2 v3 c co hT i.op i.d i.a i.b i.c i.n i.bits _ _ _ _ _ a b cc d e hc HCAN ix0 ix1 ix2 ix3 Vy oa ob oc od oT h o2 h2 o4 hz (m3 hz) w hv
 .have o2:(i.op != 1)=false:=by simpa using h
  have e1:i.op=1:=by simpa using h
  have ha:(Eg i.op).a≠45:=by rw[e1];decide
  have he:(Eg i.op).e=45:=by rw[e1];rfl
  exact Zo v0 v1 v2 v3 c co hT i.op i.d i.a i.b i.c i.n i.bits _ _ _ _ _ a b cc d e hc HCAN ix0 ix1 ix2 ix3 Vy oa ob oc od oT h o2 ha he w hv
theorem TF(v0 v1 v2 v3:Value)(c:Cd)(co:B3 c)(hT:Al c=true)(i:Ad)(h0:0<=i.bits)(h1:i.bits<4294967296)(w:World)(hv:D9 w v0 v1 v2 v3 c):
 Calls prog 71 #[.agg #[v0,v1,v2,v3],By i] w fun e w'=>e=.returned (.bool (Ar i.op&&EQ c i (Eg i.op)))/\Below w.heap.size w w':=by
 cases hh:(Ar i.op&&((i.op==1||i.bits==0)&&CT i.bits))
 .have e:(Ar i.op&&EQ c i (Eg i.op))=false:=by
   unfold EQ;revert hh;cases Ar i.op<;>cases(i.op==1||i.bits==0)<;>cases CT i.bits<;>simp
  rw[e];exact Wb v0 v1 v2 v3 i h0 h1 hh w
 .simp only[Bool.and_eq_true]at hh;rw[hh.1,Bool.true_and];exact TG v0 v1 v2 v3 c co hT i h0 h1 hh.1 hh.2.1 hh.2.2 w hv
theorem Zl{c:Cd}{i:Ad}(h:AO c i (A3 i.op)=true):∀x∈Ac i (A3 i.op),0<=x/\x<(c.regs.length:Int):=by
 intro x hx;unfold Ac at hx;simp only[List.mem_append]at hx;rcases hx with hx|hx|hx
 .split at hx
  .simp at hx
  .rename_i e;simp at hx;subst hx;exact Ag (BN h) e
 .split at hx
  .simp at hx
  .rename_i e;simp at hx;subst hx;exact Ag (DU h) e
 .split at hx
  .simp at hx
  .rename_i e;simp at hx;subst hx;exact Ag (DV h) e
theorem TB(i:Ad):(Ac i (A3 i.op)).length<=3:=by
 rw[I1];simp only[List.length_append];have a:=Iz (A3 i.op).a i.a;have b:=Iz (A3 i.op).b i.b;have d:=Iz (A3 i.op).c i.c;omega
theorem OH(v0 v1 v2 v3:Value)(c:Cd)(co:B3 c)(hT:Al c=true)(i:Ad)(hb0:0<=i.bits)(hb1:i.bits<4294967296)(B:Nat)(s:Wk)(sv ov:Value)(us:List Value)(hM:c.regs.length<=16384)(ok:Ei c.regs.length s)(po:Eu s)(w:World)(hv:D9 w v0 v1 v2 v3 c)(hs:SK B c.regs.length w sv ov s us):
 Calls prog 48 #[.agg #[v0,v1,v2,v3],By i,sv,ov] w fun e w'=>e=.returned (.bool (Am c s i))/\Below w.heap.size w w':=by
 rw[Ui hT po];have hfit:(Ar i.op&&EQ c i (Eg i.op))=true->AO c i (A3 i.op)=true:=fun h=>by simp only[Bool.and_eq_true]at h;rw[<-NZ hT];exact h.2
 have HFIT:Hid (∀v,Below w.heap.size w v->Calls prog 71 #[.agg #[v0,v1,v2,v3],By i] v fun e w'=>e=.returned (.bool (Ar i.op&&EQ c i (Eg i.op)))/\Below v.heap.size v w'):=fun v hb=>TF v0 v1 v2 v3 c co hT i hb0 hb1 v (hv.below hb);have HVEC:Hid (∀v,Below w.heap.size w v->Calls prog 38 #[.agg #[v0,v1,v2,v3],By i] v fun e w'=>e=.returned (.int .i64 (GU c.regs (G2 i)))/\Below v.heap.size v w'):=fun v hb=>OL v0 v1 v2 v3 c co i v (hv.below hb);have HRD:Hid (∀v,Calls prog 72 #[By i] v fun e w'=>∃u,e=.returned u/\w'.ownsRow v.heap.size 3 1 u (Ac i (A3 i.op)).length (BG (Ac i (A3 i.op)))/\Below v.heap.size v w'):=Qt i;have hR3:=TB i;have hRP:=fun h=>Zl (hfit h);have hRO:CV s i (A3 i.op)=(Ac i (A3 i.op)).all fun n=>decide (n.toNat∈s.set):=rfl;rw[hRO];clear hfit hRO;unfold Oj OX;obtain⟨Fi,hFi⟩:∃F,(Ar i.op&&EQ c i (Eg i.op))=F:=⟨_,rfl⟩
 rw[hFi]at HFIT hRP |-;obtain⟨V,hV⟩:=gA (GU c.regs (G2 i))
 rw[hV]at HVEC |-;obtain⟨R,hR⟩:=gA (Ac i (A3 i.op))
 rw[hR]at HRD hR3 hRP |-;have hnest:=ok.nest;have hlast:=fun g q (e:ov=.slice (some ⟨g,0,none⟩) s.opens.length q)=>SK.last (e▸hs);obtain⟨p,q,rfl⟩:=AM hs.opn;have hopn:0<s.opens.length->∃g,p=some ⟨g,0,none⟩:=fun h=>by
  obtain⟨g,cap,e,_⟩:=hs.opn.form h;simp only[Value.slice.injEq]at e;exact⟨g,e.1⟩
 obtain⟨ps,qs,rfl⟩:=AM hs.set;have HSET:Hid (∀k,k<c.regs.length->∃g,ps=some ⟨g,0,none⟩/\w.cell? ⟨g,k,none⟩=some (.bool (decide (k∈s.set)))):=fun k hk=>by
  obtain⟨g,cap,e,_⟩:=hs.set.form oM;simp only[Value.slice.injEq]at e;obtain⟨rfl,-,-⟩:=e;exact⟨g,rfl,by rw[hs.set.cellAt k oM,I8 hk]⟩
 have hz:s.opens.length=0->An s=false:=fun h=>by
  obtain⟨S,O⟩:=s;cases O with
  |nil=>rfl
  |cons b r=>simp at h
 obtain⟨S,hS⟩:=gA (s.set)
 obtain⟨n,hn⟩:=gA (s.opens.length)
 obtain⟨lp,hlp⟩:∃l,An s=l:=⟨_,rfl⟩
 obtain⟨par,hpar⟩:∃l,BH s=l:=⟨_,rfl⟩
 obtain⟨M,hMM⟩:=gA (c.regs.length)
 rw[hn]at hnest hlast hopn hz |-;rw[hlp]at hlast hz |-;rw[hpar]at hlast |-;rw[hS]at HSET |-;rw[hMM]at hM HSET hRP hlast |-;clear hFi hV hR hs ok po hv co hT hS hn hlp hpar hMM;obtain⟨op,D,A,Q,E,nn,bt⟩:=i;unfold By at HFIT HVEC HRD |-;simp only at HFIT HVEC HRD hb0 hb1 |-;clear hb0 hb1;have HT0:Hid (TW w v0 v1 v2 v3 (w.heap.size+1) op D A Q E nn bt ((w.alloc (.cells #[v0,v1,v2,v3] 27)).alloc (.cells #[.int .i64 op,.int .i64 D,.int .i64 A,.int .i64 Q,.int .i64 E,.int .i64 nn,.int .u32 bt] 45))):=TW.start w v0 v1 v2 v3 op D A Q E nn bt;obtain⟨hb00,c0,c1,c2,c3,i0,i1,i2,i3,i4,i5,i6⟩:=HT0.out;have hcase:(n=0/\lp=false)\/(∃m g,m+1=n/\p=some ⟨g,0,none⟩/\lp=false/\w.cell? ⟨g,m*3,none⟩=some (.int .i64 34))\/(∃m g,m+1=n/\p=some ⟨g,0,none⟩/\lp=true/\w.cell? ⟨g,m*3,none⟩=some (.int .i64 36)/\w.cell? ⟨g,m*3+1,none⟩=some (.int .i64 par)):=by
  by_cases h0:n=0
  .exact .inl ⟨h0,hz h0⟩
  .obtain⟨g,rfl⟩:=hopn oM;obtain⟨X,u,-,-,a0,a1,-⟩:=hlast g q rfl oM;obtain⟨m,rfl⟩:∃m,n=m+1:=⟨n-1,oM⟩
   rw[Nat.add_sub_cancel]at a0 a1;cases lp
   .exact .inr (.inl ⟨m,g,rfl,rfl,rfl,a0⟩)
   .exact .inr (.inr ⟨m,g,rfl,rfl,rfl,a0,a1⟩)
 clear hlast hopn hz;have HRP:Hid (Fi=true->∀x∈R,0<=x/\x<(M:Int)):=hRP;clear hRP;obtain⟨RES,hRES⟩:∃X,(Fi&&(!(lp&&(op != 37&&V != par))&&((R.all fun n=>decide (n.toNat∈S))&&(if op=34\/op=36 then decide (n<64)else if op=35 then decide (0<n)&& !lp else if op=37 then lp else true))))=X:=⟨_,rfl⟩
 rw[hRES];cases Fi
 .have HQF:Hid (false=RES):=hRES;clear hRES;rcases hcase with⟨rfl,rfl⟩|⟨m,g,hm,rfl,rfl,z0⟩|⟨m,g,hm,rfl,rfl,z0,z1⟩
  .exact Zaj
  .have hw:IntKind.i64.wrap ((n:Int)-1)=(m:Int):=by rw[IntKind.wrap_i64];omega
   have x0:=kc hb00 z0;have j0:(0:Int)<(n:Int):=oM;have j1:(0:Int)<=(m:Int):=oM;have j2:(m:Int)<(n:Int):=oM;exact Zaj
  .have hw:IntKind.i64.wrap ((n:Int)-1)=(m:Int):=by rw[IntKind.wrap_i64];omega
   have x0:=kc hb00 z0;have j0:(0:Int)<(n:Int):=oM;have j1:(0:Int)<=(m:Int):=oM;have j2:(m:Int)<(n:Int):=oM;exact Zaj
 .rw[Bool.true_and]at hRES;have HRP1:Hid (∀x∈R,0<=x/\x<(M:Int)):=HRP.out rfl;clear HRP;rcases hcase with⟨hn0,rfl⟩|⟨m,g,hm,rfl,rfl,z0⟩|⟨m,g,hm,rfl,rfl,z0,z1⟩
  .rw[Bool.false_and,Bool.not_false,Bool.true_and]at hRES;have HR2:Hid (((R.all fun n=>decide (n.toNat∈S))&&(if op=34\/op=36 then decide (n<64)else if op=35 then decide (0<n)&& !false else if op=37 then false else true))=RES):=hRES;clear hRES;have j0:¬ (0:Int)<(n:Int):=oM;go_enter func48,ntmps48;go_wp2;refine rG (fun v=>v.cell? ⟨w.heap.size,0,none⟩=some v0/\v.cell? ⟨w.heap.size,1,none⟩=some v1/\v.cell? ⟨w.heap.size,2,none⟩=some v2/\v.cell? ⟨w.heap.size,3,none⟩=some v3/\v.cell? ⟨w.heap.size+1,0,none⟩=some (.int .i64 op)/\v.cell? ⟨w.heap.size+1,1,none⟩=some (.int .i64 D)/\v.cell? ⟨w.heap.size+1,2,none⟩=some (.int .i64 A)/\v.cell? ⟨w.heap.size+1,3,none⟩=some (.int .i64 Q)/\v.cell? ⟨w.heap.size+1,4,none⟩=some (.int .i64 E)/\v.cell? ⟨w.heap.size+1,5,none⟩=some (.int .i64 nn)/\v.cell? ⟨w.heap.size+1,6,none⟩=some (.int .u32 bt)) fun yH=>?_;refine Tb 0 1 ?_;clear yH;refine AG 2 fun K hK=>?_;go_simp;(go_at_call 71;(with_reducible refine(HFIT.out _ (bel HT0.out.bel (A7 _))).mono ?_);rintro e wz ⟨rfl,hbz⟩;have HBZ:Hid (Below ((w.alloc (.cells #[v0,v1,v2,v3] 27)).alloc (.cells #[.int .i64 op,.int .i64 D,.int .i64 A,.int .i64 Q,.int .i64 E,.int .i64 nn,.int .u32 bt] 45)).heap.size ((w.alloc (.cells #[v0,v1,v2,v3] 27)).alloc (.cells #[.int .i64 op,.int .i64 D,.int .i64 A,.int .i64 Q,.int .i64 E,.int .i64 nn,.int .u32 bt] 45)) wz):=bel (A7 _) hbz;clear hbz;obtain⟨-,c0,c1,c2,c3,i0,i1,i2,i3,i4,i5,i6⟩:=HT0.out.next HBZ.out);try(go_wp2_with fail)
   refine AE hK fun yH=>?_;clear hK K;refine Tc 3 4 5 ?_;refine BF 6 ?_;refine EL 7 ?_;refine EL 8 ?_;refine EL 9 ?_;refine Tb 10 11 ?_;refine Kd 12 13 14 15 ?_;refine Kd 16 17 18 19 ?_;refine EL 20 ?_;refine EL 21 ?_;refine EL 22 ?_;refine Tb 23 24 ?_;refine wpAnyH_done kR ?_ _;clear j0;exact Zab
  .rw[Bool.false_and,Bool.not_false,Bool.true_and]at hRES;have HR2:Hid (((R.all fun n=>decide (n.toNat∈S))&&(if op=34\/op=36 then decide (n<64)else if op=35 then decide (0<n)&& !false else if op=37 then false else true))=RES):=hRES;clear hRES;have hw:IntKind.i64.wrap ((n:Int)-1)=(m:Int):=by rw[IntKind.wrap_i64];omega
   have x0:=kc hb00 z0;have j0:(0:Int)<(n:Int):=oM;have j1:(0:Int)<=(m:Int):=oM;have j2:(m:Int)<(n:Int):=oM;go_enter func48,ntmps48;go_wp2;refine rG (fun v=>v.cell? ⟨w.heap.size,0,none⟩=some v0/\v.cell? ⟨w.heap.size,1,none⟩=some v1/\v.cell? ⟨w.heap.size,2,none⟩=some v2/\v.cell? ⟨w.heap.size,3,none⟩=some v3/\v.cell? ⟨w.heap.size+1,0,none⟩=some (.int .i64 op)/\v.cell? ⟨w.heap.size+1,1,none⟩=some (.int .i64 D)/\v.cell? ⟨w.heap.size+1,2,none⟩=some (.int .i64 A)/\v.cell? ⟨w.heap.size+1,3,none⟩=some (.int .i64 Q)/\v.cell? ⟨w.heap.size+1,4,none⟩=some (.int .i64 E)/\v.cell? ⟨w.heap.size+1,5,none⟩=some (.int .i64 nn)/\v.cell? ⟨w.heap.size+1,6,none⟩=some (.int .u32 bt)) fun yH=>?_;refine Tb 0 1 ?_;clear yH;refine AG 2 fun K hK=>?_;go_simp;(go_at_call 71;(with_reducible refine(HFIT.out _ (bel HT0.out.bel (A7 _))).mono ?_);rintro e wz ⟨rfl,hbz⟩;have HBZ:Hid (Below ((w.alloc (.cells #[v0,v1,v2,v3] 27)).alloc (.cells #[.int .i64 op,.int .i64 D,.int .i64 A,.int .i64 Q,.int .i64 E,.int .i64 nn,.int .u32 bt] 45)).heap.size ((w.alloc (.cells #[v0,v1,v2,v3] 27)).alloc (.cells #[.int .i64 op,.int .i64 D,.int .i64 A,.int .i64 Q,.int .i64 E,.int .i64 nn,.int .u32 bt] 45)) wz):=bel (A7 _) hbz;clear hbz;obtain⟨-,c0,c1,c2,c3,i0,i1,i2,i3,i4,i5,i6⟩:=HT0.out.next HBZ.out);try(go_wp2_with fail)
   refine AE hK fun yH=>?_;clear hK K;refine Tc 3 4 5 ?_;refine BF 6 ?_;refine EL 7 ?_;refine EL 8 ?_;refine EL 9 ?_;refine Tb 10 11 ?_;refine Kd 12 13 14 15 ?_;refine Kd 16 17 18 19 ?_;refine EL 20 ?_;refine EL 21 ?_;refine EL 22 ?_;refine Tb 23 24 ?_;refine wpAnyH_done kR ?_ _;clear j0 j1 j2 hw;exact Zab
  .rw[Bool.true_and]at hRES;have hw:IntKind.i64.wrap ((n:Int)-1)=(m:Int):=by rw[IntKind.wrap_i64];omega
   have x0:=kc hb00 z0;have j0:(0:Int)<(n:Int):=oM;have j1:(0:Int)<=(m:Int):=oM;have j2:(m:Int)<(n:Int):=oM;have y1:=kc hb00 z1;by_cases h7:op=37
   .subst h7;rw[show((37:Int) != 37)=false from rfl,Bool.false_and,Bool.not_false,Bool.true_and]at hRES;have HR2:Hid (((R.all fun n=>decide (n.toNat∈S))&&(if(37:Int)=34\/(37:Int)=36 then decide (n<64)else if(37:Int)=35 then decide (0<n)&& !true else if(37:Int)=37 then true else true))=RES):=hRES;clear hRES;go_enter func48,ntmps48;go_wp2;refine rG (fun v=>v.cell? ⟨w.heap.size,0,none⟩=some v0/\v.cell? ⟨w.heap.size,1,none⟩=some v1/\v.cell? ⟨w.heap.size,2,none⟩=some v2/\v.cell? ⟨w.heap.size,3,none⟩=some v3/\v.cell? ⟨w.heap.size+1,0,none⟩=some (.int .i64 37)/\v.cell? ⟨w.heap.size+1,1,none⟩=some (.int .i64 D)/\v.cell? ⟨w.heap.size+1,2,none⟩=some (.int .i64 A)/\v.cell? ⟨w.heap.size+1,3,none⟩=some (.int .i64 Q)/\v.cell? ⟨w.heap.size+1,4,none⟩=some (.int .i64 E)/\v.cell? ⟨w.heap.size+1,5,none⟩=some (.int .i64 nn)/\v.cell? ⟨w.heap.size+1,6,none⟩=some (.int .u32 bt)) fun yH=>?_;refine Tb 0 1 ?_;clear yH;refine AG 2 fun K hK=>?_;go_simp;(go_at_call 71;(with_reducible refine(HFIT.out _ (bel HT0.out.bel (A7 _))).mono ?_);rintro e wz ⟨rfl,hbz⟩;have HBZ:Hid (Below ((w.alloc (.cells #[v0,v1,v2,v3] 27)).alloc (.cells #[.int .i64 37,.int .i64 D,.int .i64 A,.int .i64 Q,.int .i64 E,.int .i64 nn,.int .u32 bt] 45)).heap.size ((w.alloc (.cells #[v0,v1,v2,v3] 27)).alloc (.cells #[.int .i64 37,.int .i64 D,.int .i64 A,.int .i64 Q,.int .i64 E,.int .i64 nn,.int .u32 bt] 45)) wz):=bel (A7 _) hbz;clear hbz;obtain⟨-,c0,c1,c2,c3,i0,i1,i2,i3,i4,i5,i6⟩:=HT0.out.next HBZ.out);try(go_wp2_with fail)
    refine AE hK fun yH=>?_;clear hK K;refine Tf 3 4 5 6 7 8 ?_;refine Tc 9 10 11 ?_;refine Kd 12 13 14 15 ?_;refine Kd 16 17 18 19 ?_;refine EL 20 ?_;refine EL 21 ?_;refine EL 22 ?_;refine Tb 23 24 ?_;refine wpAnyH_done kR ?_ _;clear j0 j1 j2 hw y1;have HTZ:Hid (TW w v0 v1 v2 v3 (w.heap.size+1) 37 D A Q E nn bt wz):=HT0.out.next HBZ.out;go_wp2_with(go_at_call 72;(with_reducible refine(HRD.out _).mono ?_);rintro e w5 ⟨u,rfl,hou,hb5⟩;obtain⟨pu,qu,rfl⟩:=AM hou;have HOU:Hid (w5.ownsRow wz.heap.size 3 1 (.slice pu R.length qu) R.length (BG R)):=hou;have HB5:Hid (Below wz.heap.size wz w5):=hb5;clear hou hb5)
    go_loopw [11] (fun kv wr=>∃k:Nat,k<=R.length/\kv=.int .i64 (k:Int)/\wr=w5/\∀x∈R.take k,x.toNat∈S) (fun kv _=>R.length-(intOf kv).toNat)
    case atStart=>exact⟨0,gI _,rfl,rfl,fun x hx=>by simp at hx⟩
    case round=>
     obtain⟨k,hk,rfl,rfl,hin⟩:=hrel;clear c0 c1 c2 c3 i0 i1 i2 i3 i4 i5 i6;obtain⟨hbq,c0,c1,c2,c3,i0,i1,i2,i3,i4,i5,i6⟩:=HTZ.next HB5.out;by_cases hlt:k<R.length
     .have hx:=HRP1.out R[k] (gD hlt);obtain⟨d,hd⟩:∃d:Nat,R[k]=(d:Int):=⟨R[k].toNat,oM⟩
      obtain⟨gs,rfl,hcs⟩:=HSET.out d oM;have hcs':=kc hbq hcs;obtain⟨gu,cu,eu,-⟩:=HOU.form oM;simp only[Value.slice.injEq]at eu;obtain⟨rfl,-,rfl⟩:=eu;have hcu:wr.cell? ⟨gu,k,none⟩=some (.int .i64 (d:Int)):=by rw[HOU.cellAt k oM];simp[BG,hlt,hd]
      have HMEM:Hid (R[k]=(d:Int)):=hd;have HIN:Hid (∀x∈R.take k,x.toNat∈S):=hin;have t0:(0:Int)<=(k:Int):=oM;have t1:(k:Int)<(R.length:Int):=oM;have t2:(0:Int)<=(d:Int):=oM;have t3:(d:Int)<(M:Int):=oM;have wk:IntKind.i64.wrap ((k:Int)+1)=((k+1:Nat):Int):=by rw[IntKind.wrap_i64];omega
      clear hx hd hin hcs hk;cases hX:decide (d∈S)
      .rw[hX]at hcs';have hall:(R.all fun n=>decide (n.toNat∈S))=false:=by
        rw[List.all_eq_false];exact⟨R[k],gD hlt,by rw[HMEM.out,Int.toNat_natCast,hX];decide⟩
       have HQF:Hid (false=RES):=by show _=_;have:=HR2.out;rw[hall,Bool.false_and]at this;exact this
       clear hX hall;go_wp2;go_ret;exact⟨Aa HQF.out,hbq⟩
      .rw[hX]at hcs';have HX:Hid (d∈S):=by show d∈S;exact of_decide_eq_true hX
       clear hX;go_wp2;go_roundw
       case rel=>
        refine⟨k+1,oM,gN,fT,fun x hx=>?_⟩;rw[List.take_succ_eq_append_getElem hlt,List.mem_append]at hx;rcases hx with hx|hx
        .exact HIN.out x hx
        .simp only[List.mem_singleton]at hx;rw[hx,HMEM.out,Int.toNat_natCast];exact HX.out
       case measure=>simp[intOf];omega
     .have hkk:k=R.length:=oM;have hall:(R.all fun n=>decide (n.toNat∈S))=true:=by
       rw[List.all_eq_true];intro x hx;rw[hkk,List.take_length]at hin;simpa using hin x hx
      have h9:=HR2.out;rw[hall,Bool.true_and]at h9;have HTS:Hid _:=h9;clear h9;have t1:¬ (k:Int)<(R.length:Int):=oM;clear hall hin hk hlt;have HQ:Hid (true=RES):=by show _=_;have:=HTS.out;simpa using this
      go_wp2;go_ret;exact⟨Aa HQ.out,hbq⟩
   .have h7':(op != 37)=true:=by simpa using h7
    have h7b:(op==37)=false:=by simpa using h7
    rw[h7',Bool.true_and]at hRES;cases hVV:(V != par)
    .rw[hVV,Bool.not_false,Bool.true_and]at hRES;have HR2:Hid (((R.all fun n=>decide (n.toNat∈S))&&(if op=34\/op=36 then decide (n<64)else if op=35 then decide (0<n)&& !true else if op=37 then true else true))=RES):=hRES;clear hRES;have hVb:(V==par)=true:=by simpa using hVV
     go_enter func48,ntmps48;go_wp2;refine rG (fun v=>v.cell? ⟨g,m*3+1,none⟩=some (.int .i64 par)/\v.cell? ⟨w.heap.size,0,none⟩=some v0/\v.cell? ⟨w.heap.size,1,none⟩=some v1/\v.cell? ⟨w.heap.size,2,none⟩=some v2/\v.cell? ⟨w.heap.size,3,none⟩=some v3/\v.cell? ⟨w.heap.size+1,0,none⟩=some (.int .i64 op)/\v.cell? ⟨w.heap.size+1,1,none⟩=some (.int .i64 D)/\v.cell? ⟨w.heap.size+1,2,none⟩=some (.int .i64 A)/\v.cell? ⟨w.heap.size+1,3,none⟩=some (.int .i64 Q)/\v.cell? ⟨w.heap.size+1,4,none⟩=some (.int .i64 E)/\v.cell? ⟨w.heap.size+1,5,none⟩=some (.int .i64 nn)/\v.cell? ⟨w.heap.size+1,6,none⟩=some (.int .u32 bt)) fun yH=>?_;refine Tb 0 1 ?_;clear yH;refine AG 2 fun K hK=>?_;go_simp;(go_at_call 71;(with_reducible refine(HFIT.out _ (bel HT0.out.bel (A7 _))).mono ?_);rintro e w1 ⟨rfl,hb1⟩;have HB1:Hid (Below ((w.alloc (.cells #[v0,v1,v2,v3] 27)).alloc (.cells #[.int .i64 op,.int .i64 D,.int .i64 A,.int .i64 Q,.int .i64 E,.int .i64 nn,.int .u32 bt] 45)).heap.size ((w.alloc (.cells #[v0,v1,v2,v3] 27)).alloc (.cells #[.int .i64 op,.int .i64 D,.int .i64 A,.int .i64 Q,.int .i64 E,.int .i64 nn,.int .u32 bt] 45)) w1):=bel (A7 _) hb1;clear hb1;obtain⟨-,c0,c1,c2,c3,i0,i1,i2,i3,i4,i5,i6⟩:=HT0.out.next HB1.out;have y1:=kc (bel HT0.out.bel HB1.out) z1);try(go_wp2_with fail)
     refine AE hK fun yH=>?_;clear hK K;refine Tf 3 4 5 6 7 8 ?_;refine Tf 9 10 11 12 13 15 ?_;refine Tf 16 17 18 19 20 21 ?_;clear yH;refine AG 14 fun K hK=>?_;go_simp;(go_at_call 38;(with_reducible refine(HVEC.out _ (bel HT0.out.bel HB1.out)).mono ?_);rintro e wz ⟨rfl,hbz⟩;have HBZ:Hid (Below ((w.alloc (.cells #[v0,v1,v2,v3] 27)).alloc (.cells #[.int .i64 op,.int .i64 D,.int .i64 A,.int .i64 Q,.int .i64 E,.int .i64 nn,.int .u32 bt] 45)).heap.size ((w.alloc (.cells #[v0,v1,v2,v3] 27)).alloc (.cells #[.int .i64 op,.int .i64 D,.int .i64 A,.int .i64 Q,.int .i64 E,.int .i64 nn,.int .u32 bt] 45)) wz):=bel HB1.out hbz;clear hbz c0 c1 c2 c3 i0 i1 i2 i3 i4 i5 i6 y1;obtain⟨-,c0,c1,c2,c3,i0,i1,i2,i3,i4,i5,i6⟩:=HT0.out.next HBZ.out;have y1:=kc (bel HT0.out.bel HBZ.out) z1);try(go_wp2_with fail)
     refine AE hK fun yH=>?_;clear hK K;refine Tc 22 23 24 ?_;refine wpAnyH_done kR ?_ _;clear j0 j1 j2 hw y1 h7' h7b;exact Zab
    .rw[hVV,Bool.not_true,Bool.false_and]at hRES;have HQF:Hid (false=RES):=hRES;clear hRES;have hVb:(V==par)=false:=by simpa using hVV
     go_enter func48,ntmps48;go_wp2;refine rG (fun v=>v.cell? ⟨g,m*3+1,none⟩=some (.int .i64 par)/\v.cell? ⟨w.heap.size,0,none⟩=some v0/\v.cell? ⟨w.heap.size,1,none⟩=some v1/\v.cell? ⟨w.heap.size,2,none⟩=some v2/\v.cell? ⟨w.heap.size,3,none⟩=some v3/\v.cell? ⟨w.heap.size+1,0,none⟩=some (.int .i64 op)/\v.cell? ⟨w.heap.size+1,1,none⟩=some (.int .i64 D)/\v.cell? ⟨w.heap.size+1,2,none⟩=some (.int .i64 A)/\v.cell? ⟨w.heap.size+1,3,none⟩=some (.int .i64 Q)/\v.cell? ⟨w.heap.size+1,4,none⟩=some (.int .i64 E)/\v.cell? ⟨w.heap.size+1,5,none⟩=some (.int .i64 nn)/\v.cell? ⟨w.heap.size+1,6,none⟩=some (.int .u32 bt)) fun yH=>?_;refine Tb 0 1 ?_;clear yH;refine AG 2 fun K hK=>?_;go_simp;(go_at_call 71;(with_reducible refine(HFIT.out _ (bel HT0.out.bel (A7 _))).mono ?_);rintro e w1 ⟨rfl,hb1⟩;have HB1:Hid (Below ((w.alloc (.cells #[v0,v1,v2,v3] 27)).alloc (.cells #[.int .i64 op,.int .i64 D,.int .i64 A,.int .i64 Q,.int .i64 E,.int .i64 nn,.int .u32 bt] 45)).heap.size ((w.alloc (.cells #[v0,v1,v2,v3] 27)).alloc (.cells #[.int .i64 op,.int .i64 D,.int .i64 A,.int .i64 Q,.int .i64 E,.int .i64 nn,.int .u32 bt] 45)) w1):=bel (A7 _) hb1;clear hb1;obtain⟨-,c0,c1,c2,c3,i0,i1,i2,i3,i4,i5,i6⟩:=HT0.out.next HB1.out;have y1:=kc (bel HT0.out.bel HB1.out) z1);try(go_wp2_with fail)
     refine AE hK fun yH=>?_;clear hK K;refine Tf 3 4 5 6 7 8 ?_;refine Tf 9 10 11 12 13 15 ?_;refine Tf 16 17 18 19 20 21 ?_;clear yH;refine AG 14 fun K hK=>?_;go_simp;(go_at_call 38;(with_reducible refine(HVEC.out _ (bel HT0.out.bel HB1.out)).mono ?_);rintro e wz ⟨rfl,hbz⟩;have HBZ:Hid (Below ((w.alloc (.cells #[v0,v1,v2,v3] 27)).alloc (.cells #[.int .i64 op,.int .i64 D,.int .i64 A,.int .i64 Q,.int .i64 E,.int .i64 nn,.int .u32 bt] 45)).heap.size ((w.alloc (.cells #[v0,v1,v2,v3] 27)).alloc (.cells #[.int .i64 op,.int .i64 D,.int .i64 A,.int .i64 Q,.int .i64 E,.int .i64 nn,.int .u32 bt] 45)) wz):=bel HB1.out hbz;clear hbz c0 c1 c2 c3 i0 i1 i2 i3 i4 i5 i6 y1;obtain⟨-,c0,c1,c2,c3,i0,i1,i2,i3,i4,i5,i6⟩:=HT0.out.next HBZ.out;have y1:=kc (bel HT0.out.bel HBZ.out) z1);try(go_wp2_with fail)
     refine AE hK fun yH=>?_;clear hK K;refine Tc 22 23 24 ?_;refine wpAnyH_done kR ?_ _;go_wp2;go_ret;exact⟨Aa HQF.out,bel hb00 HBZ.out⟩
structure CX(w:World)(v0 v1 v2 v3:Value)(v:World):Prop where
 bel:Below w.heap.size w v
 lt:w.heap.size<v.heap.size
 c0:v.cell? ⟨w.heap.size,0,none⟩=some v0
 c1:v.cell? ⟨w.heap.size,1,none⟩=some v1
 c2:v.cell? ⟨w.heap.size,2,none⟩=some v2
 c3:v.cell? ⟨w.heap.size,3,none⟩=some v3
theorem CX.next{w:World}{v0 v1 v2 v3:Value}{v v':World}(h:CX w v0 v1 v2 v3 v)(k:Below v.heap.size v v'):CX w v0 v1 v2 v3 v':=
 ⟨Go.Proofs.YtpoklpdgpcnkgaaGreat.bel h.bel k,Nat.lt_of_lt_of_le h.lt k.size,kc k h.c0,kc k h.c1,kc k h.c2,kc k h.c3⟩
theorem CX.on{w:World}{v0 v1 v2 v3:Value}{v v':World}(h:CX w v0 v1 v2 v3 v)(k:Below (w.heap.size+1) v v'):CX w v0 v1 v2 v3 v':=
 have f:∀j,v'.cell? ⟨w.heap.size,j,none⟩=v.cell? ⟨w.heap.size,j,none⟩:=fun j=>k.cell (Nat.lt_succ_self _)
 ⟨h.bel.trans (k.mono (Nat.le_succ _)),Nat.lt_of_lt_of_le h.lt k.size,(f 0).trans h.c0,(f 1).trans h.c1,(f 2).trans h.c2,(f 3).trans h.c3⟩
theorem CX.start(w:World)(v0 v1 v2 v3:Value):CX w v0 v1 v2 v3 (w.alloc (.cells #[v0,v1,v2,v3] 27)):=
 ⟨A0 _ _,sM,sG,sG,sG,sG⟩
theorem NC{α:Type}(p:α->Bool){l:List α}{k:Nat}(h:k<l.length)(ht:(l.take k).all p=true)(hp:p l[k]=true):(l.take (k+1)).all p=true:=by
 rw[List.take_succ_eq_append_getElem h,List.all_append,ht];simp[hp]
theorem QZ{α:Type}(p:α->Bool){l:List α}{k:Nat}(h:k<l.length)(hp:p l[k]=false):l.all p=false:=by
 rw[List.all_eq_false];exact⟨l[k],gD h,by simp[hp]⟩
theorem Fx(v0 v1 v2 v3:Value)(c:Cd)(hk:B3 c)(w:World)(hv:D9 w v0 v1 v2 v3 c)(E:Int)(hE:(Bh c.sign≠0/\E=Bh c.sign)\/(Bh c.sign=0/\(16384<c.regs.length\/32768<c.list.length)/\E=181)\/(Bh c.sign=0/\¬16384<c.regs.length/\¬32768<c.list.length/\4096<c.slots.length/\E=180)):
 Calls prog 31 #[.agg #[v0,v1,v2,v3]] w fun e w'=>e=.returned (.tuple #[.int .i64 E,.int .i64 (-1)])/\Below w.heap.size w w':=by
 have hSG:∀v,Below w.heap.size w v->Calls prog 45 #[v0] v fun e w'=>e=.returned (.int .i64 (Bh c.sign))/\Below v.heap.size v w':=fun v hb=>Ki v0 c.sign hk.signL hk.names v (hv.below hb).sign.rd;have l1:=hk.regsL;have l2:=hk.slotsL;have l3:=hk.listL;obtain⟨p0,q0,rfl,-⟩:=id hv.sign;obtain⟨p1,q1,rfl,-⟩:=id hv.regs;obtain⟨p2,q2,rfl,-⟩:=id hv.slots;obtain⟨p3,q3,rfl,-⟩:=id hv.list;obtain⟨n0,hn0⟩:∃n,c.sign.length=n:=⟨_,rfl⟩
 obtain⟨n1,hn1⟩:∃n,c.regs.length=n:=⟨_,rfl⟩
 obtain⟨n2,hn2⟩:∃n,c.slots.length=n:=⟨_,rfl⟩
 obtain⟨n3,hn3⟩:∃n,c.list.length=n:=⟨_,rfl⟩
 obtain⟨K,hK⟩:∃n,Bh c.sign=n:=⟨_,rfl⟩
 rw[hn0,hK]at hSG;rw[hK,hn1,hn2,hn3]at hE;rw[hn1]at l1;rw[hn2]at l2;rw[hn3]at l3;rw[hn0,hn1,hn2,hn3];have HSG:Hid _:=hSG;clear hSG hn0 hn1 hn2 hn3 hK hv hk;rcases hE with⟨h1,rfl⟩|⟨rfl,h2,rfl⟩|⟨rfl,h2,h3,h4,rfl⟩
 .have h1':(E==0)=false:=by simpa using h1
  have h1'':(E != 0)=true:=by simpa using h1
  exact Zbc
 .by_cases h5:16384<n1
  .have h6:(16384:Int)<(n1:Int):=oM;exact Zbc
  .have h6:(n1:Int)<=16384:=oM;have h7:(32768:Int)<(n3:Int):=oM;clear h5;exact Zbc
 .have h6:(n1:Int)<=16384:=oM;have h7:(n3:Int)<=32768:=oM;have h8:(4096:Int)<(n2:Int):=oM;exact Zbc
theorem Cw{op:Int}(h:Ar op=true):Dj op=true\/Bj op=true\/op=29\/op=30\/op=31\/op=32\/op=33\/(34<=op/\op<=37)\/Bd op=true:=by
 unfold Ar at h;unfold Dj Bj Bd;simp only[Bool.and_eq_true,Bool.or_eq_true,decide_eq_true_eq,beq_iff_eq]at h |-;omega
theorem V7{op:Int}(h:Bd op=true):Dj op=false/\Bj op=false/\op≠29/\op≠30/\op≠31/\op≠32/\op≠33/\¬ (34<=op/\op<=37):=by
 unfold Bd at h;simp only[Bool.and_eq_true,decide_eq_true_eq]at h;exact Zcn
theorem Ur{op:Int}(h:Bj op=true):Dj op=false/\op≠29/\op≠30/\op≠31/\op≠32/\op≠33/\¬ (34<=op/\op<=37):=by
 unfold Bj at h;simp only[Bool.or_eq_true,Bool.and_eq_true,beq_iff_eq,decide_eq_true_eq]at h;have:op=2\/op=18\/op=21\/op=22\/op=23\/op=24\/op=25\/op=26\/op=27\/op=28:=oM;rcases this with rfl|rfl|rfl|rfl|rfl|rfl|rfl|rfl|rfl|rfl<;>decide
section
variable {c : Cd} {G P : List (List Int)} {f : Fr} {i : Ad}
theorem Bq(h:Dj i.op=true):Cz c G P f i={f with nums:=putN f.nums i.d.toNat (K8 f i)}:=by unfold Cz;rw[if_pos h]
theorem AV(h:Bj i.op=true):Cz c G P f i={f with whs:=putN f.whs i.d.toNat (F5 f i)}:=by
 unfold Cz;rw[(Ur h).1,if_neg dE,if_pos h]
theorem BR(h:i.op=29):Cz c G P f i={f with vecs:=putN f.vecs i.d.toNat (Bg c G i)}:=by
 unfold Cz;rw[h,if_neg dE,if_neg dE,if_pos rfl]
theorem BS(h:i.op=30):Cz c G P f i={f with vecs:=putN f.vecs i.d.toNat (Bg c P i)}:=by
 unfold Cz;rw[h,if_neg dE,if_neg dE,if_neg dE,if_pos rfl]
theorem C9(h:i.op=31):Cz c G P f i={f with outs:=Qg f.outs (A5 c.regs i.a).par.toNat (AR c (A5 c.regs i.a).par) i.n.toNat (f.vecs i.a.toNat)}:=by
 unfold Cz;rw[h,if_neg dE,if_neg dE,if_neg dE,if_neg dE,if_pos rfl]
theorem Bx(h:i.op=32):Cz c G P f i=II c f i.d ((f.slots[i.n.toNat]?).getD ⟨[],0⟩):=by
 unfold Cz;rw[h,if_neg dE,if_neg dE,if_neg dE,if_neg dE,if_neg dE,if_pos rfl]
theorem Ca(h:i.op=33):Cz c G P f i={f with slots:=f.slots.set i.n.toNat (Bo c f i.a)}:=by
 unfold Cz;rw[h,if_neg dE,if_neg dE,if_neg dE,if_neg dE,if_neg dE,if_neg dE,if_pos rfl]
theorem AJ(h:34<=i.op/\i.op<=37):Cz c G P f i=f:=by
 have h0:Dj i.op=false/\Bj i.op=false:=by
  have:i.op=34\/i.op=35\/i.op=36\/i.op=37:=oM;rcases this with e|e|e|e<;>rw[e]<;>decide
 unfold Cz;rw[h0.1,h0.2,if_neg dE,if_neg dE,if_neg oM,if_neg oM,if_neg oM,if_neg oM,if_neg oM,if_pos h]
theorem AU(h:Bd i.op=true):Cz c G P f i=Ew c f i:=by
 obtain⟨h1,h2,h3,h4,h5,h6,h7,h8⟩:=V7 h;unfold Cz;rw[h1,h2,if_neg dE,if_neg dE,if_neg h3,if_neg h4,if_neg h5,if_neg h6,if_neg h7,if_neg h8]
end
theorem Z4{f:Fr}{c:Cd}(ok:IT c f){i:Ad}(hb:AA i.bits):AA (K8 f i):=by
 unfold K8;refine BU (Yv _ _ (ok.nums _).1 (ok.nums _).2) (BU (Vc _) (BU (YK _ _ (Co (ok.vecs _))) (BU (PV _ _ (Co (ok.vecs _))) hb)))
theorem Gi(b:Bool):0<=BV b/\BV b<=2147483647:=by cases b<;>decide
theorem Ez{p:Prop}[Decidable p]{x y:Int}(h:p->0<=x/\x<=2147483647)(k:¬p->0<=y/\y<=2147483647):0<=(if p then x else y)/\(if p then x else y)<=2147483647:=by
 split
 .rename_i e;exact h e
 .rename_i e;exact k e
theorem XJ{f:Fr}{c:Cd}(ok:IT c f){i:Ad}(hw:Bj i.op=true)(hn:i.op=2->0<=i.n/\i.n<=2147483647):0<=F5 f i/\F5 f i<=2147483647:=by
 have a:=ok.whs i.a.toNat;have b:=ok.whs i.b.toNat;have d:=ok.whs i.c.toNat;unfold Bj at hw;simp only[Bool.or_eq_true,Bool.and_eq_true,beq_iff_eq,decide_eq_true_eq]at hw;unfold F5;refine Ez (fun _=>Gi _) fun h1=>Ez (fun _=>by omega) fun h2=>Ez (fun _=>Gi _) fun h3=>Ez (fun _=>Gi _) fun h4=>Ez (fun _=>Gi _) fun h5=>Ez (fun _=>Gi _) fun h6=>Ez (fun _=>Ez (fun _=>d) fun _=>b) fun h7=>Ez (fun _=>by omega) fun h8=>Ez (fun _=>Ez (fun _=>by decide) fun _=>⟨Int.ediv_nonneg a.1 b.1,?_⟩) fun h9=>hn oM;have:=Int.ediv_le_self (f.whs i.b.toNat) a.1;omega
theorem ZV{c:Cd}{G P:List (List Int)}{f:Fr}{i:Ad}(hg:Good c)(ok:IT c f)(hk:Ar i.op=true)(hb:AA i.bits)(nd:E0 c f i)(fg:Dp c G)(fp:Dp c P):IT c (Cz c G P f i):=by
 have pl:∀L:List (List Int),Dp c L->(∀y∈Bg c L i,AA y)/\(Bg c L i).length<=4096:=fun L hL=>by
  refine⟨fun y hy=>?_,by unfold Bg;simp only[List.length_map,List.length_range];exact hg.lenOf _⟩;unfold Bg at hy;simp only[List.mem_map]at hy;obtain⟨k,_,rfl⟩:=hy;refine Dk _ (Co ?_ _);unfold EJ;cases e:L[(A5 c.regs i.d).par.toNat]? with
  |none=>intro y hy;cases hy
  |some l=>exact hL.isP l (List.mem_of_getElem? e)
 rcases Cw hk with h|h|h|h|h|h|h|h|h
 .rw[Bq h];exact⟨Cx ok.nums (Z4 ok hb),ok.whs,ok.vecs,ok.vecsL,ok.slotsL,ok.slots⟩
 .rw[AV h];exact⟨ok.nums,Cx (Q:=fun y:Int=>0<=y/\y<=2147483647) ok.whs (XJ ok h (nd.whole h).2.2.2.2.2.2),ok.vecs,ok.vecsL,ok.slotsL,ok.slots⟩
 .rw[BR h];exact⟨ok.nums,ok.whs,Cx (Q:=fun l:List Int=>∀y∈l,AA y) ok.vecs (pl G fg).1,Cx (Q:=fun l:List Int=>l.length<=4096) ok.vecsL (pl G fg).2,ok.slotsL,ok.slots⟩
 .rw[BS h];exact⟨ok.nums,ok.whs,Cx (Q:=fun l:List Int=>∀y∈l,AA y) ok.vecs (pl P fp).1,Cx (Q:=fun l:List Int=>l.length<=4096) ok.vecsL (pl P fp).2,ok.slotsL,ok.slots⟩
 .rw[C9 h];exact⟨ok.nums,ok.whs,ok.vecs,ok.vecsL,ok.slotsL,ok.slots⟩
 .rw[Bx h];obtain⟨d0,d1,n0,n1,ht⟩:=nd.load h;have hn:i.n.toNat<c.slots.length:=oM;have hn2:i.n.toNat<f.slots.length:=by rw[ok.slotsL];exact hn
  have hh:=ok.slots i.n.toNat hn hn2;rw[gB hn2,Option.getD_some];exact st_ok ok hh.2.1 (by rw[hh.1];exact hg.width _) hh.2.2
 .rw[Ca h];obtain⟨a0,a1,n0,n1,ht,hs⟩:=nd.store h;have hh:=W7 hg ok a0 a1 hs;refine⟨ok.nums,ok.whs,ok.vecs,ok.vecsL,by simp[ok.slotsL],fun j h1 h2=>?_⟩;simp only[List.getElem_set];split
  .rename_i e;subst e;have:CZ c.slots i.n=c.slots[i.n.toNat].ty:=by unfold CZ;rw[gB h1];rfl
   rw[<-this,ht];exact hh
  .exact ok.slots j h1 (by simpa using h2)
 .rw[AJ h];exact ok
 .rw[AU h];obtain⟨d0,d1,a1,_⟩:=nd.elem h;unfold Ew;by_cases h2:(A5 c.regs i.d).kind=2
  .rw[if_pos h2];exact⟨ok.nums,Cx (Q:=fun y:Int=>0<=y/\y<=2147483647) ok.whs (ok.whs _),ok.vecs,ok.vecsL,ok.slotsL,ok.slots⟩
  .rw[if_neg h2];obtain⟨s1,s2⟩:=Fo hg ok h nd h2;have hw:=hg.width (A5 c.regs i.d);refine st_ok ok ?_ ?_ ⟨Int.le_refl _,by show(0:Int)<=2147483647;decide⟩
   .intro y hy;dsimp only at hy;split at hy
    .unfold EP at hy;rw[List.eq_of_mem_replicate hy];exact Dk _ (JS s2)
    .exact s2 y hy
   .dsimp only;split
    .unfold EP;rw[List.length_replicate];exact hw
    .omega
theorem UX{c:Cd}{G P:List (List Int)}{f:Fr}{i:Ad}(hg:Good c)(ok:IT c f)(hk:Ar i.op=true)(nd:E0 c f i){r:Nat}(hr:((A3 i.op).d=0\/r≠i.d.toNat)->DB c f r):DB c (Cz c G P f i) r:=by
 have pl:∀L:List (List Int),(Bg c L i).length=lenOf c (A5 c.regs i.d).par:=fun L=>by unfold Bg;simp
 have other:∀ (f':Fr),f'.vecs=f.vecs->((A3 i.op).d≠0->(A5 c.regs i.d).kind≠3/\0<=i.d)->DB c f' r:=fun f' hv hk3 h3=>by
  rw[hv];refine hr ?_ h3;by_cases e:(A3 i.op).d=0
  .exact .inl e
  .refine .inr fun e2=>(hk3 e).1 ?_;have:=(hk3 e).2;have e3:(r:Int)=i.d:=oM;rw[e3]at h3;exact h3
 have vec:∀L:List (List Int),0<=i.d->(A3 i.op).d≠0->DB c {f with vecs:=putN f.vecs i.d.toNat (Bg c L i)} r:=fun L h0 hd h3=>by
  by_cases e:r=i.d.toNat
  .have e3:(r:Int)=i.d:=oM;rw[e3];show(putN f.vecs i.d.toNat (Bg c L i) r).length=_;rw[e,B6,pl]
  .show(putN f.vecs i.d.toNat (Bg c L i) r).length=_;rw[BO _ _ e];exact hr (.inr e) h3
 rcases Cw hk with h|h|h|h|h|h|h|h|h
 .rw[Bq h];exact other _ rfl fun _=>⟨by rw[(nd.num h).2.2.2.2];decide,(nd.num h).1⟩
 .rw[AV h];exact other _ rfl fun _=>⟨by rw[(nd.whole h).2.2.2.2.2.1];decide,(nd.whole h).1⟩
 .rw[BR h];exact vec G (nd.part (.inl h)).r0 (by rw[h];decide)
 .rw[BS h];exact vec P (nd.part (.inr h)).r0 (by rw[h];decide)
 .rw[C9 h];exact other _ rfl fun e=>absurd (by rw[h];decide) e
 .rw[Bx h];obtain⟨d0,d1,n0,n1,ht⟩:=nd.load h;have hn:i.n.toNat<c.slots.length:=oM;have hn2:i.n.toNat<f.slots.length:=by rw[ok.slotsL];exact hn
  have hh:=ok.slots i.n.toNat hn hn2;rw[gB hn2,Option.getD_some];refine Xr d0 (fun h3=>?_) fun e=>hr (.inr e);have:CZ c.slots i.n=c.slots[i.n.toNat].ty:=by unfold CZ;rw[gB hn];rfl
  rw[hh.1,<-this,ht];exact(E5 hg d0 d1 h3).2
 .rw[Ca h];exact other _ rfl fun e=>absurd (by rw[h];decide) e
 .rw[AJ h];refine hr (.inl ?_);have:i.op=34\/i.op=35\/i.op=36\/i.op=37:=oM;rcases this with e|e|e|e<;>rw[e]<;>decide
 .rw[AU h];obtain⟨d0,d1,a1,_⟩:=nd.elem h;unfold Ew;by_cases h2:(A5 c.regs i.d).kind=2
  .rw[if_pos h2];exact other _ rfl fun _=>⟨by rw[h2];decide,d0⟩
  .rw[if_neg h2];obtain⟨s1,s2⟩:=Fo hg ok h nd h2;refine Xr d0 (fun h3=>?_) fun e=>hr (.inr e);have hw:=(E5 hg d0 d1 h3)
   dsimp only;rw[hw.2]at s1 |-;split
   .unfold EP;rw[List.length_replicate];exact hw.2
   .omega
def Mt(c:Cd)(s:Wk)(f:Fr)(k:Nat):Prop:=
 (k=0/\∀r∈s.set,DB c f r)\/(∃pre b rest,s.opens=pre++b::rest/\b.loop=false/\k=(pre.filter fun x=> !x.loop).length+1/\∀r∈s.set.take b.ahead,DB c f r)
theorem Qb:∀ {pre:List Bk} {b:Bk} {rest:List Bk} {n:Nat},okO n (pre++b::rest)->b.ahead<=n/\∀p∈pre,b.ahead<=p.ahead
 |[],b,rest,n,h=>⟨h.1,fun p hp=>by cases hp⟩
 |q::pre,b,rest,n,h=>by
  obtain⟨h1,h2⟩:=Qb h.2;refine⟨gH h1 h.1,fun p hp=>?_⟩;rcases List.mem_cons.1 hp with e|e
  .rw[e];exact h1
  .exact h2 p e
theorem H4{s:Wk}{i:Ad}{r:Rw}(h:r.d=0):CB s i r=s:=by unfold CB;rw[if_neg (fun e=>e.1 h)]
theorem QJ{s:Wk}{i:Ad}(h1:i.op≠34)(h2:i.op≠35)(h3:i.op≠36)(h4:i.op≠37):BA s i=s:=by
 unfold BA;rw[if_neg oM,if_neg oM]
theorem Ro{s:Wk}{i:Ad}{r:Rw}{x:Nat}(h:x∈(CB s i r).set):x∈s.set\/(r.d≠0/\x=i.d.toNat):=by
 unfold CB at h;split at h
 .rename_i e;rcases List.mem_append.1 h with h|h
  .exact .inl h
  .simp at h;exact .inr ⟨e.1,h⟩
 .exact .inl h
theorem NA{s:Wk}{i:Ad}{r:Rw}{n:Nat}(h:n<=s.set.length):(CB s i r).set.take n=s.set.take n/\(CB s i r).opens=s.opens:=by
 unfold CB;split
 .exact⟨List.take_append_of_le_length h,rfl⟩
 .exact⟨rfl,rfl⟩
theorem Kz{s:Wk}{i:Ad}(h:i.op=34):Ae s i=⟨s.set,⟨false,i.n,s.set.length⟩::s.opens⟩:=by
 unfold Ae CJ;rw[H4 (by rw[h];rfl)];unfold BA;rw[if_pos (.inl h),h];rfl
theorem KG{s:Wk}{i:Ad}(h:i.op=36):Ae s i=⟨s.set,⟨true,i.n,s.set.length⟩::s.opens⟩:=by
 unfold Ae CJ;rw[H4 (by rw[h];rfl)];unfold BA;rw[if_pos (.inr h),h];rfl
theorem Gp{s:Wk}{i:Ad}(h:i.op=35\/i.op=37):Ae s i=AF s:=by
 unfold Ae CJ;rw[H4 Zhl];unfold BA;rw[if_neg oM,if_pos h]
theorem FJ{s:Wk}{i:Ad}(h1:i.op≠34)(h2:i.op≠35)(h3:i.op≠36)(h4:i.op≠37):Ae s i=CB s i (A3 i.op):=by
 unfold Ae CJ;rw[QJ h1 h2 h3 h4]
theorem LR{s:Wk}{r:Nat}(h:r∈(AF s).set):r∈s.set:=by
 unfold AF at h;split at h
 .dsimp only at h;split at h
  .exact h
  .exact List.mem_of_mem_take h
 .exact h
theorem Hu{c:Cd}{G P:List (List Int)}{s:Wk}{f:Fr}{k:Nat}{i:Ad}(hg:Good c)(oks:Ei c.regs.length s)(t:Am c s i=true)(ok:IT c f)(hb:AA i.bits)(fg:Dp c G)(fp:Dp c P)(sk:Mt c s f k):
 IT c (Ao c G P (f,k) i).1/\Mt c (Ae s i) (Ao c G P (f,k) i).1 (Ao c G P (f,k) i).2:=by
 obtain⟨hkn,_,hst,_⟩:=As t;rcases sk with⟨rfl,hs⟩|⟨pre,b,rest,ho,hbl,rfl,hs⟩
 .have nd:=Rq t hs;have hdo:IT c (Cz c G P f i):=ZV hg ok hkn hb nd fg fp;by_cases h34:i.op=34
  .rw[Kz h34];by_cases hz:f.whs i.a.toNat=0
   .have e:Ao c G P (f,0) i=(f,1):=by
     unfold Ao;rw[if_neg oM,if_pos ⟨h34,.inr hz⟩]
    rw[e];refine⟨ok,.inr ⟨[],⟨false,i.n,s.set.length⟩,s.opens,rfl,rfl,rfl,fun r hr=>hs r ?_⟩⟩;exact List.mem_of_mem_take hr
   .have e:Ao c G P (f,0) i=(f,0):=by
     unfold Ao;rw[if_neg oM,if_neg (by simp[hz]),if_pos rfl,AJ oM]
    rw[e];exact⟨ok,.inl ⟨rfl,hs⟩⟩
  .have e:Ao c G P (f,0) i=(Cz c G P f i,0):=by
    unfold Ao;rw[if_neg oM,if_neg oM,if_pos rfl]
   rw[e];refine⟨hdo,.inl ⟨rfl,fun r hr=>?_⟩⟩;by_cases h35:i.op=35\/i.op=37
   .rw[Gp h35]at hr;rw[AJ oM];exact hs r (LR hr)
   .by_cases h36:i.op=36
    .rw[KG h36]at hr;rw[AJ oM];exact hs r hr
    .rw[FJ h34 oM h36 oM]at hr;refine UX hg ok hkn nd fun hr2=>?_;rcases Ro hr with h|⟨h,h'⟩
     .exact hs r h
     .rcases hr2 with q|q
      .exact absurd q h
      .exact absurd h' q
 .obtain⟨hah,hpre⟩:=Qb (by have:=oks.opens;rw[ho]at this;exact this);obtain⟨K,hK⟩:=gA ((pre.filter fun x=> !x.loop).length)
  rw[hK];by_cases h34:i.op=34
  .have e:Ao c G P (f,K+1) i=(f,K+2):=by
    unfold Ao;rw[if_neg oM,if_pos ⟨h34,.inl (by show 0<K+1;omega)⟩]
   rw[e,Kz h34];refine⟨ok,.inr ⟨⟨false,i.n,s.set.length⟩::pre,b,rest,by rw[ho];rfl,hbl,?_,hs⟩⟩;rw[List.filter_cons_of_pos rfl,List.length_cons,hK]
  .by_cases h35:i.op=35
   .have e:Ao c G P (f,K+1) i=(f,K):=by
     unfold Ao;rw[if_pos ⟨by show 0<K+1;omega,h35⟩];rfl
    rw[e,Gp (.inl h35)];refine⟨ok,?_⟩;have hnl:An s=false:=by
     exact Zfe
    unfold An at hnl;unfold AF;rw[ho]at hnl |-;cases pre with
    |nil=>
     simp only[List.nil_append]at hnl |-;simp at hK;refine .inl ⟨hK.symm,fun r hr=>hs r ?_⟩;rw[hbl]at hr;simpa using hr
    |cons p pre=>
     simp only[List.cons_append]at hnl |-;have hp:=hpre p sM;refine .inr ⟨pre,b,rest,rfl,hbl,?_,fun r hr=>hs r ?_⟩
     .rw[List.filter_cons_of_pos (by rw[hnl];rfl),List.length_cons]at hK;omega
     .rw[hnl]at hr;simp only[Bool.false_eq_true,if_false,List.take_take]at hr;rw[Nat.min_eq_left hp]at hr;exact hr
   .have e:Ao c G P (f,K+1) i=(f,K+1):=by
     unfold Ao;rw[if_neg oM,if_neg oM,if_neg (by show¬ (K+1=0);omega)]
    rw[e];refine⟨ok,?_⟩;by_cases h36:i.op=36
    .rw[KG h36];refine .inr ⟨⟨true,i.n,s.set.length⟩::pre,b,rest,by rw[ho];rfl,hbl,?_,hs⟩;rw[List.filter_cons_of_neg sM,hK]
    .by_cases h37:i.op=37
     .rw[Gp (.inr h37)];have hnl:An s=true:=by
       unfold Aj at hst;rw[if_neg oM,if_neg oM,if_pos h37]at hst;exact hst
      unfold An at hnl;unfold AF;rw[ho]at hnl |-;cases pre with
      |nil=>
       simp only[List.nil_append]at hnl;rw[hbl]at hnl;cases hnl
      |cons p pre=>
       simp only[List.cons_append]at hnl |-;refine .inr ⟨pre,b,rest,rfl,hbl,?_,fun r hr=>hs r ?_⟩
       .rw[List.filter_cons_of_neg (by rw[hnl];decide)]at hK;omega
       .rw[hnl]at hr;simpa using hr
     .rw[FJ h34 h35 h36 h37];obtain⟨h1,h2⟩:=NA (i:=i) (r:=A3 i.op) hah;exact .inr ⟨pre,b,rest,by rw[h2];exact ho,hbl,by rw[hK],fun r hr=>hs r (by rw[h1]at hr;exact hr)⟩
theorem Oa(c:Cd)(G P:List (List Int))(s:Fr×Nat)(l:List Ad){j:Nat}(hj:j<l.length):Ed c G P s (l.take (j+1))=Ao c G P (Ed c G P s (l.take j)) l[j]:=by
 unfold Ed;rw[List.take_succ_eq_append_getElem hj,List.foldl_append];rfl
theorem VI(c:Cd)(G P:List (List Int))(f:Fr)(K:Nat){i:Ad}(h:i.op=35):Ao c G P (f,K+1) i=(f,K):=by
 unfold Ao;rw[if_pos ⟨by show 0<K+1;omega,h⟩];rfl
theorem N7(c:Cd)(G P:List (List Int))(f:Fr)(K:Nat){i:Ad}(h:i.op=34)(hz:0<K\/f.whs i.a.toNat=0):Ao c G P (f,K) i=(f,K+1):=by
 unfold Ao;rw[if_neg oM,if_pos ⟨h,hz⟩]
theorem N8(c:Cd)(G P:List (List Int))(f:Fr){i:Ad}(h:¬ (i.op=34/\f.whs i.a.toNat=0)):Ao c G P (f,0) i=(Cz c G P f i,0):=by
 unfold Ao;rw[if_neg (fun e=>absurd e.1 (by show¬0<0;omega)),if_neg (fun e=>h ⟨e.1,e.2.resolve_left (by show¬0<0;omega)⟩),if_pos rfl]
theorem VJ(c:Cd)(G P:List (List Int))(f:Fr)(K:Nat){i:Ad}(h1:i.op≠34)(h2:i.op≠35):Ao c G P (f,K+1) i=(f,K+1):=by
 unfold Ao;rw[if_neg (fun e=>h2 e.2),if_neg (fun e=>h1 e.1),if_neg (by show¬ (K+1=0);omega)]
theorem Hn{α:Type}{f:α->List Value}{k bytes:Nat}{t e:TypeId}{z:Value}{i:TypeInfo}(hk:0<k)(hf:∀x,(f x).length=k)(h1:∀x,∀u∈f x,u.oneCell'=true)(ht:prog.underlying t=some (.slice e))(hi:prog.info? e=some i)(hz:i.zero=some z)(hsize:i.size=k)(hby:i.bytes=bytes)(hzs:z.cells.size=k)
 {l:List α} {p:Option Addr} {d:Nat} {w:World} (h:AT k f w (.slice p l.length d) l) (hl:l.length<=maxLen) (hb:l.length*bytes<=140737488355328) (ty:TypeId):
 ∃p' c' w',(Builtin.append_ #[t,t] ty #[.slice (some ⟨w.heap.size,0,none⟩) 0 0,.slice p l.length d]).run prog (w.alloc (.cells #[] e))=.ok (.slice p' l.length c') w'/\Below w.heap.size w w'/\Ej (fun b=>b<w.heap.size) k f w' (.slice p' l.length c') l/\w'.ownsRow w.heap.size e k (.slice p' l.length c') l.length (AN f l):=by
 have hown0:(w.alloc (.cells #[] e)).ownsRow w.heap.size e k (.slice (some ⟨w.heap.size,0,none⟩) 0 0) 0 []:=⟨sM,.inr ⟨w.heap.size,0,#[],rfl,gF _,heap_alloc_new w _,gF _,mL,sM,sM⟩⟩
 by_cases h0:l=[]
 .subst h0;refine⟨some ⟨w.heap.size,0,none⟩,0,w.alloc (.cells #[] e),?_,A0 _ _,⟨_,_,rfl,.inl rfl⟩,by simpa[AN]using hown0⟩;exact Zde
 .have h':=h.below (A0 w (.cells #[] e));obtain⟨p',c',hv,h2⟩:=h';simp only[Value.slice.injEq]at hv;obtain⟨rfl,-,rfl⟩:=hv;obtain⟨b,o,rfl,h3⟩:=h2.resolve_left h0;clear h2;have hpos:0<l.length:=List.length_pos_iff.2 h0;obtain⟨g,cap,w',hr,hown,hg,hat,hlt⟩:=run_append_lies (P:=prog) (w.alloc (.cells #[] e)) t ty w.heap.size e i z k bytes ht hi hz hsize hby hzs hk (.slice (some ⟨w.heap.size,0,none⟩) 0 0) 0 [] hown0 ⟨b,o,none⟩ l.length d (AN f l) (E3 hf l) (GG hk hf h3) Zgy hpos oM (by rw[Nat.zero_add];exact hb) sM _ rfl;rw[Nat.zero_add]at hr hown;rw[List.nil_append]at hown;have hgb:∀g',(Value.slice (some ⟨g,0,none⟩) l.length cap).ownBlock=some g'->w.heap.size<=g':=fun g' e=>(hown.lt g' e).1;refine⟨_,cap,w',hr,⟨hg.os,hg.tape,hg.output,gH sM hg.size,fun j hj=>(hg.block j sO (by show some j≠some w.heap.size;simp;omega)).trans ((A0 w (.cells #[] e)).block j hj)⟩,?_,hown⟩;obtain⟨q,cc,hq,hrow⟩:=CD hf hown;simp only[Value.slice.injEq]at hq;obtain⟨rfl,-,rfl⟩:=hq;refine⟨_,_,rfl,hrow.imp id fun⟨b',o',hp,hh⟩=>⟨b',o',hp,?_,?_,hh⟩⟩
  .simp only[Option.some.injEq,Addr.mk.injEq]at hp;have:=hgb g rfl;omega
  .simp only[Option.some.injEq,Addr.mk.injEq]at hp;have:=(hown.lt g rfl).2;omega
theorem SF(v:Value)(l:List Cp)(w:World)(h:AT 3 AW w v l)(hl:l.length<=1000000):
 Calls prog 28 #[v] w fun e w'=>∃p c,e=.returned (.slice p l.length c)/\Ej (fun b=>b<w.heap.size) 3 AW w' (.slice p l.length c) l/\w'.ownsRow w.heap.size 53 3 (.slice p l.length c) l.length (AN AW l)/\Below w.heap.size w w':=by
 obtain⟨i0,hi0,hz0,hz1,hz2⟩:=info_parts JR;have hv:=h;obtain⟨p,c,rfl,hh⟩:=h;cases p with
 |none=>
  have hn:l=[]:=by
   exact Zer
  subst hn;clear hh hv;have heq:∀ (w:World) (n:Nat),(binOp .eql 22 (.slice none n c) (.slice none 0 0)).run prog w=.ok (.bool true) w:=fun w n=>Go.run_eql_slice_nil w _ _ none n c underlying22;go_enter func28,ntmps28;exact Zcz
 |some ad=>
  obtain⟨p',c',w',hr,hb,hrow,hown⟩:=Hn dE Fh Ot underlying22 hi0 hz0 hz1 hz2 rfl hv mL oM 22;have HF:Hid (Ej (fun b=>b<w.heap.size) 3 AW w' (.slice p' l.length c') l/\w'.ownsRow w.heap.size 53 3 (.slice p' l.length c') l.length (AN AW l)/\Below w.heap.size w w'):=⟨hrow,hown,hb⟩
  obtain⟨n,hn⟩:=gA (l.length)
  rw[hn]at hr HF |-;clear hh hv hb hrow hown hn;have heq:∀ (w:World),(binOp .eql 22 (.slice (some ad) n c) (.slice none 0 0)).run prog w=.ok (.bool false) w:=fun w=>Go.run_eql_slice_nil w _ _ (some ad) n c underlying22;go_enter func28,ntmps28;go_wp2_with(at_builtin;refine Ax rfl _ _ 22 rfl _ _ _ rfl rfl hr ?_);go_ret;exact⟨p',c',rfl,HF.out⟩
theorem UR(v:Value)(l:List Ty)(w:World)(h:AT 2 Hh w v l)(hl:l.length<=1000000):
 Calls prog 29 #[v] w fun e w'=>∃p c,e=.returned (.slice p l.length c)/\Ej (fun b=>b<w.heap.size) 2 Hh w' (.slice p l.length c) l/\w'.ownsRow w.heap.size 47 2 (.slice p l.length c) l.length (AN Hh l)/\Below w.heap.size w w':=by
 obtain⟨i0,hi0,hz0,hz1,hz2⟩:=info_parts LO;have hv:=h;obtain⟨p,c,rfl,hh⟩:=h;cases p with
 |none=>
  have hn:l=[]:=by
   exact Zer
  subst hn;clear hh hv;have heq:∀ (w:World) (n:Nat),(binOp .eql 23 (.slice none n c) (.slice none 0 0)).run prog w=.ok (.bool true) w:=fun w n=>Go.run_eql_slice_nil w _ _ none n c underlying23;go_enter func29,ntmps29;exact Zcz
 |some ad=>
  obtain⟨p',c',w',hr,hb,hrow,hown⟩:=Hn dE GK Sk underlying23 hi0 hz0 hz1 hz2 rfl hv mL oM 23;have HF:Hid (Ej (fun b=>b<w.heap.size) 2 Hh w' (.slice p' l.length c') l/\w'.ownsRow w.heap.size 47 2 (.slice p' l.length c') l.length (AN Hh l)/\Below w.heap.size w w'):=⟨hrow,hown,hb⟩
  obtain⟨n,hn⟩:=gA (l.length)
  rw[hn]at hr HF |-;clear hh hv hb hrow hown hn;have heq:∀ (w:World),(binOp .eql 23 (.slice (some ad) n c) (.slice none 0 0)).run prog w=.ok (.bool false) w:=fun w=>Go.run_eql_slice_nil w _ _ (some ad) n c underlying23;go_enter func29,ntmps29;go_wp2_with(at_builtin;refine Ax rfl _ _ 23 rfl _ _ _ rfl rfl hr ?_);go_ret;exact⟨p',c',rfl,HF.out⟩
theorem UQ(v:Value)(l:List Sl)(w:World)(h:AT 5 Ln w v l)(hl:l.length<=1000000):
 Calls prog 30 #[v] w fun e w'=>∃p c,e=.returned (.slice p l.length c)/\Ej (fun b=>b<w.heap.size) 5 Ln w' (.slice p l.length c) l/\w'.ownsRow w.heap.size 49 5 (.slice p l.length c) l.length (AN Ln l)/\Below w.heap.size w w':=by
 obtain⟨i0,hi0,hz0,hz1,hz2⟩:=info_parts LN;have hv:=h;obtain⟨p,c,rfl,hh⟩:=h;cases p with
 |none=>
  have hn:l=[]:=by
   exact Zer
  subst hn;clear hh hv;have heq:∀ (w:World) (n:Nat),(binOp .eql 24 (.slice none n c) (.slice none 0 0)).run prog w=.ok (.bool true) w:=fun w n=>Go.run_eql_slice_nil w _ _ none n c underlying24;go_enter func30,ntmps30;exact Zcz
 |some ad=>
  obtain⟨p',c',w',hr,hb,hrow,hown⟩:=Hn dE Ic Sf underlying24 hi0 hz0 hz1 hz2 rfl hv mL oM 24;have HF:Hid (Ej (fun b=>b<w.heap.size) 5 Ln w' (.slice p' l.length c') l/\w'.ownsRow w.heap.size 49 5 (.slice p' l.length c') l.length (AN Ln l)/\Below w.heap.size w w'):=⟨hrow,hown,hb⟩
  obtain⟨n,hn⟩:=gA (l.length)
  rw[hn]at hr HF |-;clear hh hv hb hrow hown hn;have heq:∀ (w:World),(binOp .eql 24 (.slice (some ad) n c) (.slice none 0 0)).run prog w=.ok (.bool false) w:=fun w=>Go.run_eql_slice_nil w _ _ (some ad) n c underlying24;go_enter func30,ntmps30;go_wp2_with(at_builtin;refine Ax rfl _ _ 24 rfl _ _ _ rfl rfl hr ?_);go_ret;exact⟨p',c',rfl,HF.out⟩
theorem SC(v:Value)(l:List Ad)(w:World)(h:AT 7 Di w v l)(hl:l.length<=1000000):
 Calls prog 27 #[v] w fun e w'=>∃p c,e=.returned (.slice p l.length c)/\Ej (fun b=>b<w.heap.size) 7 Di w' (.slice p l.length c) l/\w'.ownsRow w.heap.size 45 7 (.slice p l.length c) l.length (AN Di l)/\Below w.heap.size w w':=by
 obtain⟨i0,hi0,hz0,hz1,hz2⟩:=info_parts Gx;have hv:=h;obtain⟨p,c,rfl,hh⟩:=h;cases p with
 |none=>
  have hn:l=[]:=by
   exact Zer
  subst hn;clear hh hv;have heq:∀ (w:World) (n:Nat),(binOp .eql 25 (.slice none n c) (.slice none 0 0)).run prog w=.ok (.bool true) w:=fun w n=>Go.run_eql_slice_nil w _ _ none n c underlying25;go_enter func27,ntmps27;exact Zcz
 |some ad=>
  obtain⟨p',c',w',hr,hb,hrow,hown⟩:=Hn dE CP MU underlying25 hi0 hz0 hz1 hz2 rfl hv mL oM 25;have HF:Hid (Ej (fun b=>b<w.heap.size) 7 Di w' (.slice p' l.length c') l/\w'.ownsRow w.heap.size 45 7 (.slice p' l.length c') l.length (AN Di l)/\Below w.heap.size w w'):=⟨hrow,hown,hb⟩
  obtain⟨n,hn⟩:=gA (l.length)
  rw[hn]at hr HF |-;clear hh hv hb hrow hown hn;have heq:∀ (w:World),(binOp .eql 25 (.slice (some ad) n c) (.slice none 0 0)).run prog w=.ok (.bool false) w:=fun w=>Go.run_eql_slice_nil w _ _ (some ad) n c underlying25;go_enter func27,ntmps27;go_wp2_with(at_builtin;refine Ax rfl _ _ 25 rfl _ _ _ rfl rfl hr ?_);go_ret;exact⟨p',c',rfl,HF.out⟩
theorem ET{c:Cd}(h:(AD c).1=0):Good c/\AQ c ⟨[],[]⟩ c.list=true:=by
 obtain⟨h1,h2,_⟩:=DI.1 h;refine⟨?_,h2⟩;unfold Cm at h1;by_cases e1:Bh c.sign=0
 .rw[if_neg (by simp[e1])]at h1;by_cases e2:16384<c.regs.length\/32768<c.list.length
  .rw[if_pos e2]at h1;cases h1
  .rw[if_neg e2]at h1;by_cases e3:4096<c.slots.length
   .rw[if_pos e3]at h1;cases h1
   .rw[if_neg e3]at h1;by_cases e4:(Al c&&Ce c)=true
    .simp only[Bool.and_eq_true]at e4;have e5:¬c.sign.length>64/\c.sign.all Cg=true:=by
      unfold Bh at e1;by_cases q1:c.sign.length>64
      .rw[if_pos q1]at e1;cases e1
      .rw[if_neg q1]at e1;refine⟨q1,?_⟩;cases q2:c.sign.all Cg with
       |true=>rfl
       |false=>rw[if_pos q2]at e1;cases e1
     have hm:∀p∈c.sign,Cg p=true:=List.all_eq_true.1 e5.2;refine⟨fun p hp=>?_,hm,List.all_eq_true.1 e4.1,List.all_eq_true.1 e4.2,oM,oM,oM,oM⟩;have:=hm p hp;unfold Cg at this;simp only[Bool.and_eq_true,decide_eq_true_eq]at this;omega
    .rw[if_neg e4]at h1;cases h1
 .rw[if_pos e1]at h1;exact absurd h1 e1
theorem NJ{c:Cd}(hg:Good c){s:Sl}(hs:s∈c.slots)(hb:AA s.bits):Pc c s.ty (Bu c s):=by
 have hm:=hg.slots s hs;unfold Bl at hm;simp only[Bool.and_eq_true]at hm;have hb2:=hm.2;unfold Fm at hb2;refine⟨by unfold Bu EP;simp,fun y hy=>?_,?_⟩
 .unfold Bu EP at hy;rw[List.eq_of_mem_replicate hy];exact Dk _ hb
 .show 0<=s.int_/\s.int_<=2147483647;split at hb2
  .unfold DT at hb2;simp only[Bool.and_eq_true,decide_eq_true_eq,beq_iff_eq]at hb2;exact hb2.2
  .simp only[Bool.and_eq_true,beq_iff_eq]at hb2;omega
theorem Mf{c:Cd}{k:Nat}(h:k<(Cf c).length)(h':k<c.slots.length):(Cf c)[k]=Bu c c.slots[k]:=by simp[Cf]
section
variable {w W1 : World} {FR n C : Nat} {sv gv pv : Value}
end
def Pj(c:Cd)(l:List Hd):Nat->List Hd
 |0=>l
 |j+1=>match c.slots[j]? with
  |some s=>if s.keep then Pj c l j else(Pj c l j).set j (Bu c s)
  |none=>Pj c l j
def B8(c:Cd)(l:List Hd):Fr:=⟨fun _=>0,fun _=>0,fun _=>[],Pj c l c.slots.length,fun _ _=>0⟩
def Ee(c:Cd)(l:List Hd)(G P:List (List Int)):Fr:=(Ed c G P (B8 c l,0) c.list).1
theorem Hm(c:Cd)(l:List Hd):∀j,(Pj c l j).length=l.length
 |0=>rfl
 |j+1=>by
  unfold Pj;split
  .split
   .exact Hm c l j
   .rw[List.length_set];exact Hm c l j
  .exact Hm c l j
structure F7(L:List (List Int)):Prop where
 len:L.length<=140737488351232
 lens:∀l∈L,l.length<=140737488351232
 isP:∀l∈L,∀y∈l,AA y
theorem Jo{c:Cd}{L:List (List Int)}(h:Cr c.sign (L.map fun l=>l.length)=true)(hk:F7 L)(hg:Good c):Dp c L:=by
 have Ba:∀ (ps:List Cp) (M:List (List Int)),(∀p∈ps,Cg p=true/\1<=p.len)->Cr ps (M.map fun l=>l.length)=true->M.length=ps.length/\∀p (h:p<M.length),(M[p]).length=(ps[p]?).elim 0 Om:=by
  intro ps;induction ps with
  |nil=>intro M _ h;cases M with
   |nil=>exact⟨rfl,fun p h=>absurd h (Nat.not_lt_zero _)⟩
   |cons a M=>simp[Cr]at h
  |cons q ps ih=>
   intro M hm h;cases M with
   |nil=>simp[Cr]at h
   |cons a M=>
    simp only[List.map_cons,Cr,Bool.and_eq_true,decide_eq_true_eq]at h;obtain⟨i1,i2⟩:=ih M (fun p hp=>hm p (by simp[hp])) h.2;refine⟨by simp[i1],fun p hp=>?_⟩;cases p with
    |zero=>
     show a.length=Om q;unfold Om;omega
    |succ p=>exact i2 p (by simpa using hp)
 obtain⟨k1,k2⟩:=Ba c.sign L (fun p hp=>⟨hg.kind p hp,(hg.len p hp).1⟩) h;exact⟨k1,k2,hk.isP⟩
theorem G3.cellsOf{T:Nat->Prop}{w:World}{v:Value}{L:List (List Int)}(h:G3 T w v L):∃p c,v=.slice p L.length c/\∀i (hi:i<L.length),∃b o q d,p=some ⟨b,o,none⟩/\w.cell? ⟨b,o+i,none⟩=some (.slice q (L[i]).length d)/\Bc w q (L[i]).length (fun j=>.int .u32 (Cq L[i] j)):=by
 obtain⟨p,c,hv,hh⟩:=h;refine⟨p,c,hv,fun i hi=>?_⟩;rcases hh with e|⟨b,o,hp,_,_,hh⟩
 .rw[e]at hi;exact absurd hi (Nat.not_lt_zero _)
 .obtain⟨u,h1,h2⟩:=hh i hi;obtain⟨q,d,hq⟩:=h2.len;rw[hq]at h1 h2;exact⟨b,o,q,d,hp,h1,h2.reads.2⟩
def Io(c:Cd)(f f':Fr)(r r':Int):Prop:=Bo c f' r'=Bo c f r/\A5 c.regs r'=A5 c.regs r
section
variable {c : Cd} {G P : List (List Int)} {f f' : Fr} {i i' : Ad}
theorem Io.num{r r':Int}(h:Io c f f' r r')(k:(A5 c.regs r).kind=1):f'.nums r'.toNat=f.nums r.toNat:=by
 obtain⟨h1,h2⟩:=h;unfold Bo at h1;rw[h2,if_pos k,if_pos k]at h1;simpa using h1
theorem Io.whs{r r':Int}(h:Io c f f' r r')(k:(A5 c.regs r).kind=2):f'.whs r'.toNat=f.whs r.toNat:=by
 obtain⟨h1,h2⟩:=h;unfold Bo at h1;rw[h2,if_neg oM,if_pos k,if_neg oM,if_pos k]at h1;simpa using h1
theorem Io.vec{r r':Int}(h:Io c f f' r r')(k:(A5 c.regs r).kind=3):f'.vecs r'.toNat=f.vecs r.toNat:=by
 obtain⟨h1,h2⟩:=h;unfold Bo at h1;rw[h2,if_neg oM,if_neg oM,if_neg oM,if_neg oM]at h1;simpa using h1
structure DZ(c:Cd)(f f':Fr)(i i':Ad):Prop where
 op:i'.op=i.op
 d:A5 c.regs i'.d=A5 c.regs i.d
 n:i'.n=i.n
 bits:i'.bits=i.bits
 a:(A3 i.op).a≠0->Io c f f' i.a i'.a
 b:(A3 i.op).b≠0->Io c f f' i.b i'.b
 c:(A3 i.op).c≠0->Io c f f' i.c i'.c
theorem Ef(h:AO c i (A3 i.op)=true)(l:Int)(e:(A3 i.op).a=l)(h1:1<=l)(h2:l<=3):(A5 c.regs i.a).kind=l:=by
 have:=AS (BN h) oM;exact Zct
theorem Vz(h:AO c i (A3 i.op)=true)(l:Int)(e:(A3 i.op).b=l)(h1:1<=l)(h2:l<=3):(A5 c.regs i.b).kind=l:=by
 have:=AS (DU h) oM;exact Zct
theorem kind_c(h:AO c i (A3 i.op)=true)(l:Int)(e:(A3 i.op).c=l)(h1:1<=l)(h2:l<=3):(A5 c.regs i.c).kind=l:=by
 have:=AS (DV h) oM;exact Zct
theorem F4(h:AO c i (A3 i.op)=true)(l:Int)(e:(A3 i.op).d=l)(h1:1<=l)(h2:l<=3):(A5 c.regs i.d).kind=l:=by
 have:=AS (D6 h) oM;exact Zct
theorem Rv(h:AO c i (A3 i.op)=true)(e:DZ c f f' i i')(hn:Dj i.op=true):K8 f' i'=K8 f i:=by
 unfold Dj at hn;simp only[Bool.or_eq_true,beq_iff_eq]at hn;unfold K8;rw[e.op,e.bits];rcases(show i.op=1\/i.op=16\/i.op=17\/i.op=19\/i.op=20 by omega)with o|o|o|o|o
 .simp[o]
 .have r:A3 i.op=⟨1,1,2,0,0⟩:=by rw[o];decide
  simp only[o,if_true];rw[(e.a Zhv).num (Ef h 1 (by rw[r]) dE dE),(e.b Zhv).whs (Vz h 2 (by rw[r]) dE dE)]
 .have r:A3 i.op=⟨1,2,0,0,0⟩:=by rw[o];decide
  rw[if_neg oM,if_pos o,if_neg oM,if_pos o,(e.a Zhv).whs (Ef h 2 (by rw[r]) dE dE)]
 .have r:A3 i.op=⟨1,3,0,0,0⟩:=by rw[o];decide
  rw[if_neg oM,if_neg oM,if_pos o,if_neg oM,if_neg oM,if_pos o,(e.a Zhv).vec (Ef h 3 (by rw[r]) dE dE)]
 .have r:A3 i.op=⟨1,3,0,0,0⟩:=by rw[o];decide
  rw[if_neg oM,if_neg oM,if_neg oM,if_pos o,if_neg oM,if_neg oM,if_neg oM,if_pos o,(e.a Zhv).vec (Ef h 3 (by rw[r]) dE dE)]
theorem Mq(h:AO c i (A3 i.op)=true)(e:DZ c f f' i i')(hn:Bj i.op=true):F5 f' i'=F5 f i:=by
 unfold Bj at hn;simp only[Bool.or_eq_true,beq_iff_eq,Bool.and_eq_true,decide_eq_true_eq]at hn;have ka:∀l,(A3 i.op).a=l->1<=l->l<=3->(A5 c.regs i.a).kind=l:=fun l=>Ef h l;have wa:(A3 i.op).a=2->f'.whs i'.a.toNat=f.whs i.a.toNat:=fun q=>(e.a (by rw[q];decide)).whs (Ef h 2 q dE dE);have wb:(A3 i.op).b=2->f'.whs i'.b.toNat=f.whs i.b.toNat:=fun q=>(e.b (by rw[q];decide)).whs (Vz h 2 q dE dE);have wc:(A3 i.op).c=2->f'.whs i'.c.toNat=f.whs i.c.toNat:=fun q=>(e.c (by rw[q];decide)).whs (kind_c h 2 q dE dE);unfold F5;rw[e.op,e.n];rcases(show i.op=2\/i.op=18\/i.op=21\/i.op=22\/i.op=23\/i.op=24\/i.op=25\/i.op=26\/i.op=27\/i.op=28 by omega)with o|o|o|o|o|o|o|o|o|o
 .simp[o]
 .have q:(A3 i.op).a=1:=by rw[o];decide
  have q2:=(e.a (by rw[q];decide)).num (Ef h 1 q dE dE);simp only[o,if_true];rw[q2]
 .simp[o,wa Uw]
 .exact Zdu
 .exact Zdu
 .exact Zdu
 .simp[o,wa Uw]
 .simp[o,wa Uw,wb Uw,wc Uw]
 .exact Zdu
 .exact Zdu
theorem UM(e:DZ c f f' i i'):Bm c f' i'=Bm c f i:=by
 unfold Bm Ac;rw[e.op];by_cases ha:(A3 i.op).a=0<;>by_cases hb:(A3 i.op).b=0<;>by_cases hc:(A3 i.op).c=0<;>simp only[ha,hb,hc,if_true,if_false,List.nil_append,List.map_append,List.map_cons,List.map_nil]
 all_goals(
  try rw[(e.a ha).1]
  try rw[(e.b hb).1]
  try rw[(e.c hc).1])
theorem Dn(c:Cd)(f:Fr)(r:Int)(h:Hd):(II c f r h).slots=f.slots/\(II c f r h).outs=f.outs:=by
 unfold II;split
 .exact⟨rfl,rfl⟩
 .split<;>exact⟨rfl,rfl⟩
theorem Ni(c:Cd)(f f':Fr){r r':Int}(h:Hd)(e:A5 c.regs r'=A5 c.regs r):Bo c (II c f' r' h) r'=Bo c (II c f r h) r:=by
 unfold Bo II;rw[e];by_cases k1:(A5 c.regs r).kind=1
 .simp only[k1,if_true,B6]
 .by_cases k2:(A5 c.regs r).kind=2
  .simp only[if_neg k1,k2,if_true,B6];simp[B6]
  .simp only[if_neg k1,if_neg k2,B6]
theorem M9(c:Cd)(f:Fr){r d:Int}(h:Hd)(e:r.toNat≠d.toNat):Bo c (II c f d h) r=Bo c f r:=by
 unfold II;split
 .unfold Bo;simp only[BO _ _ e]
 .split
  .unfold Bo;simp only[BO _ _ e]
  .unfold Bo;simp only[BO _ _ e]
theorem Db(c:Cd)(f:Fr)(i:Ad):(Ew c f i).slots=f.slots/\(Ew c f i).outs=f.outs:=by
 unfold Ew;split
 .exact⟨rfl,rfl⟩
 .exact Dn _ _ _ _
theorem UW(h:AO c i (A3 i.op)=true)(hk:Ar i.op=true)(e:DZ c f f' i i')(hsl:f'.slots=f.slots)(hou:f'.outs=f.outs):
 (Cz c G P f' i').slots=(Cz c G P f i).slots/\(Cz c G P f' i').outs=(Cz c G P f i).outs/\(Ah i=true->Bo c (Cz c G P f' i') i'.d=Bo c (Cz c G P f i) i.d):=by
 have eo:=e.op;rcases Cw hk with o|o|o|o|o|o|o|o|o
 .have hd:(A3 i.op).d=1:=by
   exact Zej
  have k:=F4 h 1 hd dE dE;rw[Bq o,Bq ZT];refine⟨hsl,hou,fun _=>?_⟩;unfold Bo;rw[e.d,if_pos k,if_pos k];simp only[B6,Rv h e o]
 .have hd:(A3 i.op).d=2:=by
   exact Zdf
  have k:=F4 h 2 hd dE dE;rw[AV o,AV ZT];refine⟨hsl,hou,fun _=>?_⟩;unfold Bo;rw[e.d,if_neg oM,if_pos k,if_neg oM,if_pos k];simp only[B6,Mq h e o]
 .have k:=F4 h 3 Uw dE dE;have hp:Bg c G i'=Bg c G i:=by unfold Bg;rw[e.d,e.n]
  rw[BR o,BR (eo.trans o)];refine⟨hsl,hou,fun _=>?_⟩;exact Zdj
 .have k:=F4 h 3 Uw dE dE;have hp:Bg c P i'=Bg c P i:=by unfold Bg;rw[e.d,e.n]
  rw[BS o,BS (eo.trans o)];refine⟨hsl,hou,fun _=>?_⟩;exact Zdj
 .have ra:(A3 i.op).a=3:=by rw[o];decide
  have q:=e.a Zhs;rw[C9 o,C9 (eo.trans o)];refine⟨hsl,?_,fun s=>?_⟩
  .simp only;rw[q.2,q.vec (Ef h 3 ra dE dE),hou,e.n]
  .exact Zek
 .rw[Bx o,Bx (eo.trans o)];obtain⟨s1,s2⟩:=Dn c f i.d ((f.slots[i.n.toNat]?).getD ⟨[],0⟩);obtain⟨s3,s4⟩:=Dn c f' i'.d ((f'.slots[i'.n.toNat]?).getD ⟨[],0⟩);refine⟨by rw[s1,s3,hsl],by rw[s2,s4,hou],fun _=>?_⟩;rw[hsl,e.n];exact Ni c f f' _ e.d
 .have ra:(A3 i.op).a=6:=by rw[o];decide
  have q:=e.a Zhs;rw[Ca o,Ca (eo.trans o)];refine⟨?_,hou,fun s=>?_⟩
  .simp only;rw[hsl,e.n,q.1]
  .exact Zek
 .rw[AJ o,AJ ZT];refine⟨hsl,hou,fun s=>?_⟩;obtain⟨a1,a2,a3,a4⟩:=I9 s;omega
 .rw[AU o,AU ZT];obtain⟨s1,s2⟩:=Db c f i;obtain⟨s3,s4⟩:=Db c f' i';refine⟨by rw[s1,s3,hsl],by rw[s2,s4,hou],fun _=>?_⟩;exact Zaz
theorem Ii(h:AO c i (A3 i.op)=true)(hk:Ar i.op=true)(e:DZ c f f' i i')(hsl:i.op=32->f'.slots=f.slots):
 (Ah i=true->Bo c (Cz c G P f' i') i'.d=Bo c (Cz c G P f i) i.d):=by
 have eo:=e.op;rcases Cw hk with o|o|o|o|o|o|o|o|o
 .have hd:(A3 i.op).d=1:=by
   exact Zej
  have k:=F4 h 1 hd dE dE;rw[Bq o,Bq ZT];intro _;unfold Bo;rw[e.d,if_pos k,if_pos k];simp only[B6,Rv h e o]
 .have hd:(A3 i.op).d=2:=by
   exact Zdf
  have k:=F4 h 2 hd dE dE;rw[AV o,AV ZT];intro _;unfold Bo;rw[e.d,if_neg oM,if_pos k,if_neg oM,if_pos k];simp only[B6,Mq h e o]
 .have k:=F4 h 3 Uw dE dE;have hp:Bg c G i'=Bg c G i:=by unfold Bg;rw[e.d,e.n]
  rw[BR o,BR (eo.trans o)];intro _;exact Zdj
 .have k:=F4 h 3 Uw dE dE;have hp:Bg c P i'=Bg c P i:=by unfold Bg;rw[e.d,e.n]
  rw[BS o,BS (eo.trans o)];intro _;exact Zdj
 .have ra:(A3 i.op).a=3:=by rw[o];decide
  have q:=e.a Zhs;rw[C9 o,C9 (eo.trans o)];intro s;exact Zek
 .rw[Bx o,Bx (eo.trans o)];obtain⟨s1,s2⟩:=Dn c f i.d ((f.slots[i.n.toNat]?).getD ⟨[],0⟩);obtain⟨s3,s4⟩:=Dn c f' i'.d ((f'.slots[i'.n.toNat]?).getD ⟨[],0⟩);intro _;rw[hsl o,e.n];exact Ni c f f' _ e.d
 .have ra:(A3 i.op).a=6:=by rw[o];decide
  have q:=e.a Zhs;rw[Ca o,Ca (eo.trans o)];intro s;exact Zek
 .rw[AJ o,AJ ZT];intro s;obtain⟨a1,a2,a3,a4⟩:=I9 s;omega
 .rw[AU o,AU ZT];obtain⟨s1,s2⟩:=Db c f i;obtain⟨s3,s4⟩:=Db c f' i';intro _;exact Zaz
theorem Bw(hk:Ar i.op=true){r:Int}(hr:Ah i=true->r.toNat≠i.d.toNat):Bo c (Cz c G P f i) r=Bo c f r:=by
 have sb:∀q:Int,i.op=q->(A3 q).d≠0->Ah i=true:=fun q e h=>by unfold Ah;rw[e];simpa using h
 rcases Cw hk with o|o|o|o|o|o|o|o|o
 .have s:Ah i=true:=by
   unfold Dj at o;simp only[Bool.or_eq_true,beq_iff_eq]at o;rcases(show i.op=1\/i.op=16\/i.op=17\/i.op=19\/i.op=20 by omega)with q|q|q|q|q<;>exact sb _ q dE
  rw[Bq o];unfold Bo;simp only[BO _ _ (hr s)]
 .have s:Ah i=true:=by
   unfold Bj at o;simp only[Bool.or_eq_true,beq_iff_eq,Bool.and_eq_true,decide_eq_true_eq]at o;rcases(show i.op=2\/i.op=18\/i.op=21\/i.op=22\/i.op=23\/i.op=24\/i.op=25\/i.op=26\/i.op=27\/i.op=28 by omega)with q|q|q|q|q|q|q|q|q|q<;>exact sb _ q dE
  rw[AV o];unfold Bo;simp only[BO _ _ (hr s)]
 .rw[BR o];unfold Bo;simp only[BO _ _ (hr (sb _ o dE))]
 .rw[BS o];unfold Bo;simp only[BO _ _ (hr (sb _ o dE))]
 .rw[C9 o];rfl
 .rw[Bx o];exact M9 c f _ (hr (sb _ o dE))
 .rw[Ca o];rfl
 .rw[AJ o]
 .have s:Ah i=true:=by
   unfold Bd at o;simp only[Bool.and_eq_true,decide_eq_true_eq]at o;rcases(show i.op=3\/i.op=4\/i.op=5\/i.op=6\/i.op=7\/i.op=8\/i.op=9\/i.op=10\/i.op=11\/i.op=12\/i.op=13\/i.op=14\/i.op=15 by omega)with q|q|q|q|q|q|q|q|q|q|q|q|q<;>exact sb _ q dE
  rw[AU o];unfold Ew;split
  .unfold Bo;simp only[BO _ _ (hr s)]
  .exact M9 c f _ (hr s)
theorem QD(hk:Ar i.op=true)(s:Ah i=true):(Cz c G P f i).slots=f.slots/\(Cz c G P f i).outs=f.outs:=by
 rcases Cw hk with o|o|o|o|o|o|o|o|o
 .rw[Bq o];exact⟨rfl,rfl⟩
 .rw[AV o];exact⟨rfl,rfl⟩
 .rw[BR o];exact⟨rfl,rfl⟩
 .rw[BS o];exact⟨rfl,rfl⟩
 .exfalso;unfold Ah at s;rw[o]at s;exact absurd s dE
 .rw[Bx o];exact Dn _ _ _ _
 .exfalso;unfold Ah at s;rw[o]at s;exact absurd s dE
 .rw[AJ o];exact⟨rfl,rfl⟩
 .rw[AU o];exact Db _ _ _
theorem DZ.refl(h:∀r∈Ac i (A3 i.op),Io c f f' r r):DZ c f f' i i:=by
 unfold Ac at h;simp only[List.mem_append]at h;refine⟨rfl,rfl,rfl,rfl,fun q=>h _ (.inl Uv),fun q=>h _ (.inr (.inl Uv)),fun q=>h _ (.inr (.inr Uv))⟩
end

def Jg(c:Array Value)(i:Nat):Value:=(c[i]?).getD (.int .i64 0)
theorem D7(w:World)(c:Array Value)(t:TypeId):(w.alloc (.cells c t)).rowIs w.heap.size t c.size (Jg c):=World.rowIs_alloc w c t _ (fun i hi=>by unfold Jg;simp[hi])
end Go.Proofs.YtpoklpdgpcnkgaaGreat
