import Derived.Test.YtjglaibglofddaaGre15
import Derived.Test.YtjglaibglofddaaGre14
import Derived.Test.YtjglaibglofddaaGre16
import Derived.Test.YtjglaibglofddaaGre3
import Derived.Test.YtjglaibglofddaaGre13
import Derived.Deep.DeepCutAuto
import Derived.Deep.AppendLies
import Derived.Test.YtjglaibglofddaaGre1
namespace Go.Proofs.Ytjglaibglofddaa
open Go.RowKit Go.Proofs.Try
set_option linter.all false
set_option maxRecDepth 100000
set_option maxHeartbeats 16000000
def JS(L:Lt):Bool:=decide (L.a=45->L.b=45->L.e=45\/L.e=113)&&(decide (L.a=45->L.b≠45->L.e=45\/L.e=112\/L.e=115)&&decide (L.a≠45->L.e=45\/L.e=105\/L.e=112\/L.e=115))
theorem IQ{p:Prop}[Decidable p]{x y:Lt}(h:JS x=true)(k:JS y=true):JS (if p then x else y)=true:=by
 split
 .exact h
 .exact k
theorem IJ(op:Int):JS (Bn op)=true:=by
 unfold Bn
 iterate 19 refine IQ dE ?_
 decide
theorem GC(v0 v1 v2 v3:Value)(c:Cd)(co:AN c)(hT:Af c=true)(i:Ay)(h0:0<=i.bits)(h1:i.bits<4294967296)(hk:As i.op=true)(h2:(i.op==1||i.bits==0)=true)(h3:B1 i.bits=true)(w:World)(hv:BU w v0 v1 v2 v3 c):
 Calls prog 51 #[.agg #[v0,v1,v2,v3],C2 i] w fun e w'=>e=.returned (.bool (BD c i (Bn i.op)))/\Below w.heap.size w w':=by
 have HCAN:Hid (∀w,Calls prog 50 #[.int .u32 i.bits] w fun e w'=>e=.returned (.bool true)/\Below w.heap.size w w'):=by rw[<-h3];exact BB i.bits h0 h1
 obtain⟨a,b,cc,d,e,⟨ea,eb,ec,ed,ee⟩,hc⟩:=G7 i.op hk;obtain⟨oa,ob,oc,od,oe,oT⟩:=Ju i.op;have om:=IJ i.op;unfold JS at om;simp only[Bool.and_eq_true,decide_eq_true_eq]at om;obtain⟨m1,m2,m3⟩:=om;have hF:BD c i (Bn i.op)=(Ag c.regs (Bn i.op).a i.d ⟨0,0⟩&&(Ag c.regs (Bn i.op).b i.a (dR c.regs (Bn i.op).a i.d)&&(Ag c.regs (Bn i.op).c i.b (dR c.regs (Bn i.op).a i.d)&&(Ag c.regs (Bn i.op).d i.c (dR c.regs (Bn i.op).a i.d)&&Be c (Bn i.op).e i.n (tR c.regs (Bn i.op).a (Bn i.op).b i.d i.a))))):=by
  unfold BD;rw[h2,h3,Bool.true_and,Bool.true_and]
 rw[hF];clear hF h3;have ix0:∀w,(Instr.index 9 (.string ⟨#[a,b,cc,d,e]⟩) (.int .i64 0)).run prog w=.ok (.int .u8 (Bn i.op).a) w:=fun w=>by rw[<-ea];simp[Instr.index,run_underlying underlying9,asIntOf,go_sem];rfl
 have ix1:∀w,(Instr.index 9 (.string ⟨#[a,b,cc,d,e]⟩) (.int .i64 1)).run prog w=.ok (.int .u8 (Bn i.op).b) w:=fun w=>by rw[<-eb];simp[Instr.index,run_underlying underlying9,asIntOf,go_sem];rfl
 have ix2:∀w,(Instr.index 9 (.string ⟨#[a,b,cc,d,e]⟩) (.int .i64 2)).run prog w=.ok (.int .u8 (Bn i.op).c) w:=fun w=>by rw[<-ec];simp[Instr.index,run_underlying underlying9,asIntOf,go_sem];rfl
 have ix3:∀w,(Instr.index 9 (.string ⟨#[a,b,cc,d,e]⟩) (.int .i64 3)).run prog w=.ok (.int .u8 (Bn i.op).d) w:=fun w=>by rw[<-ed];simp[Instr.index,run_underlying underlying9,asIntOf,go_sem];rfl
 have H2:∀w,(Instr.index 9 (.string ⟨#[a,b,cc,d,e]⟩) (.int .i64 4)).run prog w=.ok (.int .u8 (Bn i.op).e) w:=fun w=>by rw[<-ee];simp[Instr.index,run_underlying underlying9,asIntOf,go_sem];rfl
 cases h:(i.op==1)
 .rw[h,Bool.false_or]at h2;have o2:(i.op != 1)=true:=by simpa using h
  have o4:(i.bits != 0)=false:=by simpa using h2
  by_cases hz:(Bn i.op).a=45
  .exact IU v0 v1 v2 v3 c co hT i.op i.d i.a i.b i.c i.n i.bits _ _ _ _ _ a b cc d e hc HCAN ix0 ix1 ix2 ix3 H2 oa ob oc od oT h o2 h2 o4 hz (m1 hz) (m2 hz) w hv
  .exact IV v0 v1 v2 v3 c co hT i.op i.d i.a i.b i.c i.n i.bits _ _ _ _ _ a b cc d e hc HCAN ix0 ix1 ix2 ix3 H2 oa ob oc od oT h o2 h2 o4 hz (m3 hz) w hv
 .have o2:(i.op != 1)=false:=by simpa using h
  have e1:i.op=1:=by simpa using h
  have ha:(Bn i.op).a≠45:=by rw[e1];decide
  have he:(Bn i.op).e=45:=by rw[e1];rfl
  exact IW v0 v1 v2 v3 c co hT i.op i.d i.a i.b i.c i.n i.bits _ _ _ _ _ a b cc d e hc HCAN ix0 ix1 ix2 ix3 H2 oa ob oc od oT h o2 ha he w hv
theorem GB(v0 v1 v2 v3:Value)(c:Cd)(co:AN c)(hT:Af c=true)(i:Ay)(h0:0<=i.bits)(h1:i.bits<4294967296)(w:World)(hv:BU w v0 v1 v2 v3 c):
 Calls prog 51 #[.agg #[v0,v1,v2,v3],C2 i] w fun e w'=>e=.returned (.bool (As i.op&&BD c i (Bn i.op)))/\Below w.heap.size w w':=by
 cases hh:(As i.op&&((i.op==1||i.bits==0)&&B1 i.bits))
 .have e:(As i.op&&BD c i (Bn i.op))=false:=by
   unfold BD;revert hh;cases As i.op<;>cases(i.op==1||i.bits==0)<;>cases B1 i.bits<;>simp
  rw[e];exact Hd v0 v1 v2 v3 i h0 h1 hh w
 .simp only[Bool.and_eq_true]at hh;rw[hh.1,Bool.true_and];exact GC v0 v1 v2 v3 c co hT i h0 h1 hh.1 hh.2.1 hh.2.2 w hv
theorem IT{c:Cd}{i:Ay}(h:AM c i (Ad i.op)=true):∀x∈AG i (Ad i.op),0<=x/\x<(c.regs.length:Int):=by
 intro x hx;unfold AG at hx;simp only[List.mem_append]at hx;rcases hx with hx|hx|hx
 .split at hx
  .simp at hx
  .rename_i e;simp at hx;subst hx;exact AT (Fx h) e
 .split at hx
  .simp at hx
  .rename_i e;simp at hx;subst hx;exact AT (Fy h) e
 .split at hx
  .simp at hx
  .rename_i e;simp at hx;subst hx;exact AT (Fz h) e
theorem Gz(i:Ay):(AG i (Ad i.op)).length<=3:=by
 rw[CE];simp only[List.length_append];have a:=CT (Ad i.op).a i.a;have b:=CT (Ad i.op).b i.b;have d:=CT (Ad i.op).c i.c;omega
theorem EB(v0 v1 v2 v3:Value)(c:Cd)(co:AN c)(hT:Af c=true)(i:Ay)(hb0:0<=i.bits)(hb1:i.bits<4294967296)(B:Nat)(s:Wk)(sv ov:Value)(us:List Value)(hM:c.regs.length<=16384)(ok:BG c.regs.length s)(po:Bv s)(w:World)(hv:BU w v0 v1 v2 v3 c)(hs:SK B c.regs.length w sv ov s us):
 Calls prog 35 #[.agg #[v0,v1,v2,v3],C2 i,sv,ov] w fun e w'=>e=.returned (.bool (AH c s i))/\Below w.heap.size w w':=by
 rw[GN hT po];have hfit:(As i.op&&BD c i (Bn i.op))=true->AM c i (Ad i.op)=true:=fun h=>by simp only[Bool.and_eq_true]at h;rw[<-Eo hT];exact h.2
 have HFIT:Hid (∀v,Below w.heap.size w v->Calls prog 51 #[.agg #[v0,v1,v2,v3],C2 i] v fun e w'=>e=.returned (.bool (As i.op&&BD c i (Bn i.op)))/\Below v.heap.size v w'):=fun v hb=>GB v0 v1 v2 v3 c co hT i hb0 hb1 v (hv.below hb);have HVEC:Hid (∀v,Below w.heap.size w v->Calls prog 52 #[.agg #[v0,v1,v2,v3],C2 i] v fun e w'=>e=.returned (.int .i64 (Co c.regs (C3 i)))/\Below v.heap.size v w'):=fun v hb=>ED v0 v1 v2 v3 c co i v (hv.below hb);have HRD:Hid (∀v,Calls prog 53 #[C2 i] v fun e w'=>∃u,e=.returned u/\w'.ownsRow v.heap.size 3 1 u (AG i (Ad i.op)).length (Bf (AG i (Ad i.op)))/\Below v.heap.size v w'):=Fp i;have hR3:=Gz i;have hRP:=fun h=>IT (hfit h);have hRO:CU s i (Ad i.op)=(AG i (Ad i.op)).all fun n=>decide (n.toNat∈s.set):=rfl;rw[hRO];clear hfit hRO;unfold Es EJ;obtain⟨Fi,hFi⟩:∃F,(As i.op&&BD c i (Bn i.op))=F:=⟨_,rfl⟩
 rw[hFi]at HFIT hRP |-;obtain⟨V,hV⟩:=gA (Co c.regs (C3 i))
 rw[hV]at HVEC |-;obtain⟨R,hR⟩:=gA (AG i (Ad i.op))
 rw[hR]at HRD hR3 hRP |-;have hnest:=ok.nest;have hlast:=fun g q (e:ov=.slice (some ⟨g,0,none⟩) s.opens.length q)=>SK.last (e▸hs);obtain⟨p,q,rfl⟩:=Ax hs.opn;have hopn:0<s.opens.length->∃g,p=some ⟨g,0,none⟩:=fun h=>by
  obtain⟨g,cap,e,_⟩:=hs.opn.form h;simp only[Value.slice.injEq]at e;exact⟨g,e.1⟩
 obtain⟨ps,qs,rfl⟩:=Ax hs.set;have HSET:Hid (∀k,k<c.regs.length->∃g,ps=some ⟨g,0,none⟩/\w.cell? ⟨g,k,none⟩=some (.bool (decide (k∈s.set)))):=fun k hk=>by
  obtain⟨g,cap,e,_⟩:=hs.set.form oM;simp only[Value.slice.injEq]at e;obtain⟨rfl,-,-⟩:=e;exact⟨g,rfl,by rw[hs.set.cellAt k oM,CJ hk]⟩
 have hz:s.opens.length=0->Av s=false:=fun h=>by
  obtain⟨S,O⟩:=s;cases O with
  |nil=>rfl
  |cons b r=>simp at h
 obtain⟨S,hS⟩:=gA (s.set)
 obtain⟨n,hn⟩:=gA (s.opens.length)
 obtain⟨lp,hlp⟩:∃l,Av s=l:=⟨_,rfl⟩
 obtain⟨par,hpar⟩:∃l,B5 s=l:=⟨_,rfl⟩
 obtain⟨M,hMM⟩:=gA (c.regs.length)
 rw[hn]at hnest hlast hopn hz |-;rw[hlp]at hlast hz |-;rw[hpar]at hlast |-;rw[hS]at HSET |-;rw[hMM]at hM HSET hRP hlast |-;clear hFi hV hR hs ok po hv co hT hS hn hlp hpar hMM;obtain⟨op,D,A,Q,E,nn,bt⟩:=i;unfold C2 at HFIT HVEC HRD |-;simp only at HFIT HVEC HRD hb0 hb1 |-;clear hb0 hb1;have HT0:Hid (TW w v0 v1 v2 v3 (w.heap.size+1) op D A Q E nn bt ((w.alloc (.cells #[v0,v1,v2,v3] 27)).alloc (.cells #[.int .i64 op,.int .i64 D,.int .i64 A,.int .i64 Q,.int .i64 E,.int .i64 nn,.int .u32 bt] 53))):=TW.start w v0 v1 v2 v3 op D A Q E nn bt;obtain⟨hb00,c0,c1,c2,c3,i0,i1,i2,i3,i4,i5,i6⟩:=HT0.out;have hcase:(n=0/\lp=false)\/(∃m g,m+1=n/\p=some ⟨g,0,none⟩/\lp=false/\w.cell? ⟨g,m*3,none⟩=some (.int .i64 34))\/(∃m g,m+1=n/\p=some ⟨g,0,none⟩/\lp=true/\w.cell? ⟨g,m*3,none⟩=some (.int .i64 36)/\w.cell? ⟨g,m*3+1,none⟩=some (.int .i64 par)):=by
  by_cases h0:n=0
  .exact .inl ⟨h0,hz h0⟩
  .obtain⟨g,rfl⟩:=hopn oM;obtain⟨X,u,-,-,a0,a1,-⟩:=hlast g q rfl oM;obtain⟨m,rfl⟩:∃m,n=m+1:=⟨n-1,oM⟩
   rw[Nat.add_sub_cancel]at a0 a1;cases lp
   .exact .inr (.inl ⟨m,g,rfl,rfl,rfl,a0⟩)
   .exact .inr (.inr ⟨m,g,rfl,rfl,rfl,a0,a1⟩)
 clear hlast hopn hz;have HRP:Hid (Fi=true->∀x∈R,0<=x/\x<(M:Int)):=hRP;clear hRP;obtain⟨RES,hRES⟩:∃X,(Fi&&(!(lp&&(op != 37&&V != par))&&((R.all fun n=>decide (n.toNat∈S))&&(if op=34\/op=36 then decide (n<64)else if op=35 then decide (0<n)&& !lp else if op=37 then lp else true))))=X:=⟨_,rfl⟩
 rw[hRES];cases Fi
 .have HQF:Hid (false=RES):=hRES;clear hRES;rcases hcase with⟨rfl,rfl⟩|⟨m,g,hm,rfl,rfl,z0⟩|⟨m,g,hm,rfl,rfl,z0,z1⟩
  .exact Kv
  .have hw:IntKind.i64.wrap ((n:Int)-1)=(m:Int):=by rw[IntKind.wrap_i64];omega
   have x0:=kc hb00 z0;have j0:(0:Int)<(n:Int):=oM;have j1:(0:Int)<=(m:Int):=oM;have j2:(m:Int)<(n:Int):=oM;exact Kv
  .have hw:IntKind.i64.wrap ((n:Int)-1)=(m:Int):=by rw[IntKind.wrap_i64];omega
   have x0:=kc hb00 z0;have j0:(0:Int)<(n:Int):=oM;have j1:(0:Int)<=(m:Int):=oM;have j2:(m:Int)<(n:Int):=oM;exact Kv
 .rw[Bool.true_and]at hRES;have HRP1:Hid (∀x∈R,0<=x/\x<(M:Int)):=HRP.out rfl;clear HRP;rcases hcase with⟨hn0,rfl⟩|⟨m,g,hm,rfl,rfl,z0⟩|⟨m,g,hm,rfl,rfl,z0,z1⟩
  .rw[Bool.false_and,Bool.not_false,Bool.true_and]at hRES;have HR2:Hid (((R.all fun n=>decide (n.toNat∈S))&&(if op=34\/op=36 then decide (n<64)else if op=35 then decide (0<n)&& !false else if op=37 then false else true))=RES):=hRES;clear hRES;have j0:¬ (0:Int)<(n:Int):=oM;go_enter func35,ntmps35;go_wp2;refine rG (fun v=>v.cell? ⟨w.heap.size,0,none⟩=some v0/\v.cell? ⟨w.heap.size,1,none⟩=some v1/\v.cell? ⟨w.heap.size,2,none⟩=some v2/\v.cell? ⟨w.heap.size,3,none⟩=some v3/\v.cell? ⟨w.heap.size+1,0,none⟩=some (.int .i64 op)/\v.cell? ⟨w.heap.size+1,1,none⟩=some (.int .i64 D)/\v.cell? ⟨w.heap.size+1,2,none⟩=some (.int .i64 A)/\v.cell? ⟨w.heap.size+1,3,none⟩=some (.int .i64 Q)/\v.cell? ⟨w.heap.size+1,4,none⟩=some (.int .i64 E)/\v.cell? ⟨w.heap.size+1,5,none⟩=some (.int .i64 nn)/\v.cell? ⟨w.heap.size+1,6,none⟩=some (.int .u32 bt)) fun hJ=>?_;refine wpAnyH_take (i:=0) (v:=?_) A5 kR kR kR A6 (Or.inl ⟨rF,?_⟩) A7 ?_
   rotate_left 1
   ·(intro wS hSw;(try dsimp only at hSw);go_simp;try(with_reducible rfl))
   try simp only[Act.put,List.setIfInBounds_toArray,List.set_cons_zero,List.set_cons_succ]
   refine wpAnyH_take (i:=1) (v:=?_) A5 kR kR kR A6 (Or.inl ⟨rF,?_⟩) A7 ?_
   rotate_left 1
   ·(intro wS hSw;(try dsimp only at hSw);go_simp;try(with_reducible rfl))
   try simp only[Act.put,List.setIfInBounds_toArray,List.set_cons_zero,List.set_cons_succ]
   clear hJ;refine AO 2 fun K hK=>?_;go_simp;(go_at_call 51;(with_reducible refine(HFIT.out _ (bel HT0.out.bel (Aa _))).mono ?_);rintro e wz ⟨rfl,hbz⟩;have HBZ:Hid (Below ((w.alloc (.cells #[v0,v1,v2,v3] 27)).alloc (.cells #[.int .i64 op,.int .i64 D,.int .i64 A,.int .i64 Q,.int .i64 E,.int .i64 nn,.int .u32 bt] 53)).heap.size ((w.alloc (.cells #[v0,v1,v2,v3] 27)).alloc (.cells #[.int .i64 op,.int .i64 D,.int .i64 A,.int .i64 Q,.int .i64 E,.int .i64 nn,.int .u32 bt] 53)) wz):=bel (Aa _) hbz;clear hbz;obtain⟨-,c0,c1,c2,c3,i0,i1,i2,i3,i4,i5,i6⟩:=HT0.out.next HBZ.out);try(go_wp2_with fail)
   refine AP hK fun hJ=>?_;clear hK K;refine wpAnyH_take (i:=3) (v:=?_) A5 kR kR kR A6 (Or.inl ⟨rF,?_⟩) A7 ?_
   rotate_left 1
   ·(intro wS hSw;(try dsimp only at hSw);go_simp;try(with_reducible rfl))
   try simp only[Act.put,List.setIfInBounds_toArray,List.set_cons_zero,List.set_cons_succ]
   refine wpAnyH_take (i:=4) (v:=?_) A5 kR kR kR A6 (Or.inl ⟨rF,?_⟩) A7 ?_
   rotate_left 1
   ·(intro wS hSw;(try dsimp only at hSw);go_simp;try(with_reducible rfl))
   try simp only[Act.put,List.setIfInBounds_toArray,List.set_cons_zero,List.set_cons_succ]
   refine wpAnyH_take (i:=5) (v:=?_) A5 kR kR kR A6 (Or.inl ⟨rF,?_⟩) A7 ?_
   rotate_left 1
   ·(intro wS hSw;(try dsimp only at hSw);go_simp;try(with_reducible rfl))
   try simp only[Act.put,List.setIfInBounds_toArray,List.set_cons_zero,List.set_cons_succ]
   refine wpAnyH_take (i:=6) (v:=?_) A5 kR kR kR A6 (Or.inl ⟨rF,?_⟩) A7 ?_
   rotate_left 1
   ·(intro wS hSw;(try dsimp only at hSw);go_simp;try(with_reducible rfl))
   try simp only[Act.put,List.setIfInBounds_toArray,List.set_cons_zero,List.set_cons_succ]
   refine wpAnyH_take (i:=7) (v:=undef) A5 kR kR kR A6 (Or.inr ⟨rF,rfl⟩) A7 ?_;try simp only[Act.put,List.setIfInBounds_toArray,List.set_cons_zero,List.set_cons_succ]
   refine wpAnyH_take (i:=8) (v:=undef) A5 kR kR kR A6 (Or.inr ⟨rF,rfl⟩) A7 ?_;try simp only[Act.put,List.setIfInBounds_toArray,List.set_cons_zero,List.set_cons_succ]
   refine wpAnyH_take (i:=9) (v:=undef) A5 kR kR kR A6 (Or.inr ⟨rF,rfl⟩) A7 ?_;try simp only[Act.put,List.setIfInBounds_toArray,List.set_cons_zero,List.set_cons_succ]
   refine wpAnyH_take (i:=10) (v:=?_) A5 kR kR kR A6 (Or.inl ⟨rF,?_⟩) A7 ?_
   rotate_left 1
   ·(intro wS hSw;(try dsimp only at hSw);go_simp;try(with_reducible rfl))
   try simp only[Act.put,List.setIfInBounds_toArray,List.set_cons_zero,List.set_cons_succ]
   refine wpAnyH_take (i:=11) (v:=?_) A5 kR kR kR A6 (Or.inl ⟨rF,?_⟩) A7 ?_
   rotate_left 1
   ·(intro wS hSw;(try dsimp only at hSw);go_simp;try(with_reducible rfl))
   try simp only[Act.put,List.setIfInBounds_toArray,List.set_cons_zero,List.set_cons_succ]
   refine wpAnyH_take (i:=12) (v:=undef) A5 kR kR kR A6 (Or.inr ⟨rF,rfl⟩) A7 ?_;try simp only[Act.put,List.setIfInBounds_toArray,List.set_cons_zero,List.set_cons_succ]
   refine wpAnyH_take (i:=13) (v:=undef) A5 kR kR kR A6 (Or.inr ⟨rF,rfl⟩) A7 ?_;try simp only[Act.put,List.setIfInBounds_toArray,List.set_cons_zero,List.set_cons_succ]
   refine wpAnyH_take (i:=14) (v:=undef) A5 kR kR kR A6 (Or.inr ⟨rF,rfl⟩) A7 ?_;try simp only[Act.put,List.setIfInBounds_toArray,List.set_cons_zero,List.set_cons_succ]
   refine wpAnyH_take (i:=15) (v:=undef) A5 kR kR kR A6 (Or.inr ⟨rF,rfl⟩) A7 ?_;try simp only[Act.put,List.setIfInBounds_toArray,List.set_cons_zero,List.set_cons_succ]
   refine wpAnyH_take (i:=16) (v:=undef) A5 kR kR kR A6 (Or.inr ⟨rF,rfl⟩) A7 ?_;try simp only[Act.put,List.setIfInBounds_toArray,List.set_cons_zero,List.set_cons_succ]
   refine wpAnyH_take (i:=17) (v:=undef) A5 kR kR kR A6 (Or.inr ⟨rF,rfl⟩) A7 ?_;try simp only[Act.put,List.setIfInBounds_toArray,List.set_cons_zero,List.set_cons_succ]
   refine wpAnyH_take (i:=18) (v:=undef) A5 kR kR kR A6 (Or.inr ⟨rF,rfl⟩) A7 ?_;try simp only[Act.put,List.setIfInBounds_toArray,List.set_cons_zero,List.set_cons_succ]
   refine wpAnyH_take (i:=19) (v:=undef) A5 kR kR kR A6 (Or.inr ⟨rF,rfl⟩) A7 ?_;try simp only[Act.put,List.setIfInBounds_toArray,List.set_cons_zero,List.set_cons_succ]
   refine wpAnyH_take (i:=20) (v:=undef) A5 kR kR kR A6 (Or.inr ⟨rF,rfl⟩) A7 ?_;try simp only[Act.put,List.setIfInBounds_toArray,List.set_cons_zero,List.set_cons_succ]
   refine wpAnyH_take (i:=21) (v:=undef) A5 kR kR kR A6 (Or.inr ⟨rF,rfl⟩) A7 ?_;try simp only[Act.put,List.setIfInBounds_toArray,List.set_cons_zero,List.set_cons_succ]
   refine wpAnyH_take (i:=22) (v:=undef) A5 kR kR kR A6 (Or.inr ⟨rF,rfl⟩) A7 ?_;try simp only[Act.put,List.setIfInBounds_toArray,List.set_cons_zero,List.set_cons_succ]
   refine wpAnyH_take (i:=23) (v:=?_) A5 kR kR kR A6 (Or.inl ⟨rF,?_⟩) A7 ?_
   rotate_left 1
   ·(intro wS hSw;(try dsimp only at hSw);go_simp;try(with_reducible rfl))
   try simp only[Act.put,List.setIfInBounds_toArray,List.set_cons_zero,List.set_cons_succ]
   refine wpAnyH_take (i:=24) (v:=?_) A5 kR kR kR A6 (Or.inl ⟨rF,?_⟩) A7 ?_
   rotate_left 1
   ·(intro wS hSw;(try dsimp only at hSw);go_simp;try(with_reducible rfl))
   try simp only[Act.put,List.setIfInBounds_toArray,List.set_cons_zero,List.set_cons_succ]
   refine wpAnyH_done kR ?_ _;clear j0;exact Kw
  .rw[Bool.false_and,Bool.not_false,Bool.true_and]at hRES;have HR2:Hid (((R.all fun n=>decide (n.toNat∈S))&&(if op=34\/op=36 then decide (n<64)else if op=35 then decide (0<n)&& !false else if op=37 then false else true))=RES):=hRES;clear hRES;have hw:IntKind.i64.wrap ((n:Int)-1)=(m:Int):=by rw[IntKind.wrap_i64];omega
   have x0:=kc hb00 z0;have j0:(0:Int)<(n:Int):=oM;have j1:(0:Int)<=(m:Int):=oM;have j2:(m:Int)<(n:Int):=oM;go_enter func35,ntmps35;go_wp2;refine rG (fun v=>v.cell? ⟨w.heap.size,0,none⟩=some v0/\v.cell? ⟨w.heap.size,1,none⟩=some v1/\v.cell? ⟨w.heap.size,2,none⟩=some v2/\v.cell? ⟨w.heap.size,3,none⟩=some v3/\v.cell? ⟨w.heap.size+1,0,none⟩=some (.int .i64 op)/\v.cell? ⟨w.heap.size+1,1,none⟩=some (.int .i64 D)/\v.cell? ⟨w.heap.size+1,2,none⟩=some (.int .i64 A)/\v.cell? ⟨w.heap.size+1,3,none⟩=some (.int .i64 Q)/\v.cell? ⟨w.heap.size+1,4,none⟩=some (.int .i64 E)/\v.cell? ⟨w.heap.size+1,5,none⟩=some (.int .i64 nn)/\v.cell? ⟨w.heap.size+1,6,none⟩=some (.int .u32 bt)) fun hJ=>?_;refine wpAnyH_take (i:=0) (v:=?_) A5 kR kR kR A6 (Or.inl ⟨rF,?_⟩) A7 ?_
   rotate_left 1
   ·(intro wS hSw;(try dsimp only at hSw);go_simp;try(with_reducible rfl))
   try simp only[Act.put,List.setIfInBounds_toArray,List.set_cons_zero,List.set_cons_succ]
   refine wpAnyH_take (i:=1) (v:=?_) A5 kR kR kR A6 (Or.inl ⟨rF,?_⟩) A7 ?_
   rotate_left 1
   ·(intro wS hSw;(try dsimp only at hSw);go_simp;try(with_reducible rfl))
   try simp only[Act.put,List.setIfInBounds_toArray,List.set_cons_zero,List.set_cons_succ]
   clear hJ;refine AO 2 fun K hK=>?_;go_simp;(go_at_call 51;(with_reducible refine(HFIT.out _ (bel HT0.out.bel (Aa _))).mono ?_);rintro e wz ⟨rfl,hbz⟩;have HBZ:Hid (Below ((w.alloc (.cells #[v0,v1,v2,v3] 27)).alloc (.cells #[.int .i64 op,.int .i64 D,.int .i64 A,.int .i64 Q,.int .i64 E,.int .i64 nn,.int .u32 bt] 53)).heap.size ((w.alloc (.cells #[v0,v1,v2,v3] 27)).alloc (.cells #[.int .i64 op,.int .i64 D,.int .i64 A,.int .i64 Q,.int .i64 E,.int .i64 nn,.int .u32 bt] 53)) wz):=bel (Aa _) hbz;clear hbz;obtain⟨-,c0,c1,c2,c3,i0,i1,i2,i3,i4,i5,i6⟩:=HT0.out.next HBZ.out);try(go_wp2_with fail)
   refine AP hK fun hJ=>?_;clear hK K;refine wpAnyH_take (i:=3) (v:=?_) A5 kR kR kR A6 (Or.inl ⟨rF,?_⟩) A7 ?_
   rotate_left 1
   ·(intro wS hSw;(try dsimp only at hSw);go_simp;try(with_reducible rfl))
   try simp only[Act.put,List.setIfInBounds_toArray,List.set_cons_zero,List.set_cons_succ]
   refine wpAnyH_take (i:=4) (v:=?_) A5 kR kR kR A6 (Or.inl ⟨rF,?_⟩) A7 ?_
   rotate_left 1
   ·(intro wS hSw;(try dsimp only at hSw);go_simp;try(with_reducible rfl))
   try simp only[Act.put,List.setIfInBounds_toArray,List.set_cons_zero,List.set_cons_succ]
   refine wpAnyH_take (i:=5) (v:=?_) A5 kR kR kR A6 (Or.inl ⟨rF,?_⟩) A7 ?_
   rotate_left 1
   ·(intro wS hSw;(try dsimp only at hSw);go_simp;try(with_reducible rfl))
   try simp only[Act.put,List.setIfInBounds_toArray,List.set_cons_zero,List.set_cons_succ]
   refine wpAnyH_take (i:=6) (v:=?_) A5 kR kR kR A6 (Or.inl ⟨rF,?_⟩) A7 ?_
   rotate_left 1
   ·(intro wS hSw;(try dsimp only at hSw);go_simp;try(with_reducible rfl))
   try simp only[Act.put,List.setIfInBounds_toArray,List.set_cons_zero,List.set_cons_succ]
   refine wpAnyH_take (i:=7) (v:=undef) A5 kR kR kR A6 (Or.inr ⟨rF,rfl⟩) A7 ?_;try simp only[Act.put,List.setIfInBounds_toArray,List.set_cons_zero,List.set_cons_succ]
   refine wpAnyH_take (i:=8) (v:=undef) A5 kR kR kR A6 (Or.inr ⟨rF,rfl⟩) A7 ?_;try simp only[Act.put,List.setIfInBounds_toArray,List.set_cons_zero,List.set_cons_succ]
   refine wpAnyH_take (i:=9) (v:=undef) A5 kR kR kR A6 (Or.inr ⟨rF,rfl⟩) A7 ?_;try simp only[Act.put,List.setIfInBounds_toArray,List.set_cons_zero,List.set_cons_succ]
   refine wpAnyH_take (i:=10) (v:=?_) A5 kR kR kR A6 (Or.inl ⟨rF,?_⟩) A7 ?_
   rotate_left 1
   ·(intro wS hSw;(try dsimp only at hSw);go_simp;try(with_reducible rfl))
   try simp only[Act.put,List.setIfInBounds_toArray,List.set_cons_zero,List.set_cons_succ]
   refine wpAnyH_take (i:=11) (v:=?_) A5 kR kR kR A6 (Or.inl ⟨rF,?_⟩) A7 ?_
   rotate_left 1
   ·(intro wS hSw;(try dsimp only at hSw);go_simp;try(with_reducible rfl))
   try simp only[Act.put,List.setIfInBounds_toArray,List.set_cons_zero,List.set_cons_succ]
   refine wpAnyH_take (i:=12) (v:=undef) A5 kR kR kR A6 (Or.inr ⟨rF,rfl⟩) A7 ?_;try simp only[Act.put,List.setIfInBounds_toArray,List.set_cons_zero,List.set_cons_succ]
   refine wpAnyH_take (i:=13) (v:=undef) A5 kR kR kR A6 (Or.inr ⟨rF,rfl⟩) A7 ?_;try simp only[Act.put,List.setIfInBounds_toArray,List.set_cons_zero,List.set_cons_succ]
   refine wpAnyH_take (i:=14) (v:=undef) A5 kR kR kR A6 (Or.inr ⟨rF,rfl⟩) A7 ?_;try simp only[Act.put,List.setIfInBounds_toArray,List.set_cons_zero,List.set_cons_succ]
   refine wpAnyH_take (i:=15) (v:=undef) A5 kR kR kR A6 (Or.inr ⟨rF,rfl⟩) A7 ?_;try simp only[Act.put,List.setIfInBounds_toArray,List.set_cons_zero,List.set_cons_succ]
   refine wpAnyH_take (i:=16) (v:=undef) A5 kR kR kR A6 (Or.inr ⟨rF,rfl⟩) A7 ?_;try simp only[Act.put,List.setIfInBounds_toArray,List.set_cons_zero,List.set_cons_succ]
   refine wpAnyH_take (i:=17) (v:=undef) A5 kR kR kR A6 (Or.inr ⟨rF,rfl⟩) A7 ?_;try simp only[Act.put,List.setIfInBounds_toArray,List.set_cons_zero,List.set_cons_succ]
   refine wpAnyH_take (i:=18) (v:=undef) A5 kR kR kR A6 (Or.inr ⟨rF,rfl⟩) A7 ?_;try simp only[Act.put,List.setIfInBounds_toArray,List.set_cons_zero,List.set_cons_succ]
   refine wpAnyH_take (i:=19) (v:=undef) A5 kR kR kR A6 (Or.inr ⟨rF,rfl⟩) A7 ?_;try simp only[Act.put,List.setIfInBounds_toArray,List.set_cons_zero,List.set_cons_succ]
   refine wpAnyH_take (i:=20) (v:=undef) A5 kR kR kR A6 (Or.inr ⟨rF,rfl⟩) A7 ?_;try simp only[Act.put,List.setIfInBounds_toArray,List.set_cons_zero,List.set_cons_succ]
   refine wpAnyH_take (i:=21) (v:=undef) A5 kR kR kR A6 (Or.inr ⟨rF,rfl⟩) A7 ?_;try simp only[Act.put,List.setIfInBounds_toArray,List.set_cons_zero,List.set_cons_succ]
   refine wpAnyH_take (i:=22) (v:=undef) A5 kR kR kR A6 (Or.inr ⟨rF,rfl⟩) A7 ?_;try simp only[Act.put,List.setIfInBounds_toArray,List.set_cons_zero,List.set_cons_succ]
   refine wpAnyH_take (i:=23) (v:=?_) A5 kR kR kR A6 (Or.inl ⟨rF,?_⟩) A7 ?_
   rotate_left 1
   ·(intro wS hSw;(try dsimp only at hSw);go_simp;try(with_reducible rfl))
   try simp only[Act.put,List.setIfInBounds_toArray,List.set_cons_zero,List.set_cons_succ]
   refine wpAnyH_take (i:=24) (v:=?_) A5 kR kR kR A6 (Or.inl ⟨rF,?_⟩) A7 ?_
   rotate_left 1
   ·(intro wS hSw;(try dsimp only at hSw);go_simp;try(with_reducible rfl))
   try simp only[Act.put,List.setIfInBounds_toArray,List.set_cons_zero,List.set_cons_succ]
   refine wpAnyH_done kR ?_ _;clear j0 j1 j2 hw;exact Kw
  .rw[Bool.true_and]at hRES;have hw:IntKind.i64.wrap ((n:Int)-1)=(m:Int):=by rw[IntKind.wrap_i64];omega
   have x0:=kc hb00 z0;have j0:(0:Int)<(n:Int):=oM;have j1:(0:Int)<=(m:Int):=oM;have j2:(m:Int)<(n:Int):=oM;have y1:=kc hb00 z1;by_cases h7:op=37
   .subst h7;rw[show((37:Int) != 37)=false from rfl,Bool.false_and,Bool.not_false,Bool.true_and]at hRES;have HR2:Hid (((R.all fun n=>decide (n.toNat∈S))&&(if(37:Int)=34\/(37:Int)=36 then decide (n<64)else if(37:Int)=35 then decide (0<n)&& !true else if(37:Int)=37 then true else true))=RES):=hRES;clear hRES;go_enter func35,ntmps35;go_wp2;refine rG (fun v=>v.cell? ⟨w.heap.size,0,none⟩=some v0/\v.cell? ⟨w.heap.size,1,none⟩=some v1/\v.cell? ⟨w.heap.size,2,none⟩=some v2/\v.cell? ⟨w.heap.size,3,none⟩=some v3/\v.cell? ⟨w.heap.size+1,0,none⟩=some (.int .i64 37)/\v.cell? ⟨w.heap.size+1,1,none⟩=some (.int .i64 D)/\v.cell? ⟨w.heap.size+1,2,none⟩=some (.int .i64 A)/\v.cell? ⟨w.heap.size+1,3,none⟩=some (.int .i64 Q)/\v.cell? ⟨w.heap.size+1,4,none⟩=some (.int .i64 E)/\v.cell? ⟨w.heap.size+1,5,none⟩=some (.int .i64 nn)/\v.cell? ⟨w.heap.size+1,6,none⟩=some (.int .u32 bt)) fun hJ=>?_;refine wpAnyH_take (i:=0) (v:=?_) A5 kR kR kR A6 (Or.inl ⟨rF,?_⟩) A7 ?_
    rotate_left 1
    ·(intro wS hSw;(try dsimp only at hSw);go_simp;try(with_reducible rfl))
    try simp only[Act.put,List.setIfInBounds_toArray,List.set_cons_zero,List.set_cons_succ]
    refine wpAnyH_take (i:=1) (v:=?_) A5 kR kR kR A6 (Or.inl ⟨rF,?_⟩) A7 ?_
    rotate_left 1
    ·(intro wS hSw;(try dsimp only at hSw);go_simp;try(with_reducible rfl))
    try simp only[Act.put,List.setIfInBounds_toArray,List.set_cons_zero,List.set_cons_succ]
    clear hJ;refine AO 2 fun K hK=>?_;go_simp;(go_at_call 51;(with_reducible refine(HFIT.out _ (bel HT0.out.bel (Aa _))).mono ?_);rintro e wz ⟨rfl,hbz⟩;have HBZ:Hid (Below ((w.alloc (.cells #[v0,v1,v2,v3] 27)).alloc (.cells #[.int .i64 37,.int .i64 D,.int .i64 A,.int .i64 Q,.int .i64 E,.int .i64 nn,.int .u32 bt] 53)).heap.size ((w.alloc (.cells #[v0,v1,v2,v3] 27)).alloc (.cells #[.int .i64 37,.int .i64 D,.int .i64 A,.int .i64 Q,.int .i64 E,.int .i64 nn,.int .u32 bt] 53)) wz):=bel (Aa _) hbz;clear hbz;obtain⟨-,c0,c1,c2,c3,i0,i1,i2,i3,i4,i5,i6⟩:=HT0.out.next HBZ.out);try(go_wp2_with fail)
    refine AP hK fun hJ=>?_;clear hK K;refine wpAnyH_take (i:=3) (v:=?_) A5 kR kR kR A6 (Or.inl ⟨rF,?_⟩) A7 ?_
    rotate_left 1
    ·(intro wS hSw;(try dsimp only at hSw);go_simp;try(with_reducible rfl))
    try simp only[Act.put,List.setIfInBounds_toArray,List.set_cons_zero,List.set_cons_succ]
    refine wpAnyH_take (i:=4) (v:=?_) A5 kR kR kR A6 (Or.inl ⟨rF,?_⟩) A7 ?_
    rotate_left 1
    ·(intro wS hSw;(try dsimp only at hSw);go_simp;try(with_reducible rfl))
    try simp only[Act.put,List.setIfInBounds_toArray,List.set_cons_zero,List.set_cons_succ]
    refine wpAnyH_take (i:=5) (v:=?_) A5 kR kR kR A6 (Or.inl ⟨rF,?_⟩) A7 ?_
    rotate_left 1
    ·(intro wS hSw;(try dsimp only at hSw);go_simp;try(with_reducible rfl))
    try simp only[Act.put,List.setIfInBounds_toArray,List.set_cons_zero,List.set_cons_succ]
    refine wpAnyH_take (i:=6) (v:=?_) A5 kR kR kR A6 (Or.inl ⟨rF,?_⟩) A7 ?_
    rotate_left 1
    ·(intro wS hSw;(try dsimp only at hSw);go_simp;try(with_reducible rfl))
    try simp only[Act.put,List.setIfInBounds_toArray,List.set_cons_zero,List.set_cons_succ]
    refine wpAnyH_take (i:=7) (v:=?_) A5 kR kR kR A6 (Or.inl ⟨rF,?_⟩) A7 ?_
    rotate_left 1
    ·(intro wS hSw;(try dsimp only at hSw);go_simp;try(with_reducible rfl))
    try simp only[Act.put,List.setIfInBounds_toArray,List.set_cons_zero,List.set_cons_succ]
    refine wpAnyH_take (i:=8) (v:=?_) A5 kR kR kR A6 (Or.inl ⟨rF,?_⟩) A7 ?_
    rotate_left 1
    ·(intro wS hSw;(try dsimp only at hSw);go_simp;try(with_reducible rfl))
    try simp only[Act.put,List.setIfInBounds_toArray,List.set_cons_zero,List.set_cons_succ]
    refine wpAnyH_take (i:=9) (v:=?_) A5 kR kR kR A6 (Or.inl ⟨rF,?_⟩) A7 ?_
    rotate_left 1
    ·(intro wS hSw;(try dsimp only at hSw);go_simp;try(with_reducible rfl))
    try simp only[Act.put,List.setIfInBounds_toArray,List.set_cons_zero,List.set_cons_succ]
    refine wpAnyH_take (i:=10) (v:=?_) A5 kR kR kR A6 (Or.inl ⟨rF,?_⟩) A7 ?_
    rotate_left 1
    ·(intro wS hSw;(try dsimp only at hSw);go_simp;try(with_reducible rfl))
    try simp only[Act.put,List.setIfInBounds_toArray,List.set_cons_zero,List.set_cons_succ]
    refine wpAnyH_take (i:=11) (v:=?_) A5 kR kR kR A6 (Or.inl ⟨rF,?_⟩) A7 ?_
    rotate_left 1
    ·(intro wS hSw;(try dsimp only at hSw);go_simp;try(with_reducible rfl))
    try simp only[Act.put,List.setIfInBounds_toArray,List.set_cons_zero,List.set_cons_succ]
    refine wpAnyH_take (i:=12) (v:=undef) A5 kR kR kR A6 (Or.inr ⟨rF,rfl⟩) A7 ?_;try simp only[Act.put,List.setIfInBounds_toArray,List.set_cons_zero,List.set_cons_succ]
    refine wpAnyH_take (i:=13) (v:=undef) A5 kR kR kR A6 (Or.inr ⟨rF,rfl⟩) A7 ?_;try simp only[Act.put,List.setIfInBounds_toArray,List.set_cons_zero,List.set_cons_succ]
    refine wpAnyH_take (i:=14) (v:=undef) A5 kR kR kR A6 (Or.inr ⟨rF,rfl⟩) A7 ?_;try simp only[Act.put,List.setIfInBounds_toArray,List.set_cons_zero,List.set_cons_succ]
    refine wpAnyH_take (i:=15) (v:=undef) A5 kR kR kR A6 (Or.inr ⟨rF,rfl⟩) A7 ?_;try simp only[Act.put,List.setIfInBounds_toArray,List.set_cons_zero,List.set_cons_succ]
    refine wpAnyH_take (i:=16) (v:=undef) A5 kR kR kR A6 (Or.inr ⟨rF,rfl⟩) A7 ?_;try simp only[Act.put,List.setIfInBounds_toArray,List.set_cons_zero,List.set_cons_succ]
    refine wpAnyH_take (i:=17) (v:=undef) A5 kR kR kR A6 (Or.inr ⟨rF,rfl⟩) A7 ?_;try simp only[Act.put,List.setIfInBounds_toArray,List.set_cons_zero,List.set_cons_succ]
    refine wpAnyH_take (i:=18) (v:=undef) A5 kR kR kR A6 (Or.inr ⟨rF,rfl⟩) A7 ?_;try simp only[Act.put,List.setIfInBounds_toArray,List.set_cons_zero,List.set_cons_succ]
    refine wpAnyH_take (i:=19) (v:=undef) A5 kR kR kR A6 (Or.inr ⟨rF,rfl⟩) A7 ?_;try simp only[Act.put,List.setIfInBounds_toArray,List.set_cons_zero,List.set_cons_succ]
    refine wpAnyH_take (i:=20) (v:=undef) A5 kR kR kR A6 (Or.inr ⟨rF,rfl⟩) A7 ?_;try simp only[Act.put,List.setIfInBounds_toArray,List.set_cons_zero,List.set_cons_succ]
    refine wpAnyH_take (i:=21) (v:=undef) A5 kR kR kR A6 (Or.inr ⟨rF,rfl⟩) A7 ?_;try simp only[Act.put,List.setIfInBounds_toArray,List.set_cons_zero,List.set_cons_succ]
    refine wpAnyH_take (i:=22) (v:=undef) A5 kR kR kR A6 (Or.inr ⟨rF,rfl⟩) A7 ?_;try simp only[Act.put,List.setIfInBounds_toArray,List.set_cons_zero,List.set_cons_succ]
    refine wpAnyH_take (i:=23) (v:=?_) A5 kR kR kR A6 (Or.inl ⟨rF,?_⟩) A7 ?_
    rotate_left 1
    ·(intro wS hSw;(try dsimp only at hSw);go_simp;try(with_reducible rfl))
    try simp only[Act.put,List.setIfInBounds_toArray,List.set_cons_zero,List.set_cons_succ]
    refine wpAnyH_take (i:=24) (v:=?_) A5 kR kR kR A6 (Or.inl ⟨rF,?_⟩) A7 ?_
    rotate_left 1
    ·(intro wS hSw;(try dsimp only at hSw);go_simp;try(with_reducible rfl))
    try simp only[Act.put,List.setIfInBounds_toArray,List.set_cons_zero,List.set_cons_succ]
    refine wpAnyH_done kR ?_ _;clear j0 j1 j2 hw y1;have HTZ:Hid (TW w v0 v1 v2 v3 (w.heap.size+1) 37 D A Q E nn bt wz):=HT0.out.next HBZ.out;go_wp2_with(go_at_call 53;(with_reducible refine(HRD.out _).mono ?_);rintro e w5 ⟨u,rfl,hou,hb5⟩;obtain⟨pu,qu,rfl⟩:=Ax hou;have HOU:Hid (w5.ownsRow wz.heap.size 3 1 (.slice pu R.length qu) R.length (Bf R)):=hou;have HB5:Hid (Below wz.heap.size wz w5):=hb5;clear hou hb5)
    go_loopw [11] (fun kv wr=>∃k:Nat,k<=R.length/\kv=.int .i64 (k:Int)/\wr=w5/\∀x∈R.take k,x.toNat∈S) (fun kv _=>R.length-(intOf kv).toNat)
    case atStart=>exact⟨0,gI _,rfl,rfl,fun x hx=>by simp at hx⟩
    case round=>
     obtain⟨k,hk,rfl,rfl,hin⟩:=hrel;clear c0 c1 c2 c3 i0 i1 i2 i3 i4 i5 i6;obtain⟨hbq,c0,c1,c2,c3,i0,i1,i2,i3,i4,i5,i6⟩:=HTZ.next HB5.out;by_cases hlt:k<R.length
     .have hx:=HRP1.out R[k] (gD hlt);obtain⟨d,hd⟩:∃d:Nat,R[k]=(d:Int):=⟨R[k].toNat,oM⟩
      obtain⟨gs,rfl,hcs⟩:=HSET.out d oM;have hcs':=kc hbq hcs;obtain⟨gu,cu,eu,-⟩:=HOU.form oM;simp only[Value.slice.injEq]at eu;obtain⟨rfl,-,rfl⟩:=eu;have hcu:wr.cell? ⟨gu,k,none⟩=some (.int .i64 (d:Int)):=by rw[HOU.cellAt k oM];simp[Bf,hlt,hd]
      have HMEM:Hid (R[k]=(d:Int)):=hd;have HIN:Hid (∀x∈R.take k,x.toNat∈S):=hin;have t0:(0:Int)<=(k:Int):=oM;have t1:(k:Int)<(R.length:Int):=oM;have t2:(0:Int)<=(d:Int):=oM;have t3:(d:Int)<(M:Int):=oM;have wk:IntKind.i64.wrap ((k:Int)+1)=((k+1:Nat):Int):=by rw[IntKind.wrap_i64];omega
      clear hx hd hin hcs hk;cases hX:decide (d∈S)
      .rw[hX]at hcs';have hall:(R.all fun n=>decide (n.toNat∈S))=false:=by
        rw[List.all_eq_false];exact⟨R[k],gD hlt,by rw[HMEM.out,Int.toNat_natCast,hX];decide⟩
       have HQF:Hid (false=RES):=by show _=_;have:=HR2.out;rw[hall,Bool.false_and]at this;exact this
       clear hX hall;go_wp2;go_ret;exact⟨A9 HQF.out,hbq⟩
      .rw[hX]at hcs';have HX:Hid (d∈S):=by show d∈S;exact of_decide_eq_true hX
       clear hX;go_wp2;go_roundw
       case rel=>
        refine⟨k+1,oM,gN,fT,fun x hx=>?_⟩;rw[List.take_succ_eq_append_getElem hlt,List.mem_append]at hx;rcases hx with hx|hx
        .exact HIN.out x hx
        .simp only[List.mem_singleton]at hx;rw[hx,HMEM.out,Int.toNat_natCast];exact HX.out
       case measure=>simp[intOf];omega
     .have hkk:k=R.length:=oM;have hall:(R.all fun n=>decide (n.toNat∈S))=true:=by
       rw[List.all_eq_true];intro x hx;rw[hkk,List.take_length]at hin;simpa using hin x hx
      have h9:=HR2.out;rw[hall,Bool.true_and]at h9;have HTS:Hid _:=h9;clear h9;have t1:¬ (k:Int)<(R.length:Int):=oM;clear hall hin hk hlt;have HQ:Hid (true=RES):=by show _=_;have:=HTS.out;simpa using this
      go_wp2;go_ret;exact⟨A9 HQ.out,hbq⟩
   .have h7':(op != 37)=true:=by simpa using h7
    have h7b:(op==37)=false:=by simpa using h7
    rw[h7',Bool.true_and]at hRES;cases hVV:(V != par)
    .rw[hVV,Bool.not_false,Bool.true_and]at hRES;have HR2:Hid (((R.all fun n=>decide (n.toNat∈S))&&(if op=34\/op=36 then decide (n<64)else if op=35 then decide (0<n)&& !true else if op=37 then true else true))=RES):=hRES;clear hRES;have hVb:(V==par)=true:=by simpa using hVV
     go_enter func35,ntmps35;go_wp2;refine rG (fun v=>v.cell? ⟨g,m*3+1,none⟩=some (.int .i64 par)/\v.cell? ⟨w.heap.size,0,none⟩=some v0/\v.cell? ⟨w.heap.size,1,none⟩=some v1/\v.cell? ⟨w.heap.size,2,none⟩=some v2/\v.cell? ⟨w.heap.size,3,none⟩=some v3/\v.cell? ⟨w.heap.size+1,0,none⟩=some (.int .i64 op)/\v.cell? ⟨w.heap.size+1,1,none⟩=some (.int .i64 D)/\v.cell? ⟨w.heap.size+1,2,none⟩=some (.int .i64 A)/\v.cell? ⟨w.heap.size+1,3,none⟩=some (.int .i64 Q)/\v.cell? ⟨w.heap.size+1,4,none⟩=some (.int .i64 E)/\v.cell? ⟨w.heap.size+1,5,none⟩=some (.int .i64 nn)/\v.cell? ⟨w.heap.size+1,6,none⟩=some (.int .u32 bt)) fun hJ=>?_;refine wpAnyH_take (i:=0) (v:=?_) A5 kR kR kR A6 (Or.inl ⟨rF,?_⟩) A7 ?_
     rotate_left 1
     ·(intro wS hSw;(try dsimp only at hSw);go_simp;try(with_reducible rfl))
     try simp only[Act.put,List.setIfInBounds_toArray,List.set_cons_zero,List.set_cons_succ]
     refine wpAnyH_take (i:=1) (v:=?_) A5 kR kR kR A6 (Or.inl ⟨rF,?_⟩) A7 ?_
     rotate_left 1
     ·(intro wS hSw;(try dsimp only at hSw);go_simp;try(with_reducible rfl))
     try simp only[Act.put,List.setIfInBounds_toArray,List.set_cons_zero,List.set_cons_succ]
     clear hJ;refine AO 2 fun K hK=>?_;go_simp;(go_at_call 51;(with_reducible refine(HFIT.out _ (bel HT0.out.bel (Aa _))).mono ?_);rintro e w1 ⟨rfl,hb1⟩;have HB1:Hid (Below ((w.alloc (.cells #[v0,v1,v2,v3] 27)).alloc (.cells #[.int .i64 op,.int .i64 D,.int .i64 A,.int .i64 Q,.int .i64 E,.int .i64 nn,.int .u32 bt] 53)).heap.size ((w.alloc (.cells #[v0,v1,v2,v3] 27)).alloc (.cells #[.int .i64 op,.int .i64 D,.int .i64 A,.int .i64 Q,.int .i64 E,.int .i64 nn,.int .u32 bt] 53)) w1):=bel (Aa _) hb1;clear hb1;obtain⟨-,c0,c1,c2,c3,i0,i1,i2,i3,i4,i5,i6⟩:=HT0.out.next HB1.out;have y1:=kc (bel HT0.out.bel HB1.out) z1);try(go_wp2_with fail)
     refine AP hK fun hJ=>?_;clear hK K;refine wpAnyH_take (i:=3) (v:=?_) A5 kR kR kR A6 (Or.inl ⟨rF,?_⟩) A7 ?_
     rotate_left 1
     ·(intro wS hSw;(try dsimp only at hSw);go_simp;try(with_reducible rfl))
     try simp only[Act.put,List.setIfInBounds_toArray,List.set_cons_zero,List.set_cons_succ]
     refine wpAnyH_take (i:=4) (v:=?_) A5 kR kR kR A6 (Or.inl ⟨rF,?_⟩) A7 ?_
     rotate_left 1
     ·(intro wS hSw;(try dsimp only at hSw);go_simp;try(with_reducible rfl))
     try simp only[Act.put,List.setIfInBounds_toArray,List.set_cons_zero,List.set_cons_succ]
     refine wpAnyH_take (i:=5) (v:=?_) A5 kR kR kR A6 (Or.inl ⟨rF,?_⟩) A7 ?_
     rotate_left 1
     ·(intro wS hSw;(try dsimp only at hSw);go_simp;try(with_reducible rfl))
     try simp only[Act.put,List.setIfInBounds_toArray,List.set_cons_zero,List.set_cons_succ]
     refine wpAnyH_take (i:=6) (v:=?_) A5 kR kR kR A6 (Or.inl ⟨rF,?_⟩) A7 ?_
     rotate_left 1
     ·(intro wS hSw;(try dsimp only at hSw);go_simp;try(with_reducible rfl))
     try simp only[Act.put,List.setIfInBounds_toArray,List.set_cons_zero,List.set_cons_succ]
     refine wpAnyH_take (i:=7) (v:=?_) A5 kR kR kR A6 (Or.inl ⟨rF,?_⟩) A7 ?_
     rotate_left 1
     ·(intro wS hSw;(try dsimp only at hSw);go_simp;try(with_reducible rfl))
     try simp only[Act.put,List.setIfInBounds_toArray,List.set_cons_zero,List.set_cons_succ]
     refine wpAnyH_take (i:=8) (v:=?_) A5 kR kR kR A6 (Or.inl ⟨rF,?_⟩) A7 ?_
     rotate_left 1
     ·(intro wS hSw;(try dsimp only at hSw);go_simp;try(with_reducible rfl))
     try simp only[Act.put,List.setIfInBounds_toArray,List.set_cons_zero,List.set_cons_succ]
     refine wpAnyH_take (i:=9) (v:=?_) A5 kR kR kR A6 (Or.inl ⟨rF,?_⟩) A7 ?_
     rotate_left 1
     ·(intro wS hSw;(try dsimp only at hSw);go_simp;try(with_reducible rfl))
     try simp only[Act.put,List.setIfInBounds_toArray,List.set_cons_zero,List.set_cons_succ]
     refine wpAnyH_take (i:=10) (v:=?_) A5 kR kR kR A6 (Or.inl ⟨rF,?_⟩) A7 ?_
     rotate_left 1
     ·(intro wS hSw;(try dsimp only at hSw);go_simp;try(with_reducible rfl))
     try simp only[Act.put,List.setIfInBounds_toArray,List.set_cons_zero,List.set_cons_succ]
     refine wpAnyH_take (i:=11) (v:=?_) A5 kR kR kR A6 (Or.inl ⟨rF,?_⟩) A7 ?_
     rotate_left 1
     ·(intro wS hSw;(try dsimp only at hSw);go_simp;try(with_reducible rfl))
     try simp only[Act.put,List.setIfInBounds_toArray,List.set_cons_zero,List.set_cons_succ]
     refine wpAnyH_take (i:=12) (v:=?_) A5 kR kR kR A6 (Or.inl ⟨rF,?_⟩) A7 ?_
     rotate_left 1
     ·(intro wS hSw;(try dsimp only at hSw);go_simp;try(with_reducible rfl))
     try simp only[Act.put,List.setIfInBounds_toArray,List.set_cons_zero,List.set_cons_succ]
     refine wpAnyH_take (i:=13) (v:=?_) A5 kR kR kR A6 (Or.inl ⟨rF,?_⟩) A7 ?_
     rotate_left 1
     ·(intro wS hSw;(try dsimp only at hSw);go_simp;try(with_reducible rfl))
     try simp only[Act.put,List.setIfInBounds_toArray,List.set_cons_zero,List.set_cons_succ]
     refine wpAnyH_take (i:=15) (v:=?_) A5 kR kR kR A6 (Or.inl ⟨rF,?_⟩) A7 ?_
     rotate_left 1
     ·(intro wS hSw;(try dsimp only at hSw);go_simp;try(with_reducible rfl))
     try simp only[Act.put,List.setIfInBounds_toArray,List.set_cons_zero,List.set_cons_succ]
     refine wpAnyH_take (i:=16) (v:=?_) A5 kR kR kR A6 (Or.inl ⟨rF,?_⟩) A7 ?_
     rotate_left 1
     ·(intro wS hSw;(try dsimp only at hSw);go_simp;try(with_reducible rfl))
     try simp only[Act.put,List.setIfInBounds_toArray,List.set_cons_zero,List.set_cons_succ]
     refine wpAnyH_take (i:=17) (v:=?_) A5 kR kR kR A6 (Or.inl ⟨rF,?_⟩) A7 ?_
     rotate_left 1
     ·(intro wS hSw;(try dsimp only at hSw);go_simp;try(with_reducible rfl))
     try simp only[Act.put,List.setIfInBounds_toArray,List.set_cons_zero,List.set_cons_succ]
     refine wpAnyH_take (i:=18) (v:=?_) A5 kR kR kR A6 (Or.inl ⟨rF,?_⟩) A7 ?_
     rotate_left 1
     ·(intro wS hSw;(try dsimp only at hSw);go_simp;try(with_reducible rfl))
     try simp only[Act.put,List.setIfInBounds_toArray,List.set_cons_zero,List.set_cons_succ]
     refine wpAnyH_take (i:=19) (v:=?_) A5 kR kR kR A6 (Or.inl ⟨rF,?_⟩) A7 ?_
     rotate_left 1
     ·(intro wS hSw;(try dsimp only at hSw);go_simp;try(with_reducible rfl))
     try simp only[Act.put,List.setIfInBounds_toArray,List.set_cons_zero,List.set_cons_succ]
     refine wpAnyH_take (i:=20) (v:=?_) A5 kR kR kR A6 (Or.inl ⟨rF,?_⟩) A7 ?_
     rotate_left 1
     ·(intro wS hSw;(try dsimp only at hSw);go_simp;try(with_reducible rfl))
     try simp only[Act.put,List.setIfInBounds_toArray,List.set_cons_zero,List.set_cons_succ]
     refine wpAnyH_take (i:=21) (v:=?_) A5 kR kR kR A6 (Or.inl ⟨rF,?_⟩) A7 ?_
     rotate_left 1
     ·(intro wS hSw;(try dsimp only at hSw);go_simp;try(with_reducible rfl))
     try simp only[Act.put,List.setIfInBounds_toArray,List.set_cons_zero,List.set_cons_succ]
     clear hJ;refine AO 14 fun K hK=>?_;go_simp;(go_at_call 52;(with_reducible refine(HVEC.out _ (bel HT0.out.bel HB1.out)).mono ?_);rintro e wz ⟨rfl,hbz⟩;have HBZ:Hid (Below ((w.alloc (.cells #[v0,v1,v2,v3] 27)).alloc (.cells #[.int .i64 op,.int .i64 D,.int .i64 A,.int .i64 Q,.int .i64 E,.int .i64 nn,.int .u32 bt] 53)).heap.size ((w.alloc (.cells #[v0,v1,v2,v3] 27)).alloc (.cells #[.int .i64 op,.int .i64 D,.int .i64 A,.int .i64 Q,.int .i64 E,.int .i64 nn,.int .u32 bt] 53)) wz):=bel HB1.out hbz;clear hbz c0 c1 c2 c3 i0 i1 i2 i3 i4 i5 i6 y1;obtain⟨-,c0,c1,c2,c3,i0,i1,i2,i3,i4,i5,i6⟩:=HT0.out.next HBZ.out;have y1:=kc (bel HT0.out.bel HBZ.out) z1);try(go_wp2_with fail)
     refine AP hK fun hJ=>?_;clear hK K;refine wpAnyH_take (i:=22) (v:=?_) A5 kR kR kR A6 (Or.inl ⟨rF,?_⟩) A7 ?_
     rotate_left 1
     ·(intro wS hSw;(try dsimp only at hSw);go_simp;try(with_reducible rfl))
     try simp only[Act.put,List.setIfInBounds_toArray,List.set_cons_zero,List.set_cons_succ]
     refine wpAnyH_take (i:=23) (v:=?_) A5 kR kR kR A6 (Or.inl ⟨rF,?_⟩) A7 ?_
     rotate_left 1
     ·(intro wS hSw;(try dsimp only at hSw);go_simp;try(with_reducible rfl))
     try simp only[Act.put,List.setIfInBounds_toArray,List.set_cons_zero,List.set_cons_succ]
     refine wpAnyH_take (i:=24) (v:=?_) A5 kR kR kR A6 (Or.inl ⟨rF,?_⟩) A7 ?_
     rotate_left 1
     ·(intro wS hSw;(try dsimp only at hSw);go_simp;try(with_reducible rfl))
     try simp only[Act.put,List.setIfInBounds_toArray,List.set_cons_zero,List.set_cons_succ]
     refine wpAnyH_done kR ?_ _;clear j0 j1 j2 hw y1 h7' h7b;exact Kw
    .rw[hVV,Bool.not_true,Bool.false_and]at hRES;have HQF:Hid (false=RES):=hRES;clear hRES;have hVb:(V==par)=false:=by simpa using hVV
     go_enter func35,ntmps35;go_wp2;refine rG (fun v=>v.cell? ⟨g,m*3+1,none⟩=some (.int .i64 par)/\v.cell? ⟨w.heap.size,0,none⟩=some v0/\v.cell? ⟨w.heap.size,1,none⟩=some v1/\v.cell? ⟨w.heap.size,2,none⟩=some v2/\v.cell? ⟨w.heap.size,3,none⟩=some v3/\v.cell? ⟨w.heap.size+1,0,none⟩=some (.int .i64 op)/\v.cell? ⟨w.heap.size+1,1,none⟩=some (.int .i64 D)/\v.cell? ⟨w.heap.size+1,2,none⟩=some (.int .i64 A)/\v.cell? ⟨w.heap.size+1,3,none⟩=some (.int .i64 Q)/\v.cell? ⟨w.heap.size+1,4,none⟩=some (.int .i64 E)/\v.cell? ⟨w.heap.size+1,5,none⟩=some (.int .i64 nn)/\v.cell? ⟨w.heap.size+1,6,none⟩=some (.int .u32 bt)) fun hJ=>?_;refine wpAnyH_take (i:=0) (v:=?_) A5 kR kR kR A6 (Or.inl ⟨rF,?_⟩) A7 ?_
     rotate_left 1
     ·(intro wS hSw;(try dsimp only at hSw);go_simp;try(with_reducible rfl))
     try simp only[Act.put,List.setIfInBounds_toArray,List.set_cons_zero,List.set_cons_succ]
     refine wpAnyH_take (i:=1) (v:=?_) A5 kR kR kR A6 (Or.inl ⟨rF,?_⟩) A7 ?_
     rotate_left 1
     ·(intro wS hSw;(try dsimp only at hSw);go_simp;try(with_reducible rfl))
     try simp only[Act.put,List.setIfInBounds_toArray,List.set_cons_zero,List.set_cons_succ]
     clear hJ;refine AO 2 fun K hK=>?_;go_simp;(go_at_call 51;(with_reducible refine(HFIT.out _ (bel HT0.out.bel (Aa _))).mono ?_);rintro e w1 ⟨rfl,hb1⟩;have HB1:Hid (Below ((w.alloc (.cells #[v0,v1,v2,v3] 27)).alloc (.cells #[.int .i64 op,.int .i64 D,.int .i64 A,.int .i64 Q,.int .i64 E,.int .i64 nn,.int .u32 bt] 53)).heap.size ((w.alloc (.cells #[v0,v1,v2,v3] 27)).alloc (.cells #[.int .i64 op,.int .i64 D,.int .i64 A,.int .i64 Q,.int .i64 E,.int .i64 nn,.int .u32 bt] 53)) w1):=bel (Aa _) hb1;clear hb1;obtain⟨-,c0,c1,c2,c3,i0,i1,i2,i3,i4,i5,i6⟩:=HT0.out.next HB1.out;have y1:=kc (bel HT0.out.bel HB1.out) z1);try(go_wp2_with fail)
     refine AP hK fun hJ=>?_;clear hK K;refine wpAnyH_take (i:=3) (v:=?_) A5 kR kR kR A6 (Or.inl ⟨rF,?_⟩) A7 ?_
     rotate_left 1
     ·(intro wS hSw;(try dsimp only at hSw);go_simp;try(with_reducible rfl))
     try simp only[Act.put,List.setIfInBounds_toArray,List.set_cons_zero,List.set_cons_succ]
     refine wpAnyH_take (i:=4) (v:=?_) A5 kR kR kR A6 (Or.inl ⟨rF,?_⟩) A7 ?_
     rotate_left 1
     ·(intro wS hSw;(try dsimp only at hSw);go_simp;try(with_reducible rfl))
     try simp only[Act.put,List.setIfInBounds_toArray,List.set_cons_zero,List.set_cons_succ]
     refine wpAnyH_take (i:=5) (v:=?_) A5 kR kR kR A6 (Or.inl ⟨rF,?_⟩) A7 ?_
     rotate_left 1
     ·(intro wS hSw;(try dsimp only at hSw);go_simp;try(with_reducible rfl))
     try simp only[Act.put,List.setIfInBounds_toArray,List.set_cons_zero,List.set_cons_succ]
     refine wpAnyH_take (i:=6) (v:=?_) A5 kR kR kR A6 (Or.inl ⟨rF,?_⟩) A7 ?_
     rotate_left 1
     ·(intro wS hSw;(try dsimp only at hSw);go_simp;try(with_reducible rfl))
     try simp only[Act.put,List.setIfInBounds_toArray,List.set_cons_zero,List.set_cons_succ]
     refine wpAnyH_take (i:=7) (v:=?_) A5 kR kR kR A6 (Or.inl ⟨rF,?_⟩) A7 ?_
     rotate_left 1
     ·(intro wS hSw;(try dsimp only at hSw);go_simp;try(with_reducible rfl))
     try simp only[Act.put,List.setIfInBounds_toArray,List.set_cons_zero,List.set_cons_succ]
     refine wpAnyH_take (i:=8) (v:=?_) A5 kR kR kR A6 (Or.inl ⟨rF,?_⟩) A7 ?_
     rotate_left 1
     ·(intro wS hSw;(try dsimp only at hSw);go_simp;try(with_reducible rfl))
     try simp only[Act.put,List.setIfInBounds_toArray,List.set_cons_zero,List.set_cons_succ]
     refine wpAnyH_take (i:=9) (v:=?_) A5 kR kR kR A6 (Or.inl ⟨rF,?_⟩) A7 ?_
     rotate_left 1
     ·(intro wS hSw;(try dsimp only at hSw);go_simp;try(with_reducible rfl))
     try simp only[Act.put,List.setIfInBounds_toArray,List.set_cons_zero,List.set_cons_succ]
     refine wpAnyH_take (i:=10) (v:=?_) A5 kR kR kR A6 (Or.inl ⟨rF,?_⟩) A7 ?_
     rotate_left 1
     ·(intro wS hSw;(try dsimp only at hSw);go_simp;try(with_reducible rfl))
     try simp only[Act.put,List.setIfInBounds_toArray,List.set_cons_zero,List.set_cons_succ]
     refine wpAnyH_take (i:=11) (v:=?_) A5 kR kR kR A6 (Or.inl ⟨rF,?_⟩) A7 ?_
     rotate_left 1
     ·(intro wS hSw;(try dsimp only at hSw);go_simp;try(with_reducible rfl))
     try simp only[Act.put,List.setIfInBounds_toArray,List.set_cons_zero,List.set_cons_succ]
     refine wpAnyH_take (i:=12) (v:=?_) A5 kR kR kR A6 (Or.inl ⟨rF,?_⟩) A7 ?_
     rotate_left 1
     ·(intro wS hSw;(try dsimp only at hSw);go_simp;try(with_reducible rfl))
     try simp only[Act.put,List.setIfInBounds_toArray,List.set_cons_zero,List.set_cons_succ]
     refine wpAnyH_take (i:=13) (v:=?_) A5 kR kR kR A6 (Or.inl ⟨rF,?_⟩) A7 ?_
     rotate_left 1
     ·(intro wS hSw;(try dsimp only at hSw);go_simp;try(with_reducible rfl))
     try simp only[Act.put,List.setIfInBounds_toArray,List.set_cons_zero,List.set_cons_succ]
     refine wpAnyH_take (i:=15) (v:=?_) A5 kR kR kR A6 (Or.inl ⟨rF,?_⟩) A7 ?_
     rotate_left 1
     ·(intro wS hSw;(try dsimp only at hSw);go_simp;try(with_reducible rfl))
     try simp only[Act.put,List.setIfInBounds_toArray,List.set_cons_zero,List.set_cons_succ]
     refine wpAnyH_take (i:=16) (v:=?_) A5 kR kR kR A6 (Or.inl ⟨rF,?_⟩) A7 ?_
     rotate_left 1
     ·(intro wS hSw;(try dsimp only at hSw);go_simp;try(with_reducible rfl))
     try simp only[Act.put,List.setIfInBounds_toArray,List.set_cons_zero,List.set_cons_succ]
     refine wpAnyH_take (i:=17) (v:=?_) A5 kR kR kR A6 (Or.inl ⟨rF,?_⟩) A7 ?_
     rotate_left 1
     ·(intro wS hSw;(try dsimp only at hSw);go_simp;try(with_reducible rfl))
     try simp only[Act.put,List.setIfInBounds_toArray,List.set_cons_zero,List.set_cons_succ]
     refine wpAnyH_take (i:=18) (v:=?_) A5 kR kR kR A6 (Or.inl ⟨rF,?_⟩) A7 ?_
     rotate_left 1
     ·(intro wS hSw;(try dsimp only at hSw);go_simp;try(with_reducible rfl))
     try simp only[Act.put,List.setIfInBounds_toArray,List.set_cons_zero,List.set_cons_succ]
     refine wpAnyH_take (i:=19) (v:=?_) A5 kR kR kR A6 (Or.inl ⟨rF,?_⟩) A7 ?_
     rotate_left 1
     ·(intro wS hSw;(try dsimp only at hSw);go_simp;try(with_reducible rfl))
     try simp only[Act.put,List.setIfInBounds_toArray,List.set_cons_zero,List.set_cons_succ]
     refine wpAnyH_take (i:=20) (v:=?_) A5 kR kR kR A6 (Or.inl ⟨rF,?_⟩) A7 ?_
     rotate_left 1
     ·(intro wS hSw;(try dsimp only at hSw);go_simp;try(with_reducible rfl))
     try simp only[Act.put,List.setIfInBounds_toArray,List.set_cons_zero,List.set_cons_succ]
     refine wpAnyH_take (i:=21) (v:=?_) A5 kR kR kR A6 (Or.inl ⟨rF,?_⟩) A7 ?_
     rotate_left 1
     ·(intro wS hSw;(try dsimp only at hSw);go_simp;try(with_reducible rfl))
     try simp only[Act.put,List.setIfInBounds_toArray,List.set_cons_zero,List.set_cons_succ]
     clear hJ;refine AO 14 fun K hK=>?_;go_simp;(go_at_call 52;(with_reducible refine(HVEC.out _ (bel HT0.out.bel HB1.out)).mono ?_);rintro e wz ⟨rfl,hbz⟩;have HBZ:Hid (Below ((w.alloc (.cells #[v0,v1,v2,v3] 27)).alloc (.cells #[.int .i64 op,.int .i64 D,.int .i64 A,.int .i64 Q,.int .i64 E,.int .i64 nn,.int .u32 bt] 53)).heap.size ((w.alloc (.cells #[v0,v1,v2,v3] 27)).alloc (.cells #[.int .i64 op,.int .i64 D,.int .i64 A,.int .i64 Q,.int .i64 E,.int .i64 nn,.int .u32 bt] 53)) wz):=bel HB1.out hbz;clear hbz c0 c1 c2 c3 i0 i1 i2 i3 i4 i5 i6 y1;obtain⟨-,c0,c1,c2,c3,i0,i1,i2,i3,i4,i5,i6⟩:=HT0.out.next HBZ.out;have y1:=kc (bel HT0.out.bel HBZ.out) z1);try(go_wp2_with fail)
     refine AP hK fun hJ=>?_;clear hK K;refine wpAnyH_take (i:=22) (v:=?_) A5 kR kR kR A6 (Or.inl ⟨rF,?_⟩) A7 ?_
     rotate_left 1
     ·(intro wS hSw;(try dsimp only at hSw);go_simp;try(with_reducible rfl))
     try simp only[Act.put,List.setIfInBounds_toArray,List.set_cons_zero,List.set_cons_succ]
     refine wpAnyH_take (i:=23) (v:=?_) A5 kR kR kR A6 (Or.inl ⟨rF,?_⟩) A7 ?_
     rotate_left 1
     ·(intro wS hSw;(try dsimp only at hSw);go_simp;try(with_reducible rfl))
     try simp only[Act.put,List.setIfInBounds_toArray,List.set_cons_zero,List.set_cons_succ]
     refine wpAnyH_take (i:=24) (v:=?_) A5 kR kR kR A6 (Or.inl ⟨rF,?_⟩) A7 ?_
     rotate_left 1
     ·(intro wS hSw;(try dsimp only at hSw);go_simp;try(with_reducible rfl))
     try simp only[Act.put,List.setIfInBounds_toArray,List.set_cons_zero,List.set_cons_succ]
     refine wpAnyH_done kR ?_ _;go_wp2;go_ret;exact⟨A9 HQF.out,bel hb00 HBZ.out⟩
structure CX(w:World)(v0 v1 v2 v3:Value)(v:World):Prop where
 bel:Below w.heap.size w v
 lt:w.heap.size<v.heap.size
 c0:v.cell? ⟨w.heap.size,0,none⟩=some v0
 c1:v.cell? ⟨w.heap.size,1,none⟩=some v1
 c2:v.cell? ⟨w.heap.size,2,none⟩=some v2
 c3:v.cell? ⟨w.heap.size,3,none⟩=some v3
theorem CX.next{w:World}{v0 v1 v2 v3:Value}{v v':World}(h:CX w v0 v1 v2 v3 v)(k:Below v.heap.size v v'):CX w v0 v1 v2 v3 v':=
 ⟨Go.Proofs.Ytjglaibglofddaa.bel h.bel k,Nat.lt_of_lt_of_le h.lt k.size,kc k h.c0,kc k h.c1,kc k h.c2,kc k h.c3⟩
theorem CX.on{w:World}{v0 v1 v2 v3:Value}{v v':World}(h:CX w v0 v1 v2 v3 v)(k:Below (w.heap.size+1) v v'):CX w v0 v1 v2 v3 v':=
 have f:∀j,v'.cell? ⟨w.heap.size,j,none⟩=v.cell? ⟨w.heap.size,j,none⟩:=fun j=>k.cell (Nat.lt_succ_self _)
 ⟨h.bel.trans (k.mono (Nat.le_succ _)),Nat.lt_of_lt_of_le h.lt k.size,(f 0).trans h.c0,(f 1).trans h.c1,(f 2).trans h.c2,(f 3).trans h.c3⟩
theorem CX.start(w:World)(v0 v1 v2 v3:Value):CX w v0 v1 v2 v3 (w.alloc (.cells #[v0,v1,v2,v3] 27)):=
 ⟨A0 _ _,sM,sG,sG,sG,sG⟩
theorem Ef{α:Type}(p:α->Bool){l:List α}{k:Nat}(h:k<l.length)(ht:(l.take k).all p=true)(hp:p l[k]=true):(l.take (k+1)).all p=true:=by
 rw[List.take_succ_eq_append_getElem h,List.all_append,ht];simp[hp]
theorem Fv{α:Type}(p:α->Bool){l:List α}{k:Nat}(h:k<l.length)(hp:p l[k]=false):l.all p=false:=by
 rw[List.all_eq_false];exact⟨l[k],gD h,by simp[hp]⟩
theorem BO(v0 v1 v2 v3:Value)(c:Cd)(hk:AN c)(w:World)(hv:BU w v0 v1 v2 v3 c)(E:Int)(hE:(At c.sign≠0/\E=At c.sign)\/(At c.sign=0/\(16384<c.regs.length\/32768<c.list.length)/\E=181)\/(At c.sign=0/\¬16384<c.regs.length/\¬32768<c.list.length/\4096<c.slots.length/\E=180)):
 Calls prog 23 #[.agg #[v0,v1,v2,v3]] w fun e w'=>e=.returned (.tuple #[.int .i64 E,.int .i64 (-1)])/\Below w.heap.size w w':=by
 have hSG:∀v,Below w.heap.size w v->Calls prog 32 #[v0] v fun e w'=>e=.returned (.int .i64 (At c.sign))/\Below v.heap.size v w':=fun v hb=>Dq v0 c.sign hk.signL hk.names v (hv.below hb).sign.rd;have l1:=hk.regsL;have l2:=hk.slotsL;have l3:=hk.listL;obtain⟨p0,q0,rfl,-⟩:=id hv.sign;obtain⟨p1,q1,rfl,-⟩:=id hv.regs;obtain⟨p2,q2,rfl,-⟩:=id hv.slots;obtain⟨p3,q3,rfl,-⟩:=id hv.list;obtain⟨n0,hn0⟩:∃n,c.sign.length=n:=⟨_,rfl⟩
 obtain⟨n1,hn1⟩:∃n,c.regs.length=n:=⟨_,rfl⟩
 obtain⟨n2,hn2⟩:∃n,c.slots.length=n:=⟨_,rfl⟩
 obtain⟨n3,hn3⟩:∃n,c.list.length=n:=⟨_,rfl⟩
 obtain⟨K,hK⟩:∃n,At c.sign=n:=⟨_,rfl⟩
 rw[hn0,hK]at hSG;rw[hK,hn1,hn2,hn3]at hE;rw[hn1]at l1;rw[hn2]at l2;rw[hn3]at l3;rw[hn0,hn1,hn2,hn3];have HSG:Hid _:=hSG;clear hSG hn0 hn1 hn2 hn3 hK hv hk;rcases hE with⟨h1,rfl⟩|⟨rfl,h2,rfl⟩|⟨rfl,h2,h3,h4,rfl⟩
 .have h1':(E==0)=false:=by simpa using h1
  have h1'':(E != 0)=true:=by simpa using h1
  exact Ka
 .by_cases h5:16384<n1
  .have h6:(16384:Int)<(n1:Int):=oM;exact Ka
  .have h6:(n1:Int)<=16384:=oM;have h7:(32768:Int)<(n3:Int):=oM;clear h5;exact Ka
 .have h6:(n1:Int)<=16384:=oM;have h7:(n3:Int)<=32768:=oM;have h8:(4096:Int)<(n2:Int):=oM;exact Ka
theorem CB{w:World}{B:Nat}{t t':TypeId}{k n n' b:Nat}{v:Value}{xs:List Value}{f:Nat->Value}(h:w.ownsRow B t k v n xs)(h':w.rowIs b t' n' f)(ht:t≠t'):v.ownBlock≠some b:=by
 intro hb;rcases h.2 with⟨rfl,_⟩|⟨g,cap,cur,rfl,_,hg,_⟩
 .exact absurd (show(none:Option Nat)=some b from hb) sM
 obtain⟨c,hc,-⟩:=h';have e1:g=b:=Option.some.inj hb;rw[e1,hc]at hg;simp only[Option.some.injEq,Obj.cells.injEq]at hg;exact ht hg.2.1.symm
theorem L6{V:World}{C:Nat}{t:TypeId}{v0 v1 v2 v3:Value}(rc:V.rowIs C t 4 (f4 v0 v1 v2 v3))(v:Value):(V.setCell ⟨C,2,none⟩ v).rowIs C t 4 (f4 v0 v1 v v3)/\Bi C V (V.setCell ⟨C,2,none⟩ v):=by
 refine⟨(rc.set 2 v).congr fun j hj=>?_,Bi.one C 2 V v⟩;exact Kh
theorem L7{V:World}{C:Nat}{t:TypeId}{v0 v1 v2 v3:Value}(rc:V.rowIs C t 4 (f4 v0 v1 v2 v3))(v:Value):(V.setCell ⟨C,3,none⟩ v).rowIs C t 4 (f4 v0 v1 v2 v)/\Bi C V (V.setCell ⟨C,3,none⟩ v):=by
 refine⟨(rc.set 3 v).congr fun j hj=>?_,Bi.one C 3 V v⟩;exact Kh
structure ES(E DB:Nat)(w:World)(c:Cd)(u0 u1 u2 u3:Value):Prop where
 le:E<=DB
 row:w.rowIs DB 27 4 (f4 u0 u1 u2 u3)
 own:Kr E w u0 u1 u2 u3 c
theorem ES.sz{E DB:Nat}{w:World}{c:Cd}{u0 u1 u2 u3:Value}(h:ES E DB w c u0 u1 u2 u3):E<=w.heap.size:=by have:=h.le;have:=h.row.lt;omega
theorem ES.below{E DB:Nat}{w w':World}{c:Cd}{u0 u1 u2 u3:Value}(h:ES E DB w c u0 u1 u2 u3)(k:Below w.heap.size w w'):ES E DB w' c u0 u1 u2 u3:=
 ⟨h.le,h.row.of_block (k.block _ h.row.lt),Aq h.own.sign k,Aq h.own.regs k,Aq h.own.slots k,Aq h.own.list k⟩
theorem AI{w w':World}{B C:Nat}{t t':TypeId}{k n n':Nat}{v:Value}{xs:List Value}{f:Nat->Value}(h:w.ownsRow B t k v n xs)(h':w.rowIs C t' n' f)(ht:t≠t')(p:Bi C w w'):w'.ownsRow B t k v n xs:=
 Al h fun g hg=>p.oth g fun e=>CB h h' ht (e▸hg)
theorem Dn{B:Nat}{V:World}{e t:TypeId}{z:Value}{sz by':Nat}(ht:prog.underlying t=some (.slice e))(hi:(prog.info? e).map (fun i=>(i.zero,i.size,i.bytes))=some (some z,sz,by'))(hzs:z.cells.size=sz)(hsz:0<sz){p:Option Addr}{n q:Nat}{xs:List Value}(h:V.ownsRow B e sz (.slice p n q) n xs)(hB:B<=V.heap.size)
 (m:Nat) (hm:0<m) (cs:Array Value) (hcs:cs.size=m*sz) (h1:∀u∈cs.toList,u.oneCell'=true) (hn:n+m<=maxLen) (hb:(n+m)*by'<=140737488355328) (ty:TypeId):
 ∃g c' w',(Builtin.append_ #[t,t] ty #[.slice p n q,.slice (some ⟨V.heap.size,0,none⟩) m m]).run prog (V.alloc (.cells cs e))=.ok (.slice (some ⟨g,0,none⟩) (n+m) c') w'/\Below B V w'/\w'.ownsRow B e sz (.slice (some ⟨g,0,none⟩) (n+m) c') (n+m) (xs++cs.toList)/\(∀b,b<V.heap.size->(Value.slice p n q).ownBlock≠some b->w'.heap[b]? =V.heap[b]?)/\((Value.slice p n q).ownBlock=some g\/V.heap.size<g):=by
 obtain⟨i0,hi0,hz0,hz1,hz2⟩:=info_parts hi;have hb0:Below V.heap.size V (V.alloc (.cells cs e)):=A0 _ _;have hs:(V.alloc (.cells cs e)).heap.size=V.heap.size+1:=sM;have h0:=Aq h hb0;obtain⟨g,cap,w3,hr,hown,hgrow,hat,hlt⟩:=run_append_lies (P:=prog) (V.alloc (.cells cs e)) t ty B e i0 _ sz by' ht hi0 hz0 hz1 hz2 hzs hsz (.slice p n q) n xs h0 ⟨V.heap.size,0,none⟩ m m cs.toList (by simp[hcs])
  (World.news_of_block (cs:=cs) (t:=e) (fr:=(0,0)) (heap_alloc_new V _)) h1 hm hn hb oM _ rfl
 refine⟨g,cap,w3,hr,(hb0.mono hB).grown hgrow oM (fun q e=>(h0.lt q e).1),hown,fun b hb hne=>?_,?_⟩
 .rw[hgrow.block b oM (Ne.symm hne)];exact hb0.block b hb
 .rcases hat with e|e
  .exact .inl e
  .exact .inr oM
theorem ES.regsM{E DB:Nat}{w:World}{c:Cd}{u0 u1 u2 u3:Value}(h:ES E DB w c u0 u1 u2 u3)(l:List Ty)(h0:0<l.length)(hl:(c.regs.length+l.length)*16<=140737488351232)(ty:TypeId):
 ∃g q w',(Builtin.append_ #[23,23] ty #[u1,.slice (some ⟨w.heap.size,0,none⟩) l.length l.length]).run prog (w.alloc (.cells (AR Gd l).toArray 47))=.ok (.slice (some ⟨g,0,none⟩) (c.regs.length+l.length) q) w'/\w'.rowIs DB 27 4 (f4 u0 u1 u2 u3)/\ES E DB (w'.setCell ⟨DB,1,none⟩ (.slice (some ⟨g,0,none⟩) (c.regs.length+l.length) q)) ⟨c.sign,c.regs++l,c.slots,c.list⟩ u0 (.slice (some ⟨g,0,none⟩) (c.regs.length+l.length) q) u2 u3/\Below E w (w'.setCell ⟨DB,1,none⟩ (.slice (some ⟨g,0,none⟩) (c.regs.length+l.length) q))/\(∀b,b<w.heap.size->b≠DB->u1.ownBlock≠some b->(w'.setCell ⟨DB,1,none⟩ (.slice (some ⟨g,0,none⟩) (c.regs.length+l.length) q)).heap[b]? =w.heap[b]?)/\(u1.ownBlock=some g\/w.heap.size<g):=by
 obtain⟨p,q,rfl⟩:=Ax h.own.regs;have hfl:(AR Gd l).length=l.length*2:=by
  rw[AR,List.length_flatMap,List.map_congr_left (g:=fun _=>2) (fun x _=>Ea x),List.map_const',List.sum_replicate_nat]
 obtain⟨g,c',w',h1,h2,h3,h4,h5⟩:=Dn (t:=23) (e:=47) underlying23 Gq rF dE h.own.regs h.sz l.length h0 (AR Gd l).toArray (by simpa using hfl) (by intro u hu;obtain⟨x,_,hx⟩:=List.mem_flatMap.1 (show u∈List.flatMap Gd l by simpa[AR]using hu);exact Jb x u hx) mL oM ty;have hr:=h.row.of_block (h4 _ h.row.lt (CB h.own.regs h.row dE));have k0:=Al h.own.sign fun b hb=>h4 b (h.own.sign.lt b hb).2 fun e=>AB h.own.sign h.own.regs dE b hb e;have k2:=Al h.own.slots fun b hb=>h4 b (h.own.slots.lt b hb).2 fun e=>AB h.own.slots h.own.regs dE b hb e;have k3:=Al h.own.list fun b hb=>h4 b (h.own.list.lt b hb).2 fun e=>AB h.own.list h.own.regs dE b hb e;have hp:=Jz hr (.slice (some ⟨g,0,none⟩) (c.regs.length+l.length) c');refine⟨g,c',w',h1,hr,⟨h.le,hp.1,AI k0 hr dE hp.2,?_,AI k2 hr dE hp.2,AI k3 hr dE hp.2⟩,h2.trans (hp.2.bel E h.le),fun b hb hd hn=>(hp.2.oth b hd).trans (h4 b hb hn),h5⟩;show World.ownsRow _ _ _ _ _ (c.regs++l).length (AR Gd (c.regs++l));exact KP
theorem ES.slotsM{E DB:Nat}{w:World}{c:Cd}{u0 u1 u2 u3:Value}(h:ES E DB w c u0 u1 u2 u3)(l:List Sl)(h0:0<l.length)(hl:(c.slots.length+l.length)*32<=140737488351232)(ty:TypeId):
 ∃g q w',(Builtin.append_ #[24,24] ty #[u2,.slice (some ⟨w.heap.size,0,none⟩) l.length l.length]).run prog (w.alloc (.cells (AR GJ l).toArray 51))=.ok (.slice (some ⟨g,0,none⟩) (c.slots.length+l.length) q) w'/\w'.rowIs DB 27 4 (f4 u0 u1 u2 u3)/\ES E DB (w'.setCell ⟨DB,2,none⟩ (.slice (some ⟨g,0,none⟩) (c.slots.length+l.length) q)) ⟨c.sign,c.regs,c.slots++l,c.list⟩ u0 u1 (.slice (some ⟨g,0,none⟩) (c.slots.length+l.length) q) u3/\Below E w (w'.setCell ⟨DB,2,none⟩ (.slice (some ⟨g,0,none⟩) (c.slots.length+l.length) q))/\(∀b,b<w.heap.size->b≠DB->u2.ownBlock≠some b->(w'.setCell ⟨DB,2,none⟩ (.slice (some ⟨g,0,none⟩) (c.slots.length+l.length) q)).heap[b]? =w.heap[b]?)/\(u2.ownBlock=some g\/w.heap.size<g):=by
 obtain⟨p,q,rfl⟩:=Ax h.own.slots;have hfl:(AR GJ l).length=l.length*5:=by
  rw[AR,List.length_flatMap,List.map_congr_left (g:=fun _=>5) (fun x _=>G8 x),List.map_const',List.sum_replicate_nat]
 obtain⟨g,c',w',h1,h2,h3,h4,h5⟩:=Dn (t:=24) (e:=51) underlying24 Gp rF dE h.own.slots h.sz l.length h0 (AR GJ l).toArray (by simpa using hfl) (by intro u hu;obtain⟨x,_,hx⟩:=List.mem_flatMap.1 (show u∈List.flatMap GJ l by simpa[AR]using hu);exact J8 x u hx) mL oM ty;have hr:=h.row.of_block (h4 _ h.row.lt (CB h.own.slots h.row dE));have k0:=Al h.own.sign fun b hb=>h4 b (h.own.sign.lt b hb).2 fun e=>AB h.own.sign h.own.slots dE b hb e;have k1:=Al h.own.regs fun b hb=>h4 b (h.own.regs.lt b hb).2 fun e=>AB h.own.regs h.own.slots dE b hb e;have k3:=Al h.own.list fun b hb=>h4 b (h.own.list.lt b hb).2 fun e=>AB h.own.list h.own.slots dE b hb e;have hp:=L6 hr (.slice (some ⟨g,0,none⟩) (c.slots.length+l.length) c');refine⟨g,c',w',h1,hr,⟨h.le,hp.1,AI k0 hr dE hp.2,AI k1 hr dE hp.2,?_,AI k3 hr dE hp.2⟩,h2.trans (hp.2.bel E h.le),fun b hb hd hn=>(hp.2.oth b hd).trans (h4 b hb hn),h5⟩;show World.ownsRow _ _ _ _ _ (c.slots++l).length (AR GJ (c.slots++l));exact KP
theorem ES.listM{E DB:Nat}{w:World}{c:Cd}{u0 u1 u2 u3:Value}(h:ES E DB w c u0 u1 u2 u3)(l:List Ay)(h0:0<l.length)(hl:(c.list.length+l.length)*56<=140737488351232)(ty:TypeId):
 ∃g q w',(Builtin.append_ #[25,25] ty #[u3,.slice (some ⟨w.heap.size,0,none⟩) l.length l.length]).run prog (w.alloc (.cells (AR C1 l).toArray 53))=.ok (.slice (some ⟨g,0,none⟩) (c.list.length+l.length) q) w'/\w'.rowIs DB 27 4 (f4 u0 u1 u2 u3)/\ES E DB (w'.setCell ⟨DB,3,none⟩ (.slice (some ⟨g,0,none⟩) (c.list.length+l.length) q)) ⟨c.sign,c.regs,c.slots,c.list++l⟩ u0 u1 u2 (.slice (some ⟨g,0,none⟩) (c.list.length+l.length) q)/\Below E w (w'.setCell ⟨DB,3,none⟩ (.slice (some ⟨g,0,none⟩) (c.list.length+l.length) q))/\(∀b,b<w.heap.size->b≠DB->u3.ownBlock≠some b->(w'.setCell ⟨DB,3,none⟩ (.slice (some ⟨g,0,none⟩) (c.list.length+l.length) q)).heap[b]? =w.heap[b]?)/\(u3.ownBlock=some g\/w.heap.size<g):=by
 obtain⟨p,q,rfl⟩:=Ax h.own.list;have hfl:(AR C1 l).length=l.length*7:=by
  rw[AR,List.length_flatMap,List.map_congr_left (g:=fun _=>7) (fun x _=>De x),List.map_const',List.sum_replicate_nat]
 obtain⟨g,c',w',h1,h2,h3,h4,h5⟩:=Dn (t:=25) (e:=53) underlying25 Gm rF dE h.own.list h.sz l.length h0 (AR C1 l).toArray (by simpa using hfl) (by intro u hu;obtain⟨x,_,hx⟩:=List.mem_flatMap.1 (show u∈List.flatMap C1 l by simpa[AR]using hu);exact IC x u hx) mL oM ty;have hr:=h.row.of_block (h4 _ h.row.lt (CB h.own.list h.row dE));have k0:=Al h.own.sign fun b hb=>h4 b (h.own.sign.lt b hb).2 fun e=>AB h.own.sign h.own.list dE b hb e;have k1:=Al h.own.regs fun b hb=>h4 b (h.own.regs.lt b hb).2 fun e=>AB h.own.regs h.own.list dE b hb e;have k2:=Al h.own.slots fun b hb=>h4 b (h.own.slots.lt b hb).2 fun e=>AB h.own.slots h.own.list dE b hb e;have hp:=L7 hr (.slice (some ⟨g,0,none⟩) (c.list.length+l.length) c');refine⟨g,c',w',h1,hr,⟨h.le,hp.1,AI k0 hr dE hp.2,AI k1 hr dE hp.2,AI k2 hr dE hp.2,?_⟩,h2.trans (hp.2.bel E h.le),fun b hb hd hn=>(hp.2.oth b hd).trans (h4 b hb hn),h5⟩;show World.ownsRow _ _ _ _ _ (c.list++l).length (AR C1 (c.list++l));exact KP
end Go.Proofs.Ytjglaibglofddaa
