import Derived.Test.YtheanilpbnencaaGre12
import Derived.Test.YtheanilpbnencaaGre13
import Derived.Test.YtheanilpbnencaaGre2
import Derived.Test.YtheanilpbnencaaGre1
namespace Go.Proofs.Ytheanilpbnencaa
open Go.RowKit Go.Proofs.Try
set_option linter.all false
set_option maxRecDepth 100000
set_option maxHeartbeats 16000000
def JS(L:Lt):Bool:=decide (L.a=45->L.b=45->L.e=45\/L.e=113)&&(decide (L.a=45->L.b≠45->L.e=45\/L.e=112\/L.e=115)&&decide (L.a≠45->L.e=45\/L.e=105\/L.e=112\/L.e=115))
theorem IQ{p:Prop}[Decidable p]{x y:Lt}(h:JS x=true)(k:JS y=true):JS (if p then x else y)=true:=by
 split
 .exact h
 .exact k
theorem IJ(op:Int):JS (Bn op)=true:=by
 unfold Bn
 iterate 19 refine IQ dE ?_
 decide
theorem GC(v0 v1 v2 v3:Value)(c:Cd)(co:AN c)(hT:Af c=true)(i:Ay)(h0:0<=i.bits)(h1:i.bits<4294967296)(hk:As i.op=true)(h2:(i.op==1||i.bits==0)=true)(h3:B1 i.bits=true)(w:World)(hv:BU w v0 v1 v2 v3 c):
 Calls prog 51 #[.agg #[v0,v1,v2,v3],C2 i] w fun e w'=>e=.returned (.bool (BD c i (Bn i.op)))/\Below w.heap.size w w':=by
 have HCAN:Hid (∀w,Calls prog 50 #[.int .u32 i.bits] w fun e w'=>e=.returned (.bool true)/\Below w.heap.size w w'):=by rw[<-h3];exact BB i.bits h0 h1
 obtain⟨a,b,cc,d,e,⟨ea,eb,ec,ed,ee⟩,hc⟩:=G7 i.op hk;obtain⟨oa,ob,oc,od,oe,oT⟩:=Ju i.op;have om:=IJ i.op;unfold JS at om;simp only[Bool.and_eq_true,decide_eq_true_eq]at om;obtain⟨m1,m2,m3⟩:=om;have hF:BD c i (Bn i.op)=(Ag c.regs (Bn i.op).a i.d ⟨0,0⟩&&(Ag c.regs (Bn i.op).b i.a (dR c.regs (Bn i.op).a i.d)&&(Ag c.regs (Bn i.op).c i.b (dR c.regs (Bn i.op).a i.d)&&(Ag c.regs (Bn i.op).d i.c (dR c.regs (Bn i.op).a i.d)&&Be c (Bn i.op).e i.n (tR c.regs (Bn i.op).a (Bn i.op).b i.d i.a))))):=by
  unfold BD;rw[h2,h3,Bool.true_and,Bool.true_and]
 rw[hF];clear hF h3;have ix0:∀w,(Instr.index 9 (.string ⟨#[a,b,cc,d,e]⟩) (.int .i64 0)).run prog w=.ok (.int .u8 (Bn i.op).a) w:=fun w=>by rw[<-ea];simp[Instr.index,run_underlying underlying9,asIntOf,go_sem];rfl
 have ix1:∀w,(Instr.index 9 (.string ⟨#[a,b,cc,d,e]⟩) (.int .i64 1)).run prog w=.ok (.int .u8 (Bn i.op).b) w:=fun w=>by rw[<-eb];simp[Instr.index,run_underlying underlying9,asIntOf,go_sem];rfl
 have ix2:∀w,(Instr.index 9 (.string ⟨#[a,b,cc,d,e]⟩) (.int .i64 2)).run prog w=.ok (.int .u8 (Bn i.op).c) w:=fun w=>by rw[<-ec];simp[Instr.index,run_underlying underlying9,asIntOf,go_sem];rfl
 have ix3:∀w,(Instr.index 9 (.string ⟨#[a,b,cc,d,e]⟩) (.int .i64 3)).run prog w=.ok (.int .u8 (Bn i.op).d) w:=fun w=>by rw[<-ed];simp[Instr.index,run_underlying underlying9,asIntOf,go_sem];rfl
 have H2:∀w,(Instr.index 9 (.string ⟨#[a,b,cc,d,e]⟩) (.int .i64 4)).run prog w=.ok (.int .u8 (Bn i.op).e) w:=fun w=>by rw[<-ee];simp[Instr.index,run_underlying underlying9,asIntOf,go_sem];rfl
 cases h:(i.op==1)
 .rw[h,Bool.false_or]at h2;have o2:(i.op != 1)=true:=by simpa using h
  have o4:(i.bits != 0)=false:=by simpa using h2
  by_cases hz:(Bn i.op).a=45
  .exact IU v0 v1 v2 v3 c co hT i.op i.d i.a i.b i.c i.n i.bits _ _ _ _ _ a b cc d e hc HCAN ix0 ix1 ix2 ix3 H2 oa ob oc od oT h o2 h2 o4 hz (m1 hz) (m2 hz) w hv
  .exact IV v0 v1 v2 v3 c co hT i.op i.d i.a i.b i.c i.n i.bits _ _ _ _ _ a b cc d e hc HCAN ix0 ix1 ix2 ix3 H2 oa ob oc od oT h o2 h2 o4 hz (m3 hz) w hv
 .have o2:(i.op != 1)=false:=by simpa using h
  have e1:i.op=1:=by simpa using h
  have ha:(Bn i.op).a≠45:=by rw[e1];decide
  have he:(Bn i.op).e=45:=by rw[e1];rfl
  exact IW v0 v1 v2 v3 c co hT i.op i.d i.a i.b i.c i.n i.bits _ _ _ _ _ a b cc d e hc HCAN ix0 ix1 ix2 ix3 H2 oa ob oc od oT h o2 ha he w hv
theorem GB(v0 v1 v2 v3:Value)(c:Cd)(co:AN c)(hT:Af c=true)(i:Ay)(h0:0<=i.bits)(h1:i.bits<4294967296)(w:World)(hv:BU w v0 v1 v2 v3 c):
 Calls prog 51 #[.agg #[v0,v1,v2,v3],C2 i] w fun e w'=>e=.returned (.bool (As i.op&&BD c i (Bn i.op)))/\Below w.heap.size w w':=by
 cases hh:(As i.op&&((i.op==1||i.bits==0)&&B1 i.bits))
 .have e:(As i.op&&BD c i (Bn i.op))=false:=by
   unfold BD;revert hh;cases As i.op<;>cases(i.op==1||i.bits==0)<;>cases B1 i.bits<;>simp
  rw[e];exact Hd v0 v1 v2 v3 i h0 h1 hh w
 .simp only[Bool.and_eq_true]at hh;rw[hh.1,Bool.true_and];exact GC v0 v1 v2 v3 c co hT i h0 h1 hh.1 hh.2.1 hh.2.2 w hv
theorem IT{c:Cd}{i:Ay}(h:AM c i (Ad i.op)=true):∀x∈AG i (Ad i.op),0<=x/\x<(c.regs.length:Int):=by
 intro x hx;unfold AG at hx;simp only[List.mem_append]at hx;rcases hx with hx|hx|hx
 .split at hx
  .simp at hx
  .rename_i e;simp at hx;subst hx;exact AT (Fx h) e
 .split at hx
  .simp at hx
  .rename_i e;simp at hx;subst hx;exact AT (Fy h) e
 .split at hx
  .simp at hx
  .rename_i e;simp at hx;subst hx;exact AT (Fz h) e
theorem Gz(i:Ay):(AG i (Ad i.op)).length<=3:=by
 rw[CE];simp only[List.length_append];have a:=CT (Ad i.op).a i.a;have b:=CT (Ad i.op).b i.b;have d:=CT (Ad i.op).c i.c;omega
theorem EB(v0 v1 v2 v3:Value)(c:Cd)(co:AN c)(hT:Af c=true)(i:Ay)(hb0:0<=i.bits)(hb1:i.bits<4294967296)(B:Nat)(s:Wk)(sv ov:Value)(us:List Value)(hM:c.regs.length<=16384)(ok:BG c.regs.length s)(po:Bv s)(w:World)(hv:BU w v0 v1 v2 v3 c)(hs:SK B c.regs.length w sv ov s us):
 Calls prog 35 #[.agg #[v0,v1,v2,v3],C2 i,sv,ov] w fun e w'=>e=.returned (.bool (AH c s i))/\Below w.heap.size w w':=by
 rw[GN hT po];have hfit:(As i.op&&BD c i (Bn i.op))=true->AM c i (Ad i.op)=true:=fun h=>by simp only[Bool.and_eq_true]at h;rw[<-Eo hT];exact h.2
 have HFIT:Hid (∀v,Below w.heap.size w v->Calls prog 51 #[.agg #[v0,v1,v2,v3],C2 i] v fun e w'=>e=.returned (.bool (As i.op&&BD c i (Bn i.op)))/\Below v.heap.size v w'):=fun v hb=>GB v0 v1 v2 v3 c co hT i hb0 hb1 v (hv.below hb);have HVEC:Hid (∀v,Below w.heap.size w v->Calls prog 52 #[.agg #[v0,v1,v2,v3],C2 i] v fun e w'=>e=.returned (.int .i64 (Co c.regs (C3 i)))/\Below v.heap.size v w'):=fun v hb=>ED v0 v1 v2 v3 c co i v (hv.below hb);have HRD:Hid (∀v,Calls prog 53 #[C2 i] v fun e w'=>∃u,e=.returned u/\w'.ownsRow v.heap.size 3 1 u (AG i (Ad i.op)).length (Bf (AG i (Ad i.op)))/\Below v.heap.size v w'):=Fp i;have hR3:=Gz i;have hRP:=fun h=>IT (hfit h);have hRO:CU s i (Ad i.op)=(AG i (Ad i.op)).all fun n=>decide (n.toNat∈s.set):=rfl;rw[hRO];clear hfit hRO;unfold Es EJ;obtain⟨Fi,hFi⟩:∃F,(As i.op&&BD c i (Bn i.op))=F:=⟨_,rfl⟩
 rw[hFi]at HFIT hRP |-;obtain⟨V,hV⟩:=gA (Co c.regs (C3 i))
 rw[hV]at HVEC |-;obtain⟨R,hR⟩:=gA (AG i (Ad i.op))
 rw[hR]at HRD hR3 hRP |-;have hnest:=ok.nest;have hlast:=fun g q (e:ov=.slice (some ⟨g,0,none⟩) s.opens.length q)=>SK.last (e▸hs);obtain⟨p,q,rfl⟩:=Ax hs.opn;have hopn:0<s.opens.length->∃g,p=some ⟨g,0,none⟩:=fun h=>by
  obtain⟨g,cap,e,_⟩:=hs.opn.form h;simp only[Value.slice.injEq]at e;exact⟨g,e.1⟩
 obtain⟨ps,qs,rfl⟩:=Ax hs.set;have HSET:Hid (∀k,k<c.regs.length->∃g,ps=some ⟨g,0,none⟩/\w.cell? ⟨g,k,none⟩=some (.bool (decide (k∈s.set)))):=fun k hk=>by
  obtain⟨g,cap,e,_⟩:=hs.set.form oM;simp only[Value.slice.injEq]at e;obtain⟨rfl,-,-⟩:=e;exact⟨g,rfl,by rw[hs.set.cellAt k oM,CJ hk]⟩
 have hz:s.opens.length=0->Av s=false:=fun h=>by
  obtain⟨S,O⟩:=s;cases O with
  |nil=>rfl
  |cons b r=>simp at h
 obtain⟨S,hS⟩:=gA (s.set)
 obtain⟨n,hn⟩:=gA (s.opens.length)
 obtain⟨lp,hlp⟩:∃l,Av s=l:=⟨_,rfl⟩
 obtain⟨par,hpar⟩:∃l,B5 s=l:=⟨_,rfl⟩
 obtain⟨M,hMM⟩:=gA (c.regs.length)
 rw[hn]at hnest hlast hopn hz |-;rw[hlp]at hlast hz |-;rw[hpar]at hlast |-;rw[hS]at HSET |-;rw[hMM]at hM HSET hRP hlast |-;clear hFi hV hR hs ok po hv co hT hS hn hlp hpar hMM;obtain⟨op,D,A,Q,E,nn,bt⟩:=i;unfold C2 at HFIT HVEC HRD |-;simp only at HFIT HVEC HRD hb0 hb1 |-;clear hb0 hb1;have HT0:Hid (TW w v0 v1 v2 v3 (w.heap.size+1) op D A Q E nn bt ((w.alloc (.cells #[v0,v1,v2,v3] 27)).alloc (.cells #[.int .i64 op,.int .i64 D,.int .i64 A,.int .i64 Q,.int .i64 E,.int .i64 nn,.int .u32 bt] 53))):=TW.start w v0 v1 v2 v3 op D A Q E nn bt;obtain⟨hb00,c0,c1,c2,c3,i0,i1,i2,i3,i4,i5,i6⟩:=HT0.out;have hcase:(n=0/\lp=false)\/(∃m g,m+1=n/\p=some ⟨g,0,none⟩/\lp=false/\w.cell? ⟨g,m*3,none⟩=some (.int .i64 34))\/(∃m g,m+1=n/\p=some ⟨g,0,none⟩/\lp=true/\w.cell? ⟨g,m*3,none⟩=some (.int .i64 36)/\w.cell? ⟨g,m*3+1,none⟩=some (.int .i64 par)):=by
  by_cases h0:n=0
  .exact .inl ⟨h0,hz h0⟩
  .obtain⟨g,rfl⟩:=hopn oM;obtain⟨X,u,-,-,a0,a1,-⟩:=hlast g q rfl oM;obtain⟨m,rfl⟩:∃m,n=m+1:=⟨n-1,oM⟩
   rw[Nat.add_sub_cancel]at a0 a1;cases lp
   .exact .inr (.inl ⟨m,g,rfl,rfl,rfl,a0⟩)
   .exact .inr (.inr ⟨m,g,rfl,rfl,rfl,a0,a1⟩)
 clear hlast hopn hz;have HRP:Hid (Fi=true->∀x∈R,0<=x/\x<(M:Int)):=hRP;clear hRP;obtain⟨RES,hRES⟩:∃X,(Fi&&(!(lp&&(op != 37&&V != par))&&((R.all fun n=>decide (n.toNat∈S))&&(if op=34\/op=36 then decide (n<64)else if op=35 then decide (0<n)&& !lp else if op=37 then lp else true))))=X:=⟨_,rfl⟩
 rw[hRES];cases Fi
 .have HQF:Hid (false=RES):=hRES;clear hRES;rcases hcase with⟨rfl,rfl⟩|⟨m,g,hm,rfl,rfl,z0⟩|⟨m,g,hm,rfl,rfl,z0,z1⟩
  .exact Kv
  .have hw:IntKind.i64.wrap ((n:Int)-1)=(m:Int):=by rw[IntKind.wrap_i64];omega
   have x0:=kc hb00 z0;have j0:(0:Int)<(n:Int):=oM;have j1:(0:Int)<=(m:Int):=oM;have j2:(m:Int)<(n:Int):=oM;exact Kv
  .have hw:IntKind.i64.wrap ((n:Int)-1)=(m:Int):=by rw[IntKind.wrap_i64];omega
   have x0:=kc hb00 z0;have j0:(0:Int)<(n:Int):=oM;have j1:(0:Int)<=(m:Int):=oM;have j2:(m:Int)<(n:Int):=oM;exact Kv
 .rw[Bool.true_and]at hRES;have HRP1:Hid (∀x∈R,0<=x/\x<(M:Int)):=HRP.out rfl;clear HRP;rcases hcase with⟨hn0,rfl⟩|⟨m,g,hm,rfl,rfl,z0⟩|⟨m,g,hm,rfl,rfl,z0,z1⟩
  .rw[Bool.false_and,Bool.not_false,Bool.true_and]at hRES;have HR2:Hid (((R.all fun n=>decide (n.toNat∈S))&&(if op=34\/op=36 then decide (n<64)else if op=35 then decide (0<n)&& !false else if op=37 then false else true))=RES):=hRES;clear hRES;have j0:¬ (0:Int)<(n:Int):=oM;go_enter func35,ntmps35;go_wp2;refine rG (fun v=>v.cell? ⟨w.heap.size,0,none⟩=some v0/\v.cell? ⟨w.heap.size,1,none⟩=some v1/\v.cell? ⟨w.heap.size,2,none⟩=some v2/\v.cell? ⟨w.heap.size,3,none⟩=some v3/\v.cell? ⟨w.heap.size+1,0,none⟩=some (.int .i64 op)/\v.cell? ⟨w.heap.size+1,1,none⟩=some (.int .i64 D)/\v.cell? ⟨w.heap.size+1,2,none⟩=some (.int .i64 A)/\v.cell? ⟨w.heap.size+1,3,none⟩=some (.int .i64 Q)/\v.cell? ⟨w.heap.size+1,4,none⟩=some (.int .i64 E)/\v.cell? ⟨w.heap.size+1,5,none⟩=some (.int .i64 nn)/\v.cell? ⟨w.heap.size+1,6,none⟩=some (.int .u32 bt)) fun hJ=>?_;refine wpAnyH_take (i:=0) (v:=?_) A5 kR kR kR A6 (Or.inl ⟨rF,?_⟩) A7 ?_
   rotate_left 1
   ·(intro wS hSw;(try dsimp only at hSw);go_simp;try(with_reducible rfl))
   try simp only[Act.put,List.setIfInBounds_toArray,List.set_cons_zero,List.set_cons_succ]
   refine wpAnyH_take (i:=1) (v:=?_) A5 kR kR kR A6 (Or.inl ⟨rF,?_⟩) A7 ?_
   rotate_left 1
   ·(intro wS hSw;(try dsimp only at hSw);go_simp;try(with_reducible rfl))
   try simp only[Act.put,List.setIfInBounds_toArray,List.set_cons_zero,List.set_cons_succ]
   clear hJ;refine AO 2 fun K hK=>?_;go_simp;(go_at_call 51;(with_reducible refine(HFIT.out _ (bel HT0.out.bel (Aa _))).mono ?_);rintro e wz ⟨rfl,hbz⟩;have HBZ:Hid (Below ((w.alloc (.cells #[v0,v1,v2,v3] 27)).alloc (.cells #[.int .i64 op,.int .i64 D,.int .i64 A,.int .i64 Q,.int .i64 E,.int .i64 nn,.int .u32 bt] 53)).heap.size ((w.alloc (.cells #[v0,v1,v2,v3] 27)).alloc (.cells #[.int .i64 op,.int .i64 D,.int .i64 A,.int .i64 Q,.int .i64 E,.int .i64 nn,.int .u32 bt] 53)) wz):=bel (Aa _) hbz;clear hbz;obtain⟨-,c0,c1,c2,c3,i0,i1,i2,i3,i4,i5,i6⟩:=HT0.out.next HBZ.out);try(go_wp2_with fail)
   refine AP hK fun hJ=>?_;clear hK K;refine wpAnyH_take (i:=3) (v:=?_) A5 kR kR kR A6 (Or.inl ⟨rF,?_⟩) A7 ?_
   rotate_left 1
   ·(intro wS hSw;(try dsimp only at hSw);go_simp;try(with_reducible rfl))
   try simp only[Act.put,List.setIfInBounds_toArray,List.set_cons_zero,List.set_cons_succ]
   refine wpAnyH_take (i:=4) (v:=?_) A5 kR kR kR A6 (Or.inl ⟨rF,?_⟩) A7 ?_
   rotate_left 1
   ·(intro wS hSw;(try dsimp only at hSw);go_simp;try(with_reducible rfl))
   try simp only[Act.put,List.setIfInBounds_toArray,List.set_cons_zero,List.set_cons_succ]
   refine wpAnyH_take (i:=5) (v:=?_) A5 kR kR kR A6 (Or.inl ⟨rF,?_⟩) A7 ?_
   rotate_left 1
   ·(intro wS hSw;(try dsimp only at hSw);go_simp;try(with_reducible rfl))
   try simp only[Act.put,List.setIfInBounds_toArray,List.set_cons_zero,List.set_cons_succ]
   refine wpAnyH_take (i:=6) (v:=?_) A5 kR kR kR A6 (Or.inl ⟨rF,?_⟩) A7 ?_
   rotate_left 1
   ·(intro wS hSw;(try dsimp only at hSw);go_simp;try(with_reducible rfl))
   try simp only[Act.put,List.setIfInBounds_toArray,List.set_cons_zero,List.set_cons_succ]
   refine wpAnyH_take (i:=7) (v:=undef) A5 kR kR kR A6 (Or.inr ⟨rF,rfl⟩) A7 ?_;try simp only[Act.put,List.setIfInBounds_toArray,List.set_cons_zero,List.set_cons_succ]
   refine wpAnyH_take (i:=8) (v:=undef) A5 kR kR kR A6 (Or.inr ⟨rF,rfl⟩) A7 ?_;try simp only[Act.put,List.setIfInBounds_toArray,List.set_cons_zero,List.set_cons_succ]
   refine wpAnyH_take (i:=9) (v:=undef) A5 kR kR kR A6 (Or.inr ⟨rF,rfl⟩) A7 ?_;try simp only[Act.put,List.setIfInBounds_toArray,List.set_cons_zero,List.set_cons_succ]
   refine wpAnyH_take (i:=10) (v:=?_) A5 kR kR kR A6 (Or.inl ⟨rF,?_⟩) A7 ?_
   rotate_left 1
   ·(intro wS hSw;(try dsimp only at hSw);go_simp;try(with_reducible rfl))
   try simp only[Act.put,List.setIfInBounds_toArray,List.set_cons_zero,List.set_cons_succ]
   refine wpAnyH_take (i:=11) (v:=?_) A5 kR kR kR A6 (Or.inl ⟨rF,?_⟩) A7 ?_
   rotate_left 1
   ·(intro wS hSw;(try dsimp only at hSw);go_simp;try(with_reducible rfl))
   try simp only[Act.put,List.setIfInBounds_toArray,List.set_cons_zero,List.set_cons_succ]
   refine wpAnyH_take (i:=12) (v:=undef) A5 kR kR kR A6 (Or.inr ⟨rF,rfl⟩) A7 ?_;try simp only[Act.put,List.setIfInBounds_toArray,List.set_cons_zero,List.set_cons_succ]
   refine wpAnyH_take (i:=13) (v:=undef) A5 kR kR kR A6 (Or.inr ⟨rF,rfl⟩) A7 ?_;try simp only[Act.put,List.setIfInBounds_toArray,List.set_cons_zero,List.set_cons_succ]
   refine wpAnyH_take (i:=14) (v:=undef) A5 kR kR kR A6 (Or.inr ⟨rF,rfl⟩) A7 ?_;try simp only[Act.put,List.setIfInBounds_toArray,List.set_cons_zero,List.set_cons_succ]
   refine wpAnyH_take (i:=15) (v:=undef) A5 kR kR kR A6 (Or.inr ⟨rF,rfl⟩) A7 ?_;try simp only[Act.put,List.setIfInBounds_toArray,List.set_cons_zero,List.set_cons_succ]
   refine wpAnyH_take (i:=16) (v:=undef) A5 kR kR kR A6 (Or.inr ⟨rF,rfl⟩) A7 ?_;try simp only[Act.put,List.setIfInBounds_toArray,List.set_cons_zero,List.set_cons_succ]
   refine wpAnyH_take (i:=17) (v:=undef) A5 kR kR kR A6 (Or.inr ⟨rF,rfl⟩) A7 ?_;try simp only[Act.put,List.setIfInBounds_toArray,List.set_cons_zero,List.set_cons_succ]
   refine wpAnyH_take (i:=18) (v:=undef) A5 kR kR kR A6 (Or.inr ⟨rF,rfl⟩) A7 ?_;try simp only[Act.put,List.setIfInBounds_toArray,List.set_cons_zero,List.set_cons_succ]
   refine wpAnyH_take (i:=19) (v:=undef) A5 kR kR kR A6 (Or.inr ⟨rF,rfl⟩) A7 ?_;try simp only[Act.put,List.setIfInBounds_toArray,List.set_cons_zero,List.set_cons_succ]
   refine wpAnyH_take (i:=20) (v:=undef) A5 kR kR kR A6 (Or.inr ⟨rF,rfl⟩) A7 ?_;try simp only[Act.put,List.setIfInBounds_toArray,List.set_cons_zero,List.set_cons_succ]
   refine wpAnyH_take (i:=21) (v:=undef) A5 kR kR kR A6 (Or.inr ⟨rF,rfl⟩) A7 ?_;try simp only[Act.put,List.setIfInBounds_toArray,List.set_cons_zero,List.set_cons_succ]
   refine wpAnyH_take (i:=22) (v:=undef) A5 kR kR kR A6 (Or.inr ⟨rF,rfl⟩) A7 ?_;try simp only[Act.put,List.setIfInBounds_toArray,List.set_cons_zero,List.set_cons_succ]
   refine wpAnyH_take (i:=23) (v:=?_) A5 kR kR kR A6 (Or.inl ⟨rF,?_⟩) A7 ?_
   rotate_left 1
   ·(intro wS hSw;(try dsimp only at hSw);go_simp;try(with_reducible rfl))
   try simp only[Act.put,List.setIfInBounds_toArray,List.set_cons_zero,List.set_cons_succ]
   refine wpAnyH_take (i:=24) (v:=?_) A5 kR kR kR A6 (Or.inl ⟨rF,?_⟩) A7 ?_
   rotate_left 1
   ·(intro wS hSw;(try dsimp only at hSw);go_simp;try(with_reducible rfl))
   try simp only[Act.put,List.setIfInBounds_toArray,List.set_cons_zero,List.set_cons_succ]
   refine wpAnyH_done kR ?_ _;clear j0;exact Kw
  .rw[Bool.false_and,Bool.not_false,Bool.true_and]at hRES;have HR2:Hid (((R.all fun n=>decide (n.toNat∈S))&&(if op=34\/op=36 then decide (n<64)else if op=35 then decide (0<n)&& !false else if op=37 then false else true))=RES):=hRES;clear hRES;have hw:IntKind.i64.wrap ((n:Int)-1)=(m:Int):=by rw[IntKind.wrap_i64];omega
   have x0:=kc hb00 z0;have j0:(0:Int)<(n:Int):=oM;have j1:(0:Int)<=(m:Int):=oM;have j2:(m:Int)<(n:Int):=oM;go_enter func35,ntmps35;go_wp2;refine rG (fun v=>v.cell? ⟨w.heap.size,0,none⟩=some v0/\v.cell? ⟨w.heap.size,1,none⟩=some v1/\v.cell? ⟨w.heap.size,2,none⟩=some v2/\v.cell? ⟨w.heap.size,3,none⟩=some v3/\v.cell? ⟨w.heap.size+1,0,none⟩=some (.int .i64 op)/\v.cell? ⟨w.heap.size+1,1,none⟩=some (.int .i64 D)/\v.cell? ⟨w.heap.size+1,2,none⟩=some (.int .i64 A)/\v.cell? ⟨w.heap.size+1,3,none⟩=some (.int .i64 Q)/\v.cell? ⟨w.heap.size+1,4,none⟩=some (.int .i64 E)/\v.cell? ⟨w.heap.size+1,5,none⟩=some (.int .i64 nn)/\v.cell? ⟨w.heap.size+1,6,none⟩=some (.int .u32 bt)) fun hJ=>?_;refine wpAnyH_take (i:=0) (v:=?_) A5 kR kR kR A6 (Or.inl ⟨rF,?_⟩) A7 ?_
   rotate_left 1
   ·(intro wS hSw;(try dsimp only at hSw);go_simp;try(with_reducible rfl))
   try simp only[Act.put,List.setIfInBounds_toArray,List.set_cons_zero,List.set_cons_succ]
   refine wpAnyH_take (i:=1) (v:=?_) A5 kR kR kR A6 (Or.inl ⟨rF,?_⟩) A7 ?_
   rotate_left 1
   ·(intro wS hSw;(try dsimp only at hSw);go_simp;try(with_reducible rfl))
   try simp only[Act.put,List.setIfInBounds_toArray,List.set_cons_zero,List.set_cons_succ]
   clear hJ;refine AO 2 fun K hK=>?_;go_simp;(go_at_call 51;(with_reducible refine(HFIT.out _ (bel HT0.out.bel (Aa _))).mono ?_);rintro e wz ⟨rfl,hbz⟩;have HBZ:Hid (Below ((w.alloc (.cells #[v0,v1,v2,v3] 27)).alloc (.cells #[.int .i64 op,.int .i64 D,.int .i64 A,.int .i64 Q,.int .i64 E,.int .i64 nn,.int .u32 bt] 53)).heap.size ((w.alloc (.cells #[v0,v1,v2,v3] 27)).alloc (.cells #[.int .i64 op,.int .i64 D,.int .i64 A,.int .i64 Q,.int .i64 E,.int .i64 nn,.int .u32 bt] 53)) wz):=bel (Aa _) hbz;clear hbz;obtain⟨-,c0,c1,c2,c3,i0,i1,i2,i3,i4,i5,i6⟩:=HT0.out.next HBZ.out);try(go_wp2_with fail)
   refine AP hK fun hJ=>?_;clear hK K;refine wpAnyH_take (i:=3) (v:=?_) A5 kR kR kR A6 (Or.inl ⟨rF,?_⟩) A7 ?_
   rotate_left 1
   ·(intro wS hSw;(try dsimp only at hSw);go_simp;try(with_reducible rfl))
   try simp only[Act.put,List.setIfInBounds_toArray,List.set_cons_zero,List.set_cons_succ]
   refine wpAnyH_take (i:=4) (v:=?_) A5 kR kR kR A6 (Or.inl ⟨rF,?_⟩) A7 ?_
   rotate_left 1
   ·(intro wS hSw;(try dsimp only at hSw);go_simp;try(with_reducible rfl))
   try simp only[Act.put,List.setIfInBounds_toArray,List.set_cons_zero,List.set_cons_succ]
   refine wpAnyH_take (i:=5) (v:=?_) A5 kR kR kR A6 (Or.inl ⟨rF,?_⟩) A7 ?_
   rotate_left 1
   ·(intro wS hSw;(try dsimp only at hSw);go_simp;try(with_reducible rfl))
   try simp only[Act.put,List.setIfInBounds_toArray,List.set_cons_zero,List.set_cons_succ]
   refine wpAnyH_take (i:=6) (v:=?_) A5 kR kR kR A6 (Or.inl ⟨rF,?_⟩) A7 ?_
   rotate_left 1
   ·(intro wS hSw;(try dsimp only at hSw);go_simp;try(with_reducible rfl))
   try simp only[Act.put,List.setIfInBounds_toArray,List.set_cons_zero,List.set_cons_succ]
   refine wpAnyH_take (i:=7) (v:=undef) A5 kR kR kR A6 (Or.inr ⟨rF,rfl⟩) A7 ?_;try simp only[Act.put,List.setIfInBounds_toArray,List.set_cons_zero,List.set_cons_succ]
   refine wpAnyH_take (i:=8) (v:=undef) A5 kR kR kR A6 (Or.inr ⟨rF,rfl⟩) A7 ?_;try simp only[Act.put,List.setIfInBounds_toArray,List.set_cons_zero,List.set_cons_succ]
   refine wpAnyH_take (i:=9) (v:=undef) A5 kR kR kR A6 (Or.inr ⟨rF,rfl⟩) A7 ?_;try simp only[Act.put,List.setIfInBounds_toArray,List.set_cons_zero,List.set_cons_succ]
   refine wpAnyH_take (i:=10) (v:=?_) A5 kR kR kR A6 (Or.inl ⟨rF,?_⟩) A7 ?_
   rotate_left 1
   ·(intro wS hSw;(try dsimp only at hSw);go_simp;try(with_reducible rfl))
   try simp only[Act.put,List.setIfInBounds_toArray,List.set_cons_zero,List.set_cons_succ]
   refine wpAnyH_take (i:=11) (v:=?_) A5 kR kR kR A6 (Or.inl ⟨rF,?_⟩) A7 ?_
   rotate_left 1
   ·(intro wS hSw;(try dsimp only at hSw);go_simp;try(with_reducible rfl))
   try simp only[Act.put,List.setIfInBounds_toArray,List.set_cons_zero,List.set_cons_succ]
   refine wpAnyH_take (i:=12) (v:=undef) A5 kR kR kR A6 (Or.inr ⟨rF,rfl⟩) A7 ?_;try simp only[Act.put,List.setIfInBounds_toArray,List.set_cons_zero,List.set_cons_succ]
   refine wpAnyH_take (i:=13) (v:=undef) A5 kR kR kR A6 (Or.inr ⟨rF,rfl⟩) A7 ?_;try simp only[Act.put,List.setIfInBounds_toArray,List.set_cons_zero,List.set_cons_succ]
   refine wpAnyH_take (i:=14) (v:=undef) A5 kR kR kR A6 (Or.inr ⟨rF,rfl⟩) A7 ?_;try simp only[Act.put,List.setIfInBounds_toArray,List.set_cons_zero,List.set_cons_succ]
   refine wpAnyH_take (i:=15) (v:=undef) A5 kR kR kR A6 (Or.inr ⟨rF,rfl⟩) A7 ?_;try simp only[Act.put,List.setIfInBounds_toArray,List.set_cons_zero,List.set_cons_succ]
   refine wpAnyH_take (i:=16) (v:=undef) A5 kR kR kR A6 (Or.inr ⟨rF,rfl⟩) A7 ?_;try simp only[Act.put,List.setIfInBounds_toArray,List.set_cons_zero,List.set_cons_succ]
   refine wpAnyH_take (i:=17) (v:=undef) A5 kR kR kR A6 (Or.inr ⟨rF,rfl⟩) A7 ?_;try simp only[Act.put,List.setIfInBounds_toArray,List.set_cons_zero,List.set_cons_succ]
   refine wpAnyH_take (i:=18) (v:=undef) A5 kR kR kR A6 (Or.inr ⟨rF,rfl⟩) A7 ?_;try simp only[Act.put,List.setIfInBounds_toArray,List.set_cons_zero,List.set_cons_succ]
   refine wpAnyH_take (i:=19) (v:=undef) A5 kR kR kR A6 (Or.inr ⟨rF,rfl⟩) A7 ?_;try simp only[Act.put,List.setIfInBounds_toArray,List.set_cons_zero,List.set_cons_succ]
   refine wpAnyH_take (i:=20) (v:=undef) A5 kR kR kR A6 (Or.inr ⟨rF,rfl⟩) A7 ?_;try simp only[Act.put,List.setIfInBounds_toArray,List.set_cons_zero,List.set_cons_succ]
   refine wpAnyH_take (i:=21) (v:=undef) A5 kR kR kR A6 (Or.inr ⟨rF,rfl⟩) A7 ?_;try simp only[Act.put,List.setIfInBounds_toArray,List.set_cons_zero,List.set_cons_succ]
   refine wpAnyH_take (i:=22) (v:=undef) A5 kR kR kR A6 (Or.inr ⟨rF,rfl⟩) A7 ?_;try simp only[Act.put,List.setIfInBounds_toArray,List.set_cons_zero,List.set_cons_succ]
   refine wpAnyH_take (i:=23) (v:=?_) A5 kR kR kR A6 (Or.inl ⟨rF,?_⟩) A7 ?_
   rotate_left 1
   ·(intro wS hSw;(try dsimp only at hSw);go_simp;try(with_reducible rfl))
   try simp only[Act.put,List.setIfInBounds_toArray,List.set_cons_zero,List.set_cons_succ]
   refine wpAnyH_take (i:=24) (v:=?_) A5 kR kR kR A6 (Or.inl ⟨rF,?_⟩) A7 ?_
   rotate_left 1
   ·(intro wS hSw;(try dsimp only at hSw);go_simp;try(with_reducible rfl))
   try simp only[Act.put,List.setIfInBounds_toArray,List.set_cons_zero,List.set_cons_succ]
   refine wpAnyH_done kR ?_ _;clear j0 j1 j2 hw;exact Kw
  .rw[Bool.true_and]at hRES;have hw:IntKind.i64.wrap ((n:Int)-1)=(m:Int):=by rw[IntKind.wrap_i64];omega
   have x0:=kc hb00 z0;have j0:(0:Int)<(n:Int):=oM;have j1:(0:Int)<=(m:Int):=oM;have j2:(m:Int)<(n:Int):=oM;have y1:=kc hb00 z1;by_cases h7:op=37
   .subst h7;rw[show((37:Int) != 37)=false from rfl,Bool.false_and,Bool.not_false,Bool.true_and]at hRES;have HR2:Hid (((R.all fun n=>decide (n.toNat∈S))&&(if(37:Int)=34\/(37:Int)=36 then decide (n<64)else if(37:Int)=35 then decide (0<n)&& !true else if(37:Int)=37 then true else true))=RES):=hRES;clear hRES;go_enter func35,ntmps35;go_wp2;refine rG (fun v=>v.cell? ⟨w.heap.size,0,none⟩=some v0/\v.cell? ⟨w.heap.size,1,none⟩=some v1/\v.cell? ⟨w.heap.size,2,none⟩=some v2/\v.cell? ⟨w.heap.size,3,none⟩=some v3/\v.cell? ⟨w.heap.size+1,0,none⟩=some (.int .i64 37)/\v.cell? ⟨w.heap.size+1,1,none⟩=some (.int .i64 D)/\v.cell? ⟨w.heap.size+1,2,none⟩=some (.int .i64 A)/\v.cell? ⟨w.heap.size+1,3,none⟩=some (.int .i64 Q)/\v.cell? ⟨w.heap.size+1,4,none⟩=some (.int .i64 E)/\v.cell? ⟨w.heap.size+1,5,none⟩=some (.int .i64 nn)/\v.cell? ⟨w.heap.size+1,6,none⟩=some (.int .u32 bt)) fun hJ=>?_;refine wpAnyH_take (i:=0) (v:=?_) A5 kR kR kR A6 (Or.inl ⟨rF,?_⟩) A7 ?_
    rotate_left 1
    ·(intro wS hSw;(try dsimp only at hSw);go_simp;try(with_reducible rfl))
    try simp only[Act.put,List.setIfInBounds_toArray,List.set_cons_zero,List.set_cons_succ]
    refine wpAnyH_take (i:=1) (v:=?_) A5 kR kR kR A6 (Or.inl ⟨rF,?_⟩) A7 ?_
    rotate_left 1
    ·(intro wS hSw;(try dsimp only at hSw);go_simp;try(with_reducible rfl))
    try simp only[Act.put,List.setIfInBounds_toArray,List.set_cons_zero,List.set_cons_succ]
    clear hJ;refine AO 2 fun K hK=>?_;go_simp;(go_at_call 51;(with_reducible refine(HFIT.out _ (bel HT0.out.bel (Aa _))).mono ?_);rintro e wz ⟨rfl,hbz⟩;have HBZ:Hid (Below ((w.alloc (.cells #[v0,v1,v2,v3] 27)).alloc (.cells #[.int .i64 37,.int .i64 D,.int .i64 A,.int .i64 Q,.int .i64 E,.int .i64 nn,.int .u32 bt] 53)).heap.size ((w.alloc (.cells #[v0,v1,v2,v3] 27)).alloc (.cells #[.int .i64 37,.int .i64 D,.int .i64 A,.int .i64 Q,.int .i64 E,.int .i64 nn,.int .u32 bt] 53)) wz):=bel (Aa _) hbz;clear hbz;obtain⟨-,c0,c1,c2,c3,i0,i1,i2,i3,i4,i5,i6⟩:=HT0.out.next HBZ.out);try(go_wp2_with fail)
    refine AP hK fun hJ=>?_;clear hK K;refine wpAnyH_take (i:=3) (v:=?_) A5 kR kR kR A6 (Or.inl ⟨rF,?_⟩) A7 ?_
    rotate_left 1
    ·(intro wS hSw;(try dsimp only at hSw);go_simp;try(with_reducible rfl))
    try simp only[Act.put,List.setIfInBounds_toArray,List.set_cons_zero,List.set_cons_succ]
    refine wpAnyH_take (i:=4) (v:=?_) A5 kR kR kR A6 (Or.inl ⟨rF,?_⟩) A7 ?_
    rotate_left 1
    ·(intro wS hSw;(try dsimp only at hSw);go_simp;try(with_reducible rfl))
    try simp only[Act.put,List.setIfInBounds_toArray,List.set_cons_zero,List.set_cons_succ]
    refine wpAnyH_take (i:=5) (v:=?_) A5 kR kR kR A6 (Or.inl ⟨rF,?_⟩) A7 ?_
    rotate_left 1
    ·(intro wS hSw;(try dsimp only at hSw);go_simp;try(with_reducible rfl))
    try simp only[Act.put,List.setIfInBounds_toArray,List.set_cons_zero,List.set_cons_succ]
    refine wpAnyH_take (i:=6) (v:=?_) A5 kR kR kR A6 (Or.inl ⟨rF,?_⟩) A7 ?_
    rotate_left 1
    ·(intro wS hSw;(try dsimp only at hSw);go_simp;try(with_reducible rfl))
    try simp only[Act.put,List.setIfInBounds_toArray,List.set_cons_zero,List.set_cons_succ]
    refine wpAnyH_take (i:=7) (v:=?_) A5 kR kR kR A6 (Or.inl ⟨rF,?_⟩) A7 ?_
    rotate_left 1
    ·(intro wS hSw;(try dsimp only at hSw);go_simp;try(with_reducible rfl))
    try simp only[Act.put,List.setIfInBounds_toArray,List.set_cons_zero,List.set_cons_succ]
    refine wpAnyH_take (i:=8) (v:=?_) A5 kR kR kR A6 (Or.inl ⟨rF,?_⟩) A7 ?_
    rotate_left 1
    ·(intro wS hSw;(try dsimp only at hSw);go_simp;try(with_reducible rfl))
    try simp only[Act.put,List.setIfInBounds_toArray,List.set_cons_zero,List.set_cons_succ]
    refine wpAnyH_take (i:=9) (v:=?_) A5 kR kR kR A6 (Or.inl ⟨rF,?_⟩) A7 ?_
    rotate_left 1
    ·(intro wS hSw;(try dsimp only at hSw);go_simp;try(with_reducible rfl))
    try simp only[Act.put,List.setIfInBounds_toArray,List.set_cons_zero,List.set_cons_succ]
    refine wpAnyH_take (i:=10) (v:=?_) A5 kR kR kR A6 (Or.inl ⟨rF,?_⟩) A7 ?_
    rotate_left 1
    ·(intro wS hSw;(try dsimp only at hSw);go_simp;try(with_reducible rfl))
    try simp only[Act.put,List.setIfInBounds_toArray,List.set_cons_zero,List.set_cons_succ]
    refine wpAnyH_take (i:=11) (v:=?_) A5 kR kR kR A6 (Or.inl ⟨rF,?_⟩) A7 ?_
    rotate_left 1
    ·(intro wS hSw;(try dsimp only at hSw);go_simp;try(with_reducible rfl))
    try simp only[Act.put,List.setIfInBounds_toArray,List.set_cons_zero,List.set_cons_succ]
    refine wpAnyH_take (i:=12) (v:=undef) A5 kR kR kR A6 (Or.inr ⟨rF,rfl⟩) A7 ?_;try simp only[Act.put,List.setIfInBounds_toArray,List.set_cons_zero,List.set_cons_succ]
    refine wpAnyH_take (i:=13) (v:=undef) A5 kR kR kR A6 (Or.inr ⟨rF,rfl⟩) A7 ?_;try simp only[Act.put,List.setIfInBounds_toArray,List.set_cons_zero,List.set_cons_succ]
    refine wpAnyH_take (i:=14) (v:=undef) A5 kR kR kR A6 (Or.inr ⟨rF,rfl⟩) A7 ?_;try simp only[Act.put,List.setIfInBounds_toArray,List.set_cons_zero,List.set_cons_succ]
    refine wpAnyH_take (i:=15) (v:=undef) A5 kR kR kR A6 (Or.inr ⟨rF,rfl⟩) A7 ?_;try simp only[Act.put,List.setIfInBounds_toArray,List.set_cons_zero,List.set_cons_succ]
    refine wpAnyH_take (i:=16) (v:=undef) A5 kR kR kR A6 (Or.inr ⟨rF,rfl⟩) A7 ?_;try simp only[Act.put,List.setIfInBounds_toArray,List.set_cons_zero,List.set_cons_succ]
    refine wpAnyH_take (i:=17) (v:=undef) A5 kR kR kR A6 (Or.inr ⟨rF,rfl⟩) A7 ?_;try simp only[Act.put,List.setIfInBounds_toArray,List.set_cons_zero,List.set_cons_succ]
    refine wpAnyH_take (i:=18) (v:=undef) A5 kR kR kR A6 (Or.inr ⟨rF,rfl⟩) A7 ?_;try simp only[Act.put,List.setIfInBounds_toArray,List.set_cons_zero,List.set_cons_succ]
    refine wpAnyH_take (i:=19) (v:=undef) A5 kR kR kR A6 (Or.inr ⟨rF,rfl⟩) A7 ?_;try simp only[Act.put,List.setIfInBounds_toArray,List.set_cons_zero,List.set_cons_succ]
    refine wpAnyH_take (i:=20) (v:=undef) A5 kR kR kR A6 (Or.inr ⟨rF,rfl⟩) A7 ?_;try simp only[Act.put,List.setIfInBounds_toArray,List.set_cons_zero,List.set_cons_succ]
    refine wpAnyH_take (i:=21) (v:=undef) A5 kR kR kR A6 (Or.inr ⟨rF,rfl⟩) A7 ?_;try simp only[Act.put,List.setIfInBounds_toArray,List.set_cons_zero,List.set_cons_succ]
    refine wpAnyH_take (i:=22) (v:=undef) A5 kR kR kR A6 (Or.inr ⟨rF,rfl⟩) A7 ?_;try simp only[Act.put,List.setIfInBounds_toArray,List.set_cons_zero,List.set_cons_succ]
    refine wpAnyH_take (i:=23) (v:=?_) A5 kR kR kR A6 (Or.inl ⟨rF,?_⟩) A7 ?_
    rotate_left 1
    ·(intro wS hSw;(try dsimp only at hSw);go_simp;try(with_reducible rfl))
    try simp only[Act.put,List.setIfInBounds_toArray,List.set_cons_zero,List.set_cons_succ]
    refine wpAnyH_take (i:=24) (v:=?_) A5 kR kR kR A6 (Or.inl ⟨rF,?_⟩) A7 ?_
    rotate_left 1
    ·(intro wS hSw;(try dsimp only at hSw);go_simp;try(with_reducible rfl))
    try simp only[Act.put,List.setIfInBounds_toArray,List.set_cons_zero,List.set_cons_succ]
    refine wpAnyH_done kR ?_ _;clear j0 j1 j2 hw y1;have HTZ:Hid (TW w v0 v1 v2 v3 (w.heap.size+1) 37 D A Q E nn bt wz):=HT0.out.next HBZ.out;go_wp2_with(go_at_call 53;(with_reducible refine(HRD.out _).mono ?_);rintro e w5 ⟨u,rfl,hou,hb5⟩;obtain⟨pu,qu,rfl⟩:=Ax hou;have HOU:Hid (w5.ownsRow wz.heap.size 3 1 (.slice pu R.length qu) R.length (Bf R)):=hou;have HB5:Hid (Below wz.heap.size wz w5):=hb5;clear hou hb5)
    go_loopw [11] (fun kv wr=>∃k:Nat,k<=R.length/\kv=.int .i64 (k:Int)/\wr=w5/\∀x∈R.take k,x.toNat∈S) (fun kv _=>R.length-(intOf kv).toNat)
    case atStart=>exact⟨0,gI _,rfl,rfl,fun x hx=>by simp at hx⟩
    case round=>
     obtain⟨k,hk,rfl,rfl,hin⟩:=hrel;clear c0 c1 c2 c3 i0 i1 i2 i3 i4 i5 i6;obtain⟨hbq,c0,c1,c2,c3,i0,i1,i2,i3,i4,i5,i6⟩:=HTZ.next HB5.out;by_cases hlt:k<R.length
     .have hx:=HRP1.out R[k] (gD hlt);obtain⟨d,hd⟩:∃d:Nat,R[k]=(d:Int):=⟨R[k].toNat,oM⟩
      obtain⟨gs,rfl,hcs⟩:=HSET.out d oM;have hcs':=kc hbq hcs;obtain⟨gu,cu,eu,-⟩:=HOU.form oM;simp only[Value.slice.injEq]at eu;obtain⟨rfl,-,rfl⟩:=eu;have hcu:wr.cell? ⟨gu,k,none⟩=some (.int .i64 (d:Int)):=by rw[HOU.cellAt k oM];simp[Bf,hlt,hd]
      have HMEM:Hid (R[k]=(d:Int)):=hd;have HIN:Hid (∀x∈R.take k,x.toNat∈S):=hin;have t0:(0:Int)<=(k:Int):=oM;have t1:(k:Int)<(R.length:Int):=oM;have t2:(0:Int)<=(d:Int):=oM;have t3:(d:Int)<(M:Int):=oM;have wk:IntKind.i64.wrap ((k:Int)+1)=((k+1:Nat):Int):=by rw[IntKind.wrap_i64];omega
      clear hx hd hin hcs hk;cases hX:decide (d∈S)
      .rw[hX]at hcs';have hall:(R.all fun n=>decide (n.toNat∈S))=false:=by
        rw[List.all_eq_false];exact⟨R[k],gD hlt,by rw[HMEM.out,Int.toNat_natCast,hX];decide⟩
       have HQF:Hid (false=RES):=by show _=_;have:=HR2.out;rw[hall,Bool.false_and]at this;exact this
       clear hX hall;go_wp2;go_ret;exact⟨A9 HQF.out,hbq⟩
      .rw[hX]at hcs';have HX:Hid (d∈S):=by show d∈S;exact of_decide_eq_true hX
       clear hX;go_wp2;go_roundw
       case rel=>
        refine⟨k+1,oM,gN,fT,fun x hx=>?_⟩;rw[List.take_succ_eq_append_getElem hlt,List.mem_append]at hx;rcases hx with hx|hx
        .exact HIN.out x hx
        .simp only[List.mem_singleton]at hx;rw[hx,HMEM.out,Int.toNat_natCast];exact HX.out
       case measure=>simp[intOf];omega
     .have hkk:k=R.length:=oM;have hall:(R.all fun n=>decide (n.toNat∈S))=true:=by
       rw[List.all_eq_true];intro x hx;rw[hkk,List.take_length]at hin;simpa using hin x hx
      have h9:=HR2.out;rw[hall,Bool.true_and]at h9;have HTS:Hid _:=h9;clear h9;have t1:¬ (k:Int)<(R.length:Int):=oM;clear hall hin hk hlt;have HQ:Hid (true=RES):=by show _=_;have:=HTS.out;simpa using this
      go_wp2;go_ret;exact⟨A9 HQ.out,hbq⟩
   .have h7':(op != 37)=true:=by simpa using h7
    have h7b:(op==37)=false:=by simpa using h7
    rw[h7',Bool.true_and]at hRES;cases hVV:(V != par)
    .rw[hVV,Bool.not_false,Bool.true_and]at hRES;have HR2:Hid (((R.all fun n=>decide (n.toNat∈S))&&(if op=34\/op=36 then decide (n<64)else if op=35 then decide (0<n)&& !true else if op=37 then true else true))=RES):=hRES;clear hRES;have hVb:(V==par)=true:=by simpa using hVV
     go_enter func35,ntmps35;go_wp2;refine rG (fun v=>v.cell? ⟨g,m*3+1,none⟩=some (.int .i64 par)/\v.cell? ⟨w.heap.size,0,none⟩=some v0/\v.cell? ⟨w.heap.size,1,none⟩=some v1/\v.cell? ⟨w.heap.size,2,none⟩=some v2/\v.cell? ⟨w.heap.size,3,none⟩=some v3/\v.cell? ⟨w.heap.size+1,0,none⟩=some (.int .i64 op)/\v.cell? ⟨w.heap.size+1,1,none⟩=some (.int .i64 D)/\v.cell? ⟨w.heap.size+1,2,none⟩=some (.int .i64 A)/\v.cell? ⟨w.heap.size+1,3,none⟩=some (.int .i64 Q)/\v.cell? ⟨w.heap.size+1,4,none⟩=some (.int .i64 E)/\v.cell? ⟨w.heap.size+1,5,none⟩=some (.int .i64 nn)/\v.cell? ⟨w.heap.size+1,6,none⟩=some (.int .u32 bt)) fun hJ=>?_;refine wpAnyH_take (i:=0) (v:=?_) A5 kR kR kR A6 (Or.inl ⟨rF,?_⟩) A7 ?_
     rotate_left 1
     ·(intro wS hSw;(try dsimp only at hSw);go_simp;try(with_reducible rfl))
     try simp only[Act.put,List.setIfInBounds_toArray,List.set_cons_zero,List.set_cons_succ]
     refine wpAnyH_take (i:=1) (v:=?_) A5 kR kR kR A6 (Or.inl ⟨rF,?_⟩) A7 ?_
     rotate_left 1
     ·(intro wS hSw;(try dsimp only at hSw);go_simp;try(with_reducible rfl))
     try simp only[Act.put,List.setIfInBounds_toArray,List.set_cons_zero,List.set_cons_succ]
     clear hJ;refine AO 2 fun K hK=>?_;go_simp;(go_at_call 51;(with_reducible refine(HFIT.out _ (bel HT0.out.bel (Aa _))).mono ?_);rintro e w1 ⟨rfl,hb1⟩;have HB1:Hid (Below ((w.alloc (.cells #[v0,v1,v2,v3] 27)).alloc (.cells #[.int .i64 op,.int .i64 D,.int .i64 A,.int .i64 Q,.int .i64 E,.int .i64 nn,.int .u32 bt] 53)).heap.size ((w.alloc (.cells #[v0,v1,v2,v3] 27)).alloc (.cells #[.int .i64 op,.int .i64 D,.int .i64 A,.int .i64 Q,.int .i64 E,.int .i64 nn,.int .u32 bt] 53)) w1):=bel (Aa _) hb1;clear hb1;obtain⟨-,c0,c1,c2,c3,i0,i1,i2,i3,i4,i5,i6⟩:=HT0.out.next HB1.out;have y1:=kc (bel HT0.out.bel HB1.out) z1);try(go_wp2_with fail)
     refine AP hK fun hJ=>?_;clear hK K;refine wpAnyH_take (i:=3) (v:=?_) A5 kR kR kR A6 (Or.inl ⟨rF,?_⟩) A7 ?_
     rotate_left 1
     ·(intro wS hSw;(try dsimp only at hSw);go_simp;try(with_reducible rfl))
     try simp only[Act.put,List.setIfInBounds_toArray,List.set_cons_zero,List.set_cons_succ]
     refine wpAnyH_take (i:=4) (v:=?_) A5 kR kR kR A6 (Or.inl ⟨rF,?_⟩) A7 ?_
     rotate_left 1
     ·(intro wS hSw;(try dsimp only at hSw);go_simp;try(with_reducible rfl))
     try simp only[Act.put,List.setIfInBounds_toArray,List.set_cons_zero,List.set_cons_succ]
     refine wpAnyH_take (i:=5) (v:=?_) A5 kR kR kR A6 (Or.inl ⟨rF,?_⟩) A7 ?_
     rotate_left 1
     ·(intro wS hSw;(try dsimp only at hSw);go_simp;try(with_reducible rfl))
     try simp only[Act.put,List.setIfInBounds_toArray,List.set_cons_zero,List.set_cons_succ]
     refine wpAnyH_take (i:=6) (v:=?_) A5 kR kR kR A6 (Or.inl ⟨rF,?_⟩) A7 ?_
     rotate_left 1
     ·(intro wS hSw;(try dsimp only at hSw);go_simp;try(with_reducible rfl))
     try simp only[Act.put,List.setIfInBounds_toArray,List.set_cons_zero,List.set_cons_succ]
     refine wpAnyH_take (i:=7) (v:=?_) A5 kR kR kR A6 (Or.inl ⟨rF,?_⟩) A7 ?_
     rotate_left 1
     ·(intro wS hSw;(try dsimp only at hSw);go_simp;try(with_reducible rfl))
     try simp only[Act.put,List.setIfInBounds_toArray,List.set_cons_zero,List.set_cons_succ]
     refine wpAnyH_take (i:=8) (v:=?_) A5 kR kR kR A6 (Or.inl ⟨rF,?_⟩) A7 ?_
     rotate_left 1
     ·(intro wS hSw;(try dsimp only at hSw);go_simp;try(with_reducible rfl))
     try simp only[Act.put,List.setIfInBounds_toArray,List.set_cons_zero,List.set_cons_succ]
     refine wpAnyH_take (i:=9) (v:=?_) A5 kR kR kR A6 (Or.inl ⟨rF,?_⟩) A7 ?_
     rotate_left 1
     ·(intro wS hSw;(try dsimp only at hSw);go_simp;try(with_reducible rfl))
     try simp only[Act.put,List.setIfInBounds_toArray,List.set_cons_zero,List.set_cons_succ]
     refine wpAnyH_take (i:=10) (v:=?_) A5 kR kR kR A6 (Or.inl ⟨rF,?_⟩) A7 ?_
     rotate_left 1
     ·(intro wS hSw;(try dsimp only at hSw);go_simp;try(with_reducible rfl))
     try simp only[Act.put,List.setIfInBounds_toArray,List.set_cons_zero,List.set_cons_succ]
     refine wpAnyH_take (i:=11) (v:=?_) A5 kR kR kR A6 (Or.inl ⟨rF,?_⟩) A7 ?_
     rotate_left 1
     ·(intro wS hSw;(try dsimp only at hSw);go_simp;try(with_reducible rfl))
     try simp only[Act.put,List.setIfInBounds_toArray,List.set_cons_zero,List.set_cons_succ]
     refine wpAnyH_take (i:=12) (v:=?_) A5 kR kR kR A6 (Or.inl ⟨rF,?_⟩) A7 ?_
     rotate_left 1
     ·(intro wS hSw;(try dsimp only at hSw);go_simp;try(with_reducible rfl))
     try simp only[Act.put,List.setIfInBounds_toArray,List.set_cons_zero,List.set_cons_succ]
     refine wpAnyH_take (i:=13) (v:=?_) A5 kR kR kR A6 (Or.inl ⟨rF,?_⟩) A7 ?_
     rotate_left 1
     ·(intro wS hSw;(try dsimp only at hSw);go_simp;try(with_reducible rfl))
     try simp only[Act.put,List.setIfInBounds_toArray,List.set_cons_zero,List.set_cons_succ]
     refine wpAnyH_take (i:=15) (v:=?_) A5 kR kR kR A6 (Or.inl ⟨rF,?_⟩) A7 ?_
     rotate_left 1
     ·(intro wS hSw;(try dsimp only at hSw);go_simp;try(with_reducible rfl))
     try simp only[Act.put,List.setIfInBounds_toArray,List.set_cons_zero,List.set_cons_succ]
     refine wpAnyH_take (i:=16) (v:=?_) A5 kR kR kR A6 (Or.inl ⟨rF,?_⟩) A7 ?_
     rotate_left 1
     ·(intro wS hSw;(try dsimp only at hSw);go_simp;try(with_reducible rfl))
     try simp only[Act.put,List.setIfInBounds_toArray,List.set_cons_zero,List.set_cons_succ]
     refine wpAnyH_take (i:=17) (v:=?_) A5 kR kR kR A6 (Or.inl ⟨rF,?_⟩) A7 ?_
     rotate_left 1
     ·(intro wS hSw;(try dsimp only at hSw);go_simp;try(with_reducible rfl))
     try simp only[Act.put,List.setIfInBounds_toArray,List.set_cons_zero,List.set_cons_succ]
     refine wpAnyH_take (i:=18) (v:=?_) A5 kR kR kR A6 (Or.inl ⟨rF,?_⟩) A7 ?_
     rotate_left 1
     ·(intro wS hSw;(try dsimp only at hSw);go_simp;try(with_reducible rfl))
     try simp only[Act.put,List.setIfInBounds_toArray,List.set_cons_zero,List.set_cons_succ]
     refine wpAnyH_take (i:=19) (v:=?_) A5 kR kR kR A6 (Or.inl ⟨rF,?_⟩) A7 ?_
     rotate_left 1
     ·(intro wS hSw;(try dsimp only at hSw);go_simp;try(with_reducible rfl))
     try simp only[Act.put,List.setIfInBounds_toArray,List.set_cons_zero,List.set_cons_succ]
     refine wpAnyH_take (i:=20) (v:=?_) A5 kR kR kR A6 (Or.inl ⟨rF,?_⟩) A7 ?_
     rotate_left 1
     ·(intro wS hSw;(try dsimp only at hSw);go_simp;try(with_reducible rfl))
     try simp only[Act.put,List.setIfInBounds_toArray,List.set_cons_zero,List.set_cons_succ]
     refine wpAnyH_take (i:=21) (v:=?_) A5 kR kR kR A6 (Or.inl ⟨rF,?_⟩) A7 ?_
     rotate_left 1
     ·(intro wS hSw;(try dsimp only at hSw);go_simp;try(with_reducible rfl))
     try simp only[Act.put,List.setIfInBounds_toArray,List.set_cons_zero,List.set_cons_succ]
     clear hJ;refine AO 14 fun K hK=>?_;go_simp;(go_at_call 52;(with_reducible refine(HVEC.out _ (bel HT0.out.bel HB1.out)).mono ?_);rintro e wz ⟨rfl,hbz⟩;have HBZ:Hid (Below ((w.alloc (.cells #[v0,v1,v2,v3] 27)).alloc (.cells #[.int .i64 op,.int .i64 D,.int .i64 A,.int .i64 Q,.int .i64 E,.int .i64 nn,.int .u32 bt] 53)).heap.size ((w.alloc (.cells #[v0,v1,v2,v3] 27)).alloc (.cells #[.int .i64 op,.int .i64 D,.int .i64 A,.int .i64 Q,.int .i64 E,.int .i64 nn,.int .u32 bt] 53)) wz):=bel HB1.out hbz;clear hbz c0 c1 c2 c3 i0 i1 i2 i3 i4 i5 i6 y1;obtain⟨-,c0,c1,c2,c3,i0,i1,i2,i3,i4,i5,i6⟩:=HT0.out.next HBZ.out;have y1:=kc (bel HT0.out.bel HBZ.out) z1);try(go_wp2_with fail)
     refine AP hK fun hJ=>?_;clear hK K;refine wpAnyH_take (i:=22) (v:=?_) A5 kR kR kR A6 (Or.inl ⟨rF,?_⟩) A7 ?_
     rotate_left 1
     ·(intro wS hSw;(try dsimp only at hSw);go_simp;try(with_reducible rfl))
     try simp only[Act.put,List.setIfInBounds_toArray,List.set_cons_zero,List.set_cons_succ]
     refine wpAnyH_take (i:=23) (v:=?_) A5 kR kR kR A6 (Or.inl ⟨rF,?_⟩) A7 ?_
     rotate_left 1
     ·(intro wS hSw;(try dsimp only at hSw);go_simp;try(with_reducible rfl))
     try simp only[Act.put,List.setIfInBounds_toArray,List.set_cons_zero,List.set_cons_succ]
     refine wpAnyH_take (i:=24) (v:=?_) A5 kR kR kR A6 (Or.inl ⟨rF,?_⟩) A7 ?_
     rotate_left 1
     ·(intro wS hSw;(try dsimp only at hSw);go_simp;try(with_reducible rfl))
     try simp only[Act.put,List.setIfInBounds_toArray,List.set_cons_zero,List.set_cons_succ]
     refine wpAnyH_done kR ?_ _;clear j0 j1 j2 hw y1 h7' h7b;exact Kw
    .rw[hVV,Bool.not_true,Bool.false_and]at hRES;have HQF:Hid (false=RES):=hRES;clear hRES;have hVb:(V==par)=false:=by simpa using hVV
     go_enter func35,ntmps35;go_wp2;refine rG (fun v=>v.cell? ⟨g,m*3+1,none⟩=some (.int .i64 par)/\v.cell? ⟨w.heap.size,0,none⟩=some v0/\v.cell? ⟨w.heap.size,1,none⟩=some v1/\v.cell? ⟨w.heap.size,2,none⟩=some v2/\v.cell? ⟨w.heap.size,3,none⟩=some v3/\v.cell? ⟨w.heap.size+1,0,none⟩=some (.int .i64 op)/\v.cell? ⟨w.heap.size+1,1,none⟩=some (.int .i64 D)/\v.cell? ⟨w.heap.size+1,2,none⟩=some (.int .i64 A)/\v.cell? ⟨w.heap.size+1,3,none⟩=some (.int .i64 Q)/\v.cell? ⟨w.heap.size+1,4,none⟩=some (.int .i64 E)/\v.cell? ⟨w.heap.size+1,5,none⟩=some (.int .i64 nn)/\v.cell? ⟨w.heap.size+1,6,none⟩=some (.int .u32 bt)) fun hJ=>?_;refine wpAnyH_take (i:=0) (v:=?_) A5 kR kR kR A6 (Or.inl ⟨rF,?_⟩) A7 ?_
     rotate_left 1
     ·(intro wS hSw;(try dsimp only at hSw);go_simp;try(with_reducible rfl))
     try simp only[Act.put,List.setIfInBounds_toArray,List.set_cons_zero,List.set_cons_succ]
     refine wpAnyH_take (i:=1) (v:=?_) A5 kR kR kR A6 (Or.inl ⟨rF,?_⟩) A7 ?_
     rotate_left 1
     ·(intro wS hSw;(try dsimp only at hSw);go_simp;try(with_reducible rfl))
     try simp only[Act.put,List.setIfInBounds_toArray,List.set_cons_zero,List.set_cons_succ]
     clear hJ;refine AO 2 fun K hK=>?_;go_simp;(go_at_call 51;(with_reducible refine(HFIT.out _ (bel HT0.out.bel (Aa _))).mono ?_);rintro e w1 ⟨rfl,hb1⟩;have HB1:Hid (Below ((w.alloc (.cells #[v0,v1,v2,v3] 27)).alloc (.cells #[.int .i64 op,.int .i64 D,.int .i64 A,.int .i64 Q,.int .i64 E,.int .i64 nn,.int .u32 bt] 53)).heap.size ((w.alloc (.cells #[v0,v1,v2,v3] 27)).alloc (.cells #[.int .i64 op,.int .i64 D,.int .i64 A,.int .i64 Q,.int .i64 E,.int .i64 nn,.int .u32 bt] 53)) w1):=bel (Aa _) hb1;clear hb1;obtain⟨-,c0,c1,c2,c3,i0,i1,i2,i3,i4,i5,i6⟩:=HT0.out.next HB1.out;have y1:=kc (bel HT0.out.bel HB1.out) z1);try(go_wp2_with fail)
     refine AP hK fun hJ=>?_;clear hK K;refine wpAnyH_take (i:=3) (v:=?_) A5 kR kR kR A6 (Or.inl ⟨rF,?_⟩) A7 ?_
     rotate_left 1
     ·(intro wS hSw;(try dsimp only at hSw);go_simp;try(with_reducible rfl))
     try simp only[Act.put,List.setIfInBounds_toArray,List.set_cons_zero,List.set_cons_succ]
     refine wpAnyH_take (i:=4) (v:=?_) A5 kR kR kR A6 (Or.inl ⟨rF,?_⟩) A7 ?_
     rotate_left 1
     ·(intro wS hSw;(try dsimp only at hSw);go_simp;try(with_reducible rfl))
     try simp only[Act.put,List.setIfInBounds_toArray,List.set_cons_zero,List.set_cons_succ]
     refine wpAnyH_take (i:=5) (v:=?_) A5 kR kR kR A6 (Or.inl ⟨rF,?_⟩) A7 ?_
     rotate_left 1
     ·(intro wS hSw;(try dsimp only at hSw);go_simp;try(with_reducible rfl))
     try simp only[Act.put,List.setIfInBounds_toArray,List.set_cons_zero,List.set_cons_succ]
     refine wpAnyH_take (i:=6) (v:=?_) A5 kR kR kR A6 (Or.inl ⟨rF,?_⟩) A7 ?_
     rotate_left 1
     ·(intro wS hSw;(try dsimp only at hSw);go_simp;try(with_reducible rfl))
     try simp only[Act.put,List.setIfInBounds_toArray,List.set_cons_zero,List.set_cons_succ]
     refine wpAnyH_take (i:=7) (v:=?_) A5 kR kR kR A6 (Or.inl ⟨rF,?_⟩) A7 ?_
     rotate_left 1
     ·(intro wS hSw;(try dsimp only at hSw);go_simp;try(with_reducible rfl))
     try simp only[Act.put,List.setIfInBounds_toArray,List.set_cons_zero,List.set_cons_succ]
     refine wpAnyH_take (i:=8) (v:=?_) A5 kR kR kR A6 (Or.inl ⟨rF,?_⟩) A7 ?_
     rotate_left 1
     ·(intro wS hSw;(try dsimp only at hSw);go_simp;try(with_reducible rfl))
     try simp only[Act.put,List.setIfInBounds_toArray,List.set_cons_zero,List.set_cons_succ]
     refine wpAnyH_take (i:=9) (v:=?_) A5 kR kR kR A6 (Or.inl ⟨rF,?_⟩) A7 ?_
     rotate_left 1
     ·(intro wS hSw;(try dsimp only at hSw);go_simp;try(with_reducible rfl))
     try simp only[Act.put,List.setIfInBounds_toArray,List.set_cons_zero,List.set_cons_succ]
     refine wpAnyH_take (i:=10) (v:=?_) A5 kR kR kR A6 (Or.inl ⟨rF,?_⟩) A7 ?_
     rotate_left 1
     ·(intro wS hSw;(try dsimp only at hSw);go_simp;try(with_reducible rfl))
     try simp only[Act.put,List.setIfInBounds_toArray,List.set_cons_zero,List.set_cons_succ]
     refine wpAnyH_take (i:=11) (v:=?_) A5 kR kR kR A6 (Or.inl ⟨rF,?_⟩) A7 ?_
     rotate_left 1
     ·(intro wS hSw;(try dsimp only at hSw);go_simp;try(with_reducible rfl))
     try simp only[Act.put,List.setIfInBounds_toArray,List.set_cons_zero,List.set_cons_succ]
     refine wpAnyH_take (i:=12) (v:=?_) A5 kR kR kR A6 (Or.inl ⟨rF,?_⟩) A7 ?_
     rotate_left 1
     ·(intro wS hSw;(try dsimp only at hSw);go_simp;try(with_reducible rfl))
     try simp only[Act.put,List.setIfInBounds_toArray,List.set_cons_zero,List.set_cons_succ]
     refine wpAnyH_take (i:=13) (v:=?_) A5 kR kR kR A6 (Or.inl ⟨rF,?_⟩) A7 ?_
     rotate_left 1
     ·(intro wS hSw;(try dsimp only at hSw);go_simp;try(with_reducible rfl))
     try simp only[Act.put,List.setIfInBounds_toArray,List.set_cons_zero,List.set_cons_succ]
     refine wpAnyH_take (i:=15) (v:=?_) A5 kR kR kR A6 (Or.inl ⟨rF,?_⟩) A7 ?_
     rotate_left 1
     ·(intro wS hSw;(try dsimp only at hSw);go_simp;try(with_reducible rfl))
     try simp only[Act.put,List.setIfInBounds_toArray,List.set_cons_zero,List.set_cons_succ]
     refine wpAnyH_take (i:=16) (v:=?_) A5 kR kR kR A6 (Or.inl ⟨rF,?_⟩) A7 ?_
     rotate_left 1
     ·(intro wS hSw;(try dsimp only at hSw);go_simp;try(with_reducible rfl))
     try simp only[Act.put,List.setIfInBounds_toArray,List.set_cons_zero,List.set_cons_succ]
     refine wpAnyH_take (i:=17) (v:=?_) A5 kR kR kR A6 (Or.inl ⟨rF,?_⟩) A7 ?_
     rotate_left 1
     ·(intro wS hSw;(try dsimp only at hSw);go_simp;try(with_reducible rfl))
     try simp only[Act.put,List.setIfInBounds_toArray,List.set_cons_zero,List.set_cons_succ]
     refine wpAnyH_take (i:=18) (v:=?_) A5 kR kR kR A6 (Or.inl ⟨rF,?_⟩) A7 ?_
     rotate_left 1
     ·(intro wS hSw;(try dsimp only at hSw);go_simp;try(with_reducible rfl))
     try simp only[Act.put,List.setIfInBounds_toArray,List.set_cons_zero,List.set_cons_succ]
     refine wpAnyH_take (i:=19) (v:=?_) A5 kR kR kR A6 (Or.inl ⟨rF,?_⟩) A7 ?_
     rotate_left 1
     ·(intro wS hSw;(try dsimp only at hSw);go_simp;try(with_reducible rfl))
     try simp only[Act.put,List.setIfInBounds_toArray,List.set_cons_zero,List.set_cons_succ]
     refine wpAnyH_take (i:=20) (v:=?_) A5 kR kR kR A6 (Or.inl ⟨rF,?_⟩) A7 ?_
     rotate_left 1
     ·(intro wS hSw;(try dsimp only at hSw);go_simp;try(with_reducible rfl))
     try simp only[Act.put,List.setIfInBounds_toArray,List.set_cons_zero,List.set_cons_succ]
     refine wpAnyH_take (i:=21) (v:=?_) A5 kR kR kR A6 (Or.inl ⟨rF,?_⟩) A7 ?_
     rotate_left 1
     ·(intro wS hSw;(try dsimp only at hSw);go_simp;try(with_reducible rfl))
     try simp only[Act.put,List.setIfInBounds_toArray,List.set_cons_zero,List.set_cons_succ]
     clear hJ;refine AO 14 fun K hK=>?_;go_simp;(go_at_call 52;(with_reducible refine(HVEC.out _ (bel HT0.out.bel HB1.out)).mono ?_);rintro e wz ⟨rfl,hbz⟩;have HBZ:Hid (Below ((w.alloc (.cells #[v0,v1,v2,v3] 27)).alloc (.cells #[.int .i64 op,.int .i64 D,.int .i64 A,.int .i64 Q,.int .i64 E,.int .i64 nn,.int .u32 bt] 53)).heap.size ((w.alloc (.cells #[v0,v1,v2,v3] 27)).alloc (.cells #[.int .i64 op,.int .i64 D,.int .i64 A,.int .i64 Q,.int .i64 E,.int .i64 nn,.int .u32 bt] 53)) wz):=bel HB1.out hbz;clear hbz c0 c1 c2 c3 i0 i1 i2 i3 i4 i5 i6 y1;obtain⟨-,c0,c1,c2,c3,i0,i1,i2,i3,i4,i5,i6⟩:=HT0.out.next HBZ.out;have y1:=kc (bel HT0.out.bel HBZ.out) z1);try(go_wp2_with fail)
     refine AP hK fun hJ=>?_;clear hK K;refine wpAnyH_take (i:=22) (v:=?_) A5 kR kR kR A6 (Or.inl ⟨rF,?_⟩) A7 ?_
     rotate_left 1
     ·(intro wS hSw;(try dsimp only at hSw);go_simp;try(with_reducible rfl))
     try simp only[Act.put,List.setIfInBounds_toArray,List.set_cons_zero,List.set_cons_succ]
     refine wpAnyH_take (i:=23) (v:=?_) A5 kR kR kR A6 (Or.inl ⟨rF,?_⟩) A7 ?_
     rotate_left 1
     ·(intro wS hSw;(try dsimp only at hSw);go_simp;try(with_reducible rfl))
     try simp only[Act.put,List.setIfInBounds_toArray,List.set_cons_zero,List.set_cons_succ]
     refine wpAnyH_take (i:=24) (v:=?_) A5 kR kR kR A6 (Or.inl ⟨rF,?_⟩) A7 ?_
     rotate_left 1
     ·(intro wS hSw;(try dsimp only at hSw);go_simp;try(with_reducible rfl))
     try simp only[Act.put,List.setIfInBounds_toArray,List.set_cons_zero,List.set_cons_succ]
     refine wpAnyH_done kR ?_ _;go_wp2;go_ret;exact⟨A9 HQF.out,bel hb00 HBZ.out⟩
structure CX(w:World)(v0 v1 v2 v3:Value)(v:World):Prop where
 bel:Below w.heap.size w v
 lt:w.heap.size<v.heap.size
 c0:v.cell? ⟨w.heap.size,0,none⟩=some v0
 c1:v.cell? ⟨w.heap.size,1,none⟩=some v1
 c2:v.cell? ⟨w.heap.size,2,none⟩=some v2
 c3:v.cell? ⟨w.heap.size,3,none⟩=some v3
theorem CX.next{w:World}{v0 v1 v2 v3:Value}{v v':World}(h:CX w v0 v1 v2 v3 v)(k:Below v.heap.size v v'):CX w v0 v1 v2 v3 v':=
 ⟨Go.Proofs.Ytheanilpbnencaa.bel h.bel k,Nat.lt_of_lt_of_le h.lt k.size,kc k h.c0,kc k h.c1,kc k h.c2,kc k h.c3⟩
theorem CX.on{w:World}{v0 v1 v2 v3:Value}{v v':World}(h:CX w v0 v1 v2 v3 v)(k:Below (w.heap.size+1) v v'):CX w v0 v1 v2 v3 v':=
 have f:∀j,v'.cell? ⟨w.heap.size,j,none⟩=v.cell? ⟨w.heap.size,j,none⟩:=fun j=>k.cell (Nat.lt_succ_self _)
 ⟨h.bel.trans (k.mono (Nat.le_succ _)),Nat.lt_of_lt_of_le h.lt k.size,(f 0).trans h.c0,(f 1).trans h.c1,(f 2).trans h.c2,(f 3).trans h.c3⟩
theorem CX.start(w:World)(v0 v1 v2 v3:Value):CX w v0 v1 v2 v3 (w.alloc (.cells #[v0,v1,v2,v3] 27)):=
 ⟨A0 _ _,sM,sG,sG,sG,sG⟩
theorem DJ{α:Type}(p:α->Bool){l:List α}{k:Nat}(h:k<l.length)(ht:(l.take k).all p=true)(hp:p l[k]=true):(l.take (k+1)).all p=true:=by
 rw[List.take_succ_eq_append_getElem h,List.all_append,ht];simp[hp]
theorem Fv{α:Type}(p:α->Bool){l:List α}{k:Nat}(h:k<l.length)(hp:p l[k]=false):l.all p=false:=by
 rw[List.all_eq_false];exact⟨l[k],gD h,by simp[hp]⟩
theorem BO(v0 v1 v2 v3:Value)(c:Cd)(hk:AN c)(w:World)(hv:BU w v0 v1 v2 v3 c)(E:Int)(hE:(At c.sign≠0/\E=At c.sign)\/(At c.sign=0/\(16384<c.regs.length\/32768<c.list.length)/\E=181)\/(At c.sign=0/\¬16384<c.regs.length/\¬32768<c.list.length/\4096<c.slots.length/\E=180)):
 Calls prog 23 #[.agg #[v0,v1,v2,v3]] w fun e w'=>e=.returned (.tuple #[.int .i64 E,.int .i64 (-1)])/\Below w.heap.size w w':=by
 have hSG:∀v,Below w.heap.size w v->Calls prog 32 #[v0] v fun e w'=>e=.returned (.int .i64 (At c.sign))/\Below v.heap.size v w':=fun v hb=>Dq v0 c.sign hk.signL hk.names v (hv.below hb).sign.rd;have l1:=hk.regsL;have l2:=hk.slotsL;have l3:=hk.listL;obtain⟨p0,q0,rfl,-⟩:=id hv.sign;obtain⟨p1,q1,rfl,-⟩:=id hv.regs;obtain⟨p2,q2,rfl,-⟩:=id hv.slots;obtain⟨p3,q3,rfl,-⟩:=id hv.list;obtain⟨n0,hn0⟩:∃n,c.sign.length=n:=⟨_,rfl⟩
 obtain⟨n1,hn1⟩:∃n,c.regs.length=n:=⟨_,rfl⟩
 obtain⟨n2,hn2⟩:∃n,c.slots.length=n:=⟨_,rfl⟩
 obtain⟨n3,hn3⟩:∃n,c.list.length=n:=⟨_,rfl⟩
 obtain⟨K,hK⟩:∃n,At c.sign=n:=⟨_,rfl⟩
 rw[hn0,hK]at hSG;rw[hK,hn1,hn2,hn3]at hE;rw[hn1]at l1;rw[hn2]at l2;rw[hn3]at l3;rw[hn0,hn1,hn2,hn3];have HSG:Hid _:=hSG;clear hSG hn0 hn1 hn2 hn3 hK hv hk;rcases hE with⟨h1,rfl⟩|⟨rfl,h2,rfl⟩|⟨rfl,h2,h3,h4,rfl⟩
 .have h1':(E==0)=false:=by simpa using h1
  have h1'':(E != 0)=true:=by simpa using h1
  exact Ka
 .by_cases h5:16384<n1
  .have h6:(16384:Int)<(n1:Int):=oM;exact Ka
  .have h6:(n1:Int)<=16384:=oM;have h7:(32768:Int)<(n3:Int):=oM;clear h5;exact Ka
 .have h6:(n1:Int)<=16384:=oM;have h7:(n3:Int)<=32768:=oM;have h8:(4096:Int)<(n2:Int):=oM;exact Ka
theorem Jj:prog.underlying 78=some (.slice (prog.elem 78)):=kR
theorem Js:prog.elem 78=82:=kR
theorem In(w:World):(sizeOf (prog.elem 78)).run prog w=.ok 3 w:=by rw[Js];exact Try.sizeOf82 w
theorem CF{a b x y:Int}(h:(a,b)=(x,y)):(Ending.returned (.tuple #[.int .i64 a,.int .i64 b]))=.returned (.tuple #[.int .i64 x,.int .i64 y]):=by cases h;rfl
theorem Ex(v0 v1 v2 v3:Value)(c:Cd)(hk:AN c)(w:World)(hv:BU w v0 v1 v2 v3 c)(hS:At c.sign=0)(h1:c.regs.length<=16384)(h3:c.list.length<=32768)(h2:c.slots.length<=4096)(RA RB:Int)(hRES:(if(Af c&&AJ c)=true then DC c ⟨[],[]⟩ 0 c.list else(160,-1))=(RA,RB)):
 Calls prog 23 #[.agg #[v0,v1,v2,v3]] w fun e w'=>e=.returned (.tuple #[.int .i64 RA,.int .i64 RB])/\Below w.heap.size w w':=by
 have hSG:∀v,Below w.heap.size w v->Calls prog 32 #[v0] v fun e w'=>e=.returned (.int .i64 0)/\Below v.heap.size v w':=fun v hb=>by rw[<-hS];exact Dq v0 c.sign hk.signL hk.names v (hv.below hb).sign.rd
 have l0:=hk.signL;obtain⟨p0,q0,rfl,-⟩:=id hv.sign;obtain⟨p1,q1,rfl,-⟩:=id hv.regs;obtain⟨p2,q2,rfl,-⟩:=id hv.slots;obtain⟨p3,q3,rfl,-⟩:=id hv.list;have HREGS:Hid (Bl 2 Gd w (.slice p1 c.regs.length q1) c.regs):=hv.regs;have HSLOTS:Hid (Bl 5 GJ w (.slice p2 c.slots.length q2) c.slots):=hv.slots;have HLIST:Hid (Bl 7 C1 w (.slice p3 c.list.length q3) c.list):=hv.list;have HMT:Hid (∀ (t:Ty) v,Calls prog 33 #[.agg #[.int .i64 t.kind,.int .i64 t.par],.slice p0 c.sign.length q0] v fun e w'=>e=.returned (.bool (Am t c.sign.length))/\Below v.heap.size v w'):=fun t v=>CG t p0 _ q0 hk.signL v;have HMS:Hid (∀ (s:Sl),s∈c.slots->∀v,Calls prog 34 #[.agg #[.int .i64 s.ty.kind,.int .i64 s.ty.par,.bool s.keep,.int .u32 s.bits,.int .i64 s.int_],.slice p0 c.sign.length q0] v fun e w'=>e=.returned (.bool (AE s c.sign.length))/\Below v.heap.size v w'):=fun s hs v=>E6 s (hk.sbits s hs).1 (hk.sbits s hs).2 p0 _ q0 hk.signL v;have HCV:Hid (BU w (.slice p0 c.sign.length q0) (.slice p1 c.regs.length q1) (.slice p2 c.slots.length q2) (.slice p3 c.list.length q3) c):=hv;have HCO:Hid (AN c):=hk;have HRES:Hid ((if(Af c&&AJ c)=true then DC c ⟨[],[]⟩ 0 c.list else(160,-1))=(RA,RB)):=hRES;obtain⟨n0,hn0⟩:∃n,c.sign.length=n:=⟨_,rfl⟩
 obtain⟨n1,hn1⟩:∃n,c.regs.length=n:=⟨_,rfl⟩
 obtain⟨n2,hn2⟩:∃n,c.slots.length=n:=⟨_,rfl⟩
 obtain⟨n3,hn3⟩:∃n,c.list.length=n:=⟨_,rfl⟩
 have HN0:Hid (c.sign.length=n0):=hn0;have HN1:Hid (c.regs.length=n1):=hn1;have HN2:Hid (c.slots.length=n2):=hn2;have HN3:Hid (c.list.length=n3):=hn3;rw[hn0]at hSG l0 HMT HMS;rw[hn1]at h1 HREGS;rw[hn2]at h2 HSLOTS;rw[hn3]at h3 HLIST;rw[hn0,hn1,hn2,hn3]at HCV |-;have HSG:Hid _:=hSG;have g1:(n1:Int)<=16384:=oM;have g2:(n2:Int)<=4096:=oM;have g3:(n3:Int)<=32768:=oM;clear hSG hn0 hn1 hn2 hn3 hv hk hS hRES;go_enter func23,ntmps23;go_wp2_with(go_at_call 32;(with_reducible refine(HSG.out _ (A0 _ _)).mono ?_);rintro e w1 ⟨rfl,hb1⟩;have HX1:Hid (CX w (.slice p0 n0 q0) (.slice p1 n1 q1) (.slice p2 n2 q2) (.slice p3 n3 q3) w1):=(CX.start w _ _ _ _).next hb1;obtain⟨b1,b2,c0,c1,c2,c3⟩:=HX1.out;clear hb1);clear c0 c1 c2 c3 b1 b2
 go_loopw [5] (fun iv wr=>CX w (.slice p0 n0 q0) (.slice p1 n1 q1) (.slice p2 n2 q2) (.slice p3 n3 q3) wr/\∃j:Nat,j<=n1/\iv=.int .i64 (j:Int)/\Hid ((c.regs.take j).all (fun t=>Am t n0)=true)) (fun iv _=>n1-(intOf iv).toNat)
 case atStart=>exact⟨HX1.out,0,gI _,rfl,by show _=_;simp⟩
 case round=>
  obtain⟨hcx,j,hj,rfl,hall⟩:=hrel;have HCX:Hid (CX w (.slice p0 n0 q0) (.slice p1 n1 q1) (.slice p2 n2 q2) (.slice p3 n3 q3) wr):=hcx;obtain⟨b1,b2,c0,c1,c2,c3⟩:=hcx;clear HX1;by_cases hlt:j<n1
  .have hll:j<c.regs.length:=by rw[HN1.out];exact hlt
   obtain⟨b,o,rfl,hx⟩:=HREGS.at hll;have KN:=HMT.out c.regs[j];have NX:Hid (Am c.regs[j] n0=true->(c.regs.take (j+1)).all (fun t=>Am t n0)=true):=fun h=>DJ _ hll hall.out h;have NB:Hid (Am c.regs[j] n0=false->(160,-1)=(RA,RB)):=fun h=>by
    have h5:Af c=false:=by unfold Af;rw[HN0.out];exact Fv _ hll h
    have h6:=HRES.out;rw[h5,Bool.false_and,if_neg dE]at h6;exact h6
   obtain⟨⟨K,P⟩,hT⟩:∃T:Ty,c.regs[j]=T:=⟨_,rfl⟩
   rw[hT]at hx KN NX NB;have y0:wr.cell? ⟨b,o+j*2,none⟩=some (.int .i64 K):=kc b1 (hx.at 0 rfl);have y1:wr.cell? ⟨b,o+j*2+1,none⟩=some (.int .i64 P):=kc b1 (hx.at 1 rfl);obtain⟨X,hX⟩:=gA (Am ⟨K,P⟩ n0)
   rw[hX]at NX NB;simp only[hX]at KN;have HK:Hid (∀v,Calls prog 33 #[.agg #[.int .i64 K,.int .i64 P],.slice p0 n0 q0] v fun e w'=>e=.returned (.bool X)/\Below v.heap.size v w'):=KN;have i1:(0:Int)<=(j:Int):=oM;have i2:(j:Int)<(n1:Int):=oM;clear KN hT hX hx hall;cases X
   .go_wp2;refine rG (fun v=>v.cell? ⟨w.heap.size,1,none⟩=some (.slice (some ⟨b,o,none⟩) n1 q1)/\v.cell? ⟨w.heap.size,0,none⟩=some (.slice p0 n0 q0)/\v.cell? ⟨b,o+j*2,none⟩=some (.int .i64 K)/\v.cell? ⟨b,o+j*2+1,none⟩=some (.int .i64 P)) fun hJ=>?_;refine wpAnyH_take (i:=0) (v:=?_) A5 kR kR kR A6 (Or.inl ⟨rF,?_⟩) A7 ?_
    rotate_left 1
    ·(intro wS hSw;(try dsimp only at hSw);go_simp;try(with_reducible rfl))
    try simp only[Act.put,List.setIfInBounds_toArray,List.set_cons_zero,List.set_cons_succ]
    refine wpAnyH_take (i:=1) (v:=?_) A5 kR kR kR A6 (Or.inl ⟨rF,?_⟩) A7 ?_
    rotate_left 1
    ·(intro wS hSw;(try dsimp only at hSw);go_simp;try(with_reducible rfl))
    try simp only[Act.put,List.setIfInBounds_toArray,List.set_cons_zero,List.set_cons_succ]
    refine wpAnyH_take (i:=2) (v:=?_) A5 kR kR kR A6 (Or.inl ⟨rF,?_⟩) A7 ?_
    rotate_left 1
    ·(intro wS hSw;(try dsimp only at hSw);go_simp;try(with_reducible rfl))
    try simp only[Act.put,List.setIfInBounds_toArray,List.set_cons_zero,List.set_cons_succ]
    refine wpAnyH_take (i:=3) (v:=?_) A5 kR kR kR A6 (Or.inl ⟨rF,?_⟩) A7 ?_
    rotate_left 1
    ·(intro wS hSw;(try dsimp only at hSw);go_simp;try(with_reducible rfl))
    try simp only[Act.put,List.setIfInBounds_toArray,List.set_cons_zero,List.set_cons_succ]
    refine wpAnyH_take (i:=4) (v:=?_) A5 kR kR kR A6 (Or.inl ⟨rF,?_⟩) A7 ?_
    rotate_left 1
    ·(intro wS hSw;(try dsimp only at hSw);go_simp;try(with_reducible rfl))
    try simp only[Act.put,List.setIfInBounds_toArray,List.set_cons_zero,List.set_cons_succ]
    refine wpAnyH_take (i:=5) (v:=?_) A5 kR kR kR A6 (Or.inl ⟨rF,?_⟩) A7 ?_
    rotate_left 1
    ·(intro wS hSw;(try dsimp only at hSw);go_simp;try(with_reducible rfl))
    try simp only[Act.put,List.setIfInBounds_toArray,List.set_cons_zero,List.set_cons_succ]
    refine wpAnyH_take (i:=6) (v:=?_) A5 kR kR kR A6 (Or.inl ⟨rF,?_⟩) A7 ?_
    rotate_left 1
    ·(intro wS hSw;(try dsimp only at hSw);go_simp;try(with_reducible rfl))
    try simp only[Act.put,List.setIfInBounds_toArray,List.set_cons_zero,List.set_cons_succ]
    clear hJ;refine AO 7 fun K hK=>?_;go_simp;(go_at_call 33;(with_reducible refine(HK.out _).mono ?_);rintro e w2 ⟨rfl,hb2⟩;have HB2:Hid (Below wr.heap.size wr w2):=bel (Aa _) hb2;clear hb2;obtain⟨-,-,c0,c1,c2,c3⟩:=HCX.out.next HB2.out;have x0:=kc HB2.out y0;have x1:=kc HB2.out y1);exact Ls
   .go_wp2;refine rG (fun v=>v.cell? ⟨w.heap.size,1,none⟩=some (.slice (some ⟨b,o,none⟩) n1 q1)/\v.cell? ⟨w.heap.size,0,none⟩=some (.slice p0 n0 q0)/\v.cell? ⟨b,o+j*2,none⟩=some (.int .i64 K)/\v.cell? ⟨b,o+j*2+1,none⟩=some (.int .i64 P)) fun hJ=>?_;refine wpAnyH_take (i:=0) (v:=?_) A5 kR kR kR A6 (Or.inl ⟨rF,?_⟩) A7 ?_
    rotate_left 1
    ·(intro wS hSw;(try dsimp only at hSw);go_simp;try(with_reducible rfl))
    try simp only[Act.put,List.setIfInBounds_toArray,List.set_cons_zero,List.set_cons_succ]
    refine wpAnyH_take (i:=1) (v:=?_) A5 kR kR kR A6 (Or.inl ⟨rF,?_⟩) A7 ?_
    rotate_left 1
    ·(intro wS hSw;(try dsimp only at hSw);go_simp;try(with_reducible rfl))
    try simp only[Act.put,List.setIfInBounds_toArray,List.set_cons_zero,List.set_cons_succ]
    refine wpAnyH_take (i:=2) (v:=?_) A5 kR kR kR A6 (Or.inl ⟨rF,?_⟩) A7 ?_
    rotate_left 1
    ·(intro wS hSw;(try dsimp only at hSw);go_simp;try(with_reducible rfl))
    try simp only[Act.put,List.setIfInBounds_toArray,List.set_cons_zero,List.set_cons_succ]
    refine wpAnyH_take (i:=3) (v:=?_) A5 kR kR kR A6 (Or.inl ⟨rF,?_⟩) A7 ?_
    rotate_left 1
    ·(intro wS hSw;(try dsimp only at hSw);go_simp;try(with_reducible rfl))
    try simp only[Act.put,List.setIfInBounds_toArray,List.set_cons_zero,List.set_cons_succ]
    refine wpAnyH_take (i:=4) (v:=?_) A5 kR kR kR A6 (Or.inl ⟨rF,?_⟩) A7 ?_
    rotate_left 1
    ·(intro wS hSw;(try dsimp only at hSw);go_simp;try(with_reducible rfl))
    try simp only[Act.put,List.setIfInBounds_toArray,List.set_cons_zero,List.set_cons_succ]
    refine wpAnyH_take (i:=5) (v:=?_) A5 kR kR kR A6 (Or.inl ⟨rF,?_⟩) A7 ?_
    rotate_left 1
    ·(intro wS hSw;(try dsimp only at hSw);go_simp;try(with_reducible rfl))
    try simp only[Act.put,List.setIfInBounds_toArray,List.set_cons_zero,List.set_cons_succ]
    refine wpAnyH_take (i:=6) (v:=?_) A5 kR kR kR A6 (Or.inl ⟨rF,?_⟩) A7 ?_
    rotate_left 1
    ·(intro wS hSw;(try dsimp only at hSw);go_simp;try(with_reducible rfl))
    try simp only[Act.put,List.setIfInBounds_toArray,List.set_cons_zero,List.set_cons_succ]
    clear hJ;refine AO 7 fun K hK=>?_;go_simp;(go_at_call 33;(with_reducible refine(HK.out _).mono ?_);rintro e w2 ⟨rfl,hb2⟩;have HB2:Hid (Below wr.heap.size wr w2):=bel (Aa _) hb2;clear hb2;obtain⟨-,-,c0,c1,c2,c3⟩:=HCX.out.next HB2.out;have x0:=kc HB2.out y0;have x1:=kc HB2.out y1);exact Lr
  have hjn:j=n1:=oM;have HT:Hid (Af c=true):=by
   show _=_;have h5:=hall.out;rw[hjn,<-HN1.out,List.take_length]at h5;unfold Af;rw[HN0.out];exact h5
  have e1:¬ (j:Int)<(n1:Int):=oM;clear hall hlt;go_wp2;clear e1 c0 c1 c2 c3 b1 b2
  go_loopw [6] (fun iv wr=>CX w (.slice p0 n0 q0) (.slice p1 n1 q1) (.slice p2 n2 q2) (.slice p3 n3 q3) wr/\∃j:Nat,j<=n2/\iv=.int .i64 (j:Int)/\Hid ((c.slots.take j).all (fun s=>AE s n0)=true)) (fun iv _=>n2-(intOf iv).toNat)
  case atStart=>exact⟨HCX.out,0,gI _,rfl,by show _=_;simp⟩
  case round=>
   obtain⟨hcx,j,hj,rfl,hall⟩:=hrel;have HCX:Hid (CX w (.slice p0 n0 q0) (.slice p1 n1 q1) (.slice p2 n2 q2) (.slice p3 n3 q3) wr):=hcx;obtain⟨b1,b2,c0,c1,c2,c3⟩:=hcx;by_cases hlt:j<n2
   .have hll:j<c.slots.length:=by rw[HN2.out];exact hlt
    obtain⟨b,o,rfl,hx⟩:=HSLOTS.at hll;have KN:=HMS.out c.slots[j] (gD hll);have NX:Hid (AE c.slots[j] n0=true->(c.slots.take (j+1)).all (fun s=>AE s n0)=true):=fun h=>DJ _ hll hall.out h;have NB:Hid (AE c.slots[j] n0=false->(160,-1)=(RA,RB)):=fun h=>by
     have h5:AJ c=false:=by unfold AJ;rw[HN0.out];exact Fv _ hll h
     have h6:=HRES.out;rw[h5,Bool.and_false,if_neg dE]at h6;exact h6
    obtain⟨⟨⟨K,P⟩,kp,sb,si⟩,hT⟩:∃T:Sl,c.slots[j]=T:=⟨_,rfl⟩
    rw[hT]at hx KN NX NB;have y0:wr.cell? ⟨b,o+j*5,none⟩=some (.int .i64 K):=kc b1 (hx.at 0 rfl);have y1:wr.cell? ⟨b,o+j*5+1,none⟩=some (.int .i64 P):=kc b1 (hx.at 1 rfl);have y2:wr.cell? ⟨b,o+j*5+2,none⟩=some (.bool kp):=kc b1 (hx.at 2 rfl);have y3:wr.cell? ⟨b,o+j*5+3,none⟩=some (.int .u32 sb):=kc b1 (hx.at 3 rfl);have y4:wr.cell? ⟨b,o+j*5+4,none⟩=some (.int .i64 si):=kc b1 (hx.at 4 rfl);obtain⟨X,hX⟩:=gA (AE ⟨⟨K,P⟩,kp,sb,si⟩ n0)
    rw[hX]at NX NB;simp only[hX]at KN;have HK:Hid (∀v,Calls prog 34 #[.agg #[.int .i64 K,.int .i64 P,.bool kp,.int .u32 sb,.int .i64 si],.slice p0 n0 q0] v fun e w'=>e=.returned (.bool X)/\Below v.heap.size v w'):=KN;have i1:(0:Int)<=(j:Int):=oM;have i2:(j:Int)<(n2:Int):=oM;clear KN hT hX hx hall;cases X
    .go_wp2;refine rG (fun v=>v.cell? ⟨w.heap.size,2,none⟩=some (.slice (some ⟨b,o,none⟩) n2 q2)/\v.cell? ⟨w.heap.size,0,none⟩=some (.slice p0 n0 q0)/\v.cell? ⟨b,o+j*5,none⟩=some (.int .i64 K)/\v.cell? ⟨b,o+j*5+1,none⟩=some (.int .i64 P)/\v.cell? ⟨b,o+j*5+2,none⟩=some (.bool kp)/\v.cell? ⟨b,o+j*5+3,none⟩=some (.int .u32 sb)/\v.cell? ⟨b,o+j*5+4,none⟩=some (.int .i64 si)) fun hJ=>?_;refine wpAnyH_take (i:=0) (v:=?_) A5 kR kR kR A6 (Or.inl ⟨rF,?_⟩) A7 ?_
     rotate_left 1
     ·(intro wS hSw;(try dsimp only at hSw);go_simp;try(with_reducible rfl))
     try simp only[Act.put,List.setIfInBounds_toArray,List.set_cons_zero,List.set_cons_succ]
     refine wpAnyH_take (i:=1) (v:=?_) A5 kR kR kR A6 (Or.inl ⟨rF,?_⟩) A7 ?_
     rotate_left 1
     ·(intro wS hSw;(try dsimp only at hSw);go_simp;try(with_reducible rfl))
     try simp only[Act.put,List.setIfInBounds_toArray,List.set_cons_zero,List.set_cons_succ]
     refine wpAnyH_take (i:=2) (v:=?_) A5 kR kR kR A6 (Or.inl ⟨rF,?_⟩) A7 ?_
     rotate_left 1
     ·(intro wS hSw;(try dsimp only at hSw);go_simp;try(with_reducible rfl))
     try simp only[Act.put,List.setIfInBounds_toArray,List.set_cons_zero,List.set_cons_succ]
     refine wpAnyH_take (i:=3) (v:=?_) A5 kR kR kR A6 (Or.inl ⟨rF,?_⟩) A7 ?_
     rotate_left 1
     ·(intro wS hSw;(try dsimp only at hSw);go_simp;try(with_reducible rfl))
     try simp only[Act.put,List.setIfInBounds_toArray,List.set_cons_zero,List.set_cons_succ]
     refine wpAnyH_take (i:=4) (v:=?_) A5 kR kR kR A6 (Or.inl ⟨rF,?_⟩) A7 ?_
     rotate_left 1
     ·(intro wS hSw;(try dsimp only at hSw);go_simp;try(with_reducible rfl))
     try simp only[Act.put,List.setIfInBounds_toArray,List.set_cons_zero,List.set_cons_succ]
     refine wpAnyH_take (i:=5) (v:=?_) A5 kR kR kR A6 (Or.inl ⟨rF,?_⟩) A7 ?_
     rotate_left 1
     ·(intro wS hSw;(try dsimp only at hSw);go_simp;try(with_reducible rfl))
     try simp only[Act.put,List.setIfInBounds_toArray,List.set_cons_zero,List.set_cons_succ]
     refine wpAnyH_take (i:=6) (v:=?_) A5 kR kR kR A6 (Or.inl ⟨rF,?_⟩) A7 ?_
     rotate_left 1
     ·(intro wS hSw;(try dsimp only at hSw);go_simp;try(with_reducible rfl))
     try simp only[Act.put,List.setIfInBounds_toArray,List.set_cons_zero,List.set_cons_succ]
     clear hJ;refine AO 7 fun K hK=>?_;go_simp;(go_at_call 34;(with_reducible refine(HK.out _).mono ?_);rintro e w2 ⟨rfl,hb2⟩;have HB2:Hid (Below wr.heap.size wr w2):=bel (Aa _) hb2;clear hb2;obtain⟨-,-,c0,c1,c2,c3⟩:=HCX.out.next HB2.out;have x0:=kc HB2.out y0;have x1:=kc HB2.out y1;have x2:=kc HB2.out y2;have x3:=kc HB2.out y3;have x4:=kc HB2.out y4);exact Ls
    .go_wp2;refine rG (fun v=>v.cell? ⟨w.heap.size,2,none⟩=some (.slice (some ⟨b,o,none⟩) n2 q2)/\v.cell? ⟨w.heap.size,0,none⟩=some (.slice p0 n0 q0)/\v.cell? ⟨b,o+j*5,none⟩=some (.int .i64 K)/\v.cell? ⟨b,o+j*5+1,none⟩=some (.int .i64 P)/\v.cell? ⟨b,o+j*5+2,none⟩=some (.bool kp)/\v.cell? ⟨b,o+j*5+3,none⟩=some (.int .u32 sb)/\v.cell? ⟨b,o+j*5+4,none⟩=some (.int .i64 si)) fun hJ=>?_;refine wpAnyH_take (i:=0) (v:=?_) A5 kR kR kR A6 (Or.inl ⟨rF,?_⟩) A7 ?_
     rotate_left 1
     ·(intro wS hSw;(try dsimp only at hSw);go_simp;try(with_reducible rfl))
     try simp only[Act.put,List.setIfInBounds_toArray,List.set_cons_zero,List.set_cons_succ]
     refine wpAnyH_take (i:=1) (v:=?_) A5 kR kR kR A6 (Or.inl ⟨rF,?_⟩) A7 ?_
     rotate_left 1
     ·(intro wS hSw;(try dsimp only at hSw);go_simp;try(with_reducible rfl))
     try simp only[Act.put,List.setIfInBounds_toArray,List.set_cons_zero,List.set_cons_succ]
     refine wpAnyH_take (i:=2) (v:=?_) A5 kR kR kR A6 (Or.inl ⟨rF,?_⟩) A7 ?_
     rotate_left 1
     ·(intro wS hSw;(try dsimp only at hSw);go_simp;try(with_reducible rfl))
     try simp only[Act.put,List.setIfInBounds_toArray,List.set_cons_zero,List.set_cons_succ]
     refine wpAnyH_take (i:=3) (v:=?_) A5 kR kR kR A6 (Or.inl ⟨rF,?_⟩) A7 ?_
     rotate_left 1
     ·(intro wS hSw;(try dsimp only at hSw);go_simp;try(with_reducible rfl))
     try simp only[Act.put,List.setIfInBounds_toArray,List.set_cons_zero,List.set_cons_succ]
     refine wpAnyH_take (i:=4) (v:=?_) A5 kR kR kR A6 (Or.inl ⟨rF,?_⟩) A7 ?_
     rotate_left 1
     ·(intro wS hSw;(try dsimp only at hSw);go_simp;try(with_reducible rfl))
     try simp only[Act.put,List.setIfInBounds_toArray,List.set_cons_zero,List.set_cons_succ]
     refine wpAnyH_take (i:=5) (v:=?_) A5 kR kR kR A6 (Or.inl ⟨rF,?_⟩) A7 ?_
     rotate_left 1
     ·(intro wS hSw;(try dsimp only at hSw);go_simp;try(with_reducible rfl))
     try simp only[Act.put,List.setIfInBounds_toArray,List.set_cons_zero,List.set_cons_succ]
     refine wpAnyH_take (i:=6) (v:=?_) A5 kR kR kR A6 (Or.inl ⟨rF,?_⟩) A7 ?_
     rotate_left 1
     ·(intro wS hSw;(try dsimp only at hSw);go_simp;try(with_reducible rfl))
     try simp only[Act.put,List.setIfInBounds_toArray,List.set_cons_zero,List.set_cons_succ]
     clear hJ;refine AO 7 fun K hK=>?_;go_simp;(go_at_call 34;(with_reducible refine(HK.out _).mono ?_);rintro e w2 ⟨rfl,hb2⟩;have HB2:Hid (Below wr.heap.size wr w2):=bel (Aa _) hb2;clear hb2;obtain⟨-,-,c0,c1,c2,c3⟩:=HCX.out.next HB2.out;have x0:=kc HB2.out y0;have x1:=kc HB2.out y1;have x2:=kc HB2.out y2;have x3:=kc HB2.out y3;have x4:=kc HB2.out y4);exact Lr
   have hjn2:j=n2:=oM;have HGO0:Hid (DC c ⟨[],[]⟩ 0 c.list=(RA,RB)):=by
    show _=_;have h5:=hall.out;rw[hjn2,<-HN2.out,List.take_length]at h5;have h6:AJ c=true:=by unfold AJ;rw[HN0.out];exact h5
    have h7:=HRES.out;rw[HT.out,h6,if_pos rF]at h7;exact h7
   have e1:¬ (j:Int)<(n2:Int):=oM;clear hall hlt;go_wp2;clear e1 c0 c1 c2 c3 b1 b2
   go_loopw [7,8] (fun sv iv wr=>CX w (.slice p0 n0 q0) (.slice p1 n1 q1) (.slice p2 n2 q2) (.slice p3 n3 q3) wr/\∃ (k:Nat) (p:Option Addr) (q:Nat),k<=n1/\iv=.int .i64 (k:Int)/\sv=.slice p k q/\wr.ownsRow (w.heap.size+1) 4 1 (.slice p k q) k (Bc k [])) (fun _ iv _=>n1-(intOf iv).toNat)
   case atStart=>exact⟨HCX.out,0,none,0,gI _,rfl,rfl,by rw[show Bc 0 []=[] from rfl];exact World.ownsRow_nil _ _ _ 1⟩
   case round=>
    obtain⟨hcx,k,p,q,hkn,rfl,rfl,how⟩:=hrel;have HCX:Hid (CX w (.slice p0 n0 q0) (.slice p1 n1 q1) (.slice p2 n2 q2) (.slice p3 n3 q3) wr):=hcx;obtain⟨b1,b2,c0,c1,c2,c3⟩:=hcx;by_cases hkl:k<n1
    .obtain⟨g,c',w8,hap,hb8,ho8⟩:=GV how oM oM;have HAP:Hid ((Builtin.append_ #[67,67] 67 #[.slice p k q,.slice (some ⟨wr.heap.size,0,none⟩) 1 1]).run prog (wr.alloc (.cells #[.bool false] 4))=.ok (.slice (some ⟨g,0,none⟩) (k+1) c') w8):=hap;have HY8:Hid (CX w (.slice p0 n0 q0) (.slice p1 n1 q1) (.slice p2 n2 q2) (.slice p3 n3 q3) w8/\w8.ownsRow (w.heap.size+1) 4 1 (.slice (some ⟨g,0,none⟩) (k+1) c') (k+1) (Bc (k+1) [])):=by
      refine⟨HCX.on hb8,?_⟩;rw[EE,List.replicate_succ',<-EE];exact ho8
     have i2:(k:Int)<(n1:Int):=oM;have wi:IntKind.i64.wrap ((k:Int)+1)=((k+1:Nat):Int):=by rw[IntKind.wrap_i64];omega
     clear hap hb8 ho8 how;go_wp2_with(at_builtin;refine B7 rF _ _ _ rF _ _ _ rF rF HAP.out ?_);go_roundw
     case rel=>exact⟨HY8.1,k+1,_,_,oM,gN,rfl,HY8.2⟩
     case measure=>simp[intOf];omega
    have hkn1:k=n1:=oM;subst hkn1;have HSK0:Hid (SK (w.heap.size+1) k wr (.slice p k q) (.slice none 0 0) ⟨[],[]⟩ []):=SK.start wr _ b2 how;have e1:¬ (k:Int)<(k:Int):=oM;clear how hkl;go_wp2;clear e1 c0 c1 c2 c3 b1 b2
    go_loopw [7,9,10] (fun sv ov iv wr=>CX w (.slice p0 n0 q0) (.slice p1 k q1) (.slice p2 n2 q2) (.slice p3 n3 q3) wr/\∃ (j:Nat) (s:Wk) (us:List Value),j<=n3/\iv=.int .i64 (j:Int)/\Hid (SK (w.heap.size+1) k wr sv ov s us)/\Hid (BG k s)/\Hid (Bv s)/\Hid (DC c s j (c.list.drop j)=(RA,RB))) (fun _ _ iv _=>n3-(intOf iv).toNat)
    case atStart=>exact⟨HCX.out,0,⟨[],[]⟩,[],gI _,rfl,HSK0.out,BG.start k,Bv.start,by show _=_;rw[List.drop_zero];exact HGO0.out⟩
    case round=>
     obtain⟨hcx,j,s,us,hj,rfl,hsk,hok,hpo,hgo⟩:=hrel;obtain⟨po,qo,rfl⟩:=Ax hsk.opn;obtain⟨ps,qs,rfl⟩:=Ax hsk.set;have HCX:Hid (CX w (.slice p0 n0 q0) (.slice p1 k q1) (.slice p2 n2 q2) (.slice p3 n3 q3) wr):=hcx;obtain⟨b1,b2,f0,f1,f2,f3⟩:=hcx;have hnest:=hok.nest;clear HSK0;by_cases hlt:j<n3
     .have hll:j<c.list.length:=by rw[HN3.out];exact hlt
      obtain⟨b,o,rfl,hx⟩:=HLIST.at hll;have hgo':=hgo.out;rw[List.drop_eq_getElem_cons hll]at hgo';have hgi:DC c s j (c.list[j]::c.list.drop (j+1))=if AH c s c.list[j]then DC c (Ar s c.list[j]) (j+1) (c.list.drop (j+1))else(160,(j:Int)):=rfl;rw[hgi]at hgo';have hib:=HCO.ibits c.list[j] (gD hll);have hos:AH c s c.list[j]=true->BG k (Ar s c.list[j])/\Bv (Ar s c.list[j]):=fun ht=>by
       have hq:BG c.regs.length s:=by rw[HN1.out];exact hok.out
       have h5:=BG.step hq ht;rw[HN1.out]at h5;exact⟨h5,hpo.step ht⟩
      have htk:AH c s c.list[j]=true->AM c c.list[j] (Ad c.list[j].op)=true/\Au c s c.list[j] (Ad c.list[j].op)=true:=fun ht=>by
       obtain⟨-,h5,h6,-⟩:=Cw ht;exact⟨h5,h6⟩
      obtain⟨⟨op,D,A,Q,E,nn,bt⟩,hxx⟩:∃x:Ay,c.list[j]=x:=⟨_,rfl⟩
      rw[hxx]at hx hgo' hos htk hib;have KS:=EB _ _ _ _ c HCO.out HT.out (⟨op,D,A,Q,E,nn,bt⟩:Ay) hib.1 hib.2 (w.heap.size+1) s (.slice ps k qs) (.slice po s.opens.length qo) us (by rw[HN1.out];exact h1) (by rw[HN1.out];exact hok.out) hpo.out (wr.alloc (.cells #[.int .i64 op,.int .i64 D,.int .i64 A,.int .i64 Q,.int .i64 E,.int .i64 nn,.int .u32 bt] 53)) ((HCV.below b1).below (A0 _ _)) (by rw[HN1.out];exact hsk.below (A0 _ _));have x0:=kc b1 (hx.at 0 rfl);have x1:=kc b1 (hx.at 1 rfl);have x2:=kc b1 (hx.at 2 rfl);have x3:=kc b1 (hx.at 3 rfl);have x4:=kc b1 (hx.at 4 rfl);have x5:=kc b1 (hx.at 5 rfl);have x6:=kc b1 (hx.at 6 rfl);rw[Nat.add_zero]at x0;obtain⟨-,-,f0',f1',f2',f3'⟩:=HCX.next (A0 wr (.cells #[.int .i64 op,.int .i64 D,.int .i64 A,.int .i64 Q,.int .i64 E,.int .i64 nn,.int .u32 bt] 53));have HIX:Hid (∀v,Below (wr.alloc (.cells #[.int .i64 op,.int .i64 D,.int .i64 A,.int .i64 Q,.int .i64 E,.int .i64 nn,.int .u32 bt] 53)).heap.size (wr.alloc (.cells #[.int .i64 op,.int .i64 D,.int .i64 A,.int .i64 Q,.int .i64 E,.int .i64 nn,.int .u32 bt] 53)) v->v.cell? ⟨wr.heap.size,0,none⟩=some (.int .i64 op)/\v.cell? ⟨wr.heap.size,1,none⟩=some (.int .i64 D)/\v.cell? ⟨wr.heap.size,2,none⟩=some (.int .i64 A)/\v.cell? ⟨wr.heap.size,3,none⟩=some (.int .i64 Q)/\v.cell? ⟨wr.heap.size,4,none⟩=some (.int .i64 E)/\v.cell? ⟨wr.heap.size,5,none⟩=some (.int .i64 nn)/\v.cell? ⟨wr.heap.size,6,none⟩=some (.int .u32 bt)):=fun v hb=>⟨kc hb sG,kc hb sG,kc hb sG,kc hb sG,kc hb sG,kc hb sG,kc hb sG⟩
      obtain⟨T,hT⟩:=gA (AH c s (⟨op,D,A,Q,E,nn,bt⟩:Ay))
      rw[hT]at hgo' hos htk KS;have HST:Hid (Calls prog 35 #[.agg #[.slice p0 n0 q0,.slice p1 k q1,.slice p2 n2 q2,.slice (some ⟨b,o,none⟩) n3 q3],.agg #[.int .i64 op,.int .i64 D,.int .i64 A,.int .i64 Q,.int .i64 E,.int .i64 nn,.int .u32 bt],.slice ps k qs,.slice po s.opens.length qo] (wr.alloc (.cells #[.int .i64 op,.int .i64 D,.int .i64 A,.int .i64 Q,.int .i64 E,.int .i64 nn,.int .u32 bt] 53)) fun e w'=>e=.returned (.bool T)/\Below (wr.alloc (.cells #[.int .i64 op,.int .i64 D,.int .i64 A,.int .i64 Q,.int .i64 E,.int .i64 nn,.int .u32 bt] 53)).heap.size (wr.alloc (.cells #[.int .i64 op,.int .i64 D,.int .i64 A,.int .i64 Q,.int .i64 E,.int .i64 nn,.int .u32 bt] 53)) w'):=KS;have HGO:Hid ((if T=true then DC c (Ar s (⟨op,D,A,Q,E,nn,bt⟩:Ay)) (j+1) (c.list.drop (j+1))else(160,(j:Int)))=(RA,RB)):=hgo';have HOS:Hid (T=true->BG k (Ar s (⟨op,D,A,Q,E,nn,bt⟩:Ay))/\Bv (Ar s (⟨op,D,A,Q,E,nn,bt⟩:Ay))):=hos;have HTK:Hid (T=true->AM c (⟨op,D,A,Q,E,nn,bt⟩:Ay) (Ad op)=true/\Au c s (⟨op,D,A,Q,E,nn,bt⟩:Ay) (Ad op)=true):=htk;have k1:(0:Int)<=(j:Int):=oM;have k2:(j:Int)<(n3:Int):=oM;have wj:IntKind.i64.wrap ((j:Int)+1)=((j+1:Nat):Int):=by rw[IntKind.wrap_i64];omega
      clear KS hgo hgo' hgi hos htk hT hx hxx hib hll;cases T
      .have HQ:Hid ((160,(j:Int))=(RA,RB)):=by show _=_;have:=HGO.out;rw[if_neg dE]at this;exact this
       go_wp2_with(go_at_call 35;(with_reducible refine HST.out.mono ?_);rintro e w5 ⟨rfl,hb5⟩;have HB5:Hid (Below (wr.alloc (.cells #[.int .i64 op,.int .i64 D,.int .i64 A,.int .i64 Q,.int .i64 E,.int .i64 nn,.int .u32 bt] 53)).heap.size (wr.alloc (.cells #[.int .i64 op,.int .i64 D,.int .i64 A,.int .i64 Q,.int .i64 E,.int .i64 nn,.int .u32 bt] 53)) w5):=hb5;clear hb5 f0 f1 f2 f3;obtain⟨-,-,f0,f1,f2,f3⟩:=(HCX.out.next (A0 _ _)).next HB5.out;obtain⟨i0,i1,i2,i3,i4,i5,i6⟩:=HIX.out w5 HB5.out)
       go_ret2
       exact⟨CF HQ.out,bel (bel HCX.bel (A0 _ _)) HB5.out⟩
      .have HO1:Hid (BG k (Ar s (⟨op,D,A,Q,E,nn,bt⟩:Ay))/\Bv (Ar s (⟨op,D,A,Q,E,nn,bt⟩:Ay))):=HOS.out rfl;have HG1:Hid (DC c (Ar s (⟨op,D,A,Q,E,nn,bt⟩:Ay)) (j+1) (c.list.drop (j+1))=(RA,RB)):=by show _=_;have:=HGO.out;rw[if_pos rfl]at this;exact this
       have HTK1:Hid (AM c (⟨op,D,A,Q,E,nn,bt⟩:Ay) (Ad op)=true/\Au c s (⟨op,D,A,Q,E,nn,bt⟩:Ay) (Ad op)=true):=HTK.out rfl;have HOB:Hid (∀g,(Value.slice po s.opens.length qo).ownBlock=some g->g<wr.heap.size):=fun g e=>(hsk.opn.lt g e).2;clear HGO HOS HTK;by_cases hop:op=34\/op=36
       .have hn64:s.opens.length<64:=Cv (i:=(⟨op,D,A,Q,E,nn,bt⟩:Ay)) HTK1.2 hop;have HOP:Hid (op=34\/op=36):=hop;have HCP:Hid (∀v,Below wr.heap.size wr v->Calls prog 36 #[.slice ps k qs] v fun e w'=>∃u,e=.returned u/\w'.ownsRow v.heap.size 4 1 u k (Bc k s.set)/\Below v.heap.size v w'):=fun v hb=>D7 _ h1 v (Aq hsk.set hb);have hq:((op==34)=true)\/((op==34)=false/\(op==36)=true):=by
         rcases hop with e|e
         .exact .inl (by simpa using e)
         .exact .inr ⟨by rw[e];decide,by simpa using e⟩
        clear hop;rcases hq with r1|⟨r1,r2⟩
        all_goals
         go_wp2_with(go_at_call 35;(with_reducible refine HST.out.mono ?_);rintro e w5 ⟨rfl,hb5⟩;have HB5:Hid (Below (wr.alloc (.cells #[.int .i64 op,.int .i64 D,.int .i64 A,.int .i64 Q,.int .i64 E,.int .i64 nn,.int .u32 bt] 53)).heap.size (wr.alloc (.cells #[.int .i64 op,.int .i64 D,.int .i64 A,.int .i64 Q,.int .i64 E,.int .i64 nn,.int .u32 bt] 53)) w5):=hb5;have HBR:Hid (Below wr.heap.size wr w5):=bel (A0 _ _) hb5;clear hb5 f0 f1 f2 f3;obtain⟨-,-,f0,f1,f2,f3⟩:=(HCX.out.next (A0 _ _)).next HB5.out;obtain⟨i0,i1,i2,i3,i4,i5,i6⟩:=HIX.out w5 HB5.out);refine rG (fun v=>v.cell? ⟨wr.heap.size,0,none⟩=some (.int .i64 op)/\v.cell? ⟨wr.heap.size,5,none⟩=some (.int .i64 nn)) fun hJ=>?_;refine wpAnyH_take (i:=0) (v:=?_) A5 kR kR kR A6 (Or.inl ⟨rF,?_⟩) A7 ?_
         rotate_left 1
         ·(intro wS hSw;(try dsimp only at hSw);go_simp;try(with_reducible rfl))
         try simp only[Act.put,List.setIfInBounds_toArray,List.set_cons_zero,List.set_cons_succ]
         refine wpAnyH_take (i:=1) (v:=?_) A5 kR kR kR A6 (Or.inl ⟨rF,?_⟩) A7 ?_
         rotate_left 1
         ·(intro wS hSw;(try dsimp only at hSw);go_simp;try(with_reducible rfl))
         try simp only[Act.put,List.setIfInBounds_toArray,List.set_cons_zero,List.set_cons_succ]
         refine wpAnyH_take (i:=2) (v:=?_) A5 kR kR kR A6 (Or.inl ⟨rF,?_⟩) A7 ?_
         rotate_left 1
         ·(intro wS hSw;(try dsimp only at hSw);go_simp;try(with_reducible rfl))
         try simp only[Act.put,List.setIfInBounds_toArray,List.set_cons_zero,List.set_cons_succ]
         refine wpAnyH_take (i:=3) (v:=?_) A5 kR kR kR A6 (Or.inl ⟨rF,?_⟩) A7 ?_
         rotate_left 1
         ·(intro wS hSw;(try dsimp only at hSw);go_simp;try(with_reducible rfl))
         try simp only[Act.put,List.setIfInBounds_toArray,List.set_cons_zero,List.set_cons_succ]
         refine wpAnyH_take (i:=4) (v:=?_) A5 kR kR kR A6 (Or.inl ⟨rF,?_⟩) A7 ?_
         rotate_left 1
         ·(intro wS hSw;(try dsimp only at hSw);go_simp;try(with_reducible rfl))
         try simp only[Act.put,List.setIfInBounds_toArray,List.set_cons_zero,List.set_cons_succ]
         refine wpAnyH_take (i:=5) (v:=?_) A5 kR kR kR A6 (Or.inl ⟨rF,?_⟩) A7 ?_
         rotate_left 1
         ·(intro wS hSw;(try dsimp only at hSw);go_simp;try(with_reducible rfl))
         try simp only[Act.put,List.setIfInBounds_toArray,List.set_cons_zero,List.set_cons_succ]
         clear hJ;refine AO 6 fun K hK=>?_;go_simp;(go_at_call 36;(with_reducible refine(HCP.out _ (bel HBR.out (Aa _))).mono ?_);rintro e w6 ⟨u,rfl,hu,hb6⟩;obtain⟨pu,qu,rfl⟩:=Ax hu;have hb66:Below w5.heap.size w5 w6:=bel (Aa _) hb6;obtain⟨g',c',w7,hrun,hb7,hsk7,hoth⟩:=SK.push (i:=(⟨op,D,A,Q,E,nn,bt⟩:Ay)) (hsk.out.below HBR.out) hb66 hu HOP.out hn64 78;dsimp only at hrun;have HRUN:Hid _:=hrun;have HX7:Hid (CX w (.slice p0 n0 q0) (.slice p1 k q1) (.slice p2 n2 q2) (.slice (some ⟨b,o,none⟩) n3 q3) w7):=((HCX.out.next (A0 _ _)).next HB5.out).on hb7;have HS7:Hid (SK (w.heap.size+1) k w7 (.slice ps k qs) (.slice (some ⟨g',0,none⟩) (s.opens.length+1) c') (Ar s (⟨op,D,A,Q,E,nn,bt⟩:Ay)) (us++[.slice pu k qu])):=hsk7;have j0:=kc hb66 i0;have j5:=kc hb66 i5;have hwl:wr.heap.size<w6.heap.size:=Ac j0;have hne:(Value.slice po s.opens.length qo).ownBlock≠some wr.heap.size:=(fun e=>Nat.lt_irrefl _ (HOB.out _ e));have m0:w7.cell? ⟨wr.heap.size,0,none⟩=some (.int .i64 op):=(gC (hoth _ hwl hne)).trans j0;have m5:w7.cell? ⟨wr.heap.size,5,none⟩=some (.int .i64 nn):=(gC (hoth _ hwl hne)).trans j5;have a0:∀x,(w6.alloc x).cell? ⟨wr.heap.size,0,none⟩=some (.int .i64 op):=(fun x=>kc (A0 _ _) j0);have a5:∀x,(w6.alloc x).cell? ⟨wr.heap.size,5,none⟩=some (.int .i64 nn):=(fun x=>kc (A0 _ _) j5);clear hu hb6 hb66 hrun hb7 hsk7 hoth hne i0 i5);try(go_wp2_with fail)
         refine AP hK fun hJ=>?_;clear hK K;refine wpAnyH_take (i:=7) (v:=?_) A5 kR kR kR A6 (Or.inl ⟨rF,?_⟩) A7 ?_
         rotate_left 1
         ·(intro wS hSw;(try dsimp only at hSw);go_simp;try(with_reducible rfl))
         try simp only[Act.put,List.setIfInBounds_toArray,List.set_cons_zero,List.set_cons_succ]
         clear hJ;refine AO 8 fun K hK=>?_;go_simp;refine AP hK fun hJ=>?_;clear hK K;clear hJ;refine AO 9 fun K hK=>?_;refine Fl _ _ _ rF _ _ _ rF rF HRUN.out ?_ _ rF;refine AP hK fun hJ=>?_;clear hK K;refine wpAnyH_take (i:=10) (v:=?_) A5 kR kR kR A6 (Or.inl ⟨rF,?_⟩) A7 ?_
         rotate_left 1
         ·(intro wS hSw;(try dsimp only at hSw);go_simp;try(with_reducible rfl))
         try simp only[Act.put,List.setIfInBounds_toArray,List.set_cons_zero,List.set_cons_succ]
         refine wpAnyH_done kR ?_ _;go_wp2;go_roundw
         case rel=>exact⟨HX7.out,j+1,Ar s (⟨op,D,A,Q,E,nn,bt⟩:Ay),us++[Value.slice pu k qu],oM,gN,HS7,HO1.1,HO1.2,HG1.out⟩
         case measure=>simp[intOf];omega
       have q34:(op==34)=false:=by have:op≠34:=fun e=>hop (.inl e);simpa using this
       have q36:(op==36)=false:=by have:op≠36:=fun e=>hop (.inr e);simpa using this
       have HNO:Hid (op≠34/\op≠36):=⟨fun e=>hop (.inl e),fun e=>hop (.inr e)⟩
       clear hop;by_cases h35:op=35
       .have hmay:=HTK1.2;unfold Au at hmay;rw[if_neg (fun e=>e.elim HNO.1 HNO.2),if_pos h35]at hmay;simp only[Bool.and_eq_true,Bool.not_eq_true']at hmay;have hn0:0<s.opens.length:=by
         rcases Nat.eq_zero_or_pos s.opens.length with e|e
         .have:=List.length_eq_zero_iff.1 e;rw[this]at hmay;exact absurd hmay.1 dE
         .exact e
        have HLP:Hid (Av s=false):=hmay.2;obtain⟨g,cap,eo,-⟩:=hsk.opn.form hn0;simp only[Value.slice.injEq]at eo;obtain⟨rfl,-,-⟩:=eo;obtain⟨X,u,hX,hu,-,-,z2⟩:=hsk.last hn0;obtain⟨pu,qu,rfl⟩:=Ax hu;have HXO:Hid ((DH s)[s.opens.length-1]? =some ⟨if Av s then 36 else 34,B5 s,X⟩):=hX;have HCP:Hid (∀v,Below wr.heap.size wr v->Calls prog 36 #[.slice pu k qu] v fun e w'=>∃u,e=.returned u/\w'.ownsRow v.heap.size 4 1 u k (Bc k X)/\Below v.heap.size v w'):=fun v hb=>D7 _ h1 v (Aq hu hb);have s1:=fun w=>Ck Jj In (some ⟨g,0,none⟩) s.opens.length qo (s.opens.length-1) (by have:=E4 hsk.opn;omega) w;have HN0':Hid (0<s.opens.length):=hn0;obtain⟨N,hN⟩:=gA (s.opens.length)
        obtain⟨m,hm⟩:=gA (N-1)
        have HNN:Hid (s.opens.length=N):=hN;have HMM:Hid (N-1=m):=hm;rw[hN]at z2 s1 hn0 hnest;rw[hm]at z2 s1;rw[hN]at HST;rw[hN];have hw:IntKind.i64.wrap ((N:Int)-1)=(m:Int):=by rw[IntKind.wrap_i64];omega
        have r1:(0:Int)<=(m:Int):=oM;have r2:(m:Int)<(N:Int):=oM;have q35:(op==35)=true:=by simpa using h35
        have HOP:Hid (op=35\/op=37):=.inl h35;clear hmay hX hu h35 hN hm;go_wp2_with(first
         |(go_at_call 35;(with_reducible refine HST.out.mono ?_);rintro e w5 ⟨rfl,hb5⟩;have HB5:Hid (Below (wr.alloc (.cells #[.int .i64 op,.int .i64 D,.int .i64 A,.int .i64 Q,.int .i64 E,.int .i64 nn,.int .u32 bt] 53)).heap.size (wr.alloc (.cells #[.int .i64 op,.int .i64 D,.int .i64 A,.int .i64 Q,.int .i64 E,.int .i64 nn,.int .u32 bt] 53)) w5):=hb5;have HBR:Hid (Below wr.heap.size wr w5):=bel (A0 _ _) hb5;clear hb5 f0 f1 f2 f3;obtain⟨-,-,f0,f1,f2,f3⟩:=(HCX.out.next (A0 _ _)).next HB5.out;have z5:=kc HBR.out z2;obtain⟨i0,i1,i2,i3,i4,i5,i6⟩:=HIX.out w5 HB5.out)
         |(go_at_call 36;(with_reducible refine(HCP.out _ HBR.out).mono ?_);rintro e w6 ⟨u,rfl,hu,hb6⟩;have HU6:Hid (w6.ownsRow w5.heap.size 4 1 u k (Bc k X)):=hu;have HB6:Hid (Below w5.heap.size w5 w6):=hb6;clear hu hb6))
        go_roundw
        case rel=>
         refine⟨((HCX.next (A0 _ _)).next HB5.out).next HB6.out,j+1,Ar s (⟨op,D,A,Q,E,nn,bt⟩:Ay),us.take (s.opens.length-1),oM,gN,?_,HO1.1,HO1.2,HG1.out⟩;have e1:Ar s (⟨op,D,A,Q,E,nn,bt⟩:Ay)=AC s:=Ea HOP.out;have h9:=SK.back (hsk.below HBR.out) hok.out HN0'.out HLP.out HB6.out HXO.out HU6.out;rw[e1,<-HMM.out,<-HNN.out];exact h9
        case measure=>simp[intOf];omega
       have q35:(op==35)=false:=by simpa using h35
       by_cases h37:op=37
       .have hmay:=HTK1.2;unfold Au at hmay;rw[if_neg (fun e=>e.elim HNO.1 HNO.2),if_neg h35,if_pos h37]at hmay;have hn0:0<s.opens.length:=by
         rcases Nat.eq_zero_or_pos s.opens.length with e|e
         .have:=List.length_eq_zero_iff.1 e;unfold Av at hmay;rw[this]at hmay;exact absurd hmay dE
         .exact e
        have HLP:Hid (Av s=true):=hmay;have s1:=fun w=>Ck Jj In po s.opens.length qo (s.opens.length-1) (by have:=E4 hsk.opn;omega) w;have HN0':Hid (0<s.opens.length):=hn0;obtain⟨N,hN⟩:=gA (s.opens.length)
        obtain⟨m,hm⟩:=gA (N-1)
        have HNN:Hid (s.opens.length=N):=hN;have HMM:Hid (N-1=m):=hm;rw[hN]at s1 hn0 hnest;rw[hm]at s1;rw[hN]at HST;rw[hN];have hw:IntKind.i64.wrap ((N:Int)-1)=(m:Int):=by rw[IntKind.wrap_i64];omega
        have r1:(0:Int)<=(m:Int):=oM;have r2:(m:Int)<(N:Int):=oM;have q37:(op==37)=true:=by simpa using h37
        have HOP:Hid (op=35\/op=37):=.inr h37;clear hmay h35 h37 hN hm;go_wp2_with(go_at_call 35;(with_reducible refine HST.out.mono ?_);rintro e w5 ⟨rfl,hb5⟩;have HB5:Hid (Below (wr.alloc (.cells #[.int .i64 op,.int .i64 D,.int .i64 A,.int .i64 Q,.int .i64 E,.int .i64 nn,.int .u32 bt] 53)).heap.size (wr.alloc (.cells #[.int .i64 op,.int .i64 D,.int .i64 A,.int .i64 Q,.int .i64 E,.int .i64 nn,.int .u32 bt] 53)) w5):=hb5;have HBR:Hid (Below wr.heap.size wr w5):=bel (A0 _ _) hb5;clear hb5 f0 f1 f2 f3;obtain⟨-,-,f0,f1,f2,f3⟩:=(HCX.out.next (A0 _ _)).next HB5.out;obtain⟨i0,i1,i2,i3,i4,i5,i6⟩:=HIX.out w5 HB5.out);go_roundw
        case rel=>
         refine⟨(HCX.next (A0 _ _)).next HB5.out,j+1,Ar s (⟨op,D,A,Q,E,nn,bt⟩:Ay),us.take (s.opens.length-1),oM,gN,?_,HO1.1,HO1.2,HG1.out⟩;have e1:Ar s (⟨op,D,A,Q,E,nn,bt⟩:Ay)=AC s:=Ea HOP.out;have h9:=SK.pop (hsk.below HBR.out) hok.out HN0'.out HLP.out;rw[e1,<-HMM.out,<-HNN.out];exact h9
        case measure=>simp[intOf];omega
       have q37:(op==37)=false:=by simpa using h37
       have HNP:Hid (op≠34/\op≠35/\op≠36/\op≠37):=⟨HNO.1,h35,HNO.2,h37⟩
       have KE:=GF (⟨op,D,A,Q,E,nn,bt⟩:Ay);unfold Ik at KE;simp only at KE;have hdr:(Ad op).d≠0->0<=D/\D<(k:Int):=fun hd=>by
        have:=AT (DY HTK1.1) hd;rw[HN1.out]at this;exact this
       clear h35 h37;by_cases hsd:(Ad op).d=0
       .have e9:((Ad op).d != 0)=false:=by simp[hsd]
        rw[e9]at KE;have HKE:Hid (∀v,Calls prog 37 #[.agg #[.int .i64 op,.int .i64 D,.int .i64 A,.int .i64 Q,.int .i64 E,.int .i64 nn,.int .u32 bt]] v fun e w'=>e=.returned (.bool false)/\Below v.heap.size v w'):=KE;have HSD:Hid ((Ad op).d=0):=hsd;clear KE e9 hdr hsd;go_wp2_with(first
         |(go_at_call 35;(with_reducible refine HST.out.mono ?_);rintro e w5 ⟨rfl,hb5⟩;have HB5:Hid (Below (wr.alloc (.cells #[.int .i64 op,.int .i64 D,.int .i64 A,.int .i64 Q,.int .i64 E,.int .i64 nn,.int .u32 bt] 53)).heap.size (wr.alloc (.cells #[.int .i64 op,.int .i64 D,.int .i64 A,.int .i64 Q,.int .i64 E,.int .i64 nn,.int .u32 bt] 53)) w5):=hb5;have HBR:Hid (Below wr.heap.size wr w5):=bel (A0 _ _) hb5;clear hb5 f0 f1 f2 f3;obtain⟨-,-,f0,f1,f2,f3⟩:=(HCX.out.next (A0 _ _)).next HB5.out;obtain⟨i0,i1,i2,i3,i4,i5,i6⟩:=HIX.out w5 HB5.out)
         |(go_at_call 37;(with_reducible refine(HKE.out _).mono ?_);rintro e w6 ⟨rfl,hb6⟩;have HB6:Hid (Below w5.heap.size w5 w6):=hb6;clear hb6))
        go_roundw
        case rel=>exact⟨((HCX.next (A0 _ _)).next HB5.out).next HB6.out,j+1,Ar s (⟨op,D,A,Q,E,nn,bt⟩:Ay),us,oM,gN,SK.keep ((hsk.below HBR.out).below HB6.out) hok.out HNP.1 HNP.2.1 HNP.2.2.1 HNP.2.2.2 HSD.out,HO1.1,HO1.2,HG1.out⟩
        case measure=>simp[intOf];omega
       .have e9:((Ad op).d != 0)=true:=by simp[hsd]
        rw[e9]at KE;have HKE:Hid (∀v,Calls prog 37 #[.agg #[.int .i64 op,.int .i64 D,.int .i64 A,.int .i64 Q,.int .i64 E,.int .i64 nn,.int .u32 bt]] v fun e w'=>e=.returned (.bool true)/\Below v.heap.size v w'):=KE;have HSD:Hid ((Ad op).d≠0):=hsd;obtain⟨d,rfl⟩:∃d:Nat,D=(d:Int):=⟨D.toNat,by have:=hdr hsd;omega⟩
        have hd2:=(hdr hsd).2;obtain⟨gs,cap,eo,hgs,-⟩:=hsk.set.form oM;simp only[Value.slice.injEq]at eo;obtain⟨rfl,-,-⟩:=eo;have d0:(0:Int)<=(d:Int):=oM;have HG9:Hid (w.heap.size+1<=gs):=(hsk.set.lt gs rfl).1;have HCE:Hid (∀v,Below wr.heap.size wr v->v.cell? ⟨gs,d,none⟩=some (.bool (decide (d∈s.set)))/\v.frozen? ⟨gs,d,none⟩=false):=fun v hb=>by
         have h9:=Aq hsk.set hb;exact⟨by rw[h9.cellAt d oM,CJ oM],h9.frozenAt d⟩
        clear KE e9 hdr hsd;go_wp2_with(first
         |(go_at_call 35;(with_reducible refine HST.out.mono ?_);rintro e w5 ⟨rfl,hb5⟩;have HB5:Hid (Below (wr.alloc (.cells #[.int .i64 op,.int .i64 (d:Int),.int .i64 A,.int .i64 Q,.int .i64 E,.int .i64 nn,.int .u32 bt] 53)).heap.size (wr.alloc (.cells #[.int .i64 op,.int .i64 (d:Int),.int .i64 A,.int .i64 Q,.int .i64 E,.int .i64 nn,.int .u32 bt] 53)) w5):=hb5;have HBR:Hid (Below wr.heap.size wr w5):=bel (A0 _ _) hb5;clear hb5 f0 f1 f2 f3;obtain⟨-,-,f0,f1,f2,f3⟩:=(HCX.out.next (A0 _ _)).next HB5.out;obtain⟨i0,i1,i2,i3,i4,i5,i6⟩:=HIX.out w5 HB5.out)
         |(go_at_call 37;(with_reducible refine(HKE.out _).mono ?_);rintro e w6 ⟨rfl,hb6⟩;have HB6:Hid (Below w5.heap.size w5 w6):=hb6;obtain⟨y8,y9⟩:=HCE.out w6 (bel HBR.out hb6);have i1:=kc hb6 i1;clear hb6))
        go_roundw
        case rel=>exact⟨(((HCX.next (A0 _ _)).next HB5.out).next HB6.out).on ((Below.refl _ _).setCell HG9.out _),j+1,Ar s ⟨op,(d:Int),A,Q,E,nn,bt⟩,us,oM,gN,SK.ins (i:=⟨op,(d:Int),A,Q,E,nn,bt⟩) ((hsk.below HBR.out).below HB6.out) hok.out HNP.1 HNP.2.1 HNP.2.2.1 HNP.2.2.2 HSD.out (by have:=hd2;show d<k;omega),HO1.1,HO1.2,HG1.out⟩
        case measure=>simp[intOf];omega
     .have hjn3:j=n3:=oM;have hgo':=hgo.out;rw[List.drop_of_length_le (by rw[HN3.out,hjn3];exact gF _)]at hgo';have hgi:DC c s j []=if s.opens.isEmpty then(0,0)else(160,(j:Int)):=rfl;rw[hgi]at hgo';obtain⟨N,hN⟩:=gA (s.opens.length)
      have hE:s.opens.isEmpty=decide (N=0):=by
       rw[<-hN];cases s.opens with
       |nil=>rfl
       |cons a l=>simp
      rw[hE]at hgo';have HGO:Hid ((if decide (N=0)=true then((0:Int),(0:Int))else(160,(j:Int)))=(RA,RB)):=hgo';rw[hN]at hnest;rw[hN];have e1:¬ (j:Int)<(n3:Int):=oM;clear hgo hgo' hgi hE hN hlt;by_cases hz:N=0
      .have HQ:Hid ((0,0)=(RA,RB)):=by show _=_;have:=HGO.out;rw[if_pos (by simpa using hz)]at this;exact this
       subst hz;go_wp2
       go_ret2
       exact⟨CF HQ.out,HCX.bel⟩
      .have HQ:Hid ((160,(j:Int))=(RA,RB)):=by show _=_;have:=HGO.out;rw[if_neg (by simpa using hz)]at this;exact this
       have hz':(0:Int)<(N:Int):=oM;have HJ:Hid ((j:Int)=(n3:Int)):=by show _=_;omega
       clear hz;go_wp2;refine rG (fun v=>v.cell? ⟨w.heap.size,3,none⟩=some (.slice p3 n3 q3)) fun hJ=>?_;refine wpAnyH_take (i:=0) (v:=?_) A5 kR kR kR A6 (Or.inl ⟨rF,?_⟩) A7 ?_
       rotate_left 1
       ·(intro wS hSw;(try dsimp only at hSw);go_simp;try(with_reducible rfl))
       try simp only[Act.put,List.setIfInBounds_toArray,List.set_cons_zero,List.set_cons_succ]
       refine wpAnyH_take (i:=1) (v:=?_) A5 kR kR kR A6 (Or.inl ⟨rF,?_⟩) A7 ?_
       rotate_left 1
       ·(intro wS hSw;(try dsimp only at hSw);go_simp;try(with_reducible rfl))
       try simp only[Act.put,List.setIfInBounds_toArray,List.set_cons_zero,List.set_cons_succ]
       refine wpAnyH_take (i:=2) (v:=?_) A5 kR kR kR A6 (Or.inl ⟨rF,?_⟩) A7 ?_
       rotate_left 1
       ·(intro wS hSw;(try dsimp only at hSw);go_simp;try(with_reducible rfl))
       try simp only[Act.put,List.setIfInBounds_toArray,List.set_cons_zero,List.set_cons_succ]
       refine wpAnyH_take (i:=3) (v:=?_) A5 kR kR kR A6 (Or.inl ⟨rF,?_⟩) A7 ?_
       rotate_left 1
       ·(intro wS hSw;(try dsimp only at hSw);go_simp;try(with_reducible rfl))
       try simp only[Act.put,List.setIfInBounds_toArray,List.set_cons_zero,List.set_cons_succ]
       refine wpAnyH_take (i:=4) (v:=?_) A5 kR kR kR A6 (Or.inl ⟨rF,?_⟩) A7 ?_
       rotate_left 1
       ·(intro wS hSw;(try dsimp only at hSw);go_simp;try(with_reducible rfl))
       try simp only[Act.put,List.setIfInBounds_toArray,List.set_cons_zero,List.set_cons_succ]
       refine wpAnyH_done kR ?_ _;go_wp2
       go_ret2
       refine⟨CF ?_,Br HCX.bel⟩;rw[<-HJ.out];exact HQ.out
end Go.Proofs.Ytheanilpbnencaa
