import Derived.Test.YtheanilpbnencaaGreatSpe14
import Derived.Test.YtheanilpbnencaaGreatSpe15
import Derived.Test.YtheanilpbnencaaGreatSpe16
import Derived.Test.YtheanilpbnencaaGreatSpe1
import Derived.Test.YtheanilpbnencaaGreatSpe7
import Derived.Deep.OwnRows
import Derived.Test.YtheanilpbnencaaGreatSpe12
import Derived.Test.YtheanilpbnencaaGreatSpe2
import Derived.Test.YtheanilpbnencaaGreatSpe9
namespace Go.Proofs.YtheanilpbnencaaGreat
open Go.RowKit Go.Proofs.Tryz
set_option linter.all false
set_option maxRecDepth 100000
set_option maxHeartbeats 16000000
def Wy(L:Lt):Bool:=decide (L.a=45->L.b=45->L.e=45\/L.e=113)&&(decide (L.a=45->L.b≠45->L.e=45\/L.e=112\/L.e=115)&&decide (L.a≠45->L.e=45\/L.e=105\/L.e=112\/L.e=115))
theorem TS{p:Prop}[Decidable p]{x y:Lt}(h:Wy x=true)(k:Wy y=true):Wy (if p then x else y)=true:=by
 split
 .exact h
 .exact k
theorem TI(op:Int):Wy (CK op)=true:=by
 unfold CK
 iterate 19 refine TS dE ?_
 decide
theorem Pb(v0 v1 v2 v3:Value)(c:Cd)(co:AZ c)(hT:Ad c=true)(i:Am)(h0:0<=i.bits)(h1:i.bits<4294967296)(hk:An i.op=true)(h2:(i.op==1||i.bits==0)=true)(h3:BN i.bits=true)(w:World)(hv:Cy w v0 v1 v2 v3 c):
 Calls prog 59 #[.agg #[v0,v1,v2,v3],Dz i] w fun e w'=>e=.returned (.bool (Dm c i (CK i.op)))/\Below w.heap.size w w':=by
 have HCAN:Hid (∀w,Calls prog 58 #[.int .u32 i.bits] w fun e w'=>e=.returned (.bool true)/\Below w.heap.size w w'):=by rw[<-h3];exact Dc i.bits h0 h1
 obtain⟨a,b,cc,d,e,⟨ea,eb,ec,ed,ee⟩,hc⟩:=O8 i.op hk;obtain⟨oa,ob,oc,od,oe,oT⟩:=Vn i.op;have om:=TI i.op;unfold Wy at om;simp only[Bool.and_eq_true,decide_eq_true_eq]at om;obtain⟨m1,m2,m3⟩:=om;have hF:Dm c i (CK i.op)=(Af c.regs (CK i.op).a i.d ⟨0,0⟩&&(Af c.regs (CK i.op).b i.a (dR c.regs (CK i.op).a i.d)&&(Af c.regs (CK i.op).c i.b (dR c.regs (CK i.op).a i.d)&&(Af c.regs (CK i.op).d i.c (dR c.regs (CK i.op).a i.d)&&Ci c (CK i.op).e i.n (tR c.regs (CK i.op).a (CK i.op).b i.d i.a))))):=by
  unfold Dm;rw[h2,h3,Bool.true_and,Bool.true_and]
 rw[hF];clear hF h3;have ix0:∀w,(Instr.index 9 (.string ⟨#[a,b,cc,d,e]⟩) (.int .i64 0)).run prog w=.ok (.int .u8 (CK i.op).a) w:=fun w=>by rw[<-ea];simp[Instr.index,run_underlying underlying9,asIntOf,go_sem];rfl
 have ix1:∀w,(Instr.index 9 (.string ⟨#[a,b,cc,d,e]⟩) (.int .i64 1)).run prog w=.ok (.int .u8 (CK i.op).b) w:=fun w=>by rw[<-eb];simp[Instr.index,run_underlying underlying9,asIntOf,go_sem];rfl
 have ix2:∀w,(Instr.index 9 (.string ⟨#[a,b,cc,d,e]⟩) (.int .i64 2)).run prog w=.ok (.int .u8 (CK i.op).c) w:=fun w=>by rw[<-ec];simp[Instr.index,run_underlying underlying9,asIntOf,go_sem];rfl
 have ix3:∀w,(Instr.index 9 (.string ⟨#[a,b,cc,d,e]⟩) (.int .i64 3)).run prog w=.ok (.int .u8 (CK i.op).d) w:=fun w=>by rw[<-ed];simp[Instr.index,run_underlying underlying9,asIntOf,go_sem];rfl
 have Qy:∀w,(Instr.index 9 (.string ⟨#[a,b,cc,d,e]⟩) (.int .i64 4)).run prog w=.ok (.int .u8 (CK i.op).e) w:=fun w=>by rw[<-ee];simp[Instr.index,run_underlying underlying9,asIntOf,go_sem];rfl
 cases h:(i.op==1)
 .rw[h,Bool.false_or]at h2;have o2:(i.op != 1)=true:=by simpa using h
  have o4:(i.bits != 0)=false:=by simpa using h2
  by_cases hz:(CK i.op).a=45
  .exact Ug v0 v1 v2 v3 c co hT i.op i.d i.a i.b i.c i.n i.bits _ _ _ _ _ a b cc d e hc HCAN ix0 ix1 ix2 ix3 Qy oa ob oc od oT h o2 h2 o4 hz (m1 hz) (m2 hz) w hv
  .exact Uh v0 v1 v2 v3 c co hT i.op i.d i.a i.b i.c i.n i.bits _ _ _ _ _ a b cc d e hc HCAN ix0 ix1 ix2 ix3 Qy oa ob oc od oT h o2 h2 o4 hz (m3 hz) w hv
 .have o2:(i.op != 1)=false:=by simpa using h
  have e1:i.op=1:=by simpa using h
  have ha:(CK i.op).a≠45:=by rw[e1];decide
  have he:(CK i.op).e=45:=by rw[e1];rfl
  exact Ui v0 v1 v2 v3 c co hT i.op i.d i.a i.b i.c i.n i.bits _ _ _ _ _ a b cc d e hc HCAN ix0 ix1 ix2 ix3 Qy oa ob oc od oT h o2 ha he w hv
theorem Pa(v0 v1 v2 v3:Value)(c:Cd)(co:AZ c)(hT:Ad c=true)(i:Am)(h0:0<=i.bits)(h1:i.bits<4294967296)(w:World)(hv:Cy w v0 v1 v2 v3 c):
 Calls prog 59 #[.agg #[v0,v1,v2,v3],Dz i] w fun e w'=>e=.returned (.bool (An i.op&&Dm c i (CK i.op)))/\Below w.heap.size w w':=by
 cases hh:(An i.op&&((i.op==1||i.bits==0)&&BN i.bits))
 .have e:(An i.op&&Dm c i (CK i.op))=false:=by
   unfold Dm;revert hh;cases An i.op<;>cases(i.op==1||i.bits==0)<;>cases BN i.bits<;>simp
  rw[e];exact R0 v0 v1 v2 v3 i h0 h1 hh w
 .simp only[Bool.and_eq_true]at hh;rw[hh.1,Bool.true_and];exact Pb v0 v1 v2 v3 c co hT i h0 h1 hh.1 hh.2.1 hh.2.2 w hv
theorem Uf{c:Cd}{i:Am}(h:B0 c i (A5 i.op)=true):∀x∈Ao i (A5 i.op),0<=x/\x<(c.regs.length:Int):=by
 intro x hx;unfold Ao at hx;simp only[List.mem_append]at hx;rcases hx with hx|hx|hx
 .split at hx
  .simp at hx
  .rename_i e;simp at hx;subst hx;exact Ac (CQ h) e
 .split at hx
  .simp at hx
  .rename_i e;simp at hx;subst hx;exact Ac (EU h) e
 .split at hx
  .simp at hx
  .rename_i e;simp at hx;subst hx;exact Ac (EV h) e
theorem P5(i:Am):(Ao i (A5 i.op)).length<=3:=by
 rw[FN];simp only[List.length_append];have a:=Gd (A5 i.op).a i.a;have b:=Gd (A5 i.op).b i.b;have d:=Gd (A5 i.op).c i.c;omega
theorem KU(v0 v1 v2 v3:Value)(c:Cd)(co:AZ c)(hT:Ad c=true)(i:Am)(hb0:0<=i.bits)(hb1:i.bits<4294967296)(B:Nat)(s:Wk)(sv ov:Value)(us:List Value)(hM:c.regs.length<=16384)(ok:D4 c.regs.length s)(po:D5 s)(w:World)(hv:Cy w v0 v1 v2 v3 c)(hs:SK B c.regs.length w sv ov s us):
 Calls prog 30 #[.agg #[v0,v1,v2,v3],Dz i,sv,ov] w fun e w'=>e=.returned (.bool (AF c s i))/\Below w.heap.size w w':=by
 rw[PF hT po];have hfit:(An i.op&&Dm c i (CK i.op))=true->B0 c i (A5 i.op)=true:=fun h=>by simp only[Bool.and_eq_true]at h;rw[<-Ke hT];exact h.2
 have HFIT:Hid (∀v,Below w.heap.size w v->Calls prog 59 #[.agg #[v0,v1,v2,v3],Dz i] v fun e w'=>e=.returned (.bool (An i.op&&Dm c i (CK i.op)))/\Below v.heap.size v w'):=fun v hb=>Pa v0 v1 v2 v3 c co hT i hb0 hb1 v (hv.below hb);have HVEC:Hid (∀v,Below w.heap.size w v->Calls prog 60 #[.agg #[v0,v1,v2,v3],Dz i] v fun e w'=>e=.returned (.int .i64 (Fc c.regs (El i)))/\Below v.heap.size v w'):=fun v hb=>L5 v0 v1 v2 v3 c co i v (hv.below hb);have HRD:Hid (∀v,Calls prog 61 #[Dz i] v fun e w'=>∃u,e=.returned u/\w'.ownsRow v.heap.size 3 1 u (Ao i (A5 i.op)).length (BK (Ao i (A5 i.op)))/\Below v.heap.size v w'):=MG i;have hR3:=P5 i;have hRP:=fun h=>Uf (hfit h);have hRO:EK s i (A5 i.op)=(Ao i (A5 i.op)).all fun n=>decide (n.toNat∈s.set):=rfl;rw[hRO];clear hfit hRO;unfold Kn Lm;obtain⟨Fi,hFi⟩:∃F,(An i.op&&Dm c i (CK i.op))=F:=⟨_,rfl⟩
 rw[hFi]at HFIT hRP |-;obtain⟨V,hV⟩:=gA (Fc c.regs (El i))
 rw[hV]at HVEC |-;obtain⟨R,hR⟩:=gA (Ao i (A5 i.op))
 rw[hR]at HRD hR3 hRP |-;have hnest:=ok.nest;have hlast:=fun g q (e:ov=.slice (some ⟨g,0,none⟩) s.opens.length q)=>SK.last (e▸hs);obtain⟨p,q,rfl⟩:=At hs.opn;have hopn:0<s.opens.length->∃g,p=some ⟨g,0,none⟩:=fun h=>by
  obtain⟨g,cap,e,_⟩:=hs.opn.form h;simp only[Value.slice.injEq]at e;exact⟨g,e.1⟩
 obtain⟨ps,qs,rfl⟩:=At hs.set;have HSET:Hid (∀k,k<c.regs.length->∃g,ps=some ⟨g,0,none⟩/\w.cell? ⟨g,k,none⟩=some (.bool (decide (k∈s.set)))):=fun k hk=>by
  obtain⟨g,cap,e,_⟩:=hs.set.form oM;simp only[Value.slice.injEq]at e;obtain⟨rfl,-,-⟩:=e;exact⟨g,rfl,by rw[hs.set.cellAt k oM,FV hk]⟩
 have hz:s.opens.length=0->Aq s=false:=fun h=>by
  obtain⟨S,O⟩:=s;cases O with
  |nil=>rfl
  |cons b r=>simp at h
 obtain⟨S,hS⟩:=gA (s.set)
 obtain⟨n,hn⟩:=gA (s.opens.length)
 obtain⟨lp,hlp⟩:∃l,Aq s=l:=⟨_,rfl⟩
 obtain⟨par,hpar⟩:∃l,BT s=l:=⟨_,rfl⟩
 obtain⟨M,hMM⟩:=gA (c.regs.length)
 rw[hn]at hnest hlast hopn hz |-;rw[hlp]at hlast hz |-;rw[hpar]at hlast |-;rw[hS]at HSET |-;rw[hMM]at hM HSET hRP hlast |-;clear hFi hV hR hs ok po hv co hT hS hn hlp hpar hMM;obtain⟨op,D,A,Q,E,nn,bt⟩:=i;unfold Dz at HFIT HVEC HRD |-;simp only at HFIT HVEC HRD hb0 hb1 |-;clear hb0 hb1;have HT0:Hid (TW w v0 v1 v2 v3 (w.heap.size+1) op D A Q E nn bt ((w.alloc (.cells #[v0,v1,v2,v3] 27)).alloc (.cells #[.int .i64 op,.int .i64 D,.int .i64 A,.int .i64 Q,.int .i64 E,.int .i64 nn,.int .u32 bt] 55))):=TW.start w v0 v1 v2 v3 op D A Q E nn bt;obtain⟨hb00,c0,c1,c2,c3,i0,i1,i2,i3,i4,i5,i6⟩:=HT0.out;have hcase:(n=0/\lp=false)\/(∃m g,m+1=n/\p=some ⟨g,0,none⟩/\lp=false/\w.cell? ⟨g,m*3,none⟩=some (.int .i64 34))\/(∃m g,m+1=n/\p=some ⟨g,0,none⟩/\lp=true/\w.cell? ⟨g,m*3,none⟩=some (.int .i64 36)/\w.cell? ⟨g,m*3+1,none⟩=some (.int .i64 par)):=by
  by_cases h0:n=0
  .exact .inl ⟨h0,hz h0⟩
  .obtain⟨g,rfl⟩:=hopn oM;obtain⟨X,u,-,-,a0,a1,-⟩:=hlast g q rfl oM;obtain⟨m,rfl⟩:∃m,n=m+1:=⟨n-1,oM⟩
   rw[Nat.add_sub_cancel]at a0 a1;cases lp
   .exact .inr (.inl ⟨m,g,rfl,rfl,rfl,a0⟩)
   .exact .inr (.inr ⟨m,g,rfl,rfl,rfl,a0,a1⟩)
 clear hlast hopn hz;have HRP:Hid (Fi=true->∀x∈R,0<=x/\x<(M:Int)):=hRP;clear hRP;obtain⟨RES,hRES⟩:∃X,(Fi&&(!(lp&&(op != 37&&V != par))&&((R.all fun n=>decide (n.toNat∈S))&&(if op=34\/op=36 then decide (n<64)else if op=35 then decide (0<n)&& !lp else if op=37 then lp else true))))=X:=⟨_,rfl⟩
 rw[hRES];cases Fi
 .have HQF:Hid (false=RES):=hRES;clear hRES;rcases hcase with⟨rfl,rfl⟩|⟨m,g,hm,rfl,rfl,z0⟩|⟨m,g,hm,rfl,rfl,z0,z1⟩
  .exact Xt
  .have hw:IntKind.i64.wrap ((n:Int)-1)=(m:Int):=by rw[IntKind.wrap_i64];omega
   have x0:=kc hb00 z0;have j0:(0:Int)<(n:Int):=oM;have j1:(0:Int)<=(m:Int):=oM;have j2:(m:Int)<(n:Int):=oM;exact Xt
  .have hw:IntKind.i64.wrap ((n:Int)-1)=(m:Int):=by rw[IntKind.wrap_i64];omega
   have x0:=kc hb00 z0;have j0:(0:Int)<(n:Int):=oM;have j1:(0:Int)<=(m:Int):=oM;have j2:(m:Int)<(n:Int):=oM;exact Xt
 .rw[Bool.true_and]at hRES;have HRP1:Hid (∀x∈R,0<=x/\x<(M:Int)):=HRP.out rfl;clear HRP;rcases hcase with⟨hn0,rfl⟩|⟨m,g,hm,rfl,rfl,z0⟩|⟨m,g,hm,rfl,rfl,z0,z1⟩
  .rw[Bool.false_and,Bool.not_false,Bool.true_and]at hRES;have HR2:Hid (((R.all fun n=>decide (n.toNat∈S))&&(if op=34\/op=36 then decide (n<64)else if op=35 then decide (0<n)&& !false else if op=37 then false else true))=RES):=hRES;clear hRES;have j0:¬ (0:Int)<(n:Int):=oM;go_enter func30,ntmps30;go_wp2;refine rG (fun v=>v.cell? ⟨w.heap.size,0,none⟩=some v0/\v.cell? ⟨w.heap.size,1,none⟩=some v1/\v.cell? ⟨w.heap.size,2,none⟩=some v2/\v.cell? ⟨w.heap.size,3,none⟩=some v3/\v.cell? ⟨w.heap.size+1,0,none⟩=some (.int .i64 op)/\v.cell? ⟨w.heap.size+1,1,none⟩=some (.int .i64 D)/\v.cell? ⟨w.heap.size+1,2,none⟩=some (.int .i64 A)/\v.cell? ⟨w.heap.size+1,3,none⟩=some (.int .i64 Q)/\v.cell? ⟨w.heap.size+1,4,none⟩=some (.int .i64 E)/\v.cell? ⟨w.heap.size+1,5,none⟩=some (.int .i64 nn)/\v.cell? ⟨w.heap.size+1,6,none⟩=some (.int .u32 bt)) fun hJ=>?_;refine Tb 0 1 ?_;clear hJ;refine AC 2 fun K hK=>?_;go_simp;(go_at_call 59;(with_reducible refine(HFIT.out _ (bel HT0.out.bel (A4 _))).mono ?_);rintro e wz ⟨rfl,hbz⟩;have HBZ:Hid (Below ((w.alloc (.cells #[v0,v1,v2,v3] 27)).alloc (.cells #[.int .i64 op,.int .i64 D,.int .i64 A,.int .i64 Q,.int .i64 E,.int .i64 nn,.int .u32 bt] 55)).heap.size ((w.alloc (.cells #[v0,v1,v2,v3] 27)).alloc (.cells #[.int .i64 op,.int .i64 D,.int .i64 A,.int .i64 Q,.int .i64 E,.int .i64 nn,.int .u32 bt] 55)) wz):=bel (A4 _) hbz;clear hbz;obtain⟨-,c0,c1,c2,c3,i0,i1,i2,i3,i4,i5,i6⟩:=HT0.out.next HBZ.out);try(go_wp2_with fail)
   refine AB hK fun hJ=>?_;clear hK K;refine Tc 3 4 5 ?_;refine Bm 6 ?_;refine Di 7 ?_;refine Di 8 ?_;refine Di 9 ?_;refine Tb 10 11 ?_;refine Kd 12 13 14 15 ?_;refine Kd 16 17 18 19 ?_;refine Di 20 ?_;refine Di 21 ?_;refine Di 22 ?_;refine Tb 23 24 ?_;refine wpAnyH_done kR ?_ _;clear j0;exact Xq
  .rw[Bool.false_and,Bool.not_false,Bool.true_and]at hRES;have HR2:Hid (((R.all fun n=>decide (n.toNat∈S))&&(if op=34\/op=36 then decide (n<64)else if op=35 then decide (0<n)&& !false else if op=37 then false else true))=RES):=hRES;clear hRES;have hw:IntKind.i64.wrap ((n:Int)-1)=(m:Int):=by rw[IntKind.wrap_i64];omega
   have x0:=kc hb00 z0;have j0:(0:Int)<(n:Int):=oM;have j1:(0:Int)<=(m:Int):=oM;have j2:(m:Int)<(n:Int):=oM;go_enter func30,ntmps30;go_wp2;refine rG (fun v=>v.cell? ⟨w.heap.size,0,none⟩=some v0/\v.cell? ⟨w.heap.size,1,none⟩=some v1/\v.cell? ⟨w.heap.size,2,none⟩=some v2/\v.cell? ⟨w.heap.size,3,none⟩=some v3/\v.cell? ⟨w.heap.size+1,0,none⟩=some (.int .i64 op)/\v.cell? ⟨w.heap.size+1,1,none⟩=some (.int .i64 D)/\v.cell? ⟨w.heap.size+1,2,none⟩=some (.int .i64 A)/\v.cell? ⟨w.heap.size+1,3,none⟩=some (.int .i64 Q)/\v.cell? ⟨w.heap.size+1,4,none⟩=some (.int .i64 E)/\v.cell? ⟨w.heap.size+1,5,none⟩=some (.int .i64 nn)/\v.cell? ⟨w.heap.size+1,6,none⟩=some (.int .u32 bt)) fun hJ=>?_;refine Tb 0 1 ?_;clear hJ;refine AC 2 fun K hK=>?_;go_simp;(go_at_call 59;(with_reducible refine(HFIT.out _ (bel HT0.out.bel (A4 _))).mono ?_);rintro e wz ⟨rfl,hbz⟩;have HBZ:Hid (Below ((w.alloc (.cells #[v0,v1,v2,v3] 27)).alloc (.cells #[.int .i64 op,.int .i64 D,.int .i64 A,.int .i64 Q,.int .i64 E,.int .i64 nn,.int .u32 bt] 55)).heap.size ((w.alloc (.cells #[v0,v1,v2,v3] 27)).alloc (.cells #[.int .i64 op,.int .i64 D,.int .i64 A,.int .i64 Q,.int .i64 E,.int .i64 nn,.int .u32 bt] 55)) wz):=bel (A4 _) hbz;clear hbz;obtain⟨-,c0,c1,c2,c3,i0,i1,i2,i3,i4,i5,i6⟩:=HT0.out.next HBZ.out);try(go_wp2_with fail)
   refine AB hK fun hJ=>?_;clear hK K;refine Tc 3 4 5 ?_;refine Bm 6 ?_;refine Di 7 ?_;refine Di 8 ?_;refine Di 9 ?_;refine Tb 10 11 ?_;refine Kd 12 13 14 15 ?_;refine Kd 16 17 18 19 ?_;refine Di 20 ?_;refine Di 21 ?_;refine Di 22 ?_;refine Tb 23 24 ?_;refine wpAnyH_done kR ?_ _;clear j0 j1 j2 hw;exact Xq
  .rw[Bool.true_and]at hRES;have hw:IntKind.i64.wrap ((n:Int)-1)=(m:Int):=by rw[IntKind.wrap_i64];omega
   have x0:=kc hb00 z0;have j0:(0:Int)<(n:Int):=oM;have j1:(0:Int)<=(m:Int):=oM;have j2:(m:Int)<(n:Int):=oM;have y1:=kc hb00 z1;by_cases h7:op=37
   .subst h7;rw[show((37:Int) != 37)=false from rfl,Bool.false_and,Bool.not_false,Bool.true_and]at hRES;have HR2:Hid (((R.all fun n=>decide (n.toNat∈S))&&(if(37:Int)=34\/(37:Int)=36 then decide (n<64)else if(37:Int)=35 then decide (0<n)&& !true else if(37:Int)=37 then true else true))=RES):=hRES;clear hRES;go_enter func30,ntmps30;go_wp2;refine rG (fun v=>v.cell? ⟨w.heap.size,0,none⟩=some v0/\v.cell? ⟨w.heap.size,1,none⟩=some v1/\v.cell? ⟨w.heap.size,2,none⟩=some v2/\v.cell? ⟨w.heap.size,3,none⟩=some v3/\v.cell? ⟨w.heap.size+1,0,none⟩=some (.int .i64 37)/\v.cell? ⟨w.heap.size+1,1,none⟩=some (.int .i64 D)/\v.cell? ⟨w.heap.size+1,2,none⟩=some (.int .i64 A)/\v.cell? ⟨w.heap.size+1,3,none⟩=some (.int .i64 Q)/\v.cell? ⟨w.heap.size+1,4,none⟩=some (.int .i64 E)/\v.cell? ⟨w.heap.size+1,5,none⟩=some (.int .i64 nn)/\v.cell? ⟨w.heap.size+1,6,none⟩=some (.int .u32 bt)) fun hJ=>?_;refine Tb 0 1 ?_;clear hJ;refine AC 2 fun K hK=>?_;go_simp;(go_at_call 59;(with_reducible refine(HFIT.out _ (bel HT0.out.bel (A4 _))).mono ?_);rintro e wz ⟨rfl,hbz⟩;have HBZ:Hid (Below ((w.alloc (.cells #[v0,v1,v2,v3] 27)).alloc (.cells #[.int .i64 37,.int .i64 D,.int .i64 A,.int .i64 Q,.int .i64 E,.int .i64 nn,.int .u32 bt] 55)).heap.size ((w.alloc (.cells #[v0,v1,v2,v3] 27)).alloc (.cells #[.int .i64 37,.int .i64 D,.int .i64 A,.int .i64 Q,.int .i64 E,.int .i64 nn,.int .u32 bt] 55)) wz):=bel (A4 _) hbz;clear hbz;obtain⟨-,c0,c1,c2,c3,i0,i1,i2,i3,i4,i5,i6⟩:=HT0.out.next HBZ.out);try(go_wp2_with fail)
    refine AB hK fun hJ=>?_;clear hK K;refine Tf 3 4 5 6 7 8 ?_;refine Tc 9 10 11 ?_;refine Kd 12 13 14 15 ?_;refine Kd 16 17 18 19 ?_;refine Di 20 ?_;refine Di 21 ?_;refine Di 22 ?_;refine Tb 23 24 ?_;refine wpAnyH_done kR ?_ _;clear j0 j1 j2 hw y1;have HTZ:Hid (TW w v0 v1 v2 v3 (w.heap.size+1) 37 D A Q E nn bt wz):=HT0.out.next HBZ.out;go_wp2_with(go_at_call 61;(with_reducible refine(HRD.out _).mono ?_);rintro e w5 ⟨u,rfl,hou,hb5⟩;obtain⟨pu,qu,rfl⟩:=At hou;have HOU:Hid (w5.ownsRow wz.heap.size 3 1 (.slice pu R.length qu) R.length (BK R)):=hou;have HB5:Hid (Below wz.heap.size wz w5):=hb5;clear hou hb5)
    go_loopw [11] (fun kv wr=>∃k:Nat,k<=R.length/\kv=.int .i64 (k:Int)/\wr=w5/\∀x∈R.take k,x.toNat∈S) (fun kv _=>R.length-(intOf kv).toNat)
    case atStart=>exact⟨0,gI _,rfl,rfl,fun x hx=>by simp at hx⟩
    case round=>
     obtain⟨k,hk,rfl,rfl,hin⟩:=hrel;clear c0 c1 c2 c3 i0 i1 i2 i3 i4 i5 i6;obtain⟨hbq,c0,c1,c2,c3,i0,i1,i2,i3,i4,i5,i6⟩:=HTZ.next HB5.out;by_cases hlt:k<R.length
     .have hx:=HRP1.out R[k] (gD hlt);obtain⟨d,hd⟩:∃d:Nat,R[k]=(d:Int):=⟨R[k].toNat,oM⟩
      obtain⟨gs,rfl,hcs⟩:=HSET.out d oM;have hcs':=kc hbq hcs;obtain⟨gu,cu,eu,-⟩:=HOU.form oM;simp only[Value.slice.injEq]at eu;obtain⟨rfl,-,rfl⟩:=eu;have hcu:wr.cell? ⟨gu,k,none⟩=some (.int .i64 (d:Int)):=by rw[HOU.cellAt k oM];simp[BK,hlt,hd]
      have HMEM:Hid (R[k]=(d:Int)):=hd;have HIN:Hid (∀x∈R.take k,x.toNat∈S):=hin;have t0:(0:Int)<=(k:Int):=oM;have t1:(k:Int)<(R.length:Int):=oM;have t2:(0:Int)<=(d:Int):=oM;have t3:(d:Int)<(M:Int):=oM;have wk:IntKind.i64.wrap ((k:Int)+1)=((k+1:Nat):Int):=by rw[IntKind.wrap_i64];omega
      clear hx hd hin hcs hk;cases hX:decide (d∈S)
      .rw[hX]at hcs';have hall:(R.all fun n=>decide (n.toNat∈S))=false:=by
        rw[List.all_eq_false];exact⟨R[k],gD hlt,by rw[HMEM.out,Int.toNat_natCast,hX];decide⟩
       have HQF:Hid (false=RES):=by show _=_;have:=HR2.out;rw[hall,Bool.false_and]at this;exact this
       clear hX hall;go_wp2;go_ret;exact⟨A6 HQF.out,hbq⟩
      .rw[hX]at hcs';have HX:Hid (d∈S):=by show d∈S;exact of_decide_eq_true hX
       clear hX;go_wp2;go_roundw
       case rel=>
        refine⟨k+1,oM,gN,fT,fun x hx=>?_⟩;rw[List.take_succ_eq_append_getElem hlt,List.mem_append]at hx;rcases hx with hx|hx
        .exact HIN.out x hx
        .simp only[List.mem_singleton]at hx;rw[hx,HMEM.out,Int.toNat_natCast];exact HX.out
       case measure=>simp[intOf];omega
     .have hkk:k=R.length:=oM;have hall:(R.all fun n=>decide (n.toNat∈S))=true:=by
       rw[List.all_eq_true];intro x hx;rw[hkk,List.take_length]at hin;simpa using hin x hx
      have h9:=HR2.out;rw[hall,Bool.true_and]at h9;have HTS:Hid _:=h9;clear h9;have t1:¬ (k:Int)<(R.length:Int):=oM;clear hall hin hk hlt;have HQ:Hid (true=RES):=by show _=_;have:=HTS.out;simpa using this
      go_wp2;go_ret;exact⟨A6 HQ.out,hbq⟩
   .have h7':(op != 37)=true:=by simpa using h7
    have h7b:(op==37)=false:=by simpa using h7
    rw[h7',Bool.true_and]at hRES;cases hVV:(V != par)
    .rw[hVV,Bool.not_false,Bool.true_and]at hRES;have HR2:Hid (((R.all fun n=>decide (n.toNat∈S))&&(if op=34\/op=36 then decide (n<64)else if op=35 then decide (0<n)&& !true else if op=37 then true else true))=RES):=hRES;clear hRES;have hVb:(V==par)=true:=by simpa using hVV
     go_enter func30,ntmps30;go_wp2;refine rG (fun v=>v.cell? ⟨g,m*3+1,none⟩=some (.int .i64 par)/\v.cell? ⟨w.heap.size,0,none⟩=some v0/\v.cell? ⟨w.heap.size,1,none⟩=some v1/\v.cell? ⟨w.heap.size,2,none⟩=some v2/\v.cell? ⟨w.heap.size,3,none⟩=some v3/\v.cell? ⟨w.heap.size+1,0,none⟩=some (.int .i64 op)/\v.cell? ⟨w.heap.size+1,1,none⟩=some (.int .i64 D)/\v.cell? ⟨w.heap.size+1,2,none⟩=some (.int .i64 A)/\v.cell? ⟨w.heap.size+1,3,none⟩=some (.int .i64 Q)/\v.cell? ⟨w.heap.size+1,4,none⟩=some (.int .i64 E)/\v.cell? ⟨w.heap.size+1,5,none⟩=some (.int .i64 nn)/\v.cell? ⟨w.heap.size+1,6,none⟩=some (.int .u32 bt)) fun hJ=>?_;refine Tb 0 1 ?_;clear hJ;refine AC 2 fun K hK=>?_;go_simp;(go_at_call 59;(with_reducible refine(HFIT.out _ (bel HT0.out.bel (A4 _))).mono ?_);rintro e w1 ⟨rfl,hb1⟩;have HB1:Hid (Below ((w.alloc (.cells #[v0,v1,v2,v3] 27)).alloc (.cells #[.int .i64 op,.int .i64 D,.int .i64 A,.int .i64 Q,.int .i64 E,.int .i64 nn,.int .u32 bt] 55)).heap.size ((w.alloc (.cells #[v0,v1,v2,v3] 27)).alloc (.cells #[.int .i64 op,.int .i64 D,.int .i64 A,.int .i64 Q,.int .i64 E,.int .i64 nn,.int .u32 bt] 55)) w1):=bel (A4 _) hb1;clear hb1;obtain⟨-,c0,c1,c2,c3,i0,i1,i2,i3,i4,i5,i6⟩:=HT0.out.next HB1.out;have y1:=kc (bel HT0.out.bel HB1.out) z1);try(go_wp2_with fail)
     refine AB hK fun hJ=>?_;clear hK K;refine Tf 3 4 5 6 7 8 ?_;refine Tf 9 10 11 12 13 15 ?_;refine Tf 16 17 18 19 20 21 ?_;clear hJ;refine AC 14 fun K hK=>?_;go_simp;(go_at_call 60;(with_reducible refine(HVEC.out _ (bel HT0.out.bel HB1.out)).mono ?_);rintro e wz ⟨rfl,hbz⟩;have HBZ:Hid (Below ((w.alloc (.cells #[v0,v1,v2,v3] 27)).alloc (.cells #[.int .i64 op,.int .i64 D,.int .i64 A,.int .i64 Q,.int .i64 E,.int .i64 nn,.int .u32 bt] 55)).heap.size ((w.alloc (.cells #[v0,v1,v2,v3] 27)).alloc (.cells #[.int .i64 op,.int .i64 D,.int .i64 A,.int .i64 Q,.int .i64 E,.int .i64 nn,.int .u32 bt] 55)) wz):=bel HB1.out hbz;clear hbz c0 c1 c2 c3 i0 i1 i2 i3 i4 i5 i6 y1;obtain⟨-,c0,c1,c2,c3,i0,i1,i2,i3,i4,i5,i6⟩:=HT0.out.next HBZ.out;have y1:=kc (bel HT0.out.bel HBZ.out) z1);try(go_wp2_with fail)
     refine AB hK fun hJ=>?_;clear hK K;refine Tc 22 23 24 ?_;refine wpAnyH_done kR ?_ _;clear j0 j1 j2 hw y1 h7' h7b;exact Xq
    .rw[hVV,Bool.not_true,Bool.false_and]at hRES;have HQF:Hid (false=RES):=hRES;clear hRES;have hVb:(V==par)=false:=by simpa using hVV
     go_enter func30,ntmps30;go_wp2;refine rG (fun v=>v.cell? ⟨g,m*3+1,none⟩=some (.int .i64 par)/\v.cell? ⟨w.heap.size,0,none⟩=some v0/\v.cell? ⟨w.heap.size,1,none⟩=some v1/\v.cell? ⟨w.heap.size,2,none⟩=some v2/\v.cell? ⟨w.heap.size,3,none⟩=some v3/\v.cell? ⟨w.heap.size+1,0,none⟩=some (.int .i64 op)/\v.cell? ⟨w.heap.size+1,1,none⟩=some (.int .i64 D)/\v.cell? ⟨w.heap.size+1,2,none⟩=some (.int .i64 A)/\v.cell? ⟨w.heap.size+1,3,none⟩=some (.int .i64 Q)/\v.cell? ⟨w.heap.size+1,4,none⟩=some (.int .i64 E)/\v.cell? ⟨w.heap.size+1,5,none⟩=some (.int .i64 nn)/\v.cell? ⟨w.heap.size+1,6,none⟩=some (.int .u32 bt)) fun hJ=>?_;refine Tb 0 1 ?_;clear hJ;refine AC 2 fun K hK=>?_;go_simp;(go_at_call 59;(with_reducible refine(HFIT.out _ (bel HT0.out.bel (A4 _))).mono ?_);rintro e w1 ⟨rfl,hb1⟩;have HB1:Hid (Below ((w.alloc (.cells #[v0,v1,v2,v3] 27)).alloc (.cells #[.int .i64 op,.int .i64 D,.int .i64 A,.int .i64 Q,.int .i64 E,.int .i64 nn,.int .u32 bt] 55)).heap.size ((w.alloc (.cells #[v0,v1,v2,v3] 27)).alloc (.cells #[.int .i64 op,.int .i64 D,.int .i64 A,.int .i64 Q,.int .i64 E,.int .i64 nn,.int .u32 bt] 55)) w1):=bel (A4 _) hb1;clear hb1;obtain⟨-,c0,c1,c2,c3,i0,i1,i2,i3,i4,i5,i6⟩:=HT0.out.next HB1.out;have y1:=kc (bel HT0.out.bel HB1.out) z1);try(go_wp2_with fail)
     refine AB hK fun hJ=>?_;clear hK K;refine Tf 3 4 5 6 7 8 ?_;refine Tf 9 10 11 12 13 15 ?_;refine Tf 16 17 18 19 20 21 ?_;clear hJ;refine AC 14 fun K hK=>?_;go_simp;(go_at_call 60;(with_reducible refine(HVEC.out _ (bel HT0.out.bel HB1.out)).mono ?_);rintro e wz ⟨rfl,hbz⟩;have HBZ:Hid (Below ((w.alloc (.cells #[v0,v1,v2,v3] 27)).alloc (.cells #[.int .i64 op,.int .i64 D,.int .i64 A,.int .i64 Q,.int .i64 E,.int .i64 nn,.int .u32 bt] 55)).heap.size ((w.alloc (.cells #[v0,v1,v2,v3] 27)).alloc (.cells #[.int .i64 op,.int .i64 D,.int .i64 A,.int .i64 Q,.int .i64 E,.int .i64 nn,.int .u32 bt] 55)) wz):=bel HB1.out hbz;clear hbz c0 c1 c2 c3 i0 i1 i2 i3 i4 i5 i6 y1;obtain⟨-,c0,c1,c2,c3,i0,i1,i2,i3,i4,i5,i6⟩:=HT0.out.next HBZ.out;have y1:=kc (bel HT0.out.bel HBZ.out) z1);try(go_wp2_with fail)
     refine AB hK fun hJ=>?_;clear hK K;refine Tc 22 23 24 ?_;refine wpAnyH_done kR ?_ _;go_wp2;go_ret;exact⟨A6 HQF.out,bel hb00 HBZ.out⟩
structure Un(U:Nat->Prop)(w w':World):Prop where
 os:w'.os=w.os
 tape:w'.tape=w.tape
 output:w'.output=w.output
 size:w.heap.size<=w'.heap.size
 block:∀b,b<w.heap.size->¬U b->w'.heap[b]? =w.heap[b]?
section
variable {U T : Nat -> Prop} {w w' w'' : World}
theorem Un.refl(U:Nat->Prop)(w:World):Un U w w:=⟨rfl,rfl,rfl,gF _,fun _ _ _=>rfl⟩
theorem Un.trans(h:Un U w w')(k:Un U w' w''):Un U w w'':=
 ⟨k.os.trans h.os,k.tape.trans h.tape,k.output.trans h.output,gH h.size k.size,fun b hb hu=>(k.block b (Nat.lt_of_lt_of_le hb h.size) hu).trans (h.block b hb hu)⟩
theorem Un.of(h:Below w.heap.size w w'):Un U w w':=⟨h.os,h.tape,h.output,h.size,fun b hb _=>h.block b hb⟩
theorem Un.mono(h:Un U w w')(k:∀b,U b->T b):Un T w w':=⟨h.os,h.tape,h.output,h.size,fun b hb hu=>h.block b hb fun q=>hu (k b q)⟩
theorem Un.on(h:Un U w w')(k:Below w'.heap.size w' w''):Un U w w'':=h.trans (Un.of k)
theorem Un.below{B:Nat}(h:Un U w w')(hB:B<=w.heap.size)(k:∀b,U b->B<=b):Below B w w':=
 ⟨h.os,h.tape,h.output,h.size,fun b hb=>h.block b oM fun q=>by have:=k b q;omega⟩
theorem Un.setCell(h:Un U w w'){p:Addr}(hp:U p.block)(x:Value):Un U w (w'.setCell p x):=
 ⟨h.os,h.tape,h.output,by simpa[World.setCell]using h.size,fun b hb hu=>by
  have hne:b≠p.block:=fun e=>hu (by rw[e];exact hp)
  rw[gE (by exact hne)];exact h.block b hb hu⟩
end
def F6{α:Type}(T:Nat->Prop)(k:Nat)(f:α->List Value)(w:World)(v:Value)(l:List α):Prop:=
 ∃p c,v=.slice p l.length c/\(l=[]\/∃b o,p=some ⟨b,o,none⟩/\¬T b/\b<w.heap.size/\∀i (h:i<l.length),Ai w b (o+i*k) (f l[i]))
section
variable {α : Type} {T U : Nat -> Prop} {k : Nat} {f : α -> List Value} {w w' : World} {v : Value} {l : List α}
theorem F6.row(h:F6 T k f w v l):Bj k f w v l:=by
 obtain⟨p,c,hv,h⟩:=h;exact⟨p,c,hv,h.imp id fun⟨b,o,hp,_,_,h⟩=>⟨b,o,hp,h⟩⟩
theorem F6.un(h:F6 T k f w v l)(q:Un U w w')(hu:∀b,b<w.heap.size->U b->T b):F6 T k f w' v l:=by
 obtain⟨p,c,hv,h⟩:=h;exact⟨p,c,hv,h.imp id fun⟨b,o,hp,ht,hb,h⟩=>⟨b,o,hp,ht,Nat.lt_of_lt_of_le hb q.size,fun i hi=>(h i hi).of_block (q.block b hb fun e=>ht (hu b hb e))⟩⟩
theorem F6.below(h:F6 T k f w v l)(q:Below w.heap.size w w'):F6 T k f w' v l:=h.un (U:=fun _=>False) (Un.of q) (fun _ _ e=>e.elim)
theorem F6.mono(h:F6 T k f w v l)(hu:∀b,b<w.heap.size->U b->T b):F6 U k f w v l:=by
 obtain⟨p,c,hv,h⟩:=h;exact⟨p,c,hv,h.imp id fun⟨b,o,hp,ht,hb,h⟩=>⟨b,o,hp,fun e=>ht (hu b hb e),hb,h⟩⟩
end
def Xm(x:Int):List Value:=[.int .u32 x]
abbrev Pt(T:Nat->Prop)(w:World)(v:Value)(l:List Int):Prop:=F6 T 1 Xm w v l
theorem Pt.reads{T:Nat->Prop}{w:World}{p:Option Addr}{n c:Nat}{l:List Int}(h:Pt T w (.slice p n c) l):n=l.length/\AP w p n (fun j=>.int .u32 (BO l j)):=by
 obtain⟨p',c',hv,h⟩:=h;simp only[Value.slice.injEq]at hv;obtain⟨rfl,rfl,rfl⟩:=hv;refine⟨rfl,?_⟩;rcases h with h|⟨b,o,hp,_,_,h⟩
 .exact .inl (by rw[h];rfl)
 .refine .inr ⟨b,o,hp,fun i hi=>?_⟩;have:=(h i hi).at 0 (v:=.int .u32 l[i]) rfl;rw[Nat.mul_one,Nat.add_zero]at this;rw[this];simp[BO,gB hi]
theorem Pt.len{T:Nat->Prop}{w:World}{v:Value}{l:List Int}(h:Pt T w v l):∃p c,v=.slice p l.length c:=by
 obtain⟨p,c,hv,_⟩:=h;exact⟨p,c,hv⟩
def Fe(T:Nat->Prop)(w:World)(v:Value)(L:List (List Int)):Prop:=
 ∃p c,v=.slice p L.length c/\(L=[]\/∃b o,p=some ⟨b,o,none⟩/\¬T b/\b<w.heap.size/\∀i (h:i<L.length),∃u,w.cell? ⟨b,o+i,none⟩=some u/\Pt T w u L[i])
theorem Fe.un{T U:Nat->Prop}{w w':World}{v:Value}{L:List (List Int)}(h:Fe T w v L)(q:Un U w w')(hu:∀b,b<w.heap.size->U b->T b):Fe T w' v L:=by
 obtain⟨p,c,hv,h⟩:=h;refine⟨p,c,hv,h.imp id fun⟨b,o,hp,ht,hb,h⟩=>⟨b,o,hp,ht,Nat.lt_of_lt_of_le hb q.size,fun i hi=>?_⟩⟩;obtain⟨u,h1,h2⟩:=h i hi;exact⟨u,(gC (q.block b hb fun e=>ht (hu b hb e))).trans h1,h2.un q hu⟩
theorem Fe.below{T:Nat->Prop}{w w':World}{v:Value}{L:List (List Int)}(h:Fe T w v L)(q:Below w.heap.size w w'):Fe T w' v L:=h.un (U:=fun _=>False) (Un.of q) (fun _ _ e=>e.elim)
theorem Fe.mono{T U:Nat->Prop}{w:World}{v:Value}{L:List (List Int)}(h:Fe T w v L)(hu:∀b,b<w.heap.size->U b->T b):Fe U w v L:=by
 obtain⟨p,c,hv,h⟩:=h;refine⟨p,c,hv,h.imp id fun⟨b,o,hp,ht,hb,h⟩=>⟨b,o,hp,fun e=>ht (hu b hb e),hb,fun i hi=>?_⟩⟩;obtain⟨u,h1,h2⟩:=h i hi;exact⟨u,h1,h2.mono hu⟩
structure Xp where
 C:Nat
 S:Nat
 FR:Nat
 NB:Nat
 WB:Nat
 MB:Nat
 UB:Nat
 K:Nat
 ub:Nat->Nat
 sp:Option Addr
 sc:Nat
 v0:Value
 v1:Value
 v2:Value
 v3:Value
 gv:Value
 pv:Value
def Nv(c:Cd)(p:Nat):Nat:=(c.sign[p]?).elim 0 OV
section
variable {T : Nat -> Prop} {E E' : Nat} {a : Xp} {c : Cd} {G P : List (List Int)} {w w' : World} {X : Nat -> Value} {M : Nat} {m : Nat -> Option Value} {f : Fr}
end

structure Good(c:Cd):Prop where
 len:∀p∈c.sign,1<=p.len/\p.len<=4096
 kind:∀p∈c.sign,B5 p=true
 regs:∀t∈c.regs,Ak t c.sign.length=true
 slots:∀s∈c.slots,AG s c.sign.length=true
 regsL:c.regs.length<=16384
 slotsL:c.slots.length<=4096
 listL:c.list.length<=32768
 signL:c.sign.length<=64
theorem Good.type{c:Cd}(h:Good c){t:Ty}(ht:t∈c.regs)(h3:t.kind=3):Ab t.par c.sign.length=true:=by
 have:=h.regs t ht;unfold Ak at this;rw[if_neg oM,if_pos h3]at this;exact this
theorem Good.lenOf{c:Cd}(h:Good c)(p:Int):lenOf c p<=4096:=by
 unfold Proofs.YtheanilpbnencaaGreat.lenOf;cases hp:c.sign[p.toNat]? with
 |none=>simp
 |some q=>
  have:=h.len q (List.mem_of_getElem? hp);simp only[Option.map_some,Option.getD_some];omega
theorem Good.width{c:Cd}(h:Good c)(t:Ty):AO c t<=4096:=by
 unfold AO;split
 .exact h.lenOf _
 .split<;>omega
theorem D8{l:List Ty}{r:Nat}(h:r<l.length):A7 l (r:Int)=l[r]:=by
 unfold A7 Ab;simp[h]
section
variable {T : Nat -> Prop} {E E' : Nat} {a : Xp} {c : Cd} {G P : List (List Int)} {w : World}
end

theorem Q7(w:World):Below w.heap.size w w.drew:=(Below.refl _ _).drew
section
variable {T : Nat -> Prop} {E E' : Nat} {a : Xp} {c : Cd} {G P : List (List Int)} {X : Nat -> Value} {M : Nat} {m : Nat -> Option Value} {f : Fr} {w w1 w2 : World}
end

def LD(c:Cd)(t:Ty)(h:Hd):Prop:=h.pats.length=AO c t/\(∀y∈h.pats,Ar y)/\0<=h.whole/\h.whole<=2147483647
structure Ij(c:Cd)(f:Fr):Prop where
 nums:∀r,Ar (f.nums r)
 whs:∀r,0<=f.whs r/\f.whs r<=2147483647
 vecs:∀r,∀y∈f.vecs r,Ar y
 vecsL:∀r,(f.vecs r).length<=4096
 slotsL:f.slots.length=c.slots.length
 slots:∀j (h:j<c.slots.length) (h':j<f.slots.length),LD c c.slots[j].ty f.slots[j]
theorem BQ{l:List Int}(h:∀y∈l,Ar y)(j:Nat):Ar (BO l j):=by
 unfold BO;cases e:l[j]? with
 |none=>exact Hl
 |some y=>exact h y (List.mem_of_getElem? e)

structure DN(c:Cd)(L:List (List Int)):Prop where
 len:L.length=c.sign.length
 each:∀p (h:p<L.length),(L[p]).length=Nv c p
 isP:∀l∈L,∀y∈l,Ar y
theorem Hr{c:Cd}(hg:Good c){p:Nat}(h:p<c.sign.length):Nv c p=Ax c p*lenOf c p/\lenOf c p=c.sign[p].len.toNat/\1<=c.sign[p].len/\c.sign[p].len<=4096/\(Ax c p=1\/Ax c p=2):=by
 have h1:=hg.len c.sign[p] (gD h);have h2:=hg.kind c.sign[p] (gD h);have e1:lenOf c (p:Int)=c.sign[p].len.toNat:=by unfold lenOf;simp[h]
 have e2:Ax c (p:Int)=if c.sign[p].kind=2 then 2 else 1:=by unfold Ax BU;simp[h]
 refine⟨?_,e1,h1.1,h1.2,?_⟩
 .unfold Nv;rw[e1,e2];simp only[gB h,Option.elim_some];unfold OV Cn;rw[h2];simp only[if_true,beq_iff_eq];split<;>omega
 .rw[e2];split<;>simp
theorem SY{α:Type}(f:Nat->Int)(n j:Nat)(h:j<n):BO ((List.range n).map f) j=f j:=by
 unfold BO;simp[h]
structure LG(c:Cd)(r:Int)(n:Int):Prop where
 r0:0<=r
 r1:r<(c.regs.length:Int)
 kind:(A7 c.regs r).kind=3
 n0:n=0\/(n=1/\BU c.sign (A7 c.regs r).par=2)

structure CX(w:World)(v0 v1 v2 v3:Value)(v:World):Prop where
 bel:Below w.heap.size w v
 lt:w.heap.size<v.heap.size
 c0:v.cell? ⟨w.heap.size,0,none⟩=some v0
 c1:v.cell? ⟨w.heap.size,1,none⟩=some v1
 c2:v.cell? ⟨w.heap.size,2,none⟩=some v2
 c3:v.cell? ⟨w.heap.size,3,none⟩=some v3
theorem CX.next{w:World}{v0 v1 v2 v3:Value}{v v':World}(h:CX w v0 v1 v2 v3 v)(k:Below v.heap.size v v'):CX w v0 v1 v2 v3 v':=
 ⟨Go.Proofs.YtheanilpbnencaaGreat.bel h.bel k,Nat.lt_of_lt_of_le h.lt k.size,kc k h.c0,kc k h.c1,kc k h.c2,kc k h.c3⟩
theorem CX.on{w:World}{v0 v1 v2 v3:Value}{v v':World}(h:CX w v0 v1 v2 v3 v)(k:Below (w.heap.size+1) v v'):CX w v0 v1 v2 v3 v':=
 have f:∀j,v'.cell? ⟨w.heap.size,j,none⟩=v.cell? ⟨w.heap.size,j,none⟩:=fun j=>k.cell (Nat.lt_succ_self _)
 ⟨h.bel.trans (k.mono (Nat.le_succ _)),Nat.lt_of_lt_of_le h.lt k.size,(f 0).trans h.c0,(f 1).trans h.c1,(f 2).trans h.c2,(f 3).trans h.c3⟩
theorem CX.start(w:World)(v0 v1 v2 v3:Value):CX w v0 v1 v2 v3 (w.alloc (.cells #[v0,v1,v2,v3] 27)):=
 ⟨A0 _ _,sM,sG,sG,sG,sG⟩
theorem Iv{α:Type}(p:α->Bool){l:List α}{k:Nat}(h:k<l.length)(ht:(l.take k).all p=true)(hp:p l[k]=true):(l.take (k+1)).all p=true:=by
 rw[List.take_succ_eq_append_getElem h,List.all_append,ht];simp[hp]
theorem N8{α:Type}(p:α->Bool){l:List α}{k:Nat}(h:k<l.length)(hp:p l[k]=false):l.all p=false:=by
 rw[List.all_eq_false];exact⟨l[k],gD h,by simp[hp]⟩
theorem DZ(v0 v1 v2 v3:Value)(c:Cd)(hk:AZ c)(w:World)(hv:Cy w v0 v1 v2 v3 c)(E:Int)(hE:(Ay c.sign≠0/\E=Ay c.sign)\/(Ay c.sign=0/\(16384<c.regs.length\/32768<c.list.length)/\E=181)\/(Ay c.sign=0/\¬16384<c.regs.length/\¬32768<c.list.length/\4096<c.slots.length/\E=180)):
 Calls prog 15 #[.agg #[v0,v1,v2,v3]] w fun e w'=>e=.returned (.tuple #[.int .i64 E,.int .i64 (-1)])/\Below w.heap.size w w':=by
 have hSG:∀v,Below w.heap.size w v->Calls prog 27 #[v0] v fun e w'=>e=.returned (.int .i64 (Ay c.sign))/\Below v.heap.size v w':=fun v hb=>Hx v0 c.sign hk.signL hk.names v (hv.below hb).sign.rd;have l1:=hk.regsL;have l2:=hk.slotsL;have l3:=hk.listL;obtain⟨p0,q0,rfl,-⟩:=id hv.sign;obtain⟨p1,q1,rfl,-⟩:=id hv.regs;obtain⟨p2,q2,rfl,-⟩:=id hv.slots;obtain⟨p3,q3,rfl,-⟩:=id hv.list;obtain⟨n0,hn0⟩:∃n,c.sign.length=n:=⟨_,rfl⟩
 obtain⟨n1,hn1⟩:∃n,c.regs.length=n:=⟨_,rfl⟩
 obtain⟨n2,hn2⟩:∃n,c.slots.length=n:=⟨_,rfl⟩
 obtain⟨n3,hn3⟩:∃n,c.list.length=n:=⟨_,rfl⟩
 obtain⟨K,hK⟩:∃n,Ay c.sign=n:=⟨_,rfl⟩
 rw[hn0,hK]at hSG;rw[hK,hn1,hn2,hn3]at hE;rw[hn1]at l1;rw[hn2]at l2;rw[hn3]at l3;rw[hn0,hn1,hn2,hn3];have HSG:Hid _:=hSG;clear hSG hn0 hn1 hn2 hn3 hK hv hk;rcases hE with⟨h1,rfl⟩|⟨rfl,h2,rfl⟩|⟨rfl,h2,h3,h4,rfl⟩
 .have h1':(E==0)=false:=by simpa using h1
  have h1'':(E != 0)=true:=by simpa using h1
  exact X4
 .by_cases h5:16384<n1
  .have h6:(16384:Int)<(n1:Int):=oM;exact X4
  .have h6:(n1:Int)<=16384:=oM;have h7:(32768:Int)<(n3:Int):=oM;clear h5;exact X4
 .have h6:(n1:Int)<=16384:=oM;have h7:(n3:Int)<=32768:=oM;have h8:(4096:Int)<(n2:Int):=oM;exact X4
theorem G2{L:List (List Int)}{k:Nat}(h:k<L.length):Dv L k=L[k]:=by unfold Dv;rw[gB h];rfl
theorem IJ{l:Nat->Nat}{W:Nat}(hW:1<=W):∀M,(∀i,i<=M->l i=1\/l i=W)->∃n,Dh l M=some n/\(n=1\/n=W):=by
 intro M;induction M with
 |zero=>intro h;exact⟨l 0,rfl,h 0 (gF _)⟩
 |succ M ih=>
  intro h;obtain⟨n,h1,h2⟩:=ih fun i hi=>h i oM;rw[FZ h1];have h3:=h (M+1) (gF _);by_cases e1:l (M+1)=n
  .exact⟨n,if_pos e1,h2⟩
  .rw[if_neg e1,if_neg oM];by_cases e2:n=1
   .rw[if_pos e2];exact⟨_,rfl,h3⟩
   .rw[if_neg e2];by_cases e3:l (M+1)=1
    .rw[if_pos e3];exact⟨_,rfl,h2⟩
    .omega
theorem EO(i:Am)(h:As i.op=true):BI i.op=(Ao i (A5 i.op)).length/\BI i.op≠0:=by
 unfold As at h;simp only[Bool.and_eq_true,decide_eq_true_eq]at h;have:i.op=3\/i.op=4\/i.op=5\/i.op=6\/i.op=7\/i.op=8\/i.op=9\/i.op=10\/i.op=11\/i.op=12\/i.op=13\/i.op=14\/i.op=15:=oM;obtain⟨op,D,A,B,E,n,b⟩:=i;simp only at this |-;rcases this with rfl|rfl|rfl|rfl|rfl|rfl|rfl|rfl|rfl|rfl|rfl|rfl|rfl<;>exact⟨rfl,dE⟩
theorem N9{op:Int}{args:List (List Int)}{n:Nat}(h:Dh (lF args) (args.length-1)=some n):(C5 op args).length=n/\∀j,j<n->BO (C5 op args) j=Hu op (F8 (lF args) (xF args) args.length j 0) (F8 (lF args) (xF args) args.length j 1) (F8 (lF args) (xF args) args.length j 2):=by
 unfold C5;rw[h];simp only;exact⟨sM,fun j hj=>SY (α:=Int) _ _ _ hj⟩

end Go.Proofs.YtheanilpbnencaaGreat
