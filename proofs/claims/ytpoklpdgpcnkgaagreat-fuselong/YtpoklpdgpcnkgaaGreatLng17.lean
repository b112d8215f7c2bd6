import Derived.Test.YtpoklpdgpcnkgaaGreatLng14
import Derived.Test.YtpoklpdgpcnkgaaGreatLng15
import Derived.Test.YtpoklpdgpcnkgaaGreatLng16
import Derived.Test.YtpoklpdgpcnkgaaGreatLng1
import Derived.Test.YtpoklpdgpcnkgaaGreatLng2
import Derived.Test.YtpoklpdgpcnkgaaGreatLng7
import Derived.Test.YtpoklpdgpcnkgaaGreatLng12
import Derived.Lib.LazyBuf
import Derived.Test.YtpoklpdgpcnkgaaGreatLng8
import Derived.Test.YtpoklpdgpcnkgaaGreatLng9
import Derived.Deep.DeepCutAuto
namespace Go.Proofs.YtpoklpdgpcnkgaaGreat
open Go.RowKit Go.Proofs.Tryz
set_option linter.all false
set_option maxRecDepth 100000
set_option maxHeartbeats 16000000
def okM(L:Lt):Bool:=decide (L.a=45->L.b=45->L.e=45\/L.e=113)&&(decide (L.a=45->L.b≠45->L.e=45\/L.e=112\/L.e=115)&&decide (L.a≠45->L.e=45\/L.e=105\/L.e=112\/L.e=115))
theorem Zu{p:Prop}[Decidable p]{x y:Lt}(h:okM x=true)(k:okM y=true):okM (if p then x else y)=true:=by
 split
 .exact h
 .exact k
theorem Zg(op:Int):okM (Er op)=true:=by
 unfold Er
 iterate 19 refine Zu dE ?_
 decide
theorem U8(v0 v1 v2 v3:Value)(c:Cd)(co:Bb c)(hT:Aj c=true)(i:Aa)(h0:0<=i.bits)(h1:i.bits<4294967296)(hk:Aq i.op=true)(h2:(i.op==1||i.bits==0)=true)(h3:Da i.bits=true)(w:World)(hv:Dk w v0 v1 v2 v3 c):
 Calls prog 71 #[.agg #[v0,v1,v2,v3],BV i] w fun e w'=>e=.returned (.bool (F0 c i (Er i.op)))/\Below w.heap.size w w':=by
 have HCAN:Hid (∀w,Calls prog 70 #[.int .u32 i.bits] w fun e w'=>e=.returned (.bool true)/\Below w.heap.size w w'):=by rw[<-h3];exact EP i.bits h0 h1
 obtain⟨a,b,cc,d,e,⟨ea,eb,ec,ed,ee⟩,hc⟩:=Sz i.op hk;obtain⟨oa,ob,oc,od,oe,oT⟩:=ltR_ok i.op;have om:=Zg i.op;unfold okM at om;simp only[Bool.and_eq_true,decide_eq_true_eq]at om;obtain⟨m1,m2,m3⟩:=om;have hF:F0 c i (Er i.op)=(Ay c.regs (Er i.op).a i.d ⟨0,0⟩&&(Ay c.regs (Er i.op).b i.a (dR c.regs (Er i.op).a i.d)&&(Ay c.regs (Er i.op).c i.b (dR c.regs (Er i.op).a i.d)&&(Ay c.regs (Er i.op).d i.c (dR c.regs (Er i.op).a i.d)&&DX c (Er i.op).e i.n (tR c.regs (Er i.op).a (Er i.op).b i.d i.a))))):=by
  unfold F0;rw[h2,h3,Bool.true_and,Bool.true_and]
 rw[hF];clear hF h3;have ix0:∀w,(Instr.index 9 (.string ⟨#[a,b,cc,d,e]⟩) (.int .i64 0)).run prog w=.ok (.int .u8 (Er i.op).a) w:=fun w=>by rw[<-ea];simp[Instr.index,run_underlying underlying9,asIntOf,go_sem];rfl
 have ix1:∀w,(Instr.index 9 (.string ⟨#[a,b,cc,d,e]⟩) (.int .i64 1)).run prog w=.ok (.int .u8 (Er i.op).b) w:=fun w=>by rw[<-eb];simp[Instr.index,run_underlying underlying9,asIntOf,go_sem];rfl
 have ix2:∀w,(Instr.index 9 (.string ⟨#[a,b,cc,d,e]⟩) (.int .i64 2)).run prog w=.ok (.int .u8 (Er i.op).c) w:=fun w=>by rw[<-ec];simp[Instr.index,run_underlying underlying9,asIntOf,go_sem];rfl
 have ix3:∀w,(Instr.index 9 (.string ⟨#[a,b,cc,d,e]⟩) (.int .i64 3)).run prog w=.ok (.int .u8 (Er i.op).d) w:=fun w=>by rw[<-ed];simp[Instr.index,run_underlying underlying9,asIntOf,go_sem];rfl
 have VU:∀w,(Instr.index 9 (.string ⟨#[a,b,cc,d,e]⟩) (.int .i64 4)).run prog w=.ok (.int .u8 (Er i.op).e) w:=fun w=>by rw[<-ee];simp[Instr.index,run_underlying underlying9,asIntOf,go_sem];rfl
 cases h:(i.op==1)
 .rw[h,Bool.false_or]at h2;have o2:(i.op != 1)=true:=by simpa using h
  have o4:(i.bits != 0)=false:=by simpa using h2
  by_cases hz:(Er i.op).a=45
  .exact ZI v0 v1 v2 v3 c co hT i.op i.d i.a i.b i.c i.n i.bits _ _ _ _ _ a b cc d e hc HCAN ix0 ix1 ix2 ix3 VU oa ob oc od oT h o2 h2 o4 hz (m1 hz) (m2 hz) w hv
  .exact ZJ v0 v1 v2 v3 c co hT i.op i.d i.a i.b i.c i.n i.bits _ _ _ _ _ a b cc d e hc HCAN ix0 ix1 ix2 ix3 VU oa ob oc od oT h o2 h2 o4 hz (m3 hz) w hv
 .have o2:(i.op != 1)=false:=by simpa using h
  have e1:i.op=1:=by simpa using h
  have ha:(Er i.op).a≠45:=by rw[e1];decide
  have he:(Er i.op).e=45:=by rw[e1];rfl
  exact ZK v0 v1 v2 v3 c co hT i.op i.d i.a i.b i.c i.n i.bits _ _ _ _ _ a b cc d e hc HCAN ix0 ix1 ix2 ix3 VU oa ob oc od oT h o2 ha he w hv
theorem U7(v0 v1 v2 v3:Value)(c:Cd)(co:Bb c)(hT:Aj c=true)(i:Aa)(h0:0<=i.bits)(h1:i.bits<4294967296)(w:World)(hv:Dk w v0 v1 v2 v3 c):
 Calls prog 71 #[.agg #[v0,v1,v2,v3],BV i] w fun e w'=>e=.returned (.bool (Aq i.op&&F0 c i (Er i.op)))/\Below w.heap.size w w':=by
 cases hh:(Aq i.op&&((i.op==1||i.bits==0)&&Da i.bits))
 .have e:(Aq i.op&&F0 c i (Er i.op))=false:=by
   unfold F0;revert hh;cases Aq i.op<;>cases(i.op==1||i.bits==0)<;>cases Da i.bits<;>simp
  rw[e];exact Wy v0 v1 v2 v3 i h0 h1 hh w
 .simp only[Bool.and_eq_true]at hh;rw[hh.1,Bool.true_and];exact U8 v0 v1 v2 v3 c co hT i h0 h1 hh.1 hh.2.1 hh.2.2 w hv
theorem ZH{c:Cd}{i:Aa}(h:AN c i (A3 i.op)=true):∀x∈Ac i (A3 i.op),0<=x/\x<(c.regs.length:Int):=by
 intro x hx;unfold Ac at hx;simp only[List.mem_append]at hx;rcases hx with hx|hx|hx
 .split at hx
  .simp at hx
  .rename_i e;simp at hx;subst hx;exact Af (BR h) e
 .split at hx
  .simp at hx
  .rename_i e;simp at hx;subst hx;exact Af (E8 h) e
 .split at hx
  .simp at hx
  .rename_i e;simp at hx;subst hx;exact Af (E9 h) e
theorem TX(i:Aa):(Ac i (A3 i.op)).length<=3:=by
 rw[Ip];simp only[List.length_append];have a:=IW (A3 i.op).a i.a;have b:=IW (A3 i.op).b i.b;have d:=IW (A3 i.op).c i.c;omega
theorem P4(v0 v1 v2 v3:Value)(c:Cd)(co:Bb c)(hT:Aj c=true)(i:Aa)(hb0:0<=i.bits)(hb1:i.bits<4294967296)(B:Nat)(s:Wk)(sv ov:Value)(us:List Value)(hM:c.regs.length<=16384)(ok:Eu c.regs.length s)(po:EH s)(w:World)(hv:Dk w v0 v1 v2 v3 c)(hs:SK B c.regs.length w sv ov s us):
 Calls prog 48 #[.agg #[v0,v1,v2,v3],BV i,sv,ov] w fun e w'=>e=.returned (.bool (Am c s i))/\Below w.heap.size w w':=by
 rw[UE hT po];have hfit:(Aq i.op&&F0 c i (Er i.op))=true->AN c i (A3 i.op)=true:=fun h=>by simp only[Bool.and_eq_true]at h;rw[<-Om hT];exact h.2
 have HFIT:Hid (∀v,Below w.heap.size w v->Calls prog 71 #[.agg #[v0,v1,v2,v3],BV i] v fun e w'=>e=.returned (.bool (Aq i.op&&F0 c i (Er i.op)))/\Below v.heap.size v w'):=fun v hb=>U7 v0 v1 v2 v3 c co hT i hb0 hb1 v (hv.below hb);have HVEC:Hid (∀v,Below w.heap.size w v->Calls prog 38 #[.agg #[v0,v1,v2,v3],BV i] v fun e w'=>e=.returned (.int .i64 (Fg c.regs (Et i)))/\Below v.heap.size v w'):=fun v hb=>Jt v0 v1 v2 v3 c co i v (hv.below hb);have HRD:Hid (∀v,Calls prog 72 #[BV i] v fun e w'=>∃u,e=.returned u/\w'.ownsRow v.heap.size 3 1 u (Ac i (A3 i.op)).length (BM (Ac i (A3 i.op)))/\Below v.heap.size v w'):=QR i;have hR3:=TX i;have hRP:=fun h=>ZH (hfit h);have hRO:Dc s i (A3 i.op)=(Ac i (A3 i.op)).all fun n=>decide (n.toNat∈s.set):=rfl;rw[hRO];clear hfit hRO;unfold OG Pk;obtain⟨Fi,hFi⟩:∃F,(Aq i.op&&F0 c i (Er i.op))=F:=⟨_,rfl⟩
 rw[hFi]at HFIT hRP |-;obtain⟨V,hV⟩:=gA (Fg c.regs (Et i))
 rw[hV]at HVEC |-;obtain⟨R,hR⟩:=gA (Ac i (A3 i.op))
 rw[hR]at HRD hR3 hRP |-;have hnest:=ok.nest;have hlast:=fun g q (e:ov=.slice (some ⟨g,0,none⟩) s.opens.length q)=>SK.last (e▸hs);obtain⟨p,q,rfl⟩:=AD hs.opn;have hopn:0<s.opens.length->∃g,p=some ⟨g,0,none⟩:=fun h=>by
  obtain⟨g,cap,e,_⟩:=hs.opn.form h;simp only[Value.slice.injEq]at e;exact⟨g,e.1⟩
 obtain⟨ps,qs,rfl⟩:=AD hs.set;have HSET:Hid (∀k,k<c.regs.length->∃g,ps=some ⟨g,0,none⟩/\w.cell? ⟨g,k,none⟩=some (.bool (decide (k∈s.set)))):=fun k hk=>by
  obtain⟨g,cap,e,_⟩:=hs.set.form oM;simp only[Value.slice.injEq]at e;obtain⟨rfl,-,-⟩:=e;exact⟨g,rfl,by rw[hs.set.cellAt k oM,Iw hk]⟩
 have hz:s.opens.length=0->Ao s=false:=fun h=>by
  obtain⟨S,O⟩:=s;cases O with
  |nil=>rfl
  |cons b r=>simp at h
 obtain⟨S,hS⟩:=gA (s.set)
 obtain⟨n,hn⟩:=gA (s.opens.length)
 obtain⟨lp,hlp⟩:∃l,Ao s=l:=⟨_,rfl⟩
 obtain⟨par,hpar⟩:∃l,BN s=l:=⟨_,rfl⟩
 obtain⟨M,hMM⟩:=gA (c.regs.length)
 rw[hn]at hnest hlast hopn hz |-;rw[hlp]at hlast hz |-;rw[hpar]at hlast |-;rw[hS]at HSET |-;rw[hMM]at hM HSET hRP hlast |-;clear hFi hV hR hs ok po hv co hT hS hn hlp hpar hMM;obtain⟨op,D,A,Q,E,nn,bt⟩:=i;unfold BV at HFIT HVEC HRD |-;simp only at HFIT HVEC HRD hb0 hb1 |-;clear hb0 hb1;have HT0:Hid (TW w v0 v1 v2 v3 (w.heap.size+1) op D A Q E nn bt ((w.alloc (.cells #[v0,v1,v2,v3] 27)).alloc (.cells #[.int .i64 op,.int .i64 D,.int .i64 A,.int .i64 Q,.int .i64 E,.int .i64 nn,.int .u32 bt] 45))):=TW.start w v0 v1 v2 v3 op D A Q E nn bt;obtain⟨hb00,c0,c1,c2,c3,i0,i1,i2,i3,i4,i5,i6⟩:=HT0.out;have hcase:(n=0/\lp=false)\/(∃m g,m+1=n/\p=some ⟨g,0,none⟩/\lp=false/\w.cell? ⟨g,m*3,none⟩=some (.int .i64 34))\/(∃m g,m+1=n/\p=some ⟨g,0,none⟩/\lp=true/\w.cell? ⟨g,m*3,none⟩=some (.int .i64 36)/\w.cell? ⟨g,m*3+1,none⟩=some (.int .i64 par)):=by
  by_cases h0:n=0
  .exact .inl ⟨h0,hz h0⟩
  .obtain⟨g,rfl⟩:=hopn oM;obtain⟨X,u,-,-,a0,a1,-⟩:=hlast g q rfl oM;obtain⟨m,rfl⟩:∃m,n=m+1:=⟨n-1,oM⟩
   rw[Nat.add_sub_cancel]at a0 a1;cases lp
   .exact .inr (.inl ⟨m,g,rfl,rfl,rfl,a0⟩)
   .exact .inr (.inr ⟨m,g,rfl,rfl,rfl,a0,a1⟩)
 clear hlast hopn hz;have HRP:Hid (Fi=true->∀x∈R,0<=x/\x<(M:Int)):=hRP;clear hRP;obtain⟨RES,hRES⟩:∃X,(Fi&&(!(lp&&(op != 37&&V != par))&&((R.all fun n=>decide (n.toNat∈S))&&(if op=34\/op=36 then decide (n<64)else if op=35 then decide (0<n)&& !lp else if op=37 then lp else true))))=X:=⟨_,rfl⟩
 rw[hRES];cases Fi
 .have HQF:Hid (false=RES):=hRES;clear hRES;rcases hcase with⟨rfl,rfl⟩|⟨m,g,hm,rfl,rfl,z0⟩|⟨m,g,hm,rfl,rfl,z0,z1⟩
  .exact Zaj
  .have hw:IntKind.i64.wrap ((n:Int)-1)=(m:Int):=by rw[IntKind.wrap_i64];omega
   have x0:=kc hb00 z0;have j0:(0:Int)<(n:Int):=oM;have j1:(0:Int)<=(m:Int):=oM;have j2:(m:Int)<(n:Int):=oM;exact Zaj
  .have hw:IntKind.i64.wrap ((n:Int)-1)=(m:Int):=by rw[IntKind.wrap_i64];omega
   have x0:=kc hb00 z0;have j0:(0:Int)<(n:Int):=oM;have j1:(0:Int)<=(m:Int):=oM;have j2:(m:Int)<(n:Int):=oM;exact Zaj
 .rw[Bool.true_and]at hRES;have HRP1:Hid (∀x∈R,0<=x/\x<(M:Int)):=HRP.out rfl;clear HRP;rcases hcase with⟨hn0,rfl⟩|⟨m,g,hm,rfl,rfl,z0⟩|⟨m,g,hm,rfl,rfl,z0,z1⟩
  .rw[Bool.false_and,Bool.not_false,Bool.true_and]at hRES;have HR2:Hid (((R.all fun n=>decide (n.toNat∈S))&&(if op=34\/op=36 then decide (n<64)else if op=35 then decide (0<n)&& !false else if op=37 then false else true))=RES):=hRES;clear hRES;have j0:¬ (0:Int)<(n:Int):=oM;go_enter func48,ntmps48;go_wp2;refine rG (fun v=>v.cell? ⟨w.heap.size,0,none⟩=some v0/\v.cell? ⟨w.heap.size,1,none⟩=some v1/\v.cell? ⟨w.heap.size,2,none⟩=some v2/\v.cell? ⟨w.heap.size,3,none⟩=some v3/\v.cell? ⟨w.heap.size+1,0,none⟩=some (.int .i64 op)/\v.cell? ⟨w.heap.size+1,1,none⟩=some (.int .i64 D)/\v.cell? ⟨w.heap.size+1,2,none⟩=some (.int .i64 A)/\v.cell? ⟨w.heap.size+1,3,none⟩=some (.int .i64 Q)/\v.cell? ⟨w.heap.size+1,4,none⟩=some (.int .i64 E)/\v.cell? ⟨w.heap.size+1,5,none⟩=some (.int .i64 nn)/\v.cell? ⟨w.heap.size+1,6,none⟩=some (.int .u32 bt)) fun yH=>?_;refine Tb 0 1 ?_;clear yH;refine AJ 2 fun K hK=>?_;go_simp;(go_at_call 71;(with_reducible refine(HFIT.out _ (bel HT0.out.bel (A7 _))).mono ?_);rintro e wz ⟨rfl,hbz⟩;have HBZ:Hid (Below ((w.alloc (.cells #[v0,v1,v2,v3] 27)).alloc (.cells #[.int .i64 op,.int .i64 D,.int .i64 A,.int .i64 Q,.int .i64 E,.int .i64 nn,.int .u32 bt] 45)).heap.size ((w.alloc (.cells #[v0,v1,v2,v3] 27)).alloc (.cells #[.int .i64 op,.int .i64 D,.int .i64 A,.int .i64 Q,.int .i64 E,.int .i64 nn,.int .u32 bt] 45)) wz):=bel (A7 _) hbz;clear hbz;obtain⟨-,c0,c1,c2,c3,i0,i1,i2,i3,i4,i5,i6⟩:=HT0.out.next HBZ.out);try(go_wp2_with fail)
   refine AF hK fun yH=>?_;clear hK K;refine Tc 3 4 5 ?_;refine BU 6 ?_;refine EW 7 ?_;refine EW 8 ?_;refine EW 9 ?_;refine Tb 10 11 ?_;refine Kd 12 13 14 15 ?_;refine Kd 16 17 18 19 ?_;refine EW 20 ?_;refine EW 21 ?_;refine EW 22 ?_;refine Tb 23 24 ?_;refine wpAnyH_done kR ?_ _;clear j0;exact Zab
  .rw[Bool.false_and,Bool.not_false,Bool.true_and]at hRES;have HR2:Hid (((R.all fun n=>decide (n.toNat∈S))&&(if op=34\/op=36 then decide (n<64)else if op=35 then decide (0<n)&& !false else if op=37 then false else true))=RES):=hRES;clear hRES;have hw:IntKind.i64.wrap ((n:Int)-1)=(m:Int):=by rw[IntKind.wrap_i64];omega
   have x0:=kc hb00 z0;have j0:(0:Int)<(n:Int):=oM;have j1:(0:Int)<=(m:Int):=oM;have j2:(m:Int)<(n:Int):=oM;go_enter func48,ntmps48;go_wp2;refine rG (fun v=>v.cell? ⟨w.heap.size,0,none⟩=some v0/\v.cell? ⟨w.heap.size,1,none⟩=some v1/\v.cell? ⟨w.heap.size,2,none⟩=some v2/\v.cell? ⟨w.heap.size,3,none⟩=some v3/\v.cell? ⟨w.heap.size+1,0,none⟩=some (.int .i64 op)/\v.cell? ⟨w.heap.size+1,1,none⟩=some (.int .i64 D)/\v.cell? ⟨w.heap.size+1,2,none⟩=some (.int .i64 A)/\v.cell? ⟨w.heap.size+1,3,none⟩=some (.int .i64 Q)/\v.cell? ⟨w.heap.size+1,4,none⟩=some (.int .i64 E)/\v.cell? ⟨w.heap.size+1,5,none⟩=some (.int .i64 nn)/\v.cell? ⟨w.heap.size+1,6,none⟩=some (.int .u32 bt)) fun yH=>?_;refine Tb 0 1 ?_;clear yH;refine AJ 2 fun K hK=>?_;go_simp;(go_at_call 71;(with_reducible refine(HFIT.out _ (bel HT0.out.bel (A7 _))).mono ?_);rintro e wz ⟨rfl,hbz⟩;have HBZ:Hid (Below ((w.alloc (.cells #[v0,v1,v2,v3] 27)).alloc (.cells #[.int .i64 op,.int .i64 D,.int .i64 A,.int .i64 Q,.int .i64 E,.int .i64 nn,.int .u32 bt] 45)).heap.size ((w.alloc (.cells #[v0,v1,v2,v3] 27)).alloc (.cells #[.int .i64 op,.int .i64 D,.int .i64 A,.int .i64 Q,.int .i64 E,.int .i64 nn,.int .u32 bt] 45)) wz):=bel (A7 _) hbz;clear hbz;obtain⟨-,c0,c1,c2,c3,i0,i1,i2,i3,i4,i5,i6⟩:=HT0.out.next HBZ.out);try(go_wp2_with fail)
   refine AF hK fun yH=>?_;clear hK K;refine Tc 3 4 5 ?_;refine BU 6 ?_;refine EW 7 ?_;refine EW 8 ?_;refine EW 9 ?_;refine Tb 10 11 ?_;refine Kd 12 13 14 15 ?_;refine Kd 16 17 18 19 ?_;refine EW 20 ?_;refine EW 21 ?_;refine EW 22 ?_;refine Tb 23 24 ?_;refine wpAnyH_done kR ?_ _;clear j0 j1 j2 hw;exact Zab
  .rw[Bool.true_and]at hRES;have hw:IntKind.i64.wrap ((n:Int)-1)=(m:Int):=by rw[IntKind.wrap_i64];omega
   have x0:=kc hb00 z0;have j0:(0:Int)<(n:Int):=oM;have j1:(0:Int)<=(m:Int):=oM;have j2:(m:Int)<(n:Int):=oM;have y1:=kc hb00 z1;by_cases h7:op=37
   .subst h7;rw[show((37:Int) != 37)=false from rfl,Bool.false_and,Bool.not_false,Bool.true_and]at hRES;have HR2:Hid (((R.all fun n=>decide (n.toNat∈S))&&(if(37:Int)=34\/(37:Int)=36 then decide (n<64)else if(37:Int)=35 then decide (0<n)&& !true else if(37:Int)=37 then true else true))=RES):=hRES;clear hRES;go_enter func48,ntmps48;go_wp2;refine rG (fun v=>v.cell? ⟨w.heap.size,0,none⟩=some v0/\v.cell? ⟨w.heap.size,1,none⟩=some v1/\v.cell? ⟨w.heap.size,2,none⟩=some v2/\v.cell? ⟨w.heap.size,3,none⟩=some v3/\v.cell? ⟨w.heap.size+1,0,none⟩=some (.int .i64 37)/\v.cell? ⟨w.heap.size+1,1,none⟩=some (.int .i64 D)/\v.cell? ⟨w.heap.size+1,2,none⟩=some (.int .i64 A)/\v.cell? ⟨w.heap.size+1,3,none⟩=some (.int .i64 Q)/\v.cell? ⟨w.heap.size+1,4,none⟩=some (.int .i64 E)/\v.cell? ⟨w.heap.size+1,5,none⟩=some (.int .i64 nn)/\v.cell? ⟨w.heap.size+1,6,none⟩=some (.int .u32 bt)) fun yH=>?_;refine Tb 0 1 ?_;clear yH;refine AJ 2 fun K hK=>?_;go_simp;(go_at_call 71;(with_reducible refine(HFIT.out _ (bel HT0.out.bel (A7 _))).mono ?_);rintro e wz ⟨rfl,hbz⟩;have HBZ:Hid (Below ((w.alloc (.cells #[v0,v1,v2,v3] 27)).alloc (.cells #[.int .i64 37,.int .i64 D,.int .i64 A,.int .i64 Q,.int .i64 E,.int .i64 nn,.int .u32 bt] 45)).heap.size ((w.alloc (.cells #[v0,v1,v2,v3] 27)).alloc (.cells #[.int .i64 37,.int .i64 D,.int .i64 A,.int .i64 Q,.int .i64 E,.int .i64 nn,.int .u32 bt] 45)) wz):=bel (A7 _) hbz;clear hbz;obtain⟨-,c0,c1,c2,c3,i0,i1,i2,i3,i4,i5,i6⟩:=HT0.out.next HBZ.out);try(go_wp2_with fail)
    refine AF hK fun yH=>?_;clear hK K;refine Tf 3 4 5 6 7 8 ?_;refine Tc 9 10 11 ?_;refine Kd 12 13 14 15 ?_;refine Kd 16 17 18 19 ?_;refine EW 20 ?_;refine EW 21 ?_;refine EW 22 ?_;refine Tb 23 24 ?_;refine wpAnyH_done kR ?_ _;clear j0 j1 j2 hw y1;have HTZ:Hid (TW w v0 v1 v2 v3 (w.heap.size+1) 37 D A Q E nn bt wz):=HT0.out.next HBZ.out;go_wp2_with(go_at_call 72;(with_reducible refine(HRD.out _).mono ?_);rintro e w5 ⟨u,rfl,hou,hb5⟩;obtain⟨pu,qu,rfl⟩:=AD hou;have HOU:Hid (w5.ownsRow wz.heap.size 3 1 (.slice pu R.length qu) R.length (BM R)):=hou;have HB5:Hid (Below wz.heap.size wz w5):=hb5;clear hou hb5)
    go_loopw [11] (fun kv wr=>∃k:Nat,k<=R.length/\kv=.int .i64 (k:Int)/\wr=w5/\∀x∈R.take k,x.toNat∈S) (fun kv _=>R.length-(intOf kv).toNat)
    case atStart=>exact⟨0,gI _,rfl,rfl,fun x hx=>by simp at hx⟩
    case round=>
     obtain⟨k,hk,rfl,rfl,hin⟩:=hrel;clear c0 c1 c2 c3 i0 i1 i2 i3 i4 i5 i6;obtain⟨hbq,c0,c1,c2,c3,i0,i1,i2,i3,i4,i5,i6⟩:=HTZ.next HB5.out;by_cases hlt:k<R.length
     .have hx:=HRP1.out R[k] (gD hlt);obtain⟨d,hd⟩:∃d:Nat,R[k]=(d:Int):=⟨R[k].toNat,oM⟩
      obtain⟨gs,rfl,hcs⟩:=HSET.out d oM;have hcs':=kc hbq hcs;obtain⟨gu,cu,eu,-⟩:=HOU.form oM;simp only[Value.slice.injEq]at eu;obtain⟨rfl,-,rfl⟩:=eu;have hcu:wr.cell? ⟨gu,k,none⟩=some (.int .i64 (d:Int)):=by rw[HOU.cellAt k oM];simp[BM,hlt,hd]
      have HMEM:Hid (R[k]=(d:Int)):=hd;have HIN:Hid (∀x∈R.take k,x.toNat∈S):=hin;have t0:(0:Int)<=(k:Int):=oM;have t1:(k:Int)<(R.length:Int):=oM;have t2:(0:Int)<=(d:Int):=oM;have t3:(d:Int)<(M:Int):=oM;have wk:IntKind.i64.wrap ((k:Int)+1)=((k+1:Nat):Int):=by rw[IntKind.wrap_i64];omega
      clear hx hd hin hcs hk;cases hX:decide (d∈S)
      .rw[hX]at hcs';have hall:(R.all fun n=>decide (n.toNat∈S))=false:=by
        rw[List.all_eq_false];exact⟨R[k],gD hlt,by rw[HMEM.out,Int.toNat_natCast,hX];decide⟩
       have HQF:Hid (false=RES):=by show _=_;have:=HR2.out;rw[hall,Bool.false_and]at this;exact this
       clear hX hall;go_wp2;go_ret;exact⟨Ab HQF.out,hbq⟩
      .rw[hX]at hcs';have HX:Hid (d∈S):=by show d∈S;exact of_decide_eq_true hX
       clear hX;go_wp2;go_roundw
       case rel=>
        refine⟨k+1,oM,gN,fT,fun x hx=>?_⟩;rw[List.take_succ_eq_append_getElem hlt,List.mem_append]at hx;rcases hx with hx|hx
        .exact HIN.out x hx
        .simp only[List.mem_singleton]at hx;rw[hx,HMEM.out,Int.toNat_natCast];exact HX.out
       case measure=>simp[intOf];omega
     .have hkk:k=R.length:=oM;have hall:(R.all fun n=>decide (n.toNat∈S))=true:=by
       rw[List.all_eq_true];intro x hx;rw[hkk,List.take_length]at hin;simpa using hin x hx
      have h9:=HR2.out;rw[hall,Bool.true_and]at h9;have HTS:Hid _:=h9;clear h9;have t1:¬ (k:Int)<(R.length:Int):=oM;clear hall hin hk hlt;have HQ:Hid (true=RES):=by show _=_;have:=HTS.out;simpa using this
      go_wp2;go_ret;exact⟨Ab HQ.out,hbq⟩
   .have h7':(op != 37)=true:=by simpa using h7
    have h7b:(op==37)=false:=by simpa using h7
    rw[h7',Bool.true_and]at hRES;cases hVV:(V != par)
    .rw[hVV,Bool.not_false,Bool.true_and]at hRES;have HR2:Hid (((R.all fun n=>decide (n.toNat∈S))&&(if op=34\/op=36 then decide (n<64)else if op=35 then decide (0<n)&& !true else if op=37 then true else true))=RES):=hRES;clear hRES;have hVb:(V==par)=true:=by simpa using hVV
     go_enter func48,ntmps48;go_wp2;refine rG (fun v=>v.cell? ⟨g,m*3+1,none⟩=some (.int .i64 par)/\v.cell? ⟨w.heap.size,0,none⟩=some v0/\v.cell? ⟨w.heap.size,1,none⟩=some v1/\v.cell? ⟨w.heap.size,2,none⟩=some v2/\v.cell? ⟨w.heap.size,3,none⟩=some v3/\v.cell? ⟨w.heap.size+1,0,none⟩=some (.int .i64 op)/\v.cell? ⟨w.heap.size+1,1,none⟩=some (.int .i64 D)/\v.cell? ⟨w.heap.size+1,2,none⟩=some (.int .i64 A)/\v.cell? ⟨w.heap.size+1,3,none⟩=some (.int .i64 Q)/\v.cell? ⟨w.heap.size+1,4,none⟩=some (.int .i64 E)/\v.cell? ⟨w.heap.size+1,5,none⟩=some (.int .i64 nn)/\v.cell? ⟨w.heap.size+1,6,none⟩=some (.int .u32 bt)) fun yH=>?_;refine Tb 0 1 ?_;clear yH;refine AJ 2 fun K hK=>?_;go_simp;(go_at_call 71;(with_reducible refine(HFIT.out _ (bel HT0.out.bel (A7 _))).mono ?_);rintro e w1 ⟨rfl,hb1⟩;have HB1:Hid (Below ((w.alloc (.cells #[v0,v1,v2,v3] 27)).alloc (.cells #[.int .i64 op,.int .i64 D,.int .i64 A,.int .i64 Q,.int .i64 E,.int .i64 nn,.int .u32 bt] 45)).heap.size ((w.alloc (.cells #[v0,v1,v2,v3] 27)).alloc (.cells #[.int .i64 op,.int .i64 D,.int .i64 A,.int .i64 Q,.int .i64 E,.int .i64 nn,.int .u32 bt] 45)) w1):=bel (A7 _) hb1;clear hb1;obtain⟨-,c0,c1,c2,c3,i0,i1,i2,i3,i4,i5,i6⟩:=HT0.out.next HB1.out;have y1:=kc (bel HT0.out.bel HB1.out) z1);try(go_wp2_with fail)
     refine AF hK fun yH=>?_;clear hK K;refine Tf 3 4 5 6 7 8 ?_;refine Tf 9 10 11 12 13 15 ?_;refine Tf 16 17 18 19 20 21 ?_;clear yH;refine AJ 14 fun K hK=>?_;go_simp;(go_at_call 38;(with_reducible refine(HVEC.out _ (bel HT0.out.bel HB1.out)).mono ?_);rintro e wz ⟨rfl,hbz⟩;have HBZ:Hid (Below ((w.alloc (.cells #[v0,v1,v2,v3] 27)).alloc (.cells #[.int .i64 op,.int .i64 D,.int .i64 A,.int .i64 Q,.int .i64 E,.int .i64 nn,.int .u32 bt] 45)).heap.size ((w.alloc (.cells #[v0,v1,v2,v3] 27)).alloc (.cells #[.int .i64 op,.int .i64 D,.int .i64 A,.int .i64 Q,.int .i64 E,.int .i64 nn,.int .u32 bt] 45)) wz):=bel HB1.out hbz;clear hbz c0 c1 c2 c3 i0 i1 i2 i3 i4 i5 i6 y1;obtain⟨-,c0,c1,c2,c3,i0,i1,i2,i3,i4,i5,i6⟩:=HT0.out.next HBZ.out;have y1:=kc (bel HT0.out.bel HBZ.out) z1);try(go_wp2_with fail)
     refine AF hK fun yH=>?_;clear hK K;refine Tc 22 23 24 ?_;refine wpAnyH_done kR ?_ _;clear j0 j1 j2 hw y1 h7' h7b;exact Zab
    .rw[hVV,Bool.not_true,Bool.false_and]at hRES;have HQF:Hid (false=RES):=hRES;clear hRES;have hVb:(V==par)=false:=by simpa using hVV
     go_enter func48,ntmps48;go_wp2;refine rG (fun v=>v.cell? ⟨g,m*3+1,none⟩=some (.int .i64 par)/\v.cell? ⟨w.heap.size,0,none⟩=some v0/\v.cell? ⟨w.heap.size,1,none⟩=some v1/\v.cell? ⟨w.heap.size,2,none⟩=some v2/\v.cell? ⟨w.heap.size,3,none⟩=some v3/\v.cell? ⟨w.heap.size+1,0,none⟩=some (.int .i64 op)/\v.cell? ⟨w.heap.size+1,1,none⟩=some (.int .i64 D)/\v.cell? ⟨w.heap.size+1,2,none⟩=some (.int .i64 A)/\v.cell? ⟨w.heap.size+1,3,none⟩=some (.int .i64 Q)/\v.cell? ⟨w.heap.size+1,4,none⟩=some (.int .i64 E)/\v.cell? ⟨w.heap.size+1,5,none⟩=some (.int .i64 nn)/\v.cell? ⟨w.heap.size+1,6,none⟩=some (.int .u32 bt)) fun yH=>?_;refine Tb 0 1 ?_;clear yH;refine AJ 2 fun K hK=>?_;go_simp;(go_at_call 71;(with_reducible refine(HFIT.out _ (bel HT0.out.bel (A7 _))).mono ?_);rintro e w1 ⟨rfl,hb1⟩;have HB1:Hid (Below ((w.alloc (.cells #[v0,v1,v2,v3] 27)).alloc (.cells #[.int .i64 op,.int .i64 D,.int .i64 A,.int .i64 Q,.int .i64 E,.int .i64 nn,.int .u32 bt] 45)).heap.size ((w.alloc (.cells #[v0,v1,v2,v3] 27)).alloc (.cells #[.int .i64 op,.int .i64 D,.int .i64 A,.int .i64 Q,.int .i64 E,.int .i64 nn,.int .u32 bt] 45)) w1):=bel (A7 _) hb1;clear hb1;obtain⟨-,c0,c1,c2,c3,i0,i1,i2,i3,i4,i5,i6⟩:=HT0.out.next HB1.out;have y1:=kc (bel HT0.out.bel HB1.out) z1);try(go_wp2_with fail)
     refine AF hK fun yH=>?_;clear hK K;refine Tf 3 4 5 6 7 8 ?_;refine Tf 9 10 11 12 13 15 ?_;refine Tf 16 17 18 19 20 21 ?_;clear yH;refine AJ 14 fun K hK=>?_;go_simp;(go_at_call 38;(with_reducible refine(HVEC.out _ (bel HT0.out.bel HB1.out)).mono ?_);rintro e wz ⟨rfl,hbz⟩;have HBZ:Hid (Below ((w.alloc (.cells #[v0,v1,v2,v3] 27)).alloc (.cells #[.int .i64 op,.int .i64 D,.int .i64 A,.int .i64 Q,.int .i64 E,.int .i64 nn,.int .u32 bt] 45)).heap.size ((w.alloc (.cells #[v0,v1,v2,v3] 27)).alloc (.cells #[.int .i64 op,.int .i64 D,.int .i64 A,.int .i64 Q,.int .i64 E,.int .i64 nn,.int .u32 bt] 45)) wz):=bel HB1.out hbz;clear hbz c0 c1 c2 c3 i0 i1 i2 i3 i4 i5 i6 y1;obtain⟨-,c0,c1,c2,c3,i0,i1,i2,i3,i4,i5,i6⟩:=HT0.out.next HBZ.out;have y1:=kc (bel HT0.out.bel HBZ.out) z1);try(go_wp2_with fail)
     refine AF hK fun yH=>?_;clear hK K;refine Tc 22 23 24 ?_;refine wpAnyH_done kR ?_ _;go_wp2;go_ret;exact⟨Ab HQF.out,bel hb00 HBZ.out⟩
structure CX(w:World)(v0 v1 v2 v3:Value)(v:World):Prop where
 bel:Below w.heap.size w v
 lt:w.heap.size<v.heap.size
 c0:v.cell? ⟨w.heap.size,0,none⟩=some v0
 c1:v.cell? ⟨w.heap.size,1,none⟩=some v1
 c2:v.cell? ⟨w.heap.size,2,none⟩=some v2
 c3:v.cell? ⟨w.heap.size,3,none⟩=some v3
theorem CX.next{w:World}{v0 v1 v2 v3:Value}{v v':World}(h:CX w v0 v1 v2 v3 v)(k:Below v.heap.size v v'):CX w v0 v1 v2 v3 v':=
 ⟨Go.Proofs.YtpoklpdgpcnkgaaGreat.bel h.bel k,Nat.lt_of_lt_of_le h.lt k.size,kc k h.c0,kc k h.c1,kc k h.c2,kc k h.c3⟩
theorem CX.on{w:World}{v0 v1 v2 v3:Value}{v v':World}(h:CX w v0 v1 v2 v3 v)(k:Below (w.heap.size+1) v v'):CX w v0 v1 v2 v3 v':=
 have f:∀j,v'.cell? ⟨w.heap.size,j,none⟩=v.cell? ⟨w.heap.size,j,none⟩:=fun j=>k.cell (Nat.lt_succ_self _)
 ⟨h.bel.trans (k.mono (Nat.le_succ _)),Nat.lt_of_lt_of_le h.lt k.size,(f 0).trans h.c0,(f 1).trans h.c1,(f 2).trans h.c2,(f 3).trans h.c3⟩
theorem CX.start(w:World)(v0 v1 v2 v3:Value):CX w v0 v1 v2 v3 (w.alloc (.cells #[v0,v1,v2,v3] 27)):=
 ⟨A0 _ _,sM,sG,sG,sG,sG⟩
theorem O4{α:Type}(p:α->Bool){l:List α}{k:Nat}(h:k<l.length)(ht:(l.take k).all p=true)(hp:p l[k]=true):(l.take (k+1)).all p=true:=by
 rw[List.take_succ_eq_append_getElem h,List.all_append,ht];simp[hp]
theorem Rq{α:Type}(p:α->Bool){l:List α}{k:Nat}(h:k<l.length)(hp:p l[k]=false):l.all p=false:=by
 rw[List.all_eq_false];exact⟨l[k],gD h,by simp[hp]⟩
theorem FU(v0 v1 v2 v3:Value)(c:Cd)(hk:Bb c)(w:World)(hv:Dk w v0 v1 v2 v3 c)(E:Int)(hE:(Bo c.sign≠0/\E=Bo c.sign)\/(Bo c.sign=0/\(16384<c.regs.length\/32768<c.list.length)/\E=181)\/(Bo c.sign=0/\¬16384<c.regs.length/\¬32768<c.list.length/\4096<c.slots.length/\E=180)):
 Calls prog 31 #[.agg #[v0,v1,v2,v3]] w fun e w'=>e=.returned (.tuple #[.int .i64 E,.int .i64 (-1)])/\Below w.heap.size w w':=by
 have hSG:∀v,Below w.heap.size w v->Calls prog 45 #[v0] v fun e w'=>e=.returned (.int .i64 (Bo c.sign))/\Below v.heap.size v w':=fun v hb=>KU v0 c.sign hk.signL hk.names v (hv.below hb).sign.rd;have l1:=hk.regsL;have l2:=hk.slotsL;have l3:=hk.listL;obtain⟨p0,q0,rfl,-⟩:=id hv.sign;obtain⟨p1,q1,rfl,-⟩:=id hv.regs;obtain⟨p2,q2,rfl,-⟩:=id hv.slots;obtain⟨p3,q3,rfl,-⟩:=id hv.list;obtain⟨n0,hn0⟩:∃n,c.sign.length=n:=⟨_,rfl⟩
 obtain⟨n1,hn1⟩:∃n,c.regs.length=n:=⟨_,rfl⟩
 obtain⟨n2,hn2⟩:∃n,c.slots.length=n:=⟨_,rfl⟩
 obtain⟨n3,hn3⟩:∃n,c.list.length=n:=⟨_,rfl⟩
 obtain⟨K,hK⟩:∃n,Bo c.sign=n:=⟨_,rfl⟩
 rw[hn0,hK]at hSG;rw[hK,hn1,hn2,hn3]at hE;rw[hn1]at l1;rw[hn2]at l2;rw[hn3]at l3;rw[hn0,hn1,hn2,hn3];have HSG:Hid _:=hSG;clear hSG hn0 hn1 hn2 hn3 hK hv hk;rcases hE with⟨h1,rfl⟩|⟨rfl,h2,rfl⟩|⟨rfl,h2,h3,h4,rfl⟩
 .have h1':(E==0)=false:=by simpa using h1
  have h1'':(E != 0)=true:=by simpa using h1
  exact Zbc
 .by_cases h5:16384<n1
  .have h6:(16384:Int)<(n1:Int):=oM;exact Zbc
  .have h6:(n1:Int)<=16384:=oM;have h7:(32768:Int)<(n3:Int):=oM;clear h5;exact Zbc
 .have h6:(n1:Int)<=16384:=oM;have h7:(n3:Int)<=32768:=oM;have h8:(4096:Int)<(n2:Int):=oM;exact Zbc
theorem CE{op:Int}(h:Aq op=true):Dw op=true\/Bq op=true\/op=29\/op=30\/op=31\/op=32\/op=33\/(34<=op/\op<=37)\/B3 op=true:=by
 unfold Aq at h;unfold Dw Bq B3;simp only[Bool.and_eq_true,Bool.or_eq_true,decide_eq_true_eq,beq_iff_eq]at h |-;omega
theorem Vu{op:Int}(h:B3 op=true):Dw op=false/\Bq op=false/\op≠29/\op≠30/\op≠31/\op≠32/\op≠33/\¬ (34<=op/\op<=37):=by
 unfold B3 at h;simp only[Bool.and_eq_true,decide_eq_true_eq]at h;exact Zcn
theorem UK{op:Int}(h:Bq op=true):Dw op=false/\op≠29/\op≠30/\op≠31/\op≠32/\op≠33/\¬ (34<=op/\op<=37):=by
 unfold Bq at h;simp only[Bool.or_eq_true,Bool.and_eq_true,beq_iff_eq,decide_eq_true_eq]at h;have:op=2\/op=18\/op=21\/op=22\/op=23\/op=24\/op=25\/op=26\/op=27\/op=28:=oM;rcases this with rfl|rfl|rfl|rfl|rfl|rfl|rfl|rfl|rfl|rfl<;>decide
section
variable {c : Cd} {G P : List (List Int)} {f : Fr} {i : Aa}
theorem Bz(h:Dw i.op=true):CI c G P f i={f with nums:=putN f.nums i.d.toNat (Kx f i)}:=by unfold CI;rw[if_pos h]
theorem AT(h:Bq i.op=true):CI c G P f i={f with whs:=putN f.whs i.d.toNat (Fh f i)}:=by
 unfold CI;rw[(UK h).1,if_neg dE,if_pos h]
theorem BZ(h:i.op=29):CI c G P f i={f with vecs:=putN f.vecs i.d.toNat (Bm c G i)}:=by
 unfold CI;rw[h,if_neg dE,if_neg dE,if_pos rfl]
theorem C5(h:i.op=30):CI c G P f i={f with vecs:=putN f.vecs i.d.toNat (Bm c P i)}:=by
 unfold CI;rw[h,if_neg dE,if_neg dE,if_neg dE,if_pos rfl]
theorem Ch(h:i.op=31):CI c G P f i={f with outs:=QF f.outs (A5 c.regs i.a).par.toNat (AP c (A5 c.regs i.a).par) i.n.toNat (f.vecs i.a.toNat)}:=by
 unfold CI;rw[h,if_neg dE,if_neg dE,if_neg dE,if_neg dE,if_pos rfl]
theorem BE(h:i.op=32):CI c G P f i=J4 c f i.d ((f.slots[i.n.toNat]?).getD ⟨[],0⟩):=by
 unfold CI;rw[h,if_neg dE,if_neg dE,if_neg dE,if_neg dE,if_neg dE,if_pos rfl]
theorem Ci(h:i.op=33):CI c G P f i={f with slots:=f.slots.set i.n.toNat (Bx c f i.a)}:=by
 unfold CI;rw[h,if_neg dE,if_neg dE,if_neg dE,if_neg dE,if_neg dE,if_neg dE,if_pos rfl]
theorem AM(h:34<=i.op/\i.op<=37):CI c G P f i=f:=by
 have h0:Dw i.op=false/\Bq i.op=false:=by
  have:i.op=34\/i.op=35\/i.op=36\/i.op=37:=oM;rcases this with e|e|e|e<;>rw[e]<;>decide
 unfold CI;rw[h0.1,h0.2,if_neg dE,if_neg dE,if_neg oM,if_neg oM,if_neg oM,if_neg oM,if_neg oM,if_pos h]
theorem AS(h:B3 i.op=true):CI c G P f i=EJ c f i:=by
 obtain⟨h1,h2,h3,h4,h5,h6,h7,h8⟩:=Vu h;unfold CI;rw[h1,h2,if_neg dE,if_neg dE,if_neg h3,if_neg h4,if_neg h5,if_neg h6,if_neg h7,if_neg h8]
end
theorem Zr{f:Fr}{c:Cd}(ok:Jf c f){i:Aa}(hb:AB i.bits):AB (Kx f i):=by
 unfold Kx;refine C6 (YR _ _ (ok.nums _).1 (ok.nums _).2) (C6 (Vy _) (C6 (Z5 _ _ (Cw (ok.vecs _))) (C6 (Qm _ _ (Cw (ok.vecs _))) hb)))
theorem Gy(b:Bool):0<=C7 b/\C7 b<=2147483647:=by cases b<;>decide
theorem EM{p:Prop}[Decidable p]{x y:Int}(h:p->0<=x/\x<=2147483647)(k:¬p->0<=y/\y<=2147483647):0<=(if p then x else y)/\(if p then x else y)<=2147483647:=by
 split
 .rename_i e;exact h e
 .rename_i e;exact k e
theorem Y3{f:Fr}{c:Cd}(ok:Jf c f){i:Aa}(hw:Bq i.op=true)(hn:i.op=2->0<=i.n/\i.n<=2147483647):0<=Fh f i/\Fh f i<=2147483647:=by
 have a:=ok.whs i.a.toNat;have b:=ok.whs i.b.toNat;have d:=ok.whs i.c.toNat;unfold Bq at hw;simp only[Bool.or_eq_true,Bool.and_eq_true,beq_iff_eq,decide_eq_true_eq]at hw;unfold Fh;refine EM (fun _=>Gy _) fun h1=>EM (fun _=>by omega) fun h2=>EM (fun _=>Gy _) fun h3=>EM (fun _=>Gy _) fun h4=>EM (fun _=>Gy _) fun h5=>EM (fun _=>Gy _) fun h6=>EM (fun _=>EM (fun _=>d) fun _=>b) fun h7=>EM (fun _=>by omega) fun h8=>EM (fun _=>EM (fun _=>by decide) fun _=>⟨Int.ediv_nonneg a.1 b.1,?_⟩) fun h9=>hn oM;have:=Int.ediv_le_self (f.whs i.b.toNat) a.1;omega
theorem do_ok{c:Cd}{G P:List (List Int)}{f:Fr}{i:Aa}(hg:By c)(ok:Jf c f)(hk:Aq i.op=true)(hb:AB i.bits)(nd:Ee c f i)(fg:DD c G)(fp:DD c P):Jf c (CI c G P f i):=by
 have pl:∀L:List (List Int),DD c L->(∀y∈Bm c L i,AB y)/\(Bm c L i).length<=4096:=fun L hL=>by
  refine⟨fun y hy=>?_,by unfold Bm;simp only[List.length_map,List.length_range];exact hg.lenOf _⟩;unfold Bm at hy;simp only[List.mem_map]at hy;obtain⟨k,_,rfl⟩:=hy;refine Dx _ (Cw ?_ _);unfold EU;cases e:L[(A5 c.regs i.d).par.toNat]? with
  |none=>intro y hy;cases hy
  |some l=>exact hL.isP l (List.mem_of_getElem? e)
 rcases CE hk with h|h|h|h|h|h|h|h|h
 .rw[Bz h];exact⟨CF ok.nums (Zr ok hb),ok.whs,ok.vecs,ok.vecsL,ok.slotsL,ok.slots⟩
 .rw[AT h];exact⟨ok.nums,CF (Q:=fun y:Int=>0<=y/\y<=2147483647) ok.whs (Y3 ok h (nd.whole h).2.2.2.2.2.2),ok.vecs,ok.vecsL,ok.slotsL,ok.slots⟩
 .rw[BZ h];exact⟨ok.nums,ok.whs,CF (Q:=fun l:List Int=>∀y∈l,AB y) ok.vecs (pl G fg).1,CF (Q:=fun l:List Int=>l.length<=4096) ok.vecsL (pl G fg).2,ok.slotsL,ok.slots⟩
 .rw[C5 h];exact⟨ok.nums,ok.whs,CF (Q:=fun l:List Int=>∀y∈l,AB y) ok.vecs (pl P fp).1,CF (Q:=fun l:List Int=>l.length<=4096) ok.vecsL (pl P fp).2,ok.slotsL,ok.slots⟩
 .rw[Ch h];exact⟨ok.nums,ok.whs,ok.vecs,ok.vecsL,ok.slotsL,ok.slots⟩
 .rw[BE h];obtain⟨d0,d1,n0,n1,ht⟩:=nd.load h;have hn:i.n.toNat<c.slots.length:=oM;have hn2:i.n.toNat<f.slots.length:=by rw[ok.slotsL];exact hn
  have hh:=ok.slots i.n.toNat hn hn2;rw[gB hn2,Option.getD_some];exact st_ok ok hh.2.1 (by rw[hh.1];exact hg.width _) hh.2.2
 .rw[Ci h];obtain⟨a0,a1,n0,n1,ht,hs⟩:=nd.store h;have hh:=Wv hg ok a0 a1 hs;refine⟨ok.nums,ok.whs,ok.vecs,ok.vecsL,by simp[ok.slotsL],fun j h1 h2=>?_⟩;simp only[List.getElem_set];split
  .rename_i e;subst e;have:Df c.slots i.n=c.slots[i.n.toNat].ty:=by unfold Df;rw[gB h1];rfl
   rw[<-this,ht];exact hh
  .exact ok.slots j h1 (by simpa using h2)
 .rw[AM h];exact ok
 .rw[AS h];obtain⟨d0,d1,a1,_⟩:=nd.elem h;unfold EJ;by_cases h2:(A5 c.regs i.d).kind=2
  .rw[if_pos h2];exact⟨ok.nums,CF (Q:=fun y:Int=>0<=y/\y<=2147483647) ok.whs (ok.whs _),ok.vecs,ok.vecsL,ok.slotsL,ok.slots⟩
  .rw[if_neg h2];obtain⟨s1,s2⟩:=FJ hg ok h nd h2;have hw:=hg.width (A5 c.regs i.d);refine st_ok ok ?_ ?_ ⟨Int.le_refl _,by show(0:Int)<=2147483647;decide⟩
   .intro y hy;dsimp only at hy;split at hy
    .unfold EZ at hy;rw[List.eq_of_mem_replicate hy];exact Dx _ (Km s2)
    .exact s2 y hy
   .dsimp only;split
    .unfold EZ;rw[List.length_replicate];exact hw
    .omega
theorem Vn{c:Cd}{G P:List (List Int)}{f:Fr}{i:Aa}(hg:By c)(ok:Jf c f)(hk:Aq i.op=true)(nd:Ee c f i){r:Nat}(hr:((A3 i.op).d=0\/r≠i.d.toNat)->DS c f r):DS c (CI c G P f i) r:=by
 have pl:∀L:List (List Int),(Bm c L i).length=lenOf c (A5 c.regs i.d).par:=fun L=>by unfold Bm;simp
 have other:∀ (f':Fr),f'.vecs=f.vecs->((A3 i.op).d≠0->(A5 c.regs i.d).kind≠3/\0<=i.d)->DS c f' r:=fun f' hv hk3 h3=>by
  rw[hv];refine hr ?_ h3;by_cases e:(A3 i.op).d=0
  .exact .inl e
  .refine .inr fun e2=>(hk3 e).1 ?_;have:=(hk3 e).2;have e3:(r:Int)=i.d:=oM;rw[e3]at h3;exact h3
 have vec:∀L:List (List Int),0<=i.d->(A3 i.op).d≠0->DS c {f with vecs:=putN f.vecs i.d.toNat (Bm c L i)} r:=fun L h0 hd h3=>by
  by_cases e:r=i.d.toNat
  .have e3:(r:Int)=i.d:=oM;rw[e3];show(putN f.vecs i.d.toNat (Bm c L i) r).length=_;rw[e,B6,pl]
  .show(putN f.vecs i.d.toNat (Bm c L i) r).length=_;rw[BS _ _ e];exact hr (.inr e) h3
 rcases CE hk with h|h|h|h|h|h|h|h|h
 .rw[Bz h];exact other _ rfl fun _=>⟨by rw[(nd.num h).2.2.2.2];decide,(nd.num h).1⟩
 .rw[AT h];exact other _ rfl fun _=>⟨by rw[(nd.whole h).2.2.2.2.2.1];decide,(nd.whole h).1⟩
 .rw[BZ h];exact vec G (nd.part (.inl h)).r0 (by rw[h];decide)
 .rw[C5 h];exact vec P (nd.part (.inr h)).r0 (by rw[h];decide)
 .rw[Ch h];exact other _ rfl fun e=>absurd (by rw[h];decide) e
 .rw[BE h];obtain⟨d0,d1,n0,n1,ht⟩:=nd.load h;have hn:i.n.toNat<c.slots.length:=oM;have hn2:i.n.toNat<f.slots.length:=by rw[ok.slotsL];exact hn
  have hh:=ok.slots i.n.toNat hn hn2;rw[gB hn2,Option.getD_some];refine XQ d0 (fun h3=>?_) fun e=>hr (.inr e);have:Df c.slots i.n=c.slots[i.n.toNat].ty:=by unfold Df;rw[gB hn];rfl
  rw[hh.1,<-this,ht];exact(Eh hg d0 d1 h3).2
 .rw[Ci h];exact other _ rfl fun e=>absurd (by rw[h];decide) e
 .rw[AM h];refine hr (.inl ?_);have:i.op=34\/i.op=35\/i.op=36\/i.op=37:=oM;rcases this with e|e|e|e<;>rw[e]<;>decide
 .rw[AS h];obtain⟨d0,d1,a1,_⟩:=nd.elem h;unfold EJ;by_cases h2:(A5 c.regs i.d).kind=2
  .rw[if_pos h2];exact other _ rfl fun _=>⟨by rw[h2];decide,d0⟩
  .rw[if_neg h2];obtain⟨s1,s2⟩:=FJ hg ok h nd h2;refine XQ d0 (fun h3=>?_) fun e=>hr (.inr e);have hw:=(Eh hg d0 d1 h3)
   dsimp only;rw[hw.2]at s1 |-;split
   .unfold EZ;rw[List.length_replicate];exact hw.2
   .omega
def MY(c:Cd)(s:Wk)(f:Fr)(k:Nat):Prop:=
 (k=0/\∀r∈s.set,DS c f r)\/(∃pre b rest,s.opens=pre++b::rest/\b.loop=false/\k=(pre.filter fun x=> !x.loop).length+1/\∀r∈s.set.take b.ahead,DS c f r)
theorem Qz:∀ {pre:List Bk} {b:Bk} {rest:List Bk} {n:Nat},okO n (pre++b::rest)->b.ahead<=n/\∀p∈pre,b.ahead<=p.ahead
 |[],b,rest,n,h=>⟨h.1,fun p hp=>by cases hp⟩
 |q::pre,b,rest,n,h=>by
  obtain⟨h1,h2⟩:=Qz h.2;refine⟨gH h1 h.1,fun p hp=>?_⟩;rcases List.mem_cons.1 hp with e|e
  .rw[e];exact h1
  .exact h2 p e
theorem Ho{s:Wk}{i:Aa}{r:Rw}(h:r.d=0):CN s i r=s:=by unfold CN;rw[if_neg (fun e=>e.1 h)]
theorem R9{s:Wk}{i:Aa}(h1:i.op≠34)(h2:i.op≠35)(h3:i.op≠36)(h4:i.op≠37):BG s i=s:=by
 unfold BG;rw[if_neg oM,if_neg oM]
theorem RM{s:Wk}{i:Aa}{r:Rw}{x:Nat}(h:x∈(CN s i r).set):x∈s.set\/(r.d≠0/\x=i.d.toNat):=by
 unfold CN at h;split at h
 .rename_i e;rcases List.mem_append.1 h with h|h
  .exact .inl h
  .simp at h;exact .inr ⟨e.1,h⟩
 .exact .inl h
theorem O3{s:Wk}{i:Aa}{r:Rw}{n:Nat}(h:n<=s.set.length):(CN s i r).set.take n=s.set.take n/\(CN s i r).opens=s.opens:=by
 unfold CN;split
 .exact⟨List.take_append_of_le_length h,rfl⟩
 .exact⟨rfl,rfl⟩
theorem Lq{s:Wk}{i:Aa}(h:i.op=34):Ad s i=⟨s.set,⟨false,i.n,s.set.length⟩::s.opens⟩:=by
 unfold Ad CT;rw[Ho (by rw[h];rfl)];unfold BG;rw[if_pos (.inl h),h];rfl
theorem Lr{s:Wk}{i:Aa}(h:i.op=36):Ad s i=⟨s.set,⟨true,i.n,s.set.length⟩::s.opens⟩:=by
 unfold Ad CT;rw[Ho (by rw[h];rfl)];unfold BG;rw[if_pos (.inr h),h];rfl
theorem GG{s:Wk}{i:Aa}(h:i.op=35\/i.op=37):Ad s i=AI s:=by
 unfold Ad CT;rw[Ho Zhl];unfold BG;rw[if_neg oM,if_pos h]
theorem G4{s:Wk}{i:Aa}(h1:i.op≠34)(h2:i.op≠35)(h3:i.op≠36)(h4:i.op≠37):Ad s i=CN s i (A3 i.op):=by
 unfold Ad CT;rw[R9 h1 h2 h3 h4]
theorem Mj{s:Wk}{r:Nat}(h:r∈(AI s).set):r∈s.set:=by
 unfold AI at h;split at h
 .dsimp only at h;split at h
  .exact h
  .exact List.mem_of_mem_take h
 .exact h
theorem Ih{c:Cd}{G P:List (List Int)}{s:Wk}{f:Fr}{k:Nat}{i:Aa}(hg:By c)(oks:Eu c.regs.length s)(t:Am c s i=true)(ok:Jf c f)(hb:AB i.bits)(fg:DD c G)(fp:DD c P)(sk:MY c s f k):
 Jf c (Ap c G P (f,k) i).1/\MY c (Ad s i) (Ap c G P (f,k) i).1 (Ap c G P (f,k) i).2:=by
 obtain⟨hkn,_,hst,_⟩:=Ar t;rcases sk with⟨rfl,hs⟩|⟨pre,b,rest,ho,hbl,rfl,hs⟩
 .have nd:=RO t hs;have hdo:Jf c (CI c G P f i):=do_ok hg ok hkn hb nd fg fp;by_cases h34:i.op=34
  .rw[Lq h34];by_cases hz:f.whs i.a.toNat=0
   .have e:Ap c G P (f,0) i=(f,1):=by
     unfold Ap;rw[if_neg oM,if_pos ⟨h34,.inr hz⟩]
    rw[e];refine⟨ok,.inr ⟨[],⟨false,i.n,s.set.length⟩,s.opens,rfl,rfl,rfl,fun r hr=>hs r ?_⟩⟩;exact List.mem_of_mem_take hr
   .have e:Ap c G P (f,0) i=(f,0):=by
     unfold Ap;rw[if_neg oM,if_neg (by simp[hz]),if_pos rfl,AM oM]
    rw[e];exact⟨ok,.inl ⟨rfl,hs⟩⟩
  .have e:Ap c G P (f,0) i=(CI c G P f i,0):=by
    unfold Ap;rw[if_neg oM,if_neg oM,if_pos rfl]
   rw[e];refine⟨hdo,.inl ⟨rfl,fun r hr=>?_⟩⟩;by_cases h35:i.op=35\/i.op=37
   .rw[GG h35]at hr;rw[AM oM];exact hs r (Mj hr)
   .by_cases h36:i.op=36
    .rw[Lr h36]at hr;rw[AM oM];exact hs r hr
    .rw[G4 h34 oM h36 oM]at hr;refine Vn hg ok hkn nd fun hr2=>?_;rcases RM hr with h|⟨h,h'⟩
     .exact hs r h
     .rcases hr2 with q|q
      .exact absurd q h
      .exact absurd h' q
 .obtain⟨hah,hpre⟩:=Qz (by have:=oks.opens;rw[ho]at this;exact this);obtain⟨K,hK⟩:=gA ((pre.filter fun x=> !x.loop).length)
  rw[hK];by_cases h34:i.op=34
  .have e:Ap c G P (f,K+1) i=(f,K+2):=by
    unfold Ap;rw[if_neg oM,if_pos ⟨h34,.inl (by show 0<K+1;omega)⟩]
   rw[e,Lq h34];refine⟨ok,.inr ⟨⟨false,i.n,s.set.length⟩::pre,b,rest,by rw[ho];rfl,hbl,?_,hs⟩⟩;rw[List.filter_cons_of_pos rfl,List.length_cons,hK]
  .by_cases h35:i.op=35
   .have e:Ap c G P (f,K+1) i=(f,K):=by
     unfold Ap;rw[if_pos ⟨by show 0<K+1;omega,h35⟩];rfl
    rw[e,GG (.inl h35)];refine⟨ok,?_⟩;have hnl:Ao s=false:=by
     exact Zfh
    unfold Ao at hnl;unfold AI;rw[ho]at hnl |-;cases pre with
    |nil=>
     simp only[List.nil_append]at hnl |-;simp at hK;refine .inl ⟨hK.symm,fun r hr=>hs r ?_⟩;rw[hbl]at hr;simpa using hr
    |cons p pre=>
     simp only[List.cons_append]at hnl |-;have hp:=hpre p sM;refine .inr ⟨pre,b,rest,rfl,hbl,?_,fun r hr=>hs r ?_⟩
     .rw[List.filter_cons_of_pos (by rw[hnl];rfl),List.length_cons]at hK;omega
     .rw[hnl]at hr;simp only[Bool.false_eq_true,if_false,List.take_take]at hr;rw[Nat.min_eq_left hp]at hr;exact hr
   .have e:Ap c G P (f,K+1) i=(f,K+1):=by
     unfold Ap;rw[if_neg oM,if_neg oM,if_neg (by show¬ (K+1=0);omega)]
    rw[e];refine⟨ok,?_⟩;by_cases h36:i.op=36
    .rw[Lr h36];refine .inr ⟨⟨true,i.n,s.set.length⟩::pre,b,rest,by rw[ho];rfl,hbl,?_,hs⟩;rw[List.filter_cons_of_neg sM,hK]
    .by_cases h37:i.op=37
     .rw[GG (.inr h37)];have hnl:Ao s=true:=by
       unfold Al at hst;rw[if_neg oM,if_neg oM,if_pos h37]at hst;exact hst
      unfold Ao at hnl;unfold AI;rw[ho]at hnl |-;cases pre with
      |nil=>
       simp only[List.nil_append]at hnl;rw[hbl]at hnl;cases hnl
      |cons p pre=>
       simp only[List.cons_append]at hnl |-;refine .inr ⟨pre,b,rest,rfl,hbl,?_,fun r hr=>hs r ?_⟩
       .rw[List.filter_cons_of_neg (by rw[hnl];decide)]at hK;omega
       .rw[hnl]at hr;simpa using hr
     .rw[G4 h34 h35 h36 h37];obtain⟨h1,h2⟩:=O3 (i:=i) (r:=A3 i.op) hah;exact .inr ⟨pre,b,rest,by rw[h2];exact ho,hbl,by rw[hK],fun r hr=>hs r (by rw[h1]at hr;exact hr)⟩
theorem Oy(c:Cd)(G P:List (List Int))(s:Fr×Nat)(l:List Aa){j:Nat}(hj:j<l.length):En c G P s (l.take (j+1))=Ap c G P (En c G P s (l.take j)) l[j]:=by
 unfold En;rw[List.take_succ_eq_append_getElem hj,List.foldl_append];rfl
theorem We(c:Cd)(G P:List (List Int))(f:Fr)(K:Nat){i:Aa}(h:i.op=35):Ap c G P (f,K+1) i=(f,K):=by
 unfold Ap;rw[if_pos ⟨by show 0<K+1;omega,h⟩];rfl
theorem Nw(c:Cd)(G P:List (List Int))(f:Fr)(K:Nat){i:Aa}(h:i.op=34)(hz:0<K\/f.whs i.a.toNat=0):Ap c G P (f,K) i=(f,K+1):=by
 unfold Ap;rw[if_neg oM,if_pos ⟨h,hz⟩]
theorem Nx(c:Cd)(G P:List (List Int))(f:Fr){i:Aa}(h:¬ (i.op=34/\f.whs i.a.toNat=0)):Ap c G P (f,0) i=(CI c G P f i,0):=by
 unfold Ap;rw[if_neg (fun e=>absurd e.1 (by show¬0<0;omega)),if_neg (fun e=>h ⟨e.1,e.2.resolve_left (by show¬0<0;omega)⟩),if_pos rfl]
theorem Wf(c:Cd)(G P:List (List Int))(f:Fr)(K:Nat){i:Aa}(h1:i.op≠34)(h2:i.op≠35):Ap c G P (f,K+1) i=(f,K+1):=by
 unfold Ap;rw[if_neg (fun e=>h2 e.2),if_neg (fun e=>h1 e.1),if_neg (by show¬ (K+1=0);omega)]
theorem I9{α:Type}{f:α->List Value}{k bytes:Nat}{t e:TypeId}{z:Value}{i:TypeInfo}(hk:0<k)(hf:∀x,(f x).length=k)(h1:∀x,∀u∈f x,u.oneCell'=true)(ht:prog.underlying t=some (.slice e))(hi:prog.info? e=some i)(hz:i.zero=some z)(hsize:i.size=k)(hby:i.bytes=bytes)(hzs:z.cells.size=k)
 {l:List α} {p:Option Addr} {d:Nat} {w:World} (h:AZ k f w (.slice p l.length d) l) (hl:l.length<=maxLen) (hb:l.length*bytes<=140737488355328) (ty:TypeId):
 ∃p' c' w',(Builtin.append_ #[t,t] ty #[.slice (some ⟨w.heap.size,0,none⟩) 0 0,.slice p l.length d]).run prog (w.alloc (.cells #[] e))=.ok (.slice p' l.length c') w'/\Below w.heap.size w w'/\Ev (fun b=>b<w.heap.size) k f w' (.slice p' l.length c') l/\w'.ownsRow w.heap.size e k (.slice p' l.length c') l.length (AG f l):=by
 have hown0:(w.alloc (.cells #[] e)).ownsRow w.heap.size e k (.slice (some ⟨w.heap.size,0,none⟩) 0 0) 0 []:=⟨sM,.inr ⟨w.heap.size,0,#[],rfl,gF _,heap_alloc_new w _,gF _,mL,sM,sM⟩⟩
 by_cases h0:l=[]
 .subst h0;refine⟨some ⟨w.heap.size,0,none⟩,0,w.alloc (.cells #[] e),?_,A0 _ _,⟨_,_,rfl,.inl rfl⟩,by simpa[AG]using hown0⟩;exact Zdh
 .have h':=h.below (A0 w (.cells #[] e));obtain⟨p',c',hv,h2⟩:=h';simp only[Value.slice.injEq]at hv;obtain⟨rfl,-,rfl⟩:=hv;obtain⟨b,o,rfl,h3⟩:=h2.resolve_left h0;clear h2;have hpos:0<l.length:=List.length_pos_iff.2 h0;obtain⟨g,cap,w',hr,hown,hg,hat,hlt⟩:=run_append_lies (P:=prog) (w.alloc (.cells #[] e)) t ty w.heap.size e i z k bytes ht hi hz hsize hby hzs hk (.slice (some ⟨w.heap.size,0,none⟩) 0 0) 0 [] hown0 ⟨b,o,none⟩ l.length d (AG f l) (Ef hf l) (H2 hk hf h3) Zgw hpos oM (by rw[Nat.zero_add];exact hb) sM _ rfl;rw[Nat.zero_add]at hr hown;rw[List.nil_append]at hown;have hgb:∀g',(Value.slice (some ⟨g,0,none⟩) l.length cap).ownBlock=some g'->w.heap.size<=g':=fun g' e=>(hown.lt g' e).1;refine⟨_,cap,w',hr,⟨hg.os,hg.tape,hg.output,gH sM hg.size,fun j hj=>(hg.block j sO (by show some j≠some w.heap.size;simp;omega)).trans ((A0 w (.cells #[] e)).block j hj)⟩,?_,hown⟩;obtain⟨q,cc,hq,hrow⟩:=C9 hf hown;simp only[Value.slice.injEq]at hq;obtain⟨rfl,-,rfl⟩:=hq;refine⟨_,_,rfl,hrow.imp id fun⟨b',o',hp,hh⟩=>⟨b',o',hp,?_,?_,hh⟩⟩
  .simp only[Option.some.injEq,Addr.mk.injEq]at hp;have:=hgb g rfl;omega
  .simp only[Option.some.injEq,Addr.mk.injEq]at hp;have:=(hown.lt g rfl).2;omega
theorem Td(v:Value)(l:List Cx)(w:World)(h:AZ 3 AU w v l)(hl:l.length<=1000000):
 Calls prog 28 #[v] w fun e w'=>∃p c,e=.returned (.slice p l.length c)/\Ev (fun b=>b<w.heap.size) 3 AU w' (.slice p l.length c) l/\w'.ownsRow w.heap.size 53 3 (.slice p l.length c) l.length (AG AU l)/\Below w.heap.size w w':=by
 obtain⟨i0,hi0,hz0,hz1,hz2⟩:=info_parts Hp;have hv:=h;obtain⟨p,c,rfl,hh⟩:=h;cases p with
 |none=>
  have hn:l=[]:=by
   exact Zet
  subst hn;clear hh hv;have heq:∀ (w:World) (n:Nat),(binOp .eql 22 (.slice none n c) (.slice none 0 0)).run prog w=.ok (.bool true) w:=fun w n=>Go.run_eql_slice_nil w _ _ none n c underlying22;go_enter func28,ntmps28;exact Zdb
 |some ad=>
  obtain⟨p',c',w',hr,hb,hrow,hown⟩:=I9 dE Fy OP underlying22 hi0 hz0 hz1 hz2 rfl hv mL oM 22;have HF:Hid (Ev (fun b=>b<w.heap.size) 3 AU w' (.slice p' l.length c') l/\w'.ownsRow w.heap.size 53 3 (.slice p' l.length c') l.length (AG AU l)/\Below w.heap.size w w'):=⟨hrow,hown,hb⟩
  obtain⟨n,hn⟩:=gA (l.length)
  rw[hn]at hr HF |-;clear hh hv hb hrow hown hn;have heq:∀ (w:World),(binOp .eql 22 (.slice (some ad) n c) (.slice none 0 0)).run prog w=.ok (.bool false) w:=fun w=>Go.run_eql_slice_nil w _ _ (some ad) n c underlying22;go_enter func28,ntmps28;go_wp2_with(at_builtin;refine Au rfl _ _ 22 rfl _ _ _ rfl rfl hr ?_);go_ret;exact⟨p',c',rfl,HF.out⟩
theorem Vh(v:Value)(l:List Ty)(w:World)(h:AZ 2 I2 w v l)(hl:l.length<=1000000):
 Calls prog 29 #[v] w fun e w'=>∃p c,e=.returned (.slice p l.length c)/\Ev (fun b=>b<w.heap.size) 2 I2 w' (.slice p l.length c) l/\w'.ownsRow w.heap.size 47 2 (.slice p l.length c) l.length (AG I2 l)/\Below w.heap.size w w':=by
 obtain⟨i0,hi0,hz0,hz1,hz2⟩:=info_parts IR;have hv:=h;obtain⟨p,c,rfl,hh⟩:=h;cases p with
 |none=>
  have hn:l=[]:=by
   exact Zet
  subst hn;clear hh hv;have heq:∀ (w:World) (n:Nat),(binOp .eql 23 (.slice none n c) (.slice none 0 0)).run prog w=.ok (.bool true) w:=fun w n=>Go.run_eql_slice_nil w _ _ none n c underlying23;go_enter func29,ntmps29;exact Zdb
 |some ad=>
  obtain⟨p',c',w',hr,hb,hrow,hown⟩:=I9 dE H6 SI underlying23 hi0 hz0 hz1 hz2 rfl hv mL oM 23;have HF:Hid (Ev (fun b=>b<w.heap.size) 2 I2 w' (.slice p' l.length c') l/\w'.ownsRow w.heap.size 47 2 (.slice p' l.length c') l.length (AG I2 l)/\Below w.heap.size w w'):=⟨hrow,hown,hb⟩
  obtain⟨n,hn⟩:=gA (l.length)
  rw[hn]at hr HF |-;clear hh hv hb hrow hown hn;have heq:∀ (w:World),(binOp .eql 23 (.slice (some ad) n c) (.slice none 0 0)).run prog w=.ok (.bool false) w:=fun w=>Go.run_eql_slice_nil w _ _ (some ad) n c underlying23;go_enter func29,ntmps29;go_wp2_with(at_builtin;refine Au rfl _ _ 23 rfl _ _ _ rfl rfl hr ?_);go_ret;exact⟨p',c',rfl,HF.out⟩
theorem Vg(v:Value)(l:List Sl)(w:World)(h:AZ 5 O0 w v l)(hl:l.length<=1000000):
 Calls prog 30 #[v] w fun e w'=>∃p c,e=.returned (.slice p l.length c)/\Ev (fun b=>b<w.heap.size) 5 O0 w' (.slice p l.length c) l/\w'.ownsRow w.heap.size 49 5 (.slice p l.length c) l.length (AG O0 l)/\Below w.heap.size w w':=by
 obtain⟨i0,hi0,hz0,hz1,hz2⟩:=info_parts Mg;have hv:=h;obtain⟨p,c,rfl,hh⟩:=h;cases p with
 |none=>
  have hn:l=[]:=by
   exact Zet
  subst hn;clear hh hv;have heq:∀ (w:World) (n:Nat),(binOp .eql 24 (.slice none n c) (.slice none 0 0)).run prog w=.ok (.bool true) w:=fun w n=>Go.run_eql_slice_nil w _ _ none n c underlying24;go_enter func30,ntmps30;exact Zdb
 |some ad=>
  obtain⟨p',c',w',hr,hb,hrow,hown⟩:=I9 dE JV SC underlying24 hi0 hz0 hz1 hz2 rfl hv mL oM 24;have HF:Hid (Ev (fun b=>b<w.heap.size) 5 O0 w' (.slice p' l.length c') l/\w'.ownsRow w.heap.size 49 5 (.slice p' l.length c') l.length (AG O0 l)/\Below w.heap.size w w'):=⟨hrow,hown,hb⟩
  obtain⟨n,hn⟩:=gA (l.length)
  rw[hn]at hr HF |-;clear hh hv hb hrow hown hn;have heq:∀ (w:World),(binOp .eql 24 (.slice (some ad) n c) (.slice none 0 0)).run prog w=.ok (.bool false) w:=fun w=>Go.run_eql_slice_nil w _ _ (some ad) n c underlying24;go_enter func30,ntmps30;go_wp2_with(at_builtin;refine Au rfl _ _ 24 rfl _ _ _ rfl rfl hr ?_);go_ret;exact⟨p',c',rfl,HF.out⟩
theorem Ta(v:Value)(l:List Aa)(w:World)(h:AZ 7 De w v l)(hl:l.length<=1000000):
 Calls prog 27 #[v] w fun e w'=>∃p c,e=.returned (.slice p l.length c)/\Ev (fun b=>b<w.heap.size) 7 De w' (.slice p l.length c) l/\w'.ownsRow w.heap.size 45 7 (.slice p l.length c) l.length (AG De l)/\Below w.heap.size w w':=by
 obtain⟨i0,hi0,hz0,hz1,hz2⟩:=info_parts E0;have hv:=h;obtain⟨p,c,rfl,hh⟩:=h;cases p with
 |none=>
  have hn:l=[]:=by
   exact Zet
  subst hn;clear hh hv;have heq:∀ (w:World) (n:Nat),(binOp .eql 25 (.slice none n c) (.slice none 0 0)).run prog w=.ok (.bool true) w:=fun w n=>Go.run_eql_slice_nil w _ _ none n c underlying25;go_enter func27,ntmps27;exact Zdb
 |some ad=>
  obtain⟨p',c',w',hr,hb,hrow,hown⟩:=I9 dE D6 Np underlying25 hi0 hz0 hz1 hz2 rfl hv mL oM 25;have HF:Hid (Ev (fun b=>b<w.heap.size) 7 De w' (.slice p' l.length c') l/\w'.ownsRow w.heap.size 45 7 (.slice p' l.length c') l.length (AG De l)/\Below w.heap.size w w'):=⟨hrow,hown,hb⟩
  obtain⟨n,hn⟩:=gA (l.length)
  rw[hn]at hr HF |-;clear hh hv hb hrow hown hn;have heq:∀ (w:World),(binOp .eql 25 (.slice (some ad) n c) (.slice none 0 0)).run prog w=.ok (.bool false) w:=fun w=>Go.run_eql_slice_nil w _ _ (some ad) n c underlying25;go_enter func27,ntmps27;go_wp2_with(at_builtin;refine Au rfl _ _ 25 rfl _ _ _ rfl rfl hr ?_);go_ret;exact⟨p',c',rfl,HF.out⟩
theorem F3{c:Cd}(h:(At c).1=0):By c/\AK c ⟨[],[]⟩ c.list=true:=by
 obtain⟨h1,h2,_⟩:=D4.1 h;refine⟨?_,h2⟩;unfold Ct at h1;by_cases e1:Bo c.sign=0
 .rw[if_neg (by simp[e1])]at h1;by_cases e2:16384<c.regs.length\/32768<c.list.length
  .rw[if_pos e2]at h1;cases h1
  .rw[if_neg e2]at h1;by_cases e3:4096<c.slots.length
   .rw[if_pos e3]at h1;cases h1
   .rw[if_neg e3]at h1;by_cases e4:(Aj c&&Cn c)=true
    .simp only[Bool.and_eq_true]at e4;have e5:¬c.sign.length>64/\c.sign.all Cp=true:=by
      unfold Bo at e1;by_cases q1:c.sign.length>64
      .rw[if_pos q1]at e1;cases e1
      .rw[if_neg q1]at e1;refine⟨q1,?_⟩;cases q2:c.sign.all Cp with
       |true=>rfl
       |false=>rw[if_pos q2]at e1;cases e1
     have hm:∀p∈c.sign,Cp p=true:=List.all_eq_true.1 e5.2;refine⟨fun p hp=>?_,hm,List.all_eq_true.1 e4.1,List.all_eq_true.1 e4.2,oM,oM,oM,oM⟩;have:=hm p hp;unfold Cp at this;simp only[Bool.and_eq_true,decide_eq_true_eq]at this;omega
    .rw[if_neg e4]at h1;cases h1
 .rw[if_pos e1]at h1;exact absurd h1 e1
theorem Oa{c:Cd}(hg:By c){s:Sl}(hs:s∈c.slots)(hb:AB s.bits):PC c s.ty (BC c s):=by
 have hm:=hg.slots s hs;unfold Br at hm;simp only[Bool.and_eq_true]at hm;have hb2:=hm.2;unfold FI at hb2;refine⟨by unfold BC EZ;simp,fun y hy=>?_,?_⟩
 .unfold BC EZ at hy;rw[List.eq_of_mem_replicate hy];exact Dx _ hb
 .show 0<=s.int_/\s.int_<=2147483647;split at hb2
  .unfold E7 at hb2;simp only[Bool.and_eq_true,decide_eq_true_eq,beq_iff_eq]at hb2;exact hb2.2
  .simp only[Bool.and_eq_true,beq_iff_eq]at hb2;omega
theorem MG{c:Cd}{k:Nat}(h:k<(Co c).length)(h':k<c.slots.length):(Co c)[k]=BC c c.slots[k]:=by simp[Co]
section
variable {w W1 : World} {FR n C : Nat} {sv gv pv : Value}
end
def PJ(c:Cd)(l:List Hd):Nat->List Hd
 |0=>l
 |j+1=>match c.slots[j]? with
  |some s=>if s.keep then PJ c l j else(PJ c l j).set j (BC c s)
  |none=>PJ c l j
def B8(c:Cd)(l:List Hd):Fr:=⟨fun _=>0,fun _=>0,fun _=>[],PJ c l c.slots.length,fun _ _=>0⟩
def Eo(c:Cd)(l:List Hd)(G P:List (List Int)):Fr:=(En c G P (B8 c l,0) c.list).1
theorem I7(c:Cd)(l:List Hd):∀j,(PJ c l j).length=l.length
 |0=>rfl
 |j+1=>by
  unfold PJ;split
  .split
   .exact I7 c l j
   .rw[List.length_set];exact I7 c l j
  .exact I7 c l j
structure Fl(L:List (List Int)):Prop where
 len:L.length<=140737488351232
 lens:∀l∈L,l.length<=140737488351232
 isP:∀l∈L,∀y∈l,AB y
theorem JJ{c:Cd}{L:List (List Int)}(h:Cz c.sign (L.map fun l=>l.length)=true)(hk:Fl L)(hg:By c):DD c L:=by
 have Bl:∀ (ps:List Cx) (M:List (List Int)),(∀p∈ps,Cp p=true/\1<=p.len)->Cz ps (M.map fun l=>l.length)=true->M.length=ps.length/\∀p (h:p<M.length),(M[p]).length=(ps[p]?).elim 0 OL:=by
  intro ps;induction ps with
  |nil=>intro M _ h;cases M with
   |nil=>exact⟨rfl,fun p h=>absurd h (Nat.not_lt_zero _)⟩
   |cons a M=>simp[Cz]at h
  |cons q ps ih=>
   intro M hm h;cases M with
   |nil=>simp[Cz]at h
   |cons a M=>
    simp only[List.map_cons,Cz,Bool.and_eq_true,decide_eq_true_eq]at h;obtain⟨i1,i2⟩:=ih M (fun p hp=>hm p (by simp[hp])) h.2;refine⟨by simp[i1],fun p hp=>?_⟩;cases p with
    |zero=>
     show a.length=OL q;unfold OL;omega
    |succ p=>exact i2 p (by simpa using hp)
 obtain⟨k1,k2⟩:=Bl c.sign L (fun p hp=>⟨hg.kind p hp,(hg.len p hp).1⟩) h;exact⟨k1,k2,hk.isP⟩
theorem Gh.cellsOf{T:Nat->Prop}{w:World}{v:Value}{L:List (List Int)}(h:Gh T w v L):∃p c,v=.slice p L.length c/\∀i (hi:i<L.length),∃b o q d,p=some ⟨b,o,none⟩/\w.cell? ⟨b,o+i,none⟩=some (.slice q (L[i]).length d)/\Bh w q (L[i]).length (fun j=>.int .u32 (Cy L[i] j)):=by
 obtain⟨p,c,hv,hh⟩:=h;refine⟨p,c,hv,fun i hi=>?_⟩;rcases hh with e|⟨b,o,hp,_,_,hh⟩
 .rw[e]at hi;exact absurd hi (Nat.not_lt_zero _)
 .obtain⟨u,h1,h2⟩:=hh i hi;obtain⟨q,d,hq⟩:=h2.len;rw[hq]at h1 h2;exact⟨b,o,q,d,hp,h1,h2.reads.2⟩
def IK(c:Cd)(f f':Fr)(r r':Int):Prop:=Bx c f' r'=Bx c f r/\A5 c.regs r'=A5 c.regs r
section
variable {c : Cd} {G P : List (List Int)} {f f' : Fr} {i i' : Aa}
theorem IK.num{r r':Int}(h:IK c f f' r r')(k:(A5 c.regs r).kind=1):f'.nums r'.toNat=f.nums r.toNat:=by
 obtain⟨h1,h2⟩:=h;unfold Bx at h1;rw[h2,if_pos k,if_pos k]at h1;simpa using h1
theorem IK.whs{r r':Int}(h:IK c f f' r r')(k:(A5 c.regs r).kind=2):f'.whs r'.toNat=f.whs r.toNat:=by
 obtain⟨h1,h2⟩:=h;unfold Bx at h1;rw[h2,if_neg oM,if_pos k,if_neg oM,if_pos k]at h1;simpa using h1
theorem IK.vec{r r':Int}(h:IK c f f' r r')(k:(A5 c.regs r).kind=3):f'.vecs r'.toNat=f.vecs r.toNat:=by
 obtain⟨h1,h2⟩:=h;unfold Bx at h1;rw[h2,if_neg oM,if_neg oM,if_neg oM,if_neg oM]at h1;simpa using h1
structure Ed(c:Cd)(f f':Fr)(i i':Aa):Prop where
 op:i'.op=i.op
 d:A5 c.regs i'.d=A5 c.regs i.d
 n:i'.n=i.n
 bits:i'.bits=i.bits
 a:(A3 i.op).a≠0->IK c f f' i.a i'.a
 b:(A3 i.op).b≠0->IK c f f' i.b i'.b
 c:(A3 i.op).c≠0->IK c f f' i.c i'.c
theorem Ep(h:AN c i (A3 i.op)=true)(l:Int)(e:(A3 i.op).a=l)(h1:1<=l)(h2:l<=3):(A5 c.regs i.a).kind=l:=by
 have:=AR (BR h) oM;exact Zcu
theorem VV(h:AN c i (A3 i.op)=true)(l:Int)(e:(A3 i.op).b=l)(h1:1<=l)(h2:l<=3):(A5 c.regs i.b).kind=l:=by
 have:=AR (E8 h) oM;exact Zcu
theorem kind_c(h:AN c i (A3 i.op)=true)(l:Int)(e:(A3 i.op).c=l)(h1:1<=l)(h2:l<=3):(A5 c.regs i.c).kind=l:=by
 have:=AR (E9 h) oM;exact Zcu
theorem Ff(h:AN c i (A3 i.op)=true)(l:Int)(e:(A3 i.op).d=l)(h1:1<=l)(h2:l<=3):(A5 c.regs i.d).kind=l:=by
 have:=AR (Dh h) oM;exact Zcu
theorem RU(h:AN c i (A3 i.op)=true)(e:Ed c f f' i i')(hn:Dw i.op=true):Kx f' i'=Kx f i:=by
 unfold Dw at hn;simp only[Bool.or_eq_true,beq_iff_eq]at hn;unfold Kx;rw[e.op,e.bits];rcases(show i.op=1\/i.op=16\/i.op=17\/i.op=19\/i.op=20 by omega)with o|o|o|o|o
 .simp[o]
 .have r:A3 i.op=⟨1,1,2,0,0⟩:=by rw[o];decide
  simp only[o,if_true];rw[(e.a Zhv).num (Ep h 1 (by rw[r]) dE dE),(e.b Zhv).whs (VV h 2 (by rw[r]) dE dE)]
 .have r:A3 i.op=⟨1,2,0,0,0⟩:=by rw[o];decide
  rw[if_neg oM,if_pos o,if_neg oM,if_pos o,(e.a Zhv).whs (Ep h 2 (by rw[r]) dE dE)]
 .have r:A3 i.op=⟨1,3,0,0,0⟩:=by rw[o];decide
  rw[if_neg oM,if_neg oM,if_pos o,if_neg oM,if_neg oM,if_pos o,(e.a Zhv).vec (Ep h 3 (by rw[r]) dE dE)]
 .have r:A3 i.op=⟨1,3,0,0,0⟩:=by rw[o];decide
  rw[if_neg oM,if_neg oM,if_neg oM,if_pos o,if_neg oM,if_neg oM,if_neg oM,if_pos o,(e.a Zhv).vec (Ep h 3 (by rw[r]) dE dE)]
theorem MU(h:AN c i (A3 i.op)=true)(e:Ed c f f' i i')(hn:Bq i.op=true):Fh f' i'=Fh f i:=by
 unfold Bq at hn;simp only[Bool.or_eq_true,beq_iff_eq,Bool.and_eq_true,decide_eq_true_eq]at hn;have ka:∀l,(A3 i.op).a=l->1<=l->l<=3->(A5 c.regs i.a).kind=l:=fun l=>Ep h l;have wa:(A3 i.op).a=2->f'.whs i'.a.toNat=f.whs i.a.toNat:=fun q=>(e.a (by rw[q];decide)).whs (Ep h 2 q dE dE);have wb:(A3 i.op).b=2->f'.whs i'.b.toNat=f.whs i.b.toNat:=fun q=>(e.b (by rw[q];decide)).whs (VV h 2 q dE dE);have wc:(A3 i.op).c=2->f'.whs i'.c.toNat=f.whs i.c.toNat:=fun q=>(e.c (by rw[q];decide)).whs (kind_c h 2 q dE dE);unfold Fh;rw[e.op,e.n];rcases(show i.op=2\/i.op=18\/i.op=21\/i.op=22\/i.op=23\/i.op=24\/i.op=25\/i.op=26\/i.op=27\/i.op=28 by omega)with o|o|o|o|o|o|o|o|o|o
 .simp[o]
 .have q:(A3 i.op).a=1:=by rw[o];decide
  have q2:=(e.a (by rw[q];decide)).num (Ep h 1 q dE dE);simp only[o,if_true];rw[q2]
 .simp[o,wa UP]
 .exact Zdw
 .exact Zdw
 .exact Zdw
 .simp[o,wa UP]
 .simp[o,wa UP,wb UP,wc UP]
 .exact Zdw
 .exact Zdw
theorem Vc(e:Ed c f f' i i'):Bu c f' i'=Bu c f i:=by
 unfold Bu Ac;rw[e.op];by_cases ha:(A3 i.op).a=0<;>by_cases hb:(A3 i.op).b=0<;>by_cases hc:(A3 i.op).c=0<;>simp only[ha,hb,hc,if_true,if_false,List.nil_append,List.map_append,List.map_cons,List.map_nil]
 all_goals(
  try rw[(e.a ha).1]
  try rw[(e.b hb).1]
  try rw[(e.c hc).1])
theorem DA(c:Cd)(f:Fr)(r:Int)(h:Hd):(J4 c f r h).slots=f.slots/\(J4 c f r h).outs=f.outs:=by
 unfold J4;split
 .exact⟨rfl,rfl⟩
 .split<;>exact⟨rfl,rfl⟩
theorem NF(c:Cd)(f f':Fr){r r':Int}(h:Hd)(e:A5 c.regs r'=A5 c.regs r):Bx c (J4 c f' r' h) r'=Bx c (J4 c f r h) r:=by
 unfold Bx J4;rw[e];by_cases k1:(A5 c.regs r).kind=1
 .simp only[k1,if_true,B6]
 .by_cases k2:(A5 c.regs r).kind=2
  .simp only[if_neg k1,k2,if_true,B6];simp[B6]
  .simp only[if_neg k1,if_neg k2,B6]
theorem Mw(c:Cd)(f:Fr){r d:Int}(h:Hd)(e:r.toNat≠d.toNat):Bx c (J4 c f d h) r=Bx c f r:=by
 unfold J4;split
 .unfold Bx;simp only[BS _ _ e]
 .split
  .unfold Bx;simp only[BS _ _ e]
  .unfold Bx;simp only[BS _ _ e]
theorem Dm(c:Cd)(f:Fr)(i:Aa):(EJ c f i).slots=f.slots/\(EJ c f i).outs=f.outs:=by
 unfold EJ;split
 .exact⟨rfl,rfl⟩
 .exact DA _ _ _ _
theorem Vm(h:AN c i (A3 i.op)=true)(hk:Aq i.op=true)(e:Ed c f f' i i')(hsl:f'.slots=f.slots)(hou:f'.outs=f.outs):
 (CI c G P f' i').slots=(CI c G P f i).slots/\(CI c G P f' i').outs=(CI c G P f i).outs/\(Ah i=true->Bx c (CI c G P f' i') i'.d=Bx c (CI c G P f i) i.d):=by
 have eo:=e.op;rcases CE hk with o|o|o|o|o|o|o|o|o
 .have hd:(A3 i.op).d=1:=by
   exact Zel
  have k:=Ff h 1 hd dE dE;rw[Bz o,Bz Zgu];refine⟨hsl,hou,fun _=>?_⟩;unfold Bx;rw[e.d,if_pos k,if_pos k];simp only[B6,RU h e o]
 .have hd:(A3 i.op).d=2:=by
   exact Zdi
  have k:=Ff h 2 hd dE dE;rw[AT o,AT Zgu];refine⟨hsl,hou,fun _=>?_⟩;unfold Bx;rw[e.d,if_neg oM,if_pos k,if_neg oM,if_pos k];simp only[B6,MU h e o]
 .have k:=Ff h 3 UP dE dE;have hp:Bm c G i'=Bm c G i:=by unfold Bm;rw[e.d,e.n]
  rw[BZ o,BZ (eo.trans o)];refine⟨hsl,hou,fun _=>?_⟩;exact Zdl
 .have k:=Ff h 3 UP dE dE;have hp:Bm c P i'=Bm c P i:=by unfold Bm;rw[e.d,e.n]
  rw[C5 o,C5 (eo.trans o)];refine⟨hsl,hou,fun _=>?_⟩;exact Zdl
 .have ra:(A3 i.op).a=3:=by rw[o];decide
  have q:=e.a Zhs;rw[Ch o,Ch (eo.trans o)];refine⟨hsl,?_,fun s=>?_⟩
  .simp only;rw[q.2,q.vec (Ep h 3 ra dE dE),hou,e.n]
  .exact Zem
 .rw[BE o,BE (eo.trans o)];obtain⟨s1,s2⟩:=DA c f i.d ((f.slots[i.n.toNat]?).getD ⟨[],0⟩);obtain⟨s3,s4⟩:=DA c f' i'.d ((f'.slots[i'.n.toNat]?).getD ⟨[],0⟩);refine⟨by rw[s1,s3,hsl],by rw[s2,s4,hou],fun _=>?_⟩;rw[hsl,e.n];exact NF c f f' _ e.d
 .have ra:(A3 i.op).a=6:=by rw[o];decide
  have q:=e.a Zhs;rw[Ci o,Ci (eo.trans o)];refine⟨?_,hou,fun s=>?_⟩
  .simp only;rw[hsl,e.n,q.1]
  .exact Zem
 .rw[AM o,AM Zgu];refine⟨hsl,hou,fun s=>?_⟩;obtain⟨a1,a2,a3,a4⟩:=Ix s;omega
 .rw[AS o,AS Zgu];obtain⟨s1,s2⟩:=Dm c f i;obtain⟨s3,s4⟩:=Dm c f' i';refine⟨by rw[s1,s3,hsl],by rw[s2,s4,hou],fun _=>?_⟩;exact Zaz
theorem IF(h:AN c i (A3 i.op)=true)(hk:Aq i.op=true)(e:Ed c f f' i i')(hsl:i.op=32->f'.slots=f.slots):
 (Ah i=true->Bx c (CI c G P f' i') i'.d=Bx c (CI c G P f i) i.d):=by
 have eo:=e.op;rcases CE hk with o|o|o|o|o|o|o|o|o
 .have hd:(A3 i.op).d=1:=by
   exact Zel
  have k:=Ff h 1 hd dE dE;rw[Bz o,Bz Zgu];intro _;unfold Bx;rw[e.d,if_pos k,if_pos k];simp only[B6,RU h e o]
 .have hd:(A3 i.op).d=2:=by
   exact Zdi
  have k:=Ff h 2 hd dE dE;rw[AT o,AT Zgu];intro _;unfold Bx;rw[e.d,if_neg oM,if_pos k,if_neg oM,if_pos k];simp only[B6,MU h e o]
 .have k:=Ff h 3 UP dE dE;have hp:Bm c G i'=Bm c G i:=by unfold Bm;rw[e.d,e.n]
  rw[BZ o,BZ (eo.trans o)];intro _;exact Zdl
 .have k:=Ff h 3 UP dE dE;have hp:Bm c P i'=Bm c P i:=by unfold Bm;rw[e.d,e.n]
  rw[C5 o,C5 (eo.trans o)];intro _;exact Zdl
 .have ra:(A3 i.op).a=3:=by rw[o];decide
  have q:=e.a Zhs;rw[Ch o,Ch (eo.trans o)];intro s;exact Zem
 .rw[BE o,BE (eo.trans o)];obtain⟨s1,s2⟩:=DA c f i.d ((f.slots[i.n.toNat]?).getD ⟨[],0⟩);obtain⟨s3,s4⟩:=DA c f' i'.d ((f'.slots[i'.n.toNat]?).getD ⟨[],0⟩);intro _;rw[hsl o,e.n];exact NF c f f' _ e.d
 .have ra:(A3 i.op).a=6:=by rw[o];decide
  have q:=e.a Zhs;rw[Ci o,Ci (eo.trans o)];intro s;exact Zem
 .rw[AM o,AM Zgu];intro s;obtain⟨a1,a2,a3,a4⟩:=Ix s;omega
 .rw[AS o,AS Zgu];obtain⟨s1,s2⟩:=Dm c f i;obtain⟨s3,s4⟩:=Dm c f' i';intro _;exact Zaz
theorem BD(hk:Aq i.op=true){r:Int}(hr:Ah i=true->r.toNat≠i.d.toNat):Bx c (CI c G P f i) r=Bx c f r:=by
 have sb:∀q:Int,i.op=q->(A3 q).d≠0->Ah i=true:=fun q e h=>by unfold Ah;rw[e];simpa using h
 rcases CE hk with o|o|o|o|o|o|o|o|o
 .have s:Ah i=true:=by
   unfold Dw at o;simp only[Bool.or_eq_true,beq_iff_eq]at o;rcases(show i.op=1\/i.op=16\/i.op=17\/i.op=19\/i.op=20 by omega)with q|q|q|q|q<;>exact sb _ q dE
  rw[Bz o];unfold Bx;simp only[BS _ _ (hr s)]
 .have s:Ah i=true:=by
   unfold Bq at o;simp only[Bool.or_eq_true,beq_iff_eq,Bool.and_eq_true,decide_eq_true_eq]at o;rcases(show i.op=2\/i.op=18\/i.op=21\/i.op=22\/i.op=23\/i.op=24\/i.op=25\/i.op=26\/i.op=27\/i.op=28 by omega)with q|q|q|q|q|q|q|q|q|q<;>exact sb _ q dE
  rw[AT o];unfold Bx;simp only[BS _ _ (hr s)]
 .rw[BZ o];unfold Bx;simp only[BS _ _ (hr (sb _ o dE))]
 .rw[C5 o];unfold Bx;simp only[BS _ _ (hr (sb _ o dE))]
 .rw[Ch o];rfl
 .rw[BE o];exact Mw c f _ (hr (sb _ o dE))
 .rw[Ci o];rfl
 .rw[AM o]
 .have s:Ah i=true:=by
   unfold B3 at o;simp only[Bool.and_eq_true,decide_eq_true_eq]at o;rcases(show i.op=3\/i.op=4\/i.op=5\/i.op=6\/i.op=7\/i.op=8\/i.op=9\/i.op=10\/i.op=11\/i.op=12\/i.op=13\/i.op=14\/i.op=15 by omega)with q|q|q|q|q|q|q|q|q|q|q|q|q<;>exact sb _ q dE
  rw[AS o];unfold EJ;split
  .unfold Bx;simp only[BS _ _ (hr s)]
  .exact Mw c f _ (hr s)
theorem R0(hk:Aq i.op=true)(s:Ah i=true):(CI c G P f i).slots=f.slots/\(CI c G P f i).outs=f.outs:=by
 rcases CE hk with o|o|o|o|o|o|o|o|o
 .rw[Bz o];exact⟨rfl,rfl⟩
 .rw[AT o];exact⟨rfl,rfl⟩
 .rw[BZ o];exact⟨rfl,rfl⟩
 .rw[C5 o];exact⟨rfl,rfl⟩
 .exfalso;unfold Ah at s;rw[o]at s;exact absurd s dE
 .rw[BE o];exact DA _ _ _ _
 .exfalso;unfold Ah at s;rw[o]at s;exact absurd s dE
 .rw[AM o];exact⟨rfl,rfl⟩
 .rw[AS o];exact Dm _ _ _
theorem Ed.refl(h:∀r∈Ac i (A3 i.op),IK c f f' r r):Ed c f f' i i:=by
 unfold Ac at h;simp only[List.mem_append]at h;refine⟨rfl,rfl,rfl,rfl,fun q=>h _ (.inl UO),fun q=>h _ (.inr (.inl UO)),fun q=>h _ (.inr (.inr UO))⟩
end

def PM(c:Array Value)(i:Nat):Value:=(c[i]?).getD (.int .i64 0)
theorem Di(w:World)(c:Array Value)(t:TypeId):(w.alloc (.cells c t)).rowIs w.heap.size t c.size (PM c):=World.rowIs_alloc w c t _ (fun i hi=>by unfold PM;simp[hi])
end Go.Proofs.YtpoklpdgpcnkgaaGreat
