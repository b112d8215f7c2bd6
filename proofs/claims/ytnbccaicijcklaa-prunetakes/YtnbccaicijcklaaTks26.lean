import Derived.Test.YtnbccaicijcklaaTks1
import Derived.Test.YtnbccaicijcklaaTks23
import Derived.Test.YtnbccaicijcklaaTks3
import Derived.Test.YtnbccaicijcklaaTks16
import Derived.Deep.DeepCutAuto
namespace Go.Proofs.Ytnbccaicijcklaa
open Go.RowKit Go.Proofs.Try
set_option linter.all false
set_option maxRecDepth 100000
set_option maxHeartbeats 16000000
theorem Lz(v0 v1 v2 v3:Value)(c:Cd)(co:Ba c)(hT:Ap c=true)(i:Aa)(h0:0<=i.bits)(h1:i.bits<4294967296)(w:World)(hv:BP w v0 v1 v2 v3 c):
 Calls prog 50 #[.agg #[v0,v1,v2,v3],B9 i] w fun e w'=>e=.returned (.bool (An i.op&&CG c i (Cj i.op)))/\Below w.heap.size w w':=by
 cases hh:(An i.op&&((i.op==1||i.bits==0)&&BL i.bits))
 ·have e:(An i.op&&CG c i (Cj i.op))=false:=by
   unfold CG;revert hh;cases An i.op<;>cases(i.op==1||i.bits==0)<;>cases BL i.bits<;>simp
  rw[e];exact MN v0 v1 v2 v3 i h0 h1 hh w
 ·simp only[Bool.and_eq_true]at hh;rw[hh.1,Bool.true_and];exact LA v0 v1 v2 v3 c co hT i h0 h1 hh.1 hh.2.1 hh.2.2 w hv
theorem OM{c:Cd}{i:Aa}(h:AW c i (A4 i.op)=true):∀x∈A9 i (A4 i.op),0<=x/\x<(c.regs.length:Int):=by
 intro x hx;unfold A9 at hx;simp only[List.mem_append]at hx;rcases hx with hx|hx|hx
 ·split at hx
  ·simp at hx
  ·rename_i e;simp at hx;subst hx;exact Al (Da h) e
 ·split at hx
  ·simp at hx
  ·rename_i e;simp at hx;subst hx;exact Al (DU h) e
 ·split at hx
  ·simp at hx
  ·rename_i e;simp at hx;subst hx;exact Al (DV h) e
theorem Lw(i:Aa):(A9 i (A4 i.op)).length<=3:=by
 rw[D5];simp only[List.length_append];have a:=Ck (A4 i.op).a i.a;have b:=Ck (A4 i.op).b i.b;have d:=Ck (A4 i.op).c i.c;omega
theorem Iq(v0 v1 v2 v3:Value)(c:Cd)(co:Ba c)(hT:Ap c=true)(i:Aa)(hb0:0<=i.bits)(hb1:i.bits<4294967296)(B:Nat)(s:Wk)(sv ov:Value)(us:List Value)(hM:c.regs.length<=16384)(ok:CM c.regs.length s)(po:Cr s)(w:World)(hv:BP w v0 v1 v2 v3 c)(hs:SK B c.regs.length w sv ov s us):
 Calls prog 34 #[.agg #[v0,v1,v2,v3],B9 i,sv,ov] w fun e w'=>e=.returned (.bool (AS c s i))/\Below w.heap.size w w':=by
 rw[LK hT po];have hfit:(An i.op&&CG c i (Cj i.op))=true->AW c i (A4 i.op)=true:=fun h=>by simp only[Bool.and_eq_true]at h;rw[←I1 hT];exact h.2
 have HFIT:Hid (∀v,Below w.heap.size w v->Calls prog 50 #[.agg #[v0,v1,v2,v3],B9 i] v fun e w'=>e=.returned (.bool (An i.op&&CG c i (Cj i.op)))/\Below v.heap.size v w'):=fun v hb=>Lz v0 v1 v2 v3 c co hT i hb0 hb1 v (hv.below hb);have HVEC:Hid (∀v,Below w.heap.size w v->Calls prog 51 #[.agg #[v0,v1,v2,v3],B9 i] v fun e w'=>e=.returned (.int .i64 (Eg c.regs (Dx i)))/\Below v.heap.size v w'):=fun v hb=>Is v0 v1 v2 v3 c co i v (hv.below hb);have HRD:Hid (∀v,Calls prog 20 #[B9 i] v fun e w'=>∃u,e=.returned u/\w'.ownsRow v.heap.size 3 1 u (A9 i (A4 i.op)).length (B2 (A9 i (A4 i.op)))/\Below v.heap.size v w'):=CA i;have hR3:=Lw i;have hRP:=fun h=>OM (hfit h);have hRO:Et s i (A4 i.op)=(A9 i (A4 i.op)).all fun n=>decide (n.toNat∈s.set):=rfl;rw[hRO];clear hfit hRO;unfold I6 IA;obtain⟨Fi,hFi⟩:∃F,(An i.op&&CG c i (Cj i.op))=F:=⟨_,rfl⟩
 rw[hFi]at HFIT hRP ⊢;obtain⟨V,hV⟩:∃V,Eg c.regs (Dx i)=V:=⟨_,rfl⟩
 rw[hV]at HVEC ⊢;obtain⟨R,hR⟩:∃R,A9 i (A4 i.op)=R:=⟨_,rfl⟩
 rw[hR]at HRD hR3 hRP ⊢;have hnest:=ok.nest;have hlast:=fun g q (e:ov=.slice (some ⟨g,0,none⟩) s.opens.length q)=>SK.last (e▸hs);obtain⟨p,q,rfl⟩:=Ao hs.opn;have hopn:0<s.opens.length->∃g,p=some ⟨g,0,none⟩:=fun h=>by
  obtain⟨g,cap,e,_⟩:=hs.opn.form h;simp only[Value.slice.injEq]at e;exact⟨g,e.1⟩
 obtain⟨ps,qs,rfl⟩:=Ao hs.set;have HSET:Hid (∀k,k<c.regs.length->∃g,ps=some ⟨g,0,none⟩/\w.cell? ⟨g,k,none⟩=some (.bool (decide (k∈s.set)))):=fun k hk=>by
  obtain⟨g,cap,e,_⟩:=hs.set.form oM;simp only[Value.slice.injEq]at e;obtain⟨rfl,-,-⟩:=e;exact⟨g,rfl,by rw[hs.set.cellAt k oM,EL hk]⟩
 have hz:s.opens.length=0->AA s=false:=fun h=>by
  obtain⟨S,O⟩:=s;cases O with
  |nil=>rfl
  |cons b r=>simp at h
 obtain⟨S,hS⟩:∃S,s.set=S:=⟨_,rfl⟩
 obtain⟨n,hn⟩:∃n,s.opens.length=n:=⟨_,rfl⟩
 obtain⟨lp,hlp⟩:∃l,AA s=l:=⟨_,rfl⟩
 obtain⟨par,hpar⟩:∃l,BE s=l:=⟨_,rfl⟩
 obtain⟨M,hMM⟩:∃M,c.regs.length=M:=⟨_,rfl⟩
 rw[hn]at hnest hlast hopn hz ⊢;rw[hlp]at hlast hz ⊢;rw[hpar]at hlast ⊢;rw[hS]at HSET ⊢;rw[hMM]at hM HSET hRP hlast ⊢;clear hFi hV hR hs ok po hv co hT hS hn hlp hpar hMM;obtain⟨op,D,A,Q,E,nn,bt⟩:=i;unfold B9 at HFIT HVEC HRD ⊢;simp only at HFIT HVEC HRD hb0 hb1 ⊢;clear hb0 hb1;have HT0:Hid (TW w v0 v1 v2 v3 (w.heap.size+1) op D A Q E nn bt ((w.alloc (.cells #[v0,v1,v2,v3] 27)).alloc (.cells #[.int .i64 op,.int .i64 D,.int .i64 A,.int .i64 Q,.int .i64 E,.int .i64 nn,.int .u32 bt] 40))):=TW.start w v0 v1 v2 v3 op D A Q E nn bt;obtain⟨hb00,c0,c1,c2,c3,i0,i1,i2,i3,i4,i5,i6⟩:=HT0.out;have hcase:(n=0/\lp=false)\/(∃m g,m+1=n/\p=some ⟨g,0,none⟩/\lp=false/\w.cell? ⟨g,m*3,none⟩=some (.int .i64 34))\/(∃m g,m+1=n/\p=some ⟨g,0,none⟩/\lp=true/\w.cell? ⟨g,m*3,none⟩=some (.int .i64 36)/\w.cell? ⟨g,m*3+1,none⟩=some (.int .i64 par)):=by
  by_cases h0:n=0
  ·exact .inl ⟨h0,hz h0⟩
  ·obtain⟨g,rfl⟩:=hopn oM;obtain⟨X,u,-,-,a0,a1,-⟩:=hlast g q rfl oM;obtain⟨m,rfl⟩:∃m,n=m+1:=⟨n-1,oM⟩
   rw[Nat.add_sub_cancel]at a0 a1;cases lp
   ·exact .inr (.inl ⟨m,g,rfl,rfl,rfl,a0⟩)
   ·exact .inr (.inr ⟨m,g,rfl,rfl,rfl,a0,a1⟩)
 clear hlast hopn hz;have HRP:Hid (Fi=true->∀x∈R,0<=x/\x<(M:Int)):=hRP;clear hRP;obtain⟨RES,hRES⟩:∃X,(Fi&&(!(lp&&(op != 37&&V != par))&&((R.all fun n=>decide (n.toNat∈S))&&(if op=34\/op=36 then decide (n<64)else if op=35 then decide (0<n)&& !lp else if op=37 then lp else true))))=X:=⟨_,rfl⟩
 rw[hRES];cases Fi
 ·have HQF:Hid (false=RES):=hRES;clear hRES;rcases hcase with⟨rfl,rfl⟩|⟨m,g,hm,rfl,rfl,z0⟩|⟨m,g,hm,rfl,rfl,z0,z1⟩
  ·exact QT
  ·have hw:IntKind.i64.wrap ((n:Int)-1)=(m:Int):=by rw[IntKind.wrap_i64];omega
   have x0:=kc hb00 z0;have j0:(0:Int)<(n:Int):=oM;have j1:(0:Int)<=(m:Int):=oM;have j2:(m:Int)<(n:Int):=oM;exact QT
  ·have hw:IntKind.i64.wrap ((n:Int)-1)=(m:Int):=by rw[IntKind.wrap_i64];omega
   have x0:=kc hb00 z0;have j0:(0:Int)<(n:Int):=oM;have j1:(0:Int)<=(m:Int):=oM;have j2:(m:Int)<(n:Int):=oM;exact QT
 ·rw[Bool.true_and]at hRES;have HRP1:Hid (∀x∈R,0<=x/\x<(M:Int)):=HRP.out rfl;clear HRP;rcases hcase with⟨hn0,rfl⟩|⟨m,g,hm,rfl,rfl,z0⟩|⟨m,g,hm,rfl,rfl,z0,z1⟩
  ·rw[Bool.false_and,Bool.not_false,Bool.true_and]at hRES;have HR2:Hid (((R.all fun n=>decide (n.toNat∈S))&&(if op=34\/op=36 then decide (n<64)else if op=35 then decide (0<n)&& !false else if op=37 then false else true))=RES):=hRES;clear hRES;have j0:¬ (0:Int)<(n:Int):=oM;go_enter func34,ntmps34;go_wp2;refine rG (fun v=>v.cell? ⟨w.heap.size,0,none⟩=some v0/\v.cell? ⟨w.heap.size,1,none⟩=some v1/\v.cell? ⟨w.heap.size,2,none⟩=some v2/\v.cell? ⟨w.heap.size,3,none⟩=some v3/\v.cell? ⟨w.heap.size+1,0,none⟩=some (.int .i64 op)/\v.cell? ⟨w.heap.size+1,1,none⟩=some (.int .i64 D)/\v.cell? ⟨w.heap.size+1,2,none⟩=some (.int .i64 A)/\v.cell? ⟨w.heap.size+1,3,none⟩=some (.int .i64 Q)/\v.cell? ⟨w.heap.size+1,4,none⟩=some (.int .i64 E)/\v.cell? ⟨w.heap.size+1,5,none⟩=some (.int .i64 nn)/\v.cell? ⟨w.heap.size+1,6,none⟩=some (.int .u32 bt)) fun hHeld=>?_;refine Tb 0 1 ?_;clear hHeld;refine Ax 2 fun K hK=>?_;go_simp;(go_at_call 50;(with_reducible refine(HFIT.out _ (bel HT0.out.bel (Ae _))).mono ?_);rintro e wz ⟨rfl,hbz⟩;have HBZ:Hid (Below ((w.alloc (.cells #[v0,v1,v2,v3] 27)).alloc (.cells #[.int .i64 op,.int .i64 D,.int .i64 A,.int .i64 Q,.int .i64 E,.int .i64 nn,.int .u32 bt] 40)).heap.size ((w.alloc (.cells #[v0,v1,v2,v3] 27)).alloc (.cells #[.int .i64 op,.int .i64 D,.int .i64 A,.int .i64 Q,.int .i64 E,.int .i64 nn,.int .u32 bt] 40)) wz):=bel (Ae _) hbz;clear hbz;obtain⟨-,c0,c1,c2,c3,i0,i1,i2,i3,i4,i5,i6⟩:=HT0.out.next HBZ.out);try(go_wp2_with fail)
   refine Aw hK fun hHeld=>?_;clear hK K;refine Tc 3 4 5 ?_;refine Bw 6 ?_;refine CD 7 ?_;refine CD 8 ?_;refine CD 9 ?_;refine Tb 10 11 ?_;refine Kd 12 13 14 15 ?_;refine Kd 16 17 18 19 ?_;refine CD 20 ?_;refine CD 21 ?_;refine CD 22 ?_;refine Tb 23 24 ?_;refine wpAnyH_done kR ?_ _;clear j0;exact QS
  ·rw[Bool.false_and,Bool.not_false,Bool.true_and]at hRES;have HR2:Hid (((R.all fun n=>decide (n.toNat∈S))&&(if op=34\/op=36 then decide (n<64)else if op=35 then decide (0<n)&& !false else if op=37 then false else true))=RES):=hRES;clear hRES;have hw:IntKind.i64.wrap ((n:Int)-1)=(m:Int):=by rw[IntKind.wrap_i64];omega
   have x0:=kc hb00 z0;have j0:(0:Int)<(n:Int):=oM;have j1:(0:Int)<=(m:Int):=oM;have j2:(m:Int)<(n:Int):=oM;go_enter func34,ntmps34;go_wp2;refine rG (fun v=>v.cell? ⟨w.heap.size,0,none⟩=some v0/\v.cell? ⟨w.heap.size,1,none⟩=some v1/\v.cell? ⟨w.heap.size,2,none⟩=some v2/\v.cell? ⟨w.heap.size,3,none⟩=some v3/\v.cell? ⟨w.heap.size+1,0,none⟩=some (.int .i64 op)/\v.cell? ⟨w.heap.size+1,1,none⟩=some (.int .i64 D)/\v.cell? ⟨w.heap.size+1,2,none⟩=some (.int .i64 A)/\v.cell? ⟨w.heap.size+1,3,none⟩=some (.int .i64 Q)/\v.cell? ⟨w.heap.size+1,4,none⟩=some (.int .i64 E)/\v.cell? ⟨w.heap.size+1,5,none⟩=some (.int .i64 nn)/\v.cell? ⟨w.heap.size+1,6,none⟩=some (.int .u32 bt)) fun hHeld=>?_;refine Tb 0 1 ?_;clear hHeld;refine Ax 2 fun K hK=>?_;go_simp;(go_at_call 50;(with_reducible refine(HFIT.out _ (bel HT0.out.bel (Ae _))).mono ?_);rintro e wz ⟨rfl,hbz⟩;have HBZ:Hid (Below ((w.alloc (.cells #[v0,v1,v2,v3] 27)).alloc (.cells #[.int .i64 op,.int .i64 D,.int .i64 A,.int .i64 Q,.int .i64 E,.int .i64 nn,.int .u32 bt] 40)).heap.size ((w.alloc (.cells #[v0,v1,v2,v3] 27)).alloc (.cells #[.int .i64 op,.int .i64 D,.int .i64 A,.int .i64 Q,.int .i64 E,.int .i64 nn,.int .u32 bt] 40)) wz):=bel (Ae _) hbz;clear hbz;obtain⟨-,c0,c1,c2,c3,i0,i1,i2,i3,i4,i5,i6⟩:=HT0.out.next HBZ.out);try(go_wp2_with fail)
   refine Aw hK fun hHeld=>?_;clear hK K;refine Tc 3 4 5 ?_;refine Bw 6 ?_;refine CD 7 ?_;refine CD 8 ?_;refine CD 9 ?_;refine Tb 10 11 ?_;refine Kd 12 13 14 15 ?_;refine Kd 16 17 18 19 ?_;refine CD 20 ?_;refine CD 21 ?_;refine CD 22 ?_;refine Tb 23 24 ?_;refine wpAnyH_done kR ?_ _;clear j0 j1 j2 hw;exact QS
  ·rw[Bool.true_and]at hRES;have hw:IntKind.i64.wrap ((n:Int)-1)=(m:Int):=by rw[IntKind.wrap_i64];omega
   have x0:=kc hb00 z0;have j0:(0:Int)<(n:Int):=oM;have j1:(0:Int)<=(m:Int):=oM;have j2:(m:Int)<(n:Int):=oM;have y1:=kc hb00 z1;by_cases h7:op=37
   ·subst h7;rw[show((37:Int) != 37)=false from rfl,Bool.false_and,Bool.not_false,Bool.true_and]at hRES;have HR2:Hid (((R.all fun n=>decide (n.toNat∈S))&&(if(37:Int)=34\/(37:Int)=36 then decide (n<64)else if(37:Int)=35 then decide (0<n)&& !true else if(37:Int)=37 then true else true))=RES):=hRES;clear hRES;go_enter func34,ntmps34;go_wp2;refine rG (fun v=>v.cell? ⟨w.heap.size,0,none⟩=some v0/\v.cell? ⟨w.heap.size,1,none⟩=some v1/\v.cell? ⟨w.heap.size,2,none⟩=some v2/\v.cell? ⟨w.heap.size,3,none⟩=some v3/\v.cell? ⟨w.heap.size+1,0,none⟩=some (.int .i64 37)/\v.cell? ⟨w.heap.size+1,1,none⟩=some (.int .i64 D)/\v.cell? ⟨w.heap.size+1,2,none⟩=some (.int .i64 A)/\v.cell? ⟨w.heap.size+1,3,none⟩=some (.int .i64 Q)/\v.cell? ⟨w.heap.size+1,4,none⟩=some (.int .i64 E)/\v.cell? ⟨w.heap.size+1,5,none⟩=some (.int .i64 nn)/\v.cell? ⟨w.heap.size+1,6,none⟩=some (.int .u32 bt)) fun hHeld=>?_;refine Tb 0 1 ?_;clear hHeld;refine Ax 2 fun K hK=>?_;go_simp;(go_at_call 50;(with_reducible refine(HFIT.out _ (bel HT0.out.bel (Ae _))).mono ?_);rintro e wz ⟨rfl,hbz⟩;have HBZ:Hid (Below ((w.alloc (.cells #[v0,v1,v2,v3] 27)).alloc (.cells #[.int .i64 37,.int .i64 D,.int .i64 A,.int .i64 Q,.int .i64 E,.int .i64 nn,.int .u32 bt] 40)).heap.size ((w.alloc (.cells #[v0,v1,v2,v3] 27)).alloc (.cells #[.int .i64 37,.int .i64 D,.int .i64 A,.int .i64 Q,.int .i64 E,.int .i64 nn,.int .u32 bt] 40)) wz):=bel (Ae _) hbz;clear hbz;obtain⟨-,c0,c1,c2,c3,i0,i1,i2,i3,i4,i5,i6⟩:=HT0.out.next HBZ.out);try(go_wp2_with fail)
    refine Aw hK fun hHeld=>?_;clear hK K;refine Tf 3 4 5 6 7 8 ?_;refine Tc 9 10 11 ?_;refine Kd 12 13 14 15 ?_;refine Kd 16 17 18 19 ?_;refine CD 20 ?_;refine CD 21 ?_;refine CD 22 ?_;refine Tb 23 24 ?_;refine wpAnyH_done kR ?_ _;clear j0 j1 j2 hw y1;have HTZ:Hid (TW w v0 v1 v2 v3 (w.heap.size+1) 37 D A Q E nn bt wz):=HT0.out.next HBZ.out;go_wp2_with(go_at_call 20;(with_reducible refine(HRD.out _).mono ?_);rintro e w5 ⟨u,rfl,hou,hb5⟩;obtain⟨pu,qu,rfl⟩:=Ao hou;have HOU:Hid (w5.ownsRow wz.heap.size 3 1 (.slice pu R.length qu) R.length (B2 R)):=hou;have HB5:Hid (Below wz.heap.size wz w5):=hb5;clear hou hb5)
    go_loopw [11] (fun kv wr=>∃k:Nat,k<=R.length/\kv=.int .i64 (k:Int)/\wr=w5/\∀x∈R.take k,x.toNat∈S) (fun kv _=>R.length-(intOf kv).toNat)
    case atStart=>exact⟨0,Nat.zero_le _,rfl,rfl,fun x hx=>by simp at hx⟩
    case round=>
     obtain⟨k,hk,rfl,rfl,hin⟩:=hrel;clear c0 c1 c2 c3 i0 i1 i2 i3 i4 i5 i6;obtain⟨hbq,c0,c1,c2,c3,i0,i1,i2,i3,i4,i5,i6⟩:=HTZ.out.next HB5.out;by_cases hlt:k<R.length
     ·have hx:=HRP1.out R[k] (List.getElem_mem hlt);obtain⟨d,hd⟩:∃d:Nat,R[k]=(d:Int):=⟨R[k].toNat,oM⟩
      obtain⟨gs,rfl,hcs⟩:=HSET.out d oM;have hcs':=kc hbq hcs;obtain⟨gu,cu,eu,-⟩:=HOU.out.form oM;simp only[Value.slice.injEq]at eu;obtain⟨rfl,-,rfl⟩:=eu;have hcu:wr.cell? ⟨gu,k,none⟩=some (.int .i64 (d:Int)):=by rw[HOU.out.cellAt k oM];simp[B2,hlt,hd]
      have HMEM:Hid (R[k]=(d:Int)):=hd;have HIN:Hid (∀x∈R.take k,x.toNat∈S):=hin;have t0:(0:Int)<=(k:Int):=oM;have t1:(k:Int)<(R.length:Int):=oM;have t2:(0:Int)<=(d:Int):=oM;have t3:(d:Int)<(M:Int):=oM;have wk:IntKind.i64.wrap ((k:Int)+1)=((k+1:Nat):Int):=by rw[IntKind.wrap_i64];omega
      clear hx hd hin hcs hk;cases hX:decide (d∈S)
      ·rw[hX]at hcs';have hall:(R.all fun n=>decide (n.toNat∈S))=false:=by
        rw[List.all_eq_false];exact⟨R[k],List.getElem_mem hlt,by rw[HMEM.out,Int.toNat_natCast,hX];decide⟩
       have HQF:Hid (false=RES):=by show _=_;have:=HR2.out;rw[hall,Bool.false_and]at this;exact this
       clear hX hall;go_wp2;go_ret;exact⟨A8 HQF.out,hbq⟩
      ·rw[hX]at hcs';have HX:Hid (d∈S):=by show d∈S;exact of_decide_eq_true hX
       clear hX;go_wp2;go_roundw
       case rel=>
        refine⟨k+1,oM,gN,fT,fun x hx=>?_⟩;rw[List.take_succ_eq_append_getElem hlt,List.mem_append]at hx;rcases hx with hx|hx
        ·exact HIN.out x hx
        ·simp only[List.mem_singleton]at hx;rw[hx,HMEM.out,Int.toNat_natCast];exact HX.out
       case measure=>simp[intOf];omega
     ·have hkk:k=R.length:=oM;have hall:(R.all fun n=>decide (n.toNat∈S))=true:=by
       rw[List.all_eq_true];intro x hx;rw[hkk,List.take_length]at hin;simpa using hin x hx
      have h9:=HR2.out;rw[hall,Bool.true_and]at h9;have HTS:Hid _:=h9;clear h9;have t1:¬ (k:Int)<(R.length:Int):=oM;clear hall hin hk hlt;have HQ:Hid (true=RES):=by show _=_;have:=HTS.out;simpa using this
      go_wp2;go_ret;exact⟨A8 HQ.out,hbq⟩
   ·have h7':(op != 37)=true:=by simpa using h7
    have h7b:(op==37)=false:=by simpa using h7
    rw[h7',Bool.true_and]at hRES;cases hVV:(V != par)
    ·rw[hVV,Bool.not_false,Bool.true_and]at hRES;have HR2:Hid (((R.all fun n=>decide (n.toNat∈S))&&(if op=34\/op=36 then decide (n<64)else if op=35 then decide (0<n)&& !true else if op=37 then true else true))=RES):=hRES;clear hRES;have hVb:(V==par)=true:=by simpa using hVV
     go_enter func34,ntmps34;go_wp2;refine rG (fun v=>v.cell? ⟨g,m*3+1,none⟩=some (.int .i64 par)/\v.cell? ⟨w.heap.size,0,none⟩=some v0/\v.cell? ⟨w.heap.size,1,none⟩=some v1/\v.cell? ⟨w.heap.size,2,none⟩=some v2/\v.cell? ⟨w.heap.size,3,none⟩=some v3/\v.cell? ⟨w.heap.size+1,0,none⟩=some (.int .i64 op)/\v.cell? ⟨w.heap.size+1,1,none⟩=some (.int .i64 D)/\v.cell? ⟨w.heap.size+1,2,none⟩=some (.int .i64 A)/\v.cell? ⟨w.heap.size+1,3,none⟩=some (.int .i64 Q)/\v.cell? ⟨w.heap.size+1,4,none⟩=some (.int .i64 E)/\v.cell? ⟨w.heap.size+1,5,none⟩=some (.int .i64 nn)/\v.cell? ⟨w.heap.size+1,6,none⟩=some (.int .u32 bt)) fun hHeld=>?_;refine Tb 0 1 ?_;clear hHeld;refine Ax 2 fun K hK=>?_;go_simp;(go_at_call 50;(with_reducible refine(HFIT.out _ (bel HT0.out.bel (Ae _))).mono ?_);rintro e w1 ⟨rfl,hb1⟩;have HB1:Hid (Below ((w.alloc (.cells #[v0,v1,v2,v3] 27)).alloc (.cells #[.int .i64 op,.int .i64 D,.int .i64 A,.int .i64 Q,.int .i64 E,.int .i64 nn,.int .u32 bt] 40)).heap.size ((w.alloc (.cells #[v0,v1,v2,v3] 27)).alloc (.cells #[.int .i64 op,.int .i64 D,.int .i64 A,.int .i64 Q,.int .i64 E,.int .i64 nn,.int .u32 bt] 40)) w1):=bel (Ae _) hb1;clear hb1;obtain⟨-,c0,c1,c2,c3,i0,i1,i2,i3,i4,i5,i6⟩:=HT0.out.next HB1.out;have y1:=kc (bel HT0.out.bel HB1.out) z1);try(go_wp2_with fail)
     refine Aw hK fun hHeld=>?_;clear hK K;refine Tf 3 4 5 6 7 8 ?_;refine Tf 9 10 11 12 13 15 ?_;refine Tf 16 17 18 19 20 21 ?_;clear hHeld;refine Ax 14 fun K hK=>?_;go_simp;(go_at_call 51;(with_reducible refine(HVEC.out _ (bel HT0.out.bel HB1.out)).mono ?_);rintro e wz ⟨rfl,hbz⟩;have HBZ:Hid (Below ((w.alloc (.cells #[v0,v1,v2,v3] 27)).alloc (.cells #[.int .i64 op,.int .i64 D,.int .i64 A,.int .i64 Q,.int .i64 E,.int .i64 nn,.int .u32 bt] 40)).heap.size ((w.alloc (.cells #[v0,v1,v2,v3] 27)).alloc (.cells #[.int .i64 op,.int .i64 D,.int .i64 A,.int .i64 Q,.int .i64 E,.int .i64 nn,.int .u32 bt] 40)) wz):=bel HB1.out hbz;clear hbz c0 c1 c2 c3 i0 i1 i2 i3 i4 i5 i6 y1;obtain⟨-,c0,c1,c2,c3,i0,i1,i2,i3,i4,i5,i6⟩:=HT0.out.next HBZ.out;have y1:=kc (bel HT0.out.bel HBZ.out) z1);try(go_wp2_with fail)
     refine Aw hK fun hHeld=>?_;clear hK K;refine Tc 22 23 24 ?_;refine wpAnyH_done kR ?_ _;clear j0 j1 j2 hw y1 h7' h7b;exact QS
    ·rw[hVV,Bool.not_true,Bool.false_and]at hRES;have HQF:Hid (false=RES):=hRES;clear hRES;have hVb:(V==par)=false:=by simpa using hVV
     go_enter func34,ntmps34;go_wp2;refine rG (fun v=>v.cell? ⟨g,m*3+1,none⟩=some (.int .i64 par)/\v.cell? ⟨w.heap.size,0,none⟩=some v0/\v.cell? ⟨w.heap.size,1,none⟩=some v1/\v.cell? ⟨w.heap.size,2,none⟩=some v2/\v.cell? ⟨w.heap.size,3,none⟩=some v3/\v.cell? ⟨w.heap.size+1,0,none⟩=some (.int .i64 op)/\v.cell? ⟨w.heap.size+1,1,none⟩=some (.int .i64 D)/\v.cell? ⟨w.heap.size+1,2,none⟩=some (.int .i64 A)/\v.cell? ⟨w.heap.size+1,3,none⟩=some (.int .i64 Q)/\v.cell? ⟨w.heap.size+1,4,none⟩=some (.int .i64 E)/\v.cell? ⟨w.heap.size+1,5,none⟩=some (.int .i64 nn)/\v.cell? ⟨w.heap.size+1,6,none⟩=some (.int .u32 bt)) fun hHeld=>?_;refine Tb 0 1 ?_;clear hHeld;refine Ax 2 fun K hK=>?_;go_simp;(go_at_call 50;(with_reducible refine(HFIT.out _ (bel HT0.out.bel (Ae _))).mono ?_);rintro e w1 ⟨rfl,hb1⟩;have HB1:Hid (Below ((w.alloc (.cells #[v0,v1,v2,v3] 27)).alloc (.cells #[.int .i64 op,.int .i64 D,.int .i64 A,.int .i64 Q,.int .i64 E,.int .i64 nn,.int .u32 bt] 40)).heap.size ((w.alloc (.cells #[v0,v1,v2,v3] 27)).alloc (.cells #[.int .i64 op,.int .i64 D,.int .i64 A,.int .i64 Q,.int .i64 E,.int .i64 nn,.int .u32 bt] 40)) w1):=bel (Ae _) hb1;clear hb1;obtain⟨-,c0,c1,c2,c3,i0,i1,i2,i3,i4,i5,i6⟩:=HT0.out.next HB1.out;have y1:=kc (bel HT0.out.bel HB1.out) z1);try(go_wp2_with fail)
     refine Aw hK fun hHeld=>?_;clear hK K;refine Tf 3 4 5 6 7 8 ?_;refine Tf 9 10 11 12 13 15 ?_;refine Tf 16 17 18 19 20 21 ?_;clear hHeld;refine Ax 14 fun K hK=>?_;go_simp;(go_at_call 51;(with_reducible refine(HVEC.out _ (bel HT0.out.bel HB1.out)).mono ?_);rintro e wz ⟨rfl,hbz⟩;have HBZ:Hid (Below ((w.alloc (.cells #[v0,v1,v2,v3] 27)).alloc (.cells #[.int .i64 op,.int .i64 D,.int .i64 A,.int .i64 Q,.int .i64 E,.int .i64 nn,.int .u32 bt] 40)).heap.size ((w.alloc (.cells #[v0,v1,v2,v3] 27)).alloc (.cells #[.int .i64 op,.int .i64 D,.int .i64 A,.int .i64 Q,.int .i64 E,.int .i64 nn,.int .u32 bt] 40)) wz):=bel HB1.out hbz;clear hbz c0 c1 c2 c3 i0 i1 i2 i3 i4 i5 i6 y1;obtain⟨-,c0,c1,c2,c3,i0,i1,i2,i3,i4,i5,i6⟩:=HT0.out.next HBZ.out;have y1:=kc (bel HT0.out.bel HBZ.out) z1);try(go_wp2_with fail)
     refine Aw hK fun hHeld=>?_;clear hK K;refine Tc 22 23 24 ?_;refine wpAnyH_done kR ?_ _;go_wp2;go_ret;exact⟨A8 HQF.out,bel hb00 HBZ.out⟩
structure CX(w:World)(v0 v1 v2 v3:Value)(v:World):Prop where
 bel:Below w.heap.size w v
 lt:w.heap.size<v.heap.size
 c0:v.cell? ⟨w.heap.size,0,none⟩=some v0
 c1:v.cell? ⟨w.heap.size,1,none⟩=some v1
 c2:v.cell? ⟨w.heap.size,2,none⟩=some v2
 c3:v.cell? ⟨w.heap.size,3,none⟩=some v3
theorem CX.next{w:World}{v0 v1 v2 v3:Value}{v v':World}(h:CX w v0 v1 v2 v3 v)(k:Below v.heap.size v v'):CX w v0 v1 v2 v3 v':=
 ⟨Go.Proofs.Ytnbccaicijcklaa.bel h.bel k,Nat.lt_of_lt_of_le h.lt k.size,kc k h.c0,kc k h.c1,kc k h.c2,kc k h.c3⟩
theorem CX.on{w:World}{v0 v1 v2 v3:Value}{v v':World}(h:CX w v0 v1 v2 v3 v)(k:Below (w.heap.size+1) v v'):CX w v0 v1 v2 v3 v':=
 have f:∀j,v'.cell? ⟨w.heap.size,j,none⟩=v.cell? ⟨w.heap.size,j,none⟩:=fun j=>k.cell (Nat.lt_succ_self _)
 ⟨h.bel.trans (k.mono (Nat.le_succ _)),Nat.lt_of_lt_of_le h.lt k.size,(f 0).trans h.c0,(f 1).trans h.c1,(f 2).trans h.c2,(f 3).trans h.c3⟩
theorem CX.start(w:World)(v0 v1 v2 v3:Value):CX w v0 v1 v2 v3 (w.alloc (.cells #[v0,v1,v2,v3] 27)):=
 ⟨A0 _ _,sM,sG,sG,sG,sG⟩
theorem Hr{α:Type}(p:α->Bool){l:List α}{k:Nat}(h:k<l.length)(ht:(l.take k).all p=true)(hp:p l[k]=true):(l.take (k+1)).all p=true:=by
 rw[List.take_succ_eq_append_getElem h,List.all_append,ht];simp[hp]
theorem JA{α:Type}(p:α->Bool){l:List α}{k:Nat}(h:k<l.length)(hp:p l[k]=false):l.all p=false:=by
 rw[List.all_eq_false];exact⟨l[k],List.getElem_mem h,by simp[hp]⟩
theorem Dh(v0 v1 v2 v3:Value)(c:Cd)(hk:Ba c)(w:World)(hv:BP w v0 v1 v2 v3 c)(E:Int)(hE:(AU c.sign≠0/\E=AU c.sign)\/(AU c.sign=0/\(16384<c.regs.length\/32768<c.list.length)/\E=181)\/(AU c.sign=0/\¬16384<c.regs.length/\¬32768<c.list.length/\4096<c.slots.length/\E=180)):
 Calls prog 17 #[.agg #[v0,v1,v2,v3]] w fun e w'=>e=.returned (.tuple #[.int .i64 E,.int .i64 (-1)])/\Below w.heap.size w w':=by
 have hSG:∀v,Below w.heap.size w v->Calls prog 31 #[v0] v fun e w'=>e=.returned (.int .i64 (AU c.sign))/\Below v.heap.size v w':=fun v hb=>G4 v0 c.sign hk.signL hk.names v (hv.below hb).sign.rd;have l1:=hk.regsL;have l2:=hk.slotsL;have l3:=hk.listL;obtain⟨p0,q0,rfl,-⟩:=id hv.sign;obtain⟨p1,q1,rfl,-⟩:=id hv.regs;obtain⟨p2,q2,rfl,-⟩:=id hv.slots;obtain⟨p3,q3,rfl,-⟩:=id hv.list;obtain⟨n0,hn0⟩:∃n,c.sign.length=n:=⟨_,rfl⟩
 obtain⟨n1,hn1⟩:∃n,c.regs.length=n:=⟨_,rfl⟩
 obtain⟨n2,hn2⟩:∃n,c.slots.length=n:=⟨_,rfl⟩
 obtain⟨n3,hn3⟩:∃n,c.list.length=n:=⟨_,rfl⟩
 obtain⟨K,hK⟩:∃n,AU c.sign=n:=⟨_,rfl⟩
 rw[hn0,hK]at hSG;rw[hK,hn1,hn2,hn3]at hE;rw[hn1]at l1;rw[hn2]at l2;rw[hn3]at l3;rw[hn0,hn1,hn2,hn3];have HSG:Hid _:=hSG;clear hSG hn0 hn1 hn2 hn3 hK hv hk;rcases hE with⟨h1,rfl⟩|⟨rfl,h2,rfl⟩|⟨rfl,h2,h3,h4,rfl⟩
 ·have h1':(E==0)=false:=by simpa using h1
  have h1'':(E != 0)=true:=by simpa using h1
  exact Qt
 ·by_cases h5:16384<n1
  ·have h6:(16384:Int)<(n1:Int):=oM;exact Qt
  ·have h6:(n1:Int)<=16384:=oM;have h7:(32768:Int)<(n3:Int):=oM;clear h5;exact Qt
 ·have h6:(n1:Int)<=16384:=oM;have h7:(n3:Int)<=32768:=oM;have h8:(4096:Int)<(n2:Int):=oM;exact Qt
theorem Pg:prog.underlying 84=some (.slice (prog.elem 84)):=kR
theorem Pz:prog.elem 84=88:=kR
theorem NK(w:World):(sizeOf (prog.elem 84)).run prog w=.ok 3 w:=by rw[Pz];exact Try.sizeOf88 w
theorem EH{a b x y:Int}(h:(a,b)=(x,y)):(Ending.returned (.tuple #[.int .i64 a,.int .i64 b]))=.returned (.tuple #[.int .i64 x,.int .i64 y]):=by cases h;rfl
theorem Im(v0 v1 v2 v3:Value)(c:Cd)(hk:Ba c)(w:World)(hv:BP w v0 v1 v2 v3 c)(hS:AU c.sign=0)(h1:c.regs.length<=16384)(h3:c.list.length<=32768)(h2:c.slots.length<=4096)(RA RB:Int)(hRES:(if(Ap c&&Bn c)=true then Gg c ⟨[],[]⟩ 0 c.list else(160,-1))=(RA,RB)):
 Calls prog 17 #[.agg #[v0,v1,v2,v3]] w fun e w'=>e=.returned (.tuple #[.int .i64 RA,.int .i64 RB])/\Below w.heap.size w w':=by
 have hSG:∀v,Below w.heap.size w v->Calls prog 31 #[v0] v fun e w'=>e=.returned (.int .i64 0)/\Below v.heap.size v w':=fun v hb=>by rw[←hS];exact G4 v0 c.sign hk.signL hk.names v (hv.below hb).sign.rd
 have l0:=hk.signL;obtain⟨p0,q0,rfl,-⟩:=id hv.sign;obtain⟨p1,q1,rfl,-⟩:=id hv.regs;obtain⟨p2,q2,rfl,-⟩:=id hv.slots;obtain⟨p3,q3,rfl,-⟩:=id hv.list;have HREGS:Hid (AR 2 Du w (.slice p1 c.regs.length q1) c.regs):=hv.regs;have HSLOTS:Hid (AR 5 E8 w (.slice p2 c.slots.length q2) c.slots):=hv.slots;have HLIST:Hid (AR 7 Bf w (.slice p3 c.list.length q3) c.list):=hv.list;have HMT:Hid (∀ (t:Ty) v,Calls prog 32 #[.agg #[.int .i64 t.kind,.int .i64 t.par],.slice p0 c.sign.length q0] v fun e w'=>e=.returned (.bool (AE t c.sign.length))/\Below v.heap.size v w'):=fun t v=>EI t p0 _ q0 hk.signL v;have HMS:Hid (∀ (s:Sl),s∈c.slots->∀v,Calls prog 33 #[.agg #[.int .i64 s.ty.kind,.int .i64 s.ty.par,.bool s.keep,.int .u32 s.bits,.int .i64 s.int_],.slice p0 c.sign.length q0] v fun e w'=>e=.returned (.bool (Bi s c.sign.length))/\Below v.heap.size v w'):=fun s hs v=>Hg s (hk.sbits s hs).1 (hk.sbits s hs).2 p0 _ q0 hk.signL v;have HCV:Hid (BP w (.slice p0 c.sign.length q0) (.slice p1 c.regs.length q1) (.slice p2 c.slots.length q2) (.slice p3 c.list.length q3) c):=hv;have HCO:Hid (Ba c):=hk;have HRES:Hid ((if(Ap c&&Bn c)=true then Gg c ⟨[],[]⟩ 0 c.list else(160,-1))=(RA,RB)):=hRES;obtain⟨n0,hn0⟩:∃n,c.sign.length=n:=⟨_,rfl⟩
 obtain⟨n1,hn1⟩:∃n,c.regs.length=n:=⟨_,rfl⟩
 obtain⟨n2,hn2⟩:∃n,c.slots.length=n:=⟨_,rfl⟩
 obtain⟨n3,hn3⟩:∃n,c.list.length=n:=⟨_,rfl⟩
 have HN0:Hid (c.sign.length=n0):=hn0;have HN1:Hid (c.regs.length=n1):=hn1;have HN2:Hid (c.slots.length=n2):=hn2;have HN3:Hid (c.list.length=n3):=hn3;rw[hn0]at hSG l0 HMT HMS;rw[hn1]at h1 HREGS;rw[hn2]at h2 HSLOTS;rw[hn3]at h3 HLIST;rw[hn0,hn1,hn2,hn3]at HCV ⊢;have HSG:Hid _:=hSG;have g1:(n1:Int)<=16384:=oM;have g2:(n2:Int)<=4096:=oM;have g3:(n3:Int)<=32768:=oM;clear hSG hn0 hn1 hn2 hn3 hv hk hS hRES;go_enter func17,ntmps17;go_wp2_with(go_at_call 31;(with_reducible refine(HSG.out _ (A0 _ _)).mono ?_);rintro e w1 ⟨rfl,hb1⟩;have HX1:Hid (CX w (.slice p0 n0 q0) (.slice p1 n1 q1) (.slice p2 n2 q2) (.slice p3 n3 q3) w1):=(CX.start w _ _ _ _).next hb1;obtain⟨b1,b2,c0,c1,c2,c3⟩:=HX1.out;clear hb1);clear c0 c1 c2 c3 b1 b2
 go_loopw [5] (fun iv wr=>CX w (.slice p0 n0 q0) (.slice p1 n1 q1) (.slice p2 n2 q2) (.slice p3 n3 q3) wr/\∃j:Nat,j<=n1/\iv=.int .i64 (j:Int)/\Hid ((c.regs.take j).all (fun t=>AE t n0)=true)) (fun iv _=>n1-(intOf iv).toNat)
 case atStart=>exact⟨HX1.out,0,Nat.zero_le _,rfl,by show _=_;simp⟩
 case round=>
  obtain⟨hcx,j,hj,rfl,hall⟩:=hrel;have HCX:Hid (CX w (.slice p0 n0 q0) (.slice p1 n1 q1) (.slice p2 n2 q2) (.slice p3 n3 q3) wr):=hcx;obtain⟨b1,b2,c0,c1,c2,c3⟩:=hcx;clear HX1;by_cases hlt:j<n1
  ·have hll:j<c.regs.length:=by rw[HN1.out];exact hlt
   obtain⟨b,o,rfl,hx⟩:=HREGS.out.at hll;have KN:=HMT.out c.regs[j];have NX:Hid (AE c.regs[j] n0=true->(c.regs.take (j+1)).all (fun t=>AE t n0)=true):=fun h=>Hr _ hll hall.out h;have NB:Hid (AE c.regs[j] n0=false->(160,-1)=(RA,RB)):=fun h=>by
    have h5:Ap c=false:=by unfold Ap;rw[HN0.out];exact JA _ hll h
    have h6:=HRES.out;rw[h5,Bool.false_and,if_neg dE]at h6;exact h6
   obtain⟨⟨K,P⟩,hT⟩:∃T:Ty,c.regs[j]=T:=⟨_,rfl⟩
   rw[hT]at hx KN NX NB;have y0:wr.cell? ⟨b,o+j*2,none⟩=some (.int .i64 K):=kc b1 (hx.at 0 rfl);have y1:wr.cell? ⟨b,o+j*2+1,none⟩=some (.int .i64 P):=kc b1 (hx.at 1 rfl);obtain⟨X,hX⟩:∃X,AE ⟨K,P⟩ n0=X:=⟨_,rfl⟩
   rw[hX]at NX NB;simp only[hX]at KN;have HK:Hid (∀v,Calls prog 32 #[.agg #[.int .i64 K,.int .i64 P],.slice p0 n0 q0] v fun e w'=>e=.returned (.bool X)/\Below v.heap.size v w'):=KN;have i1:(0:Int)<=(j:Int):=oM;have i2:(j:Int)<(n1:Int):=oM;clear KN hT hX hx hall;cases X
   ·go_wp2;refine rG (fun v=>v.cell? ⟨w.heap.size,1,none⟩=some (.slice (some ⟨b,o,none⟩) n1 q1)/\v.cell? ⟨w.heap.size,0,none⟩=some (.slice p0 n0 q0)/\v.cell? ⟨b,o+j*2,none⟩=some (.int .i64 K)/\v.cell? ⟨b,o+j*2+1,none⟩=some (.int .i64 P)) fun hHeld=>?_;refine Tf 0 1 2 3 4 5 ?_;refine Bw 6 ?_;clear hHeld;refine Ax 7 fun K hK=>?_;go_simp;(go_at_call 32;(with_reducible refine(HK.out _).mono ?_);rintro e w2 ⟨rfl,hb2⟩;have HB2:Hid (Below wr.heap.size wr w2):=bel (Ae _) hb2;clear hb2;obtain⟨-,-,c0,c1,c2,c3⟩:=HCX.out.next HB2.out;have x0:=kc HB2.out y0;have x1:=kc HB2.out y1);exact Su
   ·go_wp2;refine rG (fun v=>v.cell? ⟨w.heap.size,1,none⟩=some (.slice (some ⟨b,o,none⟩) n1 q1)/\v.cell? ⟨w.heap.size,0,none⟩=some (.slice p0 n0 q0)/\v.cell? ⟨b,o+j*2,none⟩=some (.int .i64 K)/\v.cell? ⟨b,o+j*2+1,none⟩=some (.int .i64 P)) fun hHeld=>?_;refine Tf 0 1 2 3 4 5 ?_;refine Bw 6 ?_;clear hHeld;refine Ax 7 fun K hK=>?_;go_simp;(go_at_call 32;(with_reducible refine(HK.out _).mono ?_);rintro e w2 ⟨rfl,hb2⟩;have HB2:Hid (Below wr.heap.size wr w2):=bel (Ae _) hb2;clear hb2;obtain⟨-,-,c0,c1,c2,c3⟩:=HCX.out.next HB2.out;have x0:=kc HB2.out y0;have x1:=kc HB2.out y1);exact Sm
  have hjn:j=n1:=oM;have HT:Hid (Ap c=true):=by
   show _=_;have h5:=hall.out;rw[hjn,←HN1.out,List.take_length]at h5;unfold Ap;rw[HN0.out];exact h5
  have e1:¬ (j:Int)<(n1:Int):=oM;clear hall hlt;go_wp2;clear e1 c0 c1 c2 c3 b1 b2
  go_loopw [6] (fun iv wr=>CX w (.slice p0 n0 q0) (.slice p1 n1 q1) (.slice p2 n2 q2) (.slice p3 n3 q3) wr/\∃j:Nat,j<=n2/\iv=.int .i64 (j:Int)/\Hid ((c.slots.take j).all (fun s=>Bi s n0)=true)) (fun iv _=>n2-(intOf iv).toNat)
  case atStart=>exact⟨HCX.out,0,Nat.zero_le _,rfl,by show _=_;simp⟩
  case round=>
   obtain⟨hcx,j,hj,rfl,hall⟩:=hrel;have HCX:Hid (CX w (.slice p0 n0 q0) (.slice p1 n1 q1) (.slice p2 n2 q2) (.slice p3 n3 q3) wr):=hcx;obtain⟨b1,b2,c0,c1,c2,c3⟩:=hcx;by_cases hlt:j<n2
   ·have hll:j<c.slots.length:=by rw[HN2.out];exact hlt
    obtain⟨b,o,rfl,hx⟩:=HSLOTS.out.at hll;have KN:=HMS.out c.slots[j] (List.getElem_mem hll);have NX:Hid (Bi c.slots[j] n0=true->(c.slots.take (j+1)).all (fun s=>Bi s n0)=true):=fun h=>Hr _ hll hall.out h;have NB:Hid (Bi c.slots[j] n0=false->(160,-1)=(RA,RB)):=fun h=>by
     have h5:Bn c=false:=by unfold Bn;rw[HN0.out];exact JA _ hll h
     have h6:=HRES.out;rw[h5,Bool.and_false,if_neg dE]at h6;exact h6
    obtain⟨⟨⟨K,P⟩,kp,sb,si⟩,hT⟩:∃T:Sl,c.slots[j]=T:=⟨_,rfl⟩
    rw[hT]at hx KN NX NB;have y0:wr.cell? ⟨b,o+j*5,none⟩=some (.int .i64 K):=kc b1 (hx.at 0 rfl);have y1:wr.cell? ⟨b,o+j*5+1,none⟩=some (.int .i64 P):=kc b1 (hx.at 1 rfl);have y2:wr.cell? ⟨b,o+j*5+2,none⟩=some (.bool kp):=kc b1 (hx.at 2 rfl);have y3:wr.cell? ⟨b,o+j*5+3,none⟩=some (.int .u32 sb):=kc b1 (hx.at 3 rfl);have y4:wr.cell? ⟨b,o+j*5+4,none⟩=some (.int .i64 si):=kc b1 (hx.at 4 rfl);obtain⟨X,hX⟩:∃X,Bi ⟨⟨K,P⟩,kp,sb,si⟩ n0=X:=⟨_,rfl⟩
    rw[hX]at NX NB;simp only[hX]at KN;have HK:Hid (∀v,Calls prog 33 #[.agg #[.int .i64 K,.int .i64 P,.bool kp,.int .u32 sb,.int .i64 si],.slice p0 n0 q0] v fun e w'=>e=.returned (.bool X)/\Below v.heap.size v w'):=KN;have i1:(0:Int)<=(j:Int):=oM;have i2:(j:Int)<(n2:Int):=oM;clear KN hT hX hx hall;cases X
    ·go_wp2;refine rG (fun v=>v.cell? ⟨w.heap.size,2,none⟩=some (.slice (some ⟨b,o,none⟩) n2 q2)/\v.cell? ⟨w.heap.size,0,none⟩=some (.slice p0 n0 q0)/\v.cell? ⟨b,o+j*5,none⟩=some (.int .i64 K)/\v.cell? ⟨b,o+j*5+1,none⟩=some (.int .i64 P)/\v.cell? ⟨b,o+j*5+2,none⟩=some (.bool kp)/\v.cell? ⟨b,o+j*5+3,none⟩=some (.int .u32 sb)/\v.cell? ⟨b,o+j*5+4,none⟩=some (.int .i64 si)) fun hHeld=>?_;refine Tf 0 1 2 3 4 5 ?_;refine Bw 6 ?_;clear hHeld;refine Ax 7 fun K hK=>?_;go_simp;(go_at_call 33;(with_reducible refine(HK.out _).mono ?_);rintro e w2 ⟨rfl,hb2⟩;have HB2:Hid (Below wr.heap.size wr w2):=bel (Ae _) hb2;clear hb2;obtain⟨-,-,c0,c1,c2,c3⟩:=HCX.out.next HB2.out;have x0:=kc HB2.out y0;have x1:=kc HB2.out y1;have x2:=kc HB2.out y2;have x3:=kc HB2.out y3;have x4:=kc HB2.out y4);exact Su
    ·go_wp2;refine rG (fun v=>v.cell? ⟨w.heap.size,2,none⟩=some (.slice (some ⟨b,o,none⟩) n2 q2)/\v.cell? ⟨w.heap.size,0,none⟩=some (.slice p0 n0 q0)/\v.cell? ⟨b,o+j*5,none⟩=some (.int .i64 K)/\v.cell? ⟨b,o+j*5+1,none⟩=some (.int .i64 P)/\v.cell? ⟨b,o+j*5+2,none⟩=some (.bool kp)/\v.cell? ⟨b,o+j*5+3,none⟩=some (.int .u32 sb)/\v.cell? ⟨b,o+j*5+4,none⟩=some (.int .i64 si)) fun hHeld=>?_;refine Tf 0 1 2 3 4 5 ?_;refine Bw 6 ?_;clear hHeld;refine Ax 7 fun K hK=>?_;go_simp;(go_at_call 33;(with_reducible refine(HK.out _).mono ?_);rintro e w2 ⟨rfl,hb2⟩;have HB2:Hid (Below wr.heap.size wr w2):=bel (Ae _) hb2;clear hb2;obtain⟨-,-,c0,c1,c2,c3⟩:=HCX.out.next HB2.out;have x0:=kc HB2.out y0;have x1:=kc HB2.out y1;have x2:=kc HB2.out y2;have x3:=kc HB2.out y3;have x4:=kc HB2.out y4);exact Sm
   have hjn2:j=n2:=oM;have HGO0:Hid (Gg c ⟨[],[]⟩ 0 c.list=(RA,RB)):=by
    show _=_;have h5:=hall.out;rw[hjn2,←HN2.out,List.take_length]at h5;have h6:Bn c=true:=by unfold Bn;rw[HN0.out];exact h5
    have h7:=HRES.out;rw[HT.out,h6,if_pos rF]at h7;exact h7
   have e1:¬ (j:Int)<(n2:Int):=oM;clear hall hlt;go_wp2;clear e1 c0 c1 c2 c3 b1 b2
   go_loopw [7,8] (fun sv iv wr=>CX w (.slice p0 n0 q0) (.slice p1 n1 q1) (.slice p2 n2 q2) (.slice p3 n3 q3) wr/\∃ (k:Nat) (p:Option Addr) (q:Nat),k<=n1/\iv=.int .i64 (k:Int)/\sv=.slice p k q/\wr.ownsRow (w.heap.size+1) 4 1 (.slice p k q) k (BY k [])) (fun _ iv _=>n1-(intOf iv).toNat)
   case atStart=>exact⟨HCX.out,0,none,0,Nat.zero_le _,rfl,rfl,by rw[show BY 0 []=[] from rfl];exact World.ownsRow_nil _ _ _ 1⟩
   case round=>
    obtain⟨hcx,k,p,q,hkn,rfl,rfl,how⟩:=hrel;have HCX:Hid (CX w (.slice p0 n0 q0) (.slice p1 n1 q1) (.slice p2 n2 q2) (.slice p3 n3 q3) wr):=hcx;obtain⟨b1,b2,c0,c1,c2,c3⟩:=hcx;by_cases hkl:k<n1
    ·obtain⟨g,c',w8,hap,hb8,ho8⟩:=LX how oM oM;have HAP:Hid ((Builtin.append_ #[47,47] 47 #[.slice p k q,.slice (some ⟨wr.heap.size,0,none⟩) 1 1]).run prog (wr.alloc (.cells #[.bool false] 4))=.ok (.slice (some ⟨g,0,none⟩) (k+1) c') w8):=hap;have HY8:Hid (CX w (.slice p0 n0 q0) (.slice p1 n1 q1) (.slice p2 n2 q2) (.slice p3 n3 q3) w8/\w8.ownsRow (w.heap.size+1) 4 1 (.slice (some ⟨g,0,none⟩) (k+1) c') (k+1) (BY (k+1) [])):=by
      refine⟨HCX.out.on hb8,?_⟩;rw[It,List.replicate_succ',←It];exact ho8
     have i2:(k:Int)<(n1:Int):=oM;have wi:IntKind.i64.wrap ((k:Int)+1)=((k+1:Nat):Int):=by rw[IntKind.wrap_i64];omega
     clear hap hb8 ho8 how;go_wp2_with(at_builtin;refine Ay rF _ _ _ rF _ _ _ rF rF HAP.out ?_);go_roundw
     case rel=>exact⟨HY8.out.1,k+1,_,_,oM,gN,rfl,HY8.out.2⟩
     case measure=>simp[intOf];omega
    have hkn1:k=n1:=oM;subst hkn1;have HSK0:Hid (SK (w.heap.size+1) k wr (.slice p k q) (.slice none 0 0) ⟨[],[]⟩ []):=SK.start wr _ b2 how;have e1:¬ (k:Int)<(k:Int):=oM;clear how hkl;go_wp2;clear e1 c0 c1 c2 c3 b1 b2
    go_loopw [7,9,10] (fun sv ov iv wr=>CX w (.slice p0 n0 q0) (.slice p1 k q1) (.slice p2 n2 q2) (.slice p3 n3 q3) wr/\∃ (j:Nat) (s:Wk) (us:List Value),j<=n3/\iv=.int .i64 (j:Int)/\Hid (SK (w.heap.size+1) k wr sv ov s us)/\Hid (CM k s)/\Hid (Cr s)/\Hid (Gg c s j (c.list.drop j)=(RA,RB))) (fun _ _ iv _=>n3-(intOf iv).toNat)
    case atStart=>exact⟨HCX.out,0,⟨[],[]⟩,[],Nat.zero_le _,rfl,HSK0.out,CM.start k,Cr.start,by show _=_;rw[List.drop_zero];exact HGO0.out⟩
    case round=>
     obtain⟨hcx,j,s,us,hj,rfl,hsk,hok,hpo,hgo⟩:=hrel;obtain⟨po,qo,rfl⟩:=Ao hsk.out.opn;obtain⟨ps,qs,rfl⟩:=Ao hsk.out.set;have HCX:Hid (CX w (.slice p0 n0 q0) (.slice p1 k q1) (.slice p2 n2 q2) (.slice p3 n3 q3) wr):=hcx;obtain⟨b1,b2,f0,f1,f2,f3⟩:=hcx;have hnest:=hok.out.nest;clear HSK0;by_cases hlt:j<n3
     ·have hll:j<c.list.length:=by rw[HN3.out];exact hlt
      obtain⟨b,o,rfl,hx⟩:=HLIST.out.at hll;have hgo':=hgo.out;rw[List.drop_eq_getElem_cons hll]at hgo';have hgi:Gg c s j (c.list[j]::c.list.drop (j+1))=if AS c s c.list[j]then Gg c (As s c.list[j]) (j+1) (c.list.drop (j+1))else(160,(j:Int)):=rfl;rw[hgi]at hgo';have hib:=HCO.out.ibits c.list[j] (List.getElem_mem hll);have hos:AS c s c.list[j]=true->CM k (As s c.list[j])/\Cr (As s c.list[j]):=fun ht=>by
       have hq:CM c.regs.length s:=by rw[HN1.out];exact hok.out
       have h5:=CM.step hq ht;rw[HN1.out]at h5;exact⟨h5,hpo.out.step ht⟩
      have htk:AS c s c.list[j]=true->AW c c.list[j] (A4 c.list[j].op)=true/\AD c s c.list[j] (A4 c.list[j].op)=true:=fun ht=>by
       obtain⟨-,h5,h6,-⟩:=AG ht;exact⟨h5,h6⟩
      obtain⟨⟨op,D,A,Q,E,nn,bt⟩,hxx⟩:∃x:Aa,c.list[j]=x:=⟨_,rfl⟩
      rw[hxx]at hx hgo' hos htk hib;have KS:=Iq _ _ _ _ c HCO.out HT.out (⟨op,D,A,Q,E,nn,bt⟩:Aa) hib.1 hib.2 (w.heap.size+1) s (.slice ps k qs) (.slice po s.opens.length qo) us (by rw[HN1.out];exact h1) (by rw[HN1.out];exact hok.out) hpo.out (wr.alloc (.cells #[.int .i64 op,.int .i64 D,.int .i64 A,.int .i64 Q,.int .i64 E,.int .i64 nn,.int .u32 bt] 40)) ((HCV.out.below b1).below (A0 _ _)) (by rw[HN1.out];exact hsk.out.below (A0 _ _));have x0:=kc b1 (hx.at 0 rfl);have x1:=kc b1 (hx.at 1 rfl);have x2:=kc b1 (hx.at 2 rfl);have x3:=kc b1 (hx.at 3 rfl);have x4:=kc b1 (hx.at 4 rfl);have x5:=kc b1 (hx.at 5 rfl);have x6:=kc b1 (hx.at 6 rfl);rw[Nat.add_zero]at x0;obtain⟨-,-,f0',f1',f2',f3'⟩:=HCX.out.next (A0 wr (.cells #[.int .i64 op,.int .i64 D,.int .i64 A,.int .i64 Q,.int .i64 E,.int .i64 nn,.int .u32 bt] 40));have HIX:Hid (∀v,Below (wr.alloc (.cells #[.int .i64 op,.int .i64 D,.int .i64 A,.int .i64 Q,.int .i64 E,.int .i64 nn,.int .u32 bt] 40)).heap.size (wr.alloc (.cells #[.int .i64 op,.int .i64 D,.int .i64 A,.int .i64 Q,.int .i64 E,.int .i64 nn,.int .u32 bt] 40)) v->v.cell? ⟨wr.heap.size,0,none⟩=some (.int .i64 op)/\v.cell? ⟨wr.heap.size,1,none⟩=some (.int .i64 D)/\v.cell? ⟨wr.heap.size,2,none⟩=some (.int .i64 A)/\v.cell? ⟨wr.heap.size,3,none⟩=some (.int .i64 Q)/\v.cell? ⟨wr.heap.size,4,none⟩=some (.int .i64 E)/\v.cell? ⟨wr.heap.size,5,none⟩=some (.int .i64 nn)/\v.cell? ⟨wr.heap.size,6,none⟩=some (.int .u32 bt)):=fun v hb=>⟨kc hb sG,kc hb sG,kc hb sG,kc hb sG,kc hb sG,kc hb sG,kc hb sG⟩
      obtain⟨T,hT⟩:∃T,AS c s (⟨op,D,A,Q,E,nn,bt⟩:Aa)=T:=⟨_,rfl⟩
      rw[hT]at hgo' hos htk KS;have HST:Hid (Calls prog 34 #[.agg #[.slice p0 n0 q0,.slice p1 k q1,.slice p2 n2 q2,.slice (some ⟨b,o,none⟩) n3 q3],.agg #[.int .i64 op,.int .i64 D,.int .i64 A,.int .i64 Q,.int .i64 E,.int .i64 nn,.int .u32 bt],.slice ps k qs,.slice po s.opens.length qo] (wr.alloc (.cells #[.int .i64 op,.int .i64 D,.int .i64 A,.int .i64 Q,.int .i64 E,.int .i64 nn,.int .u32 bt] 40)) fun e w'=>e=.returned (.bool T)/\Below (wr.alloc (.cells #[.int .i64 op,.int .i64 D,.int .i64 A,.int .i64 Q,.int .i64 E,.int .i64 nn,.int .u32 bt] 40)).heap.size (wr.alloc (.cells #[.int .i64 op,.int .i64 D,.int .i64 A,.int .i64 Q,.int .i64 E,.int .i64 nn,.int .u32 bt] 40)) w'):=KS;have HGO:Hid ((if T=true then Gg c (As s (⟨op,D,A,Q,E,nn,bt⟩:Aa)) (j+1) (c.list.drop (j+1))else(160,(j:Int)))=(RA,RB)):=hgo';have HOS:Hid (T=true->CM k (As s (⟨op,D,A,Q,E,nn,bt⟩:Aa))/\Cr (As s (⟨op,D,A,Q,E,nn,bt⟩:Aa))):=hos;have HTK:Hid (T=true->AW c (⟨op,D,A,Q,E,nn,bt⟩:Aa) (A4 op)=true/\AD c s (⟨op,D,A,Q,E,nn,bt⟩:Aa) (A4 op)=true):=htk;have k1:(0:Int)<=(j:Int):=oM;have k2:(j:Int)<(n3:Int):=oM;have wj:IntKind.i64.wrap ((j:Int)+1)=((j+1:Nat):Int):=by rw[IntKind.wrap_i64];omega
      clear KS hgo hgo' hgi hos htk hT hx hxx hib hll;cases T
      ·have HQ:Hid ((160,(j:Int))=(RA,RB)):=by show _=_;have:=HGO.out;rw[if_neg dE]at this;exact this
       go_wp2_with(go_at_call 34;(with_reducible refine HST.out.mono ?_);rintro e w5 ⟨rfl,hb5⟩;have HB5:Hid (Below (wr.alloc (.cells #[.int .i64 op,.int .i64 D,.int .i64 A,.int .i64 Q,.int .i64 E,.int .i64 nn,.int .u32 bt] 40)).heap.size (wr.alloc (.cells #[.int .i64 op,.int .i64 D,.int .i64 A,.int .i64 Q,.int .i64 E,.int .i64 nn,.int .u32 bt] 40)) w5):=hb5;clear hb5 f0 f1 f2 f3;obtain⟨-,-,f0,f1,f2,f3⟩:=(HCX.out.next (A0 _ _)).next HB5.out;obtain⟨i0,i1,i2,i3,i4,i5,i6⟩:=HIX.out w5 HB5.out)
       go_ret2
       exact⟨EH HQ.out,bel (bel HCX.out.bel (A0 _ _)) HB5.out⟩
      ·have HO1:Hid (CM k (As s (⟨op,D,A,Q,E,nn,bt⟩:Aa))/\Cr (As s (⟨op,D,A,Q,E,nn,bt⟩:Aa))):=HOS.out rfl;have HG1:Hid (Gg c (As s (⟨op,D,A,Q,E,nn,bt⟩:Aa)) (j+1) (c.list.drop (j+1))=(RA,RB)):=by show _=_;have:=HGO.out;rw[if_pos rfl]at this;exact this
       have HTK1:Hid (AW c (⟨op,D,A,Q,E,nn,bt⟩:Aa) (A4 op)=true/\AD c s (⟨op,D,A,Q,E,nn,bt⟩:Aa) (A4 op)=true):=HTK.out rfl;have HOB:Hid (∀g,(Value.slice po s.opens.length qo).ownBlock=some g->g<wr.heap.size):=fun g e=>(hsk.out.opn.lt g e).2;clear HGO HOS HTK;by_cases hop:op=34\/op=36
       ·have hn64:s.opens.length<64:=Eu (i:=(⟨op,D,A,Q,E,nn,bt⟩:Aa)) HTK1.out.2 hop;have HOP:Hid (op=34\/op=36):=hop;have HCP:Hid (∀v,Below wr.heap.size wr v->Calls prog 35 #[.slice ps k qs] v fun e w'=>∃u,e=.returned u/\w'.ownsRow v.heap.size 4 1 u k (BY k s.set)/\Below v.heap.size v w'):=fun v hb=>Fq _ h1 v (Ac hsk.out.set hb);have hq:((op==34)=true)\/((op==34)=false/\(op==36)=true):=by
         rcases hop with e|e
         ·exact .inl (by simpa using e)
         ·exact .inr ⟨by rw[e];decide,by simpa using e⟩
        clear hop;rcases hq with r1|⟨r1,r2⟩
        all_goals
         go_wp2_with(go_at_call 34;(with_reducible refine HST.out.mono ?_);rintro e w5 ⟨rfl,hb5⟩;have HB5:Hid (Below (wr.alloc (.cells #[.int .i64 op,.int .i64 D,.int .i64 A,.int .i64 Q,.int .i64 E,.int .i64 nn,.int .u32 bt] 40)).heap.size (wr.alloc (.cells #[.int .i64 op,.int .i64 D,.int .i64 A,.int .i64 Q,.int .i64 E,.int .i64 nn,.int .u32 bt] 40)) w5):=hb5;have HBR:Hid (Below wr.heap.size wr w5):=bel (A0 _ _) hb5;clear hb5 f0 f1 f2 f3;obtain⟨-,-,f0,f1,f2,f3⟩:=(HCX.out.next (A0 _ _)).next HB5.out;obtain⟨i0,i1,i2,i3,i4,i5,i6⟩:=HIX.out w5 HB5.out);refine rG (fun v=>v.cell? ⟨wr.heap.size,0,none⟩=some (.int .i64 op)/\v.cell? ⟨wr.heap.size,5,none⟩=some (.int .i64 nn)) fun hHeld=>?_;refine Tf 0 1 2 3 4 5 ?_;clear hHeld;refine Ax 6 fun K hK=>?_;go_simp;(go_at_call 35;(with_reducible refine(HCP.out _ (bel HBR.out (Ae _))).mono ?_);rintro e w6 ⟨u,rfl,hu,hb6⟩;obtain⟨pu,qu,rfl⟩:=Ao hu;have hb66:Below w5.heap.size w5 w6:=bel (Ae _) hb6;obtain⟨g',c',w7,hrun,hb7,hsk7,hoth⟩:=SK.push (i:=(⟨op,D,A,Q,E,nn,bt⟩:Aa)) (hsk.out.below HBR.out) hb66 hu HOP.out hn64 84;dsimp only at hrun;have HRUN:Hid _:=hrun;have HX7:Hid (CX w (.slice p0 n0 q0) (.slice p1 k q1) (.slice p2 n2 q2) (.slice (some ⟨b,o,none⟩) n3 q3) w7):=((HCX.out.next (A0 _ _)).next HB5.out).on hb7;have HS7:Hid (SK (w.heap.size+1) k w7 (.slice ps k qs) (.slice (some ⟨g',0,none⟩) (s.opens.length+1) c') (As s (⟨op,D,A,Q,E,nn,bt⟩:Aa)) (us++[.slice pu k qu])):=hsk7;have j0:=kc hb66 i0;have j5:=kc hb66 i5;have hwl:wr.heap.size<w6.heap.size:=Ab j0;have hne:(Value.slice po s.opens.length qo).ownBlock≠some wr.heap.size:=(fun e=>Nat.lt_irrefl _ (HOB.out _ e));have m0:w7.cell? ⟨wr.heap.size,0,none⟩=some (.int .i64 op):=(World.cell?_of_block (hoth _ hwl hne)).trans j0;have m5:w7.cell? ⟨wr.heap.size,5,none⟩=some (.int .i64 nn):=(World.cell?_of_block (hoth _ hwl hne)).trans j5;have a0:∀x,(w6.alloc x).cell? ⟨wr.heap.size,0,none⟩=some (.int .i64 op):=(fun x=>kc (A0 _ _) j0);have a5:∀x,(w6.alloc x).cell? ⟨wr.heap.size,5,none⟩=some (.int .i64 nn):=(fun x=>kc (A0 _ _) j5);clear hu hb6 hb66 hrun hb7 hsk7 hoth hne i0 i5);try(go_wp2_with fail)
         refine Aw hK fun hHeld=>?_;clear hK K;refine Bw 7 ?_;clear hHeld;refine Ax 8 fun K hK=>?_;go_simp;refine Aw hK fun hHeld=>?_;clear hK K;clear hHeld;refine Ax 9 fun K hK=>?_;refine Di _ _ _ rF _ _ _ rF rF HRUN.out ?_ _ rF;refine Aw hK fun hHeld=>?_;clear hK K;refine Bw 10 ?_;refine wpAnyH_done kR ?_ _;go_wp2;go_roundw
         case rel=>exact⟨HX7.out,j+1,As s (⟨op,D,A,Q,E,nn,bt⟩:Aa),us++[Value.slice pu k qu],oM,gN,HS7,HO1.out.1,HO1.out.2,HG1.out⟩
         case measure=>simp[intOf];omega
       have q34:(op==34)=false:=by have:op≠34:=fun e=>hop (.inl e);simpa using this
       have q36:(op==36)=false:=by have:op≠36:=fun e=>hop (.inr e);simpa using this
       have HNO:Hid (op≠34/\op≠36):=⟨fun e=>hop (.inl e),fun e=>hop (.inr e)⟩
       clear hop;by_cases h35:op=35
       ·have hmay:=HTK1.out.2;unfold AD at hmay;rw[if_neg (fun e=>e.elim HNO.out.1 HNO.out.2),if_pos h35]at hmay;simp only[Bool.and_eq_true,Bool.not_eq_true']at hmay;have hn0:0<s.opens.length:=by
         rcases Nat.eq_zero_or_pos s.opens.length with e|e
         ·have:=List.length_eq_zero_iff.1 e;rw[this]at hmay;exact absurd hmay.1 dE
         ·exact e
        have HLP:Hid (AA s=false):=hmay.2;obtain⟨g,cap,eo,-⟩:=hsk.out.opn.form hn0;simp only[Value.slice.injEq]at eo;obtain⟨rfl,-,-⟩:=eo;obtain⟨X,u,hX,hu,-,-,z2⟩:=hsk.out.last hn0;obtain⟨pu,qu,rfl⟩:=Ao hu;have HXO:Hid ((Gl s)[s.opens.length-1]? =some ⟨if AA s then 36 else 34,BE s,X⟩):=hX;have HCP:Hid (∀v,Below wr.heap.size wr v->Calls prog 35 #[.slice pu k qu] v fun e w'=>∃u,e=.returned u/\w'.ownsRow v.heap.size 4 1 u k (BY k X)/\Below v.heap.size v w'):=fun v hb=>Fq _ h1 v (Ac hu hb);have s1:=fun w=>Ea Pg NK (some ⟨g,0,none⟩) s.opens.length qo (s.opens.length-1) (by have:=Hb hsk.out.opn;omega) w;have HN0':Hid (0<s.opens.length):=hn0;obtain⟨N,hN⟩:∃N,s.opens.length=N:=⟨_,rfl⟩
        obtain⟨m,hm⟩:∃m,N-1=m:=⟨_,rfl⟩
        have HNN:Hid (s.opens.length=N):=hN;have HMM:Hid (N-1=m):=hm;rw[hN]at z2 s1 hn0 hnest;rw[hm]at z2 s1;rw[hN]at HST;rw[hN];have hw:IntKind.i64.wrap ((N:Int)-1)=(m:Int):=by rw[IntKind.wrap_i64];omega
        have r1:(0:Int)<=(m:Int):=oM;have r2:(m:Int)<(N:Int):=oM;have q35:(op==35)=true:=by simpa using h35
        have HOP:Hid (op=35\/op=37):=.inl h35;clear hmay hX hu h35 hN hm;go_wp2_with(first
         |(go_at_call 34;(with_reducible refine HST.out.mono ?_);rintro e w5 ⟨rfl,hb5⟩;have HB5:Hid (Below (wr.alloc (.cells #[.int .i64 op,.int .i64 D,.int .i64 A,.int .i64 Q,.int .i64 E,.int .i64 nn,.int .u32 bt] 40)).heap.size (wr.alloc (.cells #[.int .i64 op,.int .i64 D,.int .i64 A,.int .i64 Q,.int .i64 E,.int .i64 nn,.int .u32 bt] 40)) w5):=hb5;have HBR:Hid (Below wr.heap.size wr w5):=bel (A0 _ _) hb5;clear hb5 f0 f1 f2 f3;obtain⟨-,-,f0,f1,f2,f3⟩:=(HCX.out.next (A0 _ _)).next HB5.out;have z5:=kc HBR.out z2;obtain⟨i0,i1,i2,i3,i4,i5,i6⟩:=HIX.out w5 HB5.out)
         |(go_at_call 35;(with_reducible refine(HCP.out _ HBR.out).mono ?_);rintro e w6 ⟨u,rfl,hu,hb6⟩;have HU6:Hid (w6.ownsRow w5.heap.size 4 1 u k (BY k X)):=hu;have HB6:Hid (Below w5.heap.size w5 w6):=hb6;clear hu hb6))
        go_roundw
        case rel=>
         refine⟨((HCX.out.next (A0 _ _)).next HB5.out).next HB6.out,j+1,As s (⟨op,D,A,Q,E,nn,bt⟩:Aa),us.take (s.opens.length-1),oM,gN,?_,HO1.out.1,HO1.out.2,HG1.out⟩;have e1:As s (⟨op,D,A,Q,E,nn,bt⟩:Aa)=AZ s:=Hk HOP.out;have h9:=SK.back (hsk.out.below HBR.out) hok.out HN0'.out HLP.out HB6.out HXO.out HU6.out;rw[e1,←HMM.out,←HNN.out];exact h9
        case measure=>simp[intOf];omega
       have q35:(op==35)=false:=by simpa using h35
       by_cases h37:op=37
       ·have hmay:=HTK1.out.2;unfold AD at hmay;rw[if_neg (fun e=>e.elim HNO.out.1 HNO.out.2),if_neg h35,if_pos h37]at hmay;have hn0:0<s.opens.length:=by
         rcases Nat.eq_zero_or_pos s.opens.length with e|e
         ·have:=List.length_eq_zero_iff.1 e;unfold AA at hmay;rw[this]at hmay;exact absurd hmay dE
         ·exact e
        have HLP:Hid (AA s=true):=hmay;have s1:=fun w=>Ea Pg NK po s.opens.length qo (s.opens.length-1) (by have:=Hb hsk.out.opn;omega) w;have HN0':Hid (0<s.opens.length):=hn0;obtain⟨N,hN⟩:∃N,s.opens.length=N:=⟨_,rfl⟩
        obtain⟨m,hm⟩:∃m,N-1=m:=⟨_,rfl⟩
        have HNN:Hid (s.opens.length=N):=hN;have HMM:Hid (N-1=m):=hm;rw[hN]at s1 hn0 hnest;rw[hm]at s1;rw[hN]at HST;rw[hN];have hw:IntKind.i64.wrap ((N:Int)-1)=(m:Int):=by rw[IntKind.wrap_i64];omega
        have r1:(0:Int)<=(m:Int):=oM;have r2:(m:Int)<(N:Int):=oM;have q37:(op==37)=true:=by simpa using h37
        have HOP:Hid (op=35\/op=37):=.inr h37;clear hmay h35 h37 hN hm;go_wp2_with(go_at_call 34;(with_reducible refine HST.out.mono ?_);rintro e w5 ⟨rfl,hb5⟩;have HB5:Hid (Below (wr.alloc (.cells #[.int .i64 op,.int .i64 D,.int .i64 A,.int .i64 Q,.int .i64 E,.int .i64 nn,.int .u32 bt] 40)).heap.size (wr.alloc (.cells #[.int .i64 op,.int .i64 D,.int .i64 A,.int .i64 Q,.int .i64 E,.int .i64 nn,.int .u32 bt] 40)) w5):=hb5;have HBR:Hid (Below wr.heap.size wr w5):=bel (A0 _ _) hb5;clear hb5 f0 f1 f2 f3;obtain⟨-,-,f0,f1,f2,f3⟩:=(HCX.out.next (A0 _ _)).next HB5.out;obtain⟨i0,i1,i2,i3,i4,i5,i6⟩:=HIX.out w5 HB5.out);go_roundw
        case rel=>
         refine⟨(HCX.out.next (A0 _ _)).next HB5.out,j+1,As s (⟨op,D,A,Q,E,nn,bt⟩:Aa),us.take (s.opens.length-1),oM,gN,?_,HO1.out.1,HO1.out.2,HG1.out⟩;have e1:As s (⟨op,D,A,Q,E,nn,bt⟩:Aa)=AZ s:=Hk HOP.out;have h9:=SK.pop (hsk.out.below HBR.out) hok.out HN0'.out HLP.out;rw[e1,←HMM.out,←HNN.out];exact h9
        case measure=>simp[intOf];omega
       have q37:(op==37)=false:=by simpa using h37
       have HNP:Hid (op≠34/\op≠35/\op≠36/\op≠37):=⟨HNO.out.1,h35,HNO.out.2,h37⟩
       have KE:=E7 (⟨op,D,A,Q,E,nn,bt⟩:Aa);unfold Iu at KE;simp only at KE;have hdr:(A4 op).d≠0->0<=D/\D<(k:Int):=fun hd=>by
        have:=Al (CF HTK1.out.1) hd;rw[HN1.out]at this;exact this
       clear h35 h37;by_cases hsd:(A4 op).d=0
       ·have e9:((A4 op).d != 0)=false:=by simp[hsd]
        rw[e9]at KE;have HKE:Hid (∀v,Calls prog 19 #[.agg #[.int .i64 op,.int .i64 D,.int .i64 A,.int .i64 Q,.int .i64 E,.int .i64 nn,.int .u32 bt]] v fun e w'=>e=.returned (.bool false)/\Below v.heap.size v w'):=KE;have HSD:Hid ((A4 op).d=0):=hsd;clear KE e9 hdr hsd;go_wp2_with(first
         |(go_at_call 34;(with_reducible refine HST.out.mono ?_);rintro e w5 ⟨rfl,hb5⟩;have HB5:Hid (Below (wr.alloc (.cells #[.int .i64 op,.int .i64 D,.int .i64 A,.int .i64 Q,.int .i64 E,.int .i64 nn,.int .u32 bt] 40)).heap.size (wr.alloc (.cells #[.int .i64 op,.int .i64 D,.int .i64 A,.int .i64 Q,.int .i64 E,.int .i64 nn,.int .u32 bt] 40)) w5):=hb5;have HBR:Hid (Below wr.heap.size wr w5):=bel (A0 _ _) hb5;clear hb5 f0 f1 f2 f3;obtain⟨-,-,f0,f1,f2,f3⟩:=(HCX.out.next (A0 _ _)).next HB5.out;obtain⟨i0,i1,i2,i3,i4,i5,i6⟩:=HIX.out w5 HB5.out)
         |(go_at_call 19;(with_reducible refine(HKE.out _).mono ?_);rintro e w6 ⟨rfl,hb6⟩;have HB6:Hid (Below w5.heap.size w5 w6):=hb6;clear hb6))
        go_roundw
        case rel=>exact⟨((HCX.out.next (A0 _ _)).next HB5.out).next HB6.out,j+1,As s (⟨op,D,A,Q,E,nn,bt⟩:Aa),us,oM,gN,SK.keep ((hsk.out.below HBR.out).below HB6.out) hok.out HNP.out.1 HNP.out.2.1 HNP.out.2.2.1 HNP.out.2.2.2 HSD.out,HO1.out.1,HO1.out.2,HG1.out⟩
        case measure=>simp[intOf];omega
       ·have e9:((A4 op).d != 0)=true:=by simp[hsd]
        rw[e9]at KE;have HKE:Hid (∀v,Calls prog 19 #[.agg #[.int .i64 op,.int .i64 D,.int .i64 A,.int .i64 Q,.int .i64 E,.int .i64 nn,.int .u32 bt]] v fun e w'=>e=.returned (.bool true)/\Below v.heap.size v w'):=KE;have HSD:Hid ((A4 op).d≠0):=hsd;obtain⟨d,rfl⟩:∃d:Nat,D=(d:Int):=⟨D.toNat,by have:=hdr hsd;omega⟩
        have hd2:=(hdr hsd).2;obtain⟨gs,cap,eo,hgs,-⟩:=hsk.out.set.form oM;simp only[Value.slice.injEq]at eo;obtain⟨rfl,-,-⟩:=eo;have d0:(0:Int)<=(d:Int):=oM;have HG9:Hid (w.heap.size+1<=gs):=(hsk.out.set.lt gs rfl).1;have HCE:Hid (∀v,Below wr.heap.size wr v->v.cell? ⟨gs,d,none⟩=some (.bool (decide (d∈s.set)))/\v.frozen? ⟨gs,d,none⟩=false):=fun v hb=>by
         have h9:=Ac hsk.out.set hb;exact⟨by rw[h9.cellAt d oM,EL oM],h9.frozenAt d⟩
        clear KE e9 hdr hsd;go_wp2_with(first
         |(go_at_call 34;(with_reducible refine HST.out.mono ?_);rintro e w5 ⟨rfl,hb5⟩;have HB5:Hid (Below (wr.alloc (.cells #[.int .i64 op,.int .i64 (d:Int),.int .i64 A,.int .i64 Q,.int .i64 E,.int .i64 nn,.int .u32 bt] 40)).heap.size (wr.alloc (.cells #[.int .i64 op,.int .i64 (d:Int),.int .i64 A,.int .i64 Q,.int .i64 E,.int .i64 nn,.int .u32 bt] 40)) w5):=hb5;have HBR:Hid (Below wr.heap.size wr w5):=bel (A0 _ _) hb5;clear hb5 f0 f1 f2 f3;obtain⟨-,-,f0,f1,f2,f3⟩:=(HCX.out.next (A0 _ _)).next HB5.out;obtain⟨i0,i1,i2,i3,i4,i5,i6⟩:=HIX.out w5 HB5.out)
         |(go_at_call 19;(with_reducible refine(HKE.out _).mono ?_);rintro e w6 ⟨rfl,hb6⟩;have HB6:Hid (Below w5.heap.size w5 w6):=hb6;obtain⟨y8,y9⟩:=HCE.out w6 (bel HBR.out hb6);have i1:=kc hb6 i1;clear hb6))
        go_roundw
        case rel=>exact⟨(((HCX.out.next (A0 _ _)).next HB5.out).next HB6.out).on ((Below.refl _ _).setCell HG9.out _),j+1,As s ⟨op,(d:Int),A,Q,E,nn,bt⟩,us,oM,gN,SK.ins (i:=⟨op,(d:Int),A,Q,E,nn,bt⟩) ((hsk.out.below HBR.out).below HB6.out) hok.out HNP.out.1 HNP.out.2.1 HNP.out.2.2.1 HNP.out.2.2.2 HSD.out (by have:=hd2;show d<k;omega),HO1.out.1,HO1.out.2,HG1.out⟩
        case measure=>simp[intOf];omega
     ·have hjn3:j=n3:=oM;have hgo':=hgo.out;rw[List.drop_of_length_le (by rw[HN3.out,hjn3];exact Nat.le_refl _)]at hgo';have hgi:Gg c s j []=if s.opens.isEmpty then(0,0)else(160,(j:Int)):=rfl;rw[hgi]at hgo';obtain⟨N,hN⟩:∃N,s.opens.length=N:=⟨_,rfl⟩
      have hE:s.opens.isEmpty=decide (N=0):=by
       rw[←hN];cases s.opens with
       |nil=>rfl
       |cons a l=>simp
      rw[hE]at hgo';have HGO:Hid ((if decide (N=0)=true then((0:Int),(0:Int))else(160,(j:Int)))=(RA,RB)):=hgo';rw[hN]at hnest;rw[hN];have e1:¬ (j:Int)<(n3:Int):=oM;clear hgo hgo' hgi hE hN hlt;by_cases hz:N=0
      ·have HQ:Hid ((0,0)=(RA,RB)):=by show _=_;have:=HGO.out;rw[if_pos (by simpa using hz)]at this;exact this
       subst hz;go_wp2
       go_ret2
       exact⟨EH HQ.out,HCX.out.bel⟩
      ·have HQ:Hid ((160,(j:Int))=(RA,RB)):=by show _=_;have:=HGO.out;rw[if_neg (by simpa using hz)]at this;exact this
       have hz':(0:Int)<(N:Int):=oM;have HJ:Hid ((j:Int)=(n3:Int)):=by show _=_;omega
       clear hz;go_wp2;refine rG (fun v=>v.cell? ⟨w.heap.size,3,none⟩=some (.slice p3 n3 q3)) fun hHeld=>?_;refine Tc 0 1 2 ?_;refine Tb 3 4 ?_;refine wpAnyH_done kR ?_ _;go_wp2
       go_ret2
       refine⟨EH ?_,Co HCX.out.bel⟩;rw[←HJ.out];exact HQ.out
theorem EF(v0 v1 v2 v3:Value)(c:Cd)(hk:Ba c)(w:World)(hv:BP w v0 v1 v2 v3 c):
 Calls prog 17 #[.agg #[v0,v1,v2,v3]] w fun e w'=>e=.returned (.tuple #[.int .i64 (Ah c).1,.int .i64 (Ah c).2])/\Below w.heap.size w w':=by
 by_cases h0:AU c.sign=0
 ·by_cases h1:16384<c.regs.length\/32768<c.list.length
  ·have e:Ah c=(181,-1):=by unfold Ah BR;simp[h0,h1]
   rw[e];exact Dh v0 v1 v2 v3 c hk w hv 181 (.inr (.inl ⟨h0,h1,rfl⟩))
  ·by_cases h2:4096<c.slots.length
   ·have e:Ah c=(180,-1):=by unfold Ah BR;simp[h0,h1,h2]
    rw[e];exact Dh v0 v1 v2 v3 c hk w hv 180 (.inr (.inr ⟨h0,fun e=>h1 (.inl e),fun e=>h1 (.inr e),h2,rfl⟩))
   ·refine Im v0 v1 v2 v3 c hk w hv h0 oM oM oM _ _ ?_;have hA:BR c=if(Ap c&&Bn c)=true then 0 else 160:=by
     unfold BR;rw[if_neg (fun e=>e h0),if_neg h1,if_neg h2]
    unfold Ah;rw[hA];by_cases h3:(Ap c&&Bn c)=true
    ·rw[if_pos h3,if_pos h3,if_neg dE]
    ·rw[if_neg h3,if_neg h3,if_pos dE]
 ·have e:Ah c=(AU c.sign,-1):=by unfold Ah BR;simp[h0]
  rw[e];exact Dh v0 v1 v2 v3 c hk w hv _ (.inl ⟨h0,rfl⟩)
theorem PM(E:Nat)(w:World)(all:List Sl)(p1:Option Addr)(q1:Nat)(HA:∀v,Below E w v->AR 5 E8 v (.slice p1 all.length q1) all)(offs:List Nat)(val:Nat->Nat)(LB N0:Nat)(f:Nat->Value)(hL:∀o∈offs,o<N0/\f o=.int .i64 (val o:Int)/\val o<all.length)(hLM:N0=0\/w.rowIs LB 40 N0 f)(pf:Option Addr)(qf:Nat)(hF:w.ownsRow E 79 1 (.slice pf offs.length qf) offs.length (Cf LB offs))(IB K:Nat)(hI:w.rowIs IB 4 K (fun _=>.bool false))(hK:all.length<=K)(hE:E<=w.heap.size/\E<=IB/\E<=LB)(hnd:offs.Nodup)(ha:all.length<=16384)(ho:offs.length<=200000):
 Calls prog 14 #[.slice p1 all.length q1,.slice pf offs.length qf,.slice (some ⟨IB,0,none⟩) K K] w fun e w'=>∃pr qr,e=.returned (.slice pr (AO (Fp offs val) all).length qr)/\w'.ownsRow w.heap.size 55 5 (.slice pr (AO (Fp offs val) all).length qr) (AO (Fp offs val) all).length (Am E8 (AO (Fp offs val) all))/\PY E IB K LB N0 offs val f w w':=by
 have HAA:=A2 HA;have HL:=A2 hL;have HLM:=A2 hLM;have HF:=A2 hF;have HI:=A2 hI;have HEE:=A2 hE;have HND:=A2 hnd;have HO1:Hid (∀j (hj:j<offs.length),∃FB,pf=some ⟨FB,0,none⟩/\(∃c,w.heap[FB]? =some (.cells c 79 (0,0)))/\FB<w.heap.size/\w.cell? ⟨FB,j,none⟩=some (.pointer (some ⟨LB,offs[j],none⟩))):=fun j hj=>by
  exact Sc
 obtain⟨A,hA⟩:∃A,all.length=A:=⟨_,rfl⟩
 obtain⟨n,hn⟩:∃n,offs.length=n:=⟨_,rfl⟩
 have HAL:=A2 hA;have HNL:=A2 hn;simp only[hA]at HAA HL hK ha ⊢;simp only[hn]at HF ho ⊢;have m1:=fun v=>J9 A oM v;obtain⟨nm,hnm⟩:∃nm,Fp offs val=nm:=⟨_,rfl⟩
 have HNM:=A2 hnm;simp only[hnm];obtain⟨H0,hH0⟩:∃H,w.heap.size=H:=⟨_,rfl⟩
 have HH0:=A2 hH0;simp only[hH0]at HEE;rw[hH0];clear HA hL hLM hF hI hE hnd hA hn hH0 hnm;go_enter func14,ntmps14;go_wp2
 go_loopw [17] (fun iv wr=>∃j:Nat,j<=n/\iv=.int .i64 (j:Int)/\Hid (Below E w wr/\wr.rowIs IB 4 K (fun r=>.bool (Fp (offs.take j) val r))/\(∀b,b<H0->b≠IB->wr.heap[b]? =w.heap[b]?)/\H0<=wr.heap.size)) (fun iv _=>n-(intOf iv).toNat)
 case atStart=>
  refine⟨0,Nat.zero_le _,rfl,Below.refl E w,HI.out,fun _ _ _=>rfl,by rw[HH0.out];exact Nat.le_refl _⟩
 case round=>
  obtain⟨j,hj,rfl,HJ⟩:=hrel;by_cases hlt:j<n
  ·exact RO
  ·have e9:¬ (j:Int)<(n:Int):=oM;have hjn:j=offs.length:=by have:=HNL.out;omega
   obtain⟨hbj,hIj,hoth,hsz⟩:=HJ.out;rw[hjn,List.take_length]at hIj;have i0:(0:Int)<=(A:Int):=oM;obtain⟨V,hV⟩:∃V,wr.alloc (.cells (madeCells #[.int .i64 0] A) 3)=V:=⟨_,rfl⟩
   have HBV:Hid (Below wr.heap.size wr V):=by rw[←hV];exact A0 _ _
   obtain⟨XB,hXB⟩:∃X,wr.heap.size=X:=⟨_,rfl⟩
   have hXr:V.rowIs XB 3 A (fun _=>.int .i64 0):=by rw[←hV,←hXB];exact World.rowIs_made wr (.int .i64 0) A 3
   rw[HNM.out]at hIj;have HK0:Hid (Below E w V/\V.rowIs IB 4 K (fun r=>.bool (nm r))/\(∀b,b<H0->b≠IB->V.heap[b]? =w.heap[b]?)/\H0<=XB/\H0<=V.heap.size/\V.rowIs XB 3 A (fun r=>.int .i64 (Ce nm 0 r))/\V.ownsRow H0 55 5 (.slice none 0 0) (Av nm all 0).length (Am E8 (Av nm all 0))):=by
    have hE:=HEE.out.1;refine⟨hbj.trans (HBV.out.mono (Nat.le_trans hE hsz)),hIj.of_block (HBV.out.block _ hIj.lt),fun b hb hne=>(HBV.out.block b (Nat.lt_of_lt_of_le hb hsz)).trans (hoth b hb hne),by rw[←hXB];exact hsz,Nat.le_trans hsz HBV.out.size,hXr.congr fun r hr=>?_,World.ownsRow_nil _ _ _ 5⟩;unfold Ce;rw[if_neg oM]
   clear hlt hjn hbj hIj hoth hsz hXr HJ HBV;go_wp2;try rw[hV]
   try rw[hXB]
   clear hV hXB
   go_loopw [32,9] (fun iv lv wr=>∃ (j:Nat) (pl:Option Addr) (ql:Nat),j<=A/\iv=.int .i64 (j:Int)/\lv=.slice pl (Av nm all j).length ql/\Hid (Below E w wr/\wr.rowIs IB 4 K (fun r=>.bool (nm r))/\(∀b,b<H0->b≠IB->wr.heap[b]? =w.heap[b]?)/\H0<=XB/\H0<=wr.heap.size/\wr.rowIs XB 3 A (fun r=>.int .i64 (Ce nm j r))/\wr.ownsRow H0 55 5 (.slice pl (Av nm all j).length ql) (Av nm all j).length (Am E8 (Av nm all j)))) (fun iv _ _=>A-(intOf iv).toNat)
   case atStart=>exact⟨0,none,0,Nat.zero_le _,rfl,rfl,HK0.out⟩
   case round=>
    clear HK0;obtain⟨j,pl,ql,hj,rfl,rfl,HJ⟩:=hrel;by_cases hlt:j<A
    ·have hjl:j<all.length:=by have:=HAL.out;omega
     obtain⟨hbj,hIj,hoth,hX0,hsz,hXj,hO⟩:=HJ.out;obtain⟨lb,lo,rfl,hcl⟩:=(HAA.out wr hbj).at hjl;have HPN:=A2 (C7 nm hjl);have hpl:(Av nm all j).length=Ak nm j:=E6 nm all j oM;have hcu:Ak nm j<=16384:=by have h9:Ak nm j<=j:=Nat.le_trans (List.length_filter_le _ _) sM;omega
     obtain⟨⟨⟨kd,pr⟩,kp,bt,it⟩,hi⟩:∃i,all[j]=i:=⟨_,rfl⟩
     rw[hi]at hcl HPN;have y0:=hcl.at 0 (v:=.int .i64 kd) rfl;rw[Nat.add_zero]at y0;have y1:=hcl.at 1 (v:=.int .i64 pr) rfl;have y2:=hcl.at 2 (v:=.bool kp) rfl;have y3:=hcl.at 3 (v:=.int .u32 bt) rfl;have y4:=hcl.at 4 (v:=.int .i64 it) rfl;have llb:lb<wr.heap.size:=Ab y0;have n9:¬lb=wr.heap.size:=oM;have i1:(0:Int)<=(j:Int):=oM;have i2:(j:Int)<(A:Int):=oM;have i3:(j:Int)<(K:Int):=oM;have wi:IntKind.i64.wrap ((j:Int)+1)=((j+1:Nat):Int):=by rw[IntKind.wrap_i64];omega
     obtain⟨V2,hV2⟩:∃V,wr.alloc (.cells #[.int .i64 kd,.int .i64 pr,.bool kp,.int .u32 bt,.int .i64 it] 55)=V:=⟨_,rfl⟩
     have HB2:Hid (Below wr.heap.size wr V2):=by rw[←hV2];exact A0 _ _
     have hX2:V2.rowIs wr.heap.size 55 5 (BV #[.int .i64 kd,.int .i64 pr,.bool kp,.int .u32 bt,.int .i64 it]):=by rw[←hV2];exact AN wr _ _
     have x0:V2.cell? ⟨wr.heap.size,0,none⟩=some (.int .i64 kd):=hX2.cell (i:=0) dE;have x1:V2.cell? ⟨wr.heap.size,1,none⟩=some (.int .i64 pr):=hX2.cell (i:=1) dE;have x2:V2.cell? ⟨wr.heap.size,2,none⟩=some (.bool kp):=hX2.cell (i:=2) dE;have x3:V2.cell? ⟨wr.heap.size,3,none⟩=some (.int .u32 bt):=hX2.cell (i:=3) dE;have x4:V2.cell? ⟨wr.heap.size,4,none⟩=some (.int .i64 it):=hX2.cell (i:=4) dE;have HXB2:=A2 hX2;have hI2:=hIj.of_block (HB2.out.block _ hIj.lt);have hXJ2:=hXj.of_block (HB2.out.block _ hXj.lt);have hO2:=Ac hO HB2.out;have hd:=hI2.cell (show j<K by omega);have hn2:=hXJ2.cell hlt;have hf2:=hXJ2.frozen j;have HBV:Hid (Below E w V2):=hbj.trans (HB2.out.mono (Nat.le_trans HEE.out.1 hsz));have HOT:Hid (∀b,b<H0->b≠IB->V2.heap[b]? =w.heap[b]?):=fun b hb hne=>(HB2.out.block b (Nat.lt_of_lt_of_le hb hsz)).trans (hoth b hb hne);have HS2:Hid (H0<=XB/\H0<=V2.heap.size):=⟨hX0,Nat.le_trans hsz HB2.out.size⟩
     have HI2:=A2 hI2;have HX2:=A2 hXJ2;have HO2:=A2 hO2;obtain⟨P0,hP0⟩:∃P,Av nm all j=P:=⟨_,rfl⟩
     rw[hP0]at HO2 HPN hpl;rw[hP0];have HPL:=A2 hpl;have HCU:=A2 hcu;clear hbj hIj hoth hX0 hsz hXj hO hcl hi llb hX2 hI2 hXJ2 hO2 HJ hP0 hpl hcu;cases hb:nm j with
     |true=>
      rw[hb]at hd HPN;simp only[if_true]at HPN;obtain⟨W3,hW3⟩:∃W,V2.setCell ⟨XB,j,none⟩ (.int .i64 (P0.length:Int))=W:=⟨_,rfl⟩
      have nXB:XB≠V2.heap.size:=by have:=HX2.out.lt;omega
      have hOX:=AF HO2.out HX2.out dE;have hO3:=A7 HO2.out (w':=W3) (fun g hg=>by rw[←hW3];exact Below.heap_setCell _ _ _ _ (fun(q:g=XB)=>hOX (by rw[←q];exact hg)));have hX3:W3.rowIs XB 3 A (fun r=>.int .i64 (Ce nm (j+1) r)):=by
       exact SJ
      have hI3:W3.rowIs IB 4 K (fun r=>.bool (nm r)):=by rw[←hW3];exact HI2.out.setOther (a:=⟨XB,j,none⟩) (Bd HI2.out HX2.out dE) _
      have hB3:W3.rowIs wr.heap.size 55 5 (BV #[.int .i64 kd,.int .i64 pr,.bool kp,.int .u32 bt,.int .i64 it]):=by rw[←hW3];exact HXB2.out.setOther (a:=⟨XB,j,none⟩) (Bd HXB2.out HX2.out dE) _
      have hBW:Below E w W3:=by rw[←hW3];exact HBV.out.setCell (Nat.le_trans HEE.out.1 HS2.out.1) _
      have hOT3:∀b,b<H0->b≠IB->W3.heap[b]? =w.heap[b]? :=fun b hb' hne=>by rw[←hW3];exact(Below.heap_setCell _ _ _ _ (fun(q:b=XB)=>by have:=HS2.out.1;omega)).trans (HOT.out b hb' hne)
      have hS3:H0<=W3.heap.size:=by rw[←hW3];simpa using HS2.out.2
      obtain⟨g,cq,w6,hr,hb6,ho6,hoth6,hat⟩:=ED (t:=24) (e:=55) underlying24 EX rF dE hO3 hS3 #[.int .i64 kd,.int .i64 pr,.bool kp,.int .u32 bt,.int .i64 it] rfl Jz SZ (by have:=HPL.out;have:=HCU.out;omega) 24;have z0:W3.cell? ⟨wr.heap.size,0,none⟩=some (.int .i64 kd):=hB3.cell (i:=0) dE;have z1:W3.cell? ⟨wr.heap.size,1,none⟩=some (.int .i64 pr):=hB3.cell (i:=1) dE;have z2:W3.cell? ⟨wr.heap.size,2,none⟩=some (.bool kp):=hB3.cell (i:=2) dE;have z3:W3.cell? ⟨wr.heap.size,3,none⟩=some (.int .u32 bt):=hB3.cell (i:=3) dE;have z4:W3.cell? ⟨wr.heap.size,4,none⟩=some (.int .i64 it):=hB3.cell (i:=4) dE;have HR:=A2 hr;have HN6:Hid (Below E w w6/\w6.rowIs IB 4 K (fun r=>.bool (nm r))/\(∀b,b<H0->b≠IB->w6.heap[b]? =w.heap[b]?)/\H0<=XB/\H0<=w6.heap.size/\w6.rowIs XB 3 A (fun r=>.int .i64 (Ce nm (j+1) r))/\w6.ownsRow H0 55 5 (.slice (some ⟨g,0,none⟩) (P0.length+1) cq) (P0.length+1) (Am E8 (P0++[(⟨⟨kd,pr⟩,kp,bt,it⟩:Sl)]))):=by
       refine⟨hBW.trans (hb6.mono HEE.out.1),hI3.of_block (hoth6 _ hI3.lt (AF hO3 hI3 dE)),fun b hb' hne=>(hb6.block b hb').trans (hOT3 b hb' hne),HS2.out.1,Nat.le_trans hS3 hb6.size,hX3.of_block (hoth6 _ hX3.lt (AF hO3 hX3 dE)),?_⟩;have e9:Am E8 (P0++[(⟨⟨kd,pr⟩,kp,bt,it⟩:Sl)])=Am E8 P0++[.int .i64 kd,.int .i64 pr,.bool kp,.int .u32 bt,.int .i64 it]:=by simp[Am,E8]
       rw[e9];exact ho6
      obtain⟨PL,hPL⟩:∃k,P0.length+1=k:=⟨_,rfl⟩
      have HPL1:=A2 hPL;rw[hPL]at HR HN6;clear hr hb6 ho6 hoth6 hat hb hPL hO3 hX3 hI3 hB3 hBW hOT3 hS3 hOX nXB;go_upto_region 11 with fail;try rw[hV2]
      go_upto_region 13 with fail;try rw[hW3]
      go_wp2_with(at_builtin;refine Ay rF _ _ _ rF _ _ _ rF rF HR.out ?_);go_roundw
      case rel=>
       refine⟨j+1,some ⟨g,0,none⟩,cq,oM,gN,?_,?_⟩
       ·rw[HPN.out,List.length_append];exact congrArg (fun k=>Value.slice _ k _) HPL1.out.symm
       ·rw[HPN.out,List.length_append,show P0.length+[(⟨⟨kd,pr⟩,kp,bt,it⟩:Sl)].length=PL from HPL1.out];exact HN6.out
      case measure=>simp[intOf];omega
     |false=>
      exact Sb
    ·have e8:¬ (j:Int)<(A:Int):=oM;have hjn:j=A:=oM;subst hjn;obtain⟨hbj,hIj,hoth,hX0,hsz,hXj,hO⟩:=HJ.out;have HPU:Hid (Av nm all j=AO nm all):=by show _=_;rw[←E5,HAL.out]
     rw[HPU.out]at hO;rw[HPU.out];obtain⟨PN,hPN⟩:∃k,(AO nm all).length=k:=⟨_,rfl⟩
     have HPNL:=A2 hPN;rw[hPN]at hO;rw[hPN];have HK0:Hid (Below E w wr/\wr.rowIs IB 4 K (fun r=>.bool (nm r))/\(∀b,b<H0->b≠IB->b≠LB->wr.heap[b]? =w.heap[b]?)/\H0<=XB/\wr.rowIs XB 3 j (fun r=>.int .i64 (Ce nm j r))/\wr.ownsRow H0 55 5 (.slice pl PN ql) PN (Am E8 (AO nm all))/\(N0=0\/wr.rowIs LB 40 N0 (fJ offs val f 0))):=by
      exact Sg
     clear hlt hbj hIj hoth hX0 hsz hXj hO HJ hPN HPU m1;go_wp2
     go_loopw [53] (fun iv wr=>∃m:Nat,m<=n/\iv=.int .i64 (m:Int)/\Hid (Below E w wr/\wr.rowIs IB 4 K (fun r=>.bool (nm r))/\(∀b,b<H0->b≠IB->b≠LB->wr.heap[b]? =w.heap[b]?)/\H0<=XB/\wr.rowIs XB 3 j (fun r=>.int .i64 (Ce nm j r))/\wr.ownsRow H0 55 5 (.slice pl PN ql) PN (Am E8 (AO nm all))/\(N0=0\/wr.rowIs LB 40 N0 (fJ offs val f m)))) (fun iv _=>n-(intOf iv).toNat)
     case atStart=>exact⟨0,Nat.zero_le _,rfl,HK0.out⟩
     case round=>
      clear HK0;obtain⟨m,hm,rfl,HJ⟩:=hrel;by_cases hlt:m<n
      ·have hml:m<offs.length:=by have:=HNL.out;omega
       obtain⟨hbj,hIj,hoth,hX0,hXj,hO,hLj⟩:=HJ.out;obtain⟨FB,rfl,⟨cF,hcF⟩,lF,hc⟩:=HO1.out m hml;obtain⟨l1,l2,l3⟩:=HL.out _ (List.getElem_mem hml);have hLr:wr.rowIs LB 40 N0 (fJ offs val f m):=hLj.resolve_left oM;have hLw:w.rowIs LB 40 N0 f:=HLM.out.resolve_left oM;have nFI:FB≠IB:=fun e=>by
        obtain⟨c,hc',-⟩:=HI.out;exact Qx
       have nFL:FB≠LB:=fun e=>by
        obtain⟨c,hc',-⟩:=hLw;exact Qx
       have h0:=HH0.out;have x0:wr.cell? ⟨FB,m,none⟩=some (.pointer (some ⟨LB,offs[m],none⟩)):=(World.cell?_of_block (a:=⟨FB,m,none⟩) (hoth FB oM nFI nFL)).trans hc;have x1:wr.cell? ⟨LB,offs[m],none⟩=some (.int .i64 (val offs[m]:Int)):=by
        rw[←l2,←Pc HND.out hml val f];exact hLr.cell l1
       have x2:=hLr.frozen offs[m];have hnv:Ce nm j (val offs[m])=(Ak nm (val offs[m]):Int):=by
        unfold Ce;rw[if_pos ⟨l3,by rw[←HNM.out];exact JS (List.getElem_mem hml)⟩]
       have x3:=hXj.cell l3;rw[hnv]at x3;have HFN:=A2 (fun o=>JF hml val f o);have HLX:Hid (LB≠XB/\LB≠IB/\E<=LB):=⟨Bd hLr hXj dE,Bd hLr hIj dE,HEE.out.2.2⟩
       obtain⟨o,ho'⟩:∃o,offs[m]=o:=⟨_,rfl⟩
       rw[ho']at x0 x1 x2 x3 l3 HFN;obtain⟨r,hr⟩:∃r,val o=r:=⟨_,rfl⟩
       rw[hr]at x1 x3 l3;simp only[hr,HNM.out]at HFN;obtain⟨cr,hcr⟩:∃c,Ak nm r=c:=⟨_,rfl⟩
       rw[hcr]at x3;simp only[hcr]at HFN;have i1:(0:Int)<=(m:Int):=oM;have i2:(m:Int)<(n:Int):=oM;have i3:(0:Int)<=(r:Int):=oM;have i4:(r:Int)<(j:Int):=oM;have wi:IntKind.i64.wrap ((m:Int)+1)=((m+1:Nat):Int):=by rw[IntKind.wrap_i64];omega
       have HNX:Hid (Below E w (wr.setCell ⟨LB,o,none⟩ (.int .i64 (cr:Int)))/\(wr.setCell ⟨LB,o,none⟩ (.int .i64 (cr:Int))).rowIs IB 4 K (fun r=>.bool (nm r))/\(∀b,b<H0->b≠IB->b≠LB->(wr.setCell ⟨LB,o,none⟩ (.int .i64 (cr:Int))).heap[b]? =w.heap[b]?)/\H0<=XB/\(wr.setCell ⟨LB,o,none⟩ (.int .i64 (cr:Int))).rowIs XB 3 j (fun r=>.int .i64 (Ce nm j r))/\(wr.setCell ⟨LB,o,none⟩ (.int .i64 (cr:Int))).ownsRow H0 55 5 (.slice pl PN ql) PN (Am E8 (AO nm all))/\(N0=0\/(wr.setCell ⟨LB,o,none⟩ (.int .i64 (cr:Int))).rowIs LB 40 N0 (fJ offs val f (m+1)))):=by
        exact S9
       exact Ss
      ·have e7:¬ (m:Int)<(n:Int):=oM;have hmn:m=offs.length:=by have:=HNL.out;omega
       have HFI:Hid (wr.ownsRow H0 55 5 (.slice pl PN ql) PN (Am E8 (AO nm all))/\PY E IB K LB N0 offs val f w wr):=by
        exact SA
       have HPNL':=HPNL;clear hlt HJ hmn;go_wp2;refine bodyPost_ret (by simp[results,results14,go_sem, *];try rfl) rfl ?_;exact SN
theorem PO(E:Nat)(w:World)(all:List Ty)(p1:Option Addr)(q1:Nat)(HA:∀v,Below E w v->AR 2 Du v (.slice p1 all.length q1) all)(offs:List Nat)(val:Nat->Nat)(LB N0:Nat)(f:Nat->Value)(hL:∀o∈offs,o<N0/\f o=.int .i64 (val o:Int)/\val o<all.length)(hLM:N0=0\/w.rowIs LB 40 N0 f)(pf:Option Addr)(qf:Nat)(hF:w.ownsRow E 79 1 (.slice pf offs.length qf) offs.length (Cf LB offs))(IB K:Nat)(hI:w.rowIs IB 4 K (fun _=>.bool false))(hK:all.length<=K)(hE:E<=w.heap.size/\E<=IB/\E<=LB)(hnd:offs.Nodup)(ha:all.length<=16384)(ho:offs.length<=200000):
 Calls prog 12 #[.slice p1 all.length q1,.slice pf offs.length qf,.slice (some ⟨IB,0,none⟩) K K] w fun e w'=>∃pr qr,e=.returned (.slice pr (AO (Fp offs val) all).length qr)/\w'.ownsRow w.heap.size 50 2 (.slice pr (AO (Fp offs val) all).length qr) (AO (Fp offs val) all).length (Am Du (AO (Fp offs val) all))/\PY E IB K LB N0 offs val f w w':=by
 have HAA:=A2 HA;have HL:=A2 hL;have HLM:=A2 hLM;have HF:=A2 hF;have HI:=A2 hI;have HEE:=A2 hE;have HND:=A2 hnd;have HO1:Hid (∀j (hj:j<offs.length),∃FB,pf=some ⟨FB,0,none⟩/\(∃c,w.heap[FB]? =some (.cells c 79 (0,0)))/\FB<w.heap.size/\w.cell? ⟨FB,j,none⟩=some (.pointer (some ⟨LB,offs[j],none⟩))):=fun j hj=>by
  exact Sc
 obtain⟨A,hA⟩:∃A,all.length=A:=⟨_,rfl⟩
 obtain⟨n,hn⟩:∃n,offs.length=n:=⟨_,rfl⟩
 have HAL:=A2 hA;have HNL:=A2 hn;simp only[hA]at HAA HL hK ha ⊢;simp only[hn]at HF ho ⊢;have m1:=fun v=>J9 A oM v;obtain⟨nm,hnm⟩:∃nm,Fp offs val=nm:=⟨_,rfl⟩
 have HNM:=A2 hnm;simp only[hnm];obtain⟨H0,hH0⟩:∃H,w.heap.size=H:=⟨_,rfl⟩
 have HH0:=A2 hH0;simp only[hH0]at HEE;rw[hH0];clear HA hL hLM hF hI hE hnd hA hn hH0 hnm;go_enter func12,ntmps12;go_wp2
 go_loopw [17] (fun iv wr=>∃j:Nat,j<=n/\iv=.int .i64 (j:Int)/\Hid (Below E w wr/\wr.rowIs IB 4 K (fun r=>.bool (Fp (offs.take j) val r))/\(∀b,b<H0->b≠IB->wr.heap[b]? =w.heap[b]?)/\H0<=wr.heap.size)) (fun iv _=>n-(intOf iv).toNat)
 case atStart=>
  refine⟨0,Nat.zero_le _,rfl,Below.refl E w,HI.out,fun _ _ _=>rfl,by rw[HH0.out];exact Nat.le_refl _⟩
 case round=>
  obtain⟨j,hj,rfl,HJ⟩:=hrel;by_cases hlt:j<n
  ·exact RO
  ·have e9:¬ (j:Int)<(n:Int):=oM;have hjn:j=offs.length:=by have:=HNL.out;omega
   obtain⟨hbj,hIj,hoth,hsz⟩:=HJ.out;rw[hjn,List.take_length]at hIj;have i0:(0:Int)<=(A:Int):=oM;obtain⟨V,hV⟩:∃V,wr.alloc (.cells (madeCells #[.int .i64 0] A) 3)=V:=⟨_,rfl⟩
   have HBV:Hid (Below wr.heap.size wr V):=by rw[←hV];exact A0 _ _
   obtain⟨XB,hXB⟩:∃X,wr.heap.size=X:=⟨_,rfl⟩
   have hXr:V.rowIs XB 3 A (fun _=>.int .i64 0):=by rw[←hV,←hXB];exact World.rowIs_made wr (.int .i64 0) A 3
   rw[HNM.out]at hIj;have HK0:Hid (Below E w V/\V.rowIs IB 4 K (fun r=>.bool (nm r))/\(∀b,b<H0->b≠IB->V.heap[b]? =w.heap[b]?)/\H0<=XB/\H0<=V.heap.size/\V.rowIs XB 3 A (fun r=>.int .i64 (Ce nm 0 r))/\V.ownsRow H0 50 2 (.slice none 0 0) (Av nm all 0).length (Am Du (Av nm all 0))):=by
    have hE:=HEE.out.1;refine⟨hbj.trans (HBV.out.mono (Nat.le_trans hE hsz)),hIj.of_block (HBV.out.block _ hIj.lt),fun b hb hne=>(HBV.out.block b (Nat.lt_of_lt_of_le hb hsz)).trans (hoth b hb hne),by rw[←hXB];exact hsz,Nat.le_trans hsz HBV.out.size,hXr.congr fun r hr=>?_,World.ownsRow_nil _ _ _ 2⟩;unfold Ce;rw[if_neg oM]
   clear hlt hjn hbj hIj hoth hsz hXr HJ HBV;go_wp2;try rw[hV]
   try rw[hXB]
   clear hV hXB
   go_loopw [32,9] (fun iv lv wr=>∃ (j:Nat) (pl:Option Addr) (ql:Nat),j<=A/\iv=.int .i64 (j:Int)/\lv=.slice pl (Av nm all j).length ql/\Hid (Below E w wr/\wr.rowIs IB 4 K (fun r=>.bool (nm r))/\(∀b,b<H0->b≠IB->wr.heap[b]? =w.heap[b]?)/\H0<=XB/\H0<=wr.heap.size/\wr.rowIs XB 3 A (fun r=>.int .i64 (Ce nm j r))/\wr.ownsRow H0 50 2 (.slice pl (Av nm all j).length ql) (Av nm all j).length (Am Du (Av nm all j)))) (fun iv _ _=>A-(intOf iv).toNat)
   case atStart=>exact⟨0,none,0,Nat.zero_le _,rfl,rfl,HK0.out⟩
   case round=>
    clear HK0;obtain⟨j,pl,ql,hj,rfl,rfl,HJ⟩:=hrel;by_cases hlt:j<A
    ·have hjl:j<all.length:=by have:=HAL.out;omega
     obtain⟨hbj,hIj,hoth,hX0,hsz,hXj,hO⟩:=HJ.out;obtain⟨lb,lo,rfl,hcl⟩:=(HAA.out wr hbj).at hjl;have HPN:=A2 (C7 nm hjl);have hpl:(Av nm all j).length=Ak nm j:=E6 nm all j oM;have hcu:Ak nm j<=16384:=by have h9:Ak nm j<=j:=Nat.le_trans (List.length_filter_le _ _) sM;omega
     obtain⟨⟨kd,pr⟩,hi⟩:∃i,all[j]=i:=⟨_,rfl⟩
     rw[hi]at hcl HPN;have y0:=hcl.at 0 (v:=.int .i64 kd) rfl;rw[Nat.add_zero]at y0;have y1:=hcl.at 1 (v:=.int .i64 pr) rfl;have llb:lb<wr.heap.size:=Ab y0;have n9:¬lb=wr.heap.size:=oM;have i1:(0:Int)<=(j:Int):=oM;have i2:(j:Int)<(A:Int):=oM;have i3:(j:Int)<(K:Int):=oM;have wi:IntKind.i64.wrap ((j:Int)+1)=((j+1:Nat):Int):=by rw[IntKind.wrap_i64];omega
     obtain⟨V2,hV2⟩:∃V,wr.alloc (.cells #[.int .i64 kd,.int .i64 pr] 50)=V:=⟨_,rfl⟩
     have HB2:Hid (Below wr.heap.size wr V2):=by rw[←hV2];exact A0 _ _
     have hX2:V2.rowIs wr.heap.size 50 2 (BV #[.int .i64 kd,.int .i64 pr]):=by rw[←hV2];exact AN wr _ _
     have x0:V2.cell? ⟨wr.heap.size,0,none⟩=some (.int .i64 kd):=hX2.cell (i:=0) dE;have x1:V2.cell? ⟨wr.heap.size,1,none⟩=some (.int .i64 pr):=hX2.cell (i:=1) dE;have HXB2:=A2 hX2;have hI2:=hIj.of_block (HB2.out.block _ hIj.lt);have hXJ2:=hXj.of_block (HB2.out.block _ hXj.lt);have hO2:=Ac hO HB2.out;have hd:=hI2.cell (show j<K by omega);have hn2:=hXJ2.cell hlt;have hf2:=hXJ2.frozen j;have HBV:Hid (Below E w V2):=hbj.trans (HB2.out.mono (Nat.le_trans HEE.out.1 hsz));have HOT:Hid (∀b,b<H0->b≠IB->V2.heap[b]? =w.heap[b]?):=fun b hb hne=>(HB2.out.block b (Nat.lt_of_lt_of_le hb hsz)).trans (hoth b hb hne);have HS2:Hid (H0<=XB/\H0<=V2.heap.size):=⟨hX0,Nat.le_trans hsz HB2.out.size⟩
     have HI2:=A2 hI2;have HX2:=A2 hXJ2;have HO2:=A2 hO2;obtain⟨P0,hP0⟩:∃P,Av nm all j=P:=⟨_,rfl⟩
     rw[hP0]at HO2 HPN hpl;rw[hP0];have HPL:=A2 hpl;have HCU:=A2 hcu;clear hbj hIj hoth hX0 hsz hXj hO hcl hi llb hX2 hI2 hXJ2 hO2 HJ hP0 hpl hcu;cases hb:nm j with
     |true=>
      rw[hb]at hd HPN;simp only[if_true]at HPN;obtain⟨W3,hW3⟩:∃W,V2.setCell ⟨XB,j,none⟩ (.int .i64 (P0.length:Int))=W:=⟨_,rfl⟩
      have nXB:XB≠V2.heap.size:=by have:=HX2.out.lt;omega
      have hOX:=AF HO2.out HX2.out dE;have hO3:=A7 HO2.out (w':=W3) (fun g hg=>by rw[←hW3];exact Below.heap_setCell _ _ _ _ (fun(q:g=XB)=>hOX (by rw[←q];exact hg)));have hX3:W3.rowIs XB 3 A (fun r=>.int .i64 (Ce nm (j+1) r)):=by
       exact SJ
      have hI3:W3.rowIs IB 4 K (fun r=>.bool (nm r)):=by rw[←hW3];exact HI2.out.setOther (a:=⟨XB,j,none⟩) (Bd HI2.out HX2.out dE) _
      have hB3:W3.rowIs wr.heap.size 50 2 (BV #[.int .i64 kd,.int .i64 pr]):=by rw[←hW3];exact HXB2.out.setOther (a:=⟨XB,j,none⟩) (Bd HXB2.out HX2.out dE) _
      have hBW:Below E w W3:=by rw[←hW3];exact HBV.out.setCell (Nat.le_trans HEE.out.1 HS2.out.1) _
      have hOT3:∀b,b<H0->b≠IB->W3.heap[b]? =w.heap[b]? :=fun b hb' hne=>by rw[←hW3];exact(Below.heap_setCell _ _ _ _ (fun(q:b=XB)=>by have:=HS2.out.1;omega)).trans (HOT.out b hb' hne)
      have hS3:H0<=W3.heap.size:=by rw[←hW3];simpa using HS2.out.2
      obtain⟨g,cq,w6,hr,hb6,ho6,hoth6,hat⟩:=ED (t:=23) (e:=50) underlying23 EY rF dE hO3 hS3 #[.int .i64 kd,.int .i64 pr] rfl Jz SZ (by have:=HPL.out;have:=HCU.out;omega) 23;have z0:W3.cell? ⟨wr.heap.size,0,none⟩=some (.int .i64 kd):=hB3.cell (i:=0) dE;have z1:W3.cell? ⟨wr.heap.size,1,none⟩=some (.int .i64 pr):=hB3.cell (i:=1) dE;have HR:=A2 hr;have HN6:Hid (Below E w w6/\w6.rowIs IB 4 K (fun r=>.bool (nm r))/\(∀b,b<H0->b≠IB->w6.heap[b]? =w.heap[b]?)/\H0<=XB/\H0<=w6.heap.size/\w6.rowIs XB 3 A (fun r=>.int .i64 (Ce nm (j+1) r))/\w6.ownsRow H0 50 2 (.slice (some ⟨g,0,none⟩) (P0.length+1) cq) (P0.length+1) (Am Du (P0++[(⟨kd,pr⟩:Ty)]))):=by
       refine⟨hBW.trans (hb6.mono HEE.out.1),hI3.of_block (hoth6 _ hI3.lt (AF hO3 hI3 dE)),fun b hb' hne=>(hb6.block b hb').trans (hOT3 b hb' hne),HS2.out.1,Nat.le_trans hS3 hb6.size,hX3.of_block (hoth6 _ hX3.lt (AF hO3 hX3 dE)),?_⟩;have e9:Am Du (P0++[(⟨kd,pr⟩:Ty)])=Am Du P0++[.int .i64 kd,.int .i64 pr]:=by simp[Am,Du]
       rw[e9];exact ho6
      obtain⟨PL,hPL⟩:∃k,P0.length+1=k:=⟨_,rfl⟩
      have HPL1:=A2 hPL;rw[hPL]at HR HN6;clear hr hb6 ho6 hoth6 hat hb hPL hO3 hX3 hI3 hB3 hBW hOT3 hS3 hOX nXB;go_upto_region 11 with fail;try rw[hV2]
      go_upto_region 13 with fail;try rw[hW3]
      go_wp2_with(at_builtin;refine Ay rF _ _ _ rF _ _ _ rF rF HR.out ?_);go_roundw
      case rel=>
       refine⟨j+1,some ⟨g,0,none⟩,cq,oM,gN,?_,?_⟩
       ·rw[HPN.out,List.length_append];exact congrArg (fun k=>Value.slice _ k _) HPL1.out.symm
       ·rw[HPN.out,List.length_append,show P0.length+[(⟨kd,pr⟩:Ty)].length=PL from HPL1.out];exact HN6.out
      case measure=>simp[intOf];omega
     |false=>
      exact Sb
    ·have e8:¬ (j:Int)<(A:Int):=oM;have hjn:j=A:=oM;subst hjn;obtain⟨hbj,hIj,hoth,hX0,hsz,hXj,hO⟩:=HJ.out;have HPU:Hid (Av nm all j=AO nm all):=by show _=_;rw[←E5,HAL.out]
     rw[HPU.out]at hO;rw[HPU.out];obtain⟨PN,hPN⟩:∃k,(AO nm all).length=k:=⟨_,rfl⟩
     have HPNL:=A2 hPN;rw[hPN]at hO;rw[hPN];have HK0:Hid (Below E w wr/\wr.rowIs IB 4 K (fun r=>.bool (nm r))/\(∀b,b<H0->b≠IB->b≠LB->wr.heap[b]? =w.heap[b]?)/\H0<=XB/\wr.rowIs XB 3 j (fun r=>.int .i64 (Ce nm j r))/\wr.ownsRow H0 50 2 (.slice pl PN ql) PN (Am Du (AO nm all))/\(N0=0\/wr.rowIs LB 40 N0 (fJ offs val f 0))):=by
      exact Sg
     clear hlt hbj hIj hoth hX0 hsz hXj hO HJ hPN HPU m1;go_wp2
     go_loopw [53] (fun iv wr=>∃m:Nat,m<=n/\iv=.int .i64 (m:Int)/\Hid (Below E w wr/\wr.rowIs IB 4 K (fun r=>.bool (nm r))/\(∀b,b<H0->b≠IB->b≠LB->wr.heap[b]? =w.heap[b]?)/\H0<=XB/\wr.rowIs XB 3 j (fun r=>.int .i64 (Ce nm j r))/\wr.ownsRow H0 50 2 (.slice pl PN ql) PN (Am Du (AO nm all))/\(N0=0\/wr.rowIs LB 40 N0 (fJ offs val f m)))) (fun iv _=>n-(intOf iv).toNat)
     case atStart=>exact⟨0,Nat.zero_le _,rfl,HK0.out⟩
     case round=>
      clear HK0;obtain⟨m,hm,rfl,HJ⟩:=hrel;by_cases hlt:m<n
      ·have hml:m<offs.length:=by have:=HNL.out;omega
       obtain⟨hbj,hIj,hoth,hX0,hXj,hO,hLj⟩:=HJ.out;obtain⟨FB,rfl,⟨cF,hcF⟩,lF,hc⟩:=HO1.out m hml;obtain⟨l1,l2,l3⟩:=HL.out _ (List.getElem_mem hml);have hLr:wr.rowIs LB 40 N0 (fJ offs val f m):=hLj.resolve_left oM;have hLw:w.rowIs LB 40 N0 f:=HLM.out.resolve_left oM;have nFI:FB≠IB:=fun e=>by
        obtain⟨c,hc',-⟩:=HI.out;exact Qx
       have nFL:FB≠LB:=fun e=>by
        obtain⟨c,hc',-⟩:=hLw;exact Qx
       have h0:=HH0.out;have x0:wr.cell? ⟨FB,m,none⟩=some (.pointer (some ⟨LB,offs[m],none⟩)):=(World.cell?_of_block (a:=⟨FB,m,none⟩) (hoth FB oM nFI nFL)).trans hc;have x1:wr.cell? ⟨LB,offs[m],none⟩=some (.int .i64 (val offs[m]:Int)):=by
        rw[←l2,←Pc HND.out hml val f];exact hLr.cell l1
       have x2:=hLr.frozen offs[m];have hnv:Ce nm j (val offs[m])=(Ak nm (val offs[m]):Int):=by
        unfold Ce;rw[if_pos ⟨l3,by rw[←HNM.out];exact JS (List.getElem_mem hml)⟩]
       have x3:=hXj.cell l3;rw[hnv]at x3;have HFN:=A2 (fun o=>JF hml val f o);have HLX:Hid (LB≠XB/\LB≠IB/\E<=LB):=⟨Bd hLr hXj dE,Bd hLr hIj dE,HEE.out.2.2⟩
       obtain⟨o,ho'⟩:∃o,offs[m]=o:=⟨_,rfl⟩
       rw[ho']at x0 x1 x2 x3 l3 HFN;obtain⟨r,hr⟩:∃r,val o=r:=⟨_,rfl⟩
       rw[hr]at x1 x3 l3;simp only[hr,HNM.out]at HFN;obtain⟨cr,hcr⟩:∃c,Ak nm r=c:=⟨_,rfl⟩
       rw[hcr]at x3;simp only[hcr]at HFN;have i1:(0:Int)<=(m:Int):=oM;have i2:(m:Int)<(n:Int):=oM;have i3:(0:Int)<=(r:Int):=oM;have i4:(r:Int)<(j:Int):=oM;have wi:IntKind.i64.wrap ((m:Int)+1)=((m+1:Nat):Int):=by rw[IntKind.wrap_i64];omega
       have HNX:Hid (Below E w (wr.setCell ⟨LB,o,none⟩ (.int .i64 (cr:Int)))/\(wr.setCell ⟨LB,o,none⟩ (.int .i64 (cr:Int))).rowIs IB 4 K (fun r=>.bool (nm r))/\(∀b,b<H0->b≠IB->b≠LB->(wr.setCell ⟨LB,o,none⟩ (.int .i64 (cr:Int))).heap[b]? =w.heap[b]?)/\H0<=XB/\(wr.setCell ⟨LB,o,none⟩ (.int .i64 (cr:Int))).rowIs XB 3 j (fun r=>.int .i64 (Ce nm j r))/\(wr.setCell ⟨LB,o,none⟩ (.int .i64 (cr:Int))).ownsRow H0 50 2 (.slice pl PN ql) PN (Am Du (AO nm all))/\(N0=0\/(wr.setCell ⟨LB,o,none⟩ (.int .i64 (cr:Int))).rowIs LB 40 N0 (fJ offs val f (m+1)))):=by
        exact S9
       exact Ss
      ·have e7:¬ (m:Int)<(n:Int):=oM;have hmn:m=offs.length:=by have:=HNL.out;omega
       have HFI:Hid (wr.ownsRow H0 50 2 (.slice pl PN ql) PN (Am Du (AO nm all))/\PY E IB K LB N0 offs val f w wr):=by
        exact SA
       have HPNL':=HPNL;clear hlt HJ hmn;go_wp2;refine bodyPost_ret (by simp[results,results12,go_sem, *];try rfl) rfl ?_;exact SN
end Go.Proofs.Ytnbccaicijcklaa
