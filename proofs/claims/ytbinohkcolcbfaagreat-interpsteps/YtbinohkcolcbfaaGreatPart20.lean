import Derived.Test.YtbinohkcolcbfaaGreatPart1
import Derived.Test.YtbinohkcolcbfaaGreatPart19
import Derived.Test.YtbinohkcolcbfaaGreatPart17
import Derived.Test.YtbinohkcolcbfaaGreatPart7
import Derived.Test.YtbinohkcolcbfaaGreatPart3
import Derived.Test.YtbinohkcolcbfaaGreatPart12
import Derived.Lib.LazyBuf
namespace Go.Proofs.YtbinohkcolcbfaaGreat
open Go.RowKit Go.Proofs.Tryz
set_option linter.all false
set_option maxRecDepth 100000
set_option maxHeartbeats 16000000
theorem RS(v0 v1 v2 v3:Value)(c:Cd)(co:B5 c)(hT:Al c=true)(i:At)(h0:0<=i.bits)(h1:i.bits<4294967296)(w:World)(hv:D8 w v0 v1 v2 v3 c):
 Calls prog 64 #[.agg #[v0,v1,v2,v3],Dr i] w fun e w'=>e=.returned (.bool (Aq i.op&&E7 c i (ltR i.op)))/\Below w.heap.size w w':=by
 cases hh:(Aq i.op&&((i.op==1||i.bits==0)&&Cq i.bits))
 ·have e:(Aq i.op&&E7 c i (ltR i.op))=false:=by
   unfold E7;revert hh;cases Aq i.op<;>cases(i.op==1||i.bits==0)<;>cases Cq i.bits<;>simp
  rw[e];exact Ui v0 v1 v2 v3 i h0 h1 hh w
 ·simp only[Bool.and_eq_true]at hh;rw[hh.1,Bool.true_and];exact RT v0 v1 v2 v3 c co hT i h0 h1 hh.1 hh.2.1 hh.2.2 w hv
theorem XN{c:Cd}{i:At}(h:Bt c i (A6 i.op)=true):∀x∈Ak i (A6 i.op),0<=x/\x<(c.regs.length:Int):=by
 intro x hx;unfold Ak at hx;simp only[List.mem_append]at hx;rcases hx with hx|hx|hx
 ·split at hx
  ·simp at hx
  ·rename_i e;simp at hx;subst hx;exact Ae (D9 h) e
 ·split at hx
  ·simp at hx
  ·rename_i e;simp at hx;subst hx;exact Ae (FH h) e
 ·split at hx
  ·simp at hx
  ·rename_i e;simp at hx;subst hx;exact Ae (FI h) e
theorem RM(i:At):(Ak i (A6 i.op)).length<=3:=by
 rw[GJ];simp only[List.length_append];have a:=He (A6 i.op).a i.a;have b:=He (A6 i.op).b i.b;have d:=He (A6 i.op).c i.c;omega
theorem N7(v0 v1 v2 v3:Value)(c:Cd)(co:B5 c)(hT:Al c=true)(i:At)(hb0:0<=i.bits)(hb1:i.bits<4294967296)(B:Nat)(s:Wk)(sv ov:Value)(us:List Value)(hM:c.regs.length<=16384)(ok:Dv c.regs.length s)(po:DH s)(w:World)(hv:D8 w v0 v1 v2 v3 c)(hs:SK B c.regs.length w sv ov s us):
 Calls prog 37 #[.agg #[v0,v1,v2,v3],Dr i,sv,ov] w fun e w'=>e=.returned (.bool (AR c s i))/\Below w.heap.size w w':=by
 rw[Sm hT po];have hfit:(Aq i.op&&E7 c i (ltR i.op))=true->Bt c i (A6 i.op)=true:=fun h=>by simp only[Bool.and_eq_true]at h;rw[←Mo hT];exact h.2
 have HFIT:Hid (∀v,Below w.heap.size w v->Calls prog 64 #[.agg #[v0,v1,v2,v3],Dr i] v fun e w'=>e=.returned (.bool (Aq i.op&&E7 c i (ltR i.op)))/\Below v.heap.size v w'):=fun v hb=>RS v0 v1 v2 v3 c co hT i hb0 hb1 v (hv.below hb);have HVEC:Hid (∀v,Below w.heap.size w v->Calls prog 65 #[.agg #[v0,v1,v2,v3],Dr i] v fun e w'=>e=.returned (.int .i64 (G1 c.regs (Fg i)))/\Below v.heap.size v w'):=fun v hb=>Nc v0 v1 v2 v3 c co i v (hv.below hb);have HRD:Hid (∀v,Calls prog 66 #[Dr i] v fun e w'=>∃u,e=.returned u/\w'.ownsRow v.heap.size 3 1 u (Ak i (A6 i.op)).length (BQ (Ak i (A6 i.op)))/\Below v.heap.size v w'):=OW i;have hR3:=RM i;have hRP:=fun h=>XN (hfit h);have hRO:Gd s i (A6 i.op)=(Ak i (A6 i.op)).all fun n=>decide (n.toNat∈s.set):=rfl;rw[hRO];clear hfit hRO;unfold ME Nl;obtain⟨Fi,hFi⟩:∃F,(Aq i.op&&E7 c i (ltR i.op))=F:=⟨_,rfl⟩
 rw[hFi]at HFIT hRP ⊢;obtain⟨V,hV⟩:∃V,G1 c.regs (Fg i)=V:=⟨_,rfl⟩
 rw[hV]at HVEC ⊢;obtain⟨R,hR⟩:∃R,Ak i (A6 i.op)=R:=⟨_,rfl⟩
 rw[hR]at HRD hR3 hRP ⊢;have hnest:=ok.nest;have hlast:=fun g q (e:ov=.slice (some ⟨g,0,none⟩) s.opens.length q)=>SK.last (e▸hs);obtain⟨p,q,rfl⟩:=AV hs.opn;have hopn:0<s.opens.length->∃g,p=some ⟨g,0,none⟩:=fun h=>by
  obtain⟨g,cap,e,_⟩:=hs.opn.form h;simp only[Value.slice.injEq]at e;exact⟨g,e.1⟩
 obtain⟨ps,qs,rfl⟩:=AV hs.set;have HSET:Hid (∀k,k<c.regs.length->∃g,ps=some ⟨g,0,none⟩/\w.cell? ⟨g,k,none⟩=some (.bool (decide (k∈s.set)))):=fun k hk=>by
  obtain⟨g,cap,e,_⟩:=hs.set.form oM;simp only[Value.slice.injEq]at e;obtain⟨rfl,-,-⟩:=e;exact⟨g,rfl,by rw[hs.set.cellAt k oM,GQ hk]⟩
 have hz:s.opens.length=0->Aw s=false:=fun h=>by
  obtain⟨S,O⟩:=s;cases O with
  |nil=>rfl
  |cons b r=>simp at h
 obtain⟨S,hS⟩:∃S,s.set=S:=⟨_,rfl⟩
 obtain⟨n,hn⟩:∃n,s.opens.length=n:=⟨_,rfl⟩
 obtain⟨lp,hlp⟩:∃l,Aw s=l:=⟨_,rfl⟩
 obtain⟨par,hpar⟩:∃l,Cx s=l:=⟨_,rfl⟩
 obtain⟨M,hMM⟩:∃M,c.regs.length=M:=⟨_,rfl⟩
 rw[hn]at hnest hlast hopn hz ⊢;rw[hlp]at hlast hz ⊢;rw[hpar]at hlast ⊢;rw[hS]at HSET ⊢;rw[hMM]at hM HSET hRP hlast ⊢;clear hFi hV hR hs ok po hv co hT hS hn hlp hpar hMM;obtain⟨op,D,A,Q,E,nn,bt⟩:=i;unfold Dr at HFIT HVEC HRD ⊢;simp only at HFIT HVEC HRD hb0 hb1 ⊢;clear hb0 hb1;have HT0:Hid (TW w v0 v1 v2 v3 (w.heap.size+1) op D A Q E nn bt ((w.alloc (.cells #[v0,v1,v2,v3] 27)).alloc (.cells #[.int .i64 op,.int .i64 D,.int .i64 A,.int .i64 Q,.int .i64 E,.int .i64 nn,.int .u32 bt] 45))):=TW.start w v0 v1 v2 v3 op D A Q E nn bt;obtain⟨hb00,c0,c1,c2,c3,i0,i1,i2,i3,i4,i5,i6⟩:=HT0.out;have hcase:(n=0/\lp=false)\/(∃m g,m+1=n/\p=some ⟨g,0,none⟩/\lp=false/\w.cell? ⟨g,m*3,none⟩=some (.int .i64 34))\/(∃m g,m+1=n/\p=some ⟨g,0,none⟩/\lp=true/\w.cell? ⟨g,m*3,none⟩=some (.int .i64 36)/\w.cell? ⟨g,m*3+1,none⟩=some (.int .i64 par)):=by
  by_cases h0:n=0
  ·exact .inl ⟨h0,hz h0⟩
  ·obtain⟨g,rfl⟩:=hopn oM;obtain⟨X,u,-,-,a0,a1,-⟩:=hlast g q rfl oM;obtain⟨m,rfl⟩:∃m,n=m+1:=⟨n-1,oM⟩
   rw[Nat.add_sub_cancel]at a0 a1;cases lp
   ·exact .inr (.inl ⟨m,g,rfl,rfl,rfl,a0⟩)
   ·exact .inr (.inr ⟨m,g,rfl,rfl,rfl,a0,a1⟩)
 clear hlast hopn hz;have HRP:Hid (Fi=true->∀x∈R,0<=x/\x<(M:Int)):=hRP;clear hRP;obtain⟨RES,hRES⟩:∃X,(Fi&&(!(lp&&(op != 37&&V != par))&&((R.all fun n=>decide (n.toNat∈S))&&(if op=34\/op=36 then decide (n<64)else if op=35 then decide (0<n)&& !lp else if op=37 then lp else true))))=X:=⟨_,rfl⟩
 rw[hRES];cases Fi
 ·have HQF:Hid (false=RES):=hRES;clear hRES;rcases hcase with⟨rfl,rfl⟩|⟨m,g,hm,rfl,rfl,z0⟩|⟨m,g,hm,rfl,rfl,z0,z1⟩
  ·exact Zak
  ·have hw:IntKind.i64.wrap ((n:Int)-1)=(m:Int):=by rw[IntKind.wrap_i64];omega
   have x0:=kc hb00 z0;have j0:(0:Int)<(n:Int):=oM;have j1:(0:Int)<=(m:Int):=oM;have j2:(m:Int)<(n:Int):=oM;exact Zak
  ·have hw:IntKind.i64.wrap ((n:Int)-1)=(m:Int):=by rw[IntKind.wrap_i64];omega
   have x0:=kc hb00 z0;have j0:(0:Int)<(n:Int):=oM;have j1:(0:Int)<=(m:Int):=oM;have j2:(m:Int)<(n:Int):=oM;exact Zak
 ·rw[Bool.true_and]at hRES;have HRP1:Hid (∀x∈R,0<=x/\x<(M:Int)):=HRP.out rfl;clear HRP;rcases hcase with⟨hn0,rfl⟩|⟨m,g,hm,rfl,rfl,z0⟩|⟨m,g,hm,rfl,rfl,z0,z1⟩
  ·rw[Bool.false_and,Bool.not_false,Bool.true_and]at hRES;have HR2:Hid (((R.all fun n=>decide (n.toNat∈S))&&(if op=34\/op=36 then decide (n<64)else if op=35 then decide (0<n)&& !false else if op=37 then false else true))=RES):=hRES;clear hRES;have j0:¬ (0:Int)<(n:Int):=oM;go_enter func37,ntmps37;go_wp2;refine rG (fun v=>v.cell? ⟨w.heap.size,0,none⟩=some v0/\v.cell? ⟨w.heap.size,1,none⟩=some v1/\v.cell? ⟨w.heap.size,2,none⟩=some v2/\v.cell? ⟨w.heap.size,3,none⟩=some v3/\v.cell? ⟨w.heap.size+1,0,none⟩=some (.int .i64 op)/\v.cell? ⟨w.heap.size+1,1,none⟩=some (.int .i64 D)/\v.cell? ⟨w.heap.size+1,2,none⟩=some (.int .i64 A)/\v.cell? ⟨w.heap.size+1,3,none⟩=some (.int .i64 Q)/\v.cell? ⟨w.heap.size+1,4,none⟩=some (.int .i64 E)/\v.cell? ⟨w.heap.size+1,5,none⟩=some (.int .i64 nn)/\v.cell? ⟨w.heap.size+1,6,none⟩=some (.int .u32 bt)) fun hHeld=>?_;refine Tb 0 1 ?_;clear hHeld;refine Ap 2 fun K hK=>?_;go_simp;(go_at_call 64;(with_reducible refine(HFIT.out _ (bel HT0.out.bel (A5 _))).mono ?_);rintro e wz ⟨rfl,hbz⟩;have HBZ:Hid (Below ((w.alloc (.cells #[v0,v1,v2,v3] 27)).alloc (.cells #[.int .i64 op,.int .i64 D,.int .i64 A,.int .i64 Q,.int .i64 E,.int .i64 nn,.int .u32 bt] 45)).heap.size ((w.alloc (.cells #[v0,v1,v2,v3] 27)).alloc (.cells #[.int .i64 op,.int .i64 D,.int .i64 A,.int .i64 Q,.int .i64 E,.int .i64 nn,.int .u32 bt] 45)) wz):=bel (A5 _) hbz;clear hbz;obtain⟨-,c0,c1,c2,c3,i0,i1,i2,i3,i4,i5,i6⟩:=HT0.out.next HBZ.out);try(go_wp2_with fail)
   refine Ao hK fun hHeld=>?_;clear hK K;refine Tc 3 4 5 ?_;refine AN 6 ?_;refine De 7 ?_;refine De 8 ?_;refine De 9 ?_;refine Tb 10 11 ?_;refine Kd 12 13 14 15 ?_;refine Kd 16 17 18 19 ?_;refine De 20 ?_;refine De 21 ?_;refine De 22 ?_;refine Tb 23 24 ?_;refine wpAnyH_done kR ?_ _;clear j0;exact Zac
  ·rw[Bool.false_and,Bool.not_false,Bool.true_and]at hRES;have HR2:Hid (((R.all fun n=>decide (n.toNat∈S))&&(if op=34\/op=36 then decide (n<64)else if op=35 then decide (0<n)&& !false else if op=37 then false else true))=RES):=hRES;clear hRES;have hw:IntKind.i64.wrap ((n:Int)-1)=(m:Int):=by rw[IntKind.wrap_i64];omega
   have x0:=kc hb00 z0;have j0:(0:Int)<(n:Int):=oM;have j1:(0:Int)<=(m:Int):=oM;have j2:(m:Int)<(n:Int):=oM;go_enter func37,ntmps37;go_wp2;refine rG (fun v=>v.cell? ⟨w.heap.size,0,none⟩=some v0/\v.cell? ⟨w.heap.size,1,none⟩=some v1/\v.cell? ⟨w.heap.size,2,none⟩=some v2/\v.cell? ⟨w.heap.size,3,none⟩=some v3/\v.cell? ⟨w.heap.size+1,0,none⟩=some (.int .i64 op)/\v.cell? ⟨w.heap.size+1,1,none⟩=some (.int .i64 D)/\v.cell? ⟨w.heap.size+1,2,none⟩=some (.int .i64 A)/\v.cell? ⟨w.heap.size+1,3,none⟩=some (.int .i64 Q)/\v.cell? ⟨w.heap.size+1,4,none⟩=some (.int .i64 E)/\v.cell? ⟨w.heap.size+1,5,none⟩=some (.int .i64 nn)/\v.cell? ⟨w.heap.size+1,6,none⟩=some (.int .u32 bt)) fun hHeld=>?_;refine Tb 0 1 ?_;clear hHeld;refine Ap 2 fun K hK=>?_;go_simp;(go_at_call 64;(with_reducible refine(HFIT.out _ (bel HT0.out.bel (A5 _))).mono ?_);rintro e wz ⟨rfl,hbz⟩;have HBZ:Hid (Below ((w.alloc (.cells #[v0,v1,v2,v3] 27)).alloc (.cells #[.int .i64 op,.int .i64 D,.int .i64 A,.int .i64 Q,.int .i64 E,.int .i64 nn,.int .u32 bt] 45)).heap.size ((w.alloc (.cells #[v0,v1,v2,v3] 27)).alloc (.cells #[.int .i64 op,.int .i64 D,.int .i64 A,.int .i64 Q,.int .i64 E,.int .i64 nn,.int .u32 bt] 45)) wz):=bel (A5 _) hbz;clear hbz;obtain⟨-,c0,c1,c2,c3,i0,i1,i2,i3,i4,i5,i6⟩:=HT0.out.next HBZ.out);try(go_wp2_with fail)
   refine Ao hK fun hHeld=>?_;clear hK K;refine Tc 3 4 5 ?_;refine AN 6 ?_;refine De 7 ?_;refine De 8 ?_;refine De 9 ?_;refine Tb 10 11 ?_;refine Kd 12 13 14 15 ?_;refine Kd 16 17 18 19 ?_;refine De 20 ?_;refine De 21 ?_;refine De 22 ?_;refine Tb 23 24 ?_;refine wpAnyH_done kR ?_ _;clear j0 j1 j2 hw;exact Zac
  ·rw[Bool.true_and]at hRES;have hw:IntKind.i64.wrap ((n:Int)-1)=(m:Int):=by rw[IntKind.wrap_i64];omega
   have x0:=kc hb00 z0;have j0:(0:Int)<(n:Int):=oM;have j1:(0:Int)<=(m:Int):=oM;have j2:(m:Int)<(n:Int):=oM;have y1:=kc hb00 z1;by_cases h7:op=37
   ·subst h7;rw[show((37:Int) != 37)=false from rfl,Bool.false_and,Bool.not_false,Bool.true_and]at hRES;have HR2:Hid (((R.all fun n=>decide (n.toNat∈S))&&(if(37:Int)=34\/(37:Int)=36 then decide (n<64)else if(37:Int)=35 then decide (0<n)&& !true else if(37:Int)=37 then true else true))=RES):=hRES;clear hRES;go_enter func37,ntmps37;go_wp2;refine rG (fun v=>v.cell? ⟨w.heap.size,0,none⟩=some v0/\v.cell? ⟨w.heap.size,1,none⟩=some v1/\v.cell? ⟨w.heap.size,2,none⟩=some v2/\v.cell? ⟨w.heap.size,3,none⟩=some v3/\v.cell? ⟨w.heap.size+1,0,none⟩=some (.int .i64 37)/\v.cell? ⟨w.heap.size+1,1,none⟩=some (.int .i64 D)/\v.cell? ⟨w.heap.size+1,2,none⟩=some (.int .i64 A)/\v.cell? ⟨w.heap.size+1,3,none⟩=some (.int .i64 Q)/\v.cell? ⟨w.heap.size+1,4,none⟩=some (.int .i64 E)/\v.cell? ⟨w.heap.size+1,5,none⟩=some (.int .i64 nn)/\v.cell? ⟨w.heap.size+1,6,none⟩=some (.int .u32 bt)) fun hHeld=>?_;refine Tb 0 1 ?_;clear hHeld;refine Ap 2 fun K hK=>?_;go_simp;(go_at_call 64;(with_reducible refine(HFIT.out _ (bel HT0.out.bel (A5 _))).mono ?_);rintro e wz ⟨rfl,hbz⟩;have HBZ:Hid (Below ((w.alloc (.cells #[v0,v1,v2,v3] 27)).alloc (.cells #[.int .i64 37,.int .i64 D,.int .i64 A,.int .i64 Q,.int .i64 E,.int .i64 nn,.int .u32 bt] 45)).heap.size ((w.alloc (.cells #[v0,v1,v2,v3] 27)).alloc (.cells #[.int .i64 37,.int .i64 D,.int .i64 A,.int .i64 Q,.int .i64 E,.int .i64 nn,.int .u32 bt] 45)) wz):=bel (A5 _) hbz;clear hbz;obtain⟨-,c0,c1,c2,c3,i0,i1,i2,i3,i4,i5,i6⟩:=HT0.out.next HBZ.out);try(go_wp2_with fail)
    refine Ao hK fun hHeld=>?_;clear hK K;refine Tf 3 4 5 6 7 8 ?_;refine Tc 9 10 11 ?_;refine Kd 12 13 14 15 ?_;refine Kd 16 17 18 19 ?_;refine De 20 ?_;refine De 21 ?_;refine De 22 ?_;refine Tb 23 24 ?_;refine wpAnyH_done kR ?_ _;clear j0 j1 j2 hw y1;have HTZ:Hid (TW w v0 v1 v2 v3 (w.heap.size+1) 37 D A Q E nn bt wz):=HT0.out.next HBZ.out;go_wp2_with(go_at_call 66;(with_reducible refine(HRD.out _).mono ?_);rintro e w5 ⟨u,rfl,hou,hb5⟩;obtain⟨pu,qu,rfl⟩:=AV hou;have HOU:Hid (w5.ownsRow wz.heap.size 3 1 (.slice pu R.length qu) R.length (BQ R)):=hou;have HB5:Hid (Below wz.heap.size wz w5):=hb5;clear hou hb5)
    go_loopw [11] (fun kv wr=>∃k:Nat,k<=R.length/\kv=.int .i64 (k:Int)/\wr=w5/\∀x∈R.take k,x.toNat∈S) (fun kv _=>R.length-(intOf kv).toNat)
    case atStart=>exact⟨0,Nat.zero_le _,rfl,rfl,fun x hx=>by simp at hx⟩
    case round=>
     obtain⟨k,hk,rfl,rfl,hin⟩:=hrel;clear c0 c1 c2 c3 i0 i1 i2 i3 i4 i5 i6;obtain⟨hbq,c0,c1,c2,c3,i0,i1,i2,i3,i4,i5,i6⟩:=HTZ.out.next HB5.out;by_cases hlt:k<R.length
     ·have hx:=HRP1.out R[k] (List.getElem_mem hlt);obtain⟨d,hd⟩:∃d:Nat,R[k]=(d:Int):=⟨R[k].toNat,oM⟩
      obtain⟨gs,rfl,hcs⟩:=HSET.out d oM;have hcs':=kc hbq hcs;obtain⟨gu,cu,eu,-⟩:=HOU.out.form oM;simp only[Value.slice.injEq]at eu;obtain⟨rfl,-,rfl⟩:=eu;have hcu:wr.cell? ⟨gu,k,none⟩=some (.int .i64 (d:Int)):=by rw[HOU.out.cellAt k oM];simp[BQ,hlt,hd]
      have HMEM:Hid (R[k]=(d:Int)):=hd;have HIN:Hid (∀x∈R.take k,x.toNat∈S):=hin;have t0:(0:Int)<=(k:Int):=oM;have t1:(k:Int)<(R.length:Int):=oM;have t2:(0:Int)<=(d:Int):=oM;have t3:(d:Int)<(M:Int):=oM;have wk:IntKind.i64.wrap ((k:Int)+1)=((k+1:Nat):Int):=by rw[IntKind.wrap_i64];omega
      clear hx hd hin hcs hk;cases hX:decide (d∈S)
      ·rw[hX]at hcs';have hall:(R.all fun n=>decide (n.toNat∈S))=false:=by
        rw[List.all_eq_false];exact⟨R[k],List.getElem_mem hlt,by rw[HMEM.out,Int.toNat_natCast,hX];decide⟩
       have HQF:Hid (false=RES):=by show _=_;have:=HR2.out;rw[hall,Bool.false_and]at this;exact this
       clear hX hall;go_wp2;go_ret;exact⟨A7 HQF.out,hbq⟩
      ·rw[hX]at hcs';have HX:Hid (d∈S):=by show d∈S;exact of_decide_eq_true hX
       clear hX;go_wp2;go_roundw
       case rel=>
        refine⟨k+1,oM,gN,fT,fun x hx=>?_⟩;rw[List.take_succ_eq_append_getElem hlt,List.mem_append]at hx;rcases hx with hx|hx
        ·exact HIN.out x hx
        ·simp only[List.mem_singleton]at hx;rw[hx,HMEM.out,Int.toNat_natCast];exact HX.out
       case measure=>simp[intOf];omega
     ·have hkk:k=R.length:=oM;have hall:(R.all fun n=>decide (n.toNat∈S))=true:=by
       rw[List.all_eq_true];intro x hx;rw[hkk,List.take_length]at hin;simpa using hin x hx
      have h9:=HR2.out;rw[hall,Bool.true_and]at h9;have HTS:Hid _:=h9;clear h9;have t1:¬ (k:Int)<(R.length:Int):=oM;clear hall hin hk hlt;have HQ:Hid (true=RES):=by show _=_;have:=HTS.out;simpa using this
      go_wp2;go_ret;exact⟨A7 HQ.out,hbq⟩
   ·have h7':(op != 37)=true:=by simpa using h7
    have h7b:(op==37)=false:=by simpa using h7
    rw[h7',Bool.true_and]at hRES;cases hVV:(V != par)
    ·rw[hVV,Bool.not_false,Bool.true_and]at hRES;have HR2:Hid (((R.all fun n=>decide (n.toNat∈S))&&(if op=34\/op=36 then decide (n<64)else if op=35 then decide (0<n)&& !true else if op=37 then true else true))=RES):=hRES;clear hRES;have hVb:(V==par)=true:=by simpa using hVV
     go_enter func37,ntmps37;go_wp2;refine rG (fun v=>v.cell? ⟨g,m*3+1,none⟩=some (.int .i64 par)/\v.cell? ⟨w.heap.size,0,none⟩=some v0/\v.cell? ⟨w.heap.size,1,none⟩=some v1/\v.cell? ⟨w.heap.size,2,none⟩=some v2/\v.cell? ⟨w.heap.size,3,none⟩=some v3/\v.cell? ⟨w.heap.size+1,0,none⟩=some (.int .i64 op)/\v.cell? ⟨w.heap.size+1,1,none⟩=some (.int .i64 D)/\v.cell? ⟨w.heap.size+1,2,none⟩=some (.int .i64 A)/\v.cell? ⟨w.heap.size+1,3,none⟩=some (.int .i64 Q)/\v.cell? ⟨w.heap.size+1,4,none⟩=some (.int .i64 E)/\v.cell? ⟨w.heap.size+1,5,none⟩=some (.int .i64 nn)/\v.cell? ⟨w.heap.size+1,6,none⟩=some (.int .u32 bt)) fun hHeld=>?_;refine Tb 0 1 ?_;clear hHeld;refine Ap 2 fun K hK=>?_;go_simp;(go_at_call 64;(with_reducible refine(HFIT.out _ (bel HT0.out.bel (A5 _))).mono ?_);rintro e w1 ⟨rfl,hb1⟩;have HB1:Hid (Below ((w.alloc (.cells #[v0,v1,v2,v3] 27)).alloc (.cells #[.int .i64 op,.int .i64 D,.int .i64 A,.int .i64 Q,.int .i64 E,.int .i64 nn,.int .u32 bt] 45)).heap.size ((w.alloc (.cells #[v0,v1,v2,v3] 27)).alloc (.cells #[.int .i64 op,.int .i64 D,.int .i64 A,.int .i64 Q,.int .i64 E,.int .i64 nn,.int .u32 bt] 45)) w1):=bel (A5 _) hb1;clear hb1;obtain⟨-,c0,c1,c2,c3,i0,i1,i2,i3,i4,i5,i6⟩:=HT0.out.next HB1.out;have y1:=kc (bel HT0.out.bel HB1.out) z1);try(go_wp2_with fail)
     refine Ao hK fun hHeld=>?_;clear hK K;refine Tf 3 4 5 6 7 8 ?_;refine Tf 9 10 11 12 13 15 ?_;refine Tf 16 17 18 19 20 21 ?_;clear hHeld;refine Ap 14 fun K hK=>?_;go_simp;(go_at_call 65;(with_reducible refine(HVEC.out _ (bel HT0.out.bel HB1.out)).mono ?_);rintro e wz ⟨rfl,hbz⟩;have HBZ:Hid (Below ((w.alloc (.cells #[v0,v1,v2,v3] 27)).alloc (.cells #[.int .i64 op,.int .i64 D,.int .i64 A,.int .i64 Q,.int .i64 E,.int .i64 nn,.int .u32 bt] 45)).heap.size ((w.alloc (.cells #[v0,v1,v2,v3] 27)).alloc (.cells #[.int .i64 op,.int .i64 D,.int .i64 A,.int .i64 Q,.int .i64 E,.int .i64 nn,.int .u32 bt] 45)) wz):=bel HB1.out hbz;clear hbz c0 c1 c2 c3 i0 i1 i2 i3 i4 i5 i6 y1;obtain⟨-,c0,c1,c2,c3,i0,i1,i2,i3,i4,i5,i6⟩:=HT0.out.next HBZ.out;have y1:=kc (bel HT0.out.bel HBZ.out) z1);try(go_wp2_with fail)
     refine Ao hK fun hHeld=>?_;clear hK K;refine Tc 22 23 24 ?_;refine wpAnyH_done kR ?_ _;clear j0 j1 j2 hw y1 h7' h7b;exact Zac
    ·rw[hVV,Bool.not_true,Bool.false_and]at hRES;have HQF:Hid (false=RES):=hRES;clear hRES;have hVb:(V==par)=false:=by simpa using hVV
     go_enter func37,ntmps37;go_wp2;refine rG (fun v=>v.cell? ⟨g,m*3+1,none⟩=some (.int .i64 par)/\v.cell? ⟨w.heap.size,0,none⟩=some v0/\v.cell? ⟨w.heap.size,1,none⟩=some v1/\v.cell? ⟨w.heap.size,2,none⟩=some v2/\v.cell? ⟨w.heap.size,3,none⟩=some v3/\v.cell? ⟨w.heap.size+1,0,none⟩=some (.int .i64 op)/\v.cell? ⟨w.heap.size+1,1,none⟩=some (.int .i64 D)/\v.cell? ⟨w.heap.size+1,2,none⟩=some (.int .i64 A)/\v.cell? ⟨w.heap.size+1,3,none⟩=some (.int .i64 Q)/\v.cell? ⟨w.heap.size+1,4,none⟩=some (.int .i64 E)/\v.cell? ⟨w.heap.size+1,5,none⟩=some (.int .i64 nn)/\v.cell? ⟨w.heap.size+1,6,none⟩=some (.int .u32 bt)) fun hHeld=>?_;refine Tb 0 1 ?_;clear hHeld;refine Ap 2 fun K hK=>?_;go_simp;(go_at_call 64;(with_reducible refine(HFIT.out _ (bel HT0.out.bel (A5 _))).mono ?_);rintro e w1 ⟨rfl,hb1⟩;have HB1:Hid (Below ((w.alloc (.cells #[v0,v1,v2,v3] 27)).alloc (.cells #[.int .i64 op,.int .i64 D,.int .i64 A,.int .i64 Q,.int .i64 E,.int .i64 nn,.int .u32 bt] 45)).heap.size ((w.alloc (.cells #[v0,v1,v2,v3] 27)).alloc (.cells #[.int .i64 op,.int .i64 D,.int .i64 A,.int .i64 Q,.int .i64 E,.int .i64 nn,.int .u32 bt] 45)) w1):=bel (A5 _) hb1;clear hb1;obtain⟨-,c0,c1,c2,c3,i0,i1,i2,i3,i4,i5,i6⟩:=HT0.out.next HB1.out;have y1:=kc (bel HT0.out.bel HB1.out) z1);try(go_wp2_with fail)
     refine Ao hK fun hHeld=>?_;clear hK K;refine Tf 3 4 5 6 7 8 ?_;refine Tf 9 10 11 12 13 15 ?_;refine Tf 16 17 18 19 20 21 ?_;clear hHeld;refine Ap 14 fun K hK=>?_;go_simp;(go_at_call 65;(with_reducible refine(HVEC.out _ (bel HT0.out.bel HB1.out)).mono ?_);rintro e wz ⟨rfl,hbz⟩;have HBZ:Hid (Below ((w.alloc (.cells #[v0,v1,v2,v3] 27)).alloc (.cells #[.int .i64 op,.int .i64 D,.int .i64 A,.int .i64 Q,.int .i64 E,.int .i64 nn,.int .u32 bt] 45)).heap.size ((w.alloc (.cells #[v0,v1,v2,v3] 27)).alloc (.cells #[.int .i64 op,.int .i64 D,.int .i64 A,.int .i64 Q,.int .i64 E,.int .i64 nn,.int .u32 bt] 45)) wz):=bel HB1.out hbz;clear hbz c0 c1 c2 c3 i0 i1 i2 i3 i4 i5 i6 y1;obtain⟨-,c0,c1,c2,c3,i0,i1,i2,i3,i4,i5,i6⟩:=HT0.out.next HBZ.out;have y1:=kc (bel HT0.out.bel HBZ.out) z1);try(go_wp2_with fail)
     refine Ao hK fun hHeld=>?_;clear hK K;refine Tc 22 23 24 ?_;refine wpAnyH_done kR ?_ _;go_wp2;go_ret;exact⟨A7 HQF.out,bel hb00 HBZ.out⟩
def KV(c:Cd)(s:Wk)(f:Fr)(k:Nat):Prop:=
 (k=0/\∀r∈s.set,Dg c f r)\/(∃pre b rest,s.opens=pre++b::rest/\b.loop=false/\k=(pre.filter fun x=> !x.loop).length+1/\∀r∈s.set.take b.ahead,Dg c f r)
theorem OD:∀ {pre:List Bk} {b:Bk} {rest:List Bk} {n:Nat},Zb n (pre++b::rest)->b.ahead<=n/\∀p∈pre,b.ahead<=p.ahead
 |[],b,rest,n,h=>⟨h.1,fun p hp=>by cases hp⟩
 |q::pre,b,rest,n,h=>by
  obtain⟨h1,h2⟩:=OD h.2;refine⟨Nat.le_trans h1 h.1,fun p hp=>?_⟩;rcases List.mem_cons.1 hp with e|e
  ·rw[e];exact h1
  ·exact h2 p e
theorem G9{s:Wk}{i:At}{r:Rw}(h:r.d=0):FU s i r=s:=by unfold FU;rw[if_neg (fun e=>e.1 h)]
theorem Pg{s:Wk}{i:At}(h1:i.op≠34)(h2:i.op≠35)(h3:i.op≠36)(h4:i.op≠37):Ek s i=s:=by
 unfold Ek;rw[if_neg oM,if_neg oM]
theorem PH{s:Wk}{i:At}{r:Rw}{x:Nat}(h:x∈(FU s i r).set):x∈s.set\/(r.d≠0/\x=i.d.toNat):=by
 unfold FU at h;split at h
 ·rename_i e;rcases List.mem_append.1 h with h|h
  ·exact .inl h
  ·simp at h;exact .inr ⟨e.1,h⟩
 ·exact .inl h
theorem M8{s:Wk}{i:At}{r:Rw}{n:Nat}(h:n<=s.set.length):(FU s i r).set.take n=s.set.take n/\(FU s i r).opens=s.opens:=by
 unfold FU;split
 ·exact⟨List.take_append_of_le_length h,rfl⟩
 ·exact⟨rfl,rfl⟩
theorem LV{s:Wk}{i:At}(h:i.op=34):An s i=⟨s.set,⟨false,i.n,s.set.length⟩::s.opens⟩:=by
 unfold An Fw;rw[G9 (by rw[h];rfl)];unfold Ek;rw[if_pos (.inl h),h];rfl
theorem LZ{s:Wk}{i:At}(h:i.op=36):An s i=⟨s.set,⟨true,i.n,s.set.length⟩::s.opens⟩:=by
 unfold An Fw;rw[G9 (by rw[h];rfl)];unfold Ek;rw[if_pos (.inr h),h];rfl
theorem Hj{s:Wk}{i:At}(h:i.op=35\/i.op=37):An s i=AM s:=by
 unfold An Fw;rw[G9 Zhg];unfold Ek;rw[if_neg oM,if_pos h]
theorem F7{s:Wk}{i:At}(h1:i.op≠34)(h2:i.op≠35)(h3:i.op≠36)(h4:i.op≠37):An s i=FU s i (A6 i.op):=by
 unfold An Fw;rw[Pg h1 h2 h3 h4]
theorem K8{s:Wk}{r:Nat}(h:r∈(AM s).set):r∈s.set:=by
 unfold AM at h;split at h
 ·dsimp only at h;split at h
  ·exact h
  ·exact List.mem_of_mem_take h
 ·exact h
theorem LG{c:Cd}{G P:List (List Int)}{s:Wk}{f:Fr}{k:Nat}{i:At}(hg:Good c)(oks:Dv c.regs.length s)(t:AR c s i=true)(ok:EN c f)(hb:Af i.bits)(fg:Cm c G)(fp:Cm c P)(sk:KV c s f k):
 EN c (Bn c G P (f,k) i).1/\KV c (An s i) (Bn c G P (f,k) i).1 (Bn c G P (f,k) i).2:=by
 obtain⟨hkn,_,hst,_⟩:=AZ t;rcases sk with⟨rfl,hs⟩|⟨pre,b,rest,ho,hbl,rfl,hs⟩
 ·have nd:=Lz t hs;have hdo:EN c (DZ c G P f i):=Ym hg ok hkn hb nd fg fp;by_cases h34:i.op=34
  ·rw[LV h34];by_cases hz:f.whs i.a.toNat=0
   ·have e:Bn c G P (f,0) i=(f,1):=by
     unfold Bn;rw[if_neg oM,if_pos ⟨h34,.inr hz⟩]
    rw[e];refine⟨ok,.inr ⟨[],⟨false,i.n,s.set.length⟩,s.opens,rfl,rfl,rfl,fun r hr=>hs r ?_⟩⟩;exact List.mem_of_mem_take hr
   ·have e:Bn c G P (f,0) i=(f,0):=by
     unfold Bn;rw[if_neg oM,if_neg (by simp[hz]),if_pos rfl,BP oM]
    rw[e];exact⟨ok,.inl ⟨rfl,hs⟩⟩
  ·have e:Bn c G P (f,0) i=(DZ c G P f i,0):=by
    unfold Bn;rw[if_neg oM,if_neg oM,if_pos rfl]
   rw[e];refine⟨hdo,.inl ⟨rfl,fun r hr=>?_⟩⟩;by_cases h35:i.op=35\/i.op=37
   ·rw[Hj h35]at hr;rw[BP oM];exact hs r (K8 hr)
   ·by_cases h36:i.op=36
    ·rw[LZ h36]at hr;rw[BP oM];exact hs r hr
    ·rw[F7 h34 oM h36 oM]at hr;refine SW hg ok hkn nd fun hr2=>?_;rcases PH hr with h|⟨h,h'⟩
     ·exact hs r h
     ·rcases hr2 with q|q
      ·exact absurd q h
      ·exact absurd h' q
 ·obtain⟨hah,hpre⟩:=OD (by have:=oks.opens;rw[ho]at this;exact this);obtain⟨K,hK⟩:∃K,(pre.filter fun x=> !x.loop).length=K:=⟨_,rfl⟩
  rw[hK];by_cases h34:i.op=34
  ·have e:Bn c G P (f,K+1) i=(f,K+2):=by
    unfold Bn;rw[if_neg oM,if_pos ⟨h34,.inl (by show 0<K+1;omega)⟩]
   rw[e,LV h34];refine⟨ok,.inr ⟨⟨false,i.n,s.set.length⟩::pre,b,rest,by rw[ho];rfl,hbl,?_,hs⟩⟩;rw[List.filter_cons_of_pos rfl,List.length_cons,hK]
  ·by_cases h35:i.op=35
   ·have e:Bn c G P (f,K+1) i=(f,K):=by
     unfold Bn;rw[if_pos ⟨by show 0<K+1;omega,h35⟩];rfl
    rw[e,Hj (.inl h35)];refine⟨ok,?_⟩;have hnl:Aw s=false:=by
     exact Zfg
    unfold Aw at hnl;unfold AM;rw[ho]at hnl ⊢;cases pre with
    |nil=>
     simp only[List.nil_append]at hnl ⊢;simp at hK;refine .inl ⟨hK.symm,fun r hr=>hs r ?_⟩;rw[hbl]at hr;simpa using hr
    |cons p pre=>
     simp only[List.cons_append]at hnl ⊢;have hp:=hpre p sM;refine .inr ⟨pre,b,rest,rfl,hbl,?_,fun r hr=>hs r ?_⟩
     ·rw[List.filter_cons_of_pos (by rw[hnl];rfl),List.length_cons]at hK;omega
     ·rw[hnl]at hr;simp only[Bool.false_eq_true,if_false,List.take_take]at hr;rw[Nat.min_eq_left hp]at hr;exact hr
   ·have e:Bn c G P (f,K+1) i=(f,K+1):=by
     unfold Bn;rw[if_neg oM,if_neg oM,if_neg (by show¬ (K+1=0);omega)]
    rw[e];refine⟨ok,?_⟩;by_cases h36:i.op=36
    ·rw[LZ h36];refine .inr ⟨⟨true,i.n,s.set.length⟩::pre,b,rest,by rw[ho];rfl,hbl,?_,hs⟩;rw[List.filter_cons_of_neg sM,hK]
    ·by_cases h37:i.op=37
     ·rw[Hj (.inr h37)];have hnl:Aw s=true:=by
       unfold AA at hst;rw[if_neg oM,if_neg oM,if_pos h37]at hst;exact hst
      unfold Aw at hnl;unfold AM;rw[ho]at hnl ⊢;cases pre with
      |nil=>
       simp only[List.nil_append]at hnl;rw[hbl]at hnl;cases hnl
      |cons p pre=>
       simp only[List.cons_append]at hnl ⊢;refine .inr ⟨pre,b,rest,rfl,hbl,?_,fun r hr=>hs r ?_⟩
       ·rw[List.filter_cons_of_neg (by rw[hnl];decide)]at hK;omega
       ·rw[hnl]at hr;simpa using hr
     ·rw[F7 h34 h35 h36 h37];obtain⟨h1,h2⟩:=M8 (i:=i) (r:=A6 i.op) hah;exact .inr ⟨pre,b,rest,by rw[h2];exact ho,hbl,by rw[hK],fun r hr=>hs r (by rw[h1]at hr;exact hr)⟩
theorem YL{T:Nat->Prop}{E E':Nat}{a:Cn}{c:Cd}{G P:List (List Int)}{X:Nat->Value}{M:Nat}{m:Nat->Option Value}{f:Fr}(w:World)(x:FX T E E' a c G P w)(h:FV T E E' a c w X M m f)(hg:Good c)(ok:EN c f)(hM:M<=1000000)(ib io:Nat)(i:At)(hi:Em (AX T E E') w ib io i)
 (hk:Aq i.op=true) (nd:CP c f i) (fg:Cm c G) (fp:Cm c P):
 Calls prog 45 #[.pointer (some ⟨a.FR,0,none⟩),.pointer (some ⟨ib,io,none⟩)] w fun e w'=>e=.returned (.tuple #[])/\A9 T E E' a c G P M (DZ c G P f i) w w':=by
 rcases EJ hk with e|e|e|e|e|e|e|e|e
 ·obtain⟨h1,h2,h3,h4,_⟩:=nd.num e;rw[DA e];exact YM w x h hg ok ib io i hi e h1 h2 h3 h4
 ·obtain⟨h1,h2,h3,h4,h5,_⟩:=nd.whole e;rw[CA e];exact SY w x h hg ok ib io i hi e h1 h2 h3 h4 h5
 ·rw[Et e];exact Wx w x h hg ok hM ib io i hi e fg (nd.part (.inl e))
 ·rw[Eu e];exact SV w x h hg ok hM ib io i hi e fp (nd.part (.inr e))
 ·rw[Ev e];exact YN w x h hg ok hM ib io i hi e (nd.out e).1 (nd.out e).2
 ·obtain⟨h1,h2,h3,h4,h5⟩:=nd.load e;rw[Ew e];refine Wy w x h hg ok hM ib io i hi e h1 h2 h3 h4 fun k1 hh he=>?_;have hn:i.n.toNat<c.slots.length:=oM;have hn2:i.n.toNat<f.slots.length:=by rw[ok.slotsL];exact hn
  have hq:=ok.slots i.n.toNat hn hn2;rw[List.getElem?_eq_getElem hn2]at he;have:slotT c.slots i.n=c.slots[i.n.toNat].ty:=by unfold slotT;rw[List.getElem?_eq_getElem hn];rfl
  rw[←this,h5]at hq;intro e2;have h9:=hq.1;unfold Ad at h9;rw[if_neg oM,if_pos k1]at h9;simp only[Option.some.injEq]at he;rw[he,e2]at h9;cases h9
 ·obtain⟨h1,h2,h3,h4,h5,h6⟩:=nd.store e;rw[Ex e];exact SX w x h hg ok hM ib io i hi e h1 h2 h3 h4
 ·rw[BP e];exact Wz w x h hg ok hM ib io i hi e
 ·rw[Cw e];obtain⟨h1,h2,h3,_⟩:=nd.elem e;by_cases hk2:(A8 c.regs i.d).kind=2
  ·exact Px w x h hg ok hM ib io i hi e _ (O1 w x h hg ib io i hi h1 h2 h3.1 h3.2 hk2)
  ·obtain⟨h4,h5,_⟩:=Ey hg ok e nd hk2;exact Px w x h hg ok hM ib io i hi e _ (QV w x h hg ok hM ib io i hi e h1 h2 hk2 h4 h5)
structure E3(T:Nat->Prop)(E E':Nat)(a:Cn)(c:Cd)(G P:List (List Int))(f0:Fr)(w:World)(j k:Nat)(wr:World)(f:Fr)(s:Wk)(X:Nat->Value)(M:Nat)(m:Nat->Option Value):Prop where
 x:FX T E E' a c G P wr
 h:FV T E E' a c wr X M m f
 hM:M<=j
 un:Un (Je a E E') w wr
 go:VZ c G P (f0,0) (c.list.take j)=(f,k)
 ok:EN c f
 oks:Dv c.regs.length s
 sk:KV c s f k
 tk:Cy c s (c.list.drop j)=true
theorem IH(c:Cd)(G P:List (List Int))(s:Fr×Nat)(l:List At){j:Nat}(hj:j<l.length):VZ c G P s (l.take (j+1))=Bn c G P (VZ c G P s (l.take j)) l[j]:=by
 unfold VZ;rw[List.take_succ_eq_append_getElem hj,List.foldl_append];rfl
theorem E3.taken{T:Nat->Prop}{E E':Nat}{a:Cn}{c:Cd}{G P:List (List Int)}{f0:Fr}{w:World}{j k:Nat}{wr:World}{f:Fr}{s:Wk}{X:Nat->Value}{M:Nat}{m:Nat->Option Value}(g:E3 T E E' a c G P f0 w j k wr f s X M m)(hj:j<c.list.length):AR c s c.list[j]=true/\Cy c (An s c.list[j]) (c.list.drop (j+1))=true:=by
 have:=g.tk;rw[List.drop_eq_getElem_cons hj]at this;unfold Cy at this;simpa using this
theorem E3.next{T:Nat->Prop}{E E':Nat}{a:Cn}{c:Cd}{G P:List (List Int)}{f0:Fr}{w:World}{j k:Nat}{wr:World}{f:Fr}{s:Wk}{X:Nat->Value}{M:Nat}{m:Nat->Option Value}(g:E3 T E E' a c G P f0 w j k wr f s X M m)(hg:Good c)(hbits:∀i∈c.list,Af i.bits)(fg:Cm c G)(fp:Cm c P)(hj:j<c.list.length){k':Nat}{f':Fr}(hn:Bn c G P (f,k) c.list[j]=(f',k')){wr':World}(hst:A9 T E E' a c G P M f' wr wr'):∃f s X M m,E3 T E E' a c G P f0 w (j+1) k' wr' f s X M m:=by
 obtain⟨t1,t2⟩:=g.taken hj;obtain⟨o1,o2⟩:=LG hg g.oks t1 g.ok (hbits _ (List.getElem_mem hj)) fg fp g.sk;rw[hn]at o1 o2;obtain⟨s1,⟨X',M',m',s2,s3⟩,s4⟩:=hst;have:=g.hM;exact⟨f',An s c.list[j],X',M',m',s1,s3,oM,g.un.trans s4,by rw[IH c G P _ _ hj,g.go];exact hn,o1,g.oks.step t1,o2,t2⟩
theorem Oz(c:Cd)(G P:List (List Int))(f:Fr)(K:Nat){i:At}(h:i.op=35):Bn c G P (f,K+1) i=(f,K):=by
 unfold Bn;rw[if_pos ⟨by show 0<K+1;omega,h⟩];rfl
theorem H8(c:Cd)(G P:List (List Int))(f:Fr)(K:Nat){i:At}(h:i.op=34)(hz:0<K\/f.whs i.a.toNat=0):Bn c G P (f,K) i=(f,K+1):=by
 unfold Bn;rw[if_neg oM,if_pos ⟨h,hz⟩]
theorem Ha(c:Cd)(G P:List (List Int))(f:Fr){i:At}(h:¬ (i.op=34/\f.whs i.a.toNat=0)):Bn c G P (f,0) i=(DZ c G P f i,0):=by
 unfold Bn;rw[if_neg (fun e=>absurd e.1 (by show¬0<0;omega)),if_neg (fun e=>h ⟨e.1,e.2.resolve_left (by show¬0<0;omega)⟩),if_pos rfl]
theorem OA(c:Cd)(G P:List (List Int))(f:Fr)(K:Nat){i:At}(h1:i.op≠34)(h2:i.op≠35):Bn c G P (f,K+1) i=(f,K+1):=by
 unfold Bn;rw[if_neg (fun e=>h2 e.2),if_neg (fun e=>h1 e.1),if_neg (by show¬ (K+1=0);omega)]
theorem Jp{T:Nat->Prop}{E E':Nat}{a:Cn}{c:Cd}{G P:List (List Int)}{X:Nat->Value}{m:Nat->Option Value}{f0:Fr}(w:World)(x:FX T E E' a c G P w)(h:FV T E E' a c w X 0 m f0)(hg:Good c)(ok:EN c f0)(ht:Cy c ⟨[],[]⟩ c.list=true)(hbits:∀i∈c.list,Af i.bits)(fg:Cm c G)(fp:Cm c P):
 Calls prog 27 #[.pointer (some ⟨a.FR,0,none⟩)] w fun e w'=>e=.returned (.tuple #[])/\FX T E E' a c G P w'/\(∃X M m,FV T E E' a c w' X M m (VZ c G P (f0,0) c.list).1/\EN c (VZ c G P (f0,0) c.list).1)/\Un (Je a E E') w w':=by
 have HI0:Hid (E3 T E E' a c G P f0 w 0 0 w f0 ⟨[],[]⟩ X 0 m):=⟨x,h,Nat.le_refl _,Un.refl _ _,rfl,ok,Dv.start _,.inl ⟨rfl,fun r hr=>by cases hr⟩,ht⟩
 obtain⟨q3,c3,hv3,_⟩:=x.code.list;have HV3:Hid (a.v3=.slice q3 c.list.length c3):=hv3;have f0':=x.f0;have c3':w.cell? ⟨a.C,3,none⟩=some a.v3:=x.code.cells.at 3 rfl;rw[hv3]at c3';have hL:=hg.listL;have hN:=hg.regsL;have HG:Hid (Good c/\(∀i∈c.list,Af i.bits)/\Cm c G/\Cm c P):=⟨hg,hbits,fg,fp⟩
 obtain⟨FR,hFR⟩:∃FR,a.FR=FR:=⟨_,rfl⟩
 obtain⟨C,hC⟩:∃C,a.C=C:=⟨_,rfl⟩
 obtain⟨N,hN'⟩:∃N,c.list.length=N:=⟨_,rfl⟩
 obtain⟨Nr,hNr'⟩:∃Nr,c.regs.length=Nr:=⟨_,rfl⟩
 have HN:Hid (c.list.length=N):=hN';have HNR:Hid (c.regs.length=Nr):=hNr';have HFR:Hid (a.FR=FR):=hFR;have HC:Hid (a.C=C):=hC;simp only[hFR,hC,hN',hNr']at f0' c3' hL hN ⊢;clear x h ok ht hbits fg fp hv3 hg hFR hC hN' hNr';go_enter func27,ntmps27;go_wp2
 go_loopw [2,13] (fun lv iv wr=>∃ (j k:Nat),j<=N/\k<=j/\iv=.int .i64 j/\lv=.int .i64 k/\Hid (∃f s X M m,E3 T E E' a c G P f0 w j k wr f s X M m)) (fun _ iv _=>N-(intOf iv).toNat)
 case atStart=>exact⟨0,0,Nat.zero_le _,Nat.le_refl _,rfl,rfl,_,_,_,_,_,HI0.out⟩
 case round=>
  clear f0' c3' HI0;obtain⟨j,k,hj,hkj,rfl,rfl,HR⟩:=hrel;obtain⟨f,s,X1,M1,m1,gi⟩:=HR.out;have GI:Hid (E3 T E E' a c G P f0 w j k wr f s X1 M1 m1):=gi;clear HR;by_cases hlt:j<N
  ·have hjL:j<c.list.length:=by rw[HN.out];exact hlt
   obtain⟨t1,t2⟩:=gi.taken hjL;obtain⟨q3',c3'',hv3',hrow⟩:=gi.x.code.list;rw[HV3.out]at hv3';simp only[Value.slice.injEq,true_and]at hv3';obtain⟨rfl,rfl⟩:=hv3';rcases hrow with e|⟨lb,lo,rfl,hnl,hll,hcel⟩
   ·rw[e]at hjL;exact absurd hjL (Nat.not_lt_zero _)
   have hcj:=hcel j hjL;have ht:Em (AX T E E') wr lb (lo+j*7) c.list[j]:=⟨hnl,hll,hcj⟩
   have g0:=gi.x.f0;have g1:wr.cell? ⟨a.C,3,none⟩=some a.v3:=gi.x.code.cells.at 3 rfl;rw[HV3.out,HN.out,HC.out]at g1;rw[HFR.out,HC.out]at g0;have NX:=fun{k':Nat} {f':Fr} (hn:Bn c G P (f,k) c.list[j]=(f',k')) {wr':World} (hst:A9 T E E' a c G P M1 f' wr wr')=>gi.next HG.out.1 HG.out.2.1 HG.out.2.2.1 HG.out.2.2.2 hjL hn hst;have HSAME:Hid (∀v,Below wr.heap.size wr v->A9 T E E' a c G P M1 f wr v):=fun v hv=>A9.same gi.x gi.h hv;have hkn:=(AZ t1).1;have DO:k=0->Hid (∀v,Below wr.heap.size wr v->Calls prog 45 #[.pointer (some ⟨FR,0,none⟩),.pointer (some ⟨lb,lo+j*7,none⟩)] v fun e w'=>e=.returned (.tuple #[])/\A9 T E E' a c G P M1 (DZ c G P f c.list[j]) wr w'):=fun hk v hv=>by
    have hs:∀r∈s.set,Dg c f r:=by
     rcases gi.sk with⟨_,hs⟩|⟨pre,b,rest,_,_,e,_⟩
     ·exact hs
     ·omega
    have hM1:=gi.hM;have:=YL v (gi.x.below hv) (gi.h.below hv) HG.out.1 gi.ok oM lb (lo+j*7) c.list[j] (ht.below hv) hkn (Lz t1 hs) HG.out.2.2.1 HG.out.2.2.2;rw[HFR.out]at this;exact this.mono fun e w' ⟨h1,h2⟩=>⟨h1,h2.pre hv⟩
   have aR:c.list[j].op=34->0<=c.list[j].a/\c.list[j].a<(c.regs.length:Int):=fun e=>Ae (D9 (AZ t1).2.1) (by rw[e];decide);obtain⟨i,hi⟩:∃i,c.list[j]=i:=⟨_,rfl⟩
   simp only[hi]at NX DO hcj aR;have i0:=hcj.at 0 rfl;rw[Nat.add_zero]at i0;have i2:=hcj.at 2 rfl;have f3:=gi.x.f3;rw[HFR.out,HNR.out]at f3;have hwc:=fun{A:Nat} (hA:A<c.regs.length)=>gi.h.whs.cell hA;rw[HNR.out]at aR hwc;obtain⟨WB,hWB⟩:∃WB,a.WB=WB:=⟨_,rfl⟩
   simp only[hWB]at f3 hwc;obtain⟨op,D,A,B,Ec,nn,bt⟩:=i;simp only at i0 i2 aR;clear hi hcj ht t1 t2 hcel hkn;by_cases hk:k=0
   ·subst hk;have HDO:=DO rfl;clear DO;by_cases h34:op=34
    ·subst h34;obtain⟨a0,a1⟩:=aR rfl;obtain⟨A,rfl⟩:∃j:Nat,A=(j:Int):=⟨A.toNat,oM⟩
     have k1:=hwc (A:=A) oM;by_cases hz:f.whs A=0
     ·rw[hz]at k1;have HNX:Hid (∀wr',A9 T E E' a c G P M1 f wr wr'->∃f s X M m,E3 T E E' a c G P f0 w (j+1) 1 wr' f s X M m):=fun wr' hs=>NX (H8 c G P f 0 rfl (.inr hz)) hs;clear NX HDO hwc hz aR gi;go_wp2;refine rG (fun v=>v.cell? ⟨lb,lo+j*7,none⟩=some (.int .i64 34)/\v.cell? ⟨FR,3,none⟩=some (.slice (some ⟨WB,0,none⟩) Nr Nr)/\v.cell? ⟨lb,lo+j*7+2,none⟩=some (.int .i64 (A:Int))/\v.cell? ⟨WB,A,none⟩=some (.int .i64 0)) fun hHeld=>?_;refine Tf 0 1 2 3 4 5 ?_;refine Tf 6 7 8 9 10 11 ?_;refine Tf 12 13 14 15 16 17 ?_;refine Tc 18 19 20 ?_;refine Tb 21 22 ?_;refine wpAnyH_done kR ?_ _;go_wp2;go_roundw
      case rel=>exact⟨j+1,1,oM,oM,gN,by first|rfl|go_num,HNX.out _ (HSAME.out _ (A4 _))⟩
      case measure=>simp[intOf];omega
     ·obtain⟨y,hy⟩:∃y,f.whs A=y:=⟨_,rfl⟩
      rw[hy]at k1 hz;have ez:(y==0)=false:=by simpa using hz
      have HNX:Hid (∀wr',A9 T E E' a c G P M1 (DZ c G P f ⟨34,D,(A:Int),B,Ec,nn,bt⟩) wr wr'->∃f s X M m,E3 T E E' a c G P f0 w (j+1) 0 wr' f s X M m):=fun wr' hs=>NX (Ha c G P f (fun e=>hz (by have:=e.2;rw[←hy];exact this))) hs;clear NX hwc hz aR gi hy;go_wp2;refine rG (fun v=>v.cell? ⟨lb,lo+j*7,none⟩=some (.int .i64 34)/\v.cell? ⟨FR,3,none⟩=some (.slice (some ⟨WB,0,none⟩) Nr Nr)/\v.cell? ⟨lb,lo+j*7+2,none⟩=some (.int .i64 (A:Int))/\v.cell? ⟨WB,A,none⟩=some (.int .i64 y)) fun hHeld=>?_;refine Tf 0 1 2 3 4 5 ?_;refine Tf 6 7 8 9 10 11 ?_;refine Tf 12 13 14 15 16 17 ?_;refine Tc 18 19 20 ?_;exact Zda
    ·have e34:(op==34)=false:=by simpa using h34
     have HNX:Hid (∀wr',A9 T E E' a c G P M1 (DZ c G P f ⟨op,D,A,B,Ec,nn,bt⟩) wr wr'->∃f s X M m,E3 T E E' a c G P f0 w (j+1) 0 wr' f s X M m):=fun wr' hs=>NX (Ha c G P f (fun e=>h34 e.1)) hs;clear NX hwc aR gi h34;go_wp2;refine rG (fun v=>v.cell? ⟨lb,lo+j*7,none⟩=some (.int .i64 op)) fun hHeld=>?_;refine Tf 0 1 2 3 4 5 ?_;refine Kd 6 7 8 9 ?_;refine Kd 10 11 12 13 ?_;refine Kd 14 15 16 17 ?_;refine De 18 ?_;refine De 19 ?_;refine De 20 ?_;exact Zda
   ·obtain⟨K,rfl⟩:∃K,k=K+1:=⟨k-1,oM⟩
    have ek:(0:Int)<((K+1:Nat):Int):=oM;have ek2:(((K+1:Nat):Int)==0)=false:=by have:((K+1:Nat):Int)≠0:=oM;simpa using this
    clear DO;by_cases h35:op=35
    ·subst h35;have HNX:Hid (∀wr',A9 T E E' a c G P M1 f wr wr'->∃f s X M m,E3 T E E' a c G P f0 w (j+1) K wr' f s X M m):=fun wr' hs=>NX (Oz c G P f K rfl) hs;have ew:IntKind.i64.wrap (((K+1:Nat):Int)-1)=(K:Int):=by rw[IntKind.wrap_i64];omega
     clear NX hwc aR gi hk;go_wp2;go_roundw
     case rel=>exact⟨j+1,K,oM,oM,gN,by first|rfl|go_num,HNX.out _ (HSAME.out _ (B8 _))⟩
     case measure=>simp[intOf];omega
    ·have e35:(op==35)=false:=by simpa using h35
     by_cases h34:op=34
     ·subst h34;have HNX:Hid (∀wr',A9 T E E' a c G P M1 f wr wr'->∃f s X M m,E3 T E E' a c G P f0 w (j+1) (K+2) wr' f s X M m):=fun wr' hs=>NX (H8 c G P f (K+1) rfl (.inl oM)) hs;have ew:IntKind.i64.wrap (((K+1:Nat):Int)+1)=((K+2:Nat):Int):=by rw[IntKind.wrap_i64];omega
      clear NX hwc aR gi hk h35;go_wp2;refine rG (fun v=>v.cell? ⟨lb,lo+j*7,none⟩=some (.int .i64 34)) fun hHeld=>?_;refine Tf 0 1 2 3 4 5 ?_;refine Tc 6 7 8 ?_;refine Kd 9 10 11 12 ?_;refine Kd 13 14 15 16 ?_;refine De 17 ?_;refine De 18 ?_;refine De 19 ?_;refine Tc 20 21 22 ?_;refine wpAnyH_done kR ?_ _;go_wp2;go_roundw
      case rel=>exact⟨j+1,K+2,oM,oM,gN,by first|rfl|go_num,HNX.out _ (HSAME.out _ (A4 _))⟩
      case measure=>simp[intOf];omega
     ·have e34:(op==34)=false:=by simpa using h34
      have HNX:Hid (∀wr',A9 T E E' a c G P M1 f wr wr'->∃f s X M m,E3 T E E' a c G P f0 w (j+1) (K+1) wr' f s X M m):=fun wr' hs=>NX (OA c G P f K h34 h35) hs;clear NX hwc aR gi hk h35 h34;go_wp2;refine rG (fun v=>v.cell? ⟨lb,lo+j*7,none⟩=some (.int .i64 op)) fun hHeld=>?_;refine Tf 0 1 2 3 4 5 ?_;refine Kd 6 7 8 9 ?_;refine Kd 10 11 12 13 ?_;refine Kd 14 15 16 17 ?_;refine De 18 ?_;refine De 19 ?_;refine De 20 ?_;refine Tb 21 22 ?_;refine wpAnyH_done kR ?_ _;go_wp2;go_roundw
      case rel=>exact⟨j+1,K+1,oM,oM,gN,by first|rfl|go_num,HNX.out _ (HSAME.out _ (A4 _))⟩
      case measure=>simp[intOf];omega
  ·have hjN:j=N:=oM;subst hjN;have hgo:=gi.go;rw[←HN.out,List.take_length]at hgo;have HF:Hid (VZ c G P (f0,0) c.list=(f,k)):=hgo;clear hgo gi;go_wp2
   go_end0
   rw[HF.out];exact⟨rfl,GI.out.x,⟨_,_,_,GI.out.h,GI.out.ok⟩,GI.out.un⟩
structure CX(w:World)(v0 v1 v2 v3:Value)(v:World):Prop where
 bel:Below w.heap.size w v
 lt:w.heap.size<v.heap.size
 c0:v.cell? ⟨w.heap.size,0,none⟩=some v0
 c1:v.cell? ⟨w.heap.size,1,none⟩=some v1
 c2:v.cell? ⟨w.heap.size,2,none⟩=some v2
 c3:v.cell? ⟨w.heap.size,3,none⟩=some v3
theorem CX.next{w:World}{v0 v1 v2 v3:Value}{v v':World}(h:CX w v0 v1 v2 v3 v)(k:Below v.heap.size v v'):CX w v0 v1 v2 v3 v':=
 ⟨Go.Proofs.YtbinohkcolcbfaaGreat.bel h.bel k,Nat.lt_of_lt_of_le h.lt k.size,kc k h.c0,kc k h.c1,kc k h.c2,kc k h.c3⟩
theorem CX.on{w:World}{v0 v1 v2 v3:Value}{v v':World}(h:CX w v0 v1 v2 v3 v)(k:Below (w.heap.size+1) v v'):CX w v0 v1 v2 v3 v':=
 have f:∀j,v'.cell? ⟨w.heap.size,j,none⟩=v.cell? ⟨w.heap.size,j,none⟩:=fun j=>k.cell (Nat.lt_succ_self _)
 ⟨h.bel.trans (k.mono (Nat.le_succ _)),Nat.lt_of_lt_of_le h.lt k.size,(f 0).trans h.c0,(f 1).trans h.c1,(f 2).trans h.c2,(f 3).trans h.c3⟩
theorem CX.start(w:World)(v0 v1 v2 v3:Value):CX w v0 v1 v2 v3 (w.alloc (.cells #[v0,v1,v2,v3] 27)):=
 ⟨A0 _ _,sM,sG,sG,sG,sG⟩
theorem M9{α:Type}(p:α->Bool){l:List α}{k:Nat}(h:k<l.length)(ht:(l.take k).all p=true)(hp:p l[k]=true):(l.take (k+1)).all p=true:=by
 rw[List.take_succ_eq_append_getElem h,List.all_append,ht];simp[hp]
theorem Po{α:Type}(p:α->Bool){l:List α}{k:Nat}(h:k<l.length)(hp:p l[k]=false):l.all p=false:=by
 rw[List.all_eq_false];exact⟨l[k],List.getElem_mem h,by simp[hp]⟩
theorem EX(v0 v1 v2 v3:Value)(c:Cd)(hk:B5 c)(w:World)(hv:D8 w v0 v1 v2 v3 c)(E:Int)(hE:(AP c.sign≠0/\E=AP c.sign)\/(AP c.sign=0/\(16384<c.regs.length\/32768<c.list.length)/\E=181)\/(AP c.sign=0/\¬16384<c.regs.length/\¬32768<c.list.length/\4096<c.slots.length/\E=180)):
 Calls prog 21 #[.agg #[v0,v1,v2,v3]] w fun e w'=>e=.returned (.tuple #[.int .i64 E,.int .i64 (-1)])/\Below w.heap.size w w':=by
 have hSG:∀v,Below w.heap.size w v->Calls prog 34 #[v0] v fun e w'=>e=.returned (.int .i64 (AP c.sign))/\Below v.heap.size v w':=fun v hb=>IY v0 c.sign hk.signL hk.names v (hv.below hb).sign.rd;have l1:=hk.regsL;have l2:=hk.slotsL;have l3:=hk.listL;obtain⟨p0,q0,rfl,-⟩:=id hv.sign;obtain⟨p1,q1,rfl,-⟩:=id hv.regs;obtain⟨p2,q2,rfl,-⟩:=id hv.slots;obtain⟨p3,q3,rfl,-⟩:=id hv.list;obtain⟨n0,hn0⟩:∃n,c.sign.length=n:=⟨_,rfl⟩
 obtain⟨n1,hn1⟩:∃n,c.regs.length=n:=⟨_,rfl⟩
 obtain⟨n2,hn2⟩:∃n,c.slots.length=n:=⟨_,rfl⟩
 obtain⟨n3,hn3⟩:∃n,c.list.length=n:=⟨_,rfl⟩
 obtain⟨K,hK⟩:∃n,AP c.sign=n:=⟨_,rfl⟩
 rw[hn0,hK]at hSG;rw[hK,hn1,hn2,hn3]at hE;rw[hn1]at l1;rw[hn2]at l2;rw[hn3]at l3;rw[hn0,hn1,hn2,hn3];have HSG:Hid _:=hSG;clear hSG hn0 hn1 hn2 hn3 hK hv hk;rcases hE with⟨h1,rfl⟩|⟨rfl,h2,rfl⟩|⟨rfl,h2,h3,h4,rfl⟩
 ·have h1':(E==0)=false:=by simpa using h1
  have h1'':(E != 0)=true:=by simpa using h1
  exact Zbe
 ·by_cases h5:16384<n1
  ·have h6:(16384:Int)<(n1:Int):=oM;exact Zbe
  ·have h6:(n1:Int)<=16384:=oM;have h7:(32768:Int)<(n3:Int):=oM;clear h5;exact Zbe
 ·have h6:(n1:Int)<=16384:=oM;have h7:(n3:Int)<=32768:=oM;have h8:(4096:Int)<(n2:Int):=oM;exact Zbe
theorem Fm{α:Type}{f:α->List Value}{k bytes:Nat}{t e:TypeId}{z:Value}{i:TypeInfo}(hk:0<k)(hf:∀x,(f x).length=k)(h1:∀x,∀u∈f x,u.oneCell'=true)(ht:prog.underlying t=some (.slice e))(hi:prog.info? e=some i)(hz:i.zero=some z)(hsize:i.size=k)(hby:i.bytes=bytes)(hzs:z.cells.size=k)
 {l:List α} {p:Option Addr} {d:Nat} {w:World} (h:B6 k f w (.slice p l.length d) l) (hl:l.length<=maxLen) (hb:l.length*bytes<=140737488355328) (ty:TypeId):
 ∃p' c' w',(Builtin.append_ #[t,t] ty #[.slice (some ⟨w.heap.size,0,none⟩) 0 0,.slice p l.length d]).run prog (w.alloc (.cells #[] e))=.ok (.slice p' l.length c') w'/\Below w.heap.size w w'/\BH (fun b=>b<w.heap.size) k f w' (.slice p' l.length c') l/\w'.ownsRow w.heap.size e k (.slice p' l.length c') l.length (AJ f l):=by
 have hown0:(w.alloc (.cells #[] e)).ownsRow w.heap.size e k (.slice (some ⟨w.heap.size,0,none⟩) 0 0) 0 []:=⟨sM,.inr ⟨w.heap.size,0,#[],rfl,Nat.le_refl _,heap_alloc_new w _,Nat.le_refl _,mL,sM,sM⟩⟩
 by_cases h0:l=[]
 ·subst h0;refine⟨some ⟨w.heap.size,0,none⟩,0,w.alloc (.cells #[] e),?_,A0 _ _,⟨_,_,rfl,.inl rfl⟩,by simpa[AJ]using hown0⟩;exact Zdg
 ·have h':=h.below (A0 w (.cells #[] e));obtain⟨p',c',hv,h2⟩:=h';simp only[Value.slice.injEq]at hv;obtain⟨rfl,-,rfl⟩:=hv;obtain⟨b,o,rfl,h3⟩:=h2.resolve_left h0;clear h2;have hpos:0<l.length:=List.length_pos_iff.2 h0;obtain⟨g,cap,w',hr,hown,hg,hat,hlt⟩:=run_append_lies (P:=prog) (w.alloc (.cells #[] e)) t ty w.heap.size e i z k bytes ht hi hz hsize hby hzs hk (.slice (some ⟨w.heap.size,0,none⟩) 0 0) 0 [] hown0 ⟨b,o,none⟩ l.length d (AJ f l) (EC hf l) (Ko hk hf h3) Zgt hpos oM (by rw[Nat.zero_add];exact hb) sM _ rfl;rw[Nat.zero_add]at hr hown;rw[List.nil_append]at hown;have hgb:∀g',(Value.slice (some ⟨g,0,none⟩) l.length cap).ownBlock=some g'->w.heap.size<=g':=fun g' e=>(hown.lt g' e).1;refine⟨_,cap,w',hr,⟨hg.os,hg.tape,hg.output,Nat.le_trans sM hg.size,fun j hj=>(hg.block j sO (by show some j≠some w.heap.size;simp;omega)).trans ((A0 w (.cells #[] e)).block j hj)⟩,?_,hown⟩;obtain⟨q,cc,hq,hrow⟩:=Ee hf hown;simp only[Value.slice.injEq]at hq;obtain⟨rfl,-,rfl⟩:=hq;refine⟨_,_,rfl,hrow.imp id fun⟨b',o',hp,hh⟩=>⟨b',o',hp,?_,?_,hh⟩⟩
  ·simp only[Option.some.injEq,Addr.mk.injEq]at hp;have:=hgb g rfl;omega
  ·simp only[Option.some.injEq,Addr.mk.injEq]at hp;have:=(hown.lt g rfl).2;omega
theorem QM(v:Value)(l:List BM)(w:World)(h:B6 3 AG w v l)(hl:l.length<=1000000):
 Calls prog 16 #[v] w fun e w'=>∃p c,e=.returned (.slice p l.length c)/\BH (fun b=>b<w.heap.size) 3 AG w' (.slice p l.length c) l/\w'.ownsRow w.heap.size 66 3 (.slice p l.length c) l.length (AJ AG l)/\Below w.heap.size w w':=by
 obtain⟨i0,hi0,hz0,hz1,hz2⟩:=info_parts IK;have hv:=h;obtain⟨p,c,rfl,hh⟩:=h;cases p with
 |none=>
  have hn:l=[]:=by
   exact ZZ
  subst hn;clear hh hv;have heq:∀ (w:World) (n:Nat),(binOp .eql 22 (.slice none n c) (.slice none 0 0)).run prog w=.ok (.bool true) w:=fun w n=>Go.run_eql_slice_nil w _ _ none n c underlying22;go_enter func16,ntmps16;exact ZX
 |some ad=>
  obtain⟨p',c',w',hr,hb,hrow,hown⟩:=Fm dE GF MK underlying22 hi0 hz0 hz1 hz2 rfl hv mL oM 22;have HF:Hid (BH (fun b=>b<w.heap.size) 3 AG w' (.slice p' l.length c') l/\w'.ownsRow w.heap.size 66 3 (.slice p' l.length c') l.length (AJ AG l)/\Below w.heap.size w w'):=⟨hrow,hown,hb⟩
  obtain⟨n,hn⟩:∃n,l.length=n:=⟨_,rfl⟩
  rw[hn]at hr HF ⊢;clear hh hv hb hrow hown hn;have heq:∀ (w:World),(binOp .eql 22 (.slice (some ad) n c) (.slice none 0 0)).run prog w=.ok (.bool false) w:=fun w=>Go.run_eql_slice_nil w _ _ (some ad) n c underlying22;go_enter func16,ntmps16;go_wp2_with(at_builtin;refine Av rfl _ _ 22 rfl _ _ _ rfl rfl hr ?_);go_ret;exact⟨p',c',rfl,HF.out⟩
theorem SS(v:Value)(l:List Ty)(w:World)(h:B6 2 Kw w v l)(hl:l.length<=1000000):
 Calls prog 17 #[v] w fun e w'=>∃p c,e=.returned (.slice p l.length c)/\BH (fun b=>b<w.heap.size) 2 Kw w' (.slice p l.length c) l/\w'.ownsRow w.heap.size 69 2 (.slice p l.length c) l.length (AJ Kw l)/\Below w.heap.size w w':=by
 obtain⟨i0,hi0,hz0,hz1,hz2⟩:=info_parts JY;have hv:=h;obtain⟨p,c,rfl,hh⟩:=h;cases p with
 |none=>
  have hn:l=[]:=by
   exact ZZ
  subst hn;clear hh hv;have heq:∀ (w:World) (n:Nat),(binOp .eql 23 (.slice none n c) (.slice none 0 0)).run prog w=.ok (.bool true) w:=fun w n=>Go.run_eql_slice_nil w _ _ none n c underlying23;go_enter func17,ntmps17;exact ZX
 |some ad=>
  obtain⟨p',c',w',hr,hb,hrow,hown⟩:=Fm dE GU Qs underlying23 hi0 hz0 hz1 hz2 rfl hv mL oM 23;have HF:Hid (BH (fun b=>b<w.heap.size) 2 Kw w' (.slice p' l.length c') l/\w'.ownsRow w.heap.size 69 2 (.slice p' l.length c') l.length (AJ Kw l)/\Below w.heap.size w w'):=⟨hrow,hown,hb⟩
  obtain⟨n,hn⟩:∃n,l.length=n:=⟨_,rfl⟩
  rw[hn]at hr HF ⊢;clear hh hv hb hrow hown hn;have heq:∀ (w:World),(binOp .eql 23 (.slice (some ad) n c) (.slice none 0 0)).run prog w=.ok (.bool false) w:=fun w=>Go.run_eql_slice_nil w _ _ (some ad) n c underlying23;go_enter func17,ntmps17;go_wp2_with(at_builtin;refine Av rfl _ _ 23 rfl _ _ _ rfl rfl hr ?_);go_ret;exact⟨p',c',rfl,HF.out⟩
theorem SR(v:Value)(l:List Sl)(w:World)(h:B6 5 Jk w v l)(hl:l.length<=1000000):
 Calls prog 18 #[v] w fun e w'=>∃p c,e=.returned (.slice p l.length c)/\BH (fun b=>b<w.heap.size) 5 Jk w' (.slice p l.length c) l/\w'.ownsRow w.heap.size 72 5 (.slice p l.length c) l.length (AJ Jk l)/\Below w.heap.size w w':=by
 obtain⟨i0,hi0,hz0,hz1,hz2⟩:=info_parts JX;have hv:=h;obtain⟨p,c,rfl,hh⟩:=h;cases p with
 |none=>
  have hn:l=[]:=by
   exact ZZ
  subst hn;clear hh hv;have heq:∀ (w:World) (n:Nat),(binOp .eql 24 (.slice none n c) (.slice none 0 0)).run prog w=.ok (.bool true) w:=fun w n=>Go.run_eql_slice_nil w _ _ none n c underlying24;go_enter func18,ntmps18;exact ZX
 |some ad=>
  obtain⟨p',c',w',hr,hb,hrow,hown⟩:=Fm dE Ir Qq underlying24 hi0 hz0 hz1 hz2 rfl hv mL oM 24;have HF:Hid (BH (fun b=>b<w.heap.size) 5 Jk w' (.slice p' l.length c') l/\w'.ownsRow w.heap.size 72 5 (.slice p' l.length c') l.length (AJ Jk l)/\Below w.heap.size w w'):=⟨hrow,hown,hb⟩
  obtain⟨n,hn⟩:∃n,l.length=n:=⟨_,rfl⟩
  rw[hn]at hr HF ⊢;clear hh hv hb hrow hown hn;have heq:∀ (w:World),(binOp .eql 24 (.slice (some ad) n c) (.slice none 0 0)).run prog w=.ok (.bool false) w:=fun w=>Go.run_eql_slice_nil w _ _ (some ad) n c underlying24;go_enter func18,ntmps18;go_wp2_with(at_builtin;refine Av rfl _ _ 24 rfl _ _ _ rfl rfl hr ?_);go_ret;exact⟨p',c',rfl,HF.out⟩
theorem QL(v:Value)(l:List At)(w:World)(h:B6 7 Dt w v l)(hl:l.length<=1000000):
 Calls prog 19 #[v] w fun e w'=>∃p c,e=.returned (.slice p l.length c)/\BH (fun b=>b<w.heap.size) 7 Dt w' (.slice p l.length c) l/\w'.ownsRow w.heap.size 45 7 (.slice p l.length c) l.length (AJ Dt l)/\Below w.heap.size w w':=by
 obtain⟨i0,hi0,hz0,hz1,hz2⟩:=info_parts JV;have hv:=h;obtain⟨p,c,rfl,hh⟩:=h;cases p with
 |none=>
  have hn:l=[]:=by
   exact ZZ
  subst hn;clear hh hv;have heq:∀ (w:World) (n:Nat),(binOp .eql 25 (.slice none n c) (.slice none 0 0)).run prog w=.ok (.bool true) w:=fun w n=>Go.run_eql_slice_nil w _ _ none n c underlying25;go_enter func19,ntmps19;exact ZX
 |some ad=>
  obtain⟨p',c',w',hr,hb,hrow,hown⟩:=Fm dE FJ PC underlying25 hi0 hz0 hz1 hz2 rfl hv mL oM 25;have HF:Hid (BH (fun b=>b<w.heap.size) 7 Dt w' (.slice p' l.length c') l/\w'.ownsRow w.heap.size 45 7 (.slice p' l.length c') l.length (AJ Dt l)/\Below w.heap.size w w'):=⟨hrow,hown,hb⟩
  obtain⟨n,hn⟩:∃n,l.length=n:=⟨_,rfl⟩
  rw[hn]at hr HF ⊢;clear hh hv hb hrow hown hn;have heq:∀ (w:World),(binOp .eql 25 (.slice (some ad) n c) (.slice none 0 0)).run prog w=.ok (.bool false) w:=fun w=>Go.run_eql_slice_nil w _ _ (some ad) n c underlying25;go_enter func19,ntmps19;go_wp2_with(at_builtin;refine Av rfl _ _ 25 rfl _ _ _ rfl rfl hr ?_);go_ret;exact⟨p',c',rfl,HF.out⟩
theorem XI(x:Int):(ON x).length=1:=rfl
theorem XJ:∀x:Int,∀u∈ON x,u.oneCell'=true:=fun x u hu=>by simp[ON]at hu;rw[hu];rfl
theorem Wo(v:Value)(l:List Int)(w:World)(h:B6 1 ON w v l)(hl:l.length<=1000000):
 Calls prog 30 #[v] w fun e w'=>∃p c,e=.returned (.slice p l.length c)/\BH (fun b=>b<w.heap.size) 1 ON w' (.slice p l.length c) l/\w'.ownsRow w.heap.size 43 1 (.slice p l.length c) l.length (AJ ON l)/\Below w.heap.size w w':=by
 obtain⟨i0,hi0,hz0,hz1,hz2⟩:=info_parts Tw;have hv:=h;obtain⟨p,c,rfl,hh⟩:=h;cases p with
 |none=>
  have hn:l=[]:=by
   exact ZZ
  subst hn;clear hh hv;have heq:∀ (w:World) (n:Nat),(binOp .eql 57 (.slice none n c) (.slice none 0 0)).run prog w=.ok (.bool true) w:=fun w n=>Go.run_eql_slice_nil w _ _ none n c underlying57;go_enter func30,ntmps30;exact ZX
 |some ad=>
  obtain⟨p',c',w',hr,hb,hrow,hown⟩:=Fm dE XI XJ underlying57 hi0 hz0 hz1 hz2 rfl hv mL oM 57;have HF:Hid (BH (fun b=>b<w.heap.size) 1 ON w' (.slice p' l.length c') l/\w'.ownsRow w.heap.size 43 1 (.slice p' l.length c') l.length (AJ ON l)/\Below w.heap.size w w'):=⟨hrow,hown,hb⟩
  obtain⟨n,hn⟩:∃n,l.length=n:=⟨_,rfl⟩
  rw[hn]at hr HF ⊢;clear hh hv hb hrow hown hn;have heq:∀ (w:World),(binOp .eql 57 (.slice (some ad) n c) (.slice none 0 0)).run prog w=.ok (.bool false) w:=fun w=>Go.run_eql_slice_nil w _ _ (some ad) n c underlying57;go_enter func30,ntmps30;go_wp2_with(at_builtin;refine Av rfl _ _ 57 rfl _ _ _ rfl rfl hr ?_);go_ret;exact⟨p',c',rfl,HF.out⟩
structure AF(T:Nat->Prop)(B:Nat)(w:World)(R:Nat)(a:Cn)(X:Nat->Value)(c:Cd)(l:List Hd):Prop where
 hS:T a.S
 hR:¬T R
 ltR:R<w.heap.size
 run:Aa w R 0 [.pointer (some ⟨a.C,0,none⟩),.slice a.sp c.slots.length a.sc]
 code:Ic T w a c
 slots:SA T w a X l
 len:l.length=c.slots.length
 ok:∀j (h:j<c.slots.length) (h':j<l.length),KU c c.slots[j].ty l[j]
 bR:B<=R
 bC:B<=a.C
 bS:B<=a.S
theorem AF.un{T U:Nat->Prop}{B:Nat}{w w':World}{R:Nat}{a:Cn}{X:Nat->Value}{c:Cd}{l:List Hd}(h:AF T B w R a X c l)(q:Un U w w')(hU:¬U a.S)(hu:∀b,b<w.heap.size->U b->T b):AF T B w' R a X c l:=
 ⟨h.hS,h.hR,Nat.lt_of_lt_of_le h.ltR q.size,h.run.of_block (q.block _ h.ltR fun e=>h.hR (hu _ h.ltR e)),h.code.un q hu,h.slots.un q hU hu,h.len,h.ok,h.bR,h.bC,h.bS⟩
theorem AF.below{T:Nat->Prop}{B:Nat}{w w':World}{R:Nat}{a:Cn}{X:Nat->Value}{c:Cd}{l:List Hd}(h:AF T B w R a X c l)(q:Below w.heap.size w w'):AF T B w' R a X c l:=h.un (U:=fun _=>False) (Un.of q) (fun e=>e) (fun _ _ e=>e.elim)
theorem AF.mono{T U:Nat->Prop}{B:Nat}{w:World}{R:Nat}{a:Cn}{X:Nat->Value}{c:Cd}{l:List Hd}(h:AF T B w R a X c l)(hS:U a.S)(hu:∀b,b<w.heap.size->U b->T b):AF U B w R a X c l:=
 ⟨hS,fun e=>h.hR (hu _ h.ltR e),h.ltR,h.run,h.code.mono hu,h.slots.mono hu,h.len,h.ok,h.bR,h.bC,h.bS⟩
theorem Ea{c:Cd}(h:(Au c).1=0):Good c/\Cy c ⟨[],[]⟩ c.list=true:=by
 obtain⟨h1,h2,_⟩:=JG.1 h;refine⟨?_,h2⟩;unfold Ch at h1;by_cases e1:AP c.sign=0
 ·rw[if_neg (by simp[e1])]at h1;by_cases e2:16384<c.regs.length\/32768<c.list.length
  ·rw[if_pos e2]at h1;cases h1
  ·rw[if_neg e2]at h1;by_cases e3:4096<c.slots.length
   ·rw[if_pos e3]at h1;cases h1
   ·rw[if_neg e3]at h1;by_cases e4:(Al c&&Bl c)=true
    ·simp only[Bool.and_eq_true]at e4;have e5:¬c.sign.length>64/\c.sign.all BI=true:=by
      unfold AP at e1;by_cases q1:c.sign.length>64
      ·rw[if_pos q1]at e1;cases e1
      ·rw[if_neg q1]at e1;refine⟨q1,?_⟩;cases q2:c.sign.all BI with
       |true=>rfl
       |false=>rw[if_pos q2]at e1;cases e1
     have hm:∀p∈c.sign,BI p=true:=List.all_eq_true.1 e5.2;refine⟨fun p hp=>?_,hm,List.all_eq_true.1 e4.1,List.all_eq_true.1 e4.2,oM,oM,oM,oM⟩;have:=hm p hp;unfold BI at this;simp only[Bool.and_eq_true,decide_eq_true_eq]at this;omega
    ·rw[if_neg e4]at h1;cases h1
 ·rw[if_pos e1]at h1;exact absurd h1 e1
theorem Iu{c:Cd}(hg:Good c){s:Sl}(hs:s∈c.slots)(hb:Af s.bits):KU c s.ty (AK c s):=by
 have hm:=hg.slots s hs;unfold AQ at hm;simp only[Bool.and_eq_true]at hm;have hb2:=hm.2;unfold Eo at hb2;refine⟨by unfold AK BV;simp,fun y hy=>?_,?_⟩
 ·unfold AK BV at hy;rw[List.eq_of_mem_replicate hy];exact CZ _ hb
 ·show 0<=s.int_/\s.int_<=2147483647;split at hb2
  ·unfold CJ at hb2;simp only[Bool.and_eq_true,decide_eq_true_eq,beq_iff_eq]at hb2;exact hb2.2
  ·simp only[Bool.and_eq_true,beq_iff_eq]at hb2;omega
theorem YV:(prog.info? 78).map (fun i=>(i.zero,i.size,i.bytes))=some (some (.agg #[.slice none 0 0,.int .i64 0]),2,32):=kR
theorem Z3(m:Nat)(h:m<=35184372088)(w:World):(Instr.makeSlice 74 (.int .i64 m) (.int .i64 m)).run prog w=.ok (.slice (some ⟨w.heap.size,0,none⟩) m m) (w.alloc (.cells (madeCells #[.slice none 0 0,.int .i64 0] (m*2)) 78)):=by
 obtain⟨i,hi,hz,hs,hb⟩:=info_parts YV;have hr:=run_make (P:=prog) w 74 78 i _ underlying74 hi hz .i64 .i64 m m oM (Int.le_refl _) (by rw[hb];omega) oM;exact Zfh
def JU(j:Nat):Value:=if j%2=0 then .slice none 0 0 else .int .i64 0
theorem row_H(w:World)(m:Nat):(w.alloc (.cells (madeCells #[.slice none 0 0,.int .i64 0] (m*2)) 78)).rowIs w.heap.size 78 (2*m) JU:=by
 have h:=World.rowIs_alloc w (madeCells #[.slice none 0 0,.int .i64 0] (m*2)) 78 JU (fun i hi=>by
  rw[size_madeCells]at hi;unfold madeCells;rw[Array.getElem?_map,Array.getElem?_range];simp[hi];unfold JU;have h2:i%2=0\/i%2=1:=oM
  rcases h2 with h|h<;>rw[h]<;>rfl)
 rw[size_madeCells]at h;rw[Nat.mul_comm 2 m];exact h
theorem FS{c:Cd}{k:Nat}(h:k<(Ba c).length)(h':k<c.slots.length):(Ba c)[k]=AK c c.slots[k]:=by simp[Ba]
def Wb(T:Nat->Prop)(w:World)(S m:Nat)(c:Cd)(j:Nat):Prop:=
 ∃X,w.rowIs S 78 (2*m) X/\∀k (h:k<c.slots.length),k<j->X (2*k+1)=.int .i64 c.slots[k].int_/\Pt T w (X (2*k)) (BV c c.slots[k].ty c.slots[k].bits)
theorem PK(v0 v1 v2 v3:Value)(c:Cd)(hk:B5 c)(w:World)(hv:D8 w v0 v1 v2 v3 c)(hc:(Au c).1≠0):
 Calls prog 6 #[.agg #[v0,v1,v2,v3]] w fun e w'=>e=.returned (.tuple #[.pointer none,.int .i64 (Au c).1])/\Below w.heap.size w w':=by
 have KC:Hid (∀v,Below w.heap.size w v->Calls prog 15 #[.agg #[v0,v1,v2,v3]] v fun e w'=>e=.returned (.tuple #[.int .i64 (Au c).1,.int .i64 (Au c).2])/\Below v.heap.size v w'):=fun v hvv=>JH v0 v1 v2 v3 c hk v (hv.below hvv);obtain⟨e1,he1⟩:∃e1,(Au c).1=e1:=⟨_,rfl⟩
 obtain⟨e2,he2⟩:∃e2,(Au c).2=e2:=⟨_,rfl⟩
 rw[he1]at hc KC ⊢;rw[he2]at KC;have n1:(e1 != 0)=true:=by simpa using hc
 have n2:(e1==0)=false:=by simpa using hc
 obtain⟨p0,q0,rfl⟩:∃p q,v0=.slice p c.sign.length q:=by obtain⟨p,q,e,_⟩:=hv.sign;exact⟨p,q,e⟩
 obtain⟨p1,q1,rfl⟩:∃p q,v1=.slice p c.regs.length q:=by obtain⟨p,q,e,_⟩:=hv.regs;exact⟨p,q,e⟩
 obtain⟨p2,q2,rfl⟩:∃p q,v2=.slice p c.slots.length q:=by obtain⟨p,q,e,_⟩:=hv.slots;exact⟨p,q,e⟩
 obtain⟨p3,q3,rfl⟩:∃p q,v3=.slice p c.list.length q:=by obtain⟨p,q,e,_⟩:=hv.list;exact⟨p,q,e⟩
 clear hv hk he1 he2;go_enter func6,ntmps6;go_wp2_with(go_at_call 15;refine(KC.out _ (A0 _ _)).mono ?_;rintro e w1 ⟨rfl,hb1⟩);go_returns;exact⟨rfl,bel (A0 _ _) hb1⟩
theorem Rq(v0 v1 v2 v3:Value)(c:Cd)(hk:B5 c)(w:World)(hv:D8 w v0 v1 v2 v3 c)(hc:(Au c).1=0):
 Calls prog 6 #[.agg #[v0,v1,v2,v3]] w fun e w'=>∃R a X,e=.returned (.tuple #[.pointer (some ⟨R,0,none⟩),.int .i64 0])/\AF (fun b=>b<w.heap.size\/b=a.S) w.heap.size w' R a X c (Ba c)/\Below w.heap.size w w'/\a.sp=some ⟨a.S,0,none⟩:=by
 obtain⟨hg,htk⟩:=Ea hc;have KC:Hid (∀v,Below w.heap.size w v->Calls prog 15 #[.agg #[v0,v1,v2,v3]] v fun e w'=>e=.returned (.tuple #[.int .i64 0,.int .i64 (Au c).2])/\Below v.heap.size v w'):=fun v hvv=>by have:=JH v0 v1 v2 v3 c hk v (hv.below hvv);rw[hc]at this;exact this
 obtain⟨e2,he2⟩:∃e2,(Au c).2=e2:=⟨_,rfl⟩
 rw[he2]at KC;have HG:Hid (Good c):=hg;have HBits:Hid (∀s∈c.slots,Af s.bits):=hk.sbits;have K0:Hid (∀v,Below w.heap.size w v->Calls prog 16 #[v0] v fun e w'=>∃p d,e=.returned (.slice p c.sign.length d)/\BH (fun b=>b<v.heap.size) 3 AG w' (.slice p c.sign.length d) c.sign/\Below v.heap.size v w'):=fun v hvv=>(QM v0 c.sign v (hv.sign.below hvv) (by have:=hg.signL;omega)).mono fun e w' ⟨p,d,h1,h2,_,h3⟩=>⟨p,d,h1,h2,h3⟩
 have K1:Hid (∀v,Below w.heap.size w v->Calls prog 17 #[v1] v fun e w'=>∃p d,e=.returned (.slice p c.regs.length d)/\BH (fun b=>b<v.heap.size) 2 Kw w' (.slice p c.regs.length d) c.regs/\Below v.heap.size v w'):=fun v hvv=>(SS v1 c.regs v (hv.regs.below hvv) (by have:=hg.regsL;omega)).mono fun e w' ⟨p,d,h1,h2,_,h3⟩=>⟨p,d,h1,h2,h3⟩
 have K2:Hid (∀v,Below w.heap.size w v->Calls prog 18 #[v2] v fun e w'=>∃p d,e=.returned (.slice p c.slots.length d)/\BH (fun b=>b<v.heap.size) 5 Jk w' (.slice p c.slots.length d) c.slots/\Below v.heap.size v w'):=fun v hvv=>(SR v2 c.slots v (hv.slots.below hvv) (by have:=hg.slotsL;omega)).mono fun e w' ⟨p,d,h1,h2,_,h3⟩=>⟨p,d,h1,h2,h3⟩
 have K3:Hid (∀v,Below w.heap.size w v->Calls prog 19 #[v3] v fun e w'=>∃p d,e=.returned (.slice p c.list.length d)/\BH (fun b=>b<v.heap.size) 7 Dt w' (.slice p c.list.length d) c.list/\Below v.heap.size v w'):=fun v hvv=>(QL v3 c.list v (hv.list.below hvv) (by have:=hg.listL;omega)).mono fun e w' ⟨p,d,h1,h2,_,h3⟩=>⟨p,d,h1,h2,h3⟩
 obtain⟨p0,q0,rfl⟩:∃p q,v0=.slice p c.sign.length q:=by obtain⟨p,q,e,_⟩:=hv.sign;exact⟨p,q,e⟩
 obtain⟨p1,q1,rfl⟩:∃p q,v1=.slice p c.regs.length q:=by obtain⟨p,q,e,_⟩:=hv.regs;exact⟨p,q,e⟩
 obtain⟨p2,q2,rfl⟩:∃p q,v2=.slice p c.slots.length q:=by obtain⟨p,q,e,_⟩:=hv.slots;exact⟨p,q,e⟩
 obtain⟨p3,q3,rfl⟩:∃p q,v3=.slice p c.list.length q:=by obtain⟨p,q,e,_⟩:=hv.list;exact⟨p,q,e⟩
 have hm4:=hg.slotsL;obtain⟨N0,hN0⟩:∃N,c.sign.length=N:=⟨_,rfl⟩
 obtain⟨N1,hN1⟩:∃N,c.regs.length=N:=⟨_,rfl⟩
 obtain⟨N2,hN2⟩:∃N,c.slots.length=N:=⟨_,rfl⟩
 obtain⟨N3,hN3⟩:∃N,c.list.length=N:=⟨_,rfl⟩
 simp only[hN0,hN1,hN2,hN3]at KC K0 K1 K2 K3 hm4 ⊢;have HN:Hid (c.sign.length=N0/\c.regs.length=N1/\c.slots.length=N2/\c.list.length=N3):=⟨hN0,hN1,hN2,hN3⟩
 have hmk:=Z3 N2 oM;clear hv hk he2 hg htk hc hN0 hN1 hN2 hN3;have HBox:Hid (∀v,Below (w.alloc (.cells #[.slice p0 N0 q0,.slice p1 N1 q1,.slice p2 N2 q2,.slice p3 N3 q3] 27)).heap.size (w.alloc (.cells #[.slice p0 N0 q0,.slice p1 N1 q1,.slice p2 N2 q2,.slice p3 N3 q3] 27)) v->v.cell? ⟨w.heap.size,0,none⟩=some (.slice p0 N0 q0)/\v.cell? ⟨w.heap.size,1,none⟩=some (.slice p1 N1 q1)/\v.cell? ⟨w.heap.size,2,none⟩=some (.slice p2 N2 q2)/\v.cell? ⟨w.heap.size,3,none⟩=some (.slice p3 N3 q3)):=fun v hvv=>⟨kc hvv sG,kc hvv sG,kc hvv sG,kc hvv sG⟩
 go_enter func6,ntmps6;go_wp2_with(go_at_call 15;refine(KC.out _ (A0 _ _)).mono ?_;rintro e w1 ⟨rfl,hb1⟩;have HB1:=Ac hb1;obtain⟨b0,b1,b2,b3⟩:=HBox.out w1 hb1;clear hb1);refine rG (fun v=>v.cell? ⟨w.heap.size,0,none⟩=some (.slice p0 N0 q0)/\v.cell? ⟨w.heap.size,1,none⟩=some (.slice p1 N1 q1)/\v.cell? ⟨w.heap.size,2,none⟩=some (.slice p2 N2 q2)/\v.cell? ⟨w.heap.size,3,none⟩=some (.slice p3 N3 q3)) fun hHeld=>?_;refine Tf 0 1 3 4 6 7 ?_;refine Tb 9 10 ?_;clear hHeld;refine Ap 2 fun K hK=>?_;go_simp;(go_at_call 16;refine(K0.out _ (bel (A0 _ _) (bel HB1.out (A4 _)))).mono ?_;rintro e u1 ⟨s0,d0,rfl,hr0,hb2⟩;have HR0:=Ac hr0;have HU1:Hid (Below w1.heap.size w1 u1):=bel (A4 _) hb2;obtain⟨b0,b1,b2,b3⟩:=HBox.out u1 (bel HB1.out HU1.out);clear hr0 hb2);try(go_wp2_with fail)
 refine Ao hK fun hHeld=>?_;clear hK K;clear hHeld;refine Ap 5 fun K hK=>?_;go_simp;(go_at_call 17;refine(K1.out _ (bel (A0 _ _) (bel HB1.out HU1.out))).mono ?_;rintro e u2 ⟨s1,d1,rfl,hr1,hb2⟩;have HR1:=Ac hr1;have HU2:=Ac hb2;obtain⟨b0,b1,b2,b3⟩:=HBox.out u2 (bel HB1.out (bel HU1.out HU2.out));clear hr1 hb2);try(go_wp2_with fail)
 refine Ao hK fun hHeld=>?_;clear hK K;clear hHeld;refine Ap 8 fun K hK=>?_;go_simp;(go_at_call 18;refine(K2.out _ (bel (A0 _ _) (bel HB1.out (bel HU1.out HU2.out)))).mono ?_;rintro e u3 ⟨s2,d2,rfl,hr2,hb2⟩;have HR2:=Ac hr2;have HU3:=Ac hb2;obtain⟨b0,b1,b2,b3⟩:=HBox.out u3 (bel HB1.out (bel HU1.out (bel HU2.out HU3.out)));clear hr2 hb2);try(go_wp2_with fail)
 refine Ao hK fun hHeld=>?_;clear hK K;clear hHeld;refine Ap 11 fun K hK=>?_;go_simp;(go_at_call 19;refine(K3.out _ (bel (A0 _ _) (bel HB1.out (bel HU1.out (bel HU2.out HU3.out))))).mono ?_;rintro e u4 ⟨s3,d3,rfl,hr3,hb2⟩;have HR3:=Ac hr3;have HU4:=Ac hb2;obtain⟨b0,b1,b2,b3⟩:=HBox.out u4 (bel HB1.out (bel HU1.out (bel HU2.out (bel HU3.out HU4.out))));clear hr3 hb2);try(go_wp2_with fail)
 refine Ao hK fun hHeld=>?_;clear hK K;refine AN 12 ?_;clear hHeld;refine Ap 13 fun K hK=>?_;go_simp;refine Ao hK fun hHeld=>?_;clear hK K;refine AN 14 ?_;refine wpAnyH_done kR ?_ _;obtain⟨W2,hW2⟩:∃W2,u4.alloc (.cells #[.slice s0 N0 d0,.slice s1 N1 d1,.slice s2 N2 d2,.slice s3 N3 d3] 27)=W2:=⟨_,rfl⟩
 have hbW2:Below u4.heap.size u4 W2:=by rw[←hW2];exact A0 _ _
 have HszW2:Hid (W2.heap.size=u4.heap.size+1):=by rw[←hW2];simp[Hid]
 have HCell:Hid (Aa W2 u4.heap.size 0 [.slice s0 N0 d0,.slice s1 N1 d1,.slice s2 N2 d2,.slice s3 N3 d3]):=by
  intro j hj;have hj':j<4:=hj;obtain rfl|rfl|rfl|rfl:j=0\/j=1\/j=2\/j=3:=oM
  all_goals(rw[←hW2];simp[go_sem])
 rw[hW2];clear hW2 hHeld;have hBU:Below w.heap.size w W2:=bel (A0 _ _) (bel HB1.out (bel HU1.out (bel HU2.out (bel HU3.out (bel HU4.out hbW2)))));have hC9:w.heap.size<=u4.heap.size:=(bel (A0 _ _) (bel HB1.out (bel HU1.out (bel HU2.out (bel HU3.out HU4.out))))).size;have l1:w.heap.size<=w1.heap.size:=(bel (A0 _ _) HB1.out).size;have l2:=HU1.out.size;have l3:=HU2.out.size;have l4:=HU3.out.size;have l5:=HU4.out.size;have HCD:Hid (∀S,u4.heap.size<S->∀K sc,Ic (fun b=>b<w.heap.size\/b=S) W2 ⟨u4.heap.size,S,0,0,0,0,0,K,fun _=>0,some ⟨S,0,none⟩,sc,.slice s0 N0 d0,.slice s1 N1 d1,.slice s2 N2 d2,.slice s3 N3 d3,.int .i64 0,.int .i64 0⟩ c):=by
  intro S hS K sc;obtain⟨e0,e1,e2,e3⟩:=HN.out;refine⟨by show¬ (u4.heap.size<w.heap.size\/u4.heap.size=S);omega,by show u4.heap.size<W2.heap.size;have:=HszW2.out;omega,HCell.out,?_,?_,?_,?_⟩
  ·have:=HR0.out;rw[←e0]at this ⊢;refine BH.below ?_ (bel HU2.out (bel HU3.out (bel HU4.out hbW2)));exact this.mono fun b hb h=>by
    have hd:w1.drew.heap.size=w1.heap.size:=rfl;rcases h with h|h<;>omega
  ·have:=HR1.out;rw[←e1]at this ⊢;refine BH.below ?_ (bel HU3.out (bel HU4.out hbW2));exact this.mono fun b hb h=>by rcases h with h|h<;>omega
  ·have:=HR2.out;rw[←e2]at this ⊢;refine BH.below ?_ (bel HU4.out hbW2);exact this.mono fun b hb h=>by rcases h with h|h<;>omega
  ·have:=HR3.out;rw[←e3]at this ⊢;refine BH.below ?_ hbW2;exact this.mono fun b hb h=>by rcases h with h|h<;>omega
 have HBU:Hid (Below w.heap.size w W2):=hBU;have cc2:W2.cell? ⟨u4.heap.size,2,none⟩=some (.slice s2 N2 d2):=HCell.out.at 2 rfl;obtain⟨C,hC⟩:∃C,u4.heap.size=C:=⟨_,rfl⟩
 rw[hC]at HCD cc2 hC9 HszW2 ⊢;clear KC K0 K1 K2 K3 HBox HR0 HR1 HR2 HR3 HU1 HU2 HU3 HU4 HB1 b0 b1 b2 b3 hbW2 l1 l2 l3 l4 l5 HCell hBU hC;obtain⟨W3,hW3⟩:∃W3,W2.alloc (.cells (madeCells #[.slice none 0 0,.int .i64 0] (N2*2)) 78)=W3:=⟨_,rfl⟩
 obtain⟨S,hS⟩:∃S,W2.heap.size=S:=⟨_,rfl⟩
 have hmk2:=hmk W2;rw[hW3,hS]at hmk2;have hSC:S=C+1:=by rw[←hS];exact HszW2.out
 have HSC:Hid (S=C+1):=hSC;have hb3:Below W2.heap.size W2 W3:=by rw[←hW3];exact A0 _ _
 have hrow3:W3.rowIs S 78 (2*N2) JU:=by rw[←hW3,←hS];exact row_H W2 N2
 have hs3:W3.heap.size=S+1:=by rw[←hW3,←hS];simp
 obtain⟨R,hR⟩:∃R,W3.heap.size=R:=⟨_,rfl⟩
 have HRS:Hid (R=S+1):=by rw[←hR];exact hs3
 obtain⟨W4,hW4⟩:∃W4,W3.alloc (.cells #[.pointer (some ⟨C,0,none⟩),.slice (some ⟨S,0,none⟩) N2 N2] 76)=W4:=⟨_,rfl⟩
 have hb4:Below W3.heap.size W3 W4:=by rw[←hW4];exact A0 _ _
 have HCD4:Hid (Ic (fun b=>b<w.heap.size\/b=S) W4 ⟨C,S,0,0,0,0,0,N2,fun _=>0,some ⟨S,0,none⟩,N2,.slice s0 N0 d0,.slice s1 N1 d1,.slice s2 N2 d2,.slice s3 N3 d3,.int .i64 0,.int .i64 0⟩ c):=(HCD.out S oM N2 N2).below (bel hb3 hb4);have HRow4:Hid (W4.rowIs S 78 (2*N2) JU):=hrow3.of_block (hb4.block _ hrow3.lt);have HRun4:Hid (Aa W4 R 0 [.pointer (some ⟨C,0,none⟩),.slice (some ⟨S,0,none⟩) N2 N2]/\R<W4.heap.size):=by
  rw[←hW4,←hR];refine⟨fun j hj=>?_,sM⟩;have hj':j<2:=hj;obtain rfl|rfl:j=0\/j=1:=oM
  all_goals simp[go_sem]
 have HB4:Hid (Below w.heap.size w W4):=bel HBU.out (bel hb3 hb4);have z2:=kc (bel hb3 hb4) cc2;have HC9:Hid (w.heap.size<=C):=hC9;clear hmk hb3 hb4 hrow3 hs3 HCD hSC hC9 hS hW3 HszW2 HBU;go_wp2
 go_loopw [46] (fun iv wr=>∃j:Nat,j<=N2/\iv=.int .i64 j/\Hid (Un (fun b=>b=S) W4 wr/\Wb (fun b=>b<w.heap.size\/b=S) wr S N2 c j)) (fun iv _=>N2-(intOf iv).toNat)
 case atStart=>exact⟨0,Nat.zero_le _,rfl,Un.refl _ _,⟨JU,HRow4.out,fun k _ hk=>absurd hk (Nat.not_lt_zero _)⟩⟩
 case round=>
  clear z2 cc2 hmk2 hW4 hR;obtain⟨j,hj,rfl,HR⟩:=hrel;have hcd:=HCD4.out.un HR.out.1 (fun b _ e=>.inr e);have HSR:Hid (S≠R):=by rw[HRS.out];show S≠S+1;omega
  have hrr:Aa wr R 0 [.pointer (some ⟨C,0,none⟩),.slice (some ⟨S,0,none⟩) N2 N2]:=HRun4.out.1.of_block (HR.out.1.block R HRun4.out.2 (Ne.symm HSR.out));by_cases hlt:j<N2
  ·have hjc:j<c.slots.length:=by rw[HN.out.2.2.1];exact hlt
   obtain⟨q,cap,hq,hrow⟩:=hcd.slots;simp only[Value.slice.injEq]at hq;obtain⟨rfl,-,rfl⟩:=hq;rcases hrow with e|⟨sb,so,rfl,hnS,hsl,hcel⟩
   ·rw[e]at hjc;exact absurd hjc (Nat.not_lt_zero _)
   have hcj:=hcel j hjc;have hty:=HG.out.slotT (List.getElem_mem hjc);have hbit:=HBits.out _ (List.getElem_mem hjc);obtain⟨sj,hsj⟩:∃sj,c.slots[j]=sj:=⟨_,rfl⟩
   rw[hsj]at hcj hty hbit;have KB:∀v,Below wr.heap.size wr v->Calls prog 20 #[.pointer (some ⟨C,0,none⟩),Se sj] v fun e w'=>∃g,e=.returned (.agg #[.slice (some ⟨g,0,none⟩) (Ad c sj.ty) (Ad c sj.ty),.int .i64 sj.int_])/\v.heap.size<=g/\w'.rowIs g 43 (Ad c sj.ty) (fun _=>.int .u32 (canon sj.bits))/\Below v.heap.size v w':=fun v hv=>JD ⟨C,S,0,0,0,0,0,N2,fun _=>0,some ⟨S,0,none⟩,N2,.slice s0 N0 d0,.slice s1 N1 d1,.slice (some ⟨sb,so,none⟩) N2 d2,.slice s3 N3 d3,.int .i64 0,.int .i64 0⟩ c HG.out sj hbit v (hcd.below hv) hty;obtain⟨Wd,hWd⟩:∃Wd,Ad c sj.ty=Wd:=⟨_,rfl⟩
   have HFill:Hid (BV c sj.ty sj.bits=List.replicate Wd (canon sj.bits)):=by rw[←hWd];exact rfl
   rw[hWd]at KB;have HSJ:Hid (∀k (h:k<c.slots.length),k=j->c.slots[k]=sj):=fun k h e=>by subst e;exact hsj
   obtain⟨⟨tk,tp⟩,kp,bt,it⟩:=sj;unfold Se at KB;unfold Jk at hcj;simp only at KB hcj HFill hbit;have HKB:Hid (∀v,Below wr.heap.size wr v->Calls prog 20 #[.pointer (some ⟨C,0,none⟩),.agg #[.int .i64 tk,.int .i64 tp,.bool kp,.int .u32 bt,.int .i64 it]] v fun e w'=>∃g,e=.returned (.agg #[.slice (some ⟨g,0,none⟩) Wd Wd,.int .i64 it])/\v.heap.size<=g/\w'.rowIs g 43 Wd (fun _=>.int .u32 (canon bt))/\Below v.heap.size v w'):=KB;have y0:=hcj.at 0 (v:=.int .i64 tk) rfl;rw[Nat.add_zero]at y0;have y1:=hcj.at 1 (v:=.int .i64 tp) rfl;have y2:=hcj.at 2 (v:=.bool kp) rfl;have y3:=hcj.at 3 (v:=.int .u32 bt) rfl;have y4:=hcj.at 4 (v:=.int .i64 it) rfl;have r1:wr.cell? ⟨R,1,none⟩=some (.slice (some ⟨S,0,none⟩) N2 N2):=hrr.at 1 rfl;obtain⟨X,hX,hXk⟩:=HR.out.2;have HXX:Hid (wr.rowIs S 78 (2*N2) X/\∀k (h:k<c.slots.length),k<j->X (2*k+1)=.int .i64 c.slots[k].int_/\Pt (fun b=>b<w.heap.size\/b=S) wr (X (2*k)) (BV c c.slots[k].ty c.slots[k].bits)):=⟨hX,hXk⟩
   have x0:=hX.cell (i:=j*2) oM;have x1:=hX.cell (i:=j*2+1) oM;have x2:=hX.frozen (j*2);have x3:=hX.frozen (j*2+1);have sz:S<wr.heap.size:=hX.lt;have n1:S≠wr.heap.size:=oM;have n2:S≠R:=HSR.out;have szR:R<wr.heap.size:=Nat.lt_of_lt_of_le HRun4.out.2 HR.out.1.size;have n3:R≠wr.heap.size:=oM;obtain⟨V1,hV1⟩:∃V1,wr.alloc (.cells #[.int .i64 tk,.int .i64 tp,.bool kp,.int .u32 bt,.int .i64 it] 72)=V1:=⟨_,rfl⟩
   have HB5:Hid (Below wr.heap.size wr V1):=by rw[←hV1];exact A0 _ _
   have HC5:Hid (∀v,Below V1.heap.size V1 v->v.cell? ⟨R,1,none⟩=some (.slice (some ⟨S,0,none⟩) N2 N2)/\v.cell? ⟨wr.heap.size,0,none⟩=some (.int .i64 tk)/\v.cell? ⟨wr.heap.size,1,none⟩=some (.int .i64 tp)/\v.cell? ⟨wr.heap.size,2,none⟩=some (.bool kp)/\v.cell? ⟨wr.heap.size,3,none⟩=some (.int .u32 bt)/\v.cell? ⟨wr.heap.size,4,none⟩=some (.int .i64 it)/\v.cell? ⟨S,j*2,none⟩=some (X (j*2))/\v.cell? ⟨S,j*2+1,none⟩=some (X (j*2+1))/\v.frozen? ⟨S,j*2,none⟩=false/\v.frozen? ⟨S,j*2+1,none⟩=false):=by
    intro v hv;have hv2:=bel HB5.out hv;rw[←hV1]at hv;exact⟨kc hv2 r1,kc hv sG,kc hv sG,kc hv sG,kc hv sG,kc hv sG,kc hv2 x0,kc hv2 x1,kf hv2 x0 x2,kf hv2 x1 x3⟩
   have HP:Hid (Af bt):=hbit;have hszw:Hid (wr.heap.size<=V1.heap.size):=HB5.out.size;have HwS:Hid (w.heap.size<=S):=by have:=HC9.out;have:=HSC.out;show w.heap.size<=S;omega
   clear KB hWd hsj hcel hcj hrr hX hXk hcd hty hbit x0 x1 x2 x3 r1 hnS hsl;obtain⟨a0,a1,a2,a3,a4,a5,a6,a7,a8,a9⟩:=HC5.out V1 (B8 _);go_wp2;clear hV1;refine rG (fun v=>v.cell? ⟨R,1,none⟩=some (.slice (some ⟨S,0,none⟩) N2 N2)/\v.cell? ⟨wr.heap.size,0,none⟩=some (.int .i64 tk)/\v.cell? ⟨wr.heap.size,1,none⟩=some (.int .i64 tp)/\v.cell? ⟨wr.heap.size,2,none⟩=some (.bool kp)/\v.cell? ⟨wr.heap.size,3,none⟩=some (.int .u32 bt)/\v.cell? ⟨wr.heap.size,4,none⟩=some (.int .i64 it)) fun hHeld=>?_;refine Tf 0 1 2 3 4 5 ?_;refine AN 6 ?_;clear hHeld;refine Ap 7 fun K hK=>?_;go_simp;(go_at_call 20;refine(HKB.out _ (bel HB5.out (A4 _))).mono ?_;rintro e v2 ⟨g,rfl,hg2,hr2,hb6⟩;have HB6:Hid (Below V1.heap.size V1 v2):=bel (A4 _) hb6;have HR6:=Ac hr2;have HG6:Hid (V1.heap.size<=g):=hg2;obtain⟨a0,a1,a2,a3,a4,a5,a6,a7,a8,a9⟩:=HC5.out v2 HB6.out;clear hr2 hg2 hb6);try(go_wp2_with fail)
   refine Ao hK fun hHeld=>?_;clear hK K;refine AN 8 ?_;clear hHeld;refine Ap 9 fun K hK=>?_;go_simp;refine Ao hK fun hHeld=>?_;clear hK K;refine wpAnyH_done kR ?_ _;go_wp2;go_roundw
   case rel=>
    refine⟨j+1,oM,gN,?_⟩;have hB:=bel HB5.out HB6.out;have hU:Un (fun b=>b=S) wr ((v2.setCell ⟨S,j*2,none⟩ (.slice (some ⟨g,0,none⟩) Wd Wd)).setCell ⟨S,j*2+1,none⟩ (.int .i64 it)):=(((Un.of hB).setCell (p:=⟨S,j*2,none⟩) rF _).setCell (p:=⟨S,j*2+1,none⟩) rF _)
    refine⟨HR.out.1.trans hU,?_⟩;refine⟨fun k=>if k=j*2+1 then .int .i64 it else if k=j*2 then .slice (some ⟨g,0,none⟩) Wd Wd else X k,((HXX.out.1.of_block (hB.block _ HXX.out.1.lt)).set (j*2) _).set (j*2+1) _,fun k hk hk2=>?_⟩;by_cases e:k=j
    ·rw[HSJ.out k hk e];subst e;dsimp only;rw[if_pos oM,if_neg oM,if_pos oM];refine⟨rfl,?_⟩;show Pt _ _ _ (BV c ⟨tk,tp⟩ bt);rw[HFill.out];have hg7:=HG6.out;have hs7:=hszw.out;refine Pt.of_row ((HR6.out.setOther (by show g≠S;omega) _).setOther (by show g≠S;omega) _) (by show¬ (g<w.heap.size\/g=S);have:=HwS.out;omega) sM (fun i hi=>by unfold B7;simp[hi]) Wd
    ·obtain⟨h1,h2⟩:=HXX.out.2 k hk oM;dsimp only;rw[if_neg oM,if_neg oM,if_neg oM,if_neg oM];exact⟨h1,h2.un hU (fun b _ e=>.inr e)⟩
   case measure=>simp[intOf];omega
  ·have hjN:j=N2:=oM;subst hjN;have HCDr:=Ac hcd;have HRR:=Ac hrr;clear hcd hrr;go_wp2;go_returns;obtain⟨X,hX,hXk⟩:=HR.out.2;have hCw:=HC9.out;have hSw:=HSC.out;have hRw:=HRS.out;have e2:=HN.out.2.2.1;refine⟨R,⟨C,S,0,0,0,0,0,j,fun _=>0,some ⟨S,0,none⟩,j,.slice s0 N0 d0,.slice s1 N1 d1,.slice s2 j d2,.slice s3 N3 d3,.int .i64 0,.int .i64 0⟩,X,rfl,?_,HB4.out.trans (HR.out.1.below HB4.out.size (fun b e=>by omega)),rfl⟩;refine⟨.inr rfl,?_,Nat.lt_of_lt_of_le HRun4.out.2 HR.out.1.size,?_,HCDr.out,⟨hX,.inr rfl,?_,fun k hk=>?_,fun k hk=>?_⟩,?_,fun k h h'=>?_,?_,hCw,?_⟩
   ·show¬ (R<w.heap.size\/R=S);omega
   ·rw[e2];exact HRR.out
   ·show(Ba c).length<=j;unfold Ba;rw[List.length_map];omega
   ·have hk':k<c.slots.length:=by unfold Ba at hk;rw[List.length_map]at hk;exact hk
    rw[(hXk k hk' oM).1];rw[FS hk hk'];rfl
   ·have hk':k<c.slots.length:=by unfold Ba at hk;rw[List.length_map]at hk;exact hk
    have:=(hXk k hk' oM).2;rw[FS hk hk'];exact this
   ·unfold Ba;rw[List.length_map]
   ·rw[FS h' h];exact Iu HG.out (List.getElem_mem h) (HBits.out _ (List.getElem_mem h))
   ·show w.heap.size<=R;omega
   ·show w.heap.size<=S;omega
theorem MG(v0 v1 v2 v3:Value)(c:Cd)(hk:B5 c)(w:World)(hv:D8 w v0 v1 v2 v3 c)(hc:(Au c).1=0):
 Calls prog 6 #[.agg #[v0,v1,v2,v3]] w fun e w'=>∃R a X,e=.returned (.tuple #[.pointer (some ⟨R,0,none⟩),.int .i64 0])/\AF (fun b=>b<w.heap.size\/b=a.S) w.heap.size w' R a X c (Ba c)/\Below w.heap.size w w':=
 (Rq v0 v1 v2 v3 c hk w hv hc).mono fun _ _ ⟨R,a,X,h1,h2,h3,_⟩=>⟨R,a,X,h1,h2,h3⟩
end Go.Proofs.YtbinohkcolcbfaaGreat
