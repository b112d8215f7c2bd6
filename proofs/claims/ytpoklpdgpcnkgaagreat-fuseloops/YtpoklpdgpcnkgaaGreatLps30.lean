import Derived.Test.YtpoklpdgpcnkgaaGreatLps28
import Derived.Test.YtpoklpdgpcnkgaaGreatLps11
import Derived.Test.YtpoklpdgpcnkgaaGreatLps18
import Derived.Deep.DeepCutAuto
import Derived.Test.YtpoklpdgpcnkgaaGreatLps1
import Derived.Test.YtpoklpdgpcnkgaaGreatLps9
namespace Go.Proofs.YtpoklpdgpcnkgaaGreat
open Go.RowKit Go.Proofs.Tryz
set_option linter.all false
set_option maxRecDepth 100000
set_option maxHeartbeats 16000000
theorem Qv(l:List Aa)(i:Aa):Bj (l++[i])=Bj l+if i.op=36 then 1 else 0:=by
 rw[Fs];congr 1;unfold Bj;by_cases h:i.op=36
 .simp[h]
 .simp[h]
theorem We(l:List Aa):Bj l<=l.length:=List.length_filter_le ..
theorem OI(v0 v1 v2 v3:Value)(c:Cd)(hL:c.list.length<=40000)(w:World)(hv:Db w v0 v1 v2 v3 c):
 Calls prog 21 #[.agg #[v0,v1,v2,v3]] w fun e w'=>e=.returned (.int .i64 (Bj c.list:Int))/\Below w.heap.size w w':=by
 obtain⟨p3,q3,rfl⟩:∃p q,v3=.slice p c.list.length q:=by obtain⟨p,q,e,_⟩:=hv.list;exact⟨p,q,e⟩
 have HVL:=A6 hv.list;obtain⟨N,hN⟩:=gA (c.list.length)
 have HN:=A6 hN;simp only[hN]at hL HVL |-;obtain⟨W0,hW0⟩:∃W,w.alloc (.cells #[v0,v1,v2,.slice p3 N q3] 27)=W:=⟨_,rfl⟩
 have HB0:Hid (Below w.heap.size w W0):=by rw[<-hW0];exact A0 _ _
 have b3:W0.cell? ⟨w.heap.size,3,none⟩=some (.slice p3 N q3):=by rw[<-hW0];simp[go_sem]
 clear hv hN;go_enter func21,ntmps21;go_upto_region 2 with fail;try rw[hW0]
 clear hW0;go_wp2
 go_loopw [3,4] (fun nv iv wx=>∃k:Nat,k<=N/\iv=.int .i64 (k:Int)/\nv=.int .i64 (Bj (c.list.take k):Int)/\wx=W0) (fun _ iv _=>N-(intOf iv).toNat)
 case atStart=>exact⟨0,gI _,rfl,by rw[List.take_zero];rfl,rfl⟩
 case round=>
  obtain⟨k,hk,rfl,rfl,hwx⟩:=hrel;rw[hwx];clear hwx;by_cases hlt:k<N
  .have hkl:k<c.list.length:=by have:=HN.out;omega
   obtain⟨lb,lo,rfl,hcl⟩:=(HVL.below HB0.out).at hkl;have htk:=List.take_succ_eq_append_getElem hkl;have hle:Bj (c.list.take k)<=k:=gH (We _) Zgf;obtain⟨⟨op,d,a,b,e,n,z⟩,hi⟩:∃i,c.list[k]=i:=⟨_,rfl⟩
   rw[hi]at hcl htk;have hsn:=Qv (c.list.take k) ⟨op,d,a,b,e,n,z⟩;rw[<-htk]at hsn;simp only at hsn;have y0:=hcl.at 0 (v:=.int .i64 op) rfl;rw[Nat.add_zero]at y0;obtain⟨M,hM⟩:=gA (Bj (c.list.take k))
   rw[hM]at hsn hle |-;have HSN:=A6 hsn;have i1:(0:Int)<=(k:Int):=oM;have i2:(k:Int)<(N:Int):=oM;have wi:IntKind.i64.wrap ((k:Int)+1)=((k+1:Nat):Int):=by rw[IntKind.wrap_i64];omega
   have wm:IntKind.i64.wrap ((M:Int)+1)=((M+1:Nat):Int):=by rw[IntKind.wrap_i64];omega
   clear hcl hi htk hsn hM;by_cases o:op=36
   .subst o;go_wp2;go_roundw
    case rel=>exact⟨k+1,oM,gN,by rw[HSN.out,if_pos rfl];go_num,trivial⟩
    case measure=>simp[intOf];omega
   .have o1:(op==36)=false:=by simpa using o
    have HO:=A6 o;clear o;go_wp2;go_roundw
    case rel=>exact⟨k+1,oM,gN,by rw[HSN.out,if_neg HO.out];rfl,trivial⟩
    case measure=>simp[intOf];omega
  .have e9:¬ (k:Int)<(N:Int):=oM;have hke:k=c.list.length:=by have:=HN.out;omega
   have HQ:Hid (Bj (c.list.take k)=Bj c.list):=by show _=_;rw[hke,List.take_length]
   clear hlt hke;go_wp2;go_ret;exact⟨by rw[<-HQ.out];try rfl,HB0.out⟩
theorem Q0:∀ (l:List Aa) (k:Nat),l.length<=k-> -(k:Int)<=(l.foldl He (0,0)).1/\(l.foldl He (0,0)).1<=(k:Int)/\0<=(l.foldl He (0,0)).2/\(l.foldl He (0,0)).2<=(k:Int):=by
 refine fun l=>Dj (Q:=fun l=>∀ (k:Nat),l.length<=k-> -(k:Int)<=(l.foldl He (0,0)).1/\(l.foldl He (0,0)).1<=(k:Int)/\0<=(l.foldl He (0,0)).2/\(l.foldl He (0,0)).2<=(k:Int)) (fun k _=>⟨sM,sM,sM,sM⟩) (fun l i ih k hk=>?_) l;rw[List.length_append]at hk;simp only[List.length_cons,List.length_nil]at hk;obtain⟨h1,h2,h3,h4⟩:=ih (k-1) oM;rw[List.foldl_append];obtain⟨⟨n,m⟩,hx⟩:∃x,l.foldl He (0,0)=x:=⟨_,rfl⟩
 rw[hx]at h1 h2 h3 h4 |-;simp only[List.foldl_cons,List.foldl_nil];unfold He;simp only at h1 h2 h3 h4 |-;split
 .omega
 .split
  .omega
  .omega
theorem PY(v0 v1 v2 v3:Value)(c:Cd)(hL:c.list.length<=40000)(w:World)(hv:Db w v0 v1 v2 v3 c):
 Calls prog 18 #[.agg #[v0,v1,v2,v3]] w fun e w'=>e=.returned (.int .i64 (M2 c.list))/\Below w.heap.size w w':=by
 obtain⟨p3,q3,rfl⟩:∃p q,v3=.slice p c.list.length q:=by obtain⟨p,q,e,_⟩:=hv.list;exact⟨p,q,e⟩
 have HVL:=A6 hv.list;obtain⟨N,hN⟩:=gA (c.list.length)
 have HN:=A6 hN;simp only[hN]at hL HVL |-;obtain⟨W0,hW0⟩:∃W,w.alloc (.cells #[v0,v1,v2,.slice p3 N q3] 27)=W:=⟨_,rfl⟩
 have HB0:Hid (Below w.heap.size w W0):=by rw[<-hW0];exact A0 _ _
 have b3:W0.cell? ⟨w.heap.size,3,none⟩=some (.slice p3 N q3):=by rw[<-hW0];simp[go_sem]
 clear hv hN;go_enter func18,ntmps18;go_upto_region 2 with fail;try rw[hW0]
 clear hW0;go_wp2
 go_loopw [3,4,5] (fun nv mv iv wx=>∃k:Nat,k<=N/\iv=.int .i64 (k:Int)/\nv=.int .i64 ((c.list.take k).foldl He (0,0)).1/\mv=.int .i64 ((c.list.take k).foldl He (0,0)).2/\wx=W0) (fun _ _ iv _=>N-(intOf iv).toNat)
 case atStart=>exact⟨0,gI _,rfl,by rw[List.take_zero];rfl,by rw[List.take_zero];rfl,rfl⟩
 case round=>
  obtain⟨k,hk,rfl,rfl,rfl,hwx⟩:=hrel;rw[hwx];clear hwx;by_cases hlt:k<N
  .have hkl:k<c.list.length:=by have:=HN.out;omega
   obtain⟨lb,lo,rfl,hcl⟩:=(HVL.below HB0.out).at hkl;have htk:=List.take_succ_eq_append_getElem hkl;obtain⟨hb1,hb2,hb3,hb4⟩:=Q0 (c.list.take k) k Zgf;obtain⟨⟨op,d,a,b,e,n,z⟩,hi⟩:∃i,c.list[k]=i:=⟨_,rfl⟩
   rw[hi]at hcl htk;have hsn:(c.list.take (k+1)).foldl He (0,0)=He ((c.list.take k).foldl He (0,0)) ⟨op,d,a,b,e,n,z⟩:=by rw[htk,List.foldl_append];rfl
   obtain⟨⟨D,M⟩,hx⟩:∃x,(c.list.take k).foldl He (0,0)=x:=⟨_,rfl⟩
   rw[hx]at hsn hb1 hb2 hb3 hb4 |-;have hsn:(c.list.take (k+1)).foldl He (0,0)=(if op=34 then D+1 else if op=35 then D-1 else D,max M (if op=34 then D+1 else if op=35 then D-1 else D)):=hsn;simp only at hb1 hb2 hb3 hb4 |-;have y0:=hcl.at 0 (v:=.int .i64 op) rfl;rw[Nat.add_zero]at y0;have i1:(0:Int)<=(k:Int):=oM;have i2:(k:Int)<(N:Int):=oM;have wi:IntKind.i64.wrap ((k:Int)+1)=((k+1:Nat):Int):=by rw[IntKind.wrap_i64];omega
   have wp:IntKind.i64.wrap (D+1)=D+1:=by rw[IntKind.wrap_i64];omega
   have wm:IntKind.i64.wrap (D-1)=D-1:=by rw[IntKind.wrap_i64];omega
   clear hcl hi htk hx;by_cases o:op=34
   .subst o;rw[if_pos rfl]at hsn;have HSN:=A6 hsn;clear hsn;rcases Int.le_total M (D+1)with q|q
    .have mx:max M (D+1)=D+1:=oM;exact Zcc
    .have mx:max M (D+1)=M:=oM;exact Zcc
   .rw[if_neg o]at hsn;have o1:(op==34)=false:=by simpa using o
    clear o;by_cases o':op=35
    .subst o';rw[if_pos rfl]at hsn;have HSN:=A6 hsn;clear hsn;exact Zcc
    .rw[if_neg o']at hsn;have o2:(op==35)=false:=by simpa using o'
     have HSN:=A6 hsn;clear hsn o';exact Zcc
  .have e9:¬ (k:Int)<(N:Int):=oM;have hke:k=c.list.length:=by have:=HN.out;omega
   have HQ:Hid (((c.list.take k).foldl He (0,0)).2=M2 c.list):=by show _=_;rw[hke,List.take_length];rfl
   clear hlt hke;go_wp2;go_ret;exact⟨by rw[<-HQ.out];try rfl,HB0.out⟩
theorem SV{c:Cd}{i:Aa}(ht:Ag c=true)(hi:Br c i):(0<=EU c.regs (E5 i))↔AW c i=true:=by
 have hM:AW c i=(AB i.op&&((Aj c.regs i (A3 i.op)).kind==3)):=rfl;cases hl:AB i.op with
 |false=>
  rw[hM,hl,Bool.false_and];have he:B4 i.op=false/\¬ (29<=i.op/\i.op<=33):=by
   unfold AB at hl;simp only[Bool.or_eq_false_iff,Bool.and_eq_false_iff,decide_eq_false_iff_not]at hl;exact⟨hl.2,fun q=>by omega⟩
  have e1:E5 i= -1:=by
   unfold E5;rw[he.1];have a1:(i.op==29)=false:=sO;have a2:(i.op==30)=false:=sO;have a3:(i.op==31)=false:=sO;have a4:(i.op==32)=false:=sO;have a5:(i.op==33)=false:=sO;simp[a1,a2,a3,a4,a5]
  rw[e1];unfold EU Ax;simp
 |true=>
  obtain⟨r,h1,h2,h3,h4⟩:=OH hi hl;have ol:=CZ (i:=i) hl;have e1:E5 i=(r:Int):=by
   unfold E5;by_cases o:i.op=31\/i.op=33
   .have ne:B4 i.op=false:=by rcases o with q|q<;>(rw[q];decide)
    have a1:(i.op==29)=false:=sO;have a2:(i.op==30)=false:=sO;have a4:(i.op==32)=false:=sO;have a5:(i.op==31||i.op==33)=true:=by simpa using o
    rw[ne,a1,a2,a4,a5];simp[h3 o]
   .have a1:(B4 i.op||(i.op==29||(i.op==30||i.op==32)))=true:=by
     unfold AB at hl;simp only[Bool.or_eq_true,Bool.and_eq_true,decide_eq_true_eq]at hl;simp only[Bool.or_eq_true,beq_iff_eq];rcases hl with q|q
     .omega
     .exact .inl q
    rw[if_pos a1];exact h4 o
  have e2:Aj c.regs i (A3 i.op)=A5 c.regs (r:Int):=by unfold Aj;rw[h2]
  have e3:Ax (r:Int) c.regs.length=true:=by unfold Ax;simp;omega
  rw[hM,hl,Bool.true_and,e1];unfold EU;rw[e3,Bool.true_and];cases hk:((A5 c.regs (r:Int)).kind==3)with
  |false=>rw[e2,hk];simp
  |true=>
   have hm:AW c i=true:=by rw[hM,hl,e2,hk];rfl
   obtain⟨m1,m2⟩:=Ft ht hi hm;rw[e2]at m1;rw[if_pos rfl,e2,m1];simp
theorem T6(c:Cd)(l:List Aa)(i:Aa):By c (l++[i])=By c l+if AW c i=true then 1 else 0:=by
 rw[Gj];congr 1;unfold By;cases h:AW c i<;>simp[h]
theorem Yy(c:Cd)(l:List Aa):By c l<=l.length:=List.length_filter_le ..
theorem PF(v0 v1 v2 v3:Value)(c:Cd)(hk:B7 c)(ht:Ag c=true)(hf:∀i∈c.list,Br c i)(hL:c.list.length<=40000)(w:World)(hv:Db w v0 v1 v2 v3 c):
 Calls prog 22 #[.agg #[v0,v1,v2,v3]] w fun e w'=>e=.returned (.int .i64 (By c c.list:Int))/\Below w.heap.size w w':=by
 have HVV:=A6 hv;have KV:=A6 (fun(i:Aa) (v:World) (hb:Below w.heap.size w v)=>GC v0 v1 v2 v3 c hk i v (hv.below hb));have HVM:=A6 (fun(i:Aa) (h:i∈c.list)=>SV ht (hf i h));obtain⟨p0,q0,rfl⟩:∃p q,v0=.slice p c.sign.length q:=by obtain⟨p,q,e,_⟩:=hv.sign;exact⟨p,q,e⟩
 obtain⟨p1,q1,rfl⟩:∃p q,v1=.slice p c.regs.length q:=by obtain⟨p,q,e,_⟩:=hv.regs;exact⟨p,q,e⟩
 obtain⟨p2,q2,rfl⟩:∃p q,v2=.slice p c.slots.length q:=by obtain⟨p,q,e,_⟩:=hv.slots;exact⟨p,q,e⟩
 obtain⟨p3,q3,rfl⟩:∃p q,v3=.slice p c.list.length q:=by obtain⟨p,q,e,_⟩:=hv.list;exact⟨p,q,e⟩
 obtain⟨N0,hN0⟩:∃N,c.sign.length=N:=⟨_,rfl⟩
 obtain⟨N1,hN1⟩:∃N,c.regs.length=N:=⟨_,rfl⟩
 obtain⟨N2,hN2⟩:∃N,c.slots.length=N:=⟨_,rfl⟩
 obtain⟨N,hN⟩:=gA (c.list.length)
 have HN:=A6 hN;simp only[hN0,hN1,hN2,hN]at hL HVV KV |-;obtain⟨W0,hW0⟩:∃W,w.alloc (.cells #[.slice p0 N0 q0,.slice p1 N1 q1,.slice p2 N2 q2,.slice p3 N q3] 27)=W:=⟨_,rfl⟩
 have HB0:Hid (Below w.heap.size w W0):=by rw[<-hW0];exact A0 _ _
 obtain⟨X,hX⟩:=gA (w.heap.size)
 have HXE:=A6 hX;have b0:W0.cell? ⟨X,0,none⟩=some (.slice p0 N0 q0):=by rw[<-hW0,<-hX];simp[go_sem]
 have b1:W0.cell? ⟨X,1,none⟩=some (.slice p1 N1 q1):=by rw[<-hW0,<-hX];simp[go_sem]
 have b2:W0.cell? ⟨X,2,none⟩=some (.slice p2 N2 q2):=by rw[<-hW0,<-hX];simp[go_sem]
 have b3:W0.cell? ⟨X,3,none⟩=some (.slice p3 N q3):=by rw[<-hW0,<-hX];simp[go_sem]
 have HCC:Hid (∀v,Below W0.heap.size W0 v->v.cell? ⟨X,0,none⟩=some (.slice p0 N0 q0)/\v.cell? ⟨X,1,none⟩=some (.slice p1 N1 q1)/\v.cell? ⟨X,2,none⟩=some (.slice p2 N2 q2)/\v.cell? ⟨X,3,none⟩=some (.slice p3 N q3)/\AX 7 CU v (.slice p3 N q3) c.list/\Below w.heap.size w v):=fun v hb=>⟨kc hb b0,kc hb b1,kc hb b2,kc hb b3,HVV.list.below (bel HB0.out hb),bel HB0.out hb⟩
 clear hv hN hN0 hN1 hN2 hk hf b0 b1 b2 b3 HVV;go_enter func22,ntmps22;go_upto_region 2 with fail;try rw[hW0]
 try rw[hX]
 clear hW0 hX;go_wp2
 go_loopw [3,4] (fun nv iv wx=>∃k:Nat,k<=N/\iv=.int .i64 (k:Int)/\nv=.int .i64 (By c (c.list.take k):Int)/\Hid (Below W0.heap.size W0 wx)) (fun _ iv _=>N-(intOf iv).toNat)
 case atStart=>exact⟨0,gI _,rfl,by rw[List.take_zero];rfl,BO _⟩
 case round=>
  rename World=>wa;obtain⟨k,hk,rfl,rfl,HJ⟩:=hrel;obtain⟨b0,b1,b2,b3,hrow,hbw⟩:=HCC.out wa HJ.out;by_cases hlt:k<N
  .have hkl:k<c.list.length:=by have:=HN.out;omega
   obtain⟨lb,lo,rfl,hcl⟩:=hrow.at hkl;have htk:=List.take_succ_eq_append_getElem hkl;have hle:By c (c.list.take k)<=k:=gH (Yy _ _) Zgf;have hvm:=HVM.out _ (gD hkl);have KVK:Hid (∀v,Below wa.heap.size wa v->Calls prog 38 #[.agg #[.slice p0 N0 q0,.slice p1 N1 q1,.slice p2 N2 q2,.slice (some ⟨lb,lo,none⟩) N q3],BS c.list[k]] v fun e w'=>e=.returned (.int .i64 (EU c.regs (E5 c.list[k])))/\Below v.heap.size v w'):=fun v hb=>KV.out c.list[k] v (bel hbw hb);have hsn:=T6 c (c.list.take k) c.list[k];rw[<-htk]at hsn;obtain⟨VR,hVR⟩:∃x,EU c.regs (E5 c.list[k])=x:=⟨_,rfl⟩
   rw[hVR]at hvm KVK;obtain⟨MB,hMB⟩:∃x,AW c c.list[k]=x:=⟨_,rfl⟩
   rw[hMB]at hvm hsn;obtain⟨⟨op,d,a,b,e,n,z⟩,hi⟩:∃i,c.list[k]=i:=⟨_,rfl⟩
   rw[hi]at hcl KVK;unfold BS at KVK;simp only at KVK;have HCL:=A6 hcl;have y0:=hcl.at 0 (v:=.int .i64 op) rfl;rw[Nat.add_zero]at y0;have y1:=hcl.at 1 (v:=.int .i64 d) rfl;have y2:=hcl.at 2 (v:=.int .i64 a) rfl;have y3:=hcl.at 3 (v:=.int .i64 b) rfl;have y4:=hcl.at 4 (v:=.int .i64 e) rfl;have y5:=hcl.at 5 (v:=.int .i64 n) rfl;have y6:=hcl.at 6 (v:=.int .u32 z) rfl;obtain⟨M,hM⟩:=gA (By c (c.list.take k))
   rw[hM]at hsn hle |-;have HSN:=A6 hsn;have i1:(0:Int)<=(k:Int):=oM;have i2:(k:Int)<(N:Int):=oM;have wi:IntKind.i64.wrap ((k:Int)+1)=((k+1:Nat):Int):=by rw[IntKind.wrap_i64];omega
   have wm:IntKind.i64.wrap ((M:Int)+1)=((M+1:Nat):Int):=by rw[IntKind.wrap_i64];omega
   clear hcl hi htk hsn hM hVR hMB hrow hbw;go_upto_region 5 with fail;refine rG (fun v=>v.cell? ⟨X,0,none⟩=some (.slice p0 N0 q0)/\v.cell? ⟨X,1,none⟩=some (.slice p1 N1 q1)/\v.cell? ⟨X,2,none⟩=some (.slice p2 N2 q2)/\v.cell? ⟨X,3,none⟩=some (.slice (some ⟨lb,lo,none⟩) N q3)/\v.cell? ⟨lb,lo+k*7,none⟩=some (.int .i64 op)/\v.cell? ⟨lb,lo+k*7+1,none⟩=some (.int .i64 d)/\v.cell? ⟨lb,lo+k*7+2,none⟩=some (.int .i64 a)/\v.cell? ⟨lb,lo+k*7+3,none⟩=some (.int .i64 b)/\v.cell? ⟨lb,lo+k*7+4,none⟩=some (.int .i64 e)/\v.cell? ⟨lb,lo+k*7+5,none⟩=some (.int .i64 n)/\v.cell? ⟨lb,lo+k*7+6,none⟩=some (.int .u32 z)) fun yH=>?_;refine Tf 0 1 2 3 4 5 ?_;clear yH;refine AJ 6 fun K hK=>?_;go_simp;(go_at_call 38;(with_reducible refine(KVK.out _ (AK _)).mono ?_);rintro e9 w4 ⟨rfl,hb4⟩;have hb44:Below wa.heap.size wa w4:=bel (AK _) hb4;have HB4:Hid (Below W0.heap.size W0 w4):=bel HJ.out hb44;obtain⟨c0,c1,c2,c3,-,-⟩:=HCC.out w4 HB4.out;have hk4:=HCL.out.below hb44;have m0:=hk4.at 0 (v:=.int .i64 op) rfl;rw[Nat.add_zero]at m0;have m1:=hk4.at 1 (v:=.int .i64 d) rfl;have m2:=hk4.at 2 (v:=.int .i64 a) rfl;have m3:=hk4.at 3 (v:=.int .i64 b) rfl;have m4:=hk4.at 4 (v:=.int .i64 e) rfl;have m5:=hk4.at 5 (v:=.int .i64 n) rfl;have m6:=hk4.at 6 (v:=.int .u32 z) rfl;clear hk4 hb4 hb44);try(go_wp2_with fail)
   refine AD hK fun yH=>?_;clear hK K;refine C5 7 ?_;refine wpAnyH_done kR ?_ _;cases MB with
   |true=>
    have t1:=hvm.2 rfl;have t2:VR≥0:=t1;clear hvm;go_wp2;go_roundw
    case rel=>exact⟨k+1,oM,gN,by rw[HSN.out,if_pos rfl];go_num,HB4.out⟩
    case measure=>simp[intOf];omega
   |false=>
    have t1:¬ (0:Int)<=VR:=fun h=>by have:=hvm.1 h;cases this
    have t2:¬VR≥0:=t1;clear hvm;go_wp2;go_roundw
    case rel=>exact⟨k+1,oM,gN,by rw[HSN.out,if_neg dE];rfl,HB4.out⟩
    case measure=>simp[intOf];omega
  .have e9:¬ (k:Int)<(N:Int):=oM;have hke:k=c.list.length:=by have:=HN.out;omega
   have HQ:Hid (By c (c.list.take k)=By c c.list):=by show _=_;rw[hke,List.take_length]
   exact Zej
theorem Ta(l:List Aa)(i:Aa):AF (l++[i])=if i.op=36\/i.op=37 then AF l else AF l++[i]:=by
 rw[Dh];by_cases h:i.op=36\/i.op=37
 .rw[if_pos h];have:CV i=true:=by unfold CV;simpa using h
  unfold AF;simp[this]
 .rw[if_neg h];have:CV i=false:=by unfold CV;simp;omega
  congr 1;unfold AF;simp[this]
theorem YI(l:List Aa):(AF l).length<=l.length:=List.length_filter_le ..
theorem PM(l:List Aa)(hL:l.length<=40000)(p:Option Addr)(q:Nat)(w:World)(hl:AX 7 CU w (.slice p l.length q) l):
 Calls prog 15 #[.slice p l.length q] w fun e w'=>∃p' q',e=.returned (.slice p' (AF l).length q')/\w'.ownsRow w.heap.size 45 7 (.slice p' (AF l).length q') (AF l).length (AE CU (AF l))/\Below w.heap.size w w':=by
 have HL:=A6 hl;obtain⟨N,hN⟩:=gA (l.length)
 have HN:=A6 hN;simp only[hN]at hL HL |-;obtain⟨E,hE⟩:=gA (w.heap.size)
 have HE:=A6 hE;rw[hE];clear hl hN hE;go_enter func15,ntmps15;go_wp2
 go_loopw [3,4] (fun ov iv wx=>∃ (k:Nat) (po:Option Addr) (qo:Nat),k<=N/\iv=.int .i64 (k:Int)/\ov=.slice po (AF (l.take k)).length qo/\Hid (Below E w wx/\E<=wx.heap.size/\wx.ownsRow E 45 7 (.slice po (AF (l.take k)).length qo) (AF (l.take k)).length (AE CU (AF (l.take k))))) (fun _ iv _=>N-(intOf iv).toNat)
 case atStart=>exact⟨0,none,0,gI _,rfl,by rw[List.take_zero];rfl,by rw[<-HE.out];exact BO _,by have:=HE.out;omega,by rw[List.take_zero];exact World.ownsRow_nil _ _ _ 7⟩
 case round=>
  rename World=>wa;obtain⟨k,po,qo,hk,rfl,rfl,HJ⟩:=hrel;obtain⟨hb,hle,hown⟩:=HJ.out;have hbw:Below w.heap.size w wa:=by rw[HE.out];exact hb
  by_cases hlt:k<N
  .have hkl:k<l.length:=by have:=HN.out;omega
   obtain⟨lb,lo,rfl,hcl⟩:=(HL.below hbw).at hkl;have htk:=List.take_succ_eq_append_getElem hkl;have hbl:(AF (l.take k)).length<=40000:=gH (YI _) Zgf;obtain⟨⟨op,d,a,b,e,n,z⟩,hi⟩:∃i,l[k]=i:=⟨_,rfl⟩
   rw[hi]at hcl htk;have hsn:=Ta (l.take k) ⟨op,d,a,b,e,n,z⟩;rw[<-htk]at hsn;simp only at hsn;have y0:=hcl.at 0 (v:=.int .i64 op) rfl;rw[Nat.add_zero]at y0;have y1:=hcl.at 1 (v:=.int .i64 d) rfl;have y2:=hcl.at 2 (v:=.int .i64 a) rfl;have y3:=hcl.at 3 (v:=.int .i64 b) rfl;have y4:=hcl.at 4 (v:=.int .i64 e) rfl;have y5:=hcl.at 5 (v:=.int .i64 n) rfl;have y6:=hcl.at 6 (v:=.int .u32 z) rfl;obtain⟨P,hP⟩:∃x,AF (l.take k)=x:=⟨_,rfl⟩
   rw[hP]at hsn hbl hown HJ |-;have i1:(0:Int)<=(k:Int):=oM;have i2:(k:Int)<(N:Int):=oM;have wi:IntKind.i64.wrap ((k:Int)+1)=((k+1:Nat):Int):=by rw[IntKind.wrap_i64];omega
   by_cases o:op=36\/op=37
   .rw[if_pos o]at hsn;have HSN:=A6 hsn;clear hcl hi htk hsn hP hb hle hown hbw;rcases o with o|o
    all_goals
     subst o;go_wp2;go_roundw
     case rel=>exact⟨k+1,po,qo,oM,gN,by rw[HSN.out],by rw[HSN.out];exact HJ.out⟩
     case measure=>simp[intOf];omega
   .rw[if_neg o]at hsn;have HSN:=A6 hsn;have o1:(op != 36)=true:=sO;have o2:(op != 37)=true:=sO;have o3:(op==36)=false:=sO;have o4:(op==37)=false:=sO;obtain⟨g,cq,w6,hr,hb6,ho6,hoth,hat⟩:=KK (t:=25) (e:=45) underlying25 Fq rF dE hown hle #[.int .i64 op,.int .i64 d,.int .i64 a,.int .i64 b,.int .i64 e,.int .i64 n,.int .u32 z] rfl Vf mL oM 25;have HR:=A6 hr;have HO6:Hid (Below E w w6/\E<=w6.heap.size/\w6.ownsRow E 45 7 (.slice (some ⟨g,0,none⟩) (AF (l.take (k+1))).length cq) (AF (l.take (k+1))).length (AE CU (AF (l.take (k+1))))):=by
     refine⟨hb.trans hb6,gH hle hb6.size,?_⟩;rw[HSN.out,List.length_append,show AE CU (P++[⟨op,d,a,b,e,n,z⟩])=AE CU P++[.int .i64 op,.int .i64 d,.int .i64 a,.int .i64 b,.int .i64 e,.int .i64 n,.int .u32 z] by simp[AE,CU]];exact ho6
    have HLN:Hid ((AF (l.take (k+1))).length=P.length+1):=by show _=_;rw[HSN.out,List.length_append];rfl
    clear hcl hi htk hsn hP hb hle hown hbw hr hb6 ho6 hoth hat o HJ;go_wp2_with(at_builtin;refine At rF _ _ _ rF _ _ _ rF rF HR.out ?_);go_roundw
    case rel=>exact⟨k+1,some ⟨g,0,none⟩,cq,oM,gN,by rw[HLN.out],HO6.out⟩
    case measure=>simp[intOf];omega
  .have e9:¬ (k:Int)<(N:Int):=oM;have hke:k=l.length:=by have:=HN.out;omega
   have HQ:Hid (AF (l.take k)=AF l):=by show _=_;rw[hke,List.take_length]
   clear hlt hke hb hle hown hbw;go_wp2;go_ret;exact⟨po,qo,by rw[<-HQ.out];try rfl,by rw[<-HQ.out];exact HJ.2.2,HJ.1⟩
theorem Zv(l:List Aa)(k:Nat)(hk:k<l.length):((l.take (k+1)).foldl Gv (0,false,-1)).2.1=(l[k].op==37):=by
 rw[List.take_succ_eq_append_getElem hk,List.foldl_append];simp only[List.foldl_cons,List.foldl_nil];unfold Gv;split
 .rename_i h;simp[h]
 .rfl
theorem nb_le:∀l:List Aa,(l.foldl Gv (0,false,-1)).1<=l.length:=by
 refine fun l=>Dj (Q:=fun l=>(l.foldl Gv (0,false,-1)).1<=l.length) sM (fun l i ih=>?_) l;rw[List.foldl_append,List.length_append];obtain⟨r,hx⟩:∃x,l.foldl Gv (0,false,-1)=x:=⟨_,rfl⟩
 rw[hx]at ih |-;simp only[List.foldl_cons,List.foldl_nil,List.length_cons,List.length_nil];have h9:(Gv r i).1<=r.1+1:=by
  unfold Gv;split
  .by_cases q:r.2.1=true/\r.2.2=i.n
   .rw[if_pos q];exact gF _
   .rw[if_neg q];exact Nat.le_succ _
  .exact Nat.le_succ _
 omega
theorem Wi(v0 v1 v2 v3:Value)(c:Cd)(hL:c.list.length<=40000)(w:World)(hv:Db w v0 v1 v2 v3 c):
 Calls prog 20 #[.agg #[v0,v1,v2,v3]] w fun e w'=>e=.returned (.int .i64 (nbN c.list:Int))/\Below w.heap.size w w':=by
 obtain⟨p3,q3,rfl⟩:∃p q,v3=.slice p c.list.length q:=by obtain⟨p,q,e,_⟩:=hv.list;exact⟨p,q,e⟩
 have HVL:=A6 hv.list;obtain⟨N,hN⟩:=gA (c.list.length)
 have HN:=A6 hN;simp only[hN]at hL HVL |-;obtain⟨W0,hW0⟩:∃W,w.alloc (.cells #[v0,v1,v2,.slice p3 N q3] 27)=W:=⟨_,rfl⟩
 have HB0:Hid (Below w.heap.size w W0):=by rw[<-hW0];exact A0 _ _
 obtain⟨X,hX⟩:=gA (w.heap.size)
 have HXE:=A6 hX;have b3:W0.cell? ⟨X,3,none⟩=some (.slice p3 N q3):=by rw[<-hW0,<-hX];simp[go_sem]
 have HCC:Hid (∀v,Below W0.heap.size W0 v->v.cell? ⟨X,3,none⟩=some (.slice p3 N q3)/\AX 7 CU v (.slice p3 N q3) c.list):=fun v hb=>⟨kc hb b3,HVL.below (bel HB0.out hb)⟩
 clear hv hN b3;go_enter func20,ntmps20;go_upto_region 3 with fail;try rw[hW0]
 try rw[hX]
 clear hW0 hX;go_wp2
 go_loopw [3,4,5] (fun nv lv iv wx=>∃k:Nat,k<=N/\iv=.int .i64 (k:Int)/\nv=.int .i64 (((c.list.take k).foldl Gv (0,false,-1)).1:Int)/\lv=.int .i64 ((c.list.take k).foldl Gv (0,false,-1)).2.2/\Hid (Below W0.heap.size W0 wx)) (fun _ _ iv _=>N-(intOf iv).toNat)
 case atStart=>exact⟨0,gI _,rfl,by rw[List.take_zero];rfl,by rw[List.take_zero];rfl,BO _⟩
 case round=>
  rename World=>wa;obtain⟨k,hk,rfl,rfl,rfl,HJ⟩:=hrel;obtain⟨b3,hrow⟩:=HCC.out wa HJ.out;by_cases hlt:k<N
  .have hkl:k<c.list.length:=by have:=HN.out;omega
   obtain⟨lb,lo,rfl,hcl⟩:=hrow.at hkl;have htk:=List.take_succ_eq_append_getElem hkl;have hle:((c.list.take k).foldl Gv (0,false,-1)).1<=k:=gH (nb_le _) Zgf;have hsn:(c.list.take (k+1)).foldl Gv (0,false,-1)=Gv ((c.list.take k).foldl Gv (0,false,-1)) c.list[k]:=by rw[htk,List.foldl_append];rfl
   have hpv:(k=0->((c.list.take k).foldl Gv (0,false,-1)).2.1=false)/\∀j (hj:j<c.list.length),k=j+1->((c.list.take k).foldl Gv (0,false,-1)).2.1=(c.list[j].op==37):=⟨fun e=>by rw[e,List.take_zero];rfl,fun j hj e=>by rw[e];exact Zv c.list j hj⟩
   obtain⟨⟨M,pb,la⟩,hM⟩:∃x,(c.list.take k).foldl Gv (0,false,-1)=x:=⟨_,rfl⟩
   rw[hM]at hsn hle hpv |-;simp only at hle hpv |-;have hsn:(c.list.take (k+1)).foldl Gv (0,false,-1)=if c.list[k].op=36 then(if pb=true/\la=c.list[k].n then M+1 else M,false,c.list[k].n)else(M,c.list[k].op==37,la):=hsn;obtain⟨⟨op,d,a,b,e,n,z⟩,hi⟩:∃i,c.list[k]=i:=⟨_,rfl⟩
   rw[hi]at hcl hsn;simp only at hsn;have y0:=hcl.at 0 (v:=.int .i64 op) rfl;rw[Nat.add_zero]at y0;have y1:=hcl.at 1 (v:=.int .i64 d) rfl;have y2:=hcl.at 2 (v:=.int .i64 a) rfl;have y3:=hcl.at 3 (v:=.int .i64 b) rfl;have y4:=hcl.at 4 (v:=.int .i64 e) rfl;have y5:=hcl.at 5 (v:=.int .i64 n) rfl;have y6:=hcl.at 6 (v:=.int .u32 z) rfl;obtain⟨V2,hV2⟩:∃V,wa.alloc (.cells #[.int .i64 op,.int .i64 d,.int .i64 a,.int .i64 b,.int .i64 e,.int .i64 n,.int .u32 z] 45)=V:=⟨_,rfl⟩
   have hbV:Below wa.heap.size wa V2:=by rw[<-hV2];exact A0 _ _
   have HBV:Hid (Below W0.heap.size W0 V2):=bel HJ.out hbV;have hX2:V2.rowIs wa.heap.size 45 7 (bxF op d a b e n z):=by rw[<-hV2];exact DJ wa _ _
   have x0:V2.cell? ⟨wa.heap.size,0,none⟩=some (.int .i64 op):=hX2.cell (i:=0) dE;have x5:V2.cell? ⟨wa.heap.size,5,none⟩=some (.int .i64 n):=hX2.cell (i:=5) dE;obtain⟨c3,hrow2⟩:=HCC.out V2 HBV.out;have i1:(0:Int)<=(k:Int):=oM;have i2:(k:Int)<(N:Int):=oM;have wi:IntKind.i64.wrap ((k:Int)+1)=((k+1:Nat):Int):=by rw[IntKind.wrap_i64];omega
   have wm:IntKind.i64.wrap ((M:Int)+1)=((M+1:Nat):Int):=by rw[IntKind.wrap_i64];omega
   have HPV:=A6 hpv;have HR2:=A6 hrow2;clear hcl hi htk hM hX2 hbV hrow hrow2 hpv HJ;go_upto_region 7 with fail;try rw[hV2]
   clear hV2 y0 y1 y2 y3 y4 y5 y6 b3;by_cases o:op=36
   .subst o;rw[if_pos rfl]at hsn;have HSN:=A6 hsn;clear hsn;cases k with
    |zero=>
     have hpb:=HPV.1 rfl;subst hpb;go_wp2;go_roundw
     case rel=>exact⟨0+1,oM,gN,by rw[HSN.out];simp,by rw[HSN.out],HBV.out⟩
     case measure=>simp[intOf];omega
    |succ j=>
     have hjl:j<c.list.length:=oM;have hpb:=HPV.2 j hjl rfl;obtain⟨lb',lo',e8,hcj⟩:=HR2.at hjl;simp only[Option.some.injEq,Addr.mk.injEq,and_true]at e8;obtain⟨rfl,rfl⟩:=e8;obtain⟨⟨op',d',a',b',e',n',z'⟩,hi'⟩:∃i,c.list[j]=i:=⟨_,rfl⟩
     rw[hi']at hcj hpb;simp only at hpb;have u0:=hcj.at 0 (v:=.int .i64 op') rfl;rw[Nat.add_zero]at u0;have g0:(0:Int)<((j+1:Nat):Int):=oM;have g1:((j+1:Nat):Int)>0:=oM;have g2:IntKind.i64.wrap (((j+1:Nat):Int)-1)=(j:Int):=by rw[IntKind.wrap_i64];omega
     have g3:IntKind.i64.wrap (j:Int)=(j:Int):=by rw[IntKind.wrap_i64];omega
     have g4:(0:Int)<=(j:Int):=oM;have g5:(j:Int)<(N:Int):=oM;clear hcj hi' HR2;by_cases q:op'=37
     .subst q;have hpt:pb=true:=by rw[hpb];rfl
      subst hpt;by_cases r:la=n
      .subst r;have r1:(la==la)=true:=sM;clear hpb;exact Zez
      .have r1:(la==n)=false:=by simpa using r
       have HR:=A6 r;clear hpb r;go_wp2;go_roundw
       case rel=>exact⟨j+1+1,oM,gN,by rw[HSN.out,if_neg (fun t=>HR.out t.2)],by rw[HSN.out],HBV.out⟩
       case measure=>simp[intOf];omega
     .have q1:(op'==37)=false:=by simpa using q
      have hpt:pb=false:=by rw[hpb];exact q1
      subst hpt;clear hpb q;exact Zez
   .rw[if_neg o]at hsn;have HSN:=A6 hsn;have o1:(op==36)=false:=by simpa using o
    have o2:(op != 36)=true:=by simpa using o
    clear hsn o HPV HR2;go_wp2;go_roundw
    case rel=>exact⟨k+1,oM,gN,by rw[HSN.out],by rw[HSN.out],HBV.out⟩
    case measure=>simp[intOf];omega
  .have e9:¬ (k:Int)<(N:Int):=oM;have hke:k=c.list.length:=by have:=HN.out;omega
   have HQ:Hid (((c.list.take k).foldl Gv (0,false,-1)).1=nbN c.list):=by show _=_;rw[hke,List.take_length];rfl
   have HBJ:=A6 HJ.out;clear hlt hke hrow HJ;go_wp2;go_ret;exact⟨by rw[<-HQ.out];try rfl,by have h9:=bel HB0.out HBJ.out;first|exact h9|(rw[HXE.out]at h9;exact h9)⟩
theorem Wf(c:Cd):∀l:List Aa,(l.foldl (Hg c) (0,false)).1<=l.length:=by
 refine fun l=>Dj (Q:=fun l=>(l.foldl (Hg c) (0,false)).1<=l.length) sM (fun l i ih=>?_) l;rw[List.foldl_append,List.length_append];obtain⟨⟨n,b⟩,hx⟩:∃x,l.foldl (Hg c) (0,false)=x:=⟨_,rfl⟩
 rw[hx]at ih |-;simp only[List.foldl_cons,List.foldl_nil,List.length_cons,List.length_nil]at ih |-;have h9:(Hg c (n,b) i).1<=n+1:=by
  unfold Hg;simp only;by_cases q:(if i.op=36 then true else if i.op=37 then false else b)=false/\AW c i=true
  .rw[if_pos q];exact gF _
  .rw[if_neg q];exact Nat.le_succ _
 omega
theorem OJ(v0 v1 v2 v3:Value)(c:Cd)(hk:B7 c)(ht:Ag c=true)(hf:∀i∈c.list,Br c i)(hL:c.list.length<=40000)(w:World)(hv:Db w v0 v1 v2 v3 c):
 Calls prog 19 #[.agg #[v0,v1,v2,v3]] w fun e w'=>e=.returned (.int .i64 (FK c c.list:Int))/\Below w.heap.size w w':=by
 have HVV:=A6 hv;have KV:=A6 (fun(i:Aa) (v:World) (hb:Below w.heap.size w v)=>GC v0 v1 v2 v3 c hk i v (hv.below hb));have HVM:=A6 (fun(i:Aa) (h:i∈c.list)=>SV ht (hf i h));obtain⟨p0,q0,rfl⟩:∃p q,v0=.slice p c.sign.length q:=by obtain⟨p,q,e,_⟩:=hv.sign;exact⟨p,q,e⟩
 obtain⟨p1,q1,rfl⟩:∃p q,v1=.slice p c.regs.length q:=by obtain⟨p,q,e,_⟩:=hv.regs;exact⟨p,q,e⟩
 obtain⟨p2,q2,rfl⟩:∃p q,v2=.slice p c.slots.length q:=by obtain⟨p,q,e,_⟩:=hv.slots;exact⟨p,q,e⟩
 obtain⟨p3,q3,rfl⟩:∃p q,v3=.slice p c.list.length q:=by obtain⟨p,q,e,_⟩:=hv.list;exact⟨p,q,e⟩
 obtain⟨N0,hN0⟩:∃N,c.sign.length=N:=⟨_,rfl⟩
 obtain⟨N1,hN1⟩:∃N,c.regs.length=N:=⟨_,rfl⟩
 obtain⟨N2,hN2⟩:∃N,c.slots.length=N:=⟨_,rfl⟩
 obtain⟨N,hN⟩:=gA (c.list.length)
 have HN:=A6 hN;simp only[hN0,hN1,hN2,hN]at hL HVV KV |-;obtain⟨W0,hW0⟩:∃W,w.alloc (.cells #[.slice p0 N0 q0,.slice p1 N1 q1,.slice p2 N2 q2,.slice p3 N q3] 27)=W:=⟨_,rfl⟩
 have HB0:Hid (Below w.heap.size w W0):=by rw[<-hW0];exact A0 _ _
 obtain⟨X,hX⟩:=gA (w.heap.size)
 have HXE:=A6 hX;have b0:W0.cell? ⟨X,0,none⟩=some (.slice p0 N0 q0):=by rw[<-hW0,<-hX];simp[go_sem]
 have b1:W0.cell? ⟨X,1,none⟩=some (.slice p1 N1 q1):=by rw[<-hW0,<-hX];simp[go_sem]
 have b2:W0.cell? ⟨X,2,none⟩=some (.slice p2 N2 q2):=by rw[<-hW0,<-hX];simp[go_sem]
 have b3:W0.cell? ⟨X,3,none⟩=some (.slice p3 N q3):=by rw[<-hW0,<-hX];simp[go_sem]
 have HCC:Hid (∀v,Below W0.heap.size W0 v->v.cell? ⟨X,0,none⟩=some (.slice p0 N0 q0)/\v.cell? ⟨X,1,none⟩=some (.slice p1 N1 q1)/\v.cell? ⟨X,2,none⟩=some (.slice p2 N2 q2)/\v.cell? ⟨X,3,none⟩=some (.slice p3 N q3)/\AX 7 CU v (.slice p3 N q3) c.list/\Below w.heap.size w v):=fun v hb=>⟨kc hb b0,kc hb b1,kc hb b2,kc hb b3,HVV.list.below (bel HB0.out hb),bel HB0.out hb⟩
 clear hv hN hN0 hN1 hN2 hk hf b0 b1 b2 b3 HVV;go_enter func19,ntmps19;go_upto_region 3 with fail;try rw[hW0]
 try rw[hX]
 clear hW0 hX;go_wp2
 go_loopw [3,4,5] (fun nv bv iv wx=>∃k:Nat,k<=N/\iv=.int .i64 (k:Int)/\nv=.int .i64 (((c.list.take k).foldl (Hg c) (0,false)).1:Int)/\bv=.bool ((c.list.take k).foldl (Hg c) (0,false)).2/\Hid (Below W0.heap.size W0 wx)) (fun _ _ iv _=>N-(intOf iv).toNat)
 case atStart=>exact⟨0,gI _,rfl,by rw[List.take_zero];rfl,by rw[List.take_zero];rfl,BO _⟩
 case round=>
  rename World=>wa;obtain⟨k,hk,rfl,rfl,rfl,HJ⟩:=hrel;obtain⟨b0,b1,b2,b3,hrow,hbw⟩:=HCC.out wa HJ.out;by_cases hlt:k<N
  .have hkl:k<c.list.length:=by have:=HN.out;omega
   obtain⟨lb,lo,rfl,hcl⟩:=hrow.at hkl;have htk:=List.take_succ_eq_append_getElem hkl;have hle:((c.list.take k).foldl (Hg c) (0,false)).1<=k:=gH (Wf _ _) Zgf;have hvm:=HVM.out _ (gD hkl);have KVK:Hid (∀v,Below wa.heap.size wa v->Calls prog 38 #[.agg #[.slice p0 N0 q0,.slice p1 N1 q1,.slice p2 N2 q2,.slice (some ⟨lb,lo,none⟩) N q3],BS c.list[k]] v fun e w'=>e=.returned (.int .i64 (EU c.regs (E5 c.list[k])))/\Below v.heap.size v w'):=fun v hb=>KV.out c.list[k] v (bel hbw hb);have hsn:(c.list.take (k+1)).foldl (Hg c) (0,false)=Hg c ((c.list.take k).foldl (Hg c) (0,false)) c.list[k]:=by rw[htk,List.foldl_append];rfl
   obtain⟨VR,hVR⟩:∃x,EU c.regs (E5 c.list[k])=x:=⟨_,rfl⟩
   rw[hVR]at hvm KVK;obtain⟨⟨M,b9⟩,hM⟩:∃x,(c.list.take k).foldl (Hg c) (0,false)=x:=⟨_,rfl⟩
   rw[hM]at hsn hle |-;simp only at hle |-;have hsn:(c.list.take (k+1)).foldl (Hg c) (0,false)=(if(if c.list[k].op=36 then true else if c.list[k].op=37 then false else b9)=false/\AW c c.list[k]=true then M+1 else M,if c.list[k].op=36 then true else if c.list[k].op=37 then false else b9):=hsn;obtain⟨MB,hMB⟩:∃x,AW c c.list[k]=x:=⟨_,rfl⟩
   rw[hMB]at hvm hsn;obtain⟨⟨op,d,a,b,e,n,z⟩,hi⟩:∃i,c.list[k]=i:=⟨_,rfl⟩
   rw[hi]at hcl KVK hsn;simp only at hsn;unfold BS at KVK;simp only at KVK;obtain⟨BB,hBB⟩:∃x,(if op=36 then true else if op=37 then false else b9)=x:=⟨_,rfl⟩
   rw[hBB]at hsn;have HBB:=A6 hBB;have HCL:=A6 hcl;have y0:=hcl.at 0 (v:=.int .i64 op) rfl;rw[Nat.add_zero]at y0;have y1:=hcl.at 1 (v:=.int .i64 d) rfl;have y2:=hcl.at 2 (v:=.int .i64 a) rfl;have y3:=hcl.at 3 (v:=.int .i64 b) rfl;have y4:=hcl.at 4 (v:=.int .i64 e) rfl;have y5:=hcl.at 5 (v:=.int .i64 n) rfl;have y6:=hcl.at 6 (v:=.int .u32 z) rfl;have HSN:=A6 hsn;have i1:(0:Int)<=(k:Int):=oM;have i2:(k:Int)<(N:Int):=oM;have wi:IntKind.i64.wrap ((k:Int)+1)=((k+1:Nat):Int):=by rw[IntKind.wrap_i64];omega
   have wm:IntKind.i64.wrap ((M:Int)+1)=((M+1:Nat):Int):=by rw[IntKind.wrap_i64];omega
   clear hcl hi htk hsn hM hVR hMB hrow hbw hBB;go_upto_block 2 with fail;go_cut [4] (fun bv wx=>bv=.bool BB/\wx=wa)
   case first=>
    by_cases o:op=36
    .subst o;go_wp2;go_meet;exact⟨by rw[<-HBB.out];simp,rfl⟩
    .have o1:(op==36)=false:=by simpa using o
     by_cases o':op=37
     .subst o';go_wp2;go_meet;exact⟨by rw[<-HBB.out];simp,rfl⟩
     .have o2:(op==37)=false:=by simpa using o'
      have HO:Hid (¬op=36/\¬op=37):=⟨o,o'⟩
      clear o o';go_wp2;go_meet;exact⟨by rw[<-HBB.out,if_neg HO.1,if_neg HO.2],rfl⟩
   case rest=>
    obtain⟨rfl,hwx⟩:=hcut;rw[hwx];clear hwx;cases BB with
    |true=>
     go_upto_region 11 with fail;refine rG (fun v=>v.cell? ⟨X,0,none⟩=some (.slice p0 N0 q0)/\v.cell? ⟨X,1,none⟩=some (.slice p1 N1 q1)/\v.cell? ⟨X,2,none⟩=some (.slice p2 N2 q2)/\v.cell? ⟨X,3,none⟩=some (.slice (some ⟨lb,lo,none⟩) N q3)/\v.cell? ⟨lb,lo+k*7,none⟩=some (.int .i64 op)/\v.cell? ⟨lb,lo+k*7+1,none⟩=some (.int .i64 d)/\v.cell? ⟨lb,lo+k*7+2,none⟩=some (.int .i64 a)/\v.cell? ⟨lb,lo+k*7+3,none⟩=some (.int .i64 b)/\v.cell? ⟨lb,lo+k*7+4,none⟩=some (.int .i64 e)/\v.cell? ⟨lb,lo+k*7+5,none⟩=some (.int .i64 n)/\v.cell? ⟨lb,lo+k*7+6,none⟩=some (.int .u32 z)) fun yH=>?_;refine Tc 0 1 2 ?_;refine Kd 3 4 5 6 ?_;refine Kd 7 8 9 10 ?_;refine C5 11 ?_;refine wpAnyH_done kR ?_ _;go_wp2;go_roundw
     case rel=>exact⟨k+1,oM,gN,by rw[HSN.out,if_neg (fun q=>by cases q.1)],by rw[HSN.out],bel HJ.out (AK _)⟩
     case measure=>simp[intOf];omega
    |false=>
     go_upto_region 11 with fail;refine rG (fun v=>v.cell? ⟨X,0,none⟩=some (.slice p0 N0 q0)/\v.cell? ⟨X,1,none⟩=some (.slice p1 N1 q1)/\v.cell? ⟨X,2,none⟩=some (.slice p2 N2 q2)/\v.cell? ⟨X,3,none⟩=some (.slice (some ⟨lb,lo,none⟩) N q3)/\v.cell? ⟨lb,lo+k*7,none⟩=some (.int .i64 op)/\v.cell? ⟨lb,lo+k*7+1,none⟩=some (.int .i64 d)/\v.cell? ⟨lb,lo+k*7+2,none⟩=some (.int .i64 a)/\v.cell? ⟨lb,lo+k*7+3,none⟩=some (.int .i64 b)/\v.cell? ⟨lb,lo+k*7+4,none⟩=some (.int .i64 e)/\v.cell? ⟨lb,lo+k*7+5,none⟩=some (.int .i64 n)/\v.cell? ⟨lb,lo+k*7+6,none⟩=some (.int .u32 z)) fun yH=>?_;refine Tf 0 1 2 3 4 5 ?_;refine Tc 6 7 8 ?_;clear yH;refine AJ 9 fun K hK=>?_;go_simp;(go_at_call 38;(with_reducible refine(KVK.out _ (AK _)).mono ?_);rintro e9 w4 ⟨rfl,hb4⟩;have hb44:Below wa.heap.size wa w4:=bel (AK _) hb4;have HB4:Hid (Below W0.heap.size W0 w4):=bel HJ.out hb44;obtain⟨c0,c1,c2,c3,-,-⟩:=HCC.out w4 HB4.out;have hk4:=HCL.out.below hb44;have m0:=hk4.at 0 (v:=.int .i64 op) rfl;rw[Nat.add_zero]at m0;have m1:=hk4.at 1 (v:=.int .i64 d) rfl;have m2:=hk4.at 2 (v:=.int .i64 a) rfl;have m3:=hk4.at 3 (v:=.int .i64 b) rfl;have m4:=hk4.at 4 (v:=.int .i64 e) rfl;have m5:=hk4.at 5 (v:=.int .i64 n) rfl;have m6:=hk4.at 6 (v:=.int .u32 z) rfl;clear hk4 hb4 hb44);try(go_wp2_with fail)
     refine AD hK fun yH=>?_;clear hK K;refine Tb 10 11 ?_;refine wpAnyH_done kR ?_ _;cases MB with
     |true=>
      have t1:=hvm.2 rfl;have t2:VR≥0:=t1;clear hvm;go_wp2;go_roundw
      case rel=>exact⟨k+1,oM,gN,by rw[HSN.out];simp,by rw[HSN.out],HB4.out⟩
      case measure=>simp[intOf];omega
     |false=>
      have t1:¬ (0:Int)<=VR:=fun h=>by have:=hvm.1 h;cases this
      have t2:¬VR≥0:=t1;clear hvm;go_wp2;go_roundw
      case rel=>exact⟨k+1,oM,gN,by rw[HSN.out,if_neg (fun q=>by cases q.2)],by rw[HSN.out],HB4.out⟩
      case measure=>simp[intOf];omega
  .have e9:¬ (k:Int)<(N:Int):=oM;have hke:k=c.list.length:=by have:=HN.out;omega
   have HQ:Hid (((c.list.take k).foldl (Hg c) (0,false)).1=FK c c.list):=by show _=_;rw[hke,List.take_length];rfl
   exact Zej
end Go.Proofs.YtpoklpdgpcnkgaaGreat
