import Derived.Test.YtpoklpdgpcnkgaaGreatLng28
import Derived.Test.YtpoklpdgpcnkgaaGreatLng11
import Derived.Test.YtpoklpdgpcnkgaaGreatLng18
import Derived.Deep.DeepCutAuto
import Derived.Test.YtpoklpdgpcnkgaaGreatLng1
import Derived.Test.YtpoklpdgpcnkgaaGreatLng9
namespace Go.Proofs.YtpoklpdgpcnkgaaGreat
open Go.RowKit Go.Proofs.Tryz
set_option linter.all false
set_option maxRecDepth 100000
set_option maxHeartbeats 16000000

theorem vec_may{c:Cd}{i:Aa}(ht:Aj c=true)(hi:Bp c i):(0<=Fg c.regs (Et i))↔AW c i=true:=by
 have hM:AW c i=(AC i.op&&((Ak c.regs i (A3 i.op)).kind==3)):=rfl;cases hl:AC i.op with
 |false=>
  rw[hM,hl,Bool.false_and];have he:B3 i.op=false/\¬ (29<=i.op/\i.op<=33):=by
   unfold AC at hl;simp only[Bool.or_eq_false_iff,Bool.and_eq_false_iff,decide_eq_false_iff_not]at hl;exact⟨hl.2,fun q=>by omega⟩
  have e1:Et i= -1:=by
   unfold Et;rw[he.1];have a1:(i.op==29)=false:=sO;have a2:(i.op==30)=false:=sO;have a3:(i.op==31)=false:=sO;have a4:(i.op==32)=false:=sO;have a5:(i.op==33)=false:=sO;simp[a1,a2,a3,a4,a5]
  rw[e1];unfold Fg Az;simp
 |true=>
  obtain⟨r,h1,h2,h3,h4⟩:=OH hi hl;have ol:=CS (i:=i) hl;have e1:Et i=(r:Int):=by
   unfold Et;by_cases o:i.op=31\/i.op=33
   .have ne:B3 i.op=false:=by rcases o with q|q<;>(rw[q];decide)
    have a1:(i.op==29)=false:=sO;have a2:(i.op==30)=false:=sO;have a4:(i.op==32)=false:=sO;have a5:(i.op==31||i.op==33)=true:=by simpa using o
    rw[ne,a1,a2,a4,a5];simp[h3 o]
   .have a1:(B3 i.op||(i.op==29||(i.op==30||i.op==32)))=true:=by
     unfold AC at hl;simp only[Bool.or_eq_true,Bool.and_eq_true,decide_eq_true_eq]at hl;simp only[Bool.or_eq_true,beq_iff_eq];rcases hl with q|q
     .omega
     .exact .inl q
    rw[if_pos a1];exact h4 o
  have e2:Ak c.regs i (A3 i.op)=A5 c.regs (r:Int):=by unfold Ak;rw[h2]
  have e3:Az (r:Int) c.regs.length=true:=by unfold Az;simp;omega
  rw[hM,hl,Bool.true_and,e1];unfold Fg;rw[e3,Bool.true_and];cases hk:((A5 c.regs (r:Int)).kind==3)with
  |false=>rw[e2,hk];simp
  |true=>
   have hm:AW c i=true:=by rw[hM,hl,e2,hk];rfl
   obtain⟨m1,m2⟩:=Ft ht hi hm;rw[e2]at m1;rw[if_pos rfl,e2,m1];simp
theorem Zm(l:List Aa)(k:Nat)(hk:k<l.length):((l.take (k+1)).foldl Gv (0,false,-1)).2.1=(l[k].op==37):=by
 rw[List.take_succ_eq_append_getElem hk,List.foldl_append];simp only[List.foldl_cons,List.foldl_nil];unfold Gv;split
 .rename_i h;simp[h]
 .rfl
theorem nb_le:∀l:List Aa,(l.foldl Gv (0,false,-1)).1<=l.length:=by
 refine fun l=>DK (Q:=fun l=>(l.foldl Gv (0,false,-1)).1<=l.length) sM (fun l i ih=>?_) l;rw[List.foldl_append,List.length_append];obtain⟨r,hx⟩:∃x,l.foldl Gv (0,false,-1)=x:=⟨_,rfl⟩
 rw[hx]at ih |-;simp only[List.foldl_cons,List.foldl_nil,List.length_cons,List.length_nil];have h9:(Gv r i).1<=r.1+1:=by
  unfold Gv;split
  .by_cases q:r.2.1=true/\r.2.2=i.n
   .rw[if_pos q];exact gF _
   .rw[if_neg q];exact Nat.le_succ _
  .exact Nat.le_succ _
 omega
theorem W9(v0 v1 v2 v3:Value)(c:Cd)(hL:c.list.length<=40000)(w:World)(hv:Dk w v0 v1 v2 v3 c):
 Calls prog 20 #[.agg #[v0,v1,v2,v3]] w fun e w'=>e=.returned (.int .i64 (nbN c.list:Int))/\Below w.heap.size w w':=by
 obtain⟨p3,q3,rfl⟩:∃p q,v3=.slice p c.list.length q:=by obtain⟨p,q,e,_⟩:=hv.list;exact⟨p,q,e⟩
 have HVL:=A8 hv.list;obtain⟨N,hN⟩:=gA (c.list.length)
 have HN:=A8 hN;simp only[hN]at hL HVL |-;obtain⟨W0,hW0⟩:∃W,w.alloc (.cells #[v0,v1,v2,.slice p3 N q3] 27)=W:=⟨_,rfl⟩
 have HB0:Hid (Below w.heap.size w W0):=by rw[<-hW0];exact A0 _ _
 obtain⟨X,hX⟩:=gA (w.heap.size)
 have HXE:=A8 hX;have b3:W0.cell? ⟨X,3,none⟩=some (.slice p3 N q3):=by rw[<-hW0,<-hX];simp[go_sem]
 have HCC:Hid (∀v,Below W0.heap.size W0 v->v.cell? ⟨X,3,none⟩=some (.slice p3 N q3)/\AZ 7 De v (.slice p3 N q3) c.list):=fun v hb=>⟨kc hb b3,HVL.below (bel HB0.out hb)⟩
 clear hv hN b3;go_enter func20,ntmps20;go_upto_region 3 with fail;try rw[hW0]
 try rw[hX]
 clear hW0 hX;go_wp2
 go_loopw [3,4,5] (fun nv lv iv wx=>∃k:Nat,k<=N/\iv=.int .i64 (k:Int)/\nv=.int .i64 (((c.list.take k).foldl Gv (0,false,-1)).1:Int)/\lv=.int .i64 ((c.list.take k).foldl Gv (0,false,-1)).2.2/\Hid (Below W0.heap.size W0 wx)) (fun _ _ iv _=>N-(intOf iv).toNat)
 case atStart=>exact⟨0,gI _,rfl,by rw[List.take_zero];rfl,by rw[List.take_zero];rfl,BT _⟩
 case round=>
  rename World=>wa;obtain⟨k,hk,rfl,rfl,rfl,HJ⟩:=hrel;obtain⟨b3,hrow⟩:=HCC.out wa HJ.out;by_cases hlt:k<N
  .have hkl:k<c.list.length:=by have:=HN.out;omega
   obtain⟨lb,lo,rfl,hcl⟩:=hrow.at hkl;have htk:=List.take_succ_eq_append_getElem hkl;have hle:((c.list.take k).foldl Gv (0,false,-1)).1<=k:=gH (nb_le _) (by rw[List.length_take];omega);have hsn:(c.list.take (k+1)).foldl Gv (0,false,-1)=Gv ((c.list.take k).foldl Gv (0,false,-1)) c.list[k]:=by rw[htk,List.foldl_append];rfl
   have hpv:(k=0->((c.list.take k).foldl Gv (0,false,-1)).2.1=false)/\∀j (hj:j<c.list.length),k=j+1->((c.list.take k).foldl Gv (0,false,-1)).2.1=(c.list[j].op==37):=⟨fun e=>by rw[e,List.take_zero];rfl,fun j hj e=>by rw[e];exact Zm c.list j hj⟩
   obtain⟨⟨M,pb,la⟩,hM⟩:∃x,(c.list.take k).foldl Gv (0,false,-1)=x:=⟨_,rfl⟩
   rw[hM]at hsn hle hpv |-;simp only at hle hpv |-;have hsn:(c.list.take (k+1)).foldl Gv (0,false,-1)=if c.list[k].op=36 then(if pb=true/\la=c.list[k].n then M+1 else M,false,c.list[k].n)else(M,c.list[k].op==37,la):=hsn;obtain⟨⟨op,d,a,b,e,n,z⟩,hi⟩:∃i,c.list[k]=i:=⟨_,rfl⟩
   rw[hi]at hcl hsn;simp only at hsn;have y0:=hcl.at 0 (v:=.int .i64 op) rfl;rw[Nat.add_zero]at y0;have y1:=hcl.at 1 (v:=.int .i64 d) rfl;have y2:=hcl.at 2 (v:=.int .i64 a) rfl;have y3:=hcl.at 3 (v:=.int .i64 b) rfl;have y4:=hcl.at 4 (v:=.int .i64 e) rfl;have y5:=hcl.at 5 (v:=.int .i64 n) rfl;have y6:=hcl.at 6 (v:=.int .u32 z) rfl;obtain⟨V2,hV2⟩:∃V,wa.alloc (.cells #[.int .i64 op,.int .i64 d,.int .i64 a,.int .i64 b,.int .i64 e,.int .i64 n,.int .u32 z] 45)=V:=⟨_,rfl⟩
   have hbV:Below wa.heap.size wa V2:=by rw[<-hV2];exact A0 _ _
   have HBV:Hid (Below W0.heap.size W0 V2):=bel HJ.out hbV;have hX2:V2.rowIs wa.heap.size 45 7 (bxF op d a b e n z):=by rw[<-hV2];exact Di wa _ _
   have x0:V2.cell? ⟨wa.heap.size,0,none⟩=some (.int .i64 op):=hX2.cell (i:=0) dE;have x5:V2.cell? ⟨wa.heap.size,5,none⟩=some (.int .i64 n):=hX2.cell (i:=5) dE;obtain⟨c3,hrow2⟩:=HCC.out V2 HBV.out;have i1:(0:Int)<=(k:Int):=oM;have i2:(k:Int)<(N:Int):=oM;have wi:IntKind.i64.wrap ((k:Int)+1)=((k+1:Nat):Int):=by rw[IntKind.wrap_i64];omega
   have wm:IntKind.i64.wrap ((M:Int)+1)=((M+1:Nat):Int):=by rw[IntKind.wrap_i64];omega
   have HPV:=A8 hpv;have HR2:=A8 hrow2;clear hcl hi htk hM hX2 hbV hrow hrow2 hpv HJ;go_upto_region 7 with fail;try rw[hV2]
   clear hV2 y0 y1 y2 y3 y4 y5 y6 b3;by_cases o:op=36
   .subst o;rw[if_pos rfl]at hsn;have HSN:=A8 hsn;clear hsn;cases k with
    |zero=>
     have hpb:=HPV.1 rfl;subst hpb;go_wp2;go_roundw
     case rel=>exact⟨0+1,oM,gN,by rw[HSN.out];simp,by rw[HSN.out],HBV.out⟩
     case measure=>simp[intOf];omega
    |succ j=>
     have hjl:j<c.list.length:=oM;have hpb:=HPV.2 j hjl rfl;obtain⟨lb',lo',e8,hcj⟩:=HR2.at hjl;simp only[Option.some.injEq,Addr.mk.injEq,and_true]at e8;obtain⟨rfl,rfl⟩:=e8;obtain⟨⟨op',d',a',b',e',n',z'⟩,hi'⟩:∃i,c.list[j]=i:=⟨_,rfl⟩
     rw[hi']at hcj hpb;simp only at hpb;have u0:=hcj.at 0 (v:=.int .i64 op') rfl;rw[Nat.add_zero]at u0;have g0:(0:Int)<((j+1:Nat):Int):=oM;have g1:((j+1:Nat):Int)>0:=oM;have g2:IntKind.i64.wrap (((j+1:Nat):Int)-1)=(j:Int):=by rw[IntKind.wrap_i64];omega
     have g3:IntKind.i64.wrap (j:Int)=(j:Int):=by rw[IntKind.wrap_i64];omega
     have g4:(0:Int)<=(j:Int):=oM;have g5:(j:Int)<(N:Int):=oM;clear hcj hi' HR2;by_cases q:op'=37
     .subst q;have hpt:pb=true:=by rw[hpb];rfl
      subst hpt;by_cases r:la=n
      .subst r;have r1:(la==la)=true:=sM;clear hpb;exact Zfc
      .have r1:(la==n)=false:=by simpa using r
       have HR:=A8 r;clear hpb r;go_wp2;go_roundw
       case rel=>exact⟨j+1+1,oM,gN,by rw[HSN.out,if_neg (fun t=>HR.out t.2)],by rw[HSN.out],HBV.out⟩
       case measure=>simp[intOf];omega
     .have q1:(op'==37)=false:=by simpa using q
      have hpt:pb=false:=by rw[hpb];exact q1
      subst hpt;clear hpb q;exact Zfc
   .rw[if_neg o]at hsn;have HSN:=A8 hsn;have o1:(op==36)=false:=by simpa using o
    have o2:(op != 36)=true:=by simpa using o
    clear hsn o HPV HR2;go_wp2;go_roundw
    case rel=>exact⟨k+1,oM,gN,by rw[HSN.out],by rw[HSN.out],HBV.out⟩
    case measure=>simp[intOf];omega
  .have e9:¬ (k:Int)<(N:Int):=oM;have hke:k=c.list.length:=by have:=HN.out;omega
   have HQ:Hid (((c.list.take k).foldl Gv (0,false,-1)).1=nbN c.list):=by show _=_;rw[hke,List.take_length];rfl
   have HBJ:=A8 HJ.out;clear hlt hke hrow HJ;go_wp2;go_ret;exact⟨by rw[<-HQ.out];try rfl,by have h9:=bel HB0.out HBJ.out;first|exact h9|(rw[HXE.out]at h9;exact h9)⟩
theorem W6(c:Cd):∀l:List Aa,(l.foldl (Hh c) (0,false)).1<=l.length:=by
 refine fun l=>DK (Q:=fun l=>(l.foldl (Hh c) (0,false)).1<=l.length) sM (fun l i ih=>?_) l;rw[List.foldl_append,List.length_append];obtain⟨⟨n,b⟩,hx⟩:∃x,l.foldl (Hh c) (0,false)=x:=⟨_,rfl⟩
 rw[hx]at ih |-;simp only[List.foldl_cons,List.foldl_nil,List.length_cons,List.length_nil]at ih |-;have h9:(Hh c (n,b) i).1<=n+1:=by
  unfold Hh;simp only;by_cases q:(if i.op=36 then true else if i.op=37 then false else b)=false/\AW c i=true
  .rw[if_pos q];exact gF _
  .rw[if_neg q];exact Nat.le_succ _
 omega
theorem OI(v0 v1 v2 v3:Value)(c:Cd)(hk:Bb c)(ht:Aj c=true)(hf:∀i∈c.list,Bp c i)(hL:c.list.length<=40000)(w:World)(hv:Dk w v0 v1 v2 v3 c):
 Calls prog 19 #[.agg #[v0,v1,v2,v3]] w fun e w'=>e=.returned (.int .i64 (Hr c c.list:Int))/\Below w.heap.size w w':=by
 have HVV:=A8 hv;have KV:=A8 (fun(i:Aa) (v:World) (hb:Below w.heap.size w v)=>Jt v0 v1 v2 v3 c hk i v (hv.below hb));have HVM:=A8 (fun(i:Aa) (h:i∈c.list)=>vec_may ht (hf i h));obtain⟨p0,q0,rfl⟩:∃p q,v0=.slice p c.sign.length q:=by obtain⟨p,q,e,_⟩:=hv.sign;exact⟨p,q,e⟩
 obtain⟨p1,q1,rfl⟩:∃p q,v1=.slice p c.regs.length q:=by obtain⟨p,q,e,_⟩:=hv.regs;exact⟨p,q,e⟩
 obtain⟨p2,q2,rfl⟩:∃p q,v2=.slice p c.slots.length q:=by obtain⟨p,q,e,_⟩:=hv.slots;exact⟨p,q,e⟩
 obtain⟨p3,q3,rfl⟩:∃p q,v3=.slice p c.list.length q:=by obtain⟨p,q,e,_⟩:=hv.list;exact⟨p,q,e⟩
 obtain⟨N0,hN0⟩:∃N,c.sign.length=N:=⟨_,rfl⟩
 obtain⟨N1,hN1⟩:∃N,c.regs.length=N:=⟨_,rfl⟩
 obtain⟨N2,hN2⟩:∃N,c.slots.length=N:=⟨_,rfl⟩
 obtain⟨N,hN⟩:=gA (c.list.length)
 have HN:=A8 hN;simp only[hN0,hN1,hN2,hN]at hL HVV KV |-;obtain⟨W0,hW0⟩:∃W,w.alloc (.cells #[.slice p0 N0 q0,.slice p1 N1 q1,.slice p2 N2 q2,.slice p3 N q3] 27)=W:=⟨_,rfl⟩
 have HB0:Hid (Below w.heap.size w W0):=by rw[<-hW0];exact A0 _ _
 obtain⟨X,hX⟩:=gA (w.heap.size)
 have HXE:=A8 hX;have b0:W0.cell? ⟨X,0,none⟩=some (.slice p0 N0 q0):=by rw[<-hW0,<-hX];simp[go_sem]
 have b1:W0.cell? ⟨X,1,none⟩=some (.slice p1 N1 q1):=by rw[<-hW0,<-hX];simp[go_sem]
 have b2:W0.cell? ⟨X,2,none⟩=some (.slice p2 N2 q2):=by rw[<-hW0,<-hX];simp[go_sem]
 have b3:W0.cell? ⟨X,3,none⟩=some (.slice p3 N q3):=by rw[<-hW0,<-hX];simp[go_sem]
 have HCC:Hid (∀v,Below W0.heap.size W0 v->v.cell? ⟨X,0,none⟩=some (.slice p0 N0 q0)/\v.cell? ⟨X,1,none⟩=some (.slice p1 N1 q1)/\v.cell? ⟨X,2,none⟩=some (.slice p2 N2 q2)/\v.cell? ⟨X,3,none⟩=some (.slice p3 N q3)/\AZ 7 De v (.slice p3 N q3) c.list/\Below w.heap.size w v):=fun v hb=>⟨kc hb b0,kc hb b1,kc hb b2,kc hb b3,HVV.list.below (bel HB0.out hb),bel HB0.out hb⟩
 clear hv hN hN0 hN1 hN2 hk hf b0 b1 b2 b3 HVV;go_enter func19,ntmps19;go_upto_region 3 with fail;try rw[hW0]
 try rw[hX]
 clear hW0 hX;go_wp2
 go_loopw [3,4,5] (fun nv bv iv wx=>∃k:Nat,k<=N/\iv=.int .i64 (k:Int)/\nv=.int .i64 (((c.list.take k).foldl (Hh c) (0,false)).1:Int)/\bv=.bool ((c.list.take k).foldl (Hh c) (0,false)).2/\Hid (Below W0.heap.size W0 wx)) (fun _ _ iv _=>N-(intOf iv).toNat)
 case atStart=>exact⟨0,gI _,rfl,by rw[List.take_zero];rfl,by rw[List.take_zero];rfl,BT _⟩
 case round=>
  rename World=>wa;obtain⟨k,hk,rfl,rfl,rfl,HJ⟩:=hrel;obtain⟨b0,b1,b2,b3,hrow,hbw⟩:=HCC.out wa HJ.out;by_cases hlt:k<N
  .have hkl:k<c.list.length:=by have:=HN.out;omega
   obtain⟨lb,lo,rfl,hcl⟩:=hrow.at hkl;have htk:=List.take_succ_eq_append_getElem hkl;have hle:((c.list.take k).foldl (Hh c) (0,false)).1<=k:=gH (W6 _ _) (by rw[List.length_take];omega);have hvm:=HVM.out _ (gD hkl);have KVK:Hid (∀v,Below wa.heap.size wa v->Calls prog 38 #[.agg #[.slice p0 N0 q0,.slice p1 N1 q1,.slice p2 N2 q2,.slice (some ⟨lb,lo,none⟩) N q3],BV c.list[k]] v fun e w'=>e=.returned (.int .i64 (Fg c.regs (Et c.list[k])))/\Below v.heap.size v w'):=fun v hb=>KV.out c.list[k] v (bel hbw hb);have hsn:(c.list.take (k+1)).foldl (Hh c) (0,false)=Hh c ((c.list.take k).foldl (Hh c) (0,false)) c.list[k]:=by rw[htk,List.foldl_append];rfl
   obtain⟨VR,hVR⟩:∃x,Fg c.regs (Et c.list[k])=x:=⟨_,rfl⟩
   rw[hVR]at hvm KVK;obtain⟨⟨M,b9⟩,hM⟩:∃x,(c.list.take k).foldl (Hh c) (0,false)=x:=⟨_,rfl⟩
   rw[hM]at hsn hle |-;simp only at hle |-;have hsn:(c.list.take (k+1)).foldl (Hh c) (0,false)=(if(if c.list[k].op=36 then true else if c.list[k].op=37 then false else b9)=false/\AW c c.list[k]=true then M+1 else M,if c.list[k].op=36 then true else if c.list[k].op=37 then false else b9):=hsn;obtain⟨MB,hMB⟩:∃x,AW c c.list[k]=x:=⟨_,rfl⟩
   rw[hMB]at hvm hsn;obtain⟨⟨op,d,a,b,e,n,z⟩,hi⟩:∃i,c.list[k]=i:=⟨_,rfl⟩
   rw[hi]at hcl KVK hsn;simp only at hsn;unfold BV at KVK;simp only at KVK;obtain⟨BB,hBB⟩:∃x,(if op=36 then true else if op=37 then false else b9)=x:=⟨_,rfl⟩
   rw[hBB]at hsn;have HBB:=A8 hBB;have HCL:=A8 hcl;have y0:=hcl.at 0 (v:=.int .i64 op) rfl;rw[Nat.add_zero]at y0;have y1:=hcl.at 1 (v:=.int .i64 d) rfl;have y2:=hcl.at 2 (v:=.int .i64 a) rfl;have y3:=hcl.at 3 (v:=.int .i64 b) rfl;have y4:=hcl.at 4 (v:=.int .i64 e) rfl;have y5:=hcl.at 5 (v:=.int .i64 n) rfl;have y6:=hcl.at 6 (v:=.int .u32 z) rfl;have HSN:=A8 hsn;have i1:(0:Int)<=(k:Int):=oM;have i2:(k:Int)<(N:Int):=oM;have wi:IntKind.i64.wrap ((k:Int)+1)=((k+1:Nat):Int):=by rw[IntKind.wrap_i64];omega
   have wm:IntKind.i64.wrap ((M:Int)+1)=((M+1:Nat):Int):=by rw[IntKind.wrap_i64];omega
   clear hcl hi htk hsn hM hVR hMB hrow hbw hBB;go_upto_block 2 with fail;go_cut [4] (fun bv wx=>bv=.bool BB/\wx=wa)
   case first=>
    by_cases o:op=36
    .subst o;go_wp2;go_meet;exact⟨by rw[<-HBB.out];simp,rfl⟩
    .have o1:(op==36)=false:=by simpa using o
     by_cases o':op=37
     .subst o';go_wp2;go_meet;exact⟨by rw[<-HBB.out];simp,rfl⟩
     .have o2:(op==37)=false:=by simpa using o'
      have HO:Hid (¬op=36/\¬op=37):=⟨o,o'⟩
      clear o o';go_wp2;go_meet;exact⟨by rw[<-HBB.out,if_neg HO.1,if_neg HO.2],rfl⟩
   case rest=>
    obtain⟨rfl,hwx⟩:=hcut;rw[hwx];clear hwx;cases BB with
    |true=>
     go_upto_region 11 with fail;refine rG (fun v=>v.cell? ⟨X,0,none⟩=some (.slice p0 N0 q0)/\v.cell? ⟨X,1,none⟩=some (.slice p1 N1 q1)/\v.cell? ⟨X,2,none⟩=some (.slice p2 N2 q2)/\v.cell? ⟨X,3,none⟩=some (.slice (some ⟨lb,lo,none⟩) N q3)/\v.cell? ⟨lb,lo+k*7,none⟩=some (.int .i64 op)/\v.cell? ⟨lb,lo+k*7+1,none⟩=some (.int .i64 d)/\v.cell? ⟨lb,lo+k*7+2,none⟩=some (.int .i64 a)/\v.cell? ⟨lb,lo+k*7+3,none⟩=some (.int .i64 b)/\v.cell? ⟨lb,lo+k*7+4,none⟩=some (.int .i64 e)/\v.cell? ⟨lb,lo+k*7+5,none⟩=some (.int .i64 n)/\v.cell? ⟨lb,lo+k*7+6,none⟩=some (.int .u32 z)) fun yH=>?_;refine Tc 0 1 2 ?_;refine Kd 3 4 5 6 ?_;refine Kd 7 8 9 10 ?_;refine BU 11 ?_;refine wpAnyH_done kR ?_ _;go_wp2;go_roundw
     case rel=>exact⟨k+1,oM,gN,by rw[HSN.out,if_neg (fun q=>by cases q.1)],by rw[HSN.out],bel HJ.out (AQ _)⟩
     case measure=>simp[intOf];omega
    |false=>
     go_upto_region 11 with fail;refine rG (fun v=>v.cell? ⟨X,0,none⟩=some (.slice p0 N0 q0)/\v.cell? ⟨X,1,none⟩=some (.slice p1 N1 q1)/\v.cell? ⟨X,2,none⟩=some (.slice p2 N2 q2)/\v.cell? ⟨X,3,none⟩=some (.slice (some ⟨lb,lo,none⟩) N q3)/\v.cell? ⟨lb,lo+k*7,none⟩=some (.int .i64 op)/\v.cell? ⟨lb,lo+k*7+1,none⟩=some (.int .i64 d)/\v.cell? ⟨lb,lo+k*7+2,none⟩=some (.int .i64 a)/\v.cell? ⟨lb,lo+k*7+3,none⟩=some (.int .i64 b)/\v.cell? ⟨lb,lo+k*7+4,none⟩=some (.int .i64 e)/\v.cell? ⟨lb,lo+k*7+5,none⟩=some (.int .i64 n)/\v.cell? ⟨lb,lo+k*7+6,none⟩=some (.int .u32 z)) fun yH=>?_;refine Tf 0 1 2 3 4 5 ?_;refine Tc 6 7 8 ?_;clear yH;refine AJ 9 fun K hK=>?_;go_simp;(go_at_call 38;(with_reducible refine(KVK.out _ (AQ _)).mono ?_);rintro e9 w4 ⟨rfl,hb4⟩;have hb44:Below wa.heap.size wa w4:=bel (AQ _) hb4;have HB4:Hid (Below W0.heap.size W0 w4):=bel HJ.out hb44;obtain⟨c0,c1,c2,c3,-,-⟩:=HCC.out w4 HB4.out;have hk4:=HCL.out.below hb44;have m0:=hk4.at 0 (v:=.int .i64 op) rfl;rw[Nat.add_zero]at m0;have m1:=hk4.at 1 (v:=.int .i64 d) rfl;have m2:=hk4.at 2 (v:=.int .i64 a) rfl;have m3:=hk4.at 3 (v:=.int .i64 b) rfl;have m4:=hk4.at 4 (v:=.int .i64 e) rfl;have m5:=hk4.at 5 (v:=.int .i64 n) rfl;have m6:=hk4.at 6 (v:=.int .u32 z) rfl;clear hk4 hb4 hb44);try(go_wp2_with fail)
     refine AF hK fun yH=>?_;clear hK K;refine Tb 10 11 ?_;refine wpAnyH_done kR ?_ _;cases MB with
     |true=>
      have t1:=hvm.2 rfl;have t2:VR≥0:=t1;clear hvm;go_wp2;go_roundw
      case rel=>exact⟨k+1,oM,gN,by rw[HSN.out];simp,by rw[HSN.out],HB4.out⟩
      case measure=>simp[intOf];omega
     |false=>
      have t1:¬ (0:Int)<=VR:=fun h=>by have:=hvm.1 h;cases this
      have t2:¬VR≥0:=t1;clear hvm;go_wp2;go_roundw
      case rel=>exact⟨k+1,oM,gN,by rw[HSN.out,if_neg (fun q=>by cases q.2)],by rw[HSN.out],HB4.out⟩
      case measure=>simp[intOf];omega
  .have e9:¬ (k:Int)<(N:Int):=oM;have hke:k=c.list.length:=by have:=HN.out;omega
   have HQ:Hid (((c.list.take k).foldl (Hh c) (0,false)).1=Hr c c.list):=by show _=_;rw[hke,List.take_length];rfl
   have HBW:=A8 hbw;clear hlt hke hrow hbw;go_wp2;go_ret;exact⟨by rw[<-HQ.out];try rfl,by first|exact HBW.out|(have h9:=HBW.out;rw[HXE.out]at h9;exact h9)⟩
end Go.Proofs.YtpoklpdgpcnkgaaGreat
