import Derived.Test.YtcdpmgldkibfiaaGreatAgn1
import Derived.Test.YtcdpmgldkibfiaaGreatAgn21
import Derived.Deep.DeepCutAuto
import Derived.Test.YtcdpmgldkibfiaaGreatAgn19
import Derived.Test.YtcdpmgldkibfiaaGreatAgn12
import Derived.Test.YtcdpmgldkibfiaaGreatAgn17
namespace Go.Proofs.YtcdpmgldkibfiaaGreat
open Go.RowKit Go.Proofs.Tryz
set_option linter.all false
set_option maxRecDepth 100000
set_option maxHeartbeats 16000000
def Iy(l:List Af)(r:Nat):Nat:=(l.filter fun i=>Ab i&&decide (i.d.toNat=r)).length
theorem Kq(l:List Af)(i:Af)(r:Nat):Iy (l++[i]) r=Iy l r+(if Ab i=true/\i.d.toNat=r then 1 else 0):=by
 unfold Iy;rw[List.filter_append,List.length_append];congr 1;by_cases h1:Ab i=true
 ·by_cases h2:i.d.toNat=r
  ·rw[if_pos ⟨h1,h2⟩];simp[h1,h2]
  ·rw[if_neg (fun q=>h2 q.2)];simp[h2]
 ·rw[if_neg (fun q=>h1 q.1)];have h3:Ab i=false:=by simpa using h1
  simp[h3]
theorem X9(l:List Af)(r:Nat):Iy l r<=l.length:=List.length_filter_le _ _
theorem IG.keep{w v v':World}{N C B SB IB MB:Nat}{f g:Nat->Value}{tag:Nat->Nat}(h:IG w N C f g B SB IB MB tag v)(hb:Below v.heap.size v v'):IG w N C f g B SB IB MB tag v':=
 ⟨h.bel.trans (hb.mono h.bel.size),h.b.of_block (hb.block _ h.b.lt),h.st.of_block (hb.block _ h.st.lt),h.ir.of_block (hb.block _ h.ir.lt),h.map.below hb,h.hB,h.hS,h.hI,h.hM,h.tB,h.tS,h.tI,h.tM⟩
theorem IG.far{w v:World}{N C B SB IB MB:Nat}{f g:Nat->Value}{tag:Nat->Nat}(h:IG w N C f g B SB IB MB tag v){a:Addr}(ha:w.heap.size<=a.block)(h1:B≠a.block)(h2:SB≠a.block)(h3:IB≠a.block)(h4:MB≠a.block)(x:Value):IG w N C f g B SB IB MB tag (v.setCell a x):=
 ⟨h.bel.setCell ha x,h.b.setOther h1 x,h.st.setOther h2 x,h.ir.setOther h3 x,h.map.block (Below.heap_setCell _ _ _ _ h4),h.hB,h.hS,h.hI,h.hM,h.tB,h.tS,h.tI,h.tM⟩
theorem IG.setSt{w v:World}{N C B SB IB MB:Nat}{f g:Nat->Value}{tag:Nat->Nat}(h:IG w N C f g B SB IB MB tag v)(j:Nat)(x:Value):IG w N C (fun r=>if r=j then x else f r) g B SB IB MB tag (v.setCell ⟨SB,j,none⟩ x):=
 ⟨h.bel.setCell h.hS x,h.b.setOther (AG h.tB h.tS dE) x,h.st.set j x,h.ir.setOther (AG h.tI h.tS dE) x,h.map.block (Below.heap_setCell _ _ _ _ (AG h.tM h.tS dE)),h.hB,h.hS,h.hI,h.hM,h.tB,h.tS,h.tI,h.tM⟩
theorem IG.setIr{w v:World}{N C B SB IB MB:Nat}{f g:Nat->Value}{tag:Nat->Nat}(h:IG w N C f g B SB IB MB tag v)(j:Nat)(x:Value):IG w N C f (fun r=>if r=j then x else g r) B SB IB MB tag (v.setCell ⟨IB,j,none⟩ x):=
 ⟨h.bel.setCell h.hI x,h.b.setOther (AG h.tB h.tI dE) x,h.st.setOther (AG h.tS h.tI dE) x,h.ir.set j x,h.map.block (Below.heap_setCell _ _ _ _ (AG h.tM h.tI dE)),h.hB,h.hS,h.hI,h.hM,h.tB,h.tS,h.tI,h.tM⟩
theorem IG.of{w v:World}{N C B SB IB MB:Nat}{f g f' g':Nat->Value}{tag:Nat->Nat}(h:IG w N C f g B SB IB MB tag v)(e1:∀r,r<N->f r=f' r)(e2:∀r,r<N->g r=g' r):IG w N C f' g' B SB IB MB tag v:=
 ⟨h.bel,h.b,h.st.congr e1,h.ir.congr e2,h.map,h.hB,h.hS,h.hI,h.hM,h.tB,h.tS,h.tI,h.tM⟩
theorem Wq(c:Cd)(C q1 q3:Nat)(p1 p3:Option Addr)(w:World)(hN:c.regs.length<=16384)(hL:c.list.length<=32768)(hC1:w.cell? ⟨C,1,none⟩=some (.slice p1 c.regs.length q1))(hC3:w.cell? ⟨C,3,none⟩=some (.slice p3 c.list.length q3))(hl:Be 7 DO w (.slice p3 c.list.length q3) c.list)(hd:∀i∈c.list,Ab i=true->0<=i.d/\i.d<(c.regs.length:Int)):
 Calls prog 27 #[.pointer (some ⟨C,0,none⟩)] w fun e w'=>∃B SB IB MB tag,e=.returned (.pointer (some ⟨B,0,none⟩))/\IG w c.regs.length C (fun r=>.bool (Aq c.list r)) (fun r=>.int .i64 (r:Int)) B SB IB MB tag w':=by
 have HL:=A9 hl;have HD:=A9 hd;obtain⟨N,hNe⟩:∃N,c.regs.length=N:=⟨_,rfl⟩
 obtain⟨M,hMe⟩:∃M,c.list.length=M:=⟨_,rfl⟩
 rw[hNe]at hC1 hN HD ⊢;rw[hMe]at hC3 hL HL;have HM:=A9 hMe;have m1:=fun v=>ZC N oM v;have m2:=fun v=>Uq N oM v;have hmm:=@run_makeMap prog;have lC:C<w.heap.size:=A6 hC1;have n0:¬C=w.heap.size:=oM;have n1:¬C=w.heap.size+1:=oM;have n2:¬C=w.heap.size+1+1:=oM;have n3:¬C=w.heap.size+1+1+1:=oM;have kC3:∀o1 o2 o3,(((w.alloc o1).alloc o2).alloc o3).cell? ⟨C,1,none⟩=some (.slice p1 N q1):=fun o1 o2 o3=>kc (bel (bel (A0 _ _) (A0 _ _)) (A0 _ _)) hC1;have kC4:∀o1 o2 o3 o4,((((w.alloc o1).alloc o2).alloc o3).alloc o4).cell? ⟨C,1,none⟩=some (.slice p1 N q1):=fun o1 o2 o3 o4=>kc (bel (bel (bel (A0 _ _) (A0 _ _)) (A0 _ _)) (A0 _ _)) hC1;clear hl hd hNe hMe;go_enter func27,ntmps27;go_upto_region 1 with fail;go_cut [3] (fun bv wx=>∃B SB IB MB tag,bv=.pointer (some ⟨B,0,none⟩)/\IG w N C (fun _=>.bool false) (fun _=>.int .i64 0) B SB IB MB tag wx)
 case first=>
  refine rG (fun v=>v.cell? ⟨C,1,none⟩=some (.slice p1 N q1)) fun hHeld=>?_;refine Tf 0 1 2 3 4 5 ?_;refine Tc 7 8 9 ?_;refine Tb 10 11 ?_;clear hHeld;refine wpAnyH_ready (rs:=[6,12,13]) kR sM ?_;refine Fg 6 (fun K hK=>?_) ?_
  ·go_simp;refine Aw hK fun hHeld=>?_;clear hK K;clear hHeld;refine wpAnyH_ready (rs:=[12,13]) kR sM ?_;refine Fg 12 (fun K hK=>?_) ?_
   ·go_simp;refine Aw hK fun hHeld=>?_;clear hK K;clear hHeld;refine AC 13 fun K hK=>?_;exact Zam
   refine Fg 13 (fun K hK=>?_) AllReadyH.nil;go_simp;refine Aw hK fun hHeld=>?_;clear hK K;clear hHeld;refine AC 12 fun K hK=>?_;exact Zam
  refine Fg 12 (fun K hK=>?_) ?_
  ·go_simp;refine Aw hK fun hHeld=>?_;clear hK K;clear hHeld;refine wpAnyH_ready (rs:=[6,13]) kR sM ?_;refine Fg 6 (fun K hK=>?_) ?_
   ·go_simp;refine Aw hK fun hHeld=>?_;clear hK K;clear hHeld;refine AC 13 fun K hK=>?_;exact Zam
   refine Fg 13 (fun K hK=>?_) AllReadyH.nil;go_simp;refine Aw hK fun hHeld=>?_;clear hK K;clear hHeld;refine AC 6 fun K hK=>?_;exact Zam
  refine Fg 13 (fun K hK=>?_) AllReadyH.nil;go_simp;refine Aw hK fun hHeld=>?_;clear hK K;clear hHeld;refine wpAnyH_ready (rs:=[6,12]) kR sM ?_;refine Fg 6 (fun K hK=>?_) ?_
  ·go_simp;refine Aw hK fun hHeld=>?_;clear hK K;clear hHeld;refine AC 12 fun K hK=>?_;exact Zam
  refine Fg 12 (fun K hK=>?_) AllReadyH.nil;go_simp;refine Aw hK fun hHeld=>?_;clear hK K;clear hHeld;refine AC 6 fun K hK=>?_;exact Zam
 case rest=>
  obtain⟨B,SB,IB,MB,tag,rfl,hnw⟩:=hcut;have HNW:=A9 hnw;have d1:=kc hnw.bel hC1;have d3:=kc hnw.bel hC3;obtain⟨ZB,hZB⟩:∃Z,wc.heap.size=Z:=⟨_,rfl⟩
  have HLZ:Hid (B<ZB/\SB<ZB/\IB<ZB/\MB<ZB/\w.heap.size<=ZB):=by rw[←hZB];exact⟨hnw.b.lt,hnw.st.lt,hnw.ir.lt,hnw.map.lt,hnw.bel.size⟩
  obtain⟨V,hV⟩:∃V,wc.alloc (.cells (madeCells #[.int .i64 0] N) 3)=V:=⟨_,rfl⟩
  have HBV:Hid (Below wc.heap.size wc V):=by rw[←hV];exact A0 _ _
  have HZV:Hid (V.rowIs ZB 3 N (fun r=>.int .i64 (Iy (c.list.take 0) r:Int))):=by rw[←hV,←hZB];exact World.rowIs_made wc (.int .i64 0) N 3
  have d3':=kc HBV.out d3;have d1':=kc HBV.out d1;clear hnw n0 n1 n2 n3 kC3 kC4;go_wp2;have HV0:Hid (IG w N C (fun _=>.bool false) (fun _=>.int .i64 0) B SB IB MB tag V):=HNW.out.keep HBV.out;clear d1 d3 d1' d3' HNW HBV hV
  go_loopw [36] (fun iv wr=>∃j:Nat,j<=M/\iv=.int .i64 (j:Int)/\Hid (IG w N C (fun _=>.bool false) (fun _=>.int .i64 0) B SB IB MB tag wr/\wr.rowIs ZB 3 N (fun r=>.int .i64 (Iy (c.list.take j) r:Int)))) (fun iv _=>M-(intOf iv).toNat)
  case atStart=>exact⟨0,Nat.zero_le _,rfl,HV0.out,HZV.out⟩
  case round=>
   obtain⟨j,hj,rfl,HJ⟩:=hrel;by_cases hlt:j<M
   ·have hjl:j<c.list.length:=by have:=HM.out;omega
    obtain⟨lb,lo,rfl,hcl⟩:=(HL.out.below HJ.out.1.bel).at hjl;obtain⟨⟨op,d,a,b,e,n,z⟩,hi⟩:∃i,c.list[j]=i:=⟨_,rfl⟩
    have HDI:=A9 (HD.out _ (List.getElem_mem hjl));rw[hi]at hcl HDI;have htk:c.list.take (j+1)=c.list.take j++[⟨op,d,a,b,e,n,z⟩]:=by rw[List.take_succ_eq_append_getElem hjl,hi]
    have HTK:=A9 htk;have y0:=hcl.at 0 (v:=.int .i64 op) rfl;rw[Nat.add_zero]at y0;have y1:=hcl.at 1 (v:=.int .i64 d) rfl;have y2:=hcl.at 2 (v:=.int .i64 a) rfl;have y3:=hcl.at 3 (v:=.int .i64 b) rfl;have y4:=hcl.at 4 (v:=.int .i64 e) rfl;have y5:=hcl.at 5 (v:=.int .i64 n) rfl;have y6:=hcl.at 6 (v:=.int .u32 z) rfl;have llb:lb<wr.heap.size:=A6 y0;have n9:¬lb=wr.heap.size:=oM;have i1:(0:Int)<=(j:Int):=oM;have i2:(j:Int)<(M:Int):=oM;have wi:IntKind.i64.wrap ((j:Int)+1)=((j+1:Nat):Int):=by rw[IntKind.wrap_i64];omega
    obtain⟨V2,hV2⟩:∃V,wr.alloc (.cells #[.int .i64 op,.int .i64 d,.int .i64 a,.int .i64 b,.int .i64 e,.int .i64 n,.int .u32 z] 44)=V:=⟨_,rfl⟩
    have HB2:Hid (Below wr.heap.size wr V2):=by rw[←hV2];exact A0 _ _
    have hX2:V2.rowIs wr.heap.size 44 7 (JX op d a b e n z):=by rw[←hV2];exact Bq wr _ _
    have HX2:=A9 hX2;have x0:V2.cell? ⟨wr.heap.size,0,none⟩=some (.int .i64 op):=hX2.cell (i:=0) dE;have x1:V2.cell? ⟨wr.heap.size,1,none⟩=some (.int .i64 d):=hX2.cell (i:=1) dE;have x2:V2.cell? ⟨wr.heap.size,2,none⟩=some (.int .i64 a):=hX2.cell (i:=2) dE;have x3:V2.cell? ⟨wr.heap.size,3,none⟩=some (.int .i64 b):=hX2.cell (i:=3) dE;have x4:V2.cell? ⟨wr.heap.size,4,none⟩=some (.int .i64 e):=hX2.cell (i:=4) dE;have x5:V2.cell? ⟨wr.heap.size,5,none⟩=some (.int .i64 n):=hX2.cell (i:=5) dE;have x6:V2.cell? ⟨wr.heap.size,6,none⟩=some (.int .u32 z):=hX2.cell (i:=6) dE;have KS:=A9 (fun v=>NZ ⟨op,d,a,b,e,n,z⟩ v);unfold AS at KS;simp only at KS;clear hX2 hcl htk hi llb;cases hS:((A5 op).d != 0)with
    |false=>
     simp only[hS]at KS;have hsb:Ab (⟨op,d,a,b,e,n,z⟩:Af)=false:=by simp only[Ab];simpa using hS
     have HSB:=A9 hsb;clear hS hsb;go_wp2_with(go_at_call 51;(with_reducible refine(KS.out _).mono ?_);rintro e9 w4 ⟨rfl,hb4⟩;have HB4:=A9 hb4;clear hb4);go_roundw
     case rel=>
      have hb:Below wr.heap.size wr w4:=bel HB2.out HB4.out;refine⟨j+1,oM,gN,HJ.out.1.keep hb,((HJ.out.2.of_block (hb.block _ HJ.out.2.lt))).congr fun r hr=>?_⟩;rw[HTK.out,Kq,if_neg (by rw[HSB.out];simp),Nat.add_zero]
     case measure=>simp[intOf];omega
    |true=>
     simp only[hS]at KS;have hsb:Ab (⟨op,d,a,b,e,n,z⟩:Af)=true:=by simp only[Ab];simpa using hS
     obtain⟨e0,e1⟩:=HDI.out hsb;simp only at e0 e1;obtain⟨D,rfl⟩:=Int.eq_ofNat_of_zero_le e0;have hDN:D<N:=oM;have HSB:=A9 hsb;have hcn:Iy (c.list.take j) D<=32768:=by have h9:=X9 (c.list.take j) D;rw[List.length_take]at h9;omega
     obtain⟨K0,hK0⟩:∃K,Iy (c.list.take j) D=K:=⟨_,rfl⟩
     rw[hK0]at hcn;have HK0:=A9 hK0;have wk:IntKind.i64.wrap ((K0:Int)+1)=((K0+1:Nat):Int):=by rw[IntKind.wrap_i64];omega
     clear hS hsb hK0;go_wp2_with(go_at_call 51;(with_reducible refine(KS.out _).mono ?_);rintro e9 w4 ⟨rfl,hb4⟩;have HB4:=A9 (bel HB2.out hb4);have hZ4:=HJ.out.2.of_block (HB4.out.block _ HJ.out.2.lt);have HZ4:=A9 hZ4;have s1:=hZ4.cell hDN;rw[HK0.out]at s1;have s2:=hZ4.frozen D;have x1':w4.cell? ⟨wr.heap.size,1,none⟩=some (.int .i64 (D:Int)):=kc hb4 x1;clear hZ4 hb4);go_roundw
     case rel=>
      obtain⟨z1,z2,z3,z4,z5⟩:=HLZ.out;refine⟨j+1,oM,gN,(HJ.out.1.keep HB4.out).far z5 (by show B≠ZB;omega) (by show SB≠ZB;omega) (by show IB≠ZB;omega) (by show MB≠ZB;omega) _,(HZ4.out.set D _).congr fun r hr=>?_⟩;rw[HTK.out,Kq];by_cases q:r=D
      ·rw[if_pos q,q,if_pos ⟨HSB.out,sM⟩,HK0.out];first|rfl|(congr 1;go_num)|simp
      ·rw[if_neg q,if_neg (fun t=>q (by have:=t.2;simpa using this.symm)),Nat.add_zero]
     case measure=>simp[intOf];omega
   ·have e9:¬ (j:Int)<(M:Int):=oM;have hjM:j=c.list.length:=by have:=HM.out;omega
    have HJ2:Hid (IG w N C (fun r=>.bool (if r<0 then Aq c.list r else false)) (fun r=>.int .i64 (if r<0 then(r:Int)else 0)) B SB IB MB tag wr/\wr.rowIs ZB 3 N (fun r=>.int .i64 (Iy c.list r:Int))):=by
     refine⟨HJ.out.1.of (fun r _=>by rw[if_neg oM]) (fun r _=>by rw[if_neg oM]),?_⟩;have h9:=HJ.out.2;rw[hjM,List.take_length]at h9;exact h9
    clear hlt hj hjM HJ HV0 HZV;go_wp2
    go_loopw [52] (fun iv wr=>∃k:Nat,k<=N/\iv=.int .i64 (k:Int)/\Hid (IG w N C (fun r=>.bool (if r<k then Aq c.list r else false)) (fun r=>.int .i64 (if r<k then(r:Int)else 0)) B SB IB MB tag wr/\wr.rowIs ZB 3 N (fun r=>.int .i64 (Iy c.list r:Int)))) (fun iv _=>N-(intOf iv).toNat)
    case atStart=>exact⟨0,Nat.zero_le _,rfl,HJ2.out⟩
    case round=>
     clear HJ2;obtain⟨k,hk,rfl,HR⟩:=hrel;by_cases hkN:k<N
     ·have hn:=HR.out.1;have b1:wr.cell? ⟨B,1,none⟩=some (.slice (some ⟨SB,0,none⟩) N N):=hn.b.cell (i:=1) dE;have b2:wr.cell? ⟨B,2,none⟩=some (.slice (some ⟨IB,0,none⟩) N N):=hn.b.cell (i:=2) dE;have s1:=hn.st.cell hkN;have s2:=hn.st.frozen k;have t1:=hn.ir.cell hkN;have t2:=hn.ir.frozen k;have z1:=HR.out.2.cell hkN;have n1:¬B=SB:=AG hn.tB hn.tS dE;have n2:¬B=IB:=AG hn.tB hn.tI dE;have n3:¬IB=SB:=AG hn.tI hn.tS dE;have n1':¬SB=B:=fun e=>n1 e.symm;have n2':¬IB=B:=fun e=>n2 e.symm;have n3':¬SB=IB:=fun e=>n3 e.symm;have i1:(0:Int)<=(k:Int):=oM;have i2:(k:Int)<(N:Int):=oM;have wi:IntKind.i64.wrap ((k:Int)+1)=((k+1:Nat):Int):=by rw[IntKind.wrap_i64];omega
      obtain⟨K0,hK0⟩:∃K,Iy c.list k=K:=⟨_,rfl⟩
      rw[hK0]at z1;obtain⟨X,hX⟩:∃X,((K0:Int)==1)=X:=⟨_,rfl⟩
      have HX:Hid (Aq c.list k=X):=by
       show _=_;rw[←hX,←hK0];show(Iy c.list k==1)=_;rw[Bool.eq_iff_iff];simp only[beq_iff_eq];omega
      rw[if_neg (Nat.lt_irrefl k)]at s1 t1;clear hn hK0;go_wp2;go_roundw
      case rel=>
       obtain⟨z1,z2,z3,z4,z5⟩:=HLZ.out;refine⟨k+1,oM,gN,((HR.out.1.setSt k _).setIr k _).of (fun r hr=>?_) (fun r hr=>?_),(HR.out.2.setOther (by show ZB≠SB;omega) _).setOther (by show ZB≠IB;omega) _⟩
       ·by_cases q:r=k
        ·rw[if_pos q,q,if_pos (Nat.lt_succ_self k),HX.out]
        ·rw[if_neg q];by_cases q2:r<k
         ·rw[if_pos q2,if_pos oM]
         ·rw[if_neg q2,if_neg oM]
       ·by_cases q:r=k
        ·rw[if_pos q,q,if_pos (Nat.lt_succ_self k)]
        ·rw[if_neg q];by_cases q2:r<k
         ·rw[if_pos q2,if_pos oM]
         ·rw[if_neg q2,if_neg oM]
      case measure=>simp[intOf];omega
     ·have e8:¬ (k:Int)<(N:Int):=oM;have hkk:k=N:=oM;subst hkk;have HF:Hid (IG w k C (fun r=>.bool (Aq c.list r)) (fun r=>.int .i64 (r:Int)) B SB IB MB tag wr):=HR.out.1.of (fun r hr=>by rw[if_pos hr]) (fun r hr=>by rw[if_pos hr]);clear hkN hk;go_wp2;go_returns;first|exact⟨B,SB,IB,MB,tag,rfl,HF.out⟩|exact⟨B,rfl,SB,IB,MB,tag,HF.out⟩
theorem B5{n:Int}(h0: -1<=n)(h1:n<=2147483648):CT n:=by unfold CT;omega
theorem Qg{c:Cd}(hg:Good c){i:Af}(hk:Al i.op=true)(hf:AO c i (A5 i.op)=true)(hb:0<=i.bits/\i.bits<4294967296):Fu (El c i):=by
 have hN:=hg.regsL;have hS:=hg.slotsL;have hG:=hg.signL;have key:∀l n m,Ah c.regs l n m=true->CT n:=fun l n m h=>by
  by_cases hl:l=0
  ·unfold Ah at h;rw[if_pos hl]at h;have h9:n=0:=by simpa using h
   exact B5 oM oM
  ·obtain⟨h0,h1⟩:=Ad h hl;exact B5 oM oM
 have hn:CT i.n:=by
  have hf':=hf;unfold AO at hf';simp only[Bool.and_eq_true]at hf';have h:=hf'.2.2.2.2;unfold Bh at h;by_cases h7:(A5 i.op).n=7
  ·rw[if_pos h7]at h;simp only[Bool.and_eq_true,beq_iff_eq]at h;exact B5 oM oM
  ·rw[if_neg h7]at h;simp only[Bool.and_eq_true]at h;have h2:=h.2;unfold FF at h2;by_cases c1:(A5 i.op).n=8
   ·rw[if_pos c1]at h2;unfold D5 at h2;simp only[Bool.and_eq_true,decide_eq_true_eq]at h2;exact B5 oM oM
   ·rw[if_neg c1]at h2;by_cases c2:(A5 i.op).n=9
    ·rw[if_pos c2]at h2;simp only[Bool.or_eq_true,Bool.and_eq_true,beq_iff_eq]at h2;exact B5 oM oM
    ·rw[if_neg c2]at h2;by_cases c3:(A5 i.op).n=10
     ·rw[if_pos c3]at h2;simp only[Bool.and_eq_true]at h2;have h3:=Bu.1 h2.1;exact B5 oM oM
     ·rw[if_neg c3]at h2;by_cases c4:(A5 i.op).n=11
      ·rw[if_pos c4]at h2;have h3:=Bu.1 h2;exact B5 oM oM
      ·rw[if_neg c4]at h2;have h3:i.n=0:=by simpa using h2
       exact B5 oM oM
 have ht:CT (A8 c.regs i.d).kind/\CT (A8 c.regs i.d).par:=by
  by_cases h:At i.d c.regs.length=true
  ·obtain⟨h0,h1⟩:=Bu.1 h;have hl:i.d.toNat<c.regs.length:=oM;have e:A8 c.regs i.d=c.regs[i.d.toNat]:=by unfold A8;rw[if_pos h,List.getElem?_eq_getElem hl];rfl
   rw[e];have h2:=hg.regs _ (List.getElem_mem hl);unfold AA at h2;by_cases k1:c.regs[i.d.toNat].kind=1\/c.regs[i.d.toNat].kind=2
   ·rw[if_pos k1]at h2;have h3:c.regs[i.d.toNat].par=0:=by simpa using h2
    exact⟨B5 oM oM,B5 oM oM⟩
   ·rw[if_neg k1]at h2;by_cases k3:c.regs[i.d.toNat].kind=3
    ·rw[if_pos k3]at h2;have h3:=Bu.1 h2;exact⟨B5 oM oM,B5 oM oM⟩
    ·rw[if_neg k3]at h2;cases h2
  ·have e:A8 c.regs i.d=⟨0,0⟩:=by unfold A8;rw[if_neg h]
   rw[e];exact⟨B5 dE dE,B5 dE dE⟩
 unfold Al at hk;simp only[Bool.and_eq_true,decide_eq_true_eq]at hk;have a1:CT i.op:=B5 oM oM;have a2:CT (0:Int):=B5 dE dE;have a3:CT i.a:=key _ _ _ (BD hf);have a4:CT i.b:=key _ _ _ (Do hf);have a5:CT i.c:=key _ _ _ (Dp hf);exact⟨a1,a2,a3,a4,a5,hn,hb,ht.1,ht.2⟩
theorem T7(c:Cd)(s:RW)(i:Af):(∀q∈(AU c s i).reck,q∈s.reck\/q=El c (A3 s i))/\(AU c s i).reck.length<=s.reck.length+1/\(AU c s i).opn.length<=s.opn.length+1/\(AU c s i).left.length<=s.left.length+1:=by
 unfold AU;split
 ·exact⟨fun q h=>.inl h,sM,sM,sM⟩
 ·unfold AF;split
  ·exact⟨fun q h=>.inl h,sM,sM,sM⟩
  ·split
   ·unfold CU GH;refine⟨fun q h=>.inl (List.mem_of_mem_take h),?_,?_,?_⟩
    ·simp only[List.length_take];omega
    ·simp only[List.length_dropLast];omega
    ·simp
   ·split
    ·refine⟨fun q h=>?_,sM,sM,sM⟩;simp only[List.mem_append,List.mem_singleton]at h;exact h
    ·exact⟨fun q h=>.inl h,sM,sM,sM⟩
def K6(c:Cd)(j:Nat):RW:=(c.list.take j).foldl (AU c) BJ
theorem J5{c:Cd}{j:Nat}(hj:j<c.list.length):K6 c (j+1)=AU c (K6 c j) c.list[j]:=by
 unfold K6;rw[List.take_succ_eq_append_getElem hj,List.foldl_append];rfl
theorem X4(c:Cd):(K6 c c.list.length).left=BA c:=by unfold K6 BA;rw[List.take_length]
theorem Oc{c:Cd}(h:AK c ⟨[],[]⟩ c.list=true){j:Nat}(hj:j<c.list.length):Ar c (DF ⟨[],[]⟩ (c.list.take j)) c.list[j]=true:=by
 have e:c.list=c.list.take j++c.list[j]::c.list.drop (j+1):=by rw[←List.drop_eq_getElem_cons hj,List.take_append_drop]
 rw[e,Dv]at h;simp only[Bool.and_eq_true]at h;have h2:=h.2;unfold AK at h2;simp only[Bool.and_eq_true]at h2;exact h2.1
theorem VN{c:Cd}{j:Nat}(hj:j<c.list.length):DF ⟨[],[]⟩ (c.list.take (j+1))=Ag (DF ⟨[],[]⟩ (c.list.take j)) c.list[j]:=by
 rw[List.take_succ_eq_append_getElem hj,FQ];rfl
theorem YI{c:Cd}(hc:(Az c).1=0)(hb:∀i∈c.list,0<=i.bits/\i.bits<4294967296):∀j,j<=c.list.length->∃x',CE c (c.list.take j) (K6 c j) (DF ⟨[],[]⟩ (c.list.take j)) x'/\(∀q∈(K6 c j).reck,Fu q)/\(K6 c j).reck.length<=j/\(K6 c j).opn.length<=j/\(K6 c j).left.length<=j:=by
 obtain⟨hg,ht⟩:=Ds hc;intro j;induction j with
 |zero=>intro _;exact⟨_,CE.start c,fun q h=>YU,Nat.le_refl _,Nat.le_refl _,Nat.le_refl _⟩
 |succ j ih=>
  intro hj;obtain⟨x',h,hr,l1,l2,l3⟩:=ih oM;have hjl:j<c.list.length:=oM;have t:=Oc ht hjl;have hl:c.list=c.list.take j++c.list[j]::c.list.drop (j+1):=by rw[←List.drop_eq_getElem_cons hjl,List.take_append_drop]
  have e1:c.list.take (j+1)=c.list.take j++[c.list[j]]:=List.take_succ_eq_append_getElem hjl;have hrd:=Ai (DY h t);have hok:Fu (El c (A3 (K6 c j) c.list[j])):=Qg hg hrd.1 hrd.2.1 (by have h9:=hb _ (List.getElem_mem hjl);exact h9);obtain⟨k1,k2,k3,k4⟩:=T7 c (K6 c j) c.list[j];have hI:∃x'',CE c (c.list.take (j+1)) (K6 c (j+1)) (DF ⟨[],[]⟩ (c.list.take (j+1))) x'':=by
   rw[J5 hjl,VN hjl,e1];unfold AU;cases hh:AQ c (K6 c j) (A3 (K6 c j) c.list[j])with
   |some g=>exact⟨_,G1 h hl t hh⟩
   |none=>exact⟨_,EZ h hl t hh⟩
  obtain⟨x'',h'⟩:=hI;refine⟨x'',h',?_⟩;rw[J5 hjl];refine⟨fun q hq=>?_,oM,oM,oM⟩;rcases k1 q hq with e|e
  ·exact hr q e
  ·rw[e];exact hok
theorem tk_ok{c:Cd}(hc:(Az c).1=0)(hb:∀i∈c.list,0<=i.bits/\i.bits<4294967296){j nm:Nat}(hj:j<c.list.length)(hnm:nm<=j):Ts c (K6 c j) c.list[j] nm:=by
 obtain⟨hg,ht⟩:=Ds hc;obtain⟨x',h,hr,l1,l2,l3⟩:=YI hc hb j (Nat.le_of_lt hj);have t:=Oc ht hj;have hrd:=Ai (DY h t);have hL:=hg.listL;refine⟨hg.regsL,Fh t,JA (Ai t).2.1,JA hrd.2.1,Qg hg hrd.1 hrd.2.1 (by have h9:=hb _ (List.getElem_mem hj);exact h9),fun e=>?_,hr,oM,oM,oM,oM⟩;obtain⟨-,-,t3,-⟩:=Ai t;unfold Av at t3;rw[if_neg oM,if_pos e]at t3;simp only[Bool.and_eq_true,Bool.not_eq_true']at t3;have ho:=h.opens;generalize DF ⟨[],[]⟩ (c.list.take j)=x at ho t3;obtain⟨X,O⟩:=x;obtain⟨X',O'⟩:=x';simp only at ho t3;generalize (K6 c j)=s at ho;obtain⟨ins,hold,reck,opn,left⟩:=s;simp only at ho;cases ho with
 |nil=>simp at t3
 |loop h9=>simp[Ap]at t3
 |when h1 h2 h3 h4 h5 h6=>exact⟨_,_,rfl,h3⟩
theorem YC{v:World}{a:Addr}{x:Value}{B:Nat}(h:v.cell? a=some x)(hne:¬a.block=B):∀u0 u1 u2 u3,((((v.setCell ⟨B,0,none⟩ u0).setCell ⟨B,1,none⟩ u1).setCell ⟨B,2,none⟩ u2).setCell ⟨B,3,none⟩ u3).cell? a=some x:=fun u0 u1 u2 u3=>
 (World.cell?_of_block ((Below.heap_setCell _ _ _ _ hne).trans ((Below.heap_setCell _ _ _ _ hne).trans ((Below.heap_setCell _ _ _ _ hne).trans (Below.heap_setCell _ _ _ _ hne))))).trans h
theorem WK.start{c:Cd}{w1 v:World}{C B SB IB MB q1:Nat}{tag:Nat->Nat}{p1:Option Addr}(hn:IG w1 c.regs.length C (fun r=>.bool (Aq c.list r)) (fun r=>.int .i64 (r:Int)) B SB IB MB tag v)(hC1:w1.cell? ⟨C,1,none⟩=some (.slice p1 c.regs.length q1))(hr:Be 2 IX w1 (.slice p1 c.regs.length q1) c.regs):
 ∃rb ro,WK w1.heap.size c BJ v B C SB IB MB 0 rb ro q1 (.slice none 0 0) (.slice none 0 0) (.slice none 0 0) tag:=by
 have hC:C<w1.heap.size:=A6 hC1;obtain⟨p,q,e,hh⟩:=hr;simp only[Value.slice.injEq]at e;obtain⟨rfl,-,rfl⟩:=e;have nb:∀ (m g:Nat),(Value.slice none 0 0).ownBlock=some g->tag g=m:=fun m g h=>by cases h
 rcases hh with h0|⟨rb,ro,rfl,hc⟩
 ·have hl:c.regs.length=0:=by rw[h0];rfl
  exact⟨0,0,hn.b,fun h=>absurd h oM,fun r h=>absurd h oM,hn.st,hn.ir,hn.map,World.ownsRow_nil _ _ _ 9,World.ownsRow_nil _ _ _ 1,World.ownsRow_nil _ _ _ 7,hC,.inr hl,hn.hB,hn.hS,hn.hI,hn.hM,hn.tB,hn.tS,hn.tI,hn.tM,nb 5,nb 6,nb 7⟩
 ·by_cases h0:c.regs.length=0
  ·exact⟨0,0,hn.b,fun h=>absurd h oM,fun r h=>absurd h oM,hn.st,hn.ir,hn.map,World.ownsRow_nil _ _ _ 9,World.ownsRow_nil _ _ _ 1,World.ownsRow_nil _ _ _ 7,hC,.inr h0,hn.hB,hn.hS,hn.hI,hn.hM,hn.tB,hn.tS,hn.tI,hn.tM,nb 5,nb 6,nb 7⟩
  ·have hrb:rb<w1.heap.size:=by
    have h9:=(hc 0 oM).at 0 (v:=.int .i64 (c.regs[0]'oM).kind) rfl;exact A6 h9
   exact⟨rb,ro,hn.b,fun _=>kc hn.bel hC1,fun r h=>(hc r h).below hn.bel,hn.st,hn.ir,hn.map,World.ownsRow_nil _ _ _ 9,World.ownsRow_nil _ _ _ 1,World.ownsRow_nil _ _ _ 7,hC,.inl hrb,hn.hB,hn.hS,hn.hI,hn.hM,hn.tB,hn.tS,hn.tI,hn.tM,nb 5,nb 6,nb 7⟩
theorem Lq(v0 v1 v2 v3:Value)(c:Cd)(hk:B7 c)(w:World)(hv:Cr w v0 v1 v2 v3 c)(hc:(Az c).1≠0):
 Calls prog 9 #[.agg #[v0,v1,v2,v3]] w fun e w'=>e=.returned (.tuple #[.agg #[.slice none 0 0,.slice none 0 0,.slice none 0 0,.slice none 0 0],.int .i64 160])/\Below w.heap.size w w':=by
 have KC:Hid (∀v,Below w.heap.size w v->Calls prog 26 #[.agg #[v0,v1,v2,v3]] v fun e w'=>e=.returned (.tuple #[.int .i64 (Az c).1,.int .i64 (Az c).2])/\Below v.heap.size v w'):=fun v hvv=>Ko v0 v1 v2 v3 c hk v (hv.below hvv);obtain⟨e1,he1⟩:∃e1,(Az c).1=e1:=⟨_,rfl⟩
 obtain⟨e2,he2⟩:∃e2,(Az c).2=e2:=⟨_,rfl⟩
 rw[he1]at hc KC;rw[he2]at KC;have n1:(e1 != 0)=true:=by simpa using hc
 have n2:(e1==0)=false:=by simpa using hc
 obtain⟨p0,q0,rfl⟩:∃p q,v0=.slice p c.sign.length q:=by obtain⟨p,q,e,_⟩:=hv.sign;exact⟨p,q,e⟩
 obtain⟨p1,q1,rfl⟩:∃p q,v1=.slice p c.regs.length q:=by obtain⟨p,q,e,_⟩:=hv.regs;exact⟨p,q,e⟩
 obtain⟨p2,q2,rfl⟩:∃p q,v2=.slice p c.slots.length q:=by obtain⟨p,q,e,_⟩:=hv.slots;exact⟨p,q,e⟩
 obtain⟨p3,q3,rfl⟩:∃p q,v3=.slice p c.list.length q:=by obtain⟨p,q,e,_⟩:=hv.list;exact⟨p,q,e⟩
 obtain⟨W0,hW0⟩:∃W,(w.alloc (.cells #[.slice p0 c.sign.length q0,.slice p1 c.regs.length q1,.slice p2 c.slots.length q2,.slice p3 c.list.length q3] 27)).alloc (.cells #[.slice none 0 0,.slice none 0 0,.slice none 0 0,.slice none 0 0] 27)=W:=⟨_,rfl⟩
 have HB0:Hid (Below w.heap.size w W0):=by rw[←hW0];exact bel (A0 _ _) (A0 _ _)
 have b0:W0.cell? ⟨w.heap.size,0,none⟩=some (.slice p0 c.sign.length q0):=by rw[←hW0];simp[go_sem]
 have b1:W0.cell? ⟨w.heap.size,1,none⟩=some (.slice p1 c.regs.length q1):=by rw[←hW0];simp[go_sem]
 have b2:W0.cell? ⟨w.heap.size,2,none⟩=some (.slice p2 c.slots.length q2):=by rw[←hW0];simp[go_sem]
 have b3:W0.cell? ⟨w.heap.size,3,none⟩=some (.slice p3 c.list.length q3):=by rw[←hW0];simp[go_sem]
 have HR:Hid (W0.rowIs (w.heap.size+1) 27 4 (DJ #[.slice none 0 0,.slice none 0 0,.slice none 0 0,.slice none 0 0])):=by
  show World.rowIs _ _ _ _ _;rw[←hW0];have h9:=Bq (w.alloc (.cells #[.slice p0 c.sign.length q0,.slice p1 c.regs.length q1,.slice p2 c.slots.length q2,.slice p3 c.list.length q3] 27)) #[.slice none 0 0,.slice none 0 0,.slice none 0 0,.slice none 0 0] 27;rw[show(w.alloc (.cells #[.slice p0 c.sign.length q0,.slice p1 c.regs.length q1,.slice p2 c.slots.length q2,.slice p3 c.list.length q3] 27)).heap.size=w.heap.size+1 by simp]at h9;exact h9
 clear hv hk he1 he2;go_enter func9,ntmps9;go_upto_region 1 with fail;try rw[hW0]
 go_wp2_with(go_at_call 26;refine(KC.out _ HB0.out).mono ?_;rintro e w1 ⟨rfl,hb1⟩;have HB1:=A9 hb1;have HR1:=A9 (HR.out.of_block (hb1.block _ HR.out.lt));have r0:w1.cell? ⟨w.heap.size+1,0,none⟩=some (.slice none 0 0):=HR1.out.cell (i:=0) dE;have r1:w1.cell? ⟨w.heap.size+1,1,none⟩=some (.slice none 0 0):=HR1.out.cell (i:=1) dE;have r2:w1.cell? ⟨w.heap.size+1,2,none⟩=some (.slice none 0 0):=HR1.out.cell (i:=2) dE;have r3:w1.cell? ⟨w.heap.size+1,3,none⟩=some (.slice none 0 0):=HR1.out.cell (i:=3) dE;have f0:=HR1.out.frozen 0;have f1:=HR1.out.frozen 1;have f2:=HR1.out.frozen 2;have f3:=HR1.out.frozen 3;clear hb1);refine bodyPost_ret (by simp[results,results9,go_sem, *];try rfl) rfl ?_;have hle:w.heap.size<=w.heap.size+1:=Nat.le_succ _;exact⟨rfl,((((bel HB0.out HB1.out).setCell hle _).setCell hle _).setCell hle _).setCell hle _⟩
theorem Gx(v0 v1 v2 v3:Value)(c:Cd)(hk:B7 c)(w:World)(hv:Cr w v0 v1 v2 v3 c)(hc:(Az c).1=0):
 Calls prog 9 #[.agg #[v0,v1,v2,v3]] w fun e w'=>∃u0 u1 u2 u3,e=.returned (.tuple #[.agg #[u0,u1,u2,u3],.int .i64 0])/\Cr w' u0 u1 u2 u3 (A4 c)/\WA w.heap.size w' u0 u1 u2 u3 (A4 c)/\Below w.heap.size w w':=by
 obtain⟨hg,htk⟩:=Ds hc;have KC:Hid (∀v,Below w.heap.size w v->Calls prog 26 #[.agg #[v0,v1,v2,v3]] v fun e w'=>e=.returned (.tuple #[.int .i64 0,.int .i64 (Az c).2])/\Below v.heap.size v w'):=fun v hvv=>by have:=Ko v0 v1 v2 v3 c hk v (hv.below hvv);rw[hc]at this;exact this
 obtain⟨e2,he2⟩:∃e2,(Az c).2=e2:=⟨_,rfl⟩
 rw[he2]at KC;have K0:Hid (∀v,Below w.heap.size w v->Calls prog 29 #[v0] v fun e w'=>∃p d,e=.returned (.slice p c.sign.length d)/\w'.ownsRow v.heap.size 73 3 (.slice p c.sign.length d) c.sign.length (AY AT c.sign)/\Below v.heap.size v w'):=fun v hvv=>(RD v0 c.sign v (hv.sign.below hvv) (by have:=hg.signL;omega)).mono fun e w' ⟨p,d,h1,h2,h4,h3⟩=>⟨p,d,h1,h4,h3⟩
 have K1:Hid (∀v,Below w.heap.size w v->Calls prog 30 #[v1] v fun e w'=>∃p d,e=.returned (.slice p c.regs.length d)/\w'.ownsRow v.heap.size 46 2 (.slice p c.regs.length d) c.regs.length (AY IX c.regs)/\Below v.heap.size v w'):=fun v hvv=>(TH v1 c.regs v (hv.regs.below hvv) (by have:=hg.regsL;omega)).mono fun e w' ⟨p,d,h1,h2,h4,h3⟩=>⟨p,d,h1,h4,h3⟩
 have K2:Hid (∀v,Below w.heap.size w v->Calls prog 31 #[v2] v fun e w'=>∃p d,e=.returned (.slice p c.slots.length d)/\w'.ownsRow v.heap.size 48 5 (.slice p c.slots.length d) c.slots.length (AY Ki c.slots)/\Below v.heap.size v w'):=fun v hvv=>(TG v2 c.slots v (hv.slots.below hvv) (by have:=hg.slotsL;omega)).mono fun e w' ⟨p,d,h1,h2,h4,h3⟩=>⟨p,d,h1,h4,h3⟩
 have HTK:Hid (∀ (j nm:Nat) (hj:j<c.list.length),nm<=j->Ts c (K6 c j) c.list[j] nm):=fun j nm hj hnm=>tk_ok hc hk.ibits hj hnm;have HD:Hid (∀i∈c.list,Ab i=true->0<=i.d/\i.d<(c.regs.length:Int)):=fun i hi hs=>by
  obtain⟨L,R,e,t⟩:=JS htk hi;exact Fh t hs
 have HVV:=A9 hv;obtain⟨p0,q0,rfl⟩:∃p q,v0=.slice p c.sign.length q:=by obtain⟨p,q,e,_⟩:=hv.sign;exact⟨p,q,e⟩
 obtain⟨p1,q1,rfl⟩:∃p q,v1=.slice p c.regs.length q:=by obtain⟨p,q,e,_⟩:=hv.regs;exact⟨p,q,e⟩
 obtain⟨p2,q2,rfl⟩:∃p q,v2=.slice p c.slots.length q:=by obtain⟨p,q,e,_⟩:=hv.slots;exact⟨p,q,e⟩
 obtain⟨p3,q3,rfl⟩:∃p q,v3=.slice p c.list.length q:=by obtain⟨p,q,e,_⟩:=hv.list;exact⟨p,q,e⟩
 have hL1:=hg.listL;have KN:Hid (∀ (v:World),Below w.heap.size w v->∀C,v.cell? ⟨C,1,none⟩=some (.slice p1 c.regs.length q1)->v.cell? ⟨C,3,none⟩=some (.slice p3 c.list.length q3)->Calls prog 27 #[.pointer (some ⟨C,0,none⟩)] v fun e w'=>∃B SB IB MB tag rb ro,e=.returned (.pointer (some ⟨B,0,none⟩))/\WK v.heap.size c BJ w' B C SB IB MB 0 rb ro q1 (.slice none 0 0) (.slice none 0 0) (.slice none 0 0) tag/\Below v.heap.size v w'):=fun v hb C h1 h3=>
  (Wq c C q1 q3 p1 p3 v hg.regsL hg.listL h1 h3 (hv.list.below hb) HD.out).mono fun e w' ⟨B,SB,IB,MB,tag,h4,h5⟩=>by
   obtain⟨rb,ro,h6⟩:=WK.start h5 h1 (hv.regs.below hb);exact⟨B,SB,IB,MB,tag,rb,ro,h4,h6,h5.bel⟩
 obtain⟨N0,hN0⟩:∃N,c.sign.length=N:=⟨_,rfl⟩
 obtain⟨N1,hN1⟩:∃N,c.regs.length=N:=⟨_,rfl⟩
 obtain⟨N2,hN2⟩:∃N,c.slots.length=N:=⟨_,rfl⟩
 obtain⟨N3,hN3⟩:∃N,c.list.length=N:=⟨_,rfl⟩
 simp only[hN0,hN1,hN2,hN3]at KC K0 K1 K2 KN hL1 HVV ⊢;have HN:Hid (c.sign.length=N0/\c.regs.length=N1/\c.slots.length=N2/\c.list.length=N3):=⟨hN0,hN1,hN2,hN3⟩
 obtain⟨W0,hW0⟩:∃W,(w.alloc (.cells #[.slice p0 N0 q0,.slice p1 N1 q1,.slice p2 N2 q2,.slice p3 N3 q3] 27)).alloc (.cells #[.slice none 0 0,.slice none 0 0,.slice none 0 0,.slice none 0 0] 27)=W:=⟨_,rfl⟩
 have HB0:Hid (Below w.heap.size w W0):=by rw[←hW0];exact bel (A0 _ _) (A0 _ _)
 have b0:W0.cell? ⟨w.heap.size,0,none⟩=some (.slice p0 N0 q0):=by rw[←hW0];simp[go_sem]
 have b1:W0.cell? ⟨w.heap.size,1,none⟩=some (.slice p1 N1 q1):=by rw[←hW0];simp[go_sem]
 have b2:W0.cell? ⟨w.heap.size,2,none⟩=some (.slice p2 N2 q2):=by rw[←hW0];simp[go_sem]
 have b3:W0.cell? ⟨w.heap.size,3,none⟩=some (.slice p3 N3 q3):=by rw[←hW0];simp[go_sem]
 have HR:Hid (W0.rowIs (w.heap.size+1) 27 4 (DJ #[.slice none 0 0,.slice none 0 0,.slice none 0 0,.slice none 0 0])):=by
  show World.rowIs _ _ _ _ _;rw[←hW0];have h9:=Bq (w.alloc (.cells #[.slice p0 N0 q0,.slice p1 N1 q1,.slice p2 N2 q2,.slice p3 N3 q3] 27)) #[.slice none 0 0,.slice none 0 0,.slice none 0 0,.slice none 0 0] 27;rw[show(w.alloc (.cells #[.slice p0 N0 q0,.slice p1 N1 q1,.slice p2 N2 q2,.slice p3 N3 q3] 27)).heap.size=w.heap.size+1 by simp]at h9;exact h9
 clear hv hk he2 hg htk hc hN0 hN1 hN2 hN3;go_enter func9,ntmps9;go_upto_region 1 with fail;try rw[hW0]
 clear hW0;go_upto_block 0 with(first
  |(go_at_call 26;(with_reducible refine(KC.out _ HB0.out).mono ?_);rintro e w1 ⟨rfl,hb1⟩;have HB1:=A9 (bel HB0.out hb1);have HR1:=A9 (HR.out.of_block (hb1.block _ HR.out.lt));have c0:=kc hb1 b0;have c1:=kc hb1 b1;have c2:=kc hb1 b2;have c3:=kc hb1 b3;clear hb1 b0 b1 b2 b3)
  |(go_at_call 27;(with_reducible refine(KN.out _ HB1.out _ c1 c3).mono ?_);rintro e w2 ⟨B,SB,IB,MB,tag,rb,ro,rfl,hwk,hb2⟩;have HWK:=A9 hwk;have HB2:=A9 hb2;have d0:=kc hb2 c0;have d1:=kc hb2 c1;have d2:=kc hb2 c2;have d3:=kc hb2 c3;clear hb2 hwk))
 obtain⟨E,hE⟩:∃E,w1.heap.size=E:=⟨_,rfl⟩
 have HEN:Hid (w.heap.size+1<E/\w.heap.size<=E):=by rw[←hE];have h9:=HR1.out.lt;exact⟨h9,oM⟩
 rw[hE]at HWK HB2;have HK0:Hid (Below E w1 w2/\∃nm vk vo vl tag,nm<=0/\WK E c (K6 c 0) w2 B w.heap.size SB IB MB nm rb ro q1 vk vo vl tag):=⟨HB2.out,0,_,_,_,_,Nat.le_refl _,HWK.out⟩
 have HE:=A9 hE;clear HWK HB2 KN d0 d1 d2 hE;go_wp2_with fail;clear d3
 go_loopw [21] (fun iv wr=>∃j:Nat,j<=N3/\iv=.int .i64 (j:Int)/\Hid (Below E w1 wr/\∃nm vk vo vl tag,nm<=j/\WK E c (K6 c j) wr B w.heap.size SB IB MB nm rb ro q1 vk vo vl tag)) (fun iv _=>N3-(intOf iv).toNat)
 case atStart=>exact⟨0,Nat.zero_le _,rfl,HK0.out⟩
 case round=>
  clear HK0;obtain⟨j,hj,rfl,HJ⟩:=hrel;have hbE:Below w.heap.size w wr:=HB1.out.trans (HJ.out.1.mono HEN.out.2);have HBE:=A9 hbE;clear hbE;by_cases hlt:j<N3
  ·have hjl:j<c.list.length:=by have:=HN.out;omega
   obtain⟨hbj,nm,vk,vo,vl,tag,hnm,hwk⟩:=HJ.out;obtain⟨lb,lo,rfl,hcl⟩:=(HVV.out.list.below HBE.out).at hjl;have KT:=A9 (fun(v:World) (hv:Below wr.heap.size wr v)=>Tk E c (K6 c j) v B w.heap.size SB IB MB nm rb ro q1 vk vo vl tag c.list[j] (hwk.below hv) (HTK.out j nm hjl hnm));have hsu:=J5 hjl;obtain⟨⟨op,d,a,b,e,n,z⟩,hi⟩:∃i,c.list[j]=i:=⟨_,rfl⟩
   rw[hi]at hcl KT hsu;rw[←hsu]at KT;have HLE:=A9 hwk.lt;have HNM:=A9 hnm;have y0:=hcl.at 0 (v:=.int .i64 op) rfl;rw[Nat.add_zero]at y0;have y1:=hcl.at 1 (v:=.int .i64 d) rfl;have y2:=hcl.at 2 (v:=.int .i64 a) rfl;have y3:=hcl.at 3 (v:=.int .i64 b) rfl;have y4:=hcl.at 4 (v:=.int .i64 e) rfl;have y5:=hcl.at 5 (v:=.int .i64 n) rfl;have y6:=hcl.at 6 (v:=.int .u32 z) rfl;have llb:lb<wr.heap.size:=A6 y0;have n9:¬lb=wr.heap.size:=oM;have i1:(0:Int)<=(j:Int):=oM;have i2:(j:Int)<(N3:Int):=oM;have wi:IntKind.i64.wrap ((j:Int)+1)=((j+1:Nat):Int):=by rw[IntKind.wrap_i64];omega
   obtain⟨V2,hV2⟩:∃V,wr.alloc (.cells #[.int .i64 op,.int .i64 d,.int .i64 a,.int .i64 b,.int .i64 e,.int .i64 n,.int .u32 z] 44)=V:=⟨_,rfl⟩
   have HV2:Hid (Below wr.heap.size wr V2):=by rw[←hV2];exact A0 _ _
   have hX2:V2.rowIs wr.heap.size 44 7 (JX op d a b e n z):=by rw[←hV2];exact Bq wr _ _
   have x0:V2.cell? ⟨wr.heap.size,0,none⟩=some (.int .i64 op):=hX2.cell (i:=0) dE;have x1:V2.cell? ⟨wr.heap.size,1,none⟩=some (.int .i64 d):=hX2.cell (i:=1) dE;have x2:V2.cell? ⟨wr.heap.size,2,none⟩=some (.int .i64 a):=hX2.cell (i:=2) dE;have x3:V2.cell? ⟨wr.heap.size,3,none⟩=some (.int .i64 b):=hX2.cell (i:=3) dE;have x4:V2.cell? ⟨wr.heap.size,4,none⟩=some (.int .i64 e):=hX2.cell (i:=4) dE;have x5:V2.cell? ⟨wr.heap.size,5,none⟩=some (.int .i64 n):=hX2.cell (i:=5) dE;have x6:V2.cell? ⟨wr.heap.size,6,none⟩=some (.int .u32 z):=hX2.cell (i:=6) dE;unfold AS at KT;simp only at KT;clear hwk hcl hi hsu hbj hnm llb hX2;go_wp2_with(go_at_call 28;(with_reducible refine(KT.out _ HV2.out).mono ?_);rintro e9 w4 ⟨rfl,hb4,nm',vk',vo',vl',tag',hn4,hw4⟩;have HB4:=A9 hb4;have HW4:=A9 hw4;have HN4:=A9 hn4;clear hb4 hw4 hn4);go_roundw
   case rel=>
    refine⟨j+1,oM,gN,?_,nm',vk',vo',vl',tag',by have:=HN4.out;have:=HNM.out;omega,HW4.out⟩;exact HJ.out.1.trans ((HV2.out.mono HLE.out).trans HB4.out)
   case measure=>simp[intOf];omega
  ·have e1:¬ (j:Int)<(N3:Int):=oM;have hje:j=c.list.length:=by have:=HN.out;omega
   obtain⟨hbj,nm,vk,vo,vl,tag,hnm,hwk⟩:=HJ.out;have HLF:Hid (wr.ownsRow E 44 7 vl (BA c).length ((BA c).flatMap DO)):=by
    have h9:=hwk.left;rw[hje,X4]at h9;exact h9
   have b6:=hwk.b6;have nB:¬B=w.heap.size+1:=by have:=hwk.hB;have:=HEN.out.1;omega
   have HWL:Hid (w.heap.size+1<wr.heap.size):=by have:=hwk.lt;have h8:=HEN.out.1;show _<_;omega
   have HBX:Hid (∀v,Below wr.heap.size wr v->v.cell? ⟨w.heap.size,0,none⟩=some (.slice p0 N0 q0)/\v.cell? ⟨w.heap.size,1,none⟩=some (.slice p1 N1 q1)/\v.cell? ⟨w.heap.size,2,none⟩=some (.slice p2 N2 q2)/\v.cell? ⟨B,6,none⟩=some vl/\v.rowIs (w.heap.size+1) 27 4 (DJ #[.slice none 0 0,.slice none 0 0,.slice none 0 0,.slice none 0 0])):=fun v hv=>by
    have k:∀ {a:Addr} {x:Value},a.block<E->w1.cell? a=some x->v.cell? a=some x:=fun{a x} ha hx=>kc hv ((World.cell?_of_block (hbj.block a.block ha)).trans hx);have h1:=HEN.out.1;refine⟨k Zhl c0,k Zhl c1,k Zhl c2,kc hv b6,?_⟩;have h2:=HR1.out.of_block (hbj.block _ h1);exact h2.of_block (hv.block _ h2.lt)
   obtain⟨g0,g1,g2,g6,-⟩:=HBX.out wr (Bl _);obtain⟨pl,nl,ql,rfl⟩:∃p n q,vl=.slice p n q:=by obtain⟨p,q,e⟩:=AR HLF.out;exact⟨p,_,q,e⟩
   clear hlt hwk hbj hnm hje b6 HJ c0 c1 c2 c3 HR HR1 HTK HD KC;go_wp2;refine rG (fun v=>v.cell? ⟨w.heap.size,0,none⟩=some (.slice p0 N0 q0)/\v.cell? ⟨w.heap.size,1,none⟩=some (.slice p1 N1 q1)/\v.cell? ⟨w.heap.size,2,none⟩=some (.slice p2 N2 q2)/\v.cell? ⟨B,6,none⟩=some (.slice pl nl ql)) fun hHeld=>?_;refine Tf 0 1 3 4 6 7 ?_;refine Tc 9 10 11 ?_;refine Bo 12 ?_;clear hHeld;refine AC 2 fun K hK=>?_;go_simp;(go_at_call 29;(with_reducible refine(K0.out _ (bel HBE.out (C7 _))).mono ?_);rintro e u1 ⟨s0,d0,rfl,hr0,hb2⟩;have HR0:=A9 hr0;have HU1:Hid (Below wr.heap.size wr u1):=bel (C7 _) hb2;obtain⟨g0,g1,g2,g6,-⟩:=HBX.out u1 HU1.out;clear hr0 hb2);try(go_wp2_with fail)
   refine Aw hK fun hHeld=>?_;clear hK K;clear hHeld;refine AC 5 fun K hK=>?_;go_simp;(go_at_call 30;(with_reducible refine(K1.out _ (bel HBE.out HU1.out)).mono ?_);rintro e u2 ⟨s1,d1,rfl,hr1,hb2⟩;have HR1:=A9 hr1;have HU2:=A9 hb2;obtain⟨g0,g1,g2,g6,-⟩:=HBX.out u2 (bel HU1.out HU2.out);clear hr1 hb2);try(go_wp2_with fail)
   refine Aw hK fun hHeld=>?_;clear hK K;clear hHeld;refine AC 8 fun K hK=>?_;go_simp;(go_at_call 31;(with_reducible refine(K2.out _ (bel HBE.out (bel HU1.out HU2.out))).mono ?_);rintro e u3 ⟨s2,d2,rfl,hr2,hb2⟩;have HR2:=A9 hr2;have HU3:=A9 hb2;obtain⟨g0,g1,g2,g6,hrw⟩:=HBX.out u3 (bel HU1.out (bel HU2.out HU3.out));have HRW:=A9 hrw;have kB:=YC g6 nB;have r0:u3.cell? ⟨w.heap.size+1,0,none⟩=some (.slice none 0 0):=hrw.cell (i:=0) dE;have r1:u3.cell? ⟨w.heap.size+1,1,none⟩=some (.slice none 0 0):=hrw.cell (i:=1) dE;have r2:u3.cell? ⟨w.heap.size+1,2,none⟩=some (.slice none 0 0):=hrw.cell (i:=2) dE;have r3:u3.cell? ⟨w.heap.size+1,3,none⟩=some (.slice none 0 0):=hrw.cell (i:=3) dE;have f0:=hrw.frozen 0;have f1:=hrw.frozen 1;have f2:=hrw.frozen 2;have f3:=hrw.frozen 3;clear hr2 hb2 hrw);try(go_wp2_with fail)
   refine Aw hK fun hHeld=>?_;clear hK K;refine Bo 13 ?_;clear hHeld;refine AC 14 fun K hK=>?_;go_simp;refine Aw hK fun hHeld=>?_;clear hK K;refine Bo 15 ?_;refine wpAnyH_done kR ?_ _;go_wp2;refine bodyPost_ret (by simp[results,results9,go_sem, *];try rfl) rfl ?_;obtain⟨rfl,rfl,rfl,rfl⟩:=HN.out;have k4:∀b,b≠w.heap.size+1->((((u3.setCell ⟨w.heap.size+1,0,none⟩ (.slice s0 c.sign.length d0)).setCell ⟨w.heap.size+1,1,none⟩ (.slice s1 c.regs.length d1)).setCell ⟨w.heap.size+1,2,none⟩ (.slice s2 c.slots.length d2)).setCell ⟨w.heap.size+1,3,none⟩ (.slice pl nl ql)).heap[b]? =u3.heap[b]? :=fun b hb=>(Below.heap_setCell _ _ _ _ hb).trans ((Below.heap_setCell _ _ _ _ hb).trans ((Below.heap_setCell _ _ _ _ hb).trans (Below.heap_setCell _ _ _ _ hb)));have hwl:=HWL.out;have l1:=HU1.out.size;have l2:=HU2.out.size;have o0:=Ae (Ak HR0.out (bel HU2.out HU3.out)) (fun g hg=>k4 g (by have h9:=(HR0.out.lt g hg).1;have h8:wr.heap.size<=g:=h9;omega));have o1:=Ae (Ak HR1.out HU3.out) (fun g hg=>k4 g (by have h9:=(HR1.out.lt g hg).1;omega));have o2:=Ae HR2.out (fun g hg=>k4 g (by have h9:=(HR2.out.lt g hg).1;omega));have o3:=Ae (Ak HLF.out (bel HU1.out (bel HU2.out HU3.out))) (fun g hg=>k4 g (by have h9:=(HLF.out.lt g hg).1;have:=HEN.out;omega));have hO:WA w.heap.size _ (.slice s0 c.sign.length d0) (.slice s1 c.regs.length d1) (.slice s2 c.slots.length d2) (.slice pl nl ql) (A4 c):=⟨BP o0 (by have h8:wr.drew.heap.size=wr.heap.size:=rfl;omega),BP o1 oM,BP o2 oM,BP o3 HEN.out.2⟩
   have hle:w.heap.size<=w.heap.size+1:=Nat.le_succ _;exact⟨_,_,_,_,rfl,⟨CC EV hO.sign,CC Gc hO.regs,CC Hg hO.slots,CC G2 hO.list⟩,hO,((((bel HBE.out (bel HU1.out (bel HU2.out HU3.out))).setCell hle _).setCell hle _).setCell hle _).setCell hle _⟩
theorem YD(i:Af):NV i=Ab i:=by
 unfold NV Ab;cases h:((A5 i.op).d != 0)with
 |false=>
  have:(A5 i.op).d=0:=by simpa using h
  simp[this]
 |true=>
  have:(A5 i.op).d≠0:=by simpa using h
  simp[this]
def IE(n:Nat)(l:List Af):List Value:=(List.range n).map fun r=>.bool (decide (r∈GI l))
theorem Hb(n:Nat)(l:List Af):(IE n l).length=n:=by unfold IE;simp
theorem IV{n:Nat}(l:List Af){r:Nat}(h:r<n):(IE n l)[r]? =some (.bool (decide (r∈GI l))):=by unfold IE;simp[h]
theorem VU(n:Nat):IE n []=List.replicate n (.bool false):=by
 apply List.ext_getElem?;intro k;by_cases hk:k<n
 ·rw[IV _ hk,List.getElem?_replicate,if_pos hk];simp[GI]
 ·rw[List.getElem?_eq_none (by rw[Hb];omega),List.getElem?_eq_none sO]
theorem GJ(i:Af):GI [i]=if Ab i=true then [i.d.toNat]else []:=by
 unfold GI;by_cases h:Ab i=true
 ·simp[h]
 ·simp[h]
theorem SL{n:Nat}{l:List Af}{i:Af}(h:Ab i=false):IE n (l++[i])=IE n l:=by
 unfold IE;rw[Cn,GJ,if_neg (by rw[h];simp),List.append_nil]
theorem SJ{n:Nat}{l:List Af}{i:Af}(h:Ab i=true){D:Nat}(hD:D<n)(e:i.d.toNat=D):(IE n l).set D (.bool true)=IE n (l++[i]):=by
 apply List.ext_getElem?;intro k;by_cases hk:k<n
 ·rw[IV _ hk,Cn,GJ,if_pos h,List.getElem?_set];by_cases h2:D=k
  ·subst h2;rw[if_pos rfl,if_pos (by rw[Hb];exact hD)];simp[e]
  ·rw[if_neg h2,IV _ hk];simp only[List.mem_append,List.mem_singleton,e];congr 2;simp[Ne.symm h2]
 ·rw[List.getElem?_eq_none (by rw[List.length_set,Hb];omega),List.getElem?_eq_none (by rw[Hb];omega)]
theorem O2{l:List Af}{i:Af}(h:Ab i=false)(hl:B4 l):B4 (l++[i]):=by
 unfold B4 at *;rw[Cn,GJ,if_neg (by rw[h];simp),List.append_nil];exact hl
theorem O1{l:List Af}{i:Af}(h:Ab i=true)(hl:B4 l)(hn:i.d.toNat∉GI l):B4 (l++[i]):=by
 unfold B4 at *;rw[Cn,GJ,if_pos h];rw[List.nodup_append];exact⟨hl,sM,fun a ha b hb e=>by simp at hb;subst hb;subst e;exact hn ha⟩
theorem PF{l:List Af}{j:Nat}(hj:j<l.length)(h:Ab l[j]=true)(hm:l[j].d.toNat∈GI (l.take j)):¬B4 l:=fun hs=>by
 have e:l=l.take j++l[j]::l.drop (j+1):=by rw[←List.drop_eq_getElem_cons hj,List.take_append_drop]
 unfold B4 at hs;rw[e,show l.take j++l[j]::l.drop (j+1)=(l.take j++[l[j]])++l.drop (j+1) by simp,Cn,Cn,GJ,if_pos h]at hs;have h2:=(List.nodup_append.1 hs).1;exact(List.nodup_append.1 h2).2.2 _ hm _ sM rfl
theorem Mz(v0 v1 v2 v3:Value)(c:Cd)(hd:∀i∈c.list,Ab i=true->0<=i.d/\i.d<(c.regs.length:Int))(hR:c.regs.length<=16384)(hL:c.list.length<=32768)(w:World)(hv:Cr w v0 v1 v2 v3 c):
 Calls prog 16 #[.agg #[v0,v1,v2,v3]] w fun e w'=>∃b,e=.returned (.bool b)/\(b=true↔B4 c.list)/\Below w.heap.size w w':=by
 obtain⟨p1,q1,rfl⟩:∃p q,v1=.slice p c.regs.length q:=by obtain⟨p,q,e,_⟩:=hv.regs;exact⟨p,q,e⟩
 obtain⟨p3,q3,rfl⟩:∃p q,v3=.slice p c.list.length q:=by obtain⟨p,q,e,_⟩:=hv.list;exact⟨p,q,e⟩
 have HVL:=A9 hv.list;have HD:=A9 hd;obtain⟨N3,hN3⟩:∃N,c.list.length=N:=⟨_,rfl⟩
 obtain⟨N1,hN1⟩:∃N,c.regs.length=N:=⟨_,rfl⟩
 have HN:=A9 (And.intro hN1 hN3);rw[hN3]at hL HVL ⊢;rw[hN1]at hR HD ⊢;obtain⟨W0,hW0⟩:∃W,w.alloc (.cells #[v0,.slice p1 N1 q1,v2,.slice p3 N3 q3] 27)=W:=⟨_,rfl⟩
 have HW0:Hid (Below w.heap.size w W0/\W0.heap.size=w.heap.size+1):=by rw[←hW0];exact⟨A0 _ _,sM⟩
 have b1:W0.cell? ⟨w.heap.size,1,none⟩=some (.slice p1 N1 q1):=by rw[←hW0];simp[go_sem]
 have b3:W0.cell? ⟨w.heap.size,3,none⟩=some (.slice p3 N3 q3):=by rw[←hW0];simp[go_sem]
 clear hv hd hN3 hN1;go_enter func16,ntmps16;go_upto_block 0 with fail;try rw[hW0]
 clear hW0;go_wp2_with fail
 go_loopw [3,4] (fun ov iv wr=>∃ (j:Nat) (pp:Option Addr) (qq:Nat),j<=N1/\iv=.int .i64 (j:Int)/\ov=.slice pp j qq/\Hid (Below W0.heap.size W0 wr/\wr.ownsRow W0.heap.size 4 1 (.slice pp j qq) j (List.replicate j (.bool false)))) (fun _ iv _=>N1-(intOf iv).toNat)
 case atStart=>exact⟨0,none,0,Nat.zero_le _,rfl,rfl,Bl _,World.ownsRow_nil _ _ _ 1⟩
 case round=>
  obtain⟨j,pp,qq,hj,rfl,rfl,HR⟩:=hrel;obtain⟨hb,how⟩:=HR.out;have c1:=kc hb b1;have c3:=kc hb b3;by_cases hlt:j<N1
  ·obtain⟨g,c',w8,hap,hb8,ho8⟩:=MO how hb.size oM;have HNX:Hid (Below W0.heap.size W0 w8/\w8.ownsRow W0.heap.size 4 1 (.slice (some ⟨g,0,none⟩) (j+1) c') (j+1) (List.replicate (j+1) (.bool false))):=by
    refine⟨hb.trans hb8,?_⟩;rw[List.replicate_succ'];exact ho8
   have HAP:=A9 hap;have t0:(j:Int)<(N1:Int):=oM;have t5:IntKind.i64.wrap ((j:Int)+1)=((j+1:Nat):Int):=by rw[IntKind.wrap_i64];omega
   clear hap hb8 ho8 hb how b3 b1;go_wp2_with(at_builtin;refine AD rF _ _ _ rF _ _ _ rF rF HAP.out ?_);go_roundw
   case rel=>exact⟨j+1,_,_,oM,gN,rfl,HNX.out⟩
   case measure=>simp[intOf];omega
  ·have hje:j=N1:=oM;subst hje;have t0:¬ (j:Int)<(j:Int):=oM;have HST:Hid (Below W0.heap.size W0 wr/\wr.ownsRow W0.heap.size 4 1 (.slice pp j qq) j (IE j (c.list.take 0))/\B4 (c.list.take 0)):=⟨hb,by rw[List.take_zero,VU];exact how,by rw[List.take_zero];exact List.nodup_nil⟩
   have HB3:Hid (∀v,Below W0.heap.size W0 v->v.cell? ⟨w.heap.size,3,none⟩=some (.slice p3 N3 q3)):=fun v hb=>kc hb b3;rename World=>W1;clear hb how HR hlt b3 b1;go_wp2;clear c1 c3 t0
   go_loopw [5] (fun iv wr=>∃k:Nat,k<=N3/\iv=.int .i64 (k:Int)/\Hid (Below W0.heap.size W0 wr/\wr.ownsRow W0.heap.size 4 1 (.slice pp j qq) j (IE j (c.list.take k))/\B4 (c.list.take k))) (fun iv _=>N3-(intOf iv).toNat)
   case atStart=>exact⟨0,Nat.zero_le _,rfl,HST.out⟩
   case round=>
    clear HST;obtain⟨k,hk,rfl,HJ⟩:=hrel;have b3:=HB3.out wr HJ.out.1;have HBW:Hid (Below w.heap.size w wr):=HW0.out.1.trans (HJ.out.1.mono HW0.out.1.size);by_cases hlt:k<N3
    ·have hjl:k<c.list.length:=by rw[HN.out.2];exact hlt
     obtain⟨lb,lo,rfl,hcl⟩:=(HVL.out.below HBW.out).at hjl;have hdi:=HD.out _ (List.getElem_mem hjl);have htk:c.list.take (k+1)=c.list.take k++[c.list[k]]:=List.take_succ_eq_append_getElem hjl;have KS:Hid (∀v,Calls prog 36 #[AS c.list[k]] v fun e w'=>e=.returned (.bool (Ab c.list[k]))/\Below v.heap.size v w'):=fun v=>by rw[←YD];exact Lx _ v
     have hnot:=PF hjl;obtain⟨⟨op,d,a,b,e,n,z⟩,hi⟩:∃i,c.list[k]=i:=⟨_,rfl⟩
     rw[hi]at hcl hdi htk KS hnot;simp only at hdi hnot;unfold AS at KS;simp only at KS;have HTK:=A9 htk;have y0:=hcl.at 0 (v:=.int .i64 op) rfl;rw[Nat.add_zero]at y0;have y1:=hcl.at 1 (v:=.int .i64 d) rfl;have y2:=hcl.at 2 (v:=.int .i64 a) rfl;have y3:=hcl.at 3 (v:=.int .i64 b) rfl;have y4:=hcl.at 4 (v:=.int .i64 e) rfl;have y5:=hcl.at 5 (v:=.int .i64 n) rfl;have y6:=hcl.at 6 (v:=.int .u32 z) rfl;have i1:(0:Int)<=(k:Int):=oM;have i2:(k:Int)<(N3:Int):=oM;have wi:IntKind.i64.wrap ((k:Int)+1)=((k+1:Nat):Int):=by rw[IntKind.wrap_i64];omega
     obtain⟨V2,hV2⟩:∃V,wr.alloc (.cells #[.int .i64 op,.int .i64 d,.int .i64 a,.int .i64 b,.int .i64 e,.int .i64 n,.int .u32 z] 44)=V:=⟨_,rfl⟩
     have HV2:Hid (Below wr.heap.size wr V2):=by rw[←hV2];exact A0 _ _
     have hX2:V2.rowIs wr.heap.size 44 7 (JX op d a b e n z):=by rw[←hV2];exact Bq wr _ _
     have HX2:=A9 hX2;have x0:V2.cell? ⟨wr.heap.size,0,none⟩=some (.int .i64 op):=hX2.cell (i:=0) dE;have x1:V2.cell? ⟨wr.heap.size,1,none⟩=some (.int .i64 d):=hX2.cell (i:=1) dE;have x2:V2.cell? ⟨wr.heap.size,2,none⟩=some (.int .i64 a):=hX2.cell (i:=2) dE;have x3:V2.cell? ⟨wr.heap.size,3,none⟩=some (.int .i64 b):=hX2.cell (i:=3) dE;have x4:V2.cell? ⟨wr.heap.size,4,none⟩=some (.int .i64 e):=hX2.cell (i:=4) dE;have x5:V2.cell? ⟨wr.heap.size,5,none⟩=some (.int .i64 n):=hX2.cell (i:=5) dE;have x6:V2.cell? ⟨wr.heap.size,6,none⟩=some (.int .u32 z):=hX2.cell (i:=6) dE;clear hX2 hcl hi htk;cases hS:Ab (⟨op,d,a,b,e,n,z⟩:Af)with
     |false=>
      rw[hS]at KS;have HSB:=A9 hS;clear hS hnot hdi;go_wp2_with(go_at_call 36;(with_reducible refine(KS.out _).mono ?_);rintro e9 w4 ⟨rfl,hb4⟩;have HB4:=A9 (bel HV2.out hb4);clear hb4);go_roundw
      case rel=>
       refine⟨k+1,oM,gN,HJ.out.1.trans (HB4.out.mono HJ.out.1.size),?_,?_⟩
       ·rw[HTK.out,SL HSB.out];exact Ak HJ.out.2.1 HB4.out
       ·rw[HTK.out];exact O2 HSB.out HJ.out.2.2
      case measure=>simp[intOf];omega
     |true=>
      rw[hS]at KS;obtain⟨d0,d1⟩:=hdi hS;obtain⟨D,rfl⟩:=Int.eq_ofNat_of_zero_le d0;have hDN:D<j:=oM;obtain⟨g,cap,e9,hg1,hg2⟩:=HJ.out.2.1.form oM;simp only[Value.slice.injEq]at e9;obtain⟨rfl,-,rfl⟩:=e9;have HSB:=A9 hS;have i3:(0:Int)<=(D:Int):=oM;have i4:(D:Int)<(j:Int):=oM;have KF:Hid (∀v,Below wr.heap.size wr v->v.cell? ⟨g,D,none⟩=some (.bool (decide (D∈GI (c.list.take k))))/\v.frozen? ⟨g,D,none⟩=false/\v.cell? ⟨wr.heap.size,1,none⟩=v.cell? ⟨wr.heap.size,1,none⟩):=fun v hb=>by
       have h9:=Ak HJ.out.2.1 hb;exact⟨by rw[h9.cellAt D oM,IV _ hDN],h9.frozenAt D,rfl⟩
      have hdn:hS=hS:=rfl;by_cases hm:D∈GI (c.list.take k)
      ·have hns:=hnot hS (by simpa using hm);have HNS:=A9 hns;rw[decide_eq_true hm]at KF;clear hnot hdi hS hdn d0 d1 hg1 hg2 hns hm;go_wp2_with(go_at_call 36;(with_reducible refine(KS.out _).mono ?_);rintro e9 w4 ⟨rfl,hb4⟩;have HB4:=A9 (bel HV2.out hb4);obtain⟨k0,k1,-⟩:=KF.out w4 HB4.out;have u1:w4.cell? ⟨wr.heap.size,1,none⟩=some (.int .i64 (D:Int)):=kc hb4 x1;clear hb4);go_ret;exact⟨false,rfl,⟨fun h=>YU,fun h=>absurd h HNS.out⟩,bel HBW.out HB4.out⟩
      ·have HNM:=A9 hm;rw[decide_eq_false hm]at KF;have HG:Hid (W0.heap.size<=g):=hg1;clear hnot hdi hS hdn d0 d1 hg1 hg2 hm;go_wp2_with(go_at_call 36;(with_reducible refine(KS.out _).mono ?_);rintro e9 w4 ⟨rfl,hb4⟩;have HB4:=A9 (bel HV2.out hb4);obtain⟨k0,k1,-⟩:=KF.out w4 HB4.out;have u1:w4.cell? ⟨wr.heap.size,1,none⟩=some (.int .i64 (D:Int)):=kc hb4 x1;clear hb4);go_roundw
       case rel=>
        refine⟨k+1,oM,gN,(HJ.out.1.trans (HB4.out.mono HJ.out.1.size)).setCell HG.out _,?_,?_⟩
        ·rw[HTK.out,←SJ (D:=D) HSB.out oM rfl];exact((Ak HJ.out.2.1 HB4.out).stored D _).1
        ·rw[HTK.out];exact O1 HSB.out HJ.out.2.2 (by simpa using HNM.out)
       case measure=>simp[intOf];omega
    ·have hje:k=c.list.length:=by rw[HN.out.2];omega
     have e1:¬ (k:Int)<(N3:Int):=oM;have HFN:Hid (B4 c.list):=by
      have h9:=HJ.out.2.2;rw[hje,List.take_length]at h9;exact h9
     clear hlt hje;go_wp2;go_ret;exact .inr ⟨rfl,HFN.out,HBW.out⟩
end Go.Proofs.YtcdpmgldkibfiaaGreat
