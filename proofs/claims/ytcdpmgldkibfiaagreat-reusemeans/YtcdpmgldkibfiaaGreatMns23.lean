import Derived.Test.YtcdpmgldkibfiaaGreatMns1
import Derived.Test.YtcdpmgldkibfiaaGreatMns21
import Derived.Deep.DeepCutAuto
import Derived.Test.YtcdpmgldkibfiaaGreatMns19
import Derived.Test.YtcdpmgldkibfiaaGreatMns12
import Derived.Test.YtcdpmgldkibfiaaGreatMns17
namespace Go.Proofs.YtcdpmgldkibfiaaGreat
open Go.RowKit Go.Proofs.Tryz
set_option linter.all false
set_option maxRecDepth 100000
set_option maxHeartbeats 16000000
def Il(l:List Af)(r:Nat):Nat:=(l.filter fun i=>Ag i&&decide (i.d.toNat=r)).length
theorem Kb(l:List Af)(i:Af)(r:Nat):Il (l++[i]) r=Il l r+(if Ag i=true/\i.d.toNat=r then 1 else 0):=by
 unfold Il;rw[List.filter_append,List.length_append];congr 1;by_cases h1:Ag i=true
 ·by_cases h2:i.d.toNat=r
  ·rw[if_pos ⟨h1,h2⟩];simp[h1,h2]
  ·rw[if_neg (fun q=>h2 q.2)];simp[h2]
 ·rw[if_neg (fun q=>h1 q.1)];have h3:Ag i=false:=by simpa using h1
  simp[h3]
theorem Wc(l:List Af)(r:Nat):Il l r<=l.length:=List.length_filter_le _ _
theorem Ir.keep{w v v':World}{N C B SB IB MB:Nat}{f g:Nat->Value}{tag:Nat->Nat}(h:Ir w N C f g B SB IB MB tag v)(hb:Below v.heap.size v v'):Ir w N C f g B SB IB MB tag v':=
 ⟨h.bel.trans (hb.mono h.bel.size),h.b.of_block (hb.block _ h.b.lt),h.st.of_block (hb.block _ h.st.lt),h.ir.of_block (hb.block _ h.ir.lt),h.map.below hb,h.hB,h.hS,h.hI,h.hM,h.tB,h.tS,h.tI,h.tM⟩
theorem Ir.far{w v:World}{N C B SB IB MB:Nat}{f g:Nat->Value}{tag:Nat->Nat}(h:Ir w N C f g B SB IB MB tag v){a:Addr}(ha:w.heap.size<=a.block)(h1:B≠a.block)(h2:SB≠a.block)(h3:IB≠a.block)(h4:MB≠a.block)(x:Value):Ir w N C f g B SB IB MB tag (v.setCell a x):=
 ⟨h.bel.setCell ha x,h.b.setOther h1 x,h.st.setOther h2 x,h.ir.setOther h3 x,h.map.block (Below.heap_setCell _ _ _ _ h4),h.hB,h.hS,h.hI,h.hM,h.tB,h.tS,h.tI,h.tM⟩
theorem Ir.setSt{w v:World}{N C B SB IB MB:Nat}{f g:Nat->Value}{tag:Nat->Nat}(h:Ir w N C f g B SB IB MB tag v)(j:Nat)(x:Value):Ir w N C (fun r=>if r=j then x else f r) g B SB IB MB tag (v.setCell ⟨SB,j,none⟩ x):=
 ⟨h.bel.setCell h.hS x,h.b.setOther (AB h.tB h.tS dE) x,h.st.set j x,h.ir.setOther (AB h.tI h.tS dE) x,h.map.block (Below.heap_setCell _ _ _ _ (AB h.tM h.tS dE)),h.hB,h.hS,h.hI,h.hM,h.tB,h.tS,h.tI,h.tM⟩
theorem Ir.setIr{w v:World}{N C B SB IB MB:Nat}{f g:Nat->Value}{tag:Nat->Nat}(h:Ir w N C f g B SB IB MB tag v)(j:Nat)(x:Value):Ir w N C f (fun r=>if r=j then x else g r) B SB IB MB tag (v.setCell ⟨IB,j,none⟩ x):=
 ⟨h.bel.setCell h.hI x,h.b.setOther (AB h.tB h.tI dE) x,h.st.setOther (AB h.tS h.tI dE) x,h.ir.set j x,h.map.block (Below.heap_setCell _ _ _ _ (AB h.tM h.tI dE)),h.hB,h.hS,h.hI,h.hM,h.tB,h.tS,h.tI,h.tM⟩
theorem Ir.of{w v:World}{N C B SB IB MB:Nat}{f g f' g':Nat->Value}{tag:Nat->Nat}(h:Ir w N C f g B SB IB MB tag v)(e1:∀r,r<N->f r=f' r)(e2:∀r,r<N->g r=g' r):Ir w N C f' g' B SB IB MB tag v:=
 ⟨h.bel,h.b,h.st.congr e1,h.ir.congr e2,h.map,h.hB,h.hS,h.hI,h.hM,h.tB,h.tS,h.tI,h.tM⟩
theorem VA(c:Cd)(C q1 q3:Nat)(p1 p3:Option Addr)(w:World)(hN:c.regs.length<=16384)(hL:c.list.length<=32768)(hC1:w.cell? ⟨C,1,none⟩=some (.slice p1 c.regs.length q1))(hC3:w.cell? ⟨C,3,none⟩=some (.slice p3 c.list.length q3))(hl:Be 7 DK w (.slice p3 c.list.length q3) c.list)(hd:∀i∈c.list,Ag i=true->0<=i.d/\i.d<(c.regs.length:Int)):
 Calls prog 27 #[.pointer (some ⟨C,0,none⟩)] w fun e w'=>∃B SB IB MB tag,e=.returned (.pointer (some ⟨B,0,none⟩))/\Ir w c.regs.length C (fun r=>.bool (AD c.list r)) (fun r=>.int .i64 (r:Int)) B SB IB MB tag w':=by
 have HL:=A9 hl;have HD:=A9 hd;obtain⟨N,hNe⟩:∃N,c.regs.length=N:=⟨_,rfl⟩
 obtain⟨M,hMe⟩:∃M,c.list.length=M:=⟨_,rfl⟩
 rw[hNe]at hC1 hN HD ⊢;rw[hMe]at hC3 hL HL;have HM:=A9 hMe;have m1:=fun v=>YO N oM v;have m2:=fun v=>Tz N oM v;have hmm:=@run_makeMap prog;have lC:C<w.heap.size:=A5 hC1;have n0:¬C=w.heap.size:=oM;have n1:¬C=w.heap.size+1:=oM;have n2:¬C=w.heap.size+1+1:=oM;have n3:¬C=w.heap.size+1+1+1:=oM;have kC3:∀o1 o2 o3,(((w.alloc o1).alloc o2).alloc o3).cell? ⟨C,1,none⟩=some (.slice p1 N q1):=fun o1 o2 o3=>kc (bel (bel (A0 _ _) (A0 _ _)) (A0 _ _)) hC1;have kC4:∀o1 o2 o3 o4,((((w.alloc o1).alloc o2).alloc o3).alloc o4).cell? ⟨C,1,none⟩=some (.slice p1 N q1):=fun o1 o2 o3 o4=>kc (bel (bel (bel (A0 _ _) (A0 _ _)) (A0 _ _)) (A0 _ _)) hC1;clear hl hd hNe hMe;go_enter func27,ntmps27;go_upto_region 1 with fail;go_cut [3] (fun bv wx=>∃B SB IB MB tag,bv=.pointer (some ⟨B,0,none⟩)/\Ir w N C (fun _=>.bool false) (fun _=>.int .i64 0) B SB IB MB tag wx)
 case first=>
  refine rG (fun v=>v.cell? ⟨C,1,none⟩=some (.slice p1 N q1)) fun hHeld=>?_;refine Tf 0 1 2 3 4 5 ?_;refine Tc 7 8 9 ?_;refine Tb 10 11 ?_;clear hHeld;refine wpAnyH_ready (rs:=[6,12,13]) kR sM ?_;refine Fa 6 (fun K hK=>?_) ?_
  ·go_simp;refine Au hK fun hHeld=>?_;clear hK K;clear hHeld;refine wpAnyH_ready (rs:=[12,13]) kR sM ?_;refine Fa 12 (fun K hK=>?_) ?_
   ·go_simp;refine Au hK fun hHeld=>?_;clear hK K;clear hHeld;refine Az 13 fun K hK=>?_;exact Zn
   refine Fa 13 (fun K hK=>?_) AllReadyH.nil;go_simp;refine Au hK fun hHeld=>?_;clear hK K;clear hHeld;refine Az 12 fun K hK=>?_;exact Zn
  refine Fa 12 (fun K hK=>?_) ?_
  ·go_simp;refine Au hK fun hHeld=>?_;clear hK K;clear hHeld;refine wpAnyH_ready (rs:=[6,13]) kR sM ?_;refine Fa 6 (fun K hK=>?_) ?_
   ·go_simp;refine Au hK fun hHeld=>?_;clear hK K;clear hHeld;refine Az 13 fun K hK=>?_;exact Zn
   refine Fa 13 (fun K hK=>?_) AllReadyH.nil;go_simp;refine Au hK fun hHeld=>?_;clear hK K;clear hHeld;refine Az 6 fun K hK=>?_;exact Zn
  refine Fa 13 (fun K hK=>?_) AllReadyH.nil;go_simp;refine Au hK fun hHeld=>?_;clear hK K;clear hHeld;refine wpAnyH_ready (rs:=[6,12]) kR sM ?_;refine Fa 6 (fun K hK=>?_) ?_
  ·go_simp;refine Au hK fun hHeld=>?_;clear hK K;clear hHeld;refine Az 12 fun K hK=>?_;exact Zn
  refine Fa 12 (fun K hK=>?_) AllReadyH.nil;go_simp;refine Au hK fun hHeld=>?_;clear hK K;clear hHeld;refine Az 6 fun K hK=>?_;exact Zn
 case rest=>
  obtain⟨B,SB,IB,MB,tag,rfl,hnw⟩:=hcut;have HNW:=A9 hnw;have d1:=kc hnw.bel hC1;have d3:=kc hnw.bel hC3;obtain⟨ZB,hZB⟩:∃Z,wc.heap.size=Z:=⟨_,rfl⟩
  have HLZ:Hid (B<ZB/\SB<ZB/\IB<ZB/\MB<ZB/\w.heap.size<=ZB):=by rw[←hZB];exact⟨hnw.b.lt,hnw.st.lt,hnw.ir.lt,hnw.map.lt,hnw.bel.size⟩
  obtain⟨V,hV⟩:∃V,wc.alloc (.cells (madeCells #[.int .i64 0] N) 3)=V:=⟨_,rfl⟩
  have HBV:Hid (Below wc.heap.size wc V):=by rw[←hV];exact A0 _ _
  have HZV:Hid (V.rowIs ZB 3 N (fun r=>.int .i64 (Il (c.list.take 0) r:Int))):=by rw[←hV,←hZB];exact World.rowIs_made wc (.int .i64 0) N 3
  have d3':=kc HBV.out d3;have d1':=kc HBV.out d1;clear hnw n0 n1 n2 n3 kC3 kC4;go_wp2;have HV0:Hid (Ir w N C (fun _=>.bool false) (fun _=>.int .i64 0) B SB IB MB tag V):=HNW.out.keep HBV.out;clear d1 d3 d1' d3' HNW HBV hV
  go_loopw [36] (fun iv wr=>∃j:Nat,j<=M/\iv=.int .i64 (j:Int)/\Hid (Ir w N C (fun _=>.bool false) (fun _=>.int .i64 0) B SB IB MB tag wr/\wr.rowIs ZB 3 N (fun r=>.int .i64 (Il (c.list.take j) r:Int)))) (fun iv _=>M-(intOf iv).toNat)
  case atStart=>exact⟨0,Nat.zero_le _,rfl,HV0.out,HZV.out⟩
  case round=>
   obtain⟨j,hj,rfl,HJ⟩:=hrel;by_cases hlt:j<M
   ·have hjl:j<c.list.length:=by have:=HM.out;omega
    obtain⟨lb,lo,rfl,hcl⟩:=(HL.out.below HJ.out.1.bel).at hjl;obtain⟨⟨op,d,a,b,e,n,z⟩,hi⟩:∃i,c.list[j]=i:=⟨_,rfl⟩
    have HDI:=A9 (HD.out _ (List.getElem_mem hjl));rw[hi]at hcl HDI;have htk:c.list.take (j+1)=c.list.take j++[⟨op,d,a,b,e,n,z⟩]:=by rw[List.take_succ_eq_append_getElem hjl,hi]
    have HTK:=A9 htk;have y0:=hcl.at 0 (v:=.int .i64 op) rfl;rw[Nat.add_zero]at y0;have y1:=hcl.at 1 (v:=.int .i64 d) rfl;have y2:=hcl.at 2 (v:=.int .i64 a) rfl;have y3:=hcl.at 3 (v:=.int .i64 b) rfl;have y4:=hcl.at 4 (v:=.int .i64 e) rfl;have y5:=hcl.at 5 (v:=.int .i64 n) rfl;have y6:=hcl.at 6 (v:=.int .u32 z) rfl;have llb:lb<wr.heap.size:=A5 y0;have n9:¬lb=wr.heap.size:=oM;have i1:(0:Int)<=(j:Int):=oM;have i2:(j:Int)<(M:Int):=oM;have wi:IntKind.i64.wrap ((j:Int)+1)=((j+1:Nat):Int):=by rw[IntKind.wrap_i64];omega
    obtain⟨V2,hV2⟩:∃V,wr.alloc (.cells #[.int .i64 op,.int .i64 d,.int .i64 a,.int .i64 b,.int .i64 e,.int .i64 n,.int .u32 z] 44)=V:=⟨_,rfl⟩
    have HB2:Hid (Below wr.heap.size wr V2):=by rw[←hV2];exact A0 _ _
    have hX2:V2.rowIs wr.heap.size 44 7 (JO op d a b e n z):=by rw[←hV2];exact BT wr _ _
    have HX2:=A9 hX2;have x0:V2.cell? ⟨wr.heap.size,0,none⟩=some (.int .i64 op):=hX2.cell (i:=0) dE;have x1:V2.cell? ⟨wr.heap.size,1,none⟩=some (.int .i64 d):=hX2.cell (i:=1) dE;have x2:V2.cell? ⟨wr.heap.size,2,none⟩=some (.int .i64 a):=hX2.cell (i:=2) dE;have x3:V2.cell? ⟨wr.heap.size,3,none⟩=some (.int .i64 b):=hX2.cell (i:=3) dE;have x4:V2.cell? ⟨wr.heap.size,4,none⟩=some (.int .i64 e):=hX2.cell (i:=4) dE;have x5:V2.cell? ⟨wr.heap.size,5,none⟩=some (.int .i64 n):=hX2.cell (i:=5) dE;have x6:V2.cell? ⟨wr.heap.size,6,none⟩=some (.int .u32 z):=hX2.cell (i:=6) dE;have KS:=A9 (fun v=>Ns ⟨op,d,a,b,e,n,z⟩ v);unfold AY at KS;simp only at KS;clear hX2 hcl htk hi llb;cases hS:((A4 op).d != 0)with
    |false=>
     simp only[hS]at KS;have hsb:Ag (⟨op,d,a,b,e,n,z⟩:Af)=false:=by simp only[Ag];simpa using hS
     have HSB:=A9 hsb;clear hS hsb;go_wp2_with(go_at_call 51;(with_reducible refine(KS.out _).mono ?_);rintro e9 w4 ⟨rfl,hb4⟩;have HB4:=A9 hb4;clear hb4);go_roundw
     case rel=>
      have hb:Below wr.heap.size wr w4:=bel HB2.out HB4.out;refine⟨j+1,oM,gN,HJ.out.1.keep hb,((HJ.out.2.of_block (hb.block _ HJ.out.2.lt))).congr fun r hr=>?_⟩;rw[HTK.out,Kb,if_neg (by rw[HSB.out];simp),Nat.add_zero]
     case measure=>simp[intOf];omega
    |true=>
     simp only[hS]at KS;have hsb:Ag (⟨op,d,a,b,e,n,z⟩:Af)=true:=by simp only[Ag];simpa using hS
     obtain⟨e0,e1⟩:=HDI.out hsb;simp only at e0 e1;obtain⟨D,rfl⟩:=Int.eq_ofNat_of_zero_le e0;have hDN:D<N:=oM;have HSB:=A9 hsb;have hcn:Il (c.list.take j) D<=32768:=by have h9:=Wc (c.list.take j) D;rw[List.length_take]at h9;omega
     obtain⟨K0,hK0⟩:∃K,Il (c.list.take j) D=K:=⟨_,rfl⟩
     rw[hK0]at hcn;have HK0:=A9 hK0;have wk:IntKind.i64.wrap ((K0:Int)+1)=((K0+1:Nat):Int):=by rw[IntKind.wrap_i64];omega
     clear hS hsb hK0;go_wp2_with(go_at_call 51;(with_reducible refine(KS.out _).mono ?_);rintro e9 w4 ⟨rfl,hb4⟩;have HB4:=A9 (bel HB2.out hb4);have hZ4:=HJ.out.2.of_block (HB4.out.block _ HJ.out.2.lt);have HZ4:=A9 hZ4;have s1:=hZ4.cell hDN;rw[HK0.out]at s1;have s2:=hZ4.frozen D;have x1':w4.cell? ⟨wr.heap.size,1,none⟩=some (.int .i64 (D:Int)):=kc hb4 x1;clear hZ4 hb4);go_roundw
     case rel=>
      obtain⟨z1,z2,z3,z4,z5⟩:=HLZ.out;refine⟨j+1,oM,gN,(HJ.out.1.keep HB4.out).far z5 (by show B≠ZB;omega) (by show SB≠ZB;omega) (by show IB≠ZB;omega) (by show MB≠ZB;omega) _,(HZ4.out.set D _).congr fun r hr=>?_⟩;rw[HTK.out,Kb];by_cases q:r=D
      ·rw[if_pos q,q,if_pos ⟨HSB.out,sM⟩,HK0.out];first|rfl|(congr 1;go_num)|simp
      ·rw[if_neg q,if_neg (fun t=>q (by have:=t.2;simpa using this.symm)),Nat.add_zero]
     case measure=>simp[intOf];omega
   ·have e9:¬ (j:Int)<(M:Int):=oM;have hjM:j=c.list.length:=by have:=HM.out;omega
    have HJ2:Hid (Ir w N C (fun r=>.bool (if r<0 then AD c.list r else false)) (fun r=>.int .i64 (if r<0 then(r:Int)else 0)) B SB IB MB tag wr/\wr.rowIs ZB 3 N (fun r=>.int .i64 (Il c.list r:Int))):=by
     refine⟨HJ.out.1.of (fun r _=>by rw[if_neg oM]) (fun r _=>by rw[if_neg oM]),?_⟩;have h9:=HJ.out.2;rw[hjM,List.take_length]at h9;exact h9
    clear hlt hj hjM HJ HV0 HZV;go_wp2
    go_loopw [52] (fun iv wr=>∃k:Nat,k<=N/\iv=.int .i64 (k:Int)/\Hid (Ir w N C (fun r=>.bool (if r<k then AD c.list r else false)) (fun r=>.int .i64 (if r<k then(r:Int)else 0)) B SB IB MB tag wr/\wr.rowIs ZB 3 N (fun r=>.int .i64 (Il c.list r:Int)))) (fun iv _=>N-(intOf iv).toNat)
    case atStart=>exact⟨0,Nat.zero_le _,rfl,HJ2.out⟩
    case round=>
     clear HJ2;obtain⟨k,hk,rfl,HR⟩:=hrel;by_cases hkN:k<N
     ·have hn:=HR.out.1;have b1:wr.cell? ⟨B,1,none⟩=some (.slice (some ⟨SB,0,none⟩) N N):=hn.b.cell (i:=1) dE;have b2:wr.cell? ⟨B,2,none⟩=some (.slice (some ⟨IB,0,none⟩) N N):=hn.b.cell (i:=2) dE;have s1:=hn.st.cell hkN;have s2:=hn.st.frozen k;have t1:=hn.ir.cell hkN;have t2:=hn.ir.frozen k;have z1:=HR.out.2.cell hkN;have n1:¬B=SB:=AB hn.tB hn.tS dE;have n2:¬B=IB:=AB hn.tB hn.tI dE;have n3:¬IB=SB:=AB hn.tI hn.tS dE;have n1':¬SB=B:=fun e=>n1 e.symm;have n2':¬IB=B:=fun e=>n2 e.symm;have n3':¬SB=IB:=fun e=>n3 e.symm;have i1:(0:Int)<=(k:Int):=oM;have i2:(k:Int)<(N:Int):=oM;have wi:IntKind.i64.wrap ((k:Int)+1)=((k+1:Nat):Int):=by rw[IntKind.wrap_i64];omega
      obtain⟨K0,hK0⟩:∃K,Il c.list k=K:=⟨_,rfl⟩
      rw[hK0]at z1;obtain⟨X,hX⟩:∃X,((K0:Int)==1)=X:=⟨_,rfl⟩
      have HX:Hid (AD c.list k=X):=by
       show _=_;rw[←hX,←hK0];show(Il c.list k==1)=_;rw[Bool.eq_iff_iff];simp only[beq_iff_eq];omega
      rw[if_neg (Nat.lt_irrefl k)]at s1 t1;clear hn hK0;go_wp2;go_roundw
      case rel=>
       obtain⟨z1,z2,z3,z4,z5⟩:=HLZ.out;refine⟨k+1,oM,gN,((HR.out.1.setSt k _).setIr k _).of (fun r hr=>?_) (fun r hr=>?_),(HR.out.2.setOther (by show ZB≠SB;omega) _).setOther (by show ZB≠IB;omega) _⟩
       ·by_cases q:r=k
        ·rw[if_pos q,q,if_pos (Nat.lt_succ_self k),HX.out]
        ·rw[if_neg q];by_cases q2:r<k
         ·rw[if_pos q2,if_pos oM]
         ·rw[if_neg q2,if_neg oM]
       ·by_cases q:r=k
        ·rw[if_pos q,q,if_pos (Nat.lt_succ_self k)]
        ·rw[if_neg q];by_cases q2:r<k
         ·rw[if_pos q2,if_pos oM]
         ·rw[if_neg q2,if_neg oM]
      case measure=>simp[intOf];omega
     ·have e8:¬ (k:Int)<(N:Int):=oM;have hkk:k=N:=oM;subst hkk;have HF:Hid (Ir w k C (fun r=>.bool (AD c.list r)) (fun r=>.int .i64 (r:Int)) B SB IB MB tag wr):=HR.out.1.of (fun r hr=>by rw[if_pos hr]) (fun r hr=>by rw[if_pos hr]);clear hkN hk;go_wp2;go_returns;first|exact⟨B,SB,IB,MB,tag,rfl,HF.out⟩|exact⟨B,rfl,SB,IB,MB,tag,HF.out⟩
theorem AX{n:Int}(h0: -1<=n)(h1:n<=2147483648):CO n:=by unfold CO;omega
theorem PA{c:Cd}(hg:Good c){i:Af}(hk:Aj i.op=true)(hf:AJ c i (A4 i.op)=true)(hb:0<=i.bits/\i.bits<4294967296):Fm (EU c i):=by
 have hN:=hg.regsL;have hS:=hg.slotsL;have hG:=hg.signL;have key:∀l n m,Ad c.regs l n m=true->CO n:=fun l n m h=>by
  by_cases hl:l=0
  ·unfold Ad at h;rw[if_pos hl]at h;have h9:n=0:=by simpa using h
   exact AX oM oM
  ·obtain⟨h0,h1⟩:=Ac h hl;exact AX oM oM
 have hn:CO i.n:=by
  have hf':=hf;unfold AJ at hf';simp only[Bool.and_eq_true]at hf';have h:=hf'.2.2.2.2;unfold Bc at h;by_cases h7:(A4 i.op).n=7
  ·rw[if_pos h7]at h;simp only[Bool.and_eq_true,beq_iff_eq]at h;exact AX oM oM
  ·rw[if_neg h7]at h;simp only[Bool.and_eq_true]at h;have h2:=h.2;unfold Fu at h2;by_cases c1:(A4 i.op).n=8
   ·rw[if_pos c1]at h2;unfold CS at h2;simp only[Bool.and_eq_true,decide_eq_true_eq]at h2;exact AX oM oM
   ·rw[if_neg c1]at h2;by_cases c2:(A4 i.op).n=9
    ·rw[if_pos c2]at h2;simp only[Bool.or_eq_true,Bool.and_eq_true,beq_iff_eq]at h2;exact AX oM oM
    ·rw[if_neg c2]at h2;by_cases c3:(A4 i.op).n=10
     ·rw[if_pos c3]at h2;simp only[Bool.and_eq_true]at h2;have h3:=Bo.1 h2.1;exact AX oM oM
     ·rw[if_neg c3]at h2;by_cases c4:(A4 i.op).n=11
      ·rw[if_pos c4]at h2;have h3:=Bo.1 h2;exact AX oM oM
      ·rw[if_neg c4]at h2;have h3:i.n=0:=by simpa using h2
       exact AX oM oM
 have ht:CO (A7 c.regs i.d).kind/\CO (A7 c.regs i.d).par:=by
  by_cases h:Aq i.d c.regs.length=true
  ·obtain⟨h0,h1⟩:=Bo.1 h;have hl:i.d.toNat<c.regs.length:=oM;have e:A7 c.regs i.d=c.regs[i.d.toNat]:=by unfold A7;rw[if_pos h,List.getElem?_eq_getElem hl];rfl
   rw[e];have h2:=hg.regs _ (List.getElem_mem hl);unfold Ax at h2;by_cases k1:c.regs[i.d.toNat].kind=1\/c.regs[i.d.toNat].kind=2
   ·rw[if_pos k1]at h2;have h3:c.regs[i.d.toNat].par=0:=by simpa using h2
    exact⟨AX oM oM,AX oM oM⟩
   ·rw[if_neg k1]at h2;by_cases k3:c.regs[i.d.toNat].kind=3
    ·rw[if_pos k3]at h2;have h3:=Bo.1 h2;exact⟨AX oM oM,AX oM oM⟩
    ·rw[if_neg k3]at h2;cases h2
  ·have e:A7 c.regs i.d=⟨0,0⟩:=by unfold A7;rw[if_neg h]
   rw[e];exact⟨AX dE dE,AX dE dE⟩
 unfold Aj at hk;simp only[Bool.and_eq_true,decide_eq_true_eq]at hk;have a1:CO i.op:=AX oM oM;have a2:CO (0:Int):=AX dE dE;have a3:CO i.a:=key _ _ _ (BD hf);have a4:CO i.b:=key _ _ _ (DC hf);have a5:CO i.c:=key _ _ _ (DD hf);exact⟨a1,a2,a3,a4,a5,hn,hb,ht.1,ht.2⟩
theorem Sc(c:Cd)(s:RW)(i:Af):(∀q∈(Bm c s i).reck,q∈s.reck\/q=EU c (A3 s i))/\(Bm c s i).reck.length<=s.reck.length+1/\(Bm c s i).opn.length<=s.opn.length+1/\(Bm c s i).left.length<=s.left.length+1:=by
 unfold Bm;split
 ·exact⟨fun q h=>.inl h,sM,sM,sM⟩
 ·unfold AG;split
  ·exact⟨fun q h=>.inl h,sM,sM,sM⟩
  ·split
   ·unfold Dw IV;refine⟨fun q h=>.inl (List.mem_of_mem_take h),?_,?_,?_⟩
    ·simp only[List.length_take];omega
    ·simp only[List.length_dropLast];omega
    ·simp
   ·split
    ·refine⟨fun q h=>?_,sM,sM,sM⟩;simp only[List.mem_append,List.mem_singleton]at h;exact h
    ·exact⟨fun q h=>.inl h,sM,sM,sM⟩
def JN(c:Cd)(j:Nat):RW:=(c.list.take j).foldl (Bm c) CB
theorem IP{c:Cd}{j:Nat}(hj:j<c.list.length):JN c (j+1)=Bm c (JN c j) c.list[j]:=by
 unfold JN;rw[List.take_succ_eq_append_getElem hj,List.foldl_append];rfl
theorem W6(c:Cd):(JN c c.list.length).left=CA c:=by unfold JN CA;rw[List.take_length]
theorem ND{c:Cd}(h:AN c ⟨[],[]⟩ c.list=true){j:Nat}(hj:j<c.list.length):Ar c (DG ⟨[],[]⟩ (c.list.take j)) c.list[j]=true:=by
 have e:c.list=c.list.take j++c.list[j]::c.list.drop (j+1):=by rw[←List.drop_eq_getElem_cons hj,List.take_append_drop]
 rw[e,Dk]at h;simp only[Bool.and_eq_true]at h;have h2:=h.2;unfold AN at h2;simp only[Bool.and_eq_true]at h2;exact h2.1
theorem UZ{c:Cd}{j:Nat}(hj:j<c.list.length):DG ⟨[],[]⟩ (c.list.take (j+1))=Ae (DG ⟨[],[]⟩ (c.list.take j)) c.list[j]:=by
 rw[List.take_succ_eq_append_getElem hj,FI];rfl
theorem XT{c:Cd}(hc:(Ao c).1=0)(hb:∀i∈c.list,0<=i.bits/\i.bits<4294967296):∀j,j<=c.list.length->∃x',D9 c (c.list.take j) (JN c j) (DG ⟨[],[]⟩ (c.list.take j)) x'/\(∀q∈(JN c j).reck,Fm q)/\(JN c j).reck.length<=j/\(JN c j).opn.length<=j/\(JN c j).left.length<=j:=by
 obtain⟨hg,ht⟩:=Ei hc;intro j;induction j with
 |zero=>intro _;exact⟨_,D9.start c,fun q h=>(by cases h),Nat.le_refl _,Nat.le_refl _,Nat.le_refl _⟩
 |succ j ih=>
  intro hj;obtain⟨x',h,hr,l1,l2,l3⟩:=ih oM;have hjl:j<c.list.length:=oM;have t:=ND ht hjl;have hl:c.list=c.list.take j++c.list[j]::c.list.drop (j+1):=by rw[←List.drop_eq_getElem_cons hjl,List.take_append_drop]
  have e1:c.list.take (j+1)=c.list.take j++[c.list[j]]:=List.take_succ_eq_append_getElem hjl;have hrd:=Ai (DN h t);have hok:Fm (EU c (A3 (JN c j) c.list[j])):=PA hg hrd.1 hrd.2.1 (by have h9:=hb _ (List.getElem_mem hjl);exact h9);obtain⟨k1,k2,k3,k4⟩:=Sc c (JN c j) c.list[j];have hI:∃x'',D9 c (c.list.take (j+1)) (JN c (j+1)) (DG ⟨[],[]⟩ (c.list.take (j+1))) x'':=by
   rw[IP hjl,UZ hjl,e1];unfold Bm;cases hh:AU c (JN c j) (A3 (JN c j) c.list[j])with
   |some g=>exact⟨_,Ha h hl t hh⟩
   |none=>exact⟨_,G3 h hl t hh⟩
  obtain⟨x'',h'⟩:=hI;refine⟨x'',h',?_⟩;rw[IP hjl];refine⟨fun q hq=>?_,oM,oM,oM⟩;rcases k1 q hq with e|e
  ·exact hr q e
  ·rw[e];exact hok
theorem tk_ok{c:Cd}(hc:(Ao c).1=0)(hb:∀i∈c.list,0<=i.bits/\i.bits<4294967296){j nm:Nat}(hj:j<c.list.length)(hnm:nm<=j):Sx c (JN c j) c.list[j] nm:=by
 obtain⟨hg,ht⟩:=Ei hc;obtain⟨x',h,hr,l1,l2,l3⟩:=XT hc hb j (Nat.le_of_lt hj);have t:=ND ht hj;have hrd:=Ai (DN h t);have hL:=hg.listL;refine⟨hg.regsL,FJ t,Jl (Ai t).2.1,Jl hrd.2.1,PA hg hrd.1 hrd.2.1 (by have h9:=hb _ (List.getElem_mem hj);exact h9),fun e=>?_,hr,oM,oM,oM,oM⟩;obtain⟨-,-,t3,-⟩:=Ai t;unfold At at t3;rw[if_neg oM,if_pos e]at t3;simp only[Bool.and_eq_true,Bool.not_eq_true']at t3;have ho:=h.opens;generalize DG ⟨[],[]⟩ (c.list.take j)=x at ho t3;obtain⟨X,O⟩:=x;obtain⟨X',O'⟩:=x';simp only at ho t3;generalize (JN c j)=s at ho;obtain⟨ins,hold,reck,opn,left⟩:=s;simp only at ho;cases ho with
 |nil=>simp at t3
 |loop h9=>simp[An]at t3
 |when h1 h2 h3 h4 h5 h6=>exact⟨_,_,rfl,h3⟩
theorem XO{v:World}{a:Addr}{x:Value}{B:Nat}(h:v.cell? a=some x)(hne:¬a.block=B):∀u0 u1 u2 u3,((((v.setCell ⟨B,0,none⟩ u0).setCell ⟨B,1,none⟩ u1).setCell ⟨B,2,none⟩ u2).setCell ⟨B,3,none⟩ u3).cell? a=some x:=fun u0 u1 u2 u3=>
 (World.cell?_of_block ((Below.heap_setCell _ _ _ _ hne).trans ((Below.heap_setCell _ _ _ _ hne).trans ((Below.heap_setCell _ _ _ _ hne).trans (Below.heap_setCell _ _ _ _ hne))))).trans h
theorem WK.start{c:Cd}{w1 v:World}{C B SB IB MB q1:Nat}{tag:Nat->Nat}{p1:Option Addr}(hn:Ir w1 c.regs.length C (fun r=>.bool (AD c.list r)) (fun r=>.int .i64 (r:Int)) B SB IB MB tag v)(hC1:w1.cell? ⟨C,1,none⟩=some (.slice p1 c.regs.length q1))(hr:Be 2 JK w1 (.slice p1 c.regs.length q1) c.regs):
 ∃rb ro,WK w1.heap.size c CB v B C SB IB MB 0 rb ro q1 (.slice none 0 0) (.slice none 0 0) (.slice none 0 0) tag:=by
 have hC:C<w1.heap.size:=A5 hC1;obtain⟨p,q,e,hh⟩:=hr;simp only[Value.slice.injEq]at e;obtain⟨rfl,-,rfl⟩:=e;have nb:∀ (m g:Nat),(Value.slice none 0 0).ownBlock=some g->tag g=m:=fun m g h=>by cases h
 rcases hh with h0|⟨rb,ro,rfl,hc⟩
 ·have hl:c.regs.length=0:=by rw[h0];rfl
  exact⟨0,0,hn.b,fun h=>absurd h oM,fun r h=>absurd h oM,hn.st,hn.ir,hn.map,World.ownsRow_nil _ _ _ 9,World.ownsRow_nil _ _ _ 1,World.ownsRow_nil _ _ _ 7,hC,.inr hl,hn.hB,hn.hS,hn.hI,hn.hM,hn.tB,hn.tS,hn.tI,hn.tM,nb 5,nb 6,nb 7⟩
 ·by_cases h0:c.regs.length=0
  ·exact⟨0,0,hn.b,fun h=>absurd h oM,fun r h=>absurd h oM,hn.st,hn.ir,hn.map,World.ownsRow_nil _ _ _ 9,World.ownsRow_nil _ _ _ 1,World.ownsRow_nil _ _ _ 7,hC,.inr h0,hn.hB,hn.hS,hn.hI,hn.hM,hn.tB,hn.tS,hn.tI,hn.tM,nb 5,nb 6,nb 7⟩
  ·have hrb:rb<w1.heap.size:=by
    have h9:=(hc 0 oM).at 0 (v:=.int .i64 (c.regs[0]'oM).kind) rfl;exact A5 h9
   exact⟨rb,ro,hn.b,fun _=>kc hn.bel hC1,fun r h=>(hc r h).below hn.bel,hn.st,hn.ir,hn.map,World.ownsRow_nil _ _ _ 9,World.ownsRow_nil _ _ _ 1,World.ownsRow_nil _ _ _ 7,hC,.inl hrb,hn.hB,hn.hS,hn.hI,hn.hM,hn.tB,hn.tS,hn.tI,hn.tM,nb 5,nb 6,nb 7⟩
theorem L6(v0 v1 v2 v3:Value)(c:Cd)(hk:B8 c)(w:World)(hv:Cs w v0 v1 v2 v3 c)(hc:(Ao c).1≠0):
 Calls prog 9 #[.agg #[v0,v1,v2,v3]] w fun e w'=>e=.returned (.tuple #[.agg #[.slice none 0 0,.slice none 0 0,.slice none 0 0,.slice none 0 0],.int .i64 160])/\Below w.heap.size w w':=by
 have KC:Hid (∀v,Below w.heap.size w v->Calls prog 26 #[.agg #[v0,v1,v2,v3]] v fun e w'=>e=.returned (.tuple #[.int .i64 (Ao c).1,.int .i64 (Ao c).2])/\Below v.heap.size v w'):=fun v hvv=>K8 v0 v1 v2 v3 c hk v (hv.below hvv);obtain⟨e1,he1⟩:∃e1,(Ao c).1=e1:=⟨_,rfl⟩
 obtain⟨e2,he2⟩:∃e2,(Ao c).2=e2:=⟨_,rfl⟩
 rw[he1]at hc KC;rw[he2]at KC;have n1:(e1 != 0)=true:=by simpa using hc
 have n2:(e1==0)=false:=by simpa using hc
 obtain⟨p0,q0,rfl⟩:∃p q,v0=.slice p c.sign.length q:=by obtain⟨p,q,e,_⟩:=hv.sign;exact⟨p,q,e⟩
 obtain⟨p1,q1,rfl⟩:∃p q,v1=.slice p c.regs.length q:=by obtain⟨p,q,e,_⟩:=hv.regs;exact⟨p,q,e⟩
 obtain⟨p2,q2,rfl⟩:∃p q,v2=.slice p c.slots.length q:=by obtain⟨p,q,e,_⟩:=hv.slots;exact⟨p,q,e⟩
 obtain⟨p3,q3,rfl⟩:∃p q,v3=.slice p c.list.length q:=by obtain⟨p,q,e,_⟩:=hv.list;exact⟨p,q,e⟩
 obtain⟨W0,hW0⟩:∃W,(w.alloc (.cells #[.slice p0 c.sign.length q0,.slice p1 c.regs.length q1,.slice p2 c.slots.length q2,.slice p3 c.list.length q3] 27)).alloc (.cells #[.slice none 0 0,.slice none 0 0,.slice none 0 0,.slice none 0 0] 27)=W:=⟨_,rfl⟩
 have HB0:Hid (Below w.heap.size w W0):=by rw[←hW0];exact bel (A0 _ _) (A0 _ _)
 have b0:W0.cell? ⟨w.heap.size,0,none⟩=some (.slice p0 c.sign.length q0):=by rw[←hW0];simp[go_sem]
 have b1:W0.cell? ⟨w.heap.size,1,none⟩=some (.slice p1 c.regs.length q1):=by rw[←hW0];simp[go_sem]
 have b2:W0.cell? ⟨w.heap.size,2,none⟩=some (.slice p2 c.slots.length q2):=by rw[←hW0];simp[go_sem]
 have b3:W0.cell? ⟨w.heap.size,3,none⟩=some (.slice p3 c.list.length q3):=by rw[←hW0];simp[go_sem]
 have HR:Hid (W0.rowIs (w.heap.size+1) 27 4 (EV #[.slice none 0 0,.slice none 0 0,.slice none 0 0,.slice none 0 0])):=by
  show World.rowIs _ _ _ _ _;rw[←hW0];have h9:=BT (w.alloc (.cells #[.slice p0 c.sign.length q0,.slice p1 c.regs.length q1,.slice p2 c.slots.length q2,.slice p3 c.list.length q3] 27)) #[.slice none 0 0,.slice none 0 0,.slice none 0 0,.slice none 0 0] 27;rw[show(w.alloc (.cells #[.slice p0 c.sign.length q0,.slice p1 c.regs.length q1,.slice p2 c.slots.length q2,.slice p3 c.list.length q3] 27)).heap.size=w.heap.size+1 by simp]at h9;exact h9
 clear hv hk he1 he2;go_enter func9,ntmps9;go_upto_region 1 with fail;try rw[hW0]
 go_wp2_with(go_at_call 26;refine(KC.out _ HB0.out).mono ?_;rintro e w1 ⟨rfl,hb1⟩;have HB1:=A9 hb1;have HR1:=A9 (HR.out.of_block (hb1.block _ HR.out.lt));have r0:w1.cell? ⟨w.heap.size+1,0,none⟩=some (.slice none 0 0):=HR1.out.cell (i:=0) dE;have r1:w1.cell? ⟨w.heap.size+1,1,none⟩=some (.slice none 0 0):=HR1.out.cell (i:=1) dE;have r2:w1.cell? ⟨w.heap.size+1,2,none⟩=some (.slice none 0 0):=HR1.out.cell (i:=2) dE;have r3:w1.cell? ⟨w.heap.size+1,3,none⟩=some (.slice none 0 0):=HR1.out.cell (i:=3) dE;have f0:=HR1.out.frozen 0;have f1:=HR1.out.frozen 1;have f2:=HR1.out.frozen 2;have f3:=HR1.out.frozen 3;clear hb1);refine bodyPost_ret (by simp[results,results9,go_sem, *];try rfl) rfl ?_;have hle:w.heap.size<=w.heap.size+1:=Nat.le_succ _;exact⟨rfl,((((bel HB0.out HB1.out).setCell hle _).setCell hle _).setCell hle _).setCell hle _⟩
theorem Jn(v0 v1 v2 v3:Value)(c:Cd)(hk:B8 c)(w:World)(hv:Cs w v0 v1 v2 v3 c)(hc:(Ao c).1=0):
 Calls prog 9 #[.agg #[v0,v1,v2,v3]] w fun e w'=>∃u0 u1 u2 u3,e=.returned (.tuple #[.agg #[u0,u1,u2,u3],.int .i64 0])/\Cs w' u0 u1 u2 u3 (Bd c)/\VM w.heap.size w' u0 u1 u2 u3 (Bd c)/\Below w.heap.size w w':=by
 obtain⟨hg,htk⟩:=Ei hc;have KC:Hid (∀v,Below w.heap.size w v->Calls prog 26 #[.agg #[v0,v1,v2,v3]] v fun e w'=>e=.returned (.tuple #[.int .i64 0,.int .i64 (Ao c).2])/\Below v.heap.size v w'):=fun v hvv=>by have:=K8 v0 v1 v2 v3 c hk v (hv.below hvv);rw[hc]at this;exact this
 obtain⟨e2,he2⟩:∃e2,(Ao c).2=e2:=⟨_,rfl⟩
 rw[he2]at KC;have K0:Hid (∀v,Below w.heap.size w v->Calls prog 29 #[v0] v fun e w'=>∃p d,e=.returned (.slice p c.sign.length d)/\w'.ownsRow v.heap.size 73 3 (.slice p c.sign.length d) c.sign.length (AR AV c.sign)/\Below v.heap.size v w'):=fun v hvv=>(QO v0 c.sign v (hv.sign.below hvv) (by have:=hg.signL;omega)).mono fun e w' ⟨p,d,h1,h2,h4,h3⟩=>⟨p,d,h1,h4,h3⟩
 have K1:Hid (∀v,Below w.heap.size w v->Calls prog 30 #[v1] v fun e w'=>∃p d,e=.returned (.slice p c.regs.length d)/\w'.ownsRow v.heap.size 46 2 (.slice p c.regs.length d) c.regs.length (AR JK c.regs)/\Below v.heap.size v w'):=fun v hvv=>(SP v1 c.regs v (hv.regs.below hvv) (by have:=hg.regsL;omega)).mono fun e w' ⟨p,d,h1,h2,h4,h3⟩=>⟨p,d,h1,h4,h3⟩
 have K2:Hid (∀v,Below w.heap.size w v->Calls prog 31 #[v2] v fun e w'=>∃p d,e=.returned (.slice p c.slots.length d)/\w'.ownsRow v.heap.size 48 5 (.slice p c.slots.length d) c.slots.length (AR Md c.slots)/\Below v.heap.size v w'):=fun v hvv=>(SO v2 c.slots v (hv.slots.below hvv) (by have:=hg.slotsL;omega)).mono fun e w' ⟨p,d,h1,h2,h4,h3⟩=>⟨p,d,h1,h4,h3⟩
 have HTK:Hid (∀ (j nm:Nat) (hj:j<c.list.length),nm<=j->Sx c (JN c j) c.list[j] nm):=fun j nm hj hnm=>tk_ok hc hk.ibits hj hnm;have HD:Hid (∀i∈c.list,Ag i=true->0<=i.d/\i.d<(c.regs.length:Int)):=fun i hi hs=>by
  obtain⟨L,R,e,t⟩:=Vq htk hi;exact FJ t hs
 have HVV:=A9 hv;obtain⟨p0,q0,rfl⟩:∃p q,v0=.slice p c.sign.length q:=by obtain⟨p,q,e,_⟩:=hv.sign;exact⟨p,q,e⟩
 obtain⟨p1,q1,rfl⟩:∃p q,v1=.slice p c.regs.length q:=by obtain⟨p,q,e,_⟩:=hv.regs;exact⟨p,q,e⟩
 obtain⟨p2,q2,rfl⟩:∃p q,v2=.slice p c.slots.length q:=by obtain⟨p,q,e,_⟩:=hv.slots;exact⟨p,q,e⟩
 obtain⟨p3,q3,rfl⟩:∃p q,v3=.slice p c.list.length q:=by obtain⟨p,q,e,_⟩:=hv.list;exact⟨p,q,e⟩
 have hL1:=hg.listL;have KN:Hid (∀ (v:World),Below w.heap.size w v->∀C,v.cell? ⟨C,1,none⟩=some (.slice p1 c.regs.length q1)->v.cell? ⟨C,3,none⟩=some (.slice p3 c.list.length q3)->Calls prog 27 #[.pointer (some ⟨C,0,none⟩)] v fun e w'=>∃B SB IB MB tag rb ro,e=.returned (.pointer (some ⟨B,0,none⟩))/\WK v.heap.size c CB w' B C SB IB MB 0 rb ro q1 (.slice none 0 0) (.slice none 0 0) (.slice none 0 0) tag/\Below v.heap.size v w'):=fun v hb C h1 h3=>
  (VA c C q1 q3 p1 p3 v hg.regsL hg.listL h1 h3 (hv.list.below hb) HD.out).mono fun e w' ⟨B,SB,IB,MB,tag,h4,h5⟩=>by
   obtain⟨rb,ro,h6⟩:=WK.start h5 h1 (hv.regs.below hb);exact⟨B,SB,IB,MB,tag,rb,ro,h4,h6,h5.bel⟩
 obtain⟨N0,hN0⟩:∃N,c.sign.length=N:=⟨_,rfl⟩
 obtain⟨N1,hN1⟩:∃N,c.regs.length=N:=⟨_,rfl⟩
 obtain⟨N2,hN2⟩:∃N,c.slots.length=N:=⟨_,rfl⟩
 obtain⟨N3,hN3⟩:∃N,c.list.length=N:=⟨_,rfl⟩
 simp only[hN0,hN1,hN2,hN3]at KC K0 K1 K2 KN hL1 HVV ⊢;have HN:Hid (c.sign.length=N0/\c.regs.length=N1/\c.slots.length=N2/\c.list.length=N3):=⟨hN0,hN1,hN2,hN3⟩
 obtain⟨W0,hW0⟩:∃W,(w.alloc (.cells #[.slice p0 N0 q0,.slice p1 N1 q1,.slice p2 N2 q2,.slice p3 N3 q3] 27)).alloc (.cells #[.slice none 0 0,.slice none 0 0,.slice none 0 0,.slice none 0 0] 27)=W:=⟨_,rfl⟩
 have HB0:Hid (Below w.heap.size w W0):=by rw[←hW0];exact bel (A0 _ _) (A0 _ _)
 have b0:W0.cell? ⟨w.heap.size,0,none⟩=some (.slice p0 N0 q0):=by rw[←hW0];simp[go_sem]
 have b1:W0.cell? ⟨w.heap.size,1,none⟩=some (.slice p1 N1 q1):=by rw[←hW0];simp[go_sem]
 have b2:W0.cell? ⟨w.heap.size,2,none⟩=some (.slice p2 N2 q2):=by rw[←hW0];simp[go_sem]
 have b3:W0.cell? ⟨w.heap.size,3,none⟩=some (.slice p3 N3 q3):=by rw[←hW0];simp[go_sem]
 have HR:Hid (W0.rowIs (w.heap.size+1) 27 4 (EV #[.slice none 0 0,.slice none 0 0,.slice none 0 0,.slice none 0 0])):=by
  show World.rowIs _ _ _ _ _;rw[←hW0];have h9:=BT (w.alloc (.cells #[.slice p0 N0 q0,.slice p1 N1 q1,.slice p2 N2 q2,.slice p3 N3 q3] 27)) #[.slice none 0 0,.slice none 0 0,.slice none 0 0,.slice none 0 0] 27;rw[show(w.alloc (.cells #[.slice p0 N0 q0,.slice p1 N1 q1,.slice p2 N2 q2,.slice p3 N3 q3] 27)).heap.size=w.heap.size+1 by simp]at h9;exact h9
 clear hv hk he2 hg htk hc hN0 hN1 hN2 hN3;go_enter func9,ntmps9;go_upto_region 1 with fail;try rw[hW0]
 clear hW0;go_upto_block 0 with(first
  |(go_at_call 26;(with_reducible refine(KC.out _ HB0.out).mono ?_);rintro e w1 ⟨rfl,hb1⟩;have HB1:=A9 (bel HB0.out hb1);have HR1:=A9 (HR.out.of_block (hb1.block _ HR.out.lt));have c0:=kc hb1 b0;have c1:=kc hb1 b1;have c2:=kc hb1 b2;have c3:=kc hb1 b3;clear hb1 b0 b1 b2 b3)
  |(go_at_call 27;(with_reducible refine(KN.out _ HB1.out _ c1 c3).mono ?_);rintro e w2 ⟨B,SB,IB,MB,tag,rb,ro,rfl,hwk,hb2⟩;have HWK:=A9 hwk;have HB2:=A9 hb2;have d0:=kc hb2 c0;have d1:=kc hb2 c1;have d2:=kc hb2 c2;have d3:=kc hb2 c3;clear hb2 hwk))
 obtain⟨E,hE⟩:∃E,w1.heap.size=E:=⟨_,rfl⟩
 have HEN:Hid (w.heap.size+1<E/\w.heap.size<=E):=by rw[←hE];have h9:=HR1.out.lt;exact⟨h9,oM⟩
 rw[hE]at HWK HB2;have HK0:Hid (Below E w1 w2/\∃nm vk vo vl tag,nm<=0/\WK E c (JN c 0) w2 B w.heap.size SB IB MB nm rb ro q1 vk vo vl tag):=⟨HB2.out,0,_,_,_,_,Nat.le_refl _,HWK.out⟩
 have HE:=A9 hE;clear HWK HB2 KN d0 d1 d2 hE;go_wp2_with fail;clear d3
 go_loopw [21] (fun iv wr=>∃j:Nat,j<=N3/\iv=.int .i64 (j:Int)/\Hid (Below E w1 wr/\∃nm vk vo vl tag,nm<=j/\WK E c (JN c j) wr B w.heap.size SB IB MB nm rb ro q1 vk vo vl tag)) (fun iv _=>N3-(intOf iv).toNat)
 case atStart=>exact⟨0,Nat.zero_le _,rfl,HK0.out⟩
 case round=>
  clear HK0;obtain⟨j,hj,rfl,HJ⟩:=hrel;have hbE:Below w.heap.size w wr:=HB1.out.trans (HJ.out.1.mono HEN.out.2);have HBE:=A9 hbE;clear hbE;by_cases hlt:j<N3
  ·have hjl:j<c.list.length:=by have:=HN.out;omega
   obtain⟨hbj,nm,vk,vo,vl,tag,hnm,hwk⟩:=HJ.out;obtain⟨lb,lo,rfl,hcl⟩:=(HVV.out.list.below HBE.out).at hjl;have KT:=A9 (fun(v:World) (hv:Below wr.heap.size wr v)=>Sm E c (JN c j) v B w.heap.size SB IB MB nm rb ro q1 vk vo vl tag c.list[j] (hwk.below hv) (HTK.out j nm hjl hnm));have hsu:=IP hjl;obtain⟨⟨op,d,a,b,e,n,z⟩,hi⟩:∃i,c.list[j]=i:=⟨_,rfl⟩
   rw[hi]at hcl KT hsu;rw[←hsu]at KT;have HLE:=A9 hwk.lt;have HNM:=A9 hnm;have y0:=hcl.at 0 (v:=.int .i64 op) rfl;rw[Nat.add_zero]at y0;have y1:=hcl.at 1 (v:=.int .i64 d) rfl;have y2:=hcl.at 2 (v:=.int .i64 a) rfl;have y3:=hcl.at 3 (v:=.int .i64 b) rfl;have y4:=hcl.at 4 (v:=.int .i64 e) rfl;have y5:=hcl.at 5 (v:=.int .i64 n) rfl;have y6:=hcl.at 6 (v:=.int .u32 z) rfl;have llb:lb<wr.heap.size:=A5 y0;have n9:¬lb=wr.heap.size:=oM;have i1:(0:Int)<=(j:Int):=oM;have i2:(j:Int)<(N3:Int):=oM;have wi:IntKind.i64.wrap ((j:Int)+1)=((j+1:Nat):Int):=by rw[IntKind.wrap_i64];omega
   obtain⟨V2,hV2⟩:∃V,wr.alloc (.cells #[.int .i64 op,.int .i64 d,.int .i64 a,.int .i64 b,.int .i64 e,.int .i64 n,.int .u32 z] 44)=V:=⟨_,rfl⟩
   have HV2:Hid (Below wr.heap.size wr V2):=by rw[←hV2];exact A0 _ _
   have hX2:V2.rowIs wr.heap.size 44 7 (JO op d a b e n z):=by rw[←hV2];exact BT wr _ _
   have x0:V2.cell? ⟨wr.heap.size,0,none⟩=some (.int .i64 op):=hX2.cell (i:=0) dE;have x1:V2.cell? ⟨wr.heap.size,1,none⟩=some (.int .i64 d):=hX2.cell (i:=1) dE;have x2:V2.cell? ⟨wr.heap.size,2,none⟩=some (.int .i64 a):=hX2.cell (i:=2) dE;have x3:V2.cell? ⟨wr.heap.size,3,none⟩=some (.int .i64 b):=hX2.cell (i:=3) dE;have x4:V2.cell? ⟨wr.heap.size,4,none⟩=some (.int .i64 e):=hX2.cell (i:=4) dE;have x5:V2.cell? ⟨wr.heap.size,5,none⟩=some (.int .i64 n):=hX2.cell (i:=5) dE;have x6:V2.cell? ⟨wr.heap.size,6,none⟩=some (.int .u32 z):=hX2.cell (i:=6) dE;unfold AY at KT;simp only at KT;clear hwk hcl hi hsu hbj hnm llb hX2;go_wp2_with(go_at_call 28;(with_reducible refine(KT.out _ HV2.out).mono ?_);rintro e9 w4 ⟨rfl,hb4,nm',vk',vo',vl',tag',hn4,hw4⟩;have HB4:=A9 hb4;have HW4:=A9 hw4;have HN4:=A9 hn4;clear hb4 hw4 hn4);go_roundw
   case rel=>
    refine⟨j+1,oM,gN,?_,nm',vk',vo',vl',tag',by have:=HN4.out;have:=HNM.out;omega,HW4.out⟩;exact HJ.out.1.trans ((HV2.out.mono HLE.out).trans HB4.out)
   case measure=>simp[intOf];omega
  ·have e1:¬ (j:Int)<(N3:Int):=oM;have hje:j=c.list.length:=by have:=HN.out;omega
   obtain⟨hbj,nm,vk,vo,vl,tag,hnm,hwk⟩:=HJ.out;have HLF:Hid (wr.ownsRow E 44 7 vl (CA c).length ((CA c).flatMap DK)):=by
    have h9:=hwk.left;rw[hje,W6]at h9;exact h9
   have b6:=hwk.b6;have nB:¬B=w.heap.size+1:=by have:=hwk.hB;have:=HEN.out.1;omega
   have HWL:Hid (w.heap.size+1<wr.heap.size):=by have:=hwk.lt;have h8:=HEN.out.1;show _<_;omega
   have HBX:Hid (∀v,Below wr.heap.size wr v->v.cell? ⟨w.heap.size,0,none⟩=some (.slice p0 N0 q0)/\v.cell? ⟨w.heap.size,1,none⟩=some (.slice p1 N1 q1)/\v.cell? ⟨w.heap.size,2,none⟩=some (.slice p2 N2 q2)/\v.cell? ⟨B,6,none⟩=some vl/\v.rowIs (w.heap.size+1) 27 4 (EV #[.slice none 0 0,.slice none 0 0,.slice none 0 0,.slice none 0 0])):=fun v hv=>by
    have k:∀ {a:Addr} {x:Value},a.block<E->w1.cell? a=some x->v.cell? a=some x:=fun{a x} ha hx=>kc hv ((World.cell?_of_block (hbj.block a.block ha)).trans hx);have h1:=HEN.out.1;refine⟨k Zhf c0,k Zhf c1,k Zhf c2,kc hv b6,?_⟩;have h2:=HR1.out.of_block (hbj.block _ h1);exact h2.of_block (hv.block _ h2.lt)
   obtain⟨g0,g1,g2,g6,-⟩:=HBX.out wr (Bn _);obtain⟨pl,nl,ql,rfl⟩:∃p n q,vl=.slice p n q:=by obtain⟨p,q,e⟩:=AM HLF.out;exact⟨p,_,q,e⟩
   clear hlt hwk hbj hnm hje b6 HJ c0 c1 c2 c3 HR HR1 HTK HD KC;go_wp2;refine rG (fun v=>v.cell? ⟨w.heap.size,0,none⟩=some (.slice p0 N0 q0)/\v.cell? ⟨w.heap.size,1,none⟩=some (.slice p1 N1 q1)/\v.cell? ⟨w.heap.size,2,none⟩=some (.slice p2 N2 q2)/\v.cell? ⟨B,6,none⟩=some (.slice pl nl ql)) fun hHeld=>?_;refine Tf 0 1 3 4 6 7 ?_;refine Tc 9 10 11 ?_;refine Bu 12 ?_;clear hHeld;refine Az 2 fun K hK=>?_;go_simp;(go_at_call 29;(with_reducible refine(K0.out _ (bel HBE.out (BV _))).mono ?_);rintro e u1 ⟨s0,d0,rfl,hr0,hb2⟩;have HR0:=A9 hr0;have HU1:Hid (Below wr.heap.size wr u1):=bel (BV _) hb2;obtain⟨g0,g1,g2,g6,-⟩:=HBX.out u1 HU1.out;clear hr0 hb2);try(go_wp2_with fail)
   refine Au hK fun hHeld=>?_;clear hK K;clear hHeld;refine Az 5 fun K hK=>?_;go_simp;(go_at_call 30;(with_reducible refine(K1.out _ (bel HBE.out HU1.out)).mono ?_);rintro e u2 ⟨s1,d1,rfl,hr1,hb2⟩;have HR1:=A9 hr1;have HU2:=A9 hb2;obtain⟨g0,g1,g2,g6,-⟩:=HBX.out u2 (bel HU1.out HU2.out);clear hr1 hb2);try(go_wp2_with fail)
   refine Au hK fun hHeld=>?_;clear hK K;clear hHeld;refine Az 8 fun K hK=>?_;go_simp;(go_at_call 31;(with_reducible refine(K2.out _ (bel HBE.out (bel HU1.out HU2.out))).mono ?_);rintro e u3 ⟨s2,d2,rfl,hr2,hb2⟩;have HR2:=A9 hr2;have HU3:=A9 hb2;obtain⟨g0,g1,g2,g6,hrw⟩:=HBX.out u3 (bel HU1.out (bel HU2.out HU3.out));have HRW:=A9 hrw;have kB:=XO g6 nB;have r0:u3.cell? ⟨w.heap.size+1,0,none⟩=some (.slice none 0 0):=hrw.cell (i:=0) dE;have r1:u3.cell? ⟨w.heap.size+1,1,none⟩=some (.slice none 0 0):=hrw.cell (i:=1) dE;have r2:u3.cell? ⟨w.heap.size+1,2,none⟩=some (.slice none 0 0):=hrw.cell (i:=2) dE;have r3:u3.cell? ⟨w.heap.size+1,3,none⟩=some (.slice none 0 0):=hrw.cell (i:=3) dE;have f0:=hrw.frozen 0;have f1:=hrw.frozen 1;have f2:=hrw.frozen 2;have f3:=hrw.frozen 3;clear hr2 hb2 hrw);try(go_wp2_with fail)
   refine Au hK fun hHeld=>?_;clear hK K;refine Bu 13 ?_;clear hHeld;refine Az 14 fun K hK=>?_;go_simp;refine Au hK fun hHeld=>?_;clear hK K;refine Bu 15 ?_;refine wpAnyH_done kR ?_ _;go_wp2;refine bodyPost_ret (by simp[results,results9,go_sem, *];try rfl) rfl ?_;obtain⟨rfl,rfl,rfl,rfl⟩:=HN.out;have k4:∀b,b≠w.heap.size+1->((((u3.setCell ⟨w.heap.size+1,0,none⟩ (.slice s0 c.sign.length d0)).setCell ⟨w.heap.size+1,1,none⟩ (.slice s1 c.regs.length d1)).setCell ⟨w.heap.size+1,2,none⟩ (.slice s2 c.slots.length d2)).setCell ⟨w.heap.size+1,3,none⟩ (.slice pl nl ql)).heap[b]? =u3.heap[b]? :=fun b hb=>(Below.heap_setCell _ _ _ _ hb).trans ((Below.heap_setCell _ _ _ _ hb).trans ((Below.heap_setCell _ _ _ _ hb).trans (Below.heap_setCell _ _ _ _ hb)));have hwl:=HWL.out;have l1:=HU1.out.size;have l2:=HU2.out.size;have o0:=Ab (AA HR0.out (bel HU2.out HU3.out)) (fun g hg=>k4 g (by have h9:=(HR0.out.lt g hg).1;have h8:wr.heap.size<=g:=h9;omega));have o1:=Ab (AA HR1.out HU3.out) (fun g hg=>k4 g (by have h9:=(HR1.out.lt g hg).1;omega));have o2:=Ab HR2.out (fun g hg=>k4 g (by have h9:=(HR2.out.lt g hg).1;omega));have o3:=Ab (AA HLF.out (bel HU1.out (bel HU2.out HU3.out))) (fun g hg=>k4 g (by have h9:=(HLF.out.lt g hg).1;have:=HEN.out;omega));have hO:VM w.heap.size _ (.slice s0 c.sign.length d0) (.slice s1 c.regs.length d1) (.slice s2 c.slots.length d2) (.slice pl nl ql) (Bd c):=⟨BH o0 (by have h8:wr.drew.heap.size=wr.heap.size:=rfl;omega),BH o1 oM,BH o2 oM,BH o3 HEN.out.2⟩
   have hle:w.heap.size<=w.heap.size+1:=Nat.le_succ _;exact⟨_,_,_,_,rfl,⟨Cw EP hO.sign,Cw G5 hO.regs,Cw GW hO.slots,Cw FT hO.list⟩,hO,((((bel HBE.out (bel HU1.out (bel HU2.out HU3.out))).setCell hle _).setCell hle _).setCell hle _).setCell hle _⟩
end Go.Proofs.YtcdpmgldkibfiaaGreat
