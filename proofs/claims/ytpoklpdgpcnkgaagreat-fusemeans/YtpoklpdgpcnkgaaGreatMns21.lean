import Derived.Test.YtpoklpdgpcnkgaaGreatMns18
import Derived.Test.YtpoklpdgpcnkgaaGreatMns5
import Derived.Deep.DeepCutAuto
import Derived.Test.YtpoklpdgpcnkgaaGreatMns12
import Derived.Test.YtpoklpdgpcnkgaaGreatMns9
import Derived.Test.YtpoklpdgpcnkgaaGreatMns17
import Derived.Test.YtpoklpdgpcnkgaaGreatMns7
import Derived.Test.YtpoklpdgpcnkgaaGreatMns14
import Derived.Test.YtpoklpdgpcnkgaaGreatMns1
namespace Go.Proofs.YtpoklpdgpcnkgaaGreat
open Go.RowKit Go.Proofs.Tryz
set_option linter.all false
set_option maxRecDepth 100000
set_option maxHeartbeats 16000000
section
variable {E : Nat} {c : Cd} {s : RW} {w w' : World} {B C SB IB MB nm rb ro q1 : Nat} {vk vo vl : Value} {tag : Nat -> Nat}
end

section
variable {E : Nat} {c : Cd} {s : RW} {V : World} {B C SB IB MB nm rb ro q1 : Nat} {vk vo vl : Value} {tag : Nat -> Nat}
end







theorem ZQ(i:Ab):P2 i=Ae i:=by
 unfold P2 Ae;cases h:((A3 i.op).d != 0)with
 |false=>
  have:(A3 i.op).d=0:=by simpa using h
  simp[this]
 |true=>
  have:(A3 i.op).d≠0:=by simpa using h
  simp[this]
def Jt(n:Nat)(l:List Ab):List Value:=(List.range n).map fun r=>.bool (decide (r∈EQ l))
theorem If(n:Nat)(l:List Ab):(Jt n l).length=n:=by unfold Jt;simp
theorem JI{n:Nat}(l:List Ab){r:Nat}(h:r<n):(Jt n l)[r]? =some (.bool (decide (r∈EQ l))):=by unfold Jt;simp[h]
theorem Xu(n:Nat):Jt n []=List.replicate n (.bool false):=by
 apply List.ext_getElem?;intro k;by_cases hk:k<n
 .rw[JI _ hk,List.getElem?_replicate,if_pos hk];simp[EQ]
 .rw[List.getElem?_eq_none (by rw[If];omega),List.getElem?_eq_none sO]
theorem Hs(i:Ab):EQ [i]=if Ae i=true then [i.d.toNat]else []:=by
 unfold EQ;by_cases h:Ae i=true
 .simp[h]
 .simp[h]
theorem Ul{n:Nat}{l:List Ab}{i:Ab}(h:Ae i=false):Jt n (l++[i])=Jt n l:=by
 unfold Jt;rw[Da,Hs,if_neg (by rw[h];simp),List.append_nil]
theorem Uk{n:Nat}{l:List Ab}{i:Ab}(h:Ae i=true){D:Nat}(hD:D<n)(e:i.d.toNat=D):(Jt n l).set D (.bool true)=Jt n (l++[i]):=by
 apply List.ext_getElem?;intro k;by_cases hk:k<n
 .rw[JI _ hk,Da,Hs,if_pos h,List.getElem?_set];by_cases h2:D=k
  .subst h2;rw[if_pos rfl,if_pos (by rw[If];exact hD)];simp[e]
  .rw[if_neg h2,JI _ hk];simp only[List.mem_append,List.mem_singleton,e];congr 2;simp[Ne.symm h2]
 .rw[List.getElem?_eq_none (by rw[List.length_set,If];omega),List.getElem?_eq_none (by rw[If];omega)]
theorem P7{l:List Ab}{i:Ab}(h:Ae i=false)(hl:C6 l):C6 (l++[i]):=by
 unfold C6 at *;rw[Da,Hs,if_neg (by rw[h];simp),List.append_nil];exact hl
theorem P6{l:List Ab}{i:Ab}(h:Ae i=true)(hl:C6 l)(hn:i.d.toNat∉EQ l):C6 (l++[i]):=by
 unfold C6 at *;rw[Da,Hs,if_pos h];rw[List.nodup_append];exact⟨hl,sM,fun a ha b hb e=>by simp at hb;subst hb;subst e;exact hn ha⟩
theorem QU{l:List Ab}{j:Nat}(hj:j<l.length)(h:Ae l[j]=true)(hm:l[j].d.toNat∈EQ (l.take j)):¬C6 l:=fun hs=>by
 have e:l=l.take j++l[j]::l.drop (j+1):=by rw[<-List.drop_eq_getElem_cons hj,List.take_append_drop]
 unfold C6 at hs;rw[e,show l.take j++l[j]::l.drop (j+1)=(l.take j++[l[j]])++l.drop (j+1) by simp,Da,Da,Hs,if_pos h]at hs;have h2:=(List.nodup_append.1 hs).1;exact(List.nodup_append.1 h2).2.2 _ hm _ sM rfl
theorem Ij(v0 v1 v2 v3:Value)(c:Cd)(hd:∀i∈c.list,Ae i=true->0<=i.d/\i.d<(c.regs.length:Int))(hR:c.regs.length<=16384)(hL:c.list.length<=32768)(w:World)(hv:CP w v0 v1 v2 v3 c):
 Calls prog 17 #[.agg #[v0,v1,v2,v3]] w fun e w'=>∃b,e=.returned (.bool b)/\(b=true↔C6 c.list)/\Below w.heap.size w w':=by
 obtain⟨p1,q1,rfl⟩:∃p q,v1=.slice p c.regs.length q:=by obtain⟨p,q,e,_⟩:=hv.regs;exact⟨p,q,e⟩
 obtain⟨p3,q3,rfl⟩:∃p q,v3=.slice p c.list.length q:=by obtain⟨p,q,e,_⟩:=hv.list;exact⟨p,q,e⟩
 have HVL:=A8 hv.list;have HD:=A8 hd;obtain⟨N3,hN3⟩:∃N,c.list.length=N:=⟨_,rfl⟩
 obtain⟨N1,hN1⟩:∃N,c.regs.length=N:=⟨_,rfl⟩
 have HN:=A8 (And.intro hN1 hN3);rw[hN3]at hL HVL |-;rw[hN1]at hR HD |-;obtain⟨W0,hW0⟩:∃W,w.alloc (.cells #[v0,.slice p1 N1 q1,v2,.slice p3 N3 q3] 27)=W:=⟨_,rfl⟩
 have HW0:Hid (Below w.heap.size w W0/\W0.heap.size=w.heap.size+1):=by rw[<-hW0];exact⟨A0 _ _,sM⟩
 have b1:W0.cell? ⟨w.heap.size,1,none⟩=some (.slice p1 N1 q1):=by rw[<-hW0];simp[go_sem]
 have b3:W0.cell? ⟨w.heap.size,3,none⟩=some (.slice p3 N3 q3):=by rw[<-hW0];simp[go_sem]
 clear hv hd hN3 hN1;go_enter func17,ntmps17;go_upto_block 0 with fail;try rw[hW0]
 clear hW0;go_wp2_with fail
 go_loopw [3,4] (fun ov iv wr=>∃ (j:Nat) (pp:Option Addr) (qq:Nat),j<=N1/\iv=.int .i64 (j:Int)/\ov=.slice pp j qq/\Hid (Below W0.heap.size W0 wr/\wr.ownsRow W0.heap.size 4 1 (.slice pp j qq) j (List.replicate j (.bool false)))) (fun _ iv _=>N1-(intOf iv).toNat)
 case atStart=>exact⟨0,none,0,gI _,rfl,rfl,BO _,World.ownsRow_nil _ _ _ 1⟩
 case round=>
  obtain⟨j,pp,qq,hj,rfl,rfl,HR⟩:=hrel;obtain⟨hb,how⟩:=HR.out;have c1:=kc hb b1;have c3:=kc hb b3;by_cases hlt:j<N1
  .obtain⟨g,c',w8,hap,hb8,ho8⟩:=NT how hb.size oM;have HNX:Hid (Below W0.heap.size W0 w8/\w8.ownsRow W0.heap.size 4 1 (.slice (some ⟨g,0,none⟩) (j+1) c') (j+1) (List.replicate (j+1) (.bool false))):=by
    refine⟨hb.trans hb8,?_⟩;rw[List.replicate_succ'];exact ho8
   have HAP:=A8 hap;have t0:(j:Int)<(N1:Int):=oM;have t5:IntKind.i64.wrap ((j:Int)+1)=((j+1:Nat):Int):=by rw[IntKind.wrap_i64];omega
   clear hap hb8 ho8 hb how b3 b1;go_wp2_with(at_builtin;refine Au rF _ _ _ rF _ _ _ rF rF HAP.out ?_);go_roundw
   case rel=>exact⟨j+1,_,_,oM,gN,rfl,HNX.out⟩
   case measure=>simp[intOf];omega
  .have hje:j=N1:=oM;subst hje;have t0:¬ (j:Int)<(j:Int):=oM;have HST:Hid (Below W0.heap.size W0 wr/\wr.ownsRow W0.heap.size 4 1 (.slice pp j qq) j (Jt j (c.list.take 0))/\C6 (c.list.take 0)):=⟨hb,by rw[List.take_zero,Xu];exact how,by rw[List.take_zero];exact List.nodup_nil⟩
   have HB3:Hid (∀v,Below W0.heap.size W0 v->v.cell? ⟨w.heap.size,3,none⟩=some (.slice p3 N3 q3)):=fun v hb=>kc hb b3;rename World=>W1;clear hb how HR hlt b3 b1;go_wp2;clear c1 c3 t0
   go_loopw [5] (fun iv wr=>∃k:Nat,k<=N3/\iv=.int .i64 (k:Int)/\Hid (Below W0.heap.size W0 wr/\wr.ownsRow W0.heap.size 4 1 (.slice pp j qq) j (Jt j (c.list.take k))/\C6 (c.list.take k))) (fun iv _=>N3-(intOf iv).toNat)
   case atStart=>exact⟨0,gI _,rfl,HST.out⟩
   case round=>
    clear HST;obtain⟨k,hk,rfl,HJ⟩:=hrel;have b3:=HB3.out wr HJ.1;have HBW:Hid (Below w.heap.size w wr):=HW0.1.trans (HJ.1.mono HW0.1.size);by_cases hlt:k<N3
    .have hjl:k<c.list.length:=by rw[HN.2];exact hlt
     obtain⟨lb,lo,rfl,hcl⟩:=(HVL.below HBW.out).at hjl;have hdi:=HD.out _ (gD hjl);have htk:c.list.take (k+1)=c.list.take k++[c.list[k]]:=List.take_succ_eq_append_getElem hjl;have KS:Hid (∀v,Calls prog 37 #[BK c.list[k]] v fun e w'=>e=.returned (.bool (Ae c.list[k]))/\Below v.heap.size v w'):=fun v=>by rw[<-ZQ];exact Mo _ v
     have hnot:=QU hjl;obtain⟨⟨op,d,a,b,e,n,z⟩,hi⟩:∃i,c.list[k]=i:=⟨_,rfl⟩
     rw[hi]at hcl hdi htk KS hnot;simp only at hdi hnot;unfold BK at KS;simp only at KS;have HTK:=A8 htk;have y0:=hcl.at 0 (v:=.int .i64 op) rfl;rw[Nat.add_zero]at y0;have y1:=hcl.at 1 (v:=.int .i64 d) rfl;have y2:=hcl.at 2 (v:=.int .i64 a) rfl;have y3:=hcl.at 3 (v:=.int .i64 b) rfl;have y4:=hcl.at 4 (v:=.int .i64 e) rfl;have y5:=hcl.at 5 (v:=.int .i64 n) rfl;have y6:=hcl.at 6 (v:=.int .u32 z) rfl;have i1:(0:Int)<=(k:Int):=oM;have i2:(k:Int)<(N3:Int):=oM;have wi:IntKind.i64.wrap ((k:Int)+1)=((k+1:Nat):Int):=by rw[IntKind.wrap_i64];omega
     obtain⟨V2,hV2⟩:∃V,wr.alloc (.cells #[.int .i64 op,.int .i64 d,.int .i64 a,.int .i64 b,.int .i64 e,.int .i64 n,.int .u32 z] 45)=V:=⟨_,rfl⟩
     have HV2:Hid (Below wr.heap.size wr V2):=by rw[<-hV2];exact A0 _ _
     have hX2:V2.rowIs wr.heap.size 45 7 (bxF op d a b e n z):=by rw[<-hV2];exact Dz wr _ _
     have HX2:=A8 hX2;have x0:V2.cell? ⟨wr.heap.size,0,none⟩=some (.int .i64 op):=hX2.cell (i:=0) dE;have x1:V2.cell? ⟨wr.heap.size,1,none⟩=some (.int .i64 d):=hX2.cell (i:=1) dE;have x2:V2.cell? ⟨wr.heap.size,2,none⟩=some (.int .i64 a):=hX2.cell (i:=2) dE;have x3:V2.cell? ⟨wr.heap.size,3,none⟩=some (.int .i64 b):=hX2.cell (i:=3) dE;have x4:V2.cell? ⟨wr.heap.size,4,none⟩=some (.int .i64 e):=hX2.cell (i:=4) dE;have x5:V2.cell? ⟨wr.heap.size,5,none⟩=some (.int .i64 n):=hX2.cell (i:=5) dE;have x6:V2.cell? ⟨wr.heap.size,6,none⟩=some (.int .u32 z):=hX2.cell (i:=6) dE;clear hX2 hcl hi htk;cases hS:Ae (⟨op,d,a,b,e,n,z⟩:Ab)with
     |false=>
      rw[hS]at KS;have HSB:=A8 hS;clear hS hnot hdi;go_wp2_with(go_at_call 37;(with_reducible refine(KS.out _).mono ?_);rintro e9 w4 ⟨rfl,hb4⟩;have HB4:=A8 (bel HV2.out hb4);clear hb4);go_roundw
      case rel=>
       refine⟨k+1,oM,gN,HJ.1.trans (HB4.mono HJ.1.size),?_,?_⟩
       .rw[HTK.out,Ul HSB.out];exact Ar HJ.2.1 HB4.out
       .rw[HTK.out];exact P7 HSB.out HJ.2.2
      case measure=>simp[intOf];omega
     |true=>
      rw[hS]at KS;obtain⟨d0,d1⟩:=hdi hS;obtain⟨D,rfl⟩:=Int.eq_ofNat_of_zero_le d0;have hDN:D<j:=oM;obtain⟨g,cap,e9,hg1,hg2⟩:=HJ.2.1.form oM;simp only[Value.slice.injEq]at e9;obtain⟨rfl,-,rfl⟩:=e9;have HSB:=A8 hS;have i3:(0:Int)<=(D:Int):=oM;have i4:(D:Int)<(j:Int):=oM;have KF:Hid (∀v,Below wr.heap.size wr v->v.cell? ⟨g,D,none⟩=some (.bool (decide (D∈EQ (c.list.take k))))/\v.frozen? ⟨g,D,none⟩=false/\v.cell? ⟨wr.heap.size,1,none⟩=v.cell? ⟨wr.heap.size,1,none⟩):=fun v hb=>by
       have h9:=Ar HJ.2.1 hb;exact⟨by rw[h9.cellAt D oM,JI _ hDN],h9.frozenAt D,rfl⟩
      have hdn:hS=hS:=rfl;by_cases hm:D∈EQ (c.list.take k)
      .have hns:=hnot hS (by simpa using hm);have HNS:=A8 hns;rw[decide_eq_true hm]at KF;clear hnot hdi hS hdn d0 d1 hg1 hg2 hns hm;go_wp2_with(go_at_call 37;(with_reducible refine(KS.out _).mono ?_);rintro e9 w4 ⟨rfl,hb4⟩;have HB4:=A8 (bel HV2.out hb4);obtain⟨k0,k1,-⟩:=KF.out w4 HB4.out;have u1:w4.cell? ⟨wr.heap.size,1,none⟩=some (.int .i64 (D:Int)):=kc hb4 x1;clear hb4);go_ret;exact⟨false,rfl,⟨fun h=>Yi,fun h=>absurd h HNS.out⟩,bel HBW.out HB4.out⟩
      .have HNM:=A8 hm;rw[decide_eq_false hm]at KF;have HG:Hid (W0.heap.size<=g):=hg1;clear hnot hdi hS hdn d0 d1 hg1 hg2 hm;go_wp2_with(go_at_call 37;(with_reducible refine(KS.out _).mono ?_);rintro e9 w4 ⟨rfl,hb4⟩;have HB4:=A8 (bel HV2.out hb4);obtain⟨k0,k1,-⟩:=KF.out w4 HB4.out;have u1:w4.cell? ⟨wr.heap.size,1,none⟩=some (.int .i64 (D:Int)):=kc hb4 x1;clear hb4);go_roundw
       case rel=>
        refine⟨k+1,oM,gN,(HJ.1.trans (HB4.mono HJ.1.size)).setCell HG.out _,?_,?_⟩
        .rw[HTK.out,<-Uk (D:=D) HSB.out oM rfl];exact((Ar HJ.2.1 HB4.out).stored D _).1
        .rw[HTK.out];exact P6 HSB.out HJ.2.2 (by simpa using HNM.out)
       case measure=>simp[intOf];omega
    .have hje:k=c.list.length:=by rw[HN.2];omega
     have e1:¬ (k:Int)<(N3:Int):=oM;have HFN:Hid (C6 c.list):=by
      have h9:=HJ.2.2;rw[hje,List.take_length]at h9;exact h9
     clear hlt hje;go_wp2;go_ret;exact .inr ⟨rfl,HFN.out,HBW.out⟩
end Go.Proofs.YtpoklpdgpcnkgaaGreat
