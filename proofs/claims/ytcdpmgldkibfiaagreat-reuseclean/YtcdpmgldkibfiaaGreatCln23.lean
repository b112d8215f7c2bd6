import Derived.Test.YtcdpmgldkibfiaaGreatCln21
import Derived.Test.YtcdpmgldkibfiaaGreatCln17
import Derived.Test.YtcdpmgldkibfiaaGreatCln12
import Derived.Deep.DeepCutAuto
import Derived.Test.YtcdpmgldkibfiaaGreatCln1
import Derived.Test.YtcdpmgldkibfiaaGreatCln14
import Derived.Test.YtcdpmgldkibfiaaGreatCln19
namespace Go.Proofs.YtcdpmgldkibfiaaGreat
open Go.RowKit Go.Proofs.Tryz
set_option linter.all false
set_option maxRecDepth 100000
set_option maxHeartbeats 16000000
theorem RC(i:Ac):Oq i=Aa i:=by
 unfold Oq Aa;cases h:((A4 i.op).d != 0)with
 |false=>
  have:(A4 i.op).d=0:=by simpa using h
  simp[this]
 |true=>
  have:(A4 i.op).d≠0:=by simpa using h
  simp[this]
def IZ(n:Nat)(l:List Ac):List Value:=(List.range n).map fun r=>.bool (decide (r∈GX l))
theorem Hq(n:Nat)(l:List Ac):(IZ n l).length=n:=by unfold IZ;simp
theorem Je{n:Nat}(l:List Ac){r:Nat}(h:r<n):(IZ n l)[r]? =some (.bool (decide (r∈GX l))):=by unfold IZ;simp[h]
theorem Wp(n:Nat):IZ n []=List.replicate n (.bool false):=by
 apply List.ext_getElem?;intro k;by_cases hk:k<n
 ·rw[Je _ hk,List.getElem?_replicate,if_pos hk];simp[GX]
 ·rw[List.getElem?_eq_none (by rw[Hq];omega),List.getElem?_eq_none sO]
theorem GY(i:Ac):GX [i]=if Aa i=true then [i.d.toNat]else []:=by
 unfold GX;by_cases h:Aa i=true
 ·simp[h]
 ·simp[h]
theorem Tm{n:Nat}{l:List Ac}{i:Ac}(h:Aa i=false):IZ n (l++[i])=IZ n l:=by
 unfold IZ;rw[Cp,GY,if_neg (by rw[h];simp),List.append_nil]
theorem Tl{n:Nat}{l:List Ac}{i:Ac}(h:Aa i=true){D:Nat}(hD:D<n)(e:i.d.toNat=D):(IZ n l).set D (.bool true)=IZ n (l++[i]):=by
 apply List.ext_getElem?;intro k;by_cases hk:k<n
 ·rw[Je _ hk,Cp,GY,if_pos h,List.getElem?_set];by_cases h2:D=k
  ·subst h2;rw[if_pos rfl,if_pos (by rw[Hq];exact hD)];simp[e]
  ·rw[if_neg h2,Je _ hk];simp only[List.mem_append,List.mem_singleton,e];congr 2;simp[Ne.symm h2]
 ·rw[List.getElem?_eq_none (by rw[List.length_set,Hq];omega),List.getElem?_eq_none (by rw[Hq];omega)]
theorem Ow{l:List Ac}{i:Ac}(h:Aa i=false)(hl:B9 l):B9 (l++[i]):=by
 unfold B9 at *;rw[Cp,GY,if_neg (by rw[h];simp),List.append_nil];exact hl
theorem Ov{l:List Ac}{i:Ac}(h:Aa i=true)(hl:B9 l)(hn:i.d.toNat∉GX l):B9 (l++[i]):=by
 unfold B9 at *;rw[Cp,GY,if_pos h];rw[List.nodup_append];exact⟨hl,sM,fun a ha b hb e=>by simp at hb;subst hb;subst e;exact hn ha⟩
theorem Qf{l:List Ac}{j:Nat}(hj:j<l.length)(h:Aa l[j]=true)(hm:l[j].d.toNat∈GX (l.take j)):¬B9 l:=fun hs=>by
 have e:l=l.take j++l[j]::l.drop (j+1):=by rw[←List.drop_eq_getElem_cons hj,List.take_append_drop]
 unfold B9 at hs;rw[e,show l.take j++l[j]::l.drop (j+1)=(l.take j++[l[j]])++l.drop (j+1) by simp,Cp,Cp,GY,if_pos h]at hs;have h2:=(List.nodup_append.1 hs).1;exact(List.nodup_append.1 h2).2.2 _ hm _ sM rfl
theorem Fu(v0 v1 v2 v3:Value)(c:Cd)(hd:∀i∈c.list,Aa i=true->0<=i.d/\i.d<(c.regs.length:Int))(hR:c.regs.length<=16384)(hL:c.list.length<=32768)(w:World)(hv:Cj w v0 v1 v2 v3 c):
 Calls prog 16 #[.agg #[v0,v1,v2,v3]] w fun e w'=>∃b,e=.returned (.bool b)/\(b=true↔B9 c.list)/\Below w.heap.size w w':=by
 obtain⟨p1,q1,rfl⟩:∃p q,v1=.slice p c.regs.length q:=by obtain⟨p,q,e,_⟩:=hv.regs;exact⟨p,q,e⟩
 obtain⟨p3,q3,rfl⟩:∃p q,v3=.slice p c.list.length q:=by obtain⟨p,q,e,_⟩:=hv.list;exact⟨p,q,e⟩
 have HVL:=A8 hv.list;have HD:=A8 hd;obtain⟨N3,hN3⟩:∃N,c.list.length=N:=⟨_,rfl⟩
 obtain⟨N1,hN1⟩:∃N,c.regs.length=N:=⟨_,rfl⟩
 have HN:=A8 (And.intro hN1 hN3);rw[hN3]at hL HVL ⊢;rw[hN1]at hR HD ⊢;obtain⟨W0,hW0⟩:∃W,w.alloc (.cells #[v0,.slice p1 N1 q1,v2,.slice p3 N3 q3] 27)=W:=⟨_,rfl⟩
 have HW0:Hid (Below w.heap.size w W0/\W0.heap.size=w.heap.size+1):=by rw[←hW0];exact⟨A0 _ _,sM⟩
 have b1:W0.cell? ⟨w.heap.size,1,none⟩=some (.slice p1 N1 q1):=by rw[←hW0];simp[go_sem]
 have b3:W0.cell? ⟨w.heap.size,3,none⟩=some (.slice p3 N3 q3):=by rw[←hW0];simp[go_sem]
 clear hv hd hN3 hN1;go_enter func16,ntmps16;go_upto_block 0 with fail;try rw[hW0]
 clear hW0;go_wp2_with fail
 go_loopw [3,4] (fun ov iv wr=>∃ (j:Nat) (pp:Option Addr) (qq:Nat),j<=N1/\iv=.int .i64 (j:Int)/\ov=.slice pp j qq/\Hid (Below W0.heap.size W0 wr/\wr.ownsRow W0.heap.size 4 1 (.slice pp j qq) j (List.replicate j (.bool false)))) (fun _ iv _=>N1-(intOf iv).toNat)
 case atStart=>exact⟨0,none,0,Nat.zero_le _,rfl,rfl,Be _,World.ownsRow_nil _ _ _ 1⟩
 case round=>
  obtain⟨j,pp,qq,hj,rfl,rfl,HR⟩:=hrel;obtain⟨hb,how⟩:=HR.out;have c1:=kc hb b1;have c3:=kc hb b3;by_cases hlt:j<N1
  ·obtain⟨g,c',w8,hap,hb8,ho8⟩:=Nf how hb.size oM;have HNX:Hid (Below W0.heap.size W0 w8/\w8.ownsRow W0.heap.size 4 1 (.slice (some ⟨g,0,none⟩) (j+1) c') (j+1) (List.replicate (j+1) (.bool false))):=by
    refine⟨hb.trans hb8,?_⟩;rw[List.replicate_succ'];exact ho8
   have HAP:=A8 hap;have t0:(j:Int)<(N1:Int):=oM;have t5:IntKind.i64.wrap ((j:Int)+1)=((j+1:Nat):Int):=by rw[IntKind.wrap_i64];omega
   clear hap hb8 ho8 hb how b3 b1;go_wp2_with(at_builtin;refine An rF _ _ _ rF _ _ _ rF rF HAP.out ?_);go_roundw
   case rel=>exact⟨j+1,_,_,oM,gN,rfl,HNX.out⟩
   case measure=>simp[intOf];omega
  ·have hje:j=N1:=oM;subst hje;have t0:¬ (j:Int)<(j:Int):=oM;have HST:Hid (Below W0.heap.size W0 wr/\wr.ownsRow W0.heap.size 4 1 (.slice pp j qq) j (IZ j (c.list.take 0))/\B9 (c.list.take 0)):=⟨hb,by rw[List.take_zero,Wp];exact how,by rw[List.take_zero];exact List.nodup_nil⟩
   have HB3:Hid (∀v,Below W0.heap.size W0 v->v.cell? ⟨w.heap.size,3,none⟩=some (.slice p3 N3 q3)):=fun v hb=>kc hb b3;rename World=>W1;clear hb how HR hlt b3 b1;go_wp2;clear c1 c3 t0
   go_loopw [5] (fun iv wr=>∃k:Nat,k<=N3/\iv=.int .i64 (k:Int)/\Hid (Below W0.heap.size W0 wr/\wr.ownsRow W0.heap.size 4 1 (.slice pp j qq) j (IZ j (c.list.take k))/\B9 (c.list.take k))) (fun iv _=>N3-(intOf iv).toNat)
   case atStart=>exact⟨0,Nat.zero_le _,rfl,HST.out⟩
   case round=>
    clear HST;obtain⟨k,hk,rfl,HJ⟩:=hrel;have b3:=HB3.out wr HJ.out.1;have HBW:Hid (Below w.heap.size w wr):=HW0.out.1.trans (HJ.out.1.mono HW0.out.1.size);by_cases hlt:k<N3
    ·have hjl:k<c.list.length:=by rw[HN.out.2];exact hlt
     obtain⟨lb,lo,rfl,hcl⟩:=(HVL.out.below HBW.out).at hjl;have hdi:=HD.out _ (List.getElem_mem hjl);have htk:c.list.take (k+1)=c.list.take k++[c.list[k]]:=List.take_succ_eq_append_getElem hjl;have KS:Hid (∀v,Calls prog 36 #[AV c.list[k]] v fun e w'=>e=.returned (.bool (Aa c.list[k]))/\Below v.heap.size v w'):=fun v=>by rw[←RC];exact Il _ v
     have hnot:=Qf hjl;obtain⟨⟨op,d,a,b,e,n,z⟩,hi⟩:∃i,c.list[k]=i:=⟨_,rfl⟩
     rw[hi]at hcl hdi htk KS hnot;simp only at hdi hnot;unfold AV at KS;simp only at KS;have HTK:=A8 htk;have y0:=hcl.at 0 (v:=.int .i64 op) rfl;rw[Nat.add_zero]at y0;have y1:=hcl.at 1 (v:=.int .i64 d) rfl;have y2:=hcl.at 2 (v:=.int .i64 a) rfl;have y3:=hcl.at 3 (v:=.int .i64 b) rfl;have y4:=hcl.at 4 (v:=.int .i64 e) rfl;have y5:=hcl.at 5 (v:=.int .i64 n) rfl;have y6:=hcl.at 6 (v:=.int .u32 z) rfl;have i1:(0:Int)<=(k:Int):=oM;have i2:(k:Int)<(N3:Int):=oM;have wi:IntKind.i64.wrap ((k:Int)+1)=((k+1:Nat):Int):=by rw[IntKind.wrap_i64];omega
     obtain⟨V2,hV2⟩:∃V,wr.alloc (.cells #[.int .i64 op,.int .i64 d,.int .i64 a,.int .i64 b,.int .i64 e,.int .i64 n,.int .u32 z] 44)=V:=⟨_,rfl⟩
     have HV2:Hid (Below wr.heap.size wr V2):=by rw[←hV2];exact A0 _ _
     have hX2:V2.rowIs wr.heap.size 44 7 (I4 op d a b e n z):=by rw[←hV2];exact Bn wr _ _
     have HX2:=A8 hX2;have x0:V2.cell? ⟨wr.heap.size,0,none⟩=some (.int .i64 op):=hX2.cell (i:=0) dE;have x1:V2.cell? ⟨wr.heap.size,1,none⟩=some (.int .i64 d):=hX2.cell (i:=1) dE;have x2:V2.cell? ⟨wr.heap.size,2,none⟩=some (.int .i64 a):=hX2.cell (i:=2) dE;have x3:V2.cell? ⟨wr.heap.size,3,none⟩=some (.int .i64 b):=hX2.cell (i:=3) dE;have x4:V2.cell? ⟨wr.heap.size,4,none⟩=some (.int .i64 e):=hX2.cell (i:=4) dE;have x5:V2.cell? ⟨wr.heap.size,5,none⟩=some (.int .i64 n):=hX2.cell (i:=5) dE;have x6:V2.cell? ⟨wr.heap.size,6,none⟩=some (.int .u32 z):=hX2.cell (i:=6) dE;clear hX2 hcl hi htk;cases hS:Aa (⟨op,d,a,b,e,n,z⟩:Ac)with
     |false=>
      rw[hS]at KS;have HSB:=A8 hS;clear hS hnot hdi;go_wp2_with(go_at_call 36;(with_reducible refine(KS.out _).mono ?_);rintro e9 w4 ⟨rfl,hb4⟩;have HB4:=A8 (bel HV2.out hb4);clear hb4);go_roundw
      case rel=>
       refine⟨k+1,oM,gN,HJ.out.1.trans (HB4.out.mono HJ.out.1.size),?_,?_⟩
       ·rw[HTK.out,Tm HSB.out];exact Au HJ.out.2.1 HB4.out
       ·rw[HTK.out];exact Ow HSB.out HJ.out.2.2
      case measure=>simp[intOf];omega
     |true=>
      rw[hS]at KS;obtain⟨d0,d1⟩:=hdi hS;obtain⟨D,rfl⟩:=Int.eq_ofNat_of_zero_le d0;have hDN:D<j:=oM;obtain⟨g,cap,e9,hg1,hg2⟩:=HJ.out.2.1.form oM;simp only[Value.slice.injEq]at e9;obtain⟨rfl,-,rfl⟩:=e9;have HSB:=A8 hS;have i3:(0:Int)<=(D:Int):=oM;have i4:(D:Int)<(j:Int):=oM;have KF:Hid (∀v,Below wr.heap.size wr v->v.cell? ⟨g,D,none⟩=some (.bool (decide (D∈GX (c.list.take k))))/\v.frozen? ⟨g,D,none⟩=false/\v.cell? ⟨wr.heap.size,1,none⟩=v.cell? ⟨wr.heap.size,1,none⟩):=fun v hb=>by
       have h9:=Au HJ.out.2.1 hb;exact⟨by rw[h9.cellAt D oM,Je _ hDN],h9.frozenAt D,rfl⟩
      have hdn:hS=hS:=rfl;by_cases hm:D∈GX (c.list.take k)
      ·have hns:=hnot hS (by simpa using hm);have HNS:=A8 hns;rw[decide_eq_true hm]at KF;clear hnot hdi hS hdn d0 d1 hg1 hg2 hns hm;go_wp2_with(go_at_call 36;(with_reducible refine(KS.out _).mono ?_);rintro e9 w4 ⟨rfl,hb4⟩;have HB4:=A8 (bel HV2.out hb4);obtain⟨k0,k1,-⟩:=KF.out w4 HB4.out;have u1:w4.cell? ⟨wr.heap.size,1,none⟩=some (.int .i64 (D:Int)):=kc hb4 x1;clear hb4);go_ret;exact⟨false,rfl,⟨fun h=>Xh,fun h=>absurd h HNS.out⟩,bel HBW.out HB4.out⟩
      ·have HNM:=A8 hm;rw[decide_eq_false hm]at KF;have HG:Hid (W0.heap.size<=g):=hg1;clear hnot hdi hS hdn d0 d1 hg1 hg2 hm;go_wp2_with(go_at_call 36;(with_reducible refine(KS.out _).mono ?_);rintro e9 w4 ⟨rfl,hb4⟩;have HB4:=A8 (bel HV2.out hb4);obtain⟨k0,k1,-⟩:=KF.out w4 HB4.out;have u1:w4.cell? ⟨wr.heap.size,1,none⟩=some (.int .i64 (D:Int)):=kc hb4 x1;clear hb4);go_roundw
       case rel=>
        refine⟨k+1,oM,gN,(HJ.out.1.trans (HB4.out.mono HJ.out.1.size)).setCell HG.out _,?_,?_⟩
        ·rw[HTK.out,←Tl (D:=D) HSB.out oM rfl];exact((Au HJ.out.2.1 HB4.out).stored D _).1
        ·rw[HTK.out];exact Ov HSB.out HJ.out.2.2 (by simpa using HNM.out)
       case measure=>simp[intOf];omega
    ·have hje:k=c.list.length:=by rw[HN.out.2];omega
     have e1:¬ (k:Int)<(N3:Int):=oM;have HFN:Hid (B9 c.list):=by
      have h9:=HJ.out.2.2;rw[hje,List.take_length]at h9;exact h9
     clear hlt hje;go_wp2;go_ret;exact .inr ⟨rfl,HFN.out,HBW.out⟩
def Kv(l:List Int):List Value:=l.map fun x=>.int .i64 x
theorem Sp(l:List Int)(x:Int):Kv (l++[x])=Kv l++[.int .i64 x]:=by simp[Kv]
def Fe(l:List Nat):List Value:=l.map fun(x:Nat)=>.int .i64 (x:Int)
theorem LH(l:List Nat)(x:Nat):Fe (l++[x])=Fe l++[.int .i64 (x:Int)]:=by simp[Fe]
def Yd(x:Nat):List Value:=[.int .i64 (x:Int)]
theorem NQ(x:Nat):(Yd x).length=1:=rfl
theorem UR:∀x:Nat,∀u∈Yd x,u.oneCell'=true:=fun x u hu=>by simp[Yd]at hu;subst hu;rfl
theorem LG(l:List Nat):Fe l=AU Yd l:=by
 induction l with
 |nil=>rfl
 |cons a l ih=>show _::Fe l=_::AU _ l;rw[ih]
theorem LI(l:List Nat)(m:Nat):(Fe l).take m=Fe (l.take m):=by unfold Fe;rw[List.map_take]
structure X5(E:Nat)(w:World)(l:List Ac)(pp po:Option Addr)(qq qo:Nat):Prop where
 out:w.ownsRow E 3 1 (.slice pp l.length qq) l.length (Kv (AP l).1)
 opn:w.ownsRow E 3 1 (.slice po (AP l).2.length qo) (AP l).2.length (Fe (AP l).2)
 ne:∀g,(Value.slice po (AP l).2.length qo).ownBlock=some g->(Value.slice pp l.length qq).ownBlock≠some g
theorem Yk(p:Option Addr)(n m q:Nat):(Value.slice p n q).ownBlock=(Value.slice p m q).ownBlock:=by cases p<;>rfl
theorem GD{E:Nat}{w:World}{l:List Ac}{pp po:Option Addr}{qq qo:Nat}(h:X5 E w l pp po qq qo)(hE:E<=w.heap.size)(hl:l.length<=32768){S:List Nat}(hS:S=(AP l).2\/S=(AP l).2.dropLast)(x:Int):
 ∃g c' w8,(Builtin.append_ #[36,36] 36 #[.slice pp l.length qq,.slice (some ⟨w.heap.size,0,none⟩) 1 1]).run prog (w.alloc (.cells #[.int .i64 x] 3))=.ok (.slice (some ⟨g,0,none⟩) (l.length+1) c') w8/\Below E w w8/\w8.ownsRow E 3 1 (.slice (some ⟨g,0,none⟩) (l.length+1) c') (l.length+1) (Kv ((AP l).1++[x]))/\w8.ownsRow E 3 1 (.slice po S.length qo) S.length (Fe S)/\∀b,(Value.slice po S.length qo).ownBlock=some b->(Value.slice (some ⟨g,0,none⟩) (l.length+1) c').ownBlock≠some b:=by
 obtain⟨g,c',w8,h1,h2,h3,h4,h5⟩:=JQ (V:=w) underlying36 CA rfl dE h.out hE #[.int .i64 x] rfl Xf mL oM 36;have ho:w.ownsRow E 3 1 (.slice po S.length qo) S.length (Fe S):=by
  rcases hS with e|e
  ·rw[e];exact h.opn
  ·have h9:=DF h.opn (m:=S.length) (by rw[e,List.length_dropLast];omega);rw[Nat.mul_one,LI,show(AP l).2.take S.length=S by rw[e,List.length_dropLast,←List.dropLast_eq_take]]at h9;exact h9
 have hb:∀b,(Value.slice po S.length qo).ownBlock=some b->(Value.slice pp l.length qq).ownBlock≠some b:=fun b hb=>h.ne b (by rw[←hb];exact Yk _ _ _ _);refine⟨g,c',w8,h1,h2,by rw[Sp];exact h3,Ad ho fun b hq=>h4 b (ho.lt b hq).2 (hb b hq),fun b hq e=>?_⟩;have e1:g=b:=Option.some.inj e;rcases h5 with k|k
 ·exact hb b hq (by rw[k,e1])
 ·have:=(ho.lt b hq).2;omega
theorem QD{E:Nat}{w:World}{po:Option Addr}{qo:Nat}{S:List Nat}(ho:w.ownsRow E 3 1 (.slice po S.length qo) S.length (Fe S))(hl:S.length<=32768)(x:Nat):
 ∃p9 q9 w9,(Builtin.append_ #[36,36] 36 #[.slice none 0 0,.slice po S.length qo]).run prog w=.ok (.slice p9 S.length q9) w9/\∃g c' w10,(Builtin.append_ #[36,36] 36 #[.slice p9 S.length q9,.slice (some ⟨w9.heap.size,0,none⟩) 1 1]).run prog (w9.alloc (.cells #[.int .i64 (x:Int)] 3))=.ok (.slice (some ⟨g,0,none⟩) (S.length+1) c') w10/\Below w.heap.size w w10/\w10.ownsRow w.heap.size 3 1 (.slice (some ⟨g,0,none⟩) (S.length+1) c') (S.length+1) (Fe (S++[x])):=by
 obtain⟨i0,hi0,hz0,hz1,hz2⟩:=info_parts CA;rw[LG]at ho;obtain⟨v',w9,h1,h2,h3⟩:=E6 dE NQ UR underlying36 hi0 hz0 hz1 hz2 rfl (Cw NQ ho) mL oM 36;obtain⟨p9,q9,rfl⟩:=AK h3;obtain⟨g,c',w10,k1,k2,k3,-⟩:=DU (V:=w9) underlying36 CA rfl dE h3 h2.size #[.int .i64 (x:Int)] rfl Xf mL oM 36;refine⟨p9,q9,w9,h1,g,c',w10,k1,h2.trans k2,?_⟩;rw[LH,LG];exact k3
def GF(B:List Int)(S:List Nat)(x:Int):Prop:=x= -1\/∃s∈S,x=(s:Int)
theorem Ue{c:Cd}{l:List Ac}{B:List Int}{S:List Nat}{K:List Rk}{O:List Nat}(h:BI c l B S K O){x y:Int}(hx:GF B S x)(hp:0<=x)(hy:B[x.toNat]? =some y):GF B S y:=by
 rcases hx with e|⟨s,hs,e⟩
 ·omega
 ·obtain⟨t,ht,rfl⟩:=List.mem_iff_getElem.1 hs;rw[e]at hy;simp only[Int.toNat_natCast]at hy;rw[h.up t ht]at hy;simp only[Option.some.injEq]at hy;rcases Nat.eq_zero_or_pos t with e0|e0
  ·subst e0;rw[List.take_zero,El]at hy;exact .inl hy.symm
  ·obtain⟨t',rfl⟩:∃t',t=t'+1:=⟨t-1,oM⟩
   rw[List.take_succ_eq_append_getElem oM,Dt]at hy;exact .inr ⟨_,List.getElem_mem oM,hy.symm⟩
theorem N7(B:List Int)(Q:Int->Prop)(hlow:∀ (i:Nat) (x:Int),B[i]? =some x->x<(i:Int)/\-1<=x)(hup:∀x y:Int,Q x->0<=x->B[x.toNat]? =some y->Q y)(i k:Nat)(hi:i<k)(hk:k<B.length)(hL:B.length<=32768)(hQ:∀y,B[k]? =some y->Q y)(g q:Nat)(w:World)(hr:∀v,Below w.heap.size w v->∀ (j:Nat) (h:j<B.length),v.cell? ⟨g,j,none⟩=some (.int .i64 B[j])):
 Calls prog 39 #[.slice (some ⟨g,0,none⟩) B.length q,.int .i64 (i:Int),.int .i64 (k:Int)] w fun e w'=>∃b,e=.returned (.bool b)/\(b=true->∃y,B[i]? =some y/\Q y)/\Below w.heap.size w w':=by
 have hik:¬ (k:Int)<=(i:Int):=oM;have hiB:i<B.length:=oM;have HR:=A8 hr;have HLO:=A8 (And.intro hlow hup);have y1:=hr w (Be _) i hiB;have y2:=hr w (Be _) k hk;obtain⟨N,hN⟩:∃N,B.length=N:=⟨_,rfl⟩
 obtain⟨bi,hbi⟩:∃x,B[i]=x:=⟨_,rfl⟩
 obtain⟨bk,hbk⟩:∃x,B[k]=x:=⟨_,rfl⟩
 rw[hbi]at y1;rw[hbk]at y2;have HI:Hid (B[i]? =some bi):=by show _=_;rw[List.getElem?_eq_getElem hiB,hbi]
 have HK:Hid (B[k]? =some bk/\Q bk):=by
  have h9:B[k]? =some bk:=by rw[List.getElem?_eq_getElem hk,hbk]
  exact⟨h9,hQ bk h9⟩
 have HN:=A8 hN;rw[hN]at hk hiB hL ⊢;have i1:(0:Int)<=(i:Int):=oM;have i2:(i:Int)<(N:Int):=oM;have i3:(0:Int)<=(k:Int):=oM;have i4:(k:Int)<(N:Int):=oM;have hkb:=HLO.out.1 k bk HK.out.1;have hib:=HLO.out.1 i bi HI.out;clear hr hlow hup hQ hbi hbk hN;go_enter func39,ntmps39;go_upto_block 0 with fail;go_wp2_with fail
 go_loopw [7] (fun av wr=>∃a:Int,-1<=a/\a<(N:Int)/\av=.int .i64 a/\wr=w/\Hid (Q a)) (fun av _=>(intOf av+1).toNat)
 case atStart=>exact⟨bk,hkb.2,oM,rfl,rfl,HK.out.2⟩
 case round=>
  obtain⟨a,ha1,ha2,rfl,rfl,HA⟩:=hrel;by_cases hgt:bi<a
  ·have ha0:0<=a:=oM;obtain⟨A,rfl⟩:=Int.eq_ofNat_of_zero_le ha0;have hAN:A<B.length:=by rw[HN.out];omega
   have y3:=HR.out wr (Be _) A hAN;have hl:=HLO.out.1 A B[A] (List.getElem?_eq_getElem hAN);have HNX:Hid (Q B[A]):=HLO.out.2 (A:Int) B[A] HA.out ha0 (by rw[Int.toNat_natCast];exact List.getElem?_eq_getElem hAN);obtain⟨z,hz⟩:∃z,B[A]=z:=⟨_,rfl⟩
   rw[hz]at y3 hl HNX;clear hz hAN;go_wp2;go_roundw
   case rel=>exact⟨z,hl.2,oM,rfl,fT,HNX.out⟩
   case measure=>simp[intOf];omega
  ·have e1:¬bi<a:=hgt;clear hgt;go_wp2;refine bodyPost_ret (by simp[results,results39,go_sem];try rfl) rfl ?_;by_cases h9:a=bi
   ·refine .inr ⟨by rw[h9];simp,?_,Be _⟩;have h8:=HI.out;rw[List.getElem?_eq_getElem (by have:=HN.out;omega)]at h8;simp only[Option.some.injEq]at h8;rw[h8,←h9];exact HA.out
   ·exact .inl ⟨by rw[show(a==bi)=false by simpa using h9],Be _⟩
theorem GU{E:Nat}{w:World}{l:List Ac}{i:Ac}{pp po:Option Addr}{qq qo:Nat}{S:List Nat}(h34:i.op≠34)(hS:S=if i.op=35 then(AP l).2.dropLast else(AP l).2)(h1:w.ownsRow E 3 1 (.slice pp (l.length+1) qq) (l.length+1) (Kv ((AP l).1++[F6 S])))(h2:w.ownsRow E 3 1 (.slice po S.length qo) S.length (Fe S))(h3:∀b,(Value.slice po S.length qo).ownBlock=some b->(Value.slice pp (l.length+1) qq).ownBlock≠some b):(AP (l++[i])).2=S/\X5 E w (l++[i]) pp po qq qo:=by
 have e:AP (l++[i])=((AP l).1++[F6 S],S):=by
  rw[Ga];unfold FJ;rw[if_neg h34,←hS]
 refine⟨by rw[e],?_⟩;refine⟨?_,?_,?_⟩
 ·rw[e,List.length_append,List.length_singleton];exact h1
 ·rw[e];exact h2
 ·rw[e,List.length_append,List.length_singleton];exact h3
theorem Nk{E:Nat}{w w':World}{l:List Ac}{i:Ac}{pp po:Option Addr}{qq qo:Nat}(h34:i.op=34)(hE:E<=w.heap.size)(hb:Below w.heap.size w w')(h1:w.ownsRow E 3 1 (.slice pp (l.length+1) qq) (l.length+1) (Kv ((AP l).1++[F6 (AP l).2])))(hl:(AP l).1.length=l.length)(h2:w'.ownsRow w.heap.size 3 1 (.slice po ((AP l).2.length+1) qo) ((AP l).2.length+1) (Fe ((AP l).2++[l.length]))):(AP (l++[i])).2.length=(AP l).2.length+1/\X5 E w' (l++[i]) pp po qq qo:=by
 have e:AP (l++[i])=((AP l).1++[F6 (AP l).2],(AP l).2++[l.length]):=by
  rw[Ga];unfold FJ;rw[if_pos h34,if_neg oM,hl]
 have e2:(AP (l++[i])).2.length=(AP l).2.length+1:=by rw[e];simp
 refine⟨e2,⟨?_,?_,?_⟩⟩
 ·rw[e,List.length_append,List.length_singleton];exact Au h1 hb
 ·rw[e2,e];exact Bu h2 hE
 ·intro b hq e9;rw[e2]at hq;rw[List.length_append,List.length_singleton]at e9;have k1:=(h2.lt b hq).1;have k2:=(h1.lt b e9).2;omega
theorem I9{w:World}{E:Nat}{po:Option Addr}{qo:Nat}{S1:List Nat}{s n:Nat}(hn:n=S1.length+1)(h:w.ownsRow E 3 1 (.slice po n qo) n (Fe (S1++[s]))):∃g,po=some ⟨g,0,none⟩/\w.cell? ⟨g,S1.length,none⟩=some (.int .i64 (s:Int)):=by
 obtain⟨g,cap,e,_⟩:=h.form oM;simp only[Value.slice.injEq]at e;obtain⟨rfl,-,rfl⟩:=e;refine⟨g,rfl,?_⟩;rw[h.cellAt S1.length oM,LH,List.getElem?_append_right (by unfold Fe;simp)];unfold Fe;simp
theorem Hc{E:Nat}{w w':World}(h:Below E w w')(_:E<=w.heap.size):w.heap.size<=w'.heap.size:=h.size
theorem Xr(l:List Ac):(AP l).2.length<=l.length:=by
 have key:∀ (m:List Ac) (s:List Int×List Nat),(m.foldl FJ s).2.length<=s.2.length+m.length:=by
  intro m;induction m with
  |nil=>intro s;exact Nat.le_refl _
  |cons i m ih=>
   intro s;rw[List.foldl_cons];have h:=ih (FJ s i);have h2:(FJ s i).2.length<=s.2.length+1:=by
    unfold FJ;simp only;split
    ·simp
    ·split
     ·rw[List.length_dropLast];omega
     ·omega
   simp only[List.length_cons];omega
 have h:=key l ([],[]);unfold AP;simpa using h
theorem Nl(v0 v1 v2 v3:Value)(c:Cd)(hL:c.list.length<=32768)(w:World)(hv:Cj w v0 v1 v2 v3 c):
 Calls prog 37 #[.agg #[v0,v1,v2,v3]] w fun e w'=>∃p q,e=.returned (.slice p c.list.length q)/\w'.ownsRow w.heap.size 3 1 (.slice p c.list.length q) c.list.length (Kv (AP c.list).1)/\Below w.heap.size w w':=by
 obtain⟨p3,q3,rfl⟩:∃p q,v3=.slice p c.list.length q:=by obtain⟨p,q,e,_⟩:=hv.list;exact⟨p,q,e⟩
 have HVL:=A8 hv.list;obtain⟨N3,hN3⟩:∃N,c.list.length=N:=⟨_,rfl⟩
 have HN:=A8 hN3;rw[hN3]at hL HVL ⊢;obtain⟨W0,hW0⟩:∃W,w.alloc (.cells #[v0,v1,v2,.slice p3 N3 q3] 27)=W:=⟨_,rfl⟩
 have HW0:Hid (Below w.heap.size w W0/\W0.heap.size=w.heap.size+1):=by rw[←hW0];exact⟨A0 _ _,sM⟩
 have b3:W0.cell? ⟨w.heap.size,3,none⟩=some (.slice p3 N3 q3):=by rw[←hW0];simp[go_sem]
 have HB3:Hid (∀v,Below W0.heap.size W0 v->v.cell? ⟨w.heap.size,3,none⟩=some (.slice p3 N3 q3)):=fun v hb=>kc hb b3;clear hv hN3;go_enter func37,ntmps37;go_upto_block 0 with fail;try rw[hW0]
 clear hW0 b3;go_wp2_with fail
 go_loopw [3,4,5] (fun ov pv iv wr=>∃ (j:Nat) (pp po:Option Addr) (qq qo:Nat),j<=N3/\iv=.int .i64 (j:Int)/\ov=.slice pp (c.list.take j).length qq/\pv=.slice po (AP (c.list.take j)).2.length qo/\Hid (Below W0.heap.size W0 wr/\X5 W0.heap.size wr (c.list.take j) pp po qq qo)) (fun _ _ iv _=>N3-(intOf iv).toNat)
 case atStart=>exact⟨0,none,none,0,0,Nat.zero_le _,rfl,rfl,rfl,Be _,World.ownsRow_nil _ _ _ 1,World.ownsRow_nil _ _ _ 1,fun g h=>Xh⟩
 case round=>
  obtain⟨j,pp,po,qq,qo,hj,rfl,rfl,rfl,HJ⟩:=hrel;have b3:=HB3.out wr HJ.out.1;have hlj:(c.list.take j).length=j:=by rw[List.length_take,HN.out];omega
  have HLJ:=A8 hlj;have HBW:Hid (Below w.heap.size w wr):=HW0.out.1.trans (HJ.out.1.mono HW0.out.1.size);by_cases hlt:j<N3
  ·have hjl:j<c.list.length:=by rw[HN.out];exact hlt
   obtain⟨lb,lo,rfl,hcl⟩:=(HVL.out.below HBW.out).at hjl;have htk:c.list.take (j+1)=c.list.take j++[c.list[j]]:=List.take_succ_eq_append_getElem hjl;obtain⟨i,hi⟩:∃i,c.list[j]=i:=⟨_,rfl⟩
   rw[hi]at hcl htk;have HTK:=A8 htk;have y0:=hcl.at 0 (v:=.int .i64 i.op) rfl;rw[Nat.add_zero]at y0;obtain⟨op,hop⟩:∃x,i.op=x:=⟨_,rfl⟩
   rw[hop]at y0;have i1:(0:Int)<=(j:Int):=oM;have i2:(j:Int)<(N3:Int):=oM;have wi:IntKind.i64.wrap ((j:Int)+1)=((j+1:Nat):Int):=by rw[IntKind.wrap_i64];omega
   have hbk:=HJ.out.2;have hsz:=HJ.out.1.size;have hbl:(AP (c.list.take j)).2.length<=32768:=by
    have h9:=Xr (c.list.take j);omega
   obtain⟨S,hS⟩:∃S,(AP (c.list.take j)).2=S:=⟨_,rfl⟩
   have HSS:=A8 hS;have HOPN:Hid (wr.ownsRow W0.heap.size 3 1 (.slice po S.length qo) S.length (Fe S)):=by have h9:=hbk.opn;rw[hS]at h9;exact h9
   rw[hS]at hbl ⊢;rw[hlj];have HOP:=A8 hop;clear hcl htk hi hjl hS;by_cases h35:op=35
   ·have h34:op≠34:=oM;subst h35;rcases List.eq_nil_or_concat S with e|⟨S1,s,e⟩
    ·subst e;obtain⟨g,c',w8,hap,hb8,ho8,hp8,hne8⟩:=GD hbk hsz oM (S:=[]) Zgp (F6 []);rw[HLJ.out,El]at hap;have HAP:=A8 hap;obtain⟨hn1,hn2⟩:=GU (i:=i) ZA (S:=[]) (by rw[HOP.out,HSS.out];exact rfl) ho8 hp8 hne8;exact Zbf
    ·rw[List.concat_eq_append]at e;subst e;have hm:(S1++[s]).length=S1.length+1:=sM;have s1:=fun w=>CQ RI MT po (S1.length+1) qo S1.length (by have h9:=HOPN.out;rcases h9.2 with⟨e9,e8⟩|⟨g9,c9,cur9,e9,_,_,k9,_⟩;(·simp at e8);(·simp only[Value.slice.injEq]at e9;rw[hm]at k9;have:=e9.2.2;omega)) w;have w2:IntKind.i64.wrap (((S1.length+1:Nat):Int)-1)=(S1.length:Int):=by rw[IntKind.wrap_i64];omega
     rw[hm]at hbl ⊢;have i5:(0:Int)<((S1.length+1:Nat):Int):=oM;rcases List.eq_nil_or_concat S1 with e|⟨S2,s2,e⟩
     ·subst e;obtain⟨g,c',w8,hap,hb8,ho8,hp8,hne8⟩:=GD hbk hsz oM (S:=[]) (by rw[HSS.out];exact .inr rfl) (F6 []);rw[HLJ.out,El]at hap;have HAP:=A8 hap;obtain⟨hn1,hn2⟩:=GU (i:=i) ZA (S:=[]) (by rw[HOP.out,HSS.out];exact rfl) ho8 hp8 hne8;exact Zbf
     ·rw[List.concat_eq_append]at e;subst e;have hm2:(S2++[s2]).length=S2.length+1:=sM;have hO2:=DF HOPN.out (m:=S2.length+1) sM;rw[Nat.mul_one,LI,show(S2++[s2]++[s]).take (S2.length+1)=S2++[s2] by rw[←hm2,List.take_left]]at hO2;obtain⟨gl,hgl,x0⟩:=I9 (S1:=S2) (s:=s2) rfl hO2;subst hgl;obtain⟨n1,hq1⟩:∃n,(S2++[s2]).length=n:=⟨_,rfl⟩
      rw[hq1]at s1 w2 hbl i5 ⊢;have hq2:n1=S2.length+1:=by rw[←hq1,hm2]
      obtain⟨n2,hq3⟩:∃n,S2.length=n:=⟨_,rfl⟩
      rw[hq3]at x0 hq2;have w3:IntKind.i64.wrap ((n1:Int)-1)=(n2:Int):=by rw[IntKind.wrap_i64];omega
      have i6:(0:Int)<(n1:Int):=oM;have i7:(n2:Int)<(n1:Int):=oM;have i8:(0:Int)<=(n2:Int):=oM;have HQ1:=A8 hq1;clear hq1 hq2 hq3 hm hm2;obtain⟨g,c',w8,hap,hb8,ho8,hp8,hne8⟩:=GD hbk hsz oM (S:=(S2++[s2])) (by rw[HSS.out];exact .inr sM) (F6 (S2++[s2]));rw[HLJ.out,Dt]at hap;have HAP:=A8 hap;obtain⟨hn1,hn2⟩:=GU (i:=i) ZA (S:=(S2++[s2])) (by rw[HOP.out,HSS.out];exact by simp) ho8 hp8 hne8;have HNX:Hid ((AP (c.list.take (j+1))).2.length=n1/\(c.list.take (j+1)).length=j+1/\Below W0.heap.size W0 w8/\X5 W0.heap.size w8 (c.list.take (j+1)) (some ⟨g,0,none⟩) (some ⟨gl,0,none⟩) c' qo):=by
       rw[HTK.out];exact⟨by rw[hn1];exact HQ1.out,by rw[List.length_append,HLJ.out];rfl,HJ.out.1.trans hb8,hn2⟩
      exact Zdb
   ·by_cases h34:op=34
    ·rcases List.eq_nil_or_concat S with e|⟨S1,s,e⟩
     ·subst e;obtain⟨g,c',w8,hap,hb8,ho8,hp8,hne8⟩:=GD hbk hsz oM (S:=[]) Zgp (F6 []);rw[HLJ.out,El]at hap;have HAP:=A8 hap;obtain⟨p9,q9,w9,ha9,g2,c2,w10,hb10,hbl10,ho10⟩:=QD hp8 sM j;obtain⟨hn1,hn2⟩:=Nk (i:=i) (w:=w8) (w':=w10) (qo:=c2) (po:=some ⟨g2,0,none⟩) ZA (Nat.le_trans hsz (Hc hb8 hsz)) hbl10 (by rw[HSS.out];exact ho8) (GV _) (by rw[HSS.out,HLJ.out];exact ho10);have HNX:Hid ((AP (c.list.take (j+1))).2.length=1/\(c.list.take (j+1)).length=j+1/\Below W0.heap.size W0 w10/\X5 W0.heap.size w10 (c.list.take (j+1)) (some ⟨g,0,none⟩) (some ⟨g2,0,none⟩) c' c2):=by
       rw[HTK.out];exact⟨by rw[hn1,HSS.out];rfl,by rw[List.length_append,HLJ.out];rfl,HJ.out.1.trans (hb8.trans (hbl10.mono (Nat.le_trans hsz (Hc hb8 hsz)))),hn2⟩
      simp only[List.length_nil]at ha9 hb10;exact Zca
     ·rw[List.concat_eq_append]at e;subst e;obtain⟨gl,hgl,x0⟩:=I9 (S1:=S1) (s:=s) rfl Zgm;subst hgl;have hm:(S1++[s]).length=S1.length+1:=sM;have w3:IntKind.i64.wrap (((S1.length+1:Nat):Int)-1)=(S1.length:Int):=by rw[IntKind.wrap_i64];omega
      have i6:(0:Int)<((S1.length+1:Nat):Int):=oM;have i7:(S1.length:Int)<((S1.length+1:Nat):Int):=oM;have i8:(0:Int)<=(S1.length:Int):=oM;obtain⟨g,c',w8,hap,hb8,ho8,hp8,hne8⟩:=GD hbk hsz oM (S:=(S1++[s])) Zgp (F6 (S1++[s]));rw[HLJ.out,Dt]at hap;have HAP:=A8 hap;obtain⟨p9,q9,w9,ha9,g2,c2,w10,hb10,hbl10,ho10⟩:=QD hp8 hbl j;obtain⟨hn1,hn2⟩:=Nk (i:=i) (w:=w8) (w':=w10) (qo:=c2) (po:=some ⟨g2,0,none⟩) ZA (Nat.le_trans hsz (Hc hb8 hsz)) hbl10 (by rw[HSS.out];exact ho8) (GV _) (by rw[HSS.out,HLJ.out];exact ho10);have HNX:Hid ((AP (c.list.take (j+1))).2.length=S1.length+1+1/\(c.list.take (j+1)).length=j+1/\Below W0.heap.size W0 w10/\X5 W0.heap.size w10 (c.list.take (j+1)) (some ⟨g,0,none⟩) (some ⟨g2,0,none⟩) c' c2):=by
       rw[HTK.out];exact⟨by rw[hn1,HSS.out];rw[hm],by rw[List.length_append,HLJ.out];rfl,HJ.out.1.trans (hb8.trans (hbl10.mono (Nat.le_trans hsz (Hc hb8 hsz)))),hn2⟩
      rw[hm]at ha9 hb10 ⊢;exact Zca
    ·rcases List.eq_nil_or_concat S with e|⟨S1,s,e⟩
     ·subst e;obtain⟨g,c',w8,hap,hb8,ho8,hp8,hne8⟩:=GD hbk hsz oM (S:=[]) Zgp (F6 []);rw[HLJ.out,El]at hap;have HAP:=A8 hap;obtain⟨hn1,hn2⟩:=GU (i:=i) ZA (S:=[]) (by rw[HOP.out,HSS.out];exact by rw[if_neg h35]) ho8 hp8 hne8;exact Zbf
     ·rw[List.concat_eq_append]at e;subst e;obtain⟨gl,hgl,x0⟩:=I9 (S1:=S1) (s:=s) rfl Zgm;subst hgl;have hm:(S1++[s]).length=S1.length+1:=sM;rw[hm]at hbl ⊢;have w3:IntKind.i64.wrap (((S1.length+1:Nat):Int)-1)=(S1.length:Int):=by rw[IntKind.wrap_i64];omega
      have i6:(0:Int)<((S1.length+1:Nat):Int):=oM;have i7:(S1.length:Int)<((S1.length+1:Nat):Int):=oM;have i8:(0:Int)<=(S1.length:Int):=oM;obtain⟨g,c',w8,hap,hb8,ho8,hp8,hne8⟩:=GD hbk hsz oM (S:=(S1++[s])) Zgp (F6 (S1++[s]));rw[HLJ.out,Dt]at hap;have HAP:=A8 hap;obtain⟨hn1,hn2⟩:=GU (i:=i) ZA (S:=(S1++[s])) (by rw[HOP.out,HSS.out];exact by rw[if_neg h35]) ho8 hp8 hne8;have HNX:Hid ((AP (c.list.take (j+1))).2.length=S1.length+1/\(c.list.take (j+1)).length=j+1/\Below W0.heap.size W0 w8/\X5 W0.heap.size w8 (c.list.take (j+1)) (some ⟨g,0,none⟩) (some ⟨gl,0,none⟩) c' qo):=by
       rw[HTK.out];exact⟨by rw[hn1];simp,by rw[List.length_append,HLJ.out];rfl,HJ.out.1.trans hb8,hn2⟩
      exact Zdb
  ·have hje:j=N3:=oM;have e1:¬ (j:Int)<(N3:Int):=oM;have HFN:Hid (wr.ownsRow W0.heap.size 3 1 (.slice pp N3 qq) N3 (Kv (AP c.list).1)):=by
    have h9:=HJ.out.2.out;rw[hlj]at h9;rw[hje]at h9;rw[show c.list.take N3=c.list by rw[←HN.out,List.take_length]]at h9;exact h9
   have HJE:=A8 hje;rw[hlj];clear hlt hje hlj;go_wp2;go_ret;exact⟨pp,qq,(by rw[HJE.out];rfl),Bu HFN.out HW0.out.1.size,HBW.out⟩
def IT(l:List Ac)(r:Nat):Nat:=(l.filter fun i=>Aa i&&decide (i.d.toNat=r)).length
theorem Lf(l:List Ac)(i:Ac)(r:Nat):IT (l++[i]) r=IT l r+(if Aa i=true/\i.d.toNat=r then 1 else 0):=by
 unfold IT;rw[List.filter_append,List.length_append];congr 1;by_cases h1:Aa i=true
 ·by_cases h2:i.d.toNat=r
  ·rw[if_pos ⟨h1,h2⟩];simp[h1,h2]
  ·rw[if_neg (fun q=>h2 q.2)];simp[h2]
 ·rw[if_neg (fun q=>h1 q.1)];have h3:Aa i=false:=by simpa using h1
  simp[h3]
theorem Xw(l:List Ac)(r:Nat):IT l r<=l.length:=List.length_filter_le _ _
theorem J1.keep{w v v':World}{N C B SB IB MB:Nat}{f g:Nat->Value}{tag:Nat->Nat}(h:J1 w N C f g B SB IB MB tag v)(hb:Below v.heap.size v v'):J1 w N C f g B SB IB MB tag v':=
 ⟨h.bel.trans (hb.mono h.bel.size),h.b.of_block (hb.block _ h.b.lt),h.st.of_block (hb.block _ h.st.lt),h.ir.of_block (hb.block _ h.ir.lt),h.map.below hb,h.hB,h.hS,h.hI,h.hM,h.tB,h.tS,h.tI,h.tM⟩
theorem J1.far{w v:World}{N C B SB IB MB:Nat}{f g:Nat->Value}{tag:Nat->Nat}(h:J1 w N C f g B SB IB MB tag v){a:Addr}(ha:w.heap.size<=a.block)(h1:B≠a.block)(h2:SB≠a.block)(h3:IB≠a.block)(h4:MB≠a.block)(x:Value):J1 w N C f g B SB IB MB tag (v.setCell a x):=
 ⟨h.bel.setCell ha x,h.b.setOther h1 x,h.st.setOther h2 x,h.ir.setOther h3 x,h.map.block (Below.heap_setCell _ _ _ _ h4),h.hB,h.hS,h.hI,h.hM,h.tB,h.tS,h.tI,h.tM⟩
theorem J1.setSt{w v:World}{N C B SB IB MB:Nat}{f g:Nat->Value}{tag:Nat->Nat}(h:J1 w N C f g B SB IB MB tag v)(j:Nat)(x:Value):J1 w N C (fun r=>if r=j then x else f r) g B SB IB MB tag (v.setCell ⟨SB,j,none⟩ x):=
 ⟨h.bel.setCell h.hS x,h.b.setOther (AD h.tB h.tS dE) x,h.st.set j x,h.ir.setOther (AD h.tI h.tS dE) x,h.map.block (Below.heap_setCell _ _ _ _ (AD h.tM h.tS dE)),h.hB,h.hS,h.hI,h.hM,h.tB,h.tS,h.tI,h.tM⟩
theorem J1.setIr{w v:World}{N C B SB IB MB:Nat}{f g:Nat->Value}{tag:Nat->Nat}(h:J1 w N C f g B SB IB MB tag v)(j:Nat)(x:Value):J1 w N C f (fun r=>if r=j then x else g r) B SB IB MB tag (v.setCell ⟨IB,j,none⟩ x):=
 ⟨h.bel.setCell h.hI x,h.b.setOther (AD h.tB h.tI dE) x,h.st.setOther (AD h.tS h.tI dE) x,h.ir.set j x,h.map.block (Below.heap_setCell _ _ _ _ (AD h.tM h.tI dE)),h.hB,h.hS,h.hI,h.hM,h.tB,h.tS,h.tI,h.tM⟩
theorem J1.of{w v:World}{N C B SB IB MB:Nat}{f g f' g':Nat->Value}{tag:Nat->Nat}(h:J1 w N C f g B SB IB MB tag v)(e1:∀r,r<N->f r=f' r)(e2:∀r,r<N->g r=g' r):J1 w N C f' g' B SB IB MB tag v:=
 ⟨h.bel,h.b,h.st.congr e1,h.ir.congr e2,h.map,h.hB,h.hS,h.hI,h.hM,h.tB,h.tS,h.tI,h.tM⟩
theorem WQ(c:Cd)(C q1 q3:Nat)(p1 p3:Option Addr)(w:World)(hN:c.regs.length<=16384)(hL:c.list.length<=32768)(hC1:w.cell? ⟨C,1,none⟩=some (.slice p1 c.regs.length q1))(hC3:w.cell? ⟨C,3,none⟩=some (.slice p3 c.list.length q3))(hl:Bz 7 E0 w (.slice p3 c.list.length q3) c.list)(hd:∀i∈c.list,Aa i=true->0<=i.d/\i.d<(c.regs.length:Int)):
 Calls prog 27 #[.pointer (some ⟨C,0,none⟩)] w fun e w'=>∃B SB IB MB tag,e=.returned (.pointer (some ⟨B,0,none⟩))/\J1 w c.regs.length C (fun r=>.bool (Ar c.list r)) (fun r=>.int .i64 (r:Int)) B SB IB MB tag w':=by
 have HL:=A8 hl;have HD:=A8 hd;obtain⟨N,hNe⟩:∃N,c.regs.length=N:=⟨_,rfl⟩
 obtain⟨M,hMe⟩:∃M,c.list.length=M:=⟨_,rfl⟩
 rw[hNe]at hC1 hN HD ⊢;rw[hMe]at hC3 hL HL;have HM:=A8 hMe;have m1:=fun v=>ZW N oM v;have m2:=fun v=>UP N oM v;have hmm:=@run_makeMap prog;have lC:C<w.heap.size:=A5 hC1;have n0:¬C=w.heap.size:=oM;have n1:¬C=w.heap.size+1:=oM;have n2:¬C=w.heap.size+1+1:=oM;have n3:¬C=w.heap.size+1+1+1:=oM;have kC3:∀o1 o2 o3,(((w.alloc o1).alloc o2).alloc o3).cell? ⟨C,1,none⟩=some (.slice p1 N q1):=fun o1 o2 o3=>kc (bel (bel (A0 _ _) (A0 _ _)) (A0 _ _)) hC1;have kC4:∀o1 o2 o3 o4,((((w.alloc o1).alloc o2).alloc o3).alloc o4).cell? ⟨C,1,none⟩=some (.slice p1 N q1):=fun o1 o2 o3 o4=>kc (bel (bel (bel (A0 _ _) (A0 _ _)) (A0 _ _)) (A0 _ _)) hC1;clear hl hd hNe hMe;go_enter func27,ntmps27;go_upto_region 1 with fail;go_cut [3] (fun bv wx=>∃B SB IB MB tag,bv=.pointer (some ⟨B,0,none⟩)/\J1 w N C (fun _=>.bool false) (fun _=>.int .i64 0) B SB IB MB tag wx)
 case first=>
  refine rG (fun v=>v.cell? ⟨C,1,none⟩=some (.slice p1 N q1)) fun hHeld=>?_;refine Tf 0 1 2 3 4 5 ?_;refine Tc 7 8 9 ?_;refine Tb 10 11 ?_;clear hHeld;refine wpAnyH_ready (rs:=[6,12,13]) kR sM ?_;refine Fs 6 (fun K hK=>?_) ?_
  ·go_simp;refine Ax hK fun hHeld=>?_;clear hK K;clear hHeld;refine wpAnyH_ready (rs:=[12,13]) kR sM ?_;refine Fs 12 (fun K hK=>?_) ?_
   ·go_simp;refine Ax hK fun hHeld=>?_;clear hK K;clear hHeld;refine AC 13 fun K hK=>?_;exact Zam
   refine Fs 13 (fun K hK=>?_) AllReadyH.nil;go_simp;refine Ax hK fun hHeld=>?_;clear hK K;clear hHeld;refine AC 12 fun K hK=>?_;exact Zam
  refine Fs 12 (fun K hK=>?_) ?_
  ·go_simp;refine Ax hK fun hHeld=>?_;clear hK K;clear hHeld;refine wpAnyH_ready (rs:=[6,13]) kR sM ?_;refine Fs 6 (fun K hK=>?_) ?_
   ·go_simp;refine Ax hK fun hHeld=>?_;clear hK K;clear hHeld;refine AC 13 fun K hK=>?_;exact Zam
   refine Fs 13 (fun K hK=>?_) AllReadyH.nil;go_simp;refine Ax hK fun hHeld=>?_;clear hK K;clear hHeld;refine AC 6 fun K hK=>?_;exact Zam
  refine Fs 13 (fun K hK=>?_) AllReadyH.nil;go_simp;refine Ax hK fun hHeld=>?_;clear hK K;clear hHeld;refine wpAnyH_ready (rs:=[6,12]) kR sM ?_;refine Fs 6 (fun K hK=>?_) ?_
  ·go_simp;refine Ax hK fun hHeld=>?_;clear hK K;clear hHeld;refine AC 12 fun K hK=>?_;exact Zam
  refine Fs 12 (fun K hK=>?_) AllReadyH.nil;go_simp;refine Ax hK fun hHeld=>?_;clear hK K;clear hHeld;refine AC 6 fun K hK=>?_;exact Zam
 case rest=>
  obtain⟨B,SB,IB,MB,tag,rfl,hnw⟩:=hcut;have HNW:=A8 hnw;have d1:=kc hnw.bel hC1;have d3:=kc hnw.bel hC3;obtain⟨ZB,hZB⟩:∃Z,wc.heap.size=Z:=⟨_,rfl⟩
  have HLZ:Hid (B<ZB/\SB<ZB/\IB<ZB/\MB<ZB/\w.heap.size<=ZB):=by rw[←hZB];exact⟨hnw.b.lt,hnw.st.lt,hnw.ir.lt,hnw.map.lt,hnw.bel.size⟩
  obtain⟨V,hV⟩:∃V,wc.alloc (.cells (madeCells #[.int .i64 0] N) 3)=V:=⟨_,rfl⟩
  have HBV:Hid (Below wc.heap.size wc V):=by rw[←hV];exact A0 _ _
  have HZV:Hid (V.rowIs ZB 3 N (fun r=>.int .i64 (IT (c.list.take 0) r:Int))):=by rw[←hV,←hZB];exact World.rowIs_made wc (.int .i64 0) N 3
  have d3':=kc HBV.out d3;have d1':=kc HBV.out d1;clear hnw n0 n1 n2 n3 kC3 kC4;go_wp2;have HV0:Hid (J1 w N C (fun _=>.bool false) (fun _=>.int .i64 0) B SB IB MB tag V):=HNW.out.keep HBV.out;clear d1 d3 d1' d3' HNW HBV hV
  go_loopw [36] (fun iv wr=>∃j:Nat,j<=M/\iv=.int .i64 (j:Int)/\Hid (J1 w N C (fun _=>.bool false) (fun _=>.int .i64 0) B SB IB MB tag wr/\wr.rowIs ZB 3 N (fun r=>.int .i64 (IT (c.list.take j) r:Int)))) (fun iv _=>M-(intOf iv).toNat)
  case atStart=>exact⟨0,Nat.zero_le _,rfl,HV0.out,HZV.out⟩
  case round=>
   obtain⟨j,hj,rfl,HJ⟩:=hrel;by_cases hlt:j<M
   ·have hjl:j<c.list.length:=by have:=HM.out;omega
    obtain⟨lb,lo,rfl,hcl⟩:=(HL.out.below HJ.out.1.bel).at hjl;obtain⟨⟨op,d,a,b,e,n,z⟩,hi⟩:∃i,c.list[j]=i:=⟨_,rfl⟩
    have HDI:=A8 (HD.out _ (List.getElem_mem hjl));rw[hi]at hcl HDI;have htk:c.list.take (j+1)=c.list.take j++[⟨op,d,a,b,e,n,z⟩]:=by rw[List.take_succ_eq_append_getElem hjl,hi]
    have HTK:=A8 htk;have y0:=hcl.at 0 (v:=.int .i64 op) rfl;rw[Nat.add_zero]at y0;have y1:=hcl.at 1 (v:=.int .i64 d) rfl;have y2:=hcl.at 2 (v:=.int .i64 a) rfl;have y3:=hcl.at 3 (v:=.int .i64 b) rfl;have y4:=hcl.at 4 (v:=.int .i64 e) rfl;have y5:=hcl.at 5 (v:=.int .i64 n) rfl;have y6:=hcl.at 6 (v:=.int .u32 z) rfl;have llb:lb<wr.heap.size:=A5 y0;have n9:¬lb=wr.heap.size:=oM;have i1:(0:Int)<=(j:Int):=oM;have i2:(j:Int)<(M:Int):=oM;have wi:IntKind.i64.wrap ((j:Int)+1)=((j+1:Nat):Int):=by rw[IntKind.wrap_i64];omega
    obtain⟨V2,hV2⟩:∃V,wr.alloc (.cells #[.int .i64 op,.int .i64 d,.int .i64 a,.int .i64 b,.int .i64 e,.int .i64 n,.int .u32 z] 44)=V:=⟨_,rfl⟩
    have HB2:Hid (Below wr.heap.size wr V2):=by rw[←hV2];exact A0 _ _
    have hX2:V2.rowIs wr.heap.size 44 7 (I4 op d a b e n z):=by rw[←hV2];exact Bn wr _ _
    have HX2:=A8 hX2;have x0:V2.cell? ⟨wr.heap.size,0,none⟩=some (.int .i64 op):=hX2.cell (i:=0) dE;have x1:V2.cell? ⟨wr.heap.size,1,none⟩=some (.int .i64 d):=hX2.cell (i:=1) dE;have x2:V2.cell? ⟨wr.heap.size,2,none⟩=some (.int .i64 a):=hX2.cell (i:=2) dE;have x3:V2.cell? ⟨wr.heap.size,3,none⟩=some (.int .i64 b):=hX2.cell (i:=3) dE;have x4:V2.cell? ⟨wr.heap.size,4,none⟩=some (.int .i64 e):=hX2.cell (i:=4) dE;have x5:V2.cell? ⟨wr.heap.size,5,none⟩=some (.int .i64 n):=hX2.cell (i:=5) dE;have x6:V2.cell? ⟨wr.heap.size,6,none⟩=some (.int .u32 z):=hX2.cell (i:=6) dE;have KS:=A8 (fun v=>Ot ⟨op,d,a,b,e,n,z⟩ v);unfold AV at KS;simp only at KS;clear hX2 hcl htk hi llb;cases hS:((A4 op).d != 0)with
    |false=>
     simp only[hS]at KS;have hsb:Aa (⟨op,d,a,b,e,n,z⟩:Ac)=false:=by simp only[Aa];simpa using hS
     have HSB:=A8 hsb;clear hS hsb;go_wp2_with(go_at_call 51;(with_reducible refine(KS.out _).mono ?_);rintro e9 w4 ⟨rfl,hb4⟩;have HB4:=A8 hb4;clear hb4);go_roundw
     case rel=>
      have hb:Below wr.heap.size wr w4:=bel HB2.out HB4.out;refine⟨j+1,oM,gN,HJ.out.1.keep hb,((HJ.out.2.of_block (hb.block _ HJ.out.2.lt))).congr fun r hr=>?_⟩;rw[HTK.out,Lf,if_neg (by rw[HSB.out];simp),Nat.add_zero]
     case measure=>simp[intOf];omega
    |true=>
     simp only[hS]at KS;have hsb:Aa (⟨op,d,a,b,e,n,z⟩:Ac)=true:=by simp only[Aa];simpa using hS
     obtain⟨e0,e1⟩:=HDI.out hsb;simp only at e0 e1;obtain⟨D,rfl⟩:=Int.eq_ofNat_of_zero_le e0;have hDN:D<N:=oM;have HSB:=A8 hsb;have hcn:IT (c.list.take j) D<=32768:=by have h9:=Xw (c.list.take j) D;rw[List.length_take]at h9;omega
     obtain⟨K0,hK0⟩:∃K,IT (c.list.take j) D=K:=⟨_,rfl⟩
     rw[hK0]at hcn;have HK0:=A8 hK0;have wk:IntKind.i64.wrap ((K0:Int)+1)=((K0+1:Nat):Int):=by rw[IntKind.wrap_i64];omega
     clear hS hsb hK0;go_wp2_with(go_at_call 51;(with_reducible refine(KS.out _).mono ?_);rintro e9 w4 ⟨rfl,hb4⟩;have HB4:=A8 (bel HB2.out hb4);have hZ4:=HJ.out.2.of_block (HB4.out.block _ HJ.out.2.lt);have HZ4:=A8 hZ4;have s1:=hZ4.cell hDN;rw[HK0.out]at s1;have s2:=hZ4.frozen D;have x1':w4.cell? ⟨wr.heap.size,1,none⟩=some (.int .i64 (D:Int)):=kc hb4 x1;clear hZ4 hb4);go_roundw
     case rel=>
      obtain⟨z1,z2,z3,z4,z5⟩:=HLZ.out;refine⟨j+1,oM,gN,(HJ.out.1.keep HB4.out).far z5 (by show B≠ZB;omega) (by show SB≠ZB;omega) (by show IB≠ZB;omega) (by show MB≠ZB;omega) _,(HZ4.out.set D _).congr fun r hr=>?_⟩;rw[HTK.out,Lf];by_cases q:r=D
      ·rw[if_pos q,q,if_pos ⟨HSB.out,sM⟩,HK0.out];first|rfl|(congr 1;go_num)|simp
      ·rw[if_neg q,if_neg (fun t=>q (by have:=t.2;simpa using this.symm)),Nat.add_zero]
     case measure=>simp[intOf];omega
   ·have e9:¬ (j:Int)<(M:Int):=oM;have hjM:j=c.list.length:=by have:=HM.out;omega
    have HJ2:Hid (J1 w N C (fun r=>.bool (if r<0 then Ar c.list r else false)) (fun r=>.int .i64 (if r<0 then(r:Int)else 0)) B SB IB MB tag wr/\wr.rowIs ZB 3 N (fun r=>.int .i64 (IT c.list r:Int))):=by
     refine⟨HJ.out.1.of (fun r _=>by rw[if_neg oM]) (fun r _=>by rw[if_neg oM]),?_⟩;have h9:=HJ.out.2;rw[hjM,List.take_length]at h9;exact h9
    clear hlt hj hjM HJ HV0 HZV;go_wp2
    go_loopw [52] (fun iv wr=>∃k:Nat,k<=N/\iv=.int .i64 (k:Int)/\Hid (J1 w N C (fun r=>.bool (if r<k then Ar c.list r else false)) (fun r=>.int .i64 (if r<k then(r:Int)else 0)) B SB IB MB tag wr/\wr.rowIs ZB 3 N (fun r=>.int .i64 (IT c.list r:Int)))) (fun iv _=>N-(intOf iv).toNat)
    case atStart=>exact⟨0,Nat.zero_le _,rfl,HJ2.out⟩
    case round=>
     clear HJ2;obtain⟨k,hk,rfl,HR⟩:=hrel;by_cases hkN:k<N
     ·have hn:=HR.out.1;have b1:wr.cell? ⟨B,1,none⟩=some (.slice (some ⟨SB,0,none⟩) N N):=hn.b.cell (i:=1) dE;have b2:wr.cell? ⟨B,2,none⟩=some (.slice (some ⟨IB,0,none⟩) N N):=hn.b.cell (i:=2) dE;have s1:=hn.st.cell hkN;have s2:=hn.st.frozen k;have t1:=hn.ir.cell hkN;have t2:=hn.ir.frozen k;have z1:=HR.out.2.cell hkN;have n1:¬B=SB:=AD hn.tB hn.tS dE;have n2:¬B=IB:=AD hn.tB hn.tI dE;have n3:¬IB=SB:=AD hn.tI hn.tS dE;have n1':¬SB=B:=fun e=>n1 e.symm;have n2':¬IB=B:=fun e=>n2 e.symm;have n3':¬SB=IB:=fun e=>n3 e.symm;have i1:(0:Int)<=(k:Int):=oM;have i2:(k:Int)<(N:Int):=oM;have wi:IntKind.i64.wrap ((k:Int)+1)=((k+1:Nat):Int):=by rw[IntKind.wrap_i64];omega
      obtain⟨K0,hK0⟩:∃K,IT c.list k=K:=⟨_,rfl⟩
      rw[hK0]at z1;obtain⟨X,hX⟩:∃X,((K0:Int)==1)=X:=⟨_,rfl⟩
      have HX:Hid (Ar c.list k=X):=by
       show _=_;rw[←hX,←hK0];show(IT c.list k==1)=_;rw[Bool.eq_iff_iff];simp only[beq_iff_eq];omega
      rw[if_neg (Nat.lt_irrefl k)]at s1 t1;clear hn hK0;go_wp2;go_roundw
      case rel=>
       obtain⟨z1,z2,z3,z4,z5⟩:=HLZ.out;refine⟨k+1,oM,gN,((HR.out.1.setSt k _).setIr k _).of (fun r hr=>?_) (fun r hr=>?_),(HR.out.2.setOther (by show ZB≠SB;omega) _).setOther (by show ZB≠IB;omega) _⟩
       ·by_cases q:r=k
        ·rw[if_pos q,q,if_pos (Nat.lt_succ_self k),HX.out]
        ·rw[if_neg q];by_cases q2:r<k
         ·rw[if_pos q2,if_pos oM]
         ·rw[if_neg q2,if_neg oM]
       ·by_cases q:r=k
        ·rw[if_pos q,q,if_pos (Nat.lt_succ_self k)]
        ·rw[if_neg q];by_cases q2:r<k
         ·rw[if_pos q2,if_pos oM]
         ·rw[if_neg q2,if_neg oM]
      case measure=>simp[intOf];omega
     ·have e8:¬ (k:Int)<(N:Int):=oM;have hkk:k=N:=oM;subst hkk;have HF:Hid (J1 w k C (fun r=>.bool (Ar c.list r)) (fun r=>.int .i64 (r:Int)) B SB IB MB tag wr):=HR.out.1.of (fun r hr=>by rw[if_pos hr]) (fun r hr=>by rw[if_pos hr]);clear hkN hk;go_wp2;go_returns;first|exact⟨B,SB,IB,MB,tag,rfl,HF.out⟩|exact⟨B,rfl,SB,IB,MB,tag,HF.out⟩
def OH(c:Cd)(x y:Ac):Bool:=Aa x&&(!(x.op==32)&&(!(x.op==3)&&(x.op==y.op&&(x.a==y.a&&(x.b==y.b&&(x.c==y.c&&(x.n==y.n&&(x.bits==y.bits&&decide (A7 c.regs x.d=A7 c.regs y.d)))))))))
theorem WG{c:Cd}{x y:Ac}(h:OH c x y=true):twP x/\twP y/\DV c x=DV c y:=by
 unfold OH at h;simp only[Bool.and_eq_true,Bool.not_eq_true',beq_iff_eq,decide_eq_true_eq,beq_eq_false_iff_ne,ne_eq]at h;obtain⟨h1,h2,h3,h4,h5,h6,h7,h8,h9,h10⟩:=h;have hs:Aa y=true:=by unfold Aa at h1 ⊢;rw[←h4];exact h1
 refine⟨⟨⟨h2,h3⟩,h1⟩,⟨⟨by rw[←h4];exact h2,by rw[←h4];exact h3⟩,hs⟩,?_⟩;unfold DV;rw[h10];congr 1;obtain⟨op,d,a,b,e,n,z⟩:=x;obtain⟨IX,d2,a2,b2,e2,n2,z2⟩:=y;simp only at h4 h5 h6 h7 h8 h9;subst h4 h5 h6 h7 h8 h9;rfl
theorem OI(v0 v1 v2 v3:Value)(c:Cd)(hd:∀i∈c.list,Aa i=true->0<=i.d/\i.d<(c.regs.length:Int))(hR:c.regs.length<=16384)(hL:c.list.length<=32768)(i k:Nat)(hi:i<c.list.length)(hk:k<c.list.length)(w:World)(hv:Cj w v0 v1 v2 v3 c):
 Calls prog 38 #[.agg #[v0,v1,v2,v3],.int .i64 (i:Int),.int .i64 (k:Int)] w fun e w'=>e=.returned (.bool (OH c c.list[i] c.list[k]))/\Below w.heap.size w w':=by
 obtain⟨p1,q1,rfl⟩:∃p q,v1=.slice p c.regs.length q:=by obtain⟨p,q,e,_⟩:=hv.regs;exact⟨p,q,e⟩
 obtain⟨p3,q3,rfl⟩:∃p q,v3=.slice p c.list.length q:=by obtain⟨p,q,e,_⟩:=hv.list;exact⟨p,q,e⟩
 obtain⟨lb,lo,hp3,hci⟩:=hv.list.at hi;obtain⟨lb',lo',hp3',hck⟩:=hv.list.at hk;rw[hp3]at hp3';simp only[Option.some.injEq,Addr.mk.injEq,and_true]at hp3';obtain⟨rfl,rfl⟩:=hp3';subst hp3;have HRG:=A8 hv.regs;have dx:=hd _ (List.getElem_mem hi);have dy:=hd _ (List.getElem_mem hk);have KS:Hid (∀v,Calls prog 36 #[AV c.list[i]] v fun e w'=>e=.returned (.bool (Aa c.list[i]))/\Below v.heap.size v w'):=fun v=>by rw[←RC];exact Il _ v
 obtain⟨⟨op,d,a,b,e,n,z⟩,hx⟩:∃x,c.list[i]=x:=⟨_,rfl⟩
 obtain⟨⟨IX,d2,a2,b2,e2,n2,z2⟩,hy⟩:∃x,c.list[k]=x:=⟨_,rfl⟩
 rw[hx]at hci dx KS ⊢;rw[hy]at hck dy ⊢;unfold AV at KS;simp only at KS dx dy;obtain⟨RB,hRB⟩:∃R,OH c ⟨op,d,a,b,e,n,z⟩ ⟨IX,d2,a2,b2,e2,n2,z2⟩=R:=⟨_,rfl⟩
 rw[hRB];have HRB:=A8 hRB;clear hRB;obtain⟨N1,hN1⟩:∃N,c.regs.length=N:=⟨_,rfl⟩
 obtain⟨N3,hN3⟩:∃N,c.list.length=N:=⟨_,rfl⟩
 have HN1:=A8 hN1;rw[hN1]at hR dx dy HRG ⊢;rw[hN3]at hL hi hk ⊢;have i1:(0:Int)<=(i:Int):=oM;have i2:(i:Int)<(N3:Int):=oM;have i3:(0:Int)<=(k:Int):=oM;have i4:(k:Int)<(N3:Int):=oM;have r0:=hci.at 0 (v:=.int .i64 op) rfl;have s0:=hck.at 0 (v:=.int .i64 IX) rfl;have r1:=hci.at 1 (v:=.int .i64 d) rfl;have s1:=hck.at 1 (v:=.int .i64 d2) rfl;have r2:=hci.at 2 (v:=.int .i64 a) rfl;have s2:=hck.at 2 (v:=.int .i64 a2) rfl;have r3:=hci.at 3 (v:=.int .i64 b) rfl;have s3:=hck.at 3 (v:=.int .i64 b2) rfl;have r4:=hci.at 4 (v:=.int .i64 e) rfl;have s4:=hck.at 4 (v:=.int .i64 e2) rfl;have r5:=hci.at 5 (v:=.int .i64 n) rfl;have s5:=hck.at 5 (v:=.int .i64 n2) rfl;have r6:=hci.at 6 (v:=.int .u32 z) rfl;have s6:=hck.at 6 (v:=.int .u32 z2) rfl;rw[Nat.add_zero]at r0 s0;obtain⟨W0,hW0⟩:∃W,w.alloc (.cells #[v0,.slice p1 N1 q1,v2,.slice (some ⟨lb,lo,none⟩) N3 q3] 27)=W:=⟨_,rfl⟩
 have HW0:Hid (Below w.heap.size w W0):=by rw[←hW0];exact A0 _ _
 have g1:W0.cell? ⟨w.heap.size,1,none⟩=some (.slice p1 N1 q1):=by rw[←hW0];simp[go_sem]
 have g3:W0.cell? ⟨w.heap.size,3,none⟩=some (.slice (some ⟨lb,lo,none⟩) N3 q3):=by rw[←hW0];simp[go_sem]
 replace r0:=kc HW0.out r0
 replace s0:=kc HW0.out s0
 replace r1:=kc HW0.out r1
 replace s1:=kc HW0.out s1
 replace r2:=kc HW0.out r2
 replace s2:=kc HW0.out s2
 replace r3:=kc HW0.out r3
 replace s3:=kc HW0.out s3
 replace r4:=kc HW0.out r4
 replace s4:=kc HW0.out s4
 replace r5:=kc HW0.out r5
 replace s5:=kc HW0.out s5
 replace r6:=kc HW0.out r6
 replace s6:=kc HW0.out s6
 obtain⟨V1,hV1⟩:∃V,W0.alloc (.cells #[.int .i64 op,.int .i64 d,.int .i64 a,.int .i64 b,.int .i64 e,.int .i64 n,.int .u32 z] 44)=V:=⟨_,rfl⟩
 have HV1:Hid (Below W0.heap.size W0 V1/\V1.rowIs W0.heap.size 44 7 (I4 op d a b e n z)):=by rw[←hV1];exact⟨A0 _ _,Bn W0 _ _⟩
 have t0:=kc HV1.out.1 s0;have t1:=kc HV1.out.1 s1;have t2:=kc HV1.out.1 s2;have t3:=kc HV1.out.1 s3;have t4:=kc HV1.out.1 s4;have t5:=kc HV1.out.1 s5;have t6:=kc HV1.out.1 s6;have h3:=kc HV1.out.1 g3;obtain⟨V2,hV2⟩:∃V,V1.alloc (.cells #[.int .i64 IX,.int .i64 d2,.int .i64 a2,.int .i64 b2,.int .i64 e2,.int .i64 n2,.int .u32 z2] 44)=V:=⟨_,rfl⟩
 have HV2:Hid (Below V1.heap.size V1 V2/\V2.rowIs V1.heap.size 44 7 (I4 IX d2 a2 b2 e2 n2 z2)):=by rw[←hV2];exact⟨A0 _ _,Bn V1 _ _⟩
 obtain⟨XB,hXB⟩:∃x,W0.heap.size=x:=⟨_,rfl⟩
 obtain⟨YB,hYB⟩:∃x,V1.heap.size=x:=⟨_,rfl⟩
 have HXR:Hid (V2.rowIs XB 44 7 (I4 op d a b e n z)):=by have h9:=HV1.out.2.of_block (HV2.out.1.block _ HV1.out.2.lt);rw[hXB]at h9;exact h9
 have HYR:Hid (V2.rowIs YB 44 7 (I4 IX d2 a2 b2 e2 n2 z2)):=by have h9:=HV2.out.2;rw[hYB]at h9;exact h9
 have HBV:Hid (Below w.heap.size w V2):=bel HW0.out (bel HV1.out.1 HV2.out.1);have HG1:Hid (∀v,Below V2.heap.size V2 v->v.cell? ⟨w.heap.size,1,none⟩=some (.slice p1 N1 q1)):=fun v hb=>kc (bel HV1.out.1 (bel HV2.out.1 hb)) g1;have x0:V2.cell? ⟨XB,0,none⟩=some (.int .i64 op):=HXR.out.cell (i:=0) dE;have x1:V2.cell? ⟨XB,1,none⟩=some (.int .i64 d):=HXR.out.cell (i:=1) dE;have x2:V2.cell? ⟨XB,2,none⟩=some (.int .i64 a):=HXR.out.cell (i:=2) dE;have x3:V2.cell? ⟨XB,3,none⟩=some (.int .i64 b):=HXR.out.cell (i:=3) dE;have x4:V2.cell? ⟨XB,4,none⟩=some (.int .i64 e):=HXR.out.cell (i:=4) dE;have x5:V2.cell? ⟨XB,5,none⟩=some (.int .i64 n):=HXR.out.cell (i:=5) dE;have x6:V2.cell? ⟨XB,6,none⟩=some (.int .u32 z):=HXR.out.cell (i:=6) dE;have y0:V2.cell? ⟨YB,0,none⟩=some (.int .i64 IX):=HYR.out.cell (i:=0) dE;clear hv hd hci hck hx hy hN1 hN3;go_enter func38,ntmps38;go_upto_region 3 with fail;try rw[hW0]
 try rw[hV1]
 try rw[hV2]
 try rw[hXB]
 try rw[hYB]
 clear hW0 hV1 hV2 hXB hYB g1 g3 h3 r0 s0 t0 r1 s1 t1 r2 s2 t2 r3 s3 t3 r4 s4 t4 r5 s5 t5 r6 s6 t6;cases hS:Aa (⟨op,d,a,b,e,n,z⟩:Ac)with
 |false=>
  rw[hS]at KS;have HSS:=A8 hS;clear hS;have hrb:RB=false:=by rw[←HRB.out];unfold OH;rw[HSS.out];rfl
  exact Zbs
 |true=>
  rw[hS]at KS;obtain⟨d0,d1⟩:=dx hS;by_cases o32:op=32
  ·subst o32;clear hS dx dy;have hrb:RB=false:=by rw[←HRB.out];unfold OH;simp
   exact Zbs
  by_cases o3:op=3
  ·subst o3;clear hS dx dy;have hrb:RB=false:=by rw[←HRB.out];unfold OH;simp
   exact Zbs
  have f32:(op==32)=false:=by simpa using o32
  have f3:(op==3)=false:=by simpa using o3
  by_cases oo:op=IX
  rotate_left 1
  ·have foo:(op==IX)=false:=by simpa using oo
   have foo2:(op != IX)=true:=by simpa using oo
   clear hS dx dy oo;have hrb:RB=false:=by rw[←HRB.out];unfold OH;simp[foo]
   exact Zbs
  subst oo;have hS2:Aa (⟨op,d2,a2,b2,e2,n2,z2⟩:Ac)=true:=hS;obtain⟨d2',d3'⟩:=dy hS2;obtain⟨D,rfl⟩:=Int.eq_ofNat_of_zero_le d0;obtain⟨E,rfl⟩:=Int.eq_ofNat_of_zero_le d2';have hD:D<N1:=oM;have hE:E<N1:=oM;have hbb:(op != op)=false:=sM;have hbe:(op==op)=true:=sM;have HSS:=A8 hS;clear hS hS2 dx dy;go_upto_region 5 with(go_at_call 36;(with_reducible refine(KS.out _).mono ?_);rintro e9 w3 ⟨rfl,hb3⟩;have HB3:=A8 hb3;have m0:=kc hb3 x0;have l0:=kc hb3 y0;clear hb3)
  clear m0 l0 x0 x1 x2 x3 x4 x5 x6 y0;have x1:w3.cell? ⟨XB,1,none⟩=some (.int .i64 (D:Int)):=kc HB3.out (HXR.out.cell (i:=1) dE);have y1:w3.cell? ⟨YB,1,none⟩=some (.int .i64 (E:Int)):=kc HB3.out (HYR.out.cell (i:=1) dE);have x2:w3.cell? ⟨XB,2,none⟩=some (.int .i64 a):=kc HB3.out (HXR.out.cell (i:=2) dE);have y2:w3.cell? ⟨YB,2,none⟩=some (.int .i64 a2):=kc HB3.out (HYR.out.cell (i:=2) dE);have x3:w3.cell? ⟨XB,3,none⟩=some (.int .i64 b):=kc HB3.out (HXR.out.cell (i:=3) dE);have y3:w3.cell? ⟨YB,3,none⟩=some (.int .i64 b2):=kc HB3.out (HYR.out.cell (i:=3) dE);have x4:w3.cell? ⟨XB,4,none⟩=some (.int .i64 e):=kc HB3.out (HXR.out.cell (i:=4) dE);have y4:w3.cell? ⟨YB,4,none⟩=some (.int .i64 e2):=kc HB3.out (HYR.out.cell (i:=4) dE);have x5:w3.cell? ⟨XB,5,none⟩=some (.int .i64 n):=kc HB3.out (HXR.out.cell (i:=5) dE);have y5:w3.cell? ⟨YB,5,none⟩=some (.int .i64 n2):=kc HB3.out (HYR.out.cell (i:=5) dE);have x6:w3.cell? ⟨XB,6,none⟩=some (.int .u32 z):=kc HB3.out (HXR.out.cell (i:=6) dE);have y6:w3.cell? ⟨YB,6,none⟩=some (.int .u32 z2):=kc HB3.out (HYR.out.cell (i:=6) dE);by_cases c2:a=a2
  rotate_left 1
  ·have fq:(a==a2)=false:=by simpa using c2
   have hrb:RB=false:=by rw[←HRB.out];unfold OH;simp[fq]
   subst hrb;refine rG (fun v=>v.cell? ⟨XB,2,none⟩=some (.int .i64 a)/\v.cell? ⟨YB,2,none⟩=some (.int .i64 a2)) fun hHeld=>?_;refine Tf 0 1 2 3 4 5 ?_;refine Kd 6 7 8 9 ?_;refine Da 10 ?_;refine Tb 11 12 ?_;refine Kd 13 14 15 16 ?_;refine Da 17 ?_;refine Tb 18 19 ?_;refine Kd 20 21 22 23 ?_;refine Da 24 ?_;refine Tb 25 26 ?_;refine Kd 27 28 29 30 ?_;refine Da 31 ?_;refine Tb 32 33 ?_;exact Zbm
  subst c2;by_cases c3:b=b2
  rotate_left 1
  ·have fq:(b==b2)=false:=by simpa using c3
   have hrb:RB=false:=by rw[←HRB.out];unfold OH;simp[fq]
   subst hrb;refine rG (fun v=>v.cell? ⟨XB,2,none⟩=some (.int .i64 a)/\v.cell? ⟨YB,2,none⟩=some (.int .i64 a)/\v.cell? ⟨XB,3,none⟩=some (.int .i64 b)/\v.cell? ⟨YB,3,none⟩=some (.int .i64 b2)) fun hHeld=>?_;refine Tf 0 1 2 3 4 5 ?_;refine Tf 6 7 8 9 10 11 ?_;refine Bq 12 ?_;refine Kd 13 14 15 16 ?_;refine Da 17 ?_;refine Tb 18 19 ?_;refine Kd 20 21 22 23 ?_;refine Da 24 ?_;refine Tb 25 26 ?_;refine Kd 27 28 29 30 ?_;refine Da 31 ?_;refine Tb 32 33 ?_;exact Zbm
  subst c3;by_cases c4:e=e2
  rotate_left 1
  ·have fq:(e==e2)=false:=by simpa using c4
   have hrb:RB=false:=by rw[←HRB.out];unfold OH;simp[fq]
   subst hrb;refine rG (fun v=>v.cell? ⟨XB,2,none⟩=some (.int .i64 a)/\v.cell? ⟨YB,2,none⟩=some (.int .i64 a)/\v.cell? ⟨XB,3,none⟩=some (.int .i64 b)/\v.cell? ⟨YB,3,none⟩=some (.int .i64 b)/\v.cell? ⟨XB,4,none⟩=some (.int .i64 e)/\v.cell? ⟨YB,4,none⟩=some (.int .i64 e2)) fun hHeld=>?_;refine Tf 0 1 2 3 4 5 ?_;refine Tf 6 7 8 9 10 11 ?_;refine Tf 12 13 14 15 16 17 ?_;refine Tb 18 19 ?_;refine Kd 20 21 22 23 ?_;refine Da 24 ?_;refine Tb 25 26 ?_;refine Kd 27 28 29 30 ?_;refine Da 31 ?_;refine Tb 32 33 ?_;exact Zbm
  subst c4;by_cases c5:n=n2
  rotate_left 1
  ·have fq:(n==n2)=false:=by simpa using c5
   have hrb:RB=false:=by rw[←HRB.out];unfold OH;simp[fq]
   subst hrb;refine rG (fun v=>v.cell? ⟨XB,2,none⟩=some (.int .i64 a)/\v.cell? ⟨YB,2,none⟩=some (.int .i64 a)/\v.cell? ⟨XB,3,none⟩=some (.int .i64 b)/\v.cell? ⟨YB,3,none⟩=some (.int .i64 b)/\v.cell? ⟨XB,4,none⟩=some (.int .i64 e)/\v.cell? ⟨YB,4,none⟩=some (.int .i64 e)/\v.cell? ⟨XB,5,none⟩=some (.int .i64 n)/\v.cell? ⟨YB,5,none⟩=some (.int .i64 n2)) fun hHeld=>?_;refine Tf 0 1 2 3 4 5 ?_;refine Tf 6 7 8 9 10 11 ?_;refine Tf 12 13 14 15 16 17 ?_;refine Tf 18 19 20 21 22 23 ?_;refine Tc 24 25 26 ?_;refine Kd 27 28 29 30 ?_;refine Da 31 ?_;refine Tb 32 33 ?_;exact Zbm
  subst c5;by_cases c6:z=z2
  rotate_left 1
  ·have fq:(z==z2)=false:=by simpa using c6
   have hrb:RB=false:=by rw[←HRB.out];unfold OH;simp[fq]
   subst hrb;refine rG (fun v=>v.cell? ⟨XB,2,none⟩=some (.int .i64 a)/\v.cell? ⟨YB,2,none⟩=some (.int .i64 a)/\v.cell? ⟨XB,3,none⟩=some (.int .i64 b)/\v.cell? ⟨YB,3,none⟩=some (.int .i64 b)/\v.cell? ⟨XB,4,none⟩=some (.int .i64 e)/\v.cell? ⟨YB,4,none⟩=some (.int .i64 e)/\v.cell? ⟨XB,5,none⟩=some (.int .i64 n)/\v.cell? ⟨YB,5,none⟩=some (.int .i64 n)/\v.cell? ⟨XB,6,none⟩=some (.int .u32 z)/\v.cell? ⟨YB,6,none⟩=some (.int .u32 z2)) fun hHeld=>?_;refine Tf 0 1 2 3 4 5 ?_;refine Tf 6 7 8 9 10 11 ?_;refine Tf 12 13 14 15 16 17 ?_;refine Tf 18 19 20 21 22 23 ?_;refine Tf 24 25 26 27 28 29 ?_;refine Tc 30 31 32 ?_;refine Bq 33 ?_;exact Zbm
  subst c6;have hrr:=HRG.out.below (bel HBV.out HB3.out);obtain⟨rb,ro,hp1,hcD⟩:=hrr.at (by rw[HN1.out];exact hD);obtain⟨rb',ro',hp1',hcE⟩:=hrr.at (by rw[HN1.out];exact hE);rw[hp1]at hp1';simp only[Option.some.injEq,Addr.mk.injEq,and_true]at hp1';obtain⟨rfl,rfl⟩:=hp1';subst hp1;have gg:=HG1.out w3 HB3.out;obtain⟨⟨kd,pd⟩,htd⟩:∃t,c.regs[D]'(by rw[HN1.out];exact hD)=t:=⟨_,rfl⟩
  obtain⟨⟨ke,pe⟩,hte⟩:∃t,c.regs[E]'(by rw[HN1.out];exact hE)=t:=⟨_,rfl⟩
  rw[htd]at hcD;rw[hte]at hcE;have u0:=hcD.at 0 (v:=.int .i64 kd) rfl;have u1:=hcD.at 1 (v:=.int .i64 pd) rfl;have v0':=hcE.at 0 (v:=.int .i64 ke) rfl;have v1':=hcE.at 1 (v:=.int .i64 pe) rfl;rw[Nat.add_zero]at u0 v0';have heq:=Pg kd pd ke pe;obtain⟨X,hX⟩:∃X,decide ((⟨kd,pd⟩:Ty)=⟨ke,pe⟩)=X:=⟨_,rfl⟩
  have hrb:RB=X:=by
   rw[←HRB.out];unfold OH;rw[DH (by rw[HN1.out];exact hD),DH (by rw[HN1.out];exact hE),htd,hte,hX,HSS.out];simp[f32,f3]
  subst hrb;rw[hX]at heq;have j1:(0:Int)<=(D:Int):=oM;have j2:(D:Int)<(N1:Int):=oM;have j3:(0:Int)<=(E:Int):=oM;have j4:(E:Int)<(N1:Int):=oM;clear hX htd hte hcD hcE hrr;refine rG (fun v=>v.cell? ⟨XB,2,none⟩=some (.int .i64 a)/\v.cell? ⟨YB,2,none⟩=some (.int .i64 a)/\v.cell? ⟨XB,3,none⟩=some (.int .i64 b)/\v.cell? ⟨YB,3,none⟩=some (.int .i64 b)/\v.cell? ⟨XB,4,none⟩=some (.int .i64 e)/\v.cell? ⟨YB,4,none⟩=some (.int .i64 e)/\v.cell? ⟨XB,5,none⟩=some (.int .i64 n)/\v.cell? ⟨YB,5,none⟩=some (.int .i64 n)/\v.cell? ⟨XB,6,none⟩=some (.int .u32 z)/\v.cell? ⟨YB,6,none⟩=some (.int .u32 z)/\v.cell? ⟨w.heap.size,1,none⟩=some (.slice (some ⟨rb,ro,none⟩) N1 q1)/\v.cell? ⟨XB,1,none⟩=some (.int .i64 (D:Int))/\v.cell? ⟨YB,1,none⟩=some (.int .i64 (E:Int))/\v.cell? ⟨rb,ro+D*2,none⟩=some (.int .i64 kd)/\v.cell? ⟨rb,ro+D*2+1,none⟩=some (.int .i64 pd)/\v.cell? ⟨rb,ro+E*2,none⟩=some (.int .i64 ke)/\v.cell? ⟨rb,ro+E*2+1,none⟩=some (.int .i64 pe)) fun hHeld=>?_;refine Tf 0 1 2 3 4 5 ?_;refine Tf 6 7 8 9 10 11 ?_;refine Tf 12 13 14 15 16 17 ?_;refine Tf 18 19 20 21 22 23 ?_;refine Tf 24 25 26 27 28 29 ?_;refine Tf 30 31 32 33 34 35 ?_;refine Tf 36 37 38 39 40 41 ?_;refine Tf 42 43 44 45 46 47 ?_;refine Bq 48 ?_;refine wpAnyH_done kR ?_ _;go_wp2;go_ret;exact⟨rfl,bel HBV.out (bel HB3.out (A6 _))⟩
theorem B4{n:Int}(h0: -1<=n)(h1:n<=2147483648):D4 n:=by unfold D4;omega
theorem QJ{c:Cd}(hg:Good c){i:Ac}(hk:Ak i.op=true)(hf:AJ c i (A4 i.op)=true)(hb:0<=i.bits/\i.bits<4294967296):FH (DV c i):=by
 have hN:=hg.regsL;have hS:=hg.slotsL;have hG:=hg.signL;have key:∀l n m,Ag c.regs l n m=true->D4 n:=fun l n m h=>by
  by_cases hl:l=0
  ·unfold Ag at h;rw[if_pos hl]at h;have h9:n=0:=by simpa using h
   exact B4 oM oM
  ·obtain⟨h0,h1⟩:=Ae h hl;exact B4 oM oM
 have hn:D4 i.n:=by
  have hf':=hf;unfold AJ at hf';simp only[Bool.and_eq_true]at hf';have h:=hf'.2.2.2.2;unfold Bh at h;by_cases h7:(A4 i.op).n=7
  ·rw[if_pos h7]at h;simp only[Bool.and_eq_true,beq_iff_eq]at h;exact B4 oM oM
  ·rw[if_neg h7]at h;simp only[Bool.and_eq_true]at h;have h2:=h.2;unfold FQ at h2;by_cases c1:(A4 i.op).n=8
   ·rw[if_pos c1]at h2;unfold D8 at h2;simp only[Bool.and_eq_true,decide_eq_true_eq]at h2;exact B4 oM oM
   ·rw[if_neg c1]at h2;by_cases c2:(A4 i.op).n=9
    ·rw[if_pos c2]at h2;simp only[Bool.or_eq_true,Bool.and_eq_true,beq_iff_eq]at h2;exact B4 oM oM
    ·rw[if_neg c2]at h2;by_cases c3:(A4 i.op).n=10
     ·rw[if_pos c3]at h2;simp only[Bool.and_eq_true]at h2;have h3:=Br.1 h2.1;exact B4 oM oM
     ·rw[if_neg c3]at h2;by_cases c4:(A4 i.op).n=11
      ·rw[if_pos c4]at h2;have h3:=Br.1 h2;exact B4 oM oM
      ·rw[if_neg c4]at h2;have h3:i.n=0:=by simpa using h2
       exact B4 oM oM
 have ht:D4 (A7 c.regs i.d).kind/\D4 (A7 c.regs i.d).par:=by
  by_cases h:Av i.d c.regs.length=true
  ·obtain⟨h0,h1⟩:=Br.1 h;have hl:i.d.toNat<c.regs.length:=oM;have e:A7 c.regs i.d=c.regs[i.d.toNat]:=by unfold A7;rw[if_pos h,List.getElem?_eq_getElem hl];rfl
   rw[e];have h2:=hg.regs _ (List.getElem_mem hl);unfold AA at h2;by_cases k1:c.regs[i.d.toNat].kind=1\/c.regs[i.d.toNat].kind=2
   ·rw[if_pos k1]at h2;have h3:c.regs[i.d.toNat].par=0:=by simpa using h2
    exact⟨B4 oM oM,B4 oM oM⟩
   ·rw[if_neg k1]at h2;by_cases k3:c.regs[i.d.toNat].kind=3
    ·rw[if_pos k3]at h2;have h3:=Br.1 h2;exact⟨B4 oM oM,B4 oM oM⟩
    ·rw[if_neg k3]at h2;cases h2
  ·have e:A7 c.regs i.d=⟨0,0⟩:=by unfold A7;rw[if_neg h]
   rw[e];exact⟨B4 dE dE,B4 dE dE⟩
 unfold Ak at hk;simp only[Bool.and_eq_true,decide_eq_true_eq]at hk;have a1:D4 i.op:=B4 oM oM;have a2:D4 (0:Int):=B4 dE dE;have a3:D4 i.a:=key _ _ _ (BD hf);have a4:D4 i.b:=key _ _ _ (DR hf);have a5:D4 i.c:=key _ _ _ (DS hf);exact⟨a1,a2,a3,a4,a5,hn,hb,ht.1,ht.2⟩
theorem TA(c:Cd)(s:RW)(i:Ac):(∀q∈(AX c s i).reck,q∈s.reck\/q=DV c (A3 s i))/\(AX c s i).reck.length<=s.reck.length+1/\(AX c s i).opn.length<=s.opn.length+1/\(AX c s i).left.length<=s.left.length+1:=by
 unfold AX;split
 ·exact⟨fun q h=>.inl h,sM,sM,sM⟩
 ·unfold AF;split
  ·exact⟨fun q h=>.inl h,sM,sM,sM⟩
  ·split
   ·unfold Do Iz;refine⟨fun q h=>.inl (List.mem_of_mem_take h),?_,?_,?_⟩
    ·simp only[List.length_take];omega
    ·simp only[List.length_dropLast];omega
    ·simp
   ·split
    ·refine⟨fun q h=>?_,sM,sM,sM⟩;simp only[List.mem_append,List.mem_singleton]at h;exact h
    ·exact⟨fun q h=>.inl h,sM,sM,sM⟩
def Ks(c:Cd)(j:Nat):RW:=(c.list.take j).foldl (AX c) Ci
theorem Jo{c:Cd}{j:Nat}(hj:j<c.list.length):Ks c (j+1)=AX c (Ks c j) c.list[j]:=by
 unfold Ks;rw[List.take_succ_eq_append_getElem hj,List.foldl_append];rfl
theorem Xp(c:Cd):(Ks c c.list.length).left=Cg c:=by unfold Ks Cg;rw[List.take_length]
theorem OF{c:Cd}(h:AE c ⟨[],[]⟩ c.list=true){j:Nat}(hj:j<c.list.length):Aq c (CT ⟨[],[]⟩ (c.list.take j)) c.list[j]=true:=by
 have e:c.list=c.list.take j++c.list[j]::c.list.drop (j+1):=by rw[←List.drop_eq_getElem_cons hj,List.take_append_drop]
 exact Zdf
theorem Wh{c:Cd}{j:Nat}(hj:j<c.list.length):CT ⟨[],[]⟩ (c.list.take (j+1))=Af (CT ⟨[],[]⟩ (c.list.take j)) c.list[j]:=by
 rw[List.take_succ_eq_append_getElem hj,ED];rfl
theorem Z3{c:Cd}(hc:(Am c).1=0)(hb:∀i∈c.list,0<=i.bits/\i.bits<4294967296):∀j,j<=c.list.length->∃x',CF c (c.list.take j) (Ks c j) (CT ⟨[],[]⟩ (c.list.take j)) x'/\(∀q∈(Ks c j).reck,FH q)/\(Ks c j).reck.length<=j/\(Ks c j).opn.length<=j/\(Ks c j).left.length<=j:=by
 obtain⟨hg,ht⟩:=CZ hc;intro j;induction j with
 |zero=>intro _;exact⟨_,CF.start c,fun q h=>Xh,Nat.le_refl _,Nat.le_refl _,Nat.le_refl _⟩
 |succ j ih=>
  intro hj;obtain⟨x',h,hr,l1,l2,l3⟩:=ih oM;have hjl:j<c.list.length:=oM;have t:=OF ht hjl;have hl:c.list=c.list.take j++c.list[j]::c.list.drop (j+1):=by rw[←List.drop_eq_getElem_cons hjl,List.take_append_drop]
  have e1:c.list.take (j+1)=c.list.take j++[c.list[j]]:=List.take_succ_eq_append_getElem hjl;have hrd:=Ah (E3 h t);have hok:FH (DV c (A3 (Ks c j) c.list[j])):=QJ hg hrd.1 hrd.2.1 (by have h9:=hb _ (List.getElem_mem hjl);exact h9);obtain⟨k1,k2,k3,k4⟩:=TA c (Ks c j) c.list[j];have hI:∃x'',CF c (c.list.take (j+1)) (Ks c (j+1)) (CT ⟨[],[]⟩ (c.list.take (j+1))) x'':=by
   rw[Jo hjl,Wh hjl,e1];unfold AX;cases hh:AR c (Ks c j) (A3 (Ks c j) c.list[j])with
   |some g=>exact⟨_,Gd h hl t hh⟩
   |none=>exact⟨_,F3 h hl t hh⟩
  obtain⟨x'',h'⟩:=hI;refine⟨x'',h',?_⟩;rw[Jo hjl];refine⟨fun q hq=>?_,oM,oM,oM⟩;rcases k1 q hq with e|e
  ·exact hr q e
  ·rw[e];exact hok
theorem tk_ok{c:Cd}(hc:(Am c).1=0)(hb:∀i∈c.list,0<=i.bits/\i.bits<4294967296){j nm:Nat}(hj:j<c.list.length)(hnm:nm<=j):TU c (Ks c j) c.list[j] nm:=by
 obtain⟨hg,ht⟩:=CZ hc;obtain⟨x',h,hr,l1,l2,l3⟩:=Z3 hc hb j (Nat.le_of_lt hj);have t:=OF ht hj;have hrd:=Ah (E3 h t);have hL:=hg.listL;refine⟨hg.regsL,DO t,JU (Ah t).2.1,JU hrd.2.1,QJ hg hrd.1 hrd.2.1 (by have h9:=hb _ (List.getElem_mem hj);exact h9),fun e=>?_,hr,oM,oM,oM,oM⟩;obtain⟨-,-,t3,-⟩:=Ah t;unfold At at t3;rw[if_neg oM,if_pos e]at t3;simp only[Bool.and_eq_true,Bool.not_eq_true']at t3;have ho:=h.opens;generalize CT ⟨[],[]⟩ (c.list.take j)=x at ho t3;obtain⟨X,O⟩:=x;obtain⟨X',O'⟩:=x';simp only at ho t3;generalize (Ks c j)=s at ho;obtain⟨ins,hold,reck,opn,left⟩:=s;simp only at ho;cases ho with
 |nil=>simp at t3
 |loop h9=>simp[Aj]at t3
 |when h1 h2 h3 h4 h5 h6=>exact⟨_,_,rfl,h3⟩
end Go.Proofs.YtcdpmgldkibfiaaGreat
