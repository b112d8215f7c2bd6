import Derived.Test.YtbinohkcolcbfaaGreatPart2
import Derived.Test.YtbinohkcolcbfaaGreatPart7
import Derived.Test.YtbinohkcolcbfaaGreatRows
import Derived.WalkKit
import Derived.WalkSpells
import Derived.WalkLawsBesides
import Derived.Test.YtbinohkcolcbfaaGreatPart1
namespace Go.Proofs.YtbinohkcolcbfaaGreat
open Go.RowKit Go.Proofs.Tryz
set_option linter.unusedVariables false
set_option linter.unusedSimpArgs false
set_option maxRecDepth 100000
set_option maxHeartbeats 16000000
def setsP(i:Ins):Bool:=(rowP i.op).d != 0
theorem Zajt(op:Int)(w:World):Calls prog 106 #[.int .i64 op] w fun e w'=>e=.returned (.bool (Zjj op))/\w'=w:=by
 unfold Zjj;by_cases h:3<=op
 all_goals
  go_enter func106,ntmps106;exact Zdz
theorem u8ne(a:UInt8)(X:Bool)(h:(a==45)=X):((a.toNat:Int) != 45)= !X:=by
 rw[←h];have:((a.toNat:Int)==45)=(a==45):=by
  rw[Bool.eq_iff_iff];simp only[beq_iff_eq];constructor
  ·intro e;apply UInt8.toNat_inj.1;show a.toNat=45;omega
  ·intro e;subst e;rfl
 simp[bne,this]
theorem Zajm(i:Ins)(w:World):Calls prog 39 #[insV i] w fun e w'=>e=.returned (.bool (setsP i))/\Below w.heap.size w w':=by
 unfold setsP;rcases Zaas i.op (w.alloc (.cells #[.int .i64 i.op,.int .i64 i.d,.int .i64 i.a,.int .i64 i.b,.int .i64 i.c,.int .i64 i.n,.int .u32 i.bits] 45))with⟨hk,hc⟩|⟨hk,a,b,c,d,e,ht,hc⟩
 ·rw[Zsw i.op hk];obtain⟨op,D,A,B,E,n,bt⟩:=i;unfold insV;simp only at hc hk ⊢;have HK:Hid (Calls prog 67 #[.int .i64 op] (w.alloc (.cells #[.int .i64 op,.int .i64 D,.int .i64 A,.int .i64 B,.int .i64 E,.int .i64 n,.int .u32 bt] 45)) fun e w'=>e=.returned (.tuple #[.string ⟨#[]⟩,.bool false])/\w'=w.alloc (.cells #[.int .i64 op,.int .i64 D,.int .i64 A,.int .i64 B,.int .i64 E,.int .i64 n,.int .u32 bt] 45)):=hc;clear hc;go_enter func39,ntmps39;go_wp2_with(go_at_call 67;refine HK.out.mono ?_;rintro e w1 ⟨rfl,rfl⟩);go_ret;exact⟨rfl,Zhq _ _⟩
 ·have h1:=u8ne a _ ht.a;obtain⟨X,hX⟩:∃X,(rowP i.op).d=X:=⟨_,rfl⟩
  rw[hX]at h1 ⊢;obtain⟨op,D,A,B,E,n,bt⟩:=i;unfold insV;simp only at hc ⊢;have HK:Hid (∀w,Calls prog 67 #[.int .i64 op] w fun x w'=>x=.returned (.tuple #[.string ⟨#[a,b,c,d,e]⟩,.bool true])/\w'=w):=hc;have ix:∀w,(Instr.index 9 (.string ⟨#[a,b,c,d,e]⟩) (.int .i64 0)).run prog w=.ok (.int .u8 (a.toNat:Int)) w:=fun w=>by simp[Instr.index,run_underlying underlying9,asIntOf,go_sem];rfl
  clear hc ht hX;go_enter func39,ntmps39;go_wp2_with(go_at_call 67;refine(HK.out _).mono ?_;rintro e w1 ⟨rfl,rfl⟩);go_ret;refine⟨Zhu ?_,Zhq _ _⟩;first|exact h1|(simp only[h1];rfl)|simp[h1,bne]
structure RRd(w:World)(C Q:Nat)(A B E:Int)(v:World):Prop where
 bel:Below w.heap.size w v
 hC:w.heap.size<=C
 hQ:Q<C
 le:C<=v.heap.size
 g0:v.cell? ⟨Q,0,none⟩=some (.int .i64 A)
 g1:v.cell? ⟨Q,1,none⟩=some (.int .i64 B)
 g2:v.cell? ⟨Q,2,none⟩=some (.int .i64 E)
theorem RRd.next{w:World}{C Q:Nat}{A B E:Int}{v v':World}(h:RRd w C Q A B E v)(k:Below C v v'):RRd w C Q A B E v':=by
 have c1:∀ {a:Addr} {u:Value},a.block<C->v.cell? a=some u->v'.cell? a=some u:=fun ha hu=>(k.cell ha).trans hu;exact⟨h.bel.trans (k.mono h.hC),h.hC,h.hQ,Nat.le_trans h.le k.size,c1 h.hQ h.g0,c1 h.hQ h.g1,c1 h.hQ h.g2⟩
theorem Zaio(i:Ins)(w:World):Calls prog 66 #[insV i] w fun e w'=>∃v,e=.returned v/\w'.ownsRow w.heap.size 3 1 v (Zid i (rowP i.op)).length (i64s (Zid i (rowP i.op)))/\Below w.heap.size w w':=by
 rcases Zaas i.op (w.alloc (.cells #[.int .i64 i.op,.int .i64 i.d,.int .i64 i.a,.int .i64 i.b,.int .i64 i.c,.int .i64 i.n,.int .u32 i.bits] 45))with⟨hk,hc⟩|⟨hk,a,b,c,d,e,ht,hc⟩
 ·rw[Zsw i.op hk,show Zid i ⟨0,0,0,0,0⟩=[] from rfl];obtain⟨op,D,A,B,E,n,bt⟩:=i;unfold insV;simp only at hc hk ⊢;have HK:Hid (Calls prog 67 #[.int .i64 op] (w.alloc (.cells #[.int .i64 op,.int .i64 D,.int .i64 A,.int .i64 B,.int .i64 E,.int .i64 n,.int .u32 bt] 45)) fun e w'=>e=.returned (.tuple #[.string ⟨#[]⟩,.bool false])/\w'=w.alloc (.cells #[.int .i64 op,.int .i64 D,.int .i64 A,.int .i64 B,.int .i64 E,.int .i64 n,.int .u32 bt] 45)):=hc;clear hc;go_enter func66,ntmps66;go_wp2_with(go_at_call 67;refine HK.out.mono ?_;rintro e w1 ⟨rfl,rfl⟩)
  go_loopw [3,7] (fun lv iv wr=>lv=.slice none 0 0/\iv=.int .i64 0/\Below w.heap.size w wr) (fun _ iv _=>0)
  case atStart=>exact⟨rfl,rfl,bel (Zhq _ _) (Zhq _ _)⟩
  case round=>
   obtain⟨rfl,rfl,hb⟩:=hrel;go_wp2;go_ret;exact⟨_,rfl,World.ownsRow_nil _ _ _ 1,hb⟩
 ·rw[Zsg];have h1:=u8ne b _ ht.b;have h2:=u8ne c _ ht.c;have h3:=u8ne d _ ht.d;obtain⟨i0,hi0,hz0,hz1,hz3⟩:=info_parts Zoq;obtain⟨r,hr⟩:∃r,rowP i.op=r:=⟨_,rfl⟩
  rw[hr]at h1 h2 h3 ⊢;obtain⟨L0,L1,L2,L3,L4⟩:=r;obtain⟨op,D,A,B,E,n,bt⟩:=i;unfold insV;simp only at hc h1 h2 h3 ⊢;obtain⟨R,hR⟩:∃R,(rd1 L1 A++rd1 L2 B)++rd1 L3 E=R:=⟨_,rfl⟩
  rw[hR];have HR:Hid ((rd1 L1 A++rd1 L2 B)++rd1 L3 E=R):=hR;have HK:Hid (∀w,Calls prog 67 #[.int .i64 op] w fun x w'=>x=.returned (.tuple #[.string ⟨#[a,b,c,d,e]⟩,.bool true])/\w'=w):=hc;clear hc ht hr hR hk;go_enter func66,ntmps66;go_wp2_with(go_at_call 67;refine(HK.out _).mono ?_;rintro e w1 ⟨rfl,rfl⟩);have HF1:Hid (RRd w (w.heap.size+1+1) (w.heap.size+1) A B E ((w.alloc (.cells #[.int .i64 op,.int .i64 D,.int .i64 A,.int .i64 B,.int .i64 E,.int .i64 n,.int .u32 bt] 45)).alloc (.cells #[.int .i64 A,.int .i64 B,.int .i64 E] 3))):=
   ⟨bel (Zhq _ _) (Zhq _ _),oM,oM,sM,sG,sG,sG⟩
  obtain⟨W,hW⟩:∃W,(w.alloc (.cells #[.int .i64 op,.int .i64 D,.int .i64 A,.int .i64 B,.int .i64 E,.int .i64 n,.int .u32 bt] 45)).alloc (.cells #[.int .i64 A,.int .i64 B,.int .i64 E] 3)=W:=⟨_,rfl⟩
  rw[hW]at HF1 ⊢;obtain⟨Q,hQ⟩:∃Q,w.heap.size+1=Q:=⟨_,rfl⟩
  rw[hQ]at HF1;try rw[hQ]
  clear hW
  go_loopw [3,7] (fun lv iv wr=>RRd w (Q+1) Q A B E wr/\∃ (j:Nat) (l:List Int),j<=3/\iv=.int .i64 j/\l.length<=j/\Hid (wr.ownsRow (Q+1) 3 1 lv l.length (i64s l))/\Hid ((j=0->l=[])/\(j=1->l=rd1 L1 A)/\(j=2->l=rd1 L1 A++rd1 L2 B)/\(j=3->l=(rd1 L1 A++rd1 L2 B)++rd1 L3 E))) (fun _ iv _=>3-(intOf iv).toNat)
  case atStart=>exact⟨HF1.out,0,[],oM,rfl,sM,World.ownsRow_nil _ _ _ 1,⟨fun _=>rfl,fun h=>absurd h oM,fun h=>absurd h oM,fun h=>absurd h oM⟩⟩
  case round=>
   clear HF1 HK;obtain⟨hF,j,l,hj,rfl,hll,HO,HL⟩:=hrel;have HF:Hid (RRd w (Q+1) Q A B E wr):=hF;have hGw:=hF.le;have hn1:Q≠wr.heap.size:=oM;obtain rfl|rfl|rfl|rfl:j=0\/j=1\/j=2\/j=3:=oM
   ·have g0:=hF.g0;have f0:=kc (Zhq wr (.cells #[.int .i64 A] 3)) g0;have hl0:=HL.out.1 rfl;have ix:∀w,(Instr.index 9 (.string ⟨#[a,b,c,d,e]⟩) (.int .i64 1)).run prog w=.ok (.int .u8 (b.toNat:Int)) w:=fun w=>by simp[Instr.index,run_underlying underlying9,asIntOf,go_sem];rfl
    have hq:=h1;clear hF h1 h2 h3;by_cases hz:L1=0
    ·have hz':(!(L1==0))=false:=by simp[hz]
     rw[hz']at hq;have hq2:((b.toNat:Int)==45)=true:=by simpa[bne]using hq
     have HZ:Hid (L1=0):=hz;clear hz;go_wp2;go_roundw
     case rel=>exact⟨HF.out,1,l,oM,by first|rfl|go_num,oM,HO,⟨fun h=>absurd h oM,fun _=>by rw[hl0];unfold rd1;simp[HZ.out],fun h=>absurd h oM,fun h=>absurd h oM⟩⟩
     case measure=>simp[intOf]
    ·have hz':(!(L1==0))=true:=by simp[hz]
     rw[hz']at hq;have hq2:((b.toNat:Int)==45)=false:=by simpa[bne]using hq
     have HZ:Hid (¬L1=0):=hz;clear hz;go_wp2_with(first
      |(at_builtin;refine wpList_append_own_at _ rfl _ _ 82 rfl (Q+1) 3 i0 _ 1 8 underlying82 hi0 hz0 hz1 hz3 rfl dE _ l.length (i64s l) rfl (World.ownsRow.alloc HO.out _) ⟨wr.heap.size,0,none⟩ 1 1 [.int .i64 A] rfl rfl (World.news_of_block (cs:=#[.int .i64 A]) (t:=3) (fr:=(0,0)) (heap_alloc_new wr _)) Zfz mL oM sO ?_;intro v' w3 hown3 hgrow hnil hat;have HO3:Hid (w3.ownsRow (Q+1) 3 1 v' (l.length+1) (i64s l++[.int .i64 A])):=hown3;have HB3:Hid (Below (Q+1) wr w3):=(Below.alloc (Below.refl _ _) hGw _).grown hgrow sO (fun q e=>(HO.out.lt q e).1);clear hown3 hgrow hnil hat))
     go_roundw
     case rel=>exact⟨HF.out.next HB3.out,1,l++[A],oM,by first|rfl|go_num,sO,by show _;rw[List.length_append,Zmc];exact HO3.out,⟨fun h=>absurd h oM,fun _=>by rw[hl0,show rd1 L1 A=[A]from if_neg HZ.out];try rfl,fun h=>absurd h oM,fun h=>absurd h oM⟩⟩
     case measure=>simp[intOf]
   ·have g0:=hF.g1;have f0:=kc (Zhq wr (.cells #[.int .i64 B] 3)) g0;have hl0:=HL.out.2.1 rfl;have ix:∀w,(Instr.index 9 (.string ⟨#[a,b,c,d,e]⟩) (.int .i64 2)).run prog w=.ok (.int .u8 (c.toNat:Int)) w:=fun w=>by simp[Instr.index,run_underlying underlying9,asIntOf,go_sem];rfl
    have hq:=h2;clear hF h1 h2 h3;by_cases hz:L2=0
    ·have hz':(!(L2==0))=false:=by simp[hz]
     rw[hz']at hq;have hq2:((c.toNat:Int)==45)=true:=by simpa[bne]using hq
     have HZ:Hid (L2=0):=hz;clear hz;go_wp2;go_roundw
     case rel=>exact⟨HF.out,2,l,oM,by first|rfl|go_num,oM,HO,⟨fun h=>absurd h oM,fun h=>absurd h oM,fun _=>by rw[hl0];unfold rd1;simp[HZ.out],fun h=>absurd h oM⟩⟩
     case measure=>simp[intOf]
    ·have hz':(!(L2==0))=true:=by simp[hz]
     rw[hz']at hq;have hq2:((c.toNat:Int)==45)=false:=by simpa[bne]using hq
     have HZ:Hid (¬L2=0):=hz;clear hz;go_wp2_with(first
      |(at_builtin;refine wpList_append_own_at _ rfl _ _ 82 rfl (Q+1) 3 i0 _ 1 8 underlying82 hi0 hz0 hz1 hz3 rfl dE _ l.length (i64s l) rfl (World.ownsRow.alloc HO.out _) ⟨wr.heap.size,0,none⟩ 1 1 [.int .i64 B] rfl rfl (World.news_of_block (cs:=#[.int .i64 B]) (t:=3) (fr:=(0,0)) (heap_alloc_new wr _)) Zfz mL oM sO ?_;intro v' w3 hown3 hgrow hnil hat;have HO3:Hid (w3.ownsRow (Q+1) 3 1 v' (l.length+1) (i64s l++[.int .i64 B])):=hown3;have HB3:Hid (Below (Q+1) wr w3):=(Below.alloc (Below.refl _ _) hGw _).grown hgrow sO (fun q e=>(HO.out.lt q e).1);clear hown3 hgrow hnil hat))
     go_roundw
     case rel=>exact⟨HF.out.next HB3.out,2,l++[B],oM,by first|rfl|go_num,sO,by show _;rw[List.length_append,Zmc];exact HO3.out,⟨fun h=>absurd h oM,fun h=>absurd h oM,fun _=>by rw[hl0,show rd1 L2 B=[B]from if_neg HZ.out];try rfl,fun h=>absurd h oM⟩⟩
     case measure=>simp[intOf]
   ·have g0:=hF.g2;have f0:=kc (Zhq wr (.cells #[.int .i64 E] 3)) g0;have hl0:=HL.out.2.2.1 rfl;have ix:∀w,(Instr.index 9 (.string ⟨#[a,b,c,d,e]⟩) (.int .i64 3)).run prog w=.ok (.int .u8 (d.toNat:Int)) w:=fun w=>by simp[Instr.index,run_underlying underlying9,asIntOf,go_sem];rfl
    have hq:=h3;clear hF h1 h2 h3;by_cases hz:L3=0
    ·have hz':(!(L3==0))=false:=by simp[hz]
     rw[hz']at hq;have hq2:((d.toNat:Int)==45)=true:=by simpa[bne]using hq
     have HZ:Hid (L3=0):=hz;clear hz;go_wp2;go_roundw
     case rel=>exact⟨HF.out,3,l,oM,by first|rfl|go_num,oM,HO,⟨fun h=>absurd h oM,fun h=>absurd h oM,fun h=>absurd h oM,fun _=>by rw[hl0];unfold rd1;simp[HZ.out]⟩⟩
     case measure=>simp[intOf]
    ·have hz':(!(L3==0))=true:=by simp[hz]
     rw[hz']at hq;have hq2:((d.toNat:Int)==45)=false:=by simpa[bne]using hq
     have HZ:Hid (¬L3=0):=hz;clear hz;go_wp2_with(first
      |(at_builtin;refine wpList_append_own_at _ rfl _ _ 82 rfl (Q+1) 3 i0 _ 1 8 underlying82 hi0 hz0 hz1 hz3 rfl dE _ l.length (i64s l) rfl (World.ownsRow.alloc HO.out _) ⟨wr.heap.size,0,none⟩ 1 1 [.int .i64 E] rfl rfl (World.news_of_block (cs:=#[.int .i64 E]) (t:=3) (fr:=(0,0)) (heap_alloc_new wr _)) Zfz mL oM sO ?_;intro v' w3 hown3 hgrow hnil hat;have HO3:Hid (w3.ownsRow (Q+1) 3 1 v' (l.length+1) (i64s l++[.int .i64 E])):=hown3;have HB3:Hid (Below (Q+1) wr w3):=(Below.alloc (Below.refl _ _) hGw _).grown hgrow sO (fun q e=>(HO.out.lt q e).1);clear hown3 hgrow hnil hat))
     go_roundw
     case rel=>exact⟨HF.out.next HB3.out,3,l++[E],oM,by first|rfl|go_num,sO,by show _;rw[List.length_append,Zmc];exact HO3.out,⟨fun h=>absurd h oM,fun h=>absurd h oM,fun h=>absurd h oM,fun _=>by rw[hl0,show rd1 L3 E=[E]from if_neg HZ.out];try rfl⟩⟩
     case measure=>simp[intOf]
   ·exact Zer
theorem Ztq(t:Ty)(p:Option Addr)(n c:Nat)(hn:n<=140737488351232)(w:World):Calls prog 35 #[tyV t,.slice p n c] w fun e w'=>e=.returned (.bool (Zil t n))/\Below w.heap.size w w':=by
 obtain⟨K,P⟩:=t;unfold Zil tyV isPl;simp only;by_cases h1:K=1
 ·subst h1;rw[if_pos (Or.inl rfl)];exact Zeq
 ·by_cases h2:K=2
  ·subst h2;rw[if_pos (Or.inr rfl)];exact Zeq
  ·rw[if_neg (fun e=>e.elim h1 h2)];have h1':(K==1)=false:=by simpa using h1
   have h2':(K==2)=false:=by simpa using h2
   by_cases h3:K=3
   ·subst h3;rw[if_pos rfl];by_cases h:0<=P
    all_goals
     go_enter func35,ntmps35;go_wp2;go_ret;exact⟨Zhu (by simp[h];try omega),Zhq _ _⟩
   ·rw[if_neg h3];have h3':(K==3)=false:=by simpa using h3
    clear h1 h2 h3;exact Zeq
theorem Zadh(v0 v1 v2 v3:Value)(c:Cd)(hk:CdOk c)(n:Int)(w:World)(hv:CdV w v0 v1 v2 v3 c):
 Calls prog 136 #[.agg #[v0,v1,v2,v3],.int .i64 n] w fun e w'=>e=.returned (.tuple #[tyV (regT c.regs n),.bool (isPl n c.regs.length)])/\Below w.heap.size w w':=by
 have HB:=hk.regsL;have hr:=hv.regs;obtain⟨p,q,rfl,hrr⟩:=hv.regs;clear hv hk;by_cases h0:0<=n
 ·by_cases h1:n<(c.regs.length:Int)
  ·obtain⟨k,rfl⟩:∃k:Nat,n=(k:Int):=⟨n.toNat,oM⟩
   have hk:k<c.regs.length:=oM;have e:regT c.regs (k:Int)=c.regs[k]:=Zpc rfl hk;have e2:isPl (k:Int) c.regs.length=true:=Zlf.2 ⟨oM,oM⟩;rw[e,e2];obtain⟨lb,lo,rfl,hc⟩:=hr.at hk;obtain⟨⟨K,P⟩,ht⟩:∃t:Ty,c.regs[k]=t:=⟨_,rfl⟩
   rw[ht]at hc ⊢;have y0:w.cell? ⟨lb,lo+k*2,none⟩=some (.int .i64 K):=hc.at 0 rfl;have y1:w.cell? ⟨lb,lo+k*2+1,none⟩=some (.int .i64 P):=hc.at 1 rfl;have hlb:lb≠w.heap.size:=by have:=Zhr y0;simp only at this;omega
   obtain⟨N,hN⟩:∃N,c.regs.length=N:=⟨_,rfl⟩
   rw[hN]at hk HB ⊢;clear hr hrr hc ht e e2 h0 h1 hN;have g0:∀o o',((w.alloc o).alloc o').cell? ⟨lb,lo+k*2,none⟩=some (.int .i64 K):=fun o o'=>kc (bel (Zhq _ _) (Zhq _ _)) y0;have g1:∀o o',((w.alloc o).alloc o').cell? ⟨lb,lo+k*2+1,none⟩=some (.int .i64 P):=fun o o'=>kc (bel (Zhq _ _) (Zhq _ _)) y1;unfold tyV;go_enter func136,ntmps136;go_wp2;refine bodyPost_ret Zgl rfl ?_;exact Zcb
  ·have e2:isPl n c.regs.length=false:=by unfold isPl;simp;omega
   have e:regT c.regs n=⟨0,0⟩:=by unfold regT;rw[e2];rfl
   rw[e,e2];obtain⟨N,hN⟩:∃N,c.regs.length=N:=⟨_,rfl⟩
   rw[hN]at h1 HB ⊢;clear hr hrr e e2 hN;unfold tyV;go_enter func136,ntmps136;go_wp2;refine bodyPost_ret Zgl rfl ?_;exact Zcb
 ·have e2:isPl n c.regs.length=false:=by unfold isPl;simp;omega
  have e:regT c.regs n=⟨0,0⟩:=by unfold regT;rw[e2];rfl
  rw[e,e2];obtain⟨N,hN⟩:∃N,c.regs.length=N:=⟨_,rfl⟩
  rw[hN]at HB ⊢;clear hr hrr e e2 hN;unfold tyV;go_enter func136,ntmps136;go_wp2;refine bodyPost_ret Zgl rfl ?_;exact Zcb
def letR(b:Int)(t d:Ty):Bool:=
 if b=110 then t.kind==1 else if b=119 then t.kind==2 else if b=118 then t.kind==3 else if b=100 then t.kind==1||t.kind==3
 else if b=120 then t.kind==1||decide (t=d)else if b=99 then decide (t=d)||(t.kind==1&&d.kind==3)else true
def Zhz(rs:List Ty)(b n:Int)(d:Ty):Bool:=if b=45 then n==0 else isPl n rs.length&&letR b (regT rs n) d
theorem Zql(v0 v1 v2 v3:Value)(c:Cd)(hk:CdOk c)(b n:Int)(d:Ty)(hb:b=45\/b=110\/b=119\/b=118\/b=100\/b=120\/b=99\/b=97)(w:World)(hv:CdV w v0 v1 v2 v3 c):
 Calls prog 104 #[.agg #[v0,v1,v2,v3],.int .u8 b,.int .i64 n,tyV d] w fun e w'=>e=.returned (.bool (Zhz c.regs b n d))/\Below w.heap.size w w':=by
 have KT:Hid (∀v,Below w.heap.size w v->Calls prog 136 #[.agg #[v0,v1,v2,v3],.int .i64 n] v fun e w'=>e=.returned (.tuple #[tyV (regT c.regs n),.bool (isPl n c.regs.length)])/\Below v.heap.size v w'):=fun v h=>Zadh v0 v1 v2 v3 c hk n v (hv.below h);unfold Zhz;obtain⟨X,hX⟩:∃X,isPl n c.regs.length=X:=⟨_,rfl⟩
 obtain⟨⟨K,P⟩,ht⟩:∃t:Ty,regT c.regs n=t:=⟨_,rfl⟩
 rw[hX,ht]at KT ⊢;clear hX ht hv hk;obtain⟨dk,dp⟩:=d;unfold tyV at KT ⊢;simp only at KT ⊢;by_cases h45:b=45
 ·subst h45;rw[if_pos rfl];go_enter func104,ntmps104;go_wp2;go_ret;exact Zcb
 ·rw[if_neg h45];have h45':(b==45)=false:=by simpa using h45
  cases X
  ·rw[Bool.false_and];clear hb h45;go_enter func104,ntmps104;go_wp2_with(go_at_call 136;(with_reducible refine(KT.out _ (bel (Zhq _ _) (Zhq _ _))).mono ?_);rintro e w1 ⟨rfl,hb1⟩;have f0:∀o,(w1.alloc o).cell? ⟨w.heap.size+1,0,none⟩=some (.int .i64 dk):=(fun o=>kc (bel hb1 (Zhq _ _)) sG);have f1:∀o,(w1.alloc o).cell? ⟨w.heap.size+1,1,none⟩=some (.int .i64 dp):=(fun o=>kc (bel hb1 (Zhq _ _)) sG);have HB1:Hid _:=hb1;clear hb1);go_ret;exact⟨rfl,bel (bel (Zhq _ _) (Zhq _ _)) (bel HB1.out (Zhq _ _))⟩
  ·rw[Bool.true_and];rcases hb with rfl|rfl|rfl|rfl|rfl|rfl|rfl|rfl
   ·exact absurd rfl h45
   all_goals clear h45 h45'
   all_goals
    cases h1:(K==1)
    all_goals
     by_cases hkd:K=dk
     ·subst hkd;by_cases hpd:P=dp
      ·subst hpd;go_enter func104,ntmps104;go_wp2_with(go_at_call 136;(with_reducible refine(KT.out _ (bel (Zhq _ _) (Zhq _ _))).mono ?_);rintro e w1 ⟨rfl,hb1⟩;have f0:∀o,(w1.alloc o).cell? ⟨w.heap.size+1,0,none⟩=some (.int .i64 K):=(fun o=>kc (bel hb1 (Zhq _ _)) sG);have f1:∀o,(w1.alloc o).cell? ⟨w.heap.size+1,1,none⟩=some (.int .i64 P):=(fun o=>kc (bel hb1 (Zhq _ _)) sG);have HB1:Hid _:=hb1;clear hb1);exact Zdl
      ·go_enter func104,ntmps104;go_wp2_with(go_at_call 136;(with_reducible refine(KT.out _ (bel (Zhq _ _) (Zhq _ _))).mono ?_);rintro e w1 ⟨rfl,hb1⟩;have f0:∀o,(w1.alloc o).cell? ⟨w.heap.size+1,0,none⟩=some (.int .i64 K):=(fun o=>kc (bel hb1 (Zhq _ _)) sG);have f1:∀o,(w1.alloc o).cell? ⟨w.heap.size+1,1,none⟩=some (.int .i64 dp):=(fun o=>kc (bel hb1 (Zhq _ _)) sG);have HB1:Hid _:=hb1;clear hb1);exact Zdl
     ·go_enter func104,ntmps104;go_wp2_with(go_at_call 136;(with_reducible refine(KT.out _ (bel (Zhq _ _) (Zhq _ _))).mono ?_);rintro e w1 ⟨rfl,hb1⟩;have f0:∀o,(w1.alloc o).cell? ⟨w.heap.size+1,0,none⟩=some (.int .i64 dk):=(fun o=>kc (bel hb1 (Zhq _ _)) sG);have f1:∀o,(w1.alloc o).cell? ⟨w.heap.size+1,1,none⟩=some (.int .i64 dp):=(fun o=>kc (bel hb1 (Zhq _ _)) sG);have HB1:Hid _:=hb1;clear hb1);exact Zdl
theorem Zzu(v0 v1 v2 v3:Value)(c:Cd)(hk:CdOk c)(n p:Int)(hp:n=1->isPl p c.sign.length=true)(w:World)(hv:CdV w v0 v1 v2 v3 c):
 Calls prog 105 #[.agg #[v0,v1,v2,v3],.int .i64 n,.int .i64 p] w fun e w'=>e=.returned (.bool (n==0||(n==1&&Zkv c.sign p==2)))/\Below w.heap.size w w':=by
 have HB:=hk.signL;by_cases h0:n=0
 ·subst h0;clear hp hv;go_enter func105,ntmps105;go_wp2;go_ret;exact⟨rfl,Zhq _ _⟩
 ·have h0':(n==0)=false:=by simpa using h0
  by_cases h1:n=1
  ·subst h1;obtain⟨k,rfl,hkl⟩:=Zlz (hp rfl);have hr:=hv.sign;obtain⟨p,q,rfl,hrr⟩:=hv.sign;obtain⟨lb,lo,rfl,hc⟩:=hr.at hkl;have e:Zkv c.sign (k:Int)=c.sign[k].kind:=by unfold Zkv;rw[Int.toNat_natCast,List.getElem?_eq_getElem hkl];rfl
   rw[e];obtain⟨⟨nm,K,L⟩,ht⟩:∃t:Par,c.sign[k]=t:=⟨_,rfl⟩
   rw[ht]at hc ⊢;have y1:w.cell? ⟨lb,lo+k*3+1,none⟩=some (.int .i64 K):=hc.at 1 rfl;have g1:∀o,(w.alloc o).cell? ⟨lb,lo+k*3+1,none⟩=some (.int .i64 K):=fun o=>kc (Zhq _ _) y1;obtain⟨N,hN⟩:∃N,c.sign.length=N:=⟨_,rfl⟩
   rw[hN]at hkl HB ⊢;clear hr hrr hc ht e hp hv hN h0 hk;simp only;go_enter func105,ntmps105;go_wp2;go_ret;exact⟨Zhu sM,Zhq _ _⟩
  ·have h1':(n==1)=false:=by simpa using h1
   rw[h0',h1'];clear hp hv h0 h1;go_enter func105,ntmps105;go_wp2;go_ret;exact⟨rfl,Zhq _ _⟩
def vecN(i:Ins):Int:=if Zjj i.op||(i.op==29||(i.op==30||i.op==32))then i.d else if i.op==31||i.op==33 then i.a else -1
def vecR(rs:List Ty)(n:Int):Int:=if isPl n rs.length&&(regT rs n).kind==3 then(regT rs n).par else -1
theorem Zadq(v0 v1 v2 v3:Value)(c:Cd)(hk:CdOk c)(i:Ins)(w:World)(hv:CdV w v0 v1 v2 v3 c):
 Calls prog 65 #[.agg #[v0,v1,v2,v3],insV i] w fun e w'=>e=.returned (.int .i64 (vecR c.regs (vecN i)))/\Below w.heap.size w w':=by
 have HB:=hk.regsL;have KE:Hid (∀v,Calls prog 106 #[.int .i64 i.op] v fun e w'=>e=.returned (.bool (Zjj i.op))/\w'=v):=Zajt i.op;have hr:=hv.regs;obtain⟨p,q,rfl,hrr⟩:=hv.regs;clear hv hk hrr;obtain⟨op,D,A,B,E,nn,bb⟩:=i;unfold insV;simp only at KE ⊢;have key:∀n:Int,(isPl n c.regs.length=false/\vecR c.regs n= -1)\/∃ (k:Nat) (lb lo:Nat) (K P:Int),n=(k:Int)/\k<c.regs.length/\p=some ⟨lb,lo,none⟩/\w.cell? ⟨lb,lo+k*2,none⟩=some (.int .i64 K)/\w.cell? ⟨lb,lo+k*2+1,none⟩=some (.int .i64 P)/\vecR c.regs n=if K==3 then P else -1:=by
  intro n;cases h:isPl n c.regs.length
  ·exact .inl ⟨rfl,by unfold vecR;rw[h];rfl⟩
  ·obtain⟨k,rfl,hkl⟩:=Zlz h;obtain⟨lb,lo,hp,hc⟩:=hr.at hkl;refine .inr ⟨k,lb,lo,c.regs[k].kind,c.regs[k].par,rfl,hkl,hp,hc.at 0 rfl,hc.at 1 rfl,?_⟩;unfold vecR;rw[h,Zpc rfl hkl,Bool.true_and]
 obtain⟨N,hN⟩:∃N,c.regs.length=N:=⟨_,rfl⟩
 rw[hN]at HB key ⊢;clear hr;cases hX:Zjj op
 ·rw[hX]at KE;by_cases a29:op=29
  ·subst a29;rw[show vecN ⟨29,D,A,B,E,nn,bb⟩=D from rfl];rcases key D with⟨hpl,e9⟩|⟨k,lb,lo,K,P,rfl,hkl,rfl,y0,y1,e9⟩
   ·rw[e9];clear key e9;by_cases h0:D<0
    ·exact Zag
    ·have h1:(N:Int)<=D:=by unfold isPl at hpl;simp at hpl;omega
     exact Zag
   ·rw[e9];clear key e9;have g0:∀o o',((w.alloc o).alloc o').cell? ⟨lb,lo+k*2,none⟩=some (.int .i64 K):=fun o o'=>kc (bel (Zhq _ _) (Zhq _ _)) y0;have g1:∀o o',((w.alloc o).alloc o').cell? ⟨lb,lo+k*2+1,none⟩=some (.int .i64 P):=fun o o'=>kc (bel (Zhq _ _) (Zhq _ _)) y1;by_cases h3:K=3
    ·subst h3;exact Zag
    ·have h3':(K==3)=false:=by simpa using h3
     have h3b:(K != 3)=true:=by simpa using h3
     rw[h3'];clear h3;exact Zag
  by_cases a30:op=30
  ·subst a30;rw[show vecN ⟨30,D,A,B,E,nn,bb⟩=D from rfl];rcases key D with⟨hpl,e9⟩|⟨k,lb,lo,K,P,rfl,hkl,rfl,y0,y1,e9⟩
   ·rw[e9];clear key e9;by_cases h0:D<0
    ·exact Zag
    ·have h1:(N:Int)<=D:=by unfold isPl at hpl;simp at hpl;omega
     exact Zag
   ·rw[e9];clear key e9;have g0:∀o o',((w.alloc o).alloc o').cell? ⟨lb,lo+k*2,none⟩=some (.int .i64 K):=fun o o'=>kc (bel (Zhq _ _) (Zhq _ _)) y0;have g1:∀o o',((w.alloc o).alloc o').cell? ⟨lb,lo+k*2+1,none⟩=some (.int .i64 P):=fun o o'=>kc (bel (Zhq _ _) (Zhq _ _)) y1;by_cases h3:K=3
    ·subst h3;exact Zag
    ·have h3':(K==3)=false:=by simpa using h3
     have h3b:(K != 3)=true:=by simpa using h3
     rw[h3'];clear h3;exact Zag
  by_cases a32:op=32
  ·subst a32;rw[show vecN ⟨32,D,A,B,E,nn,bb⟩=D from rfl];rcases key D with⟨hpl,e9⟩|⟨k,lb,lo,K,P,rfl,hkl,rfl,y0,y1,e9⟩
   ·rw[e9];clear key e9;by_cases h0:D<0
    ·exact Zag
    ·have h1:(N:Int)<=D:=by unfold isPl at hpl;simp at hpl;omega
     exact Zag
   ·rw[e9];clear key e9;have g0:∀o o',((w.alloc o).alloc o').cell? ⟨lb,lo+k*2,none⟩=some (.int .i64 K):=fun o o'=>kc (bel (Zhq _ _) (Zhq _ _)) y0;have g1:∀o o',((w.alloc o).alloc o').cell? ⟨lb,lo+k*2+1,none⟩=some (.int .i64 P):=fun o o'=>kc (bel (Zhq _ _) (Zhq _ _)) y1;by_cases h3:K=3
    ·subst h3;exact Zag
    ·have h3':(K==3)=false:=by simpa using h3
     have h3b:(K != 3)=true:=by simpa using h3
     rw[h3'];clear h3;exact Zag
  by_cases a31:op=31
  ·subst a31;rw[show vecN ⟨31,D,A,B,E,nn,bb⟩=A from rfl];rcases key A with⟨hpl,e9⟩|⟨k,lb,lo,K,P,rfl,hkl,rfl,y0,y1,e9⟩
   ·rw[e9];clear key e9;by_cases h0:A<0
    ·exact Zag
    ·have h1:(N:Int)<=A:=by unfold isPl at hpl;simp at hpl;omega
     exact Zag
   ·rw[e9];clear key e9;have g0:∀o o',((w.alloc o).alloc o').cell? ⟨lb,lo+k*2,none⟩=some (.int .i64 K):=fun o o'=>kc (bel (Zhq _ _) (Zhq _ _)) y0;have g1:∀o o',((w.alloc o).alloc o').cell? ⟨lb,lo+k*2+1,none⟩=some (.int .i64 P):=fun o o'=>kc (bel (Zhq _ _) (Zhq _ _)) y1;by_cases h3:K=3
    ·subst h3;exact Zag
    ·have h3':(K==3)=false:=by simpa using h3
     have h3b:(K != 3)=true:=by simpa using h3
     rw[h3'];clear h3;exact Zag
  by_cases a33:op=33
  ·subst a33;rw[show vecN ⟨33,D,A,B,E,nn,bb⟩=A from rfl];rcases key A with⟨hpl,e9⟩|⟨k,lb,lo,K,P,rfl,hkl,rfl,y0,y1,e9⟩
   ·rw[e9];clear key e9;by_cases h0:A<0
    ·exact Zag
    ·have h1:(N:Int)<=A:=by unfold isPl at hpl;simp at hpl;omega
     exact Zag
   ·rw[e9];clear key e9;have g0:∀o o',((w.alloc o).alloc o').cell? ⟨lb,lo+k*2,none⟩=some (.int .i64 K):=fun o o'=>kc (bel (Zhq _ _) (Zhq _ _)) y0;have g1:∀o o',((w.alloc o).alloc o').cell? ⟨lb,lo+k*2+1,none⟩=some (.int .i64 P):=fun o o'=>kc (bel (Zhq _ _) (Zhq _ _)) y1;by_cases h3:K=3
    ·subst h3;exact Zag
    ·have h3':(K==3)=false:=by simpa using h3
     have h3b:(K != 3)=true:=by simpa using h3
     rw[h3'];clear h3;exact Zag
  ·have b29:(op==29)=false:=by simpa using a29
   have b30:(op==30)=false:=by simpa using a30
   have b31:(op==31)=false:=by simpa using a31
   have b32:(op==32)=false:=by simpa using a32
   have b33:(op==33)=false:=by simpa using a33
   rw[show vecN ⟨op,D,A,B,E,nn,bb⟩= -1 by unfold vecN;simp[hX,b29,b30,b31,b32,b33]];rw[show vecR c.regs (-1)= -1 by unfold vecR isPl;simp];clear key a29 a30 a31 a32 a33;exact Zag
 ·rw[hX]at KE;rw[show vecN ⟨op,D,A,B,E,nn,bb⟩=D by unfold vecN;simp[hX]];rcases key D with⟨hpl,e9⟩|⟨k,lb,lo,K,P,rfl,hkl,rfl,y0,y1,e9⟩
  ·rw[e9];clear key e9;by_cases h0:D<0
   ·exact Zag
   ·have h1:(N:Int)<=D:=by unfold isPl at hpl;simp at hpl;omega
    exact Zag
  ·rw[e9];clear key e9;have g0:∀o o',((w.alloc o).alloc o').cell? ⟨lb,lo+k*2,none⟩=some (.int .i64 K):=fun o o'=>kc (bel (Zhq _ _) (Zhq _ _)) y0;have g1:∀o o',((w.alloc o).alloc o').cell? ⟨lb,lo+k*2+1,none⟩=some (.int .i64 P):=fun o o'=>kc (bel (Zhq _ _) (Zhq _ _)) y1;by_cases h3:K=3
   ·subst h3;exact Zag
   ·have h3':(K==3)=false:=by simpa using h3
    have h3b:(K != 3)=true:=by simpa using h3
    rw[h3'];clear h3;exact Zag
theorem Zagq(a:Int)(h0:0<=a)(h1:a<4294967296)(w:World):
 Calls prog 158 #[.int .u32 a] w fun e w'=>e=.returned (.tuple #[.bool (decide (2147483648<=a)),.int .i64 (a/8388608%256),.int .i64 (a%8388608)])/\w'=w:=by
 exact Zeo
theorem Zta{k:IntKind}{a b:Int}(h:a=b):Ending.returned (.int k a)=.returned (.int k b):=by rw[h]
theorem Zsk(a:Int)(h0:0<=a)(h1:a<4294967296)(w:World):
 Calls prog 134 #[.int .u32 a] w fun e w'=>e=.returned (.int .i64 (cls a))/\w'=w:=by
 by_cases c1:a/8388608%256=255
 ·by_cases c2:a%8388608=0
  ·have hc:cls a=4:=by unfold cls;rw[if_pos c1,if_pos c2]
   exact Zbm
  ·have hc:cls a=5:=by unfold cls;rw[if_pos c1,if_neg c2]
   exact Zbm
 ·by_cases c2:a/8388608%256=0
  ·by_cases c3:a%8388608=0
   ·have hc:cls a=1:=by unfold cls;rw[if_neg c1,if_pos c2,if_pos c3]
    exact Zbm
   ·have hc:cls a=2:=by unfold cls;rw[if_neg c1,if_pos c2,if_neg c3]
    exact Zbm
  ·have hc:cls a=3:=by unfold cls;rw[if_neg c1,if_neg c2]
   exact Zbm
theorem ris_any(a:Int)(h0:0<=a)(h1:a<4294967296)(w:World):
 Calls prog 107 #[.int .i64 a] w fun e w'=>e=.returned (.bool (nan a))/\w'=w:=by
 go_enter func107,ntmps107;go_wp2;go_ret;exact⟨rfl,rfl⟩
theorem Zaih(a:Int)(h0:0<=a)(h1:a<4294967296)(hn:nan a=true)(w:World):
 Calls prog 134 #[.int .u32 a] w fun e w'=>e=.returned (.int .i64 5)/\w'=w:=by
 have:=Zsk a h0 h1 w;rwa[Zaes a hn h0 h1]at this
theorem Zmg(a:Int)(h0:0<=a)(h1:a<4294967296)(w:World):
 Calls prog 101 #[.int .u32 a] w fun e w'=>e=.returned (.int .u32 (canon a))/\w'=w:=by
 cases hn:nan a
 ·have hc:canon a=a:=by unfold canon;simp[hn]
  have h5:(cls a==5)=false:=by have:=Zafp a hn h0 h1;simpa using this
  rw[hc];clear hc hn;go_enter func101,ntmps101;go_wp2_with(go_at_call 134;refine(Zsk _ h0 h1 _).mono ?_;rintro e w' ⟨rfl,rfl⟩);go_ret;exact⟨rfl,rfl⟩
 ·have hc:canon a=2143289344:=by unfold canon;simp[hn]
  rw[hc];clear hc;go_enter func101,ntmps101;go_wp2_with(go_at_call 134;refine(Zaih _ h0 h1 hn _).mono ?_;rintro e w' ⟨rfl,rfl⟩);go_ret;exact⟨rfl,rfl⟩
theorem Zpt(a:Int)(h0:0<=a)(h1:a<4294967296)(w:World):
 Calls prog 68 #[.int .i64 a] w fun e w'=>e=.returned (.int .i64 (canon a))/\w'=w:=by
 cases hn:nan a
 ·have hc:canon a=a:=by unfold canon;simp[hn]
  exact Zej
 ·have hc:canon a=2143289344:=by unfold canon;simp[hn]
  exact Zej
end Go.Proofs.YtbinohkcolcbfaaGreat
