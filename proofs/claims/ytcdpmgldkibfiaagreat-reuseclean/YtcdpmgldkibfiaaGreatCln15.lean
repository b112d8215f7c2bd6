import Derived.Test.YtcdpmgldkibfiaaGreatCln11
import Derived.Test.YtcdpmgldkibfiaaGreatCln1
namespace Go.Proofs.YtcdpmgldkibfiaaGreat
open Go.RowKit Go.Proofs.Tryz
set_option linter.all false
set_option maxRecDepth 100000
set_option maxHeartbeats 16000000
def Xa(w:World)(l:Nat->Nat)(m:Nat)(nv iv:Value)(wr:World):Prop:=wr=w/\∃j R:Nat,j<=m/\iv=.int .i64 j/\nv=.int .i64 R/\R=rn l j
def Xb(w:World)(m:Nat)(iv:Value)(wr:World):Prop:=wr=w/\∃i:Nat,i<=m/\iv=.int .i64 i
theorem rel_el(F:Nat->Int)(j k:Nat):(if k=j then Value.int .i64 (F j)else .int .i64 (if k<j then F k else 0))=.int .i64 (if k<j+1 then F k else 0):=by
 by_cases h:k=j
 ·subst h;rw[if_pos rfl,if_pos oM]
 ·rw[if_neg h];by_cases h2:k<j
  ·rw[if_pos h2,if_pos oM]
  ·rw[if_neg h2,if_neg oM]
theorem row3(w:World)(t:TypeId):(w.alloc (.cells #[.int .i64 0,.int .i64 0,.int .i64 0] t)).rowIs w.heap.size t 3 (fun _=>.int .i64 0):=
 World.rowIs_alloc w #[.int .i64 0,.int .i64 0,.int .i64 0] t (fun _=>.int .i64 0) (by
  intro i hi;have:i=0\/i=1\/i=2:=by simp at hi;omega
  rcases this with rfl|rfl|rfl<;>rfl)
theorem SI(op:Int)(h0:Cx op≠0)(b o m cq:Nat)(hm:Cx op=m)(n:Nat)(P:Nat->Option Addr)(l c:Nat->Nat)(X:Nat->Nat->Int)(hX:∀i j,Az (X i j))(hl:∀i,l i<=1048576)(hs:DP l (m-1)=some n)(w:World)(hL:OS .i64 w (some ⟨b,o,none⟩) m P l c X):
 Calls prog 120 #[.int .i64 op,.slice (some ⟨b,o,none⟩) m cq] w fun e w'=>∃q cap,e=.returned (.tuple #[.slice q n cap,.int .i64 0])/\Bb w' q n (fun i=>.int .i64 (Ie op (EH l X m i 0) (EH l X m i 1) (EH l X m i 2)))/\Below w.heap.size w w'/\∀b o s,q=some ⟨b,o,s⟩->w.heap.size<=b:=by
 obtain⟨i0,hi0,hz0,hz1,hz2⟩:=info_parts UI;have hn:n<=1048576:=shp_le hl hs;have hm3:m<=3:=by rw[←hm];exact Kl op
 have ht:¬ ((m:Int)=0):=oM;have hm1:1<=m:=oM;have HL:Hid (OS .i64 w (some ⟨b,o,none⟩) m P l c X/\(∀i,l i<=1048576)/\DP l (m-1)=some n/\(∀i j,Az (X i j))):=⟨hL,hl,hs,hX⟩
 have H0:Hid (Cx op≠0/\Cx op=m):=⟨h0,hm⟩
 have h00:=Gg hL 0 oM;rw[Nat.add_zero]at h00;have d0:((m:Int)==0)=false:=sO;clear hL hl hs hX h0 hm;go_enter func120,ntmps120;go_wp2_with(go_at_call 121;refine(K6 op _).mono ?_;rintro e w1 ⟨rfl,hw1⟩;obtain rfl:=hw1.symm;rw[H0.out.2])
 go_loopw [7,8] (fun nv iv wr=>Xa w l m nv iv wr) (fun _ iv _=>m-(intOf iv).toNat)
 case atStart=>unfold Xa;exact⟨rfl,0,_,Nat.zero_le _,rfl,rfl,rfl⟩
 case round=>
  obtain⟨rfl,j,R,hj,rfl,rfl,hR⟩:=hrel;by_cases hlt:j<m
  ·have h1:=Gg HL.out.1 j hlt;have i1:(0:Int)<=(j:Int):=oM;have i2:(j:Int)<(m:Int):=oM;obtain⟨L,hLL⟩:∃L,L=l j:=⟨_,rfl⟩
   have HRN:Hid (rn l (j+1)=if R=1\/L=0 then L else R):=by rw[hR];subst hLL;rfl
   rw[←hLL]at h1;clear hR hLL;by_cases c1:R=1
   ·have HR1:Hid (rn l (j+1)=L):=by rw[HRN.out,if_pos (.inl c1)];exact rfl
    subst c1;exact Zfe
   ·have c2:¬ ((R:Int)=1):=oM;by_cases c3:L=0
    ·have HR1:Hid (rn l (j+1)=L):=by rw[HRN.out,if_pos (.inr c3)];exact rfl
     subst c3;go_wp2;go_roundw
     case rel=>unfold Xa;exact⟨rfl,j+1,0,oM,gN,rfl,HR1.out.symm⟩
     case measure=>simp[intOf];omega
    ·have HR1:Hid (rn l (j+1)=R):=by rw[HRN.out,if_neg oM];exact rfl
     have c4:¬ ((L:Int)=0):=oM;have d1:((R:Int)==1)=false:=by simp[c2]
     have d2:((L:Int)==0)=false:=sO;exact Zfe
  ·have:j=m:=oM;subst this;have hrn:n=R:=by rw[hR];have:=rn_shp HL.out.2.2.1;rw[show j-1+1=j by omega]at this;exact this.symm
   subst hrn;clear hR;go_wp2
   go_loopw [9] (fun iv wr'=>Xb wr j iv wr') (fun iv _=>j-(intOf iv).toNat)
   case atStart=>unfold Xb;exact⟨rfl,0,Nat.zero_le _,rfl⟩
   case round=>
    obtain⟨rfl,i,hi,rfl⟩:=hrel;by_cases hlt:i<j
    ·have h1:=Gg HL.out.1 i hlt;have i1:(0:Int)<=(i:Int):=oM;have i2:(i:Int)<(j:Int):=oM;have hg:=Ou HL.out.2.2.1 i oM;obtain⟨L,hLL⟩:∃L,L=l i:=⟨_,rfl⟩
     rw[←hLL]at h1 hg;clear hLL;by_cases c1:L=n
     ·subst c1;clear hg;go_wp2;go_roundw
      case rel=>unfold Xb;exact⟨rfl,i+1,oM,gN⟩
      case measure=>simp[intOf];omega
     ·have c2:L=1:=oM;have c3:¬ ((n:Int)=0):=oM;have c4:¬ ((1:Int)=(n:Int)):=oM;have d1:((n:Int)==0)=false:=sO;have d2:((1:Int) != (n:Int))=true:=by simp[c4]
      subst c2;clear hg;go_wp2;go_roundw
      case rel=>unfold Xb;exact⟨rfl,i+1,oM,gN⟩
      case measure=>simp[intOf];omega
    ·have:i=j:=oM;subst this;obtain⟨G,HG⟩:∃G:Nat->Int,Hid (G=fun t=>Ie op (EH l X i t 0) (EH l X i t 1) (EH l X i t 2)):=⟨_,rfl⟩
     clear h00;rename World=>W0;go_wp2
     go_loopw [10,11] (fun ov iv wr=>Below W0.heap.size W0 wr/\∃ (k:Nat) (v:Value),v=ov/\k<=n/\iv=.int .i64 k/\Hid (wr.ownsRow W0.heap.size 3 1 v k (Ir (fun t=>.int .i64 (G t)) k))) (fun _ iv _=>n-(intOf iv).toNat)
     case atStart=>exact⟨L6 _,0,_,rfl,Nat.zero_le _,rfl,World.ownsRow_nil _ _ _ _⟩
     case round=>
      obtain⟨hb,k,ov,rfl,hk,rfl,hown⟩:=hrel;by_cases hlt:k<n
      ·rename World=>W3;have i1:(k:Int)<(n:Int):=oM;obtain⟨E,HE⟩:∃E:Nat->Int,Hid (E=EH l X i k):=⟨_,rfl⟩
       have HGk:Hid (Ie op (E 0) (E 1) (E 2)=G k/\Az (E 0)/\Az (E 1)/\Az (E 2)):=by
        have e1:=HE.out;have e2:=HG.out;have hXX:=HL.out.2.2.2;subst e1;subst e2;exact⟨rfl,Cq hXX _ _ _,Cq hXX _ _ _,Cq hXX _ _ _⟩
       have HT:Hid ((W3.alloc (.cells #[.int .i64 0,.int .i64 0,.int .i64 0] 196)).rowIs W3.heap.size 196 3 (fun _=>.int .i64 0)):=row3 W3 _;go_wp2
       go_loopw [13] (fun iv wr=>Below W3.heap.size W3 wr/\∃j:Nat,j<=i/\iv=.int .i64 j/\Hid (wr.rowIs W3.heap.size 196 3 (fun t=>.int .i64 (if t<j then E t else 0)))) (fun iv _=>i-(intOf iv).toNat)
       case atStart=>exact⟨PC W3 _,0,Nat.zero_le _,rfl,HT.out.congr fun t ht=>by simp⟩
       case round=>
        obtain⟨hb4,j,hj,rfl,hrow⟩:=hrel;clear HT;by_cases hlt4:j<i
        ·have hL4:=HL.out.1.below (Jp hb hb4);have h1:=Gg hL4 j hlt4;have HPJ:Hid (Bb wr (P j) (l j) (fun t=>.int .i64 (X j t))/\(l j=1\/k<l j)/\X j (if l j=1 then 0 else k)=E j/\l j<=1048576):=⟨hL4.parts j hlt4,Tp HL.out.2.2.1 oM hlt,by rw[HE.out];unfold EH;rw[if_pos hlt4],HL.out.2.1 j⟩
         have c1:=hrow.out.cell (i:=j) oM;have f1:=hrow.out.frozen j;have i2:(0:Int)<=(j:Int):=oM;have i3:(j:Int)<(i:Int):=oM;have i4:(j:Int)<3:=oM;have j3:j<3:=oM;have HR:Hid (∀x,(wr.setCell ⟨W3.heap.size,j,none⟩ x).rowIs W3.heap.size 196 3 (fun t=>if t=j then x else .int .i64 (if t<j then E t else 0))):=fun x=>hrow.out.set j x;clear hL4;go_wp2_with(go_at_call 138;refine(Yw _ _ _ k (X j) HPJ.out.2.2.2 oM HPJ.out.2.1 wr HPJ.out.1).mono ?_;rintro e w5 ⟨rfl,hw5⟩;obtain rfl:=hw5.symm;rw[HPJ.out.2.2.1]);go_roundw
         case rel=>exact⟨hb4.setCell (Nat.le_refl _) _,j+1,oM,gN,(HR.out _).congr fun t ht=>rel_el E j t⟩
         case measure=>simp[intOf];omega
        ·have:j=i:=oM;subst this;have e0:∀t,t<3->(if t<j then E t else 0)=E t:=by
          intro t ht;by_cases q:t<j
          ·rw[if_pos q]
          ·rw[if_neg q,HE.out];unfold EH;rw[if_neg q]
         have r1:=hrow.out.congr (g:=fun t=>.int .i64 (E t)) (fun t ht=>by rw[e0 t ht]);have c0:=r1.cell (i:=0) oM;have c1:=r1.cell (i:=1) oM;have c2:=r1.cell (i:=2) oM;clear r1 e0 hrow;go_wp2_with(first
          |(go_at_call 139;refine(Yz op H0.out.1 (E 0) (E 1) (E 2) HGk.out.2.1 HGk.out.2.2.1 HGk.out.2.2.2 wr).mono ?_;rintro e w6 ⟨rfl,hb6⟩;rw[HGk.out.1];have hown6:Hid (w6.ownsRow W0.heap.size 3 1 ov k (Ir (fun t=>.int .i64 (G t)) k)):=PM hown.out (Jp hb4 hb6);have hob:Hid (∀j,ov.ownBlock=some j->W0.heap.size<=j/\j<W3.heap.size):=hown.out.lt;have HB6:Below W0.heap.size W0 w6:=Jp (Jp hb hb4) hb6;have sz:=HB6.size)
          |(at_builtin;refine wpList_append_own _ rfl _ _ 36 rfl W0.heap.size 3 i0 _ 1 8 underlying36 hi0 hz0 hz1 hz2 rfl dE ov k (Ir (fun t=>.int .i64 (G t)) k) rfl (hown6.out.alloc _) ⟨w6.heap.size,0,none⟩ 1 1 [.int .i64 (G k)] rfl rfl (World.news_of_block (cs:=#[.int .i64 (G k)]) (t:=3) (fr:=(0,0)) (heap_alloc_new w6 _)) WZ mL oM sO ?_;intro v' w7 hown7 hgrow hnil;have HB7:Below W0.heap.size W0 w7:=Below.grown (HB6.alloc sz _) hgrow sO (fun j e=>(hob.out j e).1);have HO:Hid (w7.ownsRow W0.heap.size 3 1 v' (k+1) (Ir (fun t=>.int .i64 (G t)) k++[.int .i64 (G k)])):=hown7;clear hown7 hgrow hnil))
         go_roundw
         case rel=>exact⟨HB7,k+1,_,rfl,oM,gN,by rw[Ma];exact HO⟩
         case measure=>simp[intOf];omega
      ·have:k=n:=oM;subst this;obtain⟨q,cap,rfl,hR,hg,-⟩:=LO hown.out;have HR:Hid (Bb wr q k (fun t=>.int .i64 (G t))):=hR;have HLO:Hid (∀b o s,q=some ⟨b,o,s⟩->W0.heap.size<=b):=hg;clear hR hg hown;go_wp2;go_returns;have e2:=HG.out;subst e2;first|exact⟨_,_,rfl,HR.out,hb,HLO.out⟩|exact⟨_,⟨_,rfl⟩,HR.out,hb,HLO.out⟩
end Go.Proofs.YtcdpmgldkibfiaaGreat
