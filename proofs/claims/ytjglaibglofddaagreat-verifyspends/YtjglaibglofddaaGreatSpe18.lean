import Derived.Test.YtjglaibglofddaaGreatSpe14
import Derived.Test.YtjglaibglofddaaGreatSpe1
namespace Go.Proofs.YtjglaibglofddaaGreat
open Go.RowKit Go.Proofs.Tryz
set_option linter.all false
set_option maxRecDepth 100000
set_option maxHeartbeats 16000000
def SF(w:World)(l:Nat->Nat)(m:Nat)(nv iv:Value)(wr:World):Prop:=wr=w/\∃j R:Nat,j<=m/\iv=.int .i64 j/\nv=.int .i64 R/\R=rn l j
def SG(w:World)(m:Nat)(iv:Value)(wr:World):Prop:=wr=w/\∃i:Nat,i<=m/\iv=.int .i64 i
theorem VF(F:Nat->Int)(j k:Nat):(if k=j then Value.int .i64 (F j)else .int .i64 (if k<j then F k else 0))=.int .i64 (if k<j+1 then F k else 0):=by
 by_cases h:k=j
 .subst h;rw[if_pos rfl,if_pos oM]
 .rw[if_neg h];by_cases h2:k<j
  .rw[if_pos h2,if_pos oM]
  .rw[if_neg h2,if_neg oM]
theorem Y2(w:World)(t:TypeId):(w.alloc (.cells #[.int .i64 0,.int .i64 0,.int .i64 0] t)).rowIs w.heap.size t 3 (fun _=>.int .i64 0):=
 World.rowIs_alloc w #[.int .i64 0,.int .i64 0,.int .i64 0] t (fun _=>.int .i64 0) (by
  intro i hi;have:i=0\/i=1\/i=2:=by simp at hi;omega
  rcases this with rfl|rfl|rfl<;>rfl)
theorem P2(op:Int)(h0:BI op≠0)(b o m cq:Nat)(hm:BI op=m)(n:Nat)(P:Nat->Option Addr)(l c:Nat->Nat)(X:Nat->Nat->Int)(hX:∀i j,Ar (X i j))(hl:∀i,l i<=1048576)(hs:Dh l (m-1)=some n)(w:World)(hL:LF .i64 w (some ⟨b,o,none⟩) m P l c X):
 Calls prog 64 #[.int .i64 op,.slice (some ⟨b,o,none⟩) m cq] w fun e w'=>∃q cap,e=.returned (.tuple #[.slice q n cap,.int .i64 0])/\AP w' q n (fun i=>.int .i64 (Hu op (F8 l X m i 0) (F8 l X m i 1) (F8 l X m i 2)))/\Below w.heap.size w w'/\∀b o s,q=some ⟨b,o,s⟩->w.heap.size<=b:=by
 obtain⟨i0,hi0,hz0,hz1,hz2⟩:=info_parts Qw;have hn:n<=1048576:=VI hl hs;have hm3:m<=3:=by rw[<-hm];exact Ie op
 have ht:¬ ((m:Int)=0):=oM;have hm1:1<=m:=oM;have HL:Hid (LF .i64 w (some ⟨b,o,none⟩) m P l c X/\(∀i,l i<=1048576)/\Dh l (m-1)=some n/\(∀i j,Ar (X i j))):=⟨hL,hl,hs,hX⟩
 have H0:Hid (BI op≠0/\BI op=m):=⟨h0,hm⟩
 have h00:=EY hL 0 oM;rw[Nat.add_zero]at h00;have d0:((m:Int)==0)=false:=sO;clear hL hl hs hX h0 hm;go_enter func64,ntmps64;go_wp2_with(go_at_call 65;refine(I3 op _).mono ?_;rintro e w1 ⟨rfl,hw1⟩;obtain rfl:=hw1.symm;rw[H0.2])
 go_loopw [7,8] (fun nv iv wr=>SF w l m nv iv wr) (fun _ iv _=>m-(intOf iv).toNat)
 case atStart=>unfold SF;exact⟨rfl,0,_,gI _,rfl,rfl,rfl⟩
 case round=>
  obtain⟨rfl,j,R,hj,rfl,rfl,hR⟩:=hrel;by_cases hlt:j<m
  .have h1:=EY HL.1 j hlt;have i1:(0:Int)<=(j:Int):=oM;have i2:(j:Int)<(m:Int):=oM;obtain⟨L,hLL⟩:∃L,L=l j:=⟨_,rfl⟩
   have HRN:Hid (rn l (j+1)=if R=1\/L=0 then L else R):=by rw[hR];subst hLL;rfl
   rw[<-hLL]at h1;clear hR hLL;by_cases c1:R=1
   .have HR1:Hid (rn l (j+1)=L):=by rw[HRN.out,if_pos (.inl c1)];exact rfl
    subst c1;exact Zb
   .have c2:¬ ((R:Int)=1):=oM;by_cases c3:L=0
    .have HR1:Hid (rn l (j+1)=L):=by rw[HRN.out,if_pos (.inr c3)];exact rfl
     subst c3;go_wp2;go_roundw
     case rel=>unfold SF;exact⟨rfl,j+1,0,oM,gN,rfl,HR1.symm⟩
     case measure=>simp[intOf];omega
    .have HR1:Hid (rn l (j+1)=R):=by rw[HRN.out,if_neg oM];exact rfl
     have c4:¬ ((L:Int)=0):=oM;have d1:((R:Int)==1)=false:=by simp[c2]
     have d2:((L:Int)==0)=false:=sO;exact Zb
  .have:j=m:=oM;subst this;have hrn:n=R:=by rw[hR];have:=VG HL.2.2.1;rw[show j-1+1=j by omega]at this;exact this.symm
   subst hrn;clear hR;go_wp2
   go_loopw [9] (fun iv wr'=>SG wr j iv wr') (fun iv _=>j-(intOf iv).toNat)
   case atStart=>unfold SG;exact⟨rfl,0,gI _,rfl⟩
   case round=>
    obtain⟨rfl,i,hi,rfl⟩:=hrel;by_cases hlt:i<j
    .have h1:=EY HL.1 i hlt;have i1:(0:Int)<=(i:Int):=oM;have i2:(i:Int)<(j:Int):=oM;have hg:=L7 HL.2.2.1 i oM;obtain⟨L,hLL⟩:∃L,L=l i:=⟨_,rfl⟩
     rw[<-hLL]at h1 hg;clear hLL;by_cases c1:L=n
     .subst c1;clear hg;go_wp2;go_roundw
      case rel=>unfold SG;exact⟨rfl,i+1,oM,gN⟩
      case measure=>simp[intOf];omega
     .have c2:L=1:=oM;have c3:¬ ((n:Int)=0):=oM;have c4:¬ ((1:Int)=(n:Int)):=oM;have d1:((n:Int)==0)=false:=sO;have d2:((1:Int) != (n:Int))=true:=by simp[c4]
      subst c2;clear hg;go_wp2;go_roundw
      case rel=>unfold SG;exact⟨rfl,i+1,oM,gN⟩
      case measure=>simp[intOf];omega
    .have:i=j:=oM;subst this;obtain⟨G,HG⟩:∃G:Nat->Int,Hid (G=fun t=>Hu op (F8 l X i t 0) (F8 l X i t 1) (F8 l X i t 2)):=⟨_,rfl⟩
     clear h00;rename World=>W0;go_wp2
     go_loopw [10,11] (fun ov iv wr=>Below W0.heap.size W0 wr/\∃ (k:Nat) (v:Value),v=ov/\k<=n/\iv=.int .i64 k/\Hid (wr.ownsRow W0.heap.size 3 1 v k (Gn (fun t=>.int .i64 (G t)) k))) (fun _ iv _=>n-(intOf iv).toNat)
     case atStart=>exact⟨Iv _,0,_,rfl,gI _,rfl,World.ownsRow_nil _ _ _ _⟩
     case round=>
      obtain⟨hb,k,ov,rfl,hk,rfl,hown⟩:=hrel;by_cases hlt:k<n
      .rename World=>W3;have i1:(k:Int)<(n:Int):=oM;obtain⟨E,HE⟩:∃E:Nat->Int,Hid (E=F8 l X i k):=⟨_,rfl⟩
       have HGk:Hid (Hu op (E 0) (E 1) (E 2)=G k/\Ar (E 0)/\Ar (E 1)/\Ar (E 2)):=by
        have e1:=HE.out;have e2:=HG.out;have hXX:=HL.2.2.2;subst e1;subst e2;exact⟨rfl,By hXX _ _ _,By hXX _ _ _,By hXX _ _ _⟩
       have HT:Hid ((W3.alloc (.cells #[.int .i64 0,.int .i64 0,.int .i64 0] 149)).rowIs W3.heap.size 149 3 (fun _=>.int .i64 0)):=Y2 W3 _;go_wp2
       go_loopw [13] (fun iv wr=>Below W3.heap.size W3 wr/\∃j:Nat,j<=i/\iv=.int .i64 j/\Hid (wr.rowIs W3.heap.size 149 3 (fun t=>.int .i64 (if t<j then E t else 0)))) (fun iv _=>i-(intOf iv).toNat)
       case atStart=>exact⟨Mj W3 _,0,gI _,rfl,HT.congr fun t ht=>by simp⟩
       case round=>
        obtain⟨hb4,j,hj,rfl,hrow⟩:=hrel;clear HT;by_cases hlt4:j<i
        .have hL4:=HL.1.below (H5 hb hb4);have h1:=EY hL4 j hlt4;have HPJ:Hid (AP wr (P j) (l j) (fun t=>.int .i64 (X j t))/\(l j=1\/k<l j)/\X j (if l j=1 then 0 else k)=E j/\l j<=1048576):=⟨hL4.parts j hlt4,Px HL.2.2.1 oM hlt,by rw[HE.out];unfold F8;rw[if_pos hlt4],HL.2.1 j⟩
         have c1:=hrow.cell (i:=j) oM;have f1:=hrow.frozen j;have i2:(0:Int)<=(j:Int):=oM;have i3:(j:Int)<(i:Int):=oM;have i4:(j:Int)<3:=oM;have j3:j<3:=oM;have HR:Hid (∀x,(wr.setCell ⟨W3.heap.size,j,none⟩ x).rowIs W3.heap.size 149 3 (fun t=>if t=j then x else .int .i64 (if t<j then E t else 0))):=fun x=>hrow.set j x;clear hL4;go_wp2_with(go_at_call 89;refine(Ud _ _ _ k (X j) HPJ.2.2.2 oM HPJ.2.1 wr HPJ.1).mono ?_;rintro e w5 ⟨rfl,hw5⟩;obtain rfl:=hw5.symm;rw[HPJ.2.2.1]);go_roundw
         case rel=>exact⟨hb4.setCell (gF _) _,j+1,oM,gN,(HR.out _).congr fun t ht=>VF E j t⟩
         case measure=>simp[intOf];omega
        .have:j=i:=oM;subst this;have e0:∀t,t<3->(if t<j then E t else 0)=E t:=by
          intro t ht;by_cases q:t<j
          .rw[if_pos q]
          .rw[if_neg q,HE.out];unfold F8;rw[if_neg q]
         have r1:=hrow.congr (g:=fun t=>.int .i64 (E t)) (fun t ht=>by rw[e0 t ht]);have c0:=r1.cell (i:=0) oM;have c1:=r1.cell (i:=1) oM;have c2:=r1.cell (i:=2) oM;clear r1 e0 hrow;go_wp2_with(first
          |(go_at_call 90;refine(Ue op H0.1 (E 0) (E 1) (E 2) HGk.2.1 HGk.2.2.1 HGk.2.2.2 wr).mono ?_;rintro e w6 ⟨rfl,hb6⟩;rw[HGk.1];have hown6:Hid (w6.ownsRow W0.heap.size 3 1 ov k (Gn (fun t=>.int .i64 (G t)) k)):=Mt hown.out (H5 hb4 hb6);have hob:Hid (∀j,ov.ownBlock=some j->W0.heap.size<=j/\j<W3.heap.size):=hown.lt;have HB6:Below W0.heap.size W0 w6:=H5 (H5 hb hb4) hb6;have sz:=HB6.size)
          |(at_builtin;refine wpList_append_own _ rfl _ _ 58 rfl W0.heap.size 3 i0 _ 1 8 underlying58 hi0 hz0 hz1 hz2 rfl dE ov k (Gn (fun t=>.int .i64 (G t)) k) rfl (hown6.alloc _) ⟨w6.heap.size,0,none⟩ 1 1 [.int .i64 (G k)] rfl rfl (World.news_of_block (cs:=#[.int .i64 (G k)]) (t:=3) (fr:=(0,0)) (heap_alloc_new w6 _)) Sz mL oM sO ?_;intro v' w7 hown7 hgrow hnil;have HB7:Below W0.heap.size W0 w7:=Below.grown (HB6.alloc sz _) hgrow sO (fun j e=>(hob.out j e).1);have HO:Hid (w7.ownsRow W0.heap.size 3 1 v' (k+1) (Gn (fun t=>.int .i64 (G t)) k++[.int .i64 (G k)])):=hown7;clear hown7 hgrow hnil))
         go_roundw
         case rel=>exact⟨HB7,k+1,_,rfl,oM,gN,by rw[J4];exact HO⟩
         case measure=>simp[intOf];omega
      .have:k=n:=oM;subst this;obtain⟨q,cap,rfl,hR,hg,-⟩:=IS hown.out;have HR:Hid (AP wr q k (fun t=>.int .i64 (G t))):=hR;have HLO:Hid (∀b o s,q=some ⟨b,o,s⟩->W0.heap.size<=b):=hg;clear hR hg hown;go_wp2;go_returns;have e2:=HG.out;subst e2;first|exact⟨_,_,rfl,HR.out,hb,HLO.out⟩|exact⟨_,⟨_,rfl⟩,HR.out,hb,HLO.out⟩
end Go.Proofs.YtjglaibglofddaaGreat
