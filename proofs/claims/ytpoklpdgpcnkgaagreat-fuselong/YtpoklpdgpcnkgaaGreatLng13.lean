import Derived.Test.YtpoklpdgpcnkgaaGreatLng10
import Derived.Test.YtpoklpdgpcnkgaaGreatLng1
namespace Go.Proofs.YtpoklpdgpcnkgaaGreat
open Go.RowKit Go.Proofs.Tryz
set_option linter.all false
set_option maxRecDepth 100000
set_option maxHeartbeats 16000000
def rn(l:Nat->Nat):Nat->Nat
 |0=>l 0
 |j+1=>if rn l j=1\/l j=0 then l j else rn l j
theorem rn_shp{l:Nat->Nat}:∀ {M n:Nat},Es l M=some n->rn l (M+1)=n:=by
 intro M;induction M with
 |zero=>intro n h;cases h;show(if l 0=1\/l 0=0 then l 0 else l 0)=l 0;split<;>rfl
 |succ M ih=>
  intro n h;cases e:Es l M with
  |none=>rw[Lm e (M+1) oM]at h;cases h
  |some k=>
   rw[Iz e]at h;have hk:=ih e;show(if rn l (M+1)=1\/l (M+1)=0 then l (M+1)else rn l (M+1))=n;rw[hk];split at h
   .cases h;split<;>omega
   .split at h
    .cases h
    .split at h
     .cases h;rw[if_pos oM]
     .split at h
      .cases h;rw[if_neg oM]
      .cases h
theorem Xn(w:World):Calls prog 119 #[.int .i64 3] w fun e w'=>e=.returned (.int .i64 1)/\w'=w:=by
 exact Rl
theorem Uh(w:World):Calls prog 119 #[.int .i64 11] w fun e w'=>e=.returned (.int .i64 1)/\w'=w:=by
 exact Rl
theorem Ui(w:World):Calls prog 119 #[.int .i64 12] w fun e w'=>e=.returned (.int .i64 1)/\w'=w:=by
 exact Rl
theorem Uj(w:World):Calls prog 119 #[.int .i64 13] w fun e w'=>e=.returned (.int .i64 1)/\w'=w:=by
 exact Rl
theorem Uk(w:World):Calls prog 119 #[.int .i64 14] w fun e w'=>e=.returned (.int .i64 1)/\w'=w:=by
 exact Rl
theorem Xo(w:World):Calls prog 119 #[.int .i64 4] w fun e w'=>e=.returned (.int .i64 2)/\w'=w:=by
 exact Rl
theorem Xp(w:World):Calls prog 119 #[.int .i64 5] w fun e w'=>e=.returned (.int .i64 2)/\w'=w:=by
 exact Rl
theorem Xq(w:World):Calls prog 119 #[.int .i64 6] w fun e w'=>e=.returned (.int .i64 2)/\w'=w:=by
 exact Rl
theorem Xr(w:World):Calls prog 119 #[.int .i64 7] w fun e w'=>e=.returned (.int .i64 2)/\w'=w:=by
 exact Rl
theorem Xt(w:World):Calls prog 119 #[.int .i64 8] w fun e w'=>e=.returned (.int .i64 2)/\w'=w:=by
 exact Rl
theorem Xu(w:World):Calls prog 119 #[.int .i64 9] w fun e w'=>e=.returned (.int .i64 2)/\w'=w:=by
 exact Rl
theorem Ug(w:World):Calls prog 119 #[.int .i64 10] w fun e w'=>e=.returned (.int .i64 2)/\w'=w:=by
 exact Rl
theorem Ul(w:World):Calls prog 119 #[.int .i64 15] w fun e w'=>e=.returned (.int .i64 3)/\w'=w:=by
 exact Rl
theorem Um(op:Int)(h:D9 op=0)(w:World):Calls prog 119 #[.int .i64 op] w fun e w'=>e=.returned (.int .i64 0)/\w'=w:=by
 have n1:¬ (op=3\/op=11\/op=12\/op=13\/op=14):=fun c=>by unfold D9 at h;rw[if_pos c]at h;cases h
 have n2:¬ (op=4\/op=5\/op=6\/op=7\/op=8\/op=9\/op=10):=fun c=>by unfold D9 at h;rw[if_neg n1,if_pos c]at h;cases h
 have n3:¬ (op=15):=fun c=>by unfold D9 at h;rw[if_neg n1,if_neg n2,if_pos c]at h;cases h
 simp only[not_or]at n1 n2;obtain⟨a1,a2,a3,a4,a5⟩:=n1;obtain⟨b1,b2,b3,b4,b5,b6,b7⟩:=n2;clear h;exact Rl
theorem Lg(op:Int)(w:World):Calls prog 119 #[.int .i64 op] w fun e w'=>e=.returned (.int .i64 (D9 op:Nat))/\w'=w:=by
 by_cases h:D9 op=0
 .rw[h];exact Um op h w
 .rcases Jw op h with rfl|rfl|rfl|rfl|rfl|rfl|rfl|rfl|rfl|rfl|rfl|rfl|rfl
  .exact Xn w
  .exact Uh w
  .exact Ui w
  .exact Uj w
  .exact Uk w
  .exact Xo w
  .exact Xp w
  .exact Xq w
  .exact Xr w
  .exact Xt w
  .exact Xu w
  .exact Ug w
  .exact Ul w
theorem My(b:Bool)(w:World):Calls prog 141 #[.bool b] w fun e w'=>e=.returned (.int .i64 (Qe b))/\w'=w:=by
 cases b<;>(go_enter func141,ntmps141;go_wp2;go_ret;exact⟨rfl,rfl⟩)
theorem rdo_3(a b c:Int)(ha:AB a)(hb:AB b)(hc:AB c)(w:World):Calls prog 128 #[.int .i64 3,.int .i64 a,.int .i64 b,.int .i64 c] w fun e w'=>e=.returned (.int .i64 (Jo 3 a b c))/\Below w.heap.size w w':=by
 go_enter func128,ntmps128;go_wp2_with(first|(go_at_call 97;refine(FT _ ha.1 ha.2 _).mono ?_;rintro e w1 ⟨rfl,hw1⟩;obtain rfl:=hw1.symm));go_ret;exact⟨rfl,LZ _⟩
theorem rdo_11(a b c:Int)(ha:AB a)(hb:AB b)(hc:AB c)(w:World):Calls prog 128 #[.int .i64 11,.int .i64 a,.int .i64 b,.int .i64 c] w fun e w'=>e=.returned (.int .i64 (Jo 11 a b c))/\Below w.heap.size w w':=by
 go_enter func128,ntmps128;go_wp2_with(first|(go_at_call 138;refine(Ud _ ha.1 ha.2 _).mono ?_;rintro e w1 ⟨rfl,hb1⟩));go_ret;exact⟨rfl,hb1⟩
theorem rdo_12(a b c:Int)(ha:AB a)(hb:AB b)(hc:AB c)(w:World):Calls prog 128 #[.int .i64 12,.int .i64 a,.int .i64 b,.int .i64 c] w fun e w'=>e=.returned (.int .i64 (Jo 12 a b c))/\Below w.heap.size w w':=by
 go_enter func128,ntmps128;go_wp2_with(first|(go_at_call 139;refine(OX _ ha.1 ha.2 _).mono ?_;rintro e w1 ⟨rfl,hb1⟩));go_ret;exact⟨rfl,hb1⟩
theorem rdo_13(a b c:Int)(ha:AB a)(hb:AB b)(hc:AB c)(w:World):Calls prog 128 #[.int .i64 13,.int .i64 a,.int .i64 b,.int .i64 c] w fun e w'=>e=.returned (.int .i64 (Jo 13 a b c))/\Below w.heap.size w w':=by
 go_enter func128,ntmps128;go_wp2_with(first|(go_at_call 140;refine(Wt _ ha.1 ha.2 _).mono ?_;rintro e w1 ⟨rfl,hb1⟩));go_ret;exact⟨rfl,hb1⟩
theorem rdo_14(a b c:Int)(ha:AB a)(hb:AB b)(hc:AB c)(w:World):Calls prog 128 #[.int .i64 14,.int .i64 a,.int .i64 b,.int .i64 c] w fun e w'=>e=.returned (.int .i64 (Jo 14 a b c))/\Below w.heap.size w w':=by
 go_enter func128,ntmps128;go_wp2_with(first|(go_at_call 142;refine(U6 _ ha _).mono ?_;rintro e w1 ⟨rfl,hw1⟩;obtain rfl:=hw1.symm)|(go_at_call 141;refine(My _ _).mono ?_;rintro e w1 ⟨rfl,hw1⟩;obtain rfl:=hw1.symm));go_ret;exact⟨rfl,LZ _⟩
theorem rdo_4(a b c:Int)(ha:AB a)(hb:AB b)(hc:AB c)(w:World):Calls prog 128 #[.int .i64 4,.int .i64 a,.int .i64 b,.int .i64 c] w fun e w'=>e=.returned (.int .i64 (Jo 4 a b c))/\Below w.heap.size w w':=by
 go_enter func128,ntmps128;go_wp2_with(first|(go_at_call 123;refine(KZ _ ha.1 ha.2 _ hb.1 hb.2 _).mono ?_;rintro e w1 ⟨rfl,hb1⟩));go_ret;exact⟨rfl,hb1⟩
theorem rdo_5(a b c:Int)(ha:AB a)(hb:AB b)(hc:AB c)(w:World):Calls prog 128 #[.int .i64 5,.int .i64 a,.int .i64 b,.int .i64 c] w fun e w'=>e=.returned (.int .i64 (Jo 5 a b c))/\Below w.heap.size w w':=by
 go_enter func128,ntmps128;go_wp2_with(first|(go_at_call 143;refine(Xm _ ha.1 ha.2 _ hb.1 hb.2 _).mono ?_;rintro e w1 ⟨rfl,hb1⟩));go_ret;exact⟨rfl,hb1⟩
theorem rdo_6(a b c:Int)(ha:AB a)(hb:AB b)(hc:AB c)(w:World):Calls prog 128 #[.int .i64 6,.int .i64 a,.int .i64 b,.int .i64 c] w fun e w'=>e=.returned (.int .i64 (Jo 6 a b c))/\Below w.heap.size w w':=by
 go_enter func128,ntmps128;go_wp2_with(first|(go_at_call 121;refine(L8 _ ha.1 ha.2 _ hb.1 hb.2 _).mono ?_;rintro e w1 ⟨rfl,hb1⟩));go_ret;exact⟨rfl,hb1⟩
theorem rdo_7(a b c:Int)(ha:AB a)(hb:AB b)(hc:AB c)(w:World):Calls prog 128 #[.int .i64 7,.int .i64 a,.int .i64 b,.int .i64 c] w fun e w'=>e=.returned (.int .i64 (Jo 7 a b c))/\Below w.heap.size w w':=by
 go_enter func128,ntmps128;go_wp2_with(first|(go_at_call 144;refine(Ww _ ha.1 ha.2 _ hb.1 hb.2 _).mono ?_;rintro e w1 ⟨rfl,hb1⟩));go_ret;exact⟨rfl,hb1⟩
theorem rdo_8(a b c:Int)(ha:AB a)(hb:AB b)(hc:AB c)(w:World):Calls prog 128 #[.int .i64 8,.int .i64 a,.int .i64 b,.int .i64 c] w fun e w'=>e=.returned (.int .i64 (Jo 8 a b c))/\Below w.heap.size w w':=by
 go_enter func128,ntmps128;go_wp2_with(first|(go_at_call 124;refine(OW _ ha.1 ha.2 _ hb.1 hb.2 _).mono ?_;rintro e w1 ⟨rfl,hb1⟩));go_ret;exact⟨rfl,hb1⟩
theorem rdo_9(a b c:Int)(ha:AB a)(hb:AB b)(hc:AB c)(w:World):Calls prog 128 #[.int .i64 9,.int .i64 a,.int .i64 b,.int .i64 c] w fun e w'=>e=.returned (.int .i64 (Jo 9 a b c))/\Below w.heap.size w w':=by
 go_enter func128,ntmps128;go_wp2_with(first|(go_at_call 145;refine(Wz _ ha.1 ha.2 _ hb.1 hb.2 _).mono ?_;rintro e w1 ⟨rfl,hb1⟩));go_ret;exact⟨rfl,hb1⟩
theorem rdo_10(a b c:Int)(ha:AB a)(hb:AB b)(hc:AB c)(w:World):Calls prog 128 #[.int .i64 10,.int .i64 a,.int .i64 b,.int .i64 c] w fun e w'=>e=.returned (.int .i64 (Jo 10 a b c))/\Below w.heap.size w w':=by
 go_enter func128,ntmps128;go_wp2_with(first|(go_at_call 146;refine(Ua _ ha.1 ha.2 _ hb.1 hb.2 _).mono ?_;rintro e w1 ⟨rfl,hb1⟩)|(go_at_call 141;refine(My _ _).mono ?_;rintro e w2 ⟨rfl,hw2⟩;obtain rfl:=hw2.symm));go_ret;exact⟨rfl,hb1⟩
theorem rdo_15(a b c:Int)(ha:AB a)(hb:AB b)(hc:AB c)(w:World):Calls prog 128 #[.int .i64 15,.int .i64 a,.int .i64 b,.int .i64 c] w fun e w'=>e=.returned (.int .i64 (Jo 15 a b c))/\Below w.heap.size w w':=by
 go_enter func128,ntmps128;go_wp2_with(first|(go_at_call 147;refine(P1 _ ha.1 ha.2 _ hb.1 hb.2 _ hc.1 hc.2 _).mono ?_;rintro e w1 ⟨rfl,hb1⟩));go_ret;exact⟨rfl,hb1⟩
theorem ZG(op:Int)(h:D9 op≠0)(a b c:Int)(ha:AB a)(hb:AB b)(hc:AB c)(w:World):Calls prog 128 #[.int .i64 op,.int .i64 a,.int .i64 b,.int .i64 c] w fun e w'=>e=.returned (.int .i64 (Jo op a b c))/\Below w.heap.size w w':=by
 rcases Jw op h with rfl|rfl|rfl|rfl|rfl|rfl|rfl|rfl|rfl|rfl|rfl|rfl|rfl
 .exact rdo_3 a b c ha hb hc w
 .exact rdo_11 a b c ha hb hc w
 .exact rdo_12 a b c ha hb hc w
 .exact rdo_13 a b c ha hb hc w
 .exact rdo_14 a b c ha hb hc w
 .exact rdo_4 a b c ha hb hc w
 .exact rdo_5 a b c ha hb hc w
 .exact rdo_6 a b c ha hb hc w
 .exact rdo_7 a b c ha hb hc w
 .exact rdo_8 a b c ha hb hc w
 .exact rdo_9 a b c ha hb hc w
 .exact rdo_10 a b c ha hb hc w
 .exact rdo_15 a b c ha hb hc w
theorem ZD(p:Option Addr)(n c i:Nat)(X:Nat->Int)(hn:n<=1048576)(hi:i<=1048576)(h:n=1\/i<n)(w:World)(hp:Bh w p n (fun j=>.int .i64 (X j))):
 Calls prog 127 #[.slice p n c,.int .i64 i] w fun e w'=>e=.returned (.int .i64 (X (if n=1 then 0 else i)))/\w'=w:=by
 rcases hp with hp|⟨b,o,rfl,hp⟩
 .omega
 by_cases h1:n=1
 .subst h1;have c1:=hp 0 oM;rw[Nat.add_zero]at c1;rw[if_pos rfl];clear hp h;go_enter func127,ntmps127;go_wp2;go_ret;exact⟨rfl,rfl⟩
 .have c1:=hp i oM;have n1:¬ ((n:Int)=1):=oM;have i1:(0:Int)<=(i:Int):=oM;have i2:(i:Int)<(n:Int):=oM;rw[if_neg h1];clear hp h;go_enter func127,ntmps127;go_wp2;go_ret;exact⟨rfl,rfl⟩
def Yk(w:World)(l:Nat->Nat)(m:Nat)(nv iv:Value)(wr:World):Prop:=wr=w/\∃j R:Nat,j<=m/\iv=.int .i64 j/\nv=.int .i64 R/\R=rn l j
def Yl(w:World)(m:Nat)(iv:Value)(wr:World):Prop:=wr=w/\∃i:Nat,i<=m/\iv=.int .i64 i
theorem rel_el(F:Nat->Int)(j k:Nat):(if k=j then Value.int .i64 (F j)else .int .i64 (if k<j then F k else 0))=.int .i64 (if k<j+1 then F k else 0):=by
 by_cases h:k=j
 .subst h;rw[if_pos rfl,if_pos oM]
 .rw[if_neg h];by_cases h2:k<j
  .rw[if_pos h2,if_pos oM]
  .rw[if_neg h2,if_neg oM]
theorem row3(w:World)(t:TypeId):(w.alloc (.cells #[.int .i64 0,.int .i64 0,.int .i64 0] t)).rowIs w.heap.size t 3 (fun _=>.int .i64 0):=
 World.rowIs_alloc w #[.int .i64 0,.int .i64 0,.int .i64 0] t (fun _=>.int .i64 0) (by
  intro i hi;have:i=0\/i=1\/i=2:=by simp at hi;omega
  rcases this with rfl|rfl|rfl<;>rfl)
theorem TT(op:Int)(h0:D9 op≠0)(b o m cq:Nat)(hm:D9 op=m)(n:Nat)(P:Nat->Option Addr)(l c:Nat->Nat)(X:Nat->Nat->Int)(hX:∀i j,AB (X i j))(hl:∀i,l i<=1048576)(hs:Es l (m-1)=some n)(w:World)(hL:PD .i64 w (some ⟨b,o,none⟩) m P l c X):
 Calls prog 118 #[.int .i64 op,.slice (some ⟨b,o,none⟩) m cq] w fun e w'=>∃q cap,e=.returned (.tuple #[.slice q n cap,.int .i64 0])/\Bh w' q n (fun i=>.int .i64 (Jo op (Gf l X m i 0) (Gf l X m i 1) (Gf l X m i 2)))/\Below w.heap.size w w'/\∀b o s,q=some ⟨b,o,s⟩->w.heap.size<=b:=by
 obtain⟨i0,hi0,hz0,hz1,hz2⟩:=info_parts VQ;have hn:n<=1048576:=shp_le hl hs;have hm3:m<=3:=by rw[<-hm];exact Lx op
 have ht:¬ ((m:Int)=0):=oM;have hm1:1<=m:=oM;have HL:Hid (PD .i64 w (some ⟨b,o,none⟩) m P l c X/\(∀i,l i<=1048576)/\Es l (m-1)=some n/\(∀i j,AB (X i j))):=⟨hL,hl,hs,hX⟩
 have H0:Hid (D9 op≠0/\D9 op=m):=⟨h0,hm⟩
 have h00:=GU hL 0 oM;rw[Nat.add_zero]at h00;have d0:((m:Int)==0)=false:=sO;clear hL hl hs hX h0 hm;go_enter func118,ntmps118;go_wp2_with(go_at_call 119;refine(Lg op _).mono ?_;rintro e w1 ⟨rfl,hw1⟩;obtain rfl:=hw1.symm;rw[H0.2])
 go_loopw [7,8] (fun nv iv wr=>Yk w l m nv iv wr) (fun _ iv _=>m-(intOf iv).toNat)
 case atStart=>unfold Yk;exact⟨rfl,0,_,gI _,rfl,rfl,rfl⟩
 case round=>
  obtain⟨rfl,j,R,hj,rfl,rfl,hR⟩:=hrel;by_cases hlt:j<m
  .have h1:=GU HL.1 j hlt;have i1:(0:Int)<=(j:Int):=oM;have i2:(j:Int)<(m:Int):=oM;obtain⟨L,hLL⟩:∃L,L=l j:=⟨_,rfl⟩
   have HRN:Hid (rn l (j+1)=if R=1\/L=0 then L else R):=by rw[hR];subst hLL;rfl
   rw[<-hLL]at h1;clear hR hLL;by_cases c1:R=1
   .have HR1:Hid (rn l (j+1)=L):=by rw[HRN.out,if_pos (.inl c1)];exact rfl
    subst c1;exact Zfm
   .have c2:¬ ((R:Int)=1):=oM;by_cases c3:L=0
    .have HR1:Hid (rn l (j+1)=L):=by rw[HRN.out,if_pos (.inr c3)];exact rfl
     subst c3;go_wp2;go_roundw
     case rel=>unfold Yk;exact⟨rfl,j+1,0,oM,gN,rfl,HR1.symm⟩
     case measure=>simp[intOf];omega
    .have HR1:Hid (rn l (j+1)=R):=by rw[HRN.out,if_neg oM];exact rfl
     have c4:¬ ((L:Int)=0):=oM;have d1:((R:Int)==1)=false:=by simp[c2]
     have d2:((L:Int)==0)=false:=sO;exact Zfm
  .have:j=m:=oM;subst this;have hrn:n=R:=by rw[hR];have:=rn_shp HL.2.2.1;rw[show j-1+1=j by omega]at this;exact this.symm
   subst hrn;clear hR;go_wp2
   go_loopw [9] (fun iv wr'=>Yl wr j iv wr') (fun iv _=>j-(intOf iv).toNat)
   case atStart=>unfold Yl;exact⟨rfl,0,gI _,rfl⟩
   case round=>
    obtain⟨rfl,i,hi,rfl⟩:=hrel;by_cases hlt:i<j
    .have h1:=GU HL.1 i hlt;have i1:(0:Int)<=(i:Int):=oM;have i2:(i:Int)<(j:Int):=oM;have hg:=Pc HL.2.2.1 i oM;obtain⟨L,hLL⟩:∃L,L=l i:=⟨_,rfl⟩
     rw[<-hLL]at h1 hg;clear hLL;by_cases c1:L=n
     .subst c1;clear hg;go_wp2;go_roundw
      case rel=>unfold Yl;exact⟨rfl,i+1,oM,gN⟩
      case measure=>simp[intOf];omega
     .have c2:L=1:=oM;have c3:¬ ((n:Int)=0):=oM;have c4:¬ ((1:Int)=(n:Int)):=oM;have d1:((n:Int)==0)=false:=sO;have d2:((1:Int) != (n:Int))=true:=by simp[c4]
      subst c2;clear hg;go_wp2;go_roundw
      case rel=>unfold Yl;exact⟨rfl,i+1,oM,gN⟩
      case measure=>simp[intOf];omega
    .have:i=j:=oM;subst this;obtain⟨G,HG⟩:∃G:Nat->Int,Hid (G=fun t=>Jo op (Gf l X i t 0) (Gf l X i t 1) (Gf l X i t 2)):=⟨_,rfl⟩
     clear h00;rename World=>W0;go_wp2
     go_loopw [10,11] (fun ov iv wr=>Below W0.heap.size W0 wr/\∃ (k:Nat) (v:Value),v=ov/\k<=n/\iv=.int .i64 k/\Hid (wr.ownsRow W0.heap.size 3 1 v k (Jb (fun t=>.int .i64 (G t)) k))) (fun _ iv _=>n-(intOf iv).toNat)
     case atStart=>exact⟨LZ _,0,_,rfl,gI _,rfl,World.ownsRow_nil _ _ _ _⟩
     case round=>
      obtain⟨hb,k,ov,rfl,hk,rfl,hown⟩:=hrel;by_cases hlt:k<n
      .rename World=>W3;have i1:(k:Int)<(n:Int):=oM;obtain⟨E,HE⟩:∃E:Nat->Int,Hid (E=Gf l X i k):=⟨_,rfl⟩
       have HGk:Hid (Jo op (E 0) (E 1) (E 2)=G k/\AB (E 0)/\AB (E 1)/\AB (E 2)):=by
        have e1:=HE.out;have e2:=HG.out;have hXX:=HL.2.2.2;subst e1;subst e2;exact⟨rfl,CR hXX _ _ _,CR hXX _ _ _,CR hXX _ _ _⟩
       have HT:Hid ((W3.alloc (.cells #[.int .i64 0,.int .i64 0,.int .i64 0] 189)).rowIs W3.heap.size 189 3 (fun _=>.int .i64 0)):=row3 W3 _;go_wp2
       go_loopw [13] (fun iv wr=>Below W3.heap.size W3 wr/\∃j:Nat,j<=i/\iv=.int .i64 j/\Hid (wr.rowIs W3.heap.size 189 3 (fun t=>.int .i64 (if t<j then E t else 0)))) (fun iv _=>i-(intOf iv).toNat)
       case atStart=>exact⟨Qt W3 _,0,gI _,rfl,HT.congr fun t ht=>by simp⟩
       case round=>
        obtain⟨hb4,j,hj,rfl,hrow⟩:=hrel;clear HT;by_cases hlt4:j<i
        .have hL4:=HL.1.below (JZ hb hb4);have h1:=GU hL4 j hlt4;have HPJ:Hid (Bh wr (P j) (l j) (fun t=>.int .i64 (X j t))/\(l j=1\/k<l j)/\X j (if l j=1 then 0 else k)=E j/\l j<=1048576):=⟨hL4.parts j hlt4,Ut HL.2.2.1 oM hlt,by rw[HE.out];unfold Gf;rw[if_pos hlt4],HL.2.1 j⟩
         have c1:=hrow.cell (i:=j) oM;have f1:=hrow.frozen j;have i2:(0:Int)<=(j:Int):=oM;have i3:(j:Int)<(i:Int):=oM;have i4:(j:Int)<3:=oM;have j3:j<3:=oM;have HR:Hid (∀x,(wr.setCell ⟨W3.heap.size,j,none⟩ x).rowIs W3.heap.size 189 3 (fun t=>if t=j then x else .int .i64 (if t<j then E t else 0))):=fun x=>hrow.set j x;clear hL4;go_wp2_with(go_at_call 127;refine(ZD _ _ _ k (X j) HPJ.2.2.2 oM HPJ.2.1 wr HPJ.1).mono ?_;rintro e w5 ⟨rfl,hw5⟩;obtain rfl:=hw5.symm;rw[HPJ.2.2.1]);go_roundw
         case rel=>exact⟨hb4.setCell (gF _) _,j+1,oM,gN,(HR.out _).congr fun t ht=>rel_el E j t⟩
         case measure=>simp[intOf];omega
        .have:j=i:=oM;subst this;have e0:∀t,t<3->(if t<j then E t else 0)=E t:=by
          intro t ht;by_cases q:t<j
          .rw[if_pos q]
          .rw[if_neg q,HE.out];unfold Gf;rw[if_neg q]
         have r1:=hrow.congr (g:=fun t=>.int .i64 (E t)) (fun t ht=>by rw[e0 t ht]);have c0:=r1.cell (i:=0) oM;have c1:=r1.cell (i:=1) oM;have c2:=r1.cell (i:=2) oM;clear r1 e0 hrow;go_wp2_with(first
          |(go_at_call 128;refine(ZG op H0.1 (E 0) (E 1) (E 2) HGk.2.1 HGk.2.2.1 HGk.2.2.2 wr).mono ?_;rintro e w6 ⟨rfl,hb6⟩;rw[HGk.1];have hown6:Hid (w6.ownsRow W0.heap.size 3 1 ov k (Jb (fun t=>.int .i64 (G t)) k)):=QG hown.out (JZ hb4 hb6);have hob:Hid (∀j,ov.ownBlock=some j->W0.heap.size<=j/\j<W3.heap.size):=hown.lt;have HB6:Below W0.heap.size W0 w6:=JZ (JZ hb hb4) hb6;have sz:=HB6.size)
          |(at_builtin;refine wpList_append_own _ rfl _ _ 87 rfl W0.heap.size 3 i0 _ 1 8 underlying87 hi0 hz0 hz1 hz2 rfl dE ov k (Jb (fun t=>.int .i64 (G t)) k) rfl (hown6.alloc _) ⟨w6.heap.size,0,none⟩ 1 1 [.int .i64 (G k)] rfl rfl (World.news_of_block (cs:=#[.int .i64 (G k)]) (t:=3) (fr:=(0,0)) (heap_alloc_new w6 _)) PG mL oM sO ?_;intro v' w7 hown7 hgrow hnil;have HB7:Below W0.heap.size W0 w7:=Below.grown (HB6.alloc sz _) hgrow sO (fun j e=>(hob.out j e).1);have HO:Hid (w7.ownsRow W0.heap.size 3 1 v' (k+1) (Jb (fun t=>.int .i64 (G t)) k++[.int .i64 (G k)])):=hown7;clear hown7 hgrow hnil))
         go_roundw
         case rel=>exact⟨HB7,k+1,_,rfl,oM,gN,by rw[MR];exact HO⟩
         case measure=>simp[intOf];omega
      .have:k=n:=oM;subst this;obtain⟨q,cap,rfl,hR,hg,-⟩:=Mu hown.out;have HR:Hid (Bh wr q k (fun t=>.int .i64 (G t))):=hR;have HLO:Hid (∀b o s,q=some ⟨b,o,s⟩->W0.heap.size<=b):=hg;clear hR hg hown;go_wp2;go_returns;have e2:=HG.out;subst e2;first|exact⟨_,_,rfl,HR.out,hb,HLO.out⟩|exact⟨_,⟨_,rfl⟩,HR.out,hb,HLO.out⟩
end Go.Proofs.YtpoklpdgpcnkgaaGreat
