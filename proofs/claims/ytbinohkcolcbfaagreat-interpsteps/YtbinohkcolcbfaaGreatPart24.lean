import Derived.Test.YtbinohkcolcbfaaGreatPart1
import Derived.Test.YtbinohkcolcbfaaGreatPart23
import Derived.Test.YtbinohkcolcbfaaGreatPart16
import Derived.Test.YtbinohkcolcbfaaGreatPart19
import Derived.Test.YtbinohkcolcbfaaGreatPart15
namespace Go.Proofs.YtbinohkcolcbfaaGreat
open Go.RowKit Go.Proofs.Tryz
set_option linter.unusedVariables false
set_option linter.unusedSimpArgs false
set_option maxRecDepth 100000
set_option maxHeartbeats 16000000
theorem Zaqk{T:Nat->Prop}{B:Nat}(w:World)(R:Nat)(a:Lay)(X:Nat->Value)(c:Cd)(l:List Hd)(h:Zip T B w R a X c l)(hg:Good c)(n:Nat)(hn:n<l.length):
 Calls prog 14 #[.pointer (some ⟨R,0,none⟩),.int .i64 n] w fun e w'=>∃p d,e=.returned (.tuple #[.slice p (l[n]).pats.length d,.int .i64 (l[n]).whole,.int .i64 0])/\Pt (fun b=>b<w.heap.size) w' (.slice p (l[n]).pats.length d) (l[n]).pats/\Below w.heap.size w w'/\w'.ownsRow w.heap.size 43 1 (.slice p (l[n]).pats.length d) (l[n]).pats.length (flat ptC (l[n]).pats):=by
 have hnc:n<c.slots.length:=by rw[←h.len];exact hn
 have r1:w.cell? ⟨R,1,none⟩=some (.slice a.sp c.slots.length a.sc):=h.run.at 1 rfl;have hsp:a.sp=some ⟨a.S,0,none⟩:=by
  rcases h.slots.sp with e|e
  ·rw[e]at hn;exact absurd hn (Nat.not_lt_zero _)
  ·exact e
 rw[hsp]at r1;have s1:=h.slots.row.cell (i:=2*n) Zgk;have s2:=h.slots.row.cell (i:=2*n+1) Zgk;rw[h.slots.whole n hn]at s2;have hp:=h.slots.pats n hn;have hw:=(h.ok n hnc hn).1;have hwd:=hg.width c.slots[n].ty;obtain⟨q,cap,hq⟩:=hp.len;have KC:=hidM (fun(v:World) (hv:Below w.heap.size w v)=>clone_F (X (2*n)) l[n].pats v (hp.row.below hv) oM);rw[hq]at s1 KC;rw[Nat.mul_comm 2 n]at s1 s2;have hN:=hg.slotsL;obtain⟨Sb,hSb⟩:∃Sb,a.S=Sb:=⟨_,rfl⟩
 obtain⟨N,hN'⟩:∃N,c.slots.length=N:=⟨_,rfl⟩
 obtain⟨sc,hsc⟩:∃sc,a.sc=sc:=⟨_,rfl⟩
 obtain⟨pt,hpt⟩:∃pt,l[n].pats=pt:=⟨_,rfl⟩
 obtain⟨wh,hwh⟩:∃wh,l[n].whole=wh:=⟨_,rfl⟩
 rw[hpt]at KC s1;rw[hwh]at s2;rw[hpt,hwh];obtain⟨L,hL⟩:∃L,pt.length=L:=⟨_,rfl⟩
 simp only[hSb,hN',hsc,hL]at r1 s1 s2 hN hnc KC ⊢;have e1:¬ ((n:Int)<0):=oM;have e2:¬ ((N:Int)<=(n:Int)):=oM;have e3:(n:Int)<(N:Int):=oM;clear h hg hsp hp hw hwd hq hSb hN' hsc hpt hwh hL hn;go_enter func14,ntmps14;go_wp2;refine rG (fun v=>v.cell? ⟨R,1,none⟩=some (.slice (some ⟨Sb,0,none⟩) N sc)/\v.cell? ⟨Sb,n*2,none⟩=some (.slice q L cap)/\v.cell? ⟨Sb,n*2+1,none⟩=some (.int .i64 wh)) fun hHeld=>?_;refine Tf 0 1 2 3 4 5 ?_;refine Tf 6 7 9 10 11 12 ?_;refine Tc 13 14 15 ?_;refine tkT 16 ?_;clear hHeld;refine ry1 8 fun K hK=>?_;go_simp;(go_at_call 30;refine(KC.out _ (Zht _)).mono ?_;rintro e w1 ⟨p,d,rfl,hr,ho1,hb1⟩;have HB1:=bel (Zht _) hb1;have HR:=hidM hr;have HO1:=hidM ho1;clear ho1;have z1:=kc HB1 r1;have z2:=kc HB1 s1;have z3:=kc HB1 s2;clear hb1 hr);try(go_wp2_with fail)
 refine okK hK fun hHeld=>?_;clear hK K;refine Tc 17 18 19 ?_;refine wpAnyH_done kR ?_ _;go_wp2;go_returns;exact⟨p,d,rfl,HR.out,HB1,HO1.out⟩
theorem Zaan{T:Nat->Prop}{B:Nat}(w:World)(R:Nat)(a:Lay)(X:Nat->Value)(c:Cd)(l:List Hd)(h:Zip T B w R a X c l)(hg:Good c)(n:Nat)(hn:n<l.length):
 Calls prog 14 #[.pointer (some ⟨R,0,none⟩),.int .i64 n] w fun e w'=>∃p d,e=.returned (.tuple #[.slice p (l[n]).pats.length d,.int .i64 (l[n]).whole,.int .i64 0])/\Pt (fun b=>b<w.heap.size) w' (.slice p (l[n]).pats.length d) (l[n]).pats/\Below w.heap.size w w':=
 (Zaqk w R a X c l h hg n hn).mono fun _ _ ⟨p,d,h1,h2,h3,_⟩=>⟨p,d,h1,h2,h3⟩
theorem VsT.cellsOf{T:Nat->Prop}{w:World}{v:Value}{L:List (List Int)}(h:VsT T w v L):∃p c,v=.slice p L.length c/\∀i (hi:i<L.length),∃b o q d,p=some ⟨b,o,none⟩/\w.cell? ⟨b,o+i,none⟩=some (.slice q (L[i]).length d)/\Zio w q (L[i]).length (fun j=>.int .u32 (atL L[i] j)):=by
 obtain⟨p,c,hv,hh⟩:=h;refine⟨p,c,hv,fun i hi=>?_⟩;rcases hh with e|⟨b,o,hp,_,_,hh⟩
 ·rw[e]at hi;exact absurd hi (Nat.not_lt_zero _)
 ·obtain⟨u,h1,h2⟩:=hh i hi;obtain⟨q,d,hq⟩:=h2.len;rw[hq]at h1 h2;exact⟨b,o,q,d,hp,h1,h2.reads.2⟩
theorem Zvh{T T':Nat->Prop}(w:World)(u v:Value)(L:List (List Int))(hu:VsT T w u L)(hv:VsT T' w v L)(hL:L.length<=1048576)(hl:∀l∈L,l.length<=1048576):
 Calls prog 12 #[u,v] w fun e w'=>e=.returned (.bool true)/\Below w.heap.size w w':=by
 obtain⟨p,c,rfl,hcu⟩:=hu.cellsOf;obtain⟨p',c',rfl,hcv⟩:=hv.cellsOf;obtain⟨N,hN⟩:∃N,L.length=N:=⟨_,rfl⟩
 rw[hN]at hL ⊢;have HCU:Hid (∀i (hi:i<L.length),∃b o q d,p=some ⟨b,o,none⟩/\w.cell? ⟨b,o+i,none⟩=some (.slice q (L[i]).length d)/\Zio w q (L[i]).length (fun j=>.int .u32 (atL L[i] j))):=hcu;have HCV:Hid (∀i (hi:i<L.length),∃b o q d,p'=some ⟨b,o,none⟩/\w.cell? ⟨b,o+i,none⟩=some (.slice q (L[i]).length d)/\Zio w q (L[i]).length (fun j=>.int .u32 (atL L[i] j))):=hcv;have HN:Hid (L.length=N/\∀l∈L,l.length<=1048576):=⟨hN,hl⟩
 clear hu hv hcu hcv hN hl;go_enter func12,ntmps12;go_wp2
 go_loopw [5] (fun iv wr=>∃j:Nat,j<=N/\iv=.int .i64 j/\Hid (Below w.heap.size w wr)) (fun iv _=>N-(intOf iv).toNat)
 case atStart=>exact⟨0,Nat.zero_le _,rfl,bel0 _⟩
 case round=>
  obtain⟨j,hj,rfl,HB⟩:=hrel;by_cases hlt:j<N
  ·have hjL:j<L.length:=by rw[HN.out.1];exact hlt
   obtain⟨b,o,q,d,rfl,h1,h2⟩:=HCU.out j hjL;obtain⟨b',o',q',d',rfl,h1',h2'⟩:=HCV.out j hjL;have hln:=HN.out.2 _ (List.getElem_mem hjL);obtain⟨M,hM⟩:∃M,(L[j]).length=M:=⟨_,rfl⟩
   obtain⟨Y,hY⟩:∃Y,atL L[j]=Y:=⟨_,rfl⟩
   rw[hM]at h1 h2 h1' h2' hln;simp only[hY]at h2 h2';have k1:=kc HB.out h1;have k2:=kc HB.out h1';have HRU:=hidM (h2.below HB.out);have HRV:=hidM (h2'.below HB.out);clear h1 h1' h2 h2' hM hY;go_wp2;refine wp_region_held_drew (S:=(fun x=>x.cell? ⟨b,o+j,none⟩=some (.slice q M d)/\x.cell? ⟨b',o'+j,none⟩=some (.slice q' M d'))) kR ?_ (fun hHeld=>?_)
   ·((try dsimp only);go_keep)
   refine Tf 0 1 2 3 4 5 ?_;refine Tc 6 7 8 ?_;refine Tb 9 10 ?_;refine wpAnyH_done kR ?_ _;go_wp2;rename World=>W0
   go_loopw [6] (fun iv wr2=>∃k:Nat,k<=M/\iv=.int .i64 k/\Hid (Below W0.heap.size W0 wr2)) (fun iv _=>M-(intOf iv).toNat)
   case atStart=>exact⟨0,Nat.zero_le _,rfl,Zht _⟩
   case round=>
    obtain⟨k,hk,rfl,HB2⟩:=hrel;have m1:=kc HB2.out k1;have m2:=kc HB2.out k2;by_cases hlt2:k<M
    ·rcases HRU.out with e|⟨ub,uo,hue,hur⟩
     ·omega
     rcases HRV.out with e|⟨vb,vo,hve,hvr⟩
     ·omega
     have n1:=kc HB2.out (hur k hlt2);have n2:=kc HB2.out (hvr k hlt2);subst hue hve;clear hur hvr HRU HRV;go_wp2;refine wp_region_held_drew (S:=(fun x=>x.cell? ⟨b,o+j,none⟩=some (.slice (some ⟨ub,uo,none⟩) M d)/\x.cell? ⟨b',o'+j,none⟩=some (.slice (some ⟨vb,vo,none⟩) M d')/\x.cell? ⟨ub,uo+k,none⟩=some (.int .u32 (Y k))/\x.cell? ⟨vb,vo+k,none⟩=some (.int .u32 (Y k)))) kR ?_ (fun hHeld=>?_)
     ·((try dsimp only);go_keep)
     refine Tf 0 1 2 3 4 5 ?_;refine Tf 6 7 8 9 10 11 ?_;refine Tc 12 13 14 ?_;refine wpAnyH_done kR ?_ _;go_wp2;go_roundw
     case rel=>exact⟨k+1,oM,gN,bel HB2.out (Zht _)⟩
     case measure=>simp[intOf];omega
    ·go_wp2;go_roundw
     case rel=>exact⟨j+1,oM,gN,bel HB.out HB2.out⟩
     case measure=>simp[intOf];omega
  ·go_wp2;go_ret;exact⟨rfl,HB.out⟩

def sl:Nat->Nat:=fun i=>if i=0 then 2 else 1
def rn(l:Nat->Nat):Nat->Nat
 |0=>l 0
 |j+1=>if rn l j=1\/l j=0 then l j else rn l j
theorem rn_shp{l:Nat->Nat}:∀ {M n:Nat},shpV l M=some n->rn l (M+1)=n:=by
 intro M;induction M with
 |zero=>intro n h;cases h;show(if l 0=1\/l 0=0 then l 0 else l 0)=l 0;split<;>rfl
 |succ M ih=>
  intro n h;cases e:shpV l M with
  |none=>rw[Zqu e (M+1) oM]at h;cases h
  |some k=>
   rw[Zqm e]at h;have hk:=ih e;show(if rn l (M+1)=1\/l (M+1)=0 then l (M+1)else rn l (M+1))=n;rw[hk];split at h
   ·cases h;split<;>omega
   ·split at h
    ·cases h
    ·split at h
     ·cases h;rw[if_pos oM]
     ·split at h
      ·cases h;rw[if_neg oM]
      ·cases h
theorem Zarz(w:World):Calls prog 121 #[.int .i64 3] w fun e w'=>e=.returned (.int .i64 1)/\w'=w:=by
 exact Zbk
theorem Zala(w:World):Calls prog 121 #[.int .i64 11] w fun e w'=>e=.returned (.int .i64 1)/\w'=w:=by
 exact Zbk
theorem Zakf(w:World):Calls prog 121 #[.int .i64 12] w fun e w'=>e=.returned (.int .i64 1)/\w'=w:=by
 exact Zbk
theorem Zaki(w:World):Calls prog 121 #[.int .i64 13] w fun e w'=>e=.returned (.int .i64 1)/\w'=w:=by
 exact Zbk
theorem Zamt(w:World):Calls prog 121 #[.int .i64 14] w fun e w'=>e=.returned (.int .i64 1)/\w'=w:=by
 exact Zbk
theorem Zapj(w:World):Calls prog 121 #[.int .i64 4] w fun e w'=>e=.returned (.int .i64 2)/\w'=w:=by
 exact Zbk
theorem Zaqw(w:World):Calls prog 121 #[.int .i64 5] w fun e w'=>e=.returned (.int .i64 2)/\w'=w:=by
 exact Zbk
theorem Zaqg(w:World):Calls prog 121 #[.int .i64 6] w fun e w'=>e=.returned (.int .i64 2)/\w'=w:=by
 exact Zbk
theorem Zapa(w:World):Calls prog 121 #[.int .i64 7] w fun e w'=>e=.returned (.int .i64 2)/\w'=w:=by
 exact Zbk
theorem Zaop(w:World):Calls prog 121 #[.int .i64 8] w fun e w'=>e=.returned (.int .i64 2)/\w'=w:=by
 exact Zbk
theorem Zanp(w:World):Calls prog 121 #[.int .i64 9] w fun e w'=>e=.returned (.int .i64 2)/\w'=w:=by
 exact Zbk
theorem Zamo(w:World):Calls prog 121 #[.int .i64 10] w fun e w'=>e=.returned (.int .i64 2)/\w'=w:=by
 exact Zbk
theorem Zakz(w:World):Calls prog 121 #[.int .i64 15] w fun e w'=>e=.returned (.int .i64 3)/\w'=w:=by
 exact Zbk
theorem Zams(op:Int)(h:Zjq op=0)(w:World):Calls prog 121 #[.int .i64 op] w fun e w'=>e=.returned (.int .i64 0)/\w'=w:=by
 have n1:¬ (op=3\/op=11\/op=12\/op=13\/op=14):=fun c=>by unfold Zjq at h;rw[if_pos c]at h;cases h
 have n2:¬ (op=4\/op=5\/op=6\/op=7\/op=8\/op=9\/op=10):=fun c=>by unfold Zjq at h;rw[if_neg n1,if_pos c]at h;cases h
 have n3:¬ (op=15):=fun c=>by unfold Zjq at h;rw[if_neg n1,if_neg n2,if_pos c]at h;cases h
 simp only[not_or]at n1 n2;obtain⟨a1,a2,a3,a4,a5⟩:=n1;obtain⟨b1,b2,b3,b4,b5,b6,b7⟩:=n2;clear h;exact Zbk
theorem Zwg(op:Int)(w:World):Calls prog 121 #[.int .i64 op] w fun e w'=>e=.returned (.int .i64 (Zjq op:Nat))/\w'=w:=by
 by_cases h:Zjq op=0
 ·rw[h];exact Zams op h w
 ·rcases Zrm op h with rfl|rfl|rfl|rfl|rfl|rfl|rfl|rfl|rfl|rfl|rfl|rfl|rfl
  ·exact Zarz w
  ·exact Zala w
  ·exact Zakf w
  ·exact Zaki w
  ·exact Zamt w
  ·exact Zapj w
  ·exact Zaqw w
  ·exact Zaqg w
  ·exact Zapa w
  ·exact Zaop w
  ·exact Zanp w
  ·exact Zamo w
  ·exact Zakz w
theorem Zyj(b:Bool)(w:World):Calls prog 181 #[.bool b] w fun e w'=>e=.returned (.int .i64 (flag b))/\w'=w:=by
 cases b<;>(go_enter func181,ntmps181;go_wp2;go_ret;exact⟨rfl,rfl⟩)
theorem rdo_3(a b c:Int)(ha:IsP a)(hb:IsP b)(hc:IsP c)(w:World):Calls prog 150 #[.int .i64 3,.int .i64 a,.int .i64 b,.int .i64 c] w fun e w'=>e=.returned (.int .i64 (opf 3 a b c))/\Below w.heap.size w w':=by
 go_enter func150,ntmps150;go_wp2_with(first|(go_at_call 68;refine(Zpt _ ha.1 ha.2 _).mono ?_;rintro e w1 ⟨rfl,hw1⟩;obtain rfl:=hw1.symm));go_ret;exact⟨rfl,Zkp _⟩
theorem rdo_11(a b c:Int)(ha:IsP a)(hb:IsP b)(hc:IsP c)(w:World):Calls prog 150 #[.int .i64 11,.int .i64 a,.int .i64 b,.int .i64 c] w fun e w'=>e=.returned (.int .i64 (opf 11 a b c))/\Below w.heap.size w w':=by
 go_enter func150,ntmps150;go_wp2_with(first|(go_at_call 178;refine(Zajr _ ha.1 ha.2 _).mono ?_;rintro e w1 ⟨rfl,hb1⟩));go_ret;exact⟨rfl,hb1⟩
theorem rdo_12(a b c:Int)(ha:IsP a)(hb:IsP b)(hc:IsP c)(w:World):Calls prog 150 #[.int .i64 12,.int .i64 a,.int .i64 b,.int .i64 c] w fun e w'=>e=.returned (.int .i64 (opf 12 a b c))/\Below w.heap.size w w':=by
 go_enter func150,ntmps150;go_wp2_with(first|(go_at_call 179;refine(Zaar _ ha.1 ha.2 _).mono ?_;rintro e w1 ⟨rfl,hb1⟩));go_ret;exact⟨rfl,hb1⟩
theorem rdo_13(a b c:Int)(ha:IsP a)(hb:IsP b)(hc:IsP c)(w:World):Calls prog 150 #[.int .i64 13,.int .i64 a,.int .i64 b,.int .i64 c] w fun e w'=>e=.returned (.int .i64 (opf 13 a b c))/\Below w.heap.size w w':=by
 go_enter func150,ntmps150;go_wp2_with(first|(go_at_call 180;refine(Zaqi _ ha.1 ha.2 _).mono ?_;rintro e w1 ⟨rfl,hb1⟩));go_ret;exact⟨rfl,hb1⟩
theorem rdo_14(a b c:Int)(ha:IsP a)(hb:IsP b)(hc:IsP c)(w:World):Calls prog 150 #[.int .i64 14,.int .i64 a,.int .i64 b,.int .i64 c] w fun e w'=>e=.returned (.int .i64 (opf 14 a b c))/\Below w.heap.size w w':=by
 go_enter func150,ntmps150;go_wp2_with(first|(go_at_call 182;refine(Zakb _ ha _).mono ?_;rintro e w1 ⟨rfl,hw1⟩;obtain rfl:=hw1.symm)|(go_at_call 181;refine(Zyj _ _).mono ?_;rintro e w1 ⟨rfl,hw1⟩;obtain rfl:=hw1.symm));go_ret;exact⟨rfl,Zkp _⟩
theorem rdo_4(a b c:Int)(ha:IsP a)(hb:IsP b)(hc:IsP c)(w:World):Calls prog 150 #[.int .i64 4,.int .i64 a,.int .i64 b,.int .i64 c] w fun e w'=>e=.returned (.int .i64 (opf 4 a b c))/\Below w.heap.size w w':=by
 go_enter func150,ntmps150;go_wp2_with(first|(go_at_call 125;refine(Zvf _ ha.1 ha.2 _ hb.1 hb.2 _).mono ?_;rintro e w1 ⟨rfl,hb1⟩));go_ret;exact⟨rfl,hb1⟩
theorem rdo_5(a b c:Int)(ha:IsP a)(hb:IsP b)(hc:IsP c)(w:World):Calls prog 150 #[.int .i64 5,.int .i64 a,.int .i64 b,.int .i64 c] w fun e w'=>e=.returned (.int .i64 (opf 5 a b c))/\Below w.heap.size w w':=by
 go_enter func150,ntmps150;go_wp2_with(first|(go_at_call 183;refine(Zaql _ ha.1 ha.2 _ hb.1 hb.2 _).mono ?_;rintro e w1 ⟨rfl,hb1⟩));go_ret;exact⟨rfl,hb1⟩
theorem rdo_6(a b c:Int)(ha:IsP a)(hb:IsP b)(hc:IsP c)(w:World):Calls prog 150 #[.int .i64 6,.int .i64 a,.int .i64 b,.int .i64 c] w fun e w'=>e=.returned (.int .i64 (opf 6 a b c))/\Below w.heap.size w w':=by
 go_enter func150,ntmps150;go_wp2_with(first|(go_at_call 123;refine(Zva _ ha.1 ha.2 _ hb.1 hb.2 _).mono ?_;rintro e w1 ⟨rfl,hb1⟩));go_ret;exact⟨rfl,hb1⟩
theorem rdo_7(a b c:Int)(ha:IsP a)(hb:IsP b)(hc:IsP c)(w:World):Calls prog 150 #[.int .i64 7,.int .i64 a,.int .i64 b,.int .i64 c] w fun e w'=>e=.returned (.int .i64 (opf 7 a b c))/\Below w.heap.size w w':=by
 go_enter func150,ntmps150;go_wp2_with(first|(go_at_call 184;refine(Zarg _ ha.1 ha.2 _ hb.1 hb.2 _).mono ?_;rintro e w1 ⟨rfl,hb1⟩));go_ret;exact⟨rfl,hb1⟩
theorem rdo_8(a b c:Int)(ha:IsP a)(hb:IsP b)(hc:IsP c)(w:World):Calls prog 150 #[.int .i64 8,.int .i64 a,.int .i64 b,.int .i64 c] w fun e w'=>e=.returned (.int .i64 (opf 8 a b c))/\Below w.heap.size w w':=by
 go_enter func150,ntmps150;go_wp2_with(first|(go_at_call 126;refine(Zaam _ ha.1 ha.2 _ hb.1 hb.2 _).mono ?_;rintro e w1 ⟨rfl,hb1⟩));go_ret;exact⟨rfl,hb1⟩
theorem rdo_9(a b c:Int)(ha:IsP a)(hb:IsP b)(hc:IsP c)(w:World):Calls prog 150 #[.int .i64 9,.int .i64 a,.int .i64 b,.int .i64 c] w fun e w'=>e=.returned (.int .i64 (opf 9 a b c))/\Below w.heap.size w w':=by
 go_enter func150,ntmps150;go_wp2_with(first|(go_at_call 185;refine(Zarc _ ha.1 ha.2 _ hb.1 hb.2 _).mono ?_;rintro e w1 ⟨rfl,hb1⟩));go_ret;exact⟨rfl,hb1⟩
theorem rdo_10(a b c:Int)(ha:IsP a)(hb:IsP b)(hc:IsP c)(w:World):Calls prog 150 #[.int .i64 10,.int .i64 a,.int .i64 b,.int .i64 c] w fun e w'=>e=.returned (.int .i64 (opf 10 a b c))/\Below w.heap.size w w':=by
 go_enter func150,ntmps150;go_wp2_with(first|(go_at_call 186;refine(Zalq _ ha.1 ha.2 _ hb.1 hb.2 _).mono ?_;rintro e w1 ⟨rfl,hb1⟩)|(go_at_call 181;refine(Zyj _ _).mono ?_;rintro e w2 ⟨rfl,hw2⟩;obtain rfl:=hw2.symm));go_ret;exact⟨rfl,hb1⟩
theorem rdo_15(a b c:Int)(ha:IsP a)(hb:IsP b)(hc:IsP c)(w:World):Calls prog 150 #[.int .i64 15,.int .i64 a,.int .i64 b,.int .i64 c] w fun e w'=>e=.returned (.int .i64 (opf 15 a b c))/\Below w.heap.size w w':=by
 go_enter func150,ntmps150;go_wp2_with(first|(go_at_call 187;refine(Zadn _ ha.1 ha.2 _ hb.1 hb.2 _ hc.1 hc.2 _).mono ?_;rintro e w1 ⟨rfl,hb1⟩));go_ret;exact⟨rfl,hb1⟩
theorem rdo_any(op:Int)(h:Zjq op≠0)(a b c:Int)(ha:IsP a)(hb:IsP b)(hc:IsP c)(w:World):Calls prog 150 #[.int .i64 op,.int .i64 a,.int .i64 b,.int .i64 c] w fun e w'=>e=.returned (.int .i64 (opf op a b c))/\Below w.heap.size w w':=by
 rcases Zrm op h with rfl|rfl|rfl|rfl|rfl|rfl|rfl|rfl|rfl|rfl|rfl|rfl|rfl
 ·exact rdo_3 a b c ha hb hc w
 ·exact rdo_11 a b c ha hb hc w
 ·exact rdo_12 a b c ha hb hc w
 ·exact rdo_13 a b c ha hb hc w
 ·exact rdo_14 a b c ha hb hc w
 ·exact rdo_4 a b c ha hb hc w
 ·exact rdo_5 a b c ha hb hc w
 ·exact rdo_6 a b c ha hb hc w
 ·exact rdo_7 a b c ha hb hc w
 ·exact rdo_8 a b c ha hb hc w
 ·exact rdo_9 a b c ha hb hc w
 ·exact rdo_10 a b c ha hb hc w
 ·exact rdo_15 a b c ha hb hc w
theorem rat_any(p:Option Addr)(n c i:Nat)(X:Nat->Int)(hn:n<=1048576)(hi:i<=1048576)(h:n=1\/i<n)(w:World)(hp:Zio w p n (fun j=>.int .i64 (X j))):
 Calls prog 149 #[.slice p n c,.int .i64 i] w fun e w'=>e=.returned (.int .i64 (X (if n=1 then 0 else i)))/\w'=w:=by
 rcases hp with hp|⟨b,o,rfl,hp⟩
 ·omega
 by_cases h1:n=1
 ·subst h1;have c1:=hp 0 oM;rw[Nat.add_zero]at c1;rw[if_pos rfl];clear hp h;go_enter func149,ntmps149;go_wp2;go_ret;exact⟨rfl,rfl⟩
 ·have c1:=hp i oM;have n1:¬ ((n:Int)=1):=oM;have i1:(0:Int)<=(i:Int):=oM;have i2:(i:Int)<(n:Int):=oM;rw[if_neg h1];clear hp h;go_enter func149,ntmps149;go_wp2;go_ret;exact⟨rfl,rfl⟩
def Rel1(w:World)(l:Nat->Nat)(m:Nat)(nv iv:Value)(wr:World):Prop:=wr=w/\∃j R:Nat,j<=m/\iv=.int .i64 j/\nv=.int .i64 R/\R=rn l j
def Rel2(w:World)(m:Nat)(iv:Value)(wr:World):Prop:=wr=w/\∃i:Nat,i<=m/\iv=.int .i64 i
theorem rel_el(F:Nat->Int)(j k:Nat):(if k=j then Value.int .i64 (F j)else .int .i64 (if k<j then F k else 0))=.int .i64 (if k<j+1 then F k else 0):=by
 exact Zez
theorem row3(w:World)(t:TypeId):(w.alloc (.cells #[.int .i64 0,.int .i64 0,.int .i64 0] t)).rowIs w.heap.size t 3 (fun _=>.int .i64 0):=
 World.rowIs_alloc w #[.int .i64 0,.int .i64 0,.int .i64 0] t (fun _=>.int .i64 0) (by
  intro i hi;have:i=0\/i=1\/i=2:=by simp at hi;omega
  rcases this with rfl|rfl|rfl<;>rfl)
theorem Zamc(op:Int)(h0:Zjq op≠0)(b o m cq:Nat)(hm:Zjq op=m)(n:Nat)(P:Nat->Option Addr)(l c:Nat->Nat)(X:Nat->Nat->Int)(hX:∀i j,IsP (X i j))(hl:∀i,l i<=1048576)(hs:shpV l (m-1)=some n)(w:World)(hL:Lsts .i64 w (some ⟨b,o,none⟩) m P l c X):
 Calls prog 120 #[.int .i64 op,.slice (some ⟨b,o,none⟩) m cq] w fun e w'=>∃q cap,e=.returned (.tuple #[.slice q n cap,.int .i64 0])/\Zio w' q n (fun i=>.int .i64 (opf op (elAt l X m i 0) (elAt l X m i 1) (elAt l X m i 2)))/\Below w.heap.size w w'/\∀b o s,q=some ⟨b,o,s⟩->w.heap.size<=b:=by
 obtain⟨i0,hi0,hz0,hz1,hz2⟩:=info_parts info_I;have hn:n<=1048576:=shp_le hl hs;have hm3:m<=3:=by rw[←hm];exact Zqq op
 have ht:¬ ((m:Int)=0):=oM;have hm1:1<=m:=oM;have HL:Hid (Lsts .i64 w (some ⟨b,o,none⟩) m P l c X/\(∀i,l i<=1048576)/\shpV l (m-1)=some n/\(∀i j,IsP (X i j))):=⟨hL,hl,hs,hX⟩
 have H0:Hid (Zjq op≠0/\Zjq op=m):=⟨h0,hm⟩
 have h00:=Zpn hL 0 oM;rw[Nat.add_zero]at h00;have d0:((m:Int)==0)=false:=sO;clear hL hl hs hX h0 hm;go_enter func120,ntmps120;go_wp2_with(go_at_call 121;refine(Zwg op _).mono ?_;rintro e w1 ⟨rfl,hw1⟩;obtain rfl:=hw1.symm;rw[H0.out.2])
 go_loopw [7,8] (fun nv iv wr=>Rel1 w l m nv iv wr) (fun _ iv _=>m-(intOf iv).toNat)
 case atStart=>unfold Rel1;exact⟨rfl,0,_,Nat.zero_le _,rfl,rfl,rfl⟩
 case round=>
  obtain⟨rfl,j,R,hj,rfl,rfl,hR⟩:=hrel;by_cases hlt:j<m
  ·have h1:=Zpn HL.out.1 j hlt;have i1:(0:Int)<=(j:Int):=oM;have i2:(j:Int)<(m:Int):=oM;obtain⟨L,hLL⟩:∃L,L=l j:=⟨_,rfl⟩
   have HRN:Hid (rn l (j+1)=if R=1\/L=0 then L else R):=by rw[hR];subst hLL;rfl
   rw[←hLL]at h1;clear hR hLL;by_cases c1:R=1
   ·have HR1:Hid (rn l (j+1)=L):=by rw[HRN.out,if_pos (.inl c1)];exact rfl
    subst c1;exact Zfm
   ·have c2:¬ ((R:Int)=1):=oM;by_cases c3:L=0
    ·have HR1:Hid (rn l (j+1)=L):=by rw[HRN.out,if_pos (.inr c3)];exact rfl
     subst c3;go_wp2;go_roundw
     case rel=>unfold Rel1;exact⟨rfl,j+1,0,oM,gN,rfl,HR1.out.symm⟩
     case measure=>simp[intOf];omega
    ·have HR1:Hid (rn l (j+1)=R):=by rw[HRN.out,if_neg oM];exact rfl
     have c4:¬ ((L:Int)=0):=oM;have d1:((R:Int)==1)=false:=by simp[c2]
     have d2:((L:Int)==0)=false:=sO;exact Zfm
  ·have:j=m:=oM;subst this;have hrn:n=R:=by rw[hR];have:=rn_shp HL.out.2.2.1;rw[show j-1+1=j by omega]at this;exact this.symm
   subst hrn;clear hR;go_wp2
   go_loopw [9] (fun iv wr'=>Rel2 wr j iv wr') (fun iv _=>j-(intOf iv).toNat)
   case atStart=>unfold Rel2;exact⟨rfl,0,Nat.zero_le _,rfl⟩
   case round=>
    obtain⟨rfl,i,hi,rfl⟩:=hrel;by_cases hlt:i<j
    ·have h1:=Zpn HL.out.1 i hlt;have i1:(0:Int)<=(i:Int):=oM;have i2:(i:Int)<(j:Int):=oM;have hg:=Zacj HL.out.2.2.1 i oM;obtain⟨L,hLL⟩:∃L,L=l i:=⟨_,rfl⟩
     rw[←hLL]at h1 hg;clear hLL;by_cases c1:L=n
     ·subst c1;clear hg;go_wp2;go_roundw
      case rel=>unfold Rel2;exact⟨rfl,i+1,oM,gN⟩
      case measure=>simp[intOf];omega
     ·have c2:L=1:=oM;have c3:¬ ((n:Int)=0):=oM;have c4:¬ ((1:Int)=(n:Int)):=oM;have d1:((n:Int)==0)=false:=sO;have d2:((1:Int) != (n:Int))=true:=by simp[c4]
      subst c2;clear hg;go_wp2;go_roundw
      case rel=>unfold Rel2;exact⟨rfl,i+1,oM,gN⟩
      case measure=>simp[intOf];omega
    ·have:i=j:=oM;subst this;obtain⟨G,HG⟩:∃G:Nat->Int,Hid (G=fun t=>opf op (elAt l X i t 0) (elAt l X i t 1) (elAt l X i t 2)):=⟨_,rfl⟩
     clear h00;rename World=>W0;go_wp2
     go_loopw [10,11] (fun ov iv wr=>Below W0.heap.size W0 wr/\∃ (k:Nat) (v:Value),v=ov/\k<=n/\iv=.int .i64 k/\Hid (wr.ownsRow W0.heap.size 3 1 v k (vals (fun t=>.int .i64 (G t)) k))) (fun _ iv _=>n-(intOf iv).toNat)
     case atStart=>exact⟨Zkp _,0,_,rfl,Nat.zero_le _,rfl,World.ownsRow_nil _ _ _ _⟩
     case round=>
      obtain⟨hb,k,ov,rfl,hk,rfl,hown⟩:=hrel;by_cases hlt:k<n
      ·rename World=>W3;have i1:(k:Int)<(n:Int):=oM;obtain⟨E,HE⟩:∃E:Nat->Int,Hid (E=elAt l X i k):=⟨_,rfl⟩
       have HGk:Hid (opf op (E 0) (E 1) (E 2)=G k/\IsP (E 0)/\IsP (E 1)/\IsP (E 2)):=by
        have e1:=HE.out;have e2:=HG.out;have hXX:=HL.out.2.2.2;subst e1;subst e2;exact⟨rfl,Zjr hXX _ _ _,Zjr hXX _ _ _,Zjr hXX _ _ _⟩
       have HT:Hid ((W3.alloc (.cells #[.int .i64 0,.int .i64 0,.int .i64 0] 218)).rowIs W3.heap.size 218 3 (fun _=>.int .i64 0)):=row3 W3 _;go_wp2
       go_loopw [13] (fun iv wr=>Below W3.heap.size W3 wr/\∃j:Nat,j<=i/\iv=.int .i64 j/\Hid (wr.rowIs W3.heap.size 218 3 (fun t=>.int .i64 (if t<j then E t else 0)))) (fun iv _=>i-(intOf iv).toNat)
       case atStart=>exact⟨Zjg W3 _,0,Nat.zero_le _,rfl,HT.out.congr fun t ht=>by simp⟩
       case round=>
        obtain⟨hb4,j,hj,rfl,hrow⟩:=hrel;clear HT;by_cases hlt4:j<i
        ·have hL4:=HL.out.1.below (belV hb hb4);have h1:=Zpn hL4 j hlt4;have HPJ:Hid (Zio wr (P j) (l j) (fun t=>.int .i64 (X j t))/\(l j=1\/k<l j)/\X j (if l j=1 then 0 else k)=E j/\l j<=1048576):=⟨hL4.parts j hlt4,Zyk HL.out.2.2.1 oM hlt,by rw[HE.out];unfold elAt;rw[if_pos hlt4],HL.out.2.1 j⟩
         have c1:=hrow.out.cell (i:=j) oM;have f1:=hrow.out.frozen j;have i2:(0:Int)<=(j:Int):=oM;have i3:(j:Int)<(i:Int):=oM;have i4:(j:Int)<3:=oM;have j3:j<3:=oM;have HR:Hid (∀x,(wr.setCell ⟨W3.heap.size,j,none⟩ x).rowIs W3.heap.size 218 3 (fun t=>if t=j then x else .int .i64 (if t<j then E t else 0))):=fun x=>hrow.out.set j x;clear hL4;go_wp2_with(go_at_call 149;refine(rat_any _ _ _ k (X j) HPJ.out.2.2.2 oM HPJ.out.2.1 wr HPJ.out.1).mono ?_;rintro e w5 ⟨rfl,hw5⟩;obtain rfl:=hw5.symm;rw[HPJ.out.2.2.1]);go_roundw
         case rel=>exact⟨hb4.setCell (Nat.le_refl _) _,j+1,oM,gN,(HR.out _).congr fun t ht=>rel_el E j t⟩
         case measure=>simp[intOf];omega
        ·have:j=i:=oM;subst this;have e0:∀t,t<3->(if t<j then E t else 0)=E t:=by
          intro t ht;by_cases q:t<j
          ·rw[if_pos q]
          ·rw[if_neg q,HE.out];unfold elAt;rw[if_neg q]
         have r1:=hrow.out.congr (g:=fun t=>.int .i64 (E t)) (fun t ht=>by rw[e0 t ht]);have c0:=r1.cell (i:=0) oM;have c1:=r1.cell (i:=1) oM;have c2:=r1.cell (i:=2) oM;clear r1 e0 hrow;go_wp2_with(first
          |(go_at_call 150;refine(rdo_any op H0.out.1 (E 0) (E 1) (E 2) HGk.out.2.1 HGk.out.2.2.1 HGk.out.2.2.2 wr).mono ?_;rintro e w6 ⟨rfl,hb6⟩;rw[HGk.out.1];have hown6:Hid (w6.ownsRow W0.heap.size 3 1 ov k (vals (fun t=>.int .i64 (G t)) k)):=Zahc hown.out (belV hb4 hb6);have hob:Hid (∀j,ov.ownBlock=some j->W0.heap.size<=j/\j<W3.heap.size):=hown.out.lt;have HB6:Below W0.heap.size W0 w6:=belV (belV hb hb4) hb6;have sz:=HB6.size)
          |(at_builtin;refine wpList_append_own _ rfl _ _ 82 rfl W0.heap.size 3 i0 _ 1 8 underlying82 hi0 hz0 hz1 hz2 rfl dE ov k (vals (fun t=>.int .i64 (G t)) k) rfl (hown6.out.alloc _) ⟨w6.heap.size,0,none⟩ 1 1 [.int .i64 (G k)] rfl rfl (World.news_of_block (cs:=#[.int .i64 (G k)]) (t:=3) (fr:=(0,0)) (heap_alloc_new w6 _)) Zfz mL oM sO ?_;intro v' w7 hown7 hgrow hnil;have HB7:Below W0.heap.size W0 w7:=Below.grown (HB6.alloc sz _) hgrow sO (fun j e=>(hob.out j e).1);have HO:Hid (w7.ownsRow W0.heap.size 3 1 v' (k+1) (vals (fun t=>.int .i64 (G t)) k++[.int .i64 (G k)])):=hown7;clear hown7 hgrow hnil))
         go_roundw
         case rel=>exact⟨HB7,k+1,_,rfl,oM,gN,by rw[Zzt];exact HO⟩
         case measure=>simp[intOf];omega
      ·have:k=n:=oM;subst this;obtain⟨q,cap,rfl,hR,hg,-⟩:=Zya hown.out;have HR:Hid (Zio wr q k (fun t=>.int .i64 (G t))):=hR;have HLO:Hid (∀b o s,q=some ⟨b,o,s⟩->W0.heap.size<=b):=hg;clear hR hg hown;go_wp2;go_returns;have e2:=HG.out;subst e2;first|exact⟨_,_,rfl,HR.out,hb,HLO.out⟩|exact⟨_,⟨_,rfl⟩,HR.out,hb,HLO.out⟩
def NumR(w:World)(p:Option Addr)(l:List Int):Prop:=Zio w p l.length (fun j=>.int .i64 (atL l j))
theorem NumR.below{w w':World}{p:Option Addr}{l:List Int}(h:NumR w p l)(k:Below w.heap.size w w'):NumR w' p l:=Zio.below h k
structure Cl where
 p:Option Addr
 q:Nat
 h:Hd
def clC(x:Cl):List Value:=[.slice x.p x.h.pats.length x.q,.int .i64 x.h.whole]
def ouC(x:Cl):List Value:=[.slice x.p x.h.pats.length x.q]
theorem Zry(x:Cl):(clC x).length=2:=rfl
theorem Zug(x:Cl):(ouC x).length=1:=rfl
theorem Zaef:∀x:Cl,∀u∈clC x,u.oneCell'=true:=fun x u hu=>by simp[clC]at hu;rcases hu with rfl|rfl<;>rfl
theorem ouC_one:∀x:Cl,∀u∈ouC x,u.oneCell'=true:=fun x u hu=>by simp[ouC]at hu;subst hu;rfl
structure CsV(w:World)(v:Value)(X:List Cl):Prop where
 row:RowG 2 clC w v X
 nums:∀x∈X,NumR w x.p x.h.pats
theorem CsV.below{w w':World}{v:Value}{X:List Cl}(h:CsV w v X)(k:Below w.heap.size w w'):CsV w' v X:=⟨h.row.below k,fun x hx=>(h.nums x hx).below k⟩
structure OuV(w:World)(v:Value)(X:List Cl):Prop where
 row:RowG 1 ouC w v X
 nums:∀x∈X,NumR w x.p x.h.pats
theorem Ztt:(prog.info? 84).map (fun i=>(i.zero,i.size,i.bytes))=some (some (.agg #[.slice none 0 0,.int .i64 0]),2,32):=kR
theorem Zyz:(prog.info? 82).map (fun i=>(i.zero,i.size,i.bytes))=some (some (.slice none 0 0),1,24):=kR
theorem Ztu{c:Cd}(hg:Good c){k:Nat}(h:k<c.sign.length):(lenOf c (k:Int):Int)=c.sign[k].len:=by
 unfold lenOf;rw[Int.toNat_natCast,List.getElem?_eq_getElem h];have:=(hg.len _ (List.getElem_mem h)).1;simp;omega
theorem Zpy(v0 v1 v2 v3:Value)(c:Cd)(hg:Good c)(t:Ty)(ht:t.kind=3->isPl t.par c.sign.length=true)(w:World)(hv:CdV w v0 v1 v2 v3 c):
 Calls prog 41 #[.agg #[v0,v1,v2,v3],tyV t] w fun e w'=>e=.returned (.int .i64 (if t.kind=3 then(lenOf c t.par:Int)else 1))/\Below w.heap.size w w':=by
 obtain⟨K,P⟩:=t;unfold tyV;simp only at ht ⊢;by_cases h3:K=3
 ·subst h3;obtain⟨k,rfl,hkl⟩:=Zlz (ht rfl);rw[if_pos rfl,Ztu hg hkl];have hr:=hv.sign;obtain⟨p,q,rfl,hrr⟩:=hv.sign;obtain⟨lb,lo,rfl,hc⟩:=hr.at hkl;obtain⟨⟨nm,K,L⟩,hT⟩:∃t:Par,c.sign[k]=t:=⟨_,rfl⟩
  rw[hT]at hc ⊢;have hlen:=hg.signL;have y2:w.cell? ⟨lb,lo+k*3+2,none⟩=some (.int .i64 L):=hc.at 2 rfl;have g2:∀o o',((w.alloc o).alloc o').cell? ⟨lb,lo+k*3+2,none⟩=some (.int .i64 L):=fun o o'=>kc (bel (Zhq _ _) (Zhq _ _)) y2;obtain⟨N,hN⟩:∃N,c.sign.length=N:=⟨_,rfl⟩
  rw[hN]at hkl hlen ⊢;clear hr hrr hc hT hv hN ht;simp only;go_enter func41,ntmps41;go_wp2;go_ret;exact Zcb
 ·rw[if_neg h3];have h3':(K==3)=false:=by simpa using h3
  clear h3 ht;go_enter func41,ntmps41;go_wp2;go_ret;exact Zcb
theorem Zup(b:Bool)(w:World):Calls prog 81 #[.bool b] w fun e w'=>e=.returned (.int .i64 (Zja b))/\w'=w:=by
 cases b
 all_goals
  go_enter func81,ntmps81;go_wp2;go_ret;exact⟨rfl,rfl⟩
def Zmp(V:List Int)(k n len:Nat):List Int:=(List.range len).map fun e=>canon (atL V (k*e+n))
theorem Zze(V:List Int)(k n len:Nat):(Zmp V k n len).length=len:=by simp[Zmp]
theorem Zwk(V:List Int)(k n j:Nat):Zmp V k n (j+1)=Zmp V k n j++[canon (atL V (k*j+n))]:=by simp[Zmp,List.range_succ]
theorem own_num{w:World}{B:Nat}{p:Option Addr}{q:Nat}{l:List Int}(h:w.ownsRow B 3 1 (.slice p l.length q) l.length (i64s l)):NumR w p l:=by
 by_cases h0:l.length=0
 ·exact .inl h0
 ·obtain⟨g,cap,e,_⟩:=h.form oM;simp only[Value.slice.injEq]at e;obtain⟨rfl,-,-⟩:=e;refine .inr ⟨g,0,rfl,fun j hj=>?_⟩;rw[Nat.zero_add,h.cellAt j oM];simp[i64s,atL,hj]
theorem Znt{w:World}{B:Nat}{e:TypeId}{k:Nat}{p:Option Addr}{n m q:Nat}{xs:List Value}(h:w.ownsRow B e k (.slice p n q) m xs):∀b o s,p=some ⟨b,o,s⟩->B<=b:=by
 intro b o s e;subst e;rcases h.2 with⟨e1,-⟩|⟨g,cap,cur,e1,hb,-⟩
 ·simp at e1
 ·simp only[Value.slice.injEq,Option.some.injEq,Addr.mk.injEq]at e1;omega
theorem Zadi(nm:ByteArray)(K:Int)(len:Nat)(hlen:len<=4096)(k:Nat)(hk:k=if K=2 then 2 else 1)(V:List Int)(hV:∀y∈V,IsP y)(p:Option Addr)(q n:Nat)(hn:n<k)(hm:k*len<=V.length)(hVL:V.length<=1048576)(w:World)(hr:Zio w p V.length (fun j=>.int .u32 (atL V j))):
 Calls prog 85 #[.agg #[.string nm,.int .i64 K,.int .i64 (len:Int)],.slice p V.length q,.int .i64 (n:Int)] w fun e w'=>∃p' q',e=.returned (.slice p' len q')/\NumR w' p' (Zmp V k n len)/\Below w.heap.size w w'/\∀b o s,p'=some ⟨b,o,s⟩->w.heap.size<=b:=by
 have HRD:Hid (Zio w p V.length (fun j=>.int .u32 (atL V j))):=hr;have HV:Hid (∀j,IsP (atL V j)):=fun j=>Zke hV j;obtain⟨M,hM⟩:∃M,V.length=M:=⟨_,rfl⟩
 rw[hM]at HRD hVL hm ⊢;have hC:∀v,Below (w.alloc (.cells #[.string nm,.int .i64 K,.int .i64 (len:Int)] 66)).heap.size (w.alloc (.cells #[.string nm,.int .i64 K,.int .i64 (len:Int)] 66)) v->v.cell? ⟨w.heap.size,2,none⟩=some (.int .i64 (len:Int)):=fun v hb=>kc hb sG;have HC:Hid _:=hC;have hk2:((K==2)=true/\k=2)\/((K==2)=false/\k=1):=by
  by_cases h:K=2
  ·exact .inl ⟨by simpa using h,by rw[hk,if_pos h]⟩
  ·exact .inr ⟨by simpa using h,by rw[hk,if_neg h]⟩
 clear hV hr hM hk hC;rcases hk2 with⟨hKb,rfl⟩|⟨hKb,rfl⟩
 ·go_enter func85,ntmps85;go_wp2
  go_loopw [8,9] (fun ov iv wr=>Below (w.alloc (.cells #[.string nm,.int .i64 K,.int .i64 (len:Int)] 66)).heap.size (w.alloc (.cells #[.string nm,.int .i64 K,.int .i64 (len:Int)] 66)) wr/\∃ (j:Nat) (pp:Option Addr) (qq:Nat),j<=len/\iv=.int .i64 (j:Int)/\ov=.slice pp j qq/\Hid (wr.ownsRow (w.alloc (.cells #[.string nm,.int .i64 K,.int .i64 (len:Int)] 66)).heap.size 3 1 (.slice pp j qq) j (i64s (Zmp V 2 n j)))) (fun _ iv _=>len-(intOf iv).toNat)
  case atStart=>exact⟨bel0 _,0,none,0,Nat.zero_le _,rfl,rfl,World.ownsRow_nil _ _ _ 1⟩
  case round=>
   obtain⟨hb,j,pp,qq,hj,rfl,rfl,how⟩:=hrel;have c2:=HC.out wr hb;have HB:Hid (Below (w.alloc (.cells #[.string nm,.int .i64 K,.int .i64 (len:Int)] 66)).heap.size (w.alloc (.cells #[.string nm,.int .i64 K,.int .i64 (len:Int)] 66)) wr):=hb;by_cases hlt:j<len
   ·have hi:2*j+n<M:=oM;rcases HRD.out with h0|⟨b,o,rfl,hcell⟩
    ·omega
    have hc:=hcell (2*j+n) hi;simp only at hc;have y:=kc (bel (Zhq _ _) hb) hc;have hP:=HV.out (2*j+n);have KC:=Zpt (atL V (2*j+n)) hP.1 hP.2;have KA:=fun x=>Zpb (V:=wr) underlying82 Zoq rfl dE how.out hb.size #[.int .i64 x] rfl Zga mL oM 82;obtain⟨g,c',w8,hap,hb8,ho8,-⟩:=KA (canon (atL V (2*j+n)));have HNX:Hid (w8.ownsRow (w.alloc (.cells #[.string nm,.int .i64 K,.int .i64 (len:Int)] 66)).heap.size 3 1 (.slice (some ⟨g,0,none⟩) (j+1) c') (j+1) (i64s (Zmp V 2 n (j+1)))):=by
     show World.ownsRow _ _ _ _ _ _ _;rw[Zwk,Zmc];exact ho8
    have HB8:Hid (Below (w.alloc (.cells #[.string nm,.int .i64 K,.int .i64 (len:Int)] 66)).heap.size wr w8):=hb8;have HAP:Hid _:=hap;have HKC:Hid _:=KC;obtain⟨z,hz⟩:∃z,atL V (2*j+n)=z:=⟨_,rfl⟩
    rw[hz]at y hP HKC HAP;have t0:(j:Int)<(len:Int):=oM;have t1:IntKind.i64.wrap (2*(j:Int))=2*(j:Int):=by rw[IntKind.wrap_i64];omega
    have t2:IntKind.i64.wrap (2*(j:Int)+(n:Int))=((2*j+n:Nat):Int):=by rw[IntKind.wrap_i64];omega
    have t3:(0:Int)<=((2*j+n:Nat):Int):=oM;have t4:((2*j+n:Nat):Int)<(M:Int):=oM;have t5:IntKind.i64.wrap ((j:Int)+1)=((j+1:Nat):Int):=by rw[IntKind.wrap_i64];omega
    have t6:IntKind.i64.wrap z=z:=by rw[IntKind.wrap_i64];have:=hP.1;have:=hP.2;omega
    obtain⟨ix,hix⟩:∃ix,2*j+n=ix:=⟨_,rfl⟩
    exact Zcs
   have hjn:j=len:=oM;have e1:¬ (j:Int)<(len:Int):=oM;have HF:Hid (NumR wr pp (Zmp V 2 n len)):=by
    exact Zdy
   exact Zcn
 ·go_enter func85,ntmps85;go_wp2
  go_loopw [8,9] (fun ov iv wr=>Below (w.alloc (.cells #[.string nm,.int .i64 K,.int .i64 (len:Int)] 66)).heap.size (w.alloc (.cells #[.string nm,.int .i64 K,.int .i64 (len:Int)] 66)) wr/\∃ (j:Nat) (pp:Option Addr) (qq:Nat),j<=len/\iv=.int .i64 (j:Int)/\ov=.slice pp j qq/\Hid (wr.ownsRow (w.alloc (.cells #[.string nm,.int .i64 K,.int .i64 (len:Int)] 66)).heap.size 3 1 (.slice pp j qq) j (i64s (Zmp V 1 n j)))) (fun _ iv _=>len-(intOf iv).toNat)
  case atStart=>exact⟨bel0 _,0,none,0,Nat.zero_le _,rfl,rfl,World.ownsRow_nil _ _ _ 1⟩
  case round=>
   obtain⟨hb,j,pp,qq,hj,rfl,rfl,how⟩:=hrel;have c2:=HC.out wr hb;have HB:Hid (Below (w.alloc (.cells #[.string nm,.int .i64 K,.int .i64 (len:Int)] 66)).heap.size (w.alloc (.cells #[.string nm,.int .i64 K,.int .i64 (len:Int)] 66)) wr):=hb;by_cases hlt:j<len
   ·have hi:j+n<M:=oM;rcases HRD.out with h0|⟨b,o,rfl,hcell⟩
    ·omega
    have hc:=hcell (j+n) hi;simp only at hc;have y:=kc (bel (Zhq _ _) hb) hc;have hP:=HV.out (j+n);have KC:=Zpt (atL V (j+n)) hP.1 hP.2;have KA:=fun x=>Zpb (V:=wr) underlying82 Zoq rfl dE how.out hb.size #[.int .i64 x] rfl Zga mL oM 82;obtain⟨g,c',w8,hap,hb8,ho8,-⟩:=KA (canon (atL V (j+n)));have HNX:Hid (w8.ownsRow (w.alloc (.cells #[.string nm,.int .i64 K,.int .i64 (len:Int)] 66)).heap.size 3 1 (.slice (some ⟨g,0,none⟩) (j+1) c') (j+1) (i64s (Zmp V 1 n (j+1)))):=by
     show World.ownsRow _ _ _ _ _ _ _;rw[Zwk,Nat.one_mul,Zmc];exact ho8
    have HB8:Hid (Below (w.alloc (.cells #[.string nm,.int .i64 K,.int .i64 (len:Int)] 66)).heap.size wr w8):=hb8;have HAP:Hid _:=hap;have HKC:Hid _:=KC;obtain⟨z,hz⟩:∃z,atL V (j+n)=z:=⟨_,rfl⟩
    rw[hz]at y hP HKC HAP;have t0:(j:Int)<(len:Int):=oM;have t1:IntKind.i64.wrap (j:Int)=(j:Int):=by rw[IntKind.wrap_i64];omega
    have t2:IntKind.i64.wrap ((j:Int)+(n:Int))=((j+n:Nat):Int):=by rw[IntKind.wrap_i64];omega
    have t3:(0:Int)<=((j+n:Nat):Int):=oM;have t4:((j+n:Nat):Int)<(M:Int):=oM;have t5:IntKind.i64.wrap ((j:Int)+1)=((j+1:Nat):Int):=by rw[IntKind.wrap_i64];omega
    have t6:IntKind.i64.wrap z=z:=by rw[IntKind.wrap_i64];have:=hP.1;have:=hP.2;omega
    obtain⟨ix,hix⟩:∃ix,j+n=ix:=⟨_,rfl⟩
    exact Zcs
   have hjn:j=len:=oM;have e1:¬ (j:Int)<(len:Int):=oM;have HF:Hid (NumR wr pp (Zmp V 1 n len)):=by
    exact Zdy
   exact Zcn
def Zlt(op a b c:Int):Int:=
 if op=21 then min (a+1) 2147483647
 else if op=22 then Zja (decide (a<b))
 else if op=23 then Zja (a==b)
 else if op=24 then Zja (a != 0&&b != 0)
 else if op=25 then Zja (a==0)
 else if op=26 then(if a=0 then c else b)
 else if op=27 then max (a-b) 0
 else if b=0 then 0 else a/b
theorem Zaho(op a b c:Int)(ho:21<=op/\op<=28)(ha:0<=a/\a<=2147483647)(hb:0<=b/\b<=2147483647)(w:World):
 Calls prog 84 #[.int .i64 op,.int .i64 a,.int .i64 b,.int .i64 c] w fun e w'=>e=.returned (.int .i64 (Zlt op a b c))/\w'=w:=by
 have KF:Hid (∀x v,Calls prog 81 #[.bool x] v fun e w'=>e=.returned (.int .i64 (Zja x))/\w'=v):=Zup;obtain⟨a0,a1⟩:=ha;obtain⟨b0,b1⟩:=hb;have:op=21\/op=22\/op=23\/op=24\/op=25\/op=26\/op=27\/op=28:=oM;rcases this with rfl|rfl|rfl|rfl|rfl|rfl|rfl|rfl
 ·rw[show Zlt 21 a b c=min (a+1) 2147483647 from rfl];have t:IntKind.i64.wrap (a+1)=a+1:=by rw[IntKind.wrap_i64];omega
  exact Zde
 ·rw[show Zlt 22 a b c=Zja (decide (a<b))from rfl];exact Zbv
 ·rw[show Zlt 23 a b c=Zja (a==b)from rfl];exact Zbv
 ·rw[show Zlt 24 a b c=Zja (a != 0&&b != 0)from rfl];cases hz:(a != 0)
  ·rw[Bool.false_and];have hz':(a==0)=true:=by simpa using hz
   exact Zbv
  ·rw[Bool.true_and];have hz':(a==0)=false:=by simpa using hz
   exact Zbv
 ·rw[show Zlt 25 a b c=Zja (a==0)from rfl];exact Zbv
 ·rw[show Zlt 26 a b c=(if a=0 then c else b)from rfl];by_cases hz:a=0
  ·rw[if_pos hz];have hz':(a != 0)=false:=by simpa using hz
   have hz2:(a==0)=true:=by simpa using hz
   clear hz a0 a1;exact Zde
  ·rw[if_neg hz];have hz':(a != 0)=true:=by simpa using hz
   have hz2:(a==0)=false:=by simpa using hz
   clear hz;exact Zde
 ·rw[show Zlt 27 a b c=max (a-b) 0 from rfl];have t:IntKind.i64.wrap (a-b)=a-b:=by rw[IntKind.wrap_i64];omega
  exact Zde
 ·rw[show Zlt 28 a b c=(if b=0 then 0 else a/b)from rfl];by_cases hz:b=0
  ·rw[if_pos hz];have hz2:(b==0)=true:=by simpa using hz
   clear hz b0 b1;exact Zde
  ·rw[if_neg hz];have hz2:(b==0)=false:=by simpa using hz
   have ht:a.tdiv b=a/b:=by rw[Int.tdiv_eq_ediv_of_nonneg a0]
   have hw:IntKind.i64.wrap (a/b)=a/b:=by
    rw[IntKind.wrap_i64];have h1:=Int.ediv_nonneg a0 b0;have h2:=Int.ediv_le_self b a0;omega
   go_enter func84,ntmps84;go_wp2;go_ret;first
    |exact⟨rfl,rfl⟩
    |(refine⟨?_,rfl⟩;simp[ht,hw])
end Go.Proofs.YtbinohkcolcbfaaGreat
