import Derived.Test.YtbinohkcolcbfaaGreatPart1
import Derived.Test.YtbinohkcolcbfaaGreatPart22
set_option maxRecDepth 100000
set_option maxHeartbeats 16000000
namespace Go.Proofs.YtbinohkcolcbfaaGreat
open Go.RowKit Go.Proofs.Tryz
set_option linter.unusedVariables false
set_option linter.unusedSimpArgs false
def frV(C:Nat)(sv nv wv mv gv pv uv:Value):Nat->Value
 |0=>.pointer (some ⟨C,0,none⟩)
 |1=>sv
 |2=>nv
 |3=>wv
 |4=>mv
 |5=>gv
 |6=>pv
 |_=>uv
structure F2(w V:World)(FR NB WB n C:Nat)(sv gv pv:Value):Prop where
 row:V.rowIs FR 94 8 (frV C sv (.slice (some ⟨NB,0,none⟩) n n) (.slice (some ⟨WB,0,none⟩) n n) (.map none) gv pv (.slice none 0 0))
 nb:V.rowIs NB 43 n (fun _=>.int .u32 0)
 wb:V.rowIs WB 3 n (fun _=>.int .i64 0)
 bel:Below w.heap.size w V
 fr:w.heap.size=FR
 size:V.heap.size=FR+3
 n1:FR<NB
 n2:FR<WB
 n3:NB<FR+3
 n4:WB<FR+3
 n5:NB≠WB
section
variable {w W1 : World} {FR n C : Nat} {sv gv pv : Value}
theorem F2_a(hb:Below w.heap.size w W1)(hr:W1.rowIs FR 94 8 (frV C sv (.slice none 0 0) (.slice none 0 0) (.map none) gv pv (.slice none 0 0)))(hs:W1.heap.size=FR+1)(hf:w.heap.size=FR):
 F2 w ((((W1.alloc (.cells (madeCells #[.int .u32 0] n) 43)).alloc (.cells (madeCells #[.int .i64 0] n) 3)).setCell ⟨FR,2,none⟩ (.slice (some ⟨W1.heap.size,0,none⟩) n n)).setCell ⟨FR,3,none⟩ (.slice (some ⟨W1.heap.size+1,0,none⟩) n n)).drew FR W1.heap.size (W1.heap.size+1) n C sv gv pv:=by
 have h1:=World.rowIs_made W1 (.int .u32 0) n 43;have h2:=World.rowIs_made (W1.alloc (.cells (madeCells #[.int .u32 0] n) 43)) (.int .i64 0) n 3;rw[show(W1.alloc (.cells (madeCells #[.int .u32 0] n) 43)).heap.size=W1.heap.size+1 by simp]at h2;refine⟨World.rowIs.drew (((((hr.alloc _).alloc _).set 2 _).set 3 _).congr fun j hj=>?_),World.rowIs.drew (((h1.alloc _).setOther Zgc _).setOther Zgc _),World.rowIs.drew ((h2.setOther Zgh _).setOther Zgh _),?_,hf,by simp[World.setCell];omega,oM,oM,oM,oM,oM⟩
 ·exact Zbz
 ·exact Zfa
theorem F2_b(hb:Below w.heap.size w W1)(hr:W1.rowIs FR 94 8 (frV C sv (.slice none 0 0) (.slice none 0 0) (.map none) gv pv (.slice none 0 0)))(hs:W1.heap.size=FR+1)(hf:w.heap.size=FR):
 F2 w ((((W1.alloc (.cells (madeCells #[.int .u32 0] n) 43)).setCell ⟨FR,2,none⟩ (.slice (some ⟨W1.heap.size,0,none⟩) n n)).alloc (.cells (madeCells #[.int .i64 0] n) 3)).setCell ⟨FR,3,none⟩ (.slice (some ⟨W1.heap.size+1,0,none⟩) n n)).drew FR W1.heap.size (W1.heap.size+1) n C sv gv pv:=by
 have h1:=World.rowIs_made W1 (.int .u32 0) n 43;have h2:=World.rowIs_made ((W1.alloc (.cells (madeCells #[.int .u32 0] n) 43)).setCell ⟨FR,2,none⟩ (.slice (some ⟨W1.heap.size,0,none⟩) n n)) (.int .i64 0) n 3;rw[show((W1.alloc (.cells (madeCells #[.int .u32 0] n) 43)).setCell ⟨FR,2,none⟩ (.slice (some ⟨W1.heap.size,0,none⟩) n n)).heap.size=W1.heap.size+1 by simp[World.setCell]]at h2;refine⟨World.rowIs.drew (((((hr.alloc _).set 2 _).alloc _).set 3 _).congr fun j hj=>?_),World.rowIs.drew (((h1.setOther Zgc _).alloc _).setOther Zgc _),World.rowIs.drew (h2.setOther Zgh _),?_,hf,by simp[World.setCell];omega,oM,oM,oM,oM,oM⟩
 ·exact Zbz
 ·exact Below.drew ((((hb.alloc oM _).setCell Zgx _).alloc (by simp[World.setCell];omega) _).setCell Zgx _)
theorem F2_c(hb:Below w.heap.size w W1)(hr:W1.rowIs FR 94 8 (frV C sv (.slice none 0 0) (.slice none 0 0) (.map none) gv pv (.slice none 0 0)))(hs:W1.heap.size=FR+1)(hf:w.heap.size=FR):
 F2 w ((((W1.alloc (.cells (madeCells #[.int .i64 0] n) 3)).alloc (.cells (madeCells #[.int .u32 0] n) 43)).setCell ⟨FR,2,none⟩ (.slice (some ⟨W1.heap.size+1,0,none⟩) n n)).setCell ⟨FR,3,none⟩ (.slice (some ⟨W1.heap.size,0,none⟩) n n)).drew FR (W1.heap.size+1) W1.heap.size n C sv gv pv:=by
 have h1:=World.rowIs_made W1 (.int .i64 0) n 3;have h2:=World.rowIs_made (W1.alloc (.cells (madeCells #[.int .i64 0] n) 3)) (.int .u32 0) n 43;rw[show(W1.alloc (.cells (madeCells #[.int .i64 0] n) 3)).heap.size=W1.heap.size+1 by simp]at h2;refine⟨World.rowIs.drew (((((hr.alloc _).alloc _).set 2 _).set 3 _).congr fun j hj=>?_),World.rowIs.drew ((h2.setOther Zgh _).setOther Zgh _),World.rowIs.drew (((h1.alloc _).setOther Zgc _).setOther Zgc _),?_,hf,by simp[World.setCell];omega,oM,oM,oM,oM,oM⟩
 ·exact Zbz
 ·exact Zfa
structure F3(w V:World)(FR NB WB MB UB n k C:Nat)(sv gv pv:Value):Prop where
 row:V.rowIs FR 94 8 (frV C sv (.slice (some ⟨NB,0,none⟩) n n) (.slice (some ⟨WB,0,none⟩) n n) (.map (some MB)) gv pv (.slice (some ⟨UB,0,none⟩) k k))
 nb:V.rowIs NB 43 n (fun _=>.int .u32 0)
 wb:V.rowIs WB 3 n (fun _=>.int .i64 0)
 mb:MapI V MB 0 (fun _=>none)
 ub:V.rowIs UB 57 k (fun _=>.slice none 0 0)
 bel:Below w.heap.size w V
 fr:w.heap.size=FR
 size:V.heap.size=FR+5
 n1:FR<NB
 n2:FR<WB
 n3:NB<FR+3
 n4:WB<FR+3
 n5:NB≠WB
 n6:MB=FR+3
 n7:UB=FR+4
theorem F2.three{V:World}{NB WB:Nat}(h:F2 w V FR NB WB n C sv gv pv)(k:Nat):
 F3 w ((((V.alloc (.map #[] 0)).setCell ⟨FR,4,none⟩ (.map (some V.heap.size))).alloc (.cells (madeCells #[.slice none 0 0] k) 57)).setCell ⟨FR,7,none⟩ (.slice (some ⟨V.heap.size+1,0,none⟩) k k)) FR NB WB V.heap.size (V.heap.size+1) n k C sv gv pv:=by
 have hs:=h.size;have e1:=h.n1;have e2:=h.n2;have e3:=h.n3;have e4:=h.n4;have hf:=h.fr;have hm:MapI (V.alloc (.map #[] 0)) V.heap.size 0 (fun _=>none):=MapI.new V;have h2:=World.rowIs_made ((V.alloc (.map #[] 0)).setCell ⟨FR,4,none⟩ (.map (some V.heap.size))) (.slice none 0 0) k 57;rw[show((V.alloc (.map #[] 0)).setCell ⟨FR,4,none⟩ (.map (some V.heap.size))).heap.size=V.heap.size+1 by simp[World.setCell]]at h2;refine⟨((((h.row.alloc _).set 4 _).alloc _).set 7 _).congr fun j hj=>?_,(((h.nb.alloc _).setOther (by show NB≠FR;omega) _).alloc _).setOther (by show NB≠FR;omega) _,(((h.wb.alloc _).setOther (by show WB≠FR;omega) _).alloc _).setOther (by show WB≠FR;omega) _,?_,h2.setOther (by show V.heap.size+1≠FR;omega) _,?_,hf,by simp[World.setCell];omega,e1,e2,e3,e4,h.n5,hs,oM⟩
 ·exact Zbz
 ·refine MapI.block ?_ (Below.heap_setCell _ _ _ _ (by show V.heap.size≠FR;omega));refine MapI.below ?_ (Zhq _ _);exact hm.block (Below.heap_setCell _ _ _ _ (by show V.heap.size≠FR;omega))
 ·exact(((h.bel.alloc oM _).setCell Zgx _).alloc (by simp[World.setCell];omega) _).setCell Zgx _
end
structure NFI(V wr:World)(FR UB k:Nat)(c:Cd)(j:Nat)(ub:Nat->Nat):Prop where
 un:Un (fun b=>b=UB) V wr
 row:wr.rowIs UB 57 k (fun p=>if p<j then .slice (some ⟨ub p,0,none⟩) (Zje c p) (Zje c p)else .slice none 0 0)
 rows:∀p,p<j->wr.rowIs (ub p) 43 (Zje c p) (fun _=>.int .u32 0)
 bd:∀p,p<j->FR+5<=ub p/\ub p<wr.heap.size
 inj:∀p q,p<j->q<j->ub p=ub q->p=q
theorem NFI.next{V wr v2:World}{FR UB k:Nat}{c:Cd}{j:Nat}{ub:Nat->Nat}(h:NFI V wr FR UB k c j ub)(hV:FR+5<=V.heap.size)(hU:UB<FR+5)(hb:Below wr.heap.size wr v2):
 NFI V ((v2.alloc (.cells (madeCells #[.int .u32 0] (Zje c j)) 43)).setCell ⟨UB,j,none⟩ (.slice (some ⟨v2.heap.size,0,none⟩) (Zje c j) (Zje c j))) FR UB k c (j+1) (fun p=>if p=j then v2.heap.size else ub p):=by
 have hs:=h.un.size;have hs2:=hb.size;have hb2:Below wr.heap.size wr (v2.alloc (.cells (madeCells #[.int .u32 0] (Zje c j)) 43)):=bel hb (Zhq _ _);have hr:=h.row.of_block (hb2.block _ h.row.lt);refine⟨h.un.trans ((Un.of hb2).setCell (p:=⟨UB,j,none⟩) rF _),(hr.set j _).congr fun p hp=>?_,fun p hp=>?_,fun p hp=>?_,fun p q hp hq e=>?_⟩
 ·by_cases e:p=j
  ·subst e;rw[if_pos rfl,if_pos oM,if_pos rfl]
  ·rw[if_neg e];by_cases e2:p<j
   ·rw[if_pos e2,if_pos oM,if_neg e]
   ·rw[if_neg e2,if_neg oM]
 ·by_cases e:p=j
  ·subst e;rw[if_pos rfl];exact(World.rowIs_made v2 (.int .u32 0) (Zje c p) 43).setOther (by show v2.heap.size≠UB;omega) _
  ·rw[if_neg e];have hq:=h.bd p oM;have hr2:=h.rows p oM;exact(hr2.of_block (hb2.block _ hr2.lt)).setOther (by show ub p≠UB;omega) _
 ·have hz:((v2.alloc (.cells (madeCells #[.int .u32 0] (Zje c j)) 43)).setCell ⟨UB,j,none⟩ (.slice (some ⟨v2.heap.size,0,none⟩) (Zje c j) (Zje c j))).heap.size=v2.heap.size+1:=by simp[World.setCell]
  rw[hz];by_cases e:p=j
  ·rw[if_pos e];omega
  ·rw[if_neg e];have hq:=h.bd p oM;omega
 ·by_cases e1:p=j
  ·by_cases e2:q=j
   ·omega
   ·rw[if_pos e1,if_neg e2]at e;have:=h.bd q oM;omega
  ·by_cases e2:q=j
   ·rw[if_neg e1,if_pos e2]at e;have:=h.bd p oM;omega
   ·rw[if_neg e1,if_neg e2]at e;exact h.inj p q oM oM e
theorem make_I(m:Nat)(h:m<=17592186044416)(w:World):(Instr.makeSlice 82 (.int .i64 m) (.int .i64 m)).run prog w=.ok (.slice (some ⟨w.heap.size,0,none⟩) m m) (w.alloc (.cells (madeCells #[.int .i64 0] m) 3)):=
 run_make_row' (P:=prog) 82 3 (.int .i64 0) 8 underlying82 Zoq rfl .i64 .i64 m oM oM w
theorem make_L(m:Nat)(h:m<=1759218604441)(w:World):(Instr.makeSlice 47 (.int .i64 m) (.int .i64 m)).run prog w=.ok (.slice (some ⟨w.heap.size,0,none⟩) m m) (w.alloc (.cells (madeCells #[.slice none 0 0] m) 57)):=
 run_make_row' (P:=prog) 47 57 (.slice none 0 0) 24 underlying47 Zaen rfl .i64 .i64 m oM oM w
theorem Zaao{T:Nat->Prop}{B:Nat}{w V wr:World}{R:Nat}{a:Lay}{X:Nat->Value}{c:Cd}{l:List Hd}(h:Zip T B w R a X c l)(hg:Good c)(hT:∀b,T b->b<w.heap.size){gp pp:Option Addr}{gq pq gl pl:Nat}{G P:List (List Int)}(hgv:VsT T w (.slice gp G.length gq) G)(hpv:VsT T w (.slice pp P.length pq) P){N0 N1 N2 C sc:Nat}{sp:Option Addr}(he:c.sign.length=N0/\c.regs.length=N1/\c.slots.length=N2/\a.C=C/\a.sp=sp/\a.sc=sc/\G.length=gl/\P.length=pl){FR NB WB MB UB:Nat}{ub:Nat->Nat}
 (f3:F3 w V FR NB WB MB UB N1 N0 C (.slice sp N2 sc) (.slice gp gl gq) (.slice pp pl pq)) (nf:NFI V wr FR UB N0 c N0 ub) (hbw:Below w.heap.size w wr) (hrF:wr.rowIs FR 94 8 (frV C (.slice sp N2 sc) (.slice (some ⟨NB,0,none⟩) N1 N1) (.slice (some ⟨WB,0,none⟩) N1 N1) (.map (some MB)) (.slice gp gl gq) (.slice pp pl pq) (.slice (some ⟨UB,0,none⟩) N0 N0))):
 ∃FR' NB WB MB UB ub E',Ending.returned (.pointer (some ⟨FR,0,none⟩))=.returned (.pointer (some ⟨FR',0,none⟩))/\FX T w.heap.size E' {a with FR:=FR',NB:=NB,WB:=WB,MB:=MB,UB:=UB,ub:=ub,gv:=.slice gp gl gq,pv:=.slice pp pl pq} c G P wr/\FV T w.heap.size E' {a with FR:=FR',NB:=NB,WB:=WB,MB:=MB,UB:=UB,ub:=ub,gv:=.slice gp gl gq,pv:=.slice pp pl pq} c wr X 0 (fun _=>none) ⟨fun _=>0,fun _=>0,fun _=>[],l,fun _ _=>0⟩/\Below w.heap.size w wr:=by
 obtain⟨e0,e1,e2,e3,e4,e5,e6,e7⟩:=he;have hfr:=f3.fr;have hsz:=f3.size;have n1:=f3.n1;have n2:=f3.n2;have n3:=f3.n3;have n4:=f3.n4;have n5:=f3.n5;have n6:=f3.n6;have n7:=f3.n7;have hszr:=nf.un.size;have hmut:∀b,b<w.heap.size->mutT T w.heap.size wr.heap.size b->T b:=fun b hb e=>e.elim id fun k=>by omega
 refine⟨FR,NB,WB,MB,UB,ub,wr.heap.size,rfl,?_,?_,hbw⟩
 ·have hcode:=(h.code.mono hmut).below hbw;refine⟨hbw.size,Nat.le_refl _,hT,h.hS,⟨hcode.hC,hcode.ltC,hcode.cells,hcode.sign,hcode.regs,hcode.slots,hcode.list⟩,?_,?_,?_,?_,by show w.heap.size<=FR/\FR<wr.heap.size;omega,by show w.heap.size<=NB/\NB<wr.heap.size;omega,by show w.heap.size<=WB/\WB<wr.heap.size;omega,by show w.heap.size<=MB/\MB<wr.heap.size;omega,by show w.heap.size<=UB/\UB<wr.heap.size;omega,fun p hp=>?_,?_,fun p hp=>?_,fun p q hp hq e=>?_⟩
  ·have:=(hgv.mono hmut).below hbw;rw[e6]at this;exact this
  ·have:=(hpv.mono hmut).below hbw;rw[e7]at this;exact this
  ·intro j hj;have hj':j<8:=hj;have hc:=hrF.cell hj';show wr.cell? ⟨FR,0+j,none⟩=_;rw[Nat.zero_add,hc];rw[←e0,←e1,←e2,←e3,←e4,←e5];exact Zbz
  ·show wr.rowIs UB _ c.sign.length _;rw[e0];exact nf.row.congr fun p hp=>by rw[if_pos hp]
  ·have:=nf.bd p oM;show w.heap.size<=ub p/\ub p<wr.heap.size;omega
  ·show FR≠NB/\FR≠WB/\FR≠MB/\FR≠UB/\NB≠WB/\NB≠MB/\NB≠UB/\WB≠MB/\WB≠UB/\MB≠UB;omega
  ·have:=nf.bd p oM;show ub p≠FR/\ub p≠NB/\ub p≠WB/\ub p≠MB/\ub p≠UB;omega
  ·exact nf.inj p q oM oM e
 ·have hblk:∀b,b<V.heap.size->b≠UB->wr.heap[b]? =V.heap[b]? :=fun b hb hne=>nf.un.block b hb hne;refine⟨?_,?_,f3.mb.block (hblk _ f3.mb.lt oM),fun r hr=>Pt.nil _ _ _ _,fun p hp=>nf.rows p oM,?_,h.len⟩
  ·show wr.rowIs NB _ c.regs.length _;rw[e1];exact f3.nb.of_block (hblk _ f3.nb.lt oM)
  ·show wr.rowIs WB _ c.regs.length _;rw[e1];exact f3.wb.of_block (hblk _ f3.wb.lt oM)
  ·have hs:=(h.slots.mono hmut).below hbw;exact⟨hs.row,hs.sp,hs.le,hs.whole,hs.pats⟩
theorem Zabb{T:Nat->Prop}{B:Nat}(w:World)(R:Nat)(a:Lay)(X:Nat->Value)(c:Cd)(l:List Hd)(h:Zip T B w R a X c l)(hg:Good c)(hT:∀b,T b->b<w.heap.size)(hnm:∀p∈c.sign,p.name.size<=140737488351232)(gv pv:Value)(G P:List (List Int))(hgv:VsT T w gv G)(hpv:VsT T w pv P):
 Calls prog 26 #[.pointer (some ⟨R,0,none⟩),gv,pv] w fun e w'=>∃FR NB WB MB UB ub E',e=.returned (.pointer (some ⟨FR,0,none⟩))/\FX T w.heap.size E' {a with FR:=FR,NB:=NB,WB:=WB,MB:=MB,UB:=UB,ub:=ub,gv:=gv,pv:=pv} c G P w'/\FV T w.heap.size E' {a with FR:=FR,NB:=NB,WB:=WB,MB:=MB,UB:=UB,ub:=ub,gv:=gv,pv:=pv} c w' X 0 (fun _=>none) ⟨fun _=>0,fun _=>0,fun _=>[],l,fun _ _=>0⟩/\Below w.heap.size w w':=by
 have r0:w.cell? ⟨R,0,none⟩=some (.pointer (some ⟨a.C,0,none⟩)):=h.run.at 0 rfl;have r1:w.cell? ⟨R,1,none⟩=some (.slice a.sp c.slots.length a.sc):=h.run.at 1 rfl;have c0:=h.code.c0;have c1:=h.code.c1;obtain⟨p0,q0,hv0⟩:∃p q,a.v0=.slice p c.sign.length q:=by obtain⟨p,q,e,_⟩:=h.code.sign;exact⟨p,q,e⟩
 obtain⟨p1,q1,hv1⟩:∃p q,a.v1=.slice p c.regs.length q:=by obtain⟨p,q,e,_⟩:=h.code.regs;exact⟨p,q,e⟩
 obtain⟨gp,gq,hgp⟩:∃p q,gv=.slice p G.length q:=by obtain⟨p,q,e,_⟩:=hgv;exact⟨p,q,e⟩
 obtain⟨pp,pq,hpp⟩:∃p q,pv=.slice p P.length q:=by obtain⟨p,q,e,_⟩:=hpv;exact⟨p,q,e⟩
 subst hgp hpp;rw[hv0]at c0;rw[hv1]at c1;have hN1:=hg.regsL;have hN0:=hg.signL;have HH:Hid (Zip T B w R a X c l):=h;have HG:Hid (Good c/\(∀b,T b->b<w.heap.size)/\VsT T w (.slice gp G.length gq) G/\VsT T w (.slice pp P.length pq) P/\∀p∈c.sign,p.name.size<=140737488351232):=⟨hg,hT,hgv,hpv,hnm⟩
 have HV0:Hid (a.v0=.slice p0 c.sign.length q0):=hv0;obtain⟨N0,hN0'⟩:∃N,c.sign.length=N:=⟨_,rfl⟩
 obtain⟨N1,hN1'⟩:∃N,c.regs.length=N:=⟨_,rfl⟩
 obtain⟨N2,hN2'⟩:∃N,c.slots.length=N:=⟨_,rfl⟩
 obtain⟨C,hC⟩:∃C,a.C=C:=⟨_,rfl⟩
 obtain⟨sp,hsp⟩:∃sp,a.sp=sp:=⟨_,rfl⟩
 obtain⟨sc,hsc⟩:∃sc,a.sc=sc:=⟨_,rfl⟩
 obtain⟨gl,hgl⟩:∃gl,G.length=gl:=⟨_,rfl⟩
 obtain⟨pl,hpl⟩:∃pl,P.length=pl:=⟨_,rfl⟩
 rw[hN0',hC]at c0;rw[hN1',hC]at c1;rw[hC]at r0;rw[hsp,hsc,hN2']at r1;rw[hN0']at hN0;rw[hN1']at hN1;have HE:Hid (c.sign.length=N0/\c.regs.length=N1/\c.slots.length=N2/\a.C=C/\a.sp=sp/\a.sc=sc/\G.length=gl/\P.length=pl):=⟨hN0',hN1',hN2',hC,hsp,hsc,hgl,hpl⟩
 rw[hgl,hpl];have mk1:=Zwm N1 oM;have mk2:=make_I N1 oM;have mk3:=make_L N0 oM;clear h hg hT hgv hpv hnm hv0 hv1 hN0' hN1' hN2' hC hsp hsc hgl hpl;go_enter func26,ntmps26;go_wp2;refine rG (fun v=>v.cell? ⟨R,0,none⟩=some (.pointer (some ⟨C,0,none⟩))/\v.cell? ⟨R,1,none⟩=some (.slice sp N2 sc)) fun hHeld=>?_;refine Tf 0 1 2 3 4 5 ?_;refine Tc 6 7 8 ?_;refine Tb 9 10 ?_;clear hHeld;refine ry1 11 fun K hK=>?_;go_simp;refine okK hK fun hHeld=>?_;clear hK K;refine tkT 12 ?_;refine wpAnyH_done kR ?_ _;go_wp2;obtain⟨W1,hW1⟩:∃W1,(w.alloc (.cells #[.pointer (some ⟨C,0,none⟩),.slice sp N2 sc,.slice none 0 0,.slice none 0 0,.map none,.slice gp gl gq,.slice pp pl pq,.slice none 0 0] 94)).drew=W1:=⟨_,rfl⟩
 have hb1:Below w.heap.size w W1:=by rw[←hW1];exact bel (Zhq _ _) (Zht _)
 have hrow:W1.rowIs w.heap.size 94 8 (frV C (.slice sp N2 sc) (.slice none 0 0) (.slice none 0 0) (.map none) (.slice gp gl gq) (.slice pp pl pq) (.slice none 0 0)):=by
  rw[←hW1];refine World.rowIs.drew ?_;refine World.rowIs_alloc w _ 94 _ fun j hj=>?_;have hj':j<8:=hj;exact Zbz
 have hs1:W1.heap.size=w.heap.size+1:=by rw[←hW1];simp
 rw[hW1];clear hW1 hHeld;have g0:=kc hb1 r0;have g1:=kc hb1 c1;have g2:=hrow.cell (i:=2) dE;have g3:=hrow.cell (i:=3) dE;have q2:=hrow.frozen 2;have q3:=hrow.frozen 3;simp only[frV]at g2 g3;have k2a:∀o,(W1.alloc o).cell? ⟨w.heap.size,2,none⟩=some (.slice none 0 0):=fun o=>kc (Zhq _ _) g2;have k3a:∀o,(W1.alloc o).cell? ⟨w.heap.size,3,none⟩=some (.slice none 0 0):=fun o=>kc (Zhq _ _) g3;have k2b:∀o o',((W1.alloc o).alloc o').cell? ⟨w.heap.size,2,none⟩=some (.slice none 0 0):=fun o o'=>kc (Zhq _ _) (k2a o);have k3b:∀o o',((W1.alloc o).alloc o').cell? ⟨w.heap.size,3,none⟩=some (.slice none 0 0):=fun o o'=>kc (Zhq _ _) (k3a o);have f2a:∀o,(W1.alloc o).frozen? ⟨w.heap.size,2,none⟩=false:=fun o=>kf (Zhq _ _) g2 q2;have f3a:∀o,(W1.alloc o).frozen? ⟨w.heap.size,3,none⟩=false:=fun o=>kf (Zhq _ _) g3 q3;have f2b:∀o o',((W1.alloc o).alloc o').frozen? ⟨w.heap.size,2,none⟩=false:=fun o o'=>kf (Zhq _ _) (k2a o) (f2a o);have f3b:∀o o',((W1.alloc o).alloc o').frozen? ⟨w.heap.size,3,none⟩=false:=fun o o'=>kf (Zhq _ _) (k3a o) (f3a o);have k3c:∀o o' v,(((W1.alloc o).setCell ⟨w.heap.size,2,none⟩ v).alloc o').cell? ⟨w.heap.size,3,none⟩=some (.slice none 0 0):=fun o o' v=>(((hrow.alloc o).set 2 v).alloc o').cell (i:=3) dE;have f3c:∀o o' v,(((W1.alloc o).setCell ⟨w.heap.size,2,none⟩ v).alloc o').frozen? ⟨w.heap.size,3,none⟩=false:=fun o o' v=>(((hrow.alloc o).set 2 v).alloc o').frozen 3;have HFa:=hidM (F2_a (n:=N1) hb1 hrow hs1 rfl);have HFb:=hidM (F2_b (n:=N1) hb1 hrow hs1 rfl);have HFc:=hidM (F2_c (n:=N1) hb1 hrow hs1 rfl);obtain⟨Va,hVa⟩:∃Va,((((W1.alloc (.cells (madeCells #[.int .u32 0] N1) 43)).alloc (.cells (madeCells #[.int .i64 0] N1) 3)).setCell ⟨w.heap.size,2,none⟩ (.slice (some ⟨W1.heap.size,0,none⟩) N1 N1)).setCell ⟨w.heap.size,3,none⟩ (.slice (some ⟨W1.heap.size+1,0,none⟩) N1 N1)).drew=Va:=⟨_,rfl⟩
 obtain⟨Vb,hVb⟩:∃Vb,((((W1.alloc (.cells (madeCells #[.int .u32 0] N1) 43)).setCell ⟨w.heap.size,2,none⟩ (.slice (some ⟨W1.heap.size,0,none⟩) N1 N1)).alloc (.cells (madeCells #[.int .i64 0] N1) 3)).setCell ⟨w.heap.size,3,none⟩ (.slice (some ⟨W1.heap.size+1,0,none⟩) N1 N1)).drew=Vb:=⟨_,rfl⟩
 obtain⟨Vc,hVc⟩:∃Vc,((((W1.alloc (.cells (madeCells #[.int .i64 0] N1) 3)).alloc (.cells (madeCells #[.int .u32 0] N1) 43)).setCell ⟨w.heap.size,2,none⟩ (.slice (some ⟨W1.heap.size+1,0,none⟩) N1 N1)).setCell ⟨w.heap.size,3,none⟩ (.slice (some ⟨W1.heap.size,0,none⟩) N1 N1)).drew=Vc:=⟨_,rfl⟩
 rw[hVa]at HFa;rw[hVb]at HFb;rw[hVc]at HFc;have m1:w.heap.size≠R:=by have:=Zhr r0;simp at this;omega
 have m2:w.heap.size≠C:=by have:=Zhr c1;simp at this;omega
 have m3:w.heap.size≠W1.heap.size:=oM;have HB1:=hidM hb1;have HRow:=hidM hrow;have HS1:=hidM hs1;have HR0:=hidM r0;have HC0:=hidM c0;obtain⟨FR,hFR⟩:∃FR,w.heap.size=FR:=⟨_,rfl⟩
 have HFR:=hidM hFR;simp only[hFR]at g2 g3 q2 q3 m1 m2 m3 HRow HS1 k2a k3a k2b k3b f2a f3a f2b f3b k3c f3c hVa hVb hVc HFa HFb HFc ⊢;have HVa:=hidM hVa;have HVb:=hidM hVb;have HVc:=hidM hVc;clear r0 r1 c0 c1 hb1 hrow hs1 hFR hVa hVb hVc;refine rG (fun v=>v.cell? ⟨R,0,none⟩=some (.pointer (some ⟨C,0,none⟩))/\v.cell? ⟨C,1,none⟩=some (.slice p1 N1 q1)) fun hHeld=>?_;refine Tf 0 1 2 3 4 5 ?_;refine Tf 6 7 8 9 11 12 ?_;refine Tf 13 14 15 16 17 18 ?_;clear hHeld;refine wpAnyH_ready (rs:=[10,19]) kR sM ?_;refine ryC 10 (fun K hK=>?_) ?_
 ·go_simp;refine okK hK fun hHeld=>?_;clear hK K;refine Tb 20 21 ?_;clear hHeld;refine wpAnyH_ready (rs:=[19,22]) kR sM ?_;refine ryC 19 (fun K hK=>?_) ?_
  ·go_simp;refine okK hK fun hHeld=>?_;clear hK K;clear hHeld;refine ry1 22 fun K hK=>?_;exact Zaa
  refine ryC 22 (fun K hK=>?_) AllReadyH.nil;go_simp;refine okK hK fun hHeld=>?_;clear hK K;clear hHeld;refine ry1 19 fun K hK=>?_;exact Zaa
 refine ryC 19 (fun K hK=>?_) AllReadyH.nil;go_simp;refine okK hK fun hHeld=>?_;clear hK K;clear hHeld;refine ry1 10 fun K hK=>?_;go_simp;refine okK hK fun hHeld=>?_;clear hK K;refine Tb 20 21 ?_;clear hHeld;refine ry1 22 fun K hK=>?_;exact Zaa
end Go.Proofs.YtbinohkcolcbfaaGreat
namespace Go.Proofs.YtbinohkcolcbfaaGreat
open Go.RowKit Go.Proofs.Tryz
set_option linter.unusedVariables false
set_option linter.unusedSimpArgs false
set_option maxRecDepth 100000
set_option maxHeartbeats 16000000
def ahJ(c:Cd)(l:List Hd):Nat->List Hd
 |0=>l
 |j+1=>match c.slots[j]? with
  |some s=>if s.keep then ahJ c l j else(ahJ c l j).set j (Ziy c s)
  |none=>ahJ c l j
def Zkx(c:Cd)(l:List Hd):Fr:=⟨fun _=>0,fun _=>0,fun _=>[],ahJ c l c.slots.length,fun _ _=>0⟩
def endJ(c:Cd)(l:List Hd)(G P:List (List Int)):Fr:=(goI c G P (Zkx c l,0) c.list).1
theorem Zsc(c:Cd)(l:List Hd):∀j,(ahJ c l j).length=l.length
 |0=>rfl
 |j+1=>by
  unfold ahJ;split
  ·split
   ·exact Zsc c l j
   ·rw[List.length_set];exact Zsc c l j
  ·exact Zsc c l j
theorem Zip.put{T:Nat->Prop}{B:Nat}{w:World}{R:Nat}{a:Lay}{X:Nat->Value}{c:Cd}{l:List Hd}(h:Zip T B w R a X c l){d:Nat}(hd:d<l.length){v:Value}{hh:Hd}(hv:Pt T w v hh.pats)(ho:∀h':d<c.slots.length,HdOK c c.slots[d].ty hh):
 ∃X',Zip T B ((w.setCell ⟨a.S,d*2,none⟩ v).setCell ⟨a.S,d*2+1,none⟩ (.int .i64 hh.whole)) R a X' c (l.set d hh):=by
 have hU:Un (fun b=>b=a.S) w ((w.setCell ⟨a.S,d*2,none⟩ v).setCell ⟨a.S,d*2+1,none⟩ (.int .i64 hh.whole)):=((Un.refl (fun b=>b=a.S) w).setCell (p:=⟨a.S,d*2,none⟩) rF _).setCell (p:=⟨a.S,d*2+1,none⟩) rF _;have hu:∀b,b<w.heap.size->b=a.S->T b:=fun b _ e=>e▸h.hS;refine⟨fun j=>if j=d*2+1 then .int .i64 hh.whole else if j=d*2 then v else X j,h.hS,h.hR,Nat.lt_of_lt_of_le h.ltR hU.size,h.run.of_block (hU.block _ h.ltR fun e=>h.hR (hu _ h.ltR e)),h.code.un hU hu,⟨(h.slots.row.set (d*2) v).set (d*2+1) _,?_,by simpa using h.slots.le,fun j hj=>?_,fun j hj=>?_⟩,by simp[h.len],fun j h1 h2=>?_,h.bR,h.bC,h.bS⟩
 ·rcases h.slots.sp with e|e
  ·rw[e]at hd;exact absurd hd (Nat.not_lt_zero _)
  ·exact .inr e
 ·exact Zef
 ·exact Zdv
 ·simp only[List.length_set]at h2;simp only[List.getElem_set];by_cases e:d=j
  ·subst e;rw[if_pos rfl];exact ho h1
  ·rw[if_neg e];exact h.ok j h1 h2
theorem VsT.vs{T:Nat->Prop}{w:World}{v:Value}{L:List (List Int)}(h:VsT T w v L):Vs w v (L.map fun l=>l.length):=by
 obtain⟨p,c,hv,hh⟩:=h;refine⟨p,c,by rw[List.length_map];exact hv,?_⟩;rcases hh with e|⟨b,o,hp,_,_,hh⟩
 ·exact .inl (by rw[e];rfl)
 ·refine .inr ⟨b,o,hp,fun i hi=>?_⟩;rw[List.length_map]at hi;obtain⟨u,h1,h2⟩:=hh i hi;obtain⟨q,d,hq⟩:=h2.len;refine⟨q,d,?_⟩;rw[h1,hq];simp
structure VsOk(L:List (List Int)):Prop where
 len:L.length<=140737488351232
 lens:∀l∈L,l.length<=140737488351232
 isP:∀l∈L,∀y∈l,IsP y
theorem Zuk{c:Cd}{L:List (List Int)}(h:Zin c.sign (L.map fun l=>l.length)=true)(hk:VsOk L)(hg:Good c):FitV c L:=by
 have key:∀ (ps:List Par) (M:List (List Int)),(∀p∈ps,mayP p=true/\1<=p.len)->Zin ps (M.map fun l=>l.length)=true->M.length=ps.length/\∀p (h:p<M.length),(M[p]).length=(ps[p]?).elim 0 numL:=by
  intro ps;induction ps with
  |nil=>intro M _ h;cases M with
   |nil=>exact⟨rfl,fun p h=>absurd h (Nat.not_lt_zero _)⟩
   |cons a M=>simp[Zin]at h
  |cons q ps ih=>
   intro M hm h;cases M with
   |nil=>simp[Zin]at h
   |cons a M=>
    simp only[List.map_cons,Zin,Bool.and_eq_true,decide_eq_true_eq]at h;obtain⟨i1,i2⟩:=ih M (fun p hp=>hm p (by simp[hp])) h.2;refine⟨by simp[i1],fun p hp=>?_⟩;cases p with
    |zero=>
     show a.length=numL q;unfold numL;omega
    |succ p=>exact i2 p (by simpa using hp)
 obtain⟨k1,k2⟩:=key c.sign L (fun p hp=>⟨hg.kind p hp,(hg.len p hp).1⟩) h;exact⟨k1,k2,hk.isP⟩
theorem Zaco{T:Nat->Prop}{B:Nat}(w:World)(R:Nat)(a:Lay)(X:Nat->Value)(c:Cd)(l:List Hd)(h:Zip T B w R a X c l)(hg:Good c)(hnm:∀p∈c.sign,p.name.size<=140737488351232)(gv pv:Value)(G P:List (List Int))(hgv:VsT T w gv G)(hpv:VsT T w pv P)(kG:VsOk G)(kP:VsOk P)(hf:Zly c G P=false):
 Calls prog 10 #[.pointer (some ⟨R,0,none⟩),gv,pv] w fun e w'=>e=.returned (.tuple #[.slice none 0 0,.int .i64 170])/\Below w.heap.size w w':=by
 have r0:w.cell? ⟨R,0,none⟩=some (.pointer (some ⟨a.C,0,none⟩)):=h.run.at 0 rfl;have c0:=h.code.c0;obtain⟨p0,q0,hv0⟩:∃p q,a.v0=.slice p c.sign.length q:=by obtain⟨p,q,e,_⟩:=h.code.sign;exact⟨p,q,e⟩
 have KF:∀ (u:Value) (L:List (List Int)),VsT T w u L->VsOk L->∀v,Below w.heap.size w v->Calls prog 25 #[a.v0,u] v fun e w'=>e=.returned (.bool (Zin c.sign (L.map fun l=>l.length)))/\Below v.heap.size v w':=fun u L hu hk v hv=>Zza a.v0 u c.sign _ (by have:=hg.signL;omega) (by rw[List.length_map];exact hk.len) hnm (fun n hn=>by obtain⟨l,hl,rfl⟩:=List.mem_map.1 hn;exact hk.lens l hl) v (h.code.sign.row.rd |> fun q=>(RowG.rd (h.code.sign.row.below hv))) ((hu.below hv).vs);have KG:=hidM (KF gv G hgv kG);have KP:=hidM (KF pv P hpv kP);rw[hv0]at c0;simp only[hv0]at KG KP;obtain⟨gp,gq,hgp⟩:∃p q,gv=.slice p G.length q:=by obtain⟨p,q,e,_⟩:=hgv;exact⟨p,q,e⟩
 obtain⟨pp,pq,hpp⟩:∃p q,pv=.slice p P.length q:=by obtain⟨p,q,e,_⟩:=hpv;exact⟨p,q,e⟩
 subst hgp hpp;unfold Zly at hf;obtain⟨fG,hfG⟩:∃fG,Zin c.sign (G.map fun l=>l.length)=fG:=⟨_,rfl⟩
 obtain⟨fP,hfP⟩:∃fP,Zin c.sign (P.map fun l=>l.length)=fP:=⟨_,rfl⟩
 have e1:Zin c.sign (G.map (·.length))=fG:=hfG;have e2:Zin c.sign (P.map (·.length))=fP:=hfP;rw[e1,e2]at hf;simp only[hfG,hfP]at KG KP;obtain⟨N0,hN0⟩:∃N,c.sign.length=N:=⟨_,rfl⟩
 obtain⟨C,hC⟩:∃C,a.C=C:=⟨_,rfl⟩
 rw[hC]at r0 c0;rw[hN0]at c0;simp only[hN0]at KG KP;have HR:=hidM r0;have HC:=hidM c0;clear h hg hnm hgv hpv kG kP KF e1 e2 hfG hfP hv0 hN0 hC;cases fG with
 |false=>
  go_enter func10,ntmps10;go_wp2_with(go_at_call 25;with_reducible refine(KG.out _ (bel0 _)).mono ?_;rintro e w1 ⟨rfl,hb1⟩);go_returns;exact⟨rfl,hb1⟩
 |true=>
  have hfp:fP=false:=by simpa using hf
  subst hfp;clear hf;go_enter func10,ntmps10;go_wp2_with(first
   |(go_at_call 25;(with_reducible refine(KG.out _ (bel0 _)).mono ?_);rintro e w1 ⟨rfl,hb1⟩;have r1:=kc hb1 r0;have c1:=kc hb1 c0)
   |(go_at_call 25;(with_reducible refine(KP.out _ hb1).mono ?_);rintro e w2 ⟨rfl,hb2⟩))
  go_returns;exact⟨rfl,bel hb1 hb2⟩
def UpdO(T:Nat->Prop)(B:Nat)(w w':World)(R:Nat)(a:Lay)(c:Cd)(f:Fr)(UB:Nat):Prop:=
 ∃ (E E':Nat) (ub:Nat->Nat) (X':Nat->Value),w.heap.size<=E/\Zip (mutT T E E') B w' R a X' c f.slots/\E<=UB/\UB<E'/\E'<=w'.heap.size/\w'.rowIs UB 57 c.sign.length (fun p=>.slice (some ⟨ub p,0,none⟩) (Zje c p) (Zje c p))/\(∀p,p<c.sign.length->E<=ub p/\ub p<E'/\ub p≠UB/\w'.rowIs (ub p) 43 (Zje c p) (fun j=>.int .u32 (f.outs p j)))/\∀p q,p<c.sign.length->q<c.sign.length->ub p=ub q->p=q
theorem Zarn{T:Nat->Prop}{B:Nat}{w w1 w':World}{R:Nat}{a:Lay}{X1:Nat->Value}{c:Cd}{l1:List Hd}(h1:Zip T B w1 R a X1 c l1)(hT:∀b,T b->b<w.heap.size)(hu1:Un (fun b=>b=a.S) w w1){FR NB WB MB UB:Nat}{ub:Nat->Nat}{E':Nat}{gv pv:Value}{G P:List (List Int)}{f:Fr}{X:Nat->Value}{M:Nat}{m:Nat->Option Value}
 (x:FX T w1.heap.size E' {a with FR:=FR,NB:=NB,WB:=WB,MB:=MB,UB:=UB,ub:=ub,gv:=gv,pv:=pv} c G P w') (h:FV T w1.heap.size E' {a with FR:=FR,NB:=NB,WB:=WB,MB:=MB,UB:=UB,ub:=ub,gv:=gv,pv:=pv} c w' X M m f) (ok:OkF c f) {w2:World} (hb2:Below w1.heap.size w1 w2) (un:Un (Zsv {a with FR:=FR,NB:=NB,WB:=WB,MB:=MB,UB:=UB,ub:=ub,gv:=gv,pv:=pv} w1.heap.size E') w2 w'):
 (∃X',Zip T B w' R a X' c f.slots)/\Un (fun b=>b=a.S) w w'/\VsT (fun b=>b<w.heap.size) w' (.slice (some ⟨UB,0,none⟩) c.sign.length c.sign.length) (updP c f)/\UpdO T B w w' R a c f UB:=by
 have hs1:=hu1.size;have hs2:=hb2.size;have hun:Un (fun b=>b=a.S) w1 w':=⟨un.os.trans hb2.os,un.tape.trans hb2.tape,un.output.trans hb2.output,Nat.le_trans hs2 un.size,fun b hb hne=>(un.block b oM (fun e=>e.elim hne fun k=>by omega)).trans (hb2.block b hb)⟩
 have hsub:∀b,b<w'.heap.size->T b->mutT T w1.heap.size E' b:=fun b _ e=>.inl e;refine⟨⟨X,h1.hS,h1.hR,Nat.lt_of_lt_of_le h1.ltR hun.size,h1.run.of_block (hun.block _ h1.ltR fun e=>h1.hR (e▸h1.hS)),h1.code.un hun (fun b _ e=>e▸h1.hS),?_,h.slotsL,ok.slots,h1.bR,h1.bC,h1.bS⟩,hu1.trans hun,?_,?_⟩
 ·have:=h.slots.mono hsub;exact⟨this.row,this.sp,this.le,this.whole,this.pats⟩
 ·have hUB:=x.iUB;have hupd:w'.rowIs UB 57 c.sign.length (fun p=>.slice (some ⟨ub p,0,none⟩) (Zje c p) (Zje c p)):=x.upd;have hUB':w1.heap.size<=UB:=hUB.1;have hlen:(updP c f).length=c.sign.length:=by unfold updP;simp
  refine⟨some ⟨UB,0,none⟩,c.sign.length,by rw[hlen],.inr ⟨UB,0,rfl,oM,hupd.lt,fun i hi=>?_⟩⟩;rw[hlen]at hi;refine⟨_,by rw[Nat.zero_add];exact hupd.cell hi,?_⟩;have ho:w'.rowIs (ub i) 43 (Zje c i) (fun j=>.int .u32 (f.outs i j)):=h.outs i hi;have hub:w1.heap.size<=ub i:=(x.iub i hi).1;have hel:(updP c f)[i]'(by rw[hlen];exact hi)=(List.range (Zje c i)).map (f.outs i):=by
   unfold updP Zje;simp
  rw[hel];exact Pt.of_row ho oM sM (fun j hj=>Zxm (α:=Int) _ _ _ hj) _
 ·have hs:=h.slots;refine⟨w1.heap.size,E',ub,X,hs1,⟨.inl h1.hS,?_,Nat.lt_of_lt_of_le h1.ltR hun.size,h1.run.of_block (hun.block _ h1.ltR fun e=>h1.hR (e▸h1.hS)),(h1.code.mono (fun b hb e=>e.elim id fun k=>by omega)).un hun (fun b _ e=>.inl (e▸h1.hS)),⟨hs.row,hs.sp,hs.le,hs.whole,hs.pats⟩,h.slotsL,ok.slots,h1.bR,h1.bC,h1.bS⟩,x.iUB.1,x.iUB.2,x.hE',x.upd,fun p hp=>⟨(x.iub p hp).1,(x.iub p hp).2,(x.d2 p hp).2.2.2.2,h.outs p hp⟩,x.d3⟩;exact fun e=>e.elim h1.hR fun k=>by have:=h1.ltR;omega
theorem Zagw{T:Nat->Prop}{B:Nat}(w:World)(R:Nat)(a:Lay)(X:Nat->Value)(c:Cd)(l:List Hd)(h:Zip T B w R a X c l)(hc:(Zik c).1=0)(hk:CdOk c)(hT:∀b,T b->b<w.heap.size)(gv pv:Value)(G P:List (List Int))(hgv:VsT T w gv G)(hpv:VsT T w pv P)(kG:VsOk G)(kP:VsOk P)(hf:Zly c G P=true):
 Calls prog 10 #[.pointer (some ⟨R,0,none⟩),gv,pv] w fun e w'=>∃UB,e=.returned (.tuple #[.slice (some ⟨UB,0,none⟩) c.sign.length c.sign.length,.int .i64 0])/\(∃X',Zip T B w' R a X' c (endJ c l G P).slots)/\Un (fun b=>b=a.S) w w'/\VsT (fun b=>b<w.heap.size) w' (.slice (some ⟨UB,0,none⟩) c.sign.length c.sign.length) (updP c (endJ c l G P))/\UpdO T B w w' R a c (endJ c l G P) UB:=by
 obtain⟨hg,htk⟩:=Znv hc;have hnm:=hk.names;have r0:w.cell? ⟨R,0,none⟩=some (.pointer (some ⟨a.C,0,none⟩)):=h.run.at 0 rfl;have c0:=h.code.c0;have c2:w.cell? ⟨a.C,2,none⟩=some a.v2:=h.code.cells.at 2 rfl;obtain⟨p0,q0,hv0⟩:∃p q,a.v0=.slice p c.sign.length q:=by obtain⟨p,q,e,_⟩:=h.code.sign;exact⟨p,q,e⟩
 obtain⟨p2,q2,hv2⟩:∃p q,a.v2=.slice p c.slots.length q:=by obtain⟨p,q,e,_⟩:=h.code.slots;exact⟨p,q,e⟩
 have KF:∀ (u:Value) (L:List (List Int)),VsT T w u L->VsOk L->∀v,Below w.heap.size w v->Calls prog 25 #[a.v0,u] v fun e w'=>e=.returned (.bool (Zin c.sign (L.map fun l=>l.length)))/\Below v.heap.size v w':=fun u L hu hk v hv=>Zza a.v0 u c.sign _ (by have:=hg.signL;omega) (by rw[List.length_map];exact hk.len) hnm (fun n hn=>by obtain⟨l,hl,rfl⟩:=List.mem_map.1 hn;exact hk.lens l hl) v (RowG.rd (h.code.sign.row.below hv)) ((hu.below hv).vs);have hfG:Zin c.sign (G.map fun l=>l.length)=true:=by unfold Zly at hf;simp only[Bool.and_eq_true]at hf;exact hf.1
 have hfP:Zin c.sign (P.map fun l=>l.length)=true:=by unfold Zly at hf;simp only[Bool.and_eq_true]at hf;exact hf.2
 have KG:=hidM (KF gv G hgv kG);have KP:=hidM (KF pv P hpv kP);simp only[hfG,hfP,hv0]at KG KP;have fg:=Zuk hfG kG hg;have fp:=Zuk hfP kP hg;rw[hv0]at c0;rw[hv2]at c2;obtain⟨gp,gq,hgp⟩:∃p q,gv=.slice p G.length q:=by obtain⟨p,q,e,_⟩:=hgv;exact⟨p,q,e⟩
 obtain⟨pp,pq,hpp⟩:∃p q,pv=.slice p P.length q:=by obtain⟨p,q,e,_⟩:=hpv;exact⟨p,q,e⟩
 subst hgp hpp;have HH:=hidM h;have HG:Hid (Good c/\CdOk c/\(∀b,T b->b<w.heap.size)/\FitV c G/\FitV c P/\Zld c ⟨[],[]⟩ c.list=true):=⟨hg,hk,hT,fg,fp,htk⟩
 have HGV:Hid (VsT T w (.slice gp G.length gq) G/\VsT T w (.slice pp P.length pq) P):=⟨hgv,hpv⟩
 have HV2:=hidM hv2;have hm4:=hg.slotsL;have KNF:Hid (∀ (v:World) (X:Nat->Value) (l:List Hd),Zip T B v R a X c l->(∀b,T b->b<v.heap.size)->VsT T v (.slice gp G.length gq) G->VsT T v (.slice pp P.length pq) P->Calls prog 26 #[.pointer (some ⟨R,0,none⟩),.slice gp G.length gq,.slice pp P.length pq] v fun e w'=>∃FR NB WB MB UB ub E',e=.returned (.pointer (some ⟨FR,0,none⟩))/\FX T v.heap.size E' {a with FR:=FR,NB:=NB,WB:=WB,MB:=MB,UB:=UB,ub:=ub,gv:=.slice gp G.length gq,pv:=.slice pp P.length pq} c G P w'/\FV T v.heap.size E' {a with FR:=FR,NB:=NB,WB:=WB,MB:=MB,UB:=UB,ub:=ub,gv:=.slice gp G.length gq,pv:=.slice pp P.length pq} c w' X 0 (fun _=>none) ⟨fun _=>0,fun _=>0,fun _=>[],l,fun _ _=>0⟩/\Below v.heap.size v w'):=fun v X l hr ht h1 h2=>Zabb v R a X c l hr hg ht hnm _ _ G P h1 h2;obtain⟨N0,hN0⟩:∃N,c.sign.length=N:=⟨_,rfl⟩
 obtain⟨N2,hN2⟩:∃N,c.slots.length=N:=⟨_,rfl⟩
 obtain⟨C,hC⟩:∃C,a.C=C:=⟨_,rfl⟩
 obtain⟨gl,hgl⟩:∃gl,G.length=gl:=⟨_,rfl⟩
 obtain⟨pl,hpl⟩:∃pl,P.length=pl:=⟨_,rfl⟩
 have HE:Hid (c.sign.length=N0/\c.slots.length=N2/\a.C=C):=⟨hN0,hN2,hC⟩
 rw[hC]at r0 c0 c2;rw[hN0]at c0;rw[hN2]at c2 hm4;simp only[hN0,hgl,hpl]at KG KP KNF HGV ⊢;have HB0:Hid (∀v,Below w.heap.size w v->v.cell? ⟨R,0,none⟩=some (.pointer (some ⟨C,0,none⟩))/\v.cell? ⟨C,0,none⟩=some (.slice p0 N0 q0)/\v.cell? ⟨C,2,none⟩=some (.slice p2 N2 q2)):=fun v hv=>⟨kc hv r0,kc hv c0,kc hv c2⟩
 clear h hc hk hT hgv hpv kG kP hf hg htk hnm KF hfG hfP fg fp hv0 hv2 hN0 hN2 hC hgl hpl;go_enter func10,ntmps10;go_wp2_with(first
  |(go_at_call 25;(with_reducible refine(KG.out _ (bel0 _)).mono ?_);rintro e w1 ⟨rfl,hb1⟩;obtain⟨s0,s1,s2⟩:=HB0.out w1 hb1)
  |(go_at_call 25;(with_reducible refine(KP.out _ hb1).mono ?_);rintro e w2 ⟨rfl,hb2⟩;obtain⟨t0,t1,t2⟩:=HB0.out w2 (bel hb1 hb2)))
 have HB2:=hidM (bel hb1 hb2);clear r0 c0 c2 s0 s1 s2 t0 t1 t2 hb1 hb2 KG KP
 go_loopw [41] (fun iv wr=>∃j:Nat,j<=N2/\iv=.int .i64 j/\Hid (∃X,Zip T B wr R a X c (ahJ c l j)/\Un (fun b=>b=a.S) w wr)) (fun iv _=>N2-(intOf iv).toNat)
 case atStart=>exact⟨0,Nat.zero_le _,rfl,_,HH.out.below HB2.out,Un.of HB2.out⟩
 case round=>
  obtain⟨j,hj,rfl,HR⟩:=hrel;obtain⟨X1,hrun,hun⟩:=HR.out;have HRUN:=hidM hrun;have HUN:=hidM hun;by_cases hlt:j<N2
  ·have hjc:j<c.slots.length:=by rw[HE.out.2.1];exact hlt
   have hjl:j<(ahJ c l j).length:=by rw[hrun.len];exact hjc
   obtain⟨q,cap,hq,hrow⟩:=hrun.code.slots;rw[HV2.out]at hq;simp only[Value.slice.injEq,true_and]at hq;obtain⟨rfl,rfl⟩:=hq;rcases hrow with e|⟨sb,so,rfl,hnS,hsl,hcel⟩
   ·rw[e]at hjc;exact absurd hjc (Nat.not_lt_zero _)
   have hcj:=hcel j hjc;have hty:=HG.out.1.slotT (List.getElem_mem hjc);have hbit:=HG.out.2.1.sbits _ (List.getElem_mem hjc);have hbok:=Zuw HG.out.1 (List.getElem_mem hjc) hbit;have r0:wr.cell? ⟨R,0,none⟩=some (.pointer (some ⟨a.C,0,none⟩)):=hrun.run.at 0 rfl;have r1:wr.cell? ⟨R,1,none⟩=some (.slice a.sp c.slots.length a.sc):=hrun.run.at 1 rfl;have hsp:a.sp=some ⟨a.S,0,none⟩:=by
    rcases hrun.slots.sp with e|e
    ·rw[e]at hjl;exact absurd hjl (Nat.not_lt_zero _)
    ·exact e
   have x0:=hrun.slots.row.cell (i:=j*2) (by have:=hrun.slots.le;omega);have x1:=hrun.slots.row.cell (i:=j*2+1) (by have:=hrun.slots.le;omega);have x2:=hrun.slots.row.frozen (j*2);have x3:=hrun.slots.row.frozen (j*2+1);rw[hsp,HE.out.2.1]at r1;rw[HE.out.2.2]at r0;obtain⟨sj,hsj⟩:∃sj,c.slots[j]=sj:=⟨_,rfl⟩
   have HAH:Hid (ahJ c l (j+1)=if sj.keep then ahJ c l j else(ahJ c l j).set j (Ziy c sj)):=by
    show ahJ c l (j+1)=_;rw[←hsj]
    conv=>lhs;unfold ahJ
    rw[List.getElem?_eq_getElem hjc]
   have HPUT:Hid (∀v u,Below wr.heap.size wr v->Pt T v u (Ziy c sj).pats->∃X',Zip T B ((v.setCell ⟨a.S,j*2,none⟩ u).setCell ⟨a.S,j*2+1,none⟩ (.int .i64 (Ziy c sj).whole)) R a X' c ((ahJ c l j).set j (Ziy c sj))):=fun v u hv hu=>(hrun.below hv).put hjl hu (fun h'=>by rw[hsj]at hbok ⊢;exact hbok);rw[hsj]at hcj hty hbit;have KB:∀v,Below wr.heap.size wr v->Calls prog 20 #[.pointer (some ⟨a.C,0,none⟩),slV sj] v fun e w'=>∃g,e=.returned (.agg #[.slice (some ⟨g,0,none⟩) (Zhy c sj.ty) (Zhy c sj.ty),.int .i64 sj.int_])/\v.heap.size<=g/\w'.rowIs g 43 (Zhy c sj.ty) (fun _=>.int .u32 (canon sj.bits))/\Below v.heap.size v w':=fun v hv=>Zyi a c HG.out.1 sj hbit v (hrun.code.below hv) hty;obtain⟨Wd,hWd⟩:∃Wd,Zhy c sj.ty=Wd:=⟨_,rfl⟩
   have HFill:Hid ((Ziy c sj).pats=List.replicate Wd (canon sj.bits)/\(Ziy c sj).whole=sj.int_):=by rw[←hWd];exact⟨rfl,rfl⟩
   rw[hWd,HE.out.2.2]at KB;obtain⟨bg,hbg⟩:∃bg,Ziy c sj=bg:=⟨_,rfl⟩
   rw[hbg]at HAH HPUT HFill;obtain⟨⟨tk,tp⟩,kp,bt,it⟩:=sj;unfold slV at KB;unfold slC at hcj;simp only at KB hcj HFill hbit HAH;have HKB:Hid (∀v,Below wr.heap.size wr v->Calls prog 20 #[.pointer (some ⟨C,0,none⟩),.agg #[.int .i64 tk,.int .i64 tp,.bool kp,.int .u32 bt,.int .i64 it]] v fun e w'=>∃g,e=.returned (.agg #[.slice (some ⟨g,0,none⟩) Wd Wd,.int .i64 it])/\v.heap.size<=g/\w'.rowIs g 43 Wd (fun _=>.int .u32 (canon bt))/\Below v.heap.size v w'):=KB;have y0:=hcj.at 0 (v:=.int .i64 tk) rfl;rw[Nat.add_zero]at y0;have y1:=hcj.at 1 (v:=.int .i64 tp) rfl;have y2:=hcj.at 2 (v:=.bool kp) rfl;have y3:=hcj.at 3 (v:=.int .u32 bt) rfl;have y4:=hcj.at 4 (v:=.int .i64 it) rfl;have szS:a.S<wr.heap.size:=hrun.slots.row.lt;have n1:a.S≠wr.heap.size:=oM;have n2:a.S≠R:=fun e=>hrun.hR (by rw[←e];exact hrun.hS);have HTlt:Hid (∀b,T b->b<wr.heap.size):=fun b hb=>Nat.lt_of_lt_of_le (HG.out.2.2.1 b hb) HUN.out.size;obtain⟨Sb,hSb⟩:∃Sb,a.S=Sb:=⟨_,rfl⟩
   obtain⟨sc,hsc⟩:∃sc,a.sc=sc:=⟨_,rfl⟩
   obtain⟨z0,hz0⟩:∃z0,X1 (j*2)=z0:=⟨_,rfl⟩
   obtain⟨z1,hz1⟩:∃z1,X1 (j*2+1)=z1:=⟨_,rfl⟩
   rw[hz0]at x0;rw[hz1]at x1;simp only[hSb,hsc]at x0 x1 x2 x3 r1 n1 n2 HPUT;have HSb:=hidM hSb;obtain⟨V1,hV1⟩:∃V1,wr.alloc (.cells #[.int .i64 tk,.int .i64 tp,.bool kp,.int .u32 bt,.int .i64 it] 72)=V1:=⟨_,rfl⟩
   have HB5:Hid (Below wr.heap.size wr V1):=by rw[←hV1];exact Zhq _ _
   have HC5:Hid (∀v,Below V1.heap.size V1 v->v.cell? ⟨R,0,none⟩=some (.pointer (some ⟨C,0,none⟩))/\v.cell? ⟨R,1,none⟩=some (.slice (some ⟨Sb,0,none⟩) N2 sc)/\v.cell? ⟨wr.heap.size,0,none⟩=some (.int .i64 tk)/\v.cell? ⟨wr.heap.size,1,none⟩=some (.int .i64 tp)/\v.cell? ⟨wr.heap.size,2,none⟩=some (.bool kp)/\v.cell? ⟨wr.heap.size,3,none⟩=some (.int .u32 bt)/\v.cell? ⟨wr.heap.size,4,none⟩=some (.int .i64 it)/\v.cell? ⟨Sb,j*2,none⟩=some z0/\v.cell? ⟨Sb,j*2+1,none⟩=some z1/\v.frozen? ⟨Sb,j*2,none⟩=false/\v.frozen? ⟨Sb,j*2+1,none⟩=false):=by
    intro v hv;have hv2:=bel HB5.out hv;rw[←hV1]at hv;exact⟨kc hv2 r0,kc hv2 r1,kc hv sG,kc hv sG,kc hv sG,kc hv sG,kc hv sG,kc hv2 x0,kc hv2 x1,kf hv2 x0 x2,kf hv2 x1 x3⟩
   obtain⟨a0,a1,a2,a3,a4,a5,a6,a7,a8,a9,a10⟩:=HC5.out V1 (bel0 _);clear KB hWd hsj hbg hcel hcj hrun hun hty hbit hbok x0 x1 x2 x3 r0 r1 hnS hsl hsp hSb hsc hz0 hz1 hjl szS;cases kp with
   |true=>
    go_wp2;clear hV1;go_roundw
    case rel=>
     refine⟨j+1,oM,gN,X1,?_,HUN.out.on HB5.out⟩;rw[HAH.out];exact HRUN.out.below HB5.out
    case measure=>simp[intOf];omega
   |false=>
    go_wp2;clear hV1;refine rG (fun v=>v.cell? ⟨R,0,none⟩=some (.pointer (some ⟨C,0,none⟩))/\v.cell? ⟨R,1,none⟩=some (.slice (some ⟨Sb,0,none⟩) N2 sc)/\v.cell? ⟨wr.heap.size,0,none⟩=some (.int .i64 tk)/\v.cell? ⟨wr.heap.size,1,none⟩=some (.int .i64 tp)/\v.cell? ⟨wr.heap.size,2,none⟩=some (.bool false)/\v.cell? ⟨wr.heap.size,3,none⟩=some (.int .u32 bt)/\v.cell? ⟨wr.heap.size,4,none⟩=some (.int .i64 it)) fun hHeld=>?_;refine Tf 0 1 2 3 4 5 ?_;refine Tc 6 7 8 ?_;refine tkT 9 ?_;clear hHeld;refine ry1 10 fun K hK=>?_;go_simp;(go_at_call 20;refine(HKB.out _ (bel HB5.out (Zht _))).mono ?_;rintro e v2 ⟨g,rfl,hg2,hr2,hb6⟩;have HB6:Hid (Below V1.heap.size V1 v2):=bel (Zht _) hb6;have HR6:=hidM hr2;have HG6:Hid (V1.heap.size<=g):=hg2;obtain⟨a0,a1,a2,a3,a4,a5,a6,a7,a8,a9,a10⟩:=HC5.out v2 HB6.out;clear hr2 hg2 hb6);try(go_wp2_with fail)
    refine okK hK fun hHeld=>?_;clear hK K;refine tkT 11 ?_;clear hHeld;refine ry1 12 fun K hK=>?_;go_simp;refine okK hK fun hHeld=>?_;clear hK K;refine wpAnyH_done kR ?_ _;go_wp2;go_roundw
    case rel=>
     have hB:=bel HB5.out HB6.out;have hgs:=HB5.out.size;have hg7:=HG6.out;have hpt:Pt T v2 (.slice (some ⟨g,0,none⟩) Wd Wd) bg.pats:=Pt.of_row HR6.out (fun e=>by have:=HTlt.out g e;omega) (by rw[HFill.out.1];simp) (fun i hi=>by rw[HFill.out.1];unfold atL;simp[hi]) Wd;obtain⟨X',hX'⟩:=HPUT.out v2 _ hB hpt;rw[HFill.out.2]at hX';refine⟨j+1,oM,gN,X',?_,?_⟩
     ·rw[HAH.out];exact hX'
     ·rw[HSb.out];have hun:=HUN.out;rw[HSb.out]at hun;exact((hun.on hB).setCell (p:=⟨Sb,j*2,none⟩) rF _).setCell (p:=⟨Sb,j*2+1,none⟩) rF _
    case measure=>simp[intOf];omega
  ·have hjN:j=N2:=oM;subst hjN;have hTw:∀b,T b->b<wr.heap.size:=fun b hb=>Nat.lt_of_lt_of_le (HG.out.2.2.1 b hb) hun.size;have hl9:c.slots.length=j:=HE.out.2.1;have KN2:=hidM (KNF.out wr X1 (ahJ c l j) hrun hTw (HGV.out.1.un hun (fun b _ e=>e▸HH.out.hS)) (HGV.out.2.un hun (fun b _ e=>e▸HH.out.hS)));have HGO:Hid (∀ (v:World) (FR NB WB MB UB:Nat) (ub:Nat->Nat) (E':Nat),FX T wr.heap.size E' {a with FR:=FR,NB:=NB,WB:=WB,MB:=MB,UB:=UB,ub:=ub,gv:=.slice gp gl gq,pv:=.slice pp pl pq} c G P v->FV T wr.heap.size E' {a with FR:=FR,NB:=NB,WB:=WB,MB:=MB,UB:=UB,ub:=ub,gv:=.slice gp gl gq,pv:=.slice pp pl pq} c v X1 0 (fun _=>none) ⟨fun _=>0,fun _=>0,fun _=>[],ahJ c l j,fun _ _=>0⟩->Below wr.heap.size wr v->Calls prog 27 #[.pointer (some ⟨FR,0,none⟩)] v fun e w'=>e=.returned (.tuple #[])/\w'.cell? ⟨FR,7,none⟩=some (.slice (some ⟨UB,0,none⟩) N0 N0)/\(∃X',Zip T B w' R a X' c (endJ c l G P).slots)/\Un (fun b=>b=a.S) w w'/\VsT (fun b=>b<w.heap.size) w' (.slice (some ⟨UB,0,none⟩) N0 N0) (updP c (endJ c l G P))/\UpdO T B w w' R a c (endJ c l G P) UB):=by
    intro v FR NB WB MB UB ub E' hx hv hb;have hok:OkF c ⟨fun _=>0,fun _=>0,fun _=>[],ahJ c l j,fun _ _=>0⟩:=⟨fun _=>Zpv,fun _=>⟨Int.le_refl _,by show(0:Int)<=2147483647;decide⟩,fun _ y hy=>(by cases hy),fun _=>Nat.zero_le _,hrun.len,hrun.ok⟩
    have hgo:=Zzy v hx hv HG.out.1 hok HG.out.2.2.2.2.2 HG.out.2.1.ibits HG.out.2.2.2.1 HG.out.2.2.2.2.1;refine hgo.mono ?_;rintro e w' ⟨h1,h2,⟨X2,M2,m2,h3,h4⟩,h5⟩;have he:(goI c G P (⟨fun _=>0,fun _=>0,fun _=>[],ahJ c l j,fun _ _=>0⟩,0) c.list).1=endJ c l G P:=by unfold endJ Zkx;rw[hl9]
    rw[he]at h3 h4;have f7:=h2.f7;rw[HE.out.1]at f7;have hfin:=Zarn hrun HG.out.2.2.1 hun h2 h3 h4 hb h5;rw[HE.out.1]at hfin;exact⟨h1,f7,hfin⟩
   clear hrun hun hTw KNF HGV hl9;go_wp2_with(first
    |(go_at_call 26;refine KN2.out.mono ?_;rintro e v1 ⟨FR,NB,WB,MB,UB,ub,E',rfl,hfx,hfv,hb7⟩;have HK9:=hidM (HGO.out v1 FR NB WB MB UB ub E' hfx hfv hb7);clear hfx hfv hb7)
    |(go_at_call 27;refine HK9.out.mono ?_;rintro e v2 ⟨rfl,f7,hfin⟩;have HFIN:=hidM hfin;clear hfin))
   go_returns;exact⟨UB,rfl,HFIN.out⟩
theorem Zyy{T:Nat->Prop}{B:Nat}(w:World)(R:Nat)(a:Lay)(X:Nat->Value)(c:Cd)(l:List Hd)(h:Zip T B w R a X c l)(hc:(Zik c).1=0)(hk:CdOk c)(hT:∀b,T b->b<w.heap.size)(gv pv:Value)(G P:List (List Int))(hgv:VsT T w gv G)(hpv:VsT T w pv P)(kG:VsOk G)(kP:VsOk P)(hf:Zly c G P=true):
 Calls prog 10 #[.pointer (some ⟨R,0,none⟩),gv,pv] w fun e w'=>∃UB,e=.returned (.tuple #[.slice (some ⟨UB,0,none⟩) c.sign.length c.sign.length,.int .i64 0])/\(∃X',Zip T B w' R a X' c (endJ c l G P).slots)/\Un (fun b=>b=a.S) w w'/\VsT (fun b=>b<w.heap.size) w' (.slice (some ⟨UB,0,none⟩) c.sign.length c.sign.length) (updP c (endJ c l G P)):=
 (Zagw w R a X c l h hc hk hT gv pv G P hgv hpv kG kP hf).mono fun _ _ ⟨UB,h1,h2,h3,h4,_⟩=>⟨UB,h1,h2,h3,h4⟩
end Go.Proofs.YtbinohkcolcbfaaGreat
