import Derived.Test.YtbinohkcolcbfaaGreatPart1
import Derived.Test.YtbinohkcolcbfaaGreatPart20
namespace Go.Proofs.YtbinohkcolcbfaaGreat
open Go.RowKit Go.Proofs.Tryz
set_option linter.unusedVariables false
set_option linter.unusedSimpArgs false
set_option maxRecDepth 100000
set_option maxHeartbeats 16000000
theorem do_grad{T:Nat->Prop}{E E':Nat}{a:Lay}{c:Cd}{G P:List (List Int)}{X:Nat->Value}{M:Nat}{m:Nat->Option Value}{f:Fr}(w:World)(x:FX T E E' a c G P w)(h:FV T E E' a c w X M m f)(hg:Good c)(ok:OkF c f)(hM:M<=1000000)(ib io:Nat)(i:Ins)(hi:InsT (mutT T E E') w ib io i)
 (hop:i.op=29) (hL:FitV c G) (hp:Zpp c i.d i.n):
 Calls prog 45 #[.pointer (some ⟨a.FR,0,none⟩),.pointer (some ⟨ib,io,none⟩)] w fun e w'=>e=.returned (.tuple #[])/\Zhv T E E' a c G P M {f with vecs:=putN f.vecs i.d.toNat (Zir c G i)} w w':=by
 have HK:Hid (∀v,Below w.heap.size w v->Calls prog 72 #[.pointer (some ⟨a.FR,0,none⟩),a.gv,.pointer (some ⟨ib,io,none⟩)] v fun e w'=>∃g,e=.returned (.slice (some ⟨g,0,none⟩) (Zir c G i).length (Zir c G i).length)/\v.heap.size<=g/\w'.rowIs g 43 (Zir c G i).length (fun j=>.int .u32 (atL (Zir c G i) j))/\Below v.heap.size v w'):=fun v hv=>Zadd v (x.below hv) hg a.gv G (x.g.below hv) hL ib io i (hi.below hv).cells hp;obtain⟨l,hl⟩:∃l,Zir c G i=l:=⟨_,rfl⟩
 rw[hl]at HK ⊢;have q0:=hi.cells.at 0 rfl;rw[Nat.add_zero]at q0;have q1:=hi.cells.at 1 rfl;have d0:=hp.r0;have d1:=hp.r1;obtain⟨op,D,A,B,Ec,nn,bt⟩:=i;simp only at *;subst hop;obtain⟨D,rfl⟩:∃j:Nat,D=(j:Int):=⟨D.toNat,oM⟩
 rw[Int.toNat_natCast];have hD:D<c.regs.length:=oM;have f4:=x.f4;have f5:=x.f5;have hN:=hg.regsL;obtain⟨F,hF⟩:∃F:Fr,({f with vecs:=putN f.vecs D l}:Fr)=F:=⟨_,rfl⟩
 have HFin:Hid (∀v g,Below w.heap.size w v->w.heap.size<=g->v.rowIs g 43 l.length (fun j=>.int .u32 (atL l j))->∃v2,(Instr.mapUpdate 92 (.map (some a.MB)) (.int .i64 (D:Int)) (.slice (some ⟨g,0,none⟩) l.length l.length)).run prog v=.ok () v2/\Zhv T E E' a c G P M F w v2/\(∀b,b<v.heap.size->b≠a.MB->v2.heap[b]? =v.heap[b]?)):=by
  exact Zcg
 rw[hF];have n1:a.FR≠a.MB:=x.d1.2.2.1;have n2:ib≠a.MB:=fun e=>hi.not (by rw[e];exact .inr x.iMB);have hlt1:a.FR<w.heap.size:=by have:=x.iFR;have:=x.hE';omega
 have hlt2:=hi.lt;obtain⟨FR,hFR⟩:∃FR,a.FR=FR:=⟨_,rfl⟩
 obtain⟨MB,hMB⟩:∃MB,a.MB=MB:=⟨_,rfl⟩
 obtain⟨gv,hgv⟩:∃gv,a.gv=gv:=⟨_,rfl⟩
 obtain⟨L,hL9⟩:∃L,l.length=L:=⟨_,rfl⟩
 simp only[hFR,hMB,hgv,hL9]at f4 f5 HK HFin n1 n2 hlt1 ⊢;clear x h hg hi ok hp hl hFR hMB hgv hL9 hF hL;go_enter func45,ntmps45;go_wp2;refine rG (fun v=>v.cell? ⟨FR,4,none⟩=some (.map (some MB))/\v.cell? ⟨ib,io+1,none⟩=some (.int .i64 (D:Int))/\v.cell? ⟨FR,5,none⟩=some gv) fun hHeld=>?_;refine Tf 0 1 2 3 4 5 ?_;refine Tf 6 7 8 9 10 11 ?_;refine Tb 12 13 ?_;clear hHeld;refine ry1 14 fun K hK=>?_;go_simp;(go_at_call 72;refine(HK.out _ (Zht _)).mono ?_;rintro e w1 ⟨g,rfl,hg1,hr1,hb1⟩;have HB1:=bel (Zht _) hb1;obtain⟨w2,hrun,hst,hkeep⟩:=HFin.out w1 g HB1 (by simpa using hg1) hr1;have HST:Hid (Zhv T E E' a c G P M F w w2):=hst;have z1:=kc HB1 f4;have z2:=kc HB1 q1;have z3:=kc HB1 f5;have y1:w2.cell? ⟨FR,4,none⟩=some (.map (some MB)):=(World.cell?_of_block (hkeep _ Zgg n1)).trans z1;have y2:w2.cell? ⟨ib,io+1,none⟩=some (.int .i64 (D:Int)):=(World.cell?_of_block (hkeep _ Zgg n2)).trans z2;have y3:w2.cell? ⟨FR,5,none⟩=some gv:=(World.cell?_of_block (hkeep _ Zgg n1)).trans z3;clear hb1 hr1 hst hkeep hg1);try(go_wp2_with fail)
 refine okK hK fun hHeld=>?_;clear hK K;clear hHeld;refine ry1 15 fun K hK=>?_;go_simp;exact Zcx
theorem Zarf{T:Nat->Prop}{E E':Nat}{a:Lay}{c:Cd}{G P:List (List Int)}{X:Nat->Value}{M:Nat}{m:Nat->Option Value}{f:Fr}(w:World)(x:FX T E E' a c G P w)(h:FV T E E' a c w X M m f)(hg:Good c)(ok:OkF c f)(hM:M<=1000000)(ib io:Nat)(i:Ins)(hi:InsT (mutT T E E') w ib io i)
 (hop:i.op=30) (hL:FitV c P) (hp:Zpp c i.d i.n):
 Calls prog 45 #[.pointer (some ⟨a.FR,0,none⟩),.pointer (some ⟨ib,io,none⟩)] w fun e w'=>e=.returned (.tuple #[])/\Zhv T E E' a c G P M {f with vecs:=putN f.vecs i.d.toNat (Zir c P i)} w w':=by
 have HK:Hid (∀v,Below w.heap.size w v->Calls prog 72 #[.pointer (some ⟨a.FR,0,none⟩),a.pv,.pointer (some ⟨ib,io,none⟩)] v fun e w'=>∃g,e=.returned (.slice (some ⟨g,0,none⟩) (Zir c P i).length (Zir c P i).length)/\v.heap.size<=g/\w'.rowIs g 43 (Zir c P i).length (fun j=>.int .u32 (atL (Zir c P i) j))/\Below v.heap.size v w'):=fun v hv=>Zadd v (x.below hv) hg a.pv P (x.p.below hv) hL ib io i (hi.below hv).cells hp;obtain⟨l,hl⟩:∃l,Zir c P i=l:=⟨_,rfl⟩
 rw[hl]at HK ⊢;have q0:=hi.cells.at 0 rfl;rw[Nat.add_zero]at q0;have q1:=hi.cells.at 1 rfl;have d0:=hp.r0;have d1:=hp.r1;obtain⟨op,D,A,B,Ec,nn,bt⟩:=i;simp only at *;subst hop;obtain⟨D,rfl⟩:∃j:Nat,D=(j:Int):=⟨D.toNat,oM⟩
 rw[Int.toNat_natCast];have hD:D<c.regs.length:=oM;have f4:=x.f4;have f5:=x.f6;have hN:=hg.regsL;obtain⟨F,hF⟩:∃F:Fr,({f with vecs:=putN f.vecs D l}:Fr)=F:=⟨_,rfl⟩
 have HFin:Hid (∀v g,Below w.heap.size w v->w.heap.size<=g->v.rowIs g 43 l.length (fun j=>.int .u32 (atL l j))->∃v2,(Instr.mapUpdate 92 (.map (some a.MB)) (.int .i64 (D:Int)) (.slice (some ⟨g,0,none⟩) l.length l.length)).run prog v=.ok () v2/\Zhv T E E' a c G P M F w v2/\(∀b,b<v.heap.size->b≠a.MB->v2.heap[b]? =v.heap[b]?)):=by
  exact Zcg
 rw[hF];have n1:a.FR≠a.MB:=x.d1.2.2.1;have n2:ib≠a.MB:=fun e=>hi.not (by rw[e];exact .inr x.iMB);have hlt1:a.FR<w.heap.size:=by have:=x.iFR;have:=x.hE';omega
 have hlt2:=hi.lt;obtain⟨FR,hFR⟩:∃FR,a.FR=FR:=⟨_,rfl⟩
 obtain⟨MB,hMB⟩:∃MB,a.MB=MB:=⟨_,rfl⟩
 obtain⟨gv,hgv⟩:∃gv,a.pv=gv:=⟨_,rfl⟩
 obtain⟨L,hL9⟩:∃L,l.length=L:=⟨_,rfl⟩
 simp only[hFR,hMB,hgv,hL9]at f4 f5 HK HFin n1 n2 hlt1 ⊢;clear x h hg hi ok hp hl hFR hMB hgv hL9 hF hL;go_enter func45,ntmps45;go_wp2;refine rG (fun v=>v.cell? ⟨FR,4,none⟩=some (.map (some MB))/\v.cell? ⟨ib,io+1,none⟩=some (.int .i64 (D:Int))/\v.cell? ⟨FR,6,none⟩=some gv) fun hHeld=>?_;refine Tf 0 1 2 3 4 5 ?_;refine Tf 6 7 8 9 10 11 ?_;refine Tb 12 13 ?_;clear hHeld;refine ry1 14 fun K hK=>?_;go_simp;(go_at_call 72;refine(HK.out _ (Zht _)).mono ?_;rintro e w1 ⟨g,rfl,hg1,hr1,hb1⟩;have HB1:=bel (Zht _) hb1;obtain⟨w2,hrun,hst,hkeep⟩:=HFin.out w1 g HB1 (by simpa using hg1) hr1;have HST:Hid (Zhv T E E' a c G P M F w w2):=hst;have z1:=kc HB1 f4;have z2:=kc HB1 q1;have z3:=kc HB1 f5;have y1:w2.cell? ⟨FR,4,none⟩=some (.map (some MB)):=(World.cell?_of_block (hkeep _ Zgg n1)).trans z1;have y2:w2.cell? ⟨ib,io+1,none⟩=some (.int .i64 (D:Int)):=(World.cell?_of_block (hkeep _ Zgg n2)).trans z2;have y3:w2.cell? ⟨FR,6,none⟩=some gv:=(World.cell?_of_block (hkeep _ Zgg n1)).trans z3;clear hb1 hr1 hst hkeep hg1);try(go_wp2_with fail)
 refine okK hK fun hHeld=>?_;clear hK K;clear hHeld;refine ry1 15 fun K hK=>?_;go_simp;exact Zcx
theorem do_out{T:Nat->Prop}{E E':Nat}{a:Lay}{c:Cd}{G P:List (List Int)}{X:Nat->Value}{M:Nat}{m:Nat->Option Value}{f:Fr}(w:World)(x:FX T E E' a c G P w)(h:FV T E E' a c w X M m f)(hg:Good c)(ok:OkF c f)(hM:M<=1000000)(ib io:Nat)(i:Ins)(hi:InsT (mutT T E E') w ib io i)
 (hop:i.op=31) (hp:Zpp c i.a i.n) (hl:(f.vecs i.a.toNat).length=lenOf c (regT c.regs i.a).par):
 Calls prog 45 #[.pointer (some ⟨a.FR,0,none⟩),.pointer (some ⟨ib,io,none⟩)] w fun e w'=>e=.returned (.tuple #[])/\Zhv T E E' a c G P M {f with outs:=outP f.outs (regT c.regs i.a).par.toNat (Zia c (regT c.regs i.a).par) i.n.toNat (f.vecs i.a.toNat)} w w':=by
 have HK:=hidM (out_any w x h hg ok ib io i hi hp hl);obtain⟨F,hF⟩:∃F:Fr,({f with outs:=outP f.outs (regT c.regs i.a).par.toNat (Zia c (regT c.regs i.a).par) i.n.toNat (f.vecs i.a.toNat)}:Fr)=F:=⟨_,rfl⟩
 rw[hF]at HK ⊢;have q0:=hi.cells.at 0 rfl;rw[Nat.add_zero]at q0;rw[hop]at q0;obtain⟨FR,hFR⟩:∃FR,a.FR=FR:=⟨_,rfl⟩
 rw[hFR]at HK ⊢;clear x h hg hi ok hp hl hF hFR hop;go_enter func45,ntmps45;go_wp2_with(go_at_call 73;refine HK.out.mono ?_;rintro e w1 ⟨rfl,hst⟩;have HST:=hidM hst;clear hst)
 go_end0
 exact⟨rfl,HST.out⟩
theorem Zaeg{T:Nat->Prop}{E E':Nat}{a:Lay}{c:Cd}{G P:List (List Int)}{X:Nat->Value}{M:Nat}{m:Nat->Option Value}{f:Fr}(w:World)(x:FX T E E' a c G P w)(h:FV T E E' a c w X M m f)(hg:Good c)(ok:OkF c f)(hM:M<=1000000)(ib io:Nat)(i:Ins)(hi:InsT (mutT T E E') w ib io i)
 (hop:Zjj i.op=true) (F:Fr) (HK:Hid (Calls prog 76 #[.pointer (some ⟨a.FR,0,none⟩),.pointer (some ⟨ib,io,none⟩)] w fun e w'=>e=.returned (.tuple #[])/\Zhv T E E' a c G P M F w w')):
 Calls prog 45 #[.pointer (some ⟨a.FR,0,none⟩),.pointer (some ⟨ib,io,none⟩)] w fun e w'=>e=.returned (.tuple #[])/\Zhv T E E' a c G P M F w w':=by
 have q0:=hi.cells.at 0 rfl;rw[Nat.add_zero]at q0;obtain⟨FR,hFR⟩:∃FR,a.FR=FR:=⟨_,rfl⟩
 rw[hFR]at HK ⊢;unfold Zjj at hop;simp only[Bool.and_eq_true,decide_eq_true_eq]at hop;have hop':i.op=3\/i.op=4\/i.op=5\/i.op=6\/i.op=7\/i.op=8\/i.op=9\/i.op=10\/i.op=11\/i.op=12\/i.op=13\/i.op=14\/i.op=15:=oM;clear x h hg hi ok hFR hop;rcases hop' with e|e|e|e|e|e|e|e|e|e|e|e|e
 all_goals
  rw[e]at q0;clear e;go_enter func45,ntmps45;go_wp2_with(go_at_call 76;refine HK.out.mono ?_;rintro e w1 ⟨rfl,hst⟩;have HST:=hidM hst;clear hst)
  go_end0
  exact⟨rfl,HST.out⟩
theorem do_mark{T:Nat->Prop}{E E':Nat}{a:Lay}{c:Cd}{G P:List (List Int)}{X:Nat->Value}{M:Nat}{m:Nat->Option Value}{f:Fr}(w:World)(x:FX T E E' a c G P w)(h:FV T E E' a c w X M m f)(hg:Good c)(ok:OkF c f)(hM:M<=1000000)(ib io:Nat)(i:Ins)(hi:InsT (mutT T E E') w ib io i)
 (hop:34<=i.op/\i.op<=37):
 Calls prog 45 #[.pointer (some ⟨a.FR,0,none⟩),.pointer (some ⟨ib,io,none⟩)] w fun e w'=>e=.returned (.tuple #[])/\Zhv T E E' a c G P M f w w':=by
 have q0:=hi.cells.at 0 rfl;rw[Nat.add_zero]at q0;have HST:Hid (Zhv T E E' a c G P M f w w):=Zhv.same x h (bel0 _);obtain⟨FR,hFR⟩:∃FR,a.FR=FR:=⟨_,rfl⟩
 rw[hFR];have hop':i.op=34\/i.op=35\/i.op=36\/i.op=37:=oM;clear x h hg hi ok hFR hop;rcases hop' with e|e|e|e
 all_goals
  rw[e]at q0;clear e;go_enter func45,ntmps45;go_wp2
  go_end0
  exact⟨rfl,HST.out⟩
theorem do_load{T:Nat->Prop}{E E':Nat}{a:Lay}{c:Cd}{G P:List (List Int)}{X:Nat->Value}{M:Nat}{m:Nat->Option Value}{f:Fr}(w:World)(x:FX T E E' a c G P w)(h:FV T E E' a c w X M m f)(hg:Good c)(ok:OkF c f)(hM:M<=1000000)(ib io:Nat)(i:Ins)(hi:InsT (mutT T E E') w ib io i)
 (hop:i.op=32) (d0:0<=i.d) (d1:i.d<(c.regs.length:Int)) (n0:0<=i.n) (n1:i.n<(c.slots.length:Int)) (h1:(regT c.regs i.d).kind=1->∀hh,f.slots[i.n.toNat]? =some hh->hh.pats≠[]):
 Calls prog 45 #[.pointer (some ⟨a.FR,0,none⟩),.pointer (some ⟨ib,io,none⟩)] w fun e w'=>e=.returned (.tuple #[])/\Zhv T E E' a c G P M (stP c f i.d ((f.slots[i.n.toNat]?).getD ⟨[],0⟩)) w w':=by
 have q0:=hi.cells.at 0 rfl;rw[Nat.add_zero]at q0;have q1:=hi.cells.at 1 rfl;have q5:=hi.cells.at 5 rfl;obtain⟨op,D,A,B,Ec,nn,bt⟩:=i;simp only at *;subst hop;obtain⟨D,rfl⟩:∃j:Nat,D=(j:Int):=⟨D.toNat,oM⟩
 obtain⟨n,rfl⟩:∃j:Nat,nn=(j:Int):=⟨nn.toNat,oM⟩
 rw[Int.toNat_natCast]at h1 ⊢;have hD:D<c.regs.length:=oM;have hn:n<c.slots.length:=oM;have hnf:n<f.slots.length:=by rw[h.slotsL];exact hn
 rw[List.getElem?_eq_getElem hnf,Option.getD_some];have hp:=h.slots.pats n hnf;have hw:=h.slots.whole n hnf;have s1:=h.slots.row.cell (i:=2*n) Zgk;have s2:=h.slots.row.cell (i:=2*n+1) Zgk;rw[hw]at s2;have h1':c.regs[D].kind=1->(f.slots[n]'hnf).pats≠[]:=fun e=>h1 (by rw[Zkb hD];exact e) _ (List.getElem?_eq_getElem hnf);obtain⟨q,cap,hq⟩:=hp.len;have HK:Hid (∀v,Below w.heap.size w v->Calls prog 74 #[.pointer (some ⟨a.FR,0,none⟩),.int .i64 (D:Int),.agg #[.slice q (f.slots[n]'hnf).pats.length cap,.int .i64 (f.slots[n]'hnf).whole]] v fun e w'=>e=.returned (.tuple #[])/\Zhv T E E' a c G P M (stP c f D (f.slots[n]'hnf)) v w'):=fun v hv=>Zaeb v (x.below hv) (h.below hv) hg D hD hM q _ cap (f.slots[n]'hnf) (by rw[←hq];exact hp.below hv) h1';rw[hq]at s1;have f1:=x.f1;have hsp:a.sp=some ⟨a.S,0,none⟩:=by
  rcases h.slots.sp with e|e
  ·rw[e]at hnf;exact absurd hnf (Nat.not_lt_zero _)
  ·exact e
 rw[hsp]at f1;rw[Nat.mul_comm 2 n]at s1 s2;have hN:=hg.slotsL;obtain⟨FR,hFR⟩:∃FR,a.FR=FR:=⟨_,rfl⟩
 obtain⟨Sb,hSb⟩:∃Sb,a.S=Sb:=⟨_,rfl⟩
 obtain⟨N,hN'⟩:∃N,c.slots.length=N:=⟨_,rfl⟩
 obtain⟨L,hL⟩:∃L,(f.slots[n]'hnf).pats.length=L:=⟨_,rfl⟩
 obtain⟨wh,hwh⟩:∃wh,(f.slots[n]'hnf).whole=wh:=⟨_,rfl⟩
 obtain⟨F,hF⟩:∃F,stP c f D (f.slots[n]'hnf)=F:=⟨_,rfl⟩
 obtain⟨sc,hsc⟩:∃sc,a.sc=sc:=⟨_,rfl⟩
 have HKP:Hid (∀v,Zhv T E E' a c G P M (stP c f D (f.slots[n]'hnf)) w v->v.cell? ⟨a.FR,1,none⟩=some (.slice (some ⟨a.S,0,none⟩) c.slots.length a.sc)/\v.cell? ⟨ib,io+1,none⟩=some (.int .i64 (D:Int))/\v.cell? ⟨ib,io+5,none⟩=some (.int .i64 (n:Int))):=by
  intro v hv;have h1:=hv.1.f1;rw[hsp]at h1;have h2:=hi.un hv.2.2 (fun b _ e=>x.sub b e);exact⟨h1,h2.cells.at 1 rfl,h2.cells.at 5 rfl⟩
 simp only[hFR,hSb,hN',hL,hwh,hF,hsc]at f1 HK s1 s2 hN hn n1 HKP ⊢;clear x h hg hi ok hp hw hq hsp h1 h1' hFR hSb hN' hL hwh hF hsc;go_enter func45,ntmps45;go_wp2;refine rG (fun v=>v.cell? ⟨FR,1,none⟩=some (.slice (some ⟨Sb,0,none⟩) N sc)/\v.cell? ⟨ib,io+1,none⟩=some (.int .i64 (D:Int))/\v.cell? ⟨ib,io+5,none⟩=some (.int .i64 (n:Int))) fun hHeld=>?_;refine Tf 0 1 2 3 4 5 ?_;refine Tf 6 7 8 9 10 11 ?_;refine Tb 12 13 ?_;clear hHeld;refine ry1 14 fun K hK=>?_;go_simp;refine okK hK fun hHeld=>?_;clear hK K;clear hHeld;refine ry1 15 fun K hK=>?_;go_simp;(go_at_call 74;refine(HK.out _ (Zht _)).mono ?_;rintro e w1 ⟨rfl,hst⟩;have HST:=hidM (Zhv.pre (Zht _) hst);obtain⟨y1,y2,y3⟩:=HKP.out w1 HST.out;clear hst);try(go_wp2_with fail)
 exact Zcx
theorem Zapd{T:Nat->Prop}{E E':Nat}{a:Lay}{c:Cd}{G P:List (List Int)}{X:Nat->Value}{M:Nat}{m:Nat->Option Value}{f:Fr}(w:World)(x:FX T E E' a c G P w)(h:FV T E E' a c w X M m f)(hg:Good c)(ok:OkF c f)(hM:M<=1000000)(ib io:Nat)(i:Ins)(hi:InsT (mutT T E E') w ib io i)
 (hop:i.op=33) (a0:0<=i.a) (a1:i.a<(c.regs.length:Int)) (n0:0<=i.n) (n1:i.n<(c.slots.length:Int)):
 Calls prog 45 #[.pointer (some ⟨a.FR,0,none⟩),.pointer (some ⟨ib,io,none⟩)] w fun e w'=>e=.returned (.tuple #[])/\Zhv T E E' a c G P M {f with slots:=f.slots.set i.n.toNat (rdP c f i.a)} w w':=by
 have q0:=hi.cells.at 0 rfl;rw[Nat.add_zero]at q0;have q2:=hi.cells.at 2 rfl;have q5:=hi.cells.at 5 rfl;have hnot:=hi.not;obtain⟨op,D,A,B,Ec,nn,bt⟩:=i;simp only at *;subst hop;obtain⟨A,rfl⟩:∃j:Nat,A=(j:Int):=⟨A.toNat,oM⟩
 obtain⟨n,rfl⟩:∃j:Nat,nn=(j:Int):=⟨nn.toNat,oM⟩
 rw[Int.toNat_natCast];have hA:A<c.regs.length:=oM;have hn:n<c.slots.length:=oM;have hnf:n<f.slots.length:=by rw[h.slotsL];exact hn
 have HK:Hid (∀v,Below w.heap.size w v->Calls prog 75 #[.pointer (some ⟨a.FR,0,none⟩),.int .i64 (A:Int)] v fun e w'=>∃u,e=.returned (.agg #[u,.int .i64 (rdP c f A).whole])/\Pt (mutT T E E') w' u (rdP c f A).pats/\Below v.heap.size v w'):=fun v hv=>Zajz v (x.below hv) (h.below hv) hg A hA;have s1:=h.slots.row.cell (i:=n*2) Zgk;have s2:=h.slots.row.cell (i:=n*2+1) Zgk;have s3:=h.slots.row.frozen (n*2);have s4:=h.slots.row.frozen (n*2+1);obtain⟨F,hF⟩:∃F:Fr,({f with slots:=f.slots.set n (rdP c f A)}:Fr)=F:=⟨_,rfl⟩
 have HFin:Hid (∀v u,Below w.heap.size w v->Pt (mutT T E E') v u (rdP c f A).pats->Zhv T E E' a c G P M F w ((v.setCell ⟨a.S,n*2,none⟩ u).setCell ⟨a.S,n*2+1,none⟩ (.int .i64 (rdP c f A).whole))):=fun v u hv hu=>by rw[←hF];exact(Zhv.slot (x.below hv) (h.below hv) hnf hu).pre hv
 rw[hF];have f1:=x.f1;have hsp:a.sp=some ⟨a.S,0,none⟩:=by
  rcases h.slots.sp with e|e
  ·rw[e]at hnf;exact absurd hnf (Nat.not_lt_zero _)
  ·exact e
 rw[hsp]at f1;have hN:=hg.slotsL;have m1:a.S≠a.FR:=by have:=x.ltS;have:=x.iFR;omega
 have m2:a.S≠ib:=fun e=>hnot (by rw[←e];exact .inl x.hS);obtain⟨FR,hFR⟩:∃FR,a.FR=FR:=⟨_,rfl⟩
 obtain⟨Sb,hSb⟩:∃Sb,a.S=Sb:=⟨_,rfl⟩
 obtain⟨N,hN'⟩:∃N,c.slots.length=N:=⟨_,rfl⟩
 obtain⟨sc,hsc⟩:∃sc,a.sc=sc:=⟨_,rfl⟩
 obtain⟨wh,hwh⟩:∃wh,(rdP c f A).whole=wh:=⟨_,rfl⟩
 obtain⟨pt,hpt⟩:∃pt,(rdP c f A).pats=pt:=⟨_,rfl⟩
 obtain⟨x1,hx1⟩:∃x1,X (n*2)=x1:=⟨_,rfl⟩
 obtain⟨x2,hx2⟩:∃x2,X (n*2+1)=x2:=⟨_,rfl⟩
 rw[hx1]at s1;rw[hx2]at s2;simp only[hFR,hSb,hN',hwh,hpt,hsc]at f1 HK HFin s1 s2 s3 s4 hN hn n1 m1 m2 ⊢;clear x h hg hi ok hsp hFR hSb hN' hwh hpt hF hsc hx1 hx2 hnot;go_enter func45,ntmps45;go_wp2;refine rG (fun v=>v.cell? ⟨FR,1,none⟩=some (.slice (some ⟨Sb,0,none⟩) N sc)/\v.cell? ⟨ib,io+2,none⟩=some (.int .i64 (A:Int))/\v.cell? ⟨ib,io+5,none⟩=some (.int .i64 (n:Int))) fun hHeld=>?_;refine Tf 0 1 2 3 4 5 ?_;refine Tf 6 7 8 9 10 11 ?_;refine tkT 12 ?_;clear hHeld;refine ry1 13 fun K hK=>?_;go_simp;(go_at_call 75;refine(HK.out _ (Zht _)).mono ?_;rintro e w1 ⟨u,rfl,hu,hb1⟩;obtain⟨uq,uc,hue⟩:=hu.len;obtain⟨ul,hul⟩:∃ul,pt.length=ul:=⟨_,rfl⟩;rw[hul]at hue;subst hue;have HB1:=bel (Zht _) hb1;have HST:=hidM (HFin.out w1 _ HB1 hu);have z1:=kc HB1 f1;have z2:=kc HB1 q2;have z3:=kc HB1 q5;have z4:=kc HB1 s1;have z5:=kc HB1 s2;have z6:=kf HB1 s1 s3;have z7:=kf HB1 s2 s4;clear hb1 hu hul);try(go_wp2_with fail)
 refine okK hK fun hHeld=>?_;clear hK K;refine tkT 14 ?_;clear hHeld;refine ry1 15 fun K hK=>?_;go_simp;exact Zcx
def Zlu(c:Cd)(f:Fr)(r:Nat):Prop:=(regT c.regs (r:Int)).kind=3->(f.vecs r).length=lenOf c (regT c.regs (r:Int)).par
theorem Znx{rs:List Ty}{l n:Int}{m:Ty}(h:Zhx rs l n m=true)(h0:0<rs.length):0<=n/\n<(rs.length:Int):=by
 by_cases hl:l=0
 ·unfold Zhx at h;rw[if_pos hl]at h;simp only[beq_iff_eq]at h;omega
 ·exact Zie h hl
theorem Zka{rs:List Ty}{l n:Int}{m:Ty}(h:Zhx rs l n m=true)(hl:l≠0):Zjk l (regT rs n) m=true:=by
 unfold Zhx at h;rw[if_neg hl]at h;simp only[Bool.and_eq_true]at h;exact h.2
theorem fitsC_n{c:Cd}{i:Ins}{r:Rw}(h:Zjp c i r=true):Zkg c i r.n (Zij c.regs i r)=true:=by
 unfold Zjp at h;simp only[Bool.and_eq_true]at h;exact h.2.2.2.2
theorem Zacu{s:Wk}{i:Ins}{r:Rw}(h:Zqv s i r=true){n:Int}(hn:n∈Zid i r):n.toNat∈s.set:=by
 unfold Zqv at h;have:=List.all_eq_true.1 h n hn;simpa using this
structure Zlj(c:Cd)(f:Fr)(i:Ins):Prop where
 num:Zlx i.op=true->0<=i.d/\i.d<(c.regs.length:Int)/\(i.op≠1->0<=i.a/\i.a<(c.regs.length:Int))/\(i.op=16->0<=i.b/\i.b<(c.regs.length:Int))/\(regT c.regs i.d).kind=1
 whole:Zjv i.op=true->0<=i.d/\i.d<(c.regs.length:Int)/\(0<=i.a/\i.a<(c.regs.length:Int))/\(0<=i.b/\i.b<(c.regs.length:Int))/\(0<=i.c/\i.c<(c.regs.length:Int))/\(regT c.regs i.d).kind=2/\(i.op=2->0<=i.n/\i.n<=2147483647)
 part:i.op=29\/i.op=30->Zpp c i.d i.n
 out:i.op=31->Zpp c i.a i.n/\(f.vecs i.a.toNat).length=lenOf c (regT c.regs i.a).par
 load:i.op=32->0<=i.d/\i.d<(c.regs.length:Int)/\0<=i.n/\i.n<(c.slots.length:Int)/\slotT c.slots i.n=regT c.regs i.d
 store:i.op=33->0<=i.a/\i.a<(c.regs.length:Int)/\0<=i.n/\i.n<(c.slots.length:Int)/\slotT c.slots i.n=regT c.regs i.a/\Zlu c f i.a.toNat
 elem:Zjj i.op=true->0<=i.d/\i.d<(c.regs.length:Int)/\(0<=i.a/\i.a<(c.regs.length:Int))/\∀r∈Zid i (rowP i.op),0<=r/\r<(c.regs.length:Int)/\Zlu c f r.toNat/\(regT c.regs r=regT c.regs i.d\/((regT c.regs r).kind=1/\(regT c.regs i.d).kind=3))
theorem mem_a{i:Ins}{r:Rw}(h:r.a≠0):i.a∈Zid i r:=by unfold Zid;simp[h]
theorem Zxp{c:Cd}{f:Fr}{s:Wk}{i:Ins}(t:Zjb c s i=true)(hs:∀r∈s.set,Zlu c f r):Zlj c f i:=by
 obtain⟨_,h2,_,h4⟩:=Zjw t;have hd:=Zoa h2;have ha:=Zmj h2;have hb:=Zqd h2;have hc:=Zqe h2;have hn:=fitsC_n h2;have hr:=fun{n:Int} (hn:n∈Zid i (rowP i.op))=>hs _ (Zacu h4 hn);obtain⟨op,D,A,B,Ec,nn,bt⟩:=i;simp only at *;refine⟨fun h=>?_,fun h=>?_,fun h=>?_,fun h=>?_,fun h=>?_,fun h=>?_,fun h=>?_⟩
 ·unfold Zlx at h;simp only[Bool.or_eq_true,beq_iff_eq]at h;have hop:op=1\/op=16\/op=17\/op=19\/op=20:=oM;clear h;rcases hop with rfl|rfl|rfl|rfl|rfl
  all_goals
   have d:=Zie hd dE;have dm:=Zka hd dE;have a1:=Znx ha oM;have b1:=Znx hb oM;exact⟨d.1,d.2,fun _=>a1,fun _=>b1,by simpa[Zjk,rowP]using dm⟩
 ·unfold Zjv at h;simp only[Bool.or_eq_true,Bool.and_eq_true,beq_iff_eq,decide_eq_true_eq]at h;have hop:op=2\/op=18\/op=21\/op=22\/op=23\/op=24\/op=25\/op=26\/op=27\/op=28:=oM;clear h;rcases hop with rfl|rfl|rfl|rfl|rfl|rfl|rfl|rfl|rfl|rfl
  all_goals
   have d:=Zie hd dE;have dm:=Zka hd dE;have a1:=Znx ha oM;have b1:=Znx hb oM;have c1:=Znx hc oM;refine⟨d.1,d.2,a1,b1,c1,by simpa[Zjk,rowP]using dm,fun e=>?_⟩;simp[Zkg,rowP,Zph,Zlv]at hn;show 0<=nn/\nn<=2147483647;omega
 ·rcases h with rfl|rfl
  all_goals
   have d:=Zie hd dE;have dm:=Zka hd dE;refine⟨d.1,d.2,by simpa[Zjk,rowP]using dm,?_⟩;simp[Zkg,rowP,Zph,Zij,Znm]at hn;first|exact hn.2|(simpa using hn.2)
 ·subst h;have d:=Zie ha dE;have dm:=Zka ha dE;have k3:(regT c.regs A).kind=3:=by simpa[Zjk,rowP]using dm
  refine⟨⟨d.1,d.2,k3,?_⟩,?_⟩
  ·simp[Zkg,rowP,Zph,Zij,Znm]at hn;first|exact hn.2|(simpa using hn.2)
  ·have:=hr (n:=A) (mem_a (r:=rowP 31) dE);have e:((A.toNat:Nat):Int)=A:=oM;unfold Zlu at this;rw[e]at this;exact this k3
 ·subst h;have d:=Zie hd dE;simp[Zkg,rowP,Zph,Zij,Znm]at hn;have:=Zlf.1 hn.2.1;exact⟨d.1,d.2,this.1,this.2,hn.2.2⟩
 ·subst h;have d:=Zie ha dE;simp[Zkg,rowP,Zph,Zij,Znm]at hn;have:=Zlf.1 hn.2.1;exact⟨d.1,d.2,this.1,this.2,hn.2.2,hr (n:=A) (mem_a (r:=rowP 33) dE)⟩
 ·unfold Zjj at h;simp only[Bool.and_eq_true,decide_eq_true_eq]at h;have hop:op=3\/op=4\/op=5\/op=6\/op=7\/op=8\/op=9\/op=10\/op=11\/op=12\/op=13\/op=14\/op=15:=oM;clear h;rcases hop with rfl|rfl|rfl|rfl|rfl|rfl|rfl|rfl|rfl|rfl|rfl|rfl|rfl
  all_goals
   have d:=Zie hd dE;have a1:=Zie ha dE;refine⟨d.1,d.2,a1,fun r hrr=>⟨?_,?_,hr hrr,?_⟩⟩
   all_goals
    have am:=Zka ha dE;simp[Zid,rowP]at hrr;first
     |(
      have bm:=Zka hb dE;have b1:=Zie hb dE;have cm:=Zka hc dE;have c1:=Zie hc dE;simp[Zjk,rowP,Zij,Znm]at am bm cm
      rcases hrr with rfl|rfl|rfl<;>first|omega|(simpa using am)|(simpa using bm)|(simpa using cm))
     |(
      have bm:=Zka hb dE;have b1:=Zie hb dE;simp[Zjk,rowP,Zij,Znm]at am bm
      rcases hrr with rfl|rfl<;>first|omega|(simpa using am)|(simpa using bm))
     |(
      simp[Zjk,rowP,Zij,Znm]at am;subst hrr
      first|omega|(simpa using am))
theorem Zahb(X:Nat->Int)(n:Nat)(hX:∀i,IsP (X i)):IsP (Zmh X n):=Zpa Ztz Zgw hX n
theorem Zng{c:Cd}(hg:Good c){r:Int}(h0:0<=r)(h1:r<(c.regs.length:Int))(h3:(regT c.regs r).kind=3):1<=lenOf c (regT c.regs r).par/\Zhy c (regT c.regs r)=lenOf c (regT c.regs r).par:=by
 obtain⟨r,rfl⟩:∃j:Nat,r=(j:Int):=⟨r.toNat,oM⟩
 have hr:r<c.regs.length:=oM;rw[Zkb hr]at h3 ⊢;have hp:=Zlf.1 (hg.type (List.getElem_mem hr) h3);obtain⟨pp,hpp⟩:∃pp,c.regs[r].par=pp:=⟨_,rfl⟩
 refine⟨?_,by unfold Zhy;rw[if_pos h3]⟩;rw[hpp]at hp ⊢;obtain⟨p,rfl⟩:∃j:Nat,pp=(j:Int):=⟨pp.toNat,oM⟩
 obtain⟨_,e2,e3,_⟩:=Zot hg (p:=p) oM;omega
theorem rd_ok{c:Cd}{f:Fr}(hg:Good c)(ok:OkF c f){r:Int}(h0:0<=r)(h1:r<(c.regs.length:Int))(hs:Zlu c f r.toNat):HdOK c (regT c.regs r) (rdP c f r):=by
 have e:((r.toNat:Nat):Int)=r:=oM;unfold Zlu at hs;rw[e]at hs;have hty:(regT c.regs r).kind=1\/(regT c.regs r).kind=2\/(regT c.regs r).kind=3:=by
  obtain⟨r,rfl⟩:∃j:Nat,r=(j:Int):=⟨r.toNat,oM⟩
  have hr:r<c.regs.length:=oM;rw[Zkb hr];exact Zff
 unfold rdP HdOK;rcases hty with h|h|h
 ·rw[if_pos h];refine⟨by unfold Zhy;rw[if_neg oM,if_pos h];rfl,fun y hy=>?_,Int.le_refl _,by show(0:Int)<=2147483647;decide⟩;simp at hy;rw[hy];exact ok.nums _
 ·rw[if_neg oM,if_pos h];exact⟨by unfold Zhy;rw[if_neg oM,if_neg oM];rfl,fun y hy=>by simp at hy,ok.whs _⟩
 ·rw[if_neg oM,if_neg oM];refine⟨?_,ok.vecs _,Int.le_refl _,by show(0:Int)<=2147483647;decide⟩;rw[(Zng hg h0 h1 h).2];exact hs h
theorem app_isP{op:Int}{args:List (List Int)}(h:∀l∈args,∀y∈l,IsP y):∀y∈appP op args,IsP y:=by
 have hX:∀i j,IsP (xF args i j):=fun i j=>by
  exact Zed
 intro y hy;unfold appP at hy;split at hy
 ·simp only[List.mem_map]at hy;obtain⟨k,_,rfl⟩:=hy;exact Zxg _ _ _ _ (Zjr hX _ _ _) (Zjr hX _ _ _) (Zjr hX _ _ _)
 ·cases hy
theorem Zpk{c:Cd}{f:Fr}{i:Ins}(hg:Good c)(ok:OkF c f)(he:Zjj i.op=true)(nd:Zlj c f i)(hk:(regT c.regs i.d).kind≠2):
 1<=Zhy c (regT c.regs i.d)/\(∀r∈Zid i (rowP i.op),0<=r/\r<(c.regs.length:Int)/\((rdP c f r).pats.length=1\/(rdP c f r).pats.length=Zhy c (regT c.regs i.d))/\∀y∈(rdP c f r).pats,IsP y)/\((regT c.regs i.d).kind=1\/(regT c.regs i.d).kind=3):=by
 obtain⟨d0,d1,_,hr⟩:=nd.elem he;have hty:(regT c.regs i.d).kind=1\/(regT c.regs i.d).kind=3:=by
  obtain⟨r,hrr⟩:∃j:Nat,i.d=(j:Int):=⟨i.d.toNat,oM⟩
  rw[hrr]at hk d1 ⊢;have hr:r<c.regs.length:=oM;rw[Zkb hr]at hk ⊢;exact Zff
 refine⟨?_,fun r hm=>?_,hty⟩
 ·rcases hty with h|h
  ·unfold Zhy;rw[if_neg oM,if_pos h];exact Nat.le_refl _
  ·rw[(Zng hg d0 d1 h).2];exact(Zng hg d0 d1 h).1
 ·obtain⟨r0,r1,hs,hm2⟩:=hr r hm;have hh:=rd_ok hg ok r0 r1 hs;refine⟨r0,r1,?_,hh.2.1⟩;rcases hm2 with e|⟨e,_⟩
  ·right;rw[←e];exact hh.1
  ·left;rw[hh.1];unfold Zhy;rw[if_neg oM,if_pos e]
theorem Zpz{c:Cd}{f:Fr}{i:Ins}(hg:Good c)(ok:OkF c f)(he:Zjj i.op=true)(nd:Zlj c f i)(hk:(regT c.regs i.d).kind≠2):
 ((appP i.op (Zji c f i)).length=1\/(appP i.op (Zji c f i)).length=Zhy c (regT c.regs i.d))/\∀y∈appP i.op (Zji c f i),IsP y:=by
 obtain⟨h1,h2,_⟩:=Zpk hg ok he nd hk;have hall:∀l∈Zji c f i,(l.length=1\/l.length=Zhy c (regT c.regs i.d))/\∀y∈l,IsP y:=by
  intro l hl;unfold Zji at hl;simp only[List.mem_map]at hl;obtain⟨r,hr,rfl⟩:=hl;exact(h2 r hr).2.2
 have hne:(Zji c f i).length≠0:=by
  unfold Zji;rw[List.length_map,←(Zpf i he).1];exact(Zpf i he).2
 obtain⟨n,hn,hn2⟩:=Ztp (l:=lF (Zji c f i)) h1 ((Zji c f i).length-1) (fun k hk=>by
  unfold lF;rw[Znq oM]
  exact(hall _ (List.getElem_mem _)).1)
 exact⟨by rw[(Zxc (op:=i.op) hn).1];exact hn2,app_isP fun l hl=>(hall l hl).2⟩
theorem Zuy{l:List Int}(h:∀y∈l,IsP y):IsP (l.headD 0):=by
 cases l with
 |nil=>exact Zpv
 |cons y l=>exact h y sM
theorem st_ok{c:Cd}{f:Fr}(ok:OkF c f){r:Int}{h:Hd}(hp:∀y∈h.pats,IsP y)(hl:h.pats.length<=4096)(hw:0<=h.whole/\h.whole<=2147483647):OkF c (stP c f r h):=by
 unfold stP;split
 ·exact⟨Zlh ok.nums (Zuy hp),ok.whs,ok.vecs,ok.vecsL,ok.slotsL,ok.slots⟩
 ·split
  ·exact⟨ok.nums,Zlh (Q:=fun y:Int=>0<=y/\y<=2147483647) ok.whs hw,ok.vecs,ok.vecsL,ok.slotsL,ok.slots⟩
  ·exact⟨ok.nums,ok.whs,Zlh (Q:=fun l:List Int=>∀y∈l,IsP y) ok.vecs hp,Zlh (Q:=fun l:List Int=>l.length<=4096) ok.vecsL hl,ok.slotsL,ok.slots⟩
theorem st_set{c:Cd}{f:Fr}{r:Int}(hr:0<=r){h:Hd}(hl:(regT c.regs r).kind=3->h.pats.length=lenOf c (regT c.regs r).par){k:Nat}(hk:k≠r.toNat->Zlu c f k):Zlu c (stP c f r h) k:=by
 intro h3;by_cases e:k=r.toNat
 ·have e2:(k:Int)=r:=oM;rw[e2]at h3 ⊢;unfold stP;rw[if_neg oM,if_neg oM];simp only;rw[e,Zmn];exact hl h3
 ·have:=hk e h3;unfold stP;split
  ·exact this
  ·split
   ·exact this
   ·simp only;rw[Zml _ _ e];exact this
end Go.Proofs.YtbinohkcolcbfaaGreat
set_option maxRecDepth 100000
set_option maxHeartbeats 16000000
namespace Go.Proofs.YtbinohkcolcbfaaGreat
open Go.RowKit Go.Proofs.Tryz
set_option linter.unusedVariables false
set_option linter.unusedSimpArgs false
theorem Zoz{op:Int}(h:Zig op=true):Zlx op=true\/Zjv op=true\/op=29\/op=30\/op=31\/op=32\/op=33\/(34<=op/\op<=37)\/Zjj op=true:=by
 unfold Zig at h;unfold Zlx Zjv Zjj;simp only[Bool.and_eq_true,Bool.or_eq_true,decide_eq_true_eq,beq_iff_eq]at h ⊢;omega
theorem Zapo{op:Int}(h:Zjj op=true):Zlx op=false/\Zjv op=false/\op≠29/\op≠30/\op≠31/\op≠32/\op≠33/\¬ (34<=op/\op<=37):=by
 unfold Zjj at h;simp only[Bool.and_eq_true,decide_eq_true_eq]at h;exact Zcq
theorem Zaju{op:Int}(h:Zjv op=true):Zlx op=false/\op≠29/\op≠30/\op≠31/\op≠32/\op≠33/\¬ (34<=op/\op<=37):=by
 unfold Zjv at h;simp only[Bool.or_eq_true,Bool.and_eq_true,beq_iff_eq,decide_eq_true_eq]at h;have:op=2\/op=18\/op=21\/op=22\/op=23\/op=24\/op=25\/op=26\/op=27\/op=28:=oM;rcases this with rfl|rfl|rfl|rfl|rfl|rfl|rfl|rfl|rfl|rfl<;>decide
section
variable {c : Cd} {G P : List (List Int)} {f : Fr} {i : Ins}
theorem Znu(h:Zlx i.op=true):doI c G P f i={f with nums:=putN f.nums i.d.toNat (numI f i)}:=by unfold doI;rw[if_pos h]
theorem Zmi(h:Zjv i.op=true):doI c G P f i={f with whs:=putN f.whs i.d.toNat (Zmt f i)}:=by
 unfold doI;rw[(Zaju h).1,if_neg dE,if_pos h]
theorem Zou(h:i.op=29):doI c G P f i={f with vecs:=putN f.vecs i.d.toNat (Zir c G i)}:=by
 unfold doI;rw[h,if_neg dE,if_neg dE,if_pos rfl]
theorem Zor(h:i.op=30):doI c G P f i={f with vecs:=putN f.vecs i.d.toNat (Zir c P i)}:=by
 unfold doI;rw[h,if_neg dE,if_neg dE,if_neg dE,if_pos rfl]
theorem Zop(h:i.op=31):doI c G P f i={f with outs:=outP f.outs (regT c.regs i.a).par.toNat (Zia c (regT c.regs i.a).par) i.n.toNat (f.vecs i.a.toNat)}:=by
 unfold doI;rw[h,if_neg dE,if_neg dE,if_neg dE,if_neg dE,if_pos rfl]
theorem Zoo(h:i.op=32):doI c G P f i=stP c f i.d ((f.slots[i.n.toNat]?).getD ⟨[],0⟩):=by
 unfold doI;rw[h,if_neg dE,if_neg dE,if_neg dE,if_neg dE,if_neg dE,if_pos rfl]
theorem Zon(h:i.op=33):doI c G P f i={f with slots:=f.slots.set i.n.toNat (rdP c f i.a)}:=by
 unfold doI;rw[h,if_neg dE,if_neg dE,if_neg dE,if_neg dE,if_neg dE,if_neg dE,if_pos rfl]
theorem Zky(h:34<=i.op/\i.op<=37):doI c G P f i=f:=by
 have h0:Zlx i.op=false/\Zjv i.op=false:=by
  have:i.op=34\/i.op=35\/i.op=36\/i.op=37:=oM;rcases this with e|e|e|e<;>rw[e]<;>decide
 unfold doI;rw[h0.1,h0.2,if_neg dE,if_neg dE,if_neg oM,if_neg oM,if_neg oM,if_neg oM,if_neg oM,if_pos h]
theorem Zmd(h:Zjj i.op=true):doI c G P f i=Zll c f i:=by
 obtain⟨h1,h2,h3,h4,h5,h6,h7,h8⟩:=Zapo h;unfold doI;rw[h1,h2,if_neg dE,if_neg dE,if_neg h3,if_neg h4,if_neg h5,if_neg h6,if_neg h7,if_neg h8]
end
theorem num_isP{f:Fr}{c:Cd}(ok:OkF c f){i:Ins}(hb:IsP i.bits):IsP (numI f i):=by
 unfold numI;refine Zkd (fpow_lo _ _ (ok.nums _).1 (ok.nums _).2) (Zkd (Zapq _) (Zkd (isP_sum _ _ (Zke (ok.vecs _))) (Zkd (Zahb _ _ (Zke (ok.vecs _))) hb)))
theorem Zqs(b:Bool):0<=Zja b/\Zja b<=2147483647:=by cases b<;>decide
theorem Zms{p:Prop}[Decidable p]{x y:Int}(h:p->0<=x/\x<=2147483647)(k:¬p->0<=y/\y<=2147483647):0<=(if p then x else y)/\(if p then x else y)<=2147483647:=by
 split
 ·rename_i e;exact h e
 ·rename_i e;exact k e
theorem Zaqr{f:Fr}{c:Cd}(ok:OkF c f){i:Ins}(hw:Zjv i.op=true)(hn:i.op=2->0<=i.n/\i.n<=2147483647):0<=Zmt f i/\Zmt f i<=2147483647:=by
 have a:=ok.whs i.a.toNat;have b:=ok.whs i.b.toNat;have d:=ok.whs i.c.toNat;unfold Zjv at hw;simp only[Bool.or_eq_true,Bool.and_eq_true,beq_iff_eq,decide_eq_true_eq]at hw;unfold Zmt;refine Zms (fun _=>Zqs _) fun h1=>Zms (fun _=>by omega) fun h2=>Zms (fun _=>Zqs _) fun h3=>Zms (fun _=>Zqs _) fun h4=>Zms (fun _=>Zqs _) fun h5=>Zms (fun _=>Zqs _) fun h6=>Zms (fun _=>Zms (fun _=>d) fun _=>b) fun h7=>Zms (fun _=>by omega) fun h8=>Zms (fun _=>Zms (fun _=>by decide) fun _=>⟨Int.ediv_nonneg a.1 b.1,?_⟩) fun h9=>hn oM;have:=Int.ediv_le_self (f.whs i.b.toNat) a.1;omega
theorem do_ok{c:Cd}{G P:List (List Int)}{f:Fr}{i:Ins}(hg:Good c)(ok:OkF c f)(hk:Zig i.op=true)(hb:IsP i.bits)(nd:Zlj c f i)(fg:FitV c G)(fp:FitV c P):OkF c (doI c G P f i):=by
 have pl:∀L:List (List Int),FitV c L->(∀y∈Zir c L i,IsP y)/\(Zir c L i).length<=4096:=fun L hL=>by
  refine⟨fun y hy=>?_,by unfold Zir;simp only[List.length_map,List.length_range];exact hg.lenOf _⟩;unfold Zir at hy;simp only[List.mem_map]at hy;obtain⟨k,_,rfl⟩:=hy;refine Zmx _ (Zke ?_ _);unfold Zkt;cases e:L[(regT c.regs i.d).par.toNat]? with
  |none=>intro y hy;cases hy
  |some l=>exact hL.isP l (List.mem_of_getElem? e)
 rcases Zoz hk with h|h|h|h|h|h|h|h|h
 ·rw[Znu h];exact⟨Zlh ok.nums (num_isP ok hb),ok.whs,ok.vecs,ok.vecsL,ok.slotsL,ok.slots⟩
 ·rw[Zmi h];exact⟨ok.nums,Zlh (Q:=fun y:Int=>0<=y/\y<=2147483647) ok.whs (Zaqr ok h (nd.whole h).2.2.2.2.2.2),ok.vecs,ok.vecsL,ok.slotsL,ok.slots⟩
 ·rw[Zou h];exact⟨ok.nums,ok.whs,Zlh (Q:=fun l:List Int=>∀y∈l,IsP y) ok.vecs (pl G fg).1,Zlh (Q:=fun l:List Int=>l.length<=4096) ok.vecsL (pl G fg).2,ok.slotsL,ok.slots⟩
 ·rw[Zor h];exact⟨ok.nums,ok.whs,Zlh (Q:=fun l:List Int=>∀y∈l,IsP y) ok.vecs (pl P fp).1,Zlh (Q:=fun l:List Int=>l.length<=4096) ok.vecsL (pl P fp).2,ok.slotsL,ok.slots⟩
 ·rw[Zop h];exact⟨ok.nums,ok.whs,ok.vecs,ok.vecsL,ok.slotsL,ok.slots⟩
 ·rw[Zoo h];obtain⟨d0,d1,n0,n1,ht⟩:=nd.load h;have hn:i.n.toNat<c.slots.length:=oM;have hn2:i.n.toNat<f.slots.length:=by rw[ok.slotsL];exact hn
  have hh:=ok.slots i.n.toNat hn hn2;rw[List.getElem?_eq_getElem hn2,Option.getD_some];exact st_ok ok hh.2.1 (by rw[hh.1];exact hg.width _) hh.2.2
 ·rw[Zon h];obtain⟨a0,a1,n0,n1,ht,hs⟩:=nd.store h;have hh:=rd_ok hg ok a0 a1 hs;refine⟨ok.nums,ok.whs,ok.vecs,ok.vecsL,by simp[ok.slotsL],fun j h1 h2=>?_⟩;simp only[List.getElem_set];split
  ·rename_i e;subst e;have:slotT c.slots i.n=c.slots[i.n.toNat].ty:=by unfold slotT;rw[List.getElem?_eq_getElem h1];rfl
   rw[←this,ht];exact hh
  ·exact ok.slots j h1 (by simpa using h2)
 ·rw[Zky h];exact ok
 ·rw[Zmd h];obtain⟨d0,d1,a1,_⟩:=nd.elem h;unfold Zll;by_cases h2:(regT c.regs i.d).kind=2
  ·rw[if_pos h2];exact⟨ok.nums,Zlh (Q:=fun y:Int=>0<=y/\y<=2147483647) ok.whs (ok.whs _),ok.vecs,ok.vecsL,ok.slotsL,ok.slots⟩
  ·rw[if_neg h2];obtain⟨s1,s2⟩:=Zpz hg ok h nd h2;have hw:=hg.width (regT c.regs i.d);refine st_ok ok ?_ ?_ ⟨Int.le_refl _,by show(0:Int)<=2147483647;decide⟩
   ·intro y hy;dsimp only at hy;split at hy
    ·unfold Zkf at hy;rw[List.eq_of_mem_replicate hy];exact Zmx _ (Zuy s2)
    ·exact s2 y hy
   ·dsimp only;split
    ·unfold Zkf;rw[List.length_replicate];exact hw
    ·omega
theorem do_set{c:Cd}{G P:List (List Int)}{f:Fr}{i:Ins}(hg:Good c)(ok:OkF c f)(hk:Zig i.op=true)(nd:Zlj c f i){r:Nat}(hr:((rowP i.op).d=0\/r≠i.d.toNat)->Zlu c f r):Zlu c (doI c G P f i) r:=by
 have pl:∀L:List (List Int),(Zir c L i).length=lenOf c (regT c.regs i.d).par:=fun L=>by unfold Zir;simp
 have other:∀ (f':Fr),f'.vecs=f.vecs->((rowP i.op).d≠0->(regT c.regs i.d).kind≠3/\0<=i.d)->Zlu c f' r:=fun f' hv hk3 h3=>by
  rw[hv];refine hr ?_ h3;by_cases e:(rowP i.op).d=0
  ·exact .inl e
  ·refine .inr fun e2=>(hk3 e).1 ?_;have:=(hk3 e).2;have e3:(r:Int)=i.d:=oM;rw[e3]at h3;exact h3
 have vec:∀L:List (List Int),0<=i.d->(rowP i.op).d≠0->Zlu c {f with vecs:=putN f.vecs i.d.toNat (Zir c L i)} r:=fun L h0 hd h3=>by
  by_cases e:r=i.d.toNat
  ·have e3:(r:Int)=i.d:=oM;rw[e3];show(putN f.vecs i.d.toNat (Zir c L i) r).length=_;rw[e,Zmn,pl]
  ·show(putN f.vecs i.d.toNat (Zir c L i) r).length=_;rw[Zml _ _ e];exact hr (.inr e) h3
 rcases Zoz hk with h|h|h|h|h|h|h|h|h
 ·rw[Znu h];exact other _ rfl fun _=>⟨by rw[(nd.num h).2.2.2.2];decide,(nd.num h).1⟩
 ·rw[Zmi h];exact other _ rfl fun _=>⟨by rw[(nd.whole h).2.2.2.2.2.1];decide,(nd.whole h).1⟩
 ·rw[Zou h];exact vec G (nd.part (.inl h)).r0 (by rw[h];decide)
 ·rw[Zor h];exact vec P (nd.part (.inr h)).r0 (by rw[h];decide)
 ·rw[Zop h];exact other _ rfl fun e=>absurd (by rw[h];decide) e
 ·rw[Zoo h];obtain⟨d0,d1,n0,n1,ht⟩:=nd.load h;have hn:i.n.toNat<c.slots.length:=oM;have hn2:i.n.toNat<f.slots.length:=by rw[ok.slotsL];exact hn
  have hh:=ok.slots i.n.toNat hn hn2;rw[List.getElem?_eq_getElem hn2,Option.getD_some];refine st_set d0 (fun h3=>?_) fun e=>hr (.inr e);have:slotT c.slots i.n=c.slots[i.n.toNat].ty:=by unfold slotT;rw[List.getElem?_eq_getElem hn];rfl
  rw[hh.1,←this,ht];exact(Zng hg d0 d1 h3).2
 ·rw[Zon h];exact other _ rfl fun e=>absurd (by rw[h];decide) e
 ·rw[Zky h];refine hr (.inl ?_);have:i.op=34\/i.op=35\/i.op=36\/i.op=37:=oM;rcases this with e|e|e|e<;>rw[e]<;>decide
 ·rw[Zmd h];obtain⟨d0,d1,a1,_⟩:=nd.elem h;unfold Zll;by_cases h2:(regT c.regs i.d).kind=2
  ·rw[if_pos h2];exact other _ rfl fun _=>⟨by rw[h2];decide,d0⟩
  ·rw[if_neg h2];obtain⟨s1,s2⟩:=Zpz hg ok h nd h2;refine st_set d0 (fun h3=>?_) fun e=>hr (.inr e);have hw:=(Zng hg d0 d1 h3)
   dsimp only;rw[hw.2]at s1 ⊢;split
   ·unfold Zkf;rw[List.length_replicate];exact hw.2
   ·omega
end Go.Proofs.YtbinohkcolcbfaaGreat
namespace Go.Proofs.YtbinohkcolcbfaaGreat
open Go.RowKit Go.Proofs.Tryz
set_option linter.unusedVariables false
set_option linter.unusedSimpArgs false
set_option maxRecDepth 100000
set_option maxHeartbeats 16000000
def Zwu(c:Cd)(s:Wk)(f:Fr)(k:Nat):Prop:=
 (k=0/\∀r∈s.set,Zlu c f r)\/(∃pre b rest,s.opens=pre++b::rest/\b.loop=false/\k=(pre.filter fun x=> !x.loop).length+1/\∀r∈s.set.take b.ahead,Zlu c f r)
theorem Zabn:∀ {pre:List Bk} {b:Bk} {rest:List Bk} {n:Nat},okO n (pre++b::rest)->b.ahead<=n/\∀p∈pre,b.ahead<=p.ahead
 |[],b,rest,n,h=>⟨h.1,fun p hp=>by cases hp⟩
 |q::pre,b,rest,n,h=>by
  obtain⟨h1,h2⟩:=Zabn h.2;refine⟨Nat.le_trans h1 h.1,fun p hp=>?_⟩;rcases List.mem_cons.1 hp with e|e
  ·rw[e];exact h1
  ·exact h2 p e
theorem Zst{s:Wk}{i:Ins}{r:Rw}(h:r.d=0):addP s i r=s:=by unfold addP;rw[if_neg (fun e=>e.1 h)]
theorem Zagl{s:Wk}{i:Ins}(h1:i.op≠34)(h2:i.op≠35)(h3:i.op≠36)(h4:i.op≠37):Zmo s i=s:=by
 unfold Zmo;rw[if_neg oM,if_neg oM]
theorem Zaex{s:Wk}{i:Ins}{r:Rw}{x:Nat}(h:x∈(addP s i r).set):x∈s.set\/(r.d≠0/\x=i.d.toNat):=by
 unfold addP at h;split at h
 ·rename_i e;rcases List.mem_append.1 h with h|h
  ·exact .inl h
  ·simp at h;exact .inr ⟨e.1,h⟩
 ·exact .inl h
theorem Zabt{s:Wk}{i:Ins}{r:Rw}{n:Nat}(h:n<=s.set.length):(addP s i r).set.take n=s.set.take n/\(addP s i r).opens=s.opens:=by
 unfold addP;split
 ·exact⟨List.take_append_of_le_length h,rfl⟩
 ·exact⟨rfl,rfl⟩
theorem Zvt{s:Wk}{i:Ins}(h:i.op=34):Zib s i=⟨s.set,⟨false,i.n,s.set.length⟩::s.opens⟩:=by
 unfold Zib Zoi;rw[Zst (by rw[h];rfl)];unfold Zmo;rw[if_pos (.inl h),h];rfl
theorem Zwh{s:Wk}{i:Ins}(h:i.op=36):Zib s i=⟨s.set,⟨true,i.n,s.set.length⟩::s.opens⟩:=by
 unfold Zib Zoi;rw[Zst (by rw[h];rfl)];unfold Zmo;rw[if_pos (.inr h),h];rfl
theorem Zrt{s:Wk}{i:Ins}(h:i.op=35\/i.op=37):Zib s i=Zix s:=by
 unfold Zib Zoi;rw[Zst Zhg];unfold Zmo;rw[if_neg oM,if_pos h]
theorem Zqb{s:Wk}{i:Ins}(h1:i.op≠34)(h2:i.op≠35)(h3:i.op≠36)(h4:i.op≠37):Zib s i=addP s i (rowP i.op):=by
 unfold Zib Zoi;rw[Zagl h1 h2 h3 h4]
theorem Zzn{s:Wk}{r:Nat}(h:r∈(Zix s).set):r∈s.set:=by
 unfold Zix at h;split at h
 ·dsimp only at h;split at h
  ·exact h
  ·exact List.mem_of_mem_take h
 ·exact h
theorem Zxx{c:Cd}{G P:List (List Int)}{s:Wk}{f:Fr}{k:Nat}{i:Ins}(hg:Good c)(oks:OkS c.regs.length s)(t:Zjb c s i=true)(ok:OkF c f)(hb:IsP i.bits)(fg:FitV c G)(fp:FitV c P)(sk:Zwu c s f k):
 OkF c (Zjn c G P (f,k) i).1/\Zwu c (Zib s i) (Zjn c G P (f,k) i).1 (Zjn c G P (f,k) i).2:=by
 obtain⟨hkn,_,hst,_⟩:=Zjw t;rcases sk with⟨rfl,hs⟩|⟨pre,b,rest,ho,hbl,rfl,hs⟩
 ·have nd:=Zxp t hs;have hdo:OkF c (doI c G P f i):=do_ok hg ok hkn hb nd fg fp;by_cases h34:i.op=34
  ·rw[Zvt h34];by_cases hz:f.whs i.a.toNat=0
   ·have e:Zjn c G P (f,0) i=(f,1):=by
     unfold Zjn;rw[if_neg oM,if_pos ⟨h34,.inr hz⟩]
    rw[e];refine⟨ok,.inr ⟨[],⟨false,i.n,s.set.length⟩,s.opens,rfl,rfl,rfl,fun r hr=>hs r ?_⟩⟩;exact List.mem_of_mem_take hr
   ·have e:Zjn c G P (f,0) i=(f,0):=by
     unfold Zjn;rw[if_neg oM,if_neg (by simp[hz]),if_pos rfl,Zky oM]
    rw[e];exact⟨ok,.inl ⟨rfl,hs⟩⟩
  ·have e:Zjn c G P (f,0) i=(doI c G P f i,0):=by
    unfold Zjn;rw[if_neg oM,if_neg oM,if_pos rfl]
   rw[e];refine⟨hdo,.inl ⟨rfl,fun r hr=>?_⟩⟩;by_cases h35:i.op=35\/i.op=37
   ·rw[Zrt h35]at hr;rw[Zky oM];exact hs r (Zzn hr)
   ·by_cases h36:i.op=36
    ·rw[Zwh h36]at hr;rw[Zky oM];exact hs r hr
    ·rw[Zqb h34 oM h36 oM]at hr;refine do_set hg ok hkn nd fun hr2=>?_;rcases Zaex hr with h|⟨h,h'⟩
     ·exact hs r h
     ·rcases hr2 with q|q
      ·exact absurd q h
      ·exact absurd h' q
 ·obtain⟨hah,hpre⟩:=Zabn (by have:=oks.opens;rw[ho]at this;exact this);obtain⟨K,hK⟩:∃K,(pre.filter fun x=> !x.loop).length=K:=⟨_,rfl⟩
  rw[hK];by_cases h34:i.op=34
  ·have e:Zjn c G P (f,K+1) i=(f,K+2):=by
    unfold Zjn;rw[if_neg oM,if_pos ⟨h34,.inl (by show 0<K+1;omega)⟩]
   rw[e,Zvt h34];refine⟨ok,.inr ⟨⟨false,i.n,s.set.length⟩::pre,b,rest,by rw[ho];rfl,hbl,?_,hs⟩⟩;rw[List.filter_cons_of_pos rfl,List.length_cons,hK]
  ·by_cases h35:i.op=35
   ·have e:Zjn c G P (f,K+1) i=(f,K):=by
     unfold Zjn;rw[if_pos ⟨by show 0<K+1;omega,h35⟩];rfl
    rw[e,Zrt (.inl h35)];refine⟨ok,?_⟩;have hnl:Zim s=false:=by
     exact Zfg
    unfold Zim at hnl;unfold Zix;rw[ho]at hnl ⊢;cases pre with
    |nil=>
     simp only[List.nil_append]at hnl ⊢;simp at hK;refine .inl ⟨hK.symm,fun r hr=>hs r ?_⟩;rw[hbl]at hr;simpa using hr
    |cons p pre=>
     simp only[List.cons_append]at hnl ⊢;have hp:=hpre p sM;refine .inr ⟨pre,b,rest,rfl,hbl,?_,fun r hr=>hs r ?_⟩
     ·rw[List.filter_cons_of_pos (by rw[hnl];rfl),List.length_cons]at hK;omega
     ·rw[hnl]at hr;simp only[Bool.false_eq_true,if_false,List.take_take]at hr;rw[Nat.min_eq_left hp]at hr;exact hr
   ·have e:Zjn c G P (f,K+1) i=(f,K+1):=by
     unfold Zjn;rw[if_neg oM,if_neg oM,if_neg (by show¬ (K+1=0);omega)]
    rw[e];refine⟨ok,?_⟩;by_cases h36:i.op=36
    ·rw[Zwh h36];refine .inr ⟨⟨true,i.n,s.set.length⟩::pre,b,rest,by rw[ho];rfl,hbl,?_,hs⟩;rw[List.filter_cons_of_neg sM,hK]
    ·by_cases h37:i.op=37
     ·rw[Zrt (.inr h37)];have hnl:Zim s=true:=by
       unfold Ziw at hst;rw[if_neg oM,if_neg oM,if_pos h37]at hst;exact hst
      unfold Zim at hnl;unfold Zix;rw[ho]at hnl ⊢;cases pre with
      |nil=>
       simp only[List.nil_append]at hnl;rw[hbl]at hnl;cases hnl
      |cons p pre=>
       simp only[List.cons_append]at hnl ⊢;refine .inr ⟨pre,b,rest,rfl,hbl,?_,fun r hr=>hs r ?_⟩
       ·rw[List.filter_cons_of_neg (by rw[hnl];decide)]at hK;omega
       ·rw[hnl]at hr;simpa using hr
     ·rw[Zqb h34 h35 h36 h37];obtain⟨h1,h2⟩:=Zabt (i:=i) (r:=rowP i.op) hah;exact .inr ⟨pre,b,rest,by rw[h2];exact ho,hbl,by rw[hK],fun r hr=>hs r (by rw[h1]at hr;exact hr)⟩
theorem do_any{T:Nat->Prop}{E E':Nat}{a:Lay}{c:Cd}{G P:List (List Int)}{X:Nat->Value}{M:Nat}{m:Nat->Option Value}{f:Fr}(w:World)(x:FX T E E' a c G P w)(h:FV T E E' a c w X M m f)(hg:Good c)(ok:OkF c f)(hM:M<=1000000)(ib io:Nat)(i:Ins)(hi:InsT (mutT T E E') w ib io i)
 (hk:Zig i.op=true) (nd:Zlj c f i) (fg:FitV c G) (fp:FitV c P):
 Calls prog 45 #[.pointer (some ⟨a.FR,0,none⟩),.pointer (some ⟨ib,io,none⟩)] w fun e w'=>e=.returned (.tuple #[])/\Zhv T E E' a c G P M (doI c G P f i) w w':=by
 rcases Zoz hk with e|e|e|e|e|e|e|e|e
 ·obtain⟨h1,h2,h3,h4,_⟩:=nd.num e;rw[Znu e];exact do_num w x h hg ok ib io i hi e h1 h2 h3 h4
 ·obtain⟨h1,h2,h3,h4,h5,_⟩:=nd.whole e;rw[Zmi e];exact Zanq w x h hg ok ib io i hi e h1 h2 h3 h4 h5
 ·rw[Zou e];exact do_grad w x h hg ok hM ib io i hi e fg (nd.part (.inl e))
 ·rw[Zor e];exact Zarf w x h hg ok hM ib io i hi e fp (nd.part (.inr e))
 ·rw[Zop e];exact do_out w x h hg ok hM ib io i hi e (nd.out e).1 (nd.out e).2
 ·obtain⟨h1,h2,h3,h4,h5⟩:=nd.load e;rw[Zoo e];refine do_load w x h hg ok hM ib io i hi e h1 h2 h3 h4 fun k1 hh he=>?_;have hn:i.n.toNat<c.slots.length:=oM;have hn2:i.n.toNat<f.slots.length:=by rw[ok.slotsL];exact hn
  have hq:=ok.slots i.n.toNat hn hn2;rw[List.getElem?_eq_getElem hn2]at he;have:slotT c.slots i.n=c.slots[i.n.toNat].ty:=by unfold slotT;rw[List.getElem?_eq_getElem hn];rfl
  rw[←this,h5]at hq;intro e2;have h9:=hq.1;unfold Zhy at h9;rw[if_neg oM,if_pos k1]at h9;simp only[Option.some.injEq]at he;rw[he,e2]at h9;cases h9
 ·obtain⟨h1,h2,h3,h4,h5,h6⟩:=nd.store e;rw[Zon e];exact Zapd w x h hg ok hM ib io i hi e h1 h2 h3 h4
 ·rw[Zky e];exact do_mark w x h hg ok hM ib io i hi e
 ·rw[Zmd e];obtain⟨h1,h2,h3,_⟩:=nd.elem e;by_cases hk2:(regT c.regs i.d).kind=2
  ·exact Zaeg w x h hg ok hM ib io i hi e _ (Zahh w x h hg ib io i hi h1 h2 h3.1 h3.2 hk2)
  ·obtain⟨h4,h5,_⟩:=Zpk hg ok e nd hk2;exact Zaeg w x h hg ok hM ib io i hi e _ (Zami w x h hg ok hM ib io i hi e h1 h2 hk2 h4 h5)
end Go.Proofs.YtbinohkcolcbfaaGreat
