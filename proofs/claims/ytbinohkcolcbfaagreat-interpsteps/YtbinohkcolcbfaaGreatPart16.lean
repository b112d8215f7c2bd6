import Derived.Test.YtbinohkcolcbfaaGreatPart1
import Derived.Test.YtbinohkcolcbfaaGreatPart15
namespace Go.Proofs.YtbinohkcolcbfaaGreat
open Go.RowKit Go.Proofs.Tryz
set_option linter.unusedVariables false
set_option linter.unusedSimpArgs false
set_option maxRecDepth 100000
set_option maxHeartbeats 16000000
theorem Zaix{T:Nat->Prop}{E E':Nat}{a:Lay}{c:Cd}{G P:List (List Int)}{X:Nat->Value}{M:Nat}{m:Nat->Option Value}{f:Fr}(w:World)(x:FX T E E' a c G P w)(h:FV T E E' a c w X M m f)(hg:Good c)(ib io:Nat)(i:Ins)(hi:InsT (mutT T E E') w ib io i)
 (d0:0<=i.d) (d1:i.d<(c.regs.length:Int)) (a0:0<=i.a) (a1:i.a<(c.regs.length:Int)) (hk:(regT c.regs i.d).kind=2):
 Calls prog 76 #[.pointer (some ⟨a.FR,0,none⟩),.pointer (some ⟨ib,io,none⟩)] w fun e w'=>e=.returned (.tuple #[])/\Zhv T E E' a c G P M (Zll c f i) w w':=by
 have HEq:Hid (Zll c f i={f with whs:=putN f.whs i.d.toNat (f.whs i.a.toNat)}):=by
  show Zll c f i=_;unfold Zll;rw[if_pos hk]
 obtain⟨F,hF⟩:∃F,Zll c f i=F:=⟨_,rfl⟩
 rw[hF]at HEq ⊢;have q1:=hi.cells.at 1 rfl;have q2:=hi.cells.at 2 rfl;obtain⟨op,D,A,B,Ec,nn,bt⟩:=i;simp only at *;obtain⟨D,rfl⟩:∃j:Nat,D=(j:Int):=⟨D.toNat,oM⟩
 obtain⟨A,rfl⟩:∃j:Nat,A=(j:Int):=⟨A.toNat,oM⟩
 rw[Int.toNat_natCast,Int.toNat_natCast]at HEq;have hD:D<c.regs.length:=oM;have hA:A<c.regs.length:=oM;rw[Zkc hD]at hk;have f0:=x.f0;have f3:=x.f3;have c1:=x.code.c1;obtain⟨b1,o1,m1,hv1,r0,r1⟩:=x.code.reg hD;rw[hv1]at c1;rw[hk]at r0;have hN:=hg.regsL;have k1:=h.whs.cell hA;have k2:=h.whs.cell hD;have k3:=h.whs.frozen D;have n1:w.heap.size≠a.FR:=by have:=x.iFR;have:=x.hE';omega
 have n2:w.heap.size≠a.C:=by have:=x.code.ltC;omega
 have n3:w.heap.size≠ib:=by have:=hi.lt;omega
 have n4:w.heap.size≠b1:=by have:=Zhr r0;simp at this;omega
 have n5:a.WB≠a.FR:=Ne.symm x.d1.2.1;have n6:a.WB≠ib:=fun e=>hi.not (by rw[←e];exact .inr x.iWB);have HX:Hid (FX T E E' a c G P w):=x;have HV:Hid (FV T E E' a c w X M m f):=h;have HD:Hid (D<c.regs.length):=hD;obtain⟨pp,r2⟩:∃pp,w.cell? ⟨b1,o1+D*2+1,none⟩=some (.int .i64 pp):=⟨_,r1⟩
 clear r1;obtain⟨FR,hFR⟩:∃FR,a.FR=FR:=⟨_,rfl⟩
 obtain⟨WB,hWB⟩:∃WB,a.WB=WB:=⟨_,rfl⟩
 obtain⟨C,hC⟩:∃C,a.C=C:=⟨_,rfl⟩
 obtain⟨N,hN'⟩:∃N,c.regs.length=N:=⟨_,rfl⟩
 obtain⟨y,hy⟩:∃y,f.whs A=y:=⟨_,rfl⟩
 obtain⟨y2,hy2⟩:∃y2,f.whs D=y2:=⟨_,rfl⟩
 rw[hy]at k1 HEq;rw[hy2]at k2;simp only[hFR,hWB,hC,hN']at f0 f3 c1 hN k1 k2 k3 n1 n2 n5 n6 hD hA d1 a1 ⊢;have HWB:Hid (a.WB=WB):=hWB;clear x h hg hi hk hv1 hFR hWB hC hN' hy hy2 hF;go_enter func76,ntmps76;go_wp2;refine rG (fun v=>v.cell? ⟨FR,0,none⟩=some (.pointer (some ⟨C,0,none⟩))/\v.cell? ⟨C,1,none⟩=some (.slice (some ⟨b1,o1,none⟩) N m1)/\v.cell? ⟨ib,io+1,none⟩=some (.int .i64 (D:Int))/\v.cell? ⟨b1,o1+D*2,none⟩=some (.int .i64 2)/\v.cell? ⟨b1,o1+D*2+1,none⟩=some (.int .i64 pp)) fun hHeld=>?_;refine Tf 0 1 2 3 4 5 ?_;refine Tf 6 7 8 9 10 11 ?_;refine tkT 12 ?_;clear hHeld;refine ry1 13 fun K hK=>?_;go_simp;refine okK hK fun hHeld=>?_;clear hK K;clear hHeld;refine ry1 14 fun K hK=>?_;go_simp;refine okK hK fun hHeld=>?_;clear hK K;refine wpAnyH_done kR ?_ _;obtain⟨W1,hW1⟩:∃W1,(w.alloc (.cells #[.int .i64 2,.int .i64 pp] 69)).drew=W1:=⟨_,rfl⟩
 have hb1:Below w.heap.size w W1:=by rw[←hW1];exact bel (Zhq _ _) (Zht _)
 have z0:W1.cell? ⟨w.heap.size,0,none⟩=some (.int .i64 2):=by rw[←hW1];simp[go_sem]
 rw[hW1];clear hW1 hHeld;have HB1:Hid (Below w.heap.size w W1):=hb1;have g1:=kc hb1 q1;have g2:=kc hb1 q2;have g3:=kc hb1 f3;have g4:=kc hb1 k1;have g5:=kc hb1 k2;have g6:=kf hb1 k2 k3;clear q1 q2 f0 f3 c1 r0 r2 hb1 k1 k2 k3;go_wp2;refine rG (fun v=>v.cell? ⟨FR,3,none⟩=some (.slice (some ⟨WB,0,none⟩) N N)/\v.cell? ⟨ib,io+1,none⟩=some (.int .i64 (D:Int))/\v.cell? ⟨ib,io+2,none⟩=some (.int .i64 (A:Int))) fun hHeld=>?_;refine Tf 0 1 2 3 4 5 ?_;refine Tf 6 7 8 9 10 11 ?_;refine Tc 12 13 14 ?_;refine Tb 15 16 ?_;clear hHeld;refine ry1 17 fun K hK=>?_;go_simp;refine okK hK fun hHeld=>?_;clear hK K;refine tkT 18 ?_;clear hHeld;refine ry1 19 fun K hK=>?_;go_simp;refine okK hK fun hHeld=>?_;clear hK K;refine wpAnyH_done kR ?_ _;go_wp2;first|go_end0|(simp only[Exit.inBlock,Exit.then];refine bodyPost_ret (results_none rfl _ _ _) rfl ?_)|refine bodyPost_ret (results_none rfl _ _ _) rfl ?_
 have hfin:=(Zhv.wh (HX.out.below HB1.out) (HV.out.below HB1.out) HD.out y).pre HB1.out;rw[HWB.out]at hfin;rw[HEq.out];exact⟨rfl,hfin.on (Zht _)⟩
theorem do_num{T:Nat->Prop}{E E':Nat}{a:Lay}{c:Cd}{G P:List (List Int)}{X:Nat->Value}{M:Nat}{m:Nat->Option Value}{f:Fr}(w:World)(x:FX T E E' a c G P w)(h:FV T E E' a c w X M m f)(hg:Good c)(ok:OkF c f)(ib io:Nat)(i:Ins)(hi:InsT (mutT T E E') w ib io i)
 (hop:Zlx i.op=true) (d0:0<=i.d) (d1:i.d<(c.regs.length:Int)) (ha:i.op≠1->0<=i.a/\i.a<(c.regs.length:Int)) (hb:i.op=16->0<=i.b/\i.b<(c.regs.length:Int)):
 Calls prog 45 #[.pointer (some ⟨a.FR,0,none⟩),.pointer (some ⟨ib,io,none⟩)] w fun e w'=>e=.returned (.tuple #[])/\Zhv T E E' a c G P M {f with nums:=putN f.nums i.d.toNat (numI f i)} w w':=by
 have HK:Hid (∀v,Below w.heap.size w v->Calls prog 70 #[.pointer (some ⟨a.FR,0,none⟩),.pointer (some ⟨ib,io,none⟩)] v fun e w'=>e=.returned (.int .u32 (numI f i))/\Below v.heap.size v w'):=fun v hv=>Zahc v (x.below hv) (h.below hv) hg ok ib io i (hi.below hv).cells hop ha hb;obtain⟨y,hy⟩:∃y,numI f i=y:=⟨_,rfl⟩
 rw[hy]at HK ⊢;have q0:=hi.cells.at 0 rfl;rw[Nat.add_zero]at q0;have q1:=hi.cells.at 1 rfl;have hnot:=hi.not;obtain⟨op,D,A,B,Ec,nn,bt⟩:=i;simp only at *;obtain⟨D,rfl⟩:∃j:Nat,D=(j:Int):=⟨D.toNat,oM⟩
 rw[Int.toNat_natCast];have hD:D<c.regs.length:=oM;have f2:=x.f2;have hN:=hg.regsL;have k2:=h.nums.cell hD;have k3:=h.nums.frozen D;have n5:a.NB≠a.FR:=Ne.symm x.d1.1;have n6:a.NB≠ib:=fun e=>hnot (by rw[←e];exact .inr x.iNB);obtain⟨F,hF⟩:∃F:Fr,({f with nums:=putN f.nums D y}:Fr)=F:=⟨_,rfl⟩
 have HFin:Hid (∀v,Below w.heap.size w v->Zhv T E E' a c G P M F w (v.setCell ⟨a.NB,D,none⟩ (.int .u32 y))):=fun v hv=>by rw[←hF];exact(Zhv.num (x.below hv) (h.below hv) hD y).pre hv
 rw[hF];obtain⟨FR,hFR⟩:∃FR,a.FR=FR:=⟨_,rfl⟩
 obtain⟨NB,hNB⟩:∃NB,a.NB=NB:=⟨_,rfl⟩
 obtain⟨N,hN'⟩:∃N,c.regs.length=N:=⟨_,rfl⟩
 obtain⟨y2,hy2⟩:∃y2,f.nums D=y2:=⟨_,rfl⟩
 rw[hy2]at k2;simp only[hFR,hNB,hN']at f2 hN k2 k3 n5 n6 hD d1 HK HFin ⊢;clear x h hg hi ok ha hb hy hFR hNB hN' hy2 hF hnot;unfold Zlx at hop;simp only[Bool.or_eq_true,beq_iff_eq]at hop;have hop':op=1\/op=16\/op=17\/op=19\/op=20:=oM;clear hop;rcases hop' with rfl|rfl|rfl|rfl|rfl
 all_goals
  go_enter func45,ntmps45;go_wp2;refine rG (fun v=>v.cell? ⟨FR,2,none⟩=some (.slice (some ⟨NB,0,none⟩) N N)/\v.cell? ⟨ib,io+1,none⟩=some (.int .i64 (D:Int))) fun hHeld=>?_;refine Tf 0 1 2 3 4 5 ?_;refine Tc 6 7 8 ?_;refine tkT 9 ?_;clear hHeld;refine ry1 10 fun K hK=>?_;go_simp;(go_at_call 70;refine(HK.out _ (Zht _)).mono ?_;rintro e w1 ⟨rfl,hb1⟩;have HB1:=bel (Zht _) hb1;have z1:=kc HB1 f2;have z2:=kc HB1 q1;have z3:=kc HB1 k2;have z4:=kf HB1 k2 k3;clear hb1);exact Zdj
theorem Zamz{T:Nat->Prop}{E E':Nat}{a:Lay}{c:Cd}{G P:List (List Int)}{X:Nat->Value}{M:Nat}{m:Nat->Option Value}{f:Fr}(w:World)(x:FX T E E' a c G P w)(h:FV T E E' a c w X M m f)(hg:Good c)(ok:OkF c f)(ib io:Nat)(i:Ins)(hi:InsT (mutT T E E') w ib io i)
 (hop:Zjv i.op=true) (d0:0<=i.d) (d1:i.d<(c.regs.length:Int)) (ha:0<=i.a/\i.a<(c.regs.length:Int)) (hb:0<=i.b/\i.b<(c.regs.length:Int)) (hc:0<=i.c/\i.c<(c.regs.length:Int)):
 Calls prog 45 #[.pointer (some ⟨a.FR,0,none⟩),.pointer (some ⟨ib,io,none⟩)] w fun e w'=>e=.returned (.tuple #[])/\Zhv T E E' a c G P M {f with whs:=putN f.whs i.d.toNat (Znb f i)} w w':=by
 have HK:Hid (∀v,Below w.heap.size w v->Calls prog 71 #[.pointer (some ⟨a.FR,0,none⟩),.pointer (some ⟨ib,io,none⟩)] v fun e w'=>e=.returned (.int .i64 (Znb f i))/\Below v.heap.size v w'):=fun v hv=>Zalm v (x.below hv) (h.below hv) hg ok ib io i (hi.below hv).cells hop ha hb hc;obtain⟨y,hy⟩:∃y,Znb f i=y:=⟨_,rfl⟩
 rw[hy]at HK ⊢;have q0:=hi.cells.at 0 rfl;rw[Nat.add_zero]at q0;have q1:=hi.cells.at 1 rfl;have hnot:=hi.not;obtain⟨op,D,A,B,Ec,nn,bt⟩:=i;simp only at *;obtain⟨D,rfl⟩:∃j:Nat,D=(j:Int):=⟨D.toNat,oM⟩
 rw[Int.toNat_natCast];have hD:D<c.regs.length:=oM;have f3:=x.f3;have hN:=hg.regsL;have k2:=h.whs.cell hD;have k3:=h.whs.frozen D;have n5:a.WB≠a.FR:=Ne.symm x.d1.2.1;have n6:a.WB≠ib:=fun e=>hnot (by rw[←e];exact .inr x.iWB);obtain⟨F,hF⟩:∃F:Fr,({f with whs:=putN f.whs D y}:Fr)=F:=⟨_,rfl⟩
 have HFin:Hid (∀v,Below w.heap.size w v->Zhv T E E' a c G P M F w (v.setCell ⟨a.WB,D,none⟩ (.int .i64 y))):=fun v hv=>by rw[←hF];exact(Zhv.wh (x.below hv) (h.below hv) hD y).pre hv
 rw[hF];obtain⟨FR,hFR⟩:∃FR,a.FR=FR:=⟨_,rfl⟩
 obtain⟨WB,hWB⟩:∃WB,a.WB=WB:=⟨_,rfl⟩
 obtain⟨N,hN'⟩:∃N,c.regs.length=N:=⟨_,rfl⟩
 obtain⟨y2,hy2⟩:∃y2,f.whs D=y2:=⟨_,rfl⟩
 rw[hy2]at k2;simp only[hFR,hWB,hN']at f3 hN k2 k3 n5 n6 hD d1 HK HFin ⊢;clear x h hg hi ok ha hb hc hy hFR hWB hN' hy2 hF hnot;unfold Zjv at hop;simp only[Bool.or_eq_true,Bool.and_eq_true,beq_iff_eq,decide_eq_true_eq]at hop;have hop':op=2\/op=18\/op=21\/op=22\/op=23\/op=24\/op=25\/op=26\/op=27\/op=28:=oM;clear hop;rcases hop' with rfl|rfl|rfl|rfl|rfl|rfl|rfl|rfl|rfl|rfl
 all_goals
  go_enter func45,ntmps45;go_wp2;refine rG (fun v=>v.cell? ⟨FR,3,none⟩=some (.slice (some ⟨WB,0,none⟩) N N)/\v.cell? ⟨ib,io+1,none⟩=some (.int .i64 (D:Int))) fun hHeld=>?_;refine Tf 0 1 2 3 4 5 ?_;refine Tc 6 7 8 ?_;refine tkT 9 ?_;clear hHeld;refine ry1 10 fun K hK=>?_;go_simp;(go_at_call 71;refine(HK.out _ (Zht _)).mono ?_;rintro e w1 ⟨rfl,hb1⟩;have HB1:=bel (Zht _) hb1;have z1:=kc HB1 f3;have z2:=kc HB1 q1;have z3:=kc HB1 k2;have z4:=kf HB1 k2 k3;clear hb1);exact Zdj
theorem do_grad{T:Nat->Prop}{E E':Nat}{a:Lay}{c:Cd}{G P:List (List Int)}{X:Nat->Value}{M:Nat}{m:Nat->Option Value}{f:Fr}(w:World)(x:FX T E E' a c G P w)(h:FV T E E' a c w X M m f)(hg:Good c)(ok:OkF c f)(hM:M<=1000000)(ib io:Nat)(i:Ins)(hi:InsT (mutT T E E') w ib io i)
 (hop:i.op=29) (hL:FitV c G) (hp:Zpj c i.d i.n):
 Calls prog 45 #[.pointer (some ⟨a.FR,0,none⟩),.pointer (some ⟨ib,io,none⟩)] w fun e w'=>e=.returned (.tuple #[])/\Zhv T E E' a c G P M {f with vecs:=putN f.vecs i.d.toNat (Ziq c G i)} w w':=by
 have HK:Hid (∀v,Below w.heap.size w v->Calls prog 72 #[.pointer (some ⟨a.FR,0,none⟩),a.gv,.pointer (some ⟨ib,io,none⟩)] v fun e w'=>∃g,e=.returned (.slice (some ⟨g,0,none⟩) (Ziq c G i).length (Ziq c G i).length)/\v.heap.size<=g/\w'.rowIs g 43 (Ziq c G i).length (fun j=>.int .u32 (atL (Ziq c G i) j))/\Below v.heap.size v w'):=fun v hv=>Zabn v (x.below hv) hg a.gv G (x.g.below hv) hL ib io i (hi.below hv).cells hp;obtain⟨l,hl⟩:∃l,Ziq c G i=l:=⟨_,rfl⟩
 rw[hl]at HK ⊢;have q0:=hi.cells.at 0 rfl;rw[Nat.add_zero]at q0;have q1:=hi.cells.at 1 rfl;have d0:=hp.r0;have d1:=hp.r1;obtain⟨op,D,A,B,Ec,nn,bt⟩:=i;simp only at *;subst hop;obtain⟨D,rfl⟩:∃j:Nat,D=(j:Int):=⟨D.toNat,oM⟩
 rw[Int.toNat_natCast];have hD:D<c.regs.length:=oM;have f4:=x.f4;have f5:=x.f5;have hN:=hg.regsL;obtain⟨F,hF⟩:∃F:Fr,({f with vecs:=putN f.vecs D l}:Fr)=F:=⟨_,rfl⟩
 have HFin:Hid (∀v g,Below w.heap.size w v->w.heap.size<=g->v.rowIs g 43 l.length (fun j=>.int .u32 (atL l j))->∃v2,(Instr.mapUpdate 92 (.map (some a.MB)) (.int .i64 (D:Int)) (.slice (some ⟨g,0,none⟩) l.length l.length)).run prog v=.ok () v2/\Zhv T E E' a c G P M F w v2/\(∀b,b<v.heap.size->b≠a.MB->v2.heap[b]? =v.heap[b]?)):=by
  exact Zcg
 rw[hF];have n1:a.FR≠a.MB:=x.d1.2.2.1;have n2:ib≠a.MB:=fun e=>hi.not (by rw[e];exact .inr x.iMB);have hlt1:a.FR<w.heap.size:=by have:=x.iFR;have:=x.hE';omega
 have hlt2:=hi.lt;obtain⟨FR,hFR⟩:∃FR,a.FR=FR:=⟨_,rfl⟩
 obtain⟨MB,hMB⟩:∃MB,a.MB=MB:=⟨_,rfl⟩
 obtain⟨gv,hgv⟩:∃gv,a.gv=gv:=⟨_,rfl⟩
 obtain⟨L,hL9⟩:∃L,l.length=L:=⟨_,rfl⟩
 simp only[hFR,hMB,hgv,hL9]at f4 f5 HK HFin n1 n2 hlt1 ⊢;clear x h hg hi ok hp hl hFR hMB hgv hL9 hF hL;go_enter func45,ntmps45;go_wp2;refine rG (fun v=>v.cell? ⟨FR,4,none⟩=some (.map (some MB))/\v.cell? ⟨ib,io+1,none⟩=some (.int .i64 (D:Int))/\v.cell? ⟨FR,5,none⟩=some gv) fun hHeld=>?_;refine Tf 0 1 2 3 4 5 ?_;refine Tf 6 7 8 9 10 11 ?_;refine Tb 12 13 ?_;clear hHeld;refine ry1 14 fun K hK=>?_;go_simp;(go_at_call 72;refine(HK.out _ (Zht _)).mono ?_;rintro e w1 ⟨g,rfl,hg1,hr1,hb1⟩;have HB1:=bel (Zht _) hb1;obtain⟨w2,hrun,hst,hkeep⟩:=HFin.out w1 g HB1 (by simpa using hg1) hr1;have HST:Hid (Zhv T E E' a c G P M F w w2):=hst;have z1:=kc HB1 f4;have z2:=kc HB1 q1;have z3:=kc HB1 f5;have y1:w2.cell? ⟨FR,4,none⟩=some (.map (some MB)):=(World.cell?_of_block (hkeep _ Zgg n1)).trans z1;have y2:w2.cell? ⟨ib,io+1,none⟩=some (.int .i64 (D:Int)):=(World.cell?_of_block (hkeep _ Zgg n2)).trans z2;have y3:w2.cell? ⟨FR,5,none⟩=some gv:=(World.cell?_of_block (hkeep _ Zgg n1)).trans z3;clear hb1 hr1 hst hkeep hg1);try(go_wp2_with fail)
 refine okK hK fun hHeld=>?_;clear hK K;clear hHeld;refine ry1 15 fun K hK=>?_;go_simp;exact Zcx
theorem Zaps{T:Nat->Prop}{E E':Nat}{a:Lay}{c:Cd}{G P:List (List Int)}{X:Nat->Value}{M:Nat}{m:Nat->Option Value}{f:Fr}(w:World)(x:FX T E E' a c G P w)(h:FV T E E' a c w X M m f)(hg:Good c)(ok:OkF c f)(hM:M<=1000000)(ib io:Nat)(i:Ins)(hi:InsT (mutT T E E') w ib io i)
 (hop:i.op=30) (hL:FitV c P) (hp:Zpj c i.d i.n):
 Calls prog 45 #[.pointer (some ⟨a.FR,0,none⟩),.pointer (some ⟨ib,io,none⟩)] w fun e w'=>e=.returned (.tuple #[])/\Zhv T E E' a c G P M {f with vecs:=putN f.vecs i.d.toNat (Ziq c P i)} w w':=by
 have HK:Hid (∀v,Below w.heap.size w v->Calls prog 72 #[.pointer (some ⟨a.FR,0,none⟩),a.pv,.pointer (some ⟨ib,io,none⟩)] v fun e w'=>∃g,e=.returned (.slice (some ⟨g,0,none⟩) (Ziq c P i).length (Ziq c P i).length)/\v.heap.size<=g/\w'.rowIs g 43 (Ziq c P i).length (fun j=>.int .u32 (atL (Ziq c P i) j))/\Below v.heap.size v w'):=fun v hv=>Zabn v (x.below hv) hg a.pv P (x.p.below hv) hL ib io i (hi.below hv).cells hp;obtain⟨l,hl⟩:∃l,Ziq c P i=l:=⟨_,rfl⟩
 rw[hl]at HK ⊢;have q0:=hi.cells.at 0 rfl;rw[Nat.add_zero]at q0;have q1:=hi.cells.at 1 rfl;have d0:=hp.r0;have d1:=hp.r1;obtain⟨op,D,A,B,Ec,nn,bt⟩:=i;simp only at *;subst hop;obtain⟨D,rfl⟩:∃j:Nat,D=(j:Int):=⟨D.toNat,oM⟩
 rw[Int.toNat_natCast];have hD:D<c.regs.length:=oM;have f4:=x.f4;have f5:=x.f6;have hN:=hg.regsL;obtain⟨F,hF⟩:∃F:Fr,({f with vecs:=putN f.vecs D l}:Fr)=F:=⟨_,rfl⟩
 have HFin:Hid (∀v g,Below w.heap.size w v->w.heap.size<=g->v.rowIs g 43 l.length (fun j=>.int .u32 (atL l j))->∃v2,(Instr.mapUpdate 92 (.map (some a.MB)) (.int .i64 (D:Int)) (.slice (some ⟨g,0,none⟩) l.length l.length)).run prog v=.ok () v2/\Zhv T E E' a c G P M F w v2/\(∀b,b<v.heap.size->b≠a.MB->v2.heap[b]? =v.heap[b]?)):=by
  exact Zcg
 rw[hF];have n1:a.FR≠a.MB:=x.d1.2.2.1;have n2:ib≠a.MB:=fun e=>hi.not (by rw[e];exact .inr x.iMB);have hlt1:a.FR<w.heap.size:=by have:=x.iFR;have:=x.hE';omega
 have hlt2:=hi.lt;obtain⟨FR,hFR⟩:∃FR,a.FR=FR:=⟨_,rfl⟩
 obtain⟨MB,hMB⟩:∃MB,a.MB=MB:=⟨_,rfl⟩
 obtain⟨gv,hgv⟩:∃gv,a.pv=gv:=⟨_,rfl⟩
 obtain⟨L,hL9⟩:∃L,l.length=L:=⟨_,rfl⟩
 simp only[hFR,hMB,hgv,hL9]at f4 f5 HK HFin n1 n2 hlt1 ⊢;clear x h hg hi ok hp hl hFR hMB hgv hL9 hF hL;go_enter func45,ntmps45;go_wp2;refine rG (fun v=>v.cell? ⟨FR,4,none⟩=some (.map (some MB))/\v.cell? ⟨ib,io+1,none⟩=some (.int .i64 (D:Int))/\v.cell? ⟨FR,6,none⟩=some gv) fun hHeld=>?_;refine Tf 0 1 2 3 4 5 ?_;refine Tf 6 7 8 9 10 11 ?_;refine Tb 12 13 ?_;clear hHeld;refine ry1 14 fun K hK=>?_;go_simp;(go_at_call 72;refine(HK.out _ (Zht _)).mono ?_;rintro e w1 ⟨g,rfl,hg1,hr1,hb1⟩;have HB1:=bel (Zht _) hb1;obtain⟨w2,hrun,hst,hkeep⟩:=HFin.out w1 g HB1 (by simpa using hg1) hr1;have HST:Hid (Zhv T E E' a c G P M F w w2):=hst;have z1:=kc HB1 f4;have z2:=kc HB1 q1;have z3:=kc HB1 f5;have y1:w2.cell? ⟨FR,4,none⟩=some (.map (some MB)):=(World.cell?_of_block (hkeep _ Zgg n1)).trans z1;have y2:w2.cell? ⟨ib,io+1,none⟩=some (.int .i64 (D:Int)):=(World.cell?_of_block (hkeep _ Zgg n2)).trans z2;have y3:w2.cell? ⟨FR,6,none⟩=some gv:=(World.cell?_of_block (hkeep _ Zgg n1)).trans z3;clear hb1 hr1 hst hkeep hg1);try(go_wp2_with fail)
 refine okK hK fun hHeld=>?_;clear hK K;clear hHeld;refine ry1 15 fun K hK=>?_;go_simp;exact Zcx
theorem do_out{T:Nat->Prop}{E E':Nat}{a:Lay}{c:Cd}{G P:List (List Int)}{X:Nat->Value}{M:Nat}{m:Nat->Option Value}{f:Fr}(w:World)(x:FX T E E' a c G P w)(h:FV T E E' a c w X M m f)(hg:Good c)(ok:OkF c f)(hM:M<=1000000)(ib io:Nat)(i:Ins)(hi:InsT (mutT T E E') w ib io i)
 (hop:i.op=31) (hp:Zpj c i.a i.n) (hl:(f.vecs i.a.toNat).length=lenOf c (regT c.regs i.a).par):
 Calls prog 45 #[.pointer (some ⟨a.FR,0,none⟩),.pointer (some ⟨ib,io,none⟩)] w fun e w'=>e=.returned (.tuple #[])/\Zhv T E E' a c G P M {f with outs:=outP f.outs (regT c.regs i.a).par.toNat (Zia c (regT c.regs i.a).par) i.n.toNat (f.vecs i.a.toNat)} w w':=by
 have HK:=hidM (out_any w x h hg ok ib io i hi hp hl);obtain⟨F,hF⟩:∃F:Fr,({f with outs:=outP f.outs (regT c.regs i.a).par.toNat (Zia c (regT c.regs i.a).par) i.n.toNat (f.vecs i.a.toNat)}:Fr)=F:=⟨_,rfl⟩
 rw[hF]at HK ⊢;have q0:=hi.cells.at 0 rfl;rw[Nat.add_zero]at q0;rw[hop]at q0;obtain⟨FR,hFR⟩:∃FR,a.FR=FR:=⟨_,rfl⟩
 rw[hFR]at HK ⊢;clear x h hg hi ok hp hl hF hFR hop;go_enter func45,ntmps45;go_wp2_with(go_at_call 73;refine HK.out.mono ?_;rintro e w1 ⟨rfl,hst⟩;have HST:=hidM hst;clear hst)
 go_end0
 exact⟨rfl,HST.out⟩
theorem Zaff{T:Nat->Prop}{E E':Nat}{a:Lay}{c:Cd}{G P:List (List Int)}{X:Nat->Value}{M:Nat}{m:Nat->Option Value}{f:Fr}(w:World)(x:FX T E E' a c G P w)(h:FV T E E' a c w X M m f)(hg:Good c)(ok:OkF c f)(hM:M<=1000000)(ib io:Nat)(i:Ins)(hi:InsT (mutT T E E') w ib io i)
 (hop:Zji i.op=true) (F:Fr) (HK:Hid (Calls prog 76 #[.pointer (some ⟨a.FR,0,none⟩),.pointer (some ⟨ib,io,none⟩)] w fun e w'=>e=.returned (.tuple #[])/\Zhv T E E' a c G P M F w w')):
 Calls prog 45 #[.pointer (some ⟨a.FR,0,none⟩),.pointer (some ⟨ib,io,none⟩)] w fun e w'=>e=.returned (.tuple #[])/\Zhv T E E' a c G P M F w w':=by
 have q0:=hi.cells.at 0 rfl;rw[Nat.add_zero]at q0;obtain⟨FR,hFR⟩:∃FR,a.FR=FR:=⟨_,rfl⟩
 rw[hFR]at HK ⊢;unfold Zji at hop;simp only[Bool.and_eq_true,decide_eq_true_eq]at hop;have hop':i.op=3\/i.op=4\/i.op=5\/i.op=6\/i.op=7\/i.op=8\/i.op=9\/i.op=10\/i.op=11\/i.op=12\/i.op=13\/i.op=14\/i.op=15:=oM;clear x h hg hi ok hFR hop;rcases hop' with e|e|e|e|e|e|e|e|e|e|e|e|e
 all_goals
  rw[e]at q0;clear e;go_enter func45,ntmps45;go_wp2_with(go_at_call 76;refine HK.out.mono ?_;rintro e w1 ⟨rfl,hst⟩;have HST:=hidM hst;clear hst)
  go_end0
  exact⟨rfl,HST.out⟩
theorem do_mark{T:Nat->Prop}{E E':Nat}{a:Lay}{c:Cd}{G P:List (List Int)}{X:Nat->Value}{M:Nat}{m:Nat->Option Value}{f:Fr}(w:World)(x:FX T E E' a c G P w)(h:FV T E E' a c w X M m f)(hg:Good c)(ok:OkF c f)(hM:M<=1000000)(ib io:Nat)(i:Ins)(hi:InsT (mutT T E E') w ib io i)
 (hop:34<=i.op/\i.op<=37):
 Calls prog 45 #[.pointer (some ⟨a.FR,0,none⟩),.pointer (some ⟨ib,io,none⟩)] w fun e w'=>e=.returned (.tuple #[])/\Zhv T E E' a c G P M f w w':=by
 have q0:=hi.cells.at 0 rfl;rw[Nat.add_zero]at q0;have HST:Hid (Zhv T E E' a c G P M f w w):=Zhv.same x h (bel0 _);obtain⟨FR,hFR⟩:∃FR,a.FR=FR:=⟨_,rfl⟩
 rw[hFR];have hop':i.op=34\/i.op=35\/i.op=36\/i.op=37:=oM;clear x h hg hi ok hFR hop;rcases hop' with e|e|e|e
 all_goals
  rw[e]at q0;clear e;go_enter func45,ntmps45;go_wp2
  go_end0
  exact⟨rfl,HST.out⟩
theorem do_load{T:Nat->Prop}{E E':Nat}{a:Lay}{c:Cd}{G P:List (List Int)}{X:Nat->Value}{M:Nat}{m:Nat->Option Value}{f:Fr}(w:World)(x:FX T E E' a c G P w)(h:FV T E E' a c w X M m f)(hg:Good c)(ok:OkF c f)(hM:M<=1000000)(ib io:Nat)(i:Ins)(hi:InsT (mutT T E E') w ib io i)
 (hop:i.op=32) (d0:0<=i.d) (d1:i.d<(c.regs.length:Int)) (n0:0<=i.n) (n1:i.n<(c.slots.length:Int)) (h1:(regT c.regs i.d).kind=1->∀hh,f.slots[i.n.toNat]? =some hh->hh.pats≠[]):
 Calls prog 45 #[.pointer (some ⟨a.FR,0,none⟩),.pointer (some ⟨ib,io,none⟩)] w fun e w'=>e=.returned (.tuple #[])/\Zhv T E E' a c G P M (stP c f i.d ((f.slots[i.n.toNat]?).getD ⟨[],0⟩)) w w':=by
 have q0:=hi.cells.at 0 rfl;rw[Nat.add_zero]at q0;have q1:=hi.cells.at 1 rfl;have q5:=hi.cells.at 5 rfl;obtain⟨op,D,A,B,Ec,nn,bt⟩:=i;simp only at *;subst hop;obtain⟨D,rfl⟩:∃j:Nat,D=(j:Int):=⟨D.toNat,oM⟩
 obtain⟨n,rfl⟩:∃j:Nat,nn=(j:Int):=⟨nn.toNat,oM⟩
 rw[Int.toNat_natCast]at h1 ⊢;have hD:D<c.regs.length:=oM;have hn:n<c.slots.length:=oM;have hnf:n<f.slots.length:=by rw[h.slotsL];exact hn
 rw[List.getElem?_eq_getElem hnf,Option.getD_some];have hp:=h.slots.pats n hnf;have hw:=h.slots.whole n hnf;have s1:=h.slots.row.cell (i:=2*n) Zgk;have s2:=h.slots.row.cell (i:=2*n+1) Zgk;rw[hw]at s2;have h1':c.regs[D].kind=1->(f.slots[n]'hnf).pats≠[] :=fun e=>h1 (by rw[Zkc hD];exact e) _ (List.getElem?_eq_getElem hnf);obtain⟨q,cap,hq⟩:=hp.len;have HK:Hid (∀v,Below w.heap.size w v->Calls prog 74 #[.pointer (some ⟨a.FR,0,none⟩),.int .i64 (D:Int),.agg #[.slice q (f.slots[n]'hnf).pats.length cap,.int .i64 (f.slots[n]'hnf).whole]] v fun e w'=>e=.returned (.tuple #[])/\Zhv T E E' a c G P M (stP c f D (f.slots[n]'hnf)) v w'):=fun v hv=>Zafv v (x.below hv) (h.below hv) hg D hD hM q _ cap (f.slots[n]'hnf) (by rw[←hq];exact hp.below hv) h1';rw[hq]at s1;have f1:=x.f1;have hsp:a.sp=some ⟨a.S,0,none⟩:=by
  rcases h.slots.sp with e|e
  ·rw[e]at hnf;exact absurd hnf (Nat.not_lt_zero _)
  ·exact e
 rw[hsp]at f1;rw[Nat.mul_comm 2 n]at s1 s2;have hN:=hg.slotsL;obtain⟨FR,hFR⟩:∃FR,a.FR=FR:=⟨_,rfl⟩
 obtain⟨Sb,hSb⟩:∃Sb,a.S=Sb:=⟨_,rfl⟩
 obtain⟨N,hN'⟩:∃N,c.slots.length=N:=⟨_,rfl⟩
 obtain⟨L,hL⟩:∃L,(f.slots[n]'hnf).pats.length=L:=⟨_,rfl⟩
 obtain⟨wh,hwh⟩:∃wh,(f.slots[n]'hnf).whole=wh:=⟨_,rfl⟩
 obtain⟨F,hF⟩:∃F,stP c f D (f.slots[n]'hnf)=F:=⟨_,rfl⟩
 obtain⟨sc,hsc⟩:∃sc,a.sc=sc:=⟨_,rfl⟩
 have HKP:Hid (∀v,Zhv T E E' a c G P M (stP c f D (f.slots[n]'hnf)) w v->v.cell? ⟨a.FR,1,none⟩=some (.slice (some ⟨a.S,0,none⟩) c.slots.length a.sc)/\v.cell? ⟨ib,io+1,none⟩=some (.int .i64 (D:Int))/\v.cell? ⟨ib,io+5,none⟩=some (.int .i64 (n:Int))):=by
  intro v hv;have h1:=hv.1.f1;rw[hsp]at h1;have h2:=hi.un hv.2.2 (fun b _ e=>x.sub b e);exact⟨h1,h2.cells.at 1 rfl,h2.cells.at 5 rfl⟩
 simp only[hFR,hSb,hN',hL,hwh,hF,hsc]at f1 HK s1 s2 hN hn n1 HKP ⊢;clear x h hg hi ok hp hw hq hsp h1 h1' hFR hSb hN' hL hwh hF hsc;go_enter func45,ntmps45;go_wp2;refine rG (fun v=>v.cell? ⟨FR,1,none⟩=some (.slice (some ⟨Sb,0,none⟩) N sc)/\v.cell? ⟨ib,io+1,none⟩=some (.int .i64 (D:Int))/\v.cell? ⟨ib,io+5,none⟩=some (.int .i64 (n:Int))) fun hHeld=>?_;refine Tf 0 1 2 3 4 5 ?_;refine Tf 6 7 8 9 10 11 ?_;refine Tb 12 13 ?_;clear hHeld;refine ry1 14 fun K hK=>?_;go_simp;refine okK hK fun hHeld=>?_;clear hK K;clear hHeld;refine ry1 15 fun K hK=>?_;go_simp;(go_at_call 74;refine(HK.out _ (Zht _)).mono ?_;rintro e w1 ⟨rfl,hst⟩;have HST:=hidM (Zhv.pre (Zht _) hst);obtain⟨y1,y2,y3⟩:=HKP.out w1 HST.out;clear hst);try(go_wp2_with fail)
 exact Zcx
theorem Zaph{T:Nat->Prop}{E E':Nat}{a:Lay}{c:Cd}{G P:List (List Int)}{X:Nat->Value}{M:Nat}{m:Nat->Option Value}{f:Fr}(w:World)(x:FX T E E' a c G P w)(h:FV T E E' a c w X M m f)(hg:Good c)(ok:OkF c f)(hM:M<=1000000)(ib io:Nat)(i:Ins)(hi:InsT (mutT T E E') w ib io i)
 (hop:i.op=33) (a0:0<=i.a) (a1:i.a<(c.regs.length:Int)) (n0:0<=i.n) (n1:i.n<(c.slots.length:Int)):
 Calls prog 45 #[.pointer (some ⟨a.FR,0,none⟩),.pointer (some ⟨ib,io,none⟩)] w fun e w'=>e=.returned (.tuple #[])/\Zhv T E E' a c G P M {f with slots:=f.slots.set i.n.toNat (rdP c f i.a)} w w':=by
 have q0:=hi.cells.at 0 rfl;rw[Nat.add_zero]at q0;have q2:=hi.cells.at 2 rfl;have q5:=hi.cells.at 5 rfl;have hnot:=hi.not;obtain⟨op,D,A,B,Ec,nn,bt⟩:=i;simp only at *;subst hop;obtain⟨A,rfl⟩:∃j:Nat,A=(j:Int):=⟨A.toNat,oM⟩
 obtain⟨n,rfl⟩:∃j:Nat,nn=(j:Int):=⟨nn.toNat,oM⟩
 rw[Int.toNat_natCast];have hA:A<c.regs.length:=oM;have hn:n<c.slots.length:=oM;have hnf:n<f.slots.length:=by rw[h.slotsL];exact hn
 have HK:Hid (∀v,Below w.heap.size w v->Calls prog 75 #[.pointer (some ⟨a.FR,0,none⟩),.int .i64 (A:Int)] v fun e w'=>∃u,e=.returned (.agg #[u,.int .i64 (rdP c f A).whole])/\Pt (mutT T E E') w' u (rdP c f A).pats/\Below v.heap.size v w'):=fun v hv=>Zamc v (x.below hv) (h.below hv) hg A hA;have s1:=h.slots.row.cell (i:=n*2) Zgk;have s2:=h.slots.row.cell (i:=n*2+1) Zgk;have s3:=h.slots.row.frozen (n*2);have s4:=h.slots.row.frozen (n*2+1);obtain⟨F,hF⟩:∃F:Fr,({f with slots:=f.slots.set n (rdP c f A)}:Fr)=F:=⟨_,rfl⟩
 have HFin:Hid (∀v u,Below w.heap.size w v->Pt (mutT T E E') v u (rdP c f A).pats->Zhv T E E' a c G P M F w ((v.setCell ⟨a.S,n*2,none⟩ u).setCell ⟨a.S,n*2+1,none⟩ (.int .i64 (rdP c f A).whole))):=fun v u hv hu=>by rw[←hF];exact(Zhv.slot (x.below hv) (h.below hv) hnf hu).pre hv
 rw[hF];have f1:=x.f1;have hsp:a.sp=some ⟨a.S,0,none⟩:=by
  rcases h.slots.sp with e|e
  ·rw[e]at hnf;exact absurd hnf (Nat.not_lt_zero _)
  ·exact e
 rw[hsp]at f1;have hN:=hg.slotsL;have m1:a.S≠a.FR:=by have:=x.ltS;have:=x.iFR;omega
 have m2:a.S≠ib:=fun e=>hnot (by rw[←e];exact .inl x.hS);obtain⟨FR,hFR⟩:∃FR,a.FR=FR:=⟨_,rfl⟩
 obtain⟨Sb,hSb⟩:∃Sb,a.S=Sb:=⟨_,rfl⟩
 obtain⟨N,hN'⟩:∃N,c.slots.length=N:=⟨_,rfl⟩
 obtain⟨sc,hsc⟩:∃sc,a.sc=sc:=⟨_,rfl⟩
 obtain⟨wh,hwh⟩:∃wh,(rdP c f A).whole=wh:=⟨_,rfl⟩
 obtain⟨pt,hpt⟩:∃pt,(rdP c f A).pats=pt:=⟨_,rfl⟩
 obtain⟨x1,hx1⟩:∃x1,X (n*2)=x1:=⟨_,rfl⟩
 obtain⟨x2,hx2⟩:∃x2,X (n*2+1)=x2:=⟨_,rfl⟩
 rw[hx1]at s1;rw[hx2]at s2;simp only[hFR,hSb,hN',hwh,hpt,hsc]at f1 HK HFin s1 s2 s3 s4 hN hn n1 m1 m2 ⊢;clear x h hg hi ok hsp hFR hSb hN' hwh hpt hF hsc hx1 hx2 hnot;go_enter func45,ntmps45;go_wp2;refine rG (fun v=>v.cell? ⟨FR,1,none⟩=some (.slice (some ⟨Sb,0,none⟩) N sc)/\v.cell? ⟨ib,io+2,none⟩=some (.int .i64 (A:Int))/\v.cell? ⟨ib,io+5,none⟩=some (.int .i64 (n:Int))) fun hHeld=>?_;refine Tf 0 1 2 3 4 5 ?_;refine Tf 6 7 8 9 10 11 ?_;refine tkT 12 ?_;clear hHeld;refine ry1 13 fun K hK=>?_;go_simp;(go_at_call 75;refine(HK.out _ (Zht _)).mono ?_;rintro e w1 ⟨u,rfl,hu,hb1⟩;obtain⟨uq,uc,hue⟩:=hu.len;obtain⟨ul,hul⟩:∃ul,pt.length=ul:=⟨_,rfl⟩;rw[hul]at hue;subst hue;have HB1:=bel (Zht _) hb1;have HST:=hidM (HFin.out w1 _ HB1 hu);have z1:=kc HB1 f1;have z2:=kc HB1 q2;have z3:=kc HB1 q5;have z4:=kc HB1 s1;have z5:=kc HB1 s2;have z6:=kf HB1 s1 s3;have z7:=kf HB1 s2 s4;clear hb1 hu hul);try(go_wp2_with fail)
 refine okK hK fun hHeld=>?_;clear hK K;refine tkT 14 ?_;clear hHeld;refine ry1 15 fun K hK=>?_;go_simp;exact Zcx
def Zls(c:Cd)(f:Fr)(r:Nat):Prop:=(regT c.regs (r:Int)).kind=3->(f.vecs r).length=lenOf c (regT c.regs (r:Int)).par
theorem Znz{rs:List Ty}{l n:Int}{m:Ty}(h:Zhx rs l n m=true)(h0:0<rs.length):0<=n/\n<(rs.length:Int):=by
 by_cases hl:l=0
 ·unfold Zhx at h;rw[if_pos hl]at h;simp only[beq_iff_eq]at h;omega
 ·exact Zie h hl
theorem Zjz{rs:List Ty}{l n:Int}{m:Ty}(h:Zhx rs l n m=true)(hl:l≠0):Zjj l (regT rs n) m=true:=by
 unfold Zhx at h;rw[if_neg hl]at h;simp only[Bool.and_eq_true]at h;exact h.2
theorem fitsC_n{c:Cd}{i:Ins}{r:Rw}(h:Zjp c i r=true):Zkg c i r.n (Zij c.regs i r)=true:=by
 unfold Zjp at h;simp only[Bool.and_eq_true]at h;exact h.2.2.2.2
theorem Zaco{s:Wk}{i:Ins}{r:Rw}(h:Zqv s i r=true){n:Int}(hn:n∈Zid i r):n.toNat∈s.set:=by
 unfold Zqv at h;have:=List.all_eq_true.1 h n hn;simpa using this
structure Zlj(c:Cd)(f:Fr)(i:Ins):Prop where
 num:Zlx i.op=true->0<=i.d/\i.d<(c.regs.length:Int)/\(i.op≠1->0<=i.a/\i.a<(c.regs.length:Int))/\(i.op=16->0<=i.b/\i.b<(c.regs.length:Int))/\(regT c.regs i.d).kind=1
 whole:Zjv i.op=true->0<=i.d/\i.d<(c.regs.length:Int)/\(0<=i.a/\i.a<(c.regs.length:Int))/\(0<=i.b/\i.b<(c.regs.length:Int))/\(0<=i.c/\i.c<(c.regs.length:Int))/\(regT c.regs i.d).kind=2/\(i.op=2->0<=i.n/\i.n<=2147483647)
 part:i.op=29\/i.op=30->Zpj c i.d i.n
 out:i.op=31->Zpj c i.a i.n/\(f.vecs i.a.toNat).length=lenOf c (regT c.regs i.a).par
 load:i.op=32->0<=i.d/\i.d<(c.regs.length:Int)/\0<=i.n/\i.n<(c.slots.length:Int)/\slotT c.slots i.n=regT c.regs i.d
 store:i.op=33->0<=i.a/\i.a<(c.regs.length:Int)/\0<=i.n/\i.n<(c.slots.length:Int)/\slotT c.slots i.n=regT c.regs i.a/\Zls c f i.a.toNat
 elem:Zji i.op=true->0<=i.d/\i.d<(c.regs.length:Int)/\(0<=i.a/\i.a<(c.regs.length:Int))/\∀r∈Zid i (rowP i.op),0<=r/\r<(c.regs.length:Int)/\Zls c f r.toNat/\(regT c.regs r=regT c.regs i.d\/((regT c.regs r).kind=1/\(regT c.regs i.d).kind=3))
theorem mem_a{i:Ins}{r:Rw}(h:r.a≠0):i.a∈Zid i r:=by unfold Zid;simp[h]
theorem Zxl{c:Cd}{f:Fr}{s:Wk}{i:Ins}(t:Ziz c s i=true)(hs:∀r∈s.set,Zls c f r):Zlj c f i:=by
 obtain⟨_,h2,_,h4⟩:=Zju t;have hd:=Znv h2;have ha:=Zmm h2;have hb:=Zqe h2;have hc:=Zqd h2;have hn:=fitsC_n h2;have hr:=fun{n:Int} (hn:n∈Zid i (rowP i.op))=>hs _ (Zaco h4 hn);obtain⟨op,D,A,B,Ec,nn,bt⟩:=i;simp only at *;refine⟨fun h=>?_,fun h=>?_,fun h=>?_,fun h=>?_,fun h=>?_,fun h=>?_,fun h=>?_⟩
 ·unfold Zlx at h;simp only[Bool.or_eq_true,beq_iff_eq]at h;have hop:op=1\/op=16\/op=17\/op=19\/op=20:=oM;clear h;rcases hop with rfl|rfl|rfl|rfl|rfl
  all_goals
   have d:=Zie hd dE;have dm:=Zjz hd dE;have a1:=Znz ha oM;have b1:=Znz hb oM;exact⟨d.1,d.2,fun _=>a1,fun _=>b1,by simpa[Zjj,rowP]using dm⟩
 ·unfold Zjv at h;simp only[Bool.or_eq_true,Bool.and_eq_true,beq_iff_eq,decide_eq_true_eq]at h;have hop:op=2\/op=18\/op=21\/op=22\/op=23\/op=24\/op=25\/op=26\/op=27\/op=28:=oM;clear h;rcases hop with rfl|rfl|rfl|rfl|rfl|rfl|rfl|rfl|rfl|rfl
  all_goals
   have d:=Zie hd dE;have dm:=Zjz hd dE;have a1:=Znz ha oM;have b1:=Znz hb oM;have c1:=Znz hc oM;refine⟨d.1,d.2,a1,b1,c1,by simpa[Zjj,rowP]using dm,fun e=>?_⟩;simp[Zkg,rowP,Zpd,Zlr]at hn;show 0<=nn/\nn<=2147483647;omega
 ·rcases h with rfl|rfl
  all_goals
   have d:=Zie hd dE;have dm:=Zjz hd dE;refine⟨d.1,d.2,by simpa[Zjj,rowP]using dm,?_⟩;simp[Zkg,rowP,Zpd,Zij,Znm]at hn;first|exact hn.2|(simpa using hn.2)
 ·subst h;have d:=Zie ha dE;have dm:=Zjz ha dE;have k3:(regT c.regs A).kind=3:=by simpa[Zjj,rowP]using dm
  refine⟨⟨d.1,d.2,k3,?_⟩,?_⟩
  ·simp[Zkg,rowP,Zpd,Zij,Znm]at hn;first|exact hn.2|(simpa using hn.2)
  ·have:=hr (n:=A) (mem_a (r:=rowP 31) dE);have e:((A.toNat:Nat):Int)=A:=oM;unfold Zls at this;rw[e]at this;exact this k3
 ·subst h;have d:=Zie hd dE;simp[Zkg,rowP,Zpd,Zij,Znm]at hn;have:=Zlc.1 hn.2.1;exact⟨d.1,d.2,this.1,this.2,hn.2.2⟩
 ·subst h;have d:=Zie ha dE;simp[Zkg,rowP,Zpd,Zij,Znm]at hn;have:=Zlc.1 hn.2.1;exact⟨d.1,d.2,this.1,this.2,hn.2.2,hr (n:=A) (mem_a (r:=rowP 33) dE)⟩
 ·unfold Zji at h;simp only[Bool.and_eq_true,decide_eq_true_eq]at h;have hop:op=3\/op=4\/op=5\/op=6\/op=7\/op=8\/op=9\/op=10\/op=11\/op=12\/op=13\/op=14\/op=15:=oM;clear h;rcases hop with rfl|rfl|rfl|rfl|rfl|rfl|rfl|rfl|rfl|rfl|rfl|rfl|rfl
  all_goals
   have d:=Zie hd dE;have a1:=Zie ha dE;refine⟨d.1,d.2,a1,fun r hrr=>⟨?_,?_,hr hrr,?_⟩⟩
   all_goals
    have am:=Zjz ha dE;simp[Zid,rowP]at hrr;first
     |(have bm:=Zjz hb dE
      have b1:=Zie hb dE;have cm:=Zjz hc dE;have c1:=Zie hc dE;simp[Zjj,rowP,Zij,Znm]at am bm cm
      rcases hrr with rfl|rfl|rfl<;>first|omega|(simpa using am)|(simpa using bm)|(simpa using cm))
     |(have bm:=Zjz hb dE
      have b1:=Zie hb dE;simp[Zjj,rowP,Zij,Znm]at am bm
      rcases hrr with rfl|rfl<;>first|omega|(simpa using am)|(simpa using bm))
     |(simp[Zjj,rowP,Zij,Znm]at am
      subst hrr
      first|omega|(simpa using am))
theorem Zagy(X:Nat->Int)(n:Nat)(hX:∀i,IsP (X i)):IsP (Zmh X n):=Zom Zug Zgw hX n
theorem Zni{c:Cd}(hg:Good c){r:Int}(h0:0<=r)(h1:r<(c.regs.length:Int))(h3:(regT c.regs r).kind=3):1<=lenOf c (regT c.regs r).par/\Zhy c (regT c.regs r)=lenOf c (regT c.regs r).par:=by
 obtain⟨r,rfl⟩:∃j:Nat,r=(j:Int):=⟨r.toNat,oM⟩
 have hr:r<c.regs.length:=oM;rw[Zkc hr]at h3 ⊢;have hp:=Zlc.1 (hg.type (List.getElem_mem hr) h3);obtain⟨pp,hpp⟩:∃pp,c.regs[r].par=pp:=⟨_,rfl⟩
 refine⟨?_,by unfold Zhy;rw[if_pos h3]⟩;rw[hpp]at hp ⊢;obtain⟨p,rfl⟩:∃j:Nat,pp=(j:Int):=⟨pp.toNat,oM⟩
 obtain⟨_,e2,e3,_⟩:=Zpc hg (p:=p) oM;omega
theorem rd_ok{c:Cd}{f:Fr}(hg:Good c)(ok:OkF c f){r:Int}(h0:0<=r)(h1:r<(c.regs.length:Int))(hs:Zls c f r.toNat):HdOK c (regT c.regs r) (rdP c f r):=by
 have e:((r.toNat:Nat):Int)=r:=oM;unfold Zls at hs;rw[e]at hs;have hty:(regT c.regs r).kind=1\/(regT c.regs r).kind=2\/(regT c.regs r).kind=3:=by
  obtain⟨r,rfl⟩:∃j:Nat,r=(j:Int):=⟨r.toNat,oM⟩
  have hr:r<c.regs.length:=oM;rw[Zkc hr];exact Zff
 unfold rdP HdOK;rcases hty with h|h|h
 ·rw[if_pos h];refine⟨by unfold Zhy;rw[if_neg oM,if_pos h];rfl,fun y hy=>?_,Int.le_refl _,by show(0:Int)<=2147483647;decide⟩;simp at hy;rw[hy];exact ok.nums _
 ·rw[if_neg oM,if_pos h];exact⟨by unfold Zhy;rw[if_neg oM,if_neg oM];rfl,fun y hy=>by simp at hy,ok.whs _⟩
 ·rw[if_neg oM,if_neg oM];refine⟨?_,ok.vecs _,Int.le_refl _,by show(0:Int)<=2147483647;decide⟩;rw[(Zni hg h0 h1 h).2];exact hs h
theorem app_isP{op:Int}{args:List (List Int)}(h:∀l∈args,∀y∈l,IsP y):∀y∈appP op args,IsP y:=by
 have hX:∀i j,IsP (xF args i j):=fun i j=>by
  exact Zed
 intro y hy;unfold appP at hy;split at hy
 ·simp only[List.mem_map]at hy;obtain⟨k,_,rfl⟩:=hy;exact Zxw _ _ _ _ (Zjr hX _ _ _) (Zjr hX _ _ _) (Zjr hX _ _ _)
 ·cases hy
theorem Zpm{c:Cd}{f:Fr}{i:Ins}(hg:Good c)(ok:OkF c f)(he:Zji i.op=true)(nd:Zlj c f i)(hk:(regT c.regs i.d).kind≠2):
 1<=Zhy c (regT c.regs i.d)/\(∀r∈Zid i (rowP i.op),0<=r/\r<(c.regs.length:Int)/\((rdP c f r).pats.length=1\/(rdP c f r).pats.length=Zhy c (regT c.regs i.d))/\∀y∈(rdP c f r).pats,IsP y)/\((regT c.regs i.d).kind=1\/(regT c.regs i.d).kind=3):=by
 obtain⟨d0,d1,_,hr⟩:=nd.elem he;have hty:(regT c.regs i.d).kind=1\/(regT c.regs i.d).kind=3:=by
  obtain⟨r,hrr⟩:∃j:Nat,i.d=(j:Int):=⟨i.d.toNat,oM⟩
  rw[hrr]at hk d1 ⊢;have hr:r<c.regs.length:=oM;rw[Zkc hr]at hk ⊢;exact Zff
 refine⟨?_,fun r hm=>?_,hty⟩
 ·rcases hty with h|h
  ·unfold Zhy;rw[if_neg oM,if_pos h];exact Nat.le_refl _
  ·rw[(Zni hg d0 d1 h).2];exact(Zni hg d0 d1 h).1
 ·obtain⟨r0,r1,hs,hm2⟩:=hr r hm;have hh:=rd_ok hg ok r0 r1 hs;refine⟨r0,r1,?_,hh.2.1⟩;rcases hm2 with e|⟨e,_⟩
  ·right;rw[←e];exact hh.1
  ·left;rw[hh.1];unfold Zhy;rw[if_neg oM,if_pos e]
theorem Zps{c:Cd}{f:Fr}{i:Ins}(hg:Good c)(ok:OkF c f)(he:Zji i.op=true)(nd:Zlj c f i)(hk:(regT c.regs i.d).kind≠2):
 ((appP i.op (Zjh c f i)).length=1\/(appP i.op (Zjh c f i)).length=Zhy c (regT c.regs i.d))/\∀y∈appP i.op (Zjh c f i),IsP y:=by
 obtain⟨h1,h2,_⟩:=Zpm hg ok he nd hk;have hall:∀l∈Zjh c f i,(l.length=1\/l.length=Zhy c (regT c.regs i.d))/\∀y∈l,IsP y:=by
  intro l hl;unfold Zjh at hl;simp only[List.mem_map]at hl;obtain⟨r,hr,rfl⟩:=hl;exact(h2 r hr).2.2
 have hne:(Zjh c f i).length≠0:=by
  unfold Zjh;rw[List.length_map,←(Zpe i he).1];exact(Zpe i he).2
 obtain⟨n,hn,hn2⟩:=Ztc (l:=lF (Zjh c f i)) h1 ((Zjh c f i).length-1) (fun k hk=>by
  unfold lF;rw[Znq oM]
  exact(hall _ (List.getElem_mem _)).1)
 exact⟨by rw[(Zxx (op:=i.op) hn).1];exact hn2,app_isP fun l hl=>(hall l hl).2⟩
theorem Zux{l:List Int}(h:∀y∈l,IsP y):IsP (l.headD 0):=by
 cases l with
 |nil=>exact Zpw
 |cons y l=>exact h y sM
theorem st_ok{c:Cd}{f:Fr}(ok:OkF c f){r:Int}{h:Hd}(hp:∀y∈h.pats,IsP y)(hl:h.pats.length<=4096)(hw:0<=h.whole/\h.whole<=2147483647):OkF c (stP c f r h):=by
 unfold stP;split
 ·exact⟨Zlf ok.nums (Zux hp),ok.whs,ok.vecs,ok.vecsL,ok.slotsL,ok.slots⟩
 ·split
  ·exact⟨ok.nums,Zlf (Q:=fun y:Int=>0<=y/\y<=2147483647) ok.whs hw,ok.vecs,ok.vecsL,ok.slotsL,ok.slots⟩
  ·exact⟨ok.nums,ok.whs,Zlf (Q:=fun l:List Int=>∀y∈l,IsP y) ok.vecs hp,Zlf (Q:=fun l:List Int=>l.length<=4096) ok.vecsL hl,ok.slotsL,ok.slots⟩
theorem st_set{c:Cd}{f:Fr}{r:Int}(hr:0<=r){h:Hd}(hl:(regT c.regs r).kind=3->h.pats.length=lenOf c (regT c.regs r).par){k:Nat}(hk:k≠r.toNat->Zls c f k):Zls c (stP c f r h) k:=by
 intro h3;by_cases e:k=r.toNat
 ·have e2:(k:Int)=r:=oM;rw[e2]at h3 ⊢;unfold stP;rw[if_neg oM,if_neg oM];simp only;rw[e,Zmi];exact hl h3
 ·have:=hk e h3;unfold stP;split
  ·exact this
  ·split
   ·exact this
   ·simp only;rw[Zmn _ _ e];exact this
end Go.Proofs.YtbinohkcolcbfaaGreat
set_option maxRecDepth 100000
set_option maxHeartbeats 16000000
namespace Go.Proofs.YtbinohkcolcbfaaGreat
open Go.RowKit Go.Proofs.Tryz
set_option linter.unusedVariables false
set_option linter.unusedSimpArgs false
theorem Zos{op:Int}(h:Zih op=true):Zlx op=true\/Zjv op=true\/op=29\/op=30\/op=31\/op=32\/op=33\/(34<=op/\op<=37)\/Zji op=true:=by
 unfold Zih at h;unfold Zlx Zjv Zji;simp only[Bool.and_eq_true,Bool.or_eq_true,decide_eq_true_eq,beq_iff_eq]at h ⊢;omega
theorem Zaqf{op:Int}(h:Zji op=true):Zlx op=false/\Zjv op=false/\op≠29/\op≠30/\op≠31/\op≠32/\op≠33/\¬ (34<=op/\op<=37):=by
 unfold Zji at h;simp only[Bool.and_eq_true,decide_eq_true_eq]at h;exact Zcq
theorem Zakc{op:Int}(h:Zjv op=true):Zlx op=false/\op≠29/\op≠30/\op≠31/\op≠32/\op≠33/\¬ (34<=op/\op<=37):=by
 unfold Zjv at h;simp only[Bool.or_eq_true,Bool.and_eq_true,beq_iff_eq,decide_eq_true_eq]at h;have:op=2\/op=18\/op=21\/op=22\/op=23\/op=24\/op=25\/op=26\/op=27\/op=28:=oM;rcases this with rfl|rfl|rfl|rfl|rfl|rfl|rfl|rfl|rfl|rfl<;>decide
section
variable {c : Cd} {G P : List (List Int)} {f : Fr} {i : Ins}
theorem Znu(h:Zlx i.op=true):doI c G P f i={f with nums:=putN f.nums i.d.toNat (numI f i)}:=by unfold doI;rw[if_pos h]
theorem Zmj(h:Zjv i.op=true):doI c G P f i={f with whs:=putN f.whs i.d.toNat (Znb f i)}:=by
 unfold doI;rw[(Zakc h).1,if_neg dE,if_pos h]
theorem Zop(h:i.op=29):doI c G P f i={f with vecs:=putN f.vecs i.d.toNat (Ziq c G i)}:=by
 unfold doI;rw[h,if_neg dE,if_neg dE,if_pos rfl]
theorem Zow(h:i.op=30):doI c G P f i={f with vecs:=putN f.vecs i.d.toNat (Ziq c P i)}:=by
 unfold doI;rw[h,if_neg dE,if_neg dE,if_neg dE,if_pos rfl]
theorem Zot(h:i.op=31):doI c G P f i={f with outs:=outP f.outs (regT c.regs i.a).par.toNat (Zia c (regT c.regs i.a).par) i.n.toNat (f.vecs i.a.toNat)}:=by
 unfold doI;rw[h,if_neg dE,if_neg dE,if_neg dE,if_neg dE,if_pos rfl]
theorem Zov(h:i.op=32):doI c G P f i=stP c f i.d ((f.slots[i.n.toNat]?).getD ⟨[],0⟩):=by
 unfold doI;rw[h,if_neg dE,if_neg dE,if_neg dE,if_neg dE,if_neg dE,if_pos rfl]
theorem Zpb(h:i.op=33):doI c G P f i={f with slots:=f.slots.set i.n.toNat (rdP c f i.a)}:=by
 unfold doI;rw[h,if_neg dE,if_neg dE,if_neg dE,if_neg dE,if_neg dE,if_neg dE,if_pos rfl]
theorem Zky(h:34<=i.op/\i.op<=37):doI c G P f i=f:=by
 have h0:Zlx i.op=false/\Zjv i.op=false:=by
  have:i.op=34\/i.op=35\/i.op=36\/i.op=37:=oM;rcases this with e|e|e|e<;>rw[e]<;>decide
 unfold doI;rw[h0.1,h0.2,if_neg dE,if_neg dE,if_neg oM,if_neg oM,if_neg oM,if_neg oM,if_neg oM,if_pos h]
theorem Zmd(h:Zji i.op=true):doI c G P f i=Zll c f i:=by
 obtain⟨h1,h2,h3,h4,h5,h6,h7,h8⟩:=Zaqf h;unfold doI;rw[h1,h2,if_neg dE,if_neg dE,if_neg h3,if_neg h4,if_neg h5,if_neg h6,if_neg h7,if_neg h8]
end
theorem num_isP{f:Fr}{c:Cd}(ok:OkF c f){i:Ins}(hb:IsP i.bits):IsP (numI f i):=by
 unfold numI;refine Zkd (fpow_lo _ _ (ok.nums _).1 (ok.nums _).2) (Zkd (Zapn _) (Zkd (isP_sum _ _ (Zke (ok.vecs _))) (Zkd (Zagy _ _ (Zke (ok.vecs _))) hb)))
theorem Zqt(b:Bool):0<=Zjb b/\Zjb b<=2147483647:=by cases b<;>decide
theorem Znc{p:Prop}[Decidable p]{x y:Int}(h:p->0<=x/\x<=2147483647)(k:¬p->0<=y/\y<=2147483647):0<=(if p then x else y)/\(if p then x else y)<=2147483647:=by
 split
 ·rename_i e;exact h e
 ·rename_i e;exact k e
theorem Zaok{f:Fr}{c:Cd}(ok:OkF c f){i:Ins}(hw:Zjv i.op=true)(hn:i.op=2->0<=i.n/\i.n<=2147483647):0<=Znb f i/\Znb f i<=2147483647:=by
 have a:=ok.whs i.a.toNat;have b:=ok.whs i.b.toNat;have d:=ok.whs i.c.toNat;unfold Zjv at hw;simp only[Bool.or_eq_true,Bool.and_eq_true,beq_iff_eq,decide_eq_true_eq]at hw;unfold Znb;refine Znc (fun _=>Zqt _) fun h1=>Znc (fun _=>by omega) fun h2=>Znc (fun _=>Zqt _) fun h3=>Znc (fun _=>Zqt _) fun h4=>Znc (fun _=>Zqt _) fun h5=>Znc (fun _=>Zqt _) fun h6=>Znc (fun _=>Znc (fun _=>d) fun _=>b) fun h7=>Znc (fun _=>by omega) fun h8=>Znc (fun _=>Znc (fun _=>by decide) fun _=>⟨Int.ediv_nonneg a.1 b.1,?_⟩) fun h9=>hn oM;have:=Int.ediv_le_self (f.whs i.b.toNat) a.1;omega
theorem do_ok{c:Cd}{G P:List (List Int)}{f:Fr}{i:Ins}(hg:Good c)(ok:OkF c f)(hk:Zih i.op=true)(hb:IsP i.bits)(nd:Zlj c f i)(fg:FitV c G)(fp:FitV c P):OkF c (doI c G P f i):=by
 have pl:∀L:List (List Int),FitV c L->(∀y∈Ziq c L i,IsP y)/\(Ziq c L i).length<=4096:=fun L hL=>by
  refine⟨fun y hy=>?_,by unfold Ziq;simp only[List.length_map,List.length_range];exact hg.lenOf _⟩;unfold Ziq at hy;simp only[List.mem_map]at hy;obtain⟨k,_,rfl⟩:=hy;refine Zna _ (Zke ?_ _);unfold Zks;cases e:L[(regT c.regs i.d).par.toNat]? with
  |none=>intro y hy;cases hy
  |some l=>exact hL.isP l (List.mem_of_getElem? e)
 rcases Zos hk with h|h|h|h|h|h|h|h|h
 ·rw[Znu h];exact⟨Zlf ok.nums (num_isP ok hb),ok.whs,ok.vecs,ok.vecsL,ok.slotsL,ok.slots⟩
 ·rw[Zmj h];exact⟨ok.nums,Zlf (Q:=fun y:Int=>0<=y/\y<=2147483647) ok.whs (Zaok ok h (nd.whole h).2.2.2.2.2.2),ok.vecs,ok.vecsL,ok.slotsL,ok.slots⟩
 ·rw[Zop h];exact⟨ok.nums,ok.whs,Zlf (Q:=fun l:List Int=>∀y∈l,IsP y) ok.vecs (pl G fg).1,Zlf (Q:=fun l:List Int=>l.length<=4096) ok.vecsL (pl G fg).2,ok.slotsL,ok.slots⟩
 ·rw[Zow h];exact⟨ok.nums,ok.whs,Zlf (Q:=fun l:List Int=>∀y∈l,IsP y) ok.vecs (pl P fp).1,Zlf (Q:=fun l:List Int=>l.length<=4096) ok.vecsL (pl P fp).2,ok.slotsL,ok.slots⟩
 ·rw[Zot h];exact⟨ok.nums,ok.whs,ok.vecs,ok.vecsL,ok.slotsL,ok.slots⟩
 ·rw[Zov h];obtain⟨d0,d1,n0,n1,ht⟩:=nd.load h;have hn:i.n.toNat<c.slots.length:=oM;have hn2:i.n.toNat<f.slots.length:=by rw[ok.slotsL];exact hn
  have hh:=ok.slots i.n.toNat hn hn2;rw[List.getElem?_eq_getElem hn2,Option.getD_some];exact st_ok ok hh.2.1 (by rw[hh.1];exact hg.width _) hh.2.2
 ·rw[Zpb h];obtain⟨a0,a1,n0,n1,ht,hs⟩:=nd.store h;have hh:=rd_ok hg ok a0 a1 hs;refine⟨ok.nums,ok.whs,ok.vecs,ok.vecsL,by simp[ok.slotsL],fun j h1 h2=>?_⟩;simp only[List.getElem_set];split
  ·rename_i e;subst e;have:slotT c.slots i.n=c.slots[i.n.toNat].ty:=by unfold slotT;rw[List.getElem?_eq_getElem h1];rfl
   rw[←this,ht];exact hh
  ·exact ok.slots j h1 (by simpa using h2)
 ·rw[Zky h];exact ok
 ·rw[Zmd h];obtain⟨d0,d1,a1,_⟩:=nd.elem h;unfold Zll;by_cases h2:(regT c.regs i.d).kind=2
  ·rw[if_pos h2];exact⟨ok.nums,Zlf (Q:=fun y:Int=>0<=y/\y<=2147483647) ok.whs (ok.whs _),ok.vecs,ok.vecsL,ok.slotsL,ok.slots⟩
  ·rw[if_neg h2];obtain⟨s1,s2⟩:=Zps hg ok h nd h2;have hw:=hg.width (regT c.regs i.d);refine st_ok ok ?_ ?_ ⟨Int.le_refl _,by show(0:Int)<=2147483647;decide⟩
   ·intro y hy;dsimp only at hy;split at hy
    ·unfold Zkf at hy;rw[List.eq_of_mem_replicate hy];exact Zna _ (Zux s2)
    ·exact s2 y hy
   ·dsimp only;split
    ·unfold Zkf;rw[List.length_replicate];exact hw
    ·omega
theorem do_set{c:Cd}{G P:List (List Int)}{f:Fr}{i:Ins}(hg:Good c)(ok:OkF c f)(hk:Zih i.op=true)(nd:Zlj c f i){r:Nat}(hr:((rowP i.op).d=0\/r≠i.d.toNat)->Zls c f r):Zls c (doI c G P f i) r:=by
 have pl:∀L:List (List Int),(Ziq c L i).length=lenOf c (regT c.regs i.d).par:=fun L=>by unfold Ziq;simp
 have other:∀ (f':Fr),f'.vecs=f.vecs->((rowP i.op).d≠0->(regT c.regs i.d).kind≠3/\0<=i.d)->Zls c f' r:=fun f' hv hk3 h3=>by
  rw[hv];refine hr ?_ h3;by_cases e:(rowP i.op).d=0
  ·exact .inl e
  ·refine .inr fun e2=>(hk3 e).1 ?_;have:=(hk3 e).2;have e3:(r:Int)=i.d:=oM;rw[e3]at h3;exact h3
 have vec:∀L:List (List Int),0<=i.d->(rowP i.op).d≠0->Zls c {f with vecs:=putN f.vecs i.d.toNat (Ziq c L i)} r:=fun L h0 hd h3=>by
  by_cases e:r=i.d.toNat
  ·have e3:(r:Int)=i.d:=oM;rw[e3];show(putN f.vecs i.d.toNat (Ziq c L i) r).length=_;rw[e,Zmi,pl]
  ·show(putN f.vecs i.d.toNat (Ziq c L i) r).length=_;rw[Zmn _ _ e];exact hr (.inr e) h3
 rcases Zos hk with h|h|h|h|h|h|h|h|h
 ·rw[Znu h];exact other _ rfl fun _=>⟨by rw[(nd.num h).2.2.2.2];decide,(nd.num h).1⟩
 ·rw[Zmj h];exact other _ rfl fun _=>⟨by rw[(nd.whole h).2.2.2.2.2.1];decide,(nd.whole h).1⟩
 ·rw[Zop h];exact vec G (nd.part (.inl h)).r0 (by rw[h];decide)
 ·rw[Zow h];exact vec P (nd.part (.inr h)).r0 (by rw[h];decide)
 ·rw[Zot h];exact other _ rfl fun e=>absurd (by rw[h];decide) e
 ·rw[Zov h];obtain⟨d0,d1,n0,n1,ht⟩:=nd.load h;have hn:i.n.toNat<c.slots.length:=oM;have hn2:i.n.toNat<f.slots.length:=by rw[ok.slotsL];exact hn
  have hh:=ok.slots i.n.toNat hn hn2;rw[List.getElem?_eq_getElem hn2,Option.getD_some];refine st_set d0 (fun h3=>?_) fun e=>hr (.inr e);have:slotT c.slots i.n=c.slots[i.n.toNat].ty:=by unfold slotT;rw[List.getElem?_eq_getElem hn];rfl
  rw[hh.1,←this,ht];exact(Zni hg d0 d1 h3).2
 ·rw[Zpb h];exact other _ rfl fun e=>absurd (by rw[h];decide) e
 ·rw[Zky h];refine hr (.inl ?_);have:i.op=34\/i.op=35\/i.op=36\/i.op=37:=oM;rcases this with e|e|e|e<;>rw[e]<;>decide
 ·rw[Zmd h];obtain⟨d0,d1,a1,_⟩:=nd.elem h;unfold Zll;by_cases h2:(regT c.regs i.d).kind=2
  ·rw[if_pos h2];exact other _ rfl fun _=>⟨by rw[h2];decide,d0⟩
  ·rw[if_neg h2];obtain⟨s1,s2⟩:=Zps hg ok h nd h2;refine st_set d0 (fun h3=>?_) fun e=>hr (.inr e);have hw:=(Zni hg d0 d1 h3)
   dsimp only;rw[hw.2]at s1 ⊢;split
   ·unfold Zkf;rw[List.length_replicate];exact hw.2
   ·omega
end Go.Proofs.YtbinohkcolcbfaaGreat
namespace Go.Proofs.YtbinohkcolcbfaaGreat
open Go.RowKit Go.Proofs.Tryz
set_option linter.unusedVariables false
set_option linter.unusedSimpArgs false
set_option maxRecDepth 100000
set_option maxHeartbeats 16000000
def Zwf(c:Cd)(s:Wk)(f:Fr)(k:Nat):Prop:=
 (k=0/\∀r∈s.set,Zls c f r)\/(∃pre b rest,s.opens=pre++b::rest/\b.loop=false/\k=(pre.filter fun x=> !x.loop).length+1/\∀r∈s.set.take b.ahead,Zls c f r)
theorem Zabh:∀ {pre:List Bk} {b:Bk} {rest:List Bk} {n:Nat},okO n (pre++b::rest)->b.ahead<=n/\∀p∈pre,b.ahead<=p.ahead
 |[],b,rest,n,h=>⟨h.1,fun p hp=>by cases hp⟩
 |q::pre,b,rest,n,h=>by
  obtain⟨h1,h2⟩:=Zabh h.2;refine⟨Nat.le_trans h1 h.1,fun p hp=>?_⟩;rcases List.mem_cons.1 hp with e|e
  ·rw[e];exact h1
  ·exact h2 p e
theorem Zsg{s:Wk}{i:Ins}{r:Rw}(h:r.d=0):addP s i r=s:=by unfold addP;rw[if_neg (fun e=>e.1 h)]
theorem Zaiv{s:Wk}{i:Ins}(h1:i.op≠34)(h2:i.op≠35)(h3:i.op≠36)(h4:i.op≠37):Zmp s i=s:=by
 unfold Zmp;rw[if_neg oM,if_neg oM]
theorem Zafo{s:Wk}{i:Ins}{r:Rw}{x:Nat}(h:x∈(addP s i r).set):x∈s.set\/(r.d≠0/\x=i.d.toNat):=by
 unfold addP at h;split at h
 ·rename_i e;rcases List.mem_append.1 h with h|h
  ·exact .inl h
  ·simp at h;exact .inr ⟨e.1,h⟩
 ·exact .inl h
theorem Zabc{s:Wk}{i:Ins}{r:Rw}{n:Nat}(h:n<=s.set.length):(addP s i r).set.take n=s.set.take n/\(addP s i r).opens=s.opens:=by
 unfold addP;split
 ·exact⟨List.take_append_of_le_length h,rfl⟩
 ·exact⟨rfl,rfl⟩
theorem Zvk{s:Wk}{i:Ins}(h:i.op=34):Zib s i=⟨s.set,⟨false,i.n,s.set.length⟩::s.opens⟩:=by
 unfold Zib Zoh;rw[Zsg (by rw[h];rfl)];unfold Zmp;rw[if_pos (.inl h),h];rfl
theorem Zvr{s:Wk}{i:Ins}(h:i.op=36):Zib s i=⟨s.set,⟨true,i.n,s.set.length⟩::s.opens⟩:=by
 unfold Zib Zoh;rw[Zsg (by rw[h];rfl)];unfold Zmp;rw[if_pos (.inr h),h];rfl
theorem Zse{s:Wk}{i:Ins}(h:i.op=35\/i.op=37):Zib s i=Zix s:=by
 unfold Zib Zoh;rw[Zsg Zhg];unfold Zmp;rw[if_neg oM,if_pos h]
theorem Zqb{s:Wk}{i:Ins}(h1:i.op≠34)(h2:i.op≠35)(h3:i.op≠36)(h4:i.op≠37):Zib s i=addP s i (rowP i.op):=by
 unfold Zib Zoh;rw[Zaiv h1 h2 h3 h4]
theorem Zyw{s:Wk}{r:Nat}(h:r∈(Zix s).set):r∈s.set:=by
 unfold Zix at h;split at h
 ·dsimp only at h;split at h
  ·exact h
  ·exact List.mem_of_mem_take h
 ·exact h
theorem Zxm{c:Cd}{G P:List (List Int)}{s:Wk}{f:Fr}{k:Nat}{i:Ins}(hg:Good c)(oks:OkS c.regs.length s)(t:Ziz c s i=true)(ok:OkF c f)(hb:IsP i.bits)(fg:FitV c G)(fp:FitV c P)(sk:Zwf c s f k):
 OkF c (Zjm c G P (f,k) i).1/\Zwf c (Zib s i) (Zjm c G P (f,k) i).1 (Zjm c G P (f,k) i).2:=by
 obtain⟨hkn,_,hst,_⟩:=Zju t;rcases sk with⟨rfl,hs⟩|⟨pre,b,rest,ho,hbl,rfl,hs⟩
 ·have nd:=Zxl t hs;have hdo:OkF c (doI c G P f i):=do_ok hg ok hkn hb nd fg fp;by_cases h34:i.op=34
  ·rw[Zvk h34];by_cases hz:f.whs i.a.toNat=0
   ·have e:Zjm c G P (f,0) i=(f,1):=by
     unfold Zjm;rw[if_neg oM,if_pos ⟨h34,.inr hz⟩]
    rw[e];refine⟨ok,.inr ⟨[],⟨false,i.n,s.set.length⟩,s.opens,rfl,rfl,rfl,fun r hr=>hs r ?_⟩⟩;exact List.mem_of_mem_take hr
   ·have e:Zjm c G P (f,0) i=(f,0):=by
     unfold Zjm;rw[if_neg oM,if_neg (by simp[hz]),if_pos rfl,Zky oM]
    rw[e];exact⟨ok,.inl ⟨rfl,hs⟩⟩
  ·have e:Zjm c G P (f,0) i=(doI c G P f i,0):=by
    unfold Zjm;rw[if_neg oM,if_neg oM,if_pos rfl]
   rw[e];refine⟨hdo,.inl ⟨rfl,fun r hr=>?_⟩⟩;by_cases h35:i.op=35\/i.op=37
   ·rw[Zse h35]at hr;rw[Zky oM];exact hs r (Zyw hr)
   ·by_cases h36:i.op=36
    ·rw[Zvr h36]at hr;rw[Zky oM];exact hs r hr
    ·rw[Zqb h34 oM h36 oM]at hr;refine do_set hg ok hkn nd fun hr2=>?_;rcases Zafo hr with h|⟨h,h'⟩
     ·exact hs r h
     ·rcases hr2 with q|q
      ·exact absurd q h
      ·exact absurd h' q
 ·obtain⟨hah,hpre⟩:=Zabh (by have:=oks.opens;rw[ho]at this;exact this);obtain⟨K,hK⟩:∃K,(pre.filter fun x=> !x.loop).length=K:=⟨_,rfl⟩
  rw[hK];by_cases h34:i.op=34
  ·have e:Zjm c G P (f,K+1) i=(f,K+2):=by
    unfold Zjm;rw[if_neg oM,if_pos ⟨h34,.inl (by show 0<K+1;omega)⟩]
   rw[e,Zvk h34];refine⟨ok,.inr ⟨⟨false,i.n,s.set.length⟩::pre,b,rest,by rw[ho];rfl,hbl,?_,hs⟩⟩;rw[List.filter_cons_of_pos rfl,List.length_cons,hK]
  ·by_cases h35:i.op=35
   ·have e:Zjm c G P (f,K+1) i=(f,K):=by
     unfold Zjm;rw[if_pos ⟨by show 0<K+1;omega,h35⟩];rfl
    rw[e,Zse (.inl h35)];refine⟨ok,?_⟩;have hnl:Zim s=false:=by
     exact Zfg
    unfold Zim at hnl;unfold Zix;rw[ho]at hnl ⊢;cases pre with
    |nil=>
     simp only[List.nil_append]at hnl ⊢;simp at hK;refine .inl ⟨hK.symm,fun r hr=>hs r ?_⟩;rw[hbl]at hr;simpa using hr
    |cons p pre=>
     simp only[List.cons_append]at hnl ⊢;have hp:=hpre p sM;refine .inr ⟨pre,b,rest,rfl,hbl,?_,fun r hr=>hs r ?_⟩
     ·rw[List.filter_cons_of_pos (by rw[hnl];rfl),List.length_cons]at hK;omega
     ·rw[hnl]at hr;simp only[Bool.false_eq_true,if_false,List.take_take]at hr;rw[Nat.min_eq_left hp]at hr;exact hr
   ·have e:Zjm c G P (f,K+1) i=(f,K+1):=by
     unfold Zjm;rw[if_neg oM,if_neg oM,if_neg (by show¬ (K+1=0);omega)]
    rw[e];refine⟨ok,?_⟩;by_cases h36:i.op=36
    ·rw[Zvr h36];refine .inr ⟨⟨true,i.n,s.set.length⟩::pre,b,rest,by rw[ho];rfl,hbl,?_,hs⟩;rw[List.filter_cons_of_neg sM,hK]
    ·by_cases h37:i.op=37
     ·rw[Zse (.inr h37)];have hnl:Zim s=true:=by
       unfold Ziw at hst;rw[if_neg oM,if_neg oM,if_pos h37]at hst;exact hst
      unfold Zim at hnl;unfold Zix;rw[ho]at hnl ⊢;cases pre with
      |nil=>
       simp only[List.nil_append]at hnl;rw[hbl]at hnl;cases hnl
      |cons p pre=>
       simp only[List.cons_append]at hnl ⊢;refine .inr ⟨pre,b,rest,rfl,hbl,?_,fun r hr=>hs r ?_⟩
       ·rw[List.filter_cons_of_neg (by rw[hnl];decide)]at hK;omega
       ·rw[hnl]at hr;simpa using hr
     ·rw[Zqb h34 h35 h36 h37];obtain⟨h1,h2⟩:=Zabc (i:=i) (r:=rowP i.op) hah;exact .inr ⟨pre,b,rest,by rw[h2];exact ho,hbl,by rw[hK],fun r hr=>hs r (by rw[h1]at hr;exact hr)⟩
theorem do_any{T:Nat->Prop}{E E':Nat}{a:Lay}{c:Cd}{G P:List (List Int)}{X:Nat->Value}{M:Nat}{m:Nat->Option Value}{f:Fr}(w:World)(x:FX T E E' a c G P w)(h:FV T E E' a c w X M m f)(hg:Good c)(ok:OkF c f)(hM:M<=1000000)(ib io:Nat)(i:Ins)(hi:InsT (mutT T E E') w ib io i)
 (hk:Zih i.op=true) (nd:Zlj c f i) (fg:FitV c G) (fp:FitV c P):
 Calls prog 45 #[.pointer (some ⟨a.FR,0,none⟩),.pointer (some ⟨ib,io,none⟩)] w fun e w'=>e=.returned (.tuple #[])/\Zhv T E E' a c G P M (doI c G P f i) w w':=by
 rcases Zos hk with e|e|e|e|e|e|e|e|e
 ·obtain⟨h1,h2,h3,h4,_⟩:=nd.num e;rw[Znu e];exact do_num w x h hg ok ib io i hi e h1 h2 h3 h4
 ·obtain⟨h1,h2,h3,h4,h5,_⟩:=nd.whole e;rw[Zmj e];exact Zamz w x h hg ok ib io i hi e h1 h2 h3 h4 h5
 ·rw[Zop e];exact do_grad w x h hg ok hM ib io i hi e fg (nd.part (.inl e))
 ·rw[Zow e];exact Zaps w x h hg ok hM ib io i hi e fp (nd.part (.inr e))
 ·rw[Zot e];exact do_out w x h hg ok hM ib io i hi e (nd.out e).1 (nd.out e).2
 ·obtain⟨h1,h2,h3,h4,h5⟩:=nd.load e;rw[Zov e];refine do_load w x h hg ok hM ib io i hi e h1 h2 h3 h4 fun k1 hh he=>?_;have hn:i.n.toNat<c.slots.length:=oM;have hn2:i.n.toNat<f.slots.length:=by rw[ok.slotsL];exact hn
  have hq:=ok.slots i.n.toNat hn hn2;rw[List.getElem?_eq_getElem hn2]at he;have:slotT c.slots i.n=c.slots[i.n.toNat].ty:=by unfold slotT;rw[List.getElem?_eq_getElem hn];rfl
  rw[←this,h5]at hq;intro e2;have h9:=hq.1;unfold Zhy at h9;rw[if_neg oM,if_pos k1]at h9;simp only[Option.some.injEq]at he;rw[he,e2]at h9;cases h9
 ·obtain⟨h1,h2,h3,h4,h5,h6⟩:=nd.store e;rw[Zpb e];exact Zaph w x h hg ok hM ib io i hi e h1 h2 h3 h4
 ·rw[Zky e];exact do_mark w x h hg ok hM ib io i hi e
 ·rw[Zmd e];obtain⟨h1,h2,h3,_⟩:=nd.elem e;by_cases hk2:(regT c.regs i.d).kind=2
  ·exact Zaff w x h hg ok hM ib io i hi e _ (Zaix w x h hg ib io i hi h1 h2 h3.1 h3.2 hk2)
  ·obtain⟨h4,h5,_⟩:=Zpm hg ok e nd hk2;exact Zaff w x h hg ok hM ib io i hi e _ (Zala w x h hg ok hM ib io i hi e h1 h2 hk2 h4 h5)
end Go.Proofs.YtbinohkcolcbfaaGreat
