import Derived.Test.YtbinohkcolcbfaaGreatPart1
import Derived.Test.YtbinohkcolcbfaaGreatPart13
import Derived.Test.YtbinohkcolcbfaaGreatPart11
import Derived.Test.YtbinohkcolcbfaaGreatPart10
import Derived.Test.YtbinohkcolcbfaaGreatPart6
import Derived.Test.YtbinohkcolcbfaaGreatPart14
namespace Go.Proofs.YtbinohkcolcbfaaGreat
open Go.RowKit Go.Proofs.Tryz
set_option linter.unusedVariables false
set_option linter.unusedSimpArgs false
set_option maxRecDepth 100000
set_option maxHeartbeats 16000000
theorem Zajm{T:Nat->Prop}{E E':Nat}{a:Lay}{c:Cd}{G P:List (List Int)}{X:Nat->Value}{M:Nat}{m:Nat->Option Value}{f:Fr}(w:World)(x:FX T E E' a c G P w)(h:FV T E E' a c w X M m f)(hg:Good c)(ok:OkF c f)(ib io:Nat)(i:Ins)(hi:Zhx w ib io (inC i))
 (hop:Zju i.op=true) (ha:0<=i.a/\i.a<(c.regs.length:Int)) (hb:0<=i.b/\i.b<(c.regs.length:Int)) (hc:0<=i.c/\i.c<(c.regs.length:Int)):
 Calls prog 71 #[.pointer (some ⟨a.FR,0,none⟩),.pointer (some ⟨ib,io,none⟩)] w fun e w'=>e=.returned (.int .i64 (Zms f i))/\Below w.heap.size w w':=by
 have i0:=hi.at 0 rfl;rw[Nat.add_zero]at i0;have i2:=hi.at 2 rfl;have i3:=hi.at 3 rfl;have i4:=hi.at 4 rfl;have i5:=hi.at 5 rfl;have f2:=x.f2;have f3:=x.f3;have hN:=hg.regsL;obtain⟨op,D,A,B,Ec,nn,bt⟩:=i;simp only at i0 i2 i3 i4 i5 hop ha hb hc;obtain⟨A,rfl⟩:∃j:Nat,A=(j:Int):=⟨A.toNat,oM⟩
 obtain⟨B,rfl⟩:∃j:Nat,B=(j:Int):=⟨B.toNat,oM⟩
 obtain⟨Ec,rfl⟩:∃j:Nat,Ec=(j:Int):=⟨Ec.toNat,oM⟩
 have hA:A<c.regs.length:=oM;have hB:B<c.regs.length:=oM;have hC:Ec<c.regs.length:=oM;have k0:=h.nums.cell hA;have k1:=h.whs.cell hA;have k2:=h.whs.cell hB;have k3:=h.whs.cell hC;unfold Zju at hop;simp only[Bool.or_eq_true,Bool.and_eq_true,beq_iff_eq,decide_eq_true_eq]at hop;have hop':op=2\/op=18\/op=21\/op=22\/op=23\/op=24\/op=25\/op=26\/op=27\/op=28:=oM;rcases hop' with rfl|rfl|rfl|rfl|rfl|rfl|rfl|rfl|rfl|rfl
 ·exact whole_2 w _ _ _ ib io A B _ _ nn hN hA hB (ok.whs A) (ok.whs B) f3 i0 i2 i3 k1 k2 i5
 ·exact Zapf w _ _ _ ib io A B _ _ nn _ _ (ok.nums A) hN hA hB (ok.whs A) (ok.whs B) f3 i0 i2 i3 k1 k2 f2 k0
 ·exact Zapr w _ _ _ ib io A B _ _ nn hN hA hB (ok.whs A) (ok.whs B) f3 i0 i2 i3 k1 k2
 ·exact Zanu w _ _ _ ib io A B _ _ nn hN hA hB (ok.whs A) (ok.whs B) f3 i0 i2 i3 k1 k2
 ·exact Zaov w _ _ _ ib io A B _ _ nn hN hA hB (ok.whs A) (ok.whs B) f3 i0 i2 i3 k1 k2
 ·exact Zarp w _ _ _ ib io A B _ _ nn hN hA hB (ok.whs A) (ok.whs B) f3 i0 i2 i3 k1 k2
 ·exact Zaqn w _ _ _ ib io A B _ _ nn hN hA hB (ok.whs A) (ok.whs B) f3 i0 i2 i3 k1 k2
 ·exact Zaos w _ _ _ ib io A B _ _ nn Ec _ hC hN hA hB (ok.whs A) (ok.whs B) f3 i0 i2 i3 k1 k2 i4 k3
 ·exact Zamz w _ _ _ ib io A B _ _ nn hN hA hB (ok.whs A) (ok.whs B) f3 i0 i2 i3 k1 k2
 ·exact Zarz w _ _ _ ib io A B _ _ nn hN hA hB (ok.whs A) (ok.whs B) f3 i0 i2 i3 k1 k2
structure FitV(c:Cd)(L:List (List Int)):Prop where
 len:L.length=c.sign.length
 each:∀p (h:p<L.length),(L[p]).length=Zjg c p
 isP:∀l∈L,∀y∈l,IsP y
theorem Zow{c:Cd}(hg:Good c){p:Nat}(h:p<c.sign.length):Zjg c p=Zia c p*lenOf c p/\lenOf c p=c.sign[p].len.toNat/\1<=c.sign[p].len/\c.sign[p].len<=4096/\(Zia c p=1\/Zia c p=2):=by
 have h1:=hg.len c.sign[p] (List.getElem_mem h);have h2:=hg.kind c.sign[p] (List.getElem_mem h);have e1:lenOf c (p:Int)=c.sign[p].len.toNat:=by unfold lenOf;simp[h]
 have e2:Zia c (p:Int)=if c.sign[p].kind=2 then 2 else 1:=by unfold Zia Zkx;simp[h]
 refine⟨?_,e1,h1.1,h1.2,?_⟩
 ·unfold Zjg;rw[e1,e2];simp only[List.getElem?_eq_getElem h,Option.elim_some];unfold numL numP;rw[h2];simp only[if_true,beq_iff_eq];split<;>omega
 ·rw[e2];split<;>simp
theorem Zaji(w:World)(FR C b1 o1 m1 N b0 o0 m0 Ns D p vb vo vm qb qo cap Lq K n Ln ib io:Nat)(V:Nat->Int)(hV:∀j,IsP (V j))(hN:N<=16384)(hNs:Ns<=64)(hD:D<N)(hp:p<Ns)(hLn:Ln<=4096)(hL1:1<=Ln)(hK:K=1\/K=2)(hn:n<K)(hLq:Lq=K*Ln)
 (f0:w.cell? ⟨FR,0,none⟩=some (.pointer (some ⟨C,0,none⟩))) (c0:w.cell? ⟨C,0,none⟩=some (.slice (some ⟨b0,o0,none⟩) Ns m0)) (c1:w.cell? ⟨C,1,none⟩=some (.slice (some ⟨b1,o1,none⟩) N m1))
 (r1:w.cell? ⟨b1,o1+D*2+1,none⟩=some (.int .i64 (p:Int))) (s2:w.cell? ⟨b0,o0+p*3+2,none⟩=some (.int .i64 (Ln:Int)))
 (i1:w.cell? ⟨ib,io+1,none⟩=some (.int .i64 (D:Int))) (i5:w.cell? ⟨ib,io+5,none⟩=some (.int .i64 (n:Int)))
 (v1:w.cell? ⟨vb,vo+p,none⟩=some (.slice (some ⟨qb,qo,none⟩) Lq cap)) (hq:∀j,j<Lq->w.cell? ⟨qb,qo+j,none⟩=some (.int .u32 (V j)))
 (KA:Hid (∀v,Below w.heap.size w v->Calls prog 117 #[.pointer (some ⟨FR,0,none⟩),.int .i64 (p:Int)] v fun e w'=>e=.returned (.int .i64 (K:Int))/\w'=v)):
 Calls prog 72 #[.pointer (some ⟨FR,0,none⟩),.slice (some ⟨vb,vo,none⟩) Ns vm,.pointer (some ⟨ib,io,none⟩)] w fun e w'=>∃g,e=.returned (.slice (some ⟨g,0,none⟩) Ln Ln)/\w.heap.size<=g/\w'.rowIs g 43 Ln (fun j=>.int .u32 (canon (V (K*j+n))))/\Below w.heap.size w w':=by
 have hmk:=Zvw Ln oM;have HQ:Hid (∀j,j<Lq->w.cell? ⟨qb,qo+j,none⟩=some (.int .u32 (V j))):=hq;have HV:Hid (∀j,IsP (V j)):=hV;have HLq:Hid (Lq=K*Ln):=hLq;have g2:Lq<=8192:=by rcases hK with rfl|rfl<;>omega
 clear hq hV hLq;go_enter func72,ntmps72;go_wp2;refine rG (fun v=>v.cell? ⟨FR,0,none⟩=some (.pointer (some ⟨C,0,none⟩))/\v.cell? ⟨C,1,none⟩=some (.slice (some ⟨b1,o1,none⟩) N m1)/\v.cell? ⟨ib,io+1,none⟩=some (.int .i64 (D:Int))/\v.cell? ⟨b1,o1+D*2+1,none⟩=some (.int .i64 (p:Int))) fun hHeld=>?_;refine Tf 0 1 2 3 4 5 ?_;refine Tf 6 7 8 9 10 11 ?_;refine Tc 12 13 14 ?_;refine wpAnyH_done kR ?_ _;go_wp2;refine rG (fun v=>v.cell? ⟨vb,vo+p,none⟩=some (.slice (some ⟨qb,qo,none⟩) Lq cap)) fun hHeld=>?_;refine Tf 0 1 2 3 4 5 ?_;clear hHeld;refine ry1 6 fun K hK=>?_;go_simp;(go_at_call 117;refine(KA.out _ (bel (Zht _) (Zht _))).mono ?_;rintro e w1 ⟨rfl,hw'⟩;obtain rfl:=hw'.symm);try(go_wp2_with fail)
 refine okK hK fun hHeld=>?_;clear hK K;refine Tb 7 8 ?_;refine wpAnyH_done kR ?_ _;go_wp2
 go_loopw [47] (fun iv wr=>Below w.heap.size w wr/\∃j:Nat,j<=Ln/\iv=.int .i64 j/\Hid (wr.rowIs w.heap.size 43 Ln (fun k=>.int .u32 (if k<j then canon (V (K*k+n))else 0)))) (fun iv _=>Ln-(intOf iv).toNat)
 case atStart=>
  refine⟨gG,0,Nat.zero_le _,rfl,?_⟩;have hr:=(World.rowIs_made w (.int .u32 0) Ln 43).drew.drew;exact hr.congr fun k _=>by simp
 case round=>
  obtain⟨hb,j,hj,rfl,hrow⟩:=hrel;by_cases hlt:j<Ln
  ·have hKj:K*j+n<K*Ln:=by rcases hK with rfl|rfl<;>omega
   have hKL:K*Ln<=8192:=by rw[←HLq.out];exact g2
   obtain⟨I0,hI0⟩:∃I0,K*j=I0:=⟨_,rfl⟩
   obtain⟨I,hI⟩:∃I,I0+n=I:=⟨_,rfl⟩
   have e1:IntKind.i64.wrap ((K:Int)*(j:Int))=(I0:Int):=by
    have:((K:Int)*(j:Int))=((K*j:Nat):Int):=sM;rw[this,hI0,IntKind.wrap_i64];omega
   have e2:IntKind.i64.wrap ((I0:Int)+(n:Int))=(I:Int):=by rw[IntKind.wrap_i64];omega
   have hIL:I<Lq:=by rw[HLq.out];omega
   have hIc:(I:Int)<(Lq:Int):=oM;have hI9:(0:Int)<=(I:Int):=oM;have x1:wr.cell? ⟨qb,qo+I,none⟩=some (.int .u32 (V I)):=kc hb (HQ.out I hIL);have x5:=kc hb i5;have y0:=hrow.out.cell hlt;have y1:=hrow.out.frozen j;have pI:=HV.out I;have HPI:Hid (IsP (V I)):=pI;have HI:Hid (K*j+n=I):=by rw[←hI,←hI0];exact rfl
   have n1:w.heap.size≠qb:=by have:=Zhr (HQ.out I hIL);simp at this;omega
   clear hI0 hI hKj pI hKL;go_wp2_with(go_at_call 101;refine(Zmd _ HPI.out.1 HPI.out.2 _).mono ?_;rintro e w1 ⟨rfl,hw'⟩;obtain rfl:=hw'.symm);go_roundw
   case rel=>
    refine⟨hb.setCell sM _,j+1,oM,gN,?_⟩;exact(hrow.out.set j _).congr fun k hk=>by
     by_cases e:k=j
     ·subst e;rw[if_pos rfl,if_pos oM,HI.out]
     ·rw[if_neg e];by_cases e3:k<j
      ·rw[if_pos e3,if_pos oM]
      ·rw[if_neg e3,if_neg oM]
   case measure=>simp[intOf];omega
  ·have hjL:j=Ln:=oM;subst hjL;go_wp2;go_ret;exact⟨w.heap.size,rfl,Nat.le_refl _,hrow.out.congr fun k hk=>by rw[if_pos hk],hb⟩
theorem Zxt{α:Type}(f:Nat->Int)(n j:Nat)(h:j<n):atL ((List.range n).map f) j=f j:=by
 unfold atL;simp[h]
theorem VsT.at{T:Nat->Prop}{w:World}{v:Value}{L:List (List Int)}(h:VsT T w v L){p:Nat}(hp:p<L.length):∃b o c u,v=.slice (some ⟨b,o,none⟩) L.length c/\w.cell? ⟨b,o+p,none⟩=some u/\Pt T w u L[p]:=by
 obtain⟨q,c,hv,hh⟩:=h;rcases hh with e|⟨b,o,rfl,_,_,hh⟩
 ·rw[e]at hp;exact absurd hp (Nat.not_lt_zero _)
 ·obtain⟨u,h1,h2⟩:=hh p hp;exact⟨b,o,c,u,hv,h1,h2⟩
theorem Pt.cells{T:Nat->Prop}{w:World}{v:Value}{l:List Int}(h:Pt T w v l)(hl:0<l.length):∃b o c,v=.slice (some ⟨b,o,none⟩) l.length c/\¬T b/\∀j,j<l.length->w.cell? ⟨b,o+j,none⟩=some (.int .u32 (atL l j)):=by
 obtain⟨q,c,hv,hh⟩:=h;rcases hh with e|⟨b,o,rfl,hn,_,hh⟩
 ·rw[e]at hl;exact absurd hl (Nat.not_lt_zero _)
 ·refine⟨b,o,c,hv,hn,fun j hj=>?_⟩;have:=(hh j hj).at 0 (v:=.int .u32 l[j]) rfl;rw[Nat.mul_one,Nat.add_zero]at this;rw[this];simp[atL,List.getElem?_eq_getElem hj]
structure Zpj(c:Cd)(r:Int)(n:Int):Prop where
 r0:0<=r
 r1:r<(c.regs.length:Int)
 kind:(regT c.regs r).kind=3
 n0:n=0\/(n=1/\Zkx c.sign (regT c.regs r).par=2)
theorem Zacg{T:Nat->Prop}{E E':Nat}{a:Lay}{c:Cd}{G P:List (List Int)}(w:World)(x:FX T E E' a c G P w)(hg:Good c)(v:Value)(L:List (List Int))(hv:VsT (mutT T E E') w v L)(hL:FitV c L)(ib io:Nat)(i:Ins)(hi:Zhx w ib io (inC i))(hp:Zpj c i.d i.n):
 Calls prog 72 #[.pointer (some ⟨a.FR,0,none⟩),v,.pointer (some ⟨ib,io,none⟩)] w fun e w'=>∃g,e=.returned (.slice (some ⟨g,0,none⟩) (Zir c L i).length (Zir c L i).length)/\w.heap.size<=g/\w'.rowIs g 43 (Zir c L i).length (fun j=>.int .u32 (atL (Zir c L i) j))/\Below w.heap.size w w':=by
 have i1:=hi.at 1 rfl;have i5:=hi.at 5 rfl;obtain⟨op,D,A,B,Ec,nn,bt⟩:=i;simp only at i1 i5 hp;obtain⟨D,rfl⟩:∃j:Nat,D=(j:Int):=⟨D.toNat,by have:=hp.r0;omega⟩
 have hD:D<c.regs.length:=by have:=hp.r1;omega
 have hk:=hp.kind;have hn0:=hp.n0;rw[Zkb hD]at hk hn0;have hpar:=Zld.1 (hg.type (List.getElem_mem hD) hk);obtain⟨b1,o1,m1,hv1,-,r1⟩:=x.code.reg hD;have hPE:Zir c L ⟨op,(D:Int),A,B,Ec,nn,bt⟩=(List.range (lenOf c c.regs[D].par)).map fun e=>canon (atL (Zkt L c.regs[D].par.toNat) (Zia c c.regs[D].par*e+nn.toNat)):=by
  unfold Zir;simp only[Zkb hD]
 obtain⟨pp,hpp⟩:∃pp,c.regs[D].par=pp:=⟨_,rfl⟩
 rw[hpp]at hpar r1 hPE hn0;obtain⟨p,rfl⟩:∃j:Nat,pp=(j:Int):=⟨pp.toNat,oM⟩
 have hps:p<c.sign.length:=oM;obtain⟨b0,o0,m0,hv0,-,s2⟩:=x.code.par hps;obtain⟨e1,e2,e3,e4,e5⟩:=Zow hg hps;have f0:=x.f0;have c0:=x.code.c0;have c1:=x.code.c1;rw[hv0]at c0;rw[hv1]at c1;obtain⟨vb,vo,vm,u,rfl,v1,hu⟩:=hv.at (p:=p) Zgy;have hlen:=hL.each p Zgy;obtain⟨qb,qo,cap,rfl,-,hq⟩:=hu.cells (by rw[hlen,e1,e2];have:=Nat.mul_pos (show 0<Zia c p by omega) (show 0<c.sign[p].len.toNat by omega);exact this);have hkk:nn=0\/(nn=1/\Zia c p=2):=hn0.imp id fun⟨h1,h2⟩=>⟨h1,by unfold Zia;rw[if_pos h2]⟩
 obtain⟨n,rfl⟩:∃j:Nat,nn=(j:Int):=⟨nn.toNat,oM⟩
 have hva:Zkt L p=L[p]' Zgy:=by unfold Zkt;rw[List.getElem?_eq_getElem Zgy];rfl
 rw[Int.toNat_natCast,Int.toNat_natCast,hva]at hPE;have hPL:(Zir c L ⟨op,(D:Int),A,B,Ec,(n:Int),bt⟩).length=lenOf c p:=by rw[hPE];simp
 have s2':w.cell? ⟨b0,o0+p*3+2,none⟩=some (.int .i64 ((lenOf c p:Nat):Int)):=by rw[s2,e2];congr 2;omega
 have K:=Zaji w a.FR a.C b1 o1 m1 c.regs.length b0 o0 m0 c.sign.length D p vb vo vm qb qo cap _ (Zia c p) n (lenOf c p) ib io (atL (L[p]' Zgy)) (Zke (hL.isP _ (List.getElem_mem _))) hg.regsL hg.signL hD hps (hg.lenOf _) oM e5 oM (hlen.trans e1) f0 c0 c1 r1 s2' i1 i5 v1 hq (fun v hv=>Zyp v (x.below hv) hg p hps);rw[hL.len];refine K.mono ?_;rintro e w' ⟨g,h1,h2,h3,h4⟩;rw[hPL];refine⟨g,h1,h2,h3.congr fun j hj=>?_,h4⟩;rw[hPE,Zxt (α:=Int) _ _ _ hj]
structure Lt where
 a:Int
 b:Int
 c:Int
 d:Int
 e:Int
def ltR(op:Int):Lt:=
 if op=1 then⟨110,45,45,45,45⟩
 else if op=2 then⟨119,45,45,45,105⟩
 else if op=3 then⟨97,99,45,45,45⟩
 else if 4<=op/\op<=10 then⟨100,120,120,45,45⟩
 else if 11<=op/\op<=14 then⟨100,120,45,45,45⟩
 else if op=15 then⟨100,120,120,120,45⟩
 else if op=16 then⟨110,110,119,45,45⟩
 else if op=17 then⟨110,119,45,45,45⟩
 else if op=18 then⟨119,110,45,45,45⟩
 else if 19<=op/\op<=20 then⟨110,118,45,45,45⟩
 else if op=21\/op=25 then⟨119,119,45,45,45⟩
 else if op=26 then⟨119,119,119,119,45⟩
 else if 22<=op/\op<=28 then⟨119,119,119,45,45⟩
 else if 29<=op/\op<=30 then⟨118,45,45,45,112⟩
 else if op=31 then⟨45,118,45,45,112⟩
 else if op=32 then⟨97,45,45,45,115⟩
 else if op=33 then⟨45,97,45,45,115⟩
 else if op=34 then⟨45,119,45,45,45⟩
 else if op=36 then⟨45,45,45,45,113⟩
 else⟨45,45,45,45,45⟩
def dR(rs:List Ty)(l D:Int):Ty:=if l=45 then⟨0,0⟩else regT rs D
def tR(rs:List Ty)(l0 l1 D A:Int):Ty:=if l0=45/\l1≠45 then regT rs A else dR rs l0 D
def Zll(c:Cd)(l n:Int)(t:Ty):Bool:=
 if l=105 then Zls n
 else if l=112 then n==0||(n==1&&Zkx c.sign t.par==2)
 else if l=115 then isPl n c.slots.length&&decide (slotT c.slots n=t)
 else if l=113 then isPl n c.sign.length
 else n==0
def Zmq(c:Cd)(i:Ins)(L:Lt):Bool:=
 (i.op==1||i.bits==0)&&(Zkn i.bits&&(Zhz c.regs L.a i.d ⟨0,0⟩&&(Zhz c.regs L.b i.a (dR c.regs L.a i.d)&&(Zhz c.regs L.c i.b (dR c.regs L.a i.d)&&(Zhz c.regs L.d i.c (dR c.regs L.a i.d)&&Zll c L.e i.n (tR c.regs L.a L.b i.d i.a))))))
theorem Zafs{c:Cd}(h:Zif c=true){n:Int}(hp:isPl n c.regs.length=true):Zil (regT c.regs n) c.sign.length=true:=by
 obtain⟨k,rfl,hk⟩:=Zma hp;rw[Zoz rfl hk];unfold Zif at h;exact List.all_eq_true.1 h _ (List.getElem_mem hk)
theorem Zafz{c:Cd}(h:Zif c=true){n:Int}(hp:isPl n c.regs.length=true)(hk:(regT c.regs n).kind=1):(regT c.regs n).par=0:=by
 have:=Zafs h hp;unfold Zil at this;rw[if_pos (.inl hk)]at this;simpa using this
theorem x_eq{c:Cd}(h:Zif c=true){n m:Int}(hn:isPl n c.regs.length=true)(hm:isPl m c.regs.length=true)(hk:((regT c.regs m).kind==1||(regT c.regs m).kind==3)=true):
 ((regT c.regs n).kind==1||decide (regT c.regs n=regT c.regs m))=(decide (regT c.regs n=regT c.regs m)||((regT c.regs n).kind==1&&(regT c.regs m).kind==3)):=by
 have h1:=Zafz h hn;have h2:=Zafz h hm;generalize regT c.regs n=t at *;generalize regT c.regs m=d at *;obtain⟨K,P⟩:=t;obtain⟨A,B⟩:=d;simp only at h1 h2 hk ⊢;rw[Bool.eq_iff_iff];simp only[Bool.or_eq_true,beq_iff_eq,decide_eq_true_eq,Bool.and_eq_true,Ty.mk.injEq]at hk ⊢;constructor
 ·rintro(e|e)
  ·rcases hk with k|k
   ·exact .inl ⟨oM,by rw[h1 e,h2 k]⟩
   ·exact .inr ⟨e,k⟩
  ·exact .inl e
 ·rintro(e|e)
  ·exact .inr e
  ·exact .inl e.1
theorem told0:Zkn 0=true:=dE
theorem Zpb(rs:List Ty)(n:Int)(d:Ty):Zhz rs 45 n d=(n==0):=if_pos rfl
theorem Zpz(rs:List Ty)(n:Int)(d:Ty):Zhw rs 0 n d=(n==0):=if_pos rfl
theorem Zla{l:Int}(h:l≠0)(rs:List Ty)(n:Int)(d:Ty):Zhw rs l n d=(isPl n rs.length&&Zjk l (regT rs n) d):=if_neg h
theorem Zkq{l:Int}(h:l≠45)(rs:List Ty)(n:Int)(d:Ty):Zhz rs l n d=(isPl n rs.length&&letR l (regT rs n) d):=if_neg h
theorem Zrt(rs:List Ty)(n:Int)(d m:Ty):Zhz rs 110 n d=Zhw rs 1 n m:=by rw[Zkq dE,Zla dE];rfl
theorem Zlt(rs:List Ty)(n:Int)(d m:Ty):Zhz rs 119 n d=Zhw rs 2 n m:=by rw[Zkq dE,Zla dE];rfl
theorem Zaas(rs:List Ty)(n:Int)(d m:Ty):Zhz rs 118 n d=Zhw rs 3 n m:=by rw[Zkq dE,Zla dE];rfl
theorem Zabb(rs:List Ty)(n:Int)(d m:Ty):Zhz rs 100 n d=Zhw rs 4 n m:=by rw[Zkq dE,Zla dE];rfl
theorem Zii(rs:List Ty)(n:Int)(d m:Ty):Zhz rs 45 n d=Zhw rs 0 n m:=by rw[Zpb,Zpz]
theorem Zada(rs:List Ty)(n:Int)(d:Ty):Zhz rs 97 n d=Zhw rs 6 n (regT rs n):=by rw[Zkq dE,Zla dE];simp[letR,Zjk]
theorem oper_c(rs:List Ty)(n:Int)(d:Ty):Zhz rs 99 n d=Zhw rs 5 n d:=by rw[Zkq dE,Zla dE];simp[letR,Zjk]
theorem oper_x{c:Cd}(h:Zif c=true)(n:Int){m:Int}(hd:Zhw c.regs 4 m (regT c.regs m)=true):Zhz c.regs 120 n (regT c.regs m)=Zhw c.regs 5 n (regT c.regs m):=by
 rw[Zkq dE,Zla dE];rw[Zla dE]at hd;simp only[Bool.and_eq_true]at hd;cases hn:isPl n c.regs.length
 ·rfl
 ·rw[Bool.true_and,Bool.true_and];exact x_eq h hn hd.1 hd.2
theorem Zjo{c:Cd}{i:Ins}{L:Lt}{R:Rw}(h1:i.op≠1)(h7:R.n≠7)(ha:Zhz c.regs L.a i.d ⟨0,0⟩=Zhw c.regs R.d i.d (Zij c.regs i R))
 (hb:Zhw c.regs R.d i.d (Zij c.regs i R)=true->Zhz c.regs L.b i.a (dR c.regs L.a i.d)=Zhw c.regs R.a i.a (Zij c.regs i R))
 (hc:Zhw c.regs R.d i.d (Zij c.regs i R)=true->Zhz c.regs L.c i.b (dR c.regs L.a i.d)=Zhw c.regs R.b i.b (Zij c.regs i R))
 (hd:Zhw c.regs R.d i.d (Zij c.regs i R)=true->Zhz c.regs L.d i.c (dR c.regs L.a i.d)=Zhw c.regs R.c i.c (Zij c.regs i R))
 (he:Zll c L.e i.n (tR c.regs L.a L.b i.d i.a)=Zpe c i.n R.n (Zij c.regs i R)):Zmq c i L=Zjp c i R:=by
 unfold Zmq Zjp Zkh;rw[if_neg h7,ha,he];have:(i.op==1)=false:=by simpa using h1
 rw[this,Bool.false_or];cases hX:Zhw c.regs R.d i.d (Zij c.regs i R)
 ·simp
 ·rw[hb hX,hc hX,hd hX];cases hb:(i.bits==0)
  ·simp
  ·have:i.bits=0:=by simpa using hb
   rw[this,told0];simp
theorem Zabh{c:Cd}(h:Zif c=true)(i:Ins):Zmq c i (ltR i.op)=Zjp c i (rowP i.op):=by
 have x:=fun n=>@oper_x c h n i.d;by_cases h1:i.op=1
 ·have e1:ltR i.op=⟨110,45,45,45,45⟩:=by rw[h1];rfl
  have e2:rowP i.op=⟨1,0,0,0,7⟩:=by rw[h1];rfl
  rw[e1,e2];unfold Zmq Zjp Zkh;simp only;rw[h1,Zrt _ _ _ (Zij c.regs i ⟨1,0,0,0,7⟩),Zpb,Zpb,Zpb,Zpz,Zpz,Zpz];rw[show Zll c 45 i.n (tR c.regs 110 45 i.d i.a)=(i.n==0)from rfl];generalize Zhw c.regs 1 i.d _=A1;cases A1<;>cases Zkn i.bits<;>simp
 unfold ltR rowP;rw[if_neg h1,if_neg h1];by_cases h2:i.op=2
 ·rw[if_pos h2,if_pos h2];exact Zjo h1 dE (Zlt _ _ _ _) (fun _=>Zii _ _ _ _) (fun _=>Zii _ _ _ _) (fun _=>Zii _ _ _ _) rfl
 rw[if_neg h2,if_neg h2];by_cases h3:i.op=3
 ·rw[if_pos h3,if_pos h3];exact Zjo h1 dE (Zada _ _ _) (fun _=>oper_c _ _ _) (fun _=>Zii _ _ _ _) (fun _=>Zii _ _ _ _) rfl
 rw[if_neg h3,if_neg h3];by_cases h4:4<=i.op/\i.op<=10
 ·rw[if_pos h4,if_pos h4];exact Zjo h1 dE (Zabb _ _ _ _) (x _) (x _) (fun _=>Zii _ _ _ _) rfl
 rw[if_neg h4,if_neg h4];by_cases h5:11<=i.op/\i.op<=14
 ·rw[if_pos h5,if_pos h5];exact Zjo h1 dE (Zabb _ _ _ _) (x _) (fun _=>Zii _ _ _ _) (fun _=>Zii _ _ _ _) rfl
 rw[if_neg h5,if_neg h5];by_cases h6:i.op=15
 ·rw[if_pos h6,if_pos h6];exact Zjo h1 dE (Zabb _ _ _ _) (x _) (x _) (x _) rfl
 rw[if_neg h6,if_neg h6];by_cases h7:i.op=16
 ·rw[if_pos h7,if_pos h7];exact Zjo h1 dE (Zrt _ _ _ _) (fun _=>Zrt _ _ _ _) (fun _=>Zlt _ _ _ _) (fun _=>Zii _ _ _ _) rfl
 rw[if_neg h7,if_neg h7];by_cases h8:i.op=17
 ·rw[if_pos h8,if_pos h8];exact Zjo h1 dE (Zrt _ _ _ _) (fun _=>Zlt _ _ _ _) (fun _=>Zii _ _ _ _) (fun _=>Zii _ _ _ _) rfl
 rw[if_neg h8,if_neg h8];by_cases h9:i.op=18
 ·rw[if_pos h9,if_pos h9];exact Zjo h1 dE (Zlt _ _ _ _) (fun _=>Zrt _ _ _ _) (fun _=>Zii _ _ _ _) (fun _=>Zii _ _ _ _) rfl
 rw[if_neg h9,if_neg h9];by_cases h10:19<=i.op/\i.op<=20
 ·rw[if_pos h10,if_pos h10];exact Zjo h1 dE (Zrt _ _ _ _) (fun _=>Zaas _ _ _ _) (fun _=>Zii _ _ _ _) (fun _=>Zii _ _ _ _) rfl
 rw[if_neg h10,if_neg h10];by_cases h11:i.op=21\/i.op=25
 ·rw[if_pos h11,if_pos h11];exact Zjo h1 dE (Zlt _ _ _ _) (fun _=>Zlt _ _ _ _) (fun _=>Zii _ _ _ _) (fun _=>Zii _ _ _ _) rfl
 rw[if_neg h11,if_neg h11];by_cases h12:i.op=26
 ·rw[if_pos h12,if_pos h12];exact Zjo h1 dE (Zlt _ _ _ _) (fun _=>Zlt _ _ _ _) (fun _=>Zlt _ _ _ _) (fun _=>Zlt _ _ _ _) rfl
 rw[if_neg h12,if_neg h12];by_cases h13:22<=i.op/\i.op<=28
 ·rw[if_pos h13,if_pos h13];exact Zjo h1 dE (Zlt _ _ _ _) (fun _=>Zlt _ _ _ _) (fun _=>Zlt _ _ _ _) (fun _=>Zii _ _ _ _) rfl
 rw[if_neg h13,if_neg h13];by_cases h14:29<=i.op/\i.op<=30
 ·rw[if_pos h14,if_pos h14];exact Zjo h1 dE (Zaas _ _ _ _) (fun _=>Zii _ _ _ _) (fun _=>Zii _ _ _ _) (fun _=>Zii _ _ _ _) rfl
 rw[if_neg h14,if_neg h14];by_cases h15:i.op=31
 ·rw[if_pos h15,if_pos h15];exact Zjo h1 dE (Zii _ _ _ _) (fun _=>Zaas _ _ _ _) (fun _=>Zii _ _ _ _) (fun _=>Zii _ _ _ _) rfl
 rw[if_neg h15,if_neg h15];by_cases h16:i.op=32
 ·rw[if_pos h16,if_pos h16];exact Zjo h1 dE (Zada _ _ _) (fun _=>Zii _ _ _ _) (fun _=>Zii _ _ _ _) (fun _=>Zii _ _ _ _) rfl
 rw[if_neg h16,if_neg h16];by_cases h17:i.op=33
 ·rw[if_pos h17,if_pos h17];exact Zjo h1 dE (Zii _ _ _ _) (fun _=>Zada _ _ _) (fun _=>Zii _ _ _ _) (fun _=>Zii _ _ _ _) rfl
 rw[if_neg h17,if_neg h17];by_cases h18:i.op=34
 ·rw[if_pos h18,if_pos h18];exact Zjo h1 dE (Zii _ _ _ _) (fun _=>Zlt _ _ _ _) (fun _=>Zii _ _ _ _) (fun _=>Zii _ _ _ _) rfl
 rw[if_neg h18,if_neg h18];by_cases h19:i.op=36
 ·rw[if_pos h19,if_pos h19];exact Zfi
 rw[if_neg h19,if_neg h19];exact Zfi
structure InsT(T:Nat->Prop)(w:World)(ib io:Nat)(i:Ins):Prop where
 not:¬T ib
 lt:ib<w.heap.size
 cells:Zhx w ib io (inC i)
theorem InsT.un{T U:Nat->Prop}{w w':World}{ib io:Nat}{i:Ins}(h:InsT T w ib io i)(q:Un U w w')(hu:∀b,b<w.heap.size->U b->T b):InsT T w' ib io i:=
 ⟨h.not,Nat.lt_of_lt_of_le h.lt q.size,h.cells.of_block (q.block _ h.lt fun e=>h.not (hu _ h.lt e))⟩
theorem InsT.below{T:Nat->Prop}{w w':World}{ib io:Nat}{i:Ins}(h:InsT T w ib io i)(q:Below w.heap.size w w'):InsT T w' ib io i:=h.un (U:=fun _=>False) (Un.of q) (fun _ _ e=>e.elim)
theorem FX.sub{T:Nat->Prop}{E E':Nat}{a:Lay}{c:Cd}{G P:List (List Int)}{w:World}(x:FX T E E' a c G P w):∀b,Zsm a E E' b->mutT T E E' b:=by
 rintro b (e|e)
 ·exact .inl (e▸x.hS)
 ·exact .inr e
def outJ(o:Nat->Nat->Int)(p k n:Nat)(l:List Int)(j:Nat):Nat->Nat->Int:=fun q i=>if q=p/\i%k=n/\i/k<j then atL l (i/k)else o q i
theorem outJ_0(o:Nat->Nat->Int)(p k n:Nat)(l:List Int):outJ o p k n l 0=o:=by
 funext q i;unfold outJ;rw[if_neg (fun h=>Nat.not_lt_zero _ h.2.2)]
theorem Zanw(o:Nat->Nat->Int)(p k n:Nat)(l:List Int):outJ o p k n l l.length=outP o p k n l:=rfl
theorem Zamu(o:Nat->Nat->Int)(p k n:Nat)(l:List Int)(j:Nat)(hn:n<k):(fun q i=>if q=p/\i=k*j+n then atL l j else outJ o p k n l j q i)=outJ o p k n l (j+1):=by
 funext q i;unfold outJ;by_cases hq:q=p
 ·by_cases hi:i=k*j+n
  ·have h1:i%k=n:=by rw[hi,Nat.mul_add_mod,Nat.mod_eq_of_lt hn]
   have h2:i/k=j:=by
    rw[hi,Nat.mul_add_div oM,Nat.div_eq_of_lt hn,Nat.add_zero]
   rw[if_pos ⟨hq,hi⟩,if_pos ⟨hq,h1,oM⟩,h2]
  ·rw[if_neg (fun h=>hi h.2)];by_cases h1:i%k=n
   ·have h3:i=k*(i/k)+i%k:=(Nat.div_add_mod i k).symm;have h2:i/k≠j:=fun e=>hi (by rw[e,h1]at h3;exact h3);by_cases h4:i/k<j
    ·rw[if_pos ⟨hq,h1,h4⟩,if_pos ⟨hq,h1,oM⟩]
    ·rw[if_neg (fun h=>h4 h.2.2),if_neg (fun h=>by have:=h.2.2;omega)]
   ·rw[if_neg (fun h=>h1 h.2.1),if_neg (fun h=>h1 h.2.1)]
 ·rw[if_neg (fun h=>hq h.1),if_neg (fun h=>hq h.1),if_neg (fun h=>hq h.1)]
theorem out_any{T:Nat->Prop}{E E':Nat}{a:Lay}{c:Cd}{G P:List (List Int)}{X:Nat->Value}{M:Nat}{m:Nat->Option Value}{f:Fr}(w:World)(x:FX T E E' a c G P w)(h:FV T E E' a c w X M m f)(hg:Good c)(ok:OkF c f)(ib io:Nat)(i:Ins)(hi:InsT (mutT T E E') w ib io i)(hp:Zpj c i.a i.n)(hl:(f.vecs i.a.toNat).length=lenOf c (regT c.regs i.a).par):
 Calls prog 73 #[.pointer (some ⟨a.FR,0,none⟩),.pointer (some ⟨ib,io,none⟩)] w fun e w'=>e=.returned (.tuple #[])/\Zhv T E E' a c G P M {f with outs:=outP f.outs (regT c.regs i.a).par.toNat (Zia c (regT c.regs i.a).par) i.n.toNat (f.vecs i.a.toNat)} w w':=by
 have i2:=hi.cells.at 2 rfl;have i5:=hi.cells.at 5 rfl;obtain⟨op,D,A,B,Ec,nn,bt⟩:=i;simp only at i2 i5 hp hl ⊢;obtain⟨A,rfl⟩:∃j:Nat,A=(j:Int):=⟨A.toNat,by have:=hp.r0;omega⟩
 have hA:A<c.regs.length:=by have:=hp.r1;omega
 have hk:=hp.kind;have hn0:=hp.n0;rw[Zkb hA]at hk hn0 hl ⊢;have hpar:=Zld.1 (hg.type (List.getElem_mem hA) hk);obtain⟨b1,o1,m1,hv1,-,r1⟩:=x.code.reg hA;obtain⟨pp,hpp⟩:∃pp,c.regs[A].par=pp:=⟨_,rfl⟩
 rw[hpp]at hpar r1 hn0 hl ⊢;obtain⟨p,rfl⟩:∃j:Nat,pp=(j:Int):=⟨pp.toNat,oM⟩
 have hps:p<c.sign.length:=oM;obtain⟨e1,e2,e3,e4,e5⟩:=Zow hg hps;have hkk:nn=0\/(nn=1/\Zia c p=2):=hn0.imp id fun⟨h1,h2⟩=>⟨h1,by unfold Zia;rw[if_pos h2]⟩
 obtain⟨n,rfl⟩:∃j:Nat,nn=(j:Int):=⟨nn.toNat,oM⟩
 rw[Int.toNat_natCast]at hl ⊢;rw[Int.toNat_natCast,Int.toNat_natCast];have f0:=x.f0;have c1:=x.code.c1;rw[hv1]at c1;have KA:Hid (∀v,Below w.heap.size w v->Calls prog 117 #[.pointer (some ⟨a.FR,0,none⟩),.int .i64 (p:Int)] v fun e w'=>e=.returned (.int .i64 (Zia c p:Nat))/\w'=v):=fun v hv=>Zyp v (x.below hv) hg p hps;have HKn:Hid (n<Zia c p):=by show n<Zia c p;omega
 have HNum:Hid (Zjg c p=Zia c p*(f.vecs A).length):=by rw[hl];exact e1
 have hLn:(f.vecs A).length<=4096:=ok.vecsL A;obtain⟨q1,q2,hmv,-,hlk⟩:=h.look hA hg.regsL;have lk:=hlk w.drew.drew (bel (Zht _) (Zht _));have HMV:Hid ((m A).getD (.slice none 0 0)=.slice q1 (f.vecs A).length q2):=hmv;have f4:=x.f4;have hNs:=hg.signL;have hN:=hg.regsL;have HX:Hid (FX T E E' a c G P w):=x;have HV:Hid (FV T E E' a c w X M m f):=h;have HI:Hid (InsT (mutT T E E') w ib io ⟨op,D,(A:Int),B,Ec,(n:Int),bt⟩):=hi;have HPS:Hid (p<c.sign.length):=hps;have HA9:Hid (A<c.regs.length):=hA;have hKK:Zia c (p:Int)<=2:=oM;obtain⟨Kk,hKk⟩:∃Kk,Zia c (p:Int)=Kk:=⟨_,rfl⟩
 obtain⟨L,hL⟩:∃L,(f.vecs A).length=L:=⟨_,rfl⟩
 obtain⟨N,hN'⟩:∃N,c.regs.length=N:=⟨_,rfl⟩
 obtain⟨Ns,hNs'⟩:∃Ns,c.sign.length=Ns:=⟨_,rfl⟩
 obtain⟨FR,hFR⟩:∃FR,a.FR=FR:=⟨_,rfl⟩
 obtain⟨MB,hMB⟩:∃MB,a.MB=MB:=⟨_,rfl⟩
 obtain⟨C,hC⟩:∃C,a.C=C:=⟨_,rfl⟩
 simp only[hKk,hL,hN',hNs',hFR,hMB,hC]at KA HKn HNum hLn lk HMV f4 hNs hN hKK f0 c1 hA hps ⊢;have HLL:Hid ((f.vecs A).length=L):=hL;have HNN:Hid (c.regs.length=N):=hN';have HNS:Hid (c.sign.length=Ns):=hNs';have HFR:Hid (a.FR=FR):=hFR;clear x h hg ok hi hp hl hk hn0 hpar hv1 e1 e2 e3 e4 e5 hkk hmv hlk hKk hL hN' hNs' hFR hMB hC hpp;go_enter func73,ntmps73;go_wp2;refine rG (fun v=>v.cell? ⟨FR,0,none⟩=some (.pointer (some ⟨C,0,none⟩))/\v.cell? ⟨C,1,none⟩=some (.slice (some ⟨b1,o1,none⟩) N m1)/\v.cell? ⟨ib,io+2,none⟩=some (.int .i64 (A:Int))/\v.cell? ⟨b1,o1+A*2+1,none⟩=some (.int .i64 (p:Int))) fun hHeld=>?_;refine Tf 0 1 2 3 4 5 ?_;refine Tf 6 7 8 9 10 11 ?_;refine Tc 12 13 14 ?_;refine wpAnyH_done kR ?_ _;go_wp2_with(go_at_call 117;refine(KA.out _ (Zht _)).mono ?_;rintro e w1 ⟨rfl,hw'⟩;obtain rfl:=hw'.symm);refine rG (fun v=>v.cell? ⟨FR,4,none⟩=some (.map (some MB))/\v.cell? ⟨ib,io+2,none⟩=some (.int .i64 (A:Int))) fun hHeld=>?_;refine Tf 0 1 2 3 4 5 ?_;refine Tc 6 7 10 ?_;clear hHeld;refine ry1 8 fun K hK=>?_;go_simp;refine okK hK fun hHeld=>?_;clear hK K;refine tkT 9 ?_;refine wpAnyH_done kR ?_ _;go_wp2
 go_loopw [35] (fun iv wr=>∃j:Nat,j<=L/\iv=.int .i64 j/\Hid (FX T E E' a c G P wr/\FV T E E' a c wr X M m {f with outs:=outJ f.outs p Kk n (f.vecs A) j}/\Un (Zsm a E E') w wr)) (fun iv _=>L-(intOf iv).toNat)
 case atStart=>
  have hb:=bel (Zht w) (Zht _);refine⟨0,Nat.zero_le _,rfl,HX.out.below hb,?_,Un.of hb⟩;rw[outJ_0];exact HV.out.below hb
 case round=>
  obtain⟨j,hj,rfl,HR⟩:=hrel;by_cases hlt:j<L
  ·have xr:=HR.out.1;have hr:=HR.out.2.1;have hP:=hr.vecs A HA9.out;rw[HMV.out]at hP;obtain⟨lb,lo,cc,hls,hln,hlc⟩:=hP.cells (by show 0<(f.vecs A).length;rw[HLL.out];omega);simp only[Value.slice.injEq]at hls;obtain⟨rfl,-,-⟩:=hls;have x1:wr.cell? ⟨lb,lo+j,none⟩=some (.int .u32 (atL (f.vecs A) j)):=hlc j (by show j<(f.vecs A).length;rw[HLL.out];exact hlt);have ir:=HI.out.un HR.out.2.2 (fun b _ e=>HX.out.sub b e);have i5:=ir.cells.at 5 rfl;have f7:=xr.f7;have u1:=xr.upd.cell HPS.out;have hNum:=HNum.out;have hKj:Kk*j+n<Kk*L:=by
    have h1:=HKn.out;have h2:Kk*(j+1)<=Kk*L:=Nat.mul_le_mul_left _ oM;rw[Nat.mul_add,Nat.mul_one]at h2;omega
   have hKL:Kk*L<=8192:=Nat.le_trans (Nat.mul_le_mul hKK hLn) dE;obtain⟨I0,hI0⟩:∃I0,Kk*j=I0:=⟨_,rfl⟩
   obtain⟨I,hI⟩:∃I,I0+n=I:=⟨_,rfl⟩
   have w1:IntKind.i64.wrap ((Kk:Int)*(j:Int))=(I0:Int):=by
    have:((Kk:Int)*(j:Int))=((Kk*j:Nat):Int):=sM;rw[this,hI0,IntKind.wrap_i64];omega
   have w2:IntKind.i64.wrap ((I0:Int)+(n:Int))=(I:Int):=by rw[IntKind.wrap_i64];omega
   obtain⟨NP,hNP⟩:∃NP,Zjg c p=NP:=⟨_,rfl⟩
   rw[hNP]at u1 hNum;have hIL:I<NP:=by rw[hNum];omega
   have hIc:(I:Int)<(NP:Int):=oM;have hI9:(0:Int)<=(I:Int):=oM;have y0:=(hr.outs p HPS.out).cell (i:=I) (by rw[hNP];exact hIL);have y1:=(hr.outs p HPS.out).frozen I;obtain⟨d1,d2,d3,d4,d5⟩:=xr.d2 p HPS.out;have d6:a.ub p≠ib:=fun e=>ir.not (by rw[←e];exact .inr (xr.iub p HPS.out));have d7:a.ub p≠lb:=fun e=>hln (by rw[←e];exact .inr (xr.iub p HPS.out));obtain⟨UP,hUP⟩:∃UP,a.ub p=UP:=⟨_,rfl⟩
   obtain⟨UB,hUB⟩:∃UB,a.UB=UB:=⟨_,rfl⟩
   rw[HFR.out,hUB,HNS.out]at f7;rw[hUB,hUP]at u1;rw[hUP]at y0 y1 d1 d2 d3 d4 d5 d6 d7;rw[HFR.out]at d1;rw[hUB]at d5;have HUP:Hid (a.ub p=UP):=hUP;have HI2:Hid (Kk*j+n=I):=by rw[←hI,←hI0];exact rfl
   obtain⟨y,hy⟩:∃y,atL (f.vecs A) j=y:=⟨_,rfl⟩
   rw[hy]at x1;have HY:Hid (atL (f.vecs A) j=y):=hy;clear hI0 hI hKj hKL hUP hUB hNum hNP xr hr ir hP hlc hy d2 d3 d4 hln;go_wp2;refine rG (fun v=>v.cell? ⟨FR,7,none⟩=some (.slice (some ⟨UB,0,none⟩) Ns Ns)/\v.cell? ⟨UB,p,none⟩=some (.slice (some ⟨UP,0,none⟩) NP NP)/\v.cell? ⟨ib,io+5,none⟩=some (.int .i64 (n:Int))) fun hHeld=>?_;refine Tf 0 1 2 3 4 5 ?_;refine Tf 6 7 8 9 10 11 ?_;refine Tc 12 13 14 ?_;refine Tb 15 16 ?_;clear hHeld;refine ry1 17 fun K hK=>?_;go_simp;refine okK hK fun hHeld=>?_;clear hK K;refine wpAnyH_done kR ?_ _;go_wp2;go_roundw
   case rel=>
    refine⟨j+1,oM,gN,?_⟩;obtain⟨h1,h2,h3⟩:=FV.out HR.out.1 HR.out.2.1 HPS.out (j:=I) y rfl;rw[HUP.out]at h1 h2 h3;have hd:=Zht (wr.setCell ⟨UP,I,none⟩ (.int .u32 y));have e9:=Zamu f.outs p Kk n (f.vecs A) j HKn.out;rw[HI2.out,HY.out]at e9;rw[←e9];exact⟨h1.below hd,h2.below hd,(HR.out.2.2.trans (h3.mono fun b e=>.inr (by rw[e,←HUP.out];exact HR.out.1.iub p HPS.out))).on hd⟩
   case measure=>simp[intOf];omega
  ·have hjL:j=L:=oM;subst hjL;go_wp2
   go_end0
   refine⟨rfl,HR.out.1,⟨X,M,m,oM,?_⟩,HR.out.2.2⟩;have:=HR.out.2.1;rw[←HLL.out,Zanw]at this;exact this
theorem Zafc(op:Int)(hk:Zih op=true):∃a b c d e:UInt8,((a.toNat:Int)=(ltR op).a/\(b.toNat:Int)=(ltR op).b/\(c.toNat:Int)=(ltR op).c/\(d.toNat:Int)=(ltR op).d/\(e.toNat:Int)=(ltR op).e)/\∀w,Calls prog 67 #[.int .i64 op] w fun x w'=>x=.returned (.tuple #[.string ⟨#[a,b,c,d,e]⟩,.bool true])/\w'=w:=by
 have hh:1<=op/\op<=37:=by unfold Zih at hk;simp at hk;omega
 clear hk;have:op=1\/op=2\/op=3\/op=4\/op=5\/op=6\/op=7\/op=8\/op=9\/op=10\/op=11\/op=12\/op=13\/op=14\/op=15\/op=16\/op=17\/op=18\/op=19\/op=20\/op=21\/op=22\/op=23\/op=24\/op=25\/op=26\/op=27\/op=28\/op=29\/op=30\/op=31\/op=32\/op=33\/op=34\/op=35\/op=36\/op=37:=oM;rcases this with rfl|rfl|rfl|rfl|rfl|rfl|rfl|rfl|rfl|rfl|rfl|rfl|rfl|rfl|rfl|rfl|rfl|rfl|rfl|rfl|rfl|rfl|rfl|rfl|rfl|rfl|rfl|rfl|rfl|rfl|rfl|rfl|rfl|rfl|rfl|rfl|rfl
 ·exact⟨_,_,_,_,_,⟨rfl,rfl,rfl,rfl,rfl⟩,fun w=>rrow_1 w⟩
 ·exact⟨_,_,_,_,_,⟨rfl,rfl,rfl,rfl,rfl⟩,fun w=>rrow_2 w⟩
 ·exact⟨_,_,_,_,_,⟨rfl,rfl,rfl,rfl,rfl⟩,fun w=>rrow_3 w⟩
 ·exact⟨_,_,_,_,_,⟨rfl,rfl,rfl,rfl,rfl⟩,fun w=>rrow_4 w⟩
 ·exact⟨_,_,_,_,_,⟨rfl,rfl,rfl,rfl,rfl⟩,fun w=>rrow_5 w⟩
 ·exact⟨_,_,_,_,_,⟨rfl,rfl,rfl,rfl,rfl⟩,fun w=>rrow_6 w⟩
 ·exact⟨_,_,_,_,_,⟨rfl,rfl,rfl,rfl,rfl⟩,fun w=>rrow_7 w⟩
 ·exact⟨_,_,_,_,_,⟨rfl,rfl,rfl,rfl,rfl⟩,fun w=>rrow_8 w⟩
 ·exact⟨_,_,_,_,_,⟨rfl,rfl,rfl,rfl,rfl⟩,fun w=>rrow_9 w⟩
 ·exact⟨_,_,_,_,_,⟨rfl,rfl,rfl,rfl,rfl⟩,fun w=>Zage w⟩
 ·exact⟨_,_,_,_,_,⟨rfl,rfl,rfl,rfl,rfl⟩,fun w=>Zaft w⟩
 ·exact⟨_,_,_,_,_,⟨rfl,rfl,rfl,rfl,rfl⟩,fun w=>Zafq w⟩
 ·exact⟨_,_,_,_,_,⟨rfl,rfl,rfl,rfl,rfl⟩,fun w=>Zaga w⟩
 ·exact⟨_,_,_,_,_,⟨rfl,rfl,rfl,rfl,rfl⟩,fun w=>Zaem w⟩
 ·exact⟨_,_,_,_,_,⟨rfl,rfl,rfl,rfl,rfl⟩,fun w=>Zaez w⟩
 ·exact⟨_,_,_,_,_,⟨rfl,rfl,rfl,rfl,rfl⟩,fun w=>Zafu w⟩
 ·exact⟨_,_,_,_,_,⟨rfl,rfl,rfl,rfl,rfl⟩,fun w=>Zafj w⟩
 ·exact⟨_,_,_,_,_,⟨rfl,rfl,rfl,rfl,rfl⟩,fun w=>Zafo w⟩
 ·exact⟨_,_,_,_,_,⟨rfl,rfl,rfl,rfl,rfl⟩,fun w=>Zagi w⟩
 ·exact⟨_,_,_,_,_,⟨rfl,rfl,rfl,rfl,rfl⟩,fun w=>Zaej w⟩
 ·exact⟨_,_,_,_,_,⟨rfl,rfl,rfl,rfl,rfl⟩,fun w=>Zafv w⟩
 ·exact⟨_,_,_,_,_,⟨rfl,rfl,rfl,rfl,rfl⟩,fun w=>Zagf w⟩
 ·exact⟨_,_,_,_,_,⟨rfl,rfl,rfl,rfl,rfl⟩,fun w=>Zaex w⟩
 ·exact⟨_,_,_,_,_,⟨rfl,rfl,rfl,rfl,rfl⟩,fun w=>Zaeg w⟩
 ·exact⟨_,_,_,_,_,⟨rfl,rfl,rfl,rfl,rfl⟩,fun w=>Zaei w⟩
 ·exact⟨_,_,_,_,_,⟨rfl,rfl,rfl,rfl,rfl⟩,fun w=>Zaeu w⟩
 ·exact⟨_,_,_,_,_,⟨rfl,rfl,rfl,rfl,rfl⟩,fun w=>Zaeo w⟩
 ·exact⟨_,_,_,_,_,⟨rfl,rfl,rfl,rfl,rfl⟩,fun w=>Zafr w⟩
 ·exact⟨_,_,_,_,_,⟨rfl,rfl,rfl,rfl,rfl⟩,fun w=>Zafh w⟩
 ·exact⟨_,_,_,_,_,⟨rfl,rfl,rfl,rfl,rfl⟩,fun w=>Zaeh w⟩
 ·exact⟨_,_,_,_,_,⟨rfl,rfl,rfl,rfl,rfl⟩,fun w=>Zafa w⟩
 ·exact⟨_,_,_,_,_,⟨rfl,rfl,rfl,rfl,rfl⟩,fun w=>Zaek w⟩
 ·exact⟨_,_,_,_,_,⟨rfl,rfl,rfl,rfl,rfl⟩,fun w=>Zafw w⟩
 ·exact⟨_,_,_,_,_,⟨rfl,rfl,rfl,rfl,rfl⟩,fun w=>Zafx w⟩
 ·exact⟨_,_,_,_,_,⟨rfl,rfl,rfl,rfl,rfl⟩,fun w=>Zaep w⟩
 ·exact⟨_,_,_,_,_,⟨rfl,rfl,rfl,rfl,rfl⟩,fun w=>Zafp w⟩
 ·exact⟨_,_,_,_,_,⟨rfl,rfl,rfl,rfl,rfl⟩,fun w=>Zafk w⟩
def Zjz(b:Int):Prop:=b=45\/b=110\/b=119\/b=118\/b=100\/b=120\/b=99\/b=97
instance (b:Int):Decidable (Zjz b):=by unfold Zjz;infer_instance
def okL(L:Lt):Bool:=decide (Zjz L.a)&&(decide (Zjz L.b)&&(decide (Zjz L.c)&&(decide (Zjz L.d)&&(decide (L.e=45\/L.e=105\/L.e=112\/L.e=115\/L.e=113)&&decide (L.e=112->L.a=118\/(L.a=45/\L.b=118))))))
theorem okL_ite{p:Prop}[Decidable p]{x y:Lt}(h:okL x=true)(k:okL y=true):okL (if p then x else y)=true:=by
 split
 ·exact h
 ·exact k
theorem ltR_okL(op:Int):okL (ltR op)=true:=by
 unfold ltR
 iterate 19 refine okL_ite dE ?_
 decide
theorem ltR_ok(op:Int):Zjz (ltR op).a/\Zjz (ltR op).b/\Zjz (ltR op).c/\Zjz (ltR op).d/\((ltR op).e=45\/(ltR op).e=105\/(ltR op).e=112\/(ltR op).e=115\/(ltR op).e=113)/\((ltR op).e=112->(ltR op).a=118\/((ltR op).a=45/\(ltR op).b=118)):=by
 have:=ltR_okL op;unfold okL at this;simp only[Bool.and_eq_true,decide_eq_true_eq]at this;exact this
theorem Zang(v0 v1 v2 v3:Value)(i:Ins)(h0:0<=i.bits)(h1:i.bits<4294967296)(h:(Zih i.op&&((i.op==1||i.bits==0)&&Zkn i.bits))=false)(w:World):
 Calls prog 64 #[.agg #[v0,v1,v2,v3],insV i] w fun e w'=>e=.returned (.bool false)/\Below w.heap.size w w':=by
 have HCAN:Hid (∀w,Calls prog 63 #[.int .u32 i.bits] w fun e w'=>e=.returned (.bool (Zkn i.bits))/\Below w.heap.size w w'):=Zop i.bits h0 h1;cases hk:Zih i.op
 ·have HROW:Hid (∀w,Calls prog 67 #[.int .i64 i.op] w fun e w'=>e=.returned (.tuple #[.string ⟨#[]⟩,.bool false])/\w'=w):=Zzo i.op hk;obtain⟨op,D,A,B,E,n,bt⟩:=i;unfold insV;simp only at HROW HCAN ⊢;clear h hk;go_enter func64,ntmps64;go_wp2_with(go_at_call 67;refine(HROW.out _).mono ?_;rintro e w1 ⟨rfl,rfl⟩);go_ret;exact Zcb
 ·obtain⟨a,b,c,d,e,-,hc⟩:=Zafc i.op hk;have HROW:Hid (∀w,Calls prog 67 #[.int .i64 i.op] w fun x w'=>x=.returned (.tuple #[.string ⟨#[a,b,c,d,e]⟩,.bool true])/\w'=w):=hc;rw[hk,Bool.true_and]at h;clear hc hk;obtain⟨op,D,A,B,E,n,bt⟩:=i;unfold insV;simp only at HROW HCAN h ⊢;cases ho:(op==1)
  ·have ho':(op != 1)=true:=by simpa using ho
   cases hz:(bt==0)
   ·have hz':(bt != 0)=true:=by simpa using hz
    clear h;go_enter func64,ntmps64;go_wp2_with(go_at_call 67;refine(HROW.out _).mono ?_;rintro e w1 ⟨rfl,rfl⟩);go_ret;exact Zcb
   ·rw[ho,hz,Bool.false_or,Bool.true_and]at h;rw[h]at HCAN;have hz':(bt != 0)=false:=by simpa using hz
    exact Zcy
  ·rw[ho,Bool.true_or,Bool.true_and]at h;rw[h]at HCAN;have ho':(op != 1)=false:=by simpa using ho
   exact Zcy
structure TW(w:World)(v0 v1 v2 v3:Value)(J:Nat)(op D A B E n bt:Int)(v:World):Prop where
 bel:Below w.heap.size w v
 c0:v.cell? ⟨w.heap.size,0,none⟩=some v0
 c1:v.cell? ⟨w.heap.size,1,none⟩=some v1
 c2:v.cell? ⟨w.heap.size,2,none⟩=some v2
 c3:v.cell? ⟨w.heap.size,3,none⟩=some v3
 i0:v.cell? ⟨J,0,none⟩=some (.int .i64 op)
 i1:v.cell? ⟨J,1,none⟩=some (.int .i64 D)
 i2:v.cell? ⟨J,2,none⟩=some (.int .i64 A)
 i3:v.cell? ⟨J,3,none⟩=some (.int .i64 B)
 i4:v.cell? ⟨J,4,none⟩=some (.int .i64 E)
 i5:v.cell? ⟨J,5,none⟩=some (.int .i64 n)
 i6:v.cell? ⟨J,6,none⟩=some (.int .u32 bt)
theorem TW.next{w:World}{v0 v1 v2 v3:Value}{J:Nat}{op D A B E n bt:Int}{v v':World}(h:TW w v0 v1 v2 v3 J op D A B E n bt v)(k:Below v.heap.size v v'):TW w v0 v1 v2 v3 J op D A B E n bt v':=
 ⟨Go.Proofs.YtbinohkcolcbfaaGreat.bel h.bel k,kc k h.c0,kc k h.c1,kc k h.c2,kc k h.c3,kc k h.i0,kc k h.i1,kc k h.i2,kc k h.i3,kc k h.i4,kc k h.i5,kc k h.i6⟩
theorem TW.keep{w:World}{v0 v1 v2 v3:Value}{J:Nat}{op D A B E n bt:Int}{v:World}(h:TW w v0 v1 v2 v3 J op D A B E n bt v){g o:Nat}(x:Value)(h1:w.heap.size<g)(h2:g≠J):TW w v0 v1 v2 v3 J op D A B E n bt (v.setCell ⟨g,o,none⟩ x):=by
 have f1:∀j,(v.setCell ⟨g,o,none⟩ x).cell? ⟨w.heap.size,j,none⟩=v.cell? ⟨w.heap.size,j,none⟩:=fun j=>World.cell?_of_block (Below.heap_setCell _ _ _ _ (by show w.heap.size≠g;omega));have f2:∀j,(v.setCell ⟨g,o,none⟩ x).cell? ⟨J,j,none⟩=v.cell? ⟨J,j,none⟩:=fun j=>World.cell?_of_block (Below.heap_setCell _ _ _ _ (by show J≠g;omega));exact⟨h.bel.setCell Zhl _,(f1 0).trans h.c0,(f1 1).trans h.c1,(f1 2).trans h.c2,(f1 3).trans h.c3,(f2 0).trans h.i0,(f2 1).trans h.i1,(f2 2).trans h.i2,(f2 3).trans h.i3,(f2 4).trans h.i4,(f2 5).trans h.i5,(f2 6).trans h.i6⟩
theorem TW.start(w:World)(v0 v1 v2 v3:Value)(op D A B E n bt:Int):TW w v0 v1 v2 v3 (w.heap.size+1) op D A B E n bt ((w.alloc (.cells #[v0,v1,v2,v3] 27)).alloc (.cells #[.int .i64 op,.int .i64 D,.int .i64 A,.int .i64 B,.int .i64 E,.int .i64 n,.int .u32 bt] 45)):=by
 have k:=Zhq (w.alloc (.cells #[v0,v1,v2,v3] 27)) (.cells #[.int .i64 op,.int .i64 D,.int .i64 A,.int .i64 B,.int .i64 E,.int .i64 n,.int .u32 bt] 45);exact⟨Go.Proofs.YtbinohkcolcbfaaGreat.bel (Zhq _ _) k,kc k sG,kc k sG,kc k sG,kc k sG,sG,sG,sG,sG,sG,sG,sG⟩
theorem Zmw{n:Nat}{w v:World}(h:Below n w v):Below n w v.drew:=h.drew
def slP:Value->Option Addr
 | .slice p _ _=>p
 |_=>none
def slCap:Value->Nat
 | .slice _ _ c=>c
 |_=>0
theorem Znn{L:List (List Int)}{k:Nat}(h:k<L.length):Zkt L k=L[k]:=by unfold Zkt;rw[List.getElem?_eq_getElem h];rfl
theorem lsts_of{T:Nat->Prop}{w:World}{g:Nat}{vals:List Value}{args:List (List Int)}(hv:vals.length=args.length)(hc:∀ (k:Nat) (u:Value),vals[k]? =some u->w.cell? ⟨g,k,none⟩=some u)(hp:∀k (h1:k<vals.length) (h2:k<args.length),Pt T w vals[k] args[k]):
 Lsts .u32 w (some ⟨g,0,none⟩) args.length (fun k=>slP ((vals[k]?).getD (.slice none 0 0))) (lF args) (fun k=>slCap ((vals[k]?).getD (.slice none 0 0))) (xF args):=by
 refine⟨.inr ⟨g,0,rfl,fun k hk=>?_⟩,fun k hk=>?_⟩
 ·have hk':k<vals.length:=oM;obtain⟨p,c,e⟩:=(hp k hk' hk).len;rw[Nat.zero_add,hc k vals[k] (List.getElem?_eq_getElem hk')];simp only[List.getElem?_eq_getElem hk',Option.getD_some,e,slP,slCap,lF,Znn hk]
 ·have hk':k<vals.length:=oM;have:=hp k hk' hk;obtain⟨p,c,e⟩:=this.len;rw[e]at this;have h2:=this.reads.2;simp only[List.getElem?_eq_getElem hk',Option.getD_some,e,slP,lF,xF,Znn hk];exact h2
theorem Ztd{l:Nat->Nat}{W:Nat}(hW:1<=W):∀M,(∀i,i<=M->l i=1\/l i=W)->∃n,shpV l M=some n/\(n=1\/n=W):=by
 intro M;induction M with
 |zero=>intro h;exact⟨l 0,rfl,h 0 (Nat.le_refl _)⟩
 |succ M ih=>
  intro h;obtain⟨n,h1,h2⟩:=ih fun i hi=>h i oM;rw[Zqi h1];have h3:=h (M+1) (Nat.le_refl _);by_cases e1:l (M+1)=n
  ·exact⟨n,if_pos e1,h2⟩
  ·rw[if_neg e1,if_neg oM];by_cases e2:n=1
   ·rw[if_pos e2];exact⟨_,rfl,h3⟩
   ·rw[if_neg e2];by_cases e3:l (M+1)=1
    ·rw[if_pos e3];exact⟨_,rfl,h2⟩
    ·omega
theorem Zph(i:Ins)(h:Zjj i.op=true):Zjq i.op=(Zid i (rowP i.op)).length/\Zjq i.op≠0:=by
 unfold Zjj at h;simp only[Bool.and_eq_true,decide_eq_true_eq]at h;have:i.op=3\/i.op=4\/i.op=5\/i.op=6\/i.op=7\/i.op=8\/i.op=9\/i.op=10\/i.op=11\/i.op=12\/i.op=13\/i.op=14\/i.op=15:=oM;obtain⟨op,D,A,B,E,n,b⟩:=i;simp only at this ⊢;rcases this with rfl|rfl|rfl|rfl|rfl|rfl|rfl|rfl|rfl|rfl|rfl|rfl|rfl<;>exact⟨rfl,dE⟩
theorem Zxw{op:Int}{args:List (List Int)}{n:Nat}(h:shpV (lF args) (args.length-1)=some n):(appP op args).length=n/\∀j,j<n->atL (appP op args) j=opf op (elAt (lF args) (xF args) args.length j 0) (elAt (lF args) (xF args) args.length j 1) (elAt (lF args) (xF args) args.length j 2):=by
 unfold appP;rw[h];simp only;exact⟨sM,fun j hj=>Zxt (α:=Int) _ _ _ hj⟩
theorem hidM{p:Prop}(h:p):Hid p:=h
def avT(T:Nat->Prop)(v:Value):Nat->Prop:=fun b=>T b\/v.ownBlock=some b
theorem Pt.grown{T:Nat->Prop}{v v' u:Value}{w w':World}{l:List Int}(h:Pt (avT T v) w u l)(hg:w.grownBy w' v.ownBlock)(ha:v'.ownBlock=v.ownBlock\/v'.ownBlock=some w.heap.size):Pt (avT T v') w' u l:=by
 obtain⟨p,c,hv,h⟩:=h;refine⟨p,c,hv,h.imp id fun⟨b,o,hp,ht,hb,h⟩=>⟨b,o,hp,?_,Nat.lt_of_lt_of_le hb hg.size,fun i hi=>(h i hi).of_block (hg.block b hb fun e=>ht (.inr e.symm))⟩⟩;rintro(k|k)
 ·exact ht (.inl k)
 ·rcases ha with e|e
  ·exact ht (.inr (e▸k))
  ·rw[e]at k;simp at k;omega
def Zala(op:Int)(ag m acap n:Nat)(args:List (List Int))(w:World):Prop:=∀v,Below w.heap.size w v->Calls prog 119 #[.int .i64 op,.slice (some ⟨ag,0,none⟩) m acap] v fun e w'=>∃g,e=.returned (.tuple #[.slice (some ⟨g,0,none⟩) n n,.int .i64 0])/\v.heap.size<=g/\w'.rowIs g 43 n (fun i=>.int .u32 (opf op (elAt (lF args) (xF args) args.length i 0) (elAt (lF args) (xF args) args.length i 1) (elAt (lF args) (xF args) args.length i 2)))/\Below v.heap.size v w'
theorem Zakx{T:Nat->Prop}{E E':Nat}{a:Lay}{c:Cd}{G P:List (List Int)}{X:Nat->Value}{M:Nat}{m:Nat->Option Value}{f:Fr}(w:World)(x:FX T E E' a c G P w)(h:FV T E E' a c w X M m f)(hg:Good c)(ok:OkF c f)(hM:M<=1000000)(ib io:Nat)(i:Ins)(hi:InsT (mutT T E E') w ib io i)
 (hel:Zjj i.op=true) (d0:0<=i.d) (d1:i.d<(c.regs.length:Int)) (hk:(regT c.regs i.d).kind≠2) (hW:1<=Zhy c (regT c.regs i.d)) (hargs:∀r∈Zid i (rowP i.op),0<=r/\r<(c.regs.length:Int)/\((rdP c f r).pats.length=1\/(rdP c f r).pats.length=Zhy c (regT c.regs i.d))/\∀y∈(rdP c f r).pats,IsP y):
 Calls prog 76 #[.pointer (some ⟨a.FR,0,none⟩),.pointer (some ⟨ib,io,none⟩)] w fun e w'=>e=.returned (.tuple #[])/\Zhv T E E' a c G P M (Zlj c f i) w w':=by
 have HEq:Hid (Zlj c f i=stP c f i.d ⟨if(appP i.op (Zji c f i)).length<Zhy c (regT c.regs i.d)then Zkf c (regT c.regs i.d) ((appP i.op (Zji c f i)).headD 0)else appP i.op (Zji c f i),0⟩):=by
  show Zlj c f i=_;unfold Zlj;rw[if_neg hk]
 obtain⟨F,hF⟩:∃F,Zlj c f i=F:=⟨_,rfl⟩
 rw[hF]at HEq ⊢;have HRe:Hid (∀v,Calls prog 118 #[insV i] v fun e w'=>∃u,e=.returned u/\w'.ownsRow v.heap.size 3 1 u (Zid i (rowP i.op)).length (i64s (Zid i (rowP i.op)))/\Below v.heap.size v w'):=fun v=>Zamj i v;obtain⟨ht1,ht2⟩:=Zph i hel;have ht3:=Zqn i.op;have q0:=hi.cells.at 0 rfl;rw[Nat.add_zero]at q0;have q1:=hi.cells.at 1 rfl;have q2:=hi.cells.at 2 rfl;have q3:=hi.cells.at 3 rfl;have q4:=hi.cells.at 4 rfl;have q5:=hi.cells.at 5 rfl;have q6:=hi.cells.at 6 rfl;obtain⟨RL,hRL⟩:∃RL,Zid i (rowP i.op)=RL:=⟨_,rfl⟩
 have HArgs:Hid (Zji c f i=RL.map fun r=>(rdP c f r).pats):=by rw[←hRL];exact rfl
 rw[hRL]at HRe ht1 hargs;obtain⟨op,D,A,B,Ec,nn,bt⟩:=i;unfold insV at HRe;simp only at *;obtain⟨D,rfl⟩:∃j:Nat,D=(j:Int):=⟨D.toNat,oM⟩
 have hD:D<c.regs.length:=oM;rw[Zkb hD]at HEq hk hW hargs;have f0:=x.f0;have c1:=x.code.c1;obtain⟨b1,o1,m1,hv1,r0,r1⟩:=x.code.reg hD;rw[hv1]at c1;have hN:=hg.regsL;have HRd:Hid (∀v,Below w.heap.size w v->∀r∈RL,Calls prog 75 #[.pointer (some ⟨a.FR,0,none⟩),.int .i64 r] v fun e w'=>∃u,e=.returned (.agg #[u,.int .i64 (rdP c f r).whole])/\Pt (midT (mutT T E E') w.heap.size v.heap.size) w' u (rdP c f r).pats/\Below v.heap.size v w'):=by
  intro v hv r hr;obtain⟨g0,g1,-⟩:=hargs r hr;obtain⟨r,rfl⟩:∃j:Nat,r=(j:Int):=⟨r.toNat,oM⟩
  exact Zara w v x h hg hv r oM
 obtain⟨⟨kk,pp⟩,htt⟩:∃t,c.regs[D]=t:=⟨_,rfl⟩
 have hpl:kk=3->isPl pp c.sign.length=true:=fun e=>by
  have:=hg.type (List.getElem_mem hD) (by rw[htt];exact e);rw[htt]at this;exact this
 rw[htt]at r0 r1 HEq hk hW hargs;simp only at r0 r1 hk;have HWd:Hid (∀v,Below w.heap.size w v->Calls prog 59 #[.pointer (some ⟨a.C,0,none⟩),.agg #[.int .i64 kk,.int .i64 pp]] v fun e w'=>e=.returned (.int .i64 (Zhy c ⟨kk,pp⟩:Nat))/\Below v.heap.size v w'):=fun v hv=>Zyi a c ⟨kk,pp⟩ v (x.code.below hv) hpl fun p hp=>by have:=(hg.len p hp).1;omega
 have HFl:Hid (∀v y,Below w.heap.size w v->IsP y->Calls prog 33 #[.pointer (some ⟨a.C,0,none⟩),.agg #[.int .i64 kk,.int .i64 pp],.int .u32 y] v fun e w'=>∃g,e=.returned (.slice (some ⟨g,0,none⟩) (Zhy c ⟨kk,pp⟩) (Zhy c ⟨kk,pp⟩))/\v.heap.size<=g/\w'.rowIs g 43 (Zhy c ⟨kk,pp⟩) (fun _=>.int .u32 (canon y))/\Below v.heap.size v w'):=fun v y hv hy=>Zvt a c hg ⟨kk,pp⟩ y hy v (x.code.below hv) hpl;have HSt:Hid (∀v q L cap l,Below w.heap.size w v->Pt (mutT T E E') v (.slice q L cap) l->l≠[]->Calls prog 74 #[.pointer (some ⟨a.FR,0,none⟩),.int .i64 (D:Int),.agg #[.slice q L cap,.int .i64 0]] v fun e w'=>e=.returned (.tuple #[])/\Zhv T E E' a c G P M (stP c f D ⟨l,0⟩) v w'):=fun v q L cap l hv hp hn=>Zagh v (x.below hv) (h.below hv) hg D hD hM q L cap ⟨l,0⟩ hp (fun _=>hn);have HX:Hid (FX T E E' a c G P w):=x;have HAr:Hid (∀r∈RL,((rdP c f r).pats.length=1\/(rdP c f r).pats.length=Zhy c ⟨kk,pp⟩)/\∀y∈(rdP c f r).pats,IsP y):=fun r hr=>(hargs r hr).2.2;obtain⟨m',hm'⟩:∃m',RL.length=m':=⟨_,rfl⟩
 have n1:w.heap.size≠a.FR:=by have:=x.iFR;have:=x.hE';omega
 have n2:w.heap.size≠a.C:=by have:=x.code.ltC;omega
 have n3:w.heap.size≠ib:=by have:=hi.lt;omega
 have n4:w.heap.size≠b1:=by have:=Zhr r0;simp at this;omega
 obtain⟨FR,hFR⟩:∃FR,a.FR=FR:=⟨_,rfl⟩
 obtain⟨C,hC⟩:∃C,a.C=C:=⟨_,rfl⟩
 obtain⟨N,hN'⟩:∃N,c.regs.length=N:=⟨_,rfl⟩
 obtain⟨Wd,hWd⟩:∃Wd,Zhy c ⟨kk,pp⟩=Wd:=⟨_,rfl⟩
 have hWd4:=hg.width ⟨kk,pp⟩;simp only[hFR,hC,hN',hm',hWd]at HRe HRd HWd HFl HSt HAr n1 n2 f0 c1 hN hD d1 ht1 hW hWd4 ⊢;have HWD:Hid (Zhy c ⟨kk,pp⟩=Wd):=hWd;have HML:Hid (RL.length=m'):=hm';have e2:(kk==2)=false:=by simpa using hk
 clear x h hg ok hi hel hRL hargs hpl htt hv1 hFR hC hN' hWd hm' hF hk;go_enter func76,ntmps76;go_wp2;refine rG (fun v=>v.cell? ⟨FR,0,none⟩=some (.pointer (some ⟨C,0,none⟩))/\v.cell? ⟨C,1,none⟩=some (.slice (some ⟨b1,o1,none⟩) N m1)/\v.cell? ⟨ib,io+1,none⟩=some (.int .i64 (D:Int))/\v.cell? ⟨b1,o1+D*2,none⟩=some (.int .i64 kk)/\v.cell? ⟨b1,o1+D*2+1,none⟩=some (.int .i64 pp)) fun hHeld=>?_;refine Tf 0 1 2 3 4 5 ?_;refine Tf 6 7 8 9 10 11 ?_;refine tkT 12 ?_;clear hHeld;refine ry1 13 fun K hK=>?_;go_simp;refine okK hK fun hHeld=>?_;clear hK K;clear hHeld;refine ry1 14 fun K hK=>?_;go_simp;refine okK hK fun hHeld=>?_;clear hK K;refine wpAnyH_done kR ?_ _;obtain⟨W1,hW1⟩:∃W1,(w.alloc (.cells #[.int .i64 kk,.int .i64 pp] 69)).drew=W1:=⟨_,rfl⟩
 have hb1:Below w.heap.size w W1:=by rw[←hW1];exact bel (Zhq _ _) (Zht _)
 have z0:W1.cell? ⟨w.heap.size,0,none⟩=some (.int .i64 kk):=by rw[←hW1];simp[go_sem]
 have z1:W1.cell? ⟨w.heap.size,1,none⟩=some (.int .i64 pp):=by rw[←hW1];simp[go_sem]
 rw[hW1];clear hW1 hHeld;have HB1:Hid (Below w.heap.size w W1):=hb1;have g0:=kc hb1 q0;have g1:=kc hb1 q1;have g2:=kc hb1 q2;have g3:=kc hb1 q3;have g4:=kc hb1 q4;have g5:=kc hb1 q5;have g6:=kc hb1 q6;have g7:=kc hb1 f0;clear q0 q1 q2 q3 q4 q5 q6 f0 c1 r0 r1 hb1;have hf:∀ (w:World) (x y:Value),(Instr.field 78 (.agg #[x,y]) 0).run prog w=.ok x w:=fun w x y=>by simp[Instr.field,run_underlying underlying78,asAgg,part,go_sem]
 obtain⟨i0,hi0,hz0,hz1,hz3⟩:=info_parts Zafb;have hm1:0<m':=oM;go_wp2_with(go_at_call 118;refine(HRe.out _).mono ?_;rintro e w2 ⟨u,rfl,hown,hb2⟩;obtain⟨rg,rcap,rfl,hrB,hrlt,hrc,-,hrcell⟩:=Zns hown hm1;have HRC:Hid (∀ (j:Nat) (u:Value),(i64s RL)[j]? =some u->w2.cell? ⟨rg,j,none⟩=some u):=hrcell;have HB2:Hid (Below W1.heap.size W1 w2):=hb2;clear hown hrcell);have hm3:m'<=3:=oM
 go_loopw [5,50] (fun av iv wr=>∃ (j:Nat) (bv:Value) (vals:List Value),bv=av/\j<=m'/\iv=.int .i64 j/\vals.length=j/\Hid (Below w2.heap.size w2 wr/\wr.ownsRow w2.heap.size 57 1 bv j vals/\∀k (h1:k<vals.length) (h2:k<RL.length),Pt (avT (mutT T E E') bv) wr vals[k] (rdP c f RL[k]).pats)) (fun _ iv _=>m'-(intOf iv).toNat)
 case atStart=>exact⟨0,_,[],rfl,Nat.zero_le _,rfl,rfl,Below.refl _ _,World.ownsRow_nil _ _ _ 1,fun k h1 _=>absurd h1 (Nat.not_lt_zero _)⟩
 case round=>
  obtain⟨j,av,vals,rfl,hj,rfl,hvl,HR⟩:=hrel;have hsz:=HR.out.1.size;by_cases hlt:j<m'
  ·have hjR:j<RL.length:=by rw[HML.out];exact hlt
   have x1:wr.cell? ⟨rg,j,none⟩=some (.int .i64 RL[j]):=kc HR.out.1 (HRC.out j _ (by simp[i64s,hjR]));have HRJ:Hid (RL[j]∈RL):=List.getElem_mem hjR;have HRJ2:Hid (∀k (h1:k<RL.length),k=j->(rdP c f RL[k]).pats=(rdP c f RL[j]).pats):=fun k _ e=>by subst e;rfl
   obtain⟨rr,hrr⟩:∃rr,RL[j]=rr:=⟨_,rfl⟩
   rw[hrr]at x1 HRJ HRJ2;obtain⟨pat,hpat⟩:∃pat,(rdP c f rr).pats=pat:=⟨_,rfl⟩
   have HPT:Hid ((rdP c f rr).pats=pat):=hpat;obtain⟨who,hwho⟩:∃who,(rdP c f rr).whole=who:=⟨_,rfl⟩
   have KRd:=fun v hv=>HRd.out v hv rr HRJ.out;rw[hpat,hwho]at KRd;have HKRd:Hid (∀v,Below w.heap.size w v->Calls prog 75 #[.pointer (some ⟨FR,0,none⟩),.int .i64 rr] v fun e w'=>∃u,e=.returned (.agg #[u,.int .i64 who])/\Pt (midT (mutT T E E') w.heap.size v.heap.size) w' u pat/\Below v.heap.size v w'):=KRd;have HBr:Hid (Below w.heap.size w wr):=bel (bel HB1.out HB2.out) HR.out.1;clear KRd hrr hpat hwho hjR;go_wp2_with(first
    |(go_at_call 75;refine(HKRd.out _ HBr.out).mono ?_;rintro e w3 ⟨u,rfl,hup,hb3⟩;obtain⟨uq,uc,hue⟩:=hup.len;obtain⟨ul,hul⟩:∃ul,pat.length=ul:=⟨_,rfl⟩;rw[hul]at hue;subst hue;have HUP:Hid (Pt (midT (mutT T E E') w.heap.size wr.heap.size) w3 (.slice uq ul uc) pat):=hup;have HB3:Hid (Below wr.heap.size wr w3):=hb3;have hs3:=hb3.size;clear hup hul)
    |(at_builtin;refine wpList_append_own_at _ rfl _ _ 47 rfl w2.heap.size 57 i0 _ 1 24 underlying47 hi0 hz0 hz1 hz3 rfl dE _ j vals rfl (World.ownsRow.alloc (Ziu HR.out.2.1 HB3.out) _) ⟨w3.heap.size,0,none⟩ 1 1 [.slice uq ul uc] rfl rfl (World.news_of_block (cs:=#[.slice uq ul uc]) (t:=57) (fr:=(0,0)) (heap_alloc_new w3 _)) Zfz mL oM sO ?_;intro v' w4 hown4 hgrow hnil hat;have HO4:Hid (w4.ownsRow w2.heap.size 57 1 v' (j+1) (vals++[.slice uq ul uc])):=hown4;have HB4:Hid (Below w2.heap.size w3 w4):=(Below.alloc (Below.refl _ _) oM _).grown hgrow sO (fun q e=>(HR.out.2.1.lt q e).1);have HG4:Hid ((w3.alloc (.cells #[.slice uq ul uc] 57)).grownBy w4 av.ownBlock/\(v'.ownBlock=av.ownBlock\/v'.ownBlock=some (w3.alloc (.cells #[.slice uq ul uc] 57)).heap.size)):=⟨hgrow,hat⟩;clear hown4 hgrow hnil hat))
   refine⟨⟨j+1,_,vals++[.slice uq ul uc],rfl,oM,gN,by simp[hvl],(HR.out.1.trans (HB3.out.mono hsz)).trans HB4.out,HO4.out,fun k h1 h2=>?_⟩,by simp[intOf];omega⟩;refine Pt.grown (v:=av) ?_ HG4.out.1 HG4.out.2;by_cases hk:k<j
   ·rw[List.getElem_append_left oM];exact((HR.out.2.2 k oM h2).below HB3.out).below (Zhq _ _)
   ·have hkj:k=j:=by simp at h1;omega
    have hg9:(vals++[Value.slice uq ul uc])[k]'h1=.slice uq ul uc:=by
     rw[List.getElem_append_right oM];simp
    rw[hg9,HRJ2.out k h2 hkj,HPT.out];refine RowT.below ?_ (Zhq _ _);refine HUP.out.mono fun b hb2 e=>?_;rcases e with e|e
    ·exact .inl e
    ·refine .inr ⟨?_,(HR.out.2.1.lt b e).2⟩;have:=(HR.out.2.1.lt b e).1;have:=(bel HB1.out HB2.out).size;omega
  ·have hjm:j=m':=oM;subst hjm;obtain⟨ag,acap,rfl,haB,halt,hac,-,hacell⟩:=Zns HR.out.2.1 hm1;obtain⟨ARGS,hARGS⟩:∃ARGS,RL.map (fun r=>(rdP c f r).pats)=ARGS:=⟨_,rfl⟩
   have hAL:ARGS.length=j:=by rw[←hARGS,List.length_map];exact HML.out
   have hAel:∀k (h1:k<ARGS.length) (h2:k<RL.length),ARGS[k]=(rdP c f RL[k]).pats:=fun k h1 h2=>by subst hARGS;simp
   have hL:=lsts_of (T:=mutT T E E') (w:=wr) (g:=ag) (vals:=vals) (args:=ARGS) oM hacell (fun k h1 h2=>by
    have h3:k<RL.length:=by rw[HML.out];omega
    rw[hAel k h2 h3]
    exact(HR.out.2.2 k h1 h3).mono fun b _ e=>.inl e)
   have hA1:∀k,k<ARGS.length->(lF ARGS k=1\/lF ARGS k=Wd)/\∀y∈Zkt ARGS k,IsP y:=fun k hk=>by
    have h3:k<RL.length:=by rw[HML.out];omega
    have h4:=HAr.out RL[k] (List.getElem_mem h3);unfold lF;rw[Znn hk,hAel k hk h3];exact h4
   have hA2:∀k,¬k<ARGS.length->Zkt ARGS k=[]:=fun k hk=>by unfold Zkt;rw[List.getElem?_eq_none oM];rfl
   have hXP:∀i k,IsP (xF ARGS i k):=fun i k=>by
    unfold xF;refine Zke ?_ k;by_cases hik:i<ARGS.length
    ·exact(hA1 i hik).2
    ·rw[hA2 i hik];intro y hy;cases hy
   have hlP:∀i,lF ARGS i<=1048576:=fun i=>by
    by_cases hik:i<ARGS.length
    ·have:=(hA1 i hik).1;omega
    ·unfold lF;rw[hA2 i hik];simp
   obtain⟨n,hsh,hn1⟩:=Ztd (l:=lF ARGS) hW (ARGS.length-1) (fun i hi=>(hA1 i oM).1);obtain⟨hapl,hapa⟩:=Zxw (op:=op) hsh;have HAP:Hid (Zala op ag j acap n ARGS wr):=fun v hv=>by
    have:=Zaqo op ht2 ag 0 ARGS.length acap (by rw[ht1,hAL]) n _ (lF ARGS) _ (xF ARGS) hXP hlP oM hsh v (hL.below hv);rw[hAL]at this;rw[hAL];exact this
   have HAPL:Hid ((appP op ARGS).length=n/\∀j,j<n->atL (appP op ARGS) j=opf op (elAt (lF ARGS) (xF ARGS) ARGS.length j 0) (elAt (lF ARGS) (xF ARGS) ARGS.length j 1) (elAt (lF ARGS) (xF ARGS) ARGS.length j 2)):=⟨hapl,hapa⟩
   have HIP:Hid (∀i k,IsP (xF ARGS i k)):=hXP;have hAA:=HArgs.out;rw[hARGS]at hAA;have HEQ2:Hid (F=stP c f D ⟨if(appP op ARGS).length<Wd then Zkf c ⟨kk,pp⟩ ((appP op ARGS).headD 0)else appP op ARGS,0⟩):=by
    have:=HEq.out;rw[hAA,HWD.out]at this;exact this
   have HBr:Hid (Below w.heap.size w wr/\Below W1.heap.size W1 wr):=⟨bel (bel HB1.out HB2.out) HR.out.1,bel HB2.out HR.out.1⟩
   clear hL hA1 hA2 hXP hlP hapl hapa hARGS hAel hAA hacell hsh;have t0:wr.cell? ⟨ib,io,none⟩=some (.int .i64 op):=kc HBr.out.2 g0;have t1:wr.cell? ⟨ib,io+1,none⟩=some (.int .i64 (D:Int)):=kc HBr.out.2 g1;have HAL:Hid ((appP op ARGS).length=n):=HAPL.out.1;have HZ:Hid (∀v,Below wr.heap.size wr v->v.cell? ⟨FR,0,none⟩=some (.pointer (some ⟨C,0,none⟩))/\v.cell? ⟨w.heap.size,0,none⟩=some (.int .i64 kk)/\v.cell? ⟨w.heap.size,1,none⟩=some (.int .i64 pp)):=fun v hv=>⟨kc hv (kc HBr.out.2 g7),kc hv (kc HBr.out.2 z0),kc hv (kc HBr.out.2 z1)⟩
   have hmj:=HX.out.fresh (g:=0+w.heap.size) oM;have HFR9:Hid (∀g,w.heap.size<=g->¬mutT T E E' g):=fun g hg=>HX.out.fresh hg;clear g0 g1 g2 g3 g4 g5 g6 g7 z0 z1 hmj HRd HRe HArgs HEq HAr HRC;by_cases hnW:n<Wd
   ·have en1:(n:Int)<(Wd:Int):=oM;have en2:(0:Int)<(n:Int):=oM;have hn0:0<n:=oM;obtain⟨Y,hY⟩:∃Y,opf op (elAt (lF ARGS) (xF ARGS) ARGS.length 0 0) (elAt (lF ARGS) (xF ARGS) ARGS.length 0 1) (elAt (lF ARGS) (xF ARGS) ARGS.length 0 2)=Y:=⟨_,rfl⟩
    have HYP:Hid (IsP Y):=by rw[←hY];exact Zxg _ _ _ _ (Zjr HIP.out _ _ _) (Zjr HIP.out _ _ _) (Zjr HIP.out _ _ _)
    have HYE:Hid ((appP op ARGS).headD 0=Y):=by
     have h1:=HAPL.out.2 0 hn0;rw[hY]at h1;rw[←h1];unfold atL;cases appP op ARGS<;>rfl
    have HAP2:Hid (∀v,Below wr.heap.size wr v->Calls prog 119 #[.int .i64 op,.slice (some ⟨ag,0,none⟩) j acap] v fun e w'=>∃g,e=.returned (.tuple #[.slice (some ⟨g,0,none⟩) n n,.int .i64 0])/\w'.cell? ⟨g,0,none⟩=some (.int .u32 Y)/\Below v.heap.size v w'):=fun v hv=>(HAP.out v hv).mono fun e w' ⟨g,h1,_,h2,h3⟩=>⟨g,h1,by have:=h2.cell hn0;rw[hY]at this;exact this,h3⟩
    clear hY HAP HAPL HIP;go_wp2_with(go_at_call 119;refine(HAP2.out _ (bel0 _)).mono ?_;rintro e w5 ⟨g,rfl,y0,hb5⟩;have HB5:Hid (Below wr.heap.size wr w5):=hb5;obtain⟨s0,s1,s2⟩:=HZ.out w5 hb5;clear hb5);refine rG (fun v=>v.cell? ⟨FR,0,none⟩=some (.pointer (some ⟨C,0,none⟩))/\v.cell? ⟨w.heap.size,0,none⟩=some (.int .i64 kk)/\v.cell? ⟨w.heap.size,1,none⟩=some (.int .i64 pp)) fun hHeld=>?_;refine Tf 0 1 2 3 4 5 ?_;refine tkT 6 ?_;clear hHeld;refine ry1 7 fun K hK=>?_;go_simp;(go_at_call 59;refine(HWd.out _ (bel HBr.out.1 (bel HB5.out (Zht _)))).mono ?_;rintro e w6 ⟨rfl,hb6⟩;have HB6:Hid (Below w5.heap.size w5 w6):=bel (Zht _) hb6;obtain⟨s0,s1,s2⟩:=HZ.out w6 (bel HB5.out HB6.out);have y0:=kc HB6.out y0;clear hb6);try(go_wp2_with fail)
    refine okK hK fun hHeld=>?_;clear hK K;refine tkT 8 ?_;refine wpAnyH_done kR ?_ _;go_wp2;refine rG (fun v=>v.cell? ⟨FR,0,none⟩=some (.pointer (some ⟨C,0,none⟩))/\v.cell? ⟨w.heap.size,0,none⟩=some (.int .i64 kk)/\v.cell? ⟨w.heap.size,1,none⟩=some (.int .i64 pp)/\v.cell? ⟨g,0,none⟩=some (.int .u32 Y)) fun hHeld=>?_;refine Tf 0 1 2 3 4 5 ?_;refine Tb 6 7 ?_;clear hHeld;refine ry1 8 fun K hK=>?_;go_simp;(go_at_call 33;refine(HFl.out _ Y (bel HBr.out.1 (bel HB5.out (bel HB6.out (Zht _)))) HYP.out).mono ?_;rintro e w7 ⟨g2,rfl,hg2,hr2,hb7⟩;have HB7:Hid (Below w6.heap.size w6 w7):=bel (Zht _) hb7;obtain⟨s0,s1,s2⟩:=HZ.out w7 (bel HB5.out (bel HB6.out HB7.out));have y0:=kc HB7.out y0;have HR7:Hid (w7.rowIs g2 43 Wd (fun _=>.int .u32 (canon Y))):=hr2;have HG7:Hid (w6.heap.size<=g2):=hg2;clear hb7 hr2 hg2);try(go_wp2_with fail)
    refine okK hK fun hHeld=>?_;clear hK K;refine tkT 9 ?_;refine wpAnyH_done kR ?_ _;have s9:w7.cell? ⟨ib,io+1,none⟩=some (.int .i64 (D:Int)):=kc (bel HB5.out (bel HB6.out HB7.out)) t1;have HBF:Hid (Below w.heap.size w w7):=bel HBr.out.1 (bel HB5.out (bel HB6.out HB7.out));have HPF:Hid (Pt (mutT T E E') w7 (.slice (some ⟨g2,0,none⟩) Wd Wd) (Zkf c ⟨kk,pp⟩ Y)):=by
     refine Pt.of_row HR7.out (HFR9.out g2 ?_) (by unfold Zkf;rw[List.length_replicate,HWD.out]) (fun k hk=>?_) Wd
     ·have:=(bel HBr.out.1 (bel HB5.out HB6.out)).size;have:=HG7.out;omega
     ·unfold Zkf atL;rw[HWD.out];simp[hk]
    have HNE:Hid (Zkf c ⟨kk,pp⟩ Y≠[]):=by
     intro e;have:=congrArg List.length e;unfold Zkf at this;rw[List.length_replicate,HWD.out]at this;simp at this;omega
    have HFE:Hid (F=stP c f D ⟨Zkf c ⟨kk,pp⟩ Y,0⟩):=by
     have:=HEQ2.out;rw[HAL.out,if_pos hnW,HYE.out]at this;exact this
    go_wp2_with(go_at_call 74;refine(HSt.out w7 _ _ _ _ HBF.out HPF.out HNE.out).mono ?_;rintro e w8 ⟨rfl,hst⟩;have HST:Hid (Zhv T E E' a c G P M F w w8):=(by rw[HFE.out];exact hst.pre HBF.out);clear hst)
    go_end0
    exact⟨rfl,HST.out⟩
   ·have en1:¬ ((n:Int)<(Wd:Int)):=oM;clear HFl;go_wp2_with(go_at_call 119;refine(HAP.out _ (bel0 _)).mono ?_;rintro e w5 ⟨g,rfl,hg5,hr5,hb5⟩;have HB5:Hid (Below wr.heap.size wr w5):=hb5;have HR5:=hidM hr5;have HG5:Hid (wr.heap.size<=g):=hg5;obtain⟨s0,s1,s2⟩:=HZ.out w5 hb5;clear hb5 hr5 hg5);refine rG (fun v=>v.cell? ⟨FR,0,none⟩=some (.pointer (some ⟨C,0,none⟩))/\v.cell? ⟨w.heap.size,0,none⟩=some (.int .i64 kk)/\v.cell? ⟨w.heap.size,1,none⟩=some (.int .i64 pp)) fun hHeld=>?_;refine Tf 0 1 2 3 4 5 ?_;refine tkT 6 ?_;clear hHeld;refine ry1 7 fun K hK=>?_;go_simp;(go_at_call 59;refine(HWd.out _ (bel HBr.out.1 (bel HB5.out (Zht _)))).mono ?_;rintro e w6 ⟨rfl,hb6⟩;have HB6:Hid (Below w5.heap.size w5 w6):=bel (Zht _) hb6;obtain⟨s0,s1,s2⟩:=HZ.out w6 (bel HB5.out HB6.out);clear hb6);try(go_wp2_with fail)
    refine okK hK fun hHeld=>?_;clear hK K;refine tkT 8 ?_;refine wpAnyH_done kR ?_ _;have s9:w6.cell? ⟨ib,io+1,none⟩=some (.int .i64 (D:Int)):=kc (bel HB5.out HB6.out) t1;have HBF:Hid (Below w.heap.size w w6):=bel HBr.out.1 (bel HB5.out HB6.out);have HPF:Hid (Pt (mutT T E E') w6 (.slice (some ⟨g,0,none⟩) n n) (appP op ARGS)):=by
     refine(Pt.of_row HR5.out (HFR9.out g ?_) HAPL.out.1 HAPL.out.2 n).below HB6.out;have:=HBr.out.1.size;have:=HG5.out;omega
    have HNE:Hid (appP op ARGS≠[]):=by
     intro e;have h1:=HAPL.out.1;rw[e]at h1;simp at h1;omega
    have HFE:Hid (F=stP c f D ⟨appP op ARGS,0⟩):=by
     have:=HEQ2.out;rw[HAPL.out.1,if_neg hnW]at this;exact this
    go_wp2_with(go_at_call 74;refine(HSt.out w6 _ _ _ _ HBF.out HPF.out HNE.out).mono ?_;rintro e w8 ⟨rfl,hst⟩;have HST:Hid (Zhv T E E' a c G P M F w w8):=(by rw[HFE.out];exact hst.pre HBF.out);clear hst)
    go_end0
    exact⟨rfl,HST.out⟩
theorem Zahq{T:Nat->Prop}{E E':Nat}{a:Lay}{c:Cd}{G P:List (List Int)}{X:Nat->Value}{M:Nat}{m:Nat->Option Value}{f:Fr}(w:World)(x:FX T E E' a c G P w)(h:FV T E E' a c w X M m f)(hg:Good c)(ib io:Nat)(i:Ins)(hi:InsT (mutT T E E') w ib io i)
 (d0:0<=i.d) (d1:i.d<(c.regs.length:Int)) (a0:0<=i.a) (a1:i.a<(c.regs.length:Int)) (hk:(regT c.regs i.d).kind=2):
 Calls prog 76 #[.pointer (some ⟨a.FR,0,none⟩),.pointer (some ⟨ib,io,none⟩)] w fun e w'=>e=.returned (.tuple #[])/\Zhv T E E' a c G P M (Zlj c f i) w w':=by
 have HEq:Hid (Zlj c f i={f with whs:=putN f.whs i.d.toNat (f.whs i.a.toNat)}):=by
  show Zlj c f i=_;unfold Zlj;rw[if_pos hk]
 obtain⟨F,hF⟩:∃F,Zlj c f i=F:=⟨_,rfl⟩
 rw[hF]at HEq ⊢;have q1:=hi.cells.at 1 rfl;have q2:=hi.cells.at 2 rfl;obtain⟨op,D,A,B,Ec,nn,bt⟩:=i;simp only at *;obtain⟨D,rfl⟩:∃j:Nat,D=(j:Int):=⟨D.toNat,oM⟩
 obtain⟨A,rfl⟩:∃j:Nat,A=(j:Int):=⟨A.toNat,oM⟩
 rw[Int.toNat_natCast,Int.toNat_natCast]at HEq;have hD:D<c.regs.length:=oM;have hA:A<c.regs.length:=oM;rw[Zkb hD]at hk;have f0:=x.f0;have f3:=x.f3;have c1:=x.code.c1;obtain⟨b1,o1,m1,hv1,r0,r1⟩:=x.code.reg hD;rw[hv1]at c1;rw[hk]at r0;have hN:=hg.regsL;have k1:=h.whs.cell hA;have k2:=h.whs.cell hD;have k3:=h.whs.frozen D;have n1:w.heap.size≠a.FR:=by have:=x.iFR;have:=x.hE';omega
 have n2:w.heap.size≠a.C:=by have:=x.code.ltC;omega
 have n3:w.heap.size≠ib:=by have:=hi.lt;omega
 have n4:w.heap.size≠b1:=by have:=Zhr r0;simp at this;omega
 have n5:a.WB≠a.FR:=Ne.symm x.d1.2.1;have n6:a.WB≠ib:=fun e=>hi.not (by rw[←e];exact .inr x.iWB);have HX:Hid (FX T E E' a c G P w):=x;have HV:Hid (FV T E E' a c w X M m f):=h;have HD:Hid (D<c.regs.length):=hD;obtain⟨pp,r2⟩:∃pp,w.cell? ⟨b1,o1+D*2+1,none⟩=some (.int .i64 pp):=⟨_,r1⟩
 clear r1;obtain⟨FR,hFR⟩:∃FR,a.FR=FR:=⟨_,rfl⟩
 obtain⟨WB,hWB⟩:∃WB,a.WB=WB:=⟨_,rfl⟩
 obtain⟨C,hC⟩:∃C,a.C=C:=⟨_,rfl⟩
 obtain⟨N,hN'⟩:∃N,c.regs.length=N:=⟨_,rfl⟩
 obtain⟨y,hy⟩:∃y,f.whs A=y:=⟨_,rfl⟩
 obtain⟨y2,hy2⟩:∃y2,f.whs D=y2:=⟨_,rfl⟩
 rw[hy]at k1 HEq;rw[hy2]at k2;simp only[hFR,hWB,hC,hN']at f0 f3 c1 hN k1 k2 k3 n1 n2 n5 n6 hD hA d1 a1 ⊢;have HWB:Hid (a.WB=WB):=hWB;clear x h hg hi hk hv1 hFR hWB hC hN' hy hy2 hF;go_enter func76,ntmps76;go_wp2;refine rG (fun v=>v.cell? ⟨FR,0,none⟩=some (.pointer (some ⟨C,0,none⟩))/\v.cell? ⟨C,1,none⟩=some (.slice (some ⟨b1,o1,none⟩) N m1)/\v.cell? ⟨ib,io+1,none⟩=some (.int .i64 (D:Int))/\v.cell? ⟨b1,o1+D*2,none⟩=some (.int .i64 2)/\v.cell? ⟨b1,o1+D*2+1,none⟩=some (.int .i64 pp)) fun hHeld=>?_;refine Tf 0 1 2 3 4 5 ?_;refine Tf 6 7 8 9 10 11 ?_;refine tkT 12 ?_;clear hHeld;refine ry1 13 fun K hK=>?_;go_simp;refine okK hK fun hHeld=>?_;clear hK K;clear hHeld;refine ry1 14 fun K hK=>?_;go_simp;refine okK hK fun hHeld=>?_;clear hK K;refine wpAnyH_done kR ?_ _;obtain⟨W1,hW1⟩:∃W1,(w.alloc (.cells #[.int .i64 2,.int .i64 pp] 69)).drew=W1:=⟨_,rfl⟩
 have hb1:Below w.heap.size w W1:=by rw[←hW1];exact bel (Zhq _ _) (Zht _)
 have z0:W1.cell? ⟨w.heap.size,0,none⟩=some (.int .i64 2):=by rw[←hW1];simp[go_sem]
 rw[hW1];clear hW1 hHeld;have HB1:Hid (Below w.heap.size w W1):=hb1;have g1:=kc hb1 q1;have g2:=kc hb1 q2;have g3:=kc hb1 f3;have g4:=kc hb1 k1;have g5:=kc hb1 k2;have g6:=kf hb1 k2 k3;clear q1 q2 f0 f3 c1 r0 r2 hb1 k1 k2 k3;go_wp2;refine rG (fun v=>v.cell? ⟨FR,3,none⟩=some (.slice (some ⟨WB,0,none⟩) N N)/\v.cell? ⟨ib,io+1,none⟩=some (.int .i64 (D:Int))/\v.cell? ⟨ib,io+2,none⟩=some (.int .i64 (A:Int))) fun hHeld=>?_;refine Tf 0 1 2 3 4 5 ?_;refine Tf 6 7 8 9 10 11 ?_;refine Tc 12 13 14 ?_;refine Tb 15 16 ?_;clear hHeld;refine ry1 17 fun K hK=>?_;go_simp;refine okK hK fun hHeld=>?_;clear hK K;refine tkT 18 ?_;clear hHeld;refine ry1 19 fun K hK=>?_;go_simp;refine okK hK fun hHeld=>?_;clear hK K;refine wpAnyH_done kR ?_ _;go_wp2;first|go_end0|(simp only[Exit.inBlock,Exit.then];refine bodyPost_ret (results_none rfl _ _ _) rfl ?_)|refine bodyPost_ret (results_none rfl _ _ _) rfl ?_
 have hfin:=(Zhv.wh (HX.out.below HB1.out) (HV.out.below HB1.out) HD.out y).pre HB1.out;rw[HWB.out]at hfin;rw[HEq.out];exact⟨rfl,hfin.on (Zht _)⟩
theorem do_num{T:Nat->Prop}{E E':Nat}{a:Lay}{c:Cd}{G P:List (List Int)}{X:Nat->Value}{M:Nat}{m:Nat->Option Value}{f:Fr}(w:World)(x:FX T E E' a c G P w)(h:FV T E E' a c w X M m f)(hg:Good c)(ok:OkF c f)(ib io:Nat)(i:Ins)(hi:InsT (mutT T E E') w ib io i)
 (hop:Zlx i.op=true) (d0:0<=i.d) (d1:i.d<(c.regs.length:Int)) (ha:i.op≠1->0<=i.a/\i.a<(c.regs.length:Int)) (hb:i.op=16->0<=i.b/\i.b<(c.regs.length:Int)):
 Calls prog 45 #[.pointer (some ⟨a.FR,0,none⟩),.pointer (some ⟨ib,io,none⟩)] w fun e w'=>e=.returned (.tuple #[])/\Zhv T E E' a c G P M {f with nums:=putN f.nums i.d.toNat (numI f i)} w w':=by
 have HK:Hid (∀v,Below w.heap.size w v->Calls prog 70 #[.pointer (some ⟨a.FR,0,none⟩),.pointer (some ⟨ib,io,none⟩)] v fun e w'=>e=.returned (.int .u32 (numI f i))/\Below v.heap.size v w'):=fun v hv=>Zagx v (x.below hv) (h.below hv) hg ok ib io i (hi.below hv).cells hop ha hb;obtain⟨y,hy⟩:∃y,numI f i=y:=⟨_,rfl⟩
 rw[hy]at HK ⊢;have q0:=hi.cells.at 0 rfl;rw[Nat.add_zero]at q0;have q1:=hi.cells.at 1 rfl;have hnot:=hi.not;obtain⟨op,D,A,B,Ec,nn,bt⟩:=i;simp only at *;obtain⟨D,rfl⟩:∃j:Nat,D=(j:Int):=⟨D.toNat,oM⟩
 rw[Int.toNat_natCast];have hD:D<c.regs.length:=oM;have f2:=x.f2;have hN:=hg.regsL;have k2:=h.nums.cell hD;have k3:=h.nums.frozen D;have n5:a.NB≠a.FR:=Ne.symm x.d1.1;have n6:a.NB≠ib:=fun e=>hnot (by rw[←e];exact .inr x.iNB);obtain⟨F,hF⟩:∃F:Fr,({f with nums:=putN f.nums D y}:Fr)=F:=⟨_,rfl⟩
 have HFin:Hid (∀v,Below w.heap.size w v->Zhv T E E' a c G P M F w (v.setCell ⟨a.NB,D,none⟩ (.int .u32 y))):=fun v hv=>by rw[←hF];exact(Zhv.num (x.below hv) (h.below hv) hD y).pre hv
 rw[hF];obtain⟨FR,hFR⟩:∃FR,a.FR=FR:=⟨_,rfl⟩
 obtain⟨NB,hNB⟩:∃NB,a.NB=NB:=⟨_,rfl⟩
 obtain⟨N,hN'⟩:∃N,c.regs.length=N:=⟨_,rfl⟩
 obtain⟨y2,hy2⟩:∃y2,f.nums D=y2:=⟨_,rfl⟩
 rw[hy2]at k2;simp only[hFR,hNB,hN']at f2 hN k2 k3 n5 n6 hD d1 HK HFin ⊢;clear x h hg hi ok ha hb hy hFR hNB hN' hy2 hF hnot;unfold Zlx at hop;simp only[Bool.or_eq_true,beq_iff_eq]at hop;have hop':op=1\/op=16\/op=17\/op=19\/op=20:=oM;clear hop;rcases hop' with rfl|rfl|rfl|rfl|rfl
 all_goals
  go_enter func45,ntmps45;go_wp2;refine rG (fun v=>v.cell? ⟨FR,2,none⟩=some (.slice (some ⟨NB,0,none⟩) N N)/\v.cell? ⟨ib,io+1,none⟩=some (.int .i64 (D:Int))) fun hHeld=>?_;refine Tf 0 1 2 3 4 5 ?_;refine Tc 6 7 8 ?_;refine tkT 9 ?_;clear hHeld;refine ry1 10 fun K hK=>?_;go_simp;(go_at_call 70;refine(HK.out _ (Zht _)).mono ?_;rintro e w1 ⟨rfl,hb1⟩;have HB1:=bel (Zht _) hb1;have z1:=kc HB1 f2;have z2:=kc HB1 q1;have z3:=kc HB1 k2;have z4:=kf HB1 k2 k3;clear hb1);exact Zdj
theorem Zapz{T:Nat->Prop}{E E':Nat}{a:Lay}{c:Cd}{G P:List (List Int)}{X:Nat->Value}{M:Nat}{m:Nat->Option Value}{f:Fr}(w:World)(x:FX T E E' a c G P w)(h:FV T E E' a c w X M m f)(hg:Good c)(ok:OkF c f)(ib io:Nat)(i:Ins)(hi:InsT (mutT T E E') w ib io i)
 (hop:Zju i.op=true) (d0:0<=i.d) (d1:i.d<(c.regs.length:Int)) (ha:0<=i.a/\i.a<(c.regs.length:Int)) (hb:0<=i.b/\i.b<(c.regs.length:Int)) (hc:0<=i.c/\i.c<(c.regs.length:Int)):
 Calls prog 45 #[.pointer (some ⟨a.FR,0,none⟩),.pointer (some ⟨ib,io,none⟩)] w fun e w'=>e=.returned (.tuple #[])/\Zhv T E E' a c G P M {f with whs:=putN f.whs i.d.toNat (Zms f i)} w w':=by
 have HK:Hid (∀v,Below w.heap.size w v->Calls prog 71 #[.pointer (some ⟨a.FR,0,none⟩),.pointer (some ⟨ib,io,none⟩)] v fun e w'=>e=.returned (.int .i64 (Zms f i))/\Below v.heap.size v w'):=fun v hv=>Zajm v (x.below hv) (h.below hv) hg ok ib io i (hi.below hv).cells hop ha hb hc;obtain⟨y,hy⟩:∃y,Zms f i=y:=⟨_,rfl⟩
 rw[hy]at HK ⊢;have q0:=hi.cells.at 0 rfl;rw[Nat.add_zero]at q0;have q1:=hi.cells.at 1 rfl;have hnot:=hi.not;obtain⟨op,D,A,B,Ec,nn,bt⟩:=i;simp only at *;obtain⟨D,rfl⟩:∃j:Nat,D=(j:Int):=⟨D.toNat,oM⟩
 rw[Int.toNat_natCast];have hD:D<c.regs.length:=oM;have f3:=x.f3;have hN:=hg.regsL;have k2:=h.whs.cell hD;have k3:=h.whs.frozen D;have n5:a.WB≠a.FR:=Ne.symm x.d1.2.1;have n6:a.WB≠ib:=fun e=>hnot (by rw[←e];exact .inr x.iWB);obtain⟨F,hF⟩:∃F:Fr,({f with whs:=putN f.whs D y}:Fr)=F:=⟨_,rfl⟩
 have HFin:Hid (∀v,Below w.heap.size w v->Zhv T E E' a c G P M F w (v.setCell ⟨a.WB,D,none⟩ (.int .i64 y))):=fun v hv=>by rw[←hF];exact(Zhv.wh (x.below hv) (h.below hv) hD y).pre hv
 rw[hF];obtain⟨FR,hFR⟩:∃FR,a.FR=FR:=⟨_,rfl⟩
 obtain⟨WB,hWB⟩:∃WB,a.WB=WB:=⟨_,rfl⟩
 obtain⟨N,hN'⟩:∃N,c.regs.length=N:=⟨_,rfl⟩
 obtain⟨y2,hy2⟩:∃y2,f.whs D=y2:=⟨_,rfl⟩
 rw[hy2]at k2;simp only[hFR,hWB,hN']at f3 hN k2 k3 n5 n6 hD d1 HK HFin ⊢;clear x h hg hi ok ha hb hc hy hFR hWB hN' hy2 hF hnot;unfold Zju at hop;simp only[Bool.or_eq_true,Bool.and_eq_true,beq_iff_eq,decide_eq_true_eq]at hop;have hop':op=2\/op=18\/op=21\/op=22\/op=23\/op=24\/op=25\/op=26\/op=27\/op=28:=oM;clear hop;rcases hop' with rfl|rfl|rfl|rfl|rfl|rfl|rfl|rfl|rfl|rfl
 all_goals
  go_enter func45,ntmps45;go_wp2;refine rG (fun v=>v.cell? ⟨FR,3,none⟩=some (.slice (some ⟨WB,0,none⟩) N N)/\v.cell? ⟨ib,io+1,none⟩=some (.int .i64 (D:Int))) fun hHeld=>?_;refine Tf 0 1 2 3 4 5 ?_;refine Tc 6 7 8 ?_;refine tkT 9 ?_;clear hHeld;refine ry1 10 fun K hK=>?_;go_simp;(go_at_call 71;refine(HK.out _ (Zht _)).mono ?_;rintro e w1 ⟨rfl,hb1⟩;have HB1:=bel (Zht _) hb1;have z1:=kc HB1 f3;have z2:=kc HB1 q1;have z3:=kc HB1 k2;have z4:=kf HB1 k2 k3;clear hb1);exact Zdj
def tailS(s:Wk)(op:Int):Bool:=if op=34\/op=36 then decide (s.opens.length<64)else if op=35 then decide (0<s.opens.length)&& !Zim s else if op=37 then Zim s else true
def loopS(c:Cd)(s:Wk)(i:Ins):Bool:=Zim s&&(i.op != 37&&vecR c.regs (vecN i) != Zlf s)
def Zme(s:Wk):Prop:=∀b∈s.opens,b.loop=true->0<=b.par
theorem Zme.inner{s:Wk}(h:Zme s)(hl:Zim s=true):0<=Zlf s:=by
 obtain⟨S,O⟩:=s;cases O with
 |nil=>exact Int.le_refl _
 |cons b r=>exact h b (List.mem_cons_self ..) hl
theorem Ztr{i:Ins}(h:Zln i.op=false):vecN i= -1:=by
 unfold Zln at h;simp only[Bool.or_eq_false_iff]at h;have h1:(i.op==29)=false/\(i.op==30)=false/\(i.op==31)=false/\(i.op==32)=false/\(i.op==33)=false:=by
  have:=h.1;simp only[Bool.and_eq_false_iff,decide_eq_false_iff_not]at this;simp only[beq_eq_false_iff_ne,ne_eq];omega
 unfold vecN;rw[h.2,h1.1,h1.2.1,h1.2.2.1,h1.2.2.2.1,h1.2.2.2.2];rfl
theorem Zakg{i:Ins}(h:Zln i.op=true):vecN i=Znl i (rowP i.op):=by
 unfold Zln Zjj at h;simp only[Bool.or_eq_true,Bool.and_eq_true,decide_eq_true_eq]at h;obtain⟨op,D,A,B,E,n,bb⟩:=i;simp only at h ⊢;have:op=3\/op=4\/op=5\/op=6\/op=7\/op=8\/op=9\/op=10\/op=11\/op=12\/op=13\/op=14\/op=15\/op=29\/op=30\/op=31\/op=32\/op=33:=oM;rcases this with rfl|rfl|rfl|rfl|rfl|rfl|rfl|rfl|rfl|rfl|rfl|rfl|rfl|rfl|rfl|rfl|rfl|rfl<;>rfl
theorem Zte(rs:List Ty):vecR rs (-1)= -1:=by unfold vecR isPl;simp
theorem vecR_eq{rs:List Ty}{n q:Int}(hq:0<=q):(vecR rs n=q)↔regT rs n=⟨3,q⟩:=by
 unfold vecR;cases h:isPl n rs.length
 ·have:regT rs n=⟨0,0⟩:=by unfold regT;rw[h];rfl
  rw[this];simp;omega
 ·rw[Bool.true_and];generalize regT rs n=t;obtain⟨K,P⟩:=t;simp only[Ty.mk.injEq];by_cases hk:K=3
  ·subst hk;simp
  ·have:(K==3)=false:=by simpa using hk
   rw[this];constructor
   ·intro e;simp at e;omega
   ·intro e;exact absurd e.1 hk
theorem Zajq{c:Cd}{s:Wk}{i:Ins}(hO:Zme s):Ziw c s i (rowP i.op)=(!loopS c s i&&tailS s i.op):=by
 have hO':=hO.inner;unfold Ziw loopS tailS;by_cases h1:i.op=34\/i.op=36
 ·rw[if_pos h1,if_pos h1];have hv:vecR c.regs (vecN i)= -1:=by
   rw[Ztr (by rcases h1 with e|e<;>rw[e]<;>decide),Zte]
  have h37:(i.op != 37)=true:=by rcases h1 with e|e<;>rw[e]<;>decide
  rw[hv,h37];cases hl:Zim s
  ·rfl
  ·have:=hO' hl;have e:((-1:Int) != Zlf s)=true:=sO;rw[e];rfl
 ·rw[if_neg h1,if_neg h1];by_cases h2:i.op=35
  ·rw[if_pos h2,if_pos h2];have hv:vecR c.regs (vecN i)= -1:=by rw[Ztr (by rw[h2];decide),Zte]
   rw[hv,h2];have hE:(!s.opens.isEmpty)=decide (0<s.opens.length):=by cases s.opens<;>simp
   rw[hE];cases hl:Zim s
   ·simp
   ·have:=hO' hl;have e:((-1:Int) != Zlf s)=true:=sO;rw[e];simp
  ·rw[if_neg h2,if_neg h2];by_cases h3:i.op=37
   ·rw[if_pos h3,if_pos h3,h3];cases Zim s<;>rfl
   ·rw[if_neg h3,if_neg h3];have h37:(i.op != 37)=true:=by simpa using h3
    rw[h37,Bool.true_and,Bool.and_true];cases hl:Zim s
    ·rfl
    ·have hq:=hO' hl;rw[Bool.not_true,Bool.false_or,Bool.true_and];cases hlp:Zln i.op
     ·rw[Ztr hlp,Zte];have e:((-1:Int) != Zlf s)=true:=sO;rw[e];rfl
     ·rw[Zakg hlp,Bool.true_and];unfold Zij;rw[Bool.eq_iff_iff,decide_eq_true_eq,←vecR_eq hq];simp
theorem Zajp{c:Cd}{s:Wk}{i:Ins}(hT:Zif c=true)(hO:Zme s):Zjb c s i=((Zih i.op&&Zmq c i (ltR i.op))&&(!loopS c s i&&(Zqk s i (rowP i.op)&&tailS s i.op))):=by
 unfold Zjb;rw[Zabh hT,Zajq hO];cases Zih i.op<;>cases Zjp c i (rowP i.op)<;>cases loopS c s i<;>cases tailS s i.op<;>simp
structure Ob where
 op:Int
 par:Int
 set:List Nat
def obR(S:List Nat)(b:Bk):Ob:=⟨if b.loop then 36 else 34,b.par,S.take b.ahead⟩
def opR(s:Wk):List Ob:=(s.opens.map (obR s.set)).reverse
theorem Zug(s:Wk):(opR s).length=s.opens.length:=by simp[opR]
theorem Zsl(S:List Nat)(b:Bk)(r:List Bk):opR ⟨S,b::r⟩=(r.map (obR S)).reverse++[obR S b]:=by simp[opR]
theorem Zany{s:Wk}(h:0<s.opens.length):∃X,(opR s)[s.opens.length-1]? =some ⟨if Zim s then 36 else 34,Zlf s,X⟩:=by
 obtain⟨S,O⟩:=s;cases O with
 |nil=>simp at h
 |cons b r=>
  refine⟨S.take b.ahead,?_⟩;rw[Zsl];simp only[List.length_cons,Nat.add_sub_cancel];rw[List.getElem?_append_right sM];simp only[List.length_reverse,List.length_map,Nat.sub_self];rfl
theorem Zxm{s:Wk}{i:Ins}(h:i.op=34\/i.op=36):Zib s i=⟨s.set,⟨i.op==36,i.n,s.set.length⟩::s.opens⟩:=by
 unfold Zib Zol;rw[Zyj Zhg];unfold Zmr;rw[if_pos h]
theorem Zxd{s:Wk}{i:Ins}(h:i.op=35\/i.op=37):Zib s i=Ziy s:=by
 unfold Zib Zol;rw[Zyj Zhg];unfold Zmr;rw[if_neg oM,if_pos h]
theorem Zqx{s:Wk}{i:Ins}(h1:i.op≠34)(h2:i.op≠35)(h3:i.op≠36)(h4:i.op≠37):Zib s i=⟨insP s.set i,s.opens⟩:=by
 unfold Zib Zol Zmr;rw[if_neg oM,if_neg oM];unfold addP insP;split<;>rfl
theorem Zarh{s:Wk}{i:Ins}(h:i.op=34\/i.op=36):opR (Zib s i)=opR s++[⟨i.op,i.n,s.set⟩]:=by
 rw[Zxm h,Zsl];unfold opR obR;simp only[List.take_length];rcases h with h|h<;>rw[h]<;>rfl
theorem Zard{s:Wk}{i:Ins}{n:Nat}(ho:OkS n s)(h1:i.op≠34)(h2:i.op≠35)(h3:i.op≠36)(h4:i.op≠37):opR (Zib s i)=opR s:=by
 rw[Zqx h1 h2 h3 h4];unfold opR;simp only;congr 1;apply List.map_congr_left;intro b hb;have:=Zaan ho.opens b hb;have e:(insP s.set i).take b.ahead=s.set.take b.ahead:=by
  unfold insP;split
  ·rw[List.take_append_of_le_length this]
  ·rfl
 unfold obR;rw[e]
theorem Zre{s:Wk}{n:Nat}(ho:OkS n s)(h:0<s.opens.length):opR (Ziy s)=(opR s).take (s.opens.length-1):=by
 obtain⟨S,O⟩:=s;cases O with
 |nil=>simp at h
 |cons b r=>
  rw[Zsl];simp only[List.length_cons,Nat.add_sub_cancel];rw[List.take_append_of_le_length sM,List.take_of_length_le sM];unfold opR Ziy;simp only;cases hb:b.loop
  ·simp only[Bool.false_eq_true,if_false];congr 1;apply List.map_congr_left;intro a ha;have:=Zaan ho.opens.2 a ha;unfold obR;rw[List.take_take,Nat.min_eq_left this]
  ·simp only[if_true]
theorem Zakh{s:Wk}(hl:Zim s=false){o:Ob}(h:(opR s)[s.opens.length-1]? =some o)(h0:0<s.opens.length):(Ziy s).set=o.set:=by
 obtain⟨S,O⟩:=s;cases O with
 |nil=>simp at h0
 |cons b r=>
  rw[Zsl]at h;simp only[List.length_cons,Nat.add_sub_cancel]at h;rw[List.getElem?_append_right sM]at h;simp at h;subst h;have:b.loop=false:=hl;simp[Ziy,this,obR]
theorem Zaie{s:Wk}(hl:Zim s=true):(Ziy s).set=s.set:=by
 obtain⟨S,O⟩:=s;cases O with
 |nil=>rfl
 |cons b r=>
  have:b.loop=true:=hl;simp[Ziy,this]
theorem Zpi(s:Wk):(Ziy s).opens.length=s.opens.length-1:=by
 obtain⟨S,O⟩:=s;cases O with
 |nil=>rfl
 |cons b r=>simp[Ziy]
theorem Zme.step{c:Cd}{s:Wk}{i:Ins}(h:Zme s)(t:Zjb c s i=true):Zme (Zib s i):=by
 by_cases h1:i.op=34\/i.op=36
 ·rw[Zxm h1];intro b hb hl;rcases List.mem_cons.1 hb with rfl|hb
  ·have h36:i.op=36:=by simpa using hl
   obtain⟨_,h2,_,_⟩:=Zjv t;rw[h36]at h2;unfold Zjp Zkh at h2;simp only[Bool.and_eq_true]at h2;have h3:=h2.2.2.2.2;rw[if_neg (show(rowP 36).n≠7 by decide)]at h3;simp only[Bool.and_eq_true]at h3;have h4:isPl i.n c.sign.length=true:=h3.2;exact(Zld.1 h4).1
  ·exact h b hb hl
 ·by_cases h2:i.op=35\/i.op=37
  ·rw[Zxd h2];intro b hb hl;refine h b ?_ hl;unfold Ziy at hb;split at hb
   ·rename_i e;rw[e];exact List.mem_cons_of_mem _ hb
   ·exact hb
  ·rw[Zqx oM oM oM oM];exact h
theorem Zme.start:Zme ⟨[],[]⟩:=fun b hb=>by cases hb
end Go.Proofs.YtbinohkcolcbfaaGreat
set_option maxRecDepth 100000
set_option maxHeartbeats 16000000
namespace Go.Proofs.YtbinohkcolcbfaaGreat
open Go.RowKit Go.Proofs.Tryz
set_option linter.unusedVariables false
set_option linter.unusedSimpArgs false
def obC(o:Ob)(u:Value):List Value:=[.int .i64 o.op,.int .i64 o.par,u]
def obsC:List Ob->List Value->List Value
 |o::l,u::us=>obC o u++obsC l us
 |_,_=>[]
theorem Zzr(o:Ob)(u:Value):∀ {l:List Ob} {us:List Value},l.length=us.length->obsC (l++[o]) (us++[u])=obsC l us++obC o u
 |[],[],_=>by simp[obsC]
 |[],_::_,h=>by simp at h
 |_::_,[],h=>by simp at h
 |a::l,b::us,h=>by simp only[List.cons_append,obsC];rw[Zzr o u Zgb,List.append_assoc]
theorem Ztt:∀ (m:Nat) (l:List Ob) (us:List Value),(obsC l us).take (m*3)=obsC (l.take m) (us.take m)
 |0,l,us=>by simp[obsC]
 |m+1,[],us=>by simp[obsC]
 |m+1,a::l,[]=>by simp[obsC]
 |m+1,a::l,b::us=>by
  simp only[List.take_succ_cons,obsC];rw[show(m+1)*3=(obC a b).length+m*3 by simp[obC];omega,List.take_length_add_append,Ztt m l us]
theorem Zaey(j:Nat)(hj:j<3):∀ {l:List Ob} {us:List Value} {k:Nat} {o:Ob} {u:Value},l[k]? =some o->us[k]? =some u->(obsC l us)[k*3+j]? =(obC o u)[j]?
 |[],us,k,o,u,h,_=>by simp at h
 |a::l,[],k,o,u,_,h=>by simp at h
 |a::l,b::us,0,o,u,h,h'=>by
  simp at h h';subst h h';simp only[obsC];rw[Nat.zero_mul,Nat.zero_add,List.getElem?_append_left (by simpa[obC]using hj)]
 |a::l,b::us,k+1,o,u,h,h'=>by
  simp only[obsC];rw[List.getElem?_append_right (by simp[obC];omega)];have e:(k+1)*3+j-(obC a b).length=k*3+j:=by simp[obC];omega
  rw[e];exact Zaey j hj Zgb (by simpa using h')
theorem Zajz:(prog.info? 114).map (fun i=>(i.zero,i.size,i.bytes))=some (some (.agg #[.int .i64 0,.int .i64 0,.slice none 0 0]),3,40):=kR
structure SK(B M:Nat)(v:World)(sv ov:Value)(s:Wk)(us:List Value):Prop where
 hB:B<=v.heap.size
 set:v.ownsRow B 4 1 sv M (setB M s.set)
 opn:v.ownsRow B 114 3 ov s.opens.length (obsC (opR s) us)
 len:us.length=s.opens.length
 each:∀k (h:k<us.length) o,(opR s)[k]? =some o->v.ownsRow B 4 1 us[k] M (setB M o.set)/\∀b,sv.ownBlock=some b->us[k].ownBlock≠some b
section
variable {B M : Nat} {v v' : World} {sv ov : Value} {s : Wk} {us : List Value}
theorem SK.below(h:SK B M v sv ov s us)(k:Below v.heap.size v v'):SK B M v' sv ov s us:=
 ⟨Nat.le_trans h.hB k.size,Ziu h.set k,Ziu h.opn k,h.len,fun j hj o ho=>⟨Ziu (h.each j hj o ho).1 k,(h.each j hj o ho).2⟩⟩
theorem Zsw:114≠4:=dE
theorem SK.ins{i:Ins}{g q n:Nat}(h:SK B M v (.slice (some ⟨g,0,none⟩) M q) ov s us)(ok:OkS n s)(h1:i.op≠34)(h2:i.op≠35)(h3:i.op≠36)(h4:i.op≠37)(hd:(rowP i.op).d≠0)(hl:i.d.toNat<M):
 SK B M (v.setCell ⟨g,i.d.toNat,none⟩ (.bool true)) (.slice (some ⟨g,0,none⟩) M q) ov (Zib s i) us:=by
 have e1:=Zard (i:=i) ok h1 h2 h3 h4;have e2:(Zib s i).set=insP s.set i/\(Zib s i).opens=s.opens:=by rw[Zqx h1 h2 h3 h4];exact⟨rfl,rfl⟩
 have hne:∀b,b≠g->(v.setCell ⟨g,i.d.toNat,none⟩ (.bool true)).heap[b]? =v.heap[b]? :=fun b hb=>Below.heap_setCell _ _ _ _ hb;refine⟨by have:=h.hB;simp;omega,?_,?_,by rw[e2.2];exact h.len,fun k hk o ho=>?_⟩
 ·rw[e2.1,←Zaqd hd hl];exact(h.set.stored _ _).1
 ·rw[e1,e2.2];exact Ziv h.opn fun b hb=>hne b fun e=>Zra h.opn h.set Zsw b hb (by rw[e];rfl)
 ·rw[e1]at ho;obtain⟨a1,a2⟩:=h.each k hk o ho;exact⟨Ziv a1 fun b hb=>hne b fun e=>a2 g rfl (by rw[←e];exact hb),a2⟩
theorem SK.keep{i:Ins}{n:Nat}(h:SK B M v sv ov s us)(ok:OkS n s)(h1:i.op≠34)(h2:i.op≠35)(h3:i.op≠36)(h4:i.op≠37)(hd:(rowP i.op).d=0):SK B M v sv ov (Zib s i) us:=by
 have e:Zib s i=s:=by rw[Zqx h1 h2 h3 h4,Zajg (M:=0) hd]
 rw[e];exact h
theorem Zou{B:Nat}{V:World}{e t:TypeId}{z:Value}{sz by':Nat}(ht:prog.underlying t=some (.slice e))(hi:(prog.info? e).map (fun i=>(i.zero,i.size,i.bytes))=some (some z,sz,by'))(hzs:z.cells.size=sz)(hsz:0<sz){p:Option Addr}{n q:Nat}{xs:List Value}(h:V.ownsRow B e sz (.slice p n q) n xs)(hB:B<=V.heap.size)
 (cs:Array Value) (hcs:cs.size=sz) (h1:∀u∈cs.toList,u.oneCell'=true) (hn:n+1<=maxLen) (hb:(n+1)*by'<=140737488355328) (ty:TypeId):
 ∃g c' w',(Builtin.append_ #[t,t] ty #[.slice p n q,.slice (some ⟨V.heap.size,0,none⟩) 1 1]).run prog (V.alloc (.cells cs e))=.ok (.slice (some ⟨g,0,none⟩) (n+1) c') w'/\Below B V w'/\w'.ownsRow B e sz (.slice (some ⟨g,0,none⟩) (n+1) c') (n+1) (xs++cs.toList)/\∀b,b<V.heap.size->(Value.slice p n q).ownBlock≠some b->w'.heap[b]? =V.heap[b]? :=by
 obtain⟨i0,hi0,hz0,hz1,hz2⟩:=info_parts hi;have hb0:Below V.heap.size V (V.alloc (.cells cs e)):=Zhq _ _;have hs:(V.alloc (.cells cs e)).heap.size=V.heap.size+1:=sM;have h0:=Ziu h hb0;obtain⟨g,cap,w3,hr,hown,hgrow,hat,hlt⟩:=run_append_lies (P:=prog) (V.alloc (.cells cs e)) t ty B e i0 _ sz by' ht hi0 hz0 hz1 hz2 hzs hsz (.slice p n q) n xs h0 ⟨V.heap.size,0,none⟩ 1 1 cs.toList (by simp[hcs])
  (World.news_of_block (cs:=cs) (t:=e) (fr:=(0,0)) (heap_alloc_new V _)) h1 dE hn hb oM _ rfl
 refine⟨g,cap,w3,hr,(hb0.mono hB).grown hgrow oM (fun q e=>(h0.lt q e).1),hown,fun b hb hne=>?_⟩;rw[hgrow.block b oM (Ne.symm hne)];exact hb0.block b hb
theorem SK.push{i:Ins}{p:Option Addr}{q:Nat}{u:Value}(h:SK B M v sv (.slice p s.opens.length q) s us)(k:Below v.heap.size v v')(hu:v'.ownsRow v.heap.size 4 1 u M (setB M s.set))(hi:i.op=34\/i.op=36)(hn:s.opens.length<64)(ty:TypeId):
 ∃g c' w',(Builtin.append_ #[110,110] ty #[.slice p s.opens.length q,.slice (some ⟨v'.heap.size,0,none⟩) 1 1]).run prog (v'.alloc (.cells #[.int .i64 i.op,.int .i64 i.n,u] 114))=.ok (.slice (some ⟨g,0,none⟩) (s.opens.length+1) c') w'/\Below B v w'/\SK B M w' sv (.slice (some ⟨g,0,none⟩) (s.opens.length+1) c') (Zib s i) (us++[u])/\∀b,b<v'.heap.size->(Value.slice p s.opens.length q).ownBlock≠some b->w'.heap[b]? =v'.heap[b]? :=by
 have h':=h.below k;have hone:u.oneCell'=true:=by
  obtain⟨p,c,rfl⟩:=Zjl hu;rfl
 obtain⟨g,c',w',hr,hb,ho,hk⟩:=Zou (V:=v') underlying110 Zajz rfl dE h'.opn h'.hB #[.int .i64 i.op,.int .i64 i.n,u] rfl (by intro x hx;simp at hx;rcases hx with rfl|rfl|rfl<;>first|rfl|exact hone) mL oM ty;have hs:(Zib s i).set=s.set/\(Zib s i).opens.length=s.opens.length+1:=by rw[Zxm hi];exact⟨rfl,rfl⟩
 have eo:=Zarh (s:=s) hi;have hsz:=k.size;refine⟨g,c',w',hr,(k.mono h.hB).trans hb,⟨Nat.le_trans h'.hB hb.size,?_,?_,by rw[hs.2,List.length_append,h.len];rfl,fun j hj o ho'=>?_⟩,hk⟩
 ·rw[hs.1];exact Ziv h'.set fun b hbb=>hk b (h'.set.lt b hbb).2 (fun e=>Zra h'.opn h'.set Zsw b e hbb)
 ·rw[hs.2,eo,Zzr _ _ (by rw[Zug];exact h.len.symm)];exact ho
 ·rw[eo]at ho';by_cases hlt:j<us.length
  ·rw[List.getElem?_append_left (by rw[Zug,←h.len];exact hlt)]at ho';obtain⟨a1,a2⟩:=h'.each j hlt o ho';rw[List.getElem_append_left hlt];exact⟨Ziv a1 fun b hbb=>hk b (a1.lt b hbb).2 (fun e=>Zra h'.opn a1 Zsw b e hbb),a2⟩
  ·have hj':j=us.length:=by simp at hj;omega
   subst hj';rw[List.getElem?_append_right (by rw[Zug,h.len];exact Nat.le_refl _)]at ho';have e0:us.length-(opR s).length=0:=by rw[Zug,h.len];omega
   rw[e0]at ho';simp at ho';subst ho';have e1:(us++[u])[us.length]'hj=u:=sM;rw[e1];refine⟨Zna (Ziv hu fun b hbb=>hk b (hu.lt b hbb).2 (fun e=>?_)) h.hB,fun b hbb e=>?_⟩
   ·exact Zra h'.opn hu Zsw b e hbb
   ·have a1:=(hu.lt b e).1;have a2:=(h.set.lt b hbb).2;omega
theorem SK.pop{p:Option Addr}{q n:Nat}(h:SK B M v sv (.slice p s.opens.length q) s us)(ok:OkS n s)(h0:0<s.opens.length)(hl:Zim s=true):SK B M v sv (.slice p (s.opens.length-1) q) (Ziy s) (us.take (s.opens.length-1)):=by
 refine⟨h.hB,by rw[Zaie hl];exact h.set,?_,by rw[Zpi,List.length_take,h.len];omega,fun k hk o ho=>?_⟩
 ·rw[Zpi,Zre ok h0,←Ztt];exact Zsu h.opn oM
 ·rw[Zre ok h0]at ho;have hk':k<us.length:=by simp at hk;omega
  rw[List.getElem?_take]at ho;split at ho
  ·obtain⟨a1,a2⟩:=h.each k hk' o ho;simp only[List.getElem_take];exact⟨a1,a2⟩
  ·simp at ho
theorem SK.back{p:Option Addr}{q n:Nat}{u:Value}{o:Ob}(h:SK B M v sv (.slice p s.opens.length q) s us)(ok:OkS n s)(h0:0<s.opens.length)(hl:Zim s=false)(k:Below v.heap.size v v')(ho:(opR s)[s.opens.length-1]? =some o)(hu:v'.ownsRow v.heap.size 4 1 u M (setB M o.set)):
 SK B M v' u (.slice p (s.opens.length-1) q) (Ziy s) (us.take (s.opens.length-1)):=by
 refine⟨Nat.le_trans h.hB k.size,by rw[Zakh hl ho h0];exact Zna hu h.hB,?_,by rw[Zpi,List.length_take,h.len];omega,fun j hj x hx=>?_⟩
 ·rw[Zpi,Zre ok h0,←Ztt];exact Ziu (Zsu h.opn oM) k
 ·rw[Zre ok h0]at hx;have hk':j<us.length:=by simp at hj;omega
  rw[List.getElem?_take]at hx;split at hx
  ·obtain⟨a1,a2⟩:=h.each j hk' x hx;simp only[List.getElem_take];refine⟨Ziu a1 k,fun b hb e=>?_⟩;have b1:=(hu.lt b hb).1;have b2:=(a1.lt b e).2;omega
  ·simp at hx
theorem SK.last{g q:Nat}(h:SK B M v sv (.slice (some ⟨g,0,none⟩) s.opens.length q) s us)(h0:0<s.opens.length):∃ (X:List Nat) (u:Value),(opR s)[s.opens.length-1]? =some ⟨if Zim s then 36 else 34,Zlf s,X⟩/\v.ownsRow B 4 1 u M (setB M X)/\v.cell? ⟨g,(s.opens.length-1)*3,none⟩=some (.int .i64 (if Zim s then 36 else 34))/\v.cell? ⟨g,(s.opens.length-1)*3+1,none⟩=some (.int .i64 (Zlf s))/\v.cell? ⟨g,(s.opens.length-1)*3+2,none⟩=some u:=by
 obtain⟨X,hX⟩:=Zany h0;have hu:s.opens.length-1<us.length:=by rw[h.len];omega
 obtain⟨a1,a2⟩:=h.each _ hu _ hX;have cl:=fun(j:Nat) (hj:j<3)=>Zaey j hj hX (List.getElem?_eq_getElem hu);have ca:=fun(j:Nat) (hj:j<3)=>h.opn.cellAt ((s.opens.length-1)*3+j) oM;refine⟨X,_,hX,a1,?_,?_,?_⟩
 ·have:=ca 0 dE;rw[cl 0 dE]at this;exact this
 ·have:=ca 1 dE;rw[cl 1 dE]at this;exact this
 ·have:=ca 2 dE;rw[cl 2 dE]at this;exact this
theorem SK.start(w:World)(B:Nat)(h:B<=w.heap.size){sv:Value}(hs:w.ownsRow B 4 1 sv M (setB M [])):SK B M w sv (.slice none 0 0) ⟨[],[]⟩ []:=
 ⟨h,hs,World.ownsRow_nil _ _ _ 3,rfl,fun k hk=>by simp at hk⟩
end
end Go.Proofs.YtbinohkcolcbfaaGreat
namespace Go.Proofs.YtbinohkcolcbfaaGreat
open Go.RowKit Go.Proofs.Tryz
set_option linter.unusedVariables false
set_option linter.unusedSimpArgs false
set_option maxRecDepth 100000
set_option maxHeartbeats 16000000
theorem Zaqf(M:Nat)(X:List Nat):∀u∈setB M X,u.oneCell'=true:=by
 intro u hu;unfold setB at hu;simp only[List.mem_map]at hu;obtain⟨j,-,rfl⟩:=hu;rfl
theorem Zakc{t e:TypeId}{z:Value}{sz by':Nat}(ht:prog.underlying t=some (.slice e))(hi:(prog.info? e).map (fun i=>(i.zero,i.size,i.bytes))=some (some z,sz,by'))(p:Option Addr)(n c:Nat)(x:Option Addr)(d:Nat)(hn:n<=c)(ty:TypeId)(w:World):(Builtin.append_ #[t,t] ty #[.slice p n c,.slice x 0 d]).run prog w=.ok (.slice p n c) w:=by
 obtain⟨i0,hi0,hz0,hz1,hz2⟩:=info_parts hi;have h1:¬c<n:=oM;cases x with
 |none=>cases p<;>simp[Builtin.append_,run_underlying ht,sizeOf,typeInfo,hi0,Builtin.lenOf,Builtin.firstCells,storeCells,loadCells,loadCellsFrom,hn,h1]
 |some a=>cases p<;>simp[Builtin.append_,run_underlying ht,sizeOf,typeInfo,hi0,Builtin.lenOf,Builtin.firstCells,storeCells,loadCells,loadCellsFrom,hn,h1]
theorem Zuo{B M:Nat}{X:List Nat}(v:Value)(hM:M<=16384)(w:World)(h:w.ownsRow B 4 1 v M (setB M X)):
 Calls prog 38 #[v] w fun e w'=>∃u,e=.returned u/\w'.ownsRow w.heap.size 4 1 u M (setB M X)/\Below w.heap.size w w':=by
 obtain⟨p,q,rfl⟩:=Zjl h;have key:∃u w',(Builtin.append_ #[100,100] 100 #[.slice none 0 0,.slice p M q]).run prog w=.ok u w'/\w'.ownsRow w.heap.size 4 1 u M (setB M X)/\Below w.heap.size w w':=by
  by_cases h0:M=0
  ·subst h0;refine⟨.slice none 0 0,w,Zakc underlying100 Zqz none 0 0 p q (Nat.le_refl _) _ _,?_,bel0 _⟩;have:setB 0 X=[]:=by simp[setB]
   rw[this];exact World.ownsRow_nil _ _ _ 1
  ·obtain⟨g,c,e,hl,hg⟩:=h.form oM;simp only[Value.slice.injEq]at e;obtain⟨rfl,-,rfl⟩:=e;obtain⟨i0,hi0,hz0,hz1,hz2⟩:=info_parts Zqz;obtain⟨g',cap,w',hr,hown,hgrow,hat,hlt⟩:=run_append_lies (P:=prog) w 100 100 w.heap.size 4 i0 _ 1 1 underlying100 hi0 hz0 hz1 hz2 rfl dE (.slice none 0 0) 0 [] (World.ownsRow_nil _ _ _ 1) ⟨g,0,none⟩ M q (setB M X) Zhn
    (fun j u hu=>by
     have hj:j<M:=by have:=(List.getElem?_eq_some_iff.1 hu).1;rw[Zvb]at this;exact this
     have e:=h.cellAt j oM;have e2:(⟨g,0,none⟩:Addr).add j=⟨g,j,none⟩:=by simp[Addr.add];omega
     rw[e2,e,hu]) (Zaqf M X) oM mL oM (Nat.le_refl _) _ rfl
   simp only[Nat.zero_add,List.nil_append]at hr hown;exact⟨_,w',hr,hown,(Below.refl _ _).grown hgrow (Nat.le_refl _) (fun k e=>by simp[Value.ownBlock]at e)⟩
 obtain⟨u,w',hr,ho,hb⟩:=key;have HR:Hid ((Builtin.append_ #[100,100] 100 #[.slice none 0 0,.slice p M q]).run prog w=.ok u w'):=hr;have HO:Hid (w'.ownsRow w.heap.size 4 1 u M (setB M X)/\Below w.heap.size w w'):=⟨ho,hb⟩
 clear h hr ho hb;go_enter func38,ntmps38;go_wp2_with(at_builtin;refine Zit rF _ _ _ rF _ _ _ rF rF HR.out ?_);go_ret;exact⟨u,rfl,HO.out.1,HO.out.2⟩
theorem Zqa{P:Program}{w w':World}{o:Oper}{a:Act}{K:Act->World->Prop}{Q:Exit->Act->World->Prop}(s x:Operand)(t:TypeId)
 (ho:o.op=.call {callee:=.builtin .append,args:=#[s,x],argTypes:=#[t,t]}) (v v2 v':Value) (hs:a.eval s=v) (hx:a.eval x=v2) (hr:(Builtin.append_ #[t,t] o.type #[v,v2]).run P w=.ok v' w')
 (h:K (a.put o.dst v') w') (y':Bool) (hy:y'=true):if y'=true then Oper.wp P o a w K Q else K (a.put o.dst undef) w:=by
 rw[if_pos hy];exact Zei
end Go.Proofs.YtbinohkcolcbfaaGreat
