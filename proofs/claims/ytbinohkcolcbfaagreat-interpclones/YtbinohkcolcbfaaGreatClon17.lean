import Derived.Test.YtbinohkcolcbfaaGreatClon1
import Derived.Test.YtbinohkcolcbfaaGreatClon14
import Derived.Test.YtbinohkcolcbfaaGreatClon15
import Derived.Test.YtbinohkcolcbfaaGreatClon9
import Derived.Test.YtbinohkcolcbfaaGreatClon16
namespace Go.Proofs.YtbinohkcolcbfaaGreat
open Go.RowKit Go.Proofs.Tryz
set_option linter.all false
set_option maxRecDepth 100000
set_option maxHeartbeats 16000000
structure Ea(T:Nat->Prop)(w:World)(ib io:Nat)(i:Au):Prop where
 not:¬T ib
 lt:ib<w.heap.size
 cells:Aa w ib io (DP i)
theorem Ea.un{T U:Nat->Prop}{w w':World}{ib io:Nat}{i:Au}(h:Ea T w ib io i)(q:Un U w w')(hu:∀b,b<w.heap.size->U b->T b):Ea T w' ib io i:=
 ⟨h.not,Nat.lt_of_lt_of_le h.lt q.size,h.cells.of_block (q.block _ h.lt fun e=>h.not (hu _ h.lt e))⟩
theorem Ea.below{T:Nat->Prop}{w w':World}{ib io:Nat}{i:Au}(h:Ea T w ib io i)(q:Below w.heap.size w w'):Ea T w' ib io i:=h.un (U:=fun _=>False) (Un.of q) (fun _ _ e=>e.elim)
theorem FX.sub{T:Nat->Prop}{E E':Nat}{a:BY}{c:Cd}{G P:List (List Int)}{w:World}(x:FX T E E' a c G P w):∀b,J0 a E E' b->AB T E E' b:=by
 rintro b (e|e)
 ·exact .inl (e▸x.hS)
 ·exact .inr e
def OI(o:Nat->Nat->Int)(p k n:Nat)(l:List Int)(j:Nat):Nat->Nat->Int:=fun q i=>if q=p/\i%k=n/\i/k<j then B7 l (i/k)else o q i
theorem Zd(o:Nat->Nat->Int)(p k n:Nat)(l:List Int):OI o p k n l 0=o:=by
 funext q i;unfold OI;rw[if_neg (fun h=>Nat.not_lt_zero _ h.2.2)]
theorem U1(o:Nat->Nat->Int)(p k n:Nat)(l:List Int):OI o p k n l l.length=Lw o p k n l:=rfl
theorem Rz(o:Nat->Nat->Int)(p k n:Nat)(l:List Int)(j:Nat)(hn:n<k):(fun q i=>if q=p/\i=k*j+n then B7 l j else OI o p k n l j q i)=OI o p k n l (j+1):=by
 funext q i;unfold OI;by_cases hq:q=p
 ·by_cases hi:i=k*j+n
  ·have h1:i%k=n:=by rw[hi,Nat.mul_add_mod,Nat.mod_eq_of_lt hn]
   have h2:i/k=j:=by
    rw[hi,Nat.mul_add_div oM,Nat.div_eq_of_lt hn,Nat.add_zero]
   rw[if_pos ⟨hq,hi⟩,if_pos ⟨hq,h1,oM⟩,h2]
  ·rw[if_neg (fun h=>hi h.2)];by_cases h1:i%k=n
   ·have h3:i=k*(i/k)+i%k:=(Nat.div_add_mod i k).symm;have h2:i/k≠j:=fun e=>hi (by rw[e,h1]at h3;exact h3);by_cases h4:i/k<j
    ·rw[if_pos ⟨hq,h1,h4⟩,if_pos ⟨hq,h1,oM⟩]
    ·rw[if_neg (fun h=>h4 h.2.2),if_neg (fun h=>by have:=h.2.2;omega)]
   ·rw[if_neg (fun h=>h1 h.2.1),if_neg (fun h=>h1 h.2.1)]
 ·rw[if_neg (fun h=>hq h.1),if_neg (fun h=>hq h.1),if_neg (fun h=>hq h.1)]
theorem Xx{T:Nat->Prop}{E E':Nat}{a:BY}{c:Cd}{G P:List (List Int)}{X:Nat->Value}{M:Nat}{m:Nat->Option Value}{f:Fr}(w:World)(x:FX T E E' a c G P w)(h:FV T E E' a c w X M m f)(hg:Good c)(ok:EC c f)(ib io:Nat)(i:Au)(hi:Ea (AB T E E') w ib io i)(hp:F7 c i.a i.n)(hl:(f.vecs i.a.toNat).length=lenOf c (A8 c.regs i.a).par):
 Calls prog 73 #[.pointer (some ⟨a.FR,0,none⟩),.pointer (some ⟨ib,io,none⟩)] w fun e w'=>e=.returned (.tuple #[])/\Ab T E E' a c G P M {f with outs:=Lw f.outs (A8 c.regs i.a).par.toNat (Ah c (A8 c.regs i.a).par) i.n.toNat (f.vecs i.a.toNat)} w w':=by
 have i2:=hi.cells.at 2 rfl;have i5:=hi.cells.at 5 rfl;obtain⟨op,D,A,B,Ec,nn,bt⟩:=i;simp only at i2 i5 hp hl ⊢;obtain⟨A,rfl⟩:∃j:Nat,A=(j:Int):=⟨A.toNat,by have:=hp.r0;omega⟩
 have hA:A<c.regs.length:=by have:=hp.r1;omega
 have hk:=hp.kind;have hn0:=hp.n0;rw[Bh hA]at hk hn0 hl ⊢;have hpar:=C1.1 (hg.type (List.getElem_mem hA) hk);obtain⟨b1,o1,m1,hv1,-,r1⟩:=x.code.reg hA;obtain⟨pp,hpp⟩:∃pp,c.regs[A].par=pp:=⟨_,rfl⟩
 rw[hpp]at hpar r1 hn0 hl ⊢;obtain⟨p,rfl⟩:∃j:Nat,pp=(j:Int):=⟨pp.toNat,oM⟩
 have hps:p<c.sign.length:=oM;obtain⟨e1,e2,e3,e4,e5⟩:=Ev hg hps;have hkk:nn=0\/(nn=1/\Ah c p=2):=hn0.imp id fun⟨h1,h2⟩=>⟨h1,by unfold Ah;rw[if_pos h2]⟩
 obtain⟨n,rfl⟩:∃j:Nat,nn=(j:Int):=⟨nn.toNat,oM⟩
 rw[Int.toNat_natCast]at hl ⊢;rw[Int.toNat_natCast,Int.toNat_natCast];have f0:=x.f0;have c1:=x.code.c1;rw[hv1]at c1;have KA:Hid (∀v,Below w.heap.size w v->Calls prog 117 #[.pointer (some ⟨a.FR,0,none⟩),.int .i64 (p:Int)] v fun e w'=>e=.returned (.int .i64 (Ah c p:Nat))/\w'=v):=fun v hv=>Js v (x.below hv) hg p hps;have HKn:Hid (n<Ah c p):=by show n<Ah c p;omega
 have HNum:Hid (AZ c p=Ah c p*(f.vecs A).length):=by rw[hl];exact e1
 have hLn:(f.vecs A).length<=4096:=ok.vecsL A;obtain⟨q1,q2,hmv,-,hlk⟩:=h.look hA hg.regsL;have lk:=hlk w.drew.drew (bel (A4 _) (A4 _));have HMV:Hid ((m A).getD (.slice none 0 0)=.slice q1 (f.vecs A).length q2):=hmv;have f4:=x.f4;have hNs:=hg.signL;have hN:=hg.regsL;have HX:Hid (FX T E E' a c G P w):=x;have HV:Hid (FV T E E' a c w X M m f):=h;have HI:Hid (Ea (AB T E E') w ib io ⟨op,D,(A:Int),B,Ec,(n:Int),bt⟩):=hi;have HPS:Hid (p<c.sign.length):=hps;have HA9:Hid (A<c.regs.length):=hA;have hKK:Ah c (p:Int)<=2:=oM;obtain⟨Kk,hKk⟩:∃Kk,Ah c (p:Int)=Kk:=⟨_,rfl⟩
 obtain⟨L,hL⟩:∃L,(f.vecs A).length=L:=⟨_,rfl⟩
 obtain⟨N,hN'⟩:∃N,c.regs.length=N:=⟨_,rfl⟩
 obtain⟨Ns,hNs'⟩:∃Ns,c.sign.length=Ns:=⟨_,rfl⟩
 obtain⟨FR,hFR⟩:∃FR,a.FR=FR:=⟨_,rfl⟩
 obtain⟨MB,hMB⟩:∃MB,a.MB=MB:=⟨_,rfl⟩
 obtain⟨C,hC⟩:∃C,a.C=C:=⟨_,rfl⟩
 simp only[hKk,hL,hN',hNs',hFR,hMB,hC]at KA HKn HNum hLn lk HMV f4 hNs hN hKK f0 c1 hA hps ⊢;have HLL:Hid ((f.vecs A).length=L):=hL;have HNN:Hid (c.regs.length=N):=hN';have HNS:Hid (c.sign.length=Ns):=hNs';have HFR:Hid (a.FR=FR):=hFR;clear x h hg ok hi hp hl hk hn0 hpar hv1 e1 e2 e3 e4 e5 hkk hmv hlk hKk hL hN' hNs' hFR hMB hC hpp;go_enter func73,ntmps73;go_wp2;refine rG (fun v=>v.cell? ⟨FR,0,none⟩=some (.pointer (some ⟨C,0,none⟩))/\v.cell? ⟨C,1,none⟩=some (.slice (some ⟨b1,o1,none⟩) N m1)/\v.cell? ⟨ib,io+2,none⟩=some (.int .i64 (A:Int))/\v.cell? ⟨b1,o1+A*2+1,none⟩=some (.int .i64 (p:Int))) fun hHeld=>?_;refine Tf 0 1 2 3 4 5 ?_;refine Tf 6 7 8 9 10 11 ?_;refine Tc 12 13 14 ?_;refine wpAnyH_done kR ?_ _;go_wp2_with(go_at_call 117;refine(KA.out _ (A4 _)).mono ?_;rintro e w1 ⟨rfl,hw'⟩;obtain rfl:=hw'.symm);refine rG (fun v=>v.cell? ⟨FR,4,none⟩=some (.map (some MB))/\v.cell? ⟨ib,io+2,none⟩=some (.int .i64 (A:Int))) fun hHeld=>?_;refine Tf 0 1 2 3 4 5 ?_;refine Tc 6 7 10 ?_;clear hHeld;refine Ao 8 fun K hK=>?_;go_simp;refine An hK fun hHeld=>?_;clear hK K;refine AI 9 ?_;refine wpAnyH_done kR ?_ _;go_wp2
 go_loopw [35] (fun iv wr=>∃j:Nat,j<=L/\iv=.int .i64 j/\Hid (FX T E E' a c G P wr/\FV T E E' a c wr X M m {f with outs:=OI f.outs p Kk n (f.vecs A) j}/\Un (J0 a E E') w wr)) (fun iv _=>L-(intOf iv).toNat)
 case atStart=>
  have hb:=bel (A4 w) (A4 _);refine⟨0,Nat.zero_le _,rfl,HX.out.below hb,?_,Un.of hb⟩;rw[Zd];exact HV.out.below hb
 case round=>
  obtain⟨j,hj,rfl,HR⟩:=hrel;by_cases hlt:j<L
  ·have xr:=HR.out.1;have hr:=HR.out.2.1;have hP:=hr.vecs A HA9.out;rw[HMV.out]at hP;obtain⟨lb,lo,cc,hls,hln,hlc⟩:=hP.cells (by show 0<(f.vecs A).length;rw[HLL.out];omega);simp only[Value.slice.injEq]at hls;obtain⟨rfl,-,-⟩:=hls;have x1:wr.cell? ⟨lb,lo+j,none⟩=some (.int .u32 (B7 (f.vecs A) j)):=hlc j (by show j<(f.vecs A).length;rw[HLL.out];exact hlt);have ir:=HI.out.un HR.out.2.2 (fun b _ e=>HX.out.sub b e);have i5:=ir.cells.at 5 rfl;have f7:=xr.f7;have u1:=xr.upd.cell HPS.out;have hNum:=HNum.out;have hKj:Kk*j+n<Kk*L:=by
    have h1:=HKn.out;have h2:Kk*(j+1)<=Kk*L:=Nat.mul_le_mul_left _ oM;rw[Nat.mul_add,Nat.mul_one]at h2;omega
   have hKL:Kk*L<=8192:=Nat.le_trans (Nat.mul_le_mul hKK hLn) dE;obtain⟨I0,hI0⟩:∃I0,Kk*j=I0:=⟨_,rfl⟩
   obtain⟨I,hI⟩:∃I,I0+n=I:=⟨_,rfl⟩
   have w1:IntKind.i64.wrap ((Kk:Int)*(j:Int))=(I0:Int):=by
    have:((Kk:Int)*(j:Int))=((Kk*j:Nat):Int):=sM;rw[this,hI0,IntKind.wrap_i64];omega
   have w2:IntKind.i64.wrap ((I0:Int)+(n:Int))=(I:Int):=by rw[IntKind.wrap_i64];omega
   obtain⟨NP,hNP⟩:∃NP,AZ c p=NP:=⟨_,rfl⟩
   rw[hNP]at u1 hNum;have hIL:I<NP:=by rw[hNum];omega
   have hIc:(I:Int)<(NP:Int):=oM;have hI9:(0:Int)<=(I:Int):=oM;have y0:=(hr.outs p HPS.out).cell (i:=I) (by rw[hNP];exact hIL);have y1:=(hr.outs p HPS.out).frozen I;obtain⟨d1,d2,d3,d4,d5⟩:=xr.d2 p HPS.out;have d6:a.ub p≠ib:=fun e=>ir.not (by rw[←e];exact .inr (xr.iub p HPS.out));have d7:a.ub p≠lb:=fun e=>hln (by rw[←e];exact .inr (xr.iub p HPS.out));obtain⟨UP,hUP⟩:∃UP,a.ub p=UP:=⟨_,rfl⟩
   obtain⟨UB,hUB⟩:∃UB,a.UB=UB:=⟨_,rfl⟩
   rw[HFR.out,hUB,HNS.out]at f7;rw[hUB,hUP]at u1;rw[hUP]at y0 y1 d1 d2 d3 d4 d5 d6 d7;rw[HFR.out]at d1;rw[hUB]at d5;have HUP:Hid (a.ub p=UP):=hUP;have HI2:Hid (Kk*j+n=I):=by rw[←hI,←hI0];exact rfl
   obtain⟨y,hy⟩:∃y,B7 (f.vecs A) j=y:=⟨_,rfl⟩
   rw[hy]at x1;have HY:Hid (B7 (f.vecs A) j=y):=hy;clear hI0 hI hKj hKL hUP hUB hNum hNP xr hr ir hP hlc hy d2 d3 d4 hln;go_wp2;refine rG (fun v=>v.cell? ⟨FR,7,none⟩=some (.slice (some ⟨UB,0,none⟩) Ns Ns)/\v.cell? ⟨UB,p,none⟩=some (.slice (some ⟨UP,0,none⟩) NP NP)/\v.cell? ⟨ib,io+5,none⟩=some (.int .i64 (n:Int))) fun hHeld=>?_;refine Tf 0 1 2 3 4 5 ?_;refine Tf 6 7 8 9 10 11 ?_;refine Tc 12 13 14 ?_;refine Tb 15 16 ?_;clear hHeld;refine Ao 17 fun K hK=>?_;go_simp;refine An hK fun hHeld=>?_;clear hK K;refine wpAnyH_done kR ?_ _;go_wp2;go_roundw
   case rel=>
    refine⟨j+1,oM,gN,?_⟩;obtain⟨h1,h2,h3⟩:=FV.out HR.out.1 HR.out.2.1 HPS.out (j:=I) y rfl;rw[HUP.out]at h1 h2 h3;have hd:=A4 (wr.setCell ⟨UP,I,none⟩ (.int .u32 y));have e9:=Rz f.outs p Kk n (f.vecs A) j HKn.out;rw[HI2.out,HY.out]at e9;rw[←e9];exact⟨h1.below hd,h2.below hd,(HR.out.2.2.trans (h3.mono fun b e=>.inr (by rw[e,←HUP.out];exact HR.out.1.iub p HPS.out))).on hd⟩
   case measure=>simp[intOf];omega
  ·have hjL:j=L:=oM;subst hjL;go_wp2
   go_end0
   refine⟨rfl,HR.out.1,⟨X,M,m,oM,?_⟩,HR.out.2.2⟩;have:=HR.out.2.1;rw[←HLL.out,U1]at this;exact this
theorem XM(v0 v1 v2 v3:Value)(c:Cd)(co:B0 c)(hT:Am c=true)(op D A B E n bt La Lb Lc Ld Le:Int)(a b cc d e:UInt8)
 (HROW:Hid (∀w,Calls prog 67 #[.int .i64 op] w fun x w'=>x=.returned (.tuple #[.string ⟨#[a,b,cc,d,e]⟩,.bool true])/\w'=w))
 (HCAN:Hid (∀w,Calls prog 63 #[.int .u32 bt] w fun e w'=>e=.returned (.bool true)/\Below w.heap.size w w'))
 (ix0:∀w,(Instr.index 9 (.string ⟨#[a,b,cc,d,e]⟩) (.int .i64 0)).run prog w=.ok (.int .u8 La) w)
 (ix1:∀w,(Instr.index 9 (.string ⟨#[a,b,cc,d,e]⟩) (.int .i64 1)).run prog w=.ok (.int .u8 Lb) w)
 (ix2:∀w,(Instr.index 9 (.string ⟨#[a,b,cc,d,e]⟩) (.int .i64 2)).run prog w=.ok (.int .u8 Lc) w)
 (ix3:∀w,(Instr.index 9 (.string ⟨#[a,b,cc,d,e]⟩) (.int .i64 3)).run prog w=.ok (.int .u8 Ld) w)
 (TG:∀w,(Instr.index 9 (.string ⟨#[a,b,cc,d,e]⟩) (.int .i64 4)).run prog w=.ok (.int .u8 Le) w)
 (oa:BS La) (ob:BS Lb) (oc:BS Lc) (od:BS Ld) (oT:Le=112->La=118\/(La=45/\Lb=118)) (o1:(op==1)=false) (o2:(op != 1)=true) (o3:(bt==0)=true) (o4:(bt != 0)=false) (hz0:La≠45) (oe:Le=45\/Le=105\/Le=112\/Le=115)
 (w:World) (hv:Di w v0 v1 v2 v3 c):
 Calls prog 64 #[.agg #[v0,v1,v2,v3],.agg #[.int .i64 op,.int .i64 D,.int .i64 A,.int .i64 B,.int .i64 E,.int .i64 n,.int .u32 bt]] w fun e w'=>e=.returned (.bool (Aj c.regs La D ⟨0,0⟩&&(Aj c.regs Lb A (dR c.regs La D)&&(Aj c.regs Lc B (dR c.regs La D)&&(Aj c.regs Ld E (dR c.regs La D)&&CQ c Le n (tR c.regs La Lb D A))))))/\Below w.heap.size w w':=by
 have KO:∀ (l n:Int) (d:Ty),BS l->∀v,Below w.heap.size w v->Calls prog 104 #[.agg #[v0,v1,v2,v3],.int .u8 l,.int .i64 n,.agg #[.int .i64 d.kind,.int .i64 d.par]] v fun e w'=>e=.returned (.bool (Aj c.regs l n d))/\Below v.heap.size v w':=fun l n d hl v hb=>ER v0 v1 v2 v3 c co l n d hl v (hv.below hb);have HT0:Hid (TW w v0 v1 v2 v3 (w.heap.size+1) op D A B E n bt ((w.alloc (.cells #[v0,v1,v2,v3] 27)).alloc (.cells #[.int .i64 op,.int .i64 D,.int .i64 A,.int .i64 B,.int .i64 E,.int .i64 n,.int .u32 bt] 45))):=TW.start w v0 v1 v2 v3 op D A B E n bt;obtain⟨p0,q0,rfl,-⟩:=id hv.sign;obtain⟨p1,q1,rfl,hr1⟩:=id hv.regs;obtain⟨p2,q2,rfl,-⟩:=id hv.slots;have hREG:∀x:Int,Ak x c.regs.length=true->∃ (k lb lo:Nat),x=(k:Int)/\k<c.regs.length/\p1=some ⟨lb,lo,none⟩/\w.cell? ⟨lb,lo+k*2,none⟩=some (.int .i64 (A8 c.regs x).kind)/\w.cell? ⟨lb,lo+k*2+1,none⟩=some (.int .i64 (A8 c.regs x).par):=by
  exact Zcl
 have HREG:Hid (∀x:Int,Ak x c.regs.length=true->∃ (k lb lo:Nat),x=(k:Int)/\k<c.regs.length/\p1=some ⟨lb,lo,none⟩/\w.cell? ⟨lb,lo+k*2,none⟩=some (.int .i64 (A8 c.regs x).kind)/\w.cell? ⟨lb,lo+k*2+1,none⟩=some (.int .i64 (A8 c.regs x).par)):=hREG;have HCV:Hid (Di w (.slice p0 c.sign.length q0) (.slice p1 c.regs.length q1) (.slice p2 c.slots.length q2) v3 c):=hv;have HCO:Hid (B0 c):=co;have hB0:=co.signL;have hB1:=co.regsL;have hB2:=co.slotsL;have hTy:∀x:Int,Ak x c.regs.length=true->FM 118 (A8 c.regs x) ⟨0,0⟩=true->Ak (A8 c.regs x).par c.sign.length=true:=fun x hx hk=>by
  exact Zdc
 obtain⟨n0,hn0⟩:∃n0,c.sign.length=n0:=⟨_,rfl⟩
 obtain⟨n1,hn1⟩:∃n1,c.regs.length=n1:=⟨_,rfl⟩
 obtain⟨n2,hn2⟩:∃n2,c.slots.length=n2:=⟨_,rfl⟩
 have HN0:Hid (c.sign.length=n0):=hn0;have HN1:Hid (c.regs.length=n1):=hn1;have HN2:Hid (c.slots.length=n2):=hn2;rw[hn0]at hB0;rw[hn1]at hB1;rw[hn2]at hB2;rw[hn0,hn1,hn2]at HCV KO HT0 ⊢;clear hREG hv hr1 hn0 hn1 hn2 co;have HTY:Hid (∀x:Int,Ak x c.regs.length=true->FM 118 (A8 c.regs x) ⟨0,0⟩=true->Ak (A8 c.regs x).par c.sign.length=true):=hTy;clear hTy hT;have hKO0:=fun d=>KO La D d oa;have hKOA:=fun d=>KO Lb A d ob;have hKOB:=fun d=>KO Lc B d oc;have hKOC:=fun d=>KO Ld E d od;clear KO;have hPP0:Le=112->La=118\/(La=45/\Lb=118):=oT;clear oT oc od;obtain⟨RES,hRES⟩:∃R,(Aj c.regs La D ⟨0,0⟩&&(Aj c.regs Lb A (dR c.regs La D)&&(Aj c.regs Lc B (dR c.regs La D)&&(Aj c.regs Ld E (dR c.regs La D)&&CQ c Le n (tR c.regs La Lb D A)))))=R:=⟨_,rfl⟩
 rw[hRES];have hz1:(La==45)=false:=by simpa using hz0
 have hz2:(La != 45)=true:=by simpa using hz0
 have hPL:Aj c.regs La D ⟨0,0⟩=true->Ak D c.regs.length=true:=fun h=>by
  rw[BF hz0]at h;simp only[Bool.and_eq_true]at h;exact h.1
 have hPV:Aj c.regs La D ⟨0,0⟩=true->La=118->FM 118 (A8 c.regs D) ⟨0,0⟩=true:=fun h hl=>by
  exact Zeu
 have hdR:dR c.regs La D=A8 c.regs D:=if_neg hz0;have htR:tR c.regs La Lb D A=A8 c.regs D:=by unfold tR;rw[if_neg (fun e=>hz0 e.1),hdR]
 rw[htR,hdR]at hRES;have HPP0:Hid (Aj c.regs La D ⟨0,0⟩=true->Le=112->Ak (A8 c.regs D).par c.sign.length=true):=fun h e=>by
  rcases hPP0 e with h1|⟨h1,-⟩
  ·exact HTY.out _ (hPL h) (hPV h h1)
  ·exact absurd h1 hz0
 obtain⟨X0,hX0⟩:∃X,Aj c.regs La D ⟨0,0⟩=X:=⟨_,rfl⟩
 have HK0:Hid _:=hKO0 ⟨0,0⟩;rw[hX0]at hRES hPL HPP0 HK0;simp only at HK0;clear hX0 hPV hdR htR hKO0 hPP0 HTY;cases X0
 ·exact Zal
 obtain⟨kd,lb,lo,rfl,hkd,rfl,ya0,ya1⟩:=HREG.out D (hPL rfl);obtain⟨⟨dk,dp⟩,htt⟩:∃t:Ty,A8 c.regs (kd:Int)=t:=⟨_,rfl⟩
 rw[htt]at HPP0 ya0 ya1 hRES;obtain⟨XA,hXA⟩:∃X,Aj c.regs Lb A ⟨dk,dp⟩=X:=⟨_,rfl⟩
 obtain⟨XB,hXB⟩:∃X,Aj c.regs Lc B ⟨dk,dp⟩=X:=⟨_,rfl⟩
 obtain⟨XC,hXC⟩:∃X,Aj c.regs Ld E ⟨dk,dp⟩=X:=⟨_,rfl⟩
 rw[hXA,hXB,hXC]at hRES;have HKA:Hid _:=hKOA ⟨dk,dp⟩;have HKB:Hid _:=hKOB ⟨dk,dp⟩;have HKC:Hid _:=hKOC ⟨dk,dp⟩;rw[hXA]at HKA;rw[hXB]at HKB;rw[hXC]at HKC;simp only at HKA HKB HKC;have HRES:Hid ((XA&&(XB&&(XC&&CQ c Le n ⟨dk,dp⟩)))=RES):=hRES;have HPP:Hid (Le=112->Ak dp c.sign.length=true):=HPP0.out rfl;have ka0:(0:Int)<=(kd:Int):=oM;have ka1:(kd:Int)<(n1:Int):=by have:=HN1.out;omega
 clear hKOA hKOB hKOC hXA hXB hXC hRES HPP0 hPL htt;go_enter func64,ntmps64;go_wp2_with(first
  |(go_at_call 67;refine(HROW.out _).mono ?_;rintro e w1 ⟨rfl,rfl⟩)
  |(go_at_call 63;refine(HCAN.out _).mono ?_;rintro e w2 ⟨rfl,hb2⟩;have HT2:Hid (TW w (.slice p0 n0 q0) (.slice (some ⟨lb,lo,none⟩) n1 q1) (.slice p2 n2 q2) v3 (w.heap.size+1) op (kd:Int) A B E n bt (w2.alloc (.cells #[.int .i64 0,.int .i64 0] 69))):=(HT0.out.next hb2).next (A0 _ _);obtain⟨b1,c0,c1,c2,c3,i0,i1,i2,i3,i4,i5,i6⟩:=HT2.out;have HS2:Hid (w.heap.size+1<w2.heap.size):=A3 (HT0.out.next hb2).i0;clear hb2))
 have HTD0:Hid _:=HT2.out;have HD0:Hid ((w2.alloc (.cells #[.int .i64 0,.int .i64 0] 69)).cell? ⟨w2.heap.size,0,none⟩=some (.int .i64 0)/\(w2.alloc (.cells #[.int .i64 0,.int .i64 0] 69)).cell? ⟨w2.heap.size,1,none⟩=some (.int .i64 0)/\(w2.alloc (.cells #[.int .i64 0,.int .i64 0] 69)).frozen? ⟨w2.heap.size,0,none⟩=false/\(w2.alloc (.cells #[.int .i64 0,.int .i64 0] 69)).frozen? ⟨w2.heap.size,1,none⟩=false):=⟨sG,sG,sG,sG⟩
 have HBZ9:Hid (lb<w.heap.size):=A3 ya0;have HZ:Hid (w2.heap.size≠w.heap.size+1/\w.heap.size<w2.heap.size/\lb≠w2.heap.size):=by
  refine⟨?_,?_,?_⟩
  all_goals(have h3:=HS2.out;have h4:=HBZ9.out;omega)
 obtain⟨Z,hZ⟩:∃Z,w2.heap.size=Z:=⟨_,rfl⟩
 obtain⟨Wa,hWa⟩:∃W,w2.alloc (.cells #[.int .i64 0,.int .i64 0] 69)=W:=⟨_,rfl⟩
 rw[hZ]at HD0 HZ;rw[hWa]at HD0 HTD0 ⊢;try rw[hZ]
 clear hZ hWa HT2 b1 c0 c1 c2 c3 i0 i1 i2 i3 i4 i5 i6 HT0 HROW HCAN HS2;have HCD0:Hid (∀v,Below Wa.heap.size Wa v->v.cell? ⟨w.heap.size,0,none⟩=some (.slice p0 n0 q0)/\v.cell? ⟨w.heap.size,1,none⟩=some (.slice (some ⟨lb,lo,none⟩) n1 q1)/\v.cell? ⟨w.heap.size,2,none⟩=some (.slice p2 n2 q2)/\v.cell? ⟨w.heap.size,3,none⟩=some v3/\v.cell? ⟨w.heap.size+1,1,none⟩=some (.int .i64 (kd:Int))/\v.cell? ⟨w.heap.size+1,2,none⟩=some (.int .i64 A)/\v.cell? ⟨w.heap.size+1,3,none⟩=some (.int .i64 B)/\v.cell? ⟨w.heap.size+1,4,none⟩=some (.int .i64 E)/\v.cell? ⟨w.heap.size+1,5,none⟩=some (.int .i64 n)/\v.cell? ⟨Z,0,none⟩=some (.int .i64 0)/\v.cell? ⟨Z,1,none⟩=some (.int .i64 0)):=fun v hb=>⟨kc hb HTD0.out.c0,kc hb HTD0.out.c1,kc hb HTD0.out.c2,kc hb HTD0.out.c3,kc hb HTD0.out.i1,kc hb HTD0.out.i2,kc hb HTD0.out.i3,kc hb HTD0.out.i4,kc hb HTD0.out.i5,kc hb HD0.out.1,kc hb HD0.out.2.1⟩
 obtain⟨c0,c1,c2,c3,i1,i2,i3,i4,i5,d0,d1⟩:=HCD0.out Wa (B8 _);have HYA:Hid (∀v,Below Wa.heap.size Wa v->v.cell? ⟨lb,lo+kd*2,none⟩=some (.int .i64 dk)/\v.cell? ⟨lb,lo+kd*2+1,none⟩=some (.int .i64 dp)/\v.frozen? ⟨Z,0,none⟩=false/\v.frozen? ⟨Z,1,none⟩=false):=fun v hb=>⟨kc (bel HTD0.out.bel hb) ya0,kc (bel HTD0.out.bel hb) ya1,kf hb HD0.out.1 HD0.out.2.2.1,kf hb HD0.out.2.1 HD0.out.2.2.2⟩
 refine rG (fun v=>v.cell? ⟨w.heap.size,0,none⟩=some (.slice p0 n0 q0)/\v.cell? ⟨w.heap.size,1,none⟩=some (.slice (some ⟨lb,lo,none⟩) n1 q1)/\v.cell? ⟨w.heap.size,2,none⟩=some (.slice p2 n2 q2)/\v.cell? ⟨w.heap.size,3,none⟩=some v3/\v.cell? ⟨w.heap.size+1,1,none⟩=some (.int .i64 (kd:Int))/\v.cell? ⟨w.heap.size+1,2,none⟩=some (.int .i64 A)/\v.cell? ⟨w.heap.size+1,3,none⟩=some (.int .i64 B)/\v.cell? ⟨w.heap.size+1,4,none⟩=some (.int .i64 E)/\v.cell? ⟨w.heap.size+1,5,none⟩=some (.int .i64 n)/\v.cell? ⟨Z,0,none⟩=some (.int .i64 0)/\v.cell? ⟨Z,1,none⟩=some (.int .i64 0)) fun hHeld=>?_;refine Tf 0 1 2 3 4 5 ?_;clear hHeld;refine Ao 6 fun K hK=>?_;go_simp;(go_at_call 104;(with_reducible refine(HK0.out _ (bel HTD0.out.bel (A5 _))).mono ?_);rintro e w9 ⟨rfl,hb9⟩;have HB9:Hid (Below Wa.heap.size Wa w9):=bel (A5 _) hb9;clear hb9;obtain⟨ya2,ya3,fz0,fz1⟩:=HYA.out w9 HB9.out;obtain⟨c0,c1,c2,c3,i1,i2,i3,i4,i5,d0,d1⟩:=HCD0.out w9 HB9.out);try(go_wp2_with fail)
 refine An hK fun hHeld=>?_;clear hK K;refine AI 7 ?_;refine wpAnyH_done kR ?_ _;obtain⟨hz5,hz6,hz7⟩:=HZ.out;go_wp2;have HD:Hid (((w9.setCell ⟨Z,0,none⟩ (.int .i64 dk)).setCell ⟨Z,1,none⟩ (.int .i64 dp)).cell? ⟨Z,0,none⟩=some (.int .i64 dk)/\((w9.setCell ⟨Z,0,none⟩ (.int .i64 dk)).setCell ⟨Z,1,none⟩ (.int .i64 dp)).cell? ⟨Z,1,none⟩=some (.int .i64 dp)):=⟨by simp[go_sem,d0,d1],by simp[go_sem,d0,d1]⟩
 have HTD:Hid _:=((HTD0.out.next HB9.out).keep (g:=Z) (o:=0) (.int .i64 dk) hz6 hz5).keep (g:=Z) (o:=1) (.int .i64 dp) hz6 hz5;obtain⟨Wd,hWd⟩:∃W,(w9.setCell ⟨Z,0,none⟩ (.int .i64 dk)).setCell ⟨Z,1,none⟩ (.int .i64 dp)=W:=⟨_,rfl⟩
 rw[hWd]at HD HTD ⊢;clear hWd c0 c1 c2 c3 i1 i2 i3 i4 i5 d0 d1 ya2 ya3 fz0 fz1 HCD0 HYA HD0 HTD0 HB9 HK0 hz5 hz6 hz7 HZ;have HCD:Hid (∀v,Below Wd.heap.size Wd v->v.cell? ⟨w.heap.size,0,none⟩=some (.slice p0 n0 q0)/\v.cell? ⟨w.heap.size,1,none⟩=some (.slice (some ⟨lb,lo,none⟩) n1 q1)/\v.cell? ⟨w.heap.size,2,none⟩=some (.slice p2 n2 q2)/\v.cell? ⟨w.heap.size,3,none⟩=some v3/\v.cell? ⟨w.heap.size+1,1,none⟩=some (.int .i64 (kd:Int))/\v.cell? ⟨w.heap.size+1,2,none⟩=some (.int .i64 A)/\v.cell? ⟨w.heap.size+1,3,none⟩=some (.int .i64 B)/\v.cell? ⟨w.heap.size+1,4,none⟩=some (.int .i64 E)/\v.cell? ⟨w.heap.size+1,5,none⟩=some (.int .i64 n)/\v.cell? ⟨Z,0,none⟩=some (.int .i64 dk)/\v.cell? ⟨Z,1,none⟩=some (.int .i64 dp)):=fun v hb=>⟨kc hb HTD.out.c0,kc hb HTD.out.c1,kc hb HTD.out.c2,kc hb HTD.out.c3,kc hb HTD.out.i1,kc hb HTD.out.i2,kc hb HTD.out.i3,kc hb HTD.out.i4,kc hb HTD.out.i5,kc hb HD.out.1,kc hb HD.out.2⟩
 obtain⟨c0,c1,c2,c3,i1,i2,i3,i4,i5,d0,d1⟩:=HCD.out Wd (B8 _);cases XA
 ·exact Zba
 cases XB
 ·have HQF:Hid (false=RES):=HRES.out;go_wp2;refine rG (fun v=>v.cell? ⟨w.heap.size,0,none⟩=some (.slice p0 n0 q0)/\v.cell? ⟨w.heap.size,1,none⟩=some (.slice (some ⟨lb,lo,none⟩) n1 q1)/\v.cell? ⟨w.heap.size,2,none⟩=some (.slice p2 n2 q2)/\v.cell? ⟨w.heap.size,3,none⟩=some v3/\v.cell? ⟨w.heap.size+1,1,none⟩=some (.int .i64 (kd:Int))/\v.cell? ⟨w.heap.size+1,2,none⟩=some (.int .i64 A)/\v.cell? ⟨w.heap.size+1,3,none⟩=some (.int .i64 B)/\v.cell? ⟨w.heap.size+1,4,none⟩=some (.int .i64 E)/\v.cell? ⟨w.heap.size+1,5,none⟩=some (.int .i64 n)/\v.cell? ⟨Z,0,none⟩=some (.int .i64 dk)/\v.cell? ⟨Z,1,none⟩=some (.int .i64 dp)) fun hHeld=>?_;exact Zav
 cases XC
 ·have HQF:Hid (false=RES):=HRES.out;go_wp2;refine rG (fun v=>v.cell? ⟨w.heap.size,0,none⟩=some (.slice p0 n0 q0)/\v.cell? ⟨w.heap.size,1,none⟩=some (.slice (some ⟨lb,lo,none⟩) n1 q1)/\v.cell? ⟨w.heap.size,2,none⟩=some (.slice p2 n2 q2)/\v.cell? ⟨w.heap.size,3,none⟩=some v3/\v.cell? ⟨w.heap.size+1,1,none⟩=some (.int .i64 (kd:Int))/\v.cell? ⟨w.heap.size+1,2,none⟩=some (.int .i64 A)/\v.cell? ⟨w.heap.size+1,3,none⟩=some (.int .i64 B)/\v.cell? ⟨w.heap.size+1,4,none⟩=some (.int .i64 E)/\v.cell? ⟨w.heap.size+1,5,none⟩=some (.int .i64 n)/\v.cell? ⟨Z,0,none⟩=some (.int .i64 dk)/\v.cell? ⟨Z,1,none⟩=some (.int .i64 dp)) fun hHeld=>?_;exact Zan
 go_wp2;refine rG (fun v=>v.cell? ⟨w.heap.size,0,none⟩=some (.slice p0 n0 q0)/\v.cell? ⟨w.heap.size,1,none⟩=some (.slice (some ⟨lb,lo,none⟩) n1 q1)/\v.cell? ⟨w.heap.size,2,none⟩=some (.slice p2 n2 q2)/\v.cell? ⟨w.heap.size,3,none⟩=some v3/\v.cell? ⟨w.heap.size+1,1,none⟩=some (.int .i64 (kd:Int))/\v.cell? ⟨w.heap.size+1,2,none⟩=some (.int .i64 A)/\v.cell? ⟨w.heap.size+1,3,none⟩=some (.int .i64 B)/\v.cell? ⟨w.heap.size+1,4,none⟩=some (.int .i64 E)/\v.cell? ⟨w.heap.size+1,5,none⟩=some (.int .i64 n)/\v.cell? ⟨Z,0,none⟩=some (.int .i64 dk)/\v.cell? ⟨Z,1,none⟩=some (.int .i64 dp)) fun hHeld=>?_;refine Tf 0 1 2 3 4 5 ?_;clear hHeld;refine Ao 6 fun K hK=>?_;go_simp;(go_at_call 104;(with_reducible refine(HKA.out _ (bel HTD.out.bel (A5 _))).mono ?_);rintro e w3 ⟨rfl,hb9⟩;have HB3:Hid (Below Wd.heap.size Wd w3):=bel (A5 _) hb9;clear hb9;obtain⟨c0,c1,c2,c3,i1,i2,i3,i4,i5,d0,d1⟩:=HCD.out w3 HB3.out);try(go_wp2_with fail)
 refine An hK fun hHeld=>?_;clear hK K;refine Tf 7 8 9 10 11 12 ?_;refine Tb 13 14 ?_;clear hHeld;refine Ao 15 fun K hK=>?_;go_simp;(go_at_call 104;(with_reducible refine(HKB.out _ (bel HTD.out.bel HB3.out)).mono ?_);rintro e w4 ⟨rfl,hb9⟩;have HB4:Hid (Below Wd.heap.size Wd w4):=bel HB3.out hb9;clear hb9;clear c0 c1 c2 c3 i1 i2 i3 i4 i5 d0 d1;obtain⟨c0,c1,c2,c3,i1,i2,i3,i4,i5,d0,d1⟩:=HCD.out w4 HB4.out);try(go_wp2_with fail)
 refine An hK fun hHeld=>?_;clear hK K;refine Tf 16 17 18 19 20 21 ?_;refine Tc 22 23 24 ?_;clear hHeld;refine Ao 25 fun K hK=>?_;go_simp;(go_at_call 104;(with_reducible refine(HKC.out _ (bel HTD.out.bel HB4.out)).mono ?_);rintro e w5 ⟨rfl,hb9⟩;have HB5:Hid (Below Wd.heap.size Wd w5):=bel HB4.out hb9;clear hb9;clear c0 c1 c2 c3 i1 i2 i3 i4 i5 d0 d1;obtain⟨c0,c1,c2,c3,i1,i2,i3,i4,i5,d0,d1⟩:=HCD.out w5 HB5.out);try(go_wp2_with fail)
 refine An hK fun hHeld=>?_;clear hK K;refine Tb 26 27 ?_;refine wpAnyH_done kR ?_ _;clear c0 c1 c2 c3 i1 i2 i3 i4 i5 d0 d1;have HT5:Hid (TW w (.slice p0 n0 q0) (.slice (some ⟨lb,lo,none⟩) n1 q1) (.slice p2 n2 q2) v3 (w.heap.size+1) op (kd:Int) A B E n bt w5):=HTD.out.next HB5.out;obtain⟨hb5,c0,c1,c2,c3,i0,i1,i2,i3,i4,i5,i6⟩:=HT5.out;obtain⟨-,-,-,-,-,-,-,-,-,d0,d1⟩:=HCD.out w5 HB5.out;have hs5:w5.heap.size≠w.heap.size+1/\w.heap.size<w5.heap.size:=⟨fun e=>by have:=A3 i0;simp only at this;omega,by have:=A3 c0;simp only at this;omega⟩
 have HAL:Hid (TW w (.slice p0 n0 q0) (.slice (some ⟨lb,lo,none⟩) n1 q1) (.slice p2 n2 q2) v3 (w.heap.size+1) op (kd:Int) A B E n bt (w5.alloc (.cells #[.int .i64 dk,.int .i64 dp] 69))):=HT5.out.next (A0 _ _);have HRT:Hid (CQ c Le n ⟨dk,dp⟩=RES):=HRES.out;clear c0 c1 c2 c3 i0 i1 i2 i3 i4 i5 i6;have t0:(w5.alloc (.cells #[.int .i64 dk,.int .i64 dp] 69)).cell? ⟨w5.heap.size,0,none⟩=some (.int .i64 dk):=sG;have t1:(w5.alloc (.cells #[.int .i64 dk,.int .i64 dp] 69)).cell? ⟨w5.heap.size,1,none⟩=some (.int .i64 dp):=sG;obtain⟨hbx,c0,c1,c2,c3,i0,i1,i2,i3,i4,i5,i6⟩:=HAL.out;clear d0 d1 HRES;have hbt:=hbx;rcases oe with rfl|rfl|rfl|rfl
 ·exact Zdk
 ·have HQ:Hid (CF n=RES):=HRT.out;by_cases hn0:0<=n
  all_goals
   go_wp2;go_ret;refine⟨A7 ?_,hbt⟩;rw[←HQ.out];unfold CF;first|(simp[hn0];done)|(simp[hn0];omega)|(simp[hn0];intro h;omega)
 ·have HQ:Hid ((n==0||(n==1&&Ce c.sign dp==2))=RES):=HRT.out;have HPA:Hid (∀v,Below w.heap.size w v->Calls prog 105 #[.agg #[.slice p0 n0 q0,.slice (some ⟨lb,lo,none⟩) n1 q1,.slice p2 n2 q2,v3],.int .i64 n,.int .i64 dp] v fun e w'=>e=.returned (.bool RES)/\Below v.heap.size v w'):=fun v hb=>by rw[←HQ.out];exact Kc _ _ _ _ c HCO.out n dp (fun _=>HPP.out rfl) v (HCV.out.below hb)
  exact Zeg
 ·have HQ:Hid ((Ak n c.slots.length&&decide (slotT c.slots n=⟨dk,dp⟩))=RES):=HRT.out;cases hpl:Ak n c.slots.length
  ·exact Zaw
  ·obtain⟨k,rfl,hkl⟩:=CZ hpl;obtain⟨lb9,lo9,ep,hc9⟩:=B3.at (p:=p2) (n:=n2) (c:=q2) HCV.out.slots hkl;subst ep;have e9:slotT c.slots (k:Int)=c.slots[k].ty:=by unfold slotT;rw[Int.toNat_natCast,List.getElem?_eq_getElem hkl];rfl
   have hq9:=HQ.out;rw[hpl,Bool.true_and,e9]at hq9;obtain⟨⟨⟨sk,sp⟩,sQ,sB,sI⟩,ht9⟩:∃t:Sl,c.slots[k]=t:=⟨_,rfl⟩
   rw[ht9]at hc9 hq9;have HQ9:Hid (decide ((⟨sk,sp⟩:Ty)=⟨dk,dp⟩)=RES):=hq9;have y0:w.cell? ⟨lb9,lo9+k*5,none⟩=some (.int .i64 sk):=hc9.at 0 rfl;have y1:w.cell? ⟨lb9,lo9+k*5+1,none⟩=some (.int .i64 sp):=hc9.at 1 rfl;have x0:=kc hbt y0;have x1:=kc hbt y1;have k0:(0:Int)<=(k:Int):=oM;have k1:(k:Int)<(n2:Int):=by have:=HN2.out;omega
   clear hc9 ht9 e9 hpl hq9 HQ;by_cases hks:sk=dk
   ·obtain rfl:=hks;by_cases hps:sp=dp
    ·exact Zbu
    ·go_wp2;refine rG (fun v=>v.cell? ⟨w.heap.size,2,none⟩=some (.slice (some ⟨lb9,lo9,none⟩) n2 q2)/\v.cell? ⟨w.heap.size+1,5,none⟩=some (.int .i64 (k:Int))/\v.cell? ⟨lb9,lo9+k*5,none⟩=some (.int .i64 sk)/\v.cell? ⟨lb9,lo9+k*5+1,none⟩=some (.int .i64 sp)/\v.cell? ⟨w5.heap.size,0,none⟩=some (.int .i64 sk)/\v.cell? ⟨w5.heap.size,1,none⟩=some (.int .i64 dp)) fun hHeld=>?_;exact Zdm
   ·go_wp2;refine rG (fun v=>v.cell? ⟨w.heap.size,2,none⟩=some (.slice (some ⟨lb9,lo9,none⟩) n2 q2)/\v.cell? ⟨w.heap.size+1,5,none⟩=some (.int .i64 (k:Int))/\v.cell? ⟨lb9,lo9+k*5,none⟩=some (.int .i64 sk)/\v.cell? ⟨lb9,lo9+k*5+1,none⟩=some (.int .i64 sp)/\v.cell? ⟨w5.heap.size,0,none⟩=some (.int .i64 dk)/\v.cell? ⟨w5.heap.size,1,none⟩=some (.int .i64 dp)) fun hHeld=>?_;exact Zdn
def Nd(s:Wk)(op:Int):Bool:=if op=34\/op=36 then decide (s.opens.length<64)else if op=35 then decide (0<s.opens.length)&& !Av s else if op=37 then Av s else true
def Mv(c:Cd)(s:Wk)(i:Au):Bool:=Av s&&(i.op != 37&&FN c.regs (F4 i) != Cq s)
def Dw(s:Wk):Prop:=∀b∈s.opens,b.loop=true->0<=b.par
theorem Dw.inner{s:Wk}(h:Dw s)(hl:Av s=true):0<=Cq s:=by
 obtain⟨S,O⟩:=s;cases O with
 |nil=>exact Int.le_refl _
 |cons b r=>exact h b (List.mem_cons_self ..) hl
theorem Hb{i:Au}(h:Cm i.op=false):F4 i= -1:=by
 unfold Cm at h;simp only[Bool.or_eq_false_iff]at h;have h1:(i.op==29)=false/\(i.op==30)=false/\(i.op==31)=false/\(i.op==32)=false/\(i.op==33)=false:=by
  have:=h.1;simp only[Bool.and_eq_false_iff,decide_eq_false_iff_not]at this;simp only[beq_eq_false_iff_ne,ne_eq];omega
 unfold F4;rw[h.2,h1.1,h1.2.1,h1.2.2.1,h1.2.2.2.1,h1.2.2.2.2];rfl
theorem So{i:Au}(h:Cm i.op=true):F4 i=EY i (A6 i.op):=by
 unfold Cm Bg at h;simp only[Bool.or_eq_true,Bool.and_eq_true,decide_eq_true_eq]at h;obtain⟨op,D,A,B,E,n,bb⟩:=i;simp only at h ⊢;have:op=3\/op=4\/op=5\/op=6\/op=7\/op=8\/op=9\/op=10\/op=11\/op=12\/op=13\/op=14\/op=15\/op=29\/op=30\/op=31\/op=32\/op=33:=oM;rcases this with rfl|rfl|rfl|rfl|rfl|rfl|rfl|rfl|rfl|rfl|rfl|rfl|rfl|rfl|rfl|rfl|rfl|rfl<;>rfl
theorem Hc(rs:List Ty):FN rs (-1)= -1:=by unfold FN Ak;simp
theorem Yd{rs:List Ty}{n q:Int}(hq:0<=q):(FN rs n=q)↔A8 rs n=⟨3,q⟩:=by
 unfold FN;cases h:Ak n rs.length
 ·have:A8 rs n=⟨0,0⟩:=by unfold A8;rw[h];rfl
  rw[this];simp;omega
 ·rw[Bool.true_and];generalize A8 rs n=t;obtain⟨K,P⟩:=t;simp only[Ty.mk.injEq];by_cases hk:K=3
  ·subst hk;simp
  ·have:(K==3)=false:=by simpa using hk
   rw[this];constructor
   ·intro e;simp at e;omega
   ·intro e;exact absurd e.1 hk
theorem Si{c:Cd}{s:Wk}{i:Au}(hO:Dw s):Az c s i (A6 i.op)=(!Mv c s i&&Nd s i.op):=by
 have hO':=hO.inner;unfold Az Mv Nd;by_cases h1:i.op=34\/i.op=36
 ·rw[if_pos h1,if_pos h1];have hv:FN c.regs (F4 i)= -1:=by
   rw[Hb (by rcases h1 with e|e<;>rw[e]<;>decide),Hc]
  have h37:(i.op != 37)=true:=by rcases h1 with e|e<;>rw[e]<;>decide
  rw[hv,h37];cases hl:Av s
  ·rfl
  ·have:=hO' hl;have e:((-1:Int) != Cq s)=true:=sO;rw[e];rfl
 ·rw[if_neg h1,if_neg h1];by_cases h2:i.op=35
  ·rw[if_pos h2,if_pos h2];have hv:FN c.regs (F4 i)= -1:=by rw[Hb (by rw[h2];decide),Hc]
   rw[hv,h2];have hE:(!s.opens.isEmpty)=decide (0<s.opens.length):=by cases s.opens<;>simp
   rw[hE];cases hl:Av s
   ·simp
   ·have:=hO' hl;have e:((-1:Int) != Cq s)=true:=sO;rw[e];simp
  ·rw[if_neg h2,if_neg h2];by_cases h3:i.op=37
   ·rw[if_pos h3,if_pos h3,h3];cases Av s<;>rfl
   ·rw[if_neg h3,if_neg h3];have h37:(i.op != 37)=true:=by simpa using h3
    rw[h37,Bool.true_and,Bool.and_true];cases hl:Av s
    ·rfl
    ·have hq:=hO' hl;rw[Bool.not_true,Bool.false_or,Bool.true_and];cases hlp:Cm i.op
     ·rw[Hb hlp,Hc];have e:((-1:Int) != Cq s)=true:=sO;rw[e];rfl
     ·rw[So hlp,Bool.true_and];unfold Aw;rw[Bool.eq_iff_iff,decide_eq_true_eq,←Yd hq];simp
theorem Sk{c:Cd}{s:Wk}{i:Au}(hT:Am c=true)(hO:Dw s):AQ c s i=((As i.op&&DX c i (ltR i.op))&&(!Mv c s i&&(G3 s i (A6 i.op)&&Nd s i.op))):=by
 unfold AQ;rw[Mj hT,Si hO];cases As i.op<;>cases Bu c i (A6 i.op)<;>cases Mv c s i<;>cases Nd s i.op<;>simp
structure Ob where
 op:Int
 par:Int
 set:List Nat
def Z9(S:List Nat)(b:Bk):Ob:=⟨if b.loop then 36 else 34,b.par,S.take b.ahead⟩
def Jk(s:Wk):List Ob:=(s.opens.map (Z9 s.set)).reverse
theorem Ia(s:Wk):(Jk s).length=s.opens.length:=by simp[Jk]
theorem Gq(S:List Nat)(b:Bk)(r:List Bk):Jk ⟨S,b::r⟩=(r.map (Z9 S)).reverse++[Z9 S b]:=by simp[Jk]
theorem TT{s:Wk}(h:0<s.opens.length):∃X,(Jk s)[s.opens.length-1]? =some ⟨if Av s then 36 else 34,Cq s,X⟩:=by
 obtain⟨S,O⟩:=s;cases O with
 |nil=>simp at h
 |cons b r=>
  refine⟨S.take b.ahead,?_⟩;rw[Gq];simp only[List.length_cons,Nat.add_sub_cancel];rw[List.getElem?_append_right sM];simp only[List.length_reverse,List.length_map,Nat.sub_self];rfl
theorem LN{s:Wk}{i:Au}(h:i.op=34\/i.op=36):Aq s i=⟨s.set,⟨i.op==36,i.n,s.set.length⟩::s.opens⟩:=by
 unfold Aq Fk;rw[Jr Zhf];unfold E8;rw[if_pos h]
theorem LO{s:Wk}{i:Au}(h:i.op=35\/i.op=37):Aq s i=AM s:=by
 unfold Aq Fk;rw[Jr Zhf];unfold E8;rw[if_neg oM,if_pos h]
theorem FI{s:Wk}{i:Au}(h1:i.op≠34)(h2:i.op≠35)(h3:i.op≠36)(h4:i.op≠37):Aq s i=⟨Hx s.set i,s.opens⟩:=by
 unfold Aq Fk E8;rw[if_neg oM,if_neg oM];unfold FJ Hx;split<;>rfl
theorem TU{s:Wk}{i:Au}(h:i.op=34\/i.op=36):Jk (Aq s i)=Jk s++[⟨i.op,i.n,s.set⟩]:=by
 rw[LN h,Gq];unfold Jk Z9;simp only[List.take_length];rcases h with h|h<;>rw[h]<;>rfl
theorem TV{s:Wk}{i:Au}{n:Nat}(ho:Dm n s)(h1:i.op≠34)(h2:i.op≠35)(h3:i.op≠36)(h4:i.op≠37):Jk (Aq s i)=Jk s:=by
 rw[FI h1 h2 h3 h4];unfold Jk;simp only;congr 1;apply List.map_congr_left;intro b hb;have:=OB ho.opens b hb;have e:(Hx s.set i).take b.ahead=s.set.take b.ahead:=by
  unfold Hx;split
  ·rw[List.take_append_of_le_length this]
  ·rfl
 unfold Z9;rw[e]
theorem FC{s:Wk}{n:Nat}(ho:Dm n s)(h:0<s.opens.length):Jk (AM s)=(Jk s).take (s.opens.length-1):=by
 obtain⟨S,O⟩:=s;cases O with
 |nil=>simp at h
 |cons b r=>
  rw[Gq];simp only[List.length_cons,Nat.add_sub_cancel];rw[List.take_append_of_le_length sM,List.take_of_length_le sM];unfold Jk AM;simp only;cases hb:b.loop
  ·simp only[Bool.false_eq_true,if_false];congr 1;apply List.map_congr_left;intro a ha;have:=OB ho.opens.2 a ha;unfold Z9;rw[List.take_take,Nat.min_eq_left this]
  ·simp only[if_true]
theorem Rl{s:Wk}(hl:Av s=false){o:Ob}(h:(Jk s)[s.opens.length-1]? =some o)(h0:0<s.opens.length):(AM s).set=o.set:=by
 obtain⟨S,O⟩:=s;cases O with
 |nil=>simp at h0
 |cons b r=>
  rw[Gq]at h;simp only[List.length_cons,Nat.add_sub_cancel]at h;rw[List.getElem?_append_right sM]at h;simp at h;subst h;have:b.loop=false:=hl;simp[AM,this,Z9]
theorem Om{s:Wk}(hl:Av s=true):(AM s).set=s.set:=by
 obtain⟨S,O⟩:=s;cases O with
 |nil=>rfl
 |cons b r=>
  have:b.loop=true:=hl;simp[AM,this]
theorem E0(s:Wk):(AM s).opens.length=s.opens.length-1:=by
 obtain⟨S,O⟩:=s;cases O with
 |nil=>rfl
 |cons b r=>simp[AM]
theorem Dw.step{c:Cd}{s:Wk}{i:Au}(h:Dw s)(t:AQ c s i=true):Dw (Aq s i):=by
 by_cases h1:i.op=34\/i.op=36
 ·rw[LN h1];intro b hb hl;rcases List.mem_cons.1 hb with rfl|hb
  ·have h36:i.op=36:=by simpa using hl
   obtain⟨_,h2,_,_⟩:=AY t;rw[h36]at h2;unfold Bu Bv at h2;simp only[Bool.and_eq_true]at h2;have h3:=h2.2.2.2.2;rw[if_neg (show(A6 36).n≠7 by decide)]at h3;simp only[Bool.and_eq_true]at h3;have h4:Ak i.n c.sign.length=true:=h3.2;exact(C1.1 h4).1
  ·exact h b hb hl
 ·by_cases h2:i.op=35\/i.op=37
  ·rw[LO h2];intro b hb hl;refine h b ?_ hl;unfold AM at hb;split at hb
   ·rename_i e;rw[e];exact List.mem_cons_of_mem _ hb
   ·exact hb
  ·rw[FI oM oM oM oM];exact h
theorem Dw.start:Dw ⟨[],[]⟩:=fun b hb=>by cases hb
def Xn(o:Ob)(u:Value):List Value:=[.int .i64 o.op,.int .i64 o.par,u]
def G1:List Ob->List Value->List Value
 |o::l,u::us=>Xn o u++G1 l us
 |_,_=>[]
theorem JW(o:Ob)(u:Value):∀ {l:List Ob} {us:List Value},l.length=us.length->G1 (l++[o]) (us++[u])=G1 l us++Xn o u
 |[],[],_=>by simp[G1]
 |[],_::_,h=>by simp at h
 |_::_,[],h=>by simp at h
 |a::l,b::us,h=>by simp only[List.cons_append,G1];rw[JW o u SE,List.append_assoc]
theorem GW:∀ (m:Nat) (l:List Ob) (us:List Value),(G1 l us).take (m*3)=G1 (l.take m) (us.take m)
 |0,l,us=>by simp[G1]
 |m+1,[],us=>by simp[G1]
 |m+1,a::l,[]=>by simp[G1]
 |m+1,a::l,b::us=>by
  simp only[List.take_succ_cons,G1];rw[show(m+1)*3=(Xn a b).length+m*3 by simp[Xn];omega,List.take_length_add_append,GW m l us]
theorem PK(j:Nat)(hj:j<3):∀ {l:List Ob} {us:List Value} {k:Nat} {o:Ob} {u:Value},l[k]? =some o->us[k]? =some u->(G1 l us)[k*3+j]? =(Xn o u)[j]?
 |[],us,k,o,u,h,_=>by simp at h
 |a::l,[],k,o,u,_,h=>by simp at h
 |a::l,b::us,0,o,u,h,h'=>by
  simp at h h';subst h h';simp only[G1];rw[Nat.zero_mul,Nat.zero_add,List.getElem?_append_left (by simpa[Xn]using hj)]
 |a::l,b::us,k+1,o,u,h,h'=>by
  simp only[G1];rw[List.getElem?_append_right (by simp[Xn];omega)];have e:(k+1)*3+j-(Xn a b).length=k*3+j:=by simp[Xn];omega
  rw[e];exact PK j hj SE (by simpa using h')
theorem Ra:(prog.info? 114).map (fun i=>(i.zero,i.size,i.bytes))=some (some (.agg #[.int .i64 0,.int .i64 0,.slice none 0 0]),3,40):=kR
structure SK(B M:Nat)(v:World)(sv ov:Value)(s:Wk)(us:List Value):Prop where
 hB:B<=v.heap.size
 set:v.ownsRow B 4 1 sv M (CK M s.set)
 opn:v.ownsRow B 114 3 ov s.opens.length (G1 (Jk s) us)
 len:us.length=s.opens.length
 each:∀k (h:k<us.length) o,(Jk s)[k]? =some o->v.ownsRow B 4 1 us[k] M (CK M o.set)/\∀b,sv.ownBlock=some b->us[k].ownBlock≠some b
section
variable {B M : Nat} {v v' : World} {sv ov : Value} {s : Wk} {us : List Value}
theorem SK.below(h:SK B M v sv ov s us)(k:Below v.heap.size v v'):SK B M v' sv ov s us:=
 ⟨Nat.le_trans h.hB k.size,AA h.set k,AA h.opn k,h.len,fun j hj o ho=>⟨AA (h.each j hj o ho).1 k,(h.each j hj o ho).2⟩⟩
theorem GH:114≠4:=dE
theorem SK.ins{i:Au}{g q n:Nat}(h:SK B M v (.slice (some ⟨g,0,none⟩) M q) ov s us)(ok:Dm n s)(h1:i.op≠34)(h2:i.op≠35)(h3:i.op≠36)(h4:i.op≠37)(hd:(A6 i.op).d≠0)(hl:i.d.toNat<M):
 SK B M (v.setCell ⟨g,i.d.toNat,none⟩ (.bool true)) (.slice (some ⟨g,0,none⟩) M q) ov (Aq s i) us:=by
 have e1:=TV (i:=i) ok h1 h2 h3 h4;have e2:(Aq s i).set=Hx s.set i/\(Aq s i).opens=s.opens:=by rw[FI h1 h2 h3 h4];exact⟨rfl,rfl⟩
 have hne:∀b,b≠g->(v.setCell ⟨g,i.d.toNat,none⟩ (.bool true)).heap[b]? =v.heap[b]? :=fun b hb=>Below.heap_setCell _ _ _ _ hb;refine⟨by have:=h.hB;simp;omega,?_,?_,by rw[e2.2];exact h.len,fun k hk o ho=>?_⟩
 ·rw[e2.1,←Vi hd hl];exact(h.set.stored _ _).1
 ·rw[e1,e2.2];exact AF h.opn fun b hb=>hne b fun e=>FD h.opn h.set GH b hb (by rw[e];rfl)
 ·rw[e1]at ho;obtain⟨a1,a2⟩:=h.each k hk o ho;exact⟨AF a1 fun b hb=>hne b fun e=>a2 g rfl (by rw[←e];exact hb),a2⟩
theorem SK.keep{i:Au}{n:Nat}(h:SK B M v sv ov s us)(ok:Dm n s)(h1:i.op≠34)(h2:i.op≠35)(h3:i.op≠36)(h4:i.op≠37)(hd:(A6 i.op).d=0):SK B M v sv ov (Aq s i) us:=by
 have e:Aq s i=s:=by rw[FI h1 h2 h3 h4,S9 (M:=0) hd]
 rw[e];exact h
theorem EJ{B:Nat}{V:World}{e t:TypeId}{z:Value}{sz by':Nat}(ht:prog.underlying t=some (.slice e))(hi:(prog.info? e).map (fun i=>(i.zero,i.size,i.bytes))=some (some z,sz,by'))(hzs:z.cells.size=sz)(hsz:0<sz){p:Option Addr}{n q:Nat}{xs:List Value}(h:V.ownsRow B e sz (.slice p n q) n xs)(hB:B<=V.heap.size)
 (cs:Array Value) (hcs:cs.size=sz) (h1:∀u∈cs.toList,u.oneCell'=true) (hn:n+1<=maxLen) (hb:(n+1)*by'<=140737488355328) (ty:TypeId):
 ∃g c' w',(Builtin.append_ #[t,t] ty #[.slice p n q,.slice (some ⟨V.heap.size,0,none⟩) 1 1]).run prog (V.alloc (.cells cs e))=.ok (.slice (some ⟨g,0,none⟩) (n+1) c') w'/\Below B V w'/\w'.ownsRow B e sz (.slice (some ⟨g,0,none⟩) (n+1) c') (n+1) (xs++cs.toList)/\∀b,b<V.heap.size->(Value.slice p n q).ownBlock≠some b->w'.heap[b]? =V.heap[b]? :=by
 obtain⟨i0,hi0,hz0,hz1,hz2⟩:=info_parts hi;have hb0:Below V.heap.size V (V.alloc (.cells cs e)):=A0 _ _;have hs:(V.alloc (.cells cs e)).heap.size=V.heap.size+1:=sM;have h0:=AA h hb0;obtain⟨g,cap,w3,hr,hown,hgrow,hat,hlt⟩:=run_append_lies (P:=prog) (V.alloc (.cells cs e)) t ty B e i0 _ sz by' ht hi0 hz0 hz1 hz2 hzs hsz (.slice p n q) n xs h0 ⟨V.heap.size,0,none⟩ 1 1 cs.toList (by simp[hcs])
  (World.news_of_block (cs:=cs) (t:=e) (fr:=(0,0)) (heap_alloc_new V _)) h1 dE hn hb oM _ rfl
 refine⟨g,cap,w3,hr,(hb0.mono hB).grown hgrow oM (fun q e=>(h0.lt q e).1),hown,fun b hb hne=>?_⟩;rw[hgrow.block b oM (Ne.symm hne)];exact hb0.block b hb
theorem SK.push{i:Au}{p:Option Addr}{q:Nat}{u:Value}(h:SK B M v sv (.slice p s.opens.length q) s us)(k:Below v.heap.size v v')(hu:v'.ownsRow v.heap.size 4 1 u M (CK M s.set))(hi:i.op=34\/i.op=36)(hn:s.opens.length<64)(ty:TypeId):
 ∃g c' w',(Builtin.append_ #[110,110] ty #[.slice p s.opens.length q,.slice (some ⟨v'.heap.size,0,none⟩) 1 1]).run prog (v'.alloc (.cells #[.int .i64 i.op,.int .i64 i.n,u] 114))=.ok (.slice (some ⟨g,0,none⟩) (s.opens.length+1) c') w'/\Below B v w'/\SK B M w' sv (.slice (some ⟨g,0,none⟩) (s.opens.length+1) c') (Aq s i) (us++[u])/\∀b,b<v'.heap.size->(Value.slice p s.opens.length q).ownBlock≠some b->w'.heap[b]? =v'.heap[b]? :=by
 have h':=h.below k;have hone:u.oneCell'=true:=by
  obtain⟨p,c,rfl⟩:=Bl hu;rfl
 obtain⟨g,c',w',hr,hb,ho,hk⟩:=EJ (V:=v') underlying110 Ra rfl dE h'.opn h'.hB #[.int .i64 i.op,.int .i64 i.n,u] rfl (by intro x hx;simp at hx;rcases hx with rfl|rfl|rfl<;>first|rfl|exact hone) mL oM ty;have hs:(Aq s i).set=s.set/\(Aq s i).opens.length=s.opens.length+1:=by rw[LN hi];exact⟨rfl,rfl⟩
 have eo:=TU (s:=s) hi;have hsz:=k.size;refine⟨g,c',w',hr,(k.mono h.hB).trans hb,⟨Nat.le_trans h'.hB hb.size,?_,?_,by rw[hs.2,List.length_append,h.len];rfl,fun j hj o ho'=>?_⟩,hk⟩
 ·rw[hs.1];exact AF h'.set fun b hbb=>hk b (h'.set.lt b hbb).2 (fun e=>FD h'.opn h'.set GH b e hbb)
 ·rw[hs.2,eo,JW _ _ (by rw[Ia];exact h.len.symm)];exact ho
 ·rw[eo]at ho';by_cases hlt:j<us.length
  ·rw[List.getElem?_append_left (by rw[Ia,←h.len];exact hlt)]at ho';obtain⟨a1,a2⟩:=h'.each j hlt o ho';rw[List.getElem_append_left hlt];exact⟨AF a1 fun b hbb=>hk b (a1.lt b hbb).2 (fun e=>FD h'.opn a1 GH b e hbb),a2⟩
  ·have hj':j=us.length:=by simp at hj;omega
   subst hj';rw[List.getElem?_append_right (by rw[Ia,h.len];exact Nat.le_refl _)]at ho';have e0:us.length-(Jk s).length=0:=by rw[Ia,h.len];omega
   rw[e0]at ho';simp at ho';subst ho';have e1:(us++[u])[us.length]'hj=u:=sM;rw[e1];refine⟨Gr (AF hu fun b hbb=>hk b (hu.lt b hbb).2 (fun e=>?_)) h.hB,fun b hbb e=>?_⟩
   ·exact FD h'.opn hu GH b e hbb
   ·have a1:=(hu.lt b e).1;have a2:=(h.set.lt b hbb).2;omega
theorem SK.pop{p:Option Addr}{q n:Nat}(h:SK B M v sv (.slice p s.opens.length q) s us)(ok:Dm n s)(h0:0<s.opens.length)(hl:Av s=true):SK B M v sv (.slice p (s.opens.length-1) q) (AM s) (us.take (s.opens.length-1)):=by
 refine⟨h.hB,by rw[Om hl];exact h.set,?_,by rw[E0,List.length_take,h.len];omega,fun k hk o ho=>?_⟩
 ·rw[E0,FC ok h0,←GW];exact Gt h.opn oM
 ·rw[FC ok h0]at ho;have hk':k<us.length:=by simp at hk;omega
  rw[List.getElem?_take]at ho;split at ho
  ·obtain⟨a1,a2⟩:=h.each k hk' o ho;simp only[List.getElem_take];exact⟨a1,a2⟩
  ·simp at ho
theorem SK.back{p:Option Addr}{q n:Nat}{u:Value}{o:Ob}(h:SK B M v sv (.slice p s.opens.length q) s us)(ok:Dm n s)(h0:0<s.opens.length)(hl:Av s=false)(k:Below v.heap.size v v')(ho:(Jk s)[s.opens.length-1]? =some o)(hu:v'.ownsRow v.heap.size 4 1 u M (CK M o.set)):
 SK B M v' u (.slice p (s.opens.length-1) q) (AM s) (us.take (s.opens.length-1)):=by
 refine⟨Nat.le_trans h.hB k.size,by rw[Rl hl ho h0];exact Gr hu h.hB,?_,by rw[E0,List.length_take,h.len];omega,fun j hj x hx=>?_⟩
 ·rw[E0,FC ok h0,←GW];exact AA (Gt h.opn oM) k
 ·rw[FC ok h0]at hx;have hk':j<us.length:=by simp at hj;omega
  rw[List.getElem?_take]at hx;split at hx
  ·obtain⟨a1,a2⟩:=h.each j hk' x hx;simp only[List.getElem_take];refine⟨AA a1 k,fun b hb e=>?_⟩;have b1:=(hu.lt b hb).1;have b2:=(a1.lt b e).2;omega
  ·simp at hx
theorem SK.last{g q:Nat}(h:SK B M v sv (.slice (some ⟨g,0,none⟩) s.opens.length q) s us)(h0:0<s.opens.length):∃ (X:List Nat) (u:Value),(Jk s)[s.opens.length-1]? =some ⟨if Av s then 36 else 34,Cq s,X⟩/\v.ownsRow B 4 1 u M (CK M X)/\v.cell? ⟨g,(s.opens.length-1)*3,none⟩=some (.int .i64 (if Av s then 36 else 34))/\v.cell? ⟨g,(s.opens.length-1)*3+1,none⟩=some (.int .i64 (Cq s))/\v.cell? ⟨g,(s.opens.length-1)*3+2,none⟩=some u:=by
 obtain⟨X,hX⟩:=TT h0;have hu:s.opens.length-1<us.length:=by rw[h.len];omega
 obtain⟨a1,a2⟩:=h.each _ hu _ hX;have cl:=fun(j:Nat) (hj:j<3)=>PK j hj hX (List.getElem?_eq_getElem hu);have ca:=fun(j:Nat) (hj:j<3)=>h.opn.cellAt ((s.opens.length-1)*3+j) oM;refine⟨X,_,hX,a1,?_,?_,?_⟩
 ·have:=ca 0 dE;rw[cl 0 dE]at this;exact this
 ·have:=ca 1 dE;rw[cl 1 dE]at this;exact this
 ·have:=ca 2 dE;rw[cl 2 dE]at this;exact this
theorem SK.start(w:World)(B:Nat)(h:B<=w.heap.size){sv:Value}(hs:w.ownsRow B 4 1 sv M (CK M [])):SK B M w sv (.slice none 0 0) ⟨[],[]⟩ []:=
 ⟨h,hs,World.ownsRow_nil _ _ _ 3,rfl,fun k hk=>by simp at hk⟩
end
theorem Vj(M:Nat)(X:List Nat):∀u∈CK M X,u.oneCell'=true:=by
 intro u hu;unfold CK at hu;simp only[List.mem_map]at hu;obtain⟨j,-,rfl⟩:=hu;rfl
theorem QA{t e:TypeId}{z:Value}{sz by':Nat}(ht:prog.underlying t=some (.slice e))(hi:(prog.info? e).map (fun i=>(i.zero,i.size,i.bytes))=some (some z,sz,by'))(p:Option Addr)(n c:Nat)(x:Option Addr)(d:Nat)(hn:n<=c)(ty:TypeId)(w:World):(Builtin.append_ #[t,t] ty #[.slice p n c,.slice x 0 d]).run prog w=.ok (.slice p n c) w:=by
 obtain⟨i0,hi0,hz0,hz1,hz2⟩:=info_parts hi;have h1:¬c<n:=oM;cases x with
 |none=>cases p<;>simp[Builtin.append_,run_underlying ht,sizeOf,typeInfo,hi0,Builtin.lenOf,Builtin.firstCells,storeCells,loadCells,loadCellsFrom,hn,h1]
 |some a=>cases p<;>simp[Builtin.append_,run_underlying ht,sizeOf,typeInfo,hi0,Builtin.lenOf,Builtin.firstCells,storeCells,loadCells,loadCellsFrom,hn,h1]
theorem Hl{B M:Nat}{X:List Nat}(v:Value)(hM:M<=16384)(w:World)(h:w.ownsRow B 4 1 v M (CK M X)):
 Calls prog 38 #[v] w fun e w'=>∃u,e=.returned u/\w'.ownsRow w.heap.size 4 1 u M (CK M X)/\Below w.heap.size w w':=by
 obtain⟨p,q,rfl⟩:=Bl h;have C5:∃u w',(Builtin.append_ #[100,100] 100 #[.slice none 0 0,.slice p M q]).run prog w=.ok u w'/\w'.ownsRow w.heap.size 4 1 u M (CK M X)/\Below w.heap.size w w':=by
  by_cases h0:M=0
  ·subst h0;refine⟨.slice none 0 0,w,QA underlying100 Fz none 0 0 p q (Nat.le_refl _) _ _,?_,B8 _⟩;have:CK 0 X=[]:=by simp[CK]
   rw[this];exact World.ownsRow_nil _ _ _ 1
  ·obtain⟨g,c,e,hl,hg⟩:=h.form oM;simp only[Value.slice.injEq]at e;obtain⟨rfl,-,rfl⟩:=e;obtain⟨i0,hi0,hz0,hz1,hz2⟩:=info_parts Fz;obtain⟨g',cap,w',hr,hown,hgrow,hat,hlt⟩:=run_append_lies (P:=prog) w 100 100 w.heap.size 4 i0 _ 1 1 underlying100 hi0 hz0 hz1 hz2 rfl dE (.slice none 0 0) 0 [] (World.ownsRow_nil _ _ _ 1) ⟨g,0,none⟩ M q (CK M X) Zhl
    (fun j u hu=>by
     have hj:j<M:=by have:=(List.getElem?_eq_some_iff.1 hu).1;rw[IV]at this;exact this
     have e:=h.cellAt j oM;have e2:(⟨g,0,none⟩:Addr).add j=⟨g,j,none⟩:=by simp[Addr.add];omega
     rw[e2,e,hu]) (Vj M X) oM mL oM (Nat.le_refl _) _ rfl
   simp only[Nat.zero_add,List.nil_append]at hr hown;exact⟨_,w',hr,hown,(Below.refl _ _).grown hgrow (Nat.le_refl _) (fun k e=>by simp[Value.ownBlock]at e)⟩
 obtain⟨u,w',hr,ho,hb⟩:=C5;have HR:Hid ((Builtin.append_ #[100,100] 100 #[.slice none 0 0,.slice p M q]).run prog w=.ok u w'):=hr;have HO:Hid (w'.ownsRow w.heap.size 4 1 u M (CK M X)/\Below w.heap.size w w'):=⟨ho,hb⟩
 clear h hr ho hb;go_enter func38,ntmps38;go_wp2_with(at_builtin;refine AD rF _ _ _ rF _ _ _ rF rF HR.out ?_);go_ret;exact⟨u,rfl,HO.out.1,HO.out.2⟩
theorem EN{P:Program}{w w':World}{o:Oper}{a:Act}{K:Act->World->Prop}{Q:Exit->Act->World->Prop}(s x:Operand)(t:TypeId)
 (ho:o.op=.call {callee:=.builtin .append,args:=#[s,x],argTypes:=#[t,t]}) (v v2 v':Value) (hs:a.eval s=v) (hx:a.eval x=v2) (hr:(Builtin.append_ #[t,t] o.type #[v,v2]).run P w=.ok v' w')
 (h:K (a.put o.dst v') w') (y':Bool) (hy:y'=true):if y'=true then Oper.wp P o a w K Q else K (a.put o.dst undef) w:=by
 rw[if_pos hy];exact Zei
end Go.Proofs.YtbinohkcolcbfaaGreat
