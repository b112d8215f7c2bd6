import Derived.Test.YtbinohkcolcbfaaGreatPart8
import Derived.Test.YtbinohkcolcbfaaGreatPart1
import Derived.Test.YtbinohkcolcbfaaGreatPart9
import Derived.Test.YtbinohkcolcbfaaGreatPart4
import Derived.Test.YtbinohkcolcbfaaGreatPart2
import Derived.Shelf.Abstract
import Derived.Maps.AppendAt
import Derived.Laws.AppendOwnNone
import Derived.Deep.RegionHeld3
import Derived.Test.YtbinohkcolcbfaaGreatPart7
import Derived.Deep.OwnRows
namespace Go.Proofs.YtbinohkcolcbfaaGreat
open Go.RowKit Go.Proofs.Tryz
set_option linter.unusedVariables false
set_option linter.unusedSimpArgs false
set_option maxRecDepth 100000
set_option maxHeartbeats 16000000
theorem Zake(a:Int)(h0:0<=a)(h1:a<4294967296)(w:World):
 Calls prog 178 #[.int .i64 a] w fun e w'=>e=.returned (.int .i64 (Zks a))/\Below w.heap.size w w':=by
 cases hna:nNan a
 ·cases hia:nInf a
  ·by_cases za:nM a=0
   ·obtain⟨ra,a1,a2,a3,a4,a5⟩:=Zki a h0 h1 hia hna;have hv:Zks a=a:=by
     rw[Zqu a ra,za];have e:((Ieee.single.nearest (nMin a) 0 (nE a):Nat):Int)=sgn (nMin a):=Zqy _ _;show((Ieee.single.nearest (nMin a) 0 (nE a):Nat):Int)=a;rw[e];have h2:=Zwl a h0 h1 hia hna;have h3:=Zpg a h0 h1;have h4:rg a.toNat=0:=by
      have:mg a.toNat=0:=oM;unfold mg at this;split at this<;>omega
     rw[h2.2.1,h4]at h3;unfold sgn;omega
    rw[hv];clear hv ra a5;go_enter func178,ntmps178;exact Zbd
   ·cases hs:nMin a
    ·exact Zalq a h0 h1 hia hna za hs w
    ·obtain⟨ra,a1,a2,a3,a4,a5⟩:=Zki a h0 h1 hia hna;have hv:Zks a=2143289344:=by
      rw[Zqu a ra,hs];have:(nM a).toNat≠0:=oM;simp only[Ieee.Datum.root,if_neg this,if_true];rfl
     rw[hv];clear hv ra a5;go_enter func178,ntmps178;exact Zbd
  ·obtain⟨ra,-,a1⟩:=Zmk a h0 h1 hia;cases hs:nMin a
   ·have hv:Zks a=a:=by
     rw[Zqu a ra,hs];have h2:rg a.toNat=2139095040:=by
      rcases Nat.lt_trichotomy (rg a.toNat) 2139095040 with c|c|c
      ·rw[Zjy _ c]at ra;cases ra
      ·exact c
      ·rw[Zli _ c]at ra;cases ra
     have h3:=Zpg a h0 h1;rw[←Zxp a h0 h1,hs,h2]at h3;show((Ieee.single.write (.infinity false):Nat):Int)=a;rw[Zkz];unfold sgn;omega
    rw[hv];clear hv ra;go_enter func178,ntmps178;exact Zbd
   ·have hv:Zks a=2143289344:=by rw[Zqu a ra,hs];rfl
    rw[hv];clear hv ra;go_enter func178,ntmps178;exact Zbd
 ·have hv:Zks a=2143289344:=by
   obtain⟨s,t,e⟩:=Zot a h0 h1 hna;rw[Zqu a e];rfl
  rw[hv];clear hv;go_enter func178,ntmps178;exact Zbd
theorem Zqz:(prog.info? 4).map (fun i=>(i.zero,i.size,i.bytes))=some (some (.bool false),1,1):=kR
theorem make_B(m:Nat)(h:m<=70368744177664)(w:World):(Instr.makeSlice 100 (.int .i64 m) (.int .i64 m)).run prog w=.ok (.slice (some ⟨w.heap.size,0,none⟩) m m) (w.alloc (.cells (madeCells #[.bool false] m) 4)):=
 run_make_row' (P:=prog) 100 4 (.bool false) 1 underlying100 Zqz rfl .i64 .i64 m oM oM w
theorem WS.start(w:World)(C n:Nat):WS w.heap.size (w.heap.size+1) C n w.heap.size (.slice none 0 0) (.slice none 0 0) ((w.alloc (.cells (madeCells #[.bool false] n) 4)).alloc (.cells #[.pointer (some ⟨C,0,none⟩),.slice (some ⟨w.heap.size,0,none⟩) n n,.slice none 0 0,.slice none 0 0] 103)) ⟨[],[]⟩:=by
 have h1:=(World.rowIs_made w (.bool false) n 4).alloc (.cells #[.pointer (some ⟨C,0,none⟩),.slice (some ⟨w.heap.size,0,none⟩) n n,.slice none 0 0,.slice none 0 0] 103);have h2:=World.rowIs_alloc (w.alloc (.cells (madeCells #[.bool false] n) 4)) #[.pointer (some ⟨C,0,none⟩),.slice (some ⟨w.heap.size,0,none⟩) n n,.slice none 0 0,.slice none 0 0] 103 (wkF C w.heap.size n (.slice none 0 0) (.slice none 0 0)) (fun i hi=>by
  have hi':i<4:=hi;obtain rfl|rfl|rfl|rfl:i=0\/i=1\/i=2\/i=3:=oM
  all_goals rfl)
 have hs:(w.alloc (.cells (madeCells #[.bool false] n) 4)).heap.size=w.heap.size+1:=sM;rw[hs]at h2;exact⟨h2,h1.congr fun j _=>by simp,World.ownsRow_nil _ _ _ 1,World.ownsRow_nil _ _ _ 3,oM,Nat.le_refl _,oM,by simp[Value.ownBlock],by simp[Value.ownBlock],by simp[Value.ownBlock],by simp[Value.ownBlock],by simp[Value.ownBlock]⟩
theorem Zzn(v0 v1 v2 v3:Value)(c:Cd)(hk:CdOk c)(w:World)(hv:CdV w v0 v1 v2 v3 c):
 Calls prog 15 #[.agg #[v0,v1,v2,v3]] w fun e w'=>e=.returned (.tuple #[.int .i64 (Zik c).1,.int .i64 (Zik c).2])/\Below w.heap.size w w':=by
 have hat:CdAt (w.alloc (.cells #[v0,v1,v2,v3] 27)) w.heap.size v0 v1 v2 v3 c:=by
  refine⟨fun j hj=>?_,hv.below (Zhq _ _)⟩;have hj':j<4:=hj;obtain rfl|rfl|rfl|rfl:j=0\/j=1\/j=2\/j=3:=oM
  all_goals simp[go_sem]
 have K1:=Zxl w.heap.size v0 v1 v2 v3 c hk _ hat;unfold Zik;obtain⟨A,hA⟩:∃A,Zkw c=A:=⟨_,rfl⟩
 rw[hA]at K1 ⊢;have HK1:Hid (Calls prog 31 #[.pointer (some ⟨w.heap.size,0,none⟩)] (w.alloc (.cells #[v0,v1,v2,v3] 27)) fun e w'=>e=.returned (.int .i64 A)/\Below (w.alloc (.cells #[v0,v1,v2,v3] 27)).heap.size (w.alloc (.cells #[v0,v1,v2,v3] 27)) w'):=K1;clear K1;by_cases h0:A=0
 ·rw[if_neg (by simp[h0])];have hsz:c.regs.length<=16384/\c.list.length<=32768/\Zif c=true:=by
   rw[h0]at hA;unfold Zkw at hA;split at hA
   ·rename_i e1;exact absurd hA e1
   ·split at hA
    ·exact absurd hA dE
    ·split at hA
     ·exact absurd hA dE
     ·split at hA
      ·rename_i e1 e2 e3 e4;simp only[Bool.and_eq_true]at e4;exact⟨oM,oM,e4.1⟩
      ·exact absurd hA dE
  obtain⟨hn,hN,htm⟩:=hsz;clear hA;subst h0;have KT:=fun E G gi vs vo s b o i w h ok hc hi hb hb0 hb1=>Zabl E G w.heap.size c.regs.length gi vs vo s v0 v1 v2 v3 c hk b o i w h rfl ok hn hc hi hb htm hb0 hb1;clear KT;have hr:=hv.list;obtain⟨p3,q3,rfl,hr3⟩:=hv.list;obtain⟨p1,q1,rfl,hr1⟩:=hv.regs;have HAT:Hid (CdAt (w.alloc (.cells #[v0,.slice p1 c.regs.length q1,v2,.slice p3 c.list.length q3] 27)) w.heap.size v0 (.slice p1 c.regs.length q1) v2 (.slice p3 c.list.length q3) c):=hat;obtain⟨Pr,hPr⟩:∃P,goP c ⟨[],[]⟩ 0 c.list=P:=⟨_,rfl⟩
  rw[hPr];have HP:Hid (goP c ⟨[],[]⟩ 0 c.list=Pr):=hPr;have HROW:Hid (RowG 7 inC w (.slice p3 c.list.length q3) c.list):=hr;have HIB:Hid (∀i∈c.list,0<=i.bits/\i.bits<4294967296):=hk.ibits;obtain⟨n,hnn⟩:∃n,c.regs.length=n:=⟨_,rfl⟩
  obtain⟨N,hNN⟩:∃N,c.list.length=N:=⟨_,rfl⟩
  have HNE:Hid (c.regs.length=n):=hnn;have HNL:Hid (c.list.length=N):=hNN;rw[hnn]at hn HK1 HAT;rw[hNN]at hN HK1 HAT HROW;rw[hnn,hNN];have mk:=fun w=>make_B n oM w;have HOKC:Hid (CdOk c):=hk;have HTM:Hid (Zif c=true):=htm;have f1:=HAT.out.1.at 1 rfl;have f3:=HAT.out.1.at 3 rfl;rw[Nat.zero_add]at f1 f3;have HC:Hid (∀v,Below (w.alloc (.cells #[v0,.slice p1 n q1,v2,.slice p3 N q3] 27)).heap.size (w.alloc (.cells #[v0,.slice p1 n q1,v2,.slice p3 N q3] 27)) v->v.cell? ⟨w.heap.size,1,none⟩=some (.slice p1 n q1)/\v.cell? ⟨w.heap.size,3,none⟩=some (.slice p3 N q3)):=fun v hv=>⟨kc hv f1,kc hv f3⟩
  clear hat hv hr hr3 hr1 hPr hnn hNN hk htm f1 f3;go_enter func15,ntmps15;go_wp2_with(go_at_call 31;refine HK1.out.mono ?_;rintro e w1 ⟨rfl,hb1⟩;obtain⟨g1,g3⟩:=HC.out w1 hb1;have g4:((w1.alloc (.cells (madeCells #[.bool false] n) 4)).alloc (.cells #[.pointer (some ⟨w.heap.size,0,none⟩),.slice (some ⟨w1.heap.size,0,none⟩) n n,.slice none 0 0,.slice none 0 0] 103)).cell? ⟨w.heap.size,3,none⟩=some (.slice p3 N q3):=kc (Zhq _ _) (kc (Zhq _ _) g3));have HB1:Hid (Below w.heap.size w w1):=bel (Zhq _ _) hb1;have HAT1:Hid (CdAt w1 w.heap.size v0 (.slice p1 n q1) v2 (.slice p3 N q3) c):=HAT.out.below hb1;have hs1:w.heap.size<w1.heap.size:=by have:=hb1.size;simp at this;omega
  have HS0:=WS.start w1 w.heap.size n;have HB0:Below w1.heap.size w1 ((w1.alloc (.cells (madeCells #[.bool false] n) 4)).alloc (.cells #[.pointer (some ⟨w.heap.size,0,none⟩),.slice (some ⟨w1.heap.size,0,none⟩) n n,.slice none 0 0,.slice none 0 0] 103)):=bel (Zhq _ _) (Zhq _ _);obtain⟨W2,hW2⟩:∃W2,(w1.alloc (.cells (madeCells #[.bool false] n) 4)).alloc (.cells #[.pointer (some ⟨w.heap.size,0,none⟩),.slice (some ⟨w1.heap.size,0,none⟩) n n,.slice none 0 0,.slice none 0 0] 103)=W2:=⟨_,rfl⟩
  rw[hW2]at HS0 HB0;try rw[hW2]
  clear HK1 HC hb1 mk HAT g4 hW2
  go_loopw [19] (fun iv wr=>∃ (j:Nat) (s:Wk) (vs vo:Value),j<=N/\iv=.int .i64 j/\Below w1.heap.size w1 wr/\WS w1.heap.size (w1.heap.size+1) w.heap.size n w1.heap.size vs vo wr s/\OkS n s/\Hid (goP c s j (c.list.drop j)=Pr)) (fun iv _=>N-(intOf iv).toNat)
  case atStart=>exact⟨0,⟨[],[]⟩,_,_,Nat.zero_le _,rfl,HB0,HS0,OkS.start n,by show _=_;rw[List.drop_zero];exact HP.out⟩
  case round=>
   obtain⟨j,s,vs,vo,hj,rfl,hb,hws,hok,hgo⟩:=hrel;have HWS:Hid (WS w1.heap.size (w1.heap.size+1) w.heap.size n w1.heap.size vs vo wr s):=hws;have HOK:Hid (OkS n s):=hok;have HBW:Hid (Below w1.heap.size w1 wr):=hb;have d3:=kc hb g3;have l3:=hws.c3;have hol:∃p q,vo=.slice p s.opens.length q:=Zjl hws.opn;have hnest:=hok.nest;clear HS0 HB0;by_cases hlt:j<N
   ·have hll:j<c.list.length:=by rw[HNL.out];exact hlt
    have hgo':=hgo.out;rw[List.drop_eq_getElem_cons hll]at hgo';have hgi:goP c s j (c.list[j]::c.list.drop (j+1))=if Zjb c s c.list[j]then goP c (Zib s c.list[j]) (j+1) (c.list.drop (j+1))else(160,(j:Int)):=rfl;rw[hgi]at hgo';obtain⟨b,o,rfl,hx⟩:=HROW.out.at hll;have hbw:b<w.heap.size:=Zhr (hx 0 (by simp[inC]));have hxw:=(hx.below HB1.out).below hb;have KT:=Zabl w1.heap.size (w1.heap.size+1) w.heap.size n w1.heap.size vs vo s v0 (.slice p1 n q1) v2 (.slice (some ⟨b,o,none⟩) N q3) c HOKC.out b (o+j*7) c.list[j] wr hws HNE.out hok hn (HAT1.out.below hb) hxw oM HTM.out (HIB.out _ (List.getElem_mem hll)).1 (HIB.out _ (List.getElem_mem hll)).2;have hokS:Zjb c s c.list[j]=true->OkS n (Zib s c.list[j]):=fun ht=>by
     have hq:OkS c.regs.length s:=by rw[HNE.out];exact hok
     have:=OkS.step hq ht;rw[HNE.out]at this;exact this
    obtain⟨X,hX⟩:∃X,Zjb c s c.list[j]=X:=⟨_,rfl⟩
    rw[hX]at hgo' hokS;simp only[hX]at KT;have HKT:Hid (Calls prog 32 #[.pointer (some ⟨w1.heap.size+1,0,none⟩),.pointer (some ⟨b,o+j*7,none⟩)] wr fun e w'=>e=.returned (.bool X)/\Below w1.heap.size wr w'/\(X=true->∃vs' vo',WS w1.heap.size (w1.heap.size+1) w.heap.size n w1.heap.size vs' vo' w' (Zib s c.list[j]))):=KT;have HGO:Hid ((if X=true then goP c (Zib s c.list[j]) (j+1) (c.list.drop (j+1))else(160,(j:Int)))=Pr):=hgo';have HOS:Hid (X=true->OkS n (Zib s c.list[j])):=hokS;have i1:(0:Int)<=(j:Int):=oM;have i2:(j:Int)<(N:Int):=oM;clear KT hgo hgo' hgi hokS hX hx hxw hws hok hb hol l3;cases X
    ·go_wp2_with(go_at_call 32;refine HKT.out.mono ?_;rintro e w5 ⟨rfl,hb5,hw5⟩;have HB5:Hid (Below w1.heap.size wr w5):=hb5;clear hb5 hw5)
     go_ret2
     refine⟨?_,bel HB1.out (HBW.out.trans HB5.out)⟩;have:=HGO.out;rw[if_neg dE]at this;rw[←this];rfl
    ·go_wp2_with(go_at_call 32;refine HKT.out.mono ?_;rintro e w5 ⟨rfl,hb5,hw5⟩;have HB5:Hid (Below w1.heap.size wr w5):=hb5;have HW5:Hid (∃vs' vo',WS w1.heap.size (w1.heap.size+1) w.heap.size n w1.heap.size vs' vo' w5 (Zib s c.list[j])):=hw5 fT;clear hb5 hw5);go_roundw
     case rel=>
      obtain⟨vs',vo',hw5⟩:=HW5.out;exact⟨j+1,_,vs',vo',oM,gN,HBW.out.trans HB5.out,hw5,HOS.out fT,by show _=_;have:=HGO.out;rw[if_pos fT]at this;exact this⟩
     case measure=>simp[intOf];omega
   ·have:j=N:=oM;subst this;have hgo':=hgo.out;rw[List.drop_of_length_le (by rw[HNL.out];exact Nat.le_refl _)]at hgo';have hgi:goP c s j []=if s.opens.isEmpty then(0,0)else(160,(j:Int)):=rfl;rw[hgi]at hgo';obtain⟨p,q,rfl⟩:=hol;obtain⟨M,hM⟩:∃M,s.opens.length=M:=⟨_,rfl⟩
    rw[hM]at l3 hnest;have hE:s.opens.isEmpty=decide (M=0):=by
     rw[←hM];cases s.opens with
     |nil=>rfl
     |cons a l=>simp
    rw[hE]at hgo';have HGO:Hid ((if decide (M=0)=true then((0:Int),(0:Int))else(160,(j:Int)))=Pr):=hgo';clear hgo hgo' hgi hE hM hws hok hb;by_cases hz:M=0
    ·subst hz;go_wp2
     go_ret2
     refine⟨?_,bel HB1.out HBW.out⟩;rw[←HGO.out];rfl
    ·have hz':(0:Int)<(M:Int):=oM;have hz2:0<M:=oM;have HZ:Hid (¬M=0):=hz;clear hz;go_wp2;refine rG (fun v=>v.cell? ⟨w.heap.size,3,none⟩=some (.slice p3 j q3)) fun hHeld=>?_;refine Tc 0 1 2 ?_;refine Tb 3 4 ?_;refine wpAnyH_done kR ?_ _;go_wp2
     go_ret2
     refine⟨?_,(bel HB1.out HBW.out).drew⟩;have:=HGO.out;rw[if_neg (by simpa using HZ.out)]at this;rw[←this];rfl
 ·rw[if_pos h0];have h0':(A==0)=false:=by simpa using h0
  go_enter func15,ntmps15;go_wp2_with(go_at_call 31;refine HK1.out.mono ?_;rintro e w1 ⟨rfl,hb1⟩)
  all_goals(go_ret2;exact⟨rfl,bel (Zhq _ _) hb1⟩)
def IsP(a:Int):Prop:=0<=a/\a<4294967296
theorem Zmv(a:Int)(h:IsP a):IsP (canon a):=Znp a h.1 h.2
theorem Zxf(a b:Int):IsP (fadd a b):=Zagd a b
theorem isP_sub(a b:Int):IsP (fsub a b):=fsub_lo a b
theorem isP_mul(a b:Int):IsP (fmul a b):=Znd a b
theorem isP_div(a b:Int):IsP (fdiv a b):=fdiv_lo a b
theorem Zaoz(a:Int):IsP (Zks a):=Zaoj a
theorem isP_neg(a:Int)(h:IsP a):IsP (fneg a):=Zaeq a h.1 h.2
theorem isP_abs(a:Int)(h:IsP a):IsP (fabs a):=Znp _ (by have:=h.1;omega) (by have:=h.1;omega)
theorem Zui(a b:Int)(h:IsP a)(k:IsP b):IsP (fmin a b):=by
 have h1:=h.1;have h2:=h.2;have k1:=k.1;have k2:=k.2;unfold IsP fmin;split
 ·decide
 ·exact h
 ·exact k
 ·split
  ·exact h
  ·exact k
theorem isP_max(a b:Int)(h:IsP a)(k:IsP b):IsP (fmax a b):=by
 have h1:=h.1;have h2:=h.2;have k1:=k.1;have k2:=k.2;unfold IsP fmax;split
 ·decide
 ·exact k
 ·exact h
 ·split
  ·exact k
  ·exact h
theorem isP_sel(c a b:Int)(h:IsP a)(k:IsP b):IsP (fsel c a b):=by
 unfold fsel;split
 ·exact Zmv b k
 ·exact Zmv a h
def Zqc(f:Int->Int->Int)(s:Int)(X:Nat->Int):Nat->Int
 |0=>s
 |n+1=>f (Zqc f s X n) (X n)
theorem Zoy{f:Int->Int->Int}(hf:∀a b,IsP a->IsP b->IsP (f a b)){s:Int}(hs:IsP s){X:Nat->Int}(hX:∀i,IsP (X i)):∀n,IsP (Zqc f s X n)
 |0=>hs
 |n+1=>hf _ _ (Zoy hf hs hX n) (hX n)
def fsum(X:Nat->Int)(n:Nat):Int:=Zqc fadd 0 X n
def Zmh(X:Nat->Int)(n:Nat):Int:=Zqc fmin 2139095040 X n
theorem Zqb:IsP 0:=by unfold IsP;decide
theorem isP_sum(X:Nat->Int)(n:Nat)(hX:∀i,IsP (X i)):IsP (fsum X n):=Zoy (fun _ _ _ _=>Zagd _ _) Zqb hX n
def Zjq(op:Int):Nat:=
 if op=3\/op=11\/op=12\/op=13\/op=14 then 1 else if op=4\/op=5\/op=6\/op=7\/op=8\/op=9\/op=10 then 2 else if op=15 then 3 else 0
def flag(b:Bool):Int:=if b then 1065353216 else 0
theorem Zacd(b:Bool):IsP (flag b):=by unfold IsP flag;cases b<;>decide
theorem Zkd{c:Prop}[Decidable c]{a b:Int}(h:IsP a)(k:IsP b):IsP (if c then a else b):=by
 split
 ·exact h
 ·exact k
def opf(op a b c:Int):Int:=
 if op=3 then canon a else if op=11 then Zks a else if op=12 then fneg a else if op=13 then fabs a else if op=14 then flag (ffin a)
 else if op=4 then fadd a b else if op=5 then fsub a b else if op=6 then fmul a b else if op=7 then fdiv a b else if op=8 then fmin a b else if op=9 then fmax a b
 else if op=10 then flag (Zpd a b)else fsel a b c
theorem Zxg(op a b c:Int)(ha:IsP a)(hb:IsP b)(hc:IsP c):IsP (opf op a b c):=
 Zkd (Zmv a ha) (Zkd (Zaoz a) (Zkd (isP_neg a ha) (Zkd (isP_abs a ha) (Zkd (Zacd _) (Zkd (Zxf a b) (Zkd (isP_sub a b) (Zkd (isP_mul a b)
  (Zkd (isP_div a b) (Zkd (Zui a b ha hb) (Zkd (isP_max a b ha hb) (Zkd (Zacd _) (isP_sel a b c hb hc))))))))))))
def insV(i:Ins):Value:=.agg #[.int .i64 i.op,.int .i64 i.d,.int .i64 i.a,.int .i64 i.b,.int .i64 i.c,.int .i64 i.n,.int .u32 i.bits]
theorem Zamv{w v:World}{i:Ins}{t:TypeId}(k:Below (w.alloc (.cells #[.int .i64 i.op,.int .i64 i.d,.int .i64 i.a,.int .i64 i.b,.int .i64 i.c,.int .i64 i.n,.int .u32 i.bits] t)).heap.size (w.alloc (.cells #[.int .i64 i.op,.int .i64 i.d,.int .i64 i.a,.int .i64 i.b,.int .i64 i.c,.int .i64 i.n,.int .u32 i.bits] t)) v):Zhx v w.heap.size 0 (inC i):=by
 refine Zhx.below (fun j hj=>?_) k;have hj':j<7:=hj;obtain rfl|rfl|rfl|rfl|rfl|rfl|rfl:j=0\/j=1\/j=2\/j=3\/j=4\/j=5\/j=6:=oM
 all_goals simp[go_sem,inC]
theorem Zamj(i:Ins)(w:World):Calls prog 118 #[insV i] w fun e w'=>∃v,e=.returned v/\w'.ownsRow w.heap.size 3 1 v (Zid i (rowP i.op)).length (i64s (Zid i (rowP i.op)))/\Below w.heap.size w w':=by
 have K1:=fun w=>Zzh i.op w;have K2:=fun w h=>Zsz w.heap.size 0 i (rowP i.op) w h;clear K2;have K3:=fun b v h=>Zsz b 0 i (rowP i.op) v h;have HIC:=fun(v:World) k=>Zamv (w:=w) (v:=v) (i:=i) (t:=45) k;obtain⟨r,hr⟩:∃r,rowP i.op=r:=⟨_,rfl⟩
 obtain⟨X,hX⟩:∃X,Zih i.op=X:=⟨_,rfl⟩
 simp only[hr,hX]at K1 K3 ⊢;obtain⟨RL,hRL⟩:∃x,Zid i r=x:=⟨_,rfl⟩
 simp only[hRL]at K3 ⊢;obtain⟨L0,L1,L2,L3,L4⟩:=r;obtain⟨op,D,A,B,E,n,bt⟩:=i;unfold insV;unfold rwV at K1 K3;simp only at K1 K3 HIC ⊢;have HK:Hid (∀w,Calls prog 53 #[.int .i64 op] w fun e w'=>e=.returned (.tuple #[.agg #[.int .i64 L0,.int .i64 L1,.int .i64 L2,.int .i64 L3,.int .i64 L4],.bool X])/\Below w.heap.size w w'):=K1;have HK3:Hid (∀b v,Zhx v b 0 (inC ⟨op,D,A,B,E,n,bt⟩)->Calls prog 56 #[.agg #[.int .i64 L0,.int .i64 L1,.int .i64 L2,.int .i64 L3,.int .i64 L4],.pointer (some ⟨b,0,none⟩)] v fun e w'=>∃u,e=.returned u/\w'.ownsRow v.heap.size 3 1 u RL.length (i64s RL)/\Below v.heap.size v w'):=K3;have HCC:Hid (∀v,Below (w.alloc (.cells #[.int .i64 op,.int .i64 D,.int .i64 A,.int .i64 B,.int .i64 E,.int .i64 n,.int .u32 bt] 45)).heap.size (w.alloc (.cells #[.int .i64 op,.int .i64 D,.int .i64 A,.int .i64 B,.int .i64 E,.int .i64 n,.int .u32 bt] 45)) v->Zhx v w.heap.size 0 (inC ⟨op,D,A,B,E,n,bt⟩)):=HIC;clear K1 K3 HIC hr hX hRL;go_enter func118,ntmps118;go_wp2_with(first
  |(go_at_call 53;refine(HK.out _).mono ?_;rintro e w1 ⟨rfl,hb1⟩)
  |(go_at_call 56;refine(HK3.out _ _ (HCC.out _ (bel hb1 (Zhq _ _)))).mono ?_;rintro e w2 ⟨u,rfl,hu,hb2⟩;have HU:Hid (w2.ownsRow (w1.alloc (.cells #[.int .i64 L0,.int .i64 L1,.int .i64 L2,.int .i64 L3,.int .i64 L4] 134)).heap.size 3 1 u RL.length (i64s RL)):=hu;have HB2:Hid (Below w.heap.size w w2):=bel (bel (bel (Zhq _ _) hb1) (Zhq _ _)) hb2;have hs:w.heap.size<=(w1.alloc (.cells #[.int .i64 L0,.int .i64 L1,.int .i64 L2,.int .i64 L3,.int .i64 L4] 134)).heap.size:=(bel (bel (Zhq _ _) hb1) (Zhq _ _)).size;have HSZ:Hid (w.heap.size<=(w1.alloc (.cells #[.int .i64 L0,.int .i64 L1,.int .i64 L2,.int .i64 L3,.int .i64 L4] 134)).heap.size):=hs;clear hu hb2 hs))
 go_ret;exact⟨_,rfl,Zna HU.out HSZ.out,HB2.out⟩
def flat{α:Type}(f:α->List Value)(l:List α):List Value:=l.flatMap f
theorem Zoo{α:Type}{f:α->List Value}{k:Nat}(hf:∀x,(f x).length=k):∀l:List α,(flat f l).length=l.length*k
 |[]=>by simp[flat]
 |a::l=>by
  have e:flat f (a::l)=f a++flat f l:=by simp[flat]
  rw[e,List.length_append,Zoo hf l,hf,List.length_cons,Nat.add_mul,Nat.one_mul,Nat.add_comm]
theorem Zua{α:Type}{f:α->List Value}{k:Nat}(hf:∀x,(f x).length=k):∀ (l:List α) (i j:Nat) (hi:i<l.length),j<k->(flat f l)[i*k+j]? =(f l[i])[j]?
 |[],i,j,hi,hj=>absurd hi (Nat.not_lt_zero _)
 |a::l,0,j,hi,hj=>by
  have e:flat f (a::l)=f a++flat f l:=by simp[flat]
  rw[e,Nat.zero_mul,Nat.zero_add,List.getElem?_append_left (by rw[hf];exact hj)];rfl
 |a::l,i+1,j,hi,hj=>by
  have e:flat f (a::l)=f a++flat f l:=by simp[flat]
  have e2:(i+1)*k+j-(f a).length=i*k+j:=by rw[hf,Nat.add_mul,Nat.one_mul];omega
  rw[e,List.getElem?_append_right (by rw[hf,Nat.add_mul,Nat.one_mul];omega),e2];exact Zua hf l i j (by simpa using hi) hj
theorem Zrl{α:Type}(f:α->List Value)(l m:List α):flat f (l++m)=flat f l++flat f m:=by simp[flat]
theorem Zod{α:Type}{f:α->List Value}{k:Nat}(hf:∀x,(f x).length=k){w:World}{B:Nat}{t:TypeId}{v:Value}{l:List α}(h:w.ownsRow B t k v l.length (flat f l)):RowG k f w v l:=by
 by_cases h0:l=[]
 ·subst h0;obtain⟨p,c,hv⟩:=Zjl h;exact⟨p,c,hv,.inl rfl⟩
 ·obtain⟨g,cap,hv,_,_,_,_,hcl⟩:=Zns h (List.length_pos_iff.2 h0);refine⟨_,cap,hv,.inr ⟨g,0,rfl,fun i hi j hj=>?_⟩⟩;rw[Nat.zero_add];exact hcl _ _ (by rw[Zua hf l i j hi (by rw[←hf l[i]];exact hj)];exact List.getElem?_eq_getElem hj)
theorem Zabk(b o j:Nat):(⟨b,o,none⟩:Addr).add j=⟨b,o+j,none⟩:=by unfold Addr.add;split<;>simp_all
theorem Zyg{α:Type}{f:α->List Value}{k:Nat}(hk:0<k)(hf:∀x,(f x).length=k){w:World}{b o:Nat}{l:List α}(h:∀i (hi:i<l.length),Zhx w b (o+i*k) (f l[i]))(j:Nat)(u:Value)(hu:(flat f l)[j]? =some u):w.cell? ((⟨b,o,none⟩:Addr).add j)=some u:=by
 have hj:j<l.length*k:=by have:=(List.getElem?_eq_some_iff.1 hu).1;rwa[Zoo hf]at this
 have hi:j/k<l.length:=Nat.div_lt_of_lt_mul (by rw[Nat.mul_comm];exact hj);have hm:j%k<k:=Nat.mod_lt _ hk;have e:j=j/k*k+j%k:=by rw[Nat.mul_comm];exact(Nat.div_add_mod j k).symm
 rw[e,Zua hf l _ _ hi hm]at hu;rw[Zabk];have:=(h _ hi).at _ hu;rw[Nat.add_assoc,←e]at this;exact this
theorem Zoq{α:Type}{f:α->List Value}{k bytes:Nat}{t e:TypeId}{z:Value}{i:TypeInfo}(hk:0<k)(hf:∀x,(f x).length=k)(h1:∀x,∀u∈f x,u.oneCell'=true)(ht:prog.underlying t=some (.slice e))(hi:prog.info? e=some i)(hz:i.zero=some z)(hsize:i.size=k)(hby:i.bytes=bytes)(hzs:z.cells.size=k)
 {l:List α} {v:Value} {w:World} (h:RowG k f w v l) (hl:l.length<=maxLen) (hb:l.length*bytes<=140737488355328) (ty:TypeId):
 ∃v' w',(Builtin.append_ #[t,t] ty #[.slice none 0 0,v]).run prog w=.ok v' w'/\Below w.heap.size w w'/\w'.ownsRow w.heap.size e k v' l.length (flat f l):=by
 obtain⟨p,c,rfl,h⟩:=h;by_cases h0:l=[]
 ·subst h0;refine⟨.slice none 0 0,w,?_,Below.refl _ _,⟨by simp[flat],.inl ⟨rfl,rfl⟩⟩⟩;exact Zdg
 ·obtain⟨b,o,rfl,h2⟩:=h.resolve_left h0;have hpos:0<l.length:=List.length_pos_iff.2 h0;obtain⟨g,cap,w',hr,hown,hg,hat,hlt⟩:=run_append_lies (P:=prog) w t ty w.heap.size e i z k bytes ht hi hz hsize hby hzs hk (.slice none 0 0) 0 [] (World.ownsRow_nil w _ _ k) ⟨b,o,none⟩ l.length c (flat f l) (Zoo hf l) (Zyg hk hf h2) Zgt hpos oM (by rw[Nat.zero_add];exact hb) (Nat.le_refl _) w.heap.size rfl;rw[Nat.zero_add]at hr hown;exact⟨_,w',hr,⟨hg.os,hg.tape,hg.output,hg.size,fun j hj=>hg.block j hj (by show some j≠none;simp)⟩,by rw[List.nil_append]at hown;exact hown⟩
theorem Zit{P:Program}{w w':World}{ops:Array Oper}{rest:List Oper}{o:Oper}{a:Act}{Q:Exit->Act->World->Prop}(hgd:o.guard=none)(s x:Operand)(t:TypeId)
 (ho:o.op=.call {callee:=.builtin .append,args:=#[s,x],argTypes:=#[t,t]}) (v v2 v':Value) (hs:a.eval s=v) (hx:a.eval x=v2) (hr:(Builtin.append_ #[t,t] o.type #[v,v2]).run P w=.ok v' w')
 (h:wpList P ops Q rest (a.put o.dst v') w'):wpList P ops Q (o::rest) a w:=
 wpList_plain hgd fun _ hK=>by
  unfold Oper.wp execOp;simp only[ho,resolve,invoke,builtin,Sem.run_bind,Sem.run_pure,Result.andThen_ok,List.map_toArray,List.map_cons,List.map_nil,hs,hx,hr];exact hK _ _ h
theorem Zaeb:∀x:Ins,∀u∈inC x,u.oneCell'=true:=fun x u hu=>by simp[inC]at hu;rcases hu with rfl|rfl|rfl|rfl|rfl|rfl|rfl<;>rfl
theorem Zyb:(prog.info? 45).map (fun i=>(i.zero,i.size,i.bytes))=some (some (.agg #[.int .i64 0,.int .i64 0,.int .i64 0,.int .i64 0,.int .i64 0,.int .i64 0,.int .u32 0]),7,56):=kR
theorem app_ins{l:List Ins}{v:Value}{w:World}(h:RowG 7 inC w v l)(hl:l.length*56<=140737488355328)(ty:TypeId):
 ∃v' w',(Builtin.append_ #[25,25] ty #[.slice none 0 0,v]).run prog w=.ok v' w'/\Below w.heap.size w w'/\w'.ownsRow w.heap.size 45 7 v' l.length (flat inC l):=by
 obtain⟨i0,hi0,hz0,hz1,hz2⟩:=info_parts Zyb;exact Zoq dE Zqe Zaeb underlying25 hi0 hz0 hz1 hz2 rfl h mL hl ty
def EntV(k:Nat):Prop:=∀ (args:Array Value) (w:World),(callFunc k args).run prog w=.ok (.enter k args) w
theorem Zwr(k:Nat)(hen:EntV k)(f:Int->Int->Int)(hf:∀a b,IsP a->IsP b->IsP (f a b))
 (hk:∀a b (v:World),IsP a->IsP b->Calls prog k #[.int .u32 a,.int .u32 b] v fun e v'=>e=.returned (.int .u32 (f a b))/\Below v.heap.size v v')
 (s:Int) (hs:IsP s) (p:Option Addr) (n c:Nat) (X:Nat->Int) (hX:∀i,IsP (X i)) (hn:n<=1048576) (w:World) (hp:Zio w p n (fun i=>.int .u32 (X i))):
 Calls prog 141 #[.int .u32 s,.slice p n c,.func (.func k) #[] #[]] w fun e w'=>e=.returned (.int .u32 (Zqc f s X n))/\Below w.heap.size w w':=by
 unfold EntV at hen;go_enter func141,ntmps141;go_wp2
 go_loopw [0,11] (fun sv iv wr=>Below w.heap.size w wr/\∃j:Nat,j<=n/\iv=.int .i64 j/\sv=.int .u32 (Zqc f s X j)) (fun _ iv _=>n-(intOf iv).toNat)
 case atStart=>exact⟨Zkp w,0,Nat.zero_le _,rfl,rfl⟩
 case round=>
  obtain⟨hb,j,hj,rfl,rfl⟩:=hrel;by_cases hlt:j<n
  ·rcases hp with hp|⟨b,o,rfl,hp⟩
   ·omega
   have hbl:b<w.heap.size:=Zkk (hp j hlt);have h1:wr.cell? ⟨b,o+j,none⟩=some (.int .u32 (X j)):=(hb.cell hbl).trans (hp j hlt);have i1:(0:Int)<=(j:Int):=oM;have i2:(j:Int)<(n:Int):=oM;have hk1:=hk (Zqc f s X j) (X j) wr (Zoy hf hs hX j) (hX j);have HK:Hid (Calls prog k #[.int .u32 (Zqc f s X j),.int .u32 (X j)] wr fun e v'=>e=.returned (.int .u32 (Zqc f s X (j+1)))/\Below wr.heap.size wr v'):=hk1;clear hp hk hk1;go_wp2_with((with_reducible refine HK.out.mono ?_);rintro e w1 ⟨rfl,hb1⟩);exact Zeb
  ·have:j=n:=oM;subst this;clear hp hk;go_wp2;go_ret;exact⟨rfl,hb⟩
theorem sum_any(p:Option Addr)(n c:Nat)(X:Nat->Int)(hX:∀i,IsP (X i))(hn:n<=1048576)(w:World)(hp:Zio w p n (fun i=>.int .u32 (X i))):
 Calls prog 111 #[.slice p n c] w fun e w'=>e=.returned (.int .u32 (fsum X n))/\Below w.heap.size w w':=by
 go_enter func111,ntmps111;go_wp2_with(go_at_call 141;refine(Zwr 142 (enters_of func142 kR rfl) fadd (fun _ _ _ _=>Zxf _ _) (fun a b v ha hb=>Zagg a ha.1 ha.2 b hb.1 hb.2 v) 0 Zqb _ _ _ X hX hn _ hp).mono ?_;rintro e w1 ⟨rfl,hb1⟩);go_ret;exact⟨rfl,hb1⟩
theorem Zame(p:Option Addr)(n c:Nat)(X:Nat->Int)(hX:∀i,IsP (X i))(hn:n<=1048576)(w:World)(hp:Zio w p n (fun i=>.int .u32 (X i))):
 Calls prog 112 #[.slice p n c] w fun e w'=>e=.returned (.int .u32 (Zmh X n))/\Below w.heap.size w w':=by
 go_enter func112,ntmps112;go_wp2_with(go_at_call 141;refine(Zwr 143 (enters_of func143 kR rfl) fmin Zui (fun a b v ha hb=>Zafg a ha.1 ha.2 b hb.1 hb.2 v) 2139095040 Zgw _ _ _ X hX hn _ hp).mono ?_;rintro e w1 ⟨rfl,hb1⟩);go_ret;exact⟨rfl,hb1⟩
theorem Zth(k:Nat)(hen:EntV k)(cap:Array Value)(n:Nat)(Y:Nat->Int)(hn:n<=1048576)(w:World)
 (hk:∀ (i:Nat) (v:World),i<n->Below w.heap.size w v->Calls prog k (#[.int .i64 i]++cap) v fun e v'=>e=.returned (.int .u32 (Y i))/\Below v.heap.size v v'):
 Calls prog 99 #[.int .i64 n,.func (.func k) #[] cap] w fun e w'=>∃g,e=.returned (.slice (some ⟨g,0,none⟩) n n)/\w.heap.size<=g/\w'.rowIs g 43 n (fun i=>.int .u32 (Y i))/\Below w.heap.size w w':=by
 have hmk:=Zvw n oM;unfold EntV at hen;go_enter func99,ntmps99;go_wp2
 go_loopw [11] (fun iv wr=>Below w.heap.size w wr/\∃j:Nat,j<=n/\iv=.int .i64 j/\Hid (wr.rowIs w.heap.size 43 n (fun i=>.int .u32 (if i<j then Y i else 0)))) (fun iv _=>n-(intOf iv).toNat)
 case atStart=>exact⟨gG,0,Nat.zero_le _,rfl,(World.rowIs_made w _ n _).congr fun i hi=>by simp⟩
 case round=>
  obtain⟨hb,j,hj,rfl,hrow⟩:=hrel;clear hmk;by_cases hlt:j<n
  ·have HK:=hk j wr hlt hb;have HKH:Hid (Calls prog k (#[.int .i64 j]++cap) wr fun e v'=>e=.returned (.int .u32 (Y j))/\Below wr.heap.size wr v'):=HK;have i1:(0:Int)<=(j:Int):=oM;have i2:(j:Int)<(n:Int):=oM;clear hk HK;go_wp2_with((with_reducible refine HKH.out.mono ?_);(rintro e w1 ⟨rfl,hb1⟩;have r1:=Zaky hrow.out hb1;have c1:=r1.cell (i:=j) hlt;have f1:=r1.frozen j;have HR:Hid (w1.rowIs w.heap.size 43 n (fun i=>.int .u32 (if i<j then Y i else 0))):=r1;clear r1));go_roundw
   case rel=>exact⟨(belV hb hb1).setCell (Nat.le_refl _) _,j+1,oM,gN,(HR.out.set j _).congr fun i hi=>by by_cases e:i=j<;>by_cases e2:i<j<;>simp[e,e2]<;>omega⟩
   case measure=>simp[intOf];omega
  ·have:j=n:=oM;subst this;clear hk;go_wp2;go_ret;exact⟨_,rfl,Nat.le_refl _,hrow.out.congr fun i hi=>by rw[if_pos hi],hb⟩

def vals(X:Nat->Value)(n:Nat):List Value:=(List.range n).map X
theorem vals_at(X:Nat->Value)(n i:Nat)(h:i<n):(vals X n)[i]? =some (X i):=by simp[vals,h]
theorem Zzp(X:Nat->Value)(n:Nat):vals X (n+1)=vals X n++[X n]:=by unfold vals;rw[List.range_succ];simp
theorem Zze{w:World}{base:Nat}{e:TypeId}{v:Value}{n:Nat}{X:Nat->Value}(h:w.ownsRow base e 1 v n (vals X n)):
 ∃q cap,v=.slice q n cap/\Zio w q n X/\(∀b o s,q=some ⟨b,o,s⟩->base<=b)/\(q=none->n=0/\cap=0)/\n<=cap:=by
 rcases h.2 with⟨rfl,hx⟩|⟨g,cap,cur,rfl,hb,hg,rest⟩
 ·subst hx;exact⟨none,0,rfl,.inl rfl,fun b o s e=>(by cases e),fun _=>⟨rfl,rfl⟩,Nat.le_refl _⟩
 ·refine⟨some ⟨g,0,none⟩,cap,rfl,.inr ⟨g,0,rfl,fun i hi=>?_⟩,fun b o s e=>(by cases e;exact hb),fun e=>(by cases e),rest.1⟩;have:=h.cells (g:=g) rfl i (X i) (vals_at X n i hi);rw[Nat.zero_add];by_cases c:i=0
  ·subst c;simpa[Addr.add]using this
  ·simpa[Addr.add,c]using this
theorem info_I:(prog.info? 3).map (fun i=>(i.zero,i.size,i.bytes))=some (some (.int .i64 0),1,8):=kR
theorem Zakb(x:Int)(hx:IsP x)(i g:Nat)(w:World)(hg:w.cell? ⟨g,0,none⟩=some (.int .u32 x)):
 Calls prog 100 #[.int .i64 i,.pointer (some ⟨g,0,none⟩)] w fun e w'=>e=.returned (.int .u32 (canon x))/\Below w.heap.size w w':=by
 go_enter func100,ntmps100;go_wp2_with(go_at_call 101;refine(Zmd _ hx.1 hx.2 _).mono ?_;rintro e w' ⟨rfl,hw'⟩;obtain rfl:=hw'.symm);go_ret;exact⟨rfl,Zkp _⟩
theorem Zamc(n:Nat)(x:Int)(hx:IsP x)(hn:n<=65536)(w:World):
 Calls prog 58 #[.int .i64 n,.int .u32 x] w fun e w'=>∃g,e=.returned (.tuple #[.slice (some ⟨g,0,none⟩) n n,.int .i64 0])/\w.heap.size<=g/\w'.rowIs g 43 n (fun i=>.int .u32 (canon x))/\Below w.heap.size w w':=by
 have h1:¬ ((n:Int)<0):=oM;have h2:(n:Int)<=65536:=oM;go_enter func58,ntmps58;go_wp2_with(go_at_call 99;refine(Zth 100 (enters_of func100 kR rfl) #[.pointer (some ⟨w.heap.size,0,none⟩)] n (fun _=>canon x) oM _ (fun i v hi hv=>Zakb x hx i w.heap.size v ((hv.cell sM).trans sM))).mono ?_;rintro e w1 ⟨g,rfl,hg,hr,hb1⟩;have HR:Hid (w1.rowIs g 43 n (fun i=>.int .u32 (canon x))):=hr;clear hr);go_returns;exact⟨_,rfl,by
  have:w.heap.size+1<=g:=by simpa using hg
  omega,HR.out,belV (Zje w _) hb1⟩
theorem Zamf(p:Option Addr)(n c:Nat)(X:Nat->Int)(hX:∀i,IsP (X i))(hn:n<=1048576)(w:World)(hp:Zio w p n (fun i=>.int .i64 (X i))):
 Calls prog 82 #[.slice p n c] w fun e w'=>e=.returned (.int .i64 (fsum X n))/\Below w.heap.size w w':=by
 go_enter func82,ntmps82;go_wp2
 go_loopw [3,4] (fun sv iv wr=>Below w.heap.size w wr/\∃j:Nat,j<=n/\iv=.int .i64 j/\sv=.int .i64 (fsum X j)) (fun _ iv _=>n-(intOf iv).toNat)
 case atStart=>exact⟨Zkp w,0,Nat.zero_le _,rfl,rfl⟩
 case round=>
  obtain⟨hb,j,hj,rfl,rfl⟩:=hrel;by_cases hlt:j<n
  ·rcases hp with hp|⟨b,o,rfl,hp⟩
   ·omega
   have hbl:b<w.heap.size:=Zkk (hp j hlt);have h1:wr.cell? ⟨b,o+j,none⟩=some (.int .i64 (X j)):=(hb.cell hbl).trans (hp j hlt);have i1:(0:Int)<=(j:Int):=oM;have i2:(j:Int)<(n:Int):=oM;have s1:IsP (fsum X j):=Zoy (fun _ _ _ _=>Zxf _ _) Zgw hX j;have x1:=hX j;clear hp hX;go_wp2_with(go_at_call 125;refine(Zvg _ s1.1 s1.2 _ x1.1 x1.2 _).mono ?_;rintro e w1 ⟨rfl,hb1⟩);exact Zeb
  ·have:j=n:=oM;subst this;clear hp hX;go_wp2;go_ret;exact⟨rfl,hb⟩
theorem Zaii(p:Option Addr)(n c:Nat)(X:Nat->Int)(hX:∀i,IsP (X i))(hn:n<=1048576)(w:World)(hp:Zio w p n (fun i=>.int .i64 (X i))):
 Calls prog 83 #[.slice p n c] w fun e w'=>e=.returned (.int .i64 (Zmh X n))/\Below w.heap.size w w':=by
 go_enter func83,ntmps83;go_wp2
 go_loopw [3,4] (fun sv iv wr=>Below w.heap.size w wr/\∃j:Nat,j<=n/\iv=.int .i64 j/\sv=.int .i64 (Zmh X j)) (fun _ iv _=>n-(intOf iv).toNat)
 case atStart=>exact⟨Zkp w,0,Nat.zero_le _,rfl,rfl⟩
 case round=>
  obtain⟨hb,j,hj,rfl,rfl⟩:=hrel;by_cases hlt:j<n
  ·rcases hp with hp|⟨b,o,rfl,hp⟩
   ·omega
   have hbl:b<w.heap.size:=Zkk (hp j hlt);have h1:wr.cell? ⟨b,o+j,none⟩=some (.int .i64 (X j)):=(hb.cell hbl).trans (hp j hlt);have i1:(0:Int)<=(j:Int):=oM;have i2:(j:Int)<(n:Int):=oM;have s1:IsP (Zmh X j):=Zoy Zui Zgw hX j;have x1:=hX j;clear hp hX;go_wp2_with(go_at_call 126;refine(Zaav _ s1.1 s1.2 _ x1.1 x1.2 _).mono ?_;rintro e w1 ⟨rfl,hb1⟩);exact Zeb
  ·have:j=n:=oM;subst this;clear hp hX;go_wp2;go_ret;exact⟨rfl,hb⟩
theorem Zajj(a:Int)(h:IsP a)(w:World):
 Calls prog 182 #[.int .i64 a] w fun e w'=>e=.returned (.bool (ffin a))/\w'=w:=by
 have h0:=h.1;have h1:=h.2;have t1:a.tmod 2147483648=a%2147483648:=Int.tmod_eq_emod_of_nonneg h0;go_enter func182,ntmps182;go_wp2;go_ret;exact⟨rfl,rfl⟩

structure Lsts(k:IntKind)(w:World)(q:Option Addr)(m:Nat)(P:Nat->Option Addr)(l c:Nat->Nat)(X:Nat->Nat->Int):Prop where
 heads:Zio w q m (fun i=>.slice (P i) (l i) (c i))
 parts:∀i,i<m->Zio w (P i) (l i) (fun j=>.int k (X i j))
theorem Lsts.below{k:IntKind}{w w':World}{q:Option Addr}{m:Nat}{P:Nat->Option Addr}{l c:Nat->Nat}{X:Nat->Nat->Int}(h:Lsts k w q m P l c X)(b:Below w.heap.size w w'):Lsts k w' q m P l c X:=
 ⟨h.heads.below b,fun i hi=>(h.parts i hi).below b⟩
theorem Zafb:(prog.info? 57).map (fun i=>(i.zero,i.size,i.bytes))=some (some (.slice none 0 0),1,24):=kR
theorem Zagy{w w':World}{base:Nat}{e:TypeId}{v:Value}{n:Nat}{xs:List Value}(h:w.ownsRow base e 1 v n xs)(k:Below w.heap.size w w'):w'.ownsRow base e 1 v n xs:=by
 refine h.kept (row:=none) ⟨k.os,k.tape,k.output,k.size,fun j hj _=>k.block j hj⟩ ?_;cases v.ownBlock<;>simp
def setsP(i:Ins):Bool:=(rowP i.op).d != 0
theorem Zaly(op:Int)(w:World):Calls prog 106 #[.int .i64 op] w fun e w'=>e=.returned (.bool (Zjj op))/\w'=w:=by
 unfold Zjj;by_cases h:3<=op
 all_goals
  go_enter func106,ntmps106;exact Zdz
theorem u8ne(a:UInt8)(X:Bool)(h:(a==45)=X):((a.toNat:Int) != 45)= !X:=by
 rw[←h];have:((a.toNat:Int)==45)=(a==45):=by
  rw[Bool.eq_iff_iff];simp only[beq_iff_eq];constructor
  ·intro e;apply UInt8.toNat_inj.1;show a.toNat=45;omega
  ·intro e;subst e;rfl
 simp[bne,this]
theorem Zajb(i:Ins)(w:World):Calls prog 39 #[insV i] w fun e w'=>e=.returned (.bool (setsP i))/\Below w.heap.size w w':=by
 unfold setsP;rcases Zaau i.op (w.alloc (.cells #[.int .i64 i.op,.int .i64 i.d,.int .i64 i.a,.int .i64 i.b,.int .i64 i.c,.int .i64 i.n,.int .u32 i.bits] 45))with⟨hk,hc⟩|⟨hk,a,b,c,d,e,ht,hc⟩
 ·rw[Zsr i.op hk];obtain⟨op,D,A,B,E,n,bt⟩:=i;unfold insV;simp only at hc hk ⊢;have HK:Hid (Calls prog 67 #[.int .i64 op] (w.alloc (.cells #[.int .i64 op,.int .i64 D,.int .i64 A,.int .i64 B,.int .i64 E,.int .i64 n,.int .u32 bt] 45)) fun e w'=>e=.returned (.tuple #[.string ⟨#[]⟩,.bool false])/\w'=w.alloc (.cells #[.int .i64 op,.int .i64 D,.int .i64 A,.int .i64 B,.int .i64 E,.int .i64 n,.int .u32 bt] 45)):=hc;clear hc;go_enter func39,ntmps39;go_wp2_with(go_at_call 67;refine HK.out.mono ?_;rintro e w1 ⟨rfl,rfl⟩);go_ret;exact⟨rfl,Zhq _ _⟩
 ·have h1:=u8ne a _ ht.a;obtain⟨X,hX⟩:∃X,(rowP i.op).d=X:=⟨_,rfl⟩
  rw[hX]at h1 ⊢;obtain⟨op,D,A,B,E,n,bt⟩:=i;unfold insV;simp only at hc ⊢;have HK:Hid (∀w,Calls prog 67 #[.int .i64 op] w fun x w'=>x=.returned (.tuple #[.string ⟨#[a,b,c,d,e]⟩,.bool true])/\w'=w):=hc;have ix:∀w,(Instr.index 9 (.string ⟨#[a,b,c,d,e]⟩) (.int .i64 0)).run prog w=.ok (.int .u8 (a.toNat:Int)) w:=fun w=>by simp[Instr.index,run_underlying underlying9,asIntOf,go_sem];rfl
  clear hc ht hX;go_enter func39,ntmps39;go_wp2_with(go_at_call 67;refine(HK.out _).mono ?_;rintro e w1 ⟨rfl,rfl⟩);go_ret;refine⟨Zhu ?_,Zhq _ _⟩;first|exact h1|(simp only[h1];rfl)|simp[h1,bne]
structure RRd(w:World)(C Q:Nat)(A B E:Int)(v:World):Prop where
 bel:Below w.heap.size w v
 hC:w.heap.size<=C
 hQ:Q<C
 le:C<=v.heap.size
 g0:v.cell? ⟨Q,0,none⟩=some (.int .i64 A)
 g1:v.cell? ⟨Q,1,none⟩=some (.int .i64 B)
 g2:v.cell? ⟨Q,2,none⟩=some (.int .i64 E)
theorem RRd.next{w:World}{C Q:Nat}{A B E:Int}{v v':World}(h:RRd w C Q A B E v)(k:Below C v v'):RRd w C Q A B E v':=by
 have c1:∀ {a:Addr} {u:Value},a.block<C->v.cell? a=some u->v'.cell? a=some u:=fun ha hu=>(k.cell ha).trans hu;exact⟨h.bel.trans (k.mono h.hC),h.hC,h.hQ,Nat.le_trans h.le k.size,c1 h.hQ h.g0,c1 h.hQ h.g1,c1 h.hQ h.g2⟩
theorem Zaiy(i:Ins)(w:World):Calls prog 66 #[insV i] w fun e w'=>∃v,e=.returned v/\w'.ownsRow w.heap.size 3 1 v (Zid i (rowP i.op)).length (i64s (Zid i (rowP i.op)))/\Below w.heap.size w w':=by
 rcases Zaau i.op (w.alloc (.cells #[.int .i64 i.op,.int .i64 i.d,.int .i64 i.a,.int .i64 i.b,.int .i64 i.c,.int .i64 i.n,.int .u32 i.bits] 45))with⟨hk,hc⟩|⟨hk,a,b,c,d,e,ht,hc⟩
 ·rw[Zsr i.op hk,show Zid i ⟨0,0,0,0,0⟩=[] from rfl];obtain⟨op,D,A,B,E,n,bt⟩:=i;unfold insV;simp only at hc hk ⊢;have HK:Hid (Calls prog 67 #[.int .i64 op] (w.alloc (.cells #[.int .i64 op,.int .i64 D,.int .i64 A,.int .i64 B,.int .i64 E,.int .i64 n,.int .u32 bt] 45)) fun e w'=>e=.returned (.tuple #[.string ⟨#[]⟩,.bool false])/\w'=w.alloc (.cells #[.int .i64 op,.int .i64 D,.int .i64 A,.int .i64 B,.int .i64 E,.int .i64 n,.int .u32 bt] 45)):=hc;clear hc;go_enter func66,ntmps66;go_wp2_with(go_at_call 67;refine HK.out.mono ?_;rintro e w1 ⟨rfl,rfl⟩)
  go_loopw [3,7] (fun lv iv wr=>lv=.slice none 0 0/\iv=.int .i64 0/\Below w.heap.size w wr) (fun _ iv _=>0)
  case atStart=>exact⟨rfl,rfl,bel (Zhq _ _) (Zhq _ _)⟩
  case round=>
   obtain⟨rfl,rfl,hb⟩:=hrel;go_wp2;go_ret;exact⟨_,rfl,World.ownsRow_nil _ _ _ 1,hb⟩
 ·rw[Zsn];have h1:=u8ne b _ ht.b;have h2:=u8ne c _ ht.c;have h3:=u8ne d _ ht.d;obtain⟨i0,hi0,hz0,hz1,hz3⟩:=info_parts Zov;obtain⟨r,hr⟩:∃r,rowP i.op=r:=⟨_,rfl⟩
  rw[hr]at h1 h2 h3 ⊢;obtain⟨L0,L1,L2,L3,L4⟩:=r;obtain⟨op,D,A,B,E,n,bt⟩:=i;unfold insV;simp only at hc h1 h2 h3 ⊢;obtain⟨R,hR⟩:∃R,(rd1 L1 A++rd1 L2 B)++rd1 L3 E=R:=⟨_,rfl⟩
  rw[hR];have HR:Hid ((rd1 L1 A++rd1 L2 B)++rd1 L3 E=R):=hR;have HK:Hid (∀w,Calls prog 67 #[.int .i64 op] w fun x w'=>x=.returned (.tuple #[.string ⟨#[a,b,c,d,e]⟩,.bool true])/\w'=w):=hc;clear hc ht hr hR hk;go_enter func66,ntmps66;go_wp2_with(go_at_call 67;refine(HK.out _).mono ?_;rintro e w1 ⟨rfl,rfl⟩);have HF1:Hid (RRd w (w.heap.size+1+1) (w.heap.size+1) A B E ((w.alloc (.cells #[.int .i64 op,.int .i64 D,.int .i64 A,.int .i64 B,.int .i64 E,.int .i64 n,.int .u32 bt] 45)).alloc (.cells #[.int .i64 A,.int .i64 B,.int .i64 E] 3))):=
   ⟨bel (Zhq _ _) (Zhq _ _),oM,oM,sM,sG,sG,sG⟩
  obtain⟨W,hW⟩:∃W,(w.alloc (.cells #[.int .i64 op,.int .i64 D,.int .i64 A,.int .i64 B,.int .i64 E,.int .i64 n,.int .u32 bt] 45)).alloc (.cells #[.int .i64 A,.int .i64 B,.int .i64 E] 3)=W:=⟨_,rfl⟩
  rw[hW]at HF1 ⊢;obtain⟨Q,hQ⟩:∃Q,w.heap.size+1=Q:=⟨_,rfl⟩
  rw[hQ]at HF1;try rw[hQ]
  clear hW
  go_loopw [3,7] (fun lv iv wr=>RRd w (Q+1) Q A B E wr/\∃ (j:Nat) (l:List Int),j<=3/\iv=.int .i64 j/\l.length<=j/\Hid (wr.ownsRow (Q+1) 3 1 lv l.length (i64s l))/\Hid ((j=0->l=[])/\(j=1->l=rd1 L1 A)/\(j=2->l=rd1 L1 A++rd1 L2 B)/\(j=3->l=(rd1 L1 A++rd1 L2 B)++rd1 L3 E))) (fun _ iv _=>3-(intOf iv).toNat)
  case atStart=>exact⟨HF1.out,0,[],oM,rfl,sM,World.ownsRow_nil _ _ _ 1,⟨fun _=>rfl,fun h=>absurd h oM,fun h=>absurd h oM,fun h=>absurd h oM⟩⟩
  case round=>
   clear HF1 HK;obtain⟨hF,j,l,hj,rfl,hll,HO,HL⟩:=hrel;have HF:Hid (RRd w (Q+1) Q A B E wr):=hF;have hGw:=hF.le;have hn1:Q≠wr.heap.size:=oM;obtain rfl|rfl|rfl|rfl:j=0\/j=1\/j=2\/j=3:=oM
   ·have g0:=hF.g0;have f0:=kc (Zhq wr (.cells #[.int .i64 A] 3)) g0;have hl0:=HL.out.1 rfl;have ix:∀w,(Instr.index 9 (.string ⟨#[a,b,c,d,e]⟩) (.int .i64 1)).run prog w=.ok (.int .u8 (b.toNat:Int)) w:=fun w=>by simp[Instr.index,run_underlying underlying9,asIntOf,go_sem];rfl
    have hq:=h1;clear hF h1 h2 h3;by_cases hz:L1=0
    ·have hz':(!(L1==0))=false:=by simp[hz]
     rw[hz']at hq;have hq2:((b.toNat:Int)==45)=true:=by simpa[bne]using hq
     have HZ:Hid (L1=0):=hz;clear hz;go_wp2;go_roundw
     case rel=>exact⟨HF.out,1,l,oM,by first|rfl|go_num,oM,HO,⟨fun h=>absurd h oM,fun _=>by rw[hl0];unfold rd1;simp[HZ.out],fun h=>absurd h oM,fun h=>absurd h oM⟩⟩
     case measure=>simp[intOf]
    ·have hz':(!(L1==0))=true:=by simp[hz]
     rw[hz']at hq;have hq2:((b.toNat:Int)==45)=false:=by simpa[bne]using hq
     have HZ:Hid (¬L1=0):=hz;clear hz;go_wp2_with(first
      |(at_builtin;refine wpList_append_own_at _ rfl _ _ 82 rfl (Q+1) 3 i0 _ 1 8 underlying82 hi0 hz0 hz1 hz3 rfl dE _ l.length (i64s l) rfl (World.ownsRow.alloc HO.out _) ⟨wr.heap.size,0,none⟩ 1 1 [.int .i64 A] rfl rfl (World.news_of_block (cs:=#[.int .i64 A]) (t:=3) (fr:=(0,0)) (heap_alloc_new wr _)) Zfz mL oM sO ?_;intro v' w3 hown3 hgrow hnil hat;have HO3:Hid (w3.ownsRow (Q+1) 3 1 v' (l.length+1) (i64s l++[.int .i64 A])):=hown3;have HB3:Hid (Below (Q+1) wr w3):=(Below.alloc (Below.refl _ _) hGw _).grown hgrow sO (fun q e=>(HO.out.lt q e).1);clear hown3 hgrow hnil hat))
     go_roundw
     case rel=>exact⟨HF.out.next HB3.out,1,l++[A],oM,by first|rfl|go_num,sO,by show _;rw[List.length_append,Zmc];exact HO3.out,⟨fun h=>absurd h oM,fun _=>by rw[hl0,show rd1 L1 A=[A]from if_neg HZ.out];try rfl,fun h=>absurd h oM,fun h=>absurd h oM⟩⟩
     case measure=>simp[intOf]
   ·have g0:=hF.g1;have f0:=kc (Zhq wr (.cells #[.int .i64 B] 3)) g0;have hl0:=HL.out.2.1 rfl;have ix:∀w,(Instr.index 9 (.string ⟨#[a,b,c,d,e]⟩) (.int .i64 2)).run prog w=.ok (.int .u8 (c.toNat:Int)) w:=fun w=>by simp[Instr.index,run_underlying underlying9,asIntOf,go_sem];rfl
    have hq:=h2;clear hF h1 h2 h3;by_cases hz:L2=0
    ·have hz':(!(L2==0))=false:=by simp[hz]
     rw[hz']at hq;have hq2:((c.toNat:Int)==45)=true:=by simpa[bne]using hq
     have HZ:Hid (L2=0):=hz;clear hz;go_wp2;go_roundw
     case rel=>exact⟨HF.out,2,l,oM,by first|rfl|go_num,oM,HO,⟨fun h=>absurd h oM,fun h=>absurd h oM,fun _=>by rw[hl0];unfold rd1;simp[HZ.out],fun h=>absurd h oM⟩⟩
     case measure=>simp[intOf]
    ·have hz':(!(L2==0))=true:=by simp[hz]
     rw[hz']at hq;have hq2:((c.toNat:Int)==45)=false:=by simpa[bne]using hq
     have HZ:Hid (¬L2=0):=hz;clear hz;go_wp2_with(first
      |(at_builtin;refine wpList_append_own_at _ rfl _ _ 82 rfl (Q+1) 3 i0 _ 1 8 underlying82 hi0 hz0 hz1 hz3 rfl dE _ l.length (i64s l) rfl (World.ownsRow.alloc HO.out _) ⟨wr.heap.size,0,none⟩ 1 1 [.int .i64 B] rfl rfl (World.news_of_block (cs:=#[.int .i64 B]) (t:=3) (fr:=(0,0)) (heap_alloc_new wr _)) Zfz mL oM sO ?_;intro v' w3 hown3 hgrow hnil hat;have HO3:Hid (w3.ownsRow (Q+1) 3 1 v' (l.length+1) (i64s l++[.int .i64 B])):=hown3;have HB3:Hid (Below (Q+1) wr w3):=(Below.alloc (Below.refl _ _) hGw _).grown hgrow sO (fun q e=>(HO.out.lt q e).1);clear hown3 hgrow hnil hat))
     go_roundw
     case rel=>exact⟨HF.out.next HB3.out,2,l++[B],oM,by first|rfl|go_num,sO,by show _;rw[List.length_append,Zmc];exact HO3.out,⟨fun h=>absurd h oM,fun h=>absurd h oM,fun _=>by rw[hl0,show rd1 L2 B=[B]from if_neg HZ.out];try rfl,fun h=>absurd h oM⟩⟩
     case measure=>simp[intOf]
   ·have g0:=hF.g2;have f0:=kc (Zhq wr (.cells #[.int .i64 E] 3)) g0;have hl0:=HL.out.2.2.1 rfl;have ix:∀w,(Instr.index 9 (.string ⟨#[a,b,c,d,e]⟩) (.int .i64 3)).run prog w=.ok (.int .u8 (d.toNat:Int)) w:=fun w=>by simp[Instr.index,run_underlying underlying9,asIntOf,go_sem];rfl
    have hq:=h3;clear hF h1 h2 h3;by_cases hz:L3=0
    ·have hz':(!(L3==0))=false:=by simp[hz]
     rw[hz']at hq;have hq2:((d.toNat:Int)==45)=true:=by simpa[bne]using hq
     have HZ:Hid (L3=0):=hz;clear hz;go_wp2;go_roundw
     case rel=>exact⟨HF.out,3,l,oM,by first|rfl|go_num,oM,HO,⟨fun h=>absurd h oM,fun h=>absurd h oM,fun h=>absurd h oM,fun _=>by rw[hl0];unfold rd1;simp[HZ.out]⟩⟩
     case measure=>simp[intOf]
    ·have hz':(!(L3==0))=true:=by simp[hz]
     rw[hz']at hq;have hq2:((d.toNat:Int)==45)=false:=by simpa[bne]using hq
     have HZ:Hid (¬L3=0):=hz;clear hz;go_wp2_with(first
      |(at_builtin;refine wpList_append_own_at _ rfl _ _ 82 rfl (Q+1) 3 i0 _ 1 8 underlying82 hi0 hz0 hz1 hz3 rfl dE _ l.length (i64s l) rfl (World.ownsRow.alloc HO.out _) ⟨wr.heap.size,0,none⟩ 1 1 [.int .i64 E] rfl rfl (World.news_of_block (cs:=#[.int .i64 E]) (t:=3) (fr:=(0,0)) (heap_alloc_new wr _)) Zfz mL oM sO ?_;intro v' w3 hown3 hgrow hnil hat;have HO3:Hid (w3.ownsRow (Q+1) 3 1 v' (l.length+1) (i64s l++[.int .i64 E])):=hown3;have HB3:Hid (Below (Q+1) wr w3):=(Below.alloc (Below.refl _ _) hGw _).grown hgrow sO (fun q e=>(HO.out.lt q e).1);clear hown3 hgrow hnil hat))
     go_roundw
     case rel=>exact⟨HF.out.next HB3.out,3,l++[E],oM,by first|rfl|go_num,sO,by show _;rw[List.length_append,Zmc];exact HO3.out,⟨fun h=>absurd h oM,fun h=>absurd h oM,fun h=>absurd h oM,fun _=>by rw[hl0,show rd1 L3 E=[E]from if_neg HZ.out];try rfl⟩⟩
     case measure=>simp[intOf]
   ·exact Zer
theorem Zzc(b:Bool)(w:World):Calls prog 169 #[.bool b] w fun e w'=>e=.returned (.int .u32 (flag b))/\w'=w:=by
 cases b<;>(go_enter func169,ntmps169;go_wp2;go_ret;exact⟨rfl,rfl⟩)
theorem Zaku(a:Int)(h:IsP a)(w:World):Calls prog 168 #[.int .u32 a] w fun e w'=>e=.returned (.int .u32 (flag (ffin a)))/\Below w.heap.size w w':=by
 go_enter func168,ntmps168;go_wp2_with(first
  |(go_at_call 170;refine(Zagl _ h.1 h.2 _).mono ?_;rintro e w1 ⟨rfl,hw'⟩;obtain rfl:=hw'.symm)
  |(go_at_call 169;refine(Zzc _ _).mono ?_;rintro e w1 ⟨rfl,hw'⟩;obtain rfl:=hw'.symm))
 go_ret;exact⟨rfl,Zkp _⟩
theorem Zail(a:Int)(h:IsP a)(b:Int)(k:IsP b)(w:World):Calls prog 175 #[.int .u32 a,.int .u32 b] w fun e w'=>e=.returned (.int .u32 (flag (Zpd a b)))/\Below w.heap.size w w':=by
 go_enter func175,ntmps175;go_wp2_with(first
  |(go_at_call 176;refine(Zaor _ h.1 h.2 _ k.1 k.2 _).mono ?_;rintro e w1 ⟨rfl,hw'⟩;obtain rfl:=hw'.symm)
  |(go_at_call 169;refine(Zzc _ _).mono ?_;rintro e w1 ⟨rfl,hw'⟩;obtain rfl:=hw'.symm))
 go_ret;exact⟨rfl,Zkp _⟩
theorem Zamp(a b c:Int)(ha:IsP a)(hb:IsP b)(hc:IsP c)(w:World):Calls prog 177 #[.agg #[.int .u32 a,.int .u32 b,.int .u32 c]] w fun e w'=>e=.returned (.int .u32 (fsel a b c))/\Below w.heap.size w w':=by
 go_enter func177,ntmps177;go_wp2_with(go_at_call 144;refine(Zws _ ha.1 ha.2 _ hb.1 hb.2 _ hc.1 hc.2 _).mono ?_;rintro e w1 ⟨rfl,hw'⟩;obtain rfl:=hw'.symm);go_ret;exact⟨rfl,Zje w _⟩
theorem Zako(k:Nat)(hen:EntV k)(f:Int->Int)(hk:∀ (a:Int) (v:World),IsP a->Calls prog k #[.int .u32 a] v fun e v'=>e=.returned (.int .u32 (f a))/\Below v.heap.size v v')
 (g:Nat) (a b c:Int) (ha:IsP a) (w:World) (hg:w.cell? ⟨g,0,none⟩=some (.func (.func k) #[] #[])):
 Calls prog 190 #[.agg #[.int .u32 a,.int .u32 b,.int .u32 c],.pointer (some ⟨g,0,none⟩)] w fun e w'=>e=.returned (.int .u32 (f a))/\Below w.heap.size w w':=by
 have hg2:∀o,(w.alloc o).cell? ⟨g,0,none⟩=some (.func (.func k) #[] #[]):=fun o=>((Zje w o).cell (Zkk hg)).trans hg;have HK:Hid (∀ (v:World),Calls prog k #[.int .u32 a] v fun e v'=>e=.returned (.int .u32 (f a))/\Below v.heap.size v v'):=fun v=>hk a v ha;clear hk;unfold EntV at hen;go_enter func190,ntmps190;exact Zfb
theorem Zakw(k:Nat)(hen:EntV k)(f:Int->Int->Int)(hk:∀ (a b:Int) (v:World),IsP a->IsP b->Calls prog k #[.int .u32 a,.int .u32 b] v fun e v'=>e=.returned (.int .u32 (f a b))/\Below v.heap.size v v')
 (g:Nat) (a b c:Int) (ha:IsP a) (hb:IsP b) (w:World) (hg:w.cell? ⟨g,0,none⟩=some (.func (.func k) #[] #[])):
 Calls prog 192 #[.agg #[.int .u32 a,.int .u32 b,.int .u32 c],.pointer (some ⟨g,0,none⟩)] w fun e w'=>e=.returned (.int .u32 (f a b))/\Below w.heap.size w w':=by
 have hg2:∀o,(w.alloc o).cell? ⟨g,0,none⟩=some (.func (.func k) #[] #[]):=fun o=>((Zje w o).cell (Zkk hg)).trans hg;have HK:Hid (∀ (v:World),Calls prog k #[.int .u32 a,.int .u32 b] v fun e v'=>e=.returned (.int .u32 (f a b))/\Below v.heap.size v v'):=fun v=>hk a b v ha hb;clear hk;unfold EntV at hen;go_enter func192,ntmps192;exact Zfb
def Zjf(w:World)(D:Value)(f:Int->Int->Int->Int):Prop:=
 ∃k cap,D=.func (.func k) #[] cap/\EntV k/\∀ (a b c:Int) (v:World),IsP a->IsP b->IsP c->Below w.heap.size w v->
  Calls prog k (#[.agg #[.int .u32 a,.int .u32 b,.int .u32 c]]++cap) v fun e v'=>e=.returned (.int .u32 (f a b c))/\Below v.heap.size v v'
theorem Zjf.below{w w':World}{D:Value}{f:Int->Int->Int->Int}(h:Zjf w D f)(hb:Below w.heap.size w w'):Zjf w' D f:=by
 obtain⟨k,cap,e,hen,h⟩:=h;exact⟨k,cap,e,hen,fun a b c v ha hb' hc hv=>h a b c v ha hb' hc (belV hb hv)⟩
theorem Zpk(k:Nat)(hen:EntV k)(f:Int->Int)(hk:∀ (a:Int) (v:World),IsP a->Calls prog k #[.int .u32 a] v fun e v'=>e=.returned (.int .u32 (f a))/\Below v.heap.size v v')(w:World):
 Calls prog 164 #[.func (.func k) #[] #[]] w fun e w'=>∃D,e=.returned D/\Zjf w' D (fun a b c=>f a)/\Below w.heap.size w w':=by
 go_enter func164,ntmps164;go_wp2;go_ret;exact⟨_,rfl,⟨190,_,rfl,enters_of func190 kR rfl,fun a b c v ha hb hc hv=>Zako k hen f hk w.heap.size a b c ha v ((hv.cell sM).trans sM)⟩,Zje w _⟩
theorem Zmz(k:Nat)(hen:EntV k)(f:Int->Int->Int)(hk:∀ (a b:Int) (v:World),IsP a->IsP b->Calls prog k #[.int .u32 a,.int .u32 b] v fun e v'=>e=.returned (.int .u32 (f a b))/\Below v.heap.size v v')(w:World):
 Calls prog 171 #[.func (.func k) #[] #[]] w fun e w'=>∃D,e=.returned D/\Zjf w' D (fun a b c=>f a b)/\Below w.heap.size w w':=by
 go_enter func171,ntmps171;go_wp2;go_ret;exact⟨_,rfl,⟨192,_,rfl,enters_of func192 kR rfl,fun a b c v ha hb hc hv=>Zakw k hen f hk w.heap.size a b c ha hb v ((hv.cell sM).trans sM)⟩,Zje w _⟩
theorem instr_3(w:World):Calls prog 145 #[.int .i64 3] w fun e w'=>∃D,e=.returned (.tuple #[.int .i64 1,D])/\Zjf w' D (opf 3)/\Below w.heap.size w w':=by
 go_enter func145,ntmps145;go_wp2_with(go_at_call 164;refine(Zpk 101 (enters_of func101 kR rfl) canon (fun a v h=>((Zmd a h.1 h.2 v).mono fun e w' h=>⟨h.1,by rw[h.2];exact Zkp _⟩)) _).mono ?_;rintro e w1 ⟨D,rfl,hD,hb1⟩;have HD:Hid (Zjf w1 D (opf 3)):=hD;clear hD);go_returns;exact⟨_,rfl,HD.out,hb1⟩
theorem Zapn(w:World):Calls prog 145 #[.int .i64 11] w fun e w'=>∃D,e=.returned (.tuple #[.int .i64 1,D])/\Zjf w' D (opf 11)/\Below w.heap.size w w':=by
 go_enter func145,ntmps145;go_wp2_with(go_at_call 164;refine(Zpk 165 (enters_of func165 kR rfl) Zks (fun a v h=>Zapg a h.1 h.2 v) _).mono ?_;rintro e w1 ⟨D,rfl,hD,hb1⟩;have HD:Hid (Zjf w1 D (opf 11)):=hD;clear hD);go_returns;exact⟨_,rfl,HD.out,hb1⟩
theorem Zaoy(w:World):Calls prog 145 #[.int .i64 12] w fun e w'=>∃D,e=.returned (.tuple #[.int .i64 1,D])/\Zjf w' D (opf 12)/\Below w.heap.size w w':=by
 go_enter func145,ntmps145;go_wp2_with(go_at_call 164;refine(Zpk 166 (enters_of func166 kR rfl) fneg (fun a v h=>((neg_any a h.1 h.2 v).mono fun e w' h=>⟨h.1,by rw[h.2];exact Zkp _⟩)) _).mono ?_;rintro e w1 ⟨D,rfl,hD,hb1⟩;have HD:Hid (Zjf w1 D (opf 12)):=hD;clear hD);go_returns;exact⟨_,rfl,HD.out,hb1⟩
theorem Zaoa(w:World):Calls prog 145 #[.int .i64 13] w fun e w'=>∃D,e=.returned (.tuple #[.int .i64 1,D])/\Zjf w' D (opf 13)/\Below w.heap.size w w':=by
 go_enter func145,ntmps145;go_wp2_with(go_at_call 164;refine(Zpk 167 (enters_of func167 kR rfl) fabs (fun a v h=>((abs_any a h.1 h.2 v).mono fun e w' h=>⟨h.1,by rw[h.2];exact Zkp _⟩)) _).mono ?_;rintro e w1 ⟨D,rfl,hD,hb1⟩;have HD:Hid (Zjf w1 D (opf 13)):=hD;clear hD);go_returns;exact⟨_,rfl,HD.out,hb1⟩
theorem Zaqg(w:World):Calls prog 145 #[.int .i64 14] w fun e w'=>∃D,e=.returned (.tuple #[.int .i64 1,D])/\Zjf w' D (opf 14)/\Below w.heap.size w w':=by
 go_enter func145,ntmps145;go_wp2_with(go_at_call 164;refine(Zpk 168 (enters_of func168 kR rfl) (fun a=>flag (ffin a)) (fun a v h=>Zaku a h v) _).mono ?_;rintro e w1 ⟨D,rfl,hD,hb1⟩;have HD:Hid (Zjf w1 D (opf 14)):=hD;clear hD);go_returns;exact⟨_,rfl,HD.out,hb1⟩
theorem instr_4(w:World):Calls prog 145 #[.int .i64 4] w fun e w'=>∃D,e=.returned (.tuple #[.int .i64 2,D])/\Zjf w' D (opf 4)/\Below w.heap.size w w':=by
 go_enter func145,ntmps145;go_wp2_with(go_at_call 171;refine(Zmz 142 (enters_of func142 kR rfl) fadd (fun a b v h k=>Zagg a h.1 h.2 b k.1 k.2 v) _).mono ?_;rintro e w1 ⟨D,rfl,hD,hb1⟩;have HD:Hid (Zjf w1 D (opf 4)):=hD;clear hD);go_returns;exact⟨_,rfl,HD.out,hb1⟩
theorem instr_5(w:World):Calls prog 145 #[.int .i64 5] w fun e w'=>∃D,e=.returned (.tuple #[.int .i64 2,D])/\Zjf w' D (opf 5)/\Below w.heap.size w w':=by
 go_enter func145,ntmps145;go_wp2_with(go_at_call 171;refine(Zmz 172 (enters_of func172 kR rfl) fsub (fun a b v h k=>sub_any a h.1 h.2 b k.1 k.2 v) _).mono ?_;rintro e w1 ⟨D,rfl,hD,hb1⟩;have HD:Hid (Zjf w1 D (opf 5)):=hD;clear hD);go_returns;exact⟨_,rfl,HD.out,hb1⟩
theorem instr_6(w:World):Calls prog 145 #[.int .i64 6] w fun e w'=>∃D,e=.returned (.tuple #[.int .i64 2,D])/\Zjf w' D (opf 6)/\Below w.heap.size w w':=by
 go_enter func145,ntmps145;go_wp2_with(go_at_call 171;refine(Zmz 139 (enters_of func139 kR rfl) fmul (fun a b v h k=>Zwz a h.1 h.2 b k.1 k.2 v) _).mono ?_;rintro e w1 ⟨D,rfl,hD,hb1⟩;have HD:Hid (Zjf w1 D (opf 6)):=hD;clear hD);go_returns;exact⟨_,rfl,HD.out,hb1⟩
theorem instr_7(w:World):Calls prog 145 #[.int .i64 7] w fun e w'=>∃D,e=.returned (.tuple #[.int .i64 2,D])/\Zjf w' D (opf 7)/\Below w.heap.size w w':=by
 go_enter func145,ntmps145;go_wp2_with(go_at_call 171;refine(Zmz 173 (enters_of func173 kR rfl) fdiv (fun a b v h k=>div_any a h.1 h.2 b k.1 k.2 v) _).mono ?_;rintro e w1 ⟨D,rfl,hD,hb1⟩;have HD:Hid (Zjf w1 D (opf 7)):=hD;clear hD);go_returns;exact⟨_,rfl,HD.out,hb1⟩
theorem instr_8(w:World):Calls prog 145 #[.int .i64 8] w fun e w'=>∃D,e=.returned (.tuple #[.int .i64 2,D])/\Zjf w' D (opf 8)/\Below w.heap.size w w':=by
 go_enter func145,ntmps145;go_wp2_with(go_at_call 171;refine(Zmz 143 (enters_of func143 kR rfl) fmin (fun a b v h k=>Zafg a h.1 h.2 b k.1 k.2 v) _).mono ?_;rintro e w1 ⟨D,rfl,hD,hb1⟩;have HD:Hid (Zjf w1 D (opf 8)):=hD;clear hD);go_returns;exact⟨_,rfl,HD.out,hb1⟩
theorem instr_9(w:World):Calls prog 145 #[.int .i64 9] w fun e w'=>∃D,e=.returned (.tuple #[.int .i64 2,D])/\Zjf w' D (opf 9)/\Below w.heap.size w w':=by
 go_enter func145,ntmps145;go_wp2_with(go_at_call 171;refine(Zmz 174 (enters_of func174 kR rfl) fmax (fun a b v h k=>max_any a h.1 h.2 b k.1 k.2 v) _).mono ?_;rintro e w1 ⟨D,rfl,hD,hb1⟩;have HD:Hid (Zjf w1 D (opf 9)):=hD;clear hD);go_returns;exact⟨_,rfl,HD.out,hb1⟩
theorem Zarv(w:World):Calls prog 145 #[.int .i64 10] w fun e w'=>∃D,e=.returned (.tuple #[.int .i64 2,D])/\Zjf w' D (opf 10)/\Below w.heap.size w w':=by
 go_enter func145,ntmps145;go_wp2_with(go_at_call 171;refine(Zmz 175 (enters_of func175 kR rfl) (fun a b=>flag (Zpd a b)) (fun a b v h k=>Zail a h b k v) _).mono ?_;rintro e w1 ⟨D,rfl,hD,hb1⟩;have HD:Hid (Zjf w1 D (opf 10)):=hD;clear hD);go_returns;exact⟨_,rfl,HD.out,hb1⟩
theorem Zark(w:World):Calls prog 145 #[.int .i64 15] w fun e w'=>∃D,e=.returned (.tuple #[.int .i64 3,D])/\Zjf w' D (opf 15)/\Below w.heap.size w w':=by
 go_enter func145,ntmps145;go_wp2;go_returns;exact⟨_,rfl,⟨177,#[],rfl,enters_of func177 kR rfl,fun a b c v ha hb hc hv=>Zamp a b c ha hb hc v⟩,Zkp w⟩
theorem Zrj(op:Int)(h:Zjq op≠0):op=3\/op=11\/op=12\/op=13\/op=14\/op=4\/op=5\/op=6\/op=7\/op=8\/op=9\/op=10\/op=15:=by
 unfold Zjq at h;split at h
 ·omega
 ·split at h
  ·omega
  ·split at h
   ·omega
   ·exact absurd rfl h
theorem Zall(op:Int)(h:Zjq op≠0)(w:World):Calls prog 145 #[.int .i64 op] w fun e w'=>∃D,e=.returned (.tuple #[.int .i64 (Zjq op),D])/\Zjf w' D (opf op)/\Below w.heap.size w w':=by
 rcases Zrj op h with rfl|rfl|rfl|rfl|rfl|rfl|rfl|rfl|rfl|rfl|rfl|rfl|rfl
 ·exact instr_3 w
 ·exact Zapn w
 ·exact Zaoy w
 ·exact Zaoa w
 ·exact Zaqg w
 ·exact instr_4 w
 ·exact instr_5 w
 ·exact instr_6 w
 ·exact instr_7 w
 ·exact instr_8 w
 ·exact instr_9 w
 ·exact Zarv w
 ·exact Zark w
def shpV(l:Nat->Nat):Nat->Option Nat
 |0=>some (l 0)
 |j+1=>match shpV l j with
  |none=>none
  |some n=>if l (j+1)=n then some n else if l (j+1)=0\/n=0 then none else if n=1 then some (l (j+1))else if l (j+1)=1 then some n else none
theorem Zqi{l:Nat->Nat}{j n:Nat}(h:shpV l j=some n):shpV l (j+1)=if l (j+1)=n then some n else if l (j+1)=0\/n=0 then none else if n=1 then some (l (j+1))else if l (j+1)=1 then some n else none:=by
 show(match shpV l j with |none=>none|some n=>_)=_;rw[h]
theorem Zqr{l:Nat->Nat}{j:Nat}(h:shpV l j=none):∀M,j<=M->shpV l M=none:=by
 intro M;induction M with
 |zero=>
  intro hj;have:j=0:=oM;subst this;exact h
 |succ M ih=>
  intro hj;rcases Nat.lt_or_ge M j with c|c
  ·have:j=M+1:=oM;subst this;exact h
  ·show(match shpV l M with |none=>none|some n=>_)=_;rw[ih c]
theorem shp_le{l:Nat->Nat}{N:Nat}(hl:∀i,l i<=N):∀ {M n:Nat},shpV l M=some n->n<=N:=by
 intro M;induction M with
 |zero=>intro n h;cases h;exact hl 0
 |succ M ih=>
  intro n h;cases e:shpV l M with
  |none=>rw[Zqr e (M+1) oM]at h;cases h
  |some k=>
   rw[Zqi e]at h;have:=ih e;have:=hl (M+1)
   repeat' split at h
   all_goals cases h
   all_goals omega
theorem Zaby{l:Nat->Nat}:∀ {M n:Nat},shpV l M=some n->∀i,i<=M->l i=n\/(l i=1/\n≠0):=by
 intro M;induction M with
 |zero=>
  intro n h i hi;cases h;have:i=0:=oM;subst this;exact .inl rfl
 |succ M ih=>
  intro n h i hi;cases e:shpV l M with
  |none=>rw[Zqr e (M+1) oM]at h;cases h
  |some k=>
   rw[Zqi e]at h;have hi':i<=M\/i=M+1:=oM;split at h
   ·cases h
    rcases hi' with c|c
    ·exact ih e i c
    ·subst c;left;assumption
   ·split at h
    ·cases h
    ·split at h
     ·cases h
      rcases hi' with c|c
      ·have:=ih e i c;omega
      ·subst c;exact .inl rfl
     ·split at h
      ·cases h
       rcases hi' with c|c
       ·exact ih e i c
       ·subst c;right;omega
      ·cases h
theorem Zalz(b o M cq:Nat)(P:Nat->Option Addr)(l c:Nat->Nat)(hM:M<=1048576)(hl:∀i,l i<=1048576)(hc:M+1<=cq)(w:World)(hh:∀i,i<M+1->w.cell? ⟨b,o+i,none⟩=some (.slice (P i) (l i) (c i))):
 Calls prog 146 #[.slice (some ⟨b,o,none⟩) (M+1) cq] w fun e w'=>e=.returned (.tuple #[.int .i64 ((shpV l M).getD 0:Nat),.bool (shpV l M).isSome])/\w'=w:=by
 have h0:=hh 0 oM;rw[Nat.add_zero]at h0;have i1:(1:Int)<=((M+1:Nat):Int):=oM;rcases Nat.eq_zero_or_pos M with hM0|hM0
 ·subst hM0;have HS:Hid ((shpV l 0).getD 0=l 0/\(shpV l 0).isSome=true):=⟨rfl,rfl⟩
  clear hh hl;go_enter func146,ntmps146;go_wp2
  all_goals(refine wp_loop_rounds 1 ?_;rw[rounds_succ];go_wp2;go_returns;exact⟨rfl,rfl⟩)
 ·have hq:¬ (cq=1):=oM;have hq2:1<cq:=oM;have HH:Hid ((∀i,i<M+1->w.cell? ⟨b,o+i,none⟩=some (.slice (P i) (l i) (c i)))/\∀i,l i<=1048576):=⟨hh,hl⟩
  clear hh hl;go_enter func146,ntmps146;go_wp2
  go_loopw [4,14] (fun nv iv wr=>wr=w/\∃j n:Nat,j<=M/\iv=.int .i64 j/\nv=.int .i64 n/\n<=1048576/\Hid (shpV l j=some n)) (fun _ iv _=>M-(intOf iv).toNat)
  case atStart=>exact⟨rfl,0,l 0,Nat.zero_le _,rfl,rfl,HH.out.2 0,rfl⟩
  case round=>
   obtain⟨rfl,j,n,hj,rfl,rfl,hn,hs⟩:=hrel;by_cases hlt:j<M
   ·have h1:wr.cell? ⟨b,o+1+j,none⟩=some (.slice (P (j+1)) (l (j+1)) (c (j+1))):=by have:=HH.out.1 (j+1) oM;rw[show o+(j+1)=o+1+j by omega]at this;exact this
    have i2:(0:Int)<=(j:Int):=oM;have i3:(j:Int)<(M:Int):=oM;have hl1:=HH.out.2 (j+1);obtain⟨L,hL⟩:∃L,L=l (j+1):=⟨_,rfl⟩
    have HSS:Hid (shpV l (j+1)=if L=n then some n else if L=0\/n=0 then none else if n=1 then some L else if L=1 then some n else none):=by subst hL;exact Zqi hs.out
    rw[←hL]at h1 hl1;clear hL;by_cases c1:L=n
    ·subst c1;have HS1:Hid (shpV l (j+1)=some L):=by have:=HSS.out;rw[if_pos rfl]at this;exact this
     clear HSS hs;go_wp2;go_roundw
     case rel=>exact⟨fT,j+1,L,oM,gN,rfl,hn,HS1⟩
     case measure=>simp[intOf];omega
    ·have c1':¬ ((L:Int)=(n:Int)):=oM;by_cases c2:L=0\/n=0
     ·have HS1:Hid (shpV l M=none):=by have:=HSS.out;rw[if_neg c1,if_pos c2]at this;exact Zqr this M oM
      clear HSS hs;rcases c2 with c2|c2
      ·subst c2;go_wp2;go_returns;exact⟨by rw[HS1.out];rfl,rfl⟩
      ·subst c2;have c3:¬ ((L:Int)=0):=oM;go_wp2;go_returns;exact⟨by rw[HS1.out];rfl,rfl⟩
     ·have c3:¬ ((L:Int)=0):=oM;have c4:¬ ((n:Int)=0):=oM;by_cases c5:n=1
      ·have HS1:Hid (shpV l (j+1)=some L):=by have:=HSS.out;rw[if_neg c1,if_neg c2,if_pos c5]at this;exact this
       clear HSS hs;subst c5;go_wp2;go_roundw
       case rel=>exact⟨fT,j+1,L,oM,gN,rfl,hl1,HS1⟩
       case measure=>simp[intOf];omega
      ·have c6:¬ ((n:Int)=1):=oM;by_cases c7:L=1
       ·have HS1:Hid (shpV l (j+1)=some n):=by have:=HSS.out;rw[if_neg c1,if_neg c2,if_neg c5,if_pos c7]at this;exact this
        clear HSS hs;subst c7;go_wp2;go_roundw
        case rel=>exact⟨fT,j+1,n,oM,gN,rfl,hn,HS1⟩
        case measure=>simp[intOf];omega
       ·have HS1:Hid (shpV l M=none):=by have:=HSS.out;rw[if_neg c1,if_neg c2,if_neg c5,if_neg c7]at this;exact Zqr this M oM
        have c8:¬ ((L:Int)=1):=oM;have c9:((L:Int) != 1)=true:=by simp[c8]
        clear HSS hs;go_wp2
        all_goals first
         |(
          have hq:((L:Int) != 1)=false:=by assumption
          rw[c9]at hq;cases hq)
         |(go_returns;exact⟨by rw[HS1.out];rfl,rfl⟩)
   ·have:j=M:=oM;subst this;go_wp2;go_returns;exact⟨by rw[hs.out];rfl,rfl⟩
def elAt(l:Nat->Nat)(X:Nat->Nat->Int)(m i j:Nat):Int:=if j<m then X j (if l j=1 then 0 else i)else 0
theorem Zjr{l:Nat->Nat}{X:Nat->Nat->Int}(hX:∀i j,IsP (X i j))(m i j:Nat):IsP (elAt l X m i j):=Zkd (hX _ _) Zqb
theorem el_step(F:Nat->Int)(j k:Nat):(if k=j then Value.int .u32 (F j)else .int .u32 (if k<j then F k else 0))=.int .u32 (if k<j+1 then F k else 0):=by
 exact Zez
theorem Zapm(w:World)(t:TypeId):((w.alloc (.cells #[.int .u32 0,.int .u32 0,.int .u32 0] t)).alloc (.cells #[.int .u32 0,.int .u32 0,.int .u32 0] t)).rowIs (w.heap.size+1) t 3 (fun _=>.int .u32 0)/\((w.alloc (.cells #[.int .u32 0,.int .u32 0,.int .u32 0] t)).alloc (.cells #[.int .u32 0,.int .u32 0,.int .u32 0] t)).rowIs w.heap.size t 3 (fun _=>.int .u32 0):=by
 have h:∀i,i<3->(#[Value.int .u32 0,.int .u32 0,.int .u32 0]:Array Value)[i]? =some (.int .u32 0):=by
  intro i hi;have:i=0\/i=1\/i=2:=oM;rcases this with rfl|rfl|rfl<;>rfl
 have r1:=World.rowIs_alloc w #[.int .u32 0,.int .u32 0,.int .u32 0] t (fun _=>.int .u32 0) h;have r2:=World.rowIs_alloc (w.alloc (.cells #[.int .u32 0,.int .u32 0,.int .u32 0] t)) #[.int .u32 0,.int .u32 0,.int .u32 0] t (fun _=>.int .u32 0) h;have e:(w.alloc (.cells #[.int .u32 0,.int .u32 0,.int .u32 0] t)).heap.size=w.heap.size+1:=sM;rw[e]at r2;exact⟨r2,r1.alloc _⟩
theorem Zahz(place b o m cq:Nat)(P:Nat->Option Addr)(l c:Nat->Nat)(X:Nat->Nat->Int)(hm:m<=3)(hi:place<=1048576)(hl:∀i,l i<=1048576)(hpl:∀i,i<m->l i=1\/place<l i)(w:World)(hL:Lsts .u32 w (some ⟨b,o,none⟩) m P l c X):
 Calls prog 148 #[.int .i64 place,.slice (some ⟨b,o,none⟩) m cq] w fun e w'=>e=.returned (.agg #[.int .u32 (elAt l X m place 0),.int .u32 (elAt l X m place 1),.int .u32 (elAt l X m place 2)])/\Below w.heap.size w w':=by
 have HL:Hid (Lsts .u32 w (some ⟨b,o,none⟩) m P l c X/\(∀i,l i<=1048576)/\∀i,i<m->l i=1\/place<l i):=⟨hL,hl,hpl⟩
 obtain⟨E,HE⟩:∃E:Nat->Int,Hid (E=elAt l X m place):=⟨_,rfl⟩
 have HE0:=HE.out;rw[←HE0];have T:=Zapm w 216;have HT:Hid (((w.alloc (.cells #[.int .u32 0,.int .u32 0,.int .u32 0] 216)).alloc (.cells #[.int .u32 0,.int .u32 0,.int .u32 0] 216)).rowIs (w.heap.size+1) 216 3 (fun _=>.int .u32 0)/\((w.alloc (.cells #[.int .u32 0,.int .u32 0,.int .u32 0] 216)).alloc (.cells #[.int .u32 0,.int .u32 0,.int .u32 0] 216)).rowIs w.heap.size 216 3 (fun _=>.int .u32 0)):=T;clear hL hl hpl HE0 T;go_enter func148,ntmps148;go_wp2
 go_loopw [10] (fun iv wr=>Below w.heap.size w wr/\∃j:Nat,j<=m/\iv=.int .i64 j/\Hid (wr.rowIs (w.heap.size+1) 216 3 (fun i=>.int .u32 (if i<j then E i else 0))/\wr.rowIs w.heap.size 216 3 (fun _=>.int .u32 0))) (fun iv _=>m-(intOf iv).toNat)
 case atStart=>exact⟨gG,0,Nat.zero_le _,rfl,HT.out.1.congr fun i hi=>by simp,HT.out.2⟩
 case round=>
  obtain⟨hb,j,hj,rfl,hrow⟩:=hrel;clear HT;by_cases hlt:j<m
  ·have h1:wr.cell? ⟨b,o+j,none⟩=some (.slice (P j) (l j) (c j)):=by
    rcases HL.out.1.heads with q|⟨b',o',e,hh⟩
    ·omega
    ·cases e;exact(hb.cell (Zkk (hh j hlt))).trans (hh j hlt)
   have hpj:=HL.out.2.2 j hlt;have hlj:=HL.out.2.1 j;have HEj:E j=X j (if l j=1 then 0 else place):=by rw[HE.out];unfold elAt;rw[if_pos hlt]
   have hR:=(HL.out.1.parts j hlt).below hb;obtain⟨L,hL0⟩:∃L,L=l j:=⟨_,rfl⟩
   rw[←hL0]at h1 hpj hlj HEj hR;clear hL0;rcases hR with hR|⟨b2,o2,hP,hR⟩
   ·omega
   rw[hP]at h1;clear hP;have c1:=hrow.out.1.cell (i:=j) oM;have f1:=hrow.out.1.frozen j;have i1:(0:Int)<=(j:Int):=oM;have i2:(j:Int)<(m:Int):=oM;have i3:(j:Int)<3:=oM;have j3:j<3:=oM;have HR:Hid (∀x,(wr.setCell ⟨w.heap.size+1,j,none⟩ x).rowIs (w.heap.size+1) 216 3 (fun k=>if k=j then x else .int .u32 (if k<j then E k else 0))/\(wr.setCell ⟨w.heap.size+1,j,none⟩ x).rowIs w.heap.size 216 3 (fun _=>.int .u32 0)):=fun x=>⟨hrow.out.1.set j x,hrow.out.2.setOther sM x⟩
   by_cases hL1:L=1
   ·have h2:wr.cell? ⟨b2,o2,none⟩=some (.int .u32 (E j)):=by have:=hR 0 oM;rw[Nat.add_zero]at this;rw[this,HEj,if_pos hL1]
    subst hL1;exact Zeh
   ·have h2:wr.cell? ⟨b2,o2+place,none⟩=some (.int .u32 (E j)):=by have:=hR place oM;rw[this,HEj,if_neg hL1]
    have c9:¬ ((L:Int)=1):=oM;have i4:(0:Int)<=(place:Int):=oM;have i5:(place:Int)<(L:Int):=oM;exact Zeh
  ·have:j=m:=oM;subst this;have e0:∀k,k<3->(if k<j then E k else 0)=E k:=by
    intro k hk;by_cases q:k<j
    ·rw[if_pos q]
    ·rw[if_neg q,HE.out];unfold elAt;rw[if_neg q]
   have r1:=hrow.out.1.congr (g:=fun i=>.int .u32 (E i)) (fun i hi=>by rw[e0 i hi]);have c0:=r1.cell (i:=0) oM;have c1:=r1.cell (i:=1) oM;have c2:=r1.cell (i:=2) oM;have r0:=hrow.out.2;have d0:=r0.cell (i:=0) oM;have d1:=r0.cell (i:=1) oM;have d2:=r0.cell (i:=2) oM;have f0:=r0.frozen 0;have f1:=r0.frozen 1;have f2:=r0.frozen 2;have r3:=((r0.set 0 (.int .u32 (E 0))).set 1 (.int .u32 (E 1))).set 2 (.int .u32 (E 2));have g0:=r3.cell (i:=0) oM;have g1:=r3.cell (i:=1) oM;have g2:=r3.cell (i:=2) oM;simp only[Nat.reduceEqDiff,if_true,if_false]at g0 g1 g2;clear r1 r0 r3 e0 hrow;go_wp2;refine bodyPost_ret (by simp[results,results148,go_sem, *];try rfl) rfl ?_;exact⟨rfl,((hb.setCell (Nat.le_refl _) _).setCell (Nat.le_refl _) _).setCell (Nat.le_refl _) _⟩
structure Hd where
 pats:List Int
 whole:Int
structure Fr where
 nums:Nat->Int
 whs:Nat->Int
 vecs:Nat->List Int
 slots:List Hd
 outs:Nat->Nat->Int
def putN{α:Type}(f:Nat->α)(k:Nat)(x:α):Nat->α:=fun j=>if j=k then x else f j
theorem Zmi{α:Type}(f:Nat->α)(k:Nat)(x:α):putN f k x k=x:=if_pos rfl
theorem Zmj{α:Type}(f:Nat->α){k j:Nat}(x:α)(h:j≠k):putN f k x j=f j:=if_neg h
theorem Zle{α:Type}{Q:α->Prop}{f:Nat->α}{k:Nat}{x:α}(h:∀j,Q (f j))(hx:Q x)(j:Nat):Q (putN f k x j):=by
 unfold putN;split
 ·exact hx
 ·exact h j
def lenOf(c:Cd)(p:Int):Nat:=((c.sign[p.toNat]?).map fun q=>q.len.toNat).getD 0
def Zia(c:Cd)(p:Int):Nat:=if Zkx c.sign p=2 then 2 else 1
def Zhy(c:Cd)(t:Ty):Nat:=if t.kind=3 then lenOf c t.par else if t.kind=1 then 1 else 0
def Zkf(c:Cd)(t:Ty)(a:Int):List Int:=List.replicate (Zhy c t) (canon a)
def Zix(c:Cd)(s:Sl):Hd:=⟨Zkf c s.ty s.bits,s.int_⟩
def rdP(c:Cd)(f:Fr)(r:Int):Hd:=
 if(regT c.regs r).kind=1 then⟨[f.nums r.toNat],0⟩else if(regT c.regs r).kind=2 then⟨[],f.whs r.toNat⟩else⟨f.vecs r.toNat,0⟩
def stP(c:Cd)(f:Fr)(r:Int)(h:Hd):Fr:=
 if(regT c.regs r).kind=1 then{f with nums:=putN f.nums r.toNat (h.pats.headD 0)}
 else if(regT c.regs r).kind=2 then{f with whs:=putN f.whs r.toNat h.whole}
 else{f with vecs:=putN f.vecs r.toNat h.pats}
def atL(l:List Int)(j:Nat):Int:=(l[j]?).getD 0
def Zkt(vs:List (List Int))(p:Nat):List Int:=(vs[p]?).getD []
def Zir(c:Cd)(vs:List (List Int))(i:Ins):List Int:=
 (List.range (lenOf c (regT c.regs i.d).par)).map fun e=>canon (atL (Zkt vs (regT c.regs i.d).par.toNat) (Zia c (regT c.regs i.d).par*e+i.n.toNat))
def outP(o:Nat->Nat->Int)(p k n:Nat)(l:List Int):Nat->Nat->Int:=
 fun q j=>if q=p/\j%k=n/\j/k<l.length then atL l (j/k)else o q j
def lF(args:List (List Int))(i:Nat):Nat:=(Zkt args i).length
def xF(args:List (List Int))(i j:Nat):Int:=atL (Zkt args i) j
def appP(op:Int)(args:List (List Int)):List Int:=
 match shpV (lF args) (args.length-1)with
 |some n=>(List.range n).map fun i=>opf op (elAt (lF args) (xF args) args.length i 0) (elAt (lF args) (xF args) args.length i 1) (elAt (lF args) (xF args) args.length i 2)
 |none=>[]
def Zji(c:Cd)(f:Fr)(i:Ins):List (List Int):=(Zid i (rowP i.op)).map fun r=>(rdP c f r).pats
def Zlj(c:Cd)(f:Fr)(i:Ins):Fr:=
 if(regT c.regs i.d).kind=2 then{f with whs:=putN f.whs i.d.toNat (f.whs i.a.toNat)}
 else stP c f i.d ⟨if(appP i.op (Zji c f i)).length<Zhy c (regT c.regs i.d)then Zkf c (regT c.regs i.d) ((appP i.op (Zji c f i)).headD 0)else appP i.op (Zji c f i),0⟩
def numI(f:Fr)(i:Ins):Int:=
 if i.op=16 then fpow (f.nums i.a.toNat) (f.whs i.b.toNat)else if i.op=17 then Zne (f.whs i.a.toNat)
 else if i.op=19 then fsum (atL (f.vecs i.a.toNat)) (f.vecs i.a.toNat).length else if i.op=20 then Zmh (atL (f.vecs i.a.toNat)) (f.vecs i.a.toNat).length else i.bits
def Zja(b:Bool):Int:=if b then 1 else 0
def Zms(f:Fr)(i:Ins):Int:=
 if i.op=18 then Zja (fsel (f.nums i.a.toNat) 1065353216 0==1065353216)
 else if i.op=21 then min (f.whs i.a.toNat) 2147483646+1
 else if i.op=22 then Zja (decide (f.whs i.a.toNat<f.whs i.b.toNat))
 else if i.op=23 then Zja (f.whs i.a.toNat==f.whs i.b.toNat)
 else if i.op=24 then Zja (f.whs i.a.toNat != 0&&f.whs i.b.toNat != 0)
 else if i.op=25 then Zja (f.whs i.a.toNat==0)
 else if i.op=26 then(if f.whs i.a.toNat=0 then f.whs i.c.toNat else f.whs i.b.toNat)
 else if i.op=27 then max (f.whs i.a.toNat-f.whs i.b.toNat) 0
 else if i.op=28 then(if f.whs i.b.toNat=0 then 0 else f.whs i.a.toNat/f.whs i.b.toNat)
 else i.n
def Zlx(op:Int):Bool:=op==1||op==16||op==17||op==19||op==20
def Zju(op:Int):Bool:=op==2||op==18||(decide (21<=op)&&decide (op<=28))
def doI(c:Cd)(G P:List (List Int))(f:Fr)(i:Ins):Fr:=
 if Zlx i.op then{f with nums:=putN f.nums i.d.toNat (numI f i)}
 else if Zju i.op then{f with whs:=putN f.whs i.d.toNat (Zms f i)}
 else if i.op=29 then{f with vecs:=putN f.vecs i.d.toNat (Zir c G i)}
 else if i.op=30 then{f with vecs:=putN f.vecs i.d.toNat (Zir c P i)}
 else if i.op=31 then{f with outs:=outP f.outs (regT c.regs i.a).par.toNat (Zia c (regT c.regs i.a).par) i.n.toNat (f.vecs i.a.toNat)}
 else if i.op=32 then stP c f i.d ((f.slots[i.n.toNat]?).getD ⟨[],0⟩)
 else if i.op=33 then{f with slots:=f.slots.set i.n.toNat (rdP c f i.a)}
 else if 34<=i.op/\i.op<=37 then f
 else Zlj c f i
def Zjn(c:Cd)(G P:List (List Int))(s:Fr×Nat)(i:Ins):Fr×Nat:=
 if 0<s.2/\i.op=35 then(s.1,s.2-1)
 else if i.op=34/\(0<s.2\/s.1.whs i.a.toNat=0)then(s.1,s.2+1)
 else if s.2=0 then(doI c G P s.1 i,0)else s
def goI(c:Cd)(G P:List (List Int))(s:Fr×Nat)(l:List Ins):Fr×Nat:=l.foldl (Zjn c G P) s
def Zjm(c:Cd):List Hd:=c.slots.map (Zix c)
def numL(p:Par):Nat:=(numP p).toNat
def updP(c:Cd)(f:Fr):List (List Int):=(List.range c.sign.length).map fun p=>(List.range ((c.sign[p]?).elim 0 numL)).map (f.outs p)
def Zly(c:Cd)(G P:List (List Int)):Bool:=Zin c.sign (G.map (·.length))&&Zin c.sign (P.map (·.length))
end Go.Proofs.YtbinohkcolcbfaaGreat
set_option maxRecDepth 100000
set_option maxHeartbeats 16000000
namespace Go.Proofs.YtbinohkcolcbfaaGreat
open Go.RowKit Go.Proofs.Tryz
set_option linter.unusedVariables false
set_option linter.unusedSimpArgs false
structure Un(U:Nat->Prop)(w w':World):Prop where
 os:w'.os=w.os
 tape:w'.tape=w.tape
 output:w'.output=w.output
 size:w.heap.size<=w'.heap.size
 block:∀b,b<w.heap.size->¬U b->w'.heap[b]? =w.heap[b]?
section
variable {U T : Nat -> Prop} {w w' w'' : World}
theorem Un.refl(U:Nat->Prop)(w:World):Un U w w:=⟨rfl,rfl,rfl,Nat.le_refl _,fun _ _ _=>rfl⟩
theorem Un.trans(h:Un U w w')(k:Un U w' w''):Un U w w'':=
 ⟨k.os.trans h.os,k.tape.trans h.tape,k.output.trans h.output,Nat.le_trans h.size k.size,fun b hb hu=>(k.block b (Nat.lt_of_lt_of_le hb h.size) hu).trans (h.block b hb hu)⟩
theorem Un.of(h:Below w.heap.size w w'):Un U w w':=⟨h.os,h.tape,h.output,h.size,fun b hb _=>h.block b hb⟩
theorem Un.mono(h:Un U w w')(k:∀b,U b->T b):Un T w w':=⟨h.os,h.tape,h.output,h.size,fun b hb hu=>h.block b hb fun q=>hu (k b q)⟩
theorem Un.on(h:Un U w w')(k:Below w'.heap.size w' w''):Un U w w'':=h.trans (Un.of k)
theorem Un.below{B:Nat}(h:Un U w w')(hB:B<=w.heap.size)(k:∀b,U b->B<=b):Below B w w':=
 ⟨h.os,h.tape,h.output,h.size,fun b hb=>h.block b oM fun q=>by have:=k b q;omega⟩
theorem Un.setCell(h:Un U w w'){p:Addr}(hp:U p.block)(x:Value):Un U w (w'.setCell p x):=
 ⟨h.os,h.tape,h.output,by simpa[World.setCell]using h.size,fun b hb hu=>by
  have hne:b≠p.block:=fun e=>hu (by rw[e];exact hp)
  rw[Below.heap_setCell _ _ _ _ (by exact hne)];exact h.block b hb hu⟩
theorem Un.grown(h:Un U w w'){b:Nat}(hb:U b)(g:w'.grownBy w'' (some b)):Un U w w'':=by
 have k:Below w'.heap.size w' w':=Below.refl _ _;refine h.trans ⟨g.os,g.tape,g.output,g.size,fun j hj hu=>g.block j hj (fun e=>?_)⟩;cases e;exact hu hb
end
def RowT{α:Type}(T:Nat->Prop)(k:Nat)(f:α->List Value)(w:World)(v:Value)(l:List α):Prop:=
 ∃p c,v=.slice p l.length c/\(l=[]\/∃b o,p=some ⟨b,o,none⟩/\¬T b/\b<w.heap.size/\∀i (h:i<l.length),Zhx w b (o+i*k) (f l[i]))
section
variable {α : Type} {T U : Nat -> Prop} {k : Nat} {f : α -> List Value} {w w' : World} {v : Value} {l : List α}
theorem RowT.row(h:RowT T k f w v l):RowG k f w v l:=by
 obtain⟨p,c,hv,h⟩:=h;exact⟨p,c,hv,h.imp id fun⟨b,o,hp,_,_,h⟩=>⟨b,o,hp,h⟩⟩
theorem RowT.un(h:RowT T k f w v l)(q:Un U w w')(hu:∀b,b<w.heap.size->U b->T b):RowT T k f w' v l:=by
 obtain⟨p,c,hv,h⟩:=h;exact⟨p,c,hv,h.imp id fun⟨b,o,hp,ht,hb,h⟩=>⟨b,o,hp,ht,Nat.lt_of_lt_of_le hb q.size,fun i hi=>(h i hi).of_block (q.block b hb fun e=>ht (hu b hb e))⟩⟩
theorem RowT.below(h:RowT T k f w v l)(q:Below w.heap.size w w'):RowT T k f w' v l:=h.un (U:=fun _=>False) (Un.of q) (fun _ _ e=>e.elim)
theorem RowT.mono(h:RowT T k f w v l)(hu:∀b,b<w.heap.size->U b->T b):RowT U k f w v l:=by
 obtain⟨p,c,hv,h⟩:=h;exact⟨p,c,hv,h.imp id fun⟨b,o,hp,ht,hb,h⟩=>⟨b,o,hp,fun e=>ht (hu b hb e),hb,h⟩⟩
end
def ptC(x:Int):List Value:=[.int .u32 x]
abbrev Pt(T:Nat->Prop)(w:World)(v:Value)(l:List Int):Prop:=RowT T 1 ptC w v l
theorem Pt.nil(T:Nat->Prop)(w:World)(p:Option Addr)(c:Nat):Pt T w (.slice p 0 c) []:=⟨p,c,rfl,.inl rfl⟩
theorem Pt.reads{T:Nat->Prop}{w:World}{p:Option Addr}{n c:Nat}{l:List Int}(h:Pt T w (.slice p n c) l):n=l.length/\Zio w p n (fun j=>.int .u32 (atL l j)):=by
 obtain⟨p',c',hv,h⟩:=h;simp only[Value.slice.injEq]at hv;obtain⟨rfl,rfl,rfl⟩:=hv;refine⟨rfl,?_⟩;rcases h with h|⟨b,o,hp,_,_,h⟩
 ·exact .inl (by rw[h];rfl)
 ·refine .inr ⟨b,o,hp,fun i hi=>?_⟩;have:=(h i hi).at 0 (v:=.int .u32 l[i]) rfl;rw[Nat.mul_one,Nat.add_zero]at this;rw[this];simp[atL,List.getElem?_eq_getElem hi]
theorem Pt.len{T:Nat->Prop}{w:World}{v:Value}{l:List Int}(h:Pt T w v l):∃p c,v=.slice p l.length c:=by
 obtain⟨p,c,hv,_⟩:=h;exact⟨p,c,hv⟩
theorem Pt.of_row{T:Nat->Prop}{w:World}{g:Nat}{t:TypeId}{n:Nat}{X:Nat->Int}{l:List Int}(h:w.rowIs g t n (fun j=>.int .u32 (X j)))(ht:¬T g)(hl:l.length=n)(hx:∀j,j<n->atL l j=X j)(c:Nat):Pt T w (.slice (some ⟨g,0,none⟩) n c) l:=by
 refine⟨_,c,by rw[hl],.inr ⟨g,0,rfl,ht,h.lt,fun i hi j hj=>?_⟩⟩;have hj0:j=0:=by have:j<1:=hj;omega
 subst hj0;have:=h.cell (i:=i) oM;rw[←hx i oM]at this;simp only[Nat.zero_add,Nat.mul_one,Nat.add_zero,ptC,List.getElem_cons_zero];rw[this];simp[atL,List.getElem?_eq_getElem hi]
def VsT(T:Nat->Prop)(w:World)(v:Value)(L:List (List Int)):Prop:=
 ∃p c,v=.slice p L.length c/\(L=[]\/∃b o,p=some ⟨b,o,none⟩/\¬T b/\b<w.heap.size/\∀i (h:i<L.length),∃u,w.cell? ⟨b,o+i,none⟩=some u/\Pt T w u L[i])
theorem VsT.un{T U:Nat->Prop}{w w':World}{v:Value}{L:List (List Int)}(h:VsT T w v L)(q:Un U w w')(hu:∀b,b<w.heap.size->U b->T b):VsT T w' v L:=by
 obtain⟨p,c,hv,h⟩:=h;refine⟨p,c,hv,h.imp id fun⟨b,o,hp,ht,hb,h⟩=>⟨b,o,hp,ht,Nat.lt_of_lt_of_le hb q.size,fun i hi=>?_⟩⟩;obtain⟨u,h1,h2⟩:=h i hi;exact⟨u,(World.cell?_of_block (q.block b hb fun e=>ht (hu b hb e))).trans h1,h2.un q hu⟩
theorem VsT.below{T:Nat->Prop}{w w':World}{v:Value}{L:List (List Int)}(h:VsT T w v L)(q:Below w.heap.size w w'):VsT T w' v L:=h.un (U:=fun _=>False) (Un.of q) (fun _ _ e=>e.elim)
theorem VsT.mono{T U:Nat->Prop}{w:World}{v:Value}{L:List (List Int)}(h:VsT T w v L)(hu:∀b,b<w.heap.size->U b->T b):VsT U w v L:=by
 obtain⟨p,c,hv,h⟩:=h;refine⟨p,c,hv,h.imp id fun⟨b,o,hp,ht,hb,h⟩=>⟨b,o,hp,fun e=>ht (hu b hb e),hb,fun i hi=>?_⟩⟩;obtain⟨u,h1,h2⟩:=h i hi;exact⟨u,h1,h2.mono hu⟩
structure Lay where
 C:Nat
 S:Nat
 FR:Nat
 NB:Nat
 WB:Nat
 MB:Nat
 UB:Nat
 K:Nat
 ub:Nat->Nat
 sp:Option Addr
 sc:Nat
 v0:Value
 v1:Value
 v2:Value
 v3:Value
 gv:Value
 pv:Value
structure CdT(T:Nat->Prop)(w:World)(a:Lay)(c:Cd):Prop where
 hC:¬T a.C
 ltC:a.C<w.heap.size
 cells:Zhx w a.C 0 [a.v0,a.v1,a.v2,a.v3]
 sign:RowT T 3 Zjc w a.v0 c.sign
 regs:RowT T 2 tyC w a.v1 c.regs
 slots:RowT T 5 slC w a.v2 c.slots
 list:RowT T 7 inC w a.v3 c.list
theorem CdT.un{T U:Nat->Prop}{w w':World}{a:Lay}{c:Cd}(h:CdT T w a c)(q:Un U w w')(hu:∀b,b<w.heap.size->U b->T b):CdT T w' a c:=
 ⟨h.hC,Nat.lt_of_lt_of_le h.ltC q.size,h.cells.of_block (q.block _ h.ltC fun e=>h.hC (hu _ h.ltC e)),h.sign.un q hu,h.regs.un q hu,h.slots.un q hu,h.list.un q hu⟩
theorem CdT.below{T:Nat->Prop}{w w':World}{a:Lay}{c:Cd}(h:CdT T w a c)(q:Below w.heap.size w w'):CdT T w' a c:=h.un (U:=fun _=>False) (Un.of q) (fun _ _ e=>e.elim)
theorem CdT.mono{T U:Nat->Prop}{w:World}{a:Lay}{c:Cd}(h:CdT T w a c)(hu:∀b,b<w.heap.size->U b->T b):CdT U w a c:=
 ⟨fun e=>h.hC (hu _ h.ltC e),h.ltC,h.cells,h.sign.mono hu,h.regs.mono hu,h.slots.mono hu,h.list.mono hu⟩
structure SlT(T:Nat->Prop)(w:World)(a:Lay)(X:Nat->Value)(l:List Hd):Prop where
 row:w.rowIs a.S 78 (2*a.K) X
 sp:l=[]\/a.sp=some ⟨a.S,0,none⟩
 le:l.length<=a.K
 whole:∀j (h:j<l.length),X (2*j+1)=.int .i64 l[j].whole
 pats:∀j (h:j<l.length),Pt T w (X (2*j)) l[j].pats
theorem SlT.un{T U:Nat->Prop}{w w':World}{a:Lay}{X:Nat->Value}{l:List Hd}(h:SlT T w a X l)(q:Un U w w')(hS:¬U a.S)(hu:∀b,b<w.heap.size->U b->T b):SlT T w' a X l:=
 ⟨h.row.of_block (q.block _ h.row.lt hS),h.sp,h.le,h.whole,fun j hj=>(h.pats j hj).un q hu⟩
theorem SlT.below{T:Nat->Prop}{w w':World}{a:Lay}{X:Nat->Value}{l:List Hd}(h:SlT T w a X l)(q:Below w.heap.size w w'):SlT T w' a X l:=h.un (U:=fun _=>False) (Un.of q) (fun e=>e) (fun _ _ e=>e.elim)
theorem SlT.mono{T U:Nat->Prop}{w:World}{a:Lay}{X:Nat->Value}{l:List Hd}(h:SlT T w a X l)(hu:∀b,b<w.heap.size->U b->T b):SlT U w a X l:=
 ⟨h.row,h.sp,h.le,h.whole,fun j hj=>(h.pats j hj).mono hu⟩
end Go.Proofs.YtbinohkcolcbfaaGreat
namespace Go.Proofs.YtbinohkcolcbfaaGreat
open Go.RowKit Go.Proofs.Tryz
set_option linter.unusedVariables false
set_option linter.unusedSimpArgs false
set_option maxRecDepth 100000
set_option maxHeartbeats 16000000
theorem Zwt(b:Bool)(w:World):Calls prog 113 #[.bool b] w fun e w'=>e=.returned (.int .i64 (Zja b))/\w'=w:=by
 cases b<;>(go_enter func113,ntmps113;go_wp2;go_ret;exact⟨rfl,rfl⟩)
theorem Zakr(a:Int)(ha:IsP a)(w:World):Calls prog 114 #[.int .u32 a] w fun e w'=>e=.returned (.bool (fsel a 1065353216 0==1065353216))/\w'=w:=by
 go_enter func114,ntmps114;go_wp2_with(go_at_call 144;refine(Zws _ ha.1 ha.2 _ dE dE _ dE dE _).mono ?_;rintro e w1 ⟨rfl,hw'⟩;obtain rfl:=hw'.symm);go_ret;exact⟨rfl,rfl⟩
theorem Zahv(a b c:Int)(w:World):Calls prog 115 #[.int .i64 a,.int .i64 b,.int .i64 c] w fun e w'=>e=.returned (.int .i64 (if a=0 then c else b))/\w'=w:=by
 by_cases h:a=0
 ·subst h;go_enter func115,ntmps115;go_wp2;go_ret;exact⟨rfl,rfl⟩
 ·have h1:(a != 0)=true:=by simpa using h
  have h2:(a==0)=false:=by simpa using h
  rw[if_neg h];go_enter func115,ntmps115;go_wp2;go_ret;exact⟨rfl,rfl⟩
theorem Zyi{T:Nat->Prop}(a:Lay)(c:Cd)(t:Ty)(w:World)(hc:CdT T w a c)(ht:t.kind=3->isPl t.par c.sign.length=true)(hl:∀p∈c.sign,0<=p.len):
 Calls prog 59 #[.pointer (some ⟨a.C,0,none⟩),tyV t] w fun e w'=>e=.returned (.int .i64 (Zhy c t))/\Below w.heap.size w w':=by
 obtain⟨k,p⟩:=t;unfold tyV Zhy;simp only at ht ⊢;have c0:=hc.cells.at 0 (v:=a.v0) rfl;by_cases h3:k=3
 ·subst h3;obtain⟨h0,h1⟩:=Zld.1 (ht rfl);obtain⟨j,rfl⟩:∃j:Nat,p=(j:Int):=⟨p.toNat,oM⟩
  obtain⟨q,m,hv⟩:∃q m,a.v0=.slice q c.sign.length m:=by obtain⟨q,m,hv,_⟩:=hc.sign;exact⟨q,m,hv⟩
  have hrow:=hc.sign.row;rw[hv]at hrow c0;obtain⟨b,o,rfl,hcell⟩:=hrow.at (i:=j) oM;have hx:=hcell.at 2 (v:=.int .i64 c.sign[j].len) rfl;have hn:=hl c.sign[j] (List.getElem_mem _);have hw:(if(3:Int)=3 then lenOf c ((j:Int))else if(3:Int)=1 then 1 else 0)=c.sign[j].len.toNat:=by
   rw[if_pos rfl];unfold lenOf;simp[show j<c.sign.length by omega]
  rw[hw];obtain⟨N,hN⟩:∃N,c.sign.length=N:=⟨_,rfl⟩
  obtain⟨L,hL⟩:∃L,c.sign[j].len=L:=⟨_,rfl⟩
  rw[hL]at hx hn ⊢;rw[hN]at c0 h1;have hLL:((L.toNat:Nat):Int)=L:=oM;rw[hLL];clear hw hcell hrow hv hL hN;have f0:=kc (Zhq w (.cells #[.int .i64 3,.int .i64 (j:Int)] 69)) c0;have f1:=kc (Zhq w (.cells #[.int .i64 3,.int .i64 (j:Int)] 69)) hx;have n1:b≠w.heap.size:=by have:=Zhr hx;simp at this;omega
  have n2:a.C≠w.heap.size:=by have:=Zhr c0;simp at this;omega
  obtain⟨C,hC⟩:∃C,a.C=C:=⟨_,rfl⟩
  rw[hC]at c0 f0 n2 ⊢;clear hC hc hl ht;go_enter func59,ntmps59;go_wp2;refine rG (fun v=>v.cell? ⟨C,0,none⟩=some (.slice (some ⟨b,o,none⟩) N m)/\v.cell? ⟨b,o+j*3+2,none⟩=some (.int .i64 L)/\v.cell? ⟨w.heap.size,0,none⟩=some (.int .i64 3)/\v.cell? ⟨w.heap.size,1,none⟩=some (.int .i64 (j:Int))) fun hHeld=>?_;refine Tf 0 1 2 3 4 5 ?_;refine Tc 6 7 8 ?_;refine tkT 9 ?_;refine wpAnyH_done kR ?_ _;go_wp2;go_ret;exact⟨rfl,gG⟩
 ·have e3:(k==3)=false:=by simpa using h3
  rw[if_neg h3];by_cases h1:k=1
  ·subst h1;clear hc ht hl c0;go_enter func59,ntmps59;go_wp2;go_ret;exact⟨rfl,gG⟩
  ·have e1:(k==1)=false:=by simpa using h1
   rw[if_neg h1];clear hc ht hl c0;go_enter func59,ntmps59;go_wp2;go_ret;exact⟨rfl,gG⟩
end Go.Proofs.YtbinohkcolcbfaaGreat
set_option maxRecDepth 100000
set_option maxHeartbeats 16000000
namespace Go.Proofs.YtbinohkcolcbfaaGreat
open Go.RowKit Go.Proofs.Tryz
set_option linter.unusedVariables false
set_option linter.unusedSimpArgs false
def mutT(T:Nat->Prop)(E E':Nat):Nat->Prop:=fun b=>T b\/(E<=b/\b<E')
def Zjg(c:Cd)(p:Nat):Nat:=(c.sign[p]?).elim 0 numL
structure FX(T:Nat->Prop)(E E':Nat)(a:Lay)(c:Cd)(G P:List (List Int))(w:World):Prop where
 hE:E<=E'
 hE':E'<=w.heap.size
 hT:∀b,T b->b<E
 hS:T a.S
 code:CdT (mutT T E E') w a c
 g:VsT (mutT T E E') w a.gv G
 p:VsT (mutT T E E') w a.pv P
 fr:Zhx w a.FR 0 [.pointer (some ⟨a.C,0,none⟩),.slice a.sp c.slots.length a.sc,.slice (some ⟨a.NB,0,none⟩) c.regs.length c.regs.length,.slice (some ⟨a.WB,0,none⟩) c.regs.length c.regs.length,.map (some a.MB),a.gv,a.pv,.slice (some ⟨a.UB,0,none⟩) c.sign.length c.sign.length]
 upd:w.rowIs a.UB 57 c.sign.length (fun p=>.slice (some ⟨a.ub p,0,none⟩) (Zjg c p) (Zjg c p))
 iFR:E<=a.FR/\a.FR<E'
 iNB:E<=a.NB/\a.NB<E'
 iWB:E<=a.WB/\a.WB<E'
 iMB:E<=a.MB/\a.MB<E'
 iUB:E<=a.UB/\a.UB<E'
 iub:∀p,p<c.sign.length->E<=a.ub p/\a.ub p<E'
 d1:a.FR≠a.NB/\a.FR≠a.WB/\a.FR≠a.MB/\a.FR≠a.UB/\a.NB≠a.WB/\a.NB≠a.MB/\a.NB≠a.UB/\a.WB≠a.MB/\a.WB≠a.UB/\a.MB≠a.UB
 d2:∀p,p<c.sign.length->a.ub p≠a.FR/\a.ub p≠a.NB/\a.ub p≠a.WB/\a.ub p≠a.MB/\a.ub p≠a.UB
 d3:∀p q,p<c.sign.length->q<c.sign.length->a.ub p=a.ub q->p=q
structure FV(T:Nat->Prop)(E E':Nat)(a:Lay)(c:Cd)(w:World)(X:Nat->Value)(M:Nat)(m:Nat->Option Value)(f:Fr):Prop where
 nums:w.rowIs a.NB 43 c.regs.length (fun j=>.int .u32 (f.nums j))
 whs:w.rowIs a.WB 3 c.regs.length (fun j=>.int .i64 (f.whs j))
 map:MapI w a.MB M m
 vecs:∀r,r<c.regs.length->Pt (mutT T E E') w ((m r).getD (.slice none 0 0)) (f.vecs r)
 outs:∀p,p<c.sign.length->w.rowIs (a.ub p) 43 (Zjg c p) (fun j=>.int .u32 (f.outs p j))
 slots:SlT (mutT T E E') w a X f.slots
 slotsL:f.slots.length=c.slots.length
section
variable {T : Nat -> Prop} {E E' : Nat} {a : Lay} {c : Cd} {G P : List (List Int)} {w w' : World} {X : Nat -> Value} {M : Nat} {m : Nat -> Option Value} {f : Fr}
theorem FX.un{U:Nat->Prop}(h:FX T E E' a c G P w)(q:Un U w w')(hu:∀b,b<w.heap.size->U b->mutT T E E' b)(h1:¬U a.FR)(h2:¬U a.UB):FX T E E' a c G P w':=
 ⟨h.hE,Nat.le_trans h.hE' q.size,h.hT,h.hS,h.code.un q hu,h.g.un q hu,h.p.un q hu,h.fr.of_block (q.block _ (by have:=h.iFR;have:=h.hE';omega) h1),h.upd.of_block (q.block _ h.upd.lt h2),h.iFR,h.iNB,h.iWB,h.iMB,h.iUB,h.iub,h.d1,h.d2,h.d3⟩
theorem FX.below(h:FX T E E' a c G P w)(q:Below w.heap.size w w'):FX T E E' a c G P w':=h.un (U:=fun _=>False) (Un.of q) (fun _ _ e=>e.elim) (fun e=>e) (fun e=>e)
theorem FV.below(h:FV T E E' a c w X M m f)(q:Below w.heap.size w w'):FV T E E' a c w' X M m f:=
 ⟨h.nums.of_block (q.block _ h.nums.lt),h.whs.of_block (q.block _ h.whs.lt),h.map.below q,fun r hr=>(h.vecs r hr).below q,fun p hp=>(h.outs p hp).of_block (q.block _ (h.outs p hp).lt),h.slots.below q,h.slotsL⟩
theorem FX.ltS(h:FX T E E' a c G P w):a.S<E:=h.hT _ h.hS
theorem Zwc(b:Nat)(h:E<=b/\b<E'):mutT T E E' b:=.inr h
theorem FV.num(x:FX T E E' a c G P w)(h:FV T E E' a c w X M m f){d:Nat}(hd:d<c.regs.length)(y:Int)(q:w'=w.setCell ⟨a.NB,d,none⟩ (.int .u32 y)):
 FX T E E' a c G P w'/\FV T E E' a c w' X M m {f with nums:=putN f.nums d y}/\Un (fun b=>b=a.NB) w w':=by
 subst q;have hU:Un (fun b=>b=a.NB) w (w.setCell ⟨a.NB,d,none⟩ (.int .u32 y)):=(Un.refl (fun b=>b=a.NB) w).setCell (p:=⟨a.NB,d,none⟩) rF _;have hu:∀b,b<w.heap.size->b=a.NB->mutT T E E' b:=fun b _ e=>e▸Zwc _ x.iNB;obtain⟨e1,e2,e3,e4,e5,e6,e7,e8,e9,e10⟩:=x.d1;have hs:=x.ltS;have hi:=x.iNB;refine⟨x.un hU hu e1 (Ne.symm e7),⟨(h.nums.set d _).congr fun j hj=>?_,h.whs.of_block (hU.block _ h.whs.lt (Ne.symm e5)),h.map.block (hU.block _ h.map.lt (Ne.symm e6)),fun r hr=>(h.vecs r hr).un hU hu,fun p hp=>(h.outs p hp).of_block (hU.block _ (h.outs p hp).lt (x.d2 p hp).2.1),h.slots.un hU oM hu,h.slotsL⟩,hU⟩;simp only[putN];split<;>rfl
theorem FV.wh(x:FX T E E' a c G P w)(h:FV T E E' a c w X M m f){d:Nat}(hd:d<c.regs.length)(y:Int)(q:w'=w.setCell ⟨a.WB,d,none⟩ (.int .i64 y)):
 FX T E E' a c G P w'/\FV T E E' a c w' X M m {f with whs:=putN f.whs d y}/\Un (fun b=>b=a.WB) w w':=by
 subst q;have hU:Un (fun b=>b=a.WB) w (w.setCell ⟨a.WB,d,none⟩ (.int .i64 y)):=(Un.refl (fun b=>b=a.WB) w).setCell (p:=⟨a.WB,d,none⟩) rF _;have hu:∀b,b<w.heap.size->b=a.WB->mutT T E E' b:=fun b _ e=>e▸Zwc _ x.iWB;obtain⟨e1,e2,e3,e4,e5,e6,e7,e8,e9,e10⟩:=x.d1;have hs:=x.ltS;have hi:=x.iWB;refine⟨x.un hU hu e2 (Ne.symm e9),⟨h.nums.of_block (hU.block _ h.nums.lt e5),(h.whs.set d _).congr fun j hj=>?_,h.map.block (hU.block _ h.map.lt (Ne.symm e8)),fun r hr=>(h.vecs r hr).un hU hu,fun p hp=>(h.outs p hp).of_block (hU.block _ (h.outs p hp).lt (x.d2 p hp).2.2.1),h.slots.un hU oM hu,h.slotsL⟩,hU⟩;simp only[putN];split<;>rfl
theorem FV.vec(x:FX T E E' a c G P w)(h:FV T E E' a c w X M m f){d:Nat}(hd:d<c.regs.length){v:Value}{l:List Int}(hv:Pt (mutT T E E') w v l)(hm:MapI w' a.MB (M+1) (updI m d v))(hg:w.grownBy w' (some a.MB)):
 FX T E E' a c G P w'/\FV T E E' a c w' X (M+1) (updI m d v) {f with vecs:=putN f.vecs d l}/\Un (fun b=>b=a.MB) w w':=by
 have hU:Un (fun b=>b=a.MB) w w':=(Un.refl (fun b=>b=a.MB) w).grown (b:=a.MB) rF hg;have hu:∀b,b<w.heap.size->b=a.MB->mutT T E E' b:=fun b _ e=>e▸Zwc _ x.iMB;obtain⟨e1,e2,e3,e4,e5,e6,e7,e8,e9,e10⟩:=x.d1;have hs:=x.ltS;have hi:=x.iMB;refine⟨x.un hU hu e3 (Ne.symm e10),⟨h.nums.of_block (hU.block _ h.nums.lt e6),h.whs.of_block (hU.block _ h.whs.lt e8),hm,fun r hr=>?_,fun p hp=>(h.outs p hp).of_block (hU.block _ (h.outs p hp).lt (x.d2 p hp).2.2.2.1),h.slots.un hU oM hu,h.slotsL⟩,hU⟩;simp only[putN,updI];split
 ·exact hv.un hU hu
 ·exact(h.vecs r hr).un hU hu
theorem FV.slot(x:FX T E E' a c G P w)(h:FV T E E' a c w X M m f){d:Nat}(hd:d<f.slots.length){v:Value}{hh:Hd}(hv:Pt (mutT T E E') w v hh.pats)(q:w'=(w.setCell ⟨a.S,d*2,none⟩ v).setCell ⟨a.S,d*2+1,none⟩ (.int .i64 hh.whole)):
 FX T E E' a c G P w'/\(∃X',FV T E E' a c w' X' M m {f with slots:=f.slots.set d hh})/\Un (fun b=>b=a.S) w w':=by
 subst q;have hU:Un (fun b=>b=a.S) w ((w.setCell ⟨a.S,d*2,none⟩ v).setCell ⟨a.S,d*2+1,none⟩ (.int .i64 hh.whole)):=((Un.refl (fun b=>b=a.S) w).setCell (p:=⟨a.S,d*2,none⟩) rF _).setCell (p:=⟨a.S,d*2+1,none⟩) rF _;have hu:∀b,b<w.heap.size->b=a.S->mutT T E E' b:=fun b _ e=>e▸ .inl x.hS;have hs:=x.ltS;have i1:=x.iFR;have i2:=x.iNB;have i3:=x.iWB;have i4:=x.iMB;have i5:=x.iUB;refine⟨x.un hU hu oM oM,⟨fun j=>if j=d*2+1 then .int .i64 hh.whole else if j=d*2 then v else X j,⟨h.nums.of_block (hU.block _ h.nums.lt oM),h.whs.of_block (hU.block _ h.whs.lt oM),h.map.block (hU.block _ h.map.lt oM),fun r hr=>(h.vecs r hr).un hU hu,fun p hp=>(h.outs p hp).of_block (hU.block _ (h.outs p hp).lt (by have:=x.iub p hp;omega)),?_,by simp[h.slotsL]⟩⟩,hU⟩;refine⟨(h.slots.row.set (d*2) v).set (d*2+1) _,?_,by simpa using h.slots.le,fun j hj=>?_,fun j hj=>?_⟩
 ·rcases h.slots.sp with e|e
  ·rw[e]at hd;exact absurd hd (Nat.not_lt_zero _)
  ·exact .inr e
 ·exact Zef
 ·exact Zdv
theorem FV.out(x:FX T E E' a c G P w)(h:FV T E E' a c w X M m f){p j:Nat}(hp:p<c.sign.length)(y:Int)(q:w'=w.setCell ⟨a.ub p,j,none⟩ (.int .u32 y)):
 FX T E E' a c G P w'/\FV T E E' a c w' X M m {f with outs:=fun p' j'=>if p'=p/\j'=j then y else f.outs p' j'}/\Un (fun b=>b=a.ub p) w w':=by
 subst q;have hU:Un (fun b=>b=a.ub p) w (w.setCell ⟨a.ub p,j,none⟩ (.int .u32 y)):=(Un.refl (fun b=>b=a.ub p) w).setCell (p:=⟨a.ub p,j,none⟩) rF _;have hu:∀b,b<w.heap.size->b=a.ub p->mutT T E E' b:=fun b _ e=>e▸Zwc _ (x.iub p hp);obtain⟨e1,e2,e3,e4,e5⟩:=x.d2 p hp;have hs:=x.ltS;have hi:=x.iub p hp;refine⟨x.un hU hu (Ne.symm e1) (Ne.symm e5),⟨h.nums.of_block (hU.block _ h.nums.lt (Ne.symm e2)),h.whs.of_block (hU.block _ h.whs.lt (Ne.symm e3)),h.map.block (hU.block _ h.map.lt (Ne.symm e4)),fun r hr=>(h.vecs r hr).un hU hu,fun p' hp'=>?_,h.slots.un hU oM hu,h.slotsL⟩,hU⟩;by_cases e:p'=p
 ·subst e;refine((h.outs p' hp').set j _).congr fun i hi=>?_;simp only[true_and];split<;>rfl
 ·refine((h.outs p' hp').of_block (hU.block _ (h.outs p' hp').lt fun q=>e (x.d3 _ _ hp' hp q))).congr fun i hi=>?_;simp only[e,false_and,if_false]
end
end Go.Proofs.YtbinohkcolcbfaaGreat
set_option maxRecDepth 100000
set_option maxHeartbeats 16000000
namespace Go.Proofs.YtbinohkcolcbfaaGreat
open Go.RowKit Go.Proofs.Tryz
set_option linter.unusedVariables false
set_option linter.unusedSimpArgs false
structure Good(c:Cd):Prop where
 len:∀p∈c.sign,1<=p.len/\p.len<=4096
 kind:∀p∈c.sign,mayP p=true
 regs:∀t∈c.regs,Zil t c.sign.length=true
 slots:∀s∈c.slots,Zjh s c.sign.length=true
 regsL:c.regs.length<=16384
 slotsL:c.slots.length<=4096
 listL:c.list.length<=32768
 signL:c.sign.length<=64
theorem Good.type{c:Cd}(h:Good c){t:Ty}(ht:t∈c.regs)(h3:t.kind=3):isPl t.par c.sign.length=true:=by
 have:=h.regs t ht;unfold Zil at this;rw[if_neg oM,if_pos h3]at this;exact this
theorem Good.slotT{c:Cd}(h:Good c){s:Sl}(hs:s∈c.slots)(h3:s.ty.kind=3):isPl s.ty.par c.sign.length=true:=by
 have:=h.slots s hs;unfold Zjh Zil at this;rw[if_neg oM,if_pos h3]at this;simp only[Bool.and_eq_true]at this;exact this.1
theorem Good.lenOf{c:Cd}(h:Good c)(p:Int):lenOf c p<=4096:=by
 unfold Proofs.YtbinohkcolcbfaaGreat.lenOf;cases hp:c.sign[p.toNat]? with
 |none=>simp
 |some q=>
  have:=h.len q (List.mem_of_getElem? hp);simp only[Option.map_some,Option.getD_some];omega
theorem Good.width{c:Cd}(h:Good c)(t:Ty):Zhy c t<=4096:=by
 unfold Zhy;split
 ·exact h.lenOf _
 ·split<;>omega
theorem Zvt{T:Nat->Prop}(a:Lay)(c:Cd)(hg:Good c)(t:Ty)(x:Int)(hx:IsP x)(w:World)(hc:CdT T w a c)(ht:t.kind=3->isPl t.par c.sign.length=true):
 Calls prog 33 #[.pointer (some ⟨a.C,0,none⟩),tyV t,.int .u32 x] w fun e w'=>∃g,e=.returned (.slice (some ⟨g,0,none⟩) (Zhy c t) (Zhy c t))/\w.heap.size<=g/\w'.rowIs g 43 (Zhy c t) (fun _=>.int .u32 (canon x))/\Below w.heap.size w w':=by
 have KW:∀v,Below w.heap.size w v->Calls prog 59 #[.pointer (some ⟨a.C,0,none⟩),tyV t] v fun e w'=>e=.returned (.int .i64 (Zhy c t))/\Below v.heap.size v w':=fun v hv=>Zyi a c t v (hc.below hv) ht fun p hp=>by have:=(hg.len p hp).1;omega
 have hN:=hg.width t;obtain⟨N,hN'⟩:∃N,Zhy c t=N:=⟨_,rfl⟩
 rw[hN']at KW hN ⊢;obtain⟨k,p⟩:=t;unfold tyV at KW ⊢;simp only at KW ⊢;have HK:Hid (∀v,Below w.heap.size w v->Calls prog 59 #[.pointer (some ⟨a.C,0,none⟩),.agg #[.int .i64 k,.int .i64 p]] v fun e w'=>e=.returned (.int .i64 (N:Int))/\Below v.heap.size v w'):=KW;clear KW hc ht hN' hg;go_enter func33,ntmps33;go_wp2_with(first
  |(go_at_call 59;refine(HK.out _ (Zhq _ _)).mono ?_;rintro e w1 ⟨rfl,hb1⟩)
  |(go_at_call 58;refine(Zamc N x hx oM _).mono ?_;rintro e w2 ⟨g,rfl,hg,hr,hb2⟩;have HR:Hid (w2.rowIs g 43 N (fun i=>.int .u32 (canon x))):=hr;clear hr))
 go_returns;exact⟨_,rfl,by have:=(Zhq w (.cells #[.int .i64 k,.int .i64 p] 69)).size;have:=hb1.size;omega,HR.out,bel (bel (Zhq _ _) hb1) hb2⟩
theorem Zzs{T:Nat->Prop}(a:Lay)(c:Cd)(hg:Good c)(s:Sl)(hs:IsP s.bits)(w:World)(hc:CdT T w a c)(ht:s.ty.kind=3->isPl s.ty.par c.sign.length=true):
 Calls prog 20 #[.pointer (some ⟨a.C,0,none⟩),slV s] w fun e w'=>∃g,e=.returned (.agg #[.slice (some ⟨g,0,none⟩) (Zhy c s.ty) (Zhy c s.ty),.int .i64 s.int_])/\w.heap.size<=g/\w'.rowIs g 43 (Zhy c s.ty) (fun _=>.int .u32 (canon s.bits))/\Below w.heap.size w w':=by
 have KF:∀v,Below w.heap.size w v->Calls prog 33 #[.pointer (some ⟨a.C,0,none⟩),tyV s.ty,.int .u32 s.bits] v fun e w'=>∃g,e=.returned (.slice (some ⟨g,0,none⟩) (Zhy c s.ty) (Zhy c s.ty))/\v.heap.size<=g/\w'.rowIs g 43 (Zhy c s.ty) (fun _=>.int .u32 (canon s.bits))/\Below v.heap.size v w':=fun v hv=>Zvt a c hg s.ty s.bits hs v (hc.below hv) ht;obtain⟨N,hN'⟩:∃N,Zhy c s.ty=N:=⟨_,rfl⟩
 rw[hN']at KF ⊢;obtain⟨⟨k,p⟩,kp,bt,it⟩:=s;unfold tyV at KF;unfold slV;simp only at KF ⊢;have HK:Hid (∀v,Below w.heap.size w v->Calls prog 33 #[.pointer (some ⟨a.C,0,none⟩),.agg #[.int .i64 k,.int .i64 p],.int .u32 bt] v fun e w'=>∃g,e=.returned (.slice (some ⟨g,0,none⟩) N N)/\v.heap.size<=g/\w'.rowIs g 43 N (fun _=>.int .u32 (canon bt))/\Below v.heap.size v w'):=KF;clear KF hc ht hN' hg hs;obtain⟨W1,hW1⟩:∃W1,(w.alloc (.cells #[.int .i64 k,.int .i64 p,.bool kp,.int .u32 bt,.int .i64 it] 72)).alloc (.cells #[.slice none 0 0,.int .i64 0] 78)=W1:=⟨_,rfl⟩
 have HW:Hid ((w.alloc (.cells #[.int .i64 k,.int .i64 p,.bool kp,.int .u32 bt,.int .i64 it] 72)).alloc (.cells #[.slice none 0 0,.int .i64 0] 78)=W1):=hW1;have HB0:Hid (Below w.heap.size w W1):=by rw[←hW1];exact bel (Zhq _ _) (Zhq _ _)
 have HC:Hid (∀v,Below W1.heap.size W1 v->v.cell? ⟨w.heap.size,0,none⟩=some (.int .i64 k)/\v.cell? ⟨w.heap.size,1,none⟩=some (.int .i64 p)/\v.cell? ⟨w.heap.size,3,none⟩=some (.int .u32 bt)/\v.cell? ⟨w.heap.size,4,none⟩=some (.int .i64 it)/\v.cell? ⟨w.heap.size+1,0,none⟩=some (.slice none 0 0)/\v.cell? ⟨w.heap.size+1,1,none⟩=some (.int .i64 0)/\v.frozen? ⟨w.heap.size+1,0,none⟩=false/\v.frozen? ⟨w.heap.size+1,1,none⟩=false):=by
  intro v hv;rw[←hW1]at hv;have h9:(w.alloc (.cells #[.int .i64 k,.int .i64 p,.bool kp,.int .u32 bt,.int .i64 it] 72)).heap.size=w.heap.size+1:=sM;refine⟨kc hv (kc (Zhq _ _) sG),kc hv (kc (Zhq _ _) sG),kc hv (kc (Zhq _ _) sG),kc hv (kc (Zhq _ _) sG),?_,?_,?_,?_⟩<;>rw[←h9]
  ·exact kc hv sG
  ·exact kc hv sG
  ·exact kf hv (v:=.slice none 0 0) sG sG
  ·exact kf hv (v:=.int .i64 0) sG sG
 obtain⟨x0,x1,x3,x4,z0,z1,q0,q1⟩:=HC.out W1 (bel0 _);go_enter func20,ntmps20;go_wp2;clear hW1;refine rG (fun v=>v.cell? ⟨w.heap.size,0,none⟩=some (.int .i64 k)/\v.cell? ⟨w.heap.size,1,none⟩=some (.int .i64 p)/\v.cell? ⟨w.heap.size,3,none⟩=some (.int .u32 bt)/\v.cell? ⟨w.heap.size,4,none⟩=some (.int .i64 it)) fun hHeld=>?_;refine Tf 0 1 2 3 4 6 ?_;refine tkT 7 ?_;clear hHeld;refine ry1 5 fun K hK=>?_;go_simp;(go_at_call 33;refine(HK.out _ (bel HB0.out (Zhs _))).mono ?_;rintro e w2 ⟨g,rfl,hg,hr,hb2⟩;have HR:Hid (w2.rowIs g 43 N (fun _=>.int .u32 (canon bt))):=hr;have HB2:Hid (Below W1.heap.size W1 w2):=bel (Zhs _) hb2;obtain⟨y0,y1,y3,y4,z0,z1,q0,q1⟩:=HC.out w2 HB2.out;clear hr);try(go_wp2_with fail)
 refine okK hK fun hHeld=>?_;clear hK K;refine tkT 8 ?_;clear hHeld;refine ry1 9 fun K hK=>?_;go_simp;refine okK hK fun hHeld=>?_;clear hK K;refine wpAnyH_done kR ?_ _;go_wp2;refine bodyPost_ret (by simp[results,results20,go_sem, *];try rfl) rfl ?_;have h8:W1.heap.size=w.heap.size+2:=by rw[←HW.out];simp
 have h7:w.heap.size+2<=g:=by have:=hg;simp at this;omega
 exact⟨_,rfl,oM,(HR.out.setOther sO _).setOther sO _,((bel HB0.out HB2.out).setCell sM _).setCell sM _⟩
theorem Zkb{l:List Ty}{r:Nat}(h:r<l.length):regT l (r:Int)=l[r]:=by
 unfold regT isPl;simp[h]
section
variable {T : Nat -> Prop} {E E' : Nat} {a : Lay} {c : Cd} {G P : List (List Int)} {w : World}
theorem FX.f0(h:FX T E E' a c G P w):w.cell? ⟨a.FR,0,none⟩=some (.pointer (some ⟨a.C,0,none⟩)):=h.fr.at 0 rfl
theorem FX.f1(h:FX T E E' a c G P w):w.cell? ⟨a.FR,1,none⟩=some (.slice a.sp c.slots.length a.sc):=h.fr.at 1 rfl
theorem FX.f2(h:FX T E E' a c G P w):w.cell? ⟨a.FR,2,none⟩=some (.slice (some ⟨a.NB,0,none⟩) c.regs.length c.regs.length):=h.fr.at 2 rfl
theorem FX.f3(h:FX T E E' a c G P w):w.cell? ⟨a.FR,3,none⟩=some (.slice (some ⟨a.WB,0,none⟩) c.regs.length c.regs.length):=h.fr.at 3 rfl
theorem FX.f4(h:FX T E E' a c G P w):w.cell? ⟨a.FR,4,none⟩=some (.map (some a.MB)):=h.fr.at 4 rfl
theorem FX.f5(h:FX T E E' a c G P w):w.cell? ⟨a.FR,5,none⟩=some a.gv:=h.fr.at 5 rfl
theorem FX.f6(h:FX T E E' a c G P w):w.cell? ⟨a.FR,6,none⟩=some a.pv:=h.fr.at 6 rfl
theorem FX.f7(h:FX T E E' a c G P w):w.cell? ⟨a.FR,7,none⟩=some (.slice (some ⟨a.UB,0,none⟩) c.sign.length c.sign.length):=h.fr.at 7 rfl
theorem CdT.reg{U:Nat->Prop}(h:CdT U w a c){r:Nat}(hr:r<c.regs.length):∃b o m,a.v1=.slice (some ⟨b,o,none⟩) c.regs.length m/\w.cell? ⟨b,o+r*2,none⟩=some (.int .i64 c.regs[r].kind)/\w.cell? ⟨b,o+r*2+1,none⟩=some (.int .i64 c.regs[r].par):=by
 obtain⟨q,m,hv,hh⟩:=h.regs;rcases hh with e|⟨b,o,rfl,_,_,hh⟩
 ·rw[e]at hr;exact absurd hr (Nat.not_lt_zero _)
 ·exact⟨b,o,m,hv,(hh r hr).at 0 rfl,(hh r hr).at 1 rfl⟩
theorem CdT.par{U:Nat->Prop}(h:CdT U w a c){r:Nat}(hr:r<c.sign.length):∃b o m,a.v0=.slice (some ⟨b,o,none⟩) c.sign.length m/\w.cell? ⟨b,o+r*3+1,none⟩=some (.int .i64 c.sign[r].kind)/\w.cell? ⟨b,o+r*3+2,none⟩=some (.int .i64 c.sign[r].len):=by
 obtain⟨q,m,hv,hh⟩:=h.sign;rcases hh with e|⟨b,o,rfl,_,_,hh⟩
 ·rw[e]at hr;exact absurd hr (Nat.not_lt_zero _)
 ·exact⟨b,o,m,hv,(hh r hr).at 1 rfl,(hh r hr).at 2 rfl⟩
theorem CdT.c0{U:Nat->Prop}(h:CdT U w a c):w.cell? ⟨a.C,0,none⟩=some a.v0:=h.cells.at 0 rfl
theorem CdT.c1{U:Nat->Prop}(h:CdT U w a c):w.cell? ⟨a.C,1,none⟩=some a.v1:=h.cells.at 1 rfl
end
theorem Zyp{T:Nat->Prop}{E E':Nat}{a:Lay}{c:Cd}{G P:List (List Int)}(w:World)(x:FX T E E' a c G P w)(hg:Good c)(p:Nat)(hp:p<c.sign.length):
 Calls prog 117 #[.pointer (some ⟨a.FR,0,none⟩),.int .i64 p] w fun e w'=>e=.returned (.int .i64 (Zia c p))/\w'=w:=by
 have f0:=x.f0;have c0:=x.code.c0;obtain⟨b,o,m,hv,k1,_⟩:=x.code.par hp;rw[hv]at c0;have hN:=hg.signL;have hk:Zia c (p:Int)=if c.sign[p].kind=2 then 2 else 1:=by
  unfold Zia Zkx;simp[hp]
 rw[hk];obtain⟨K,hK⟩:∃K,c.sign[p].kind=K:=⟨_,rfl⟩
 obtain⟨N,hN'⟩:∃N,c.sign.length=N:=⟨_,rfl⟩
 obtain⟨C,hC⟩:∃C,a.C=C:=⟨_,rfl⟩
 obtain⟨FR,hFR⟩:∃FR,a.FR=FR:=⟨_,rfl⟩
 rw[hK]at k1 ⊢;rw[hN']at c0 hN hp;rw[hC]at f0 c0;rw[hFR]at f0 ⊢;clear hk hK hN' hC hFR hv x hg;by_cases h2:K=2
 ·subst h2;go_enter func117,ntmps117;go_wp2;go_ret;exact⟨rfl,rfl⟩
 ·have e2:(K==2)=false:=by simpa using h2
  rw[if_neg h2];go_enter func117,ntmps117;go_wp2;go_ret;exact⟨rfl,rfl⟩
end Go.Proofs.YtbinohkcolcbfaaGreat
namespace Go.Proofs.YtbinohkcolcbfaaGreat
open Go.RowKit Go.Proofs.Tryz
set_option linter.unusedVariables false
set_option linter.unusedSimpArgs false
set_option maxRecDepth 100000
set_option maxHeartbeats 16000000
theorem FX.fresh{T:Nat->Prop}{E E':Nat}{a:Lay}{c:Cd}{G P:List (List Int)}{w:World}(x:FX T E E' a c G P w){g:Nat}(h:w.heap.size<=g):¬mutT T E E' g:=by
 intro k;have h1:=x.hE;have h2:=x.hE';rcases k with k|k
 ·have:=x.hT _ k;omega
 ·omega
theorem Zzt(U:Nat->Prop){T:Nat->Prop}{E E':Nat}{a:Lay}{c:Cd}{G P:List (List Int)}{X:Nat->Value}{M:Nat}{m:Nat->Option Value}{f:Fr}(w:World)(x:FX T E E' a c G P w)(h:FV T E E' a c w X M m f)(hg:Good c)(r:Nat)(hr:r<c.regs.length)(hU:Pt U w ((m r).getD (.slice none 0 0)) (f.vecs r))(hfr:¬U (w.heap.size+1)):
 Calls prog 75 #[.pointer (some ⟨a.FR,0,none⟩),.int .i64 r] w fun e w'=>∃v,e=.returned (.agg #[v,.int .i64 (rdP c f r).whole])/\Pt U w' v (rdP c f r).pats/\Below w.heap.size w w':=by
 have HX:Hid (FX T E E' a c G P w):=x;have f0:=x.f0;have f2:=x.f2;have f3:=x.f3;have f4:=x.f4;have c1:=x.code.c1;obtain⟨b,o,mm,hv,k0,_⟩:=x.code.reg hr;rw[hv]at c1;have hN:=hg.regsL;have hn:=h.nums.cell hr;have hw:=h.whs.cell hr;have hm:=h.map;have hp:=hU;unfold rdP;rw[Zkb hr,Int.toNat_natCast];have HP:Hid (Pt U w ((m r).getD (.slice none 0 0)) (f.vecs r)):=hp;obtain⟨q1,q2,hq⟩:=hp.len;have HQ:Hid ((m r).getD (.slice none 0 0)=.slice q1 (f.vecs r).length q2):=hq;have HLK:Hid (∀v,Below w.heap.size w v->(Instr.lookup 92 (.map (some a.MB)) (.int .i64 (r:Int)) false).run prog v=.ok (.slice q1 (f.vecs r).length q2) v):=by
  intro v hv;rw[←hq];exact(hm.below hv).look1 underlying92 (Tryz.zeroValue57 v) oM
 obtain⟨K,hK⟩:∃K,c.regs[r].kind=K:=⟨_,rfl⟩
 obtain⟨N,hN'⟩:∃N,c.regs.length=N:=⟨_,rfl⟩
 obtain⟨L,hL⟩:∃L,(f.vecs r).length=L:=⟨_,rfl⟩
 rw[hK]at k0 ⊢;rw[hN']at c1 hN f2 f3 hr;rw[hL]at HLK HQ;have HL:Hid ((f.vecs r).length=L):=hL;have HF:Hid (¬U (w.heap.size+1)):=hfr;clear hK hN' hv hg hm h x hp hq hL HX hU hfr;obtain⟨⟨C,S,FR,NB,WB,MB,UB,KK,ub,sp,sc,v0,v1,v2,v3,gv,pv⟩,ha⟩:∃a',a'=a:=⟨a,rfl⟩
 subst ha;simp only at *;obtain⟨W1,hW1⟩:∃W1,w.alloc (.cells #[.slice none 0 0,.int .i64 0] 78)=W1:=⟨_,rfl⟩
 have HW1:Hid (w.alloc (.cells #[.slice none 0 0,.int .i64 0] 78)=W1):=hW1;have hb1:Below w.heap.size w W1:=by rw[←hW1];exact Zhq _ _
 have HB1:Hid (Below w.heap.size w W1):=hb1;have g0:=kc hb1 f0;have g1:=kc hb1 c1;have g2:=kc hb1 k0;have z0:W1.cell? ⟨w.heap.size,0,none⟩=some (.slice none 0 0):=by rw[←hW1];simp[go_sem]
 have z1:W1.cell? ⟨w.heap.size,1,none⟩=some (.int .i64 0):=by rw[←hW1];simp[go_sem]
 have q0:W1.frozen? ⟨w.heap.size,0,none⟩=false:=by rw[←hW1];simp[go_sem]
 have q1':W1.frozen? ⟨w.heap.size,1,none⟩=false:=by rw[←hW1];simp[go_sem]
 by_cases h1:K=1
 ·subst h1;have g3:=kc hb1 f2;have g4:=kc hb1 hn;have hs1:W1.heap.size=w.heap.size+1:=by rw[←hW1];simp
  obtain⟨W2,hW2⟩:∃W2,W1.alloc (.cells #[.int .u32 (f.nums r)] 43)=W2:=⟨_,rfl⟩
  have HW2:Hid (W1.alloc (.cells #[.int .u32 (f.nums r)] 43)=W2):=hW2;have hb2:Below W1.heap.size W1 W2:=by rw[←hW2];exact Zhq _ _
  have y0:=kc hb2 z0;have y1:=kc hb2 z1;have p0:=kf hb2 z0 q0;have p1:=kf hb2 z1 q1';have HR2:Hid (W2.rowIs (w.heap.size+1) 43 1 (fun _=>.int .u32 (f.nums r))):=by
   rw[←hW2,←hs1];exact World.rowIs_alloc W1 #[.int .u32 (f.nums r)] 43 (fun _=>.int .u32 (f.nums r)) (fun i hi=>by have h0:i=0:=(by simpa using hi);subst h0;rfl)
  have HB2:Hid (Below w.heap.size w W2):=bel hb1 hb2;have HS1:Hid (W1.heap.size=w.heap.size+1):=hs1;clear f0 f2 f3 f4 c1 k0 hn hw hb1 hb2 hs1;go_enter func75,ntmps75;go_wp2;refine bodyPost_ret Zgp rfl ?_;rw[HS1.out];exact⟨_,rfl,Pt.of_row ((HR2.out.setOther sM _).setOther sM _) HF.out rfl (fun j hj=>by have h0:j=0:=oM;subst h0;rfl) 1,(HB2.out.setCell sM _).setCell sM _⟩
 ·have e1:(K==1)=false:=by simpa using h1
  rw[if_neg h1];by_cases h2:K=2
  ·subst h2;have g3:=kc hb1 f3;have g4:=kc hb1 hw;clear f0 f2 f3 f4 c1 k0 hn hw hb1;go_enter func75,ntmps75;go_wp2;refine bodyPost_ret Zgp rfl ?_;exact⟨_,rfl,Pt.nil _ _ _ _,(HB1.out.setCell sM _).setCell sM _⟩
  ·have e2:(K==2)=false:=by simpa using h2
   rw[if_neg h2];have g3:=kc hb1 f4;have g4:=HLK.out _ hb1;clear f0 f2 f3 f4 c1 k0 hn hw hb1;go_enter func75,ntmps75;go_wp2;refine bodyPost_ret Zgp rfl ?_;have HB2:=(HB1.out.setCell (p:=⟨w.heap.size,0,none⟩) sM (.slice q1 L q2)).setCell (p:=⟨w.heap.size,1,none⟩) sM (.int .i64 0);exact⟨_,rfl,by have:=HP.out.below HB2;rw[HQ.out]at this;exact this,HB2⟩
theorem Zaju{T:Nat->Prop}{E E':Nat}{a:Lay}{c:Cd}{G P:List (List Int)}{X:Nat->Value}{M:Nat}{m:Nat->Option Value}{f:Fr}(w:World)(x:FX T E E' a c G P w)(h:FV T E E' a c w X M m f)(hg:Good c)(r:Nat)(hr:r<c.regs.length):
 Calls prog 75 #[.pointer (some ⟨a.FR,0,none⟩),.int .i64 r] w fun e w'=>∃v,e=.returned (.agg #[v,.int .i64 (rdP c f r).whole])/\Pt (mutT T E E') w' v (rdP c f r).pats/\Below w.heap.size w w':=
 Zzt (mutT T E E') w x h hg r hr (h.vecs r hr) (x.fresh oM)
def midT(T:Nat->Prop)(A B:Nat):Nat->Prop:=fun b=>T b\/(A<=b/\b<B)
theorem Zara{T:Nat->Prop}{E E':Nat}{a:Lay}{c:Cd}{G P:List (List Int)}{X:Nat->Value}{M:Nat}{m:Nat->Option Value}{f:Fr}(w0 w:World)(x:FX T E E' a c G P w0)(h:FV T E E' a c w0 X M m f)(hg:Good c)(hb:Below w0.heap.size w0 w)(r:Nat)(hr:r<c.regs.length):
 Calls prog 75 #[.pointer (some ⟨a.FR,0,none⟩),.int .i64 r] w fun e w'=>∃v,e=.returned (.agg #[v,.int .i64 (rdP c f r).whole])/\Pt (midT (mutT T E E') w0.heap.size w.heap.size) w' v (rdP c f r).pats/\Below w.heap.size w w':=
 Zzt (midT (mutT T E E') w0.heap.size w.heap.size) w (x.below hb) (h.below hb) hg r hr
  (((h.vecs r hr).mono (U:=midT (mutT T E E') w0.heap.size w.heap.size) fun b hb2 e=>e.elim id fun k=>by omega).below hb)
  (fun e=>e.elim ((x.below hb).fresh oM) fun k=>by omega)
theorem Zaod(a b:Int)(ha:0<=a/\a<=2147483647)(hb:0<=b/\b<=2147483647)(w:World):Calls prog 116 #[.int .i64 a,.int .i64 b] w fun e w'=>e=.returned (.int .i64 (if b=0 then 0 else a/b))/\w'=w:=by
 by_cases h:b=0
 ·subst h;go_enter func116,ntmps116;go_wp2;go_ret;exact⟨rfl,rfl⟩
 ·have h2:(b==0)=false:=by simpa using h
  rw[if_neg h];have hq:a.tdiv b=a/b:=Int.tdiv_eq_ediv_of_nonneg ha.1;have hr:0<=a/b:=Int.ediv_nonneg ha.1 hb.1;have hr2:a/b<=a:=Int.ediv_le_self _ ha.1;have hw:IntKind.i64.wrap (a.tdiv b)=a/b:=by rw[hq,IntKind.wrap_i64];omega
  go_enter func116,ntmps116;go_wp2;go_ret;exact⟨by first|rfl|(rw[hw])|(simp only[hw])|(simp[hw]),rfl⟩
end Go.Proofs.YtbinohkcolcbfaaGreat
