import Derived.Test.YtbinohkcolcbfaaGreatPart1
import Derived.Test.YtbinohkcolcbfaaGreatPart14
import Derived.Test.YtbinohkcolcbfaaGreatPart2
import Derived.Maps.OwnSet
import Derived.Maps.OwnOps
import Derived.Maps.Ext
import Derived.Test.YtbinohkcolcbfaaGreatPart11
namespace Go.Proofs.YtbinohkcolcbfaaGreat
open Go.RowKit Go.Proofs.Tryz
set_option linter.unusedVariables false
set_option linter.unusedSimpArgs false
set_option maxRecDepth 100000
set_option maxHeartbeats 16000000
theorem und_O:prog.underlying 110=some (.slice (prog.elem 110)):=kR
theorem elem_O:prog.elem 110=114:=kR
theorem size_O(w:World):(sizeOf (prog.elem 110)).run prog w=.ok 3 w:=by rw[elem_O];exact Tryz.sizeOf114 w
theorem Zsy{a b x y:Int}(h:(a,b)=(x,y)):(Ending.returned (.tuple #[.int .i64 a,.int .i64 b]))=.returned (.tuple #[.int .i64 x,.int .i64 y]):=by cases h;rfl
theorem Zady(v0 v1 v2 v3:Value)(c:Cd)(hk:CdOk c)(w:World)(hv:CdV w v0 v1 v2 v3 c)(hS:Ziz c.sign=0)(h1:c.regs.length<=16384)(h3:c.list.length<=32768)(h2:c.slots.length<=4096)(RA RB:Int)(hRES:(if(Zif c&&Zkc c)=true then goP c ⟨[],[]⟩ 0 c.list else(160,-1))=(RA,RB)):
 Calls prog 21 #[.agg #[v0,v1,v2,v3]] w fun e w'=>e=.returned (.tuple #[.int .i64 RA,.int .i64 RB])/\Below w.heap.size w w':=by
 have hSG:∀v,Below w.heap.size w v->Calls prog 34 #[v0] v fun e w'=>e=.returned (.int .i64 0)/\Below v.heap.size v w':=fun v hb=>by rw[←hS];exact Zwd v0 c.sign hk.signL hk.names v (hv.below hb).sign.rd
 have l0:=hk.signL;obtain⟨p0,q0,rfl,-⟩:=id hv.sign;obtain⟨p1,q1,rfl,-⟩:=id hv.regs;obtain⟨p2,q2,rfl,-⟩:=id hv.slots;obtain⟨p3,q3,rfl,-⟩:=id hv.list;have HREGS:Hid (RowG 2 tyC w (.slice p1 c.regs.length q1) c.regs):=hv.regs;have HSLOTS:Hid (RowG 5 slC w (.slice p2 c.slots.length q2) c.slots):=hv.slots;have HLIST:Hid (RowG 7 inC w (.slice p3 c.list.length q3) c.list):=hv.list;have HMT:Hid (∀ (t:Ty) v,Calls prog 35 #[.agg #[.int .i64 t.kind,.int .i64 t.par],.slice p0 c.sign.length q0] v fun e w'=>e=.returned (.bool (Zil t c.sign.length))/\Below v.heap.size v w'):=fun t v=>Ztq t p0 _ q0 hk.signL v;have HMS:Hid (∀ (s:Sl),s∈c.slots->∀v,Calls prog 36 #[.agg #[.int .i64 s.ty.kind,.int .i64 s.ty.par,.bool s.keep,.int .u32 s.bits,.int .i64 s.int_],.slice p0 c.sign.length q0] v fun e w'=>e=.returned (.bool (Zjh s c.sign.length))/\Below v.heap.size v w'):=fun s hs v=>Zacr s (hk.sbits s hs).1 (hk.sbits s hs).2 p0 _ q0 hk.signL v;have HCV:Hid (CdV w (.slice p0 c.sign.length q0) (.slice p1 c.regs.length q1) (.slice p2 c.slots.length q2) (.slice p3 c.list.length q3) c):=hv;have HCO:Hid (CdOk c):=hk;have HRES:Hid ((if(Zif c&&Zkc c)=true then goP c ⟨[],[]⟩ 0 c.list else(160,-1))=(RA,RB)):=hRES;obtain⟨n0,hn0⟩:∃n,c.sign.length=n:=⟨_,rfl⟩
 obtain⟨n1,hn1⟩:∃n,c.regs.length=n:=⟨_,rfl⟩
 obtain⟨n2,hn2⟩:∃n,c.slots.length=n:=⟨_,rfl⟩
 obtain⟨n3,hn3⟩:∃n,c.list.length=n:=⟨_,rfl⟩
 have HN0:Hid (c.sign.length=n0):=hn0;have HN1:Hid (c.regs.length=n1):=hn1;have HN2:Hid (c.slots.length=n2):=hn2;have HN3:Hid (c.list.length=n3):=hn3;rw[hn0]at hSG l0 HMT HMS;rw[hn1]at h1 HREGS;rw[hn2]at h2 HSLOTS;rw[hn3]at h3 HLIST;rw[hn0,hn1,hn2,hn3]at HCV ⊢;have HSG:Hid _:=hSG;have g1:(n1:Int)<=16384:=oM;have g2:(n2:Int)<=4096:=oM;have g3:(n3:Int)<=32768:=oM;clear hSG hn0 hn1 hn2 hn3 hv hk hS hRES;go_enter func21,ntmps21;go_wp2_with(go_at_call 34;(with_reducible refine(HSG.out _ (Zhq _ _)).mono ?_);rintro e w1 ⟨rfl,hb1⟩;have HX1:Hid (CX w (.slice p0 n0 q0) (.slice p1 n1 q1) (.slice p2 n2 q2) (.slice p3 n3 q3) w1):=(CX.start w _ _ _ _).next hb1;obtain⟨b1,b2,c0,c1,c2,c3⟩:=HX1.out;clear hb1);clear c0 c1 c2 c3 b1 b2
 go_loopw [5] (fun iv wr=>CX w (.slice p0 n0 q0) (.slice p1 n1 q1) (.slice p2 n2 q2) (.slice p3 n3 q3) wr/\∃j:Nat,j<=n1/\iv=.int .i64 (j:Int)/\Hid ((c.regs.take j).all (fun t=>Zil t n0)=true)) (fun iv _=>n1-(intOf iv).toNat)
 case atStart=>exact⟨HX1.out,0,Nat.zero_le _,rfl,by show _=_;simp⟩
 case round=>
  obtain⟨hcx,j,hj,rfl,hall⟩:=hrel;have HCX:Hid (CX w (.slice p0 n0 q0) (.slice p1 n1 q1) (.slice p2 n2 q2) (.slice p3 n3 q3) wr):=hcx;obtain⟨b1,b2,c0,c1,c2,c3⟩:=hcx;clear HX1;by_cases hlt:j<n1
  ·have hll:j<c.regs.length:=by rw[HN1.out];exact hlt
   obtain⟨b,o,rfl,hx⟩:=HREGS.out.at hll;have KN:=HMT.out c.regs[j];have NX:Hid (Zil c.regs[j] n0=true->(c.regs.take (j+1)).all (fun t=>Zil t n0)=true):=fun h=>Zabs _ hll hall.out h;have NB:Hid (Zil c.regs[j] n0=false->(160,-1)=(RA,RB)):=fun h=>by
    have h5:Zif c=false:=by unfold Zif;rw[HN0.out];exact Zaec _ hll h
    have h6:=HRES.out;rw[h5,Bool.false_and,if_neg dE]at h6;exact h6
   obtain⟨⟨K,P⟩,hT⟩:∃T:Ty,c.regs[j]=T:=⟨_,rfl⟩
   rw[hT]at hx KN NX NB;have y0:wr.cell? ⟨b,o+j*2,none⟩=some (.int .i64 K):=kc b1 (hx.at 0 rfl);have y1:wr.cell? ⟨b,o+j*2+1,none⟩=some (.int .i64 P):=kc b1 (hx.at 1 rfl);obtain⟨X,hX⟩:∃X,Zil ⟨K,P⟩ n0=X:=⟨_,rfl⟩
   rw[hX]at NX NB;simp only[hX]at KN;have HK:Hid (∀v,Calls prog 35 #[.agg #[.int .i64 K,.int .i64 P],.slice p0 n0 q0] v fun e w'=>e=.returned (.bool X)/\Below v.heap.size v w'):=KN;have i1:(0:Int)<=(j:Int):=oM;have i2:(j:Int)<(n1:Int):=oM;clear KN hT hX hx hall;cases X
   ·go_wp2;refine rG (fun v=>v.cell? ⟨w.heap.size,1,none⟩=some (.slice (some ⟨b,o,none⟩) n1 q1)/\v.cell? ⟨w.heap.size,0,none⟩=some (.slice p0 n0 q0)/\v.cell? ⟨b,o+j*2,none⟩=some (.int .i64 K)/\v.cell? ⟨b,o+j*2+1,none⟩=some (.int .i64 P)) fun hHeld=>?_;refine Tf 0 1 2 3 4 5 ?_;refine tkT 6 ?_;clear hHeld;refine ry1 7 fun K hK=>?_;go_simp;(go_at_call 35;(with_reducible refine(HK.out _).mono ?_);rintro e w2 ⟨rfl,hb2⟩;have HB2:Hid (Below wr.heap.size wr w2):=bel (Zhs _) hb2;clear hb2;obtain⟨-,-,c0,c1,c2,c3⟩:=HCX.out.next HB2.out;have x0:=kc HB2.out y0;have x1:=kc HB2.out y1);exact Zec
   ·go_wp2;refine rG (fun v=>v.cell? ⟨w.heap.size,1,none⟩=some (.slice (some ⟨b,o,none⟩) n1 q1)/\v.cell? ⟨w.heap.size,0,none⟩=some (.slice p0 n0 q0)/\v.cell? ⟨b,o+j*2,none⟩=some (.int .i64 K)/\v.cell? ⟨b,o+j*2+1,none⟩=some (.int .i64 P)) fun hHeld=>?_;refine Tf 0 1 2 3 4 5 ?_;refine tkT 6 ?_;clear hHeld;refine ry1 7 fun K hK=>?_;go_simp;(go_at_call 35;(with_reducible refine(HK.out _).mono ?_);rintro e w2 ⟨rfl,hb2⟩;have HB2:Hid (Below wr.heap.size wr w2):=bel (Zhs _) hb2;clear hb2;obtain⟨-,-,c0,c1,c2,c3⟩:=HCX.out.next HB2.out;have x0:=kc HB2.out y0;have x1:=kc HB2.out y1);exact Zdt
  have hjn:j=n1:=oM;have HT:Hid (Zif c=true):=by
   show _=_;have h5:=hall.out;rw[hjn,←HN1.out,List.take_length]at h5;unfold Zif;rw[HN0.out];exact h5
  have e1:¬ (j:Int)<(n1:Int):=oM;clear hall hlt;go_wp2;clear e1 c0 c1 c2 c3 b1 b2
  go_loopw [6] (fun iv wr=>CX w (.slice p0 n0 q0) (.slice p1 n1 q1) (.slice p2 n2 q2) (.slice p3 n3 q3) wr/\∃j:Nat,j<=n2/\iv=.int .i64 (j:Int)/\Hid ((c.slots.take j).all (fun s=>Zjh s n0)=true)) (fun iv _=>n2-(intOf iv).toNat)
  case atStart=>exact⟨HCX.out,0,Nat.zero_le _,rfl,by show _=_;simp⟩
  case round=>
   obtain⟨hcx,j,hj,rfl,hall⟩:=hrel;have HCX:Hid (CX w (.slice p0 n0 q0) (.slice p1 n1 q1) (.slice p2 n2 q2) (.slice p3 n3 q3) wr):=hcx;obtain⟨b1,b2,c0,c1,c2,c3⟩:=hcx;by_cases hlt:j<n2
   ·have hll:j<c.slots.length:=by rw[HN2.out];exact hlt
    obtain⟨b,o,rfl,hx⟩:=HSLOTS.out.at hll;have KN:=HMS.out c.slots[j] (List.getElem_mem hll);have NX:Hid (Zjh c.slots[j] n0=true->(c.slots.take (j+1)).all (fun s=>Zjh s n0)=true):=fun h=>Zabs _ hll hall.out h;have NB:Hid (Zjh c.slots[j] n0=false->(160,-1)=(RA,RB)):=fun h=>by
     have h5:Zkc c=false:=by unfold Zkc;rw[HN0.out];exact Zaec _ hll h
     have h6:=HRES.out;rw[h5,Bool.and_false,if_neg dE]at h6;exact h6
    obtain⟨⟨⟨K,P⟩,kp,sb,si⟩,hT⟩:∃T:Sl,c.slots[j]=T:=⟨_,rfl⟩
    rw[hT]at hx KN NX NB;have y0:wr.cell? ⟨b,o+j*5,none⟩=some (.int .i64 K):=kc b1 (hx.at 0 rfl);have y1:wr.cell? ⟨b,o+j*5+1,none⟩=some (.int .i64 P):=kc b1 (hx.at 1 rfl);have y2:wr.cell? ⟨b,o+j*5+2,none⟩=some (.bool kp):=kc b1 (hx.at 2 rfl);have y3:wr.cell? ⟨b,o+j*5+3,none⟩=some (.int .u32 sb):=kc b1 (hx.at 3 rfl);have y4:wr.cell? ⟨b,o+j*5+4,none⟩=some (.int .i64 si):=kc b1 (hx.at 4 rfl);obtain⟨X,hX⟩:∃X,Zjh ⟨⟨K,P⟩,kp,sb,si⟩ n0=X:=⟨_,rfl⟩
    rw[hX]at NX NB;simp only[hX]at KN;have HK:Hid (∀v,Calls prog 36 #[.agg #[.int .i64 K,.int .i64 P,.bool kp,.int .u32 sb,.int .i64 si],.slice p0 n0 q0] v fun e w'=>e=.returned (.bool X)/\Below v.heap.size v w'):=KN;have i1:(0:Int)<=(j:Int):=oM;have i2:(j:Int)<(n2:Int):=oM;clear KN hT hX hx hall;cases X
    ·go_wp2;refine rG (fun v=>v.cell? ⟨w.heap.size,2,none⟩=some (.slice (some ⟨b,o,none⟩) n2 q2)/\v.cell? ⟨w.heap.size,0,none⟩=some (.slice p0 n0 q0)/\v.cell? ⟨b,o+j*5,none⟩=some (.int .i64 K)/\v.cell? ⟨b,o+j*5+1,none⟩=some (.int .i64 P)/\v.cell? ⟨b,o+j*5+2,none⟩=some (.bool kp)/\v.cell? ⟨b,o+j*5+3,none⟩=some (.int .u32 sb)/\v.cell? ⟨b,o+j*5+4,none⟩=some (.int .i64 si)) fun hHeld=>?_;refine Tf 0 1 2 3 4 5 ?_;refine tkT 6 ?_;clear hHeld;refine ry1 7 fun K hK=>?_;go_simp;(go_at_call 36;(with_reducible refine(HK.out _).mono ?_);rintro e w2 ⟨rfl,hb2⟩;have HB2:Hid (Below wr.heap.size wr w2):=bel (Zhs _) hb2;clear hb2;obtain⟨-,-,c0,c1,c2,c3⟩:=HCX.out.next HB2.out;have x0:=kc HB2.out y0;have x1:=kc HB2.out y1;have x2:=kc HB2.out y2;have x3:=kc HB2.out y3;have x4:=kc HB2.out y4);exact Zec
    ·go_wp2;refine rG (fun v=>v.cell? ⟨w.heap.size,2,none⟩=some (.slice (some ⟨b,o,none⟩) n2 q2)/\v.cell? ⟨w.heap.size,0,none⟩=some (.slice p0 n0 q0)/\v.cell? ⟨b,o+j*5,none⟩=some (.int .i64 K)/\v.cell? ⟨b,o+j*5+1,none⟩=some (.int .i64 P)/\v.cell? ⟨b,o+j*5+2,none⟩=some (.bool kp)/\v.cell? ⟨b,o+j*5+3,none⟩=some (.int .u32 sb)/\v.cell? ⟨b,o+j*5+4,none⟩=some (.int .i64 si)) fun hHeld=>?_;refine Tf 0 1 2 3 4 5 ?_;refine tkT 6 ?_;clear hHeld;refine ry1 7 fun K hK=>?_;go_simp;(go_at_call 36;(with_reducible refine(HK.out _).mono ?_);rintro e w2 ⟨rfl,hb2⟩;have HB2:Hid (Below wr.heap.size wr w2):=bel (Zhs _) hb2;clear hb2;obtain⟨-,-,c0,c1,c2,c3⟩:=HCX.out.next HB2.out;have x0:=kc HB2.out y0;have x1:=kc HB2.out y1;have x2:=kc HB2.out y2;have x3:=kc HB2.out y3;have x4:=kc HB2.out y4);exact Zdt
   have hjn2:j=n2:=oM;have HGO0:Hid (goP c ⟨[],[]⟩ 0 c.list=(RA,RB)):=by
    show _=_;have h5:=hall.out;rw[hjn2,←HN2.out,List.take_length]at h5;have h6:Zkc c=true:=by unfold Zkc;rw[HN0.out];exact h5
    have h7:=HRES.out;rw[HT.out,h6,if_pos rF]at h7;exact h7
   have e1:¬ (j:Int)<(n2:Int):=oM;clear hall hlt;go_wp2;clear e1 c0 c1 c2 c3 b1 b2
   go_loopw [7,8] (fun sv iv wr=>CX w (.slice p0 n0 q0) (.slice p1 n1 q1) (.slice p2 n2 q2) (.slice p3 n3 q3) wr/\∃ (k:Nat) (p:Option Addr) (q:Nat),k<=n1/\iv=.int .i64 (k:Int)/\sv=.slice p k q/\wr.ownsRow (w.heap.size+1) 4 1 (.slice p k q) k (setB k [])) (fun _ iv _=>n1-(intOf iv).toNat)
   case atStart=>exact⟨HCX.out,0,none,0,Nat.zero_le _,rfl,rfl,by rw[show setB 0 []=[] from rfl];exact World.ownsRow_nil _ _ _ 1⟩
   case round=>
    obtain⟨hcx,k,p,q,hkn,rfl,rfl,how⟩:=hrel;have HCX:Hid (CX w (.slice p0 n0 q0) (.slice p1 n1 q1) (.slice p2 n2 q2) (.slice p3 n3 q3) wr):=hcx;obtain⟨b1,b2,c0,c1,c2,c3⟩:=hcx;by_cases hkl:k<n1
    ·obtain⟨g,c',w8,hap,hb8,ho8⟩:=Zapg how oM oM;have HAP:Hid ((Builtin.append_ #[100,100] 100 #[.slice p k q,.slice (some ⟨wr.heap.size,0,none⟩) 1 1]).run prog (wr.alloc (.cells #[.bool false] 4))=.ok (.slice (some ⟨g,0,none⟩) (k+1) c') w8):=hap;have HY8:Hid (CX w (.slice p0 n0 q0) (.slice p1 n1 q1) (.slice p2 n2 q2) (.slice p3 n3 q3) w8/\w8.ownsRow (w.heap.size+1) 4 1 (.slice (some ⟨g,0,none⟩) (k+1) c') (k+1) (setB (k+1) [])):=by
      refine⟨HCX.out.on hb8,?_⟩;rw[Zaax,List.replicate_succ',←Zaax];exact ho8
     have i2:(k:Int)<(n1:Int):=oM;have wi:IntKind.i64.wrap ((k:Int)+1)=((k+1:Nat):Int):=by rw[IntKind.wrap_i64];omega
     clear hap hb8 ho8 how;go_wp2_with(at_builtin;refine Zit rF _ _ _ rF _ _ _ rF rF HAP.out ?_);go_roundw
     case rel=>exact⟨HY8.out.1,k+1,_,_,oM,gN,rfl,HY8.out.2⟩
     case measure=>simp[intOf];omega
    have hkn1:k=n1:=oM;subst hkn1;have HSK0:Hid (SK (w.heap.size+1) k wr (.slice p k q) (.slice none 0 0) ⟨[],[]⟩ []):=SK.start wr _ b2 how;have e1:¬ (k:Int)<(k:Int):=oM;clear how hkl;go_wp2;clear e1 c0 c1 c2 c3 b1 b2
    go_loopw [7,9,10] (fun sv ov iv wr=>CX w (.slice p0 n0 q0) (.slice p1 k q1) (.slice p2 n2 q2) (.slice p3 n3 q3) wr/\∃ (j:Nat) (s:Wk) (us:List Value),j<=n3/\iv=.int .i64 (j:Int)/\Hid (SK (w.heap.size+1) k wr sv ov s us)/\Hid (OkS k s)/\Hid (Zmf s)/\Hid (goP c s j (c.list.drop j)=(RA,RB))) (fun _ _ iv _=>n3-(intOf iv).toNat)
    case atStart=>exact⟨HCX.out,0,⟨[],[]⟩,[],Nat.zero_le _,rfl,HSK0.out,OkS.start k,Zmf.start,by show _=_;rw[List.drop_zero];exact HGO0.out⟩
    case round=>
     obtain⟨hcx,j,s,us,hj,rfl,hsk,hok,hpo,hgo⟩:=hrel;obtain⟨po,qo,rfl⟩:=Zjl hsk.out.opn;obtain⟨ps,qs,rfl⟩:=Zjl hsk.out.set;have HCX:Hid (CX w (.slice p0 n0 q0) (.slice p1 k q1) (.slice p2 n2 q2) (.slice p3 n3 q3) wr):=hcx;obtain⟨b1,b2,f0,f1,f2,f3⟩:=hcx;have hnest:=hok.out.nest;clear HSK0;by_cases hlt:j<n3
     ·have hll:j<c.list.length:=by rw[HN3.out];exact hlt
      obtain⟨b,o,rfl,hx⟩:=HLIST.out.at hll;have hgo':=hgo.out;rw[List.drop_eq_getElem_cons hll]at hgo';have hgi:goP c s j (c.list[j]::c.list.drop (j+1))=if Zjb c s c.list[j]then goP c (Zib s c.list[j]) (j+1) (c.list.drop (j+1))else(160,(j:Int)):=rfl;rw[hgi]at hgo';have hib:=HCO.out.ibits c.list[j] (List.getElem_mem hll);have hos:Zjb c s c.list[j]=true->OkS k (Zib s c.list[j])/\Zmf (Zib s c.list[j]):=fun ht=>by
       have hq:OkS c.regs.length s:=by rw[HN1.out];exact hok.out
       have h5:=OkS.step hq ht;rw[HN1.out]at h5;exact⟨h5,hpo.out.step ht⟩
      have htk:Zjb c s c.list[j]=true->Zjp c c.list[j] (rowP c.list[j].op)=true/\Ziw c s c.list[j] (rowP c.list[j].op)=true:=fun ht=>by
       obtain⟨-,h5,h6,-⟩:=Zjw ht;exact⟨h5,h6⟩
      obtain⟨⟨op,D,A,Q,E,nn,bt⟩,hxx⟩:∃x:Ins,c.list[j]=x:=⟨_,rfl⟩
      rw[hxx]at hx hgo' hos htk hib;have KS:=Zadj _ _ _ _ c HCO.out HT.out (⟨op,D,A,Q,E,nn,bt⟩:Ins) hib.1 hib.2 (w.heap.size+1) s (.slice ps k qs) (.slice po s.opens.length qo) us (by rw[HN1.out];exact h1) (by rw[HN1.out];exact hok.out) hpo.out (wr.alloc (.cells #[.int .i64 op,.int .i64 D,.int .i64 A,.int .i64 Q,.int .i64 E,.int .i64 nn,.int .u32 bt] 45)) ((HCV.out.below b1).below (Zhq _ _)) (by rw[HN1.out];exact hsk.out.below (Zhq _ _));have x0:=kc b1 (hx.at 0 rfl);have x1:=kc b1 (hx.at 1 rfl);have x2:=kc b1 (hx.at 2 rfl);have x3:=kc b1 (hx.at 3 rfl);have x4:=kc b1 (hx.at 4 rfl);have x5:=kc b1 (hx.at 5 rfl);have x6:=kc b1 (hx.at 6 rfl);rw[Nat.add_zero]at x0;obtain⟨-,-,f0',f1',f2',f3'⟩:=HCX.out.next (Zhq wr (.cells #[.int .i64 op,.int .i64 D,.int .i64 A,.int .i64 Q,.int .i64 E,.int .i64 nn,.int .u32 bt] 45));have HIX:Hid (∀v,Below (wr.alloc (.cells #[.int .i64 op,.int .i64 D,.int .i64 A,.int .i64 Q,.int .i64 E,.int .i64 nn,.int .u32 bt] 45)).heap.size (wr.alloc (.cells #[.int .i64 op,.int .i64 D,.int .i64 A,.int .i64 Q,.int .i64 E,.int .i64 nn,.int .u32 bt] 45)) v->v.cell? ⟨wr.heap.size,0,none⟩=some (.int .i64 op)/\v.cell? ⟨wr.heap.size,1,none⟩=some (.int .i64 D)/\v.cell? ⟨wr.heap.size,2,none⟩=some (.int .i64 A)/\v.cell? ⟨wr.heap.size,3,none⟩=some (.int .i64 Q)/\v.cell? ⟨wr.heap.size,4,none⟩=some (.int .i64 E)/\v.cell? ⟨wr.heap.size,5,none⟩=some (.int .i64 nn)/\v.cell? ⟨wr.heap.size,6,none⟩=some (.int .u32 bt)):=fun v hb=>⟨kc hb sG,kc hb sG,kc hb sG,kc hb sG,kc hb sG,kc hb sG,kc hb sG⟩
      obtain⟨T,hT⟩:∃T,Zjb c s (⟨op,D,A,Q,E,nn,bt⟩:Ins)=T:=⟨_,rfl⟩
      rw[hT]at hgo' hos htk KS;have HST:Hid (Calls prog 37 #[.agg #[.slice p0 n0 q0,.slice p1 k q1,.slice p2 n2 q2,.slice (some ⟨b,o,none⟩) n3 q3],.agg #[.int .i64 op,.int .i64 D,.int .i64 A,.int .i64 Q,.int .i64 E,.int .i64 nn,.int .u32 bt],.slice ps k qs,.slice po s.opens.length qo] (wr.alloc (.cells #[.int .i64 op,.int .i64 D,.int .i64 A,.int .i64 Q,.int .i64 E,.int .i64 nn,.int .u32 bt] 45)) fun e w'=>e=.returned (.bool T)/\Below (wr.alloc (.cells #[.int .i64 op,.int .i64 D,.int .i64 A,.int .i64 Q,.int .i64 E,.int .i64 nn,.int .u32 bt] 45)).heap.size (wr.alloc (.cells #[.int .i64 op,.int .i64 D,.int .i64 A,.int .i64 Q,.int .i64 E,.int .i64 nn,.int .u32 bt] 45)) w'):=KS;have HGO:Hid ((if T=true then goP c (Zib s (⟨op,D,A,Q,E,nn,bt⟩:Ins)) (j+1) (c.list.drop (j+1))else(160,(j:Int)))=(RA,RB)):=hgo';have HOS:Hid (T=true->OkS k (Zib s (⟨op,D,A,Q,E,nn,bt⟩:Ins))/\Zmf (Zib s (⟨op,D,A,Q,E,nn,bt⟩:Ins))):=hos;have HTK:Hid (T=true->Zjp c (⟨op,D,A,Q,E,nn,bt⟩:Ins) (rowP op)=true/\Ziw c s (⟨op,D,A,Q,E,nn,bt⟩:Ins) (rowP op)=true):=htk;have k1:(0:Int)<=(j:Int):=oM;have k2:(j:Int)<(n3:Int):=oM;have wj:IntKind.i64.wrap ((j:Int)+1)=((j+1:Nat):Int):=by rw[IntKind.wrap_i64];omega
      clear KS hgo hgo' hgi hos htk hT hx hxx hib hll;cases T
      ·have HQ:Hid ((160,(j:Int))=(RA,RB)):=by show _=_;have:=HGO.out;rw[if_neg dE]at this;exact this
       go_wp2_with(go_at_call 37;(with_reducible refine HST.out.mono ?_);rintro e w5 ⟨rfl,hb5⟩;have HB5:Hid (Below (wr.alloc (.cells #[.int .i64 op,.int .i64 D,.int .i64 A,.int .i64 Q,.int .i64 E,.int .i64 nn,.int .u32 bt] 45)).heap.size (wr.alloc (.cells #[.int .i64 op,.int .i64 D,.int .i64 A,.int .i64 Q,.int .i64 E,.int .i64 nn,.int .u32 bt] 45)) w5):=hb5;clear hb5 f0 f1 f2 f3;obtain⟨-,-,f0,f1,f2,f3⟩:=(HCX.out.next (Zhq _ _)).next HB5.out;obtain⟨i0,i1,i2,i3,i4,i5,i6⟩:=HIX.out w5 HB5.out)
       go_ret2
       exact⟨Zsy HQ.out,bel (bel HCX.out.bel (Zhq _ _)) HB5.out⟩
      ·have HO1:Hid (OkS k (Zib s (⟨op,D,A,Q,E,nn,bt⟩:Ins))/\Zmf (Zib s (⟨op,D,A,Q,E,nn,bt⟩:Ins))):=HOS.out rfl;have HG1:Hid (goP c (Zib s (⟨op,D,A,Q,E,nn,bt⟩:Ins)) (j+1) (c.list.drop (j+1))=(RA,RB)):=by show _=_;have:=HGO.out;rw[if_pos rfl]at this;exact this
       have HTK1:Hid (Zjp c (⟨op,D,A,Q,E,nn,bt⟩:Ins) (rowP op)=true/\Ziw c s (⟨op,D,A,Q,E,nn,bt⟩:Ins) (rowP op)=true):=HTK.out rfl;have HOB:Hid (∀g,(Value.slice po s.opens.length qo).ownBlock=some g->g<wr.heap.size):=fun g e=>(hsk.out.opn.lt g e).2;clear HGO HOS HTK;by_cases hop:op=34\/op=36
       ·have hn64:s.opens.length<64:=Zss (i:=(⟨op,D,A,Q,E,nn,bt⟩:Ins)) HTK1.out.2 hop;have HOP:Hid (op=34\/op=36):=hop;have HCP:Hid (∀v,Below wr.heap.size wr v->Calls prog 38 #[.slice ps k qs] v fun e w'=>∃u,e=.returned u/\w'.ownsRow v.heap.size 4 1 u k (setB k s.set)/\Below v.heap.size v w'):=fun v hb=>Zun _ h1 v (Ziu hsk.out.set hb);have hq:((op==34)=true)\/((op==34)=false/\(op==36)=true):=by
         rcases hop with e|e
         ·exact .inl (by simpa using e)
         ·exact .inr ⟨by rw[e];decide,by simpa using e⟩
        clear hop;rcases hq with r1|⟨r1,r2⟩
        all_goals
         go_wp2_with(go_at_call 37;(with_reducible refine HST.out.mono ?_);rintro e w5 ⟨rfl,hb5⟩;have HB5:Hid (Below (wr.alloc (.cells #[.int .i64 op,.int .i64 D,.int .i64 A,.int .i64 Q,.int .i64 E,.int .i64 nn,.int .u32 bt] 45)).heap.size (wr.alloc (.cells #[.int .i64 op,.int .i64 D,.int .i64 A,.int .i64 Q,.int .i64 E,.int .i64 nn,.int .u32 bt] 45)) w5):=hb5;have HBR:Hid (Below wr.heap.size wr w5):=bel (Zhq _ _) hb5;clear hb5 f0 f1 f2 f3;obtain⟨-,-,f0,f1,f2,f3⟩:=(HCX.out.next (Zhq _ _)).next HB5.out;obtain⟨i0,i1,i2,i3,i4,i5,i6⟩:=HIX.out w5 HB5.out);refine rG (fun v=>v.cell? ⟨wr.heap.size,0,none⟩=some (.int .i64 op)/\v.cell? ⟨wr.heap.size,5,none⟩=some (.int .i64 nn)) fun hHeld=>?_;refine Tf 0 1 2 3 4 5 ?_;clear hHeld;refine ry1 6 fun K hK=>?_;go_simp;(go_at_call 38;(with_reducible refine(HCP.out _ (bel HBR.out (Zhs _))).mono ?_);rintro e w6 ⟨u,rfl,hu,hb6⟩;obtain⟨pu,qu,rfl⟩:=Zjl hu;have hb66:Below w5.heap.size w5 w6:=bel (Zhs _) hb6;obtain⟨g',c',w7,hrun,hb7,hsk7,hoth⟩:=SK.push (i:=(⟨op,D,A,Q,E,nn,bt⟩:Ins)) (hsk.out.below HBR.out) hb66 hu HOP.out hn64 110;dsimp only at hrun;have HRUN:Hid _:=hrun;have HX7:Hid (CX w (.slice p0 n0 q0) (.slice p1 k q1) (.slice p2 n2 q2) (.slice (some ⟨b,o,none⟩) n3 q3) w7):=((HCX.out.next (Zhq _ _)).next HB5.out).on hb7;have HS7:Hid (SK (w.heap.size+1) k w7 (.slice ps k qs) (.slice (some ⟨g',0,none⟩) (s.opens.length+1) c') (Zib s (⟨op,D,A,Q,E,nn,bt⟩:Ins)) (us++[.slice pu k qu])):=hsk7;have j0:=kc hb66 i0;have j5:=kc hb66 i5;have hwl:wr.heap.size<w6.heap.size:=Zhr j0;have hne:(Value.slice po s.opens.length qo).ownBlock≠some wr.heap.size:=(fun e=>Nat.lt_irrefl _ (HOB.out _ e));have m0:w7.cell? ⟨wr.heap.size,0,none⟩=some (.int .i64 op):=(World.cell?_of_block (hoth _ hwl hne)).trans j0;have m5:w7.cell? ⟨wr.heap.size,5,none⟩=some (.int .i64 nn):=(World.cell?_of_block (hoth _ hwl hne)).trans j5;have a0:∀x,(w6.alloc x).cell? ⟨wr.heap.size,0,none⟩=some (.int .i64 op):=(fun x=>kc (Zhq _ _) j0);have a5:∀x,(w6.alloc x).cell? ⟨wr.heap.size,5,none⟩=some (.int .i64 nn):=(fun x=>kc (Zhq _ _) j5);clear hu hb6 hb66 hrun hb7 hsk7 hoth hne i0 i5);try(go_wp2_with fail)
         refine okK hK fun hHeld=>?_;clear hK K;refine tkT 7 ?_;clear hHeld;refine ry1 8 fun K hK=>?_;go_simp;refine okK hK fun hHeld=>?_;clear hK K;clear hHeld;refine ry1 9 fun K hK=>?_;refine Zps _ _ _ rF _ _ _ rF rF HRUN.out ?_ _ rF;refine okK hK fun hHeld=>?_;clear hK K;refine tkT 10 ?_;refine wpAnyH_done kR ?_ _;go_wp2;go_roundw
         case rel=>exact⟨HX7.out,j+1,Zib s (⟨op,D,A,Q,E,nn,bt⟩:Ins),us++[Value.slice pu k qu],oM,gN,HS7,HO1.out.1,HO1.out.2,HG1.out⟩
         case measure=>simp[intOf];omega
       have q34:(op==34)=false:=by have:op≠34:=fun e=>hop (.inl e);simpa using this
       have q36:(op==36)=false:=by have:op≠36:=fun e=>hop (.inr e);simpa using this
       have HNO:Hid (op≠34/\op≠36):=⟨fun e=>hop (.inl e),fun e=>hop (.inr e)⟩
       clear hop;by_cases h35:op=35
       ·have hmay:=HTK1.out.2;unfold Ziw at hmay;rw[if_neg (fun e=>e.elim HNO.out.1 HNO.out.2),if_pos h35]at hmay;simp only[Bool.and_eq_true,Bool.not_eq_true']at hmay;have hn0:0<s.opens.length:=by
         rcases Nat.eq_zero_or_pos s.opens.length with e|e
         ·have:=List.length_eq_zero_iff.1 e;rw[this]at hmay;exact absurd hmay.1 dE
         ·exact e
        have HLP:Hid (Zim s=false):=hmay.2;obtain⟨g,cap,eo,-⟩:=hsk.out.opn.form hn0;simp only[Value.slice.injEq]at eo;obtain⟨rfl,-,-⟩:=eo;obtain⟨X,u,hX,hu,-,-,z2⟩:=hsk.out.last hn0;obtain⟨pu,qu,rfl⟩:=Zjl hu;have HXO:Hid ((opR s)[s.opens.length-1]? =some ⟨if Zim s then 36 else 34,Zli s,X⟩):=hX;have HCP:Hid (∀v,Below wr.heap.size wr v->Calls prog 38 #[.slice pu k qu] v fun e w'=>∃u,e=.returned u/\w'.ownsRow v.heap.size 4 1 u k (setB k X)/\Below v.heap.size v w'):=fun v hb=>Zun _ h1 v (Ziu hu hb);have s1:=fun w=>Zpl und_O size_O (some ⟨g,0,none⟩) s.opens.length qo (s.opens.length-1) (by have:=Zxe hsk.out.opn;omega) w;have HN0':Hid (0<s.opens.length):=hn0;obtain⟨N,hN⟩:∃N,s.opens.length=N:=⟨_,rfl⟩
        obtain⟨m,hm⟩:∃m,N-1=m:=⟨_,rfl⟩
        have HNN:Hid (s.opens.length=N):=hN;have HMM:Hid (N-1=m):=hm;rw[hN]at z2 s1 hn0 hnest;rw[hm]at z2 s1;rw[hN]at HST;rw[hN];have hw:IntKind.i64.wrap ((N:Int)-1)=(m:Int):=by rw[IntKind.wrap_i64];omega
        have r1:(0:Int)<=(m:Int):=oM;have r2:(m:Int)<(N:Int):=oM;have q35:(op==35)=true:=by simpa using h35
        have HOP:Hid (op=35\/op=37):=.inl h35;clear hmay hX hu h35 hN hm;go_wp2_with(first
         |(go_at_call 37;(with_reducible refine HST.out.mono ?_);rintro e w5 ⟨rfl,hb5⟩;have HB5:Hid (Below (wr.alloc (.cells #[.int .i64 op,.int .i64 D,.int .i64 A,.int .i64 Q,.int .i64 E,.int .i64 nn,.int .u32 bt] 45)).heap.size (wr.alloc (.cells #[.int .i64 op,.int .i64 D,.int .i64 A,.int .i64 Q,.int .i64 E,.int .i64 nn,.int .u32 bt] 45)) w5):=hb5;have HBR:Hid (Below wr.heap.size wr w5):=bel (Zhq _ _) hb5;clear hb5 f0 f1 f2 f3;obtain⟨-,-,f0,f1,f2,f3⟩:=(HCX.out.next (Zhq _ _)).next HB5.out;have z5:=kc HBR.out z2;obtain⟨i0,i1,i2,i3,i4,i5,i6⟩:=HIX.out w5 HB5.out)
         |(go_at_call 38;(with_reducible refine(HCP.out _ HBR.out).mono ?_);rintro e w6 ⟨u,rfl,hu,hb6⟩;have HU6:Hid (w6.ownsRow w5.heap.size 4 1 u k (setB k X)):=hu;have HB6:Hid (Below w5.heap.size w5 w6):=hb6;clear hu hb6))
        go_roundw
        case rel=>
         refine⟨((HCX.out.next (Zhq _ _)).next HB5.out).next HB6.out,j+1,Zib s (⟨op,D,A,Q,E,nn,bt⟩:Ins),us.take (s.opens.length-1),oM,gN,?_,HO1.out.1,HO1.out.2,HG1.out⟩;have e1:Zib s (⟨op,D,A,Q,E,nn,bt⟩:Ins)=Zix s:=Zxn HOP.out;have h9:=SK.back (hsk.out.below HBR.out) hok.out HN0'.out HLP.out HB6.out HXO.out HU6.out;rw[e1,←HMM.out,←HNN.out];exact h9
        case measure=>simp[intOf];omega
       have q35:(op==35)=false:=by simpa using h35
       by_cases h37:op=37
       ·have hmay:=HTK1.out.2;unfold Ziw at hmay;rw[if_neg (fun e=>e.elim HNO.out.1 HNO.out.2),if_neg h35,if_pos h37]at hmay;have hn0:0<s.opens.length:=by
         rcases Nat.eq_zero_or_pos s.opens.length with e|e
         ·have:=List.length_eq_zero_iff.1 e;unfold Zim at hmay;rw[this]at hmay;exact absurd hmay dE
         ·exact e
        have HLP:Hid (Zim s=true):=hmay;have s1:=fun w=>Zpl und_O size_O po s.opens.length qo (s.opens.length-1) (by have:=Zxe hsk.out.opn;omega) w;have HN0':Hid (0<s.opens.length):=hn0;obtain⟨N,hN⟩:∃N,s.opens.length=N:=⟨_,rfl⟩
        obtain⟨m,hm⟩:∃m,N-1=m:=⟨_,rfl⟩
        have HNN:Hid (s.opens.length=N):=hN;have HMM:Hid (N-1=m):=hm;rw[hN]at s1 hn0 hnest;rw[hm]at s1;rw[hN]at HST;rw[hN];have hw:IntKind.i64.wrap ((N:Int)-1)=(m:Int):=by rw[IntKind.wrap_i64];omega
        have r1:(0:Int)<=(m:Int):=oM;have r2:(m:Int)<(N:Int):=oM;have q37:(op==37)=true:=by simpa using h37
        have HOP:Hid (op=35\/op=37):=.inr h37;clear hmay h35 h37 hN hm;go_wp2_with(go_at_call 37;(with_reducible refine HST.out.mono ?_);rintro e w5 ⟨rfl,hb5⟩;have HB5:Hid (Below (wr.alloc (.cells #[.int .i64 op,.int .i64 D,.int .i64 A,.int .i64 Q,.int .i64 E,.int .i64 nn,.int .u32 bt] 45)).heap.size (wr.alloc (.cells #[.int .i64 op,.int .i64 D,.int .i64 A,.int .i64 Q,.int .i64 E,.int .i64 nn,.int .u32 bt] 45)) w5):=hb5;have HBR:Hid (Below wr.heap.size wr w5):=bel (Zhq _ _) hb5;clear hb5 f0 f1 f2 f3;obtain⟨-,-,f0,f1,f2,f3⟩:=(HCX.out.next (Zhq _ _)).next HB5.out;obtain⟨i0,i1,i2,i3,i4,i5,i6⟩:=HIX.out w5 HB5.out);go_roundw
        case rel=>
         refine⟨(HCX.out.next (Zhq _ _)).next HB5.out,j+1,Zib s (⟨op,D,A,Q,E,nn,bt⟩:Ins),us.take (s.opens.length-1),oM,gN,?_,HO1.out.1,HO1.out.2,HG1.out⟩;have e1:Zib s (⟨op,D,A,Q,E,nn,bt⟩:Ins)=Zix s:=Zxn HOP.out;have h9:=SK.pop (hsk.out.below HBR.out) hok.out HN0'.out HLP.out;rw[e1,←HMM.out,←HNN.out];exact h9
        case measure=>simp[intOf];omega
       have q37:(op==37)=false:=by simpa using h37
       have HNP:Hid (op≠34/\op≠35/\op≠36/\op≠37):=⟨HNO.out.1,h35,HNO.out.2,h37⟩
       have KE:=Zajm (⟨op,D,A,Q,E,nn,bt⟩:Ins);unfold setsP at KE;simp only at KE;have hdr:(rowP op).d≠0->0<=D/\D<(k:Int):=fun hd=>by
        have:=Zie (Zoa HTK1.out.1) hd;rw[HN1.out]at this;exact this
       clear h35 h37;by_cases hsd:(rowP op).d=0
       ·have e9:((rowP op).d != 0)=false:=by simp[hsd]
        rw[e9]at KE;have HKE:Hid (∀v,Calls prog 39 #[.agg #[.int .i64 op,.int .i64 D,.int .i64 A,.int .i64 Q,.int .i64 E,.int .i64 nn,.int .u32 bt]] v fun e w'=>e=.returned (.bool false)/\Below v.heap.size v w'):=KE;have HSD:Hid ((rowP op).d=0):=hsd;clear KE e9 hdr hsd;go_wp2_with(first
         |(go_at_call 37;(with_reducible refine HST.out.mono ?_);rintro e w5 ⟨rfl,hb5⟩;have HB5:Hid (Below (wr.alloc (.cells #[.int .i64 op,.int .i64 D,.int .i64 A,.int .i64 Q,.int .i64 E,.int .i64 nn,.int .u32 bt] 45)).heap.size (wr.alloc (.cells #[.int .i64 op,.int .i64 D,.int .i64 A,.int .i64 Q,.int .i64 E,.int .i64 nn,.int .u32 bt] 45)) w5):=hb5;have HBR:Hid (Below wr.heap.size wr w5):=bel (Zhq _ _) hb5;clear hb5 f0 f1 f2 f3;obtain⟨-,-,f0,f1,f2,f3⟩:=(HCX.out.next (Zhq _ _)).next HB5.out;obtain⟨i0,i1,i2,i3,i4,i5,i6⟩:=HIX.out w5 HB5.out)
         |(go_at_call 39;(with_reducible refine(HKE.out _).mono ?_);rintro e w6 ⟨rfl,hb6⟩;have HB6:Hid (Below w5.heap.size w5 w6):=hb6;clear hb6))
        go_roundw
        case rel=>exact⟨((HCX.out.next (Zhq _ _)).next HB5.out).next HB6.out,j+1,Zib s (⟨op,D,A,Q,E,nn,bt⟩:Ins),us,oM,gN,SK.keep ((hsk.out.below HBR.out).below HB6.out) hok.out HNP.out.1 HNP.out.2.1 HNP.out.2.2.1 HNP.out.2.2.2 HSD.out,HO1.out.1,HO1.out.2,HG1.out⟩
        case measure=>simp[intOf];omega
       ·have e9:((rowP op).d != 0)=true:=by simp[hsd]
        rw[e9]at KE;have HKE:Hid (∀v,Calls prog 39 #[.agg #[.int .i64 op,.int .i64 D,.int .i64 A,.int .i64 Q,.int .i64 E,.int .i64 nn,.int .u32 bt]] v fun e w'=>e=.returned (.bool true)/\Below v.heap.size v w'):=KE;have HSD:Hid ((rowP op).d≠0):=hsd;obtain⟨d,rfl⟩:∃d:Nat,D=(d:Int):=⟨D.toNat,by have:=hdr hsd;omega⟩
        have hd2:=(hdr hsd).2;obtain⟨gs,cap,eo,hgs,-⟩:=hsk.out.set.form oM;simp only[Value.slice.injEq]at eo;obtain⟨rfl,-,-⟩:=eo;have d0:(0:Int)<=(d:Int):=oM;have HG9:Hid (w.heap.size+1<=gs):=(hsk.out.set.lt gs rfl).1;have HCE:Hid (∀v,Below wr.heap.size wr v->v.cell? ⟨gs,d,none⟩=some (.bool (decide (d∈s.set)))/\v.frozen? ⟨gs,d,none⟩=false):=fun v hb=>by
         have h9:=Ziu hsk.out.set hb;exact⟨by rw[h9.cellAt d oM,Zse oM],h9.frozenAt d⟩
        clear KE e9 hdr hsd;go_wp2_with(first
         |(go_at_call 37;(with_reducible refine HST.out.mono ?_);rintro e w5 ⟨rfl,hb5⟩;have HB5:Hid (Below (wr.alloc (.cells #[.int .i64 op,.int .i64 (d:Int),.int .i64 A,.int .i64 Q,.int .i64 E,.int .i64 nn,.int .u32 bt] 45)).heap.size (wr.alloc (.cells #[.int .i64 op,.int .i64 (d:Int),.int .i64 A,.int .i64 Q,.int .i64 E,.int .i64 nn,.int .u32 bt] 45)) w5):=hb5;have HBR:Hid (Below wr.heap.size wr w5):=bel (Zhq _ _) hb5;clear hb5 f0 f1 f2 f3;obtain⟨-,-,f0,f1,f2,f3⟩:=(HCX.out.next (Zhq _ _)).next HB5.out;obtain⟨i0,i1,i2,i3,i4,i5,i6⟩:=HIX.out w5 HB5.out)
         |(go_at_call 39;(with_reducible refine(HKE.out _).mono ?_);rintro e w6 ⟨rfl,hb6⟩;have HB6:Hid (Below w5.heap.size w5 w6):=hb6;obtain⟨y8,y9⟩:=HCE.out w6 (bel HBR.out hb6);have i1:=kc hb6 i1;clear hb6))
        go_roundw
        case rel=>exact⟨(((HCX.out.next (Zhq _ _)).next HB5.out).next HB6.out).on ((Below.refl _ _).setCell HG9.out _),j+1,Zib s ⟨op,(d:Int),A,Q,E,nn,bt⟩,us,oM,gN,SK.ins (i:=⟨op,(d:Int),A,Q,E,nn,bt⟩) ((hsk.out.below HBR.out).below HB6.out) hok.out HNP.out.1 HNP.out.2.1 HNP.out.2.2.1 HNP.out.2.2.2 HSD.out (by have:=hd2;show d<k;omega),HO1.out.1,HO1.out.2,HG1.out⟩
        case measure=>simp[intOf];omega
     ·have hjn3:j=n3:=oM;have hgo':=hgo.out;rw[List.drop_of_length_le (by rw[HN3.out,hjn3];exact Nat.le_refl _)]at hgo';have hgi:goP c s j []=if s.opens.isEmpty then(0,0)else(160,(j:Int)):=rfl;rw[hgi]at hgo';obtain⟨N,hN⟩:∃N,s.opens.length=N:=⟨_,rfl⟩
      have hE:s.opens.isEmpty=decide (N=0):=by
       rw[←hN];cases s.opens with
       |nil=>rfl
       |cons a l=>simp
      rw[hE]at hgo';have HGO:Hid ((if decide (N=0)=true then((0:Int),(0:Int))else(160,(j:Int)))=(RA,RB)):=hgo';rw[hN]at hnest;rw[hN];have e1:¬ (j:Int)<(n3:Int):=oM;clear hgo hgo' hgi hE hN hlt;by_cases hz:N=0
      ·have HQ:Hid ((0,0)=(RA,RB)):=by show _=_;have:=HGO.out;rw[if_pos (by simpa using hz)]at this;exact this
       subst hz;go_wp2
       go_ret2
       exact⟨Zsy HQ.out,HCX.out.bel⟩
      ·have HQ:Hid ((160,(j:Int))=(RA,RB)):=by show _=_;have:=HGO.out;rw[if_neg (by simpa using hz)]at this;exact this
       have hz':(0:Int)<(N:Int):=oM;have HJ:Hid ((j:Int)=(n3:Int)):=by show _=_;omega
       clear hz;go_wp2;refine rG (fun v=>v.cell? ⟨w.heap.size,3,none⟩=some (.slice p3 n3 q3)) fun hHeld=>?_;refine Tc 0 1 2 ?_;refine Tb 3 4 ?_;refine wpAnyH_done kR ?_ _;go_wp2
       go_ret2
       refine⟨Zsy ?_,Zmu HCX.out.bel⟩;rw[←HJ.out];exact HQ.out
theorem Ztn(v0 v1 v2 v3:Value)(c:Cd)(hk:CdOk c)(w:World)(hv:CdV w v0 v1 v2 v3 c):
 Calls prog 21 #[.agg #[v0,v1,v2,v3]] w fun e w'=>e=.returned (.tuple #[.int .i64 (Zik c).1,.int .i64 (Zik c).2])/\Below w.heap.size w w':=by
 by_cases h0:Ziz c.sign=0
 ·by_cases h1:16384<c.regs.length\/32768<c.list.length
  ·have e:Zik c=(181,-1):=by unfold Zik Zkw;simp[h0,h1]
   rw[e];exact Zqt v0 v1 v2 v3 c hk w hv 181 (.inr (.inl ⟨h0,h1,rfl⟩))
  ·by_cases h2:4096<c.slots.length
   ·have e:Zik c=(180,-1):=by unfold Zik Zkw;simp[h0,h1,h2]
    rw[e];exact Zqt v0 v1 v2 v3 c hk w hv 180 (.inr (.inr ⟨h0,fun e=>h1 (.inl e),fun e=>h1 (.inr e),h2,rfl⟩))
   ·refine Zady v0 v1 v2 v3 c hk w hv h0 oM oM oM _ _ ?_;have hA:Zkw c=if(Zif c&&Zkc c)=true then 0 else 160:=by
     unfold Zkw;rw[if_neg (fun e=>e h0),if_neg h1,if_neg h2]
    unfold Zik;rw[hA];by_cases h3:(Zif c&&Zkc c)=true
    ·rw[if_pos h3,if_pos h3,if_neg dE]
    ·rw[if_neg h3,if_neg h3,if_pos dE]
 ·have e:Zik c=(Ziz c.sign,-1):=by unfold Zik Zkw;simp[h0]
  rw[e];exact Zqt v0 v1 v2 v3 c hk w hv _ (.inl ⟨h0,rfl⟩)
end Go.Proofs.YtbinohkcolcbfaaGreat
set_option maxRecDepth 100000
set_option maxHeartbeats 16000000
namespace Go.Proofs.YtbinohkcolcbfaaGreat
open Go.RowKit Go.Proofs.Tryz
open Go.Maps (Keyed)
set_option linter.unusedVariables false
set_option linter.unusedSimpArgs false
def hRI:Value->Option (DataW Value×List MemPlace):=fun v=>some (.held v,[])
def litI(k:Nat):Lit:=.int .i64 (k:Int)
theorem Zanv{a b:Nat}(h:litI a=litI b):a=b:=by
 unfold litI at h;simp only[Lit.int.injEq,true_and]at h;omega
def MapI(w:World)(b n:Nat)(f:Nat->Option Value):Prop:=
 ∃D:DataW Value,w.ownsMap prog 3 hRI b n D/\∀k zd,D.atKey (litI k) zd=match f k with |some v=>.held v|none=>zd
def updI(f:Nat->Option Value)(k:Nat)(v:Value):Nat->Option Value:=fun j=>if j=k then some v else f j
theorem intK:Keyed prog 3:=Maps.int_keyed underlying3
theorem Zadf{k:Nat}(h:k<=4611686018427387904):keyOf prog 3 (.int .i64 (k:Int))=some (litI k):=
 Maps.keyOf_int_mk underlying3 (by
  have h1:IntKind.i64.min<=(0:Int):=dE;have h2:(4611686018427387904:Int)<=IntKind.i64.max:=dE;simp only[Lit.wf,Bool.and_eq_true,decide_eq_true_eq]
  omega)
theorem MapI.new(w:World):MapI (w.alloc (.map #[] 0)) w.heap.size 0 (fun _=>none):=
 ⟨_,World.ownsMap_made _ _ _ _,fun k zd=>rfl⟩
theorem MapI.block{w w':World}{b n:Nat}{f:Nat->Option Value}(h:MapI w b n f)(hb:w'.heap[b]? =w.heap[b]?):MapI w' b n f:=by
 obtain⟨D,⟨es,clock,h0,h1⟩,h2⟩:=h;exact⟨D,⟨es,clock,hb.trans h0,h1⟩,h2⟩
theorem MapI.lt{w:World}{b n:Nat}{f:Nat->Option Value}(h:MapI w b n f):b<w.heap.size:=by
 obtain⟨D,h1,_⟩:=h;exact h1.lt
theorem MapI.below{w w':World}{b n:Nat}{f:Nat->Option Value}(h:MapI w b n f)(k:Below w.heap.size w w'):MapI w' b n f:=h.block (k.block b h.lt)
theorem MapI.look1{w:World}{b n:Nat}{f:Nat->Option Value}(h:MapI w b n f){t e:TypeId}(ht:prog.underlying t=some (.map 3 e)){z:Value}(hz:(zeroValue e).run prog w=.ok z w){k:Nat}(hk:k<=4611686018427387904):
 (Instr.lookup t (.map (some b)) (.int .i64 (k:Int)) false).run prog w=.ok ((f k).getD z) w:=by
 obtain⟨D,h1,h2⟩:=h;obtain⟨v,ps,hrun,hv⟩:=h1.lookup intK ht hz (zd:=.held z) (zp:=[]) rfl (Zadf hk);rw[hrun];simp only[hRI,Option.some.injEq,Prod.mk.injEq,h2]at hv;obtain⟨hv,-⟩:=hv;cases hf:f k with
 |none=>rw[hf]at hv;simp only[DataW.held.injEq]at hv;rw[hv];rfl
 |some u=>rw[hf]at hv;simp only[DataW.held.injEq]at hv;rw[hv];rfl
theorem isKeyI(k:Nat):WideAt.IsKeyLit (litI k):=by unfold litI;simp[WideAt.IsKeyLit]
theorem MapI.put{w:World}{b n:Nat}{f:Nat->Option Value}(h:MapI w b n f)(hn:n<maxLen){t e:TypeId}(ht:prog.underlying t=some (.map 3 e)){k:Nat}(hk:k<=4611686018427387904)(v:Value):
 ∃w',(Instr.mapUpdate t (.map (some b)) (.int .i64 (k:Int)) v).run prog w=.ok () w'/\MapI w' b (n+1) (updI f k v)/\w.grownBy w' (some b):=by
 obtain⟨D,h1,h2⟩:=h;obtain⟨w',hrun,r1,r2⟩:=h1.update intK ht hn (Zadf hk) (d:=.held v) (ps:=[]) (val:=v) rfl;refine⟨w',hrun,⟨_,r1,fun j zd=>?_⟩,r2⟩;unfold updI;by_cases e:j=k
 ·subst e;rw[Maps.atKey_put_same (h1.canon intK |>.elim fun es hes=>⟨es,hes.1⟩) (isKeyI j)];simp
 ·rw[Maps.atKey_put_other (fun he=>e (Zanv he)),h2,if_neg e]
end Go.Proofs.YtbinohkcolcbfaaGreat
namespace Go.Proofs.YtbinohkcolcbfaaGreat
open Go.RowKit Go.Proofs.Tryz
set_option linter.unusedVariables false
set_option linter.unusedSimpArgs false
set_option maxRecDepth 100000
set_option maxHeartbeats 16000000
def cellM(w:World)(b:Nat):Nat:=match w.cell? ⟨b,1,none⟩with
 |some (.int _ x)=>x.toNat
 |_=>0
theorem Zuu(w:World)(v0 v2 v3 v4:Value)(X:Int)(t:TypeId)(p:Obj):cellM ((w.alloc (.cells #[v0,.int .u64 X,v2,v3,v4] t)).alloc p) w.heap.size=X.toNat:=by
 have:((w.alloc (.cells #[v0,.int .u64 X,v2,v3,v4] t)).alloc p).cell? ⟨w.heap.size,1,none⟩=some (.int .u64 X):=by
  simp
 unfold cellM;rw[this]
theorem rup_any(s:Bool)(m e:Int)(i n:Bool)(h0:0<m)(h1:m<16777216)(e0: -149<=e)(e1:e<=104)(w:World):
 Calls prog 193 #[.agg #[.bool s,.int .u64 m,.int .i64 e,.bool i,.bool n]] w fun x w'=>(∃k:Nat,k<=23/\x=.returned (.agg #[.bool s,.int .u64 (m*2^k),.int .i64 (e-k),.bool i,.bool n])/\8388608<=m*2^k/\m*2^k<16777216)/\∃o p,w'=(w.alloc o).alloc p:=by
 go_enter func193,ntmps193;go_wp2
 go_loopw [4] (fun _ wr=>∃ (k:Nat),k<=23/\m*2^k<16777216/\wr=(w.alloc (.cells #[.bool s,.int .u64 (m*2^k),.int .i64 (e-k),.bool i,.bool n] 200)).alloc (.cells #[.bool false,.int .u64 0,.int .i64 0,.bool false,.bool false] 200)) (fun _ wr=>16777216-cellM wr w.heap.size)
 case atStart=>exact⟨0,oM,by simpa using h1,sM⟩
 case round=>
  obtain⟨k,hk,hm,rfl⟩:=hrel;have hP:(1:Int)<=2^k:=Int.pow_pos dE;have hX:0<m*2^k:=Int.mul_pos h0 oM;by_cases c:m*2^k<8388608
  ·have hs:m*2^(k+1)=m*2^k*2:=by rw[Int.pow_succ,←Int.mul_assoc]
   have HS:Hid (m*2^(k+1)=m*2^k*2):=hs;have hk23:k<=22:=by
    rcases Nat.lt_or_ge 22 k with d|d
    ·exfalso;have h2:8388608<=2^k:=Nat.le_trans (show 8388608<=2^23 by decide) (Nat.pow_le_pow_right dE oM);have h3:((8388608:Nat):Int)<=((2^k:Nat):Int):=Int.ofNat_le.2 h2;rw[Int.natCast_pow]at h3;have h4:(1:Int)*2^k<=m*2^k:=Int.mul_le_mul_of_nonneg_right oM oM;have h5:((8388608:Nat):Int)=8388608:=rfl;have h6:(((2:Nat):Int))^k=(2:Int)^k:=rfl;omega
    ·exact d
   clear hs;generalize m*2^k=X at *;go_wp2;go_roundw
   case rel=>
    refine⟨k+1,oM,?_,?_⟩
    ·rw[HS.out];omega
    ·rw[HS.out,show e-(k:Int)-1=e-((k+1:Nat):Int) by omega]
   case measure=>rw[Zuu,Zuu];omega
  ·generalize hXX:m*2^k=X at *;have HX:Hid (m*2^k=X):=hXX;clear hXX;go_wp2;go_returns;exact⟨⟨k,hk,by rw[HX.out],by rw[HX.out];omega,by rw[HX.out];omega⟩,_,_,rfl⟩
def nk(m:Int):Nat:=23-m.toNat.log2
theorem Znn(k:Nat):((2^k:Nat):Int)=(2:Int)^k:=Int.natCast_pow 2 k
theorem nk_uniq(m:Int)(k:Nat)(h0:0<m)(hk:k<=23)(h:8388608<=m*2^k)(h':m*2^k<16777216):k=nk m:=by
 obtain⟨n,rfl⟩:=Int.eq_ofNat_of_zero_le (Int.le_of_lt h0);rw[←Znn,←Int.natCast_mul]at h h';have hn:n≠0:=oM;have e:(n*2^k).log2=n.log2+k:=by
  refine(Nat.log2_eq_iff oM).2 ⟨?_,?_⟩
  ·rw[Nat.pow_add];exact Nat.mul_le_mul_right _ (Nat.log2_self_le hn)
  ·rw[show n.log2+k+1=n.log2+1+k by omega,Nat.pow_add];exact Nat.mul_lt_mul_of_pos_right Nat.lt_log2_self (Nat.two_pow_pos k)
 have e2:(n*2^k).log2=23:=(Nat.log2_eq_iff oM).2 ⟨oM,oM⟩;unfold nk;rw[Int.toNat_natCast];omega
theorem Zabx(s:Bool)(m e:Int)(i n:Bool)(h0:0<m)(h1:m<16777216)(e0: -149<=e)(e1:e<=104)(w:World):
 Calls prog 193 #[.agg #[.bool s,.int .u64 m,.int .i64 e,.bool i,.bool n]] w fun x w'=>x=.returned (.agg #[.bool s,.int .u64 (m*2^nk m),.int .i64 (e-nk m),.bool i,.bool n])/\∃o p,w'=(w.alloc o).alloc p:=by
 refine(rup_any s m e i n h0 h1 e0 e1 w).mono ?_;rintro x w' ⟨⟨k,hk,rfl,ha,hb⟩,ho⟩;have:=nk_uniq m k h0 hk ha hb;subst this;exact⟨rfl,ho⟩
theorem Zow(m:Int)(h0:0<m)(h1:m<16777216):nk m<=23/\8388608<=m*2^nk m/\m*2^nk m<16777216:=by
 obtain⟨n,rfl⟩:=Int.eq_ofNat_of_zero_le (Int.le_of_lt h0);have hn:n≠0:=oM;have hl:n.log2<24:=(Nat.log2_lt hn).2 oM;have lo:=Nat.log2_self_le hn;have hi:n<2^(n.log2+1):=Nat.lt_log2_self;unfold nk;rw[Int.toNat_natCast,←Znn,←Int.natCast_mul];refine⟨oM,?_,?_⟩
 ·have:2^n.log2*2^(23-n.log2)<=n*2^(23-n.log2):=Nat.mul_le_mul_right _ lo;rw[←Nat.pow_add,show n.log2+(23-n.log2)=23 by omega]at this;omega
 ·have:n*2^(23-n.log2)<2^(n.log2+1)*2^(23-n.log2):=Nat.mul_lt_mul_of_pos_right hi (Nat.two_pow_pos _);rw[←Nat.pow_add,show n.log2+1+(23-n.log2)=24 by omega]at this;omega
theorem Zwt(a:Int)(h0:0<=a)(h1:a<4294967296)(hi:nInf a=false)(hn:nNan a=false):rg a.toNat<2139095040/\ng a.toNat=nMin a/\(mg a.toNat:Int)=nM a/\(te a.toNat:Int)=nE a+149:=by
 have h:=Zki a h0 h1 hi hn;have hf:rg a.toNat<2139095040:=by
  rcases Nat.lt_trichotomy (rg a.toNat) 2139095040 with c|c|c
  ·exact c
  ·rw[Zlw _ c]at h;cases h.1
  ·rw[Zlc _ c]at h;cases h.1
 rw[Zjy _ hf]at h;have e:=h.1;injection e with e1 e2 e3;exact⟨hf,e1,oM,oM⟩
theorem Zod(a b:Int){d e:Ieee.Datum}(h:Ieee.single.read a.toNat=d)(k:Ieee.single.read b.toNat=e):fdiv a b=op2 ((d.quotient 25 e).map Ieee.single.write):=by
 unfold fdiv Ieee.Format.div;rw[h,k];rfl
theorem Zany(p q:Nat):(2*((p:Int)*274877906944/(q:Int))+(if(p:Int)*274877906944%(q:Int)=0 then 0 else 1)).toNat=2*((p<<<38)/q)+((p<<<38)%q != 0).toNat:=by
 have e:(p:Int)*(274877906944:Int)=((p<<<38:Nat):Int):=by
  rw[Nat.shiftLeft_eq,Int.natCast_mul,Znn];rfl
 rw[e,←Int.natCast_ediv,←Int.natCast_emod];generalize (p<<<38)/q=x;generalize (p<<<38)%q=y;have hb:(y != 0).toNat=if y=0 then 0 else 1:=by by_cases c:y=0<;>simp[c]
 rw[hb];by_cases c:y=0
 ·rw[if_pos c,if_pos oM];omega
 ·rw[if_neg c,if_neg oM];omega
theorem Zaky(M N j k r:Nat)(E F:Int)(ta tb:Nat)(hE:(ta:Int)=E+149)(hF:(tb:Int)=F+149)(hj:j<=23)(hk:k<=23)(hM:8388608<=M*2^j)(hN:8388608<=N*2^k)(hN2:N*2^k<16777216)(hNpos:0<N)
 (hnear:Near 23 (M*2^ta*2^149) (N*2^tb) r):
 r=Zkh 23 (-149) (2*(((M*2^j)<<<38)/(N*2^k))+(((M*2^j)<<<38)%(N*2^k) != 0).toNat) (E-j-(F-k)-39):=by
 have hq:0<N*2^k:=oM;have big:25<=(2*(((M*2^j)<<<38)/(N*2^k))+(((M*2^j)<<<38)%(N*2^k) != 0).toNat).log2:=by
  refine Zvz hq (j:=24) ?_;exact Nat.le_trans (Nat.mul_le_mul_right _ (show N*2^k<=16777216 by omega)) (Nat.le_trans dE (Nat.mul_le_mul_right _ hM))
 obtain⟨s,hs⟩:∃s:Nat,(s:Int)=F-k+172:=⟨(F-k+172).toNat,oM⟩
 obtain⟨x,hx⟩:∃x:Nat,(x:Int)=E-j+321:=⟨(E-j+321).toNat,oM⟩
 have h2:=Zzp (M*2^j) (N*2^k) 38 hq (E-j-(F-k)-39) big x s oM oM;refine hnear.unique h2 (Nat.mul_pos hNpos (Nat.two_pow_pos _)) (Nat.mul_pos hq (Nat.two_pow_pos s)) ?_;obtain⟨z,hz⟩:∃z:Nat,z=149:=⟨_,rfl⟩
 rw[←hz];have e1:M*2^ta*2^z*(N*2^k*2^s)=M*N*2^(ta+z+k+s):=by
  rw[Nat.pow_add,Nat.pow_add,Nat.pow_add];grind
 have e2:M*2^j*2^x*(N*2^tb)=M*N*2^(j+x+tb):=by
  rw[Nat.pow_add,Nat.pow_add];grind
 rw[e1,e2,show ta+z+k+s=j+x+tb by omega]
theorem Zapf(a b:Int)(h0:0<=a)(h1:a<4294967296)(g0:0<=b)(g1:b<4294967296)(hia:nInf a=false)(hna:nNan a=false)(hib:nInf b=false)(hnb:nNan b=false)(za:nM a≠0)(zb:nM b≠0)
 (A B:Int) (hA:nM a*2^nk (nM a)=A) (hB:nM b*2^nk (nM b)=B):
 fdiv a b=(Ieee.single.nearest (nMin a != nMin b) (2*(A*274877906944/B)+(if A*274877906944%B=0 then 0 else 1)).toNat (nE a-nk (nM a)-(nE b-nk (nM b))-39):Nat):=by
 obtain⟨fa,sa,ma,ta⟩:=Zwt a h0 h1 hia hna;obtain⟨fb,sb,mb,tb⟩:=Zwt b g0 g1 hib hnb;obtain⟨-,a1,a2,a3,a4,-⟩:=Zki a h0 h1 hia hna;obtain⟨-,b1,b2,b3,b4,-⟩:=Zki b g0 g1 hib hnb;obtain⟨ka,A1,A2⟩:=Zow (nM a) oM a2;obtain⟨kb,B1,B2⟩:=Zow (nM b) oM b2;obtain⟨r,hr,hnear⟩:=div_fin a.toNat b.toNat fa fb oM oM;have cA:A=((mg a.toNat*2^nk (nM a):Nat):Int):=by rw[Int.natCast_mul,Znn,ma,hA]
 have cB:B=((mg b.toNat*2^nk (nM b):Nat):Int):=by rw[Int.natCast_mul,Znn,mb,hB]
 rw[Zpx,Zpx]at hnear;have key:=Zaky (mg a.toNat) (mg b.toNat) (nk (nM a)) (nk (nM b)) r (nE a) (nE b) (te a.toNat) (te b.toNat) ta tb ka kb oM oM oM oM hnear;unfold fdiv;rw[hr,sa,sb,Znf];show((wd (nMin a != nMin b) r:Nat):Int)=_;rw[Zju,Zmb,Zkq,Zsb,cA,cB,Zany,←key]
end Go.Proofs.YtbinohkcolcbfaaGreat
