import Derived.Test.YtpoklpdgpcnkgaaGreatLng1
import Derived.Test.YtpoklpdgpcnkgaaGreatLng17
import Derived.Test.YtpoklpdgpcnkgaaGreatLng10
import Derived.Test.YtpoklpdgpcnkgaaGreatLng13
import Derived.Test.YtpoklpdgpcnkgaaGreatLng9
import Derived.Deep.DeepCutAuto
import Derived.Test.YtpoklpdgpcnkgaaGreatLng11
namespace Go.Proofs.YtpoklpdgpcnkgaaGreat
open Go.RowKit Go.Proofs.Tryz
set_option linter.all false
set_option maxRecDepth 100000
set_option maxHeartbeats 16000000
theorem und_O:prog.underlying 103=some (.slice (prog.elem 103)):=kR
theorem elem_O:prog.elem 103=107:=kR
theorem XL(w:World):(sizeOf (prog.elem 103)).run prog w=.ok 3 w:=by rw[elem_O];exact Tryz.sizeOf107 w
theorem It{a b x y:Int}(h:(a,b)=(x,y)):(Ending.returned (.tuple #[.int .i64 a,.int .i64 b]))=.returned (.tuple #[.int .i64 x,.int .i64 y]):=by cases h;rfl
theorem OT(v0 v1 v2 v3:Value)(c:Cd)(hk:Bb c)(w:World)(hv:Dk w v0 v1 v2 v3 c)(hS:Bo c.sign=0)(h1:c.regs.length<=16384)(h3:c.list.length<=32768)(h2:c.slots.length<=4096)(RA RB:Int)(hRES:(if(Aj c&&Cn c)=true then LJ c ⟨[],[]⟩ 0 c.list else(160,-1))=(RA,RB)):
 Calls prog 31 #[.agg #[v0,v1,v2,v3]] w fun e w'=>e=.returned (.tuple #[.int .i64 RA,.int .i64 RB])/\Below w.heap.size w w':=by
 have hSG:∀v,Below w.heap.size w v->Calls prog 45 #[v0] v fun e w'=>e=.returned (.int .i64 0)/\Below v.heap.size v w':=fun v hb=>by rw[<-hS];exact KU v0 c.sign hk.signL hk.names v (hv.below hb).sign.rd
 have l0:=hk.signL;obtain⟨p0,q0,rfl,-⟩:=id hv.sign;obtain⟨p1,q1,rfl,-⟩:=id hv.regs;obtain⟨p2,q2,rfl,-⟩:=id hv.slots;obtain⟨p3,q3,rfl,-⟩:=id hv.list;have HREGS:Hid (AZ 2 I2 w (.slice p1 c.regs.length q1) c.regs):=hv.regs;have HSLOTS:Hid (AZ 5 O0 w (.slice p2 c.slots.length q2) c.slots):=hv.slots;have HLIST:Hid (AZ 7 De w (.slice p3 c.list.length q3) c.list):=hv.list;have HMT:Hid (∀ (t:Ty) v,Calls prog 46 #[.agg #[.int .i64 t.kind,.int .i64 t.par],.slice p0 c.sign.length q0] v fun e w'=>e=.returned (.bool (AE t c.sign.length))/\Below v.heap.size v w'):=fun t v=>Iu t p0 _ q0 hk.signL v;have HMS:Hid (∀ (s:Sl),s∈c.slots->∀v,Calls prog 47 #[.agg #[.int .i64 s.ty.kind,.int .i64 s.ty.par,.bool s.keep,.int .u32 s.bits,.int .i64 s.int_],.slice p0 c.sign.length q0] v fun e w'=>e=.returned (.bool (Br s c.sign.length))/\Below v.heap.size v w'):=fun s hs v=>NI s (hk.sbits s hs).1 (hk.sbits s hs).2 p0 _ q0 hk.signL v;have HCV:Hid (Dk w (.slice p0 c.sign.length q0) (.slice p1 c.regs.length q1) (.slice p2 c.slots.length q2) (.slice p3 c.list.length q3) c):=hv;have HCO:Hid (Bb c):=hk;have HRES:Hid ((if(Aj c&&Cn c)=true then LJ c ⟨[],[]⟩ 0 c.list else(160,-1))=(RA,RB)):=hRES;obtain⟨n0,hn0⟩:∃n,c.sign.length=n:=⟨_,rfl⟩
 obtain⟨n1,hn1⟩:∃n,c.regs.length=n:=⟨_,rfl⟩
 obtain⟨n2,hn2⟩:∃n,c.slots.length=n:=⟨_,rfl⟩
 obtain⟨n3,hn3⟩:∃n,c.list.length=n:=⟨_,rfl⟩
 have HN0:Hid (c.sign.length=n0):=hn0;have HN1:Hid (c.regs.length=n1):=hn1;have HN2:Hid (c.slots.length=n2):=hn2;have HN3:Hid (c.list.length=n3):=hn3;rw[hn0]at hSG l0 HMT HMS;rw[hn1]at h1 HREGS;rw[hn2]at h2 HSLOTS;rw[hn3]at h3 HLIST;rw[hn0,hn1,hn2,hn3]at HCV |-;have HSG:Hid _:=hSG;have g1:(n1:Int)<=16384:=oM;have g2:(n2:Int)<=4096:=oM;have g3:(n3:Int)<=32768:=oM;clear hSG hn0 hn1 hn2 hn3 hv hk hS hRES;go_enter func31,ntmps31;go_wp2_with(go_at_call 45;(with_reducible refine(HSG.out _ (A0 _ _)).mono ?_);rintro e w1 ⟨rfl,hb1⟩;have HX1:Hid (CX w (.slice p0 n0 q0) (.slice p1 n1 q1) (.slice p2 n2 q2) (.slice p3 n3 q3) w1):=(CX.start w _ _ _ _).next hb1;obtain⟨b1,b2,c0,c1,c2,c3⟩:=HX1.out;clear hb1);clear c0 c1 c2 c3 b1 b2
 go_loopw [5] (fun iv wr=>CX w (.slice p0 n0 q0) (.slice p1 n1 q1) (.slice p2 n2 q2) (.slice p3 n3 q3) wr/\∃j:Nat,j<=n1/\iv=.int .i64 (j:Int)/\Hid ((c.regs.take j).all (fun t=>AE t n0)=true)) (fun iv _=>n1-(intOf iv).toNat)
 case atStart=>exact⟨HX1.out,0,gI _,rfl,by show _=_;simp⟩
 case round=>
  obtain⟨hcx,j,hj,rfl,hall⟩:=hrel;have HCX:Hid (CX w (.slice p0 n0 q0) (.slice p1 n1 q1) (.slice p2 n2 q2) (.slice p3 n3 q3) wr):=hcx;obtain⟨b1,b2,c0,c1,c2,c3⟩:=hcx;clear HX1;by_cases hlt:j<n1
  .have hll:j<c.regs.length:=by rw[HN1.out];exact hlt
   obtain⟨b,o,rfl,hx⟩:=HREGS.at hll;have KN:=HMT.out c.regs[j];have NX:Hid (AE c.regs[j] n0=true->(c.regs.take (j+1)).all (fun t=>AE t n0)=true):=fun h=>O4 _ hll hall.out h;have NB:Hid (AE c.regs[j] n0=false->(160,-1)=(RA,RB)):=fun h=>by
    have h5:Aj c=false:=by unfold Aj;rw[HN0.out];exact Rq _ hll h
    have h6:=HRES.out;rw[h5,Bool.false_and,if_neg dE]at h6;exact h6
   obtain⟨⟨K,P⟩,hT⟩:∃T:Ty,c.regs[j]=T:=⟨_,rfl⟩
   rw[hT]at hx KN NX NB;have y0:wr.cell? ⟨b,o+j*2,none⟩=some (.int .i64 K):=kc b1 (hx.at 0 rfl);have y1:wr.cell? ⟨b,o+j*2+1,none⟩=some (.int .i64 P):=kc b1 (hx.at 1 rfl);obtain⟨X,hX⟩:=gA (AE ⟨K,P⟩ n0)
   rw[hX]at NX NB;simp only[hX]at KN;have HK:Hid (∀v,Calls prog 46 #[.agg #[.int .i64 K,.int .i64 P],.slice p0 n0 q0] v fun e w'=>e=.returned (.bool X)/\Below v.heap.size v w'):=KN;have i1:(0:Int)<=(j:Int):=oM;have i2:(j:Int)<(n1:Int):=oM;clear KN hT hX hx hall;cases X
   .go_wp2;refine rG (fun v=>v.cell? ⟨w.heap.size,1,none⟩=some (.slice (some ⟨b,o,none⟩) n1 q1)/\v.cell? ⟨w.heap.size,0,none⟩=some (.slice p0 n0 q0)/\v.cell? ⟨b,o+j*2,none⟩=some (.int .i64 K)/\v.cell? ⟨b,o+j*2+1,none⟩=some (.int .i64 P)) fun yH=>?_;refine Tf 0 1 2 3 4 5 ?_;refine BU 6 ?_;clear yH;refine AJ 7 fun K hK=>?_;go_simp;(go_at_call 46;(with_reducible refine(HK.out _).mono ?_);rintro e w2 ⟨rfl,hb2⟩;have HB2:Hid (Below wr.heap.size wr w2):=bel (A7 _) hb2;clear hb2;obtain⟨-,-,c0,c1,c2,c3⟩:=HCX.out.next HB2.out;have x0:=kc HB2.out y0;have x1:=kc HB2.out y1);exact Zed
   .go_wp2;refine rG (fun v=>v.cell? ⟨w.heap.size,1,none⟩=some (.slice (some ⟨b,o,none⟩) n1 q1)/\v.cell? ⟨w.heap.size,0,none⟩=some (.slice p0 n0 q0)/\v.cell? ⟨b,o+j*2,none⟩=some (.int .i64 K)/\v.cell? ⟨b,o+j*2+1,none⟩=some (.int .i64 P)) fun yH=>?_;refine Tf 0 1 2 3 4 5 ?_;refine BU 6 ?_;clear yH;refine AJ 7 fun K hK=>?_;go_simp;(go_at_call 46;(with_reducible refine(HK.out _).mono ?_);rintro e w2 ⟨rfl,hb2⟩;have HB2:Hid (Below wr.heap.size wr w2):=bel (A7 _) hb2;clear hb2;obtain⟨-,-,c0,c1,c2,c3⟩:=HCX.out.next HB2.out;have x0:=kc HB2.out y0;have x1:=kc HB2.out y1);exact Zdt
  have hjn:j=n1:=oM;have HT:Hid (Aj c=true):=by
   show _=_;have h5:=hall.out;rw[hjn,<-HN1.out,List.take_length]at h5;unfold Aj;rw[HN0.out];exact h5
  have e1:¬ (j:Int)<(n1:Int):=oM;clear hall hlt;go_wp2;clear e1 c0 c1 c2 c3 b1 b2
  go_loopw [6] (fun iv wr=>CX w (.slice p0 n0 q0) (.slice p1 n1 q1) (.slice p2 n2 q2) (.slice p3 n3 q3) wr/\∃j:Nat,j<=n2/\iv=.int .i64 (j:Int)/\Hid ((c.slots.take j).all (fun s=>Br s n0)=true)) (fun iv _=>n2-(intOf iv).toNat)
  case atStart=>exact⟨HCX.out,0,gI _,rfl,by show _=_;simp⟩
  case round=>
   obtain⟨hcx,j,hj,rfl,hall⟩:=hrel;have HCX:Hid (CX w (.slice p0 n0 q0) (.slice p1 n1 q1) (.slice p2 n2 q2) (.slice p3 n3 q3) wr):=hcx;obtain⟨b1,b2,c0,c1,c2,c3⟩:=hcx;by_cases hlt:j<n2
   .have hll:j<c.slots.length:=by rw[HN2.out];exact hlt
    obtain⟨b,o,rfl,hx⟩:=HSLOTS.at hll;have KN:=HMS.out c.slots[j] (gD hll);have NX:Hid (Br c.slots[j] n0=true->(c.slots.take (j+1)).all (fun s=>Br s n0)=true):=fun h=>O4 _ hll hall.out h;have NB:Hid (Br c.slots[j] n0=false->(160,-1)=(RA,RB)):=fun h=>by
     have h5:Cn c=false:=by unfold Cn;rw[HN0.out];exact Rq _ hll h
     have h6:=HRES.out;rw[h5,Bool.and_false,if_neg dE]at h6;exact h6
    obtain⟨⟨⟨K,P⟩,kp,sb,si⟩,hT⟩:∃T:Sl,c.slots[j]=T:=⟨_,rfl⟩
    rw[hT]at hx KN NX NB;have y0:wr.cell? ⟨b,o+j*5,none⟩=some (.int .i64 K):=kc b1 (hx.at 0 rfl);have y1:wr.cell? ⟨b,o+j*5+1,none⟩=some (.int .i64 P):=kc b1 (hx.at 1 rfl);have y2:wr.cell? ⟨b,o+j*5+2,none⟩=some (.bool kp):=kc b1 (hx.at 2 rfl);have y3:wr.cell? ⟨b,o+j*5+3,none⟩=some (.int .u32 sb):=kc b1 (hx.at 3 rfl);have y4:wr.cell? ⟨b,o+j*5+4,none⟩=some (.int .i64 si):=kc b1 (hx.at 4 rfl);obtain⟨X,hX⟩:=gA (Br ⟨⟨K,P⟩,kp,sb,si⟩ n0)
    rw[hX]at NX NB;simp only[hX]at KN;have HK:Hid (∀v,Calls prog 47 #[.agg #[.int .i64 K,.int .i64 P,.bool kp,.int .u32 sb,.int .i64 si],.slice p0 n0 q0] v fun e w'=>e=.returned (.bool X)/\Below v.heap.size v w'):=KN;have i1:(0:Int)<=(j:Int):=oM;have i2:(j:Int)<(n2:Int):=oM;clear KN hT hX hx hall;cases X
    .go_wp2;refine rG (fun v=>v.cell? ⟨w.heap.size,2,none⟩=some (.slice (some ⟨b,o,none⟩) n2 q2)/\v.cell? ⟨w.heap.size,0,none⟩=some (.slice p0 n0 q0)/\v.cell? ⟨b,o+j*5,none⟩=some (.int .i64 K)/\v.cell? ⟨b,o+j*5+1,none⟩=some (.int .i64 P)/\v.cell? ⟨b,o+j*5+2,none⟩=some (.bool kp)/\v.cell? ⟨b,o+j*5+3,none⟩=some (.int .u32 sb)/\v.cell? ⟨b,o+j*5+4,none⟩=some (.int .i64 si)) fun yH=>?_;refine Tf 0 1 2 3 4 5 ?_;refine BU 6 ?_;clear yH;refine AJ 7 fun K hK=>?_;go_simp;(go_at_call 47;(with_reducible refine(HK.out _).mono ?_);rintro e w2 ⟨rfl,hb2⟩;have HB2:Hid (Below wr.heap.size wr w2):=bel (A7 _) hb2;clear hb2;obtain⟨-,-,c0,c1,c2,c3⟩:=HCX.out.next HB2.out;have x0:=kc HB2.out y0;have x1:=kc HB2.out y1;have x2:=kc HB2.out y2;have x3:=kc HB2.out y3;have x4:=kc HB2.out y4);exact Zed
    .go_wp2;refine rG (fun v=>v.cell? ⟨w.heap.size,2,none⟩=some (.slice (some ⟨b,o,none⟩) n2 q2)/\v.cell? ⟨w.heap.size,0,none⟩=some (.slice p0 n0 q0)/\v.cell? ⟨b,o+j*5,none⟩=some (.int .i64 K)/\v.cell? ⟨b,o+j*5+1,none⟩=some (.int .i64 P)/\v.cell? ⟨b,o+j*5+2,none⟩=some (.bool kp)/\v.cell? ⟨b,o+j*5+3,none⟩=some (.int .u32 sb)/\v.cell? ⟨b,o+j*5+4,none⟩=some (.int .i64 si)) fun yH=>?_;refine Tf 0 1 2 3 4 5 ?_;refine BU 6 ?_;clear yH;refine AJ 7 fun K hK=>?_;go_simp;(go_at_call 47;(with_reducible refine(HK.out _).mono ?_);rintro e w2 ⟨rfl,hb2⟩;have HB2:Hid (Below wr.heap.size wr w2):=bel (A7 _) hb2;clear hb2;obtain⟨-,-,c0,c1,c2,c3⟩:=HCX.out.next HB2.out;have x0:=kc HB2.out y0;have x1:=kc HB2.out y1;have x2:=kc HB2.out y2;have x3:=kc HB2.out y3;have x4:=kc HB2.out y4);exact Zdt
   have hjn2:j=n2:=oM;have HGO0:Hid (LJ c ⟨[],[]⟩ 0 c.list=(RA,RB)):=by
    show _=_;have h5:=hall.out;rw[hjn2,<-HN2.out,List.take_length]at h5;have h6:Cn c=true:=by unfold Cn;rw[HN0.out];exact h5
    have h7:=HRES.out;rw[HT.out,h6,if_pos rF]at h7;exact h7
   have e1:¬ (j:Int)<(n2:Int):=oM;clear hall hlt;go_wp2;clear e1 c0 c1 c2 c3 b1 b2
   go_loopw [7,8] (fun sv iv wr=>CX w (.slice p0 n0 q0) (.slice p1 n1 q1) (.slice p2 n2 q2) (.slice p3 n3 q3) wr/\∃ (k:Nat) (p:Option Addr) (q:Nat),k<=n1/\iv=.int .i64 (k:Int)/\sv=.slice p k q/\wr.ownsRow (w.heap.size+1) 4 1 (.slice p k q) k (DP k [])) (fun _ iv _=>n1-(intOf iv).toNat)
   case atStart=>exact⟨HCX.out,0,none,0,gI _,rfl,rfl,by rw[show DP 0 []=[] from rfl];exact World.ownsRow_nil _ _ _ 1⟩
   case round=>
    obtain⟨hcx,k,p,q,hkn,rfl,rfl,how⟩:=hrel;have HCX:Hid (CX w (.slice p0 n0 q0) (.slice p1 n1 q1) (.slice p2 n2 q2) (.slice p3 n3 q3) wr):=hcx;obtain⟨b1,b2,c0,c1,c2,c3⟩:=hcx;by_cases hkl:k<n1
    .obtain⟨g,c',w8,hap,hb8,ho8⟩:=Vb how oM oM;have HAP:Hid ((Builtin.append_ #[74,74] 74 #[.slice p k q,.slice (some ⟨wr.heap.size,0,none⟩) 1 1]).run prog (wr.alloc (.cells #[.bool false] 4))=.ok (.slice (some ⟨g,0,none⟩) (k+1) c') w8):=hap;have HY8:Hid (CX w (.slice p0 n0 q0) (.slice p1 n1 q1) (.slice p2 n2 q2) (.slice p3 n3 q3) w8/\w8.ownsRow (w.heap.size+1) 4 1 (.slice (some ⟨g,0,none⟩) (k+1) c') (k+1) (DP (k+1) [])):=by
      refine⟨HCX.on hb8,?_⟩;rw[P8,List.replicate_succ',<-P8];exact ho8
     have i2:(k:Int)<(n1:Int):=oM;have wi:IntKind.i64.wrap ((k:Int)+1)=((k+1:Nat):Int):=by rw[IntKind.wrap_i64];omega
     clear hap hb8 ho8 how;go_wp2_with(at_builtin;refine Au rF _ _ _ rF _ _ _ rF rF HAP.out ?_);go_roundw
     case rel=>exact⟨HY8.1,k+1,_,_,oM,gN,rfl,HY8.2⟩
     case measure=>simp[intOf];omega
    have hkn1:k=n1:=oM;subst hkn1;have HSK0:Hid (SK (w.heap.size+1) k wr (.slice p k q) (.slice none 0 0) ⟨[],[]⟩ []):=SK.start wr _ b2 how;have e1:¬ (k:Int)<(k:Int):=oM;clear how hkl;go_wp2;clear e1 c0 c1 c2 c3 b1 b2
    go_loopw [7,9,10] (fun sv ov iv wr=>CX w (.slice p0 n0 q0) (.slice p1 k q1) (.slice p2 n2 q2) (.slice p3 n3 q3) wr/\∃ (j:Nat) (s:Wk) (us:List Value),j<=n3/\iv=.int .i64 (j:Int)/\Hid (SK (w.heap.size+1) k wr sv ov s us)/\Hid (Eu k s)/\Hid (EH s)/\Hid (LJ c s j (c.list.drop j)=(RA,RB))) (fun _ _ iv _=>n3-(intOf iv).toNat)
    case atStart=>exact⟨HCX.out,0,⟨[],[]⟩,[],gI _,rfl,HSK0.out,Eu.start k,EH.start,by show _=_;rw[List.drop_zero];exact HGO0.out⟩
    case round=>
     obtain⟨hcx,j,s,us,hj,rfl,hsk,hok,hpo,hgo⟩:=hrel;obtain⟨po,qo,rfl⟩:=AD hsk.opn;obtain⟨ps,qs,rfl⟩:=AD hsk.set;have HCX:Hid (CX w (.slice p0 n0 q0) (.slice p1 k q1) (.slice p2 n2 q2) (.slice p3 n3 q3) wr):=hcx;obtain⟨b1,b2,f0,f1,f2,f3⟩:=hcx;have hnest:=hok.nest;clear HSK0;by_cases hlt:j<n3
     .have hll:j<c.list.length:=by rw[HN3.out];exact hlt
      obtain⟨b,o,rfl,hx⟩:=HLIST.at hll;have hgo':=hgo.out;rw[List.drop_eq_getElem_cons hll]at hgo';have hgi:LJ c s j (c.list[j]::c.list.drop (j+1))=if Am c s c.list[j]then LJ c (Ad s c.list[j]) (j+1) (c.list.drop (j+1))else(160,(j:Int)):=rfl;rw[hgi]at hgo';have hib:=HCO.ibits c.list[j] (gD hll);have hos:Am c s c.list[j]=true->Eu k (Ad s c.list[j])/\EH (Ad s c.list[j]):=fun ht=>by
       have hq:Eu c.regs.length s:=by rw[HN1.out];exact hok.out
       have h5:=Eu.step hq ht;rw[HN1.out]at h5;exact⟨h5,hpo.step ht⟩
      have htk:Am c s c.list[j]=true->AN c c.list[j] (A3 c.list[j].op)=true/\Al c s c.list[j] (A3 c.list[j].op)=true:=fun ht=>by
       obtain⟨-,h5,h6,-⟩:=Ar ht;exact⟨h5,h6⟩
      obtain⟨⟨op,D,A,Q,E,nn,bt⟩,hxx⟩:∃x:Aa,c.list[j]=x:=⟨_,rfl⟩
      rw[hxx]at hx hgo' hos htk hib;have KS:=P4 _ _ _ _ c HCO.out HT.out (⟨op,D,A,Q,E,nn,bt⟩:Aa) hib.1 hib.2 (w.heap.size+1) s (.slice ps k qs) (.slice po s.opens.length qo) us (by rw[HN1.out];exact h1) (by rw[HN1.out];exact hok.out) hpo.out (wr.alloc (.cells #[.int .i64 op,.int .i64 D,.int .i64 A,.int .i64 Q,.int .i64 E,.int .i64 nn,.int .u32 bt] 45)) ((HCV.below b1).below (A0 _ _)) (by rw[HN1.out];exact hsk.below (A0 _ _));have x0:=kc b1 (hx.at 0 rfl);have x1:=kc b1 (hx.at 1 rfl);have x2:=kc b1 (hx.at 2 rfl);have x3:=kc b1 (hx.at 3 rfl);have x4:=kc b1 (hx.at 4 rfl);have x5:=kc b1 (hx.at 5 rfl);have x6:=kc b1 (hx.at 6 rfl);rw[Nat.add_zero]at x0;obtain⟨-,-,f0',f1',f2',f3'⟩:=HCX.next (A0 wr (.cells #[.int .i64 op,.int .i64 D,.int .i64 A,.int .i64 Q,.int .i64 E,.int .i64 nn,.int .u32 bt] 45));have HIX:Hid (∀v,Below (wr.alloc (.cells #[.int .i64 op,.int .i64 D,.int .i64 A,.int .i64 Q,.int .i64 E,.int .i64 nn,.int .u32 bt] 45)).heap.size (wr.alloc (.cells #[.int .i64 op,.int .i64 D,.int .i64 A,.int .i64 Q,.int .i64 E,.int .i64 nn,.int .u32 bt] 45)) v->v.cell? ⟨wr.heap.size,0,none⟩=some (.int .i64 op)/\v.cell? ⟨wr.heap.size,1,none⟩=some (.int .i64 D)/\v.cell? ⟨wr.heap.size,2,none⟩=some (.int .i64 A)/\v.cell? ⟨wr.heap.size,3,none⟩=some (.int .i64 Q)/\v.cell? ⟨wr.heap.size,4,none⟩=some (.int .i64 E)/\v.cell? ⟨wr.heap.size,5,none⟩=some (.int .i64 nn)/\v.cell? ⟨wr.heap.size,6,none⟩=some (.int .u32 bt)):=fun v hb=>⟨kc hb sG,kc hb sG,kc hb sG,kc hb sG,kc hb sG,kc hb sG,kc hb sG⟩
      obtain⟨T,hT⟩:=gA (Am c s (⟨op,D,A,Q,E,nn,bt⟩:Aa))
      rw[hT]at hgo' hos htk KS;have HST:Hid (Calls prog 48 #[.agg #[.slice p0 n0 q0,.slice p1 k q1,.slice p2 n2 q2,.slice (some ⟨b,o,none⟩) n3 q3],.agg #[.int .i64 op,.int .i64 D,.int .i64 A,.int .i64 Q,.int .i64 E,.int .i64 nn,.int .u32 bt],.slice ps k qs,.slice po s.opens.length qo] (wr.alloc (.cells #[.int .i64 op,.int .i64 D,.int .i64 A,.int .i64 Q,.int .i64 E,.int .i64 nn,.int .u32 bt] 45)) fun e w'=>e=.returned (.bool T)/\Below (wr.alloc (.cells #[.int .i64 op,.int .i64 D,.int .i64 A,.int .i64 Q,.int .i64 E,.int .i64 nn,.int .u32 bt] 45)).heap.size (wr.alloc (.cells #[.int .i64 op,.int .i64 D,.int .i64 A,.int .i64 Q,.int .i64 E,.int .i64 nn,.int .u32 bt] 45)) w'):=KS;have HGO:Hid ((if T=true then LJ c (Ad s (⟨op,D,A,Q,E,nn,bt⟩:Aa)) (j+1) (c.list.drop (j+1))else(160,(j:Int)))=(RA,RB)):=hgo';have HOS:Hid (T=true->Eu k (Ad s (⟨op,D,A,Q,E,nn,bt⟩:Aa))/\EH (Ad s (⟨op,D,A,Q,E,nn,bt⟩:Aa))):=hos;have HTK:Hid (T=true->AN c (⟨op,D,A,Q,E,nn,bt⟩:Aa) (A3 op)=true/\Al c s (⟨op,D,A,Q,E,nn,bt⟩:Aa) (A3 op)=true):=htk;have k1:(0:Int)<=(j:Int):=oM;have k2:(j:Int)<(n3:Int):=oM;have wj:IntKind.i64.wrap ((j:Int)+1)=((j+1:Nat):Int):=by rw[IntKind.wrap_i64];omega
      clear KS hgo hgo' hgi hos htk hT hx hxx hib hll;cases T
      .have HQ:Hid ((160,(j:Int))=(RA,RB)):=by show _=_;have:=HGO.out;rw[if_neg dE]at this;exact this
       go_wp2_with(go_at_call 48;(with_reducible refine HST.out.mono ?_);rintro e w5 ⟨rfl,hb5⟩;have HB5:Hid (Below (wr.alloc (.cells #[.int .i64 op,.int .i64 D,.int .i64 A,.int .i64 Q,.int .i64 E,.int .i64 nn,.int .u32 bt] 45)).heap.size (wr.alloc (.cells #[.int .i64 op,.int .i64 D,.int .i64 A,.int .i64 Q,.int .i64 E,.int .i64 nn,.int .u32 bt] 45)) w5):=hb5;clear hb5 f0 f1 f2 f3;obtain⟨-,-,f0,f1,f2,f3⟩:=(HCX.out.next (A0 _ _)).next HB5.out;obtain⟨i0,i1,i2,i3,i4,i5,i6⟩:=HIX.out w5 HB5.out)
       go_ret2
       exact⟨It HQ.out,bel (bel HCX.bel (A0 _ _)) HB5.out⟩
      .have HO1:Hid (Eu k (Ad s (⟨op,D,A,Q,E,nn,bt⟩:Aa))/\EH (Ad s (⟨op,D,A,Q,E,nn,bt⟩:Aa))):=HOS.out rfl;have HG1:Hid (LJ c (Ad s (⟨op,D,A,Q,E,nn,bt⟩:Aa)) (j+1) (c.list.drop (j+1))=(RA,RB)):=by show _=_;have:=HGO.out;rw[if_pos rfl]at this;exact this
       have HTK1:Hid (AN c (⟨op,D,A,Q,E,nn,bt⟩:Aa) (A3 op)=true/\Al c s (⟨op,D,A,Q,E,nn,bt⟩:Aa) (A3 op)=true):=HTK.out rfl;have HOB:Hid (∀g,(Value.slice po s.opens.length qo).ownBlock=some g->g<wr.heap.size):=fun g e=>(hsk.opn.lt g e).2;clear HGO HOS HTK;by_cases hop:op=34\/op=36
       .have hn64:s.opens.length<64:=Hx (i:=(⟨op,D,A,Q,E,nn,bt⟩:Aa)) HTK1.2 hop;have HOP:Hid (op=34\/op=36):=hop;have HCP:Hid (∀v,Below wr.heap.size wr v->Calls prog 49 #[.slice ps k qs] v fun e w'=>∃u,e=.returned u/\w'.ownsRow v.heap.size 4 1 u k (DP k s.set)/\Below v.heap.size v w'):=fun v hb=>Jp _ h1 v (As hsk.set hb);have hq:((op==34)=true)\/((op==34)=false/\(op==36)=true):=by
         rcases hop with e|e
         .exact .inl (by simpa using e)
         .exact .inr ⟨by rw[e];decide,by simpa using e⟩
        clear hop;rcases hq with r1|⟨r1,r2⟩
        all_goals
         go_wp2_with(go_at_call 48;(with_reducible refine HST.out.mono ?_);rintro e w5 ⟨rfl,hb5⟩;have HB5:Hid (Below (wr.alloc (.cells #[.int .i64 op,.int .i64 D,.int .i64 A,.int .i64 Q,.int .i64 E,.int .i64 nn,.int .u32 bt] 45)).heap.size (wr.alloc (.cells #[.int .i64 op,.int .i64 D,.int .i64 A,.int .i64 Q,.int .i64 E,.int .i64 nn,.int .u32 bt] 45)) w5):=hb5;have HBR:Hid (Below wr.heap.size wr w5):=bel (A0 _ _) hb5;clear hb5 f0 f1 f2 f3;obtain⟨-,-,f0,f1,f2,f3⟩:=(HCX.out.next (A0 _ _)).next HB5.out;obtain⟨i0,i1,i2,i3,i4,i5,i6⟩:=HIX.out w5 HB5.out);refine rG (fun v=>v.cell? ⟨wr.heap.size,0,none⟩=some (.int .i64 op)/\v.cell? ⟨wr.heap.size,5,none⟩=some (.int .i64 nn)) fun yH=>?_;refine Tf 0 1 2 3 4 5 ?_;clear yH;refine AJ 6 fun K hK=>?_;go_simp;(go_at_call 49;(with_reducible refine(HCP.out _ (bel HBR.out (A7 _))).mono ?_);rintro e w6 ⟨u,rfl,hu,hb6⟩;obtain⟨pu,qu,rfl⟩:=AD hu;have hb66:Below w5.heap.size w5 w6:=bel (A7 _) hb6;obtain⟨g',c',w7,hrun,hb7,hsk7,hoth⟩:=SK.push (i:=(⟨op,D,A,Q,E,nn,bt⟩:Aa)) (hsk.out.below HBR.out) hb66 hu HOP.out hn64 103;dsimp only at hrun;have HRUN:Hid _:=hrun;have HX7:Hid (CX w (.slice p0 n0 q0) (.slice p1 k q1) (.slice p2 n2 q2) (.slice (some ⟨b,o,none⟩) n3 q3) w7):=((HCX.out.next (A0 _ _)).next HB5.out).on hb7;have HS7:Hid (SK (w.heap.size+1) k w7 (.slice ps k qs) (.slice (some ⟨g',0,none⟩) (s.opens.length+1) c') (Ad s (⟨op,D,A,Q,E,nn,bt⟩:Aa)) (us++[.slice pu k qu])):=hsk7;have j0:=kc hb66 i0;have j5:=kc hb66 i5;have hwl:wr.heap.size<w6.heap.size:=A6 j0;have hne:(Value.slice po s.opens.length qo).ownBlock≠some wr.heap.size:=(fun e=>Nat.lt_irrefl _ (HOB.out _ e));have m0:w7.cell? ⟨wr.heap.size,0,none⟩=some (.int .i64 op):=(gC (hoth _ hwl hne)).trans j0;have m5:w7.cell? ⟨wr.heap.size,5,none⟩=some (.int .i64 nn):=(gC (hoth _ hwl hne)).trans j5;have a0:∀x,(w6.alloc x).cell? ⟨wr.heap.size,0,none⟩=some (.int .i64 op):=(fun x=>kc (A0 _ _) j0);have a5:∀x,(w6.alloc x).cell? ⟨wr.heap.size,5,none⟩=some (.int .i64 nn):=(fun x=>kc (A0 _ _) j5);clear hu hb6 hb66 hrun hb7 hsk7 hoth hne i0 i5);try(go_wp2_with fail)
         refine AF hK fun yH=>?_;clear hK K;refine BU 7 ?_;clear yH;refine AJ 8 fun K hK=>?_;go_simp;refine AF hK fun yH=>?_;clear hK K;clear yH;refine AJ 9 fun K hK=>?_;refine CV _ _ _ rF _ _ _ rF rF HRUN.out ?_ _ rF;refine AF hK fun yH=>?_;clear hK K;refine BU 10 ?_;refine wpAnyH_done kR ?_ _;go_wp2;go_roundw
         case rel=>exact⟨HX7.out,j+1,Ad s (⟨op,D,A,Q,E,nn,bt⟩:Aa),us++[Value.slice pu k qu],oM,gN,HS7,HO1.1,HO1.2,HG1.out⟩
         case measure=>simp[intOf];omega
       have q34:(op==34)=false:=by have:op≠34:=fun e=>hop (.inl e);simpa using this
       have q36:(op==36)=false:=by have:op≠36:=fun e=>hop (.inr e);simpa using this
       have HNO:Hid (op≠34/\op≠36):=⟨fun e=>hop (.inl e),fun e=>hop (.inr e)⟩
       clear hop;by_cases h35:op=35
       .have hmay:=HTK1.2;unfold Al at hmay;rw[if_neg (fun e=>e.elim HNO.1 HNO.2),if_pos h35]at hmay;simp only[Bool.and_eq_true,Bool.not_eq_true']at hmay;have hn0:0<s.opens.length:=by
         rcases Nat.eq_zero_or_pos s.opens.length with e|e
         .have:=List.length_eq_zero_iff.1 e;rw[this]at hmay;exact absurd hmay.1 dE
         .exact e
        have HLP:Hid (Ao s=false):=hmay.2;obtain⟨g,cap,eo,-⟩:=hsk.opn.form hn0;simp only[Value.slice.injEq]at eo;obtain⟨rfl,-,-⟩:=eo;obtain⟨X,u,hX,hu,-,-,z2⟩:=hsk.last hn0;obtain⟨pu,qu,rfl⟩:=AD hu;have HXO:Hid ((LO s)[s.opens.length-1]? =some ⟨if Ao s then 36 else 34,BN s,X⟩):=hX;have HCP:Hid (∀v,Below wr.heap.size wr v->Calls prog 49 #[.slice pu k qu] v fun e w'=>∃u,e=.returned u/\w'.ownsRow v.heap.size 4 1 u k (DP k X)/\Below v.heap.size v w'):=fun v hb=>Jp _ h1 v (As hu hb);have s1:=fun w=>FD und_O XL (some ⟨g,0,none⟩) s.opens.length qo (s.opens.length-1) (by have:=NC hsk.opn;omega) w;have HN0':Hid (0<s.opens.length):=hn0;obtain⟨N,hN⟩:=gA (s.opens.length)
        obtain⟨m,hm⟩:=gA (N-1)
        have HNN:Hid (s.opens.length=N):=hN;have HMM:Hid (N-1=m):=hm;rw[hN]at z2 s1 hn0 hnest;rw[hm]at z2 s1;rw[hN]at HST;rw[hN];have hw:IntKind.i64.wrap ((N:Int)-1)=(m:Int):=by rw[IntKind.wrap_i64];omega
        have r1:(0:Int)<=(m:Int):=oM;have r2:(m:Int)<(N:Int):=oM;have q35:(op==35)=true:=by simpa using h35
        have HOP:Hid (op=35\/op=37):=.inl h35;clear hmay hX hu h35 hN hm;go_wp2_with(first
         |(go_at_call 48;(with_reducible refine HST.out.mono ?_);rintro e w5 ⟨rfl,hb5⟩;have HB5:Hid (Below (wr.alloc (.cells #[.int .i64 op,.int .i64 D,.int .i64 A,.int .i64 Q,.int .i64 E,.int .i64 nn,.int .u32 bt] 45)).heap.size (wr.alloc (.cells #[.int .i64 op,.int .i64 D,.int .i64 A,.int .i64 Q,.int .i64 E,.int .i64 nn,.int .u32 bt] 45)) w5):=hb5;have HBR:Hid (Below wr.heap.size wr w5):=bel (A0 _ _) hb5;clear hb5 f0 f1 f2 f3;obtain⟨-,-,f0,f1,f2,f3⟩:=(HCX.out.next (A0 _ _)).next HB5.out;have z5:=kc HBR.out z2;obtain⟨i0,i1,i2,i3,i4,i5,i6⟩:=HIX.out w5 HB5.out)
         |(go_at_call 49;(with_reducible refine(HCP.out _ HBR.out).mono ?_);rintro e w6 ⟨u,rfl,hu,hb6⟩;have HU6:Hid (w6.ownsRow w5.heap.size 4 1 u k (DP k X)):=hu;have HB6:Hid (Below w5.heap.size w5 w6):=hb6;clear hu hb6))
        go_roundw
        case rel=>
         refine⟨((HCX.next (A0 _ _)).next HB5.out).next HB6.out,j+1,Ad s (⟨op,D,A,Q,E,nn,bt⟩:Aa),us.take (s.opens.length-1),oM,gN,?_,HO1.1,HO1.2,HG1.out⟩;have e1:Ad s (⟨op,D,A,Q,E,nn,bt⟩:Aa)=AI s:=NR HOP.out;have h9:=SK.back (hsk.below HBR.out) hok.out HN0'.out HLP.out HB6.out HXO.out HU6.out;rw[e1,<-HMM.out,<-HNN.out];exact h9
        case measure=>simp[intOf];omega
       have q35:(op==35)=false:=by simpa using h35
       by_cases h37:op=37
       .have hmay:=HTK1.2;unfold Al at hmay;rw[if_neg (fun e=>e.elim HNO.1 HNO.2),if_neg h35,if_pos h37]at hmay;have hn0:0<s.opens.length:=by
         rcases Nat.eq_zero_or_pos s.opens.length with e|e
         .have:=List.length_eq_zero_iff.1 e;unfold Ao at hmay;rw[this]at hmay;exact absurd hmay dE
         .exact e
        have HLP:Hid (Ao s=true):=hmay;have s1:=fun w=>FD und_O XL po s.opens.length qo (s.opens.length-1) (by have:=NC hsk.opn;omega) w;have HN0':Hid (0<s.opens.length):=hn0;obtain⟨N,hN⟩:=gA (s.opens.length)
        obtain⟨m,hm⟩:=gA (N-1)
        have HNN:Hid (s.opens.length=N):=hN;have HMM:Hid (N-1=m):=hm;rw[hN]at s1 hn0 hnest;rw[hm]at s1;rw[hN]at HST;rw[hN];have hw:IntKind.i64.wrap ((N:Int)-1)=(m:Int):=by rw[IntKind.wrap_i64];omega
        have r1:(0:Int)<=(m:Int):=oM;have r2:(m:Int)<(N:Int):=oM;have q37:(op==37)=true:=by simpa using h37
        have HOP:Hid (op=35\/op=37):=.inr h37;clear hmay h35 h37 hN hm;go_wp2_with(go_at_call 48;(with_reducible refine HST.out.mono ?_);rintro e w5 ⟨rfl,hb5⟩;have HB5:Hid (Below (wr.alloc (.cells #[.int .i64 op,.int .i64 D,.int .i64 A,.int .i64 Q,.int .i64 E,.int .i64 nn,.int .u32 bt] 45)).heap.size (wr.alloc (.cells #[.int .i64 op,.int .i64 D,.int .i64 A,.int .i64 Q,.int .i64 E,.int .i64 nn,.int .u32 bt] 45)) w5):=hb5;have HBR:Hid (Below wr.heap.size wr w5):=bel (A0 _ _) hb5;clear hb5 f0 f1 f2 f3;obtain⟨-,-,f0,f1,f2,f3⟩:=(HCX.out.next (A0 _ _)).next HB5.out;obtain⟨i0,i1,i2,i3,i4,i5,i6⟩:=HIX.out w5 HB5.out);go_roundw
        case rel=>
         refine⟨(HCX.next (A0 _ _)).next HB5.out,j+1,Ad s (⟨op,D,A,Q,E,nn,bt⟩:Aa),us.take (s.opens.length-1),oM,gN,?_,HO1.1,HO1.2,HG1.out⟩;have e1:Ad s (⟨op,D,A,Q,E,nn,bt⟩:Aa)=AI s:=NR HOP.out;have h9:=SK.pop (hsk.below HBR.out) hok.out HN0'.out HLP.out;rw[e1,<-HMM.out,<-HNN.out];exact h9
        case measure=>simp[intOf];omega
       have q37:(op==37)=false:=by simpa using h37
       have HNP:Hid (op≠34/\op≠35/\op≠36/\op≠37):=⟨HNO.1,h35,HNO.2,h37⟩
       have KE:=Uc (⟨op,D,A,Q,E,nn,bt⟩:Aa);unfold XH at KE;simp only at KE;have hdr:(A3 op).d≠0->0<=D/\D<(k:Int):=fun hd=>by
        have:=Af (Dh HTK1.1) hd;rw[HN1.out]at this;exact this
       clear h35 h37;by_cases hsd:(A3 op).d=0
       .have e9:((A3 op).d != 0)=false:=by simp[hsd]
        rw[e9]at KE;have HKE:Hid (∀v,Calls prog 37 #[.agg #[.int .i64 op,.int .i64 D,.int .i64 A,.int .i64 Q,.int .i64 E,.int .i64 nn,.int .u32 bt]] v fun e w'=>e=.returned (.bool false)/\Below v.heap.size v w'):=KE;have HSD:Hid ((A3 op).d=0):=hsd;clear KE e9 hdr hsd;go_wp2_with(first
         |(go_at_call 48;(with_reducible refine HST.out.mono ?_);rintro e w5 ⟨rfl,hb5⟩;have HB5:Hid (Below (wr.alloc (.cells #[.int .i64 op,.int .i64 D,.int .i64 A,.int .i64 Q,.int .i64 E,.int .i64 nn,.int .u32 bt] 45)).heap.size (wr.alloc (.cells #[.int .i64 op,.int .i64 D,.int .i64 A,.int .i64 Q,.int .i64 E,.int .i64 nn,.int .u32 bt] 45)) w5):=hb5;have HBR:Hid (Below wr.heap.size wr w5):=bel (A0 _ _) hb5;clear hb5 f0 f1 f2 f3;obtain⟨-,-,f0,f1,f2,f3⟩:=(HCX.out.next (A0 _ _)).next HB5.out;obtain⟨i0,i1,i2,i3,i4,i5,i6⟩:=HIX.out w5 HB5.out)
         |(go_at_call 37;(with_reducible refine(HKE.out _).mono ?_);rintro e w6 ⟨rfl,hb6⟩;have HB6:Hid (Below w5.heap.size w5 w6):=hb6;clear hb6))
        go_roundw
        case rel=>exact⟨((HCX.next (A0 _ _)).next HB5.out).next HB6.out,j+1,Ad s (⟨op,D,A,Q,E,nn,bt⟩:Aa),us,oM,gN,SK.keep ((hsk.below HBR.out).below HB6.out) hok.out HNP.1 HNP.2.1 HNP.2.2.1 HNP.2.2.2 HSD.out,HO1.1,HO1.2,HG1.out⟩
        case measure=>simp[intOf];omega
       .have e9:((A3 op).d != 0)=true:=by simp[hsd]
        rw[e9]at KE;have HKE:Hid (∀v,Calls prog 37 #[.agg #[.int .i64 op,.int .i64 D,.int .i64 A,.int .i64 Q,.int .i64 E,.int .i64 nn,.int .u32 bt]] v fun e w'=>e=.returned (.bool true)/\Below v.heap.size v w'):=KE;have HSD:Hid ((A3 op).d≠0):=hsd;obtain⟨d,rfl⟩:∃d:Nat,D=(d:Int):=⟨D.toNat,by have:=hdr hsd;omega⟩
        have hd2:=(hdr hsd).2;obtain⟨gs,cap,eo,hgs,-⟩:=hsk.set.form oM;simp only[Value.slice.injEq]at eo;obtain⟨rfl,-,-⟩:=eo;have d0:(0:Int)<=(d:Int):=oM;have HG9:Hid (w.heap.size+1<=gs):=(hsk.set.lt gs rfl).1;have HCE:Hid (∀v,Below wr.heap.size wr v->v.cell? ⟨gs,d,none⟩=some (.bool (decide (d∈s.set)))/\v.frozen? ⟨gs,d,none⟩=false):=fun v hb=>by
         have h9:=As hsk.set hb;exact⟨by rw[h9.cellAt d oM,Iw oM],h9.frozenAt d⟩
        clear KE e9 hdr hsd;go_wp2_with(first
         |(go_at_call 48;(with_reducible refine HST.out.mono ?_);rintro e w5 ⟨rfl,hb5⟩;have HB5:Hid (Below (wr.alloc (.cells #[.int .i64 op,.int .i64 (d:Int),.int .i64 A,.int .i64 Q,.int .i64 E,.int .i64 nn,.int .u32 bt] 45)).heap.size (wr.alloc (.cells #[.int .i64 op,.int .i64 (d:Int),.int .i64 A,.int .i64 Q,.int .i64 E,.int .i64 nn,.int .u32 bt] 45)) w5):=hb5;have HBR:Hid (Below wr.heap.size wr w5):=bel (A0 _ _) hb5;clear hb5 f0 f1 f2 f3;obtain⟨-,-,f0,f1,f2,f3⟩:=(HCX.out.next (A0 _ _)).next HB5.out;obtain⟨i0,i1,i2,i3,i4,i5,i6⟩:=HIX.out w5 HB5.out)
         |(go_at_call 37;(with_reducible refine(HKE.out _).mono ?_);rintro e w6 ⟨rfl,hb6⟩;have HB6:Hid (Below w5.heap.size w5 w6):=hb6;obtain⟨y8,y9⟩:=HCE.out w6 (bel HBR.out hb6);have i1:=kc hb6 i1;clear hb6))
        go_roundw
        case rel=>exact⟨(((HCX.next (A0 _ _)).next HB5.out).next HB6.out).on ((Below.refl _ _).setCell HG9.out _),j+1,Ad s ⟨op,(d:Int),A,Q,E,nn,bt⟩,us,oM,gN,SK.ins (i:=⟨op,(d:Int),A,Q,E,nn,bt⟩) ((hsk.below HBR.out).below HB6.out) hok.out HNP.1 HNP.2.1 HNP.2.2.1 HNP.2.2.2 HSD.out (by have:=hd2;show d<k;omega),HO1.1,HO1.2,HG1.out⟩
        case measure=>simp[intOf];omega
     .have hjn3:j=n3:=oM;have hgo':=hgo.out;rw[List.drop_of_length_le (by rw[HN3.out,hjn3];exact gF _)]at hgo';have hgi:LJ c s j []=if s.opens.isEmpty then(0,0)else(160,(j:Int)):=rfl;rw[hgi]at hgo';obtain⟨N,hN⟩:=gA (s.opens.length)
      have hE:s.opens.isEmpty=decide (N=0):=by
       rw[<-hN];cases s.opens with
       |nil=>rfl
       |cons a l=>simp
      rw[hE]at hgo';have HGO:Hid ((if decide (N=0)=true then((0:Int),(0:Int))else(160,(j:Int)))=(RA,RB)):=hgo';rw[hN]at hnest;rw[hN];have e1:¬ (j:Int)<(n3:Int):=oM;clear hgo hgo' hgi hE hN hlt;by_cases hz:N=0
      .have HQ:Hid ((0,0)=(RA,RB)):=by show _=_;have:=HGO.out;rw[if_pos (by simpa using hz)]at this;exact this
       subst hz;go_wp2
       go_ret2
       exact⟨It HQ.out,HCX.bel⟩
      .have HQ:Hid ((160,(j:Int))=(RA,RB)):=by show _=_;have:=HGO.out;rw[if_neg (by simpa using hz)]at this;exact this
       have hz':(0:Int)<(N:Int):=oM;have HJ:Hid ((j:Int)=(n3:Int)):=by show _=_;omega
       clear hz;go_wp2;refine rG (fun v=>v.cell? ⟨w.heap.size,3,none⟩=some (.slice p3 n3 q3)) fun yH=>?_;refine Tc 0 1 2 ?_;refine Tb 3 4 ?_;refine wpAnyH_done kR ?_ _;go_wp2
       go_ret2
       refine⟨It ?_,Ds HCX.bel⟩;rw[<-HJ.out];exact HQ.out
theorem Io(v0 v1 v2 v3:Value)(c:Cd)(hk:Bb c)(w:World)(hv:Dk w v0 v1 v2 v3 c):
 Calls prog 31 #[.agg #[v0,v1,v2,v3]] w fun e w'=>e=.returned (.tuple #[.int .i64 (At c).1,.int .i64 (At c).2])/\Below w.heap.size w w':=by
 by_cases h0:Bo c.sign=0
 .by_cases h1:16384<c.regs.length\/32768<c.list.length
  .have e:At c=(181,-1):=by unfold At Ct;simp[h0,h1]
   rw[e];exact FU v0 v1 v2 v3 c hk w hv 181 (.inr (.inl ⟨h0,h1,rfl⟩))
  .by_cases h2:4096<c.slots.length
   .have e:At c=(180,-1):=by unfold At Ct;simp[h0,h1,h2]
    rw[e];exact FU v0 v1 v2 v3 c hk w hv 180 (.inr (.inr ⟨h0,fun e=>h1 (.inl e),fun e=>h1 (.inr e),h2,rfl⟩))
   .refine OT v0 v1 v2 v3 c hk w hv h0 oM oM oM _ _ ?_;have hA:Ct c=if(Aj c&&Cn c)=true then 0 else 160:=by
     unfold Ct;rw[if_neg (fun e=>e h0),if_neg h1,if_neg h2]
    unfold At;rw[hA];by_cases h3:(Aj c&&Cn c)=true
    .rw[if_pos h3,if_pos h3,if_neg dE]
    .rw[if_neg h3,if_neg h3,if_pos dE]
 .have e:At c=(Bo c.sign,-1):=by unfold At Ct;simp[h0]
  rw[e];exact FU v0 v1 v2 v3 c hk w hv _ (.inl ⟨h0,rfl⟩)
def Cs(w:World)(p:Option Addr)(l:List Int):Prop:=Bh w p l.length (fun j=>.int .i64 (Cy l j))
theorem Cs.below{w w':World}{p:Option Addr}{l:List Int}(h:Cs w p l)(k:Below w.heap.size w w'):Cs w' p l:=Bh.below h k
structure Cl where
 p:Option Addr
 q:Nat
 h:Hd
def T8(x:Cl):List Value:=[.slice x.p x.h.pats.length x.q,.int .i64 x.h.whole]
def UR(x:Cl):List Value:=[.slice x.p x.h.pats.length x.q]
theorem Ia(x:Cl):(T8 x).length=2:=rfl
theorem JR(x:Cl):(UR x).length=1:=rfl
theorem Rv:∀x:Cl,∀u∈T8 x,u.oneCell'=true:=fun x u hu=>by simp[T8]at hu;rcases hu with rfl|rfl<;>rfl
theorem Zx:∀x:Cl,∀u∈UR x,u.oneCell'=true:=fun x u hu=>by simp[UR]at hu;subst hu;rfl
structure UT(w:World)(v:Value)(X:List Cl):Prop where
 row:AZ 2 T8 w v X
 nums:∀x∈X,Cs w x.p x.h.pats
theorem UT.below{w w':World}{v:Value}{X:List Cl}(h:UT w v X)(k:Below w.heap.size w w'):UT w' v X:=⟨h.row.below k,fun x hx=>(h.nums x hx).below k⟩
structure OuV(w:World)(v:Value)(X:List Cl):Prop where
 row:AZ 1 UR w v X
 nums:∀x∈X,Cs w x.p x.h.pats
theorem IQ:(prog.info? 109).map (fun i=>(i.zero,i.size,i.bytes))=some (some (.agg #[.slice none 0 0,.int .i64 0]),2,32):=kR
theorem Mf:(prog.info? 87).map (fun i=>(i.zero,i.size,i.bytes))=some (some (.slice none 0 0),1,24):=kR
theorem Kq{c:Cd}(hg:By c){k:Nat}(h:k<c.sign.length):(lenOf c (k:Int):Int)=c.sign[k].len:=by
 unfold lenOf;rw[Int.toNat_natCast,gB h];have:=(hg.len _ (gD h)).1;simp;omega
theorem FS(v0 v1 v2 v3:Value)(c:Cd)(hg:By c)(t:Ty)(ht:t.kind=3->Az t.par c.sign.length=true)(w:World)(hv:Dk w v0 v1 v2 v3 c):
 Calls prog 74 #[.agg #[v0,v1,v2,v3],Fk t] w fun e w'=>e=.returned (.int .i64 (if t.kind=3 then(lenOf c t.par:Int)else 1))/\Below w.heap.size w w':=by
 obtain⟨K,P⟩:=t;unfold Fk;simp only at ht |-;by_cases h3:K=3
 .subst h3;obtain⟨k,rfl,hkl⟩:=E4 (ht rfl);rw[if_pos rfl,Kq hg hkl];have hr:=hv.sign;obtain⟨p,q,rfl,hrr⟩:=hv.sign;obtain⟨lb,lo,rfl,hc⟩:=hr.at hkl;obtain⟨⟨nm,K,L⟩,hT⟩:∃t:Cx,c.sign[k]=t:=⟨_,rfl⟩
  rw[hT]at hc |-;have hlen:=hg.signL;have y2:w.cell? ⟨lb,lo+k*3+2,none⟩=some (.int .i64 L):=hc.at 2 rfl;have g2:∀o o',((w.alloc o).alloc o').cell? ⟨lb,lo+k*3+2,none⟩=some (.int .i64 L):=fun o o'=>kc (bel (A0 _ _) (A0 _ _)) y2;obtain⟨N,hN⟩:=gA (c.sign.length)
  rw[hN]at hkl hlen |-;clear hr hrr hc hT hv hN ht;simp only;go_enter func74,ntmps74;go_wp2;go_ret;exact V5
 .rw[if_neg h3];have h3':(K==3)=false:=by simpa using h3
  clear h3 ht;go_enter func74,ntmps74;go_wp2;go_ret;exact V5
theorem Jq(b:Bool)(w:World):Calls prog 101 #[.bool b] w fun e w'=>e=.returned (.int .i64 (C7 b))/\w'=w:=by
 cases b
 all_goals
  go_enter func101,ntmps101;go_wp2;go_ret;exact⟨rfl,rfl⟩
def F7(V:List Int)(k n len:Nat):List Int:=(List.range len).map fun e=>Ae (Cy V (k*e+n))
theorem Mv(V:List Int)(k n len:Nat):(F7 V k n len).length=len:=by simp[F7]
theorem KQ(V:List Int)(k n j:Nat):F7 V k n (j+1)=F7 V k n j++[Ae (Cy V (k*j+n))]:=by simp[F7,List.range_succ]
theorem ZA{w:World}{B:Nat}{p:Option Addr}{q:Nat}{l:List Int}(h:w.ownsRow B 3 1 (.slice p l.length q) l.length (BM l)):Cs w p l:=by
 by_cases h0:l.length=0
 .exact .inl h0
 .obtain⟨g,cap,e,_⟩:=h.form oM;simp only[Value.slice.injEq]at e;obtain⟨rfl,-,-⟩:=e;refine .inr ⟨g,0,rfl,fun j hj=>?_⟩;rw[Nat.zero_add,h.cellAt j oM];simp[BM,Cy,hj]
theorem F6{w:World}{B:Nat}{e:TypeId}{k:Nat}{p:Option Addr}{n m q:Nat}{xs:List Value}(h:w.ownsRow B e k (.slice p n q) m xs):∀b o s,p=some ⟨b,o,s⟩->B<=b:=by
 intro b o s e;subst e;rcases h.2 with⟨e1,-⟩|⟨g,cap,cur,e1,hb,-⟩
 .simp at e1
 .simp only[Value.slice.injEq,Option.some.injEq,Addr.mk.injEq]at e1;omega
theorem OZ(nm:ByteArray)(K:Int)(len:Nat)(hlen:len<=4096)(k:Nat)(hk:k=if K=2 then 2 else 1)(V:List Int)(hV:∀y∈V,AB y)(p:Option Addr)(q n:Nat)(hn:n<k)(hm:k*len<=V.length)(hVL:V.length<=1048576)(w:World)(hr:Bh w p V.length (fun j=>.int .u32 (Cy V j))):
 Calls prog 105 #[.agg #[.string nm,.int .i64 K,.int .i64 (len:Int)],.slice p V.length q,.int .i64 (n:Int)] w fun e w'=>∃p' q',e=.returned (.slice p' len q')/\Cs w' p' (F7 V k n len)/\Below w.heap.size w w'/\∀b o s,p'=some ⟨b,o,s⟩->w.heap.size<=b:=by
 have HRD:Hid (Bh w p V.length (fun j=>.int .u32 (Cy V j))):=hr;have HV:Hid (∀j,AB (Cy V j)):=fun j=>Cw hV j;obtain⟨M,hM⟩:=gA (V.length)
 rw[hM]at HRD hVL hm |-;have hC:∀v,Below (w.alloc (.cells #[.string nm,.int .i64 K,.int .i64 (len:Int)] 53)).heap.size (w.alloc (.cells #[.string nm,.int .i64 K,.int .i64 (len:Int)] 53)) v->v.cell? ⟨w.heap.size,2,none⟩=some (.int .i64 (len:Int)):=fun v hb=>kc hb sG;have HC:Hid _:=hC;have hk2:((K==2)=true/\k=2)\/((K==2)=false/\k=1):=by
  by_cases h:K=2
  .exact .inl ⟨by simpa using h,by rw[hk,if_pos h]⟩
  .exact .inr ⟨by simpa using h,by rw[hk,if_neg h]⟩
 clear hV hr hM hk hC;rcases hk2 with⟨hKb,rfl⟩|⟨hKb,rfl⟩
 .go_enter func105,ntmps105;go_wp2
  go_loopw [8,9] (fun ov iv wr=>Below (w.alloc (.cells #[.string nm,.int .i64 K,.int .i64 (len:Int)] 53)).heap.size (w.alloc (.cells #[.string nm,.int .i64 K,.int .i64 (len:Int)] 53)) wr/\∃ (j:Nat) (pp:Option Addr) (qq:Nat),j<=len/\iv=.int .i64 (j:Int)/\ov=.slice pp j qq/\Hid (wr.ownsRow (w.alloc (.cells #[.string nm,.int .i64 K,.int .i64 (len:Int)] 53)).heap.size 3 1 (.slice pp j qq) j (BM (F7 V 2 n j)))) (fun _ iv _=>len-(intOf iv).toNat)
  case atStart=>exact⟨BT _,0,none,0,gI _,rfl,rfl,World.ownsRow_nil _ _ _ 1⟩
  case round=>
   obtain⟨hb,j,pp,qq,hj,rfl,rfl,how⟩:=hrel;have c2:=HC.out wr hb;have HB:Hid (Below (w.alloc (.cells #[.string nm,.int .i64 K,.int .i64 (len:Int)] 53)).heap.size (w.alloc (.cells #[.string nm,.int .i64 K,.int .i64 (len:Int)] 53)) wr):=hb;by_cases hlt:j<len
   .have hi:2*j+n<M:=oM;rcases HRD.out with h0|⟨b,o,rfl,hcell⟩
    .omega
    have hc:=hcell (2*j+n) hi;simp only at hc;have y:=kc (bel (A0 _ _) hb) hc;have hP:=HV.out (2*j+n);have KC:=FT (Cy V (2*j+n)) hP.1 hP.2;have KA:=fun x=>F5 (V:=wr) underlying87 Gs rfl dE how.out hb.size #[.int .i64 x] rfl Zgd mL oM 87;obtain⟨g,c',w8,hap,hb8,ho8,-⟩:=KA (Ae (Cy V (2*j+n)));have HNX:Hid (w8.ownsRow (w.alloc (.cells #[.string nm,.int .i64 K,.int .i64 (len:Int)] 53)).heap.size 3 1 (.slice (some ⟨g,0,none⟩) (j+1) c') (j+1) (BM (F7 V 2 n (j+1)))):=by
     show World.ownsRow _ _ _ _ _ _ _;rw[KQ,Dv];exact ho8
    have HB8:Hid (Below (w.alloc (.cells #[.string nm,.int .i64 K,.int .i64 (len:Int)] 53)).heap.size wr w8):=hb8;have HAP:Hid _:=hap;have HKC:Hid _:=KC;obtain⟨z,hz⟩:=gA (Cy V (2*j+n))
    rw[hz]at y hP HKC HAP;have t0:(j:Int)<(len:Int):=oM;have t1:IntKind.i64.wrap (2*(j:Int))=2*(j:Int):=by rw[IntKind.wrap_i64];omega
    have t2:IntKind.i64.wrap (2*(j:Int)+(n:Int))=((2*j+n:Nat):Int):=by rw[IntKind.wrap_i64];omega
    have t3:(0:Int)<=((2*j+n:Nat):Int):=oM;have t4:((2*j+n:Nat):Int)<(M:Int):=oM;have t5:IntKind.i64.wrap ((j:Int)+1)=((j+1:Nat):Int):=by rw[IntKind.wrap_i64];omega
    have t6:IntKind.i64.wrap z=z:=by rw[IntKind.wrap_i64];have:=hP.1;have:=hP.2;omega
    obtain⟨ix,hix⟩:=gA (2*j+n)
    exact Zcq
   have hjn:j=len:=oM;have e1:¬ (j:Int)<(len:Int):=oM;have HF:Hid (Cs wr pp (F7 V 2 n len)):=by
    exact Zdy
   exact Zcl
 .go_enter func105,ntmps105;go_wp2
  go_loopw [8,9] (fun ov iv wr=>Below (w.alloc (.cells #[.string nm,.int .i64 K,.int .i64 (len:Int)] 53)).heap.size (w.alloc (.cells #[.string nm,.int .i64 K,.int .i64 (len:Int)] 53)) wr/\∃ (j:Nat) (pp:Option Addr) (qq:Nat),j<=len/\iv=.int .i64 (j:Int)/\ov=.slice pp j qq/\Hid (wr.ownsRow (w.alloc (.cells #[.string nm,.int .i64 K,.int .i64 (len:Int)] 53)).heap.size 3 1 (.slice pp j qq) j (BM (F7 V 1 n j)))) (fun _ iv _=>len-(intOf iv).toNat)
  case atStart=>exact⟨BT _,0,none,0,gI _,rfl,rfl,World.ownsRow_nil _ _ _ 1⟩
  case round=>
   obtain⟨hb,j,pp,qq,hj,rfl,rfl,how⟩:=hrel;have c2:=HC.out wr hb;have HB:Hid (Below (w.alloc (.cells #[.string nm,.int .i64 K,.int .i64 (len:Int)] 53)).heap.size (w.alloc (.cells #[.string nm,.int .i64 K,.int .i64 (len:Int)] 53)) wr):=hb;by_cases hlt:j<len
   .have hi:j+n<M:=oM;rcases HRD.out with h0|⟨b,o,rfl,hcell⟩
    .omega
    have hc:=hcell (j+n) hi;simp only at hc;have y:=kc (bel (A0 _ _) hb) hc;have hP:=HV.out (j+n);have KC:=FT (Cy V (j+n)) hP.1 hP.2;have KA:=fun x=>F5 (V:=wr) underlying87 Gs rfl dE how.out hb.size #[.int .i64 x] rfl Zgd mL oM 87;obtain⟨g,c',w8,hap,hb8,ho8,-⟩:=KA (Ae (Cy V (j+n)));have HNX:Hid (w8.ownsRow (w.alloc (.cells #[.string nm,.int .i64 K,.int .i64 (len:Int)] 53)).heap.size 3 1 (.slice (some ⟨g,0,none⟩) (j+1) c') (j+1) (BM (F7 V 1 n (j+1)))):=by
     show World.ownsRow _ _ _ _ _ _ _;rw[KQ,Nat.one_mul,Dv];exact ho8
    have HB8:Hid (Below (w.alloc (.cells #[.string nm,.int .i64 K,.int .i64 (len:Int)] 53)).heap.size wr w8):=hb8;have HAP:Hid _:=hap;have HKC:Hid _:=KC;obtain⟨z,hz⟩:=gA (Cy V (j+n))
    rw[hz]at y hP HKC HAP;have t0:(j:Int)<(len:Int):=oM;have t1:IntKind.i64.wrap (j:Int)=(j:Int):=by rw[IntKind.wrap_i64];omega
    have t2:IntKind.i64.wrap ((j:Int)+(n:Int))=((j+n:Nat):Int):=by rw[IntKind.wrap_i64];omega
    have t3:(0:Int)<=((j+n:Nat):Int):=oM;have t4:((j+n:Nat):Int)<(M:Int):=oM;have t5:IntKind.i64.wrap ((j:Int)+1)=((j+1:Nat):Int):=by rw[IntKind.wrap_i64];omega
    have t6:IntKind.i64.wrap z=z:=by rw[IntKind.wrap_i64];have:=hP.1;have:=hP.2;omega
    obtain⟨ix,hix⟩:=gA (j+n)
    exact Zcq
   have hjn:j=len:=oM;have e1:¬ (j:Int)<(len:Int):=oM;have HF:Hid (Cs wr pp (F7 V 1 n len)):=by
    exact Zdy
   exact Zcl
def DM(op a b c:Int):Int:=
 if op=21 then min (a+1) 2147483647
 else if op=22 then C7 (decide (a<b))
 else if op=23 then C7 (a==b)
 else if op=24 then C7 (a != 0&&b != 0)
 else if op=25 then C7 (a==0)
 else if op=26 then(if a=0 then c else b)
 else if op=27 then max (a-b) 0
 else if b=0 then 0 else a/b
theorem QX(op a b c:Int)(ho:21<=op/\op<=28)(ha:0<=a/\a<=2147483647)(hb:0<=b/\b<=2147483647)(w:World):
 Calls prog 104 #[.int .i64 op,.int .i64 a,.int .i64 b,.int .i64 c] w fun e w'=>e=.returned (.int .i64 (DM op a b c))/\w'=w:=by
 have KF:Hid (∀x v,Calls prog 101 #[.bool x] v fun e w'=>e=.returned (.int .i64 (C7 x))/\w'=v):=Jq;obtain⟨a0,a1⟩:=ha;obtain⟨b0,b1⟩:=hb;have:op=21\/op=22\/op=23\/op=24\/op=25\/op=26\/op=27\/op=28:=oM;rcases this with rfl|rfl|rfl|rfl|rfl|rfl|rfl|rfl
 .rw[show DM 21 a b c=min (a+1) 2147483647 from rfl];have t:IntKind.i64.wrap (a+1)=a+1:=by rw[IntKind.wrap_i64];omega
  exact Zdd
 .rw[show DM 22 a b c=C7 (decide (a<b))from rfl];exact Zbs
 .rw[show DM 23 a b c=C7 (a==b)from rfl];exact Zbs
 .rw[show DM 24 a b c=C7 (a != 0&&b != 0)from rfl];cases hz:(a != 0)
  .rw[Bool.false_and];have hz':(a==0)=true:=by simpa using hz
   exact Zbs
  .rw[Bool.true_and];have hz':(a==0)=false:=by simpa using hz
   exact Zbs
 .rw[show DM 25 a b c=C7 (a==0)from rfl];exact Zbs
 .rw[show DM 26 a b c=(if a=0 then c else b)from rfl];by_cases hz:a=0
  .rw[if_pos hz];have hz':(a != 0)=false:=by simpa using hz
   have hz2:(a==0)=true:=by simpa using hz
   clear hz a0 a1;exact Zdd
  .rw[if_neg hz];have hz':(a != 0)=true:=by simpa using hz
   have hz2:(a==0)=false:=by simpa using hz
   clear hz;exact Zdd
 .rw[show DM 27 a b c=max (a-b) 0 from rfl];have t:IntKind.i64.wrap (a-b)=a-b:=by rw[IntKind.wrap_i64];omega
  exact Zdd
 .rw[show DM 28 a b c=(if b=0 then 0 else a/b)from rfl];by_cases hz:b=0
  .rw[if_pos hz];have hz2:(b==0)=true:=by simpa using hz
   clear hz b0 b1;exact Zdd
  .rw[if_neg hz];have hz2:(b==0)=false:=by simpa using hz
   have ht:a.tdiv b=a/b:=by rw[Int.tdiv_eq_ediv_of_nonneg a0]
   have hw:IntKind.i64.wrap (a/b)=a/b:=by
    rw[IntKind.wrap_i64];have h1:=Int.ediv_nonneg a0 b0;have h2:=Int.ediv_le_self b a0;omega
   go_enter func104,ntmps104;go_wp2;go_ret;first
    |exact⟨rfl,rfl⟩
    |(refine⟨?_,rfl⟩;simp[ht,hw])
theorem JF(n:Nat)(x:Int){j:Nat}(h:j<n):Cy (List.replicate n x) j=x:=by simp[Cy,h]
theorem IX(n:Nat)(x:Int)(hx:AB x)(hn:n<=65536)(w:World):
 Calls prog 73 #[.int .i64 n,.int .i64 x] w fun e w'=>∃q cap,e=.returned (.tuple #[.slice q n cap,.int .i64 0])/\Bh w' q n (fun i=>.int .i64 (Ae x))/\Below w.heap.size w w'/\∀b o s,q=some ⟨b,o,s⟩->w.heap.size<=b:=by
 obtain⟨i0,hi0,hz0,hz1,hz2⟩:=info_parts VQ;have h1:¬ ((n:Int)<0):=oM;have h2:(n:Int)<=65536:=oM;go_enter func73,ntmps73;go_wp2
 go_loopw [6,7] (fun ov iv wr=>Below w.heap.size w wr/\∃ (k:Nat) (v:Value),v=ov/\k<=n/\iv=.int .i64 k/\Hid (wr.ownsRow w.heap.size 3 1 v k (Jb (fun i=>.int .i64 (Ae x)) k))) (fun _ iv _=>n-(intOf iv).toNat)
 case atStart=>exact⟨BT w,0,_,rfl,gI _,rfl,World.ownsRow_nil _ _ _ _⟩
 case round=>
  obtain⟨hb,k,ov,rfl,hk,rfl,hown⟩:=hrel;by_cases hlt:k<n
  .have i1:(0:Int)<=(k:Int):=oM;have i2:(k:Int)<(n:Int):=oM;have sz:=hb.size;have hob:Hid (∀j,ov.ownBlock=some j->w.heap.size<=j/\j<wr.heap.size):=hown.lt;go_wp2_with(first
    |(go_at_call 97;refine(FT _ hx.1 hx.2 _).mono ?_;rintro e w0 ⟨rfl,hw'⟩;obtain rfl:=hw'.symm)
    |(at_builtin;refine wpList_append_own _ rfl _ _ 87 rfl w.heap.size 3 i0 _ 1 8 underlying87 hi0 hz0 hz1 hz2 rfl dE ov k (Jb (fun i=>.int .i64 (Ae x)) k) rfl (hown.alloc _) ⟨wr.heap.size,0,none⟩ 1 1 [.int .i64 (Ae x)] rfl rfl (World.news_of_block (cs:=#[.int .i64 (Ae x)]) (t:=3) (fr:=(0,0)) (heap_alloc_new wr _)) PG mL oM sO ?_;intro v' w1 hown1 hgrow hnil;have HB:Below w.heap.size w w1:=Below.grown (hb.alloc sz _) hgrow sO (fun j e=>(hob.out j e).1);have HO:Hid (w1.ownsRow w.heap.size 3 1 v' (k+1) (Jb (fun i=>.int .i64 (Ae x)) k++[.int .i64 (Ae x)])):=hown1;clear hown1 hgrow hnil))
   go_roundw
   case rel=>exact⟨HB,k+1,_,rfl,oM,gN,by rw[MR];exact HO⟩
   case measure=>simp[intOf];omega
  .have:k=n:=oM;subst this;obtain⟨q,cap,rfl,hR,hg,-⟩:=Mu hown.out;have HR:Hid (Bh wr q k (fun i=>.int .i64 (Ae x))):=hR;have HG:Hid (∀b o s,q=some ⟨b,o,s⟩->w.heap.size<=b):=hg;clear hR hg hown;go_wp2;go_returns;first|exact⟨_,_,rfl,HR.out,hb,HG.out⟩|exact⟨_,⟨_,rfl⟩,HR.out,hb,HG.out⟩
structure PA(w:World)(v0 v1 v2 v3:Value)(tk tp:Int)(kp:Bool)(sb si:Int)(v:World):Prop where
 bel:Below w.heap.size w v
 c0:v.cell? ⟨w.heap.size,0,none⟩=some v0
 c1:v.cell? ⟨w.heap.size,1,none⟩=some v1
 c2:v.cell? ⟨w.heap.size,2,none⟩=some v2
 c3:v.cell? ⟨w.heap.size,3,none⟩=some v3
 s0:v.cell? ⟨w.heap.size+1,0,none⟩=some (.int .i64 tk)
 s1:v.cell? ⟨w.heap.size+1,1,none⟩=some (.int .i64 tp)
 s2:v.cell? ⟨w.heap.size+1,2,none⟩=some (.bool kp)
 s3:v.cell? ⟨w.heap.size+1,3,none⟩=some (.int .u32 sb)
 s4:v.cell? ⟨w.heap.size+1,4,none⟩=some (.int .i64 si)
 r0:v.cell? ⟨w.heap.size+1+1,0,none⟩=some (.slice none 0 0)
 r1:v.cell? ⟨w.heap.size+1+1,1,none⟩=some (.int .i64 0)
 f0:v.frozen? ⟨w.heap.size+1+1,0,none⟩=false
 f1:v.frozen? ⟨w.heap.size+1+1,1,none⟩=false
theorem PA.next{w:World}{v0 v1 v2 v3:Value}{tk tp:Int}{kp:Bool}{sb si:Int}{v v':World}(h:PA w v0 v1 v2 v3 tk tp kp sb si v)(k:Below v.heap.size v v'):PA w v0 v1 v2 v3 tk tp kp sb si v':=
 ⟨Go.Proofs.YtpoklpdgpcnkgaaGreat.bel h.bel k,kc k h.c0,kc k h.c1,kc k h.c2,kc k h.c3,kc k h.s0,kc k h.s1,kc k h.s2,kc k h.s3,kc k h.s4,kc k h.r0,kc k h.r1,kf k h.r0 h.f0,kf k h.r1 h.f1⟩
theorem PA.start(w:World)(v0 v1 v2 v3:Value)(tk tp:Int)(kp:Bool)(sb si:Int):PA w v0 v1 v2 v3 tk tp kp sb si (((w.alloc (.cells #[v0,v1,v2,v3] 27)).alloc (.cells #[.int .i64 tk,.int .i64 tp,.bool kp,.int .u32 sb,.int .i64 si] 49)).alloc (.cells #[.slice none 0 0,.int .i64 0] 109)):=by
 have k1:=A0 (w.alloc (.cells #[v0,v1,v2,v3] 27)) (.cells #[.int .i64 tk,.int .i64 tp,.bool kp,.int .u32 sb,.int .i64 si] 49);have k2:=A0 ((w.alloc (.cells #[v0,v1,v2,v3] 27)).alloc (.cells #[.int .i64 tk,.int .i64 tp,.bool kp,.int .u32 sb,.int .i64 si] 49)) (.cells #[.slice none 0 0,.int .i64 0] 109);refine⟨Go.Proofs.YtpoklpdgpcnkgaaGreat.bel (A0 _ _) (Go.Proofs.YtpoklpdgpcnkgaaGreat.bel k1 k2),kc k2 (kc k1 ?_),kc k2 (kc k1 ?_),kc k2 (kc k1 ?_),kc k2 (kc k1 ?_),kc k2 ?_,kc k2 ?_,kc k2 ?_,kc k2 ?_,kc k2 ?_,?_,?_,?_,?_⟩
 all_goals simp[go_sem]
theorem L7(v0 v1 v2 v3:Value)(c:Cd)(hg:By c)(s:Sl)(hs:Br s c.sign.length=true)(hb:AB s.bits)(w:World)(hv:Dk w v0 v1 v2 v3 c):
 Calls prog 50 #[.agg #[v0,v1,v2,v3],slV s] w fun e w'=>∃p q,e=.returned (.agg #[.slice p (BC c s).pats.length q,.int .i64 (BC c s).whole])/\Cs w' p (BC c s).pats/\Below w.heap.size w w'/\∀b o s,p=some ⟨b,o,s⟩->w.heap.size<=b:=by
 have hw:=hg.width s.ty;have hmay:=hs;unfold Br at hmay;simp only[Bool.and_eq_true]at hmay;obtain⟨m1,m2⟩:=hmay;have hpl:s.ty.kind=3->Az s.ty.par c.sign.length=true:=fun h3=>by
  unfold AE at m1;rw[if_neg oM,if_pos h3]at m1;exact m1
 have hkd:s.ty.kind=1\/s.ty.kind=2\/s.ty.kind=3:=by
  unfold AE at m1;by_cases h1:s.ty.kind=1\/s.ty.kind=2
  .rcases h1 with h1|h1
   .exact .inl h1
   .exact .inr (.inl h1)
  .rw[if_neg h1]at m1;by_cases h3:s.ty.kind=3
   .exact .inr (.inr h3)
   .rw[if_neg h3]at m1;exact absurd m1 dE
 have KW:=FS v0 v1 v2 v3 c hg s.ty hpl;unfold FI at m2;obtain⟨⟨tk,tp⟩,kp,sb,si⟩:=s;unfold BC slV EZ;unfold Fk at KW;simp only at hw hpl hkd KW m2 hb |-;have HT0:=PA.start w v0 v1 v2 v3 tk tp kp sb si;by_cases h2:tk=2
 .have hw0:B0 c ⟨tk,tp⟩=0:=by unfold B0;simp[h2]
  rw[hw0];have h2b:(tk==2)=true:=by simpa using h2
  obtain⟨-,c0,c1,c2,c3,s0,s1,s2,s3,s4,r0,r1,f0,f1⟩:=HT0;clear KW m1 m2 hpl hkd h2;go_enter func50,ntmps50;go_wp2;refine bodyPost_ret (by simp[results,results50,go_sem];try rfl) rfl ?_;exact⟨none,0,rfl,.inl rfl,gG,fun b o s e=>by simp at e⟩
 .have h2b:(tk==2)=false:=by simpa using h2
  rw[if_neg h2]at m2;simp only[Bool.and_eq_true,beq_iff_eq]at m2;have HSI:Hid (si=0):=m2.1;obtain⟨n,hn⟩:∃n:Nat,(if tk=3 then(lenOf c tp:Int)else 1)=(n:Int)/\B0 c ⟨tk,tp⟩=n:=by
   unfold B0;simp only;rcases hkd with e|e|e
   .exact⟨1,by simp[e],by simp[e]⟩
   .exact absurd e h2
   .exact⟨lenOf c tp,by simp[e],by simp[e]⟩
  rw[hn.1]at KW;rw[hn.2]at hw |-;have KFI:=IX n sb hb oM;have HKW:Hid (∀v,Below w.heap.size w v->Calls prog 74 #[.agg #[v0,v1,v2,v3],.agg #[.int .i64 tk,.int .i64 tp]] v fun e w'=>e=.returned (.int .i64 (n:Int))/\Below v.heap.size v w'):=fun v hb=>KW v (hv.below hb);have HKF:Hid (∀v,Calls prog 73 #[.int .i64 (n:Int),.int .i64 sb] v fun e w'=>∃q cap,e=.returned (.tuple #[.slice q n cap,.int .i64 0])/\Bh w' q n (fun i=>.int .i64 (Ae sb))/\Below v.heap.size v w'/\∀b o s,q=some ⟨b,o,s⟩->v.heap.size<=b):=KFI;have HT:Hid (PA w v0 v1 v2 v3 tk tp kp sb si (((w.alloc (.cells #[v0,v1,v2,v3] 27)).alloc (.cells #[.int .i64 tk,.int .i64 tp,.bool kp,.int .u32 sb,.int .i64 si] 49)).alloc (.cells #[.slice none 0 0,.int .i64 0] 109))):=HT0;have hsb:IntKind.i64.wrap sb=sb:=by rw[IntKind.wrap_i64];have:=hb.1;have:=hb.2;omega
  obtain⟨-,c0,c1,c2,c3,s0,s1,s2,s3,s4,r0,r1,f0,f1⟩:=HT0;clear KW KFI m1 m2 hpl hkd h2 hn hs hv;go_enter func50,ntmps50;go_wp2;refine rG (fun v=>v.cell? ⟨w.heap.size,0,none⟩=some v0/\v.cell? ⟨w.heap.size,1,none⟩=some v1/\v.cell? ⟨w.heap.size,2,none⟩=some v2/\v.cell? ⟨w.heap.size,3,none⟩=some v3/\v.cell? ⟨w.heap.size+1,0,none⟩=some (.int .i64 tk)/\v.cell? ⟨w.heap.size+1,1,none⟩=some (.int .i64 tp)/\v.cell? ⟨w.heap.size+1,3,none⟩=some (.int .u32 sb)) fun yH=>?_;refine Tf 0 1 2 4 5 6 ?_;clear yH;refine AJ 3 fun K hK=>?_;go_simp;(go_at_call 74;(with_reducible refine(HKW.out _ (bel HT.out.bel (A7 _))).mono ?_);rintro e w1 ⟨rfl,hb1⟩;have HB1:Hid (Below (((w.alloc (.cells #[v0,v1,v2,v3] 27)).alloc (.cells #[.int .i64 tk,.int .i64 tp,.bool kp,.int .u32 sb,.int .i64 si] 49)).alloc (.cells #[.slice none 0 0,.int .i64 0] 109)).heap.size (((w.alloc (.cells #[v0,v1,v2,v3] 27)).alloc (.cells #[.int .i64 tk,.int .i64 tp,.bool kp,.int .u32 sb,.int .i64 si] 49)).alloc (.cells #[.slice none 0 0,.int .i64 0] 109)) w1):=bel (A7 _) hb1;clear hb1;obtain⟨-,c0,c1,c2,c3,s0,s1,s2,s3,s4,r0,r1,f0,f1⟩:=HT.out.next HB1.out);try(go_wp2_with fail)
  refine AF hK fun yH=>?_;clear hK K;clear yH;refine AJ 7 fun K hK=>?_;go_simp;(go_at_call 73;(with_reducible refine(HKF.out _).mono ?_);rintro e w2 ⟨pf,qf,rfl,hrf,hb2,hfr⟩;have HFR:Hid (∀b o s,pf=some ⟨b,o,s⟩->w1.heap.size<=b):=hfr;clear hfr;have HS1:Hid (w.heap.size+1+1<w1.heap.size):=A6 r0;have HB2:Hid (Below (((w.alloc (.cells #[v0,v1,v2,v3] 27)).alloc (.cells #[.int .i64 tk,.int .i64 tp,.bool kp,.int .u32 sb,.int .i64 si] 49)).alloc (.cells #[.slice none 0 0,.int .i64 0] 109)).heap.size (((w.alloc (.cells #[v0,v1,v2,v3] 27)).alloc (.cells #[.int .i64 tk,.int .i64 tp,.bool kp,.int .u32 sb,.int .i64 si] 49)).alloc (.cells #[.slice none 0 0,.int .i64 0] 109)) w2):=bel HB1.out hb2;have HRF:Hid (Bh w2 pf n (fun i=>.int .i64 (Ae sb))):=hrf;clear hb2 hrf c0 c1 c2 c3 s0 s1 s2 s3 s4 r0 r1 f0 f1;obtain⟨-,c0,c1,c2,c3,s0,s1,s2,s3,s4,r0,r1,f0,f1⟩:=HT.out.next HB2.out);try(go_wp2_with fail)
  refine AF hK fun yH=>?_;clear hK K;refine Tc 8 9 10 ?_;refine Tb 11 12 ?_;refine wpAnyH_done kR ?_ _;go_wp2;refine bodyPost_ret (by simp[results,results50,go_sem, *];try rfl) rfl ?_;have hbF:Below w.heap.size w ((w2.setCell ⟨w.heap.size+1+1,0,none⟩ (.slice pf n qf)).setCell ⟨w.heap.size+1+1,1,none⟩ (.int .i64 0)):=((bel HT.bel HB2.out).setCell Zgb _).setCell Zgb _;refine⟨pf,qf,by rw[List.length_replicate,HSI.out],?_,hbF,fun b o s e=>by have h3:=HFR.out b o s e;have h4:=HS1.out;omega⟩;show Bh _ _ _ _;rw[List.length_replicate];rcases HRF.out with h0|⟨b,o,rfl,h1⟩
  .exact .inl h0
  .refine .inr ⟨b,o,rfl,fun j hj=>?_⟩;have hne:b≠w.heap.size+1+1:=by have h3:=HFR.out b o none rfl;have h4:=HS1.out;omega
   rw[gC (gE hne),gC (gE hne),h1 j hj];simp only;rw[JF _ _ hj]
def I3(v:World)(sv:Value)(p:Option Addr)(l:List Int):Prop:=l=[]\/∃b o,p=some ⟨b,o,none⟩/\sv.ownBlock≠some b/\∀j,j<l.length->v.cell? ⟨b,o+j,none⟩=some (.int .i64 (Cy l j))
theorem I3.num{v:World}{sv:Value}{p:Option Addr}{l:List Int}(h:I3 v sv p l):Cs v p l:=by
 rcases h with rfl|⟨b,o,e,-,h⟩
 .exact .inl rfl
 .exact .inr ⟨b,o,e,h⟩
theorem I3.below{v v':World}{sv:Value}{p:Option Addr}{l:List Int}(h:I3 v sv p l)(k:Below v.heap.size v v'):I3 v' sv p l:=by
 rcases h with rfl|⟨b,o,e,hn,h⟩
 .exact .inl rfl
 .exact .inr ⟨b,o,e,hn,fun j hj=>kc k (h j hj)⟩
theorem Cs.apart{v:World}{sv:Value}{p:Option Addr}{l:List Int}(h:Cs v p l)(ha:∀b o s,p=some ⟨b,o,s⟩->sv.ownBlock≠some b):I3 v sv p l:=by
 rcases h with h|⟨b,o,e,h⟩
 .exact .inl (List.length_eq_zero_iff.1 h)
 .exact .inr ⟨b,o,e,ha b o none e,h⟩
theorem I3.grow{V w':World}{p:Option Addr}{n q g c' m:Nat}{pp:Option Addr}{l:List Int}(h:I3 V (.slice p n q) pp l)(hk:∀b,b<V.heap.size->(Value.slice p n q).ownBlock≠some b->w'.heap[b]? =V.heap[b]?)(hg:(Value.slice p n q).ownBlock=some g\/V.heap.size<g):I3 w' (.slice (some ⟨g,0,none⟩) m c') pp l:=by
 exact Zck
structure JX(B:Nat)(v:World)(sv:Value)(X:List Cl):Prop where
 own:v.ownsRow B 109 2 sv X.length (AG T8 X)
 nums:∀x∈X,I3 v sv x.p x.h.pats
theorem JX.below{B:Nat}{v v':World}{sv:Value}{X:List Cl}(h:JX B v sv X)(k:Below v.heap.size v v'):JX B v' sv X:=⟨As h.own k,fun x hx=>(h.nums x hx).below k⟩
theorem JX.cs{B:Nat}{v:World}{sv:Value}{X:List Cl}(h:JX B v sv X):UT v sv X:=⟨C9 Ia h.own,fun x hx=>(h.nums x hx).num⟩
theorem JX.nil(B:Nat)(v:World):JX B v (.slice none 0 0) []:=⟨World.ownsRow_nil _ _ _ 2,fun x hx=>by cases hx⟩
theorem JX.push{B:Nat}{V:World}{p:Option Addr}{q:Nat}{X:List Cl}(h:JX B V (.slice p X.length q) X)(hB:B<=V.heap.size)(hX:X.length<=16384)(x:Cl)(hx:I3 V (.slice p X.length q) x.p x.h.pats)(ty:TypeId):
 ∃g c' w',(Builtin.append_ #[75,75] ty #[.slice p X.length q,.slice (some ⟨V.heap.size,0,none⟩) 1 1]).run prog (V.alloc (.cells #[.slice x.p x.h.pats.length x.q,.int .i64 x.h.whole] 109))=.ok (.slice (some ⟨g,0,none⟩) (X.length+1) c') w'/\Below B V w'/\JX B w' (.slice (some ⟨g,0,none⟩) (X.length+1) c') (X++[x])/\(∀b,b<V.heap.size->(Value.slice p X.length q).ownBlock≠some b->w'.heap[b]? =V.heap[b]?):=by
 obtain⟨g,c',w',hr,hb,ho,hk,hg⟩:=Gz (V:=V) underlying75 IQ rfl dE h.own hB #[.slice x.p x.h.pats.length x.q,.int .i64 x.h.whole] rfl (fun u hu=>Rv x u hu) mL oM ty;refine⟨g,c',w',hr,hb,⟨?_,fun y hy=>?_⟩,hk⟩
 .rw[List.length_append,Dt];exact ho
 .rcases List.mem_append.1 hy with e|e
  .exact(h.nums y e).grow hk hg
  .simp only[List.mem_singleton]at e;subst e;exact hx.grow hk hg
theorem Wx{l:List Ty}{D:Nat}(h:D<l.length):A5 l (D:Int)=l[D]:=by
 unfold A5;rw[if_pos (Bv.2 ⟨oM,oM⟩),Int.toNat_natCast,gB h];rfl
def bxF(op d a b c n z:Int)(k:Nat):Value:=PM #[.int .i64 op,.int .i64 d,.int .i64 a,.int .i64 b,.int .i64 c,.int .i64 n,.int .u32 z] k
end Go.Proofs.YtpoklpdgpcnkgaaGreat
