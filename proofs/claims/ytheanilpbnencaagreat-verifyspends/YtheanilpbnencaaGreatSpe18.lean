import Derived.Test.YtheanilpbnencaaGreatSpe1
import Derived.Test.YtheanilpbnencaaGreatSpe17
import Derived.Test.YtheanilpbnencaaGreatSpe7
import Derived.Test.YtheanilpbnencaaGreatSpe9
import Derived.Lib.LazyBuf
namespace Go.Proofs.YtheanilpbnencaaGreat
open Go.RowKit Go.Proofs.Tryz
set_option linter.all false
set_option maxRecDepth 100000
set_option maxHeartbeats 16000000
theorem V0:prog.underlying 89=some (.slice (prog.elem 89)):=kR
theorem Vk:prog.elem 89=93:=kR
theorem Sd(w:World):(sizeOf (prog.elem 89)).run prog w=.ok 3 w:=by rw[Vk];exact Tryz.sizeOf93 w
theorem FQ{a b x y:Int}(h:(a,b)=(x,y)):(Ending.returned (.tuple #[.int .i64 a,.int .i64 b]))=.returned (.tuple #[.int .i64 x,.int .i64 y]):=by cases h;rfl
theorem Kt(v0 v1 v2 v3:Value)(c:Cd)(hk:AZ c)(w:World)(hv:Cy w v0 v1 v2 v3 c)(hS:Ay c.sign=0)(h1:c.regs.length<=16384)(h3:c.list.length<=32768)(h2:c.slots.length<=4096)(RA RB:Int)(hRES:(if(Ad c&&AW c)=true then In c ⟨[],[]⟩ 0 c.list else(160,-1))=(RA,RB)):
 Calls prog 15 #[.agg #[v0,v1,v2,v3]] w fun e w'=>e=.returned (.tuple #[.int .i64 RA,.int .i64 RB])/\Below w.heap.size w w':=by
 have hSG:∀v,Below w.heap.size w v->Calls prog 27 #[v0] v fun e w'=>e=.returned (.int .i64 0)/\Below v.heap.size v w':=fun v hb=>by rw[<-hS];exact Hx v0 c.sign hk.signL hk.names v (hv.below hb).sign.rd
 have l0:=hk.signL;obtain⟨p0,q0,rfl,-⟩:=id hv.sign;obtain⟨p1,q1,rfl,-⟩:=id hv.regs;obtain⟨p2,q2,rfl,-⟩:=id hv.slots;obtain⟨p3,q3,rfl,-⟩:=id hv.list;have HREGS:Hid (Bj 2 PT w (.slice p1 c.regs.length q1) c.regs):=hv.regs;have HSLOTS:Hid (Bj 5 Py w (.slice p2 c.slots.length q2) c.slots):=hv.slots;have HLIST:Hid (Bj 7 EW w (.slice p3 c.list.length q3) c.list):=hv.list;have HMT:Hid (∀ (t:Ty) v,Calls prog 28 #[.agg #[.int .i64 t.kind,.int .i64 t.par],.slice p0 c.sign.length q0] v fun e w'=>e=.returned (.bool (Ak t c.sign.length))/\Below v.heap.size v w'):=fun t v=>FS t p0 _ q0 hk.signL v;have HMS:Hid (∀ (s:Sl),s∈c.slots->∀v,Calls prog 29 #[.agg #[.int .i64 s.ty.kind,.int .i64 s.ty.par,.bool s.keep,.int .u32 s.bits,.int .i64 s.int_],.slice p0 c.sign.length q0] v fun e w'=>e=.returned (.bool (AG s c.sign.length))/\Below v.heap.size v w'):=fun s hs v=>JB s (hk.sbits s hs).1 (hk.sbits s hs).2 p0 _ q0 hk.signL v;have HCV:Hid (Cy w (.slice p0 c.sign.length q0) (.slice p1 c.regs.length q1) (.slice p2 c.slots.length q2) (.slice p3 c.list.length q3) c):=hv;have HCO:Hid (AZ c):=hk;have HRES:Hid ((if(Ad c&&AW c)=true then In c ⟨[],[]⟩ 0 c.list else(160,-1))=(RA,RB)):=hRES;obtain⟨n0,hn0⟩:∃n,c.sign.length=n:=⟨_,rfl⟩
 obtain⟨n1,hn1⟩:∃n,c.regs.length=n:=⟨_,rfl⟩
 obtain⟨n2,hn2⟩:∃n,c.slots.length=n:=⟨_,rfl⟩
 obtain⟨n3,hn3⟩:∃n,c.list.length=n:=⟨_,rfl⟩
 have HN0:Hid (c.sign.length=n0):=hn0;have HN1:Hid (c.regs.length=n1):=hn1;have HN2:Hid (c.slots.length=n2):=hn2;have HN3:Hid (c.list.length=n3):=hn3;rw[hn0]at hSG l0 HMT HMS;rw[hn1]at h1 HREGS;rw[hn2]at h2 HSLOTS;rw[hn3]at h3 HLIST;rw[hn0,hn1,hn2,hn3]at HCV |-;have HSG:Hid _:=hSG;have g1:(n1:Int)<=16384:=oM;have g2:(n2:Int)<=4096:=oM;have g3:(n3:Int)<=32768:=oM;clear hSG hn0 hn1 hn2 hn3 hv hk hS hRES;go_enter func15,ntmps15;go_wp2_with(go_at_call 27;(with_reducible refine(HSG.out _ (A0 _ _)).mono ?_);rintro e w1 ⟨rfl,hb1⟩;have HX1:Hid (CX w (.slice p0 n0 q0) (.slice p1 n1 q1) (.slice p2 n2 q2) (.slice p3 n3 q3) w1):=(CX.start w _ _ _ _).next hb1;obtain⟨b1,b2,c0,c1,c2,c3⟩:=HX1.out;clear hb1);clear c0 c1 c2 c3 b1 b2
 go_loopw [5] (fun iv wr=>CX w (.slice p0 n0 q0) (.slice p1 n1 q1) (.slice p2 n2 q2) (.slice p3 n3 q3) wr/\∃j:Nat,j<=n1/\iv=.int .i64 (j:Int)/\Hid ((c.regs.take j).all (fun t=>Ak t n0)=true)) (fun iv _=>n1-(intOf iv).toNat)
 case atStart=>exact⟨HX1.out,0,gI _,rfl,by show _=_;simp⟩
 case round=>
  obtain⟨hcx,j,hj,rfl,hall⟩:=hrel;have HCX:Hid (CX w (.slice p0 n0 q0) (.slice p1 n1 q1) (.slice p2 n2 q2) (.slice p3 n3 q3) wr):=hcx;obtain⟨b1,b2,c0,c1,c2,c3⟩:=hcx;clear HX1;by_cases hlt:j<n1
  .have hll:j<c.regs.length:=by rw[HN1.out];exact hlt
   obtain⟨b,o,rfl,hx⟩:=HREGS.at hll;have KN:=HMT.out c.regs[j];have NX:Hid (Ak c.regs[j] n0=true->(c.regs.take (j+1)).all (fun t=>Ak t n0)=true):=fun h=>Iv _ hll hall.out h;have NB:Hid (Ak c.regs[j] n0=false->(160,-1)=(RA,RB)):=fun h=>by
    have h5:Ad c=false:=by unfold Ad;rw[HN0.out];exact N8 _ hll h
    have h6:=HRES.out;rw[h5,Bool.false_and,if_neg dE]at h6;exact h6
   obtain⟨⟨K,P⟩,hT⟩:∃T:Ty,c.regs[j]=T:=⟨_,rfl⟩
   rw[hT]at hx KN NX NB;have y0:wr.cell? ⟨b,o+j*2,none⟩=some (.int .i64 K):=kc b1 (hx.at 0 rfl);have y1:wr.cell? ⟨b,o+j*2+1,none⟩=some (.int .i64 P):=kc b1 (hx.at 1 rfl);obtain⟨X,hX⟩:=gA (Ak ⟨K,P⟩ n0)
   rw[hX]at NX NB;simp only[hX]at KN;have HK:Hid (∀v,Calls prog 28 #[.agg #[.int .i64 K,.int .i64 P],.slice p0 n0 q0] v fun e w'=>e=.returned (.bool X)/\Below v.heap.size v w'):=KN;have i1:(0:Int)<=(j:Int):=oM;have i2:(j:Int)<(n1:Int):=oM;clear KN hT hX hx hall;cases X
   .go_wp2;refine rG (fun v=>v.cell? ⟨w.heap.size,1,none⟩=some (.slice (some ⟨b,o,none⟩) n1 q1)/\v.cell? ⟨w.heap.size,0,none⟩=some (.slice p0 n0 q0)/\v.cell? ⟨b,o+j*2,none⟩=some (.int .i64 K)/\v.cell? ⟨b,o+j*2+1,none⟩=some (.int .i64 P)) fun hJ=>?_;refine Tf 0 1 2 3 4 5 ?_;refine Bm 6 ?_;clear hJ;refine AC 7 fun K hK=>?_;go_simp;(go_at_call 28;(with_reducible refine(HK.out _).mono ?_);rintro e w2 ⟨rfl,hb2⟩;have HB2:Hid (Below wr.heap.size wr w2):=bel (A4 _) hb2;clear hb2;obtain⟨-,-,c0,c1,c2,c3⟩:=HCX.out.next HB2.out;have x0:=kc HB2.out y0;have x1:=kc HB2.out y1);exact YR
   .go_wp2;refine rG (fun v=>v.cell? ⟨w.heap.size,1,none⟩=some (.slice (some ⟨b,o,none⟩) n1 q1)/\v.cell? ⟨w.heap.size,0,none⟩=some (.slice p0 n0 q0)/\v.cell? ⟨b,o+j*2,none⟩=some (.int .i64 K)/\v.cell? ⟨b,o+j*2+1,none⟩=some (.int .i64 P)) fun hJ=>?_;refine Tf 0 1 2 3 4 5 ?_;refine Bm 6 ?_;clear hJ;refine AC 7 fun K hK=>?_;go_simp;(go_at_call 28;(with_reducible refine(HK.out _).mono ?_);rintro e w2 ⟨rfl,hb2⟩;have HB2:Hid (Below wr.heap.size wr w2):=bel (A4 _) hb2;clear hb2;obtain⟨-,-,c0,c1,c2,c3⟩:=HCX.out.next HB2.out;have x0:=kc HB2.out y0;have x1:=kc HB2.out y1);exact YM
  have hjn:j=n1:=oM;have HT:Hid (Ad c=true):=by
   show _=_;have h5:=hall.out;rw[hjn,<-HN1.out,List.take_length]at h5;unfold Ad;rw[HN0.out];exact h5
  have e1:¬ (j:Int)<(n1:Int):=oM;clear hall hlt;go_wp2;clear e1 c0 c1 c2 c3 b1 b2
  go_loopw [6] (fun iv wr=>CX w (.slice p0 n0 q0) (.slice p1 n1 q1) (.slice p2 n2 q2) (.slice p3 n3 q3) wr/\∃j:Nat,j<=n2/\iv=.int .i64 (j:Int)/\Hid ((c.slots.take j).all (fun s=>AG s n0)=true)) (fun iv _=>n2-(intOf iv).toNat)
  case atStart=>exact⟨HCX.out,0,gI _,rfl,by show _=_;simp⟩
  case round=>
   obtain⟨hcx,j,hj,rfl,hall⟩:=hrel;have HCX:Hid (CX w (.slice p0 n0 q0) (.slice p1 n1 q1) (.slice p2 n2 q2) (.slice p3 n3 q3) wr):=hcx;obtain⟨b1,b2,c0,c1,c2,c3⟩:=hcx;by_cases hlt:j<n2
   .have hll:j<c.slots.length:=by rw[HN2.out];exact hlt
    obtain⟨b,o,rfl,hx⟩:=HSLOTS.at hll;have KN:=HMS.out c.slots[j] (gD hll);have NX:Hid (AG c.slots[j] n0=true->(c.slots.take (j+1)).all (fun s=>AG s n0)=true):=fun h=>Iv _ hll hall.out h;have NB:Hid (AG c.slots[j] n0=false->(160,-1)=(RA,RB)):=fun h=>by
     have h5:AW c=false:=by unfold AW;rw[HN0.out];exact N8 _ hll h
     have h6:=HRES.out;rw[h5,Bool.and_false,if_neg dE]at h6;exact h6
    obtain⟨⟨⟨K,P⟩,kp,sb,si⟩,hT⟩:∃T:Sl,c.slots[j]=T:=⟨_,rfl⟩
    rw[hT]at hx KN NX NB;have y0:wr.cell? ⟨b,o+j*5,none⟩=some (.int .i64 K):=kc b1 (hx.at 0 rfl);have y1:wr.cell? ⟨b,o+j*5+1,none⟩=some (.int .i64 P):=kc b1 (hx.at 1 rfl);have y2:wr.cell? ⟨b,o+j*5+2,none⟩=some (.bool kp):=kc b1 (hx.at 2 rfl);have y3:wr.cell? ⟨b,o+j*5+3,none⟩=some (.int .u32 sb):=kc b1 (hx.at 3 rfl);have y4:wr.cell? ⟨b,o+j*5+4,none⟩=some (.int .i64 si):=kc b1 (hx.at 4 rfl);obtain⟨X,hX⟩:=gA (AG ⟨⟨K,P⟩,kp,sb,si⟩ n0)
    rw[hX]at NX NB;simp only[hX]at KN;have HK:Hid (∀v,Calls prog 29 #[.agg #[.int .i64 K,.int .i64 P,.bool kp,.int .u32 sb,.int .i64 si],.slice p0 n0 q0] v fun e w'=>e=.returned (.bool X)/\Below v.heap.size v w'):=KN;have i1:(0:Int)<=(j:Int):=oM;have i2:(j:Int)<(n2:Int):=oM;clear KN hT hX hx hall;cases X
    .go_wp2;refine rG (fun v=>v.cell? ⟨w.heap.size,2,none⟩=some (.slice (some ⟨b,o,none⟩) n2 q2)/\v.cell? ⟨w.heap.size,0,none⟩=some (.slice p0 n0 q0)/\v.cell? ⟨b,o+j*5,none⟩=some (.int .i64 K)/\v.cell? ⟨b,o+j*5+1,none⟩=some (.int .i64 P)/\v.cell? ⟨b,o+j*5+2,none⟩=some (.bool kp)/\v.cell? ⟨b,o+j*5+3,none⟩=some (.int .u32 sb)/\v.cell? ⟨b,o+j*5+4,none⟩=some (.int .i64 si)) fun hJ=>?_;refine Tf 0 1 2 3 4 5 ?_;refine Bm 6 ?_;clear hJ;refine AC 7 fun K hK=>?_;go_simp;(go_at_call 29;(with_reducible refine(HK.out _).mono ?_);rintro e w2 ⟨rfl,hb2⟩;have HB2:Hid (Below wr.heap.size wr w2):=bel (A4 _) hb2;clear hb2;obtain⟨-,-,c0,c1,c2,c3⟩:=HCX.out.next HB2.out;have x0:=kc HB2.out y0;have x1:=kc HB2.out y1;have x2:=kc HB2.out y2;have x3:=kc HB2.out y3;have x4:=kc HB2.out y4);exact YR
    .go_wp2;refine rG (fun v=>v.cell? ⟨w.heap.size,2,none⟩=some (.slice (some ⟨b,o,none⟩) n2 q2)/\v.cell? ⟨w.heap.size,0,none⟩=some (.slice p0 n0 q0)/\v.cell? ⟨b,o+j*5,none⟩=some (.int .i64 K)/\v.cell? ⟨b,o+j*5+1,none⟩=some (.int .i64 P)/\v.cell? ⟨b,o+j*5+2,none⟩=some (.bool kp)/\v.cell? ⟨b,o+j*5+3,none⟩=some (.int .u32 sb)/\v.cell? ⟨b,o+j*5+4,none⟩=some (.int .i64 si)) fun hJ=>?_;refine Tf 0 1 2 3 4 5 ?_;refine Bm 6 ?_;clear hJ;refine AC 7 fun K hK=>?_;go_simp;(go_at_call 29;(with_reducible refine(HK.out _).mono ?_);rintro e w2 ⟨rfl,hb2⟩;have HB2:Hid (Below wr.heap.size wr w2):=bel (A4 _) hb2;clear hb2;obtain⟨-,-,c0,c1,c2,c3⟩:=HCX.out.next HB2.out;have x0:=kc HB2.out y0;have x1:=kc HB2.out y1;have x2:=kc HB2.out y2;have x3:=kc HB2.out y3;have x4:=kc HB2.out y4);exact YM
   have hjn2:j=n2:=oM;have HGO0:Hid (In c ⟨[],[]⟩ 0 c.list=(RA,RB)):=by
    show _=_;have h5:=hall.out;rw[hjn2,<-HN2.out,List.take_length]at h5;have h6:AW c=true:=by unfold AW;rw[HN0.out];exact h5
    have h7:=HRES.out;rw[HT.out,h6,if_pos rF]at h7;exact h7
   have e1:¬ (j:Int)<(n2:Int):=oM;clear hall hlt;go_wp2;clear e1 c0 c1 c2 c3 b1 b2
   go_loopw [7,8] (fun sv iv wr=>CX w (.slice p0 n0 q0) (.slice p1 n1 q1) (.slice p2 n2 q2) (.slice p3 n3 q3) wr/\∃ (k:Nat) (p:Option Addr) (q:Nat),k<=n1/\iv=.int .i64 (k:Int)/\sv=.slice p k q/\wr.ownsRow (w.heap.size+1) 4 1 (.slice p k q) k (Cf k [])) (fun _ iv _=>n1-(intOf iv).toNat)
   case atStart=>exact⟨HCX.out,0,none,0,gI _,rfl,rfl,by rw[show Cf 0 []=[] from rfl];exact World.ownsRow_nil _ _ _ 1⟩
   case round=>
    obtain⟨hcx,k,p,q,hkn,rfl,rfl,how⟩:=hrel;have HCX:Hid (CX w (.slice p0 n0 q0) (.slice p1 n1 q1) (.slice p2 n2 q2) (.slice p3 n3 q3) wr):=hcx;obtain⟨b1,b2,c0,c1,c2,c3⟩:=hcx;by_cases hkl:k<n1
    .obtain⟨g,c',w8,hap,hb8,ho8⟩:=Q6 how oM oM;have HAP:Hid ((Builtin.append_ #[78,78] 78 #[.slice p k q,.slice (some ⟨wr.heap.size,0,none⟩) 1 1]).run prog (wr.alloc (.cells #[.bool false] 4))=.ok (.slice (some ⟨g,0,none⟩) (k+1) c') w8):=hap;have HY8:Hid (CX w (.slice p0 n0 q0) (.slice p1 n1 q1) (.slice p2 n2 q2) (.slice p3 n3 q3) w8/\w8.ownsRow (w.heap.size+1) 4 1 (.slice (some ⟨g,0,none⟩) (k+1) c') (k+1) (Cf (k+1) [])):=by
      refine⟨HCX.on hb8,?_⟩;rw[L6,List.replicate_succ',<-L6];exact ho8
     have i2:(k:Int)<(n1:Int):=oM;have wi:IntKind.i64.wrap ((k:Int)+1)=((k+1:Nat):Int):=by rw[IntKind.wrap_i64];omega
     clear hap hb8 ho8 how;go_wp2_with(at_builtin;refine AH rF _ _ _ rF _ _ _ rF rF HAP.out ?_);go_roundw
     case rel=>exact⟨HY8.1,k+1,_,_,oM,gN,rfl,HY8.2⟩
     case measure=>simp[intOf];omega
    have hkn1:k=n1:=oM;subst hkn1;have HSK0:Hid (SK (w.heap.size+1) k wr (.slice p k q) (.slice none 0 0) ⟨[],[]⟩ []):=SK.start wr _ b2 how;have e1:¬ (k:Int)<(k:Int):=oM;clear how hkl;go_wp2;clear e1 c0 c1 c2 c3 b1 b2
    go_loopw [7,9,10] (fun sv ov iv wr=>CX w (.slice p0 n0 q0) (.slice p1 k q1) (.slice p2 n2 q2) (.slice p3 n3 q3) wr/\∃ (j:Nat) (s:Wk) (us:List Value),j<=n3/\iv=.int .i64 (j:Int)/\Hid (SK (w.heap.size+1) k wr sv ov s us)/\Hid (D4 k s)/\Hid (D5 s)/\Hid (In c s j (c.list.drop j)=(RA,RB))) (fun _ _ iv _=>n3-(intOf iv).toNat)
    case atStart=>exact⟨HCX.out,0,⟨[],[]⟩,[],gI _,rfl,HSK0.out,D4.start k,D5.start,by show _=_;rw[List.drop_zero];exact HGO0.out⟩
    case round=>
     obtain⟨hcx,j,s,us,hj,rfl,hsk,hok,hpo,hgo⟩:=hrel;obtain⟨po,qo,rfl⟩:=At hsk.opn;obtain⟨ps,qs,rfl⟩:=At hsk.set;have HCX:Hid (CX w (.slice p0 n0 q0) (.slice p1 k q1) (.slice p2 n2 q2) (.slice p3 n3 q3) wr):=hcx;obtain⟨b1,b2,f0,f1,f2,f3⟩:=hcx;have hnest:=hok.nest;clear HSK0;by_cases hlt:j<n3
     .have hll:j<c.list.length:=by rw[HN3.out];exact hlt
      obtain⟨b,o,rfl,hx⟩:=HLIST.at hll;have hgo':=hgo.out;rw[List.drop_eq_getElem_cons hll]at hgo';have hgi:In c s j (c.list[j]::c.list.drop (j+1))=if AF c s c.list[j]then In c (Al s c.list[j]) (j+1) (c.list.drop (j+1))else(160,(j:Int)):=rfl;rw[hgi]at hgo';have hib:=HCO.ibits c.list[j] (gD hll);have hos:AF c s c.list[j]=true->D4 k (Al s c.list[j])/\D5 (Al s c.list[j]):=fun ht=>by
       have hq:D4 c.regs.length s:=by rw[HN1.out];exact hok.out
       have h5:=D4.step hq ht;rw[HN1.out]at h5;exact⟨h5,hpo.step ht⟩
      have htk:AF c s c.list[j]=true->B0 c c.list[j] (A5 c.list[j].op)=true/\Au c s c.list[j] (A5 c.list[j].op)=true:=fun ht=>by
       obtain⟨-,h5,h6,-⟩:=AX ht;exact⟨h5,h6⟩
      obtain⟨⟨op,D,A,Q,E,nn,bt⟩,hxx⟩:∃x:Am,c.list[j]=x:=⟨_,rfl⟩
      rw[hxx]at hx hgo' hos htk hib;have KS:=KU _ _ _ _ c HCO.out HT.out (⟨op,D,A,Q,E,nn,bt⟩:Am) hib.1 hib.2 (w.heap.size+1) s (.slice ps k qs) (.slice po s.opens.length qo) us (by rw[HN1.out];exact h1) (by rw[HN1.out];exact hok.out) hpo.out (wr.alloc (.cells #[.int .i64 op,.int .i64 D,.int .i64 A,.int .i64 Q,.int .i64 E,.int .i64 nn,.int .u32 bt] 55)) ((HCV.below b1).below (A0 _ _)) (by rw[HN1.out];exact hsk.below (A0 _ _));have x0:=kc b1 (hx.at 0 rfl);have x1:=kc b1 (hx.at 1 rfl);have x2:=kc b1 (hx.at 2 rfl);have x3:=kc b1 (hx.at 3 rfl);have x4:=kc b1 (hx.at 4 rfl);have x5:=kc b1 (hx.at 5 rfl);have x6:=kc b1 (hx.at 6 rfl);rw[Nat.add_zero]at x0;obtain⟨-,-,f0',f1',f2',f3'⟩:=HCX.next (A0 wr (.cells #[.int .i64 op,.int .i64 D,.int .i64 A,.int .i64 Q,.int .i64 E,.int .i64 nn,.int .u32 bt] 55));have HIX:Hid (∀v,Below (wr.alloc (.cells #[.int .i64 op,.int .i64 D,.int .i64 A,.int .i64 Q,.int .i64 E,.int .i64 nn,.int .u32 bt] 55)).heap.size (wr.alloc (.cells #[.int .i64 op,.int .i64 D,.int .i64 A,.int .i64 Q,.int .i64 E,.int .i64 nn,.int .u32 bt] 55)) v->v.cell? ⟨wr.heap.size,0,none⟩=some (.int .i64 op)/\v.cell? ⟨wr.heap.size,1,none⟩=some (.int .i64 D)/\v.cell? ⟨wr.heap.size,2,none⟩=some (.int .i64 A)/\v.cell? ⟨wr.heap.size,3,none⟩=some (.int .i64 Q)/\v.cell? ⟨wr.heap.size,4,none⟩=some (.int .i64 E)/\v.cell? ⟨wr.heap.size,5,none⟩=some (.int .i64 nn)/\v.cell? ⟨wr.heap.size,6,none⟩=some (.int .u32 bt)):=fun v hb=>⟨kc hb sG,kc hb sG,kc hb sG,kc hb sG,kc hb sG,kc hb sG,kc hb sG⟩
      obtain⟨T,hT⟩:=gA (AF c s (⟨op,D,A,Q,E,nn,bt⟩:Am))
      rw[hT]at hgo' hos htk KS;have HST:Hid (Calls prog 30 #[.agg #[.slice p0 n0 q0,.slice p1 k q1,.slice p2 n2 q2,.slice (some ⟨b,o,none⟩) n3 q3],.agg #[.int .i64 op,.int .i64 D,.int .i64 A,.int .i64 Q,.int .i64 E,.int .i64 nn,.int .u32 bt],.slice ps k qs,.slice po s.opens.length qo] (wr.alloc (.cells #[.int .i64 op,.int .i64 D,.int .i64 A,.int .i64 Q,.int .i64 E,.int .i64 nn,.int .u32 bt] 55)) fun e w'=>e=.returned (.bool T)/\Below (wr.alloc (.cells #[.int .i64 op,.int .i64 D,.int .i64 A,.int .i64 Q,.int .i64 E,.int .i64 nn,.int .u32 bt] 55)).heap.size (wr.alloc (.cells #[.int .i64 op,.int .i64 D,.int .i64 A,.int .i64 Q,.int .i64 E,.int .i64 nn,.int .u32 bt] 55)) w'):=KS;have HGO:Hid ((if T=true then In c (Al s (⟨op,D,A,Q,E,nn,bt⟩:Am)) (j+1) (c.list.drop (j+1))else(160,(j:Int)))=(RA,RB)):=hgo';have HOS:Hid (T=true->D4 k (Al s (⟨op,D,A,Q,E,nn,bt⟩:Am))/\D5 (Al s (⟨op,D,A,Q,E,nn,bt⟩:Am))):=hos;have HTK:Hid (T=true->B0 c (⟨op,D,A,Q,E,nn,bt⟩:Am) (A5 op)=true/\Au c s (⟨op,D,A,Q,E,nn,bt⟩:Am) (A5 op)=true):=htk;have k1:(0:Int)<=(j:Int):=oM;have k2:(j:Int)<(n3:Int):=oM;have wj:IntKind.i64.wrap ((j:Int)+1)=((j+1:Nat):Int):=by rw[IntKind.wrap_i64];omega
      clear KS hgo hgo' hgi hos htk hT hx hxx hib hll;cases T
      .have HQ:Hid ((160,(j:Int))=(RA,RB)):=by show _=_;have:=HGO.out;rw[if_neg dE]at this;exact this
       go_wp2_with(go_at_call 30;(with_reducible refine HST.out.mono ?_);rintro e w5 ⟨rfl,hb5⟩;have HB5:Hid (Below (wr.alloc (.cells #[.int .i64 op,.int .i64 D,.int .i64 A,.int .i64 Q,.int .i64 E,.int .i64 nn,.int .u32 bt] 55)).heap.size (wr.alloc (.cells #[.int .i64 op,.int .i64 D,.int .i64 A,.int .i64 Q,.int .i64 E,.int .i64 nn,.int .u32 bt] 55)) w5):=hb5;clear hb5 f0 f1 f2 f3;obtain⟨-,-,f0,f1,f2,f3⟩:=(HCX.out.next (A0 _ _)).next HB5.out;obtain⟨i0,i1,i2,i3,i4,i5,i6⟩:=HIX.out w5 HB5.out)
       go_ret2
       exact⟨FQ HQ.out,bel (bel HCX.bel (A0 _ _)) HB5.out⟩
      .have HO1:Hid (D4 k (Al s (⟨op,D,A,Q,E,nn,bt⟩:Am))/\D5 (Al s (⟨op,D,A,Q,E,nn,bt⟩:Am))):=HOS.out rfl;have HG1:Hid (In c (Al s (⟨op,D,A,Q,E,nn,bt⟩:Am)) (j+1) (c.list.drop (j+1))=(RA,RB)):=by show _=_;have:=HGO.out;rw[if_pos rfl]at this;exact this
       have HTK1:Hid (B0 c (⟨op,D,A,Q,E,nn,bt⟩:Am) (A5 op)=true/\Au c s (⟨op,D,A,Q,E,nn,bt⟩:Am) (A5 op)=true):=HTK.out rfl;have HOB:Hid (∀g,(Value.slice po s.opens.length qo).ownBlock=some g->g<wr.heap.size):=fun g e=>(hsk.opn.lt g e).2;clear HGO HOS HTK;by_cases hop:op=34\/op=36
       .have hn64:s.opens.length<64:=Fv (i:=(⟨op,D,A,Q,E,nn,bt⟩:Am)) HTK1.2 hop;have HOP:Hid (op=34\/op=36):=hop;have HCP:Hid (∀v,Below wr.heap.size wr v->Calls prog 31 #[.slice ps k qs] v fun e w'=>∃u,e=.returned u/\w'.ownsRow v.heap.size 4 1 u k (Cf k s.set)/\Below v.heap.size v w'):=fun v hb=>GB _ h1 v (AA hsk.set hb);have hq:((op==34)=true)\/((op==34)=false/\(op==36)=true):=by
         rcases hop with e|e
         .exact .inl (by simpa using e)
         .exact .inr ⟨by rw[e];decide,by simpa using e⟩
        clear hop;rcases hq with r1|⟨r1,r2⟩
        all_goals
         go_wp2_with(go_at_call 30;(with_reducible refine HST.out.mono ?_);rintro e w5 ⟨rfl,hb5⟩;have HB5:Hid (Below (wr.alloc (.cells #[.int .i64 op,.int .i64 D,.int .i64 A,.int .i64 Q,.int .i64 E,.int .i64 nn,.int .u32 bt] 55)).heap.size (wr.alloc (.cells #[.int .i64 op,.int .i64 D,.int .i64 A,.int .i64 Q,.int .i64 E,.int .i64 nn,.int .u32 bt] 55)) w5):=hb5;have HBR:Hid (Below wr.heap.size wr w5):=bel (A0 _ _) hb5;clear hb5 f0 f1 f2 f3;obtain⟨-,-,f0,f1,f2,f3⟩:=(HCX.out.next (A0 _ _)).next HB5.out;obtain⟨i0,i1,i2,i3,i4,i5,i6⟩:=HIX.out w5 HB5.out);refine rG (fun v=>v.cell? ⟨wr.heap.size,0,none⟩=some (.int .i64 op)/\v.cell? ⟨wr.heap.size,5,none⟩=some (.int .i64 nn)) fun hJ=>?_;refine Tf 0 1 2 3 4 5 ?_;clear hJ;refine AC 6 fun K hK=>?_;go_simp;(go_at_call 31;(with_reducible refine(HCP.out _ (bel HBR.out (A4 _))).mono ?_);rintro e w6 ⟨u,rfl,hu,hb6⟩;obtain⟨pu,qu,rfl⟩:=At hu;have hb66:Below w5.heap.size w5 w6:=bel (A4 _) hb6;obtain⟨g',c',w7,hrun,hb7,hsk7,hoth⟩:=SK.push (i:=(⟨op,D,A,Q,E,nn,bt⟩:Am)) (hsk.out.below HBR.out) hb66 hu HOP.out hn64 89;dsimp only at hrun;have HRUN:Hid _:=hrun;have HX7:Hid (CX w (.slice p0 n0 q0) (.slice p1 k q1) (.slice p2 n2 q2) (.slice (some ⟨b,o,none⟩) n3 q3) w7):=((HCX.out.next (A0 _ _)).next HB5.out).on hb7;have HS7:Hid (SK (w.heap.size+1) k w7 (.slice ps k qs) (.slice (some ⟨g',0,none⟩) (s.opens.length+1) c') (Al s (⟨op,D,A,Q,E,nn,bt⟩:Am)) (us++[.slice pu k qu])):=hsk7;have j0:=kc hb66 i0;have j5:=kc hb66 i5;have hwl:wr.heap.size<w6.heap.size:=A3 j0;have hne:(Value.slice po s.opens.length qo).ownBlock≠some wr.heap.size:=(fun e=>Nat.lt_irrefl _ (HOB.out _ e));have m0:w7.cell? ⟨wr.heap.size,0,none⟩=some (.int .i64 op):=(gC (hoth _ hwl hne)).trans j0;have m5:w7.cell? ⟨wr.heap.size,5,none⟩=some (.int .i64 nn):=(gC (hoth _ hwl hne)).trans j5;have a0:∀x,(w6.alloc x).cell? ⟨wr.heap.size,0,none⟩=some (.int .i64 op):=(fun x=>kc (A0 _ _) j0);have a5:∀x,(w6.alloc x).cell? ⟨wr.heap.size,5,none⟩=some (.int .i64 nn):=(fun x=>kc (A0 _ _) j5);clear hu hb6 hb66 hrun hb7 hsk7 hoth hne i0 i5);try(go_wp2_with fail)
         refine AB hK fun hJ=>?_;clear hK K;refine Bm 7 ?_;clear hJ;refine AC 8 fun K hK=>?_;go_simp;refine AB hK fun hJ=>?_;clear hK K;clear hJ;refine AC 9 fun K hK=>?_;refine E0 _ _ _ rF _ _ _ rF rF HRUN.out ?_ _ rF;refine AB hK fun hJ=>?_;clear hK K;refine Bm 10 ?_;refine wpAnyH_done kR ?_ _;go_wp2;go_roundw
         case rel=>exact⟨HX7.out,j+1,Al s (⟨op,D,A,Q,E,nn,bt⟩:Am),us++[Value.slice pu k qu],oM,gN,HS7,HO1.1,HO1.2,HG1.out⟩
         case measure=>simp[intOf];omega
       have q34:(op==34)=false:=by have:op≠34:=fun e=>hop (.inl e);simpa using this
       have q36:(op==36)=false:=by have:op≠36:=fun e=>hop (.inr e);simpa using this
       have HNO:Hid (op≠34/\op≠36):=⟨fun e=>hop (.inl e),fun e=>hop (.inr e)⟩
       clear hop;by_cases h35:op=35
       .have hmay:=HTK1.2;unfold Au at hmay;rw[if_neg (fun e=>e.elim HNO.1 HNO.2),if_pos h35]at hmay;simp only[Bool.and_eq_true,Bool.not_eq_true']at hmay;have hn0:0<s.opens.length:=by
         rcases Nat.eq_zero_or_pos s.opens.length with e|e
         .have:=List.length_eq_zero_iff.1 e;rw[this]at hmay;exact absurd hmay.1 dE
         .exact e
        have HLP:Hid (Aq s=false):=hmay.2;obtain⟨g,cap,eo,-⟩:=hsk.opn.form hn0;simp only[Value.slice.injEq]at eo;obtain⟨rfl,-,-⟩:=eo;obtain⟨X,u,hX,hu,-,-,z2⟩:=hsk.last hn0;obtain⟨pu,qu,rfl⟩:=At hu;have HXO:Hid ((Is s)[s.opens.length-1]? =some ⟨if Aq s then 36 else 34,BT s,X⟩):=hX;have HCP:Hid (∀v,Below wr.heap.size wr v->Calls prog 31 #[.slice pu k qu] v fun e w'=>∃u,e=.returned u/\w'.ownsRow v.heap.size 4 1 u k (Cf k X)/\Below v.heap.size v w'):=fun v hb=>GB _ h1 v (AA hu hb);have s1:=fun w=>DJ V0 Sd (some ⟨g,0,none⟩) s.opens.length qo (s.opens.length-1) (by have:=Jv hsk.opn;omega) w;have HN0':Hid (0<s.opens.length):=hn0;obtain⟨N,hN⟩:=gA (s.opens.length)
        obtain⟨m,hm⟩:=gA (N-1)
        have HNN:Hid (s.opens.length=N):=hN;have HMM:Hid (N-1=m):=hm;rw[hN]at z2 s1 hn0 hnest;rw[hm]at z2 s1;rw[hN]at HST;rw[hN];have hw:IntKind.i64.wrap ((N:Int)-1)=(m:Int):=by rw[IntKind.wrap_i64];omega
        have r1:(0:Int)<=(m:Int):=oM;have r2:(m:Int)<(N:Int):=oM;have q35:(op==35)=true:=by simpa using h35
        have HOP:Hid (op=35\/op=37):=.inl h35;clear hmay hX hu h35 hN hm;go_wp2_with(first
         |(go_at_call 30;(with_reducible refine HST.out.mono ?_);rintro e w5 ⟨rfl,hb5⟩;have HB5:Hid (Below (wr.alloc (.cells #[.int .i64 op,.int .i64 D,.int .i64 A,.int .i64 Q,.int .i64 E,.int .i64 nn,.int .u32 bt] 55)).heap.size (wr.alloc (.cells #[.int .i64 op,.int .i64 D,.int .i64 A,.int .i64 Q,.int .i64 E,.int .i64 nn,.int .u32 bt] 55)) w5):=hb5;have HBR:Hid (Below wr.heap.size wr w5):=bel (A0 _ _) hb5;clear hb5 f0 f1 f2 f3;obtain⟨-,-,f0,f1,f2,f3⟩:=(HCX.out.next (A0 _ _)).next HB5.out;have z5:=kc HBR.out z2;obtain⟨i0,i1,i2,i3,i4,i5,i6⟩:=HIX.out w5 HB5.out)
         |(go_at_call 31;(with_reducible refine(HCP.out _ HBR.out).mono ?_);rintro e w6 ⟨u,rfl,hu,hb6⟩;have HU6:Hid (w6.ownsRow w5.heap.size 4 1 u k (Cf k X)):=hu;have HB6:Hid (Below w5.heap.size w5 w6):=hb6;clear hu hb6))
        go_roundw
        case rel=>
         refine⟨((HCX.next (A0 _ _)).next HB5.out).next HB6.out,j+1,Al s (⟨op,D,A,Q,E,nn,bt⟩:Am),us.take (s.opens.length-1),oM,gN,?_,HO1.1,HO1.2,HG1.out⟩;have e1:Al s (⟨op,D,A,Q,E,nn,bt⟩:Am)=AE s:=JI HOP.out;have h9:=SK.back (hsk.below HBR.out) hok.out HN0'.out HLP.out HB6.out HXO.out HU6.out;rw[e1,<-HMM.out,<-HNN.out];exact h9
        case measure=>simp[intOf];omega
       have q35:(op==35)=false:=by simpa using h35
       by_cases h37:op=37
       .have hmay:=HTK1.2;unfold Au at hmay;rw[if_neg (fun e=>e.elim HNO.1 HNO.2),if_neg h35,if_pos h37]at hmay;have hn0:0<s.opens.length:=by
         rcases Nat.eq_zero_or_pos s.opens.length with e|e
         .have:=List.length_eq_zero_iff.1 e;unfold Aq at hmay;rw[this]at hmay;exact absurd hmay dE
         .exact e
        have HLP:Hid (Aq s=true):=hmay;have s1:=fun w=>DJ V0 Sd po s.opens.length qo (s.opens.length-1) (by have:=Jv hsk.opn;omega) w;have HN0':Hid (0<s.opens.length):=hn0;obtain⟨N,hN⟩:=gA (s.opens.length)
        obtain⟨m,hm⟩:=gA (N-1)
        have HNN:Hid (s.opens.length=N):=hN;have HMM:Hid (N-1=m):=hm;rw[hN]at s1 hn0 hnest;rw[hm]at s1;rw[hN]at HST;rw[hN];have hw:IntKind.i64.wrap ((N:Int)-1)=(m:Int):=by rw[IntKind.wrap_i64];omega
        have r1:(0:Int)<=(m:Int):=oM;have r2:(m:Int)<(N:Int):=oM;have q37:(op==37)=true:=by simpa using h37
        have HOP:Hid (op=35\/op=37):=.inr h37;clear hmay h35 h37 hN hm;go_wp2_with(go_at_call 30;(with_reducible refine HST.out.mono ?_);rintro e w5 ⟨rfl,hb5⟩;have HB5:Hid (Below (wr.alloc (.cells #[.int .i64 op,.int .i64 D,.int .i64 A,.int .i64 Q,.int .i64 E,.int .i64 nn,.int .u32 bt] 55)).heap.size (wr.alloc (.cells #[.int .i64 op,.int .i64 D,.int .i64 A,.int .i64 Q,.int .i64 E,.int .i64 nn,.int .u32 bt] 55)) w5):=hb5;have HBR:Hid (Below wr.heap.size wr w5):=bel (A0 _ _) hb5;clear hb5 f0 f1 f2 f3;obtain⟨-,-,f0,f1,f2,f3⟩:=(HCX.out.next (A0 _ _)).next HB5.out;obtain⟨i0,i1,i2,i3,i4,i5,i6⟩:=HIX.out w5 HB5.out);go_roundw
        case rel=>
         refine⟨(HCX.next (A0 _ _)).next HB5.out,j+1,Al s (⟨op,D,A,Q,E,nn,bt⟩:Am),us.take (s.opens.length-1),oM,gN,?_,HO1.1,HO1.2,HG1.out⟩;have e1:Al s (⟨op,D,A,Q,E,nn,bt⟩:Am)=AE s:=JI HOP.out;have h9:=SK.pop (hsk.below HBR.out) hok.out HN0'.out HLP.out;rw[e1,<-HMM.out,<-HNN.out];exact h9
        case measure=>simp[intOf];omega
       have q37:(op==37)=false:=by simpa using h37
       have HNP:Hid (op≠34/\op≠35/\op≠36/\op≠37):=⟨HNO.1,h35,HNO.2,h37⟩
       have KE:=Ph (⟨op,D,A,Q,E,nn,bt⟩:Am);unfold Sa at KE;simp only at KE;have hdr:(A5 op).d≠0->0<=D/\D<(k:Int):=fun hd=>by
        have:=Ac (Dl HTK1.1) hd;rw[HN1.out]at this;exact this
       clear h35 h37;by_cases hsd:(A5 op).d=0
       .have e9:((A5 op).d != 0)=false:=by simp[hsd]
        rw[e9]at KE;have HKE:Hid (∀v,Calls prog 32 #[.agg #[.int .i64 op,.int .i64 D,.int .i64 A,.int .i64 Q,.int .i64 E,.int .i64 nn,.int .u32 bt]] v fun e w'=>e=.returned (.bool false)/\Below v.heap.size v w'):=KE;have HSD:Hid ((A5 op).d=0):=hsd;clear KE e9 hdr hsd;go_wp2_with(first
         |(go_at_call 30;(with_reducible refine HST.out.mono ?_);rintro e w5 ⟨rfl,hb5⟩;have HB5:Hid (Below (wr.alloc (.cells #[.int .i64 op,.int .i64 D,.int .i64 A,.int .i64 Q,.int .i64 E,.int .i64 nn,.int .u32 bt] 55)).heap.size (wr.alloc (.cells #[.int .i64 op,.int .i64 D,.int .i64 A,.int .i64 Q,.int .i64 E,.int .i64 nn,.int .u32 bt] 55)) w5):=hb5;have HBR:Hid (Below wr.heap.size wr w5):=bel (A0 _ _) hb5;clear hb5 f0 f1 f2 f3;obtain⟨-,-,f0,f1,f2,f3⟩:=(HCX.out.next (A0 _ _)).next HB5.out;obtain⟨i0,i1,i2,i3,i4,i5,i6⟩:=HIX.out w5 HB5.out)
         |(go_at_call 32;(with_reducible refine(HKE.out _).mono ?_);rintro e w6 ⟨rfl,hb6⟩;have HB6:Hid (Below w5.heap.size w5 w6):=hb6;clear hb6))
        go_roundw
        case rel=>exact⟨((HCX.next (A0 _ _)).next HB5.out).next HB6.out,j+1,Al s (⟨op,D,A,Q,E,nn,bt⟩:Am),us,oM,gN,SK.keep ((hsk.below HBR.out).below HB6.out) hok.out HNP.1 HNP.2.1 HNP.2.2.1 HNP.2.2.2 HSD.out,HO1.1,HO1.2,HG1.out⟩
        case measure=>simp[intOf];omega
       .have e9:((A5 op).d != 0)=true:=by simp[hsd]
        rw[e9]at KE;have HKE:Hid (∀v,Calls prog 32 #[.agg #[.int .i64 op,.int .i64 D,.int .i64 A,.int .i64 Q,.int .i64 E,.int .i64 nn,.int .u32 bt]] v fun e w'=>e=.returned (.bool true)/\Below v.heap.size v w'):=KE;have HSD:Hid ((A5 op).d≠0):=hsd;obtain⟨d,rfl⟩:∃d:Nat,D=(d:Int):=⟨D.toNat,by have:=hdr hsd;omega⟩
        have hd2:=(hdr hsd).2;obtain⟨gs,cap,eo,hgs,-⟩:=hsk.set.form oM;simp only[Value.slice.injEq]at eo;obtain⟨rfl,-,-⟩:=eo;have d0:(0:Int)<=(d:Int):=oM;have HG9:Hid (w.heap.size+1<=gs):=(hsk.set.lt gs rfl).1;have HCE:Hid (∀v,Below wr.heap.size wr v->v.cell? ⟨gs,d,none⟩=some (.bool (decide (d∈s.set)))/\v.frozen? ⟨gs,d,none⟩=false):=fun v hb=>by
         have h9:=AA hsk.set hb;exact⟨by rw[h9.cellAt d oM,FV oM],h9.frozenAt d⟩
        clear KE e9 hdr hsd;go_wp2_with(first
         |(go_at_call 30;(with_reducible refine HST.out.mono ?_);rintro e w5 ⟨rfl,hb5⟩;have HB5:Hid (Below (wr.alloc (.cells #[.int .i64 op,.int .i64 (d:Int),.int .i64 A,.int .i64 Q,.int .i64 E,.int .i64 nn,.int .u32 bt] 55)).heap.size (wr.alloc (.cells #[.int .i64 op,.int .i64 (d:Int),.int .i64 A,.int .i64 Q,.int .i64 E,.int .i64 nn,.int .u32 bt] 55)) w5):=hb5;have HBR:Hid (Below wr.heap.size wr w5):=bel (A0 _ _) hb5;clear hb5 f0 f1 f2 f3;obtain⟨-,-,f0,f1,f2,f3⟩:=(HCX.out.next (A0 _ _)).next HB5.out;obtain⟨i0,i1,i2,i3,i4,i5,i6⟩:=HIX.out w5 HB5.out)
         |(go_at_call 32;(with_reducible refine(HKE.out _).mono ?_);rintro e w6 ⟨rfl,hb6⟩;have HB6:Hid (Below w5.heap.size w5 w6):=hb6;obtain⟨y8,y9⟩:=HCE.out w6 (bel HBR.out hb6);have i1:=kc hb6 i1;clear hb6))
        go_roundw
        case rel=>exact⟨(((HCX.next (A0 _ _)).next HB5.out).next HB6.out).on ((Below.refl _ _).setCell HG9.out _),j+1,Al s ⟨op,(d:Int),A,Q,E,nn,bt⟩,us,oM,gN,SK.ins (i:=⟨op,(d:Int),A,Q,E,nn,bt⟩) ((hsk.below HBR.out).below HB6.out) hok.out HNP.1 HNP.2.1 HNP.2.2.1 HNP.2.2.2 HSD.out (by have:=hd2;show d<k;omega),HO1.1,HO1.2,HG1.out⟩
        case measure=>simp[intOf];omega
     .have hjn3:j=n3:=oM;have hgo':=hgo.out;rw[List.drop_of_length_le (by rw[HN3.out,hjn3];exact gF _)]at hgo';have hgi:In c s j []=if s.opens.isEmpty then(0,0)else(160,(j:Int)):=rfl;rw[hgi]at hgo';obtain⟨N,hN⟩:=gA (s.opens.length)
      have hE:s.opens.isEmpty=decide (N=0):=by
       rw[<-hN];cases s.opens with
       |nil=>rfl
       |cons a l=>simp
      rw[hE]at hgo';have HGO:Hid ((if decide (N=0)=true then((0:Int),(0:Int))else(160,(j:Int)))=(RA,RB)):=hgo';rw[hN]at hnest;rw[hN];have e1:¬ (j:Int)<(n3:Int):=oM;clear hgo hgo' hgi hE hN hlt;by_cases hz:N=0
      .have HQ:Hid ((0,0)=(RA,RB)):=by show _=_;have:=HGO.out;rw[if_pos (by simpa using hz)]at this;exact this
       subst hz;go_wp2
       go_ret2
       exact⟨FQ HQ.out,HCX.bel⟩
      .have HQ:Hid ((160,(j:Int))=(RA,RB)):=by show _=_;have:=HGO.out;rw[if_neg (by simpa using hz)]at this;exact this
       have hz':(0:Int)<(N:Int):=oM;have HJ:Hid ((j:Int)=(n3:Int)):=by show _=_;omega
       clear hz;go_wp2;refine rG (fun v=>v.cell? ⟨w.heap.size,3,none⟩=some (.slice p3 n3 q3)) fun hJ=>?_;refine Tc 0 1 2 ?_;refine Tb 3 4 ?_;refine wpAnyH_done kR ?_ _;go_wp2
       go_ret2
       refine⟨FQ ?_,CT HCX.bel⟩;rw[<-HJ.out];exact HQ.out

def CN(c:Cd)(f:Fr)(r:Nat):Prop:=(A7 c.regs (r:Int)).kind=3->(f.vecs r).length=lenOf c (A7 c.regs (r:Int)).par
theorem Dn{rs:List Ty}{l n:Int}{m:Ty}(h:A8 rs l n m=true)(h0:0<rs.length):0<=n/\n<(rs.length:Int):=by
 by_cases hl:l=0
 .unfold A8 at h;rw[if_pos hl]at h;simp only[beq_iff_eq]at h;omega
 .exact Ac h hl
theorem AQ{rs:List Ty}{l n:Int}{m:Ty}(h:A8 rs l n m=true)(hl:l≠0):AN l (A7 rs n) m=true:=by
 unfold A8 at h;rw[if_neg hl]at h;simp only[Bool.and_eq_true]at h;exact h.2
theorem Tm{c:Cd}{i:Am}{r:Rw}(h:B0 c i r=true):AV c i r.n (Ap c.regs i r)=true:=by
 unfold B0 at h;simp only[Bool.and_eq_true]at h;exact h.2.2.2.2
theorem Ku{s:Wk}{i:Am}{r:Rw}(h:EK s i r=true){n:Int}(hn:n∈Ao i r):n.toNat∈s.set:=by
 unfold EK at h;have:=List.all_eq_true.1 h n hn;simpa using this
structure Cz(c:Cd)(f:Fr)(i:Am):Prop where
 num:Eg i.op=true->0<=i.d/\i.d<(c.regs.length:Int)/\(i.op≠1->0<=i.a/\i.a<(c.regs.length:Int))/\(i.op=16->0<=i.b/\i.b<(c.regs.length:Int))/\(A7 c.regs i.d).kind=1
 whole:Bn i.op=true->0<=i.d/\i.d<(c.regs.length:Int)/\(0<=i.a/\i.a<(c.regs.length:Int))/\(0<=i.b/\i.b<(c.regs.length:Int))/\(0<=i.c/\i.c<(c.regs.length:Int))/\(A7 c.regs i.d).kind=2/\(i.op=2->0<=i.n/\i.n<=2147483647)
 part:i.op=29\/i.op=30->LG c i.d i.n
 out:i.op=31->LG c i.a i.n/\(f.vecs i.a.toNat).length=lenOf c (A7 c.regs i.a).par
 load:i.op=32->0<=i.d/\i.d<(c.regs.length:Int)/\0<=i.n/\i.n<(c.slots.length:Int)/\BZ c.slots i.n=A7 c.regs i.d
 store:i.op=33->0<=i.a/\i.a<(c.regs.length:Int)/\0<=i.n/\i.n<(c.slots.length:Int)/\BZ c.slots i.n=A7 c.regs i.a/\CN c f i.a.toNat
 elem:As i.op=true->0<=i.d/\i.d<(c.regs.length:Int)/\(0<=i.a/\i.a<(c.regs.length:Int))/\∀r∈Ao i (A5 i.op),0<=r/\r<(c.regs.length:Int)/\CN c f r.toNat/\(A7 c.regs r=A7 c.regs i.d\/((A7 c.regs r).kind=1/\(A7 c.regs i.d).kind=3))
theorem IM{i:Am}{r:Rw}(h:r.a≠0):i.a∈Ao i r:=by unfold Ao;simp[h]
theorem Nt{c:Cd}{f:Fr}{s:Wk}{i:Am}(t:AF c s i=true)(hs:∀r∈s.set,CN c f r):Cz c f i:=by
 obtain⟨_,h2,_,h4⟩:=AX t;have hd:=Dl h2;have ha:=CQ h2;have hb:=EU h2;have hc:=EV h2;have hn:=Tm h2;have hr:=fun{n:Int} (hn:n∈Ao i (A5 i.op))=>hs _ (Ku h4 hn);obtain⟨op,D,A,B,Ec,nn,bt⟩:=i;simp only at *;refine⟨fun h=>?_,fun h=>?_,fun h=>?_,fun h=>?_,fun h=>?_,fun h=>?_,fun h=>?_⟩
 .unfold Eg at h;simp only[Bool.or_eq_true,beq_iff_eq]at h;have hop:op=1\/op=16\/op=17\/op=19\/op=20:=oM;clear h;rcases hop with rfl|rfl|rfl|rfl|rfl
  all_goals
   have d:=Ac hd dE;have dm:=AQ hd dE;have a1:=Dn ha oM;have b1:=Dn hb oM;exact⟨d.1,d.2,fun _=>a1,fun _=>b1,by simpa[AN,A5]using dm⟩
 .unfold Bn at h;simp only[Bool.or_eq_true,Bool.and_eq_true,beq_iff_eq,decide_eq_true_eq]at h;have hop:op=2\/op=18\/op=21\/op=22\/op=23\/op=24\/op=25\/op=26\/op=27\/op=28:=oM;clear h;rcases hop with rfl|rfl|rfl|rfl|rfl|rfl|rfl|rfl|rfl|rfl
  all_goals
   have d:=Ac hd dE;have dm:=AQ hd dE;have a1:=Dn ha oM;have b1:=Dn hb oM;have c1:=Dn hc oM;refine⟨d.1,d.2,a1,b1,c1,by simpa[AN,A5]using dm,fun e=>?_⟩;simp[AV,A5,Fh,Cs]at hn;show 0<=nn/\nn<=2147483647;omega
 .rcases h with rfl|rfl
  all_goals
   have d:=Ac hd dE;have dm:=AQ hd dE;refine⟨d.1,d.2,by simpa[AN,A5]using dm,?_⟩;simp[AV,A5,Fh,Ap,Eh]at hn;first|exact hn.2|(simpa using hn.2)
 .subst h;have d:=Ac ha dE;have dm:=AQ ha dE;have k3:(A7 c.regs A).kind=3:=by simpa[AN,A5]using dm
  refine⟨⟨d.1,d.2,k3,?_⟩,?_⟩
  .simp[AV,A5,Fh,Ap,Eh]at hn;first|exact hn.2|(simpa using hn.2)
  .have:=hr (n:=A) (IM (r:=A5 31) dE);have e:((A.toNat:Nat):Int)=A:=oM;unfold CN at this;rw[e]at this;exact this k3
 .subst h;have d:=Ac hd dE;simp[AV,A5,Fh,Ap,Eh]at hn;have:=CD.1 hn.2.1;exact⟨d.1,d.2,this.1,this.2,hn.2.2⟩
 .subst h;have d:=Ac ha dE;simp[AV,A5,Fh,Ap,Eh]at hn;have:=CD.1 hn.2.1;exact⟨d.1,d.2,this.1,this.2,hn.2.2,hr (n:=A) (IM (r:=A5 33) dE)⟩
 .unfold As at h;simp only[Bool.and_eq_true,decide_eq_true_eq]at h;have hop:op=3\/op=4\/op=5\/op=6\/op=7\/op=8\/op=9\/op=10\/op=11\/op=12\/op=13\/op=14\/op=15:=oM;clear h;rcases hop with rfl|rfl|rfl|rfl|rfl|rfl|rfl|rfl|rfl|rfl|rfl|rfl|rfl
  all_goals
   have d:=Ac hd dE;have a1:=Ac ha dE;refine⟨d.1,d.2,a1,fun r hrr=>⟨?_,?_,hr hrr,?_⟩⟩
   all_goals
    have am:=AQ ha dE;simp[Ao,A5]at hrr;first
     |(
      have bm:=AQ hb dE;have b1:=Ac hb dE;have cm:=AQ hc dE;have c1:=Ac hc dE;simp[AN,A5,Ap,Eh]at am bm cm
      rcases hrr with rfl|rfl|rfl<;>first|omega|(simpa using am)|(simpa using bm)|(simpa using cm))
     |(
      have bm:=AQ hb dE;have b1:=Ac hb dE;simp[AN,A5,Ap,Eh]at am bm
      rcases hrr with rfl|rfl<;>first|omega|(simpa using am)|(simpa using bm))
     |(
      simp[AN,A5,Ap,Eh]at am;subst hrr
      first|omega|(simpa using am))
theorem Mf(X:Nat->Int)(n:Nat)(hX:∀i,Ar (X i)):Ar (Dy X n):=Ey Jl (by unfold Ar;decide) hX n
theorem CC{c:Cd}(hg:Good c){r:Int}(h0:0<=r)(h1:r<(c.regs.length:Int))(h3:(A7 c.regs r).kind=3):1<=lenOf c (A7 c.regs r).par/\AO c (A7 c.regs r)=lenOf c (A7 c.regs r).par:=by
 obtain⟨r,rfl⟩:∃j:Nat,r=(j:Int):=⟨r.toNat,oM⟩
 have hr:r<c.regs.length:=oM;rw[D8 hr]at h3 |-;have hp:=CD.1 (hg.type (gD hr) h3);obtain⟨pp,hpp⟩:=gA (c.regs[r].par)
 refine⟨?_,by unfold AO;rw[if_pos h3]⟩;rw[hpp]at hp |-;obtain⟨p,rfl⟩:∃j:Nat,pp=(j:Int):=⟨pp.toNat,oM⟩
 obtain⟨_,e2,e3,_⟩:=Hr hg (p:=p) oM;omega
theorem QX{c:Cd}{f:Fr}(hg:Good c)(ok:Ij c f){r:Int}(h0:0<=r)(h1:r<(c.regs.length:Int))(hs:CN c f r.toNat):LD c (A7 c.regs r) (CP c f r):=by
 have e:((r.toNat:Nat):Int)=r:=oM;unfold CN at hs;rw[e]at hs;have hty:(A7 c.regs r).kind=1\/(A7 c.regs r).kind=2\/(A7 c.regs r).kind=3:=by
  obtain⟨r,rfl⟩:∃j:Nat,r=(j:Int):=⟨r.toNat,oM⟩
  have hr:r<c.regs.length:=oM;rw[D8 hr];exact Z6
 unfold CP LD;rcases hty with h|h|h
 .rw[if_pos h];refine⟨by unfold AO;rw[if_neg oM,if_pos h];rfl,fun y hy=>?_,Int.le_refl _,by show(0:Int)<=2147483647;decide⟩;simp at hy;rw[hy];exact ok.nums _
 .rw[if_neg oM,if_pos h];exact⟨by unfold AO;rw[if_neg oM,if_neg oM];rfl,fun y hy=>by simp at hy,ok.whs _⟩
 .rw[if_neg oM,if_neg oM];refine⟨?_,ok.vecs _,Int.le_refl _,by show(0:Int)<=2147483647;decide⟩;rw[(CC hg h0 h1 h).2];exact hs h
theorem SU{op:Int}{args:List (List Int)}(h:∀l∈args,∀y∈l,Ar y):∀y∈C5 op args,Ar y:=by
 have hX:∀i j,Ar (xF args i j):=fun i j=>by
  exact YS
 intro y hy;unfold C5 at hy;split at hy
 .simp only[List.mem_map]at hy;obtain⟨k,_,rfl⟩:=hy;exact Nn _ _ _ _ (By hX _ _ _) (By hX _ _ _) (By hX _ _ _)
 .cases hy
theorem ES{c:Cd}{f:Fr}{i:Am}(hg:Good c)(ok:Ij c f)(he:As i.op=true)(nd:Cz c f i)(hk:(A7 c.regs i.d).kind≠2):
 1<=AO c (A7 c.regs i.d)/\(∀r∈Ao i (A5 i.op),0<=r/\r<(c.regs.length:Int)/\((CP c f r).pats.length=1\/(CP c f r).pats.length=AO c (A7 c.regs i.d))/\∀y∈(CP c f r).pats,Ar y)/\((A7 c.regs i.d).kind=1\/(A7 c.regs i.d).kind=3):=by
 obtain⟨d0,d1,_,hr⟩:=nd.elem he;have hty:(A7 c.regs i.d).kind=1\/(A7 c.regs i.d).kind=3:=by
  obtain⟨r,hrr⟩:∃j:Nat,i.d=(j:Int):=⟨i.d.toNat,oM⟩
  rw[hrr]at hk d1 |-;have hr:r<c.regs.length:=oM;rw[D8 hr]at hk |-;exact Z6
 refine⟨?_,fun r hm=>?_,hty⟩
 .rcases hty with h|h
  .unfold AO;rw[if_neg oM,if_pos h];exact gF _
  .rw[(CC hg d0 d1 h).2];exact(CC hg d0 d1 h).1
 .obtain⟨r0,r1,hs,hm2⟩:=hr r hm;have hh:=QX hg ok r0 r1 hs;refine⟨r0,r1,?_,hh.2.1⟩;rcases hm2 with e|⟨e,_⟩
  .right;rw[<-e];exact hh.1
  .left;rw[hh.1];unfold AO;rw[if_neg oM,if_pos e]
theorem DP{c:Cd}{f:Fr}{i:Am}(hg:Good c)(ok:Ij c f)(he:As i.op=true)(nd:Cz c f i)(hk:(A7 c.regs i.d).kind≠2):
 ((C5 i.op (Bb c f i)).length=1\/(C5 i.op (Bb c f i)).length=AO c (A7 c.regs i.d))/\∀y∈C5 i.op (Bb c f i),Ar y:=by
 obtain⟨h1,h2,_⟩:=ES hg ok he nd hk;have hall:∀l∈Bb c f i,(l.length=1\/l.length=AO c (A7 c.regs i.d))/\∀y∈l,Ar y:=by
  intro l hl;unfold Bb at hl;simp only[List.mem_map]at hl;obtain⟨r,hr,rfl⟩:=hl;exact(h2 r hr).2.2
 have hne:(Bb c f i).length≠0:=by
  unfold Bb;rw[List.length_map,<-(EO i he).1];exact(EO i he).2
 obtain⟨n,hn,hn2⟩:=IJ (l:=lF (Bb c f i)) h1 ((Bb c f i).length-1) (fun k hk=>by
  unfold lF;rw[G2 oM]
  exact(hall _ (gD _)).1)
 exact⟨by rw[(N9 (op:=i.op) hn).1];exact hn2,SU fun l hl=>(hall l hl).2⟩
theorem Hm{l:List Int}(h:∀y∈l,Ar y):Ar (l.headD 0):=by
 cases l with
 |nil=>exact Hl
 |cons y l=>exact h y sM
theorem UX{c:Cd}{f:Fr}(ok:Ij c f){r:Int}{h:Hd}(hp:∀y∈h.pats,Ar y)(hl:h.pats.length<=4096)(hw:0<=h.whole/\h.whole<=2147483647):Ij c (MR c f r h):=by
 unfold MR;split
 .exact⟨BA ok.nums (Hm hp),ok.whs,ok.vecs,ok.vecsL,ok.slotsL,ok.slots⟩
 .split
  .exact⟨ok.nums,BA (Q:=fun y:Int=>0<=y/\y<=2147483647) ok.whs hw,ok.vecs,ok.vecsL,ok.slotsL,ok.slots⟩
  .exact⟨ok.nums,ok.whs,BA (Q:=fun l:List Int=>∀y∈l,Ar y) ok.vecs hp,BA (Q:=fun l:List Int=>l.length<=4096) ok.vecsL hl,ok.slotsL,ok.slots⟩
theorem Sj{c:Cd}{f:Fr}{r:Int}(hr:0<=r){h:Hd}(hl:(A7 c.regs r).kind=3->h.pats.length=lenOf c (A7 c.regs r).par){k:Nat}(hk:k≠r.toNat->CN c f k):CN c (MR c f r h) k:=by
 intro h3;by_cases e:k=r.toNat
 .have e2:(k:Int)=r:=oM;rw[e2]at h3 |-;unfold MR;rw[if_neg oM,if_neg oM];simp only;rw[e,Ct];exact hl h3
 .have:=hk e h3;unfold MR;split
  .exact this
  .split
   .exact this
   .simp only;rw[Cv _ _ e];exact this
theorem EG{op:Int}(h:An op=true):Eg op=true\/Bn op=true\/op=29\/op=30\/op=31\/op=32\/op=33\/(34<=op/\op<=37)\/As op=true:=by
 unfold An at h;unfold Eg Bn As;simp only[Bool.and_eq_true,Bool.or_eq_true,decide_eq_true_eq,beq_iff_eq]at h |-;omega
theorem Qi{op:Int}(h:As op=true):Eg op=false/\Bn op=false/\op≠29/\op≠30/\op≠31/\op≠32/\op≠33/\¬ (34<=op/\op<=37):=by
 unfold As at h;simp only[Bool.and_eq_true,decide_eq_true_eq]at h;exact XD
theorem PK{op:Int}(h:Bn op=true):Eg op=false/\op≠29/\op≠30/\op≠31/\op≠32/\op≠33/\¬ (34<=op/\op<=37):=by
 unfold Bn at h;simp only[Bool.or_eq_true,Bool.and_eq_true,beq_iff_eq,decide_eq_true_eq]at h;have:op=2\/op=18\/op=21\/op=22\/op=23\/op=24\/op=25\/op=26\/op=27\/op=28:=oM;rcases this with rfl|rfl|rfl|rfl|rfl|rfl|rfl|rfl|rfl|rfl<;>decide
section
variable {c : Cd} {G P : List (List Int)} {f : Fr} {i : Am}
theorem DG(h:Eg i.op=true):DF c G P f i={f with nums:=DV f.nums i.d.toNat (QF f i)}:=by unfold DF;rw[if_pos h]
theorem CA(h:Bn i.op=true):DF c G P f i={f with whs:=DV f.whs i.d.toNat (Fx f i)}:=by
 unfold DF;rw[(PK h).1,if_neg dE,if_pos h]
theorem Ep(h:i.op=29):DF c G P f i={f with vecs:=DV f.vecs i.d.toNat (Bz c G i)}:=by
 unfold DF;rw[h,if_neg dE,if_neg dE,if_pos rfl]
theorem Er(h:i.op=30):DF c G P f i={f with vecs:=DV f.vecs i.d.toNat (Bz c P i)}:=by
 unfold DF;rw[h,if_neg dE,if_neg dE,if_neg dE,if_pos rfl]
theorem Es(h:i.op=31):DF c G P f i={f with outs:=QP f.outs (A7 c.regs i.a).par.toNat (Ax c (A7 c.regs i.a).par) i.n.toNat (f.vecs i.a.toNat)}:=by
 unfold DF;rw[h,if_neg dE,if_neg dE,if_neg dE,if_neg dE,if_pos rfl]
theorem Et(h:i.op=32):DF c G P f i=MR c f i.d ((f.slots[i.n.toNat]?).getD ⟨[],0⟩):=by
 unfold DF;rw[h,if_neg dE,if_neg dE,if_neg dE,if_neg dE,if_neg dE,if_pos rfl]
theorem Eu(h:i.op=33):DF c G P f i={f with slots:=f.slots.set i.n.toNat (CP c f i.a)}:=by
 unfold DF;rw[h,if_neg dE,if_neg dE,if_neg dE,if_neg dE,if_neg dE,if_neg dE,if_pos rfl]
theorem Bx(h:34<=i.op/\i.op<=37):DF c G P f i=f:=by
 have h0:Eg i.op=false/\Bn i.op=false:=by
  have:i.op=34\/i.op=35\/i.op=36\/i.op=37:=oM;rcases this with e|e|e|e<;>rw[e]<;>decide
 unfold DF;rw[h0.1,h0.2,if_neg dE,if_neg dE,if_neg oM,if_neg oM,if_neg oM,if_neg oM,if_neg oM,if_pos h]
theorem Ck(h:As i.op=true):DF c G P f i=Gv c f i:=by
 obtain⟨h1,h2,h3,h4,h5,h6,h7,h8⟩:=Qi h;unfold DF;rw[h1,h2,if_neg dE,if_neg dE,if_neg h3,if_neg h4,if_neg h5,if_neg h6,if_neg h7,if_neg h8]
end
theorem TP{f:Fr}{c:Cd}(ok:Ij c f){i:Am}(hb:Ar i.bits):Ar (QF f i):=by
 unfold QF;refine B4 (Tn _ _ (ok.nums _).1 (ok.nums _).2) (B4 (Ql _) (B4 (TB _ _ (BQ (ok.vecs _))) (B4 (Mf _ _ (BQ (ok.vecs _))) hb)))
theorem EF(b:Bool):0<=B6 b/\B6 b<=2147483647:=by cases b<;>decide
theorem D9{p:Prop}[Decidable p]{x y:Int}(h:p->0<=x/\x<=2147483647)(k:¬p->0<=y/\y<=2147483647):0<=(if p then x else y)/\(if p then x else y)<=2147483647:=by
 split
 .rename_i e;exact h e
 .rename_i e;exact k e
theorem Su{f:Fr}{c:Cd}(ok:Ij c f){i:Am}(hw:Bn i.op=true)(hn:i.op=2->0<=i.n/\i.n<=2147483647):0<=Fx f i/\Fx f i<=2147483647:=by
 have a:=ok.whs i.a.toNat;have b:=ok.whs i.b.toNat;have d:=ok.whs i.c.toNat;unfold Bn at hw;simp only[Bool.or_eq_true,Bool.and_eq_true,beq_iff_eq,decide_eq_true_eq]at hw;unfold Fx;refine D9 (fun _=>EF _) fun h1=>D9 (fun _=>by omega) fun h2=>D9 (fun _=>EF _) fun h3=>D9 (fun _=>EF _) fun h4=>D9 (fun _=>EF _) fun h5=>D9 (fun _=>EF _) fun h6=>D9 (fun _=>D9 (fun _=>d) fun _=>b) fun h7=>D9 (fun _=>by omega) fun h8=>D9 (fun _=>D9 (fun _=>by decide) fun _=>⟨Int.ediv_nonneg a.1 b.1,?_⟩) fun h9=>hn oM;have:=Int.ediv_le_self (f.whs i.b.toNat) a.1;omega
theorem US{c:Cd}{G P:List (List Int)}{f:Fr}{i:Am}(hg:Good c)(ok:Ij c f)(hk:An i.op=true)(hb:Ar i.bits)(nd:Cz c f i)(fg:DN c G)(fp:DN c P):Ij c (DF c G P f i):=by
 have pl:∀L:List (List Int),DN c L->(∀y∈Bz c L i,Ar y)/\(Bz c L i).length<=4096:=fun L hL=>by
  refine⟨fun y hy=>?_,by unfold Bz;simp only[List.length_map,List.length_range];exact hg.lenOf _⟩;unfold Bz at hy;simp only[List.mem_map]at hy;obtain⟨k,_,rfl⟩:=hy;refine Cm _ (BQ ?_ _);unfold Dv;cases e:L[(A7 c.regs i.d).par.toNat]? with
  |none=>intro y hy;cases hy
  |some l=>exact hL.isP l (List.mem_of_getElem? e)
 rcases EG hk with h|h|h|h|h|h|h|h|h
 .rw[DG h];exact⟨BA ok.nums (TP ok hb),ok.whs,ok.vecs,ok.vecsL,ok.slotsL,ok.slots⟩
 .rw[CA h];exact⟨ok.nums,BA (Q:=fun y:Int=>0<=y/\y<=2147483647) ok.whs (Su ok h (nd.whole h).2.2.2.2.2.2),ok.vecs,ok.vecsL,ok.slotsL,ok.slots⟩
 .rw[Ep h];exact⟨ok.nums,ok.whs,BA (Q:=fun l:List Int=>∀y∈l,Ar y) ok.vecs (pl G fg).1,BA (Q:=fun l:List Int=>l.length<=4096) ok.vecsL (pl G fg).2,ok.slotsL,ok.slots⟩
 .rw[Er h];exact⟨ok.nums,ok.whs,BA (Q:=fun l:List Int=>∀y∈l,Ar y) ok.vecs (pl P fp).1,BA (Q:=fun l:List Int=>l.length<=4096) ok.vecsL (pl P fp).2,ok.slotsL,ok.slots⟩
 .rw[Es h];exact⟨ok.nums,ok.whs,ok.vecs,ok.vecsL,ok.slotsL,ok.slots⟩
 .rw[Et h];obtain⟨d0,d1,n0,n1,ht⟩:=nd.load h;have hn:i.n.toNat<c.slots.length:=oM;have hn2:i.n.toNat<f.slots.length:=by rw[ok.slotsL];exact hn
  have hh:=ok.slots i.n.toNat hn hn2;rw[gB hn2,Option.getD_some];exact UX ok hh.2.1 (by rw[hh.1];exact hg.width _) hh.2.2
 .rw[Eu h];obtain⟨a0,a1,n0,n1,ht,hs⟩:=nd.store h;have hh:=QX hg ok a0 a1 hs;refine⟨ok.nums,ok.whs,ok.vecs,ok.vecsL,by simp[ok.slotsL],fun j h1 h2=>?_⟩;simp only[List.getElem_set];split
  .rename_i e;subst e;have:BZ c.slots i.n=c.slots[i.n.toNat].ty:=by unfold BZ;rw[gB h1];rfl
   rw[<-this,ht];exact hh
  .exact ok.slots j h1 (by simpa using h2)
 .rw[Bx h];exact ok
 .rw[Ck h];obtain⟨d0,d1,a1,_⟩:=nd.elem h;unfold Gv;by_cases h2:(A7 c.regs i.d).kind=2
  .rw[if_pos h2];exact⟨ok.nums,BA (Q:=fun y:Int=>0<=y/\y<=2147483647) ok.whs (ok.whs _),ok.vecs,ok.vecsL,ok.slotsL,ok.slots⟩
  .rw[if_neg h2];obtain⟨s1,s2⟩:=DP hg ok h nd h2;have hw:=hg.width (A7 c.regs i.d);refine UX ok ?_ ?_ ⟨Int.le_refl _,by show(0:Int)<=2147483647;decide⟩
   .intro y hy;dsimp only at hy;split at hy
    .unfold Ef at hy;rw[List.eq_of_mem_replicate hy];exact Cm _ (Hm s2)
    .exact s2 y hy
   .dsimp only;split
    .unfold Ef;rw[List.length_replicate];exact hw
    .omega
theorem Qc{c:Cd}{G P:List (List Int)}{f:Fr}{i:Am}(hg:Good c)(ok:Ij c f)(hk:An i.op=true)(nd:Cz c f i){r:Nat}(hr:((A5 i.op).d=0\/r≠i.d.toNat)->CN c f r):CN c (DF c G P f i) r:=by
 have pl:∀L:List (List Int),(Bz c L i).length=lenOf c (A7 c.regs i.d).par:=fun L=>by unfold Bz;simp
 have other:∀ (f':Fr),f'.vecs=f.vecs->((A5 i.op).d≠0->(A7 c.regs i.d).kind≠3/\0<=i.d)->CN c f' r:=fun f' hv hk3 h3=>by
  rw[hv];refine hr ?_ h3;by_cases e:(A5 i.op).d=0
  .exact .inl e
  .refine .inr fun e2=>(hk3 e).1 ?_;have:=(hk3 e).2;have e3:(r:Int)=i.d:=oM;rw[e3]at h3;exact h3
 have vec:∀L:List (List Int),0<=i.d->(A5 i.op).d≠0->CN c {f with vecs:=DV f.vecs i.d.toNat (Bz c L i)} r:=fun L h0 hd h3=>by
  by_cases e:r=i.d.toNat
  .have e3:(r:Int)=i.d:=oM;rw[e3];show(DV f.vecs i.d.toNat (Bz c L i) r).length=_;rw[e,Ct,pl]
  .show(DV f.vecs i.d.toNat (Bz c L i) r).length=_;rw[Cv _ _ e];exact hr (.inr e) h3
 rcases EG hk with h|h|h|h|h|h|h|h|h
 .rw[DG h];exact other _ rfl fun _=>⟨by rw[(nd.num h).2.2.2.2];decide,(nd.num h).1⟩
 .rw[CA h];exact other _ rfl fun _=>⟨by rw[(nd.whole h).2.2.2.2.2.1];decide,(nd.whole h).1⟩
 .rw[Ep h];exact vec G (nd.part (.inl h)).r0 (by rw[h];decide)
 .rw[Er h];exact vec P (nd.part (.inr h)).r0 (by rw[h];decide)
 .rw[Es h];exact other _ rfl fun e=>absurd (by rw[h];decide) e
 .rw[Et h];obtain⟨d0,d1,n0,n1,ht⟩:=nd.load h;have hn:i.n.toNat<c.slots.length:=oM;have hn2:i.n.toNat<f.slots.length:=by rw[ok.slotsL];exact hn
  have hh:=ok.slots i.n.toNat hn hn2;rw[gB hn2,Option.getD_some];refine Sj d0 (fun h3=>?_) fun e=>hr (.inr e);have:BZ c.slots i.n=c.slots[i.n.toNat].ty:=by unfold BZ;rw[gB hn];rfl
  rw[hh.1,<-this,ht];exact(CC hg d0 d1 h3).2
 .rw[Eu h];exact other _ rfl fun e=>absurd (by rw[h];decide) e
 .rw[Bx h];refine hr (.inl ?_);have:i.op=34\/i.op=35\/i.op=36\/i.op=37:=oM;rcases this with e|e|e|e<;>rw[e]<;>decide
 .rw[Ck h];obtain⟨d0,d1,a1,_⟩:=nd.elem h;unfold Gv;by_cases h2:(A7 c.regs i.d).kind=2
  .rw[if_pos h2];exact other _ rfl fun _=>⟨by rw[h2];decide,d0⟩
  .rw[if_neg h2];obtain⟨s1,s2⟩:=DP hg ok h nd h2;refine Sj d0 (fun h3=>?_) fun e=>hr (.inr e);have hw:=(CC hg d0 d1 h3)
   dsimp only;rw[hw.2]at s1 |-;split
   .unfold Ef;rw[List.length_replicate];exact hw.2
   .omega
def LI(c:Cd)(s:Wk)(f:Fr)(k:Nat):Prop:=
 (k=0/\∀r∈s.set,CN c f r)\/(∃pre b rest,s.opens=pre++b::rest/\b.loop=false/\k=(pre.filter fun x=> !x.loop).length+1/\∀r∈s.set.take b.ahead,CN c f r)
theorem Mo:∀ {pre:List Bk} {b:Bk} {rest:List Bk} {n:Nat},Vv n (pre++b::rest)->b.ahead<=n/\∀p∈pre,b.ahead<=p.ahead
 |[],b,rest,n,h=>⟨h.1,fun p hp=>by cases hp⟩
 |q::pre,b,rest,n,h=>by
  obtain⟨h1,h2⟩:=Mo h.2;refine⟨gH h1 h.1,fun p hp=>?_⟩;rcases List.mem_cons.1 hp with e|e
  .rw[e];exact h1
  .exact h2 p e
theorem Fq{s:Wk}{i:Am}{r:Rw}(h:r.d=0):F7 s i r=s:=by unfold F7;rw[if_neg (fun e=>e.1 h)]
theorem MT{s:Wk}{i:Am}(h1:i.op≠34)(h2:i.op≠35)(h3:i.op≠36)(h4:i.op≠37):Du s i=s:=by
 unfold Du;rw[if_neg oM,if_neg oM]
theorem Nr{s:Wk}{i:Am}{r:Rw}{x:Nat}(h:x∈(F7 s i r).set):x∈s.set\/(r.d≠0/\x=i.d.toNat):=by
 unfold F7 at h;split at h
 .rename_i e;rcases List.mem_append.1 h with h|h
  .exact .inl h
  .simp at h;exact .inr ⟨e.1,h⟩
 .exact .inl h
theorem JR{s:Wk}{i:Am}{r:Rw}{n:Nat}(h:n<=s.set.length):(F7 s i r).set.take n=s.set.take n/\(F7 s i r).opens=s.opens:=by
 unfold F7;split
 .exact⟨List.take_append_of_le_length h,rfl⟩
 .exact⟨rfl,rfl⟩
theorem JG{s:Wk}{i:Am}(h:i.op=34):Al s i=⟨s.set,⟨false,i.n,s.set.length⟩::s.opens⟩:=by
 unfold Al EI;rw[Fq (by rw[h];rfl)];unfold Du;rw[if_pos (.inl h),h];rfl
theorem JJ{s:Wk}{i:Am}(h:i.op=36):Al s i=⟨s.set,⟨true,i.n,s.set.length⟩::s.opens⟩:=by
 unfold Al EI;rw[Fq (by rw[h];rfl)];unfold Du;rw[if_pos (.inr h),h];rfl
theorem Gj{s:Wk}{i:Am}(h:i.op=35\/i.op=37):Al s i=AE s:=by
 unfold Al EI;rw[Fq XW];unfold Du;rw[if_neg oM,if_pos h]
theorem E8{s:Wk}{i:Am}(h1:i.op≠34)(h2:i.op≠35)(h3:i.op≠36)(h4:i.op≠37):Al s i=F7 s i (A5 i.op):=by
 unfold Al EI;rw[MT h1 h2 h3 h4]
theorem IL{s:Wk}{r:Nat}(h:r∈(AE s).set):r∈s.set:=by
 unfold AE at h;split at h
 .dsimp only at h;split at h
  .exact h
  .exact List.mem_of_mem_take h
 .exact h
theorem Nu{c:Cd}{G P:List (List Int)}{s:Wk}{f:Fr}{k:Nat}{i:Am}(hg:Good c)(oks:D4 c.regs.length s)(t:AF c s i=true)(ok:Ij c f)(hb:Ar i.bits)(fg:DN c G)(fp:DN c P)(sk:LI c s f k):
 Ij c (AS c G P (f,k) i).1/\LI c (Al s i) (AS c G P (f,k) i).1 (AS c G P (f,k) i).2:=by
 obtain⟨hkn,_,hst,_⟩:=AX t;rcases sk with⟨rfl,hs⟩|⟨pre,b,rest,ho,hbl,rfl,hs⟩
 .have nd:=Nt t hs;have hdo:Ij c (DF c G P f i):=US hg ok hkn hb nd fg fp;by_cases h34:i.op=34
  .rw[JG h34];by_cases hz:f.whs i.a.toNat=0
   .have e:AS c G P (f,0) i=(f,1):=by
     unfold AS;rw[if_neg oM,if_pos ⟨h34,.inr hz⟩]
    rw[e];refine⟨ok,.inr ⟨[],⟨false,i.n,s.set.length⟩,s.opens,rfl,rfl,rfl,fun r hr=>hs r ?_⟩⟩;exact List.mem_of_mem_take hr
   .have e:AS c G P (f,0) i=(f,0):=by
     unfold AS;rw[if_neg oM,if_neg (by simp[hz]),if_pos rfl,Bx oM]
    rw[e];exact⟨ok,.inl ⟨rfl,hs⟩⟩
  .have e:AS c G P (f,0) i=(DF c G P f i,0):=by
    unfold AS;rw[if_neg oM,if_neg oM,if_pos rfl]
   rw[e];refine⟨hdo,.inl ⟨rfl,fun r hr=>?_⟩⟩;by_cases h35:i.op=35\/i.op=37
   .rw[Gj h35]at hr;rw[Bx oM];exact hs r (IL hr)
   .by_cases h36:i.op=36
    .rw[JJ h36]at hr;rw[Bx oM];exact hs r hr
    .rw[E8 h34 oM h36 oM]at hr;refine Qc hg ok hkn nd fun hr2=>?_;rcases Nr hr with h|⟨h,h'⟩
     .exact hs r h
     .rcases hr2 with q|q
      .exact absurd q h
      .exact absurd h' q
 .obtain⟨hah,hpre⟩:=Mo (by have:=oks.opens;rw[ho]at this;exact this);obtain⟨K,hK⟩:=gA ((pre.filter fun x=> !x.loop).length)
  rw[hK];by_cases h34:i.op=34
  .have e:AS c G P (f,K+1) i=(f,K+2):=by
    unfold AS;rw[if_neg oM,if_pos ⟨h34,.inl (by show 0<K+1;omega)⟩]
   rw[e,JG h34];refine⟨ok,.inr ⟨⟨false,i.n,s.set.length⟩::pre,b,rest,by rw[ho];rfl,hbl,?_,hs⟩⟩;rw[List.filter_cons_of_pos rfl,List.length_cons,hK]
  .by_cases h35:i.op=35
   .have e:AS c G P (f,K+1) i=(f,K):=by
     unfold AS;rw[if_pos ⟨by show 0<K+1;omega,h35⟩];rfl
    rw[e,Gj (.inl h35)];refine⟨ok,?_⟩;have hnl:Aq s=false:=by
     exact Z7
    unfold Aq at hnl;unfold AE;rw[ho]at hnl |-;cases pre with
    |nil=>
     simp only[List.nil_append]at hnl |-;simp at hK;refine .inl ⟨hK.symm,fun r hr=>hs r ?_⟩;rw[hbl]at hr;simpa using hr
    |cons p pre=>
     simp only[List.cons_append]at hnl |-;have hp:=hpre p sM;refine .inr ⟨pre,b,rest,rfl,hbl,?_,fun r hr=>hs r ?_⟩
     .rw[List.filter_cons_of_pos (by rw[hnl];rfl),List.length_cons]at hK;omega
     .rw[hnl]at hr;simp only[Bool.false_eq_true,if_false,List.take_take]at hr;rw[Nat.min_eq_left hp]at hr;exact hr
   .have e:AS c G P (f,K+1) i=(f,K+1):=by
     unfold AS;rw[if_neg oM,if_neg oM,if_neg (by show¬ (K+1=0);omega)]
    rw[e];refine⟨ok,?_⟩;by_cases h36:i.op=36
    .rw[JJ h36];refine .inr ⟨⟨true,i.n,s.set.length⟩::pre,b,rest,by rw[ho];rfl,hbl,?_,hs⟩;rw[List.filter_cons_of_neg sM,hK]
    .by_cases h37:i.op=37
     .rw[Gj (.inr h37)];have hnl:Aq s=true:=by
       unfold Au at hst;rw[if_neg oM,if_neg oM,if_pos h37]at hst;exact hst
      unfold Aq at hnl;unfold AE;rw[ho]at hnl |-;cases pre with
      |nil=>
       simp only[List.nil_append]at hnl;rw[hbl]at hnl;cases hnl
      |cons p pre=>
       simp only[List.cons_append]at hnl |-;refine .inr ⟨pre,b,rest,rfl,hbl,?_,fun r hr=>hs r ?_⟩
       .rw[List.filter_cons_of_neg (by rw[hnl];decide)]at hK;omega
       .rw[hnl]at hr;simpa using hr
     .rw[E8 h34 h35 h36 h37];obtain⟨h1,h2⟩:=JR (i:=i) (r:=A5 i.op) hah;exact .inr ⟨pre,b,rest,by rw[h2];exact ho,hbl,by rw[hK],fun r hr=>hs r (by rw[h1]at hr;exact hr)⟩
theorem Kj(c:Cd)(G P:List (List Int))(s:Fr×Nat)(l:List Am){j:Nat}(hj:j<l.length):Tq c G P s (l.take (j+1))=AS c G P (Tq c G P s (l.take j)) l[j]:=by
 unfold Tq;rw[List.take_succ_eq_append_getElem hj,List.foldl_append];rfl
theorem QC(c:Cd)(G P:List (List Int))(f:Fr)(K:Nat){i:Am}(h:i.op=35):AS c G P (f,K+1) i=(f,K):=by
 unfold AS;rw[if_pos ⟨by show 0<K+1;omega,h⟩];rfl
theorem Jr(c:Cd)(G P:List (List Int))(f:Fr)(K:Nat){i:Am}(h:i.op=34)(hz:0<K\/f.whs i.a.toNat=0):AS c G P (f,K) i=(f,K+1):=by
 unfold AS;rw[if_neg oM,if_pos ⟨h,hz⟩]
theorem Js(c:Cd)(G P:List (List Int))(f:Fr){i:Am}(h:¬ (i.op=34/\f.whs i.a.toNat=0)):AS c G P (f,0) i=(DF c G P f i,0):=by
 unfold AS;rw[if_neg (fun e=>absurd e.1 (by show¬0<0;omega)),if_neg (fun e=>h ⟨e.1,e.2.resolve_left (by show¬0<0;omega)⟩),if_pos rfl]
theorem QD(c:Cd)(G P:List (List Int))(f:Fr)(K:Nat){i:Am}(h1:i.op≠34)(h2:i.op≠35):AS c G P (f,K+1) i=(f,K+1):=by
 unfold AS;rw[if_neg (fun e=>h2 e.2),if_neg (fun e=>h1 e.1),if_neg (by show¬ (K+1=0);omega)]

theorem GR{c:Cd}(h:(Ag c).1=0):Good c/\Ca c ⟨[],[]⟩ c.list=true:=by
 obtain⟨h1,h2,_⟩:=BF.1 h;refine⟨?_,h2⟩;unfold BJ at h1;by_cases e1:Ay c.sign=0
 .rw[if_neg (by simp[e1])]at h1;by_cases e2:16384<c.regs.length\/32768<c.list.length
  .rw[if_pos e2]at h1;cases h1
  .rw[if_neg e2]at h1;by_cases e3:4096<c.slots.length
   .rw[if_pos e3]at h1;cases h1
   .rw[if_neg e3]at h1;by_cases e4:(Ad c&&AW c)=true
    .simp only[Bool.and_eq_true]at e4;have e5:¬c.sign.length>64/\c.sign.all B5=true:=by
      unfold Ay at e1;by_cases q1:c.sign.length>64
      .rw[if_pos q1]at e1;cases e1
      .rw[if_neg q1]at e1;refine⟨q1,?_⟩;cases q2:c.sign.all B5 with
       |true=>rfl
       |false=>rw[if_pos q2]at e1;cases e1
     have hm:∀p∈c.sign,B5 p=true:=List.all_eq_true.1 e5.2;refine⟨fun p hp=>?_,hm,List.all_eq_true.1 e4.1,List.all_eq_true.1 e4.2,oM,oM,oM,oM⟩;have:=hm p hp;unfold B5 at this;simp only[Bool.and_eq_true,decide_eq_true_eq]at this;omega
    .rw[if_neg e4]at h1;cases h1
 .rw[if_pos e1]at h1;exact absurd h1 e1
theorem JW{c:Cd}(hg:Good c){s:Sl}(hs:s∈c.slots)(hb:Ar s.bits):LD c s.ty (AU c s):=by
 have hm:=hg.slots s hs;unfold AG at hm;simp only[Bool.and_eq_true]at hm;have hb2:=hm.2;unfold DO at hb2;refine⟨by unfold AU Ef;simp,fun y hy=>?_,?_⟩
 .unfold AU Ef at hy;rw[List.eq_of_mem_replicate hy];exact Cm _ hb
 .show 0<=s.int_/\s.int_<=2147483647;split at hb2
  .unfold Cs at hb2;simp only[Bool.and_eq_true,decide_eq_true_eq,beq_iff_eq]at hb2;exact hb2.2
  .simp only[Bool.and_eq_true,beq_iff_eq]at hb2;omega
theorem J2{c:Cd}{k:Nat}(h:k<(BM c).length)(h':k<c.slots.length):(BM c)[k]=AU c c.slots[k]:=by simp[BM]
section
variable {w W1 : World} {FR n C : Nat} {sv gv pv : Value}
end
def SA(c:Cd)(l:List Hd):Nat->List Hd
 |0=>l
 |j+1=>match c.slots[j]? with
  |some s=>if s.keep then SA c l j else(SA c l j).set j (AU c s)
  |none=>SA c l j
def Bi(c:Cd)(l:List Hd):Fr:=⟨fun _=>0,fun _=>0,fun _=>[],SA c l c.slots.length,fun _ _=>0⟩
def M1(c:Cd)(l:List Hd)(G P:List (List Int)):Fr:=(Tq c G P (Bi c l,0) c.list).1
theorem Fz(c:Cd)(l:List Hd):∀j,(SA c l j).length=l.length
 |0=>rfl
 |j+1=>by
  unfold SA;split
  .split
   .exact Fz c l j
   .rw[List.length_set];exact Fz c l j
  .exact Fz c l j
structure GJ(L:List (List Int)):Prop where
 len:L.length<=140737488351232
 lens:∀l∈L,l.length<=140737488351232
 isP:∀l∈L,∀y∈l,Ar y
theorem Ni{c:Cd}{L:List (List Int)}(h:Bq c.sign (L.map fun l=>l.length)=true)(hk:GJ L)(hg:Good c):DN c L:=by
 have BD:∀ (ps:List Bd) (M:List (List Int)),(∀p∈ps,B5 p=true/\1<=p.len)->Bq ps (M.map fun l=>l.length)=true->M.length=ps.length/\∀p (h:p<M.length),(M[p]).length=(ps[p]?).elim 0 OV:=by
  intro ps;induction ps with
  |nil=>intro M _ h;cases M with
   |nil=>exact⟨rfl,fun p h=>absurd h (Nat.not_lt_zero _)⟩
   |cons a M=>simp[Bq]at h
  |cons q ps ih=>
   intro M hm h;cases M with
   |nil=>simp[Bq]at h
   |cons a M=>
    simp only[List.map_cons,Bq,Bool.and_eq_true,decide_eq_true_eq]at h;obtain⟨i1,i2⟩:=ih M (fun p hp=>hm p (by simp[hp])) h.2;refine⟨by simp[i1],fun p hp=>?_⟩;cases p with
    |zero=>
     show a.length=OV q;unfold OV;omega
    |succ p=>exact i2 p (by simpa using hp)
 obtain⟨k1,k2⟩:=BD c.sign L (fun p hp=>⟨hg.kind p hp,(hg.len p hp).1⟩) h;exact⟨k1,k2,hk.isP⟩
theorem Jy(v0 v1 v2 v3:Value)(c:Cd)(hk:AZ c)(w:World)(hv:Cy w v0 v1 v2 v3 c):
 Calls prog 15 #[.agg #[v0,v1,v2,v3]] w fun e w'=>e=.returned (.tuple #[.int .i64 (Ag c).1,.int .i64 (Ag c).2])/\Below w.heap.size w w':=by
 by_cases h0:Ay c.sign=0
 .by_cases h1:16384<c.regs.length\/32768<c.list.length
  .have e:Ag c=(181,-1):=by unfold Ag BJ;simp[h0,h1]
   rw[e];exact DZ v0 v1 v2 v3 c hk w hv 181 (.inr (.inl ⟨h0,h1,rfl⟩))
  .by_cases h2:4096<c.slots.length
   .have e:Ag c=(180,-1):=by unfold Ag BJ;simp[h0,h1,h2]
    rw[e];exact DZ v0 v1 v2 v3 c hk w hv 180 (.inr (.inr ⟨h0,fun e=>h1 (.inl e),fun e=>h1 (.inr e),h2,rfl⟩))
   .refine Kt v0 v1 v2 v3 c hk w hv h0 oM oM oM _ _ ?_;have hA:BJ c=if(Ad c&&AW c)=true then 0 else 160:=by
     unfold BJ;rw[if_neg (fun e=>e h0),if_neg h1,if_neg h2]
    unfold Ag;rw[hA];by_cases h3:(Ad c&&AW c)=true
    .rw[if_pos h3,if_pos h3,if_neg dE]
    .rw[if_neg h3,if_neg h3,if_pos dE]
 .have e:Ag c=(Ay c.sign,-1):=by unfold Ag BJ;simp[h0]
  rw[e];exact DZ v0 v1 v2 v3 c hk w hv _ (.inl ⟨h0,rfl⟩)
end Go.Proofs.YtheanilpbnencaaGreat
