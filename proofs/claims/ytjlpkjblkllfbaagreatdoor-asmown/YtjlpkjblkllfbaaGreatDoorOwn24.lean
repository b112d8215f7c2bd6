import Derived.Test.YtjlpkjblkllfbaaGreatDoorOwn1
import Derived.Test.YtjlpkjblkllfbaaGreatDoorOwn23
import Derived.OrdersHeld
import Derived.Lib.SmallJoins
import Derived.Lib.SlBytesConst
import Derived.Deep.DeepCutAuto
import Derived.Test.YtjlpkjblkllfbaaGreatDoorOwn16
namespace Go.Proofs.YtjlpkjblkllfbaaGreatDoor
open Go.RowKit Go.Proofs.Tryz
set_option linter.all false
set_option maxRecDepth 100000
set_option maxHeartbeats 16000000
theorem TP:prog.underlying 93=some (.slice (prog.elem 93)):=kR
theorem Uh:prog.elem 93=97:=kR
theorem Rp(w:World):(sizeOf (prog.elem 93)).run prog w=.ok 3 w:=by rw[Uh];exact Tryz.sizeOf97 w
theorem Fp{a b x y:Int}(h:(a,b)=(x,y)):(Ending.returned (.tuple #[.int .i64 a,.int .i64 b]))=.returned (.tuple #[.int .i64 x,.int .i64 y]):=by cases h;rfl
theorem K9(v0 v1 v2 v3:Value)(c:Cd)(hk:BE c)(w:World)(hv:DO w v0 v1 v2 v3 c)(hS:AC c.sign=0)(h1:c.regs.length<=16384)(h3:c.list.length<=32768)(h2:c.slots.length<=4096)(RA RB:Int)(hRES:(if(Ap c&&Bj c)=true then Hq c ⟨[],[]⟩ 0 c.list else(160,-1))=(RA,RB)):
 Calls prog 18 #[.agg #[v0,v1,v2,v3]] w fun e w'=>e=.returned (.tuple #[.int .i64 RA,.int .i64 RB])/\Below w.heap.size w w':=by
 have hSG:∀v,Below w.heap.size w v->Calls prog 32 #[v0] v fun e w'=>e=.returned (.int .i64 0)/\Below v.heap.size v w':=fun v hb=>by rw[<-hS];exact DC v0 c.sign hk.signL hk.names v (hv.below hb).sign.rd
 have l0:=hk.signL;obtain⟨p0,q0,rfl,-⟩:=id hv.sign;obtain⟨p1,q1,rfl,-⟩:=id hv.regs;obtain⟨p2,q2,rfl,-⟩:=id hv.slots;obtain⟨p3,q3,rfl,-⟩:=id hv.list;have HREGS:Hid (Ce 2 IG w (.slice p1 c.regs.length q1) c.regs):=hv.regs;have HSLOTS:Hid (Ce 5 Jp w (.slice p2 c.slots.length q2) c.slots):=hv.slots;have HLIST:Hid (Ce 7 CJ w (.slice p3 c.list.length q3) c.list):=hv.list;have HMT:Hid (∀ (t:Ty) v,Calls prog 41 #[.agg #[.int .i64 t.kind,.int .i64 t.par],.slice p0 c.sign.length q0] v fun e w'=>e=.returned (.bool (AG t c.sign.length))/\Below v.heap.size v w'):=fun t v=>Fq t p0 _ q0 hk.signL v;have HMS:Hid (∀ (s:Sl),s∈c.slots->∀v,Calls prog 42 #[.agg #[.int .i64 s.ty.kind,.int .i64 s.ty.par,.bool s.keep,.int .u32 s.bits,.int .i64 s.int_],.slice p0 c.sign.length q0] v fun e w'=>e=.returned (.bool (Bb s c.sign.length))/\Below v.heap.size v w'):=fun s hs v=>Jj s (hk.sbits s hs).1 (hk.sbits s hs).2 p0 _ q0 hk.signL v;have HCV:Hid (DO w (.slice p0 c.sign.length q0) (.slice p1 c.regs.length q1) (.slice p2 c.slots.length q2) (.slice p3 c.list.length q3) c):=hv;have HCO:Hid (BE c):=hk;have HRES:Hid ((if(Ap c&&Bj c)=true then Hq c ⟨[],[]⟩ 0 c.list else(160,-1))=(RA,RB)):=hRES;obtain⟨n0,hn0⟩:∃n,c.sign.length=n:=⟨_,rfl⟩
 obtain⟨n1,hn1⟩:∃n,c.regs.length=n:=⟨_,rfl⟩
 obtain⟨n2,hn2⟩:∃n,c.slots.length=n:=⟨_,rfl⟩
 obtain⟨n3,hn3⟩:∃n,c.list.length=n:=⟨_,rfl⟩
 have HN0:Hid (c.sign.length=n0):=hn0;have HN1:Hid (c.regs.length=n1):=hn1;have HN2:Hid (c.slots.length=n2):=hn2;have HN3:Hid (c.list.length=n3):=hn3;rw[hn0]at hSG l0 HMT HMS;rw[hn1]at h1 HREGS;rw[hn2]at h2 HSLOTS;rw[hn3]at h3 HLIST;rw[hn0,hn1,hn2,hn3]at HCV |-;have HSG:Hid _:=hSG;have g1:(n1:Int)<=16384:=oM;have g2:(n2:Int)<=4096:=oM;have g3:(n3:Int)<=32768:=oM;clear hSG hn0 hn1 hn2 hn3 hv hk hS hRES;go_enter func18,ntmps18;go_wp2_with(go_at_call 32;(with_reducible refine(HSG.out _ (A2 _ _)).mono ?_);rintro e w1 ⟨rfl,hb1⟩;have HX1:Hid (CX w (.slice p0 n0 q0) (.slice p1 n1 q1) (.slice p2 n2 q2) (.slice p3 n3 q3) w1):=(CX.start w _ _ _ _).next hb1;obtain⟨b1,b2,c0,c1,c2,c3⟩:=HX1.out;clear hb1);clear c0 c1 c2 c3 b1 b2
 go_loopw [5] (fun iv wr=>CX w (.slice p0 n0 q0) (.slice p1 n1 q1) (.slice p2 n2 q2) (.slice p3 n3 q3) wr/\∃j:Nat,j<=n1/\iv=.int .i64 (j:Int)/\Hid ((c.regs.take j).all (fun t=>AG t n0)=true)) (fun iv _=>n1-(intOf iv).toNat)
 case atStart=>exact⟨HX1.out,0,gJ _,rfl,by show _=_;simp⟩
 case round=>
  obtain⟨hcx,j,hj,rfl,hall⟩:=hrel;have HCX:Hid (CX w (.slice p0 n0 q0) (.slice p1 n1 q1) (.slice p2 n2 q2) (.slice p3 n3 q3) wr):=hcx;obtain⟨b1,b2,c0,c1,c2,c3⟩:=hcx;clear HX1;by_cases hlt:j<n1
  .have hll:j<c.regs.length:=by rw[HN1.out];exact hlt
   obtain⟨b,o,rfl,hx⟩:=HREGS.at hll;have KN:=HMT.out c.regs[j];have NX:Hid (AG c.regs[j] n0=true->(c.regs.take (j+1)).all (fun t=>AG t n0)=true):=fun h=>I1 _ hll hall.out h;have NB:Hid (AG c.regs[j] n0=false->(160,-1)=(RA,RB)):=fun h=>by
    have h5:Ap c=false:=by unfold Ap;rw[HN0.out];exact Mi _ hll h
    have h6:=HRES.out;rw[h5,Bool.false_and,if_neg dE]at h6;exact h6
   obtain⟨⟨K,P⟩,hT⟩:∃T:Ty,c.regs[j]=T:=⟨_,rfl⟩
   rw[hT]at hx KN NX NB;have y0:wr.cell? ⟨b,o+j*2,none⟩=some (.int .i64 K):=kc b1 (hx.at 0 rfl);have y1:wr.cell? ⟨b,o+j*2+1,none⟩=some (.int .i64 P):=kc b1 (hx.at 1 rfl);obtain⟨X,hX⟩:=gA (AG ⟨K,P⟩ n0)
   rw[hX]at NX NB;simp only[hX]at KN;have HK:Hid (∀v,Calls prog 41 #[.agg #[.int .i64 K,.int .i64 P],.slice p0 n0 q0] v fun e w'=>e=.returned (.bool X)/\Below v.heap.size v w'):=KN;have i1:(0:Int)<=(j:Int):=oM;have i2:(j:Int)<(n1:Int):=oM;clear KN hT hX hx hall;cases X
   .go_wp2;refine rG (fun v=>v.cell? ⟨w.heap.size,1,none⟩=some (.slice (some ⟨b,o,none⟩) n1 q1)/\v.cell? ⟨w.heap.size,0,none⟩=some (.slice p0 n0 q0)/\v.cell? ⟨b,o+j*2,none⟩=some (.int .i64 K)/\v.cell? ⟨b,o+j*2+1,none⟩=some (.int .i64 P)) fun yH=>?_;refine Tf 0 1 2 3 4 5 ?_;refine Bn 6 ?_;clear yH;refine Aw 7 fun K hK=>?_;go_simp;(go_at_call 41;(with_reducible refine(HK.out _).mono ?_);rintro e w2 ⟨rfl,hb2⟩;have HB2:Hid (Below wr.heap.size wr w2):=bel (A4 _) hb2;clear hb2;obtain⟨-,-,c0,c1,c2,c3⟩:=HCX.out.next HB2.out;have x0:=kc HB2.out y0;have x1:=kc HB2.out y1);exact Y2
   .go_wp2;refine rG (fun v=>v.cell? ⟨w.heap.size,1,none⟩=some (.slice (some ⟨b,o,none⟩) n1 q1)/\v.cell? ⟨w.heap.size,0,none⟩=some (.slice p0 n0 q0)/\v.cell? ⟨b,o+j*2,none⟩=some (.int .i64 K)/\v.cell? ⟨b,o+j*2+1,none⟩=some (.int .i64 P)) fun yH=>?_;refine Tf 0 1 2 3 4 5 ?_;refine Bn 6 ?_;clear yH;refine Aw 7 fun K hK=>?_;go_simp;(go_at_call 41;(with_reducible refine(HK.out _).mono ?_);rintro e w2 ⟨rfl,hb2⟩;have HB2:Hid (Below wr.heap.size wr w2):=bel (A4 _) hb2;clear hb2;obtain⟨-,-,c0,c1,c2,c3⟩:=HCX.out.next HB2.out;have x0:=kc HB2.out y0;have x1:=kc HB2.out y1);exact XV
  have hjn:j=n1:=oM;have HT:Hid (Ap c=true):=by
   show _=_;have h5:=hall.out;rw[hjn,<-HN1.out,List.take_length]at h5;unfold Ap;rw[HN0.out];exact h5
  have e1:¬ (j:Int)<(n1:Int):=oM;clear hall hlt;go_wp2;clear e1 c0 c1 c2 c3 b1 b2
  go_loopw [6] (fun iv wr=>CX w (.slice p0 n0 q0) (.slice p1 n1 q1) (.slice p2 n2 q2) (.slice p3 n3 q3) wr/\∃j:Nat,j<=n2/\iv=.int .i64 (j:Int)/\Hid ((c.slots.take j).all (fun s=>Bb s n0)=true)) (fun iv _=>n2-(intOf iv).toNat)
  case atStart=>exact⟨HCX.out,0,gJ _,rfl,by show _=_;simp⟩
  case round=>
   obtain⟨hcx,j,hj,rfl,hall⟩:=hrel;have HCX:Hid (CX w (.slice p0 n0 q0) (.slice p1 n1 q1) (.slice p2 n2 q2) (.slice p3 n3 q3) wr):=hcx;obtain⟨b1,b2,c0,c1,c2,c3⟩:=hcx;by_cases hlt:j<n2
   .have hll:j<c.slots.length:=by rw[HN2.out];exact hlt
    obtain⟨b,o,rfl,hx⟩:=HSLOTS.at hll;have KN:=HMS.out c.slots[j] (gD hll);have NX:Hid (Bb c.slots[j] n0=true->(c.slots.take (j+1)).all (fun s=>Bb s n0)=true):=fun h=>I1 _ hll hall.out h;have NB:Hid (Bb c.slots[j] n0=false->(160,-1)=(RA,RB)):=fun h=>by
     have h5:Bj c=false:=by unfold Bj;rw[HN0.out];exact Mi _ hll h
     have h6:=HRES.out;rw[h5,Bool.and_false,if_neg dE]at h6;exact h6
    obtain⟨⟨⟨K,P⟩,kp,sb,si⟩,hT⟩:∃T:Sl,c.slots[j]=T:=⟨_,rfl⟩
    rw[hT]at hx KN NX NB;have y0:wr.cell? ⟨b,o+j*5,none⟩=some (.int .i64 K):=kc b1 (hx.at 0 rfl);have y1:wr.cell? ⟨b,o+j*5+1,none⟩=some (.int .i64 P):=kc b1 (hx.at 1 rfl);have y2:wr.cell? ⟨b,o+j*5+2,none⟩=some (.bool kp):=kc b1 (hx.at 2 rfl);have y3:wr.cell? ⟨b,o+j*5+3,none⟩=some (.int .u32 sb):=kc b1 (hx.at 3 rfl);have y4:wr.cell? ⟨b,o+j*5+4,none⟩=some (.int .i64 si):=kc b1 (hx.at 4 rfl);obtain⟨X,hX⟩:=gA (Bb ⟨⟨K,P⟩,kp,sb,si⟩ n0)
    rw[hX]at NX NB;simp only[hX]at KN;have HK:Hid (∀v,Calls prog 42 #[.agg #[.int .i64 K,.int .i64 P,.bool kp,.int .u32 sb,.int .i64 si],.slice p0 n0 q0] v fun e w'=>e=.returned (.bool X)/\Below v.heap.size v w'):=KN;have i1:(0:Int)<=(j:Int):=oM;have i2:(j:Int)<(n2:Int):=oM;clear KN hT hX hx hall;cases X
    .go_wp2;refine rG (fun v=>v.cell? ⟨w.heap.size,2,none⟩=some (.slice (some ⟨b,o,none⟩) n2 q2)/\v.cell? ⟨w.heap.size,0,none⟩=some (.slice p0 n0 q0)/\v.cell? ⟨b,o+j*5,none⟩=some (.int .i64 K)/\v.cell? ⟨b,o+j*5+1,none⟩=some (.int .i64 P)/\v.cell? ⟨b,o+j*5+2,none⟩=some (.bool kp)/\v.cell? ⟨b,o+j*5+3,none⟩=some (.int .u32 sb)/\v.cell? ⟨b,o+j*5+4,none⟩=some (.int .i64 si)) fun yH=>?_;refine Tf 0 1 2 3 4 5 ?_;refine Bn 6 ?_;clear yH;refine Aw 7 fun K hK=>?_;go_simp;(go_at_call 42;(with_reducible refine(HK.out _).mono ?_);rintro e w2 ⟨rfl,hb2⟩;have HB2:Hid (Below wr.heap.size wr w2):=bel (A4 _) hb2;clear hb2;obtain⟨-,-,c0,c1,c2,c3⟩:=HCX.out.next HB2.out;have x0:=kc HB2.out y0;have x1:=kc HB2.out y1;have x2:=kc HB2.out y2;have x3:=kc HB2.out y3;have x4:=kc HB2.out y4);exact Y2
    .go_wp2;refine rG (fun v=>v.cell? ⟨w.heap.size,2,none⟩=some (.slice (some ⟨b,o,none⟩) n2 q2)/\v.cell? ⟨w.heap.size,0,none⟩=some (.slice p0 n0 q0)/\v.cell? ⟨b,o+j*5,none⟩=some (.int .i64 K)/\v.cell? ⟨b,o+j*5+1,none⟩=some (.int .i64 P)/\v.cell? ⟨b,o+j*5+2,none⟩=some (.bool kp)/\v.cell? ⟨b,o+j*5+3,none⟩=some (.int .u32 sb)/\v.cell? ⟨b,o+j*5+4,none⟩=some (.int .i64 si)) fun yH=>?_;refine Tf 0 1 2 3 4 5 ?_;refine Bn 6 ?_;clear yH;refine Aw 7 fun K hK=>?_;go_simp;(go_at_call 42;(with_reducible refine(HK.out _).mono ?_);rintro e w2 ⟨rfl,hb2⟩;have HB2:Hid (Below wr.heap.size wr w2):=bel (A4 _) hb2;clear hb2;obtain⟨-,-,c0,c1,c2,c3⟩:=HCX.out.next HB2.out;have x0:=kc HB2.out y0;have x1:=kc HB2.out y1;have x2:=kc HB2.out y2;have x3:=kc HB2.out y3;have x4:=kc HB2.out y4);exact XV
   have hjn2:j=n2:=oM;have HGO0:Hid (Hq c ⟨[],[]⟩ 0 c.list=(RA,RB)):=by
    show _=_;have h5:=hall.out;rw[hjn2,<-HN2.out,List.take_length]at h5;have h6:Bj c=true:=by unfold Bj;rw[HN0.out];exact h5
    have h7:=HRES.out;rw[HT.out,h6,if_pos rF]at h7;exact h7
   have e1:¬ (j:Int)<(n2:Int):=oM;clear hall hlt;go_wp2;clear e1 c0 c1 c2 c3 b1 b2
   go_loopw [7,8] (fun sv iv wr=>CX w (.slice p0 n0 q0) (.slice p1 n1 q1) (.slice p2 n2 q2) (.slice p3 n3 q3) wr/\∃ (k:Nat) (p:Option Addr) (q:Nat),k<=n1/\iv=.int .i64 (k:Int)/\sv=.slice p k q/\wr.ownsRow (w.heap.size+1) 4 1 (.slice p k q) k (Cm k [])) (fun _ iv _=>n1-(intOf iv).toNat)
   case atStart=>exact⟨HCX.out,0,none,0,gJ _,rfl,rfl,by rw[show Cm 0 []=[] from rfl];exact World.ownsRow_nil _ _ _ 1⟩
   case round=>
    obtain⟨hcx,k,p,q,hkn,rfl,rfl,how⟩:=hrel;have HCX:Hid (CX w (.slice p0 n0 q0) (.slice p1 n1 q1) (.slice p2 n2 q2) (.slice p3 n3 q3) wr):=hcx;obtain⟨b1,b2,c0,c1,c2,c3⟩:=hcx;by_cases hkl:k<n1
    .obtain⟨g,c',w8,hap,hb8,ho8⟩:=Pg how oM oM;have HAP:Hid ((Builtin.append_ #[75,75] 75 #[.slice p k q,.slice (some ⟨wr.heap.size,0,none⟩) 1 1]).run prog (wr.alloc (.cells #[.bool false] 4))=.ok (.slice (some ⟨g,0,none⟩) (k+1) c') w8):=hap;have HY8:Hid (CX w (.slice p0 n0 q0) (.slice p1 n1 q1) (.slice p2 n2 q2) (.slice p3 n3 q3) w8/\w8.ownsRow (w.heap.size+1) 4 1 (.slice (some ⟨g,0,none⟩) (k+1) c') (k+1) (Cm (k+1) [])):=by
      refine⟨HCX.on hb8,?_⟩;rw[Ki,List.replicate_succ',<-Ki];exact ho8
     have i2:(k:Int)<(n1:Int):=oM;have wi:IntKind.i64.wrap ((k:Int)+1)=((k+1:Nat):Int):=by rw[IntKind.wrap_i64];omega
     clear hap hb8 ho8 how;go_wp2_with(at_builtin;refine Bl rF _ _ _ rF _ _ _ rF rF HAP.out ?_);go_roundw
     case rel=>exact⟨HY8.1,k+1,_,_,oM,gN,rfl,HY8.2⟩
     case measure=>simp[intOf];omega
    have hkn1:k=n1:=oM;subst hkn1;have HSK0:Hid (SK (w.heap.size+1) k wr (.slice p k q) (.slice none 0 0) ⟨[],[]⟩ []):=SK.start wr _ b2 how;have e1:¬ (k:Int)<(k:Int):=oM;clear how hkl;go_wp2;clear e1 c0 c1 c2 c3 b1 b2
    go_loopw [7,9,10] (fun sv ov iv wr=>CX w (.slice p0 n0 q0) (.slice p1 k q1) (.slice p2 n2 q2) (.slice p3 n3 q3) wr/\∃ (j:Nat) (s:Wk) (us:List Value),j<=n3/\iv=.int .i64 (j:Int)/\Hid (SK (w.heap.size+1) k wr sv ov s us)/\Hid (Df k s)/\Hid (CQ s)/\Hid (Hq c s j (c.list.drop j)=(RA,RB))) (fun _ _ iv _=>n3-(intOf iv).toNat)
    case atStart=>exact⟨HCX.out,0,⟨[],[]⟩,[],gJ _,rfl,HSK0.out,Df.start k,CQ.start,by show _=_;rw[List.drop_zero];exact HGO0.out⟩
    case round=>
     obtain⟨hcx,j,s,us,hj,rfl,hsk,hok,hpo,hgo⟩:=hrel;obtain⟨po,qo,rfl⟩:=Ac hsk.opn;obtain⟨ps,qs,rfl⟩:=Ac hsk.set;have HCX:Hid (CX w (.slice p0 n0 q0) (.slice p1 k q1) (.slice p2 n2 q2) (.slice p3 n3 q3) wr):=hcx;obtain⟨b1,b2,f0,f1,f2,f3⟩:=hcx;have hnest:=hok.nest;clear HSK0;by_cases hlt:j<n3
     .have hll:j<c.list.length:=by rw[HN3.out];exact hlt
      obtain⟨b,o,rfl,hx⟩:=HLIST.at hll;have hgo':=hgo.out;rw[List.drop_eq_getElem_cons hll]at hgo';have hgi:Hq c s j (c.list[j]::c.list.drop (j+1))=if Bd c s c.list[j]then Hq c (AM s c.list[j]) (j+1) (c.list.drop (j+1))else(160,(j:Int)):=rfl;rw[hgi]at hgo';have hib:=HCO.ibits c.list[j] (gD hll);have hos:Bd c s c.list[j]=true->Df k (AM s c.list[j])/\CQ (AM s c.list[j]):=fun ht=>by
       have hq:Df c.regs.length s:=by rw[HN1.out];exact hok.out
       have h5:=Df.step hq ht;rw[HN1.out]at h5;exact⟨h5,hpo.step ht⟩
      have htk:Bd c s c.list[j]=true->Bm c c.list[j] (A5 c.list[j].op)=true/\AO c s c.list[j] (A5 c.list[j].op)=true:=fun ht=>by
       obtain⟨-,h5,h6,-⟩:=F7 ht;exact⟨h5,h6⟩
      obtain⟨⟨op,D,A,Q,E,nn,bt⟩,hxx⟩:∃x:Ax,c.list[j]=x:=⟨_,rfl⟩
      rw[hxx]at hx hgo' hos htk hib;have KS:=Kf _ _ _ _ c HCO.out HT.out (⟨op,D,A,Q,E,nn,bt⟩:Ax) hib.1 hib.2 (w.heap.size+1) s (.slice ps k qs) (.slice po s.opens.length qo) us (by rw[HN1.out];exact h1) (by rw[HN1.out];exact hok.out) hpo.out (wr.alloc (.cells #[.int .i64 op,.int .i64 D,.int .i64 A,.int .i64 Q,.int .i64 E,.int .i64 nn,.int .u32 bt] 39)) ((HCV.below b1).below (A2 _ _)) (by rw[HN1.out];exact hsk.below (A2 _ _));have x0:=kc b1 (hx.at 0 rfl);have x1:=kc b1 (hx.at 1 rfl);have x2:=kc b1 (hx.at 2 rfl);have x3:=kc b1 (hx.at 3 rfl);have x4:=kc b1 (hx.at 4 rfl);have x5:=kc b1 (hx.at 5 rfl);have x6:=kc b1 (hx.at 6 rfl);rw[Nat.add_zero]at x0;obtain⟨-,-,f0',f1',f2',f3'⟩:=HCX.next (A2 wr (.cells #[.int .i64 op,.int .i64 D,.int .i64 A,.int .i64 Q,.int .i64 E,.int .i64 nn,.int .u32 bt] 39));have HIX:Hid (∀v,Below (wr.alloc (.cells #[.int .i64 op,.int .i64 D,.int .i64 A,.int .i64 Q,.int .i64 E,.int .i64 nn,.int .u32 bt] 39)).heap.size (wr.alloc (.cells #[.int .i64 op,.int .i64 D,.int .i64 A,.int .i64 Q,.int .i64 E,.int .i64 nn,.int .u32 bt] 39)) v->v.cell? ⟨wr.heap.size,0,none⟩=some (.int .i64 op)/\v.cell? ⟨wr.heap.size,1,none⟩=some (.int .i64 D)/\v.cell? ⟨wr.heap.size,2,none⟩=some (.int .i64 A)/\v.cell? ⟨wr.heap.size,3,none⟩=some (.int .i64 Q)/\v.cell? ⟨wr.heap.size,4,none⟩=some (.int .i64 E)/\v.cell? ⟨wr.heap.size,5,none⟩=some (.int .i64 nn)/\v.cell? ⟨wr.heap.size,6,none⟩=some (.int .u32 bt)):=fun v hb=>⟨kc hb sG,kc hb sG,kc hb sG,kc hb sG,kc hb sG,kc hb sG,kc hb sG⟩
      obtain⟨T,hT⟩:=gA (Bd c s (⟨op,D,A,Q,E,nn,bt⟩:Ax))
      rw[hT]at hgo' hos htk KS;have HST:Hid (Calls prog 43 #[.agg #[.slice p0 n0 q0,.slice p1 k q1,.slice p2 n2 q2,.slice (some ⟨b,o,none⟩) n3 q3],.agg #[.int .i64 op,.int .i64 D,.int .i64 A,.int .i64 Q,.int .i64 E,.int .i64 nn,.int .u32 bt],.slice ps k qs,.slice po s.opens.length qo] (wr.alloc (.cells #[.int .i64 op,.int .i64 D,.int .i64 A,.int .i64 Q,.int .i64 E,.int .i64 nn,.int .u32 bt] 39)) fun e w'=>e=.returned (.bool T)/\Below (wr.alloc (.cells #[.int .i64 op,.int .i64 D,.int .i64 A,.int .i64 Q,.int .i64 E,.int .i64 nn,.int .u32 bt] 39)).heap.size (wr.alloc (.cells #[.int .i64 op,.int .i64 D,.int .i64 A,.int .i64 Q,.int .i64 E,.int .i64 nn,.int .u32 bt] 39)) w'):=KS;have HGO:Hid ((if T=true then Hq c (AM s (⟨op,D,A,Q,E,nn,bt⟩:Ax)) (j+1) (c.list.drop (j+1))else(160,(j:Int)))=(RA,RB)):=hgo';have HOS:Hid (T=true->Df k (AM s (⟨op,D,A,Q,E,nn,bt⟩:Ax))/\CQ (AM s (⟨op,D,A,Q,E,nn,bt⟩:Ax))):=hos;have HTK:Hid (T=true->Bm c (⟨op,D,A,Q,E,nn,bt⟩:Ax) (A5 op)=true/\AO c s (⟨op,D,A,Q,E,nn,bt⟩:Ax) (A5 op)=true):=htk;have k1:(0:Int)<=(j:Int):=oM;have k2:(j:Int)<(n3:Int):=oM;have wj:IntKind.i64.wrap ((j:Int)+1)=((j+1:Nat):Int):=by rw[IntKind.wrap_i64];omega
      clear KS hgo hgo' hgi hos htk hT hx hxx hib hll;cases T
      .have HQ:Hid ((160,(j:Int))=(RA,RB)):=by show _=_;have:=HGO.out;rw[if_neg dE]at this;exact this
       go_wp2_with(go_at_call 43;(with_reducible refine HST.out.mono ?_);rintro e w5 ⟨rfl,hb5⟩;have HB5:Hid (Below (wr.alloc (.cells #[.int .i64 op,.int .i64 D,.int .i64 A,.int .i64 Q,.int .i64 E,.int .i64 nn,.int .u32 bt] 39)).heap.size (wr.alloc (.cells #[.int .i64 op,.int .i64 D,.int .i64 A,.int .i64 Q,.int .i64 E,.int .i64 nn,.int .u32 bt] 39)) w5):=hb5;clear hb5 f0 f1 f2 f3;obtain⟨-,-,f0,f1,f2,f3⟩:=(HCX.out.next (A2 _ _)).next HB5.out;obtain⟨i0,i1,i2,i3,i4,i5,i6⟩:=HIX.out w5 HB5.out)
       go_ret2
       exact⟨Fp HQ.out,bel (bel HCX.bel (A2 _ _)) HB5.out⟩
      .have HO1:Hid (Df k (AM s (⟨op,D,A,Q,E,nn,bt⟩:Ax))/\CQ (AM s (⟨op,D,A,Q,E,nn,bt⟩:Ax))):=HOS.out rfl;have HG1:Hid (Hq c (AM s (⟨op,D,A,Q,E,nn,bt⟩:Ax)) (j+1) (c.list.drop (j+1))=(RA,RB)):=by show _=_;have:=HGO.out;rw[if_pos rfl]at this;exact this
       have HTK1:Hid (Bm c (⟨op,D,A,Q,E,nn,bt⟩:Ax) (A5 op)=true/\AO c s (⟨op,D,A,Q,E,nn,bt⟩:Ax) (A5 op)=true):=HTK.out rfl;have HOB:Hid (∀g,(Value.slice po s.opens.length qo).ownBlock=some g->g<wr.heap.size):=fun g e=>(hsk.opn.lt g e).2;clear HGO HOS HTK;by_cases hop:op=34\/op=36
       .have hn64:s.opens.length<64:=F4 (i:=(⟨op,D,A,Q,E,nn,bt⟩:Ax)) HTK1.2 hop;have HOP:Hid (op=34\/op=36):=hop;have HCP:Hid (∀v,Below wr.heap.size wr v->Calls prog 44 #[.slice ps k qs] v fun e w'=>∃u,e=.returned u/\w'.ownsRow v.heap.size 4 1 u k (Cm k s.set)/\Below v.heap.size v w'):=fun v hb=>Gc _ h1 v (Ag hsk.set hb);have hq:((op==34)=true)\/((op==34)=false/\(op==36)=true):=by
         rcases hop with e|e
         .exact .inl (by simpa using e)
         .exact .inr ⟨by rw[e];decide,by simpa using e⟩
        clear hop;rcases hq with r1|⟨r1,r2⟩
        all_goals
         go_wp2_with(go_at_call 43;(with_reducible refine HST.out.mono ?_);rintro e w5 ⟨rfl,hb5⟩;have HB5:Hid (Below (wr.alloc (.cells #[.int .i64 op,.int .i64 D,.int .i64 A,.int .i64 Q,.int .i64 E,.int .i64 nn,.int .u32 bt] 39)).heap.size (wr.alloc (.cells #[.int .i64 op,.int .i64 D,.int .i64 A,.int .i64 Q,.int .i64 E,.int .i64 nn,.int .u32 bt] 39)) w5):=hb5;have HBR:Hid (Below wr.heap.size wr w5):=bel (A2 _ _) hb5;clear hb5 f0 f1 f2 f3;obtain⟨-,-,f0,f1,f2,f3⟩:=(HCX.out.next (A2 _ _)).next HB5.out;obtain⟨i0,i1,i2,i3,i4,i5,i6⟩:=HIX.out w5 HB5.out);refine rG (fun v=>v.cell? ⟨wr.heap.size,0,none⟩=some (.int .i64 op)/\v.cell? ⟨wr.heap.size,5,none⟩=some (.int .i64 nn)) fun yH=>?_;refine Tf 0 1 2 3 4 5 ?_;clear yH;refine Aw 6 fun K hK=>?_;go_simp;(go_at_call 44;(with_reducible refine(HCP.out _ (bel HBR.out (A4 _))).mono ?_);rintro e w6 ⟨u,rfl,hu,hb6⟩;obtain⟨pu,qu,rfl⟩:=Ac hu;have hb66:Below w5.heap.size w5 w6:=bel (A4 _) hb6;obtain⟨g',c',w7,hrun,hb7,hsk7,hoth⟩:=SK.push (i:=(⟨op,D,A,Q,E,nn,bt⟩:Ax)) (hsk.out.below HBR.out) hb66 hu HOP.out hn64 93;dsimp only at hrun;have HRUN:Hid _:=hrun;have HX7:Hid (CX w (.slice p0 n0 q0) (.slice p1 k q1) (.slice p2 n2 q2) (.slice (some ⟨b,o,none⟩) n3 q3) w7):=((HCX.out.next (A2 _ _)).next HB5.out).on hb7;have HS7:Hid (SK (w.heap.size+1) k w7 (.slice ps k qs) (.slice (some ⟨g',0,none⟩) (s.opens.length+1) c') (AM s (⟨op,D,A,Q,E,nn,bt⟩:Ax)) (us++[.slice pu k qu])):=hsk7;have j0:=kc hb66 i0;have j5:=kc hb66 i5;have hwl:wr.heap.size<w6.heap.size:=Ad j0;have hne:(Value.slice po s.opens.length qo).ownBlock≠some wr.heap.size:=(fun e=>Nat.lt_irrefl _ (HOB.out _ e));have m0:w7.cell? ⟨wr.heap.size,0,none⟩=some (.int .i64 op):=(gC (hoth _ hwl hne)).trans j0;have m5:w7.cell? ⟨wr.heap.size,5,none⟩=some (.int .i64 nn):=(gC (hoth _ hwl hne)).trans j5;have a0:∀x,(w6.alloc x).cell? ⟨wr.heap.size,0,none⟩=some (.int .i64 op):=(fun x=>kc (A2 _ _) j0);have a5:∀x,(w6.alloc x).cell? ⟨wr.heap.size,5,none⟩=some (.int .i64 nn):=(fun x=>kc (A2 _ _) j5);clear hu hb6 hb66 hrun hb7 hsk7 hoth hne i0 i5);try(go_wp2_with fail)
         refine AU hK fun yH=>?_;clear hK K;refine Bn 7 ?_;clear yH;refine Aw 8 fun K hK=>?_;go_simp;refine AU hK fun yH=>?_;clear hK K;clear yH;refine Aw 9 fun K hK=>?_;refine LQ _ _ _ rF _ _ _ rF rF HRUN.out ?_ _ rF;refine AU hK fun yH=>?_;clear hK K;refine Bn 10 ?_;refine wpAnyH_done kR ?_ _;go_wp2;go_roundw
         case rel=>exact⟨HX7.out,j+1,AM s (⟨op,D,A,Q,E,nn,bt⟩:Ax),us++[Value.slice pu k qu],oM,gN,HS7,HO1.1,HO1.2,HG1.out⟩
         case measure=>simp[intOf];omega
       have q34:(op==34)=false:=by have:op≠34:=fun e=>hop (.inl e);simpa using this
       have q36:(op==36)=false:=by have:op≠36:=fun e=>hop (.inr e);simpa using this
       have HNO:Hid (op≠34/\op≠36):=⟨fun e=>hop (.inl e),fun e=>hop (.inr e)⟩
       clear hop;by_cases h35:op=35
       .have hmay:=HTK1.2;unfold AO at hmay;rw[if_neg (fun e=>e.elim HNO.1 HNO.2),if_pos h35]at hmay;simp only[Bool.and_eq_true,Bool.not_eq_true']at hmay;have hn0:0<s.opens.length:=by
         rcases Nat.eq_zero_or_pos s.opens.length with e|e
         .have:=List.length_eq_zero_iff.1 e;rw[this]at hmay;exact absurd hmay.1 dE
         .exact e
        have HLP:Hid (AP s=false):=hmay.2;obtain⟨g,cap,eo,-⟩:=hsk.opn.form hn0;simp only[Value.slice.injEq]at eo;obtain⟨rfl,-,-⟩:=eo;obtain⟨X,u,hX,hu,-,-,z2⟩:=hsk.last hn0;obtain⟨pu,qu,rfl⟩:=Ac hu;have HXO:Hid ((Hw s)[s.opens.length-1]? =some ⟨if AP s then 36 else 34,C9 s,X⟩):=hX;have HCP:Hid (∀v,Below wr.heap.size wr v->Calls prog 44 #[.slice pu k qu] v fun e w'=>∃u,e=.returned u/\w'.ownsRow v.heap.size 4 1 u k (Cm k X)/\Below v.heap.size v w'):=fun v hb=>Gc _ h1 v (Ag hu hb);have s1:=fun w=>Eu TP Rp (some ⟨g,0,none⟩) s.opens.length qo (s.opens.length-1) (by have:=J7 hsk.opn;omega) w;have HN0':Hid (0<s.opens.length):=hn0;obtain⟨N,hN⟩:=gA (s.opens.length)
        obtain⟨m,hm⟩:=gA (N-1)
        have HNN:Hid (s.opens.length=N):=hN;have HMM:Hid (N-1=m):=hm;rw[hN]at z2 s1 hn0 hnest;rw[hm]at z2 s1;rw[hN]at HST;rw[hN];have hw:IntKind.i64.wrap ((N:Int)-1)=(m:Int):=by rw[IntKind.wrap_i64];omega
        have r1:(0:Int)<=(m:Int):=oM;have r2:(m:Int)<(N:Int):=oM;have q35:(op==35)=true:=by simpa using h35
        have HOP:Hid (op=35\/op=37):=.inl h35;clear hmay hX hu h35 hN hm;go_wp2_with(first
         |(go_at_call 43;(with_reducible refine HST.out.mono ?_);rintro e w5 ⟨rfl,hb5⟩;have HB5:Hid (Below (wr.alloc (.cells #[.int .i64 op,.int .i64 D,.int .i64 A,.int .i64 Q,.int .i64 E,.int .i64 nn,.int .u32 bt] 39)).heap.size (wr.alloc (.cells #[.int .i64 op,.int .i64 D,.int .i64 A,.int .i64 Q,.int .i64 E,.int .i64 nn,.int .u32 bt] 39)) w5):=hb5;have HBR:Hid (Below wr.heap.size wr w5):=bel (A2 _ _) hb5;clear hb5 f0 f1 f2 f3;obtain⟨-,-,f0,f1,f2,f3⟩:=(HCX.out.next (A2 _ _)).next HB5.out;have z5:=kc HBR.out z2;obtain⟨i0,i1,i2,i3,i4,i5,i6⟩:=HIX.out w5 HB5.out)
         |(go_at_call 44;(with_reducible refine(HCP.out _ HBR.out).mono ?_);rintro e w6 ⟨u,rfl,hu,hb6⟩;have HU6:Hid (w6.ownsRow w5.heap.size 4 1 u k (Cm k X)):=hu;have HB6:Hid (Below w5.heap.size w5 w6):=hb6;clear hu hb6))
        go_roundw
        case rel=>
         refine⟨((HCX.next (A2 _ _)).next HB5.out).next HB6.out,j+1,AM s (⟨op,D,A,Q,E,nn,bt⟩:Ax),us.take (s.opens.length-1),oM,gN,?_,HO1.1,HO1.2,HG1.out⟩;have e1:AM s (⟨op,D,A,Q,E,nn,bt⟩:Ax)=B9 s:=Js HOP.out;have h9:=SK.back (hsk.below HBR.out) hok.out HN0'.out HLP.out HB6.out HXO.out HU6.out;rw[e1,<-HMM.out,<-HNN.out];exact h9
        case measure=>simp[intOf];omega
       have q35:(op==35)=false:=by simpa using h35
       by_cases h37:op=37
       .have hmay:=HTK1.2;unfold AO at hmay;rw[if_neg (fun e=>e.elim HNO.1 HNO.2),if_neg h35,if_pos h37]at hmay;have hn0:0<s.opens.length:=by
         rcases Nat.eq_zero_or_pos s.opens.length with e|e
         .have:=List.length_eq_zero_iff.1 e;unfold AP at hmay;rw[this]at hmay;exact absurd hmay dE
         .exact e
        have HLP:Hid (AP s=true):=hmay;have s1:=fun w=>Eu TP Rp po s.opens.length qo (s.opens.length-1) (by have:=J7 hsk.opn;omega) w;have HN0':Hid (0<s.opens.length):=hn0;obtain⟨N,hN⟩:=gA (s.opens.length)
        obtain⟨m,hm⟩:=gA (N-1)
        have HNN:Hid (s.opens.length=N):=hN;have HMM:Hid (N-1=m):=hm;rw[hN]at s1 hn0 hnest;rw[hm]at s1;rw[hN]at HST;rw[hN];have hw:IntKind.i64.wrap ((N:Int)-1)=(m:Int):=by rw[IntKind.wrap_i64];omega
        have r1:(0:Int)<=(m:Int):=oM;have r2:(m:Int)<(N:Int):=oM;have q37:(op==37)=true:=by simpa using h37
        have HOP:Hid (op=35\/op=37):=.inr h37;clear hmay h35 h37 hN hm;go_wp2_with(go_at_call 43;(with_reducible refine HST.out.mono ?_);rintro e w5 ⟨rfl,hb5⟩;have HB5:Hid (Below (wr.alloc (.cells #[.int .i64 op,.int .i64 D,.int .i64 A,.int .i64 Q,.int .i64 E,.int .i64 nn,.int .u32 bt] 39)).heap.size (wr.alloc (.cells #[.int .i64 op,.int .i64 D,.int .i64 A,.int .i64 Q,.int .i64 E,.int .i64 nn,.int .u32 bt] 39)) w5):=hb5;have HBR:Hid (Below wr.heap.size wr w5):=bel (A2 _ _) hb5;clear hb5 f0 f1 f2 f3;obtain⟨-,-,f0,f1,f2,f3⟩:=(HCX.out.next (A2 _ _)).next HB5.out;obtain⟨i0,i1,i2,i3,i4,i5,i6⟩:=HIX.out w5 HB5.out);go_roundw
        case rel=>
         refine⟨(HCX.next (A2 _ _)).next HB5.out,j+1,AM s (⟨op,D,A,Q,E,nn,bt⟩:Ax),us.take (s.opens.length-1),oM,gN,?_,HO1.1,HO1.2,HG1.out⟩;have e1:AM s (⟨op,D,A,Q,E,nn,bt⟩:Ax)=B9 s:=Js HOP.out;have h9:=SK.pop (hsk.below HBR.out) hok.out HN0'.out HLP.out;rw[e1,<-HMM.out,<-HNN.out];exact h9
        case measure=>simp[intOf];omega
       have q37:(op==37)=false:=by simpa using h37
       have HNP:Hid (op≠34/\op≠35/\op≠36/\op≠37):=⟨HNO.1,h35,HNO.2,h37⟩
       have KE:=IE (⟨op,D,A,Q,E,nn,bt⟩:Ax);unfold DV at KE;simp only at KE;have hdr:(A5 op).d≠0->0<=D/\D<(k:Int):=fun hd=>by
        have:=BB (IS HTK1.1) hd;rw[HN1.out]at this;exact this
       clear h35 h37;by_cases hsd:(A5 op).d=0
       .have e9:((A5 op).d != 0)=false:=by simp[hsd]
        rw[e9]at KE;have HKE:Hid (∀v,Calls prog 38 #[.agg #[.int .i64 op,.int .i64 D,.int .i64 A,.int .i64 Q,.int .i64 E,.int .i64 nn,.int .u32 bt]] v fun e w'=>e=.returned (.bool false)/\Below v.heap.size v w'):=KE;have HSD:Hid ((A5 op).d=0):=hsd;clear KE e9 hdr hsd;go_wp2_with(first
         |(go_at_call 43;(with_reducible refine HST.out.mono ?_);rintro e w5 ⟨rfl,hb5⟩;have HB5:Hid (Below (wr.alloc (.cells #[.int .i64 op,.int .i64 D,.int .i64 A,.int .i64 Q,.int .i64 E,.int .i64 nn,.int .u32 bt] 39)).heap.size (wr.alloc (.cells #[.int .i64 op,.int .i64 D,.int .i64 A,.int .i64 Q,.int .i64 E,.int .i64 nn,.int .u32 bt] 39)) w5):=hb5;have HBR:Hid (Below wr.heap.size wr w5):=bel (A2 _ _) hb5;clear hb5 f0 f1 f2 f3;obtain⟨-,-,f0,f1,f2,f3⟩:=(HCX.out.next (A2 _ _)).next HB5.out;obtain⟨i0,i1,i2,i3,i4,i5,i6⟩:=HIX.out w5 HB5.out)
         |(go_at_call 38;(with_reducible refine(HKE.out _).mono ?_);rintro e w6 ⟨rfl,hb6⟩;have HB6:Hid (Below w5.heap.size w5 w6):=hb6;clear hb6))
        go_roundw
        case rel=>exact⟨((HCX.next (A2 _ _)).next HB5.out).next HB6.out,j+1,AM s (⟨op,D,A,Q,E,nn,bt⟩:Ax),us,oM,gN,SK.keep ((hsk.below HBR.out).below HB6.out) hok.out HNP.1 HNP.2.1 HNP.2.2.1 HNP.2.2.2 HSD.out,HO1.1,HO1.2,HG1.out⟩
        case measure=>simp[intOf];omega
       .have e9:((A5 op).d != 0)=true:=by simp[hsd]
        rw[e9]at KE;have HKE:Hid (∀v,Calls prog 38 #[.agg #[.int .i64 op,.int .i64 D,.int .i64 A,.int .i64 Q,.int .i64 E,.int .i64 nn,.int .u32 bt]] v fun e w'=>e=.returned (.bool true)/\Below v.heap.size v w'):=KE;have HSD:Hid ((A5 op).d≠0):=hsd;obtain⟨d,rfl⟩:∃d:Nat,D=(d:Int):=⟨D.toNat,by have:=hdr hsd;omega⟩
        have hd2:=(hdr hsd).2;obtain⟨gs,cap,eo,hgs,-⟩:=hsk.set.form oM;simp only[Value.slice.injEq]at eo;obtain⟨rfl,-,-⟩:=eo;have d0:(0:Int)<=(d:Int):=oM;have HG9:Hid (w.heap.size+1<=gs):=(hsk.set.lt gs rfl).1;have HCE:Hid (∀v,Below wr.heap.size wr v->v.cell? ⟨gs,d,none⟩=some (.bool (decide (d∈s.set)))/\v.frozen? ⟨gs,d,none⟩=false):=fun v hb=>by
         have h9:=Ag hsk.set hb;exact⟨by rw[h9.cellAt d oM,Ft oM],h9.frozenAt d⟩
        clear KE e9 hdr hsd;go_wp2_with(first
         |(go_at_call 43;(with_reducible refine HST.out.mono ?_);rintro e w5 ⟨rfl,hb5⟩;have HB5:Hid (Below (wr.alloc (.cells #[.int .i64 op,.int .i64 (d:Int),.int .i64 A,.int .i64 Q,.int .i64 E,.int .i64 nn,.int .u32 bt] 39)).heap.size (wr.alloc (.cells #[.int .i64 op,.int .i64 (d:Int),.int .i64 A,.int .i64 Q,.int .i64 E,.int .i64 nn,.int .u32 bt] 39)) w5):=hb5;have HBR:Hid (Below wr.heap.size wr w5):=bel (A2 _ _) hb5;clear hb5 f0 f1 f2 f3;obtain⟨-,-,f0,f1,f2,f3⟩:=(HCX.out.next (A2 _ _)).next HB5.out;obtain⟨i0,i1,i2,i3,i4,i5,i6⟩:=HIX.out w5 HB5.out)
         |(go_at_call 38;(with_reducible refine(HKE.out _).mono ?_);rintro e w6 ⟨rfl,hb6⟩;have HB6:Hid (Below w5.heap.size w5 w6):=hb6;obtain⟨y8,y9⟩:=HCE.out w6 (bel HBR.out hb6);have i1:=kc hb6 i1;clear hb6))
        go_roundw
        case rel=>exact⟨(((HCX.next (A2 _ _)).next HB5.out).next HB6.out).on ((Below.refl _ _).setCell HG9.out _),j+1,AM s ⟨op,(d:Int),A,Q,E,nn,bt⟩,us,oM,gN,SK.ins (i:=⟨op,(d:Int),A,Q,E,nn,bt⟩) ((hsk.below HBR.out).below HB6.out) hok.out HNP.1 HNP.2.1 HNP.2.2.1 HNP.2.2.2 HSD.out (by have:=hd2;show d<k;omega),HO1.1,HO1.2,HG1.out⟩
        case measure=>simp[intOf];omega
     .have hjn3:j=n3:=oM;have hgo':=hgo.out;rw[List.drop_of_length_le (by rw[HN3.out,hjn3];exact gF _)]at hgo';have hgi:Hq c s j []=if s.opens.isEmpty then(0,0)else(160,(j:Int)):=rfl;rw[hgi]at hgo';obtain⟨N,hN⟩:=gA (s.opens.length)
      have hE:s.opens.isEmpty=decide (N=0):=by
       rw[<-hN];cases s.opens with
       |nil=>rfl
       |cons a l=>simp
      rw[hE]at hgo';have HGO:Hid ((if decide (N=0)=true then((0:Int),(0:Int))else(160,(j:Int)))=(RA,RB)):=hgo';rw[hN]at hnest;rw[hN];have e1:¬ (j:Int)<(n3:Int):=oM;clear hgo hgo' hgi hE hN hlt;by_cases hz:N=0
      .have HQ:Hid ((0,0)=(RA,RB)):=by show _=_;have:=HGO.out;rw[if_pos (by simpa using hz)]at this;exact this
       subst hz;go_wp2
       go_ret2
       exact⟨Fp HQ.out,HCX.bel⟩
      .have HQ:Hid ((160,(j:Int))=(RA,RB)):=by show _=_;have:=HGO.out;rw[if_neg (by simpa using hz)]at this;exact this
       have hz':(0:Int)<(N:Int):=oM;have HJ:Hid ((j:Int)=(n3:Int)):=by show _=_;omega
       clear hz;go_wp2;refine rG (fun v=>v.cell? ⟨w.heap.size,3,none⟩=some (.slice p3 n3 q3)) fun yH=>?_;refine Tc 0 1 2 ?_;refine Tb 3 4 ?_;refine wpAnyH_done kR ?_ _;go_wp2
       go_ret2
       refine⟨Fp ?_,CM HCX.bel⟩;rw[<-HJ.out];exact HQ.out
theorem Jd(v0 v1 v2 v3:Value)(c:Cd)(hk:BE c)(w:World)(hv:DO w v0 v1 v2 v3 c):
 Calls prog 18 #[.agg #[v0,v1,v2,v3]] w fun e w'=>e=.returned (.tuple #[.int .i64 (AH c).1,.int .i64 (AH c).2])/\Below w.heap.size w w':=by
 by_cases h0:AC c.sign=0
 .by_cases h1:16384<c.regs.length\/32768<c.list.length
  .have e:AH c=(181,-1):=by unfold AH C7;simp[h0,h1]
   rw[e];exact DD v0 v1 v2 v3 c hk w hv 181 (.inr (.inl ⟨h0,h1,rfl⟩))
  .by_cases h2:4096<c.slots.length
   .have e:AH c=(180,-1):=by unfold AH C7;simp[h0,h1,h2]
    rw[e];exact DD v0 v1 v2 v3 c hk w hv 180 (.inr (.inr ⟨h0,fun e=>h1 (.inl e),fun e=>h1 (.inr e),h2,rfl⟩))
   .refine K9 v0 v1 v2 v3 c hk w hv h0 oM oM oM _ _ ?_;have hA:C7 c=if(Ap c&&Bj c)=true then 0 else 160:=by
     unfold C7;rw[if_neg (fun e=>e h0),if_neg h1,if_neg h2]
    unfold AH;rw[hA];by_cases h3:(Ap c&&Bj c)=true
    .rw[if_pos h3,if_pos h3,if_neg dE]
    .rw[if_neg h3,if_neg h3,if_pos dE]
 .have e:AH c=(AC c.sign,-1):=by unfold AH C7;simp[h0]
  rw[e];exact DD v0 v1 v2 v3 c hk w hv _ (.inl ⟨h0,rfl⟩)

theorem IK:∀ (l:Bs) (n:Int) (k:Nat),l.length=k->(∀b∈l,Gj b)->Ba n l<(n+1)*10^k
 |[],n,k,hk,_=>by subst hk;simp[Ba];omega
 |b::t,n,k,hk,hd=>by
  obtain⟨j,rfl⟩:∃j,k=j+1:=⟨t.length,by simpa using hk.symm⟩
  have h1:=IK t (n*10+(nb b-48)) j (by simpa using hk) (fun c hc=>hd c Pb);have h2:=hd b sM;unfold Gj at h2;rw[Ba];refine Int.lt_of_lt_of_le h1 ?_;rw[Int.pow_succ,Int.mul_comm (10^j) 10,<-Int.mul_assoc];exact Int.mul_le_mul_of_nonneg_right Wv (Int.le_of_lt (Int.pow_pos dE))
theorem Tw(l:Bs)(h:l.length<=10)(hd:∀b∈l,Gj b):Ba 0 l<10000000000:=by
 have h1:=IK l 0 l.length rfl hd;have h2:(10:Int)^l.length<=10^10:=by exact_mod_cast Nat.pow_le_pow_right oM h
 have h3:(10:Int)^10=10000000000:=dE;omega
theorem OX(l:Bs)(b:UInt8):Ba 0 (l++[b])=Ba 0 l*10+(nb b-48):=by rw[Db];rfl
theorem EN(s:ByteArray):(bs s).take s.size=bs s:=List.take_of_length_le (by rw[A9];omega)
theorem D4(s:ByteArray)(k:Nat)(h:k<s.size):(bs s).take (k+1)=(bs s).take k++[s[k]]:=by
 have h9:=G0 s k h;exact h9
theorem TI(s:ByteArray)(h:0<s.size):hd (bs s)=(s[0].toNat:Int):=by
 have h1:=D4 s 0 h;cases hb:bs s with
 |nil=>rw[hb]at h1;simp at h1
 |cons b t=>rw[hb]at h1;simp at h1;rw[h1];rfl
def KQ(s:ByteArray)(w:World)(e:Ending)(w':World):Prop:=∃n b,e=.returned (.tuple #[.int .i64 n,.bool b])/\(b=true->Af (bs s)=some n)/\(b=false->Af (bs s)=none)/\Below w.heap.size w w'
theorem Ct(s:ByteArray)(hs:s.size<=140737488355328)(w:World):Calls prog 31 #[.string s] w fun e w'=>KQ s w e w':=by
 by_cases c0:s.size=0
 .have HT:Hid (Af (bs s)=none):=by
   show _=_;unfold Af;rw[if_pos];have:bs s=[]:=List.eq_nil_of_length_eq_zero (by rw[A9];exact c0);rw[this];rfl
  have a1:((s.size:Int)==0)=true:=by rw[c0];rfl
  clear c0;exact WQ
 have a1:((s.size:Int)==0)=false:=by rw[beq_eq_false_iff_ne];omega
 by_cases c1:10<s.size
 .have HT:Hid (Af (bs s)=none):=by
   show _=_;unfold Af;rw[if_pos];rw[A9];simp[c1]
  have a2:(10:Int)<(s.size:Int):=oM;clear c0 c1;exact WQ
 have a2:¬ (10:Int)<(s.size:Int):=oM;have h0:0<s.size:=oM;by_cases c2:1<s.size/\s[0].toNat=48
 .have HT:Hid (Af (bs s)=none):=by
   show _=_;unfold Af;rw[if_pos];rw[A9,TI s h0];simp[c2.1,c2.2]
  have a3:(1:Int)<(s.size:Int):=oM;have a4:((s[0].toNat:Int)==48)=true:=by rw[c2.2];rfl
  clear c0 c1 c2;exact WQ
 have HQ:Hid (Af (bs s)=if((bs s).all fun b=>FS (nb b))then(if Ba 0 (bs s)<=2147483647 then some (Ba 0 (bs s))else none)else none):=by
  show _=_;unfold Af;rw[if_neg];rw[A9,TI s h0];have hne:bs s≠[]:=fun e=>by have:=congrArg List.length e;rw[A9]at this;exact c0 this
  simp only[Bool.or_eq_true,Bool.and_eq_true,decide_eq_true_eq,beq_iff_eq,List.isEmpty_iff,not_or,not_and];exact⟨⟨hne,oM⟩,fun q q2=>c2 ⟨q,oM⟩⟩
 have hs10:s.size<=10:=oM;by_cases c3:1<s.size
 .have a3:(1:Int)<(s.size:Int):=oM;have a4:((s[0].toNat:Int)==48)=false:=by
   have:¬s[0].toNat=48:=fun e=>c2 ⟨c3,e⟩;rw[beq_eq_false_iff_ne];omega
  exact Xn
 .have a3:¬ (1:Int)<(s.size:Int):=oM;exact Xn
theorem LM(s:ByteArray)(hs:s.size<=4194304)(w:World):
 Calls prog 13 #[.string s] w fun e w'=>∃v,e=.returned v/\Jx w' w.heap.size v ((Aj [] (bs s)).map A6)/\Below w.heap.size w w':=by
 obtain⟨i0,hi0,hz0,hz1,hz2⟩:=info_parts JP;go_enter func13,ntmps13;go_wp2
 go_loopw [3,4,5] (fun lv fv iv wr=>Below w.heap.size w wr/\∃ (j f:Nat) (acc:List Bs) (ov:Value),ov=lv/\j<=s.size+1/\f<=j/\acc.length<=j/\iv=.int .i64 j/\fv=.int .i64 f/\Hid (Jx wr w.heap.size ov (acc.map A6))/\Hid (Ci s acc f j)) (fun _ _ iv _=>s.size+1-(intOf iv).toNat)
 case atStart=>exact⟨BY w,0,0,[],_,rfl,gJ _,gF _,gJ _,rfl,rfl,Q9 _ _,Ky s⟩
 case round=>
  obtain⟨hb,j,f,acc,ov,rfl,hj,hf,hac,rfl,rfl,HO,HW⟩:=hrel;have i1:(0:Int)<=(j:Int):=oM;have szr:=hb.size;by_cases hle:j<=s.size
  .have i3:(j:Int)<=(s.size:Int):=oM;have f1:(0:Int)<=(f:Int):=oM;have f2:(f:Int)<=(j:Int):=oM;have hxe:s.extract f j=A6 (((bs s).drop f).take (j-f)):=by unfold A6;rw[<-ET,MM]
   obtain⟨X,hX⟩:=gA (s.extract f j)
   have HX:Hid (X=A6 (((bs s).drop f).take (j-f))):=by rw[<-hX];exact hxe
   clear hxe;by_cases hlt:j<s.size
   .have i2:(j:Int)<(s.size:Int):=oM;have i4:((j:Int)==(s.size:Int))=false:=by rw[beq_eq_false_iff_ne];omega
    by_cases hc:(s[j].toNat:Int)=32
    .have HN:Hid (Ci s (acc++[((bs s).drop f).take (j-f)]) (j+1) (j+1)):=P5 HW.out hlt hc;have hc':((s[j].toNat:Int)==32)=true:=by simpa using hc
     clear hc HW;go_wp2_with(first
      |(at_builtin;refine wpList_append_own_at _ rfl _ _ 52 rfl w.heap.size 9 i0 _ 1 16 underlying52 hi0 hz0 hz1 hz2 rfl dE ov acc.length (Jt (acc.map A6)) rfl (World.ownsRow.alloc Yn _) ⟨wr.heap.size,0,none⟩ 1 1 [.string X] rfl rfl (World.news_of_block (cs:=#[.string X]) (t:=9) (fr:=(0,0)) (heap_alloc_new wr _)) Ny mL oM sO ?_;intro v' w3 hown3 hgrow hnil hat;have HO3:Hid (w3.ownsRow w.heap.size 9 1 v' (acc.length+1) (Jt (acc.map A6)++[.string X])/\(wr.alloc (.cells #[.string X] 9)).grownBy w3 ov.ownBlock):=⟨hown3,hgrow⟩;clear hown3 hgrow hnil hat))
     go_roundw
     case rel=>
      obtain⟨ho3,hgrow⟩:=HO3.out;have hob:=HO.lt;refine⟨Below.grown (hb.alloc oM _) hgrow sO (fun q e=>(hob q e).1),j+1,j+1,acc++[((bs s).drop f).take (j-f)],_,rfl,oM,gF _,sO,gN,gN,?_,HN.out⟩;rw[List.map_append,List.map_singleton,<-HX.out];refine Iu ?_;rw[List.length_map];exact ho3
     case measure=>simp[intOf];omega
    .have HN:Hid (Ci s acc f (j+1)):=RD HW.out hlt hc;have hc':((s[j].toNat:Int)==32)=false:=by simpa using hc
     clear hc HW;go_wp2;go_roundw
     case rel=>exact⟨hb,j+1,f,acc,_,rfl,oM,oM,oM,gN,rfl,HO,HN⟩
     case measure=>simp[intOf];omega
   .have hjs:j=s.size:=oM;subst hjs;have HN:Hid (Ci s (acc++[((bs s).drop f).take (s.size-f)]) (s.size+1) (s.size+1)):=Mf HW.out;clear HW;go_wp2_with(first
     |(at_builtin;refine wpList_append_own_at _ rfl _ _ 52 rfl w.heap.size 9 i0 _ 1 16 underlying52 hi0 hz0 hz1 hz2 rfl dE ov acc.length (Jt (acc.map A6)) rfl (World.ownsRow.alloc Yn _) ⟨wr.heap.size,0,none⟩ 1 1 [.string X] rfl rfl (World.news_of_block (cs:=#[.string X]) (t:=9) (fr:=(0,0)) (heap_alloc_new wr _)) Ny mL oM sO ?_;intro v' w3 hown3 hgrow hnil hat;have HO3:Hid (w3.ownsRow w.heap.size 9 1 v' (acc.length+1) (Jt (acc.map A6)++[.string X])/\(wr.alloc (.cells #[.string X] 9)).grownBy w3 ov.ownBlock):=⟨hown3,hgrow⟩;clear hown3 hgrow hnil hat))
    go_roundw
    case rel=>
     obtain⟨ho3,hgrow⟩:=HO3.out;have hob:=HO.lt;refine⟨Below.grown (hb.alloc oM _) hgrow sO (fun q e=>(hob q e).1),s.size+1,s.size+1,acc++[((bs s).drop f).take (s.size-f)],_,rfl,oM,gF _,sO,gN,gN,?_,HN.out⟩;rw[List.map_append,List.map_singleton,<-HX.out];refine Iu ?_;rw[List.length_map];exact ho3
    case measure=>simp[intOf]
  .have hjs:j=s.size+1:=oM;have hfin:Aj [] (bs s)=acc:=by
    rcases HW.out with⟨h,_⟩|⟨_,h⟩
    .omega
    .exact h
   have i4:¬ ((j:Int)<=(s.size:Int)):=oM;have HF:Hid (Aj [] (bs s)=acc):=hfin;clear HW hfin;go_wp2;go_ret;exact⟨_,rfl,by rw[HF.out];exact HO.out,hb⟩
theorem Ji(c:UInt8)(r:Bs):FB (c::r)=if c=114 then Af r else none:=rfl
def TX(s:ByteArray)(w:World)(e:Ending)(w':World):Prop:=∃n b,e=.returned (.tuple #[.int .i64 n,.bool b])/\(b=true->FB (bs s)=some n)/\(b=false->FB (bs s)=none)/\Below w.heap.size w w'
theorem DU(s:ByteArray)(hs:s.size<=140737488355328)(w:World):Calls prog 39 #[.string s] w fun e w'=>TX s w e w':=by
 by_cases c0:s.size<2
 .have HT:Hid (FB (bs s)=none):=by
   show _=_;have hl:=A9 s
   match hb:bs s,hl with
   |[],_=>rfl
   |[b],_=>
    rw[Ji];split
    .rfl
    .rfl
   |b::c::t,hl=>simp at hl;omega
  have a1:(s.size:Int)<2:=oM;clear c0;exact Y0
 have a1:¬ (s.size:Int)<2:=oM;have h0:0<s.size:=oM;obtain⟨M,hM⟩:∃M,s.size=M+1:=⟨s.size-1,oM⟩
 obtain⟨c,r,hb,-,hr⟩:=Mo s M hM;have hc:s[0]=c:=by
  have h1:=D4 s 0 h0;rw[hb]at h1;simpa using h1.symm
 by_cases c1:c=114
 .have hcn:((s[0].toNat:Int)==114)=true:=by rw[hc,c1];rfl
  have hcq:((s[0].toNat:Int) != 114)=false:=by rw[hc,c1];rfl
  have HN:Hid (∀v,Calls prog 31 #[.string (s.extract 1 s.size)] v fun e w'=>KQ (s.extract 1 s.size) v e w'):=fun v=>Ct _ (by rw[<-A9,hM,hr];have:=congrArg List.length hb;rw[A9,List.length_cons]at this;omega) v;have HT:Hid (∀n,Af (bs (s.extract 1 s.size))=n->FB (bs s)=n):=fun n h=>by
   rw[hM,hr]at h;rw[hb];rw[Ji,if_pos c1];exact h
  have i1:(1:Int)<=(s.size:Int):=oM;clear c0 hb hr hc c1 hM;go_enter func39,ntmps39;go_wp2_with(go_at_call 31;(with_reducible refine(HN.out _).mono ?_);rintro e w1 ⟨n,b,rfl,h1,h2,h3⟩;have HZ:=A3 (And.intro h1 (And.intro h2 h3));clear h1 h2 h3);refine bodyPost_ret (by simp[results,results39,go_sem, *];try rfl) rfl ?_;exact⟨n,b,rfl,fun h=>HT.out _ (HZ.out.1 h),fun h=>HT.out _ (HZ.out.2.1 h),HZ.out.2.2⟩
 .have hcq:((s[0].toNat:Int)==114)=false:=by
   rw[beq_eq_false_iff_ne,hc];intro h;exact c1 (UInt8.toNat_inj.1 (by show c.toNat=114;omega))
  have hcn:((s[0].toNat:Int) != 114)=true:=by rw[bne,hcq];rfl
  have HT:Hid (FB (bs s)=none):=by
   show _=_;rw[hb];rw[Ji,if_neg c1]
  clear c0 hb hr hc c1 hM;exact Y0
def Dg(w:World)(g o:Nat)(ws:List Bs):Prop:=∀i (h:i<ws.length),w.cell? ⟨g,o+i,none⟩=some (.string (A6 ws[i]))
def RP(ws:List Bs)(w:World)(e:Ending)(w':World):Prop:=∃ (t:Ty) (k:Nat),e=.returned (.tuple #[.agg #[.int .i64 t.kind,.int .i64 t.par],.int .i64 (k:Int)])/\((k=0/\AY ws=none)\/(0<k/\k<=ws.length/\AY ws=some (t,ws.drop k)))/\Below w.heap.size w w'
theorem Eo(a:Bs)(r:List Bs):AY (a::r)=if a=Bp then some (⟨1,0⟩,r)else if a=BV then some (⟨2,0⟩,r)else if a=AW then Nw r else none:=rfl
theorem EK(g o cap:Nat)(a:Bs)(r:List Bs)(hl:(a::r).length<=100000000)(hs:∀x∈a::r,x.length<=100000000)(w:World)(h:Dg w g o (a::r)):Calls prog 34 #[.slice (some ⟨g,o,none⟩) (a::r).length cap] w fun e w'=>RP (a::r) w e w':=by
 obtain⟨N,hN⟩:=gA ((a::r).length)
 have hN0:0<N:=by rw[<-hN];simp
 rw[hN]at hl |-;by_cases n0:a=Bp
 .have ha:=n0;have HT:Hid (AY (a::r)=some (⟨1,0⟩,r)):=by show _=_;rw[Eo];rw[if_pos ha]
  have e0:((A6 a).toList==[110,117,109,98,101,114])=true:=by rw[ByteArray.toList_eq,ha];rfl
  clear ha n0;obtain⟨V,hV⟩:=gA (w.alloc (.cells #[.int .i64 0,.int .i64 0] 43))
  obtain⟨X,hXX⟩:=gA (w.heap.size)
  have hb0:Below w.heap.size w V:=by rw[<-hV];exact A2 _ _
  have hr:V.rowIs X 43 2 (g2 (.int .i64 0) (.int .i64 0)):=by rw[<-hV,<-hXX];exact BJ _ _ _ _
  have HB0:=A3 hb0;have HR:=A3 hr;have HXW:Hid (w.heap.size<=X):=by show _<=_;omega
  have x0:V.cell? ⟨X,0,none⟩=some (.int .i64 0):=hr.cell (i:=0) dE;have x1:V.cell? ⟨X,1,none⟩=some (.int .i64 0):=hr.cell (i:=1) dE;have f0:=hr.frozen 0;have f1:=hr.frozen 1;have y0:V.cell? ⟨g,o,none⟩=some (.string (A6 a)):=kc hb0 (h 0 sM);have i0:(0:Int)<(N:Int):=oM;clear hb0 hr h;go_enter func34,ntmps34;go_upto_region 1 with fail;try rw[hV]
  try rw[hXX]
  clear hV hXX;go_wp2;refine bodyPost_ret Wj rfl ?_;exact⟨⟨1,0⟩,1,rfl,.inr ⟨dE,sM,HT.out⟩,(HB0.setCell HXW.out _).setCell HXW.out _⟩
 by_cases n1:a=BV
 .have ha:=n1;have HT:Hid (AY (a::r)=some (⟨2,0⟩,r)):=by show _=_;rw[Eo];rw[if_neg n0,if_pos ha]
  have e0:((A6 a).toList==[110,117,109,98,101,114])=false:=by rw[ByteArray.toList_eq,beq_eq_false_iff_ne];intro h;exact n0 Pa
  have e1:((A6 a).toList==[119,104,111,108,101])=true:=by rw[ByteArray.toList_eq,ha];rfl
  clear ha n0 n1;obtain⟨V,hV⟩:=gA (w.alloc (.cells #[.int .i64 0,.int .i64 0] 43))
  obtain⟨X,hXX⟩:=gA (w.heap.size)
  have hb0:Below w.heap.size w V:=by rw[<-hV];exact A2 _ _
  have hr:V.rowIs X 43 2 (g2 (.int .i64 0) (.int .i64 0)):=by rw[<-hV,<-hXX];exact BJ _ _ _ _
  have HB0:=A3 hb0;have HR:=A3 hr;have HXW:Hid (w.heap.size<=X):=by show _<=_;omega
  have x0:V.cell? ⟨X,0,none⟩=some (.int .i64 0):=hr.cell (i:=0) dE;have x1:V.cell? ⟨X,1,none⟩=some (.int .i64 0):=hr.cell (i:=1) dE;have f0:=hr.frozen 0;have f1:=hr.frozen 1;have y0:V.cell? ⟨g,o,none⟩=some (.string (A6 a)):=kc hb0 (h 0 sM);have i0:(0:Int)<(N:Int):=oM;clear hb0 hr h;go_enter func34,ntmps34;go_upto_region 1 with fail;try rw[hV]
  try rw[hXX]
  clear hV hXX;go_wp2;refine bodyPost_ret Wj rfl ?_;exact⟨⟨2,0⟩,1,rfl,.inr ⟨dE,sM,HT.out⟩,(HB0.setCell HXW.out _).setCell HXW.out _⟩
 by_cases n2:a=AW
 .have ha:=n2;rcases r with _|⟨m,q⟩
  .skip
   have HT:Hid (AY [a]=none):=by show _=_;rw[Eo,if_neg n0,if_neg n1,if_pos ha];rfl
   have hN1:N=1:=by simpa using hN.symm
   subst hN1;have e0:((A6 a).toList==[110,117,109,98,101,114])=false:=by rw[ByteArray.toList_eq,beq_eq_false_iff_ne];intro h;exact n0 Pa
   have e1:((A6 a).toList==[119,104,111,108,101])=false:=by rw[ByteArray.toList_eq,beq_eq_false_iff_ne];intro h;exact n1 Pa
   have e2:((A6 a).toList==[118,101,99,116,111,114])=true:=by rw[ByteArray.toList_eq,ha];rfl
   clear ha n0 n1 n2;obtain⟨V,hV⟩:=gA (w.alloc (.cells #[.int .i64 0,.int .i64 0] 43))
   obtain⟨X,hXX⟩:=gA (w.heap.size)
   have hb0:Below w.heap.size w V:=by rw[<-hV];exact A2 _ _
   have hr:V.rowIs X 43 2 (g2 (.int .i64 0) (.int .i64 0)):=by rw[<-hV,<-hXX];exact BJ _ _ _ _
   have HB0:=A3 hb0;have HR:=A3 hr;have HXW:Hid (w.heap.size<=X):=by show _<=_;omega
   have x0:V.cell? ⟨X,0,none⟩=some (.int .i64 0):=hr.cell (i:=0) dE;have x1:V.cell? ⟨X,1,none⟩=some (.int .i64 0):=hr.cell (i:=1) dE;have f0:=hr.frozen 0;have f1:=hr.frozen 1;have y0:V.cell? ⟨g,o,none⟩=some (.string (A6 a)):=kc hb0 (h 0 sM);have i0:(0:Int)<((1:Nat):Int):=oM;clear hb0 hr h;go_enter func34,ntmps34;go_upto_region 1 with fail;try rw[hV]
   try rw[hXX]
   clear hV hXX;go_wp2;exact Y3
  .skip
   have hN2:1<N:=by rw[<-hN];simp
   have HT:Hid (AY (a::m::q)=(Af m).bind fun n=>some (⟨3,n⟩,q)):=by show _=_;rw[Eo,if_neg n0,if_neg n1,if_pos ha];rfl
   have HN:Hid (∀v,Calls prog 31 #[.string (A6 m)] v fun e w'=>KQ (A6 m) v e w'):=fun v=>Ct _ (by rw[BQ];have:=hs m sM;omega) v;have e0:((A6 a).toList==[110,117,109,98,101,114])=false:=by rw[ByteArray.toList_eq,beq_eq_false_iff_ne];intro h;exact n0 Pa
   have e1:((A6 a).toList==[119,104,111,108,101])=false:=by rw[ByteArray.toList_eq,beq_eq_false_iff_ne];intro h;exact n1 Pa
   have e2:((A6 a).toList==[118,101,99,116,111,114])=true:=by rw[ByteArray.toList_eq,ha];rfl
   clear ha n0 n1 n2;obtain⟨V,hV⟩:=gA (w.alloc (.cells #[.int .i64 0,.int .i64 0] 43))
   obtain⟨X,hXX⟩:=gA (w.heap.size)
   have hb0:Below w.heap.size w V:=by rw[<-hV];exact A2 _ _
   have hr:V.rowIs X 43 2 (g2 (.int .i64 0) (.int .i64 0)):=by rw[<-hV,<-hXX];exact BJ _ _ _ _
   have HB0:=A3 hb0;have HR:=A3 hr;have HXW:Hid (w.heap.size<=X):=by show _<=_;omega
   have x0:V.cell? ⟨X,0,none⟩=some (.int .i64 0):=hr.cell (i:=0) dE;have x1:V.cell? ⟨X,1,none⟩=some (.int .i64 0):=hr.cell (i:=1) dE;have f0:=hr.frozen 0;have f1:=hr.frozen 1;have y0:V.cell? ⟨g,o,none⟩=some (.string (A6 a)):=kc hb0 (h 0 sM);have i0:(0:Int)<(N:Int):=oM;have y1:V.cell? ⟨g,o+1,none⟩=some (.string (A6 m)):=kc hb0 (h 1 sM);have i1:(1:Int)<(N:Int):=oM;clear hb0 hr h;go_enter func34,ntmps34;go_upto_region 1 with fail;try rw[hV]
   try rw[hXX]
   clear hV hXX;go_upto_region 7 with(go_at_call 31;(with_reducible refine(HN.out _).mono ?_);rintro e w1 ⟨n,b,rfl,h1,h2,h3⟩;have HZ:=A3 (And.intro h1 (And.intro h2 h3));clear h1 h2 h3)
   have hr1:=HR.of_block (HZ.2.2.block _ HR.lt);clear x0 x1 f0 f1;have x0:w1.cell? ⟨X,0,none⟩=some (.int .i64 0):=hr1.cell (i:=0) dE;have x1:w1.cell? ⟨X,1,none⟩=some (.int .i64 0):=hr1.cell (i:=1) dE;have f0:=hr1.frozen 0;have f1:=hr1.frozen 1;have HB1:=A3 (bel HB0.out HZ.2.2);clear hr1 y0 y1;cases b with
   |true=>
    have hq:Af m=some n:=by have h9:=HZ.1 rfl;rwa[show bs (A6 m)=m from AZ m]at h9
    rw[hq]at HT;have HQ:=A3 hq;clear hq;go_wp2;refine bodyPost_ret Wj rfl ?_;exact⟨⟨3,n⟩,2,rfl,.inr ⟨dE,sM,by rw[HT.out];rfl⟩,(HB1.setCell HXW.out _).setCell HXW.out _⟩
   |false=>
    have hq:Af m=none:=by have h9:=HZ.2.1 rfl;rwa[show bs (A6 m)=m from AZ m]at h9
    rw[hq]at HT;clear hq;go_wp2;refine bodyPost_ret Wj rfl ?_;exact⟨⟨0,0⟩,0,rfl,.inl ⟨rfl,HT.out⟩,(HB1.setCell HXW.out _).setCell HXW.out _⟩
 have HT:Hid (AY (a::r)=none):=by show _=_;rw[Eo,if_neg n0,if_neg n1,if_neg n2]
 have e0:((A6 a).toList==[110,117,109,98,101,114])=false:=by rw[ByteArray.toList_eq,beq_eq_false_iff_ne];intro h;exact n0 Pa
 have e1:((A6 a).toList==[119,104,111,108,101])=false:=by rw[ByteArray.toList_eq,beq_eq_false_iff_ne];intro h;exact n1 Pa
 have e2:((A6 a).toList==[118,101,99,116,111,114])=false:=by rw[ByteArray.toList_eq,beq_eq_false_iff_ne];intro h;exact n2 Pa
 clear n0 n1 n2;obtain⟨V,hV⟩:=gA (w.alloc (.cells #[.int .i64 0,.int .i64 0] 43))
 obtain⟨X,hXX⟩:=gA (w.heap.size)
 have hb0:Below w.heap.size w V:=by rw[<-hV];exact A2 _ _
 have hr:V.rowIs X 43 2 (g2 (.int .i64 0) (.int .i64 0)):=by rw[<-hV,<-hXX];exact BJ _ _ _ _
 have HB0:=A3 hb0;have HR:=A3 hr;have HXW:Hid (w.heap.size<=X):=by show _<=_;omega
 have x0:V.cell? ⟨X,0,none⟩=some (.int .i64 0):=hr.cell (i:=0) dE;have x1:V.cell? ⟨X,1,none⟩=some (.int .i64 0):=hr.cell (i:=1) dE;have f0:=hr.frozen 0;have f1:=hr.frozen 1;have y0:V.cell? ⟨g,o,none⟩=some (.string (A6 a)):=kc hb0 (h 0 sM);have i0:(0:Int)<(N:Int):=oM;clear hb0 hr h;go_enter func34,ntmps34;go_upto_region 1 with fail;try rw[hV]
 try rw[hXX]
 clear hV hXX;go_wp2
 all_goals
  exact Y3
end Go.Proofs.YtjlpkjblkllfbaaGreatDoor
